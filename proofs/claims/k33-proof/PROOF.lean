import PyProof.Rows.All
import Wide.All
import OpenK.AllK
import Wide.FinOn
import Lean
import PyProof.EqAt
import PyProof.EqKinds
import PyProof.TupleCall
import KE.KSortKey
import PyProof.ListMulRoad
import PyProof.Draws
import PyProof.EnumMake
import PyProof.ListNew
import KE.KRevIter
import KE.KMinKey
import PyProof.TupleKey
import PySem.Challenge.RW_benchdays_k33_no_rule_words
set_option Elab.async false
set_option linter.all false
set_option maxRecDepth 100000
set_option compiler.extract_closed false
noncomputable section
open PySem.W(Frag mg_of fnOf Looks findIn keepIn OpenLaw nsIn codeIn mroIn)
set_option hygiene false in
local macro_rules | `(tactic| and_intros) => `(tactic| intro ρ σ H hd ls Q d hd' hR hL hm hQ)
open List(mem_cons mem_filter mem_append any_eq_false nodup_cons of_mem_zip length_drop flatten_cons nil_append mem_map all_eq_true mem_singleton mem_iff_getElem? cons_append nodup_append ext_getElem? map_take any_eq_true nodup_range set_cons_succ set_cons_zero sum_cons pairwise_append)
open Option(bind_some isSome_iff_exists isSome_map none_or getD_some)
open Nat(lt_trans not_lt)
def iS{α β:Type _}{o:Option α}{f:α->Option β}{b:β}(h:o.bind f=some b):∃a,o=some a/\f a=some b:=Option.bind_eq_some_iff.mp h
def iT{α β:Type _}{o:Option α}{f:α->β}{b:β}(h:o.map f=some b):∃a,o=some a/\f a=b:=Option.map_eq_some_iff.mp h
def ia:=@if_pos
def ic:=@PySem.wpAny_bind
def ie:=@if_neg
def ig:=@Nat.le_refl
def ik:=@PySem.wpAny_pure
def il:=@List.mem_cons_of_mem
def ip:=@List.size_toArray
def iq:=@List.map_cons
def ir:=@List.mem_cons_self
def iu:=@Nat.ne_of_lt
def iw:=@Nat.le_trans
def iy:=@if_true
def iU:=@List.mem_singleton
def iV:=@List.length_map
def iW:=@List.lookup_cons
def iX:=@PySem.wpAny_mono
def iY:=@List.mem_append_right
def iZ:=@Nat.lt_of_lt_of_le
def j3:=@List.map_map
def j4:=@Option.map_some
def j5:=@if_false
def j6:=@List.mem_of_getElem?
def j7:=@congrArg
def j8:=@List.length_cons
def j9:=@decide_eq_false
def ja:=@PySem.wpAny_holding
def jb:=@List.length_append
def jd:=@Nat.lt_irrefl
def je:=@List.append_nil
def jf:=@List.map_nil
def jg:=@List.find?_cons
def jh:=@List.mem_append_left
def ji:=@List.length_take
def jj:=@Nat.le_of_lt
def jk:=@Nat.zero_le
def jl:=@decide_eq_true
def jm:=@List.length_nil
def jo:=@Nat.le_succ
def jq:=@PySem.wpAny_call
def jr:=@PySem.wpAny_Call_Name_kw
def jt:=@PySem.typeIs_int
def ju:=@Int.toNat_natCast
def jv:=@PySem.wpAny_truthy_bool
def jw:=@PySem.wpAny_standAt
def jx:=@PySem.sizeLine_eq
def jy:=@PySem.codeAny_mono
def jA:=@List.filterMap_cons
def jB:=@List.any_cons
def jC:=@List.lookup_append
def jD:=@List.map_append
def jE:=@List.filter_cons
def jF:=@Nat.ne_of_gt
def jG:=@of_decide_eq_true
def jH:=@PySem.plainId_quiet
def jI:=@List.append_assoc
def jJ:=@List.length_filter_le
def jK:=@PySem.wpAny_newObj_type
def jL:=@decide_eq_true_eq
def jM:=@of_decide_eq_false
def jN:=@List.replicate_succ
def jO:=@List.take_of_length_le
def jP:=@PySem.wpAny_passesOwn
def jQ:=@PySem.call_meets
def jR:=@List.contains_cons
def jS:=@List.map_congr_left
def jT:=@PySem.wpAny_execs_nil
def jV:=@PySem.wpAny_field
def jW:=@PySem.wpAny_loadPart_at
def jX:=@PySem.codeAny_builtin
def jY:=@PySem.wpAny_eqBool_int
def jZ:=@PySem.wpAny_pyIter_list
def k4:=@decide_false
def k6:=@PySem.wpAny_execs_cons
def k8:=@PySem.richCompare_gives
def k9:=@decide_eq_false_iff_not
set_option compiler.extract_closed false
local macro_rules | `(tactic| omega) => `(tactic| first | lia | omega (config := {}))
namespace Ea
open PySem PySem.W
noncomputable def dA(s:Stmt):Arguments:=match s with
 |.FunctionDef _ a _ _ _ _ _ _ _ _=>a
 |_=>{ posonlyargs:=[],args:=[],vararg:=none,kwonlyargs:=[],kw_defaults:=[],kwarg:=none,defaults:=[] }
noncomputable def dB(s:Stmt):List Stmt:=match s with
 |.FunctionDef _ _ b _ _ _ _ _ _ _=>b
 |_=>[]
noncomputable def dS(s:Stmt):Scope:=match s with
 |.FunctionDef _ _ _ _ _ _ sc _ _ _=>sc
 |_=>{ kind:=.function,names:=[],isGenerator:=false,isCoroutine:=false }
noncomputable def tO(o:Obj):Option Addr:=match o.data with
 | .fields vs=>(match (vs[11]?:Option Value)with
  |some (Value.ref P)=>some P
  | _=>none)
 |_=>none
def At(K:Frag)(n:Str)(s:Stmt)(f:Addr)(cd:Value):Prop:=∃oc kV dc pm ct od an sl,nsIn K mainGlobals n=some (some (.ref f))/\K.lookup f=some ⟨oc,od,.func (fnOf n n (dA s) (dB s) (dS s) .none kV dc pm an cd ct),sl⟩/\codeIn K cd n=true/\keepIn K (.ref f)=true
def Fe(K:Frag)(n:Str)(s:Stmt):Prop:=∃f cd,At K n s f cd
def Fl(K:Frag)(n:Str)(s:Stmt)(p:Addr):Prop:=∃f ca ob,At K n s f (.ref ca)/\K.lookup ca=some ob/\tO ob=some p
section
variable{K:Frag}{kV:Value}
def feI(a:nsIn K mainGlobals n=some (some (.ref f)))(l:K.lookup f=some ⟨oc,od,.func (fnOf n n (dA s) (dB s) (dS s) .none kV dc pm an cd ct),sl⟩)(c:codeIn K cd n=true)(k:keepIn K (.ref f)=true):Fe K n s:=⟨f,cd,_,_,_,_,_,_,_,_,a,l,c,k⟩
def flI(a:nsIn K mainGlobals n=some (some (.ref f)))(l:K.lookup f=some ⟨oc,od,.func (fnOf n n (dA s) (dB s) (dS s) .none kV dc pm an cd ct),sl⟩)(c:codeIn K cd n=true)(k:keepIn K (.ref f)=true)(u:cd=.ref ca)(t:K.lookup ca=some ob)(v:tO ob=some p):Fl K n s p:=by
 subst u;exact⟨f,ca,ob,⟨_,_,_,_,_,_,_,_,a,l,c,k⟩,t,v⟩
end
noncomputable abbrev dR:List Str:=["list","tuple","len","range","repr","sum","min","max","abs","all","any","sorted","zip","isinstance","int","bool","str","set","enumerate","reversed","dict"]
def Zs(K:Frag):Prop:=∀n∈dR,nsIn K mainGlobals n=some none
def Zg(K:Frag)(l:List Str):Prop:=∀n∈l,nsIn K mainGlobals n=some none
def zs0{K:Frag}:Zg K []:=λ_ h=>nomatch h
def zs1{K:Frag}(h:nsIn K mainGlobals n=some none)(r:Zg K l):Zg K (n::l):=λm hm=>by
 rcases mem_cons.mp hm with rfl|hm
 .exact h
 .exact r m hm
end Ea
namespace L2
open PySem
noncomputable def fQ(nm:Str)(p:Addr×Obj):Bool:=match p.2.data with
 |.cls cd=>cd.name==nm
 |_=>false
def clsAt(K:Frag)(nm:Str):Option Addr:=(K.find? (fQ nm)).map (·.1)
end L2
namespace Ea
open PySem PySem.W
noncomputable def inC(s:Stmt):Stmt:=match s with
 |.ClassDef _ _ _ b _ _ _ _ _ _ _=>b.getD 0 (.Pass ⟨0,0,0,0⟩)
 |_=>.Pass ⟨0,0,0,0⟩
noncomputable def ovB:List Value->Bool
 |[]=>false
 | v::l=>decide (v::l=[.type "ValueError",.type "Exception",.type "BaseException",.type "object"])||(match v with
  |.ref _=>ovB l
  | _=>false)
def Ec(K:Frag)(nm:Str)(s:Stmt)(fs:List Str)(C:Addr):Prop:=∃(fI N:Addr) (nm' q:Str) (bs bm sub:List Value) (sn:List Str) (ab:Bool) (col:Option Bool) (dd od an:Option Addr) (k0 k1 k2 k3 k5:Option Value) (oc kV dc pm cd ct:Value) (sl:Array (Option Value)),
 nsIn K mainGlobals nm=some (some (.ref C))/\L2.clsAt K nm=some C/\K.lookup C=some (excClassObj nm' q C N bs bm true sn sub ab col dd k0 k1 k2 k3 k5 "ValueError.__new__")/\ovB bm=true/\findIn K (.ref C) "__init__"=some (some (.ref fI))/\isFn K (.ref fI)=true/\keepIn K (.ref C)=true /\
 findIn K (.ref C) "__setattr__"=some (some (.builtin "object.__setattr__"))/\findIn K (.ref C) "__getattribute__"=some (some (.builtin "BaseException.__getattribute__"))/\findIn K (.ref C) "__getattr__"=some none/\findIn K (.ref C) "__class__"=some (some (.builtin "object.__class__"))/\
 specialIn K (.builtin "object.__class__") "__get__"=some (some (.builtin "getset_descriptor.__get__"))/\takesIn K (.builtin "object.__class__")=some true/\mroIn K C (.type "object")=some true/\(∀f∈fs,findIn K (.ref C) f=some none)/\
 K.lookup fI=some ⟨oc,od,.func (fnOf "__init__" (nm++".__init__") (dA s) (dB s) (dS s) .none kV dc pm an cd ct),sl⟩/\codeIn K cd (nm++".__init__")=true/\keepIn K (.ref fI)=true
section
variable{K:Frag}{fs:List Str}{fI:Addr}{sub:List Value}{ab:Bool}{kV:Value}
def na0:∀f∈([]:List Str),findIn K (.ref C) f=some none:=λ_ h=>nomatch h
def na1(h:findIn K (.ref C) f=some none)(r:∀f∈fs,findIn K (.ref C) f=some none):∀g∈f::fs,findIn K (.ref C) g=some none:=λg hg=>by
 rcases mem_cons.mp hg with rfl|hg
 .exact h
 .exact r g hg
def ecI(a:nsIn K mainGlobals nm=some (some (.ref C)))(b:L2.clsAt K nm=some C)(c:K.lookup C=some (excClassObj nm' q C N bs bm true sn sub ab col dd k0 k1 k2 k3 k5 "ValueError.__new__"))(d:ovB bm=true)(e:findIn K (.ref C) "__init__"=some (some (.ref fI)))(f:isFn K (.ref fI)=true)(g:keepIn K (.ref C)=true)
 (h:findIn K (.ref C) "__setattr__"=some (some (.builtin "object.__setattr__"))) (i:findIn K (.ref C) "__getattribute__"=some (some (.builtin "BaseException.__getattribute__"))) (j:findIn K (.ref C) "__getattr__"=some none) (k:findIn K (.ref C) "__class__"=some (some (.builtin "object.__class__")))
 (l:specialIn K (.builtin "object.__class__") "__get__"=some (some (.builtin "getset_descriptor.__get__"))) (m:takesIn K (.builtin "object.__class__")=some true) (n:mroIn K C (.type "object")=some true) (o:∀f∈fs,findIn K (.ref C) f=some none)
 (p:K.lookup fI=some ⟨oc,od,.func (fnOf "__init__" (nm++".__init__") (dA s) (dB s) (dS s) .none kV dc pm an cd ct),sl⟩) (r:codeIn K cd (nm++".__init__")=true) (t:keepIn K (.ref fI)=true):Ec K nm s fs C:=
 ⟨fI,N,nm',q,bs,bm,sub,sn,ab,col,dd,od,an,k0,k1,k2,k3,k5,oc,kV,dc,pm,cd,ct,sl,a,b,c,d,e,f,g,h,i,j,k,l,m,n,o,p,r,t⟩
end
end Ea
namespace Hl
open PySem PySem.W PyProof.Rows
noncomputable def Pi(p:Program)(w:World)(m:Nat)(ann:Option Value):Nat->SharedT->Thread->Option SharedT
 |0,_,_=>none
 |n+1,s,t=>match through t with
  |true=>some s
  |false=>match stepOk m ann t with
   |false=>none
   |true=>match stepT (denote treeTable) p w s t with
    |some (s',t')=>Pi p w m ann n s' t'
    |none=>none
theorem Od{m:Nat}:∀{n:Nat} {s s':SharedT} {t:Thread},Pi p w m ann n s t=some s'->topRun treeTable p w m ann n s.abs t=some s'.abs
 |0,_,_,_,h=>by cases h
 |n+1,s,s',t,h=>by
  rw[Pi]at h;rw[topRun];cases h1:through t with
  |true=>rw[h1]at h;cases h;rfl
  |false=>
   rw[h1]at h;cases h2:stepOk m ann t with
   |false=>rw[h2]at h;cases h
   |true=>
    rw[h2]at h;cases h3:stepT (denote treeTable) p w s t with
    |none=>rw[h3]at h;cases h
    |some r=>obtain⟨s2,t2⟩:=r;rw[h3]at h;rw[stepT_spec h3];exact Od h
noncomputable def WU:Nat->List Obj->BT->BT
 |_,[],t=>t
 |n,o::r,t=>WU (n+1) r (t.ins n o)
noncomputable def bT(P:Params):BT:=WU 0 (boot_heap P).objs.toList .nil
def dQ(P:Params):absHeap (bT P) 11 (boot_heap P).life=boot_heap P:=by kernel_rfl
def gG(P:Params):((boot_heap P).isNs mainGlobals,(boot_heap P).nsMap mainGlobals "__annotations__")=(true,some (.ref 6)):=by kernel_rfl
variable{Xt:Shared->Bool}{α:Type}{Yf:Shared->α}{Ya:World->α}{N M:Nat}
def cg(p q:Program)(loose:List Str)(Xt:Shared->Bool)(Yf:Shared->α)(M:Nat)(w:World)(os:OsState):=
 match Pi p w 11 (some (.ref 6)) M ⟨bT w.params,11,(boot_heap w.params).life,Array.mk [],boot_drawn,boot_toks,os⟩ (topStub p)with
 | some s=>(match staticsOk (importedModules p.main.body) (boot_heap w.params) s.abs.heap&&namesBound p s.abs.heap&&gensDone s.abs&&laidKept (boot_heap w.params) s.abs.heap with
  |true=>some (openSeen q loose (importedModules p.main.body) Xt true s.abs,Yf s.abs)
  | false=>none)
 |none=>none
def left(e:opening p=plainProg p.main.scope.names)(f:∀s,fenceModules? p s=some s)(hN:Nat.ble 600 N=true)(hM:Nat.ble M N=true)(h:∀w os,cg p q loose Xt Yf M w os=some (openGood q loose,Ya w)):LeftO p q loose Xt Yf Ya N:=λw=>by
 obtain⟨⟨hp,gs,d,k,os⟩,e1,e2⟩:=iT (boot_open e hN f w);simp only[Prod.mk.injEq]at e2;obtain⟨rfl,rfl,rfl,rfl⟩:=e2;have hl:=h w os;unfold cg at hl;split at hl
 .next s hs=>
  have r:=topRun_mono (N-M) _ _ _ _ (Od hs);rw[show M+(N-M)=N by have:=Nat.le_of_ble_eq_true hM;omega]at r;have ea:(SharedT.mk (bT w.params) 11 (boot_heap w.params).life (Array.mk []) boot_drawn boot_toks os).abs=⟨boot_heap w.params,Array.mk [],boot_drawn,boot_toks,os⟩:=by
   show Shared.mk (absHeap (bT w.params) 11 (boot_heap w.params).life) _ _ _ _=_;rw[dQ]
  rw[ea]at r;obtain⟨z1,z2⟩:=Prod.mk.inj (gG w.params);have z3:(boot_heap w.params).objs.size=11:=rfl;split at hl
  .next c=>
   show((fencedOpening treeTable p w N).bind (topFrom treeTable p w N)).map _=_;rw[e1,bind_some];have t:topFrom treeTable p w N ⟨boot_heap w.params,Array.mk [],boot_drawn,boot_toks,os⟩=some s.abs:=by
    unfold topFrom;dsimp only;rw[z1,z2,z3,r];show(match staticsOk (importedModules p.main.body) (boot_heap w.params) s.abs.heap&&namesBound p s.abs.heap&&gensDone s.abs&&laidKept (boot_heap w.params) s.abs.heap with|true=>some s.abs|false=>none)=_;rw[c]
   rw[t];exact hl
  .cases hl
 .cases hl
end Hl
namespace T33
open PySem PySem.W PyProof.Rows Ea
noncomputable def top(i:Nat):Stmt:=PySem.Challenge.pw_benchdays_k33_no_rule_words.main.body.getD i (.Pass ⟨0,0,0,0⟩)
def vw:PySem.Program:={ PySem.Challenge.pw_benchdays_k33_no_rule_words with main:={ PySem.Challenge.pw_benchdays_k33_no_rule_words.main with body:=[1,2,4,5,6,7,8,9,10,11,12,14,15,17,18,19,21,22,23,24,26,28,29,30,31,32,33,34,36,38,39,40,41,42,43,44,45,46,47,48].map top } }
def Rb(K:Frag):Prop:=Zs K/\Fe K "law" (top 48)/\Fe K "_law_feed" (top 38)/\Fe K "_law_next" (top 39)/\Fe K "_law_cost" (top 40)/\Fe K "_law_works" (top 41)/\Fe K "_law_wishes" (top 42)/\Fe K "raised" (top 1)/\Fe K "heads" (top 2)/\Fe K "refuse_other_costs" (top 24)/\Fe K "turned_dues" (top 31)/\Fe K "add_piece" (top 32)/\Fe K "_law_is_int" (top 43)/\Fe K "_law_ends" (top 44)/\Fe K "_law_class" (top 45)/\Fe K "_law_plan_told" (top 46)/\Fe K "length_of" (top 21)/\Fe K "same_coming" (top 22)/\Fe K "one_coming" (top 23)/\Fe K "steps_at" (top 14)/\Fe K "cost_at" (top 15)/\Fe K "reached" (top 17)/\Fe K "behind" (top 18)/\Fe K "last_ones" (top 19)/\Fe K "without" (top 29)/\Fe K "bound_of" (top 26)/\Fe K "greatest_order" (top 36)/\Fe K "_law_order_told" (top 47)/\∃p11 p12 p25 p28 cc0 cc1 cc2 cc3 cc4 cc5 cc6 cc7 cc8,Fl K "ranked_plan" (top 33) p11/\Fl K "due_plan" (top 34) p12/\Fl K "cheapest_last" (top 28) p25/\Fl K "greatest_bound" (top 30) p28/\([p11,p12,p25,p28]:List Addr).Nodup/\Ec K "NoRule" (inC (top 6)) ["word"] cc0/\nsIn K mainGlobals "NoRule"=some (some (.ref cc0))/\nsIn K mainGlobals "BenchError"=some (some (.ref cc1))/\nsIn K mainGlobals "NoBack"=some (some (.ref cc2))/\nsIn K mainGlobals "NoPaper"=some (some (.ref cc3))/\nsIn K mainGlobals "NoRow"=some (some (.ref cc4))/\nsIn K mainGlobals "NoText"=some (some (.ref cc5))/\nsIn K mainGlobals "NoWish"=some (some (.ref cc6))/\nsIn K mainGlobals "NoWork"=some (some (.ref cc7))/\nsIn K mainGlobals "TooMany"=some (some (.ref cc8))/\exmOne K (.ref cc0) (.ref cc1)=some true/\kitAny K (.ref cc0) ([cc2,cc3,cc4,cc5,cc6,cc7,cc8].map Value.ref)=some false/\nsIn K mainGlobals "ValueError"=some none/\kitOne K (.ref cc0) (.type "ValueError")=some true/\kitOne K (.ref cc0) (.ref cc0)=some true
def fu{K:Frag}{p11 p12 p25 p28 cc0 cc1 cc2 cc3 cc4 cc5 cc6 cc7 cc8:Addr}(z:Zs K)(h0:Fe K "law" (top 48))(h1:Fe K "_law_feed" (top 38))(h2:Fe K "_law_next" (top 39))(h3:Fe K "_law_cost" (top 40))(h4:Fe K "_law_works" (top 41))(h5:Fe K "_law_wishes" (top 42))(h6:Fe K "raised" (top 1))(h7:Fe K "heads" (top 2))(h8:Fe K "refuse_other_costs" (top 24))(h9:Fe K "turned_dues" (top 31))(h10:Fe K "add_piece" (top 32))(h13:Fe K "_law_is_int" (top 43))(h14:Fe K "_law_ends" (top 44))(h15:Fe K "_law_class" (top 45))(h16:Fe K "_law_plan_told" (top 46))(h17:Fe K "length_of" (top 21))(h18:Fe K "same_coming" (top 22))(h19:Fe K "one_coming" (top 23))(h20:Fe K "steps_at" (top 14))(h21:Fe K "cost_at" (top 15))(h22:Fe K "reached" (top 17))(h23:Fe K "behind" (top 18))(h24:Fe K "last_ones" (top 19))(h26:Fe K "without" (top 29))(h27:Fe K "bound_of" (top 26))(h29:Fe K "greatest_order" (top 36))(h30:Fe K "_law_order_told" (top 47))(h11:Fl K "ranked_plan" (top 33) p11)(h12:Fl K "due_plan" (top 34) p12)(h25:Fl K "cheapest_last" (top 28) p25)(h28:Fl K "greatest_bound" (top 30) p28)(tn:([p11,p12,p25,p28]:List Addr).Nodup)(ec_NoRule:Ec K "NoRule" (inC (top 6)) ["word"] cc0)(ns_NoRule:nsIn K mainGlobals "NoRule"=some (some (.ref cc0)))(ns_BenchError:nsIn K mainGlobals "BenchError"=some (some (.ref cc1)))(ns_NoBack:nsIn K mainGlobals "NoBack"=some (some (.ref cc2)))(ns_NoPaper:nsIn K mainGlobals "NoPaper"=some (some (.ref cc3)))(ns_NoRow:nsIn K mainGlobals "NoRow"=some (some (.ref cc4)))(ns_NoText:nsIn K mainGlobals "NoText"=some (some (.ref cc5)))(ns_NoWish:nsIn K mainGlobals "NoWish"=some (some (.ref cc6)))(ns_NoWork:nsIn K mainGlobals "NoWork"=some (some (.ref cc7)))(ns_TooMany:nsIn K mainGlobals "TooMany"=some (some (.ref cc8)))(kt0:exmOne K (.ref cc0) (.ref cc1)=some true)(kt1:kitAny K (.ref cc0) ([cc2,cc3,cc4,cc5,cc6,cc7,cc8].map Value.ref)=some false)(kt2:nsIn K mainGlobals "ValueError"=some none)(kt3:kitOne K (.ref cc0) (.type "ValueError")=some true)(kt4:kitOne K (.ref cc0) (.ref cc0)=some true):Rb K:=⟨z,h0,h1,h2,h3,h4,h5,h6,h7,h8,h9,h10,h13,h14,h15,h16,h17,h18,h19,h20,h21,h22,h23,h24,h26,h27,h29,h30,_,_,_,_,_,_,_,_,_,_,_,_,_,h11,h12,h25,h28,tn,ec_NoRule,ns_NoRule,ns_BenchError,ns_NoBack,ns_NoPaper,ns_NoRow,ns_NoText,ns_NoWish,ns_NoWork,ns_TooMany,kt0,kt1,kt2,kt3,kt4⟩
local macro_rules | `(tactic| o_head $H) => `(tactic| (refine holds_open (r := PySem.Challenge.rw_benchdays_k33_no_rule_words.row) (q := T33.vw) (loose := []) (Xt := λ s => xlAt T33.vw [] s && recOk (RowW.records (OpenRow.toRowW PySem.Challenge.rw_benchdays_k33_no_rule_words.row)) s) (XP := XL T33.vw []) (Yf := Hook.obs $H) (Ya := Hook.val $H) (YP := Hook.says $H) (N := 100000) ?hl (Hook.of $H) (Hook.keeps $H) (λ s e => xl_of s (Bool.and_eq_true_iff.mp e).1) XL.keeps (by rfl) (by rfl) (by rfl) (λ s e => recFacts_of (Bool.and_eq_true_iff.mp e).2) (by rfl) (by first | assumption | decide +kernel) (by decide +kernel) ⟨rfl, rfl, rfl, rfl, rfl, by decide +kernel⟩ ?hw ?hc; (case hl => exact Hl.left (M := 10000) (by rfl) (λ s => by rfl) (by decide) (by decide) λ w os => by kernel_rfl)))
set_option maxRecDepth 100000 in
set_option maxHeartbeats 0 in
def early(hG:∀(K:Params->Frag),(∀w:World,Rb (K w.params))->∀d:DefRec,d.name="law"->d.params.defaults=[]->WalkO T33.vw [] (XL T33.vw []) (λw h=>(K w.params).In h) PySem.Challenge.rw_benchdays_k33_no_rule_words.row.toRowW d [] (λf vs=>PySem.call f vs)):PySem.Challenge.rw_benchdays_k33_no_rule_words.Holds:=by
 w_on;o_law;k_head;(case hw=>w_witness2)
 k_fill
 refine λw s₀ s₁ mg mb G Y=>hG _ ?F _ rfl rfl w s₀ s₁ mg mb G (km_in_of Y)
 case F=>
  intro w;refine' fu ?z ?h0 ?h1 ?h2 ?h3 ?h4 ?h5 ?h6 ?h7 ?h8 ?h9 ?h10 ?h13 ?h14 ?h15 ?h16 ?h17 ?h18 ?h19 ?h20 ?h21 ?h22 ?h23 ?h24 ?h26 ?h27 ?h29 ?h30 ?h11 ?h12 ?h25 ?h28 ?tn ?ec_NoRule ?ns_NoRule ?ns_BenchError ?ns_NoBack ?ns_NoPaper ?ns_NoRow ?ns_NoText ?ns_NoWish ?ns_NoWork ?ns_TooMany ?kt0 ?kt1 ?kt2 ?kt3 ?kt4
  case z=>(refine' zs1 _ (zs1 _ (zs1 _ (zs1 _ (zs1 _ (zs1 _ (zs1 _ (zs1 _ (zs1 _ (zs1 _ (zs1 _ (zs1 _ (zs1 _ (zs1 _ (zs1 _ (zs1 _ (zs1 _ (zs1 _ (zs1 _ (zs1 _ (zs1 _ (zs0)))))))))))))))))))))<;>k_is)
  case h0|h1|h2|h3|h4|h5|h6|h7|h8|h9|h10|h13|h14|h15|h16|h17|h18|h19|h20|h21|h22|h23|h24|h26|h27|h29|h30=>(refine' feI ?a ?l ?c ?k;case a|l|c|k=>k_is)
  case h11|h12|h25|h28=>(refine' flI ?a ?l ?c ?k ?u ?t ?v;(case a|l|c|k=>k_is);(case u=>rfl);(case t=>k_is);(case v=>rfl))
  case tn=>decide
  case ec_NoRule=>(refine' ecI ?a ?b ?c ?d ?e ?f ?g ?h ?i ?j ?k ?l ?m ?n (na1 ?o0 (na0)) ?p ?r ?t;(case a=>k_is);(case c=>k_is);(case d=>decide);(case e=>k_is);(case p=>k_is);(case b=>kernel_rfl);(case f|g|h|i|j|k|l|m|n|o0|r|t=>k_is))
  case ns_NoRule|ns_BenchError|ns_NoBack|ns_NoPaper|ns_NoRow|ns_NoText|ns_NoWish|ns_NoWork|ns_TooMany|kt0|kt1|kt2|kt3|kt4=>first|k_is|kernel_rfl
end T33
set_option hygiene false in
local macro_rules|`(49)=>`(s.heap.objs.size)|`(50)=>`(by omega)|`(51)=>`(ws.length)|`(53)=>`(Heap.get?_push_of_some)|`(54)=>`(model X.prog X.w)|`(55)=>`(by simp)|`(57)=>`(List.range)|`(58)=>`(Heap.lt_size)|`(102)=>`(List.getElem?_eq_some_iff.mp)|`(103)=>`(model prog w)|`(104)=>`(ds.length)|`(105)=>`(xs.length)|`(106)=>`(x1.trans R1 x2)|`(107)=>`(by decide)|`(108)=>`(List.replicate)|`(109)=>`((false,eval e X.env))|`(110)=>`(Bool.false_ne_true)|`(111)=>`(Option.some.inj)|`(112)=>`(by simp;omega)|`(114)=>`(hh.objs.size)|`(115)=>`(Heap.get?_push_size)|`(116)=>`(scope.names)
namespace L2
open PySem PySem.Spec PyProof.Rows
noncomputable abbrev Key:=Sum Int Str
noncomputable def IC:Key->Value->Bool
 |.inl k,v=>Value.isInt k v
 |.inr x,v=>Value.isStrOf x v
noncomputable def fq(w:World):Key->Int
 |.inl k=>hashInt k
 |.inr x=>hashStr w x
def BK:∀{k:Key} {v:Value},IC k v=true->(∃i t,k=Sum.inl i/\v=Value.int i t)∨(∃x t,k=Sum.inr x/\v=Value.str x t)
 |.inl i,v,h=>by
  obtain⟨t,e⟩:=Value.isInt_shape (k:=i) (v:=v) h;exact .inl ⟨i,t,rfl,e⟩
 |.inr x,v,h=>by
  obtain⟨t,e⟩:=Value.isStrOf_shape (x:=x) (v:=v) h;exact .inr ⟨x,t,rfl,e⟩
def T4(i:Int)(t:Tok):IC (.inl i) (.int i t)=true:=by simp[IC,Value.isInt]
def T3(x:Str)(t:Tok):IC (.inr x) (.str x t)=true:=by simp[IC,Value.isStrOf]
def cr(a b:Int):decide ((Sum.inl a:Key)=Sum.inl b)=(a==b):=by
 by_cases e:a=b
 .subst e;simp
 .have h:¬ (Sum.inl a:Key)=Sum.inl b:=λq=>e (Sum.inl.inj q);rw[j9 h];exact(beq_eq_false_iff_ne.mpr e).symm
def ck(a b:Str):decide ((Sum.inr a:Key)=Sum.inr b)=decide (a=b):=by
 by_cases e:a=b
 .subst e;simp
 .have h:¬ (Sum.inr a:Key)=Sum.inr b:=λq=>e (Sum.inr.inj q);rw[j9 h,j9 e]
def cq(a:Int)(b:Str):decide ((Sum.inl a:Key)=Sum.inr b)=false:=j9 (λq=>nomatch q)
def cm(a:Str)(b:Int):decide ((Sum.inr a:Key)=Sum.inl b)=false:=j9 (λq=>nomatch q)
noncomputable def BL(prog:Program)(w:World):PySem.KeyKind prog w Key where
 is:=IC
 hash:=fq w
 inj:=λv a b ha hb=>by
  rcases BK ha with⟨i,t,rfl,rfl⟩|⟨x,t,rfl,rfl⟩
  .rcases BK hb with⟨j,u,rfl,e⟩|⟨y,u,rfl,e⟩
   .injection e with e1 _;rw[e1]
   .exact nomatch e
  .rcases BK hb with⟨j,u,rfl,e⟩|⟨y,u,rfl,e⟩
   .exact nomatch e
   .injection e with e1 _;rw[e1]
 byValue:=λk v h=>by
  rcases BK h with⟨i,t,rfl,rfl⟩|⟨x,t,rfl,rfl⟩<;>rfl
 pyHash:=λhv h=>by
  rcases BK hv with⟨i,t,rfl,rfl⟩|⟨x,t,rfl,rfl⟩
  .exact wpAny_pyHash_int h
  .exact wpAny_pyHash_str h
 eqBool:=λhu hv h=>by
  rcases BK hu with⟨i,t,rfl,rfl⟩|⟨x,t,rfl,rfl⟩
  .rcases BK hv with⟨j,u,rfl,rfl⟩|⟨y,u,rfl,rfl⟩
   .rw[cr]at h;exact jY h
   .rw[cq]at h;exact SeqAt.EqAt.int_str i t y u _ _ _ _ h
  .rcases BK hv with⟨j,u,rfl,rfl⟩|⟨y,u,rfl,rfl⟩
   .rw[cm]at h;exact SeqAt.EqAt.str_int x t j u _ _ _ _ h
   .rw[ck]at h;exact wpAny_eqBool_str h
 «strs»:=λk x t v h=>by
  rcases BK h with⟨i,u,rfl,e⟩|⟨y,u,rfl,e⟩
  .exact nomatch e
  .injection e with e1 _
   subst e1;cases v<;>rfl
def OL(prog:Program)(w:World)(i:Int)(t:Tok):(BL prog w).is (.inl i) (.int i t)=true:=T4 i t
def OK(prog:Program)(w:World)(x:Str)(t:Tok):(BL prog w).is (.inr x) (.str x t)=true:=T3 x t
inductive V where
 |non|bl (b:Bool)|int (i:Int)|str (x:Str)|byt (b:Array UInt8)|flt (b:UInt64)|ref (a:Addr)|ty (n:String)
 deriving DecidableEq
def RelV:V->Value->Prop
 |.non,u=>u=Value.none
 |.bl b,u=>u=Value.bool b
 |.int i,u=>∃t,u=Value.int i t
 |.str x,u=>∃t,u=Value.str x t
 |.byt b,u=>∃t,u=Value.bytes b t
 |.flt b,u=>∃t,u=Value.float b t
 |.ref a,u=>u=Value.ref a
 |.ty n,u=>u=Value.type n
abbrev Vals:List V->List Value->Prop:=Paired RelV
theorem Vals.length{xs:List V}{us:List Value}(r:Vals xs us):105=us.length:=Paired.length r
theorem Vals.get:∀{xs:List V} {us:List Value} {i:Nat} {x:V},Vals xs us->xs[i]?=some x->∃u,us[i]?=some u/\RelV x u
 |_,_,_,_,.nil,e=>by simp at e
 |_,_,0,_,.cons r _,e=>by simp at e;subst e;exact⟨_,rfl,r⟩
 |_,_,i+1,x,.cons _ t,e=>by
  obtain⟨u,h1,h2⟩:=Vals.get (i:=i) (x:=x) t (by simpa using e);exact⟨u,by simpa using h1,h2⟩
theorem Vals.set{x:V}{u:Value}(r:RelV x u):∀{xs:List V} {us:List Value} (i:Nat),Vals xs us->Vals (xs.set i x) (us.set i u)
 |_,_,_,.nil=>.nil
 |_,_,0,.cons _ t=>.cons r t
 |_,_,i+1,.cons q t=>.cons q (Vals.set r i t)
theorem Vals.append:∀{xs ys:List V} {us ws:List Value},Vals xs us->Vals ys ws->Vals (xs++ys) (us++ws)
 |_,_,_,_,.nil,s=>s
 |_,_,_,_,.cons r t,s=>.cons r (Vals.append t s)
theorem Vals.take:∀{xs:List V} {us:List Value} (n:Nat),Vals xs us->Vals (xs.take n) (us.take n)
 |_,_,0,_=>.nil
 |_,_,_+1,.nil=>.nil
 |_,_,n+1,.cons r t=>.cons r (Vals.take n t)
theorem Vals.drop:∀{xs:List V} {us:List Value} (n:Nat),Vals xs us->Vals (xs.drop n) (us.drop n)
 |_,_,0,r=>r
 |_,_,_+1,.nil=>.nil
 |_,_,n+1,.cons _ t=>Vals.drop n t
def RelO:Option V->Option Value->Prop
 |some v,some u=>RelV v u
 |none,none=>True
 |_,_=>False
def KV{κ:Type}:List (κ×V)->List (κ×Value)->Prop:=Paired λ(p:κ×V) (q:κ×Value)=>p.1=q.1/\RelV p.2 q.2
noncomputable def kV:Key->V
 |.inl i=>.int i
 |.inr x=>.str x
inductive HO where
 /-- a list -/
 |lst (xs:List V)
 /-- a tuple (never changes) -/
 |tup (xs:List V)
 /-- a dict whose keys are ints and texts;one whose keys are tuples of ints and texts (the empty one is both) -/
 |dK (kvs:List (Key×V))|dT (kvs:List (List Key×V))
 /-- a set of ints: its members,its size -/
 |set (S:Int->Bool) (n:Nat)
 /-- an instance of the class at C,its dict at dx,its attributes -/
 |ins (C dx:Addr) (fs:List (Str×V))
 /-- the dict of the instance at x -/
 |own (x:Addr)
 /-- the dict of an exception -/
 |xd (fs:List (Str×V))
 /-- a bound method,f of x -/
 |met (f x:Addr)
 /-- a range object lo,lo+1,.. below hi -/
 |rng (lo hi:Int)
 /-- a thing that is known to the object (the script;a dict while a loop walks it): read,never written while it is so -/
 |frz (o:Obj) (u:HO)
 /-- a code object's table -/
 |tbl (ps:Array Value)
 /-- any other thing,by what is true of its one object (a def of one's own: SetO a S n:=HO.ext λh=>..) -/
 |ext (φ:Heap->Prop)
noncomputable abbrev Hp:=Addr->Option HO
noncomputable def upd(H:Hp)(a:Addr)(o:HO):Hp:=λb=>if b=a then some o else H b
def AF{H:Hp}{a:Addr}{o:HO}:upd H a o a=some o:=by unfold upd;rw[ia rfl]
def upd_ne{H:Hp}{a b:Addr}{o:HO}(h:b≠a):upd H a o b=H b:=by unfold upd;rw[ie h]
def f7{H:Hp}{a b:Addr}{o u:HO}(h:H a=some o)(h':H b=some u)(d:o≠u):a≠b:=by
 intro e;subst e;rw[h]at h';exact d (111 h')
def AJ{H:Hp}{a b:Addr}{o:HO}(h:H a=some o)(h':H b=none):a≠b:=by
 intro e;subst e;rw[h]at h';cases h'
def IsTupD(h:Heap)(a:Addr)(items:Array Value):Prop:=∃o,h.get? a=some o/\o.cls=.type "tuple"/\(∃n,o.data=.seq items n)/\o.dict=none
def IsTupD.t{h:Heap}{a:Addr}{items:Array Value}(x:IsTupD h a items):IsTup h a items:=let ⟨o,e,c,d,_⟩:=x;⟨o,e,c,d⟩
def IsTupD.new(h:Heap)(items:Array Value):IsTupD (h.push { cls:=.type "tuple",data:=.seq items }) h.objs.size items:=⟨_,115 _ rfl,rfl,⟨_,rfl⟩,rfl⟩
section
variable(P:Program)(w:World)
noncomputable def ObjOk(H:Hp)(h:Heap)(a:Addr):HO->Prop
 |.lst xs=>105<=sizeLine/\∃(its:List Value) (n:Nat),Vals xs its/\h.get? a=some { cls:=.type "list",data:=.seq its.toArray n }
 |.tup xs=>105<=sizeLine/\∃its:List Value,Vals xs its/\IsTupD h a its.toArray
 |.dK kvs=>kvs.length<=sizeLine/\(a==sysModules)=false/\∃vs,KV kvs vs/\h.DictOf (BL P w) a vs
 |.dT kvs=>kvs.length<=sizeLine/\(a==sysModules)=false/\∃xs:List (List Key×Addr×Value),
  Paired (λ(p:List Key×V) (q:List Key×Addr×Value)=>p.1=q.1/\H q.2.1=some (.tup (p.1.map kV))/\RelV p.2 q.2.2) kvs xs /\
  ∃o es ep,h.get? a=some o/\o.ExactDict/\o.data=.dict es ep/\es.toList=xs.map (entryOfKey (tupleKind (BL P w)))/\(xs.map (·.1)).Nodup
 |.set S n=>h.SetOf (intKind P w) a S n
 |.ins C dx fs=>H dx=some (.own a)/\fs.length<=1000/\dx≠a/\h.get? a=some (PySem.W.instObj C dx)/\
  ∃mA,h.Ns1 dx mA/\(∀f,RelO (fs.lookup f) (mA f))/\PySem.Within mA (fs.map (·.1))
 |.own _=>∃o,h.get? a=some o
 |.xd fs=>∃mA,h.Ns1 a mA/\∀f,RelO (fs.lookup f) (mA f)
 |.rng lo hi=>∃t u v,h.get? a=some { cls:=.type "range",data:=.fields #[.int lo t,.int hi u,.int 1 v] }
 |.frz o u=>h.get? a=some o/\ObjOk H h a u
 |.tbl ps=>h.get? a=some { cls:=.none,data:=.fields ps }
 |.met f x=>h.get? a=some (PySem.W.methodObj (.ref f) (.ref x))
 |.ext φ=>φ h/\(∃o,h.get? a=some o)/\∀h1 h2:Heap,φ h1->(∀o,h1.get? a=some o->h2.get? a=some o)->φ h2
def HOk(H:Hp)(h:Heap):Prop:=∀a o,H a=some o->ObjOk P w H h a o
end
section
variable{P:Program}{w:World}{H H':Hp}{h h':Heap}{a:Addr}{o:HO}
def ObjOk.lt(x:ObjOk P w H h a o):a<h.objs.size:=by
 cases o with
 |lst xs=>obtain⟨_,_,_,_,e⟩:=x;exact 58 e
 |tup xs=>obtain⟨_,_,_,o,e,_⟩:=x;exact 58 e
 |dK kvs=>obtain⟨_,_,_,_,o,_,_,e,_⟩:=x;exact 58 e
 |dT kvs=>obtain⟨_,_,_,_,o,_,_,e,_⟩:=x;exact 58 e
 |set S n=>obtain⟨o,_,_,_,e,_⟩:=x;exact 58 e
 |ins C dx fs=>obtain⟨_,_,_,e,_⟩:=x;exact 58 e
 |own y=>obtain⟨_,e⟩:=x;exact 58 e
 |xd fs=>obtain⟨_,⟨_,_,_,e,_⟩,_⟩:=x;exact 58 e
 |rng lo hi=>obtain⟨_,_,_,e⟩:=x;exact 58 e
 |frz ob u=>obtain⟨e,_⟩:=x;exact 58 e
 |tbl ps=>exact 58 (show h.get? a=some _ from x)
 |met f y=>exact 58 (show h.get? a=some _ from x)
 |ext φ=>obtain⟨_,⟨_,e⟩,_⟩:=x;exact 58 e
theorem Paired.mapP{α β:Type}{F G:α->β->Prop}:∀{l₁:List α} {l₂:List β},Paired F l₁ l₂->(∀a b,F a b->G a b)->Paired G l₁ l₂
 |_,_,.nil,_=>.nil
 |_,_,.cons r t,f=>.cons (f _ _ r) (Paired.mapP t f)
def ObjOk.stay(x:ObjOk P w H h a o)(k:∀b u,(b=a∨H b=some (.own a))->h.get? b=some u->h'.get? b=some u)
 (ho:∀b,H b=some (.own a)->H' b=some (.own a)) (ht:∀b xs,H b=some (.tup xs)->H' b=some (.tup xs)):ObjOk P w H' h' a o:=by
 induction o with
 |lst xs=>obtain⟨z,its,n,r,e⟩:=x;exact⟨z,its,n,r,k _ _ (.inl rfl) e⟩
 |tup xs=>obtain⟨z,its,r,ob,e,c⟩:=x;exact⟨z,its,r,ob,k _ _ (.inl rfl) e,c⟩
 |dK kvs=>obtain⟨z,y,vs,r,ob,es,ep,e,c⟩:=x;exact⟨z,y,vs,r,ob,es,ep,k _ _ (.inl rfl) e,c⟩
 |dT kvs=>
  obtain⟨z,y,xs,r,ob,es,ep,e,c⟩:=x;exact⟨z,y,xs,Paired.mapP r λp q z=>⟨z.1,ht _ _ z.2.1,z.2.2⟩,ob,es,ep,k _ _ (.inl rfl) e,c⟩
 |set S n=>obtain⟨ob,es,ep,t,e,c⟩:=x;exact⟨ob,es,ep,t,k _ _ (.inl rfl) e,c⟩
 |ins C dx fs=>
  obtain⟨d,z,ne,e,mA,⟨od,es,ep,e2,c⟩,r⟩:=x;exact⟨ho _ d,z,ne,k _ _ (.inl rfl) e,mA,⟨od,es,ep,k _ _ (.inr d) e2,c⟩,r⟩
 |own y=>obtain⟨ob,e⟩:=x;exact⟨ob,k _ _ (.inl rfl) e⟩
 |xd fs=>obtain⟨mA,⟨od,es,ep,e,c⟩,r⟩:=x;exact⟨mA,⟨od,es,ep,k _ _ (.inl rfl) e,c⟩,r⟩
 |rng lo hi=>obtain⟨t,u,v,e⟩:=x;exact⟨t,u,v,k _ _ (.inl rfl) e⟩
 |frz ob u ih=>obtain⟨e,q⟩:=x;exact⟨k _ _ (.inl rfl) e,ih q⟩
 |tbl ps=>
  have e:h.get? a=some { cls:=.none,data:=.fields ps }:=x;show h'.get? a=some { cls:=.none,data:=.fields ps };exact k a _ (.inl rfl) e
 |met f y=>
  have e:h.get? a=some (PySem.W.methodObj (.ref f) (.ref y)):=x;show h'.get? a=some (PySem.W.methodObj (.ref f) (.ref y));exact k a _ (.inl rfl) e
 |ext φ=>obtain⟨p,⟨o,e⟩,st⟩:=x;exact⟨st _ _ p λo q=>k _ _ (.inl rfl) q,⟨o,k _ _ (.inl rfl) e⟩,st⟩
theorem HOk.lt(x:HOk P w H h)(e:H a=some o):a<h.objs.size:=(x a o e).lt
def HOk.fresh(x:HOk P w H h)(e:h.objs.size<=a):H a=none:=by
 cases q:H a with
 |none=>rfl
 |some u=>exact absurd (iZ (x.lt q) e) (jd _)
def HOk.kept(x:HOk P w H h)(k:∀b u,h.get? b=some u->h'.get? b=some u):HOk P w H h':=λa o e=>
 (x a o e).stay (λb u _ q=>k b u q) (λ_ q=>q) λ_ _ q=>q
def HOk.laid(x:HOk P w H h)(k:∀b u,h.get? b=some u->h'.get? b=some u)(hp:h.objs.size<=a)(new:ObjOk P w (upd H a o) h' a o):HOk P w (upd H a o) h':=λb u e=>by
 have hn:=x.fresh hp;by_cases hb:b=a
 .subst hb;rw[AF]at e;cases e;exact new
 .rw[upd_ne hb]at e;exact(x b u e).stay (λc v _ q=>k c v q) (λc q=>by rw[upd_ne (AJ q hn)];exact q) λc xs q=>by rw[upd_ne (AJ q hn)];exact q
end
def Rd(H:Hp)(a:Addr)(u:HO):Prop:=H a=some u∨∃o,H a=some (.frz o u)
def Rd.ok{P:Program}{w:World}{H:Hp}{h:Heap}{a:Addr}{u:HO}(r:Rd H a u)(x:HOk P w H h):ObjOk P w H h a u:=by
 rcases r with r|⟨o,r⟩
 .exact x a u r
 .obtain⟨_,q⟩:=x a _ r;exact q
def Mut:Option HO->Prop
 |some (.lst _)=>True
 |some (.dK _)=>True
 |some (.dT _)=>True
 |some (.set _ _)=>True
 |some (.ins _ _ _)=>True
 |some (.ext _)=>True
 |_=>False
section
variable{P:Program}{w:World}{H:Hp}{h h':Heap}{x e:Addr}{o':HO}
def HOk.write(ok:HOk P w H h)(mu:Mut (H x))(he:e=x∨H e=some (.own x))(k:∀b u,b≠e->h.get? b=some u->h'.get? b=some u)(heo:∃u,h'.get? e=some u)
 (new:ObjOk P w (upd H x o') h' x o'):HOk P w (upd H x o') h':=λb u q=>by
 have nown:∀c y,H c=some (.own y)->c≠x:=λc y r z=>by subst z;rw[r]at mu;exact mu
 have ntup:∀c xs,H c=some (.tup xs)->c≠x:=λc xs r z=>by subst z;rw[r]at mu;exact mu
 by_cases hb:b=x
 .subst hb;rw[AF]at q;cases q;exact new
 .rw[upd_ne hb]at q;by_cases hbe:b=e
  .have q':H b=some (.own x):=by
    rcases he with z|z
    .exact absurd (hbe.trans z) hb
    .rw[hbe];exact z
   rw[q]at q';cases q';obtain⟨v,hv⟩:=heo;exact⟨v,by rw[hbe];exact hv⟩
  .refine(ok b u q).stay (λc v hc r=>k c v ?_ r) (λc r=>by rw[upd_ne (nown c b r)];exact r) λc xs r=>by rw[upd_ne (ntup c xs r)];exact r
   rcases hc with rfl|hc
   .exact hbe
   .rintro rfl;rcases he with z|z
    .exact nown c b hc z
    .rw[hc]at z;cases z;exact hb rfl
end
structure Un(fs ex:List Addr)(H H':Hp)(h h':Heap):Prop where
 keep:∀b o,h.get? b=some o->H b=none->b∉fs->b∉ex->h'.get? b=some o
 slot:∀b o,h.get? b=some o->H b=none->b∈fs->b∉ex->∃sl,h'.get? b=some { o with slots:=sl }
 free:∀b o,h.get? b=some o->H b=none->b∉ex->H' b=none
 there:∀b o,h.get? b=some o->b∉ex->∃o',h'.get? b=some o'
 tups:∀b xs,H b=some (.tup xs)->H' b=some (.tup xs)
 frzs:∀b o u,H b=some (.frz o u)->H' b=some (.frz o u)
 tbls:∀b ps,H b=some (.tbl ps)->∃more,H' b=some (.tbl (ps++more))
section
variable{fs fs' ex ex':List Addr}{H H1 H2:Hp}{h h1 h2 h':Heap}{a x e:Addr}{o:HO}
def Un.any(u:Un fs ex H H1 h h1){b:Addr}{ob:Obj}(q:h.get? b=some ob)(n:H b=none)(hx:b∉ex):∃sl,h1.get? b=some { ob with slots:=sl }:=by
 by_cases hb:b∈fs
 .exact u.slot b ob q n hb hx
 .exact⟨ob.slots,u.keep b ob q n hb hx⟩
def Un.kept(k:∀b u,h.get? b=some u->h'.get? b=some u):Un fs ex H H h h':=
 ⟨λb ob q _ _ _=>k b ob q,λb ob q _ _ _=>⟨ob.slots,k b ob q⟩,λ_ _ _ n _=>n,λb ob q _=>⟨ob,k b ob q⟩,λ_ _ q=>q,λ_ _ _ q=>q,λ_ ps q=>⟨#[],by rw[q];simp⟩⟩
def Un.refl:Un fs ex H H h h:=Un.kept λ_ _ q=>q
def Un.laid(k:∀b u,h.get? b=some u->h'.get? b=some u)(hp:h.objs.size<=a)(hn:H a=none):Un fs ex H (upd H a o) h h' where
 keep:=λb u q _ _ _=>k b u q
 slot:=λb u q _ _ _=>⟨u.slots,k b u q⟩
 free:=λb u q n _=>by rw[upd_ne (iu (iZ (Heap.lt_size q) hp))];exact n
 there:=λb u q _=>⟨u,k b u q⟩
 tups:=λb xs q=>by rw[upd_ne (AJ q hn)];exact q
 frzs:=λb u xs q=>by rw[upd_ne (AJ q hn)];exact q
 tbls:=λb ps q=>⟨#[],by rw[upd_ne (AJ q hn),q];simp⟩
def Un.write(mu:Mut (H x))(he:e=x∨H e=some (.own x))(k:∀b u,b≠e->h.get? b=some u->h'.get? b=some u)(heo:∃u,h'.get? e=some u):Un fs ex H (upd H x o) h h':=by
 have hx:∀b,H b=none->b≠x:=λb n z=>by subst z;rw[n]at mu;exact mu
 have hb:∀b,H b=none->b≠e:=λb n z=>by
  subst z;rcases he with r|r
  .exact hx b n r
  .rw[n]at r;cases r
 have hm:∀b u,H b=some u->¬ Mut (some u)->b≠x:=λb u q nm z=>by subst z;rw[q]at mu;exact nm mu
 refine⟨λb u q n _ _=>k b u (hb b n) q,λb u q n _ _=>⟨u.slots,k b u (hb b n) q⟩,λb u q n _=>by rw[upd_ne (hx b n)];exact n,λb u q _=>?_,
  λb xs q=>by rw[upd_ne (hm b _ q λz=>z)];exact q,λb u xs q=>by rw[upd_ne (hm b _ q λz=>z)];exact q,λb ps q=>⟨#[],by rw[upd_ne (hm b _ q λz=>z),q];simp⟩⟩
 by_cases hbe:b=e
 .subst hbe;exact heo
 .exact⟨u,k b u hbe q⟩
end
noncomputable def trk(h:Heap)(H:Hp):List Addr:=(57 h.objs.size).filter λa=>(H a).isSome
noncomputable def GS(h:Heap)(H:Hp):Heap:=PySem.W.hideAll h (trk h H)
def T7(h:Heap)(H:Hp):(GS h H).objs.size=h.objs.size:=PySem.W.hideAll_size _ _
def Vl{h:Heap}{H:Hp}{b:Addr}{o:Obj}(e:h.get? b=some o)(n:H b=none):(GS h H).get? b=some o:=
 PySem.W.hideAll_get _ e λhm=>by
  have q:(H b).isSome=true:=(mem_filter.mp hm).2;rw[n]at q;simp at q
def Z1{h:Heap}{H:Hp}{b:Addr}{o:Obj}(e:(GS h H).get? b=some o):h.get? b=some o/\H b=none:=by
 have e':h.get? b=some o:=PySem.W.of_hideAll (trk h H) e;refine⟨e',?_⟩;cases q:H b with
 |none=>rfl
 |some x=>
  have hm:b∈trk h H:=mem_filter.mpr ⟨List.mem_range.mpr (58 e'),by simp[q]⟩;have z:(GS h H).get? b=none:=PySem.W.hideAll_none (trk h H) hm;rw[z]at e;cases e
structure Mod(K:Frag)(mg:Str->Option Value)(base:Heap):Prop where
 kin:K.In base
 glob:base.Ns mainGlobals mg
 blt:∃mb,base.Ns builtinsNs mb/\∀x:Str,x≠"__name__"->mb x=bootBuiltins x
 nolimit:base.NoLimit
structure Cx where
 prog:Program
 w:World
 K:Frag
 mg:Str->Option Value
 base:Heap
 A:Around
 N:List Str
 s₀:Shared
 H₀:Hp
 env:Env
 outer:List Env
 stack:List Env
 ex:List Addr
 fn:Str->Bool
 calm:Bool
 pn:List (Addr×Obj)
 xe:Value->Shared->Prop
noncomputable def frs(l:List Env):List Addr:=l.filterMap (·.frame)
abbrev Cx.fs(X:Cx):List Addr:=frs X.outer
def Vis(sc:Scope)(x:Str):Prop:=sc.names.lookup x=some .local∨sc.names.lookup x=some .cell∨sc.names.lookup x=some .free
def Loc(sc:Scope)(x:Str):Prop:=sc.names.lookup x=some .local∨sc.names.lookup x=some .cell
def gN(env:Env)(h:Heap)(m:Str->Option Value)(x:Str)(u:Value):Prop:=
 (env.kindOf x=some .local/\m x=some u)∨((env.kindOf x=some .cell∨env.kindOf x=some .free)/\∃c,env.cells.lookup x=some c/\h.IsCell c (some u))
structure Cx.Ok(X:Cx):Prop where
 mod:Mod X.K X.mg X.base
 kind:X.env.scope.kind=.function
 glob:X.env.globals=mainGlobals
 blt:X.env.builtins=builtinsNs
 above:X.s₀.heap.objs.size<=X.env.locals
 inj:∀x y c,X.env.cells.lookup x=some c->X.env.cells.lookup y=some c->x=y
 has:∀x,(X.env.kindOf x=some .cell∨X.env.kindOf x=some .free)->∃c,X.env.cells.lookup x=some c
 cab:∀x c,X.fn x=true->X.env.cells.lookup x=some c->X.s₀.heap.objs.size<=c
 hd:X.calm=true->X.A.handled=none
 frames:X.A.frames=some X.stack
 stk:X.stack=X.outer∨(X.stack=X.env::X.outer/\X.env.frame=some X.env.locals)
 exf:∀b∈X.ex,b≠X.env.locals/\∀x c,X.env.cells.lookup x=some c->c≠b
 bs:∀b o,X.base.get? b=some o->X.s₀.heap.get? b=some o/\X.H₀ b=none
 bsz:X.base.objs.size<=X.s₀.heap.objs.size
 noex:∀b o,X.base.get? b=some o->b∉X.ex
 exfs:∀b∈X.ex,b∉X.fs
 funs:X.s₀.heap.FunFrames X.base X.outer
 frf:∀b∈X.fs,X.H₀ b=none
structure Inv(X:Cx)(pins:List (Addr×Obj))(σ:List (Option V))(H:Hp)(s:Shared):Prop where
 ok:X.Ok
 os:s.os=X.s₀.os
 bare:AllBare s.gens
 base:Un X.fs X.ex X.H₀ H X.s₀.heap s.heap
 loc:∃m,s.heap.Ns X.env.locals m/\∀(i:Nat) (x:Str) (v:V),X.N[i]?=some x->σ[i]?=some (some v)->Vis X.env.scope x->∃u,RelV v u/\gN X.env s.heap m x u
 cell:∀x c,X.env.cells.lookup x=some c->∃v,s.heap.IsCell c v
 free:H X.env.locals=none
 freeC:∀x c,X.env.cells.lookup x=some c->H c=none
 pin:∀p∈X.pn++pins,s.heap.get? p.1=some p.2/\H p.1=none/\p.1≠X.env.locals/\p.1∉X.fs/\∀v,p.2.data≠.cell v
 hok:HOk X.prog X.w H s.heap
 len:σ.length=X.N.length
section
variable{X:Cx}{pins:List (Addr×Obj)}{σ:List (Option V)}{H H':Hp}{s:Shared}{h':Heap}
def Cx.Ok.nofr(ok:X.Ok){b:Addr}{o:Obj}(e:X.base.get? b=some o):b∉X.fs:=λhb=>by
 have:=(ok.funs.mem hb).1;rw[e]at this;cases this
theorem Inv.bs(I:Inv X pins σ H s):∀b o,X.base.get? b=some o->s.heap.get? b=some o/\H b=none:=λb o e=>
 ⟨I.base.keep b o (I.ok.bs b o e).1 (I.ok.bs b o e).2 (I.ok.nofr e) (I.ok.noex b o e),I.base.free b o (I.ok.bs b o e).1 (I.ok.bs b o e).2 (I.ok.noex b o e)⟩
def Inv.bk(I:Inv X pins σ H s):∀b o,X.base.get? b=some o->s.heap.get? b=some o:=λb o e=>(I.bs b o e).1
theorem Inv.mod(I:Inv X pins σ H s):Mod X.K X.mg X.base:=I.ok.mod
def Inv.kIn(I:Inv X pins σ H s):X.K.In s.heap:=I.ok.mod.kin.keeps I.bk
theorem Inv.nolimit(I:Inv X pins σ H s):s.heap.NoLimit:=I.ok.mod.nolimit.keeps I.bk
def Inv.fr(I:Inv X pins σ H s):∃m,Fr X.base X.env.locals s.heap m:=
 let ⟨m,hn,_⟩:=I.loc
 ⟨m,hn,I.bk,iw I.ok.bsz I.ok.above⟩
theorem Inv.lt(I:Inv X pins σ H s):X.env.locals<s.heap.objs.size:=let ⟨_,hn,_⟩:=I.loc;hn.lt
def Inv.sz(I:Inv X pins σ H s):X.s₀.heap.objs.size<=s.heap.objs.size:=iw I.ok.above (jj I.lt)
def Inv.nofs(I:Inv X pins σ H s){a:Addr}(h:49<=a):a∉X.fs:=λhb=>by
 obtain⟨_,o,ho,_⟩:=I.ok.funs.mem hb;exact absurd (iZ (58 ho) (iw I.sz h)) (jd _)
def Inv.cne(I:Inv X pins σ H s):∀x c,X.env.cells.lookup x=some c->c≠X.env.locals:=λx c e z=>by
 obtain⟨v,o,ho,hd⟩:=I.cell x c e;obtain⟨m,⟨o',es,ep,ho',hd',_⟩,_⟩:=I.loc;rw[z,ho']at ho;cases ho;rw[hd']at hd;cases hd
theorem Inv.funs(I:Inv X pins σ H s):s.heap.FunFrames X.base X.outer:=by
 have all:∀(l:List Env),(∀b∈frs l,b∈X.fs)->X.s₀.heap.FunFrames X.base l->s.heap.FunFrames X.base l:=by
  intro l
  induction l with
  |nil=>intro _ _;trivial
  |cons env r ih=>
   intro hs hl;obtain⟨hk,⟨L,o,hf,hn,ho,hd⟩,hr⟩:=hl;have hL:L∈X.fs:=hs L (by unfold frs;rw[jA,hf];exact ir);obtain⟨sl,e⟩:=I.base.slot L o ho (I.ok.frf L hL) hL λz=>I.ok.exfs L z hL;exact⟨hk,⟨L,_,hf,hn,e,hd⟩,ih (λb hb=>hs b (by unfold frs;rw[jA,hf];exact il _ hb)) hr⟩
 exact all X.outer (λ_ hb=>hb) I.ok.funs
theorem Inv.stack(I:Inv X pins σ H s):s.heap.FunFrames X.base X.stack:=by
 rcases I.ok.stk with e|⟨e,hf⟩
 .rw[e];exact I.funs
 .rw[e];obtain⟨m,hn,_⟩:=I.loc;refine .cons (by rw[I.ok.kind];decide) hf hn ?_ I.funs;exact Heap.get?_none_of_le (iw I.ok.bsz I.ok.above)
def Inv.stkSub(I:Inv X pins σ H s):∀b∈frs X.stack,b∈X.env.locals::X.fs:=λb hb=>by
 rcases I.ok.stk with e|⟨e,hf⟩
 .rw[e]at hb;exact il _ hb
 .rw[e]at hb;unfold frs at hb;rw[jA,hf]at hb;exact hb
def Inv.stkFree(I:Inv X pins σ H s):∀b∈frs X.stack,H b=none:=λb hb=>by
 rcases mem_cons.mp (I.stkSub b hb)with e|hb
 .rw[e];exact I.free
 .obtain⟨_,o,ho,_⟩:=I.ok.funs.mem hb;exact I.base.free b o ho (I.ok.frf b hb) λz=>I.ok.exfs b z hb
def Inv.step{g':Array GenState}{t':Nat}{d':Drawn}{ch:List Addr}(I:Inv X pins σ H s)
 (hch:∀b∈ch,(b∈X.ex∨X.s₀.heap.objs.size<=b)/\b≠X.env.locals/\(∀x c,X.env.cells.lookup x=some c->c≠b)/\∀p∈X.pn++pins,p.1≠b)
 (keep:∀b o,b≠X.env.locals->b∉X.fs->b∉ch->s.heap.get? b=some o->H b=none->h'.get? b=some o)
 (slot:∀b o,b≠X.env.locals->b∈X.fs->b∉ch->s.heap.get? b=some o->H b=none->∃sl,h'.get? b=some { o with slots:=sl }) (free:∀b o,b∉ch->s.heap.get? b=some o->H b=none->H' b=none)
 (there:∀b o,b∉ch->s.heap.get? b=some o->∃o',h'.get? b=some o')
 (tups:∀b xs,H b=some (.tup xs)->H' b=some (.tup xs)) (frzs:∀b o u,H b=some (.frz o u)->H' b=some (.frz o u)) (tbls:∀b ps,H b=some (.tbl ps)->∃more,H' b=some (.tbl (ps++more)))
 (ns:∀m,s.heap.Ns X.env.locals m->h'.Ns X.env.locals m) (hok:HOk X.prog X.w H' h') (hg:AllBare g'):
 Inv X pins σ H' { s with heap:=h',gens:=g',drawn:=d',toks:=t' }:=by
 have neL:∀b o,X.s₀.heap.get? b=some o->b≠X.env.locals:=λb o e=>iu (iZ (58 e) I.ok.above);have neC:∀b o,X.s₀.heap.get? b=some o->b∉X.ex->b∉ch:=λb o e hx hb=>by
  rcases(hch b hb).1 with z|z
  .exact hx z
  .exact absurd (iZ (58 e) z) (jd _)
 have cellK:∀x c,X.env.cells.lookup x=some c->∀v,s.heap.IsCell c v->h'.IsCell c v:=λx c e v ⟨o,ho,hd⟩=>by
  have nch:c∉ch:=λz=>(hch c z).2.2.1 x c e rfl;by_cases hc:c∈X.fs
  .obtain⟨sl,q⟩:=slot c o (I.cne x c e) hc nch ho (I.freeC x c e);exact⟨_,q,hd⟩
  .exact⟨o,keep c o (I.cne x c e) hc nch ho (I.freeC x c e),hd⟩
 refine⟨I.ok,I.os,hg,⟨λb o e n hb hx=>?_,λb o e n hb hx=>?_,λb o e n hx=>?_,λb o e hx=>?_,λb xs e=>tups b xs (I.base.tups b xs e),λb o xs e=>frzs b o xs (I.base.frzs b o xs e),λb ps e=>?_⟩,?_,λx c e=>?_,?_,λx c e=>?_,λp hp=>?_,hok,I.len⟩
 .exact keep b o (neL b o e) hb (neC b o e hx) (I.base.keep b o e n hb hx) (I.base.free b o e n hx)
 .obtain⟨sl,e1⟩:=I.base.slot b o e n hb hx;obtain⟨sl',e2⟩:=slot b _ (neL b o e) hb (neC b o e hx) e1 (I.base.free b o e n hx);exact⟨sl',e2⟩
 .obtain⟨o',e1⟩:=I.base.there b o e hx;exact free b o' (neC b o e hx) e1 (I.base.free b o e n hx)
 .obtain⟨o',e1⟩:=I.base.there b o e hx;exact there b o' (neC b o e hx) e1
 .obtain⟨m1,e1⟩:=I.base.tbls b ps e;obtain⟨m2,e2⟩:=tbls b _ e1;exact⟨m1++m2,by rw[e2,Array.append_assoc]⟩
 .obtain⟨m,hn,hl⟩:=I.loc;refine⟨m,ns m hn,λi x v e1 e2 e3=>?_⟩;obtain⟨u,r,l⟩:=hl i x v e1 e2 e3;refine⟨u,r,?_⟩;rcases l with l|⟨k,c,e,z⟩
  .exact .inl l
  .exact .inr ⟨k,c,e,cellK x c e _ z⟩
 .obtain⟨v,z⟩:=I.cell x c e;exact⟨v,cellK x c e v z⟩
 .obtain⟨m,⟨o,_,_,ho,_⟩,_⟩:=I.loc;exact free _ o (λz=>(hch _ z).2.1 rfl) ho I.free
 .obtain⟨v,o,ho,hd⟩:=I.cell x c e;exact free c o (λz=>(hch c z).2.2.1 x c e rfl) ho (I.freeC x c e)
 .obtain⟨e,n,ne,nf,d⟩:=I.pin p hp;have nch:p.1∉ch:=λz=>(hch p.1 z).2.2.2 p hp rfl;exact⟨keep p.1 p.2 ne nf nch e n,free p.1 p.2 nch e n,ne,nf,d⟩
def Inv.un{t':Nat}(I:Inv X pins σ H s)(u:Un X.fs [] H H' s.heap h')(hok:HOk X.prog X.w H' h'):Inv X pins σ H' { s with heap:=h',toks:=t' }:=by
 obtain⟨m,⟨o,es,ep,ho,r⟩,_⟩:=id I.loc;obtain⟨sl,hL⟩:=u.any ho I.free 55;exact I.step (g':=s.gens) (d':=s.drawn) (ch:=[]) (λ_ z=>nomatch z) (λb o _ hb _ e n=>u.keep b o e n hb 55) (λb o _ hb _ e n=>u.slot b o e n hb 55) (λb o _ e n=>u.free b o e n 55) (λb o _ e=>u.there b o e 55) u.tups u.frzs u.tbls (λm' hm=>by
  obtain⟨o',es',ep',ho',r'⟩:=hm;rw[ho]at ho';cases ho';exact⟨_,es',ep',hL,r'⟩) hok I.bare
def Inv.call{g':Array GenState}{t':Nat}{d':Drawn}{ch:List Addr}(I:Inv X pins σ H s)(u:Un (frs X.stack) ch H H' s.heap h')(hok:HOk X.prog X.w H' h')(hg:AllBare g')
 (hch:∀b∈ch,(b∈X.ex∨X.s₀.heap.objs.size<=b)/\b≠X.env.locals/\(∀x c,X.env.cells.lookup x=some c->c≠b)/\∀p∈X.pn++pins,p.1≠b):
 Inv X pins σ H' { s with heap:=h',gens:=g',drawn:=d',toks:=t' }:=by
 obtain⟨m,⟨o,es,ep,ho,r⟩,_⟩:=id I.loc;obtain⟨sl,hL⟩:=u.any ho I.free λz=>(hch _ z).2.1 rfl;exact I.step (ch:=ch) hch (λb o hL hb hc e n=>u.keep b o e n (λz=>(mem_cons.mp (I.stkSub b z)).elim hL hb) hc) (λb o _ _ hc e n=>u.any e n hc) (λb o hc e n=>u.free b o e n hc) (λb o hc e=>u.there b o e hc) u.tups u.frzs u.tbls (λm' hm=>by
  obtain⟨o',es',ep',ho',r'⟩:=hm;rw[ho]at ho';cases ho';exact⟨_,es',ep',hL,r'⟩) hok hg
def Inv.turned{t':Nat}{it:Addr}(I:Inv X pins σ H s)(k:∀b o,b≠it->s.heap.get? b=some o->h'.get? b=some o)(hn:H it=none)(hL:it≠X.env.locals)
 (h1:it∈X.ex∨X.s₀.heap.objs.size<=it) (h2:∀x c,X.env.cells.lookup x=some c->c≠it) (h3:∀p∈X.pn++pins,p.1≠it):Inv X pins σ H { s with heap:=h',toks:=t' }:=by
 have nit:∀b u,H b=some u->b≠it:=λb u e z=>by rw[z,hn]at e;cases e
 refine I.step (g':=s.gens) (d':=s.drawn) (ch:=[it]) (λb hb=>?_) (λb o _ _ hc e _=>k b o (λz=>hc (by simp[z])) e) (λb o _ _ hc e _=>⟨o.slots,k b o (λz=>hc (by simp[z])) e⟩) (λ_ _ _ _ n=>n)
  (λb o hc e=>⟨o,k b o (λz=>hc (by simp[z])) e⟩) (λ_ _ e=>e) (λ_ _ _ e=>e) (λb ps e=>⟨#[],by rw[e];simp⟩) (λm hm=>?_) (λb u e=>?_) I.bare
 .have e:b=it:=by simpa using hb
  subst e;exact⟨h1,hL,h2,h3⟩
 .obtain⟨o,es,ep,ho,r⟩:=hm;exact⟨o,es,ep,k _ o (Ne.symm hL) ho,r⟩
 .refine(I.hok b u e).stay (λc v hc q=>k c v ?_ q) (λ_ q=>q) λ_ _ q=>q;rcases hc with z|z
  .rw[z];exact nit b u e
  .exact nit c _ z
def Inv.tok(I:Inv X pins σ H s)(t:Nat):Inv X pins σ H { s with toks:=t }:=I.un (h':=s.heap) (t':=t) Un.refl I.hok
theorem Inv.kept{t':Nat}(I:Inv X pins σ H s)(k:∀b u,s.heap.get? b=some u->h'.get? b=some u):Inv X pins σ H { s with heap:=h',toks:=t' }:=I.un (Un.kept k) (I.hok.kept k)
theorem Inv.laid{a:Addr}{o:HO}{t':Nat}(I:Inv X pins σ H s)(k:∀b u,s.heap.get? b=some u->h'.get? b=some u)(hp:49<=a)(new:ObjOk X.prog X.w (upd H a o) h' a o):
 Inv X pins σ (upd H a o) { s with heap:=h',toks:=t' }:=I.un (Un.laid k hp (I.hok.fresh hp)) (I.hok.laid k hp new)
theorem Inv.write{x e:Addr}{o:HO}{t':Nat}(I:Inv X pins σ H s)(mu:Mut (H x))(he:e=x∨H e=some (.own x))(k:∀b u,b≠e->s.heap.get? b=some u->h'.get? b=some u)(heo:∃u,h'.get? e=some u)
 (new:ObjOk X.prog X.w (upd H x o) h' x o):Inv X pins σ (upd H x o) { s with heap:=h',toks:=t' }:=I.un (Un.write mu he k heo) (I.hok.write mu he k heo new)
def Inv.weak{σ':List (Option V)}(I:Inv X pins σ H s)(hl:σ'.length=σ.length)(w:∀(i:Nat) v,σ'[i]?=some (some v)->σ[i]?=some (some v)):Inv X pins σ' H s:=
 ⟨I.ok,I.os,I.bare,I.base,let ⟨m,hn,hl'⟩:=I.loc;⟨m,hn,λi x v e1 e2 e3=>hl' i x v e1 (w i v e2) e3⟩,I.cell,I.free,I.freeC,I.pin,I.hok,hl.trans I.len⟩
def Inv.pins_of{pins':List (Addr×Obj)}(I:Inv X pins σ H s)(h:∀p∈pins',s.heap.get? p.1=some p.2/\H p.1=none/\p.1≠X.env.locals/\p.1∉X.fs/\∀v,p.2.data≠.cell v):Inv X pins' σ H s:=
 ⟨I.ok,I.os,I.bare,I.base,I.loc,I.cell,I.free,I.freeC,λp hp=>(mem_append.mp hp).elim (λz=>I.pin p (jh _ z)) (h p),I.hok,I.len⟩
def J7{N:List Str}(hN:N.Nodup){i j:Nat}{x:Str}(a:N[i]?=some x)(b:N[j]?=some x):i=j:=by
 obtain⟨h1,e1⟩:=102 a;obtain⟨h2,e2⟩:=102 b;exact(List.getElem_inj hN).mp (e1.trans e2.symm)
def LH{M:Model}{A:Around}{E:Value->Shared->Prop}{i:Nat}{x:Str}{v:V}{u:Value}{Q:Unit->Shared->Prop}(I:Inv X pins σ H s)(hN:X.N.Nodup)(hi:X.N[i]?=some x)(hx:Loc X.env.scope x)(r:RelV v u)
 (h:∀s',Inv X pins (σ.set i (some v)) H s'->(∃a,Heap.SameBut a s.heap s'.heap/\(a=X.env.locals∨X.env.cells.lookup x=some a))->Q () s') (hf:X.fn x=true∨X.env.scope.names.lookup x=some .local:=by first|exact .inl rfl|exact .inr rfl|assumption):wpAny M A (storeName X.env x u) Q E s:=by
 obtain⟨m,hn,hl⟩:=id I.loc;have hcls:(X.env.scope.kind==.class||(X.env.scope.kind==.module&&X.env.locals != X.env.globals))=false:=by rw[I.ok.kind];rfl
 have hiσ:i<σ.length:=by rw[I.len];exact(102 hi).1
 have cne:=I.cne;have tracked:∀{a:Addr} {h':Heap},(∃o,s.heap.get? a=some o/\H a=none)->Heap.SameBut a s.heap h'->HOk X.prog X.w H h':=λ{a h'} ha hs b ob e=>by
  obtain⟨_,_,hfree⟩:=ha;refine(I.hok b ob e).stay (λc w' hc q=>(hs.2 c ?_).trans q) (λ_ q=>q) λ_ _ q=>q;rintro rfl;rcases hc with rfl|hc
  .rw[hfree]at e;cases e
  .rw[hfree]at hc;cases hc
 rcases hx with hk|hk
 .refine wpAny_storeName_local hk hn (λh' hn' hs=>?_) hcls;obtain⟨oL,_,_,hoL,_⟩:=id hn;refine h _ ⟨I.ok,I.os,I.bare,⟨λb o e n hb hx=>?_,λb o e n hb hx=>?_,I.base.free,λb o e hx=>?_,I.base.tups,I.base.frzs,I.base.tbls⟩,⟨_,hn',λj y v' e1 e2 e3=>?_⟩,λy c e=>?_,I.free,I.freeC,λp hp=>?_,tracked ⟨oL,hoL,I.free⟩ hs,by simpa using I.len⟩ ⟨_,hs,.inl rfl⟩
  .exact(hs.2 b (iu (iZ (58 e) I.ok.above))).trans (I.base.keep b o e n hb hx)
  .obtain⟨sl,e1⟩:=I.base.slot b o e n hb hx;exact⟨sl,(hs.2 b (iu (iZ (58 e) I.ok.above))).trans e1⟩
  .obtain⟨o',e1⟩:=I.base.there b o e hx;exact⟨o',(hs.2 b (iu (iZ (58 e) I.ok.above))).trans e1⟩
  .by_cases hj:j=i
   .subst hj;rw[hi]at e1;cases e1;rw[List.getElem?_set_self hiσ]at e2;cases e2;exact⟨u,r,.inl ⟨hk,by simp⟩⟩
   .rw[List.getElem?_set_ne (Ne.symm hj)]at e2;obtain⟨u',r',q⟩:=hl j y v' e1 e2 e3;refine⟨u',r',?_⟩;rcases q with⟨k,e⟩|⟨k,c,e,z⟩
    .refine .inl ⟨k,?_⟩;have:y≠x:=λe=>hj (J7 hN e1 (e ▸ hi));simp[this,e]
    .exact .inr ⟨k,c,e,z.sameBut hs (cne y c e)⟩
  .obtain⟨w',z⟩:=I.cell y c e;exact⟨w',z.sameBut hs (cne y c e)⟩
  .obtain⟨e,n,ne,nf,d⟩:=I.pin p hp;exact⟨(hs.2 p.1 ne).trans e,n,ne,nf,d⟩
 .have hfn:X.fn x=true:=by
   rcases hf with z|z
   .exact z
   .rw[z]at hk;cases hk
  obtain⟨c,hc⟩:=I.ok.has x (.inl hk);obtain⟨w',z⟩:=I.cell x c hc;refine wpAny_storeName_cell I.ok.kind hk hc z (λh' hc' hs=>?_);obtain⟨oc,hoc,hocd⟩:=id z;refine h { s with heap:=h' } ⟨I.ok,I.os,I.bare,⟨λb o e n hb hx=>?_,λb o e n hb hx=>?_,I.base.free,λb o e hx=>?_,I.base.tups,I.base.frzs,I.base.tbls⟩,⟨m,hn.sameBut hs (Ne.symm (cne x c hc)),λj y v' e1 e2 e3=>?_⟩,λy c' e=>?_,I.free,I.freeC,λp hp=>?_,tracked ⟨oc,hoc,I.freeC x c hc⟩ hs,by simpa using I.len⟩ ⟨c,hs,.inr hc⟩
  .exact(hs.2 b (iu (iZ (58 e) (I.ok.cab x c hfn hc)))).trans (I.base.keep b o e n hb hx)
  .obtain⟨sl,e1⟩:=I.base.slot b o e n hb hx;exact⟨sl,(hs.2 b (iu (iZ (58 e) (I.ok.cab x c hfn hc)))).trans e1⟩
  .obtain⟨o',e1⟩:=I.base.there b o e hx;exact⟨o',(hs.2 b (iu (iZ (58 e) (I.ok.cab x c hfn hc)))).trans e1⟩
  .by_cases hj:j=i
   .subst hj;rw[hi]at e1;cases e1;rw[List.getElem?_set_self hiσ]at e2;cases e2;exact⟨u,r,.inr ⟨.inl hk,c,hc,hc'⟩⟩
   .rw[List.getElem?_set_ne (Ne.symm hj)]at e2;obtain⟨u',r',q⟩:=hl j y v' e1 e2 e3;refine⟨u',r',?_⟩;rcases q with q|⟨k,c',e,z'⟩
    .exact .inl q
    .refine .inr ⟨k,c',e,z'.sameBut hs ?_⟩;rintro rfl;exact hj (J7 hN e1 (I.ok.inj _ _ _ e hc ▸ hi))
  .by_cases hcc:c'=c
   .subst hcc;exact⟨_,hc'⟩
   .obtain⟨w2,z2⟩:=I.cell y c' e;exact⟨w2,z2.sameBut hs hcc⟩
  .obtain⟨e,n,ne,nf,d⟩:=I.pin p hp;refine⟨(hs.2 p.1 ?_).trans e,n,ne,nf,d⟩;intro q;rw[q,hoc]at e;have q':oc=p.2:=111 e;exact d w' (by rw[<- q'];exact hocd)
def GF{M:Model}{A:Around}{E:Value->Shared->Prop}{i:Nat}{x:Str}{v:V}{u:Value}{Q:Unit->Shared->Prop}(I:Inv X pins σ H s)(hN:X.N.Nodup)(hi:X.N[i]?=some x)(hx:Loc X.env.scope x)(r:RelV v u)
 (h:∀s',Inv X pins (σ.set i (some v)) H s'->Q () s') (hf:X.fn x=true∨X.env.scope.names.lookup x=some .local:=by first|exact .inl rfl|exact .inr rfl|assumption):wpAny M A (storeName X.env x u) Q E s:=
 LH I hN hi hx r (λs' I' _=>h s' I') hf
def Inv.call'{s':Shared}{ch:List Addr}(I:Inv X pins σ H s)(ho:s'.os=s.os)(u:Un (frs X.stack) ch H H' s.heap s'.heap)(hok:HOk X.prog X.w H' s'.heap)(hg:AllBare s'.gens)
 (hch:∀b∈ch,(b∈X.ex∨X.s₀.heap.objs.size<=b)/\b≠X.env.locals/\(∀x c,X.env.cells.lookup x=some c->c≠b)/\∀p∈X.pn++pins,p.1≠b):Inv X pins σ H' s':=by
 obtain⟨h',g',d',t',o'⟩:=s';have e:o'=s.os:=ho;subst e;exact I.call (g':=g') (t':=t') (d':=d') u hok hg hch
end
noncomputable abbrev XK:=Value->Option Addr->Hp->Prop
noncomputable abbrev St:=List (Option V)
noncomputable abbrev VK:=V->Hp->Prop
noncomputable abbrev TE:=St->Hp->VK->Prop
noncomputable abbrev TT:=St->Hp->(Bool->Hp->Prop)->Prop
noncomputable abbrev TA:=St->Hp->(List V->Hp->Prop)->Prop
structure Ends where
 nx:St->Hp->Prop
 rt:VK
 bk:St->Hp->Prop:=λ_ _=>False
 ct:St->Hp->Prop:=λ_ _=>False
noncomputable abbrev TS:=Ends->St->Hp->Prop
def EP(X:Cx)(pins:List (Addr×Obj))(σ:St)(Q:VK)(u:Value)(s':Shared):Prop:=∃v H',Inv X pins σ H' s'/\RelV v u/\Q v H'
def TP(X:Cx)(pins:List (Addr×Obj))(σ:St)(Q:Bool->Hp->Prop)(b:Bool)(s':Shared):Prop:=∃H',Inv X pins σ H' s'/\Q b H'
def AP(X:Cx)(pins:List (Addr×Obj))(σ:St)(Q:List V->Hp->Prop)(us:List Value)(s':Shared):Prop:=∃vs H',Inv X pins σ H' s'/\Vals vs us/\Q vs H'
def SP(X:Cx)(pins:List (Addr×Obj))(D:Ends)(f:Flow)(s':Shared):Prop:=
 match f with
 |.next=>∃σ' H',Inv X pins σ' H' s'/\D.nx σ' H'
 |.brk=>∃σ' H',Inv X pins σ' H' s'/\D.bk σ' H'
 |.cont=>∃σ' H',Inv X pins σ' H' s'/\D.ct σ' H'
 |.ret u=>∃v σ' H',Inv X pins σ' H' s'/\RelV v u/\D.rt v H'
def PE(X:Cx)(e:Expr)(t:TE):Prop:=
 ∀(pins:List (Addr×Obj)) (s:Shared) (σ:St) (H:Hp) (Q:VK),Inv X pins σ H s->t σ H Q->wpAny 54 X.A (eval e X.env) (EP X pins σ Q) X.xe s
def PT(X:Cx)(e:Expr)(t:TT):Prop:=
 ∀(pins:List (Addr×Obj)) (s:Shared) (σ:St) (H:Hp) (Q:Bool->Hp->Prop),Inv X pins σ H s->t σ H Q->wpAny 54 X.A (isTrue e X.env (eval e X.env)) (TP X pins σ Q) X.xe s
def PW(X:Cx)(e:Expr)(t:TT):Prop:=
 ∀(whole:Sem Value) (pins:List (Addr×Obj)) (s:Shared) (σ:St) (H:Hp) (Q:Bool->Hp->Prop),Inv X pins σ H s->t σ H Q->wpAny 54 X.A (isTrue e X.env whole) (TP X pins σ Q) X.xe s
def PW.pt{X:Cx}{e:Expr}{t:TT}(h:PW X e t):PT X e t:=h _
def PA(X:Cx)(es:List Expr)(t:TA):Prop:=
 ∀(pos:Pos) (pins:List (Addr×Obj)) (s:Shared) (σ:St) (H:Hp) (Q:List V->Hp->Prop),Inv X pins σ H s->t σ H Q->wpAny 54 X.A (spliced (backTo pos (starEach es X.env))) (AP X pins σ Q) X.xe s
def PS(X:Cx)(st:Stmt)(t:TS):Prop:=
 ∀(pins:List (Addr×Obj)) (s:Shared) (σ:St) (H:Hp) (D:Ends),Inv X pins σ H s->t D σ H->wpAny 54 X.A (exec st X.env) (SP X pins D) X.xe s
def PSs(X:Cx)(st:List Stmt)(t:TS):Prop:=
 ∀(pins:List (Addr×Obj)) (s:Shared) (σ:St) (H:Hp) (D:Ends),Inv X pins σ H s->t D σ H->wpAny 54 X.A (execs st X.env) (SP X pins D) X.xe s
def thn{α:Type}{t:Sem α}{Q Q':α->Shared->Prop}{M:Model}{A:Around}{E:Value->Shared->Prop}{s:Shared}(h:wpAny M A t Q E s)(hQ:∀a s,Q a s->Q' a s):wpAny M A t Q' E s:=iX h hQ λ_ _ x=>x
section
variable{X:Cx}
def bin{a b:Expr}{ta tb:TE}(ha:PE X a ta)(hb:PE X b tb){pins:List (Addr×Obj)}{s:Shared}{σ:St}{H:Hp}{R:V->V->Hp->Prop}(I:Inv X pins σ H s)(h:ta σ H λx H1=>tb σ H1 λy H2=>R x y H2)
 {α:Type} {Q:α->Shared->Prop} {f:Value->Value->Sem α}
 (hf:∀v u s2 x y H2,Inv X pins σ H2 s2->RelV x v->RelV y u->R x y H2->wpAny 54 X.A (f v u) Q X.xe s2):
 wpAny 54 X.A (eval a X.env) (λv s₁=>wpAny 54 X.A (eval b X.env) (λu s₂=>wpAny 54 X.A (f v u) Q X.xe s₂) X.xe s₁) X.xe s:=by
 refine thn (ha pins s σ H _ I h) λv s1 ⟨x,H1,I1,r1,q1⟩=>?_;refine thn (hb pins s1 σ H1 _ I1 q1) λu s2 ⟨y,H2,I2,r2,q2⟩=>?_;exact hf v u s2 x y H2 I2 r1 r2 q2
noncomputable def Me(i:Nat):TE:=λσ H Q=>∃v,σ[i]?=some (some v)/\Q v H
noncomputable def tC(v:V):TE:=λ_ H Q=>Q v H
def Gz{i:Nat}{x:Str}{pos:Pos}(hN:X.N[i]?=some x)(hv:Vis X.env.scope x)(hd:(x==("__debug__":Str))=false:=by decide)(hcd:(x==("__classdict__":Str))=false:=by decide):PE X (.Name x pos) (Me i):=by
 intro pins s σ H Q I h;obtain⟨v,e,h⟩:=h;obtain⟨m,hn,hl⟩:=I.loc;obtain⟨u,r,l⟩:=hl i x v hN e hv;have fin:EP X pins σ Q u s:=⟨v,H,I,r,h⟩
 rcases l with⟨hk,hm⟩|⟨hk,c,hc,hcell⟩
 .exact wpAny_Name (wpAny_loadName_local I.ok.kind hk hn hm fin) hd
 .rcases hk with hk|hk
  .exact wpAny_Name (wpAny_loadName_cell I.ok.kind hk hc hcell fin) hd
  .exact wpAny_Name (wpAny_loadName_free I.ok.kind hk hc hcell fin hcd) hd
def cD{i j pos}:PE X (.Constant (.int i) j pos) (tC (.int i)):=λ_ _ _ H _ I h=>wpAny_Constant_int ⟨.int i,H,I.tok _,⟨_,rfl⟩,h⟩
def eX{b j pos}:PE X (.Constant (.bool b) j pos) (tC (.bl b)):=λ_ _ _ H _ I h=>Constant_bool ⟨.bl b,H,I,rfl,h⟩
def c9{j pos}:PE X (.Constant .none j pos) (tC .non):=λ_ _ _ H _ I h=>Constant_none ⟨.non,H,I,rfl,h⟩
def bz{x j pos}:PE X (.Constant (.str x) j pos) (tC (.str x)):=λ_ _ _ H _ I h=>Calls.Constant_str ⟨.str x,H,I.tok _,⟨_,rfl⟩,h⟩
def Gl(X:Cx)(x:Str):Prop:=X.env.kindOf x=some .globalImplicit
def DQ{E:Value->Shared->Prop}{pins:List (Addr×Obj)}{s:Shared}{σ:St}{H:Hp}{x:Str}{u:Value}{pos:Pos}{Q:Value->Shared->Prop}(I:Inv X pins σ H s)(hg:Gl X x)(hm:X.mg x=some u)(h:Q u s)
 (hd:(x==("__debug__":Str))=false:=by decide):wpAny 54 X.A (eval (.Name x pos) X.env) Q E s:=
 Calls.Name_function_global I.ok.kind hg (Calls.loadGlobal_global (by rw[I.ok.glob];exact I.mod.glob.keeps I.bk) hm h) hd
def F4{E:Value->Shared->Prop}{pins:List (Addr×Obj)}{s:Shared}{σ:St}{H:Hp}{x:Str}{u:Value}{pos:Pos}{Q:Value->Shared->Prop}(I:Inv X pins σ H s)(hg:Gl X x)(hm:X.mg x=none)(hv:bootBuiltins x=some u)(h:Q u s)
 (hn:x≠"__name__":=by decide) (hd:(x==("__debug__":Str))=false:=by decide):wpAny 54 X.A (eval (.Name x pos) X.env) Q E s:=by
 obtain⟨mb,h1,h2⟩:=I.mod.blt;exact Calls.Name_function_global I.ok.kind hg (Calls.loadGlobal_builtin (by rw[I.ok.glob];exact I.mod.glob.keeps I.bk) hm (by rw[I.ok.blt];exact h1.keeps I.bk) ((h2 x hn).trans hv) h) hd
variable{a b:Expr}{ta tb:TE}{pos:Pos}
def PC(X:Cx)(op:CmpOp)(a b:Expr)(t:TE):Prop:=
 ∀(pins:List (Addr×Obj)) (s:Shared) (σ:St) (H:Hp) (Q:VK),Inv X pins σ H s->t σ H Q ->
   wpAny 54 X.A (eval a X.env) (λv s₁=>wpAny 54 X.A (eval b X.env) (λu s₂=>wpAny 54 X.A (compareOp op v u) (EP X pins σ Q) X.xe s₂) X.xe s₁) X.xe s
def VV(b:Expr){op:CmpOp}(h:op≠.In)(h2:op≠.NotIn):behindInMarks op b=false:=by
 have e1:(op==CmpOp.In)=false:=by cases op<;>first|rfl|exact absurd rfl h
 have e2:(op==CmpOp.NotIn)=false:=by cases op<;>first|rfl|exact absurd rfl h2
 cases b<;>simp[behindInMarks,e1,e2]
noncomputable def UK(ta:TE):TE:=λσ H Q=>ta σ H λx H1=>Q (.bl (decide (x=.non))) H1
noncomputable def Pq(ta:TE):TE:=λσ H Q=>ta σ H λx H1=>Q (.bl (!decide (x=.non))) H1
def RelV.none_iff{x:V}{v:Value}(r:RelV x v):(v==Value.none)=decide (x=.non):=by
 cases x with
 |non=>cases r;rfl
 |bl _=>cases r;rfl
 |int _=>obtain⟨t,rfl⟩:=r;rfl
 |str _=>obtain⟨t,rfl⟩:=r;rfl
 |byt _=>obtain⟨t,rfl⟩:=r;rfl
 |flt _=>obtain⟨t,rfl⟩:=r;rfl
 |ref _=>cases r;rfl
 |ty _=>cases r;rfl
def cG{j pos'}(ha:PE X a ta):PC X .Is a (.Constant .none j pos') (UK ta):=by
 intro pins s σ H Q I h;refine thn (ha pins s σ H _ I h) λv s1 ⟨x,H1,I1,r1,q1⟩=>?_;exact Constant_none (is_none_gen ⟨.bl _,H1,I1,by rw[r1.none_iff];rfl,q1⟩)
def Ys{j pos'}(ha:PE X a ta):PC X .IsNot a (.Constant .none j pos') (Pq ta):=by
 intro pins s σ H Q I h;refine thn (ha pins s σ H _ I h) λv s1 ⟨x,H1,I1,r1,q1⟩=>?_;exact Constant_none (isnot_none_gen ⟨.bl _,H1,I1,by rw[r1.none_iff];rfl,q1⟩)
noncomputable def tB(t:TE):TT:=λσ H Q=>t σ H λx H1=>∃c,x=.bl c/\Q c H1
def NL{op:CmpOp}{t:TE}(h:PC X op a b t)(h1:behindInMarks op b=false:=by first|exact VV _ 107 107|rfl):PT X (.Compare a [op] [b] pos) (tB t):=by
 intro pins s σ H Q I hw;refine wpAny_isTrue_Compare1 (thn (h pins s σ H _ I hw) λv s1 h1=>thn h1 λu s2 h2=>thn h2 λc s3 ⟨x,H1,I1,r1,q1⟩=>?_) h1;obtain⟨d,rfl,q⟩:=q1;cases r1;exact jv ⟨H1,I1,q⟩
variable{tA tB':TT}{rest:List Expr}
noncomputable def UO(t u:TT):TT:=λσ H Q=>t σ H λc H1=>if c=true then u σ H1 Q else Q false H1
noncomputable def tOr(t u:TT):TT:=λσ H Q=>t σ H λc H1=>if c=true then Q true H1 else u σ H1 Q
noncomputable def UH(t:TT):TT:=λσ H Q=>t σ H λc H1=>Q (!c) H1
def YV(ha:PT X a tA):PW X (.BoolOp .And [a] pos) tA:=by
 intro wh pins s σ H Q I h;refine isTrue_and (thn (ha pins s σ H Q I h) λc s1 e=>?_);cases c with
 |true=>exact isTrue_and_nil e
 |false=>exact e
def bc(ha:PT X a tA):PW X (.BoolOp .Or [a] pos) tA:=by
 intro wh pins s σ H Q I h;refine isTrue_or (thn (ha pins s σ H Q I h) λc s1 e=>?_);cases c with
 |false=>exact isTrue_or_nil e
 |true=>exact e
def be(ha:PT X a tA)(hb:PW X (.BoolOp .And (b::rest) pos) tB'):PW X (.BoolOp .And (a::b::rest) pos) (UO tA tB'):=by
 intro wh pins s σ H Q I h;refine isTrue_and (thn (ha pins s σ H _ I h) λc s1 ⟨H1,I1,q1⟩=>?_);cases c with
 |true=>exact hb wh pins s1 σ H1 Q I1 q1
 |false=>exact⟨H1,I1,q1⟩
def eP(ha:PT X a tA)(hb:PW X (.BoolOp .Or (b::rest) pos) tB'):PW X (.BoolOp .Or (a::b::rest) pos) (tOr tA tB'):=by
 intro wh pins s σ H Q I h;refine isTrue_or (thn (ha pins s σ H _ I h) λc s1 ⟨H1,I1,q1⟩=>?_);cases c with
 |true=>exact⟨H1,I1,q1⟩
 |false=>exact hb wh pins s1 σ H1 Q I1 q1
def bf(ha:PT X a tA):PT X (.UnaryOp .Not a pos) (UH tA):=by
 intro pins s σ H Q I h;exact isTrue_not (ha pins s σ H (λc H1=>Q (!c) H1) I h)
noncomputable def Pv(ta tb:TE):TE:=λσ H Q=>ta σ H λx H1=>∃c,x=.bl c/\if c=true then tb σ H1 Q else Q (.bl false) H1
noncomputable def Pp(ta:TE):TE:=λσ H Q=>ta σ H λx H1=>∃c,x=.bl c/\Q (.bl (!c)) H1
def c7{op}{t:TE}(h:PE X a t):PE X (.BoolOp op [a] pos) t:=λpins s σ H Q I hw=>BoolOp_one (h pins s σ H Q I hw)
def cF(ha:PE X a ta)(hb:PE X (.BoolOp .And (b::rest) pos) tb):PE X (.BoolOp .And (a::b::rest) pos) (Pv ta tb):=by
 intro pins s σ H Q I h;refine BoolOp_and (thn (ha pins s σ H _ I h) λv s1 ⟨x,H1,I1,r1,q1⟩=>?_);obtain⟨c,rfl,q1⟩:=q1;cases r1;refine jv ?_;cases c with
 |true=>exact hb pins s1 σ H1 Q I1 q1
 |false=>exact⟨.bl false,H1,I1,rfl,q1⟩
def c8(ha:PE X a ta):PE X (.UnaryOp .Not a pos) (Pp ta):=by
 intro pins s σ H Q I h;refine UnaryOp_ (thn (ha pins s σ H _ I h) λv s1 ⟨x,H1,I1,r1,q1⟩=>?_);obtain⟨c,rfl,q1⟩:=q1;cases r1;exact not_of (jv ⟨.bl (!c),H1,I1,rfl,q1⟩)
noncomputable def tIf(t:TT)(ta tb:TE):TE:=λσ H Q=>t σ H λc H1=>if c=true then ta σ H1 Q else tb σ H1 Q
def VL{c:Expr}(hc:PT X c tA)(ha:PE X a ta)(hb:PE X b tb):PE X (.IfExp c a b pos) (tIf tA ta tb):=by
 intro pins s σ H Q I h;refine wpAny_IfExp (thn (hc pins s σ H _ I h) λd s1 ⟨H1,I1,q1⟩=>?_);cases d with
 |true=>exact ha pins s1 σ H1 Q I1 q1
 |false=>exact hb pins s1 σ H1 Q I1 q1
end
def SqL(K:Frag)(H:Hp)(a:Addr)(xs:List V):Prop:=
 Rd H a (.lst xs) ∨
  ∃(o:Obj) (its:Array Value) (n:Nat),K.lookup a=some o/\o.cls=.type "list"/\o.dict=none/\o.data=.seq its n/\its.size<=sizeLine/\Vals xs its.toList
def SqT(K:Frag)(H:Hp)(a:Addr)(xs:List V):Prop:=
 Rd H a (.tup xs) ∨
  ∃(o:Obj) (its:Array Value) (n:Nat),K.lookup a=some o/\o.cls=.type "tuple"/\o.dict=none/\o.data=.seq its n/\its.size<=sizeLine/\Vals xs its.toList
noncomputable def gJ:Value->Option V
 |.none=>some .non
 |.bool b=>some (.bl b)
 |.int i _=>some (.int i)
 |.str x _=>some (.str x)
 |.bytes b _=>some (.byt b)
 |.float b _=>some (.flt b)
 |.ref a=>some (.ref a)
 |.type n=>some (.ty n)
 |_=>none
def RelV.abs{x:V}{u:Value}(r:RelV x u):gJ u=some x:=by
 cases x with
 |non=>cases r;rfl
 |bl _=>cases r;rfl
 |int _=>obtain⟨t,rfl⟩:=r;rfl
 |str _=>obtain⟨t,rfl⟩:=r;rfl
 |byt _=>obtain⟨t,rfl⟩:=r;rfl
 |flt _=>obtain⟨t,rfl⟩:=r;rfl
 |ref _=>cases r;rfl
 |ty _=>cases r;rfl
theorem RelV.inj{x y:V}{u:Value}(r:RelV x u)(q:RelV y u):x=y:=111 (r.abs.symm.trans q.abs)
theorem Vals.inj:∀{xs ys:List V} {us:List Value},Vals xs us->Vals ys us->xs=ys
 |_,_,_,.nil,.nil=>rfl
 |_,_,_,.cons r t,.cons r' t'=>by rw[r.inj r',Vals.inj t t']
section
variable{X:Cx}{pins:List (Addr×Obj)}{σ:St}{H:Hp}{s:Shared}{a:Addr}{xs ys:List V}
def SqL.of{K:Frag}(h:H a=some (.lst xs)):SqL K H a xs:=.inl (.inl h)
def SqT.of{K:Frag}(h:H a=some (.tup xs)):SqT K H a xs:=.inl (.inl h)
def Inv.list(I:Inv X pins σ H s)(h:SqL X.K H a xs):∃its:List Value,Vals xs its/\PlainL s.heap a its.toArray/\105<=sizeLine:=by
 rcases h with h|⟨o,its,n,hk,hc,hd,hs,hz,r⟩
 .obtain⟨z,its,n,r,e⟩:=h.ok I.hok;exact⟨its,r,⟨_,n,e,rfl,rfl,rfl⟩,z⟩
 .refine⟨its.toList,r,⟨o,n,I.kIn a o hk,hc,hd,by simpa using hs⟩,?_⟩;have e:=r.length;simp only[Array.length_toList]at e;omega
def Inv.tuple(I:Inv X pins σ H s)(h:SqT X.K H a xs):∃its:List Value,Vals xs its/\IsTup s.heap a its.toArray/\105<=sizeLine:=by
 rcases h with h|⟨o,its,n,hk,hc,_,hs,hz,r⟩
 .obtain⟨z,its,r,p⟩:=h.ok I.hok;exact⟨its,r,p.t,z⟩
 .refine⟨its.toList,r,⟨o,I.kIn a o hk,hc,n,by simpa using hs⟩,?_⟩;have e:=r.length;simp only[Array.length_toList]at e;omega
def Inv.list_inj(I:Inv X pins σ H s)(h:SqL X.K H a xs)(h':SqL X.K H a ys):xs=ys:=by
 obtain⟨its,r,⟨o,n,e,_,_,d⟩,_⟩:=I.list h;obtain⟨its',r',⟨o',n',e',_,_,d'⟩,_⟩:=I.list h';rw[e]at e';cases e';rw[d]at d'
 injection d' with d1 _
 have:its=its':=by simpa using j7 Array.toList d1
 subst this;exact r.inj r'
def Inv.tuple_inj(I:Inv X pins σ H s)(h:SqT X.K H a xs)(h':SqT X.K H a ys):xs=ys:=by
 obtain⟨its,r,⟨o,e,_,n,d⟩,_⟩:=I.tuple h;obtain⟨its',r',⟨o',e',_,n',d'⟩,_⟩:=I.tuple h';rw[e]at e';cases e';rw[d]at d'
 injection d' with d1 _
 have:its=its':=by simpa using j7 Array.toList d1
 subst this;exact r.inj r'
end
noncomputable abbrev Cx.wish(X:Cx)(E:Value->Shared->Prop):Cx:={ X with xe:=E }
abbrev Cx.nox(X:Cx):Cx:=X.wish λ_ _=>False
theorem Cx.Ok.wish{X:Cx}(ok:X.Ok)(E:Value->Shared->Prop):(X.wish E).Ok:=
 ⟨ok.mod,ok.kind,ok.glob,ok.blt,ok.above,ok.inj,ok.has,ok.cab,ok.hd,ok.frames,ok.stk,ok.exf,ok.bs,ok.bsz,ok.noex,ok.exfs,ok.funs,ok.frf⟩
def Cx.Ok.unwish{X:Cx}{E:Value->Shared->Prop}(ok:(X.wish E).Ok):X.Ok:=
 ⟨ok.mod,ok.kind,ok.glob,ok.blt,ok.above,ok.inj,ok.has,ok.cab,ok.hd,ok.frames,ok.stk,ok.exf,ok.bs,ok.bsz,ok.noex,ok.exfs,ok.funs,ok.frf⟩
section
variable{X:Cx}{pins:List (Addr×Obj)}{σ:St}{H:Hp}{s:Shared}{E:Value->Shared->Prop}
theorem Inv.wish(I:Inv X pins σ H s)(E:Value->Shared->Prop):Inv (X.wish E) pins σ H s:=⟨I.ok.wish E,I.os,I.bare,I.base,I.loc,I.cell,I.free,I.freeC,I.pin,I.hok,I.len⟩
theorem Inv.unwish(I:Inv (X.wish E) pins σ H s):Inv X pins σ H s:=⟨I.ok.unwish,I.os,I.bare,I.base,I.loc,I.cell,I.free,I.freeC,I.pin,I.hok,I.len⟩
theorem SP.unwish{D:Ends}{f:Flow}{s':Shared}(h:SP (X.wish E) pins D f s'):SP X pins D f s':=by
 cases f with
 |next=>obtain⟨σ',H',I,q⟩:=h;exact⟨σ',H',I.unwish,q⟩
 |brk=>obtain⟨σ',H',I,q⟩:=h;exact⟨σ',H',I.unwish,q⟩
 |cont=>obtain⟨σ',H',I,q⟩:=h;exact⟨σ',H',I.unwish,q⟩
 |ret u=>obtain⟨v,σ',H',I,r,q⟩:=h;exact⟨v,σ',H',I.unwish,r,q⟩
theorem PSs.nox{st:List Stmt}{t:TS}(h:PSs X.nox st t):PSs X st t:=λpins s σ H D I hw=>
 iX (h pins s σ H D (I.wish _) hw) (λ_ _ q=>q.unwish) λ_ _ z=>False.elim z
end
section
variable{X:Cx}{st:Stmt}{rest:List Stmt}{t u:TS}{e:Expr}{te:TE}{pos:Pos}
noncomputable def Hk:TS:=λD σ H=>D.nx σ H
noncomputable def Mf(t u:TS):TS:=λD σ H=>t { D with nx:=u D } σ H
def Ou:PSs X [] Hk:=λ_ _ σ H _ I h=>jT ⟨σ,H,I,h⟩
def VE(h1:PS X st t)(h2:PSs X rest u):PSs X (st::rest) (Mf t u):=by
 intro pins s σ H D I h;refine k6 (thn (h1 pins s σ H { D with nx:=u D } I h) λf s1 q=>?_);cases f with
 |next=>
  obtain⟨σ',H',I',q⟩:=q;exact h2 pins s1 σ' H' D I' q
 |ret v=>exact q
 |brk=>exact q
 |cont=>exact q
def Ot(h1:PS X st t):PSs X [st] t:=by
 intro pins s σ H D I h;refine k6 (thn (h1 pins s σ H D I h) λf s1 q=>?_);cases f with
 |next=>exact jT q
 |ret v=>exact q
 |brk=>exact q
 |cont=>exact q
def Yb:PS X (.Pass pos) Hk:=λ_ _ σ H _ I h=>wpAny_Pass ⟨σ,H,I,h⟩
def Inv.quiet{pins:List (Addr×Obj)}{σ:St}{H:Hp}{s:Shared}(I:Inv X pins σ H s):interactive X.env=false:=by simp[interactive,I.ok.kind]
noncomputable def Pr(te:TE):TS:=λD σ H=>te σ H λ_ H1=>D.nx σ H1
def Yc(he:PE X e te)(hs:swapsWith e none pos.line X.env=pure false:=by rfl):PS X (.Expr e pos) (Pr te):=by
 intro pins s σ H D I h;exact wpAny_Expr_any (thn (he pins s σ H _ I h) λv s1 ⟨x,H1,I1,r1,q1⟩=>⟨σ,H1,I1,q1⟩) I.quiet hs
noncomputable def Ij(te:TE):TS:=λD σ H=>te σ H D.rt
def bh(he:PE X e te):PS X (.Return (some e) pos) (Ij te):=by
 intro pins s σ H D I h;exact wpAny_Return_some (thn (he pins s σ H _ I h) λv s1 ⟨x,H1,I1,r1,q1⟩=>⟨x,σ,H1,I1,r1,q1⟩)
noncomputable def Mh(c:TT)(t u:TS):TS:=λD σ H=>c σ H λb H1=>if b=true then t D σ H1 else u D σ H1
def eQ{c:Expr}{a b:List Stmt}{tc:TT}(hc:PT X c tc)(ha:PSs X a t)(hb:PSs X b u):PS X (.If c a b pos) (Mh tc t u):=by
 intro pins s σ H D I h;refine wpAny_If (thn (hc pins s σ H _ I h) λd s1 ⟨H1,I1,q1⟩=>?_);cases d with
 |true=>exact ha pins s1 σ H1 D I1 q1
 |false=>exact hb pins s1 σ H1 D I1 q1
noncomputable def JX:TS:=λ_ _ _=>False
def VG:PS X st JX:=λ_ _ _ _ _ _ h=>h.elim
end
noncomputable abbrev TG:=V->St->Hp->(St->Hp->Prop)->Prop
noncomputable abbrev TGs:=List V->St->Hp->(St->Hp->Prop)->Prop
def PG(X:Cx)(target:Expr)(t:TG):Prop:=
 ∀(pins:List (Addr×Obj)) (s:Shared) (σ:St) (H:Hp) (v:V) (u:Value) (Q:St->Hp->Prop),Inv X pins σ H s->RelV v u->t v σ H Q ->
   wpAny 54 X.A (assign target X.env u) (λ_ s'=>∃σ' H',Inv X pins σ' H' s'/\Q σ' H') X.xe s
def PGs(X:Cx)(ts:List Expr)(t:TGs):Prop:=
 ∀(pins:List (Addr×Obj)) (s:Shared) (σ:St) (H:Hp) (vs:List V) (us:List Value) (Q:St->Hp->Prop),Inv X pins σ H s->Vals vs us->t vs σ H Q ->
   wpAny 54 X.A (assignInOrder ((assignEach ts X.env).map (·.2)) us) (λ_ s'=>∃σ' H',Inv X pins σ' H' s'/\Q σ' H') X.xe s
noncomputable abbrev OC:=V->V->V->Hp->(Hp->Prop)->Prop
def WK(X:Cx)(t:OC):Prop:=
 ∀(pins:List (Addr×Obj)) (s:Shared) (σ:St) (H:Hp) (o i v:V) (ov iv u:Value) (Q:Hp->Prop),Inv X pins σ H s->RelV o ov->RelV i iv->RelV v u->t o i v H Q ->
   wpAny 54 X.A (setItem ov iv u) (λ_ s'=>∃H',Inv X pins σ H' s'/\Q H') X.xe s
noncomputable abbrev TIp:=V->V->Hp->VK->Prop
def PIp(X:Cx)(op:Operator)(t:TIp):Prop:=
 ∀(pins:List (Addr×Obj)) (s:Shared) (σ:St) (H:Hp) (x y:V) (v u:Value) (Q:VK),Inv X pins σ H s->RelV x v->RelV y u->t x y H Q ->
   wpAny 54 X.A (inplaceOp op v u) (EP X pins σ Q) X.xe s
section
variable{X:Cx}{pos:Pos}
noncomputable def E1(i:Nat):TG:=λv σ H Q=>Q (σ.set i (some v)) H
def Ym{i:Nat}{x:Str}(hN:X.N.Nodup)(hi:X.N[i]?=some x)(hx:Loc X.env.scope x)(hf:X.fn x=true∨X.env.scope.names.lookup x=some .local:=by first|exact .inl rfl|exact .inr rfl|assumption):PG X (.Name x pos) (E1 i):=by
 intro pins s σ H v u Q I r h;exact wpAny_assign_Name (GF I hN hi hx r (λs' I'=>⟨_,H,I',h⟩) hf)
noncomputable def Vu:TGs:=λvs σ H Q=>vs=[]/\Q σ H
noncomputable def Qp(t:TG)(u:TGs):TGs:=λvs σ H Q=>∃v r,vs=v::r/\t v σ H λσ' H'=>u r σ' H' Q
def Yk:PGs X [] Vu:=by
 intro pins s σ H vs us Q I r h;obtain⟨e,h⟩:=h;subst e;cases r;exact assignInOrder_nil ⟨σ,H,I,h⟩
def VJ{e:Expr}{es:List Expr}{t:TG}{u:TGs}(h1:PG X e t)(h2:PGs X es u)
 (hs:(assignEach (e::es) X.env).map (·.2)=assign e X.env::(assignEach es X.env).map (·.2):=by rfl):PGs X (e::es) (Qp t u):=by
 intro pins s σ H vs us Q I r h;obtain⟨v,vr,e1,h⟩:=h;subst e1;cases r with
 |cons r rr=>
  rw[hs];refine assignInOrder_cons (thn (h1 pins s σ H _ _ _ I r h) λ_ s1 ⟨σ1,H1,I1,q1⟩=>?_);exact h2 pins s1 σ1 H1 _ _ Q I1 rr q1
noncomputable def Qn(K:Frag)(n:Nat)(t:TGs):TG:=λv σ H Q=>∃a xs,v=.ref a/\SqT K H a xs/\105=n/\t xs σ H Q
def br{es:List Expr}{k:Nat}{t:TGs}{n:Nat}(hc:X.calm=true)(h:PGs X es t)
 (hn:(assignEach es X.env).length=n:=by rfl) (hst:(assignEach es X.env).findIdx? (·.1)=none:=by rfl):PG X (.Tuple es k pos) (Qn X.K n t):=by
 intro pins s σ H v u Q I r hw;obtain⟨a,xs,e1,hq,hl,hw⟩:=hw;subst e1;cases r;obtain⟨its,rv,ht,hz⟩:=I.tuple hq;refine assign_Tuple_tuple (I.ok.hd hc) ht (by simp[hn,<- hl,rv.length]) hst λh' hx=>?_;have I1:Inv X pins σ H { s with heap:=h' }:=I.kept (t':=s.toks) λb o e=>hx b o (iu (58 e)) e;exact h pins _ σ H xs _ Q I1 (by simpa using rv) hw
noncomputable def Vt(to ti:TE)(t:OC):TG:=λv σ H Q=>to σ H λo H1=>ti σ H1 λi H2=>t o i v H2 λH3=>Q σ H3
def bu{o i:Expr}{to ti:TE}{t:OC}(ho:PE X o to)(hi:PE X i ti)(hs:WK X t)
 (ha:∀v,assign (.Subscript o i pos) X.env v=(do
  let ov <- holding [v] (eval o X.env)
  let iv <- holding [v,ov] (eval i X.env)
  standAt pos
  holding [v,ov,iv] (setItem ov iv v)
  release [v,ov,iv] []):=by intro _;rfl):PG X (.Subscript o i pos) (Vt to ti t):=by
 intro pins s σ H v u Q I r h;rw[ha];refine ic (ja (thn (ho pins s σ H _ I h) λov s1 ⟨x,H1,I1,r1,q1⟩=>?_));refine ic (ja (thn (hi pins s1 σ H1 _ I1 q1) λiv s2 ⟨y,H2,I2,r2,q2⟩=>?_));refine ic (jw (ic (ja (thn (hs pins s2 σ H2 x y v ov iv u _ I2 r1 r2 r q2) λ_ s3 ⟨H3,I3,q3⟩=>?_))));exact wpAny_release ⟨σ,H3,I3,q3⟩
noncomputable def El(te:TE)(g:TG):TS:=λD σ H=>te σ H λx H1=>g x σ H1 D.nx
def Sd{tg e:Expr}{te:TE}{g:TG}(he:PE X e te)(hg:PG X tg g)(hs:swapsWithSole [tg] e pos.line X.env=pure false:=by rfl)(hw:swappedStores [tg] e X.env=pure none:=by rfl)
 (h1:(assignEach [tg] X.env).map (·.2)=[assign tg X.env]:=by rfl):PS X (.Assign [tg] e pos) (El te g):=by
 intro pins s σ H D I h;refine wpAny_Assign_stores (thn (he pins s σ H _ I h) λv s1 ⟨x,H1,I1,r1,q1⟩=>?_) hs hw;rw[h1];exact thn (hg pins s1 σ H1 x v _ I1 r1 q1) λ_ s2 q=>q
def bg{i:Nat}{x:Str}{e:Expr}{te:TE}{pos':Pos}(hN:X.N.Nodup)(hi:X.N[i]?=some x)(hx:Loc X.env.scope x)(he:PE X e te)(hs:swapsWith e (some (.Name x pos')) pos.line X.env=pure false:=by rfl)(hf:X.fn x=true∨X.env.scope.names.lookup x=some .local:=by first|exact .inl rfl|exact .inr rfl|assumption):
 PS X (.Assign [.Name x pos'] e pos) (El te (E1 i)):=by
 intro pins s σ H D I h;refine wpAny_Assign_Name (thn (he pins s σ H _ I h) λv s1 ⟨y,H1,I1,r1,q1⟩=>?_) hs;exact GF I1 hN hi hx r1 (λs2 I2=>⟨_,H1,I2,q1⟩) hf
noncomputable def Pu(to ti te:TE)(tget:V->V->Hp->VK->Prop)(tip:TIp)(tset:OC):TS:=λD σ H=>to σ H λo H1=>ti σ H1 λi H2=>tget o i H2 λx H3=>te σ H3 λy H4=>tip x y H4 λz H5=>tset o i z H5 λH6=>D.nx σ H6
def dY(X:Cx)(t:V->V->Hp->VK->Prop):Prop:=
 ∀(pins:List (Addr×Obj)) (s:Shared) (σ:St) (H:Hp) (o i:V) (ov iv:Value) (Q:VK),Inv X pins σ H s->RelV o ov->RelV i iv->t o i H Q ->
   wpAny 54 X.A (getItem ov iv) (EP X pins σ Q) X.xe s
def Ye{o i e:Expr}{to ti te:TE}{tget:V->V->Hp->VK->Prop}{tip:TIp}{tset:OC}{op:Operator}{tpos:Pos}(ho:PE X o to)(hi:PE X i ti)(hg:dY X tget)(he:PE X e te)(hp:PIp X op tip)(hs:WK X tset)
 (ha:∀ov iv new,augStore i ov iv new=(do holding [new,ov,iv] (setItem ov iv new);release [new,ov,iv] [];pure .next):=by intros;rfl):PS X (.AugAssign (.Subscript o i tpos) op e pos) (Pu to ti te tget tip tset):=by
 intro pins s σ H D I h;refine wpAny_AugAssign_SubscriptAny (thn (ho pins s σ H _ I h) λov s1 ⟨x1,H1,I1,r1,q1⟩=>?_) ha;refine thn (hi pins s1 σ H1 _ I1 q1) λiv s2 ⟨x2,H2,I2,r2,q2⟩=>?_;refine thn (hg pins s2 σ H2 x1 x2 ov iv _ I2 r1 r2 q2) λold s3 ⟨x3,H3,I3,r3,q3⟩=>?_;refine thn (he pins s3 σ H3 _ I3 q3) λv s4 ⟨x4,H4,I4,r4,q4⟩=>?_;refine thn (hp pins s4 σ H4 x3 x4 old v _ I4 r3 r4 q4) λnew s5 ⟨x5,H5,I5,r5,q5⟩=>?_;exact thn (hs pins s5 σ H5 x1 x2 x5 ov iv new _ I5 r1 r2 r5 q5) λ_ s6 ⟨H6,I6,q6⟩=>⟨σ,H6,I6,q6⟩
noncomputable def ipI(f:Int->Int->Int):TIp:=λx y H Q=>∃i j,x=.int i/\y=.int j/\Q (.int (f i j)) H
def cz:PIp X .Sub (ipI λi j=>i-j):=by
 intro pins s σ H x y v u Q I r1 r2 h;obtain⟨i,j,e1,e2,q⟩:=h;subst e1;subst e2;obtain⟨t,rfl⟩:=r1;obtain⟨t',rfl⟩:=r2;exact isub_int ⟨.int _,H,I.tok _,⟨_,rfl⟩,q⟩
end
section
variable{X:Cx}{pos:Pos}
noncomputable def Md(c:TT)(tb:TS):TS:=λD σ H=>∃W:Nat->St->Hp->Prop,(∃m,W m σ H)/\∀m σ H,W m σ H ->
 c σ H λb H1=>if b=true then ∃N:St->Hp->Prop,(∀σ' H',N σ' H'->∃m',m'<m/\W m' σ' H')/\tb { D with nx:=N,ct:=N,bk:=D.nx } σ H1 else D.nx σ H1
def VF{c:Expr}{body:List Stmt}{tc:TT}{tb:TS}(hp:PassesOwn 54 X.A X.env X.xe)(hc:PT X c tc)(hb:PSs X body tb):PS X (.While c body [] pos) (Md tc tb):=by
 intro pins s σ H D I h;obtain⟨W,⟨m0,w0⟩,turn⟩:=h;refine wpAny_While (codeAny_whileLoop (λn s'=>∃σ' H',Inv X pins σ' H' s'/\W n σ' H') ?_ m0 ⟨σ,H,I,w0⟩);rintro n s1 ⟨σ1,H1,I1,w1⟩;refine jP hp (thn (hc pins s1 σ1 H1 _ I1 (turn n σ1 H1 w1)) λb s2 ⟨H2,I2,q2⟩=>?_);cases b with
 |true=>
  obtain⟨N,hN,q2⟩:=q2;rw[ia rfl];refine jP hp (thn (hb pins s2 σ1 H2 _ I2 q2) λf s3 q3=>?_);cases f with
  |next=>
   obtain⟨σ3,H3,I3,n3⟩:=q3;obtain⟨m',hm,w3⟩:=hN σ3 H3 n3;exact⟨m',hm,σ3,H3,I3,w3⟩
  |cont=>
   obtain⟨σ3,H3,I3,n3⟩:=q3;obtain⟨m',hm,w3⟩:=hN σ3 H3 n3;exact⟨m',hm,σ3,H3,I3,w3⟩
  |brk=>exact q3
  |ret v=>exact q3
 |false=>
  rw[ie Bool.false_ne_true];exact jT ⟨σ1,H2,I2,q2⟩
end
structure It where
 go:Nat->Hp->Prop
 yld:Nat->Hp->V->Hp->Prop
 stop:Nat->Hp->Prop
def FpOk(X:Cx)(pins:List (Addr×Obj))(H:Hp)(b:Addr):Prop:=
 H b=none/\b≠X.env.locals/\b∉X.fs/\(b∈X.ex∨X.s₀.heap.objs.size<=b)/\(∀x c,X.env.cells.lookup x=some c->c≠b)/\∀p∈X.pn++pins,p.1≠b
def Inv.fpOk{X:Cx}{pins:List (Addr×Obj)}{σ:St}{H H':Hp}{s:Shared}{b:Addr}(I:Inv X pins σ H s)(hb:49<=b)(hn:H' b=none):FpOk X pins H' b:=by
 refine⟨hn,jF (iZ I.lt hb),I.nofs hb,.inr (iw I.sz hb),λx c e z=>?_,λp hp z=>?_⟩
 .obtain⟨v,q⟩:=I.cell x c e;exact absurd (iZ q.lt (by rw[z];exact hb)) (jd _)
 .exact absurd (iZ (58 (I.pin p hp).1) (by rw[z];exact hb)) (jd _)
structure Turn(P:Program)(w:World)(K:Frag)(tg:Expr)(J:It)(fp:List Addr)(it:Addr)(tn:Nat->Heap->Prop):Prop where
 mem:it∈fp
 obj:∀i h,tn i h->∀b∈fp,∃o,h.get? b=some o/\∀v,o.data≠.cell v
 keep:∀i h h',tn i h->(∀b∈fp,∀o,h.get? b=some o->h'.get? b=some o)->tn i h'
 item:∀(X:Cx),X.prog=P->X.w=w->X.K=K->X.calm=true->∀(i:Nat) (pins:List (Addr×Obj)) (s:Shared) (σ:St) (H:Hp) (E:Value->Shared->Prop),Inv X pins σ H s->(∀b∈fp,FpOk X pins H b)->tn i s.heap->J.go i H ->
  wpAny (model P w) X.A (pyNext (.ref it)) (λr s1=>∃u,r=some u /\
   wpAny (model P w) X.A (letOwnedTupleGo tg (.ref it) u) (λ_ s2=>∃x H',Inv X pins σ H' s2/\RelV x u/\J.yld i H x H'/\tn (i+1) s2.heap/\∀b∈fp,H' b=none) E s1) E s
 done:∀(X:Cx),X.prog=P->X.w=w->X.K=K->X.calm=true->∀(i:Nat) (pins:List (Addr×Obj)) (s:Shared) (σ:St) (H:Hp) (E:Value->Shared->Prop),Inv X pins σ H s->(∀b∈fp,FpOk X pins H b)->tn i s.heap->J.stop i H ->
  wpAny (model P w) X.A (pyNext (.ref it)) (λr s1=>r=none/\Inv X pins σ H s1) E s
 self:∀(A:Around) (i:Nat) (s:Shared) (Q:Value->Shared->Prop) (E:Value->Shared->Prop),tn i s.heap->Q (.ref it) s->wpAny (model P w) A (pyIter (.ref it)) Q E s
noncomputable abbrev TI:=St->Hp->(It->Hp->Prop)->Prop
def PIE(X:Cx)(pins:List (Addr×Obj))(σ:St)(tg:Expr)(R:It->Hp->Prop)(itv:Value)(s2:Shared):Prop:=
 ∃(it:Addr) (fp:List Addr) (tn:Nat->Heap->Prop) (J:It) (H':Hp),itv=.ref it/\Inv X pins σ H' s2/\Turn X.prog X.w X.K tg J fp it tn/\tn 0 s2.heap/\(∀b∈fp,FpOk X pins H' b)/\R J H'
def PI(X:Cx)(tg iter:Expr)(wi:TI):Prop:=
 ∀(pins:List (Addr×Obj)) (s:Shared) (σ:St) (H:Hp) (R:It->Hp->Prop),Inv X pins σ H s->wi σ H R ->
   wpAny 54 X.A (eval iter X.env) (λv s1=>wpAny 54 X.A (pyIter v) (PIE X pins σ tg R) X.xe s1) X.xe s
def Qm{M:Model}{A:Around}{E:Value->Shared->Prop}{s:Shared}{tg:Expr}{it:Addr}{u:Value}{o:Obj}{n:String}{vs:Array Value}{Q:Unit->Shared->Prop}(ho:s.heap.get? it=some o)(hc:o.cls=.type n)(hd:o.data=.fields vs)
 (hn:["enumerate","zip","dict_itemiterator","dict_reverseitemiterator","odict_iterator","itertools.zip_longest","itertools.pairwise"].contains n=false) (hQ:Q () s):wpAny M A (letOwnedTupleGo tg (.ref it) u) Q E s:=by
 unfold letOwnedTupleGo;cases tg<;>first
  |exact ik hQ
  | (cases u<;>first
   |exact ik hQ
   | (refine ic (wpAny_load ho ?_)
      rw[hc,hd];show wpAny M A (if(["enumerate","zip","dict_itemiterator","dict_reverseitemiterator","odict_iterator","itertools.zip_longest","itertools.pairwise"].contains n&&vs[0]?==some (rawInt _))=true then _ else _) Q E s;rw[ie (by intro h;rw[hn,Bool.false_and]at h;cases h)];exact ik hQ))
noncomputable def Itl(K:Frag)(a:Addr):It:=
 ⟨λi H=>∃xs x,SqL K H a xs/\xs[i]?=some x,λi H x H'=>H'=H/\∀xs,SqL K H a xs->xs[i]?=some x,λi H=>∃xs,SqL K H a xs/\105<=i⟩
noncomputable def Itt(K:Frag)(a:Addr):It:=
 ⟨λi H=>∃xs x,SqT K H a xs/\xs[i]?=some x,λi H x H'=>H'=H/\∀xs,SqT K H a xs->xs[i]?=some x,λi H=>∃xs,SqT K H a xs/\105<=i⟩
noncomputable def Itr(lo:Int)(n:Nat):It:=⟨λi _=>i<n,λi H x H'=>H'=H/\x=.int (lo+i),λi _=>n<=i⟩
def Rz{P:Program}{w:World}{K:Frag}{tg:Expr}(a it:Addr):Turn P w K tg (Itl K a) [it] it (λi h=>h.IsListIter it a i) where
 mem:=by simp
 obj:=λi h st b hb=>by
  have e:b=it:=by simpa using hb
  subst e;obtain⟨o,e,c,d⟩:=st;exact⟨o,e,λv z=>by rw[d]at z;cases z⟩
 keep:=λi h h' st k=>st.at λo e=>k it 55 o e
 item:=by
  intro X hP hw hK hc i pins s σ H E I hf st hg;subst hP hw hK;obtain⟨xs,x,hq,hx⟩:=hg;obtain⟨its,rv,p,hz⟩:=I.list hq;obtain⟨u,hu,ru⟩:=rv.get hx;obtain⟨f0,f1,f2,f3,f4,f5⟩:=hf it 55;refine wpAny_pyNext_list_item st p.isList (x:=u) (by simpa using hu) λh' st' sb=>?_;have I1:Inv X pins σ H { s with heap:=h' }:=I.turned (t':=s.toks) (λb o hb e=>(sb.2 b hb).trans e) f0 f1 f3 f4 f5;obtain⟨o,e,c,d⟩:=id st';exact⟨u,rfl,Qm (s:={ s with heap:=h' }) e c d 107 ⟨x,H,I1,ru,⟨rfl,λys hy=>by rw[I.list_inj hy hq];exact hx⟩,st',λb hb=>(hf b hb).1⟩⟩
 done:=by
  intro X hP hw hK hc i pins s σ H E I hf st hg;subst hP hw hK;obtain⟨xs,hq,hx⟩:=hg;obtain⟨its,rv,p,hz⟩:=I.list hq;obtain⟨f0,f1,f2,f3,f4,f5⟩:=hf it 55;have hl:=rv.length;exact wpAny_pyNext_list_end (I.ok.hd hc) st p.isList 112 λh' eb=>⟨rfl,I.turned (t':=s.toks) (λb o hb e=>eb b o hb e) f0 f1 f3 f4 f5⟩
 self:=λ_ _ _ _ _ st h=>wpAny_pyIter_listiter st h
def Pf{P:Program}{w:World}{K:Frag}{tg:Expr}(a it:Addr):Turn P w K tg (Itt K a) [it] it (λi h=>h.IsTupleIter it a i) where
 mem:=by simp
 obj:=λi h st b hb=>by
  have e:b=it:=by simpa using hb
  subst e;obtain⟨o,e,c,d⟩:=st;exact⟨o,e,λv z=>by rw[d]at z;cases z⟩
 keep:=λi h h' st k=>st.at λo e=>k it 55 o e
 item:=by
  intro X hP hw hK hc i pins s σ H E I hf st hg;subst hP hw hK;obtain⟨xs,x,hq,hx⟩:=hg;obtain⟨its,rv,p,hz⟩:=I.tuple hq;obtain⟨u,hu,ru⟩:=rv.get hx;obtain⟨f0,f1,f2,f3,f4,f5⟩:=hf it 55;refine wpAny_pyNext_tuple_item st (show s.heap.IsTuple a its.toArray from p) (x:=u) (by simpa using hu) λh' st' sb=>?_;have I1:Inv X pins σ H { s with heap:=h' }:=I.turned (t':=s.toks) (λb o hb e=>(sb.2 b hb).trans e) f0 f1 f3 f4 f5;obtain⟨o,e,c,d⟩:=id st';exact⟨u,rfl,Qm (s:={ s with heap:=h' }) e c d 107 ⟨x,H,I1,ru,⟨rfl,λys hy=>by rw[I.tuple_inj hy hq];exact hx⟩,st',λb hb=>(hf b hb).1⟩⟩
 done:=by
  intro X hP hw hK hc i pins s σ H E I hf st hg;subst hP hw hK;obtain⟨xs,hq,hx⟩:=hg;obtain⟨its,rv,p,hz⟩:=I.tuple hq;obtain⟨f0,f1,f2,f3,f4,f5⟩:=hf it 55;have hl:=rv.length;exact wpAny_pyNext_tuple_end (I.ok.hd hc) st (show s.heap.IsTuple a its.toArray from p) 112 λh' eb=>⟨rfl,I.turned (t':=s.toks) (λb o hb e=>eb b o hb e) f0 f1 f3 f4 f5⟩
 self:=λ_ _ _ _ _ st h=>wpAny_pyIter_tupleiter st h
def Ph{P:Program}{w:World}{K:Frag}{tg:Expr}(it:Addr)(lo:Int)(n:Nat):Turn P w K tg (Itr lo n) [it] it (λi h=>IsRangeIter h it (lo+(i:Nat)*1) ((n:Int)-(i:Nat)) 1) where
 mem:=by simp
 obj:=λi h st b hb=>by
  have e:b=it:=by simpa using hb
  subst e;exact⟨_,st,λv z=>by
   have z':Data.fields _=Data.cell v:=z;cases z'⟩
 keep:=λi h h' st k=>k it 55 _ st
 item:=by
  intro X hP hw hK hc i pins s σ H E I hf st hg;subst hP hw hK;obtain⟨f0,f1,f2,f3,f4,f5⟩:=hf it 55;have W:=Walks.range (prog:=X.prog) (w:=X.w) (I.ok.hd hc) it lo 1 n;refine W.item i s _ _ hg st λv h' tk hv st' kk=>?_;obtain⟨t,rfl⟩:=hv;have I1:Inv X pins σ H { s with heap:=h',toks:=tk }:=I.turned (λb o hb e=>kk b o (by simpa using hb) e) f0 f1 f3 f4 f5;refine⟨_,rfl,Qm (s:={ s with heap:=h',toks:=tk }) (n:="range_iterator") st' rfl rfl 107 ⟨.int (lo+i),H,I1,⟨t,?_⟩,⟨rfl,rfl⟩,st',λb hb=>(hf b hb).1⟩⟩;rw[Int.mul_one]
 done:=by
  intro X hP hw hK hc i pins s σ H E I hf st hg;subst hP hw hK;obtain⟨f0,f1,f2,f3,f4,f5⟩:=hf it 55;exact wpAny_pyNext_range_end (I.ok.hd hc) st (by have:n<=i:=hg;omega) λh' eb=>⟨rfl,I.turned (t':=s.toks) (λb o hb e=>eb b o hb e) f0 f1 f3 f4 f5⟩
 self:=λ_ _ _ _ _ st h=>wpAny_pyIter_rangeiter st h
section
variable{X:Cx}{tg:Expr}
noncomputable def K2(K:Frag)(tl:TE):TI:=λσ H R=>tl σ H λx H1=>∃a,x=.ref a/\(∃xs,SqL K H1 a xs)/\R (Itl K a) H1
noncomputable def Ni(K:Frag)(tl:TE):TI:=λσ H R=>tl σ H λx H1=>∃a,x=.ref a/\(∃xs,SqT K H1 a xs)/\R (Itt K a) H1
def Yj{l:Expr}{tl:TE}(hl:PE X l tl):PI X tg l (K2 X.K tl):=by
 intro pins s σ H R I h;refine thn (hl pins s σ H _ I h) λv s1 ⟨x,H1,I1,r1,q1⟩=>?_;obtain⟨a,e,⟨xs,hq⟩,q⟩:=q1;subst e;cases r1;obtain⟨its,rv,p,hz⟩:=I1.list hq;refine jZ p.isList ?_;refine⟨s1.heap.objs.size,[s1.heap.objs.size],_,_,H1,rfl,I1.kept (t':=s1.toks) λb o e=>53 _ e,Rz a _,⟨_,115 _ rfl,rfl,rfl⟩,λb hb=>?_,q⟩;have e:b=s1.heap.objs.size:=by simpa using hb
 subst e;exact I1.fpOk (ig _) (I1.hok.fresh (ig _))
def bq{l:Expr}{tl:TE}(hl:PE X l tl):PI X tg l (Ni X.K tl):=by
 intro pins s σ H R I h;refine thn (hl pins s σ H _ I h) λv s1 ⟨x,H1,I1,r1,q1⟩=>?_;obtain⟨a,e,⟨xs,hq⟩,q⟩:=q1;subst e;cases r1;obtain⟨its,rv,p,hz⟩:=I1.tuple hq;refine wpAny_pyIter_tuple (show s1.heap.IsTuple a its.toArray from p) ?_;refine⟨s1.heap.objs.size,[s1.heap.objs.size],_,_,H1,rfl,I1.kept (t':=s1.toks) λb o e=>53 _ e,Pf a _,⟨_,115 _ rfl,rfl,rfl⟩,λb hb=>?_,q⟩;have e:b=s1.heap.objs.size:=by simpa using hb
 subst e;exact I1.fpOk (ig _) (I1.hok.fresh (ig _))
def Uo{pins:List (Addr×Obj)}{σ:St}{H:Hp}{s:Shared}{R:It->Hp->Prop}{E:Value->Shared->Prop}{lo hi:Int}{t u v:Tok}{tk:Nat}(I:Inv X pins σ H s)(h1:-(2^62)<=lo)(h2:lo<2^62)(h3:-(2^62)<=hi)(h4:hi<2^62)
 (q:R (Itr lo (hi-lo).toNat) H):wpAny 54 X.A (pyIter (.ref 49)) (PIE X pins σ tg R) E { s with heap:=s.heap.push { cls:=.type "range",data:=.fields #[.int lo t,.int hi u,.int 1 v] },toks:=tk }:=by
 refine wpAny_pyIter_range (IsRange.new ..) (small_one h1 h2 h3 h4) ?_;have I1:Inv X pins σ H { s with heap:=s.heap.push { cls:=.type "range",data:=.fields #[.int lo t,.int hi u,.int 1 v] },toks:=tk }:=I.kept λb o e=>53 _ e;refine⟨(s.heap.push { cls:=.type "range",data:=.fields #[.int lo t,.int hi u,.int 1 v] }).objs.size,[(s.heap.push { cls:=.type "range",data:=.fields #[.int lo t,.int hi u,.int 1 v] }).objs.size],_,_,H,rfl,
  I1.kept (t':=tk) λb o e=>53 _ e,Ph _ lo (hi-lo).toNat,?_,λb hb=>?_,q⟩
 .have e1:lo+((0:Nat):Int)*1=lo:=by simp
  have e2:(((hi-lo).toNat:Nat):Int)-((0:Nat):Int)=Builtin.Range.rangeSize lo hi 1:=by rw[rangeSize_one];split<;>omega
  show IsRangeIter _ _ (lo+((0:Nat):Int)*1) ((((hi-lo).toNat:Nat):Int)-((0:Nat):Int)) 1;rw[e1,e2];exact 115 _ rfl
 .have e:b=(s.heap.push { cls:=.type "range",data:=.fields #[.int lo t,.int hi u,.int 1 v] }).objs.size:=by simpa using hb
  subst e;exact I1.fpOk (ig _) (I1.hok.fresh (ig _))
noncomputable def Qk(ta:TA):TI:=λσ H R=>ta σ H λvs H1=>∃j:Int,vs=[.int j]/\-(2^62)<=j/\j<2^62/\R (Itr 0 j.toNat) H1
def Sf{a:Expr}{ta:TA}{p pos:Pos}(hg:Gl X "range")(hm:X.mg "range"=none)(ha:PA X [a] ta)(hs:starEach [a] X.env=[(false,eval a X.env)]:=by rfl):PI X tg (.Call (.Name "range" p) [a] [] pos) (Qk ta):=by
 intro pins s σ H R I h;refine Call_ (F4 I hg hm boot_range (PyProof.Rows.callWith_type1 (thn (ha pos pins s σ H _ I h) λus s1 ⟨vs,H1,I1,r1,q1⟩=>?_) hs rfl));obtain⟨j,e,q1,q2,q⟩:=q1;subst e;cases r1 with
 |cons r rr=>
  cases rr;obtain⟨t,rfl⟩:=r;exact call_range_1 (Uo I1 50 50 q1 q2 (by simpa using q))
noncomputable def UL(wi:TI)(g:TG)(tb:TS):TS:=λD σ H=>wi σ H λJ H1=>∃W:Nat->Nat->St->Hp->Prop,(∃m,W 0 m σ H1)/\∀i m σ H,W i m σ H ->
 (J.stop i H/\D.nx σ H)∨(J.go i H/\∃N:St->Hp->Prop,(∀σ' H',N σ' H'->∃m',m'<m/\W (i+1) m' σ' H')/\∀x H',J.yld i H x H'->g x σ H' λσ2 H2=>tb { D with nx:=N,ct:=N,bk:=D.nx } σ2 H2)
noncomputable def Gy(fp:List Addr)(h:Heap):List (Addr×Obj):=fp.filterMap λb=>(h.get? b).map λo=>(b,o)
def EV{fp:List Addr}{h:Heap}{b:Addr}{o:Obj}(hb:b∈fp)(e:h.get? b=some o):(b,o)∈Gy fp h:=List.mem_filterMap.mpr ⟨b,hb,by rw[e];rfl⟩
def Sr{fp:List Addr}{h:Heap}{p:Addr×Obj}(hp:p∈Gy fp h):p.1∈fp/\h.get? p.1=some p.2:=by
 obtain⟨b,hb,e⟩:=List.mem_filterMap.mp hp;cases q:h.get? b with
 |none=>rw[q]at e;cases e
 |some o=>
  rw[q]at e;have e':(b,o)=p:=111 e;subst e';exact⟨hb,q⟩
def Inv.pinned{pins:List (Addr×Obj)}{σ:St}{H:Hp}{s:Shared}{fp:List Addr}(I:Inv X pins σ H s)(hf:∀b∈fp,FpOk X pins H b)(ho:∀b∈fp,∃o,s.heap.get? b=some o/\∀v,o.data≠.cell v):Inv X (pins++Gy fp s.heap) σ H s:=
 I.pins_of λp hp=>(mem_append.mp hp).elim (λz=>I.pin p (iY _ z)) λz=>by
  obtain⟨hb,e⟩:=Sr z;obtain⟨f0,f1,f2,_⟩:=hf p.1 hb;obtain⟨o,e',d⟩:=ho p.1 hb;rw[e]at e';cases e';exact⟨e,f0,f1,f2,d⟩
def Inv.unpinned{pins pl:List (Addr×Obj)}{σ:St}{H:Hp}{s:Shared}(I:Inv X (pins++pl) σ H s):Inv X pins σ H s:=I.pins_of λp hp=>I.pin p (iY _ (jh _ hp))
def bj{iter:Expr}{body:List Stmt}{wi:TI}{g:TG}{tb:TS}{pos:Pos}(hp:PassesOwn 54 X.A X.env X.xe)(hc:X.calm=true)(hi:PI X tg iter wi)(hg:PG X tg g)(hb:PSs X body tb)
 (hs:∀x,foldedSetIterable iter X.env x=pure x:=by intro _;rfl):PS X (.For tg iter body [] pos) (UL wi g tb):=by
 intro pins s σ H D I h;refine wpAny_For (thn (hi pins s σ H _ I h) λv s1 h1=>thn h1 λitv s2 h2=>?_) hs;obtain⟨it,fp,tn,J,H2,e,I2,T,st2,f2,W,⟨m0,w0⟩,turn⟩:=h2;subst e
 -- what stays true of the iterator's objects through the loop
 have stat:∀{H':Hp},(∀b∈fp,H' b=none)->∀b∈fp,FpOk X pins H' b:=λhn b hb=>⟨hn b hb,(f2 b hb).2⟩
 refine codeAny_forLoop_any (λn s'=>∃i σ' H',Inv X pins σ' H' s'/\tn i s'.heap/\(∀b∈fp,H' b=none)/\W i n σ' H') ?_ m0 ⟨0,σ,H2,I2,st2,λb hb=>(f2 b hb).1,w0⟩;rintro n s3 ⟨i,σ3,H3,I3,st3,fr3,w3⟩;rcases turn i n σ3 H3 w3 with⟨stop,qn⟩|⟨go,N,hN,step⟩
 .refine jP hp (thn (T.done X rfl rfl rfl hc i pins s3 σ3 H3 X.xe I3 (stat fr3) st3 stop) λr s4 ⟨hr,I4⟩=>?_);subst hr;exact jT ⟨σ3,H3,I4,qn⟩
 .refine jP hp (thn (T.item X rfl rfl rfl hc i pins s3 σ3 H3 X.xe I3 (stat fr3) st3 go) λr s4 ⟨u,hr,h4⟩=>?_);subst hr;refine jP hp (thn h4 λ_ s5 ⟨x,H5,I5,r5,y5,st5,fr5⟩=>?_);have I5':=I5.pinned (stat fr5) (T.obj _ _ st5);refine jP hp (thn (hg _ s5 σ3 H5 x u _ I5' r5 (step x H5 y5)) λ_ s6 ⟨σ6,H6,I6,q6⟩=>?_);refine jP hp (thn (hb _ s6 σ6 H6 _ I6 q6) λf s7 q7=>?_);have again:∀{σ7:St} {H7:Hp},Inv X (pins++Gy fp s5.heap) σ7 H7 s7->N σ7 H7->∃m,m<n/\∃i σ' H',Inv X pins σ' H' s7/\tn i s7.heap/\(∀b∈fp,H' b=none)/\W i m σ' H':=λ{σ7 H7} I7 n7=>by
   obtain⟨m',hm,w7⟩:=hN σ7 H7 n7;refine⟨m',hm,i+1,σ7,H7,I7.unpinned,T.keep _ _ _ st5 λb hb o e=>(I7.pin (b,o) (iY _ (iY _ (EV hb e)))).1,λb hb=>?_,w7⟩;obtain⟨o,e,d⟩:=T.obj _ _ st5 b hb;exact(I7.pin (b,o) (iY _ (iY _ (EV hb e)))).2.1
  cases f with
  |next=>obtain⟨σ7,H7,I7,n7⟩:=q7;exact again I7 n7
  |cont=>obtain⟨σ7,H7,I7,n7⟩:=q7;exact again I7 n7
  |brk=>obtain⟨σ7,H7,I7,q7⟩:=q7;exact⟨σ7,H7,I7.unpinned,q7⟩
  |ret v=>obtain⟨x7,σ7,H7,I7,r7,q7⟩:=q7;exact⟨x7,σ7,H7,I7.unpinned,r7,q7⟩
end
noncomputable abbrev R2:=V->V->Hp->VK->Prop
def OpR(X:Cx)(f:Value->Value->Sem Value)(r:R2):Prop:=
 ∀(pins:List (Addr×Obj)) (s:Shared) (σ:St) (H:Hp) (x y:V) (v u:Value) (Q:VK),Inv X pins σ H s->RelV x v->RelV y u->r x y H Q ->
   wpAny 54 X.A (f v u) (EP X pins σ Q) X.xe s
def UnR(X:Cx)(f:Value->Sem Value)(r:V->Hp->VK->Prop):Prop:=
 ∀(pins:List (Addr×Obj)) (s:Shared) (σ:St) (H:Hp) (x:V) (v:Value) (Q:VK),Inv X pins σ H s->RelV x v->r x H Q ->
   wpAny 54 X.A (f v) (EP X pins σ Q) X.xe s
def CallR(X:Cx)(f:Value)(r:List V->Hp->VK->Prop):Prop:=
 ∀(pins:List (Addr×Obj)) (s:Shared) (σ:St) (H:Hp) (xs:List V) (us:List Value) (Q:VK),Inv X pins σ H s->Vals xs us->r xs H Q ->
   wpAny 54 X.A (call f us) (EP X pins σ Q) X.xe s
def gK(X:Cx)(r:V->Hp->(Bool->Hp->Prop)->Prop):Prop:=
 ∀(pins:List (Addr×Obj)) (s:Shared) (σ:St) (H:Hp) (x:V) (v:Value) (Q:Bool->Hp->Prop),Inv X pins σ H s->RelV x v->r x H Q ->
   wpAny 54 X.A (truthy v) (TP X pins σ Q) X.xe s
noncomputable def tOp(r:R2)(ta tb:TE):TE:=λσ H Q=>ta σ H λx H1=>tb σ H1 λy H2=>r x y H2 Q
noncomputable def tUn(r:V->Hp->VK->Prop)(ta:TE):TE:=λσ H Q=>ta σ H λx H1=>r x H1 Q
noncomputable def rI(C:Int->Int->Prop)(g:Int->Int->V):R2:=λx y H Q=>∃i j,x=.int i/\y=.int j/\C i j/\Q (g i j) H
noncomputable def rI0(g:Int->Int->V):R2:=λx y H Q=>∃i j,x=.int i/\y=.int j/\Q (g i j) H
def rU(g:Int->V):V->Hp->VK->Prop:=λx H Q=>∃i,x=.int i/\Q (g i) H
section
variable{X:Cx}{a b c:Expr}{ta tb tc:TE}{pos:Pos}
def WD(ha:PE X a ta)(hb:PE X b tb){pins:List (Addr×Obj)}{s:Shared}{σ:St}{H:Hp}{R:V->V->Hp->Prop}(I:Inv X pins σ H s)
 (h:ta σ H λx H1=>tb σ H1 λy H2=>R x y H2) {Q:Value->Shared->Prop} {f:Value->Value->Sem Value}
 (hf:∀v u s2 x y H2,Inv X pins σ H2 s2->RelV x v->RelV y u->R x y H2->wpAny 54 X.A (f v u) Q X.xe s2):
 wpAny 54 X.A (eval a X.env) (λv s₁=>wpAny 54 X.A (eval b X.env) (λu s₂=>wpAny 54 X.A (f v u) Q X.xe s₂) X.xe s₁) X.xe s:=by
 refine thn (ha pins s σ H _ I h) λv s1 ⟨x,H1,I1,r1,q1⟩=>?_;refine thn (hb pins s1 σ H1 _ I1 q1) λu s2 ⟨y,H2,I2,r2,q2⟩=>?_;exact hf v u s2 x y H2 I2 r1 r2 q2
def QV{op:Operator}{r:R2}(ho:OpR X (binaryOp op) r)(ha:PE X a ta)(hb:PE X b tb):PE X (.BinOp a op b pos) (tOp r ta tb):=by
 intro pins s σ H Q I h;exact wpAny_BinOp (WD ha hb I h λv u s2 x y H2 I2 rx ry q=>ho pins s2 σ H2 x y v u Q I2 rx ry q)
def eU{op:UnaryOp}{r:V->Hp->VK->Prop}(ho:UnR X (unaryOp op) r)(ha:PE X a ta):PE X (.UnaryOp op a pos) (tUn r ta):=by
 intro pins s σ H Q I h;exact UnaryOp_ (thn (ha pins s σ H _ I h) λv s1 ⟨x,H1,I1,r1,q1⟩=>ho pins s1 σ H1 x v Q I1 r1 q1)
def opI{f:Value->Value->Sem Value}{C:Int->Int->Prop}{g:Int->Int->Int}
 (rule:∀(i j:Int) (t u:Tok) (s:Shared) (Q:Value->Shared->Prop) (E:Value->Shared->Prop),C i j->Q (.int (g i j) s.toks) { s with toks:=s.toks+1 }->wpAny 54 X.A (f (.int i t) (.int j u)) Q E s):
 OpR X f (rI C λi j=>.int (g i j)):=by
 intro pins s σ H x y v u Q I rx ry h;obtain⟨i,j,rfl,rfl,hc,q⟩:=h;obtain⟨t,rfl⟩:=rx;obtain⟨t',rfl⟩:=ry;exact rule i j t t' s _ _ hc ⟨.int (g i j),H,I.tok _,⟨_,rfl⟩,q⟩
def cR{f:Value->Value->Sem Value}{g:Int->Int->Int}
 (rule:∀(i j:Int) (t u:Tok) (s:Shared) (Q:Value->Shared->Prop) (E:Value->Shared->Prop),Q (.int (g i j) s.toks) { s with toks:=s.toks+1 }->wpAny 54 X.A (f (.int i t) (.int j u)) Q E s):
 OpR X f (rI0 λi j=>.int (g i j)):=by
 intro pins s σ H x y v u Q I rx ry h;obtain⟨i,j,rfl,rfl,q⟩:=h;obtain⟨t,rfl⟩:=rx;obtain⟨t',rfl⟩:=ry;exact rule i j t t' s _ _ ⟨.int (g i j),H,I.tok _,⟨_,rfl⟩,q⟩
def Qa{f:Value->Value->Sem Value}{g:Int->Int->Bool}
 (rule:∀(i j:Int) (t u:Tok) (s:Shared) (Q:Value->Shared->Prop) (E:Value->Shared->Prop),Q (.bool (g i j)) s->wpAny 54 X.A (f (.int i t) (.int j u)) Q E s):
 OpR X f (rI0 λi j=>.bl (g i j)):=by
 intro pins s σ H x y v u Q I rx ry h;obtain⟨i,j,rfl,rfl,q⟩:=h;obtain⟨t,rfl⟩:=rx;obtain⟨t',rfl⟩:=ry;exact rule i j t t' s _ _ ⟨.bl (g i j),H,I,rfl,q⟩
def da(i j:Int):Prop:=0<j/\j<1073741824
def dZ(i j:Int):Prop:=0<=j/\j<=1000000/\i.natAbs<2^64
def CMul(i j:Int):Prop:=(-(2^64)<i/\i<2^64)∨(-(2^64)<j/\j<2^64)
def CMul.ok{i j:Int}(h:CMul i j):IntMulOk i j:=by
 rcases h with⟨h1,h2⟩|⟨h1,h2⟩
 .exact .of_left (intBits_le_64 h1 h2)
 .exact .of_right (intBits_le_64 h1 h2)
def Sn:OpR X (binaryOp .Add) (rI0 λi j=>.int (i+j)):=cR λ_ _ _ _ _ _ _ q=>add_int q
def cI:OpR X (binaryOp .Sub) (rI0 λi j=>.int (i-j)):=cR λ_ _ _ _ _ _ _ q=>sub_int q
def cM:OpR X (binaryOp .Mult) (rI CMul λi j=>.int (i*j)):=opI λ_ _ _ _ _ _ _ hc q=>mul_int q hc.ok
def Yw:OpR X (binaryOp .FloorDiv) (rI da λi j=>.int (i/j)):=opI λi j _ _ _ _ _ hc q=>by
 have h1:(0:Int)<j:=hc.1;have h2:j<1073741824:=hc.2;exact floordiv_int 50 (by rw[Int.fdiv_eq_ediv_of_nonneg i 50];exact q) (.inl (PyProof.noPylong_small 50))
def cN:OpR X (binaryOp .Mod) (rI (λ_ j=>0<j) λi j=>.int (i%j)):=opI λi j _ _ _ _ _ hc q=>by
 have h1:(0:Int)<j:=hc;exact mod_int' 50 (by rw[Int.fmod_eq_emod_of_nonneg i 50];exact q)
def cK:OpR X (binaryOp .Pow) (rI dZ λi j=>.int (i^j.toNat)):=opI λ_ _ _ _ _ _ _ hc q=>pow_int_small hc.1 hc.2.1 hc.2.2 q
def unI{f:Value->Sem Value}{g:Int->Int}
 (rule:∀(i:Int) (t:Tok) (s:Shared) (Q:Value->Shared->Prop) (E:Value->Shared->Prop),Q (.int (g i) s.toks) { s with toks:=s.toks+1 }->wpAny 54 X.A (f (.int i t)) Q E s):
 UnR X f (rU λi=>.int (g i)):=by
 intro pins s σ H x v Q I rx h;obtain⟨i,rfl,q⟩:=h;obtain⟨t,rfl⟩:=rx;exact rule i t s _ _ ⟨.int (g i),H,I.tok _,⟨_,rfl⟩,q⟩
def Zq:UnR X (unaryOp .USub) (rU λi=>.int (-i)):=unI λ_ _ _ _ _ q=>neg_int q
end
noncomputable def Mu:V->V->Bool
 |.non,.non=>true|.non,.int _=>true|.int _,.non=>true|.non,.bl _=>true|.bl _,.non=>true|.non,.str _=>true|.str _,.non=>true
 |.int _,.int _=>true|.bl _,.bl _=>true|.str _,.str _=>true|.byt _,.byt _=>true
 |.int _,.str _=>true|.str _,.int _=>true|.bl _,.str _=>true|.str _,.bl _=>true
 |_,_=>false
noncomputable def rEq:R2:=λx y H Q=>Mu x y=true/\Q (.bl (decide (x=y))) H
noncomputable def rNe:R2:=λx y H Q=>Mu x y=true/\Q (.bl (!decide (x=y))) H
def PK{i j:Int}:decide (V.int i=V.int j)=(i==j):=by
 rw[Bool.eq_iff_iff];simp
def TY{i j:Bool}:decide (V.bl i=V.bl j)=(i==j):=by
 rw[Bool.eq_iff_iff];simp
def PJ{i j:Str}:decide (V.str i=V.str j)=(i==j):=by
 rw[Bool.eq_iff_iff];simp
def PL{i j:Array UInt8}:decide (V.byt i=V.byt j)=(i.toList==j.toList):=by
 rw[Bool.eq_iff_iff];cases i;cases j;simp
section
variable{X:Cx}{a b c:Expr}{ta tb tc:TE}{pos:Pos}
def Ab{pins:List (Addr×Obj)}{σ:St}{H:Hp}{s:Shared}{Q:VK}{k k':Bool}(I:Inv X pins σ H s)(q:Q (.bl k) H)(e:k=k'):EP X pins σ Q (.bool k') s:=by
 subst e;exact⟨.bl k,H,I,rfl,q⟩
def Wp:OpR X (compareOp .Eq) rEq:=by
 intro pins s σ H x y v u Q I rx ry h;obtain⟨hs,q⟩:=h;cases x with
 |non=>
  cases rx;cases y with
  |non=>cases ry;exact PySem.EqNone.eq_none_none (Ab I q 55)
  |bl j=>cases ry;exact PySem.EqNone.eq_none_bool (Ab I q 55)
  |int j=>obtain⟨t',rfl⟩:=ry;exact PySem.EqNone.eq_none_int (Ab I q 55)
  |str j=>obtain⟨t',rfl⟩:=ry;exact PySem.EqNone.eq_none_str (Ab I q 55)
  |_=>exact absurd (show false=true from hs) 110
 |bl i=>
  cases rx;cases y with
  |non=>cases ry;exact PySem.EqNone.eq_bool_none (Ab I q 55)
  |bl j=>cases ry;exact eq_bool (Ab I q TY)
  |str j=>obtain⟨t',rfl⟩:=ry;exact PySem.EqMixed.eq_bool_str (Ab I q 55)
  |_=>exact absurd (show false=true from hs) 110
 |int i=>
  obtain⟨t,rfl⟩:=rx;cases y with
  |non=>cases ry;exact PySem.EqNone.eq_int_none (Ab I q 55)
  |int j=>obtain⟨t',rfl⟩:=ry;exact eq_int (Ab I q PK)
  |str j=>obtain⟨t',rfl⟩:=ry;exact PySem.EqMixed.eq_int_str (Ab I q 55)
  |_=>exact absurd (show false=true from hs) 110
 |str i=>
  obtain⟨t,rfl⟩:=rx;cases y with
  |non=>cases ry;exact PySem.EqNone.eq_str_none (Ab I q 55)
  |bl j=>cases ry;exact PySem.EqMixed.eq_str_bool (Ab I q 55)
  |int j=>obtain⟨t',rfl⟩:=ry;exact PySem.EqMixed.eq_str_int (Ab I q 55)
  |str j=>obtain⟨t',rfl⟩:=ry;exact eq_str (Ab I q PJ)
  |_=>exact absurd (show false=true from hs) 110
 |byt i=>
  obtain⟨t,rfl⟩:=rx;cases y with
  |byt j=>obtain⟨t',rfl⟩:=ry;exact PySem.W.eq_bytes (Ab I q PL)
  |_=>exact absurd (show false=true from hs) 110
 |_=>cases y<;>exact absurd (show false=true from hs) 110
def Wn:OpR X (compareOp .NotEq) rNe:=by
 intro pins s σ H x y v u Q I rx ry h;obtain⟨hs,q⟩:=h;cases x with
 |non=>
  cases rx;cases y with
  |non=>cases ry;exact PySem.EqNone.ne_none_none (Ab I q 55)
  |bl j=>cases ry;exact PySem.EqNone.ne_none_bool (Ab I q 55)
  |int j=>obtain⟨t',rfl⟩:=ry;exact PySem.EqNone.ne_none_int (Ab I q 55)
  |str j=>obtain⟨t',rfl⟩:=ry;exact PySem.EqNone.ne_none_str (Ab I q 55)
  |_=>exact absurd (show false=true from hs) 110
 |bl i=>
  cases rx;cases y with
  |non=>cases ry;exact PySem.EqNone.ne_bool_none (Ab I q 55)
  |bl j=>cases ry;exact ne_bool (Ab I q (j7 not TY))
  |str j=>obtain⟨t',rfl⟩:=ry;exact PySem.EqMixed.ne_bool_str (Ab I q 55)
  |_=>exact absurd (show false=true from hs) 110
 |int i=>
  obtain⟨t,rfl⟩:=rx;cases y with
  |non=>cases ry;exact PySem.EqNone.ne_int_none (Ab I q 55)
  |int j=>obtain⟨t',rfl⟩:=ry;exact ne_int (Ab I q (j7 not PK))
  |str j=>obtain⟨t',rfl⟩:=ry;exact PySem.EqMixed.ne_int_str (Ab I q 55)
  |_=>exact absurd (show false=true from hs) 110
 |str i=>
  obtain⟨t,rfl⟩:=rx;cases y with
  |non=>cases ry;exact PySem.EqNone.ne_str_none (Ab I q 55)
  |bl j=>cases ry;exact PySem.EqMixed.ne_str_bool (Ab I q 55)
  |int j=>obtain⟨t',rfl⟩:=ry;exact PySem.EqMixed.ne_str_int (Ab I q 55)
  |str j=>obtain⟨t',rfl⟩:=ry;exact ne_str (Ab I q (j7 not PJ))
  |_=>exact absurd (show false=true from hs) 110
 |byt i=>
  obtain⟨t,rfl⟩:=rx;cases y with
  |byt j=>obtain⟨t',rfl⟩:=ry;exact PySem.W.ne_bytes (Ab I q (j7 not PL))
  |_=>exact absurd (show false=true from hs) 110
 |_=>cases y<;>exact absurd (show false=true from hs) 110
def QY:OpR X (compareOp .Lt) (rI0 λi j=>.bl (decide (i<j))):=Qa λ_ _ _ _ _ _ _ q=>lt_int q
def QZ:OpR X (compareOp .LtE) (rI0 λi j=>.bl (decide (i<=j))):=Qa λ_ _ _ _ _ _ _ q=>le_int q
def ee:OpR X (compareOp .Gt) (rI0 λi j=>.bl (decide (j<i))):=Qa λ_ _ _ _ _ _ _ q=>gt_int q
def eg:OpR X (compareOp .GtE) (rI0 λi j=>.bl (decide (j<=i))):=Qa λ_ _ _ _ _ _ _ q=>ge_int q
def OpR.or{f:Value->Value->Sem Value}{r r':R2}(h:OpR X f r)(h':OpR X f r'):OpR X f (λx y H Q=>r x y H Q∨r' x y H Q):=by
 intro pins s σ H x y v u Q I rx ry q;rcases q with q|q
 .exact h pins s σ H x y v u Q I rx ry q
 .exact h' pins s σ H x y v u Q I rx ry q
def HA(b:Expr){op:CmpOp}(h:op≠.In:=by decide)(h2:op≠.NotIn:=by decide):behindInMarks op b=false:=by
 have e1:(op==CmpOp.In)=false:=by cases op<;>first|rfl|exact absurd rfl h
 have e2:(op==CmpOp.NotIn)=false:=by cases op<;>first|rfl|exact absurd rfl h2
 cases b<;>simp[behindInMarks,e1,e2]
def Yp{op:CmpOp}{r:R2}(ho:OpR X (compareOp op) r)(ha:PE X a ta)(hb:PE X b tb)(hm:behindInMarks op b=false):PE X (.Compare a [op] [b] pos) (tOp r ta tb):=by
 intro pins s σ H Q I h;exact wpAny_Compare1 (WD ha hb I h λv u s2 x y H2 I2 rx ry q=>ho pins s2 σ H2 x y v u Q I2 rx ry q) hm
noncomputable def FG(t:TE):TT:=λσ H Q=>t σ H λx H'=>∃k,x=.bl k/\Q k H'
def Ho{op:CmpOp}{r:R2}(ho:OpR X (compareOp op) r)(ha:PE X a ta)(hb:PE X b tb)(hm:behindInMarks op b=false):PT X (.Compare a [op] [b] pos) (FG (tOp r ta tb)):=by
 intro pins s σ H Q I h;refine wpAny_isTrue_Compare1 (thn (ha pins s σ H _ I h) λv s1 ⟨x,H1,I1,r1,q1⟩=>thn (hb pins s1 σ H1 _ I1 q1) λu s2 ⟨y,H2,I2,r2,q2⟩=>
  thn (ho pins s2 σ H2 x y v u _ I2 r1 r2 q2) λc s3 ⟨z,H3,I3,r3,k,e,q3⟩=>?_) hm
 subst e;cases r3;exact jv ⟨H3,I3,q3⟩
noncomputable def Mi(r r':R2)(ta tb tc:TE):TE:=λσ H Q=>ta σ H λx H1=>tb σ H1 λy H2=>r x y H2 λz H3=>∃k,z=.bl k /\
 (if k=true then tc σ H3 λw' H4=>r' y w' H4 Q else Q (.bl false) H3)
def VD{op op':CmpOp}{r r':R2}(ho:OpR X (compareOp op) r)(ho':OpR X (compareOp op') r')(ha:PE X a ta)(hb:PE X b tb)(hc:PE X c tc)
 (hm:lastMarks [op,op'] [b,c]=false:=by with_unfolding_all rfl):PT X (.Compare a [op,op'] [b,c] pos) (FG (Mi r r' ta tb tc)):=by
 intro pins s σ H Q I h;refine isTrue_chain (thn (ha pins s σ H _ I h) λv s1 ⟨x,H1,I1,r1,q1⟩=>test_link (thn (hb pins s1 σ H1 _ I1 q1) λu s2 ⟨y,H2,I2,r2,q2⟩=>
  thn (ho pins s2 σ H2 x y v u _ I2 r1 r2 q2) λd s3 ⟨z,H3,I3,r3,k,e,q3⟩=>?_)) hm
 subst e;cases r3;refine jv ?_;cases k with
 |false=>
  obtain⟨k',e',q'⟩:=q3;cases e';exact ite_ff ⟨H3,I3,q'⟩
 |true=>
  refine ite_tt (test_last (thn (hc pins s3 σ H3 _ I3 q3) λw' s4 ⟨z',H4,I4,r4,q4⟩=>thn (ho' pins s4 σ H4 y z' u w' _ I4 r2 r4 q4) λd' s5 ⟨z2,H5,I5,r5,k2,e2,q5⟩=>?_));subst e2;cases r5;exact jv ⟨H5,I5,q5⟩
def OB(K:Frag)(x:V)(H:Hp)(k:Bool):Prop:=
 match x with
 |.non=>k=false
 |.bl b=>k=b
 |.int i=>k=(i != 0)
 |.str y=>y.length<=sizeLine/\k=((y.length:Int) != 0)
 |.byt y=>y.size<=sizeLine/\k=((y.size:Int) != 0)
 |.ref p=>(∃xs,SqL K H p xs/\k=!xs.isEmpty)∨(∃xs,SqT K H p xs/\k=!xs.isEmpty)∨∃kvs,H p=some (.dK kvs)/\k=!kvs.isEmpty
 |_=>False
def Qj{κ:Type}{kvs:List (κ×V)}{vs:List (κ×Value)}(r:KV kvs vs):(!vs.isEmpty)=!kvs.isEmpty:=by
 cases r<;>rfl
def K0{xs:List V}{its:List Value}(r:Vals xs its):(!its.toArray.isEmpty)=!xs.isEmpty:=by
 cases r<;>simp
def F1:(sizeLine:Nat)<2^63:=by rw[jx];decide
def Zt:gK X (λx H Q=>∃k,OB X.K x H k/\Q k H):=by
 intro pins s σ H x v Q I rx h;obtain⟨k,e,q⟩:=h;have hl:=F1;have hs:sizeLine=16777216:=jx;cases x with
 |non=>
  cases rx;have e':k=false:=e;subst e';exact truthy_none ⟨H,I,q⟩
 |bl b=>
  cases rx;have e':k=b:=e;subst e';exact jv ⟨H,I,q⟩
 |int i=>
  obtain⟨t,rfl⟩:=rx;have e':k=(i != 0):=e;subst e';exact PySem.P.truthy_int ⟨H,I,q⟩
 |str y=>
  obtain⟨t,rfl⟩:=rx;obtain⟨hy,e'⟩:y.length<=sizeLine/\k=((y.length:Int) != 0):=e;subst e';exact PySem.P.truthy_str 50 ⟨H,I.tok _,q⟩
 |byt y=>
  obtain⟨t,rfl⟩:=rx;obtain⟨hy,e'⟩:y.size<=sizeLine/\k=((y.size:Int) != 0):=e;subst e';exact PySem.W.truthy_bytes 50 ⟨H,I.tok _,q⟩
 |ref p=>
  cases rx;have e':(∃xs,SqL X.K H p xs/\k=!xs.isEmpty)∨(∃xs,SqT X.K H p xs/\k=!xs.isEmpty)∨∃kvs,H p=some (.dK kvs)/\k=!kvs.isEmpty:=e;rcases e' with⟨xs,hx,e'⟩|⟨xs,hx,e'⟩|⟨kvs,hx,e'⟩
  .subst e';obtain⟨its,r,pl,hz⟩:=I.list hx;have hlen:=r.length;exact wpAny_truthy_list pl.isList (by simp only[ip];omega) ⟨H,I.tok _,by rw[K0 r];exact q⟩
  .subst e';obtain⟨its,r,pl,hz⟩:=I.tuple hx;have hlen:=r.length;exact truthy_tuple pl (by simp only[ip];omega) ⟨H,I.tok _,by rw[K0 r];exact q⟩
  .subst e';obtain⟨hz,hS,vs,r,m⟩:kvs.length<=sizeLine/\(p==sysModules)=false/\∃vs,KV kvs vs/\s.heap.DictOf (BL X.prog X.w) p vs:=I.hok p _ hx;have hlen:kvs.length=vs.length:=Paired.length r;exact wpAny_truthy_dict hS m 50 ⟨H,I.tok _,by rw[Qj r];exact q⟩
 |_=>exact(show False from e).elim
def VC(ha:PE X a ta)(he:∀whole,isTrue a X.env whole=(do let v <- whole;standAt a.pos;holding [v] (truthy v))):
 PT X a (λσ H Q=>ta σ H λx H'=>∃k,OB X.K x H' k/\Q k H'):=by
 intro pins s σ H Q I h;exact isTrue_plain (thn (ha pins s σ H _ I h) λv s1 ⟨x,H1,I1,r1,q1⟩=>Zt pins s1 σ H1 x v Q I1 r1 q1) (he _)
def BJ{x:V}{us:List Value}(r:Vals [x] us):∃u,us=[u]/\RelV x u:=by
 cases r with
 |cons r1 r2=>cases r2;exact⟨_,rfl,r1⟩
def M2{x y:V}{us:List Value}(r:Vals [x,y] us):∃u w',us=[u,w']/\RelV x u/\RelV y w':=by
 cases r with
 |cons r1 r2=>
  cases r2 with
  |cons r3 r4=>cases r4;exact⟨_,_,rfl,r1,r3⟩
def Tk(hc:X.calm=true):CallR X (.builtin "max") (λxs H Q=>∃i j,xs=[.int i,.int j]/\Q (.int (if j>i then j else i)) H):=by
 intro pins s σ H xs us Q I r h;obtain⟨i,j,rfl,q⟩:=h;obtain⟨u,w',rfl,⟨t,rfl⟩,⟨t',rfl⟩⟩:=M2 r;refine max_two_ints (I.ok.hd hc) λh' tk k=>⟨_,H,I.kept k,?_,q⟩
 by_cases hj:j>i
 .rw[ia hj,ia hj];exact⟨_,rfl⟩
 .rw[ie hj,ie hj];exact⟨_,rfl⟩
def Tj(hc:X.calm=true):CallR X (.builtin "min") (λxs H Q=>∃i j,xs=[.int i,.int j]/\Q (.int (if j<i then j else i)) H):=by
 intro pins s σ H xs us Q I r h;obtain⟨i,j,rfl,q⟩:=h;obtain⟨u,w',rfl,⟨t,rfl⟩,⟨t',rfl⟩⟩:=M2 r;refine min_two_ints (I.ok.hd hc) λh' tk k=>⟨_,H,I.kept k,?_,q⟩
 by_cases hj:j<i
 .rw[ia hj,ia hj];exact⟨_,rfl⟩
 .rw[ie hj,ie hj];exact⟨_,rfl⟩
end
def LR{h:Heap}{dx:Addr}{mA:Str->Option Value}(n:h.Ns1 dx mA):∃od,h.get? dx=some od/\∀name,PySem.W.lookIn name od=some (mA name):=by
 obtain⟨o,es,ep,ho,hd,hk,_,hm⟩:=n;refine⟨o,ho,λname=>?_⟩;have e:=hm name;unfold nsFind findBy at e;rw[<- Array.find?_toList]at e;unfold PySem.W.lookIn;rw[hd];dsimp only;split
 .rename_i y q
  rw[q]at e;exact j7 some e
 .rename_i q
  rw[q]at e;have a:es.toList.any (·.refKey)=false:=by
   rw[any_eq_false];intro y hy;obtain⟨z,t,hkey⟩:=hk y (Array.mem_toList_iff.mp hy);simp[DictEntry.refKey,hkey]
  have a':¬ es.toList.any (·.refKey)=true:=by rw[a];exact 110
  rw[ie a'];exact j7 some e
def RelO.some_of{v:V}{o:Option Value}(r:RelO (some v) o):∃u,o=some u/\RelV v u:=by
 cases o with
 |none=>exact(show False from r).elim
 |some u=>exact⟨u,rfl,r⟩
def T8{v:V}{u:Value}(r:RelV v u):PySem.W.handedIn u=true:=by
 cases v with
 |non=>cases(show u=Value.none from r);rfl
 |bl b=>cases(show u=Value.bool b from r);rfl
 |int i=>obtain⟨t,e⟩:=(show ∃t,u=Value.int i t from r);cases e;rfl
 |str x=>obtain⟨t,e⟩:=(show ∃t,u=Value.str x t from r);cases e;rfl
 |byt b=>obtain⟨t,e⟩:=(show ∃t,u=Value.bytes b t from r);cases e;rfl
 |flt b=>obtain⟨t,e⟩:=(show ∃t,u=Value.float b t from r);cases e;rfl
 |ref a=>cases(show u=Value.ref a from r);rfl
 |ty n=>cases(show u=Value.type n from r);rfl
def D5(K:Frag)(C:Addr)(f:Str):Prop:=findIn K (.ref C) f=some none
section
variable{X:Cx}{pins:List (Addr×Obj)}{σ:St}{H:Hp}{s:Shared}{a C dx:Addr}{fs:List (Str×V)}{f:Str}{v:V}{A:Around}{E:Value->Shared->Prop}
def Ze{prog:Program}{w:World}{env:Env}{e:Expr}{f:Str}{pos:Pos}{s:Shared}{Q:Value->Shared->Prop}(hb:attributeBase e f env (eval e env)=eval e env)
 (h:wpAny 103 A (eval e env) (λo s₁=>wpAny 103 A (getAttr o f true) Q E s₁) E s):wpAny 103 A (eval (.Attribute e f pos) env) Q E s:=
 Attribute_any_ h (by rw[arm_eval_Attribute,hb])
end
structure Room(k:Nat)(A:Around):Prop where
 hd:A.handled=none
 dp:A.depth+3*k+5<recursionLimit
 un:A.units+16*k+200<cLine
 gd:A.guards=some []
def Room.mono{j k:Nat}{A:Around}(r:Room k A)(h:j<=k):Room j A:=⟨r.hd,by have:=r.dp;omega,by have:=r.un;omega,r.gd⟩
theorem Room.deeper{k:Nat}{A:Around}(r:Room (k+1) A)(env:Env):Room k (A.deeper env):=
 ⟨r.hd,by have:=r.dp;show A.depth+1+3*k+5<_;omega,by have:=r.un;show A.units+3+16*k+200<_;omega,by first|exact r.gd|(simpa [Around.deeper,Around.under,Code.guards,Code.isGuard,pushGuards]using r.gd)⟩
theorem Room.in1{k:Nat}{A:Around}(r:Room (k+1) A):Room k A.in1:=
 ⟨r.hd,by have:=r.dp;show A.depth+3*k+5<_;omega,by have:=r.un;show A.units+1+16*k+200<_;omega,r.gd⟩
def Qe{A:Around}{C:Addr}{us:List Value}{kw:List (Str×Value)}:(A.under (.builtin "type.__call__" ⟨.ref C::us,kw⟩)).depth=A.depth+1:=by
 first|rfl|simp[Around.under,Code.weight,Code.isCreation,Code.isGuard,Code.isCaller,Code.frames,Code.isFrame,guardIds]
def Qd{A:Around}{C:Addr}{us:List Value}{kw:List (Str×Value)}:(A.under (.builtin "type.__call__" ⟨.ref C::us,kw⟩)).units=A.units+1:=by
 first|rfl|simp[Around.under,Code.cUnits,Code.frames,Code.isFrame]
def Room.make{k:Nat}{A:Around}(r:Room (k+1) A)(C:Addr)(us:List Value)(kw:List (Str×Value)):Room k (A.under (.builtin "type.__call__" ⟨.ref C::us,kw⟩)):=
 ⟨r.hd,by have:=r.dp;rw[Qe];omega,by have:=r.un;rw[Qd];omega,by first|exact r.gd|(simpa [Around.under,Code.guards,Code.isGuard,guardIds,pushGuards]using r.gd)⟩
theorem Room.depth{k:Nat}{A:Around}(r:Room k A):A.depth<recursionLimit:=by have:=r.dp;omega
theorem Room.units{k:Nat}{A:Around}(r:Room k A):A.units+64<cLine:=by have:=r.un;omega
def Room.units0{k:Nat}{A:Around}(r:Room k A):A.units<cLine:=by have:=r.un;omega
noncomputable def BG:TA:=λ_ H Q=>Q [] H
noncomputable def Af(ta:TE)(tr:TA):TA:=λσ H Q=>ta σ H λx H1=>tr σ H1 λxs H2=>Q (x::xs) H2
section
variable{X:Cx}{e:Expr}{es:List Expr}{te:TE}{t:TA}{pos:Pos}
def C4:PA X [] BG:=λ_ _ _ _ H Q I h=>Calls.spliced_nil ⟨[],H,I,.nil,h⟩
def BB(ha:PE X e te)(hr:PA X es t)(hs:starEach (e::es) X.env=109::starEach es X.env:=by rfl):PA X (e::es) (Af te t):=by
 intro pos pins s σ H Q I h;rw[hs];show wpAny _ _ (spliced (109::backTo pos (starEach es X.env))) _ _ s;refine Calls.spliced_cons (thn (ha pins s σ H _ I h) λu s1 ⟨x,H1,I1,r1,q1⟩=>?_);exact thn (hr pos pins s1 σ H1 _ I1 q1) λus s2 ⟨xs,H2,I2,r2,q2⟩=>⟨x::xs,H2,I2,.cons r1 r2,q2⟩
noncomputable def KL(t:TA):TE:=λσ H Q=>t σ H λxs H1=>105<=sizeLine/\∀p,H1 p=none->Q (.ref p) (upd H1 p (.tup xs))
noncomputable def UI(t:TA):TE:=λσ H Q=>t σ H λxs H1=>105<=sizeLine/\∀p,H1 p=none->Q (.ref p) (upd H1 p (.lst xs))
def Si{x1}(h:PA X es t):PE X (.Tuple es x1 pos) (KL t):=by
 intro pins s σ H Q I hq;refine wpAny_Tuple_spliced (thn (h pos pins s σ H _ I hq) λus s1 ⟨xs,H1,I1,r,z,q⟩=>⟨by rw[<- r.length];exact z,?_⟩);have hf:H1 s1.heap.objs.size=none:=I1.hok.fresh (ig _);refine⟨.ref s1.heap.objs.size,upd H1 s1.heap.objs.size (.tup xs),I1.laid (t':=s1.toks) (λb u e=>53 _ e) (ig _) ?_,rfl,q _ hf⟩;exact⟨z,us,r,⟨_,115 _ rfl,rfl,⟨_,rfl⟩,rfl⟩⟩
def cB(h:PA X es t):PE X (.List es pos) (UI t):=by
 intro pins s σ H Q I hq;refine wpAny_List_spliced (thn (h pos pins s σ H _ I hq) λus s1 ⟨xs,H1,I1,r,z,q⟩=>⟨by rw[<- r.length];exact z,?_⟩);have hf:H1 s1.heap.objs.size=none:=I1.hok.fresh (ig _);refine⟨.ref s1.heap.objs.size,upd H1 s1.heap.objs.size (.lst xs),I1.laid (t':=s1.toks) (λb u e=>53 _ e) (ig _) ?_,rfl,q _ hf⟩;exact⟨z,us,0,r,115 _ rfl⟩
end
noncomputable abbrev Sp:=List V->Hp->VK->XK->Prop
noncomputable abbrev CXT:=List Env->Hp->Shared->XK->Value->Shared->Prop
structure Env0(P:Program)(w:World)(K:Frag)(mg:Str->Option Value)(base:Heap)(A:Around)(outer:List Env)(s:Shared)(H:Hp):Prop where
 frames:A.frames=some outer
 mod:Mod K mg base
 bs:∀b o,base.get? b=some o->s.heap.get? b=some o/\H b=none
 bsz:base.objs.size<=49
 funs:s.heap.FunFrames base outer
 frf:∀b∈frs outer,H b=none
 hok:HOk P w H s.heap
 bare:AllBare s.gens
def CE(outer:List Env)(P:Program)(w:World)(H:Hp)(s:Shared)(Q:VK)(u:Value)(s':Shared):Prop:=
 ∃v H',s'.os=s.os/\AllBare s'.gens/\Un (frs outer) [] H H' s.heap s'.heap/\HOk P w H' s'.heap/\RelV v u/\Q v H'
def CR(CX:CXT)(outer:List Env)(P:Program)(w:World)(H:Hp)(s:Shared)(Q:VK)(E:XK)(r:Result)(s':Shared):Prop:=
 match r with
 |.ok (.ret u)=>CE outer P w H s Q u s'
 |.ok _=>False
 |.error e=>CX outer H s E e s'
structure FnOk(P:Program)(w:World)(K:Frag)(mg:Str->Option Value)(base:Heap)(CX:CXT)(k:Nat)(f:Addr)(fd:FuncData)(ps:List Str)(sp:Sp):Prop where
 len:∀vs H Q E,sp vs H Q E->vs.length=ps.length
 run:∀(A:Around) (outer:List Env) (s:Shared) (H:Hp) (args:Args) (us:List Value) (vs:List V) (Q:VK) (E:XK),Room k A->Env0 P w K mg base A outer s H->BindsTo s fd args (ps.zip us)->Vals vs us->sp vs H Q E ->
  codeAny (model P w) A (.call (.ref f) args) (CR CX outer P w H s Q E) s
theorem FnOk.mono{P:Program}{w:World}{K:Frag}{mg:Str->Option Value}{base:Heap}{CX:CXT}{j k:Nat}{f:Addr}{fd:FuncData}{ps:List Str}{sp:Sp}(F:FnOk P w K mg base CX j f fd ps sp)(h:j<=k):
 FnOk P w K mg base CX k f fd ps sp:=⟨F.len,λA outer s H args us vs Q E hr=>F.run A outer s H args us vs Q E (hr.mono h)⟩
def Env0.make{P:Program}{w:World}{K:Frag}{mg:Str->Option Value}{base:Heap}{A:Around}{outer:List Env}{s:Shared}{H:Hp}(e:Env0 P w K mg base A outer s H)(C:Addr)(us:List Value)(kw:List (Str×Value)):
 Env0 P w K mg base (A.under (.builtin "type.__call__" ⟨.ref C::us,kw⟩)) outer s H:=⟨by first|exact e.frames|(simpa [Around.under,Code.envs,Code.isFrame,pushEnvs]using e.frames),e.mod,e.bs,e.bsz,e.funs,e.frf,e.hok,e.bare⟩
section
variable{X:Cx}{pins:List (Addr×Obj)}{σ:St}{H:Hp}{s s':Shared}
def Inv.env0(I:Inv X pins σ H s):Env0 X.prog X.w X.K X.mg X.base X.A X.stack s H:=
 ⟨I.ok.frames,I.ok.mod,I.bs,iw I.ok.bsz I.sz,I.stack,I.stkFree,I.hok,I.bare⟩
def Inv.after{Q:VK}{u:Value}(I:Inv X pins σ H s)(h:CE X.stack X.prog X.w H s Q u s'):EP X pins σ Q u s':=by
 obtain⟨v,H',os,bare,un,hok,r,q⟩:=h;obtain⟨hh,g,d,t,os'⟩:=s';obtain rfl:os'=s.os:=os;exact⟨v,H',I.call (h':=hh) (g':=g) (d':=d) (t':=t) (ch:=[]) un hok bare (λb z=>absurd z 55),r,q⟩
end
noncomputable def Dy(sp:Sp)(dvs:List V)(E:XK)(t:TA):TE:=λσ H Q=>t σ H λvs H1=>sp (vs++dvs) H1 Q E
def Binds(K:Frag)(fd:FuncData)(ps:List Str)(ds:List Value):Prop:=
 ∀(s:Shared) (us:List Value),K.In s.heap->(us++ds).length=ps.length->BindsTo s fd ⟨us,[]⟩ (ps.zip (us++ds))
def Binds.all{K:Frag}{fd:FuncData}{ps:List Str}(h:∀us:List Value,us.length=ps.length->bindArgs fd ⟨us,[]⟩=pure (ps.zip us)):Binds K fd ps []:=λs us _ hl=>by
 rw[je]at hl ⊢;exact .of_eq (h us hl)
def OF(CX:CXT)(X:Cx)(E:XK):Prop:=∀(pins:List (Addr×Obj)) (σ:St) (H:Hp) (s:Shared) (e:Value) (s':Shared),Inv X pins σ H s->CX X.stack H s E e s'->X.xe e s'
section
variable{X:Cx}{CX:CXT}{k:Nat}{f C:Addr}{fd:FuncData}{ps:List Str}{sp:Sp}{dvs:List V}{ds:List Value}{E:XK}{x m:Str}{p pos apos:Pos}{e o:Expr}{es:List Expr}{ta:TE}{t:TA}
def a8{pins:List (Addr×Obj)}{σ:St}{H:Hp}{s:Shared}{Q:VK}{us:List Value}{vs:List V}(F:FnOk X.prog X.w X.K X.mg X.base CX k f fd ps sp)(hr:Room k X.A)(hb:Binds X.K fd ps ds)(hd:Vals dvs ds)(hx:OF CX X E)
 (I:Inv X pins σ H s) (r:Vals vs us) (h:sp (vs++dvs) H Q E):wpAny 54 X.A (call (.ref f) us) (EP X pins σ Q) X.xe s:=by
 have r2:Vals (vs++dvs) (us++ds):=r.append hd;have hl:(us++ds).length=ps.length:=by rw[<- r2.length];exact F.len _ _ _ _ h
 refine jq (jy (F.run X.A X.stack s H ⟨us,[]⟩ (us++ds) (vs++dvs) Q E hr I.env0 (hb s us I.kIn hl) r2 h) λr s' hq=>?_);cases r with
 |error e=>exact hx pins σ H s e s' I hq
 |ok fl=>
  cases fl with
  |ret u=>exact I.after hq
  |next=>exact False.elim hq
  |brk=>exact False.elim hq
  |cont=>exact False.elim hq
def Yq(F:FnOk X.prog X.w X.K X.mg X.base CX k f fd ps sp)(hr:Room k X.A)(hg:Gl X x)(hm:X.mg x=some (.ref f))(hk:keepIn X.K (.ref f)=true)(hb:Binds X.K fd ps ds)(hd:Vals dvs ds)(hx:OF CX X E)
 (ha:PA X (e::es) t) (hdb:(x==("__debug__":Str))=false:=by decide) (he:starEach (e::es) X.env=109::starEach es X.env:=by rfl) (hpl:(backTo pos (starEach es X.env)).any (·.1)=false:=by rfl):
 PE X (.Call (.Name x p) (e::es) [] pos) (Dy sp dvs E t):=by
 intro pins s σ H Q I h;refine jr (DQ I hg hm ?_ hdb);refine PySem.W.callWith_K (h₀:=X.base) I.ok.mod.kin hk (thn (ha pos pins s σ H _ I h) λus s1 ⟨vs,H1,I1,r,q⟩=>⟨I1.kIn,?_⟩) he hpl;exact a8 F hr hb hd hx I1 r q
end
structure FnScope(N P:List Str)(sc:Scope):Prop where
 kind:sc.kind=.function
 co:sc.isCoroutine=false
 gen:sc.isGenerator=false
 nd:N.Nodup
 pre:N.take P.length=P
 par:∀x∈P,sc.names.lookup x=some .local∨sc.names.lookup x=some .cell
 nofree:∀y∈sc.names,y.2≠.free
theorem Ll{kindOf:Str->Option NameKind}{x:Str}:∀{binds:List (Str×Value)} {m:Str->Option Value},(∀v,(x,v)∉binds)->bindL kindOf binds m x=m x
 |[],_,_=>rfl
 |(n,v)::r,m,h=>by
   unfold bindL;rw[Ll λw hw=>h w (il _ hw)];split
   .have:x≠n:=by rintro rfl;exact h v ir
    simp[this]
   .rfl
theorem Ln{kindOf:Str->Option NameKind}{x:Str}:∀{binds:List (Str×Value)} {m:Str->Option Value},(∀v,(x,v)∉binds)->bindC kindOf binds m x=m x
 |[],_,_=>rfl
 |(n,v)::r,m,h=>by
   unfold bindC;rw[Ln λw hw=>h w (il _ hw)];split
   .rfl
   .have:x≠n:=by rintro rfl;exact h v ir
    simp[this]
theorem Lm{kindOf:Str->Option NameKind}{x:Str}{v:Value}:∀{P:List Str} {vs:List Value} {i:Nat} {m:Str->Option Value},P.Nodup->P[i]?=some x->vs[i]?=some v->kindOf x=some .local ->
 bindL kindOf (P.zip vs) m x=some v
 |[],_,_,_,_,h,_,_=>by simp at h
 |_::_,[],_,_,_,_,h,_=>by simp at h
 |p::P,w::vs,0,m,nd,h1,h2,hk=>by
  simp at h1 h2;subst h1;subst h2;show bindL kindOf ((p,w)::P.zip vs) m p=_;unfold bindL;rw[Ll λv hv=>(nodup_cons.mp nd).1 (of_mem_zip hv).1,ia hk];simp
 |p::P,w::vs,i+1,m,nd,h1,h2,hk=>by
  show bindL kindOf ((p,w)::P.zip vs) m x=_;unfold bindL;exact Lm (i:=i) (nodup_cons.mp nd).2 (by simpa using h1) (by simpa using h2) hk
theorem Lo{kindOf:Str->Option NameKind}{x:Str}{v:Value}:∀{P:List Str} {vs:List Value} {i:Nat} {m:Str->Option Value},P.Nodup->P[i]?=some x->vs[i]?=some v->kindOf x≠some .local ->
 bindC kindOf (P.zip vs) m x=some v
 |[],_,_,_,_,h,_,_=>by simp at h
 |_::_,[],_,_,_,_,h,_=>by simp at h
 |p::P,w::vs,0,m,nd,h1,h2,hk=>by
  simp at h1 h2;subst h1;subst h2;show bindC kindOf ((p,w)::P.zip vs) m p=_;unfold bindC;rw[Ln λv hv=>(nodup_cons.mp nd).1 (of_mem_zip hv).1,ie hk];simp
 |p::P,w::vs,i+1,m,nd,h1,h2,hk=>by
  show bindC kindOf ((p,w)::P.zip vs) m x=_;unfold bindC;exact Lo (i:=i) (nodup_cons.mp nd).2 (by simpa using h1) (by simpa using h2) hk
noncomputable def start(N:List Str)(vs:List V):St:=vs.map some++108 (N.length-vs.length) none
noncomputable def CS(CX:CXT)(P:Program)(w:World)(K:Frag)(mg:Str->Option Value)(base:Heap)(N:List Str)(qual:Str)(scope:Scope)(f:Addr)(cd:Value)(A:Around)(outer:List Env)(s:Shared)(H:Hp)(E:XK):Cx where
 prog:=P
 w:=w
 K:=K
 mg:=mg
 base:=base
 A:=A.deeper (envOfC qual scope 49 f cd)
 N:=N
 s₀:=s
 H₀:=H
 env:=envOfC qual scope 49 f cd
 outer:=outer
 stack:=envOfC qual scope 49 f cd::outer
 ex:=[]
 calm:=true
 fn:=λ_=>true
 pn:=[]
 xe:=λe s'=>wpAny (model P w) (A.deeper (envOfC qual scope 49 f cd)) (leaving (envOfC qual scope 49 f cd) e) (λ_ s''=>CX outer H s E e s'') (λe' s''=>CX outer H s E e' s'') s'
def O1{sc:Scope}{n:Nat}{x:Str}(h:sc.names.lookup x=some .cell):∃c,(cellsFrom n sc.names []).lookup x=some c:=by
 have q:=PySem.W.cellsFrom_some sc.names n [] (.inl h);exact isSome_iff_exists.mp q
def LX{CX:CXT}{P:Program}{w:World}{K:Frag}{mg:Str->Option Value}{base:Heap}{N ps:List Str}{qual:Str}{scope:Scope}{f:Addr}{cd:Value}{A:Around}{outer:List Env}{s s1:Shared}{H:Hp}{E:XK}{us:List Value}{vs:List V}
 (S:FnScope N ps scope) (hd:A.handled=none) (e0:Env0 P w K mg base A outer s H) (hl:vs.length=ps.length) (r:Vals vs us)
 (x:InCallC s 49 (bindL (envOfC qual scope 49 f cd).kindOf (ps.zip us) λ_=>none) (cellsFrom (49+1) 116 []) (bindC (envOfC qual scope 49 f cd).kindOf (ps.zip us) λ_=>none) s1):
 Inv (CS CX P w K mg base N qual scope f cd A outer s H E) [] (start N vs) H s1:=by
 have hpl:ps.length<=N.length:=by have:=j7 List.length S.pre;rw[ji]at this;omega
 obtain⟨h1,tk,rfl,hk⟩:=x.done;have noA:∀b:Addr,b∉(CS CX P w K mg base N qual scope f cd A outer s H E).ex:=λb z=>absurd (show b∈([]:List Addr)from z) 55;refine⟨⟨e0.mod,S.kind,rfl,rfl,ig _,λy z c h1 h2=>?_,λy hy=>?_,λy c _ h=>?_,λ_=>hd,Around.frames_deeper e0.frames,.inr ⟨rfl,rfl⟩,λb z=>absurd z (noA b),e0.bs,e0.bsz,λb _ _=>noA b,λb z=>absurd z (noA b),e0.funs,e0.frf⟩,
  rfl,e0.bare,Un.kept hk,⟨_,x.toInCall.ns,λi y v h1 h2 h3=>?_⟩,λy c h=>⟨_,x.cell y c h⟩,e0.hok.fresh (ig _),λy c h=>?_,λp hp=>absurd (show p∈([]:List (Addr×Obj))from hp) 55,e0.hok.kept hk,?_⟩
 .exact name_of_addr x.apart (PySem.mem_of_lookup h1) (PySem.mem_of_lookup h2)
 .have hy:scope.names.lookup y=some .cell∨scope.names.lookup y=some .free:=hy;rcases hy with hy|hy
  .exact O1 hy
  .exact absurd rfl (S.nofree _ (PySem.mem_of_lookup hy))
 .exact jj (x.above y c (PySem.mem_of_lookup h))
 .have hi:i<vs.length:=by
   unfold start at h2;by_cases hi:i<vs.length
   .exact hi
   .rw[List.getElem?_append_right (by simpa using hi)]at h2;rw[List.getElem?_replicate]at h2;split at h2<;>cases h2
  have ha:vs[i]?=some v:=by
   unfold start at h2;rw[List.getElem?_append_left (by simpa using hi),List.getElem?_map]at h2;cases e:vs[i]? with
   |none=>rw[e]at h2;cases h2
   |some a=>rw[e]at h2;cases h2;rfl
  obtain⟨u,hu,rv⟩:=r.get ha;have hp:ps[i]?=some y:=by
   rw[<- S.pre,List.getElem?_take_of_lt 50];exact h1
  have ndP:ps.Nodup:=by rw[<- S.pre];exact S.nd.sublist (List.take_sublist _ _)
  refine⟨u,rv,?_⟩;rcases S.par y (j6 hp)with k|k
  .exact .inl ⟨k,Lm ndP hp hu k⟩
  .obtain⟨c,e⟩:=O1 (n:=49+1) k;refine .inr ⟨.inl k,c,e,?_⟩;have q:=x.cell y c e;rw[Lo ndP hp hu (by show scope.names.lookup y≠_;rw[k];decide)]at q;exact q
 .exact e0.hok.fresh (jj (x.above y c (PySem.mem_of_lookup h)))
 .unfold start;show _=N.length;rw[jb,iV,List.length_replicate];omega
def Qq{CX:CXT}{P:Program}{w:World}{K:Frag}{mg:Str->Option Value}{base:Heap}{k:Nat}{f:Addr}{name qual:Str}{params:Arguments}{body:List Stmt}{scope:Scope}{dV kV doc pm cdv ct oc:Value}{an od:Option Addr}
 {osl:Array (Option Value)} {N ps:List Str} {sp:Sp} (lk:K.lookup f=some ⟨oc,od,.func (fnOf name qual params body scope dV kV doc pm an cdv ct),osl⟩) (hcd:codeIn K cdv qual=true) (S:FnScope N ps scope)
 (len:∀vs H Q E,sp vs H Q E->vs.length=ps.length)
 (hbody:∀(A:Around) (outer:List Env) (s:Shared) (H:Hp) (vs:List V) (Q:VK) (E:XK),Room k (A.deeper (envOfC qual scope 49 f cdv))->sp vs H Q E ->
  ∃t,PSs (CS CX P w K mg base N qual scope f cdv A outer s H E) body t/\t { nx:=λ_ H'=>Q .non H',rt:=Q } (start N vs) H):
 FnOk P w K mg base CX (k+1) f (fnOf name qual params body scope dV kV doc pm an cdv ct) ps sp:=by
 refine⟨len,λA outer s H args us vs Q E hr e0 hb r hsp=>?_⟩;have hl:=len _ _ _ _ hsp;have KX:K.In s.heap:=e0.mod.kin.keeps λb o e=>(e0.bs b o e).1;have lim:s.heap.NoLimit:=e0.mod.nolimit.keeps λb o e=>(e0.bs b o e).1;have hkind:∀y∈ps.zip us,scope.names.lookup y.1=some .local∨(scope.names.lookup y.1=some .cell/\((cellsFrom (49+1) 116 []).lookup y.1).isSome=true):=λ⟨n,v⟩ hy=>by
  rcases S.par n (of_mem_zip hy).1 with q|q
  .exact .inl q
  .exact .inr ⟨q,PySem.W.cellsFrom_some _ _ _ (.inl q)⟩
 refine codeAny_call_function hr.depth (KX _ _ lk) rfl S.co S.gen rfl (PySem.W.codeRec_of KX hcd) (hb _ _ _ _ ?_);refine wpAny_newFunctionEnv_cells S.kind hkind λenv he s1 x=>?_;subst he;refine⟨lim.keeps x.toInCall.keep,codeAny_func ?_⟩;obtain⟨t,ht,hq⟩:=hbody A outer s H vs Q E (hr.deeper _) hsp;have I:Inv (CS CX P w K mg base N qual scope f cdv A outer s H E) [] (start N vs) H s1:=LX S hr.hd e0 hl r x;refine iX (ht [] s1 (start N vs) H _ I hq) (λfl s' hs=>?_) λe s' hs=>hs;have fin:∀{σ':St} {H':Hp} {v:V} {u:Value},Inv (CS CX P w K mg base N qual scope f cdv A outer s H E) [] σ' H' s'->RelV v u->Q v H'->CE outer P w H s Q u s':=
  λ{σ' H' v u} J rv q=>⟨v,H',J.os,J.bare,J.base,J.hok,rv,q⟩
 cases fl with
 |ret u=>
  obtain⟨v,σ',H',J,rv,q⟩:=hs;exact fin J rv q
 |next=>
  obtain⟨σ',H',J,q⟩:=hs;exact fin (v:=V.non) (u:=Value.none) J rfl q
 |brk=>
  obtain⟨_,_,_,q⟩:=hs;exact False.elim q
 |cont=>
  obtain⟨_,_,_,q⟩:=hs;exact False.elim q
section
variable{X:Cx}{x:Str}{p pos:Pos}{e:Expr}{es:List Expr}{t:TA}{id T:String}{r:List V->Hp->VK->Prop}
noncomputable def tCB(r:List V->Hp->VK->Prop)(t:TA):TE:=λσ H Q=>t σ H λvs H1=>r vs H1 Q
def DJ(hc:CallR X (.builtin id) r)(hg:Gl X x)(hm:X.mg x=none)(hv:bootBuiltins x=some (.builtin id))(ha:PA X (e::es) t)(hn:x≠"__name__":=by decide)(hdb:(x==("__debug__":Str))=false:=by decide)
 (he:starEach (e::es) X.env=109::starEach es X.env:=by rfl) (hpl:(backTo pos (starEach es X.env)).any (·.1)=false:=by rfl):PE X (.Call (.Name x p) (e::es) [] pos) (tCB r t):=by
 intro pins s σ H Q I h;refine jr (F4 I hg hm hv ?_ hn hdb);exact PyProof.Rows.callWith_builtin1 (thn (ha pos pins s σ H _ I h) λus s1 ⟨vs,H1,I1,r1,q1⟩=>hc pins s1 σ H1 vs us Q I1 r1 q1) he hpl
def Cb(hc:CallR X (.type T) r)(hg:Gl X x)(hm:X.mg x=none)(hv:bootBuiltins x=some (.type T))(ha:PA X (e::es) t)(hn:x≠"__name__":=by decide)(hdb:(x==("__debug__":Str))=false:=by decide)
 (he:starEach (e::es) X.env=109::starEach es X.env:=by rfl) (hpl:(backTo pos (starEach es X.env)).any (·.1)=false:=by rfl):PE X (.Call (.Name x p) (e::es) [] pos) (tCB r t):=by
 intro pins s σ H Q I h;refine jr (F4 I hg hm hv ?_ hn hdb);exact PyProof.Rows.callWith_type1 (thn (ha pos pins s σ H _ I h) λus s1 ⟨vs,H1,I1,r1,q1⟩=>hc pins s1 σ H1 vs us Q I1 r1 q1) he hpl
end
end L2
namespace HT
open PySem PyProof.Rows
section
variable{prog:Program}{w:World}{A:Around}{E:Value->Shared->Prop}{s:Shared}
def cat_tup{t b:Addr}{vs ws:List Value}{Q:Value->Shared->Prop}(ht:IsTup s.heap t vs.toArray)(hb:IsTup s.heap b ws.toArray)(hv:vs≠[])
 (h1:ws=[]->Q (.ref t) s) (h2:ws≠[]->Q (.ref 49) { s with heap:=s.heap.push { cls:=.type "tuple",data:=.seq (vs++ws).toArray } })
 (hsz:vs.length+51<=sizeLine):wpAny 103 A (binaryOp .Add (.ref t) (.ref b)) Q E s:=by
 obtain⟨⟨cls,dd,data,sl⟩,ho,hc,n,hd⟩:=id ht;obtain⟨⟨cls2,dd2,data2,sl2⟩,ho2,hc2,n2,hd2⟩:=id hb;simp only at hc hd hc2 hd2;subst hc hd hc2 hd2;have e:vs.toArray++ws.toArray=(vs++ws).toArray:=by simp
 by_cases hw:ws=[]
 .exact concat_meets ⟨_,ho,rfl⟩ ⟨_,ho2,rfl⟩ noFill_tuple_add seq_tuple_add PySem.F.slot_tuple_add PySem.F.entry_tuple_add (PySem.F.args_tuple_add_2 _ _)
   (tuple_addW1 t b vs.toArray ws.toArray n n2 dd dd2 sl sl2 (by simpa using hv) (by simp[hw])) ⟨ho,ho2,h1 hw⟩
 .refine concat_meets ⟨_,ho,rfl⟩ ⟨_,ho2,rfl⟩ noFill_tuple_add seq_tuple_add PySem.F.slot_tuple_add PySem.F.entry_tuple_add (PySem.F.args_tuple_add_2 _ _)
   (tuple_addW2 t b vs.toArray ws.toArray n n2 dd dd2 sl sl2 (by simpa using hv) (by simpa using hw) (by rw[ip,ip];exact hsz)) ⟨ho,ho2,?_⟩
  rw[e];exact h2 hw
noncomputable def sIx(n d:Nat):Option Int->Nat
 |none=>d
 |some v=>if v<0 then(v+(n:Int)).toNat else min v.toNat n
def sIx_none(n d:Nat):sIx n d none=d:=rfl
def sIx_nat(n d k:Nat):sIx n d (some (k:Int))=min k n:=by
 show(if(k:Int)<0 then((k:Int)+(n:Int)).toNat else min (k:Int).toNat n)=min k n;rw[ie 50,ju]
def a7(n d:Nat)(hd:d<=n)(o:Option Int):sIx n d o<=n:=by
 cases o with
 |none=>exact hd
 |some v=>
  show(if v<0 then(v+(n:Int)).toNat else min v.toNat n)<=n;by_cases hv:v<0
  .rw[ia hv];omega
  .rw[ie hv];exact Nat.min_le_right _ _
def PR(v:Int)(n d:Nat):(if v<0 then max (v+(n:Int)) 0 else min v (n:Int))=((sIx n d (some v):Nat):Int):=by
 show(if v<0 then max (v+(n:Int)) 0 else min v (n:Int))=(((if v<0 then(v+(n:Int)).toNat else min v.toNat n):Nat):Int);by_cases hv:v<0
 .simp only[ia hv];omega
 .simp only[ie hv];omega
def RY(lo hi:Option Int)(n:Nat):Builtin.Slice.sliceAdjust lo hi 1 (n:Int)=(((sIx n 0 lo:Nat):Int),((sIx n n hi:Nat):Int)):=by
 have h1:¬ ((1:Int)<0):=by omega
 unfold Builtin.Slice.sliceAdjust;simp only[h1,j5];refine Prod.ext ?_ ?_
 .cases lo with
  |none=>rfl
  |some v=>exact PR v n 0
 .cases hi with
  |none=>rfl
  |some v=>exact PR v n n
def QU(i j:Nat):Builtin.Slice.slicePlaces (i:Int) (j:Int) 1=j-i:=by
 unfold Builtin.Slice.slicePlaces;have h1:(1:Int)>0:=by omega
 simp only[h1,iy,Int.ediv_one];split<;>omega
def Jd{v:Value}{o:Option Int}{Q:Option Int->Shared->Prop}(p:IsPart v o)(h:Q o s):wpAny 103 A (Builtin.Slice.slicePartIndex v) Q E s:=by
 cases p with
 |none=>exact slicePart_none h
 |int i t=>exact slicePart_int h
def Ik{sl:Addr}{vl vu:Value}{lo hi:Option Int}{n:Nat}{Q:Int×Int×Nat->Shared->Prop}(hs:s.heap.IsSliceOf sl vl vu .none)(pl:IsPart vl lo)(pu:IsPart vu hi)
 (h:Q (((sIx n 0 lo:Nat):Int),1,sIx n n hi-sIx n 0 lo) s):wpAny 103 A (Builtin.Slice.sliceApplied (.ref sl) (pure (n:Int))) Q E s:=by
 obtain⟨os,hos,hcs,hds⟩:=id hs;unfold Builtin.Slice.sliceApplied Builtin.Slice.sliceFields;refine ic (ic (jV hos hds (x:=vl) rfl (ic (jV hos hds (x:=vu) rfl (ic (jV hos hds (x:=.none) rfl (ik ?_)))))));refine ic (slicePart_none ?_);show wpAny _ _ (if((1:Int)==0)=true then _ else _) _ _ s;rw[ie 107];refine ic (Jd pl (ic (Jd pu (ic (ik ?_)))));show wpAny _ _ (match Builtin.Slice.sliceAdjust lo hi 1 (n:Int)with|(lo,hi)=>pure (lo,(1:Int),Builtin.Slice.slicePlaces lo hi 1)) _ _ s;rw[RY lo hi n];show wpAny _ _ (pure (((sIx n 0 lo:Nat):Int),(1:Int),Builtin.Slice.slicePlaces ((sIx n 0 lo:Nat):Int) ((sIx n n hi:Nat):Int) 1)) _ _ s;rw[QU];exact ik h
def VI(xs:Array Value)(i k:Nat):((57 k).filterMap λ(m:Nat)=>xs[((i:Int)+(m:Int)*1).toNat]?).toArray=((xs.toList.drop i).take k).toArray:=by
 have e:(λ(m:Nat)=>xs[((i:Int)+(m:Int)*1).toNat]?)=λm=>xs[i+m]? := by
  funext m
  have:((i:Int)+(m:Int)*1).toNat=i+m:=by omega
  rw[this]
 rw[e];have:=pick_run xs i k;rw[List.filterMap_map]at this;have e2:((λx=>xs[x]?) ∘ λx=>i+x)=λm=>xs[i+m]? := rfl;rw[e2]at this;rw[this]
def getItem_tuple_cut{t sl:Addr}{items:Array Value}{vl vu:Value}{lo hi:Option Int}{Q:Value->Shared->Prop}(ht:IsTup s.heap t items)(hs:s.heap.IsSliceOf sl vl vu .none)(pl:IsPart vl lo)(pu:IsPart vu hi)
 (hw:¬ (sIx items.size 0 lo=0/\sIx items.size items.size hi=items.size))
 (h:Q (.ref 49) { s with heap:=s.heap.push { cls:=.type "tuple",data:=.seq ((items.toList.drop (sIx items.size 0 lo)).take (sIx items.size items.size hi-sIx items.size 0 lo)).toArray } })
 (hsz:items.size<=sizeLine):wpAny 103 A (getItem (.ref t) (.ref sl)) Q E s:=by
 have htake:sizeOk (.seq ((items.toList.drop (sIx items.size 0 lo)).take (sIx items.size items.size hi-sIx items.size 0 lo)).toArray):=by
  show((items.toList.drop (sIx items.size 0 lo)).take (sIx items.size items.size hi-sIx items.size 0 lo)).toArray.size<=sizeLine;rw[ip,ji,length_drop,Array.length_toList];omega
 have hj:sIx items.size items.size hi<=items.size:=a7 _ _ (ig _) hi;obtain⟨os,hos,hcs,hds⟩:=id hs;have hTs:s.TypeIs (.ref sl) "slice":=⟨os,hos,hcs⟩
 unfold getItem
 try with_reducible refine ja ?_
 first|refine ic (ik ?_)|skip
 refine ic (wpAny_sequenceKey ht.typeIs 107 ?_);refine ic (wpAny_callSpecial?_slot (name:=Str.ofString "__getitem__") ht.typeIs PyProof.Rows.slot_tuple_getitem
  (wpAny_call_entry PyProof.Rows.slot_tuple_getitem ht.typeIs entry_tuple_getitem ?_ (args_tuple_getitem _ _)))
 show wpAny _ _ (Builtin.Tuple.tupleItemsOf (.ref t) >>= _) _ _ s;refine ic (tupleItemsOf_ ht ?_);refine ic (wpAny_typeOf hTs ?_);rw[ia 107];refine ic (Ik hs pl pu ?_);have hno:¬ ((((sIx items.size 0 lo:Nat):Int)==0&&(1:Int)==1&&(sIx items.size items.size hi-sIx items.size 0 lo)==items.size)=true):=by
  intro q;rw[Bool.and_eq_true,Bool.and_eq_true]at q;have q1:((sIx items.size 0 lo:Nat):Int)=0:=eq_of_beq q.1.1;have q2:sIx items.size items.size hi-sIx items.size 0 lo=items.size:=eq_of_beq q.2;exact hw ⟨by omega,by omega⟩
 show wpAny _ _ (if(((sIx items.size 0 lo:Nat):Int)==0&&(1:Int)==1&&(sIx items.size items.size hi-sIx items.size 0 lo)==items.size)=true then _ else _) _ _ s;rw[ie hno,VI]
 first
  |exact ic (m:=Builtin.Tuple.tupleExact _) (jK (ik ⟨_,rfl,ik h⟩) htake)
  |exact ic (m:=Builtin.Tuple.tupleExact _) (jK (ic (ik (ik ⟨_,rfl,ik h⟩))) htake)
  |exact ic (ic (m:=Builtin.Tuple.tupleExact _) (jK (ik (ik ⟨_,rfl,ik h⟩)) htake))
  |exact ic (ic (m:=Builtin.Tuple.tupleExact _) (jK (ik ⟨_,rfl,ik h⟩) htake))
end
end HT
namespace L2
open PySem PySem.Spec PyProof.Rows
noncomputable abbrev TO:=St->Hp->(Option Int->Hp->Prop)->Prop
def PO(X:Cx)(e:Option Expr)(t:TO):Prop:=
 ∀(pins:List (Addr×Obj)) (s:Shared) (σ:St) (H:Hp) (Q:Option Int->Hp->Prop),Inv X pins σ H s->t σ H Q ->
   wpAny 54 X.A (evalPart e X.env) (λu s'=>∃o H',Inv X pins σ H' s'/\IsPart u o/\Q o H') X.xe s
noncomputable def KN:TO:=λ_ H Q=>Q none H
noncomputable def Pn(t:TE):TO:=λσ H Q=>t σ H λx H1=>∃i,x=.int i/\Q (some i) H1
section
variable{X:Cx}{e:Expr}{te:TE}{lo hi:Option Expr}{tl th:TO}{pos p2:Pos}
def Yh:PO X none KN:=by
 intro pins s σ H Q I h;rw[evalPart_none];exact ik ⟨none,H,I,.none,h⟩
def Yg(h:PE X e te):PO X (some e) (Pn te):=by
 intro pins s σ H Q I hw;rw[evalPart_some];refine thn (h pins s σ H _ I hw) λu s1 ⟨x,H1,I1,r1,q1⟩=>?_;obtain⟨i,rfl,q⟩:=q1;obtain⟨t,rfl⟩:=r1;exact⟨some i,H1,I1,.int i t,q⟩
def SlR(X:Cx)(r:V->Option Int->Option Int->Hp->VK->Prop):Prop:=
 ∀(pins:List (Addr×Obj)) (s:Shared) (σ:St) (H:Hp) (x:V) (v vl vu:Value) (lo hi:Option Int) (sl:Addr) (Q:VK),Inv X pins σ H s->RelV x v->s.heap.IsSliceOf sl vl vu .none->IsPart vl lo->IsPart vu hi->r x lo hi H Q ->
   ∃T id,typeLookup (.type T) "__getitem__"=pure (some (.builtin id))/\s.TypeIs v T/\wpAny 54 X.A (getItem v (.ref sl)) (EP X pins σ Q) X.xe s
noncomputable def tSl(r:V->Option Int->Option Int->Hp->VK->Prop)(te:TE)(tl th:TO):TE:=λσ H Q=>te σ H λx H1=>tl σ H1 λl H2=>th σ H2 λu H3=>r x l u H3 Q
def NN{r:V->Option Int->Option Int->Hp->VK->Prop}(hr:SlR X r)(he:PE X e te)(hl:PO X lo tl)(hu:PO X hi th):PE X (.Subscript e (.Slice lo hi none p2) pos) (tSl r te tl th):=by
 intro pins s σ H Q I h;refine Subscript_ (thn (he pins s σ H _ I h) λv s1 ⟨x,H1,I1,r1,q1⟩=>?_);refine wpAny_Slice (thn (hl pins s1 σ H1 _ I1 q1) λvl s2 ⟨l,H2,I2,pl,q2⟩=>thn (hu pins s2 σ H2 _ I2 q2) λvu s3 ⟨u,H3,I3,pu,q3⟩=>?_);rw[evalPart_none];refine ik ?_;have I4:Inv X pins σ H3 { s3 with heap:=s3.heap.push { cls:=.type "slice",data:=.fields #[vl,vu,.none] } }:=I3.kept (t':=s3.toks) λb ob q=>53 _ q;obtain⟨T,id,hT,ht,hg⟩:=hr pins { s3 with heap:=s3.heap.push { cls:=.type "slice",data:=.fields #[vl,vu,.none] } } σ H3 x v vl vu l u s3.heap.objs.size Q I4 r1 (Heap.IsSliceOf.new ..) pl pu q3;show wpAny 54 X.A (subscriptTail e (.Slice lo hi none p2) v (.ref s3.heap.objs.size)) (EP X pins σ Q) X.xe { s3 with heap:=s3.heap.push { cls:=.type "slice",data:=.fields #[vl,vu,.none] } };exact tail_any (ops:=[.ref s3.heap.objs.size,v]) ht hT hg (by with_unfolding_all rfl)
noncomputable def FW(xs:List V)(lo hi:Option Int):List V:=(xs.drop (HT.sIx 105 0 lo)).take (HT.sIx 105 105 hi-HT.sIx 105 0 lo)
def IX(xs:List V)(lo hi:Option Int):(FW xs lo hi).length<=xs.length:=by
 unfold FW;rw[ji,length_drop];omega
def QD(K:Frag):V->Option Int->Option Int->Hp->VK->Prop:=λx lo hi H Q=>∃a xs,x=.ref a/\SqT K H a xs /\
 ¬ (HT.sIx 105 0 lo=0/\HT.sIx 105 105 hi=105)/\∀p,H p=none->Q (.ref p) (upd H p (.tup (FW xs lo hi)))
def Zw:SlR X (QD X.K):=by
 intro pins s σ H x v vl vu lo hi sl Q I rx hs pl pu h;obtain⟨a,xs,rfl,hx,hw,q⟩:=h;cases rx;obtain⟨its,r,ht,hz⟩:=I.tuple hx;have hlen:its.toArray.size=xs.length:=by rw[ip];exact r.length.symm
 refine⟨"tuple",_,PyProof.Rows.slot_tuple_getitem.lookup,ht.typeIs,?_⟩;refine HT.getItem_tuple_cut ht hs pl pu (by rw[hlen];exact hw) ?_ (by rw[hlen];exact hz);rw[hlen];refine⟨.ref 49,_,I.laid (t':=s.toks) (o:=.tup (FW xs lo hi)) (λb ob q=>53 _ q) (ig _) ?_,rfl,q _ (I.hok.fresh (ig _))⟩;exact⟨iw (IX xs lo hi) hz,_,(r.drop (HT.sIx 105 0 lo)).take (HT.sIx 105 105 hi-HT.sIx 105 0 lo),IsTupD.new _ _⟩
noncomputable def QJ(K:Frag):R2:=λx y H Q=>∃a b xs ys,x=.ref a/\y=.ref b/\SqT K H a xs/\SqT K H b ys/\xs≠[]/\105+ys.length<=sizeLine /\
 (ys=[]->Q (.ref a) H)/\(ys≠[]->∀p,H p=none->Q (.ref p) (upd H p (.tup (xs++ys))))
def Vals.nil_iff{xs:List V}{us:List Value}(r:Vals xs us):us=[]↔xs=[]:=by
 cases r with
 |nil=>simp
 |cons _ _=>simp
def Yx:OpR X (binaryOp .Add) (QJ X.K):=by
 intro pins s σ H x y v u Q I rx ry h;obtain⟨a,b,xs,ys,rfl,rfl,ha,hb,hx,hz,q1,q2⟩:=h;cases rx;cases ry;obtain⟨its,r1,p1,_⟩:=I.tuple ha;obtain⟨its2,r2,p2,_⟩:=I.tuple hb;refine HT.cat_tup p1 p2 (λz=>hx (r1.nil_iff.mp z)) (λz=>⟨.ref a,H,I,rfl,q1 (r2.nil_iff.mp z)⟩) (λz=>?_) (by rw[<- r1.length,<- r2.length];exact hz);refine⟨.ref 49,_,I.laid (t':=s.toks) (o:=.tup (xs++ys)) (λb ob q=>53 _ q) (ig _) ?_,rfl,q2 (λw=>z (r2.nil_iff.mpr w)) _ (I.hok.fresh (ig _))⟩;exact⟨by rw[jb];exact hz,_,r1.append r2,IsTupD.new _ _⟩
end
noncomputable def ixN(n:Nat)(i:Int):Option Nat:=if 0<=i then(if i<n then some i.toNat else none)else if -(n:Int)<=i then some (i+n).toNat else none
def atI{α:Type}(xs:List α)(i:Int):Option α:=(ixN 105 i).bind λj=>xs[j]?
def Ks{n:Nat}{i:Int}{j:Nat}(h:ixN n i=some j):seqIndex? i n=some j/\j<n/\-(n:Int)<=i/\i<n:=by
 unfold ixN at h;by_cases h0:0<=i
 .rw[ia h0]at h;by_cases h1:i<n
  .rw[ia h1]at h;have e:i.toNat=j:=111 h;exact⟨by rw[seqIndex_of h0 h1,e],by omega,by omega,h1⟩
  .rw[ie h1]at h;cases h
 .rw[ie h0]at h;by_cases h1:-(n:Int)<=i
  .rw[ia h1]at h;have e:(i+n).toNat=j:=111 h;exact⟨by rw[seqIndex_neg 50 h1,e],by omega,h1,by omega⟩
  .rw[ie h1]at h;cases h
def L9{α:Type}{xs:List α}{i:Int}{v:α}(h:atI xs i=some v):∃j,seqIndex? i 105=some j/\xs[j]?=some v/\j<105/\-(xs.length:Int)<=i/\i<xs.length:=by
 unfold atI at h;cases e:ixN 105 i with
 |none=>rw[e]at h;cases h
 |some j=>
  rw[e]at h;obtain⟨h1,h2,h3,h4⟩:=Ks e;exact⟨j,h1,h,h2,h3,h4⟩
def BX{α:Type}{xs:List α}{j:Nat}{v:α}(h:xs[j]?=some v):atI xs (j:Int)=some v:=by
 have hj:j<xs.length:=(102 h).1;have e:ixN 105 (j:Int)=some j:=by
  unfold ixN;rw[ia 50,ia 50];simp
 unfold atI;rw[e];exact h
def WH{α:Type}(xs:List α)(v:α):atI (xs++[v]) (-1)=some v:=by
 have hl:(xs++[v]).length=105+1:=by simp
 have e:ixN (xs++[v]).length (-1)=some xs.length:=by
  unfold ixN;rw[hl,ie 107,ia 50]
  congr 1
  omega
 unfold atI;rw[e];show(xs++[v])[105]?=some v;simp
def LB(b:Expr):Prop:=∀o i,subscripted b false o i=operate [o,i] (getItem o i)
def IxR(X:Cx)(r:R2):Prop:=
 ∀(value slice:Expr) (pins:List (Addr×Obj)) (s:Shared) (σ:St) (H:Hp) (x y:V) (v u:Value) (Q:VK),Inv X pins σ H s->RelV x v->RelV y u->r x y H Q ->
   subscripted slice false v u=operate [v,u] (getItem v u)->wpAny 54 X.A (subscriptTail value slice v u) (EP X pins σ Q) X.xe s
def MtR(X:Cx)(id:String)(r:V->List V->Hp->VK->Prop):Prop:=
 ∀(pins:List (Addr×Obj)) (s:Shared) (σ:St) (H:Hp) (x:V) (xs:List V) (v:Value) (us:List Value) (Q:VK),Inv X pins σ H s->RelV x v->Vals xs us->r x xs H Q ->
   wpAny 54 X.A (call (.builtin id) (v::us)) (EP X pins σ Q) X.xe s
section
variable{X:Cx}{a b:Expr}{ta tb:TE}{pos:Pos}
def IxR.or{r r':R2}(h:IxR X r)(h':IxR X r'):IxR X (λx y H Q=>r x y H Q∨r' x y H Q):=by
 intro value slice pins s σ H x y v u Q I rx ry q hs;rcases q with q|q
 .exact h value slice pins s σ H x y v u Q I rx ry q hs
 .exact h' value slice pins s σ H x y v u Q I rx ry q hs
def QX{r:R2}(hr:IxR X r)(ha:PE X a ta)(hb:PE X b tb)(hs:LB b):PE X (.Subscript a b pos) (tOp r ta tb):=by
 intro pins s σ H Q I h;exact Subscript_ (WD ha hb I h λv u s2 x y H2 I2 rx ry q=>hr a b pins s2 σ H2 x y v u Q I2 rx ry q (hs _ _))
noncomputable def Iw(K:Frag):R2:=λx y H Q=>∃p xs i v,x=.ref p/\y=.int i/\SqL K H p xs/\atI xs i=some v/\Q v H
noncomputable def Ut(K:Frag):R2:=λx y H Q=>∃p xs i v,x=.ref p/\y=.int i/\SqT K H p xs/\atI xs i=some v/\Q v H
def P3:IxR X (Iw X.K):=by
 intro value slice pins s σ H x y v u Q I rx ry h hs;obtain⟨p,xs,i,z,rfl,rfl,hq,he,q⟩:=h;cases rx;obtain⟨t,rfl⟩:=ry;obtain⟨its,r,pl,hz⟩:=I.list hq;obtain⟨j,h1,h2,h3,h4,h5⟩:=L9 he;obtain⟨w,ew,rw'⟩:=r.get h2;have hl:=r.length;have hn:=F1;have fin:EP X pins σ Q w s:=⟨z,H,I,rw',q⟩
 by_cases h0:0<=i
 .have hj:i.toNat=j:=by
   rw[seqIndex_of h0 h5]at h1;exact 111 h1
  exact item_listR pl.isList h0 50 (by rw[hj];simpa using ew) fin hs
 .have hj:(i+(its.toArray.size:Int)).toNat=j:=by
   rw[seqIndex_neg 50 h4]at h1;rw[ip,<- hl];exact 111 h1
  exact subscriptTail_builtinR (x:=w) pl.isList.typeIs slot_list_getitem.lookup
   (wpAny_getItem_list_neg (Q:=λr s'=>r=w/\EP X pins σ Q r s') pl.isList 50 (by rw[ip]<;>omega) 50 (by rw[hj];simpa using ew) ⟨rfl,fin⟩) hs
def cu:IxR X (Ut X.K):=by
 intro value slice pins s σ H x y v u Q I rx ry h hs;obtain⟨p,xs,i,z,rfl,rfl,hq,he,q⟩:=h;cases rx;obtain⟨t,rfl⟩:=ry;obtain⟨its,r,pl,hz⟩:=I.tuple hq;obtain⟨j,h1,h2,h3,h4,h5⟩:=L9 he;obtain⟨w,ew,rw'⟩:=r.get h2;have hl:=r.length;have hn:=F1;have fin:EP X pins σ Q w s:=⟨z,H,I,rw',q⟩
 exact subscriptTail_builtinR (x:=w) pl.typeIs slot_tuple_getitem.lookup
  (getItem_tuple (j:=j) (Q:=λr s'=>r=w/\EP X pins σ Q r s') pl 50 50 (by rw[ip,<- hl];exact h1) (by simpa using ew) ⟨rfl,fin⟩) hs
def Qc(its:List Value)(n j:Nat)(u:Value):Obj.mapSeq (·.setIfInBounds j u) { cls:=.type "list",data:=.seq its.toArray n }={ cls:=.type "list",data:=.seq (its.set j u).toArray n }:=by
 simp[Obj.mapSeq]
theorem Inv.lst{pins:List (Addr×Obj)}{σ:St}{H:Hp}{s:Shared}{p:Addr}{xs:List V}(I:Inv X pins σ H s)(h:H p=some (.lst xs)):
 ∃(its:List Value) (n:Nat),Vals xs its/\s.heap.get? p=some { cls:=.type "list",data:=.seq its.toArray n }/\105<=sizeLine:=by
 obtain⟨z,its,n,r,e⟩:=I.hok p _ h;exact⟨its,n,r,e,z⟩
def Inv.lstUpd{pins:List (Addr×Obj)}{σ:St}{H:Hp}{s:Shared}{p:Addr}{xs ys:List V}{its its':List Value}{n n':Nat}{f:Obj->Obj}(I:Inv X pins σ H s)(h:H p=some (.lst xs))
 (ho:s.heap.get? p=some { cls:=.type "list",data:=.seq its.toArray n }) (hf:f { cls:=.type "list",data:=.seq its.toArray n }={ cls:=.type "list",data:=.seq its'.toArray n' }) (r:Vals ys its') (hz:ys.length<=sizeLine) (t:Nat):
 Inv X pins σ (upd H p (.lst ys)) { s with heap:=s.heap.update p f,toks:=t }:=by
 have e:(s.heap.update p f).get? p=some { cls:=.type "list",data:=.seq its'.toArray n' }:=by
  rw[Heap.get?_update_self f ho (by rw[hf]<;>rfl),hf]
 refine I.write (x:=p) (e:=p) (by rw[h];trivial) (.inl rfl) (λb u hb q=>(Heap.get?_update_other _ _ (Ne.symm hb)).trans q) ⟨_,e⟩ ?_;exact⟨hz,its',n',r,e⟩
def Jl:V->V->V->Hp->(Hp->Prop)->Prop:=λo i v H Q=>∃p xs k j,o=.ref p/\i=.int k/\H p=some (.lst xs)/\ixN 105 k=some j/\Q (upd H p (.lst (xs.set j v)))
def Ms:WK X Jl:=by
 intro pins s σ H o i v ov iv u Q I ro ri rv h;obtain⟨p,xs,k,j,rfl,rfl,hp,hj,q⟩:=h;cases ro;obtain⟨t,rfl⟩:=ri;obtain⟨its,n,r,ho,hz⟩:=I.lst hp;obtain⟨h1,h2,h3,h4⟩:=Ks hj;have hl:=r.length;have hn:=F1;have I':Inv X pins σ (upd H p (.lst (xs.set j v))) { s with heap:=s.heap.update p (Obj.mapSeq (·.setIfInBounds j u)) }:=
  I.lstUpd hp ho (Qc its n j u) (r.set rv j) (by rw[List.length_set];exact hz) s.toks
 by_cases h0:0<=k
 .have hk:k.toNat=j:=by
   rw[seqIndex_of h0 h4]at h1;exact 111 h1
  exact PySem.W.ki_setAt ho h0 50 (by rw[ip,<- hl];exact h4) (by rw[hk];exact⟨_,I',q⟩)
 .have hk:(k+(its.toArray.size:Int)).toNat=j:=by
   rw[seqIndex_neg 50 h3]at h1;rw[ip,<- hl];exact 111 h1
  exact PySem.W.ki_setBack ho 50 (by rw[ip,<- hl];exact h3) 50 (by rw[hk];exact⟨_,I',q⟩)
def Mq(lo hi:Option Int)(n:Nat):(sliceBounds lo hi none n).1=((HT.sIx n 0 lo:Nat):Int)/\(sliceBounds lo hi none n).2.1=((HT.sIx n n hi:Nat):Int)/\(sliceBounds lo hi none n).2.2=1:=by
 refine⟨?_,?_,rfl⟩
 .cases lo with
  |none=>simp[sliceBounds,HT.sIx]
  |some i=>
   simp only[sliceBounds,HT.sIx,Option.getD_none,show(1:Int)>0 by decide,iy];by_cases h:i<0
   .simp only[h,iy]<;>omega
   .simp only[h,j5]<;>omega
 .cases hi with
  |none=>simp[sliceBounds,HT.sIx]
  |some i=>
   simp only[sliceBounds,HT.sIx,Option.getD_none,show(1:Int)>0 by decide,iy];by_cases h:i<0
   .simp only[h,iy]<;>omega
   .simp only[h,j5]<;>omega
def Lp(its:List Value)(lo hi:Option Int):slicePick its.toArray lo hi none=((its.drop (HT.sIx its.length 0 lo)).take (HT.sIx its.length its.length hi-HT.sIx its.length 0 lo)).toArray:=by
 obtain⟨h1,h2,h3⟩:=Mq lo hi its.toArray.size;unfold slicePick;rw[h1,h2,h3];simp only[sliceRange_one,pick_run,ip]<;>rfl
def QH(K:Frag):V->Option Int->Option Int->Hp->VK->Prop:=λx lo hi H Q=>∃a xs,x=.ref a/\SqL K H a xs/\∀p,H p=none->Q (.ref p) (upd H p (.lst (FW xs lo hi)))
def XQ:SlR X (QH X.K):=by
 intro pins s σ H x v vl vu lo hi sl Q I rx hs pl pu h;obtain⟨a,xs,rfl,hx,q⟩:=h;cases rx;obtain⟨its,r,ht,hz⟩:=I.list hx;have hlen:=r.length;refine⟨"list",_,slot_list_getitem.lookup,ht.isList.typeIs,?_⟩;refine wpAny_getItem_list_slice ht.isList hs pl pu .none 55 ?_ (by rw[ip]<;>omega);rw[Lp,<- hlen];refine⟨.ref 49,_,I.laid (t':=s.toks) (o:=.lst (FW xs lo hi)) (λb ob q=>53 _ q) (ig _) ?_,rfl,q _ (I.hok.fresh (ig _))⟩;exact⟨iw (IX xs lo hi) hz,_,0,(r.drop (HT.sIx 105 0 lo)).take (HT.sIx 105 105 hi-HT.sIx 105 0 lo),115 _ rfl⟩
noncomputable def E2:V->Bool
 |.non=>true
 |.bl _=>true
 |.int _=>true
 |.str _=>true
 |_=>false
noncomputable def eqV:V->V->Bool
 |.non,.non=>true
 |.bl a,.bl b=>a==b
 |.bl a,.int b=>(if a then 1 else 0)==b
 |.int a,.bl b=>a==(if b then 1 else 0)
 |.int a,.int b=>a==b
 |.str a,.str b=>a==b
 |_,_=>false
def dL{A:Around}{s:Shared}{y x:V}{u v:Value}(ry:RelV y u)(rx:RelV x v)(fy:E2 y=true)(fx:E2 x=true):SeqAt.EqAt A s u v (eqV y x):=by
 cases y with
 |non=>
  cases ry;cases x with
  |non=>cases rx;exact SeqAt.EqAt.same _
  |bl b=>cases rx;exact SeqAt.EqAt.none_bool b
  |int b=>obtain⟨t,rfl⟩:=rx;exact SeqAt.EqAt.none_int b t
  |str b=>obtain⟨t,rfl⟩:=rx;exact SeqAt.EqAt.none_str b t
  |_=>exact absurd (show false=true from fx) 110
 |bl a=>
  cases ry;cases x with
  |non=>cases rx;exact SeqAt.EqAt.bool_none a
  |bl b=>cases rx;exact SeqAt.EqAt.bool_bool a b
  |int b=>obtain⟨t,rfl⟩:=rx;exact SeqAt.EqAt.bool_int a b t
  |str b=>obtain⟨t,rfl⟩:=rx;exact SeqAt.EqAt.bool_str a b t
  |_=>exact absurd (show false=true from fx) 110
 |int a=>
  obtain⟨t',rfl⟩:=ry;cases x with
  |non=>cases rx;exact SeqAt.EqAt.int_none a t'
  |bl b=>cases rx;exact SeqAt.EqAt.int_bool a t' b
  |int b=>obtain⟨t,rfl⟩:=rx;exact SeqAt.EqAt.int_int a t' b t
  |str b=>obtain⟨t,rfl⟩:=rx;exact SeqAt.EqAt.int_str a t' b t
  |_=>exact absurd (show false=true from fx) 110
 |str a=>
  obtain⟨t',rfl⟩:=ry;cases x with
  |non=>cases rx;exact SeqAt.EqAt.str_none a t'
  |bl b=>cases rx;exact SeqAt.EqAt.str_bool a t' b
  |int b=>obtain⟨t,rfl⟩:=rx;exact SeqAt.EqAt.str_int a t' b t
  |str b=>obtain⟨t,rfl⟩:=rx;exact SeqAt.EqAt.str_str a t' b t
  |_=>exact absurd (show false=true from fx) 110
 |_=>exact absurd (show false=true from fy) 110
def eqU(x:V)(u:Value):Bool:=match u with
 |.none=>eqV .non x
 |.bool b=>eqV (.bl b) x
 |.int i _=>eqV (.int i) x
 |.str z _=>eqV (.str z) x
 |_=>false
def TV{x y:V}{u:Value}(r:RelV y u)(f:E2 y=true):eqU x u=eqV y x:=by
 cases y with
 |non=>cases r;rfl
 |bl b=>cases r;rfl
 |int i=>obtain⟨t,rfl⟩:=r;rfl
 |str z=>obtain⟨t,rfl⟩:=r;rfl
 |_=>exact absurd (show false=true from f) 110
theorem G3{x:V}:∀{xs:List V} {us:List Value},Vals xs us->xs.all E2=true->us.any (eqU x)=xs.any λy=>eqV y x
 |_,_,.nil,_=>rfl
 |y::xs,u::us,.cons r t,f=>by
  rw[List.all_cons,Bool.and_eq_true]at f;rw[jB,jB,TV r f.1,G3 t f.2]
theorem Et{A:Around}{s:Shared}{x:V}{v:Value}(rx:RelV x v)(fx:E2 x=true):∀{xs:List V} {us:List Value},Vals xs us->xs.all E2=true->∀u∈us,SeqAt.EqAt A s u v (eqU x u)
 |_,_,.nil,_=>λu hu=>by cases hu
 |y::xs,u::us,.cons r t,f=>λu' hu=>by
  rw[List.all_cons,Bool.and_eq_true]at f;rcases mem_cons.mp hu with rfl|hu
  .rw[TV r f.1];exact dL r rx f.1 fx
  .exact Et rx fx t f.2 u' hu
def inV(x:V)(xs:List V):Bool:=xs.any λy=>eqV y x
def rIn(K:Frag)(neg:Bool):R2:=λx y H Q=>∃p xs,y=.ref p/\(SqL K H p xs∨SqT K H p xs)/\E2 x=true/\xs.all E2=true/\Q (.bl (if neg then !inV x xs else inV x xs)) H
def Sm:OpR X (compareOp .In) (rIn X.K false):=by
 intro pins s σ H x y v u Q I rx ry h;obtain⟨p,xs,rfl,hq,fx,fs,q⟩:=h;cases ry;rcases hq with hq|hq
 .obtain⟨its,r,pl,hz⟩:=I.list hq;refine SeqAt.in_listAt (eqU x) pl.isList (λw hw=>Et rx fx r fs w (by simpa using hw)) ⟨.bl _,H,I,rfl,?_⟩;rw[show its.toArray.any (eqU x)=its.any (eqU x) by simp,G3 r fs];exact q
 .obtain⟨its,r,pl,hz⟩:=I.tuple hq;refine SeqAt.in_tupleAt (eqU x) pl (λw hw=>Et rx fx r fs w (by simpa using hw)) ⟨.bl _,H,I,rfl,?_⟩;rw[show its.toArray.any (eqU x)=its.any (eqU x) by simp,G3 r fs];exact q
def NS:OpR X (compareOp .NotIn) (rIn X.K true):=by
 intro pins s σ H x y v u Q I rx ry h;obtain⟨p,xs,rfl,hq,fx,fs,q⟩:=h;cases ry;rcases hq with hq|hq
 .obtain⟨its,r,pl,hz⟩:=I.list hq;refine SeqAt.notIn_listAt (eqU x) pl.isList (λw hw=>Et rx fx r fs w (by simpa using hw)) ⟨.bl _,H,I,rfl,?_⟩;rw[show its.toArray.any (eqU x)=its.any (eqU x) by simp,G3 r fs];exact q
 .obtain⟨its,r,pl,hz⟩:=I.tuple hq;refine SeqAt.notIn_tupleAt (eqU x) pl (λw hw=>Et rx fx r fs w (by simpa using hw)) ⟨.bl _,H,I,rfl,?_⟩;rw[show its.toArray.any (eqU x)=its.any (eqU x) by simp,G3 r fs];exact q
def O5:CallR X (.builtin "len") (λxs H Q=>∃p ys,xs=[.ref p]/\(SqL X.K H p ys∨SqT X.K H p ys)/\Q (.int ys.length) H):=by
 intro pins s σ H xs us Q I r h;obtain⟨p,ys,rfl,hq,q⟩:=h;obtain⟨u,rfl,rx⟩:=BJ r;cases rx;have hn:=F1;rcases hq with hq|hq
 .obtain⟨its,r',pl,hz⟩:=I.list hq;have hlen:=r'.length;exact Calls.call_len_list pl.isList (by simp only[ip]<;>omega) ⟨.int ys.length,H,I.tok _,⟨s.toks+1,by rw[ip,hlen]⟩,q⟩
 .obtain⟨its,r',pl,hz⟩:=I.tuple hq;have hlen:=r'.length;exact len_tuple pl (by simp only[ip]<;>omega) ⟨.int ys.length,H,I.tok _,⟨s.toks+1,by rw[ip,hlen]⟩,q⟩
def CallR.or{f:Value}{r r':List V->Hp->VK->Prop}(h:CallR X f r)(h':CallR X f r'):CallR X f (λxs H Q=>r xs H Q∨r' xs H Q):=by
 intro pins s σ H xs us Q I rs q;rcases q with q|q
 .exact h pins s σ H xs us Q I rs q
 .exact h' pins s σ H xs us Q I rs q
def O4:CallR X (.type "list") (λxs H Q=>∃p ys,xs=[.ref p]/\(SqL X.K H p ys∨SqT X.K H p ys)/\∀l,H l=none->Q (.ref l) (upd H l (.lst ys))):=by
 intro pins s σ H xs us Q I r h;obtain⟨p,ys,rfl,hq,q⟩:=h;obtain⟨u,rfl,rx⟩:=BJ r;cases rx;have fin:∀(its:List Value),Vals ys its->ys.length<=sizeLine->∀(h':Heap) (c':Nat),(∀b o',s.heap.get? b=some o'->h'.get? b=some o') ->
  h'.get? 49=some { cls:=.type "list",dict:=none,data:=.seq its.toArray c',slots:=#[] }->EP X pins σ Q (.ref 49) { s with heap:=h' }:=λits r' hz h' c' kp e=>
  ⟨.ref 49,_,I.laid (t':=s.toks) kp (ig _) (show ObjOk X.prog X.w _ h' _ (.lst ys)from⟨hz,its,c',r',e⟩),rfl,q _ (I.hok.fresh (ig _))⟩
 rcases hq with hq|hq
 .obtain⟨its,r',pl,hz⟩:=I.list hq;have hlen:=r'.length;obtain⟨o,ho,hc,n,hd⟩:=pl.isList;exact call_list_seq p (.inl rfl) ho hc hd (λh' c' kp e=>fin its r' hz h' c' kp e) (by simp only[ip]<;>omega)
 .obtain⟨its,r',pl,hz⟩:=I.tuple hq;have hlen:=r'.length;obtain⟨o,ho,hc,n,hd⟩:=pl;exact call_list_seq p (.inr rfl) ho hc hd (λh' c' kp e=>fin its r' hz h' c' kp e) (by simp only[ip]<;>omega)
def M0:CallR X (.type "tuple") (λxs H Q=>∃p ys,xs=[.ref p]/\((SqL X.K H p ys/\∀l,H l=none->Q (.ref l) (upd H l (.tup ys)))∨(SqT X.K H p ys/\Q (.ref p) H))):=by
 intro pins s σ H xs us Q I r h;obtain⟨p,ys,rfl,h⟩:=h;obtain⟨u,rfl,rx⟩:=BJ r;cases rx;rcases h with⟨hq,q⟩|⟨hq,q⟩
 .obtain⟨its,r',pl,hz⟩:=I.list hq;have hlen:=r'.length;refine call_tuple_list pl.isList (λh' kp=>?_) (by simp only[ip]<;>omega);have I1:Inv X pins σ H { s with heap:=h' }:=I.kept (t':=s.toks) kp;have I2:Inv X pins σ (upd H h'.objs.size (.tup ys)) { s with heap:=h'.push { cls:=.type "tuple",data:=.seq its.toArray } }:=
   I1.laid (t':=s.toks) (λb o e=>53 _ e) (ig _) (show ObjOk X.prog X.w _ _ _ (.tup ys)from⟨hz,its,r',IsTupD.new _ _⟩)
  exact⟨.ref h'.objs.size,_,I2,rfl,q _ (I1.hok.fresh (ig _))⟩
 .obtain⟨its,r',pl,hz⟩:=I.tuple hq;exact call_tuple_same pl ⟨.ref p,H,I,rfl,q⟩
def tyV(K:Frag)(T:String)(x:V)(H:Hp):Prop:=match x with
 |.str _=>T="str"
 |.int _=>T="int"
 |.ref p=>(T="list"/\∃xs,SqL K H p xs)∨(T="tuple"/\∃o,K.lookup p=some o/\o.cls=.type "tuple"/\o.dict=none) ∨
  (T="dict"/\((∃kvs,H p=some (.dK kvs))∨∃kvs,H p=some (.dT kvs)))∨(T="set"/\∃S n,H p=some (.set S n))
 |_=>False
def Ry{pins:List (Addr×Obj)}{σ:St}{H:Hp}{s:Shared}{T:String}{x:V}{v:Value}(I:Inv X pins σ H s)(r:RelV x v)(ty:tyV X.K T x H):
 s.TypeIs v T/\∀a,v=.ref a->∃ob,s.heap.get? a=some ob/\ob.dict=none:=by
 cases x with
 |str z=>
  obtain⟨t,rfl⟩:=r;cases(show T="str" from ty);exact⟨typeIs_str s z t,λ_ e=>nomatch e⟩
 |int i=>
  obtain⟨t,rfl⟩:=r;cases(show T="int" from ty);exact⟨jt s i t,λ_ e=>nomatch e⟩
 |ref p=>
  cases r;rcases ty with⟨rfl,xs,hq⟩|⟨rfl,o,hk,hc,hd⟩|⟨rfl,hk⟩|⟨rfl,S,n,hk⟩
  .obtain⟨its,_,pl,_⟩:=I.list hq;refine⟨pl.isList.typeIs,λa e=>?_⟩;cases e;obtain⟨o,n,e,c,hd,_⟩:=pl;exact⟨o,e,hd⟩
  .refine⟨⟨o,I.kIn p o hk,hc⟩,λa e=>?_⟩;cases e;exact⟨o,I.kIn _ o hk,hd⟩
  .have z:∃o,s.heap.get? p=some o/\o.ExactDict:=by
    rcases hk with⟨kvs,hk⟩|⟨kvs,hk⟩
    .obtain⟨_,_,_,_,o,_,_,e,ex,_⟩:=I.hok p _ hk;exact⟨o,e,ex⟩
    .obtain⟨_,_,_,_,o,_,_,e,ex,_⟩:=I.hok p _ hk;exact⟨o,e,ex⟩
   obtain⟨o,e,ex⟩:=z;refine⟨⟨o,e,ex.1⟩,λa e2=>?_⟩;cases e2;exact⟨o,e,ex.2.1⟩
  .obtain⟨o,_,_,_,e,ex,_⟩:=I.hok p _ hk;refine⟨⟨o,e,ex.1⟩,λa e2=>?_⟩;cases e2;exact⟨o,e,ex.2.1⟩
 |_=>exact False.elim ty
noncomputable def UN(K:Frag)(T:String)(r:V->List V->Hp->VK->Prop)(to:TE):TE:=λσ H Q=>to σ H λx H1=>tyV K T x H1/\r x [] H1 Q
noncomputable def tBM(K:Frag)(T:String)(r:V->List V->Hp->VK->Prop)(to:TE)(t:TA):TE:=λσ H Q=>to σ H λx H1=>tyV K T x H1/\t σ H1 λxs H2=>r x xs H2 Q
variable{o e:Expr}{es:List Expr}{to:TE}{t:TA}{name:Str}{apos cpos:Pos}{T id:String}{r:V->List V->Hp->VK->Prop}
def cE(pa:PlainAttrs T)(slot:Slot T name id)(hty:typeOf (.builtin id)=pure (.type "method_descriptor"))(hm:MtR X id r)(ho:PE X o to)
 (hbase:attributeBase o name X.env (eval o X.env)=eval o X.env:=by rfl) (hline:(apos.endLine==cpos.line)=true:=by rfl):PE X (.Call (.Attribute o name apos) [] [] cpos) (UN X.K T r to):=by
 intro pins s σ H Q I h;refine wpAny_Call_method0_late hbase hline (thn (ho pins s σ H _ I h) λv s1 ⟨x,H1,I1,r1,ty,q1⟩=>?_);obtain⟨h1,h2⟩:=Ry I1 r1 ty;exact⟨T,id,pa,slot,hty,h1,h2,Calls.callWith_builtin rfl (PySem.evalArgs_none (hm pins s1 σ H1 x [] v [] Q I1 r1 .nil q1))⟩
def eV(pa:PlainAttrs T)(slot:Slot T name id)(hty:typeOf (.builtin id)=pure (.type "method_descriptor"))(hm:MtR X id r)(ho:PE X o to)(ha:PA X (e::es) t)
 (hbase:attributeBase o name X.env (eval o X.env)=eval o X.env:=by rfl)
 (hfew:((backTo cpos (starEach (e::es) X.env)).all (λx=>!x.1)&&(backToKw cpos (keywordEach [] X.env)).all (λx=>x.1.isSome)
  && decide ((e::es).length+([]:List Keyword).length+(if([]:List Keyword).isEmpty then 0 else 1)<30))=true:=by rfl)
 (hline:(apos.endLine==cpos.line)=true:=by rfl) (hs:starEach (e::es) X.env=109::starEach es X.env:=by rfl) (hplain:(backTo cpos (starEach es X.env)).any (·.1)=false:=by rfl):
 PE X (.Call (.Attribute o name apos) (e::es) [] cpos) (tBM X.K T r to t):=by
 intro pins s σ H Q I h;refine wpAny_Call_method_late hbase hfew hline rfl (thn (ho pins s σ H _ I h) λv s1 ⟨x,H1,I1,r1,ty,q1⟩=>?_);obtain⟨h1,h2⟩:=Ry I1 r1 ty;refine⟨T,id,pa,slot,hty,h1,h2,?_⟩;have hA:=ha cpos pins s1 σ H1 _ I1 q1;rw[hs]at hA ⊢;refine Calls.callWith_builtin (by show(false||(backTo cpos (starEach es X.env)).any (·.1))=false;rw[hplain]<;>rfl) (Calls.evalArgs_plain ?_);exact thn hA λus s2 ⟨vs,H2,I2,r2,q2⟩=>hm pins s2 σ H2 x vs v us Q I2 r1 r2 q2
end
def MtM(X:Cx)(id:String)(r:V->List V->Hp->VK->Prop):Prop:=
 ∀(pins:List (Addr×Obj)) (s:Shared) (σ:St) (H:Hp) (x:V) (xs:List V) (v:Value) (us:List Value) (Q:VK),Inv X pins σ H s->RelV x v->Vals xs us->r x xs H Q ->
   wpAny 54 X.A (call (.builtin id) (v::us)) (EP X pins σ Q) X.xe s
def Vals.one:∀{x:V} {us:List Value},Vals [x] us->∃u,us=[u]/\RelV x u
 |_,_,.cons r .nil=>⟨_,rfl,r⟩
def Vals.zero:∀{us:List Value},Vals [] us->us=[]
 |_,.nil=>rfl
theorem Vals.dropLast{xs:List V}{us:List Value}(h:Vals xs us):Vals xs.dropLast us.dropLast:=by
 induction h with
 |nil=>exact .nil
 |cons r t ih=>
  cases t with
  |nil=>exact .nil
  |cons q t'=>exact .cons r ih
theorem Vals.eraseIdx:∀{xs:List V} {us:List Value} (i:Nat),Vals xs us->Vals (xs.eraseIdx i) (us.eraseIdx i)
 |_,_,_,.nil=>.nil
 |_,_,0,.cons _ t=>t
 |_,_,i+1,.cons r t=>.cons r (Vals.eraseIdx i t)
theorem Vals.rep{xs:List V}{us:List Value}(h:Vals xs us):∀k:Nat,Vals (108 k xs).flatten (108 k us).flatten
 |0=>.nil
 |k+1=>by
  rw[jN,jN,flatten_cons,flatten_cons];exact Vals.append h (Vals.rep h k)
def Qu{α:Type}(l:List α):l.eraseIdx (l.length-1)=l.dropLast:=by
 induction l with
 |nil=>rfl
 |cons a r ih=>
  cases r with
  |nil=>rfl
  |cons b r=>
   have e:(a::b::r).length-1=((b::r).length-1)+1:=by
    have h1:(a::b::r).length=r.length+2:=rfl;have h2:(b::r).length=r.length+1:=rfl;omega
   rw[e,List.eraseIdx_cons_succ,ih]
   all_goals rfl
theorem LS{α:Type}:∀(l:List α) (i:Nat),(l.eraseIdx i).length<=l.length
 |[],_=>ig _
 |_::_,0=>jo _
 |_::r,i+1=>Nat.succ_le_succ (LS r i)
theorem LY(its:List Value):∀(k:Nat) (acc:List Value),
 List.foldl (λx1 x2=>x1++x2) acc.toArray (108 k its.toArray)=(acc++(108 k its).flatten).toArray
 |0,acc=>by simp
 |k+1,acc=>by
  have e:acc.toArray++its.toArray=(acc++its).toArray:=by simp
  have e2:(acc++its)++(108 k its).flatten=acc++(108 (k+1) its).flatten:=by
   rw[jN,flatten_cons,jI]
  rw[<- e2,<- LY its k (acc++its),<- e,jN,List.foldl_cons]
section
variable{X:Cx}{pins:List (Addr×Obj)}{σ:St}{H:Hp}{s:Shared}{l b:Addr}{xs ys zs:List V}
def Inv.lset{its its':List Value}{n:Nat}{f:Array Value->Array Value}{t':Nat}(I:Inv X pins σ H s)(hH:H l=some (.lst xs))
 (e:s.heap.get? l=some { cls:=.type "list",data:=.seq its.toArray n }) (hf:f its.toArray=its'.toArray) (hv:Vals ys its') (hz:ys.length<=sizeLine):
 Inv X pins σ (upd H l (.lst ys)) { s with heap:=s.heap.update l (Obj.mapSeq f),toks:=t' }:=by
 have q:=PySem.IsL.update e f;rw[hf]at q;refine I.write (x:=l) (e:=l) (by rw[hH];exact trivial) (.inl rfl) (λb' u hb hu=>(Heap.get?_update_other s.heap (Obj.mapSeq f) (Ne.symm hb)).trans hu) ⟨_,q⟩ ?_;exact⟨hz,its',_,hv,q⟩
def Inv.lnew{its:List Value}{t':Nat}(I:Inv X pins σ H s)(hv:Vals ys its)(hz:ys.length<=sizeLine):
 Inv X pins σ (upd H 49 (.lst ys)) { s with heap:=s.heap.push { cls:=.type "list",data:=.seq its.toArray },toks:=t' }:=
 I.laid (λ_ _ q=>53 _ q) (ig _) ⟨hz,its,0,hv,115 _ rfl⟩
theorem Inv.fresh(I:Inv X pins σ H s):H 49=none:=I.hok.fresh (ig _)
def Inv.lstM(I:Inv X pins σ H s)(hH:H l=some (.lst xs)):105<=sizeLine/\∃(its:List Value) (n:Nat),Vals xs its/\105=its.length/\s.heap.get? l=some { cls:=.type "list",data:=.seq its.toArray n }:=by
 obtain⟨z,its,n,r,e⟩:=I.hok l _ hH;exact⟨z,its,n,r,r.length,e⟩
def NW{n:Nat}(h:n<=sizeLine):Builtin.List.listTooLong n=false:=by
 unfold Builtin.List.listTooLong;exact j9 50
end
section
variable{X:Cx}
def Oq:V->List V->Hp->VK->Prop:=λx vs H Q=>∃l xs y,x=.ref l/\vs=[y]/\H l=some (.lst xs)/\105<sizeLine/\Q .non (upd H l (.lst (xs++[y])))
def LP:MtM X "list.append" Oq:=by
 intro pins s σ H x vs v us Q I rx rv h;obtain⟨l,xs,y,rfl,rfl,hH,hz,q⟩:=h;cases rx;obtain⟨u,rfl,ru⟩:=rv.one;obtain⟨z,its,n,r,hl,e⟩:=I.lstM hH;refine jQ F.slot_list_append ⟨_,e,rfl⟩ F.entry_list_append (F.args_list_append_2 _ _) (PySem.list_append l its.toArray n u (by rw[ip];omega)) ⟨e,?_⟩;refine⟨.non,_,I.lset (its':=its++[u]) hH e 55 (r.append (.cons ru .nil)) ?_,rfl,q⟩;rw[jb,List.length_singleton];omega
def Y3:V->List V->Hp->VK->Prop:=λx vs H Q=>∃l b xs zs,x=.ref l/\vs=[.ref b]/\H l=some (.lst xs)/\H b=some (.lst zs)/\105+zs.length<=sizeLine/\Q .non (upd H l (.lst (xs++zs)))
def fU:MtM X "list.extend" Y3:=by
 intro pins s σ H x vs v us Q I rx rv h;obtain⟨l,b,xs,zs,rfl,rfl,hH,hB,hz,q⟩:=h;cases rx;obtain⟨u,rfl,ru⟩:=rv.one;cases ru;obtain⟨z,its,n,r,hl,e⟩:=I.lstM hH;obtain⟨z2,its2,n2,r2,hl2,e2⟩:=I.lstM hB;have hsz:its.toArray.size+its2.toArray.size<=sizeLine:=by rw[ip,ip];omega
 have hlong:¬ (!its.toArray.isEmpty&&Builtin.List.listTooLong (its.toArray.size+its2.toArray.size))=true:=by
  rw[NW hsz,Bool.and_false];exact 110
 refine jQ F.slot_list_extend ⟨_,e,rfl⟩ F.entry_list_extend (F.args_list_extend_2 _ _)
  (AutoSeq1.list_extend_list_list_0 l its.toArray n b its2.toArray n2 hlong (by rw[ip];omega) 50) ⟨e,e2,?_⟩
 refine⟨.non,_,I.lset (its':=its++its2) hH e 55 (r.append r2) ?_,rfl,q⟩;rw[jb];omega
def ai:V->List V->Hp->VK->Prop:=λx vs H Q=>∃l xs y,x=.ref l/\vs=[]/\H l=some (.lst xs)/\xs[105-1]?=some y/\Q y (upd H l (.lst xs.dropLast))
def cV:MtM X "list.pop" ai:=by
 intro pins s σ H x vs v us Q I rx rv h;obtain⟨l,xs,y,rfl,rfl,hH,hy,q⟩:=h;cases rx;have hus:=rv.zero;subst hus;obtain⟨z,its,n,r,hl,e⟩:=I.lstM hH;obtain⟨u,hu,ru⟩:=r.get hy;have hy':its.toArray[its.toArray.size-1]?=some u:=by
  show its.toArray[its.length-1]?=some u;rw[<- Array.getElem?_toList,<- hl];exact hu
 refine jQ F.slot_list_pop ⟨_,e,rfl⟩ F.entry_list_pop (F.args_list_pop_1 _) (MeetsSeq.list_pop_last l its.toArray n u hy' (by rw[ip];omega)) ⟨e,?_⟩;refine⟨y,_,I.lset (its':=its.dropLast) hH e ?_ r.dropLast ?_,ru,q⟩
 .show its.toArray.eraseIdxIfInBounds (its.toArray.size-1)=its.dropLast.toArray;rw[ip,List.eraseIdxIfInBounds_toArray,Qu]
 .rw[List.length_dropLast];omega
def Sb:V->List V->Hp->VK->Prop:=λx vs H Q=>∃l xs i k y,x=.ref l/\vs=[.int i]/\H l=some (.lst xs)/\-(2^63)<=i/\i<2^63/\seqIndex? i 105=some k/\xs[k]?=some y/\Q y (upd H l (.lst (xs.eraseIdx k)))
def VW:MtM X "list.pop" Sb:=by
 intro pins s σ H x vs v us Q I rx rv h;obtain⟨l,xs,i,k,y,rfl,rfl,hH,h1,h2,hk,hy,q⟩:=h;cases rx;obtain⟨u,rfl,ru⟩:=rv.one;obtain⟨t,rfl⟩:=ru;obtain⟨z,its,n,r,hl,e⟩:=I.lstM hH;obtain⟨w,hw,rw'⟩:=r.get hy;refine jQ F.slot_list_pop ⟨_,e,rfl⟩ F.entry_list_pop (F.args_list_pop_2 _ _)
  (MeetsSeq.list_pop_at l its.toArray n i t k w (fitsIndex_both h1 h2) (by rw[ip,<- hl];exact hk) (by rw[<- Array.getElem?_toList];exact hw) (by rw[ip];omega)) ⟨e,?_⟩
 refine⟨y,_,I.lset (its':=its.eraseIdx k) hH e ?_ (r.eraseIdx k) ?_,rw',q⟩
 .show its.toArray.eraseIdxIfInBounds k=(its.eraseIdx k).toArray;rw[List.eraseIdxIfInBounds_toArray]
 .have:=LS xs k;omega
noncomputable def Uv:R2:=λx y H Q=>∃l b xs zs,x=.ref l/\y=.ref b/\H l=some (.lst xs)/\H b=some (.lst zs)/\105+zs.length<=sizeLine/\∀p,H p=none->Q (.ref p) (upd H p (.lst (xs++zs)))
def cQ:OpR X (binaryOp .Add) Uv:=by
 intro pins s σ H x y v u Q I rx ry h;obtain⟨l,b,xs,zs,rfl,rfl,hH,hB,hz,q⟩:=h;cases rx;cases ry;obtain⟨z,its,n,r,hl,e⟩:=I.lstM hH;obtain⟨z2,its2,n2,r2,hl2,e2⟩:=I.lstM hB;refine PySem.P.add_list e e2 ?_ (by rw[ip,ip];omega);have ea:its.toArray++its2.toArray=(its++its2).toArray:=by simp
 rw[ea];exact⟨.ref _,_,I.lnew (t':=s.toks) (r.append r2) (by rw[jb];omega),rfl,q _ I.fresh⟩
noncomputable def Ur:R2:=λx y H Q=>∃l k xs,x=.ref l/\y=.int k/\H l=some (.lst xs)/\-(2^63)<=k/\k<2^63/\105*k.toNat<=sizeLine /\
 ∀p,H p=none->Q (.ref p) (upd H p (.lst (108 k.toNat xs).flatten))
def ZD{α:Type}(xs:List α)(k:Nat):(108 k xs).flatten.length=k*xs.length:=by
 induction k with
 |zero=>simp
 |succ k ih=>rw[jN,flatten_cons,jb,ih,Nat.succ_mul,Nat.add_comm]
def cJ:OpR X (binaryOp .Mult) Ur:=by
 intro pins s σ H x y v u Q I rx ry h;obtain⟨l,k,xs,rfl,rfl,hH,h1,h2,hz,q⟩:=h;cases rx;obtain⟨t,rfl⟩:=ry;obtain⟨z,its,n,r,hl,e⟩:=I.lstM hH;have hlen:its.toArray.size*k.toNat<=sizeLine:=by rw[ip,<- hl];exact hz
 have hcap:¬ its.toArray.size*k.toNat>(2^63-1)/8:=by
  have:(sizeLine:Nat)<=(2^63-1)/8:=by decide
  omega
 have hfit:¬ (!Builtin.List.listFitsIndex k)=true:=by
  rw[fitsIndex_both h1 h2];exact 110
 have hlong:¬ Builtin.List.listTooLong (its.toArray.size*k.toNat)=true:=by
  rw[NW hlen];exact 110
 have hnew:List.foldl (λx1 x2=>x1++x2) #[] (108 (if its.toArray.isEmpty=true then 0 else k.toNat) its.toArray)=(108 k.toNat its).flatten.toArray:=by
  have f0:∀m:Nat,List.foldl (λx1 x2=>x1++x2) #[] (108 m its.toArray)=(108 m its).flatten.toArray:=λm=>by
   have:=LY its m [];rw[nil_append]at this;exact this
  rw[f0];cases its with
  |nil=>simp
  |cons a r'=>rw[ie 55]
 refine wpAny_binaryOp_repeat_ref (T:="list") (U:="int") 107 ⟨_,e,rfl⟩ (λs'=>jt s' k t) noFill_list_mul F.fills_int_mul F.slot_int_rmul repeat_list F.slot_int_index.lookup
  (jQ F.slot_int_rmul (jt s k t) F.entry_int_rmul (F.args_int_rmul_2 _ _) (int___rmul___int_list k t l its.toArray n)
   ⟨e,rfl,⟨_,e,rfl⟩,jQ F.slot_list_mul ⟨_,e,rfl⟩ F.entry_list_mul (F.args_list_mul_2 _ _) (AutoListH.list___mul___list_int_3 l its.toArray n k t hfit hcap hlong) ⟨e,?_⟩⟩)
 rw[hnew];exact⟨.ref _,_,I.lnew (t':=s.toks) (r.rep k.toNat) (by rw[ZD,Nat.mul_comm];exact hz),rfl,q _ I.fresh⟩
end
end L2
namespace Att
open PySem PySem.W PySem.Calls PyProof.Rows
def K1{P:Params}{h:Heap}:∀(ns:List Int) (vs:List Value),WellAll P h vs (ns.map WData.int)->IntsAre vs ns:=by
 intro ns
 induction ns with
 |nil=>
  intro vs w;rw[jf]at w;cases w;exact .nil
 |cons n ns ih=>
  intro vs w;rw[iq]at w;cases w with
  |cons a b=>
   cases a;exact .cons _ _ (ih _ b)
def S4{l:OpenLaw}{n:Nat}(hn:l.most=some n){P:Params}{h:Heap}{args:List WData}{vals:List Value}
 (hpre:l.row.toRowW.claim.pre args=true) (hwl:WellAll P h vals args):
 ∃a vs ns,vals=[Value.ref a]/\args=[WData.list (ns.map WData.int)]/\h.get? a=some { cls:=.type "list",data:=.seq vs.toArray }/\IntsAre vs ns/\ns.length<=n:=by
 have hsh:WShape.hasAll [] args [.list .int]=true:=(pre_splitW hpre).1;have hc:l.pre.holds [] { args:=args }=true:=(pre_splitW hpre).2;obtain⟨d,r,rfl,h1,h2⟩:=hasAllW_cons hsh;obtain rfl:=hasAllW_nil h2;obtain⟨xs,rfl,h3⟩:=hasW_list h1;obtain⟨ns,rfl⟩:=items_int h3;have hlen:ns.length<=n:=by
  unfold OpenLaw.pre at hc;have h4:(WTm.not (.lt (.lit (.int (n:Int))) (.len (.arg 0)))).holds [] { args:=[.list (ns.map .int)] }=true:=by
   have h4:=(holds_andW hc).1;rw[hn]at h4;exact h4
  have h5:=condW_of h4 (w_not (w_lt w_lit (w_len_list (w_arg rfl))));rw[iV]at h5;refine Nat.le_of_not_lt λq=>?_;have q':(n:Int)<((ns.length:Nat):Int):=by omega
  first
   |(rw[jl q']at h5;exact absurd h5 107)
   |(simp at h5;omega)
 cases hwl with
 |cons w1 w2=>
  cases w2;cases w1 with
  |list ho hall=>exact⟨_,_,ns,rfl,rfl,ho,K1 ns _ hall,hlen⟩
def Se(l:OpenLaw)(args:List WData):l.row.toRowW.claim.post args (.bool true) args=true:=
 postW_of (r:=l.row.toRowW) (X:=(true==true))
  (show WShape.has [] (.bool true) .bool=true by first|rfl|decide|simp[WShape.has,WShape.arms,WShape.armsAll])
  (show(WTm.eq .res (.lit (.bool true))).value [] { args:=args,res:=some (.bool true),after:=args }=some (.bool (true==true))from w_eq_bool (w_res rfl) w_lit) rfl
def attach_call{l:OpenLaw}{n:Nat}{q:Program}{loose:List Str}{XP:(Str->Option Value)->Heap->Prop}{YP:World->Heap->Prop}{d:DefRec}
 (hn:l.most=some n) (hdf:d.params.defaults=[])
 (call:∀(w:World) (s₀ s₁:Shared) (mg mb:Str->Option Value) (fa:Addr) (o:Obj) (pm cd doc:Value) (a:Addr) (vs:List Value) (ns:List Int),
  Ground q loose [] XP w s₀ mg mb s₁.heap->YP w s₁.heap ->
  s₁.heap.get? fa=some o->o.data=.func (docDef d.name d.params d.body d.scope pm cd doc)->s₁.heap.CodeRec cd d.name->mg d.name=some (.ref fa) ->
  s₁.heap.get? a=some { cls:=.type "list",data:=.seq vs.toArray }->IntsAre vs ns->ns.length<=n->s₁.gens=#[] ->
  codeAny (model l.prog w) callerA (.call (.ref fa) ⟨[.ref a],[]⟩) (λr s'=>r=.ok (.ret (.bool true))/\OldK s₁.heap s'.heap/\s'.os=s₁.os/\AllBare s'.gens) s₁):
 WalkO q loose XP YP l.row.toRowW d [] (λf vs=>PySem.call f vs):=by
 intro w s₀ s₁ mg mb G Y fa o pm cd doc dV kV ho hd hcd hD hmg hg args vals as hpre hlay hrd hwl hlo;obtain rfl:dV=.none:=Dflts.none hD hdf;obtain rfl:kV=.none:=Dflts.noKw hD;obtain⟨a,vs,ns,rfl,rfl,hobj,hints,hlen⟩:=S4 hn hpre hwl;refine enter_call (jy (call w s₀ s₁ mg mb fa o pm cd doc a vs ns G Y ho (fd_plain hd) hcd hmg hobj hints hlen hg) λr s' hq=>?_);obtain⟨rfl,h2,h3,h4⟩:=hq;exact⟨.inl ⟨.bool true,.bool true,[],rfl,λ_=>rfl,.bool true,Se l _,λ_=>⟨List.Pairwise.nil,λ_ hm=>(nomatch hm)⟩⟩,h2,h3,h4⟩
end Att
namespace L2
open PySem PySem.Spec PyProof.Rows
theorem LF:∀{vs:List Value} {ns:List Int},IntsAre vs ns->Vals (ns.map V.int) vs
 |_,_,.nil=>.nil
 |_,_,.cons n t h=>.cons ⟨t,rfl⟩ (LF h)
noncomputable def C7(s:Stmt):Arguments:=match s with
 |.FunctionDef _ a _ _ _ _ _ _ _ _=>a
 |_=>{ posonlyargs:=[],args:=[],vararg:=none,kwonlyargs:=[],kw_defaults:=[],kwarg:=none,defaults:=[] }
noncomputable def Av(s:Stmt):List Stmt:=match s with
 |.FunctionDef _ _ b _ _ _ _ _ _ _=>b
 |_=>[]
noncomputable def A8(s:Stmt):Scope:=match s with
 |.FunctionDef _ _ _ _ _ _ sc _ _ _=>sc
 |_=>{ kind:=.function,names:=[],isGenerator:=false,isCoroutine:=false }
noncomputable abbrev CX0:CXT:=λ_ _ _ _ _ _=>False
noncomputable abbrev E0:XK:=λ_ _ _=>False
def Wl{X:Cx}:OF CX0 X E0:=λ_ _ _ _ _ _ _ h=>h.elim
structure Fun(K:Frag)(x qual:Str)(st:Stmt)(f:Addr)(fd:FuncData):Prop where
 ex:∃(oc:Value) (od:Option Addr) (kV doc pm:Value) (an:Option Addr) (cdv ct:Value) (osl:Array (Option Value)),
  fd=fnOf x qual (C7 st) (Av st) (A8 st) .none kV doc pm an cdv ct/\K.lookup f=some ⟨oc,od,.func fd,osl⟩/\codeIn K cdv qual=true
 kp:keepIn K (.ref f)=true
section
variable{P:Program}{w:World}{K:Frag}{mg:Str->Option Value}{base:Heap}
def Fun.ok{x qual:Str}{st:Stmt}{f:Addr}{fd:FuncData}{N ps:List Str}{k:Nat}{sp:Sp}(F:Fun K x qual st f fd)(S:FnScope N ps (A8 st))(len:∀vs H Q E,sp vs H Q E->vs.length=ps.length)
 (hbody:∀(cdv:Value) (A:Around) (outer:List Env) (s:Shared) (H:Hp) (vs:List V) (Q:VK) (E:XK),Room k (A.deeper (envOfC qual (A8 st) 49 f cdv))->sp vs H Q E ->
  ∃t,PSs (CS CX0 P w K mg base N qual (A8 st) f cdv A outer s H E).nox (Av st) t/\t { nx:=λ_ H'=>Q .non H',rt:=Q } (start N vs) H):FnOk P w K mg base CX0 (k+1) f fd ps sp:=by
 obtain⟨oc,od,kV,doc,pm,an,cdv,ct,osl,rfl,lk,hcd⟩:=F.ex;refine Qq lk hcd S len λA outer s H vs Q E hr hsp=>?_;obtain⟨t,h,q⟩:=hbody cdv A outer s H vs Q E hr hsp;exact⟨t,h.nox,q⟩
def Fun.binds{x qual:Str}{st:Stmt}{f:Addr}{fd:FuncData}{ps:List Str}(F:Fun K x qual st f fd)
 (h:∀(kV doc pm:Value) (an:Option Addr) (cdv ct:Value) (us:List Value),us.length=ps.length->bindArgs (fnOf x qual (C7 st) (Av st) (A8 st) .none kV doc pm an cdv ct) ⟨us,[]⟩=pure (ps.zip us)):Binds K fd ps []:=by
 obtain⟨oc,od,kV,doc,pm,an,cdv,ct,osl,rfl,lk,hcd⟩:=F.ex;exact .all (h kV doc pm an cdv ct)
def TB{x qual:Str}{st:Stmt}{f:Addr}{oc:Value}{od an:Option Addr}{osl:Array (Option Value)}{kV doc pm cdv ct:Value}(l:K.lookup f=some ⟨oc,od,.func (fnOf x qual (C7 st) (Av st) (A8 st) .none kV doc pm an cdv ct),osl⟩)
 (c:codeIn K cdv qual=true) (k:keepIn K (.ref f)=true):Fun K x qual st f (fnOf x qual (C7 st) (Av st) (A8 st) .none kV doc pm an cdv ct):=⟨⟨oc,od,kV,doc,pm,an,cdv,ct,osl,rfl,l,c⟩,k⟩
end
def Ql{A:Around}{k:Nat}(hr:Room k A):A.units+1<cLine:=Nat.lt_of_le_of_lt (Nat.add_le_add_left (by decide:1<=64) _) hr.units
def LI{n:Nat}(h:n<=1000):n<sizeLine:=Nat.lt_of_le_of_lt h 107
section
variable{κ:Type}[DecidableEq κ]
noncomputable def Di(kvs:List (κ×V))(k:κ):Option V:=(kvs.find? λkv=>decide (kv.1=k)).map (·.2)
noncomputable def Ca(kvs:List (κ×V))(k:κ)(v:V):List (κ×V):=
 if(kvs.any λkv=>decide (kv.1=k))=true then kvs.map (λkv=>if kv.1=k then(kv.1,v)else kv)else kvs++[(k,v)]
def Ei{p:κ×V}{k:κ}(e:p.1=k):Di (p::r) k=some p.2:=by simp[Di,jg,e]
def Ej{p:κ×V}{k:κ}(e:¬ p.1=k):Di (p::r) k=Di r k:=by simp[Di,jg,e]
theorem MW(k:κ):∀kvs:List (κ×V),(kvs.any λkv=>decide (kv.1=k))=(Di kvs k).isSome
 |[]=>rfl
 |p::r=>by
  rw[jB];by_cases e:p.1=k
  .simp only[Ei e,jl e,Bool.true_or,Option.isSome_some]
  .rw[Ej e,j9 e,Bool.false_or];exact MW k r
def FR(kvs:List (κ×V))(k:κ)(v:V):(Ca kvs k v).length<=kvs.length+1:=by
 unfold Ca;split
 .rw[iV];omega
 .rw[jb,j8,jm];omega
def RelO.isSome_eq(r:RelO o u):o.isSome=u.isSome:=by
 cases o with
 |none=>cases u with
  |none=>rfl
  |some _=>exact(show False from r).elim
 |some _=>cases u with
  |none=>exact(show False from r).elim
  |some _=>rfl
def KV.val(r:KV kvs vs)(k:κ):RelO (Di kvs k) (valueAt vs k):=by
 unfold KV at r
 induction r with
 |nil=>exact True.intro
 |@cons p q ps qs h t ih=>
  obtain⟨h1,h2⟩:=h;by_cases e:p.1=k
  .have e':q.1=k:=h1.symm.trans e;have b:valueAt (q::qs) k=some q.2:=by simp[valueAt,jg,e']
   rw[Ei e,b];exact h2
  .have e':¬ q.1=k:=λz=>e (h1.trans z);have b:valueAt (q::qs) k=valueAt qs k:=by simp[valueAt,jg,e']
   rw[Ej e,b];exact ih
theorem KV.any(r:KV kvs vs)(k:κ):(kvs.any λkv=>decide (kv.1=k))=vs.any λkv=>decide (kv.1=k):=by
 unfold KV at r
 induction r with
 |nil=>rfl
 |cons h t ih=>rw[jB,jB,ih,h.1]
def KV.repl(r:KV kvs vs)(k:κ)(ry:RelV y u):
 KV (kvs.map λkv=>if kv.1=k then(kv.1,y)else kv) (vs.map λkv=>if kv.1=k then(kv.1,u)else kv):=by
 unfold KV at r ⊢
 induction r with
 |nil=>exact .nil
 |@cons p q ps qs h t ih=>
  rw[iq,iq];refine .cons ?_ ih;obtain⟨h1,h2⟩:=h;by_cases e:p.1=k
  .rw[ia e,ia (h1.symm.trans e)];exact⟨h1,ry⟩
  .rw[ie e,ie (λz=>e (h1.trans z))];exact⟨h1,h2⟩
def KV.put(r:KV kvs vs)(k:κ)(ry:RelV y u):KV (Ca kvs k y) (stored vs k u):=by
 unfold Ca stored;rw[r.any k];by_cases e:(vs.any λkv=>decide (kv.1=k))=true
 .rw[ia e,ia e];exact r.repl k ry
 .rw[ie e,ie e];exact Paired.snoc r ⟨rfl,ry⟩
theorem KV.length(r:KV kvs vs):kvs.length=vs.length:=Paired.length r
end
def Jw(r:RelV (kV k) u):(BL P w).is k u=true:=by
 cases k with
 |inl i=>obtain⟨t,e⟩:=(show ∃t,u=Value.int i t from r);subst e;exact OL P w i t
 |inr x=>obtain⟨t,e⟩:=(show ∃t,u=Value.str x t from r);subst e;exact OK P w x t
theorem LW:∀{ks:List Key} {us:List Value},Vals (ks.map kV) us->ItemsAre (BL P w) ks us
 |[],_,r=>by rw[jf]at r;cases r;exact .nil
 |k::ks,_,r=>by
  rw[iq]at r;cases r with
  |cons h t=>exact .cons (Jw h) (LW t)
abbrev KT(H:Hp):List (List Key×V)->List (List Key×Addr×Value)->Prop:=Paired λp q=>p.1=q.1/\H q.2.1=some (.tup (p.1.map kV))/\RelV p.2 q.2.2
def KT.val(r:KT H kvs xs)(k:List Key):RelO (Di kvs k) ((atKey xs k).map (·.2)):=by
 induction r with
 |nil=>exact True.intro
 |@cons p q ps qs h t ih=>
  obtain⟨h1,_,h2⟩:=h;by_cases e:p.1=k
  .have e':q.1=k:=h1.symm.trans e;have b:atKey (q::qs) k=some q.2:=by simp[atKey,jg,e']
   rw[Ei e,b];exact h2
  .have e':¬ q.1=k:=λz=>e (h1.trans z);have b:atKey (q::qs) k=atKey qs k:=by simp[atKey,jg,e']
   rw[Ej e,b];exact ih
def KT.repl(r:KT H kvs xs)(k:List Key)(ry:RelV y u):
 KT H (kvs.map λkv=>if kv.1=k then(kv.1,y)else kv) (xs.map (putAt k u)):=by
 induction r with
 |nil=>exact .nil
 |@cons p q ps qs h t ih=>
  rw[iq,iq];refine .cons ?_ ih;obtain⟨h1,h2,h3⟩:=h;unfold putAt;by_cases e:p.1=k
  .rw[ia e,ia (h1.symm.trans e)];exact⟨h1,h2,ry⟩
  .rw[ie e,ie (λz=>e (h1.trans z))];exact⟨h1,h2,h3⟩
def KT.put(r:KT H kvs xs)(k:List Key)(hb:H b=some (.tup (k.map kV)))(ry:RelV y u):
 KT H (Ca kvs k y) (storedH xs k b u):=by
 have e:(kvs.any λkv=>decide (kv.1=k))=(atKey xs k).isSome:=by
  rw[MW,(r.val k).isSome_eq,isSome_map]
 unfold Ca storedH;rw[e];by_cases q:(atKey xs k).isSome=true
 .rw[ia q,ia q];exact r.repl k ry
 .rw[ie q,ie q];exact Paired.snoc r ⟨rfl,hb,ry⟩
def KT.keeps(r:KT H kvs xs)(ht:∀b ys,H b=some (.tup ys)->H' b=some (.tup ys)):KT H' kvs xs:=
 Paired.mapP r λ_ _ z=>⟨z.1,ht _ _ z.2.1,z.2.2⟩
section
def Wb(ok:HOk P w H h)(e:Rd H a u):ObjOk P w H h a u:=e.ok ok
def MF(ok:HOk P w H h)(e:Rd H a (.dK kvs)):kvs.length<=sizeLine/\(a==sysModules)=false/\∃vs,KV kvs vs/\h.DictOf (BL P w) a vs:=
 show ObjOk P w H h a (.dK kvs)from Wb ok e
def Wr(ok:HOk P w H h)(e:H a=some (.dK kvs)):kvs.length<=sizeLine/\(a==sysModules)=false/\∃vs,KV kvs vs/\h.DictOf (BL P w) a vs:=MF ok (.inl e)
def Jv{ks:List Key}(ok:HOk P w H h)(e:H a=some (.tup (ks.map kV))):(tupleKind (BL P w)).is h ks a:=by
 obtain⟨_,its,r,o,h1,h2,⟨n,h3⟩,_⟩:=(show ObjOk P w H h a (.tup (ks.map kV))from ok a _ e)
 exact⟨o,its.toArray,n,h1,h2,h3,by simpa using LW r⟩
def MD(ok:HOk P w H h)(e:Rd H a (.dT kvs)):kvs.length<=sizeLine/\(a==sysModules)=false /\
 ∃xs,KT H kvs xs/\h.DictOfH (tupleKind (BL P w)) a xs:=by
 obtain⟨z,y,xs,r,o,es,ep,h1,h2,h3,h4,h5⟩:=(show ObjOk P w H h a (.dT kvs)from Wb ok e)
 refine⟨z,y,xs,r,o,es,ep,h1,h2,h3,h4,λx hx=>?_,h5⟩;have all:∀{l:List (List Key×V)} {m:List (List Key×Addr×Value)},KT H l m->∀x∈m,(tupleKind (BL P w)).is h x.1 x.2.1:=by
  intro l m q
  induction q with
  |nil=>intro x hx;exact nomatch hx
  |@cons p q ps qs hq t ih=>
   intro x hx;rcases mem_cons.mp hx with e|hx
   .subst e;exact Jv ok (by rw[<- hq.1];exact hq.2.1)
   .exact ih x hx
 exact all r x hx
def fN(ok:HOk P w H h)(e:H a=some (.dT kvs)):kvs.length<=sizeLine/\(a==sysModules)=false /\
 ∃xs,KT H kvs xs/\h.DictOfH (tupleKind (BL P w)) a xs:=MD ok (.inl e)
end
def DGet(H:Hp)(a:Addr)(y:V)(r:Option V):Prop:=
 (∃kvs k,Rd H a (.dK kvs)/\y=kV k/\r=Di kvs k)∨∃kvs k b,Rd H a (.dT kvs)/\y=.ref b/\H b=some (.tup (k.map kV))/\r=Di kvs k
def DPut(H:Hp)(a:Addr)(y v:V)(H':Hp):Prop:=
 (∃kvs k,H a=some (.dK kvs)/\y=kV k/\kvs.length<sizeLine/\H'=upd H a (.dK (Ca kvs k v))) ∨
 ∃kvs k b,H a=some (.dT kvs)/\y=.ref b/\H b=some (.tup (k.map kV))/\kvs.length<sizeLine/\H'=upd H a (.dT (Ca kvs k v))
theorem DGet.k{H:Hp}{a:Addr}{kvs:List (Key×V)}{k:Key}(e:H a=some (.dK kvs)):DGet H a (kV k) (Di kvs k):=.inl ⟨kvs,k,.inl e,rfl,rfl⟩
theorem DPut.k{H:Hp}{a:Addr}{kvs:List (Key×V)}{k:Key}{v:V}(e:H a=some (.dK kvs))(hl:kvs.length<sizeLine):DPut H a (kV k) v (upd H a (.dK (Ca kvs k v))):=.inl ⟨kvs,k,e,rfl,hl,rfl⟩
section
variable{A:Around}{E:Value->Shared->Prop}
def Inv.big(I:Inv X pins σ H s):sysModules<s.heap.objs.size:=by
 have h:mainGlobals<s.heap.objs.size:=(I.mod.glob.keeps I.bk).lt;exact lt_trans 107 h
def Ta{Q:Value->Shared->Prop}(hu:A.units+1<cLine)(I:Inv X pins σ H s)(g:DGet H a y (some v))(ry:RelV y u)(h:∀w' s',Inv X pins σ H s'->RelV v w'->Q w' s'):
 wpAny 54 A (getItem (.ref a) u) Q E s:=by
 rcases g with⟨kvs,k,e,ey,l⟩|⟨kvs,k,b,e,ey,eb,l⟩
 .subst ey;obtain⟨z,hd,vs,rel,dd⟩:=MF I.hok e;obtain⟨w',hw,rw'⟩:=RelO.some_of (v:=v) (o:=valueAt vs k) (by rw[l];exact rel.val k);exact wpAny_getItem_of (Jw ry) dd.mapOf hw (h w' _ (I.tok _) rw')
 .subst ey;cases(show u=Value.ref b from ry);obtain⟨z,hd,xs,rel,dd⟩:=MD I.hok e;obtain⟨w',hw,rw'⟩:=RelO.some_of (v:=v) (o:=(atKey xs k).map (·.2)) (by rw[l];exact rel.val k);obtain⟨p,hp,hp2⟩:=iT hw;refine wpAny_getItem_heap (tupleKind_room_in1 hu) (Jv I.hok eb) dd hp ?_;rw[hp2];exact h w' _ (I.tok _) rw'
def gD{Q:Value->Shared->Prop}(hu:A.units+1<cLine)(I:Inv X pins σ H s)(g:DGet H a y o)(ry:RelV y u)(h:∀s',Inv X pins σ H s'->Q (.bool o.isSome) s'):
 wpAny 54 A (compareOp .In u (.ref a)) Q E s:=by
 rcases g with⟨kvs,k,e,ey,l⟩|⟨kvs,k,b,e,ey,eb,l⟩
 .subst ey;obtain⟨z,hd,vs,rel,dd⟩:=MF I.hok e;refine wpAny_in_of (Jw ry) hd dd.mapOf ?_;rw[<- (rel.val k).isSome_eq,<- l];exact h _ (I.tok _)
 .subst ey;cases(show u=Value.ref b from ry);obtain⟨z,hd,xs,rel,dd⟩:=MD I.hok e;refine wpAny_in_heap (tupleKind_room_in1 hu) (Jv I.hok eb) hd dd ?_;have q:=(rel.val k).isSome_eq;rw[isSome_map]at q;rw[<- q,<- l];exact h _ (I.tok _)
def Kz{t':Nat}(I:Inv X pins σ H s)(mu:Mut (H a))(hs:Heap.SameBut a s.heap h')(he:∃q,h'.get? a=some q)(new:ObjOk X.prog X.w (upd H a ob) h' a ob):
 Inv X pins σ (upd H a ob) { s with heap:=h',toks:=t' }:=
 I.write (x:=a) (e:=a) mu (.inl rfl) (λb q hb z=>(hs.2 b hb).trans z) he new
def TX{h':Heap}{kvs:List (Key×V)}(z:kvs.length<=sizeLine)(hd:(a==sysModules)=false)(rel:KV kvs vs)(dd:h'.DictOf (BL P w) a vs):
 ObjOk P w H' h' a (.dK kvs):=⟨z,hd,vs,rel,dd⟩
def TZ{Q:Unit->Shared->Prop}(hu:A.units+1<cLine)(I:Inv X pins σ H s)(g:DPut H a y v H')(ry:RelV y u)(rv:RelV v r)(h:∀s',Inv X pins σ H' s'->Q () s'):
 wpAny 54 A (setItem (.ref a) u r) Q E s:=by
 rcases g with⟨kvs,k,e,ey,l,eH⟩|⟨kvs,k,b,e,ey,eb,l,eH⟩
 .subst ey eH;obtain⟨z,hd,vs,rel,dd⟩:=Wr I.hok e;have hz:vs.length<=sizeLine:=by rw[<- rel.length];exact z
  have hl:(Ca kvs k v).length<=sizeLine:=by have:=FR kvs k v;omega
  refine wpAny_setItem_pairs (hsz:=hz) (Jw ry) dd λh' dd' hs=>h _ ?_;have he:∃q,h'.get? a=some q:=let ⟨q,_,_,hq,_⟩:=dd';⟨q,hq⟩
  exact Kz I (by rw[e];exact True.intro) hs he (TX hl hd (rel.put k rv) dd')
 .subst ey eH;cases(show u=Value.ref b from ry);obtain⟨z,hd,xs,rel,dd⟩:=fN I.hok e;have hz:105<=sizeLine:=by rw[<- Paired.length rel];exact z
  have hl:(Ca kvs k v).length<=sizeLine:=by have:=FR kvs k v;omega
  refine wpAny_setItem_heap (hsz:=hz) (tupleKind_room_in1 hu) (Jv I.hok eb) dd λh' dd' hs=>h _ ?_;obtain⟨q,es,ep,hq,h2,h3,h4,_,h5⟩:=dd';refine Kz I (by rw[e];exact True.intro) hs ⟨q,hq⟩ ⟨hl,hd,_,(rel.put k eb rv).keeps λc ys ec=>?_,q,es,ep,hq,h2,h3,h4,h5⟩;rw[upd_ne (f7 ec e (λz=>nomatch z))];exact ec
end
def WM(i:Expr):Prop:=∀ov iv,subscripted i false ov iv=operate [ov,iv] (getItem ov iv)
def XJ{E:Value->Shared->Prop}{T id:String}{Q:Value->Shared->Prop}
 (hl:typeLookup (.type T) "__getitem__"=pure (some (.builtin id))) (hs:WM slice)
 (h:wpAny 103 A (eval value env) (λo s₁=>wpAny 103 A (eval slice env) (λi s₂=>s₂.TypeIs o T/\wpAny 103 A (getItem o i) Q E s₂) E s₁) E s):
 wpAny 103 A (eval (.Subscript value slice pos) env) Q E s:=by
 refine Subscript_ (iX h (λo s₁ h₁=>iX h₁ (λi s₂ h₂=>?_) λ_ _ x=>x) λ_ _ x=>x);obtain⟨hT,h₂⟩:=h₂;unfold subscriptTail;refine ic ?_;rw[getitemInPython_of_ne hT.not_modules];refine ic (wpAny_specialOf hT hl ?_);have fin:wpAny 103 A (subscripted slice false o i) (λr s₃=>wpAny 103 A (letTemporaryGo value o r >>= λ_=>pure r) Q E s₃) E s₂:=by
  rw[hs o i];exact wpAny_operating (iX h₂ (λr s₃ h₃=>ic (wpAny_letTemporaryGo (ik h₃))) λ_ _ x=>x)
 first
  |exact ik (ic fin)
  |exact ic (ik (ic fin))
  |exact ic fin
def OS(I:Inv X pins σ H s)(g:DGet H a y o):s.TypeIs (.ref a) "dict":=by
 rcases g with⟨kvs,k,e,_,_⟩|⟨kvs,k,b,e,_,_,_⟩
 .obtain⟨_,_,vs,_,dd⟩:=MF I.hok e;exact dd.typeIs
 .obtain⟨_,_,xs,_,dd⟩:=MD I.hok e;exact dd.typeIs
noncomputable def Ps(td ty:TE):TE:=λσ H Q=>td σ H λx H1=>ty σ H1 λy H2=>∃a v,x=.ref a/\DGet H2 a y (some v)/\Q v H2
noncomputable def UM(ty td:TE):TE:=λσ H Q=>ty σ H λy H1=>td σ H1 λx H2=>∃a o,x=.ref a/\DGet H2 a y o/\Q (.bl o.isSome) H2
noncomputable def Q3(td ty tv:TE):TS:=λD σ H=>tv σ H λv H1=>td σ H1 λx H2=>ty σ H2 λy H3=>∃a H4,x=.ref a/\DPut H3 a y v H4/\D.nx σ H4
section
variable{X:Cx}
def Yn(hu:X.A.units+1<cLine)(ho:PE X o td)(hi:PE X i ty)(hs:WM i):PE X (.Subscript o i pos) (Ps td ty):=by
 intro pins s σ H Q I h;refine XJ PySem.F.slot_dict_getitem.lookup hs (thn (ho pins s σ H _ I h) λu s1 ⟨x,H1,I1,rx,q1⟩=>thn (hi pins s1 σ H1 _ I1 q1) λiv s2 ⟨y,H2,I2,ry,a,v,ex,g,q2⟩=>?_);subst ex;obtain rfl:u=Value.ref a:=rx;exact⟨OS I2 g,Ta hu I2 g ry λw' s3 I3 rw'=>⟨v,H2,I3,rw',q2⟩⟩
def cH(hu:X.A.units+1<cLine)(hi:PE X i ty)(ho:PE X o td):PC X .In i o (UM ty td):=by
 intro pins s σ H Q I h;refine thn (hi pins s σ H _ I h) λiv s1 ⟨y,H1,I1,ry,q1⟩=>thn (ho pins s1 σ H1 _ I1 q1) λu s2 ⟨x,H2,I2,rx,a,ov,ex,g,q2⟩=>?_;subst ex;obtain rfl:u=Value.ref a:=rx;exact gD hu I2 g ry λs3 I3=>⟨.bl ov.isSome,H2,I3,rfl,q2⟩
def Yd(hu:X.A.units+1<cLine)(ho:PE X o td)(hi:PE X i ty)(hv:PE X value tv)(hs:swapsWith value (some (.Subscript o i pos')) pos.line X.env=pure false):
 PS X (.Assign [.Subscript o i pos'] value pos) (Q3 td ty tv):=by
 intro pins s σ H D I h;refine wpAny_Assign_Subscript (thn (hv pins s σ H _ I h) λr s1 ⟨v,H1,I1,rv,q1⟩=>thn (ho pins s1 σ H1 _ I1 q1) λu s2 ⟨x,H2,I2,rx,q2⟩=>thn (hi pins s2 σ H2 _ I2 q2) λiv s3 ⟨y,H3,I3,ry,a,H4,ex,g,q3⟩=>?_) hs;subst ex;obtain rfl:u=Value.ref a:=rx;exact TZ hu I3 g ry rv λs4 I4=>⟨σ,H4,I4,q3⟩
end
def Vy(h:Heap)(hb:sysModules<h.objs.size):ObjOk P w H (h.push { cls:=.type "dict",data:=.dict #[] }) h.objs.size (.dK []):=
 ⟨jk _,beq_eq_false_iff_ne.mpr (Ne.symm (iu hb)),[],.nil,Heap.DictOf.new h⟩
noncomputable def AW(cells:List (Str×Addr)):List (Str×NameKind)->List (Str×Addr)->List (Str×Addr)
 |[],acc=>acc
 |(n,k)::r,acc=>if k==.free then AW cells r ((n,(cells.lookup n).getD 0)::acc)else AW cells r acc
theorem Fz(f:Str×NameKind->List (Str×Addr)->Sem (ForInStep (List (Str×Addr))))
 (hf:∀name kind cs,f (name,kind) cs=if(kind==NameKind.free)=true then(do let a <- cellOf env name;pure (ForInStep.yield ((name,a)::cs)))else pure (ForInStep.yield cs)):
 ∀(names:List (Str×NameKind)) (acc:List (Str×Addr)),(∀y∈names,y.2=.free->∃c,env.cells.lookup y.1=some c)->forIn names acc f=pure (AW env.cells names acc)
 |[],acc,_=>rfl
 |(n,k)::r,acc,hy=>by
   rw[List.forIn_cons,hf];have ih:=λa=>Fz f hf r a λz hz=>hy z (il _ hz);by_cases hk:(k==NameKind.free)=true
   .obtain⟨c,hc⟩:=hy (n,k) ir (by simpa using hk);have hc:env.cells.lookup n=some c:=hc;have e1:cellOf env n=pure c:=by unfold cellOf;rw[hc]
    rw[ia hk,e1];show forIn r ((n,c)::acc) f=_;have e2:AW env.cells ((n,k)::r) acc=AW env.cells r ((n,c)::acc):=by
     rw[AW,ia hk,hc];rfl
    rw[ih,e2]
   .rw[ie hk];show forIn r acc f=_;have e2:AW env.cells ((n,k)::r) acc=AW env.cells r acc:=by
     rw[AW,ie hk]
    rw[ih,e2]
def EQ{scope:Scope}{env:Env}(h:∀y∈116,y.2=.free->∃c,env.cells.lookup y.1=some c):closureFor scope env=pure (AW env.cells 116 []):=by
 unfold closureFor;dsimp only;rw[Fz _ (λname kind cs=>rfl) scope.names [] h];rfl
theorem Db{cells:List (Str×Addr)}:∀{names:List (Str×NameKind)} {acc:List (Str×Addr)},(∀y∈names,y.2=.free->∃c,cells.lookup y.1=some c)->(∀x c,acc.lookup x=some c->cells.lookup x=some c) ->
 ∀x c,(AW cells names acc).lookup x=some c->cells.lookup x=some c
 |[],_,_,ha,x,c,e=>ha x c e
 |(n,k)::r,acc,hy,ha,x,c,e=>by
   unfold AW at e;have hr:∀y∈r,y.2=.free->∃c,cells.lookup y.1=some c:=λz hz=>hy z (il _ hz);by_cases hk:(k==NameKind.free)=true
   .rw[ia hk]at e;refine Db hr (λz d q=>?_) x c e;obtain⟨c0,hc0⟩:=hy (n,k) ir (by simpa using hk);have hc0:cells.lookup n=some c0:=hc0;rw[iW]at q;by_cases hz:(z==n)=true
    .rw[hz,hc0]at q;have:z=n:=by simpa using hz
     subst this;simpa [hc0]using q
    .have hz':(z==n)=false:=by simpa using hz
     rw[hz']at q;exact ha z d q
   .rw[ie hk]at e;exact Db hr ha x c e
theorem Cm:∀{names:List (Str×NameKind)} {acc:List (Str×Addr)} {x:Str},((acc.lookup x).isSome=true∨(x,NameKind.free)∈names)->((AW cells names acc).lookup x).isSome=true
 |[],_,_,h=>h.elim id λz=>by cases z
 |(n,k)::r,acc,x,h=>by
   unfold AW;by_cases hk:(k==NameKind.free)=true
   .rw[ia hk];refine Cm ?_;by_cases hx:(x==n)=true
    .exact .inl (by rw[iW,hx];rfl)
    .have hx':(x==n)=false:=by simpa using hx
     rcases h with h|h
     .exact .inl (by rw[iW,hx'];exact h)
     .rcases mem_cons.mp h with h|h
      .cases h;simp at hx
      .exact .inr h
   .rw[ie hk];refine Cm ?_;rcases h with h|h
    .exact .inl h
    .rcases mem_cons.mp h with h|h
     .cases h;simp at hk
     .exact .inr h
noncomputable def CN:Nat->List (Str×NameKind)->List (Str×Addr)
 |_,[]=>[]
 |n,(x,k)::r=>if k==.cell then CN (n+1) r++[(x,n)]else CN n r
theorem Bi:∀(names:List (Str×NameKind)) (n:Nat) (acc:List (Str×Addr)),cellsFrom n names acc=CN n names++acc
 |[],_,_=>rfl
 |(x,k)::r,n,acc=>by
   unfold cellsFrom CN;by_cases hk:(k==NameKind.cell)=true
   .rw[ia hk,ia hk,Bi r (n+1),jI];rfl
   .rw[ie hk,ie hk,Bi r n]
theorem Iz:∀(names:List (Str×NameKind)) (n:Nat) (x:Str) (c:Addr),(CN n names).lookup x=some c->(x,NameKind.cell)∈names
 |[],_,_,_,e=>by cases e
 |(y,k)::r,n,x,c,e=>by
   unfold CN at e;by_cases hk:(k==NameKind.cell)=true
   .rw[ia hk]at e;have hk':k=.cell:=by simpa using hk
    rw[jC]at e;cases q:(CN (n+1) r).lookup x with
    |some d=>exact il _ (Iz r _ x d q)
    |none=>
     rw[q]at e;simp only[none_or,iW]at e;by_cases hx:(x==y)=true
     .have:x=y:=by simpa using hx
      subst this;subst hk';exact ir
     .have hx':(x==y)=false:=by simpa using hx
      rw[hx']at e;cases e
   .rw[ie hk]at e;exact il _ (Iz r n x c e)
theorem J0:∀(names:List (Str×NameKind)) (n:Nat) (x:Str),(x,NameKind.cell)∈names->∃c,(CN n names).lookup x=some c
 |[],_,_,h=>by cases h
 |(y,k)::r,n,x,h=>by
   unfold CN;by_cases hk:(k==NameKind.cell)=true
   .rw[ia hk,jC];rcases mem_cons.mp h with h|h
    .obtain⟨rfl,rfl⟩:=Prod.mk.inj h;cases q:(CN (n+1) r).lookup x with
     |some d=>exact⟨d,rfl⟩
     |none=>exact⟨n,by simp[iW]⟩
    .obtain⟨c,hc⟩:=J0 r (n+1) x h;exact⟨c,by rw[hc];rfl⟩
   .rw[ie hk];rcases mem_cons.mp h with h|h
    .cases h;simp at hk
    .exact J0 r n x h
noncomputable def dP(scope:Scope)(C:Addr)(env:Env):Env:=
 { scope:=relabel scope env,locals:=C,globals:=env.globals,cells:=cellsFrom (C+1) 116 (AW env.cells 116 []),qual:=env.qual,func:=none,code:=env.code,frame:=env.frame,builtins:=env.builtins }
def Z3{M:Model}{A:Around}{E:Value->Shared->Prop}{s:Shared}{scope:Scope}{env:Env}{Q:Env->Shared->Prop}
 (hQ:∀h',(∀b o,s.heap.get? b=some o->h'.get? b=some o)->h'.Ns 49 (λ_=>none)->(∀x c,(CN (49+1) 116).lookup x=some c->h'.IsCell c none/\49<c) ->
  ((CN (49+1) 116).Pairwise λx y=>x.2≠y.2) ->
  Q { scope:=scope,locals:=49,globals:=env.globals,cells:=cellsFrom (49+1) 116 cl,qual:=env.qual,func:=none,code:=env.code,frame:=env.frame,builtins:=env.builtins } { s with heap:=h' }):
 wpAny M A (newFunctionEnv scope env.globals cl [] env.qual none .none (some env)) Q E s:=by
 simp only[newFunctionEnv,Option.isSome_some,iy];refine ic (wpAny_alloc ?_);refine ic (wpAny_layCells _ (λname kind cells=>by cases hkc:kind==NameKind.cell<;>simp[hkc]) _ _ _ _ ?_);have ok:=cellsFrom_ok 116 (s.heap.push { cls:=.type "dict",data:=.dict #[] }) (49+1) [] ⟨λ_ _ hm=>(nomatch hm),List.Pairwise.nil⟩ (by rw[Heap.size_push];exact ig _);rw[Heap.size_push,Bi,je]at ok;rw[show({ s with heap:=s.heap.push { cls:=.type "dict",data:=.dict #[] } }:Shared).heap.objs.size=49+1 from Heap.size_push ..];refine ic (ik (ik ?_));exact hQ _ (λb o e=>pushCells_keeps _ _ b o (53 _ e)) ((Heap.Ns.new s.heap (.type "dict")).keeps (pushCells_keeps _ _)) (λx c hc=>⟨(ok.empty x c (mem_of_lookup hc)).1,(ok.empty x c (mem_of_lookup hc)).2⟩) ok.apart
theorem LO:∀{names:List (Str×NameKind)} {x:Str} {k k':NameKind},(names.map (·.1)).Nodup->(x,k)∈names->(x,k')∈names->k=k'
 |[],_,_,_,_,h,_=>by cases h
 |(y,q)::r,x,k,k',nd,h,h'=>by
   have nd:(y::r.map (·.1)).Nodup:=nd;obtain⟨n1,n2⟩:=nodup_cons.mp nd;have out:∀{z:NameKind},(y,z)∈r->False:=λm=>n1 (mem_map.mpr ⟨_,m,rfl⟩);rcases mem_cons.mp h with e|e<;>rcases mem_cons.mp h' with e'|e'
   .cases e;cases e';rfl
   .cases e;exact(out e').elim
   .cases e';exact(out e).elim
   .exact LO n2 e e'
theorem Gn{env:Env}{x:Str}:∀{names:List (Str×NameKind)},names.lookup x=some .free ->
 (names.map λ(n,k)=>if(k==NameKind.free&&env.scope.kind==.function&&env.kindOf n==some .cell)then(n,NameKind.cell)else(n,k)).lookup x=some .cell ∨
 (names.map λ(n,k)=>if(k==NameKind.free&&env.scope.kind==.function&&env.kindOf n==some .cell)then(n,NameKind.cell)else(n,k)).lookup x=some .free
 |[],h=>by simp at h
 |(n,k)::r,h=>by
   have ih:=@Gn env x r;show List.lookup x ((if(k==NameKind.free&&env.scope.kind==.function&&env.kindOf n==some .cell)=true then(n,NameKind.cell)else(n,k))::_)=_∨List.lookup x ((if(k==NameKind.free&&env.scope.kind==.function&&env.kindOf n==some .cell)=true then(n,NameKind.cell)else(n,k))::_)=_;cases hx:x==n with
   |true=>
    simp only[iW,hx]at h;cases h;by_cases hc:(NameKind.free==NameKind.free&&env.scope.kind==.function&&env.kindOf n==some .cell)=true
    .rw[ia hc];exact .inl (by simp only[iW,hx])
    .rw[ie hc];exact .inr (by simp only[iW,hx])
   |false=>
    simp only[iW,hx]at h;by_cases hc:(k==NameKind.free&&env.scope.kind==.function&&env.kindOf n==some .cell)=true
    .rw[ia hc];simp only[iW,hx];exact ih h
    .rw[ie hc];simp only[iW,hx];exact ih h
theorem Gx{env:Env}{x:Str}:∀{names:List (Str×NameKind)},
 ((names.map λ(n,k)=>if(k==NameKind.free&&env.scope.kind==.function&&env.kindOf n==some .cell)then(n,NameKind.cell)else(n,k)).lookup x=some .cell ∨
 (names.map λ(n,k)=>if(k==NameKind.free&&env.scope.kind==.function&&env.kindOf n==some .cell)then(n,NameKind.cell)else(n,k)).lookup x=some .free) ->
 names.lookup x=some .cell∨names.lookup x=some .free
 |[],h=>by simp at h
 |(n,k)::r,h=>by
   have ih:=@Gx env x r;have h:List.lookup x ((if(k==NameKind.free&&env.scope.kind==.function&&env.kindOf n==some .cell)=true then(n,NameKind.cell)else(n,k))::_)=_∨List.lookup x ((if(k==NameKind.free&&env.scope.kind==.function&&env.kindOf n==some .cell)=true then(n,NameKind.cell)else(n,k))::_)=_:=h;cases hx:x==n with
   |true=>
    by_cases hc:(k==NameKind.free&&env.scope.kind==.function&&env.kindOf n==some .cell)=true
    .have hk:k=.free:=by
      have:=(Bool.and_eq_true _ _ ▸ (Bool.and_eq_true _ _ ▸ hc).1:(k==NameKind.free)=true/\_).1;simpa using this
     exact .inr (by simp only[iW,hx,hk])
    .rw[ie hc]at h;simp only[iW,hx]at h ⊢;exact h
   |false=>
    simp only[iW,hx];refine ih ?_;by_cases hc:(k==NameKind.free&&env.scope.kind==.function&&env.kindOf n==some .cell)=true
    .rw[ia hc]at h;simp only[iW,hx]at h;exact h
    .rw[ie hc]at h;simp only[iW,hx]at h;exact h
def cCx(X:Cx)(N':List Str)(scope:Scope)(s:Shared)(H:Hp)(ex:List Addr):Cx:=
 { X with N:=N',s₀:=s,H₀:=H,env:=dP scope s.heap.objs.size X.env,outer:=X.stack,ex:=ex,fn:=λx=>decide ((x,NameKind.cell)∈116),pn:=[],xe:=λ_ _=>False }
structure CSc(X:Cx)(scope:Scope)(fr:List Str)(ix:List Nat):Prop where
 kind:scope.kind=.function
 nd:(scope.names.map (·.1)).Nodup
 free:(scope.names.all λy=>y.2 != .free||X.env.kindOf y.1==some .cell||X.env.kindOf y.1==some .free)=true
 frs:(fr.all λx=>scope.names.lookup x==some .free)=true
 ixs:fr.map some=ix.map λi=>X.N[i]?
 loc:(scope.names.all λy=>y.2 != .local||scope.names.lookup y.1==some .local)=true
noncomputable def HW(n:Nat)(ix:List Nat)(σ:St):St:=108 n none++ix.map λi=>(σ[i]?).join
section
def CSc.outer(S:CSc X scope fr ix)(hy:y∈116)(e:y.2=.free):X.env.kindOf y.1=some .cell∨X.env.kindOf y.1=some .free:=by
 have h:=all_eq_true.mp S.free y hy;rw[e]at h;simpa using h
def CSc.clos(S:CSc X scope fr ix)(ok:X.Ok):∀y∈116,y.2=.free->∃c,X.env.cells.lookup y.1=some c:=λy hy e=>ok.has y.1 (S.outer hy e)
def D4(S:CSc X scope fr ix)(ok:X.Ok){n:Nat}(e:(cellsFrom n 116 (AW X.env.cells 116 [])).lookup x=some c):
 (CN n 116).lookup x=some c∨X.env.cells.lookup x=some c:=by
 rw[Bi,jC]at e;cases q:(CN n 116).lookup x with
 |some d=>rw[q]at e;exact .inl e
 |none=>
  rw[q]at e;exact .inr (Db (S.clos ok) (λ_ _ z=>by simp at z) x c e)
def Vj(S:CSc X scope fr ix)(I:Inv X pins σ H s)(hex:∀b∈ex,FpOk X pins H b){h':Heap}(hk:∀b o,s.heap.get? b=some o->h'.get? b=some o)(hn:h'.Ns 49 λ_=>none)
 (ho:∀x c,(CN (49+1) 116).lookup x=some c->h'.IsCell c none/\49<c) (ha:(CN (49+1) 116).Pairwise λx y=>x.2≠y.2) (hlt:∀b∈ex,b<49):
 Inv (cCx X (loc++fr) scope s H ex) [] (HW loc.length ix σ) H { s with heap:=h' }:=by
 have old:∀x c,X.env.cells.lookup x=some c->c<s.heap.objs.size:=λx c e=>let ⟨v,z⟩:=I.cell x c e;z.lt
 have lenix:fr.length=ix.length:=by simpa using j7 List.length S.ixs
 refine⟨⟨I.ok.mod,?_,I.ok.glob,I.ok.blt,ig _,?_,?_,?_,I.ok.hd,I.ok.frames,.inl rfl,?_,I.bs,iw I.ok.bsz I.sz,?_,?_,I.stack,I.stkFree⟩,rfl,I.bare,Un.kept hk,⟨_,hn,?_⟩,?_,I.hok.fresh (ig _),?_,?_,I.hok.kept hk,?_⟩
 .exact S.kind
 .intro x y c e1 e2;rcases D4 S I.ok e1 with a|a<;>rcases D4 S I.ok e2 with b|b
  .exact name_of_addr ha (PySem.mem_of_lookup a) (PySem.mem_of_lookup b)
  .exact absurd (lt_trans (ho x c a).2 (old y c b)) (jd _)
  .exact absurd (lt_trans (ho y c b).2 (old x c a)) (jd _)
  .exact I.ok.inj x y c a b
 .intro x hx;rcases Gx hx with e|e
  .exact isSome_iff_exists.mp (PySem.W.cellsFrom_some _ _ _ (.inl e))
  .exact isSome_iff_exists.mp (PySem.W.cellsFrom_some _ _ _ (.inr (Cm (.inr (PySem.mem_of_lookup e)))))
 .intro x c hf e;have hf:(x,NameKind.cell)∈scope.names:=jG hf;obtain⟨d,hd⟩:=J0 116 (49+1) x hf;have e':(cellsFrom (49+1) 116 (AW X.env.cells 116 [])).lookup x=some c:=e;rw[Bi,jC,hd]at e';cases e';exact jj (ho x _ hd).2
 .intro b hb;refine⟨iu (hlt b hb),λx c e z=>?_⟩;rcases D4 S I.ok e with a|a
  .exact absurd (lt_trans (ho x c a).2 (by rw[z];exact hlt b hb)) (jd _)
  .exact(hex b hb).2.2.2.2.1 x c a z
 .intro b o e hb;rcases(hex b hb).2.2.2.1 with z|z
  .exact I.ok.noex b o e z
  .exact absurd (iZ (58 (I.ok.bs b o e).1) z) (jd _)
 .intro b hb hf;rcases mem_cons.mp (I.stkSub b hf)with z|z
  .exact(hex b hb).2.1 z
  .exact(hex b hb).2.2.1 z
 .intro i x v e1 e2 e3;have e1:(loc++fr)[i]?=some x:=e1;unfold HW at e2;by_cases hi:i<loc.length
  .rw[List.getElem?_append_left (by simpa using hi),List.getElem?_replicate]at e2;split at e2<;>cases e2
  .have hi':loc.length<=i:=not_lt.mp hi;rw[List.getElem?_append_right (by simpa using hi')]at e2;rw[List.getElem?_append_right hi']at e1;rw[List.length_replicate,List.getElem?_map]at e2;generalize hj:i-loc.length=j at e1 e2;have e4:(fr.map some)[j]?=some (some x):=by rw[List.getElem?_map,e1];rfl
   rw[S.ixs,List.getElem?_map]at e4;cases q:ix[j]? with
   |none=>rw[q]at e2;cases e2
   |some k=>
    rw[q]at e2 e4;have e2:(σ[k]?).join=some v:=111 e2;have e4:X.N[k]?=some x:=111 e4;have e5:σ[k]?=some (some v):=by
     cases w:σ[k]? with
     |none=>rw[w]at e2;cases e2
     |some z=>rw[w]at e2;simpa using e2
    have hfx:=all_eq_true.mp S.frs x (j6 e1);have hfx:scope.names.lookup x=some .free:=by simpa using hfx
    have hmem:=PySem.mem_of_lookup hfx;have hout:=S.outer hmem rfl;obtain⟨m,hm,hl⟩:=I.loc;obtain⟨u,r,l⟩:=hl k x v e4 e5 (.inr hout);refine⟨u,r,.inr ⟨Gn hfx,?_⟩⟩;rcases l with⟨kk,_⟩|⟨kk,c,ec,z⟩
    .rcases hout with w|w
     .rw[kk]at w;cases w
     .rw[kk]at w;cases w
    .have own0:(CN (49+1) 116).lookup x=none:=by
      cases w:(CN (49+1) 116).lookup x with
      |none=>rfl
      |some d=>exact absurd (LO S.nd (Iz _ _ _ _ w) hmem) 107
     have hc:(AW X.env.cells 116 []).lookup x=some c:=by
      obtain⟨d,hd⟩:=isSome_iff_exists.mp (Cm (cells:=X.env.cells) (acc:=[]) (.inr hmem));have:=Db (S.clos I.ok) (λ_ _ z=>by simp at z) x d hd;rw[ec]at this;cases this;exact hd
     refine⟨c,?_,z.keeps hk⟩;show(cellsFrom (49+1) 116 (AW X.env.cells 116 [])).lookup x=some c;rw[Bi,jC,own0,hc];rfl
 .intro x c e;rcases D4 S I.ok e with a|a
  .exact⟨_,(ho x c a).1⟩
  .obtain⟨v,z⟩:=I.cell x c a;exact⟨v,z.keeps hk⟩
 .intro x c e;rcases D4 S I.ok e with a|a
  .exact I.hok.fresh (jj (ho x c a).2)
  .exact I.freeC x c a
 .intro p hp;cases hp
 .unfold HW;show _=(loc++fr).length;simp[lenix]
end
section
variable{A:Around}{R:Result->Shared->Prop}
def Td{iter:Expr}{ifs:List Expr}{emit:Sem Unit}(I:Nat->Shared->Prop)
 (hden:(103).den (.compLoop e 0 it acc env)=(compTurn e 0 it acc env).onRaise (λx=>do noteFrame x env;theTreesLotGoes x))
 (hund:A.under (.compLoop e 0 it acc env)=A)
 (hturn:compTurn e 0 it acc env=(do
  standAt iter.pos
  match <- pyNext it with
  |none=>pure (.done .next)
  |some x=>
   letOwnedTupleGo target it x
   assign target env x
   let mut ok:=true
   for c in ifs do
    if ok then ok <- isTrue c env (eval c env)
   if ok then emit
   again (.compLoop e 0 it acc env)))
 (turn:∀n s,I n s->wpAny 103 A (pyNext it) (λr s₁=>match r with
  |none=>R (.ok .next) s₁
  | some v=>wpAny 103 A (letOwnedTupleGo target it v) (λ_ s₁=>wpAny 103 A (assign target env v) (λ_ s₂=>
   wpAny 103 A (forIn ifs true λc r=>if r=true then do let ok <- isTrue c env (eval c env);pure (ForInStep.yield ok)else pure (ForInStep.yield r)) (λok s₃=>
    if ok=true then wpAny 103 A emit (λ_ s₅=>∃m,m<n/\I m s₅) (λ_ _=>False) s₃
    else ∃m,m<n/\I m s₃) (λ_ _=>False) s₂) (λ_ _=>False) s₁) (λ_ _=>False) s₁) (λ_ _=>False) s)
 (n:Nat) (h:I n s):
 codeAny 103 A (.compLoop e 0 it acc env) R s:=by
 refine codeAny_loop rfl I (λn s hI=>?_) n h;rw[hden,hund];refine wpAny_noted ?_;rw[hturn];refine ic (jw (ic (iX (turn n s hI) (λr s₁ h₁=>?_) λ_ _ h'=>h'.elim)));cases r with
 |none=>exact ik h₁
 |some v=>
  refine ic (iX h₁ (λ_ s₁ h₁=>?_) λ_ _ h'=>h'.elim);refine ic (iX h₁ (λ_ s₂ h₂=>ic (iX h₂ (λok s₃ h₃=>?_) λ_ _ h'=>h'.elim)) λ_ _ h'=>h'.elim);cases ok with
  |false=>exact ik ⟨rfl,h₃⟩
  |true=>
   exact ic (iX h₃ (λx s₄ h₄=>ik ⟨rfl,h₄⟩) λ_ _ h'=>h'.elim)
def R8(hcl:clausesOf e=g::gs)(hasy:g.is_async=0)
 (hden:(103).den (.compStart e 0 it acc env)=(compStart e 0 it acc env).onRaise (λx=>do noteFrame x env;standAt theWindowsPlace))
 (hund:A.under (.compStart e 0 it acc env)=A)
 (h0:codeAny 103 A (.compLoop e 0 it acc env) R s)
 (h:wpAny 103 A (pyIter it) (λit' s'=>codeAny 103 A (.compLoop e 0 it' acc env) R s')
  (notedBy 103 A env λx s'=>R (.error x) s') s):
 codeAny 103 A (.compStart e 0 it acc env) R s:=by
 refine codeAny_of_tree ?_;rw[hden,hund];refine wpAny_notedAt ?_;have e1:((clausesOf e)[0]?).elim false (·.is_async != 0)=false:=by rw[hcl];simp[hasy]
 have e2:(clausesOf e)[0]?=some g:=by rw[hcl];rfl
 unfold compStart;rw[e1,e2];show wpAny _ _ (ask >>= _) _ _ s;refine ic (wpAny_askSetting (wpAny_ite ?_));split
 .first
   |exact ic (ik (ik (And.intro rfl h0)))
   |exact ik (And.intro rfl h0)
 .first
   |exact ic (wpAny_rule (ic (jw (ic (iX h (λit' s' h'=>ik (And.intro rfl h')) λ_ _ x=>x)))))
   |(refine ic (wpAny_rule ?_);show wpAny _ _ (standAt g.iter.pos >>= _) _ _ s;exact ic (jw (ic (iX h (λit' s' h'=>ik (And.intro rfl h')) λ_ _ x=>x))))
end
def PF(X:Cx)(ifs:List Expr)(t:TT):Prop:=
 ∀(pins:List (Addr×Obj)) (s:Shared) (σ:St) (H:Hp) (Q:Bool->Hp->Prop),Inv X pins σ H s->t σ H Q ->
   wpAny 54 X.A (forIn ifs true λc r=>if r=true then do let ok <- isTrue c X.env (eval c X.env);pure (ForInStep.yield ok)else pure (ForInStep.yield r)) (TP X pins σ Q) X.xe s
noncomputable def UF:TT:=λ_ H Q=>Q true H
def bw:PF X [] UF:=λpins s σ H Q I h=>wpAny_tests_nil ⟨H,I,h⟩
def bv(h:PT X c t):PF X [c] t:=λpins s σ H Q I q=>wpAny_tests_one (h pins s σ H Q I q)
noncomputable abbrev TM:=Addr->St->Hp->(Hp->Prop)->Prop
def PM(X:Cx)(emit:Value->Env->Sem Unit)(t:TM):Prop:=
 ∀(D:Addr) (pins:List (Addr×Obj)) (s:Shared) (σ:St) (H:Hp) (Q:Hp->Prop),Inv X pins σ H s->t D σ H Q->wpAny 54 X.A (emit (.ref D) X.env) (λ_ s'=>∃H',Inv X pins σ H' s'/\Q H') X.xe s
def Tv(J:It)(D:Addr)(o:HO)(σ0:St)(H0:Hp)(g:TG)(tf:TT)(tm:TM)(Q:VK):Prop:=∃W:Nat->Nat->St->Hp->Prop,
 (∃m,W 0 m σ0 (upd H0 D o))/\∀i m σ H,W i m σ H ->
  ((J.stop i H/\Q (.ref D) H)∨(J.go i H/\∃N:St->Hp->Prop,(∀σ' H',N σ' H'->∃m',m'<m/\W (i+1) m' σ' H')/\
    ∀x H',J.yld i H x H'->g x σ H' λσ2 H2=>tf σ2 H2 λb H3=>
     if b=true then tm D σ2 H3 λH4=>N σ2 H4 else N σ2 H3))
noncomputable def Fd(o:HO)(n:Nat)(ix:List Nat)(wi:TI)(g:TG)(tf:TT)(tm:TM):TE:=λσ H Q=>wi σ H λJ H1=>∀D,H1 D=none->Tv J D o (HW n ix σ) H1 g tf tm Q
section
def dU{D:Addr}{Q:Value->Shared->Prop}{E:Value->Shared->Prop}(I:Inv X pins σ H s)(hD:H D=some (.lst ys))(r:RelV x u)(hz:ys.length<sizeLine)
 (h:∀v s',Inv X pins σ (upd H D (.lst (ys++[x]))) s'->Q v s'):wpAny 54 X.A (call (.builtin "list.append") [.ref D,u]) Q E s:=by
 have I':=I.wish λ_ _=>False;have q:=LP (X:=X.wish λ_ _=>False) pins s σ H (.ref D) [x] (.ref D) [u] (λv H'=>H'=upd H D (.lst (ys++[x]))) I' rfl (.cons r .nil) ⟨D,ys,x,rfl,rfl,hD,hz,rfl⟩;refine iX q (λv s' ⟨v',H',I2,_,e⟩=>?_) λ_ _ z=>False.elim z;subst e;exact h v s' I2.unwish
structure Kd(X:Cx)(e tg iter:Expr)(ifs:List Expr)(emit:Value->Env->Sem Unit)(newAcc:Sem Value)(ho:HO):Prop where
 cl:clausesOf e=[⟨tg,iter,ifs,0⟩]
 turn:∀it acc env,compTurn e 0 it acc env=(do
  standAt iter.pos
  match <- pyNext it with
  |none=>pure (.done .next)
  |some x=>
   letOwnedTupleGo tg it x
   assign tg env x
   let mut ok:=true
   for c in ifs do
    if ok then ok <- isTrue c env (eval c env)
   if ok then emit acc env
   again (.compLoop e 0 it acc env))
 d1:∀it acc env,(54).den (.compLoop e 0 it acc env)=(compTurn e 0 it acc env).onRaise (λx=>do noteFrame x env;theTreesLotGoes x)
 d2:∀it acc env,(54).den (.compStart e 0 it acc env)=(compStart e 0 it acc env).onRaise (λx=>do noteFrame x env;standAt theWindowsPlace)
 u1:∀it acc env,X.A.under (.compLoop e 0 it acc env)=X.A
 u2:∀it acc env,X.A.under (.compStart e 0 it acc env)=X.A
 new:∀(pins:List (Addr×Obj)) (s:Shared) (σ:St) (H:Hp) (E:Value->Shared->Prop) (Q:Value->Shared->Prop),Inv X pins σ H s->(∀ob,Inv X pins σ (upd H 49 ho) { s with heap:=s.heap.push ob }->Q (.ref 49) { s with heap:=s.heap.push ob })->wpAny 54 X.A newAcc Q E s
def KC{iter:Expr}{emit:Value->Env->Sem Unit}{tn:Nat->Heap->Prop}{s2:Shared}{E:Value->Shared->Prop}
 {RR:Value->Addr->Result->Shared->Prop} (Z:Kd X e tg iter ifs emit newAcc ho) (hc:X.calm=true) (S:CSc X scope fr ix)
 (hg:∀s H ex,PG (cCx X (loc++fr) scope s H ex) tg g) (hf:∀s H ex,PF (cCx X (loc++fr) scope s H ex) ifs tf) (he:∀s H ex,PM (cCx X (loc++fr) scope s H ex) emit tm)
 (I2:Inv X pins σ H2 s2) (T:Turn X.prog X.w X.K tg J fp it tn) (st2:tn 0 s2.heap) (f2:∀b∈fp,FpOk X pins H2 b) (hW:∀D,H2 D=none->Tv J D ho (HW loc.length ix σ) H2 g tf tm Q)
 (hfin:∀(s3 s6:Shared) (H5:Hp) (σ5:St) (D:Addr),Inv X pins σ (upd H2 D ho) s3->Inv (cCx X (loc++fr) scope s3 (upd H2 D ho) fp) [] σ5 H5 s6->(∀b∈fp,FpOk X pins (upd H2 D ho) b)->Q (.ref D) H5->RR (.ref D) s3.heap.objs.size (.ok .next) s6):
 wpAny 54 X.A newAcc (λacc s₃=>wpAny 54 X.A (newFunctionEnv scope X.env.globals (AW X.env.cells 116 []) [] X.env.qual none .none (some X.env)) (λcenv s₄=>
  codeAny 54 X.A (.compStart e 0 (.ref it) acc { cenv with scope:=relabel scope X.env }) (RR acc cenv.locals) s₄) E s₃) E s2:=by
 refine Z.new pins s2 σ H2 _ _ I2 λob I3=>?_;have fresh2:H2 s2.heap.objs.size=none:=I2.hok.fresh (ig _);obtain⟨W,⟨m0,w0⟩,turn⟩:=hW s2.heap.objs.size fresh2;have lt2:∀b∈fp,b<s2.heap.objs.size:=λb hb=>let ⟨o,e,_⟩:=T.obj 0 _ st2 b hb;58 e
 have f3:∀b∈fp,FpOk X pins (upd H2 s2.heap.objs.size ho) b:=λb hb=>⟨by rw[upd_ne (iu (lt2 b hb))];exact(f2 b hb).1,(f2 b hb).2⟩
 have lt3:∀b∈fp,b<(s2.heap.push ob).objs.size:=λb hb=>by rw[Heap.size_push];exact Nat.lt_succ_of_lt (lt2 b hb)
 generalize hs3:({ s2 with heap:=s2.heap.push ob }:Shared)=s3 at *;have lt3:∀b∈fp,b<s3.heap.objs.size:=by rw[<- hs3];exact lt3
 have st3:tn 0 s3.heap:=T.keep _ _ _ st2 λb hb o e=>by rw[<- hs3];exact 53 _ e
 refine Z3 λh' hk hn ho' ha=>?_;have I4:=Vj (loc:=loc) S I3 f3 hk hn ho' ha lt3;have fpX:∀{H':Hp},(∀b∈fp,H' b=none)->∀b∈fp,FpOk (cCx X (loc++fr) scope s3 (upd H2 s2.heap.objs.size ho) fp) [] H' b:=λhn b hb=>
  ⟨hn b hb,(I4.ok.exf b hb).1,I4.ok.exfs b hb,.inl hb,(I4.ok.exf b hb).2,λp hp=>by cases hp⟩
 have loop:codeAny 54 X.A (.compLoop e 0 (.ref it) (.ref s2.heap.objs.size) (dP scope s3.heap.objs.size X.env))
  (RR (.ref s2.heap.objs.size) s3.heap.objs.size) { s3 with heap:=h' }:=by
  refine Td (λn s'=>∃i σ' H',Inv (cCx X (loc++fr) scope s3 (upd H2 s2.heap.objs.size ho) fp) [] σ' H' s'/\tn i s'.heap/\(∀b∈fp,H' b=none)/\W i n σ' H') (Z.d1 _ _ _) (Z.u1 _ _ _) (Z.turn _ _ _) ?_ m0
   ⟨0,_,_,I4,T.keep _ _ _ st3 λb hb o e=>hk b o e,λb hb=>(f3 b hb).1,w0⟩
  rintro n s5 ⟨i,σ5,H5,I5,st5,fr5,w5⟩;have w5:=turn i n σ5 H5 w5;rcases w5 with⟨stop,qn⟩|⟨go,N,hN,step⟩
  .refine thn (T.done (cCx X (loc++fr) scope s3 (upd H2 s2.heap.objs.size ho) fp) rfl rfl rfl hc i [] s5 σ5 H5 _ I5 (fpX fr5) st5 stop) λr s6 ⟨hr,I6⟩=>?_;subst hr;exact hfin s3 s6 H5 σ5 s2.heap.objs.size I3 I6 f3 qn
  .refine thn (T.item (cCx X (loc++fr) scope s3 (upd H2 s2.heap.objs.size ho) fp) rfl rfl rfl hc i [] s5 σ5 H5 _ I5 (fpX fr5) st5 go) λr s6 ⟨u,hr,h6⟩=>?_;subst hr;refine thn h6 λ_ s7 ⟨x,H7,I7,r7,y7,st7,fr7⟩=>?_;have I7':=I7.pinned (fpX fr7) (T.obj _ _ st7);have keepI:∀{σ8:St} {H8:Hp} {s8:Shared},Inv (cCx X (loc++fr) scope s3 (upd H2 s2.heap.objs.size ho) fp) ([]++Gy fp s7.heap) σ8 H8 s8->tn (i+1) s8.heap/\∀b∈fp,H8 b=none:=λ{σ8 H8 s8} I8=>by
    refine⟨T.keep _ _ _ st7 λb hb o e=>(I8.pin (b,o) (iY _ (iY _ (EV hb e)))).1,λb hb=>?_⟩;obtain⟨o,e,d⟩:=T.obj _ _ st7 b hb;exact(I8.pin (b,o) (iY _ (iY _ (EV hb e)))).2.1
   refine thn (hg s3 (upd H2 s2.heap.objs.size ho) fp _ s7 σ5 H7 x u _ I7' r7 (step x H7 y7)) λ_ s8 ⟨σ8,H8,I8,q8⟩=>?_;refine thn (hf s3 (upd H2 s2.heap.objs.size ho) fp _ s8 σ8 H8 _ I8 q8) λb s9 ⟨H9,I9,q9⟩=>?_;cases b with
   |false=>
    rw[ie Bool.false_ne_true]at q9 ⊢;obtain⟨m',hm,w9⟩:=hN _ _ q9;exact⟨m',hm,i+1,σ8,H9,I9.unpinned,(keepI I9).1,(keepI I9).2,w9⟩
   |true=>
    rw[ia rfl]at q9 ⊢;refine thn (he s3 (upd H2 s2.heap.objs.size ho) fp _ _ s9 σ8 H9 _ I9 q9) λe10 s10 ⟨H10,I10,n10⟩=>?_;obtain⟨m',hm,w10⟩:=hN _ _ n10;exact⟨m',hm,i+1,σ8,_,I10.unpinned,(keepI I10).1,(keepI I10).2,w10⟩
 exact R8 Z.cl rfl (Z.d2 _ _ _) (Z.u2 _ _ _) loop (T.self X.A 0 _ _ _ (T.keep _ _ _ st3 λb hb o e=>hk b o e) loop)
def Ia{s3:Shared}(I3:Inv X pins σ H3 s3)(I6:Inv (cCx X N' scope s3 H3 fp) [] σ5 H5 s6)(f3:∀b∈fp,FpOk X pins H3 b)
 (hs:Heap.SameBut s3.heap.objs.size s6.heap h''):Inv X pins σ H5 { s6 with heap:=h'' }:=by
 have neC:∀b o,s3.heap.get? b=some o->b≠s3.heap.objs.size:=λb o e=>iu (58 e);have un:=I6.base;refine I3.call' (s':={ s6 with heap:=h'' }) (ch:=fp) I6.os ⟨λb o e n hb hx=>?_,λb o e n hb hx=>?_,un.free,λb o e hx=>?_,un.tups,un.frzs,un.tbls⟩ ?_ I6.bare ?_
 .exact(hs.2 b (neC b o e)).trans (un.keep b o e n hb hx)
 .obtain⟨sl,q⟩:=un.slot b o e n hb hx;exact⟨sl,(hs.2 b (neC b o e)).trans q⟩
 .obtain⟨o',q⟩:=un.there b o e hx;exact⟨o',(hs.2 b (neC b o e)).trans q⟩
 .intro b ob e;have hfree:H5 s3.heap.objs.size=none:=I6.free;refine(I6.hok b ob e).stay (λc w' hc q=>(hs.2 c ?_).trans q) (λ_ q=>q) λ_ _ q=>q;intro z;rcases hc with hc|hc
  .rw[<- hc,z,hfree]at e;cases e
  .rw[z,hfree]at hc;cases hc
 .intro b hb;obtain⟨_,a2,_,a4,a5,a6⟩:=f3 b hb;exact⟨a4,a2,a5,a6⟩
def S7(S:CSc X scope fr ix):∀y∈116,y.2=.local->scope.names.lookup y.1=some .local:=λy hy e=>by
 have:=all_eq_true.mp S.loc y hy;rw[e]at this;simpa using this
def NP{iter:Expr}{emit:Value->Env->Sem Unit}(Z:Kd X e tg iter ifs emit newAcc ho)
 (hc:X.calm=true) (S:CSc X scope fr ix) (hi:PI X tg iter wi)
 (hg:∀s H ex,PG (cCx X (loc++fr) scope s H ex) tg g) (hf:∀s H ex,PF (cCx X (loc++fr) scope s H ex) ifs tf) (he:∀s H ex,PM (cCx X (loc++fr) scope s H ex) emit tm)
 (hev:eval e X.env=comprehension e scope X.env pos newAcc false (eval iter X.env)) (hs:∀x,foldedSetIterable iter X.env x=pure x):PE X e (Fd ho loc.length ix wi g tf tm):=by
 intro pins s σ H Q I h;rw[hev];refine wpAny_comprehension_free (use:=none) Z.cl hs (EQ (S.clos I.ok)) S.kind (S7 S) (thn (hi pins s σ H _ I h) λv s1 h1=>thn h1 λitv s2 h2=>?_);obtain⟨it,fp,tn,J,H2,rfl,I2,T,st2,f2,hW⟩:=h2;refine KC (RR:=λacc C=>compPost 54 X.A X.xe none (EP X pins σ Q) acc C) Z hc S hg hf he I2 T st2 f2 hW λs3 s6 H5 σ5 L I3 I6 f3 q=>?_;obtain⟨m,hm,_⟩:=I6.loc;exact⟨m,hm,λh'' hs'=>⟨.ref L,H5,Ia I3 I6 f3 hs',rfl,q⟩⟩
noncomputable def Qi(te:TE):TM:=λD σ H Q=>te σ H λv H1=>∃ys,H1 D=some (.lst ys)/\ys.length<sizeLine/\Q (upd H1 D (.lst (ys++[v])))
noncomputable def Qv(elt:Expr):Value->Env->Sem Unit:=λacc env=>do let _ <- call (.builtin "list.append") [acc,<- eval elt env]
def Ov(he:PE X elt te):PM X (Qv elt) (Qi te):=by
 intro D pins s σ H Q I h;unfold Qv;refine ic (thn (he pins s σ H _ I h) λu s1 ⟨y,H1,I1,r1,ys,hD,hz,q⟩=>ic (dU I1 hD r1 hz λ_ s2 I2=>ik ⟨_,I2,q⟩))
def P1{iter:Expr}:Kd X (.ListComp elt [⟨tg,iter,ifs,0⟩] scope pos) tg iter ifs (Qv elt) (newList []) (.lst []):=
 ⟨rfl,λ_ _ _=>compTurn_list ..,λ_ _ _=>rfl,λ_ _ _=>rfl,λ_ _ _=>rfl,λ_ _ _=>rfl,λpins s σ H E Q I h=>jK (h _ (I.lnew (its:=[]) (ys:=[]) (t':=s.toks) .nil (jk _)))⟩
noncomputable abbrev GE(n:Nat)(ix:List Nat)(wi:TI)(g:TG)(tf:TT)(te:TE):TE:=Fd (.lst []) n ix wi g tf (Qi te)
def Yo{iter:Expr}(hc:X.calm=true)(S:CSc X scope fr ix)(hi:PI X tg iter wi)
 (hg:∀s H ex,PG (cCx X (loc++fr) scope s H ex) tg g) (hf:∀s H ex,PF (cCx X (loc++fr) scope s H ex) ifs tf) (he:∀s H ex,PE (cCx X (loc++fr) scope s H ex) elt te)
 (hs:∀x,foldedSetIterable iter X.env x=pure x:=by intro _;rfl):PE X (.ListComp elt [⟨tg,iter,ifs,0⟩] scope pos) (GE loc.length ix wi g tf te):=
 NP P1 hc S hi hg hf (λs H ex=>Ov (he s H ex)) (eval_ListComp ..) hs
end
section
variable{X:Cx}
def YZ{i:Nat}{iter:Expr}{spos:Pos}(hN:X.N.Nodup)(hiN:X.N[i]?=some y)(hy:X.env.scope.names.lookup y=some .local)
 (hc:X.calm=true) (S:CSc X scope fr ix) (hi:PI X tg iter wi)
 (hg:∀s H ex,PG (cCx X (loc++fr) scope s H ex) tg g) (hf:∀s H ex,PF (cCx X (loc++fr) scope s H ex) ifs tf) (he:∀s H ex,PE (cCx X (loc++fr) scope s H ex) elt te)
 (hsw:swapsWith (.ListComp elt [⟨tg,iter,ifs,0⟩] scope pos) (some (.Name y py)) spos.line X.env=pure true:=by rfl) (hs:∀x,foldedSetIterable iter X.env x=pure x:=by intro _;rfl):
 PS X (.Assign [.Name y py] (.ListComp elt [⟨tg,iter,ifs,0⟩] scope pos) spos) (El (GE loc.length ix wi g tf te) (E1 i)):=by
 intro pins s σ H D I h;rw[exec_Assign_Name_used _ _ _ _ hsw];refine ic (jw (ic ?_));show wpAny _ _ (do let _ <- comprehension (.ListComp elt [⟨tg,iter,ifs,0⟩] scope pos) scope X.env _ (newList []) false (eval iter X.env) (some (assign (.Name y py) X.env))) _ _ s;refine ic (iX (wpAny_comprehension_free (use:=some (assign (.Name y py) X.env)) (Q:=λ_ s'=>SP X pins D .next s') rfl hs (EQ (S.clos I.ok)) S.kind (S7 S)
  (thn (hi pins s σ H _ I h) λv s1 h1=>thn h1 λitv s2 h2=>?_)) (λ_ s' hq=>ik (ik hq)) λ_ _ e=>e)
 obtain⟨it,fp,tn,J,H2,rfl,I2,T,st2,f2,hW⟩:=h2;refine KC (RR:=λacc C=>compPost 54 X.A X.xe (some (assign (.Name y py) X.env)) (λ_ s'=>SP X pins D .next s') acc C) P1 hc S hg hf (λs H ex=>Ov (he s H ex)) I2 T st2 f2 hW λs3 s6 H5 σ5 L I3 I6 f3 q=>?_;have J6:Inv X pins σ H5 s6:=Ia (h'':=s6.heap) I3 I6 f3 (.refl ..);obtain⟨m,hm,_⟩:=I6.loc;have hm:s6.heap.Ns s3.heap.objs.size m:=hm;have hL:s3.heap.objs.size≠X.env.locals:=Ne.symm (iu I3.lt);show wpAny _ _ (assign (.Name y py) X.env (.ref L)) _ _ s6;refine wpAny_assign_Name (LH (v:=.ref L) J6 hN hiN (.inl hy) rfl (λs7 I7 ⟨a,sb,ha⟩=>?_) (.inr hy));have hca:s3.heap.objs.size≠a:=by
  rcases ha with rfl|ha
  .exact hL
  .obtain⟨v,z⟩:=I3.cell y a ha;exact Ne.symm (iu z.lt)
 refine⟨m,hm.sameBut sb hca,λh' hs'=>?_⟩;refine⟨_,H5,I7.turned (t':=s7.toks) (it:=s3.heap.objs.size) (λb o hb e=>(hs'.2 b hb).trans e) I6.free hL (.inr I3.sz) (λx c e z=>?_) (λp hp z=>?_),q⟩
 .obtain⟨v,w⟩:=I3.cell x c e;exact absurd w.lt (by rw[z];exact jd _)
 .exact absurd (58 (I3.pin p hp).1) (by rw[z];exact jd _)
end
mutual
def Rep(K:Frag)(H:Hp):PyData->V->Prop
 |.none,v=>v=.non
 |.bool b,v=>v=.bl b
 |.int i,v=>v=.int i
 |.str x,v=>v=.str x
 |.list ds,v=>∃a xs,v=.ref a/\SqL K H a xs/\Bc K H ds xs
 |.tuple ds,v=>∃a xs,v=.ref a/\SqT K H a xs/\Bc K H ds xs
 |.dict _,_=>False
def Bc(K:Frag)(H:Hp):List PyData->List V->Prop
 |[],xs=>xs=[]
 |d::ds,xs=>∃x r,xs=x::r/\Rep K H d x/\Bc K H ds r
end
section
mutual
theorem DO(I:Inv X pins σ H s):∀(d:PyData) (v:V) (u:Value),Rep X.K H d v->RelV v u->∃as,Reads s.heap u d as
 |.none,v,u,h,r=>by
  have h:v=.non:=by simpa only[Rep]using h
  subst h;cases r;exact⟨_,.none⟩
 |.bool b,v,u,h,r=>by
  have h:v=.bl b:=by simpa only[Rep]using h
  subst h;cases r;exact⟨_,.bool b⟩
 |.int i,v,u,h,r=>by
  have h:v=.int i:=by simpa only[Rep]using h
  subst h;obtain⟨t,rfl⟩:=r;exact⟨_,.int i t⟩
 |.str x,v,u,h,r=>by
  have h:v=.str x:=by simpa only[Rep]using h
  subst h;obtain⟨t,rfl⟩:=r;exact⟨_,.str x t⟩
 |.list ds,v,u,h,r=>by
  have h:∃a xs,v=.ref a/\SqL X.K H a xs/\Bc X.K H ds xs:=by simpa only[Rep]using h
  obtain⟨a,xs,rfl,hq,ha⟩:=h;cases r;obtain⟨its,rv,⟨o,n,e,c,_,dd⟩,hz⟩:=I.list hq;obtain⟨as,q⟩:=Ep I ds xs its ha rv;exact⟨_,.list e c dd (by simpa using q)⟩
 |.tuple ds,v,u,h,r=>by
  have h:∃a xs,v=.ref a/\SqT X.K H a xs/\Bc X.K H ds xs:=by simpa only[Rep]using h
  obtain⟨a,xs,rfl,hq,ha⟩:=h;cases r;obtain⟨its,rv,⟨o,e,c,n,dd⟩,hz⟩:=I.tuple hq;obtain⟨as,q⟩:=Ep I ds xs its ha rv;exact⟨_,.tuple e c dd (by simpa using q)⟩
 |.dict _,v,u,h,r=>by
  have h:False:=by simpa only[Rep]using h
  exact h.elim
theorem Ep(I:Inv X pins σ H s):∀(ds:List PyData) (xs:List V) (us:List Value),Bc X.K H ds xs->Vals xs us->∃as,ReadsAll s.heap us ds as
 |[],xs,us,h,r=>by
  have h:xs=[]:=by simpa only[Bc]using h
  subst h;cases r;exact⟨_,.nil⟩
 |d::ds,xs,us,h,r=>by
  have h:∃x r,xs=x::r/\Rep X.K H d x/\Bc X.K H ds r:=by simpa only[Bc]using h
  obtain⟨x,rr,rfl,h1,h2⟩:=h;cases r with
  |cons r1 r2=>
   obtain⟨as,q1⟩:=DO I d _ _ h1 r1;obtain⟨bs,q2⟩:=Ep I ds _ _ h2 r2;exact⟨_,.cons q1 q2⟩
end
end
def Stb:HO->Prop
 |.tup _=>True
 |.frz _ _=>True
 |.ext _=>True
 |.xd _=>True
 |_=>False
structure Grow(H H':Hp):Prop where
 keep:∀b o,Stb o->H b=some o->H' b=some o
theorem Grow.tup(g:Grow H H'):∀b xs,H b=some (.tup xs)->H' b=some (.tup xs):=λb _ h=>g.keep b _ trivial h
theorem Grow.frz(g:Grow H H'):∀b o u,H b=some (.frz o u)->H' b=some (.frz o u):=λb _ _ h=>g.keep b _ trivial h
def Grow.refl:Grow H H:=⟨λ_ _ _ h=>h⟩
def Chg(H:Hp)(p:Addr):Prop:=∀o,Stb o->H p≠some o
def Grow.put(a:Grow H H')(h:Chg H' p):Grow H (upd H' p o):=⟨λc u s e=>by
 have q:=a.keep c u s e;have n:c≠p:=λz=>h u s (by rw[<- z];exact q);rw[upd_ne n];exact q⟩
def Grow.sq{K:Frag}(g:Grow H H')(h:SqT K H a xs):SqT K H' a xs:=by
 rcases h with(h|⟨o,h⟩)|h
 .exact .inl (.inl (g.tup _ _ h))
 .exact .inl (.inr ⟨o,g.frz _ _ _ h⟩)
 .exact .inr h
section
variable{X:Cx}
def M5(K:Frag):List V->Hp->VK->Prop:=λxs H Q=>∃x d,xs=[x]/\Rep K H d x/\d.showable=true/\d.hasDict=false/\isDisplay d=true/\d.depth<=30/\d.shown.length<=sizeLine/\Q (.str d.shown) H
def RK(hg:X.A.guards=some [])(hu:X.A.units+64<cLine):CallR X (.builtin "repr") (M5 X.K):=by
 intro pins s σ H xs us Q I r h;obtain⟨x,d,rfl,hr,hs,hd,hi,hdep,hsz,q⟩:=h;obtain⟨u,rfl,ru⟩:=BJ r;obtain⟨as,hR⟩:=DO I d x u hr ru;obtain⟨a,rfl⟩:=isRef_of_reads hR hi;exact repr_of_reads' hR hs (PyData.noDict_hsm hd) hg 50 (λ_ _ e=>e) (λh' u tk hk=>⟨.str d.shown,H,I.kept hk,⟨_,rfl⟩,q⟩) hsz
def RJ:CallR X (.builtin "repr") (λxs H Q=>∃i,xs=[.int i]/\i.natAbs.log2<1920/\Q (.str (toString i)) H):=by
 intro pins s σ H xs us Q I r h;obtain⟨i,rfl,hi,q⟩:=h;obtain⟨u,rfl,ru⟩:=BJ r;obtain⟨t,rfl⟩:=ru;exact PySem.P.repr_of_int hi ⟨.str (toString i),H,I.tok _,⟨_,rfl⟩,q⟩
noncomputable def Us(K:Frag):R2:=λx y H Q=>∃d e,Rep K H d x/\Rep K H e y/\d.canLay0=true/\e.canLay0=true/\min d.depth e.depth<=60/\Q (.bl (!PyData.eqv d e)) H
noncomputable def Uu(K:Frag):R2:=λx y H Q=>∃d e,Rep K H d x/\Rep K H e y/\d.canLay0=true/\e.canLay0=true/\min d.depth e.depth<=60/\Q (.bl (PyData.eqv d e)) H
def cL(hu:X.A.units+64<cLine):OpR X (compareOp .NotEq) (Us X.K):=by
 intro pins s σ H x y v u Q I rx ry h;obtain⟨d,e,h1,h2,c1,c2,hm,q⟩:=h;obtain⟨as,q1⟩:=DO I d x v h1 rx;obtain⟨bs,q2⟩:=DO I e y u h2 ry;exact PySem.SeqAt.compareNe_reads q1 q2 c1 c2 50 ⟨.bl _,H,I,rfl,q⟩
def cP(hu:X.A.units+64<cLine):OpR X (compareOp .Eq) (Uu X.K):=by
 intro pins s σ H x y v u Q I rx ry h;obtain⟨d,e,h1,h2,c1,c2,hm,q⟩:=h;obtain⟨as,q1⟩:=DO I d x v h1 rx;obtain⟨bs,q2⟩:=DO I e y u h2 ry;exact PySem.SeqAt.compareEq_reads q1 q2 c1 c2 50 ⟨.bl _,H,I,rfl,q⟩
theorem Eb:∀{ns:List Int} {us:List Value},Vals (ns.map V.int) us->IntsAre us ns
 |[],_,.nil=>.nil
 |n::ns,_,.cons r t=>by obtain⟨k,rfl⟩:=r;exact .cons _ _ (Eb t)
def Th(hc:X.calm=true):CallR X (.builtin "sum") (λxs H Q=>∃(a:Addr) (ns:List Int),xs=[.ref a]/\SqL X.K H a (ns.map V.int)/\Q (.int ns.sum) H):=by
 intro pins s σ H xs us Q I r h;obtain⟨a,ns,rfl,hq,q⟩:=h;obtain⟨u,rfl,ru⟩:=BJ r;cases ru;obtain⟨its,rv,p,hz⟩:=I.list hq;have hi:=Eb rv;obtain⟨xs,hx⟩:=hi.allInts.items;have hl':s.heap.IsList a (intItems xs):=hx ▸ p.isList;refine sum_intListG (I.ok.hd hc) hl' λh' tk t' hk=>?_;have e1:ns=xs.toList.map (·.1):=by
  rw[<- nums_intItems,<- hx];exact(show numsOf its.toArray.toList=ns from hi.numsOf).symm
 have e2:preSum (numAt xs) xs.size=ns.sum:=by
  rw[preSum_eq,jO 55,e1]
 rw[e2];exact⟨.int ns.sum,H,I.kept hk,⟨_,rfl⟩,q⟩
end
end L2
namespace L2
open PySem PySem.Spec PyProof.Rows
section
variable(K:Frag){X:Cx}
def Ng(hK:X.K=K:=by rfl):IxR X (Iw K):=by subst hK;exact P3
def P2(hK:X.K=K:=by rfl):IxR X (Ut K):=by subst hK;exact cu
def UR(hK:X.K=K:=by rfl):SlR X (QH K):=by subst hK;exact XQ
def XN(hK:X.K=K:=by rfl):SlR X (QD K):=by subst hK;exact Zw
def NT(hK:X.K=K:=by rfl):OpR X (compareOp .In) (rIn K false):=by subst hK;exact Sm
def Sk(hK:X.K=K:=by rfl):OpR X (compareOp .NotIn) (rIn K true):=by subst hK;exact NS
def Kh(hu:X.A.units+64<cLine)(hK:X.K=K:=by rfl):OpR X (compareOp .Eq) (Uu K):=by subst hK;exact cP hu
def Kg(hu:X.A.units+64<cLine)(hK:X.K=K:=by rfl):OpR X (compareOp .NotEq) (Us K):=by subst hK;exact cL hu
def NU(hK:X.K=K:=by rfl):OpR X (binaryOp .Add) (QJ K):=by subst hK;exact Yx
def aj:List V->Hp->VK->Prop:=λxs H Q=>∃p ys,xs=[.ref p]/\(SqL K H p ys∨SqT K H p ys)/\Q (.int ys.length) H
def Tl(hK:X.K=K:=by rfl):CallR X (.builtin "len") (aj K):=by subst hK;exact O5
def Kb:List V->Hp->VK->Prop:=λxs H Q=>∃p ys,xs=[.ref p]/\(SqL K H p ys∨SqT K H p ys)/\∀l,H l=none->Q (.ref l) (upd H l (.lst ys))
def RV(hK:X.K=K:=by rfl):CallR X (.type "list") (Kb K):=by subst hK;exact O4
def NF:List V->Hp->VK->Prop:=λxs H Q=>∃p ys,xs=[.ref p]/\((SqL K H p ys/\∀l,H l=none->Q (.ref l) (upd H l (.tup ys)))∨(SqT K H p ys/\Q (.ref p) H))
def IZ(hK:X.K=K:=by rfl):CallR X (.type "tuple") (NF K):=by subst hK;exact M0
def OU(hg:X.A.guards=some [])(hu:X.A.units+64<cLine)(hK:X.K=K:=by rfl):CallR X (.builtin "repr") (M5 K):=by subst hK;exact RK hg hu
def Wd:List V->Hp->VK->Prop:=λxs H Q=>∃(a:Addr) (ns:List Int),xs=[.ref a]/\SqL K H a (ns.map V.int)/\Q (.int ns.sum) H
def Lf(hc:X.calm=true)(hK:X.K=K:=by rfl):CallR X (.builtin "sum") (Wd K):=by subst hK;exact Th hc
def NM(hl:PE X l tl)(hK:X.K=K:=by rfl):PI X tg l (K2 K tl):=by subst hK;exact Yj hl
def Ow(hl:PE X l tl)(hK:X.K=K:=by rfl):PI X tg l (Ni K tl):=by subst hK;exact bq hl
def Yl{pos:Pos}{k:Nat}{n:Nat}(hc:X.calm=true)(h:PGs X es t)(hK:X.K=K:=by rfl)
 (hn:(assignEach es X.env).length=n:=by rfl) (hst:(assignEach es X.env).findIdx? (·.1)=none:=by rfl):PG X (.Tuple es k pos) (Qn K n t):=by
 subst hK;exact br hc h hn hst
end
section
variable(K:Frag){X:Cx}
theorem HZ:∀{bs:List Bool} {us:List Value} {i:Nat} {v:Value},Vals (bs.map V.bl) us->us[i]?=some v->∃b,bs[i]?=some b/\v=.bool b
 |[],_,_,_,.nil,e=>by simp at e
 |b::bs,_,0,_,.cons r _,e=>by simp at e;subst e;exact⟨b,rfl,r⟩
 |b::bs,_,i+1,_,.cons _ t,e=>by
  obtain⟨c,h1,h2⟩:=HZ (i:=i) t (by simpa using e);exact⟨c,by simpa using h1,h2⟩
def am:List V->Hp->VK->Prop:=λxs H Q=>∃(a:Addr) (bs:List Bool),xs=[.ref a]/\SqL K H a (bs.map V.bl)/\Q (.bl (bs.all id)) H
def ak:List V->Hp->VK->Prop:=λxs H Q=>∃(a:Addr) (bs:List Bool),xs=[.ref a]/\SqL K H a (bs.map V.bl)/\Q (.bl (bs.any id)) H
def Lj(hc:X.calm=true)(hK:X.K=K:=by rfl):CallR X (.builtin "all") (am K):=by
 subst hK;intro pins s σ H xs us Q I r h;obtain⟨a,bs,rfl,hq,q⟩:=h;obtain⟨u,rfl,ru⟩:=BJ r;cases ru;obtain⟨its,rv,p,hz⟩:=I.list hq;have hl:=p.isList;have hlen:=rv.length;have hlt:a<s.heap.objs.size:=by obtain⟨_,e,_⟩:=hl;exact 58 e
 refine call_all_walk (jZ hl ?_);refine⟨49,[49,a],[49],its.toArray.size,_,_,λi=>(bs[i]?).getD true,rfl,Walks.list (A:=X.A.in1) (I.ok.hd hc) _ a (iu hlt) its.toArray,
  ⟨⟨_,115 _ rfl,rfl,rfl⟩,hl.push _⟩,λi v s' Q' E' hP hQ=>?_,λh' tk hk=>?_⟩
 .obtain⟨b,e,rfl⟩:=HZ rv (by simpa using hP);simp only[e,getD_some]at hQ;exact jv hQ
 .have e:((57 its.toArray.size).all λi=>(bs[i]?).getD true)=bs.all id:=by
   rw[ip,<- hlen,iV];exact LSm.range_all bs
  rw[e];exact⟨.bl _,H,I.kept (LSm.kept_iter hk),rfl,q⟩
def Li(hc:X.calm=true)(hK:X.K=K:=by rfl):CallR X (.builtin "any") (ak K):=by
 subst hK;intro pins s σ H xs us Q I r h;obtain⟨a,bs,rfl,hq,q⟩:=h;obtain⟨u,rfl,ru⟩:=BJ r;cases ru;obtain⟨its,rv,p,hz⟩:=I.list hq;have hl:=p.isList;have hlen:=rv.length;have hlt:a<s.heap.objs.size:=by obtain⟨_,e,_⟩:=hl;exact 58 e
 refine call_any_walk (jZ hl ?_);refine⟨49,[49,a],[49],its.toArray.size,_,_,λi=>(bs[i]?).getD false,rfl,Walks.list (A:=X.A.in1) (I.ok.hd hc) _ a (iu hlt) its.toArray,
  ⟨⟨_,115 _ rfl,rfl,rfl⟩,hl.push _⟩,λi v s' Q' E' hP hQ=>?_,λh' tk hk=>?_⟩
 .obtain⟨b,e,rfl⟩:=HZ rv (by simpa using hP);simp only[e,getD_some]at hQ;exact jv hQ
 .have e:((57 its.toArray.size).any λi=>(bs[i]?).getD false)=bs.any id:=by
   rw[ip,<- hlen,iV];exact LSm.range_any bs
  rw[e];exact⟨.bl _,H,I.kept (LSm.kept_iter hk),rfl,q⟩
def Ka:List V->Hp->VK->Prop:=λxs H Q=>∃(a:Addr) (ns:List Int),xs=[.ref a]/\SqL K H a (ns.map V.int)/\ns.length<64/\∀(p:Addr) (ns':List Int),H p=none->ns'.Perm ns->ns'.Pairwise (·<=·)->Q (.ref p) (upd H p (.lst (ns'.map V.int)))
theorem Oa:∀{ns:List Int} {us:List Value},IntsAre us ns->Vals (ns.map V.int) us
 |[],_,.nil=>.nil
 |_::_,_,.cons _ _ t=>.cons ⟨_,rfl⟩ (Oa t)
def O3(hK:X.K=K:=by rfl):CallR X (.builtin "sorted") (Ka K):=by
 subst hK;intro pins s σ H xs us Q I r h;obtain⟨a,ns,rfl,hq,h64,q⟩:=h;obtain⟨u,rfl,ru⟩:=BJ r;cases ru;obtain⟨its,rv,p,hz⟩:=I.list hq;have hlen:=rv.length;rw[iV]at hlen;refine sorted_ints p.isList (Eb rv) 50 λout ns' a1 a2 a3=>?_;obtain⟨e,he⟩:=sortedAll_at s.heap its out;have hl':ns'.length=ns.length:=a2.length_eq;refine⟨.ref (49+1),_,I.laid (a:=49+1) (o:=.lst (ns'.map V.int)) (t':=s.toks) (λb o hb=>sortedAll_old hb) (jo _) ⟨?_,out.toList,e,Oa a1,he⟩,rfl,q _ _ (I.hok.fresh (jo _)) a2 a3⟩;rw[iV,hl'];exact jj (LI 50)
def eF:List V->Hp->VK->Prop:=λxs H Q=>∃(a:Addr) (ns:List Int),xs=[.ref a]/\SqL K H a (ns.map V.int)/\0<ns.length/\∀M:Int,M∈ns->(∀x∈ns,x<=M)->Q (.int M) H
def fX(hc:X.calm=true)(hK:X.K=K:=by rfl):CallR X (.builtin "max") (eF K):=by
 subst hK;intro pins s σ H xs us Q I r h;obtain⟨a,ns,rfl,hq,hne,q⟩:=h;obtain⟨u,rfl,ru⟩:=BJ r;cases ru;obtain⟨its,rv,p,hz⟩:=I.list hq;have hi:=Eb rv;obtain⟨ys,e⟩:=hi.allInts.items;have hns:ns=ys.toList.map (·.1):=by
  rw[<- hi.numsOf,<- nums_intItems,<- e]
 have hsz:0<ys.size:=by
  have h3:=hne;rw[hns,iV,Array.length_toList]at h3;exact h3
 have hl:=p.isList;rw[e]at hl;refine max_intList (I.ok.hd hc) hl hsz λv h' tk hv hk=>?_;obtain⟨t,rfl⟩:=intItems_at hv;obtain⟨h1,h2⟩:=argBest_gt (numAt ys) (ys.size-1);refine⟨.int _,H,I.kept hk,⟨t,rfl⟩,q _ ?_ λx hx=>?_⟩
 .rw[hns,numAt_eq];exact getD_mem (by rw[iV,Array.length_toList];omega)
 .rw[hns]at hx;obtain⟨j,hj,rfl⟩:=mem_getD hx;rw[iV,Array.length_toList]at hj;rw[<- numAt_eq];exact h2 j 50
def We:List V->Hp->VK->Prop:=λxs H Q=>∃(a:Addr) (ns:List Int),xs=[.ref a]/\SqL K H a (ns.map V.int)/\0<ns.length/\∀M:Int,M∈ns->(∀x∈ns,M<=x)->Q (.int M) H
def Lh(hc:X.calm=true)(hK:X.K=K:=by rfl):CallR X (.builtin "min") (We K):=by
 subst hK;intro pins s σ H xs us Q I r h;obtain⟨a,ns,rfl,hq,hne,q⟩:=h;obtain⟨u,rfl,ru⟩:=BJ r;cases ru;obtain⟨its,rv,p,hz⟩:=I.list hq;have hi:=Eb rv;obtain⟨ys,e⟩:=hi.allInts.items;have hns:ns=ys.toList.map (·.1):=by
  rw[<- hi.numsOf,<- nums_intItems,<- e]
 have hsz:0<ys.size:=by
  have h3:=hne;rw[hns,iV,Array.length_toList]at h3;exact h3
 have hl:=p.isList;rw[e]at hl;refine min_intList (I.ok.hd hc) hl hsz λv h' tk hv hk=>?_;obtain⟨t,rfl⟩:=intItems_at hv;obtain⟨h1,h2⟩:=argBest_lt (numAt ys) (ys.size-1);refine⟨.int _,H,I.kept hk,⟨t,rfl⟩,q _ ?_ λx hx=>?_⟩
 .rw[hns,numAt_eq];exact getD_mem (by rw[iV,Array.length_toList];omega)
 .rw[hns]at hx;obtain⟨j,hj,rfl⟩:=mem_getD hx;rw[iV,Array.length_toList]at hj;rw[<- numAt_eq];exact h2 j 50
end
section
variable{E:Value->Shared->Prop}{s:Shared}
def Ly{Q:Value->Shared->Prop}(hl:s.heap.IsTuple l (intItems xs))
 (h:∀s₂:Shared,s₂={ s with heap:=s.heap.push { cls:=.type "tuple_iterator",data:=.fields #[.ref l,.int 0 0] } } ->
  (s₂.heap.IsTupleIter 49 l 0/\s₂.heap.IsTuple l (intItems xs))->(∀b∈[49,l],b<s₂.heap.objs.size)->l≠49->Q (.ref 49) s₂):
 wpAny 103 A (pyIter (.ref l)) Q E s:=by
 have hlt:l<s.heap.objs.size:=by obtain⟨_,e,_⟩:=hl;exact 58 e
 refine wpAny_pyIter_tuple hl (h _ rfl ⟨⟨_,115 _ rfl,rfl,rfl⟩,hl.push _⟩ (λb hb=>?_) (iu hlt));show b<(s.heap.push _).objs.size;rw[Heap.size_push];rcases mem_cons.mp hb with rfl|hb
 .exact Nat.lt_succ_self _
 .rcases mem_cons.mp hb with rfl|hb
  .exact Nat.lt_succ_of_lt hlt
  .cases hb
def So{h':Heap}(hk:∀b x,b∉[49]->(s.heap.push o).get? b=some x->h'.get? b=some x):∀b x,s.heap.get? b=some x->h'.get? b=some x:=
 λb x e=>hk b x (λhm=>by rw[mem_singleton.mp hm]at e;exact jd _ (58 e)) (53 _ e)
def Ml{Q:Value->Shared->Prop}(hh:A.handled=none)(hl:s.heap.IsTuple l (intItems xs))
 (h:∀h' tk t',(∀b o,s.heap.get? b=some o->h'.get? b=some o)->Q (.int (preSum (numAt xs) xs.size) t') { s with heap:=h',toks:=tk }):
 wpAny 103 A (call (.builtin "sum") [.ref l]) Q E s:=by
 refine call_sum_walkG (Ly hl λs₂ e st hfp hlI=>?_);subst e;refine⟨_,_,_,_,_,_,numAt xs,rfl,Walks.tuple (A:=A.in1) hh _ l hlI (intItems xs),st,hfp,(λ_ _=>intItems_at),λh' tk t' hk=>?_⟩;have:=h h' tk t' (So hk);simpa [intItems]using this
end
section
variable(K:Frag){X:Cx}
def Wc:List V->Hp->VK->Prop:=λxs H Q=>∃(a:Addr) (ns:List Int),xs=[.ref a]/\SqT K H a (ns.map V.int)/\Q (.int ns.sum) H
def KG(hc:X.calm=true)(hK:X.K=K:=by rfl):CallR X (.builtin "sum") (Wc K):=by
 subst hK;intro pins s σ H xs us Q I r h;obtain⟨a,ns,rfl,hq,q⟩:=h;obtain⟨u,rfl,ru⟩:=BJ r;cases ru;obtain⟨its,rv,p,hz⟩:=I.tuple hq;have hi:=Eb rv;obtain⟨xs,hx⟩:=hi.allInts.items;have hl':s.heap.IsTuple a (intItems xs):=hx ▸ (show s.heap.IsTuple a its.toArray from p);refine Ml (I.ok.hd hc) hl' λh' tk t' hk=>?_;have e1:ns=xs.toList.map (·.1):=by
  rw[<- nums_intItems,<- hx];exact(show numsOf its.toArray.toList=ns from hi.numsOf).symm
 have e2:preSum (numAt xs) xs.size=ns.sum:=by
  rw[preSum_eq,jO 55,e1]
 rw[e2];exact⟨.int ns.sum,H,I.kept hk,⟨_,rfl⟩,q⟩
end
structure DefAt(K:Frag)(mg:Str->Option Value)(x:Str)(st:Stmt)(f:Addr)(fd:FuncData)(ps:List Str):Prop where
 fn:Fun K x x st f fd
 mg:mg x=some (.ref f)
 bd:Binds K fd ps []
def Wk{X:Cx}{j k:Nat}{st:Stmt}{p:Pos}(F:FnOk X.prog X.w X.K X.mg X.base CX0 j f fd ps sp)(hr:Room k X.A)(D:DefAt X.K X.mg x st f fd ps)(ha:PA X (e::es) t)
 (hjk:j<=k:=by decide) (hg:Gl X x:=by rfl) (hdb:(x==("__debug__":Str))=false:=by decide) (he:starEach (e::es) X.env=109::starEach es X.env:=by rfl) (hpl:(backTo pos (starEach es X.env)).any (·.1)=false:=by rfl):
 PE X (.Call (.Name x p) (e::es) [] pos) (Dy sp [] E0 t):=
 Yq (F.mono hjk) hr hg D.mg D.fn.kp D.bd .nil Wl ha hdb he hpl
def PV:bootBuiltins "list"=some (.type "list"):=by decide +kernel
def bt_tuple:bootBuiltins "tuple"=some (.type "tuple"):=by decide +kernel
def bt_len:bootBuiltins "len"=some (.builtin "len"):=by decide +kernel
def bt_repr:bootBuiltins "repr"=some (.builtin "repr"):=by decide +kernel
def bt_sum:bootBuiltins "sum"=some (.builtin "sum"):=by decide +kernel
def bt_min:bootBuiltins "min"=some (.builtin "min"):=by decide +kernel
def bt_max:bootBuiltins "max"=some (.builtin "max"):=by decide +kernel
def Lk:bootBuiltins "sorted"=some (.builtin "sorted"):=by decide +kernel
def bt_all:bootBuiltins "all"=some (.builtin "all"):=by decide +kernel
def bt_any:bootBuiltins "any"=some (.builtin "any"):=by decide +kernel
def M1:bootBuiltins "isinstance"=some (.builtin "isinstance"):=by decide +kernel
def ne1:¬ (("cells":Str)="next"):=by decide +kernel
def ne2:¬ (("cells":Str)="left"):=by decide +kernel
mutual
theorem IY:∀ns:List Int,PyData.canLayAll0 (ns.map PyData.int)=true
 |[]=>by simp[PyData.canLayAll0]
 |n::ns=>by simp[PyData.canLayAll0,PyData.canLay0,IY ns]
end
end L2
namespace L2
open PySem PySem.Spec PyProof.Rows PySem.W
noncomputable def lCx(X:Cx)(A:Around)(N':List Str)(qual:Str)(scope:Scope)(f:Addr)(cd:Value)(cl:List (Str×Addr))(s:Shared)(H:Hp):Cx:=
 { X with N:=N',s₀:=s,H₀:=H,A:=A.deeper (envX qual scope s.heap.objs.size f cd cl),env:=envX qual scope s.heap.objs.size f cd cl,outer:=X.stack,stack:=envX qual scope s.heap.objs.size f cd cl::X.stack,ex:=[],fn:=λ_=>false,calm:=true,pn:=[],xe:=λ_ _=>False }
structure LSc(scope:Scope)(p:Str):Prop where
 nocell:(scope.names.all λy=>y.2 != .cell)=true
 par:scope.names.lookup p=some .local
 co:scope.isCoroutine=false
 gen:scope.isGenerator=false
section
def LSc.ne(L:LSc scope p):∀y∈116,y.2≠.cell:=λy hy e=>by
 have:=all_eq_true.mp L.nocell y hy;rw[e]at this
 revert this;decide
def ZK(S:CSc X scope fr ix)(L:LSc scope p)(I:Inv X pins σ H s){A:Around}(hf:A.frames=X.A.frames)(hh:A.handled=none){h':Heap}{t':Nat}
 (hk:∀b o,s.heap.get? b=some o->h'.get? b=some o) (hn:h'.Ns 49 λy=>if y=p then some u else none) (r:RelV x u):
 Inv (lCx X A (p::fr) qual scope f cd (AW X.env.cells 116 []) s H) [] (some x::ix.map λi=>(σ[i]?).join) H { s with heap:=h',toks:=t' }:=by
 have lenix:fr.length=ix.length:=by simpa using j7 List.length S.ixs
 have co:∀x c,(AW X.env.cells 116 []).lookup x=some c->X.env.cells.lookup x=some c:=λx c e=>Db (S.clos I.ok) (λ_ _ z=>by simp at z) x c e;refine⟨⟨I.ok.mod,S.kind,rfl,rfl,ig _,?_,?_,?_,λ_=>hh,Around.frames_deeper (hf.trans I.ok.frames),.inr ⟨rfl,rfl⟩,?_,I.bs,iw I.ok.bsz I.sz,?_,?_,I.stack,I.stkFree⟩,rfl,I.bare,Un.kept hk,⟨_,hn,?_⟩,?_,I.hok.fresh (ig _),?_,?_,I.hok.kept hk,?_⟩
 .intro x y c e1 e2;exact I.ok.inj x y c (co x c e1) (co y c e2)
 .intro x hx;rcases hx with e|e
  .exact absurd rfl (L.ne (x,.cell) (PySem.mem_of_lookup e))
  .exact isSome_iff_exists.mp (Cm (.inr (PySem.mem_of_lookup e)))
 .intro x c hf;cases hf
 .intro b hb;cases hb
 .intro b o e hb;cases hb
 .intro b hb;cases hb
 .intro i y v e1 e2 e3;cases i with
  |zero=>
   have e1:some p=some y:=e1;have e2:some (some x)=some (some v):=e2;cases e1;cases e2;exact⟨u,r,.inl ⟨L.par,ia rfl⟩⟩
  |succ j=>
   have e1:fr[j]?=some y:=e1;have e2:(ix.map λi=>(σ[i]?).join)[j]?=some (some v):=e2;rw[List.getElem?_map]at e2;have e4:(fr.map some)[j]?=some (some y):=by rw[List.getElem?_map,e1];rfl
   rw[S.ixs,List.getElem?_map]at e4;cases q:ix[j]? with
   |none=>rw[q]at e2;cases e2
   |some k=>
    rw[q]at e2 e4;have e2:(σ[k]?).join=some v:=111 e2;have e4:X.N[k]?=some y:=111 e4;have e5:σ[k]?=some (some v):=by
     cases w:σ[k]? with
     |none=>rw[w]at e2;cases e2
     |some z=>rw[w]at e2;simpa using e2
    have hfx:=all_eq_true.mp S.frs y (j6 e1);have hfx:scope.names.lookup y=some .free:=by simpa using hfx
    have hmem:=PySem.mem_of_lookup hfx;have hout:=S.outer hmem rfl;obtain⟨m,hm,hl⟩:=I.loc;obtain⟨u',r',l⟩:=hl k y v e4 e5 (.inr hout);refine⟨u',r',.inr ⟨.inr hfx,?_⟩⟩;rcases l with⟨kk,_⟩|⟨kk,c,ec,z⟩
    .rcases hout with w|w
     .rw[kk]at w;cases w
     .rw[kk]at w;cases w
    .obtain⟨d,hd⟩:=isSome_iff_exists.mp (Cm (cells:=X.env.cells) (acc:=[]) (.inr hmem));have:=co y d hd;rw[ec]at this;cases this;exact⟨c,hd,z.keeps hk⟩
 .intro x c e;obtain⟨v,z⟩:=I.cell x c (co x c e);exact⟨v,z.keeps hk⟩
 .intro x c e;exact I.freeC x c (co x c e)
 .intro p hp;cases hp
 .show(_::_:List (Option V)).length=(p::fr).length;simp[lenix]
def Vh(S:CSc X scope fr ix)(L:LSc scope p)(I:Inv X pins σ H s){A:Around}(hf:A.frames=X.A.frames)(hr:Room 1 A){x:V}{u:Value}{tb:TE}{Q:VK}
 (ho:s.heap.get? f=some { cls:=.type "function",data:=.func (kla_fn "<lambda>" qual params body scope (AW X.env.cells 116 []) pm cd ctv) }) (hcd:s.heap.CodeRec cd qual)
 (hb:∀us:Value,bindArgs (kla_fn "<lambda>" qual params body scope (AW X.env.cells 116 []) pm cd ctv) ⟨[us],[]⟩=pure [(p,us)])
 (he:∀(s:Shared) (H:Hp),PE (lCx X A (p::fr) qual scope f cd (AW X.env.cells 116 []) s H) body tb) (r:RelV x u) (h:tb (some x::ix.map λi=>(σ[i]?).join) H Q):
 wpAny 54 A (call (.ref f) [u]) (EP X pins σ Q) (λ_ _=>False) s:=by
 refine jq (jy (R:=λres s'=>match res with|.ok (.ret u)=>EP X pins σ Q u s'|_=>False) (kla_callFunE hr.depth ho rfl L.co L.gen rfl hcd ?_) ?_)
 .rw[hb];refine ik ?_;refine wpAny_newFunctionEnv L.ne (λy hy=>by rw[iU]at hy;subst hy;exact L.par) (λh' hns hsb=>⟨?_,?_⟩) S.kind
  .have hk:∀b o,s.heap.get? b=some o->h'.get? b=some o:=λb o e=>(hsb.2 b (iu (58 e))).trans (53 _ e);exact I.nolimit.keeps hk
  .have hk:∀b o,s.heap.get? b=some o->h'.get? b=some o:=λb o e=>(hsb.2 b (iu (58 e))).trans (53 _ e);have hns':h'.Ns 49 λy=>if y=p then some u else none:=by
    have e:(λy=>([(p,u)]:List (Str×Value)).reverse.lookup y)=λy=>if y=p then some u else none:=by
     funext y
     simp only[List.reverse_cons,List.reverse_nil,nil_append,iW,List.lookup_nil];by_cases hy:y=p
     .subst hy;simp
     .have hb':(y==p)=false:=beq_eq_false_iff_ne.mpr hy;simp[hb',hy]
    rw[<- e];exact hns
   have J:=ZK (t':=s.toks+1) (qual:=qual) (f:=f) (cd:=cd) S L I hf hr.hd hk hns' r;refine kla_codeExpr (iX (he s H [] _ _ H Q J h) (λv s' hv=>?_) λ_ _ z=>z.elim);obtain⟨y,H',J',ry,q⟩:=hv;obtain⟨hh,g,d,t,os'⟩:=s';obtain rfl:os'=s.os:=J'.os;exact⟨y,H',I.call (h':=hh) (g':=g) (d':=d) (t':=t) (ch:=[]) J'.base J'.hok J'.bare (λb z=>absurd z 55),ry,q⟩
 .intro res s' hq;cases res with
  |error e=>exact hq
  |ok fl=>
   cases fl with
   |ret u=>exact hq
   |next=>exact hq
   |brk=>exact hq
   |cont=>exact hq
end
def cdF(c:Addr)(q:Str):Heap->Prop:=λh=>h.CodeRec (.ref c) q
def Ge(H:Hp)(q:Str)(pos:Pos)(ps:Array Value):Prop:=ps=#[]∨∃c,ps=#[rawInt pos.line,rawInt pos.col,.ref c]/\H c=some (.ext (cdF c q))
def TabStep(P:Addr)(q:Str)(pos:Pos)(H H':Hp):Prop:=H'=H∨∃c,H c=none/\c≠P/\H'=upd (upd H P (.tbl #[rawInt pos.line,rawInt pos.col,.ref c])) c (.ext (cdF c q))
structure LamAt(X:Cx)(c P:Addr):Prop where
 code:X.env.code=.ref c
 hd:CodeHd X.base c P
 bl:X.base.BuiltinsAt X.mg P
section
def ZJ(I:Inv X pins σ H s)(hP:H P=some (.tbl ps)){h':Heap}{t':Nat}(hx:∀b o,b≠P->s.heap.get? b=some o->h'.get? b=some o)(hc:49<=c')
 (hrec:h'.CodeRec (.ref c') q) (htb:h'.get? P=some (tabObj (ps++ps'))):Inv X pins σ (upd (upd H P (.tbl (ps++ps'))) c' (.ext (cdF c' q))) { s with heap:=h',toks:=t' }:=by
 have hcn:H c'=none:=I.hok.fresh hc;have hPc:P≠c':=AJ hP hcn;have nP:∀b,H b=none->b≠P:=λb n z=>by subst z;rw[hP]at n;cases n
 have other:∀b,b≠P->b≠c'->upd (upd H P (.tbl (ps++ps'))) c' (.ext (cdF c' q)) b=H b:=λb h1 h2=>by rw[upd_ne h2,upd_ne h1]
 have ne':∀b u,H b=some u->b≠c':=λb u e=>AJ e hcn;refine I.un (h':=h') (t':=t') ⟨λb o e n _ _=>hx b o (nP b n) e,λb o e n _ _=>⟨o.slots,hx b o (nP b n) e⟩,λb o e n _=>?_,λb o e _=>?_,λb xs e=>?_,λb o u e=>?_,λb qs e=>?_⟩ λb u e=>?_
 .rw[other b (nP b n) (iu (iZ (Heap.lt_size e) hc))];exact n
 .by_cases z:b=P
  .subst z;exact⟨_,htb⟩
  .exact⟨o,hx b o z e⟩
 .rw[other b (λz=>by subst z;rw[hP]at e;cases e) (ne' b _ e)];exact e
 .rw[other b (λz=>by subst z;rw[hP]at e;cases e) (ne' b _ e)];exact e
 .by_cases z:b=P
  .subst z;rw[hP]at e;cases e;exact⟨ps',by rw[upd_ne hPc,AF]⟩
  .exact⟨#[],by rw[other b z (ne' b _ e),e];simp⟩
 .by_cases z:b=c'
  .subst z;rw[AF]at e;cases e;obtain⟨c0,o,vs,t,e0,r⟩:=id hrec;cases e0;refine⟨hrec,⟨o,r.1⟩,λh1 h2 q1 k=>?_⟩;obtain⟨c1,o1,vs1,t1,e1,g1,r1⟩:=q1;cases e1;exact⟨_,o1,vs1,t1,rfl,k _ g1,r1⟩
  .by_cases z2:b=P
   .subst z2;rw[upd_ne hPc,AF]at e;cases e;exact htb
   .rw[other b z2 z]at e;refine(I.hok b u e).stay (λd v hd q=>hx d v ?_ q) (λd q=>?_) λd xs q=>?_
    .rcases hd with rfl|hd
     .exact z2
     .intro y;subst y;rw[hP]at hd;cases hd
    .rw[other d (λy=>by subst y;rw[hP]at q;cases q) (ne' d _ q)];exact q
    .rw[other d (λy=>by subst y;rw[hP]at q;cases q) (ne' d _ q)];exact q
structure Made(X:Cx)(scope:Scope)(params:Arguments)(body:Expr)(P:Addr)(q:Str)(pos:Pos)(s:Shared)(H H':Hp)(f:Addr)(cd ctv:Value)(s':Shared):Prop where
 fn:s'.heap.get? f=some { cls:=.type "function",data:=.func (kla_fn "<lambda>" q params body scope (AW X.env.cells 116 []) ((X.mg "__name__").getD .none) cd ctv) }
 cdc:∃c,cd=.ref c/\H' c=some (.ext (cdF c q))
 step:TabStep P q pos H H'
 new:49<=f
 fre:H' f=none
def Nd(S:CSc X scope fr ix)(LA:LamAt X c P)(I:Inv X pins σ H s){E:Value->Shared->Prop}{Q:Value->Shared->Prop}(hdef:defaultsOf params X.env=([],[]))
 (hP:H P=some (.tbl ps)) (hg:Ge H (X.env.qual++"<lambda>") pos ps)
 (h:∀f cd ctv H' s',Inv X pins σ H' s'->Made X scope params body P (X.env.qual++"<lambda>") pos s H H' f cd ctv s'->Q (.ref f) s'):
 wpAny 54 A (eval (.Lambda params body scope pos) X.env) Q E s:=by
 have hcl:closureFor scope X.env=pure (AW X.env.cells 116 []):=EQ (S.clos I.ok);have hns:=I.mod.glob.keeps I.bk;have hb:=LA.bl.keeps I.bk;have hcd:=LA.hd.keeps I.bk;have hobj:s.heap.get? P=some (tabObj ps):=I.hok P _ hP;have hgP:mainGlobals≠P:=λz=>by
  obtain⟨o,es,ep,e,hd,_⟩:=hns;rw[z,hobj]at e;cases e;cases hd
 refine kla_eval hdef ?_;rcases hg with rfl|⟨c',rfl,hc'⟩
 .refine kla_makeFunction hcl I.ok.glob hns LA.code hcd hobj trivial rfl hgP hb λc' ctv h' tk hx hge hlt hrec htb=>?_;have hx':∀b o,b≠P->s.heap.get? b=some o->(h'.push (kla_obj "<lambda>" (X.env.qual++"<lambda>") params body scope (AW X.env.cells 116 []) ((X.mg "__name__").getD .none) c' ctv)).get? b=some o:=λb o n e=>53 _ (hx b o n e);have J:=ZJ (t':=tk) I hP hx' hge (hrec.push _) (53 _ htb);refine h _ _ ctv _ _ J ⟨115 _ rfl,⟨c',rfl,AF⟩,.inr ⟨c',I.hok.fresh hge,(AJ hP (I.hok.fresh hge)).symm,?_⟩,?_,?_⟩
  .simp
  .exact iw hge (jj hlt)
  .have hs:49<=h'.objs.size:=iw hge (jj hlt);rw[upd_ne (jF hlt),upd_ne (jF (iZ (Heap.lt_size hobj) hs))];exact I.hok.fresh hs
 .have hrec:s.heap.CodeRec (.ref c') (X.env.qual++"<lambda>"):=(I.hok c' _ hc').1;have hf:codeAmong pos (#[rawInt pos.line,rawInt pos.col,Value.ref c']:Array Value).toList=some (.ref c'):=by simp[codeAmong,rawInt]
  refine kla_makeFunctionHit hcl I.ok.glob hns LA.code hcd hobj (by simp[TriplesOk,rawInt]) hf hb λctv h' tk hk hsz=>?_;have hk':∀b o,s.heap.get? b=some o->(h'.push { cls:=.type "function",data:=.func (kla_fn "<lambda>" (X.env.qual++"<lambda>") params body scope (AW X.env.cells 116 []) ((X.mg "__name__").getD .none) (.ref c') ctv) }).get? b=some o:=λb o e=>53 _ (hk b o e);exact h _ _ ctv _ _ (I.kept (t':=tk) hk') ⟨115 _ rfl,⟨c',rfl,hc'⟩,.inl rfl,hsz,I.hok.fresh hsz⟩
end
end L2
namespace L2
open PySem PySem.Spec PyProof.Rows
section
variable{E:Value->Shared->Prop}{R:Result->Shared->Prop}{h:Heap}{t:Nat}{os:OsState}
variable{hdct:Bool}{sub:List Value}{ab:Bool}
noncomputable abbrev G9(C t:Addr):Obj:={ cls:=.ref C,data:=.fields #[.ref t,.none,.none,.none,.bool false,.none] }
def ZT{rest:List Value}(hC:h.get? C=some (excClassObj nm q C N bs bm hdct sn sub ab col dd k0 k1 k2 k3 k5 "ValueError.__new__"))(b1:(Value.ref C::bm).contains (.type "ValueError")=true)
 (b2:(Value.ref C::bm).contains (.type "AttributeError")=false) (b3:(Value.ref C::bm).contains (.type "NameError")=false) (hrest:rest.length<=sizeLine)
 (hq:R (.ok (.ret (.ref (h.objs.size+1)))) ⟨(h.push { cls:=.type "tuple",data:=.seq rest.toArray }).push (G9 C h.objs.size),g,d,t,os⟩):
 codeAny 103 A (.builtin "ValueError.__new__" ⟨.ref C::rest,[]⟩) R ⟨h,g,d,t,os⟩:=by
 have F0:=F.excBase_ValueError;have en:=F0.ends;refine codeAny_builtinAt F0.entry (PySem.wpAt_bind ?_);show PySem.wpAt _ _ _ (stack >>= _) _ _ _;refine PySem.wpAt_bind (PySem.wpAt_stack λp0 below0=>PySem.wpAt_of_wpAny ?_)
 wp_walk;refine PySem.wpAt_of_wpAny ?_;rw[F0.owner]
 repeat (first|with_reducible refine wpAny_madeHere_exc F0.canon hC ?_|with_reducible refine jW hC ?_|(with_reducible refine wpAny_isSubtype_exc hC ?_;first|rw[b1]|rw[b2]|rw[b3])|wp_step)
 show R _ _;rw[Heap.size_push];exact hq
def Tg{rest:List Value}{Q:Unit->Shared->Prop}(hC:h.get? C=some (excClassObj nm q C N bs bm hdct sn sub ab col dd k0 k1 k2 k3 k5 "ValueError.__new__"))(b1:bm.contains (.type "ValueError")=true)
 (hq:Q () ⟨h,g,d,t,os⟩):wpAny M A (checkBuiltinCall "ValueError.__new__" ⟨.ref C::rest,[]⟩) Q E ⟨h,g,d,t,os⟩:=
 wpAny_check_new_subU F.excBase_ValueError b1 .base hC hq
def VX{rest:List Value}:Heap.MadeExcOf h ((h.push { cls:=.type "tuple",data:=.seq rest.toArray }).push (G9 C h.objs.size)) (h.objs.size+1) (.ref C) rest:=by
 refine⟨λb o e=>53 _ (53 _ e),Heap.get?_none_of_le (jo _),h.objs.size,?_,Heap.get?_none_of_le (ig _),53 _ (Heap.get?_push_at rfl rfl)⟩;exact Heap.get?_push_at (by rw[Heap.size_push]) rfl
def WC{K:Frag}{fI:Addr}{rest:List Value}{Q:Value->Shared->Prop}(X:K.In h)(hC:h.get? C=some (excClassObj nm q C N bs bm hdct sn sub ab col dd k0 k1 k2 k3 k5 "ValueError.__new__"))(b1:bm.contains (.type "ValueError")=true)
 (b2:bm.contains (.type "AttributeError")=false) (b3:bm.contains (.type "NameError")=false) (hi:findIn K (.ref C) "__init__"=some (some (.ref fI))) (hf:PySem.W.typeIn K (.ref fI)=some (.type "function")) (hrest:rest.length<=sizeLine)
 (hq:wpAny 103 (A.under (.builtin "type.__call__" ⟨.ref C::rest,[]⟩)) (call (.ref fI) (.ref (h.objs.size+1)::rest)) (λr s'=>r=.none/\Q (.ref (h.objs.size+1)) s') E ⟨(h.push { cls:=.type "tuple",data:=.seq rest.toArray }).push (G9 C h.objs.size),g,d,t,os⟩):
 wpAny 103 A (call (.ref C) rest) Q E ⟨h,g,d,t,os⟩:=by
 have f1:=tc_lookup;have f2:=tc_bind (.ref C);have hT:(⟨h,g,d,t,os⟩:Shared).TypeIs (.ref C) "type":=⟨_,hC,rfl⟩
 have c1:(Value.ref C::bm).contains (.type "ValueError")=true:=by rw[jR,b1,Bool.or_true]
 have c2:(Value.ref C::bm).contains (.type "AttributeError")=false:=by rw[jR,b2];rfl
 have c3:(Value.ref C::bm).contains (.type "NameError")=false:=by rw[jR,b3];rfl
 have m0:Heap.MadeExcOf h ((h.push { cls:=.type "tuple",data:=.seq rest.toArray }).push (G9 C h.objs.size)) (h.objs.size+1) (.ref C) rest:=VX;have X1:=X.keeps m0.keeps;have hC1:=m0.keeps _ _ hC;have e1:((h.push { cls:=.type "tuple",data:=.seq rest.toArray }).push (G9 C h.objs.size)).get? (h.objs.size+1)=some { cls:=.ref C,data:=.fields #[.ref h.objs.size,.none,.none,.none,.bool false,.none] }:=Heap.get?_push_at (by rw[Heap.size_push]) rfl;have cc:(Value.ref C::bm).contains (.ref C)=true:=by simp
 refine jq (codeAny_of_tree ?_);show wpAny _ _ (callAny (.ref C) _) _ _ _
 repeat (any_goals (first|assumption|with_reducible refine jW hC ?_|wp_step))
 refine⟨rfl,codeAny_call_builtin_at (Code.quiet_builtin _ (by decide +kernel)) entry_typeCall (wpAny_check_type_call_sub hC ?_)⟩
 repeat (first|with_reducible refine jW hC ?_|with_reducible refine wpAny_madeBy_exc hC ?_|wp_step)
 refine codeAny_call_builtin_code (Code.quiet_builtin _ F.excBase_ValueError.quiet) (Tg hC b1 (ZT hC c1 c2 c3 hrest ?_));show wpAny _ _ _ _ _ _;unfold isInstance
 repeat (first|with_reducible refine jW e1 ?_|(refine wpAny_isSubtype_exc hC1 ?_;rw[cc])|wp_step)
 show wpAny _ _ (typeLookup (.ref C) _) _ _ _;refine PySem.W.Looks.at (PySem.W.looks_findIn X1 hi) (ja (ic (PySem.W.Looks.at (PySem.W.bind_fn X1 _ hf) (ic (iX hq (λr s' hr=>?_) λ_ _ x=>x)))))
 obtain⟨rfl,z⟩:=hr
 wp_walk
 exact z
end
end L2
namespace L2
open PySem PySem.Spec PyProof.Rows
open Builtin Builtin.ObjectAttr
inductive OverV:List Value->Prop
 |base:OverV [.type "ValueError",.type "Exception",.type "BaseException",.type "object"]
 |own {c:Addr} {l:List Value}:OverV l->OverV (.ref c::l)
def OverV.sa(self:Value)(h:OverV l):refuseLoop self "__setattr__" l=pure ():=by
 induction h with
 |base=>exact PySem.F.store_ValueError.passes self
 |own _ ih=>rw[refuseLoop_ref];exact ih
def OverV.has(h:OverV l)(e:[Value.type "ValueError",.type "Exception",.type "BaseException",.type "object"].contains (.type x)=true):l.contains (.type x)=true:=by
 induction h with
 |base=>exact e
 |own _ ih=>rw[jR,ih,Bool.or_true]
def OverV.not(h:OverV l)(e:[Value.type "ValueError",.type "Exception",.type "BaseException",.type "object"].contains (.type x)=false):l.contains (.type x)=false:=by
 induction h with
 |base=>exact e
 |own _ ih=>rw[jR,ih];rfl
structure XC(K:Frag)(C fI:Addr):Prop where
 at_:∃nm q N bs bm sn sub ab col dd k0 k1 k2 k3 k5,K.lookup C=some (excClassObj nm q C N bs bm true sn sub ab col dd k0 k1 k2 k3 k5 "ValueError.__new__")/\OverV bm
 init:findIn K (.ref C) "__init__"=some (some (.ref fI))
 fn:PySem.W.isFn K (.ref fI)=true
 kp:keepIn K (.ref C)=true
 sa:findIn K (.ref C) "__setattr__"=some (some (.builtin "object.__setattr__"))
 ga:findIn K (.ref C) "__getattribute__"=some (some (.builtin "BaseException.__getattribute__"))
 gx:findIn K (.ref C) "__getattr__"=some none
section
variable{E:Value->Shared->Prop}{s:Shared}{K:Frag}{fI x:Addr}
def XC.cls(c:XC K C fI):∃cd,PySem.W.clsIn K C=some cd/\OverV cd.mro/\cd.hasDict=true:=by
 obtain⟨nm,q,N,bs,bm,sn,sub,ab,col,dd,k0,k1,k2,k3,k5,e,o⟩:=c.at_;exact⟨_,by unfold PySem.W.clsIn;rw[e],.own o,rfl⟩
def XR{Q:Unit->Shared->Prop}(X:K.In s.heap)(c:XC K C fI)(hx:s.heap.get? x=some ⟨.ref C,none,.fields vs,sl⟩)(na:findIn K (.ref C) name=some none)
 (h:∀h',h'.get? x=some ⟨.ref C,some 49,.fields vs,sl⟩->h'.Ns1 49 (λy=>if y=name then some v else none)->(∀b o,b≠x->s.heap.get? b=some o->h'.get? b=some o)->Q () { s with heap:=h',toks:=s.toks+2 }):
 wpAny 103 A (setAttr (.ref x) name v) Q E s:=by
 have SF:=PySem.F.store_object;have I:PySem.W.InstAt s.heap x ⟨.ref C,none,.fields vs,sl⟩ C none:=⟨hx,rfl,rfl,True.intro⟩
 obtain⟨cd,hc,ov,hd⟩:=c.cls;have ne:cd.mro.isEmpty=false:=by cases q:cd.mro with|nil=>rw[q]at ov;cases ov|cons _ _=>rfl
 have sub:Looks 103 s.heap (isInstance (.ref x) (.type "object")) true:=
  I.type.andThen (PySem.W.looks_mroIn X (by unfold mroIn;rw[hc,bind_some,ie (by rw[ne];decide),ov.has (by decide +kernel)]))
 have hm:Looks 103 s.heap (mroOf (.ref C)) cd.mro:=(PySem.W.looks_clsIn X hc).andThen .now;refine PySem.W.set_plain X I c.sa (codeAny_call_builtin SF.slot.plain SF.entry (@PySem.W.check_slot 103 _ _ _ "object.__setattr__" "object" "__setattr__" (.ref x) [.str name s.toks,v] [] _ SF.kind SF.split sub (SF.args (.ref x) (.str name s.toks) v) ?_));rw[PySem.W.osa_eq,refuse_eq];refine ic (ic (I.type.here (s:={ s with toks:=s.toks+1 }) (ic (hm.here (s:={ s with toks:=s.toks+1 }) ?_))));rw[ov.sa];refine ik (ic (I.type.here (s:={ s with toks:=s.toks+1 }) (ic ((PySem.W.looks_findIn X na).here (s:={ s with toks:=s.toks+1 }) (ic (ik ?_))))));have hxs:x≠s.heap.objs.size:=iu (58 hx);have hx1:(s.heap.push { cls:=.type "dict",data:=.dict #[] }).get? x=some ⟨.ref C,none,.fields vs,sl⟩:=53 _ hx;refine ic (ik (ic (ic (wpAny_loadPart hx (ic (PySem.W.Looks.here (s:={ s with toks:=s.toks+1 }) (PySem.W.looks_clsIn X hc) ?_))))));rw[hd];show wpAny _ _ (do let d <- alloc { cls:=.type "dict",data:=.dict #[] };update x λo=>{ cls:=o.cls,dict:=some d,data:=o.data,slots:=o.slots };dictMade (.ref C) x d) _ _ _;refine ic (wpAny_alloc' (ic (wpAny_update' hx1 ?_)));generalize hh:((s.heap.push { cls:=.type "dict",data:=.dict #[] }).update x λo=>{ cls:=o.cls,dict:=some 49,data:=o.data,slots:=o.slots })=h2;have g1:h2.get? 49=some { cls:=.type "dict",data:=.dict #[] }:=by rw[<- hh];exact(Heap.get?_update_ne _ _ _ _ hxs.symm).trans (Heap.get?_push_at rfl rfl)
 have g2:h2.get? x=some ⟨.ref C,some 49,.fields vs,sl⟩:=by rw[<- hh];exact Heap.get?_update_self _ hx1 rfl
 have g3:∀b o,b≠x->s.heap.get? b=some o->h2.get? b=some o:=λb o n e=>by rw[<- hh];exact(Heap.get?_update_ne _ _ _ _ n).trans (53 _ e)
 have hnd:h2.Ns 49 (λ_=>none):=⟨_,#[],_,g1,rfl,λe he=>absurd he 55,λ_=>rfl⟩
 refine ik ?_;show wpAny _ _ (storeInDict 49 (.str name s.toks) name v) _ _ _;unfold storeInDict newKeyGuard;refine ic (ik (ic (wpAny_nsSet1 (Heap.Ns1.of_empty hnd) λh' hn' hs=>?_)));obtain⟨oD,esD,epD,hoD,hdD,hcD⟩:=hn'.count (Within.cons name v Within.nil);refine ic (wpAny_lookBehind hoD (by rw[hdD];exact pastItsLine_dict (iw hcD (by rw[j8,jm,jx];omega))) ?_);exact ik (h h' ((hs.2 x hxs).trans g2) hn' λb o n e=>(hs.2 b (iu (58 e))).trans (g3 b o n e))
end
section
variable{E:Value->Shared->Prop}{s:Shared}{K:Frag}{fI x:Addr}{mA:Str->Option Value}
def ZR{expr:Bool}{Q:Value->Shared->Prop}(X:K.In s.heap)(c:XC K C fI)(hx:s.heap.get? x=some ⟨.ref C,some dx,.fields vs,sl⟩)(hn:s.heap.Ns1 dx mA)(na:findIn K (.ref C) name=some none)(hv:mA name=some v)
 (hh:PySem.W.handedIn v=true) (h:Q v { s with toks:=s.toks+1 }):wpAny 103 A (getAttr (.ref x) name expr) Q E s:=by
 obtain⟨od,ho,hl⟩:=LR hn;obtain⟨hp,g,d,t,os⟩:=s;have I:PySem.W.InstAt hp x ⟨.ref C,some dx,.fields vs,sl⟩ C (some od):=⟨hx,rfl,rfl,ho⟩
 obtain⟨cd,hc,ov,hd⟩:=c.cls;have hhd:PySem.W.hasDictIn K C=true:=by unfold PySem.W.hasDictIn;rw[hc];exact hd
 have L0:Looks 103 hp (typeOf (.ref x)) (.ref C):=I.type;have L1:Looks 103 hp (find (.ref x) (.ref C) name) (.value v):=PySem.W.looks_find X I (PySem.W.findObj_own hhd na rfl (by rw[hl,hv]));have L2:Looks 103 hp (typeLookup (.ref C) "__getattribute__") (some (.builtin "BaseException.__getattribute__")):=PySem.W.looks_findIn X c.ga;have L3:Looks 103 hp (hookBefore (.ref C)) none:=PySem.W.looks_hook X c.gx;have ne:cd.mro.isEmpty=false:=by cases q:cd.mro with|nil=>rw[q]at ov;cases ov|cons _ _=>rfl
 have sub:Looks 103 hp (isInstance (.ref x) (.type "BaseException")) true:=
  I.type.andThen (PySem.W.looks_mroIn X (by unfold mroIn;rw[hc,bind_some,ie (by rw[ne];decide),ov.has (by decide +kernel)]))
 have hx2:(Value.builtin "BaseException.__getattribute__"==Value.builtin "object.__getattribute__")=false:=by decide +kernel
 have hx1:(onTheHeap (Value.ref C)&&Value.builtin "BaseException.__getattribute__"==Value.builtin "object.__getattribute__")=false:=by rw[hx2];rfl
 unfold getAttr getAttrBy;refine ic (wpAny_mkText (ja (ic (L0.at (ic (L2.at ?_))))));dsimp only;rw[ie (by rw[hx1];exact 110)];unfold getAttrByItsOwn;refine ic (L3.at (ic (wpAny_attempt (ja ?_))));have hx0:(expr&&onTheHeap (Value.builtin "BaseException.__getattribute__"))=false:=by cases expr<;>rfl
 have FB:=F.attrBase_ValueError;have hk:builtinKind "BaseException.__getattribute__"=some .slot:=by decide +kernel
 have hs:splitId "BaseException.__getattribute__"=some ("BaseException","__getattribute__"):=by decide +kernel
 unfold callGetattribute boundAndCalled;rw[ie (by rw[hx0];exact 110),FB.ga.bind];refine ic (ik (jq (codeAny_call_builtin FB.ga.plain F.entry_bexc_ga (@PySem.W.check_slot 103 _ _ _ "BaseException.__getattribute__" "BaseException" "__getattribute__" (.ref x) [.str name t] [] _ hk hs sub (F.args_bexc_ga _ _) ?_))));refine ic (ik (ic (ik (ic (L0.at (ic (L1.at ?_)))))));refine ik ?_;show wpAny _ _ (handedOut v) _ _ _;rw[PySem.W.handedOut_of hh];exact ik h
def SY{Q:Flow->Shared->Prop}(hh:A.handled=none)(c:XC K C fI)
 (h:wpAny M A (eval xe env) (λv s1=>∃e t dx sl,v=.ref e/\K.In s1.heap/\s1.heap.get? e=some ⟨.ref C,dx,.fields #[.ref t,.none,.none,.none,.bool false,.none],sl⟩/\E (.ref e) s1) E s):
 wpAny M A (exec (.Raise (some xe) none pos) env) Q E s:=by
 obtain⟨nm,q,N,bs,bm,sn,sub,ab,col,dd,k0,k1,k2,k3,k5,lk,ov⟩:=c.at_;have cb:(Value.ref C::bm).contains (.type "BaseException")=true:=(OverV.own ov).has (by decide +kernel);rw[arm_exec_Raise];refine ic (jw ?_);show wpAny _ _ (raiseStmt env (some (do let v <- eval xe env;standAt pos;pure v)) none) _ _ _;unfold raiseStmt;refine ic (ic (iX h (λv s1 h1=>?_) λ_ _ z=>z));obtain⟨e,t,dx,sl,rfl,X,he,hE⟩:=h1;have hC:=X _ _ lk;refine ic (jw (ik ?_));obtain⟨hp,g,d,tk,os⟩:=s1
 repeat (first|with_reducible refine jW he ?_|with_reducible refine jW hC ?_|(with_reducible refine wpAny_isSubtype_exc hC ?_;rw[cb])|wp_step)
 exact wpAny_raiseNew_none hh hE
end
end L2
namespace L2
open PySem PySem.Spec PyProof.Rows
def Exo(h:Heap)(a C:Addr)(dx:Option Addr)(tb:Value):Prop:=∃vs sl,h.get? a=some ⟨.ref C,dx,.fields vs,sl⟩/\vs[1]?=some tb
structure Note(fs:List Addr)(a:Addr)(tb:Value)(h h':Heap):Prop where
 keep:∀b o,h.get? b=some o->b≠a->.ref b≠tb->b∉fs->h'.get? b=some o
 slot:∀b o,h.get? b=some o->b∈fs->∃sl,h'.get? b=some { o with slots:=sl }
 there:∀b o,h.get? b=some o->∃o',h'.get? b=some o'
end L2
namespace L2
open PySem PySem.Spec PyProof.Rows
open Builtin Builtin.ObjectAttr
section
variable{E:Value->Shared->Prop}{s:Shared}{K:Frag}{fI:Addr}{mA:Str->Option Value}
structure XI(K:Frag)(C:Addr):Prop where
 ca:findIn K (.ref C) "__class__"=some (some (.builtin "object.__class__"))
 gd:PySem.W.specialIn K (.builtin "object.__class__") "__get__"=some (some (.builtin "getset_descriptor.__get__"))
 tk:PySem.W.takesIn K (.builtin "object.__class__")=some true
 mo:mroIn K C (.type "object")=some true
def TD(hc:(PySem.W.clsIn K C).isSome=true)(ha:findIn K (.ref C) name=some (some a))(hg:PySem.W.specialIn K a "__get__"=some (some g))(ht:PySem.W.takesIn K a=some true):PySem.W.findObj K C od name=some (.bind g a):=by
 obtain⟨cd,hc⟩:=isSome_iff_exists.mp hc;unfold PySem.W.findObj;rw[hc,bind_some,ha,bind_some];simp[hg,ht]
def Te{Q:Option Value->Shared->Prop}(X:K.In s.heap)(c:XC K C fI)(i:XI K C)(I:PySem.W.InstAt s.heap x ⟨.ref C,dx,.fields vs,sl⟩ C od)
 (h:Q (some (.ref C)) { s with toks:=s.toks+1 }):wpAny 103 A (getAttr? (.ref x) "__class__") Q E s:=by
 obtain⟨hp,g,d,t,os⟩:=s;obtain⟨cd,hc,ov,hd⟩:=c.cls;have L0:Looks 103 hp (typeOf (.ref x)) (.ref C):=I.type;have L1:Looks 103 hp (find (.ref x) (.ref C) "__class__") (.bind (.builtin "getset_descriptor.__get__") (.builtin "object.__class__")):=
  PySem.W.looks_find X I (TD (by rw[hc];rfl) i.ca i.gd i.tk)
 have L2:Looks 103 hp (typeLookup (.ref C) "__getattribute__") (some (.builtin "BaseException.__getattribute__")):=PySem.W.looks_findIn X c.ga;have L3:Looks 103 hp (hookBefore (.ref C)) none:=PySem.W.looks_hook X c.gx;have ne:cd.mro.isEmpty=false:=by cases q:cd.mro with|nil=>rw[q]at ov;cases ov|cons _ _=>rfl
 have sub:Looks 103 hp (isInstance (.ref x) (.type "BaseException")) true:=
  I.type.andThen (PySem.W.looks_mroIn X (by unfold mroIn;rw[hc,bind_some,ie (by rw[ne];decide),ov.has (by decide +kernel)]))
 have hx2:(Value.builtin "BaseException.__getattribute__"==Value.builtin "object.__getattribute__")=false:=by decide +kernel
 have hx1:(onTheHeap (Value.ref C)&&Value.builtin "BaseException.__getattribute__"==Value.builtin "object.__getattribute__")=false:=by rw[hx2];rfl
 have FB:=F.attrBase_ValueError;have hk:builtinKind "BaseException.__getattribute__"=some .slot:=by decide +kernel
 have hs:splitId "BaseException.__getattribute__"=some ("BaseException","__getattribute__"):=by decide +kernel
 unfold getAttr? getAttrBy? getAttrBy;refine ic (wpAny_mkText (ic (wpAny_attempt (ja (ic (L0.at (ic (L2.at ?_))))))));dsimp only;rw[ie (by rw[hx1];exact 110)];unfold getAttrByItsOwn;refine ic (L3.at (ic (wpAny_attempt (ja ?_))));unfold callGetattribute boundAndCalled;rw[ie (by exact Bool.false_ne_true),FB.ga.bind];refine ic (ik (jq (codeAny_call_builtin FB.ga.plain F.entry_bexc_ga (@PySem.W.check_slot 103 _ _ _ "BaseException.__getattribute__" "BaseException" "__getattribute__" (.ref x) [.str "__class__" t] [] _ hk hs sub (F.args_bexc_ga _ _) ?_))));refine ic (ik (ic (ik (ic (L0.at (ic (L1.at ?_)))))));show wpAny _ _ (bindTo _ _ _ _) _ _ _;unfold bindTo;refine ic (ja (jq (PySem.W.class_get (s:=⟨hp,g,d,t+1,os⟩) (od:=od) X I i.mo ?_)));refine ik ?_;show wpAny _ _ (handedOut (.ref C)) _ _ _;rw[PySem.W.handedOut_of rfl];exact ik (ik h)
def Nf(c:XC K C fI)(i:XI K C):PySem.W.KitX K (.ref x) (.ref C) (λh=>∃dx vs sl od,PySem.W.InstAt h x ⟨.ref C,dx,.fields vs,sl⟩ C od) where
 ty:=λ_ _ _ ⟨_,_,_,_,I⟩=>I.type
 it:=λ_ _ X _=>by
  obtain⟨nm,q,N,bs,bm,sn,sub,ab,col,dd,k0,k1,k2,k3,k5,lk,ov⟩:=c.at_;intro A' Q' E' s' k q';unfold isType loadHead;exact ic (wpAny_loadPart (k _ _ (X _ _ lk)) (ik q'))
 ne:=λh tp dd its n sl X htp=>by
  obtain⟨nm,q,N,bs,bm,sn,sub,ab,col,dd',k0,k1,k2,k3,k5,lk,ov⟩:=c.at_;refine Bool.eq_false_iff.mpr λq'=>?_;have e:C=tp:=Value.ref.inj (beq_iff_eq.mp q');subst e;have z:=(X _ _ lk).symm.trans htp;exact absurd (j7 Obj.data (111 z)) (by intro q;cases q)
 ca:=λX ⟨_,_,_,_,I⟩ k=>Te X c i I k
end
def X0(a C t:Addr)(h:Heap):Prop:=h.get? a=some (G9 C t)
def X1(a C dx t:Addr)(h:Heap):Prop:=h.get? a=some ⟨.ref C,some dx,.fields #[.ref t,.none,.none,.none,.bool false,.none],#[]⟩
def XO(a C:Addr)(dx:Option Addr)(h:Heap):Prop:=∃tb,Exo h a C dx tb
def XdAt(H:Hp):Option Addr->List (Str×V)->Prop
 |none,fs=>fs=[]
 |some d,fs=>H d=some (.xd fs)
def New(X:Cx)(pins:List (Addr×Obj))(b:Addr):Prop:=(b∈X.ex∨X.s₀.heap.objs.size<=b)/\b≠X.env.locals/\(∀x c,X.env.cells.lookup x=some c->c≠b)/\∀p∈X.pn++pins,p.1≠b
def Inv.new(I:Inv X pins σ H s)(h:49<=b):New X pins b:=by
 refine⟨.inr (iw I.sz h),jF (iZ I.lt h),λx c e=>?_,λp hp=>?_⟩
 .obtain⟨v,o,ho,_⟩:=I.cell x c e;exact iu (iZ (58 ho) h)
 .exact iu (iZ (58 (I.pin p hp).1) h)
section
def NV{fs:List Addr}{T:Addr}(hok:HOk P w H h)(N:Note fs a tb h h')(hx:Exo h' a C dx (.ref T))(ha:H a=some (.ext (XO a C dx)))(hT:∀T,tb=.ref T->H T=none)(hf:∀b∈fs,H b=none):HOk P w H h':=by
 have k:∀b o u,H b=some o->b≠a->h.get? b=some u->h'.get? b=some u:=λb o u q n e=>N.keep b u e n (λz=>by rw[hT b z.symm]at q;cases q) λz=>by rw[hf b z]at q;cases q
 intro b o q;by_cases n:b=a
 .subst n;rw[ha]at q;cases q;obtain⟨vs,sl,e1,e2⟩:=id hx;refine⟨⟨_,hx⟩,⟨_,e1⟩,λh1 h2 ⟨tb,vs,sl,e,z⟩ k=>⟨tb,vs,sl,k _ e,z⟩⟩
 .refine(hok b o q).stay (λc u hc e=>?_) (λ_ z=>z) λ_ _ z=>z;rcases hc with rfl|hc
  .exact k c o u q n e
  .exact k c _ u hc (λz=>by subst z;rw[ha]at hc;cases hc) e
end
end L2
namespace L2
open PySem PySem.Spec PyProof.Rows
def XdAt.grow{fs:List (Str×V)}(g:Grow H H')(h:XdAt H dx fs):XdAt H' dx fs:=by
 cases dx with
 |none=>exact h
 |some d=>exact g.keep _ _ trivial h
def ExR(K:Frag)(nm:Str)(fs:List Str)(H:Hp)(a:Addr)(xs:List V):Prop:=∃C dx,clsAt K nm=some C/\H a=some (.ext (XO a C dx))/\XdAt H dx (fs.zip xs)/\105=fs.length
theorem ExR.grow{K:Frag}{fs:List Str}(g:Grow H H')(h:ExR K nm fs H a xs):ExR K nm fs H' a xs:=
 let ⟨C,dx,h1,h2,h3,h4⟩:=h;⟨C,dx,h1,g.keep _ _ trivial h2,h3.grow g,h4⟩
end L2
namespace L2
open PySem PySem.Spec PyProof.Rows PySem.W
structure CapOk(q:Str)(params:Arguments)(scope:Scope)(body:Expr)(p1 p2 x:Str):Prop where
 ne:p1≠p2
 n1:p1≠x
 n2:p2≠x
 l1:LSc scope p1
 l2:LSc scope p2
 lx:scope.names.lookup x=some .free
 only:(scope.names.all λy=>y.2 != .free||y.1==x)=true
 kind:scope.kind=.function
 d1:(p1==("__debug__":Str))=false
 d2:(p1==("__classdict__":Str))=false
 d3:(x==("__debug__":Str))=false
 d4:(x==("__classdict__":Str))=false
 bind:∀(cl:List (Str×Addr)) (pm cd ctv u v:Value),bindArgs (kla_fn "<lambda>" q params body scope cl pm cd ctv) ⟨[u,v],[]⟩=pure [(p1,u),(p2,v)]
def fnG(f c:Addr)(q:Str)(cl:Addr):Heap->Prop:=λh=>∃params scope p1 p2 x px pp pos pm ctv,h.get? f=some { cls:=.type "function",data:=.func (kla_fn "<lambda>" q params (.Subscript (.Name x px) (.Name p1 pp) pos) scope [(x,cl)] pm (.ref c) ctv) }/\CapOk q params scope (.Subscript (.Name x px) (.Name p1 pp) pos) p1 p2 x
def KF(o:Obj)(a0:Addr):Prop:=o.data=.cell (some (.ref a0))
noncomputable abbrev FY:HO:=.ext λ_=>True
def FvR(k:Nat)(H:Hp)(a:Addr)(xs:List V):Prop:=k=1/\∃c q cl a0 o1 o2,H a=some (.ext (fnG a c q cl))/\H c=some (.ext (cdF c q))/\KF o1 a0/\H cl=some (.frz o1 FY)/\H a0=some (.frz o2 (.lst xs))
def FvR.grow{k:Nat}(g:Grow H H')(h:FvR k H a xs):FvR k H' a xs:=by
 obtain⟨h1,c,q,cl,a0,o1,o2,h2,h3,h4,h5,h6⟩:=h;exact⟨h1,c,q,cl,a0,o1,o2,g.keep _ _ trivial h2,g.keep _ _ trivial h3,h4,g.keep _ _ trivial h5,g.keep _ _ trivial h6⟩
noncomputable def del(H:Hp)(c:Addr):Hp:=λb=>if b=c then none else H b
def EH(h:b≠c):del H c b=H b:=ie h
def JM:del H c c=none:=ia rfl
def FC(h:H b=none):del H c b=none:=by unfold del;split<;>first|rfl|exact h
def JL(h:del H c b=some o):b≠c/\H b=some o:=by
 unfold del at h;split at h
 .cases h
 .next n=>exact⟨n,h⟩
theorem HOk.del(k:HOk P w H h)(e:H c=some (.frz o u)):HOk P w (del H c) h:=λa ho q=>by
 obtain⟨n,q⟩:=JL q;refine(k a ho q).stay (λ_ _ _ z=>z) (λb z=>?_) λb xs z=>?_
 .rw[EH λy=>by subst y;rw[e]at z;cases z];exact z
 .rw[EH λy=>by subst y;rw[e]at z;cases z];exact z
def HOk.undel(k:HOk P w (L2.del H c) h)(e:H c=some (.frz o FY))(g:h.get? c=some o):HOk P w H h:=λa ho q=>by
 by_cases n:a=c
 .subst n;rw[e]at q;cases q;exact⟨g,trivial,⟨_,g⟩,λ_ _ _ _=>trivial⟩
 .exact(k a ho (by rw[EH n];exact q)).stay (λ_ _ _ z=>z) (λb z=>(JL z).2) λb xs z=>(JL z).2
section
def ZL(S:CapOk q params scope body p1 p2 xn)(I:Inv X pins σ H s)(hl:H cl=some (.frz o1 FY))(hc:KF o1 a0){A:Around}(hf:A.frames=X.A.frames)(hh:A.handled=none){h':Heap}{t':Nat}
 (hk:∀b o,s.heap.get? b=some o->h'.get? b=some o) (hn:h'.Ns 49 λz=>([(p1,u),(p2,v)]:List (Str×Value)).reverse.lookup z) (r:RelV x u) (r2:RelV y v):
 Inv (lCx X A [p1,p2,xn] qual scope f cd [(xn,cl)] s (del H cl)) [] [some x,some y,some (.ref a0)] (del H cl) { s with heap:=h',toks:=t' }:=by
 have gc:s.heap.get? cl=some o1:=(I.hok cl _ hl).1;have only:∀z c,([(xn,cl)]:List (Str×Addr)).lookup z=some c->z=xn/\c=cl:=λz c e=>by
  rw[iW]at e;split at e
  .next h=>cases e;exact⟨eq_of_beq h,rfl⟩
  .cases e
 refine⟨⟨I.ok.mod,S.kind,rfl,rfl,ig _,?_,?_,?_,λ_=>hh,Around.frames_deeper (hf.trans I.ok.frames),.inr ⟨rfl,rfl⟩,?_,λb o e=>⟨(I.bs b o e).1,FC (I.bs b o e).2⟩,iw I.ok.bsz I.sz,?_,?_,I.stack,λb hb=>FC (I.stkFree b hb)⟩,rfl,I.bare,Un.kept hk,⟨_,hn,?_⟩,?_,FC (I.hok.fresh (ig _)),?_,?_,(I.hok.del hl).kept hk,?_⟩
 .intro x y c e1 e2;exact(only x c e1).1.trans (only y c e2).1.symm
 .intro x hx;rcases hx with e|e
  .exact absurd rfl (S.l1.ne (x,.cell) (PySem.mem_of_lookup e))
  .have:=all_eq_true.mp S.only _ (PySem.mem_of_lookup e);have hx:x=xn:=by simpa using this
   subst hx;exact⟨cl,by simp[lCx,envX]⟩
 .intro x c hf;cases hf
 .intro b hb;cases hb
 .intro b o e hb;cases hb
 .intro b hb;cases hb
 .intro i z w e1 e2 e3
  match i,e1,e2 with
  |0,e1,e2=>
   have e1:some p1=some z:=e1;have e2:some (some x)=some (some w):=e2;cases e1;cases e2;refine⟨u,r,.inl ⟨S.l1.par,?_⟩⟩;have hb:(p1==p2)=false:=beq_eq_false_iff_ne.mpr S.ne;simp[iW,hb]
  |1,e1,e2=>
   have e1:some p2=some z:=e1;have e2:some (some y)=some (some w):=e2;cases e1;cases e2;exact⟨v,r2,.inl ⟨S.l2.par,by simp[iW]⟩⟩
  |2,e1,e2=>
   have e1:some xn=some z:=e1;have e2:some (some (V.ref a0))=some (some w):=e2;cases e1;cases e2;exact⟨.ref a0,rfl,.inr ⟨.inr S.lx,cl,by simp[lCx,envX],o1,hk _ _ gc,hc⟩⟩
  |i+3,e1,e2=>cases e1
 .intro x c e;obtain⟨_,rfl⟩:=only x c e;exact⟨_,o1,hk _ _ gc,hc⟩
 .intro x c e;obtain⟨_,rfl⟩:=only x c e;exact JM
 .intro p hp;cases hp
 .rfl
def W9(I:Inv X pins σ H s){A:Around}(hf:A.frames=X.A.frames)(hr:Room 1 A){j:Int}(ho:H f=some (.ext (fnG f c q cl)))(hc:H c=some (.ext (cdF c q)))(h1:KF o1 a0)(hl:H cl=some (.frz o1 FY))(ha:H a0=some (.frz o2 (.lst xs)))(rx:RelV (.int j) u)(ry:RelV y v)(hz:atI xs j=some z)(h:Q z H):
 wpAny 54 A (call (.ref f) [u,v]) (EP X pins σ Q) (λ_ _=>False) s:=by
 obtain⟨params,scope,p1,p2,xn,px,pp,pos,pm,ctv,ho',S⟩:=(I.hok f _ ho).1;have gc:s.heap.get? cl=some o1:=(I.hok cl _ hl).1;have hcd:s.heap.CodeRec (.ref c) q:=(I.hok c _ hc).1;have he:∀(s:Shared) (H:Hp),PE (lCx X A [p1,p2,xn] q scope f (.ref c) [(xn,cl)] s H) (.Subscript (.Name xn px) (.Name p1 pp) pos) (tOp (Iw X.K) (Me 2) (Me 0)):=λs H=>QX P3 (Gz rfl (.inr (.inr S.lx)) S.d3 S.d4) (Gz rfl (.inl S.l1.par) S.d1 S.d2) λ_ _=>rfl;have nac:a0≠cl:=λe=>by subst e;rw[hl]at ha;cases ha
 refine jq (jy (R:=λres s'=>match res with|.ok (.ret u)=>EP X pins σ Q u s'|_=>False) (kla_callFunE hr.depth ho' rfl S.l1.co S.l1.gen rfl hcd ?_) ?_)
 .rw[S.bind];refine ik ?_;refine wpAny_newFunctionEnv S.l1.ne (λy hy=>?_) (λh' hns hsb=>⟨?_,?_⟩) S.kind
  .rcases mem_cons.mp hy with rfl|hy
   .exact S.l1.par
   .rw[iU]at hy;subst hy;exact S.l2.par
  .have hk:∀b o,s.heap.get? b=some o->h'.get? b=some o:=λb o e=>(hsb.2 b (iu (58 e))).trans (53 _ e);exact I.nolimit.keeps hk
  .have hk:∀b o,s.heap.get? b=some o->h'.get? b=some o:=λb o e=>(hsb.2 b (iu (58 e))).trans (53 _ e);have J:=ZL (t':=s.toks+[(p1,u),(p2,v)].length) (qual:=q) (f:=f) (cd:=.ref c) S I hl h1 hf hr.hd hk hns rx ry;refine kla_codeExpr (iX (he s (del H cl) [] _ [some (.int j),some y,some (.ref a0)] (del H cl) (λw H'=>H'=del H cl/\w=z) J ⟨.ref a0,rfl,.int j,rfl,a0,xs,j,z,rfl,rfl,.inl (.inr ⟨o2,by rw[EH nac];exact ha⟩),hz,rfl,rfl⟩) (λv s' hv=>?_) λ_ _ z=>z.elim);obtain⟨y,H',J',ry,rfl,rfl⟩:=hv;obtain⟨hh,g,d,t,os'⟩:=s';obtain rfl:os'=s.os:=J'.os;have nfr:cl∉frs X.stack:=λm=>by have:=I.stkFree cl m;rw[hl]at this;cases this
   have gc':hh.get? cl=some o1:=J'.base.keep cl o1 gc JM nfr (by intro m;cases m);have un:Un (frs X.stack) [] H H s.heap hh:=⟨λb o e n m1 m2=>J'.base.keep b o e (FC n) m1 m2,λb o e n m1 m2=>J'.base.slot b o e (FC n) m1 m2,λb o e n _=>n,λb o e m=>J'.base.there b o e m,λ_ _ q=>q,λ_ _ _ q=>q,λb ps q=>⟨#[],by rw[q];simp⟩⟩
   exact⟨_,H,I.call (h':=hh) (g':=g) (d':=d) (t':=t) (ch:=[]) un (J'.hok.undel hl gc') J'.bare (λb z=>absurd z 55),ry,h⟩
 .intro res s' hq;cases res with
  |error e=>exact hq
  |ok fl=>
   cases fl with
   |ret u=>exact hq
   |next=>exact hq
   |brk=>exact hq
   |cont=>exact hq
end
end L2
namespace L2
open PySem PySem.Spec PyProof.Rows
inductive I where
 |non|bl (b:Bool)|int (i:Int)|str (x:Str)|tup (ds:List I)
inductive D where
 |im (i:I)|mu (n:Nat)|tm (ds:List D)|ro (ns:List Int)|op (nm:Str) (fs:List Str) (ds:List D)|fv (k:Nat) (ds:List D)
inductive MO where
 |lst (ds:List D)|dic (kvs:List (Key×D))
noncomputable abbrev Hd:=List MO
noncomputable abbrev Ls:=List (Option D)
def RoL(K:Frag)(H:Hp)(a:Addr)(xs:List V):Prop:=(∃o,H a=some (.frz o (.lst xs))) ∨
 ∃(o:Obj) (its:Array Value) (n:Nat),K.lookup a=some o/\o.cls=.type "list"/\o.dict=none/\o.data=.seq its n/\its.size<=sizeLine/\Vals xs its.toList
def RoL.sq{K:Frag}(h:RoL K H a xs):SqL K H a xs:=by
 rcases h with⟨o,h⟩|h
 .exact .inl (.inr ⟨o,h⟩)
 .exact .inr h
def RoL.grow{K:Frag}(g:Grow H H')(h:RoL K H a xs):RoL K H' a xs:=by
 rcases h with⟨o,h⟩|h
 .exact .inl ⟨o,g.frz _ _ _ h⟩
 .exact .inr h
def Bg(n:Nat):Prop:=n<=sizeLine
def Ck(n:Nat):Prop:=n<sizeLine
def Ht(i j:Int):Prop:=(-(2^64)<i/\i<2^64)∨(-(2^64)<j/\j<2^64)
def QQ(i j:Int):Prop:=0<=j/\j<=1000000/\i.natAbs<2^64
def MH(j:Int):Prop:=0<j/\j<1073741824
def EU(j:Int):Prop:=0<j
def GI(j:Int):Prop:=-(2^62)<=j/\j<2^62
def iK(i j:Int):Prop:=(-(2^62)<=i/\i<2^62)/\-(2^62)<=j/\j<2^62
def Hm(j:Int):Prop:=j<2^24/\-(2^62)<=j
def WY(i j:Int):Prop:=(-(2^62)<=i/\i<2^62)/\(-(2^62)<=j/\j<2^62)/\(j-i).toNat<=2^24
def fc(n:Nat):Prop:=n<1920
def AL{n:Nat}(h:n<=1000000):Bg n:=iw h (by rw[jx];decide)
def BI{n:Nat}(h:n<1000000):Ck n:=iZ h (by rw[jx];decide)
def Fj{i j:Int}(a:-1000000000000<=i)(b:i<=1000000000000):Ht i j:=.inl ⟨by omega,by omega⟩
def Hr{i j:Int}(a:-1000000000000<=j)(b:j<=1000000000000):Ht i j:=.inr ⟨by omega,by omega⟩
def Ff{j:Int}(a:-1000000000000<=j)(b:j<=1000000000000):GI j:=⟨by omega,by omega⟩
def Io{j:Int}(a:-1000000000000<=j)(b:j<=1000000):Hm j:=⟨by omega,by omega⟩
section
variable(K:Frag)
mutual
def RI(H:Hp):I->V->Prop
 |.non,v=>v=.non
 |.bl b,v=>v=.bl b
 |.int i,v=>v=.int i
 |.str x,v=>v=.str x
 |.tup ds,v=>∃a xs,v=.ref a/\SqT K H a xs/\RIs H ds xs
def RIs(H:Hp):List I->List V->Prop
 |[],xs=>xs=[]
 |d::ds,xs=>∃x r,xs=x::r/\RI H d x/\RIs H ds r
end
mutual
def RD(ρ:List Addr)(H:Hp):D->V->Prop
 |.im i,v=>RI K H i v
 |.mu n,v=>∃a,ρ[n]?=some a/\v=.ref a
 |.tm ds,v=>∃a xs,v=.ref a/\SqT K H a xs/\RDs ρ H ds xs
 |.ro ns,v=>∃a,v=.ref a/\RoL K H a (ns.map V.int)
 |.op nm fs ds,v=>∃a xs,v=.ref a/\ExR K nm fs H a xs/\RDs ρ H ds xs
 |.fv k ds,v=>∃a xs,v=.ref a/\FvR k H a xs/\RDs ρ H ds xs
def RDs(ρ:List Addr)(H:Hp):List D->List V->Prop
 |[],xs=>xs=[]
 |d::ds,xs=>∃x r,xs=x::r/\RD ρ H d x/\RDs ρ H ds r
end
def RKs(ρ:List Addr)(H:Hp):List (Key×D)->List (Key×V)->Prop
 |[],xs=>xs=[]
 |d::ds,xs=>∃x r,xs=x::r/\x.1=d.1/\RD K ρ H d.2 x.2/\RKs ρ H ds r
def RC(ρ:List Addr)(H:Hp):MO->HO->Prop
 |.lst ds,o=>∃xs,o=.lst xs/\RDs K ρ H ds xs
 |.dic kvs,o=>∃kv,o=.dK kv/\RKs K ρ H kvs kv
noncomputable def M3:List Value->List (Addr×Str×Pos)
 |.ref P::.str q _::.int l _::.int c _::r=>(P,q,⟨l.toNat,c.toNat,0,0⟩)::M3 r
 |_=>[]
noncomputable def dq(o:Obj):List (Addr×Str×Pos):=match o.cls,o.data with
 |.str _ _,.fields vs=>M3 vs.toList
 |_,_=>[]
noncomputable def CZ(K:Frag):List (Addr×Str×Pos):=match K.getLast? with
 |some p=>dq p.2
 |none=>[]
def TabsOk(K:Frag)(H:Hp):Prop:=∀x∈CZ K,∃ps,H x.1=some (.tbl ps)/\Ge H x.2.1 x.2.2 ps
structure RH(ρ:List Addr)(H:Hp)(hd:Hd):Prop where
 len:ρ.length=hd.length
 nd:ρ.Nodup
 tabs:TabsOk K H
 ob:∀(n:Nat) (o:MO) (a:Addr),hd[n]?=some o->ρ[n]?=some a->∃ho,H a=some ho/\RC K ρ H o ho
structure RL(ρ:List Addr)(H:Hp)(ls:Ls)(σ:St):Prop where
 len:ls.length=σ.length
 ob:∀(i:Nat) (d:D),ls[i]?=some (some d)->∃v,σ[i]?=some (some v)/\RD K ρ H d v
end
structure Ext(ρ:List Addr)(H:Hp)(ρ':List Addr)(H':Hp):Prop where
 pre:∃r,ρ'=ρ++r/\∀b∈r,H b=none
 keep:∀b o,H b=some o->b∉ρ->(∀ps,o≠.tbl ps)->H' b=some o
 tab:∀b ps,H b=some (.tbl ps)->∃ps',H' b=some (.tbl ps')
def nt{o:HO}(h:match o with|.tbl _=>False|_=>True:=by trivial):∀ps,o≠.tbl ps:=λps e=>by subst e;exact h
theorem TabsOk.upd{K:Frag}(t:TabsOk K H)(h1:∀ps,H a≠some (.tbl ps))(h2:∀φ,H a≠some (.ext φ)):TabsOk K (upd H a ho):=λx hx=>by
 obtain⟨ps,e,g⟩:=t x hx;have ne:x.1≠a:=λz=>h1 ps (by rw[<- z];exact e);refine⟨ps,by rw[upd_ne ne];exact e,?_⟩;rcases g with g|⟨c,g1,g2⟩
 .exact .inl g
 .have nc:c≠a:=λz=>h2 _ (by rw[<- z];exact g2);exact .inr ⟨c,g1,by rw[upd_ne nc];exact g2⟩
section
variable{K:Frag}{hd':Hd}
mutual
theorem RI.grow(g:Grow H H'):∀{i:I} {v:V},RI K H i v->RI K H' i v
 |.non,v,h=>by simpa only[RI]using h
 |.bl b,v,h=>by simpa only[RI]using h
 |.int b,v,h=>by simpa only[RI]using h
 |.str b,v,h=>by simpa only[RI]using h
 |.tup ds,v,h=>by
  simp only[RI]at h ⊢;obtain⟨a,xs,e,q,r⟩:=h;exact⟨a,xs,e,g.sq q,RIs.grow g r⟩
theorem RIs.grow(g:Grow H H'):∀{i:List I} {v:List V},RIs K H i v->RIs K H' i v
 |[],v,h=>by simpa only[RIs]using h
 |d::ds,v,h=>by
  simp only[RIs]at h ⊢;obtain⟨x,r,e,q,z⟩:=h;exact⟨x,r,e,q.grow g,RIs.grow g z⟩
end
def RH.mut(h:RH K ρ H hd)(m:a∈ρ):(∃xs,H a=some (.lst xs))∨∃kv,H a=some (.dK kv):=by
 obtain⟨n,e⟩:=mem_iff_getElem?.mp m;have hn:n<hd.length:=by rw[<- h.len];exact(102 e).1
 obtain⟨ho,e1,e2⟩:=h.ob n hd[n] a (by simp[hn]) e;cases q:hd[n]with
 |lst ds=>rw[q]at e2;obtain⟨xs,rfl,_⟩:=e2;exact .inl ⟨xs,e1⟩
 |dic ds=>rw[q]at e2;obtain⟨xs,rfl,_⟩:=e2;exact .inr ⟨xs,e1⟩
def RH.stb_out(h:RH K ρ H hd)(s:Stb o)(e:H a=some o):a∉ρ:=λm=>by
 rcases h.mut m with⟨y,z⟩|⟨y,z⟩<;>(rw[e]at z;cases z;exact s)
def S2(s:Stb o):∀ps,o≠.tbl ps:=λps e=>by subst e;exact s
def Ext.grow(e:Ext ρ H ρ' H')(h:RH K ρ H hd):Grow H H':=⟨λb o s q=>e.keep b _ q (h.stb_out s q) (S2 s)⟩
def Ext.refl:Ext ρ H ρ H:=⟨⟨[],by simp,by simp⟩,λ_ _ h _ _=>h,λ_ ps h=>⟨ps,h⟩⟩
def Ext.trans(e:Ext ρ H ρ1 H1)(h0:RH K ρ1 H1 hd1)(e2:Ext ρ1 H1 ρ2 H2):Ext ρ H ρ2 H2:=by
 obtain⟨r1,rfl,f1⟩:=e.pre;obtain⟨r2,rfl,f2⟩:=e2.pre;refine⟨⟨r1++r2,by simp,λb m=>?_⟩,λb o q n t=>?_,λb ps q=>?_⟩
 .rcases mem_append.mp m with m|m
  .exact f1 b m
  .have z:=f2 b m;cases q:H b with
   |none=>rfl
   |some o=>
    by_cases n:b∈ρ
    .rcases h0.mut (jh r1 n)with⟨y,w⟩|⟨y,w⟩<;>(rw[z]at w;cases w)
    .by_cases t:∃ps,o=.tbl ps
     .obtain⟨ps,rfl⟩:=t;obtain⟨ps',this⟩:=e.tab b ps q;rw[z]at this;cases this
     .have:=e.keep b o q n λps y=>t ⟨ps,y⟩;rw[z]at this;cases this
 .refine e2.keep b o (e.keep b o q n t) (λm=>?_) t;rcases mem_append.mp m with m|m
  .exact n m
  .have:=f1 b m;rw[q]at this;cases this
 .obtain⟨ps',q'⟩:=e.tab b ps q;exact e2.tab b ps' q'
mutual
theorem RD.mono(g:Grow H H')(r:List Addr):∀{d:D} {v:V},RD K ρ H d v->RD K (ρ++r) H' d v
 |.im i,v,h=>by simp only[RD]at h ⊢;exact h.grow g
 |.mu n,v,h=>by
  simp only[RD]at h ⊢;obtain⟨a,e,q⟩:=h;exact⟨a,by rw[List.getElem?_append_left (List.getElem?_eq_some_iff.mp e).1];exact e,q⟩
 |.tm ds,v,h=>by
  simp only[RD]at h ⊢;obtain⟨a,xs,e,q,z⟩:=h;exact⟨a,xs,e,g.sq q,RDs.mono g r z⟩
 |.ro ns,v,h=>by
  simp only[RD]at h ⊢;obtain⟨a,e,q⟩:=h;exact⟨a,e,q.grow g⟩
 |.op nm fs ds,v,h=>by
  simp only[RD]at h ⊢;obtain⟨a,xs,e,q,z⟩:=h;exact⟨a,xs,e,q.grow g,RDs.mono g r z⟩
 |.fv k ds,v,h=>by
  simp only[RD]at h ⊢;obtain⟨a,xs,e,q,z⟩:=h;exact⟨a,xs,e,q.grow g,RDs.mono g r z⟩
theorem RDs.mono(g:Grow H H')(r:List Addr):∀{d:List D} {v:List V},RDs K ρ H d v->RDs K (ρ++r) H' d v
 |[],v,h=>by simpa only[RDs]using h
 |d::ds,v,h=>by
  simp only[RDs]at h ⊢;obtain⟨x,r',e,q,z⟩:=h;exact⟨x,r',e,q.mono g r,RDs.mono g r z⟩
end
theorem RKs.mono(g:Grow H H')(r:List Addr):∀{d:List (Key×D)} {v:List (Key×V)},RKs K ρ H d v->RKs K (ρ++r) H' d v
 |[],v,h=>by simpa only[RKs]using h
 |d::ds,v,h=>by
  simp only[RKs]at h ⊢;obtain⟨x,r',e,q1,q,z⟩:=h;exact⟨x,r',e,q1,q.mono g r,RKs.mono g r z⟩
theorem RC.mono(g:Grow H H')(r:List Addr)(h:RC K ρ H o ho):RC K (ρ++r) H' o ho:=by
 cases o with
 |lst ds=>obtain⟨xs,e,q⟩:=h;exact⟨xs,e,q.mono g r⟩
 |dic ds=>obtain⟨xs,e,q⟩:=h;exact⟨xs,e,q.mono g r⟩
def RD.ext(h:RH K ρ H hd)(e:Ext ρ H ρ' H')(q:RD K ρ H d v):RD K ρ' H' d v:=by
 obtain⟨r,rfl,_⟩:=e.pre;exact q.mono (e.grow h) r
def RDs.ext(h:RH K ρ H hd)(e:Ext ρ H ρ' H')(q:RDs K ρ H d v):RDs K ρ' H' d v:=by
 obtain⟨r,rfl,_⟩:=e.pre;exact q.mono (e.grow h) r
theorem RL.ext(h:RH K ρ H hd)(e:Ext ρ H ρ' H')(q:RL K ρ H ls σ):RL K ρ' H' ls σ:=
 ⟨q.len,λi d z=>let ⟨v,a,b⟩:=q.ob i d z;⟨v,a,b.ext h e⟩⟩
theorem RDs.len:∀{ds:List D} {xs:List V},RDs K ρ H ds xs->105=104
 |[],xs,h=>by simp only[RDs]at h;rw[h];rfl
 |d::ds,xs,h=>by
  simp only[RDs]at h;obtain⟨x,r,rfl,_,z⟩:=h;simp[RDs.len z]
theorem RDs.get:∀{ds:List D} {xs:List V} {i:Nat} {d:D},RDs K ρ H ds xs->ds[i]?=some d->∃x,xs[i]?=some x/\RD K ρ H d x
 |[],xs,i,d,h,e=>by simp at e
 |d::ds,xs,0,e,h,q=>by
  simp only[RDs]at h;obtain⟨x,r,rfl,z,_⟩:=h;simp at q;subst q;exact⟨x,rfl,z⟩
 |d::ds,xs,i+1,e,h,q=>by
  simp only[RDs]at h;obtain⟨x,r,rfl,_,z⟩:=h;obtain⟨y,a,b⟩:=RDs.get (i:=i) z (by simpa using q);exact⟨y,by simpa using a,b⟩
def RDs.nil:RDs K ρ H [] []:=by simp[RDs]
def RDs.cons(h:RD K ρ H d v)(t:RDs K ρ H ds vs):RDs K ρ H (d::ds) (v::vs):=by
 simp only[RDs];exact⟨v,vs,rfl,h,t⟩
theorem RDs.app:∀{ds es:List D} {xs ys:List V},RDs K ρ H ds xs->RDs K ρ H es ys->RDs K ρ H (ds++es) (xs++ys)
 |[],es,xs,ys,h,t=>by simp only[RDs]at h;subst h;simpa using t
 |d::ds,es,xs,ys,h,t=>by
  simp only[RDs]at h;obtain⟨x,r,rfl,z,q⟩:=h;simp only[cons_append];exact .cons z (q.app t)
theorem RDs.set:∀{ds:List D} {xs:List V} {d:D} {v:V} (i:Nat),RDs K ρ H ds xs->RD K ρ H d v->RDs K ρ H (ds.set i d) (xs.set i v)
 |[],xs,d,v,i,h,t=>by simp only[RDs]at h;subst h;simp[RDs]
 |d::ds,xs,e,v,0,h,t=>by
  simp only[RDs]at h;obtain⟨x,r,rfl,z,q⟩:=h;simpa using RDs.cons t q
 |d::ds,xs,e,v,i+1,h,t=>by
  simp only[RDs]at h;obtain⟨x,r,rfl,z,q⟩:=h;simpa using RDs.cons z (q.set i t)
theorem RDs.drop:∀{ds:List D} {xs:List V} (n:Nat),RDs K ρ H ds xs->RDs K ρ H (ds.drop n) (xs.drop n)
 |ds,xs,0,h=>by simpa using h
 |[],xs,n+1,h=>by simp only[RDs]at h;subst h;simp[RDs]
 |d::ds,xs,n+1,h=>by
  simp only[RDs]at h;obtain⟨x,r,rfl,z,q⟩:=h;simpa using q.drop n
theorem RDs.take:∀{ds:List D} {xs:List V} (n:Nat),RDs K ρ H ds xs->RDs K ρ H (ds.take n) (xs.take n)
 |ds,xs,0,h=>by simp[RDs]
 |[],xs,n+1,h=>by simp only[RDs]at h;subst h;simp[RDs]
 |d::ds,xs,n+1,h=>by
  simp only[RDs]at h;obtain⟨x,r,rfl,z,q⟩:=h;simpa using RDs.cons z (q.take n)
theorem RIs.ds:∀{is:List I} {xs:List V},RIs K H is xs->RDs K ρ H (is.map D.im) xs
 |[],xs,h=>by simpa only[RIs,RDs,jf]using h
 |i::is,xs,h=>by
  simp only[RIs]at h;obtain⟨x,r,rfl,z,q⟩:=h;exact .cons (by simpa only[RD]using z) q.ds
theorem RDs.is:∀{is:List I} {xs:List V},RDs K ρ H (is.map D.im) xs->RIs K H is xs
 |[],xs,h=>by simpa only[RIs,RDs,jf]using h
 |i::is,xs,h=>by
  simp only[iq,RDs]at h;obtain⟨x,r,rfl,z,q⟩:=h;simp only[RIs];exact⟨x,r,rfl,by simpa only[RD]using z,q.is⟩
def RH.put(h:RH K ρ H hd){n:Nat}(hn:ρ[n]?=some a)(c:RC K ρ H o ho):RH K ρ (upd H a ho) (hd.set n o)/\Ext ρ H ρ (upd H a ho):=by
 have ha:=h.mut (j6 hn);have n1:∀ps,H a≠some (.tbl ps):=λps e=>by rcases ha with⟨y,z⟩|⟨y,z⟩<;>(rw[e]at z;cases z)
 have n2:∀φ,H a≠some (.ext φ):=λps e=>by rcases ha with⟨y,z⟩|⟨y,z⟩<;>(rw[e]at z;cases z)
 have ex:Ext ρ H ρ (upd H a ho):=⟨⟨[],by simp,by simp⟩,λb o q m _=>by
  have:b≠a:=λz=>m (by rw[z];exact j6 hn);rw[upd_ne this];exact q,λb ps q=>⟨ps,(upd_ne (show b≠a from λz=>n1 ps (by rw[<- z];exact q))).trans q⟩⟩
 have gr:=ex.grow h;refine⟨⟨by simp[h.len],h.nd,h.tabs.upd n1 n2,λm o' b e1 e2=>?_⟩,ex⟩;have hm:m<hd.length:=by rw[<- h.len];exact(102 e2).1
 by_cases hmn:m=n
 .subst hmn;rw[hn]at e2;cases e2;rw[List.getElem?_set_self hm]at e1;cases e1;exact⟨ho,AF,by simpa using c.mono gr []⟩
 .rw[List.getElem?_set_ne (λz=>hmn z.symm)]at e1;obtain⟨ho',q1,q2⟩:=h.ob m o' b e1 e2;have:b≠a:=λz=>by
   subst z;have l1:=(102 e2).1;have l2:=(102 hn).1;exact hmn ((List.getElem?_inj l1 h.nd).mp (e2.trans hn.symm))
  exact⟨ho',by rw[upd_ne this];exact q1,by simpa using q2.mono gr []⟩
theorem RH.lst(h:RH K ρ H hd){n:Nat}(hn:ρ[n]?=some a)(e:hd[n]?=some (.lst ds)):∃xs,H a=some (.lst xs)/\RDs K ρ H ds xs:=by
 obtain⟨ho,q,xs,rfl,r⟩:=h.ob n _ a e hn;exact⟨xs,q,r⟩
theorem RH.dic(h:RH K ρ H hd){n:Nat}(hn:ρ[n]?=some a)(e:hd[n]?=some (.dic ds)):∃xs,H a=some (.dK xs)/\RKs K ρ H ds xs:=by
 obtain⟨ho,q,xs,rfl,r⟩:=h.ob n _ a e hn;exact⟨xs,q,r⟩
def RH.hid(h:RH K ρ H hd)(ha:H a=none):RH K ρ (upd H a ho) hd/\Ext ρ H ρ (upd H a ho):=by
 have out:a∉ρ:=λm=>by rcases h.mut m with⟨y,z⟩|⟨y,z⟩<;>(rw[ha]at z;cases z)
 have ex:Ext ρ H ρ (upd H a ho):=⟨⟨[],by simp,by simp⟩,λb o q n _=>by rw[upd_ne (AJ q ha)];exact q,λb ps q=>⟨ps,by rw[upd_ne (AJ q ha)];exact q⟩⟩
 have gr:=ex.grow h;refine⟨⟨h.len,h.nd,h.tabs.upd (by simp[ha]) (by simp[ha]),λm o' b e1 e2=>?_⟩,ex⟩;obtain⟨ho',q1,q2⟩:=h.ob m o' b e1 e2;exact⟨ho',by rw[upd_ne (AJ q1 ha)];exact q1,by simpa using q2.mono gr []⟩
end
end L2
namespace L2
open PySem PySem.Spec PyProof.Rows
noncomputable abbrev ME:=Ls->Hd->Option (D×Hd)
noncomputable abbrev MT:=Ls->Hd->Option (Bool×Hd)
noncomputable abbrev MA:=Ls->Hd->Option (List D×Hd)
inductive Fl where
 |nx (ls:Ls)|rt (d:D)|bk (ls:Ls)|ct (ls:Ls)
noncomputable abbrev MS:=Ls->Hd->Option (Fl×Hd)
section
variable(K:Frag)
def RE(t:TE)(m:ME):Prop:=∀(ρ:List Addr) (σ:St) (H:Hp) (hd:Hd) (ls:Ls) (Q:VK) (d:D) (hd':Hd),RH K ρ H hd->RL K ρ H ls σ->m ls hd=some (d,hd') ->
 (∀ρ' H' v,Ext ρ H ρ' H'->RH K ρ' H' hd'->RD K ρ' H' d v->Q v H')->t σ H Q
def RT(t:TT)(m:MT):Prop:=∀(ρ:List Addr) (σ:St) (H:Hp) (hd:Hd) (ls:Ls) (Q:Bool->Hp->Prop) (d:Bool) (hd':Hd),RH K ρ H hd->RL K ρ H ls σ->m ls hd=some (d,hd') ->
 (∀ρ' H',Ext ρ H ρ' H'->RH K ρ' H' hd'->Q d H')->t σ H Q
def RA(t:TA)(m:MA):Prop:=∀(ρ:List Addr) (σ:St) (H:Hp) (hd:Hd) (ls:Ls) (Q:List V->Hp->Prop) (d:List D) (hd':Hd),RH K ρ H hd->RL K ρ H ls σ->m ls hd=some (d,hd') ->
 (∀ρ' H' v,Ext ρ H ρ' H'->RH K ρ' H' hd'->RDs K ρ' H' d v->Q v H')->t σ H Q
def RN(t:TE)(m:MA):Prop:=∀(ρ:List Addr) (σ:St) (H:Hp) (hd:Hd) (ls:Ls) (Q:VK) (d:List D) (hd':Hd),RH K ρ H hd->RL K ρ H ls σ->m ls hd=some (d,hd') ->
 (∀ρ' H' a xs,Ext ρ H ρ' H'->RH K ρ' H' hd'->H a=none->a∉ρ'->H' a=some (.lst xs)->RDs K ρ' H' d xs->Q (.ref a) H')->t σ H Q
def fT(E:Ends)(ρ:List Addr)(H:Hp):Fl->Prop
 |.nx ls=>∀σ,RL K ρ H ls σ->E.nx σ H
 |.bk ls=>∀σ,RL K ρ H ls σ->E.bk σ H
 |.ct ls=>∀σ,RL K ρ H ls σ->E.ct σ H
 |.rt d=>∀v,RD K ρ H d v->E.rt v H
def RS(t:TS)(m:MS):Prop:=∀(ρ:List Addr) (σ:St) (H:Hp) (hd:Hd) (ls:Ls) (E:Ends) (f:Fl) (hd':Hd),RH K ρ H hd->RL K ρ H ls σ->m ls hd=some (f,hd') ->
 (∀ρ' H',Ext ρ H ρ' H'->RH K ρ' H' hd'->fT K E ρ' H' f)->t E σ H
def RB(r:R2)(f:D->D->Hd->Option (D×Hd)):Prop:=∀(ρ:List Addr) (H:Hp) (hd:Hd) (d e:D) (v u:V) (Q:VK) (z:D) (hd':Hd),RH K ρ H hd->RD K ρ H d v->RD K ρ H e u->f d e hd=some (z,hd') ->
 (∀ρ' H' w,Ext ρ H ρ' H'->RH K ρ' H' hd'->RD K ρ' H' z w->Q w H')->r v u H Q
def RF(r:List V->Hp->VK->Prop)(f:List D->Hd->Option (D×Hd)):Prop:=∀(ρ:List Addr) (H:Hp) (hd:Hd) (ds:List D) (vs:List V) (Q:VK) (z:D) (hd':Hd),RH K ρ H hd->RDs K ρ H ds vs->f ds hd=some (z,hd') ->
 (∀ρ' H' w,Ext ρ H ρ' H'->RH K ρ' H' hd'->RD K ρ' H' z w->Q w H')->r vs H Q
def RG(tp:Bool)(r:List V->Hp->VK->Prop)(g:List D->Option D):Prop:=∀(ρ:List Addr) (H:Hp) (hd:Hd) (a:Addr) (xs:List V) (ds:List D) (Q:VK) (z:D),RH K ρ H hd->(SqL K H a xs∨(tp=true/\SqT K H a xs))->RDs K ρ H ds xs->g ds=some z ->
 (∀H' w,Ext ρ H ρ H'->RH K ρ H' hd->RD K ρ H' z w->Q w H')->r [.ref a] H Q
end
structure QE(K:Frag)(X:Cx)(e:Expr)(t:TE)(m:ME):Prop where
 p:PE X e t
 r:RE K t m
structure QT(K:Frag)(X:Cx)(e:Expr)(t:TT)(m:MT):Prop where
 p:PT X e t
 r:RT K t m
structure QW(K:Frag)(X:Cx)(e:Expr)(t:TT)(m:MT):Prop where
 p:PW X e t
 r:RT K t m
structure QA(K:Frag)(X:Cx)(e:List Expr)(t:TA)(m:MA):Prop where
 p:PA X e t
 r:RA K t m
structure QN(K:Frag)(X:Cx)(e:Expr)(t:TE)(m:MA):Prop where
 p:PE X e t
 r:RN K t m
structure QS(K:Frag)(X:Cx)(e:Stmt)(t:TS)(m:MS):Prop where
 p:PS X e t
 r:RS K t m
structure QSs(K:Frag)(X:Cx)(e:List Stmt)(t:TS)(m:MS):Prop where
 p:PSs X e t
 r:RS K t m
noncomputable def AS:D->Option (List D)
 |.im (.tup is)=>some (is.map .im)
 |.tm ds=>some ds
 |_=>none
noncomputable def Aa(hd:Hd):D->Option (List D)
 |.mu n=>match hd[n]? with
  |some (.lst ds)=>some ds
  |_=>none
 |.ro ns=>some (ns.map λn=>.im (.int n))
 |_=>none
noncomputable def As(hd:Hd)(d:D):Option (List D):=match AS d with
 |some ds=>some ds
 |none=>Aa hd d
noncomputable def B9:List D->Option (List I)
 |[]=>some []
 |.im i::r=>(B9 r).map (i::·)
 |_::_=>none
noncomputable def Ap(ds:List D):D:=match B9 ds with
 |some is=>.im (.tup is)
 |none=>.tm ds
noncomputable def B6:List D->Option (List Int)
 |[]=>some []
 |.im (.int i)::r=>(B6 r).map (i::·)
 |_::_=>none
noncomputable def C8:List D->Option (List Bool)
 |[]=>some []
 |.im (.bl i)::r=>(C8 r).map (i::·)
 |_::_=>none
section
variable{K:Frag}
theorem Gc:∀{ds:List D} {is:List I},B9 ds=some is->ds=is.map .im
 |[],is,h=>by simp[B9]at h;subst h;rfl
 |.im i::r,is,h=>by
  simp only[B9,Option.map_eq_some_iff]at h;obtain⟨js,e,rfl⟩:=h;simp[Gc e]
 |.mu _::_,is,h=>by simp[B9]at h
 |.tm _::_,is,h=>by simp[B9]at h
 |.ro _::_,is,h=>by simp[B9]at h
 |.op _ _ _::_,is,h=>by simp[B9]at h
 |.fv _ _::_,is,h=>by simp[B9]at h
theorem F6:∀{ds:List D} {is:List Int},B6 ds=some is->ds=is.map λi=>.im (.int i)
 |[],is,h=>by simp[B6]at h;subst h;rfl
 |.im (.int i)::r,is,h=>by
  simp only[B6,Option.map_eq_some_iff]at h;obtain⟨js,e,rfl⟩:=h;simp[F6 e]
 |.im (.bl _)::_,is,h=>by simp[B6]at h
 |.im (.str _)::_,is,h=>by simp[B6]at h
 |.im .non::_,is,h=>by simp[B6]at h
 |.im (.tup _)::_,is,h=>by simp[B6]at h
 |.mu _::_,is,h=>by simp[B6]at h
 |.tm _::_,is,h=>by simp[B6]at h
 |.ro _::_,is,h=>by simp[B6]at h
 |.op _ _ _::_,is,h=>by simp[B6]at h
 |.fv _ _::_,is,h=>by simp[B6]at h
theorem L7:∀{ds:List D} {is:List Bool},C8 ds=some is->ds=is.map λi=>.im (.bl i)
 |[],is,h=>by simp[C8]at h;subst h;rfl
 |.im (.bl i)::r,is,h=>by
  simp only[C8,Option.map_eq_some_iff]at h;obtain⟨js,e,rfl⟩:=h;simp[L7 e]
 |.im (.int _)::_,is,h=>by simp[C8]at h
 |.im (.str _)::_,is,h=>by simp[C8]at h
 |.im .non::_,is,h=>by simp[C8]at h
 |.im (.tup _)::_,is,h=>by simp[C8]at h
 |.mu _::_,is,h=>by simp[C8]at h
 |.tm _::_,is,h=>by simp[C8]at h
 |.ro _::_,is,h=>by simp[C8]at h
 |.op _ _ _::_,is,h=>by simp[C8]at h
 |.fv _ _::_,is,h=>by simp[C8]at h
@[simp] theorem Ts(is:List I):B9 (is.map .im)=some is:=by induction is<;>simp_all [B9]
@[simp] theorem T6(is:List Int):B6 (is.map λi=>.im (.int i))=some is:=by induction is<;>simp_all [B6]
@[simp] theorem FE(is:List Bool):C8 (is.map λi=>.im (.bl i))=some is:=by induction is<;>simp_all [C8]
theorem Fg:∀{ns:List Int} {xs:List V},RDs K ρ H (ns.map λi=>.im (.int i)) xs->xs=ns.map V.int
 |[],xs,h=>by simpa [RDs]using h
 |n::ns,xs,h=>by
  simp only[iq,RDs,RD,RI]at h;obtain⟨x,r,rfl,rfl,z⟩:=h;rw[Fg z];rfl
theorem Fp:∀{ns:List Int},RDs K ρ H (ns.map λi=>.im (.int i)) (ns.map V.int)
 |[]=>by simp[RDs]
 |n::ns=>by simp only[iq];exact .cons (by simp[RD,RI]) Fp
theorem NE:∀{ns:List Bool} {xs:List V},RDs K ρ H (ns.map λi=>.im (.bl i)) xs->xs=ns.map V.bl
 |[],xs,h=>by simpa [RDs]using h
 |n::ns,xs,h=>by
  simp only[iq,RDs,RD,RI]at h;obtain⟨x,r,rfl,rfl,z⟩:=h;rw[NE z];rfl
theorem RD.tup(h:RD K ρ H d v)(e:AS d=some ds):∃a xs,v=.ref a/\SqT K H a xs/\RDs K ρ H ds xs:=by
 cases d with
 |im i=>
  cases i with
  |tup is=>
   simp only[AS,Option.some.injEq]at e;subst e;simp only[RD,RI]at h;obtain⟨a,xs,rfl,q,r⟩:=h;exact⟨a,xs,rfl,q,r.ds⟩
  |_=>simp[AS]at e
 |tm es=>
  simp only[AS,Option.some.injEq]at e;subst e;simpa only[RD]using h
 |_=>simp[AS]at e
theorem RD.lst(hR:RH K ρ H hd)(h:RD K ρ H d v)(e:Aa hd d=some ds):∃a xs,v=.ref a/\SqL K H a xs/\RDs K ρ H ds xs:=by
 cases d with
 |mu n=>
  simp only[Aa]at e;simp only[RD]at h;obtain⟨a,hn,rfl⟩:=h;split at e
  .next q=>
   cases e;obtain⟨xs,e1,e2⟩:=hR.lst hn q;exact⟨a,xs,rfl,SqL.of e1,e2⟩
  .cases e
 |ro ns=>
  simp only[Aa,Option.some.injEq]at e;subst e;simp only[RD]at h;obtain⟨a,rfl,q⟩:=h;exact⟨a,_,rfl,q.sq,Fp⟩
 |_=>simp[Aa]at e
def RD.seq(hR:RH K ρ H hd)(h:RD K ρ H d v)(e:As hd d=some ds):∃a xs,v=.ref a/\(SqL K H a xs∨SqT K H a xs)/\RDs K ρ H ds xs:=by
 unfold As at e;split at e
 .next q=>
  cases e;obtain⟨a,xs,e1,e2,e3⟩:=h.tup q;exact⟨a,xs,e1,.inr e2,e3⟩
 .obtain⟨a,xs,e1,e2,e3⟩:=h.lst hR e;exact⟨a,xs,e1,.inl e2,e3⟩
def CG(q:SqT K H a xs)(r:RDs K ρ H ds xs):RD K ρ H (Ap ds) (.ref a):=by
 unfold Ap;split
 .next e=>
  rw[Gc e]at r;simp only[RD,RI];exact⟨a,xs,rfl,q,r.is⟩
 .simp only[RD];exact⟨a,xs,rfl,q,r⟩
noncomputable def A1(i:Nat):ME:=λls hd=>match ls[i]? with
 |some (some d)=>some (d,hd)
 |_=>none
def aP{i:Nat}:RE K (Me i) (A1 i):=by
 and_intros;unfold A1 at hm;split at hm
 .next e=>
  cases hm;obtain⟨v,e1,e2⟩:=hL.ob i _ e;exact⟨v,e1,hQ ρ H v .refl hR e2⟩
 .cases hm
noncomputable def mC(i:I):ME:=λ_ hd=>some (.im i,hd)
def Q7(h:∀H,RI K H i v):RE K (tC v) (mC i):=by
 and_intros;cases hm;exact hQ ρ H v .refl hR (by simpa only[RD]using h H)
noncomputable def mOp(f:D->D->Hd->Option (D×Hd))(ma mb:ME):ME:=λls hd=>(ma ls hd).bind λp=>(mb ls p.2).bind λq=>f p.1 q.1 q.2
def M4{f:D->D->Hd->Option (D×Hd)}(hr:RB K r f)(ha:RE K ta ma)(hb:RE K tb mb):RE K (tOp r ta tb) (mOp f ma mb):=by
 and_intros;obtain⟨⟨d1,h1⟩,e1,hm⟩:=iS hm;obtain⟨⟨d2,h2⟩,e2,hm⟩:=iS hm;refine ha ρ σ H hd ls _ d1 h1 hR hL e1 λρ1 H1 v1 x1 R1 r1=>?_;refine hb ρ1 σ H1 h1 ls _ d2 h2 R1 (hL.ext hR x1) e2 λρ2 H2 v2 x2 R2 r2=>?_;exact hr ρ2 H2 h2 d1 d2 v1 v2 Q d hd' R2 (r1.ext R1 x2) r2 hm λρ' H' w x3 R3 r3=>hQ ρ' H' w ((106).trans R2 x3) R3 r3
noncomputable def Cs(ta tb:MT):MT:=λls hd=>(ta ls hd).bind λp=>if p.1=true then tb ls p.2 else some (false,p.2)
noncomputable def mOr(ta tb:MT):MT:=λls hd=>(ta ls hd).bind λp=>if p.1=true then some (true,p.2)else tb ls p.2
noncomputable def FO(ta:MT):MT:=λls hd=>(ta ls hd).bind λp=>some (!p.1,p.2)
def aB(ha:RT K ta ma)(hb:RT K tb mb):RT K (UO ta tb) (Cs ma mb):=by
 and_intros;obtain⟨⟨d1,h1⟩,e1,hm⟩:=iS hm;refine ha ρ σ H hd ls _ d1 h1 hR hL e1 λρ1 H1 x1 R1=>?_;cases d1 with
 |true=>
  rw[ia rfl]at hm ⊢;exact hb ρ1 σ H1 h1 ls Q d hd' R1 (hL.ext hR x1) hm λρ2 H2 x2 R2=>hQ ρ2 H2 106 R2
 |false=>
  rw[ie Bool.false_ne_true]at hm ⊢;cases hm;exact hQ ρ1 H1 x1 R1
def dw(ha:RT K ta ma)(hb:RT K tb mb):RT K (tOr ta tb) (mOr ma mb):=by
 and_intros;obtain⟨⟨d1,h1⟩,e1,hm⟩:=iS hm;refine ha ρ σ H hd ls _ d1 h1 hR hL e1 λρ1 H1 x1 R1=>?_;cases d1 with
 |true=>
  rw[ia rfl]at hm ⊢;cases hm;exact hQ ρ1 H1 x1 R1
 |false=>
  rw[ie Bool.false_ne_true]at hm ⊢;exact hb ρ1 σ H1 h1 ls Q d hd' R1 (hL.ext hR x1) hm λρ2 H2 x2 R2=>hQ ρ2 H2 106 R2
def aA(ha:RT K ta ma):RT K (UH ta) (FO ma):=by
 and_intros;obtain⟨⟨d1,h1⟩,e1,hm⟩:=iS hm;cases hm;exact ha ρ σ H hd ls _ d1 h1 hR hL e1 λρ1 H1 x1 R1=>hQ ρ1 H1 x1 R1
open Classical in
noncomputable def CC(hd:Hd):D->Option Bool
 |.im .non=>some false
 |.im (.bl b)=>some b
 |.im (.int i)=>some (i != 0)
 |.im (.str x)=>if Bg x.length then some ((x.length:Int) != 0)else none
 |.im (.tup is)=>some (!is.isEmpty)
 |.tm is=>some (!is.isEmpty)
 |.ro ns=>some (!ns.isEmpty)
 |.op _ _ _=>none
 |.fv _ _=>none
 |.mu n=>match hd[n]? with
  |some (.lst ds)=>some (!ds.isEmpty)
  |some (.dic ds)=>some (!ds.isEmpty)
  |none=>none
def D1{α β:Type}{xs:List α}{ys:List β}(h:105=ys.length):xs.isEmpty=ys.isEmpty:=by
 cases xs<;>cases ys<;>simp_all
theorem RKs.len:∀{ds:List (Key×D)} {xs:List (Key×V)},RKs K ρ H ds xs->105=104
 |[],xs,h=>by simp only[RKs]at h;rw[h];rfl
 |d::ds,xs,h=>by
  simp only[RKs]at h;obtain⟨x,r,rfl,_,_,z⟩:=h;simp[RKs.len z]
def XH{b:Bool}(hR:RH K ρ H hd)(h:RD K ρ H d v)(e:CC hd d=some b):OB K v H b:=by
 cases d with
 |im i=>
  cases i with
  |non=>simp only[RD,RI]at h;subst h;simp only[CC,Option.some.injEq]at e;subst e;exact rfl
  |bl c=>simp only[RD,RI]at h;subst h;simp only[CC,Option.some.injEq]at e;subst e;exact rfl
  |int c=>simp only[RD,RI]at h;subst h;simp only[CC,Option.some.injEq]at e;subst e;exact rfl
  |str c=>
   simp only[RD,RI]at h;subst h;simp only[CC]at e;split at e
   .next z=>cases e;exact⟨z,rfl⟩
   .cases e
  |tup is=>
   obtain⟨a,xs,rfl,q,r⟩:=h.tup (ds:=is.map .im) rfl;simp only[CC,Option.some.injEq]at e;subst e;exact .inr (.inl ⟨xs,q,by rw[D1 (show 105=is.length by simpa using r.len)]⟩)
 |tm ds=>
  obtain⟨a,xs,rfl,q,r⟩:=h.tup (ds:=ds) rfl;simp only[CC,Option.some.injEq]at e;subst e;exact .inr (.inl ⟨xs,q,by rw[D1 r.len]⟩)
 |ro ns=>
  obtain⟨a,xs,rfl,q,r⟩:=h.lst hR (hd:=hd) (ds:=ns.map λn=>.im (.int n)) rfl;simp only[CC,Option.some.injEq]at e;subst e;exact .inl ⟨xs,q,by rw[D1 (show 105=ns.length by simpa using r.len)]⟩
 |op _ _ _=>simp[CC]at e
 |fv _ _=>simp[CC]at e
 |mu n=>
  simp only[RD]at h;obtain⟨a,hn,rfl⟩:=h;simp only[CC]at e;split at e
  .next q=>
   cases e;obtain⟨xs,e1,e2⟩:=hR.lst hn q;exact .inl ⟨xs,SqL.of e1,by rw[D1 e2.len]⟩
  .next q=>
   cases e;obtain⟨xs,e1,e2⟩:=hR.dic hn q;exact .inr (.inr ⟨xs,e1,by rw[D1 e2.len]⟩)
  .cases e
noncomputable def BZ(ma:ME):MT:=λls hd=>(ma ls hd).bind λp=>(CC p.2 p.1).map (·,p.2)
def UV(ha:RE K ta ma):RT K (λσ H Q=>ta σ H λx H'=>∃k,OB K x H' k/\Q k H') (BZ ma):=by
 and_intros;obtain⟨⟨d1,h1⟩,e1,hm⟩:=iS hm;obtain⟨b,e2,e3⟩:=iT hm;cases e3;exact ha ρ σ H hd ls _ d1 h1 hR hL e1 λρ1 H1 v x1 R1 r1=>⟨_,XH R1 r1 e2,hQ ρ1 H1 x1 R1⟩
noncomputable def AC(ma:ME):MT:=λls hd=>(ma ls hd).bind λp=>match p.1 with
 |.im (.bl b)=>some (b,p.2)
 |_=>none
def DN(ha:RE K ta ma):RT K (FG ta) (AC ma):=by
 and_intros;obtain⟨⟨d1,h1⟩,e1,hm⟩:=iS hm;dsimp only at hm;split at hm
 .cases hm;exact ha ρ σ H hd ls _ _ _ hR hL e1 λρ1 H1 v x1 R1 r1=>⟨_,by simpa only[RD,RI]using r1,hQ ρ1 H1 x1 R1⟩
 .cases hm
def UW(ha:RE K ta ma):RT K (tB ta) (AC ma):=DN ha
noncomputable def mIf(c:MT)(ma mb:ME):ME:=λls hd=>(c ls hd).bind λp=>if p.1=true then ma ls p.2 else mb ls p.2
def eB(hc:RT K tc c)(ha:RE K ta ma)(hb:RE K tb mb):RE K (tIf tc ta tb) (mIf c ma mb):=by
 and_intros;obtain⟨⟨d1,h1⟩,e1,hm⟩:=iS hm;refine hc ρ σ H hd ls _ d1 h1 hR hL e1 λρ1 H1 x1 R1=>?_;cases d1 with
 |true=>
  rw[ia rfl]at hm ⊢;exact ha ρ1 σ H1 h1 ls Q d hd' R1 (hL.ext hR x1) hm λρ2 H2 v x2 R2 r2=>hQ ρ2 H2 v 106 R2 r2
 |false=>
  rw[ie Bool.false_ne_true]at hm ⊢;exact hb ρ1 σ H1 h1 ls Q d hd' R1 (hL.ext hR x1) hm λρ2 H2 v x2 R2 r2=>hQ ρ2 H2 v 106 R2 r2
noncomputable def I0(ma mb:ME):ME:=λls hd=>(AC ma ls hd).bind λp=>if p.1=true then mb ls p.2 else some (.im (.bl false),p.2)
noncomputable def GP(ma:ME):ME:=λls hd=>(AC ma ls hd).bind λp=>some (.im (.bl (!p.1)),p.2)
def Xw(ha:RE K ta ma)(hb:RE K tb mb):RE K (Pv ta tb) (I0 ma mb):=by
 and_intros;obtain⟨⟨d1,h1⟩,e1,hm⟩:=iS hm;refine DN ha ρ σ H hd ls (λc H1=>if c=true then tb σ H1 Q else Q (.bl false) H1) d1 h1 hR hL e1 λρ1 H1 x1 R1=>?_;cases d1 with
 |true=>
  rw[ia rfl]at hm ⊢;exact hb ρ1 σ H1 h1 ls Q d hd' R1 (hL.ext hR x1) hm λρ2 H2 v x2 R2 r2=>hQ ρ2 H2 v 106 R2 r2
 |false=>
  rw[ie Bool.false_ne_true]at hm ⊢;cases hm;exact hQ ρ1 H1 _ x1 R1 (by simp[RD,RI])
def Xm(ha:RE K ta ma):RE K (Pp ta) (GP ma):=by
 and_intros;obtain⟨⟨d1,h1⟩,e1,hm⟩:=iS hm;cases hm;exact DN ha ρ σ H hd ls (λc H1=>Q (.bl (!c)) H1) d1 h1 hR hL e1 λρ1 H1 x1 R1=>hQ ρ1 H1 _ x1 R1 (by simp[RD,RI])
noncomputable def A5:MA:=λ_ hd=>some ([],hd)
noncomputable def A2(ma:ME)(mr:MA):MA:=λls hd=>(ma ls hd).bind λp=>(mr ls p.2).bind λq=>some (p.1::q.1,q.2)
def SZ:RA K BG A5:=by
 and_intros;cases hm;exact hQ ρ H [] .refl hR .nil
def Y0(ha:RE K ta ma)(hr:RA K tr mr):RA K (Af ta tr) (A2 ma mr):=by
 and_intros;obtain⟨⟨d1,h1⟩,e1,hm⟩:=iS hm;obtain⟨⟨d2,h2⟩,e2,hm⟩:=iS hm;cases hm;refine ha ρ σ H hd ls _ d1 h1 hR hL e1 λρ1 H1 v1 x1 R1 r1=>?_;exact hr ρ1 σ H1 h1 ls _ d2 _ R1 (hL.ext hR x1) e2 λρ2 H2 v2 x2 R2 r2=>hQ ρ2 H2 _ 106 R2 (.cons (r1.ext R1 x2) r2)
open Classical in
noncomputable def Ak(ma:MA):ME:=λls hd=>(ma ls hd).bind λp=>if Bg p.1.length then some (Ap p.1,p.2)else none
def aQ(h:RA K t m):RE K (KL t) (Ak m):=by
 and_intros;obtain⟨⟨d1,h1⟩,e1,hm⟩:=iS hm;dsimp only at hm;split at hm
 .next z=>
  cases hm;refine h ρ σ H hd ls _ d1 _ hR hL e1 λρ1 H1 v1 x1 R1 r1=>⟨by rw[r1.len];exact z,λp hp=>?_⟩
  obtain⟨R2,x2⟩:=R1.hid (ho:=.tup v1) hp;exact hQ ρ1 _ _ 106 R2 (CG (SqT.of AF) (r1.ext R1 x2))
 .cases hm
open Classical in
noncomputable def Ai(ma:MA):MA:=λls hd=>(ma ls hd).bind λp=>if Bg p.1.length then some (p.1,p.2)else none
def RH.out(hR:RH K ρ H hd)(h:H a=none):a∉ρ:=λm=>by rcases hR.mut m with⟨y,z⟩|⟨y,z⟩<;>(rw[h]at z;cases z)
theorem Ext.none(e:Ext ρ H ρ' H')(hR:RH K ρ H hd)(h:H' a=none)(hR':RH K ρ' H' hd'):H a=none:=by
 cases q:H a with
 |none=>rfl
 |some o=>
  by_cases m:a∈ρ
  .obtain⟨r,rfl,_⟩:=e.pre;exact absurd (jh r m) (hR'.out h)
  .by_cases t:∃ps,o=.tbl ps
   .obtain⟨ps,rfl⟩:=t;obtain⟨ps',this⟩:=e.tab a ps q;rw[h]at this;cases this
   .rw[e.keep a o q m λps y=>t ⟨ps,y⟩]at h;cases h
def aG(h:RA K t m):RN K (UI t) (Ai m):=by
 and_intros;obtain⟨⟨d1,h1⟩,e1,hm⟩:=iS hm;dsimp only at hm;split at hm
 .next z=>
  cases hm;refine h ρ σ H hd ls _ _ _ hR hL e1 λρ1 H1 v1 x1 R1 r1=>⟨by rw[r1.len];exact z,λp hp=>?_⟩
  obtain⟨R2,x2⟩:=R1.hid (ho:=.lst v1) hp;exact hQ ρ1 _ p v1 106 R2 (x1.none hR hp R1) (R1.out hp) AF (r1.ext R1 x2)
 .cases hm
noncomputable def AY(ml:MA):ME:=λls hd=>(ml ls hd).bind λp=>some (.mu p.2.length,p.2++[.lst p.1])
def RH.name(hR:RH K ρ H hd)(out:a∉ρ)(e:H a=some (.lst xs))(r:RDs K ρ H ds xs):RH K (ρ++[a]) H (hd++[.lst ds]):=by
 have mono:∀{o:MO} {ho:HO},RC K ρ H o ho->RC K (ρ++[a]) H o ho:=λc=>c.mono Grow.refl [a];refine⟨by simp[hR.len],?_,hR.tabs,λn o' b e1 e2=>?_⟩
 .rw[nodup_append];refine⟨hR.nd,by simp,λx hx y hy z=>?_⟩;simp at hy;subst hy;subst z;exact out hx
 .by_cases hn:n<ρ.length
  .rw[List.getElem?_append_left hn]at e2;rw[List.getElem?_append_left (by rw[<- hR.len];exact hn)]at e1;obtain⟨ho',q1,q2⟩:=hR.ob n o' b e1 e2;exact⟨ho',q1,mono q2⟩
  .have hn':n=ρ.length:=by
    have:=(102 e2).1;simp at this;omega
   subst hn';simp at e2;rw[hR.len]at e1;simp at e1;subst e1;subst e2;exact⟨_,e,mono ⟨xs,rfl,r⟩⟩
def Ext.name(e:Ext ρ H ρ' H')(h:H a=Option.none):Ext ρ H (ρ'++[a]) H':=by
 obtain⟨r,rfl,f⟩:=e.pre;refine⟨⟨r++[a],by simp,λb m=>?_⟩,e.keep,e.tab⟩;rcases mem_append.mp m with m|m
 .exact f b m
 .simp at m;subst m;exact h
def SQ(h:RN K t m):RE K t (AY m):=by
 and_intros;obtain⟨⟨d1,h1⟩,e1,hm⟩:=iS hm;cases hm;refine h ρ σ H hd ls Q d1 h1 hR hL e1 λρ1 H1 a xs x1 R1 na oa ea r1=>?_;refine hQ (ρ1++[a]) H1 _ (x1.name na) (R1.name oa ea r1) ?_;simp only[RD];exact⟨a,by rw[<- R1.len];simp,rfl⟩
end
section
variable{K:Frag}{ρ ρ':List Addr}{H H':Hp}{hd hd':Hd}
noncomputable def fI(g:Int->Int->Option I):D->D->Hd->Option (D×Hd)
 |.im (.int i),.im (.int j),hd=>(g i j).map (.im ·,hd)
 |_,_,_=>none
def QC{C:Int->Int->Prop}{g:Int->Int->V}{f:Int->Int->Option I}(h:∀i j z,f i j=some z->C i j/\∀H,RI K H z (g i j)):RB K (rI C g) (fI f):=by
 intro ρ H hd d e v u Q z hd' hR h1 h2 hf hQ;unfold fI at hf;split at hf
 .simp only[RD,RI]at h1 h2;subst h1 h2;obtain⟨w,e1,e2⟩:=iT hf;cases e2;obtain⟨c,r⟩:=h _ _ _ e1;exact⟨_,_,rfl,rfl,c,hQ ρ H _ .refl hR (by simpa only[RD]using r H)⟩
 .cases hf
def Hn{g:Int->Int->V}{f:Int->Int->I}(h:∀i j H,RI K H (f i j) (g i j)):RB K (rI0 g) (fI λi j=>some (f i j)):=by
 intro ρ H hd d e v u Q z hd' hR h1 h2 hf hQ;unfold fI at hf;split at hf
 .simp only[RD,RI]at h1 h2;subst h1 h2;cases hf;exact⟨_,_,rfl,rfl,hQ ρ H _ .refl hR (by simpa only[RD]using h _ _ H)⟩
 .cases hf
noncomputable def GY(f g:D->D->Hd->Option (D×Hd)):D->D->Hd->Option (D×Hd):=λd e hd=>match f d e hd with
 |some z=>some z
 |none=>g d e hd
def Dk{r r':R2}{f g:D->D->Hd->Option (D×Hd)}(h:RB K r f)(h':RB K r' g):RB K (λx y H Q=>r x y H Q∨r' x y H Q) (GY f g):=by
 intro ρ H hd d e v u Q z hd' hR h1 h2 hf hQ;unfold GY at hf;split at hf
 .next q=>cases hf;exact .inl (h ρ H hd d e v u Q z hd' hR h1 h2 q hQ)
 .exact .inr (h' ρ H hd d e v u Q z hd' hR h1 h2 hf hQ)
noncomputable abbrev Ku:D->D->Hd->Option (D×Hd):=fI λi j=>some (.int (i+j))
noncomputable abbrev Cj:D->D->Hd->Option (D×Hd):=fI λi j=>some (.int (i-j))
def SX:RB K (rI0 λi j=>.int (i+j)) Ku:=Hn λ_ _ _=>by simp[RI]
def ae:RB K (rI0 λi j=>.int (i-j)) Cj:=Hn λ_ _ _=>by simp[RI]
open Classical in
noncomputable abbrev Bt:D->D->Hd->Option (D×Hd):=fI λi j=>if Ht i j then some (.int (i*j))else none
def ag:RB K (rI CMul λi j=>.int (i*j)) Bt:=QC λi j z h=>by
 split at h
 .next q=>cases h;exact⟨q,λ_=>by simp[RI]⟩
 .cases h
open Classical in
noncomputable abbrev CQ:D->D->Hd->Option (D×Hd):=fI λi j=>if EU j then some (.int (i%j))else none
def ah:RB K (rI (λ_ j=>0<j) λi j=>.int (i%j)) CQ:=QC λi j z h=>by
 split at h
 .next q=>cases h;exact⟨q,λ_=>by simp[RI]⟩
 .cases h
open Classical in
noncomputable abbrev GU:D->D->Hd->Option (D×Hd):=fI λi j=>if MH j then some (.int (i/j))else none
def Xy:RB K (rI da λi j=>.int (i/j)) GU:=QC λi j z h=>by
 split at h
 .next q=>cases h;exact⟨q,λ_=>by simp[RI]⟩
 .cases h
open Classical in
noncomputable abbrev Qo:D->D->Hd->Option (D×Hd):=fI λi j=>if QQ i j then some (.int (i^j.toNat))else none
def af:RB K (rI dZ λi j=>.int (i^j.toNat)) Qo:=QC λi j z h=>by
 split at h
 .next q=>cases h;exact⟨q,λ_=>by simp[RI]⟩
 .cases h
abbrev gLt:D->D->Hd->Option (D×Hd):=fI λi j=>some (.bl (decide (i<j)))
abbrev gLe:D->D->Hd->Option (D×Hd):=fI λi j=>some (.bl (decide (i<=j)))
abbrev gGt:D->D->Hd->Option (D×Hd):=fI λi j=>some (.bl (decide (j<i)))
abbrev gGe:D->D->Hd->Option (D×Hd):=fI λi j=>some (.bl (decide (j<=i)))
def Q8:RB K (rI0 λi j=>.bl (decide (i<j))) gLt:=Hn λ_ _ _=>by simp[RI]
def Q9:RB K (rI0 λi j=>.bl (decide (i<=j))) gLe:=Hn λ_ _ _=>by simp[RI]
def eD:RB K (rI0 λi j=>.bl (decide (j<i))) gGt:=Hn λ_ _ _=>by simp[RI]
def eE:RB K (rI0 λi j=>.bl (decide (j<=i))) gGe:=Hn λ_ _ _=>by simp[RI]
noncomputable def scI:I->Option V
 |.non=>some .non
 |.bl b=>some (.bl b)
 |.int i=>some (.int i)
 |.str x=>some (.str x)
 |.tup _=>none
def Je{i:I}{v w:V}(e:scI i=some w)(h:RI K H i v):v=w:=by
 cases i with
 |tup _=>simp[scI]at e
 |_=>simp only[scI,Option.some.injEq]at e;subst e;simpa only[RI]using h
noncomputable def FT(neg:Bool):D->D->Hd->Option (D×Hd)
 |.im i,.im j,hd=>match scI i,scI j with
  |some x,some y=>if Mu x y=true then some (.im (.bl (if neg then !decide (x=y)else decide (x=y))),hd)else none
  |_,_=>none
 |_,_,_=>none
def SV:RB K rEq (FT false):=by
 intro ρ H hd d e v u Q z hd' hR h1 h2 hf hQ;unfold FT at hf;split at hf
 .split at hf
  .next x y e1 e2=>
   split at hf
   .next s=>
    cases hf;simp only[RD]at h1 h2;rw[Je e1 h1,Je e2 h2];exact⟨s,hQ ρ H _ .refl hR (by simp[RD,RI])⟩
   .cases hf
  .cases hf
 .cases hf
def SS:RB K rNe (FT true):=by
 intro ρ H hd d e v u Q z hd' hR h1 h2 hf hQ;unfold FT at hf;split at hf
 .split at hf
  .next x y e1 e2=>
   split at hf
   .next s=>
    cases hf;simp only[RD]at h1 h2;rw[Je e1 h1,Je e2 h2];exact⟨s,hQ ρ H _ .refl hR (by simp[RD,RI])⟩
   .cases hf
  .cases hf
 .cases hf
mutual
noncomputable def I.py:I->PyData
 |.non=>.none
 |.bl b=>.bool b
 |.int i=>.int i
 |.str x=>.str x
 |.tup ds=>.tuple (I.pys ds)
noncomputable def I.pys:List I->List PyData
 |[]=>[]
 |d::ds=>I.py d::I.pys ds
end
mutual
theorem RI.rep:∀{i:I} {v:V},RI K H i v->Rep K H i.py v
 |.non,v,h=>by simpa only[RI,I.py,Rep]using h
 |.bl _,v,h=>by simpa only[RI,I.py,Rep]using h
 |.int _,v,h=>by simpa only[RI,I.py,Rep]using h
 |.str _,v,h=>by simpa only[RI,I.py,Rep]using h
 |.tup ds,v,h=>by
  simp only[RI]at h;obtain⟨a,xs,e,q,r⟩:=h;simp only[I.py,Rep];exact⟨a,xs,e,q,RIs.rep r⟩
theorem RIs.rep:∀{i:List I} {v:List V},RIs K H i v->Bc K H (I.pys i) v
 |[],v,h=>by simpa only[RIs,I.pys,Bc]using h
 |d::ds,v,h=>by
  simp only[RIs]at h;obtain⟨x,r,e,q,z⟩:=h;simp only[I.pys,Bc];exact⟨x,r,e,q.rep,RIs.rep z⟩
end
def pyD(hd:Hd):D->Option PyData
 |.im i=>some i.py
 |.mu n=>match hd[n]? with
  |some (.lst ds)=>(B9 ds).map λis=>.list (I.pys is)
  |_=>none
 |.ro ns=>some (.list (I.pys (ns.map I.int)))
 |_=>none
def Do{d:D}{v:V}{p:PyData}(hR:RH K ρ H hd)(h:RD K ρ H d v)(e:pyD hd d=some p):Rep K H p v:=by
 cases d with
 |im i=>simp only[pyD,Option.some.injEq]at e;subst e;simp only[RD]at h;exact h.rep
 |mu n=>
  simp only[pyD]at e;simp only[RD]at h;obtain⟨a,hn,rfl⟩:=h;split at e
  .next q=>
   obtain⟨is,e1,rfl⟩:=iT e;obtain⟨xs,e2,e3⟩:=hR.lst hn q;rw[Gc e1]at e3;simp only[Rep];exact⟨a,xs,rfl,SqL.of e2,e3.is.rep⟩
  .cases e
 |ro ns=>
  simp only[pyD,Option.some.injEq]at e;subst e;obtain⟨a,xs,rfl,q,r⟩:=h.lst hR (hd:=hd) (ds:=ns.map λn=>.im (.int n)) rfl;simp only[Rep];refine⟨a,xs,rfl,q,RIs.rep (RDs.is (ρ:=ρ) ?_)⟩;rw[j3];exact r
 |tm _=>simp[pyD]at e
 |op _ _ _=>simp[pyD]at e
 |fv _ _=>simp[pyD]at e
noncomputable def Kt(neg:Bool):D->D->Hd->Option (D×Hd):=λd e hd=>match pyD hd d,pyD hd e with
 |some x,some y=>if x.canLay0=true/\y.canLay0=true/\min x.depth y.depth<=60 then some (.im (.bl (if neg then !PyData.eqv x y else PyData.eqv x y)),hd)else none
 |_,_=>none
def SW:RB K (Uu K) (Kt false):=by
 intro ρ H hd d e v u Q z hd' hR h1 h2 hf hQ;unfold Kt at hf;split at hf
 .next e1 e2=>
  split at hf
  .next c=>cases hf;exact⟨_,_,Do hR h1 e1,Do hR h2 e2,c.1,c.2.1,c.2.2,hQ ρ H _ .refl hR (by simp[RD,RI])⟩
  .cases hf
 .cases hf
def SU:RB K (Us K) (Kt true):=by
 intro ρ H hd d e v u Q z hd' hR h1 h2 hf hQ;unfold Kt at hf;split at hf
 .next e1 e2=>
  split at hf
  .next c=>cases hf;exact⟨_,_,Do hR h1 e1,Do hR h2 e2,c.1,c.2.1,c.2.2,hQ ρ H _ .refl hR (by simp[RD,RI])⟩
  .cases hf
 .cases hf
noncomputable abbrev gEq:=GY (FT false) (Kt false)
noncomputable abbrev gNe:=GY (FT true) (Kt true)
def gIx:D->D->Hd->Option (D×Hd)
 |d,.im (.int i),hd=>(As hd d).bind λds=>(atI ds i).map (·,hd)
 |_,_,_=>none
def L8{α β:Type}{xs:List α}{ys:List β}{i:Int}{y:β}(h:105=ys.length)(e:atI ys i=some y):∃(j:Nat),ys[j]?=some y/\∀x,xs[j]?=some x->atI xs i=some x:=by
 unfold atI at e;obtain⟨j,e1,e2⟩:=iS e;exact⟨j,e2,λx q=>by unfold atI;rw[h,e1];exact q⟩
noncomputable def M6(K:Frag):R2:=λx y H Q=>Iw K x y H Q∨Ut K x y H Q
def eC:RB K (M6 K) gIx:=by
 intro ρ H hd d e v u Q z hd' hR h1 h2 hf hQ;unfold gIx at hf;split at hf
 .obtain⟨ds,e1,hf⟩:=iS hf;obtain⟨w,e2,e3⟩:=iT hf;cases e3;obtain⟨a,xs,rfl,q,r⟩:=h1.seq hR e1;simp only[RD,RI]at h2;subst h2;obtain⟨j,j1,j2⟩:=L8 r.len e2;obtain⟨x,x1,x2⟩:=r.get j1;rcases q with q|q
  .exact .inl ⟨a,xs,_,x,rfl,rfl,q,j2 x x1,hQ ρ H x .refl hR x2⟩
  .exact .inr ⟨a,xs,_,x,rfl,rfl,q,j2 x x1,hQ ρ H x .refl hR x2⟩
 .cases hf
noncomputable def Cu(xs:List D)(lo hi:Option Int):List D:=(xs.drop (HT.sIx 105 0 lo)).take (HT.sIx 105 105 hi-HT.sIx 105 0 lo)
def PN{ds:List D}{xs:List V}{lo hi:Option Int}(r:RDs K ρ H ds xs):RDs K ρ H (Cu ds lo hi) (FW xs lo hi):=by
 unfold Cu FW;rw[r.len];exact(r.drop _).take _
noncomputable abbrev MO1:=Ls->Hd->Option (Option Int×Hd)
def RO1(K:Frag)(t:TO)(m:MO1):Prop:=∀(ρ:List Addr) (σ:St) (H:Hp) (hd:Hd) (ls:Ls) (Q:Option Int->Hp->Prop) (d:Option Int) (hd':Hd),RH K ρ H hd->RL K ρ H ls σ->m ls hd=some (d,hd') ->
 (∀ρ' H',Ext ρ H ρ' H'->RH K ρ' H' hd'->Q d H')->t σ H Q
noncomputable def BM:MO1:=λ_ hd=>some (none,hd)
noncomputable def CU(m:ME):MO1:=λls hd=>(m ls hd).bind λp=>match p.1 with
 |.im (.int i)=>some (some i,p.2)
 |_=>none
def Xe:RO1 K KN BM:=by
 and_intros;cases hm;exact hQ ρ H .refl hR
def Xd{t:TE}{m:ME}(h:RE K t m):RO1 K (Pn t) (CU m):=by
 and_intros;obtain⟨⟨d1,h1⟩,e1,hm⟩:=iS hm;dsimp only at hm;split at hm
 .cases hm;exact h ρ σ H hd ls _ _ _ hR hL e1 λρ1 H1 v x1 R1 r1=>⟨_,by simpa only[RD,RI]using r1,hQ ρ1 H1 x1 R1⟩
 .cases hm
noncomputable def Ds(m:ME)(ml mh:MO1):ME:=λls hd=>(m ls hd).bind λp=>(ml ls p.2).bind λl=>(mh ls l.2).bind λh=>(AS p.1).bind λds=>
 if ¬ (HT.sIx 104 0 l.1=0/\HT.sIx 104 104 h.1=104)then some (Ap (Cu ds l.1 h.1),h.2)else none
def aR{t:TE}{tl th:TO}{m:ME}{ml mh:MO1}(h:RE K t m)(hl:RO1 K tl ml)(hh:RO1 K th mh):RE K (tSl (QD K) t tl th) (Ds m ml mh):=by
 and_intros;obtain⟨⟨d1,h1⟩,e1,hm⟩:=iS hm;obtain⟨⟨d2,h2⟩,e2,hm⟩:=iS hm;obtain⟨⟨d3,h3⟩,e3,hm⟩:=iS hm;obtain⟨ds,e4,hm⟩:=iS hm;dsimp only at e2 e3 e4 hm;split at hm
 .next c=>
  cases hm;refine h ρ σ H hd ls _ d1 h1 hR hL e1 λρ1 H1 v1 x1 R1 r1=>?_;refine hl ρ1 σ H1 h1 ls _ d2 h2 R1 (hL.ext hR x1) e2 λρ2 H2 x2 R2=>?_;refine hh ρ2 σ H2 h2 ls _ d3 _ R2 (hL.ext hR 106) e3 λρ3 H3 x3 R3=>?_;obtain⟨a,xs,rfl,q,r⟩:=((r1.ext R1 x2).ext R2 x3).tup e4;refine⟨a,xs,rfl,q,by rw[r.len];exact c,λp hp=>?_⟩;obtain⟨R4,x4⟩:=R3.hid (ho:=.tup (FW xs d2 d3)) hp;exact hQ ρ3 _ _ (((106).trans R2 x3).trans R3 x4) R4 (CG (SqT.of AF) ((PN r).ext R3 x4))
 .cases hm
noncomputable def Kj(m:ME)(ml mh:MO1):MA:=λls hd=>(m ls hd).bind λp=>(ml ls p.2).bind λl=>(mh ls l.2).bind λh=>(Aa h.2 p.1).bind λds=>some (Cu ds l.1 h.1,h.2)
def aE{t:TE}{tl th:TO}{m:ME}{ml mh:MO1}(h:RE K t m)(hl:RO1 K tl ml)(hh:RO1 K th mh):RN K (tSl (QH K) t tl th) (Kj m ml mh):=by
 and_intros;obtain⟨⟨d1,h1⟩,e1,hm⟩:=iS hm;obtain⟨⟨d2,h2⟩,e2,hm⟩:=iS hm;obtain⟨⟨d3,h3⟩,e3,hm⟩:=iS hm;obtain⟨ds,e4,hm⟩:=iS hm;dsimp only at e2 e3 e4 hm;cases hm;refine h ρ σ H hd ls _ d1 h1 hR hL e1 λρ1 H1 v1 x1 R1 r1=>?_;refine hl ρ1 σ H1 h1 ls _ d2 h2 R1 (hL.ext hR x1) e2 λρ2 H2 x2 R2=>?_;refine hh ρ2 σ H2 h2 ls _ d3 _ R2 (hL.ext hR 106) e3 λρ3 H3 x3 R3=>?_;obtain⟨a,xs,rfl,q,r⟩:=RD.lst R3 ((r1.ext R1 x2).ext R2 x3) e4;refine⟨a,xs,rfl,q,λp hp=>?_⟩;obtain⟨R4,x4⟩:=R3.hid (ho:=.lst (FW xs d2 d3)) hp;have x123:=(106).trans R2 x3;exact hQ ρ3 _ p _ (x123.trans R3 x4) R4 (x123.none hR hp R3) (R3.out hp) AF ((PN r).ext R3 x4)
noncomputable def mCB(f:List D->Hd->Option (D×Hd))(ma:MA):ME:=λls hd=>(ma ls hd).bind λp=>f p.1 p.2
def Wa{r:List V->Hp->VK->Prop}{f:List D->Hd->Option (D×Hd)}{t:TA}{m:MA}(hr:RF K r f)(h:RA K t m):RE K (tCB r t) (mCB f m):=by
 and_intros;obtain⟨⟨d1,h1⟩,e1,hm⟩:=iS hm;refine h ρ σ H hd ls _ d1 h1 hR hL e1 λρ1 H1 v1 x1 R1 r1=>?_;exact hr ρ1 H1 h1 d1 v1 Q d hd' R1 r1 hm λρ' H' w x2 R2 r2=>hQ ρ' H' w 106 R2 r2
noncomputable def f1(tp:Bool)(g:List D->Option D):List D->Hd->Option (D×Hd)
 |[d],hd=>((if tp then As hd d else Aa hd d)).bind λds=>(g ds).map (·,hd)
 |_,_=>none
def Iq{tp:Bool}{r:List V->Hp->VK->Prop}{g:List D->Option D}(h:RG K tp r g):RF K r (f1 tp g):=by
 intro ρ H hd ds vs Q z hd' hR h1 hf hQ;unfold f1 at hf;split at hf
 .next d hd'=>
  obtain⟨es,e1,hf⟩:=iS hf;obtain⟨w,e2,e3⟩:=iT hf;cases e3;simp only[RDs]at h1;obtain⟨x,r,rfl,rx,rfl⟩:=h1;cases tp with
  |true=>
   rw[ia rfl]at e1;obtain⟨a,xs,rfl,q,rr⟩:=rx.seq hR e1;exact h ρ H hd a xs es Q z hR (q.imp id λq=>⟨rfl,q⟩) rr e2 λH' w x R r=>hQ ρ H' w x R r
  |false=>
   rw[ie Bool.false_ne_true]at e1;obtain⟨a,xs,rfl,q,rr⟩:=rx.lst hR e1;exact h ρ H hd a xs es Q z hR (.inl q) rr e2 λH' w x R r=>hQ ρ H' w x R r
 .cases hf
noncomputable def B7(g:List D->Option D)(ml:MA):ME:=λls hd=>(ml ls hd).bind λp=>(g p.1).map (·,p.2)
def SR{tp:Bool}{r:List V->Hp->VK->Prop}{g:List D->Option D}{t:TE}{m:MA}(hr:RG K tp r g)(h:RN K t m):RE K (tCB r (Af t BG)) (B7 g m):=by
 and_intros;obtain⟨⟨d1,h1⟩,e1,hm⟩:=iS hm;obtain⟨w,e2,e3⟩:=iT hm;cases e3;refine h ρ σ H hd ls _ d1 _ hR hL e1 λρ1 H1 a xs x1 R1 na oa ea r1=>?_;exact hr ρ1 H1 _ a xs d1 Q d R1 (.inl (SqL.of ea)) r1 e2 λH' w x R r=>hQ ρ1 H' w (x1.trans R1 x) R r
noncomputable def BO(ds:List D):Option D:=some (.im (.int 104))
def aO:RG K true (aj K) BO:=by
 intro ρ H hd a xs ds Q z hR q r e hQ;cases e;refine⟨a,xs,rfl,q.imp id λq=>q.2,?_⟩;rw[r.len];exact hQ H _ .refl hR (by simp[RD,RI])
noncomputable def BS(ds:List D):Option D:=some (Ap ds)
def NA:RG K true (NF K) BS:=by
 intro ρ H hd a xs ds Q z hR q r e hQ;cases e;refine⟨a,xs,rfl,?_⟩;rcases q with q|⟨_,q⟩
 .refine .inl ⟨q,λp hp=>?_⟩;obtain⟨R2,x2⟩:=hR.hid (ho:=.tup xs) hp;exact hQ _ _ x2 R2 (CG (SqT.of AF) (r.ext hR x2))
 .exact .inr ⟨q,hQ H _ .refl hR (CG q r)⟩
noncomputable def JC(ds:List D):Option D:=(B6 ds).map λns=>.im (.int ns.sum)
def fh(K:Frag):List V->Hp->VK->Prop:=λxs H Q=>Wd K xs H Q∨Wc K xs H Q
def SK:RG K true (fh K) JC:=by
 intro ρ H hd a xs ds Q z hR q r e hQ;obtain⟨ns,e1,rfl⟩:=iT e;rw[F6 e1]at r;have:=Fg r;subst this;rcases q with q|⟨_,q⟩
 .exact .inl ⟨a,ns,rfl,q,hQ H _ .refl hR (by simp[RD,RI])⟩
 .exact .inr ⟨a,ns,rfl,q,hQ H _ .refl hR (by simp[RD,RI])⟩
noncomputable def Kr(ds:List D):Option D:=(C8 ds).map λbs=>.im (.bl (bs.all id))
noncomputable def FS(ds:List D):Option D:=(C8 ds).map λbs=>.im (.bl (bs.any id))
def SN:RG K false (am K) Kr:=by
 intro ρ H hd a xs ds Q z hR q r e hQ;obtain⟨ns,e1,rfl⟩:=iT e;rw[L7 e1]at r;have:=NE r;subst this;rcases q with q|⟨q,_⟩
 .exact⟨a,ns,rfl,q,hQ H _ .refl hR (by simp[RD,RI])⟩
 .cases q
def SM:RG K false (ak K) FS:=by
 intro ρ H hd a xs ds Q z hR q r e hQ;obtain⟨ns,e1,rfl⟩:=iT e;rw[L7 e1]at r;have:=NE r;subst this;rcases q with q|⟨q,_⟩
 .exact⟨a,ns,rfl,q,hQ H _ .refl hR (by simp[RD,RI])⟩
 .cases q
noncomputable def Eu:List Int->Int
 |[]=>0
 |[x]=>x
 |x::r=>if Eu r>x then Eu r else x
noncomputable def Cr:List Int->Int
 |[]=>0
 |[x]=>x
 |x::r=>if Cr r<x then Cr r else x
theorem EE:∀{xs:List Int},xs≠[]->Eu xs∈xs/\∀x∈xs,x<=Eu xs
 |[],h=>absurd rfl h
 |[x],_=>by simp[Eu]
 |x::y::r,_=>by
  obtain⟨h1,h2⟩:=EE (xs:=y::r) 55;rw[Eu];split
  .next h=>exact⟨il _ h1,λz m=>by rcases mem_cons.mp m with rfl|m;omega;exact h2 z m⟩
  .next h=>exact⟨ir,λz m=>by rcases mem_cons.mp m with rfl|m;omega;exact Int.le_trans (h2 z m) 50⟩
  .simp
theorem ED:∀{xs:List Int},xs≠[]->Cr xs∈xs/\∀x∈xs,Cr xs<=x
 |[],h=>absurd rfl h
 |[x],_=>by simp[Cr]
 |x::y::r,_=>by
  obtain⟨h1,h2⟩:=ED (xs:=y::r) 55;rw[Cr];split
  .next h=>exact⟨il _ h1,λz m=>by rcases mem_cons.mp m with rfl|m;omega;exact h2 z m⟩
  .next h=>exact⟨ir,λz m=>by rcases mem_cons.mp m with rfl|m;omega;exact Int.le_trans 50 (h2 z m)⟩
  .simp
noncomputable def F5(ds:List D):Option D:=(B6 ds).bind λns=>if ns=[]then none else some (.im (.int (Cr ns)))
def Kp{α:Type}{xs:List α}(h:xs≠[]):0<xs.length:=by cases xs<;>simp_all
def SL:RG K false (We K) F5:=by
 intro ρ H hd a xs ds Q z hR q r e hQ;obtain⟨ns,e1,e⟩:=iS e;split at e
 .cases e
 .next hn=>
  cases e;rw[F6 e1]at r;have:=Fg r;subst this;have u:∀M:Int,M∈ns->(∀x∈ns,M<=x)->M=Cr ns:=λM m1 m2=>by
   obtain⟨n1,n2⟩:=ED hn;have:=n2 M m1;have:=m2 _ n1;omega
  rcases q with q|⟨q,_⟩
  .exact⟨a,ns,rfl,q,Kp hn,λM m1 m2=>by rw[u M m1 m2];exact hQ H _ .refl hR (by simp[RD,RI])⟩
  .cases q
noncomputable def E3:List D->Hd->Option (D×Hd)
 |[.im (.int i),.im (.int j)],hd=>some (.im (.int (if j>i then j else i)),hd)
 |_,_=>none
noncomputable def GW:List D->Hd->Option (D×Hd)
 |[.im (.int i),.im (.int j)],hd=>some (.im (.int (if j<i then j else i)),hd)
 |_,_=>none
def Xj:RF K (λxs H Q=>∃i j,xs=[.int i,.int j]/\Q (.int (if j>i then j else i)) H) E3:=by
 intro ρ H hd ds vs Q z hd' hR h1 hf hQ;unfold E3 at hf;split at hf
 .cases hf;simp only[RDs,RD,RI]at h1;obtain⟨x,r,rfl,rfl,y,r2,rfl,rfl,rfl⟩:=h1;exact⟨_,_,rfl,hQ ρ H _ .refl hR (by simp[RD,RI])⟩
 .cases hf
def Xi:RF K (λxs H Q=>∃i j,xs=[.int i,.int j]/\Q (.int (if j<i then j else i)) H) GW:=by
 intro ρ H hd ds vs Q z hd' hR h1 hf hQ;unfold GW at hf;split at hf
 .cases hf;simp only[RDs,RD,RI]at h1;obtain⟨x,r,rfl,rfl,y,r2,rfl,rfl,rfl⟩:=h1;exact⟨_,_,rfl,hQ ρ H _ .refl hR (by simp[RD,RI])⟩
 .cases hf
noncomputable def fw:List D->Hd->Option (D×Hd)
 |[.im (.int i)],hd=>some (.im (.int (if i<0 then -i else i)),hd)
 |_,_=>none
noncomputable def HD(ml:MA):MA:=ml
def UZ{t:TE}{m:MA}(h:RN K t m):RN K (tCB (Kb K) (Af t BG)) (HD m):=by
 and_intros;refine h ρ σ H hd ls _ d _ hR hL hm λρ1 H1 a xs x1 R1 na oa ea r1=>?_;refine⟨a,xs,rfl,.inl (SqL.of ea),λl hl=>?_⟩;obtain⟨R2,x2⟩:=R1.hid (ho:=.lst xs) hl;exact hQ ρ1 _ l xs 106 R2 (x1.none hR hl R1) (R1.out hl) AF (r1.ext R1 x2)
def cS(d:PyData):Prop:=d.showable=true/\d.hasDict=false/\isDisplay d=true/\d.depth<=30/\d.shown.length<=sizeLine
open Classical in
noncomputable def Nn:List D->Hd->Option (D×Hd)
 |[.im (.int i)],hd=>if fc i.natAbs.log2 then some (.im (.str (toString i)),hd)else none
 |_,_=>none
def Ud:RF K (λxs H Q=>∃i,xs=[.int i]/\i.natAbs.log2<1920/\Q (.str (toString i)) H) Nn:=by
 intro ρ H hd ds vs Q z hd' hR h1 hf hQ;unfold Nn at hf;split at hf
 .split at hf
  .next c=>
   cases hf;simp only[RDs,RD,RI]at h1;obtain⟨x,r,rfl,rfl,rfl⟩:=h1;exact⟨_,rfl,c,hQ ρ H _ .refl hR (by simp[RD,RI])⟩
  .cases hf
 .cases hf
noncomputable def EX:I->Option V
 |.non=>some .non
 |.bl b=>some (.bl b)
 |.int i=>some (.int i)
 |.str x=>some (.str x)
 |.tup _=>none
noncomputable def Bo:List D->Option (List V)
 |[]=>some []
 |.im i::r=>(EX i).bind λv=>(Bo r).map (v::·)
 |_::_=>none
def JE{i:I}{v w:V}(e:EX i=some w)(h:RI K H i v):v=w/\E2 w=true:=by
 cases i with
 |tup _=>simp[EX]at e
 |_=>simp only[EX,Option.some.injEq]at e;subst e;exact⟨by simpa only[RI]using h,rfl⟩
theorem HL:∀{ds:List D} {vs ws:List V},Bo ds=some ws->RDs K ρ H ds vs->vs=ws/\ws.all E2=true
 |[],vs,ws,e,h=>by simp[Bo]at e;subst e;simp only[RDs]at h;subst h;exact⟨rfl,rfl⟩
 |.im i::r,vs,ws,e,h=>by
  simp only[Bo]at e;obtain⟨v,e1,e⟩:=iS e;obtain⟨us,e2,rfl⟩:=iT e;simp only[RDs,RD]at h;obtain⟨x,y,rfl,h1,h2⟩:=h;obtain⟨rfl,f1⟩:=JE e1 h1;obtain⟨rfl,f2⟩:=HL e2 h2;exact⟨rfl,by simp[f1,f2]⟩
 |.mu _::_,_,_,e,_=>by simp[Bo]at e
 |.tm _::_,_,_,e,_=>by simp[Bo]at e
 |.ro _::_,_,_,e,_=>by simp[Bo]at e
 |.op _ _ _::_,_,_,e,_=>by simp[Bo]at e
 |.fv _ _::_,_,_,e,_=>by simp[Bo]at e
def gIn(neg:Bool):D->D->Hd->Option (D×Hd)
 |.im i,e,hd=>(EX i).bind λx=>(As hd e).bind λds=>(Bo ds).map λxs=>(.im (.bl (if neg then !inV x xs else inV x xs)),hd)
 |_,_,_=>none
def QB{neg:Bool}:RB K (rIn K neg) (gIn neg):=by
 intro ρ H hd d e v u Q z hd' hR h1 h2 hf hQ;unfold gIn at hf;split at hf
 .obtain⟨x,e1,hf⟩:=iS hf;obtain⟨ds,e2,hf⟩:=iS hf;obtain⟨xs,e3,e4⟩:=iT hf;cases e4;simp only[RD]at h1;obtain⟨rfl,f1⟩:=JE e1 h1;obtain⟨a,ys,rfl,q,r⟩:=h2.seq hR e2;obtain⟨rfl,f2⟩:=HL e3 r;exact⟨a,ys,rfl,q,f1,f2,hQ ρ H _ .refl hR (by simp[RD,RI])⟩
 .cases hf
noncomputable def mMt(f:D->List D->Hd->Option (D×Hd))(mo:ME)(ma:MA):ME:=λls hd=>(mo ls hd).bind λp=>match Aa p.2 p.1 with
 |some _=>(ma ls p.2).bind λq=>f p.1 q.1 q.2
 |none=>none
def RM(K:Frag)(r:V->List V->Hp->VK->Prop)(f:D->List D->Hd->Option (D×Hd)):Prop:=∀(ρ:List Addr) (H:Hp) (hd:Hd) (d:D) (v:V) (ds:List D) (vs:List V) (Q:VK) (z:D) (hd':Hd),RH K ρ H hd->RD K ρ H d v->RDs K ρ H ds vs->f d ds hd=some (z,hd') ->
 (∀ρ' H' w,Ext ρ H ρ' H'->RH K ρ' H' hd'->RD K ρ' H' z w->Q w H')->r v vs H Q
def WZ{r:V->List V->Hp->VK->Prop}{f:D->List D->Hd->Option (D×Hd)}{to:TE}{t:TA}{mo:ME}{ma:MA}(hr:RM K r f)(ho:RE K to mo)(ha:RA K t ma):RE K (tBM K "list" r to t) (mMt f mo ma):=by
 and_intros;obtain⟨⟨d1,h1⟩,e1,hm⟩:=iS hm;dsimp only at hm;split at hm
 .next e=>
  obtain⟨⟨d2,h2⟩,e2,hm⟩:=iS hm;refine ho ρ σ H hd ls _ d1 h1 hR hL e1 λρ1 H1 v x1 R1 r1=>⟨?_,?_⟩
  .obtain⟨a,xs,rfl,q,_⟩:=r1.lst R1 e;exact .inl ⟨rfl,xs,q⟩
  .exact ha ρ1 σ H1 h1 ls _ d2 h2 R1 (hL.ext hR x1) e2 λρ2 H2 vs x2 R2 r2=>hr ρ2 H2 h2 d1 v d2 vs Q d hd' R2 (r1.ext R1 x2) r2 hm λρ' H' w x3 R3 r3=>hQ ρ' H' w ((106).trans R2 x3) R3 r3
 .cases hm
def aT{r:V->List V->Hp->VK->Prop}{f:D->List D->Hd->Option (D×Hd)}{to:TE}{mo:ME}(hr:RM K r f)(ho:RE K to mo):RE K (UN K "list" r to) (mMt f mo A5):=WZ (t:=BG) hr ho SZ
open Classical in
noncomputable def Ar:D->List D->Hd->Option (D×Hd)
 |.mu n,[x],hd=>match hd[n]? with
  |some (.lst ds)=>if Ck 104 then some (.im .non,hd.set n (.lst (ds++[x])))else none
  |_=>none
 |_,_,_=>none
def SI:RM K Oq Ar:=by
 intro ρ H hd d v ds vs Q z hd' hR h1 h2 hf hQ;unfold Ar at hf;split at hf
 .split at hf
  .next q=>
   split at hf
   .next c=>
    cases hf;simp only[RD]at h1;obtain⟨a,hn,rfl⟩:=h1;simp only[RDs]at h2;obtain⟨x,r,rfl,rx,rfl⟩:=h2;obtain⟨xs,e1,e2⟩:=hR.lst hn q;obtain⟨R2,x2⟩:=hR.put hn (o:=.lst (_++[_])) (ho:=.lst (xs++[x])) ⟨_,rfl,e2.app (.cons rx .nil)⟩;exact⟨a,xs,x,rfl,rfl,e1,by rw[e2.len];exact c,hQ ρ _ _ x2 R2 (by simp[RD,RI])⟩
   .cases hf
  .cases hf
 .cases hf
noncomputable def HP:D->List D->Hd->Option (D×Hd)
 |.mu n,[],hd=>match hd[n]? with
  |some (.lst ds)=>(ds[104-1]?).map λy=>(y,hd.set n (.lst ds.dropLast))
  |_=>none
 |_,_,_=>none
theorem RDs.dropLast{ds:List D}{xs:List V}(h:RDs K ρ H ds xs):RDs K ρ H ds.dropLast xs.dropLast:=by
 rw[List.dropLast_eq_take,List.dropLast_eq_take,h.len];exact h.take _
def aJ:RM K ai HP:=by
 intro ρ H hd d v ds vs Q z hd' hR h1 h2 hf hQ;unfold HP at hf;split at hf
 .split at hf
  .next q=>
   obtain⟨y,e0,e3⟩:=iT hf;cases e3;simp only[RD]at h1;obtain⟨a,hn,rfl⟩:=h1;simp only[RDs]at h2;subst h2;obtain⟨xs,e1,e2⟩:=hR.lst hn q;obtain⟨x,x1,x3⟩:=e2.get e0;obtain⟨R2,x2⟩:=hR.put hn (o:=.lst _) (ho:=.lst xs.dropLast) ⟨_,rfl,e2.dropLast⟩;exact⟨a,xs,x,rfl,rfl,e1,by rw[e2.len];exact x1,hQ ρ _ _ x2 R2 (x3.ext hR x2)⟩
  .cases hf
 .cases hf
end
end L2
namespace L2
open PySem PySem.Spec PyProof.Rows
section
variable{K:Frag}{ρ ρ':List Addr}{H H':Hp}{hd hd':Hd}
noncomputable def AV:MS:=λls hd=>some (.nx ls,hd)
def KU:RS K Hk AV:=by
 intro ρ σ H hd ls E f hd' hR hL hm hQ;cases hm;exact hQ ρ H .refl hR σ hL
noncomputable def A6(a b:MS):MS:=λls hd=>(a ls hd).bind λp=>match p.1 with
 |.nx ls1=>b ls1 p.2
 |f=>some (f,p.2)
def SE(ha:RS K t a)(hb:RS K u b):RS K (Mf t u) (A6 a b):=by
 intro ρ σ H hd ls E f hd' hR hL hm hQ;obtain⟨⟨f1,h1⟩,e1,hm⟩:=iS hm;refine ha ρ σ H hd ls { E with nx:=u E } f1 h1 hR hL e1 λρ1 H1 x1 R1=>?_;cases f1 with
 |nx ls1=>
  intro σ1 L1;exact hb ρ1 σ1 H1 h1 ls1 E f hd' R1 L1 hm λρ2 H2 x2 R2=>hQ ρ2 H2 106 R2
 |bk ls1=>cases hm;exact hQ ρ1 H1 x1 R1
 |ct ls1=>cases hm;exact hQ ρ1 H1 x1 R1
 |rt d=>cases hm;exact hQ ρ1 H1 x1 R1
noncomputable def Ay(m:ME):MS:=λls hd=>(m ls hd).bind λp=>some (.nx ls,p.2)
def Xb(h:RE K t m):RS K (Pr t) (Ay m):=by
 intro ρ σ H hd ls E f hd' hR hL hm hQ;obtain⟨⟨d1,h1⟩,e1,hm⟩:=iS hm;cases hm;exact h ρ σ H hd ls _ d1 _ hR hL e1 λρ1 H1 v x1 R1 r1=>hQ ρ1 H1 x1 R1 σ (hL.ext hR x1)
noncomputable def AK(m:ME):MS:=λls hd=>(m ls hd).bind λp=>some (.rt p.1,p.2)
def N4(h:RE K t m):RS K (Ij t) (AK m):=by
 intro ρ σ H hd ls E f hd' hR hL hm hQ;obtain⟨⟨d1,h1⟩,e1,hm⟩:=iS hm;cases hm;exact h ρ σ H hd ls _ d1 _ hR hL e1 λρ1 H1 v x1 R1 r1=>hQ ρ1 H1 x1 R1 v r1
noncomputable def Ad(c:MT)(a b:MS):MS:=λls hd=>(c ls hd).bind λp=>if p.1=true then a ls p.2 else b ls p.2
def WX(hc:RT K tc c)(ha:RS K t a)(hb:RS K u b):RS K (Mh tc t u) (Ad c a b):=by
 intro ρ σ H hd ls E f hd' hR hL hm hQ;obtain⟨⟨d1,h1⟩,e1,hm⟩:=iS hm;refine hc ρ σ H hd ls _ d1 h1 hR hL e1 λρ1 H1 x1 R1=>?_;cases d1 with
 |true=>
  rw[ia rfl]at hm ⊢;exact ha ρ1 σ H1 h1 ls E f hd' R1 (hL.ext hR x1) hm λρ2 H2 x2 R2=>hQ ρ2 H2 106 R2
 |false=>
  rw[ie Bool.false_ne_true]at hm ⊢;exact hb ρ1 σ H1 h1 ls E f hd' R1 (hL.ext hR x1) hm λρ2 H2 x2 R2=>hQ ρ2 H2 106 R2
noncomputable def Bn:MS:=λ_ _=>none
def N6:RS K JX Bn:=by
 intro ρ σ H hd ls E f hd' hR hL hm hQ;cases hm
noncomputable abbrev MG:=D->Ls->Hd->Option Ls
noncomputable abbrev MGs:=List D->Ls->Hd->Option Ls
def RGt(K:Frag)(t:TG)(m:MG):Prop:=∀(ρ:List Addr) (σ:St) (H:Hp) (hd:Hd) (ls ls':Ls) (d:D) (v:V) (Q:St->Hp->Prop),RH K ρ H hd->RL K ρ H ls σ->RD K ρ H d v->m d ls hd=some ls' ->
 (∀σ',RL K ρ H ls' σ'->Q σ' H)->t v σ H Q
def OE(K:Frag)(t:TGs)(m:MGs):Prop:=∀(ρ:List Addr) (σ:St) (H:Hp) (hd:Hd) (ls ls':Ls) (d:List D) (v:List V) (Q:St->Hp->Prop),RH K ρ H hd->RL K ρ H ls σ->RDs K ρ H d v->m d ls hd=some ls' ->
 (∀σ',RL K ρ H ls' σ'->Q σ' H)->t v σ H Q
theorem RL.set(h:RL K ρ H ls σ)(i:Nat)(r:RD K ρ H d v):RL K ρ H (ls.set i (some d)) (σ.set i (some v)):=by
 refine⟨by simp[h.len],λj e q=>?_⟩;by_cases hij:i=j
 .subst hij;have hl:i<ls.length:=by
   have:=(102 q).1;simpa using this
  rw[List.getElem?_set_self hl]at q;cases q;exact⟨v,by rw[List.getElem?_set_self (by rw[<- h.len];exact hl)],r⟩
 .rw[List.getElem?_set_ne hij]at q;obtain⟨w,e1,e2⟩:=h.ob j e q;exact⟨w,by rw[List.getElem?_set_ne hij];exact e1,e2⟩
noncomputable def AG(i:Nat):MG:=λd ls _=>some (ls.set i (some d))
def KW{i:Nat}:RGt K (E1 i) (AG i):=by
 intro ρ σ H hd ls ls' d v Q hR hL hd hm hQ;cases hm;exact hQ _ (hL.set i hd)
noncomputable def CP:MGs:=λds ls _=>match ds with
 |[]=>some ls
 |_=>none
noncomputable def Ac(m:MG)(r:MGs):MGs:=λds ls hd=>match ds with
 |d::es=>(m d ls hd).bind λls1=>r es ls1 hd
 |[]=>none
def Xg:OE K Vu CP:=by
 intro ρ σ H hd ls ls' d v Q hR hL hd hm hQ;cases d with
 |nil=>
  simp only[RDs]at hd;subst hd;cases hm;exact⟨rfl,hQ _ hL⟩
 |cons a b=>cases hm
def Ub(h:RGt K t m)(h':OE K u r):OE K (Qp t u) (Ac m r):=by
 intro ρ σ H hd ls ls' d v Q hR hL hd hm hQ;cases d with
 |nil=>cases hm
 |cons a b=>
  simp only[RDs]at hd;obtain⟨x,y,rfl,h1,h2⟩:=hd;obtain⟨ls1,e1,e2⟩:=iS hm;exact⟨x,y,rfl,h ρ σ H _ ls ls1 a x _ hR hL h1 e1 λσ1 L1=>h' ρ σ1 H _ ls1 ls' b y Q hR L1 h2 e2 hQ⟩
noncomputable def CO(n:Nat)(r:MGs):MG:=λd ls hd=>(AS d).bind λds=>if 104=n then r ds ls hd else none
def aN{n:Nat}(h':OE K u r):RGt K (Qn K n u) (CO n r):=by
 intro ρ σ H hd ls ls' d v Q hR hL hd hm hQ;obtain⟨ds,e1,hm⟩:=iS hm;split at hm
 .next c=>
  obtain⟨a,xs,rfl,q,rr⟩:=hd.tup e1;exact⟨a,xs,rfl,q,by rw[rr.len];exact c,h' ρ σ H _ ls ls' ds xs Q hR hL rr hm hQ⟩
 .cases hm
noncomputable def JB(m:ME)(g:MG):MS:=λls hd=>(m ls hd).bind λp=>(g p.1 ls p.2).map λls'=>(.nx ls',p.2)
def N7(h:RE K t m)(hg:RGt K g n):RS K (El t g) (JB m n):=by
 intro ρ σ H hd ls E f hd' hR hL hm hQ;obtain⟨⟨d1,h1⟩,e1,hm⟩:=iS hm;obtain⟨ls',e2,e3⟩:=iT hm;cases e3;exact h ρ σ H hd ls _ d1 _ hR hL e1 λρ1 H1 v x1 R1 r1=>hg ρ1 σ H1 _ ls ls' d1 v _ R1 (hL.ext hR x1) r1 e2 λσ' L'=>hQ ρ1 H1 x1 R1 σ' L'
noncomputable abbrev AE(i:Nat)(m:ME):MS:=JB m (AG i)
noncomputable abbrev Gd:=List (Nat×List D)
noncomputable abbrev MI:=Ls->Hd->Option ((List D×Gd)×Hd)
def GOk(hd:Hd)(g:Gd):Prop:=∀p∈g,hd[p.1]?=some (.lst p.2)
@[simp] theorem AQ(hd:Hd):GOk hd []:=λp h=>by cases h
def OA(K:Frag)(ρ:List Addr)(H:Hp)(J:It)(ds:List D)(g:Gd):Prop:=∀(ρ2:List Addr) (H2:Hp) (hd2:Hd),Ext ρ H ρ2 H2->RH K ρ2 H2 hd2->GOk hd2 g ->
 ∀i:Nat,(i<104->J.go i H2/\∀x H3,J.yld i H2 x H3->∃ρ3 d,Ext ρ2 H2 ρ3 H3/\ρ3=ρ2/\RH K ρ3 H3 hd2/\ds[i]?=some d/\RD K ρ3 H3 d x)/\(i=104->J.stop i H2)
def RIt(K:Frag)(t:TI)(m:MI):Prop:=∀(ρ:List Addr) (σ:St) (H:Hp) (hd:Hd) (ls:Ls) (Q:It->Hp->Prop) (d:List D) (g:Gd) (hd':Hd),RH K ρ H hd->RL K ρ H ls σ->m ls hd=some ((d,g),hd') ->
 (∀ρ' H' J,Ext ρ H ρ' H'->RH K ρ' H' hd'->GOk hd' g->OA K ρ' H' J d g->Q J H')->t σ H Q
def Pa(hR:RH K ρ H hd)(q:SqT K H a xs)(r:RDs K ρ H ds xs)(g:Gd):OA K ρ H (Itt K a) ds g:=by
 intro ρ2 H2 hd2 x2 R2 _ i;have q2:=(x2.grow hR).sq q;have r2:=r.ext hR x2;have uniq:∀ys,SqT K H2 a ys->True:=λ_ _=>trivial;refine⟨λhi=>?_,λhi=>⟨xs,q2,by rw[r2.len,hi];exact ig _⟩⟩;have e:ds[i]?=some ds[i]:=by simp[hi]
 obtain⟨x,x1,x3⟩:=r2.get e;refine⟨⟨xs,x,q2,x1⟩,λy H3 ⟨e3,hy⟩=>?_⟩;subst e3;have:=hy xs q2;rw[x1]at this;cases this;exact⟨ρ2,_,.refl,rfl,R2,e,x3⟩
noncomputable def B0(m:ME):MI:=λls hd=>(m ls hd).bind λp=>(AS p.1).map λds=>((ds,[]),p.2)
def SJ(h:RE K t m):RIt K (Ni K t) (B0 m):=by
 intro ρ σ H hd ls Q d g hd' hR hL hm hQ;obtain⟨⟨d1,h1⟩,e1,hm⟩:=iS hm;obtain⟨ds,e2,e3⟩:=iT hm;cases e3;refine h ρ σ H hd ls _ d1 _ hR hL e1 λρ1 H1 v x1 R1 r1=>?_;obtain⟨a,xs,rfl,q,r⟩:=r1.tup e2;exact⟨a,rfl,⟨xs,q⟩,hQ ρ1 H1 _ x1 R1 (AQ _) (Pa R1 q r [])⟩
noncomputable def Br(m:ME):MI:=λls hd=>(m ls hd).bind λp=>match p.1 with
 |.mu n=>match p.2[n]? with
  |some (.lst ds)=>some ((ds,[(n,ds)]),p.2)
  |_=>none
 |.ro ns=>some ((ns.map λn=>.im (.int n),[]),p.2)
 |_=>none
def Oj(h:RE K t m):RIt K (K2 K t) (Br m):=by
 intro ρ σ H hd ls Q d g hd' hR hL hm hQ;obtain⟨⟨d1,h1⟩,e1,hm⟩:=iS hm;dsimp only at hm;split at hm
 .next n=>
  split at hm
  .next ds q=>
   cases hm;refine h ρ σ H hd ls _ _ _ hR hL e1 λρ1 H1 v x1 R1 r1=>?_;simp only[RD]at r1;obtain⟨a,hn,rfl⟩:=r1;obtain⟨xs,e2,e3⟩:=R1.lst hn q;refine⟨a,rfl,⟨xs,SqL.of e2⟩,hQ ρ1 H1 _ x1 R1 (λp z=>by simp at z;subst z;exact q) ?_⟩;intro ρ2 H2 hd2 x2 R2 G2 i;have q2:=G2 (n,d) 55;have hn2:ρ2[n]?=some a:=by
    obtain⟨r,rfl,_⟩:=x2.pre;rw[List.getElem?_append_left (List.getElem?_eq_some_iff.mp hn).1];exact hn
   obtain⟨ys,e4,e5⟩:=R2.lst hn2 q2;refine⟨λhi=>?_,λhi=>⟨ys,SqL.of e4,by rw[e5.len,hi];exact ig _⟩⟩;have e:d[i]?=some d[i]:=by simp[hi]
   obtain⟨x,y1,y2⟩:=e5.get e;refine⟨⟨ys,x,SqL.of e4,y1⟩,λy H3 ⟨e6,hy⟩=>?_⟩;subst e6;have:=hy ys (SqL.of e4);rw[y1]at this;cases this;exact⟨ρ2,_,.refl,rfl,R2,e,y2⟩
  .cases hm
 .next ns=>
  cases hm;refine h ρ σ H hd ls _ _ _ hR hL e1 λρ1 H1 v x1 R1 r1=>?_;simp only[RD]at r1;obtain⟨a,rfl,q⟩:=r1;refine⟨a,rfl,⟨_,q.sq⟩,hQ ρ1 H1 _ x1 R1 (AQ _) ?_⟩;intro ρ2 H2 hd2 x2 R2 G2 i;have q2:=(q.grow (x2.grow R1)).sq;have e5:RDs K ρ2 H2 (ns.map λn=>.im (.int n)) (ns.map V.int):=Fp;refine⟨λhi=>?_,λhi=>⟨_,q2,by rw[e5.len,hi];exact ig _⟩⟩;have e:(ns.map λn=>D.im (.int n))[i]?=some ((ns.map λn=>D.im (.int n))[i]):=by simp[hi]
  obtain⟨x,y1,y2⟩:=e5.get e;refine⟨⟨_,x,q2,y1⟩,λy H3 ⟨e6,hy⟩=>?_⟩;subst e6;have:=hy _ q2;rw[y1]at this;cases this;exact⟨ρ2,_,.refl,rfl,R2,e,y2⟩
 .cases hm
noncomputable def cf(ml:MA):MI:=λls hd=>(ml ls hd).map λp=>((p.1,[]),p.2)
noncomputable def An(lo:Int):Nat->List D
 |0=>[]
 |n+1=>.im (.int lo)::An (lo+1) n
@[simp] theorem Jj(lo:Int)(n:Nat):(An lo n).length=n:=by
 induction n generalizing lo with
 |zero=>rfl
 |succ n ih=>simp[An,ih]
def Jk{n:Nat}:∀{lo:Int} {i:Nat},i<n->(An lo n)[i]?=some (.im (.int (lo+i))):=by
 induction n with
 |zero=>intro lo i h;omega
 |succ n ih=>
  intro lo i h;cases i with
  |zero=>simp[An]
  |succ i=>
   simp only[An,List.getElem?_cons_succ];rw[ih 50]
   congr 3
   push_cast
   omega
def Pb{lo:Int}{n:Nat}:OA K ρ H (Itr lo n) (An lo n) g:=by
 intro ρ2 H2 hd2 x2 R2 G2 i;refine⟨λhi=>?_,λhi=>by rw[hi,Jj];exact ig _⟩;rw[Jj]at hi;refine⟨hi,λx H3 ⟨e1,e2⟩=>?_⟩;subst e1 e2;exact⟨ρ2,_,.refl,rfl,R2,Jk hi,by simp[RD,RI]⟩
open Classical in
noncomputable def Ey(m:MA):MI:=λls hd=>(m ls hd).bind λp=>match p.1 with
 |[.im (.int j)]=>if GI j then some ((An 0 j.toNat,[]),p.2)else none
 |_=>none
def Xf(h:RA K t m):RIt K (Qk t) (Ey m):=by
 intro ρ σ H hd ls Q d g hd' hR hL hm hQ;obtain⟨⟨d1,h1⟩,e1,hm⟩:=iS hm;dsimp only at hm;split at hm
 .next j=>
  split at hm
  .next c=>
   cases hm;refine h ρ σ H hd ls _ _ _ hR hL e1 λρ1 H1 v x1 R1 r1=>?_;simp only[RDs,RD,RI]at r1;obtain⟨x,r,rfl,rfl,rfl⟩:=r1;exact⟨j,rfl,c.1,c.2,hQ ρ1 H1 _ x1 R1 (AQ _) Pb⟩
  .cases hm
 .cases hm
open Classical in
noncomputable def BN(n:MG)(b:MS)(g:Gd):List D->Ls->Hd->Option (Fl×Hd)
 |[],ls,hd=>some (.nx ls,hd)
 |d::r,ls,hd=>(n d ls hd).bind λls1=>(b ls1 hd).bind λp=>match p.1 with
  |.nx ls2=>if GOk p.2 g then BN n b g r ls2 p.2 else none
  |.ct ls2=>if GOk p.2 g then BN n b g r ls2 p.2 else none
  |.bk ls2=>some (.nx ls2,p.2)
  |.rt d=>some (.rt d,p.2)
noncomputable def Bs(mi:MI)(n:MG)(b:MS):MS:=λls hd=>(mi ls hd).bind λp=>BN n b p.1.2 p.1.1 ls p.2
def aC(hi:RIt K wi mi)(hg:RGt K g n)(hb:RS K tb b):RS K (UL wi g tb) (Bs mi n b):=by
 intro ρ σ H hd ls E f hd' hR hL hm hQ;obtain⟨⟨⟨ds,gd⟩,h1⟩,e1,hm⟩:=iS hm;refine hi ρ σ H hd ls _ ds gd h1 hR hL e1 λρ1 H1 J x1 R1 G1 Y=>?_;dsimp only at hm;refine⟨λi m σ2 H2=>m=104-i/\i<=104/\∃ρ2 ls2 hd2,Ext ρ1 H1 ρ2 H2/\RH K ρ2 H2 hd2/\RL K ρ2 H2 ls2 σ2/\GOk hd2 gd/\BN n b gd (ds.drop i) ls2 hd2=some (f,hd'),
  ⟨104,by simp,jk _,ρ1,ls,h1,.refl,R1,hL.ext hR x1,G1,by simpa using hm⟩,?_⟩
 rintro i m σ2 H2 ⟨rfl,hi,ρ2,ls2,hd2,x2,R2,L2',G2,hm2⟩;obtain⟨Y1,Y2⟩:=Y ρ2 H2 hd2 x2 R2 G2 i;by_cases hlt:i<104
 .obtain⟨go,Y1⟩:=Y1 hlt;have ed:ds.drop i=ds[i]::ds.drop (i+1):=List.drop_eq_getElem_cons hlt;rw[ed]at hm2;unfold BN at hm2;obtain⟨ls3,e3,hm2⟩:=iS hm2;obtain⟨⟨fl,hd4⟩,e4,hm2⟩:=iS hm2;refine .inr ⟨go,λσ' H'=>∃ρ2 ls2 hd2,Ext ρ1 H1 ρ2 H'/\RH K ρ2 H' hd2/\RL K ρ2 H' ls2 σ'/\GOk hd2 gd/\BN n b gd (ds.drop (i+1)) ls2 hd2=some (f,hd'),λσ' H' z=>⟨104-(i+1),by omega,rfl,hlt,z⟩,λx H3 y=>?_⟩;obtain⟨ρ3,d3,x3,rfl,R3,e5,r3⟩:=Y1 x H3 y;have e6:d3=ds[i]:=by
   have:ds[i]?=some ds[i]:=by simp[hlt]
   rw[this]at e5;exact(111 e5).symm
  subst e6;refine hg ρ3 σ2 H3 hd2 ls2 ls3 _ x _ R3 (L2'.ext R2 x3) r3 e3 λσ4 L4=>?_;refine hb ρ3 σ4 H3 hd2 ls3 _ fl hd4 R3 L4 e4 λρ5 H5 x5 R5=>?_;have x15:=(x2.trans R2 x3).trans R3 x5;cases fl with
  |nx ls5=>
   intro σ5 L5;dsimp only at hm2;split at hm2
   .next c=>exact⟨ρ5,ls5,hd4,x15,R5,L5,c,hm2⟩
   .cases hm2
  |ct ls5=>
   intro σ5 L5;dsimp only at hm2;split at hm2
   .next c=>exact⟨ρ5,ls5,hd4,x15,R5,L5,c,hm2⟩
   .cases hm2
  |bk ls5=>
   intro σ5 L5;cases hm2;exact hQ ρ5 H5 (x1.trans R1 x15) R5 σ5 L5
  |rt d5=>
   intro v5 r5;cases hm2;exact hQ ρ5 H5 (x1.trans R1 x15) R5 v5 r5
 .have e:i=ds.length:=by omega
  subst e;rw[List.drop_length]at hm2;unfold BN at hm2;cases hm2;exact .inl ⟨Y2 rfl,hQ ρ2 H2 106 R2 σ2 L2'⟩
open Classical in
noncomputable def C5(n:MG)(c:MT)(m:ME)(g:Gd):List D->Ls->Hd->Option (List D×Hd)
 |[],_,hd=>some ([],hd)
 |d::r,ls,hd=>(n d ls hd).bind λls1=>(c ls1 hd).bind λp=>if p.1=true then(m ls1 p.2).bind λq=>if GOk q.2 g then(C5 n c m g r ls1 q.2).map λz=>(q.1::z.1,z.2)else none else if GOk p.2 g then C5 n c m g r ls1 p.2 else none
noncomputable def E5(k:Nat)(ix:List Nat)(ls:Ls):Ls:=108 k none++ix.map λi=>(ls[i]?).join
open Classical in
noncomputable def Ag(k:Nat)(ix:List Nat)(mi:MI)(n:MG)(c:MT)(m:ME):MA:=λls hd=>(mi ls hd).bind λp=>if Bg p.1.1.length then C5 n c m p.1.2 p.1.1 (E5 k ix ls) p.2 else none
def Zb{k:Nat}(h:RL K ρ H ls σ):RL K ρ H (E5 k ix ls) (HW k ix σ):=by
 refine⟨by simp[E5,HW],λi d e=>?_⟩;unfold E5 at e;unfold HW;by_cases hi:i<k
 .rw[List.getElem?_append_left (by simpa using hi),List.getElem?_replicate]at e;split at e<;>cases e
 .have hi':k<=i:=not_lt.mp hi;rw[List.getElem?_append_right (by simpa using hi'),List.length_replicate,List.getElem?_map]at e ⊢;cases q:ix[i-k]? with
  |none=>rw[q]at e;cases e
  |some j=>
   rw[q]at e;simp only[j4,Option.some.injEq]at e ⊢;have e5:ls[j]?=some (some d):=by
    cases w:ls[j]? with
    |none=>rw[w]at e;cases e
    |some z=>rw[w]at e;simpa using e
   obtain⟨v,e6,e7⟩:=h.ob j d e5;exact⟨v,by rw[e6];rfl,e7⟩
def RH.hputO(h:RH K ρ H hd)(out:a∉ρ)(hl:H a=some o)(c:Chg H a)(n1:∀ps,o≠.tbl ps)(n2:∀φ,o≠.ext φ):RH K ρ (upd H a ho) hd:=by
 have gr:Grow H (upd H a ho):=Grow.refl.put c;refine⟨h.len,h.nd,h.tabs.upd (λps z=>n1 ps (111 (hl.symm.trans z))) (λps z=>n2 ps (111 (hl.symm.trans z))),λm o' b e1 e2=>?_⟩;obtain⟨ho',q1,q2⟩:=h.ob m o' b e1 e2;have:b≠a:=λz=>out (by rw[<- z];exact j6 e2);exact⟨ho',by rw[upd_ne this];exact q1,by simpa using q2.mono gr []⟩
def Ext.outk(x:Ext ρ H ρ' H')(h:H a=some o)(out:a∉ρ):a∉ρ':=by
 obtain⟨r,rfl,fr⟩:=x.pre;intro z;rcases mem_append.mp z with z|z
 .exact out z
 .have:=fr _ z;rw[h]at this;cases this
structure Acc(K:Frag)(α:Type)(o0:HO)(a0:α) where
 rel:List Addr->Hp->α->HO->Prop
 mono:∀{ρ:List Addr} {H H':Hp} {a:α} {o:HO} (r:List Addr),Grow H H'->rel ρ H a o->rel (ρ++r) H' a o
 chg:∀{ρ:List Addr} {H:Hp} {a:α} {o:HO},rel ρ H a o->¬ Stb o
 chg2:∀{ρ:List Addr} {H:Hp} {a:α} {o:HO},rel ρ H a o->(∀xs,o≠.tbl xs)/\∀z,o≠.ext z
 init:∀ρ H,rel ρ H a0 o0
noncomputable abbrev MM(α:Type):=Ls->Hd->α->Option (α×Hd)
def RM1{α:Type}{o0:HO}{a0:α}(B:Acc K α o0 a0)(t:TM)(m:MM α):Prop:=∀(ρ:List Addr) (σ:St) (H:Hp) (hd:Hd) (ls:Ls) (a a':α) (hd':Hd) (Da:Addr) (o:HO) (Q:Hp->Prop),RH K ρ H hd->RL K ρ H ls σ->Da∉ρ->H Da=some o->B.rel ρ H a o ->
 m ls hd a=some (a',hd')->(∀ρ' H' o',Ext ρ H ρ' H'->RH K ρ' H' hd'->H' Da=some o->B.rel ρ' H' a' o'->Q (upd H' Da o'))->t Da σ H Q
open Classical in
noncomputable def mGo{α:Type}(n:MG)(c:MT)(me:MM α)(g:Gd):List D->Ls->Hd->α->Option (α×Hd)
 |[],_,hd,a=>some (a,hd)
 |d::r,ls,hd,a=>(n d ls hd).bind λls1=>(c ls1 hd).bind λp=>if p.1=true then(me ls1 p.2 a).bind λq=>if GOk q.2 g then mGo n c me g r ls1 q.2 q.1 else none else if GOk p.2 g then mGo n c me g r ls1 p.2 a else none
noncomputable def HE{α:Type}(k:Nat)(ix:List Nat)(mi:MI)(n:MG)(c:MT)(a0:α)(me:MM α):Ls->Hd->Option (α×Hd):=λls hd=>(mi ls hd).bind λp=>mGo n c me p.1.2 p.1.1 (E5 k ix ls) p.2 a0
def RNG{α:Type}{o0:HO}{a0:α}(B:Acc K α o0 a0)(t:TE)(m:Ls->Hd->Option (α×Hd)):Prop:=∀(ρ:List Addr) (σ:St) (H:Hp) (hd:Hd) (ls:Ls) (Q:VK) (a:α) (hd':Hd),RH K ρ H hd->RL K ρ H ls σ->m ls hd=some (a,hd') ->
 (∀ρ' H' Da o,Ext ρ H ρ' H'->RH K ρ' H' hd'->H Da=none->Da∉ρ'->H' Da=some o->B.rel ρ' H' a o->Q (.ref Da) H')->t σ H Q
def N9{α:Type}{o0:HO}{a0:α}{B:Acc K α o0 a0}{k:Nat}{ix:List Nat}{wi:TI}{g:TG}{tf:TT}{tm:TM}{mi:MI}{n:MG}{c:MT}{m:MM α}(hi:RIt K wi mi)(hg:RGt K g n)(hf:RT K tf c)(he:RM1 B tm m):RNG B (Fd o0 k ix wi g tf tm) (HE k ix mi n c a0 m):=by
 intro ρ σ H hd ls Q out hd' hR hL hm hQ;obtain⟨⟨⟨ds,gd⟩,h1⟩,e1,hm⟩:=iS hm;dsimp only at hm;refine hi ρ σ H hd ls _ ds gd h1 hR hL e1 λρ1 H1 J x1 R1 G1 Y=>?_;intro Da hDa;obtain⟨R1',x1'⟩:=R1.hid (ho:=o0) hDa;have oD:Da∉ρ1:=R1.out hDa;have nD:H Da=none:=x1.none hR hDa R1;refine⟨λi mm σ2 H2=>mm=104-i/\i<=104/\∃ρ2 ls2 hd2 a2 o2,Ext ρ1 H1 ρ2 H2/\Da∉ρ2/\H2 Da=some o2/\RH K ρ2 H2 hd2/\RL K ρ2 H2 ls2 σ2/\B.rel ρ2 H2 a2 o2/\GOk hd2 gd/\mGo n c m gd (ds.drop i) ls2 hd2 a2=some (out,hd'),
  ⟨104,by simp,jk _,ρ1,_,h1,a0,o0,x1',oD,AF,R1',(Zb ((hL.ext hR x1).ext R1 x1')),B.init _ _,G1,by simpa using hm⟩,?_⟩
 rintro i mm σ2 H2 ⟨rfl,hi,ρ2,ls2,hd2,a2,o2,x2,oD2,hD2,R2,L2',r2,G2,hm2⟩;obtain⟨Y1,Y2⟩:=Y ρ2 H2 hd2 x2 R2 G2 i;by_cases hlt:i<104
 .obtain⟨go,Y1⟩:=Y1 hlt;have ed:ds.drop i=ds[i]::ds.drop (i+1):=List.drop_eq_getElem_cons hlt;rw[ed]at hm2;unfold mGo at hm2;obtain⟨ls3,e3,hm2⟩:=iS hm2;obtain⟨⟨bb,hd4⟩,e4,hm2⟩:=iS hm2;refine .inr ⟨go,λσ' H'=>∃ρ2 ls2 hd2 a2 o2,Ext ρ1 H1 ρ2 H'/\Da∉ρ2/\H' Da=some o2/\RH K ρ2 H' hd2/\RL K ρ2 H' ls2 σ'/\B.rel ρ2 H' a2 o2/\GOk hd2 gd/\mGo n c m gd (ds.drop (i+1)) ls2 hd2 a2=some (out,hd'),λσ' H' z=>⟨104-(i+1),by omega,rfl,hlt,z⟩,λx H3 y=>?_⟩;obtain⟨ρ3,d3,x3,rfl,R3,e5,r3⟩:=Y1 x H3 y;have e6:d3=ds[i]:=by
   have:ds[i]?=some ds[i]:=by simp[hlt]
   rw[this]at e5;exact(111 e5).symm
  subst e6;refine hg ρ3 σ2 H3 hd2 ls2 ls3 _ x _ R3 (L2'.ext R2 x3) r3 e3 λσ4 L4=>?_;refine hf ρ3 σ4 H3 hd2 ls3 _ bb hd4 R3 L4 e4 λρ5 H5 x5 R5=>?_;have hD3:H3 Da=some o2:=x3.keep Da _ hD2 oD2 (B.chg2 r2).1;have hD5:H5 Da=some o2:=x5.keep Da _ hD3 oD2 (B.chg2 r2).1;have out5:Da∉ρ5:=x5.outk hD3 oD2;have y25:=x3.trans R3 x5;have r5:B.rel ρ5 H5 a2 o2:=by
   obtain⟨r,rfl,fr⟩:=y25.pre;exact B.mono r (y25.grow R2) r2
  cases bb with
  |false=>
   rw[ie Bool.false_ne_true]at hm2 ⊢;split at hm2
   .next g5=>exact⟨ρ5,ls3,hd4,a2,o2,x2.trans R2 y25,out5,hD5,R5,L4.ext R3 x5,r5,g5,hm2⟩
   .cases hm2
  |true=>
   rw[ia rfl]at hm2 ⊢;obtain⟨⟨z,hd6⟩,e6,hm2⟩:=iS hm2;dsimp only at hm2;split at hm2
   .next g6=>
    refine he ρ5 σ4 H5 hd4 ls3 a2 z hd6 Da o2 _ R5 (L4.ext R3 x5) out5 hD5 r5 e6 λρ6 H6 o6 x6 R6 hD6 r6=>?_;have out6:Da∉ρ6:=x6.outk hD5 out5;have c6:Chg H6 Da:=λu st z=>B.chg r5 (by rw[hD6]at z;cases z;exact st);have gr:Grow H6 (upd H6 Da o6):=Grow.refl.put c6;have R7:=R6.hputO (ho:=o6) out6 hD6 c6 (B.chg2 r5).1 (B.chg2 r5).2;have x12:=(x2.trans R2 y25).trans R5 x6;have ext7:Ext ρ1 H1 ρ6 (upd H6 Da o6):=⟨x12.pre,λb o q nb t=>by
     have:b≠Da:=AJ q hDa;rw[upd_ne this];exact x12.keep b o q nb t,λb ps q=>by
     have:b≠Da:=AJ q hDa;rw[upd_ne this];exact x12.tab b ps q⟩
    have L6:=(L4.ext R3 x5).ext R5 x6;exact⟨ρ6,ls3,hd6,z,o6,ext7,out6,AF,R7,⟨L6.len,λi d e=>let ⟨v,a,b⟩:=L6.ob i d e;⟨v,a,by simpa using b.mono gr []⟩⟩,by simpa using B.mono [] gr r6,g6,hm2⟩
   .cases hm2
 .have e:i=ds.length:=by omega
  subst e;rw[List.drop_length]at hm2;unfold mGo at hm2;cases hm2;exact .inl ⟨Y2 rfl,hQ ρ2 H2 Da o2 106 R2 nD oD2 hD2 r2⟩
noncomputable def gH(K:Frag):Acc K (List D) (.lst []) [] where
 rel:=λρ H a o=>∃xs,o=.lst xs/\RDs K ρ H a xs
 mono:=λr g ⟨xs,e,q⟩=>⟨xs,e,q.mono g r⟩
 chg:=λ⟨xs,e,q⟩ st=>by subst e;exact st
 chg2:=λ⟨xs,e,q⟩=>⟨λ_ z=>(by subst e;cases z),λ_ z=>(by subst e;cases z)⟩
 init:=λρ H=>⟨[],rfl,.nil⟩
noncomputable def Qh(m:ME):MM (List D):=λls hd a=>(m ls hd).bind λq=>if a.length<sizeLine then some (a++[q.1],q.2)else none
def aK(he:RE K te m):RM1 (gH K) (Qi te) (Qh m):=by
 intro ρ σ H hd ls a a' hd' Da o Q hR hL out hD hrel hm hQ;obtain⟨⟨d1,h1⟩,e1,hm⟩:=iS hm;obtain⟨xs,rfl,r⟩:=hrel;dsimp only at hm;split at hm
 .next c=>
  cases hm;refine he ρ σ H hd ls _ d1 _ hR hL e1 λρ1 H1 v1 x1 R1 r1=>?_;have hD1:H1 Da=some (.lst xs):=x1.keep Da _ hD out nt;have r':=r.ext hR x1;exact⟨xs,hD1,by rw[r'.len];exact c,hQ ρ1 H1 _ x1 R1 hD1 ⟨_,rfl,r'.app (.cons r1 .nil)⟩⟩
 .cases hm
theorem Na{n:MG}{c:MT}{m:ME}{g:Gd}{hd':Hd}:∀{ds:List D} {ls:Ls} {hd:Hd} {a rest:List D},a.length+104<=sizeLine->C5 n c m g ds ls hd=some (rest,hd')->mGo n c (Qh m) g ds ls hd a=some (a++rest,hd')
 |[],ls,hd,a,rest,l,e=>by cases e;simp[mGo]
 |d::r,ls,hd,a,rest,l,e=>by
  rw[j8]at l;unfold C5 at e;unfold mGo;obtain⟨ls1,e1,e⟩:=iS e;obtain⟨⟨b,h1⟩,e2,e⟩:=iS e;rw[e1,bind_some,e2,bind_some];cases b with
  |false=>
   simp only[Bool.false_eq_true,j5]at e ⊢;split at e
   .next q=>rw[ia q];exact Na 50 e
   .cases e
  |true=>
   simp only[iy]at e ⊢;obtain⟨⟨z,h2⟩,e3,e⟩:=iS e;dsimp only at e;split at e
   .next q=>
    obtain⟨⟨zs,h3⟩,e4,e⟩:=iT e;cases e;simp only[Qh,e3,bind_some];rw[ia (show a.length<sizeLine by omega)];simp only[bind_some];rw[ia q,Na 112 e4];simp
   .cases e
def Oi{k:Nat}{ix:List Nat}{wi:TI}{g:TG}{tf:TT}{te:TE}{mi:MI}{n:MG}{c:MT}{m:ME}(hi:RIt K wi mi)(hg:RGt K g n)(hf:RT K tf c)(he:RE K te m):RN K (GE k ix wi g tf te) (Ag k ix mi n c m):=by
 intro ρ σ H hd ls Q out hd' hR hL hm hQ;obtain⟨⟨⟨ds,gd⟩,h1⟩,e1,hm⟩:=iS hm;dsimp only at hm;split at hm
 .next hlen=>
  have hlen:104<=sizeLine:=hlen;refine N9 hi hg hf (aK he) ρ σ H hd ls Q out hd' hR hL (Option.bind_eq_some_iff.mpr ⟨_,e1,Na (by simpa using hlen) hm⟩) λρ' H' Da o x R n1 n2 e r=>?_;obtain⟨xs,rfl,r⟩:=r;exact hQ ρ' H' Da xs x R n1 n2 e r
 .cases hm
end
mutual
noncomputable def clD(w:Nat):D->Bool
 |.im _=>true
 |.mu n=>decide (n<w)
 |.tm ds=>Al w ds
 |.ro _=>true
 |.op _ _ ds=>Al w ds
 |.fv _ ds=>Al w ds
noncomputable def Al(w:Nat):List D->Bool
 |[]=>true
 |d::ds=>clD w d&&Al w ds
end
noncomputable def Gb(w:Nat):List (Key×D)->Bool
 |[]=>true
 |d::ds=>clD w d.2&&Gb w ds
noncomputable def clO(w:Nat):MO->Bool
 |.lst ds=>Al w ds
 |.dic ds=>Gb w ds
section
variable{K:Frag}
@[simp] theorem gF{w:Nat}(a b:List D):Al w (a++b)=(Al w a&&Al w b):=by induction a<;>simp_all [Al,Bool.and_assoc]
mutual
theorem RD.take(w:Nat):∀{d:D} {v:V},RD K ρ H d v->clD w d=true->RD K (ρ.take w) H d v
 |.im i,v,h,_=>by simp only[RD]at h ⊢;exact h
 |.mu n,v,h,c=>by
  simp only[RD]at h ⊢;obtain⟨a,e,q⟩:=h;exact⟨a,by rw[List.getElem?_take_of_lt (by simpa [clD]using c)];exact e,q⟩
 |.tm ds,v,h,c=>by
  simp only[RD]at h ⊢;obtain⟨a,xs,e,q,z⟩:=h;exact⟨a,xs,e,q,RDs.take' w z (by simpa [clD]using c)⟩
 |.ro ns,v,h,c=>by simp only[RD]at h ⊢;exact h
 |.op nm fs ds,v,h,c=>by
  simp only[RD]at h ⊢;obtain⟨a,xs,e,q,z⟩:=h;exact⟨a,xs,e,q,RDs.take' w z (by simpa [clD]using c)⟩
 |.fv k ds,v,h,c=>by
  simp only[RD]at h ⊢;obtain⟨a,xs,e,q,z⟩:=h;exact⟨a,xs,e,q,RDs.take' w z (by simpa [clD]using c)⟩
theorem RDs.take'(w:Nat):∀{d:List D} {v:List V},RDs K ρ H d v->Al w d=true->RDs K (ρ.take w) H d v
 |[],v,h,_=>by simpa only[RDs]using h
 |d::ds,v,h,c=>by
  simp only[RDs]at h ⊢;obtain⟨x,r',e,q,z⟩:=h;have c:clD w d=true/\Al w ds=true:=by simpa [Al]using c
  exact⟨x,r',e,q.take w c.1,RDs.take' w z c.2⟩
end
theorem RKs.take(w:Nat):∀{d:List (Key×D)} {v:List (Key×V)},RKs K ρ H d v->Gb w d=true->RKs K (ρ.take w) H d v
 |[],v,h,_=>by simpa only[RKs]using h
 |d::ds,v,h,c=>by
  simp only[RKs]at h ⊢;obtain⟨x,r',e,q1,q,z⟩:=h;have c:clD w d.2=true/\Gb w ds=true:=by simpa [Gb]using c
  exact⟨x,r',e,q1,q.take w c.1,RKs.take w z c.2⟩
theorem RC.take(w:Nat)(h:RC K ρ H o ho)(c:clO w o=true):RC K (ρ.take w) H o ho:=by
 cases o with
 |lst ds=>obtain⟨xs,e,q⟩:=h;exact⟨xs,e,q.take' w c⟩
 |dic ds=>obtain⟨xs,e,q⟩:=h;exact⟨xs,e,q.take w c⟩
theorem RH.take(h:RH K ρ H hd)(w:Nat)(c:(hd.take w).all (clO w)=true):RH K (ρ.take w) H (hd.take w):=by
 refine⟨by simp[h.len],h.nd.sublist (List.take_sublist _ _),h.tabs,λn o a e1 e2=>?_⟩;have co:=all_eq_true.mp c o (j6 e1);have hn:n<w:=by
  have:=(102 e1).1;simp at this;omega
 rw[List.getElem?_take_of_lt hn]at e1 e2;obtain⟨ho,q1,q2⟩:=h.ob n o a e1 e2;exact⟨ho,q1,q2.take w co⟩
def RH.back(R1:RH K ρ1 H1 h1){w:Nat}(hw:w<=h1.length)(c1:(h1.take w).all (clO w)=true)(x:Ext (ρ1.take w) H1 ρ' H')(R':RH K ρ' H' h2)(c:(h2.take w).all (clO w)=true):
 RH K ρ1 H' (h2.take w++h1.drop w)/\Ext ρ1 H1 ρ1 H'/\ρ'.take w=ρ1.take w:=by
 obtain⟨r,rfl,fr⟩:=x.pre;have lw:(ρ1.take w).length=w:=by rw[ji,R1.len];omega
 have l2:w<=h2.length:=by rw[<- R'.len];simp[lw]
 have tk:(ρ1.take w++r).take w=ρ1.take w:=by rw[List.take_append_of_le_length 50,List.take_take];simp
 refine⟨⟨?_,R1.nd,R'.tabs,λn o a e1 e2=>?_⟩,⟨⟨[],by simp,by simp⟩,λb o q nb t=>x.keep b o q (λm=>nb (List.mem_of_mem_take m)) t,x.tab⟩,tk⟩
 .rw[jb,ji,length_drop,R1.len];omega
 .by_cases hn:n<w
  .rw[List.getElem?_append_left (by rw[ji];omega),List.getElem?_take_of_lt hn]at e1;have e3:(ρ1.take w++r)[n]?=some a:=by
    rw[List.getElem?_append_left 50,List.getElem?_take_of_lt hn];exact e2
   obtain⟨ho,q1,q2⟩:=R'.ob n o a e1 e3;have co:=all_eq_true.mp c o (by
    have:(h2.take w)[n]?=some o:=by rw[List.getElem?_take_of_lt hn];exact e1
    exact j6 this)
   have q3:=q2.take w co;rw[tk]at q3;have q4:=q3.mono (Grow.refl (H:=H')) (ρ1.drop w);rw[List.take_append_drop]at q4;exact⟨ho,q1,q4⟩
  .rw[List.getElem?_append_right (by rw[ji];omega),ji,List.getElem?_drop]at e1;have e1:h1[n]?=some o:=by
    have:w+(n-min w h2.length)=n:=by omega
    rw[this]at e1;exact e1
   obtain⟨ho,q1,q2⟩:=R1.ob n o a e1 e2;have out:a∉ρ1.take w:=λm=>by
    obtain⟨k,hk⟩:=mem_iff_getElem?.mp m;have kw:k<w:=by
     have:=(102 hk).1;rw[lw]at this;exact this
    rw[List.getElem?_take_of_lt kw]at hk;have:=(List.getElem?_inj (102 e2).1 R1.nd).mp (e2.trans hk.symm);omega
   have gr:=x.grow (R1.take w c1);exact⟨ho,x.keep a ho q1 out (λps z=>by rcases R1.mut (j6 e2)with⟨y,w⟩|⟨y,w⟩<;>(rw[q1,z]at w;cases w)),by simpa using q2.mono gr []⟩
noncomputable def spF(K:Frag)(k:Nat)(F:List D->Hd->Option (D×Hd)):Sp:=λvs H Q _=>vs.length=k/\∃(ρ:List Addr) (hd:Hd) (ds:List D) (d:D) (hd':Hd),RH K ρ H hd/\RDs K ρ H ds vs/\F ds hd=some (d,hd')/\
 ∀ρ' H' v,Ext ρ H ρ' H'->RH K ρ' H' hd'->RD K ρ' H' d v->Q v H'
noncomputable def mkF(k n:Nat)(m:MS):List D->Hd->Option (D×Hd):=λds hd=>if 104=k then(match m (ds.map some++108 (n-k) none) hd with
 |some (.rt d,hd')=>some (d,hd')
 |some (.nx _,hd')=>some (.im .non,hd')
 | _=>none)else none
def Ip{N:List Str}:∀{ds:List D} {vs:List V},RDs K ρ H ds vs->RL K ρ H (ds.map some++108 (N.length-104) none) (start N vs):=by
 intro ds vs r;have hl:=r.len;refine⟨by simp[start,hl],λi d e=>?_⟩;unfold start;by_cases hi:i<104
 .rw[List.getElem?_append_left (by simpa using hi),List.getElem?_map]at e;have e':ds[i]?=some d:=by
   cases q:ds[i]? with
   |none=>rw[q]at e;cases e
   |some z=>rw[q]at e;simpa using e
  obtain⟨x,x1,x2⟩:=r.get e';exact⟨x,by rw[List.getElem?_append_left (by rw[iV,hl];exact hi),List.getElem?_map,x1];rfl,x2⟩
 .rw[List.getElem?_append_right (by simpa using not_lt.mp hi),List.getElem?_replicate]at e;split at e<;>cases e
def KO{k:Nat}{N:List Str}(h:RS K t m)(s:spF K k (mkF k N.length m) vs H Q E):t { nx:=λ_ H'=>Q .non H',rt:=Q } (start N vs) H:=by
 obtain⟨hk,ρ,hd,ds,d,hd',hR,hr,hF,hQ⟩:=s;unfold mkF at hF;split at hF
 .next hl=>
  subst hl;split at hF
  .next q=>
   cases hF;exact h ρ _ H hd _ _ _ _ hR (Ip hr) q λρ' H' x R v r=>hQ ρ' H' v x R r
  .next q=>
   cases hF;exact h ρ _ H hd _ _ _ _ hR (Ip hr) q λρ' H' x R σ L=>hQ ρ' H' .non x R (by simp[RD,RI])
  .cases hF
 .cases hF
noncomputable def D0(F:List D->Hd->Option (D×Hd))(ma:MA):ME:=λls hd=>(ma ls hd).bind λp=>F p.1 p.2
def Ul{k:Nat}{F:List D->Hd->Option (D×Hd)}(h:RA K t m)(hk:∀ds hd z,F ds hd=some z->104=k):RE K (Dy (spF K k F) [] E0 t) (D0 F m):=by
 and_intros;obtain⟨⟨d1,h1⟩,e1,hm⟩:=iS hm;refine h ρ σ H hd ls _ d1 h1 hR hL e1 λρ1 H1 v1 x1 R1 r1=>?_;rw[je];exact⟨by rw[r1.len];exact hk _ _ _ hm,ρ1,h1,d1,d,hd',R1,r1,hm,λρ' H' w x2 R2 r2=>hQ ρ' H' w 106 R2 r2⟩
def Ki{k n:Nat}:∀ds hd z,mkF k n m ds hd=some z->104=k:=λds hd z h=>by
 unfold mkF at h;split at h
 .next e=>exact e
 .cases h
def fin(w:Nat)(d:D)(h2 rest:Hd):Option (D×Hd):=if(h2.take w).all (clO w)=true then(match d with
 | .mu k=>if k<w then some (.mu k,h2.take w++rest)else(match h2[k]? with
  |some (.lst ds)=>if Al w ds=true then some (.mu (w+rest.length),h2.take w++rest++[.lst ds])else none
  | _=>none)
 | d=>if clD w d=true then some (d,h2.take w++rest)else none)else none
noncomputable def A9(w:Nat)(F:List D->Hd->Option (D×Hd))(ma:MA):ME:=λls hd=>(ma ls hd).bind λp=>
 if w<=p.2.length/\Al w p.1=true/\(p.2.take w).all (clO w)=true then(F p.1 (p.2.take w)).bind λr=>fin w r.1 r.2 (p.2.drop w)else none
def Ir{w k:Nat}{F:List D->Hd->Option (D×Hd)}(h:RA K t m)(hk:∀ds hd z,F ds hd=some z->104=k):RE K (Dy (spF K k F) [] E0 t) (A9 w F m):=by
 and_intros;obtain⟨⟨d1,h1⟩,e1,hm⟩:=iS hm;dsimp only at hm;split at hm
 .next c=>
  obtain⟨c0,c1,c2⟩:=c;obtain⟨⟨d2,h2⟩,e2,hm⟩:=iS hm;refine h ρ σ H hd ls _ d1 h1 hR hL e1 λρ1 H1 v1 x1 R1 r1=>?_;rw[je];refine⟨by rw[r1.len];exact hk _ _ _ e2,ρ1.take w,h1.take w,d1,d2,h2,R1.take w c2,r1.take' w c1,e2,λρ' H' v x2 R2 r2=>?_⟩;unfold fin at hm;dsimp only at hm;split at hm
  .next c3=>
   obtain⟨R3,x3,tk⟩:=R1.back c0 c2 x2 R2 c3;have up:∀{d:D} {v:V},RD K ρ' H' d v->clD w d=true->RD K ρ1 H' d v:=λr c=>by
    have q:=r.take w c;rw[tk]at q;have q:=q.mono (Grow.refl (H:=H')) (ρ1.drop w);rw[List.take_append_drop]at q;exact q
   have ups:∀{d:List D} {v:List V},RDs K ρ' H' d v->Al w d=true->RDs K ρ1 H' d v:=λr c=>by
    have q:=r.take' w c;rw[tk]at q;have q:=q.mono (Grow.refl (H:=H')) (ρ1.drop w);rw[List.take_append_drop]at q;exact q
   split at hm
   .next k'=>
    split at hm
    .next hk'=>
     cases hm;exact hQ ρ1 H' v (x1.trans R1 x3) R3 (up r2 (by simpa [clD]using hk'))
    .next hk'=>
     split at hm
     .next ds q=>
      split at hm
      .next c4=>
       cases hm;simp only[RD]at r2;obtain⟨a,ea,rfl⟩:=r2;obtain⟨xs,l1,l2⟩:=R2.lst ea q;have len3:=R3.len;have out:a∉ρ1:=λm=>by
        -- a is one of those made behind the first w
        obtain⟨r,er,fr⟩:=x2.pre;have lw:(ρ1.take w).length=w:=by rw[ji,R1.len];omega
        have ma:a∈r:=by
         rw[er,List.getElem?_append_right (by rw[lw];omega)]at ea;exact j6 ea
        exact R1.out (fr a ma) m
       have na:H1 a=none:=by
        obtain⟨r,er,fr⟩:=x2.pre;have lw:(ρ1.take w).length=w:=by rw[ji,R1.len];omega
        have ma:a∈r:=by
         rw[er,List.getElem?_append_right (by rw[lw];omega)]at ea;exact j6 ea
        exact fr a ma
       refine hQ (ρ1++[a]) H' _ (x1.trans R1 (x3.name na)) (R3.name out l1 (ups l2 c4)) ?_;simp only[RD];refine⟨a,?_,rfl⟩;have:w+(List.drop w h1).length=ρ1.length:=by rw[length_drop,R1.len];omega
       rw[this];simp
      .cases hm
     .cases hm
   .next d' nd=>
    split at hm
    .next c4=>cases hm;exact hQ ρ1 H' v (x1.trans R1 x3) R3 (up r2 c4)
    .cases hm
  .cases hm
 .cases hm
noncomputable def Ax(c:MT)(b:MS):Nat->Ls->Hd->Option (Fl×Hd)
 |0,_,_=>none
 | k+1,ls,hd=>(c ls hd).bind λp=>if p.1=true then(b ls p.2).bind λq=>(match q.1 with
  |.nx ls2=>Ax c b k ls2 q.2
  |.ct ls2=>Ax c b k ls2 q.2
  |.bk ls2=>some (.nx ls2,q.2)
  | .rt d=>some (.rt d,q.2))else some (.nx ls,p.2)
open Classical in
noncomputable def CL(c:MT)(b:MS):MS:=λls hd=>if h:∃r k,Ax c b k ls hd=some r then some h.choose else none
theorem Dw:∀{k j:Nat} {ls:Ls} {hd:Hd} {r:Fl×Hd},Ax c b k ls hd=some r->k<=j->Ax c b j ls hd=some r
 |0,_,_,_,_,h,_=>by cases h
 |k+1,0,_,_,_,_,hj=>by omega
 |k+1,j+1,ls,hd,r,h,hj=>by
  unfold Ax at h ⊢;obtain⟨p,e1,h⟩:=iS h;rw[e1];show(if p.1=true then _ else _)=_;split at h
  .next c=>
   rw[ia c];obtain⟨q,e2,h⟩:=iS h;rw[e2];obtain⟨f,hd2⟩:=q;cases f with
   |nx ls2=>exact Dw h 50
   |ct ls2=>exact Dw h 50
   |bk ls2=>exact h
   |rt d=>exact h
  .next c=>rw[ie c];exact h
def LQ{k:Nat}(h:Ax c b k ls hd=some r):CL c b ls hd=some r:=by
 unfold CL;have ex:∃r k,Ax c b k ls hd=some r:=⟨r,k,h⟩
 rw[dif_pos ex];obtain⟨j,e⟩:=ex.choose_spec;have e1:=Dw e (Nat.le_max_left j k);have e2:=Dw h (Nat.le_max_right j k);rw[e1]at e2;exact e2
def UX(hc:RT K tc c)(hb:RS K tb b):RS K (Md tc tb) (CL c b):=by
 intro ρ σ H hd ls E f hd' hR hL hm hQ;obtain⟨k,hk⟩:∃k,Ax c b k ls hd=some (f,hd'):=by
  unfold CL at hm;split at hm
  .next ex=>
   obtain⟨j,e⟩:=ex.choose_spec;exact⟨j,by rw[e];exact hm⟩
  .cases hm
 refine⟨λm σ2 H2=>∃ρ2 ls2 hd2,Ext ρ H ρ2 H2/\RH K ρ2 H2 hd2/\RL K ρ2 H2 ls2 σ2/\Ax c b m ls2 hd2=some (f,hd'),⟨k,ρ,ls,hd,.refl,hR,hL,hk⟩,?_⟩;rintro m σ2 H2 ⟨ρ2,ls2,hd2,x2,R2,L2',hm2⟩;cases m with
 |zero=>cases hm2
 |succ m=>
  unfold Ax at hm2;obtain⟨⟨bb,hd3⟩,e1,hm2⟩:=iS hm2;refine hc ρ2 σ2 H2 hd2 ls2 _ bb hd3 R2 L2' e1 λρ3 H3 x3 R3=>?_;cases bb with
  |false=>
   rw[ie Bool.false_ne_true]at hm2 ⊢;cases hm2;exact hQ ρ3 H3 (x2.trans R2 x3) R3 σ2 (L2'.ext R2 x3)
  |true=>
   rw[ia rfl]at hm2 ⊢;obtain⟨⟨fl,hd4⟩,e2,hm2⟩:=iS hm2;refine⟨λσ' H'=>∃ρ2 ls2 hd2,Ext ρ H ρ2 H'/\RH K ρ2 H' hd2/\RL K ρ2 H' ls2 σ'/\Ax c b m ls2 hd2=some (f,hd'),λσ' H' z=>⟨m,Nat.lt_succ_self m,z⟩,?_⟩;refine hb ρ3 σ2 H3 hd3 ls2 _ fl hd4 R3 (L2'.ext R2 x3) e2 λρ5 H5 x5 R5=>?_;have x15:=(x2.trans R2 x3).trans R3 x5;cases fl with
   |nx ls5=>intro σ5 L5;exact⟨ρ5,ls5,hd4,x15,R5,L5,hm2⟩
   |ct ls5=>intro σ5 L5;exact⟨ρ5,ls5,hd4,x15,R5,L5,hm2⟩
   |bk ls5=>intro σ5 L5;cases hm2;exact hQ ρ5 H5 x15 R5 σ5 L5
   |rt d5=>intro v5 r5;cases hm2;exact hQ ρ5 H5 x15 R5 v5 r5
noncomputable def BC(kvs:List (Key×D))(k:Key):Option D:=(kvs.find? λkv=>decide (kv.1=k)).map (·.2)
noncomputable def Dq(kvs:List (Key×D))(k:Key)(v:D):List (Key×D):=
 if(kvs.any λkv=>decide (kv.1=k))=true then kvs.map (λkv=>if kv.1=k then(kv.1,v)else kv)else kvs++[(k,v)]
theorem RKs.val:∀{kvs:List (Key×D)} {xs:List (Key×V)} {k:Key} {d:D},RKs K ρ H kvs xs->BC kvs k=some d->∃v,Di xs k=some v/\RD K ρ H d v
 |[],xs,k,d,h,e=>by simp[BC]at e
 |p::kvs,xs,k,d,h,e=>by
  simp only[RKs]at h;obtain⟨x,r,rfl,e1,r1,r2⟩:=h;by_cases hk:p.1=k
  .rw[Ei (e1.trans hk)];simp[BC,jg,hk]at e;subst e;exact⟨_,rfl,r1⟩
  .rw[Ej (by rw[e1];exact hk)];simp only[BC,jg,hk,k4]at e;exact RKs.val r2 e
theorem RKs.valN:∀{kvs:List (Key×D)} {xs:List (Key×V)} {k:Key},RKs K ρ H kvs xs->(Di xs k).isSome=(BC kvs k).isSome
 |[],xs,k,h=>by simp only[RKs]at h;subst h;rfl
 |p::kvs,xs,k,h=>by
  simp only[RKs]at h;obtain⟨x,r,rfl,e1,r1,r2⟩:=h;by_cases hk:p.1=k
  .rw[Ei (e1.trans hk)];simp[BC,jg,hk]
  .rw[Ej (by rw[e1];exact hk)];simp only[BC,jg,hk,k4];exact RKs.valN r2
theorem RKs.any:∀{kvs:List (Key×D)} {xs:List (Key×V)} {k:Key},RKs K ρ H kvs xs->(xs.any λkv=>decide (kv.1=k))=(kvs.any λkv=>decide (kv.1=k))
 |[],xs,k,h=>by simp only[RKs]at h;subst h;rfl
 |p::kvs,xs,k,h=>by
  simp only[RKs]at h;obtain⟨x,r,rfl,e1,r1,r2⟩:=h;simp only[jB,e1,RKs.any r2]
theorem RKs.upd:∀{kvs:List (Key×D)} {xs:List (Key×V)} {k:Key} {d:D} {v:V},RKs K ρ H kvs xs->RD K ρ H d v->RKs K ρ H (kvs.map (λkv=>if kv.1=k then(kv.1,d)else kv)) (xs.map (λkv=>if kv.1=k then(kv.1,v)else kv))
 |[],xs,k,d,v,h,_=>by simp only[RKs]at h;subst h;simp[RKs]
 |p::kvs,xs,k,d,v,h,q=>by
  simp only[RKs]at h;obtain⟨x,r,rfl,e1,r1,r2⟩:=h;simp only[iq,RKs];refine⟨_,_,rfl,?_,?_,RKs.upd r2 q⟩
  .rw[e1];split<;>simp[e1]
  .rw[e1];split
   .exact q
   .exact r1
theorem RKs.app:∀{kvs ks:List (Key×D)} {xs ys:List (Key×V)},RKs K ρ H kvs xs->RKs K ρ H ks ys->RKs K ρ H (kvs++ks) (xs++ys)
 |[],ks,xs,ys,h,t=>by simp only[RKs]at h;subst h;simpa using t
 |d::ds,ks,xs,ys,h,t=>by
  simp only[RKs]at h;obtain⟨x,r,rfl,e,z,q⟩:=h;simp only[cons_append,RKs];exact⟨_,_,rfl,e,z,q.app t⟩
def RKs.put(h:RKs K ρ H kvs xs)(q:RD K ρ H d v):RKs K ρ H (Dq kvs k d) (Ca xs k v):=by
 unfold Dq Ca;rw[h.any];split
 .exact h.upd q
 .exact h.app (by simp only[RKs];exact⟨_,_,rfl,rfl,q,rfl⟩)
noncomputable def Cd:D->Option Key
 |.im (.int i)=>some (.inl i)
 |.im (.str x)=>some (.inr x)
 |_=>none
def ID(h:RD K ρ H d v)(e:Cd d=some k):v=kV k:=by
 cases d with
 |im i=>
  cases i with
  |int i=>simp only[Cd,Option.some.injEq]at e;subst e;simp only[RD,RI]at h;exact h
  |str i=>simp only[Cd,Option.some.injEq]at e;subst e;simp only[RD,RI]at h;exact h
  |_=>simp[Cd]at e
 |_=>simp[Cd]at e
noncomputable def C6(hd:Hd):D->Option (List (Key×D))
 |.mu n=>match hd[n]? with
  |some (.dic kvs)=>some kvs
  |_=>none
 |_=>none
theorem RD.dic(hR:RH K ρ H hd)(h:RD K ρ H d v)(e:C6 hd d=some kvs):∃n a xs,d=.mu n/\v=.ref a/\ρ[n]?=some a/\H a=some (.dK xs)/\RKs K ρ H kvs xs:=by
 cases d with
 |mu n=>
  simp only[C6]at e;simp only[RD]at h;obtain⟨a,hn,rfl⟩:=h;split at e
  .next q=>
   cases e;obtain⟨xs,e1,e2⟩:=hR.dic hn q;exact⟨n,a,xs,rfl,rfl,hn,e1,e2⟩
  .cases e
 |_=>simp[C6]at e
noncomputable def EW:D->D->Hd->Option (D×Hd):=λd e hd=>(C6 hd d).bind λkvs=>(Cd e).bind λk=>(BC kvs k).map (·,hd)
def Xu(hd:RE K td md)(hy:RE K ty my):RE K (Ps td ty) (mOp EW md my):=by
 intro ρ σ H hd0 ls Q d hd' hR hL hm hQ;obtain⟨⟨d1,h1⟩,e1,hm⟩:=iS hm;obtain⟨⟨d2,h2⟩,e2,hm⟩:=iS hm;obtain⟨kvs,e3,hm⟩:=iS hm;obtain⟨k,e4,hm⟩:=iS hm;obtain⟨w,e5,e6⟩:=iT hm;cases e6;refine hd ρ σ H hd0 ls _ d1 h1 hR hL e1 λρ1 H1 v1 x1 R1 r1=>?_;refine hy ρ1 σ H1 h1 ls _ d2 _ R1 (hL.ext hR x1) e2 λρ2 H2 v2 x2 R2 r2=>?_;obtain⟨n,a,xs,rfl,rfl,hn,l1,l2⟩:=RD.dic R2 (r1.ext R1 x2) e3;have:=ID r2 e4;subst this;obtain⟨v,v1,v2⟩:=l2.val e5;exact⟨a,v,rfl,v1 ▸ DGet.k l1,hQ ρ2 H2 v 106 R2 v2⟩
noncomputable def HK(neg:Bool):D->D->Hd->Option (D×Hd):=λe d hd=>(C6 hd d).bind λkvs=>(Cd e).map λk=>(.im (.bl (if neg then !(BC kvs k).isSome else(BC kvs k).isSome)),hd)
def ac(hd:RE K td md)(hy:RE K ty my):RE K (UM ty td) (mOp (HK false) my md):=by
 intro ρ σ H hd0 ls Q d hd' hR hL hm hQ;obtain⟨⟨d1,h1⟩,e1,hm⟩:=iS hm;obtain⟨⟨d2,h2⟩,e2,hm⟩:=iS hm;obtain⟨kvs,e3,hm⟩:=iS hm;obtain⟨k,e4,e6⟩:=iT hm;cases e6;refine hy ρ σ H hd0 ls _ d1 h1 hR hL e1 λρ1 H1 v1 x1 R1 r1=>?_;refine hd ρ1 σ H1 h1 ls _ d2 _ R1 (hL.ext hR x1) e2 λρ2 H2 v2 x2 R2 r2=>?_;obtain⟨n,a,xs,rfl,rfl,hn,l1,l2⟩:=RD.dic R2 r2 e3;have:=ID r1 e4;subst this;refine⟨a,_,rfl,DGet.k l1,?_⟩;rw[l2.valN];exact hQ ρ2 H2 _ 106 R2 (by simp[RD,RI])
open Classical in
noncomputable def Hz(md my mv:ME):MS:=λls hd=>(mv ls hd).bind λp=>(md ls p.2).bind λq=>(my ls q.2).bind λr=>(Cd r.1).bind λk=>match q.1 with
 |.mu n=>match r.2[n]? with
  |some (.dic kvs)=>if Ck kvs.length then some (.nx ls,r.2.set n (.dic (Dq kvs k p.1)))else none
  |_=>none
 |_=>none
def Xc(hd:RE K td md)(hy:RE K ty my)(hv:RE K tv mv):RS K (Q3 td ty tv) (Hz md my mv):=by
 intro ρ σ H hd0 ls E f hd' hR hL hm hQ;obtain⟨⟨d1,h1⟩,e1,hm⟩:=iS hm;obtain⟨⟨d2,h2⟩,e2,hm⟩:=iS hm;obtain⟨⟨d3,h3⟩,e3,hm⟩:=iS hm;obtain⟨k,e4,hm⟩:=iS hm;dsimp only at hm;split at hm
 .split at hm
  .next q=>
   split at hm
   .next c=>
    cases hm;refine hv ρ σ H hd0 ls _ d1 h1 hR hL e1 λρ1 H1 v1 x1 R1 r1=>?_;refine hd ρ1 σ H1 h1 ls _ _ h2 R1 (hL.ext hR x1) e2 λρ2 H2 v2 x2 R2 r2=>?_;refine hy ρ2 σ H2 h2 ls _ d3 _ R2 (hL.ext hR 106) e3 λρ3 H3 v3 x3 R3 r3=>?_;have r2:=r2.ext R2 x3;simp only[RD]at r2;obtain⟨a,hn,rfl⟩:=r2;obtain⟨xs,l1,l2⟩:=R3.dic hn q;have:=ID r3 e4;subst this;obtain⟨R4,x4⟩:=R3.put hn (o:=.dic (Dq _ k d1)) (ho:=.dK (Ca xs k v1)) ⟨_,rfl,l2.put ((r1.ext R1 x2).ext R2 x3)⟩;have x13:=(106).trans R2 x3;exact⟨a,_,rfl,DPut.k l1 (by rw[l2.len];exact c),hQ ρ3 _ (x13.trans R3 x4) R4 σ ((hL.ext hR x13).ext R3 x4)⟩
   .cases hm
  .cases hm
 .cases hm
def RH.nameD(hR:RH K ρ H hd)(out:a∉ρ)(e:H a=some o)(hs:¬ Stb o)(r:RKs K ρ H kvs xs)(h1:∀ps,o≠.tbl ps:=by intro _ z;cases z)(h2:∀φ,o≠.ext φ:=by intro _ z;cases z):RH K (ρ++[a]) (upd H a (.dK xs)) (hd++[.dic kvs]):=by
 have gr:Grow H (upd H a (.dK xs)):=Grow.refl.put λu st z=>hs (by rw[e]at z;cases z;exact st);refine⟨by simp[hR.len],?_,hR.tabs.upd (λps z=>h1 ps (111 (e.symm.trans z))) (λps z=>h2 ps (111 (e.symm.trans z))),λn o' b e1 e2=>?_⟩
 .rw[nodup_append];refine⟨hR.nd,by simp,λx hx y hy z=>?_⟩;simp at hy;subst hy;subst z;exact out hx
 .by_cases hn:n<ρ.length
  .rw[List.getElem?_append_left hn]at e2;rw[List.getElem?_append_left (by rw[<- hR.len];exact hn)]at e1;obtain⟨ho',q1,q2⟩:=hR.ob n o' b e1 e2;have:b≠a:=λz=>out (by rw[<- z];exact j6 e2);exact⟨ho',by rw[upd_ne this];exact q1,q2.mono gr [a]⟩
  .have hn':n=ρ.length:=by
    have:=(102 e2).1;simp at this;omega
   subst hn';simp at e2;rw[hR.len]at e1;simp at e1;subst e1;subst e2;exact⟨_,AF,⟨xs,rfl,r.mono gr [_]⟩⟩
noncomputable def DB(mo mi mv:ME):MS:=λls hd=>(mv ls hd).bind λp=>(mo ls p.2).bind λq=>(mi ls q.2).bind λr=>match q.1,r.1 with
 |.mu n,.im (.int i)=>match r.2[n]? with
  |some (.lst ds)=>(ixN 104 i).map λj=>(.nx ls,r.2.set n (.lst (ds.set j p.1)))
  |_=>none
 |_,_=>none
def XZ(ho:RE K to mo)(hi:RE K ti mi)(hv:RE K tv mv):RS K (El tv (Vt to ti Jl)) (DB mo mi mv):=by
 intro ρ σ H hd0 ls E f hd' hR hL hm hQ;obtain⟨⟨d1,h1⟩,e1,hm⟩:=iS hm;obtain⟨⟨d2,h2⟩,e2,hm⟩:=iS hm;obtain⟨⟨d3,h3⟩,e3,hm⟩:=iS hm;dsimp only at hm;split at hm
 .split at hm
  .next q=>
   obtain⟨j,e4,e5⟩:=iT hm;cases e5;refine hv ρ σ H hd0 ls _ d1 h1 hR hL e1 λρ1 H1 v1 x1 R1 r1=>?_;refine ho ρ1 σ H1 h1 ls _ _ h2 R1 (hL.ext hR x1) e2 λρ2 H2 v2 x2 R2 r2=>?_;refine hi ρ2 σ H2 h2 ls _ _ _ R2 (hL.ext hR 106) e3 λρ3 H3 v3 x3 R3 r3=>?_;have r2:=r2.ext R2 x3;simp only[RD]at r2;obtain⟨a,hn,rfl⟩:=r2;simp only[RD,RI]at r3;subst r3;obtain⟨xs,l1,l2⟩:=R3.lst hn q;obtain⟨R4,x4⟩:=R3.put hn (o:=.lst _) (ho:=.lst (xs.set j v1)) ⟨_,rfl,l2.set j ((r1.ext R1 x2).ext R2 x3)⟩;have x13:=(106).trans R2 x3;exact⟨a,xs,_,j,rfl,rfl,l1,by rw[l2.len];exact e4,hQ ρ3 _ (x13.trans R3 x4) R4 σ ((hL.ext hR x13).ext R3 x4)⟩
  .cases hm
 .cases hm
end
end L2
namespace L2
open PySem PySem.Spec PyProof.Rows
structure QG(K:Frag)(X:Cx)(e:Expr)(t:TG)(m:MG):Prop where
 p:PG X e t
 r:RGt K t m
structure QGs(K:Frag)(X:Cx)(e:List Expr)(t:TGs)(m:MGs):Prop where
 p:PGs X e t
 r:OE K t m
structure QI(K:Frag)(X:Cx)(tg e:Expr)(t:TI)(m:MI):Prop where
 p:PI X tg e t
 r:RIt K t m
structure QF(K:Frag)(X:Cx)(e:List Expr)(t:TT)(m:MT):Prop where
 p:PF X e t
 r:RT K t m
structure QO(K:Frag)(X:Cx)(e:Option Expr)(t:TO)(m:MO1):Prop where
 p:PO X e t
 r:RO1 K t m
def Wt(a b:List D):Prop:=a≠[]/\Bg (a.length+b.length)
open Classical in
noncomputable def GV:D->D->Hd->Option (D×Hd):=λd e hd=>(AS d).bind λa=>(AS e).bind λb=>if Wt a b then some (Ap (a++b),hd)else none
def Om{K:Frag}:RB K (QJ K) GV:=by
 intro ρ H hd d e v u Q z hd' hR h1 h2 hf hQ;unfold GV at hf;obtain⟨a,e1,hf⟩:=iS hf;obtain⟨b,e2,hf⟩:=iS hf;split at hf
 .next c=>
  cases hf;obtain⟨p,xs,rfl,q1,r1⟩:=h1.tup e1;obtain⟨p2,ys,rfl,q2,r2⟩:=h2.tup e2;have l1:=r1.len;have l2:=r2.len;refine⟨p,p2,xs,ys,rfl,rfl,q1,q2,λz=>c.1 (by rw[z]at l1;simpa using l1.symm),by rw[l1,l2];exact c.2,λz=>?_,λ_ p3 hp=>?_⟩
  .have:b=[]:=by rw[z]at l2;simpa using l2.symm
   subst this;exact hQ ρ H _ .refl hR (by rw[je];exact CG q1 r1)
  .obtain⟨R2,x2⟩:=hR.hid (ho:=.tup (xs++ys)) hp;exact hQ ρ _ _ x2 R2 (CG (SqT.of AF) ((r1.app r2).ext hR x2))
 .cases hf
noncomputable abbrev AT:=GY Ku GV
noncomputable def DV(neg:Bool)(m:ME):ME:=λls hd=>(m ls hd).bind λp=>some (.im (.bl (match p.1 with
 |.im .non=>!neg
 | _=>neg)),p.2)
def cT{K:Frag}(h:RD K ρ H d v):decide (v=.non)=(match d with|.im .non=>true|_=>false):=by
 cases d with
 |im i=>
  cases i with
  |non=>simp only[RD,RI]at h;subst h;rfl
  |tup is=>simp only[RD,RI]at h;obtain⟨a,xs,rfl,_⟩:=h;rfl
  |_=>simp only[RD,RI]at h;subst h;rfl
 |mu n=>simp only[RD]at h;obtain⟨a,_,rfl⟩:=h;rfl
 |tm ds=>simp only[RD]at h;obtain⟨a,xs,rfl,_⟩:=h;rfl
 |ro ns=>simp only[RD]at h;obtain⟨a,rfl,_⟩:=h;rfl
 |op nm fs ds=>simp only[RD]at h;obtain⟨a,xs,rfl,_⟩:=h;rfl
 |fv k ds=>simp only[RD]at h;obtain⟨a,xs,rfl,_⟩:=h;rfl
def aY{K:Frag}(h:RE K t m):RE K (UK t) (DV false m):=by
 and_intros;obtain⟨⟨d1,h1⟩,e1,hm⟩:=iS hm;cases hm;refine h ρ σ H hd ls _ d1 _ hR hL e1 λρ1 H1 v x1 R1 r1=>?_;rw[cT r1];refine hQ ρ1 H1 _ x1 R1 ?_;simp only[RD,RI];cases d1 with
 |im i=>cases i<;>rfl
 |_=>rfl
def Xn{K:Frag}(h:RE K t m):RE K (Pq t) (DV true m):=by
 and_intros;obtain⟨⟨d1,h1⟩,e1,hm⟩:=iS hm;cases hm;refine h ρ σ H hd ls _ d1 _ hR hL e1 λρ1 H1 v x1 R1 r1=>?_;rw[cT r1];refine hQ ρ1 H1 _ x1 R1 ?_;simp only[RD,RI];cases d1 with
 |im i=>cases i<;>rfl
 |_=>rfl
noncomputable def GQ(m:ME):ME:=λls hd=>(m ls hd).bind λp=>match p.1 with
 |.im (.int i)=>some (.im (.int (-i)),p.2)
 |_=>none
def aS{K:Frag}(h:RE K t m):RE K (tUn (rU λi=>.int (-i)) t) (GQ m):=by
 and_intros;obtain⟨⟨d1,h1⟩,e1,hm⟩:=iS hm;dsimp only at hm;split at hm
 .cases hm;exact h ρ σ H hd ls _ _ _ hR hL e1 λρ1 H1 v x1 R1 r1=>⟨_,by simpa only[RD,RI]using r1,hQ ρ1 H1 _ x1 R1 (by simp[RD,RI])⟩
 .cases hm
noncomputable def Bq:MT:=λ_ hd=>some (true,hd)
def a9{K:Frag}:RT K UF Bq:=by
 and_intros;cases hm;exact hQ ρ H .refl hR
section
variable(K:Frag){X:Cx}{tc:TE}{mc:ME}
def qv(i:Nat){pos:Pos}(hN:X.N[i]?=some x:=by rfl)(hv:Vis X.env.scope x:=by first|exact Or.inl rfl|exact Or.inr (Or.inl rfl)|exact Or.inr (Or.inr rfl))(hd:(x==("__debug__":Str))=false:=by decide)
 (hcd:(x==("__classdict__":Str))=false:=by decide):QE K X (.Name x pos) (Me i) (A1 i):=⟨Gz hN hv hd hcd,aP⟩
def bW{i:Int}{j pos}:QE K X (.Constant (.int i) j pos) (tC (.int i)) (mC (.int i)):=⟨cD,Q7 λ_=>by simp[RI]⟩
def eN{i:Bool}{j pos}:QE K X (.Constant (.bool i) j pos) (tC (.bl i)) (mC (.bl i)):=⟨eX,Q7 λ_=>by simp[RI]⟩
def bO{j pos}:QE K X (.Constant .none j pos) (tC .non) (mC .non):=⟨c9,Q7 λ_=>by simp[RI]⟩
def bK{j pos}:QE K X (.Constant (.str x) j pos) (tC (.str x)) (mC (.str x)):=⟨bz,Q7 λ_=>by simp[RI]⟩
def GL{f:D->D->Hd->Option (D×Hd)}(ho:OpR X (binaryOp op) r)(hr:RB K r f)(ha:QE K X a ta ma)(hb:QE K X b tb mb):QE K X (.BinOp a op b pos) (tOp r ta tb) (mOp f ma mb):=⟨QV ho ha.p hb.p,M4 hr ha.r hb.r⟩
def bQ(ha:QE K X a ta ma):QE K X (.UnaryOp .USub a pos) (tUn (rU λi=>.int (-i)) ta) (GQ ma):=⟨eU Zq ha.p,aS ha.r⟩
def NJ{f:D->D->Hd->Option (D×Hd)}(ho:OpR X (compareOp op) r)(hr:RB K r f)(ha:QE K X a ta ma)(hb:QE K X b tb mb)(hm:behindInMarks op b=false:=by first|exact HA _|rfl):QE K X (.Compare a [op] [b] pos) (tOp r ta tb) (mOp f ma mb):=⟨Yp ho ha.p hb.p hm,M4 hr ha.r hb.r⟩
def EC{f:D->D->Hd->Option (D×Hd)}(ho:OpR X (compareOp op) r)(hr:RB K r f)(ha:QE K X a ta ma)(hb:QE K X b tb mb)(hm:behindInMarks op b=false:=by first|exact HA _|rfl):QT K X (.Compare a [op] [b] pos) (FG (tOp r ta tb)) (AC (mOp f ma mb)):=⟨Ho ho ha.p hb.p hm,DN (M4 hr ha.r hb.r)⟩
def ar{j pos'}(ha:QE K X a ta ma):QT K X (.Compare a [.Is] [.Constant .none j pos'] pos) (tB (UK ta)) (AC (DV false ma)):=⟨NL (cG ha.p),UW (aY ha.r)⟩
def Y5{j pos'}(ha:QE K X a ta ma):QT K X (.Compare a [.IsNot] [.Constant .none j pos'] pos) (tB (Pq ta)) (AC (DV true ma)):=⟨NL (Ys ha.p),UW (Xn ha.r)⟩
def Uw(ha:QE K X a ta ma)(he:∀whole,isTrue a X.env whole=(do let v <- whole;standAt a.pos;holding [v] (truthy v)):=by intro _;rfl)(hK:X.K=K:=by rfl):
 QT K X a (λσ H Q=>ta σ H λx H'=>∃k,OB K x H' k/\Q k H') (BZ ma):=by
 subst hK;exact⟨VC ha.p he,UV ha.r⟩
def aq(ha:QT K X a tA nA):QT K X (.UnaryOp .Not a pos) (UH tA) (FO nA):=⟨bf ha.p,aA ha.r⟩
def Y4(ha:QT K X a tA nA):QW K X (.BoolOp .And [a] pos) tA nA:=⟨YV ha.p,ha.r⟩
def ao(ha:QT K X a tA nA):QW K X (.BoolOp .Or [a] pos) tA nA:=⟨bc ha.p,ha.r⟩
def ap{rest:List Expr}(ha:QT K X a tA nA)(hb:QW K X (.BoolOp .And (b::rest) pos) tB' nB):QW K X (.BoolOp .And (a::b::rest) pos) (UO tA tB') (Cs nA nB):=⟨be ha.p hb.p,aB ha.r hb.r⟩
def eG{rest:List Expr}(ha:QT K X a tA nA)(hb:QW K X (.BoolOp .Or (b::rest) pos) tB' nB):QW K X (.BoolOp .Or (a::b::rest) pos) (tOr tA tB') (mOr nA nB):=⟨eP ha.p hb.p,dw ha.r hb.r⟩
def QW.toT{K:Frag}(h:QW K X e t m):QT K X e t m:=⟨h.p.pt,h.r⟩
def bM{op}(ha:QE K X a ta ma):QE K X (.BoolOp op [a] pos) ta ma:=⟨c7 ha.p,ha.r⟩
def bY{rest:List Expr}(ha:QE K X a ta ma)(hb:QE K X (.BoolOp .And (b::rest) pos) tb mb):QE K X (.BoolOp .And (a::b::rest) pos) (Pv ta tb) (I0 ma mb):=⟨cF ha.p hb.p,Xw ha.r hb.r⟩
def bN(ha:QE K X a ta ma):QE K X (.UnaryOp .Not a pos) (Pp ta) (GP ma):=⟨c8 ha.p,Xm ha.r⟩
def V7(hc:QT K X c tA nA)(ha:QE K X a ta ma)(hb:QE K X b tb mb):QE K X (.IfExp c a b pos) (tIf tA ta tb) (mIf nA ma mb):=⟨VL hc.p ha.p hb.p,eB hc.r ha.r hb.r⟩
def bZ:QA K X [] BG A5:=⟨C4,SZ⟩
def YU(ha:QE K X e te me)(hr:QA K X es t m)(hs:starEach (e::es) X.env=109::starEach es X.env:=by rfl):QA K X (e::es) (Af te t) (A2 me m):=⟨BB ha.p hr.p hs,Y0 ha.r hr.r⟩
def bJ{x1}(h:QA K X es t m):QE K X (.Tuple es x1 pos) (KL t) (Ak m):=⟨Si h.p,aQ h.r⟩
def bB(h:QA K X es t m):QN K X (.List es pos) (UI t) (Ai m):=⟨cB h.p,aG h.r⟩
def bP(h:QN K X e te m):QE K X e te (AY m):=⟨h.p,SQ h.r⟩
def eJ(ha:QE K X a ta ma)(hb:QE K X b tb mb)(hs:LB b:=by exact λ_ _=>rfl)(hK:X.K=K:=by rfl):QE K X (.Subscript a b pos) (tOp (M6 K) ta tb) (mOp gIx ma mb):=⟨QX ((Ng K hK).or (P2 K hK)) ha.p hb.p hs,M4 eC ha.r hb.r⟩
def YT(hu:X.A.units+1<cLine)(ha:QE K X a ta ma)(hb:QE K X b tb mb)(hs:WM b:=by exact λ_ _=>rfl):QE K X (.Subscript a b pos) (Ps ta tb) (mOp EW ma mb):=⟨Yn hu ha.p hb.p hs,Xu ha.r hb.r⟩
def YJ:QO K X none KN BM:=⟨Yh,Xe⟩
def YI(h:QE K X e te me):QO K X (some e) (Pn te) (CU me):=⟨Yg h.p,Xd h.r⟩
def bL{lo:Option Expr}(h:QE K X e te me)(hl:QO K X lo tl ml)(hh:QO K X hi th mh)(hK:X.K=K:=by rfl):QE K X (.Subscript e (.Slice lo hi none p2) pos) (tSl (QD K) te tl th) (Ds me ml mh):=⟨NN (XN K hK) h.p hl.p hh.p,aR h.r hl.r hh.r⟩
def az{lo:Option Expr}(h:QE K X e te me)(hl:QO K X lo tl ml)(hh:QO K X hi th mh)(hK:X.K=K:=by rfl):QN K X (.Subscript e (.Slice lo hi none p2) pos) (tSl (QH K) te tl th) (Kj me ml mh):=⟨NN (UR K hK) h.p hl.p hh.p,aE h.r hl.r hh.r⟩
def ET{id:String}{p:Pos}{r:List V->Hp->VK->Prop}{f:List D->Hd->Option (D×Hd)}(hc:CallR X (.builtin id) r)(hr:RF K r f)(hm:X.mg x=none)(hv:bootBuiltins x=some (.builtin id))(ha:QA K X (e::es) t m)(hg:Gl X x:=by rfl)(hn:x≠"__name__":=by decide)(hdb:(x==("__debug__":Str))=false:=by decide)
 (he:starEach (e::es) X.env=109::starEach es X.env:=by rfl) (hpl:(backTo pos (starEach es X.env)).any (·.1)=false:=by rfl):QE K X (.Call (.Name x p) (e::es) [] pos) (tCB r t) (mCB f m):=⟨DJ hc hg hm hv ha.p hn hdb he hpl,Wa hr ha.r⟩
def eL{id:String}{p:Pos}{r:List V->Hp->VK->Prop}{f:List D->Hd->Option (D×Hd)}(hc:CallR X (.type id) r)(hr:RF K r f)(hm:X.mg x=none)(hv:bootBuiltins x=some (.type id))(ha:QA K X (e::es) t m)(hg:Gl X x:=by rfl)(hn:x≠"__name__":=by decide)(hdb:(x==("__debug__":Str))=false:=by decide)
 (he:starEach (e::es) X.env=109::starEach es X.env:=by rfl) (hpl:(backTo pos (starEach es X.env)).any (·.1)=false:=by rfl):QE K X (.Call (.Name x p) (e::es) [] pos) (tCB r t) (mCB f m):=⟨Cb hc hg hm hv ha.p hn hdb he hpl,Wa hr ha.r⟩
def M8{id:String}{p:Pos}{r:List V->Hp->VK->Prop}{tp:Bool}{g:List D->Option D}(hc:CallR X (.builtin id) r)(hr:RG K tp r g)(hm:X.mg x=none)(hv:bootBuiltins x=some (.builtin id))(ha:QN K X e te m)(hg:Gl X x:=by rfl)(hn:x≠"__name__":=by decide)(hdb:(x==("__debug__":Str))=false:=by decide)
 (he:starEach [e] X.env=[109]:=by rfl):QE K X (.Call (.Name x p) [e] [] pos) (tCB r (Af te BG)) (B7 g m):=⟨DJ hc hg hm hv (BB ha.p C4 he) hn hdb he rfl,SR hr ha.r⟩
def eK{id:String}{p:Pos}{r:List V->Hp->VK->Prop}{tp:Bool}{g:List D->Option D}(hc:CallR X (.type id) r)(hr:RG K tp r g)(hm:X.mg x=none)(hv:bootBuiltins x=some (.type id))(ha:QN K X e te m)(hg:Gl X x:=by rfl)(hn:x≠"__name__":=by decide)(hdb:(x==("__debug__":Str))=false:=by decide)
 (he:starEach [e] X.env=[109]:=by rfl):QE K X (.Call (.Name x p) [e] [] pos) (tCB r (Af te BG)) (B7 g m):=⟨Cb hc hg hm hv (BB ha.p C4 he) hn hdb he rfl,SR hr ha.r⟩
def V3(hm:X.mg "list"=none)(ha:QN K X e te m)(hg:Gl X "list":=by rfl)(he:starEach [e] X.env=[109]:=by rfl)(hK:X.K=K:=by rfl):QN K X (.Call (.Name "list" p) [e] [] pos) (tCB (Kb K) (Af te BG)) (HD m):=⟨Cb (RV K hK) hg hm PV (BB ha.p C4 he) 107 107 he rfl,UZ ha.r⟩
def QM{id:String}{r:V->List V->Hp->VK->Prop}{f:D->List D->Hd->Option (D×Hd)}{apos cpos:Pos}(slot:Slot "list" name id)(hty:typeOf (.builtin id)=pure (.type "method_descriptor"))(hm:MtM X id r)(hr:RM K r f)(ho:QE K X o to mo)(ha:QA K X (e::es) t m)
 (hbase:attributeBase o name X.env (eval o X.env)=eval o X.env:=by rfl)
 (hfew:((backTo cpos (starEach (e::es) X.env)).all (λx=>!x.1)&&(backToKw cpos (keywordEach [] X.env)).all (λx=>x.1.isSome)
  && decide ((e::es).length+([]:List Keyword).length+(if([]:List Keyword).isEmpty then 0 else 1)<30))=true:=by rfl)
 (hline:(apos.endLine==cpos.line)=true:=by rfl) (hs:starEach (e::es) X.env=109::starEach es X.env:=by rfl) (hplain:(backTo cpos (starEach es X.env)).any (·.1)=false:=by rfl) (hK:X.K=K:=by rfl):
 QE K X (.Call (.Attribute o name apos) (e::es) [] cpos) (tBM K "list" r to t) (mMt f mo m):=by
 subst hK;exact⟨eV PySem.F.plainAttrs_list slot hty hm ho.p ha.p hbase hfew hline hs hplain,WZ hr ho.r ha.r⟩
def bR{id:String}{r:V->List V->Hp->VK->Prop}{f:D->List D->Hd->Option (D×Hd)}{apos cpos:Pos}(slot:Slot "list" name id)(hty:typeOf (.builtin id)=pure (.type "method_descriptor"))(hm:MtM X id r)(hr:RM K r f)(ho:QE K X o to mo)
 (hbase:attributeBase o name X.env (eval o X.env)=eval o X.env:=by rfl) (hline:(apos.endLine==cpos.line)=true:=by rfl) (hK:X.K=K:=by rfl):
 QE K X (.Call (.Attribute o name apos) [] [] cpos) (UN K "list" r to) (mMt f mo A5):=by
 subst hK;exact⟨cE PySem.F.plainAttrs_list slot hty hm ho.p hbase hline,aT hr ho.r⟩
def V9(w:Nat){j k:Nat}{n:Nat}{F:List D->Hd->Option (D×Hd)}{st:Stmt}{p:Pos}(G:FnOk X.prog X.w X.K X.mg X.base CX0 j f fd ps (spF K n F))(hr:Room k X.A)(DA:DefAt X.K X.mg x st f fd ps)(ha:QA K X (e::es) t m)(hF:∀ds hd z,F ds hd=some z->104=n)
 (hjk:j<=k:=by decide) (hg:Gl X x:=by rfl) (hdb:(x==("__debug__":Str))=false:=by decide) (he:starEach (e::es) X.env=109::starEach es X.env:=by rfl) (hpl:(backTo pos (starEach es X.env)).any (·.1)=false:=by rfl):
 QE K X (.Call (.Name x p) (e::es) [] pos) (Dy (spF K n F) [] E0 t) (A9 w F m):=⟨Wk G hr DA ha.p hjk hg hdb he hpl,Ir ha.r hF⟩
def VB{j k:Nat}{n:Nat}{F:List D->Hd->Option (D×Hd)}{st:Stmt}{p:Pos}(G:FnOk X.prog X.w X.K X.mg X.base CX0 j f fd ps (spF K n F))(hr:Room k X.A)(DA:DefAt X.K X.mg x st f fd ps)(ha:QA K X (e::es) t m)(hF:∀ds hd z,F ds hd=some z->104=n)
 (hjk:j<=k:=by decide) (hg:Gl X x:=by rfl) (hdb:(x==("__debug__":Str))=false:=by decide) (he:starEach (e::es) X.env=109::starEach es X.env:=by rfl) (hpl:(backTo pos (starEach es X.env)).any (·.1)=false:=by rfl):
 QE K X (.Call (.Name x p) (e::es) [] pos) (Dy (spF K n F) [] E0 t) (D0 F m):=⟨Wk G hr DA ha.p hjk hg hdb he hpl,Ul ha.r hF⟩
def YO{i:Nat}(hN:X.N.Nodup)(hi:X.N[i]?=some x)(hx:Loc X.env.scope x)(hf:X.fn x=true∨X.env.scope.names.lookup x=some .local:=by first|exact .inl rfl|exact .inr rfl|assumption):QG K X (.Name x pos) (E1 i) (AG i):=⟨Ym hN hi hx hf,KW⟩
def YN:QGs K X [] Vu CP:=⟨Yk,Xg⟩
def V5(h1:QG K X e tg n)(h2:QGs K X es tgs ns)(hs:(assignEach (e::es) X.env).map (·.2)=assign e X.env::(assignEach es X.env).map (·.2):=by rfl):QGs K X (e::es) (Qp tg tgs) (Ac n ns):=⟨VJ h1.p h2.p hs,Ub h1.r h2.r⟩
def bF{k n:Nat}(hc:X.calm=true)(h:QGs K X es tgs ns)(hK:X.K=K:=by rfl)(hn:(assignEach es X.env).length=n:=by rfl)(hst:(assignEach es X.env).findIdx? (·.1)=none:=by rfl):QG K X (.Tuple es k pos) (Qn K n tgs) (CO n ns):=⟨Yl K hc h.p hK hn hst,aN h.r⟩
def bD(h:QE K X e te me)(hK:X.K=K:=by rfl):QI K X tg e (Ni K te) (B0 me):=⟨Ow K h.p hK,SJ h.r⟩
def YM(h:QE K X e te me)(hK:X.K=K:=by rfl):QI K X tg e (K2 K te) (Br me):=⟨NM K h.p hK,Oj h.r⟩
def YL(hm:X.mg "range"=none)(ha:QA K X [a] t m)(hg:Gl X "range":=by rfl)(hs:starEach [a] X.env=[(false,eval a X.env)]:=by rfl):QI K X tg (.Call (.Name "range" p) [a] [] pos) (Qk t) (Ey m):=⟨Sf hg hm ha.p hs,Xf ha.r⟩
def bH:QF K X [] UF Bq:=⟨bw,a9⟩
def bG(h:QT K X c tA nA):QF K X [c] tA nA:=⟨bv h.p,h.r⟩
def YK{iter:Expr}(hc:X.calm=true)(S:CSc X scope fr ix)(hi:QI K X tg iter wi mi)
 (hg:∀s H ex,QG K (cCx X (loc++fr) scope s H ex) tg g n) (hf:∀s H ex,QF K (cCx X (loc++fr) scope s H ex) ifs tf mf) (he:∀s H ex,QE K (cCx X (loc++fr) scope s H ex) elt te mm)
 (hs:∀x,foldedSetIterable iter X.env x=pure x:=by intro _;rfl):QN K X (.ListComp elt [⟨tg,iter,ifs,0⟩] scope pos) (GE loc.length ix wi g tf te) (Ag loc.length ix mi n mf mm):=
 ⟨Yo hc S hi.p (λs H ex=>(hg s H ex).p) (λs H ex=>(hf s H ex).p) (λs H ex=>(he s H ex).p) hs,Oi hi.r (hg X.s₀ X.H₀ []).r (hf X.s₀ X.H₀ []).r (he X.s₀ X.H₀ []).r⟩
def Y9:QSs K X [] Hk AV:=⟨Ou,KU⟩
def Uy{st:Stmt}{rest:List Stmt}{m1:MS}(h1:QS K X st u m1)(h2:QSs K X rest v m2):QSs K X (st::rest) (Mf u v) (A6 m1 m2):=⟨VE h1.p h2.p,SE h1.r h2.r⟩
def Y8{st:Stmt}{m1:MS}(h1:QS K X st u m1):QSs K X [st] u m1:=⟨Ot h1.p,h1.r⟩
def YC:QS K X (.Pass pos) Hk AV:=⟨Yb,KU⟩
def YF(he:QE K X e te me)(hs:swapsWith e none pos.line X.env=pure false:=by rfl):QS K X (.Expr e pos) (Pr te) (Ay me):=⟨Yc he.p hs,Xb he.r⟩
def aw(he:QE K X e te me):QS K X (.Return (some e) pos) (Ij te) (AK me):=⟨bh he.p,N4 he.r⟩
def eI{m1:MS}(hc:QT K X c tA nA)(ha:QSs K X a u m1)(hb:QSs K X b v m2):QS K X (.If c a b pos) (Mh tA u v) (Ad nA m1 m2):=⟨eQ hc.p ha.p hb.p,WX hc.r ha.r hb.r⟩
def V1{st:Stmt}:QS K X st JX Bn:=⟨VG,N6⟩
def ay(he:QE K X e te me)(hg:QG K X tg g n)(hs:swapsWithSole [tg] e pos.line X.env=pure false:=by rfl)(hw:swappedStores [tg] e X.env=pure none:=by rfl)
 (h1:(assignEach [tg] X.env).map (·.2)=[assign tg X.env]:=by rfl):QS K X (.Assign [tg] e pos) (El te g) (JB me n):=⟨Sd he.p hg.p hs hw h1,N7 he.r hg.r⟩
def av{i:Nat}(hN:X.N.Nodup)(hi:X.N[i]?=some x)(hx:Loc X.env.scope x)(he:QE K X e te me)(hs:swapsWith e (some (.Name x pos')) pos.line X.env=pure false:=by rfl)(hf:X.fn x=true∨X.env.scope.names.lookup x=some .local:=by first|exact .inl rfl|exact .inr rfl|assumption):
 QS K X (.Assign [.Name x pos'] e pos) (El te (E1 i)) (AE i me):=⟨bg hN hi hx he.p hs hf,N7 he.r KW⟩
def YB{i:Nat}{iter:Expr}{spos:Pos}(hN:X.N.Nodup)(hiN:X.N[i]?=some y)(hy:X.env.scope.names.lookup y=some .local)
 (hc:X.calm=true) (S:CSc X scope fr ix) (hi:QI K X tg iter wi mi)
 (hg:∀s H ex,QG K (cCx X (loc++fr) scope s H ex) tg g n) (hf:∀s H ex,QF K (cCx X (loc++fr) scope s H ex) ifs tf mf) (he:∀s H ex,QE K (cCx X (loc++fr) scope s H ex) elt te mm)
 (hsw:swapsWith (.ListComp elt [⟨tg,iter,ifs,0⟩] scope pos) (some (.Name y py)) spos.line X.env=pure true:=by rfl) (hs:∀x,foldedSetIterable iter X.env x=pure x:=by intro _;rfl):
 QS K X (.Assign [.Name y py] (.ListComp elt [⟨tg,iter,ifs,0⟩] scope pos) spos) (El (GE loc.length ix wi g tf te) (E1 i)) (AE i (AY (Ag loc.length ix mi n mf mm))):=
 ⟨YZ hN hiN hy hc S hi.p (λs H ex=>(hg s H ex).p) (λs H ex=>(hf s H ex).p) (λs H ex=>(he s H ex).p) hsw hs,N7 (SQ (Oi hi.r (hg X.s₀ X.H₀ []).r (hf X.s₀ X.H₀ []).r (he X.s₀ X.H₀ []).r)) KW⟩
def YG(hu:X.A.units+1<cLine)(ho:QE K X o td md)(hi:QE K X i ty my)(hv:QE K X value tv mv)(hs:swapsWith value (some (.Subscript o i pos')) pos.line X.env=pure false:=by rfl):
 QS K X (.Assign [.Subscript o i pos'] value pos) (Q3 td ty tv) (Hz md my mv):=⟨Yd hu ho.p hi.p hv.p hs,Xc ho.r hi.r hv.r⟩
def YD(ho:QE K X o to mo)(hi:QE K X i ti mi)(hv:QE K X value tv mv)(hs:swapsWithSole [.Subscript o i pos'] value pos.line X.env=pure false:=by rfl)(hw:swappedStores [.Subscript o i pos'] value X.env=pure none:=by rfl)
 (h1:(assignEach [.Subscript o i pos'] X.env).map (·.2)=[assign (.Subscript o i pos') X.env]:=by rfl)
 (ha:∀v,assign (.Subscript o i pos') X.env v=(do
  let ov <- holding [v] (eval o X.env)
  let iv <- holding [v,ov] (eval i X.env)
  standAt pos'
  holding [v,ov,iv] (setItem ov iv v)
  release [v,ov,iv] []):=by intro _;rfl):QS K X (.Assign [.Subscript o i pos'] value pos) (El tv (Vt to ti Jl)) (DB mo mi mv):=⟨Sd hv.p (bu ho.p hi.p Ms ha) hs hw h1,XZ ho.r hi.r hv.r⟩
def ax{iter:Expr}(hc:X.calm=true)(hi:QI K X tg iter wi mi)(hg:QG K X tg g n)(hb:QSs K X body tb mb)(hp:PassesOwn 54 X.A X.env X.xe:=by exact PassesOwn.never)
 (hs:∀x,foldedSetIterable iter X.env x=pure x:=by intro _;rfl):QS K X (.For tg iter body [] pos) (UL wi g tb) (Bs mi n mb):=⟨bj hp hc hi.p hg.p hb.p hs,aC hi.r hg.r hb.r⟩
def Uz(hc:QT K X c tA nA)(hb:QSs K X body tb mb)(hp:PassesOwn 54 X.A X.env X.xe:=by exact PassesOwn.never):QS K X (.While c body [] pos) (Md tA tb) (CL nA mb):=⟨VF hp hc.p hb.p,UX hc.r hb.r⟩
end
def Z0{K:Frag}{mg:Str->Option Value}{st:Stmt}{j:Nat}(DA:DefAt K mg x st f fd ps)(S:FnScope N ps (A8 st))
 (h:∀(cdv:Value) (A:Around) (outer:List Env) (s:Shared) (H:Hp) (E:XK),Room j (A.deeper (envOfC x (A8 st) 49 f cdv))->∃t,QSs K (CS CX0 P w K mg base N x (A8 st) f cdv A outer s H E).nox (Av st) t m):
 FnOk P w K mg base CX0 (j+1) f fd ps (spF K ps.length (mkF ps.length N.length m)):=by
 refine DA.fn.ok S (λvs H Q E h=>h.1) (λcdv A outer s H vs Q E hr hs=>?_);obtain⟨t,q⟩:=h cdv A outer s H E hr;exact⟨t,q.p,KO q.r hs⟩
def iM(tp:Bool)(h:Heap)(it l:Addr)(k:Nat):Prop:=match tp with
 |true=>h.IsTupleIter it l k
 |false=>h.IsListIter it l k
def SqS(K:Frag)(tp:Bool)(H:Hp)(a:Addr)(xs:List V):Prop:=match tp with
 |true=>SqT K H a xs
 |false=>SqL K H a xs
def fS(K:Frag)(ρ:List Addr)(H:Hp)(tp:Bool)(a:Addr)(ds:List D)(g:Gd):Prop:=∀(ρ2:List Addr) (H2:Hp) (hd2:Hd),Ext ρ H ρ2 H2->RH K ρ2 H2 hd2->GOk hd2 g->∃xs,SqS K tp H2 a xs/\RDs K ρ2 H2 ds xs
def RRw(K:Frag)(tp:Bool)(t:TE)(m:MI):Prop:=∀(ρ:List Addr) (σ:St) (H:Hp) (hd:Hd) (ls:Ls) (Q:VK) (d:List D) (g:Gd) (hd':Hd),RH K ρ H hd->RL K ρ H ls σ->m ls hd=some ((d,g),hd') ->
 (∀ρ' H' a,Ext ρ H ρ' H'->RH K ρ' H' hd'->GOk hd' g->fS K ρ' H' tp a d g->Q (.ref a) H')->t σ H Q
structure QR(K:Frag)(tp:Bool)(X:Cx)(e:Expr)(t:TE)(m:MI):Prop where
 p:PE X e t
 r:RRw K tp t m
section
variable{K:Frag}{ρ':List Addr}{H':Hp}
def XW(h:RE K t m):RRw K false t (Br m):=by
 intro ρ σ H hd ls Q d g hd' hR hL hm hQ;obtain⟨⟨d1,h1⟩,e1,hm⟩:=iS hm;dsimp only at hm;split at hm
 .next n=>
  split at hm
  .next ds q=>
   cases hm;refine h ρ σ H hd ls _ _ _ hR hL e1 λρ1 H1 v x1 R1 r1=>?_;simp only[RD]at r1;obtain⟨a,hn,rfl⟩:=r1;refine hQ ρ1 H1 a x1 R1 (λp z=>by simp at z;subst z;exact q) λρ2 H2 hd2 x2 R2 G2=>?_;have hn2:ρ2[n]?=some a:=by
    obtain⟨r,rfl,_⟩:=x2.pre;rw[List.getElem?_append_left (List.getElem?_eq_some_iff.mp hn).1];exact hn
   obtain⟨ys,e4,e5⟩:=R2.lst hn2 (G2 (n,d) 55);exact⟨ys,SqL.of e4,e5⟩
  .cases hm
 .next ns=>
  cases hm;refine h ρ σ H hd ls _ _ _ hR hL e1 λρ1 H1 v x1 R1 r1=>?_;simp only[RD]at r1;obtain⟨a,rfl,q⟩:=r1;exact hQ ρ1 H1 a x1 R1 (AQ _) λρ2 H2 hd2 x2 R2 _=>⟨_,(q.grow (x2.grow R1)).sq,Fp⟩
 .cases hm
end
section
variable(K:Frag)
def YH(h:QE K X e te me):QR K false X e te (Br me):=⟨h.p,XW h.r⟩
end
section
variable{K:Frag}
noncomputable def FP(ml:MA)(mb:ME):ME:=λls hd=>(ml ls hd).bind λp=>(mb ls p.2).bind λq=>match q.1 with
 |.im (.int i)=>(atI p.1 i).map (·,q.2)
 |_=>none
def aU(ha:RN K ta ml)(hb:RE K tb mb):RE K (tOp (M6 K) ta tb) (FP ml mb):=by
 and_intros;obtain⟨⟨d1,h1⟩,e1,hm⟩:=iS hm;obtain⟨⟨d2,h2⟩,e2,hm⟩:=iS hm;dsimp only at hm;split at hm
 .obtain⟨w,e3,e4⟩:=iT hm;cases e4;refine ha ρ σ H hd ls _ d1 h1 hR hL e1 λρ1 H1 a xs x1 R1 na oa ea r1=>?_;refine hb ρ1 σ H1 h1 ls _ _ _ R1 (hL.ext hR x1) e2 λρ2 H2 v2 x2 R2 r2=>?_;simp only[RD,RI]at r2;subst r2;have r1':=r1.ext R1 x2;obtain⟨j,j1,j2⟩:=L8 r1'.len e3;obtain⟨x,y1,y2⟩:=r1'.get j1;exact .inl ⟨a,xs,_,x,rfl,rfl,SqL.of (x2.keep a _ ea oa nt),j2 x y1,hQ ρ2 H2 x 106 R2 y2⟩
 .cases hm
noncomputable def JF(neg:Bool)(x y:PyData)(hd:Hd):Option (D×Hd):=if x.canLay0=true/\y.canLay0=true/\min x.depth y.depth<=60 then some (.im (.bl (if neg then !PyData.eqv x y else PyData.eqv x y)),hd)else none
noncomputable def Dz(neg:Bool)(ma:ME)(ml:MA):ME:=λls hd=>(ma ls hd).bind λp=>(ml ls p.2).bind λq=>(pyD q.2 p.1).bind λx=>(B9 q.1).bind λis=>JF neg x (.list (I.pys is)) q.2
noncomputable def Hy(neg:Bool)(ml mk:MA):ME:=λls hd=>(ml ls hd).bind λp=>(mk ls p.2).bind λq=>(B9 p.1).bind λis=>(B9 q.1).bind λjs=>JF neg (.list (I.pys is)) (.list (I.pys js)) q.2
noncomputable def rEN(K:Frag)(neg:Bool):R2:=λx y H Q=>∃d e,Rep K H d x/\Rep K H e y/\d.canLay0=true/\e.canLay0=true/\min d.depth e.depth<=60/\Q (.bl (if neg then !PyData.eqv d e else PyData.eqv d e)) H
def KY(ea:H a=some (.lst xs))(r:RDs K ρ H ds xs)(e:B9 ds=some is):Rep K H (.list (I.pys is)) (.ref a):=by
 rw[Gc e]at r;simp only[Rep];exact⟨a,xs,rfl,SqL.of ea,r.is.rep⟩
def Xr{neg:Bool}(ha:RE K ta ma)(hb:RN K tb ml):RE K (tOp (rEN K neg) ta tb) (Dz neg ma ml):=by
 and_intros;obtain⟨⟨d1,h1⟩,e1,hm⟩:=iS hm;obtain⟨⟨d2,h2⟩,e2,hm⟩:=iS hm;obtain⟨x,e3,hm⟩:=iS hm;obtain⟨is,e4,hm⟩:=iS hm;unfold JF at hm;split at hm
 .next c=>
  cases hm;refine ha ρ σ H hd ls _ d1 h1 hR hL e1 λρ1 H1 v x1 R1 r1=>?_;refine hb ρ1 σ H1 h1 ls _ d2 _ R1 (hL.ext hR x1) e2 λρ2 H2 a xs x2 R2 na oa ea r2=>?_;exact⟨_,_,Do R2 (r1.ext R1 x2) e3,KY ea r2 e4,c.1,c.2.1,c.2.2,hQ ρ2 H2 _ 106 R2 (by simp[RD,RI])⟩
 .cases hm
def Xq{neg:Bool}(ha:RN K ta ml)(hb:RN K tb mk):RE K (tOp (rEN K neg) ta tb) (Hy neg ml mk):=by
 and_intros;obtain⟨⟨d1,h1⟩,e1,hm⟩:=iS hm;obtain⟨⟨d2,h2⟩,e2,hm⟩:=iS hm;obtain⟨is,e4,hm⟩:=iS hm;obtain⟨js,e3,hm⟩:=iS hm;unfold JF at hm;split at hm
 .next c=>
  cases hm;refine ha ρ σ H hd ls _ d1 h1 hR hL e1 λρ1 H1 a xs x1 R1 na oa ea r1=>?_;refine hb ρ1 σ H1 h1 ls _ d2 _ R1 (hL.ext hR x1) e2 λρ2 H2 b ys x2 R2 nb ob eb r2=>?_;exact⟨_,_,KY (x2.keep a _ ea oa nt) (r1.ext R1 x2) e4,KY eb r2 e3,c.1,c.2.1,c.2.2,hQ ρ2 H2 _ 106 R2 (by simp[RD,RI])⟩
 .cases hm
end
def cO(K:Frag){X:Cx}(hu:X.A.units+64<cLine)(hK:X.K=K:=by rfl):OpR X (compareOp .Eq) (rEN K false):=Kh K hu hK
def Sl(K:Frag){X:Cx}(hu:X.A.units+64<cLine)(hK:X.K=K:=by rfl):OpR X (compareOp .NotEq) (rEN K true):=Kg K hu hK
section
variable(K:Frag){e:Expr}{te:TE}{me:ME}{neg:Bool}
def bS(ha:QN K X a ta m)(hb:QE K X b tb mb)(hs:LB b:=by exact λ_ _=>rfl)(hK:X.K=K:=by rfl):QE K X (.Subscript a b pos) (tOp (M6 K) ta tb) (FP m mb):=⟨QX ((Ng K hK).or (P2 K hK)) ha.p hb.p hs,aU ha.r hb.r⟩
def Os(ho:OpR X (compareOp op) (rEN K neg))(ha:QE K X a ta ma)(hb:QN K X b tb m)(hm:behindInMarks op b=false:=by first|exact HA _|rfl):QT K X (.Compare a [op] [b] pos) (FG (tOp (rEN K neg) ta tb)) (AC (Dz neg ma m)):=⟨Ho ho ha.p hb.p hm,DN (Xr ha.r hb.r)⟩
def Y7(ho:OpR X (compareOp op) (rEN K neg))(ha:QN K X a ta m)(hb:QN K X b tb mk)(hm:behindInMarks op b=false:=by first|exact HA _|rfl):QT K X (.Compare a [op] [b] pos) (FG (tOp (rEN K neg) ta tb)) (AC (Hy neg m mk)):=⟨Ho ho ha.p hb.p hm,DN (Xq ha.r hb.r)⟩
end
noncomputable def BR(lo:Int):Nat->List V
 |0=>[]
 |n+1=>.int lo::BR (lo+1) n
def Ji(lo:Int)(n:Nat):(BR lo n).length=n:=by
 induction n generalizing lo with
 |zero=>rfl
 |succ n ih=>simp[BR,ih]
def GK{K:Frag}(lo:Int)(n:Nat):RDs K ρ H (An lo n) (BR lo n):=by
 induction n generalizing lo with
 |zero=>simp[An,BR,RDs]
 |succ n ih=>exact .cons (by simp[RD,RI]) (ih _)
theorem Jh{lo:Int}:∀{n:Nat} {us:List Value},us.length=n->(∀(j:Nat) (v:Value),us[j]?=some v->∃t,v=.int (lo+j*1) t)->Vals (BR lo n) us
 |0,us,h,_=>by
  have:us=[]:=List.length_eq_zero_iff.mp h;subst this;exact .nil
 |n+1,[],h,_=>by simp at h
 |n+1,u::us,h,k=>by
  obtain⟨t,e⟩:=k 0 u rfl;refine .cons ⟨t,by rw[e];simp⟩ (Jh (by simpa using h) λj v q=>?_);obtain⟨t',e'⟩:=k (j+1) v (by simpa using q);exact⟨t',by rw[e'];congr 1;push_cast;omega⟩
section
variable{A:Around}{E:Value->Shared->Prop}{s:Shared}
def OJ{Q:List Value->Shared->Prop}{a b c:Int}{n:Nat}(hh:A.handled=none)(hr:IsRange s.heap r a b c t u v)(hsm:Builtin.Range.small a b c=true)(hn:Builtin.Range.rangeSize a b c=n)(hl:n<=2^24)
 (hQ:∀g tk (acc:Array Value),(∀b o,s.heap.get? b=some o->g.get? b=some o)->ItemsOf (λi v=>∃t,v=.int (a+i*c) t) acc n->Q acc.toList { s with heap:=g,toks:=tk }):
 wpAny 103 A (collect (.ref r)) Q E s:=by
 unfold collect;refine ic (wpAny_runValue (jX F.entry_proto_collect ?_));rw[Around.under_plainId F.plain_proto_collect _];show wpAny _ A.in1 (newList [] >>= λl=>again (.builtin "list.__iadd__" ⟨[l,.ref r],[]⟩)) _ _ s;refine ic (jK (ik ⟨jH F.plain_list_iadd _,jX F.entry_list_iadd ?_⟩));rw[Around.under_plainId F.plain_list_iadd _];show wpAny _ A.in1 (Builtin.List.listExtendWith (.ref 49) (.ref r) (.ref 49)) _ _ _;have e0:(s.heap.push { cls:=.type "list",data:=.seq ([]:List Value).toArray }).get? 49=some { cls:=.type "list",data:=.seq #[] 0 }:=115 _ rfl;have fin:∀g tk (acc:Array Value) c',(∀b o,b≠49->(s.heap.push { cls:=.type "list",data:=.seq ([]:List Value).toArray }).get? b=some o->g.get? b=some o)->g.get? 49=some { cls:=.type "list",dict:=none,data:=.seq acc c',slots:=#[] }->ItemsOf (λi v=>∃t,v=.int (a+i*c) t) acc n ->
  wpAny 103 A (load 49 >>= λo=>match o.data with|Data.seq xs epoch=>pure xs.toList|x=>unsupported "internal:collect") Q E { s with heap:=g,toks:=tk }:=λg tk acc c' kp eS it=>
  ic (wpAny_load eS (ik (hQ g tk acc (λb o q=>kp b o (iu (58 q)) (53 _ q)) it)))
 refine iX (wpAny_extend_range (A:=A) (R:=λr s'=>r=.ok (.ret (.ref 49))/\∃g tk,s'={ s with heap:=g,toks:=tk }/\wpAny 103 A (load 49 >>= λo=>match o.data with|Data.seq xs epoch=>pure xs.toList|x=>unsupported "internal:collect") Q E s')
  (s:={ s with heap:=s.heap.push { cls:=.type "list",data:=.seq ([]:List Value).toArray } }) hh (53 _ hr) hsm hn hl 49 (.ref 49) 0 e0 λg tk acc c' kp eS it=>⟨rfl,g,tk,rfl,fin g tk acc c' kp eS it⟩) (λfn s' h=>?_) (λe s' h=>absurd h.1 (by simp))
 cases fn with
 |done f=>
  obtain⟨e,_,_,_,q⟩:=h;cases e;exact q
 |again c'=>exact⟨h.1,jy h.2 λr s'' hr=>by obtain⟨rfl,_,_,_,q⟩:=hr;exact q⟩
def MZ(r:Addr)(a b c:Int)(t u v:Tok)(n:Nat)(hsm:Builtin.Range.small a b c=true)(hn:Builtin.Range.rangeSize a b c=n)(hl:n<=2^24):
 Meets (Builtin.«tuple.__new__» ⟨[.type "tuple",.ref r],[]⟩)
  (λ(A:Around) (R:Result->Shared->Prop) (s:Shared)=>A.handled=none/\IsRange s.heap r a b c t u v/\∀(g:Heap) (tk:Nat) (acc:Array Value),(∀b o,s.heap.get? b=some o->g.get? b=some o)->ItemsOf (λi v=>∃t,v=.int (a+i*c) t) acc n->R (.ok (.ret (.ref g.objs.size))) { s with heap:=g.push { cls:=.type "tuple",data:=.seq acc },toks:=tk }):=
 .of_wp λprog w A R s h=>by
  obtain⟨hp,gg,d,tk,os⟩:=s;obtain⟨hh,hr,h⟩:=h;have hsub:=sub_tuple_self;have hinit:=init_tuple_lookup;have hmh:=madeHere_tuple;have hT:Shared.TypeIs ⟨hp,gg,d,tk,os⟩ (.ref r) "range":=⟨_,hr,rfl⟩
  have hh':A.in1.handled=none:=hh
  wp_walk using wpAny_typeOf hT,wpAny_loadPart' hr,OJ hh' hr hsm hn hl
  intro g tk2 acc kp it;show wpAny _ _ (Builtin.Tuple.tupleExact acc.toList.toArray >>= λv=>ret v) _ _ _;unfold Builtin.Tuple.tupleExact;refine ic (jK ?_ (by show acc.toList.toArray.size<=sizeLine;rw[jx];have:=it.1;simp only[Array.toArray_toList];omega));refine ik ⟨_,rfl,?_⟩;have e:acc.toList.toArray=acc:=by simp
  rw[e];exact h g tk2 acc kp it
end
def Oo:List V->Hp->VK->Prop:=λxs H Q=>∃j:Int,xs=[.int j]/\∀p,H p=none->Q (.ref p) (upd H p (.rng 0 j))
def On:List V->Hp->VK->Prop:=λxs H Q=>∃i j:Int,xs=[.int i,.int j]/\∀p,H p=none->Q (.ref p) (upd H p (.rng i j))
def NH:List V->Hp->VK->Prop:=λxs H Q=>∃a lo hi,xs=[.ref a]/\H a=some (.rng lo hi)/\(-(2^62)<=lo/\lo<2^62/\-(2^62)<=hi/\hi<2^62)/\(hi-lo).toNat<=2^24/\∀p,H p=none->Q (.ref p) (upd H p (.lst (BR lo (hi-lo).toNat)))
def KZ:List V->Hp->VK->Prop:=λxs H Q=>∃a lo hi,xs=[.ref a]/\H a=some (.rng lo hi)/\(-(2^62)<=lo/\lo<2^62/\-(2^62)<=hi/\hi<2^62)/\(hi-lo).toNat<=2^24/\∀p,H p=none->Q (.ref p) (upd H p (.tup (BR lo (hi-lo).toNat)))
section
def call_rng1:CallR X (.type "range") Oo:=by
 intro pins s σ H xs us Q I r h;obtain⟨j,rfl,q⟩:=h;obtain⟨u,rfl,t,rfl⟩:=BJ r;exact call_range_1 ⟨.ref 49,_,I.laid (a:=49) (o:=.rng 0 j) (λb o e=>53 _ e) (ig _) ⟨_,_,_,115 _ rfl⟩,rfl,q _ (I.hok.fresh (ig _))⟩
def Lg:CallR X (.type "range") On:=by
 intro pins s σ H xs us Q I r h;obtain⟨i,j,rfl,q⟩:=h;obtain⟨u,v,rfl,⟨t,rfl⟩,⟨t',rfl⟩⟩:=M2 r;exact call_range_2 ⟨.ref 49,_,I.laid (a:=49) (o:=.rng i j) (λb o e=>53 _ e) (ig _) ⟨_,_,_,115 _ rfl⟩,rfl,q _ (I.hok.fresh (ig _))⟩
def WW{lo hi:Int}:Builtin.Range.rangeSize lo hi 1=((hi-lo).toNat:Nat):=by rw[rangeSize_one];split<;>omega
def Jy{lo:Int}{n:Nat}(it:ItemsOf (λi v=>∃t,v=.int (lo+i*1) t) acc n):Vals (BR lo n) acc.toList:=Jh (by simpa using it.1) λj v q=>it.2 j v (by simpa using q)
def RU(hc:X.calm=true):CallR X (.type "list") NH:=by
 intro pins s σ H xs us Q I r h;obtain⟨a,lo,hi,rfl,ha,⟨b1,b2,b3,b4⟩,hz,q⟩:=h;obtain⟨u,rfl,ru⟩:=BJ r;cases ru;obtain⟨t,u,v,hr⟩:∃t u v,s.heap.get? a=some { cls:=.type "range",data:=.fields #[.int lo t,.int hi u,.int 1 v] }:=I.hok a _ ha;refine call_list_range (I.ok.hd hc) hr (small_one b1 b2 b3 b4) WW hz λg tk acc c' kp e it=>?_;exact⟨.ref 49,_,I.laid (t':=tk) (o:=.lst _) kp (ig _) ⟨by rw[Ji,jx];omega,acc.toList,c',Jy it,by simpa using e⟩,rfl,q _ (I.hok.fresh (ig _))⟩
def OT(hc:X.calm=true):CallR X (.type "tuple") KZ:=by
 intro pins s σ H xs us Q I r h;obtain⟨a,lo,hi,rfl,ha,⟨b1,b2,b3,b4⟩,hz,q⟩:=h;obtain⟨u,rfl,ru⟩:=BJ r;cases ru;obtain⟨t,u,v,hr⟩:∃t u v,s.heap.get? a=some { cls:=.type "range",data:=.fields #[.int lo t,.int hi u,.int 1 v] }:=I.hok a _ ha;refine callType_new F.called_tuple 107 (F.typeCall_tuple_1 _) (F.newCall_tuple_1 _) (λobj=>F.args_object_init_2 obj _) F.entry_tuple_new (MZ a lo hi 1 t u v _ (small_one b1 b2 b3 b4) WW hz)
  ⟨I.ok.hd hc,hr,λg tk acc kp it=>⟨⟨_,115 _ rfl,rfl⟩,?_⟩⟩
 have I1:Inv X pins σ H { s with heap:=g,toks:=tk }:=I.kept kp;exact⟨.ref g.objs.size,_,I1.laid (t':=tk) (o:=.tup (BR lo (hi-lo).toNat)) (λb o e=>53 _ e) (ig _) ⟨by rw[Ji,jx];omega,acc.toList,Jy it,⟨_,115 _ rfl,rfl,⟨0,by simp⟩,rfl⟩⟩,rfl,q _ (I1.hok.fresh (ig _))⟩
end
section
variable{K:Frag}
open Classical in
noncomputable def HC(m:MA):MA:=λls hd=>(m ls hd).bind λp=>match p.1 with
 |[.im (.int j)]=>if Hm j then some (An 0 j.toNat,p.2)else none
 |[.im (.int i),.im (.int j)]=>if WY i j then some (An i (j-i).toNat,p.2)else none
 |_=>none
def Jm:List V->Hp->VK->Prop:=λxs H Q=>Oo xs H Q∨On xs H Q
def UY(h:RA K t m):RN K (tCB NH (Af (tCB Jm t) BG)) (HC m):=by
 and_intros;obtain⟨⟨d1,h1⟩,e1,hm⟩:=iS hm;dsimp only at hm;refine h ρ σ H hd ls _ d1 h1 hR hL e1 λρ1 H1 v x1 R1 r1=>?_;split at hm
 .next j=>
  split at hm
  .next c=>
   have c:j<2^24/\-(2^62)<=j:=c;cases hm;simp only[RDs,RD,RI]at r1;obtain⟨x,r,rfl,rfl,rfl⟩:=r1;refine .inl ⟨j,rfl,λp hp=>⟨p,0,j,rfl,AF,⟨by decide,by decide,c.2,by omega⟩,by omega,λl hl=>?_⟩⟩;obtain⟨R2,x2⟩:=R1.hid (ho:=.rng 0 j) hp;obtain⟨R3,x3⟩:=R2.hid (ho:=.lst (BR 0 (j-0).toNat)) hl;refine hQ ρ1 _ l (BR 0 (j-0).toNat) ((106).trans R2 x3) R3 ((106).none hR hl R2) (R2.out hl) AF ?_;rw[Int.sub_zero];exact GK 0 _
  .cases hm
 .next i j=>
  split at hm
  .next c=>
   cases hm;simp only[RDs,RD,RI]at r1;obtain⟨x,r,rfl,rfl,y,r2,rfl,rfl,rfl⟩:=r1;refine .inr ⟨i,j,rfl,λp hp=>⟨p,i,j,rfl,AF,⟨c.1.1,c.1.2,c.2.1.1,c.2.1.2⟩,c.2.2,λl hl=>?_⟩⟩;obtain⟨R2,x2⟩:=R1.hid (ho:=.rng i j) hp;obtain⟨R3,x3⟩:=R2.hid (ho:=.lst (BR i (j-i).toNat)) hl;exact hQ ρ1 _ l (BR i (j-i).toNat) ((106).trans R2 x3) R3 ((106).none hR hl R2) (R2.out hl) AF (GK i _)
  .cases hm
 .cases hm
noncomputable def Jp(m:MA):ME:=λls hd=>(HC m ls hd).bind λp=>some (Ap p.1,p.2)
def Xk(h:RA K t m):RE K (tCB KZ (Af (tCB Jm t) BG)) (Jp m):=by
 and_intros;obtain⟨⟨dd,h0⟩,e0,hm⟩:=iS hm;cases hm;obtain⟨⟨d1,h1⟩,e1,hm⟩:=iS e0;dsimp only at hm;refine h ρ σ H hd ls _ d1 h1 hR hL e1 λρ1 H1 v x1 R1 r1=>?_;split at hm
 .next j=>
  split at hm
  .next c=>
   have c:j<2^24/\-(2^62)<=j:=c;cases hm;simp only[RDs,RD,RI]at r1;obtain⟨x,r,rfl,rfl,rfl⟩:=r1;refine .inl ⟨j,rfl,λp hp=>⟨p,0,j,rfl,AF,⟨by decide,by decide,c.2,by omega⟩,by omega,λl hl=>?_⟩⟩;obtain⟨R2,x2⟩:=R1.hid (ho:=.rng 0 j) hp;obtain⟨R3,x3⟩:=R2.hid (ho:=.tup (BR 0 (j-0).toNat)) hl;refine hQ ρ1 _ _ ((106).trans R2 x3) R3 (CG (SqT.of AF) ?_);rw[Int.sub_zero];exact GK 0 _
  .cases hm
 .next i j=>
  split at hm
  .next c=>
   cases hm;simp only[RDs,RD,RI]at r1;obtain⟨x,r,rfl,rfl,y,r2,rfl,rfl,rfl⟩:=r1;refine .inr ⟨i,j,rfl,λp hp=>⟨p,i,j,rfl,AF,⟨c.1.1,c.1.2,c.2.1.1,c.2.1.2⟩,c.2.2,λl hl=>?_⟩⟩;obtain⟨R2,x2⟩:=R1.hid (ho:=.rng i j) hp;obtain⟨R3,x3⟩:=R2.hid (ho:=.tup (BR i (j-i).toNat)) hl;exact hQ ρ1 _ _ ((106).trans R2 x3) R3 (CG (SqT.of AF) (GK i _))
  .cases hm
 .cases hm
def Kf:∀{xs ys:List Int},xs.Perm ys->xs.Pairwise (·<=·)->ys.Pairwise (·<=·)->xs=ys:=λ{xs ys} p a b=>
 p.eq_of_pairwise (le:=(·<=·)) (λ_ _ _ _ h1 h2=>Int.le_antisymm h1 h2) a b
noncomputable def BV(xs:List Int):List Int:=xs.mergeSort (λa b=>decide (a<=b))
def Jb(xs:List Int):(BV xs).Perm xs:=List.mergeSort_perm ..
def Mp(xs:List Int):(BV xs).Pairwise (·<=·):=by
 have:=List.pairwise_mergeSort (le:=λa b:Int=>decide (a<=b)) (by intro a b c h1 h2;simp at *;omega) (by intro a b;simp;omega) xs;exact this.imp 55
noncomputable def Dr(m:MI):MA:=λls hd=>(m ls hd).bind λp=>(B6 p.1.1).bind λns=>if ns.length<64 then some ((BV ns).map λi=>.im (.int i),p.2)else none
def Q5(h:RRw K false t m):RN K (tCB (Ka K) (Af t BG)) (Dr m):=by
 and_intros;obtain⟨⟨⟨d1,g1⟩,h1⟩,e1,hm⟩:=iS hm;obtain⟨ns,e2,hm⟩:=iS hm;split at hm
 .next c=>
  cases hm;refine h ρ σ H hd ls _ d1 g1 _ hR hL e1 λρ1 H1 a x1 R1 G1 S1=>?_;obtain⟨xs,q,r⟩:=S1 ρ1 H1 _ .refl R1 G1;have e3:d1=ns.map λi=>.im (.int i):=F6 e2;rw[e3]at r;have:=Fg r;subst this;refine⟨a,ns,rfl,q,c,λp ns' hp pm pw=>?_⟩;have:ns'=BV ns:=Kf (pm.trans (Jb ns).symm) pw (Mp ns);subst this;obtain⟨R2,x2⟩:=R1.hid (ho:=.lst ((BV ns).map V.int)) hp;exact hQ ρ1 _ p _ 106 R2 (x1.none hR hp R1) (R1.out hp) AF Fp
 .cases hm
end
section
variable(K:Frag){X:Cx}{b:Expr}{ta tb:TE}{me:ME}
def V2(hm:X.mg "list"=none)(hm2:X.mg "range"=none)(ha:QA K X (a::es) t m)(hc:X.calm=true:=by rfl)(hg:Gl X "list":=by rfl)(hg2:Gl X "range":=by rfl)(he2:starEach (a::es) X.env=(false,eval a X.env)::starEach es X.env:=by rfl)(hpl:(backTo pos2 (starEach es X.env)).any (·.1)=false:=by rfl)
 (he:starEach [.Call (.Name "range" p2) (a::es) [] pos2] X.env=[(false,eval (.Call (.Name "range" p2) (a::es) [] pos2) X.env)]:=by rfl):
 QN K X (.Call (.Name "list" p) [.Call (.Name "range" p2) (a::es) [] pos2] [] pos) (tCB NH (Af (tCB Jm t) BG)) (HC m):=
 ⟨Cb (RU hc) hg hm PV (BB (Cb (call_rng1.or Lg) hg2 hm2 boot_range ha.p 107 107 he2 hpl) C4 he) 107 107 he rfl,UY ha.r⟩
def YQ(hm:X.mg "tuple"=none)(hm2:X.mg "range"=none)(ha:QA K X (a::es) t m)(hc:X.calm=true:=by rfl)(hg:Gl X "tuple":=by rfl)(hg2:Gl X "range":=by rfl)(he2:starEach (a::es) X.env=(false,eval a X.env)::starEach es X.env:=by rfl)(hpl:(backTo pos2 (starEach es X.env)).any (·.1)=false:=by rfl)
 (he:starEach [.Call (.Name "range" p2) (a::es) [] pos2] X.env=[(false,eval (.Call (.Name "range" p2) (a::es) [] pos2) X.env)]:=by rfl):
 QE K X (.Call (.Name "tuple" p) [.Call (.Name "range" p2) (a::es) [] pos2] [] pos) (tCB KZ (Af (tCB Jm t) BG)) (Jp m):=
 ⟨Cb (OT hc) hg hm bt_tuple (BB (Cb (call_rng1.or Lg) hg2 hm2 boot_range ha.p 107 107 he2 hpl) C4 he) 107 107 he rfl,Xk ha.r⟩
def QL(hm:X.mg "sorted"=none)(ha:QR K false X e te mi)(hg:Gl X "sorted":=by rfl)(he:starEach [e] X.env=[109]:=by rfl)(hK:X.K=K:=by rfl):QN K X (.Call (.Name "sorted" p) [e] [] pos) (tCB (Ka K) (Af te BG)) (Dr mi):=
 ⟨DJ (O3 K hK) hg hm Lk (BB ha.p C4 he) 107 107 he rfl,Q5 ha.r⟩
end
end L2
namespace L2
structure BltA(mg:PySem.Str->Option PySem.Value):Prop where
 list:mg "list"=none
 tuple:mg "tuple"=none
 len:mg "len"=none
 range:mg "range"=none
 repr:mg "repr"=none
 sum:mg "sum"=none
 min:mg "min"=none
 max:mg "max"=none
 abs:mg "abs"=none
 all:mg "all"=none
 any:mg "any"=none
 sorted:mg "sorted"=none
 zip:mg "zip"=none
 isinstance:mg "isinstance"=none
 int:mg "int"=none
 bool:mg "bool"=none
 str:mg "str"=none
 set:mg "set"=none
 enumerate:mg "enumerate"=none
 reversed:mg "reversed"=none
 dict:mg "dict"=none
end L2
namespace L2
open PySem PySem.Spec PyProof.Rows
section
variable{ls:Ls}{hd:Hd}{a b c:MS}{ma mb mc:ME}{ta tb:MT}{m m1 m2:MA}{n:MG}{ns:MGs}{d e:D}
@[simp] theorem K5:A6 a b ls hd=(a ls hd).bind λp=>match p.1 with
 |.nx ls1=>b ls1 p.2
 |f=>some (f,p.2):=rfl
@[simp] theorem P9:AV ls hd=some (.nx ls,hd):=rfl
@[simp] theorem ZW:Ay ma ls hd=(ma ls hd).bind λp=>some (.nx ls,p.2):=rfl
@[simp] theorem TL:AK ma ls hd=(ma ls hd).bind λp=>some (.rt p.1,p.2):=rfl
@[simp] theorem Nr:Ad ta a b ls hd=(ta ls hd).bind λp=>if p.1=true then a ls p.2 else b ls p.2:=rfl
@[simp] theorem HQ:JB ma n ls hd=(ma ls hd).bind λp=>(n p.1 ls p.2).map λls'=>(.nx ls',p.2):=rfl
@[simp] theorem Kv(i:Nat):AG i d ls hd=some (ls.set i (some d)):=rfl
@[simp] theorem gQ(k:Nat):CO k ns d ls hd=(AS d).bind λds=>if 104=k then ns ds ls hd else none:=rfl
@[simp] theorem fz(d:D)(ds:List D):Ac n ns (d::ds) ls hd=(n d ls hd).bind λls1=>ns ds ls1 hd:=rfl
@[simp] theorem gT:CP [] ls hd=some ls:=rfl
@[simp] theorem EG(i:Nat):A1 i ls hd=match ls[i]? with
 |some (some d)=>some (d,hd)
 |_=>none:=rfl
@[simp] theorem iL(i:I):mC i ls hd=some (.im i,hd):=rfl
@[simp] theorem Qs(f:D->D->Hd->Option (D×Hd)):mOp f ma mb ls hd=(ma ls hd).bind λp=>(mb ls p.2).bind λq=>f p.1 q.1 q.2:=rfl
@[simp] theorem Nv:Cs ta tb ls hd=(ta ls hd).bind λp=>if p.1=true then tb ls p.2 else some (false,p.2):=rfl
@[simp] theorem iC:mOr ta tb ls hd=(ta ls hd).bind λp=>if p.1=true then some (true,p.2)else tb ls p.2:=rfl
@[simp] theorem gn:FO ta ls hd=(ta ls hd).bind λp=>some (!p.1,p.2):=rfl
@[simp] theorem K4:BZ ma ls hd=(ma ls hd).bind λp=>(CC p.2 p.1).map (·,p.2):=rfl
@[simp] theorem IH:AC ma ls hd=(ma ls hd).bind λp=>match p.1 with
 |.im (.bl b)=>some (b,p.2)
 |_=>none:=rfl
@[simp] theorem iD:mIf ta ma mb ls hd=(ta ls hd).bind λp=>if p.1=true then ma ls p.2 else mb ls p.2:=rfl
@[simp] theorem gY:I0 ma mb ls hd=(AC ma ls hd).bind λp=>if p.1=true then mb ls p.2 else some (.im (.bl false),p.2):=rfl
@[simp] theorem gR:GP ma ls hd=(AC ma ls hd).bind λp=>some (.im (.bl (!p.1)),p.2):=rfl
@[simp] theorem Nq:A5 ls hd=some ([],hd):=rfl
@[simp] theorem PB:A2 ma m ls hd=(ma ls hd).bind λp=>(m ls p.2).bind λq=>some (p.1::q.1,q.2):=rfl
open Classical in
@[simp] theorem gk:Ak m ls hd=(m ls hd).bind λp=>if Bg p.1.length then some (Ap p.1,p.2)else none:=rfl
open Classical in
@[simp] theorem dE:Ai m ls hd=(m ls hd).bind λp=>if Bg p.1.length then some (p.1,p.2)else none:=rfl
@[simp] theorem dC:AY m ls hd=(m ls hd).bind λp=>some (.mu p.2.length,p.2++[.lst p.1]):=rfl
@[simp] theorem dD:GQ ma ls hd=(ma ls hd).bind λp=>match p.1 with
 |.im (.int i)=>some (.im (.int (-i)),p.2)
 |_=>none:=rfl
@[simp] theorem gp(neg:Bool):DV neg ma ls hd=(ma ls hd).bind λp=>some (.im (.bl (match p.1 with
 |.im .non=>!neg
 | _=>neg)),p.2):=rfl
@[simp] theorem iE(g:Int->Int->Option I)(i j:Int):fI g (.im (.int i)) (.im (.int j)) hd=(g i j).map (.im ·,hd):=rfl
@[simp] theorem Kw(f g:D->D->Hd->Option (D×Hd)):GY f g d e hd=match f d e hd with
 |some z=>some z
 |none=>g d e hd:=rfl
@[simp] theorem Nu(neg:Bool)(i j:Int):FT neg (.im (.int i)) (.im (.int j)) hd=some (.im (.bl (if neg then !decide (i=j)else decide (i=j))),hd):=by simp[FT,scI,Mu]
@[simp] theorem gq(neg:Bool)(i j:Str):FT neg (.im (.str i)) (.im (.str j)) hd=some (.im (.bl (if neg then !decide (i=j)else decide (i=j))),hd):=by simp[FT,scI,Mu]
@[simp] theorem fJ(i:Int):gIx d (.im (.int i)) hd=(As hd d).bind λds=>(atI ds i).map (·,hd):=rfl
@[simp] theorem ZY:EW d e hd=(C6 hd d).bind λkvs=>(Cd e).bind λk=>(BC kvs k).map (·,hd):=rfl
@[simp] theorem iF(f:List D->Hd->Option (D×Hd)):mCB f m ls hd=(m ls hd).bind λp=>f p.1 p.2:=rfl
@[simp] theorem fK(tp:Bool)(g:List D->Option D):f1 tp g [d] hd=((if tp then As hd d else Aa hd d)).bind λds=>(g ds).map (·,hd):=rfl
@[simp] theorem TR(g:List D->Option D):B7 g m ls hd=(m ls hd).bind λp=>(g p.1).map (·,p.2):=rfl
@[simp] theorem Qt(f:D->List D->Hd->Option (D×Hd)):mMt f ma m ls hd=(ma ls hd).bind λp=>match Aa p.2 p.1 with
 |some _=>(m ls p.2).bind λq=>f p.1 q.1 q.2
 |none=>none:=rfl
@[simp] theorem gW(i j:Int):E3 [.im (.int i),.im (.int j)] hd=some (.im (.int (if j>i then j else i)),hd):=rfl
@[simp] theorem gU(i j:Int):GW [.im (.int i),.im (.int j)] hd=some (.im (.int (if j<i then j else i)),hd):=rfl
@[simp] theorem gu(i:Int):fw [.im (.int i)] hd=some (.im (.int (if i<0 then -i else i)),hd):=rfl
@[simp] theorem TN:FP m ma ls hd=(m ls hd).bind λp=>(ma ls p.2).bind λq=>match q.1 with
 |.im (.int i)=>(atI p.1 i).map (·,q.2)
 |_=>none:=rfl
@[simp] theorem dF:B0 ma ls hd=(ma ls hd).bind λp=>(AS p.1).map λds=>((ds,[]),p.2):=rfl
@[simp] theorem dH:cf m ls hd=(m ls hd).map λp=>((p.1,[]),p.2):=rfl
@[simp] theorem TQ:Br ma ls hd=(ma ls hd).bind λp=>match p.1 with
 |.mu n=>match p.2[n]? with
  |some (.lst ds)=>some ((ds,[(n,ds)]),p.2)
  |_=>none
 |.ro ns=>some ((ns.map λn=>.im (.int n),[]),p.2)
 |_=>none:=rfl
open Classical in
@[simp] theorem dG:Ey m ls hd=(m ls hd).bind λp=>match p.1 with
 |[.im (.int j)]=>if GI j then some ((An 0 j.toNat,[]),p.2)else none
 |_=>none:=rfl
@[simp] theorem dJ(mi:MI):Bs mi n a ls hd=(mi ls hd).bind λp=>BN n a p.1.2 p.1.1 ls p.2:=rfl
open Classical in
@[simp] theorem gX(k:Nat)(ix:List Nat)(mi:MI):Ag k ix mi n ta ma ls hd=(mi ls hd).bind λp=>if Bg p.1.1.length then C5 n ta ma p.1.2 p.1.1 (E5 k ix ls) p.2 else none:=rfl
@[simp] theorem gj:Bq ls hd=some (true,hd):=rfl
@[simp] theorem gC(F:List D->Hd->Option (D×Hd)):D0 F m ls hd=(m ls hd).bind λp=>F p.1 p.2:=rfl
@[simp] theorem fW:BM ls hd=some (none,hd):=rfl
@[simp] theorem ZU:CU ma ls hd=(ma ls hd).bind λp=>match p.1 with
 |.im (.int i)=>some (some i,p.2)
 |_=>none:=rfl
@[simp] theorem gA:HD m ls hd=m ls hd:=rfl
@[simp] theorem gm(ml mh:MO1):Kj ma ml mh ls hd=(ma ls hd).bind λp=>(ml ls p.2).bind λl=>(mh ls l.2).bind λh=>(Aa h.2 p.1).bind λds=>some (Cu ds l.1 h.1,h.2):=rfl
@[simp] theorem d8(ml mh:MO1):Ds ma ml mh ls hd=(ma ls hd).bind λp=>(ml ls p.2).bind λl=>(mh ls l.2).bind λh=>(AS p.1).bind λds=>if ¬ (HT.sIx 104 0 l.1=0/\HT.sIx 104 104 h.1=104)then some (Ap (Cu ds l.1 h.1),h.2)else none:=rfl
@[simp] theorem gP:Jp m ls hd=(HC m ls hd).bind λp=>some (Ap p.1,p.2):=rfl
open Classical in
@[simp] theorem d9:HC m ls hd=(m ls hd).bind λp=>match p.1 with
 |[.im (.int j)]=>if Hm j then some (An 0 j.toNat,p.2)else none
 |[.im (.int i),.im (.int j)]=>if WY i j then some (An i (j-i).toNat,p.2)else none
 |_=>none:=rfl
@[simp] theorem TK(mi:MI):Dr mi ls hd=(mi ls hd).bind λp=>(B6 p.1.1).bind λns=>if ns.length<64 then some ((BV ns).map λi=>.im (.int i),p.2)else none:=rfl
open Classical in
@[simp] theorem ZX:Hz ma mb mc ls hd=(mc ls hd).bind λp=>(ma ls p.2).bind λq=>(mb ls q.2).bind λr=>(Cd r.1).bind λk=>match q.1 with
 |.mu n=>match r.2[n]? with
  |some (.dic kvs)=>if Ck kvs.length then some (.nx ls,r.2.set n (.dic (Dq kvs k p.1)))else none
  |_=>none
 |_=>none:=rfl
@[simp] theorem ZV:DB ma mb mc ls hd=(mc ls hd).bind λp=>(ma ls p.2).bind λq=>(mb ls q.2).bind λr=>match q.1,r.1 with
 |.mu n,.im (.int i)=>match r.2[n]? with
  |some (.lst ds)=>(ixN 104 i).map λj=>(.nx ls,r.2.set n (.lst (ds.set j p.1)))
  |_=>none
 |_,_=>none:=rfl
@[simp] theorem gb(is:List I):AS (.im (.tup is))=some (is.map .im):=rfl
@[simp] theorem hZ(ds:List D):AS (.tm ds)=some ds:=rfl
@[simp] theorem i4(k:Nat):AS (.mu k)=none:=rfl
@[simp] theorem i3(k:List Int):AS (.ro k)=none:=rfl
@[simp] theorem CK(is:List I):As hd (.im (.tup is))=some (is.map .im):=rfl
@[simp] theorem i5(ds:List D):As hd (.tm ds)=some ds:=rfl
@[simp] theorem dt(k:Nat):As hd (.mu k)=Aa hd (.mu k):=rfl
@[simp] theorem i6(k:List Int):As hd (.ro k)=some (k.map λn=>.im (.int n)):=rfl
@[simp] theorem MB(k:Nat):Aa hd (.mu k)=match hd[k]? with
 |some (.lst ds)=>some ds
 |_=>none:=rfl
@[simp] theorem i9(k:List Int):Aa hd (.ro k)=some (k.map λn=>.im (.int n)):=rfl
@[simp] theorem iG(k:Nat):C6 hd (.mu k)=match hd[k]? with
 |some (.dic ds)=>some ds
 |_=>none:=rfl
@[simp] theorem iB(i:Int):Cd (.im (.int i))=some (.inl i):=rfl
@[simp] theorem iA(i:Str):Cd (.im (.str i))=some (.inr i):=rfl
@[simp] theorem hJ:B9 []=some []:=rfl
@[simp] theorem iI(i:I)(r:List D):B9 (.im i::r)=(B9 r).map (i::·):=rfl
@[simp] theorem gf:B6 []=some []:=rfl
@[simp] theorem gh(i:Int)(r:List D):B6 (.im (.int i)::r)=(B6 r).map (i::·):=rfl
@[simp] theorem gy:C8 []=some []:=rfl
@[simp] theorem iH(i:Bool)(r:List D):C8 (.im (.bl i)::r)=(C8 r).map (i::·):=rfl
@[simp] theorem B8(is:List I):Ap (is.map .im)=.im (.tup is):=by simp[Ap]
@[simp] theorem fV:Ap []=.im (.tup []):=rfl
@[simp] theorem Oz(i:I):Ap [.im i]=.im (.tup [i]):=rfl
@[simp] theorem Hv(i j:I):Ap [.im i,.im j]=.im (.tup [i,j]):=rfl
@[simp] theorem Hu(i j k:I):Ap [.im i,.im j,.im k]=.im (.tup [i,j,k]):=rfl
@[simp] theorem gO(i j k l:I):Ap [.im i,.im j,.im k,.im l]=.im (.tup [i,j,k,l]):=rfl
@[simp] theorem gw(w:Nat)(i:I):clD w (.im i)=true:=by simp[clD]
@[simp] theorem gv(w n:Nat):clD w (.mu n)=decide (n<w):=by simp[clD]
@[simp] theorem gE(w:Nat):Al w []=true:=by simp[Al]
@[simp] theorem Tf(w:Nat)(d:D)(ds:List D):Al w (d::ds)=(clD w d&&Al w ds):=by simp[Al]
@[simp] theorem Dc{α:Type}(x:α)(r:List α):atI (x::r) 0=some x:=BX (j:=0) rfl
@[simp] theorem Dv{α:Type}(x y:α)(r:List α):atI (x::y::r) 1=some y:=BX (j:=1) rfl
@[simp] theorem FX{α:Type}(x y z:α)(r:List α):atI (x::y::z::r) 2=some z:=BX (j:=2) rfl
def JR{α:Type}{xs:List α}{i:Int}{k:Nat}{x:α}(hi:i=k)(h:xs[k]?=some x):atI xs i=some x:=by subst hi;exact BX h
@[simp] theorem HN:Bg 0:=AL 107
@[simp] theorem F7:Bg 1:=AL 107
@[simp] theorem HM:Bg 2:=AL 107
@[simp] theorem DY:Bg 3:=AL 107
@[simp] theorem Nl:Bg 4:=AL 107
@[simp] theorem Nk:Bg 5:=AL 107
open Classical in
@[simp] theorem TU(k:Nat)(x:D):Ar (.mu k) [x] hd=match hd[k]? with
 |some (.lst ds)=>if Ck 104 then some (.im .non,hd.set k (.lst (ds++[x])))else none
 |_=>none:=rfl
def HY{F:List D->Hd->Option (D×Hd)}(h1:m ls hd=some (ds,hd1))(hc:Al 0 ds=true)(hF:F ds []=some (.im i,h2)):A9 0 F m ls hd=some (.im i,hd1):=by
 simp[A9,h1,hc,hF,fin]
def O8{w:Nat}{F:List D->Hd->Option (D×Hd)}{pre pre' rest:Hd}(hw:pre.length=w)(hw':pre'.length=w)(h1:m ls hd=some (ds,pre++rest))(hc:Al w ds=true)(hp:pre.all (clO w)=true)(hp':pre'.all (clO w)=true)(hF:F ds pre=some (.im i,pre'++g)):A9 w F m ls hd=some (.im i,pre'++rest):=by
 subst hw;have e1:(pre++rest).take pre.length=pre:=by simp
 have e2:(pre'++g).take pre.length=pre':=by rw[<- hw'];simp
 simp only[A9,h1,bind_some,e1,hc,hp,hF,fin,e2,hp'];simp
end
def Nc:BN n b g [] ls hd=some (.nx ls,hd):=by unfold BN;rfl
def HH(h1:n d ls hd=some ls1)(h2:b ls1 hd=some (.nx ls2,hd2))(h3:GOk hd2 g):BN n b g (d::r) ls hd=BN n b g r ls2 hd2:=by
 conv=>lhs;unfold BN
 simp[h1,h2,h3]
def Vb(h1:n d ls hd=some ls1)(h2:b ls1 hd=some (.rt v,hd2)):BN n b g (d::r) ls hd=some (.rt v,hd2):=by
 conv=>lhs;unfold BN
 simp[h1,h2]
section
variable{K:Frag}
def ZQ(G:GOk h g)(r:Hd):GOk (h++r) g:=λp hp=>by
 have:=G p hp;have hl:p.1<h.length:=(102 this).1;rw[List.getElem?_append_left hl];exact this
end
open Classical in
noncomputable def HF(ma mb:ME):MA:=λls hd=>(ma ls hd).bind λp=>(mb ls p.2).bind λq=>match p.1,q.1 with
 |.mu i,.mu j=>match q.2[i]?,q.2[j]? with
  |some (.lst xs),some (.lst ys)=>if Bg (105+ys.length)then some (xs++ys,q.2)else none
  |_,_=>none
 |_,_=>none
def aH{K:Frag}(ha:RE K ta ma)(hb:RE K tb mb):RN K (tOp Uv ta tb) (HF ma mb):=by
 and_intros;obtain⟨⟨d1,h1⟩,e1,hm⟩:=iS hm;obtain⟨⟨d2,h2⟩,e2,hm⟩:=iS hm;dsimp only at hm;split at hm
 .next i j=>
  split at hm
  .next xs ys q1 q2=>
   split at hm
   .next c=>
    cases hm;refine ha ρ σ H hd ls _ _ h1 hR hL e1 λρ1 H1 v x1 R1 r1=>?_;refine hb ρ1 σ H1 h1 ls _ _ _ R1 (hL.ext hR x1) e2 λρ2 H2 u x2 R2 r2=>?_;have r1':=r1.ext R1 x2;simp only[RD]at r1' r2;obtain⟨a,ka,rfl⟩:=r1';obtain⟨b,kb,rfl⟩:=r2;obtain⟨vs,f1,f2⟩:=R2.lst ka q1;obtain⟨us,f3,f4⟩:=R2.lst kb q2;refine⟨a,b,vs,us,rfl,rfl,f1,f3,by rw[f2.len,f4.len];exact c,λp hp=>?_⟩;obtain⟨R3,x3⟩:=R2.hid (ho:=.lst (vs++us)) hp;have x12:=x1.trans R1 x2;exact hQ ρ2 _ p _ (x12.trans R2 x3) R3 (x12.none hR hp R2) (R2.out hp) AF ((f2.app f4).ext R2 x3)
   .cases hm
  .cases hm
 .cases hm
def bC(K:Frag)(ha:QE K X a ta ma)(hb:QE K X b tb mb):QN K X (.BinOp a .Add b pos) (tOp Uv ta tb) (HF ma mb):=⟨QV cQ ha.p hb.p,aH ha.r hb.r⟩
end L2
namespace L2
open PySem PySem.Spec PyProof.Rows PySem.W
section
variable(r:Nat->Int)(n:Nat)
def PWp{α:Type}:KasT α->(α->Prop)->Prop
 |.ret a,Q=>Q a
 |.ask i j k,Q=>i<n/\j<n/\PWp (k (decide (r i<r j))) Q
noncomputable def kv(p:Array Nat)(i:Nat):Int:=r (p.getD i 0)
def STo(p:Array Nat)(m:Nat):Prop:=∀i j,i<=j->j<m->kv r p i<=kv r p j
def DTo(p:Array Nat)(m:Nat):Prop:=∀i j,i<=j->j<m->kv r p j<=kv r p i
def EqL(p:Array Nat)(m q:Nat):Prop:=∀k,m-(q+1)<=k->k<m->kv r p k=kv r p (m-1)
def PAr(p:Array Nat):Prop:=p.Perm (57 n).toArray
end
section
variable{r:Nat->Int}{n:Nat}
theorem PWp.bind{α β:Type}{f:α->KasT β}{Q:β->Prop}:∀{t:KasT α},PWp r n t (λa=>PWp r n (f a) Q)->PWp r n (t.bind f) Q
 |.ret _,h=>h
 |.ask i j k,h=>⟨h.1,h.2.1,PWp.bind h.2.2⟩
theorem PWp.mono{α:Type}{Q Q':α->Prop}:∀{t:KasT α},PWp r n t Q->(∀a,Q a->Q' a)->PWp r n t Q'
 |.ret _,h,q=>q _ h
 |.ask i j k,h,q=>⟨h.1,h.2.1,PWp.mono h.2.2 q⟩
theorem PWp.wp{α:Type}{cmp:Nat->Nat->(Bool->Shared->Prop)->Shared->Prop}{P:Shared->Prop}{Q:α->Shared->Prop}(hc:∀i j C s,i<n->j<n->P s->(∀s',P s'->C (decide (r i<r j)) s')->cmp i j C s):∀{t:KasT α} {s:Shared},PWp r n t (λa=>∀s,P s->Q a s)->P s->t.kasWp cmp Q s
 |.ret _,s,h,p=>h s p
 |.ask i j k,s,h,p=>hc i j _ s h.1 h.2.1 p λs' p'=>PWp.wp hc h.2.2 p'
theorem PAr.size(h:PAr n p):p.size=n:=by have:=h.size_eq;simpa using this
def PAr.lt(h:PAr n p){i:Nat}(hi:i<n):p.getD i 0<n:=by
 have hs:=h.size;have hi':i<p.size:=by omega
 have:p[i]∈(57 n).toArray:=h.mem_iff.mp (Array.getElem_mem hi');have e:p.getD i 0=p[i]:=by simp[Array.getD,hi']
 rw[e];simpa using this
def Ju{p:Array Nat}{i j:Nat}(hj:j<=p.size)(k:Nat):kv r (kas_rev p i j) k=if i<=k/\k<j then kv r p (i+j-1-k)else kv r p k:=by
 unfold kv kas_rev;simp only[Array.getD_eq_getD_getElem?];rw[getElem?_mirror_all hj];split<;>rfl
def PAr.rev(h:PAr n p)(i j:Nat):PAr n (kas_rev p i j):=(mirror_perm _ _ _ _).trans h
def P0{p:Array Nat}{m q:Nat}(hj:m<=p.size)(hq:q+1<=m)(h:EqL r p m q)(k:Nat):kv r (kas_rev p (m-(q+1)) m) k=kv r p k:=by
 rw[Ju hj];split
 .next c=>rw[h _ 50 50,h k c.1 c.2]
 .rfl
theorem O9(pa:PAr n p):∀(f m:Nat),1<=m->m+f<=n->STo r p m->PWp r n (kas_asc p f m) λm'=>m<=m'/\m'<=m+f/\STo r p m'/\(m'<m+f->kv r p m'<kv r p (m'-1))
 |0,m,h1,hn,hs=>⟨ig _,ig _,hs,λh=>by omega⟩
 |f+1,m,h1,hn,hs=>by
  refine⟨pa.lt 50,pa.lt 50,?_⟩;by_cases c:r (p.getD m 0)<r (p.getD (m-1) 0)
  .rw[jl c];exact⟨ig _,by omega,hs,λ_=>c⟩
  .rw[j9 c];refine(O9 pa f (m+1) 50 50 ?_).mono λm' h=>⟨by omega,by omega,h.2.2.1,λz=>h.2.2.2 50⟩
   intro i j hij hj;by_cases e:j<m
   .exact hs i j hij e
   .have:j=m:=by omega
    subst this;by_cases e2:i=j
    .subst e2;exact Int.le_refl _
    .have:=hs i (j-1) 50 50;have:kv r p (j-1)<=kv r p j:=by unfold kv;omega
     omega
def JK{m:Nat}(h1:1<=m)(h:DTo r p m)(c:kv r p m<=kv r p (m-1)):DTo r p (m+1):=by
 intro i j hij hj;by_cases e:j<m
 .exact h i j hij e
 .have:j=m:=by omega
  subst this;by_cases e2:i=j
  .subst e2;exact Int.le_refl _
  .have:=h i (j-1) 50 50;omega
theorem IJ:∀(f:Nat) (p:Array Nat) (m q:Nat),PAr n p->1<=m->q+1<=m->m+f<=n->DTo r p m->EqL r p m q ->
 PWp r n (kas_desc f p m q) λz=>PAr n z.1/\m<=z.2.1/\z.2.1<=m+f/\DTo r z.1 z.2.1/\EqL r z.1 z.2.1 z.2.2/\z.2.2+1<=z.2.1
 |0,p,m,q,pa,h1,hq,hn,hd,he=>⟨pa,ig _,ig _,hd,he,hq⟩
 |f+1,p,m,q,pa,h1,hq,hn,hd,he=>by
  refine⟨pa.lt 50,pa.lt 50,?_⟩;have sz:=pa.size;by_cases c:r (p.getD m 0)<r (p.getD (m-1) 0)
  .rw[jl c];have c':kv r p m<=kv r p (m-1):=by unfold kv;omega
   dsimp only;rw[ia rfl];by_cases hq0:q>0
   .rw[ia hq0];have sm:=P0 (r:=r) (p:=p) (m:=m) (q:=q) 50 hq he;refine(IJ f _ (m+1) 0 (pa.rev _ _) 50 50 50 ?_ ?_).mono λz h=>⟨h.1,by omega,by omega,h.2.2.2⟩
    .have:=JK h1 hd c';intro i j a b;rw[sm,sm];exact this i j a b
    .intro k a b;have:k=m:=by omega
     subst this;rfl
   .rw[ie hq0];refine(IJ f p (m+1) 0 pa 50 50 50 (JK h1 hd c') ?_).mono λz h=>⟨h.1,by omega,by omega,h.2.2.2⟩
    intro k a b;have:k=m:=by omega
    subst this;rfl
  .rw[j9 c];dsimp only;rw[ie Bool.false_ne_true];refine⟨pa.lt 50,pa.lt 50,?_⟩;by_cases d:r (p.getD (m-1) 0)<r (p.getD m 0)
   .rw[jl d];exact⟨pa,ig _,by show m<=m+(f+1);omega,hd,he,hq⟩
   .rw[j9 d];dsimp only;rw[ie Bool.false_ne_true];have e:kv r p m=kv r p (m-1):=by unfold kv;omega
    refine(IJ f p (m+1) (q+1) pa 50 50 50 (JK h1 hd 50) ?_).mono λz h=>⟨h.1,by omega,by omega,h.2.2.2⟩
    intro k a b;by_cases e2:k=m
    .subst e2;rfl
    .have:=he k 50 50;have e3:m+1-1=m:=rfl;rw[e3];omega
def Run(z:Nat×Array Nat)(r:Nat->Int)(n:Nat):Prop:=PAr n z.2/\1<=z.1/\z.1<=n/\STo r z.2 z.1
def Ma{m:Nat}(pa:PAr n p)(h1:1<=m)(hn:m<=n)(hd:DTo r p m):PWp r n (kas_tail3 m n p) λz=>Run z r n:=by
 have sz:=pa.size;have st:STo r (kas_rev p 0 m) m:=by
  intro i j a b;rw[Ju 50,Ju 50,ia ⟨by omega,by omega⟩,ia ⟨by omega,by omega⟩];exact hd _ _ 50 50
 refine PWp.bind ((O9 (pa.rev 0 m) (n-m) m h1 50 st).mono λm' h=>?_);exact⟨pa.rev 0 m,by show 1<=m';omega,by show m'<=n;omega,h.2.2.1⟩
def IW{m:Nat}(pa:PAr n p)(hn:m+1<=n)(hd:DTo r p (m+1)):PWp r n (kas_descPart m n p) λz=>Run z r n:=by
 refine PWp.bind ((IJ (n-(m+1)) p (m+1) 0 pa 50 50 50 hd ?_).mono λz h=>?_)
 .intro k a b;have:k=m:=by omega
  subst this;rfl
 .obtain⟨a,b,c,d,e,g⟩:=h;have sz:=a.size;by_cases hq:z.2.2>0
  .rw[ia hq];have sm:=P0 (r:=r) (p:=z.1) (m:=z.2.1) (q:=z.2.2) 50 g e;exact Ma (a.rev _ _) 50 50 λi j x y=>by rw[sm,sm];exact d i j x y
  .rw[ie hq];exact Ma a 50 50 d
def W4(h1:1<=n):PWp r n (kas_count n (List.toArray (57 n))) λz=>Run z r n:=by
 have pa:PAr n (57 n).toArray:=.refl _;have sz:=pa.size;refine PWp.bind ((O9 pa (n-1) 1 50 50 λi j a b=>?_).mono λm h=>?_)
 .have:i=j:=by omega
  subst this;exact Int.le_refl _
 .obtain⟨a,b,c,d⟩:=h;by_cases e:(m==n)=true
  .rw[ia e];have:m=n:=by simpa using e
   exact⟨pa,by show 1<=m;omega,by show m<=n;omega,c⟩
  .rw[ie e];have hne:m≠n:=by simpa using e
   have dd:=d 50;by_cases h2:m>1
   .rw[ia h2];refine⟨pa.lt 50,pa.lt 50,?_⟩;by_cases g:r ((57 n).toArray.getD 0 0)<r ((57 n).toArray.getD (m-1) 0)
    .rw[jl g];exact⟨pa,by show 1<=m;omega,by show m<=n;omega,c⟩
    .rw[j9 g];dsimp only;rw[ie Bool.false_ne_true];have g':kv r (57 n).toArray (m-1)<=kv r (57 n).toArray 0:=by unfold kv;omega
     have eq:∀k,k<m->kv r (57 n).toArray k=kv r (57 n).toArray 0:=λk hk=>by
      have x1:=c 0 k 50 hk;have x2:=c k (m-1) 50 50;omega
     have rv:∀k,kv r (kas_rev (57 n).toArray 0 m) k=kv r (57 n).toArray k:=λk=>by
      rw[Ju 50];split
      .next z=>rw[eq _ 50,eq k z.2]
      .rfl
     refine IW (pa.rev 0 m) 50 λi j x y=>?_;rw[rv,rv];by_cases z:j<m
     .rw[eq i 50,eq j z];exact Int.le_refl _
     .have:j=m:=by omega
      subst this;by_cases z2:i=j
      .subst z2;exact Int.le_refl _
      .rw[eq i 50];have:=eq (j-1) 50;omega
   .rw[ie h2];have:m=1:=by omega
    subst this;refine IW pa 50 λi j x y=>?_;by_cases z:i=j
    .subst z;exact Int.le_refl _
    .have:i=0:=by omega
     have:j=1:=by omega
     subst i j;have:kv r (57 n).toArray 1<kv r (57 n).toArray 0:=dd;omega
theorem Iy{k:Nat}(pa:PAr n p)(hk:k<n)(hs:STo r p k):∀(f l q:Nat),l<=q->q<=k->q-l<=f->(∀i,i<l->kv r p i<=kv r p k)->(∀i,q<=i->i<k->kv r p k<kv r p i) ->
 PWp r n (kas_place p k f l q) λm=>m<=k/\(∀i,i<m->kv r p i<=kv r p k)/\∀i,m<=i->i<k->kv r p k<kv r p i
 |0,l,q,a,b,c,d,e=>⟨by omega,d,λi x y=>e i 50 y⟩
 |f+1,l,q,a,b,c,d,e=>by
  unfold kas_place;by_cases h:l>=q
  .rw[ia h];exact⟨by omega,d,λi x y=>e i 50 y⟩
  .rw[ie h];refine⟨pa.lt 50,pa.lt 50,?_⟩;by_cases g:r (p.getD k 0)<r (p.getD ((l+q)/2) 0)
   .rw[jl g];dsimp only;rw[ia rfl];have g':kv r p k<kv r p ((l+q)/2):=g;refine Iy pa hk hs f l ((l+q)/2) 50 50 50 d λi x y=>?_;have:=hs ((l+q)/2) i x y;omega
   .rw[j9 g];dsimp only;rw[ie Bool.false_ne_true];have g':kv r p ((l+q)/2)<=kv r p k:=by unfold kv;omega
    refine Iy pa hk hs f ((l+q)/2+1) q 50 50 50 (λi x=>?_) e;have:=hs i ((l+q)/2) 50 50;omega
def LV{p:Array Nat}{k d:Nat}(hk:k<p.size)(hd:d<=k)(i:Nat):kv r (bubble p k d) i=if i=k-d then kv r p k else if k-d<i/\i<=k then kv r p (i-1)else kv r p i:=by
 unfold kv;simp only[Array.getD_eq_getD_getElem?];rw[getElem?_bubble hk d hd];split
 .rfl
 .split<;>rfl
theorem Tq:∀(f:Nat) (p:Array Nat) (k:Nat),PAr n p->k+f=n->STo r p k->PWp r n (kas_bin f p k) λz=>PAr n z/\STo r z n
 | 0,p,k,pa,e,hs=>⟨pa,by
  have:k=n:=by omega
  subst this;exact hs⟩
 |f+1,p,k,pa,e,hs=>by
  have sz:=pa.size;refine PWp.bind ((Iy pa 50 hs k 0 k 50 50 50 (λi h=>by omega) (λi a b=>by omega)).mono λm h=>?_);obtain⟨a,b,c⟩:=h;refine Tq f _ (k+1) ((bubble_perm _ _ _).trans pa) 50 λi j x y=>?_;rw[LV 50 50,LV 50 50];have ek:k-(k-m)=m:=by omega
  rw[ek]
  repeat' split
  .exact Int.le_refl _
  .exact Int.le_of_lt (c _ 50 50)
  .omega
  .exact b _ 50
  .exact hs _ _ 50 50
  .omega
  .exact b _ 50
  .exact hs _ _ 50 50
  .exact hs _ _ 50 50
def XM(h1:1<=n):PWp r n (kas_sort n) λp=>PAr n p/\STo r p n:=by
 refine PWp.bind ((W4 h1).mono λz h=>?_);obtain⟨a,b,c,d⟩:=h;by_cases e:z.1<n
 .rw[ia e];have:max z.1 1=z.1:=by omega
  rw[this];exact Tq _ _ _ a 50 d
 .rw[ie e];have:z.1=n:=by omega
  exact⟨a,this ▸ d⟩
end
def PairAt(h:Heap)(v:Value)(p:Int×Int):Prop:=∃(x:Addr) (o:Obj) (t u:Tok) (k:Nat),v=.ref x/\h.get? x=some o/\o.cls=.type "tuple"/\o.data=.seq #[.int p.1 t,.int p.2 u] k
noncomputable def CH(p:Int×Int):Int:=p.1*4000000000+p.2
def pok(p:Int×Int):Prop:=-1000000000<=p.1/\p.1<=1000000000/\-1000000000<=p.2/\p.2<=1000000000
section
variable{E:Value->Shared->Prop}{s:Shared}
def ZC{C:Bool->Shared->Prop}(hx:PairAt s.heap x p)(hy:PairAt s.heap y q)(op:pok p)(oq:pok q)(h:C (decide (CH p<CH q)) s):
 wpAny 103 A (keyLt' (tuples' true) x y) C E s:=by
 obtain⟨a,o,t,u,k,rfl,ho,hc,hd⟩:=hx;obtain⟨a2,o2,t2,u2,k2,rfl,ho2,hc2,hd2⟩:=hy;obtain⟨p1,p2⟩:=p;obtain⟨q1,q2⟩:=q;unfold pok at op oq;unfold CH at h;dsimp only at op oq h;refine kat_lt ho hd ho2 hd2 ?_;refine kat_cons (jY ?_);by_cases e1:p1=q1
 .have b1:(p1==q1)=true:=by simp[e1]
  rw[b1];refine kat_yes (kat_cons (jY ?_));by_cases e2:p2=q2
  .have b2:(p2==q2)=true:=by simp[e2]
   rw[b2];refine kat_yes (kat_nil ?_);have:decide (p1*4000000000+p2<q1*4000000000+q2)=false:=j9 50;rw[this]at h;exact h
  .have b2:(p2==q2)=false:=by simp[e2]
   rw[b2];refine kat_no (kat_one _ _ (lt_int ?_));have:decide (p1*4000000000+p2<q1*4000000000+q2)=decide (p2<q2):=decide_eq_decide.mpr 50;rw[this]at h;exact h
 .have b1:(p1==q1)=false:=by simp[e1]
  rw[b1];refine kat_no (oneLt_int ?_);have:decide (p1*4000000000+p2<q1*4000000000+q2)=decide (p1<q1):=decide_eq_decide.mpr 50;rw[this]at h;exact h
theorem Oc:∀{vs:List Value} {ps:List (Int×Int)},vs.length=ps.length->(∀(i:Nat) (v:Value) (p:Int×Int),vs[i]?=some v->ps[i]?=some p->PairAt h v p)->∃fs,KatTups h vs fs/\fs.length=vs.length/\∀f∈fs,∃i t,f=.int i t
 |[],[],_,_=>⟨[],.nil,rfl,λ_ z=>by cases z⟩
 |v::vs,p::ps,hl,hp=>by
  obtain⟨fs,a,b,c⟩:=Oc (vs:=vs) (ps:=ps) (by simpa using hl) λi v q e1 e2=>hp (i+1) v q (by simpa using e1) (by simpa using e2);obtain⟨x,o,t,u,k,rfl,ho,hc,hd⟩:=hp 0 v p rfl rfl;exact⟨.int p.1 t::fs,.cons ho hc hd rfl a,by simp[b],λf hf=>by
   rcases mem_cons.mp hf with rfl|hf
   .exact⟨_,_,rfl⟩
   .exact c f hf⟩
def Ee(vs:List Value)(ps:List (Int×Int))(out:List Value):Prop:=∃zs:List (Value×(Int×Int)),zs.Perm (vs.zip ps)/\(zs.map λz=>CH z.2).Pairwise (·<=·)/\out=zs.map (·.1)
def S3{vs:List Value}{ps:List (Int×Int)}(hl:vs.length=ps.length)(pa:PAr vs.length p)(hs:STo (λi=>CH (ps.getD i (0,0))) p vs.length):Ee vs ps (p.toList.map λi=>vs.getD i Value.none):=by
 have sz:=pa.size;refine⟨p.toList.map λi=>(vs.getD i Value.none,ps.getD i (0,0)),?_,?_,by rw[j3];rfl⟩
 .have e:vs.zip ps=(57 vs.length).map λi=>(vs.getD i Value.none,ps.getD i (0,0)):=by
   refine ext_getElem? λi=>?_;by_cases hi:i<vs.length
   .have hi2:i<ps.length:=by omega
    rw[(List.getElem?_zip_eq_some (z:=(vs[i],ps[i]))).mpr ⟨by simp[hi],by simp[hi2]⟩];simp[hi,hi2]
   .rw[List.getElem?_eq_none 112,List.getElem?_eq_none 112]
  rw[e];have:=Array.perm_iff_toList_perm.mp pa;simpa using this.map _
 .rw[j3,List.pairwise_iff_getElem];intro i j hi hj hij;simp only[iV,Array.length_toList]at hi hj;have:=hs i j 50 50;unfold kv at this;simpa [Array.getD,hi,hj]using this
def Pw{vs:List Value}{ps:List (Int×Int)}{n:Nat}{P:PySem.Fin->Shared->Prop}(ho:s.heap.get? a=some (seqObj "list" vs.toArray n))(hl:vs.length=ps.length)(h64:vs.length<64)(hok:∀p∈ps,pok p)
 (hp:∀(i:Nat) (v:Value) (p:Int×Int),vs[i]?=some v->ps[i]?=some p->PairAt (s.heap.update a (Obj.mapSeq λ_=>#[])) v p)
 (h:∀out:List Value,Ee vs ps out->P (.done (.ret .none)) { s with heap:=sortedHeap s.heap a vs out.toArray }):
 wpAny 103 A (Builtin.«list.sort» ⟨[.ref a],[]⟩) P E s:=by
 have ha:=58 ho;have line:vs.length<=sizeLine:=by rw[jx];omega
 obtain⟨e1,ho1⟩:∃e1,(s.heap.update a (Obj.mapSeq λ_=>#[])).get? a=some (seqObj "list" #[] e1):=⟨_,get?_update_seq ho _⟩
 rw[list_sort_plain];refine ic (listItems_at ho rfl (ic (listUpdate_at ho rfl (ic (seqEpoch_at ho1 rfl (ic (wpAny_newTuple (ic (wpAny_newList (ja ?_) (jk _))) line)))) (by rw[ip];exact line) (jk _))));have grow:∀b o,(s.heap.update a (Obj.mapSeq λ_=>#[])).get? b=some o->(((s.heap.update a (Obj.mapSeq λ_=>#[])).push (seqObj "tuple" vs.toArray 0)).push (seqObj "list" #[] 0)).get? b=some o:=λb o e=>53 _ (53 _ e);have ho6:=grow _ _ ho1;generalize h6:((s.heap.update a (Obj.mapSeq λ_=>#[])).push (seqObj "tuple" vs.toArray 0)).push (seqObj "list" #[] 0)=hp6 at *;have done:∀out:List Value,Ee vs ps out->P (.done (.ret .none)) { s with heap:=hp6.update a (Obj.mapSeq λ_=>out.toArray) }:=λout z=>by
  have:=h out z;unfold sortedHeap at this;rw[h6]at this;exact this
 show wpAny 103 A _ P E { s with heap:=hp6 };dsimp only;have pairs6:∀(i:Nat) (v:Value) (p:Int×Int),vs[i]?=some v->ps[i]?=some p->PairAt hp6 v p:=λi v p x y=>by
  obtain⟨x',o,t,u,k,e,q,c,d⟩:=hp i v p x y;exact⟨x',o,t,u,k,e,grow _ _ q,c,d⟩
 by_cases h2:vs.toArray.size<2
 .rw[ia h2,ia h2];refine ic (ik ?_);rw[StateT.run_pure];refine ic (ik ?_);dsimp only;have hout:(arrOf (SortSt.mk' general' (vs.toArray.zip vs.toArray) #[] 7 none)).map (·.2)=vs.toArray:=by
   show(vs.toArray.zip vs.toArray).map (·.2)=vs.toArray;apply Array.toList_inj.mp;simp only[Array.toList_map,Array.toList_zip];exact List.map_snd_zip (ig _)
  rw[hout];refine ic (seqEpoch_at ho6 rfl (ic (listUpdate_at ho6 rfl ?_ (jk _) (by rw[ip];omega))));simp only[bne_self_eq_false,Bool.false_eq_true,j5];refine ik (done vs ⟨vs.zip ps,.refl _,?_,?_⟩)
  .have hz:(vs.zip ps).length<2:=by simp at h2 ⊢;omega
   cases hh:vs.zip ps with
   |nil=>exact .nil
   |cons z r=>
    cases r with
    |nil=>exact List.pairwise_singleton _ _
    |cons y t=>rw[hh]at hz;exact absurd hz 55
  .rw[List.map_fst_zip 50]
 .rw[ie h2,ie h2];have h2':2<=vs.length:=by simp at h2;omega
  obtain⟨fs,t1,t2,t3⟩:=Oc hl pairs6;have tT:∀f∈fs,Looks 103 hp6 (typeOf f) (Value.type "int"):=λf hf=>by
   obtain⟨i,t,rfl⟩:=t3 f hf;exact .of_pure rfl
  refine ic (kat_kind (s:={ s with heap:=hp6 }) t1 50 tT rfl ?_);have est:SortSt.mk' (tuples' true) (vs.toArray.zip vs.toArray) #[] 7 none=kas_st (tuples' true) (pairsOf vs) (List.toArray (57 vs.length)):=by
   unfold kas_st;rw[<- pairsOf_size vs,kas_range];rfl
  have ask:(kas_sort vs.length).kasWp (kas_cmp prog w A (tuples' true) (pairsOf vs)) (λp s'=>s'={ s with heap:=hp6 }/\Ee vs ps (p.toList.map λi=>vs.getD i Value.none)) { s with heap:=hp6 }:=by
   rw[<- kas_ask_eq];refine PWp.wp (n:=vs.length) (r:=λi=>CH (ps.getD i (0,0))) (P:=λs'=>s'={ s with heap:=hp6 }) (λi j C s' hi hj e hC=>?_) ((XM 50).mono λp z s' e=>⟨e,S3 hl z.1 z.2⟩) rfl;subst e;have pi:ps[i]?=some (ps.getD i (0,0)):=by simp[show i<ps.length by omega]
   have pj:ps[j]?=some (ps.getD j (0,0)):=by simp[show j<ps.length by omega]
   have vi:vs[i]?=some (vs.getD i Value.none):=by simp[hi]
   have vj:vs[j]?=some (vs.getD j Value.none):=by simp[hj]
   exact ZC (s:={ s with heap:=hp6 }) (pairs6 i _ _ vi pi) (pairs6 j _ _ vj pj) (hok _ (j6 pi)) (hok _ (j6 pj)) (hC _ rfl)
  have run:=kas_runs (E:=E) (Q:=λ_ st' s'=>∃p:Array Nat,p.size=vs.length/\arrOf st'=p.map (kas_item (pairsOf vs))/\failedOf st'=none/\s'={ s with heap:=hp6 }/\Ee vs ps (p.toList.map λi=>vs.getD i Value.none)) h2' h64 (λp st' s' x1 x2 x3 x4=>⟨p,x1,x2,x3,x4⟩) ask;rw[<- est]at run;refine ic (iX run ?_ λ_ _ e=>e);rintro⟨⟨⟩,st'⟩ s' ⟨p,hsz,har,hf,rfl,so⟩;dsimp only;have hout:(arrOf st').map (·.2)=(p.toList.map λi=>vs.getD i Value.none).toArray:=by
   rw[har];apply Array.toList_inj.mp;simp only[Array.toList_map,j3];exact jS λi _=>j7 Prod.snd (kas_item_eq vs i)
  rw[hout];refine ic (seqEpoch_at ho6 rfl (ic (listUpdate_at ho6 rfl ?_ (jk _) (by simp[hsz];omega))));rw[hf];simp only[bne_self_eq_false,Bool.false_eq_true,j5];exact ik (done _ so)
end
def PairAt.keep{h h':Heap}(k:∀b o,h.get? b=some o->h'.get? b=some o)(q:PairAt h v p):PairAt h' v p:=by
 obtain⟨x,o,t,u,n,e,ho,c,d⟩:=q;exact⟨x,o,t,u,n,e,k _ _ ho,c,d⟩
section
variable{E:Value->Shared->Prop}{s:Shared}
def Mn{vs:List Value}{ps:List (Int×Int)}{Q:Value->Shared->Prop}(hl:s.heap.IsList l vs.toArray)(hlen:vs.length=ps.length)(h64:vs.length<64)(hok:∀p∈ps,pok p)
 (hp:∀(i:Nat) (v:Value) (p:Int×Int),vs[i]?=some v->ps[i]?=some p->PairAt s.heap v p)
 (h:∀out:List Value,Ee vs ps out->Q (.ref (49+1)) { s with heap:=sortedAll s.heap vs out.toArray }):
 wpAny 103 A (call (.builtin "sorted") [.ref l]) Q E s:=by
 have line:vs.length<=sizeLine:=by rw[jx];omega
 refine Calls.call_function_entry kind_sorted plain_sorted entry_sorted (args_sorted1 _) ?_;unfold Builtin.«sorted»;refine ic (m:=checkCount "sorted" 1 1 _) (ik (ic (collect_list hl (ic (wpAny_newList ?_ line)) line)));have sz:((s.heap.push (seqObj "list" #[] 0)).update 49 (Obj.mapSeq (·++vs.toArray))).objs.size=49+1:=by rw[Heap.size_update,size_push']
 have at1:(((s.heap.push (seqObj "list" #[] 0)).update 49 (Obj.mapSeq (·++vs.toArray))).push (seqObj "list" vs.toArray 0)).get? (49+1)=some (seqObj "list" vs.toArray 0):=by
  have:=Heap.get?_push_size ((s.heap.push (seqObj "list" #[] 0)).update 49 (Obj.mapSeq (·++vs.toArray))) (o:=seqObj "list" vs.toArray 0) rfl
  rwa [sz]at this
 have old:∀b o,s.heap.get? b=some o->((((s.heap.push (seqObj "list" #[] 0)).update 49 (Obj.mapSeq (·++vs.toArray))).push (seqObj "list" vs.toArray 0)).update (49+1) (Obj.mapSeq λ_=>#[])).get? b=some o:=λb o e=>by
  have lt:=58 e;rw[Heap.get?_update_ne _ _ _ _ (iu (Nat.lt_succ_of_lt lt)),Heap.get?_push_ne _ _ _ (by rw[sz];exact iu (Nat.lt_succ_of_lt lt)),Heap.get?_update_ne _ _ _ _ (iu lt),Heap.get?_push_ne _ _ _ (iu lt)];exact e
 show wpAny _ _ _ _ _ { s with heap:=((s.heap.push (seqObj "list" #[] 0)).update s.heap.objs.size (Obj.mapSeq (·++vs.toArray))).push (seqObj "list" vs.toArray 0) };rw[sz];refine ic (ja (wpAny_call_entry slot_list_sort ⟨_,at1,rfl⟩ entry_list_sort (Pw at1 hlen h64 hok (λi v p a b=>(hp i v p a b).keep old) λout z=>⟨_,rfl,?_⟩) (args_list_sort _)));exact ik ⟨_,rfl,h out z⟩
end
section
variable(K:Frag){X:Cx}
def Iu:List V->Hp->VK->Prop:=λxs H Q=>∃(a:Addr) (us:List V) (ps:List (Int×Int)),xs=[.ref a]/\SqL K H a us/\us.length=ps.length/\us.length<64/\(∀q∈ps,pok q)/\
 (∀(i:Nat) (u:V) (q:Int×Int),us[i]?=some u->ps[i]?=some q->∃x,u=.ref x/\SqT K H x [.int q.1,.int q.2])/\
 ∀(p:Addr) (zs:List (V×(Int×Int))),H p=none->zs.Perm (us.zip ps)->(zs.map λz=>CH z.2).Pairwise (·<=·)->Q (.ref p) (upd H p (.lst (zs.map (·.1))))
noncomputable def GJ:Value->V
 |.ref x=>.ref x
 |_=>.non
theorem MV:∀{us:List V} {its:List Value} {i:Nat} {u:V},Vals us its->us[i]?=some u->∃v,its[i]?=some v/\RelV u v
 |_,_,_,_,.nil,h=>by simp at h
 |_::_,_::_,0,_,.cons r _,h=>by
  simp at h;subst h;exact⟨_,rfl,r⟩
 |_::_,_::_,i+1,_,.cons _ t,h=>MV (i:=i) t (by simpa using h)
def O2(hK:X.K=K:=by rfl):CallR X (.builtin "sorted") (Iu K):=by
 subst hK;intro pins s σ H xs us0 Q I r h;obtain⟨a,us,ps,rfl,hq,hlen,h64,hok,hpr,q⟩:=h;obtain⟨u,rfl,ru⟩:=BJ r;cases ru;obtain⟨its,rv,p,hz⟩:=I.list hq;have hl2:us.length=its.length:=rv.length;have point:∀(i:Nat) (v:Value) (q:Int×Int),its[i]?=some v->ps[i]?=some q->(∃x,us[i]?=some (.ref x)/\v=.ref x)/\PairAt s.heap v q:=by
  intro i v q e1 e2;have hi:i<us.length:=by rw[hl2];exact(102 e1).1
  have eu:us[i]?=some us[i]:=by simp[hi]
  obtain⟨x,ex,sq⟩:=hpr i _ q eu e2;obtain⟨v',ev,rel⟩:=MV rv eu;rw[e1]at ev;cases ev;rw[ex]at rel eu;have rel:v=Value.ref x:=rel;subst rel;refine⟨⟨x,eu,rfl⟩,?_⟩;obtain⟨jts,rj,⟨o,ho,hc,n,hd⟩,_⟩:=I.tuple sq;cases rj with
  |cons r1 t1=>
   cases t1 with
   |cons r2 t2=>
    cases t2;obtain⟨t,rfl⟩:=r1;obtain⟨t',rfl⟩:=r2;exact⟨x,o,t,t',n,rfl,ho,hc,hd⟩
 refine Mn (ps:=ps) p.isList 50 50 hok (λi v q a b=>(point i v q a b).2) λout z=>?_;obtain⟨zs,pm,pw,rfl⟩:=z;obtain⟨e,he⟩:=sortedAll_at s.heap its (zs.map (·.1)).toArray;have mz:∀z∈zs,∃x,z.1=.ref x:=λz hz=>by
  have:=pm.mem_iff.mp hz;obtain⟨i,hi⟩:=mem_iff_getElem?.mp this;obtain⟨e1,e2⟩:=List.getElem?_zip_eq_some.mp hi;obtain⟨⟨x,_,ex⟩,_⟩:=point i _ _ e1 e2;exact⟨x,ex⟩
 have vz:∀{zs:List (Value×(Int×Int))},(∀z∈zs,∃x,z.1=.ref x)->Vals (zs.map λz=>GJ z.1) (zs.map (·.1)):=by
  intro zs
  induction zs with
  |nil=>intro _;exact .nil
  |cons z r ih=>
   intro h;obtain⟨x,ex⟩:=h z ir;refine .cons ?_ (ih λy hy=>h y (il _ hy));show RelV (GJ z.1) z.1;rw[ex];rfl
 have pm2:(zs.map λz=>(GJ z.1,z.2)).Perm (us.zip ps):=by
  have:=pm.map λz:Value×(Int×Int)=>(GJ z.1,z.2)
  have e:((its.zip ps).map λz:Value×(Int×Int)=>(GJ z.1,z.2))=us.zip ps:=by
   refine ext_getElem? λi=>?_;by_cases hi:i<us.length
   .have h1:i<its.length:=by omega
    have h2:i<ps.length:=by omega
    have e1:its[i]?=some its[i]:=by simp[h1]
    have e2:ps[i]?=some ps[i]:=by simp[h2]
    obtain⟨⟨x,ex,ev⟩,_⟩:=point i _ _ e1 e2;rw[List.getElem?_map,(List.getElem?_zip_eq_some (z:=(its[i],ps[i]))).mpr ⟨e1,e2⟩,(List.getElem?_zip_eq_some (z:=(V.ref x,ps[i]))).mpr ⟨ex,e2⟩,j4,ev];rfl
   .rw[List.getElem?_eq_none 112,List.getElem?_eq_none 112]
  rwa [e]at this
 have pw2:((zs.map λz=>(GJ z.1,z.2)).map λz:V×(Int×Int)=>CH z.2).Pairwise (·<=·):=by rw[j3];exact pw
 have fin:=q (49+1) _ (I.hok.fresh (jo _)) pm2 pw2;have em:(zs.map λz=>(GJ z.1,z.2)).map (·.1)=zs.map λz=>GJ z.1:=by rw[j3];rfl
 rw[em]at fin;have zl:zs.length<64:=by rw[pm.length_eq];simp;omega
 refine⟨.ref (49+1),_,I.laid (a:=49+1) (o:=.lst (zs.map λz=>GJ z.1)) (t':=s.toks) (λb o hb=>sortedAll_old hb) (jo _) ⟨?_,_,e,vz mz,he⟩,rfl,fin⟩;rw[iV];exact jj (LI 50)
end
noncomputable def Aj(p:Int×Int):D:=.im (.tup [.int p.1,.int p.2])
noncomputable def DS:List D->Option (List (Int×Int))
 |[]=>some []
 |.im (.tup [.int a,.int b])::r=>(DS r).map ((a,b)::·)
 |_=>none
def Sj:∀{ds:List D} {ps:List (Int×Int)},DS ds=some ps->ds=ps.map Aj:=by
 intro ds
 induction ds with
 |nil=>intro ps h;simp[DS]at h;subst h;rfl
 |cons d r ih=>
  intro ps h;unfold DS at h;split at h
  .next e=>cases e
  .next a b r' e=>
   cases e;obtain⟨qs,e1,rfl⟩:=iT h;rw[ih e1];rfl
  .cases h
@[simp] theorem eY(ps:List (Int×Int)):DS (ps.map Aj)=some ps:=by
 induction ps with
 |nil=>rfl
 |cons p r ih=>simp[DS,Aj]at ih ⊢;exact ih
noncomputable def Bm(ps:List (Int×Int)):List (Int×Int):=ps.mergeSort λa b=>decide (CH a<=CH b)
def GG(ps:List (Int×Int)):(Bm ps).Perm ps:=List.mergeSort_perm ..
def Mo(ps:List (Int×Int)):(Bm ps).Pairwise λa b=>CH a<=CH b:=by
 have:=List.pairwise_mergeSort (le:=λa b:Int×Int=>decide (CH a<=CH b)) (by intro a b c h1 h2;simp at *;omega) (by intro a b;simp;omega) ps;exact this.imp 55
def VH(a:pok p)(b:pok q)(h:CH p=CH q):p=q:=by
 unfold pok at a b;unfold CH at h;exact Prod.ext 50 50
open Classical in
noncomputable def Ew(m:MI):MA:=λls hd=>(m ls hd).bind λp=>(DS p.1.1).bind λps=>if ps.length<64/\∀q∈ps,pok q then some ((Bm ps).map Aj,p.2)else none
section
variable{K:Frag}
def Xx(h:RD K ρ H (Aj p) v):∃x,v=.ref x/\SqT K H x [.int p.1,.int p.2]:=by
 simp only[Aj,RD,RI,RIs]at h;obtain⟨a,xs,rfl,q,x,r,rfl,rfl,y,r2,rfl,rfl,rfl⟩:=h;exact⟨a,rfl,q⟩
def Q4(h:RRw K false t m):RN K (tCB (Iu K) (Af t BG)) (Ew m):=by
 and_intros;obtain⟨⟨⟨d1,g1⟩,h1⟩,e1,hm⟩:=iS hm;obtain⟨ps,e2,hm⟩:=iS hm;split at hm
 .next c=>
  cases hm;refine h ρ σ H hd ls _ d1 g1 _ hR hL e1 λρ1 H1 a x1 R1 G1 S1=>?_;obtain⟨xs,q,r⟩:=S1 ρ1 H1 _ .refl R1 G1;have e2:DS d1=some ps:=e2;rw[Sj e2]at r;have hl:105=ps.length:=by simpa using r.len
  have each:∀(i:Nat) (u:V) (q:Int×Int),xs[i]?=some u->ps[i]?=some q->RD K ρ1 H1 (Aj q) u:=λi u q a b=>by
   obtain⟨x,e,z⟩:=r.get (i:=i) (d:=Aj q) (by simp[b]);rw[a]at e;cases e;exact z
  refine⟨a,xs,ps,rfl,q,hl,by rw[hl];exact c.1,c.2,λi u q a b=>Xx (each i u q a b),λp zs hp pm pw=>?_⟩;have es:zs.map (·.2)=Bm ps:=by
   have pp:(zs.map (·.2)).Perm ps:=by
    have:=pm.map (λz:V×(Int×Int)=>z.2)
    rwa [List.map_snd_zip 50]at this
   refine(pp.trans (GG ps).symm).eq_of_pairwise (le:=λa b=>CH a<=CH b) (λx y hx hy l1 l2=>VH (c.2 _ (pp.mem_iff.mp hx)) (c.2 _ ((GG ps).mem_iff.mp hy)) (Int.le_antisymm l1 l2)) ?_ (Mo ps);rw[List.pairwise_map]at pw ⊢;exact pw
  obtain⟨R2,x2⟩:=R1.hid (ho:=.lst (zs.map (·.1))) hp;have all:∀z∈zs,RD K ρ1 H1 (Aj z.2) z.1:=λz hz=>by
   obtain⟨i,hi⟩:=mem_iff_getElem?.mp (pm.mem_iff.mp hz);obtain⟨a1,a2⟩:=List.getElem?_zip_eq_some.mp hi;exact each i _ _ a1 a2
  have rd:∀{zs:List (V×(Int×Int))},(∀z∈zs,RD K ρ1 H1 (Aj z.2) z.1)->RDs K ρ1 H1 ((zs.map (·.2)).map Aj) (zs.map (·.1)):=by
   intro zs
   induction zs with
   |nil=>intro _;exact .nil
   |cons z r ih=>intro h;exact .cons (h z ir) (ih λy hy=>h y (il _ hy))
  have rz:=rd all;rw[es]at rz;exact hQ ρ1 _ p _ 106 R2 (x1.none hR hp R1) (R1.out hp) AF (rz.ext R1 x2)
 .cases hm
open Classical in
noncomputable def Fs:D->List D->Hd->Option (D×Hd)
 |.mu n,[.im (.int i)],hd=>match hd[n]? with
  |some (.lst ds)=>if GI i then(ixN 104 i).bind λk=>(ds[k]?).map λy=>(y,hd.set n (.lst (ds.eraseIdx k)))else none
  |_=>none
 |_,_,_=>none
theorem RDs.erase:∀{ds:List D} {xs:List V} (k:Nat),RDs K ρ H ds xs->RDs K ρ H (ds.eraseIdx k) (xs.eraseIdx k)
 |[],_,_,h=>by simp only[RDs]at h;subst h;simp[RDs]
 |d::ds,_,0,h=>by simp only[RDs]at h;obtain⟨x,r,rfl,_,t⟩:=h;simpa using t
 |d::ds,_,k+1,h=>by
  simp only[RDs]at h;obtain⟨x,r,rfl,a,t⟩:=h;simpa using RDs.cons a (RDs.erase k t)
end
def Ua{K:Frag}:RM K Sb Fs:=by
 intro ρ H hd d v ds vs Q z hd' hR h1 h2 hf hQ;unfold Fs at hf;split at hf
 .split at hf
  .next q=>
   split at hf
   .next c=>
    obtain⟨k,e0,hf⟩:=iS hf;obtain⟨y,e1,e3⟩:=iT hf;cases e3;simp only[RD]at h1;obtain⟨a,hn,rfl⟩:=h1;simp only[RDs,RD,RI]at h2;obtain⟨x,r,rfl,rfl,rfl⟩:=h2;obtain⟨xs,f1,f2⟩:=hR.lst hn q;obtain⟨x,x1,x3⟩:=f2.get e1;obtain⟨R2,x2⟩:=hR.put hn (o:=.lst _) (ho:=.lst (xs.eraseIdx k)) ⟨_,rfl,f2.erase k⟩;obtain⟨s1,s2,s3,s4⟩:=Ks e0;have sz:=f2.len;unfold GI at c;exact⟨a,xs,_,k,x,rfl,rfl,f1,by omega,by omega,by rw[sz];exact s1,x1,hQ ρ _ _ x2 R2 (x3.ext hR x2)⟩
   .cases hf
  .cases hf
 .cases hf
section
variable(K:Frag){X:Cx}
def QK(hm:X.mg "sorted"=none)(ha:QR K false X e te mi)(hg:Gl X "sorted":=by rfl)(he:starEach [e] X.env=[109]:=by rfl)(hK:X.K=K:=by rfl):QN K X (.Call (.Name "sorted" p) [e] [] pos) (tCB (Iu K) (Af te BG)) (Ew mi):=
 ⟨DJ (O2 K hK) hg hm Lk (BB ha.p C4 he) 107 107 he rfl,Q4 ha.r⟩
end
section
open Classical in
@[simp] theorem Vx(k:Nat)(i:Int):Fs (.mu k) [.im (.int i)] hd=match hd[k]? with
 |some (.lst ds)=>if GI i then(ixN 104 i).bind λj=>(ds[j]?).map λy=>(y,hd.set k (.lst (ds.eraseIdx j)))else none
 |_=>none:=rfl
open Classical in
@[simp] theorem fG(mi:MI):Ew mi ls hd=(mi ls hd).bind λp=>(DS p.1.1).bind λps=>if ps.length<64/\∀q∈ps,pok q then some ((Bm ps).map Aj,p.2)else none:=rfl
end
noncomputable def Ex(m:ME):MI:=λls hd=>match B0 m ls hd with
 |some z=>some z
 |none=>Br m ls hd
noncomputable def P4(K:Frag)(t:TE):TI:=λσ H R=>Ni K t σ H R∨K2 K t σ H R
def aM{K:Frag}(h:RE K t m):RIt K (P4 K t) (Ex m):=by
 intro ρ σ H hd ls Q d g hd' hR hL hm hQ;unfold Ex at hm;split at hm
 .next z e=>
  cases hm;exact .inl (SJ h ρ σ H hd ls Q d g hd' hR hL e hQ)
 .exact .inr (Oj h ρ σ H hd ls Q d g hd' hR hL hm hQ)
def bE(K:Frag)(h:QE K X e t m)(hK:X.K=K:=by rfl):QI K X tg e (P4 K t) (Ex m):=
 ⟨λpins s σ H R I q=>q.elim (λq=>(Ow K h.p hK) pins s σ H R I q) λq=>(NM K h.p hK) pins s σ H R I q,aM h.r⟩
section
def ZI(e:m ls hd=some (.im (.tup is),hd')):Ex m ls hd=some ((is.map .im,[]),hd'):=by unfold Ex;simp[e]
end
noncomputable def Fh(p:Int×Int):I:=.tup [.int p.1,.int p.2]
end L2
namespace L2
open PySem PySem.Spec PyProof.Rows
section
variable{prog:Program}{w:World}{R:Result->Shared->Prop}
def Lz(k v target iter:Expr)(ifs:List Expr)(scope:Scope)(pos:Pos)(it acc:Value)(env:Env):
 compTurn (.DictComp k v [⟨target,iter,ifs,0⟩] scope pos) 0 it acc env=(do
  standAt iter.pos
  match <- pyNext it with
  |none=>pure (.done .next)
  |some x=>
   letOwnedTupleGo target it x
   assign target env x
   let mut ok:=true
   for c in ifs do
    if ok then ok <- isTrue c env (eval c env)
   if ok then
    (do
     let kv <- eval k env
     let vv <- holding [kv] (eval v env)
     match acc with
     |.ref d=>do
      standAt { k.pos with endLine:=v.pos.endLine,endCol:=v.pos.endCol }
      holding [kv,vv] (dictSet d kv vv)
     | _=>unsupported "internal:dictcomp")
   again (.compLoop (.DictComp k v [⟨target,iter,ifs,0⟩] scope pos) 0 it acc env)):=by rfl
end
section
noncomputable def Jr(tk tv:TE):TM:=λD σ H Q=>tk σ H λy H1=>tv σ H1 λv H2=>∃kvs k,H2 D=some (.dK kvs)/\y=kV k/\kvs.length<sizeLine/\Q (upd H2 D (.dK (Ca kvs k v)))
def Tc{E:Value->Shared->Prop}{Q:Unit->Shared->Prop}(I:Inv X pins σ H s)(e:H a=some (.dK kvs))(l:kvs.length<sizeLine)(ry:RelV (kV k) u)(rv:RelV v r)(h:∀s',Inv X pins σ (upd H a (.dK (Ca kvs k v))) s'->Q () s'):
 wpAny 54 A (dictSet a u r) Q E s:=by
 obtain⟨z,hd,vs,rel,dd⟩:=Wr I.hok e;have hz:vs.length<=sizeLine:=by rw[<- rel.length];exact z
 have hl:(Ca kvs k v).length<=sizeLine:=by have:=FR kvs k v;omega
 refine wpAny_dictSet_pairs (hsz:=hz) (Jw ry) dd λh' dd' hs=>h _ ?_;have he:∃q,h'.get? a=some q:=let ⟨q,_,_,hq,_⟩:=dd';⟨q,hq⟩
 exact Kz I (by rw[e];exact True.intro) hs he (TX hl hd (rel.put k rv) dd')
noncomputable def Qw(k v:Expr):Value->Env->Sem Unit:=λacc env=>do
 let kv <- eval k env
 let vv <- holding [kv] (eval v env)
 match acc with
 |.ref d=>do
  standAt { k.pos with endLine:=v.pos.endLine,endCol:=v.pos.endCol }
  holding [kv,vv] (dictSet d kv vv)
 |_=>unsupported "internal:dictcomp"
def Yi(hk:PE X k tk)(hv:PE X v tv):PM X (Qw k v) (Jr tk tv):=by
 intro D pins s σ H Q I h;unfold Qw;refine ic (thn (hk pins s σ H _ I h) λu s1 ⟨y,H1,I1,r1,q1⟩=>?_);refine ic (ja (thn (hv pins s1 σ H1 _ I1 q1) λr s2 ⟨v,H2,I2,r2,kvs,k,e,ey,l,q2⟩=>?_));refine ic (jw (ja ?_));subst ey;exact Tc I2 e l r1 r2 λs' I'=>⟨_,I',q2⟩
def VM{iter:Expr}
 (hc:X.calm=true) (S:CSc X scope fr ix) (hi:PI X tg iter wi)
 (hg:∀s H ex,PG (cCx X (loc++fr) scope s H ex) tg g) (hf:∀s H ex,PF (cCx X (loc++fr) scope s H ex) ifs tf) (hk:∀s H ex,PE (cCx X (loc++fr) scope s H ex) k tk) (hv:∀s H ex,PE (cCx X (loc++fr) scope s H ex) v tv)
 (hs:∀x,foldedSetIterable iter X.env x=pure x:=by intro _;rfl):PE X (.DictComp k v [⟨tg,iter,ifs,0⟩] scope pos) (Fd (.dK []) loc.length ix wi g tf (Jr tk tv)):=by
 refine NP (emit:=Qw k v) (newAcc:=newDict) (pos:=firstIterPos [⟨tg,iter,ifs,0⟩] pos) ⟨rfl,λit acc env=>Lz ..,λ_ _ _=>rfl,λ_ _ _=>rfl,λ_ _ _=>rfl,λ_ _ _=>rfl,λpins s σ H E Q I h=>?_⟩ hc S hi hg hf (λs H ex=>Yi (hk s H ex) (hv s H ex)) rfl hs;simp only[newDict,newObj];refine ic (wpAny_alloc (ik (h _ ?_)));exact I.laid (a:=49) (o:=.dK []) (t':=s.toks) (λ_ _ q=>53 _ q) (ig _) (Vy s.heap I.big)
end
section
variable{K:Frag}{ρ ρ':List Addr}{H H':Hp}{hd hd':Hd}
noncomputable def dX(K:Frag):Acc K (List (Key×D)) (.dK []) [] where
 rel:=λρ H a o=>∃xs,o=.dK xs/\RKs K ρ H a xs
 mono:=λr g ⟨xs,e,q⟩=>⟨xs,e,q.mono g r⟩
 chg:=λ⟨xs,e,q⟩ st=>by subst e;exact st
 chg2:=λ⟨xs,e,q⟩=>⟨λ_ z=>(by subst e;cases z),λ_ z=>(by subst e;cases z)⟩
 init:=λρ H=>⟨[],rfl,by simp[RKs]⟩
open Classical in
noncomputable def Hw(mk mv:ME):MM (List (Key×D)):=λls hd a=>(mk ls hd).bind λq=>(mv ls q.2).bind λz=>(Cd q.1).bind λk=>if Ck a.length then some (Dq a k z.1,z.2)else none
def aI(hk:RE K tk mk)(hv:RE K tv mv):RM1 (dX K) (Jr tk tv) (Hw mk mv):=by
 intro ρ σ H hd ls a a' hd' Da o Q hR hL out hD hrel hm hQ;obtain⟨⟨d1,h1⟩,e1,hm⟩:=iS hm;obtain⟨⟨d2,h2⟩,e2,hm⟩:=iS hm;obtain⟨k,e4,hm⟩:=iS hm;obtain⟨xs,rfl,r⟩:=hrel;dsimp only at hm;split at hm
 .next c=>
  cases hm;refine hk ρ σ H hd ls _ d1 h1 hR hL e1 λρ1 H1 v1 x1 R1 r1=>?_;refine hv ρ1 σ H1 h1 ls _ d2 _ R1 (hL.ext hR x1) e2 λρ2 H2 v2 x2 R2 r2=>?_;have:=ID r1 e4;subst this;have hD2:H2 Da=some (.dK xs):=x2.keep Da _ (x1.keep Da _ hD out nt) (x1.outk hD out) nt;have x12:=x1.trans R1 x2;have r':RKs K ρ2 H2 a xs:=by
   obtain⟨rr,rfl,fr⟩:=x12.pre;exact r.mono (x12.grow hR) rr
  exact⟨xs,k,hD2,rfl,by rw[r'.len];exact c,hQ ρ2 H2 _ x12 R2 hD2 ⟨_,rfl,r'.put r2⟩⟩
 .cases hm
noncomputable def Js(m:Ls->Hd->Option (List (Key×D)×Hd)):ME:=λls hd=>(m ls hd).bind λp=>some (.mu p.2.length,p.2++[.dic p.1])
def Xo{m:Ls->Hd->Option (List (Key×D)×Hd)}(h:RNG (dX K) t m):RE K t (Js m):=by
 and_intros;obtain⟨⟨a,h1⟩,e1,hm⟩:=iS hm;cases hm;refine h ρ σ H hd ls Q a h1 hR hL e1 λρ1 H1 Da o x1 R1 nD oD hD ⟨xs,eo,r⟩=>?_;subst eo;have R2:=R1.nameD oD hD (λz=>z) r;have e0:upd H1 Da (.dK xs)=H1:=by
  funext b
  by_cases hb:b=Da
  .subst hb;rw[AF,hD]
  .rw[upd_ne hb]
 rw[e0]at R2;refine hQ (ρ1++[Da]) H1 _ (x1.name nD) R2 ?_;simp only[RD];exact⟨Da,by rw[<- R1.len];simp,rfl⟩
variable(K:Frag){X:Cx}
def V8{iter:Expr}(hc:X.calm=true)(S:CSc X scope fr ix)(hi:QI K X tg iter wi mi)
 (hg:∀s H ex,QG K (cCx X (loc++fr) scope s H ex) tg g n) (hf:∀s H ex,QF K (cCx X (loc++fr) scope s H ex) ifs tf mf) (hk:∀s H ex,QE K (cCx X (loc++fr) scope s H ex) k tk mk) (hv:∀s H ex,QE K (cCx X (loc++fr) scope s H ex) v tv mv)
 (hs:∀x,foldedSetIterable iter X.env x=pure x:=by intro _;rfl):QE K X (.DictComp k v [⟨tg,iter,ifs,0⟩] scope pos) (Fd (.dK []) loc.length ix wi g tf (Jr tk tv)) (Js (HE loc.length ix mi n mf [] (Hw mk mv))):=
 ⟨VM hc S hi.p (λs H ex=>(hg s H ex).p) (λs H ex=>(hf s H ex).p) (λs H ex=>(hk s H ex).p) (λs H ex=>(hv s H ex).p) hs,
  Xo (N9 hi.r (hg X.s₀ X.H₀ []).r (hf X.s₀ X.H₀ []).r (aI (hk X.s₀ X.H₀ []).r (hv X.s₀ X.H₀ []).r))⟩
def au(hu:X.A.units+1<cLine)(ha:QE K X a ta ma)(hb:QE K X b tb mb)(hmk:behindInMarks .In b=false:=by rfl):QT K X (.Compare a [.In] [b] pos) (tB (UM ta tb)) (AC (mOp (HK false) ma mb)):=⟨NL (cH hu ha.p hb.p) hmk,UW (ac hb.r ha.r)⟩
end
def WP{α:Type}(o:Option (α×Hd))(Q:α->Hd->Prop):Prop:=∃z h,o=some (z,h)/\Q z h
abbrev WS(m:MS)(ls:Ls)(hd:Hd)(Q:Fl->Hd->Prop):Prop:=WP (m ls hd) Q
abbrev WE(m:ME)(ls:Ls)(hd:Hd)(Q:D->Hd->Prop):Prop:=WP (m ls hd) Q
abbrev WT(m:MT)(ls:Ls)(hd:Hd)(Q:Bool->Hd->Prop):Prop:=WP (m ls hd) Q
abbrev WA(m:MA)(ls:Ls)(hd:Hd)(Q:List D->Hd->Prop):Prop:=WP (m ls hd) Q
abbrev WO(m:MO1)(ls:Ls)(hd:Hd)(Q:Option Int->Hd->Prop):Prop:=WP (m ls hd) Q
abbrev WI(m:MI)(ls:Ls)(hd:Hd)(Q:List D×Gd->Hd->Prop):Prop:=WP (m ls hd) Q
abbrev WF(F:List D->Hd->Option (D×Hd))(ds:List D)(hd:Hd)(Q:D->Hd->Prop):Prop:=WP (F ds hd) Q
section
variable{α β:Type}{Q:α->Hd->Prop}{R:β->Hd->Prop}
theorem WP.some{z:α}(q:Q z h):WP (some (z,h)) Q:=⟨z,h,rfl,q⟩
def WP.mono{Q':α->Hd->Prop}(h:WP o Q)(k:∀z h,Q z h->Q' z h):WP o Q':=let ⟨z,x,e,q⟩:=h;⟨z,x,e,k z x q⟩
theorem WP.bind{f:α×Hd->Option (β×Hd)}(h:WP o λz x=>WP (f (z,x)) R):WP (o.bind f) R:=by
 obtain⟨z,x,e,q⟩:=h;rw[e];exact q
def WP.eq{z:α}(e:o=Option.some (z,h))(q:Q z h):WP o Q:=⟨z,h,e,q⟩
end
section
variable{ls:Ls}{hd:Hd}{a b:MS}{ma mb mc:ME}{ta tb:MT}{m m1 m2:MA}{n:MG}{ns:MGs}{mi:MI}{d e:D}{i j:Nat}{QS:Fl->Hd->Prop}{QE:D->Hd->Prop}{QT:Bool->Hd->Prop}{QA:List D->Hd->Prop}{QO:Option Int->Hd->Prop}{QI:List D×Gd->Hd->Prop}
def Pj(b:MS)(Q:Fl->Hd->Prop):Fl->Hd->Prop
 |.nx l,h=>WS b l h Q
 |f,h=>Q f h
def AA(h:WS a ls hd (Pj b QS)):WS (A6 a b) ls hd QS:=by
 obtain⟨f,x,e,q⟩:=h;show WP (A6 a b ls hd) QS;rw[K5,e];cases f<;>first|exact q|exact⟨_,_,rfl,q⟩
def A7(q:WS b l h QS):Pj b QS (.nx l) h:=q
def CD(q:QS (.rt d) h):Pj b QS (.rt d) h:=q
def BF(h:QS (.nx ls) hd):WS AV ls hd QS:=⟨_,_,rfl,h⟩
def Ae(h:WE ma ls hd λd x=>QS (.rt d) x):WS (AK ma) ls hd QS:=WP.bind (h.mono λ_ _ q=>WP.some q)
def AH(h:WE ma ls hd λd x=>QS (.nx (ls.set i (some d))) x):WS (AE i ma) ls hd QS:=by
 obtain⟨d,x,e,q⟩:=h;exact⟨_,_,by simp only[HQ,e,bind_some,Kv,j4],q⟩
def Ri(h:WE ma ls hd λd x=>∃l,n d ls x=some l/\QS (.nx l) x):WS (JB ma n) ls hd QS:=by
 obtain⟨d,x,e,l,e2,q⟩:=h;exact⟨_,_,by simp only[HQ,e,bind_some,e2,j4],q⟩
def Cf(h:WE ma ls hd λ_ x=>QS (.nx ls) x):WS (Ay ma) ls hd QS:=WP.bind (h.mono λ_ _ q=>WP.some q)
def WQ(h:WT ta ls hd λc x=>if c=true then WS a ls x QS else WS b ls x QS):WS (Ad ta a b) ls hd QS:=by
 refine WP.bind (h.mono λc x q=>?_);dsimp only;cases c<;>simpa using q
def BQ(h:WT ta ls hd λc x=>(c=true->WS a ls x QS)/\(c=false->WS b ls x QS)):WS (Ad ta a b) ls hd QS:=
 WQ (h.mono λc x q=>by cases c<;>simp_all)
def WL(n:MG)(b:MS)(g:Gd)(ds:List D)(ls:Ls)(hd:Hd)(Q:Fl->Hd->Prop):Prop:=WP (BN n b g ds ls hd) Q
def E8(h:WI mi ls hd λp x=>WL n b p.2 p.1 ls x QS):WS (Bs mi n b) ls hd QS:=WP.bind (h.mono λ_ _ q=>q)
def dk(g:Gd)(P:Ls->Hd->Prop)(Q:Fl->Hd->Prop):Fl->Hd->Prop
 |.nx l,h=>GOk h g/\P l h
 |.ct l,h=>GOk h g/\P l h
 |.bk l,h=>Q (.nx l) h
 |.rt d,h=>Q (.rt d) h
theorem Bl(P:List D->Ls->Hd->Prop):∀{ds:List D} {ls:Ls} {hd:Hd},P ds ls hd ->
 (∀d r ls hd,P (d::r) ls hd->∃ls1,n d ls hd=some ls1/\WS b ls1 hd (dk g (P r) QS))->(∀ls hd,P [] ls hd->QS (.nx ls) hd)->WL n b g ds ls hd QS
 |[],ls,hd,h,_,z=>⟨_,_,by unfold BN;rfl,z _ _ h⟩
 |d::r,ls,hd,h,k,z=>by
  obtain⟨ls1,e1,f,x,e2,q⟩:=k d r ls hd h;unfold WL;unfold BN;rw[e1,bind_some,e2,bind_some];cases f with
  |nx l=>exact(show GOk x g/\P r l x from q).1 |> λg1=>by dsimp only;rw[ia g1];exact Bl P q.2 k z
  |ct l=>exact(show GOk x g/\P r l x from q).1 |> λg1=>by dsimp only;rw[ia g1];exact Bl P q.2 k z
  |bk l=>exact⟨_,_,rfl,q⟩
  |rt l=>exact⟨_,_,rfl,q⟩
def A3(h:ls[i]?=some (some d))(q:QE d hd):WE (A1 i) ls hd QE:=⟨d,hd,by rw[EG,h],q⟩
def AN{i:I}(q:QE (.im i) hd):WE (mC i) ls hd QE:=⟨_,_,rfl,q⟩
def AD{f:D->D->Hd->Option (D×Hd)}(h:WE ma ls hd λd x=>WE mb ls x λe y=>WP (f d e y) QE):WE (mOp f ma mb) ls hd QE:=WP.bind (h.mono λ_ _ q=>WP.bind (q.mono λ_ _ q=>q))
def dg(h:WT ta ls hd λc x=>if c=true then WE ma ls x QE else WE mb ls x QE):WE (mIf ta ma mb) ls hd QE:=by
 refine WP.bind (h.mono λc x q=>?_);dsimp only;cases c<;>simpa using q
def Fb(h:WT ta ls hd λc x=>(c=true->WE ma ls x QE)/\(c=false->WE mb ls x QE)):WE (mIf ta ma mb) ls hd QE:=
 dg (h.mono λc x q=>by cases c<;>simp_all)
def Bz(h:WA m ls hd λds x=>Bg 104/\QE (Ap ds) x):WE (Ak m) ls hd QE:=WP.bind (h.mono λds x q=>by dsimp only;rw[ia q.1];exact WP.some q.2)
def BE(h:WA m ls hd λds x=>QE (.mu x.length) (x++[.lst ds])):WE (AY m) ls hd QE:=WP.bind (h.mono λ_ _ q=>WP.some q)
def C1{g:List D->Option D}(h:WA m ls hd λds x=>∃d,g ds=some d/\QE d x):WE (B7 g m) ls hd QE:=by
 obtain⟨ds,x,e,d,e2,q⟩:=h;exact⟨d,x,by simp only[TR,e,bind_some,e2,j4],q⟩
def JV(h:WA m ls hd λds x=>WE ma ls x λe y=>∃i d,e=.im (.int i)/\atI ds i=some d/\QE d y):WE (FP m ma) ls hd QE:=by
 obtain⟨ds,x,e,d,y,e2,i,z,rfl,e4,q⟩:=h;exact⟨z,y,by simp only[TN,e,bind_some,e2,e4,j4],q⟩
def BU{f:List D->Hd->Option (D×Hd)}(h:WA m ls hd λds x=>WP (f ds x) QE):WE (mCB f m) ls hd QE:=WP.bind (h.mono λ_ _ q=>q)
def GC{f:D->List D->Hd->Option (D×Hd)}(h:WE ma ls hd λd x=>(∃l,Aa x d=some l)/\WA m ls x λds y=>WP (f d ds y) QE):WE (mMt f ma m) ls hd QE:=by
 obtain⟨d,x,e,⟨l,hl⟩,q⟩:=h;unfold WE;rw[Qt,e,bind_some];dsimp only;rw[hl];exact WP.bind (q.mono λ_ _ q=>q)
def Dh{F:List D->Hd->Option (D×Hd)}(h:WA m ls hd λds x=>WF F ds x QE):WE (D0 F m) ls hd QE:=WP.bind (h.mono λ_ _ q=>q)
def Ro(h:WE ma ls hd λd x=>∃i,d=.im (.int i)/\QE (.im (.int (-i))) x):WE (GQ ma) ls hd QE:=by
 obtain⟨d,x,e,i,rfl,q⟩:=h;exact⟨_,x,by simp only[dD,e,bind_some],q⟩
def XD(h:WT (AC ma) ls hd λc x=>if c=true then WE mb ls x QE else QE (.im (.bl false)) x):WE (I0 ma mb) ls hd QE:=by
 refine WP.bind (h.mono λc x q=>?_);dsimp only;cases c
 .exact WP.some (by simpa using q)
 .simpa using q
def OZ(h:WT (AC ma) ls hd λc x=>QE (.im (.bl (!c))) x):WE (GP ma) ls hd QE:=WP.bind (h.mono λ_ _ q=>WP.some q)
def AU(h:WE ma ls hd λd x=>∃b,d=.im (.bl b)/\QT b x):WT (AC ma) ls hd QT:=by
 obtain⟨d,x,e,b,rfl,q⟩:=h;exact⟨b,x,by simp only[IH,e,bind_some],q⟩
def Bj(h:WE ma ls hd λd x=>∃b,CC x d=some b/\QT b x):WT (BZ ma) ls hd QT:=by
 obtain⟨d,x,e,b,e2,q⟩:=h;exact⟨b,x,by simp only[K4,e,bind_some,e2,j4],q⟩
def E7(h:WT ta ls hd λc x=>QT (!c) x):WT (FO ta) ls hd QT:=WP.bind (h.mono λ_ _ q=>WP.some q)
def FZ(h:WT ta ls hd λc x=>if c=true then WT tb ls x QT else QT false x):WT (Cs ta tb) ls hd QT:=by
 refine WP.bind (h.mono λc x q=>?_);dsimp only;cases c
 .exact WP.some (by simpa using q)
 .simpa using q
def D8(h:WT ta ls hd λc x=>if c=true then QT true x else WT tb ls x QT):WT (mOr ta tb) ls hd QT:=by
 refine WP.bind (h.mono λc x q=>?_);dsimp only;cases c
 .simpa using q
 .exact WP.some (by simpa using q)
def BY(h:QT true hd):WT Bq ls hd QT:=⟨_,_,rfl,h⟩
def AB(h:QA [] hd):WA A5 ls hd QA:=⟨_,_,rfl,h⟩
def A4(h:WE ma ls hd λd x=>WA m ls x λds y=>QA (d::ds) y):WA (A2 ma m) ls hd QA:=WP.bind (h.mono λ_ _ q=>WP.bind (q.mono λ_ _ q=>WP.some q))
def C3(h:WA m ls hd λds x=>Bg 104/\QA ds x):WA (Ai m) ls hd QA:=WP.bind (h.mono λds x q=>by dsimp only;rw[ia q.1];exact WP.some q.2)
def XF{k:Int}(e:m ls hd=some ([.im (.int k)],hd))(hk:Hm k)(q:QA (An 0 k.toNat) hd):WA (HC m) ls hd QA:=⟨_,_,by simp only[d9,e,bind_some,hk,iy],q⟩
def Rn(h:WE ma ls hd λd x=>WO ml ls x λl y=>WO mh ls y λu z=>∃ds,AS d=some ds/\¬ (HT.sIx 104 0 l=0/\HT.sIx 104 104 u=104)/\QE (Ap (Cu ds l u)) z):WE (Ds ma ml mh) ls hd QE:=by
 obtain⟨d,x,e,l,y,e2,u,z,e3,ds,e4,c,q⟩:=h;exact⟨_,z,by simp only[d8,e,bind_some,e2,e3,e4];rw[ia c],q⟩
def WR(h:QO none hd):WO BM ls hd QO:=⟨_,_,rfl,h⟩
def OX(h:WE ma ls hd λd x=>∃i,d=.im (.int i)/\QO (some i) x):WO (CU ma) ls hd QO:=by
 obtain⟨d,x,e,i,rfl,q⟩:=h;exact⟨_,x,by simp only[ZU,e,bind_some],q⟩
def Pe(h:WA m ls hd λds x=>∃k,ds=[.im (.int k)]/\GI k/\QI (An 0 k.toNat,[]) x):WI (Ey m) ls hd QI:=by
 obtain⟨ds,x,e,k,rfl,c,q⟩:=h;exact⟨_,x,by simp only[dG,e,bind_some,c,iy],q⟩
def By(h:WE ma ls hd λd x=>∃ds,AS d=some ds/\QI (ds,[]) x):WI (B0 ma) ls hd QI:=by
 obtain⟨d,x,e,ds,e2,q⟩:=h;exact⟨_,x,by simp only[dF,e,bind_some,e2,j4],q⟩
def U5(h:WA m ls hd λds x=>QI (ds,[]) x):WI (cf m) ls hd QI:=by
 obtain⟨ds,x,e,q⟩:=h;exact⟨_,x,by simp only[dH,e,j4],q⟩
def Ie(h:WE ma ls hd λd x=>∃k ds,d=.mu k/\x[k]?=some (.lst ds)/\QI (ds,[(k,ds)]) x):WI (Br ma) ls hd QI:=by
 obtain⟨d,x,e,k,ds,rfl,e2,q⟩:=h;exact⟨_,x,by simp only[TQ,e,bind_some,e2],q⟩
def Aq{k:Nat}(h:WI mi ls hd λp x=>Bg p.1.length/\WP (C5 n ta ma p.2 p.1 (E5 k ix ls) x) QA):WA (Ag k ix mi n ta ma) ls hd QA:=WP.bind (h.mono λp x q=>by dsimp only;rw[ia q.1];exact q.2)
def Bx{i j:Int}(q:QE (.im (.int (i+j))) hd):WP (AT (.im (.int i)) (.im (.int j)) hd) QE:=⟨_,_,by simp,q⟩
def Eg{i j:Int}(q:QE (.im (.int (i-j))) hd):WP (Cj (.im (.int i)) (.im (.int j)) hd) QE:=⟨_,_,by simp,q⟩
def Eh{i j:Int}(c:Ht i j)(q:QE (.im (.int (i*j))) hd):WP (Bt (.im (.int i)) (.im (.int j)) hd) QE:=⟨_,_,by simp[c],q⟩
def Cw{i j:Int}(c:EU j)(q:QE (.im (.int (i%j))) hd):WP (CQ (.im (.int i)) (.im (.int j)) hd) QE:=⟨_,_,by simp[c],q⟩
def KJ{i j:Int}(c:MH j)(q:QE (.im (.int (i/j))) hd):WP (GU (.im (.int i)) (.im (.int j)) hd) QE:=⟨_,_,by simp[c],q⟩
def He{i j:Int}(q:QE (.im (.bl (decide (i<j)))) hd):WP (gLt (.im (.int i)) (.im (.int j)) hd) QE:=⟨_,_,by simp,q⟩
def Hf{i j:Int}(q:QE (.im (.bl (decide (i<=j)))) hd):WP (gLe (.im (.int i)) (.im (.int j)) hd) QE:=⟨_,_,by simp,q⟩
def GB{i j:Int}(q:QE (.im (.bl (decide (j<i)))) hd):WP (gGt (.im (.int i)) (.im (.int j)) hd) QE:=⟨_,_,by simp,q⟩
def Pd{i j:Int}(q:QE (.im (.bl (decide (j<=i)))) hd):WP (gGe (.im (.int i)) (.im (.int j)) hd) QE:=⟨_,_,by simp,q⟩
def EA{i j:Int}(q:QE (.im (.bl (decide (i=j)))) hd):WP (gEq (.im (.int i)) (.im (.int j)) hd) QE:=⟨_,_,by simp,q⟩
def Gp{i j:Int}(q:QE (.im (.bl (!decide (i=j)))) hd):WP (gNe (.im (.int i)) (.im (.int j)) hd) QE:=⟨_,_,by simp,q⟩
def MQ{i j:Str}(q:QE (.im (.bl (decide (i=j)))) hd):WP (gEq (.im (.str i)) (.im (.str j)) hd) QE:=⟨_,_,by simp,q⟩
def E9{i j:Str}(q:QE (.im (.bl (!decide (i=j)))) hd):WP (gNe (.im (.str i)) (.im (.str j)) hd) QE:=⟨_,_,by simp,q⟩
def AI{i:Int}(e1:As hd d=some ds)(e2:atI ds i=some e)(q:QE e hd):WP (gIx d (.im (.int i)) hd) QE:=⟨_,_,by rw[fJ,e1,bind_some,e2];rfl,q⟩
def X8(e1:C6 hd d=some kvs)(e2:Cd e=some k)(e3:BC kvs k=some z)(q:QE z hd):WP (EW d e hd) QE:=⟨_,_,by rw[ZY,e1,bind_some,e2,bind_some,e3];rfl,q⟩
def Zl{neg:Bool}(e1:C6 hd d=some kvs)(e2:Cd e=some k)(q:QE (.im (.bl (if neg then !(BC kvs k).isSome else(BC kvs k).isSome))) hd):WP (HK neg e d hd) QE:=⟨_,_,by unfold HK;rw[e1,bind_some,e2];rfl,q⟩
def Fa{i j:Int}(q:QE (.im (.int (max i j))) hd):WP (E3 [.im (.int i),.im (.int j)] hd) QE:=⟨_,_,rfl,by have:(if j>i then j else i)=max i j:=(by split<;>omega);rw[this];exact q⟩
def Hc{i j:Int}(q:QE (.im (.int (min i j))) hd):WP (GW [.im (.int i),.im (.int j)] hd) QE:=⟨_,_,rfl,by have:(if j<i then j else i)=min i j:=(by split<;>omega);rw[this];exact q⟩
def Bw{tp:Bool}{g:List D->Option D}(e1:(if tp then As hd d else Aa hd d)=some ds)(e2:g ds=some z)(q:QE z hd):WP (f1 tp g [d] hd) QE:=⟨_,_,by rw[fK,e1,bind_some,e2];rfl,q⟩
def EB{k:Nat}(e1:hd[k]?=some (.lst ds))(c:Ck 104)(q:QE (.im .non) (hd.set k (.lst (ds++[x])))):WP (Ar (.mu k) [x] hd) QE:=⟨_,_,by rw[TU,e1];simp only[c,iy],q⟩
def X7{w:Nat}(h:WE mc ls hd λp x=>WE ma ls x λq y=>WE mb ls y λr z=>∃w k kvs,q=.mu w/\Cd r=some k/\z[w]?=some (.dic kvs)/\Ck kvs.length/\QS (.nx ls) (z.set w (.dic (Dq kvs k p)))):WS (Hz ma mb mc) ls hd QS:=by
 obtain⟨p,x,e1,q,y,e2,r,z,e3,w,k,kvs,rfl,e4,e5,c,qq⟩:=h;exact⟨_,_,by simp only[ZX,e1,bind_some,e2,e3,e4,e5,c,iy],qq⟩
def Dg(h:WE mc ls hd λp x=>WE ma ls x λq y=>WE mb ls y λr z=>∃w i j ds,q=.mu w/\r=.im (.int i)/\z[w]?=some (.lst ds)/\ixN 104 i=some j/\QS (.nx ls) (z.set w (.lst (ds.set j p)))):WS (DB ma mb mc) ls hd QS:=by
 obtain⟨p,x,e1,q,y,e2,r,z,e3,w,i,j,ds,rfl,rfl,e5,c,qq⟩:=h;exact⟨_,_,by simp only[ZV,e1,bind_some,e2,e3,e5,c,j4],qq⟩
def Am{k n:Nat}{m:MS}{ds:List D}{Q:D->Hd->Prop}(hl:104=k)(h:WS m (ds.map some++108 (n-k) none) hd λf x=>match f with
 |.rt d=>Q d x
 |.nx _=>Q (.im .non) x
 | _=>False):WF (mkF k n m) ds hd Q:=by
 obtain⟨f,x,e,q⟩:=h;unfold WF mkF;rw[ia hl,e];cases f with
 |nx l=>exact⟨_,_,rfl,q⟩
 |rt l=>exact⟨_,_,rfl,q⟩
 |bk l=>exact q.elim
 |ct l=>exact q.elim
def AX{F:List D->Hd->Option (D×Hd)}(h:WA m ls hd λds x=>Al 0 ds=true/\WF F ds [] λd _=>∃i,d=.im i/\QE (.im i) x):WE (A9 0 F m) ls hd QE:=by
 obtain⟨ds,x,e,c,d,y,e2,i,rfl,q⟩:=h;exact⟨_,_,HY e c e2,q⟩
end
structure Tap(T:Nat->MO->MO->Prop)(P:List D->Hd->Option (D×Hd)):Prop where
 cl:∀{k:Nat} {a b:MO},T k a b->clO 2 a=true/\clO 2 b=true
 le:∀{j k:Nat} {a b:MO},T k a b->j<=k->T j a b
 pick:∀{k:Nat} {a b:MO} {many:Int},T (k+1) a b->0<many->many<1073741824->∃r a' b',0<=r/\r<many/\P [.mu 1,.im (.int many)] [a,b]=some (.im (.int r),[a',b'])/\T k a' b'
section
variable{T:Nat->MO->MO->Prop}{P:List D->Hd->Option (D×Hd)}{rest:Hd}{QE:D->Hd->Prop}{n c:Nat}
def Tap.draw(t:Tap T P)(hT:T (n+1) a b){many:Int}(e:m ls hd=some ([.mu 1,.im (.int many)],a::b::rest))(h0:0<many)(h1:many<1073741824)
 (k:∀r a' b',T n a' b'->0<=r->r<many->QE (.im (.int r)) (a'::b'::rest)):WE (A9 2 P m) ls hd QE:=by
 obtain⟨r,a',b',p1,p2,e2,hT'⟩:=t.pick hT h0 h1;refine⟨_,_,O8 (w:=2) (ds:=[.mu 1,.im (.int many)]) (pre:=[a,b]) (pre':=[a',b']) (rest:=rest) (g:=[]) rfl rfl e 55 ?_ ?_ (by simpa using e2),k r a' b' hT' p1 p2⟩
 .simp[t.cl hT]
 .simp[t.cl hT']
end
section
variable{K:Frag}
noncomputable def Hi(w:Nat)(ls:Ls):Ls:=ls.map λo=>match o with
 |some d=>if clD w d=true then some d else none
 |none=>none
noncomputable def GD(w:Nat):Fl->Option Fl
 |.nx ls=>some (.nx (Hi w ls))
 |.bk ls=>some (.bk (Hi w ls))
 |.ct ls=>some (.ct (Hi w ls))
 |.rt d=>if clD w d=true then some (.rt d)else none
noncomputable def Jq(w:Nat)(m:MS):MS:=λls hd=>if hd.length<=w then(m ls hd).bind λp=>if(p.2.take w).all (clO w)=true then(GD w p.1).map λf=>(f,p.2.take w)else none else none
def RL.trim(h:RL K ρ H ls σ)(w:Nat):RL K (ρ.take w) H (Hi w ls) σ:=by
 refine⟨by simp[Hi,h.len],λi d e=>?_⟩;unfold Hi at e;rw[List.getElem?_map]at e;cases q:ls[i]? with
 |none=>rw[q]at e;cases e
 |some o=>
  rw[q]at e;cases o with
  |none=>simp at e
  |some z=>
   simp only[j4,Option.some.injEq]at e;split at e
   .next c=>
    cases e;obtain⟨v,e1,e2⟩:=h.ob i _ q;exact⟨v,e1,e2.take w c⟩
   .cases e
def Ext.trim(x:Ext ρ H ρ' H'){w:Nat}(h:ρ.length<=w):Ext ρ H (ρ'.take w) H':=by
 obtain⟨r,rfl,fr⟩:=x.pre;refine⟨⟨r.take (w-ρ.length),?_,λb hb=>fr b (List.mem_of_mem_take hb)⟩,x.keep,x.tab⟩;rw[List.take_append,jO h]
def XY(w:Nat)(h:RS K t m):RS K t (Jq w m):=by
 intro ρ σ H hd ls E f hd' hR hL hm hQ;unfold Jq at hm;split at hm
 .next hw=>
  obtain⟨⟨f1,h1⟩,e1,hm⟩:=iS hm;dsimp only at hm;split at hm
  .next c=>
   obtain⟨f2,e2,e3⟩:=iT hm;cases e3;refine h ρ σ H hd ls E f1 h1 hR hL e1 λρ1 H1 x1 R1=>?_;have q:=hQ (ρ1.take w) H1 (x1.trim (by rw[hR.len];exact hw)) (R1.take w c);cases f1 with
   |nx l=>simp only[GD,Option.some.injEq]at e2;subst e2;exact λσ' L=>q σ' (L.trim w)
   |bk l=>simp only[GD,Option.some.injEq]at e2;subst e2;exact λσ' L=>q σ' (L.trim w)
   |ct l=>simp only[GD,Option.some.injEq]at e2;subst e2;exact λσ' L=>q σ' (L.trim w)
   |rt d=>
    simp only[GD]at e2;split at e2
    .next c2=>cases e2;exact λv r=>q v (r.take w c2)
    .cases e2
  .cases hm
 .cases hm
def X5{w:Nat}{Q:Fl->Hd->Prop}(hw:hd.length<=w)(h:WS m ls hd λf x=>(x.take w).all (clO w)=true/\∃f',GD w f=some f'/\Q f' (x.take w)):WS (Jq w m) ls hd Q:=by
 obtain⟨f,x,e,c,f',e2,q⟩:=h;exact⟨f',x.take w,by unfold Jq;rw[ia hw,e,bind_some];dsimp only;rw[ia c,e2];rfl,q⟩
noncomputable def Cy(m:MS):MS:=λls hd=>Jq hd.length m ls hd
def N3(h:RS K t m):RS K t (Cy m):=λρ σ H hd ls E f hd' hR hL hm hQ=>XY hd.length h ρ σ H hd ls E f hd' hR hL hm hQ
def Sc(K:Frag){st:List Stmt}(h:QSs K X st t m):QSs K X st t (Cy m):=⟨h.p,N3 h.r⟩
def GA{Q:Fl->Hd->Prop}(h:WS m ls hd λf x=>(x.take hd.length).all (clO hd.length)=true/\∃f',GD hd.length f=some f'/\Q f' (x.take hd.length)):WS (Cy m) ls hd Q:=X5 (ig _) h
noncomputable def i8:ME:=λ_ hd=>some (.mu hd.length,hd++[.dic []])
end
mutual
theorem O0{v w:Nat}(h:v<=w):∀{d:D},clD v d=true->clD w d=true
 |.im i,_=>by simp
 |.mu n,c=>by simp at c ⊢;omega
 |.tm ds,c=>by rw[clD]at c ⊢;exact EI h c
 |.ro ns,_=>by rw[clD]
 |.op _ _ ds,c=>by rw[clD]at c ⊢;exact EI h c
 |.fv _ ds,c=>by rw[clD]at c ⊢;exact EI h c
theorem EI{v w:Nat}(h:v<=w):∀{ds:List D},Al v ds=true->Al w ds=true
 |[],_=>by simp
 |d::ds,c=>by
  simp only[Tf,Bool.and_eq_true]at c ⊢;exact⟨O0 h c.1,EI h c.2⟩
end
theorem Ld{v w:Nat}(h:v<=w):∀{ds:List (Key×D)},Gb v ds=true->Gb w ds=true
 |[],_=>by simp[Gb]
 |d::ds,c=>by
  simp only[Gb,Bool.and_eq_true]at c ⊢;exact⟨O0 h c.1,Ld h c.2⟩
def JN{v w:Nat}(h:v<=w)(c:clO v o=true):clO w o=true:=by
 cases o with
 |lst ds=>exact EI h c
 |dic ds=>exact Ld h c
section
variable{T:Nat->MO->MO->Prop}{P:List D->Hd->Option (D×Hd)}{rest:Hd}{QE:D->Hd->Prop}
def Tap.callX(t:Tap T P){n c:Nat}(hT:T (n+c) a b)(ex:Hd){w:Nat}{F:List D->Hd->Option (D×Hd)}{R:I->Prop}(e:m ls hd=some (.mu 1::as,a::b::(ex++rest)))(hw:w=ex.length+2)(ha:Al w as=true)(hx:ex.all (clO w)=true)
 (hF:∀a b,T (n+c) a b->WF F (.mu 1::as) (a::b::ex) λd x=>∃i a' b' g,d=.im i/\R i/\T n a' b'/\x=a'::b'::(ex++g))
 (k:∀i a' b',T n a' b'->R i->QE (.im i) (a'::b'::(ex++rest))):WE (A9 w F m) ls hd QE:=by
 subst hw;have hcl:∀o,clO 2 o=true->clO (ex.length+2) o=true:=λo h=>JN 50 h;obtain⟨d,x,e2,i,a',b',g,rfl,hR,hT',rfl⟩:=hF a b hT;refine⟨_,_,O8 (w:=ex.length+2) (ds:=.mu 1::as) (pre:=a::b::ex) (pre':=a'::b'::ex) (rest:=rest) (g:=g) rfl rfl e (by simp[ha]) ?_ ?_ e2,k i a' b' hT' hR⟩
 .simp[hcl _ (t.cl hT).1,hcl _ (t.cl hT).2];simpa using hx
 .simp[hcl _ (t.cl hT').1,hcl _ (t.cl hT').2];simpa using hx
def Tap.call(t:Tap T P){n c:Nat}(hT:T (n+c) a b){F:List D->Hd->Option (D×Hd)}{R:I->Prop}(e:m ls hd=some (.mu 1::as,a::b::rest))(ha:Al 2 as=true)
 (hF:∀a b,T (n+c) a b->WF F (.mu 1::as) [a,b] λd x=>∃i a' b' g,d=.im i/\R i/\T n a' b'/\x=a'::b'::g)
 (k:∀i a' b',T n a' b'->R i->QE (.im i) (a'::b'::rest)):WE (A9 2 F m) ls hd QE:=
 t.callX hT [] (w:=2) e rfl ha rfl hF k
end
end L2
namespace L2
open PySem PySem.Spec PyProof.Rows
section
variable{Q:Fl->Hd->Prop}{QE:D->Hd->Prop}
def di(P:Ls->Hd->Prop)(Q:Fl->Hd->Prop):Fl->Hd->Prop
 |.nx l,h=>P l h
 |.ct l,h=>P l h
 |.bk l,h=>Q (.nx l) h
 |.rt d,h=>Q (.rt d) h
def Ib(P:Nat->Ls->Hd->Prop){n:Nat}(h:P n ls hd)
 (k:∀n ls hd,P n ls hd->WT c ls hd λt x=>if t=true then WS b ls x (di (λl y=>∃m,m<n/\P m l y) Q)else Q (.nx ls) x):WS (CL c b) ls hd Q:=by
 have go:∀n ls hd,P n ls hd->∃j r,Ax c b j ls hd=some r/\Q r.1 r.2:=by
  intro n
  induction n using Nat.strongRecOn with
  |ind n ih=>
   intro ls hd h;obtain⟨t,x,e1,q⟩:=k n ls hd h;cases t with
   |false=>
    rw[ie Bool.false_ne_true]at q;exact⟨1,(.nx ls,x),by unfold Ax;rw[e1];rfl,q⟩
   |true=>
    rw[ia rfl]at q;obtain⟨f,y,e2,q⟩:=q;cases f with
    |nx l=>
     obtain⟨m,hm,p⟩:=q;obtain⟨j,r,e3,q3⟩:=ih m hm l y p;exact⟨j+1,r,by unfold Ax;rw[e1,bind_some,ia rfl,e2];exact e3,q3⟩
    |ct l=>
     obtain⟨m,hm,p⟩:=q;obtain⟨j,r,e3,q3⟩:=ih m hm l y p;exact⟨j+1,r,by unfold Ax;rw[e1,bind_some,ia rfl,e2];exact e3,q3⟩
    |bk l=>exact⟨1,(.nx l,y),by unfold Ax;rw[e1,bind_some,ia rfl,e2];rfl,q⟩
    |rt d=>exact⟨1,(.rt d,y),by unfold Ax;rw[e1,bind_some,ia rfl,e2];rfl,q⟩
 obtain⟨j,⟨f,x⟩,e,q⟩:=go n ls hd h;exact⟨f,x,LQ e,q⟩
def U2{k j:Nat}{i:Int}(e1:hd[k]?=some (.lst ds))(hr:GI i)(e2:ixN 104 i=some j)(e3:ds[j]?=some z)(q:QE z (hd.set k (.lst (ds.eraseIdx j)))):WP (Fs (.mu k) [.im (.int i)] hd) QE:=⟨_,_,by rw[Vx,e1];simp[hr,e2,e3],q⟩
end
end L2
namespace Bd
open PySem L2
@[reducible] def iO:MS:=(A6 (AE 2 (mC (.int 0)))
 (A6 (Bs (B0 (A1 0)) (CO 2 (Ac (AG 3) (Ac (AG 4) CP)))
  (A6 (Ad (AC (mOp gGt (A1 3) (A1 1)))
  (AK (A1 2))
  AV)
 (AE 2 (A1 4))))
 (AK (A1 2))))
noncomputable def HR:List D->Hd->Option (D×Hd):=mkF 2 5 iO
@[reducible] def iQ:MS:=(A6 (AE 2 (mOp gIx (A1 0) (mC (.int 0))))
 (A6 (Ad (AC (mOp gEq (A1 2) (mC (.str "steps"))))
  (AK (A9 0 HR (A2 (mOp gIx (A1 0) (mC (.int 1))) (A2 (A1 1) A5))))
  AV)
 (A6 (Ad (AC (mOp gEq (A1 2) (mC (.str "ends"))))
  (AK (mOp Bt (mOp gIx (A1 0) (mC (.int 1))) (A1 1)))
  AV)
 (A6 (AE 3 (mOp Cj (A1 1) (mOp gIx (A1 0) (mC (.int 1)))))
 (A6 (Ad (AC (mOp gEq (A1 2) (mC (.str "late"))))
  (AK (A1 3))
  AV)
 (A6 (Ad (AC (mOp gLe (A1 3) (mC (.int 0))))
  (AK (mC (.int 0)))
  AV)
 (A6 (Ad (AC (mOp gEq (A1 2) (mC (.str "tardy"))))
  (AK (mOp Bt (mOp gIx (A1 0) (mC (.int 2))) (A1 3)))
  AV)
 (AK (mOp gIx (A1 0) (mC (.int 2)))))))))))
noncomputable def F_cost_at:List D->Hd->Option (D×Hd):=mkF 2 4 iQ
structure Tp where
 cells:List Int
 nx:Int
 lf:Int
 tn:Int
noncomputable def dm(t:Tp):List (Key×D):=[(.inr "cells",.mu 0),(.inr "next",.im (.int t.nx)),(.inr "left",.im (.int t.lf)),(.inr "turn",.im (.int t.tn))]
def tp(t:Tp):Hd:=[.lst (t.cells.map λi=>.im (.int i)),.dic (dm t)]
theorem Dm:∀ns:List Int,I.pys (ns.map I.int)=ns.map PyData.int
 |[]=>by simp[I.pys]
 |n::ns=>by simp[I.pys,I.py,Dm ns]
def Dd(ns:List Int):B9 (ns.map λi=>D.im (.int i))=some (ns.map I.int):=by
 have:(ns.map λi=>D.im (.int i))=(ns.map I.int).map D.im:=by rw[j3];rfl
 rw[this];exact Ts _
def ZZ(ns:List Int):PyData.eqv (.list (ns.map PyData.int)) (.list [])=decide (ns=[]):=by
 cases ns<;>simp[PyData.eqv,PyData.eqvAll]
def lay_ints(ns:List Int):(PyData.list (ns.map PyData.int)).canLay0=true:=by simp[PyData.canLay0,IY]
def PQ(ns:List Int)(hd:Hd)(neg:Bool):JF neg (.list (ns.map PyData.int)) (.list []) hd=some (.im (.bl (if neg then !decide (ns=[])else decide (ns=[]))),hd):=by
 unfold JF;rw[ia,ZZ];refine⟨lay_ints ns,by simp[PyData.canLay0,PyData.canLayAll0],?_⟩;have:(PyData.list []).depth<=1:=by simp[PyData.depth,PyData.depthAll]
 omega
def FJ{x:Int}(m:Int)(h:0<m):0<=x%m/\x%m<m:=⟨Int.emod_nonneg _ 50,Int.emod_lt_of_pos _ h⟩
def fR(h:xs≠[])(n:Int):∃c,atI (xs.map λi=>D.im (.int i)) (n%(xs.length:Int))=some (.im (.int c)):=by
 have hl:0<xs.length:=Kp h;obtain⟨a,b⟩:=FJ (x:=n) (xs.length:Int) 50;obtain⟨k,hk⟩:=Int.eq_ofNat_of_zero_le a;have hk':k<xs.length:=by omega
 exact⟨xs[k],JR hk (by simp[hk'])⟩
def po1:QQ 10 18:=by unfold QQ;decide
inductive Cost where
 |late (d:Int)|tardy (d w:Int)|miss (d w:Int)|ends (w:Int)|steps (rows:List (Int×Int))
noncomputable def Im(r:Int×Int):I:=.tup [.int r.1,.int r.2]
noncomputable def Bf:Cost->I
 |.late d=>.tup [.str "late",.int d]
 |.tardy d w=>.tup [.str "tardy",.int d,.int w]
 |.miss d w=>.tup [.str "miss",.int d,.int w]
 |.ends w=>.tup [.str "ends",.int w]
 |.steps rows=>.tup [.str "steps",.tup (rows.map Im)]
noncomputable def Bh(t:Int):List (Int×Int)->Int->Int
 |[],told=>told
 |(b,a)::r,told=>if t<b then told else Bh t r a
noncomputable def Cost.at:Cost->Int->Int
 |.late d,t=>t-d
 |.tardy d w,t=>if t-d<=0 then 0 else w*(t-d)
 |.miss d w,t=>if t-d<=0 then 0 else w
 |.ends w,t=>w*t
 |.steps rows,t=>Bh t rows 0
def Cost.wok:Cost->Prop
 |.tardy _ w=>0<=w/\w<=1000000
 |.miss _ w=>0<=w/\w<=1000000
 |.ends w=>0<=w/\w<=1000000
 |_=>True
def n1:¬ (("late":Str)="steps"):=by decide +kernel
def n2:¬ (("tardy":Str)="steps"):=by decide +kernel
def n3:¬ (("miss":Str)="steps"):=by decide +kernel
def n4:¬ (("ends":Str)="steps"):=by decide +kernel
def n5:¬ (("late":Str)="ends"):=by decide +kernel
def n6:¬ (("tardy":Str)="ends"):=by decide +kernel
def n7:¬ (("miss":Str)="ends"):=by decide +kernel
def n8:¬ (("tardy":Str)="late"):=by decide +kernel
def n9:¬ (("miss":Str)="late"):=by decide +kernel
def n10:¬ (("miss":Str)="tardy"):=by decide +kernel
theorem Ja(t:Int)(z:D)(hd:Hd):∀(rows:List (Int×Int)) (told:Int) (x y:Option D),∃fl x' y',BN (CO 2 (Ac (AG 3) (Ac (AG 4) CP))) (A6 (Ad (AC (mOp gGt (A1 3) (A1 1))) (AK (A1 2)) AV) (AE 2 (A1 4))) [] ((rows.map Im).map .im)
 [some z,some (.im (.int t)),some (.im (.int told)),x,y] hd=some (fl,hd)/\(fl=.rt (.im (.int (Bh t rows told)))∨fl=.nx [some z,some (.im (.int t)),some (.im (.int (Bh t rows told))),x',y'])
 |[],told,x,y=>⟨_,x,y,Nc,.inr rfl⟩
 |(b,a)::rows,told,x,y=>by
   by_cases h:t<b
   .refine⟨_,x,y,Vb (ls1:=[some z,some (.im (.int t)),some (.im (.int told)),some (.im (.int b)),some (.im (.int a))]) (by simp[Im]) (v:=.im (.int told)) (hd2:=hd) ?_,.inl ?_⟩
    .simp[h]
    .simp[Bh,h]
   .obtain⟨fl,x',y',e,q⟩:=Ja t z hd rows a (some (.im (.int b))) (some (.im (.int a)));refine⟨fl,x',y',?_,?_⟩
    .rw[<- e];refine HH (ls1:=[some z,some (.im (.int t)),some (.im (.int told)),some (.im (.int b)),some (.im (.int a))]) (by simp[Im]) ?_ (AQ _);simp[h]
    .simpa [Bh,h]using q
def OG(rows:List (Int×Int))(t:Int):HR [.im (.tup (rows.map Im)),.im (.int t)] []=some (.im (.int (Bh t rows 0)),[]):=by
 obtain⟨fl,x',y',e,q⟩:=Ja t (.im (.tup (rows.map Im))) [] rows 0 none none;rcases q with rfl|rfl
 .simp[HR,mkF]at e ⊢;simp[e]
 .simp[HR,mkF]at e ⊢;simp[e]
def KB(c:Cost)(t:Int)(h:c.wok):F_cost_at [.im (Bf c),.im (.int t)] []=some (.im (.int (c.at t)),[]):=by
 cases c with
 |late d=>simp[F_cost_at,mkF,Bf,n1,n5,Cost.at]
 |tardy d w=>
  have b1:∀j,Ht w j:=λj=>Fj (by obtain⟨a,b⟩:=h;omega) (by obtain⟨a,b⟩:=h;omega);by_cases q:t-d<=0
  .simp[F_cost_at,mkF,Bf,n2,n6,n8,Cost.at,q]
  .simp[F_cost_at,mkF,Bf,n2,n6,n8,Cost.at,q,b1]
 |miss d w=>
  by_cases q:t-d<=0
  .simp[F_cost_at,mkF,Bf,n3,n7,n9,Cost.at,q]
  .simp[F_cost_at,mkF,Bf,n3,n7,n9,n10,Cost.at,q]
 |ends w=>
  have b1:∀j,Ht w j:=λj=>Fj (by obtain⟨a,b⟩:=h;omega) (by obtain⟨a,b⟩:=h;omega);simp[F_cost_at,mkF,Bf,n4,Cost.at,b1]
 |steps rows=>
  have:=HY (m:=A2 (mOp gIx (A1 0) (mC (.int 1))) (A2 (A1 1) A5)) (ls:=[some (.im (Bf (.steps rows))),some (.im (.int t)),some (.im (.str "steps")),none]) (hd:=[]) (hd1:=[]) (F:=HR) (ds:=[.im (.tup (rows.map Im)),.im (.int t)]) (by simp[Bf]) 55 (OG rows t);simp[Bf]at this;simp[F_cost_at,mkF,Bf,Cost.at,this]
def EJ(w:Nat)(ns:List Int):Al w (ns.map λi=>D.im (.int i))=true:=by induction ns<;>simp_all [Al,clD]
noncomputable abbrev Ao(ks:List Nat):I:=.tup (ks.map λk:Nat=>.int k)
def W2(ns:List Int)(lo hi:Option Int):∃cs:List Int,Cu (ns.map λn=>.im (.int n)) lo hi=cs.map λn=>.im (.int n):=⟨(ns.drop _).take _,by unfold Cu;rw[map_take,List.map_drop]⟩
noncomputable abbrev AM(ks:List Nat):List D:=ks.map λk:Nat=>D.im (.int (k:Int))
def ZH{n:Nat}{i:Int}(a:0<=i)(b:i<n):ixN n i=some i.toNat:=by unfold ixN;rw[ia a,ia b]
theorem Jn:∀{a:List Nat} {k x:Nat},a[k]?=some x->(x::a.eraseIdx k).Perm a
 |[],k,x,h=>by simp at h
 |y::r,0,x,h=>by simp at h;subst h;exact .refl _
 |y::r,k+1,x,h=>by
  have ih:=Jn (a:=r) (k:=k) (x:=x) (by simpa using h);exact(List.Perm.swap y x _).trans (ih.cons y)
theorem La{α β:Type}(f:α->β):∀(l:List α) (k:Nat),(l.map f).eraseIdx k=(l.eraseIdx k).map f
 |[],k=>rfl
 |y::r,0=>rfl
 |y::r,k+1=>by simp[La f r k]
def Sh{k x:Nat}(h:a[k]?=some x):(b++[x]++a.eraseIdx k).Perm (b++a):=by
 rw[jI];exact List.Perm.append_left b (Jn h)
noncomputable def M9(p:Int×Int):I:=.tup [.int p.1,.int p.2]
def Along(seq:List Nat)(ps:List (Int×Int)):Prop:=∀p∈ps,∃i j a b:Nat,i<j/\seq[i]?=some a/\seq[j]?=some b/\p=((a:Int),(b:Int))
def Su{i a:Nat}(h:seq[i]?=some a):atI (AM seq) (i:Int)=some (.im (.int (a:Int))):=JR rfl (by simp[h])
def W1(xs:List D)(k:Nat):Cu xs none (some (k:Int))=xs.take k:=by
 unfold Cu;rw[HT.sIx_none,HT.sIx_nat,Nat.sub_zero,List.drop_zero];by_cases h:k<=105
 .rw[Nat.min_eq_left h]
 .rw[Nat.min_eq_right 50,List.take_length,jO 50]
def ES(n:Nat):An 0 n=AM (57 n):=by
 refine ext_getElem? λi=>?_;by_cases h:i<n
 .rw[Jk h];simp[h]
 .rw[List.getElem?_eq_none 112,List.getElem?_eq_none 112]
theorem Along.pok{seq:List Nat}{n:Nat}(hp:seq.Perm (57 n))(hn:n<=1000)(h:Along seq ps):∀p∈ps,pok p:=by
 intro p hp';obtain⟨i,j,a,b,_,ea,eb,rfl⟩:=h p hp';have ha:a<n:=by simpa using hp.mem_iff.mp (j6 ea)
 have hb:b<n:=by simpa using hp.mem_iff.mp (j6 eb)
 exact⟨by show -1000000000<=(a:Int);omega,by show(a:Int)<=1000000000;omega,by show -1000000000<=(b:Int);omega,by show(b:Int)<=1000000000;omega⟩
noncomputable abbrev intD(xs:List Int):List D:=xs.map λx=>D.im (.int x)
noncomputable abbrev Em:MS:=(Ad (Cs (AC (mOp gEq (A1 5) (A1 4))) (AC (mOp (gIn true) (A1 6) (A1 2))))
 (A6 (Ay (mMt Ar (A1 2) (A2 (A1 6) A5)))
 (Ay (mMt Ar (A1 3) (A2 (A1 6) A5))))
  AV)
noncomputable abbrev Nj:MS:=(A6 (AE 4 (mMt HP (A1 3) A5))
 (Bs (Ex (A1 0)) (CO 2 (Ac (AG 5) (Ac (AG 6) CP))) Em))
@[reducible] noncomputable def gV:MS:=(A6 (AE 2 (AY (Ai A5)))
 (A6 (AE 3 (AY (Ai (A2 (A1 1) A5))))
 (A6 (CL (BZ (A1 3)) Nj)
 (AK (B7 BS (Dr (Br (A1 2))))))))
noncomputable def F_reached:List D->Hd->Option (D×Hd):=mkF 2 7 gV
def TC(xs:List Int):Bo (intD xs)=some (xs.map V.int):=by
 induction xs with
 |nil=>rfl
 |cons x r ih=>simp[Bo,EX]at ih ⊢;exact ih
def Vk(x:Int)(xs:List Int):inV (.int x) (xs.map V.int)=decide (x∈xs):=by
 unfold inV
 induction xs with
 |nil=>simp
 |cons y r ih=>
  simp only[iq,jB,ih,mem_cons];have:eqV (V.int y) (V.int x)=decide (x=y):=by
   unfold eqV;by_cases h:x=y
   .subst h;simp
   .have h':¬ y=x:=λz=>h z.symm;simp[h,h']
  rw[this,Bool.decide_or]
def in_ints(x:Int)(neg:Bool)(h:As hd d=some (intD xs)):gIn neg (.im (.int x)) d hd=some (.im (.bl (if neg then !decide (x∈xs)else decide (x∈xs))),hd):=by
 simp only[gIn,EX,bind_some,h,TC,j4,Vk]
def g0(hd:Hd)(x y:MO):(hd++[x,y])[hd.length]?=some x:=by simp
def g1(hd:Hd)(x y:MO):(hd++[x,y])[hd.length+1]?=some y:=by simp
def t0(hd:Hd)(x y z:MO):(hd++[x,y]).set hd.length z=hd++[z,y]:=by simp
def t1(hd:Hd)(x y z:MO):(hd++[x,y]).set (hd.length+1) z=hd++[x,z]:=by simp
theorem Gv(P:D)(hd:Hd)(g:Gd)(G:GOk hd g)(a at_:Int):∀(qs:List (Int×Int)) (found fresh:List Int) (z5 z6:Option D),found.length+qs.length<=1000->fresh.length+qs.length<=10000->∃(new:List Int) (y5 y6:Option D),
 BN (CO 2 (Ac (AG 5) (Ac (AG 6) CP))) Em g (qs.map Aj) [some P,some (.im (.int a)),some (.mu hd.length),some (.mu (hd.length+1)),some (.im (.int at_)),z5,z6] (hd++[.lst (intD found),.lst (intD fresh)]) =
  some (.nx [some P,some (.im (.int a)),some (.mu hd.length),some (.mu (hd.length+1)),some (.im (.int at_)),y5,y6],hd++[.lst (intD (found++new)),.lst (intD (fresh++new))])/\
 new.length<=qs.length/\new.Nodup/\(∀y∈new,y∉found/\(at_,y)∈qs)/\∀y,(at_,y)∈qs->y∈found++new
 |[],found,fresh,z5,z6,_,_=>⟨[],z5,z6,by simp[Nc],by simp,.nil,λy h=>by simp at h,λy h=>by simp at h⟩
 |(u,v)::qs,found,fresh,z5,z6,hf,hr=>by
   simp only[j8]at hf hr;have gg:∀r:Hd,GOk (hd++r) g:=λr=>ZQ G r;have nm:∀z5 z6:Option D,∀h:Hd,CO 2 (Ac (AG 5) (Ac (AG 6) CP)) (Aj (u,v)) [some P,some (.im (.int a)),some (.mu hd.length),some (.mu (hd.length+1)),some (.im (.int at_)),z5,z6] h=some [some P,some (.im (.int a)),some (.mu hd.length),some (.mu (hd.length+1)),some (.im (.int at_)),some (.im (.int u)),some (.im (.int v))]:=λz5 z6 h=>by simp[Aj]
   have sv:As (hd++[.lst (intD found),.lst (intD fresh)]) (.mu hd.length)=some (intD found):=by rw[dt,MB,g0]
   have gi:=in_ints v true sv;by_cases c:u=at_/\v∉found
   .obtain⟨new,y5,y6,q,l,nd,fr,al⟩:=Gv P hd g G a at_ qs (found++[v]) (fresh++[v]) (some (.im (.int u))) (some (.im (.int v))) 112 112;refine⟨v::new,y5,y6,?_,by simp;omega,?_,λy hy=>?_,λy hy=>?_⟩
    .have e1:found++v::new=found++[v]++new:=by simp
     have e2:fresh++v::new=fresh++[v]++new:=by simp
     rw[e1,e2,<- q,iq];have f1:Ck found.length:=BI 50;have f2:Ck fresh.length:=BI 50;refine HH (nm _ _ _) ?_ (gg _);simp only[Em,Nr,Nv,IH,Qs,EG,List.getElem?_cons_zero,List.getElem?_cons_succ,bind_some,Kw,Nu,c.1,decide_true,iy,Bool.false_eq_true,j5,gi,c.2,k4,Bool.not_false,K5,ZW,Qt,MB,g0,g1,PB,Nq,TU,iV,f1,f2,t0,t1,jD,iq,jf]
    .refine nodup_cons.mpr ⟨λh=>(fr v h).1 55,nd⟩
    .rcases mem_cons.mp hy with rfl|hy
     .exact⟨c.2,by rw[c.1];exact ir⟩
     .have:=fr y hy;exact⟨λh=>this.1 (by simp[h]),il _ this.2⟩
    .rcases mem_cons.mp hy with h|h
     .cases h;simp
     .have:=al y h;simp at this ⊢;rcases this with h|h|h
      .exact .inl h
      .exact .inr (.inl h)
      .exact .inr (.inr h)
   .obtain⟨new,y5,y6,q,l,nd,fr,al⟩:=Gv P hd g G a at_ qs found fresh (some (.im (.int u))) (some (.im (.int v))) 50 50;refine⟨new,y5,y6,?_,by simp;omega,nd,λy hy=>⟨(fr y hy).1,il _ (fr y hy).2⟩,λy hy=>?_⟩
    .rw[<- q,iq];refine HH (nm _ _ _) ?_ (gg _);by_cases c1:u=at_
     .have c2:v∈found:=Classical.not_not.mp λh=>c ⟨c1,h⟩;simp only[Em,Nr,Nv,IH,Qs,EG,List.getElem?_cons_zero,List.getElem?_cons_succ,bind_some,Kw,Nu,c1,decide_true,iy,Bool.false_eq_true,j5,gi,c2,Bool.not_true,P9]
     .simp only[Em,Nr,Nv,IH,Qs,EG,List.getElem?_cons_zero,List.getElem?_cons_succ,bind_some,Kw,Nu,c1,k4,iy,Bool.false_eq_true,j5,P9]
    .rcases mem_cons.mp hy with h|h
     .cases h;have c2:v∈found:=Classical.not_not.mp λh=>c ⟨rfl,h⟩;simp[c2]
     .exact al y h
end Bd
namespace L2
open PySem PySem.Spec PyProof.Rows
def CY(p:Key×D)(r:List (Key×D))(k:Key):BC (p::r) k=if p.1=k then some p.2 else BC r k:=by
 unfold BC;rw[jg];by_cases e:p.1=k<;>simp[e]
theorem MY(k:Key):∀kvs:List (Key×D),(kvs.any λkv=>decide (kv.1=k))=(BC kvs k).isSome
 |[]=>rfl
 |p::r=>by
  rw[jB,CY];by_cases e:p.1=k
  .simp[e]
  .rw[ie e,j9 e,Bool.false_or];exact MY k r
theorem MX(k j:Key)(y:D):∀kvs:List (Key×D),BC (kvs.map λkv=>if kv.1=k then(kv.1,y)else kv) j=(BC kvs j).map λx=>if j=k then y else x
 |[]=>rfl
 |p::r=>by
  have ih:=MX k j y r;rw[iq,CY,CY,ih];by_cases h:p.1=k
  .rw[ia h];by_cases e:p.1=j
   .have:j=k:=e.symm.trans h;simp[e,this]
   .simp[e]
  .rw[ie h];by_cases e:p.1=j
   .have:¬ j=k:=λz=>h (e.trans z);simp[e,this]
   .simp[e]
theorem LG(k j:Key)(y:D):∀kvs:List (Key×D),BC kvs k=none->BC (kvs++[(k,y)]) j=if j=k then some y else BC kvs j
 |[],_=>by
  rw[nil_append,CY];by_cases e:k=j
  .subst e;simp
  .have:¬ j=k:=λz=>e z.symm;simp[e,this]
 |p::r,hn=>by
  rw[CY]at hn;have hk:¬ p.1=k:=λz=>by rw[ia z]at hn;cases hn
  rw[ie hk]at hn;have ih:=LG k j y r hn;rw[cons_append,CY,CY,ih];by_cases e:p.1=j
  .have:¬ j=k:=λz=>hk (e.trans z);simp[e,this]
  .simp[e]
def UA(kvs:List (Key×D))(k j:Key)(y:D):BC (Dq kvs k y) j=if j=k then some y else BC kvs j:=by
 unfold Dq;rw[MY];by_cases a:(BC kvs k).isSome=true
 .rw[ia a,MX];by_cases e:j=k
  .subst e;obtain⟨x,hx⟩:=isSome_iff_exists.mp a;simp[hx]
  .simp[e]
 .rw[ie a];exact LG k j y kvs (by simpa using a)
def NK(kvs:List (Key×D))(k:Key)(y:D):(Dq kvs k y).length<=kvs.length+1:=by
 unfold Dq;split<;>simp
def DicI(kvs:List (Key×D))(g:Nat->Option Int):Prop:=∀k:Nat,BC kvs (.inl (k:Int))=(g k).map λv=>.im (.int v)
def DicI.put{g:Nat->Option Int}(h:DicI kvs g)(k:Nat)(v:Int):DicI (Dq kvs (.inl (k:Int)) (.im (.int v))) λj=>if j=k then some v else g j:=λj=>by
 rw[UA];by_cases e:j=k
 .subst e;simp
 .have:¬ (Sum.inl (j:Int):Key)=Sum.inl (k:Int):=λz=>e (by have:=Sum.inl.inj z;omega);rw[ie this];dsimp only;rw[ie e];exact h j
section
variable{ls:Ls}{hd:Hd}{QE:D->Hd->Prop}{QI:List D×Gd->Hd->Prop}{ma:ME}{n:MG}{ta:MT}{mi:MI}{m:MA}
def Ic{g:Nat->Option Int}{k:Nat}{v:Int}(e1:C6 hd d=some kvs)(h:DicI kvs g)(e:g k=some v)(q:QE (.im (.int v)) hd):WP (EW d (.im (.int (k:Int))) hd) QE:=
 X8 e1 rfl (by rw[h k,e];rfl) q
def OW{g:Nat->Option Int}{k:Nat}{neg:Bool}(e1:C6 hd d=some kvs)(h:DicI kvs g)(q:QE (.im (.bl (if neg then !(g k).isSome else(g k).isSome))) hd):WP (HK neg (.im (.int (k:Int))) d hd) QE:=
 Zl e1 rfl (by rw[h k,isSome_map];exact q)
def Zk{x:Int}{neg:Bool}(e1:As hd d=some (Bd.intD xs))(q:QE (.im (.bl (if neg then !decide (x∈xs)else decide (x∈xs)))) hd):WP (gIn neg (.im (.int x)) d hd) QE:=WP.eq (Bd.in_ints x neg e1) q
def XB{mm:Ls->Hd->Option (List (Key×D)×Hd)}(h:WP (mm ls hd) λkvs x=>QE (.mu x.length) (x++[.dic kvs])):WE (Js mm) ls hd QE:=WP.bind (h.mono λ_ _ q=>WP.some q)
def U3{α:Type}{k:Nat}{ix:List Nat}{a0:α}{me:MM α}{Q:α->Hd->Prop}(h:WI mi ls hd λp x=>WP (mGo n ta me p.2 p.1 (E5 k ix ls) x a0) Q):WP (HE k ix mi n ta a0 me ls hd) Q:=WP.bind (h.mono λ_ _ q=>q)
theorem MR{α:Type}{me:MM α}{g:Gd}{Q:α->Hd->Prop}(P:List D->α->Ls->Hd->Prop):∀{ds:List D} {a:α} {ls:Ls} {hd:Hd},P ds a ls hd ->
 (∀d r a ls hd,P (d::r) a ls hd->∃ls1,n d ls hd=some ls1/\WT ta ls1 hd λc x=>if c=true then WP (me ls1 x a) λa' y=>GOk y g/\P r a' ls1 y else GOk x g/\P r a ls1 x) ->
 (∀a ls hd,P [] a ls hd->Q a hd)->WP (mGo n ta me g ds ls hd a) Q
 |[],a,ls,hd,h,k,z=>⟨_,_,by unfold mGo;rfl,z _ _ _ h⟩
 |d::r,a,ls,hd,h,k,z=>by
  obtain⟨ls1,e1,c,x,e2,q⟩:=k d r a ls hd h;unfold mGo;rw[e1,bind_some,e2,bind_some];cases c with
  |true=>
   rw[ia rfl]at q ⊢;obtain⟨a',y,e3,g3,p3⟩:=q;rw[e3,bind_some];dsimp only;rw[ia g3];exact MR P p3 k z
  |false=>
   rw[ie Bool.false_ne_true]at q ⊢;dsimp only;rw[ia q.1];exact MR P q.2 k z
def Zm{a:List (Key×D)}{Q:List (Key×D)->Hd->Prop}(h:WE mk ls hd λd x=>WE mv ls x λe y=>∃k,Cd d=some k/\Ck a.length/\Q (Dq a k e) y):WP (Hw mk mv ls hd a) Q:=by
 obtain⟨d,x,e1,e,y,e2,k,e3,c,q⟩:=h;exact⟨_,_,by simp only[Hw,e1,bind_some,e2,e3,c,iy],q⟩
def B4{α:Type}{g:Gd}{QA:List D->Hd->Prop}(inj:α->D)(f:α->Option D)(L:D->Ls->Prop)(l0:Ls){xs:List α}{hd:Hd}(hg:GOk hd g)
 (k:∀x∈xs,∀ls,ls=l0∨(∃d,L d ls)->∃ls1,n (inj x) ls hd=some ls1/\L (inj x) ls1/\WT ta ls1 hd λc y=>y=hd/\if c=true then ∃z,f x=some z/\WE ma ls1 hd λe y=>y=hd/\e=z else f x=none)
 (q:QA (xs.filterMap f) hd):WP (C5 n ta ma g (xs.map inj) l0 hd) QA:=by
 have go:∀(xs':List α) (ls:Ls),(∀x∈xs',x∈xs)->(ls=l0∨∃d,L d ls)->C5 n ta ma g (xs'.map inj) ls hd=some (xs'.filterMap f,hd):=by
  intro xs'
  induction xs' with
  |nil=>intro ls _ _;unfold C5;rfl
  |cons x r ih=>
   intro ls hs hl;obtain⟨ls1,e1,L1,c,y,e2,rfl,q⟩:=k x (hs x ir) ls hl;have ih:=ih ls1 (λz hz=>hs z (il _ hz)) (.inr ⟨_,L1⟩);rw[iq];unfold C5;rw[e1,bind_some,e2,bind_some];cases c with
   |true=>
    rw[ia rfl]at q;obtain⟨z,ez,e,y,e3,rfl,rfl⟩:=q;rw[ia rfl,e3,bind_some];dsimp only;rw[ia hg,ih,jA,ez];rfl
   |false=>
    rw[ie Bool.false_ne_true]at q;rw[ie Bool.false_ne_true];dsimp only;rw[ia hg,ih,jA,q]
 exact⟨_,_,go xs l0 (λ_ h=>h) (.inl rfl),q⟩
end
section
variable{K:Frag}
noncomputable def Kk(neg:Bool)(ma:ME)(ml:MA):ME:=λls hd=>(ma ls hd).bind λp=>(ml ls p.2).bind λq=>match p.1 with
 |.im i=>(EX i).bind λx=>(Bo q.1).map λxs=>(.im (.bl (if neg then !inV x xs else inV x xs)),q.2)
 |_=>none
def aZ{neg:Bool}(ha:RE K ta ma)(hb:RN K tb ml):RE K (tOp (rIn K neg) ta tb) (Kk neg ma ml):=by
 and_intros;obtain⟨⟨d1,h1⟩,e1,hm⟩:=iS hm;obtain⟨⟨d2,h2⟩,e2,hm⟩:=iS hm;dsimp only at hm;split at hm
 .obtain⟨x,e3,hm⟩:=iS hm;obtain⟨xs,e4,e5⟩:=iT hm;cases e5;refine ha ρ σ H hd ls _ _ h1 hR hL e1 λρ1 H1 v1 x1 R1 r1=>?_;refine hb ρ1 σ H1 h1 ls _ d2 _ R1 (hL.ext hR x1) e2 λρ2 H2 a ys x2 R2 na oa ea r2=>?_;have r1:=r1.ext R1 x2;simp only[RD]at r1;obtain⟨rfl,f1⟩:=JE e3 r1;obtain⟨rfl,f2⟩:=HL e4 r2;exact⟨a,ys,rfl,.inl (SqL.of ea),f1,f2,hQ ρ2 H2 _ 106 R2 (by simp[RD,RI])⟩
 .cases hm
def Y6(K:Frag){neg:Bool}(ho:OpR X (compareOp op) (rIn K neg))(ha:QE K X a ta ma)(hb:QN K X b tb ml)(hm:behindInMarks op b=false:=by first|exact HA _|rfl):QT K X (.Compare a [op] [b] pos) (FG (tOp (rIn K neg) ta tb)) (AC (Kk neg ma ml)):=⟨Ho ho ha.p hb.p hm,DN (aZ ha.r hb.r)⟩
open Classical in
noncomputable def JA(ml:MA)(mb:ME):MA:=λls hd=>(ml ls hd).bind λp=>(mb ls p.2).bind λq=>match q.1 with
 |.im (.int k)=>if(0<=k/\k<=1000)/\Bg (p.1.length*k.toNat)then some ((108 k.toNat p.1).flatten,q.2)else none
 |_=>none
theorem RDs.rep(r:RDs K ρ H ds xs):∀n,RDs K ρ H (108 n ds).flatten (108 n xs).flatten
 |0=>by simp[RDs]
 |n+1=>by
  simp only[jN,flatten_cons];exact r.app (r.rep n)
def aF(ha:RN K ta ml)(hb:RE K tb mb):RN K (tOp Ur ta tb) (JA ml mb):=by
 and_intros;obtain⟨⟨d1,h1⟩,e1,hm⟩:=iS hm;obtain⟨⟨d2,h2⟩,e2,hm⟩:=iS hm;dsimp only at hm;split at hm
 .next k=>
  split at hm
  .next c=>
   cases hm;refine ha ρ σ H hd ls _ d1 h1 hR hL e1 λρ1 H1 a xs x1 R1 na oa ea r1=>?_;refine hb ρ1 σ H1 h1 ls _ _ _ R1 (hL.ext hR x1) e2 λρ2 H2 v2 x2 R2 r2=>?_;simp only[RD,RI]at r2;subst r2;have ea2:=x2.keep a _ ea oa nt;refine⟨a,k,xs,rfl,rfl,ea2,by omega,by omega,by rw[r1.len];exact c.2,λp hp=>?_⟩;obtain⟨R3,x3⟩:=R2.hid (ho:=.lst (108 k.toNat xs).flatten) hp;have x12:=x1.trans R1 x2;exact hQ ρ2 _ p _ (x12.trans R2 x3) R3 (x12.none hR hp R2) (R2.out hp) AF (((r1.ext R1 x2).rep k.toNat).ext R2 x3)
  .cases hm
 .cases hm
def bA(K:Frag)(ha:QN K X a ta ml)(hb:QE K X b tb mb):QN K X (.BinOp a .Mult b pos) (tOp Ur ta tb) (JA ml mb):=⟨QV cJ ha.p hb.p,aF ha.r hb.r⟩
end
section
variable{mb:ME}{QE:D->Hd->Prop}{QA:List D->Hd->Prop}
def Zn{neg:Bool}(h:WE ma ls hd λd x=>WA ml ls x λds y=>∃i v vs,d=.im i/\EX i=some v/\Bo ds=some vs/\QE (.im (.bl (if neg then !inV v vs else inV v vs))) y):WE (Kk neg ma ml) ls hd QE:=by
 obtain⟨d,x,e1,ds,y,e2,i,v,vs,rfl,e3,e4,q⟩:=h;exact⟨_,_,by simp only[Kk,e1,bind_some,e2,e3,e4,j4],q⟩
end
noncomputable abbrev blD(bs:List Bool):List D:=bs.map λb=>D.im (.bl b)
inductive Ty where
 |int|bool|str|tuple|list
 deriving DecidableEq
noncomputable def Ty.nm:Ty->String
 |.int=>"int" | .bool=>"bool" | .str=>"str" | .tuple=>"tuple" | .list=>"list"
def IsT(K:Frag)(T:Ty)(H:Hp)(v:V)(b:Bool):Prop:=
 (v=.non/\b=false)∨(∃x,v=.bl x/\b=decide (T=.int∨T=.bool))∨(∃i,v=.int i/\b=decide (T=.int))∨(∃x,v=.str x/\b=decide (T=.str)) ∨
 (∃a xs,v=.ref a/\SqL K H a xs/\b=decide (T=.list))∨∃a xs,v=.ref a/\SqT K H a xs/\b=decide (T=.tuple)
section
variable{E:Value->Shared->Prop}{Q:Value->Shared->Prop}
def cw{T:Ty}{b:Bool}(I:Inv X pins σ H s)(r:RelV v u)(h:IsT X.K T H v b)(q:∀tk,Q (.bool b) { s with toks:=tk }):wpAny 54 A (call (.builtin "isinstance") [u,.type T.nm]) Q E s:=by
 have q0:=q s.toks;have q1:=q (s.toks+1);rcases h with⟨rfl,rfl⟩|⟨x,rfl,rfl⟩|⟨i,rfl,rfl⟩|⟨x,rfl,rfl⟩|⟨a,xs,rfl,hl,rfl⟩|⟨a,xs,rfl,ht,rfl⟩
 .cases(show u=Value.none from r);cases T
  .exact IsiPair.NoneType_int q1
  .exact IsiPair.NoneType_bool q1
  .exact IsiPair.NoneType_str q1
  .exact IsiPair.NoneType_tuple q1
  .exact IsiPair.NoneType_list q1
 .cases(show u=Value.bool x from r);cases T
  .first|exact IsiPair.bool_int q0|exact IsiPair.bool_int q1
  .first|exact IsiPair.bool_bool q0|exact IsiPair.bool_bool q1
  .exact IsiPair.bool_str q1
  .exact IsiPair.bool_tuple q1
  .exact IsiPair.bool_list q1
 .obtain⟨t,rfl⟩:=(show ∃t,u=Value.int i t from r)
  cases T
  .exact IsiPair.int_int q0
  .exact IsiPair.int_bool q1
  .exact IsiPair.int_str q1
  .exact IsiPair.int_tuple q1
  .exact IsiPair.int_list q1
 .obtain⟨t,rfl⟩:=(show ∃t,u=Value.str x t from r)
  cases T
  .exact IsiPair.str_int q1
  .exact IsiPair.str_bool q1
  .exact IsiPair.str_str q0
  .exact IsiPair.str_tuple q1
  .exact IsiPair.str_list q1
 .cases(show u=Value.ref a from r);obtain⟨its,_,⟨o,n,e,c,_,_⟩,_⟩:=I.list hl;cases T
  .exact IsiPair.list_int e c q1
  .exact IsiPair.list_bool e c q1
  .exact IsiPair.list_str e c q1
  .exact IsiPair.list_tuple e c q1
  .exact IsiPair.list_list e c q0
 .cases(show u=Value.ref a from r);obtain⟨its,_,⟨o,e,c,_⟩,_⟩:=I.tuple ht;cases T
  .exact IsiPair.tuple_int e c q1
  .exact IsiPair.tuple_bool e c q1
  .exact IsiPair.tuple_str e c q1
  .exact IsiPair.tuple_tuple e c q0
  .exact IsiPair.tuple_list e c q1
end
noncomputable def UJ(K:Frag)(T:Ty)(te:TE):TE:=λσ H Q=>te σ H λv H1=>∃b,IsT K T H1 v b/\Q (.bl b) H1
def cC(K:Frag){X:Cx}(T:Ty)(hm:X.mg "isinstance"=none)(hmT:X.mg x=none)(hvT:bootBuiltins x=some (.type T.nm))(he:PE X e te)
 (hv:bootBuiltins "isinstance"=some (.builtin "isinstance")) (hK:X.K=K) (hg:Gl X "isinstance") (hgT:Gl X x) (hnT:x≠"__name__") (hdT:(x==("__debug__":Str))=false)
 (hs:starEach [e,.Name x px] X.env=[109,(false,eval (.Name x px) X.env)]) (hs2:starEach [.Name x px] X.env=[(false,eval (.Name x px) X.env)]):PE X (.Call (.Name "isinstance" p) [e,.Name x px] [] pos) (UJ K T te):=by
 subst hK;intro pins s σ H Q I h;refine jr (F4 I hg hm hv ?_);have go:wpAny 54 X.A (spliced (backTo pos (starEach [e,.Name x px] X.env))) (λvs s₁=>wpAny 54 X.A (call (.builtin "isinstance") vs) (EP X pins σ Q) X.xe s₁) X.xe s:=by
  rw[hs];show wpAny _ _ (spliced (109::backTo pos [(false,eval (.Name x px) X.env)])) _ _ s;refine Calls.spliced_cons (thn (he pins s σ H _ I h) λu s1 ⟨v,H1,I1,r1,b,ib,q1⟩=>?_);show wpAny _ _ (spliced ((false,eval (.Name x px) X.env)::backTo pos [])) _ _ s1;refine Calls.spliced_cons (F4 I1 hgT hmT hvT ?_ hnT hdT);refine Calls.spliced_nil ?_;exact cw I1 r1 ib λtk=>⟨.bl b,H1,I1.tok _,rfl,q1⟩
 exact PyProof.Rows.callWith_builtin1 go (by rw[hs,hs2]) (by rw[hs2];rfl)
section
variable{K:Frag}
noncomputable def isD(T:Ty)(hd:Hd):D->Option Bool
 |.im .non=>some false
 |.im (.bl _)=>some (decide (T=.int∨T=.bool))
 |.im (.int _)=>some (decide (T=.int))
 |.im (.str _)=>some (decide (T=.str))
 |.im (.tup _)=>some (decide (T=.tuple))
 |.tm _=>some (decide (T=.tuple))
 |.ro _=>some (decide (T=.list))
 |.op _ _ _=>none
 |.fv _ _=>none
 |.mu n=>match hd[n]? with
  |some (.lst _)=>some (decide (T=.list))
  |_=>none
def cy{T:Ty}{b:Bool}(hR:RH K ρ H hd)(h:RD K ρ H d v)(e:isD T hd d=some b):IsT K T H v b:=by
 cases d with
 |im i=>
  cases i with
  |non=>simp only[RD,RI]at h;subst h;simp only[isD,Option.some.injEq]at e;exact .inl ⟨rfl,e.symm⟩
  |bl c=>simp only[RD,RI]at h;subst h;simp only[isD,Option.some.injEq]at e;exact .inr (.inl ⟨c,rfl,e.symm⟩)
  |int c=>simp only[RD,RI]at h;subst h;simp only[isD,Option.some.injEq]at e;exact .inr (.inr (.inl ⟨c,rfl,e.symm⟩))
  |str c=>simp only[RD,RI]at h;subst h;simp only[isD,Option.some.injEq]at e;exact .inr (.inr (.inr (.inl ⟨c,rfl,e.symm⟩)))
  |tup is=>
   obtain⟨a,xs,rfl,q,r⟩:=h.tup (ds:=is.map .im) rfl;simp only[isD,Option.some.injEq]at e;exact .inr (.inr (.inr (.inr (.inr ⟨a,xs,rfl,q,e.symm⟩))))
 |tm ds=>
  obtain⟨a,xs,rfl,q,r⟩:=h.tup (ds:=ds) rfl;simp only[isD,Option.some.injEq]at e;exact .inr (.inr (.inr (.inr (.inr ⟨a,xs,rfl,q,e.symm⟩))))
 |ro ns=>
  obtain⟨a,xs,rfl,q,r⟩:=h.lst hR (hd:=hd) (ds:=ns.map λn=>.im (.int n)) rfl;simp only[isD,Option.some.injEq]at e;exact .inr (.inr (.inr (.inr (.inl ⟨a,xs,rfl,q,e.symm⟩))))
 |op _ _ _=>simp[isD]at e
 |fv _ _=>simp[isD]at e
 |mu n=>
  simp only[isD]at e;split at e
  .next q=>
   cases e;simp only[RD]at h;obtain⟨a,hn,rfl⟩:=h;obtain⟨xs,e1,e2⟩:=hR.lst hn q;exact .inr (.inr (.inr (.inr (.inl ⟨a,xs,rfl,SqL.of e1,rfl⟩))))
  .cases e
noncomputable def EN(T:Ty)(ma:ME):ME:=λls hd=>(ma ls hd).bind λp=>(isD T p.2 p.1).map λb=>(.im (.bl b),p.2)
def aV{T:Ty}(h:RE K te me):RE K (UJ K T te) (EN T me):=by
 and_intros;obtain⟨⟨d1,h1⟩,e1,hm⟩:=iS hm;obtain⟨b,e2,e3⟩:=iT hm;cases e3;exact h ρ σ H hd ls _ d1 _ hR hL e1 λρ1 H1 v x1 R1 r1=>⟨b,cy R1 r1 e2,hQ ρ1 H1 _ x1 R1 (by simp[RD,RI])⟩
def KH:∀T:Ty,bootBuiltins T.nm=some (.type T.nm)
 |.int=>by decide +kernel
 |.bool=>by decide +kernel
 |.str=>by decide +kernel
 |.tuple=>by decide +kernel
 |.list=>by decide +kernel
def NI(K:Frag){X:Cx}(T:Ty){p px pos:Pos}(hm:X.mg "isinstance"=none)(hmT:X.mg x=none)(he:QE K X e te me)(hx:bootBuiltins x=some (.type T.nm):=by first|exact KH .int|exact KH .bool|exact KH .str|exact KH .tuple|exact KH .list)(hK:X.K=K:=by rfl)(hg:Gl X "isinstance":=by rfl)(hgT:Gl X x:=by rfl)
 (hnT:x≠"__name__":=by decide) (hdT:(x==("__debug__":Str))=false:=by decide)
 (hs:starEach [e,.Name x px] X.env=[109,(false,eval (.Name x px) X.env)]:=by rfl) (hs2:starEach [.Name x px] X.env=[(false,eval (.Name x px) X.env)]:=by rfl):QE K X (.Call (.Name "isinstance" p) [e,.Name x px] [] pos) (UJ K T te) (EN T me):=
 ⟨cC K T hm hmT hx he.p M1 hK hg hgT hnT hdT hs hs2,aV he.r⟩
noncomputable def GR(mo mi me:ME)(f:Int->Int->Int):MS:=λls hd=>(mo ls hd).bind λp=>(mi ls p.2).bind λq=>match p.1,q.1 with
 |.mu n,.im (.int i)=>match q.2[n]? with
  |some (.lst ds)=>(ixN 104 i).bind λj=>match ds[j]? with
   |some (.im (.int x))=>(me ls q.2).bind λr=>match r.1,r.2[n]? with
    |.im (.int y),some (.lst ds')=>if ds'.length=104 then some (.nx ls,r.2.set n (.lst (ds'.set j (.im (.int (f x y))))))else none
    |_,_=>none
   |_=>none
  |_=>none
 |_,_=>none
def Sg(K:Frag){X:Cx}(hK:X.K=K:=by rfl):dY X (Iw K):=by
 subst hK;intro pins s σ H o i ov iv Q I ro ri h;obtain⟨p,xs,k,z,rfl,rfl,hq,he,q⟩:=h;cases ro;obtain⟨t,rfl⟩:=ri;obtain⟨its,r,pl,hz⟩:=I.list hq;obtain⟨j,h1,h2,h3,h4,h5⟩:=L9 he;obtain⟨w,ew,rw'⟩:=r.get h2;have hl:=r.length;have hn:=F1;have fin:EP X pins σ Q w s:=⟨z,H,I,rw',q⟩
 by_cases h0:0<=k
 .have hj:k.toNat=j:=by
   rw[seqIndex_of h0 h5]at h1;exact 111 h1
  exact wpAny_getItem_list pl.isList h0 50 (by rw[hj];simpa using ew) fin
 .have hj:(k+(its.toArray.size:Int)).toNat=j:=by
   rw[seqIndex_neg 50 h4]at h1;rw[ip,<- hl];exact 111 h1
  exact wpAny_getItem_list_neg pl.isList 50 (by rw[ip]<;>omega) 50 (by rw[hj];simpa using ew) fin
def ZS(x:Ext ρ H ρ' H'){n:Nat}(h:ρ[n]?=some a):ρ'[n]?=some a:=by
 obtain⟨r,rfl,_⟩:=x.pre;rw[List.getElem?_append_left (List.getElem?_eq_some_iff.mp h).1];exact h
def Xa{f:Int->Int->Int}(ho:RE K to mo)(hi:RE K ti mi)(he:RE K te me):RS K (Pu to ti te (Iw K) (ipI f) Jl) (GR mo mi me f):=by
 intro ρ σ H hd0 ls E fl hd' hR hL hm hQ;obtain⟨⟨d1,h1⟩,e1,hm⟩:=iS hm;obtain⟨⟨d2,h2⟩,e2,hm⟩:=iS hm;dsimp only at hm;split at hm
 .split at hm
  .next ds q=>
   obtain⟨j,e4,hm⟩:=iS hm;split at hm
   .next x ex=>
    obtain⟨⟨d3,h3⟩,e3,hm⟩:=iS hm;dsimp only at hm;split at hm
    .next y ds' q'=>
     split at hm
     .next el=>
      cases hm;refine ho ρ σ H hd0 ls _ _ h1 hR hL e1 λρ1 H1 v1 x1 R1 r1=>?_;refine hi ρ1 σ H1 h1 ls _ _ _ R1 (hL.ext hR x1) e2 λρ2 H2 v2 x2 R2 r2=>?_;have r1':=r1.ext R1 x2;simp only[RD]at r1';obtain⟨a,hn,rfl⟩:=r1';simp only[RD,RI]at r2;subst r2;obtain⟨xs,l1,l2⟩:=R2.lst hn q;obtain⟨w,ew,rw'⟩:=l2.get ex;simp only[RD,RI]at rw';subst rw';refine⟨a,xs,_,.int x,rfl,rfl,SqL.of l1,?_,?_⟩
      .unfold atI;rw[l2.len];rw[e4];exact ew
      refine he ρ2 σ H2 h2 ls _ _ h3 R2 (hL.ext hR 106) e3 λρ3 H3 v3 x3 R3 r3=>?_;simp only[RD,RI]at r3;subst r3;refine⟨x,y,rfl,rfl,?_⟩;have hn3:=ZS x3 hn;obtain⟨xs3,l3,l4⟩:=R3.lst hn3 q';obtain⟨R4,x4⟩:=R3.put hn3 (o:=.lst _) (ho:=.lst (xs3.set j (.int (f x y)))) ⟨_,rfl,l4.set j (d:=.im (.int (f x y))) (by simp[RD,RI])⟩;have x13:=(106).trans R2 x3;exact⟨a,xs3,_,j,rfl,rfl,l3,by rw[l4.len,el];exact e4,hQ ρ3 _ (x13.trans R3 x4) R4 σ ((hL.ext hR x13).ext R3 x4)⟩
     .cases hm
    .cases hm
   .cases hm
  .cases hm
 .cases hm
def YE(K:Frag){f:Int->Int->Int}{tpos pos:Pos}(ho:QE K X o to mo)(hi:QE K X i ti mi)(he:QE K X e te me)(hp:PIp X op (ipI f))(hK:X.K=K:=by rfl)
 (ha:∀ov iv new,augStore i ov iv new=(do holding [new,ov,iv] (setItem ov iv new);release [new,ov,iv] [];pure .next):=by intros;rfl):QS K X (.AugAssign (.Subscript o i tpos) op e pos) (Pu to ti te (Iw K) (ipI f) Jl) (GR mo mi me f):=
 ⟨Ye ho.p hi.p (Sg K hK) he.p hp Ms ha,Xa ho.r hi.r he.r⟩
end
section
variable{mo mi me:ME}{QE:D->Hd->Prop}{QS:Fl->Hd->Prop}
def JW{T:Ty}(h:WE ma ls hd λd x=>∃b,isD T x d=some b/\QE (.im (.bl b)) x):WE (EN T ma) ls hd QE:=by
 obtain⟨d,x,e,b,e2,q⟩:=h;exact⟨_,_,by simp only[EN,e,bind_some,e2,j4],q⟩
end
def Op:V->List V->Hp->VK->Prop:=λx vs H Q=>∃(l:Addr) (xs:List V) (i:Int) (k:Nat) (y:V),x=.ref l/\vs=[.int i,y]/\i=(k:Int)/\H l=some (.lst xs)/\k<=105/\105<sizeLine/\Q .non (upd H l (.lst (xs.take k++y::xs.drop k)))
def Sv:MtM X "list.insert" Op:=by
 intro pins s σ H x vs v us Q I rx rv h;obtain⟨l,xs,i,k,y,rfl,rfl,hi,hH,hk,hz,q⟩:=h;cases rx;obtain⟨u,w,rfl,ru,rw'⟩:=M2 rv;obtain⟨t,rfl⟩:=ru;obtain⟨z,its,n,r,hl,e⟩:=I.lstM hH;have h1:its.toArray.size<=sizeLine:=by rw[ip,<- hl];exact z
 have hkl:k<=its.length:=by rw[<- hl];exact hk
 have hf:¬ (!Builtin.List.listFitsIndex i)=true:=by
  have h3:=F1;have h4:=Nat.lt_of_le_of_lt hk hz;rw[fitsIndex_both (k:=i) 50 50];decide
 have M:=AutoSeq1.list_insert_list_int_val_1 l its.toArray n i t w hf;have M:=M h1;refine jQ F.slot_list_insert ⟨_,e,rfl⟩ F.entry_list_insert (F.args_list_insert_3 _ _ _) M ⟨e,?_⟩
 .refine⟨.non,_,I.lset (its':=its.take k++w::its.drop k) hH e ?_ ((r.take k).append (.cons rw' (r.drop k))) ?_,rfl,q⟩
  .show((its.toArray.extract 0 (if i<0 then(i+(its.toArray.size:Int)).toNat else min i.toNat its.toArray.size)).push w++its.toArray.extract (if i<0 then(i+(its.toArray.size:Int)).toNat else min i.toNat its.toArray.size))=_;have e1:(if i<0 then(i+(its.toArray.size:Int)).toNat else min i.toNat its.toArray.size)=k:=by
    rw[ie 50,hi,ju,ip];omega
   rw[e1];apply Array.ext';simp[List.extract_eq_drop_take]
   try exact jO 55
  .rw[jb,ji,j8,length_drop];have:=Nat.succ_le_of_lt hz;rw[Nat.min_eq_left hk];omega
open Classical in
noncomputable def Ed:D->List D->Hd->Option (D×Hd)
 |.mu n,[.im (.int i),y],hd=>match hd[n]? with
  |some (.lst ds)=>if 0<=i/\i<=104/\Ck 104 then some (.im .non,hd.set n (.lst (ds.take i.toNat++y::ds.drop i.toNat)))else none
  |_=>none
 |_,_,_=>none
section
variable{K:Frag}{ρ':List Addr}{H':Hp}
theorem RDs.takeD:∀{ds:List D} {xs:List V} (k:Nat),RDs K ρ H ds xs->RDs K ρ H (ds.take k) (xs.take k)
 |[],xs,k,h=>by simp only[RDs]at h;subst h;simp[RDs]
 |d::ds,xs,0,h=>by simp[RDs]
 |d::ds,xs,k+1,h=>by
  simp only[RDs]at h;obtain⟨x,r,rfl,h1,h2⟩:=h;simp only[List.take_succ_cons,RDs];exact⟨x,_,rfl,h1,RDs.takeD k h2⟩
theorem RDs.dropD:∀{ds:List D} {xs:List V} (k:Nat),RDs K ρ H ds xs->RDs K ρ H (ds.drop k) (xs.drop k)
 |[],xs,k,h=>by simp only[RDs]at h;subst h;simp[RDs]
 |d::ds,xs,0,h=>by simpa using h
 |d::ds,xs,k+1,h=>by
  simp only[RDs]at h;obtain⟨x,r,rfl,h1,h2⟩:=h;simp only[List.drop_succ_cons];exact RDs.dropD k h2
def SH:RM K Op Ed:=by
 intro ρ H hd d v ds vs Q z hd' hR h1 h2 hf hQ;unfold Ed at hf;split at hf
 .next n i y=>
  split at hf
  .next es q=>
   split at hf
   .next c=>
    cases hf;simp only[RD]at h1;obtain⟨a,hn,rfl⟩:=h1;simp only[RDs,RD,RI]at h2;obtain⟨x,r,rfl,rfl,y',r',rfl,hy,rfl⟩:=h2;obtain⟨xs,f1,f2⟩:=hR.lst hn q;have l:=f2.len;obtain⟨R2,x2⟩:=hR.put hn (o:=.lst (es.take i.toNat++y::es.drop i.toNat)) (ho:=.lst (xs.take i.toNat++y'::xs.drop i.toNat)) ⟨_,rfl,(RDs.takeD _ f2).app (.cons hy (RDs.dropD _ f2))⟩;exact⟨a,xs,i,i.toNat,y',rfl,rfl,by omega,f1,by omega,by rw[l];exact c.2.2,hQ ρ _ _ x2 R2 (by simp[RD,RI])⟩
   .cases hf
  .cases hf
 .cases hf
end
def Rj{k:Nat}{i:Int}{QE:D->Hd->Prop}(e1:hd[k]?=some (.lst ds))(c1:0<=i)(c2:i<=104)(c3:Ck 104)(q:QE (.im .non) (hd.set k (.lst (ds.take i.toNat++y::ds.drop i.toNat)))):WP (Ed (.mu k) [.im (.int i),y] hd) QE:=by
 refine⟨_,_,?_,q⟩;simp only[Ed,e1,c1,c2,c3,and_self,iy]
section
variable{X:Cx}
def Za{E:Value->Shared->Prop}{s:Shared}{vs ws:List Value}{Q:Value->Shared->Prop}(ht:IsTup s.heap t vs.toArray)(hb:IsTup s.heap b ws.toArray)(hv:vs=[])
 (h1:Q (.ref b) s):wpAny 103 A (binaryOp .Add (.ref t) (.ref b)) Q E s:=by
 obtain⟨⟨cls,dd,data,sl⟩,ho,hc,n,hd⟩:=id ht;obtain⟨⟨cls2,dd2,data2,sl2⟩,ho2,hc2,n2,hd2⟩:=id hb;simp only at hc hd hc2 hd2;subst hc hd hc2 hd2;exact concat_meets ⟨_,ho,rfl⟩ ⟨_,ho2,rfl⟩ noFill_tuple_add seq_tuple_add PySem.F.slot_tuple_add PySem.F.entry_tuple_add (PySem.F.args_tuple_add_2 _ _)
  (tuple_addW0 t b vs.toArray ws.toArray n n2 dd dd2 sl sl2 (by simp[hv])) ⟨ho,ho2,h1⟩
noncomputable def Wi(K:Frag):R2:=λx y H Q=>∃a b ys,x=.ref a/\y=.ref b/\SqT K H a []/\SqT K H b ys/\Q (.ref b) H
def Yy(K:Frag)(hK:X.K=K:=by rfl):OpR X (binaryOp .Add) (Wi K):=by
 subst hK;intro pins s σ H x y v u Q I rx ry h;obtain⟨a,b,ys,rfl,rfl,ha,hb,q⟩:=h;cases rx;cases ry;obtain⟨its,r1,p1,_⟩:=I.tuple ha;obtain⟨its2,r2,p2,_⟩:=I.tuple hb;have:its=[]:=by cases r1;rfl
 exact Za p1 p2 this ⟨.ref b,H,I,rfl,q⟩
noncomputable def IF:D->D->Hd->Option (D×Hd):=λd e hd=>(AS d).bind λa=>(AS e).bind λb=>if a=[]then some (Ap b,hd)else none
def Xz{K:Frag}:RB K (Wi K) IF:=by
 intro ρ H hd d e v u Q z hd' hR h1 h2 hf hQ;unfold IF at hf;obtain⟨a,e1,hf⟩:=iS hf;obtain⟨b,e2,hf⟩:=iS hf;split at hf
 .next c=>
  cases hf;subst c;obtain⟨p,xs,rfl,q1,r1⟩:=h1.tup e1;obtain⟨p2,ys,rfl,q2,r2⟩:=h2.tup e2;have:xs=[]:=by simpa [RDs]using r1
  subst this;exact⟨p,p2,ys,rfl,rfl,q1,q2,hQ ρ H _ .refl hR (CG q2 r2)⟩
 .cases hf
end
end L2
namespace L2
noncomputable abbrev IG:=GY AT IF
end L2
namespace L2
open PySem PySem.Spec PyProof.Rows PySem.W
section
def Inv.adopt(I:Inv X pins σ H s)(f:FpOk X pins H a)(h0:X.s₀.heap.objs.size<=a)(new:ObjOk X.prog X.w (upd H a o) s.heap a o):Inv X pins σ (upd H a o) s:=by
 obtain⟨hn,hL,hfs,_,hc,hp⟩:=f;have nb:∀b u,H b=some u->b≠a:=λb u e=>AJ e hn;have n0:∀b o,X.s₀.heap.get? b=some o->b≠a:=λb o e=>iu (iZ (58 e) h0);refine⟨I.ok,I.os,I.bare,⟨I.base.keep,I.base.slot,λb o e n hx=>?_,I.base.there,λb xs e=>?_,λb o u e=>?_,λb ps e=>?_⟩,I.loc,I.cell,?_,λx c e=>?_,λp hp'=>?_,λb u e=>?_,I.len⟩
 .rw[upd_ne (n0 b o e)];exact I.base.free b o e n hx
 .have:=I.base.tups b xs e;rw[upd_ne (nb b _ this)];exact this
 .have:=I.base.frzs b o u e;rw[upd_ne (nb b _ this)];exact this
 .obtain⟨m,e1⟩:=I.base.tbls b ps e;exact⟨m,by rw[upd_ne (nb b _ e1)];exact e1⟩
 .rw[upd_ne (λz=>hL z.symm)];exact I.free
 .rw[upd_ne (hc x c e)];exact I.freeC x c e
 .obtain⟨q1,q2,q3⟩:=I.pin p hp';exact⟨q1,by rw[upd_ne (hp p hp')];exact q2,q3⟩
 .by_cases z:b=a
  .subst z;rw[AF]at e;cases e;exact new
  .rw[upd_ne z]at e;exact(I.hok b u e).stay (λ_ _ _ q=>q) (λd q=>by rw[upd_ne (nb d _ q)];exact q) λd xs q=>by rw[upd_ne (nb d _ q)];exact q
end
section
def FpOk.more(f:FpOk X pins H b)(h:c≠b):FpOk X ((c,o)::pins) H b:=by
 obtain⟨a1,a2,a3,a4,a5,a6⟩:=f;refine⟨a1,a2,a3,a4,a5,λp hp=>?_⟩;rcases mem_append.mp hp with q|q
 .exact a6 p (jh _ q)
 .rcases mem_cons.mp q with rfl|q
  .exact h
  .exact a6 p (iY _ q)
def Inv.repin(I:Inv X pins σ H s)(f:FpOk X pins H b)(e:s.heap.get? b=some o)(hd:∀v,o.data≠.cell v):Inv X ((b,o)::pins) σ H s:=
 I.pins_of λp hp=>by
  rcases mem_cons.mp hp with rfl|hp
  .exact⟨e,f.1,f.2.1,f.2.2.1,hd⟩
  .exact I.pin p (iY _ hp)
end
def MJ(K:Frag)(P:Addr)(q:Str)(pos:Pos):Prop:=∃p':Pos,(P,q,p')∈CZ K/\((CZ K).map (·.1)).Nodup/\p'.line=pos.line/\p'.col=pos.col
section
variable{K:Frag}
def Mb(R:RH K ρ H hd)(hP:H P=some (.tbl ps))(t:TabStep P q pos H H2)(TI:MJ K P q pos):RH K ρ H2 hd/\Ext ρ H ρ H2:=by
 rcases t with rfl|⟨c,hc,ncP,rfl⟩
 .exact⟨R,.refl⟩
 .obtain⟨p',et,nd,e1,e2⟩:=TI;have nP:∀b,b∈ρ->b≠P:=λb hb z=>by
   subst z;rcases R.mut hb with⟨y,w⟩|⟨y,w⟩<;>(rw[hP]at w;cases w)
  have nc:∀b u,H b=some u->b≠c:=λb u e=>AJ e hc;have ex:Ext ρ H ρ (upd (upd H P (.tbl #[rawInt pos.line,rawInt pos.col,.ref c])) c (.ext (cdF c q))):=by
   refine⟨⟨[],by simp,by simp⟩,λb o e nb nt'=>?_,λb ps e=>?_⟩
   .rw[upd_ne (nc b _ e),upd_ne (λz=>by subst z;rw[hP]at e;cases e;exact nt' _ rfl)];exact e
   .by_cases z:b=P
    .subst z;exact⟨_,by rw[upd_ne (nc _ _ hP),AF]⟩
    .exact⟨ps,by rw[upd_ne (nc b _ e),upd_ne z];exact e⟩
  refine⟨⟨R.len,R.nd,λx hx=>?_,λn o a h1 h2=>?_⟩,ex⟩
  .by_cases hxP:x.1=P
   .have ex:x=(P,q,p'):=by
     obtain⟨i,hi⟩:=mem_iff_getElem?.mp hx;obtain⟨j,hj⟩:=mem_iff_getElem?.mp et;have i1:((CZ K).map (·.1))[i]?=some P:=by rw[List.getElem?_map,hi];simp[hxP]
     have j1:((CZ K).map (·.1))[j]?=some P:=by rw[List.getElem?_map,hj];rfl
     have:i=j:=(List.getElem?_inj (102 i1).1 nd).mp (i1.trans j1.symm);subst this;exact 111 (hi.symm.trans hj)
    subst ex;refine⟨#[rawInt pos.line,rawInt pos.col,.ref c],by rw[upd_ne (nc _ _ hP),AF],.inr ⟨c,?_,AF⟩⟩;show #[rawInt pos.line,rawInt pos.col,Value.ref c]=#[rawInt p'.line,rawInt p'.col,Value.ref c];rw[e1,e2]
   .obtain⟨ps',hx1,hG⟩:=R.tabs x hx;refine⟨ps',by rw[upd_ne (nc _ _ hx1),upd_ne hxP];exact hx1,?_⟩;rcases hG with g|⟨c',g1,g2⟩
    .exact .inl g
    .exact .inr ⟨c',g1,by rw[upd_ne (nc _ _ g2),upd_ne (λz=>by subst z;rw[hP]at g2;cases g2)];exact g2⟩
  .obtain⟨ho,q1,q2⟩:=R.ob n o a h1 h2;exact⟨ho,by rw[upd_ne (nc a _ q1),upd_ne (nP a (j6 h2))];exact q1,by simpa using q2.mono (ex.grow R) []⟩
end
structure LamC(K:Frag)(mg:Str->Option Value)(base:Heap)(fd:FuncData)(c P:Addr)(q:Str)(pos:Pos):Prop where
 code:fd.code=.ref c
 hd:CodeHd base c P
 bl:base.BuiltinsAt mg P
 ti:MJ K P q pos
def VT{K:Frag}{mg:Str->Option Value}{st:Stmt}{j:Nat}(DA:DefAt K mg x st f fd ps)(S:FnScope N ps (A8 st))
 (h:∀(cdv:Value) (A:Around) (outer:List Env) (s:Shared) (H:Hp) (E:XK),fd.code=cdv->Room j (A.deeper (envOfC x (A8 st) 49 f cdv))->∃t,QSs K (CS CX0 P w K mg base N x (A8 st) f cdv A outer s H E).nox (Av st) t m):
 FnOk P w K mg base CX0 (j+1) f fd ps (spF K ps.length (mkF ps.length N.length m)):=by
 obtain⟨F,hmg,bd⟩:=DA;obtain⟨⟨oc,od,kV,doc,pm,an,cdv,ct,osl,rfl,lk,hcd⟩,kp⟩:=F;refine Qq lk hcd S (λvs H Q E h=>h.1) λA outer s H vs Q E hr hs=>?_;obtain⟨t,q⟩:=h cdv A outer s H E rfl hr;exact⟨t,q.p.nox,KO q.r hs⟩
end L2
namespace HS
open PySem PyProof.Rows
open PySem.AutoSeq1 (wpAny_loadPart')
open Sem (wp)
abbrev st(t:Tok):List (Str×Value):=[(Str.ofString "start",.int 1 t)]
end HS
namespace L2
open PySem PySem.Spec PyProof.Rows PySem.W
def SqY(y:Bool)(K:Frag):Hp->Addr->List V->Prop:=bif y then SqL K else SqT K
def IsY(y:Bool)(h:Heap)(l:Addr)(a:Array Value):Prop:=bif y then h.IsList l a else h.IsTuple l a
noncomputable def oY(y:Bool)(l:Addr)(j:Nat):Obj:={ cls:=.type (bif y then "list_iterator" else "tuple_iterator"),data:=.fields #[.ref l,.int j 0] }
def ItY(y:Bool)(h:Heap)(a l:Addr)(j:Nat):Prop:=∃o,h.get? a=some o/\o.cls=(oY y l j).cls/\o.data=(oY y l j).data
structure Wy(κ:Type) where
 z:Bool
 y:Bool
 op:κ->κ->Bool
 KR:Frag->Hp->V->κ->Prop
 kp:I->Option κ
 rd:∀{K ρ H v i n},kp i=some n->RD K ρ H (.im i) v->KR K H v n
 cmp:∀{X pins σ H s k n v m u w} {Q:Value->Shared->Prop} {E},X.A.in1.units<cLine->Inv X pins σ H s->KR X.K H k n->KR X.K H v m->RelV k u->RelV v w->Q (.bool (op n m)) s->wpAny 54 X.A.in1 (richCompare (bif z then .Gt else .Lt) u w) Q E s
section
variable{E:Value->Shared->Prop}{s:Shared}{i:Nat}
def fZ(y:Bool){Q:Value->Shared->Prop}(hl:IsY y s.heap l items)(hQ:Q (.ref 49) { s with heap:=s.heap.push (oY y l 0) }):wpAny 103 A (pyIter (.ref l)) Q E s:=by
 cases y
 .exact wpAny_pyIter_tuple hl hQ
 .exact jZ hl hQ
def fY(y:Bool){Q:Option Value->Shared->Prop}(ht:ItY y s.heap it l i)(hl:IsY y s.heap l items)(hx:items[i]?=some x)
 (hQ:∀h',ItY y h' it l (i+1)->Heap.SameBut it s.heap h'->Q (some x) { s with heap:=h' }):wpAny 103 A (pyNext (.ref it)) Q E s:=by
 cases y
 .exact wpAny_pyNext_tuple_item ht hl hx hQ
 .exact wpAny_pyNext_list_item ht hl hx hQ
def df(y:Bool){Q:Option Value->Shared->Prop}(hh:A.handled=none)(ht:ItY y s.heap it l i)(hl:IsY y s.heap l items)(hx:items[i]?=none)
 (hQ:∀h',Heap.ExtBut it s.heap h'->Q none { s with heap:=h' }):wpAny 103 A (pyNext (.ref it)) Q E s:=by
 cases y
 .exact wpAny_pyNext_tuple_end hh ht hl hx hQ
 .exact wpAny_pyNext_list_end hh ht hl hx hQ
end
section
variable{κ:Type}(KR:Hp->V->κ->Prop)(op:κ->κ->Bool)(src:Hp->List V->Prop)(G:Hp->Prop)(tb:TE)(cap:St)
def EK:Nat->Nat->Option (V×V×κ)->Hp->VK->Prop
 |0,j,o,H,Q=>(∃xs,src H xs/\105=j)/\∃p,o=some p/\Q p.1 H
 |m+1,j,o,H,Q=>∃xs x,src H xs/\xs[j]?=some x/\G H/\tb (some x::cap) H λk H1=>∃n:κ,KR H1 k n/\match o with
  |none=>EK m (j+1) (some (x,k,n)) H1 Q
  |some p=>KR H1 p.2.1 p.2.2/\EK m (j+1) (if op n p.2.2=true then some (x,k,n)else o) H1 Q
end
noncomputable def Pt{κ:Type}(W:Wy κ)(K:Frag)(P:Addr)(q:Str)(pos:Pos)(ix:List Nat)(te tb:TE):TE:=λσ H Q=>te σ H λv H1=>∃(a:Addr) (m:Nat) (ps:Array Value),v=.ref a/\H1 P=some (.tbl ps)/\Ge H1 q pos ps /\
 ∀H2 c,TabStep P q pos H1 H2->H2 c=some (.ext (cdF c q))->EK (W.KR K) W.op (λH xs=>SqY W.y K H a xs) (λH=>H c=some (.ext (cdF c q))) tb (ix.map λi=>(σ[i]?).join) m 0 none H2 Q
def Inv.turnE{h':Heap}{t':Nat}(I:Inv X ((b,o)::pins) σ H s)(f:FpOk X pins H b)(hs:∀c u,c≠b->s.heap.get? c=some u->h'.get? c=some u):Inv X pins σ H { s with heap:=h',toks:=t' }:=by
 have J:Inv X pins σ H s:=I.pins_of λp hp=>I.pin p (iY _ (il _ hp));obtain⟨hn,hL,_,h1,h2,h3⟩:=f;exact J.turned (λc u n e=>hs c u n e) hn hL h1 h2 h3
def gM{κ:Type}(o:Option (V×V×κ))(it:Array Value):Prop:=match o with
 |none=>it=#[]
 |some p=>∃vb vk,it=#[vb,vk]/\RelV p.1 vb/\RelV p.2.1 vk
section
variable{κ:Type}{X:Cx}{It:Addr}{src:Hp->List V->Prop}{G:Hp->Prop}{E:Value->Shared->Prop}
set_option maxHeartbeats 1600000 in
def Tr(W:Wy κ)(hu:X.A.in1.units<cLine)(hh:X.A.handled=none)
 (hsrc:∀pins' H' s' xs,Inv X pins' σ H' s'->src H' xs->∃its:List Value,Vals xs its/\IsY W.y s'.heap l its.toArray) (hSI:S≠It) (hI0:∀H',H' It=none->FpOk X pins H' It) (hS0:∀H',H' S=none->FpOk X pins H' S)
 (turn:∀(pins':List (Addr×Obj)) (H1:Hp) (s1:Shared) (x:V) (u:Value) (Q1:VK),(∀p∈pins,p∈pins')->Inv X pins' σ H1 s1->RelV x u->G H1->tb (some x::cap) H1 Q1->wpAny 54 X.A.in1 (call (.ref f) [u]) (EP X pins' σ Q1) (λ_ _=>False) s1):
 ∀(m j:Nat) (o:Option (V×V×κ)) (it:Array Value) (c:Nat) (oI:Obj) (H:Hp) (s:Shared),Inv X ((S,seqObj "list" it c)::(It,oI)::pins) σ H s->ItY W.y s.heap It l j->gM o it ->
   EK (W.KR X.K) W.op src G tb cap m j o H Q->codeAny 54 X.A (.builtin (bif W.z then "max.loop" else "min.loop") ⟨[.ref It,.ref f,.ref S],[]⟩) (λr s'=>match r with|.ok (.ret v)=>EP X pins σ Q v s'|.ok _=>False|.error e=>E e s') s:=by
 obtain⟨z,y,op,KR,kp,rd,cmp⟩:=W;have hname:(toString "max"++toString ".loop":String)="max.loop":=by decide
 have hnam2:(toString "min"++toString ".loop":String)="min.loop":=by decide
 obtain⟨b,hb⟩:∃b,b=z:=⟨z,rfl⟩
 cases z<;>dsimp only[cond]at cmp hsrc ⊢
 all_goals
  intro m
  induction m with
  |zero=>
   intro j o it c oI H s J hit ro hgo;obtain⟨⟨xs,hG,hje⟩,p,rfl,hQ⟩:=hgo;obtain⟨vb,vk,rfl,rb,_⟩:=ro;have nS:=J.pin (S,seqObj "list" #[vb,vk] c) (iY _ ir);have nI:=J.pin (It,oI) (iY _ (il _ ir))
   first|(guard_hyp hb:b=true;refine jX PySem.F.entry_max_loop ?_;rw[Around.under_plainId PySem.F.plain_max_loop _])|(refine jX PySem.F.entry_min_loop ?_;rw[Around.under_plainId PySem.F.plain_min_loop _])
   show wpAny _ X.A.in1 (seqItems? (.ref S) >>= _) _ _ _;refine ic (wpAny_seqItems nS.1 rfl ?_);show wpAny _ X.A.in1 (tryCatch (pyNext (.ref It)) _ >>= _) _ _ _;obtain⟨its,hv,hil⟩:=hsrc _ _ _ _ J hG;have hlen:=hv.length;refine ic (wpAny_tryCatch (df y hh hit hil 112 λh' hk'=>?_));have hS':=hk' S _ hSI nS.1;have s1:=Heap.SameBut.update h' S (Obj.mapSeq λ_=>(#[]:Array Value));show wpAny _ X.A.in1 (updateSeq S (λ_=>#[]) >>= _) _ _ _;refine ic (wpAny_updateSeq hS' rfl (ic (wpAny_letGo (ik ?_))));have J1:Inv X ((It,oI)::pins) σ H s:=J.pins_of λp hp=>J.pin p (iY _ (il _ hp));have J2:Inv X pins σ H { s with heap:=h',toks:=s.toks }:=J1.turnE (hI0 H nI.2.1) λc u n e=>hk' c u n e;exact⟨p.1,H,(J2.repin (hS0 H nS.2.1) hS' (λv z=>by cases z)).turnE (t':=s.toks) (hS0 H nS.2.1) λc u n e=>(s1.2 c n).trans e,rb,hQ⟩
  |succ m ih=>
   intro j o it c oI H s J hit ro hgo;obtain⟨xs,x,hsr,hxj,hG,hgo⟩:=hgo;obtain⟨its,hv,hil⟩:=hsrc _ _ _ _ J hsr;obtain⟨u,hu9,ru⟩:=hv.get hxj;have nS:=J.pin (S,seqObj "list" it c) (iY _ ir);have nI:=J.pin (It,oI) (iY _ (il _ ir))
   first|(guard_hyp hb:b=true;refine jX PySem.F.entry_max_loop ?_;rw[Around.under_plainId PySem.F.plain_max_loop _])|(refine jX PySem.F.entry_min_loop ?_;rw[Around.under_plainId PySem.F.plain_min_loop _])
   show wpAny _ X.A.in1 (seqItems? (.ref S) >>= _) _ _ _;refine ic (wpAny_seqItems nS.1 rfl ?_);show wpAny _ X.A.in1 (tryCatch (pyNext (.ref It)) _ >>= _) _ _ _;refine ic (wpAny_tryCatch (fY y hit hil (x:=u) (by simpa using hu9) λh' hit' hs'=>?_));obtain⟨oI',hoI',hoc,hod⟩:=id hit';have hSh':h'.get? S=some (seqObj "list" it c):=(hs'.2 S hSI).trans nS.1;have dI:∀v,oI'.data≠.cell v:=λv z=>by rw[hod]at z;cases z
   have J1:Inv X ((It,oI)::pins) σ H s:=J.pins_of λp hp=>J.pin p (iY _ (il _ hp));have J2:Inv X pins σ H { s with heap:=h',toks:=s.toks }:=J1.turnE (hI0 H nI.2.1) λc u n e=>(hs'.2 c n).trans e;have J3:=(J2.repin (hI0 H nI.2.1) hoI' dI).repin ((hS0 H nS.2.1).more hSI.symm) hSh' (λv z=>by cases z);show wpAny _ X.A.in1 (tryCatch (holding [u] (call (.ref f) [u])) _ >>= _) _ _ _;refine ic (wpAny_tryCatch (ja (iX (turn _ H _ x u _ (λp hp=>il _ (il _ hp)) J3 ru hG hgo) (λw s2 he=>?_) λ_ _ hF=>hF.elim)));obtain⟨k,H2,J4,rk,n,hn,hgo2⟩:=he;have nS2:=J4.pin (S,seqObj "list" it c) (iY _ ir);have nI2:=J4.pin (It,oI') (iY _ (il _ ir));have put:EK (KR X.K) op src G tb cap m (j+1) (some (x,k,n)) H2 Q->codeAny 54 X.A (.builtin (bif b then "max.loop" else "min.loop") ⟨[.ref It,.ref f,.ref S],[]⟩) (λr s'=>match r with|.ok (.ret v)=>EP X pins σ Q v s'|.ok _=>False|.error e=>E e s') { s2 with heap:=s2.heap.update S (Obj.mapSeq λ_=>#[u,w]),toks:=s2.toks }:=λhg=>by
    have s1:=Heap.SameBut.update s2.heap S (Obj.mapSeq λ_=>#[u,w]);obtain⟨c2,hc2⟩:∃c2,(s2.heap.update S (Obj.mapSeq λ_=>#[u,w])).get? S=some (seqObj "list" #[u,w] c2):=⟨_,get?_update_seq nS2.1 λ_=>#[u,w]⟩
    have J5:Inv X ((S,seqObj "list" it c)::pins) σ H2 s2:=J4.pins_of λp hp=>by
     rcases mem_cons.mp hp with rfl|hp
     .exact nS2
     .exact J4.pin p (iY _ (il _ (il _ hp)))
    have J6:Inv X pins σ H2 { s2 with heap:=s2.heap.update S (Obj.mapSeq λ_=>#[u,w]),toks:=s2.toks }:=J5.turnE (hS0 H2 nS2.2.1) λc u n e=>(s1.2 c n).trans e;have gI:(s2.heap.update S (Obj.mapSeq λ_=>#[u,w])).get? It=some oI':=(s1.2 It hSI.symm).trans nI2.1;rw[hb];exact ih (j+1) (some (x,k,n)) _ c2 oI' H2 _ ((J6.repin (hI0 H2 nI2.2.1) gI dI).repin ((hS0 H2 nS2.2.1).more hSI.symm) hc2 (λv z=>by cases z)) ⟨oI',gI,hoc,hod⟩ ⟨u,w,rfl,ru,rk⟩ hg
   cases o with
   |none=>
    cases ro;show wpAny _ X.A.in1 (updateSeq S (λ_=>#[u,w]) >>= _) _ _ _;refine ic (wpAny_updateSeq nS2.1 rfl ?_);subst hb
    first|rw[hname]|rw[hnam2]
    exact ik ⟨(by first|exact jH PySem.F.plain_max_loop _|exact jH PySem.F.plain_min_loop _),put hgo2⟩
   |some p=>
    obtain⟨vb,vk,rfl,rb,r0⟩:=ro;obtain⟨hn0,hgo2⟩:=hgo2;show wpAny _ X.A.in1 (tryCatch (holding [u,w] (richCompare _ w vk >>= _)) _ >>= _) _ _ _;refine ic (wpAny_tryCatch (ja (ic (cmp hu J4 hn hn0 rk r0 ?_))));refine ic (ja (jv (ic (wpAny_letGo (ik ?_)))));subst hb;cases hb':op n p.2.2
    .simp only[hb',Bool.false_eq_true,j5]at hgo2 ⊢;refine ic (wpAny_letGo ?_)
     first|rw[hname]|rw[hnam2]
     exact ik ⟨(by first|exact jH PySem.F.plain_max_loop _|exact jH PySem.F.plain_min_loop _),ih (j+1) (some p) _ c oI' H2 _ J4 ⟨oI',nI2.1,hoc,hod⟩ ⟨vb,vk,rfl,rb,r0⟩ hgo2⟩
    .simp only[hb',iy]at hgo2 ⊢;refine ic (wpAny_updateSeq nS2.1 rfl (ic (wpAny_letGo ?_)))
     first|rw[hname]|rw[hnam2]
     exact ik ⟨(by first|exact jH PySem.F.plain_max_loop _|exact jH PySem.F.plain_min_loop _),put hgo2⟩
set_option maxHeartbeats 800000 in
def WG(W:Wy κ)(hu:X.A.in1.units<cLine)(hh:X.A.handled=none)(I:Inv X pins σ H s)(hsrc:∀pins' H' s' xs,Inv X pins' σ H' s'->src H' xs->∃its:List Value,Vals xs its/\IsY W.y s'.heap l its.toArray)
 (turn:∀(pins':List (Addr×Obj)) (H1:Hp) (s1:Shared) (x:V) (u:Value) (Q1:VK),(∀p∈pins,p∈pins')->Inv X pins' σ H1 s1->RelV x u->G H1->tb (some x::cap) H1 Q1->wpAny 54 X.A.in1 (call (.ref f) [u]) (EP X pins' σ Q1) (λ_ _=>False) s1)
 {m:Nat} (h:EK (W.KR X.K) W.op src G tb cap m 0 none H Q):wpAny 54 X.A (call (.builtin (bif W.z then "max" else "min")) [.ref l] [(Str.ofString "key",.ref f)]) (EP X pins σ Q) E s:=by
 have hname:(toString "max"++toString ".loop":String)="max.loop":=by decide
 have hnam2:(toString "min"++toString ".loop":String)="min.loop":=by decide
 obtain⟨xs,hsr⟩:∃xs,src H xs:=by
  cases m with
  |zero=>obtain⟨⟨xs,h,_⟩,_⟩:=h;exact⟨xs,h⟩
  |succ m=>obtain⟨xs,_,h,_⟩:=h;exact⟨xs,h⟩
 obtain⟨_,_,hls⟩:=hsrc _ _ _ _ I hsr;obtain⟨z,y,op,KR,kp,rd,cmp⟩:=W;obtain⟨b,hb⟩:∃b,b=z:=⟨z,rfl⟩
 cases z<;>dsimp only[cond]at h hls hsrc ⊢
 all_goals
  first|(guard_hyp hb:b=true;refine kmk_tree PySem.F.kind_max PySem.F.plain_max PySem.F.entry_max (kmk_max_key _ _) ?_;show wpAny _ X.A.in1 (Builtin.Builtins.bindParams "max" ["key","default"] 0 ⟨[],[(Str.ofString "key",.ref f)]⟩ >>= _) _ _ s;refine ic (wpAny_of_eq (show Builtin.Builtins.bindParams "max" ["key","default"] 0 ⟨[],[(Str.ofString "key",.ref f)]⟩=pure [some (.ref f),none]from rfl) ?_))|(refine kmk_tree PySem.F.kind_min PySem.F.plain_min PySem.F.entry_min (kmk_min_key _ _) ?_;show wpAny _ X.A.in1 (Builtin.Builtins.bindParams "min" ["key","default"] 0 ⟨[],[(Str.ofString "key",.ref f)]⟩ >>= _) _ _ s;refine ic (wpAny_of_eq (show Builtin.Builtins.bindParams "min" ["key","default"] 0 ⟨[],[(Str.ofString "key",.ref f)]⟩=pure [some (.ref f),none]from rfl) ?_))
  refine ic (ik (ic (fZ y hls (ic (wpAny_newList ?_ (jk _))))))
  first|rw[hname]|rw[hnam2]
  generalize hIt:oY y l 0=oIt;have dI:∀v,oIt.data≠.cell v:=λv z=>by subst hIt;cases z
  have hS:(s.heap.push oIt).objs.size=49+1:=size_push' ..;rw[hS];have gI:((s.heap.push oIt).push (seqObj "list" #[] 0)).get? 49=some oIt:=
   53 _ (115 _ (by subst hIt;rfl))
  have gS:((s.heap.push oIt).push (seqObj "list" #[] 0)).get? (49+1)=some (seqObj "list" #[] 0):=by rw[<- hS];exact 115 _ rfl
  have I1:Inv X pins σ H { s with heap:=(s.heap.push oIt).push (seqObj "list" #[] 0),toks:=s.toks }:=I.kept (t':=s.toks) λb o e=>53 _ (53 _ e);have hSI:49+1≠s.heap.objs.size:=jF (Nat.lt_succ_self _);have hI0:∀H',H' 49=none->FpOk X pins H' s.heap.objs.size:=λH' hn=>I.fpOk (ig _) hn;have hS0:∀H',H' (49+1)=none->FpOk X pins H' (49+1):=λH' hn=>I.fpOk (jo _) hn;exact ik ⟨(by first|exact jH PySem.F.plain_max_loop _|exact jH PySem.F.plain_min_loop _),Tr ⟨_,y,op,KR,kp,rd,cmp⟩ hu hh hsrc hSI hI0 hS0 turn m 0 none #[] 0 oIt H _ ((I1.repin (hI0 H (I.hok.fresh (ig _))) gI dI).repin ((hS0 H (I.hok.fresh (jo _))).more hSI.symm) gS (λv z=>by cases z)) ⟨oIt,gI,by rw[hIt],by rw[hIt]⟩ rfl h⟩
end
section
variable{κ:Type}
def Yr(W:Wy κ)(LA:LamAt X c P)(S:CSc X scope fr ix)(L:LSc scope prm)(hr:Room 3 X.A)(hcm:X.calm=true)(hg:Gl X (bif W.z then "max" else "min"))(hm:X.mg (bif W.z then "max" else "min")=none)
 (hbind:∀(cl:List (Str×Addr)) (pm cd ctv us:Value),bindArgs (kla_fn "<lambda>" (X.env.qual++"<lambda>") params body scope cl pm cd ctv) ⟨[us],[]⟩=pure [(prm,us)])
 (he:PE X e te) (hb:∀(f:Addr) (cd:Value) (s:Shared) (H:Hp),PE (lCx X X.A.in1 (prm::fr) (X.env.qual++"<lambda>") scope f cd (AW X.env.cells 116 []) s H) body tb)
 (hdef:defaultsOf params X.env=([],[])) (hs:starEach [e] X.env=[109]):
 PE X (.Call (.Name (bif W.z then "max" else "min") p) [e] [⟨some "key",.Lambda params body scope lpos,kpos⟩] pos) (Pt W X.K P (X.env.qual++"<lambda>") lpos ix te tb):=by
 intro pins s σ H Q I h;have PAe:PA X [e] (Af te BG):=BB he C4 hs;have pl:(backTo pos (starEach [e] X.env)).any (·.1)=false:=by rw[hs];rfl
 have bt:bootBuiltins (bif W.z then "max" else "min")=some (.builtin (bif W.z then "max" else "min")):=by
  cases W.z
  .exact bt_min
  .exact bt_max
 refine jr (F4 (u:=.builtin (bif W.z then "max" else "min")) I hg hm bt ?_ (by cases W.z<;>decide) (by cases W.z<;>decide));refine callWith_builtin_kwB pl rfl (evalArgs_kw2 (env:=X.env) (e:=e) (rest:=[]) (kws:=[⟨some "key",.Lambda params body scope lpos,kpos⟩]) rfl (thn (PAe pos pins s σ H (λvs H1=>match vs with
  |[v]=>∃(a:Addr) (m:Nat) (ps:Array Value),v=.ref a/\H1 P=some (.tbl ps)/\Ge H1 (X.env.qual++"<lambda>") lpos ps /\
   ∀H2 c,TabStep P (X.env.qual++"<lambda>") lpos H1 H2->H2 c=some (.ext (cdF c (X.env.qual++"<lambda>")))->EK (W.KR X.K) W.op (λH xs=>SqY W.y X.K H a xs) (λH=>H c=some (.ext (cdF c (X.env.qual++"<lambda>")))) tb (ix.map λi=>(σ[i]?).join) m 0 none H2 Q
  | _=>False) I h) λus s1 hq=>?_) hs)
 obtain⟨vs,H1,I1,r,q⟩:=hq
 match vs,q with
 |[v],q=>
 obtain⟨a,m,ps,rfl,hP,hg1,go⟩:=q;obtain⟨u,rfl,ru⟩:=BJ r;cases ru;show wpAny _ _ (evalAll [(do let v <- eval (.Lambda params body scope lpos) X.env;standAt pos;pure v)]) _ _ s1;refine wpAny_evalAll_cons (ic (Nd S LA I1 hdef hP hg1 λf cd ctv H2 s2 I2 M=>ic (jw (ik (wpAny_evalAll_nil ?_)))));show wpAny _ _ (call (.builtin (bif W.z then "max" else "min")) [.ref a] [(Str.ofString "key",.ref f)]) _ _ s2;obtain⟨c',rfl,hc'⟩:=M.cdc;have ff:FpOk X pins H2 f:=I1.fpOk M.new M.fre;have I3:=I2.repin ff M.fn (λv z=>by cases z);refine iX (WG W hr.in1.units0 (pins:=(f,_)::pins) (I3.ok.hd hcm) I3 (λpins' H' s' xs J hG=>?_) (λpins' H' s' x u Q1 sub J ru hG hq=>?_) (go H2 c' M.step hc')) (λv s' hv=>?_) λ_ _ z=>z
 .revert hG
  unfold SqY IsY;cases W.y<;>intro hG
  .obtain⟨its,rv,pl2,hz⟩:=J.tuple hG;exact⟨its,rv,pl2⟩
  .obtain⟨its,rv,pl2,hz⟩:=J.list hG;exact⟨its,rv,pl2.isList⟩
 .have pf:=J.pin (f,_) (iY _ (sub _ ir));exact Vh (A:=X.A.in1) (f:=f) S L J rfl (hr.in1.mono 107) pf.1 (J.hok c' _ hG).1 (λus=>hbind _ _ _ _ us) (λs H=>hb f _ s H) ru hq
 .obtain⟨y,H',J,ry,qy⟩:=hv;exact⟨y,H',J.pins_of λp hp=>J.pin p (iY _ (il _ hp)),ry,qy⟩
end
section
variable{κ:Type}
open Classical in
noncomputable def IB(kp:I->Option κ)(mb:ME)(cap:Ls)(hd:Hd):List D->Option (List κ)
 |[]=>some []
 |d::r=>match mb (some d::cap) hd with
  |some (.im i,h)=>match kp i,IB kp mb cap hd r with
   |some n,some ks=>if h=hd then some (n::ks)else none
   |_,_=>none
  |_=>none
noncomputable def BD(op:κ->κ->Bool):List D->List κ->D->κ->D
 |x::r,n::ns,b,kb=>if op n kb=true then BD op r ns x n else BD op r ns b kb
 |_,_,b,_=>b
noncomputable def E6(op:κ->κ->Bool):List D->List κ->Option (D×κ)->Option D
 |x::r,n::ns,none=>E6 op r ns (some (x,n))
 |x::r,n::ns,some p=>E6 op r ns (if op n p.2=true then some (x,n)else some p)
 |_,_,o=>o.map (·.1)
theorem PY(op:κ->κ->Bool):∀(r:List D) (ns:List κ) (b:D) (kb:κ),E6 op r ns (some (b,kb))=some (BD op r ns b kb)
 |[],_,_,_=>by simp[E6,BD]
 |_::_,[],_,_=>by simp[E6,BD]
 |x::r,n::ns,b,kb=>by
  unfold E6 BD;split<;>exact PY op r ns _ _
noncomputable def Ez(vw:Hd->D->Option (List D))(kp:I->Option κ)(op:κ->κ->Bool)(mi:ME)(ix:List Nat)(mb:ME):ME:=λls hd=>(mi ls hd).bind λp=>(vw p.2 p.1).bind λds=>(IB kp mb (ix.map λi=>(ls[i]?).join) p.2 ds).bind λkz=>(E6 op ds kz none).map (·,p.2)
noncomputable def vwY(y:Bool):Hd->D->Option (List D):=bif y then Aa else λ_ d=>AS d
noncomputable def mKI(i:I):Option Int:=match i with
 |.int n=>some n
 |_=>none
noncomputable def Nb(op:Int->Int->Bool)(mi:ME)(ix:List Nat)(mb:ME):ME:=Ez Aa mKI op mi ix mb
noncomputable def Km(op:Int->Int->Bool)(mi:ME)(ix:List Nat)(mb:ME):ME:=Ez (λ_ d=>AS d) mKI op mi ix mb
section
variable{K:Frag}
def aL{ix:List Nat}(L:RL K ρ H ls σ)(r:RD K ρ H d v):RL K ρ H (some d::ix.map λi=>(ls[i]?).join) (some v::ix.map λi=>(σ[i]?).join):=by
 refine⟨by simp,λi d' ei=>?_⟩;cases i with
 |zero=>cases ei;exact⟨v,rfl,r⟩
 |succ j=>
  have ei:(ix.map λi=>(ls[i]?).join)[j]?=some (some d'):=ei;rw[List.getElem?_map]at ei;cases qj:ix[j]? with
  |none=>rw[qj]at ei;cases ei
  |some m=>
   rw[qj]at ei;have ei:(ls[m]?).join=some d':=111 ei;have em:ls[m]?=some (some d'):=by
    cases w:ls[m]? with
    |none=>rw[w]at ei;cases ei
    |some z=>rw[w]at ei;simpa using ei
   obtain⟨v,ev,rv⟩:=L.ob m d' em;refine⟨v,?_,rv⟩;show(ix.map λi=>(σ[i]?).join)[j]?=some (some v);rw[List.getElem?_map,qj];simp[ev]
def RO(kp:I->Option κ)(K:Frag)(ρ:List Addr)(H:Hp):Option (D×κ)->Option (V×V×κ)->Prop
 |none,none=>True
 |some d,some p=>RD K ρ H d.1 p.1/\d.2=p.2.2/\∃i,kp i=some d.2/\RD K ρ H (.im i) p.2.1
 |_,_=>False
theorem PX(W:Wy κ){ix:List Nat}(hb:RE K tb mb)(ev:∀ρ H,RH K ρ H hd->RD K ρ H d1 (.ref a)->∃xs,SqY W.y K H a xs/\RDs K ρ H ds xs):∀(rs:List D) (ns:List κ) (j:Nat) (od:Option (D×κ)) (o:Option (V×V×κ)) (ρ:List Addr) (H:Hp) (Q:VK) (z:D),ds.drop j=rs->j<=104 ->
 IB W.kp mb (ix.map λi=>(ls[i]?).join) hd rs=some ns->E6 W.op rs ns od=some z->RH K ρ H hd->RL K ρ H ls σ->H c=some (.ext (cdF c q))->RD K ρ H d1 (.ref a)->RO W.kp K ρ H od o ->
 (∀ρ' H' v,Ext ρ H ρ' H'->RH K ρ' H' hd->RD K ρ' H' z v->Q v H') ->
 EK (W.KR K) W.op (λH xs=>SqY W.y K H a xs) (λH=>H c=some (.ext (cdF c q))) tb (ix.map λi=>(σ[i]?).join) rs.length j o H Q
 |[],ns,j,od,o,ρ,H,Q,z,hr,hj,e,ez,R,L,hc,r1,rb,k=>by
  obtain⟨xs,sq,rs⟩:=ev ρ H R r1;have hl:=rs.len;have hd0:=j7 List.length hr;simp at hd0;cases od with
  |none=>simp[E6]at ez
  |some d=>cases o with
   |none=>exact rb.elim
   |some p=>
    simp only[E6,j4,Option.some.injEq]at ez;subst ez;exact⟨⟨xs,sq,by omega⟩,p,rfl,k ρ H _ .refl R rb.1⟩
 |x::r,ns,j,od,o,ρ,H,Q,z,hr,hj,e,ez,R,L,hc,r1,rb,k=>by
  obtain⟨xs,sq,rs⟩:=ev ρ H R r1;have hjl:j<ds.length:=by
   have:=j7 List.length hr;simp at this;omega
  rw[List.drop_eq_getElem_cons hjl]at hr;obtain⟨hxj,hr'⟩:=List.cons.inj hr;obtain⟨v,hv,rv⟩:=rs.get ((List.getElem?_eq_getElem hjl).trans (j7 some hxj));unfold IB at e;split at e
  .next i h e1=>
   split at e
   .next n ks e0 e2=>
    split at e
    .next eh=>
     cases e;rw[eh]at e1;refine⟨xs,v,sq,hv,hc,hb ρ _ H _ _ _ (.im i) _ R (aL L rv) e1 λρ1 H1 v1 x1 R1 rk=>?_⟩;have oc:c∉ρ:=λm=>by rcases R.mut m with⟨y,w⟩|⟨y,w⟩<;>(rw[hc]at w;cases w)
     have go:=λod o hz ho=>PX W hb ev r ks (j+1) od o ρ1 H1 Q z hr' hjl e2 hz R1 (L.ext R x1) (x1.keep c _ hc oc nt) (r1.ext R x1) ho λρ2 H2 w x2 R2 r2=>k ρ2 H2 w 106 R2 r2;have new:RO W.kp K ρ1 H1 (some (x,n)) (some (v,v1,n)):=⟨rv.ext R x1,rfl,i,e0,rk⟩
     refine⟨n,W.rd e0 rk,?_⟩;cases od with
     |none=>cases o with
      |none=>exact go _ _ ez new
      |some p=>exact rb.elim
     |some d=>cases o with
      |none=>exact rb.elim
      |some p=>
       obtain⟨b1,b2,i0,b3,b4⟩:=rb;have b4:=b4.ext R x1;rw[b2]at b3;refine⟨W.rd b3 b4,go _ _ ez ?_⟩;rw[b2];split
       .exact new
       .exact⟨b1.ext R x1,b2,i0,b2 ▸ b3,b4⟩
    .cases e
   .cases e
  .cases e
def Xv(W:Wy κ)(hi:RE K te mi)(hb:RE K tb mb)(TI:MJ K P q pos):RE K (Pt W K P q pos ix te tb) (Ez (vwY W.y) W.kp W.op mi ix mb):=by
 have hvw:∀{ρ H hd d v ds},RH K ρ H hd->RD K ρ H d v->vwY W.y hd d=some ds->∃a xs,v=.ref a/\SqY W.y K H a xs/\RDs K ρ H ds xs:=by
  unfold vwY SqY;cases W.y
  .exact λ_ r e=>RD.tup r e
  .exact λR r e=>RD.lst R r e
 and_intros;obtain⟨⟨d1,h1⟩,e1,hm⟩:=iS hm;obtain⟨ds,e2,hm⟩:=iS hm;obtain⟨kz,e3,hm⟩:=iS hm;obtain⟨z,ez,hm⟩:=iT hm;cases hm;refine hi ρ σ H hd ls _ d1 _ hR hL e1 λρ1 H1 v1 x1 R1 r1=>?_;obtain⟨a,xs,rfl,sq,rs⟩:=hvw R1 r1 e2;obtain⟨p',et,_,l1,l2⟩:=id TI;obtain⟨ps,hP,hG⟩:=R1.tabs (P,q,p') et;have hG':Ge H1 q pos ps:=by
  rcases hG with g|⟨c,g1,g2⟩
  .exact .inl g
  .refine .inr ⟨c,?_,g2⟩;rw[g1];show #[rawInt p'.line,rawInt p'.col,Value.ref c]=_;rw[l1,l2]
 refine⟨a,104,ps,rfl,hP,hG',λH2 c step hc=>?_⟩;obtain⟨R2,x2⟩:=Mb R1 hP step TI;have x12:=x1.trans R1 x2;exact PX W hb (λρ H R r=>by obtain⟨a2,xs,ea,sq,rs⟩:=hvw R r e2;cases ea;exact⟨xs,sq,rs⟩) ds kz 0 none none ρ1 H2 Q d rfl (jk _) e3 ez R2 (hL.ext hR x12) hc (r1.ext R1 x2) trivial λρ4 H4 w x4 R4 r4=>hQ ρ4 H4 w (x12.trans R2 x4) R4 r4
end
end
def wI(z y:Bool)(op:Int->Int->Bool)(ho:∀n m,op n m=bif z then decide (n>m)else decide (n<m)):Wy Int where
 z:=z
 y:=y
 op:=op
 KR:=λ_ _ k n=>k=.int n
 kp:=mKI
 rd:=λ{_ _ _ _ i _} e r=>by
  cases i<;>cases e;simpa only[RD,RI]using r
 cmp:=λ{_ _ _ _ s _ n _ m _ _ _ _} _ _ h1 h2 r1 r2 q=>by
  subst h1 h2;obtain⟨t1,rfl⟩:=r1;obtain⟨t2,rfl⟩:=r2;rw[ho]at q;cases z
  .exact k8 (op:=.Lt) (jt s _ t1) (jt s _ t2) F.slot_int_lt F.entry_int_lt (F.args_int_lt_2 _ _) (gives_int_lt _ _ t1 t2) (λx=>nomatch x) q
  .exact k8 (op:=.Gt) (jt s _ t1) (jt s _ t2) F.slot_int_gt F.entry_int_gt (F.args_int_gt_2 _ _) (gives_int_gt _ _ t1 t2) (λx=>nomatch x) q
abbrev wMx:=wI true true (λn m=>decide (n>m)) λ_ _=>rfl
abbrev wMn:=wI false true (λn m=>decide (n<m)) λ_ _=>rfl
abbrev wMt:=wI false false (λn m=>decide (n<m)) λ_ _=>rfl
def Ih{κ:Type}{vw:Hd->D->Option (List D)}{kp:I->Option κ}{op:κ->κ->Bool}{ix:List Nat}{Q:D->Hd->Prop}(h:WE mi ls hd λd x=>∃(e:D) (es:List D) (kf:D->κ),vw x d=some (e::es)/\(∀y∈e::es,∃i,kp i=some (kf y)/\mb (some y::ix.map λi=>(ls[i]?).join) x=some (.im i,x))/\Q (BD op es (es.map kf) e (kf e)) x):WE (Ez vw kp op mi ix mb) ls hd Q:=by
 obtain⟨d,x,e1,e,es,kf,e2,ek,q⟩:=h;have go:∀ys:List D,(∀y∈ys,∃i,kp i=some (kf y)/\mb (some y::ix.map λi=>(ls[i]?).join) x=some (.im i,x))->IB kp mb (ix.map λi=>(ls[i]?).join) x ys=some (ys.map kf):=by
  intro ys
  induction ys with
  |nil=>intro _;rfl
  |cons y r ih=>
   intro h;obtain⟨i,e3,e4⟩:=h y ir;unfold IB;rw[e4,ih λz hz=>h z (il _ hz)];simp[e3]
 refine⟨_,x,?_,q⟩;simp only[Ez,e1,bind_some,e2,go _ ek,iq];exact j7 (Option.map (·,x)) (PY op es _ e (kf e))
def U9{op:Int->Int->Bool}{ix:List Nat}{QE:D->Hd->Prop}(h:WE mi ls hd λd x=>∃(e:D) (es:List D) (kf:D->Int),Aa x d=some (e::es)/\(∀y∈e::es,mb (some y::ix.map λi=>(ls[i]?).join) x=some (.im (.int (kf y)),x))/\QE (BD op es (es.map kf) e (kf e)) x):WE (Nb op mi ix mb) ls hd QE:=
 Ih (h.mono λ_ _ ⟨e,es,kf,h1,h2,h3⟩=>⟨e,es,kf,h1,λy hy=>⟨_,rfl,h2 y hy⟩,h3⟩)
theorem JQ(kf:D->Int):∀(es:List D) (b:D),BD (λn m=>decide (n>m)) es (es.map kf) b (kf b)∈b::es/\∀y∈b::es,kf y<=kf (BD (λn m=>decide (n>m)) es (es.map kf) b (kf b))
 |[],b=>⟨ir,λy hy=>by rw[iU]at hy;subst hy;exact Int.le_refl _⟩
 |e::es,b=>by
  rw[iq,BD];by_cases h:kf e>kf b
  .rw[ia (by simpa using h)];obtain⟨h1,h2⟩:=JQ kf es e;refine⟨il _ h1,λy hy=>?_⟩;rcases mem_cons.mp hy with rfl|hy
   .have:=h2 e ir;omega
   .exact h2 y hy
  .rw[ie (by simpa using h)];obtain⟨h1,h2⟩:=JQ kf es b;refine⟨?_,λy hy=>?_⟩
   .rcases mem_cons.mp h1 with q|q
    .rw[q];exact ir
    .exact il _ (il _ q)
   .rcases mem_cons.mp hy with rfl|hy
    .exact h2 y ir
    .rcases mem_cons.mp hy with rfl|hy
     .have:=h2 b ir;omega
     .exact h2 y (il _ hy)
def Rs{op:Int->Int->Bool}{ix:List Nat}{QE:D->Hd->Prop}(h:WE mi ls hd λd x=>∃(e:D) (es:List D) (kf:D->Int),AS d=some (e::es)/\(∀y∈e::es,mb (some y::ix.map λi=>(ls[i]?).join) x=some (.im (.int (kf y)),x))/\QE (BD op es (es.map kf) e (kf e)) x):WE (Km op mi ix mb) ls hd QE:=
 Ih (h.mono λ_ _ ⟨e,es,kf,h1,h2,h3⟩=>⟨e,es,kf,h1,λy hy=>⟨_,rfl,h2 y hy⟩,h3⟩)
theorem JP(kf:D->Int):∀(es:List D) (b:D),BD (λn m=>decide (n<m)) es (es.map kf) b (kf b)∈b::es/\∀y∈b::es,kf (BD (λn m=>decide (n<m)) es (es.map kf) b (kf b))<=kf y
 |[],b=>by simp[BD]
 |x::r,b=>by
  rw[iq,BD];by_cases h:decide (kf x<kf b)=true
  .rw[ia h];have h:=jG h;obtain⟨h1,h2⟩:=JP kf r x;refine⟨il _ h1,λy hy=>?_⟩;rcases mem_cons.mp hy with rfl|hy
   .have:=h2 x ir;omega
   .exact h2 y hy
  .rw[ie h];have h:¬ kf x<kf b:=λz=>h (jl z);obtain⟨h1,h2⟩:=JP kf r b;refine⟨?_,λy hy=>?_⟩
   .rcases mem_cons.mp h1 with e|e
    .rw[e];exact ir
    .exact il _ (il _ e)
   .rcases mem_cons.mp hy with rfl|hy
    .exact h2 y ir
    .rcases mem_cons.mp hy with rfl|hy
     .have:=h2 b ir;omega
     .exact h2 y (il _ hy)
end L2
namespace L2
open PySem PySem.Spec PyProof.Rows
section
variable{K:Frag}
noncomputable def Cz(f g:D->D->Hd->Option (D×Hd))(ma mb mc:ME):ME:=λls hd=>(ma ls hd).bind λp=>(mb ls p.2).bind λq=>(f p.1 q.1 q.2).bind λr=>match r.1 with
 |.im (.bl k)=>if k=true then(mc ls r.2).bind λu=>g q.1 u.1 u.2 else some (.im (.bl false),r.2)
 |_=>none
def Ui{f g:D->D->Hd->Option (D×Hd)}(hr:RB K r f)(hr':RB K r' g)(ha:RE K ta ma)(hb:RE K tb mb)(hc:RE K tc mc):RE K (Mi r r' ta tb tc) (Cz f g ma mb mc):=by
 and_intros;obtain⟨⟨d1,h1⟩,e1,hm⟩:=iS hm;obtain⟨⟨d2,h2⟩,e2,hm⟩:=iS hm;obtain⟨⟨d3,h3⟩,e3,hm⟩:=iS hm;dsimp only at hm;refine ha ρ σ H hd ls _ d1 h1 hR hL e1 λρ1 H1 v1 x1 R1 r1=>?_;refine hb ρ1 σ H1 h1 ls _ d2 h2 R1 (hL.ext hR x1) e2 λρ2 H2 v2 x2 R2 r2=>?_;refine hr ρ2 H2 h2 d1 d2 v1 v2 _ d3 h3 R2 (r1.ext R1 x2) r2 e3 λρ3 H3 w x3 R3 r3=>?_;have X3:=(106).trans R2 x3;split at hm
 .next k=>
  simp only[RD,RI]at r3;refine⟨k,r3,?_⟩;cases k with
  |false=>
   simp only[Bool.false_eq_true,j5]at hm ⊢;cases hm;exact hQ ρ3 H3 _ X3 R3 (by simp[RD,RI])
  |true=>
   simp only[iy]at hm ⊢;obtain⟨⟨d4,h4⟩,e4,hm⟩:=iS hm;refine hc ρ3 σ H3 h3 ls _ d4 h4 R3 (hL.ext hR X3) e4 λρ4 H4 v4 x4 R4 r4=>?_;exact hr' ρ4 H4 h4 d2 d4 v2 v4 Q d hd' R4 ((r2.ext R2 x3).ext R3 x4) r4 hm λρ' H' w x5 R5 r5=>hQ ρ' H' w ((X3.trans R3 x4).trans R4 x5) R5 r5
 .cases hm
def Ux{f g:D->D->Hd->Option (D×Hd)}(ho:OpR X (compareOp op) r)(hr:RB K r f)(ho':OpR X (compareOp op') r')(hr':RB K r' g)(ha:QE K X a ta ma)(hb:QE K X b tb mb)(hc:QE K X c tc mc)
 (hm:lastMarks [op,op'] [b,c]=false:=by with_unfolding_all rfl):QT K X (.Compare a [op,op'] [b,c] pos) (FG (Mi r r' ta tb tc)) (AC (Cz f g ma mb mc)):=⟨VD ho ho' ha.p hb.p hc.p hm,DN (Ui hr hr' ha.r hb.r hc.r)⟩
def U7{f g:D->D->Hd->Option (D×Hd)}{Q:D->Hd->Prop}(h:WE ma ls hd λd x=>WE mb ls x λe y=>WP (f d e y) λr z=>∃k,r=.im (.bl k)/\(k=true->WE mc ls z λu w=>WP (g e u w) Q)/\(k=false->Q (.im (.bl false)) z)):WE (Cz f g ma mb mc) ls hd Q:=by
 obtain⟨d,x,e1,e,y,e2,r,z,e3,k,rfl,h1,h2⟩:=h;cases k with
 |false=>exact⟨_,_,by simp only[Cz,e1,e2,e3,bind_some,Bool.false_eq_true,j5],h2 rfl⟩
 |true=>
  obtain⟨u,w,e4,v,t,e5,q⟩:=h1 rfl;exact⟨v,t,by simp only[Cz,e1,e2,e3,bind_some,iy,e4,e5],q⟩
end
end L2
namespace L2
open PySem PySem.Spec PyProof.Rows PySem.W
def NG:List V->Hp->VK->Prop:=λxs H Q=>∃k,xs=[.bl k]/\Q (.str (if k then "True" else "False":Str)) H
def RP:CallR X (.builtin "repr") NG:=by
 intro pins s σ H xs us Q I r h;obtain⟨k,rfl,q⟩:=h;obtain⟨u,rfl,ru⟩:=BJ r;cases ru;exact PySem.P.repr_of_bool ⟨.str (if k then "True" else "False":Str),H,I.tok _,⟨_,rfl⟩,q⟩
noncomputable def No:List D->Hd->Option (D×Hd)
 |[.im (.bl k)],hd=>some (.im (.str (if k then "True" else "False":Str)),hd)
 |_,_=>none
def Ue{K:Frag}:RF K NG No:=by
 intro ρ H hd ds vs Q z hd' hR h1 hf hQ;unfold No at hf;split at hf
 .cases hf;simp only[RDs,RD,RI]at h1;obtain⟨x,r,rfl,rfl,rfl⟩:=h1;exact⟨_,rfl,hQ ρ H _ .refl hR (by simp[RD,RI])⟩
 .cases hf
end L2
namespace L2
open PySem PySem.W
noncomputable def tg1:Expr->List Str
 |.Name x _=>[x]
 |_=>[]
def tg2:Expr->List Str
 |.Tuple es _ _=>es.flatMap tg1
 |e=>tg1 e
def tgN:Expr->List Str
 |.Tuple es _ _=>es.flatMap tg2
 |e=>tg1 e
noncomputable def frN(X:Cx)(ix:List Nat):List Str:=ix.filterMap λi=>X.N[i]?
noncomputable def ndB:List Str->Bool
 |[]=>true
 |x::xs=>!xs.elem x&&ndB xs
theorem Fi:∀{l:List Str},ndB l=true->l.Nodup
 |[],_=>List.nodup_nil
 |x::xs,h=>by
  obtain⟨h1,h2⟩:=Bool.and_eq_true_iff.mp h;refine nodup_cons.mpr ⟨λhm=>?_,Fi h2⟩;rw[List.elem_eq_true_of_mem hm]at h1;cases h1
section
variable{K:Frag}{X:Cx}{iter:Expr}{spos:Pos}{k i:Nat}
def qgA(hN:ndB X.N=true:=by kernel_rfl)(hi:X.N[i]?=some x:=by rfl)(hx:Loc X.env.scope x:=by first|exact Or.inl rfl|exact Or.inr rfl)(hf:X.fn x=true∨X.env.scope.names.lookup x=some .local:=by first|exact .inl rfl|exact .inr rfl):QG K X (.Name x pos) (E1 i) (AG i):=YO K (Fi hN) hi hx hf
def qnA(hi:QI K X tg iter wi mi)(hg:∀s H ex,QG K (cCx X (tgN tg++frN X ix) scope s H ex) tg g n)(hf:∀s H ex,QF K (cCx X (tgN tg++frN X ix) scope s H ex) ifs tf mf)(he:∀s H ex,QE K (cCx X (tgN tg++frN X ix) scope s H ex) elt te me)
 (hc:X.calm=true:=by rfl) (S:CSc X scope (frN X ix) ix:=by exact⟨rfl,by decide +kernel,rfl,rfl,rfl,by decide +kernel⟩) (hs:∀x,foldedSetIterable iter X.env x=pure x:=by intro _;rfl) (hk:(tgN tg).length=k:=by rfl):
 QN K X (.ListComp elt [⟨tg,iter,ifs,0⟩] scope pos) (GE k ix wi g tf te) (Ag k ix mi n mf me):=by
 subst hk;exact YK K hc S hi hg hf he hs
def fk(hi:QI K X tg iter wi mi)(hg:∀s H ex,QG K (cCx X (tgN tg++frN X ix) scope s H ex) tg g n)(hf:∀s H ex,QF K (cCx X (tgN tg++frN X ix) scope s H ex) ifs tf mf)(he:∀s H ex,QE K (cCx X (tgN tg++frN X ix) scope s H ex) elt te me)
 (hsw:swapsWith (.ListComp elt [⟨tg,iter,ifs,0⟩] scope pos) (some (.Name y py)) spos.line X.env=pure true:=by rfl) (hN:ndB X.N=true:=by kernel_rfl) (hiN:X.N[i]?=some y:=by rfl) (hy:X.env.scope.names.lookup y=some .local:=by rfl)
 (hc:X.calm=true:=by rfl) (S:CSc X scope (frN X ix) ix:=by exact⟨rfl,by decide +kernel,rfl,rfl,rfl,by decide +kernel⟩) (hs:∀x,foldedSetIterable iter X.env x=pure x:=by intro _;rfl) (hk:(tgN tg).length=k:=by rfl):
 QS K X (.Assign [.Name y py] (.ListComp elt [⟨tg,iter,ifs,0⟩] scope pos) spos) (El (GE k ix wi g tf te) (E1 i)) (AE i (AY (Ag k ix mi n mf me))):=by
 subst hk;exact YB K (Fi hN) hiN hy hc S hi hg hf he hsw hs
def qdA(hi:QI K X tg iter wi mi)(hg:∀s H ex,QG K (cCx X (tgN tg++frN X ix) scope s H ex) tg g n)(hf:∀s H ex,QF K (cCx X (tgN tg++frN X ix) scope s H ex) ifs tf mf)(hkk:∀s H ex,QE K (cCx X (tgN tg++frN X ix) scope s H ex) k' tk mk)(hv:∀s H ex,QE K (cCx X (tgN tg++frN X ix) scope s H ex) v tv mv)
 (hc:X.calm=true:=by rfl) (S:CSc X scope (frN X ix) ix:=by exact⟨rfl,by decide +kernel,rfl,rfl,rfl,by decide +kernel⟩) (hs:∀x,foldedSetIterable iter X.env x=pure x:=by intro _;rfl) (hk:(tgN tg).length=k:=by rfl):
 QE K X (.DictComp k' v [⟨tg,iter,ifs,0⟩] scope pos) (Fd (.dK []) k ix wi g tf (Jr tk tv)) (Js (HE k ix mi n mf [] (Hw mk mv))):=by
 subst hk;exact V8 K hc S hi hg hf hkk hv hs
def qsA(he:QE K X e te me)(hs:swapsWith e (some (.Name x pos')) pos.line X.env=pure false:=by rfl)(hN:ndB X.N=true:=by kernel_rfl)(hi:X.N[i]?=some x:=by rfl)(hx:Loc X.env.scope x:=by first|exact Or.inl rfl|exact Or.inr rfl)(hf:X.fn x=true∨X.env.scope.names.lookup x=some .local:=by first|exact .inl rfl|exact .inr rfl):
 QS K X (.Assign [.Name x pos'] e pos) (El te (E1 i)) (AE i me):=av K (Fi hN) hi hx he hs hf
end
end L2
namespace L2
open PySem PySem.Spec PyProof.Rows PySem.W
noncomputable abbrev Tb:=Addr×Str×Nat×Nat
noncomputable def Z8(ts:List Tb):Obj:={ cls:=.str "tables" 0,data:=.fields (ts.flatMap λt=>[.ref t.1,.str t.2.1 0,.int t.2.2.1 0,.int t.2.2.2 0]).toArray }
noncomputable def Au(K:Frag)(ts:List Tb):Frag:=(K.filter λp=>!(ts.map (·.1)).contains p.1)++[(mainGlobals,Z8 ts)]
theorem S0:∀ts:List Tb,M3 (ts.flatMap λt=>[Value.ref t.1,.str t.2.1 0,.int t.2.2.1 0,.int t.2.2.2 0])=ts.map λt=>(t.1,t.2.1,⟨t.2.2.1,t.2.2.2,0,0⟩)
 |[]=>rfl
 |t::r=>by
  rw[List.flatMap_cons,iq,<- S0 r];rfl
def Gu(K:Frag)(ts:List Tb):CZ (Au K ts)=ts.map λt=>(t.1,t.2.1,⟨t.2.2.1,t.2.2.2,0,0⟩):=by
 unfold CZ Au;rw[List.getLast?_concat];show M3 _=_;rw[<- S0 ts]
theorem FQ{L:List Addr}{a:Addr}(ha:a∉L):∀K:Frag,(K.filter λp=>!L.contains p.1).lookup a=K.lookup a
 |[]=>rfl
 |(b,o)::r=>by
   have ih:=FQ ha r;rw[jE];by_cases hb:b∈L
   .have h1:(!L.contains (b,o).1)=false:=by simp[hb]
    have h2:(a==b)=false:=beq_eq_false_iff_ne.mpr λz=>ha (z ▸ hb);rw[ie (by rw[h1];decide),iW,h2,ih]
   .have h1:(!L.contains (b,o).1)=true:=by simp[hb]
    rw[ia h1,iW,iW,ih]
theorem HI{L:List Addr}{P:Addr}(hP:P∈L):∀K:Frag,(K.filter λp=>!L.contains p.1).lookup P=none
 |[]=>rfl
 |(b,o)::r=>by
   have ih:=HI hP r;rw[jE];by_cases hb:b∈L
   .rw[ie (by simp[hb])];exact ih
   .have h2:(P==b)=false:=beq_eq_false_iff_ne.mpr λz=>hb (z ▸ hP);rw[ia (by simp[hb]),iW,h2];exact ih
section
variable{K:Frag}{ts:List Tb}
def FK{a:Addr}{o:Obj}(ha:a∉ts.map (·.1))(e:K.lookup a=some o):(Au K ts).lookup a=some o:=by
 unfold Au;rw[jC,FQ ha,e];rfl
def Z7{h:Heap}(X:K.In h){g:Obj}(hg:K.lookup mainGlobals=some g)(hP:mainGlobals∉ts.map (·.1)):(Au K ts).In h:=λa o e=>by
 unfold Au at e;rw[jC]at e;by_cases ha:a∈ts.map (·.1)
 .rw[HI ha,none_or]at e;have h2:(a==mainGlobals)=false:=beq_eq_false_iff_ne.mpr λz=>hP (z ▸ ha);rw[iW,h2]at e;cases e
 .rw[FQ ha]at e;cases k:K.lookup a with
  |some o'=>rw[k]at e;cases e;exact X _ _ k
  |none=>
   rw[k,none_or,iW]at e;by_cases hm:a=mainGlobals
   .subst hm;rw[hg]at k;cases k
   .rw[beq_eq_false_iff_ne.mpr hm]at e;cases e
def Z6(hM:mainGlobals∉ts.map (·.1)){P:Addr}(hP:P∈ts.map (·.1)):(Au K ts).lookup P=none:=by
 unfold Au;have h2:(P==mainGlobals)=false:=beq_eq_false_iff_ne.mpr λz=>hM (z ▸ hP);rw[jC,HI hP,none_or,iW,h2];rfl
def Fun.mark{st:Stmt}(D:Fun K x qual st f fd)(X:K.In h)(hP:∀P∈ts.map (·.1),h.get? P=some (tabObj #[])):Fun (Au K ts) x qual st f fd:=by
 have neP:∀a o,K.lookup a=some o->o≠tabObj #[]->a∉ts.map (·.1):=λa o e n z=>by
  have:=X _ _ e;rw[hP a z]at this;exact n (111 this).symm
 obtain⟨⟨oc,od,kV,doc,pm,an,cdv,ct,osl,rfl,lk,hcd⟩,kp⟩:=D;have hf:f∉ts.map (·.1):=neP f _ lk (λz=>by cases z);refine⟨⟨oc,od,kV,doc,pm,an,cdv,ct,osl,rfl,FK hf lk,?_⟩,?_⟩
 .unfold codeIn at hcd ⊢;split at hcd
  .next c0=>
   split at hcd
   .next vs sl k=>
    have hc:c0∉ts.map (·.1):=neP c0 _ k (λz=>by
     have:vs=#[]:=by injection z with _ _ z _;injection z
     rw[this]at hcd;cases hcd)
    simp only[FK hc k];exact hcd
   .cases hcd
  .cases hcd
 .unfold keepIn;simp only[FK hf lk]
end
def dy{K:Frag}(hS:SqL K H a xs)(hO:∀ys,H a≠some (.lst ys)):RoL K H a xs:=by
 rcases hS with(h|h)|h
 .exact absurd h (hO xs)
 .exact .inl h
 .exact .inr h
def T1{Pg:Program}{w:World}{K:Frag}{mg mb:Str->Option Value}{k:Nat}{fa:Addr}{fd:FuncData}{ts:List Tb}{s₁:Shared}{vs:List Value}{F:List D->Hd->Option (D×Hd)}
 (KX:K.In s₁.heap) (hns:s₁.heap.Ns mainGlobals mg) (hb:s₁.heap.Ns builtinsNs mb) (hbb:∀x:Str,x≠"__name__"->mb x=bootBuiltins x) (hlim:s₁.heap.NoLimit) (hg:s₁.gens=#[])
 (ha:s₁.heap.get? a=some { cls:=.type "list",data:=.seq vs.toArray }) (hi:IntsAre vs ns) (hl:ns.length<=sizeLine) (hr:Room k callerA)
 (hT:∀P∈ts.map (·.1),∃cc,s₁.heap.TableAt cc P #[]) (hPK:∀P∈ts.map (·.1),K.lookup P=none) (htab:CZ K=ts.map λt=>(t.1,t.2.1,⟨t.2.2.1,t.2.2.2,0,0⟩))
 (Fn:∀base:Heap,K.In base->base.Ns mainGlobals mg->(∀b o,b∉ts.map (·.1)->b≠a->s₁.heap.get? b=some o->base.get? b=some o)->FnOk Pg w K mg base CX0 k fa fd [x] (spF K 1 F)) (hbind:∀(s:Shared) (u:Value),BindsTo s fd ⟨[u],[]⟩ [(x,u)])
 (hF:∃hd',F [.ro ns] []=some (.im (.bl true),hd')):
 codeAny (model Pg w) callerA (.call (.ref fa) ⟨[.ref a],[]⟩) (λr s'=>r=.ok (.ret (.bool true))/\OldK s₁.heap s'.heap/\s'.os=s₁.os/\AllBare s'.gens) s₁:=by
 have rv:=LF hi;have lenV:=hi.length;have hP:∀P∈ts.map (·.1),s₁.heap.get? P=some (tabObj #[]):=λP h=>let ⟨cc,t⟩:=hT P h;t.2
 have haP:a∉ts.map (·.1):=λz=>by rw[hP a z]at ha;cases ha
 have core:∀H:Hp,(∀b,b∉ts.map (·.1)->H b=none∨∃o xs,H b=some (.frz o (.lst xs)))->(∀P∈ts.map (·.1),H P=some (.tbl #[]))->SqL K H a (ns.map V.int)->HOk Pg w H s₁.heap->(∀b,H b≠none->b=a∨b∈ts.map (·.1))->(H a≠none->K.lookup a=none) ->
  codeAny (model Pg w) callerA (.call (.ref fa) ⟨[.ref a],[]⟩) (λr s'=>r=.ok (.ret (.bool true))/\OldK s₁.heap s'.heap/\s'.os=s₁.os/\AllBare s'.gens) s₁:=by
  intro H hO hHP hS hok hA hK;have base_of:∀{b:Addr} {o:Obj},s₁.heap.get? b=some o->H b=none->(GS s₁.heap H).get? b=some o:=λe n=>Vl e n;have noA:∀{b:Addr} {o:Obj} {es:Array DictEntry} {ep:Nat},s₁.heap.get? b=some o->o.data=.dict es ep->H b=none:=λ{b o es ep} e d=>by
   cases q:H b with
   |none=>rfl
   |some u=>
    rcases hA b (by rw[q];simp)with e'|e'
    .subst e';rw[ha]at e;cases e;have d':Data.seq vs.toArray _=Data.dict es ep:=d;cases d'
    .rw[hP b e']at e;cases e;cases d
  have nsK:∀{b:Addr} {m:Str->Option Value},s₁.heap.Ns b m->(GS s₁.heap H).Ns b m:=λ{b m} ⟨o,es,ep,e,d,r⟩=>⟨o,es,ep,base_of e (noA e d),d,r⟩
  have hKb:K.In (GS s₁.heap H):=λb o e=>base_of (KX b o e) (by
   cases q:H b with
   |none=>rfl
   |some u=>
    rcases hA b (by rw[q];simp)with e'|e'
    .subst e';rw[hK (by rw[q];simp)]at e;cases e
    .rw[hPK b e']at e;cases e)
  have hM:Mod K mg (GS s₁.heap H):=⟨hKb,nsK hns,⟨mb,nsK hb,hbb⟩,let ⟨mc,h1,h2⟩:=hlim;⟨mc,nsK h1,h2⟩⟩
  have e0:Env0 Pg w K mg (GS s₁.heap H) callerA [] s₁ H:=⟨rfl,hM,λb o e=>Z1 e,Nat.le_of_eq (T7 _ _),trivial,λb hb=>absurd (show b∈([]:List Addr)from hb) 55,hok,.of_eq hg⟩
  have hsp:spF K 1 F [.ref a] H (λv _=>v=.bl true) λ_ _ _=>False:=by
   obtain⟨hd',e⟩:=hF;refine⟨rfl,[],[],[.ro ns],.im (.bl true),hd',⟨rfl,List.nodup_nil,λy hy=>?_,λn o a h=>by simp at h⟩,?_,e,λρ' H' v _ _ r=>?_⟩
   .rw[htab]at hy;obtain⟨t,ht,rfl⟩:=mem_map.mp hy;exact⟨#[],hHP t.1 (mem_map.mpr ⟨t,ht,rfl⟩),.inl rfl⟩
   .simp only[RDs,RD];refine⟨_,_,rfl,⟨a,rfl,dy hS λys z=>?_⟩,rfl⟩;rcases hO a haP with q|⟨o,ys,q⟩<;>(rw[q]at z;cases z)
   .simpa only[RD,RI]using r
  refine jy ((Fn _ hKb (nsK hns) λb o n1 n2 e=>base_of e (by
   cases q:H b with
   |none=>rfl
   |some u=>
    rcases hA b (by rw[q];simp)with e'|e'
    .exact absurd e' n2
    .exact absurd e' n1)).run callerA [] s₁ H ⟨[.ref a],[]⟩ [.ref a] [.ref a] _ _ hr e0 (hbind s₁ (.ref a)) (.cons rfl .nil) hsp) λr s' h=>?_
  cases r with
  |error e=>exact h.elim
  |ok fl=>
   cases fl with
   |next=>exact False.elim h
   |brk=>exact False.elim h
   |cont=>exact False.elim h
   |ret u=>
    obtain⟨v,H',os,bare,un,hok',r',q⟩:=h;have q':v=.bl true:=q;subst q';obtain rfl:u=Value.bool true:=r';have keep:∀b o,b∉ts.map (·.1)->s₁.heap.get? b=some o->s'.heap.get? b=some o:=λb o nb e=>by
     cases q:H b with
     |none=>exact un.keep b o e q (by intro z;exact absurd (show b∈([]:List Addr)from z) 55) 55
     |some u=>
      rcases hO b nb with z|⟨ob,xs,z⟩
      .rw[q]at z;cases z
      .have z2:=un.frzs b ob _ z;obtain⟨e1,_⟩:=hok b _ z;obtain⟨e2,_⟩:=hok' b _ z2;rw[e]at e1;cases e1;exact e2
    refine⟨rfl,⟨λb o e=>?_,λb o e=>?_⟩,os,bare⟩
    .by_cases nb:b∈ts.map (·.1)
     .obtain⟨cc,tb⟩:=hT b nb;obtain⟨more,hm⟩:=un.tbls b #[] (hHP b nb);have hb':s'.heap.get? b=some (tabObj (#[]++more)):=hok' b _ hm;rw[hP b nb]at e;cases e;exact .inr (.inl ⟨tb.isCodeTable,rfl,#[],more,rfl,hb'⟩)
     .exact .inl (keep b o nb e)
    .by_cases nb:b∈ts.map (·.1)
     .obtain⟨more,hm⟩:=un.tbls b #[] (hHP b nb);exact⟨_,hok' b _ hm⟩
     .exact⟨o,keep b o nb e⟩
 cases hk:K.lookup a with
 |some o=>
  have e:=KX a o hk;rw[ha]at e;cases e;refine core (λb=>if b∈ts.map (·.1)then some (.tbl #[])else none) (λb nb=>.inl (ie nb)) (λP hp=>ia hp) (.inr ⟨_,vs.toArray,_,hk,rfl,rfl,rfl,by rw[ip,lenV];exact hl,by simpa using rv⟩) (λb u z=>?_) (λb z=>?_) λz=>absurd (ie haP) z
  .by_cases hb:b∈ts.map (·.1)
   .have z':=(ia hb).symm.trans z;cases z';exact hP b hb
   .have z':=(ie hb).symm.trans z;cases z'
  .by_cases hb:b∈ts.map (·.1)
   .exact .inr hb
   .exact absurd (ie hb) z
 |none=>
  refine core (λb=>if b∈ts.map (·.1)then some (.tbl #[])else if b=a then some (.frz { cls:=.type "list",data:=.seq vs.toArray } (.lst (ns.map V.int)))else none) (λb nb=>?_) (λP hp=>ia hp) (.inl (.inr ⟨{ cls:=.type "list",data:=.seq vs.toArray },(ie haP).trans (ia rfl)⟩)) (λb u z=>?_) (λb z=>?_) λ_=>hk
  .rw[ie nb];by_cases hb:b=a
   .exact .inr ⟨_,_,ia hb⟩
   .exact .inl (ie hb)
  .by_cases hp:b∈ts.map (·.1)
   .have z':=(ia hp).symm.trans z;cases z';exact hP b hp
   .have z:=(ie hp).symm.trans z;by_cases hb:b=a
    .have z':=(ia hb).symm.trans z;cases z';subst hb;exact⟨ha,by rw[iV];exact hl,vs,_,rv,ha⟩
    .have z':=(ie hb).symm.trans z;cases z'
  .by_cases hp:b∈ts.map (·.1)
   .exact .inr hp
   .by_cases hb:b=a
    .exact .inl hb
    .exact absurd ((ie hp).trans (ie hb)) z
def walkL{l:OpenLaw}{n k:Nat}{XP:(Str->Option Value)->Heap->Prop}{YP:World->Heap->Prop}{d:DefRec}{K:Params->Frag}{F:List D->Hd->Option (D×Hd)}(xs:List (Str×Str×Nat×Nat))
 (hn:l.most=some n) (hn2:n<=sizeLine) (hdf:d.params.defaults=[]) (hr:Room k callerA) (hdr:∀x∈xs,∃dr,(recsOf q).find? (λe=>e.name==x.1)=some dr)
 (hF:∀ns:List Int,∃hd',F [.ro ns] []=some (.im (.bl true),hd'))
 (hY:∀(w:World) (h:Heap),YP w h->(K w.params).In h)
 (G:∀(w:World) (mg:Str->Option Value) (fa:Addr) (h:Heap) (c P:Str->Addr),(K w.params).In h->h.Ns mainGlobals mg->mg d.name=some (.ref fa) ->
  (∀x∈xs,h.get? (P x.1)=some (tabObj #[])/\CodeHd h (c x.1) (P x.1)/\∃a o fd,mg x.1=some (.ref a)/\h.get? a=some o/\o.data=.func fd/\fd.code=.ref (c x.1)) ->
  (∃g,(K w.params).lookup mainGlobals=some g)/\∃fd:FuncData,(∀(s:Shared) (u:Value),BindsTo s fd ⟨[u],[]⟩ [("_law_script",u)])/\
   ∀base:Heap,(Au (K w.params) (xs.map λx=>(P x.1,x.2))).In base->base.Ns mainGlobals mg->(∀x∈xs,CodeHd base (c x.1) (P x.1))->(∀x∈xs,base.BuiltinsAt mg (P x.1))->FnOk l.prog w (Au (K w.params) (xs.map λx=>(P x.1,x.2))) mg base CX0 k fa fd ["_law_script"] (spF (Au (K w.params) (xs.map λx=>(P x.1,x.2))) 1 F)):
 PySem.W.WalkO q loose XP YP l.row.toRowW d [] (λf vs=>PySem.call f vs):=by
 refine Att.attach_call hn hdf λw s₀ s₁ mg mb fa o pm cd doc a vs ns Gr Y ho hd hcd hmg hobj hints hlen hg=>?_;have KX:=hY w _ Y;have each:∀x:Str,∃cp:Addr×Addr,(∃y∈xs,y.1=x)->(∃cc,s₁.heap.TableAt cc cp.2 #[])/\CodeHd s₁.heap cp.1 cp.2/\∃a o fd,mg x=some (.ref a)/\s₁.heap.get? a=some o/\o.data=.func fd/\fd.code=.ref cp.1:=by
  intro x;by_cases hx:∃y∈xs,y.1=x
  .obtain⟨y,hy,rfl⟩:=hx;obtain⟨dr,hdr⟩:=hdr y hy;have hnm:dr.name=y.1:=beq_iff_eq.mp (List.find?_some (p:=λe:DefRec=>e.name==y.1) hdr);obtain⟨a',o',fd',c,P,h1,h2,h3,h4,h5,h6⟩:=Gr.T.tab dr (List.mem_of_find?_eq_some hdr);rw[hnm]at h1;exact⟨(c,P),λ_=>⟨⟨_,h6⟩,CodeHd.of h5 h6,a',o',fd',h1,h2,h3,h4⟩⟩
  .exact⟨(0,0),λh=>absurd h hx⟩
 obtain⟨cp,hcp⟩:=Classical.skolem.mp each;have hcp:∀x∈xs,(∃cc,s₁.heap.TableAt cc (cp x.1).2 #[])/\CodeHd s₁.heap (cp x.1).1 (cp x.1).2/\∃a o fd,mg x.1=some (.ref a)/\s₁.heap.get? a=some o/\o.data=.func fd/\fd.code=.ref (cp x.1).1:=λx hx=>hcp x.1 ⟨x,hx,rfl⟩;have hts:∀P∈(xs.map λx=>((cp x.1).2,x.2)).map (·.1),∃x∈xs,P=(cp x.1).2:=λP hP=>by
  obtain⟨t,ht,rfl⟩:=mem_map.mp hP;obtain⟨x,hx,rfl⟩:=mem_map.mp ht;exact⟨x,hx,rfl⟩
 have hP:∀x∈xs,s₁.heap.get? (cp x.1).2=some (tabObj #[]):=λx hx=>by
  obtain⟨⟨cc,t⟩,_⟩:=hcp x hx;exact t.2
 have hmP:mainGlobals∉(xs.map λx=>((cp x.1).2,x.2)).map (·.1):=λz=>by
  obtain⟨x,hx,ez⟩:=hts _ z;obtain⟨o,es,ep,e,dd,_⟩:=Gr.T.g;rw[ez,hP x hx]at e;cases e;cases dd
 obtain⟨⟨g,hgl⟩,fd,hb,hFn⟩:=G w mg fa _ (λx=>(cp x).1) (λx=>(cp x).2) KX Gr.T.g hmg λx hx=>⟨hP x hx,(hcp x hx).2⟩
 refine T1 (ts:=xs.map λx=>((cp x.1).2,x.2)) (K:=Au (K w.params) (xs.map λx=>((cp x.1).2,x.2))) (Z7 KX hgl hmP) Gr.T.g Gr.T.b Gr.T.builtins Gr.T.nolimit hg hobj hints (iw hlen hn2) hr (λP hp=>by obtain⟨x,hx,rfl⟩:=hts P hp;exact(hcp x hx).1) (λP hp=>Z6 hmP hp) (Gu _ _) (λbase kb nb keep=>hFn base kb nb (λx hx=>?_) λx hx=>?_) hb (hF ns)
 .obtain⟨oc,vs',file,tf,flags,tg,inF,text,tt,e1,r1,r2,r3,r4,r5,r6,r7,r8,hne⟩:=(hcp x hx).2.1;have hn:(cp x.1).1∉(xs.map λx=>((cp x.1).2,x.2)).map (·.1):=λz=>by
   obtain⟨y,hy,ez⟩:=hts _ z;rw[ez,hP y hy]at e1;cases e1;cases r1
  exact⟨oc,vs',file,tf,flags,tg,inF,text,tt,keep (cp x.1).1 oc hn (λz=>by rw[z,hobj]at e1;cases e1;exact absurd (show Value.type "list"=Value.type "code" from r1) 107) e1,r1,r2,r3,r4,r5,r6,r7,r8,hne⟩
 .obtain⟨bm,ob,b1,b2,b3,b4,b5,b6⟩:=Gr.T.bmain;have nP:∀y∈xs,bm≠(cp y.1).2:=λy hy z=>by rw[z,hP y hy]at b3;cases b3;cases b4
  have hn:bm∉(xs.map λx=>((cp x.1).2,x.2)).map (·.1):=λz=>by
   obtain⟨y,hy,ez⟩:=hts _ z;exact nP y hy ez
  refine⟨bm,ob,b1,b2,λz=>?_,nP x hx,keep bm ob hn (λz=>by rw[z,hobj]at b3;cases b3;exact absurd (show Value.type "list"=Value.type "module" from b4) 107) b3,b4,b5,b6⟩;obtain⟨o,es,ep,e,dd,_⟩:=Gr.T.g;rw[<- z,b3]at e;cases e;rw[b6]at dd;cases dd
noncomputable def UE(o:Obj):Option Addr:=match o.data with
 | .fields vs=>(match (vs[11]?:Option Value)with
  |some (Value.ref P)=>some P
  | _=>none)
 |_=>none
def Zu{K:Frag}(X:K.In h)(hc:CodeHd h c P)(k:K.lookup c=some o)(e:UE o=some p):P=p:=by
 obtain⟨o',vs,file,tf,flags,tg,inF,text,tt,e1,e2,e3,e4,_⟩:=hc;have:=X _ _ k;rw[e1]at this;cases this;simp only[UE,e3,e4]at e;exact 111 e
end L2
namespace L2
open PySem PySem.W PyProof.Rows
noncomputable abbrev FD:=List D->Hd->Option (D×Hd)
structure EnK where
 P:Program
 w:World
 K:Frag
 mg:Str->Option Value
 base:Heap
structure Df where
 x:Str
 st:Stmt
 ps:List Str
 k:Nat
 F:FD
def Dn(E:EnK)(e:Df):Prop:=∃f fd,DefAt E.K E.mg e.x e.st f fd e.ps
def Dl(E:EnK)(e:Df)(ps:Pos):Prop:=∃f fd c P,DefAt E.K E.mg e.x e.st f fd e.ps/\LamC E.K E.mg E.base fd c P ((e.x++".<locals>.")++"<lambda>") ps
def Kn(E:EnK)(e:Df):Prop:=∃f fd,DefAt E.K E.mg e.x e.st f fd e.ps/\FnOk E.P E.w E.K E.mg E.base CX0 e.k f fd e.ps (spF E.K e.ps.length e.F)/\∀ds hd z,e.F ds hd=some z->104=e.ps.length
def Dl.dn(h:Dl E e ps):Dn E e:=let ⟨f,fd,_,_,d,_⟩:=h;⟨f,fd,d⟩
def okK{st:Stmt}{j k:Nat}(D:Dn E ⟨x,st,ps,k,F⟩)(S:FnScope N ps (A8 st))(hF:F=mkF ps.length N.length m)(hk:k=j+1)
 (h:∀(f:Addr) (cdv:Value) (A:Around) (outer:List Env) (s:Shared) (H:Hp) (Ek:XK),Room j (A.deeper (envOfC x (A8 st) 49 f cdv))->∃t,QSs E.K (CS CX0 E.P E.w E.K E.mg E.base N x (A8 st) f cdv A outer s H Ek).nox (Av st) t m):Kn E ⟨x,st,ps,k,F⟩:=by
 obtain⟨f,fd,D⟩:=D;subst hF;subst hk;exact⟨f,fd,D,Z0 D S (h f),Ki⟩
def okL{st:Stmt}{j k:Nat}(D:Dl E ⟨x,st,ps,k,F⟩ pos)(S:FnScope N ps (A8 st))(hF:F=mkF ps.length N.length m)(hk:k=j+1)
 (h:∀(f c P:Addr) (fd:FuncData) (LC:LamC E.K E.mg E.base fd c P ((x++".<locals>.")++"<lambda>") pos) (cdv:Value) (A:Around) (outer:List Env) (s:Shared) (H:Hp) (Ek:XK),fd.code=cdv->Room j (A.deeper (envOfC x (A8 st) 49 f cdv))->∃t,QSs E.K (CS CX0 E.P E.w E.K E.mg E.base N x (A8 st) f cdv A outer s H Ek).nox (Av st) t m):Kn E ⟨x,st,ps,k,F⟩:=by
 obtain⟨f,fd,c,P,D,LC⟩:=D;subst hF;subst hk;exact⟨f,fd,D,VT D S (h f c P fd LC),Ki⟩
def ok0{st:Stmt}{k k':Nat}(D:Dn E ⟨x,st,ps,k',F⟩):Kn E ⟨x,st,ps,k,λ_ _=>none⟩:=by
 obtain⟨f,fd,D⟩:=D;refine⟨f,fd,D,⟨λvs H Q E h=>h.1,λA outer s H args us vs Q E hr e0 hb hv h=>?_⟩,λ_ _ _ h=>nomatch h⟩;obtain⟨_,_,_,_,_,_,_,_,e,_⟩:=h;cases e
section
variable{K:Frag}{X:Cx}{j k:Nat}{st:Stmt}
def qcW(w:Nat)(G:Kn ⟨X.prog,X.w,X.K,X.mg,X.base⟩ ⟨x,st,ps,j,F⟩)(hr:Room k X.A)(ha:QA K X (e::es) t m)
 (hjk:j<=k:=by first|decide|omega) (hg:Gl X x:=by rfl) (hdb:(x==("__debug__":Str))=false:=by decide) (he:starEach (e::es) X.env=109::starEach es X.env:=by rfl) (hpl:(backTo pos (starEach es X.env)).any (·.1)=false:=by rfl) (hK:X.K=K:=by rfl):
 QE K X (.Call (.Name x p) (e::es) [] pos) (Dy (spF K ps.length F) [] E0 t) (A9 w F m):=by
 subst hK;obtain⟨f,fd,D,G,l⟩:=G;exact V9 _ w G hr D ha l hjk hg hdb he hpl
def qcG(G:Kn ⟨X.prog,X.w,X.K,X.mg,X.base⟩ ⟨x,st,ps,j,F⟩)(hr:Room k X.A)(ha:QA K X (e::es) t m)
 (hjk:j<=k:=by first|decide|omega) (hg:Gl X x:=by rfl) (hdb:(x==("__debug__":Str))=false:=by decide) (he:starEach (e::es) X.env=109::starEach es X.env:=by rfl) (hpl:(backTo pos (starEach es X.env)).any (·.1)=false:=by rfl) (hK:X.K=K:=by rfl):
 QE K X (.Call (.Name x p) (e::es) [] pos) (Dy (spF K ps.length F) [] E0 t) (D0 F m):=by
 subst hK;obtain⟨f,fd,D,G,l⟩:=G;exact VB _ G hr D ha l hjk hg hdb he hpl
noncomputable def Er(a:Arguments):Str:=match a.args with
 |x::_=>x.arg
 |[]=>""
def qbA{κ:Type}(W:Wy κ)(LC:LamC X.K X.mg X.base fd c P q lpos)(hcd:fd.code=cdv)(hr:Room k X.A)(hm:X.mg (bif W.z then "max" else "min")=none)(he:QE K X e te mi)
 (hb:∀(f:Addr) (cd:Value) (s:Shared) (H:Hp),QE K (lCx X X.A.in1 (Er params::frN X ix) (X.env.qual++"<lambda>") scope f cd (AW X.env.cells 116 []) s H) body tb mb)
 (hcv:X.env.code=cdv:=by rfl) (hq:q=X.env.qual++"<lambda>":=by rfl) (S:CSc X scope (frN X ix) ix:=by exact⟨rfl,by decide +kernel,rfl,rfl,rfl,by decide +kernel⟩) (L:LSc scope (Er params):=by exact⟨rfl,rfl,rfl,rfl⟩) (h3:3<=k:=by decide)
 (hbind:∀(cl:List (Str×Addr)) (pm cd ctv us:Value),bindArgs (kla_fn "<lambda>" (X.env.qual++"<lambda>") params body scope cl pm cd ctv) ⟨[us],[]⟩=pure [(Er params,us)]:=by exact λ_ _ _ _ _=>rfl)
 (hcm:X.calm=true:=by rfl) (hg:Gl X (bif W.z then "max" else "min"):=by rfl) (hdef:defaultsOf params X.env=([],[]):=by rfl) (hs:starEach [e] X.env=[109]:=by rfl) (hK:X.K=K:=by rfl):
 QE K X (.Call (.Name (bif W.z then "max" else "min") p) [e] [⟨some "key",.Lambda params body scope lpos,kpos⟩] pos) (Pt W K P (X.env.qual++"<lambda>") lpos ix te tb) (Ez (vwY W.y) W.kp W.op mi ix mb):=by
 subst hq;subst hK;exact⟨Yr W ⟨hcv.trans (hcd.symm.trans LC.code),LC.hd,LC.bl⟩ S L (hr.mono h3) hcm hg hm hbind he.p (λf cd s H=>(hb f cd s H).p) hdef hs,Xv W he.r (hb 0 .none X.s₀ X.H₀).r LC.ti⟩
end
def FnAt(K:Frag)(n:Str)(s:Stmt)(f:Addr)(cd:Value):Prop:=∃oc kV dc pm ct od an sl,nsIn K mainGlobals n=some (some (.ref f))/\K.lookup f=some ⟨oc,od,.func (fnOf n n (C7 s) (Av s) (A8 s) .none kV dc pm an cd ct),sl⟩/\codeIn K cd n=true/\keepIn K (.ref f)=true
def Fe(K:Frag)(e:Df):Prop:=∃f cd,FnAt K e.x e.st f cd
def Fla(K:Frag)(e:Df)(p:Addr):Prop:=∃f ca ob,FnAt K e.x e.st f (.ref ca)/\K.lookup ca=some ob/\UE ob=some p
noncomputable abbrev Xs:=List (Str×Str×Nat×Nat)
def HX(xs:Xs)(mg:Str->Option Value)(h:Heap)(c P:Str->Addr):Prop:=∀x∈xs,h.get? (P x.1)=some (tabObj #[])/\CodeHd h (c x.1) (P x.1)/\∃a o fd,mg x.1=some (.ref a)/\h.get? a=some o/\o.data=.func fd/\fd.code=.ref (c x.1)
noncomputable abbrev tbs(xs:Xs)(P:Str->Addr):List Tb:=xs.map λx=>(P x.1,x.2)
abbrev enM(l:OpenLaw)(w:World)(K:Frag)(xs:Xs)(P:Str->Addr)(mg:Str->Option Value)(base:Heap):EnK:=⟨l.prog,w,Au K (tbs xs P),mg,base⟩
def Bd(e:Df):Prop:=∀(kV doc pm:Value) (an:Option Addr) (cdv ct:Value) (us:List Value),us.length=e.ps.length->bindArgs (fnOf e.x e.x (C7 e.st) (Av e.st) (A8 e.st) .none kV doc pm an cdv ct) ⟨us,[]⟩=pure (e.ps.zip us)
section
variable{K:Frag}{mg:Str->Option Value}{c P:Str->Addr}(X:K.In h)(G:h.Ns mainGlobals mg)(hx:HX xs mg h c P)
include hx in
theorem JD:∀P'∈(tbs xs P).map (·.1),h.get? P'=some (tabObj #[]):=λP' hp=>by
 obtain⟨t,ht,rfl⟩:=mem_map.mp hp;obtain⟨x,hxx,rfl⟩:=mem_map.mp ht;exact(hx x hxx).1
include X G hx in
theorem FnAt.def{e:Df}(H:FnAt K e.x e.st f cd)(b:Bd e):∃fd,DefAt (Au K (tbs xs P)) mg e.x e.st f fd e.ps/\fd.code=cd:=by
 obtain⟨oc,kV,dc,pm,ct,od,an,sl,a,l,cc,k⟩:=H;have F:=Fun.mark (ts:=tbs xs P) (TB (st:=e.st) l cc k) X (JD hx);exact⟨_,⟨F,mg_of X G a,F.binds b⟩,rfl⟩
include X G hx in
theorem Fe.dn(H:Fe K e)(b:Bd e)(l:OpenLaw)(w:World)(base:Heap):Dn (enM l w K xs P mg base) e:=by
 obtain⟨f,cd,H⟩:=H;obtain⟨fd,D,_⟩:=H.def X G hx b;exact⟨f,fd,D⟩
include X G hx in
theorem Fla.code(H:Fla K e p){i j:Nat}(hm:(e.x,q,i,j)∈xs):P e.x=p/\∃f,FnAt K e.x e.st f (.ref (c e.x)):=by
 obtain⟨f,ca,ob,⟨oc,kV,dc,pm,ct,od,an,sl,a,l,cc,k⟩,t,v⟩:=H;obtain⟨_,hh,a',ob',fd,h1,h2,h3,h4⟩:=hx _ hm;have e1:=h1.symm.trans (mg_of X G a);cases e1;have e2:=h2.symm.trans (X _ _ l);cases e2;cases h3;have e3:Value.ref ca=.ref (c e.x):=h4;cases e3;exact⟨Zu X hh t v,f,⟨_,_,_,_,_,_,_,_,a,l,cc,k⟩⟩
include X G hx in
theorem Fla.dl(H:Fla K e p)(b:Bd e){i j:Nat}(hm:(e.x,q,i,j)∈xs){i' j':Nat}(l:OpenLaw)(w:World)(hd:∀x∈xs,CodeHd base (c x.1) (P x.1))(bl:∀x∈xs,base.BuiltinsAt mg (P x.1))(nd:((CZ (Au K (tbs xs P))).map (·.1)).Nodup)(hq:q=(e.x++".<locals>.")++"<lambda>"):
 Dl (enM l w K xs P mg base) e ⟨i,j,i',j'⟩:=by
 obtain⟨_,f,H⟩:=H.code X G hx hm;obtain⟨fd,D,e1⟩:=H.def X G hx b;subst hq;exact⟨f,fd,_,_,D,⟨e1,hd _ hm,bl _ hm,⟨i,j,0,0⟩,by rw[Gu];exact mem_map.mpr ⟨(P e.x,_,i,j),mem_map.mpr ⟨_,hm,rfl⟩,rfl⟩,nd,rfl,rfl⟩⟩
def f8(h:(xs.map λx=>P x.1)=ps)(n:ps.Nodup):((CZ (Au K (tbs xs P))).map (·.1)).Nodup:=by
 rw[Gu,j3,j3];subst h;exact n
end
def Zs(K:Frag):Prop:=∀n∈(["list","tuple","len","range","repr","sum","min","max","abs","all","any","sorted","zip","isinstance","int","bool","str","set","enumerate","reversed","dict"]:List Str),nsIn K mainGlobals n=some none
def Zs.blt{K:Frag}(Z:Zs K){mg:Str->Option Value}(X:K.In h)(G:h.Ns mainGlobals mg):BltA mg:=by
 constructor<;>exact PySem.W.mg_none_of X G (Z _ 55)
def bd1{e:Df}(hl:e.ps.length=1:=by rfl)(h:∀(kV doc pm:Value) (an:Option Addr) (cdv ct:Value) a,bindArgs (fnOf e.x e.x (C7 e.st) (Av e.st) (A8 e.st) .none kV doc pm an cdv ct) ⟨[a],[]⟩=pure (e.ps.zip [a]):=by intros;rfl):Bd e:=λ_ _ _ _ _ _ us hu=>match us,hu.trans hl with|[_],_=>h ..
def bd2{e:Df}(hl:e.ps.length=2:=by rfl)(h:∀(kV doc pm:Value) (an:Option Addr) (cdv ct:Value) a b,bindArgs (fnOf e.x e.x (C7 e.st) (Av e.st) (A8 e.st) .none kV doc pm an cdv ct) ⟨[a,b],[]⟩=pure (e.ps.zip [a,b]):=by intros;rfl):Bd e:=λ_ _ _ _ _ _ us hu=>match us,hu.trans hl with|[_,_],_=>h ..
def bd3{e:Df}(hl:e.ps.length=3:=by rfl)(h:∀(kV doc pm:Value) (an:Option Addr) (cdv ct:Value) a b c,bindArgs (fnOf e.x e.x (C7 e.st) (Av e.st) (A8 e.st) .none kV doc pm an cdv ct) ⟨[a,b,c],[]⟩=pure (e.ps.zip [a,b,c]):=by intros;rfl):Bd e:=λ_ _ _ _ _ _ us hu=>match us,hu.trans hl with|[_,_,_],_=>h ..
def bd4{e:Df}(hl:e.ps.length=4:=by rfl)(h:∀(kV doc pm:Value) (an:Option Addr) (cdv ct:Value) a b c d,bindArgs (fnOf e.x e.x (C7 e.st) (Av e.st) (A8 e.st) .none kV doc pm an cdv ct) ⟨[a,b,c,d],[]⟩=pure (e.ps.zip [a,b,c,d]):=by intros;rfl):Bd e:=λ_ _ _ _ _ _ us hu=>match us,hu.trans hl with|[_,_,_,_],_=>h ..
def Az{ps:List Str}{sc:Scope}(h:(decide (sc.kind=.function)&&!sc.isCoroutine&&!sc.isGenerator&&ndB N&&(N.take ps.length==ps)&&(ps.all λx=>sc.names.lookup x==some .local||sc.names.lookup x==some .cell)&&sc.names.all λy=>y.2 != .free)=true):FnScope N ps sc:=by
 simp only[Bool.and_eq_true,all_eq_true,Bool.or_eq_true,beq_iff_eq,jL,Bool.not_eq_true',bne_iff_ne]at h;obtain⟨⟨⟨⟨⟨⟨h1,h2⟩,h3⟩,h4⟩,h5⟩,h6⟩,h7⟩:=h;exact⟨h1,h2,h3,Fi h4,h5,h6,h7⟩
abbrev HG(l:OpenLaw)(w:World)(K:Frag)(xs:Xs)(mg:Str->Option Value)(c P:Str->Addr)(fa:Addr)(e:Df):Prop:=(∃g,K.lookup mainGlobals=some g)/\∃fd:FuncData,(∀(s:Shared) (v:Value),BindsTo s fd ⟨[v],[]⟩ [("_law_script",v)])/\∀base:Heap,(Au K (tbs xs P)).In base->base.Ns mainGlobals mg->(∀x∈xs,CodeHd base (c x.1) (P x.1))->(∀x∈xs,base.BuiltinsAt mg (P x.1))->FnOk l.prog w (Au K (tbs xs P)) mg base CX0 e.k fa fd ["_law_script"] (spF (Au K (tbs xs P)) 1 e.F)
def Vm{K:Frag}{mg:Str->Option Value}{c P:Str->Addr}{e:Df}(X:K.In h)(G:h.Ns mainGlobals mg)(hfa:mg e.x=some (.ref fa))(hx:HX xs mg h c P)(H:Fe K e)(b:Bd e)(hps:e.ps=(["_law_script"]:List Str))
 (ok:∀base:Heap,(∀x∈xs,CodeHd base (c x.1) (P x.1))->(∀x∈xs,base.BuiltinsAt mg (P x.1))->Kn (enM l w K xs P mg base) e):
 HG l w K xs mg c P fa e:=by
 obtain⟨f,cd,H⟩:=H;obtain⟨fd,D,_⟩:=H.def X G hx b;obtain⟨oc,kV,dc,pm,ct,od,an,sl,a,lk,cc,k⟩:=H;have hg:∃g,K.lookup mainGlobals=some g:=by
  cases e:K.lookup mainGlobals with
  |some g=>exact⟨g,rfl⟩
  |none=>unfold nsIn at a;rw[e]at a;cases a
 have e1:=hfa.symm.trans D.mg;cases e1;refine⟨hg,fd,λs v=>?_,λbase _ _ hd bl=>?_⟩
 .obtain⟨⟨oc',od',kV',dc',pm',an',cd',ct',sl',rfl,_,_⟩,_⟩:=D.fn;have:=b kV' dc' pm' an' cd' ct' [v] (by rw[hps];rfl);rw[hps]at this;exact .of_eq this
 .obtain⟨f',fd',D',F',_⟩:=ok base hd bl;have e2:=D.mg.symm.trans D'.mg;cases e2;obtain⟨⟨oc',od',kV',dc',pm',an',cd',ct',sl',h1,h2,_⟩,_⟩:=D.fn;obtain⟨⟨oc2,od2,kV2,dc2,pm2,an2,cd2,ct2,sl2,h3,h4,_⟩,_⟩:=D'.fn;have e3:=h2.symm.trans h4;cases e3;rw[hps]at F';exact F'
end L2
namespace L2
open PySem PySem.Spec PyProof.Rows
noncomputable def JT{α:Type}:List (Option α)->Option (List α)
 |[]=>some []
 |some x::r=>(JT r).map (x::·)
 |none::_=>none
def pyN:Nat->Hd->D->Option PyData
 |_,_,.im i=>some i.py
 |_,_,.ro ns=>some (.list (I.pys (ns.map I.int)))
 |0,_,_=>none
 |n+1,hd,.tm ds=>(JT (ds.map (pyN n hd))).map .tuple
 |n+1,hd,.mu k=>match hd[k]? with
  |some (.lst ds)=>(JT (ds.map (pyN n hd))).map .list
  |_=>none
 |_+1,_,.op _ _ _=>none
 |_+1,_,.fv _ _=>none
section
variable{K:Frag}
theorem JS{f:D->Option PyData}(hf:∀d v p,RD K ρ H d v->f d=some p->Rep K H p v):∀{ds:List D} {xs:List V} {ps:List PyData},RDs K ρ H ds xs->JT (ds.map f)=some ps->Bc K H ps xs
 |[],xs,ps,r,e=>by
  simp only[RDs]at r;subst r;simp[JT]at e;subst e;simp only[Bc]
 |d::ds,xs,ps,r,e=>by
  simp only[RDs]at r;obtain⟨x,r',rfl,h1,h2⟩:=r;rw[iq]at e;cases q:f d with
  |none=>rw[q]at e;cases e
  |some p=>
   rw[q]at e;obtain⟨ps',e1,rfl⟩:=iT (show(JT (ds.map f)).map (p::·)=some ps from e);simp only[Bc];exact⟨x,r',rfl,hf d x p h1 q,JS hf h2 e1⟩
theorem Ke(hR:RH K ρ H hd):∀(n:Nat) (d:D) (v:V) (p:PyData),RD K ρ H d v->pyN n hd d=some p->Rep K H p v
 |n,.im i,v,p,h,e=>Do (hd:=hd) hR h (by cases n<;>exact e)
 |n,.ro ns,v,p,h,e=>Do (hd:=hd) hR h (by cases n<;>exact e)
 |0,.tm ds,v,p,h,e=>by cases e
 |0,.mu k,v,p,h,e=>by cases e
 |0,.op _ _ _,v,p,h,e=>by cases e
 |n+1,.op _ _ _,v,p,h,e=>by cases e
 |0,.fv _ _,v,p,h,e=>by cases e
 |n+1,.fv _ _,v,p,h,e=>by cases e
 |n+1,.tm ds,v,p,h,e=>by
  simp only[RD]at h;obtain⟨a,xs,rfl,q,r⟩:=h;obtain⟨ps,e1,rfl⟩:=iT (show(JT (ds.map (pyN n hd))).map PyData.tuple=some p from e);simp only[Rep];exact⟨a,xs,rfl,q,JS (λd v p=>Ke hR n d v p) r e1⟩
 |n+1,.mu k,v,p,h,e=>by
  simp only[pyN]at e;simp only[RD]at h;obtain⟨a,hn,rfl⟩:=h;split at e
  .next ds q=>
   obtain⟨ps,e1,rfl⟩:=iT e;obtain⟨xs,e2,e3⟩:=hR.lst hn q;simp only[Rep];exact⟨a,xs,rfl,SqL.of e2,JS (λd v p=>Ke hR n d v p) e3 e1⟩
  .cases e
end
open Classical in
noncomputable def Nm:List D->Hd->Option (D×Hd)
 |[d],hd=>match pyN 30 hd d with
  |some p=>if cS p then some (.im (.str p.shown),hd)else none
  |none=>none
 |_,_=>none
def Uc{K:Frag}:RF K (M5 K) Nm:=by
 intro ρ H hd ds vs Q z hd' hR h1 hf hQ;unfold Nm at hf;split at hf
 .split at hf
  .next p e=>
   split at hf
   .next c=>
    cases hf;simp only[RDs]at h1;obtain⟨x,r,rfl,rx,rfl⟩:=h1;exact⟨x,p,rfl,Ke hR _ _ _ _ rx e,c.1,c.2.1,c.2.2.1,c.2.2.2.1,c.2.2.2.2,hQ ρ H _ .refl hR (by simp[RD,RI])⟩
   .cases hf
  .cases hf
 .cases hf
end L2
namespace L2
open PySem PySem.Spec PyProof.Rows PySem.W
def Sa(K:Frag):List V->Hp->VK->Prop:=λxs H Q=>(xs=[.non]/\Q (.str "None") H)∨NG xs H Q∨(∃i,xs=[.int i]/\i.natAbs.log2<1920/\Q (.str (toString i)) H)∨(∃x,xs=[.str x]/\(reprText x).length<=sizeLine/\Q (.str (reprText x)) H)∨M5 K xs H Q
def RQ(K:Frag){X:Cx}(hg:X.A.guards=some [])(hu:X.A.units+64<cLine)(hK:X.K=K:=by rfl):CallR X (.builtin "repr") (Sa K):=by
 intro pins s σ H xs us Q I r h;rcases h with⟨rfl,q⟩|h|h|⟨x,rfl,hx,q⟩|h
 .obtain⟨u,rfl,ru⟩:=BJ r;cases ru;exact PySem.P.repr_of_none ⟨.str "None",H,I.tok _,⟨_,rfl⟩,q⟩
 .exact RP pins s σ H xs us Q I r h
 .exact RJ pins s σ H xs us Q I r h
 .obtain⟨u,rfl,ru⟩:=BJ r;obtain⟨t,rfl⟩:=ru;exact PySem.P.repr_of_str ⟨.str (reprText x),H,I.tok _,⟨_,rfl⟩,q⟩ hx
 .exact OU K hg hu hK pins s σ H xs us Q I r h
open Classical in
noncomputable def F8:List D->Hd->Option (D×Hd)
 |[.im .non],hd=>some (.im (.str "None"),hd)
 |[.im (.bl k)],hd=>No [.im (.bl k)] hd
 |[.im (.int i)],hd=>Nn [.im (.int i)] hd
 |[.im (.str x)],hd=>if(reprText x).length<=sizeLine then some (.im (.str (reprText x)),hd)else none
 |ds,hd=>Nm ds hd
def Uf{K:Frag}:RF K (Sa K) F8:=by
 intro ρ H hd ds vs Q z hd' hR h1 hf hQ;unfold F8 at hf;split at hf
 .cases hf;simp only[RDs,RD,RI]at h1;obtain⟨x,r,rfl,rfl,rfl⟩:=h1;exact .inl ⟨rfl,hQ ρ H _ .refl hR (by simp[RD,RI])⟩
 .exact .inr (.inl (Ue ρ H _ _ _ Q z hd' hR h1 hf hQ))
 .exact .inr (.inr (.inl (Ud ρ H _ _ _ Q z hd' hR h1 hf hQ)))
 .split at hf
  .next c=>
   cases hf;simp only[RDs,RD,RI]at h1;obtain⟨x,r,rfl,rfl,rfl⟩:=h1;exact .inr (.inr (.inr (.inl ⟨_,rfl,c,hQ ρ H _ .refl hR (by simp[RD,RI])⟩)))
  .cases hf
 .exact .inr (.inr (.inr (.inr (Uc ρ H _ _ _ Q z hd' hR h1 hf hQ))))
end L2
namespace L2
open PySem PySem.Spec PyProof.Rows
def Ra(v:Option Addr)(h:Heap)(T:Addr):Prop:=∃oT ts,h.get? T=some oT/\oT.data=.fields ts/\ts[3]?=some (v.elim Value.none λf=>rawInt f)
def gL(h:Heap)(T:Addr):Prop:=∃oT ts,h.get? T=some oT/\oT.data=.fields ts/\3<ts.size
def TbL(L:Addr)(h:Heap)(a:Addr)(tb:Value):Prop:=tb=.none∨∃T v,tb=.ref T/\T≠a/\(v=none∨v=some L)/\Ra v h T
section
variable{A:Around}{E:Value->Shared->Prop}{s:Shared}
def Z2{Q:Unit->Shared->Prop}(hfr:A.frames=some (env::outer))(hl:s.heap.FunFrames base (env::outer))(hf:env.frame=some L)(he:Exo s.heap a C dx tb)(ht:TbL L s.heap a tb)
 (h:∀h' T,(49<=T∨tb=.ref T)->T≠a->Exo h' a C dx (.ref T)->gL h' T->Note (frs (env::outer)) a tb s.heap h'->Q () { s with heap:=h' }):
 wpAny M A (noteFrame (.ref a) env) Q E s:=by
 have he0:=he;obtain⟨vs,sl,ha,h1⟩:=he;have sz:1<vs.size:=(Array.getElem?_eq_some_iff.mp h1).1;have frF:∀b∈frs (env::outer),∃o,s.heap.get? b=some o/\∀vs,o.data≠.fields vs:=λb hb=>(hl.mem hb).2;have naF:a∉frs (env::outer):=λhb=>by
  obtain⟨o,e,n⟩:=frF a hb;rw[ha]at e;cases e;exact n vs rfl
 have main:∀(h0:Heap) (hadNext:Bool),h0.objs.size=49->h0.get? a=some ⟨.ref C,dx,.fields vs,sl⟩->(∀b o,s.heap.get? b=some o->.ref b≠tb->h0.get? b=some o)->(∀b o,s.heap.get? b=some o->∃o',h0.get? b=some o')->h0.FunFrames base (env::outer) ->
  wpAny M A (do let f <- frameOf env;let pl <- entryPlaceOf L hadNext;let b <- EntryCells.newEntry tb f .none (rawInt L) .none pl;setField (.ref a) 1 b) Q E { s with heap:=h0 }:=by
  intro h0 hadNext hz ha0 k0 t0 hl0;refine ic (wpAny_frameOf_fun (s:={ s with heap:=h0 }) hfr hl0 hf λh1' hs1=>?_);refine ic (wpAny_entryPlaceOf λpl hpl=>?_);unfold EntryCells.newEntry newFields;refine ic (jK ?_ (hpl.sizeOk5 _ _ _ _ _));generalize hob:({ cls:=.type "traceback",dict:=none,data:=.fields ([tb,.ref L,.none,rawInt L,.none]++(if pl.isEmpty then 108 6 Value.none else pl)).toArray }:Obj)=ob;have hobd:ob.data=.fields ([tb,.ref L,.none,rawInt L,.none]++(if pl.isEmpty then 108 6 Value.none else pl)).toArray:=by rw[<- hob]
  have z1:h1'.objs.size=s.heap.objs.size:=hs1.1.trans hz;have ha1:h1'.get? a=some ⟨.ref C,dx,.fields vs,sl⟩:=(hs1.2.1 a naF).trans ha0;have ha2:=Heap.get?_push_of_some (h:=h1') ob ha1;have nT:h1'.objs.size≠a:=jF (58 ha1);have ha3:=Heap.get?_update_self (Obj.mapFields (·.setIfInBounds 1 (Value.ref h1'.objs.size))) ha2 (Obj.isFreed_of_fields (Obj.data_mapFields rfl _));have hT3:=(Heap.get?_update_other (h1'.push ob) (Obj.mapFields (·.setIfInBounds 1 (Value.ref h1'.objs.size))) (Ne.symm nT)).trans (115 h1' (by rw[<- hob];rfl));have three:3<([tb,.ref L,.none,rawInt L,.none]++(if pl.isEmpty then 108 6 Value.none else pl)).toArray.size:=by simp only[ip,jb,j8,jm];omega
  refine wpAny_setField ha2 rfl sz (h _ h1'.objs.size (.inl (Nat.le_of_eq z1.symm)) nT ⟨_,sl,ha3,by simp[sz]⟩ ⟨_,_,hT3,hobd,three⟩ ?_);have up:∀b o,h1'.get? b=some o->b≠a->((h1'.push ob).update a (Obj.mapFields (·.setIfInBounds 1 (Value.ref h1'.objs.size)))).get? b=some o:=λb o e n=>by
   rw[Heap.get?_update_other _ _ (Ne.symm n)];exact 53 _ e
  refine⟨λb o e n1 n2 n3=>up b o ((hs1.2.1 b n3).trans (k0 b o e n2)) n1,λb o e hb=>?_,λb o e=>?_⟩
  .obtain⟨o',e',n⟩:=frF b hb;rw[e]at e';cases e';have hbt:.ref b≠tb:=by
    rcases ht with rfl|⟨T,v,rfl,_,_,oT,ts,eT,dT,_⟩
    .exact λq=>by cases q
    .intro q;cases q;rw[e]at eT;cases eT;exact n ts dT
   obtain⟨sl',e1⟩:=hs1.2.2 b o (k0 b o e hbt);exact⟨sl',up b _ e1 λq=>naF (q ▸ hb)⟩
  .by_cases q:b=a
   .subst q;exact⟨_,ha3⟩
   .obtain⟨o0,e0⟩:=t0 b o e;obtain⟨sl',e1⟩:=hs1.2.2 b o0 e0;exact⟨_,up b _ e1 q⟩
 unfold noteFrame;simp only[hf];refine ic (jV ha rfl h1 ?_);rcases ht with rfl|⟨T,v,rfl,nTa,hv,oT,ts,eT,dT,e3⟩
 .rw[ie 107];exact main s.heap _ rfl ha (λb o e _=>e) (λb o e=>⟨o,e⟩) hl
 .rw[ia (show(Value.ref T != Value.none)=true from by simp)];refine ic (jV eT dT e3 ?_);rcases hv with rfl|rfl
  .rw[ie (by simp[rawInt])];refine ic (wpAny_setField eT dT (Array.getElem?_eq_some_iff.mp e3).1 ?_);have oth:∀b,b≠T->(s.heap.update T (Obj.mapFields (·.setIfInBounds 3 Value.none))).get? b=s.heap.get? b:=λb n=>Heap.get?_update_other _ _ (Ne.symm n);refine main _ _ 55 ((oth a (Ne.symm nTa)).trans ha) (λb o e n=>(oth b λq=>n (by rw[q])).trans e) (λb o e=>?_) (hl.of_keeps λb o e n=>⟨o,(oth b λq=>?_).trans e,rfl⟩)
   .by_cases q:b=T
    .subst q;exact⟨_,Heap.get?_update_self _ eT (Obj.isFreed_of_fields (Obj.data_mapFields dT _))⟩
    .exact⟨o,(oth b q).trans e⟩
   .subst q;rw[eT]at e;cases e;exact n ts dT
  .rw[ia 55];exact ik (h s.heap T (.inr rfl) nTa he0 ⟨oT,ts,eT,dT,(Array.getElem?_eq_some_iff.mp e3).1⟩ ⟨λb o e _ _ _=>e,λb o e _=>⟨o.slots,e⟩,λb o e=>⟨o,e⟩⟩)
def Oy(v:Option Addr){Q:Unit->Shared->Prop}(hfr:A.frames=some (env::outer))(hl:s.heap.FunFrames base (env::outer))(hf:env.frame=some L)(he:Exo s.heap a C dx tb)(ht:TbL L s.heap a tb)
 (h:∀h' T,(49<=T∨tb=.ref T)->T≠a->Exo h' a C dx (.ref T)->Ra v h' T->Note (frs (env::outer)) a tb s.heap h'->Q () { s with heap:=h' }):
 wpAny M A (noteFrame (.ref a) env) (λ_ s2=>wpAny M A (setFlight (.ref a) v) Q E s2) E s:=by
 refine Z2 hfr hl hf he ht λh' T hT nT ex tr N=>?_;obtain⟨vs,sl,ha,h1⟩:=id ex;obtain⟨oT,ts,eT,dT,lt⟩:=tr;unfold setFlight;refine ic (jV (s:={ s with heap:=h' }) ha rfl h1 ?_);rw[ia (show(Value.ref T != Value.none)=true from by simp)];have oth:∀b,b≠T->(h'.update T (Obj.mapFields (·.setIfInBounds 3 (v.elim Value.none λf=>rawInt f)))).get? b=h'.get? b:=λb n=>Heap.get?_update_other _ _ (Ne.symm n);have nF:T∉frs (env::outer):=λhb=>by
  obtain⟨o,e,n⟩:=(hl.mem hb).2;rcases hT with z|z
  .exact absurd (58 e) (not_lt.mpr z)
  .rcases ht with y|⟨T',v',y,_,_,oT',ts',eT',dT',_⟩
   .rw[y]at z;cases z
   .rw[y]at z;cases z;rw[e]at eT';cases eT';exact n ts' dT'
 refine wpAny_setField (s:={ s with heap:=h' }) eT dT lt (h _ T hT nT ⟨vs,sl,(oth a (Ne.symm nT)).trans ha,h1⟩ ⟨_,_,Heap.get?_update_self _ eT (Obj.isFreed_of_fields (Obj.data_mapFields dT _)),Obj.data_mapFields dT _,by simp[lt]⟩ ⟨λb o e n1 n2 n3=>?_,λb o e hb=>?_,λb o e=>?_⟩)
 .have:b≠T:=λz=>by
   subst z;rcases hT with z|z
   .exact absurd (58 e) (not_lt.mpr z)
   .exact n2 z.symm
  rw[oth b this];exact N.keep b o e n1 n2 n3
 .obtain⟨sl',e1⟩:=N.slot b o e hb;exact⟨sl',(oth b λz=>nF (z ▸ hb)).trans e1⟩
 .obtain⟨o',e1⟩:=N.there b o e;by_cases z:b=T
  .subst z;exact⟨_,Heap.get?_update_self _ eT (Obj.isFreed_of_fields (Obj.data_mapFields dT _))⟩
  .exact⟨o',(oth b z).trans e1⟩
def Ve{Q:Unit->Shared->Prop}(hfr:A.frames=some (env::outer))(hl:s.heap.FunFrames base (env::outer))(hf:env.frame=some L)(he:Exo s.heap a C dx tb)(ht:TbL L s.heap a tb)
 (h:∀h' T,(49<=T∨tb=.ref T)->T≠a->Exo h' a C dx (.ref T)->Ra none h' T->Note (frs (env::outer)) a tb s.heap h'->Q () { s with heap:=h' }):wpAny M A (leaving env (.ref a)) Q E s:=by
 unfold leaving;exact ic (Oy none hfr hl hf he ht h)
end
def XE(X:Cx)(pins:List (Addr×Obj))(Q:VK)(e:Value)(s':Shared):Prop:=∃a C dx tb fs σ' H',e=.ref a/\Inv X pins σ' H' s'/\Exo s'.heap a C dx tb/\TbL X.env.locals s'.heap a tb/\H' a=some (.ext (XO a C dx))/\
 (∀T,tb=.ref T->H' T=none/\New X pins T)/\XdAt H' dx fs/\Q (.ref a) H'
noncomputable def CXG(P:Program)(w:World):CXT:=λouter H s E e s'=>∃a C dx T fs H',e=.ref a/\s'.os=s.os/\AllBare s'.gens/\Un (frs outer) [] H H' s.heap s'.heap/\HOk P w H' s'.heap/\Exo s'.heap a C dx (.ref T)/\T≠a/\Ra none s'.heap T /\
 H' T=none/\49<=T/\H' a=some (.ext (XO a C dx))/\XdAt H' dx fs/\E (.ref a) none H'
section
def U0{K:Frag}{mg:Str->Option Value}{E':Value->Shared->Prop}
 (h:XE (CS CX P w K mg base N qual scope fa cd A outer s H E).nox pins Q e s') (hq:∀a H',Q (.ref a) H'->E (.ref a) none H'):
 wpAny M (A.deeper (envOfC qual scope 49 fa cd)) (leaving (envOfC qual scope 49 fa cd) e) (λ_ s''=>CXG P w outer H s E e s'') E' s':=by
 obtain⟨a,C,dx,tb,fs,σ',H',rfl,I,ex,ht,ha,hT,hd,q⟩:=h;have fr:=I.ok.frames;refine Ve (base:=base) (L:=49) fr I.stack rfl ex ht λh' T z nT ex' tr Nt=>?_;have hfs:∀b∈frs (envOfC qual scope 49 fa cd::outer),H' b=none:=I.stkFree;have hok':=NV I.hok Nt ex' ha (λT e=>(hT T e).1) hfs;have nx:∀b,b∉(CS CX P w K mg base N qual scope fa cd A outer s H E).nox.ex:=λb z=>absurd (show b∈([]:List Addr)from z) 55;have u:=I.base;have out:∀b o,s.heap.get? b=some o->H b=none->b≠a/\.ref b≠tb/\b≠s.heap.objs.size:=λb o e n=>by
  have n':H' b=none:=u.free b o e n (nx b);refine⟨(λz=>by subst z;rw[ha]at n';cases n'),λz=>?_,iu (58 e)⟩;rcases(hT b z.symm).2.1 with y|y
  .exact absurd y (nx b)
  .exact absurd (iZ (58 e) y) (jd _)
 have inF:∀b,b∈frs (envOfC qual scope 49 fa cd::outer)->b=49∨b∈frs outer:=λb hb=>by
  have:frs (envOfC qual scope 49 fa cd::outer)=49::frs outer:=rfl;rw[this]at hb;exact mem_cons.mp hb
 have tf:H' T=none/\49<=T:=by
  rcases z with z|z
  .exact⟨I.hok.fresh z,iw I.sz z⟩
  .refine⟨(hT T z).1,?_⟩;rcases(hT T z).2.1 with y|y
   .exact absurd y (nx T)
   .exact y
 refine⟨a,C,dx,T,fs,H',rfl,I.os,I.bare,⟨λb o e n nf _=>?_,λb o e n hf _=>?_,λb o e n _=>u.free b o e n (nx b),λb o e _=>?_,u.tups,u.frzs,u.tbls⟩,hok',ex',nT,tr,tf.1,tf.2,ha,hd,hq a H' q⟩
 .obtain⟨n1,n2,n3⟩:=out b o e n;exact Nt.keep b o (u.keep b o e n nf (nx b)) n1 n2 λhb=>(inF b hb).elim n3 nf
 .obtain⟨sl,e1⟩:=u.slot b o e n hf (nx b);obtain⟨sl',e2⟩:=Nt.slot b _ e1 (by
   show b∈49::frs outer;exact il _ hf)
  exact⟨sl',e2⟩
 .obtain⟨o',e1⟩:=u.there b o e (nx b);exact Nt.there b o' e1
def Rh(I:Inv X pins σ H s)(h:CXG X.prog X.w X.stack H s E e s')(hq:∀a H',E (.ref a) none H'->Q (.ref a) H'):XE X pins Q e s':=by
 obtain⟨a,C,dx,T,fs,H',rfl,os,bare,un,hok,ex,nT,tr,hT,z,ha,hd,q⟩:=h;exact⟨a,C,dx,.ref T,fs,σ,H',rfl,I.call' (ch:=[]) os un hok bare (λb z=>absurd z 55),ex,.inr ⟨T,none,rfl,nT,.inl rfl,tr⟩,ha,λT' e=>by cases e;exact⟨hT,I.new z⟩,hd,hq a H' q⟩
end
section
variable{fI:Addr}{pos:Pos}{te:TE}
def dv(K:Frag)(ta tv:TE)(f:Str):TS:=λD σ H=>tv σ H λy H1=>ta σ H1 λx H2=>∃a C t fI,x=.ref a/\H2 a=some (.ext (X0 a C t))/\XC K C fI/\D5 K C f /\
 ∀dx,H2 dx=none->dx≠a->D.nx σ (upd (upd H2 dx (.xd [(f,y)])) a (.ext (X1 a C dx t)))
def TJ{h:Heap}(e:h.get? a=some o):ObjOk P w H h a (.ext λh=>h.get? a=some o):=⟨e,⟨_,e⟩,λ_ _ x k=>k _ x⟩
def YW(ha:PE X o ta)(hv:PE X value tv)(hs:swapsWith value (some (.Attribute o f pos')) pos.line X.env=pure false):PS X (.Assign [.Attribute o f pos'] value pos) (dv X.K ta tv f):=by
 intro pins s σ H D I h;refine plainObj_wpAny_Assign_Attribute (thn (hv pins s σ H _ I h) λuv s1 ⟨y,H1,I1,ry,q⟩=>thn (ha pins s1 σ H1 _ I1 q) λov s2 ⟨x,H2,I2,rx,a,C,t,fI,ex,ea,c,n,q2⟩=>?_) hs;subst ex;obtain rfl:ov=Value.ref a:=rx;obtain⟨x0,_⟩:=(show ObjOk X.prog X.w H2 s2.heap a (.ext (X0 a C t))from I2.hok a _ ea)
 have hx:s2.heap.get? a=some ⟨.ref C,none,.fields #[.ref t,.none,.none,.none,.bool false,.none],#[]⟩:=x0;refine XR I2.kIn c hx n λh' e1 e2 k=>⟨σ,_,?_,q2 s2.heap.objs.size (I2.hok.fresh (ig _)) (jF (58 hx))⟩
 have nd:H2 s2.heap.objs.size=none:=I2.hok.fresh (ig _);have nda:s2.heap.objs.size≠a:=jF (58 hx);have old:∀b u,H2 b=some u->b≠a->(upd (upd H2 s2.heap.objs.size (.xd [(f,y)])) a (.ext (X1 a C s2.heap.objs.size t))) b=some u:=λb u q n=>by
  rw[upd_ne n,upd_ne (AJ q nd)];exact q
 have non:∀b o,s2.heap.get? b=some o->H2 b=none->(upd (upd H2 s2.heap.objs.size (.xd [(f,y)])) a (.ext (X1 a C s2.heap.objs.size t))) b=none/\b≠a:=λb o q n=>by
  have n1:b≠a:=λz=>by rw[z,ea]at n;cases n
  exact⟨by rw[upd_ne n1,upd_ne (iu (Heap.lt_size q))];exact n,n1⟩
 refine I2.un ⟨λb o q n _ _=>k b o (non b o q n).2 q,λb o q n _ _=>⟨o.slots,k b o (non b o q n).2 q⟩,λb o q n _=>(non b o q n).1,λb o q _=>?_,λb xs q=>old b _ q (λz=>by rw[z,ea]at q;cases q),λb o u q=>old b _ q (λz=>by rw[z,ea]at q;cases q),
  λb ps q=>⟨#[],by rw[old b _ q (λz=>by rw[z,ea]at q;cases q)];simp⟩⟩ λb u q=>?_
 .by_cases z:b=a
  .subst z;exact⟨_,e1⟩
  .exact⟨o,k b o z q⟩
 .by_cases z:b=a
  .subst z;rw[AF]at q;cases q;exact TJ e1
  .rw[upd_ne z]at q;by_cases z':b=s2.heap.objs.size
   .subst z';rw[AF]at q;cases q;refine⟨_,e2,λg=>?_⟩;show RelO (List.lookup g [(f,y)]) (if g=f then some uv else none);by_cases gz:g=f
    .subst gz;rw[ia rfl,List.lookup_cons_self];exact ry
    .have g':(g==f)=false:=by simpa using gz
     rw[ie gz];unfold List.lookup;rw[g'];exact True.intro
   .rw[upd_ne z']at q;refine(I2.hok b u q).stay (λc v hc r=>k c v ?_ r) (λc r=>old c _ r ?_) λc xs r=>old c _ r ?_
    .rcases hc with rfl|hc
     .exact z
     .intro zz;rw[zz,ea]at hc;cases hc
    .intro zz;rw[zz,ea]at r;cases r
    .intro zz;rw[zz,ea]at r;cases r
def spI(C:Addr)(f:Str):Sp:=λvs H Q _=>∃a v t,vs=[.ref a,v]/\H a=some (.ext (X0 a C t))/\∀dx,H dx=none->dx≠a->Q .non (upd (upd H dx (.xd [(f,v)])) a (.ext (X1 a C dx t)))
end
def Yz{K:Frag}{mg:Str->Option Value}{st:Stmt}{fI:Addr}(F:Fun K "__init__" qual st fa fd)(S:FnScope ["self",pw] ["self",pw] (A8 st))
 (hb:Av st=[.Assign [.Attribute (.Name "self" p1) f p2] (.Name pw p3) p4]) (c:XC K C fI) (n:D5 K C f) (hs:∀cdv A outer s H E,swapsWith (.Name pw p3) (some (.Attribute (.Name "self" p1) f p2)) p4.line (CS CX0 P w K mg base ["self",pw] qual (A8 st) fa cdv A outer s H E).env=pure false)
 (v0:Vis (A8 st) "self") (v1:Vis (A8 st) pw) (d1:(pw==("__debug__":Str))=false) (d2:(pw==("__classdict__":Str))=false):FnOk P w K mg base CX0 1 fa fd ["self",pw] (spI C f):=by
 refine F.ok (N:=["self",pw]) S (λvs H Q E h=>?_) λcdv A outer s H vs Q E hr hsp=>?_
 .obtain⟨a,v,t,rfl,_⟩:=h;rfl
 .rw[hb];refine⟨_,Ot (YW (Gz (i:=0) rfl v0 107 107) (Gz (i:=1) rfl v1 d1 d2) (hs cdv A outer s H E)),?_⟩;obtain⟨a,v,t,rfl,ha,q⟩:=hsp;exact⟨v,rfl,.ref a,rfl,a,C,t,fI,rfl,ha,c,n,q⟩
end L2
namespace L2
open PySem PySem.Spec PyProof.Rows
open Builtin Builtin.ObjectAttr
section
variable{fI:Addr}{pos:Pos}{te:TE}
def spJ(C:Addr)(fs:List Str):Sp:=λvs H Q _=>∃a xs t,vs=.ref a::xs/\105=fs.length/\H a=some (.ext (X0 a C t))/\(fs=[]->Q .non H)/\(fs≠[]->∀dx,H dx=none->dx≠a->Q .non (upd (upd H dx (.xd (fs.zip xs))) a (.ext (X1 a C dx t))))
end
def VS{K:Frag}{mg:Str->Option Value}(h:FnOk P w K mg base CX0 1 fa fd ["self",pw] (spI C f)):FnOk P w K mg base CX0 1 fa fd ["self",pw] (spJ C [f]):=by
 refine⟨λvs H Q E q=>?_,λA outer s H args us vs Q E hr he hb hv q=>?_⟩
 .obtain⟨a,xs,t,rfl,hl,_⟩:=q
  match xs,hl with
  |[x],_=>rfl
 .obtain⟨a,xs,t,rfl,hl,ha,q⟩:=q
  match xs,hl with
  |[x],_=>exact h.run A outer s H args us _ Q E hr he hb hv ⟨a,x,t,rfl,ha,q.2 55⟩
end L2
namespace L2
open PySem PySem.Spec PyProof.Rows
section
variable(C:Addr)(f:Str)
noncomputable def Ends.non(D:Ends):Ends:={ D with rt:=λ_ _=>False }
end
section
variable{C fI:Addr}{f:Str}{X:Cx}{st:Stmt}{rest:List Stmt}{t u:TS}{e:Expr}{es:List Expr}{te tb:TE}{pos:Pos}
def thx{α:Type}{M:Model}{A:Around}{m:Sem α}{P Q:α->Shared->Prop}{E E':Value->Shared->Prop}{s:Shared}(h:wpAny M A m P E s)(k:∀v s,P v s->Q v s)(j:∀e s,E e s->E' e s):wpAny M A m Q E' s:=iX h k j
noncomputable def Mg(t:TS):TS:=λD σ H=>t D.non σ H
noncomputable def Pm(ta te:TE):TE:=λσ H Q=>ta σ H λ_ H1=>te σ H1 Q
end
section
variable{fI:Addr}
def Rx{E:Value->Shared->Prop}{i:Nat}{Q:Unit->Shared->Prop}(I:Inv X pins σ H s)(hN:X.N.Nodup)(hi:X.N[i]?=some x)(hk:X.env.scope.names.lookup x=some .local)(hv:σ[i]?=some (some v))
 (h:∀s',Inv X pins (σ.set i none) H s'->Q () s'):wpAny M A (unbindName X.env x) Q E s:=by
 obtain⟨m,hn,hl⟩:=id I.loc;have hcls:(X.env.scope.kind==.class||(X.env.scope.kind==.module&&X.env.locals != X.env.globals))=false:=by rw[I.ok.kind];rfl
 have hiσ:i<σ.length:=by rw[I.len];exact(102 hi).1
 obtain⟨u,_,lk⟩:=hl i x v hi hv (.inl hk);have mu:m x=some u:=by
  rcases lk with⟨_,e⟩|⟨k,_⟩
  .exact e
  .rcases k with k|k<;>(have k':X.env.scope.names.lookup x=_:=k;rw[hk]at k';cases k')
 refine wpAny_unbindName_local hk hn mu hcls λh' u' hn' hs=>?_;obtain⟨oL,_,_,hoL,_⟩:=id hn;have low:∀b o,X.s₀.heap.get? b=some o->b≠X.env.locals:=λb o e=>iu (iZ (58 e) I.ok.above);refine h _ ⟨I.ok,I.os,I.bare,⟨λb o e n hb hx=>(hs.2 b (low b o e)).trans (I.base.keep b o e n hb hx),λb o e n hb hx=>?_,I.base.free,λb o e hx=>?_,I.base.tups,I.base.frzs,I.base.tbls⟩,⟨_,hn',λj y v' e1 e2 e3=>?_⟩,λy c e=>?_,I.free,I.freeC,λp hp=>?_,λb ob e=>?_,by simpa using I.len⟩
 .obtain⟨sl,e1⟩:=I.base.slot b o e n hb hx;exact⟨sl,(hs.2 b (low b o e)).trans e1⟩
 .obtain⟨o',e1⟩:=I.base.there b o e hx;exact⟨o',(hs.2 b (low b o e)).trans e1⟩
 .by_cases hj:j=i
  .subst hj;rw[List.getElem?_set_self hiσ]at e2;cases e2
  .rw[List.getElem?_set_ne (Ne.symm hj)]at e2;obtain⟨u',r',q⟩:=hl j y v' e1 e2 e3;refine⟨u',r',?_⟩;rcases q with⟨k,e⟩|⟨k,c,e,z⟩
   .refine .inl ⟨k,?_⟩;have:y≠x:=λe=>hj (J7 hN e1 (e ▸ hi));simp[this,e]
   .exact .inr ⟨k,c,e,z.sameBut hs (I.cne y c e)⟩
 .obtain⟨w',z⟩:=I.cell y c e;exact⟨w',z.sameBut hs (I.cne y c e)⟩
 .obtain⟨e,n,ne,nf,d⟩:=I.pin p hp;exact⟨(hs.2 p.1 ne).trans e,n,ne,nf,d⟩
 .refine(I.hok b ob e).stay (λc w' hc q=>(hs.2 c ?_).trans q) (λ_ q=>q) λ_ _ q=>q;rintro rfl;rcases hc with z|hc
  .rw[<- z,I.free]at e;cases e
  .rw[I.free]at hc;cases hc
def VU{T:Addr}(I:Inv X pins σ H s)(ha:H a=some (.ext (XO a C dx)))(hT:∀T,tb=.ref T->H T=none/\New X pins T)(N:Note (frs X.stack) a tb s.heap h')(ex:Exo h' a C dx (.ref T)):Inv X pins σ H { s with heap:=h' }:=by
 have na:∀b,H b=none->b≠a:=λb n z=>by rw[z,ha]at n;cases n
 have hok:=NV I.hok N ex ha (λT e=>(hT T e).1) I.stkFree;have all:∀ch:List Addr,(∀b,.ref b=tb->b∈ch)->Un (frs X.stack) ch H H s.heap h':=λch hc=>
  ⟨λb o e n nf nc=>N.keep b o e (na b n) (λz=>nc (hc b z)) nf,λb o e n hf nc=>N.slot b o e hf,λ_ _ _ n _=>n,λb o e _=>N.there b o e,λ_ _ e=>e,λ_ _ _ e=>e,λb ps e=>⟨#[],by rw[e];simp⟩⟩
 by_cases q:∃T,tb=.ref T
 .obtain⟨T0,e⟩:=q;exact I.call' (s':={ s with heap:=h' }) (ch:=[T0]) rfl (all [T0] λb z=>by rw[e]at z;cases z;simp) hok I.bare λb hb=>by
   have:b=T0:=by simpa using hb
   subst this;exact(hT b e).2
 .exact I.call' (s':={ s with heap:=h' }) (ch:=[]) rfl (all [] λb z=>absurd ⟨b,z.symm⟩ q) hok I.bare λb hb=>absurd hb 55
noncomputable abbrev Cx.hand(X:Cx)(e:Value):Cx:={ X with A:=X.A.mark (some e),calm:=false,xe:=λ_ _=>False }
theorem Inv.hand(I:Inv X pins σ H s)(e:Value):Inv (X.hand e) pins σ H s:=
 ⟨⟨I.ok.mod,I.ok.kind,I.ok.glob,I.ok.blt,I.ok.above,I.ok.inj,I.ok.has,I.ok.cab,(λh=>by cases h),I.ok.frames,I.ok.stk,I.ok.exf,I.ok.bs,I.ok.bsz,I.ok.noex,I.ok.exfs,I.ok.funs,I.ok.frf⟩,I.os,I.bare,I.base,I.loc,I.cell,I.free,I.freeC,I.pin,I.hok,I.len⟩
def Inv.unhand(I:Inv (X.hand e) pins σ H s)(hd:X.calm=true->X.A.handled=none):Inv X pins σ H s:=
 ⟨⟨I.ok.mod,I.ok.kind,I.ok.glob,I.ok.blt,I.ok.above,I.ok.inj,I.ok.has,I.ok.cab,hd,I.ok.frames,I.ok.stk,I.ok.exf,I.ok.bs,I.ok.bsz,I.ok.noex,I.ok.exfs,I.ok.funs,I.ok.frf⟩,I.os,I.bare,I.base,I.loc,I.cell,I.free,I.freeC,I.pin,I.hok,I.len⟩
theorem Ol:∀{cs:List Addr} {us:List Value},Vals (cs.map V.ref) us->us=cs.map Value.ref
 |[],_,.nil=>rfl
 |c::cs,_,.cons r t=>by rw[Ol t];rw[show _=Value.ref c from r];rfl
end
def GX(X:Cx)(st:Stmt)(t:TS):Prop:=
 ∀(pins:List (Addr×Obj)) (s:Shared) (σ:St) (H:Hp) (D:Ends),Inv X pins σ H s->t D σ H->wpAny 54 X.A (exec st X.env) (SP X pins D.non) (XE X pins D.rt) s
def GXs(X:Cx)(st:List Stmt)(t:TS):Prop:=
 ∀(pins:List (Addr×Obj)) (s:Shared) (σ:St) (H:Hp) (D:Ends),Inv X pins σ H s->t D σ H->wpAny 54 X.A (execs st X.env) (SP X pins D.non) (XE X pins D.rt) s
def GXE(X:Cx)(e:Expr)(t:TE):Prop:=
 ∀(pins:List (Addr×Obj)) (s:Shared) (σ:St) (H:Hp) (Q:VK),Inv X pins σ H s->t σ H Q->wpAny 54 X.A (eval e X.env) (λ_ _=>False) (XE X pins Q) s
def GXA(X:Cx)(es:List Expr)(t:TE):Prop:=
 ∀(pos:Pos) (pins:List (Addr×Obj)) (s:Shared) (σ:St) (H:Hp) (Q:VK),Inv X pins σ H s->t σ H Q->wpAny 54 X.A (spliced (backTo pos (starEach es X.env))) (λ_ _=>False) (XE X pins Q) s
section
variable{fI:Addr}{X:Cx}{st:Stmt}{rest:List Stmt}
def P6(h:PS X.nox st t):GX X st (Mg t):=λpins s σ H D I q=>thx (h pins s σ H D.non (I.wish _) q) (λ_ _ z=>z.unwish) λ_ _ z=>z.elim
def Vn(h:PSs X.nox rest t):GXs X rest (Mg t):=λpins s σ H D I q=>thx (h pins s σ H D.non (I.wish _) q) (λ_ _ z=>z.unwish) λ_ _ z=>z.elim
def Vo(h1:GX X st t)(h2:GXs X rest u):GXs X (st::rest) (Mf t u):=by
 intro pins s σ H D I h;refine k6 (thx (h1 pins s σ H { D with nx:=u D } I h) (λfl s1 q=>?_) λ_ _ z=>z);cases fl with
 |next=>
  obtain⟨σ',H',I',q⟩:=q;exact h2 pins s1 σ' H' D I' q
 |ret v=>exact q
 |brk=>exact q
 |cont=>exact q
def ZN(h1:GX X st t):GXs X [st] t:=by
 intro pins s σ H D I h;refine k6 (thx (h1 pins s σ H D I h) (λfl s1 q=>?_) λ_ _ z=>z);cases fl with
 |next=>exact jT q
 |ret v=>exact q
 |brk=>exact q
 |cont=>exact q
def fF(hc:PT X.nox c tc)(ha:GXs X a t)(hb:GXs X b u):GX X (.If c a b pos) (Mh tc t u):=by
 intro pins s σ H D I h;refine wpAny_If (thx (hc pins s σ H _ (I.wish _) h) (λd s1 ⟨H1,I1,q1⟩=>?_) λ_ _ z=>z.elim);cases d with
 |true=>exact ha pins s1 σ H1 D I1.unwish q1
 |false=>exact hb pins s1 σ H1 D I1.unwish q1
def ZO(he:GXE X e te)(hs:swapsWith e none pos.line X.env=pure false:=by rfl):GX X (.Expr e pos) (Ij te):=λpins s σ H D I h=>
 wpAny_Expr_any (thx (he pins s σ H _ I h) (λ_ _ z=>z.elim) λ_ _ z=>z) I.quiet hs
def d6(he:GXE X e te)(hs:swapsWith e (some (.Name x pos')) pos.line X.env=pure false:=by rfl):GX X (.Assign [.Name x pos'] e pos) (Ij te):=λpins s σ H D I h=>
 wpAny_Assign_Name (thx (he pins s σ H _ I h) (λ_ _ z=>z.elim) λ_ _ z=>z) hs
def Vp(he:GXE X e te)(hs:starEach (e::es) X.env=109::starEach es X.env:=by rfl):GXA X (e::es) te:=by
 intro pos pins s σ H Q I h;rw[hs];show wpAny _ _ (spliced (109::backTo pos (starEach es X.env))) _ _ s;exact Calls.spliced_cons (thx (he pins s σ H _ I h) (λ_ _ z=>z.elim) λ_ _ z=>z)
def T9(ha:PE X.nox e tb)(hr:GXA X es te)(hs:starEach (e::es) X.env=109::starEach es X.env:=by rfl):GXA X (e::es) (Pm tb te):=by
 intro pos pins s σ H Q I h;rw[hs];show wpAny _ _ (spliced (109::backTo pos (starEach es X.env))) _ _ s;refine Calls.spliced_cons (thx (ha pins s σ H _ (I.wish _) h) (λu s1 ⟨x,H1,I1,r1,q1⟩=>?_) λ_ _ z=>z.elim);exact thx (hr pos pins s1 σ H1 Q I1.unwish q1) (λ_ _ z=>z.elim) λ_ _ z=>z
noncomputable def KM(mg:Str->Option Value)(x:Str)(fs:List Str)(ta:TA):TS:=λD σ H=>ta σ H λvs H1=>vs.length=fs.length/\∀C,mg x=some (.ref C)->∀a dx,H1 a=none->H1 dx=none->dx≠a->D.rt (.ref a) (upd (upd H1 dx (.xd (fs.zip vs))) a (.ext (XO a C (some dx))))
def Vq{fs:List Str}{p:Pos}{k:Nat}(c:XC X.K C fI)(F:FnOk X.prog X.w X.K X.mg X.base CX0 k fI fd ps (spJ C fs))(hr:Room (k+1) X.A)(hb:Binds X.K fd ps [])(hl:ps.length=fs.length+1)(hl2:fs.length<=1000)(hne:fs≠[])(hcalm:X.calm=true)(hg:Gl X x)(hm:X.mg x=some (.ref C))(pa:PA X.nox (e::es) ta)
 (hdb:(x==("__debug__":Str))=false:=by decide) (hst:starEach (e::es) X.env=109::starEach es X.env:=by rfl) (hpl:(backTo p1 (starEach es X.env)).any (·.1)=false:=by rfl):
 GX X (.Raise (some (.Call (.Name x p) (e::es) [] p1)) none pos) (KM X.mg x fs ta):=by
 intro pins s σ H D I h;refine SY (I.ok.hd hcalm) c (jr (DQ I hg hm ?_ hdb));refine PySem.W.callWith_K (h₀:=X.base) I.ok.mod.kin c.kp (thx (pa p1 pins s σ H _ (I.wish _) h) (λus s1 ⟨vs,H1,I1',r,q⟩=>⟨I1'.kIn,?_⟩) λ_ _ z=>z.elim) hst hpl;have I1:=I1'.unwish;obtain⟨hv,q⟩:=q;have q:=q C hm;have hu:us.length=fs.length:=by rw[<- r.length];exact hv
 obtain⟨nm,qn,N,bs,bm,sn,sub,ab,col,dd,k0,k1,k2,k3,k5,lk,ov⟩:=c.at_;obtain⟨hh,g,d,tk,os⟩:=s1;refine WC I1.kIn (I1.kIn _ _ lk) (ov.has (by decide +kernel)) (ov.not (by decide +kernel)) (ov.not (by decide +kernel)) c.init (beq_iff_eq.mp c.fn) (by show us.length<=sizeLine;rw[hu];exact iw hl2 107) ?_;have ke:∀b o,hh.get? b=some o->((hh.push { cls:=.type "tuple",data:=.seq us.toArray }).push (G9 C 114)).get? b=some o:=λb o e=>53 _ (53 _ e);have ea:((hh.push { cls:=.type "tuple",data:=.seq us.toArray }).push (G9 C 114)).get? (114+1)=some (G9 C 114):=Heap.get?_push_at (by rw[Heap.size_push]) rfl;have na:H1 (114+1)=none:=I1.hok.fresh (jo _);have I2:=I1.laid (a:=114+1) (o:=.ext (X0 (114+1) C 114)) (t':=tk) ke (jo _) (TJ ea);refine jq (jy (F.run _ X.stack _ _ ⟨.ref (114+1)::us,[]⟩ (.ref (114+1)::us) (.ref (114+1)::vs)
  (λz H2=>z=.non/\∃dx,H2=upd (upd (upd H1 (114+1) (.ext (X0 (114+1) C 114))) dx (.xd (fs.zip vs))) (114+1) (.ext (X1 (114+1) C dx 114))/\H1 dx=none/\dx≠114+1) (λ_ _ _=>False)
  (hr.make C us []) (I2.env0.make C us []) (by have:=hb ⟨_,g,d,tk,os⟩ (.ref (114+1)::us) I2.kIn (by simp[hu,hl]);simpa using this) (.cons rfl r) ?_) λres s' hq=>?_)
 .refine⟨_,vs,114,rfl,hv,AF,(λz=>absurd z hne),λ_ dx n1 n2=>⟨rfl,dx,rfl,by rw[upd_ne n2]at n1;exact n1,n2⟩⟩
 .cases res with
  |error x=>exact hq.elim
  |ok fl=>
   cases fl with
   |next=>exact hq.elim
   |brk=>exact hq.elim
   |cont=>exact hq.elim
   |ret rv'=>
    obtain⟨z,H3,I3,rz,ez,dx,eH,nd,ne⟩:=I2.after hq;subst ez;have hA:H3 (114+1)=some (.ext (X1 (114+1) C dx 114)):=by rw[eH];exact AF
    obtain⟨x1,_⟩:=(show ObjOk X.prog X.w H3 s'.heap (114+1) (.ext (X1 (114+1) C dx 114))from I3.hok _ _ hA)
    have x1:s'.heap.get? (114+1)=some ⟨.ref C,some dx,.fields #[.ref 114,.none,.none,.none,.bool false,.none],#[]⟩:=x1;refine⟨rz,114+1,114,some dx,#[],rfl,I3.kIn,x1,114+1,C,some dx,.none,fs.zip vs,σ,upd H3 (114+1) (.ext (XO (114+1) C (some dx))),rfl,?_,⟨_,_,x1,rfl⟩,.inl rfl,AF,(λT e=>by cases e),?_,?_⟩
    .exact I3.write (x:=114+1) (e:=114+1) (t':=s'.toks) (by rw[hA];exact True.intro) (.inl rfl) (λ_ _ _ e=>e) ⟨_,x1⟩ ⟨⟨_,_,_,x1,rfl⟩,⟨_,x1⟩,λh1 h2 ⟨tb,vs,sl,e,z⟩ k=>⟨tb,vs,sl,k _ e,z⟩⟩
    .show upd H3 _ _ dx=_;rw[upd_ne ne,eH,upd_ne ne,AF]
    .have e2:upd H3 (114+1) (.ext (XO (114+1) C (some dx)))=upd (upd H1 dx (.xd (fs.zip vs))) (114+1) (.ext (XO (114+1) C (some dx))):=by
      rw[eH];funext b;unfold upd;by_cases z1:b=114+1
      .simp only[ia z1]
      .simp only[ie z1]
     rw[e2];exact q _ dx na nd ne
end
def JO:bootBuiltins "isinstance"=some (.builtin "isinstance"):=by decide +kernel
def Zd:bootBuiltins "ValueError"=some (.type "ValueError"):=by decide +kernel
section
variable{fI:Addr}
def eR(hg:Gl X "ValueError")(hm:X.mg "ValueError"=none):PE X (.Name "ValueError" pos) (tC (.ty "ValueError")):=λpins s σ H Q I h=>
 F4 I hg hm Zd ⟨.ty "ValueError",H,I,rfl,h⟩
end
section
variable{X:Cx}
def dh(K:Frag)(B:Addr)(D:Ends)(th:TS)(g:Addr->St)(u:St->St):VK:=λv H'=>∃a C dx fs,v=.ref a/\H' a=some (.ext (XO a C dx))/\XdAt H' dx fs/\PySem.W.exmOne K (.ref C) (.ref B)=some true /\
 th ⟨λσ2 H2=>D.nx (u σ2) H2,λ_ _=>False,λ_ _=>False,λ_ _=>False⟩ (g a) H'
noncomputable def Zp(K:Frag)(mg:Str->Option Value)(xB:Str)(D:Ends)(th:TS)(g:Addr->St)(u:St->St):VK:=λv H'=>∀B,mg xB=some (.ref B)->dh K B D th g u v H'
noncomputable def Pl(K:Frag)(mg:Str->Option Value)(xB:Str)(tb tx th:TS)(i:Option Nat):TS:=λD σ H=>tb D σ H∨tx ⟨λ_ _=>False,Zp K mg xB D th (λa=>match i with|some i=>(108 σ.length none).set i (some (.ref a))|none=>108 σ.length none) (λσ2=>match i with|some i=>σ2.set i none|none=>σ2),λ_ _=>False,λ_ _=>False⟩ σ H
def Zi(ex:Exo h a C dx tb)(e:HO.ext (XO a C dx)=.ext (XO a C' dx')):C'=C:=by
 have e1:XO a C dx=XO a C' dx':=by injection e
 have x:XO a C' dx' h:=by rw[<- e1];exact⟨tb,ex⟩
 obtain⟨tb',vs',sl',q',_⟩:=x;obtain⟨vs,sl,q,_⟩:=ex;rw[q]at q';have:=j7 Obj.cls (111 q');exact(Value.ref.inj this).symm
def YY{i:Nat}{pB ph pos:Pos}(hst:X.stack=X.env::X.outer/\X.env.frame=some X.env.locals)(hb:PSs X.nox body tb)(hx:GXs X body tx)(hg:Gl X xB)(hm:X.mg xB=some (.ref B))
 (hN:X.N.Nodup) (hi:X.N[i]?=some n) (hl:X.env.scope.names.lookup n=some .local) (hh:∀a,PSs (X.hand (.ref a)) (b0::suite) th) (hdb:(xB==("__debug__":Str))=false:=by decide):
 PS X (.Try body [.ExceptHandler (some (.Name xB pB)) (some n) (b0::suite) ph] [] [] pos) (Pl X.K X.mg xB tb tx th (some i)):=by
 intro pins s σ H D I h;refine wpAny_Try_except ?_;rcases h with h|h
 .refine thx (hb pins s σ H D (I.wish _) h) (λfl s1 q=>?_) λ_ _ z=>z.elim;have q:=q.unwish;cases fl with
  |next=>exact jT q
  |ret v=>exact q
  |brk=>exact q
  |cont=>exact q
 .refine thx (hx pins s σ H _ I h) (λfl s1 q=>?_) λe s1 q=>?_
  .cases fl with
   |next=>obtain⟨_,_,_,z⟩:=q;exact z.elim
   |ret v=>obtain⟨_,_,_,_,_,z⟩:=q;exact z.elim
   |brk=>obtain⟨_,_,_,z⟩:=q;exact z.elim
   |cont=>obtain⟨_,_,_,z⟩:=q;exact z.elim
  .obtain⟨a,C,dx,tb',fs,σ',H',rfl,I1,ex,ht,ha,hT,hd,q⟩:=q;have fr:X.A.frames=some (X.env::X.outer):=by rw[<- hst.1];exact I1.ok.frames
   have fl0:s1.heap.FunFrames X.base (X.env::X.outer):=by rw[<- hst.1];exact I1.stack
   refine Oy none (base:=X.base) fr fl0 hst.2 ex ht λh' T z nT ex' tr N=>?_;have I2:Inv X pins σ' H' { s1 with heap:=h' }:=VU I1 ha hT (by rw[hst.1];exact N) ex';have LT:Looks 54 h' (typeOf (.ref a)) (.ref C):=by
    obtain⟨vs,sl,e,_⟩:=ex';exact(PySem.W.Looks.ld e).andThen .now
   obtain⟨a',C',dx',fs',ea',ha',hd',hB,q⟩:=q B hm;cases ea';obtain rfl:=Zi ex (111 (ha.symm.trans ha'));refine wpAny_handleBy_cons (codeAny_handlers_test (DQ (X:=X.hand (.ref a)) (I2.hand _) hg hm ?_ hdb)) (by intro q;cases q);refine PySem.W.Looks.here (s:={ s1 with heap:=h' }) (PySem.W.exm_one I2.kIn LT hB) ?_;refine codeAny_handlers_suite_as ?_;obtain⟨vs,sl,ea,e1⟩:=id ex';obtain⟨oT,ts,eT,dT,e3⟩:=tr;refine wpAny_setFlight_none (s:={ s1 with heap:=h' }) ea rfl e1 eT dT (Array.getElem?_eq_some_iff.mp e3).1 ?_;have nw:H' T=none/\New X pins T:=by
    rcases z with z|z
    .exact⟨I1.hok.fresh z,I1.new z⟩
    .exact hT T z
   have I3:=I2.turned (it:=T) (t':=s1.toks) (h':=h'.update T (Obj.mapFields (·.setIfInBounds 3 Value.none))) (λb o n e=>(Heap.get?_update_other _ _ (Ne.symm n)).trans e) nw.1 nw.2.2.1 nw.2.1 nw.2.2.2.1 nw.2.2.2.2;have I3':=I3.weak (σ':=108 σ.length none) (by rw[List.length_replicate,I.len,I3.len]) λi v e=>by
    rw[List.getElem?_replicate]at e;split at e<;>cases e
   refine GF (v:=.ref a) I3' hN hi (.inl hl) rfl (λs4 I4=>?_) (.inr hl);refine thx (hh a pins s4 _ H' _ (I4.hand _) q) (λfl s5 q5=>?_) λ_ _ z=>z.elim;cases fl with
   |next=>
    obtain⟨σ2,H2,I5,q6⟩:=q5;have I5:=I5.unhand I.ok.hd;show wpAny _ _ (do bindName X.env n .none;unbindBehindTheSuite X.env n ph) _ _ _;refine ic (wpAny_bindName (GF (v:=.non) I5 hN hi (.inl hl) rfl (λs6 I6=>?_) (.inr hl)));unfold unbindBehindTheSuite;have li:i<σ2.length:=by rw[I5.len];exact(102 hi).1
    refine wpAny_onRaise (Rx (v:=.non) I6 hN hi hl (List.getElem?_set_self li) λs7 I7=>?_);rw[List.set_set]at I7;exact⟨_,_,I7,q6⟩
   |ret v=>obtain⟨_,_,_,_,_,z⟩:=q5;exact z.elim
   |brk=>obtain⟨_,_,_,z⟩:=q5;exact z.elim
   |cont=>obtain⟨_,_,_,z⟩:=q5;exact z.elim
def Np{fs:List (Str×V)}(hok:HOk P w H h)(ha:H a=some (.ext (XO a C dx)))(hd:XdAt H dx fs):∃dx vs sl od,PySem.W.InstAt h a ⟨.ref C,dx,.fields vs,sl⟩ C od:=by
 obtain⟨⟨tb,vs,sl,e,_⟩,_⟩:=(show ObjOk P w H h a (.ext (XO a C dx))from hok a _ ha)
 cases dx with
 |none=>exact⟨none,vs,sl,none,e,rfl,rfl,trivial⟩
 |some dx=>
  obtain⟨mA,n,r⟩:=(show ObjOk P w H h dx (.xd fs)from hok dx _ hd)
  obtain⟨od,ho,hl⟩:=LR n;exact⟨some dx,vs,sl,some od,e,rfl,rfl,ho⟩
structure XK1(K:Frag)(C:Addr):Prop where
 xc:∃fI,XC K C fI
 xi:XI K C
def fj(K:Frag)(c:V)(u:Value):List V->Hp->VK->Prop:=λvs H Q=>∃a C dx fs b,vs=[.ref a,c]/\H a=some (.ext (XO a C dx))/\XdAt H dx fs/\XK1 K C/\PySem.W.kitOne K (.ref C) u=some b/\Q (.bl b) H
def WB(hu:∀u',RelV c u'->u'=u):CallR X (.builtin "isinstance") (fj X.K c u):=by
 intro pins s σ H xs us Q I r h;obtain⟨a,C,dx,fs,b,rfl,ha,hd,⟨⟨fI,xc⟩,xi⟩,hk,q⟩:=h
 match us,r with
 |[u1,u2],.cons r1 (.cons r2 .nil)=>
 obtain rfl:u1=.ref a:=r1;obtain rfl:=hu u2 r2;exact PySem.W.kia_one (Nf xc xi) I.kIn (Np I.hok ha hd) hk (by intro z;cases z) λtk=>⟨.bl b,H,I.tok tk,rfl,q⟩
def Wh(K:Frag)(cs:List Addr):List V->Hp->VK->Prop:=λvs H Q=>∃a C dx fs tp b,vs=[.ref a,.ref tp]/\H a=some (.ext (XO a C dx))/\XdAt H dx fs/\H tp=some (.tup (cs.map V.ref))/\XK1 K C/\PySem.W.kitAny K (.ref C) (cs.map Value.ref)=some b/\Q (.bl b) H
def To:CallR X (.builtin "isinstance") (Wh X.K cs):=by
 intro pins s σ H xs us Q I r h;obtain⟨a,C,dx,fs,tp,b,rfl,ha,hd,ht,⟨⟨fI,xc⟩,xi⟩,hk,q⟩:=h
 match us,r with
 |[u1,u2],.cons r1 (.cons r2 .nil)=>
 obtain rfl:u1=.ref a:=r1;obtain rfl:u2=.ref tp:=r2;obtain⟨_,its,r3,ob,e,hc,⟨n,hd'⟩,_⟩:=(show ObjOk X.prog X.w H s.heap tp (.tup (cs.map V.ref))from I.hok tp _ ht)
 obtain rfl:=Ol r3;obtain⟨oc,od,odt,osl⟩:=ob;subst hc hd';exact PySem.W.kia_tup (Nf xc xi) I.kIn (Np I.hok ha hd) e hk (by intro z;cases z) λtk=>⟨.bl b,H,I.tok tk,rfl,q⟩
noncomputable def UG(K:Frag)(ta:TE)(f:Str):TE:=λσ H Q=>ta σ H λx H1=>∃a C dx fs v,x=.ref a/\H1 a=some (.ext (XO a C dx))/\XdAt H1 dx fs/\fs.lookup f=some v/\XK1 K C/\D5 K C f/\Q v H1
def bx(he:PE X e ta)(hb:attributeBase e f X.env (eval e X.env)=eval e X.env):PE X (.Attribute e f pos) (UG X.K ta f):=by
 intro pins s σ H Q I h;refine Ze hb (thn (he pins s σ H _ I h) λu s1 ⟨x,H1,I1,rx,a,C,dx,fs,v,ex,ha,hd,lk,⟨⟨fI,xc⟩,xi⟩,n,q⟩=>?_);subst ex;obtain rfl:u=Value.ref a:=rx;obtain⟨⟨tb,vs,sl,e1,_⟩,_⟩:=(show ObjOk X.prog X.w H1 s1.heap a (.ext (XO a C dx))from I1.hok a _ ha)
 obtain⟨dx,rfl⟩:∃d,dx=some d:=by
  cases dx with
  |none=>obtain rfl:fs=[]:=hd;cases lk
  |some d=>exact⟨d,rfl⟩
 obtain⟨mA,ns,r⟩:=(show ObjOk X.prog X.w H1 s1.heap dx (.xd fs)from I1.hok dx _ hd)
 obtain⟨u',hu,ru⟩:=RelO.some_of (v:=v) (o:=mA f) (by have:=r f;rw[lk]at this;exact this);exact ZR I1.kIn xc e1 ns n hu (T8 ru) ⟨v,H1,I1.tok _,ru,q⟩
end
noncomputable def EM(m:MS):MS:=λls hd=>(m ls hd).bind λp=>match p.1 with
 |.rt _=>none
 |fl=>some (fl,p.2)
noncomputable def GO(ma me:ME):ME:=λls hd=>(ma ls hd).bind λp=>me ls p.2
noncomputable def mkX(k n:Nat)(m:MS):List D->Hd->Option (D×Hd):=λds hd=>if 104=k then(match m (ds.map some++108 (n-k) none) hd with
 |some (.rt d,hd')=>some (d,hd')
 | _=>none)else none
def Z5{k n:Nat}:∀ds hd z,mkX k n m ds hd=some z->104=k:=λds hd z h=>by
 unfold mkX at h;split at h
 .next e=>exact e
 .cases h
section
variable{K:Frag}
def Xl(ha:RE K ta ma)(he:RE K te me):RE K (Pm ta te) (GO ma me):=by
 and_intros;obtain⟨⟨d1,h1⟩,e1,hm⟩:=iS hm;refine ha ρ σ H hd ls _ d1 h1 hR hL e1 λρ1 H1 v1 x1 R1 _=>?_;exact he ρ1 σ H1 h1 ls Q d hd' R1 (RL.ext hR x1 hL) hm λρ2 H2 v2 x2 R2 r2=>hQ ρ2 H2 v2 106 R2 r2
def N5(h:RS K t m):RS K (Mg t) (EM m):=by
 intro ρ σ H hd ls E fl hd' hR hL hm hQ;obtain⟨⟨fl1,h1⟩,e1,hm⟩:=iS hm;refine h ρ σ H hd ls E.non fl1 h1 hR hL e1 λρ' H' x R=>?_;cases fl1 with
 |rt d=>cases hm
 |nx l=>cases hm;exact hQ ρ' H' x R
 |bk l=>cases hm;exact hQ ρ' H' x R
 |ct l=>cases hm;exact hQ ρ' H' x R
def spF.mono{k:Nat}{F:List D->Hd->Option (D×Hd)}(h:spF K k F vs H Q E)(k':∀v H',Q v H'->Q' v H'):spF K k F vs H Q' E':=
 let ⟨a,ρ,hd,ds,d,hd',b,c,e,q⟩:=h;⟨a,ρ,hd,ds,d,hd',b,c,e,λρ' H' v x R r=>k' _ _ (q ρ' H' v x R r)⟩
end
end L2
namespace L2
open PySem PySem.Spec PyProof.Rows PySem.W
def Le(K K':Frag):Prop:=∀a o,K.lookup a=some o->(∀vs,o.data≠.fields vs)->K'.lookup a=some o
def Fk{K:Frag}{ts:List Tb}(X:K.In h)(hP:∀P∈ts.map (·.1),h.get? P=some (tabObj #[])):Le K (Au K ts):=λa o e n=>FK (λz=>by
 have:=X _ _ e;rw[hP a z]at this;cases this;exact n _ rfl) e
section
variable{K:Frag}(L:Le K K')
include L
theorem Le.ns(e:nsIn K a n=some r):nsIn K' a n=some r:=by
 unfold nsIn at e ⊢;split at e
 .next c d es k sl ho=>rw[L a _ ho (λvs q=>by cases q)];exact e
 .cases e
theorem Le.own(e:ownIn K n c=some r):ownIn K' n c=some r:=by
 cases c with
 |ref a=>
  simp only[ownIn]at e ⊢;split at e
  .next c d cd sl ho=>rw[L a _ ho (λvs q=>by cases q)];exact L.ns e
  .cases e
 |_=>exact e
theorem Le.along:∀{l:List Value} {r:Option Value},alongIn K n l=some r->alongIn K' n l=some r
 |[],_,e=>e
 |c::l,r,e=>by
  simp only[alongIn]at e ⊢;split at e
  .next v q=>rw[L.own q];exact e
  .next q=>rw[L.own q];exact Le.along e
  .cases e
theorem Le.find(e:findIn K t n=some r):findIn K' t n=some r:=by
 cases t with
 |ref a=>
  simp only[findIn]at e ⊢;split at e
  .next c d cd sl ho=>rw[L a _ ho (λvs q=>by cases q)];exact L.along e
  .cases e
 |_=>exact e
theorem Le.cls(e:clsIn K C=some cd):clsIn K' C=some cd:=by
 unfold clsIn at e ⊢;split at e
 .next c d cd sl ho=>rw[L C _ ho (λvs q=>by cases q)];exact e
 .cases e
theorem Le.mro{r:Bool}(e:mroIn K C b=some r):mroIn K' C b=some r:=by
 obtain⟨cd,a,e⟩:=iS e;unfold mroIn;rw[L.cls a];exact e
theorem Le.sub{r:Bool}(e:subIn K t b=some r):subIn K' t b=some r:=by
 cases t with
 |ref a=>exact L.mro e
 |_=>exact e
theorem Le.typeC(c:(clsIn K C).isSome=true)(e:typeIn K (.ref C)=some t):typeIn K' (.ref C)=some t:=by
 simp only[typeIn]at e ⊢;unfold clsIn at c;split at c
 .next x d cd sl ho=>rw[ho]at e;rw[L C _ ho (λvs q=>by cases q)];exact e
 .cases c
theorem Le.kitCls{r:Bool}(e:kitCls K t c=some r):kitCls K' t c=some r:=by
 unfold PySem.W.kitCls at e ⊢;split at e
 .next C=>
  split at e
  .next q=>
   have q1:(clsIn K C).isSome=true:=by cases z:(clsIn K C).isSome<;>simp[z]at q ⊢
   have q2:typeIn K (.ref C)=some (.type "type"):=by rw[q1]at q;simpa using q
   obtain⟨cd,hc⟩:=isSome_iff_exists.mp q1;rw[ia (by rw[L.cls hc,L.typeC q1 q2];rfl)];exact L.sub e
  .cases e
 .next T=>
  split at e
  .next q=>rw[ia q];exact L.sub e
  .cases e
 .cases e
theorem Le.kitOne{r:Bool}(e:kitOne K t c=some r):kitOne K' t c=some r:=by
 unfold PySem.W.kitOne at e ⊢;split at e
 .next q=>rw[ia q];exact e
 .next q=>rw[ie q];exact L.kitCls e
theorem Le.kitAny:∀{cs:List Value} {r:Bool},kitAny K t cs=some r->kitAny K' t cs=some r
 |[],_,e=>e
 |c::cs,r,e=>by
  simp only[PySem.W.kitAny]at e ⊢;split at e
  .next q=>rw[L.kitOne q];exact e
  .next q=>rw[L.kitOne q];exact Le.kitAny e
  .cases e
theorem Le.exm{r:Bool}(e:exmOne K t c=some r):exmOne K' t c=some r:=by
 unfold PySem.W.exmOne at e ⊢;split at e
 .next q=>
  rw[ia (by rw[L.sub (beq_iff_eq.mp q)];rfl)];exact L.kitCls e
 .cases e
theorem Le.noAttr(e:D5 K C f):D5 K' C f:=L.find e
theorem Le.xi(i:XI K C):XI K' C:=⟨L.find i.ca,i.gd,i.tk,L.mro i.mo⟩
theorem Le.xc{fI:Addr}(hf:∃o fd,K.lookup fI=some o/\o.data=.func fd)(c:XC K C fI):XC K' C fI:=by
 obtain⟨nm,q,N,bs,bm,sn,sub,ab,col,dd,k0,k1,k2,k3,k5,lk,ov⟩:=c.at_;have lk':=L C _ lk (λvs q=>by cases q);obtain⟨o,fd,e,d⟩:=hf;have e':=L fI o e (λvs q=>by rw[d]at q;cases q);refine⟨⟨nm,q,N,bs,bm,sn,sub,ab,col,dd,k0,k1,k2,k3,k5,lk',ov⟩,L.find c.init,?_,?_,L.find c.sa,L.find c.ga,L.find c.gx⟩
 .have:=c.fn;unfold PySem.W.isFn PySem.W.typeIn at this ⊢;dsimp only at this ⊢;rw[e]at this;rw[e'];exact this
 .have:=c.kp;unfold keepIn at this ⊢;dsimp only at this ⊢;rw[lk]at this;rw[lk'];dsimp only at this ⊢;unfold PySem.W.specialIn PySem.W.typeIn at this ⊢;dsimp only at this ⊢;rw[lk]at this;rw[lk'];exact this
end
end L2
namespace L2
open PySem PySem.Spec PyProof.Rows
structure Dj(m mn:MS):Prop where
 rt:∀ls hd d x,m ls hd=some (.rt d,x)->mn ls hd=none
 nx:∀ls hd fl x,m ls hd=some (fl,x)->(∀d,fl≠.rt d)->mn ls hd=some (fl,x)
def DjE(m mn:ME):Prop:=∀ls hd z,m ls hd=some z->mn ls hd=none
def DjA(m:ME)(mn:MA):Prop:=∀ls hd z,m ls hd=some z->mn ls hd=none
def DjF(X F:List D->Hd->Option (D×Hd)):Prop:=∀ds hd z,X ds hd=some z->F ds hd=none
section
variable{m1 n1 n2:MS}{i:Nat}
def iN:Dj (EM m) m:=by
 constructor
 .intro ls hd d x e;obtain⟨⟨fl,y⟩,e1,e2⟩:=iS e;cases fl<;>cases e2
 .intro ls hd fl x e n;obtain⟨⟨fl1,y⟩,e1,e2⟩:=iS e;cases fl1<;>cases e2<;>exact e1
def Fw(a:Dj m1 n1)(b:Dj m2 n2):Dj (A6 m1 m2) (A6 n1 n2):=by
 constructor
 .intro ls hd d x e;obtain⟨⟨fl,y⟩,e1,e2⟩:=iS e;unfold A6;cases fl with
  |rt d1=>rw[a.rt _ _ _ _ e1];rfl
  |nx l=>rw[a.nx _ _ _ _ e1 (λd q=>by cases q)];exact b.rt _ _ _ _ e2
  |bk l=>cases e2
  |ct l=>cases e2
 .intro ls hd fl x e n;obtain⟨⟨fl1,y⟩,e1,e2⟩:=iS e;unfold A6;cases fl1 with
  |rt d1=>cases e2;exact absurd rfl (n d1)
  |nx l=>rw[a.nx _ _ _ _ e1 (λd q=>by cases q)];exact b.nx _ _ _ _ e2 n
  |bk l=>cases e2;rw[a.nx _ _ _ _ e1 (λd q=>by cases q)];rfl
  |ct l=>cases e2;rw[a.nx _ _ _ _ e1 (λd q=>by cases q)];rfl
def Ws(a:Dj m1 n1)(b:Dj m2 n2):Dj (Ad c m1 m2) (Ad c n1 n2):=by
 constructor
 .intro ls hd d x e;obtain⟨⟨q,y⟩,e1,e2⟩:=iS e;unfold Ad;rw[e1];dsimp only[bind_some]at e2 ⊢;cases q
  .exact b.rt _ _ _ _ e2
  .exact a.rt _ _ _ _ e2
 .intro ls hd fl x e n;obtain⟨⟨q,y⟩,e1,e2⟩:=iS e;unfold Ad;rw[e1];dsimp only[bind_some]at e2 ⊢;cases q
  .exact b.nx _ _ _ _ e2 n
  .exact a.nx _ _ _ _ e2 n
def SO{fl:Fl}(e:AK me ls hd=some (fl,x))(n:∀d,fl≠.rt d):False:=by
 obtain⟨⟨d,y⟩,e1,e2⟩:=iS e;cases e2;exact n d rfl
def NB(e:AK me ls hd=some (.rt d,x)):∃z,me ls hd=some z:=by
 obtain⟨z,e1,e2⟩:=iS e;exact⟨z,e1⟩
def PH(h:DjE me mf):Dj (AK me) (Ay mf):=⟨λls hd d x e=>by obtain⟨z,q⟩:=NB e;unfold Ay;rw[h _ _ _ q];rfl,λ_ _ _ _ e n=>(SO e n).elim⟩
def Fv(h:DjE me mf):Dj (AK me) (AE i mf):=⟨λls hd d x e=>by obtain⟨z,q⟩:=NB e;simp only[HQ,h _ _ _ q,Option.bind_none],λ_ _ _ _ e n=>(SO e n).elim⟩
def Dt{w:Nat}{X F:List D->Hd->Option (D×Hd)}(h:DjF X F):DjE (A9 w X ma) (A9 w F ma):=by
 intro ls hd z e;obtain⟨p,e1,e2⟩:=iS e;unfold A9;rw[e1];dsimp only[bind_some]at e2 ⊢;split at e2
 .next c=>
  obtain⟨r,e3,_⟩:=iS e2;rw[ia c,h _ _ _ e3];rfl
 .cases e2
def Vz(h:DjE me mf):DjA me (A2 mf mr):=λls hd z e=>by unfold A2;rw[h _ _ _ e];rfl
def Lb(h:DjA me mr):DjA (GO ma me) (A2 ma mr):=λls hd z e=>by
 obtain⟨p,e1,e2⟩:=iS e;unfold A2;rw[e1];show(mr ls p.2).bind _=none;rw[h _ _ _ e2];rfl
def K9{k n:Nat}(h:Dj m mn):DjF (mkX k n m) (mkF k n mn):=by
 intro ds hd z e;unfold mkX at e;unfold mkF;split at e
 .next c=>
  rw[ia c];split at e
  .next d x q=>rw[h.rt _ _ _ _ q]
  .cases e
 .cases e
def Zj{Q:Fl->Hd->Prop}(h:WS m ls hd λfl x=>(∀d,fl≠.rt d)/\Q fl x):WS (EM m) ls hd Q:=by
 obtain⟨fl,x,e,n,q⟩:=h;refine⟨fl,x,?_,q⟩;unfold EM;rw[e];cases fl with
 |rt d=>exact absurd rfl (n d)
 |_=>rfl
def OY{Q:D->Hd->Prop}(h:WE ma ls hd λ_ x=>WE me ls x Q):WE (GO ma me) ls hd Q:=WP.bind h
def JU{k n:Nat}{ds:List D}{Q:D->Hd->Prop}(hl:104=k)(h:WS m (ds.map some++108 (n-k) none) hd λf x=>∃d,f=.rt d/\Q d x):WF (mkX k n m) ds hd Q:=by
 obtain⟨f,x,e,d,rfl,q⟩:=h;refine⟨d,x,?_,q⟩;unfold mkX;rw[ia hl,e]
end
def fb(tn tx:TS):TS:=λD σ H=>tn D.non σ H∨tx D σ H
noncomputable def EO(mn mx:MS):MS:=λls hd=>match EM mn ls hd with
 |some r=>some r
 |none=>mx ls hd
section
variable{K:Frag}{X:Cx}{st:Stmt}
def KA(d:Dj mx mn):Dj (EO mn mx) mn:=by
 constructor
 .intro ls hd d' x e;unfold EO at e;split at e
  .next r q=>cases e;exact iN.rt _ _ _ _ q
  .exact d.rt _ _ _ _ e
 .intro ls hd fl x e n;unfold EO at e;split at e
  .next r q=>cases e;exact iN.nx _ _ _ _ q n
  .exact d.nx _ _ _ _ e n
def Hb{Q:Fl->Hd->Prop}(d:Dj mx mn)(h:WS mx ls hd λfl x=>∃d,fl=.rt d/\Q fl x):WS (EO mn mx) ls hd Q:=by
 obtain⟨fl,x,e,d',rfl,q⟩:=h;have z:=d.rt _ _ _ _ e;refine⟨_,x,?_,q⟩;unfold EO EM;rw[z];exact e
def FA:Dj Bn mn:=⟨(λ_ _ _ _ e=>nomatch e),(λ_ _ _ _ e=>nomatch e)⟩
end
noncomputable def tXg(tc:TE):TE:=λσ H Q=>tc σ H λv H'=>∀a,v=.ref a->Q v H'
noncomputable def EF(nm:Str)(fs:List Str)(ma:MA):MS:=λls hd=>(ma ls hd).bind λp=>if p.1.length=fs.length then some (.rt (.op nm fs p.1),p.2)else none
noncomputable def JY(mg:Str->Option Value)(x:Str):TE:=λ_ H Q=>∀C,mg x=some (.ref C)->Q (.ref C) H
noncomputable def hLs(k:Nat)(i:Option Nat)(d:D):Ls:=match i with
 |some i=>(108 k none).set i (some d)
 |none=>108 k none
noncomputable def uLs(i:Option Nat)(ls:Ls):Ls:=match i with
 |some i=>ls.set i none
 |none=>ls
noncomputable def DT(ns:List Str)(i:Option Nat)(mb mx mh:MS):MS:=λls hd=>match mb ls hd with
 |some r=>some r
 |none=>match mx ls hd with
  | some (.rt (.op nm fs ds),hd')=>if nm∈ns then(match mh (hLs ls.length i (.op nm fs ds)) hd' with
   |some (.nx l2,hd2)=>some (.nx (uLs i l2),hd2)
   | _=>none)else none
  |_=>none
noncomputable def DU(tb:List (Str×Bool))(m:ME):ME:=λls hd=>(m ls hd).bind λp=>match p.1 with
 |.op nm _ _=>(tb.lookup nm).map λb=>(.im (.bl b),p.2)
 |_=>none
noncomputable def Kl(ns:List Str)(f:Str)(m:ME):ME:=λls hd=>(m ls hd).bind λp=>match p.1 with
 |.op nm fs ds=>if nm∈ns/\104=fs.length then((fs.zip ds).lookup f).map λd=>(d,p.2)else none
 |_=>none
section
variable{K:Frag}{mg:Str->Option Value}
def e9(h:RE K tc m):RE K (tXg tc) m:=λρ σ H hd ls Q d hd' hR hL hm hQ=>h ρ σ H hd ls _ d hd' hR hL hm λρ' H' v x R r a _=>hQ ρ' H' v x R r
def SG(hc:∀C,mg x=some (.ref C)->clsAt K nm=some C)(h:RA K ta ma):RS K (KM mg x fs ta) (EF nm fs ma):=by
 intro ρ σ H hd ls E fl hd' hR hL hm hQ;obtain⟨⟨ds,h1⟩,e1,hm⟩:=iS hm;dsimp only at hm;split at hm
 .next hl=>
  cases hm;refine h ρ σ H hd ls _ ds _ hR hL e1 λρ1 H1 vs x1 R1 r1=>⟨by rw[r1.len];exact hl,λC hC a dx na nd ne=>?_⟩
  obtain⟨R2,x2⟩:=R1.hid nd (ho:=.xd (fs.zip vs));obtain⟨R3,x3⟩:=R2.hid (a:=a) (by rw[upd_ne (Ne.symm ne)];exact na) (ho:=.ext (XO a C (some dx)));refine hQ ρ1 _ ((106).trans R2 x3) R3 (.ref a) ?_;simp only[RD];exact⟨a,vs,rfl,⟨C,some dx,hc C hC,AF,by show upd _ _ _ dx=_;rw[upd_ne ne,AF],by rw[r1.len];exact hl⟩,(r1.ext R1 x2).ext R2 x3⟩
 .cases hm
def fg{k:Nat}(r:RD K ρ H d v):RL K ρ H (hLs k i d) (match i with|some i=>(108 k none).set i (some v)|none=>108 k none):=by
 cases i with
 |none=>exact⟨by simp[hLs],λj d e=>by simp only[hLs]at e;rw[List.getElem?_replicate]at e;split at e<;>cases e⟩
 |some i=>
  refine⟨by simp[hLs],λj d' e=>?_⟩;simp only[hLs]at e;by_cases z:i=j
  .subst z;have li:i<k:=by have:=(102 e).1;simpa using this
   rw[List.getElem?_set_self (by simpa using li)]at e;cases e;exact⟨v,List.getElem?_set_self (by simpa using li),r⟩
  .rw[List.getElem?_set_ne z,List.getElem?_replicate]at e;split at e<;>cases e
def fe(h:RL K ρ H ls σ):RL K ρ H (uLs i ls) (match i with|some i=>σ.set i none|none=>σ):=by
 cases i with
 |none=>exact h
 |some i=>
  refine⟨by simp[uLs,h.len],λj d e=>?_⟩;simp only[uLs]at e;by_cases z:i=j
  .subst z;rw[List.getElem?_set,ia rfl]at e;split at e<;>cases e
  .rw[List.getElem?_set_ne z]at e;obtain⟨v,e1,r⟩:=h.ob j d e;exact⟨v,by dsimp only;rw[List.getElem?_set_ne z];exact e1,r⟩
def XX(hc:∀nm∈ns,∀B C,mg xB=some (.ref B)->clsAt K nm=some C->PySem.W.exmOne K (.ref C) (.ref B)=some true)(hb:RS K tb mb)(hx:RS K tx mx)(hh:RS K th mh):RS K (Pl K mg xB tb tx th i) (DT ns i mb mx mh):=by
 intro ρ σ H hd ls E fl hd' hR hL hm hQ;unfold DT at hm;split at hm
 .next r e=>
  cases hm;exact .inl (hb ρ σ H hd ls E fl hd' hR hL e hQ)
 .split at hm
  .next nm fs ds h1 e=>
   split at hm
   .next c=>
    split at hm
    .next l2 h2 e2=>
     cases hm;refine .inr (hx ρ σ H hd ls _ (.rt (.op nm fs ds)) h1 hR hL e λρ1 H1 x1 R1 v r1 B hB=>?_);have r1':=r1;simp only[RD]at r1;obtain⟨a,xs,rfl,⟨C,dx,c1,c2,c3,c4⟩,r2⟩:=r1;refine⟨a,C,dx,_,rfl,c2,c3,hc nm c B C hB c1,?_⟩;have hl:σ.length=ls.length:=hL.len.symm;refine hh ρ1 _ H1 h1 _ _ (.nx l2) hd' R1 ?_ e2 λρ2 H2 x2 R2 σ2 hL2=>hQ ρ2 H2 106 R2 _ (fe hL2);rw[hl];exact fg r1'
    .cases hm
   .cases hm
  .cases hm
def Vc{fs:List Str}:∀{ds:List D} {xs:List V},RDs K ρ H ds xs->(fs.zip ds).lookup f=some d->∃v,(fs.zip xs).lookup f=some v/\RD K ρ H d v:=by
 induction fs with
 |nil=>intro ds xs _ e;simp at e
 |cons g fs ih=>
  intro ds xs r e;cases ds with
  |nil=>simp at e
  |cons d0 ds=>
   simp only[RDs]at r;obtain⟨x0,r0,rfl,h1,h2⟩:=r;rw[List.zip_cons_cons,iW]at e ⊢;cases q:(f==g)with
   |true=>rw[q]at e;cases e;exact⟨x0,rfl,h1⟩
   |false=>rw[q]at e;exact ih h2 e
def aa(hc:∀nm∈ns,∀C,clsAt K nm=some C->XK1 K C/\D5 K C f)(h:RE K t m):RE K (UG K t f) (Kl ns f m):=by
 and_intros;obtain⟨⟨d1,h1⟩,e1,hm⟩:=iS hm;dsimp only at hm;split at hm
 .next nm fs ds=>
  split at hm
  .next c=>
   obtain⟨d2,e2,e3⟩:=iT hm;cases e3;refine h ρ σ H hd ls _ _ _ hR hL e1 λρ1 H1 v x1 R1 r1=>?_;simp only[RD]at r1;obtain⟨a,xs,rfl,⟨C,dx,c1,c2,c3,c4⟩,r2⟩:=r1;obtain⟨v,q1,q2⟩:=Vc r2 e2;obtain⟨k1,k2⟩:=hc nm c.1 C c1;exact⟨a,C,dx,_,v,rfl,c2,c3,q1,k1,k2,hQ ρ1 H1 v x1 R1 q2⟩
  .cases hm
 .cases hm
def Kc(K:Frag):List V->Hp->VK->Prop:=λvs H Q=>∃a C dx fs c b,vs=[.ref a,c]/\H a=some (.ext (XO a C dx))/\XdAt H dx fs/\XK1 K C/\(∃u,(∀u',RelV c u'->u'=u)/\PySem.W.kitOne K (.ref C) u=some b)/\Q (.bl b) H
def O6:CallR X (.builtin "isinstance") (Kc X.K):=by
 intro pins s σ H xs us Q I r h;obtain⟨a,C,dx,fs,c,b,rfl,ha,hd,xk,⟨u,hu,hk⟩,q⟩:=h;exact WB (u:=u) hu pins s σ H _ us Q I r ⟨a,C,dx,fs,b,rfl,ha,hd,xk,hk,q⟩
def aW{tbl:List (Str×Bool)}(hc:∀nm b,tbl.lookup nm=some b->∀C B,clsAt K nm=some C->mg x=some (.ref B)->XK1 K C/\PySem.W.kitOne K (.ref C) (.ref B)=some b)(h:RE K t m):RE K (tCB (Kc K) (Af t (Af (JY mg x) BG))) (DU tbl m):=by
 and_intros;obtain⟨⟨d1,h1⟩,e1,hm⟩:=iS hm;dsimp only at hm;split at hm
 .next nm fs ds=>
  obtain⟨b,e2,e3⟩:=iT hm;cases e3;refine h ρ σ H hd ls _ _ _ hR hL e1 λρ1 H1 v x1 R1 r1 B hB=>?_;simp only[RD]at r1;obtain⟨a,xs,rfl,⟨C,dx,c1,c2,c3,c4⟩,r2⟩:=r1;obtain⟨k1,k2⟩:=hc nm b e2 C B c1 hB;exact⟨a,C,dx,_,.ref B,b,rfl,c2,c3,k1,⟨.ref B,λu' r=>r,k2⟩,hQ ρ1 H1 _ x1 R1 (by simp[RD,RI])⟩
 .cases hm
def aX{tbl:List (Str×Bool)}(hc:∀nm b,tbl.lookup nm=some b->∀C,clsAt K nm=some C->XK1 K C/\PySem.W.kitOne K (.ref C) (.type "ValueError")=some b)(h:RE K t m):RE K (tCB (Kc K) (Af t (Af (tC (.ty "ValueError")) BG))) (DU tbl m):=by
 and_intros;obtain⟨⟨d1,h1⟩,e1,hm⟩:=iS hm;dsimp only at hm;split at hm
 .next nm fs ds=>
  obtain⟨b,e2,e3⟩:=iT hm;cases e3;refine h ρ σ H hd ls _ _ _ hR hL e1 λρ1 H1 v x1 R1 r1=>?_;simp only[RD]at r1;obtain⟨a,xs,rfl,⟨C,dx,c1,c2,c3,c4⟩,r2⟩:=r1;obtain⟨k1,k2⟩:=hc nm b e2 C c1;exact⟨a,C,dx,_,_,b,rfl,c2,c3,k1,⟨.type "ValueError",λu' r=>r,k2⟩,hQ ρ1 H1 _ x1 R1 (by simp[RD,RI])⟩
 .cases hm
noncomputable def Fc(mg:Str->Option Value):List Str->TA
 |[]=>BG
 |x::xs=>Af (JY mg x) (Fc mg xs)
def M7(K:Frag):List V->Hp->VK->Prop:=λvs H Q=>∃cs,Wh K cs vs H Q
def Tm:CallR X (.builtin "isinstance") (M7 X.K):=λpins s σ H xs us Q I r ⟨cs,h⟩=>To pins s σ H xs us Q I r h
def Vs{xs:List Str}{Q:List V->Hp->Prop}(h:∀cs:List Addr,xs.map mg=cs.map (λc=>some (.ref c))->Q (cs.map V.ref) H):Fc mg xs σ H Q:=by
 induction xs generalizing Q with
 |nil=>exact h [] rfl
 |cons x xs ih=>
  intro C hC;exact ih λcs e=>h (C::cs) (by rw[iq,iq,hC,e])
def Xp{xs:List Str}{tbl:List (Str×Bool)}(hx:105<=1000)(hc:∀nm b,tbl.lookup nm=some b->∀C (cs:List Addr),clsAt K nm=some C->xs.map mg=cs.map (λc=>some (.ref c))->XK1 K C/\PySem.W.kitAny K (.ref C) (cs.map Value.ref)=some b)(h:RE K t m):
 RE K (tCB (M7 K) (Af t (Af (KL (Fc mg xs)) BG))) (DU tbl m):=by
 and_intros;obtain⟨⟨d1,h1⟩,e1,hm⟩:=iS hm;dsimp only at hm;split at hm
 .next nm fs ds=>
  obtain⟨b,e2,e3⟩:=iT hm;cases e3;refine h ρ σ H hd ls _ _ _ hR hL e1 λρ1 H1 v x1 R1 r1=>?_;refine Vs λcs ec=>?_;have lc:cs.length=xs.length:=by have:=j7 List.length ec;simpa using this.symm
  refine⟨by rw[iV,lc];exact iw hx 107,λtp ntp=>?_⟩;obtain⟨R2,x2⟩:=R1.hid ntp (ho:=.tup (cs.map V.ref));have r2:=r1.ext R1 x2;simp only[RD]at r2;obtain⟨a,xs',rfl,⟨C,dx,c1,c2,c3,c4⟩,r3⟩:=r2;obtain⟨k1,k2⟩:=hc nm b e2 C cs c1 ec;exact⟨cs,a,C,dx,_,tp,b,rfl,c2,c3,AF,k1,k2,hQ ρ1 _ _ 106 R2 (by simp[RD,RI])⟩
 .cases hm
end
def Q2(Q:VK)(v:Value)(H:Hp):Prop:=∃a,v=.ref a/\Q (.ref a) H
noncomputable def Zv(K:Frag)(k:Nat)(F:FD):Sp:=λvs H _ E=>spF K k F vs H (λv H'=>∀a,v=.ref a->E (.ref a) none H') E0
section
variable(K:Frag)(X:Cx)
structure YX(e:Stmt)(t:TS)(m:MS):Prop where
 p:GX X e t
 r:RS K t m
structure YXs(e:List Stmt)(t:TS)(m:MS):Prop where
 p:GXs X e t
 r:RS K t m
structure YXE(e:Expr)(t:TE)(m:ME):Prop where
 p:GXE X e t
 r:RE K t m
structure YXA(e:List Expr)(t:TE)(m:ME):Prop where
 p:GXA X e t
 r:RE K t m
end
def Cl(E:EnK)(nm:Str)(fs:List Str):Prop:=∃C fI fd ps,E.mg nm=some (.ref C)/\clsAt E.K nm=some C/\XC E.K C fI/\XI E.K C/\(∀f∈fs,D5 E.K C f)/\FnOk E.P E.w E.K E.mg E.base CX0 1 fI fd ps (spJ C fs)/\Binds E.K fd ps []/\ps.length=fs.length+1/\fs.length<=1000
def Ch(E:EnK)(xB nm:Str):Prop:=∃B C,E.mg xB=some (.ref B)/\clsAt E.K nm=some C/\PySem.W.exmOne E.K (.ref C) (.ref B)=some true
def Ci(E:EnK)(x nm:Str)(b:Bool):Prop:=∃B C,E.mg x=some (.ref B)/\clsAt E.K nm=some C/\PySem.W.kitOne E.K (.ref C) (.ref B)=some b
def Cv(E:EnK)(nm:Str):Prop:=∃C,E.mg "ValueError"=none/\clsAt E.K nm=some C/\PySem.W.kitOne E.K (.ref C) (.type "ValueError")=some true
def Ct(E:EnK)(xs:List Str)(nm:Str)(b:Bool):Prop:=∃(cs:List Addr) (C:Addr),xs.map E.mg=cs.map (λc=>some (.ref c))/\clsAt E.K nm=some C/\PySem.W.kitAny E.K (.ref C) (cs.map Value.ref)=some b
def KnX(E:EnK)(e:Df):Prop:=∃f fd,DefAt E.K E.mg e.x e.st f fd e.ps/\FnOk E.P E.w E.K E.mg E.base (CXG E.P E.w) e.k f fd e.ps (Zv E.K e.ps.length e.F)/\∀ds hd z,e.F ds hd=some z->104=e.ps.length
def Cl.k(h:Cl E nm fs):∀C,clsAt E.K nm=some C->XK1 E.K C/\∀f∈fs,D5 E.K C f:=λC e=>by
 obtain⟨C',fI,fd,ps,h1,h2,h3,h4,h5,_⟩:=h;rw[h2]at e;cases e;exact⟨⟨⟨fI,h3⟩,h4⟩,h5⟩
section
variable{K:Frag}{X:Cx}{st:Stmt}{rest:List Stmt}{m1:MS}{p1:Pos}
def X2(h:QS K X.nox st t m):YX K X st (Mg t) (EM m):=⟨P6 h.p,N5 h.r⟩
def MK(h1:YX K X st t m1)(h2:YXs K X rest u m2):YXs K X (st::rest) (Mf t u) (A6 m1 m2):=⟨Vo h1.p h2.p,SE h1.r h2.r⟩
def Wv(h1:YX K X st t m1):YXs K X [st] t m1:=⟨ZN h1.p,h1.r⟩
def Ww:YXs K X [] (Mg Hk) (EM AV):=⟨Vn Ou,N5 KU⟩
def LD{rest:List Stmt}:YXs K X rest JX Bn:=⟨λ_ _ _ _ _ _ h=>h.elim,N6⟩
def de(hc:QT K X.nox c tc mc)(ha:YXs K X a t m1)(hb:YXs K X b u m2):YX K X (.If c a b pos) (Mh tc t u) (Ad mc m1 m2):=⟨fF hc.p ha.p hb.p,WX hc.r ha.r hb.r⟩
def X4(he:YXE K X e te me)(hs:swapsWith e none pos.line X.env=pure false:=by rfl):YX K X (.Expr e pos) (Ij te) (AK me):=⟨ZO he.p hs,N4 he.r⟩
def Zh(he:YXE K X e te me)(hs:swapsWith e (some (.Name x pos')) pos.line X.env=pure false:=by rfl):YX K X (.Assign [.Name x pos'] e pos) (Ij te) (AK me):=⟨d6 he.p hs,N4 he.r⟩
def Tx(he:YXE K X e te me)(hs:starEach (e::es) X.env=109::starEach es X.env:=by rfl):YXA K X (e::es) te me:=⟨Vp he.p hs,he.r⟩
def Rf(ha:QE K X.nox e tb mb)(hr:YXA K X es te me)(hs:starEach (e::es) X.env=109::starEach es X.env:=by rfl):YXA K X (e::es) (Pm tb te) (GO mb me):=⟨T9 ha.p hr.p hs,Xl ha.r hr.r⟩
def Rg(h:QS K X.nox st tn mn)(hx:YX K X st tx mx):YX K X st (fb tn tx) (EO mn mx):=by
 constructor
 .intro pins s σ H D I q;rcases q with q|q
  .exact P6 h.p pins s σ H D I q
  .exact hx.p pins s σ H D I q
 .intro ρ σ H hd ls E fl hd' hR hL hm hQ;unfold EO at hm;split at hm
  .next r e=>cases hm;exact .inl (N5 h.r ρ σ H hd ls E fl hd' hR hL e hQ)
  .exact .inr (hx.r ρ σ H hd ls E fl hd' hR hL hm hQ)
def Tw(w:Nat){j k:Nat}{st:Stmt}(G:KnX ⟨X.prog,X.w,X.K,X.mg,X.base⟩ ⟨x,st,ps,j,F⟩)(hr:Room k X.A)(ha:QA K X.nox (e::es) ta ma)
 (hjk:j<=k:=by first|decide|omega) (hg:Gl X x:=by rfl) (hdb:(x==("__debug__":Str))=false:=by decide) (he:starEach (e::es) X.env=109::starEach es X.env:=by rfl) (hpl:(backTo pos (starEach es X.env)).any (·.1)=false:=by rfl) (hK:X.K=K:=by rfl):
 YXE K X (.Call (.Name x p) (e::es) [] pos) (tXg (Dy (spF K ps.length F) [] E0 ta)) (A9 w F ma):=by
 subst hK;obtain⟨fa,fd,DA,G,hF⟩:=G;refine⟨λpins s σ H Q I h=>?_,e9 (Ir ha.r hF)⟩;refine jr (DQ I hg DA.mg ?_ hdb);refine PySem.W.callWith_K (h₀:=X.base) I.ok.mod.kin DA.fn.kp (thx (ha.p pos pins s σ H _ (I.wish _) h) (λus s1 ⟨vs,H1,I1',r,q⟩=>⟨I1'.kIn,?_⟩) λ_ _ z=>z.elim) he hpl;have I1:=I1'.unwish;dsimp only at q;rw[je]at q;have q2:Zv X.K ps.length F vs H1 (λ_ _=>False) (λv dx H'=>Q2 Q v H'):=q.mono λv H' z a ea=>by subst ea;exact⟨a,rfl,z a rfl⟩
 have hl:us.length=ps.length:=by rw[<- r.length];exact G.len _ _ _ _ q2
 refine jq (jy (G.run X.A X.stack s1 H1 ⟨us,[]⟩ us vs _ _ (hr.mono hjk) I1.env0 (by have:=DA.bd s1 us I1.kIn (by simpa using hl);simpa using this) r q2) λres s' hq=>?_);cases res with
 |error x=>exact Rh I1 (show CXG X.prog X.w X.stack H1 s1 (λv dx H'=>Q2 Q v H') x s' from hq) λa H' ⟨a',e1,e2⟩=>by cases e1;exact e2
 |ok fl=>
  cases fl with
  |ret u=>obtain⟨_,_,_,_,_,_,_,z⟩:=hq;exact z.elim
  |next=>exact hq.elim
  |brk=>exact hq.elim
  |cont=>exact hq.elim
end
noncomputable abbrev Cx.en(X:Cx):EnK:=⟨X.prog,X.w,X.K,X.mg,X.base⟩
def ND{o:Option Value}{a b:Addr}(h:o=some (.ref a))(k:o=some (.ref b)):a=b:=by rw[h]at k;cases k;rfl
def Jc(h:o=some a)(k:o=some b):a=b:=by rw[h]at k;cases k;rfl
def Hx(E:EnK)(xB:Str)(ns:List Str):Prop:=(∃B,E.mg xB=some (.ref B))/\∀nm∈ns,Ch E xB nm
def Ix(E:EnK)(B:Str)(tbl:List (Str×Bool)):Prop:=(∃C,E.mg B=some (.ref C))/\∀nm b,tbl.lookup nm=some b->(∃fs,Cl E nm fs)/\Ci E B nm b
def Iv(E:EnK)(tbl:List (Str×Bool)):Prop:=E.mg "ValueError"=none/\∀nm b,tbl.lookup nm=some b->(∃fs,Cl E nm fs)/\Cv E nm/\b=true
def Itx(E:EnK)(xs:List Str)(tbl:List (Str×Bool)):Prop:=(∀x∈xs,∃C,E.mg x=some (.ref C))/\∀nm b,tbl.lookup nm=some b->(∃fs,Cl E nm fs)/\Ct E xs nm b
def Fx(E:EnK)(ns:List Str)(f:Str):Prop:=∀nm∈ns,∃fs,Cl E nm fs/\f∈fs
noncomputable def D9:List Expr->List Str
 |.Name x _::r=>x::D9 r
 |_=>[]
section
variable{K:Frag}{X:Cx}{st:Stmt}{e:Expr}{es:List Expr}{te:TE}{me:ME}{pos p p1:Pos}{x:Str}
def Tz{fs:List Str}{j:Nat}{ta:TA}{ma:MA}(G:Cl X.en x fs)(hr:Room j X.A)(ha:QA K X.nox (e::es) ta ma)(hjk:2<=j:=by decide)(hne:fs≠[]:=by simp)(hcalm:X.calm=true:=by rfl)(hg:Gl X x:=by rfl)
 (hdb:(x==("__debug__":Str))=false:=by decide) (hst:starEach (e::es) X.env=109::starEach es X.env:=by rfl) (hpl:(backTo p1 (starEach es X.env)).any (·.1)=false:=by rfl) (hK:X.K=K:=by rfl):
 YX K X (.Raise (some (.Call (.Name x p) (e::es) [] p1)) none pos) (KM X.mg x fs ta) (EF x fs ma):=by
 subst hK;obtain⟨C,fI,fd,ps,mgC,cl,xc,xi,na,F,bd,l1,l2⟩:=G;exact⟨Vq xc F (hr.mono hjk) bd l1 l2 hne hcalm hg mgC ha.p hdb hst hpl,SG (λC' e=>by obtain rfl:=ND (o:=X.mg x) mgC e;exact cl) ha.r⟩
def Qb{st:Stmt}{j k:Nat}(D:Dn E ⟨x,st,ps,k,F⟩)(S:FnScope N ps (A8 st))(hF:F=mkX ps.length N.length m)(hk:k=j+1)
 (h:∀(f:Addr) (cdv:Value) (A:Around) (outer:List Env) (s:Shared) (H:Hp) (Ek:XK),Room j (A.deeper (envOfC x (A8 st) 49 f cdv))->∃t,YXs E.K (CS (CXG E.P E.w) E.P E.w E.K E.mg E.base N x (A8 st) f cdv A outer s H Ek) (Av st) t m):KnX E ⟨x,st,ps,k,F⟩:=by
 obtain⟨fa,fd,DA⟩:=D;subst hF;subst hk;refine⟨fa,fd,DA,?_,Z5⟩;have h:=h fa;obtain⟨F,hmg,bd⟩:=DA;obtain⟨⟨oc,od,kV,doc,pm,an,cdv,ct,osl,rfl,lk,hcd⟩,kp⟩:=F;refine Qq lk hcd S (λvs H Q E h=>h.1) λA outer s H vs Q Ek hr hs=>?_;obtain⟨t,q⟩:=h cdv A outer s H Ek hr;refine⟨λ_ σ H'=>t ⟨λ_ _=>False,λv H'=>∀a,v=.ref a->Ek (.ref a) none H',λ_ _=>False,λ_ _=>False⟩ σ H',λpins s1 σ1 H1 D I h1=>?_,?_⟩
 .refine thx (q.p pins s1 σ1 H1 _ I h1) (λfl s2 z=>?_) λe s2 z=>?_
  .cases fl with
   |next=>obtain⟨_,_,_,z⟩:=z;exact z.elim
   |ret v=>obtain⟨_,_,_,_,_,z⟩:=z;exact z.elim
   |brk=>obtain⟨_,_,_,z⟩:=z;exact z.elim
   |cont=>obtain⟨_,_,_,z⟩:=z;exact z.elim
  .obtain⟨a,C,dx,tb,fs,σ',H',e0,I',r⟩:=z;exact U0 (pins:=pins) ⟨a,C,dx,tb,fs,σ',H',e0,I'.wish _,r⟩ λa H' z=>z a rfl
 .obtain⟨hk,ρ,hd,ds,d,hd',hR,hr',hF,hQ⟩:=hs;dsimp only at hF;unfold mkX at hF;split at hF
  .next hl=>
   split at hF
   .next d1 h2 e1=>
    cases hF;rw[<- hl]at e1;exact q.r ρ _ H hd _ _ (.rt d) hd' hR (Ip hr') e1 λρ' H' x R v r=>hQ ρ' H' v x R r
   .cases hF
  .cases hF
def YA{i:Nat}{ns:List Str}{xB n:Str}{pB ph:Pos}{body suite:List Stmt}{b0:Stmt}{tb tx th:TS}{mb mx mh:MS}(hc:Hx X.en xB ns)(hb:QSs K X.nox body tb mb)(hx:YXs K X body tx mx)(hh:∀a,QSs K (X.hand (.ref a)) (b0::suite) th mh)
 (hN:X.N.Nodup) (hi:X.N[i]?=some n) (hl:X.env.scope.names.lookup n=some .local:=by rfl) (hst:X.stack=X.env::X.outer/\X.env.frame=some X.env.locals:=by exact⟨rfl,rfl⟩) (hg:Gl X xB:=by rfl) (hdb:(xB==("__debug__":Str))=false:=by decide) (hK:X.K=K:=by rfl):
 QS K X (.Try body [.ExceptHandler (some (.Name xB pB)) (some n) (b0::suite) ph] [] [] pos) (Pl X.K X.mg xB tb tx th (some i)) (DT ns (some i) mb mx mh):=by
 subst hK;obtain⟨⟨B,hm⟩,hc⟩:=hc;refine⟨YY hst hb.p hx.p hg hm hN hi hl (λa=>(hh a).p) hdb,XX (λnm hn B' C h1 h2=>?_) hb.r hx.r (hh 0).r⟩;obtain⟨B2,C2,q1,q2,q3⟩:=hc nm hn;obtain rfl:=ND (o:=X.mg xB) q1 h1;obtain rfl:=Jc q2 h2;exact q3
def NO(hg:Gl X x)(hm:X.mg x=some (.ref C))(hd:(x==("__debug__":Str))=false):PE X (.Name x pos) (JY X.mg x):=λ_ _ _ H _ I h=>DQ I hg hm ⟨.ref C,H,I,rfl,h C hm⟩ hd
def GlN(X:Cx):List Expr->Prop
 |.Name x p::r=>(Gl X x/\(x==("__debug__":Str))=false/\starEach (.Name x p::r) X.env=(false,eval (.Name x p) X.env)::starEach r X.env)/\GlN X r
 |[]=>True
 |_=>False
theorem NQ:∀{es:List Expr},GlN X es->(∀x∈D9 es,∃C,X.mg x=some (.ref C))->PA X es (Fc X.mg (D9 es))
 |[],_,_=>C4
 |e::es,hn,hx=>by
  cases e with
  |Name x p=>
   obtain⟨⟨g,d,h⟩,hn⟩:=(show(Gl X x/\(x==("__debug__":Str))=false/\starEach (.Name x p::es) X.env=(false,eval (.Name x p) X.env)::starEach es X.env)/\GlN X es from hn)
   obtain⟨C,hm⟩:=hx x (by simp[D9]);exact BB (NO g hm d) (NQ hn (λy hy=>hx y (by simp[D9,hy]))) h
  |_=>exact(show False from hn).elim
def bU{tbl:List (Str×Bool)}{B:Str}{pB:Pos}(hC:Ix X.en B tbl)(bI:X.mg "isinstance"=none)(he:QE K X e te me)(gI:Gl X "isinstance":=by rfl)(gB:Gl X B:=by rfl)(dB:(B==("__debug__":Str))=false:=by decide)
 (s1:starEach [e,.Name B pB] X.env=109::starEach [.Name B pB] X.env:=by rfl) (hK:X.K=K:=by rfl):
 QE K X (.Call (.Name "isinstance" p) [e,.Name B pB] [] pos) (tCB (Kc K) (Af te (Af (JY X.mg B) BG))) (DU tbl me):=by
 subst hK;obtain⟨⟨C0,hm⟩,hC⟩:=hC;refine⟨DJ O6 gI bI JO (BB he.p (BB (NO gB hm dB) C4) s1) 107 107 s1,aW (λnm b hb C B' h1 h2=>?_) he.r⟩;obtain⟨⟨fs,cl⟩,B2,C2,q1,q2,q3⟩:=hC nm b hb;obtain rfl:=ND (o:=X.mg B) q1 h2;have:=(cl.k C h1).1;obtain rfl:=Jc q2 h1;exact⟨this,q3⟩
def bV{pB:Pos}(hC:Iv X.en tbl)(bI:X.mg "isinstance"=none)(he:QE K X e te me)(gI:Gl X "isinstance":=by rfl)(gB:Gl X "ValueError":=by rfl)
 (s1:starEach [e,.Name "ValueError" pB] X.env=109::starEach [.Name "ValueError" pB] X.env:=by rfl) (hK:X.K=K:=by rfl):
 QE K X (.Call (.Name "isinstance" p) [e,.Name "ValueError" pB] [] pos) (tCB (Kc K) (Af te (Af (tC (.ty "ValueError")) BG))) (DU tbl me):=by
 subst hK;obtain⟨hV,hC⟩:=hC;refine⟨DJ O6 gI bI JO (BB he.p (BB (eR gB hV) C4) s1) 107 107 s1,aX (λnm b hb C h1=>?_) he.r⟩;obtain⟨⟨fs,cl⟩,⟨C2,q1,q2,q3⟩,rfl⟩:=hC nm b hb;have:=(cl.k C h1).1;obtain rfl:=Jc q2 h1;exact⟨this,q3⟩
theorem NC:∀{as bs:List Addr},as.map (λc=>some (Value.ref c))=bs.map (λc=>some (Value.ref c))->as=bs
 |[],[],_=>rfl
 |[],_::_,h=>by cases h
 |_::_,[],h=>by cases h
 |a::as,b::bs,h=>by
  rw[iq,iq]at h;obtain⟨h1,h2⟩:=List.cons.inj h;cases h1;rw[NC h2]
def YS{k1}{pB:Pos}(hC:Itx X.en (D9 es) tbl)(bI:X.mg "isinstance"=none)(he:QE K X e te me)(hn:GlN X es:=by repeat' first|exact True.intro|refine⟨⟨rfl,by decide,rfl⟩,?_⟩)(hx:(D9 es).length<=1000:=by decide)(gI:Gl X "isinstance":=by rfl)
 (s1:starEach [e,.Tuple es k1 pB] X.env=109::starEach [.Tuple es k1 pB] X.env:=by rfl) (s2:starEach [.Tuple es k1 pB] X.env=(false,eval (.Tuple es k1 pB) X.env)::starEach [] X.env:=by rfl) (hK:X.K=K:=by rfl):
 QE K X (.Call (.Name "isinstance" p) [e,.Tuple es k1 pB] [] pos) (tCB (M7 K) (Af te (Af (KL (Fc X.mg (D9 es))) BG))) (DU tbl me):=by
 subst hK;obtain⟨hB,hC⟩:=hC;refine⟨DJ Tm gI bI JO (BB he.p (BB (Si (NQ hn hB)) C4 s2) s1) 107 107 s1,Xp hx (λnm b hb C cs h1 h2=>?_) he.r⟩;obtain⟨⟨fs,cl⟩,cs2,C2,q1,q2,q3⟩:=hC nm b hb;have:=(cl.k C h1).1;obtain rfl:=Jc q2 h1;obtain rfl:=NC ((show(D9 es).map X.mg=_ from q1).symm.trans h2);exact⟨this,q3⟩
def bX(hC:Fx X.en ns f)(he:QE K X e te me)(hb:attributeBase e f X.env (eval e X.env)=eval e X.env:=by rfl)(hK:X.K=K:=by rfl):QE K X (.Attribute e f pos) (UG K te f) (Kl ns f me):=by
 subst hK;refine⟨bx he.p hb,aa (λnm hn C h1=>?_) he.r⟩;obtain⟨fs,cl,hf⟩:=hC nm hn;obtain⟨k1,k2⟩:=cl.k C h1;exact⟨k1,k2 f hf⟩
end
section
variable{m1 n1 m2 n2:MS}{mf:ME}
def Lc:Dj (EF nm fs ma) Bn:=⟨λ_ _ _ _ _=>rfl,λls hd fl x e n=>by
 obtain⟨⟨ds,y⟩,e1,e2⟩:=iS e;dsimp only at e2;split at e2
 .cases e2;exact absurd rfl (n _)
 .cases e2⟩
section
variable{Q:Fl->Hd->Prop}{QE:D->Hd->Prop}{fs:List Str}
def MP(h:WA ma ls hd λds x=>104=fs.length/\Q (.rt (.op nm fs ds)) x):WS (EF nm fs ma) ls hd Q:=by
 obtain⟨ds,x,e,l,q⟩:=h;refine⟨_,x,?_,q⟩;unfold EF;rw[e];exact ia l
def MN(h:WS mb ls hd Q):WS (DT ns i mb mx mh) ls hd Q:=by
 obtain⟨fl,x,e,q⟩:=h;refine⟨fl,x,?_,q⟩;unfold DT;rw[e]
def ML(dj:Dj mx mb)(h:WS mx ls hd λfl x=>∃nm fs ds,fl=.rt (.op nm fs ds)/\nm∈ns/\WS mh (hLs ls.length i (.op nm fs ds)) x λf2 y=>∃l2,f2=.nx l2/\Q (.nx (uLs i l2)) y):WS (DT ns i mb mx mh) ls hd Q:=by
 obtain⟨fl,x,e,nm,fs,ds,rfl,hn,f2,y,e2,l2,rfl,q⟩:=h;refine⟨_,y,?_,q⟩;unfold DT;rw[dj.rt _ _ _ _ e,e];dsimp only;rw[ia hn,e2]
def MU{tbl:List (Str×Bool)}(h:WE me ls hd λd x=>∃nm fs ds b,d=.op nm fs ds/\tbl.lookup nm=some b/\QE (.im (.bl b)) x):WE (DU tbl me) ls hd QE:=by
 obtain⟨d,x,e,nm,fs,ds,b,rfl,hb,q⟩:=h;refine⟨_,x,?_,q⟩;unfold DU;rw[e];show(tbl.lookup nm).map _=_;rw[hb];rfl
def Zo(h:WE me ls hd λd x=>∃nm fs ds z,d=.op nm fs ds/\nm∈ns/\104=fs.length/\(fs.zip ds).lookup f=some z/\QE z x):WE (Kl ns f me) ls hd QE:=by
 obtain⟨d,x,e,nm,fs,ds,z,rfl,hn,hl,hz,q⟩:=h;refine⟨_,x,?_,q⟩;unfold Kl;rw[e];dsimp only[bind_some];rw[ia ⟨hn,hl⟩,hz];rfl
end
end
end L2
namespace L2
open PySem PySem.Spec PyProof.Rows PySem.W
noncomputable def ltZ(p q:Int×Int):Bool:=decide (p.1<q.1∨p.1=q.1/\p.2<q.2)
def TPair(h:Heap)(a:Addr)(p:Int×Int):Prop:=∃(o:Obj) (n:Nat) (t u:Tok),h.get? a=some o/\o.cls=.type "tuple"/\o.data=.seq #[.int p.1 t,.int p.2 u] n
section
variable{E:Value->Shared->Prop}{s:Shared}
def TPair.typeIs(h:TPair s.heap a p):s.TypeIs (.ref a) "tuple":=let ⟨o,_,_,_,h1,h2,_⟩:=h;⟨o,h1,h2⟩
def UC{P:PySem.Fin->Shared->Prop}(ha:TPair s.heap a p)(hb:TPair s.heap b q)(h:P (.done (.ret (.bool (ltZ p q)))) s):
 wpAny 103 A (Builtin.«tuple.__lt__» ⟨[.ref a,.ref b],[]⟩) P E s:=by
 have hTb:=hb.typeIs;obtain⟨oa,na,t1,t2,hoa,_,hda⟩:=ha;obtain⟨ob,nb,u1,u2,hob,_,hdb⟩:=hb;show wpAny _ _ (isInstance (.ref b) (.type "tuple") >>= _) _ _ s;refine ic (wpAny_isInstance hTb isSubtype_tuple_tuple ?_);simp only[Bool.not_true,Bool.false_eq_true,j5];refine ic (wpAny_tupleItemsOf hoa hda ?_);refine ic (wpAny_tupleItemsOf hob hdb ?_);refine ic ?_;have neq:∀(x y:Int) (t u:Tok),x≠y->P (.done (.ret (.bool (ltZ p q)))) s->decide (x<y)=ltZ p q->True:=λ_ _ _ _ _ _ _=>trivial;refine wpAny_forIn_list _
  (λrest r s'=>r.1=none/\s'=s/\(rest=[(.int p.1 t1,.int q.1 u1),(.int p.2 t2,.int q.2 u2)]∨rest=[(.int p.2 t2,.int q.2 u2)]/\p.1=q.1∨rest=[]/\p.1=q.1/\p.2=q.2))
  _ ?_ ?_ _ _ ⟨rfl,rfl,.inl rfl⟩
 .rintro⟨u,v⟩ rest r s' ⟨hr,rfl,hz⟩;rcases hz with hz|⟨hz,e1⟩|⟨hz,e1⟩
  .simp only[List.cons.injEq,Prod.mk.injEq]at hz;obtain⟨⟨rfl,rfl⟩,rfl⟩:=hz;refine ic (jY ?_);by_cases hk:p.1=q.1
   .rw[beq_iff_eq.mpr hk];simp only[Bool.not_true,Bool.false_eq_true,j5];exact ik ⟨rfl,rfl,.inr (.inl ⟨by trivial,hk⟩)⟩
   .rw[beq_eq_false_iff_ne.mpr hk];simp only[Bool.not_false,iy];have hf:ltZ p q=decide (p.1<q.1):=by unfold ltZ;simp[hk]
    rw[hf]at h;refine ic (ic (wpAny_rule (ik (ic (k8 (op:=.Lt) (jt _ _ _) (jt _ _ _) F.slot_int_lt F.entry_int_lt (F.args_int_lt_2 _ _) (gives_int_lt _ _ _ _) (λx=>nomatch x) ?_)))));exact ik (ik h)
  .simp only[List.cons.injEq,Prod.mk.injEq]at hz;obtain⟨⟨rfl,rfl⟩,rfl⟩:=hz;refine ic (jY ?_);by_cases hk:p.2=q.2
   .rw[beq_iff_eq.mpr hk];simp only[Bool.not_true,Bool.false_eq_true,j5];exact ik ⟨rfl,rfl,.inr (.inr ⟨by trivial,e1,hk⟩)⟩
   .rw[beq_eq_false_iff_ne.mpr hk];simp only[Bool.not_false,iy];have hf:ltZ p q=decide (p.2<q.2):=by unfold ltZ;simp[e1]
    rw[hf]at h;refine ic (ic (wpAny_rule (ik (ic (k8 (op:=.Lt) (jt _ _ _) (jt _ _ _) F.slot_int_lt F.entry_int_lt (F.args_int_lt_2 _ _) (gives_int_lt _ _ _ _) (λx=>nomatch x) ?_)))));exact ik (ik h)
  .cases hz
 .rintro⟨r1,r2⟩ s' ⟨hr,rfl,hz⟩;simp only at hr;subst hr;refine ik ?_;rcases hz with hz|⟨hz,e1⟩|⟨hz,e1,e2⟩
  .cases hz
  .cases hz
  .have hf:ltZ p q=false:=by unfold ltZ;simp[e1,e2]
   rw[hf]at h;exact h
def UD{Q:Value->Shared->Prop}(hu:A.units<cLine)(ha:TPair s.heap a p)(hb:TPair s.heap b q)(h:Q (.bool (ltZ p q)) s):wpAny 103 A (richCompare .Lt (.ref a) (.ref b)) Q E s:=
 wpAny_richCompare_same_room (op:=.Lt) ha.typeIs hb.typeIs F.slot_tuple_lt
  (wpAny_call_entry F.slot_tuple_lt ha.typeIs F.entry_tuple_lt (UC ha hb ⟨_,rfl,(λe=>nomatch e),h⟩) (F.args_tuple_lt_2 _ _)) hu
end
section
variable{E:Value->Shared->Prop}
def O7{rest:List Expr}{Q:Value->Shared->Prop}
 (h:wpAny M A (spliced (backTo pos (starEach (e::rest) env))) (λvs s₁=>(∃(o:Obj) (fd:FuncData),s₁.heap.get? a=some o/\o.data=.func fd)/\wpAny M A (call (.ref a) vs) Q E s₁) E s)
 (he:starEach (e::rest) env=(false,eval e env)::starEach rest env:=by rfl):
 wpAny M A (callWith pos (.ref a) [] (backTo pos (starEach (e::rest) env)) []) Q E s:=by
 rw[he]at h ⊢;unfold callWith;refine ic (ja (iX (Calls.evalArgs_plain (Q:=λx s₁=>(∃(o:Obj) (fd:FuncData),s₁.heap.get? a=some o/\o.data=.func fd)/\wpAny M A (call (.ref a) ([]++x.pos) x.kw) Q E s₁) (iX h (λvs s₁ h₁=>h₁) λ_ _ x=>x)) (λx s₁ h₁=>ic (jw ?_)) λ_ _ x=>x));obtain⟨⟨o,fd,g1,g2⟩,g3⟩:=h₁;have tail:∀{t:Sem Value},wpAny M A t Q E s₁->wpAny M A (t >>= λr=>holding [r] point >>= λ_=>pure r) Q E s₁:=
  λht=>ic (iX ht (λr s₂ hr=>ic (ja (wpAny_point (ik hr)))) λ_ _ x=>x)
 cases hs:((backTo pos ((false,eval e env)::starEach rest env)).any (·.1)||([]:List (Option Str×Sem Value)).any (·.1.isNone))<;>refine ic (m:=keeperOf (.ref a)) ?_<;>unfold keeperOf<;>refine ic (wpAny_load g1 ?_)<;>rw[g2]<;>refine ik ?_
 .first|refine wpAny_ite ?_|skip
  split<;>first|exact tail g3|exact tail (by unfold callMarked;exact Calls.wpAny_keep g3)
 .first|exact tail (by unfold callMarked;exact Calls.wpAny_keep g3)|exact tail g3
end
noncomputable def Mj(tf:TE)(ta:TA):TE:=λσ H Q=>tf σ H λv H1=>∃f,v=.ref f/\ta σ H1 λvs H2=>∃x y,vs=[x,y]/\∃c q cl a0 o1 o2 xs j z,x=.int j/\H2 f=some (.ext (fnG f c q cl))/\H2 c=some (.ext (cdF c q))/\KF o1 a0/\H2 cl=some (.frz o1 FY)/\H2 a0=some (.frz o2 (.lst xs))/\atI xs j=some z/\Q z H2
section
variable{X:Cx}{P:Addr}{fr:List Str}{ix:List Nat}{lpos:Pos}
def VN{pos:Pos}(hr:Room 1 X.A)(hf:PE X (.Name x p) tf)(ha:PA X (e::es) ta)(he:starEach (e::es) X.env=109::starEach es X.env:=by rfl):
 PE X (.Call (.Name x p) (e::es) [] pos) (Mj tf ta):=by
 intro pins s σ H Q I h;refine jr (thn (hf pins s σ H _ I h) λu s1 hu=>?_);obtain⟨v,H1,I1,rv,q⟩:=hu;obtain⟨f,rfl,q⟩:=q;cases rv;refine O7 (thn (ha pos pins s1 σ H1 _ I1 q) λus s2 hus=>?_) he;obtain⟨vs,H2,I2,r,x,y,rfl,hQ⟩:=hus;obtain⟨u0,u1,rfl,r0,r1⟩:∃u0 u1,us=[u0,u1]/\RelV x u0/\RelV y u1:=by
  cases r with
  |cons a b=>cases b with
   |cons a2 b2=>cases b2;exact⟨_,_,rfl,a,a2⟩
 obtain⟨c,q,cl,a0,o1,o2,xs,j,z,rfl,g1,g2,g3,g4,g5,g6,hQ⟩:=hQ;obtain⟨params,scope,p1,p2,xn,px,pp,pos',pm,ctv,ho',S⟩:=(I2.hok f _ g1).1;refine⟨⟨_,_,ho',rfl⟩,?_⟩;exact iX (W9 I2 rfl hr g1 g2 g3 g4 g5 r0 r1 g6 hQ) (λ_ _ z=>z) λ_ _ z=>z.elim
end
def Wu(K:Frag)(H:Hp)(k:V)(n:Int×Int):Prop:=∃a,k=.ref a/\SqT K H a [.int n.1,.int n.2]
def Ox{n:Int×Int}(I:Inv X pins σ H s)(h:SqT X.K H a [.int n.1,.int n.2]):TPair s.heap a n:=by
 obtain⟨jts,rj,⟨o,ho,hc,m,hd⟩,_⟩:=I.tuple h;cases rj with
 |cons a1 b1=>cases b1 with
  |cons a2 b2=>
   cases b2;obtain⟨t,rfl⟩:=a1;obtain⟨u,rfl⟩:=a2;exact⟨o,m,t,u,ho,hc,hd⟩
def VQ{K:Frag}{a b:Int}(h:RD K ρ H (.im (.tup [.int a,.int b])) k):Wu K H k (a,b):=by
 simp only[RD,RI,RIs]at h;obtain⟨p,xs,rfl,sq,x,r,rfl,rfl,y,r',rfl,rfl,rfl⟩:=h;exact⟨p,rfl,sq⟩
noncomputable def mKP(i:I):Option (Int×Int):=match i with
 |.tup [.int a,.int b]=>some (a,b)
 |_=>none
def wMp:Wy (Int×Int) where
 z:=false
 y:=true
 op:=ltZ
 KR:=Wu
 kp:=mKP
 rd:=λ{_ _ _ _ _ _} e r=>by
  unfold mKP at e;split at e<;>cases e;exact VQ r
 cmp:=λhu I h1 h2 r1 r2 q=>by
  obtain⟨a,rfl,sa⟩:=h1;obtain⟨b,rfl,sb⟩:=h2;cases r1;cases r2;exact UD hu (Ox I sa) (Ox I sb) q
noncomputable def DW(mf:ME)(ma:MA):ME:=λls hd=>(mf ls hd).bind λp=>match p.1 with
 |.fv 1 ds=>(ma ls p.2).bind λr=>match r.1 with
  |[.im (.int j),_]=>(atI ds j).map (·,r.2)
  |_=>none
 |_=>none
def Uj{K:Frag}(hf:RE K tf mf)(ha:RA K ta ma):RE K (Mj tf ta) (DW mf ma):=by
 and_intros;obtain⟨⟨d1,h1⟩,e1,hm⟩:=iS hm;dsimp only at hm;split at hm
 .next es=>
  obtain⟨⟨ds,h2⟩,e2,hm⟩:=iS hm;dsimp only at hm;split at hm
  .next l0 j d0=>
   obtain⟨w,ew,e3⟩:=iT hm;cases e3;refine hf ρ σ H hd ls _ _ _ hR hL e1 λρ1 H1 v1 x1 R1 r1=>?_;simp only[RD]at r1;obtain⟨f,xs,rfl,⟨_,c,q,cl,a0,o1,o2,g1,g2,g3,g4,g5⟩,rs⟩:=r1;refine⟨f,rfl,ha ρ1 σ H1 _ ls _ _ _ R1 (hL.ext hR x1) e2 λρ2 H2 vs x2 R2 r2=>?_⟩;simp only[RDs]at r2;obtain⟨x,r,rfl,q1,y,r',rfl,q2,rfl⟩:=r2;simp only[RD,RI]at q1;subst q1;have rs2:=rs.ext R1 x2;have gr:=x2.grow R1;obtain⟨n,n1,n2⟩:=L8 rs2.len ew;obtain⟨z,ez,rz⟩:=rs2.get n1;exact⟨_,y,rfl,c,q,cl,a0,o1,o2,xs,j,z,rfl,gr.keep _ _ trivial g1,gr.keep _ _ trivial g2,g3,gr.keep _ _ trivial g4,gr.keep _ _ trivial g5,n2 z ez,hQ ρ2 H2 z 106 R2 rz⟩
  .cases hm
 .cases hm
noncomputable def Jt(mi:ME)(ix:List Nat)(mb:ME):ME:=Ez Aa mKP ltZ mi ix mb
def VA(K:Frag){X:Cx}{pos:Pos}{k:Nat}(hr:Room k X.A)(hf:QE K X (.Name x p) tf mf)(ha:QA K X (e::es) ta ma)(hk:1<=k:=by decide)(he:starEach (e::es) X.env=109::starEach es X.env:=by rfl):
 QE K X (.Call (.Name x p) (e::es) [] pos) (Mj tf ta) (DW mf ma):=⟨VN (hr.mono hk) hf.p ha.p he,Uj hf.r ha.r⟩
section
variable{Q:D->Hd->Prop}
def Rq(h:WE mf ls hd λd x=>d=.fv 1 es/\WA ma ls x λds y=>∃(j:Int) (b c:D),ds=[.im (.int j),b]/\atI es j=some c/\Q c y):WE (DW mf ma) ls hd Q:=by
 obtain⟨d,x,e1,rfl,ds,y,e2,j,b,c,rfl,e3,q⟩:=h;refine⟨_,_,?_,q⟩;simp only[DW,e1,bind_some,e2,e3,j4]
def U8{ix:List Nat}(h:WE mi ls hd λd x=>∃(e:D) (es:List D) (kf:D->Int×Int),Aa x d=some (e::es)/\(∀y∈e::es,mb (some y::ix.map λi=>(ls[i]?).join) x=some (.im (.tup [.int (kf y).1,.int (kf y).2]),x))/\Q (BD ltZ es (es.map kf) e (kf e)) x):WE (Jt mi ix mb) ls hd Q:=
 Ih (h.mono λ_ _ ⟨e,es,kf,h1,h2,h3⟩=>⟨e,es,kf,h1,λy hy=>⟨_,rfl,h2 y hy⟩,h3⟩)
def leP(p q:Int×Int):Prop:=ltZ q p=false
def Vf(p:Int×Int):leP p p:=by unfold leP ltZ;simp
def LU(h:leP p q)(h':leP q r):leP p r:=by
 unfold leP ltZ at *;simp only[k9,not_or,not_and,Int.not_lt]at *;omega
theorem Ha(kf:D->Int×Int):∀(es:List D) (b:D),BD ltZ es (es.map kf) b (kf b)∈b::es/\∀y∈b::es,leP (kf (BD ltZ es (es.map kf) b (kf b))) (kf y)
 |[],b=>⟨ir,λy hy=>by rw[iU]at hy;subst hy;exact Vf _⟩
 |e::es,b=>by
  rw[iq,BD];by_cases h:ltZ (kf e) (kf b)=true
  .rw[ia h];obtain⟨h1,h2⟩:=Ha kf es e;refine⟨il _ h1,λy hy=>?_⟩;rcases mem_cons.mp hy with rfl|hy
   .refine LU (h2 e ir) ?_;unfold leP ltZ at *;simp only[jL,k9,not_or,not_and,Int.not_lt]at *;omega
   .exact h2 y hy
  .rw[ie h];obtain⟨h1,h2⟩:=Ha kf es b;refine⟨?_,λy hy=>?_⟩
   .rcases mem_cons.mp h1 with q|q
    .rw[q];exact ir
    .exact il _ (il _ q)
   .rcases mem_cons.mp hy with rfl|hy
    .exact h2 y ir
    .rcases mem_cons.mp hy with rfl|hy
     .refine LU (h2 b ir) ?_;unfold leP;simpa using h
     .exact h2 y (il _ hy)
end
theorem Nh:∀{bs:List Int} {us:List Value} {i:Nat} {v:Value},Vals (bs.map V.int) us->us[i]?=some v->∃b t,bs[i]?=some b/\v=.int b t
 |[],_,_,_,.nil,e=>by simp at e
 |b::bs,_,0,_,.cons r _,e=>by
  simp at e;subst e;obtain⟨t,rfl⟩:=r;exact⟨b,t,rfl,rfl⟩
 |b::bs,_,i+1,_,.cons _ t,e=>by
  obtain⟨c,t,h1,h2⟩:=Nh (i:=i) t (by simpa using e);exact⟨c,t,by simpa using h1,h2⟩
def Wj(K:Frag):List V->Hp->VK->Prop:=λxs H Q=>∃(a:Addr) (bs:List Int),xs=[.ref a]/\SqL K H a (bs.map V.int)/\Q (.bl (bs.any λn=>n != 0)) H
theorem any_map(bs:List Int):((57 bs.length).any λi=>((bs[i]?).getD 0) != 0)=bs.any λn=>n != 0:=by
 have:=LSm.range_any (bs.map λn=>n != 0);rw[iV,List.any_map]at this;rw[show(id ∘ λn:Int=>n != 0)=λn:Int=>n != 0 from rfl]at this;rw[<- this,Bool.eq_iff_iff,any_eq_true,any_eq_true];constructor
 .rintro⟨i,hi,h⟩;have hi':i<bs.length:=by simpa using hi
  exact⟨i,hi,by simpa [hi']using h⟩
 .rintro⟨i,hi,h⟩;have hi':i<bs.length:=by simpa using hi
  exact⟨i,hi,by simpa [hi']using h⟩
def RW(K:Frag){X:Cx}(hc:X.calm=true)(hK:X.K=K:=by rfl):CallR X (.builtin "any") (Wj K):=by
 subst hK;intro pins s σ H xs us Q I r h;obtain⟨a,bs,rfl,hq,q⟩:=h;obtain⟨u,rfl,ru⟩:=BJ r;cases ru;obtain⟨its,rv,p,hz⟩:=I.list hq;have hl:=p.isList;have hlen:=rv.length;have hlt:a<s.heap.objs.size:=by obtain⟨_,e,_⟩:=hl;exact 58 e
 refine call_any_walk (jZ hl ?_);refine⟨49,[49,a],[49],its.toArray.size,_,_,λi=>((bs[i]?).getD 0) != 0,rfl,Walks.list (A:=X.A.in1) (I.ok.hd hc) _ a (iu hlt) its.toArray,
  ⟨⟨_,115 _ rfl,rfl,rfl⟩,hl.push _⟩,λi v s' Q' E' hP hQ=>?_,λh' tk hk=>?_⟩
 .obtain⟨b,t,e,rfl⟩:=Nh rv (by simpa using hP);simp only[e,getD_some]at hQ;exact P.truthy_int hQ
 .have e:((57 its.toArray.size).any λi=>((bs[i]?).getD 0) != 0)=bs.any λn=>n != 0:=by
   rw[ip,<- hlen,iV];exact any_map bs
  rw[e];exact⟨.bl _,H,I.kept (LSm.kept_iter hk),rfl,q⟩
noncomputable def Jx(ds:List D):Option D:=(B6 ds).map λns=>.im (.bl (ns.any λn=>n != 0))
def Xh{K:Frag}:RG K false (Wj K) Jx:=by
 intro ρ H hd a xs ds Q z hR q r e hQ;obtain⟨ns,e1,rfl⟩:=iT e;rw[F6 e1]at r;have:=Fg r;subst this;rcases q with q|⟨q,_⟩
 .exact⟨a,ns,rfl,q,hQ H _ .refl hR (by simp[RD,RI])⟩
 .cases q
def ice(H:Hp)(cl:Addr)(o1:Obj)(a0:Addr)(o2:Obj)(xs:List V):Hp:=upd (upd H cl (.frz o1 FY)) a0 (.frz o2 (.lst xs))
def thaw(H:Hp)(cl a0:Addr)(xs:List V):Hp:=upd (del H cl) a0 (.lst xs)
noncomputable def Mk(sp:Sp)(P:Addr)(q:Str)(pos:Pos)(i:Nat)(t1 t2:TE):TE:=λσ H Q=>t1 σ H λx1 H1=>t2 σ H1 λx2 H2=>∃ps a0 xs,H2 P=some (.tbl ps)/\Ge H2 q pos ps/\σ[i]?=some (some (.ref a0))/\H2 a0=some (.lst xs)/\
 ∀H3 c f cl o1 o2,TabStep P q pos H2 H3->H3 c=some (.ext (cdF c q))->H3 f=none->H3 cl=none->cl≠f->H3 a0=some (.lst xs)->KF o1 a0->sp [x1,x2,.ref f] (ice (upd H3 f (.ext (fnG f c q cl))) cl o1 a0 o2 xs) (λv H'=>Q v (thaw H' cl a0 xs)) E0
theorem TabStep.lst(t:TabStep P q pos H H')(hP:H P=some (.tbl ps))(h:H a=some (.lst xs)):H' a=some (.lst xs):=by
 rcases t with rfl|⟨c,hc,_,rfl⟩
 .exact h
 .rw[upd_ne (AJ h hc),upd_ne (λe=>by subst e;rw[hP]at h;cases h)];exact h
section
theorem HOk.ice(k:HOk P w H h)(h1:H cl=none)(h2:H a0=some (.lst xs))(g1:h.get? cl=some o1)(g2:h.get? a0=some o2):HOk P w (ice H cl o1 a0 o2 xs) h:=by
 have nac:a0≠cl:=AJ h2 h1;have oth:∀b ho,H b=some ho->b≠a0->L2.ice H cl o1 a0 o2 xs b=some ho:=λb ho e n=>by
  unfold L2.ice;rw[upd_ne n,upd_ne (AJ e h1)];exact e
 have st:∀b ho,ObjOk P w H h b ho->ObjOk P w (L2.ice H cl o1 a0 o2 xs) h b ho:=λb ho x=>x.stay (λ_ _ _ z=>z) (λb z=>oth b _ z λe=>by subst e;rw[h2]at z;cases z) λb ys z=>oth b _ z λe=>by subst e;rw[h2]at z;cases z
 intro b ho e;by_cases n:b=a0
 .subst n;unfold L2.ice at e;rw[AF]at e;cases e;exact⟨g2,st _ _ (k _ _ h2)⟩
 .by_cases m:b=cl
  .subst m;unfold L2.ice at e;rw[upd_ne n,AF]at e;cases e;exact⟨g1,trivial,⟨_,g1⟩,λ_ _ _ _=>trivial⟩
  .have e2:H b=some ho:=by
    unfold L2.ice at e;rw[upd_ne n,upd_ne m]at e;exact e
   exact st _ _ (k b ho e2)
theorem HOk.thaw(k:HOk P w H h)(h1:H cl=some (.frz o1 FY))(h2:H a0=some (.frz o2 (.lst xs))):HOk P w (thaw H cl a0 xs) h:=by
 have d:=k.del h1;have nac:a0≠cl:=λe=>by subst e;rw[h1]at h2;cases h2
 have e0:L2.del H cl a0=some (.frz o2 (.lst xs)):=by rw[EH nac];exact h2
 have st:∀b ho,ObjOk P w (L2.del H cl) h b ho->ObjOk P w (L2.thaw H cl a0 xs) h b ho:=λb ho x=>x.stay (λ_ _ _ z=>z) (λb z=>by unfold L2.thaw;rw[upd_ne λe=>by subst e;rw[e0]at z;cases z];exact z) λb ys z=>by unfold L2.thaw;rw[upd_ne λe=>by subst e;rw[e0]at z;cases z];exact z
 intro b ho e;by_cases n:b=a0
 .subst n;unfold L2.thaw at e;rw[AF]at e;cases e;exact st _ _ (d _ _ e0).2
 .unfold L2.thaw at e;rw[upd_ne n]at e;exact st _ _ (d b ho e)
theorem Un.thaw(u:Un fs [] (ice H cl o1 a0 o2 xs) H' h h')(h1:H cl=none)(h2:H a0=some (.lst xs))(g1:h.get? cl=some o1)(g1':h'.get? cl=some o1):Un fs [] H (thaw H' cl a0 xs) h h':=by
 have nac:a0≠cl:=AJ h2 h1;have n0:∀b,H b=none->b≠cl->L2.ice H cl o1 a0 o2 xs b=none:=λb n m=>by
  unfold L2.ice;rw[upd_ne (AJ h2 n).symm,upd_ne m];exact n
 have s0:∀b ho,H b=some ho->(∀ys,ho≠.lst ys)->L2.ice H cl o1 a0 o2 xs b=some ho:=λb ho e n=>by
  unfold L2.ice;rw[upd_ne (λz=>by subst z;rw[h2]at e;exact n xs (111 e).symm),upd_ne (AJ e h1)];exact e
 have t0:∀b ho,H b≠none->H' b=some ho->b≠a0->L2.thaw H' cl a0 xs b=some ho:=λb ho e q n=>by
  unfold L2.thaw;rw[upd_ne n,EH λz=>by subst z;exact e h1];exact q
 refine⟨λb o e n m1 m2=>?_,λb o e n m1 m2=>?_,λb o e n m=>?_,λb o e m=>u.there b o e m,λb ys e=>?_,λb o v e=>?_,λb ps e=>?_⟩
 .by_cases z:b=cl
  .subst z;rw[g1]at e;cases e;exact g1'
  .exact u.keep b o e (n0 b n z) m1 m2
 .by_cases z:b=cl
  .subst z;rw[g1]at e;cases e;exact⟨_,g1'⟩
  .exact u.slot b o e (n0 b n z) m1 m2
 .unfold L2.thaw;rw[upd_ne (AJ h2 n).symm];by_cases z:b=cl
  .subst z;exact JM
  .rw[EH z];exact u.free b o e (n0 b n z) m
 .exact t0 b _ (by rw[e];simp) (u.tups b ys (s0 b _ e λ_ z=>by cases z)) λz=>by subst z;rw[h2]at e;cases e
 .exact t0 b _ (by rw[e];simp) (u.frzs b o v (s0 b _ e λ_ z=>by cases z)) λz=>by subst z;rw[h2]at e;cases e
 .obtain⟨more,q⟩:=u.tbls b ps (s0 b _ e λ_ z=>by cases z);exact⟨more,t0 b _ (by rw[e];simp) q λz=>by subst z;rw[h2]at e;cases e⟩
end
section
variable{X:Cx}{k:Nat}{i:Nat}{e1 e2:Expr}{t1:TE}
def VO(F:FnOk X.prog X.w X.K X.mg X.base CX0 k fa fd ps sp)(hr:Room k X.A)(hg:Gl X x)(hm:X.mg x=some (.ref fa))(hk:keepIn X.K (.ref fa)=true)(hb:Binds X.K fd ps [])(h1:PE X e1 t1)(h2:PE X e2 t2)(hN:X.N[i]?=some nm)
 (LA:LamAt X c P) (S:CSc X scope fr ix) (L:CapOk (X.env.qual++"<lambda>") params scope (.Subscript (.Name nm px) (.Name p1 pp) spos) p1 p2 nm) (hkind:X.env.scope.names.lookup nm=some .cell) (hfn:X.fn nm=true)
 (hcl:AW X.env.cells 116 []=[(nm,(X.env.cells.lookup nm).getD 0)]:=by rfl) (hdef:defaultsOf params X.env=([],[]):=by rfl) (hdb:(x==("__debug__":Str))=false:=by decide)
 (hs1:starEach [e1,e2,.Lambda params (.Subscript (.Name nm px) (.Name p1 pp) spos) scope lpos] X.env=(false,eval e1 X.env)::starEach [e2,.Lambda params (.Subscript (.Name nm px) (.Name p1 pp) spos) scope lpos] X.env:=by rfl)
 (hs2:starEach [e2,.Lambda params (.Subscript (.Name nm px) (.Name p1 pp) spos) scope lpos] X.env=[(false,eval e2 X.env),(false,eval (.Lambda params (.Subscript (.Name nm px) (.Name p1 pp) spos) scope lpos) X.env)]:=by rfl) (hpl:(backTo pos (starEach [e2,.Lambda params (.Subscript (.Name nm px) (.Name p1 pp) spos) scope lpos] X.env)).any (·.1)=false:=by rfl):
 PE X (.Call (.Name x p) [e1,e2,.Lambda params (.Subscript (.Name nm px) (.Name p1 pp) spos) scope lpos] [] pos) (Mk sp P (X.env.qual++"<lambda>") lpos i t1 t2):=by
 intro pins s σ H Q I h;refine jr (DQ I hg hm ?_ hdb);refine PySem.W.callWith_K (h₀:=X.base) I.ok.mod.kin hk ?_ hs1 hpl;rw[hs1,hs2];show wpAny _ _ (spliced ((false,eval e1 X.env)::backTo pos [(false,eval e2 X.env),(false,eval (.Lambda params (.Subscript (.Name nm px) (.Name p1 pp) spos) scope lpos) X.env)])) _ _ s;refine Calls.spliced_cons (thn (h1 pins s σ H _ I h) λu1 s1 ⟨x1,H1,I1,r1,q1⟩=>?_);refine Calls.spliced_cons (thn (h2 pins s1 σ H1 _ I1 q1) λu2 s2 ⟨x2,H2,I2,r2,q2⟩=>?_);obtain⟨psT,a0,xs,hP,hgd,hσ,hx,go⟩:=q2;refine Calls.spliced_cons (Nd S LA I2 hdef hP hgd λf cd ctv H3 s3 I3 M=>?_);refine Calls.spliced_nil ?_;obtain⟨c',rfl,hc'⟩:=M.cdc;have ho:=M.fn;rw[hcl]at ho;have hx3:=M.step.lst hP hx;have ff:FpOk X pins H3 f:=I2.fpOk M.new M.fre;obtain⟨m,hn,hlk⟩:=I3.loc;obtain⟨u0,ru,lk⟩:=hlk i nm (.ref a0) hN hσ (.inr (.inl hkind));cases ru;obtain⟨cl,ecl,o1,g1,ho1⟩:∃cl,X.env.cells.lookup nm=some cl/\∃o,s3.heap.get? cl=some o/\o.data=.cell (some (.ref a0)):=by
  rcases lk with⟨kk,_⟩|⟨_,c,ec,hc⟩
  .have kk:X.env.scope.names.lookup nm=some .local:=kk;rw[hkind]at kk;cases kk
  .exact⟨c,ec,hc⟩
 rw[ecl,getD_some]at ho;have J:=I3.adopt (o:=.ext (fnG f c' (X.env.qual++"<lambda>") cl)) ff (iw I2.sz M.new) ⟨⟨_,_,_,_,_,_,_,_,_,_,ho,L⟩,⟨_,ho⟩,λh1 h2 q k=>by
  obtain⟨b1,b2,b3,b4,b5,b6,b7,b8,b9,b10,g,z⟩:=q;exact⟨b1,b2,b3,b4,b5,b6,b7,b8,b9,b10,k _ g,z⟩⟩
 have cn:H3 cl=none:=I3.freeC nm cl ecl;have J1:=J.freeC nm cl ecl;have ncf:cl≠f:=λe=>by subst e;rw[AF]at J1;cases J1
 have nfa:a0≠f:=AJ hx3 M.fre;have J2:upd H3 f (.ext (fnG f c' (X.env.qual++"<lambda>") cl)) a0=some (.lst xs):=by rw[upd_ne nfa];exact hx3
 obtain⟨o2,g2⟩:∃o2,s3.heap.get? a0=some o2:=by
  obtain⟨_,its,n,_,e⟩:=J.hok a0 _ J2;exact⟨_,e⟩
 have hsp:=go H3 c' f cl o1 o2 M.step hc' M.fre cn ncf hx3 ho1;have ok0:=J.hok.ice J1 J2 g1 g2;have cge:X.s₀.heap.objs.size<=cl:=J.ok.cab nm cl hfn ecl;have nice:∀b,upd H3 f (.ext (fnG f c' (X.env.qual++"<lambda>") cl)) b=none->b≠cl->ice (upd H3 f (.ext (fnG f c' (X.env.qual++"<lambda>") cl))) cl o1 a0 o2 xs b=none:=λb n z=>by
  unfold ice;rw[upd_ne (AJ J2 n).symm,upd_ne z];exact n
 have nac:a0≠cl:=AJ J2 J1;refine⟨J.kIn,jq (jy (F.run X.A X.stack s3 _ ⟨[u1,u2,.ref f],[]⟩ ([u1,u2,.ref f]++[]) _ _ E0 hr ⟨J.ok.frames,J.ok.mod,λb o e=>⟨(J.bs b o e).1,nice b (J.bs b o e).2 λz=>?_⟩,iw J.ok.bsz J.sz,J.stack,λb hbb=>nice b (J.stkFree b hbb) λz=>?_,ok0,J.bare⟩ (hb s3 _ J.kIn (F.len _ _ _ _ hsp)) (.cons r1 (.cons r2 (.cons (show RelV (.ref f) (Value.ref f)from rfl) .nil))) hsp) λr s' hq=>?_)⟩
 .subst z;have l1:=58 e;have l2:=J.ok.bsz;exact jd _ (iZ l1 (iw l2 cge))
 .subst z;rcases mem_cons.mp (J.stkSub b hbb)with e|hbb
  .obtain⟨od,es,ep,e1,e2,e3,_⟩:=hn;rw[<- e,g1]at e1;cases e1;rw[ho1]at e2;cases e2
  .obtain⟨_,o,e1,_⟩:=J.ok.funs.mem hbb;exact jd _ (iZ (58 e1) cge)
 .cases r with
  |error e=>exact False.elim hq
  |ok fl=>
   cases fl with
   |ret u=>
    obtain⟨v,H',os,bare,un,hok,r,q⟩:=hq;have e1:H' cl=some (.frz o1 FY):=un.frzs cl o1 FY (by unfold ice;rw[upd_ne nac.symm,AF]);have e2:H' a0=some (.frz o2 (.lst xs)):=un.frzs a0 o2 _ (by unfold ice;rw[AF]);exact J.after ⟨v,thaw H' cl a0 xs,os,bare,un.thaw J1 J2 g1 (hok cl _ e1).1,hok.thaw e1 e2,r,q⟩
   |next=>exact False.elim hq
   |brk=>exact False.elim hq
   |cont=>exact False.elim hq
end
noncomputable def Fo(F:List D->Hd->Option (D×Hd))(i:Nat)(m1 m2:ME):ME:=λls hd=>(m1 ls hd).bind λp=>(m2 ls p.2).bind λr=>match (ls[i]?).join with
 | some (.mu n)=>(match r.2[n]? with
  | some (.lst es)=>if Al 0 [p.1,r.1]=true/\Al 0 es=true then(match F [p.1,r.1,.fv 1 es] []with
   |some (.im z,_)=>some (.im z,r.2)
   | _=>none)else none
  | _=>none)
 |_=>none
section
variable{K:Frag}(g:∀a xs,SqT K H a xs->SqT K H' a xs)
include g
mutual
theorem RI.sq:∀{i:I} {v:V},RI K H i v->RI K H' i v
 |.non,v,h=>by simpa only[RI]using h
 |.bl b,v,h=>by simpa only[RI]using h
 |.int b,v,h=>by simpa only[RI]using h
 |.str b,v,h=>by simpa only[RI]using h
 |.tup ds,v,h=>by
  simp only[RI]at h ⊢;obtain⟨a,xs,e,q,r⟩:=h;exact⟨a,xs,e,g _ _ q,RIs.sq r⟩
theorem RIs.sq:∀{i:List I} {v:List V},RIs K H i v->RIs K H' i v
 |[],v,h=>by simpa only[RIs]using h
 |d::ds,v,h=>by
  simp only[RIs]at h ⊢;obtain⟨x,r,e,q,z⟩:=h;exact⟨x,r,e,RI.sq q,RIs.sq z⟩
end
end
def Uk{K:Frag}{i:Nat}{F:List D->Hd->Option (D×Hd)}{t1:TE}{m1:ME}(TI:MJ K P q pos)(h1:RE K t1 m1)(h2:RE K t2 m2):RE K (Mk (spF K 3 F) P q pos i t1 t2) (Fo F i m1 m2):=by
 and_intros;obtain⟨⟨d1,hd1⟩,e1,hm⟩:=iS hm;obtain⟨⟨d2,hd2⟩,e2,hm⟩:=iS hm;dsimp only at hm e2;split at hm
 .next n el=>
  split at hm
  .next es eh=>
   split at hm
   .next c0=>
    split at hm
    .next z hF ef=>
     cases hm;refine h1 ρ σ H hd ls _ d1 hd1 hR hL e1 λρ1 H1 v1 x1 R1 r1=>?_;refine h2 ρ1 σ H1 hd1 ls _ d2 hd' R1 (hL.ext hR x1) e2 λρ2 H2 v2 x2 R2 r2=>?_;obtain⟨p',et,_,l1,l2⟩:=id TI;obtain⟨ps,hP,hG⟩:=R2.tabs (P,q,p') et;have hG':Ge H2 q pos ps:=by
      rcases hG with g|⟨c,g1,g2⟩
      .exact .inl g
      .refine .inr ⟨c,?_,g2⟩;rw[g1];show #[rawInt p'.line,rawInt p'.col,Value.ref c]=_;rw[l1,l2]
     have el':ls[i]?=some (some (.mu n)):=by
      cases w:ls[i]? with
      |none=>rw[w]at el;cases el
      |some y=>rw[w]at el;simpa using el
     obtain⟨v,ev,rv⟩:=(hL.ext hR 106).ob i (.mu n) el';simp only[RD]at rv;obtain⟨a0,ea,rfl⟩:=rv;obtain⟨xs,ex,rs⟩:=R2.lst ea eh;refine⟨ps,a0,xs,hP,hG',ev,ex,λH3 c f cl o1 o2 step hc hf hcl ncf hx3 ho1=>?_⟩;obtain⟨R3,x3⟩:=Mb R2 hP step TI;obtain⟨R4,x4⟩:=R3.hid hf (ho:=.ext (fnG f c q cl));have ncc:c≠f:=λz=>by subst z;rw[hf]at hc;cases hc
     have ffq:upd H3 f (.ext (fnG f c q cl)) f=some (.ext (fnG f c q cl)):=AF;have fcq:upd H3 f (.ext (fnG f c q cl)) c=some (.ext (cdF c q)):=by rw[upd_ne ncc];exact hc
     have J1:upd H3 f (.ext (fnG f c q cl)) cl=none:=by rw[upd_ne ncf];exact hcl
     have J2:upd H3 f (.ext (fnG f c q cl)) a0=some (.lst xs):=by rw[upd_ne (AJ hx3 hf)];exact hx3
     have x04:=x3.trans R3 x4;generalize upd H3 f (.ext (fnG f c q cl))=H4 at *;have nac:a0≠cl:=AJ J2 J1;have to5:∀b o,H4 b=some o->b≠a0->ice H4 cl o1 a0 o2 xs b=some o:=λb o e n=>by
      unfold ice;rw[upd_ne n,upd_ne (AJ e J1)];exact e
     have st5:∀b o,Stb o->H4 b=some o->b≠a0:=λb o s e z=>by subst z;rw[J2]at e;cases e;exact s
     have g5:Grow H4 (ice H4 cl o1 a0 o2 xs):=⟨λb o s e=>to5 b o e (st5 b o s e)⟩
     have T5:TabsOk K (ice H4 cl o1 a0 o2 xs):=λy hy=>by
      obtain⟨ps,e,g⟩:=R4.tabs y hy;refine⟨ps,to5 _ _ e (λz=>by rw[z,J2]at e;cases e),?_⟩;rcases g with g|⟨c,g1,g2⟩
      .exact .inl g
      .exact .inr ⟨c,g1,g5.keep _ _ trivial g2⟩
     have R0:RH K [] (ice H4 cl o1 a0 o2 xs) []:=⟨rfl,.nil,T5,λn o a e=>by cases e⟩
     have i1:ice H4 cl o1 a0 o2 xs cl=some (.frz o1 FY):=by unfold ice;rw[upd_ne nac.symm,AF]
     have i2:ice H4 cl o1 a0 o2 xs a0=some (.frz o2 (.lst xs)):=by unfold ice;rw[AF]
     have rA:RDs K [] (ice H4 cl o1 a0 o2 xs) [d1,d2] [v1,v2]:=by
      have q1:RDs K ρ2 H4 [d1,d2] [v1,v2]:=.cons ((r1.ext R1 x2).ext R2 x04) (.cons (r2.ext R2 x04) .nil);simpa using (q1.take' 0 c0.1).mono g5 []
     have rE:RDs K [] (ice H4 cl o1 a0 o2 xs) es xs:=by
      have q1:=rs.ext R2 x04;simpa using (q1.take' 0 c0.2).mono g5 []
     have rV:RD K [] (ice H4 cl o1 a0 o2 xs) (.fv 1 es) (.ref f):=by
      simp only[RD];exact⟨f,xs,rfl,⟨rfl,c,q,cl,a0,o1,o2,g5.keep _ _ trivial ffq,g5.keep _ _ trivial fcq,ho1,i1,i2⟩,rE⟩
     refine⟨rfl,[],[],[d1,d2,.fv 1 es],.im z,_,R0,rA.app (.cons rV .nil),ef,λρ' H' v x5 R5 r5=>?_⟩;have k5:∀b o,ice H4 cl o1 a0 o2 xs b=some o->(∀ps,o≠.tbl ps)->H' b=some o:=λb o e t=>x5.keep b o e 55 t;have j1:=k5 _ _ i1 (nt);have j2:=k5 _ _ i2 (nt);have t6:∀b o,H' b=some o->b≠cl->b≠a0->thaw H' cl a0 xs b=some o:=λb o e n1 n2=>by
      unfold thaw;rw[upd_ne n2,EH n1];exact e
     have a6:thaw H' cl a0 xs a0=some (.lst xs):=by unfold thaw;rw[AF]
     have s6:∀b o,H4 b=some o->b≠a0->(∀ps,o≠.tbl ps)->thaw H' cl a0 xs b=some o:=λb o e n t=>t6 b o (k5 b o (to5 b o e n) t) (AJ e J1) n;have g6:Grow H4 (thaw H' cl a0 xs):=⟨λb o s e=>s6 b o e (st5 b o s e) (S2 s)⟩
     have x6:Ext ρ2 H4 ρ2 (thaw H' cl a0 xs):=⟨⟨[],by simp,by simp⟩,λb o e n t=>s6 b o e (λz=>n (by rw[z];exact j6 ea)) t,λb ps e=>by
      have n:b≠a0:=λz=>by subst z;rw[J2]at e;cases e
      obtain⟨ps',e'⟩:=x5.tab b ps (to5 b _ e n);exact⟨ps',t6 b _ e' (AJ e J1) n⟩⟩
     have R6:RH K ρ2 (thaw H' cl a0 xs) hd':=by
      refine⟨R4.len,R4.nd,λy hy=>?_,λm o a e1 e2=>?_⟩
      .obtain⟨ps,e,g⟩:=R5.tabs y hy;have n1:y.1≠cl:=λz=>by rw[z,j1]at e;cases e
       have n2:y.1≠a0:=λz=>by rw[z,j2]at e;cases e
       refine⟨ps,t6 _ _ e n1 n2,?_⟩;rcases g with g|⟨c,g1,g2⟩
       .exact .inl g
       .exact .inr ⟨c,g1,t6 _ _ g2 (λz=>by rw[z,j1]at g2;cases g2) (λz=>by rw[z,j2]at g2;cases g2)⟩
      .obtain⟨ho,q1,q2⟩:=R4.ob m o a e1 e2;have q3:=q2.mono g6 [];rw[je]at q3;by_cases n:a=a0
       .subst n;rw[J2]at q1;cases q1;exact⟨_,a6,q3⟩
       .refine⟨ho,s6 a ho q1 n λps z=>?_,q3⟩;rcases R4.mut (j6 e2)with⟨y,w⟩|⟨y,w⟩<;>(rw[q1,z]at w;cases w)
     refine hQ ρ2 _ v ((106).trans R2 (x04.trans R4 x6)) R6 ?_;simp only[RD]at r5 ⊢;refine r5.sq λa ys sq=>?_;rcases sq with(sq|⟨o,sq⟩)|sq
     .exact .inl (.inl (t6 a _ sq (λz=>by rw[z,j1]at sq;cases sq) (λz=>by rw[z,j2]at sq;cases sq)))
     .exact .inl (.inr ⟨o,t6 a _ sq (λz=>by rw[z,j1]at sq;cases sq) (λz=>by rw[z,j2]at sq;cases sq)⟩)
     .exact .inr sq
    .cases hm
   .cases hm
  .cases hm
 .cases hm
end L2
namespace L2
open PySem PySem.W PyProof.Rows
noncomputable def fm(a:Arguments):Str:=match a.args with
 |_::x::_=>x.arg
 |_=>""
section
variable{K:Frag}{X:Cx}{e1 e2:Expr}{t1:TE}{m1:ME}{i j k:Nat}{st:Stmt}
def qcL(LC:LamC X.K X.mg X.base fd c P q lpos)(hcd:fd.code=cdv)(G:Kn ⟨X.prog,X.w,X.K,X.mg,X.base⟩ ⟨x,st,ps,j,F⟩)(hr:Room k X.A)(h1:QE K X e1 t1 m1)(h2:QE K X e2 t2 m2)(i:Nat)
 (hN:X.N[i]?=some nm:=by rfl) (h3:ps.length=3:=by rfl) (hkind:X.env.scope.names.lookup nm=some .cell:=by rfl) (hfn:X.fn nm=true:=by rfl)
 (hcv:X.env.code=cdv:=by rfl) (hq:q=X.env.qual++"<lambda>":=by rfl) (S:CSc X scope (frN X []) []:=by exact⟨rfl,by decide +kernel,rfl,rfl,rfl,by decide +kernel⟩)
 (L:CapOk q params scope (.Subscript (.Name nm px) (.Name (Er params) pp) spos) (Er params) (fm params) nm:=by exact⟨by decide,by decide,by decide,⟨rfl,rfl,rfl,rfl⟩,⟨rfl,rfl,rfl,rfl⟩,rfl,rfl,rfl,by decide,by decide,by decide,by decide,λ_ _ _ _ _ _=>rfl⟩)
 (hcl:AW X.env.cells 116 []=[(nm,(X.env.cells.lookup nm).getD 0)]:=by rfl) (hdef:defaultsOf params X.env=([],[]):=by rfl)
 (hjk:j<=k:=by first|decide|omega) (hg:Gl X x:=by rfl) (hdb:(x==("__debug__":Str))=false:=by decide)
 (hs1:starEach [e1,e2,.Lambda params (.Subscript (.Name nm px) (.Name (Er params) pp) spos) scope lpos] X.env=(false,eval e1 X.env)::starEach [e2,.Lambda params (.Subscript (.Name nm px) (.Name (Er params) pp) spos) scope lpos] X.env:=by rfl)
 (hs2:starEach [e2,.Lambda params (.Subscript (.Name nm px) (.Name (Er params) pp) spos) scope lpos] X.env=[(false,eval e2 X.env),(false,eval (.Lambda params (.Subscript (.Name nm px) (.Name (Er params) pp) spos) scope lpos) X.env)]:=by rfl)
 (hpl:(backTo pos (starEach [e2,.Lambda params (.Subscript (.Name nm px) (.Name (Er params) pp) spos) scope lpos] X.env)).any (·.1)=false:=by rfl) (hK:X.K=K:=by rfl):
 QE K X (.Call (.Name x p) [e1,e2,.Lambda params (.Subscript (.Name nm px) (.Name (Er params) pp) spos) scope lpos] [] pos) (Mk (spF K 3 F) P (X.env.qual++"<lambda>") lpos i t1 t2) (Fo F i m1 m2):=by
 subst hK;subst hq;obtain⟨f,fd',D,G,l⟩:=G;rw[h3]at G;exact⟨VO (G.mono hjk) hr hg D.mg D.fn.kp D.bd h1.p h2.p hN ⟨hcv.trans (hcd.symm.trans LC.code),LC.hd,LC.bl⟩ S L hkind hfn hcl hdef hdb hs1 hs2 hpl,Uk LC.ti h1.r h2.r⟩
end
section
variable{Q:D->Hd->Prop}
def Rr{F:List D->Hd->Option (D×Hd)}{i:Nat}{m1:ME}(h:WE m1 ls hd λd1 x=>WE m2 ls x λd2 y=>∃n es,ls[i]?=some (some (.mu n))/\y[n]?=some (.lst es)/\Al 0 [d1,d2]=true/\Al 0 es=true/\WF F [d1,d2,.fv 1 es] [] λd _=>∃z,d=.im z/\Q (.im z) y):WE (Fo F i m1 m2) ls hd Q:=by
 obtain⟨d1,x,e1,d2,y,e2,n,es,e3,e4,c1,c2,d,w,e5,z,rfl,q⟩:=h;refine⟨_,y,?_,q⟩;unfold Fo;rw[e1];dsimp only[bind_some];rw[e2];dsimp only[bind_some];rw[e3];show(match y[n]? with|some (.lst es)=>_|_=>none)=_;rw[e4];dsimp only;rw[ia ⟨c1,c2⟩,e5]
end
end L2
namespace L2
open PySem PySem.Spec PyProof.Rows
section
variable{K:Frag}{X:Cx}{mg:Str->Option Value}
def YR{pB:Pos}(hC:Ix X.en B tbl)(bI:mg "isinstance"=none)(he:QE K X e te me)(hmg:X.mg=mg:=by rfl)(gI:Gl X "isinstance":=by rfl)(gB:Gl X B:=by rfl)(dB:(B==("__debug__":Str))=false:=by decide)
 (s1:starEach [e,.Name B pB] X.env=109::starEach [.Name B pB] X.env:=by rfl) (hK:X.K=K:=by rfl):
 QE K X (.Call (.Name "isinstance" p) [e,.Name B pB] [] pos) (tCB (Kc K) (Af te (Af (JY mg B) BG))) (DU tbl me):=by
 subst hmg;exact bU hC bI he gI gB dB s1 hK
def V6{k1}{pB:Pos}(hC:Itx X.en (D9 es) tbl)(bI:mg "isinstance"=none)(he:QE K X e te me)(hmg:X.mg=mg:=by rfl)(hn:GlN X es:=by repeat' first|exact True.intro|refine⟨⟨rfl,by decide,rfl⟩,?_⟩)(hx:(D9 es).length<=1000:=by decide)(gI:Gl X "isinstance":=by rfl)
 (s1:starEach [e,.Tuple es k1 pB] X.env=109::starEach [.Tuple es k1 pB] X.env:=by rfl) (s2:starEach [.Tuple es k1 pB] X.env=(false,eval (.Tuple es k1 pB) X.env)::starEach [] X.env:=by rfl) (hK:X.K=K:=by rfl):
 QE K X (.Call (.Name "isinstance" p) [e,.Tuple es k1 pB] [] pos) (tCB (M7 K) (Af te (Af (KL (Fc mg (D9 es))) BG))) (DU tbl me):=by
 subst hmg;exact YS hC bI he hn hx gI s1 s2 hK
end
section
variable{K:Frag}
def Wx(he:YXE K X e te me):YXE K X (.Subscript e i pos) te me:=⟨λpins s σ H Q I h=>Subscript_ (thx (he.p pins s σ H Q I h) (λ_ _ z=>z.elim) λ_ _ z=>z),he.r⟩
def Wz{j:Nat}{st:Stmt}(G:Kn ⟨X.prog,X.w,X.K,X.mg,X.base⟩ ⟨x,st,ps,j,F⟩)(ha:YXA K X (e::es) te me)
 (hg:Gl X x:=by rfl) (hdb:(x==("__debug__":Str))=false:=by decide) (he:starEach (e::es) X.env=109::starEach es X.env:=by rfl) (hpl:(backTo pos (starEach es X.env)).any (·.1)=false:=by rfl):
 YXE K X (.Call (.Name x p) (e::es) [] pos) te me:=by
 obtain⟨fa,fd,DA,G,hF⟩:=G;refine⟨λpins s σ H Q I h=>?_,ha.r⟩;refine jr (DQ I hg DA.mg ?_ hdb);exact PySem.W.callWith_K (h₀:=X.base) I.ok.mod.kin DA.fn.kp (thx (ha.p pos pins s σ H Q I h) (λ_ _ z=>z.elim) λ_ _ z=>z) he hpl
end
def V0{K:Frag}{st:Stmt}(h:QS K X st t m):QS K X st t (Cy m):=⟨h.p,N3 h.r⟩
section
def dN{g:D->D->Hd->Option (D×Hd)}(h:DjE me mf):DjE me (mOp g mf mi):=λls hd z e=>by unfold mOp;rw[h _ _ _ e];rfl
def PD{w:Nat}(h:DjA me mr):DjE me (A9 w F mr):=λls hd z e=>by unfold A9;rw[h _ _ _ e];rfl
end
end L2
namespace L2
open PySem PySem.Spec PyProof.Rows PySem.W
noncomputable abbrev qtA(A:Around):Around:={ A with handled:=none }
noncomputable abbrev Cx.loud(X:Cx):Cx:={ X with calm:=false,xe:=λ_ _=>False }
structure FnOkH(P:Program)(w:World)(K:Frag)(mg:Str->Option Value)(base:Heap)(k:Nat)(f:Addr)(fd:FuncData)(ps:List Str)(sp:Sp):Prop where
 len:∀vs H Q E,sp vs H Q E->vs.length=ps.length
 run:∀(A:Around) (outer:List Env) (s:Shared) (H:Hp) (args:Args) (us:List Value) (vs:List V) (Q:VK) (E:XK),Room k (qtA A)->Env0 P w K mg base A outer s H->BindsTo s fd args (ps.zip us)->Vals vs us->sp vs H Q E ->
  codeAny (model P w) A (.call (.ref f) args) (CR CX0 outer P w H s Q E) s
def KnH(E:EnK)(e:Df):Prop:=∃f fd,DefAt E.K E.mg e.x e.st f fd e.ps/\FnOkH E.P E.w E.K E.mg E.base e.k f fd e.ps (spF E.K e.ps.length e.F)/\∀ds hd z,e.F ds hd=some z->104=e.ps.length
theorem Inv.loud{X:Cx}{pins:List (Addr×Obj)}{σ:St}{H:Hp}{s:Shared}{A:Around}{xe:Value->Shared->Prop}(I:Inv { X with A:=qtA A,xe:=xe } pins σ H s):Inv (Cx.loud { X with A:=A }) pins σ H s:=
 ⟨⟨I.ok.mod,I.ok.kind,I.ok.glob,I.ok.blt,I.ok.above,I.ok.inj,I.ok.has,I.ok.cab,(λh=>by cases h),I.ok.frames,I.ok.stk,I.ok.exf,I.ok.bs,I.ok.bsz,I.ok.noex,I.ok.exfs,I.ok.funs,I.ok.frf⟩,I.os,I.bare,I.base,I.loc,I.cell,I.free,I.freeC,I.pin,I.hok,I.len⟩
def okH{E:EnK}{x:Str}{st:Stmt}{ps N:List Str}{j k:Nat}{m:MS}{F:FD}(D:Dn E ⟨x,st,ps,k,F⟩)(S:FnScope N ps (A8 st))(hF:F=mkF ps.length N.length m)(hk:k=j+1)
 (h:∀(f:Addr) (cdv:Value) (A:Around) (outer:List Env) (s:Shared) (H:Hp) (Ek:XK),Room j (qtA (A.deeper (envOfC x (A8 st) 49 f cdv)))->∃t,QSs E.K (CS CX0 E.P E.w E.K E.mg E.base N x (A8 st) f cdv A outer s H Ek).loud (Av st) t m):KnH E ⟨x,st,ps,k,F⟩:=by
 obtain⟨f,fd,D⟩:=D;subst hF;subst hk;refine⟨f,fd,D,⟨λvs H Q E h=>h.1,λA outer s H args us vs Q Ek hr e0 hb r hsp=>?_⟩,Ki⟩;obtain⟨oc,od,kV,doc,pm,an,cdv,ct,osl,rfl,lk,hcd⟩:=D.fn.ex;have hl:vs.length=ps.length:=hsp.1;have KX:E.K.In s.heap:=e0.mod.kin.keeps λb o e=>(e0.bs b o e).1;have lim:s.heap.NoLimit:=e0.mod.nolimit.keeps λb o e=>(e0.bs b o e).1;have hkind:∀y∈ps.zip us,(A8 st).names.lookup y.1=some .local∨((A8 st).names.lookup y.1=some .cell/\((cellsFrom (49+1) (A8 st).names []).lookup y.1).isSome=true):=λ⟨n,v⟩ hy=>by
  rcases S.par n (of_mem_zip hy).1 with q|q
  .exact .inl q
  .exact .inr ⟨q,PySem.W.cellsFrom_some _ _ _ (.inl q)⟩
 refine codeAny_call_function hr.depth (KX _ _ lk) rfl S.co S.gen rfl (PySem.W.codeRec_of KX hcd) (hb _ _ _ _ ?_);refine wpAny_newFunctionEnv_cells S.kind hkind λenv he s1 y=>?_;subst he;refine⟨lim.keeps y.toInCall.keep,codeAny_func ?_⟩;obtain⟨t,q⟩:=h f cdv A outer s H Ek (hr.deeper _);have I:Inv (CS CX0 E.P E.w E.K E.mg E.base N x (A8 st) f cdv A outer s H Ek).loud [] (start N vs) H s1:=
  Inv.loud (X:=CS CX0 E.P E.w E.K E.mg E.base N x (A8 st) f cdv A outer s H Ek) (A:=A.deeper (envOfC x (A8 st) 49 f cdv)) (LX (CX:=CX0) (E:=Ek) (A:=qtA A) S hr.hd ⟨e0.frames,e0.mod,e0.bs,e0.bsz,e0.funs,e0.frf,e0.hok,e0.bare⟩ hl r y)
 refine iX (q.p [] s1 (start N vs) H _ I (KO q.r hsp)) (λfl s' hs=>?_) λe s' hs=>hs.elim;have fin:∀{σ':St} {H':Hp} {v:V} {u:Value},Inv (CS CX0 E.P E.w E.K E.mg E.base N x (A8 st) f cdv A outer s H Ek).loud [] σ' H' s'->RelV v u->Q v H'->CE outer E.P E.w H s Q u s':=
  λ{σ' H' v u} J rv q=>⟨v,H',J.os,J.bare,J.base,J.hok,rv,q⟩
 cases fl with
 |ret u=>
  obtain⟨v,σ',H',J,rv,q⟩:=hs;exact fin J rv q
 |next=>
  obtain⟨σ',H',J,q⟩:=hs;exact fin (v:=V.non) (u:=Value.none) J rfl q
 |brk=>
  obtain⟨_,_,_,q⟩:=hs;exact False.elim q
 |cont=>
  obtain⟨_,_,_,q⟩:=hs;exact False.elim q
section
variable{K:Frag}{X:Cx}{j k:Nat}{st:Stmt}
def qcH(w:Nat)(G:KnH ⟨X.prog,X.w,X.K,X.mg,X.base⟩ ⟨x,st,ps,j,F⟩)(hr:Room k A0)(ha:QA K X (e::es) t m)(hA:X.A=A0.mark (some v):=by rfl)
 (hjk:j<=k:=by first|decide|omega) (hg:Gl X x:=by rfl) (hdb:(x==("__debug__":Str))=false:=by decide) (he:starEach (e::es) X.env=109::starEach es X.env:=by rfl) (hpl:(backTo pos (starEach es X.env)).any (·.1)=false:=by rfl) (hK:X.K=K:=by rfl):
 QE K X (.Call (.Name x p) (e::es) [] pos) (Dy (spF K ps.length F) [] E0 t) (A9 w F m):=by
 subst hK;obtain⟨f,fd,D,G,l⟩:=G;have hr1:=hr.mono hjk;have hr':Room j (qtA X.A):=by rw[hA];exact⟨rfl,hr1.dp,hr1.un,hr1.gd⟩
 refine⟨λpins s σ H Q I h=>?_,Ir ha.r l⟩;refine jr (DQ I hg D.mg ?_ hdb);refine PySem.W.callWith_K (h₀:=X.base) I.ok.mod.kin D.fn.kp (thn (ha.p pos pins s σ H _ I h) λus s1 ⟨vs,H1,I1,r,q⟩=>⟨I1.kIn,?_⟩) he hpl;have q:spF X.K ps.length F (vs++[]) H1 Q E0:=q;have r2:Vals (vs++[]) (us++[]):=r.append .nil;have hl:(us++[]).length=ps.length:=by rw[<- r2.length];exact G.len _ _ _ _ q
 refine jq (jy (G.run X.A X.stack s1 H1 ⟨us,[]⟩ (us++[]) (vs++[]) _ _ hr' I1.env0 (D.bd s1 us I1.kIn hl) r2 q) λr s' hq=>?_);cases r with
 |error e=>exact Wl pins σ H1 s1 e s' I1 hq
 |ok fl=>
  cases fl with
  |ret u=>exact I1.after hq
  |next=>exact False.elim hq
  |brk=>exact False.elim hq
  |cont=>exact False.elim hq
end
end L2
namespace Hds
open PySem L2 Bd
structure IsHead(S:Nat->Prop)(c l:Nat->Int)(W:List (Nat×Nat))(h:Nat->Int):Prop where
 lo:∀k,S k->c k<=h k
 up:∀p∈W,S p.2->h p.1+l p.1<=h p.2
 eq:∀k,S k->h k=c k∨∃p∈W,p.2=k/\h k=h p.1+l p.1
structure Rk(S:Nat->Prop)(W:List (Nat×Nat))(rk:Nat->Nat):Prop where
 ins:∀p∈W,S p.1/\S p.2
 lt:∀p∈W,rk p.1<rk p.2
def IsHead.bound{S:Nat->Prop}{c l:Nat->Int}{rk:Nat->Nat}(R:Rk S W rk){h:Nat->Int}(a:IsHead S c l W h){B m:Int}(hc:∀k,S k->c k<=B)(hl:∀k,S k->l k<=m)(hm:0<=m):∀n k,rk k=n->S k->h k<=B+m*n:=by
 intro n
 induction n using Nat.strongRecOn with
 |ind n ih=>
  intro k hk hS;have hn:0<=m*(n:Int):=Int.mul_nonneg hm 50;rcases a.eq k hS with e|⟨p,hp,e1,e2⟩
  .rw[e];have:=hc k hS;omega
  .have lt:=R.lt p hp;rw[e1,hk]at lt;have q:=ih (rk p.1) lt p.1 rfl (R.ins p hp).1;have:=hl p.1 (R.ins p hp).1;have g:m*(rk p.1:Int)+m<=m*(n:Int):=by
    have:m*((rk p.1:Int)+1)<=m*(n:Int):=Int.mul_le_mul_of_nonneg_left 50 hm;rw[Int.mul_add,Int.mul_one]at this;exact this
   omega
def WJ{seq:List Nat}{n:Nat}(pm:seq.Perm (57 n))(h:Along seq ps):∃W:List (Nat×Nat),ps=(W.map λp=>((p.1:Int),(p.2:Int)))/\Rk (λk=>k<n) W (λk=>seq.idxOf k)/\∀k,k<n->seq.idxOf k<n:=by
 have nd:seq.Nodup:=pm.nodup_iff.mpr nodup_range;have sl:seq.length=n:=by simpa using pm.length_eq
 have ix:∀{i a:Nat},seq[i]?=some a->seq.idxOf a=i:=λ{i a} e=>by
  obtain⟨hi,e⟩:=102 e;subst e;exact nd.idxOf_getElem i hi
 refine⟨ps.map λp=>(p.1.toNat,p.2.toNat),?_,⟨?_,?_⟩,?_⟩
 .rw[j3];refine(List.map_id' ps).symm.trans (jS λp hp=>?_);obtain⟨i,j,a,b,_,_,_,rfl⟩:=h p hp;simp
 .intro q hq;obtain⟨p,hp,rfl⟩:=mem_map.mp hq;obtain⟨i,j,a,b,_,ea,eb,rfl⟩:=h p hp;exact⟨by simpa using pm.mem_iff.mp (j6 ea),by simpa using pm.mem_iff.mp (j6 eb)⟩
 .intro q hq;obtain⟨p,hp,rfl⟩:=mem_map.mp hq;obtain⟨i,j,a,b,hij,ea,eb,rfl⟩:=h p hp;show seq.idxOf (a:Int).toNat<seq.idxOf (b:Int).toNat
  simp only[ju];rw[ix ea,ix eb];exact hij
 .intro k hk;have:k∈seq:=pm.mem_iff.mpr (by simpa using hk);have:=List.idxOf_lt_length_iff.mpr this;omega
end Hds
namespace Bd
open PySem L2
inductive Rc(ps:List (Int×Int)):Int->Int->Prop
 |one {x y:Int}:(x,y)∈ps->Rc ps x y
 |step {x y z:Int}:Rc ps x y->(y,z)∈ps->Rc ps x z
theorem HB:∀{l m:List Int},l.Nodup->(∀x∈l,x∈m)->l.length<=m.length
 |[],m,_,_=>by simp
 |x::r,m,nd,h=>by
  obtain⟨n1,n2⟩:=nodup_cons.mp nd;have hx:=h x ir;have:=HB (l:=r) (m:=m.erase x) n2 λy hy=>(List.mem_erase_of_ne (λe=>n1 (by rw[<- e];exact hy))).mpr (h y (il _ hy));rw[List.length_erase_of_mem hx]at this;have:=List.length_pos_of_mem hx;simp only[j8];omega
structure Found(ps:List (Int×Int))(a:Int)(found fresh:List Int):Prop where
 nd:found.Nodup
 rc:∀x∈found,Rc ps a x
 fr:∀x∈fresh,x=a∨x∈found
 cl:∀x,(x=a∨x∈found)->x∈fresh∨∀y,(x,y)∈ps->y∈found
def Rc.snd{x y:Int}(h:Rc ps x y):y∈ps.map (·.2):=by
 cases h with
 |one h=>exact mem_map.mpr ⟨_,h,rfl⟩
 |step _ h=>exact mem_map.mpr ⟨_,h,rfl⟩
def Found.len{a:Int}{fresh:List Int}(h:Found ps a found fresh):found.length<=ps.length:=by
 have:=HB h.nd λx hx=>(h.rc x hx).snd;simpa using this
def Found.iff{a:Int}(h:Found ps a found [])(x:Int):x∈found↔Rc ps a x:=by
 refine⟨h.rc x,λr=>?_⟩
 induction r with
 |one e=>exact(h.cl a (.inl rfl)).elim (λz=>by cases z) λz=>z _ e
 |step _ e ih=>exact(h.cl _ (.inr ih)).elim (λz=>by cases z) λz=>z _ e
def Vr(P:D)(hd:Hd)(g:Gd)(G:GOk hd g)(ps:List (Int×Int))(hp:ps.length<=500)(a:Int)
 (hP:∀(z1 z2 z3 z4 z5 z6:Option D) (r:Hd),Ex (A1 0) [some P,z1,z2,z3,z4,z5,z6] (hd++r)=some ((ps.map Aj,g),hd++r)):∀(N:Nat) (found fresh:List Int) (z4 z5 z6:Option D),fresh.length+(ps.length-found.length)<=N->fresh.length<=1+found.length->Found ps a found fresh->∃(k:Nat) (found':List Int) (y4 y5 y6:Option D),
 Ax (BZ (A1 3)) Nj k [some P,some (.im (.int a)),some (.mu hd.length),some (.mu (hd.length+1)),z4,z5,z6] (hd++[.lst (intD found),.lst (intD fresh)]) =
  some (.nx [some P,some (.im (.int a)),some (.mu hd.length),some (.mu (hd.length+1)),y4,y5,y6],hd++[.lst (intD found'),.lst []])/\Found ps a found' []:=by
 intro N
 induction N with
 |zero=>
  intro found fresh z4 z5 z6 hN _ F;have:fresh=[]:=List.length_eq_zero_iff.mp 50;subst this;refine⟨1,found,z4,z5,z6,?_,F⟩;simp only[Ax,K4,EG,List.getElem?_cons_zero,List.getElem?_cons_succ,bind_some,CC,g1,jf,List.isEmpty_nil,Bool.not_true,j4,Bool.false_eq_true,j5]
 |succ N ih=>
  intro found fresh z4 z5 z6 hN hfr F;rcases List.eq_nil_or_concat fresh with rfl|⟨fr,x,rfl⟩
  .refine⟨1,found,z4,z5,z6,?_,F⟩;simp only[Ax,K4,EG,List.getElem?_cons_zero,List.getElem?_cons_succ,bind_some,CC,g1,jf,List.isEmpty_nil,Bool.not_true,j4,Bool.false_eq_true,j5]
  .rw[List.concat_eq_append]at *;have fl:=F.len;simp only[jb,j8,jm]at hN hfr;obtain⟨new,y5,y6,q,l,nd,frh,al⟩:=Gv P hd g G a x ps found fr z5 z6 50 50;have F2:Found ps a (found++new) (fr++new):=by
    have rx:∀y∈new,Rc ps a y:=λy hy=>by
     rcases F.fr x 55 with rfl|h
     .exact .one (frh y hy).2
     .exact .step (F.rc x h) (frh y hy).2
    refine⟨nodup_append.mpr ⟨F.nd,nd,λu hu w hw e=>(frh w hw).1 (e ▸ hu)⟩,λy hy=>?_,λy hy=>?_,λw hw=>?_⟩
    .rcases mem_append.mp hy with h|h
     .exact F.rc y h
     .exact rx y h
    .rcases mem_append.mp hy with h|h
     .rcases F.fr y (by simp[h])with h|h
      .exact .inl h
      .exact .inr (jh _ h)
     .exact .inr (iY _ h)
    .by_cases hn:w∈new
     .exact .inl (iY _ hn)
     .have hw':w=a∨w∈found:=by
       rcases hw with h|h
       .exact .inl h
       .rcases mem_append.mp h with h|h
        .exact .inr h
        .exact absurd h hn
      rcases F.cl w hw' with h|h
      .rcases mem_append.mp h with h|h
       .exact .inl (jh _ h)
       .have:w=x:=by simpa using h
        subst this;exact .inr al
      .exact .inr λy hy=>jh _ (h y hy)
   have fl2:=F2.len;simp only[jb]at fl2;obtain⟨k,found',y4,w5,w6,e,F3⟩:=ih (found++new) (fr++new) (some (.im (.int x))) y5 y6 (by simp only[jb];omega) (by simp only[jb];omega) F2;refine⟨k+1,found',y4,w5,w6,?_,F3⟩;have pop:HP (.mu (hd.length+1)) [] (hd++[.lst (intD found),.lst (intD (fr++[x]))])=some (.im (.int x),hd++[.lst (intD found),.lst (intD fr)]):=by
    simp only[HP,g1,jD,iq,jf,jb,j8,jm,iV];simp
   have ne:(intD (fr++[x])).isEmpty=false:=by simp
   unfold Ax;simp only[K4,EG,List.getElem?_cons_zero,List.getElem?_cons_succ,bind_some,CC,g1,ne,Bool.not_false,j4,iy,Nj,K5,HQ,Qt,MB,Nq,pop,Kv,set_cons_succ,set_cons_zero,dJ,hP,q,e]
def Q6(P:D)(hd:Hd)(g:Gd)(G:GOk hd g)(ps:List (Int×Int))(hp:ps.length<64)(a:Int)
 (hP:∀(z1 z2 z3 z4 z5 z6:Option D) (r:Hd),Ex (A1 0) [some P,z1,z2,z3,z4,z5,z6] (hd++r)=some ((ps.map Aj,g),hd++r)):∃(found:List Int) (r:Hd),F_reached [P,.im (.int a)] hd=some (.im (.tup ((BV found).map I.int)),hd++r)/\found.Nodup/\(∀x,x∈found↔Rc ps a x)/\found.length<=ps.length:=by
 obtain⟨k,found,y4,y5,y6,e,F⟩:=Vr P hd g G ps 50 a hP (1+ps.length) [] [a] none none none 55 55 ⟨.nil,(λx h=>by cases h),(λx h=>Or.inl (by simpa using h)),(λx h=>Or.inl (by simpa using h))⟩;have e:=LQ e;have fl:=F.len;refine⟨found,[.lst (intD found),.lst []],?_,F.nd,F.iff,fl⟩;have mk:Ap ((BV found).map λi=>D.im (.int i))=.im (.tup ((BV found).map I.int)):=by
  have:((BV found).map λi=>D.im (.int i))=((BV found).map I.int).map D.im:=by rw[j3];rfl
  rw[this,B8]
 simp only[jf,iq]at e;have lt:found.length<64:=by omega
 simp only[F_reached,mkF,gV,K5,HQ,dC,dE,PB,Nq,EG,iq,jf,j8,jm,cons_append,nil_append,List.replicate,Nat.reduceAdd,Nat.reduceSub,iy,List.getElem?_cons_zero,List.getElem?_cons_succ,bind_some,HN,F7,Kv,j4,set_cons_succ,set_cons_zero,jb,jI,e,TL,TR,TK,TQ,g0,T6,lt,BS,mk]
end Bd
namespace Rw
open PySem L2 Bd
@[reducible] def gV:MS:=(A6 (AE 2 (AY (Ai A5)))
 (A6 (AE 3 (AY (Ai (A2 (A1 1) A5))))
 (A6 (CL (BZ (A1 3))
  (A6 (AE 4 (mMt HP (A1 3) A5))
 (Bs (Ex (A1 0)) (CO 2 (Ac (AG 5) (Ac (AG 6) CP)))
  (Ad (Cs (AC (mOp gEq (A1 5) (A1 4))) (AC (mOp (gIn true) (A1 6) (A1 2))))
  (A6 (Ay (mMt Ar (A1 2) (A2 (A1 6) A5)))
 (Ay (mMt Ar (A1 3) (A2 (A1 6) A5))))
  AV))))
 (AK (B7 BS (Dr (Br (A1 2))))))))
noncomputable def F_reached:List D->Hd->Option (D×Hd):=mkF 2 7 gV
@[reducible] noncomputable def iP:MS:=(AK (A9 0 F_reached (A2 (A1 1) (A2 (A1 2) A5))))
noncomputable def F_behind:List D->Hd->Option (D×Hd):=mkF 3 3 iP
def VP(ps:List (Int×Int)):(ps.map Fh).map D.im=ps.map Aj:=by rw[j3];rfl
noncomputable abbrev wI(ps:List (Int×Int)):I:=.tup (ps.map Fh)
def TH:F_reached=Bd.F_reached:=rfl
def behind_eq{ps:List (Int×Int)}(hp:ps.length<64)(n a:Int):∃(found:List Int) (g:Hd),F_behind [.im (.int n),.im (wI ps),.im (.int a)] []=some (.im (.tup ((BV found).map I.int)),g)/\found.Nodup/\∀x,x∈found↔Rc ps a x:=by
 obtain⟨found,r,e,nd,mem,_⟩:=Q6 (.im (wI ps)) [] [] (AQ _) ps hp a λz1 z2 z3 z4 z5 z6 r=>by
  have:=ZI (m:=A1 0) (ls:=[some (.im (wI ps)),z1,z2,z3,z4,z5,z6]) (hd:=[]++r) (hd':=[]++r) (is:=ps.map Fh) rfl;rw[this,VP]
 refine⟨found,[],?_,nd,mem⟩;have c:=HY (m:=A2 (A1 1) (A2 (A1 2) A5)) (F:=Bd.F_reached) (ls:=[some (.im (.int n)),some (.im (wI ps)),some (.im (.int a))]) (hd:=[]) (ds:=[.im (wI ps),.im (.int a)]) (hd1:=[]) 55 55 e;simp only[F_behind,mkF,iP,TH,TL,iq,jf,j8,jm,cons_append,nil_append,List.replicate,Nat.reduceAdd,Nat.reduceSub,iy,c,bind_some]
end Rw
namespace Sx
open L2
noncomputable def S(l:Nat->Int)(C:List Nat):Int:=(C.map l).sum
noncomputable def cst(C:List Nat):List Int:=C.map λk:Nat=>(k:Int)
noncomputable abbrev Blk:=Int×Int×List Int
def spl(h l:Nat->Int)(b e:Int)(C:List Nat):List Nat->List Blk
 |[]=>[(b,e,BV (cst C))]
 |m::r=>if e<=h m then(b,e,BV (cst C))::spl h l (h m) (h m+l m) [m] r else spl h l b (e+l m) (C++[m]) r
def du(h l:Nat->Int):List Nat->List Blk
 |[]=>[]
 |m::r=>spl h l (h m) (h m+l m) [m] r
def Tt(l:Nat->Int)(m:Nat)(D:List Nat):S l (m::D)=l m+S l D:=by simp[S]
structure ChOk(h l:Nat->Int)(b:Int)(C R:List Nat):Prop where
 fst:∃c C',C=c::C'/\h c=b
 lo:∀x∈C,b<=h x
 step:∀(D:List Nat) (x:Nat) (E:List Nat),C=D++x::E->D≠[]->h x<b+S l D
 rest:∀x∈R,b+S l C<=h x
end Sx
namespace Bk
open L2 Sx
noncomputable def upd(f:Nat->Int)(k:Nat)(v:Int):Nat->Int:=λj=>if j=k then v else f j
def upd_self(f:Nat->Int)(k:Nat)(v:Int):upd f k v k=v:=by simp[upd]
def upd_ne{f:Nat->Int}{k j:Nat}{v:Int}(h:j≠k):upd f k v j=f j:=by simp[upd,h]
structure Hs(n:Nat)(c l:Nat->Int)(W:List (Nat×Nat))(h:Nat->Int):Prop where
 pos:∀k,k<n->1<=l k
 ins:∀p∈W,p.1<n/\p.2<n
 lo:∀k,k<n->c k<=h k
 st:∀p∈W,h p.1+l p.1<=h p.2
 eq:∀k,k<n->h k=c k∨∃p∈W,p.2=k/\h k=h p.1+l p.1
noncomputable def dn(l left:Nat->Int)(ks:List Nat):Int:=(ks.map λk=>l k-left k).sum
structure Inv(n:Nat)(l h:Nat->Int)(W:List (Nat×Nat))(left en:Nat->Int)(t:Int):Prop where
 lo:∀k,k<n->0<=left k/\left k<=l k
 et:∀k,k<n->left k<l k->en k<=t
 bd:∀ks:List Nat,ks.Nodup->(∀k∈ks,k<n)->∀b:Int,(∀k∈ks,b<=h k)->(∀k∈ks,left k=l k)∨∃u∈ks,left u<l u/\b+dn l left ks<=en u
 wi:∀p∈W,left p.2<l p.2->left p.1=0/\en p.1<en p.2
def Inv.start{n:Nat}{l h:Nat->Int}(ins:∀p∈W,p.1<n/\p.2<n){left en:Nat->Int}{t:Int}(pos:∀k,k<n->1<=l k)(hl:∀k,k<n->left k=l k):Inv n l h W left en t where
 lo k hk:=by have:=pos k hk;rw[hl k hk];omega
 et k hk q:=by rw[hl k hk]at q;omega
 bd ks _ hk b _:=.inl λk hk'=>hl k (hk k hk')
 wi p hp q:=by rw[hl p.2 (ins p hp).2]at q;omega
theorem Nx{l left:Nat->Int}{k:Nat}{v:Int}:∀{ks:List Nat},ks.Nodup->dn l (upd left k v) ks=dn l left ks+if k∈ks then left k-v else 0
 |[],_=>by simp[dn]
 |x::r,nd=>by
  obtain⟨h1,h2⟩:=nodup_cons.mp nd;have ih:=Nx (l:=l) (left:=left) (k:=k) (v:=v) h2;unfold dn at ih ⊢;simp only[iq,sum_cons,ih];by_cases e:x=k
  .subst e;rw[upd_self,ie h1,ia 55];omega
  .rw[upd_ne e];by_cases q:k∈r
   .rw[ia q,ia (by simp[q])];omega
   .rw[ie q,ie (by simp[q];exact λz=>e z.symm)];omega
theorem Ky{l left:Nat->Int}:∀{ks:List Nat},(∀k∈ks,left k=l k)->dn l left ks=0
 |[],_=>rfl
 |x::r,h=>by
  have ih:=Ky (l:=l) (left:=left) (ks:=r) λk hk=>h k (by simp[hk]);have h0:=h x 55;unfold dn at ih ⊢;simp only[iq,sum_cons,ih];omega
def Inv.head{n:Nat}{c l h:Nat->Int}(H:Hs n c l W h){left en:Nat->Int}{t:Int}(I:Inv n l h W left en t){k:Nat}(hk:k<n){x:Int}(tx:t<=x)(cx:c k<=x)(hf:∀p∈W,p.2=k->left p.1=0):h k<=x:=by
 rcases H.eq k hk with e|⟨p,hp,e1,e2⟩
 .omega
 .have l0:=hf p hp e1;have pn:=(H.ins p hp).1;have lp:=H.pos p.1 pn;rcases I.bd [p.1] 55 (by simpa using pn) (h p.1) 55 with q|⟨u,hu,_,q⟩
  .have:=q p.1 55;omega
  .rw[iU]at hu;subst hu;have:=I.et p.1 pn 50;simp[dn]at q;omega
def Inv.step{n:Nat}{c l h:Nat->Int}(H:Hs n c l W h){left en:Nat->Int}{t:Int}(I:Inv n l h W left en t){k:Nat}(hk:k<n){x m:Int}(tx:t<=x)(cx:c k<=x)(hf:∀p∈W,p.2=k->left p.1=0)(m1:1<=m)(m2:m<=left k):
 Inv n l h W (upd left k (left k-m)) (upd en k (x+m)) (x+m):=by
 have hx:=I.head H hk tx cx hf;have lk:=I.lo k hk;refine⟨λj hj=>?_,λj hj q=>?_,λks nd hn b hb=>?_,λp hp q=>?_⟩
 .by_cases e:j=k
  .subst e;rw[upd_self];omega
  .rw[upd_ne e];exact I.lo j hj
 .by_cases e:j=k
  .subst e;rw[upd_self];exact Int.le_refl _
  .rw[upd_ne e]at q ⊢;have:=I.et j hj q;omega
 .rw[Nx nd];have ob:=I.bd ks nd hn b hb;by_cases e:k∈ks
  .refine .inr ⟨k,e,by rw[upd_self];omega,?_⟩;rw[upd_self,ia e];have bk:=hb k e;rcases ob with q|⟨u,hu,q1,q2⟩
   .rw[Ky q];omega
   .have:=I.et u (hn u hu) q1;omega
  .rw[ie e];rcases ob with q|⟨u,hu,q1,q2⟩
   .refine .inl λj hj=>?_;rw[upd_ne (λz:j=k=>e (z ▸ hj))];exact q j hj
   .have ne:u≠k:=λz=>e (z ▸ hu);exact .inr ⟨u,hu,by rw[upd_ne ne];exact q1,by rw[upd_ne ne];omega⟩
 .by_cases e:p.2=k
  .have l0:=hf p hp e;have ne:p.1≠k:=λz=>by rw[z]at l0;omega
   rw[upd_ne ne,upd_ne ne,e,upd_self];refine⟨l0,?_⟩;have pn:=(H.ins p hp).1;have:=H.pos p.1 pn;have:=I.et p.1 pn 50;omega
  .rw[upd_ne e]at q;obtain⟨q1,q2⟩:=I.wi p hp q;have ne:p.1≠k:=λz=>by rw[z]at q1;omega
   rw[upd_ne ne,upd_ne ne,upd_ne e];exact⟨q1,q2⟩
noncomputable abbrev Pc:=Nat×Int×Int
noncomputable def tot(k:Nat):List Pc->Int
 |[]=>0
 |p::r=>(if p.1=k then p.2.2-p.2.1 else 0)+tot k r
theorem tot_app(k:Nat):∀a b:List Pc,tot k (a++b)=tot k a+tot k b
 |[],b=>by simp[tot]
 |p::r,b=>by simp only[cons_append,tot,tot_app k r b];omega
theorem tot_none{k:Nat}:∀{a:List Pc},(∀p∈a,p.1≠k)->tot k a=0
 |[],_=>rfl
 |p::r,h=>by
  rw[tot,ie (h p 55),tot_none λq hq=>h q (by simp[hq])];rfl
theorem tot_nn{k:Nat}:∀{a:List Pc},(∀p∈a,p.2.1<p.2.2)->0<=tot k a
 |[],_=>Int.le_refl _
 |p::r,h=>by
  have h1:=h p 55;have h2:=tot_nn (k:=k) (a:=r) λq hq=>h q (by simp[hq]);rw[tot];split<;>omega
def Row(b:Int):List Pc->Prop
 |[]=>True
 |p::r=>b<=p.2.1/\p.2.1<p.2.2/\Row p.2.2 r
theorem Row.ge{b:Int}:∀{ps:List Pc},Row b ps->∀p∈ps,b<=p.2.1/\p.2.1<p.2.2
 |[],_,p,hp=>by cases hp
 |q::r,h,p,hp=>by
  rcases mem_cons.mp hp with rfl|hp
  .exact⟨h.1,h.2.1⟩
  .have:=h.2.2.ge p hp;have:=h.1;have:=h.2.1;exact⟨by omega,by omega⟩
end Bk
namespace Du
open Bk
open Sx (S Tt)
noncomputable def addP(P:List Pc)(k:Nat)(b e:Int):List Pc:=match P.getLast? with
 |some p=>if p.1=k/\p.2.2=b then P.dropLast++[(k,p.2.1,e)]else P++[(k,b,e)]
 |none=>P++[(k,b,e)]
def nil_or(P:List Pc):P=[]∨∃P' p,P=P'++[p]:=by
 rcases List.eq_nil_or_concat P with h|⟨P',p,h⟩
 .exact .inl h
 .exact .inr ⟨P',p,by rw[h,List.concat_eq_append]⟩
def addP_snoc(P:List Pc)(p:Pc)(k:Nat)(b e:Int):addP (P++[p]) k b e=if p.1=k/\p.2.2=b then P++[(k,p.2.1,e)]else P++[p]++[(k,b,e)]:=by
 unfold addP;rw[List.getLast?_concat,List.dropLast_concat]
def RZ(P:List Pc)(k:Nat)(b e:Int):∃I b0,addP P k b e=I++[(k,b0,e)]/\(I=P/\b0=b∨P=I++[(k,b0,b)]):=by
 rcases nil_or P with rfl|⟨P',p,rfl⟩
 .exact⟨[],b,rfl,.inl ⟨rfl,rfl⟩⟩
 .rw[addP_snoc];by_cases c:p.1=k/\p.2.2=b
  .rw[ia c];exact⟨P',p.2.1,rfl,.inr (by obtain⟨p1,p2,p3⟩:=p;obtain⟨rfl,rfl⟩:=c;rfl)⟩
  .rw[ie c];exact⟨P'++[p],b,rfl,.inl ⟨rfl,rfl⟩⟩
theorem nd_len:∀{l L:List Nat},l.Nodup->(∀x∈l,x∈L)->l.length<=L.length
 |[],_,_,_=>by simp
 |x::r,L,nd,h=>by
  have hx:=h x 55;obtain⟨n1,n2⟩:=nodup_cons.mp nd;have ih:=nd_len (L:=L.erase x) n2 λy hy=>(List.mem_erase_of_ne λe=>by subst e;exact n1 hy).mpr (h y (by simp[hy]));have e:=List.length_erase_of_mem hx;have:0<L.length:=List.length_pos_of_mem hx;simp only[j8];omega
noncomputable def sel(n:Nat)(h dd:Nat->Int)(D t0:Int):List Nat:=(57 n).filter λk=>decide (dd k<=D)&&decide (t0<=h k)
def sel_mem{n:Nat}{h dd:Nat->Int}{D t0:Int}{k:Nat}:k∈sel n h dd D t0↔k<n/\dd k<=D/\t0<=h k:=by simp[sel]
def Zx(n:Nat)(h dd:Nat->Int)(D t0:Int):(sel n h dd D t0).Nodup:=nodup_range.sublist List.filter_sublist
theorem Qy{l lf:Nat->Int}:∀{ks:List Nat},(∀k∈ks,lf k<=l k)->0<=dn l lf ks
 |[],_=>by simp[dn]
 |x::r,h=>by
  have ih:=Qy (l:=l) (lf:=lf) (ks:=r) λk hk=>h k (by simp[hk]);have h0:=h x 55;unfold dn at ih ⊢;simp only[iq,sum_cons];omega
theorem dM{l lf:Nat->Int}:∀{ks:List Nat},(∀k∈ks,0<=lf k)->dn l lf ks<=S l ks
 |[],_=>by simp[dn,S]
 |x::r,h=>by
  have ih:=dM (l:=l) (lf:=lf) (ks:=r) λk hk=>h k (by simp[hk]);have h0:=h x 55;rw[Tt];unfold dn at ih ⊢;simp only[iq,sum_cons];omega
structure St(n:Nat)(h l dd:Nat->Int)(W:List (Nat×Nat))(lf:Nat->Int)(P:List Pc)(t:Int):Prop where
 lo:∀k,k<n->0<=lf k/\lf k<=l k
 mem:∀p∈P,p.1<n/\h p.1<=p.2.1/\p.2.1<p.2.2/\p.2.2<=t
 pw:P.Pairwise λp q=>p.2.2<=q.2.1
 has:∀p∈P,lf p.1<l p.1
 tt:∀j,j<n->tot j P=l j-lf j
 wis:∀w∈W,∀p∈P,∀q∈P,p.1=w.1->q.1=w.2->p.2.2<=q.2.1
 beg:∀w∈W,lf w.2<l w.2->lf w.1=0
 th:∀D,∃t0,t0<=t/\(∀k,k<n->0<lf k->dd k<=D->t0<=h k)/\t-t0<=dn l lf (sel n h dd D t0)
 fin:∀j,j<n->lf j=0->∃t0 e,(∀p∈P,p.1=j->p.2.2<=e)/\t0<e/\e-t0<=S l (sel n h dd (dd j) t0)
structure Tn(n:Nat)(h dd lf:Nat->Int)(t t':Int)(k:Nat)(s:Int):Prop where
 tt:t<=t'
 idle:t<t'->∀j,j<n->0<lf j->t'<=h j
 kn:k<n
 k0:0<lf k
 kc:h k<=t'
 km:∀j,j<n->0<lf j->h j<=t'->dd k<dd j∨dd k=dd j/\k<=j
 s0:t'<s
 s1:s<=t'+lf k
 s2:∀j,j<n->0<lf j->t'<h j->s<=h j
 s3:s=t'+lf k∨∃j,j<n/\0<lf j/\t'<h j/\s=h j
noncomputable def mu(n:Nat)(h lf:Nat->Int)(t:Int):Nat:=(57 n).countP (λj=>decide (0<lf j))+(57 n).countP (λj=>decide (0<lf j/\t<h j))
def mu_le(n:Nat)(h lf:Nat->Int)(t:Int):mu n h lf t<=2*n:=by
 unfold mu;have h1:=List.countP_le_length (p:=λj=>decide (0<lf j)) (l:=57 n);have h2:=List.countP_le_length (p:=λj=>decide (0<lf j/\t<h j)) (l:=57 n);simp only[List.length_range]at h1 h2;omega
theorem Nz{p q:Nat->Bool}:∀{L:List Nat},(∀i∈L,p i=true->q i=true)->(∃i∈L,q i=true/\p i=false)->L.countP p<L.countP q
 |[],_,h=>by obtain⟨_,h,_⟩:=h;cases h
 |x::r,h,⟨i,hi,h1,h2⟩=>by
  rw[List.countP_cons,List.countP_cons];rcases mem_cons.mp hi with rfl|hi
  .have:=List.countP_mono_left (l:=r) λj hj=>h j (by simp[hj]);rw[h1,h2];simp;omega
  .have ih:=Nz (p:=p) (q:=q) (L:=r) (λj hj=>h j (by simp[hj])) ⟨i,hi,h1,h2⟩;have hx:=h x 55;by_cases px:p x=true
   .rw[px,hx px];simp;omega
   .have px:p x=false:=by simpa using px
    rw[px];simp;split<;>omega
section
variable{n:Nat}{h l dd:Nat->Int}{lf:Nat->Int}{t:Int}
def St.start(pos:∀k,k<n->1<=l k)(h0:∀k,k<n->0<=h k)(ins:∀w∈W,w.1<n/\w.2<n):St n h l dd W l [] 0 where
 lo k hk:=by have:=pos k hk;omega
 mem:=by simp
 pw:=.nil
 has:=by simp
 tt j _:=by simp[tot]
 wis:=by simp
 beg w _ q:=by omega
 th D:=⟨0,Int.le_refl _,λk hk _ _=>h0 k hk,by rw[Ky λ_ _=>rfl];omega⟩
 fin j hj q:=by have:=pos j hj;omega
theorem Tn.mu(X:Tn n h dd lf t t' k s):mu n h (upd lf k (lf k-(s-t'))) s<mu n h lf t:=by
 have tt:=X.tt;have s0:=X.s0;have s1:=X.s1;have k0:=X.k0;have up:∀i,0<upd lf k (lf k-(s-t')) i->0<lf i:=λi q=>by
  unfold upd at q;split at q
  .next e=>rw[e];exact k0
  .exact q
 unfold Du.mu;have le1:(57 n).countP (λj=>decide (0<upd lf k (lf k-(s-t')) j))<=(57 n).countP (λj=>decide (0<lf j)):=List.countP_mono_left λi _ q=>by
  simp only[jL]at q ⊢;exact up i q
 have le2:(57 n).countP (λj=>decide (0<upd lf k (lf k-(s-t')) j/\s<h j))<=(57 n).countP (λj=>decide (0<lf j/\t<h j)):=List.countP_mono_left λi _ q=>by
  simp only[jL]at q ⊢;exact⟨up i q.1,by omega⟩
 rcases X.s3 with e|⟨j,jn,j0,jc,e⟩
 .have:(57 n).countP (λj=>decide (0<upd lf k (lf k-(s-t')) j))<(57 n).countP (λj=>decide (0<lf j)):=by
   refine Nz (λi _ q=>by simp only[jL]at q ⊢;exact up i q) ⟨k,by simpa using X.kn,by simpa using k0,?_⟩;simp only[k9,upd_self];omega
  omega
 .have:(57 n).countP (λj=>decide (0<upd lf k (lf k-(s-t')) j/\s<h j))<(57 n).countP (λj=>decide (0<lf j/\t<h j)):=by
   refine Nz (λi _ q=>?_) ⟨j,by simpa using jn,by simp only[jL];omega,?_⟩
   .simp only[jL]at q ⊢;exact⟨up i q.1,by omega⟩
   .simp only[k9];omega
  omega
def St.turn(pos:∀k,k<n->1<=l k)(hs:∀w∈W,w.1<n/\w.2<n/\h w.1+l w.1<=h w.2)(hd:∀w∈W,dd w.1<=dd w.2-l w.2)(T:St n h l dd W lf P t)(X:Tn n h dd lf t t' k s):St n h l dd W (upd lf k (lf k-(s-t'))) (addP P k t' s) s/\(addP P k t' s).length<=P.length+1:=by
 have tt:=X.tt;have s0:=X.s0;have s1:=X.s1;have k0:=X.k0;have kn:=X.kn;have kc:=X.kc;have lk:=T.lo k kn;obtain⟨I,b0,eA,cA⟩:=RZ P k t' s;have sub:∀p∈I,p∈P:=λp hp=>by
  rcases cA with⟨rfl,_⟩|e
  .exact hp
  .rw[e];simp[hp]
 have bb:h k<=b0/\b0<=t':=by
  rcases cA with⟨_,rfl⟩|e
  .exact⟨kc,Int.le_refl _⟩
  .have:=T.mem (k,b0,t') (by rw[e];simp);exact⟨this.2.1,Int.le_of_lt this.2.2.1⟩
 have bef:∀p∈I,p.2.2<=b0:=λp hp=>by
  rcases cA with⟨_,rfl⟩|e
  .have:=(T.mem p (sub p hp)).2.2.2;omega
  .have pw:=T.pw;rw[e,pairwise_append]at pw;exact pw.2.2 p hp (k,b0,t') 55
 have key:∀D,∃t0,t0<=s/\(∀j,j<n->0<upd lf k (lf k-(s-t')) j->dd j<=D->t0<=h j)/\s-t0<=dn l (upd lf k (lf k-(s-t'))) (sel n h dd D t0)/\(dd k<=D->t0<=t'):=λD=>by
  have up:∀i,0<upd lf k (lf k-(s-t')) i->0<lf i:=λi q=>by
   unfold upd at q;split at q
   .next e=>rw[e];exact k0
   .exact q
  by_cases c:dd k<=D
  .obtain⟨t0,a1,a2,a3⟩:∃t0,t0<=t'/\(∀j,j<n->0<lf j->dd j<=D->t0<=h j)/\t'-t0<=dn l lf (sel n h dd D t0):=by
    by_cases q:t<t'
    .exact⟨t',Int.le_refl _,λj hj j0 _=>X.idle q j hj j0,by have:=Qy (l:=l) (lf:=lf) (ks:=sel n h dd D t') (λk hk=>(T.lo k (sel_mem.mp hk).1).2);omega⟩
    .obtain⟨t0,a1,a2,a3⟩:=T.th D;exact⟨t0,by omega,a2,by omega⟩
   refine⟨t0,by omega,λj hj q1 q2=>a2 j hj (up j q1) q2,?_,λ_=>a1⟩;rw[Nx (Zx _ _ _ _ _),ia (sel_mem.mpr ⟨kn,c,a2 k kn k0 c⟩)];omega
  .refine⟨s,Int.le_refl _,λj hj q1 q2=>?_,?_,λq=>absurd q c⟩
   .have j0:=up j q1;by_cases q:h j<=t'
    .have:=X.km j hj j0 q;omega
    .exact X.s2 j hj j0 50
   .have:=Qy (l:=l) (lf:=upd lf k (lf k-(s-t'))) (ks:=sel n h dd D s) λi hi=>by
     have:=T.lo i (sel_mem.mp hi).1;unfold upd;split
     .next e=>subst e;omega
     .exact this.2
    omega
 have lo':∀i,i<n->0<=upd lf k (lf k-(s-t')) i/\upd lf k (lf k-(s-t')) i<=l i:=λi hi=>by
  have:=T.lo i hi;unfold upd;split
  .next e=>subst e;omega
  .exact this
 rw[eA];refine⟨⟨lo',λp hp=>?_,?_,λp hp=>?_,λj hj=>?_,λw hw p hp q hq e1 e2=>?_,λw hw q=>?_,λD=>?_,λj hj q=>?_⟩,?_⟩
 .rcases mem_append.mp hp with q|q
  .have:=T.mem p (sub p q);exact⟨this.1,this.2.1,this.2.2.1,by omega⟩
  .rw[iU]at q;subst q;exact⟨kn,bb.1,by show b0<s;omega,Int.le_refl _⟩
 .rw[pairwise_append];refine⟨?_,List.pairwise_singleton _ _,λp hp q hq=>?_⟩
  .have pw:=T.pw;rcases cA with⟨rfl,_⟩|e
   .exact pw
   .rw[e,pairwise_append]at pw;exact pw.1
  .rw[iU]at hq;subst hq;exact bef p hp
 .rcases mem_append.mp hp with q|q
  .have:=T.has p (sub p q);unfold upd;split
   .next e=>rw[e]at this ⊢;omega
   .exact this
  .rw[iU]at q;subst q;show upd lf k _ k<l k;rw[upd_self];omega
 .have h1:=T.tt j hj;rw[tot_app];have e2:tot j I+(if k=j then t'-b0 else 0)=tot j P:=by
   rcases cA with⟨rfl,rfl⟩|e
   .split<;>omega
   .rw[e,tot_app];simp[tot]
  show tot j I+((if k=j then s-b0 else 0)+0)=_;by_cases q:j=k
  .subst q;rw[upd_self,ia rfl];rw[ia rfl]at e2;omega
  .rw[upd_ne q,ie λz=>q z.symm];rw[ie λz=>q z.symm]at e2;omega
 .rcases mem_append.mp hp with a|a
  .rcases mem_append.mp hq with b|b
   .exact T.wis w hw p (sub p a) q (sub q b) e1 e2
   .rw[iU]at b;subst b;exact bef p a
  .rw[iU]at a;subst a;have ek:k=w.1:=e1;rcases mem_append.mp hq with b|b
   .have:=T.has q (sub q b);rw[e2]at this;have:=T.beg w hw this;rw[<- ek]at this;omega
   .rw[iU]at b;subst b;have e2:k=w.2:=e2;have:=hs w hw;rw[<- ek,<- e2]at this;have:=pos k kn;omega
 .have:=hs w hw;have p1:=pos w.1 this.1;by_cases c:w.2=k
  .have ne:w.1≠k:=λz=>by rw[z,c]at this;rw[z]at p1;omega
   rw[upd_ne ne];refine Classical.byContradiction λz=>?_;have lo1:=T.lo w.1 this.1;have h1:=X.km w.1 this.1 50 (by rw[c]at this;omega);have h2:=hd w hw;have h3:=pos w.2 this.2.1;rw[c]at h2 h3;omega
  .rw[upd_ne c]at q;have b:=T.beg w hw q;rw[upd_ne λz=>by rw[z]at b;omega];exact b
 .obtain⟨t0,a1,a2,a3,_⟩:=key D;exact⟨t0,a1,a2,a3⟩
 .by_cases c:j=k
  .subst c;obtain⟨t0,a1,a2,a3,a4⟩:=key (dd j);refine⟨t0,s,λp hp e=>?_,by have:=a4 (Int.le_refl _);omega,Int.le_trans a3 (dM λi hi=>(lo' i (sel_mem.mp hi).1).1)⟩;rcases mem_append.mp hp with q|q
   .have:=bef p q;omega
   .rw[iU]at q;subst q;exact Int.le_refl _
  .rw[upd_ne c]at q;obtain⟨t0,e,a1,a2,a3⟩:=T.fin j hj q;refine⟨t0,e,λp hp ej=>?_,a2,a3⟩;rcases mem_append.mp hp with q|q
   .exact a1 p (sub p q) ej
   .rw[iU]at q;subst q;exact absurd ej.symm c
 .rcases cA with⟨rfl,_⟩|e
  .simp
  .rw[e];simp
theorem N8{t:Int}:∀{P:List Pc} {b:Int},(∀p∈P,b<=p.2.1/\p.2.1<p.2.2)->P.Pairwise (λp q=>p.2.2<=q.2.1)->Row b P
 |[],_,_,_=>trivial
 |p::r,b,h1,h2=>by
  rw[List.pairwise_cons]at h2;have:=h1 p 55;exact⟨this.1,this.2,N8 (t:=t) (λq hq=>⟨h2.1 q hq,(h1 q (by simp[hq])).2⟩) h2.2⟩
structure Pk(n:Nat)(h l:Nat->Int)(W:List (Nat×Nat))(P:List Pc):Prop where
 mem:∀p∈P,p.1<n/\h p.1<=p.2.1
 row:Row 0 P
 tot:∀j,j<n->tot j P=l j
 wis:∀w∈W,∀p∈P,∀q∈P,p.1=w.1->q.1=w.2->p.2.2<=q.2.1
def St.pk(T:St n h l dd W lf P t)(h0:∀k,k<n->0<=h k)(z:∀j,j<n->lf j=0):Pk n h l W P where
 mem p hp:=⟨(T.mem p hp).1,(T.mem p hp).2.1⟩
 row:=N8 (t:=t) (λp hp=>by have:=T.mem p hp;have:=h0 _ this.1;exact⟨by omega,by omega⟩) T.pw
 tot j hj:=by rw[T.tt j hj,z j hj];omega
 wis:=T.wis
structure Tu(n:Nat)(l d:Nat->Int)(W:List (Nat×Nat))(rk:Nat->Nat)(v:Nat->Int)(t:Nat):Prop where
 le:∀k,k<n->v k<=d k
 wt:∀en:Nat->Int,(∀w∈W,en w.1+l w.2<=en w.2)->∀a,a<n->∃m,m<n/\en a-v a<=en m-d m
 sd:∀w∈W,n<=rk w.1+1+t->v w.1<=v w.2-l w.2
def Tu.start{d:Nat->Int}{rk:Nat->Nat}(hr:∀w∈W,rk w.1<rk w.2/\rk w.2<n):Tu n l d W rk d 0:=
 ⟨λ_ _=>Int.le_refl _,λen _ a ha=>⟨a,ha,Int.le_refl _⟩,λw hw q=>by have:=hr w hw;omega⟩
structure Ti(n:Nat)(l d:Nat->Int)(W:List (Nat×Nat))(rk:Nat->Nat)(v:Nat->Int)(t:Nat)(A:List (Nat×Nat)):Prop where
 T:Tu n l d W rk v t
 nw:∀w∈A,n<=rk w.1+1+(t+1)->v w.1<=v w.2-l w.2
def Ti.step{d v:Nat->Int}{rk:Nat->Nat}{t:Nat}(hr:∀w∈W,(w.1<n/\w.2<n)/\rk w.1<rk w.2)(I:Ti n l d W rk v t A)(sub:∀w∈A,w∈W)(hq:q∈W):Ti n l d W rk (upd v q.1 (min (v q.1) (v q.2-l q.2))) t (A++[q]):=by
 have rq:=hr q hq;have mono:∀k,upd v q.1 (min (v q.1) (v q.2-l q.2)) k<=v k:=λk=>by
  unfold upd;split
  .next e=>subst e;omega
  .exact Int.le_refl _
 -- an edge whose far end is settled keeps
 have keep:∀w∈W,n<=rk w.1+1+(t+1)->v w.1<=v w.2-l w.2->upd v q.1 (min (v q.1) (v q.2-l q.2)) w.1<=upd v q.1 (min (v q.1) (v q.2-l q.2)) w.2-l w.2:=λw hw hn hv=>by
  have m1:=mono w.1;have rw_:=hr w hw;by_cases e:w.2=q.1
  .have:=I.T.sd q hq (by rw[<- e];omega);have e2:upd v q.1 (min (v q.1) (v q.2-l q.2)) w.2=v w.2:=by
    rw[e,upd_self];omega
   rw[e2];omega
  .rw[upd_ne e];omega
 refine⟨⟨λk hk=>Int.le_trans (mono k) (I.T.le k hk),λen he a ha=>?_,λw hw hn=>keep w hw 50 (I.T.sd w hw hn)⟩,λw hw hn=>?_⟩
 .by_cases e:a=q.1
  .subst e;rw[upd_self];by_cases c:v q.1<=v q.2-l q.2
   .rw[show min (v q.1) (v q.2-l q.2)=v q.1 by omega];exact I.T.wt en he q.1 ha
   .rw[show min (v q.1) (v q.2-l q.2)=v q.2-l q.2 by omega];obtain⟨m,hm,q1⟩:=I.T.wt en he q.2 rq.1.2;have:=he q hq;exact⟨m,hm,by omega⟩
  .rw[upd_ne e];exact I.T.wt en he a ha
 .rcases mem_append.mp hw with a|a
  .exact keep w (sub w a) hn (I.nw w a hn)
  .rw[iU]at a;subst a;have ne:w.2≠w.1:=λz=>by have:=rq.2;rw[z]at this;omega
   rw[upd_self,upd_ne ne];omega
def Ti.next{d v:Nat->Int}{rk:Nat->Nat}{t:Nat}(I:Ti n l d W rk v t W):Tu n l d W rk v (t+1):=⟨I.T.le,I.T.wt,λw hw hn=>I.nw w hw hn⟩
def Tu.done{d v:Nat->Int}{rk:Nat->Nat}(T:Tu n l d W rk v n):∀w∈W,v w.1<=v w.2-l w.2:=λw hw=>T.sd w hw 50
end
end Du
namespace Du
open Bk (Pc Row tot tot_app)
structure Po(n:Nat)(h l:Nat->Int)(W:List (Nat×Nat))(pre:List Nat)(P:List Pc)(t:Int):Prop where
 t0:0<=t
 mem:∀p∈P,p.1∈pre/\p.1<n/\h p.1<=p.2.1/\p.2.1<p.2.2/\0<=p.2.1/\p.2.2<=t
 row:P.Pairwise λp q=>p.2.2<=q.2.1
 tt:∀j,tot j P=if j∈pre then l j else 0
 wis:∀w∈W,∀p∈P,∀q∈P,p.1=w.1->q.1=w.2->p.2.2<=q.2.1
 clo:∀w∈W,w.2∈pre->w.1∈pre
 hd:∀j∈pre,h j+l j<=t
section
variable{n:Nat}{h l c:Nat->Int}{t:Int}
def Po.start:Po n h l W [] [] 0:=⟨Int.le_refl _,(by intro p hp;cases hp),.nil,λj=>by simp[tot],(by intro w _ p hp;cases hp),(by intro w _ h;cases h),by intro j hj;cases hj⟩
def Po.step{rk:Nat->Nat}(R:Hds.Rk (λk=>k<n) W rk)(H:Hds.IsHead (λk=>k<n) c l W h)(pos:∀k,k<n->0<l k)(I:Po n h l W pre P t){k:Nat}(hk:k<n)(kp:k∉pre)(fr:∀p∈W,p.2=k->p.1∈pre):
 Po n h l W (pre++[k]) (P++[(k,max t (c k),max t (c k)+l k)]) (max t (c k)+l k):=by
 have lk:=pos k hk;have hh:h k<=max t (c k):=by
  rcases H.eq k hk with e|⟨p,hp,e1,e2⟩
  .rw[e];omega
  .have:=I.hd p.1 (fr p hp e1);omega
 have kP:∀p∈P,p.1≠k:=λp hp e=>kp (e ▸ (I.mem p hp).1);refine⟨by have:=I.t0;omega,λp hp=>?_,?_,λj=>?_,λw hw p hp q hq e1 e2=>?_,λw hw hm=>?_,λj hj=>?_⟩
 .rcases mem_append.mp hp with hp|hp
  .have:=I.mem p hp;exact⟨jh _ this.1,this.2.1,this.2.2.1,this.2.2.2.1,this.2.2.2.2.1,by omega⟩
  .rw[iU]at hp;subst hp;have:=I.t0;exact⟨by simp,hk,hh,by show max t (c k)<max t (c k)+l k;omega,by show 0<=max t (c k);omega,Int.le_refl _⟩
 .refine pairwise_append.mpr ⟨I.row,by simp,λp hp q hq=>?_⟩;rw[iU]at hq;subst hq;have:=(I.mem p hp).2.2.2.2.2;show p.2.2<=max t (c k);omega
 .rw[tot_app,I.tt j];by_cases e:k=j
  .subst e;rw[ie kp,ia 55];simp[tot];omega
  .have e':j≠k:=λz=>e z.symm;simp[tot,e,e']
 .rcases mem_append.mp hp with hp|hp
  .rcases mem_append.mp hq with hq|hq
   .exact I.wis w hw p hp q hq e1 e2
   .rw[iU]at hq;subst hq;have:=(I.mem p hp).2.2.2.2.2;show p.2.2<=max t (c k);omega
  .rw[iU]at hp;subst hp;rcases mem_append.mp hq with hq|hq
   .have:=I.clo w hw (e2 ▸ (I.mem q hq).1);rw[<- e1]at this;exact absurd this kp
   .rw[iU]at hq;subst hq;have:=R.lt w hw;rw[<- e1,<- e2]at this;exact absurd this (jd _)
 .rcases mem_append.mp hm with hm|hm
  .exact jh _ (I.clo w hw hm)
  .rw[iU]at hm;exact jh _ (fr w hw hm)
 .rcases mem_append.mp hj with hj|hj
  .have:=I.hd j hj;omega
  .rw[iU]at hj;subst hj;omega
def Po.pk(I:Po n h l W pre P t)(all:∀j,j<n->j∈pre):Pk n h l W P where
 mem p hp:=⟨(I.mem p hp).2.1,(I.mem p hp).2.2.1⟩
 row:=N8 (t:=t) (λp hp=>⟨(I.mem p hp).2.2.2.2.1,(I.mem p hp).2.2.2.1⟩) I.row
 tot j hj:=by rw[I.tt j,ia (all j hj)]
 wis:=I.wis
end
end Du
namespace L2
open PySem PySem.W PyProof.Rows
def feE{K:Frag}{e:Df}(h:Ea.Fe K n s)(hn:e.x=n:=by rfl)(hs:e.st=s:=by rfl):Fe K e:=by subst hn;subst hs;exact h
def flE{K:Frag}{e:Df}(h:Ea.Fl K n s p)(hn:e.x=n:=by rfl)(hs:e.st=s:=by rfl):Fla K e p:=by subst hn;subst hs;exact h
def zsE{K:Frag}(h:Ea.Zs K):Zs K:=h
theorem Wm:∀{l:List Value},Ea.ovB l=true->OverV l
 |[],h=>by simp[Ea.ovB]at h
 |v::l,h=>by
  unfold Ea.ovB at h;rcases Bool.or_eq_true_iff.mp h with h|h
  .rw[jG h];exact .base
  .cases v with
   |ref a=>exact .own (Wm h)
   |_=>cases h
theorem IV{α:Type}{p f:α->Bool}{q:α}:∀{l:List α},l.find? p=some q->f q=true->(l.filter f).find? p=some q
 |[],h,_=>by cases h
 |a::l,h,hf=>by
  rw[jg]at h;cases pa:p a with
  |true=>
   rw[pa]at h;cases h;rw[jE,ia hf,jg,pa]
  |false=>
   rw[pa]at h;have ih:=IV h hf;rw[jE];split
   .rw[jg,pa];exact ih
   .exact ih
def W7{K:Frag}{ts:List Tb}(h:clsAt K nm=some C)(hC:C∉ts.map (·.1)):clsAt (Au K ts) nm=some C:=by
 obtain⟨⟨C',o⟩,e,e2⟩:=iT h;cases e2;unfold clsAt Au;rw[List.find?_append,IV e (by simpa using hC)];rfl
def Ko{n nm:Str}{b0 b:Bool}{r:List (Str×Bool)}(h:List.lookup nm ((n,b0)::r)=some b):(nm=n/\b=b0)∨List.lookup nm r=some b:=by
 rw[iW]at h;cases q:(nm==n)with
 |true=>rw[q]at h;cases h;exact .inl ⟨beq_iff_eq.mp q,rfl⟩
 |false=>rw[q]at h;exact .inr h
def Ini(s:Stmt)(ps fs:List Str):Prop:=(∀{P:Program} {w:World} {K:Frag} {mg:Str->Option Value} {base:Heap} {qual:Str} {C fI fa:Addr} {fd:FuncData},Fun K "__init__" qual s fa fd->XC K C fI->(∀f∈fs,D5 K C f)->FnOk P w K mg base CX0 1 fa fd ps (spJ C fs))/\ps.length=fs.length+1/\fs.length<=1000 /\
 ∀(qual:Str) (kV doc pm:Value) (an:Option Addr) (cdv ct:Value) (us:List Value),us.length=ps.length->bindArgs (fnOf "__init__" qual (C7 s) (Av s) (A8 s) .none kV doc pm an cdv ct) ⟨us,[]⟩=pure (ps.zip us)
section
variable{K:Frag}{mg:Str->Option Value}{c P:Str->Addr}(X:K.In h)(G:h.Ns mainGlobals mg)(hx:HX xs mg h c P)
include X hx in
theorem Ec.ncls(H:Ea.Ec K nm s fs C):C∉(tbs xs P).map (·.1):=λz=>by
 obtain⟨fI,N,nm',q,bs,bm,sub,sn,ab,col,dd,od,an,k0,k1,k2,k3,k5,oc,kV,dc,pm,cd,ct,sl,a,b,c',_⟩:=H;have:=X _ _ c';rw[JD hx C z]at this;cases this
include X hx in
theorem Ec.at(H:Ea.Ec K nm s fs C):clsAt (Au K (tbs xs P)) nm=some C:=by
 have n:=Ec.ncls X hx H;obtain⟨fI,N,nm',q,bs,bm,sub,sn,ab,col,dd,od,an,k0,k1,k2,k3,k5,oc,kV,dc,pm,cd,ct,sl,a,b,_⟩:=H;exact W7 b n
include X G hx in
theorem Ec.cl(H:Ea.Ec K nm s fs C)(I:Ini s ps fs):Cl (enM l w K xs P mg base) nm fs:=by
 have at':=Ec.at X hx H;have hP:=JD hx;obtain⟨fI,N,nm',q,bs,bm,sub,sn,ab,col,dd,od,an,k0,k1,k2,k3,k5,oc,kV,dc,pm,cd,ct,sl,a,b,lC,ov,fi,fn,kp,sa,ga,gx,ca,gd,tk,mo,na,li,ci,ki⟩:=H;have LE:=Fk (ts:=tbs xs P) X hP;have xc:XC (Au K (tbs xs P)) C fI:=LE.xc ⟨_,_,li,rfl⟩ ⟨⟨_,_,_,_,_,_,_,_,_,_,_,_,_,_,_,lC,Wm ov⟩,fi,fn,kp,sa,ga,gx⟩;have FI:=Fun.mark (ts:=tbs xs P) (TB (st:=s) li ci ki) X hP;have nA:∀f∈fs,D5 (Au K (tbs xs P)) C f:=λf hf=>LE.noAttr (na f hf);exact⟨C,fI,_,ps,mg_of X G a,at',xc,LE.xi ⟨ca,gd,tk,mo⟩,nA,I.1 FI xc nA,FI.binds (I.2.2.2 _),I.2.1,I.2.2.1⟩
variable{b:Bool}
include X G hx in
theorem Ec.ch(H:Ea.Ec K nm s fs C)(hB:nsIn K mainGlobals B=some (some (.ref CB)))(k:PySem.W.exmOne K (.ref C) (.ref CB)=some true):Ch (enM l w K xs P mg base) B nm:=
 ⟨CB,C,mg_of X G hB,Ec.at X hx H,(Fk (ts:=tbs xs P) X (JD hx)).exm k⟩
include X G hx in
theorem Ec.ci(H:Ea.Ec K nm s fs C)(hB:nsIn K mainGlobals B=some (some (.ref CB)))(k:PySem.W.kitOne K (.ref C) (.ref CB)=some b):Ci (enM l w K xs P mg base) B nm b:=
 ⟨CB,C,mg_of X G hB,Ec.at X hx H,(Fk (ts:=tbs xs P) X (JD hx)).kitOne k⟩
include X G hx in
theorem Ec.cv(H:Ea.Ec K nm s fs C)(hV:nsIn K mainGlobals "ValueError"=some none)(k:PySem.W.kitOne K (.ref C) (.type "ValueError")=some true):Cv (enM l w K xs P mg base) nm:=
 ⟨C,PySem.W.mg_none_of X G hV,Ec.at X hx H,(Fk (ts:=tbs xs P) X (JD hx)).kitOne k⟩
include X G hx in
theorem Ec.ct{ns:List Str}{cs:List Addr}(H:Ea.Ec K nm s fs C)(hB:ns.map mg=cs.map (λc=>some (.ref c)))(k:PySem.W.kitAny K (.ref C) (cs.map Value.ref)=some b):Ct (enM l w K xs P mg base) ns nm b:=
 ⟨cs,C,hB,Ec.at X hx H,(Fk (ts:=tbs xs P) X (JD hx)).kitAny k⟩
end
end L2
namespace T33
open PySem L2
noncomputable abbrev N0:Stmt:=top 1
def S6:FnScope ["works","wishes","some","t","told","within","turn","a","b"] ["works","wishes","some","t"] (A8 N0):=Az (by kernel_rfl)
@[reducible] noncomputable def VZ:MS:=(A6 (AE 4 (Js (HE 1 [0,3] (B0 (A1 2)) (AG 0) Bq [] (Hw (A1 0) (mCB E3 (A2 (mOp gIx (mOp gIx (A1 1) (A1 0)) (mC (.int 1))) (A2 (A1 2) A5)))))))
 (A6 (AE 5 (AY (Ag 2 [4] (B0 (A1 1)) (CO 2 (Ac (AG 0) (Ac (AG 1) CP))) (Cs (AC (mOp (HK false) (A1 0) (A1 2))) (AC (mOp (HK false) (A1 1) (A1 2)))) (Ak (A2 (A1 0) (A2 (A1 1) A5))))))
 (A6 (Bs (B0 (A1 2)) (AG 6)
  (Bs (Br (A1 5)) (CO 2 (Ac (AG 7) (Ac (AG 8) CP)))
  (Hz (A1 4) (A1 8) (mCB E3 (A2 (mOp EW (A1 4) (A1 8)) (A2 (mOp AT (mOp EW (A1 4) (A1 7)) (mOp gIx (mOp gIx (A1 0) (A1 7)) (mC (.int 0)))) A5))))))
 (AK (B7 BS (Ag 1 [4] (B0 (A1 2)) (AG 0) Bq (mOp EW (A1 1) (A1 0))))))))
noncomputable def Gg:FD:=mkF 4 9 VZ
noncomputable abbrev JH:Df:=⟨"raised",N0,["works","wishes","some","t"],1,Gg⟩
noncomputable abbrev Og:Stmt:=top 2
def UT:FnScope ["works","wishes"] ["works","wishes"] (A8 Og):=Az (by kernel_rfl)
@[reducible] noncomputable def ZA:MS:=(AK (A9 0 Gg (A2 (A1 0) (A2 (A1 1) (A2 (Jp (A2 (mCB (f1 true BO) (A2 (A1 0) A5)) A5)) (A2 (mC (.int 0)) A5))))))
noncomputable def G4:FD:=mkF 2 2 ZA
noncomputable abbrev Fu:Df:=⟨"heads",Og,["works","wishes"],2,G4⟩
noncomputable abbrev Jf:Stmt:=top 14
def OH:FnScope ["rows","t","told","begin","amount"] ["rows","t"] (A8 Jf):=Az (by kernel_rfl)
@[reducible] def iO:MS:=(A6 (AE 2 (mC (.int 0)))
 (A6 (Bs (B0 (A1 0)) (CO 2 (Ac (AG 3) (Ac (AG 4) CP)))
  (A6 (Ad (AC (mOp gGt (A1 3) (A1 1)))
  (AK (A1 2))
  AV)
 (AE 2 (A1 4))))
 (AK (A1 2))))
noncomputable def HR:FD:=mkF 2 5 iO
noncomputable abbrev GZ:Df:=⟨"steps_at",Jf,["rows","t"],1,HR⟩
noncomputable abbrev LM:Stmt:=top 15
def Q0:FnScope ["cost","t","word","above"] ["cost","t"] (A8 LM):=Az (by kernel_rfl)
@[reducible] def iQ:MS:=(A6 (AE 2 (mOp gIx (A1 0) (mC (.int 0))))
 (A6 (Ad (AC (mOp gEq (A1 2) (mC (.str "steps"))))
  (AK (A9 0 HR (A2 (mOp gIx (A1 0) (mC (.int 1))) (A2 (A1 1) A5))))
  AV)
 (A6 (Ad (AC (mOp gEq (A1 2) (mC (.str "ends"))))
  (AK (mOp Bt (mOp gIx (A1 0) (mC (.int 1))) (A1 1)))
  AV)
 (A6 (AE 3 (mOp Cj (A1 1) (mOp gIx (A1 0) (mC (.int 1)))))
 (A6 (Ad (AC (mOp gEq (A1 2) (mC (.str "late"))))
  (AK (A1 3))
  AV)
 (A6 (Ad (AC (mOp gLe (A1 3) (mC (.int 0))))
  (AK (mC (.int 0)))
  AV)
 (A6 (Ad (AC (mOp gEq (A1 2) (mC (.str "tardy"))))
  (AK (mOp Bt (mOp gIx (A1 0) (mC (.int 2))) (A1 3)))
  AV)
 (AK (mOp gIx (A1 0) (mC (.int 2)))))))))))
noncomputable def F_cost_at:FD:=mkF 2 4 iQ
noncomputable abbrev FM:Df:=⟨"cost_at",LM,["cost","t"],2,F_cost_at⟩
noncomputable abbrev LL:Stmt:=top 17
def Pz:FnScope ["pairs","a","found","fresh","at","one","other"] ["pairs","a"] (A8 LL):=Az (by kernel_rfl)
@[reducible] def gV:MS:=(A6 (AE 2 (AY (Ai A5)))
 (A6 (AE 3 (AY (Ai (A2 (A1 1) A5))))
 (A6 (CL (BZ (A1 3))
  (A6 (AE 4 (mMt HP (A1 3) A5))
 (Bs (Ex (A1 0)) (CO 2 (Ac (AG 5) (Ac (AG 6) CP)))
  (Ad (Cs (AC (mOp gEq (A1 5) (A1 4))) (AC (mOp (gIn true) (A1 6) (A1 2))))
  (A6 (Ay (mMt Ar (A1 2) (A2 (A1 6) A5)))
 (Ay (mMt Ar (A1 3) (A2 (A1 6) A5))))
  AV))))
 (AK (B7 BS (Dr (Br (A1 2))))))))
noncomputable def F_reached:FD:=mkF 2 7 gV
noncomputable abbrev HU:Df:=⟨"reached",LL,["pairs","a"],1,F_reached⟩
noncomputable abbrev N2:Stmt:=top 18
def S9:FnScope ["many","wishes","a"] ["many","wishes","a"] (A8 N2):=Az (by kernel_rfl)
@[reducible] noncomputable def iP:MS:=(AK (A9 0 F_reached (A2 (A1 1) (A2 (A1 2) A5))))
noncomputable def F_behind:FD:=mkF 3 3 iP
noncomputable abbrev JJ:Df:=⟨"behind",N2,["many","wishes","a"],2,F_behind⟩
noncomputable abbrev IT:Stmt:=top 19
def Mx:FnScope ["many","wishes","some","told","u","later"] ["many","wishes","some"] (A8 IT):=Az (by kernel_rfl)
@[reducible] noncomputable def OO:MS:=(A6 (AE 3 (AY (Ai A5)))
 (A6 (Bs (B0 (A1 2)) (AG 4)
  (A6 (AE 5 (A9 0 F_behind (A2 (A1 0) (A2 (A1 1) (A2 (A1 4) A5)))))
 (Ad (FO (BZ (B7 FS (Ag 1 [5] (B0 (A1 2)) (AG 0) Bq (mOp (gIn false) (A1 0) (A1 1))))))
  (Ay (mMt Ar (A1 3) (A2 (A1 4) A5)))
  AV)))
 (AK (mCB (f1 true BS) (A2 (A1 3) A5)))))
noncomputable def D6:FD:=mkF 3 6 OO
noncomputable abbrev E4:Df:=⟨"last_ones",IT,["many","wishes","some"],3,D6⟩
noncomputable abbrev IS:Stmt:=top 21
def Mw:FnScope ["works","some"] ["works","some"] (A8 IS):=Az (by kernel_rfl)
@[reducible] noncomputable def ON:MS:=(AK (B7 JC (Ag 1 [0] (B0 (A1 1)) (AG 0) Bq (mOp gIx (mOp gIx (A1 1) (A1 0)) (mC (.int 0))))))
noncomputable def Bv:FD:=mkF 2 2 ON
noncomputable abbrev D2:Df:=⟨"length_of",IS,["works","some"],1,Bv⟩
noncomputable abbrev Gk:Stmt:=top 22
def KQ:FnScope ["works","coming"] ["works"] (A8 Gk):=Az (by kernel_rfl)
@[reducible] noncomputable def Lv:MS:=(A6 (AE 1 (mOp gIx (mOp gIx (A1 0) (mC (.int 0))) (mC (.int 1))))
 (A6 (Ad (BZ (B7 Kr (Ag 1 [1] (B0 (A1 0)) (AG 0) Bq (mOp gEq (mOp gIx (A1 0) (mC (.int 1))) (A1 1)))))
  (AK (A1 1))
  AV)
 (AK (mC .non))))
noncomputable def BP:FD:=mkF 1 2 Lv
noncomputable abbrev DE:Df:=⟨"same_coming",Gk,["works"],1,BP⟩
noncomputable abbrev En:Stmt:=top 23
def Gi:FnScope ["works","coming"] ["works"] (A8 En):=Az (by kernel_rfl)
@[reducible] noncomputable def NZ:MS:=(A6 (AE 1 (A9 0 BP (A2 (A1 0) A5)))
 (A6 (Ad (AC (DV false (A1 1)))
  Bn
  AV)
 (AK (A1 1))))
noncomputable def C9:FD:=mkF 1 2 NZ
noncomputable abbrev DZ:Df:=⟨"one_coming",En,["works"],2,C9⟩
@[reducible] noncomputable def Lx:MS:=(A6 (EM (AE 1 (A9 0 BP (A2 (A1 0) A5))))
 (A6 (Ad (AC (DV false (A1 1)))
  (EF "NoRule" ["word"] (A2 (mC (.str "coming")) A5))
  (EM AV)) Bn))
noncomputable def Ce:FD:=mkX 1 2 Lx
noncomputable abbrev Ef:Df:=⟨"one_coming",En,["works"],3,Ce⟩
def Go:DjF Ce C9:=K9 (Fw iN (Fw (Ws Lc iN) FA))
noncomputable abbrev CF:Stmt:=top 24
def DM:FnScope ["works","word"] ["works","word"] (A8 CF):=Az (by kernel_rfl)
@[reducible] noncomputable def GN:MS:=(Ad (BZ (B7 FS (Ag 1 [1] (B0 (A1 0)) (AG 0) Bq (mOp gNe (mOp gIx (mOp gIx (A1 0) (mC (.int 2))) (mC (.int 0))) (A1 1)))))
 Bn
 AV)
noncomputable def Aw:FD:=mkF 2 2 GN
noncomputable abbrev BW:Df:=⟨"refuse_other_costs",CF,["works","word"],1,Aw⟩
@[reducible] noncomputable def Fm:MS:=(Ad (BZ (B7 FS (Ag 1 [1] (B0 (A1 0)) (AG 0) Bq (mOp gNe (mOp gIx (mOp gIx (A1 0) (mC (.int 2))) (mC (.int 0))) (A1 1)))))
 (EF "NoRule" ["word"] (A2 (A1 1) A5))
 (EM AV))
noncomputable def BA:FD:=mkX 2 2 Fm
noncomputable abbrev CA:Df:=⟨"refuse_other_costs",CF,["works","word"],3,BA⟩
def DR:DjF BA Aw:=K9 (Ws Lc iN)
noncomputable abbrev Jg:Stmt:=top 26
def OI:FnScope ["works","wishes","some","begins","end"] ["works","wishes","some"] (A8 Jg):=Az (by kernel_rfl)
@[reducible] noncomputable def Qg:MS:=(A6 (AE 3 (A9 0 G4 (A2 (A1 0) (A2 (A1 1) A5))))
 (A6 (AE 4 (mOp AT (B7 F5 (Ag 1 [3] (B0 (A1 2)) (AG 0) Bq (mOp gIx (A1 1) (A1 0)))) (A9 0 Bv (A2 (A1 0) (A2 (A1 2) A5)))))
 (AK (B7 F5 (Ag 1 [0,4] (B0 (A9 0 D6 (A2 (mCB (f1 true BO) (A2 (A1 0) A5)) (A2 (A1 1) (A2 (A1 2) A5))))) (AG 0) Bq (A9 0 F_cost_at (A2 (mOp gIx (mOp gIx (A1 1) (A1 0)) (mC (.int 2))) (A2 (A1 2) A5))))))))
noncomputable def Cp:FD:=mkF 3 5 Qg
noncomputable abbrev Ga:Df:=⟨"bound_of",Jg,["works","wishes","some"],4,Cp⟩
noncomputable abbrev FH:Stmt:=top 28
def Il:FnScope ["works","wishes","some","end"] ["works","wishes","some","end"] (A8 FH):=Az (by kernel_rfl)
@[reducible] noncomputable def Jo:MS:=(AK (Km (λn m=>decide (n<m)) (A9 0 D6 (A2 (mCB (f1 true BO) (A2 (A1 0) A5)) (A2 (A1 1) (A2 (A1 2) A5)))) [3,0] (A9 0 F_cost_at (A2 (mOp gIx (mOp gIx (A1 2) (A1 0)) (mC (.int 2))) (A2 (A1 1) A5)))))
noncomputable def CV:FD:=mkF 4 4 Jo
noncomputable abbrev Bp:Df:=⟨"cheapest_last",FH,["works","wishes","some","end"],6,CV⟩
noncomputable abbrev LK:Stmt:=top 29
def Py:FnScope ["some","u"] ["some","u"] (A8 LK):=Az (by kernel_rfl)
@[reducible] noncomputable def Sw:MS:=(AK (B7 BS (Ag 1 [1] (B0 (A1 0)) (AG 0) (AC (mOp gNe (A1 0) (A1 1))) (A1 0))))
noncomputable def FN:FD:=mkF 2 2 Sw
noncomputable abbrev FL:Df:=⟨"without",LK,["some","u"],1,FN⟩
noncomputable abbrev Eo:Stmt:=top 30
def IM:FnScope ["works","wishes","sets"] ["works","wishes","sets"] (A8 Eo):=Az (by kernel_rfl)
@[reducible] noncomputable def J9:MS:=(AK (Nb (λn m=>decide (n>m)) (A1 2) [0,1] (A9 0 Cp (A2 (A1 1) (A2 (A1 2) (A2 (A1 0) A5))))))
noncomputable def CJ:FD:=mkF 3 3 J9
noncomputable abbrev Ba:Df:=⟨"greatest_bound",Eo,["works","wishes","sets"],7,CJ⟩
noncomputable abbrev Gj:Stmt:=top 31
def KP:FnScope ["works","wishes","dues","turn","a","b"] ["works","wishes"] (A8 Gj):=Az (by kernel_rfl)
@[reducible] noncomputable def Lu:MS:=(A6 (AE 2 (AY (Ag 1 [] (B0 (A1 0)) (AG 0) Bq (mOp gIx (mOp gIx (A1 0) (mC (.int 2))) (mC (.int 1))))))
 (A6 (Bs (B0 (A1 0)) (AG 3)
  (Bs (B0 (A1 1)) (CO 2 (Ac (AG 4) (Ac (AG 5) CP)))
  (DB (A1 2) (A1 4) (mCB GW (A2 (mOp gIx (A1 2) (A1 4)) (A2 (mOp Cj (mOp gIx (A1 2) (A1 5)) (mOp gIx (mOp gIx (A1 0) (A1 5)) (mC (.int 0)))) A5))))))
 (AK (A1 2))))
noncomputable def DF:FD:=mkF 2 6 Lu
noncomputable abbrev DD:Df:=⟨"turned_dues",Gj,["works","wishes"],1,DF⟩
noncomputable abbrev IU:Stmt:=top 32
def My:FnScope ["pieces","work","begin","end"] ["pieces","work","begin","end"] (A8 IU):=Az (by kernel_rfl)
@[reducible] noncomputable def OP:MS:=(Ad (Cs (BZ (A1 0)) (Cs (AC (mOp gEq (mOp gIx (mOp gIx (A1 0) (GQ (mC (.int 1)))) (mC (.int 0))) (A1 1))) (AC (mOp gEq (mOp gIx (mOp gIx (A1 0) (GQ (mC (.int 1)))) (mC (.int 2))) (A1 2)))))
 (DB (A1 0) (GQ (mC (.int 1))) (Ak (A2 (A1 1) (A2 (mOp gIx (mOp gIx (A1 0) (GQ (mC (.int 1)))) (mC (.int 1))) (A2 (A1 3) A5)))))
 (Ay (mMt Ar (A1 0) (A2 (Ak (A2 (A1 1) (A2 (A1 2) (A2 (A1 3) A5)))) A5))))
noncomputable def D7:FD:=mkF 4 4 OP
noncomputable abbrev FV:Df:=⟨"add_piece",IU,["pieces","work","begin","end"],1,D7⟩
noncomputable abbrev Gm:Stmt:=top 33
def KS:FnScope ["works","begins","rank","left","pieces","t","undone","work","stop"] ["works","begins","rank"] (A8 Gm):=Az (by kernel_rfl)
@[reducible] noncomputable def Lw:MS:=(A6 (AE 3 (AY (Ag 1 [] (B0 (A1 0)) (AG 0) Bq (mOp gIx (A1 0) (mC (.int 0))))))
 (A6 (AE 4 (AY (Ai A5)))
 (A6 (AE 5 (mC (.int 0)))
 (A6 (CL (BZ (mCB (f1 false Jx) (A2 (A1 3) A5)))
  (A6 (AE 6 (AY (Ag 1 [3] (Ey (A2 (mCB (f1 true BO) (A2 (A1 0) A5)) A5)) (AG 0) (AC (mOp gGt (mOp gIx (A1 1) (A1 0)) (mC (.int 0)))) (A1 0))))
 (A6 (AE 5 (mCB E3 (A2 (A1 5) (A2 (B7 F5 (Ag 1 [1] (Br (A1 6)) (AG 0) Bq (mOp gIx (A1 1) (A1 0)))) A5))))
 (A6 (AE 7 (Jt (AY (Ag 1 [1,5] (Br (A1 6)) (AG 0) (AC (mOp gLe (mOp gIx (A1 1) (A1 0)) (A1 2))) (A1 0))) [2,3] (Ak (A2 (DW (A1 1) (A2 (A1 0) (A2 (mOp gIx (A1 2) (A1 0)) A5))) (A2 (A1 0) A5)))))
 (A6 (AE 8 (B7 F5 (HF (AY (Ai (A2 (mOp AT (A1 5) (mOp gIx (A1 3) (A1 7))) A5))) (AY (Ag 1 [1,5] (Br (A1 6)) (AG 0) (AC (mOp gGt (mOp gIx (A1 1) (A1 0)) (A1 2))) (mOp gIx (A1 1) (A1 0)))))))
 (A6 (Ay (D0 D7 (A2 (A1 4) (A2 (A1 7) (A2 (A1 5) (A2 (A1 8) A5))))))
 (A6 (GR (A1 3) (A1 7) (mOp Cj (A1 8) (A1 5)) (λi j=>i-j))
 (AE 5 (A1 8)))))))))
 (AK (mCB (f1 true BS) (A2 (A1 4) A5)))))))
noncomputable def DG:FD:=mkF 3 9 Lw
noncomputable abbrev CM:Df:=⟨"ranked_plan",Gm,["works","begins","rank"],4,DG⟩
noncomputable abbrev GH:Stmt:=top 34
def IQ:FnScope ["works","wishes","dues"] ["works","wishes"] (A8 GH):=Az (by kernel_rfl)
@[reducible] noncomputable def Qf:MS:=(A6 (Ay (A9 0 Aw (A2 (A1 0) (A2 (mC (.str "late")) A5))))
 (A6 (AE 2 (A9 0 DF (A2 (A1 0) (A2 (A1 1) A5))))
 (AK (Fo DG 2 (A1 0) (A9 0 G4 (A2 (A1 0) (A2 (A1 1) A5)))))))
noncomputable def Co:FD:=mkF 2 3 Qf
noncomputable abbrev EZ:Df:=⟨"due_plan",GH,["works","wishes"],5,Co⟩
@[reducible] noncomputable def OQ:MS:=(A6 (EO (Ay (A9 0 Aw (A2 (A1 0) (A2 (mC (.str "late")) A5)))) (AK (A9 0 BA (A2 (A1 0) (A2 (mC (.str "late")) A5))))) Bn)
noncomputable def De:FD:=mkX 2 3 OQ
noncomputable abbrev G8:Df:=⟨"due_plan",GH,["works","wishes"],5,De⟩
def OR:DjF De Co:=K9 (Fw (KA (PH (Dt DR))) FA)
noncomputable abbrev DI:Stmt:=top 36
def ER:FnScope ["works","wishes","coming","order","sets","left","u"] ["works","wishes"] (A8 DI):=Az (by kernel_rfl)
@[reducible] noncomputable def J8:MS:=(A6 (AE 2 (A9 0 C9 (A2 (A1 0) A5)))
 (A6 (AE 3 (AY (Ai A5)))
 (A6 (AE 4 (AY (Ai A5)))
 (A6 (AE 5 (Jp (A2 (mCB (f1 true BO) (A2 (A1 0) A5)) A5)))
 (A6 (CL (BZ (A1 5))
  (A6 (AE 6 (A9 0 CV (A2 (A1 0) (A2 (A1 1) (A2 (A1 5) (A2 (mOp AT (A1 2) (A9 0 Bv (A2 (A1 0) (A2 (A1 5) A5)))) A5))))))
 (A6 (Ay (mMt Ed (A1 3) (A2 (mC (.int 0)) (A2 (A1 6) A5))))
 (A6 (Ay (mMt Ar (A1 4) (A2 (A1 5) A5)))
 (AE 5 (A9 0 FN (A2 (A1 5) (A2 (A1 6) A5))))))))
 (AK (Ak (A2 (mCB (f1 true BS) (A2 (A1 3) A5)) (A2 (D0 CJ (A2 (A1 0) (A2 (A1 1) (A2 (A1 4) A5)))) A5)))))))))
noncomputable def B3:FD:=mkF 2 7 J8
noncomputable abbrev DL:Df:=⟨"greatest_order",DI,["works","wishes"],8,B3⟩
@[reducible] noncomputable def IN:MS:=(A6 (EO (AE 2 (A9 0 C9 (A2 (A1 0) A5))) (AK (A9 0 Ce (A2 (A1 0) A5)))) Bn)
noncomputable def Bb:FD:=mkX 2 7 IN
noncomputable abbrev DH:Df:=⟨"greatest_order",DI,["works","wishes"],8,Bb⟩
def IP:DjF Bb B3:=K9 (Fw (KA (Fv (Dt Go))) FA)
noncomputable abbrev SB:Stmt:=top 38
def XT:FnScope ["_law_script"] ["_law_script"] (A8 SB):=Az (by kernel_rfl)
@[reducible] def cX:MS:=(AK (AY (Ai (A2 (AY (HD (Kj (A1 0) BM (CU (mC (.int 63)))))) (A2 (mC (.int 0)) (A2 (mC (.int 0)) A5))))))
noncomputable def KI:FD:=mkF 1 1 cX
noncomputable abbrev Nw:Df:=⟨"_law_feed",SB,["_law_script"],1,KI⟩
noncomputable abbrev SA:Stmt:=top 39
def XS:FnScope ["_law_feed_here","_law_many","_law_digit","_law_at","_law_cell","_law_first"] ["_law_feed_here","_law_many"] (A8 SA):=Az (by kernel_rfl)
@[reducible] def cW:MS:=(A6 (Ad (AC (mOp gGt (mOp gIx (A1 0) (mC (.int 2))) (mC (.int 0))))
 (A6 (AE 2 (mOp CQ (mOp gIx (A1 0) (mC (.int 2))) (A1 1)))
 (A6 (DB (A1 0) (mC (.int 2)) (mOp GU (mOp gIx (A1 0) (mC (.int 2))) (A1 1)))
 (AK (A1 2))))
  AV)
 (A6 (AE 3 (mOp gIx (A1 0) (mC (.int 1))))
 (A6 (DB (A1 0) (mC (.int 1)) (mOp AT (A1 3) (mC (.int 1))))
 (A6 (AE 4 (mIf (AC (Dz true (mOp gIx (A1 0) (mC (.int 0))) (Ai A5))) (mOp gIx (mOp gIx (A1 0) (mC (.int 0))) (mOp CQ (A1 3) (mCB (f1 true BO) (A2 (mOp gIx (A1 0) (mC (.int 0))) A5)))) (mC (.int 0))))
 (A6 (Ad (Cs (AC (mOp gGe (A1 4) (mOp Qo (mC (.int 10)) (mC (.int 18))))) (AC (mOp gLt (A1 3) (mCB (f1 true BO) (A2 (mOp gIx (A1 0) (mC (.int 0))) A5)))))
  (A6 (DB (A1 0) (mC (.int 2)) (mOp GU (A1 4) (A1 1)))
 (AK (mOp CQ (A1 4) (A1 1))))
  AV)
 (A6 (AE 5 (mOp CQ (mOp Bt (mOp AT (mOp AT (mOp AT (mOp CQ (A1 4) (mC (.int 1000003))) (mOp Bt (mOp Bt (mC (.int 37)) (A1 3)) (A1 3))) (mOp Bt (mC (.int 13)) (A1 3))) (mC (.int 5))) (mC (.int 48271))) (mC (.int 999983))))
 (AK (mOp CQ (mOp GU (mOp CQ (mOp Bt (mOp CQ (mOp AT (mOp AT (mOp Bt (A1 5) (A1 5)) (mOp Bt (mC (.int 7919)) (A1 3))) (mC (.int 11))) (mC (.int 2097143))) (mC (.int 69621))) (mC (.int 2147483629))) (mC (.int 7))) (A1 1)))))))))
noncomputable def AZ:FD:=mkF 2 6 cW
noncomputable abbrev Ft:Df:=⟨"_law_next",SA,["_law_feed_here","_law_many"],1,AZ⟩
noncomputable abbrev SD:Stmt:=top 40
def XV:FnScope ["_law_feed_here","_law_words","_law_word","_law_dues","_law_due","_law_weight","_law_rows","_law_start","_law_height","_law_k"] ["_law_feed_here","_law_words"] (A8 SD):=Az (by kernel_rfl)
@[reducible] def cZ:MS:=(A6 (AE 2 (mOp gIx (A1 1) (A9 2 AZ (A2 (A1 0) (A2 (mCB (f1 true BO) (A2 (A1 1) A5)) A5)))))
 (A6 (AE 3 (AY (Ai (A2 (A9 2 AZ (A2 (A1 0) (A2 (mC (.int 40)) A5))) (A2 (A9 2 AZ (A2 (A1 0) (A2 (mC (.int 160)) A5))) (A2 (mOp Cj (A9 2 AZ (A2 (A1 0) (A2 (mC (.int 500)) A5))) (mC (.int 99))) A5))))))
 (A6 (AE 4 (mOp gIx (A1 3) (A9 2 AZ (A2 (A1 0) (A2 (mC (.int 3)) A5)))))
 (A6 (AE 5 (A9 2 AZ (A2 (A1 0) (A2 (mC (.int 10)) A5))))
 (A6 (Ad (AC (mOp gEq (A1 2) (mC (.str "late"))))
  (AK (Ak (A2 (A1 2) (A2 (A1 4) A5))))
  AV)
 (A6 (Ad (AC (mOp gEq (A1 2) (mC (.str "ends"))))
  (AK (Ak (A2 (A1 2) (A2 (A1 5) A5))))
  AV)
 (A6 (Ad (AC (mOp gNe (A1 2) (mC (.str "steps"))))
  (AK (Ak (A2 (A1 2) (A2 (A1 4) (A2 (A1 5) A5)))))
  AV)
 (A6 (AE 6 (AY (Ai A5)))
 (A6 (AE 7 (mOp Cj (A9 2 AZ (A2 (A1 0) (A2 (mC (.int 140)) A5))) (mC (.int 100))))
 (A6 (AE 8 (mC (.int 0)))
 (A6 (Bs (Ey (A2 (mOp AT (mC (.int 1)) (A9 2 AZ (A2 (A1 0) (A2 (mC (.int 5)) A5)))) A5)) (AG 9)
  (A6 (AE 7 (mOp AT (mOp AT (A1 7) (mC (.int 1))) (A9 2 AZ (A2 (A1 0) (A2 (mC (.int 60)) A5)))))
 (A6 (AE 8 (mCB GW (A2 (mC (.int 99)) (A2 (mOp AT (A1 8) (A9 2 AZ (A2 (A1 0) (A2 (mC (.int 30)) A5)))) A5))))
 (Ay (mMt Ar (A1 6) (A2 (Ak (A2 (A1 7) (A2 (A1 8) A5))) A5))))))
 (AK (Ak (A2 (A1 2) (A2 (mCB (f1 true BS) (A2 (A1 6) A5)) A5)))))))))))))))
noncomputable def G6:FD:=mkF 2 10 cZ
noncomputable abbrev K8:Df:=⟨"_law_cost",SD,["_law_feed_here","_law_words"],2,G6⟩
noncomputable abbrev Of:Stmt:=top 41
def US:FnScope ["_law_feed_here","_law_most","_law_words","_law_ways","_law_many","_law_longest","_law_way","_law_first","_law_works_here","_law_k","_law_comings"] ["_law_feed_here","_law_most","_law_words","_law_ways"] (A8 Of):=Az (by kernel_rfl)
@[reducible] noncomputable def Z9:MS:=(A6 (AE 4 (mOp AT (mC (.int 1)) (A9 2 AZ (A2 (A1 0) (A2 (A1 1) A5)))))
 (A6 (AE 5 (FP (Ai (A2 (mC (.int 3)) (A2 (mC (.int 20)) A5))) (A9 2 AZ (A2 (A1 0) (A2 (mC (.int 2)) A5)))))
 (A6 (AE 6 (mOp gIx (A1 3) (A9 2 AZ (A2 (A1 0) (A2 (mCB (f1 true BO) (A2 (A1 3) A5)) A5)))))
 (A6 (AE 7 (A9 2 AZ (A2 (A1 0) (A2 (mC (.int 61)) A5))))
 (A6 (AE 8 (AY (Ai A5)))
 (A6 (Bs (Ey (A2 (A1 4) A5)) (AG 9)
  (Cy (A6 (AE 10 (AY (Ai (A2 (A1 7) (A2 (A9 2 AZ (A2 (A1 0) (A2 (mC (.int 8)) A5))) (A2 (A9 2 AZ (A2 (A1 0) (A2 (mC (.int 25)) A5))) (A2 (A9 2 AZ (A2 (A1 0) (A2 (mC (.int 61)) A5))) A5)))))))
 (Ay (mMt Ar (A1 8) (A2 (Ak (A2 (mOp AT (mC (.int 1)) (A9 2 AZ (A2 (A1 0) (A2 (A1 5) A5)))) (A2 (mOp gIx (A1 10) (A1 6)) (A2 (A9 3 G6 (A2 (A1 0) (A2 (A1 2) A5))) A5)))) A5))))))
 (AK (mCB (f1 true BS) (A2 (A1 8) A5)))))))))
noncomputable def IK:FD:=mkF 4 11 Z9
noncomputable abbrev Kx:Df:=⟨"_law_works",Of,["_law_feed_here","_law_most","_law_words","_law_ways"],3,IK⟩
noncomputable abbrev Mz:Stmt:=top 42
def S5:FnScope ["_law_feed_here","_law_many","_law_left","_law_seq","_law_way","_law_found","_law_k","_law_j"] ["_law_feed_here","_law_many"] (A8 Mz):=Az (by kernel_rfl)
@[reducible] noncomputable def VY:MS:=(A6 (AE 2 (AY (HC (A2 (A1 1) A5))))
 (A6 (AE 3 (AY (Ai A5)))
 (A6 (CL (AC (Dz true (A1 2) (Ai A5)))
  (Ay (mMt Ar (A1 3) (A2 (mMt Fs (A1 2) (A2 (A9 2 AZ (A2 (A1 0) (A2 (mCB (f1 true BO) (A2 (A1 2) A5)) A5))) A5)) A5))))
 (A6 (AE 4 (A9 2 AZ (A2 (A1 0) (A2 (mC (.int 4)) A5))))
 (A6 (AE 5 (AY (Ai A5)))
 (A6 (Bs (Ey (A2 (A1 1) A5)) (AG 6)
  (Bs (Ey (A2 (A1 6) A5)) (AG 7)
  (Ad (mOr (Cs (AC (mOp gEq (A1 4) (mC (.int 3)))) (AC (mOp gEq (A1 7) (mOp Cj (A1 6) (mC (.int 1)))))) (Cs (AC (mOp (gIn false) (A1 4) (Ak (A2 (mC (.int 1)) (A2 (mC (.int 2)) A5))))) (AC (mOp gEq (A9 2 AZ (A2 (A1 0) (A2 (FP (Ai (A2 (mC (.int 1)) (A2 (mC (.int 4)) (A2 (mC (.int 2)) A5)))) (A1 4)) A5))) (mC (.int 0))))))
  (Ay (mMt Ar (A1 5) (A2 (Ak (A2 (mOp gIx (A1 3) (A1 7)) (A2 (mOp gIx (A1 3) (A1 6)) A5))) A5)))
  AV)))
 (AK (B7 BS (Kj (AY (Ew (Br (A1 5)))) BM (CU (mC (.int 16))))))))))))
noncomputable def Gf:FD:=mkF 2 8 VY
noncomputable abbrev JG:Df:=⟨"_law_wishes",Mz,["_law_feed_here","_law_many"],2,Gf⟩
noncomputable abbrev N1:Stmt:=top 43
def S8:FnScope ["_law_thing"] ["_law_thing"] (A8 N1):=Az (by kernel_rfl)
@[reducible] noncomputable def Va:MS:=(AK (I0 (EN .int (A1 0)) (GP (EN .bool (A1 0)))))
noncomputable def Gh:FD:=mkF 1 1 Va
noncomputable abbrev JI:Df:=⟨"_law_is_int",N1,["_law_thing"],1,Gh⟩
noncomputable abbrev SC:Stmt:=top 44
def XU:FnScope ["_law_works_here","_law_wishes_here","_law_plan","_law_left","_law_ends_here","_law_at","_law_piece","_law_k","_law_begin","_law_end"] ["_law_works_here","_law_wishes_here","_law_plan"] (A8 SC):=Az (by kernel_rfl)
@[reducible] def cY:MS:=(A6 (Ad (FO (BZ (EN .tuple (A1 2))))
 (AK (mC .non))
 AV)
 (A6 (AE 3 (AY (Ag 1 [] (B0 (A1 0)) (AG 0) Bq (mOp gIx (A1 0) (mC (.int 0))))))
 (A6 (AE 4 (AY (JA (Ai (A2 (mC (.int 0)) A5)) (mCB (f1 true BO) (A2 (A1 0) A5)))))
 (A6 (AE 5 (mC (.int 0)))
 (A6 (Bs (B0 (A1 2)) (AG 6)
  (A6 (Ad (mOr (FO (BZ (EN .tuple (A1 6)))) (mOr (AC (mOp gNe (mCB (f1 true BO) (A2 (A1 6) A5)) (mC (.int 3)))) (AC (Kk false (mC (.bl false)) (Ag 1 [] (B0 (A1 6)) (AG 0) Bq (A9 0 Gh (A2 (A1 0) A5)))))))
  (AK (mC .non))
  AV)
 (A6 (JB (A1 6) (CO 3 (Ac (AG 7) (Ac (AG 8) (Ac (AG 9) CP)))))
 (A6 (Ad (mOr (FO (AC (Cz gLe gLt (mC (.int 0)) (A1 7) (mCB (f1 true BO) (A2 (A1 0) A5))))) (mOr (AC (mOp gLt (A1 8) (A1 5))) (mOr (AC (mOp gLe (A1 9) (A1 8))) (AC (mOp gLt (A1 8) (mOp gIx (mOp gIx (A1 0) (A1 7)) (mC (.int 1))))))))
  (AK (mC .non))
  AV)
 (A6 (Ad (AC (Hy true (Ag 2 [7,3,4,8] (B0 (A1 1)) (CO 2 (Ac (AG 0) (Ac (AG 1) CP))) (Cs (AC (mOp gEq (A1 1) (A1 2))) (mOr (AC (mOp gGt (mOp gIx (A1 3) (A1 0)) (mC (.int 0)))) (AC (mOp gGt (mOp gIx (A1 4) (A1 0)) (A1 5))))) (A1 0)) (Ai A5)))
  (AK (mC .non))
  AV)
 (A6 (DB (A1 3) (A1 7) (mOp Cj (mOp gIx (A1 3) (A1 7)) (mOp Cj (A1 9) (A1 8))))
 (A6 (DB (A1 4) (A1 7) (A1 9))
 (AE 5 (A1 9)))))))))
 (AK (mIf (AC (Dz false (A1 3) (JA (Ai (A2 (mC (.int 0)) A5)) (mCB (f1 true BO) (A2 (A1 0) A5))))) (A1 4) (mC .non))))))))
noncomputable def G5:FD:=mkF 3 10 cY
noncomputable abbrev K7:Df:=⟨"_law_ends",SC,["_law_works_here","_law_wishes_here","_law_plan"],2,G5⟩
noncomputable abbrev Oh:Stmt:=top 45
def UU:FnScope ["_law_e","_law_word"] ["_law_e","_law_word"] (A8 Oh):=Az (by kernel_rfl)
@[reducible] noncomputable def ZB:MS:=(A6 (Ad (mOr (FO (BZ (DU [("NoRule",true)] (A1 0)))) (mOr (FO (BZ (DU [("NoRule",true)] (A1 0)))) (AC (mOp gNe (mCB F8 (A2 (Kl ["NoRule"] "word" (A1 0)) A5)) (mCB F8 (A2 (A1 1) A5))))))
 (AK (mC (.bl false)))
 AV)
 (AK (GP (DU [("NoRule",false)] (A1 0)))))
noncomputable def G7:FD:=mkF 2 2 ZB
noncomputable abbrev II:Df:=⟨"_law_class",Oh,["_law_e","_law_word"],1,G7⟩
noncomputable abbrev IR:Stmt:=top 46
def Mv:FnScope ["_law_works_here","_law_wishes_here","_law_told","_law_ends_here","_law_e"] ["_law_works_here","_law_wishes_here"] (A8 IR):=Az (by kernel_rfl)
@[reducible] noncomputable def OM:MS:=(A6 (AE 2 (mC (.str "odd")))
 (A6 (DT ["NoRule"] (some 4) (A6 (AE 3 (A9 0 G5 (A2 (A1 0) (A2 (A1 1) (A2 (A9 0 Co (A2 (A1 0) (A2 (A1 1) A5))) A5)))))
 (AE 2 (mIf (AC (DV true (A1 3))) (mC (.str "plan")) (mC (.str "odd")))))
  (A6 (EO (AE 3 (A9 0 G5 (A2 (A1 0) (A2 (A1 1) (A2 (A9 0 Co (A2 (A1 0) (A2 (A1 1) A5))) A5))))) (AK (GO (A1 0) (GO (A1 1) (A9 0 De (A2 (A1 0) (A2 (A1 1) A5))))))) Bn)
  (AE 2 (mIf (BZ (A9 0 G7 (A2 (A1 4) (A2 (mC (.str "late")) A5)))) (mC (.str "late")) (mC (.str "odd")))))
 (AK (A1 2))))
noncomputable def Bu:FD:=mkF 2 5 OM
noncomputable abbrev FU:Df:=⟨"_law_plan_told",IR,["_law_works_here","_law_wishes_here"],6,Bu⟩
noncomputable abbrev Gw:Stmt:=top 47
def Lr:FnScope ["_law_works_here","_law_wishes_here","_law_told","_law_order","_law_plan","_law_t","_law_k","_law_ends_here","_law_e"] ["_law_works_here","_law_wishes_here"] (A8 Gw):=Az (by kernel_rfl)
@[reducible] noncomputable def NY:MS:=(A6 (AE 2 (mC (.str "odd")))
 (A6 (DT ["NoRule"] (some 8) (A6 (AE 3 (mOp gIx (A9 0 B3 (A2 (A1 0) (A2 (A1 1) A5))) (mC (.int 0))))
 (A6 (AE 4 (AY (Ai A5)))
 (A6 (AE 5 (mC (.int 0)))
 (A6 (Bs (B0 (A1 3)) (AG 6)
  (A6 (AE 5 (mCB E3 (A2 (A1 5) (A2 (mOp gIx (mOp gIx (A1 0) (A1 6)) (mC (.int 1))) A5))))
 (A6 (Ay (mMt Ar (A1 4) (A2 (Ak (A2 (A1 6) (A2 (A1 5) (A2 (mOp AT (A1 5) (mOp gIx (mOp gIx (A1 0) (A1 6)) (mC (.int 0)))) A5)))) A5)))
 (AE 5 (mOp AT (A1 5) (mOp gIx (mOp gIx (A1 0) (A1 6)) (mC (.int 0))))))))
 (A6 (AE 7 (A9 0 G5 (A2 (A1 0) (A2 (A1 1) (A2 (mCB (f1 true BS) (A2 (A1 4) A5)) A5)))))
 (AE 2 (mIf (AC (DV true (A1 7))) (mC (.str "order")) (mC (.str "odd")))))))))
  (A6 (EO (AE 3 (mOp gIx (A9 0 B3 (A2 (A1 0) (A2 (A1 1) A5))) (mC (.int 0)))) (AK (A9 0 Bb (A2 (A1 0) (A2 (A1 1) A5))))) Bn)
  (AE 2 (mIf (BZ (A9 0 G7 (A2 (A1 8) (A2 (mC (.str "coming")) A5)))) (mC (.str "coming")) (mC (.str "odd")))))
 (AK (A1 2))))
noncomputable def Be:FD:=mkF 2 9 NY
noncomputable abbrev F9:Df:=⟨"_law_order_told",Gw,["_law_works_here","_law_wishes_here"],9,Be⟩
noncomputable abbrev WV:Stmt:=top 48
def Zy:FnScope ["_law_script","_law_feed_here","_law_good","_law_wishes_here","_law_at","_law_length","_law_coming","_law_cost_here","_law_other","_law_costly","_law_day","_law_unlike","_law_both","_law_dues","_law_works_here","_law_plan","_law_order"] ["_law_script"] (A8 WV):=Az (by kernel_rfl)
@[reducible] def fB:MS:=(A6 (AE 1 (D0 KI (A2 (A1 0) A5)))
 (A6 (Cy (AE 2 (A9 4 IK (A2 (A1 1) (A2 (mC (.int 7)) (A2 (AY (Ai (A2 (mC (.str "late")) A5))) (A2 (AY (Ai (A2 (mC (.int 0)) A5))) A5)))))))
 (A6 (Cy (AE 2 (mOp AT (A1 2) (Ak (A2 (Ak (A2 (mOp AT (mC (.int 1)) (A9 2 AZ (A2 (A1 1) (A2 (mC (.int 20)) A5)))) (A2 (mOp gIx (mOp gIx (A1 2) (mC (.int 0))) (mC (.int 1))) (A2 (A9 3 G6 (A2 (A1 1) (A2 (AY (Ai (A2 (mC (.str "late")) A5))) A5))) A5)))) A5)))))
 (A6 (AE 3 (A9 2 Gf (A2 (A1 1) (A2 (mCB (f1 true BO) (A2 (A1 2) A5)) A5))))
 (A6 (AE 4 (A9 2 AZ (A2 (A1 1) (A2 (mCB (f1 true BO) (A2 (A1 2) A5)) A5))))
 (A6 (JB (mOp gIx (A1 2) (A1 4)) (CO 3 (Ac (AG 5) (Ac (AG 6) (Ac (AG 7) CP)))))
 (A6 (Cy (AE 8 (A9 3 G6 (A2 (A1 1) (A2 (AY (Ai (A2 (FP (Ai (A2 (mC (.str "tardy")) (A2 (mC (.str "miss")) (A2 (mC (.str "ends")) (A2 (mC (.str "steps")) A5))))) (A9 2 AZ (A2 (A1 1) (A2 (mC (.int 4)) A5)))) A5))) A5)))))
 (A6 (AE 9 (mOp AT (mOp IG (Ds (A1 2) BM (CU (A1 4))) (Ak (A2 (Ak (A2 (A1 5) (A2 (A1 6) (A2 (A1 8) A5)))) A5))) (Ds (A1 2) (CU (mOp AT (A1 4) (mC (.int 1)))) BM)))
 (A6 (AE 10 (mOp CQ (mOp AT (mOp AT (A1 6) (mC (.int 1))) (A9 2 AZ (A2 (A1 1) (A2 (mC (.int 9)) A5)))) (mC (.int 61))))
 (A6 (AE 11 (mOp AT (mOp IG (Ds (A1 2) BM (CU (A1 4))) (Ak (A2 (Ak (A2 (A1 5) (A2 (A1 10) (A2 (A1 7) A5)))) A5))) (Ds (A1 2) (CU (mOp AT (A1 4) (mC (.int 1)))) BM)))
 (A6 (AE 12 (mOp AT (mOp IG (Ds (A1 2) BM (CU (A1 4))) (Ak (A2 (Ak (A2 (A1 5) (A2 (mOp CQ (mOp AT (A1 6) (mC (.int 1))) (mC (.int 61))) (A2 (A1 8) A5)))) A5))) (Ds (A1 2) (CU (mOp AT (A1 4) (mC (.int 1)))) BM)))
 (A6 (AE 13 (AY (Ai (A2 (Ak (A2 (A1 9) (A2 (mC (.str "late")) (A2 (mC (.str "order")) A5)))) (A2 (Ak (A2 (A1 11) (A2 (mC (.str "plan")) (A2 (mC (.str "coming")) A5)))) (A2 (Ak (A2 (A1 2) (A2 (mC (.str "plan")) (A2 (mC (.str "order")) A5)))) (A2 (Ak (A2 (A1 12) (A2 (mC (.str "late")) (A2 (mC (.str "coming")) A5)))) A5)))))))
 (A6 (AE 13 (AY (HF (A1 13) (AY (Ai (A2 (Ak (A2 (A1 9) (A2 (mC (.str "late")) (A2 (mC (.str "order")) A5)))) (A2 (Ak (A2 (A1 2) (A2 (mC (.str "plan")) (A2 (mC (.str "order")) A5)))) (A2 (Ak (A2 (A1 11) (A2 (mC (.str "plan")) (A2 (mC (.str "coming")) A5)))) A5))))))))
 (A6 (Bs (Br (A1 13)) (CO 3 (Ac (AG 14) (Ac (AG 15) (Ac (AG 16) CP))))
  (Ad (mOr (AC (mOp gNe (A9 0 Bu (A2 (A1 14) (A2 (A1 3) A5))) (A1 15))) (AC (mOp gNe (A9 0 Be (A2 (A1 14) (A2 (A1 3) A5))) (A1 16))))
  (AK (mC (.bl false)))
  AV))
 (AK (mC (.bl true)))))))))))))))))
def iR:FD:=mkF 1 17 fB
noncomputable abbrev Qx:Df:=⟨"law",WV,["_law_script"],10,iR⟩
set_option maxHeartbeats 0 in
def oks{E:EnK}(B:BltA E.mg)(c0:Cl E "NoRule" ["word"])(c1:Fx E ["NoRule"] "word")(c2:Hx E "BenchError" ["NoRule"])(c3:Itx E ["NoBack","NoPaper","NoRow","NoText","NoWish","NoWork","TooMany"] [("NoRule",false)])(c4:Iv E [("NoRule",true)])(c5:Ix E "NoRule" [("NoRule",true)]):(Dn E JH->Kn E JH)/\
 (Dn E Fu->Kn E JH->Kn E Fu)/\
 (Dn E GZ->Kn E GZ)/\
 (Dn E FM->Kn E GZ->Kn E FM)/\
 (Dn E HU->Kn E HU)/\
 (Dn E JJ->Kn E HU->Kn E JJ)/\
 (Dn E E4->Kn E JJ->Kn E E4)/\
 (Dn E D2->Kn E D2)/\
 (Dn E DE->Kn E DE)/\
 (Dn E Ef->Kn E DE->KnX E Ef)/\
 (Dn E DZ->Kn E DE->Kn E DZ)/\
 (Dn E CA->KnX E CA)/\
 (Dn E BW->Kn E BW)/\
 (Dn E Ga->Kn E Fu->Kn E FM->Kn E E4->Kn E D2->Kn E Ga)/\
 (Dl E Bp ⟨113,56,113,91⟩->Kn E FM->Kn E E4->Kn E Bp)/\
 (Dn E FL->Kn E FL)/\
 (Dl E Ba ⟨117,25,117,67⟩->Kn E Ga->Kn E Ba)/\
 (Dn E DD->Kn E DD)/\
 (Dn E FV->Kn E FV)/\
 (Dl E CM ⟨136,62,136,93⟩->Kn E FV->Kn E CM)/\
 (Dn E G8->Kn E Fu->Kn E BW->Kn E DD->Kn E CM->KnX E CA->KnX E G8)/\
 (Dl E EZ ⟨145,52,145,81⟩->Kn E Fu->Kn E BW->Kn E DD->Kn E CM->Kn E EZ)/\
 (Dn E DH->Kn E D2->Kn E DZ->Kn E Bp->Kn E FL->Kn E Ba->KnX E Ef->KnX E DH)/\
 (Dn E DL->Kn E D2->Kn E DZ->Kn E Bp->Kn E FL->Kn E Ba->Kn E DL)/\
 (Dn E Nw->Kn E Nw)/\
 (Dn E Ft->Kn E Ft)/\
 (Dn E K8->Kn E Ft->Kn E K8)/\
 (Dn E Kx->Kn E Ft->Kn E K8->Kn E Kx)/\
 (Dn E JG->Kn E Ft->Kn E JG)/\
 (Dn E JI->Kn E JI)/\
 (Dn E K7->Kn E JI->Kn E K7)/\
 (Dn E II->KnH E II)/\
 (Dn E FU->Kn E EZ->Kn E K7->KnH E II->KnX E G8->Kn E FU)/\
 (Dn E F9->Kn E DL->Kn E K7->KnH E II->KnX E DH->Kn E F9)/\
 (Dn E Qx->Kn E Nw->Kn E Ft->Kn E K8->Kn E Kx->Kn E JG->Kn E FU->Kn E F9->Kn E Qx):=by
 refine⟨λD=>okK D S6 rfl rfl λ_ _ _ _ _ _ _ hr=>?_,
  λD _=>okK D UT rfl rfl λ_ _ _ _ _ _ _ hr=>?_,
  λD=>okK D OH rfl rfl λ_ _ _ _ _ _ _ hr=>?_,
  λD _=>okK D Q0 rfl rfl λ_ _ _ _ _ _ _ hr=>?_,
  λD=>okK D Pz rfl rfl λ_ _ _ _ _ _ _ hr=>?_,
  λD _=>okK D S9 rfl rfl λ_ _ _ _ _ _ _ hr=>?_,
  λD _=>okK D Mx rfl rfl λ_ _ _ _ _ _ _ hr=>?_,
  λD=>okK D Mw rfl rfl λ_ _ _ _ _ _ _ hr=>?_,
  λD=>okK D KQ rfl rfl λ_ _ _ _ _ _ _ hr=>?_,
  λD _=>Qb D Gi rfl rfl λ_ _ _ _ _ _ _ hr=>?_,
  λD _=>okK D Gi rfl rfl λ_ _ _ _ _ _ _ hr=>?_,
  λD=>Qb D DM rfl rfl λ_ _ _ _ _ _ _ hr=>?_,
  λD=>okK D DM rfl rfl λ_ _ _ _ _ _ _ hr=>?_,
  λD _ _ _ _=>okK D OI rfl rfl λ_ _ _ _ _ _ _ hr=>?_,
  λD _ _=>okL D Il rfl rfl λ_ _ _ _ LC _ _ _ _ _ _ hcd hr=>?_,
  λD=>okK D Py rfl rfl λ_ _ _ _ _ _ _ hr=>?_,
  λD _=>okL D IM rfl rfl λ_ _ _ _ LC _ _ _ _ _ _ hcd hr=>?_,
  λD=>okK D KP rfl rfl λ_ _ _ _ _ _ _ hr=>?_,
  λD=>okK D My rfl rfl λ_ _ _ _ _ _ _ hr=>?_,
  λD _=>okL D KS rfl rfl λ_ _ _ _ LC _ _ _ _ _ _ hcd hr=>?_,
  λD _ _ _ _ _=>Qb D IQ rfl rfl λ_ _ _ _ _ _ _ hr=>?_,
  λD _ _ _ _=>okL D IQ rfl rfl λ_ _ _ _ LC _ _ _ _ _ _ hcd hr=>?_,
  λD _ _ _ _ _ _=>Qb D ER rfl rfl λ_ _ _ _ _ _ _ hr=>?_,
  λD _ _ _ _ _=>okK D ER rfl rfl λ_ _ _ _ _ _ _ hr=>?_,
  λD=>okK D XT rfl rfl λ_ _ _ _ _ _ _ hr=>?_,
  λD=>okK D XS rfl rfl λ_ _ _ _ _ _ _ hr=>?_,
  λD _=>okK D XV rfl rfl λ_ _ _ _ _ _ _ hr=>?_,
  λD _ _=>okK D US rfl rfl λ_ _ _ _ _ _ _ hr=>?_,
  λD _=>okK D S5 rfl rfl λ_ _ _ _ _ _ _ hr=>?_,
  λD=>okK D S8 rfl rfl λ_ _ _ _ _ _ _ hr=>?_,
  λD _=>okK D XU rfl rfl λ_ _ _ _ _ _ _ hr=>?_,
  λD=>okH D UU rfl rfl λ_ _ _ _ _ _ _ hr=>?_,
  λD _ _ _ _=>okK D Mv rfl rfl λ_ _ _ _ _ _ _ hr=>?_,
  λD _ _ _ _=>okK D Lr rfl rfl λ_ _ _ _ _ _ _ hr=>?_,
  λD _ _ _ _ _ _ _=>okK D Zy rfl rfl λ_ _ _ _ _ _ _ hr=>?_⟩
 all_goals (refine' ⟨_,_⟩;rotate_left;repeat' (first
  |((with_reducible show QE _ _ _ _ _);first|exact qv _ _|(first|exact bW _|exact bK _|exact eN _|exact bO _)|((with_reducible show QE _ _ _ _ (mOp _ _ _));first|((with_reducible show QE _ _ _ _ (mOp gIx _ _));refine' eJ _ _ _)|((with_reducible show QE _ _ _ _ (mOp EW _ _));refine' YT _ (Ql hr) _ _)|((with_reducible show QE _ _ _ _ (mOp AT _ _));refine' GL _ ((Sn).or (NU _)) (Dk SX Om) _ _)|((with_reducible show QE _ _ _ _ (mOp Cj _ _));refine' GL _ cI ae _ _)|((with_reducible show QE _ _ _ _ (mOp Bt _ _));refine' GL _ cM ag _ _)|((with_reducible show QE _ _ _ _ (mOp CQ _ _));refine' GL _ cN ah _ _)|((with_reducible show QE _ _ _ _ (mOp GU _ _));refine' GL _ Yw Xy _ _)|((with_reducible show QE _ _ _ _ (mOp Qo _ _));refine' GL _ cK af _ _)|((with_reducible show QE _ _ _ _ (mOp IG _ _));refine' GL _ (((Sn).or (NU _)).or (Yy _)) (Dk (Dk SX Om) Xz) _ _)|((with_reducible show QE _ _ _ _ (mOp gEq _ _));refine' NJ _ ((Wp).or (Kh _ hr.units)) (Dk SV SW) _ _)|((with_reducible show QE _ _ _ _ (mOp gNe _ _));refine' NJ _ ((Wn).or (Kg _ hr.units)) (Dk SS SU) _ _)|((with_reducible show QE _ _ _ _ (mOp (gIn false) _ _));refine' NJ _ (NT _) QB _ _))|refine' bJ _ _|((with_reducible show QE _ _ _ _ (AY _));refine' bP _ _)|refine' bQ _ _|((with_reducible show QE _ _ _ _ (A9 _ _ _));first|refine' qcW _ (by assumption) hr _|refine' qcH _ (by assumption) hr _|refine' qcW _ (by assumption) (hr.in1.deeper _) _)|((with_reducible show QE _ _ _ _ (D0 _ _));refine' qcG (by assumption) hr _)|((with_reducible show QE _ _ _ _ (Nb _ _ _ _));refine' qbA wMx LC hcd hr B.max _ (λ_ _ _ _=>_))|((with_reducible show QE _ _ _ _ (Km _ _ _ _));refine' qbA wMt LC hcd hr B.min _ (λ_ _ _ _=>_))|((with_reducible show QE _ _ _ _ (Fo _ _ _ _));refine' qcL LC hcd (by assumption) hr _ _ _)|((with_reducible show QE _ _ _ _ (DW _ _));refine' VA _ (hr.in1.deeper _) _ _)|((with_reducible show QE _ _ _ _ (Jt _ _ _));refine' qbA wMp LC hcd hr B.min _ (λ_ _ _ _=>_))|((with_reducible show QE _ _ _ _ (B7 _ _));first|((with_reducible show QE _ _ _ _ (B7 Kr _));refine' M8 _ (Lj _ rfl) SN B.all L2.bt_all _)|((with_reducible show QE _ _ _ _ (B7 FS _));refine' M8 _ (Li _ rfl) SM B.any L2.bt_any _)|((with_reducible show QE _ _ _ _ (B7 JC _));refine' M8 _ ((Lf _ rfl).or (KG _ rfl)) SK B.sum L2.bt_sum _)|((with_reducible show QE _ _ _ _ (B7 F5 _));refine' M8 _ (Lh _ rfl) SL B.min L2.bt_min _)|((with_reducible show QE _ _ _ _ (B7 BS _));refine' eK _ (IZ _) NA B.tuple L2.bt_tuple _))|((with_reducible show QE _ _ _ _ (mCB _ _));first|((with_reducible show QE _ _ _ _ (mCB (f1 _ Kr) _));refine' ET _ (Lj _ rfl) (Iq SN) B.all L2.bt_all _)|((with_reducible show QE _ _ _ _ (mCB (f1 _ FS) _));refine' ET _ (Li _ rfl) (Iq SM) B.any L2.bt_any _)|((with_reducible show QE _ _ _ _ (mCB (f1 _ JC) _));refine' ET _ ((Lf _ rfl).or (KG _ rfl)) (Iq SK) B.sum L2.bt_sum _)|((with_reducible show QE _ _ _ _ (mCB (f1 _ BO) _));refine' ET _ (Tl _) (Iq aO) B.len L2.bt_len _)|((with_reducible show QE _ _ _ _ (mCB (f1 _ F5) _));refine' ET _ (Lh _ rfl) (Iq SL) B.min L2.bt_min _)|((with_reducible show QE _ _ _ _ (mCB (f1 _ Jx) _));refine' ET _ (RW _ rfl) (Iq Xh) B.any L2.bt_any _)|((with_reducible show QE _ _ _ _ (mCB E3 _));refine' ET _ (Tk rfl) Xj B.max L2.bt_max _)|((with_reducible show QE _ _ _ _ (mCB GW _));refine' ET _ (Tj rfl) Xi B.min L2.bt_min _)|((with_reducible show QE _ _ _ _ (mCB F8 _));refine' ET _ (RQ _ hr.gd hr.units) Uf B.repr L2.bt_repr _)|((with_reducible show QE _ _ _ _ (mCB (f1 _ BS) _));refine' eL _ (IZ _) (Iq NA) B.tuple L2.bt_tuple _))|refine' YQ _ B.tuple B.range _|((with_reducible show QE _ _ _ _ (FP _ _));refine' bS _ _ _)|((with_reducible show QE _ _ _ _ (Ds _ _ _));refine' bL _ _ _ _)|((with_reducible show QE _ _ _ _ (Cz _ _ _ _ _));first|((with_reducible show QE _ _ _ _ (Cz gLe gLt _ _ _));refine' qe_chain QZ Q9 QY Q8 _ _ _))|refine' V7 _ _ _ _|((with_reducible show QE _ _ _ _ (mMt _ _ _));first|((with_reducible show QE _ _ _ _ (mMt Ar _ _));refine' QM _ PySem.F.slot_list_append PySem.F.type_list_append LP SI _ _)|((with_reducible show QE _ _ _ _ (mMt HP _ _));refine' bR _ PySem.F.slot_list_pop PySem.F.type_list_pop cV aJ _)|((with_reducible show QE _ _ _ _ (mMt Fs _ _));refine' QM _ PySem.F.slot_list_pop PySem.F.type_list_pop VW Ua _ _)|((with_reducible show QE _ _ _ _ (mMt Ed _ _));refine' QM _ PySem.F.slot_list_insert PySem.F.type_list_insert Sv SH _ _))|refine' qdA _ (λ_ _ _=>_) (λ_ _ _=>_) (λ_ _ _=>_) (λ_ _ _=>_)|((with_reducible show QE _ _ _ _ (EN _ _));first|((with_reducible show QE _ _ _ _ (EN .int _));refine' NI _ .int B.isinstance B.int _)|((with_reducible show QE _ _ _ _ (EN .bool _));refine' NI _ .bool B.isinstance B.bool _)|((with_reducible show QE _ _ _ _ (EN .tuple _));refine' NI _ .tuple B.isinstance B.tuple _))|((with_reducible show QE _ _ _ _ (I0 _ _));refine' bY _ _ _)|((with_reducible show QE _ _ _ _ (GP _));refine' bN _ _)|refine' bM _ _|((with_reducible show QE _ _ _ _ (DU _ _));first|refine' YR (by assumption) B.isinstance _|refine' bV (by assumption) B.isinstance _|refine' V6 (by assumption) B.isinstance _)|((with_reducible show QE _ _ _ _ (Kl _ _ _));refine' bX (by assumption) _))
  |refine' YU _ _ _|exact bZ _
  |((with_reducible show QT _ _ _ _ _);first|((with_reducible show QT _ _ _ _ (AC (mOp _ _ _)));first|((with_reducible show QT _ _ _ _ (AC (mOp gLt _ _)));refine' EC _ QY Q8 _ _)|((with_reducible show QT _ _ _ _ (AC (mOp gLe _ _)));refine' EC _ QZ Q9 _ _)|((with_reducible show QT _ _ _ _ (AC (mOp gGt _ _)));refine' EC _ ee eD _ _)|((with_reducible show QT _ _ _ _ (AC (mOp gGe _ _)));refine' EC _ eg eE _ _)|((with_reducible show QT _ _ _ _ (AC (mOp gEq _ _)));refine' EC _ ((Wp).or (Kh _ hr.units)) (Dk SV SW) _ _)|((with_reducible show QT _ _ _ _ (AC (mOp gNe _ _)));refine' EC _ ((Wn).or (Kg _ hr.units)) (Dk SS SU) _ _)|((with_reducible show QT _ _ _ _ (AC (mOp (gIn false) _ _)));refine' EC _ (NT _) QB _ _)|((with_reducible show QT _ _ _ _ (AC (mOp (gIn true) _ _)));refine' EC _ (Sk _) QB _ _)|((with_reducible show QT _ _ _ _ (AC (mOp (HK false) _ _)));refine' au _ (Ql hr) _ _))|refine' aq _ _|((with_reducible show QT _ _ _ _ (BZ _));refine' Uw _ _)|((with_reducible show QT _ _ _ _ (Cs _ _));refine' QW.toT _)|((with_reducible show QT _ _ _ _ (mOr _ _));refine' QW.toT _)|((with_reducible show QT _ _ _ _ (AC (DV _ _)));first|refine' ar _ _|refine' Y5 _ _)|((with_reducible show QT _ _ _ _ (AC (Dz _ _ _)));first|refine' Os _ (cO _ hr.units) _ _|refine' Os _ (Sl _ hr.units) _ _)|((with_reducible show QT _ _ _ _ (AC (Hy _ _ _)));refine' Y7 _ (Sl _ hr.units) _ _)|((with_reducible show QT _ _ _ _ (AC (Kk _ _ _)));refine' Y6 _ (NT _) _ _)|((with_reducible show QT _ _ _ _ (AC (Cz _ _ _ _ _)));first|((with_reducible show QT _ _ _ _ (AC (Cz gLe gLt _ _ _)));refine' Ux QZ Q9 QY Q8 _ _ _)))
  |refine' Y4 _ _|refine' ao _ _|refine' ap _ _ _|refine' eG _ _ _
  |((with_reducible show QN _ _ _ _ _);first|refine' bB _ _|((with_reducible show QN _ _ _ _ (Ag _ _ _ _ _ _));refine' qnA _ (λ_ _ _=>_) (λ_ _ _=>_) (λ_ _ _=>_))|((with_reducible show QN _ _ _ _ (JA _ _));refine' bA _ _ _)|((with_reducible show QN _ _ _ _ (HF _ _));refine' bC _ _ _)|((with_reducible show QN _ _ _ _ (Kj _ _ _));refine' az _ _ _ _)|((with_reducible show QN _ _ _ _ (Ew _));refine' QK _ B.sorted _)|((with_reducible show QN _ _ _ _ (Dr _));refine' QL _ B.sorted _)|((with_reducible show QN _ _ _ _ (HC _));refine' V2 _ B.list B.range _)|((with_reducible show QN _ _ _ _ (HD _));refine' V3 _ B.list _))
  |((with_reducible show QI _ _ _ _ _ _);first|((with_reducible show QI _ _ _ _ _ (Ey _));refine' YL _ B.range _)|((with_reducible show QI _ _ _ _ _ (B0 _));refine' bD _ _)|((with_reducible show QI _ _ _ _ _ (Br _));refine' YM _ _)|((with_reducible show QI _ _ _ _ _ (Ex _));refine' bE _ _))
  |((with_reducible show QR _ _ _ _ _ _);first|((with_reducible show QR _ _ _ _ _ (Br _));refine' YH _ _))
  |exact qgA
  |refine' bF _ rfl _
  |exact YN _|refine' V5 _ _ _
  |exact bH _|refine' bG _ _
  |exact YJ _|refine' YI _ _
  |((with_reducible show QSs _ _ _ _ _);first|((with_reducible show QSs _ _ _ _ (A6 _ _));refine' Uy _ _ _)|((with_reducible show QSs _ _ _ _ (Cy _));refine' Sc _ _)|(first|exact Y9 _|refine' Y8 _ _))
  |((with_reducible show QS _ _ _ _ _);first|((with_reducible show QS _ _ _ _ (AE _ (AY (Ag _ _ _ _ _ _))));first|refine' fk _ (λ_ _ _=>_) (λ_ _ _=>_) (λ_ _ _=>_)|refine' qsA _)|((with_reducible show QS _ _ _ _ (AE _ _));refine' qsA _)|((with_reducible show QS _ _ _ _ (Cy _));refine' V0 _)|refine' eI _ _ _ _|refine' aw _ _|refine' ax _ rfl _ _ _|refine' YF _ _|((with_reducible show QS _ _ _ _ (Hz _ _ _));refine' YG _ (Ql hr) _ _ _)|((with_reducible show QS _ _ _ _ (DB _ _ _));refine' YD _ _ _ _)|refine' ay _ _ _|refine' Uz _ _ _|exact YC _|((with_reducible show QS _ _ _ _ Bn);exact V1 _)|((with_reducible show QS _ _ _ _ (GR _ _ _ _));refine' YE _ _ _ _ cz)|((with_reducible show QS _ _ _ _ (DT _ (some _) _ _ _));refine' YA (by assumption) _ _ (λ_=>_) (Fi (by kernel_rfl)) rfl)|((with_reducible show QS _ _ _ _ (DT _ none _ _ _));refine' qs_tryB (by assumption) _ _ (λ_=>_)))
  |((with_reducible show YXs _ _ _ _ _);first|((with_reducible show YXs _ _ _ _ (A6 _ Bn));refine' MK _ LD)|((with_reducible show YXs _ _ _ _ (A6 _ _));refine' MK _ _)|(first|exact Ww|refine' Wv _|exact LD))
  |((with_reducible show YX _ _ _ _ _);first|((with_reducible show YX _ _ _ _ (EM _));refine' X2 _)|refine' de _ _ _|((with_reducible show YX _ _ _ _ (EF _ _ _));first|refine' Tz (by assumption) hr _)|((with_reducible show YX _ _ _ _ (EO _ _));first|refine' Rg _ (X4 _)|refine' Rg _ (Zh _)))
  |((with_reducible show YXE _ _ _ _ _);first|refine' Tw _ (by assumption) hr _|refine' Wx _|refine' Wz (by assumption) _)
  | ((with_reducible show YXA _ _ _ _ _);first|((with_reducible show YXA _ _ _ _ (GO _ _));refine' Rf _ _)|refine' Tx _)))
open Bd
def aD{n:Nat}(h:n<=8):GI (n:Int):=Ff 50 50
def Ig{neg:Bool}{QE:D->Hd->Prop}(h:WE ma ls hd λd x=>∃ns:List Int,pyD x d=some (.list (ns.map PyData.int))/\QE (.im (.bl (if neg then !decide (ns=[])else decide (ns=[])))) x):WE (Dz neg ma (Ai A5)) ls hd QE:=by
 obtain⟨d,x,e,ns,e2,q⟩:=h;refine⟨_,x,?_,q⟩;unfold Dz;rw[e];simp[e2,I.pys,PQ]
def U1{QE:D->Hd->Prop}(q:QE (.im (.int 1000000000000000000)) hd):WP (Qo (.im (.int 10)) (.im (.int 18)) hd) QE:=⟨_,_,by simp[po1],q⟩
local macro_rules | `(tactic| nofun) => do `(tactic| repeat (first | (with_reducible refine A7 ?_; try dsimp only [set_cons_zero, set_cons_succ, iq, jf, cons_append, nil_append, List.replicate, Nat.reduceSub, Int.reduceToNat]) | (with_reducible first $[| $(← #["CD","AA","AH","Ae","Cf","BF","BQ","Dg","E8"].mapM fun i=>`(Lean.Parser.Tactic.tacticSeq|refine $(Lean.mkIdent i.toName) ?_))]* | refine A3 (d := _) rfl ?_ $[| $(← #["AN","AD","Bz","BE","C1","JV","BU","GC","Dh","AU","E7","FZ","D8","BY","AB","A4","C3","Aq","Pe","By","U5","Ie","Bx","Eg","He","Hf","GB","Pd","EA","Gp","MQ","E9","Fa","Hc"].mapM fun i=>`(Lean.Parser.Tactic.tacticSeq|refine $(Lean.mkIdent i.toName) ?_))]* | refine ⟨_, rfl, ?_⟩) | refine AI rfl (Dc _ _) ?_ | refine AI rfl (Dv _ _ _) ?_ | refine AI rfl (FX _ _ _ _) ?_ | refine ⟨_, _, _, _, rfl, rfl, rfl, rfl, ?_⟩ | refine ⟨⟨_, rfl⟩, ?_⟩ | refine ⟨HM, ?_⟩ | refine ⟨DY, ?_⟩ | refine ⟨Nl, ?_⟩ | refine ⟨Nk, ?_⟩ | refine ⟨HN, ?_⟩ | refine ⟨F7, ?_⟩ | (with_reducible first | refine Ig ?_)))
def T(k:Nat)(a b:MO):Prop:=∃(cs:List Int) (nx lf:Int),0<=nx/\nx+k<=1000000000/\a=.lst (cs.map λi=>.im (.int i))/\b=.lst [.mu 0,.im (.int nx),.im (.int lf)]
def cU(k:Nat)(cs:List Int)(nx lf many:Int)(n0:0<=nx)(n1:nx+(k+1)<=1000000000)(h0:0<many)(h1:many<1073741824):WF AZ [.mu 1,.im (.int many)] [.lst (cs.map λi=>.im (.int i)),.lst [.mu 0,.im (.int nx),.im (.int lf)]] λd x=>∃r a' b',0<=r/\r<many/\d=.im (.int r)/\x=[a',b']/\T k a' b':=by
 have hm:EU many:=h0;have hv:MH many:=⟨h0,h1⟩
 unfold AZ;refine Am rfl ?_
 nofun
 refine⟨λhc=>?_,λhc=>?_⟩
 .nofun
  refine Cw hm ?_
  nofun
  refine KJ hv ?_
  nofun
  exact⟨_,_,_,(FJ many h0).1,(FJ many h0).2,rfl,rfl,cs,nx,lf/many,n0,by omega,rfl,rfl⟩
 .nofun
  refine WP.mono (Q:=λd x=>x=[.lst (cs.map λi=>.im (.int i)),.lst [.mu 0,.im (.int (nx+1)),.im (.int lf)]]/\∃cell,d=.im (.int cell)) (Fb ?_) ?_
  .nofun
   refine⟨cs,by simp[pyD,Dd,Dm],_,rfl,λhb=>?_,λhb=>?_⟩
   .nofun
    refine Bw rfl rfl ?_;have hc:cs≠[]:=by simpa using hb
    have hl:=Kp hc;obtain⟨c,e⟩:=fR hc nx;refine Cw (show EU _ by unfold EU;simp;omega) ?_;refine AI rfl (by simpa using e) ?_;exact⟨rfl,c,rfl⟩
   .nofun
    exact⟨rfl,_,rfl⟩
  .rintro d x ⟨rfl,cell,rfl⟩;have fin:∀ls,ls=[some (.mu 1),some (.im (.int many)),none,some (.im (.int nx)),some (.im (.int cell)),none]->WS (A6 (AE 5 (mOp CQ (mOp Bt (mOp AT (mOp AT (mOp AT (mOp CQ (A1 4) (mC (.int 1000003))) (mOp Bt (mOp Bt (mC (.int 37)) (A1 3)) (A1 3))) (mOp Bt (mC (.int 13)) (A1 3))) (mC (.int 5))) (mC (.int 48271))) (mC (.int 999983))))
    (AK (mOp CQ (mOp GU (mOp CQ (mOp Bt (mOp CQ (mOp AT (mOp AT (mOp Bt (A1 5) (A1 5)) (mOp Bt (mC (.int 7919)) (A1 3))) (mC (.int 11))) (mC (.int 2097143))) (mC (.int 69621))) (mC (.int 2147483629))) (mC (.int 7))) (A1 1)))) ls [.lst (cs.map λi=>.im (.int i)),.lst [.mu 0,.im (.int (nx+1)),.im (.int lf)]]
    (λf x=>match f with
     |.rt d=>∃r a' b',0<=r/\r<many/\d=.im (.int r)/\x=[a',b']/\T k a' b'
     |.nx _=>∃r a' b',0<=r/\r<many/\D.im .non=.im (.int r)/\x=[a',b']/\T k a' b'
     | _=>False):=by
    rintro ls rfl
    nofun
    refine Cw (by unfold EU;decide) ?_
    nofun
    refine Eh (Fj 107 107) ?_
    nofun
    refine Eh (Hr 50 50) ?_
    nofun
    refine Eh (Fj 107 107) ?_
    nofun
    refine Eh (Hr 107 107) ?_
    nofun
    refine Cw (by unfold EU;decide) ?_
    nofun
    generalize hx:(((cell%1000003+37*nx*nx+13*nx+5)*48271)%999983:Int)=x;have b1:=FJ (x:=(cell%1000003+37*nx*nx+13*nx+5)*48271) 999983 107;rw[hx]at b1;refine Eh (Hr 50 50) ?_
    nofun
    refine Eh (Fj 107 107) ?_
    nofun
    refine Cw (by unfold EU;decide) ?_
    nofun
    refine Eh (Hr 107 107) ?_
    nofun
    refine Cw (by unfold EU;decide) ?_
    nofun
    refine KJ (by unfold MH;decide) ?_
    nofun
    refine Cw hm ?_;exact⟨_,_,_,(FJ many h0).1,(FJ many h0).2,rfl,rfl,cs,nx+1,lf,by omega,by omega,rfl,rfl⟩
   nofun
   refine U1 ?_
   nofun
   split
   .nofun
    refine Bw rfl rfl ?_
    nofun
    refine⟨λhb=>?_,λhb=>?_⟩
    .nofun
     refine KJ hv ?_
     nofun
     refine Cw hm ?_;exact⟨_,_,_,(FJ many h0).1,(FJ many h0).2,rfl,rfl,cs,nx+1,cell/many,by omega,by omega,rfl,rfl⟩
    .refine BF (A7 ?_);exact fin _ rfl
   .refine⟨λhb=>by simp at hb,λhb=>BF (A7 (fin _ rfl))⟩
def tap:Tap T AZ where
 cl:=by
  rintro k a b ⟨cs,nx,lf,_,_,rfl,rfl⟩;simp[clO,EJ]
 le:=by
  rintro j k a b ⟨cs,nx,lf,h1,h2,e1,e2⟩ h;exact⟨cs,nx,lf,h1,by omega,e1,e2⟩
 pick:=by
  rintro k a b many ⟨cs,nx,lf,n0,n1,rfl,rfl⟩ h0 h1;obtain⟨d,x,e,r,a',b',p1,p2,rfl,rfl,hT⟩:=cU k cs nx lf many n0 (by push_cast at n1;omega) h0 h1;exact⟨r,a',b',p1,p2,e,hT⟩
def d7(ns:List Int):WF KI [.ro ns] [] λd x=>d=.mu 1/\∃a b,T 100000 a b/\x=[a,b]:=by
 obtain⟨cs,e⟩:=W2 ns none (some 63);exact⟨.mu 1,_,by simp[KI,mkF,e],rfl,_,_,⟨cs,0,0,by decide,by decide,rfl,rfl⟩,rfl⟩
def OD(bot:Int):List (Int×Int)->Prop
 |[]=>True
 |(_,h)::r=>bot<=h/\OD h r
def Asc:List (Int×Int)->Prop
 |[]=>True
 |(b,_)::r=>(∀q∈r,b<q.1)/\Asc r
def Fy:Cost->Prop
 |.tardy _ w=>0<=w/\w<=1000000
 |.miss _ w=>0<=w/\w<=1000000
 |.ends w=>0<=w/\w<=1000000
 |.steps rows=>rows.length<=5/\OD 0 rows/\Asc rows
 |_=>True
def Up2(rows:List (Int×Int)):Prop:=rows.Pairwise λp q=>p.1<q.1/\p.2<=q.2
theorem Ob:∀{rows:List (Int×Int)} {bot:Int},Up2 rows->(∀q∈rows,bot<=q.2)->OD bot rows/\Asc rows
 |[],_,_,_=>⟨trivial,trivial⟩
 |(b,h)::r,bot,U,hb=>by
   unfold Up2 at U;rw[List.pairwise_cons]at U;have ih:=Ob (rows:=r) (bot:=h) U.2 λq hq=>(U.1 q hq).2;exact⟨⟨hb (b,h) 55,ih.1⟩,λq hq=>(U.1 q hq).1,ih.2⟩
def XG{b h:Int}(U:Up2 rows)(hq:∀q∈rows,q.1<b/\q.2<=h):Up2 (rows++[(b,h)]):=by
 unfold Up2 at *;rw[pairwise_append];refine⟨U,by simp,λp hp q hq'=>?_⟩;rw[iU]at hq';subst hq';exact hq p hp
def D3(m:Int):Cost->Prop
 |.late d=>-m<=d/\d<=m
 |.tardy d w=>(-m<=d/\d<=m)/\0<=w/\w<=9
 |.miss d w=>(-m<=d/\d<=m)/\0<=w/\w<=9
 |.ends w=>0<=w/\w<=9
 |.steps rows=>∀q∈rows,(-m<=q.1/\q.1<=m)/\0<=q.2/\q.2<=99
noncomputable abbrev Wo(xs:List Str):MO:=.lst (xs.map λx=>D.im (.str x))
def Jz(x:Str):Prop:=x="late"∨x="tardy"∨x="miss"∨x="ends"∨x="steps"
def atW{xs:List Str}{r:Int}(h0:0<=r)(h1:r<(xs.length:Int))(hx:∀x∈xs,Jz x):∃x:Str,Jz x/\x∈xs/\atI (xs.map λx=>D.im (.str x)) r=some (.im (.str x)):=by
 obtain⟨j,rfl⟩:∃j:Nat,r=j:=⟨r.toNat,by omega⟩
 have hj:j<xs.length:=by omega
 exact⟨xs[j],hx _ (List.getElem_mem hj),List.getElem_mem hj,JR rfl (by simp[hj])⟩
def at3{r:Int}(h0:0<=r)(h1:r<3)(x y z:D):∃d,(d=x∨d=y∨d=z)/\atI [x,y,z] r=some d:=by
 have:r=0∨r=1∨r=2:=by omega
 rcases this with rfl|rfl|rfl
 .exact⟨x,.inl rfl,BX (j:=0) rfl⟩
 .exact⟨y,.inr (.inl rfl),BX (j:=1) rfl⟩
 .exact⟨z,.inr (.inr rfl),BX (j:=2) rfl⟩
def at2{r:Int}(h0:0<=r)(h1:r<2)(x y:D):∃d,(d=x∨d=y)/\atI [x,y] r=some d:=by
 have:r=0∨r=1:=by omega
 rcases this with rfl|rfl
 .exact⟨x,.inl rfl,BX (j:=0) rfl⟩
 .exact⟨y,.inr rfl,BX (j:=1) rfl⟩
def at4{r:Int}(h0:0<=r)(h1:r<4)(x y z w:D):∃d,(d=x∨d=y∨d=z∨d=w)/\atI [x,y,z,w] r=some d:=by
 have:r=0∨r=1∨r=2∨r=3:=by omega
 rcases this with rfl|rfl|rfl|rfl
 .exact⟨x,.inl rfl,BX (j:=0) rfl⟩
 .exact⟨y,.inr (.inl rfl),BX (j:=1) rfl⟩
 .exact⟨z,.inr (.inr (.inl rfl)),BX (j:=2) rfl⟩
 .exact⟨w,.inr (.inr (.inr rfl)),BX (j:=3) rfl⟩
def okC(xs:List Str)(i:I):Prop:=∃c,i=Bf c/\Fy c/\D3 1000 c/\(xs=[("late":Str)]->∃d,c=.late d)/\∀d,c=.late d->("late":Str)∈xs
inductive I_cost_w(k:Nat)(xs:List Str)(x:Str)(due r2 r3 r4 r6:Int)(r:List D)(ls:Ls)(hd:Hd):Prop
 |mk (rows:List (Int×Int)) (s h:Int) (a b:MO) (z:Option D) (h0:ls=[some (.mu 1),some (.mu 2),some (.im (.str x)),some (.mu 3),some (.im (.int due)),some (.im (.int r6)),some (.mu 4),some (.im (.int s)),some (.im (.int h)),z]) (h1:hd=[a,b,Wo xs,.lst [.im (.int r2),.im (.int r3),.im (.int (r4-99))],.lst (rows.map λr=>.im (.tup [.int r.1,.int r.2]))]) (h2:T (k+2*r.length) a b) (h3:(Up2 rows/\∀r∈rows,(-1000<=r.1/\r.1<=s)/\0<=r.2/\r.2<=h)) (h4:rows.length+r.length<=5) (h5:(-100<=s/\s+60*r.length<=1000)) (h6:0<=h) (h7:h<=99):I_cost_w k xs x due r2 r3 r4 r6 r ls hd
def Ny(hX0:xs≠[])(h5:105<=5)(hX:∀x∈xs,Jz x)(k:Nat)(a b:MO)(hT:T (k+30) a b):WF G6 [.mu 1,.mu 2] [a,b,Wo xs] λd x=>∃i a' b' g,d=.im i/\okC xs i/\T k a' b'/\x=a'::b'::([Wo xs]++g):=by
 unfold G6;refine Am rfl ?_;have lx:0<xs.length:=List.length_pos_iff.mpr hX0
 nofun
 refine tap.draw hT rfl 112 112 λr1 a b hT pr1 qr1=>?_;rw[iV]at qr1;obtain⟨x,hx,hxm,ex⟩:=atW pr1 qr1 hX;have hxl:xs=[("late":Str)]->x="late":=λe=>by rw[e]at hxm;simpa using hxm
 refine AI rfl ex ?_
 nofun
 refine tap.draw hT rfl (by first|decide|omega) (by first|decide|omega) λr2 a b hT pr2 qr2=>?_
 nofun
 refine tap.draw hT rfl (by first|decide|omega) (by first|decide|omega) λr3 a b hT pr3 qr3=>?_
 nofun
 refine tap.draw hT rfl (by first|decide|omega) (by first|decide|omega) λr4 a b hT pr4 qr4=>?_
 nofun
 refine tap.draw hT rfl (by first|decide|omega) (by first|decide|omega) λr5 a b hT pr5 qr5=>?_;obtain⟨d,hd,ed⟩:=at3 pr5 qr5 (.im (.int r2)) (.im (.int r3)) (.im (.int (r4-99)));refine AI rfl ed ?_;obtain⟨due,rfl,hdue'⟩:∃due,d=.im (.int due)/\(-1000<=due/\due<=1000):=by
  rcases hd with rfl|rfl|rfl
  .exact⟨_,rfl,by omega,by omega⟩
  .exact⟨_,rfl,by omega,by omega⟩
  .exact⟨_,rfl,by omega,by omega⟩
 have hdue:-1000000<=due/\due<=1000000:=by omega
 nofun
 refine tap.draw hT rfl (by first|decide|omega) (by first|decide|omega) λr6 a b hT pr6 qr6=>?_;have w6:(0<=r6/\r6<=1000000)/\(0<=r6/\r6<=9)/\(-1000000<=r6/\r6<=1000000):=by omega
 clear pr1 qr1 pr2 qr2 pr3 qr3 pr4 qr4 pr5 qr5 pr6 qr6
 nofun
 refine⟨λhA=>?_,λhA=>?_⟩
 .nofun
  exact⟨_,a,b,_,Hv _ _,⟨.late due,by rw[jG hA];rfl,trivial,hdue',(λ_=>⟨_,rfl⟩),λ_ _=>by rw[<- jG hA];exact hxm⟩,tap.le hT 50,rfl⟩
 nofun
 refine⟨λhB=>?_,λhB=>?_⟩
 .nofun
  exact⟨_,a,b,_,Hv _ _,⟨.ends r6,by rw[jG hB];rfl,w6.1,w6.2.1,(λe=>absurd (hxl e) (jM hA)),λd e=>by cases e⟩,tap.le hT 50,rfl⟩
 nofun
 refine⟨λhC=>?_,λhC=>?_⟩
 .nofun
  have hcs:x="tardy"∨x="miss":=by
   have nA:=jM hA;have nB:=jM hB;have nC:¬ x="steps":=by simpa using hC
   rcases hx with h|h|h|h|h
   .exact absurd h nA
   .exact .inl h
   .exact .inr h
   .exact absurd h nB
   .exact absurd h nC
  refine⟨_,a,b,_,Hu _ _ _,?_,tap.le hT 50,rfl⟩;rcases hcs with e|e
  .exact⟨.tardy due r6,by rw[e];rfl,w6.1,⟨hdue',w6.2.1⟩,(λe=>absurd (hxl e) (jM hA)),λd e=>by cases e⟩
  .exact⟨.miss due r6,by rw[e];rfl,w6.1,⟨hdue',w6.2.1⟩,(λe=>absurd (hxl e) (jM hA)),λd e=>by cases e⟩
 have xst:x="steps":=by simpa using hC
 nofun
 refine tap.draw hT rfl (by first|decide|omega) (by first|decide|omega) λr7 a b hT pr7 qr7=>?_
 nofun
 refine tap.draw hT rfl (by first|decide|omega) (by first|decide|omega) λr8 a b hT pr8 qr8=>?_
 nofun
 refine⟨Ff 50 50,?_⟩;refine Bl (I_cost_w k xs x due r2 r3 r4 r6) ?_ ?_ ?_
 .exact⟨[],_,_,a,b,none,rfl,rfl,tap.le hT 112,⟨List.Pairwise.nil,by simp⟩,by simp;omega,⟨by omega,by simp;omega⟩,by decide,by decide⟩
 .rintro d r ls hd ⟨rows,s,h,a,b,z,rfl,rfl,hT,ho,hl,hs,h0,h9⟩;simp only[j8]at hT hl hs;refine⟨_,rfl,?_⟩;dsimp only[set_cons_zero,set_cons_succ];have hT:T (k+2*r.length+2) a b:=hT
  nofun
  refine tap.draw hT rfl (by first|decide|omega) (by first|decide|omega) λr9 a b hT pr9 qr9=>?_
  nofun
  refine tap.draw hT rfl (by first|decide|omega) (by first|decide|omega) λr10 a b hT pr10 qr10=>?_
  nofun
  refine EB rfl (BI 112) ?_;refine⟨AQ _,rows++[(s+1+r9,min 99 (h+r10))],_,_,a,b,_,rfl,by simp,hT,?_,by simp;omega,⟨by omega,by omega⟩,by omega,by omega⟩;refine⟨XG ho.1 λq hq=>?_,λq hq=>?_⟩
  .have:=ho.2 q hq;omega
  rcases mem_append.mp hq with hq|hq
  .have:=ho.2 q hq;omega
  .simp at hq;subst hq;exact⟨⟨by show -1000<=s+1+r9;omega,by show s+1+r9<=s+1+r9;omega⟩,by show 0<=min 99 (h+r10);omega,by show min 99 (h+r10)<=min 99 (h+r10);omega⟩
 .rintro ls hd ⟨rows,s,h,a,b,z,rfl,rfl,hT,ho,hl,hs,h0,h9⟩
  nofun
  refine Bw rfl rfl ?_
  nofun
  have e:(rows.map λr:Int×Int=>D.im (.tup [.int r.1,.int r.2]))=(rows.map λr:Int×Int=>I.tup [.int r.1,.int r.2]).map D.im:=by rw[j3];rfl
  have hl5:rows.length<=5:=by simp at hl;omega
  have hs':s<=1000:=by simp at hs;omega
  obtain⟨u1,u2⟩:=Ob (bot:=0) ho.1 λq hq=>(ho.2 q hq).2.1;refine⟨_,a,b,_,by rw[e,B8];exact Hv _ _,⟨.steps rows,by rw[xst];rfl,⟨hl5,u1,u2⟩,λq hq=>?_,(λe=>absurd (hxl e) (jM hA)),λd e=>by cases e⟩,tap.le hT 55,rfl⟩;have:=ho.2 q hq;exact⟨⟨by omega,by omega⟩,by omega,by omega⟩
structure Wg where
 len:Int
 com:Int
 co:I
noncomputable def wgI(w:Wg):I:=.tup [.int w.len,.int w.com,w.co]
def Wg.ok(xs:List Str)(w:Wg):Prop:=(1<=w.len/\w.len<=20)/\(0<=w.com/\w.com<=60)/\okC xs w.co
def fo(xs:List Str)(ws:List Wg):Prop:=1<=51/\51<=8/\∀w∈ws,Wg.ok xs w
noncomputable abbrev AR(ws:List Wg):I:=.tup (ws.map wgI)
noncomputable abbrev V4:MO:=.lst [.im (.int 0)]
def B1(ws:List Wg):(ws.map λw=>D.im (wgI w))=(ws.map wgI).map D.im:=by rw[j3];rfl
def G0(n:Nat)(ds:List D):clO n (.lst ds)=Al n ds:=rfl
def HV{α:Type}(n:Nat)(f:α->I)(l:List α):Al n (l.map λx=>D.im (f x))=true:=by induction l<;>simp_all
inductive I_works_w(k:Nat)(xs:List Str)(r1 lo r4:Int)(r:List D)(ls:Ls)(hd:Hd):Prop
 |mk (ws:List Wg) (a b:MO) (z y:Option D) (h0:ls=[some (.mu 1),some (.im (.int 7)),some (.mu 2),some (.mu 3),some (.im (.int (1+r1))),some (.im (.int lo)),some (.im (.int 0)),some (.im (.int r4)),some (.mu 4),z,y]) (h1:hd=[a,b,Wo xs,V4,.lst (ws.map λw=>.im (wgI w))]) (h2:T (k+34*r.length) a b) (h3:(∀w∈ws,Wg.ok xs w/\w.com=r4)) (h4:51+r.length=(1+r1).toNat):I_works_w k xs r1 lo r4 r ls hd
def XA(hX0:xs≠[])(h5:105<=5)(hX:∀x∈xs,Jz x)(k:Nat)(a b:MO)(hT:T (k+300) a b):WF IK [.mu 1,.im (.int 7),.mu 2,.mu 3] [a,b,Wo xs,V4] λd x=>∃i a' b' g,d=.im i/\(∃ws c,i=AR ws/\fo xs ws/\(∀w∈ws,w.com=c)/\51<=7)/\T k a' b'/\x=a'::b'::([Wo xs,V4]++g):=by
 unfold IK;refine Am rfl ?_
 nofun
 refine tap.draw hT rfl (by first|decide|omega) (by first|decide|omega) λr1 a b hT pr1 qr1=>?_
 nofun
 refine tap.draw hT rfl (by first|decide|omega) (by first|decide|omega) λr2 a b hT pr2 qr2=>?_
 nofun
 obtain⟨d,hd,ed⟩:=at2 pr2 qr2 (.im (.int 3)) (.im (.int 20));refine⟨_,_,rfl,ed,?_⟩;obtain⟨lo,rfl,hlo⟩:∃lo,d=.im (.int lo)/\3<=lo/\lo<=20:=by
  rcases hd with rfl|rfl
  .exact⟨_,rfl,by omega,by omega⟩
  .exact⟨_,rfl,by omega,by omega⟩
 nofun
 refine tap.draw hT rfl (by first|decide|omega) (by first|decide|omega) λr3 a b hT pr3 qr3=>?_;have e3:r3=0:=by simp at qr3;omega
 subst e3;refine AI rfl (Dc _ _) ?_
 nofun
 refine tap.draw hT rfl (by first|decide|omega) (by first|decide|omega) λr4 a b hT pr4 qr4=>?_
 nofun
 refine⟨Ff 50 50,?_⟩;refine Bl (I_works_w k xs r1 lo r4) ?_ ?_ ?_
 .exact⟨[],a,b,none,none,rfl,rfl,tap.le hT 112,55,by simp⟩
 .rintro d r ls hd ⟨ws,a,b,z,y,rfl,rfl,hT,ho,hl⟩;simp only[j8]at hT hl;have hT:T (k+34*r.length+34) a b:=hT;refine⟨_,rfl,?_⟩;dsimp only[set_cons_zero,set_cons_succ];refine GA ?_
  nofun
  refine tap.draw hT rfl (by first|decide|omega) (by first|decide|omega) λr5 a b hT pr5 qr5=>?_
  nofun
  refine tap.draw hT rfl (by first|decide|omega) (by first|decide|omega) λr6 a b hT pr6 qr6=>?_
  nofun
  refine tap.draw hT rfl (by first|decide|omega) (by first|decide|omega) λr7 a b hT pr7 qr7=>?_
  nofun
  refine tap.draw hT rfl (by first|decide|omega) (by first|decide|omega) λr8 a b hT pr8 qr8=>?_
  nofun
  refine tap.callX (n:=k+34*r.length) (c:=30) hT [Wo xs] (R:=okC xs) rfl rfl rfl (by simp[G0,HV]) (Ny hX0 h5 hX _) λi a b hT hi=>?_
  nofun
  refine EB rfl (BI 112) ?_;have ca:=JN (w:=5) 50 (tap.cl hT).1;have cb:=JN (w:=5) 50 (tap.cl hT).2;refine⟨?_,_,rfl,AQ _,ws++[⟨1+r8,r4,i⟩],a,b,_,_,rfl,?_,hT,?_,?_⟩
  .simp[G0,ca,cb,HV]
  .simp[wgI]
  .intro w hw;rcases mem_append.mp hw with h|h
   .exact ho w h
   .simp at h;subst h;exact⟨⟨⟨by show 1<=1+r8;omega,by show 1+r8<=20;omega⟩,⟨by show 0<=r4;omega,by show r4<=60;omega⟩,hi⟩,rfl⟩
  .simp;omega
 .rintro ls hd ⟨ws,a,b,z,y,rfl,rfl,hT,ho,hl⟩
  nofun
  refine Bw rfl rfl ?_;simp at hl;refine⟨_,a,b,_,by rw[B1,B8],⟨ws,r4,rfl,⟨by omega,by omega,λw hw=>(ho w hw).1⟩,λw hw=>(ho w hw).2,by omega⟩,tap.le hT 55,rfl⟩
inductive I_wishes_w2(k n m i:Nat)(r1:Int)(seq:List Nat)(r:List D)(ls:Ls)(hd:Hd):Prop
 |mk (ps:List (Int×Int)) (j:Nat) (a b:MO) (y:Option D) (h0:r=An (j:Int) (i-j)) (h1:j<=i) (h2:ls=[some (.mu 1),some (.im (.int (n:Int))),some (.mu 2),some (.mu 3),some (.im (.int r1)),some (.mu 4),some (.im (.int (i:Int))),y]) (h3:hd=[a,b,.lst [],.lst (AM seq),.lst (ps.map Aj)]) (h4:T (k+8*m+(8-j)) a b) (h5:ps.length<=7*i+j) (h6:Along seq ps):I_wishes_w2 k n m i r1 seq r ls hd
inductive I_wishes_w(k n:Nat)(r1:Int)(seq:List Nat)(r:List D)(ls:Ls)(hd:Hd):Prop
 |mk (ps:List (Int×Int)) (i:Nat) (a b:MO) (z y:Option D) (h0:r=An (i:Int) (n-i)) (h1:i<=n) (h2:ls=[some (.mu 1),some (.im (.int (n:Int))),some (.mu 2),some (.mu 3),some (.im (.int r1)),some (.mu 4),z,y]) (h3:hd=[a,b,.lst [],.lst (AM seq),.lst (ps.map Aj)]) (h4:T (k+8*(n-i)) a b) (h5:ps.length<=7*i) (h6:Along seq ps):I_wishes_w k n r1 seq r ls hd
def U4(k:Nat)(n:Nat)(hn:n<=8)(a b:MO)(hT:T (k+100) a b):WF Gf [.mu 1,.im (.int (n:Int))] [a,b] λd x=>∃i a' b' g,d=.im i/\(∃(seq:List Nat) (ps:List (Int×Int)),i=.tup (ps.map M9)/\seq.Perm (57 n)/\Along seq ps/\ps.length<=16)/\T k a' b'/\x=a'::b'::g:=by
 unfold Gf;refine Am rfl ?_
 nofun
 refine XF rfl (Io 50 50) ?_
 nofun
 refine Ib (λm ls hd=>∃(left seq:List Nat) (a b:MO),ls=[some (.mu 1),some (.im (.int (n:Int))),some (.mu 2),some (.mu 3),none,none,none,none]/\hd=[a,b,.lst (AM left),.lst (AM seq)]/\m=left.length/\T (k+80+m) a b/\(seq++left).Perm (57 n)) (n:=n) ?_ ?_
 .refine⟨57 n,[],a,b,rfl,?_,by simp,tap.le hT 50,by simp⟩;rw[ju,ES];rfl
 .rintro m ls hd ⟨left,seq,a,b,rfl,rfl,rfl,hT,pm⟩;have sl:seq.length+left.length=n:=by simpa using pm.length_eq
  nofun
  have en:AM left=(left.map λk:Nat=>(k:Int)).map λi=>.im (.int i):=by simp[AM]
  refine⟨left.map λk:Nat=>(k:Int),?_,?_⟩
  .show((B9 (AM left)).map λis=>PyData.list (I.pys is))=_;rw[en,Dd,j4,Dm]
  nofun
  by_cases hl:left=[]
  .subst hl;rw[ie 55];simp only[je]at pm;have sl:seq.length=n:=by simpa using sl
   simp only[jm]at hT
   nofun
   refine tap.draw hT rfl (by first|decide|omega) (by first|decide|omega) λr1 a b hT pr1 qr1=>?_
   nofun
   refine⟨aD 50,?_⟩;refine Bl (I_wishes_w k n r1 seq) ?_ ?_ ?_
   .exact⟨[],0,a,b,none,none,by simp,by omega,rfl,rfl,tap.le hT 50,by simp,(by intro p hp;cases hp)⟩
   .rintro d r ls hd ⟨ps,i,a,b,z,y,er,hi,rfl,rfl,hT,hl,ho⟩;obtain⟨m,hm⟩:∃m,n-i=m+1:=by
     cases q:n-i with
     |zero=>rw[q]at er;cases er
     |succ m=>exact⟨m,rfl⟩
    rw[hm,An]at er;obtain⟨rfl,rfl⟩:=List.cons.inj er;rw[hm]at hT;refine⟨_,rfl,?_⟩;dsimp only[set_cons_zero,set_cons_succ]
    nofun
    refine⟨aD 50,?_⟩;refine Bl (I_wishes_w2 k n m i r1 seq) ?_ ?_ ?_
    .exact⟨ps,0,a,b,y,by simp,by omega,rfl,rfl,hT,by omega,ho⟩
    .rintro d r ls hd ⟨ps,j,a,b,y,er,hj,rfl,rfl,hT,hl,ho⟩;obtain⟨m2,hm2⟩:∃m2,i-j=m2+1:=by
      cases q:i-j with
      |zero=>rw[q]at er;cases er
      |succ m=>exact⟨m,rfl⟩
     rw[hm2,An]at er;obtain⟨rfl,rfl⟩:=List.cons.inj er;have ej:((j:Int)+1)=((j+1:Nat):Int):=by omega
     have em:m2=i-(j+1):=by omega
     have hT:T (k+8*m+(8-(j+1))+1) a b:=tap.le hT 50;refine⟨_,rfl,?_⟩;dsimp only[set_cons_zero,set_cons_succ];refine WQ ?_;refine WP.mono (Q:=λc x=>∃a b,T (k+8*m+(8-(j+1))) a b/\x=[a,b,.lst [],.lst (AM seq),.lst (ps.map Aj)]) ?_ ?_
     .have tail:WT (Cs (AC (mOp (gIn false) (A1 4) (Ak (A2 (mC (.int 1)) (A2 (mC (.int 2)) A5))))) (AC (mOp gEq (A9 2 AZ (A2 (A1 0) (A2 (FP (Ai (A2 (mC (.int 1)) (A2 (mC (.int 4)) (A2 (mC (.int 2)) A5)))) (A1 4)) A5))) (mC (.int 0))))) [some (.mu 1),some (.im (.int (n:Int))),some (.mu 2),some (.mu 3),some (.im (.int r1)),some (.mu 4),some (.im (.int (i:Int))),some (.im (.int (j:Int)))] [a,b,.lst [],.lst (AM seq),.lst (ps.map Aj)] (λc x=>∃a b,T (k+8*m+(8-(j+1))) a b/\x=[a,b,.lst [],.lst (AM seq),.lst (ps.map Aj)]):=by
       nofun
       refine WP.eq (in_ints (xs:=[1,2]) r1 false 55) ?_
       nofun
       by_cases h12:r1=1∨r1=2
       .rw[ia (by simpa using h12)]
        nofun
        have hx:∃x:Int,(0<x/\x<=4)/\atI [D.im (.int 1),.im (.int 4),.im (.int 2)] r1=some (.im (.int x)):=by
         rcases h12 with rfl|rfl
         .exact⟨4,by omega,Dv _ _ _⟩
         .exact⟨2,by omega,FX _ _ _ _⟩
        obtain⟨x,hx1,hx2⟩:=hx;refine tap.draw (many:=x) (rest:=[.lst [],.lst (AM seq),.lst (ps.map Aj)]) hT (by simp[hx2]) 50 50 λr a b hT pr qr=>?_
        nofun
        exact⟨a,b,hT,rfl⟩
       .rw[ie (by simpa using h12)];exact⟨a,b,tap.le hT 50,rfl⟩
      nofun
      split
      .nofun
       split
       .exact⟨a,b,tap.le hT 50,rfl⟩
       .exact tail
      .rw[ie Bool.false_ne_true];exact tail
     .rintro c x ⟨a,b,hT,rfl⟩;cases c with
      |false=>
       rw[ie Bool.false_ne_true]
       nofun
       exact⟨AQ _,ps,j+1,a,b,_,by rw[ej,em],by omega,rfl,rfl,hT,by omega,ho⟩
      |true=>
       rw[ia rfl];have hj1:j<seq.length:=by omega
       have hi1:i<seq.length:=by omega
       have sj:seq[j]?=some seq[j]:=by simp[hj1]
       have si:seq[i]?=some seq[i]:=by simp[hi1]
       nofun
       refine AI rfl (Su sj) ?_
       nofun
       refine AI rfl (Su si) ?_
       nofun
       refine EB rfl (BI 112) ?_;refine⟨AQ _,ps++[((seq[j]:Int),(seq[i]:Int))],j+1,a,b,_,by rw[ej,em],by omega,rfl,by simp[Aj],hT,by simp;omega,?_⟩;intro p hp;rcases mem_append.mp hp with hp|hp
       .exact ho p hp
       .simp at hp;exact⟨j,i,_,_,by omega,sj,si,hp⟩
    .rintro ls hd ⟨ps,j,a,b,y,er,hj,rfl,rfl,hT,hl,ho⟩;have:i-j=0:=by
      cases q:i-j with
      |zero=>rfl
      |succ m=>rw[q]at er;cases er
     exact⟨AQ _,ps,i+1,a,b,_,_,by rw[show n-(i+1)=m by omega];rfl,by omega,rfl,rfl,tap.le hT 50,by omega,ho⟩
   .rintro ls hd ⟨ps,i,a,b,z,y,er,hi,rfl,rfl,hT,hl,ho⟩;have pk:=ho.pok pm 50;have c64:ps.length<64/\∀q∈ps,pok q:=⟨by omega,pk⟩
    nofun
    have sub:((Bm ps).take 16).Sublist (Bm ps):=List.take_sublist _ _;have cut:Cu ((Bm ps).map Aj) none (some 16)=((Bm ps).map Aj).take 16:=W1 ((Bm ps).map Aj) 16;have mk:Ap (((Bm ps).map Aj).take 16)=.im (.tup (((Bm ps).take 16).map M9)):=by
     have:((Bm ps).map Aj).take 16=(((Bm ps).take 16).map M9).map D.im:=by rw[<- map_take,j3];rfl
     rw[this,B8]
    refine WP.eq (z:=((Bm ps).take 16).map Aj) (h:=[a,b,.lst [],.lst (AM seq),.lst (ps.map Aj),.lst ((Bm ps).map Aj)]) ?_ ?_
    .simp;rw[ia c64];simp[cut]
    .refine⟨_,rfl,_,a,b,_,?_,⟨seq,(Bm ps).take 16,rfl,pm,λp h=>ho p ((GG ps).mem_iff.mp (sub.subset h)),by simp;omega⟩,tap.le hT 50,rfl⟩;rw[map_take];exact mk
  .rw[ia (by simpa using hl)];have h1:0<left.length:=List.length_pos_iff.mpr hl;obtain⟨l,hl2⟩:∃l,left.length=l+1:=⟨left.length-1,by omega⟩
   rw[hl2]at hT
   nofun
   refine tap.draw (many:=(left.length:Int)) (rest:=[.lst (AM left),.lst (AM seq)]) hT (by simp[BO]) 50 50 λr a b hT pr qr=>?_
   nofun
   have hr:r.toNat<left.length:=by omega
   have e1:left[r.toNat]?=some left[r.toNat]:=by simp[hr]
   refine U2 rfl (Ff 50 50) (ZH (n:=(AM left).length) pr 112) (by simp[e1];rfl) ?_
   nofun
   refine EB rfl (BI 112) ?_;refine⟨l,by omega,left.eraseIdx r.toNat,seq++[left[r.toNat]],a,b,rfl,?_,by rw[List.length_eraseIdx,ia hr];omega,hT,(Sh e1).trans pm⟩;have er:(AM left).eraseIdx r.toNat=AM (left.eraseIdx r.toNat):=La _ _ _;simp[er]
open Hds
noncomputable def AO(p:Nat×Nat):I:=.tup [.int p.1,.int p.2]
def HJ(ns:List Int):B6 (intD ns)=some ns:=by
 induction ns with
 |nil=>rfl
 |cons n r ih=>simp[intD]at ih ⊢
def U6{neg:Bool}{QE:D->Hd->Prop}(h:WA ml ls hd λds x=>∃ns:List Int,ds=intD ns/\QE (.im (.bl (if neg then !decide (ns=[])else decide (ns=[])))) x):WE (Hy neg ml (Ai A5)) ls hd QE:=by
 obtain⟨ds,x,e,ns,rfl,q⟩:=h;refine⟨_,x,?_,q⟩;unfold Hy;rw[e];simp[Dd,Dm,I.pys,PQ]
def Ru{QA:List D->Hd->Prop}(h:WE ma ls hd λd x=>WE mb ls x λe y=>∃i j xs ys,d=.mu i/\e=.mu j/\y[i]?=some (.lst xs)/\y[j]?=some (.lst ys)/\Bg (105+ys.length)/\QA (xs++ys) y):WA (HF ma mb) ls hd QA:=by
 obtain⟨d,x,e1,e,y,e2,i,j,xs,ys,rfl,rfl,e3,e4,c,q⟩:=h;exact⟨_,_,by simp only[HF,e1,bind_some,e2,e3,e4,c,iy],q⟩
noncomputable def Ah(ws:List Wg)(k:Nat):Int:=((ws[k]?).map Wg.com).getD 0
noncomputable def B5(ws:List Wg)(k:Nat):Int:=((ws[k]?).map Wg.len).getD 0
def CT{ws:List Wg}{k:Nat}(hk:k<51):atI (ws.map λw=>D.im (wgI w)) (k:Int)=some (.im (wgI ws[k])):=JR rfl (by simp[hk])
noncomputable abbrev prD(W:List (Nat×Nat)):List D:=W.map λp=>D.im (AO p)
def hg1(H0:Hd)(x y:MO)(r:Hd):(H0++x::y::r)[H0.length+1]?=some y:=by
 rw[List.getElem?_append_right 50];simp
def hg2(H0:Hd)(x y z:MO)(r:Hd):(H0++x::y::z::r)[H0.length+2]?=some z:=by
 rw[List.getElem?_append_right 50];simp
noncomputable abbrev CW(W:List (Nat×Nat))(some_:List Nat):List (Nat×Nat):=W.filter λp=>decide (p.1∈some_)&&decide (p.2∈some_)
def Rm(W:List (Nat×Nat))(some_:List Nat):(W.filterMap λp=>if p.1∈some_/\p.2∈some_ then some (D.im (AO p))else none)=prD (CW W some_):=by
 induction W with
 |nil=>rfl
 |cons p r ih=>
  rw[jA];by_cases h1:p.1∈some_<;>by_cases h2:p.2∈some_<;>simp[h1,h2,CW,prD]at ih ⊢<;>exact ih
structure Up(some_:List Nat)(W:List (Nat×Nat))(rk:Nat->Nat)(b l h:Nat->Int)(t:Nat)(rest:List (Nat×Nat))(v:Nat->Int):Prop where
 lo:∀k∈some_,b k<=v k
 hi:∀k∈some_,v k<=h k
 old:∀k∈some_,rk k<t->v k=h k
 new:∀k∈some_,rk k=t->v k=h k∨∃p∈rest,p.2=k/\h k=h p.1+l p.1
def Up.begin{some_:List Nat}{W:List (Nat×Nat)}{rk:Nat->Nat}{b l h v:Nat->Int}{t:Nat}(H:IsHead (λk=>k∈some_) b l W h)(lo:∀k∈some_,b k<=v k)(hi:∀k∈some_,v k<=h k)(old:∀k∈some_,rk k<t->v k=h k):Up some_ W rk b l h t W v:=
 ⟨lo,hi,old,λk hk e=>by
  rcases H.eq k hk with e|⟨p,hp,e1,e2⟩
  .have:=lo k hk;have:=hi k hk;exact .inl 50
  .exact .inr ⟨p,hp,e1,e2⟩⟩
def Up.step{some_:List Nat}{W:List (Nat×Nat)}{rk:Nat->Nat}{b l h v:Nat->Int}{t:Nat}{q:Nat×Nat}{r:List (Nat×Nat)}(R:Rk (λk=>k∈some_) W rk)(H:IsHead (λk=>k∈some_) b l W h)(hq:q∈W)(U:Up some_ W rk b l h t (q::r) v):
 Up some_ W rk b l h t r (λk=>if k=q.2 then max (v q.2) (v q.1+l q.1)else v k):=by
 have hq1:=(R.ins q hq).1;have hq2:=(R.ins q hq).2;have u1:=H.up q hq hq2;have u2:=U.hi q.1 hq1;have u3:=U.hi q.2 hq2;refine⟨λk hk=>?_,λk hk=>?_,λk hk hr=>?_,λk hk hr=>?_⟩
 .by_cases e:k=q.2
  .subst e;simp only[iy];have:=U.lo q.2 hk;omega
  .simp only[e,j5];exact U.lo k hk
 .by_cases e:k=q.2
  .subst e;simp only[iy];omega
  .simp only[e,j5];exact U.hi k hk
 .by_cases e:k=q.2
  .subst e;simp only[iy];have:=U.old q.2 hk hr;omega
  .simp only[e,j5];exact U.old k hk hr
 .by_cases e:k=q.2
  .subst e;simp only[iy];rcases U.new q.2 hk hr with e1|⟨p,hp,e1,e2⟩
   .exact .inl 50
   .rcases mem_cons.mp hp with rfl|hp
    .have lt:=R.lt p hq;have:=U.old p.1 hq1 50;exact .inl 50
    .exact .inr ⟨p,hp,e1,e2⟩
  .simp only[e,j5];rcases U.new k hk hr with e1|⟨p,hp,e1,e2⟩
   .exact .inl e1
   .rcases mem_cons.mp hp with rfl|hp
    .exact absurd e1.symm e
    .exact .inr ⟨p,hp,e1,e2⟩
noncomputable abbrev onS(some_:List Nat)(v:Nat->Int):Nat->Option Int:=λk=>if k∈some_ then some (v k)else none
inductive I_raised_w2(ws:List Wg)(W:List (Nat×Nat))(some_:List Nat)(t:Int)(rk:Nat->Nat)(h:Nat->Int)(n:Nat)(r:List D)(ls:Ls)(hd:Hd):Prop
 |mk (rest:List (Nat×Nat)) (kvs:List (Key×D)) (v:Nat->Int) (z6 z7 z8:Option D) (h0:r=prD rest) (h1:(∀p∈rest,p∈CW W some_)) (h2:ls=[some (.im (AR ws)),some (.im (.tup (W.map AO))),some (.im (Ao some_)),some (.im (.int t)),some (.mu 0),some (.mu 1),z6,z7,z8]) (h3:hd=[.dic kvs,.lst (prD (CW W some_))]) (h4:kvs.length+rest.length<=8+16*n+16) (h5:DicI kvs (onS some_ v)) (h6:Up some_ (CW W some_) rk (λk=>max (Ah ws k) t) (B5 ws) h n rest v):I_raised_w2 ws W some_ t rk h n r ls hd
inductive I_raised_w(ws:List Wg)(W:List (Nat×Nat))(some_:List Nat)(t:Int)(rk:Nat->Nat)(h:Nat->Int)(r:List D)(ls:Ls)(hd:Hd):Prop
 |mk (n:Nat) (kvs:List (Key×D)) (v:Nat->Int) (z6 z7 z8:Option D) (h0:ls=[some (.im (AR ws)),some (.im (.tup (W.map AO))),some (.im (Ao some_)),some (.im (.int t)),some (.mu 0),some (.mu 1),z6,z7,z8]) (h1:hd=[.dic kvs,.lst (prD (CW W some_))]) (h2:n+r.length=some_.length) (h3:kvs.length<=8+16*n) (h4:DicI kvs (onS some_ v)) (h5:(∀k∈some_,max (Ah ws k) t<=v k)) (h6:(∀k∈some_,v k<=h k)) (h7:∀k∈some_,rk k<n->v k=h k):I_raised_w ws W some_ t rk h r ls hd
def Uq{ws:List Wg}{W:List (Nat×Nat)}{some_:List Nat}{t:Int}{rk:Nat->Nat}{h:Nat->Int}(hn:51<=8)(hW:W.length<=16)(hs:∀k∈some_,k<51)(hl:some_.length<=8)
 (R:Rk (λk=>k∈some_) (CW W some_) rk) (hrk:∀k∈some_,rk k<some_.length) (H:IsHead (λk=>k∈some_) (λk=>max (Ah ws k) t) (B5 ws) (CW W some_) h):
 WF Gg [.im (AR ws),.im (.tup (W.map AO)),.im (Ao some_),.im (.int t)] [] λd x=>d=.im (.tup (some_.map λk=>.int (h k))):=by
 unfold Gg;refine Am rfl ?_
 nofun
 refine XB (U3 ?_)
 nofun
 have nat_im:(Ao some_)=.tup (some_.map λk:Nat=>I.int (k:Int)):=rfl;have tn:(some_.map λk:Nat=>I.int (k:Int)).map D.im=AM some_:=by simp[AM]
 rw[tn];refine MR (λr acc ls hd=>∃(done rest:List Nat) (z:Option D),some_=done++rest/\r=AM rest/\ls=[z,some (.im (AR ws)),some (.im (.int t))]/\hd=[]/\acc.length<=done.length/\DicI acc (onS done λk=>max (Ah ws k) t)) ?_ ?_ ?_
 .exact⟨[],some_,none,rfl,rfl,rfl,rfl,by simp,λk=>by simp[BC]⟩
 .rintro d r acc ls hd ⟨dn,rest,z,es,er,rfl,rfl,la,hd⟩;cases rest with
  |nil=>cases er
  |cons k rest=>
   obtain⟨rfl,rfl⟩:=List.cons.inj er;have hk:k<ws.length:=hs k (by rw[es];simp);refine⟨_,rfl,?_⟩
   nofun
   rw[ia rfl];refine Zm ?_
   nofun
   refine AI rfl (by rw[<- B1];exact CT hk) ?_
   nofun
   refine⟨BI (by have:=j7 List.length es;simp at this;omega),AQ _,dn++[k],rest,_,by rw[es];simp,rfl,rfl,rfl,by have:=NK acc (.inl (k:Int)) (.im (.int (max ws[k].com t)));simp;omega,?_⟩;have e:ws[k].com=Ah ws k:=by simp[Ah,hk]
   rw[e];intro j;rw[hd.put k _ j];by_cases ej:j=k
   .subst ej;simp
   .simp[ej]
 rintro acc ls hd ⟨dn,rest,z,es,er,rfl,rfl,la,hdic⟩;have:rest=[]:=by cases rest with
  |nil=>rfl
  |cons _ _=>cases er
 subst this;simp only[je]at es;subst es
 nofun
 refine⟨AL 112,?_⟩;have tw:(W.map AO).map D.im=W.map λp=>D.im (AO p):=by rw[j3];rfl
 rw[tw];refine B4 (λp:Nat×Nat=>D.im (AO p)) (λp=>if p.1∈some_/\p.2∈some_ then some (.im (AO p))else none) (λ_ ls=>∃x y,ls=[some x,some y,some (.mu 0)]) _ (AQ _) ?_ ?_
 .rintro p hp ls hls;refine⟨[some (.im (.int (p.1:Int))),some (.im (.int (p.2:Int))),some (.mu 0)],by rcases hls with rfl|⟨_,x,y,rfl⟩<;>rfl,⟨_,_,rfl⟩,?_⟩
  nofun
  refine OW (kvs:=acc) rfl hdic ?_
  nofun
  by_cases h1:p.1∈some_
  .rw[ia (by simp[h1])]
   nofun
   refine OW (kvs:=acc) rfl hdic ?_
   nofun
   refine⟨rfl,?_⟩;by_cases h2:p.2∈some_
   .rw[ia (by simp[h2])];refine⟨_,ia ⟨h1,h2⟩,?_⟩
    nofun
    exact⟨rfl,Hv _ _⟩
   .rw[ie (by simp[h2])];exact ie λz=>h2 z.2
  .rw[ie (by simp[h1])];refine⟨rfl,?_⟩;rw[ie Bool.false_ne_true];exact ie λz=>h1 z.1
 rw[Rm];have wl:(CW W some_).length<=16:=iw (jJ _ _) hW
 nofun
 rw[tn];refine Bl (I_raised_w ws W some_ t rk h) ?_ ?_ ?_
 .exact⟨0,acc,λk=>max (Ah ws k) t,none,none,none,rfl,rfl,by simp,by omega,hdic,λk _=>Int.le_refl _,λk hk=>H.lo k hk,λk _ hr=>by omega⟩
 .rintro d r ls hd ⟨n,kvs,v,z6,z7,z8,rfl,rfl,hl2,lk,hdic,lo,hi,old⟩;simp only[j8]at hl2;refine⟨_,rfl,?_⟩;dsimp only[set_cons_zero,set_cons_succ]
  nofun
  refine⟨_,_,rfl,rfl,?_⟩;refine Bl (I_raised_w2 ws W some_ t rk h n) ?_ ?_ ?_
  .exact⟨CW W some_,kvs,v,_,_,_,rfl,λp hp=>hp,rfl,rfl,by omega,hdic,Up.begin H lo hi old⟩
  .rintro d r ls hd ⟨rest,kvs,v,z6,z7,z8,er,hsub,rfl,rfl,lk,hdic,U⟩;cases rest with
   |nil=>cases er
   |cons q rest=>
    obtain⟨rfl,rfl⟩:=List.cons.inj er;have hq:=hsub q ir;have hq1:=(R.ins q hq).1;have hq2:=(R.ins q hq).2;refine⟨_,rfl,?_⟩;dsimp only[set_cons_zero,set_cons_succ];refine X7 (w:=0) ?_
    nofun
    refine Ic (kvs:=kvs) rfl hdic (ia hq2) ?_
    nofun
    refine Ic (kvs:=kvs) rfl hdic (ia hq1) ?_
    nofun
    refine AI rfl (by rw[<- B1];exact CT (hs _ hq1)) ?_
    nofun
    simp only[j8]at lk;refine⟨_,_,_,rfl,rfl,rfl,BI 50,?_⟩;have hq1n:q.1<ws.length:=hs _ hq1;have el:ws[q.1].len=B5 ws q.1:=by simp[B5,hs _ hq1]
    rw[el];refine⟨by intro p hp;simp at hp;subst hp;rfl,rest,_,_,_,_,_,rfl,λp hp=>hsub p (il _ hp),rfl,rfl,by have:=NK kvs (.inl (q.2:Int)) (.im (.int (max (v q.2) (v q.1+B5 ws q.1))));omega,?_,Up.step R H hq U⟩;intro j;rw[hdic.put q.2 _ j];by_cases ej:j=q.2
    .subst ej;simp[hq2]
    .simp[ej]
  .rintro ls hd ⟨rest,kvs,v,z6,z7,z8,er,hsub,rfl,rfl,lk,hdic,U⟩;have:rest=[]:=by cases rest with
    |nil=>rfl
    |cons _ _=>cases er
   subst this;refine⟨AQ _,n+1,kvs,v,_,_,_,rfl,rfl,by omega,by simp at lk;omega,hdic,U.lo,U.hi,λk hk hr=>?_⟩;by_cases e:rk k=n
   .rcases U.new k hk e with e|⟨p,hp,_⟩
    .exact e
    .cases hp
   .exact U.old k hk 50
 .rintro ls hd ⟨n,kvs,v,z6,z7,z8,rfl,rfl,hl2,lk,hdic,lo,hi,old⟩;simp only[jm,Nat.add_zero]at hl2;subst hl2
  nofun
  rw[tn];refine⟨AL 112,?_⟩;refine B4 (λk:Nat=>D.im (.int (k:Int))) (λk=>some (.im (.int (h k)))) (λ_ ls=>∃x,ls=[some x,some (.mu 0)]) _ (AQ _) ?_ ?_
  .rintro k hk ls hls;refine⟨[some (.im (.int (k:Int))),some (.mu 0)],by rcases hls with rfl|⟨_,x,rfl⟩<;>rfl,⟨_,rfl⟩,?_⟩
   nofun
   refine⟨rfl,?_⟩;rw[ia rfl];refine⟨_,rfl,?_⟩
   nofun
   exact Ic (kvs:=kvs) rfl hdic (ia hk) ⟨rfl,by rw[old k hk (hrk k hk)]⟩
  .refine⟨_,rfl,?_⟩;have:(some_.filterMap λk=>some (D.im (.int (h k))))=(some_.map λk=>I.int (h k)).map D.im:=by simp
   rw[this];exact B8 _
def m1:¬ (("miss":Str)="ends"):=by decide +kernel
def s1:¬ (("steps":Str)="late"):=by decide +kernel
def s2:¬ (("steps":Str)="tardy"):=by decide +kernel
def s3:¬ (("steps":Str)="miss"):=by decide +kernel
def s4:¬ (("steps":Str)="ends"):=by decide +kernel
def e1:¬ (("ends":Str)="late"):=by decide +kernel
def e2:¬ (("ends":Str)="tardy"):=by decide +kernel
def e3:¬ (("ends":Str)="miss"):=by decide +kernel
def GM(ks:List Nat):Ap (AM ks)=.im (Ao ks):=by
 have:AM ks=(ks.map λk:Nat=>I.int (k:Int)).map D.im:=by simp[AM]
 rw[this,B8]
def Qr(p:Nat->Prop)[DecidablePred p](L:List Nat):(L.filterMap λa=>if p a then some (D.im (.int (a:Int)))else none)=AM (L.filter λa=>decide (p a)):=by
 induction L with
 |nil=>rfl
 |cons x r ih=>
  rw[jA,jE];by_cases h:p x
  .simp[h,ih,AM]
  .simp[h,ih,AM]
noncomputable abbrev Cq(ks:List Nat):D:=.im (Ao ks)
def Vw:F_behind=Rw.F_behind:=rfl
noncomputable abbrev wI(ps:List (Int×Int)):I:=.tup (ps.map Fh)
structure Wsh(n:Nat)(ps:List (Int×Int)):Prop where
 len:ps.length<=16
 nod:∀p∈ps,∃a b:Nat,a<n/\b<n/\p=((a:Int),(b:Int))
def Mt(n:Nat)(ps:List (Int×Int))(M:Nat->Nat->Bool):Prop:=∀i j,i<n->j<n->(M i j=true↔Rc ps i j)
def DP(ks:List Nat):(ks.map λk:Nat=>I.int (k:Int)).map D.im=AM ks:=by simp[AM]
def Z4(ks:List Nat):Ap (AM ks)=.im (Ao ks):=by rw[<- DP,B8]
noncomputable abbrev CI(M:Nat->Nat->Bool)(ks:List Nat):List Nat:=ks.filter λa=>!(ks.any λb=>M a b)
def UQ(found:List Int)(x:Int):x∈BV found↔x∈found:=(Jb found).mem_iff
def T2{n:Nat}{M:Nat->Nat->Bool}(h:Wsh n ps)(hM:Mt n ps M)(hk:∀k∈ks,k<n)(hl:ks.length<=8):
 WF D6 [.im (.int (n:Int)),.im (wI ps),.im (Ao ks)] [] λd x=>d=.im (Ao (CI M ks)):=by
 unfold D6;refine Am rfl ?_
 nofun
 rw[DP];refine Bl (λr ls hd=>∃(dn rest:List Nat) (z4 z5:Option D),ks=dn++rest/\r=AM rest/\ls=[some (.im (.int (n:Int))),some (.im (wI ps)),some (.im (Ao ks)),some (.mu 0),z4,z5]/\hd=[.lst (AM (dn.filter λa=>!(ks.any λb=>M a b)))]) ?_ ?_ ?_
 .exact⟨[],ks,none,none,rfl,rfl,rfl,rfl⟩
 .rintro d r ls hd ⟨dn,rest,z4,z5,ek,er,rfl,rfl⟩;cases rest with
  |nil=>cases er
  |cons u rest=>
   obtain⟨rfl,rfl⟩:=List.cons.inj er;have hu:u<n:=hk u (by rw[ek];simp);refine⟨_,rfl,?_⟩;dsimp only[set_cons_zero,set_cons_succ]
   nofun
   refine AX ?_
   nofun
   refine⟨by simp,?_⟩;rw[Vw];obtain⟨found,g,e,nd,mem⟩:=Rw.behind_eq (ps:=ps) (by have:=h.len;omega) (n:Int) (u:Int);refine WP.eq e ⟨_,rfl,?_⟩
   nofun
   refine Bj ?_
   nofun
   rw[DP];refine⟨AL 112,?_⟩;refine B4 (λk:Nat=>D.im (.int (k:Int))) (λk=>some (.im (.bl (M u k)))) (λ_ ls=>∃x,ls=[some x,some (.im (.tup ((BV found).map I.int)))]) _ (AQ _) ?_ ?_
   .rintro k hk' ls hls;refine⟨[some (.im (.int (k:Int))),some (.im (.tup ((BV found).map I.int)))],by rcases hls with rfl|⟨_,x,rfl⟩<;>rfl,⟨_,rfl⟩,?_⟩
    nofun
    refine⟨rfl,?_⟩;rw[ia rfl];refine⟨_,rfl,?_⟩
    nofun
    refine Zk (xs:=BV found) (by simp[intD]) ⟨rfl,?_⟩;have:decide ((k:Int)∈BV found)=M u k:=by
     have a:=hM u k hu (hk k hk');rw[<- mem,<- UQ]at a;cases q:M u k with
     |true=>rw[q]at a;simpa using a
     |false=>rw[q]at a;simpa using a
    rw[<- this];rfl
   have e1:(ks.filterMap λk=>some (D.im (.bl (M u k))))=blD (ks.map λk=>M u k):=by simp[blD]
   rw[e1];refine⟨_,by rw[FS,FE];rfl,?_⟩;refine⟨_,rfl,?_⟩;have e2:((ks.map λk=>M u k).any id)=ks.any λb=>M u b:=by simp[List.any_map]
   rw[e2];have ek':ks=(dn++[u])++rest:=by rw[ek];simp
   refine⟨λhb=>?_,λhb=>?_⟩
   .nofun
    refine EB rfl (BI (by have:=jJ (λa=>!(ks.any λb=>M a b)) dn;have:=j7 List.length ek;simp at this ⊢;omega)) ?_;refine⟨AQ _,dn++[u],rest,_,_,ek',rfl,rfl,?_⟩;have hb:(!(ks.any λb=>M u b))=true:=hb;simp only[List.filter_append,jE,hb,iy,List.filter_nil,set_cons_zero,AM,jD,iq,jf]
   .refine BF ⟨AQ _,dn++[u],rest,_,_,ek',rfl,rfl,?_⟩;have hb:(!(ks.any λb=>M u b))=false:=hb;simp only[List.filter_append,jE,hb,j5,Bool.false_eq_true,List.filter_nil,je]
 .rintro ls hd ⟨dn,rest,z4,z5,ek,er,rfl,rfl⟩;have:rest=[]:=by cases rest with
   |nil=>rfl
   |cons _ _=>cases er
  subst this;simp only[je]at ek
  nofun
  refine Bw rfl rfl ?_;rw[<- ek];exact Z4 _
def Way(ps:List (Int×Int)):Nat->Nat->Nat->Prop
 |0,_,_=>False
 |m+1,x,y=>((x:Int),(y:Int))∈ps∨∃b:Nat,((x:Int),(b:Int))∈ps/\Way ps m b y
theorem Way.mono:∀{m m' x y:Nat},Way ps m x y->m<=m'->Way ps m' x y
 |0,_,_,_,h,_=>h.elim
 |m+1,0,_,_,_,h=>by omega
 |m+1,m'+1,x,y,h,hm=>by
  rcases h with h|⟨b,h1,h2⟩
  .exact .inl h
  .exact .inr ⟨b,h1,h2.mono 50⟩
theorem Way.snoc:∀{m x y z:Nat},Way ps m x y->((y:Int),(z:Int))∈ps->Way ps (m+1) x z
 |0,_,_,_,h,_=>h.elim
 |m+1,x,y,z,h,e=>by
  rcases h with h|⟨b,h1,h2⟩
  .exact .inr ⟨y,h,.inl e⟩
  .exact .inr ⟨b,h1,h2.snoc e⟩
noncomputable abbrev Cn(W:List (Nat×Nat)):List (Int×Int):=W.map λp=>((p.1:Int),(p.2:Int))
def ad{n:Nat}{rk:Nat->Nat}(R:Rk (λk=>k<n) W rk){x y:Int}(r:Rc (Cn W) x y):∀i:Nat,x=i->i<n/\∃j:Nat,y=j/\j<n/\rk i<rk j/\Way (Cn W) (rk j-rk i) i j:=by
 induction r with
 |one h=>
  rintro i rfl;obtain⟨⟨a,b⟩,hp,e⟩:=mem_map.mp h;simp only[Prod.mk.injEq]at e;obtain⟨e1,rfl⟩:=e;have:a=i:=by omega
  subst this;have l:=R.lt _ hp;have ins:=R.ins _ hp;refine⟨ins.1,b,rfl,ins.2,l,Way.mono (m:=1) (.inl h) ?_⟩;have l:rk a<rk b:=l;omega
 |step _ h ih=>
  intro i hi;obtain⟨hn,m,rfl,hm,lm,w⟩:=ih i hi;obtain⟨⟨a,b⟩,hp,e⟩:=mem_map.mp h;simp only[Prod.mk.injEq]at e;obtain⟨e1,rfl⟩:=e;have:a=m:=by omega
  subst this;have l:rk a<rk b:=R.lt _ hp;refine⟨hn,b,rfl,(R.ins _ hp).2,by omega,Way.mono (w.snoc h) 50⟩
open PySem L2 Bd Hds
def Wf(w:Wg):Prop:=(1<=w.len/\w.len<=20)/\(0<=w.com/\w.com<=60)/\∃c,w.co=Bf c/\Fy c/\D3 2000 c
def Es(ws:List Wg):Prop:=1<=51/\51<=8/\∀w∈ws,Wf w
def PZ(h:D3 1000 c):D3 2000 c:=by
 cases c with
 |late d=>simp only[D3]at *;omega
 |tardy d w=>simp only[D3]at *;omega
 |miss d w=>simp only[D3]at *;omega
 |ends w=>simp only[D3]at *;omega
 |steps rows=>intro q hq;have:=h q hq;omega
def Wq(h:Wg.ok xs w):Wf w:=by
 obtain⟨h1,h2,c,e,k1,k2,_,_⟩:=h;exact⟨h1,h2,c,e,k1,PZ k2⟩
def P5{ws:List Wg}{W:List (Nat×Nat)}{rk:Nat->Nat}{h:Nat->Int}(hn:51<=8)(hc:∀k,k<51->0<=Ah ws k)(hW:W.length<=16)(R:Rk (λk=>k<51) W rk)(hrk:∀k,k<51->rk k<51)(H:IsHead (λk=>k<51) (Ah ws) (B5 ws) W h):
 WF G4 [.im (AR ws),.im (.tup (W.map AO))] [] λd x=>d=.im (.tup ((57 51).map λk=>.int (h k))):=by
 have we:CW W (57 51)=W:=by
  refine List.filter_eq_self.mpr λp hp=>?_;have:=R.ins p hp;simp[this.1,this.2]
 unfold G4;refine Am rfl ?_
 nofun
 refine AX ?_
 nofun
 have rn:Ap (An 0 51)=.im (Ao (57 51)):=by rw[ES,GM]
 have rgl:Hm (ws.length:Int):=Io 50 50;refine WP.eq (z:=.im (Ao (57 51))) (h:=[]) (by simp[BO,rgl,rn]) ?_
 nofun
 refine⟨by simp,?_⟩;refine(Uq (h:=h) (rk:=rk) hn hW 55 (by simpa using hn) ?_ (by simpa using hrk) ?_).mono ?_
 .rw[we];exact⟨λp hp=>by simpa using R.ins p hp,R.lt⟩
 .rw[we];refine⟨λk hk=>?_,λp hp hk=>H.up p hp (by simpa using hk),λk hk=>?_⟩
  .have hk:k<ws.length:=by simpa using hk
   have:=hc k hk;have:=H.lo k hk;omega
  .have hk:k<ws.length:=by simpa using hk
   have:=hc k hk;rcases H.eq k hk with e|e
   .refine .inl ?_;omega
   .exact .inr e
 .rintro d x rfl;exact⟨_,rfl,rfl⟩
def LZ:F_cost_at=Bd.F_cost_at:=rfl
def Sq(h:Fy c):c.wok:=by
 cases c<;>first|trivial|exact h
def Re(ws:List Wg)(cs:Nat->Cost):Prop:=∀k,k<51->(ws[k]?).map Wg.co=some (Bf (cs k))/\Fy (cs k)/\D3 2000 (cs k)
def fO(h:Es ws):∃cs,Re ws cs:=by
 refine Classical.skolem (p:=λk c=>k<51->(ws[k]?).map Wg.co=some (Bf c)/\Fy c/\D3 2000 c) |>.mp λk=>?_;by_cases hk:k<51
 .obtain⟨_,_,c,e,k1,k2⟩:=h.2.2 ws[k] (List.getElem_mem hk);exact⟨c,λ_=>⟨by simp[hk,e],k1,k2⟩⟩
 .exact⟨.late 0,λh=>absurd h hk⟩
noncomputable def K6(ws:List Wg)(h:Nat->Int)(ks:List Nat):Int:=Cr (ks.map h)+(ks.map (B5 ws)).sum
def bnd(ws:List Wg)(cs:Nat->Cost)(h:Nat->Int)(M:Nat->Nat->Bool)(ks:List Nat):Int:=Cr ((CI M ks).map λk=>(cs k).at (K6 ws h ks))
def Fq(ks:List Nat)(g:Nat->Int):(ks.filterMap λk=>some (D.im (.int (g k))))=intD (ks.map g):=by simp[intD]
def IA(h:ns≠[]):F5 (intD ns)=some (.im (.int (Cr ns))):=by unfold F5;rw[HJ];simp[h]
def ZG(ns:List Int):JC (intD ns)=some (.im (.int ns.sum)):=by unfold JC;rw[HJ];rfl
def Gq{ws:List Wg}{k:Nat}(hk:k<51):(ws[k]).len=B5 ws k:=by simp[B5,hk]
def Hg{cs:Nat->Cost}(hc:Re ws cs){k:Nat}(hk:k<51):(ws[k]).co=Bf (cs k):=by
 have:=(hc k hk).1;simpa [hk]using this
def Sy{ws:List Wg}(hk:∀k∈ks,k<51)(hl:ks.length<=8){i j:Nat}(e0:ls[i]?=some (some (.im (AR ws))))(e1:ls[j]?=some (some (.im (Ao ks)))){QE:D->Hd->Prop}(q:QE (.im (.int (ks.map (B5 ws)).sum)) hd):
 WE (B7 JC (Ag 1 [i] (B0 (A1 j)) (AG 0) Bq (mOp gIx (mOp gIx (A1 1) (A1 0)) (mC (.int 0))))) ls hd QE:=by
 refine C1 (Aq (By (A3 e1 ⟨_,rfl,?_⟩)));rw[DP];refine⟨AL 112,?_⟩;have ec:E5 1 [i] ls=[none,some (.im (AR ws))]:=by simp[E5,e0]
 rw[ec];refine B4 (λk:Nat=>D.im (.int (k:Int))) (λk=>some (.im (.int (B5 ws k)))) (λ_ ls=>∃x,ls=[some x,some (.im (AR ws))]) _ (AQ _) ?_ ?_
 .rintro k hk' ls hls;have hkn:=hk k hk';refine⟨[some (.im (.int (k:Int))),some (.im (AR ws))],by rcases hls with rfl|⟨_,x,rfl⟩<;>rfl,⟨_,rfl⟩,BY ⟨rfl,?_⟩⟩;rw[ia rfl];refine⟨_,rfl,AD (AD (A3 rfl (A3 rfl (AI (by rw[CK,<- B1]) (CT hkn) (AN (AI rfl (Dc _ _) ⟨rfl,?_⟩))))))⟩;rw[Gq hkn]
 rw[Fq];exact⟨_,ZG _,q⟩
def RX{ws:List Wg}{W:List (Nat×Nat)}{rk:Nat->Nat}{cs:Nat->Cost}{M:Nat->Nat->Bool}{h:Nat->Int}(hn:51<=8)(hcm:∀k,k<51->0<=Ah ws k)(hW:W.length<=16)(R:Rk (λk=>k<51) W rk)(hrk:∀k,k<51->rk k<51)
 (Hh:IsHead (λk=>k<51) (Ah ws) (B5 ws) W h) (hM:Mt 51 (Cn W) M) (hc:Re ws cs) (hne:ks≠[]) (hk:∀k∈ks,k<51) (hl:ks.length<=8) (hlast:CI M ks≠[]):
 WF Cp [.im (AR ws),.im (.tup (W.map AO)),.im (Ao ks)] [] λd x=>d=.im (.int (bnd ws cs h M ks)):=by
 unfold Cp;refine Am rfl ?_;refine AA (AH (AX (A4 (A3 rfl (A4 (A3 rfl (AB ⟨by simp,(P5 hn hcm hW R hrk Hh).mono ?_⟩)))))));rintro r x rfl;refine⟨_,rfl,A7 ?_⟩;change WS _ [some (.im (AR ws)),some (.im (.tup (W.map AO))),some (.im (Ao ks)),some (.im (.tup ((57 51).map λk=>.int (h k)))),none] [] _;refine AA (AH (AD (C1 (Aq (By (A3 rfl ⟨_,rfl,?_⟩))))));rw[DP];refine⟨AL 112,?_⟩;refine B4 (λk:Nat=>D.im (.int (k:Int))) (λk=>some (.im (.int (h k)))) (λ_ ls=>∃x,ls=[some x,some (.im (.tup ((57 51).map λk=>.int (h k))))]) _ (AQ _) ?_ ?_
 .rintro k hk' ls hls;have hkn:=hk k hk';refine⟨[some (.im (.int (k:Int))),some (.im (.tup ((57 51).map λk=>.int (h k))))],by rcases hls with rfl|⟨_,x,rfl⟩<;>rfl,⟨_,rfl⟩,BY ⟨rfl,?_⟩⟩;rw[ia rfl];refine⟨_,rfl,AD (A3 rfl (A3 rfl (AI rfl (JR (k:=k) (x:=.im (.int (h k))) rfl ?_) ⟨rfl,rfl⟩)))⟩;simp[hkn]
 rw[Fq];refine⟨_,IA (by simpa using hne),?_⟩;refine AX (A4 (A3 rfl (A4 (A3 rfl (AB ⟨by simp,?_⟩)))));have lw:WF Bv [.im (AR ws),.im (Ao ks)] [] λd x=>d=.im (.int (ks.map (B5 ws)).sum):=by
  unfold Bv;refine Am rfl ?_;exact Ae (Sy hk hl rfl rfl rfl)
 refine lw.mono ?_;rintro r x rfl;refine⟨_,rfl,Bx (A7 ?_)⟩;change WS _ [some (.im (AR ws)),some (.im (.tup (W.map AO))),some (.im (Ao ks)),some (.im (.tup ((57 51).map λk=>.int (h k)))),some (.im (.int (K6 ws h ks)))] [] _;have ew:W.map AO=(Cn W).map Fh:=by rw[j3];rfl
 have hW':Wsh 51 (Cn W):=⟨by simpa using hW,λp hp=>by
  obtain⟨q,hq,rfl⟩:=mem_map.mp hp;have:=R.ins q hq;exact⟨q.1,q.2,this.1,this.2,rfl⟩⟩
 refine Ae (C1 (Aq (By (AX (A4 (BU (A4 (A3 rfl (AB (Bw rfl rfl ?_)))))))))) ;refine A4 (A3 rfl (A4 (A3 rfl (AB ⟨by simp,?_⟩))));rw[ew];have eln:(((ws.map wgI).map D.im).length:Int)=(ws.length:Int):=by simp
 rw[eln];refine(T2 hW' hM hk hl).mono ?_;rintro r x rfl;refine⟨_,rfl,_,rfl,?_⟩;rw[DP];have hll:(CI M ks).length<=8:=iw (jJ _ _) hl;refine⟨AL (by simp only[AM,iV];omega),?_⟩;refine B4 (λk:Nat=>D.im (.int (k:Int))) (λk=>some (.im (.int ((cs k).at (K6 ws h ks))))) (λ_ ls=>∃x,ls=[some x,some (.im (AR ws)),some (.im (.int (K6 ws h ks)))]) _ (AQ _) ?_ ?_
 .rintro k hk' ls hls;have hkn:=hk k (mem_filter.mp hk').1;refine⟨[some (.im (.int (k:Int))),some (.im (AR ws)),some (.im (.int (K6 ws h ks)))],by rcases hls with rfl|⟨_,x,rfl⟩<;>rfl,⟨_,rfl⟩,BY ⟨rfl,?_⟩⟩;rw[ia rfl];refine⟨_,rfl,AX (A4 (AD (AD (A3 rfl (A3 rfl (AI (by rw[CK,<- B1]) (CT hkn) (AN (AI rfl (FX _ _ _ _) ?_))))))))⟩;rw[Hg hc hkn];refine A4 (A3 rfl (AB ⟨by simp,?_⟩));rw[LZ];exact WP.eq (KB _ _ (Sq (hc k hkn).2.1)) ⟨_,rfl,rfl,rfl⟩
 rw[Fq];exact⟨_,IA (by simpa using hlast),rfl⟩
def Zf(rk:Nat->Nat):∀ks:List Nat,ks≠[]->∃u∈ks,∀v∈ks,rk v<=rk u:=by
 intro ks
 induction ks with
 |nil=>intro h;exact absurd rfl h
 |cons x r ih=>
  intro _;by_cases hr:r=[]
  .subst hr;exact⟨x,by simp,by simp⟩
  .obtain⟨u,hu,hm⟩:=ih hr;by_cases q:rk u<=rk x
   .refine⟨x,by simp,λv hv=>?_⟩;rcases mem_cons.mp hv with rfl|hv
    .exact ig _
    .exact iw (hm v hv) q
   .refine⟨u,by simp[hu],λv hv=>?_⟩;rcases mem_cons.mp hv with rfl|hv
    .omega
    .exact hm v hv
def ZF{M:Nat->Nat->Bool}{rk:Nat->Nat}(hne:ks≠[])(h:∀u∈ks,∀v∈ks,M u v=true->rk u<rk v):CI M ks≠[]:=by
 obtain⟨u,hu,hm⟩:=Zf rk ks hne;have:u∈CI M ks:=by
  refine mem_filter.mpr ⟨hu,?_⟩;rw[Bool.not_eq_true',any_eq_false];intro v hv q;have:=h u hu v hv q;have:=hm v hv;omega
 intro e;rw[e]at this;simp at this
theorem Mm(t:Int):∀{rows:List (Int×Int)} {x:Int},OD x rows->x<=Bh t rows x
 |[],x,_=>Int.le_refl _
 |(b,a)::r,x,h=>by
   unfold Bh;have:=Mm t h.2;have:=h.1;split<;>omega
theorem JZ{t t':Int}(ht:t<=t'):∀{rows:List (Int×Int)} {x:Int},OD x rows->Bh t rows x<=Bh t' rows x
 |[],x,_=>Int.le_refl _
 |(b,a)::r,x,h=>by
   unfold Bh;have h1:=JZ ht h.2;have h2:=Mm t' h.2;have:=h.1;by_cases c1:t<b
   .rw[ia c1];split<;>omega
   .rw[ie c1,ie 50];exact h1
def gZ(h:Fy c){t t':Int}(ht:t<=t'):c.at t<=c.at t':=by
 cases c with
 |late d=>show t-d<=t'-d;omega
 |tardy d w=>
  obtain⟨h0,_⟩:=h;show(if t-d<=0 then 0 else w*(t-d))<=(if t'-d<=0 then 0 else w*(t'-d));have h2:w*(t-d)<=w*(t'-d):=Int.mul_le_mul_of_nonneg_left 50 h0;by_cases c1:t-d<=0
  .rw[ia c1];split
   .exact Int.le_refl _
   .exact Int.mul_nonneg h0 50
  .rw[ie c1,ie 50];exact h2
 |miss d w=>
  obtain⟨h0,_⟩:=h;show(if t-d<=0 then 0 else w)<=(if t'-d<=0 then 0 else w);split<;>split<;>omega
 |ends w=>exact Int.mul_le_mul_of_nonneg_left ht h.1
 |steps rows=>exact JZ ht h.2.1
noncomputable def hdN(c l:Nat->Int)(W:List (Nat×Nat)):Nat->Nat->Int
 |0,k=>c k
 |t+1,k=>Eu (c k::(W.filter λp=>decide (p.2=k)).map λp=>hdN c l W t p.1+l p.1)
theorem GT{S:Nat->Prop}{rk:Nat->Nat}(R:Rk S W rk)(c l:Nat->Int):∀t k,rk k<=t->hdN c l W (t+1) k=hdN c l W t k
 |0,k,h=>by
  have e:(W.filter λp=>decide (p.2=k))=[]:=by
   rw[List.filter_eq_nil_iff];intro p hp q;have:=R.lt p hp;have q:p.2=k:=by simpa using q
   rw[q]at this;omega
  show Eu (c k::(W.filter λp=>decide (p.2=k)).map _)=c k;rw[e];have:=(EE (xs:=[c k]) 55).1;simpa using this
 |t+1,k,h=>by
  show Eu (c k::(W.filter λp=>decide (p.2=k)).map λp=>hdN c l W (t+1) p.1+l p.1)=Eu (c k::(W.filter λp=>decide (p.2=k)).map λp=>hdN c l W t p.1+l p.1)
  congr 2
  refine jS λp hp=>?_;obtain⟨h1,h2⟩:=mem_filter.mp hp;have h2:p.2=k:=by simpa using h2
  have:=R.lt p h1;rw[GT R c l t p.1 (by rw[h2]at this;omega)]
def ZM{n:Nat}{rk:Nat->Nat}(R:Rk (λk=>k<n) W rk)(hrk:∀k,k<n->rk k<n)(c l:Nat->Int):∃h,IsHead (λk=>k<n) c l W h:=by
 refine⟨hdN c l W n,λk hk=>?_,λp hp hk=>?_,λk hk=>?_⟩
 .rw[<- GT R c l n k (by have:=hrk k hk;omega)];exact(EE (xs:=c k::(W.filter λp=>decide (p.2=k)).map λp=>hdN c l W n p.1+l p.1) 55).2 _ ir
 .rw[<- GT R c l n p.2 (by have:=hrk p.2 hk;omega)];refine(EE (xs:=c p.2::(W.filter λq=>decide (q.2=p.2)).map λq=>hdN c l W n q.1+l q.1) 55).2 _ (il _ (mem_map.mpr ⟨p,mem_filter.mpr ⟨hp,by simp⟩,rfl⟩))
 .have e:=GT R c l n k (by have:=hrk k hk;omega);have ms:=(EE (xs:=c k::(W.filter λp=>decide (p.2=k)).map λp=>hdN c l W n p.1+l p.1) 55).1;rw[<- e];rcases mem_cons.mp ms with q|q
  .exact .inl q
  .obtain⟨p,hp,eq⟩:=mem_map.mp q;obtain⟨h1,h2⟩:=mem_filter.mp hp;refine .inr ⟨p,h1,by simpa using h2,?_⟩;exact eq.symm
open Classical in
noncomputable def Mc(W:List (Nat×Nat)):Nat->Nat->Bool:=λi j=>decide (Rc (Cn W) i j)
def fA(n:Nat)(W:List (Nat×Nat)):Mt n (Cn W) (Mc W):=λi j _ _=>by simp[Mc]
def f9{n:Nat}{rk:Nat->Nat}(R:Rk (λk=>k<n) W rk){u v:Nat}(h:Mc W u v=true):rk u<rk v:=by
 have h:Rc (Cn W) u v:=by simpa [Mc]using h
 obtain⟨_,j,ej,_,hlt,_⟩:=ad R h u rfl;have:v=j:=by omega
 rw[this];exact hlt
open Sx (Blk spl du)
def KK{js:List I}{QE:D->Hd->Prop}(h0:is≠[])(h1:is.length+js.length<=100)(q:QE (.im (.tup (is++js))) hd):WP (AT (.im (.tup is)) (.im (.tup js)) hd) QE:=by
 have cat:Wt (is.map D.im) (js.map D.im):=⟨by simpa using h0,AL 112⟩
 refine WP.eq (z:=.im (.tup (is++js))) (h:=hd) ?_ q;show(match Ku (.im (.tup is)) (.im (.tup js)) hd with|some z=>some z|none=>GV (.im (.tup is)) (.im (.tup js)) hd)=_;rw[show Ku (.im (.tup is)) (.im (.tup js)) hd=none from rfl];unfold GV;rw[show AS (.im (.tup is))=some (is.map D.im)from rfl,show AS (.im (.tup js))=some (js.map D.im)from rfl,bind_some,bind_some,ia cat,<- jD,B8]
noncomputable def BH(ws:List Wg)(k:Nat):Int:=max 1 (B5 ws k)
def DK(ws:List Wg)(k:Nat):1<=BH ws k:=by unfold BH;omega
def Sz(h:Es ws){k:Nat}(hk:k<51):1<=B5 ws k/\B5 ws k<=20:=by
 have:=(h.2.2 ws[k] (List.getElem_mem hk)).1;simpa [B5,hk]using this
def KD(h:Es ws){k:Nat}(hk:k<51):0<=Ah ws k/\Ah ws k<=60:=by
 have:=(h.2.2 ws[k] (List.getElem_mem hk)).2.1;simpa [Ah,hk]using this
def Cg(h:Es ws){k:Nat}(hk:k<51):BH ws k=B5 ws k:=by
 have:=Sz h hk;unfold BH;omega
def IE{n k:Nat}(h:Nat->Int)(hk:k<n):atI (((57 n).map λk=>I.int (h k)).map D.im) (k:Int)=some (.im (.int (h k))):=JR rfl (by simp[hk])
structure Ev(ws:List Wg)(cs:Nat->Cost)(W:List (Nat×Nat))(rk:Nat->Nat)(h:Nat->Int):Prop where
 ok:Es ws
 hcs:Re ws cs
 hW:W.length<=16
 R:Rk (λk=>k<51) W rk
 hrk:∀k,k<51->rk k<51
 H:IsHead (λk=>k<51) (Ah ws) (B5 ws) W h
 hb:∀k,k<51->0<=h k/\h k<=1000000
section
variable{cs:Nat->Cost}{rk:Nat->Nat}{h:Nat->Int}
def Ev.hM(E:Ev ws cs W rk h):Mt 51 (Cn W) (Mc W):=fA _ _
def Ev.lne(E:Ev ws cs W rk h)(hne:ks≠[]):CI (Mc W) ks≠[]:=ZF (rk:=rk) hne λu _ v _ q=>f9 E.R q
def Ev.sh(E:Ev ws cs W rk h):Wsh 51 (Cn W):=⟨by simpa using E.hW,λp hp=>by
 obtain⟨q,hq,rfl⟩:=mem_map.mp hp;have:=E.R.ins q hq;exact⟨q.1,q.2,this.1,this.2,rfl⟩⟩
structure St(ws:List Wg)(ks:List Nat):Prop where
 ne:ks≠[]
 lt:∀k∈ks,k<51
 l8:ks.length<=8
def Zc(E:Ev ws cs W rk h)(S:St ws ks):WF Cp [.im (AR ws),.im (.tup (W.map AO)),.im (Ao ks)] [] λd x=>d=.im (.int (bnd ws cs h (Mc W) ks)):=
 RX E.ok.2.1 (λk hk=>(KD E.ok hk).1) E.hW E.R E.hrk E.H E.hM E.hcs S.ne S.lt S.l8 (E.lne S.ne)
noncomputable def kfC(cs:Nat->Cost)(t:Int):D->Int|.im (.int i)=>(cs i.toNat).at t|_=>0
def R9(E:Ev ws cs W rk h)(S:St ws ks)(t:Int):WF CV [.im (AR ws),.im (.tup (W.map AO)),.im (Ao ks),.im (.int t)] [] λd x=>∃u:Nat,d=.im (.int (u:Int))/\u∈CI (Mc W) ks/\(cs u).at t=Cr ((CI (Mc W) ks).map λk=>(cs k).at t):=by
 unfold CV;refine Am rfl ?_;refine Ae (Rs (AX (A4 (BU (A4 (A3 rfl (AB (Bw rfl rfl ?_))))))));refine A4 (A3 rfl (A4 (A3 rfl (AB ⟨by simp,?_⟩))));have ew:W.map AO=(Cn W).map Fh:=by rw[j3];rfl
 have eln:(((ws.map wgI).map D.im).length:Int)=(ws.length:Int):=by simp
 rw[eln,ew];refine(T2 E.sh E.hM S.lt S.l8).mono ?_;rintro r x rfl;refine⟨_,rfl,?_⟩;have hne:=E.lne S.ne;have hlt:∀k∈CI (Mc W) ks,k<ws.length:=λk hk=>S.lt k (mem_filter.mp hk).1;generalize CI (Mc W) ks=L at hne hlt;cases L with
 |nil=>exact absurd rfl hne
 |cons b r=>
  have bm:=JP (kfC cs t) (AM r) (.im (.int (b:Int)));refine⟨.im (.int (b:Int)),AM r,kfC cs t,?_,λy hy=>?_,?_⟩
  .show some (((b::r).map λk:Nat=>I.int (k:Int)).map D.im)=_;simp[AM]
  .obtain⟨k,hk,rfl⟩:=mem_map.mp (show y∈AM (b::r)from hy);have hkn:=hlt k hk;have w:WE (A9 0 F_cost_at (A2 (mOp gIx (mOp gIx (A1 2) (A1 0)) (mC (.int 2))) (A2 (A1 1) A5))) [some (.im (.int (k:Int))),some (.im (.int t)),some (.im (AR ws))] [] λd x=>d=.im (.int ((cs k).at t))/\x=[]:=by
    refine AX (A4 (AD (AD (A3 rfl (A3 rfl (AI (by rw[CK,<- B1]) (CT hkn) (AN (AI rfl (FX _ _ _ _) ?_))))))));rw[Hg E.hcs hkn];refine A4 (A3 rfl (AB ⟨by simp,?_⟩));rw[LZ];exact WP.eq (KB _ _ (Sq (E.hcs k hkn).2.1)) ⟨_,rfl,rfl,rfl⟩
   obtain⟨d,x,e,rfl,rfl⟩:=w;exact e
  .obtain⟨h1,h2⟩:=bm;obtain⟨u,hu,eu⟩:=mem_map.mp (show BD (λn m=>decide (n<m)) (AM r) ((AM r).map (kfC cs t)) (.im (.int (b:Int))) (kfC cs t (.im (.int (b:Int))))∈AM (b::r)from h1);rw[<- eu]at h2 ⊢;refine⟨u,rfl,hu,?_⟩;have h3:∀k∈b::r,(cs u).at t<=(cs k).at t:=λk hk=>by
    have:=h2 (.im (.int (k:Int))) (show _∈AM (b::r)from mem_map.mpr ⟨k,hk,rfl⟩);simpa [kfC]using this
   have ms:=ED (xs:=(b::r).map λk=>(cs k).at t) 55;have g1:=ms.2 _ (mem_map.mpr ⟨u,hu,rfl⟩);obtain⟨v,hv,ev⟩:=mem_map.mp ms.1;have g2:=h3 v hv
   try dsimp only at ev g1
   omega
def Rl(ks:List Nat)(u:Nat)(hl:ks.length<=8):WF FN [.im (Ao ks),.im (.int (u:Int))] [] λd x=>d=.im (Ao (ks.filter λk=>decide (k≠u))):=by
 unfold FN;refine Am rfl ?_;refine Ae (C1 (Aq (By (A3 rfl ⟨_,rfl,?_⟩))));rw[DP];refine⟨AL (by simp[AM];omega),?_⟩;refine B4 (λk:Nat=>D.im (.int (k:Int))) (λk=>if k≠u then some (.im (.int (k:Int)))else none) (λ_ ls=>∃x,ls=[some x,some (.im (.int (u:Int)))]) _ (AQ _) ?_ ?_
 .rintro k hk ls hls;refine⟨[some (.im (.int (k:Int))),some (.im (.int (u:Int)))],by rcases hls with rfl|⟨_,x,rfl⟩<;>rfl,⟨_,rfl⟩,AU (AD (A3 rfl (A3 rfl (Gp ⟨_,rfl,rfl,?_⟩))))⟩;by_cases h:k=u
  .subst h;simp
  .have h1:¬ ((k:Int)=(u:Int)):=by omega
   simp only[h1,k4,Bool.not_false,iy];exact⟨_,by simp[h],A3 rfl ⟨rfl,rfl⟩⟩
 rw[Qr];exact⟨_,rfl,GM _⟩
def LJ{ss:List (List Nat)}(h:d∈ss.map Cq):∃s∈ss,d=Cq s:=by
 obtain⟨s,h1,h2⟩:=mem_map.mp h;exact⟨s,h1,h2.symm⟩
noncomputable def Qz:I->Nat|.int i=>i.toNat|_=>0
noncomputable def kfB(ws:List Wg)(cs:Nat->Cost)(h:Nat->Int)(W:List (Nat×Nat)):D->Int|.im (.tup is)=>bnd ws cs h (Mc W) (is.map Qz)|_=>0
def Kq(s:List Nat):kfB ws cs h W (Cq s)=bnd ws cs h (Mc W) s:=by
 show bnd ws cs h (Mc W) ((s.map λk:Nat=>I.int (k:Int)).map Qz)=_;rw[j3]
 congr 1
 have:(Qz ∘ λk:Nat=>I.int (k:Int))=id:=by funext k;simp[Qz]
 rw[this,List.map_id]
def ZP(E:Ev ws cs W rk h){k:Nat}{ss:List (List Nat)}(e:hd[k]?=some (.lst (ss.map Cq)))(hne:ss≠[])(hs:∀s∈ss,St ws s):WF CJ [.im (AR ws),.im (.tup (W.map AO)),.mu k] hd λd x=>∃s∈ss,d=Cq s/\∀s'∈ss,bnd ws cs h (Mc W) s'<=bnd ws cs h (Mc W) s:=by
 unfold CJ;refine Am rfl ?_;cases ss with
 |nil=>exact absurd rfl hne
 |cons b r=>
  have bm:=JQ (kfB ws cs h W) (r.map Cq) (Cq b);refine Ae (U9 (A3 rfl ⟨Cq b,r.map Cq,kfB ws cs h W,?_,λy hy=>?_,?_⟩))
  .simp only[Aa,e];rfl
  .obtain⟨s,hs',rfl⟩:=LJ (ss:=b::r) hy;have w:WE (A9 0 Cp (A2 (A1 1) (A2 (A1 2) (A2 (A1 0) A5)))) [some (Cq s),some (.im (AR ws)),some (.im (.tup (W.map AO)))] hd λd x=>d=.im (.int (bnd ws cs h (Mc W) s))/\x=hd:=by
    refine AX (A4 (A3 rfl (A4 (A3 rfl (A4 (A3 rfl (AB ⟨by simp,(Zc E (hs s hs')).mono ?_⟩)))))));rintro d x rfl;exact⟨_,rfl,rfl,rfl⟩
   obtain⟨d,x,e,rfl,rfl⟩:=w;rw[Kq];exact e
  .obtain⟨h1,h2⟩:=bm;obtain⟨s,hs',es⟩:=LJ (ss:=b::r) h1;rw[es]at h2 ⊢;refine⟨s,hs',rfl,λs' h'=>?_⟩;have:=h2 (Cq s') (show _∈(b::r).map Cq from mem_map.mpr ⟨s',h',rfl⟩);rw[Kq,Kq]at this;exact this
end
open Sx (Blk)
open Bk (Pc)
noncomputable def pcI(p:Pc):I:=.tup [.int (p.1:Int),.int p.2.1,.int p.2.2]
abbrev pcD(p:Pc):D:=.im (pcI p)
open Sx (Blk)
open Bk (Pc)
def Gs{F:List D->Hd->Option (D×Hd)}{QE:D->Hd->Prop}(h:WA m ls hd λds rest=>Al 0 ds=true/\WF F ds [] λd x=>∃k es,d=.mu k/\x[k]?=some (.lst es)/\Al 0 es=true/\QE (.mu rest.length) (rest++[.lst es])):WE (A9 0 F m) ls hd QE:=by
 obtain⟨ds,rest,e,hc,d,x,e2,k,es,rfl,e3,c3,q⟩:=h;refine⟨_,_,?_,q⟩;have t3:¬ k<0:=by omega
 simp only[A9,e,bind_some,List.take_zero,hc,e2,fin,ie t3,e3,c3,iy];simp
def TF{u:Nat}{L:List Nat}(h:u∈L):(L.filter λk=>decide (k≠u)).length<L.length:=by
 induction L with
 |nil=>cases h
 |cons x r ih=>
  by_cases e:x=u
  .subst e;have:=jJ (λk=>decide (k≠x)) r;simp;simpa using Nat.lt_succ_of_le this
  .have h:u∈r:=by rcases mem_cons.mp h with q|q;exact absurd q.symm e;exact q
   have:=ih h;rw[List.filter_cons_of_pos (by simpa using e)];simp only[j8];omega
abbrev chz(cs:Nat->Cost)(W:List (Nat×Nat)):List Nat->Int->Nat->Prop:=λM e u=>u∈CI (Mc W) M/\(cs u).at e=Cr ((CI (Mc W) M).map λk=>(cs k).at e)
open Sx (Blk)
open Bk (Pc)
def gr(ws:List Wg)(cs:Nat->Cost)(en:Nat->Int):Int:=Eu ((57 51).map λk=>(cs k).at (en k))
def i7{en:Nat->Int}(hw:∀p∈W,en p.1<en p.2){x y:Int}(r:Rc (Cn W) x y):∀i:Nat,x=i->∃j:Nat,y=j/\en i<en j:=by
 induction r with
 |one h=>
  rintro i rfl;obtain⟨⟨a,b⟩,hp,e⟩:=mem_map.mp h;simp only[Prod.mk.injEq]at e;obtain⟨e1,rfl⟩:=e;have:a=i:=by omega
  subst this;exact⟨b,rfl,hw _ hp⟩
 |step _ h ih=>
  intro i hi;obtain⟨m,rfl,lm⟩:=ih i hi;obtain⟨⟨a,b⟩,hp,e⟩:=mem_map.mp h;simp only[Prod.mk.injEq]at e;obtain⟨e1,rfl⟩:=e;have:a=m:=by omega
  subst this;have l:=hw _ hp;exact⟨b,rfl,Int.lt_trans lm l⟩
section
variable{cs:Nat->Cost}{rk:Nat->Nat}{h:Nat->Int}
def Ev.hs(E:Ev ws cs W rk h):Bk.Hs 51 (Ah ws) (BH ws) W h where
 pos k _:=DK ws k
 ins p hp:=E.R.ins p hp
 lo k hk:=E.H.lo k hk
 st p hp:=by have:=E.H.up p hp (E.R.ins p hp).2;rw[Cg E.ok (E.R.ins p hp).1];exact this
 eq k hk:=by
  rcases E.H.eq k hk with e|⟨p,hp,e1,e2⟩
  .exact .inl e
  .exact .inr ⟨p,hp,e1,by rw[Cg E.ok (E.R.ins p hp).1];exact e2⟩
def iJ(E:Ev ws cs W rk h)(hk:∀k∈ks,k<51):Sx.S (BH ws) ks=(ks.map (B5 ws)).sum:=by
 unfold Sx.S
 congr 1
 exact jS λk hk'=>Cg E.ok (hk k hk')
end
open PySem L2 Bd Hds
open Bk (Pc upd)
abbrev fl(n:Nat)(f:Nat->Int):List D:=intD ((57 n).map f)
def EY{n k:Nat}(f:Nat->Int)(hk:k<n):atI (fl n f) (k:Int)=some (.im (.int (f k))):=JR rfl (by simp[intD,hk])
def MC{n k:Nat}(f:Nat->Int)(hk:k<n):ixN (fl n f).length (k:Int)=some k:=by unfold ixN;simp[intD,hk]
def K3{n k:Nat}(f:Nat->Int)(v:Int):(fl n f).set k (.im (.int v))=fl n (upd f k v):=by
 refine ext_getElem? λi=>?_;rw[List.getElem?_set];by_cases hi:k=i
 .subst hi;by_cases hk:k<n
  .simp[intD,hk,Bk.upd_self]
  .simp[intD,hk]
 .simp only[hi,j5,intD,List.getElem?_map,j3];by_cases hi2:i<n
  .simp[hi2,Bk.upd_ne (f:=f) (v:=v) (λz:i=k=>hi z.symm)]
  .simp[hi2]
def Vv{n:Nat}{f g:Nat->Int}(h:∀k,k<n->f k=g k):fl n f=fl n g:=by
 unfold fl
 congr 1
 exact jS λk hk=>h k (by simpa using hk)
def P8(ok:Es ws):(ws.filterMap λw=>some (D.im (.int w.len)))=fl 51 (BH ws):=by
 rw[List.filterMap_eq_map'];unfold fl intD;rw[j3];refine List.ext_getElem 55 λi h1 h2=>?_;have hi:i<ws.length:=by simpa using h1
 simp only[List.getElem_map,Function.comp,List.getElem_range];rw[Cg ok hi,<- Gq hi]
def P7(n:Nat):(108 n [D.im (.int 0)]).flatten=fl n λ_=>0:=by
 simp only[intD,j3,Function.comp_def];rw[show(λ_:Nat=>D.im (.int 0))=Function.const Nat (D.im (.int 0))from rfl,List.map_const,List.length_range];simp
def Rt{QA:List D->Hd->Prop}(h:WA ml ls hd λds x=>WE mb ls x λe y=>∃k,e=.im (.int k)/\(0<=k/\k<=1000)/\Bg (104*k.toNat)/\QA (108 k.toNat ds).flatten y):WA (JA ml mb) ls hd QA:=by
 obtain⟨ds,x,e1,d,y,e2,k,rfl,h1,h2,q⟩:=h;exact⟨_,_,by simp only[JA,e1,bind_some,e2,h1,h2,and_self,iy],q⟩
def lay_ints(ns:List Int):PyData.canLayAll0 (ns.map PyData.int)=true:=by
 induction ns with
 |nil=>rfl
 |cons x r ih=>simp[PyData.canLayAll0,PyData.canLay0]at ih ⊢;try exact ih
def W0(ns:List Int):PyData.depthAll (ns.map PyData.int)<=1:=by
 induction ns with
 |nil=>simp[PyData.depthAll]
 |cons x r ih=>simp[PyData.depthAll,PyData.depth]at ih ⊢;try omega
def eO{n:Nat}(e:hd[n]?=some (.lst (intD ns))):pyD hd (.mu n)=some (.list (ns.map PyData.int)):=by simp only[pyD,e,intD,Dd,j4,Dm]
def Rp{QE:D->Hd->Prop}(h:WE ma ls hd λd x=>WA ml ls x λds y=>∃ns:List Int,ds=intD ns/\pyD y d=some (.list (ns.map PyData.int))/\QE (.im (.bl true)) y):WE (Dz false ma ml) ls hd QE:=by
 obtain⟨d,x,e1,ds,y,e2,ns,rfl,e3,q⟩:=h;refine⟨_,_,?_,q⟩;have c1:(PyData.list (ns.map PyData.int)).canLay0=true:=by rw[PyData.canLay0,lay_ints]
 have c2:min (PyData.list (ns.map PyData.int)).depth (PyData.list (ns.map PyData.int)).depth<=60:=by
  have:=W0 ns;rw[PyData.depth];omega
 simp only[Dz,e1,bind_some,e2,e3];rw[show intD ns=ns.map λi=>D.im (.int i)from rfl,Dd,bind_some,Dm];unfold JF;rw[ia ⟨c1,c1,c2⟩,PySem.SeqAt.eqv_refl _ c1];rfl
def Vi(i:Int):WF Gh [.im (.int i)] [] λd x=>d=.im (.bl true):=by
 unfold Gh;refine Am rfl ?_;refine Ae (XD (AU (JW (A3 rfl ⟨true,rfl,_,rfl,?_⟩))));rw[ia rfl];exact OZ (AU (JW (A3 rfl ⟨false,rfl,_,rfl,rfl⟩)))
inductive I_ends(ws:List Wg)(W:List (Nat×Nat))(h:Nat->Int)(ps:List Pc)(r:List D)(ls:Ls)(hd:Hd):Prop
 |mk (pre rest:List Pc) (left en:Nat->Int) (at_:Int) (z6 z7 z8 z9:Option D) (h0:r=rest.map pcD) (h1:ls=[some (.im (AR ws)),some (.im (.tup (W.map AO))),some (.im (.tup (ps.map pcI))),some (.mu 0),some (.mu 1),some (.im (.int at_)),z6,z7,z8,z9]) (h2:hd=[.lst (fl 51 left),.lst (fl 51 en)])
  (h3:ps=pre++rest) (h4:Bk.Inv 51 (BH ws) h W left en at_) (h5:∀k,k<51->left k=BH ws k-Bk.tot k pre) (h6:∀k,k<51->(∃q∈pre,q.1=k/\en k=q.2.2)∨∀q∈pre,q.1≠k) (h7:Bk.Row at_ rest):I_ends ws W h ps r ls hd
section
variable{cs:Nat->Cost}{rk:Nat->Nat}{h:Nat->Int}
set_option maxHeartbeats 1000000 in
def TW(E:Ev ws cs W rk h)(O:Du.Pk 51 h (BH ws) W ps):WF G5 [.im (AR ws),.im (.tup (W.map AO)),.im (.tup (ps.map pcI))] [] λd x=>∃(left en:Nat->Int) (t:Int),d=.mu 1/\x=[.lst (fl 51 left),.lst (fl 51 en)]/\Bk.Inv 51 (BH ws) h W left en t/\(∀k,k<51->left k=0)/\∀k,k<51->∃q∈ps,q.1=k/\en k=q.2.2:=by
 have hn:=E.ok.2.1;have eln:(((ws.map wgI).map D.im).length:Int)=(ws.length:Int):=by simp
 unfold G5;refine Am rfl ?_;refine AA (BQ (E7 (Bj (JW (A3 rfl ⟨true,rfl,_,rfl,(λz=>by cases z),λ_=>BF (A7 ?_)⟩)))));refine AA (AH (BE (Aq (By (A3 rfl ⟨_,rfl,?_⟩)))));rw[<- B1];refine⟨AL 112,?_⟩;refine B4 (λw=>D.im (wgI w)) (λw=>some (.im (.int w.len))) (λ_ ls=>∃x,ls=[some x]) _ (AQ _) ?_ ?_
 .rintro w hw ls hls;refine⟨[some (.im (wgI w))],by rcases hls with rfl|⟨_,x,rfl⟩<;>rfl,⟨_,rfl⟩,BY ⟨rfl,?_⟩⟩;rw[ia rfl];exact⟨_,rfl,AD (A3 rfl (AN (AI rfl (Dc _ _) ⟨rfl,rfl⟩)))⟩
 rw[P8 E.ok];refine A7 ?_;refine AA (AH (BE (Rt (C3 (A4 (AN (AB ⟨AL 55,?_⟩)))))));refine BU (A4 (A3 rfl (AB (Bw rfl rfl ⟨_,rfl,by simp;omega,AL 112,A7 ?_⟩))));rw[eln,ju,P7];refine AA (AH (AN (A7 ?_)));refine AA (E8 (By (A3 rfl ⟨_,rfl,?_⟩)));rw[show(ps.map pcI).map D.im=ps.map pcD by simp];refine Bl (I_ends ws W h ps) ⟨[],ps,BH ws,λ_=>0,0,none,none,none,none,rfl,rfl,rfl,rfl,Bk.Inv.start (λp hp=>E.R.ins p hp) (λk _=>DK ws k) (λk _=>rfl),λk _=>by simp[Bk.tot],λk _=>.inr 55,O.row⟩ ?_ ?_
 .rintro d r ls hd ⟨pre,rest,left,en,at_,z6,z7,z8,z9,er,rfl,rfl,eps,I,hleft,hen,row⟩;cases rest with
  |nil=>cases er
  |cons p rest=>
   obtain⟨rfl,rfl⟩:=List.cons.inj er;obtain⟨k,b,e⟩:=p;have hp:(k,b,e)∈ps:=by rw[eps];simp
   have hk:k<ws.length:=(O.mem _ hp).1;have hkb:h k<=b:=(O.mem _ hp).2;have r1:at_<=b:=row.1;have r2:b<e:=row.2.1;have r3:Bk.Row e rest:=row.2.2;have rge:=r3.ge;have hcom:Ah ws k<=b:=Int.le_trans (E.H.lo k hk) hkb;have tots:∀j,j<51->Bk.tot j pre+((if k=j then e-b else 0)+Bk.tot j rest)=BH ws j:=λj hj=>by
    have:=O.tot j hj;rw[eps,Bk.tot_app,Bk.tot]at this;exact this
   have fst0:∀w∈W,w.2=k->left w.1=0:=λw hw ew=>by
    have wn:=(E.R.ins w hw).1;have hq:∀q∈ps,q.1=w.1->q.2.2<=b:=λq hq eq=>O.wis w hw q hq _ hp eq ew.symm;have t1:=tots w.1 wn;rw[Bk.tot_none (a:=rest) λq hq' eq=>by
     have:=hq q (by rw[eps];simp[hq']) eq;have:=rge q hq';omega]at t1
    rw[ie λz:k=w.1=>by
     have:=hq _ hp z;have:e<=b:=this;omega]at t1
    rw[hleft w.1 wn];omega
   have mk:e-b<=left k:=by
    have t1:=tots k hk;rw[ia rfl]at t1;have:=Bk.tot_nn (k:=k) (a:=rest) λq hq=>(rge q hq).2;rw[hleft k hk];omega
   have st:=I.step E.hs hk r1 hcom fst0 (m:=e-b) 50 mk;rw[show b+(e-b)=e by omega]at st;refine⟨_,rfl,?_⟩;dsimp only[set_cons_zero,set_cons_succ];refine AA (BQ (D8 (E7 (Bj (JW (A3 rfl ⟨true,rfl,_,rfl,?_⟩))))));rw[ie 55];refine D8 (AU (AD (BU (A4 (A3 rfl (AB (Bw rfl rfl (AN (Gp ⟨_,rfl,?_⟩)))))))));rw[ie 55];refine AU (Zn (AN (Aq (By (A3 rfl ⟨_,rfl,?_⟩)))));refine⟨DY,?_⟩;refine B4 (xs:=[(k:Int),b,e]) (λi:Int=>D.im (.int i)) (λ_=>some (.im (.bl true))) (λ_ ls=>∃x,ls=[some x]) _ (AQ _) ?_ ?_
   .rintro i _ ls hls;refine⟨[some (.im (.int i))],by rcases hls with rfl|⟨_,x,rfl⟩<;>rfl,⟨_,rfl⟩,BY ⟨rfl,?_⟩⟩;rw[ia rfl];refine⟨_,rfl,AX (A4 (A3 rfl (AB ⟨by simp,(Vi i).mono ?_⟩)))⟩;rintro d x rfl;exact⟨_,rfl,rfl,rfl⟩
   refine⟨_,.bl false,[.bl true,.bl true,.bl true],rfl,rfl,rfl,_,rfl,(λz=>by cases z),λ_=>BF (A7 ?_)⟩;refine AA (Ri (A3 rfl ⟨_,rfl,A7 ?_⟩));refine AA (BQ (D8 (E7 (AU (U7 (AN (A3 rfl (Hf ⟨_,rfl,λ_=>?_,λz=>?_⟩))))))))
   rotate_left
   .exact absurd (jM z) 50
   refine BU (A4 (A3 rfl (AB (Bw rfl rfl (He ⟨_,rfl,?_⟩)))));rw[eln,ie (by simp;exact hk)];refine D8 (AU (AD (A3 rfl (A3 rfl (He ⟨_,rfl,?_⟩)))));rw[ie (by simp;exact r1)];refine D8 (AU (AD (A3 rfl (A3 rfl (Hf ⟨_,rfl,?_⟩)))));rw[ie (by simp;exact r2)];refine AU (AD (A3 rfl (AD (AD (A3 rfl (A3 rfl (AI (by rw[CK,<- B1]) (CT hk) (AN (AI rfl (Dv _ _ _) (He ⟨_,rfl,(λz=>?_),λ_=>BF (A7 ?_)⟩))))))))))
   .have z:=jG z;simp[Ah,hk]at hcom;dsimp only at z;omega
   refine AA (BQ (AU (U6 (Aq (By (A3 rfl ⟨_,rfl,?_⟩))))));rw[show(W.map AO).map D.im=W.map λp=>D.im (AO p) by simp];have hW:=E.hW;refine⟨AL 112,?_⟩;refine B4 (λp=>D.im (AO p)) (λ_=>none) (λ_ ls=>∃x y,ls=[some x,some y,some (.im (.int (k:Int))),some (.mu 0),some (.mu 1),some (.im (.int b))]) _ (AQ _) ?_ ?_
   .rintro w hw ls hls;have wn:=(E.R.ins w hw).1;refine⟨[some (.im (.int (w.1:Int))),some (.im (.int (w.2:Int))),some (.im (.int (k:Int))),some (.mu 0),some (.mu 1),some (.im (.int b))],by rcases hls with rfl|⟨_,x,y,rfl⟩<;>rfl,⟨_,_,rfl⟩,FZ (AU (AD (A3 rfl (A3 rfl (EA ⟨_,rfl,?_⟩)))))⟩;by_cases ew:w.2=k
    .rw[ia (by simp[ew])];have f0:=fst0 w hw ew;have lp:=DK ws w.1;have et:=I.et w.1 wn 50;refine D8 (AU (AD (AD (A3 rfl (A3 rfl (AI rfl (EY left wn) (AN (GB ⟨_,rfl,?_⟩))))))));rw[ie (by rw[f0];simp)];refine AU (AD (AD (A3 rfl (A3 rfl (AI rfl (EY en wn) (A3 rfl (GB ⟨_,rfl,rfl,?_⟩)))))));rw[ie 112]
    .rw[ie 112];exact⟨rfl,by rw[ie 55]⟩
   have en0:(W.filterMap λ_=>(none:Option D))=intD []:=by simp[intD]
   rw[en0];refine⟨[],rfl,_,rfl,(λz=>by simp at z),λ_=>BF (A7 ?_)⟩;refine AA (Dg (AD (AD (A3 rfl (A3 rfl (AI rfl (EY left hk) (AD (A3 rfl (A3 rfl (Eg (Eg (A3 rfl (A3 rfl ⟨0,_,k,_,rfl,rfl,rfl,MC left hk,A7 ?_⟩)))))))))))));rw[K3];refine AA (Dg (A3 rfl (A3 rfl (A3 rfl ⟨1,_,k,_,rfl,rfl,rfl,MC en hk,A7 ?_⟩))));rw[K3];refine AH (A3 rfl ⟨AQ _,pre++[(k,b,e)],rest,_,_,e,_,_,_,_,rfl,rfl,rfl,by rw[eps];simp,st,λj hj=>?_,λj hj=>?_,r3⟩)
   .rw[Bk.tot_app];have:=hleft j hj;by_cases ej:j=k
    .subst ej;rw[Bk.upd_self];simp[Bk.tot];omega
    .rw[Bk.upd_ne ej,this];simp only[Bk.tot];rw[ie λz:k=j=>ej z.symm];omega
   .by_cases ej:j=k
    .subst ej;rw[Bk.upd_self];exact .inl ⟨(j,b,e),by simp,rfl,rfl⟩
    .rw[Bk.upd_ne ej];rcases hen j hj with⟨q,hq,z⟩|z
     .exact .inl ⟨q,by simp[hq],z⟩
     .refine .inr λq hq=>?_;rcases mem_append.mp hq with y|y
      .exact z q y
      .rw[iU]at y;subst y;exact λz=>ej z.symm
 .rintro ls hd ⟨pre,rest,left,en,at_,z6,z7,z8,z9,er,rfl,rfl,eps,I,hleft,hen,row⟩;have:rest=[]:=by cases rest with
   |nil=>rfl
   |cons t r=>cases er
  subst this;rw[je]at eps;subst eps;have l0:∀k,k<51->left k=0:=λk hk=>by
   rw[hleft k hk,O.tot k hk];omega
  refine A7 (Ae (Fb (AU (Rp (A3 rfl (Rt (C3 (A4 (AN (AB ⟨AL 55,?_⟩))))))))));refine BU (A4 (A3 rfl (AB (Bw rfl rfl ⟨_,rfl,by simp;omega,AL 112,?_⟩))));rw[eln,ju,P7];refine⟨_,rfl,?_,_,rfl,λ_=>A3 rfl ⟨left,en,at_,rfl,rfl,I,l0,λk hk=>?_⟩,(λz=>by cases z)⟩
  .rw[Vv l0];exact eO rfl
  .rcases hen k hk with z|z
   .exact z
   .have:=O.tot k hk;rw[Bk.tot_none z]at this;have:=DK ws k;omega
end
open Bk (Pc upd)
def OV{i:Nat}{P:List Pc}(eh:hd[i]?=some (.lst (P.map pcD)))(hl:P.length<=100)(k:Nat)(b e:Int):WF D7 [.mu i,.im (.int (k:Int)),.im (.int b),.im (.int e)] hd λd x=>d=.im .non/\x=hd.set i (.lst ((Du.addP P k b e).map pcD)):=by
 have tr:CC hd (.mu i)=some (!(P.map pcD).isEmpty):=by simp only[CC,eh]
 have sv:As hd (.mu i)=some (P.map pcD):=by simp[As,AS,Aa,eh]
 unfold D7;refine Am rfl ?_;refine BQ (FZ (Bj (A3 rfl ⟨_,tr,?_⟩)));have app:∀{Q:Fl->Hd->Prop},Q (.nx [some (.mu i),some (.im (.int (k:Int))),some (.im (.int b)),some (.im (.int e))]) (hd.set i (.lst ((P++[(k,b,e)]).map pcD)))->WS (Ay (mMt Ar (A1 0) (A2 (Ak (A2 (A1 1) (A2 (A1 2) (A2 (A1 3) A5)))) A5))) [some (.mu i),some (.im (.int (k:Int))),some (.im (.int b)),some (.im (.int e))] hd Q:=λ{Q} q=>by
  refine Cf (GC (A3 rfl ⟨⟨_,by rw[MB,eh]⟩,A4 (Bz (A4 (A3 rfl (A4 (A3 rfl (A4 (A3 rfl (AB ⟨DY,AB ?_⟩))))))))⟩));refine EB eh (BI 112) ?_;rw[show(P++[(k,b,e)]).map pcD=P.map pcD++[Ap [.im (.int (k:Int)),.im (.int b),.im (.int e)]] by rw[jD];rfl]at q;exact q
 rcases Du.nil_or P with rfl|⟨P',p,rfl⟩
 .rw[ie 55];exact⟨(λh=>by cases h),λ_=>app ⟨rfl,rfl⟩⟩
 .rw[ia 55];rw[Du.addP_snoc];have la:atI ((P'++[p]).map pcD) (-1)=some (pcD p):=by rw[jD];exact WH _ _
  have gl:∀{j:Int} {v:D} {QE:D->Hd->Prop},atI [D.im (.int (p.1:Int)),.im (.int p.2.1),.im (.int p.2.2)] j=some v->QE v hd->WE (mOp gIx (mOp gIx (A1 0) (GQ (mC (.int 1)))) (mC (.int j))) [some (.mu i),some (.im (.int (k:Int))),some (.im (.int b)),some (.im (.int e))] hd QE:=λ{j v QE} ea q=>
   AD (AD (A3 rfl (Ro (AN ⟨_,rfl,AI (ds:=(P'++[p]).map pcD) sv la (AN (AI (ds:=[D.im (.int (p.1:Int)),.im (.int p.2.1),.im (.int p.2.2)]) rfl ea q))⟩))))
  refine FZ (AU (AD (gl (Dc _ _) (A3 rfl (EA ⟨_,rfl,?_⟩)))));by_cases h1:p.1=k
  .rw[ia (by simp[h1])];refine AU (AD (gl (FX _ _ _ _) (A3 rfl (EA ⟨_,rfl,λh2=>?_,λh2=>?_⟩))))
   .have h2:p.2.2=b:=by simpa using h2
    rw[ia ⟨h1,h2⟩];refine Dg (Bz (A4 (A3 rfl (A4 (gl (Dv _ _ _) (A4 (A3 rfl (AB ⟨DY,A3 rfl (Ro (AN ⟨_,rfl,?_⟩))⟩))))))));refine⟨i,-1,P'.length,(P'++[p]).map pcD,rfl,rfl,eh,?_,?_⟩
    .unfold ixN;rw[ie 107,ia 112]
     congr 1
     simp;omega
    .refine⟨rfl,?_⟩;rw[jD,jD];simp[Ap,B9];rfl
   .have h2:¬ p.2.2=b:=by simpa using h2
    rw[ie (λh=>h2 h.2)];exact app ⟨rfl,rfl⟩
  .rw[ie 112,ie (λh=>h1 h.1)];exact⟨(λh=>by cases h),λ_=>app ⟨rfl,rfl⟩⟩
def X6{f:Int->Int->Int}{QS:Fl->Hd->Prop}(h:WE mo ls hd λd x=>WE mi ls x λi y=>∃n k ds j v,d=.mu n/\i=.im (.int k)/\y[n]?=some (.lst ds)/\ixN 104 k=some j/\ds[j]?=some (.im (.int v))/\WE me ls y λr z=>∃u ds',r=.im (.int u)/\z[n]?=some (.lst ds')/\ds'.length=104/\QS (.nx ls) (z.set n (.lst (ds'.set j (.im (.int (f v u))))))):WS (GR mo mi me f) ls hd QS:=by
 obtain⟨d,x,e1,i,y,e2,n,k,ds,j,v,rfl,rfl,e3,e4,e5,r,z,e6,u,ds',rfl,e7,e8,q⟩:=h;refine⟨_,_,?_,q⟩;unfold GR;simp only[e1,bind_some,e2,e3,e4,e5,e6,e7,e8,iy]
def ft(p:Nat->Prop)[DecidablePred p](g:Nat->Int)(L:List Nat):(L.filterMap λk=>if p k then some (D.im (.int (g k)))else none)=intD ((L.filter λk=>decide (p k)).map g):=by
 induction L with
 |nil=>rfl
 |cons x r ih=>
  rw[jA,jE];by_cases h:p x
  .rw[ia h,jl h,ia rfl,ih];rfl
  .rw[ie h,j9 h,ie 55,ih]
noncomputable abbrev Lq(ws:List Wg)(h dd:Nat->Int)(t:Int)(z6 z7 z8:Option D):Ls:=[some (.im (AR ws)),some (.im (.tup ((57 51).map λk=>.int (h k)))),some (.fv 1 (fl 51 dd)),some (.mu 0),some (.mu 1),some (.im (.int t)),z6,z7,z8]
noncomputable abbrev Hq(n:Nat)(lf:Nat->Int)(P:List Pc)(g:Hd):Hd:=.lst (fl n lf)::.lst (P.map pcD)::g
def hnG:(a::b::(g++[x]))[(a::b::g).length]?=some x:=by simp
def lvG:Aa (a::b::(g++[.lst ds])) (.mu (a::b::g).length)=some ds:=by simp[Aa]
noncomputable def kfD(dd:Nat->Int):D->Int×Int
 |.im (.int k)=>(dd k.toNat,k)
 |_=>(0,0)
def fE{n:Nat}{dd:Nat->Int}{k:Nat}{v:Int}(hk:k<n)(e0:∀QE:D->Hd->Prop,QE (.im (.int v)) hd->WP (gIx (.mu 0) (.im (.int (k:Int))) hd) QE):(Ak (A2 (DW (A1 1) (A2 (A1 0) (A2 (mOp gIx (A1 2) (A1 0)) A5))) (A2 (A1 0) A5))) [some (.im (.int (k:Int))),some (.fv 1 (fl n dd)),some (.mu 0)] hd=some (.im (.tup [.int (dd k),.int (k:Int)]),hd):=by
 have w:WE (Ak (A2 (DW (A1 1) (A2 (A1 0) (A2 (mOp gIx (A1 2) (A1 0)) A5))) (A2 (A1 0) A5))) [some (.im (.int (k:Int))),some (.fv 1 (fl n dd)),some (.mu 0)] hd λd x=>d=.im (.tup [.int (dd k),.int (k:Int)])/\x=hd:=by
  refine Bz (A4 (Rq (A3 rfl ⟨rfl,A4 (A3 rfl (A4 (AD (A3 rfl (A3 rfl (e0 _ (AB ⟨_,_,_,rfl,EY dd hk,A4 (A3 rfl (AB ⟨HM,rfl,rfl⟩))⟩)))))))⟩)))
 obtain⟨d,x,e,rfl,rfl⟩:=w;exact e
open PySem L2 Bd Hds
open Bk (Pc upd)
abbrev fC:MS:=(A6 (AE 6 (AY (Ag 1 [3] (Ey (A2 (mCB (f1 true BO) (A2 (A1 0) A5)) A5)) (AG 0) (AC (mOp gGt (mOp gIx (A1 1) (A1 0)) (mC (.int 0)))) (A1 0))))
 (A6 (AE 5 (mCB E3 (A2 (A1 5) (A2 (B7 F5 (Ag 1 [1] (Br (A1 6)) (AG 0) Bq (mOp gIx (A1 1) (A1 0)))) A5))))
 (A6 (AE 7 (Jt (AY (Ag 1 [1,5] (Br (A1 6)) (AG 0) (AC (mOp gLe (mOp gIx (A1 1) (A1 0)) (A1 2))) (A1 0))) [2,3] (Ak (A2 (DW (A1 1) (A2 (A1 0) (A2 (mOp gIx (A1 2) (A1 0)) A5))) (A2 (A1 0) A5)))))
 (A6 (AE 8 (B7 F5 (HF (AY (Ai (A2 (mOp AT (A1 5) (mOp gIx (A1 3) (A1 7))) A5))) (AY (Ag 1 [1,5] (Br (A1 6)) (AG 0) (AC (mOp gGt (mOp gIx (A1 1) (A1 0)) (A1 2))) (mOp gIx (A1 1) (A1 0)))))))
 (A6 (Ay (D0 D7 (A2 (A1 4) (A2 (A1 7) (A2 (A1 5) (A2 (A1 8) A5))))))
 (A6 (GR (A1 3) (A1 7) (mOp Cj (A1 8) (A1 5)) (λi j=>i-j))
 (AE 5 (A1 8))))))))
set_option maxHeartbeats 2000000 in
def Zr{ws:List Wg}{h dd:Nat->Int}{lf:Nat->Int}{P:List Pc}{t:Int}(n8:51<=8)(pl:P.length<=16)(some1:∃j,j<51/\0<lf j){Q:Fl->Hd->Prop}
 (hQ:∀t' k s g z6 z7 z8,Du.Tn 51 h dd lf t t' k s->Q (.nx (Lq ws h dd s z6 z7 z8)) (Hq 51 (upd lf k (lf k-(s-t'))) (Du.addP P k t' s) g)):WS fC (Lq ws h dd t z6 z7 z8) (Hq 51 lf P g) Q:=by
 obtain⟨j0,j0n,j00⟩:=some1
 -- undone
 refine AA (AH (BE (Aq (Pe (A4 (BU (A4 (A3 rfl (AB (Bw (ds:=(ws.map wgI).map D.im) (z:=.im (.int (ws.length:Int))) rfl (by simp[BO]) (AB ⟨_,rfl,Ff 50 50,?_⟩)))))))))));rw[ju,ES];refine⟨AL (by simp[AM];omega),?_⟩;refine B4 (xs:=57 51) (λk:Nat=>D.im (.int (k:Int))) (λk=>if 0<lf k then some (.im (.int (k:Int)))else none) (λ_ ls=>∃x,ls=[some x,some (.mu 0)]) _ (AQ _) ?_ ?_
 .rintro k hk ls hls;have hk:k<ws.length:=by simpa using hk
  refine⟨[some (.im (.int (k:Int))),some (.mu 0)],by rcases hls with rfl|⟨_,x,rfl⟩<;>rfl,⟨_,rfl⟩,?_⟩;refine AU (AD (AD (A3 rfl (A3 rfl (AI (ds:=fl 51 lf) rfl (EY lf hk) (AN (GB ⟨_,rfl,rfl,?_⟩)))))));by_cases h:0<lf k
  .rw[ia (by simpa using h),ia h];exact⟨_,rfl,A3 rfl ⟨rfl,rfl⟩⟩
  .rw[ie (by simpa using h),ie h]
 rw[Qr];refine A7 ?_;have hU:∀k,k∈(57 51).filter (λk=>decide (0<lf k))↔k<51/\0<lf k:=λk=>by simp
 have lU:((57 51).filter λk=>decide (0<lf k)).length<=8:=by
  have:((57 51).filter λk=>decide (0<lf k)).length<=(57 51).length:=jJ _ _;simp at this;omega
 generalize (57 51).filter (λk=>decide (0<lf k))=U at hU lU;have jU:j0∈U:=(hU j0).mpr ⟨j0n,j00⟩;have neU:U≠[]:=λh=>by rw[h]at jU;cases jU
 change WS _ (Lq ws h dd t (some (.mu (Hq 51 lf P g).length)) z7 z8) (Hq 51 lf P (g++[.lst (AM U)])) _;have sh:∀y:Hd,As y (.im (.tup ((57 51).map λk=>.int (h k))))=some (((57 51).map λk=>I.int (h k)).map D.im):=λ_=>rfl
 -- t
 have ne1:U.map h≠[]:=by simpa using neU
 obtain⟨m1,m2⟩:=ED ne1;refine AA (AH (BU (A4 (A3 rfl (A4 (C1 (Aq (Ie (A3 rfl ⟨_,AM U,rfl,hnG,AL (by simp[AM];omega),?_⟩)))))))));refine B4 (xs:=U) (λk:Nat=>D.im (.int (k:Int))) (λk=>some (.im (.int (h k)))) (λ_ ls=>∃x,ls=[some x,some (.im (.tup ((57 51).map λk=>.int (h k))))]) _ (by intro p hp;rw[iU]at hp;subst hp;exact hnG) ?_ ?_
 .rintro k hk ls hls;refine⟨[some (.im (.int (k:Int))),some (.im (.tup ((57 51).map λk=>.int (h k))))],by rcases hls with rfl|⟨_,x,rfl⟩<;>rfl,⟨_,rfl⟩,BY ⟨rfl,?_⟩⟩;rw[ia rfl];exact⟨_,rfl,AD (A3 rfl (A3 rfl (AI (sh _) (IE h ((hU k).mp hk).1) ⟨rfl,rfl⟩)))⟩
 rw[Fq];refine⟨_,IA ne1,AB (Fa (A7 ?_))⟩;generalize Cr (U.map h)=m at m1 m2;obtain⟨t',ht'⟩:∃t',t'=max t m:=⟨_,rfl⟩
 rw[<- ht'];have mU:∃j,j<51/\0<lf j/\h j=m:=by
  obtain⟨j,hj,e⟩:=mem_map.mp m1;exact⟨j,((hU j).mp hj).1,((hU j).mp hj).2,e⟩
 have mle:∀j,j<51->0<lf j->m<=h j:=λj h1 h2=>m2 _ (mem_map.mpr ⟨j,(hU j).mpr ⟨h1,h2⟩,rfl⟩);generalize ea6:(Hq 51 lf P g).length=a6;have ea6:a6=2+g.length:=by rw[<- ea6];simp;omega
 change WS _ (Lq ws h dd t' (some (.mu a6)) z7 z8) _ _;have h6:∀(lf':Nat->Int) (P':List Pc) (g':Hd),(Hq 51 lf' P' (g++.lst (AM U)::g'))[a6]?=some (.lst (AM U)):=λlf' P' g'=>by rw[ea6,show 2+g.length=g.length+2 by omega];simp
 -- the work
 refine AA (AH (U8 (BE (Aq (Ie (A3 rfl ⟨_,AM U,rfl,h6 lf P [],AL (by simp[AM];omega),?_⟩))))));refine B4 (xs:=U) (λk:Nat=>D.im (.int (k:Int))) (λk=>if h k<=t' then some (.im (.int (k:Int)))else none) (λ_ ls=>∃x,ls=[some x,some (.im (.tup ((57 51).map λk=>.int (h k)))),some (.im (.int t'))]) _ (by intro p hp;rw[iU]at hp;subst hp;exact h6 lf P []) ?_ ?_
 .rintro k hk ls hls;refine⟨[some (.im (.int (k:Int))),some (.im (.tup ((57 51).map λk=>.int (h k)))),some (.im (.int t'))],by rcases hls with rfl|⟨_,x,rfl⟩<;>rfl,⟨_,rfl⟩,?_⟩;refine AU (AD (AD (A3 rfl (A3 rfl (AI (sh _) (IE h ((hU k).mp hk).1) (A3 rfl (Hf ⟨_,rfl,rfl,?_⟩)))))));by_cases c:h k<=t'
  .rw[ia (by simpa using c),ia c];exact⟨_,rfl,A3 rfl ⟨rfl,rfl⟩⟩
  .rw[ie (by simpa using c),ie c]
 rw[Qr];have hV:∀k,k∈U.filter (λk=>decide (h k<=t'))↔(k<51/\0<lf k)/\h k<=t':=λk=>by rw[mem_filter,hU];simp
 have neV:U.filter (λk=>decide (h k<=t'))≠[]:=λc=>by
  obtain⟨j,h1,h2,h3⟩:=mU;have:=(hV j).mpr ⟨⟨h1,h2⟩,by omega⟩;rw[c]at this;cases this
 generalize U.filter (λk=>decide (h k<=t'))=V at hV neV;cases V with
 |nil=>exact absurd rfl neV
 |cons v0 vs=>
 obtain⟨g2,eg2⟩:∃g2,g2=g++[.lst (AM U)]:=⟨_,rfl⟩
 rw[<- eg2];have h6':∀(lf':Nat->Int) (P':List Pc) (g':Hd),(Hq 51 lf' P' (g2++g'))[a6]?=some (.lst (AM U)):=λlf' P' g'=>by rw[eg2,jI];exact h6 lf' P' g'
 refine⟨D.im (.int (v0:Int)),AM vs,kfD dd,lvG,λy hy=>?_,?_⟩
 .have hy:y∈AM (v0::vs):=hy;obtain⟨k,hk,rfl⟩:=mem_map.mp hy;have hk:=((hV k).mp hk).1.1;simp only[kfD,ju];exact fE (v:=lf k) hk λQE q=>AI (ds:=fl 51 lf) rfl (EY lf hk) q
 have bm:=Ha (kfD dd) (AM vs) (D.im (.int (v0:Int)));generalize BD ltZ (AM vs) ((AM vs).map (kfD dd)) (D.im (.int (v0:Int))) (kfD dd (D.im (.int (v0:Int))))=db at bm ⊢;obtain⟨b1,b2⟩:=bm;obtain⟨k,hk,rfl⟩:=mem_map.mp (show db∈AM (v0::vs)from b1);have km:∀j∈v0::vs,dd k<dd j∨dd k=dd j/\k<=j:=λj hj=>by
  have:=b2 (D.im (.int (j:Int))) (show _∈AM (v0::vs)from mem_map.mpr ⟨j,hj,rfl⟩);unfold leP ltZ at this;have:=jM this;simp only[kfD,ju]at this;omega
 obtain⟨⟨kn,k0⟩,kc⟩:=(hV k).mp hk;refine A7 ?_;change WS _ (Lq ws h dd t' (some (.mu a6)) (some (.im (.int (k:Int)))) z8) (Hq 51 lf P (g2++[.lst (AM (v0::vs))])) _;generalize AM (v0::vs)=vD;obtain⟨g3,eg3⟩:∃g3,g3=g2++[.lst vD]:=⟨_,rfl⟩
 rw[<- eg3];have h6a:∀(lf':Nat->Int) (P':List Pc) (g':Hd),(Hq 51 lf' P' (g3++g'))[a6]?=some (.lst (AM U)):=λlf' P' g'=>by rw[eg3,jI];exact h6' lf' P' _
 -- the stop
 refine AA (AH (C1 (Ru (BE (C3 (A4 (AD (A3 rfl (AD (A3 rfl (A3 rfl (AI (ds:=fl 51 lf) rfl (EY lf kn) (Bx (AB ⟨F7,?_⟩))))))))))))));refine BE (Aq (Ie (A3 rfl ⟨_,AM U,rfl,h6a lf P _,AL (by simp[AM];omega),?_⟩)));refine B4 (xs:=U) (λk:Nat=>D.im (.int (k:Int))) (λk=>if t'<h k then some (.im (.int (h k)))else none) (λ_ ls=>∃x,ls=[some x,some (.im (.tup ((57 51).map λk=>.int (h k)))),some (.im (.int t'))]) _ (by intro p hp;rw[iU]at hp;subst hp;exact h6a lf P _) ?_ ?_
 .rintro j hj ls hls;refine⟨[some (.im (.int (j:Int))),some (.im (.tup ((57 51).map λk=>.int (h k)))),some (.im (.int t'))],by rcases hls with rfl|⟨_,x,rfl⟩<;>rfl,⟨_,rfl⟩,?_⟩;refine AU (AD (AD (A3 rfl (A3 rfl (AI (sh _) (IE h ((hU j).mp hj).1) (A3 rfl (GB ⟨_,rfl,rfl,?_⟩)))))));by_cases c:t'<h j
  .rw[ia (by simpa using c),ia c];exact⟨_,rfl,AD (A3 rfl (A3 rfl (AI (sh _) (IE h ((hU j).mp hj).1) ⟨rfl,rfl⟩)))⟩
  .rw[ie (by simpa using c),ie c]
 rw[ft];have hB:∀x,x∈(U.filter λk=>decide (t'<h k)).map h↔∃j,j<51/\0<lf j/\t'<h j/\h j=x:=λx=>by
  rw[mem_map];constructor
  .rintro⟨j,hj,e⟩;obtain⟨h1,h2⟩:=mem_filter.mp hj;exact⟨j,((hU j).mp h1).1,((hU j).mp h1).2,by simpa using h2,e⟩
  .rintro⟨j,h1,h2,h3,e⟩;exact⟨j,mem_filter.mpr ⟨(hU j).mpr ⟨h1,h2⟩,by simpa using h3⟩,e⟩
 have lB:((U.filter λk=>decide (t'<h k)).map h).length<=8:=by
  rw[iV];exact iw (jJ _ _) lU
 generalize (U.filter λk=>decide (t'<h k)).map h=B at hB lB;have ne2:(t'+lf k)::B≠[]:=by simp
 obtain⟨s1,s2⟩:=ED ne2;have lenB:(intD B).length<=8:=by simpa [intD]using lB
 refine⟨_,_,[.im (.int (t'+lf k))],intD B,rfl,rfl,(by rw[List.getElem?_append_left 55];simp),55,AL (by simp[intD];omega),?_⟩;refine⟨_,IA ne2,A7 ?_⟩;generalize Cr ((t'+lf k)::B)=s at s1 s2;have X:Du.Tn 51 h dd lf t t' k s:=by
  refine⟨by omega,λc j h1 h2=>by have:=mle j h1 h2;omega,kn,k0,kc,λj h1 h2 h3=>km j ((hV j).mpr ⟨⟨h1,h2⟩,h3⟩),?_,s2 _ 55,λj h1 h2 h3=>s2 _ (il _ ((hB _).mpr ⟨j,h1,h2,h3,rfl⟩)),?_⟩
  .rcases mem_cons.mp s1 with e|e
   .omega
   .obtain⟨j,_,_,h3,e⟩:=(hB s).mp e;omega
  .rcases mem_cons.mp s1 with e|e
   .exact .inl e
   .obtain⟨j,h1,h2,h3,e⟩:=(hB s).mp e;exact .inr ⟨j,h1,h2,h3,e.symm⟩
 obtain⟨g4,eg4⟩:∃g4,g4=g3++[MO.lst [.im (.int (t'+lf k))],.lst (intD B)]:=⟨_,rfl⟩
 have eh:(Hq 51 lf P g3++[MO.lst [.im (.int (t'+lf k))]])++[MO.lst (intD B)]=Hq 51 lf P g4:=by rw[eg4];simp
 rw[eh];clear eh eg4;change WS _ (Lq ws h dd t' (some (.mu a6)) (some (.im (.int (k:Int)))) (some (.im (.int s)))) (Hq 51 lf P g4) _;refine AA (Cf (Dh (A4 (A3 rfl (A4 (A3 rfl (A4 (A3 rfl (A4 (A3 rfl (AB ((OV (P:=P) (i:=1) rfl 50 k t' s).mono ?_))))))))))));rintro d x ⟨rfl,rfl⟩;refine A7 ?_;change WS _ _ (Hq 51 lf (Du.addP P k t' s) g4) _;refine AA (X6 (A3 rfl (A3 rfl ⟨0,(k:Int),fl 51 lf,k,lf k,rfl,rfl,rfl,MC lf kn,?_,AD (A3 rfl (A3 rfl (Eg ⟨_,fl 51 lf,rfl,rfl,rfl,A7 (AH (A3 rfl ?_))⟩)))⟩)))
 .simp[intD,kn]
 .rw[K3];exact hQ t' k s g4 _ _ _ X
open PySem L2 Bd Hds
open Bk (Pc upd)
section
variable{cs:Nat->Cost}{rk:Nat->Nat}{h dd d:Nat->Int}
inductive I_rk(ws:List Wg)(h dd:Nat->Int)(W:List (Nat×Nat))(m:Nat)(ls:Ls)(hd:Hd):Prop
 |mk (lf:Nat->Int) (P:List Pc) (t:Int) (g:Hd) (z6 z7 z8:Option D) (em:m=Du.mu 51 h lf t) (el:ls=Lq ws h dd t z6 z7 z8) (eh:hd=Hq 51 lf P g) (S:Du.St 51 h (BH ws) dd W lf P t) (pl:P.length+m<=16):I_rk ws h dd W m ls hd
def Ev.wso(E:Ev ws cs W rk h):∀w∈W,w.1<51/\w.2<51/\h w.1+BH ws w.1<=h w.2:=λw hw=>⟨(E.R.ins w hw).1,(E.R.ins w hw).2,E.hs.st w hw⟩
def dW(n:Nat)(lf:Nat->Int)(h0:∀k,k<n->0<=lf k):Jx (fl n lf)=some (.im (.bl (decide (∃j,j<n/\0<lf j)))):=by
 unfold Jx;rw[HJ,j4]
 congr 3
 rw[Bool.eq_iff_iff];simp only[List.any_map,any_eq_true,List.mem_range,jL,Function.comp,bne_iff_ne];constructor
 .rintro⟨j,h1,h2⟩;exact⟨j,h1,by have:=h0 j h1;omega⟩
 .rintro⟨j,h1,h2⟩;exact⟨j,h1,by omega⟩
structure Dp(ws:List Wg)(h dd:Nat->Int)(W:List (Nat×Nat))(P:List Pc):Prop where
 ex:∃lf t,Du.St 51 h (BH ws) dd W lf P t/\∀j,j<51->lf j=0
 pk:Du.Pk 51 h (BH ws) W P
def Um(E:Ev ws cs W rk h)(hd:∀w∈W,dd w.1<=dd w.2-BH ws w.2):WF DG [.im (AR ws),.im (.tup ((57 51).map λk=>.int (h k))),.fv 1 (fl 51 dd)] [] λd _=>∃P:List Pc,d=.im (.tup (P.map pcI))/\Dp ws h dd W P:=by
 have n8:=E.ok.2.1;have hb:=E.hb;unfold DG;refine Am rfl ?_;refine AA (AH (BE (Aq (By (A3 rfl ⟨_,rfl,?_⟩)))));rw[<- B1];refine⟨AL 112,?_⟩;refine B4 (λw=>D.im (wgI w)) (λw=>some (.im (.int w.len))) (λ_ ls=>∃x,ls=[some x]) _ (AQ _) ?_ ?_
 .rintro z hz ls hls;refine⟨[some (.im (wgI z))],by rcases hls with rfl|⟨_,x,rfl⟩<;>rfl,⟨_,rfl⟩,BY ⟨rfl,?_⟩⟩;rw[ia rfl];exact⟨_,rfl,AD (A3 rfl (AN (AI rfl (Dc _ _) ⟨rfl,rfl⟩)))⟩
 rw[P8 E.ok];refine A7 (AA (AH (BE (C3 (AB ⟨HN,A7 ?_⟩)))));refine AA (AH (AN (A7 ?_)));change WS _ (Lq ws h dd 0 none none none) (Hq 51 (BH ws) [] []) _;have m0:=Du.mu_le 51 h (BH ws) 0;refine AA (Ib (I_rk ws h dd W) (n:=Du.mu 51 h (BH ws) 0) ⟨_,_,_,_,_,_,_,rfl,rfl,rfl,Du.St.start (λk _=>DK ws k) (λk hk=>(hb k hk).1) (λw hw=>E.R.ins w hw),by simp;omega⟩ ?_);rintro m ls hdd ⟨lf,P,t,g,z6,z7,z8,em,rfl,rfl,S,pl⟩;refine Bj (BU (A4 (A3 rfl (AB (Bw (ds:=fl 51 lf) rfl (dW 51 lf λk hk=>(S.lo k hk).1) ⟨_,rfl,?_⟩)))));by_cases c:∃j,j<51/\0<lf j
 .rw[ia (by simpa using c)];refine Zr n8 50 c λt' k s g z6 z7 z8 X=>?_;have m':=X.mu;obtain⟨S',l'⟩:=S.turn (λk _=>DK ws k) E.wso hd X;exact⟨_,by rw[em];exact m',_,_,_,g,_,_,_,rfl,rfl,rfl,S',by omega⟩
 .rw[ie (by simpa using c)];have z:∀j,j<51->lf j=0:=λj hj=>by
   have:=(S.lo j hj).1;refine Classical.byContradiction λq=>c ⟨j,hj,by omega⟩
  refine A7 (Ae (BU (A4 (A3 rfl (AB (Bw (ds:=P.map pcD) (z:=.im (.tup (P.map pcI))) rfl ?_ ?_))))))
  .show some (Ap (P.map pcD))=_;rw[show P.map pcD=(P.map pcI).map D.im by simp,B8]
  .exact⟨P,rfl,⟨lf,t,S,z⟩,S.pk (λk hk=>(hb k hk).1) z⟩
def IL(ws:List Wg)(cs:Nat->Cost)(d:Nat->Int):Prop:=∀k,k<51->cs k=.late (d k)
inductive I_to(ws:List Wg)(W:List (Nat×Nat))(rk:Nat->Nat)(d:Nat->Int)(r:List D)(ls:Ls)(hd:Hd):Prop
 |mk (v:Nat->Int) (t:Nat) (z3 z4 z5:Option D) (h0:t+r.length=51) (h1:ls=[some (.im (AR ws)),some (.im (.tup (W.map AO))),some (.mu 0),z3,z4,z5]) (h2:hd=[.lst (fl 51 v)]) (T:Du.Tu 51 (BH ws) d W rk v t):I_to ws W rk d r ls hd
inductive I_ti(ws:List Wg)(W:List (Nat×Nat))(rk:Nat->Nat)(d:Nat->Int)(t:Nat)(r:List D)(ls:Ls)(hd:Hd):Prop
 |mk (v:Nat->Int) (A R:List (Nat×Nat)) (z3 z4 z5:Option D) (h0:W=A++R) (h00:r=R.map λp=>D.im (AO p)) (h1:ls=[some (.im (AR ws)),some (.im (.tup (W.map AO))),some (.mu 0),z3,z4,z5]) (h2:hd=[.lst (fl 51 v)]) (T:Du.Ti 51 (BH ws) d W rk v t A):I_ti ws W rk d t r ls hd
def UB(E:Ev ws cs W rk h)(hl:IL ws cs d):WF DF [.im (AR ws),.im (.tup (W.map AO))] [] λr x=>r=.mu 0/\∃v,x=[.lst (fl 51 v)]/\Du.Tu 51 (BH ws) d W rk v ws.length:=by
 have n8:=E.ok.2.1;have hW:=E.hW;unfold DF;refine Am rfl ?_;refine AA (AH (BE (Aq (By (A3 rfl ⟨_,rfl,?_⟩)))));have e0:(ws.map wgI).map D.im=(57 51).map λk=>D.im (wgI (ws.getD k ⟨0,0,.non⟩)):=by
  refine List.ext_getElem 55 λi h1 h2=>?_;have hi:i<ws.length:=by simpa using h1
  simp[List.getD,hi]
 rw[e0];refine⟨AL 112,?_⟩;refine B4 (xs:=57 51) (λk=>D.im (wgI (ws.getD k ⟨0,0,.non⟩))) (λk=>some (.im (.int (d k)))) (λ_ ls=>∃x,ls=[some x]) _ (AQ _) ?_ ?_
 .rintro k hk ls hls;have hk:k<ws.length:=by simpa using hk
  refine⟨[some (.im (wgI (ws.getD k ⟨0,0,.non⟩)))],by rcases hls with rfl|⟨_,x,rfl⟩<;>rfl,⟨_,rfl⟩,BY ⟨rfl,?_⟩⟩;rw[ia rfl];have e1:ws.getD k ⟨0,0,.non⟩=ws[k]:=by simp[List.getD,hk]
  have e2:(ws[k]).co=.tup [.str "late",.int (d k)]:=by rw[Hg E.hcs hk,hl k hk];rfl
  rw[e1];refine⟨_,rfl,AD (AD (A3 rfl (AN (AI rfl (FX _ _ _ _) ?_))))⟩;rw[e2];exact AN (AI rfl (Dv _ _ _) ⟨rfl,rfl⟩)
 rw[Fq];refine A7 ?_;refine AA (E8 (By (A3 rfl ⟨_,rfl,?_⟩)));refine Bl (I_to ws W rk d) ⟨d,0,none,none,none,by simp,rfl,rfl,Du.Tu.start λw hw=>⟨E.R.lt w hw,E.hrk w.2 (E.R.ins w hw).2⟩⟩ ?_ ?_
 .rintro x r ls hd ⟨v,t,z3,z4,z5,ht,rfl,rfl,T⟩;simp only[j8]at ht;refine⟨_,rfl,?_⟩;dsimp only[set_cons_zero,set_cons_succ];refine E8 (By (A3 rfl ⟨_,rfl,?_⟩));rw[show(W.map AO).map D.im=W.map λp=>D.im (AO p) by rw[j3];rfl];refine Bl (I_ti ws W rk d t) ⟨v,[],W,_,_,_,rfl,rfl,rfl,rfl,T,by simp⟩ ?_ ?_
  .rintro y r2 ls hd ⟨v,A,R,z3,z4,z5,eW,er,rfl,rfl,I⟩;cases R with
   |nil=>cases er
   |cons q R=>
    obtain⟨rfl,rfl⟩:=List.cons.inj er;have hq:q∈W:=by rw[eW];simp
    have qn:=E.R.ins q hq;have st:=I.step (λw hw=>⟨E.R.ins w hw,E.R.lt w hw⟩) (λw hw=>by rw[eW];simp[hw]) hq;refine⟨[some (.im (AR ws)),some (.im (.tup (W.map AO))),some (.mu 0),z3,some (.im (.int (q.1:Int))),some (.im (.int (q.2:Int)))],rfl,?_⟩;refine Dg (BU (A4 (AD (A3 rfl (A3 rfl (AI (ds:=fl 51 v) rfl (EY v qn.1) (A4 (AD (AD (A3 rfl (A3 rfl (AI (ds:=fl 51 v) rfl (EY v qn.2) ?_))))))))))));refine AD (AD (A3 rfl (A3 rfl (AI (by rw[CK,<- B1]) (CT qn.2) (AN (AI rfl (Dc _ _) (Eg (AB (Hc ?_)))))))));refine A3 rfl (A3 rfl ⟨0,_,q.1,_,rfl,rfl,rfl,MC v qn.1,?_⟩);rw[K3,Gq qn.2,<- Cg E.ok qn.2];exact⟨AQ _,_,A++[q],R,_,_,_,by rw[eW];simp,rfl,rfl,rfl,st⟩
  .rintro ls hd ⟨v,A,R,z3,z4,z5,eW,er,rfl,rfl,I⟩;have:R=[]:=by cases R with
    |nil=>rfl
    |cons t r=>cases er
   subst this;rw[je]at eW;subst eW;exact⟨AQ _,v,t+1,_,_,_,by omega,rfl,rfl,I.next⟩
 .rintro ls hd ⟨v,t,z3,z4,z5,ht,rfl,rfl,T⟩;simp only[jm,Nat.add_zero]at ht;subst ht;exact A7 (Ae (A3 rfl ⟨rfl,v,rfl,T⟩))
end
open PySem L2 Bd Hds
def Clo(W:List (Nat×Nat))(ks:List Nat):Prop:=∀p∈W,p.2∈ks->p.1∈ks
structure Ord(n:Nat)(W:List (Nat×Nat))(o:List Nat):Prop where
 pm:o.Perm (57 n)
 lt:∀p∈W,o.idxOf p.1<o.idxOf p.2
def bd(c:Int)(l:Nat->Int)(cs:Nat->Cost)(W:List (Nat×Nat))(S:List Nat):Int:=Cr ((CI (Mc W) S).map λk=>(cs k).at (c+(S.map l).sum))
noncomputable abbrev co(n:Nat)(b:List Nat):List Nat:=(57 n).filter λk=>decide (¬ k∈b)
inductive Made(n:Nat)(c:Int)(l:Nat->Int)(cs:Nat->Cost)(W:List (Nat×Nat)):List Nat->List (List Nat)->Prop
 |nil:Made n c l cs W [] []
 |cons {b:List Nat} {ss:List (List Nat)} (u:Nat) (m:Made n c l cs W b ss) (h0:u∈co n b) (h1:(cs u).at (c+((co n b).map l).sum)=bd c l cs W (co n b)) (h2:∀p∈W,p.1=u->p.2∈b):Made n c l cs W (u::b) (ss++[co n b])
section
variable{n:Nat}{c:Int}{l:Nat->Int}{cs:Nat->Cost}
def Made.nd(m:Made n c l cs W b ss):b.Nodup/\∀k∈b,k<n:=by
 induction m with
 |nil=>exact⟨.nil,by simp⟩
 |cons u m h0 h1 h2 ih=>
  have h3:=(mem_filter.mp h0).2;have h4:=List.mem_range.mp (mem_filter.mp h0).1;exact⟨nodup_cons.mpr ⟨by simpa using h3,ih.1⟩,λk hk=>by rcases mem_cons.mp hk with rfl|hk;exact h4;exact ih.2 k hk⟩
theorem Made.at(m:Made n c l cs W b ss):∀a u r,b=a++u::r->co n r∈ss/\(cs u).at (c+((co n r).map l).sum)=bd c l cs W (co n r)/\∀p∈W,p.1=u->p.2∈r:=by
 induction m with
 |nil=>intro a u r e;simp at e
 |@cons b ss v m h0 h1 h2 ih=>
  intro a u r e;cases a with
  |nil=>cases e;exact⟨by simp,h1,h2⟩
  |cons x a=>
   have e2:b=a++u::r:=(List.cons.inj e).2;obtain⟨q1,q2,q3⟩:=ih a u r e2;exact⟨by simp[q1],q2,q3⟩
def UP{k:Nat}(h:k∈o):∃a r,o=a++k::r/\k∉a/\o.idxOf k=a.length:=by
 induction o with
 |nil=>cases h
 |cons x t ih=>
  by_cases e:x=k
  .subst e;exact⟨[],t,rfl,by simp,by simp⟩
  .have:k∈t:=by rcases mem_cons.mp h with q|q;exact absurd q.symm e;exact q
   obtain⟨a,r,e1,e2,e3⟩:=ih this;refine⟨x::a,r,by rw[e1];rfl,by simp[e2];exact λz=>e z.symm,?_⟩;rw[List.idxOf_cons];have:(x==k)=false:=by simpa using e
   rw[this];simp[e3]
def Made.ord(m:Made n c l cs W o ss)(hW:∀p∈W,p.1<n/\p.2<n)(h:co n o=[]):Ord n W o:=by
 obtain⟨nd,hn⟩:=m.nd;have pm:o.Perm (57 n):=by
  rw[List.perm_ext_iff_of_nodup nd nodup_range];intro k;refine⟨λhk=>by simpa using hn k hk,λhk=>?_⟩;have:=List.filter_eq_nil_iff.mp h k hk;simpa using this
 refine⟨pm,λp hp=>?_⟩;obtain⟨a,r,e1,e2,e3⟩:=UP (pm.mem_iff.mpr (by simpa using (hW p hp).1));obtain⟨_,_,q⟩:=m.at a p.1 r e1;have hr:=q p hp rfl;rw[e3,e1];rw[e1]at nd;have na:p.2∉a:=λz=>(nodup_append.mp nd).2.2 _ z _ (il _ hr) rfl;rw[List.idxOf_append,ie na];have ne:p.1≠p.2:=λz=>by
  have:=(nodup_cons.mp (nodup_append.mp nd).2.1).1;rw[z]at this;exact this hr
 rw[List.idxOf_cons];have:(p.1==p.2)=false:=by simpa using ne
 rw[this];simp
end
section
variable{c:Int}{cs:Nat->Cost}{rk:Nat->Nat}{h:Nat->Int}
def W6(E:Ev ws cs W rk h)(hcm:∀w∈ws,w.com=c):WF C9 [.im (AR ws)] [] λd x=>d=.im (.int c):=by
 have hl0:0<ws.length:=E.ok.1;have hl8:=E.ok.2.1;unfold C9;refine Am rfl ?_;refine AA (AH (AX (A4 (A3 rfl (AB ⟨by simp,?_⟩)))));have e0:(ws[0]).com=c:=hcm _ (List.getElem_mem hl0);have S:WF BP [.im (AR ws)] [] λd x=>d=.im (.int c):=by
  unfold BP;refine Am rfl ?_;refine AA (AH (AD (AD (A3 rfl (AN (AI (by rw[CK,<- B1]) (CT (k:=0) hl0) ?_))))));refine AN (AI rfl (Dv _ _ _) (A7 ?_));rw[e0];refine AA (BQ (Bj (C1 (Aq (By (A3 rfl ⟨_,rfl,?_⟩))))));rw[<- B1];refine⟨AL 112,?_⟩;refine B4 (λw=>D.im (wgI w)) (λ_=>some (.im (.bl true))) (λ_ ls=>∃x,ls=[some x,some (.im (.int c))]) _ (AQ _) ?_ ?_
  .rintro p hp ls hls;refine⟨[some (.im (wgI p)),some (.im (.int c))],by rcases hls with rfl|⟨_,x,rfl⟩<;>rfl,⟨_,rfl⟩,BY ⟨rfl,?_⟩⟩;rw[ia rfl];refine⟨_,rfl,AD (AD (A3 rfl (AN (AI rfl (Dv _ _ _) (A3 rfl (EA ⟨rfl,?_⟩))))))⟩;simp[hcm p hp]
  have e:(ws.filterMap λ_=>some (D.im (.bl true)))=blD (ws.map λ_=>true):=by simp[blD]
  rw[e];refine⟨_,by rw[Kr,FE];rfl,_,rfl,?_⟩;refine⟨λ_=>?_,(λh=>by simp at h)⟩;exact Ae (A3 rfl rfl)
 refine S.mono ?_;rintro d x rfl;refine⟨_,rfl,A7 ?_⟩;refine AA (BQ (AU ?_));refine WP.eq (z:=.im (.bl false)) (h:=[]) (by simp[DV]) ⟨_,rfl,(λh=>by cases h),λ_=>BF (A7 ?_)⟩;exact Ae (A3 rfl rfl)
def Vg{u:Nat}{n:Nat}(R:Rk (λk=>k<n) W rk)(hu:u∈CI (Mc W) (co n b)):∀p∈W,p.1=u->p.2∈b:=by
 intro p hp e;refine Classical.byContradiction λh=>?_;have h2:p.2∈co n b:=mem_filter.mpr ⟨by simpa using (R.ins p hp).2,by simpa using h⟩;have h3:=(mem_filter.mp hu).2;rw[Bool.not_eq_true',any_eq_false]at h3;refine h3 p.2 h2 ?_;subst e;have:Rc (Cn W) (p.1:Int) (p.2:Int):=.one (mem_map.mpr ⟨p,hp,rfl⟩);simp[Mc,this]
def PP{n:Nat}{u:Nat}:((co n b).filter λk=>decide (k≠u))=co n (u::b):=by
 unfold co;rw[List.filter_filter]
 congr 1
 funext k
 simp
def W8{n:Nat}{u:Nat}(cl:Clo W (co n b))(h:∀p∈W,p.1=u->p.2∈b):Clo W (co n (u::b)):=by
 intro p hp h2;rw[<- PP]at h2 ⊢;obtain⟨g1,g2⟩:=mem_filter.mp h2;refine mem_filter.mpr ⟨cl p hp g1,?_⟩;refine jl λe=>?_;have:=(mem_filter.mp g1).2;exact(by simpa using this:p.2∉b) (h p hp e)
end
section
variable{ws:List Wg}{c:Int}{cs:Nat->Cost}{rk:Nat->Nat}{h:Nat->Int}
def Vd(hk:∀k∈ks,k<51)(hl:ks.length<=8):WF Bv [.im (AR ws),.im (Ao ks)] [] λd x=>d=.im (.int (ks.map (B5 ws)).sum):=by
 unfold Bv;refine Am rfl ?_;exact Ae (Sy hk hl rfl rfl rfl)
def fP(E:Ev ws cs W rk h)(hcm:∀w∈ws,w.com=c)(hne:co 51 o≠[]):St ws (co 51 o):=
 ⟨hne,λk hk=>by simpa using (mem_filter.mp hk).1,iw (jJ _ _) (by simpa using E.ok.2.1)⟩
def NX{n:Nat}{o:List Nat}(h:o.Nodup)(h2:∀k∈o,k<n):o.length<=n:=by
 have:=HB (l:=o.map λk:Nat=>(k:Int)) (m:=(57 n).map λk:Nat=>(k:Int)) (List.Pairwise.map _ (λa b h=>λz=>h 50) h) λx hx=>by
  obtain⟨k,hk,rfl⟩:=mem_map.mp hx;exact mem_map.mpr ⟨k,by simpa using h2 k hk,rfl⟩
 simpa using this
inductive I_ord(ws:List Wg)(c:Int)(cs:Nat->Cost)(W:List (Nat×Nat))(m:Nat)(ls:Ls)(hd:Hd):Prop
 |mk (o:List Nat) (ss:List (List Nat)) (z6:Option D) (h1:ls=[some (.im (AR ws)),some (.im (.tup (W.map AO))),some (.im (.int c)),some (.mu 0),some (.mu 1),some (.im (Ao (co 51 o))),z6]) (h2:hd=[.lst (AM o),.lst (ss.map Cq)]) (h3:Made 51 c (B5 ws) cs W o ss) (h4:Clo W (co 51 o)) (h5:∀s∈ss,St ws s/\Clo W s) (h6:m=(co 51 o).length) (h7:ss.length=o.length):I_ord ws c cs W m ls hd
def Yu(E:Ev ws cs W rk h)(hcm:∀w∈ws,w.com=c):WF B3 [.im (AR ws),.im (.tup (W.map AO))] [] λd x=>∃(o:List Nat) (ss:List (List Nat)) (s:List Nat),d=.im (.tup [Ao o,Ao s])/\Made 51 c (B5 ws) cs W o ss/\co 51 o=[]/\s∈ss/\(∀s∈ss,St ws s/\Clo W s)/\∀s'∈ss,bnd ws cs h (Mc W) s'<=bnd ws cs h (Mc W) s:=by
 have hn:=E.ok.2.1;unfold B3;refine Am rfl ?_;refine AA (AH (AX (A4 (A3 rfl (AB ⟨by simp,(W6 E hcm).mono ?_⟩)))));rintro d x rfl;refine⟨_,rfl,A7 ?_⟩;refine AA (AH (BE (C3 (AB ⟨AL 55,A7 ?_⟩))));refine AA (AH (BE (C3 (AB ⟨AL 55,A7 ?_⟩))));have rn:Ap (An 0 51)=.im (Ao (57 51)):=by rw[ES,GM]
 have rgl:Hm (ws.length:Int):=Io 50 50;refine AA (AH (WP.eq (z:=.im (Ao (57 51))) (h:=[.lst [],.lst []]) (by simp[BO,rgl,rn]) (A7 ?_)));change WS _ [some (.im (AR ws)),some (.im (.tup (W.map AO))),some (.im (.int c)),some (.mu 0),some (.mu 1),some (.im (Ao (57 51))),none] [.lst [],.lst []] _;have eco:co 51 []=57 ws.length:=by simp[co]
 refine AA (Ib (I_ord ws c cs W) (n:=51) ?_ ?_)
 .refine⟨[],[],none,by rw[eco],rfl,.nil,?_,by simp,by rw[eco];simp,rfl⟩;rw[eco];intro p hp _;simpa using (E.R.ins p hp).1
 .rintro n ls hd ⟨o,ss,z6,rfl,rfl,hm,cl,hst,hn',hlen⟩;have ol:o.length<=8:=by
   have:=hm.nd;have h1:=NX this.1 this.2;omega
  refine Bj (A3 rfl ⟨_,rfl,?_⟩);by_cases hne:co 51 o=[]
  .rw[ie (by simp[hne])];refine A7 ?_;have hss:ss≠[]:=by
    intro z;rw[z]at hlen;have:o=[]:=List.eq_nil_of_length_eq_zero hlen.symm;rw[this,eco]at hne;have:=E.ok.1;have h1:(57 51).length=0:=by rw[hne];rfl
    rw[List.length_range]at h1;omega
   refine Ae (Bz (A4 (BU (A4 (A3 rfl (AB (Bw rfl rfl ?_)))))));refine A4 (Dh (A4 (A3 rfl (A4 (A3 rfl (A4 (A3 rfl (AB ((ZP E (ss:=ss) rfl hss (λs hs=>(hst s hs).1)).mono ?_)))))))));rintro d x ⟨s,hs,rfl,hb⟩;refine AB ⟨HM,o,ss,s,?_,hm,hne,hs,hst,hb⟩;rw[GM];rfl
  .rw[ia (by cases h:co 51 o with|nil=>exact absurd h hne|cons=>rfl)];have S:=fP E hcm hne;refine AA (AH (AX (A4 (A3 rfl (A4 (A3 rfl (A4 (A3 rfl (A4 (AD (A3 rfl (AX (A4 (A3 rfl (A4 (A3 rfl (AB ⟨by simp,(Vd S.lt S.l8).mono ?_⟩)))))))))))))))));rintro d x rfl;refine⟨_,rfl,Bx (AB ⟨by simp,(R9 E S _).mono ?_⟩)⟩;rintro d x ⟨u,rfl,hu,ec⟩;refine⟨_,rfl,A7 ?_⟩;change WS _ [some (.im (AR ws)),some (.im (.tup (W.map AO))),some (.im (.int c)),some (.mu 0),some (.mu 1),some (.im (Ao (co 51 o))),some (.im (.int (u:Int)))] [.lst (AM o),.lst (ss.map Cq)] _;refine AA (Cf (GC (A3 rfl ⟨⟨_,rfl⟩,A4 (AN (A4 (A3 rfl (AB (Rj rfl 55 55 (BI (by simp[AM];omega)) (A7 ?_))))))⟩)));refine AA (Cf (GC (A3 rfl ⟨⟨_,rfl⟩,A4 (A3 rfl (AB (EB rfl (BI 112) (A7 ?_))))⟩)));refine AH (AX (A4 (A3 rfl (A4 (A3 rfl (AB ⟨by simp,(Rl _ u S.l8).mono ?_⟩))))));rintro d x rfl;refine⟨_,rfl,?_⟩;have hf:=Vg E.R hu;have hu0:=(mem_filter.mp hu).1;have ecc:=PP (n:=51) (b:=o) (u:=u);have hlt:(co 51 (u::o)).length<n:=by
    rw[<- ecc,hn'];exact TF hu0
   refine⟨_,hlt,u::o,ss++[co 51 o],_,by rw[<- ecc];rfl,by simp[AM],.cons u hm hu0 ec hf,W8 cl hf,?_,rfl,by simp[hlen]⟩;intro s hs;rcases mem_append.mp hs with q|q
   .exact hst s q
   .rw[iU]at q;rw[q];exact⟨S,cl⟩
end
open PySem L2 Bd Hds
open Bk (Pc upd)
structure Orr(n:Nat)(W:List (Nat×Nat))(o:List Nat):Prop where
 ol:o.length=n
 nd:o.Nodup
 lt:∀k∈o,k<n
 fr:∀a k r,o=a++k::r->∀p∈W,p.2=k->p.1∈a
def Ss{n:Nat}{o:List Nat}(nd:o.Nodup)(lt:∀k∈o,k<n)(hl:o.length=n):∀k,k<n->k∈o:=λk hk=>Classical.byContradiction λz=>by
 have:=Du.nd_len (l:=k::o) (L:=57 n) (nodup_cons.mpr ⟨z,nd⟩) λx hx=>by
  rcases mem_cons.mp hx with rfl|q
  .simpa using hk
  .simpa using lt x q
 simp at this;omega
def Ord.orr{n:Nat}(O:Ord n W o):Orr n W o:=by
 have nd:o.Nodup:=O.pm.nodup_iff.mpr nodup_range;refine⟨by simpa using O.pm.length_eq,nd,λk hk=>by simpa using O.pm.mem_iff.mp hk,λa k r e p hp ek=>?_⟩;have h1:=O.lt p hp;subst e;have ka:k∉a:=λq=>by
  rw[nodup_append]at nd;exact nd.2.2 k q k 55 rfl
 have e2:(a++k::r).idxOf k=a.length:=by rw[List.idxOf_append,ie ka,List.idxOf_cons_self];omega
 rw[ek,e2]at h1;refine Classical.byContradiction λq=>?_;rw[List.idxOf_append,ie q]at h1;omega
section
variable{cs:Nat->Cost}{rk:Nat->Nat}{h dd d:Nat->Int}
def Uh(E:Ev ws cs W rk h)(hl:IL ws cs d):WF Aw [.im (AR ws),.im (.str "late")] [] λd x=>d=.im .non:=by
 have n8:=E.ok.2.1;unfold Aw;refine Am rfl ?_;refine BQ (Bj (C1 (Aq (By (A3 rfl ⟨_,rfl,?_⟩)))));rw[<- B1];refine⟨AL 112,?_⟩;refine B4 (λw=>D.im (wgI w)) (λ_=>some (.im (.bl false))) (λ_ ls=>∃x,ls=[some x,some (.im (.str "late"))]) _ (AQ _) ?_ ?_
 .rintro z hz ls hls;refine⟨[some (.im (wgI z)),some (.im (.str "late"))],by rcases hls with rfl|⟨_,x,rfl⟩<;>rfl,⟨_,rfl⟩,BY ⟨rfl,?_⟩⟩;rw[ia rfl];obtain⟨k,hk,rfl⟩:=List.getElem_of_mem hz;refine⟨_,rfl,AD (AD (AD (A3 rfl (AN (AI rfl (FX _ _ _ _) ?_)))))⟩;rw[Hg E.hcs hk,hl k hk];refine AN (AI (ds:=[.im (.str "late"),.im (.int (d k))]) rfl (Dc _ _) (A3 rfl (E9 ⟨rfl,?_⟩)));simp
 have e:(ws.filterMap λ_=>some (D.im (.bl false)))=blD (ws.map λ_=>false):=by simp[blD]
 rw[e];refine⟨_,by rw[FS,FE];rfl,_,rfl,?_⟩;exact⟨(λh=>by simp at h),λ_=>BF rfl⟩
def fM(E:Ev ws cs W rk h)(hl:IL ws cs d):WF Co [.im (AR ws),.im (.tup (W.map AO))] [] λr x=>∃(P:List Pc) (dd:Nat->Int),r=.im (.tup (P.map pcI))/\Dp ws h dd W P/\Du.Tu 51 (BH ws) d W rk dd ws.length:=by
 unfold Co;refine Am rfl ?_;refine AA (Cf (AX (A4 (A3 rfl (A4 (AN (AB ⟨by simp,(Uh E hl).mono ?_⟩)))))));rintro _ _ rfl;refine⟨_,rfl,A7 ?_⟩;refine AA (AH (Gs (A4 (A3 rfl (A4 (A3 rfl (AB ⟨by simp,(UB E hl).mono ?_⟩)))))));rintro _ _ ⟨rfl,v,rfl,U⟩;refine⟨0,_,rfl,rfl,EJ _ _,A7 ?_⟩;refine Ae (Rr (A3 rfl (AX (A4 (A3 rfl (A4 (A3 rfl (AB ⟨by simp,(P5 E.ok.2.1 (λk hk=>(KD E.ok hk).1) E.hW E.R E.hrk E.H).mono ?_⟩))))))));rintro _ _ rfl;refine⟨_,rfl,0,fl 51 v,rfl,rfl,by simp[Al,clD],EJ _ _,(Um E U.done).mono ?_⟩;rintro _ _ ⟨P,rfl,D⟩;exact⟨_,rfl,P,v,rfl,D,U⟩
noncomputable def DC:I->Bool
 |.tup (.str x::_)=>decide (x="late")
 |_=>false
end
end T33
namespace L2
def FF{QE:D->Hd->Prop}(h:WA m ls hd λds x=>Al 0 ds=true/\WF F ds [] λd _=>∃nm fs es,d=.op nm fs es/\Al 0 es=true/\QE d x):WE (A9 0 F m) ls hd QE:=by
 obtain⟨ds,x,e,c,d,y,e2,nm,fs,es,rfl,ce,q⟩:=h;refine⟨_,x,?_,q⟩;unfold A9;rw[e,bind_some];dsimp only;rw[ia ⟨jk _,c,by simp⟩,List.take_zero,e2,bind_some];unfold fin;dsimp only;rw[ia 55];simp[clD,ce]
end L2
namespace T33
open PySem L2 Bd Hds
open Bk (Pc upd)
noncomputable abbrev NoR(w:Str):D:=.op "NoRule" ["word"] [.im (.str w)]
def W5(c:Cost):∃(x:Str) (r:List I),Bf c=.tup (.str x::r):=by cases c<;>exact⟨_,_,rfl⟩
section
variable{cs:Nat->Cost}{rk:Nat->Nat}{h dd d:Nat->Int}
noncomputable def Cc(ws:List Wg):Bool:=ws.any λw=>!DC w.co
def ZE(E:Ev ws cs W rk h)(ho:Cc ws=false):∃d,IL ws cs d:=by
 refine Classical.skolem (p:=λk d=>k<51->cs k=.late d) |>.mp λk=>?_;by_cases hk:k<51
 .have:=any_eq_false.mp ho ws[k] (List.getElem_mem hk);rw[Hg E.hcs hk]at this;cases e:cs k with
  |late d=>exact⟨d,λ_=>rfl⟩
  |_=>rw[e]at this;simp[Bf,DC]at this;exact absurd this (by decide +kernel)
 .exact⟨0,λz=>absurd z hk⟩
def dz(E:Ev ws cs W rk h){QT:Bool->Hd->Prop}(q:QT (Cc ws) []):WT (BZ (B7 FS (Ag 1 [1] (B0 (A1 0)) (AG 0) Bq (mOp gNe (mOp gIx (mOp gIx (A1 0) (mC (.int 2))) (mC (.int 0))) (A1 1))))) [some (.im (AR ws)),some (.im (.str "late"))] [] QT:=by
 have n8:=E.ok.2.1;refine Bj (C1 (Aq (By (A3 rfl ⟨_,rfl,?_⟩))));rw[<- B1];refine⟨AL 112,?_⟩;refine B4 (λw=>D.im (wgI w)) (λw=>some (.im (.bl (!DC w.co)))) (λ_ ls=>∃x,ls=[some x,some (.im (.str "late"))]) _ (AQ _) ?_ ?_
 .rintro z hz ls hls;refine⟨[some (.im (wgI z)),some (.im (.str "late"))],by rcases hls with rfl|⟨_,x,rfl⟩<;>rfl,⟨_,rfl⟩,BY ⟨rfl,?_⟩⟩;rw[ia rfl];obtain⟨k,hk,rfl⟩:=List.getElem_of_mem hz;refine⟨_,rfl,AD (AD (AD (A3 rfl (AN (AI rfl (FX _ _ _ _) ?_)))))⟩;rw[Hg E.hcs hk];obtain⟨x,r,ex⟩:=W5 (cs k);rw[ex];refine AN (AI (ds:=.im (.str x)::r.map .im) rfl (Dc _ _) (A3 rfl (E9 ⟨rfl,?_⟩)));simp[DC]
 have e:(ws.filterMap λw=>some (D.im (.bl (!DC w.co))))=blD (ws.map λw=>!DC w.co):=by simp[blD]
 rw[e];refine⟨_,by rw[FS,FE];rfl,_,rfl,?_⟩;rw[show(ws.map λw=>!DC w.co).any id=Cc ws by simp[Cc,List.any_map,Function.comp_def]];exact q
def Ug(E:Ev ws cs W rk h)(ho:Cc ws=true):WF BA [.im (AR ws),.im (.str "late")] [] λd x=>d=NoR "late":=by
 unfold BA;refine JU rfl (BQ (dz E ⟨λ_=>?_,λz=>(by rw[ho]at z;cases z)⟩));exact MP (A4 (A3 rfl (AB ⟨rfl,_,rfl,rfl⟩)))
def fL(E:Ev ws cs W rk h)(ho:Cc ws=true):WF De [.im (AR ws),.im (.tup (W.map AO))] [] λd x=>d=NoR "late":=by
 unfold De;refine JU rfl (AA (Hb (PH (Dt DR)) (Ae (FF (A4 (A3 rfl (A4 (AN (AB ⟨by simp,(Ug E ho).mono ?_⟩)))))))));rintro d x rfl;exact⟨_,_,_,rfl,rfl,_,rfl,CD ⟨_,rfl,rfl⟩⟩
noncomputable def EL(ws:List Wg):Bool:=ws.all λw=>decide (w.com=Ah ws 0)
def Zz(E:Ev ws cs W rk h):WF BP [.im (AR ws)] [] λd x=>d=if EL ws then .im (.int (Ah ws 0))else .im .non:=by
 have hl0:0<ws.length:=E.ok.1;have hl8:=E.ok.2.1;have e0:Ah ws 0=(ws[0]).com:=by simp[Ah,hl0]
 unfold BP;refine Am rfl ?_;refine AA (AH (AD (AD (A3 rfl (AN (AI (by rw[CK,<- B1]) (CT (k:=0) hl0) ?_))))));refine AN (AI rfl (Dv _ _ _) (A7 ?_));rw[<- e0];refine AA (BQ (Bj (C1 (Aq (By (A3 rfl ⟨_,rfl,?_⟩))))));rw[<- B1];refine⟨AL 112,?_⟩;refine B4 (λw=>D.im (wgI w)) (λw=>some (.im (.bl (decide (w.com=Ah ws 0))))) (λ_ ls=>∃x,ls=[some x,some (.im (.int (Ah ws 0)))]) _ (AQ _) ?_ ?_
 .rintro p hp ls hls;refine⟨[some (.im (wgI p)),some (.im (.int (Ah ws 0)))],by rcases hls with rfl|⟨_,x,rfl⟩<;>rfl,⟨_,rfl⟩,BY ⟨rfl,?_⟩⟩;rw[ia rfl];exact⟨_,rfl,AD (AD (A3 rfl (AN (AI rfl (Dv _ _ _) (A3 rfl (EA ⟨rfl,rfl⟩))))))⟩
 have e:(ws.filterMap λw=>some (D.im (.bl (decide (w.com=Ah ws 0)))))=blD (ws.map λw=>decide (w.com=Ah ws 0)):=by simp[blD]
 rw[e];refine⟨_,by rw[Kr,FE];rfl,_,rfl,?_⟩;rw[show(ws.map λw=>decide (w.com=Ah ws 0)).all id=EL ws by simp[EL,List.all_map,Function.comp_def]];refine⟨λz=>?_,λz=>?_⟩
 .rw[ia z];exact Ae (A3 rfl (CD rfl))
 .rw[ie (by rw[z];simp)];exact BF (A7 (Ae (AN rfl)))
def f6(E:Ev ws cs W rk h)(ha:EL ws=false):WF Ce [.im (AR ws)] [] λd x=>d=NoR "coming":=by
 unfold Ce;refine JU rfl (AA (Zj (AH (AX (A4 (A3 rfl (AB ⟨by simp,(Zz E).mono ?_⟩)))))));rintro d x rfl;rw[ie (by rw[ha];simp)];refine⟨_,rfl,(λd=>by intro q;cases q),A7 ?_⟩;refine AA (BQ (AU (WP.eq (z:=.im (.bl true)) (h:=[]) (by simp[DV]) ⟨_,rfl,(λ_=>?_),λz=>by cases z⟩)));exact MP (A4 (AN (AB ⟨rfl,CD ⟨_,rfl,rfl⟩⟩)))
def Yt(E:Ev ws cs W rk h)(ha:EL ws=false):WF Bb [.im (AR ws),.im (.tup (W.map AO))] [] λd x=>d=NoR "coming":=by
 unfold Bb;refine JU rfl (AA (Hb (Fv (Dt Go)) (Ae (FF (A4 (A3 rfl (AB ⟨by simp,(f6 E ha).mono ?_⟩)))))));rintro d x rfl;exact⟨_,_,_,rfl,rfl,_,rfl,CD ⟨_,rfl,rfl⟩⟩
end
open Bk (Pc upd)
def PU(hw:(reprText w).length<=sizeLine):WF G7 [NoR w,.im (.str w)] [] λd x=>d=.im (.bl true):=by
 have e:∀hd,F8 [.im (.str w)] hd=some (.im (.str (reprText w)),hd):=λhd=>by unfold F8;simp[hw]
 unfold G7;refine Am rfl (AA (BQ ?_));refine D8 (E7 (Bj (MU (A3 rfl ⟨_,_,_,true,rfl,rfl,true,rfl,?_⟩))));rw[ie 55];refine D8 (E7 (Bj (MU (A3 rfl ⟨_,_,_,true,rfl,rfl,true,rfl,?_⟩))));rw[ie 55];refine AU (AD (BU (A4 (Zo (A3 rfl ⟨_,_,_,_,rfl,by simp,rfl,rfl,AB (WP.eq (e _) (BU (A4 (A3 rfl (AB (WP.eq (e _) (E9 ⟨_,rfl,(λz=>by simp at z),λ_=>BF (A7 ?_)⟩)))))))⟩)))));exact Ae (OZ (AU (MU (A3 rfl ⟨_,_,_,false,rfl,rfl,false,rfl,rfl⟩))))
def WN{k i:Nat}{QT:Bool->Hd->Prop}(e:ls[i]?=some (some (.mu k)))(q:QT true hd):WT (AC (DV true (A1 i))) ls hd QT:=by
 refine AU ⟨.im (.bl true),hd,?_,true,rfl,q⟩;simp[DV,A1,e]
section
variable{cs:Nat->Cost}{rk:Nat->Nat}{h:Nat->Int}{c:Int}
def bp(E:Ev ws cs W rk h)(ho:Cc ws=false):WF Bu [.im (AR ws),.im (.tup (W.map AO))] [] λd x=>d=.im (.str "plan"):=by
 obtain⟨d,al⟩:=ZE E ho;unfold Bu;refine Am rfl (AA (AH (AN (A7 ?_))));refine AA (MN (AA (AH (Gs (A4 (A3 rfl (A4 (A3 rfl (A4 (AX (A4 (A3 rfl (A4 (A3 rfl (AB ⟨by simp,(fM E al).mono ?_⟩)))))))))))))));rintro _ _ ⟨P,dd,rfl,Dx,U⟩;refine⟨_,rfl,AB ⟨by simp,(TW E Dx.pk).mono ?_⟩⟩;rintro _ _ ⟨left,en,t,rfl,rfl,I,l0,hen⟩;refine⟨1,_,rfl,rfl,EJ _ _,A7 ?_⟩;refine AH (Fb (WN rfl ⟨λ_=>AN (A7 (Ae (A3 rfl rfl))),λz=>by cases z⟩))
def bn(E:Ev ws cs W rk h)(ho:Cc ws=true):WF Bu [.im (AR ws),.im (.tup (W.map AO))] [] λd x=>d=.im (.str "late"):=by
 unfold Bu;refine Am rfl (AA (AH (AN (A7 ?_))));have dj:=Lb (ma:=A1 0) (Lb (ma:=A1 1) (Vz (mr:=A5) (Dt (w:=0) (ma:=A2 (A1 0) (A2 (A1 1) A5)) OR)));refine AA (ML (Fw (KA (Fv (PD dj))) FA) (AA (Hb (Fv (PD dj)) (Ae (OY (A3 rfl (OY (A3 rfl (FF (A4 (A3 rfl (A4 (A3 rfl (AB ⟨by simp,(fL E ho).mono ?_⟩))))))))))))));rintro d x rfl;refine⟨_,_,_,rfl,rfl,_,rfl,CD ⟨_,_,_,rfl,by simp,?_⟩⟩;refine AH (Fb (Bj (AX (A4 (A3 rfl (A4 (AN (AB ⟨by simp[clD],(PU (AL (by decide +kernel))).mono ?_⟩))))))));rintro d x rfl;exact⟨_,rfl,true,rfl,(λ_=>AN ⟨_,rfl,A7 (Ae (A3 rfl rfl))⟩),λz=>by cases z⟩
def eZ(E:Ev ws cs W rk h)(hcm:∀w∈ws,w.com=c){i j:Nat}(e1:ls[i]?=some (some (.im (AR ws))))(e2:ls[j]?=some (some (.im (.tup (W.map AO))))){QE:D->Hd->Prop}(q:∀(o:List Nat),Orr 51 W o->QE (Cq o) hd):
 WE (mOp gIx (A9 0 B3 (A2 (A1 i) (A2 (A1 j) A5))) (mC (.int 0))) ls hd QE:=by
 refine AD (AX (A4 (A3 e1 (A4 (A3 e2 (AB ⟨by simp,(Yu E hcm).mono ?_⟩))))));rintro _ _ ⟨o,ss,s,rfl,m,hc,hs,hst,hb⟩;have O:=m.ord (λp hp=>E.R.ins p hp) hc;exact⟨_,rfl,AN (AI rfl (Dc _ _) (q o O.orr))⟩
inductive I_po(ws:List Wg)(W:List (Nat×Nat))(h:Nat->Int)(o:List Nat)(r:List D)(ls:Ls)(hd:Hd):Prop
 |mk (pre rest:List Nat) (P:List Pc) (t:Int) (z6:Option D) (h0:o=pre++rest) (h1:r=AM rest) (h2:ls=[some (.im (AR ws)),some (.im (.tup (W.map AO))),some (.im (.str "odd")),some (Cq o),some (.mu 0),some (.im (.int t)),z6,none,none]) (h3:hd=[.lst (P.map λp=>D.im (pcI p))]) (h4:Du.Po 51 h (BH ws) W pre P t) (h5:P.length=pre.length):I_po ws W h o r ls hd
def Yv(E:Ev ws cs W rk h)(hcm:∀w∈ws,w.com=c):WF Be [.im (AR ws),.im (.tup (W.map AO))] [] λd x=>d=.im (.str "order"):=by
 have hn:=E.ok.2.1;unfold Be;refine Am rfl (AA (AH (AN (A7 ?_))));refine AA (MN (AA (AH (eZ E hcm rfl rfl λo Or=>A7 ?_))));obtain⟨ol,nd,lt,fr⟩:=Or;have all:=Ss nd lt ol;refine AA (AH (BE (C3 (AB ⟨AL 55,A7 ?_⟩))));refine AA (AH (AN (A7 ?_)));refine AA (E8 (By (A3 rfl ⟨_,rfl,?_⟩)));rw[show(o.map λk:Nat=>I.int (k:Int)).map D.im=AM o from DP o];refine Bl (I_po ws W h o) ⟨[],o,[],0,none,rfl,rfl,rfl,rfl,.start,rfl⟩ ?_ ?_
 .rintro x r ls hd ⟨pre,rest,P,t,z6,eo,er,rfl,rfl,R,hl⟩;cases rest with
  |nil=>cases er
  |cons k rest=>
   obtain⟨rfl,rfl⟩:=List.cons.inj er;have hk:k<ws.length:=lt k (by rw[eo];simp);have kp:k∉pre:=λq=>by
    rw[eo,nodup_append]at nd;exact nd.2.2 k q k 55 rfl
   have hP:P.length<8:=by have:=j7 List.length eo;simp at this;omega
   have H':IsHead (λk=>k<51) (Ah ws) (BH ws) W h:=⟨E.H.lo,λp hp hk=>by rw[Cg E.ok (E.R.ins p hp).1];exact E.H.up p hp hk,λk hk=>by
    rcases E.H.eq k hk with e|⟨p,hp,e1,e2⟩
    .exact .inl e
    .exact .inr ⟨p,hp,e1,by rw[Cg E.ok (E.R.ins p hp).1];exact e2⟩⟩
   have st:=R.step E.R H' (λk hk=>DK ws k) hk kp (fr pre k rest eo);refine⟨_,rfl,?_⟩;dsimp only[set_cons_zero,set_cons_succ];have ec:ws[k].com=Ah ws k:=by simp[Ah,hk]
   refine AA (AH (BU (A4 (A3 rfl (A4 (AD (AD (A3 rfl (A3 rfl (AI (by rw[CK,<- B1]) (CT hk) (AN (AI rfl (Dv _ _ _) (AB (Fa (A7 ?_)))))))))))))));dsimp only[set_cons_zero,set_cons_succ];rw[ec];refine AA (Cf (GC (A3 rfl ⟨⟨P.map λp=>D.im (pcI p),by simp[Aa]⟩,A4 (Bz (A4 (A3 rfl (A4 (A3 rfl (A4 (AD (A3 rfl (AD (AD (A3 rfl (A3 rfl (AI (by rw[CK,<- B1]) (CT hk) (AN (AI rfl (Dc _ _) (Bx (AB ⟨DY,?_⟩)))))))))))))))))⟩)));rw[Hu,Gq hk,<- Cg E.ok hk];refine AB (EB (ds:=P.map λp=>D.im (pcI p)) 55 (BI 112) (A7 ?_));refine AH (AD (A3 rfl (AD (AD (A3 rfl (A3 rfl (AI (by rw[CK,<- B1]) (CT hk) (AN (AI rfl (Dc _ _) (Bx ?_))))))))));dsimp only[set_cons_zero,set_cons_succ];rw[Gq hk,<- Cg E.ok hk];exact⟨AQ _,pre++[k],rest,_,_,_,by rw[eo];simp,rfl,rfl,by simp[pcI],st,by simp[hl]⟩
 .rintro ls hd ⟨pre,rest,P,t,z6,eo,er,rfl,rfl,R,hl⟩;have e0:rest=[]:=by cases rest with|nil=>rfl|cons _ _=>cases er
  subst e0;rw[je]at eo;subst eo;refine A7 (AA (AH (Gs (A4 (A3 rfl (A4 (A3 rfl (A4 (BU (A4 (A3 rfl (AB (Bw rfl rfl (AB ?_))))))))))))));rw[show(P.map λp=>D.im (pcI p))=(P.map pcI).map D.im by rw[j3];rfl,B8];refine⟨by simp,(TW E (R.pk all)).mono ?_⟩;rintro _ _ ⟨left,en,t',rfl,rfl,I,l0,hen⟩;refine⟨1,_,rfl,rfl,EJ _ _,A7 ?_⟩;refine AH (Fb (WN rfl ⟨λ_=>AN (A7 (Ae (A3 rfl rfl))),λz=>by cases z⟩))
def VR(E:Ev ws cs W rk h)(ha:EL ws=false):WF Be [.im (AR ws),.im (.tup (W.map AO))] [] λd x=>d=.im (.str "coming"):=by
 unfold Be;refine Am rfl (AA (AH (AN (A7 ?_))));have dj:=dN (g:=gIx) (mi:=mC (.int 0)) (Dt (w:=0) (ma:=A2 (A1 0) (A2 (A1 1) A5)) IP);refine AA (ML (Fw (KA (Fv dj)) FA) (AA (Hb (Fv dj) (Ae (FF (A4 (A3 rfl (A4 (A3 rfl (AB ⟨by simp,(Yt E ha).mono ?_⟩))))))))));rintro d x rfl;refine⟨_,_,_,rfl,rfl,_,rfl,CD ⟨_,_,_,rfl,by simp,?_⟩⟩;refine AH (Fb (Bj (AX (A4 (A3 rfl (A4 (AN (AB ⟨by simp[clD],(PU (AL (by decide +kernel))).mono ?_⟩))))))));rintro d x rfl;exact⟨_,rfl,true,rfl,(λ_=>AN ⟨_,rfl,A7 (Ae (A3 rfl rfl))⟩),λz=>by cases z⟩
end
open PySem L2 Bd Hds
open Bk (Pc upd)
def dO{xs:List I}{j:Nat}(h:j<=105):Cu (xs.map D.im) none (some (j:Int))=(xs.take j).map D.im:=by
 unfold Cu;rw[HT.sIx_none,HT.sIx_nat,iV,Nat.min_eq_left h,List.drop_zero,Nat.sub_zero,map_take]
def W3{xs:List I}{j:Nat}(h:j<=105):Cu (xs.map D.im) (some (j:Int)) none=(xs.drop j).map D.im:=by
 unfold Cu;rw[HT.sIx_none,HT.sIx_nat,iV,Nat.min_eq_left h,List.map_drop];exact jO 55
def X9{is js:List I}{QE:D->Hd->Prop}(h1:is.length+js.length<=100)(q:QE (.im (.tup (is++js))) hd):WP (IG (.im (.tup is)) (.im (.tup js)) hd) QE:=by
 by_cases h0:is=[]
 .subst h0;refine WP.eq (z:=.im (.tup js)) (h:=hd) ?_ q;show(match AT (.im (.tup [])) (.im (.tup js)) hd with|some z=>some z|none=>IF (.im (.tup [])) (.im (.tup js)) hd)=_;have e:AT (.im (.tup [])) (.im (.tup js)) hd=none:=by
   show(match Ku (.im (.tup [])) (.im (.tup js)) hd with|some z=>some z|none=>GV (.im (.tup [])) (.im (.tup js)) hd)=_;rw[show Ku (.im (.tup [])) (.im (.tup js)) hd=none from rfl];unfold GV;rw[show AS (.im (.tup []))=some []from rfl,show AS (.im (.tup js))=some (js.map D.im)from rfl,bind_some,bind_some,ie (λz=>z.1 rfl)]
  rw[e];unfold IF;rw[show AS (.im (.tup []))=some []from rfl,show AS (.im (.tup js))=some (js.map D.im)from rfl,bind_some,bind_some,ia rfl,B8]
 .obtain⟨d,x,e,q⟩:=KK (QE:=QE) h0 h1 q;refine⟨d,x,?_,q⟩;show(match AT (.im (.tup is)) (.im (.tup js)) hd with|some z=>some z|none=>IF (.im (.tup is)) (.im (.tup js)) hd)=_;rw[e]
def QP{xs:List I}{j:Nat}{is:List I}{QE:D->Hd->Prop}(hj:j<105)(hl:105<=60)(e2:ls[2]?=some (some (.im (.tup xs))))(e4:ls[4]?=some (some (.im (.int (j:Int)))))(hm:WA m ls hd λds x=>ds=is.map D.im/\x=hd)(hf:is.length<=1000)(q:QE (.im (.tup (xs.set j (.tup is)))) hd):
 WE (mOp AT (mOp IG (Ds (A1 2) BM (CU (A1 4))) (Ak (A2 (Ak m) A5))) (Ds (A1 2) (CU (mOp AT (A1 4) (mC (.int 1)))) BM)) ls hd QE:=by
 refine AD (AD (Rn (A3 e2 (WR (OX (A3 e4 ⟨_,rfl,_,rfl,?_,?_⟩))))))
 .rintro⟨_,q⟩;rw[HT.sIx_nat,iV]at q;omega
 rw[dO 50,B8];refine Bz (A4 (Bz (hm.mono ?_)));rintro _ _ ⟨rfl,rfl⟩;refine⟨AL 112,?_⟩;rw[B8];refine AB ⟨F7,?_⟩;rw[Oz];refine X9 112 ?_;refine Rn (A3 e2 (OX (AD (A3 e4 (AN (Bx ⟨_,rfl,WR ⟨_,rfl,?_,?_⟩⟩))))))
 .rintro⟨q,_⟩;rw[show((j:Int)+1)=((j+1:Nat):Int) by omega,HT.sIx_nat,iV]at q;omega
 rw[show((j:Int)+1)=((j+1:Nat):Int) by omega,W3 50,B8];refine KK 55 112 ?_;have:xs.take j++[I.tup is]++xs.drop (j+1)=xs.set j (.tup is):=by
  rw[List.set_eq_take_append_cons_drop,ia hj];simp
 rw[this];exact q
structure Told(W:List (Nat×Nat))(ws:List Wg)(x y:Str):Prop where
 p:WF Bu [.im (AR ws),.im (.tup (W.map AO))] [] λd _=>d=.im (.str x)
 o:WF Be [.im (AR ws),.im (.tup (W.map AO))] [] λd _=>d=.im (.str y)
def fH{W:List (Nat×Nat)}{rk:Nat->Nat}(hok:Es ws)(hW:W.length<=16)(R:Rk (λk=>k<51) W rk)(hrk:∀k,k<51->rk k<51):∃cs h,Ev ws cs W rk h:=by
 obtain⟨cs,hcs⟩:=fO hok;obtain⟨h,H2⟩:=ZM R hrk (Ah ws) (B5 ws);refine⟨cs,h,hok,hcs,hW,R,hrk,H2,λk hk=>?_⟩;have h1:=H2.lo k hk;have h2:=KD hok hk;have h3:=H2.bound R (B:=60) (m:=20) (λk hk=>(KD hok hk).2) (λk hk=>(Sz hok hk).2) 50 _ k rfl hk;have h4:=hrk k hk;have h6:(20:Int)*((rk k:Nat):Int)<=20*8:=by have:=hok.2.1;omega
 try dsimp only at h1 h3 ⊢
 omega
section
variable{ws:List Wg}{W:List (Nat×Nat)}{rk:Nat->Nat}{c:Int}{j:Nat}{w:Wg}
def Hj(bo ba:Bool)(hok:Es ws)(hW:W.length<=16)(R:Rk (λk=>k<51) W rk)(hrk:∀k,k<51->rk k<51)(ho:Cc ws=bo)(ha:ba=true->∀w∈ws,w.com=c)(ha':ba=false->EL ws=false):Told W ws (bif bo then "late" else "plan") (bif ba then "order" else "coming"):=by
 obtain⟨cs,h,E⟩:=fH hok hW R hrk;constructor
 .cases bo
  .exact bp E ho
  .exact bn E ho
 .cases ba
  .exact VR E (ha' rfl)
  .exact Yv E (ha rfl)
def Mr(hok:Es ws)(hw:Wf w):Es (ws.set j w):=⟨by simpa using hok.1,by simpa using hok.2.1,λv hv=>by
 rcases List.mem_or_eq_of_mem_set hv with q|rfl
 .exact hok.2.2 v q
 .exact hw⟩
def Oe{p:Wg->Prop}(h:∀v∈ws,p v)(hw:p w):∀v∈ws.set j w,p v:=λv hv=>by
 rcases List.mem_or_eq_of_mem_set hv with q|rfl
 .exact h v q
 .exact hw
def NR(h:∀v∈ws,DC v.co=true):Cc ws=false:=any_eq_false.mpr λv hv=>by rw[h v hv];simp
def LN(hj:j<51)(hw:DC w.co=false):Cc (ws.set j w)=true:=any_eq_true.mpr ⟨w,List.mem_set hj w,by rw[hw];rfl⟩
def Rv(hn:2<=51)(hj:j<51)(hcm:∀v∈ws,v.com=c)(hw:w.com≠c):EL (ws.set j w)=false:=by
 refine Bool.eq_false_iff.mpr λq=>?_;have q:=all_eq_true.mp q;have at':∀k (hk:k<51),k≠j->(ws.set j w)[k]'(by simpa using hk)=ws[k]:=λk hk e=>by rw[List.getElem_set_ne (λz=>e z.symm)]
 have z0:Ah (ws.set j w) 0=((ws.set j w)[0]' 112).com:=by
  have:0<(ws.set j w).length:=by simp;omega
  unfold Ah;rw[List.getElem?_eq_getElem this];rfl
 by_cases e:j=0
 .subst e;have h1:=q ((ws.set 0 w)[1]' 112) (List.getElem_mem _);rw[z0,at' 1 50 50,hcm _ (List.getElem_mem _),List.getElem_set_self]at h1;exact hw (jG h1).symm
 .have h1:=q w (List.mem_set hj w);rw[z0,at' 0 50 (λz=>e z.symm),hcm _ (List.getElem_mem _)]at h1;exact hw (jG h1)
end
noncomputable abbrev trD(t:List Wg×Str×Str):D:=.im (.tup [AR t.1,.str t.2.1,.str t.2.2])
inductive I_ll(W:List (Nat×Nat))(L:Ls)(H:Hd)(r:List D)(ls:Ls)(hd:Hd):Prop
 |mk (rest:List (List Wg×Str×Str)) (z14 z15 z16:Option D) (h0:r=rest.map trD) (h1:ls=L++[z14,z15,z16]) (h2:hd=H) (h3:∀t∈rest,Told W t.1 t.2.1 t.2.2):I_ll W L H r ls hd
def Ii{i:Nat}{QE:D->Hd->Prop}(e:ls[i]?=some (some (.im X)))(q:QE (.im (.tup [X,.str x,.str y])) hd):WE (Ak (A2 (A1 i) (A2 (mC (.str x)) (A2 (mC (.str y)) A5)))) ls hd QE:=by
 refine Bz (A4 (A3 e (A4 (AN (A4 (AN (AB ⟨DY,?_⟩)))))));rw[Hu];exact q
set_option maxHeartbeats 4000000 in
def fD(ns:List Int):WF iR [.ro ns] [] λd x=>d=.im (.bl true):=by
 unfold iR;refine Am rfl ?_;refine AA (AH (Dh (A4 (A3 rfl (AB ((d7 ns).mono ?_))))));rintro d x ⟨rfl,a,b,hT,rfl⟩;refine A7 ?_;have hT:T (2000+300) a b:=tap.le hT 107;refine AA (GA (AH ?_));refine tap.callX (n:=2000) (c:=300) hT [Wo ["late"],V4] (rest:=[]) (as:=[.im (.int 7),.mu 2,.mu 3]) 55 rfl rfl (by simp[G0,HV]) (XA 55 55 (λx hx=>by simp at hx;exact .inl hx) _) ?_;rintro i a b hT ⟨ws0,c,rfl,hok0,hcm0,hn0⟩;have ca:=tap.cl hT;refine⟨by simp[ca.1,ca.2],_,rfl,A7 ?_⟩;change WS _ [some (.ro ns),some (.mu 1),some (.im (AR ws0)),none,none,none,none,none,none,none,none,none,none,none,none,none,none] [a,b] _;have h00:0<ws0.length:=hok0.1;refine AA (GA (AH (AD (A3 rfl (Bz (A4 (Bz (A4 (AD (AN ?_))))))))));have hT:T (1999+1) a b:=hT;refine tap.draw hT rfl 107 107 λr1 a b hT p1 q1=>?_;refine Bx (A4 (AD (AD (A3 rfl (AN (AI (by rw[CK,<- B1]) (CT (k:=0) h00) (AN (AI rfl (Dv _ _ _) (A4 ?_)))))))));have hT:T (1900+99) a b:=hT;refine tap.callX (n:=1900) (c:=99) hT [Wo ["late"]] (rest:=[]) (as:=[.mu 2]) 55 rfl rfl (by simp[G0,HV]) (λa b hT=>Ny 55 55 (λx hx=>by simp at hx;exact .inl hx) 1900 a b (tap.le hT 107)) ?_;rintro i a b hT hi;have ca:=tap.cl hT;refine AB ⟨DY,?_⟩;rw[Hu];refine AB ⟨F7,?_⟩;rw[Oz];refine KK (by simpa using List.length_pos_iff.mp h00) 112 ?_;refine⟨by simp[ca.1,ca.2],_,rfl,A7 ?_⟩;obtain⟨ws,ews⟩:∃ws,ws=ws0++[⟨1+r1,(ws0[0]).com,i⟩]:=⟨_,rfl⟩
 have ok:∀w∈ws,Wg.ok [("late":Str)] w/\w.com=c:=λw hw=>by
  have c0:=hcm0 _ (List.getElem_mem h00);rw[ews]at hw;rcases mem_append.mp hw with q|q
  .exact⟨hok0.2.2 w q,hcm0 w q⟩
  .rw[iU]at q;subst q;exact⟨⟨⟨by show 1<=1+r1;omega,by show 1+r1<=20;omega⟩,(hok0.2.2 _ (List.getElem_mem h00)).2.1,hi⟩,c0⟩
 have n2:2<=51/\51<=8:=by rw[ews];simp;omega
 change WS _ [some (.ro ns),some (.mu 1),some (.im (.tup (ws0.map wgI++[.tup [.int (1+r1),.int (ws0[0]).com,i]]))),none,none,none,none,none,none,none,none,none,none,none,none,none,none] [a,b] _;rw[show ws0.map wgI++[I.tup [.int (1+r1),.int (ws0[0]).com,i]]=ws.map wgI by rw[ews];simp[wgI]];clear ews hi ca hok0 hcm0 hn0 p1 q1;clear h00;refine AA (AH ?_);have hT:T (1800+100) a b:=hT;refine tap.call (n:=1800) (c:=100) hT (as:=[.im (.int (ws.length:Int))]) (rest:=[]) (by simp[BO]) rfl (U4 _ 51 n2.2) ?_;rintro i a b hT ⟨seq,ps,rfl,pm,al,hW⟩;obtain⟨W,rfl,R,hrk⟩:=WJ pm al;simp only[iV]at hW;have eW:(W.map λp:Nat×Nat=>((p.1:Int),(p.2:Int))).map M9=W.map AO:=by rw[j3];rfl
 rw[eW];refine A7 (AA (AH ?_));have hT:T (1799+1) a b:=hT;refine tap.draw (many:=(ws.length:Int)) (rest:=[]) hT (by simp[BO]) 50 50 λr2 a b hT p2 q2=>?_;obtain⟨j,rfl⟩:∃j:Nat,r2=j:=⟨r2.toNat,by omega⟩
 have hj:j<ws.length:=by omega
 refine A7 (AA (Ri (AD (A3 rfl (A3 rfl (AI (by rw[CK,<- B1]) (CT hj) ⟨_,rfl,A7 ?_⟩))))));change WS _ [some (.ro ns),some (.mu 1),some (.im (AR ws)),some (.im (.tup (W.map AO))),some (.im (.int (j:Int))),some (.im (.int (ws[j]).len)),some (.im (.int (ws[j]).com)),some (.im (ws[j]).co),none,none,none,none,none,none,none,none,none] [a,b] _;obtain⟨ls0,e0⟩:∃ls0:Ls,ls0=[some (.ro ns),some (.mu 1),some (.im (AR ws)),some (.im (.tup (W.map AO))),some (.im (.int (j:Int))),some (.im (.int (ws[j]).len)),some (.im (.int (ws[j]).com)),some (.im (ws[j]).co),none,none,none,none,none,none,none,none,none]:=⟨_,rfl⟩
 have hT:T (1700+1) a b:=tap.le hT 107;have M:WE (FP (Ai (A2 (mC (.str "tardy")) (A2 (mC (.str "miss")) (A2 (mC (.str "ends")) (A2 (mC (.str "steps")) A5))))) (A9 2 AZ (A2 (A1 1) (A2 (mC (.int 4)) A5)))) ls0 [a,b] λd y=>∃(x:Str) (a' b':MO),d=.im (.str x)/\y=[a',b']/\T 1700 a' b'/\(x="tardy"∨x="miss"∨x="ends"∨x="steps"):=by
  subst e0;refine JV (C3 (A4 (AN (A4 (AN (A4 (AN (A4 (AN (AB ⟨AL 55,?_⟩))))))))));refine tap.draw hT rfl 107 107 λr a b hT p q=>?_;obtain⟨d,hd,ed⟩:=at4 p q (.im (.str "tardy")) (.im (.str "miss")) (.im (.str "ends")) (.im (.str "steps"));rcases hd with rfl|rfl|rfl|rfl
  .exact⟨_,_,rfl,ed,_,a,b,rfl,rfl,hT,.inl rfl⟩
  .exact⟨_,_,rfl,ed,_,a,b,rfl,rfl,hT,.inr (.inl rfl)⟩
  .exact⟨_,_,rfl,ed,_,a,b,rfl,rfl,hT,.inr (.inr (.inl rfl))⟩
  .exact⟨_,_,rfl,ed,_,a,b,rfl,rfl,hT,.inr (.inr (.inr rfl))⟩
 clear hT;obtain⟨d,y,eM,x,a1,b1,rfl,rfl,hT,hx⟩:=M;rw[<- e0];have hT:T (1600+100) a1 b1:=hT;refine AA (GA (AH ?_));refine tap.callX (n:=1600) (c:=100) hT [Wo [x]] (rest:=[]) (as:=[.mu 2]) (by rw[e0]at eM ⊢;simp[-TN,eM]) rfl rfl (by simp[G0,HV]) (λa b hT=>Ny (xs:=[x]) 55 55 (λy hy=>by rw[iU]at hy;subst hy;exact .inr hx) 1600 a b (tap.le hT 107)) ?_;subst e0;clear eM;rintro i a b hT hi;have ca:=tap.cl hT;refine⟨by simp[ca.1,ca.2],_,rfl,A7 ?_⟩;change WS _ [some (.ro ns),some (.mu 1),some (.im (AR ws)),some (.im (.tup (W.map AO))),some (.im (.int (j:Int))),some (.im (.int (ws[j]).len)),some (.im (.int (ws[j]).com)),some (.im (ws[j]).co),some (.im i),none,none,none,none,none,none,none,none] [a,b] _;obtain⟨c1,ei,oi,bi,_,li⟩:=hi;have lb:DC i=false:=by
  rw[ei];cases c1 with
  |late d=>
   have:=li d rfl;rw[iU]at this;subst this;rcases hx with h|h|h|h<;>exact absurd h (by decide +kernel)
  |tardy d w=>exact j9 (show ¬ (("tardy":Str)="late") by decide +kernel)
  |miss d w=>exact j9 (show ¬ (("miss":Str)="late") by decide +kernel)
  |ends w=>exact j9 (show ¬ (("ends":Str)="late") by decide +kernel)
  |steps r=>exact j9 (show ¬ (("steps":Str)="late") by decide +kernel)
 have wi:∀n m:Int,(1<=n/\n<=20)->(0<=m/\m<=60)->Wf ⟨n,m,i⟩:=λn m h1 h2=>⟨h1,h2,c1,ei,oi,PZ bi⟩
 obtain⟨okj,cj⟩:=ok ws[j] (List.getElem_mem hj);have lj:DC (ws[j]).co=true:=by
  obtain⟨_,_,c2,e2,_,_,l2,_⟩:=okj;obtain⟨d,rfl⟩:=l2 rfl;rw[e2];exact jl (rfl:("late":Str)="late")
 have hok:Es ws:=⟨by omega,n2.2,λw hw=>Wq (ok w hw).1⟩
 have hcm:∀w∈ws,w.com=c:=λw hw=>(ok w hw).2;have hla:∀w∈ws,DC w.co=true:=λw hw=>by
  obtain⟨⟨_,_,c2,e2,_,_,l2,_⟩,_⟩:=ok w hw;obtain⟨d,rfl⟩:=l2 rfl;rw[e2];exact jl (rfl:("late":Str)="late")
 have wfj:=Wq okj;have R':∀w,Rk (λk=>k<(ws.set j w).length) W (λk=>seq.idxOf k):=λw=>by simpa using R
 have hrk':∀w k,k<(ws.set j w).length->(λk=>seq.idxOf k) k<(ws.set j w).length:=λw=>by simpa using hrk
 have ps:∀n m (v:I),(ws.map wgI).set j (.tup [.int n,.int m,v])=(ws.set j ⟨n,m,v⟩).map wgI:=λn m v=>by rw[List.map_set];rfl
 clear hx li ca pm al eW ok;refine AA (AH (QP (xs:=ws.map wgI) (j:=j) (is:=[.int (ws[j]).len,.int (ws[j]).com,i]) (by simpa using hj) 112 rfl rfl (A4 (A3 rfl (A4 (A3 rfl (A4 (A3 rfl (AB ⟨rfl,rfl⟩))))))) 55 (A7 ?_)));rw[ps];refine AA (AH (AD (AD (AD (A3 rfl (AN (Bx ?_)))))));have hT:T (1500+1) a b:=tap.le hT 107;refine tap.draw hT rfl 107 107 λr3 a b hT p3 q3=>?_;refine Bx (AN (Cw (show(0:Int)<61 by decide) (A7 ?_)));have cb:=wfj.2.1;have d0:(0<=((ws[j]).com+1+r3)%61/\((ws[j]).com+1+r3)%61<=60)/\((ws[j]).com+1+r3)%61≠c:=by omega
 have d1:(0<=((ws[j]).com+1)%61/\((ws[j]).com+1)%61<=60)/\((ws[j]).com+1)%61≠c:=by omega
 refine AA (AH (QP (xs:=ws.map wgI) (j:=j) (is:=[.int (ws[j]).len,.int (((ws[j]).com+1+r3)%61),(ws[j]).co]) (by simpa using hj) 112 rfl rfl (A4 (A3 rfl (A4 (A3 rfl (A4 (A3 rfl (AB ⟨rfl,rfl⟩))))))) 55 (A7 ?_)));rw[ps];refine AA (AH (QP (xs:=ws.map wgI) (j:=j) (is:=[.int (ws[j]).len,.int (((ws[j]).com+1)%61),i]) (by simpa using hj) 112 rfl rfl ?_ 55 (A7 ?_)))
 .exact A4 (A3 rfl (A4 (AD (AD (A3 rfl (AN (Bx (AN (Cw (show(0:Int)<61 by decide) (A4 (A3 rfl (AB ⟨rfl,rfl⟩))))))))))))
 rw[ps];have tG:Told W ws "plan" "order":=Hj false true hok hW R hrk (NR hla) (λ_=>hcm) (λz=>by cases z);have tC:=Hj (ws:=ws.set j ⟨(ws[j]).len,(ws[j]).com,i⟩) true true (Mr hok (wi _ _ wfj.1 wfj.2.1)) hW (R' _) (hrk' _) (LN hj lb) (λ_=>Oe hcm cj) (λz=>by cases z);have tU:=Hj (c:=c) (ws:=ws.set j ⟨(ws[j]).len,((ws[j]).com+1+r3)%61,(ws[j]).co⟩) false false (Mr hok ⟨wfj.1,d0.1,wfj.2.2⟩) hW (R' _) (hrk' _) (NR (Oe hla lj)) (λz=>by cases z) (λ_=>Rv n2.1 hj hcm d0.2);have tB:=Hj (c:=c) (ws:=ws.set j ⟨(ws[j]).len,((ws[j]).com+1)%61,i⟩) true false (Mr hok (wi _ _ wfj.1 d1.1)) hW (R' _) (hrk' _) (LN hj lb) (λz=>by cases z) (λ_=>Rv n2.1 hj hcm d1.2);generalize ws.set j ⟨(ws[j]).len,(ws[j]).com,i⟩=wC at tC ⊢;generalize ws.set j ⟨(ws[j]).len,((ws[j]).com+1+r3)%61,(ws[j]).co⟩=wU at tU ⊢;generalize ws.set j ⟨(ws[j]).len,((ws[j]).com+1)%61,i⟩=wB at tB ⊢;dsimp only[set_cons_zero,set_cons_succ,cond]at tC tU tB ⊢;refine AA (AH (BE (C3 (A4 (Ii rfl (A4 (Ii rfl (A4 (Ii rfl (A4 (Ii rfl (AB ⟨AL 55,A7 ?_⟩))))))))))));refine AA (AH (BE (Ru (A3 rfl (BE (C3 (A4 (Ii rfl (A4 (Ii rfl (A4 (Ii rfl (AB ⟨AL 55,_,_,_,_,rfl,rfl,rfl,rfl,AL 55,A7 ?_⟩)))))))))))));generalize ((ws[j]).com+1+r3)%61=day;dsimp only[set_cons_zero,set_cons_succ];refine AA (E8 (Ie (A3 rfl ⟨_,_,rfl,rfl,?_⟩)));refine Bl (I_ll W [some (.ro ns),some (.mu 1),some (.im (AR ws)),some (.im (.tup (W.map AO))),some (.im (.int (j:Int))),some (.im (.int (ws[j]).len)),some (.im (.int (ws[j]).com)),some (.im (ws[j]).co),some (.im i),some (.im (AR wC)),some (.im (.int day)),some (.im (AR wU)),some (.im (AR wB)),some (.mu 4)] _) ⟨[(wC,"late","order"),(wU,"plan","coming"),(ws,"plan","order"),(wB,"late","coming"),(wC,"late","order"),(ws,"plan","order"),(wU,"plan","coming")],none,none,none,rfl,rfl,rfl,?_⟩ ?_ ?_
 .intro t ht;simp only[mem_cons,List.not_mem_nil,or_false]at ht;rcases ht with rfl|rfl|rfl|rfl|rfl|rfl|rfl
  .exact tC
  .exact tU
  .exact tG
  .exact tB
  .exact tC
  .exact tG
  .exact tU
 .rintro d r ls hd ⟨rest,z14,z15,z16,er,rfl,rfl,hF⟩;cases rest with
  |nil=>cases er
  |cons t rest=>
   obtain⟨rfl,rfl⟩:=List.cons.inj er;have F:=hF t 55;refine⟨_,rfl,?_⟩;dsimp only[set_cons_zero,set_cons_succ,cons_append,nil_append];refine BQ (D8 (AU (AD (AX (A4 (A3 rfl (A4 (A3 rfl (AB ⟨by simp,F.p.mono ?_⟩)))))))));rintro _ _ rfl;refine⟨_,rfl,A3 rfl (E9 ⟨_,rfl,?_⟩)⟩;rw[ie 55];refine AU (AD (AX (A4 (A3 rfl (A4 (A3 rfl (AB ⟨by simp,F.o.mono ?_⟩)))))));rintro _ _ rfl;refine⟨_,rfl,A3 rfl (E9 ⟨_,rfl,(λz=>by simp at z),λ_=>BF ?_⟩)⟩;refine⟨?_,rest,_,_,_,rfl,rfl,rfl,λt ht=>hF t (by simp[ht])⟩;intro q hq;rw[iU]at hq;subst hq;rfl
 .rintro ls hd ⟨rest,z14,z15,z16,er,rfl,rfl,hF⟩;exact A7 (Ae (AN rfl))
def law_eq(ns:List Int):∃hd,iR [.ro ns] []=some (.im (.bl true),hd):=by
 obtain⟨d,x,e,rfl⟩:=fD ns;exact⟨x,e⟩
open PySem L2 PySem.W PyProof.Rows
noncomputable abbrev xS:Xs:=[("ranked_plan",((("ranked_plan":Str)++".<locals>.")++"<lambda>"),136,62),("due_plan",((("due_plan":Str)++".<locals>.")++"<lambda>"),145,52),("cheapest_last",((("cheapest_last":Str)++".<locals>.")++"<lambda>"),113,56),("greatest_bound",((("greatest_bound":Str)++".<locals>.")++"<lambda>"),117,25)]
def Px:FnScope ["self","word"] ["self","word"] (A8 (Ea.inC (top 6))):=Az (by kernel_rfl)
def DX:Ini (Ea.inC (top 6)) ["self","word"] ["word"]:=⟨λF c nA=>VS (Yz F Px rfl c (nA _ 55) (λ_ _ _ _ _ _=>rfl) (Or.inl rfl) (Or.inl rfl) 107 107),rfl,by decide,λ_ _ _ _ _ _ _ us hl=>match us,hl with|[_,_],_=>rfl⟩
def all_mk{l:OpenLaw}{w:World}{K:Frag}{h:Heap}{mg:Str->Option Value}{fa:Addr}{c P:Str->Addr}(X:K.In h)(G:h.Ns mainGlobals mg)(hfa:mg "law"=some (.ref fa))(hx:HX xS mg h c P)(F:Rb K):HG l w K xS mg c P fa Qx:=by
 obtain⟨Z,h0,h1,h2,h3,h4,h5,h6,h7,h8,h9,h10,h13,h14,h15,h16,h17,h18,h19,h20,h21,h22,h23,h24,h26,h27,h29,h30,p11,p12,p25,p28,cc0,cc1,cc2,cc3,cc4,cc5,cc6,cc7,cc8,h11,h12,h25,h28,tn,ec_NoRule,ns_NoRule,ns_BenchError,ns_NoBack,ns_NoPaper,ns_NoRow,ns_NoText,ns_NoWish,ns_NoWork,ns_TooMany,kt0,kt1,kt2,kt3,kt4⟩:=F;have B:=(zsE Z).blt X G;have nd:((CZ (Au K (tbs xS P))).map (·.1)).Nodup:=f8 (ps:=[p11,p12,p25,p28]) (by show [P "ranked_plan",P "due_plan",P "cheapest_last",P "greatest_bound"]=_;rw[((flE (e:=CM) h11).code X G hx (.head _)).1,((flE (e:=EZ) h12).code X G hx (.tail _ (.head _))).1,((flE (e:=Bp) h25).code X G hx (.tail _ (.tail _ (.head _)))).1,((flE (e:=Ba) h28).code X G hx (.tail _ (.tail _ (.tail _ (.head _))))).1]) tn;refine Vm X G hfa hx (feE h0) bd1 rfl λbase hd bl=>?_;obtain⟨o_raised,o_heads,o_steps_at,o_cost_at,o_reached,o_behind,o_last_ones,o_length_of,o_same_coming,ox_one_coming,o_one_coming,ox_refuse_other_costs,o_refuse_other_costs,o_bound_of,o_cheapest_last,o_without,o_greatest_bound,o_turned_dues,o_add_piece,o_ranked_plan,ox_due_plan,o_due_plan,ox_greatest_order,o_greatest_order,o_feed,o_next,o_cost,o_works,o_wishes,o_is_int,o_ends,o_class,o_plan_told,o_order_told,o_law⟩:=oks (E:=enM l w K xS P mg base) B
  (Ec.cl X G hx ec_NoRule DX)
  (λnm hh=>(by rcases mem_cons.mp hh with rfl|hh;(· exact⟨_,Ec.cl X G hx ec_NoRule DX,by simp⟩);cases hh))
  (⟨⟨_,mg_of X G ns_BenchError⟩,λnm hh=>(by rcases mem_cons.mp hh with rfl|hh;(· exact Ec.ch X G hx ec_NoRule ns_BenchError kt0);cases hh)⟩)
  (⟨λnm hh=>(by rcases mem_cons.mp hh with rfl|hh;(· exact⟨_,mg_of X G ns_NoBack⟩);rcases mem_cons.mp hh with rfl|hh;(· exact⟨_,mg_of X G ns_NoPaper⟩);rcases mem_cons.mp hh with rfl|hh;(· exact⟨_,mg_of X G ns_NoRow⟩);rcases mem_cons.mp hh with rfl|hh;(· exact⟨_,mg_of X G ns_NoText⟩);rcases mem_cons.mp hh with rfl|hh;(· exact⟨_,mg_of X G ns_NoWish⟩);rcases mem_cons.mp hh with rfl|hh;(· exact⟨_,mg_of X G ns_NoWork⟩);rcases mem_cons.mp hh with rfl|hh;(· exact⟨_,mg_of X G ns_TooMany⟩);cases hh),λnm b hh=>(by rcases Ko hh with⟨rfl,rfl⟩|hh;(· exact⟨⟨_,Ec.cl X G hx ec_NoRule DX⟩,Ec.ct X G hx ec_NoRule (by simp only[iq,jf];rw[mg_of X G ns_NoBack,mg_of X G ns_NoPaper,mg_of X G ns_NoRow,mg_of X G ns_NoText,mg_of X G ns_NoWish,mg_of X G ns_NoWork,mg_of X G ns_TooMany]) kt1⟩);cases hh)⟩)
  (⟨PySem.W.mg_none_of X G kt2,λnm b hh=>(by rcases Ko hh with⟨rfl,rfl⟩|hh;(· exact⟨⟨_,Ec.cl X G hx ec_NoRule DX⟩,Ec.cv X G hx ec_NoRule kt2 kt3,rfl⟩);cases hh)⟩)
  (⟨⟨_,mg_of X G ns_NoRule⟩,λnm b hh=>(by rcases Ko hh with⟨rfl,rfl⟩|hh;(· exact⟨⟨_,Ec.cl X G hx ec_NoRule DX⟩,Ec.ci X G hx ec_NoRule ns_NoRule kt4⟩);cases hh)⟩)
 have g1:=o_feed ((feE h1).dn X G hx bd1 l w base);have g2:=o_next ((feE h2).dn X G hx bd2 l w base);have g3:=o_cost ((feE h3).dn X G hx bd2 l w base) g2;have g4:=o_works ((feE h4).dn X G hx bd4 l w base) g2 g3;have g5:=o_wishes ((feE h5).dn X G hx bd2 l w base) g2;have g6:=o_raised ((feE h6).dn X G hx bd4 l w base);have g7:=o_heads ((feE h7).dn X G hx bd2 l w base) g6;have gx8:=ox_refuse_other_costs ((feE h8).dn X G hx bd2 l w base);have g8:=o_refuse_other_costs ((feE h8).dn X G hx bd2 l w base);have g9:=o_turned_dues ((feE h9).dn X G hx bd2 l w base);have g10:=o_add_piece ((feE h10).dn X G hx bd4 l w base);have g11:=o_ranked_plan ((flE h11).dl X G hx bd3 (.head _) l w hd bl nd rfl) g10;have gx12:=ox_due_plan (Dl.dn (ps:=⟨145,52,145,81⟩) ((flE h12).dl X G hx bd2 (.tail _ (.head _)) l w hd bl nd rfl)) g7 g8 g9 g11 gx8;have g12:=o_due_plan ((flE h12).dl X G hx bd2 (.tail _ (.head _)) l w hd bl nd rfl) g7 g8 g9 g11;have g13:=o_is_int ((feE h13).dn X G hx bd1 l w base);have g14:=o_ends ((feE h14).dn X G hx bd3 l w base) g13;have g15:=o_class ((feE h15).dn X G hx bd2 l w base);have g16:=o_plan_told ((feE h16).dn X G hx bd2 l w base) g12 g14 g15 gx12;have g17:=o_length_of ((feE h17).dn X G hx bd2 l w base);have g18:=o_same_coming ((feE h18).dn X G hx bd1 l w base);have gx19:=ox_one_coming ((feE h19).dn X G hx bd1 l w base) g18;have g19:=o_one_coming ((feE h19).dn X G hx bd1 l w base) g18;have g20:=o_steps_at ((feE h20).dn X G hx bd2 l w base)
 have g21:=o_cost_at ((feE h21).dn X G hx bd2 l w base) g20;have g22:=o_reached ((feE h22).dn X G hx bd2 l w base);have g23:=o_behind ((feE h23).dn X G hx bd3 l w base) g22;have g24:=o_last_ones ((feE h24).dn X G hx bd3 l w base) g23;have g25:=o_cheapest_last ((flE h25).dl X G hx bd4 (.tail _ (.tail _ (.head _))) l w hd bl nd rfl) g21 g24;have g26:=o_without ((feE h26).dn X G hx bd2 l w base);have g27:=o_bound_of ((feE h27).dn X G hx bd3 l w base) g7 g21 g24 g17;have g28:=o_greatest_bound ((flE h28).dl X G hx bd3 (.tail _ (.tail _ (.tail _ (.head _)))) l w hd bl nd rfl) g27;have gx29:=ox_greatest_order ((feE h29).dn X G hx bd2 l w base) g17 g19 g25 g26 g28 gx19;have g29:=o_greatest_order ((feE h29).dn X G hx bd2 l w base) g17 g19 g25 g26 g28;have g30:=o_order_told ((feE h30).dn X G hx bd2 l w base) g29 g14 g15 gx29;exact o_law ((feE h0).dn X G hx bd1 l w base) g1 g2 g3 g4 g5 g16 g30
end T33
theorem PySem.Challenge.cw_benchdays_k33_no_rule_words_holds : PySem.Challenge.rw_benchdays_k33_no_rule_words.Holds := by
 refine T33.early λK F d hd hdf=>L2.walkL T33.xS (l:=PySem.Challenge.rw_benchdays_k33_no_rule_words) (n:=63) (k:=10) (F:=T33.iR) rfl 107 hdf ⟨rfl,by decide,by decide,rfl⟩ (by intro x hx;simp only[T33.xS,mem_cons,List.not_mem_nil,or_false]at hx;rcases hx with rfl|rfl|rfl|rfl<;>exact⟨_,rfl⟩) T33.law_eq (λw h Y=>Y) λw mg fa h c P X G hmg hx=>?_;rw[hd]at hmg;exact T33.all_mk X G hmg hx (F w)
