import PyProof.Rows.All
import Wide.All
import OpenK.AllK
import Wide.FinOn
import Lean
import PyProof.EqAt
import PyProof.EqKinds
import PyProof.TupleCall
import KE.KSortKey
import PyProof.ListMulRoad
import PyProof.Draws
import PyProof.EnumMake
import PyProof.ListNew
import KE.KRevIter
import KE.KMinKey
import PySem.Challenge.RW_benchdays_k38_late_tables_judged
set_option Elab.async false
set_option linter.all false
set_option maxRecDepth 100000
noncomputable section
open PySem.W(Frag mg_of Looks fnOf findIn keepIn OpenLaw nsIn mroIn codeIn)
set_option hygiene false in
local macro_rules | `(tactic| and_intros) => `(tactic| intro ρ U H hd ls Q d hd' hR hL hm hQ)
open List(mem_cons mem_filter mem_range mem_append nodup_cons of_mem_zip map_nil any_cons length_nil mem_map all_eq_true mem_singleton mem_iff_getElem? ext_getElem? map_snd_zip pairwise_map filter_cons map_append range_succ)
open Option(bind_some isSome_iff_exists none_or)
open Nat(lt_trans not_lt le_succ sub_zero)
def gV{α β:Type _}{o:Option α}{f:α->Option β}{b:β}(h:o.bind f=some b):∃a,o=some a/\f a=some b:=Option.bind_eq_some_iff.mp h
def j4{α β:Type _}{o:Option α}{f:α->β}{b:β}(h:o.map f=some b):∃a,o=some a/\f a=b:=Option.map_eq_some_iff.mp h
def j5:=@PySem.wpAny_bind
def j6:=@if_pos
def j7:=@if_neg
def j8:=@PySem.wpAny_pure
def j9:=@Nat.le_refl
def ja:=@List.mem_cons
def jb:=@Nat.ne_of_lt
def jc:=@List.map_cons
def jd:=@List.size_toArray
def je:=@List.mem_append_right
def jf:=@Nat.le_trans
def jg:=@List.lookup_cons
def jh:=@List.map_map
def ji:=@List.not_mem_nil
def jk:=@or_false
def jl:=@Nat.lt_of_lt_of_le
def jm:=@List.mem_cons_of_mem
def jn:=@PySem.wpAny_mono
def jo:=@List.length_map
def jq:=@List.mem_of_getElem?
def jr:=@PySem.wpAny_field
def jt:=@List.mem_cons_self
def ju:=@List.mem_singleton
def jv:=@Nat.ne_of_gt
def jw:=@PySem.sizeLine_eq
def jx:=@Option.map_some
def jy:=@congrArg
def jA:=@Nat.zero_le
def jB:=@if_true
def jC:=@eq_iff_iff
def jD:=@PySem.wpAny_holding
def jE:=@List.length_take
def jF:=@List.find?_cons
def jG:=@Nat.lt_irrefl
def jH:=@PySem.wpAny_newObj_type
def jI:=@List.append_nil
def jJ:=@decide_eq_false
def jK:=@List.length_cons
def jL:=@List.length_append
def jM:=@List.zipIdx_cons
def jO:=@List.filterMap_cons
def jP:=@List.cons_append
def jQ:=@List.mem_of_mem_take
def jR:=@Nat.le_of_lt
def jS:=@PySem.wpAny_call
def jT:=@PySem.codeAny_mono
def jU:=@List.mem_append_left
def jV:=@List.lookup_append
def jW:=@PySem.wpAny_Call_Name_kw
def jX:=@decide_eq_true
def jY:=@List.reverse_cons
def jZ:=@List.pairwise_map
def k8:=@List.mem_of_mem_drop
def k9:=@Nat.lt_succ_of_lt
def kc:=@Nat.le_add_right
def kg:=@Nat.not_lt_zero
def kh:=@PySem.wpAny_truthy_bool
def kj:=@PySem.wpAny_passesOwn
def km:=@if_false
def ko:=@PySem.wpAny_call_entry
def kq:=@PySem.wpAny_seqItems
def kr:=@PyProof.Rows.listUpdate_at
def ku:=@List.length_drop
def kx:=@List.map_congr_left
def ky:=@List.drop_of_length_le
def kB:=@Int.toNat_natCast
def kC:=@PySem.wpAny_callSpecial?_slot
def kD:=@PySem.wpAny_standAt
def kE:=@List.contains_cons
def kF:=@List.mergeSort_perm
def kG:=@PySem.wpAny_execs_nil
def kH:=@PySem.wpAny_loadPart_at
def kJ:=@PySem.codeAny_call_builtin
def kK:=@PySem.wpAny_attempt
def kL:=@PySem.wpAny_setField
def kM:=@PySem.wpAny_setField_rec
def kN:=@PySem.wpAny_pyIter_enum
def kO:=@PySem.wpAny_onRaise
def kQ:=@PySem.codeAny_builtin
def kR:=@PyProof.Rows.get?_update_seq
def kT:=@PySem.wpAny_newList
def kU:=@PySem.wpAny_execs_cons
def kW:=@PySem.wpAny_letOwnedTupleGo_enum
set_option compiler.extract_closed false
local macro_rules | `(tactic| omega) => `(tactic| first | lia | omega (config := {}))
namespace Ea
open PySem PySem.W
def dA(s:Stmt):Arguments:=match s with
 |.FunctionDef _ a _ _ _ _ _ _ _ _=>a
 |_=>{ posonlyargs:=[],args:=[],vararg:=none,kwonlyargs:=[],kw_defaults:=[],kwarg:=none,defaults:=[] }
def dB(s:Stmt):List Stmt:=match s with
 |.FunctionDef _ _ b _ _ _ _ _ _ _=>b
 |_=>[]
def dS(s:Stmt):Scope:=match s with
 |.FunctionDef _ _ _ _ _ _ sc _ _ _=>sc
 |_=>{ kind:=.function,names:=[],isGenerator:=false,isCoroutine:=false }
def tO(o:Obj):Option Addr:=match o.data with
 | .fields vs=>(match (vs[11]?:Option Value)with
  |some (Value.ref P)=>some P
  | _=>none)
 |_=>none
def At(K:Frag)(n:Str)(s:Stmt)(f:Addr)(cd:Value):Prop:=∃oc kV dc pm ct od an sl,nsIn K mainGlobals n=some (some (.ref f))/\K.lookup f=some ⟨oc,od,.func (fnOf n n (dA s) (dB s) (dS s) .none kV dc pm an cd ct),sl⟩/\codeIn K cd n=true/\keepIn K (.ref f)=true
def Fe(K:Frag)(n:Str)(s:Stmt):Prop:=∃f cd,At K n s f cd
def Fl(K:Frag)(n:Str)(s:Stmt)(p:Addr):Prop:=∃f ca ob,At K n s f (.ref ca)/\K.lookup ca=some ob/\tO ob=some p
section
variable{K:Frag}{n:Str}{s:Stmt}{f ca p:Addr}{oc kV dc pm cd ct:Value}{od an:Option Addr}{sl:Array (Option Value)}{ob:Obj}
def feI(a:nsIn K mainGlobals n=some (some (.ref f)))(l:K.lookup f=some ⟨oc,od,.func (fnOf n n (dA s) (dB s) (dS s) .none kV dc pm an cd ct),sl⟩)(c:codeIn K cd n=true)(k:keepIn K (.ref f)=true):Fe K n s:=⟨f,cd,_,_,_,_,_,_,_,_,a,l,c,k⟩
def flI(a:nsIn K mainGlobals n=some (some (.ref f)))(l:K.lookup f=some ⟨oc,od,.func (fnOf n n (dA s) (dB s) (dS s) .none kV dc pm an cd ct),sl⟩)(c:codeIn K cd n=true)(k:keepIn K (.ref f)=true)(u:cd=.ref ca)(t:K.lookup ca=some ob)(v:tO ob=some p):Fl K n s p:=by
 subst u;exact⟨f,ca,ob,⟨_,_,_,_,_,_,_,_,a,l,c,k⟩,t,v⟩
end
abbrev cu:List Str:=["list","tuple","len","range","repr","sum","min","max","abs","all","any","sorted","zip","isinstance","int","bool","str","set","enumerate","reversed","dict"]
def Zs(K:Frag):Prop:=∀n∈cu,nsIn K mainGlobals n=some none
def Zg(K:Frag)(l:List Str):Prop:=∀n∈l,nsIn K mainGlobals n=some none
def zs0{K:Frag}:Zg K []:=λ_ h=>nomatch h
def zs1{K:Frag}{n:Str}{l:List Str}(h:nsIn K mainGlobals n=some none)(r:Zg K l):Zg K (n::l):=λm hm=>by
 rcases mem_cons.mp hm with rfl|hm
 .exact h
 .exact r m hm
end Ea
namespace L2
open PySem
def f9(nm:Str)(p:Addr×Obj):Bool:=match p.2.data with
 |.cls cd=>cd.name==nm
 |_=>false
def clsAt(K:Frag)(nm:Str):Option Addr:=(K.find? (f9 nm)).map (·.1)
end L2
namespace Ea
open PySem PySem.W
def inC(s:Stmt):Stmt:=match s with
 |.ClassDef _ _ _ b _ _ _ _ _ _ _=>b.getD 0 (.Pass ⟨0,0,0,0⟩)
 |_=>.Pass ⟨0,0,0,0⟩
def ovB:List Value->Bool
 |[]=>false
 | v::l=>decide (v::l=[.type "ValueError",.type "Exception",.type "BaseException",.type "object"])||(match v with
  |.ref _=>ovB l
  | _=>false)
def Ec(K:Frag)(nm:Str)(s:Stmt)(fs:List Str)(C:Addr):Prop:=∃(fI N:Addr) (nm' q:Str) (bs bm sub:List Value) (sn:List Str) (ab:Bool) (col:Option Bool) (dd od an:Option Addr) (k0 k1 k2 k3 k5:Option Value) (oc kV dc pm cd ct:Value) (sl:Array (Option Value)),
 nsIn K mainGlobals nm=some (some (.ref C))/\L2.clsAt K nm=some C/\K.lookup C=some (excClassObj nm' q C N bs bm true sn sub ab col dd k0 k1 k2 k3 k5 "ValueError.__new__")/\ovB bm=true/\findIn K (.ref C) "__init__"=some (some (.ref fI))/\isFn K (.ref fI)=true/\keepIn K (.ref C)=true /\
 findIn K (.ref C) "__setattr__"=some (some (.builtin "object.__setattr__"))/\findIn K (.ref C) "__getattribute__"=some (some (.builtin "BaseException.__getattribute__"))/\findIn K (.ref C) "__getattr__"=some none/\findIn K (.ref C) "__class__"=some (some (.builtin "object.__class__"))/\
 specialIn K (.builtin "object.__class__") "__get__"=some (some (.builtin "getset_descriptor.__get__"))/\takesIn K (.builtin "object.__class__")=some true/\mroIn K C (.type "object")=some true/\(∀f∈fs,findIn K (.ref C) f=some none)/\
 K.lookup fI=some ⟨oc,od,.func (fnOf "__init__" (nm++".__init__") (dA s) (dB s) (dS s) .none kV dc pm an cd ct),sl⟩/\codeIn K cd (nm++".__init__")=true/\keepIn K (.ref fI)=true
section
variable{K:Frag}{nm:Str}{fI:Addr}{sub:List Value}{ab:Bool}{kV:Value}
def na0:∀f∈([]:List Str),findIn K (.ref C) f=some none:=λ_ h=>nomatch h
def na1(h:findIn K (.ref C) f=some none)(r:∀f∈fs,findIn K (.ref C) f=some none):∀g∈f::fs,findIn K (.ref C) g=some none:=λg hg=>by
 rcases mem_cons.mp hg with rfl|hg
 .exact h
 .exact r g hg
def ecI(a:nsIn K mainGlobals nm=some (some (.ref C)))(b:L2.clsAt K nm=some C)(c:K.lookup C=some (excClassObj nm' q C N bs bm true sn sub ab col dd k0 k1 k2 k3 k5 "ValueError.__new__"))(d:ovB bm=true)(e:findIn K (.ref C) "__init__"=some (some (.ref fI)))(f:isFn K (.ref fI)=true)(g:keepIn K (.ref C)=true)
 (h:findIn K (.ref C) "__setattr__"=some (some (.builtin "object.__setattr__"))) (i:findIn K (.ref C) "__getattribute__"=some (some (.builtin "BaseException.__getattribute__"))) (j:findIn K (.ref C) "__getattr__"=some none) (k:findIn K (.ref C) "__class__"=some (some (.builtin "object.__class__")))
 (l:specialIn K (.builtin "object.__class__") "__get__"=some (some (.builtin "getset_descriptor.__get__"))) (m:takesIn K (.builtin "object.__class__")=some true) (n:mroIn K C (.type "object")=some true) (o:∀f∈fs,findIn K (.ref C) f=some none)
 (p:K.lookup fI=some ⟨oc,od,.func (fnOf "__init__" (nm++".__init__") (dA s) (dB s) (dS s) .none kV dc pm an cd ct),sl⟩) (r:codeIn K cd (nm++".__init__")=true) (t:keepIn K (.ref fI)=true):Ec K nm s fs C:=
 ⟨fI,N,nm',q,bs,bm,sub,sn,ab,col,dd,od,an,k0,k1,k2,k3,k5,oc,kV,dc,pm,cd,ct,sl,a,b,c,d,e,f,g,h,i,j,k,l,m,n,o,p,r,t⟩
end
end Ea
namespace Hl
open PySem PySem.W PyProof.Rows
def PQ(p:Program)(w:World)(m:Nat)(ann:Option Value):Nat->SharedT->Thread->Option SharedT
 |0,_,_=>none
 |n+1,s,t=>match through t with
  |true=>some s
  |false=>match stepOk m ann t with
   |false=>none
   |true=>match stepT (denote treeTable) p w s t with
    |some (s',t')=>PQ p w m ann n s' t'
    |none=>none
theorem OO{p:Program}{w:World}{m:Nat}{ann:Option Value}:∀{n:Nat} {s s':SharedT} {t:Thread},PQ p w m ann n s t=some s'->topRun treeTable p w m ann n s.abs t=some s'.abs
 |0,_,_,_,h=>by cases h
 |n+1,s,s',t,h=>by
  rw[PQ]at h;rw[topRun];cases h1:through t with
  |true=>rw[h1]at h;cases h;rfl
  |false=>
   rw[h1]at h;cases h2:stepOk m ann t with
   |false=>rw[h2]at h;cases h
   |true=>
    rw[h2]at h;cases h3:stepT (denote treeTable) p w s t with
    |none=>rw[h3]at h;cases h
    |some r=>obtain⟨s2,t2⟩:=r;rw[h3]at h;rw[stepT_spec h3];exact OO h
def VU:Nat->List Obj->BT->BT
 |_,[],t=>t
 |n,o::r,t=>VU (n+1) r (t.ins n o)
def bT(P:Params):BT:=VU 0 (boot_heap P).objs.toList .nil
def cr(P:Params):absHeap (bT P) 11 (boot_heap P).life=boot_heap P:=by kernel_rfl
def gD(P:Params):((boot_heap P).isNs mainGlobals,(boot_heap P).nsMap mainGlobals "__annotations__")=(true,some (.ref 6)):=by kernel_rfl
variable{p q:Program}{loose:List Str}{Xt:Shared->Bool}{α:Type}{Yf:Shared->α}{Ya:World->α}{N M:Nat}
def look(p q:Program)(loose:List Str)(Xt:Shared->Bool)(Yf:Shared->α)(M:Nat)(w:World)(os:OsState):=
 match PQ p w 11 (some (.ref 6)) M ⟨bT w.params,11,(boot_heap w.params).life,Array.mk [],boot_drawn,boot_toks,os⟩ (topStub p)with
 | some s=>(match staticsOk (importedModules p.main.body) (boot_heap w.params) s.abs.heap&&namesBound p s.abs.heap&&gensDone s.abs&&laidKept (boot_heap w.params) s.abs.heap with
  |true=>some (openSeen q loose (importedModules p.main.body) Xt true s.abs,Yf s.abs)
  | false=>none)
 |none=>none
def left(e:opening p=plainProg p.main.scope.names)(f:∀s,fenceModules? p s=some s)(hN:Nat.ble 600 N=true)(hM:Nat.ble M N=true)(h:∀w os,look p q loose Xt Yf M w os=some (openGood q loose,Ya w)):LeftO p q loose Xt Yf Ya N:=λw=>by
 obtain⟨⟨hp,gs,d,k,os⟩,e1,e2⟩:=j4 (boot_open e hN f w);simp only[Prod.mk.injEq]at e2;obtain⟨rfl,rfl,rfl,rfl⟩:=e2;have hl:=h w os;unfold look at hl;split at hl
 .next s hs=>
  have r:=topRun_mono (N-M) _ _ _ _ (OO hs);rw[show M+(N-M)=N by have:=Nat.le_of_ble_eq_true hM;omega]at r;have ea:(SharedT.mk (bT w.params) 11 (boot_heap w.params).life (Array.mk []) boot_drawn boot_toks os).abs=⟨boot_heap w.params,Array.mk [],boot_drawn,boot_toks,os⟩:=by
   show Shared.mk (absHeap (bT w.params) 11 (boot_heap w.params).life) _ _ _ _=_;rw[cr]
  rw[ea]at r;obtain⟨z1,z2⟩:=Prod.mk.inj (gD w.params);have z3:(boot_heap w.params).objs.size=11:=rfl;split at hl
  .next c=>
   show((fencedOpening treeTable p w N).bind (topFrom treeTable p w N)).map _=_;rw[e1,bind_some];have t:topFrom treeTable p w N ⟨boot_heap w.params,Array.mk [],boot_drawn,boot_toks,os⟩=some s.abs:=by
    unfold topFrom;dsimp only;rw[z1,z2,z3,r];show(match staticsOk (importedModules p.main.body) (boot_heap w.params) s.abs.heap&&namesBound p s.abs.heap&&gensDone s.abs&&laidKept (boot_heap w.params) s.abs.heap with|true=>some s.abs|false=>none)=_;rw[c]
   rw[t];exact hl
  .cases hl
 .cases hl
end Hl
namespace T38
open PySem PySem.W PyProof.Rows Ea
def top(i:Nat):Stmt:=PySem.Challenge.pw_benchdays_k38_late_tables_judged.main.body.getD i (.Pass ⟨0,0,0,0⟩)
def vw:PySem.Program:={ PySem.Challenge.pw_benchdays_k38_late_tables_judged with main:={ PySem.Challenge.pw_benchdays_k38_late_tables_judged.main with body:=[1,2,3,4,5,6,7,8,9,11,12,14,15,16,17,19,20,21,22,23,24,25,26,27,28,30,31,32,33,34,35,36,37,38,39,40,41,42,43,44,45,46,47,48,49,50].map top } }
def Qp(K:Frag):Prop:=Zs K/\Fe K "law" (top 50)/\Fe K "_law_source" (top 30)/\Fe K "_law_pick" (top 31)/\Fe K "_law_late_works" (top 32)/\Fe K "_law_alike" (top 33)/\Fe K "_law_by_dues" (top 34)/\Fe K "_law_highest" (top 35)/\Fe K "_law_free" (top 36)/\Fe K "_law_lowered" (top 37)/\Fe K "_law_put" (top 42)/\Fe K "_law_stepped" (top 43)/\Fe K "_law_odd" (top 44)/\Fe K "_law_reshaped" (top 45)/\Fe K "_law_near" (top 46)/\Fe K "_law_spoilt" (top 47)/\Fe K "_law_is_entry" (top 38)/\Fe K "_law_shape" (top 39)/\Fe K "_law_places" (top 40)/\Fe K "_law_last" (top 41)/\Fe K "_law_judged" (top 48)/\Fe K "same_coming" (top 14)/\Fe K "one_coming" (top 15)/\Fe K "refuse_other_costs" (top 16)/\Fe K "late_coming" (top 19)/\Fe K "weight_of" (top 17)/\Fe K "full_weight" (top 21)/\Fe K "greatest_weight" (top 24)/\Fe K "is_number" (top 11)/\Fe K "is_tuple_of" (top 12)/\Fe K "look_at_shape" (top 25)/\Fe K "no_more" (top 22)/\Fe K "put_behind" (top 23)/\Fe K "look_at_row" (top 26)/\Fe K "look_at_places" (top 27)/\Fe K "lets_table" (top 28)/\Fe K "_law_told" (top 49)/\∃p30 cc0 cc1 cc2 cc3 cc4 cc5 cc6 cc7 cc8,Fl K "by_dues" (top 20) p30/\([p30]:List Addr).Nodup/\Ec K "NoPaper" (inC (top 2)) ["path","word"] cc0/\nsIn K mainGlobals "NoPaper"=some (some (.ref cc0))/\nsIn K mainGlobals "BenchError"=some (some (.ref cc1))/\nsIn K mainGlobals "NoBack"=some (some (.ref cc2))/\nsIn K mainGlobals "NoRow"=some (some (.ref cc3))/\nsIn K mainGlobals "NoRule"=some (some (.ref cc4))/\nsIn K mainGlobals "NoText"=some (some (.ref cc5))/\nsIn K mainGlobals "NoWish"=some (some (.ref cc6))/\nsIn K mainGlobals "NoWork"=some (some (.ref cc7))/\nsIn K mainGlobals "TooMany"=some (some (.ref cc8))/\exmOne K (.ref cc0) (.ref cc1)=some true/\kitAny K (.ref cc0) ([cc2,cc3,cc4,cc5,cc6,cc7,cc8].map Value.ref)=some false/\nsIn K mainGlobals "ValueError"=some none/\kitOne K (.ref cc0) (.type "ValueError")=some true/\kitOne K (.ref cc0) (.ref cc0)=some true
def fm{K:Frag}{p30 cc0 cc1 cc2 cc3 cc4 cc5 cc6 cc7 cc8:Addr}(z:Zs K)(h0:Fe K "law" (top 50))(h1:Fe K "_law_source" (top 30))(h2:Fe K "_law_pick" (top 31))(h3:Fe K "_law_late_works" (top 32))(h4:Fe K "_law_alike" (top 33))(h5:Fe K "_law_by_dues" (top 34))(h6:Fe K "_law_highest" (top 35))(h7:Fe K "_law_free" (top 36))(h8:Fe K "_law_lowered" (top 37))(h9:Fe K "_law_put" (top 42))(h10:Fe K "_law_stepped" (top 43))(h11:Fe K "_law_odd" (top 44))(h12:Fe K "_law_reshaped" (top 45))(h13:Fe K "_law_near" (top 46))(h14:Fe K "_law_spoilt" (top 47))(h15:Fe K "_law_is_entry" (top 38))(h16:Fe K "_law_shape" (top 39))(h17:Fe K "_law_places" (top 40))(h18:Fe K "_law_last" (top 41))(h19:Fe K "_law_judged" (top 48))(h20:Fe K "same_coming" (top 14))(h21:Fe K "one_coming" (top 15))(h22:Fe K "refuse_other_costs" (top 16))(h23:Fe K "late_coming" (top 19))(h24:Fe K "weight_of" (top 17))(h25:Fe K "full_weight" (top 21))(h26:Fe K "greatest_weight" (top 24))(h27:Fe K "is_number" (top 11))(h28:Fe K "is_tuple_of" (top 12))(h29:Fe K "look_at_shape" (top 25))(h31:Fe K "no_more" (top 22))(h32:Fe K "put_behind" (top 23))(h33:Fe K "look_at_row" (top 26))(h34:Fe K "look_at_places" (top 27))(h35:Fe K "lets_table" (top 28))(h36:Fe K "_law_told" (top 49))(h30:Fl K "by_dues" (top 20) p30)(tn:([p30]:List Addr).Nodup)(ec_NoPaper:Ec K "NoPaper" (inC (top 2)) ["path","word"] cc0)(ns_NoPaper:nsIn K mainGlobals "NoPaper"=some (some (.ref cc0)))(ns_BenchError:nsIn K mainGlobals "BenchError"=some (some (.ref cc1)))(ns_NoBack:nsIn K mainGlobals "NoBack"=some (some (.ref cc2)))(ns_NoRow:nsIn K mainGlobals "NoRow"=some (some (.ref cc3)))(ns_NoRule:nsIn K mainGlobals "NoRule"=some (some (.ref cc4)))(ns_NoText:nsIn K mainGlobals "NoText"=some (some (.ref cc5)))(ns_NoWish:nsIn K mainGlobals "NoWish"=some (some (.ref cc6)))(ns_NoWork:nsIn K mainGlobals "NoWork"=some (some (.ref cc7)))(ns_TooMany:nsIn K mainGlobals "TooMany"=some (some (.ref cc8)))(kt0:exmOne K (.ref cc0) (.ref cc1)=some true)(kt1:kitAny K (.ref cc0) ([cc2,cc3,cc4,cc5,cc6,cc7,cc8].map Value.ref)=some false)(kt2:nsIn K mainGlobals "ValueError"=some none)(kt3:kitOne K (.ref cc0) (.type "ValueError")=some true)(kt4:kitOne K (.ref cc0) (.ref cc0)=some true):Qp K:=⟨z,h0,h1,h2,h3,h4,h5,h6,h7,h8,h9,h10,h11,h12,h13,h14,h15,h16,h17,h18,h19,h20,h21,h22,h23,h24,h25,h26,h27,h28,h29,h31,h32,h33,h34,h35,h36,_,_,_,_,_,_,_,_,_,_,h30,tn,ec_NoPaper,ns_NoPaper,ns_BenchError,ns_NoBack,ns_NoRow,ns_NoRule,ns_NoText,ns_NoWish,ns_NoWork,ns_TooMany,kt0,kt1,kt2,kt3,kt4⟩
local macro_rules | `(tactic| o_head $H) => `(tactic| (refine holds_open (r := PySem.Challenge.rw_benchdays_k38_late_tables_judged.row) (q := T38.vw) (loose := []) (Xt := λ s => xlAt T38.vw [] s && recOk (RowW.records (OpenRow.toRowW PySem.Challenge.rw_benchdays_k38_late_tables_judged.row)) s) (XP := XL T38.vw []) (Yf := Hook.obs $H) (Ya := Hook.val $H) (YP := Hook.says $H) (N := 100000) ?hl (Hook.of $H) (Hook.keeps $H) (λ s e => xl_of s (Bool.and_eq_true_iff.mp e).1) XL.keeps (by rfl) (by rfl) (by rfl) (λ s e => recFacts_of (Bool.and_eq_true_iff.mp e).2) (by rfl) (by first | assumption | decide +kernel) (by decide +kernel) ⟨rfl, rfl, rfl, rfl, rfl, by decide +kernel⟩ ?hw ?hc; (case hl => exact Hl.left (M := 10000) (by rfl) (λ s => by rfl) (by decide) (by decide) λ w os => by kernel_rfl)))
set_option maxRecDepth 100000 in
set_option maxHeartbeats 0 in
def early(hG:∀(K:Params->Frag),(∀w:World,Qp (K w.params))->∀d:DefRec,d.name="law"->d.params.defaults=[]->WalkO T38.vw [] (XL T38.vw []) (λw h=>(K w.params).In h) PySem.Challenge.rw_benchdays_k38_late_tables_judged.row.toRowW d [] (λf vs=>PySem.call f vs)):PySem.Challenge.rw_benchdays_k38_late_tables_judged.Holds:=by
 w_on;o_law;k_head;(case hw=>w_witness2)
 k_fill
 refine λw s₀ s₁ mg mb G Y=>hG _ ?F _ rfl rfl w s₀ s₁ mg mb G (km_in_of Y)
 case F=>
  intro w;refine' fm ?z ?h0 ?h1 ?h2 ?h3 ?h4 ?h5 ?h6 ?h7 ?h8 ?h9 ?h10 ?h11 ?h12 ?h13 ?h14 ?h15 ?h16 ?h17 ?h18 ?h19 ?h20 ?h21 ?h22 ?h23 ?h24 ?h25 ?h26 ?h27 ?h28 ?h29 ?h31 ?h32 ?h33 ?h34 ?h35 ?h36 ?h30 ?tn ?ec_NoPaper ?ns_NoPaper ?ns_BenchError ?ns_NoBack ?ns_NoRow ?ns_NoRule ?ns_NoText ?ns_NoWish ?ns_NoWork ?ns_TooMany ?kt0 ?kt1 ?kt2 ?kt3 ?kt4
  case z=>(refine' zs1 _ (zs1 _ (zs1 _ (zs1 _ (zs1 _ (zs1 _ (zs1 _ (zs1 _ (zs1 _ (zs1 _ (zs1 _ (zs1 _ (zs1 _ (zs1 _ (zs1 _ (zs1 _ (zs1 _ (zs1 _ (zs1 _ (zs1 _ (zs1 _ (zs0)))))))))))))))))))))<;>k_is)
  case h0|h1|h2|h3|h4|h5|h6|h7|h8|h9|h10|h11|h12|h13|h14|h15|h16|h17|h18|h19|h20|h21|h22|h23|h24|h25|h26|h27|h28|h29|h31|h32|h33|h34|h35|h36=>(refine' feI ?a ?l ?c ?k;case a|l|c|k=>k_is)
  case h30=>(refine' flI ?a ?l ?c ?k ?u ?t ?v;(case a|l|c|k=>k_is);(case u=>rfl);(case t=>k_is);(case v=>rfl))
  case tn=>decide
  case ec_NoPaper=>(refine' ecI ?a ?b ?c ?d ?e ?f ?g ?h ?i ?j ?k ?l ?m ?n (na1 ?o1 (na1 ?o0 (na0))) ?p ?r ?t;(case a=>k_is);(case c=>k_is);(case d=>decide);(case e=>k_is);(case p=>k_is);(case b=>kernel_rfl);(case f|g|h|i|j|k|l|m|n|o0|o1|r|t=>k_is))
  case ns_NoPaper|ns_BenchError|ns_NoBack|ns_NoRow|ns_NoRule|ns_NoText|ns_NoWish|ns_NoWork|ns_TooMany|kt0|kt1|kt2|kt3|kt4=>first|k_is|kernel_rfl
end T38
namespace L2
open PySem PySem.Spec PyProof.Rows
abbrev Key:=Sum Int Str
def Ic:Key->Value->Bool
 |.inl k,v=>Value.isInt k v
 |.inr x,v=>Value.isStrOf x v
def fg(w:World):Key->Int
 |.inl k=>hashInt k
 |.inr x=>hashStr w x
def Bb:∀{k:Key} {v:Value},Ic k v=true->(∃i t,k=Sum.inl i/\v=Value.int i t)∨(∃x t,k=Sum.inr x/\v=Value.str x t)
 |.inl i,v,h=>by
  obtain⟨t,e⟩:=Value.isInt_shape (k:=i) (v:=v) h;exact .inl ⟨i,t,rfl,e⟩
 |.inr x,v,h=>by
  obtain⟨t,e⟩:=Value.isStrOf_shape (x:=x) (v:=v) h;exact .inr ⟨x,t,rfl,e⟩
def SU(i:Int)(t:Tok):Ic (.inl i) (.int i t)=true:=by simp[Ic,Value.isInt]
def SS(x:Str)(t:Tok):Ic (.inr x) (.str x t)=true:=by simp[Ic,Value.isStrOf]
def cF(a b:Int):decide ((Sum.inl a:Key)=Sum.inl b)=(a==b):=by
 by_cases e:a=b
 .subst e;simp
 .have h:¬ (Sum.inl a:Key)=Sum.inl b:=λq=>e (Sum.inl.inj q);rw[jJ h];exact(beq_eq_false_iff_ne.mpr e).symm
def cC(a b:Str):decide ((Sum.inr a:Key)=Sum.inr b)=decide (a=b):=by
 by_cases e:a=b
 .subst e;simp
 .have h:¬ (Sum.inr a:Key)=Sum.inr b:=λq=>e (Sum.inr.inj q);rw[jJ h,jJ e]
def cE(a:Int)(b:Str):decide ((Sum.inl a:Key)=Sum.inr b)=false:=jJ (λq=>nomatch q)
def cD(a:Str)(b:Int):decide ((Sum.inr a:Key)=Sum.inl b)=false:=jJ (λq=>nomatch q)
def BP(prog:Program)(w:World):PySem.KeyKind prog w Key where
 is:=Ic
 hash:=fg w
 inj:=λv a b ha hb=>by
  rcases Bb ha with⟨i,t,rfl,rfl⟩|⟨x,t,rfl,rfl⟩
  .rcases Bb hb with⟨j,u,rfl,e⟩|⟨y,u,rfl,e⟩
   .injection e with e1 _;rw[e1]
   .exact nomatch e
  .rcases Bb hb with⟨j,u,rfl,e⟩|⟨y,u,rfl,e⟩
   .exact nomatch e
   .injection e with e1 _;rw[e1]
 byValue:=λk v h=>by
  rcases Bb h with⟨i,t,rfl,rfl⟩|⟨x,t,rfl,rfl⟩<;>rfl
 pyHash:=λhv h=>by
  rcases Bb hv with⟨i,t,rfl,rfl⟩|⟨x,t,rfl,rfl⟩
  .exact wpAny_pyHash_int h
  .exact wpAny_pyHash_str h
 eqBool:=λhu hv h=>by
  rcases Bb hu with⟨i,t,rfl,rfl⟩|⟨x,t,rfl,rfl⟩
  .rcases Bb hv with⟨j,u,rfl,rfl⟩|⟨y,u,rfl,rfl⟩
   .rw[cF]at h;exact wpAny_eqBool_int h
   .rw[cE]at h;exact SeqAt.EqAt.int_str i t y u _ _ _ _ h
  .rcases Bb hv with⟨j,u,rfl,rfl⟩|⟨y,u,rfl,rfl⟩
   .rw[cD]at h;exact SeqAt.EqAt.str_int x t j u _ _ _ _ h
   .rw[cC]at h;exact wpAny_eqBool_str h
 «strs»:=λk x t v h=>by
  rcases Bb h with⟨i,u,rfl,e⟩|⟨y,u,rfl,e⟩
  .exact nomatch e
  .injection e with e1 _
   subst e1;cases v<;>rfl
def OD(prog:Program)(w:World)(i:Int)(t:Tok):(BP prog w).is (.inl i) (.int i t)=true:=SU i t
def OC(prog:Program)(w:World)(x:Str)(t:Tok):(BP prog w).is (.inr x) (.str x t)=true:=SS x t
inductive V where
 |non|bl (b:Bool)|int (i:Int)|str (x:Str)|byt (b:Array UInt8)|flt (b:UInt64)|ref (a:Addr)|ty (n:String)
 deriving DecidableEq
def RelV:V->Value->Prop
 |.non,u=>u=Value.none
 |.bl b,u=>u=Value.bool b
 |.int i,u=>∃t,u=Value.int i t
 |.str x,u=>∃t,u=Value.str x t
 |.byt b,u=>∃t,u=Value.bytes b t
 |.flt b,u=>∃t,u=Value.float b t
 |.ref a,u=>u=Value.ref a
 |.ty n,u=>u=Value.type n
abbrev Vals:List V->List Value->Prop:=Paired RelV
theorem Vals.length{xs:List V}{us:List Value}(r:Vals xs us):xs.length=us.length:=Paired.length r
theorem Vals.get:∀{xs:List V} {us:List Value} {i:Nat} {x:V},Vals xs us->xs[i]?=some x->∃u,us[i]?=some u/\RelV x u
 |_,_,_,_,.nil,e=>by simp at e
 |_,_,0,_,.cons r _,e=>by simp at e;subst e;exact⟨_,rfl,r⟩
 |_,_,i+1,x,.cons _ t,e=>by
  obtain⟨u,h1,h2⟩:=Vals.get (i:=i) (x:=x) t (by simpa using e);exact⟨u,by simpa using h1,h2⟩
theorem Vals.append:∀{xs ys:List V} {us ws:List Value},Vals xs us->Vals ys ws->Vals (xs++ys) (us++ws)
 |_,_,_,_,.nil,s=>s
 |_,_,_,_,.cons r t,s=>.cons r (Vals.append t s)
theorem Vals.take:∀{xs:List V} {us:List Value} (n:Nat),Vals xs us->Vals (xs.take n) (us.take n)
 |_,_,0,_=>.nil
 |_,_,_+1,.nil=>.nil
 |_,_,n+1,.cons r t=>.cons r (Vals.take n t)
theorem Vals.drop:∀{xs:List V} {us:List Value} (n:Nat),Vals xs us->Vals (xs.drop n) (us.drop n)
 |_,_,0,r=>r
 |_,_,_+1,.nil=>.nil
 |_,_,n+1,.cons _ t=>Vals.drop n t
def RelO:Option V->Option Value->Prop
 |some v,some u=>RelV v u
 |none,none=>True
 |_,_=>False
def KV{κ:Type}:List (κ×V)->List (κ×Value)->Prop:=Paired λ(p:κ×V) (q:κ×Value)=>p.1=q.1/\RelV p.2 q.2
def kV:Key->V
 |.inl i=>.int i
 |.inr x=>.str x
inductive HO where
 /-- a list -/
 |lst (xs:List V)
 /-- a tuple (never changes) -/
 |tup (xs:List V)
 /-- a dict whose keys are ints and texts;one whose keys are tuples of ints and texts (the empty one is both) -/
 |dK (kvs:List (Key×V))|dT (kvs:List (List Key×V))
 /-- a set of ints: its members,its size -/
 |set (S:Int->Bool) (n:Nat)
 /-- an instance of the class at C,its dict at dx,its attributes -/
 |ins (C dx:Addr) (fs:List (Str×V))
 /-- the dict of the instance at x -/
 |own (x:Addr)
 /-- the dict of an exception -/
 |xd (fs:List (Str×V))
 /-- a bound method,f of x -/
 |met (f x:Addr)
 /-- a range object lo,lo+1,.. Qk hi -/
 |rng (lo hi:Int)
 /-- a thing that is known to the object (the script;a dict while a loop walks it): read,never written while it is so -/
 |frz (o:Obj) (u:HO)
 /-- a code object's table -/
 |tbl (ps:Array Value)
 /-- any other thing,by what is true of its one object (a def of one's own: SetO a S n:=HO.ext λh=>..) -/
 |ext (φ:Heap->Prop)
abbrev Hp:=Addr->Option HO
def upd(H:Hp)(a:Addr)(o:HO):Hp:=λb=>if b=a then some o else H b
def AJ{H:Hp}{a:Addr}{o:HO}:upd H a o a=some o:=by unfold upd;rw[j6 rfl]
def AC{H:Hp}{a b:Addr}{o:HO}(h:b≠a):upd H a o b=H b:=by unfold upd;rw[j7 h]
def eJ{H:Hp}{a b:Addr}{o u:HO}(h:H a=some o)(h':H b=some u)(d:o≠u):a≠b:=by
 intro e;subst e;rw[h]at h';exact d (Option.some.inj h')
def AZ{H:Hp}{a b:Addr}{o:HO}(h:H a=some o)(h':H b=none):a≠b:=by
 intro e;subst e;rw[h]at h';cases h'
def IsTupD(h:Heap)(a:Addr)(items:Array Value):Prop:=∃o,h.get? a=some o/\o.cls=.type "tuple"/\(∃n,o.data=.seq items n)/\o.dict=none
def IsTupD.t{h:Heap}{a:Addr}{items:Array Value}(x:IsTupD h a items):IsTup h a items:=let ⟨o,e,c,d,_⟩:=x;⟨o,e,c,d⟩
def IsTupD.new(h:Heap)(items:Array Value):IsTupD (h.push { cls:=.type "tuple",data:=.seq items }) h.objs.size items:=⟨_,Heap.get?_push_size _ rfl,rfl,⟨_,rfl⟩,rfl⟩
section
variable(P:Program)(w:World)
def ObjOk(H:Hp)(h:Heap)(a:Addr):HO->Prop
 |.lst xs=>xs.length<=sizeLine/\∃(its:List Value) (n:Nat),Vals xs its/\h.get? a=some { cls:=.type "list",data:=.seq its.toArray n }
 |.tup xs=>xs.length<=sizeLine/\∃its:List Value,Vals xs its/\IsTupD h a its.toArray
 |.dK kvs=>kvs.length<=sizeLine/\(a==sysModules)=false/\∃vs,KV kvs vs/\h.DictOf (BP P w) a vs
 |.dT kvs=>kvs.length<=sizeLine/\(a==sysModules)=false/\∃xs:List (List Key×Addr×Value),
  Paired (λ(p:List Key×V) (q:List Key×Addr×Value)=>p.1=q.1/\H q.2.1=some (.tup (p.1.map kV))/\RelV p.2 q.2.2) kvs xs /\
  ∃o es ep,h.get? a=some o/\o.ExactDict/\o.data=.dict es ep/\es.toList=xs.map (entryOfKey (tupleKind (BP P w)))/\(xs.map (·.1)).Nodup
 |.set S n=>h.SetOf (intKind P w) a S n
 |.ins C dx fs=>H dx=some (.own a)/\fs.length<=1000/\dx≠a/\h.get? a=some (PySem.W.instObj C dx)/\
  ∃mA,h.Ns1 dx mA/\(∀f,RelO (fs.lookup f) (mA f))/\PySem.Within mA (fs.map (·.1))
 |.own _=>∃o,h.get? a=some o
 |.xd fs=>∃mA,h.Ns1 a mA/\∀f,RelO (fs.lookup f) (mA f)
 |.rng lo hi=>∃t u v,h.get? a=some { cls:=.type "range",data:=.fields #[.int lo t,.int hi u,.int 1 v] }
 |.frz o u=>h.get? a=some o/\ObjOk H h a u
 |.tbl ps=>h.get? a=some { cls:=.none,data:=.fields ps }
 |.met f x=>h.get? a=some (PySem.W.methodObj (.ref f) (.ref x))
 |.ext φ=>φ h/\(∃o,h.get? a=some o)/\∀h1 h2:Heap,φ h1->(∀o,h1.get? a=some o->h2.get? a=some o)->φ h2
def HOk(H:Hp)(h:Heap):Prop:=∀a o,H a=some o->ObjOk P w H h a o
end
section
variable{P:Program}{w:World}{H H':Hp}{h h':Heap}{a:Addr}{o:HO}
def ObjOk.lt(x:ObjOk P w H h a o):a<h.objs.size:=by
 cases o with
 |lst xs=>obtain⟨_,_,_,_,e⟩:=x;exact Heap.lt_size e
 |tup xs=>obtain⟨_,_,_,o,e,_⟩:=x;exact Heap.lt_size e
 |dK kvs=>obtain⟨_,_,_,_,o,_,_,e,_⟩:=x;exact Heap.lt_size e
 |dT kvs=>obtain⟨_,_,_,_,o,_,_,e,_⟩:=x;exact Heap.lt_size e
 |set S n=>obtain⟨o,_,_,_,e,_⟩:=x;exact Heap.lt_size e
 |ins C dx fs=>obtain⟨_,_,_,e,_⟩:=x;exact Heap.lt_size e
 |own y=>obtain⟨_,e⟩:=x;exact Heap.lt_size e
 |xd fs=>obtain⟨_,⟨_,_,_,e,_⟩,_⟩:=x;exact Heap.lt_size e
 |rng lo hi=>obtain⟨_,_,_,e⟩:=x;exact Heap.lt_size e
 |frz ob u=>obtain⟨e,_⟩:=x;exact Heap.lt_size e
 |tbl ps=>exact Heap.lt_size (show h.get? a=some _ from x)
 |met f y=>exact Heap.lt_size (show h.get? a=some _ from x)
 |ext φ=>obtain⟨_,⟨_,e⟩,_⟩:=x;exact Heap.lt_size e
theorem Paired.mapP{α β:Type}{F G:α->β->Prop}:∀{l₁:List α} {l₂:List β},Paired F l₁ l₂->(∀a b,F a b->G a b)->Paired G l₁ l₂
 |_,_,.nil,_=>.nil
 |_,_,.cons r t,f=>.cons (f _ _ r) (Paired.mapP t f)
def ObjOk.stay(x:ObjOk P w H h a o)(k:∀b u,(b=a∨H b=some (.own a))->h.get? b=some u->h'.get? b=some u)
 (ho:∀b,H b=some (.own a)->H' b=some (.own a)) (ht:∀b xs,H b=some (.tup xs)->H' b=some (.tup xs)):ObjOk P w H' h' a o:=by
 induction o with
 |lst xs=>obtain⟨z,its,n,r,e⟩:=x;exact⟨z,its,n,r,k _ _ (.inl rfl) e⟩
 |tup xs=>obtain⟨z,its,r,ob,e,c⟩:=x;exact⟨z,its,r,ob,k _ _ (.inl rfl) e,c⟩
 |dK kvs=>obtain⟨z,y,vs,r,ob,es,ep,e,c⟩:=x;exact⟨z,y,vs,r,ob,es,ep,k _ _ (.inl rfl) e,c⟩
 |dT kvs=>
  obtain⟨z,y,xs,r,ob,es,ep,e,c⟩:=x;exact⟨z,y,xs,Paired.mapP r λp q z=>⟨z.1,ht _ _ z.2.1,z.2.2⟩,ob,es,ep,k _ _ (.inl rfl) e,c⟩
 |set S n=>obtain⟨ob,es,ep,t,e,c⟩:=x;exact⟨ob,es,ep,t,k _ _ (.inl rfl) e,c⟩
 |ins C dx fs=>
  obtain⟨d,z,ne,e,mA,⟨od,es,ep,e2,c⟩,r⟩:=x;exact⟨ho _ d,z,ne,k _ _ (.inl rfl) e,mA,⟨od,es,ep,k _ _ (.inr d) e2,c⟩,r⟩
 |own y=>obtain⟨ob,e⟩:=x;exact⟨ob,k _ _ (.inl rfl) e⟩
 |xd fs=>obtain⟨mA,⟨od,es,ep,e,c⟩,r⟩:=x;exact⟨mA,⟨od,es,ep,k _ _ (.inl rfl) e,c⟩,r⟩
 |rng lo hi=>obtain⟨t,u,v,e⟩:=x;exact⟨t,u,v,k _ _ (.inl rfl) e⟩
 |frz ob u ih=>obtain⟨e,q⟩:=x;exact⟨k _ _ (.inl rfl) e,ih q⟩
 |tbl ps=>
  have e:h.get? a=some { cls:=.none,data:=.fields ps }:=x;show h'.get? a=some { cls:=.none,data:=.fields ps };exact k a _ (.inl rfl) e
 |met f y=>
  have e:h.get? a=some (PySem.W.methodObj (.ref f) (.ref y)):=x;show h'.get? a=some (PySem.W.methodObj (.ref f) (.ref y));exact k a _ (.inl rfl) e
 |ext φ=>obtain⟨p,⟨o,e⟩,st⟩:=x;exact⟨st _ _ p λo q=>k _ _ (.inl rfl) q,⟨o,k _ _ (.inl rfl) e⟩,st⟩
theorem HOk.lt(x:HOk P w H h)(e:H a=some o):a<h.objs.size:=(x a o e).lt
def HOk.fresh(x:HOk P w H h)(e:h.objs.size<=a):H a=none:=by
 cases q:H a with
 |none=>rfl
 |some u=>exact absurd (jl (x.lt q) e) (jG _)
def HOk.kept(x:HOk P w H h)(k:∀b u,h.get? b=some u->h'.get? b=some u):HOk P w H h':=λa o e=>
 (x a o e).stay (λb u _ q=>k b u q) (λ_ q=>q) λ_ _ q=>q
def HOk.laid(x:HOk P w H h)(k:∀b u,h.get? b=some u->h'.get? b=some u)(hp:h.objs.size<=a)(new:ObjOk P w (upd H a o) h' a o):HOk P w (upd H a o) h':=λb u e=>by
 have hn:=x.fresh hp;by_cases hb:b=a
 .subst hb;rw[AJ]at e;cases e;exact new
 .rw[AC hb]at e;exact(x b u e).stay (λc v _ q=>k c v q) (λc q=>by rw[AC (AZ q hn)];exact q) λc xs q=>by rw[AC (AZ q hn)];exact q
end
def Rd(H:Hp)(a:Addr)(u:HO):Prop:=H a=some u∨∃o,H a=some (.frz o u)
def Rd.ok{P:Program}{w:World}{H:Hp}{h:Heap}{a:Addr}{u:HO}(r:Rd H a u)(x:HOk P w H h):ObjOk P w H h a u:=by
 rcases r with r|⟨o,r⟩
 .exact x a u r
 .obtain⟨_,q⟩:=x a _ r;exact q
def Mut:Option HO->Prop
 |some (.lst _)=>True
 |some (.dK _)=>True
 |some (.dT _)=>True
 |some (.set _ _)=>True
 |some (.ins _ _ _)=>True
 |some (.ext _)=>True
 |_=>False
section
variable{P:Program}{w:World}{H:Hp}{h h':Heap}{x e:Addr}{o':HO}
def HOk.write(ok:HOk P w H h)(mu:Mut (H x))(he:e=x∨H e=some (.own x))(k:∀b u,b≠e->h.get? b=some u->h'.get? b=some u)(heo:∃u,h'.get? e=some u)
 (new:ObjOk P w (upd H x o') h' x o'):HOk P w (upd H x o') h':=λb u q=>by
 have nown:∀c y,H c=some (.own y)->c≠x:=λc y r z=>by subst z;rw[r]at mu;exact mu
 have ntup:∀c xs,H c=some (.tup xs)->c≠x:=λc xs r z=>by subst z;rw[r]at mu;exact mu
 by_cases hb:b=x
 .subst hb;rw[AJ]at q;cases q;exact new
 .rw[AC hb]at q;by_cases hbe:b=e
  .have q':H b=some (.own x):=by
    rcases he with z|z
    .exact absurd (hbe.trans z) hb
    .rw[hbe];exact z
   rw[q]at q';cases q';obtain⟨v,hv⟩:=heo;exact⟨v,by rw[hbe];exact hv⟩
  .refine(ok b u q).stay (λc v hc r=>k c v ?_ r) (λc r=>by rw[AC (nown c b r)];exact r) λc xs r=>by rw[AC (ntup c xs r)];exact r
   rcases hc with rfl|hc
   .exact hbe
   .rintro rfl;rcases he with z|z
    .exact nown c b hc z
    .rw[hc]at z;cases z;exact hb rfl
end
structure Un(fs ex:List Addr)(H H':Hp)(h h':Heap):Prop where
 keep:∀b o,h.get? b=some o->H b=none->b∉fs->b∉ex->h'.get? b=some o
 slot:∀b o,h.get? b=some o->H b=none->b∈fs->b∉ex->∃sl,h'.get? b=some { o with slots:=sl }
 free:∀b o,h.get? b=some o->H b=none->b∉ex->H' b=none
 there:∀b o,h.get? b=some o->b∉ex->∃o',h'.get? b=some o'
 tups:∀b xs,H b=some (.tup xs)->H' b=some (.tup xs)
 frzs:∀b o u,H b=some (.frz o u)->H' b=some (.frz o u)
 tbls:∀b ps,H b=some (.tbl ps)->∃more,H' b=some (.tbl (ps++more))
section
variable{fs fs' ex ex':List Addr}{H H1 H2:Hp}{h h1 h2 h':Heap}{a x e:Addr}{o:HO}
def Un.any(u:Un fs ex H H1 h h1){b:Addr}{ob:Obj}(q:h.get? b=some ob)(n:H b=none)(hx:b∉ex):∃sl,h1.get? b=some { ob with slots:=sl }:=by
 by_cases hb:b∈fs
 .exact u.slot b ob q n hb hx
 .exact⟨ob.slots,u.keep b ob q n hb hx⟩
def Un.kept(k:∀b u,h.get? b=some u->h'.get? b=some u):Un fs ex H H h h':=
 ⟨λb ob q _ _ _=>k b ob q,λb ob q _ _ _=>⟨ob.slots,k b ob q⟩,λ_ _ _ n _=>n,λb ob q _=>⟨ob,k b ob q⟩,λ_ _ q=>q,λ_ _ _ q=>q,λ_ ps q=>⟨#[],by rw[q];simp⟩⟩
def Un.refl:Un fs ex H H h h:=Un.kept λ_ _ q=>q
def Un.laid(k:∀b u,h.get? b=some u->h'.get? b=some u)(hp:h.objs.size<=a)(hn:H a=none):Un fs ex H (upd H a o) h h' where
 keep:=λb u q _ _ _=>k b u q
 slot:=λb u q _ _ _=>⟨u.slots,k b u q⟩
 free:=λb u q n _=>by rw[AC (jb (jl (Heap.lt_size q) hp))];exact n
 there:=λb u q _=>⟨u,k b u q⟩
 tups:=λb xs q=>by rw[AC (AZ q hn)];exact q
 frzs:=λb u xs q=>by rw[AC (AZ q hn)];exact q
 tbls:=λb ps q=>⟨#[],by rw[AC (AZ q hn),q];simp⟩
def Un.write(mu:Mut (H x))(he:e=x∨H e=some (.own x))(k:∀b u,b≠e->h.get? b=some u->h'.get? b=some u)(heo:∃u,h'.get? e=some u):Un fs ex H (upd H x o) h h':=by
 have hx:∀b,H b=none->b≠x:=λb n z=>by subst z;rw[n]at mu;exact mu
 have hb:∀b,H b=none->b≠e:=λb n z=>by
  subst z;rcases he with r|r
  .exact hx b n r
  .rw[n]at r;cases r
 have hm:∀b u,H b=some u->¬ Mut (some u)->b≠x:=λb u q nm z=>by subst z;rw[q]at mu;exact nm mu
 refine⟨λb u q n _ _=>k b u (hb b n) q,λb u q n _ _=>⟨u.slots,k b u (hb b n) q⟩,λb u q n _=>by rw[AC (hx b n)];exact n,λb u q _=>?_,
  λb xs q=>by rw[AC (hm b _ q λz=>z)];exact q,λb u xs q=>by rw[AC (hm b _ q λz=>z)];exact q,λb ps q=>⟨#[],by rw[AC (hm b _ q λz=>z),q];simp⟩⟩
 by_cases hbe:b=e
 .subst hbe;exact heo
 .exact⟨u,k b u hbe q⟩
end
def trk(h:Heap)(H:Hp):List Addr:=(List.range h.objs.size).filter λa=>(H a).isSome
def HH(h:Heap)(H:Hp):Heap:=PySem.W.hideAll h (trk h H)
def SY(h:Heap)(H:Hp):(HH h H).objs.size=h.objs.size:=PySem.W.hideAll_size _ _
def Uz{h:Heap}{H:Hp}{b:Addr}{o:Obj}(e:h.get? b=some o)(n:H b=none):(HH h H).get? b=some o:=
 PySem.W.hideAll_get _ e λhm=>by
  have q:(H b).isSome=true:=(mem_filter.mp hm).2;rw[n]at q;simp at q
def YM{h:Heap}{H:Hp}{b:Addr}{o:Obj}(e:(HH h H).get? b=some o):h.get? b=some o/\H b=none:=by
 have e':h.get? b=some o:=PySem.W.of_hideAll (trk h H) e;refine⟨e',?_⟩;cases q:H b with
 |none=>rfl
 |some x=>
  have hm:b∈trk h H:=mem_filter.mpr ⟨mem_range.mpr (Heap.lt_size e'),by simp[q]⟩;have z:(HH h H).get? b=none:=PySem.W.hideAll_none (trk h H) hm;rw[z]at e;cases e
def Yz(g h:Heap)(L:Addr):List (Addr×Obj):=(List.range h.objs.size).filterMap λa=>if a=L∨(g.get? a).isSome=true then none else(h.get? a).map λo=>(a,o)
def rest(g h:Heap)(L d:Addr):List (Addr×Obj):=(Yz g h L).filter λp=>decide (p.1≠d)
structure Mod(K:Frag)(mg:Str->Option Value)(base:Heap):Prop where
 kin:K.In base
 glob:base.Ns mainGlobals mg
 blt:∃mb,base.Ns builtinsNs mb/\∀x:Str,x≠"__name__"->mb x=bootBuiltins x
 nolimit:base.NoLimit
structure Cx where
 prog:Program
 w:World
 K:Frag
 mg:Str->Option Value
 base:Heap
 A:Around
 N:List Str
 s₀:Shared
 H₀:Hp
 env:Env
 outer:List Env
 stack:List Env
 ex:List Addr
 fn:Str->Bool
 calm:Bool
 pn:List (Addr×Obj)
 xe:Value->Shared->Prop
def frs(l:List Env):List Addr:=l.filterMap (·.frame)
abbrev Cx.fs(X:Cx):List Addr:=frs X.outer
def Vis(sc:Scope)(x:Str):Prop:=sc.names.lookup x=some .local∨sc.names.lookup x=some .cell∨sc.names.lookup x=some .free
def Loc(sc:Scope)(x:Str):Prop:=sc.names.lookup x=some .local∨sc.names.lookup x=some .cell
def gJ(env:Env)(h:Heap)(m:Str->Option Value)(x:Str)(u:Value):Prop:=
 (env.kindOf x=some .local/\m x=some u)∨((env.kindOf x=some .cell∨env.kindOf x=some .free)/\∃c,env.cells.lookup x=some c/\h.IsCell c (some u))
structure Cx.Ok(X:Cx):Prop where
 mod:Mod X.K X.mg X.base
 kind:X.env.scope.kind=.function
 glob:X.env.globals=mainGlobals
 blt:X.env.builtins=builtinsNs
 above:X.s₀.heap.objs.size<=X.env.locals
 inj:∀x y c,X.env.cells.lookup x=some c->X.env.cells.lookup y=some c->x=y
 has:∀x,(X.env.kindOf x=some .cell∨X.env.kindOf x=some .free)->∃c,X.env.cells.lookup x=some c
 cab:∀x c,X.fn x=true->X.env.cells.lookup x=some c->X.s₀.heap.objs.size<=c
 hd:X.calm=true->X.A.handled=none
 frames:X.A.frames=some X.stack
 stk:X.stack=X.outer∨(X.stack=X.env::X.outer/\X.env.frame=some X.env.locals)
 exf:∀b∈X.ex,b≠X.env.locals/\∀x c,X.env.cells.lookup x=some c->c≠b
 bs:∀b o,X.base.get? b=some o->X.s₀.heap.get? b=some o/\X.H₀ b=none
 bsz:X.base.objs.size<=X.s₀.heap.objs.size
 noex:∀b o,X.base.get? b=some o->b∉X.ex
 exfs:∀b∈X.ex,b∉X.fs
 funs:X.s₀.heap.FunFrames X.base X.outer
 frf:∀b∈X.fs,X.H₀ b=none
structure Inv(X:Cx)(O:List (Addr×Obj))(U:List (Option V))(H:Hp)(s:Shared):Prop where
 ok:X.Ok
 os:s.os=X.s₀.os
 bare:AllBare s.gens
 base:Un X.fs X.ex X.H₀ H X.s₀.heap s.heap
 loc:∃m,s.heap.Ns X.env.locals m/\∀(i:Nat) (x:Str) (v:V),X.N[i]?=some x->U[i]?=some (some v)->Vis X.env.scope x->∃u,RelV v u/\gJ X.env s.heap m x u
 cell:∀x c,X.env.cells.lookup x=some c->∃v,s.heap.IsCell c v
 free:H X.env.locals=none
 freeC:∀x c,X.env.cells.lookup x=some c->H c=none
 pin:∀p∈X.pn++O,s.heap.get? p.1=some p.2/\H p.1=none/\p.1≠X.env.locals/\p.1∉X.fs/\∀v,p.2.data≠.cell v
 hok:HOk X.prog X.w H s.heap
 len:U.length=X.N.length
section
variable{X:Cx}{O:List (Addr×Obj)}{U:List (Option V)}{H H':Hp}{s:Shared}{h':Heap}
def Cx.Ok.nofr(ok:X.Ok){b:Addr}{o:Obj}(e:X.base.get? b=some o):b∉X.fs:=λhb=>by
 have:=(ok.funs.mem hb).1;rw[e]at this;cases this
theorem Inv.bs(I:Inv X O U H s):∀b o,X.base.get? b=some o->s.heap.get? b=some o/\H b=none:=λb o e=>
 ⟨I.base.keep b o (I.ok.bs b o e).1 (I.ok.bs b o e).2 (I.ok.nofr e) (I.ok.noex b o e),I.base.free b o (I.ok.bs b o e).1 (I.ok.bs b o e).2 (I.ok.noex b o e)⟩
def Inv.bk(I:Inv X O U H s):∀b o,X.base.get? b=some o->s.heap.get? b=some o:=λb o e=>(I.bs b o e).1
theorem Inv.mod(I:Inv X O U H s):Mod X.K X.mg X.base:=I.ok.mod
def Inv.kIn(I:Inv X O U H s):X.K.In s.heap:=I.ok.mod.kin.keeps I.bk
theorem Inv.nolimit(I:Inv X O U H s):s.heap.NoLimit:=I.ok.mod.nolimit.keeps I.bk
def Inv.fr(I:Inv X O U H s):∃m,Fr X.base X.env.locals s.heap m:=
 let ⟨m,hn,_⟩:=I.loc
 ⟨m,hn,I.bk,jf I.ok.bsz I.ok.above⟩
theorem Inv.lt(I:Inv X O U H s):X.env.locals<s.heap.objs.size:=let ⟨_,hn,_⟩:=I.loc;hn.lt
def Inv.sz(I:Inv X O U H s):X.s₀.heap.objs.size<=s.heap.objs.size:=jf I.ok.above (jR I.lt)
def Inv.nofs(I:Inv X O U H s){a:Addr}(h:s.heap.objs.size<=a):a∉X.fs:=λhb=>by
 obtain⟨_,o,ho,_⟩:=I.ok.funs.mem hb;exact absurd (jl (Heap.lt_size ho) (jf I.sz h)) (jG _)
def Inv.cne(I:Inv X O U H s):∀x c,X.env.cells.lookup x=some c->c≠X.env.locals:=λx c e z=>by
 obtain⟨v,o,ho,hd⟩:=I.cell x c e;obtain⟨m,⟨o',es,ep,ho',hd',_⟩,_⟩:=I.loc;rw[z,ho']at ho;cases ho;rw[hd']at hd;cases hd
theorem Inv.funs(I:Inv X O U H s):s.heap.FunFrames X.base X.outer:=by
 have all:∀(l:List Env),(∀b∈frs l,b∈X.fs)->X.s₀.heap.FunFrames X.base l->s.heap.FunFrames X.base l:=by
  intro l
  induction l with
  |nil=>intro _ _;trivial
  |cons env r ih=>
   intro hs hl;obtain⟨hk,⟨L,o,hf,hn,ho,hd⟩,hr⟩:=hl;have hL:L∈X.fs:=hs L (by unfold frs;rw[jO,hf];exact jt);obtain⟨sl,e⟩:=I.base.slot L o ho (I.ok.frf L hL) hL λz=>I.ok.exfs L z hL;exact⟨hk,⟨L,_,hf,hn,e,hd⟩,ih (λb hb=>hs b (by unfold frs;rw[jO,hf];exact jm _ hb)) hr⟩
 exact all X.outer (λ_ hb=>hb) I.ok.funs
theorem Inv.stack(I:Inv X O U H s):s.heap.FunFrames X.base X.stack:=by
 rcases I.ok.stk with e|⟨e,hf⟩
 .rw[e];exact I.funs
 .rw[e];obtain⟨m,hn,_⟩:=I.loc;refine .cons (by rw[I.ok.kind];decide) hf hn ?_ I.funs;exact Heap.get?_none_of_le (jf I.ok.bsz I.ok.above)
def Inv.stkSub(I:Inv X O U H s):∀b∈frs X.stack,b∈X.env.locals::X.fs:=λb hb=>by
 rcases I.ok.stk with e|⟨e,hf⟩
 .rw[e]at hb;exact jm _ hb
 .rw[e]at hb;unfold frs at hb;rw[jO,hf]at hb;exact hb
def Inv.stkFree(I:Inv X O U H s):∀b∈frs X.stack,H b=none:=λb hb=>by
 rcases mem_cons.mp (I.stkSub b hb)with e|hb
 .rw[e];exact I.free
 .obtain⟨_,o,ho,_⟩:=I.ok.funs.mem hb;exact I.base.free b o ho (I.ok.frf b hb) λz=>I.ok.exfs b z hb
def Inv.step{g':Array GenState}{t':Nat}{d':Drawn}{ch:List Addr}(I:Inv X O U H s)
 (hch:∀b∈ch,(b∈X.ex∨X.s₀.heap.objs.size<=b)/\b≠X.env.locals/\(∀x c,X.env.cells.lookup x=some c->c≠b)/\∀p∈X.pn++O,p.1≠b)
 (keep:∀b o,b≠X.env.locals->b∉X.fs->b∉ch->s.heap.get? b=some o->H b=none->h'.get? b=some o)
 (slot:∀b o,b≠X.env.locals->b∈X.fs->b∉ch->s.heap.get? b=some o->H b=none->∃sl,h'.get? b=some { o with slots:=sl }) (free:∀b o,b∉ch->s.heap.get? b=some o->H b=none->H' b=none)
 (there:∀b o,b∉ch->s.heap.get? b=some o->∃o',h'.get? b=some o')
 (tups:∀b xs,H b=some (.tup xs)->H' b=some (.tup xs)) (frzs:∀b o u,H b=some (.frz o u)->H' b=some (.frz o u)) (tbls:∀b ps,H b=some (.tbl ps)->∃more,H' b=some (.tbl (ps++more)))
 (ns:∀m,s.heap.Ns X.env.locals m->h'.Ns X.env.locals m) (hok:HOk X.prog X.w H' h') (hg:AllBare g'):
 Inv X O U H' { s with heap:=h',gens:=g',drawn:=d',toks:=t' }:=by
 have neL:∀b o,X.s₀.heap.get? b=some o->b≠X.env.locals:=λb o e=>jb (jl (Heap.lt_size e) I.ok.above);have neC:∀b o,X.s₀.heap.get? b=some o->b∉X.ex->b∉ch:=λb o e hx hb=>by
  rcases(hch b hb).1 with z|z
  .exact hx z
  .exact absurd (jl (Heap.lt_size e) z) (jG _)
 have cellK:∀x c,X.env.cells.lookup x=some c->∀v,s.heap.IsCell c v->h'.IsCell c v:=λx c e v ⟨o,ho,hd⟩=>by
  have nch:c∉ch:=λz=>(hch c z).2.2.1 x c e rfl;by_cases hc:c∈X.fs
  .obtain⟨sl,q⟩:=slot c o (I.cne x c e) hc nch ho (I.freeC x c e);exact⟨_,q,hd⟩
  .exact⟨o,keep c o (I.cne x c e) hc nch ho (I.freeC x c e),hd⟩
 refine⟨I.ok,I.os,hg,⟨λb o e n hb hx=>?_,λb o e n hb hx=>?_,λb o e n hx=>?_,λb o e hx=>?_,λb xs e=>tups b xs (I.base.tups b xs e),λb o xs e=>frzs b o xs (I.base.frzs b o xs e),λb ps e=>?_⟩,?_,λx c e=>?_,?_,λx c e=>?_,λp hp=>?_,hok,I.len⟩
 .exact keep b o (neL b o e) hb (neC b o e hx) (I.base.keep b o e n hb hx) (I.base.free b o e n hx)
 .obtain⟨sl,e1⟩:=I.base.slot b o e n hb hx;obtain⟨sl',e2⟩:=slot b _ (neL b o e) hb (neC b o e hx) e1 (I.base.free b o e n hx);exact⟨sl',e2⟩
 .obtain⟨o',e1⟩:=I.base.there b o e hx;exact free b o' (neC b o e hx) e1 (I.base.free b o e n hx)
 .obtain⟨o',e1⟩:=I.base.there b o e hx;exact there b o' (neC b o e hx) e1
 .obtain⟨m1,e1⟩:=I.base.tbls b ps e;obtain⟨m2,e2⟩:=tbls b _ e1;exact⟨m1++m2,by rw[e2,Array.append_assoc]⟩
 .obtain⟨m,hn,hl⟩:=I.loc;refine⟨m,ns m hn,λi x v e1 e2 e3=>?_⟩;obtain⟨u,r,l⟩:=hl i x v e1 e2 e3;refine⟨u,r,?_⟩;rcases l with l|⟨k,c,e,z⟩
  .exact .inl l
  .exact .inr ⟨k,c,e,cellK x c e _ z⟩
 .obtain⟨v,z⟩:=I.cell x c e;exact⟨v,cellK x c e v z⟩
 .obtain⟨m,⟨o,_,_,ho,_⟩,_⟩:=I.loc;exact free _ o (λz=>(hch _ z).2.1 rfl) ho I.free
 .obtain⟨v,o,ho,hd⟩:=I.cell x c e;exact free c o (λz=>(hch c z).2.2.1 x c e rfl) ho (I.freeC x c e)
 .obtain⟨e,n,ne,nf,d⟩:=I.pin p hp;have nch:p.1∉ch:=λz=>(hch p.1 z).2.2.2 p hp rfl;exact⟨keep p.1 p.2 ne nf nch e n,free p.1 p.2 nch e n,ne,nf,d⟩
def Inv.un{t':Nat}(I:Inv X O U H s)(u:Un X.fs [] H H' s.heap h')(hok:HOk X.prog X.w H' h'):Inv X O U H' { s with heap:=h',toks:=t' }:=by
 obtain⟨m,⟨o,es,ep,ho,r⟩,_⟩:=id I.loc;obtain⟨sl,hL⟩:=u.any ho I.free (by simp);exact I.step (g':=s.gens) (d':=s.drawn) (ch:=[]) (λ_ z=>nomatch z) (λb o _ hb _ e n=>u.keep b o e n hb (by simp)) (λb o _ hb _ e n=>u.slot b o e n hb (by simp)) (λb o _ e n=>u.free b o e n (by simp)) (λb o _ e=>u.there b o e (by simp)) u.tups u.frzs u.tbls (λm' hm=>by
  obtain⟨o',es',ep',ho',r'⟩:=hm;rw[ho]at ho';cases ho';exact⟨_,es',ep',hL,r'⟩) hok I.bare
def Inv.call{g':Array GenState}{t':Nat}{d':Drawn}{ch:List Addr}(I:Inv X O U H s)(u:Un (frs X.stack) ch H H' s.heap h')(hok:HOk X.prog X.w H' h')(hg:AllBare g')
 (hch:∀b∈ch,(b∈X.ex∨X.s₀.heap.objs.size<=b)/\b≠X.env.locals/\(∀x c,X.env.cells.lookup x=some c->c≠b)/\∀p∈X.pn++O,p.1≠b):
 Inv X O U H' { s with heap:=h',gens:=g',drawn:=d',toks:=t' }:=by
 obtain⟨m,⟨o,es,ep,ho,r⟩,_⟩:=id I.loc;obtain⟨sl,hL⟩:=u.any ho I.free λz=>(hch _ z).2.1 rfl;exact I.step (ch:=ch) hch (λb o hL hb hc e n=>u.keep b o e n (λz=>(mem_cons.mp (I.stkSub b z)).elim hL hb) hc) (λb o _ _ hc e n=>u.any e n hc) (λb o hc e n=>u.free b o e n hc) (λb o hc e=>u.there b o e hc) u.tups u.frzs u.tbls (λm' hm=>by
  obtain⟨o',es',ep',ho',r'⟩:=hm;rw[ho]at ho';cases ho';exact⟨_,es',ep',hL,r'⟩) hok hg
def Inv.turned{t':Nat}{it:Addr}(I:Inv X O U H s)(k:∀b o,b≠it->s.heap.get? b=some o->h'.get? b=some o)(hn:H it=none)(hL:it≠X.env.locals)
 (h1:it∈X.ex∨X.s₀.heap.objs.size<=it) (h2:∀x c,X.env.cells.lookup x=some c->c≠it) (h3:∀p∈X.pn++O,p.1≠it):Inv X O U H { s with heap:=h',toks:=t' }:=by
 have nit:∀b u,H b=some u->b≠it:=λb u e z=>by rw[z,hn]at e;cases e
 refine I.step (g':=s.gens) (d':=s.drawn) (ch:=[it]) (λb hb=>?_) (λb o _ _ hc e _=>k b o (λz=>hc (by simp[z])) e) (λb o _ _ hc e _=>⟨o.slots,k b o (λz=>hc (by simp[z])) e⟩) (λ_ _ _ _ n=>n)
  (λb o hc e=>⟨o,k b o (λz=>hc (by simp[z])) e⟩) (λ_ _ e=>e) (λ_ _ _ e=>e) (λb ps e=>⟨#[],by rw[e];simp⟩) (λm hm=>?_) (λb u e=>?_) I.bare
 .have e:b=it:=by simpa using hb
  subst e;exact⟨h1,hL,h2,h3⟩
 .obtain⟨o,es,ep,ho,r⟩:=hm;exact⟨o,es,ep,k _ o (Ne.symm hL) ho,r⟩
 .refine(I.hok b u e).stay (λc v hc q=>k c v ?_ q) (λ_ q=>q) λ_ _ q=>q;rcases hc with z|z
  .rw[z];exact nit b u e
  .exact nit c _ z
def Inv.tok(I:Inv X O U H s)(t:Nat):Inv X O U H { s with toks:=t }:=I.un (h':=s.heap) (t':=t) Un.refl I.hok
theorem Inv.kept{t':Nat}(I:Inv X O U H s)(k:∀b u,s.heap.get? b=some u->h'.get? b=some u):Inv X O U H { s with heap:=h',toks:=t' }:=I.un (Un.kept k) (I.hok.kept k)
theorem Inv.laid{a:Addr}{o:HO}{t':Nat}(I:Inv X O U H s)(k:∀b u,s.heap.get? b=some u->h'.get? b=some u)(hp:s.heap.objs.size<=a)(new:ObjOk X.prog X.w (upd H a o) h' a o):
 Inv X O U (upd H a o) { s with heap:=h',toks:=t' }:=I.un (Un.laid k hp (I.hok.fresh hp)) (I.hok.laid k hp new)
theorem Inv.write{x e:Addr}{o:HO}{t':Nat}(I:Inv X O U H s)(mu:Mut (H x))(he:e=x∨H e=some (.own x))(k:∀b u,b≠e->s.heap.get? b=some u->h'.get? b=some u)(heo:∃u,h'.get? e=some u)
 (new:ObjOk X.prog X.w (upd H x o) h' x o):Inv X O U (upd H x o) { s with heap:=h',toks:=t' }:=I.un (Un.write mu he k heo) (I.hok.write mu he k heo new)
def Inv.weak{σ':List (Option V)}(I:Inv X O U H s)(hl:σ'.length=U.length)(w:∀(i:Nat) v,σ'[i]?=some (some v)->U[i]?=some (some v)):Inv X O σ' H s:=
 ⟨I.ok,I.os,I.bare,I.base,let ⟨m,hn,hl'⟩:=I.loc;⟨m,hn,λi x v e1 e2 e3=>hl' i x v e1 (w i v e2) e3⟩,I.cell,I.free,I.freeC,I.pin,I.hok,hl.trans I.len⟩
def Inv.pins_of{pins':List (Addr×Obj)}(I:Inv X O U H s)(h:∀p∈pins',s.heap.get? p.1=some p.2/\H p.1=none/\p.1≠X.env.locals/\p.1∉X.fs/\∀v,p.2.data≠.cell v):Inv X pins' U H s:=
 ⟨I.ok,I.os,I.bare,I.base,I.loc,I.cell,I.free,I.freeC,λp hp=>(mem_append.mp hp).elim (λz=>I.pin p (jU _ z)) (h p),I.hok,I.len⟩
def JK{N:List Str}(hN:N.Nodup){i j:Nat}{x:Str}(a:N[i]?=some x)(b:N[j]?=some x):i=j:=by
 obtain⟨h1,e1⟩:=List.getElem?_eq_some_iff.mp a;obtain⟨h2,e2⟩:=List.getElem?_eq_some_iff.mp b;exact(List.getElem_inj hN).mp (e1.trans e2.symm)
def Kv{M:Model}{A:Around}{E:Value->Shared->Prop}{i:Nat}{x:Str}{v:V}{u:Value}{Q:Unit->Shared->Prop}(I:Inv X O U H s)(hN:X.N.Nodup)(hi:X.N[i]?=some x)(hx:Loc X.env.scope x)(r:RelV v u)
 (h:∀s',Inv X O (U.set i (some v)) H s'->(∃a,Heap.SameBut a s.heap s'.heap/\(a=X.env.locals∨X.env.cells.lookup x=some a))->Q () s') (hf:X.fn x=true∨X.env.scope.names.lookup x=some .local:=by first|exact .inl rfl|exact .inr rfl|assumption):wpAny M A (storeName X.env x u) Q E s:=by
 obtain⟨m,hn,hl⟩:=id I.loc;have hcls:(X.env.scope.kind==.class||(X.env.scope.kind==.module&&X.env.locals != X.env.globals))=false:=by rw[I.ok.kind];rfl
 have hiσ:i<U.length:=by rw[I.len];exact(List.getElem?_eq_some_iff.mp hi).1
 have cne:=I.cne;have tracked:∀{a:Addr} {h':Heap},(∃o,s.heap.get? a=some o/\H a=none)->Heap.SameBut a s.heap h'->HOk X.prog X.w H h':=λ{a h'} ha hs b ob e=>by
  obtain⟨_,_,hfree⟩:=ha;refine(I.hok b ob e).stay (λc w' hc q=>(hs.2 c ?_).trans q) (λ_ q=>q) λ_ _ q=>q;rintro rfl;rcases hc with rfl|hc
  .rw[hfree]at e;cases e
  .rw[hfree]at hc;cases hc
 rcases hx with hk|hk
 .refine wpAny_storeName_local hk hn (λh' hn' hs=>?_) hcls;obtain⟨oL,_,_,hoL,_⟩:=id hn;refine h _ ⟨I.ok,I.os,I.bare,⟨λb o e n hb hx=>?_,λb o e n hb hx=>?_,I.base.free,λb o e hx=>?_,I.base.tups,I.base.frzs,I.base.tbls⟩,⟨_,hn',λj y v' e1 e2 e3=>?_⟩,λy c e=>?_,I.free,I.freeC,λp hp=>?_,tracked ⟨oL,hoL,I.free⟩ hs,by simpa using I.len⟩ ⟨_,hs,.inl rfl⟩
  .exact(hs.2 b (jb (jl (Heap.lt_size e) I.ok.above))).trans (I.base.keep b o e n hb hx)
  .obtain⟨sl,e1⟩:=I.base.slot b o e n hb hx;exact⟨sl,(hs.2 b (jb (jl (Heap.lt_size e) I.ok.above))).trans e1⟩
  .obtain⟨o',e1⟩:=I.base.there b o e hx;exact⟨o',(hs.2 b (jb (jl (Heap.lt_size e) I.ok.above))).trans e1⟩
  .by_cases hj:j=i
   .subst hj;rw[hi]at e1;cases e1;rw[List.getElem?_set_self hiσ]at e2;cases e2;exact⟨u,r,.inl ⟨hk,by simp⟩⟩
   .rw[List.getElem?_set_ne (Ne.symm hj)]at e2;obtain⟨u',r',q⟩:=hl j y v' e1 e2 e3;refine⟨u',r',?_⟩;rcases q with⟨k,e⟩|⟨k,c,e,z⟩
    .refine .inl ⟨k,?_⟩;have:y≠x:=λe=>hj (JK hN e1 (e ▸ hi));simp[this,e]
    .exact .inr ⟨k,c,e,z.sameBut hs (cne y c e)⟩
  .obtain⟨w',z⟩:=I.cell y c e;exact⟨w',z.sameBut hs (cne y c e)⟩
  .obtain⟨e,n,ne,nf,d⟩:=I.pin p hp;exact⟨(hs.2 p.1 ne).trans e,n,ne,nf,d⟩
 .have hfn:X.fn x=true:=by
   rcases hf with z|z
   .exact z
   .rw[z]at hk;cases hk
  obtain⟨c,hc⟩:=I.ok.has x (.inl hk);obtain⟨w',z⟩:=I.cell x c hc;refine wpAny_storeName_cell I.ok.kind hk hc z (λh' hc' hs=>?_);obtain⟨oc,hoc,hocd⟩:=id z;refine h { s with heap:=h' } ⟨I.ok,I.os,I.bare,⟨λb o e n hb hx=>?_,λb o e n hb hx=>?_,I.base.free,λb o e hx=>?_,I.base.tups,I.base.frzs,I.base.tbls⟩,⟨m,hn.sameBut hs (Ne.symm (cne x c hc)),λj y v' e1 e2 e3=>?_⟩,λy c' e=>?_,I.free,I.freeC,λp hp=>?_,tracked ⟨oc,hoc,I.freeC x c hc⟩ hs,by simpa using I.len⟩ ⟨c,hs,.inr hc⟩
  .exact(hs.2 b (jb (jl (Heap.lt_size e) (I.ok.cab x c hfn hc)))).trans (I.base.keep b o e n hb hx)
  .obtain⟨sl,e1⟩:=I.base.slot b o e n hb hx;exact⟨sl,(hs.2 b (jb (jl (Heap.lt_size e) (I.ok.cab x c hfn hc)))).trans e1⟩
  .obtain⟨o',e1⟩:=I.base.there b o e hx;exact⟨o',(hs.2 b (jb (jl (Heap.lt_size e) (I.ok.cab x c hfn hc)))).trans e1⟩
  .by_cases hj:j=i
   .subst hj;rw[hi]at e1;cases e1;rw[List.getElem?_set_self hiσ]at e2;cases e2;exact⟨u,r,.inr ⟨.inl hk,c,hc,hc'⟩⟩
   .rw[List.getElem?_set_ne (Ne.symm hj)]at e2;obtain⟨u',r',q⟩:=hl j y v' e1 e2 e3;refine⟨u',r',?_⟩;rcases q with q|⟨k,c',e,z'⟩
    .exact .inl q
    .refine .inr ⟨k,c',e,z'.sameBut hs ?_⟩;rintro rfl;exact hj (JK hN e1 (I.ok.inj _ _ _ e hc ▸ hi))
  .by_cases hcc:c'=c
   .subst hcc;exact⟨_,hc'⟩
   .obtain⟨w2,z2⟩:=I.cell y c' e;exact⟨w2,z2.sameBut hs hcc⟩
  .obtain⟨e,n,ne,nf,d⟩:=I.pin p hp;refine⟨(hs.2 p.1 ?_).trans e,n,ne,nf,d⟩;intro q;rw[q,hoc]at e;have q':oc=p.2:=Option.some.inj e;exact d w' (by rw[<- q'];exact hocd)
def Gz{M:Model}{A:Around}{E:Value->Shared->Prop}{i:Nat}{x:Str}{v:V}{u:Value}{Q:Unit->Shared->Prop}(I:Inv X O U H s)(hN:X.N.Nodup)(hi:X.N[i]?=some x)(hx:Loc X.env.scope x)(r:RelV v u)
 (h:∀s',Inv X O (U.set i (some v)) H s'->Q () s') (hf:X.fn x=true∨X.env.scope.names.lookup x=some .local:=by first|exact .inl rfl|exact .inr rfl|assumption):wpAny M A (storeName X.env x u) Q E s:=
 Kv I hN hi hx r (λs' I' _=>h s' I') hf
def Inv.call'{s':Shared}{ch:List Addr}(I:Inv X O U H s)(ho:s'.os=s.os)(u:Un (frs X.stack) ch H H' s.heap s'.heap)(hok:HOk X.prog X.w H' s'.heap)(hg:AllBare s'.gens)
 (hch:∀b∈ch,(b∈X.ex∨X.s₀.heap.objs.size<=b)/\b≠X.env.locals/\(∀x c,X.env.cells.lookup x=some c->c≠b)/\∀p∈X.pn++O,p.1≠b):Inv X O U H' s':=by
 obtain⟨h',g',d',t',o'⟩:=s';have e:o'=s.os:=ho;subst e;exact I.call (g':=g') (t':=t') (d':=d') u hok hg hch
end
abbrev XK:=Value->Option Addr->Hp->Prop
abbrev St:=List (Option V)
abbrev VK:=V->Hp->Prop
abbrev TE:=St->Hp->VK->Prop
abbrev TT:=St->Hp->(Bool->Hp->Prop)->Prop
abbrev TA:=St->Hp->(List V->Hp->Prop)->Prop
structure Ends where
 nx:St->Hp->Prop
 rt:VK
 bk:St->Hp->Prop:=λ_ _=>False
 ct:St->Hp->Prop:=λ_ _=>False
abbrev TS:=Ends->St->Hp->Prop
def EP(X:Cx)(O:List (Addr×Obj))(U:St)(Q:VK)(u:Value)(s':Shared):Prop:=∃v H',Inv X O U H' s'/\RelV v u/\Q v H'
def TP(X:Cx)(O:List (Addr×Obj))(U:St)(Q:Bool->Hp->Prop)(b:Bool)(s':Shared):Prop:=∃H',Inv X O U H' s'/\Q b H'
def AP(X:Cx)(O:List (Addr×Obj))(U:St)(Q:List V->Hp->Prop)(us:List Value)(s':Shared):Prop:=∃vs H',Inv X O U H' s'/\Vals vs us/\Q vs H'
def SP(X:Cx)(O:List (Addr×Obj))(D:Ends)(f:Flow)(s':Shared):Prop:=
 match f with
 |.next=>∃σ' H',Inv X O σ' H' s'/\D.nx σ' H'
 |.brk=>∃σ' H',Inv X O σ' H' s'/\D.bk σ' H'
 |.cont=>∃σ' H',Inv X O σ' H' s'/\D.ct σ' H'
 |.ret u=>∃v σ' H',Inv X O σ' H' s'/\RelV v u/\D.rt v H'
def PE(X:Cx)(e:Expr)(t:TE):Prop:=
 ∀(O:List (Addr×Obj)) (s:Shared) (U:St) (H:Hp) (Q:VK),Inv X O U H s->t U H Q->wpAny (model X.prog X.w) X.A (eval e X.env) (EP X O U Q) X.xe s
def PT(X:Cx)(e:Expr)(t:TT):Prop:=
 ∀(O:List (Addr×Obj)) (s:Shared) (U:St) (H:Hp) (Q:Bool->Hp->Prop),Inv X O U H s->t U H Q->wpAny (model X.prog X.w) X.A (isTrue e X.env (eval e X.env)) (TP X O U Q) X.xe s
def PW(X:Cx)(e:Expr)(t:TT):Prop:=
 ∀(whole:Sem Value) (O:List (Addr×Obj)) (s:Shared) (U:St) (H:Hp) (Q:Bool->Hp->Prop),Inv X O U H s->t U H Q->wpAny (model X.prog X.w) X.A (isTrue e X.env whole) (TP X O U Q) X.xe s
def PW.pt{X:Cx}{e:Expr}{t:TT}(h:PW X e t):PT X e t:=h _
def PA(X:Cx)(es:List Expr)(t:TA):Prop:=
 ∀(pos:Pos) (O:List (Addr×Obj)) (s:Shared) (U:St) (H:Hp) (Q:List V->Hp->Prop),Inv X O U H s->t U H Q->wpAny (model X.prog X.w) X.A (spliced (backTo pos (starEach es X.env))) (AP X O U Q) X.xe s
def PS(X:Cx)(st:Stmt)(t:TS):Prop:=
 ∀(O:List (Addr×Obj)) (s:Shared) (U:St) (H:Hp) (D:Ends),Inv X O U H s->t D U H->wpAny (model X.prog X.w) X.A (exec st X.env) (SP X O D) X.xe s
def PSs(X:Cx)(st:List Stmt)(t:TS):Prop:=
 ∀(O:List (Addr×Obj)) (s:Shared) (U:St) (H:Hp) (D:Ends),Inv X O U H s->t D U H->wpAny (model X.prog X.w) X.A (execs st X.env) (SP X O D) X.xe s
def thn{α:Type}{t:Sem α}{Q Q':α->Shared->Prop}{M:Model}{A:Around}{E:Value->Shared->Prop}{s:Shared}(h:wpAny M A t Q E s)(hQ:∀a s,Q a s->Q' a s):wpAny M A t Q' E s:=jn h hQ λ_ _ x=>x
section
variable{X:Cx}
def bin{a b:Expr}{ta tb:TE}(ha:PE X a ta)(hb:PE X b tb){O:List (Addr×Obj)}{s:Shared}{U:St}{H:Hp}{R:V->V->Hp->Prop}(I:Inv X O U H s)(h:ta U H λx H1=>tb U H1 λy H2=>R x y H2)
 {α:Type} {Q:α->Shared->Prop} {f:Value->Value->Sem α}
 (hf:∀v u s2 x y H2,Inv X O U H2 s2->RelV x v->RelV y u->R x y H2->wpAny (model X.prog X.w) X.A (f v u) Q X.xe s2):
 wpAny (model X.prog X.w) X.A (eval a X.env) (λv s₁=>wpAny (model X.prog X.w) X.A (eval b X.env) (λu s₂=>wpAny (model X.prog X.w) X.A (f v u) Q X.xe s₂) X.xe s₁) X.xe s:=by
 refine thn (ha O s U H _ I h) λv s1 ⟨x,H1,I1,r1,q1⟩=>?_;refine thn (hb O s1 U H1 _ I1 q1) λu s2 ⟨y,H2,I2,r2,q2⟩=>?_;exact hf v u s2 x y H2 I2 r1 r2 q2
def Ta(i:Nat):TE:=λU H Q=>∃v,U[i]?=some (some v)/\Q v H
def tC(v:V):TE:=λ_ H Q=>Q v H
def I0{i:Nat}{x:Str}{pos:Pos}(hN:X.N[i]?=some x)(hv:Vis X.env.scope x)(hd:(x==("__debug__":Str))=false:=by decide)(hcd:(x==("__classdict__":Str))=false:=by decide):PE X (.Name x pos) (Ta i):=by
 intro O s U H Q I h;obtain⟨v,e,h⟩:=h;obtain⟨m,hn,hl⟩:=I.loc;obtain⟨u,r,l⟩:=hl i x v hN e hv;have fin:EP X O U Q u s:=⟨v,H,I,r,h⟩
 rcases l with⟨hk,hm⟩|⟨hk,c,hc,hcell⟩
 .exact wpAny_Name (wpAny_loadName_local I.ok.kind hk hn hm fin) hd
 .rcases hk with hk|hk
  .exact wpAny_Name (wpAny_loadName_cell I.ok.kind hk hc hcell fin) hd
  .exact wpAny_Name (wpAny_loadName_free I.ok.kind hk hc hcell fin hcd) hd
def bQ{i j pos}:PE X (.Constant (.int i) j pos) (tC (.int i)):=λ_ _ _ H _ I h=>wpAny_Constant_int ⟨.int i,H,I.tok _,⟨_,rfl⟩,h⟩
def eA{b j pos}:PE X (.Constant (.bool b) j pos) (tC (.bl b)):=λ_ _ _ H _ I h=>Constant_bool ⟨.bl b,H,I,rfl,h⟩
def bN{j pos}:PE X (.Constant .none j pos) (tC .non):=λ_ _ _ H _ I h=>Constant_none ⟨.non,H,I,rfl,h⟩
def bK{x j pos}:PE X (.Constant (.str x) j pos) (tC (.str x)):=λ_ _ _ H _ I h=>Calls.Constant_str ⟨.str x,H,I.tok _,⟨_,rfl⟩,h⟩
def Gl(X:Cx)(x:Str):Prop:=X.env.kindOf x=some .globalImplicit
def Fa{E:Value->Shared->Prop}{O:List (Addr×Obj)}{s:Shared}{U:St}{H:Hp}{x:Str}{u:Value}{pos:Pos}{Q:Value->Shared->Prop}(I:Inv X O U H s)(hg:Gl X x)(hm:X.mg x=some u)(h:Q u s)
 (hd:(x==("__debug__":Str))=false:=by decide):wpAny (model X.prog X.w) X.A (eval (.Name x pos) X.env) Q E s:=
 Calls.Name_function_global I.ok.kind hg (Calls.loadGlobal_global (by rw[I.ok.glob];exact I.mod.glob.keeps I.bk) hm h) hd
def DO{E:Value->Shared->Prop}{O:List (Addr×Obj)}{s:Shared}{U:St}{H:Hp}{x:Str}{u:Value}{pos:Pos}{Q:Value->Shared->Prop}(I:Inv X O U H s)(hg:Gl X x)(hm:X.mg x=none)(hv:bootBuiltins x=some u)(h:Q u s)
 (hn:x≠"__name__":=by decide) (hd:(x==("__debug__":Str))=false:=by decide):wpAny (model X.prog X.w) X.A (eval (.Name x pos) X.env) Q E s:=by
 obtain⟨mb,h1,h2⟩:=I.mod.blt;exact Calls.Name_function_global I.ok.kind hg (Calls.loadGlobal_builtin (by rw[I.ok.glob];exact I.mod.glob.keeps I.bk) hm (by rw[I.ok.blt];exact h1.keeps I.bk) ((h2 x hn).trans hv) h) hd
variable{a b:Expr}{ta tb:TE}{pos:Pos}
def PC(X:Cx)(op:CmpOp)(a b:Expr)(t:TE):Prop:=
 ∀(O:List (Addr×Obj)) (s:Shared) (U:St) (H:Hp) (Q:VK),Inv X O U H s->t U H Q ->
   wpAny (model X.prog X.w) X.A (eval a X.env) (λv s₁=>wpAny (model X.prog X.w) X.A (eval b X.env) (λu s₂=>wpAny (model X.prog X.w) X.A (compareOp op v u) (EP X O U Q) X.xe s₂) X.xe s₁) X.xe s
def NC(b:Expr){op:CmpOp}(h:op≠.In)(h2:op≠.NotIn):behindInMarks op b=false:=by
 have e1:(op==CmpOp.In)=false:=by cases op<;>first|rfl|exact absurd rfl h
 have e2:(op==CmpOp.NotIn)=false:=by cases op<;>first|rfl|exact absurd rfl h2
 cases b<;>simp[behindInMarks,e1,e2]
def Pa(ta:TE):TE:=λU H Q=>ta U H λx H1=>Q (.bl (decide (x=.non))) H1
def Lv(ta:TE):TE:=λU H Q=>ta U H λx H1=>Q (.bl (!decide (x=.non))) H1
def RelV.none_iff{x:V}{v:Value}(r:RelV x v):(v==Value.none)=decide (x=.non):=by
 cases x with
 |non=>cases r;rfl
 |bl _=>cases r;rfl
 |int _=>obtain⟨t,rfl⟩:=r;rfl
 |str _=>obtain⟨t,rfl⟩:=r;rfl
 |byt _=>obtain⟨t,rfl⟩:=r;rfl
 |flt _=>obtain⟨t,rfl⟩:=r;rfl
 |ref _=>cases r;rfl
 |ty _=>cases r;rfl
def SG{j pos'}(ha:PE X a ta):PC X .Is a (.Constant .none j pos') (Pa ta):=by
 intro O s U H Q I h;refine thn (ha O s U H _ I h) λv s1 ⟨x,H1,I1,r1,q1⟩=>?_;exact Constant_none (is_none_gen ⟨.bl _,H1,I1,by rw[r1.none_iff];rfl,q1⟩)
def Oj{j pos'}(ha:PE X a ta):PC X .IsNot a (.Constant .none j pos') (Lv ta):=by
 intro O s U H Q I h;refine thn (ha O s U H _ I h) λv s1 ⟨x,H1,I1,r1,q1⟩=>?_;exact Constant_none (isnot_none_gen ⟨.bl _,H1,I1,by rw[r1.none_iff];rfl,q1⟩)
def tB(t:TE):TT:=λU H Q=>t U H λx H1=>∃c,x=.bl c/\Q c H1
def SE{op:CmpOp}{t:TE}(h:PC X op a b t)(h1:behindInMarks op b=false:=by first|exact NC _ (by decide) (by decide)|rfl):PE X (.Compare a [op] [b] pos) t:=λO s U H Q I hw=>wpAny_Compare1 (h O s U H Q I hw) h1
def S8{op:CmpOp}{t:TE}(h:PC X op a b t)(h1:behindInMarks op b=false:=by first|exact NC _ (by decide) (by decide)|rfl):PT X (.Compare a [op] [b] pos) (tB t):=by
 intro O s U H Q I hw;refine wpAny_isTrue_Compare1 (thn (h O s U H _ I hw) λv s1 h1=>thn h1 λu s2 h2=>thn h2 λc s3 ⟨x,H1,I1,r1,q1⟩=>?_) h1;obtain⟨d,rfl,q⟩:=q1;cases r1;exact kh ⟨H1,I1,q⟩
variable{tA tB':TT}{rest:List Expr}
def Tg(t u:TT):TT:=λU H Q=>t U H λc H1=>if c=true then u U H1 Q else Q false H1
def tOr(t u:TT):TT:=λU H Q=>t U H λc H1=>if c=true then Q true H1 else u U H1 Q
def Td(t:TT):TT:=λU H Q=>t U H λc H1=>Q (!c) H1
def Xn(ha:PT X a tA):PW X (.BoolOp .And [a] pos) tA:=by
 intro wh O s U H Q I h;refine isTrue_and (thn (ha O s U H Q I h) λc s1 e=>?_);cases c with
 |true=>exact isTrue_and_nil e
 |false=>exact e
def aq(ha:PT X a tA):PW X (.BoolOp .Or [a] pos) tA:=by
 intro wh O s U H Q I h;refine isTrue_or (thn (ha O s U H Q I h) λc s1 e=>?_);cases c with
 |false=>exact isTrue_or_nil e
 |true=>exact e
def ar(ha:PT X a tA)(hb:PW X (.BoolOp .And (b::rest) pos) tB'):PW X (.BoolOp .And (a::b::rest) pos) (Tg tA tB'):=by
 intro wh O s U H Q I h;refine isTrue_and (thn (ha O s U H _ I h) λc s1 ⟨H1,I1,q1⟩=>?_);cases c with
 |true=>exact hb wh O s1 U H1 Q I1 q1
 |false=>exact⟨H1,I1,q1⟩
def dm(ha:PT X a tA)(hb:PW X (.BoolOp .Or (b::rest) pos) tB'):PW X (.BoolOp .Or (a::b::rest) pos) (tOr tA tB'):=by
 intro wh O s U H Q I h;refine isTrue_or (thn (ha O s U H _ I h) λc s1 ⟨H1,I1,q1⟩=>?_);cases c with
 |true=>exact⟨H1,I1,q1⟩
 |false=>exact hb wh O s1 U H1 Q I1 q1
def aw(ha:PT X a tA):PT X (.UnaryOp .Not a pos) (Td tA):=by
 intro O s U H Q I h;exact isTrue_not (ha O s U H (λc H1=>Q (!c) H1) I h)
def Pe(ta tb:TE):TE:=λU H Q=>ta U H λx H1=>∃c,x=.bl c/\if c=true then tb U H1 Q else Q (.bl false) H1
def Tc(ta tb:TE):TE:=λU H Q=>ta U H λx H1=>∃c,x=.bl c/\if c=true then Q (.bl true) H1 else tb U H1 Q
def PZ(ta:TE):TE:=λU H Q=>ta U H λx H1=>∃c,x=.bl c/\Q (.bl (!c)) H1
def bL{op}{t:TE}(h:PE X a t):PE X (.BoolOp op [a] pos) t:=λO s U H Q I hw=>BoolOp_one (h O s U H Q I hw)
def bR(ha:PE X a ta)(hb:PE X (.BoolOp .And (b::rest) pos) tb):PE X (.BoolOp .And (a::b::rest) pos) (Pe ta tb):=by
 intro O s U H Q I h;refine BoolOp_and (thn (ha O s U H _ I h) λv s1 ⟨x,H1,I1,r1,q1⟩=>?_);obtain⟨c,rfl,q1⟩:=q1;cases r1;refine kh ?_;cases c with
 |true=>exact hb O s1 U H1 Q I1 q1
 |false=>exact⟨.bl false,H1,I1,rfl,q1⟩
def dz(ha:PE X a ta)(hb:PE X (.BoolOp .Or (b::rest) pos) tb):PE X (.BoolOp .Or (a::b::rest) pos) (Tc ta tb):=by
 intro O s U H Q I h;refine BoolOp_or (thn (ha O s U H _ I h) λv s1 ⟨x,H1,I1,r1,q1⟩=>?_);obtain⟨c,rfl,q1⟩:=q1;cases r1;refine kh ?_;cases c with
 |false=>exact hb O s1 U H1 Q I1 q1
 |true=>exact⟨.bl true,H1,I1,rfl,q1⟩
def bM(ha:PE X a ta):PE X (.UnaryOp .Not a pos) (PZ ta):=by
 intro O s U H Q I h;refine UnaryOp_ (thn (ha O s U H _ I h) λv s1 ⟨x,H1,I1,r1,q1⟩=>?_);obtain⟨c,rfl,q1⟩:=q1;cases r1;exact not_of (kh ⟨.bl (!c),H1,I1,rfl,q1⟩)
def tIf(t:TT)(ta tb:TE):TE:=λU H Q=>t U H λc H1=>if c=true then ta U H1 Q else tb U H1 Q
def Ub{c:Expr}(hc:PT X c tA)(ha:PE X a ta)(hb:PE X b tb):PE X (.IfExp c a b pos) (tIf tA ta tb):=by
 intro O s U H Q I h;refine wpAny_IfExp (thn (hc O s U H _ I h) λd s1 ⟨H1,I1,q1⟩=>?_);cases d with
 |true=>exact ha O s1 U H1 Q I1 q1
 |false=>exact hb O s1 U H1 Q I1 q1
end
def SqL(K:Frag)(H:Hp)(a:Addr)(xs:List V):Prop:=
 Rd H a (.lst xs) ∨
  ∃(o:Obj) (its:Array Value) (n:Nat),K.lookup a=some o/\o.cls=.type "list"/\o.dict=none/\o.data=.seq its n/\its.size<=sizeLine/\Vals xs its.toList
def SqT(K:Frag)(H:Hp)(a:Addr)(xs:List V):Prop:=
 Rd H a (.tup xs) ∨
  ∃(o:Obj) (its:Array Value) (n:Nat),K.lookup a=some o/\o.cls=.type "tuple"/\o.dict=none/\o.data=.seq its n/\its.size<=sizeLine/\Vals xs its.toList
def gF:Value->Option V
 |.none=>some .non
 |.bool b=>some (.bl b)
 |.int i _=>some (.int i)
 |.str x _=>some (.str x)
 |.bytes b _=>some (.byt b)
 |.float b _=>some (.flt b)
 |.ref a=>some (.ref a)
 |.type n=>some (.ty n)
 |_=>none
def RelV.abs{x:V}{u:Value}(r:RelV x u):gF u=some x:=by
 cases x with
 |non=>cases r;rfl
 |bl _=>cases r;rfl
 |int _=>obtain⟨t,rfl⟩:=r;rfl
 |str _=>obtain⟨t,rfl⟩:=r;rfl
 |byt _=>obtain⟨t,rfl⟩:=r;rfl
 |flt _=>obtain⟨t,rfl⟩:=r;rfl
 |ref _=>cases r;rfl
 |ty _=>cases r;rfl
theorem RelV.inj{x y:V}{u:Value}(r:RelV x u)(q:RelV y u):x=y:=Option.some.inj (r.abs.symm.trans q.abs)
theorem Vals.inj:∀{xs ys:List V} {us:List Value},Vals xs us->Vals ys us->xs=ys
 |_,_,_,.nil,.nil=>rfl
 |_,_,_,.cons r t,.cons r' t'=>by rw[r.inj r',Vals.inj t t']
section
variable{X:Cx}{O:List (Addr×Obj)}{U:St}{H:Hp}{s:Shared}{a:Addr}{xs ys:List V}
def SqL.of{K:Frag}(h:H a=some (.lst xs)):SqL K H a xs:=.inl (.inl h)
def SqT.of{K:Frag}(h:H a=some (.tup xs)):SqT K H a xs:=.inl (.inl h)
def Inv.list(I:Inv X O U H s)(h:SqL X.K H a xs):∃its:List Value,Vals xs its/\PlainL s.heap a its.toArray/\xs.length<=sizeLine:=by
 rcases h with h|⟨o,its,n,hk,hc,hd,hs,hz,r⟩
 .obtain⟨z,its,n,r,e⟩:=h.ok I.hok;exact⟨its,r,⟨_,n,e,rfl,rfl,rfl⟩,z⟩
 .refine⟨its.toList,r,⟨o,n,I.kIn a o hk,hc,hd,by simpa using hs⟩,?_⟩;have e:=r.length;simp only[Array.length_toList]at e;omega
def Inv.tuple(I:Inv X O U H s)(h:SqT X.K H a xs):∃its:List Value,Vals xs its/\IsTup s.heap a its.toArray/\xs.length<=sizeLine:=by
 rcases h with h|⟨o,its,n,hk,hc,_,hs,hz,r⟩
 .obtain⟨z,its,r,p⟩:=h.ok I.hok;exact⟨its,r,p.t,z⟩
 .refine⟨its.toList,r,⟨o,I.kIn a o hk,hc,n,by simpa using hs⟩,?_⟩;have e:=r.length;simp only[Array.length_toList]at e;omega
def Inv.list_inj(I:Inv X O U H s)(h:SqL X.K H a xs)(h':SqL X.K H a ys):xs=ys:=by
 obtain⟨its,r,⟨o,n,e,_,_,d⟩,_⟩:=I.list h;obtain⟨its',r',⟨o',n',e',_,_,d'⟩,_⟩:=I.list h';rw[e]at e';cases e';rw[d]at d'
 injection d' with d1 _
 have:its=its':=by simpa using jy Array.toList d1
 subst this;exact r.inj r'
def Inv.tuple_inj(I:Inv X O U H s)(h:SqT X.K H a xs)(h':SqT X.K H a ys):xs=ys:=by
 obtain⟨its,r,⟨o,e,_,n,d⟩,_⟩:=I.tuple h;obtain⟨its',r',⟨o',e',_,n',d'⟩,_⟩:=I.tuple h';rw[e]at e';cases e';rw[d]at d'
 injection d' with d1 _
 have:its=its':=by simpa using jy Array.toList d1
 subst this;exact r.inj r'
end
abbrev Cx.wish(X:Cx)(E:Value->Shared->Prop):Cx:={ X with xe:=E }
abbrev Cx.nox(X:Cx):Cx:=X.wish λ_ _=>False
theorem Cx.Ok.wish{X:Cx}(ok:X.Ok)(E:Value->Shared->Prop):(X.wish E).Ok:=
 ⟨ok.mod,ok.kind,ok.glob,ok.blt,ok.above,ok.inj,ok.has,ok.cab,ok.hd,ok.frames,ok.stk,ok.exf,ok.bs,ok.bsz,ok.noex,ok.exfs,ok.funs,ok.frf⟩
def Cx.Ok.unwish{X:Cx}{E:Value->Shared->Prop}(ok:(X.wish E).Ok):X.Ok:=
 ⟨ok.mod,ok.kind,ok.glob,ok.blt,ok.above,ok.inj,ok.has,ok.cab,ok.hd,ok.frames,ok.stk,ok.exf,ok.bs,ok.bsz,ok.noex,ok.exfs,ok.funs,ok.frf⟩
section
variable{X:Cx}{O:List (Addr×Obj)}{U:St}{H:Hp}{s:Shared}{E:Value->Shared->Prop}
theorem Inv.wish(I:Inv X O U H s)(E:Value->Shared->Prop):Inv (X.wish E) O U H s:=⟨I.ok.wish E,I.os,I.bare,I.base,I.loc,I.cell,I.free,I.freeC,I.pin,I.hok,I.len⟩
theorem Inv.unwish(I:Inv (X.wish E) O U H s):Inv X O U H s:=⟨I.ok.unwish,I.os,I.bare,I.base,I.loc,I.cell,I.free,I.freeC,I.pin,I.hok,I.len⟩
theorem SP.unwish{D:Ends}{f:Flow}{s':Shared}(h:SP (X.wish E) O D f s'):SP X O D f s':=by
 cases f with
 |next=>obtain⟨σ',H',I,q⟩:=h;exact⟨σ',H',I.unwish,q⟩
 |brk=>obtain⟨σ',H',I,q⟩:=h;exact⟨σ',H',I.unwish,q⟩
 |cont=>obtain⟨σ',H',I,q⟩:=h;exact⟨σ',H',I.unwish,q⟩
 |ret u=>obtain⟨v,σ',H',I,r,q⟩:=h;exact⟨v,σ',H',I.unwish,r,q⟩
theorem PSs.nox{st:List Stmt}{t:TS}(h:PSs X.nox st t):PSs X st t:=λO s U H D I hw=>
 jn (h O s U H D (I.wish _) hw) (λ_ _ q=>q.unwish) λ_ _ z=>False.elim z
end
section
variable{X:Cx}{st:Stmt}{rest:List Stmt}{t u:TS}{e:Expr}{te:TE}{pos:Pos}
def IV:TS:=λD U H=>D.nx U H
def MR(t u:TS):TS:=λD U H=>t { D with nx:=u D } U H
def Oi:PSs X [] IV:=λ_ _ U H _ I h=>kG ⟨U,H,I,h⟩
def Mz(h1:PS X st t)(h2:PSs X rest u):PSs X (st::rest) (MR t u):=by
 intro O s U H D I h;refine kU (thn (h1 O s U H { D with nx:=u D } I h) λf s1 q=>?_);cases f with
 |next=>
  obtain⟨σ',H',I',q⟩:=q;exact h2 O s1 σ' H' D I' q
 |ret v=>exact q
 |brk=>exact q
 |cont=>exact q
def Oh(h1:PS X st t):PSs X [st] t:=by
 intro O s U H D I h;refine kU (thn (h1 O s U H D I h) λf s1 q=>?_);cases f with
 |next=>exact kG q
 |ret v=>exact q
 |brk=>exact q
 |cont=>exact q
def Xr:PS X (.Pass pos) IV:=λ_ _ U H _ I h=>wpAny_Pass ⟨U,H,I,h⟩
def Inv.quiet{O:List (Addr×Obj)}{U:St}{H:Hp}{s:Shared}(I:Inv X O U H s):interactive X.env=false:=by simp[interactive,I.ok.kind]
def Pb(te:TE):TS:=λD U H=>te U H λ_ H1=>D.nx U H1
def Xu(he:PE X e te)(hs:swapsWith e none pos.line X.env=pure false:=by rfl):PS X (.Expr e pos) (Pb te):=by
 intro O s U H D I h;exact wpAny_Expr_any (thn (he O s U H _ I h) λv s1 ⟨x,H1,I1,r1,q1⟩=>⟨U,H1,I1,q1⟩) I.quiet hs
def JB(te:TE):TS:=λD U H=>te U H D.rt
def ay(he:PE X e te):PS X (.Return (some e) pos) (JB te):=by
 intro O s U H D I h;exact wpAny_Return_some (thn (he O s U H _ I h) λv s1 ⟨x,H1,I1,r1,q1⟩=>⟨x,U,H1,I1,r1,q1⟩)
def MV(c:TT)(t u:TS):TS:=λD U H=>c U H λb H1=>if b=true then t D U H1 else u D U H1
def dq{c:Expr}{a b:List Stmt}{tc:TT}(hc:PT X c tc)(ha:PSs X a t)(hb:PSs X b u):PS X (.If c a b pos) (MV tc t u):=by
 intro O s U H D I h;refine wpAny_If (thn (hc O s U H _ I h) λd s1 ⟨H1,I1,q1⟩=>?_);cases d with
 |true=>exact ha O s1 U H1 D I1 q1
 |false=>exact hb O s1 U H1 D I1 q1
def Jg:TS:=λ_ _ _=>False
def UQ:PS X st Jg:=λ_ _ _ _ _ _ h=>h.elim
end
abbrev TG:=V->St->Hp->(St->Hp->Prop)->Prop
abbrev TGs:=List V->St->Hp->(St->Hp->Prop)->Prop
def PG(X:Cx)(target:Expr)(t:TG):Prop:=
 ∀(O:List (Addr×Obj)) (s:Shared) (U:St) (H:Hp) (v:V) (u:Value) (Q:St->Hp->Prop),Inv X O U H s->RelV v u->t v U H Q ->
   wpAny (model X.prog X.w) X.A (assign target X.env u) (λ_ s'=>∃σ' H',Inv X O σ' H' s'/\Q σ' H') X.xe s
def PGs(X:Cx)(ts:List Expr)(t:TGs):Prop:=
 ∀(O:List (Addr×Obj)) (s:Shared) (U:St) (H:Hp) (vs:List V) (us:List Value) (Q:St->Hp->Prop),Inv X O U H s->Vals vs us->t vs U H Q ->
   wpAny (model X.prog X.w) X.A (assignInOrder ((assignEach ts X.env).map (·.2)) us) (λ_ s'=>∃σ' H',Inv X O σ' H' s'/\Q σ' H') X.xe s
section
variable{X:Cx}{pos:Pos}
def Ej(i:Nat):TG:=λv U H Q=>Q (U.set i (some v)) H
def Y9{i:Nat}{x:Str}(hN:X.N.Nodup)(hi:X.N[i]?=some x)(hx:Loc X.env.scope x)(hf:X.fn x=true∨X.env.scope.names.lookup x=some .local:=by first|exact .inl rfl|exact .inr rfl|assumption):PG X (.Name x pos) (Ej i):=by
 intro O s U H v u Q I r h;exact wpAny_assign_Name (Gz I hN hi hx r (λs' I'=>⟨_,H,I',h⟩) hf)
def V7:TGs:=λvs U H Q=>vs=[]/\Q U H
def QZ(t:TG)(u:TGs):TGs:=λvs U H Q=>∃v r,vs=v::r/\t v U H λσ' H'=>u r σ' H' Q
def Y7:PGs X [] V7:=by
 intro O s U H vs us Q I r h;obtain⟨e,h⟩:=h;subst e;cases r;exact assignInOrder_nil ⟨U,H,I,h⟩
def UZ{e:Expr}{es:List Expr}{t:TG}{u:TGs}(h1:PG X e t)(h2:PGs X es u)
 (hs:(assignEach (e::es) X.env).map (·.2)=assign e X.env::(assignEach es X.env).map (·.2):=by rfl):PGs X (e::es) (QZ t u):=by
 intro O s U H vs us Q I r h;obtain⟨v,vr,e1,h⟩:=h;subst e1;cases r with
 |cons r rr=>
  rw[hs];refine assignInOrder_cons (thn (h1 O s U H _ _ _ I r h) λ_ s1 ⟨σ1,H1,I1,q1⟩=>?_);exact h2 O s1 σ1 H1 _ _ Q I1 rr q1
def QY(K:Frag)(n:Nat)(t:TGs):TG:=λv U H Q=>∃a xs,v=.ref a/\SqT K H a xs/\xs.length=n/\t xs U H Q
def bC{es:List Expr}{k:Nat}{t:TGs}{n:Nat}(hc:X.calm=true)(h:PGs X es t)
 (hn:(assignEach es X.env).length=n:=by rfl) (hst:(assignEach es X.env).findIdx? (·.1)=none:=by rfl):PG X (.Tuple es k pos) (QY X.K n t):=by
 intro O s U H v u Q I r hw;obtain⟨a,xs,e1,hq,hl,hw⟩:=hw;subst e1;cases r;obtain⟨its,rv,ht,hz⟩:=I.tuple hq;refine assign_Tuple_tuple (I.ok.hd hc) ht (by simp[hn,<- hl,rv.length]) hst λh' hx=>?_;have I1:Inv X O U H { s with heap:=h' }:=I.kept (t':=s.toks) λb o e=>hx b o (jb (Heap.lt_size e)) e;exact h O _ U H xs _ Q I1 (by simpa using rv) hw
def Gy(te:TE)(g:TG):TS:=λD U H=>te U H λx H1=>g x U H1 D.nx
def b8{tg e:Expr}{te:TE}{g:TG}(he:PE X e te)(hg:PG X tg g)(hs:swapsWithSole [tg] e pos.line X.env=pure false:=by rfl)(hw:swappedStores [tg] e X.env=pure none:=by rfl)
 (h1:(assignEach [tg] X.env).map (·.2)=[assign tg X.env]:=by rfl):PS X (.Assign [tg] e pos) (Gy te g):=by
 intro O s U H D I h;refine wpAny_Assign_stores (thn (he O s U H _ I h) λv s1 ⟨x,H1,I1,r1,q1⟩=>?_) hs hw;rw[h1];exact thn (hg O s1 U H1 x v _ I1 r1 q1) λ_ s2 q=>q
def ax{i:Nat}{x:Str}{e:Expr}{te:TE}{pos':Pos}(hN:X.N.Nodup)(hi:X.N[i]?=some x)(hx:Loc X.env.scope x)(he:PE X e te)(hs:swapsWith e (some (.Name x pos')) pos.line X.env=pure false:=by rfl)(hf:X.fn x=true∨X.env.scope.names.lookup x=some .local:=by first|exact .inl rfl|exact .inr rfl|assumption):
 PS X (.Assign [.Name x pos'] e pos) (Gy te (Ej i)):=by
 intro O s U H D I h;refine wpAny_Assign_Name (thn (he O s U H _ I h) λv s1 ⟨y,H1,I1,r1,q1⟩=>?_) hs;exact Gz I1 hN hi hx r1 (λs2 I2=>⟨_,H1,I2,q1⟩) hf
end
structure It where
 go:Nat->Hp->Prop
 yld:Nat->Hp->V->Hp->Prop
 stop:Nat->Hp->Prop
def FpOk(X:Cx)(O:List (Addr×Obj))(H:Hp)(b:Addr):Prop:=
 H b=none/\b≠X.env.locals/\b∉X.fs/\(b∈X.ex∨X.s₀.heap.objs.size<=b)/\(∀x c,X.env.cells.lookup x=some c->c≠b)/\∀p∈X.pn++O,p.1≠b
def Inv.fpOk{X:Cx}{O:List (Addr×Obj)}{U:St}{H H':Hp}{s:Shared}{b:Addr}(I:Inv X O U H s)(hb:s.heap.objs.size<=b)(hn:H' b=none):FpOk X O H' b:=by
 refine⟨hn,jv (jl I.lt hb),I.nofs hb,.inr (jf I.sz hb),λx c e z=>?_,λp hp z=>?_⟩
 .obtain⟨v,q⟩:=I.cell x c e;exact absurd (jl q.lt (by rw[z];exact hb)) (jG _)
 .exact absurd (jl (Heap.lt_size (I.pin p hp).1) (by rw[z];exact hb)) (jG _)
structure Turn(P:Program)(w:World)(K:Frag)(tg:Expr)(J:It)(fp:List Addr)(it:Addr)(tn:Nat->Heap->Prop):Prop where
 mem:it∈fp
 obj:∀i h,tn i h->∀b∈fp,∃o,h.get? b=some o/\∀v,o.data≠.cell v
 keep:∀i h h',tn i h->(∀b∈fp,∀o,h.get? b=some o->h'.get? b=some o)->tn i h'
 item:∀(X:Cx),X.prog=P->X.w=w->X.K=K->X.calm=true->∀(i:Nat) (O:List (Addr×Obj)) (s:Shared) (U:St) (H:Hp) (E:Value->Shared->Prop),Inv X O U H s->(∀b∈fp,FpOk X O H b)->tn i s.heap->J.go i H ->
  wpAny (model P w) X.A (pyNext (.ref it)) (λr s1=>∃u,r=some u /\
   wpAny (model P w) X.A (letOwnedTupleGo tg (.ref it) u) (λ_ s2=>∃x H',Inv X O U H' s2/\RelV x u/\J.yld i H x H'/\tn (i+1) s2.heap/\∀b∈fp,H' b=none) E s1) E s
 done:∀(X:Cx),X.prog=P->X.w=w->X.K=K->X.calm=true->∀(i:Nat) (O:List (Addr×Obj)) (s:Shared) (U:St) (H:Hp) (E:Value->Shared->Prop),Inv X O U H s->(∀b∈fp,FpOk X O H b)->tn i s.heap->J.stop i H ->
  wpAny (model P w) X.A (pyNext (.ref it)) (λr s1=>r=none/\Inv X O U H s1) E s
 self:∀(A:Around) (i:Nat) (s:Shared) (Q:Value->Shared->Prop) (E:Value->Shared->Prop),tn i s.heap->Q (.ref it) s->wpAny (model P w) A (pyIter (.ref it)) Q E s
abbrev TI:=St->Hp->(It->Hp->Prop)->Prop
def PIE(X:Cx)(O:List (Addr×Obj))(U:St)(tg:Expr)(R:It->Hp->Prop)(itv:Value)(s2:Shared):Prop:=
 ∃(it:Addr) (fp:List Addr) (tn:Nat->Heap->Prop) (J:It) (H':Hp),itv=.ref it/\Inv X O U H' s2/\Turn X.prog X.w X.K tg J fp it tn/\tn 0 s2.heap/\(∀b∈fp,FpOk X O H' b)/\R J H'
def PI(X:Cx)(tg iter:Expr)(wi:TI):Prop:=
 ∀(O:List (Addr×Obj)) (s:Shared) (U:St) (H:Hp) (R:It->Hp->Prop),Inv X O U H s->wi U H R ->
   wpAny (model X.prog X.w) X.A (eval iter X.env) (λv s1=>wpAny (model X.prog X.w) X.A (pyIter v) (PIE X O U tg R) X.xe s1) X.xe s
def QX{M:Model}{A:Around}{E:Value->Shared->Prop}{s:Shared}{tg:Expr}{it:Addr}{u:Value}{o:Obj}{n:String}{vs:Array Value}{Q:Unit->Shared->Prop}(ho:s.heap.get? it=some o)(hc:o.cls=.type n)(hd:o.data=.fields vs)
 (hn:["enumerate","zip","dict_itemiterator","dict_reverseitemiterator","odict_iterator","itertools.zip_longest","itertools.pairwise"].contains n=false) (hQ:Q () s):wpAny M A (letOwnedTupleGo tg (.ref it) u) Q E s:=by
 unfold letOwnedTupleGo;cases tg<;>first
  |exact j8 hQ
  | (cases u<;>first
   |exact j8 hQ
   | (refine j5 (wpAny_load ho ?_)
      rw[hc,hd];show wpAny M A (if(["enumerate","zip","dict_itemiterator","dict_reverseitemiterator","odict_iterator","itertools.zip_longest","itertools.pairwise"].contains n&&vs[0]?==some (rawInt _))=true then _ else _) Q E s;rw[j7 (by intro h;rw[hn,Bool.false_and]at h;cases h)];exact j8 hQ))
def Itl(K:Frag)(a:Addr):It:=
 ⟨λi H=>∃xs x,SqL K H a xs/\xs[i]?=some x,λi H x H'=>H'=H/\∀xs,SqL K H a xs->xs[i]?=some x,λi H=>∃xs,SqL K H a xs/\xs.length<=i⟩
def Itt(K:Frag)(a:Addr):It:=
 ⟨λi H=>∃xs x,SqT K H a xs/\xs[i]?=some x,λi H x H'=>H'=H/\∀xs,SqT K H a xs->xs[i]?=some x,λi H=>∃xs,SqT K H a xs/\xs.length<=i⟩
def Itr(lo:Int)(n:Nat):It:=⟨λi _=>i<n,λi H x H'=>H'=H/\x=.int (lo+i),λi _=>n<=i⟩
def Qz{P:Program}{w:World}{K:Frag}{tg:Expr}(a it:Addr):Turn P w K tg (Itl K a) [it] it (λi h=>h.IsListIter it a i) where
 mem:=by simp
 obj:=λi h st b hb=>by
  have e:b=it:=by simpa using hb
  subst e;obtain⟨o,e,c,d⟩:=st;exact⟨o,e,λv z=>by rw[d]at z;cases z⟩
 keep:=λi h h' st k=>st.at λo e=>k it (by simp) o e
 item:=by
  intro X hP hw hK hc i O s U H E I hf st hg;subst hP hw hK;obtain⟨xs,x,hq,hx⟩:=hg;obtain⟨its,rv,p,hz⟩:=I.list hq;obtain⟨u,hu,ru⟩:=rv.get hx;obtain⟨f0,f1,f2,f3,f4,f5⟩:=hf it (by simp);refine wpAny_pyNext_list_item st p.isList (x:=u) (by simpa using hu) λh' st' sb=>?_;have I1:Inv X O U H { s with heap:=h' }:=I.turned (t':=s.toks) (λb o hb e=>(sb.2 b hb).trans e) f0 f1 f3 f4 f5;obtain⟨o,e,c,d⟩:=id st';exact⟨u,rfl,QX (s:={ s with heap:=h' }) e c d (by decide) ⟨x,H,I1,ru,⟨rfl,λys hy=>by rw[I.list_inj hy hq];exact hx⟩,st',λb hb=>(hf b hb).1⟩⟩
 done:=by
  intro X hP hw hK hc i O s U H E I hf st hg;subst hP hw hK;obtain⟨xs,hq,hx⟩:=hg;obtain⟨its,rv,p,hz⟩:=I.list hq;obtain⟨f0,f1,f2,f3,f4,f5⟩:=hf it (by simp);have hl:=rv.length;exact wpAny_pyNext_list_end (I.ok.hd hc) st p.isList (by simp;omega) λh' eb=>⟨rfl,I.turned (t':=s.toks) (λb o hb e=>eb b o hb e) f0 f1 f3 f4 f5⟩
 self:=λ_ _ _ _ _ st h=>wpAny_pyIter_listiter st h
def PL{P:Program}{w:World}{K:Frag}{tg:Expr}(a it:Addr):Turn P w K tg (Itt K a) [it] it (λi h=>h.IsTupleIter it a i) where
 mem:=by simp
 obj:=λi h st b hb=>by
  have e:b=it:=by simpa using hb
  subst e;obtain⟨o,e,c,d⟩:=st;exact⟨o,e,λv z=>by rw[d]at z;cases z⟩
 keep:=λi h h' st k=>st.at λo e=>k it (by simp) o e
 item:=by
  intro X hP hw hK hc i O s U H E I hf st hg;subst hP hw hK;obtain⟨xs,x,hq,hx⟩:=hg;obtain⟨its,rv,p,hz⟩:=I.tuple hq;obtain⟨u,hu,ru⟩:=rv.get hx;obtain⟨f0,f1,f2,f3,f4,f5⟩:=hf it (by simp);refine wpAny_pyNext_tuple_item st (show s.heap.IsTuple a its.toArray from p) (x:=u) (by simpa using hu) λh' st' sb=>?_;have I1:Inv X O U H { s with heap:=h' }:=I.turned (t':=s.toks) (λb o hb e=>(sb.2 b hb).trans e) f0 f1 f3 f4 f5;obtain⟨o,e,c,d⟩:=id st';exact⟨u,rfl,QX (s:={ s with heap:=h' }) e c d (by decide) ⟨x,H,I1,ru,⟨rfl,λys hy=>by rw[I.tuple_inj hy hq];exact hx⟩,st',λb hb=>(hf b hb).1⟩⟩
 done:=by
  intro X hP hw hK hc i O s U H E I hf st hg;subst hP hw hK;obtain⟨xs,hq,hx⟩:=hg;obtain⟨its,rv,p,hz⟩:=I.tuple hq;obtain⟨f0,f1,f2,f3,f4,f5⟩:=hf it (by simp);have hl:=rv.length;exact wpAny_pyNext_tuple_end (I.ok.hd hc) st (show s.heap.IsTuple a its.toArray from p) (by simp;omega) λh' eb=>⟨rfl,I.turned (t':=s.toks) (λb o hb e=>eb b o hb e) f0 f1 f3 f4 f5⟩
 self:=λ_ _ _ _ _ st h=>wpAny_pyIter_tupleiter st h
def PM{P:Program}{w:World}{K:Frag}{tg:Expr}(it:Addr)(lo:Int)(n:Nat):Turn P w K tg (Itr lo n) [it] it (λi h=>IsRangeIter h it (lo+(i:Nat)*1) ((n:Int)-(i:Nat)) 1) where
 mem:=by simp
 obj:=λi h st b hb=>by
  have e:b=it:=by simpa using hb
  subst e;exact⟨_,st,λv z=>by
   have z':Data.fields _=Data.cell v:=z;cases z'⟩
 keep:=λi h h' st k=>k it (by simp) _ st
 item:=by
  intro X hP hw hK hc i O s U H E I hf st hg;subst hP hw hK;obtain⟨f0,f1,f2,f3,f4,f5⟩:=hf it (by simp);have W:=Walks.range (prog:=X.prog) (w:=X.w) (I.ok.hd hc) it lo 1 n;refine W.item i s _ _ hg st λv h' tk hv st' kk=>?_;obtain⟨t,rfl⟩:=hv;have I1:Inv X O U H { s with heap:=h',toks:=tk }:=I.turned (λb o hb e=>kk b o (by simpa using hb) e) f0 f1 f3 f4 f5;refine⟨_,rfl,QX (s:={ s with heap:=h',toks:=tk }) (n:="range_iterator") st' rfl rfl (by decide) ⟨.int (lo+i),H,I1,⟨t,?_⟩,⟨rfl,rfl⟩,st',λb hb=>(hf b hb).1⟩⟩;rw[Int.mul_one]
 done:=by
  intro X hP hw hK hc i O s U H E I hf st hg;subst hP hw hK;obtain⟨f0,f1,f2,f3,f4,f5⟩:=hf it (by simp);exact wpAny_pyNext_range_end (I.ok.hd hc) st (by have:n<=i:=hg;omega) λh' eb=>⟨rfl,I.turned (t':=s.toks) (λb o hb e=>eb b o hb e) f0 f1 f3 f4 f5⟩
 self:=λ_ _ _ _ _ st h=>wpAny_pyIter_rangeiter st h
section
variable{X:Cx}{tg:Expr}
def Ih(K:Frag)(tl:TE):TI:=λU H R=>tl U H λx H1=>∃a,x=.ref a/\(∃xs,SqL K H1 a xs)/\R (Itl K a) H1
def QQ(K:Frag)(tl:TE):TI:=λU H R=>tl U H λx H1=>∃a,x=.ref a/\(∃xs,SqT K H1 a xs)/\R (Itt K a) H1
def Y5{l:Expr}{tl:TE}(hl:PE X l tl):PI X tg l (Ih X.K tl):=by
 intro O s U H R I h;refine thn (hl O s U H _ I h) λv s1 ⟨x,H1,I1,r1,q1⟩=>?_;obtain⟨a,e,⟨xs,hq⟩,q⟩:=q1;subst e;cases r1;obtain⟨its,rv,p,hz⟩:=I1.list hq;refine wpAny_pyIter_list p.isList ?_;refine⟨s1.heap.objs.size,[s1.heap.objs.size],_,_,H1,rfl,I1.kept (t':=s1.toks) λb o e=>Heap.get?_push_of_some _ e,Qz a _,⟨_,Heap.get?_push_size _ rfl,rfl,rfl⟩,λb hb=>?_,q⟩;have e:b=s1.heap.objs.size:=by simpa using hb
 subst e;exact I1.fpOk (j9 _) (I1.hok.fresh (j9 _))
def bB{l:Expr}{tl:TE}(hl:PE X l tl):PI X tg l (QQ X.K tl):=by
 intro O s U H R I h;refine thn (hl O s U H _ I h) λv s1 ⟨x,H1,I1,r1,q1⟩=>?_;obtain⟨a,e,⟨xs,hq⟩,q⟩:=q1;subst e;cases r1;obtain⟨its,rv,p,hz⟩:=I1.tuple hq;refine wpAny_pyIter_tuple (show s1.heap.IsTuple a its.toArray from p) ?_;refine⟨s1.heap.objs.size,[s1.heap.objs.size],_,_,H1,rfl,I1.kept (t':=s1.toks) λb o e=>Heap.get?_push_of_some _ e,PL a _,⟨_,Heap.get?_push_size _ rfl,rfl,rfl⟩,λb hb=>?_,q⟩;have e:b=s1.heap.objs.size:=by simpa using hb
 subst e;exact I1.fpOk (j9 _) (I1.hok.fresh (j9 _))
def U3{O:List (Addr×Obj)}{U:St}{H:Hp}{s:Shared}{R:It->Hp->Prop}{E:Value->Shared->Prop}{lo hi:Int}{t u v:Tok}{tk:Nat}(I:Inv X O U H s)(h1:-(2^62)<=lo)(h2:lo<2^62)(h3:-(2^62)<=hi)(h4:hi<2^62)
 (q:R (Itr lo (hi-lo).toNat) H):wpAny (model X.prog X.w) X.A (pyIter (.ref s.heap.objs.size)) (PIE X O U tg R) E { s with heap:=s.heap.push { cls:=.type "range",data:=.fields #[.int lo t,.int hi u,.int 1 v] },toks:=tk }:=by
 refine wpAny_pyIter_range (IsRange.new ..) (small_one h1 h2 h3 h4) ?_;have I1:Inv X O U H { s with heap:=s.heap.push { cls:=.type "range",data:=.fields #[.int lo t,.int hi u,.int 1 v] },toks:=tk }:=I.kept λb o e=>Heap.get?_push_of_some _ e;refine⟨(s.heap.push { cls:=.type "range",data:=.fields #[.int lo t,.int hi u,.int 1 v] }).objs.size,[(s.heap.push { cls:=.type "range",data:=.fields #[.int lo t,.int hi u,.int 1 v] }).objs.size],_,_,H,rfl,
  I1.kept (t':=tk) λb o e=>Heap.get?_push_of_some _ e,PM _ lo (hi-lo).toNat,?_,λb hb=>?_,q⟩
 .have e1:lo+((0:Nat):Int)*1=lo:=by simp
  have e2:(((hi-lo).toNat:Nat):Int)-((0:Nat):Int)=Builtin.Range.rangeSize lo hi 1:=by rw[rangeSize_one];split<;>omega
  show IsRangeIter _ _ (lo+((0:Nat):Int)*1) ((((hi-lo).toNat:Nat):Int)-((0:Nat):Int)) 1;rw[e1,e2];exact Heap.get?_push_size _ rfl
 .have e:b=(s.heap.push { cls:=.type "range",data:=.fields #[.int lo t,.int hi u,.int 1 v] }).objs.size:=by simpa using hb
  subst e;exact I1.fpOk (j9 _) (I1.hok.fresh (j9 _))
def QU(ta:TA):TI:=λU H R=>ta U H λvs H1=>∃j:Int,vs=[.int j]/\-(2^62)<=j/\j<2^62/\R (Itr 0 j.toNat) H1
def SC{a:Expr}{ta:TA}{p pos:Pos}(hg:Gl X "range")(hm:X.mg "range"=none)(ha:PA X [a] ta)(hs:starEach [a] X.env=[(false,eval a X.env)]:=by rfl):PI X tg (.Call (.Name "range" p) [a] [] pos) (QU ta):=by
 intro O s U H R I h;refine Call_ (DO I hg hm boot_range (PyProof.Rows.callWith_type1 (thn (ha pos O s U H _ I h) λus s1 ⟨vs,H1,I1,r1,q1⟩=>?_) hs rfl));obtain⟨j,e,q1,q2,q⟩:=q1;subst e;cases r1 with
 |cons r rr=>
  cases rr;obtain⟨t,rfl⟩:=r;exact call_range_1 (U3 I1 (by omega) (by omega) q1 q2 (by simpa using q))
def MW(wi:TI)(g:TG)(tb:TS):TS:=λD U H=>wi U H λJ H1=>∃W:Nat->Nat->St->Hp->Prop,(∃m,W 0 m U H1)/\∀i m U H,W i m U H ->
 (J.stop i H/\D.nx U H)∨(J.go i H/\∃N:St->Hp->Prop,(∀σ' H',N σ' H'->∃m',m'<m/\W (i+1) m' σ' H')/\∀x H',J.yld i H x H'->g x U H' λσ2 H2=>tb { D with nx:=N,ct:=N,bk:=D.nx } σ2 H2)
def Ft(fp:List Addr)(h:Heap):List (Addr×Obj):=fp.filterMap λb=>(h.get? b).map λo=>(b,o)
def CW{fp:List Addr}{h:Heap}{b:Addr}{o:Obj}(hb:b∈fp)(e:h.get? b=some o):(b,o)∈Ft fp h:=List.mem_filterMap.mpr ⟨b,hb,by rw[e];rfl⟩
def SI{fp:List Addr}{h:Heap}{p:Addr×Obj}(hp:p∈Ft fp h):p.1∈fp/\h.get? p.1=some p.2:=by
 obtain⟨b,hb,e⟩:=List.mem_filterMap.mp hp;cases q:h.get? b with
 |none=>rw[q]at e;cases e
 |some o=>
  rw[q]at e;have e':(b,o)=p:=Option.some.inj e;subst e';exact⟨hb,q⟩
def Inv.pinned{O:List (Addr×Obj)}{U:St}{H:Hp}{s:Shared}{fp:List Addr}(I:Inv X O U H s)(hf:∀b∈fp,FpOk X O H b)(ho:∀b∈fp,∃o,s.heap.get? b=some o/\∀v,o.data≠.cell v):Inv X (O++Ft fp s.heap) U H s:=
 I.pins_of λp hp=>(mem_append.mp hp).elim (λz=>I.pin p (je _ z)) λz=>by
  obtain⟨hb,e⟩:=SI z;obtain⟨f0,f1,f2,_⟩:=hf p.1 hb;obtain⟨o,e',d⟩:=ho p.1 hb;rw[e]at e';cases e';exact⟨e,f0,f1,f2,d⟩
def Inv.unpinned{O pl:List (Addr×Obj)}{U:St}{H:Hp}{s:Shared}(I:Inv X (O++pl) U H s):Inv X O U H s:=I.pins_of λp hp=>I.pin p (je _ (jU _ hp))
def b7{iter:Expr}{body:List Stmt}{wi:TI}{g:TG}{tb:TS}{pos:Pos}(hp:PassesOwn (model X.prog X.w) X.A X.env X.xe)(hc:X.calm=true)(hi:PI X tg iter wi)(hg:PG X tg g)(hb:PSs X body tb)
 (hs:∀x,foldedSetIterable iter X.env x=pure x:=by intro _;rfl):PS X (.For tg iter body [] pos) (MW wi g tb):=by
 intro O s U H D I h;refine wpAny_For (thn (hi O s U H _ I h) λv s1 h1=>thn h1 λitv s2 h2=>?_) hs;obtain⟨it,fp,tn,J,H2,e,I2,T,st2,f2,W,⟨m0,w0⟩,turn⟩:=h2;subst e
 -- what stays true of the iterator's objects through the loop
 have stat:∀{H':Hp},(∀b∈fp,H' b=none)->∀b∈fp,FpOk X O H' b:=λhn b hb=>⟨hn b hb,(f2 b hb).2⟩
 refine codeAny_forLoop_any (λn s'=>∃i σ' H',Inv X O σ' H' s'/\tn i s'.heap/\(∀b∈fp,H' b=none)/\W i n σ' H') ?_ m0 ⟨0,U,H2,I2,st2,λb hb=>(f2 b hb).1,w0⟩;rintro n s3 ⟨i,σ3,H3,I3,st3,fr3,w3⟩;rcases turn i n σ3 H3 w3 with⟨stop,qn⟩|⟨go,N,hN,step⟩
 .refine kj hp (thn (T.done X rfl rfl rfl hc i O s3 σ3 H3 X.xe I3 (stat fr3) st3 stop) λr s4 ⟨hr,I4⟩=>?_);subst hr;exact kG ⟨σ3,H3,I4,qn⟩
 .refine kj hp (thn (T.item X rfl rfl rfl hc i O s3 σ3 H3 X.xe I3 (stat fr3) st3 go) λr s4 ⟨u,hr,h4⟩=>?_);subst hr;refine kj hp (thn h4 λ_ s5 ⟨x,H5,I5,r5,y5,st5,fr5⟩=>?_);have I5':=I5.pinned (stat fr5) (T.obj _ _ st5);refine kj hp (thn (hg _ s5 σ3 H5 x u _ I5' r5 (step x H5 y5)) λ_ s6 ⟨σ6,H6,I6,q6⟩=>?_);refine kj hp (thn (hb _ s6 σ6 H6 _ I6 q6) λf s7 q7=>?_);have again:∀{σ7:St} {H7:Hp},Inv X (O++Ft fp s5.heap) σ7 H7 s7->N σ7 H7->∃m,m<n/\∃i σ' H',Inv X O σ' H' s7/\tn i s7.heap/\(∀b∈fp,H' b=none)/\W i m σ' H':=λ{σ7 H7} I7 n7=>by
   obtain⟨m',hm,w7⟩:=hN σ7 H7 n7;refine⟨m',hm,i+1,σ7,H7,I7.unpinned,T.keep _ _ _ st5 λb hb o e=>(I7.pin (b,o) (je _ (je _ (CW hb e)))).1,λb hb=>?_,w7⟩;obtain⟨o,e,d⟩:=T.obj _ _ st5 b hb;exact(I7.pin (b,o) (je _ (je _ (CW hb e)))).2.1
  cases f with
  |next=>obtain⟨σ7,H7,I7,n7⟩:=q7;exact again I7 n7
  |cont=>obtain⟨σ7,H7,I7,n7⟩:=q7;exact again I7 n7
  |brk=>obtain⟨σ7,H7,I7,q7⟩:=q7;exact⟨σ7,H7,I7.unpinned,q7⟩
  |ret v=>obtain⟨x7,σ7,H7,I7,r7,q7⟩:=q7;exact⟨x7,σ7,H7,I7.unpinned,r7,q7⟩
end
abbrev R2:=V->V->Hp->VK->Prop
def OpR(X:Cx)(f:Value->Value->Sem Value)(r:R2):Prop:=
 ∀(O:List (Addr×Obj)) (s:Shared) (U:St) (H:Hp) (x y:V) (v u:Value) (Q:VK),Inv X O U H s->RelV x v->RelV y u->r x y H Q ->
   wpAny (model X.prog X.w) X.A (f v u) (EP X O U Q) X.xe s
def UnR(X:Cx)(f:Value->Sem Value)(r:V->Hp->VK->Prop):Prop:=
 ∀(O:List (Addr×Obj)) (s:Shared) (U:St) (H:Hp) (x:V) (v:Value) (Q:VK),Inv X O U H s->RelV x v->r x H Q ->
   wpAny (model X.prog X.w) X.A (f v) (EP X O U Q) X.xe s
def CallR(X:Cx)(f:Value)(r:List V->Hp->VK->Prop):Prop:=
 ∀(O:List (Addr×Obj)) (s:Shared) (U:St) (H:Hp) (xs:List V) (us:List Value) (Q:VK),Inv X O U H s->Vals xs us->r xs H Q ->
   wpAny (model X.prog X.w) X.A (call f us) (EP X O U Q) X.xe s
def gG(X:Cx)(r:V->Hp->(Bool->Hp->Prop)->Prop):Prop:=
 ∀(O:List (Addr×Obj)) (s:Shared) (U:St) (H:Hp) (x:V) (v:Value) (Q:Bool->Hp->Prop),Inv X O U H s->RelV x v->r x H Q ->
   wpAny (model X.prog X.w) X.A (truthy v) (TP X O U Q) X.xe s
def tOp(r:R2)(ta tb:TE):TE:=λU H Q=>ta U H λx H1=>tb U H1 λy H2=>r x y H2 Q
def tUn(r:V->Hp->VK->Prop)(ta:TE):TE:=λU H Q=>ta U H λx H1=>r x H1 Q
def rI(C:Int->Int->Prop)(g:Int->Int->V):R2:=λx y H Q=>∃i j,x=.int i/\y=.int j/\C i j/\Q (g i j) H
def rI0(g:Int->Int->V):R2:=λx y H Q=>∃i j,x=.int i/\y=.int j/\Q (g i j) H
def rU(g:Int->V):V->Hp->VK->Prop:=λx H Q=>∃i,x=.int i/\Q (g i) H
section
variable{X:Cx}{a b c:Expr}{ta tb tc:TE}{pos:Pos}
def VN(ha:PE X a ta)(hb:PE X b tb){O:List (Addr×Obj)}{s:Shared}{U:St}{H:Hp}{R:V->V->Hp->Prop}(I:Inv X O U H s)
 (h:ta U H λx H1=>tb U H1 λy H2=>R x y H2) {Q:Value->Shared->Prop} {f:Value->Value->Sem Value}
 (hf:∀v u s2 x y H2,Inv X O U H2 s2->RelV x v->RelV y u->R x y H2->wpAny (model X.prog X.w) X.A (f v u) Q X.xe s2):
 wpAny (model X.prog X.w) X.A (eval a X.env) (λv s₁=>wpAny (model X.prog X.w) X.A (eval b X.env) (λu s₂=>wpAny (model X.prog X.w) X.A (f v u) Q X.xe s₂) X.xe s₁) X.xe s:=by
 refine thn (ha O s U H _ I h) λv s1 ⟨x,H1,I1,r1,q1⟩=>?_;refine thn (hb O s1 U H1 _ I1 q1) λu s2 ⟨y,H2,I2,r2,q2⟩=>?_;exact hf v u s2 x y H2 I2 r1 r2 q2
def Vq{op:Operator}{r:R2}(ho:OpR X (binaryOp op) r)(ha:PE X a ta)(hb:PE X b tb):PE X (.BinOp a op b pos) (tOp r ta tb):=by
 intro O s U H Q I h;exact wpAny_BinOp (VN ha hb I h λv u s2 x y H2 I2 rx ry q=>ho O s2 U H2 x y v u Q I2 rx ry q)
def dy{op:UnaryOp}{r:V->Hp->VK->Prop}(ho:UnR X (unaryOp op) r)(ha:PE X a ta):PE X (.UnaryOp op a pos) (tUn r ta):=by
 intro O s U H Q I h;exact UnaryOp_ (thn (ha O s U H _ I h) λv s1 ⟨x,H1,I1,r1,q1⟩=>ho O s1 U H1 x v Q I1 r1 q1)
def opI{f:Value->Value->Sem Value}{C:Int->Int->Prop}{g:Int->Int->Int}
 (rule:∀(i j:Int) (t u:Tok) (s:Shared) (Q:Value->Shared->Prop) (E:Value->Shared->Prop),C i j->Q (.int (g i j) s.toks) { s with toks:=s.toks+1 }->wpAny (model X.prog X.w) X.A (f (.int i t) (.int j u)) Q E s):
 OpR X f (rI C λi j=>.int (g i j)):=by
 intro O s U H x y v u Q I rx ry h;obtain⟨i,j,rfl,rfl,hc,q⟩:=h;obtain⟨t,rfl⟩:=rx;obtain⟨t',rfl⟩:=ry;exact rule i j t t' s _ _ hc ⟨.int (g i j),H,I.tok _,⟨_,rfl⟩,q⟩
def be{f:Value->Value->Sem Value}{g:Int->Int->Int}
 (rule:∀(i j:Int) (t u:Tok) (s:Shared) (Q:Value->Shared->Prop) (E:Value->Shared->Prop),Q (.int (g i j) s.toks) { s with toks:=s.toks+1 }->wpAny (model X.prog X.w) X.A (f (.int i t) (.int j u)) Q E s):
 OpR X f (rI0 λi j=>.int (g i j)):=by
 intro O s U H x y v u Q I rx ry h;obtain⟨i,j,rfl,rfl,q⟩:=h;obtain⟨t,rfl⟩:=rx;obtain⟨t',rfl⟩:=ry;exact rule i j t t' s _ _ ⟨.int (g i j),H,I.tok _,⟨_,rfl⟩,q⟩
def Q0{f:Value->Value->Sem Value}{g:Int->Int->Bool}
 (rule:∀(i j:Int) (t u:Tok) (s:Shared) (Q:Value->Shared->Prop) (E:Value->Shared->Prop),Q (.bool (g i j)) s->wpAny (model X.prog X.w) X.A (f (.int i t) (.int j u)) Q E s):
 OpR X f (rI0 λi j=>.bl (g i j)):=by
 intro O s U H x y v u Q I rx ry h;obtain⟨i,j,rfl,rfl,q⟩:=h;obtain⟨t,rfl⟩:=rx;obtain⟨t',rfl⟩:=ry;exact rule i j t t' s _ _ ⟨.bl (g i j),H,I,rfl,q⟩
def cz(i j:Int):Prop:=0<j/\j<1073741824
def cy(i j:Int):Prop:=0<=j/\j<=1000000/\i.natAbs<2^64
def CMul(i j:Int):Prop:=(-(2^64)<i/\i<2^64)∨(-(2^64)<j/\j<2^64)
def CMul.ok{i j:Int}(h:CMul i j):IntMulOk i j:=by
 rcases h with⟨h1,h2⟩|⟨h1,h2⟩
 .exact .of_left (intBits_le_64 h1 h2)
 .exact .of_right (intBits_le_64 h1 h2)
def SH:OpR X (binaryOp .Add) (rI0 λi j=>.int (i+j)):=be λ_ _ _ _ _ _ _ q=>add_int q
def bU:OpR X (binaryOp .Sub) (rI0 λi j=>.int (i-j)):=be λ_ _ _ _ _ _ _ q=>sub_int q
def bY:OpR X (binaryOp .Mult) (rI CMul λi j=>.int (i*j)):=opI λ_ _ _ _ _ _ _ hc q=>mul_int q hc.ok
def YH:OpR X (binaryOp .FloorDiv) (rI cz λi j=>.int (i/j)):=opI λi j _ _ _ _ _ hc q=>by
 have h1:(0:Int)<j:=hc.1;have h2:j<1073741824:=hc.2;exact floordiv_int (by omega) (by rw[Int.fdiv_eq_ediv_of_nonneg i (by omega)];exact q) (.inl (PyProof.noPylong_small (by omega)))
def bZ:OpR X (binaryOp .Mod) (rI (λ_ j=>0<j) λi j=>.int (i%j)):=opI λi j _ _ _ _ _ hc q=>by
 have h1:(0:Int)<j:=hc;exact mod_int' (by omega) (by rw[Int.fmod_eq_emod_of_nonneg i (by omega)];exact q)
def bV:OpR X (binaryOp .Pow) (rI cy λi j=>.int (i^j.toNat)):=opI λ_ _ _ _ _ _ _ hc q=>pow_int_small hc.1 hc.2.1 hc.2.2 q
def unI{f:Value->Sem Value}{g:Int->Int}
 (rule:∀(i:Int) (t:Tok) (s:Shared) (Q:Value->Shared->Prop) (E:Value->Shared->Prop),Q (.int (g i) s.toks) { s with toks:=s.toks+1 }->wpAny (model X.prog X.w) X.A (f (.int i t)) Q E s):
 UnR X f (rU λi=>.int (g i)):=by
 intro O s U H x v Q I rx h;obtain⟨i,rfl,q⟩:=h;obtain⟨t,rfl⟩:=rx;exact rule i t s _ _ ⟨.int (g i),H,I.tok _,⟨_,rfl⟩,q⟩
def ZE:UnR X (unaryOp .USub) (rU λi=>.int (-i)):=unI λ_ _ _ _ _ q=>neg_int q
end
def Mb:V->V->Bool
 |.non,.non=>true|.non,.int _=>true|.int _,.non=>true|.non,.bl _=>true|.bl _,.non=>true|.non,.str _=>true|.str _,.non=>true
 |.int _,.int _=>true|.bl _,.bl _=>true|.str _,.str _=>true|.byt _,.byt _=>true
 |.int _,.str _=>true|.str _,.int _=>true|.bl _,.str _=>true|.str _,.bl _=>true
 |_,_=>false
def rEq:R2:=λx y H Q=>Mb x y=true/\Q (.bl (decide (x=y))) H
def rNe:R2:=λx y H Q=>Mb x y=true/\Q (.bl (!decide (x=y))) H
def P2{i j:Int}:decide (V.int i=V.int j)=(i==j):=by
 rw[Bool.eq_iff_iff];simp
def Sl{i j:Bool}:decide (V.bl i=V.bl j)=(i==j):=by
 rw[Bool.eq_iff_iff];simp
def P1{i j:Str}:decide (V.str i=V.str j)=(i==j):=by
 rw[Bool.eq_iff_iff];simp
def P3{i j:Array UInt8}:decide (V.byt i=V.byt j)=(i.toList==j.toList):=by
 rw[Bool.eq_iff_iff];cases i;cases j;simp
section
variable{X:Cx}{a b c:Expr}{ta tb tc:TE}{pos:Pos}
def Ap{O:List (Addr×Obj)}{U:St}{H:Hp}{s:Shared}{Q:VK}{k k':Bool}(I:Inv X O U H s)(q:Q (.bl k) H)(e:k=k'):EP X O U Q (.bool k') s:=by
 subst e;exact⟨.bl k,H,I,rfl,q⟩
def Vw:OpR X (compareOp .Eq) rEq:=by
 intro O s U H x y v u Q I rx ry h;obtain⟨hs,q⟩:=h;cases x with
 |non=>
  cases rx;cases y with
  |non=>cases ry;exact PySem.EqNone.eq_none_none (Ap I q (by simp))
  |bl j=>cases ry;exact PySem.EqNone.eq_none_bool (Ap I q (by simp))
  |int j=>obtain⟨t',rfl⟩:=ry;exact PySem.EqNone.eq_none_int (Ap I q (by simp))
  |str j=>obtain⟨t',rfl⟩:=ry;exact PySem.EqNone.eq_none_str (Ap I q (by simp))
  |_=>exact absurd (show false=true from hs) Bool.false_ne_true
 |bl i=>
  cases rx;cases y with
  |non=>cases ry;exact PySem.EqNone.eq_bool_none (Ap I q (by simp))
  |bl j=>cases ry;exact eq_bool (Ap I q Sl)
  |str j=>obtain⟨t',rfl⟩:=ry;exact PySem.EqMixed.eq_bool_str (Ap I q (by simp))
  |_=>exact absurd (show false=true from hs) Bool.false_ne_true
 |int i=>
  obtain⟨t,rfl⟩:=rx;cases y with
  |non=>cases ry;exact PySem.EqNone.eq_int_none (Ap I q (by simp))
  |int j=>obtain⟨t',rfl⟩:=ry;exact eq_int (Ap I q P2)
  |str j=>obtain⟨t',rfl⟩:=ry;exact PySem.EqMixed.eq_int_str (Ap I q (by simp))
  |_=>exact absurd (show false=true from hs) Bool.false_ne_true
 |str i=>
  obtain⟨t,rfl⟩:=rx;cases y with
  |non=>cases ry;exact PySem.EqNone.eq_str_none (Ap I q (by simp))
  |bl j=>cases ry;exact PySem.EqMixed.eq_str_bool (Ap I q (by simp))
  |int j=>obtain⟨t',rfl⟩:=ry;exact PySem.EqMixed.eq_str_int (Ap I q (by simp))
  |str j=>obtain⟨t',rfl⟩:=ry;exact eq_str (Ap I q P1)
  |_=>exact absurd (show false=true from hs) Bool.false_ne_true
 |byt i=>
  obtain⟨t,rfl⟩:=rx;cases y with
  |byt j=>obtain⟨t',rfl⟩:=ry;exact PySem.W.eq_bytes (Ap I q P3)
  |_=>exact absurd (show false=true from hs) Bool.false_ne_true
 |_=>cases y<;>exact absurd (show false=true from hs) Bool.false_ne_true
def Vu:OpR X (compareOp .NotEq) rNe:=by
 intro O s U H x y v u Q I rx ry h;obtain⟨hs,q⟩:=h;cases x with
 |non=>
  cases rx;cases y with
  |non=>cases ry;exact PySem.EqNone.ne_none_none (Ap I q (by simp))
  |bl j=>cases ry;exact PySem.EqNone.ne_none_bool (Ap I q (by simp))
  |int j=>obtain⟨t',rfl⟩:=ry;exact PySem.EqNone.ne_none_int (Ap I q (by simp))
  |str j=>obtain⟨t',rfl⟩:=ry;exact PySem.EqNone.ne_none_str (Ap I q (by simp))
  |_=>exact absurd (show false=true from hs) Bool.false_ne_true
 |bl i=>
  cases rx;cases y with
  |non=>cases ry;exact PySem.EqNone.ne_bool_none (Ap I q (by simp))
  |bl j=>cases ry;exact ne_bool (Ap I q (jy not Sl))
  |str j=>obtain⟨t',rfl⟩:=ry;exact PySem.EqMixed.ne_bool_str (Ap I q (by simp))
  |_=>exact absurd (show false=true from hs) Bool.false_ne_true
 |int i=>
  obtain⟨t,rfl⟩:=rx;cases y with
  |non=>cases ry;exact PySem.EqNone.ne_int_none (Ap I q (by simp))
  |int j=>obtain⟨t',rfl⟩:=ry;exact ne_int (Ap I q (jy not P2))
  |str j=>obtain⟨t',rfl⟩:=ry;exact PySem.EqMixed.ne_int_str (Ap I q (by simp))
  |_=>exact absurd (show false=true from hs) Bool.false_ne_true
 |str i=>
  obtain⟨t,rfl⟩:=rx;cases y with
  |non=>cases ry;exact PySem.EqNone.ne_str_none (Ap I q (by simp))
  |bl j=>cases ry;exact PySem.EqMixed.ne_str_bool (Ap I q (by simp))
  |int j=>obtain⟨t',rfl⟩:=ry;exact PySem.EqMixed.ne_str_int (Ap I q (by simp))
  |str j=>obtain⟨t',rfl⟩:=ry;exact ne_str (Ap I q (jy not P1))
  |_=>exact absurd (show false=true from hs) Bool.false_ne_true
 |byt i=>
  obtain⟨t,rfl⟩:=rx;cases y with
  |byt j=>obtain⟨t',rfl⟩:=ry;exact PySem.W.ne_bytes (Ap I q (jy not P3))
  |_=>exact absurd (show false=true from hs) Bool.false_ne_true
 |_=>cases y<;>exact absurd (show false=true from hs) Bool.false_ne_true
def eD:OpR X (compareOp .Lt) (rI0 λi j=>.bl (decide (i<j))):=Q0 λ_ _ _ _ _ _ _ q=>lt_int q
def Vv:OpR X (compareOp .LtE) (rI0 λi j=>.bl (decide (i<=j))):=Q0 λ_ _ _ _ _ _ _ q=>le_int q
def eE:OpR X (compareOp .Gt) (rI0 λi j=>.bl (decide (j<i))):=Q0 λ_ _ _ _ _ _ _ q=>gt_int q
def eF:OpR X (compareOp .GtE) (rI0 λi j=>.bl (decide (j<=i))):=Q0 λ_ _ _ _ _ _ _ q=>ge_int q
def OpR.or{f:Value->Value->Sem Value}{r r':R2}(h:OpR X f r)(h':OpR X f r'):OpR X f (λx y H Q=>r x y H Q∨r' x y H Q):=by
 intro O s U H x y v u Q I rx ry q;rcases q with q|q
 .exact h O s U H x y v u Q I rx ry q
 .exact h' O s U H x y v u Q I rx ry q
def NB(b:Expr){op:CmpOp}(h:op≠.In:=by decide)(h2:op≠.NotIn:=by decide):behindInMarks op b=false:=by
 have e1:(op==CmpOp.In)=false:=by cases op<;>first|rfl|exact absurd rfl h
 have e2:(op==CmpOp.NotIn)=false:=by cases op<;>first|rfl|exact absurd rfl h2
 cases b<;>simp[behindInMarks,e1,e2]
def YE{op:CmpOp}{r:R2}(ho:OpR X (compareOp op) r)(ha:PE X a ta)(hb:PE X b tb)(hm:behindInMarks op b=false):PE X (.Compare a [op] [b] pos) (tOp r ta tb):=by
 intro O s U H Q I h;exact wpAny_Compare1 (VN ha hb I h λv u s2 x y H2 I2 rx ry q=>ho O s2 U H2 x y v u Q I2 rx ry q) hm
def Lu(t:TE):TT:=λU H Q=>t U H λx H'=>∃k,x=.bl k/\Q k H'
def Og{op:CmpOp}{r:R2}(ho:OpR X (compareOp op) r)(ha:PE X a ta)(hb:PE X b tb)(hm:behindInMarks op b=false):PT X (.Compare a [op] [b] pos) (Lu (tOp r ta tb)):=by
 intro O s U H Q I h;refine wpAny_isTrue_Compare1 (thn (ha O s U H _ I h) λv s1 ⟨x,H1,I1,r1,q1⟩=>thn (hb O s1 U H1 _ I1 q1) λu s2 ⟨y,H2,I2,r2,q2⟩=>
  thn (ho O s2 U H2 x y v u _ I2 r1 r2 q2) λc s3 ⟨z,H3,I3,r3,k,e,q3⟩=>?_) hm
 subst e;cases r3;exact kh ⟨H3,I3,q3⟩
def O2(K:Frag)(x:V)(H:Hp)(k:Bool):Prop:=
 match x with
 |.non=>k=false
 |.bl b=>k=b
 |.int i=>k=(i != 0)
 |.str y=>y.length<=sizeLine/\k=((y.length:Int) != 0)
 |.byt y=>y.size<=sizeLine/\k=((y.size:Int) != 0)
 |.ref p=>(∃xs,SqL K H p xs/\k=!xs.isEmpty)∨(∃xs,SqT K H p xs/\k=!xs.isEmpty)∨∃kvs,H p=some (.dK kvs)/\k=!kvs.isEmpty
 |_=>False
def QL{κ:Type}{kvs:List (κ×V)}{vs:List (κ×Value)}(r:KV kvs vs):(!vs.isEmpty)=!kvs.isEmpty:=by
 cases r<;>rfl
def Jz{xs:List V}{its:List Value}(r:Vals xs its):(!its.toArray.isEmpty)=!xs.isEmpty:=by
 cases r<;>simp
def Jw:(sizeLine:Nat)<2^63:=by rw[jw];decide
def ZG:gG X (λx H Q=>∃k,O2 X.K x H k/\Q k H):=by
 intro O s U H x v Q I rx h;obtain⟨k,e,q⟩:=h;have hl:=Jw;have hs:sizeLine=16777216:=jw;cases x with
 |non=>
  cases rx;have e':k=false:=e;subst e';exact truthy_none ⟨H,I,q⟩
 |bl b=>
  cases rx;have e':k=b:=e;subst e';exact kh ⟨H,I,q⟩
 |int i=>
  obtain⟨t,rfl⟩:=rx;have e':k=(i != 0):=e;subst e';exact PySem.P.truthy_int ⟨H,I,q⟩
 |str y=>
  obtain⟨t,rfl⟩:=rx;obtain⟨hy,e'⟩:y.length<=sizeLine/\k=((y.length:Int) != 0):=e;subst e';exact PySem.P.truthy_str (by omega) ⟨H,I.tok _,q⟩
 |byt y=>
  obtain⟨t,rfl⟩:=rx;obtain⟨hy,e'⟩:y.size<=sizeLine/\k=((y.size:Int) != 0):=e;subst e';exact PySem.W.truthy_bytes (by omega) ⟨H,I.tok _,q⟩
 |ref p=>
  cases rx;have e':(∃xs,SqL X.K H p xs/\k=!xs.isEmpty)∨(∃xs,SqT X.K H p xs/\k=!xs.isEmpty)∨∃kvs,H p=some (.dK kvs)/\k=!kvs.isEmpty:=e;rcases e' with⟨xs,hx,e'⟩|⟨xs,hx,e'⟩|⟨kvs,hx,e'⟩
  .subst e';obtain⟨its,r,pl,hz⟩:=I.list hx;have hlen:=r.length;exact wpAny_truthy_list pl.isList (by simp only[jd];omega) ⟨H,I.tok _,by rw[Jz r];exact q⟩
  .subst e';obtain⟨its,r,pl,hz⟩:=I.tuple hx;have hlen:=r.length;exact truthy_tuple pl (by simp only[jd];omega) ⟨H,I.tok _,by rw[Jz r];exact q⟩
  .subst e';obtain⟨hz,hS,vs,r,m⟩:kvs.length<=sizeLine/\(p==sysModules)=false/\∃vs,KV kvs vs/\s.heap.DictOf (BP X.prog X.w) p vs:=I.hok p _ hx;have hlen:kvs.length=vs.length:=Paired.length r;exact wpAny_truthy_dict hS m (by omega) ⟨H,I.tok _,by rw[QL r];exact q⟩
 |_=>exact(show False from e).elim
def UO(ha:PE X a ta)(he:∀whole,isTrue a X.env whole=(do let v <- whole;standAt a.pos;holding [v] (truthy v))):
 PT X a (λU H Q=>ta U H λx H'=>∃k,O2 X.K x H' k/\Q k H'):=by
 intro O s U H Q I h;exact isTrue_plain (thn (ha O s U H _ I h) λv s1 ⟨x,H1,I1,r1,q1⟩=>ZG O s1 U H1 x v Q I1 r1 q1) (he _)
def CU{x:V}{us:List Value}(r:Vals [x] us):∃u,us=[u]/\RelV x u:=by
 cases r with
 |cons r1 r2=>cases r2;exact⟨_,rfl,r1⟩
def Lp{x y:V}{us:List Value}(r:Vals [x,y] us):∃u w',us=[u,w']/\RelV x u/\RelV y w':=by
 cases r with
 |cons r1 r2=>
  cases r2 with
  |cons r3 r4=>cases r4;exact⟨_,_,rfl,r1,r3⟩
def Sz(hc:X.calm=true):CallR X (.builtin "max") (λxs H Q=>∃i j,xs=[.int i,.int j]/\Q (.int (if j>i then j else i)) H):=by
 intro O s U H xs us Q I r h;obtain⟨i,j,rfl,q⟩:=h;obtain⟨u,w',rfl,⟨t,rfl⟩,⟨t',rfl⟩⟩:=Lp r;refine max_two_ints (I.ok.hd hc) λh' tk k=>⟨_,H,I.kept k,?_,q⟩
 by_cases hj:j>i
 .rw[j6 hj,j6 hj];exact⟨_,rfl⟩
 .rw[j7 hj,j7 hj];exact⟨_,rfl⟩
def Sy(hc:X.calm=true):CallR X (.builtin "min") (λxs H Q=>∃i j,xs=[.int i,.int j]/\Q (.int (if j<i then j else i)) H):=by
 intro O s U H xs us Q I r h;obtain⟨i,j,rfl,q⟩:=h;obtain⟨u,w',rfl,⟨t,rfl⟩,⟨t',rfl⟩⟩:=Lp r;refine min_two_ints (I.ok.hd hc) λh' tk k=>⟨_,H,I.kept k,?_,q⟩
 by_cases hj:j<i
 .rw[j6 hj,j6 hj];exact⟨_,rfl⟩
 .rw[j7 hj,j7 hj];exact⟨_,rfl⟩
end
def GK{h:Heap}{dx:Addr}{mA:Str->Option Value}(n:h.Ns1 dx mA):∃od,h.get? dx=some od/\∀name,PySem.W.lookIn name od=some (mA name):=by
 obtain⟨o,es,ep,ho,hd,hk,_,hm⟩:=n;refine⟨o,ho,λname=>?_⟩;have e:=hm name;unfold nsFind findBy at e;rw[<- Array.find?_toList]at e;unfold PySem.W.lookIn;rw[hd];dsimp only;split
 .rename_i y q
  rw[q]at e;exact jy some e
 .rename_i q
  rw[q]at e;have a:es.toList.any (·.refKey)=false:=by
   rw[List.any_eq_false];intro y hy;obtain⟨z,t,hkey⟩:=hk y (Array.mem_toList_iff.mp hy);simp[DictEntry.refKey,hkey]
  have a':¬ es.toList.any (·.refKey)=true:=by rw[a];exact Bool.false_ne_true
  rw[j7 a'];exact jy some e
def RelO.some_of{v:V}{o:Option Value}(r:RelO (some v) o):∃u,o=some u/\RelV v u:=by
 cases o with
 |none=>exact(show False from r).elim
 |some u=>exact⟨u,rfl,r⟩
def SZ{v:V}{u:Value}(r:RelV v u):PySem.W.handedIn u=true:=by
 cases v with
 |non=>cases(show u=Value.none from r);rfl
 |bl b=>cases(show u=Value.bool b from r);rfl
 |int i=>obtain⟨t,e⟩:=(show ∃t,u=Value.int i t from r);cases e;rfl
 |str x=>obtain⟨t,e⟩:=(show ∃t,u=Value.str x t from r);cases e;rfl
 |byt b=>obtain⟨t,e⟩:=(show ∃t,u=Value.bytes b t from r);cases e;rfl
 |flt b=>obtain⟨t,e⟩:=(show ∃t,u=Value.float b t from r);cases e;rfl
 |ref a=>cases(show u=Value.ref a from r);rfl
 |ty n=>cases(show u=Value.type n from r);rfl
def DF(K:Frag)(C:Addr)(f:Str):Prop:=findIn K (.ref C) f=some none
section
variable{X:Cx}{O:List (Addr×Obj)}{U:St}{H:Hp}{s:Shared}{a C dx:Addr}{fs:List (Str×V)}{f:Str}{v:V}{A:Around}{E:Value->Shared->Prop}
def Yy{prog:Program}{w:World}{env:Env}{e:Expr}{f:Str}{pos:Pos}{s:Shared}{Q:Value->Shared->Prop}(hb:attributeBase e f env (eval e env)=eval e env)
 (h:wpAny (model prog w) A (eval e env) (λo s₁=>wpAny (model prog w) A (getAttr o f true) Q E s₁) E s):wpAny (model prog w) A (eval (.Attribute e f pos) env) Q E s:=
 Attribute_any_ h (by rw[arm_eval_Attribute,hb])
end
structure Room(k:Nat)(A:Around):Prop where
 hd:A.handled=none
 dp:A.depth+3*k+5<recursionLimit
 un:A.units+16*k+200<cLine
 gd:A.guards=some []
def Room.mono{j k:Nat}{A:Around}(r:Room k A)(h:j<=k):Room j A:=⟨r.hd,by have:=r.dp;omega,by have:=r.un;omega,r.gd⟩
theorem Room.deeper{k:Nat}{A:Around}(r:Room (k+1) A)(env:Env):Room k (A.deeper env):=
 ⟨r.hd,by have:=r.dp;show A.depth+1+3*k+5<_;omega,by have:=r.un;show A.units+3+16*k+200<_;omega,by first|exact r.gd|(simpa [Around.deeper,Around.under,Code.guards,Code.isGuard,pushGuards]using r.gd)⟩
theorem Room.in1{k:Nat}{A:Around}(r:Room (k+1) A):Room k A.in1:=
 ⟨r.hd,by have:=r.dp;show A.depth+3*k+5<_;omega,by have:=r.un;show A.units+1+16*k+200<_;omega,r.gd⟩
def Q7{A:Around}{C:Addr}{us:List Value}{kw:List (Str×Value)}:(A.under (.builtin "type.__call__" ⟨.ref C::us,kw⟩)).depth=A.depth+1:=by
 first|rfl|simp[Around.under,Code.weight,Code.isCreation,Code.isGuard,Code.isCaller,Code.frames,Code.isFrame,guardIds]
def Q6{A:Around}{C:Addr}{us:List Value}{kw:List (Str×Value)}:(A.under (.builtin "type.__call__" ⟨.ref C::us,kw⟩)).units=A.units+1:=by
 first|rfl|simp[Around.under,Code.cUnits,Code.frames,Code.isFrame]
def Room.make{k:Nat}{A:Around}(r:Room (k+1) A)(C:Addr)(us:List Value)(kw:List (Str×Value)):Room k (A.under (.builtin "type.__call__" ⟨.ref C::us,kw⟩)):=
 ⟨r.hd,by have:=r.dp;rw[Q7];omega,by have:=r.un;rw[Q6];omega,by first|exact r.gd|(simpa [Around.under,Code.guards,Code.isGuard,guardIds,pushGuards]using r.gd)⟩
theorem Room.depth{k:Nat}{A:Around}(r:Room k A):A.depth<recursionLimit:=by have:=r.dp;omega
theorem Room.units{k:Nat}{A:Around}(r:Room k A):A.units+64<cLine:=by have:=r.un;omega
def BS:TA:=λ_ H Q=>Q [] H
def Aq(ta:TE)(tr:TA):TA:=λU H Q=>ta U H λx H1=>tr U H1 λxs H2=>Q (x::xs) H2
section
variable{X:Cx}{e:Expr}{es:List Expr}{te:TE}{t:TA}{pos:Pos}
def C7:PA X [] BS:=λ_ _ _ _ H Q I h=>Calls.spliced_nil ⟨[],H,I,.nil,h⟩
def B6(ha:PE X e te)(hr:PA X es t)(hs:starEach (e::es) X.env=(false,eval e X.env)::starEach es X.env:=by rfl):PA X (e::es) (Aq te t):=by
 intro pos O s U H Q I h;rw[hs];show wpAny _ _ (spliced ((false,eval e X.env)::backTo pos (starEach es X.env))) _ _ s;refine Calls.spliced_cons (thn (ha O s U H _ I h) λu s1 ⟨x,H1,I1,r1,q1⟩=>?_);exact thn (hr pos O s1 U H1 _ I1 q1) λus s2 ⟨xs,H2,I2,r2,q2⟩=>⟨x::xs,H2,I2,.cons r1 r2,q2⟩
def MQ(t:TA):TE:=λU H Q=>t U H λxs H1=>xs.length<=sizeLine/\∀p,H1 p=none->Q (.ref p) (upd H1 p (.tup xs))
def Te(t:TA):TE:=λU H Q=>t U H λxs H1=>xs.length<=sizeLine/\∀p,H1 p=none->Q (.ref p) (upd H1 p (.lst xs))
def SD{x1}(h:PA X es t):PE X (.Tuple es x1 pos) (MQ t):=by
 intro O s U H Q I hq;refine wpAny_Tuple_spliced (thn (h pos O s U H _ I hq) λus s1 ⟨xs,H1,I1,r,z,q⟩=>⟨by rw[<- r.length];exact z,?_⟩);have hf:H1 s1.heap.objs.size=none:=I1.hok.fresh (j9 _);refine⟨.ref s1.heap.objs.size,upd H1 s1.heap.objs.size (.tup xs),I1.laid (t':=s1.toks) (λb u e=>Heap.get?_push_of_some _ e) (j9 _) ?_,rfl,q _ hf⟩;exact⟨z,us,r,⟨_,Heap.get?_push_size _ rfl,rfl,⟨_,rfl⟩,rfl⟩⟩
def bO(h:PA X es t):PE X (.List es pos) (Te t):=by
 intro O s U H Q I hq;refine wpAny_List_spliced (thn (h pos O s U H _ I hq) λus s1 ⟨xs,H1,I1,r,z,q⟩=>⟨by rw[<- r.length];exact z,?_⟩);have hf:H1 s1.heap.objs.size=none:=I1.hok.fresh (j9 _);refine⟨.ref s1.heap.objs.size,upd H1 s1.heap.objs.size (.lst xs),I1.laid (t':=s1.toks) (λb u e=>Heap.get?_push_of_some _ e) (j9 _) ?_,rfl,q _ hf⟩;exact⟨z,us,0,r,Heap.get?_push_size _ rfl⟩
end
abbrev Sp:=List V->Hp->VK->XK->Prop
abbrev CXT:=List Env->Hp->Shared->XK->Value->Shared->Prop
structure Env0(P:Program)(w:World)(K:Frag)(mg:Str->Option Value)(base:Heap)(A:Around)(outer:List Env)(s:Shared)(H:Hp):Prop where
 frames:A.frames=some outer
 mod:Mod K mg base
 bs:∀b o,base.get? b=some o->s.heap.get? b=some o/\H b=none
 bsz:base.objs.size<=s.heap.objs.size
 funs:s.heap.FunFrames base outer
 frf:∀b∈frs outer,H b=none
 hok:HOk P w H s.heap
 bare:AllBare s.gens
def CE(outer:List Env)(P:Program)(w:World)(H:Hp)(s:Shared)(Q:VK)(u:Value)(s':Shared):Prop:=
 ∃v H',s'.os=s.os/\AllBare s'.gens/\Un (frs outer) [] H H' s.heap s'.heap/\HOk P w H' s'.heap/\RelV v u/\Q v H'
def CR(CX:CXT)(outer:List Env)(P:Program)(w:World)(H:Hp)(s:Shared)(Q:VK)(E:XK)(r:Result)(s':Shared):Prop:=
 match r with
 |.ok (.ret u)=>CE outer P w H s Q u s'
 |.ok _=>False
 |.error e=>CX outer H s E e s'
structure FnOk(P:Program)(w:World)(K:Frag)(mg:Str->Option Value)(base:Heap)(CX:CXT)(k:Nat)(f:Addr)(fd:FuncData)(ps:List Str)(sp:Sp):Prop where
 len:∀vs H Q E,sp vs H Q E->vs.length=ps.length
 run:∀(A:Around) (outer:List Env) (s:Shared) (H:Hp) (args:Args) (us:List Value) (vs:List V) (Q:VK) (E:XK),Room k A->Env0 P w K mg base A outer s H->BindsTo s fd args (ps.zip us)->Vals vs us->sp vs H Q E ->
  codeAny (model P w) A (.call (.ref f) args) (CR CX outer P w H s Q E) s
theorem FnOk.mono{P:Program}{w:World}{K:Frag}{mg:Str->Option Value}{base:Heap}{CX:CXT}{j k:Nat}{f:Addr}{fd:FuncData}{ps:List Str}{sp:Sp}(F:FnOk P w K mg base CX j f fd ps sp)(h:j<=k):
 FnOk P w K mg base CX k f fd ps sp:=⟨F.len,λA outer s H args us vs Q E hr=>F.run A outer s H args us vs Q E (hr.mono h)⟩
def Env0.make{P:Program}{w:World}{K:Frag}{mg:Str->Option Value}{base:Heap}{A:Around}{outer:List Env}{s:Shared}{H:Hp}(e:Env0 P w K mg base A outer s H)(C:Addr)(us:List Value)(kw:List (Str×Value)):
 Env0 P w K mg base (A.under (.builtin "type.__call__" ⟨.ref C::us,kw⟩)) outer s H:=⟨by first|exact e.frames|(simpa [Around.under,Code.envs,Code.isFrame,pushEnvs]using e.frames),e.mod,e.bs,e.bsz,e.funs,e.frf,e.hok,e.bare⟩
section
variable{X:Cx}{O:List (Addr×Obj)}{U:St}{H:Hp}{s s':Shared}
def Inv.env0(I:Inv X O U H s):Env0 X.prog X.w X.K X.mg X.base X.A X.stack s H:=
 ⟨I.ok.frames,I.ok.mod,I.bs,jf I.ok.bsz I.sz,I.stack,I.stkFree,I.hok,I.bare⟩
def Inv.after{Q:VK}{u:Value}(I:Inv X O U H s)(h:CE X.stack X.prog X.w H s Q u s'):EP X O U Q u s':=by
 obtain⟨v,H',os,bare,un,hok,r,q⟩:=h;obtain⟨hh,g,d,t,os'⟩:=s';obtain rfl:os'=s.os:=os;exact⟨v,H',I.call (h':=hh) (g':=g) (d':=d) (t':=t) (ch:=[]) un hok bare (λb z=>absurd z (by simp)),r,q⟩
end
def Eg(sp:Sp)(dvs:List V)(E:XK)(t:TA):TE:=λU H Q=>t U H λvs H1=>sp (vs++dvs) H1 Q E
def Binds(K:Frag)(fd:FuncData)(ps:List Str)(ds:List Value):Prop:=
 ∀(s:Shared) (us:List Value),K.In s.heap->(us++ds).length=ps.length->BindsTo s fd ⟨us,[]⟩ (ps.zip (us++ds))
def Binds.all{K:Frag}{fd:FuncData}{ps:List Str}(h:∀us:List Value,us.length=ps.length->bindArgs fd ⟨us,[]⟩=pure (ps.zip us)):Binds K fd ps []:=λs us _ hl=>by
 rw[jI]at hl ⊢;exact .of_eq (h us hl)
def O4(CX:CXT)(X:Cx)(E:XK):Prop:=∀(O:List (Addr×Obj)) (U:St) (H:Hp) (s:Shared) (e:Value) (s':Shared),Inv X O U H s->CX X.stack H s E e s'->X.xe e s'
section
variable{X:Cx}{CX:CXT}{k:Nat}{f C:Addr}{fd:FuncData}{ps:List Str}{sp:Sp}{dvs:List V}{ds:List Value}{E:XK}{x m:Str}{p pos apos:Pos}{e o:Expr}{es:List Expr}{ta:TE}{t:TA}
def ZW{O:List (Addr×Obj)}{U:St}{H:Hp}{s:Shared}{Q:VK}{us:List Value}{vs:List V}(F:FnOk X.prog X.w X.K X.mg X.base CX k f fd ps sp)(hr:Room k X.A)(hb:Binds X.K fd ps ds)(hd:Vals dvs ds)(hx:O4 CX X E)
 (I:Inv X O U H s) (r:Vals vs us) (h:sp (vs++dvs) H Q E):wpAny (model X.prog X.w) X.A (call (.ref f) us) (EP X O U Q) X.xe s:=by
 have r2:Vals (vs++dvs) (us++ds):=r.append hd;have hl:(us++ds).length=ps.length:=by rw[<- r2.length];exact F.len _ _ _ _ h
 refine jS (jT (F.run X.A X.stack s H ⟨us,[]⟩ (us++ds) (vs++dvs) Q E hr I.env0 (hb s us I.kIn hl) r2 h) λr s' hq=>?_);cases r with
 |error e=>exact hx O U H s e s' I hq
 |ok fl=>
  cases fl with
  |ret u=>exact I.after hq
  |next=>exact False.elim hq
  |brk=>exact False.elim hq
  |cont=>exact False.elim hq
def YF(F:FnOk X.prog X.w X.K X.mg X.base CX k f fd ps sp)(hr:Room k X.A)(hg:Gl X x)(hm:X.mg x=some (.ref f))(hk:keepIn X.K (.ref f)=true)(hb:Binds X.K fd ps ds)(hd:Vals dvs ds)(hx:O4 CX X E)
 (ha:PA X (e::es) t) (hdb:(x==("__debug__":Str))=false:=by decide) (he:starEach (e::es) X.env=(false,eval e X.env)::starEach es X.env:=by rfl) (hpl:(backTo pos (starEach es X.env)).any (·.1)=false:=by rfl):
 PE X (.Call (.Name x p) (e::es) [] pos) (Eg sp dvs E t):=by
 intro O s U H Q I h;refine jW (Fa I hg hm ?_ hdb);refine PySem.W.callWith_K (h₀:=X.base) I.ok.mod.kin hk (thn (ha pos O s U H _ I h) λus s1 ⟨vs,H1,I1,r,q⟩=>⟨I1.kIn,?_⟩) he hpl;exact ZW F hr hb hd hx I1 r q
end
structure FnScope(N P:List Str)(sc:Scope):Prop where
 kind:sc.kind=.function
 co:sc.isCoroutine=false
 gen:sc.isGenerator=false
 nd:N.Nodup
 pre:N.take P.length=P
 par:∀x∈P,sc.names.lookup x=some .local∨sc.names.lookup x=some .cell
 nofree:∀y∈sc.names,y.2≠.free
theorem LU{kindOf:Str->Option NameKind}{x:Str}:∀{binds:List (Str×Value)} {m:Str->Option Value},(∀v,(x,v)∉binds)->bindL kindOf binds m x=m x
 |[],_,_=>rfl
 |(n,v)::r,m,h=>by
   unfold bindL;rw[LU λw hw=>h w (jm _ hw)];split
   .have:x≠n:=by rintro rfl;exact h v jt
    simp[this]
   .rfl
theorem LW{kindOf:Str->Option NameKind}{x:Str}:∀{binds:List (Str×Value)} {m:Str->Option Value},(∀v,(x,v)∉binds)->bindC kindOf binds m x=m x
 |[],_,_=>rfl
 |(n,v)::r,m,h=>by
   unfold bindC;rw[LW λw hw=>h w (jm _ hw)];split
   .rfl
   .have:x≠n:=by rintro rfl;exact h v jt
    simp[this]
theorem LV{kindOf:Str->Option NameKind}{x:Str}{v:Value}:∀{P:List Str} {vs:List Value} {i:Nat} {m:Str->Option Value},P.Nodup->P[i]?=some x->vs[i]?=some v->kindOf x=some .local ->
 bindL kindOf (P.zip vs) m x=some v
 |[],_,_,_,_,h,_,_=>by simp at h
 |_::_,[],_,_,_,_,h,_=>by simp at h
 |p::P,w::vs,0,m,nd,h1,h2,hk=>by
  simp at h1 h2;subst h1;subst h2;show bindL kindOf ((p,w)::P.zip vs) m p=_;unfold bindL;rw[LU λv hv=>(nodup_cons.mp nd).1 (of_mem_zip hv).1,j6 hk];simp
 |p::P,w::vs,i+1,m,nd,h1,h2,hk=>by
  show bindL kindOf ((p,w)::P.zip vs) m x=_;unfold bindL;exact LV (i:=i) (nodup_cons.mp nd).2 (by simpa using h1) (by simpa using h2) hk
theorem LX{kindOf:Str->Option NameKind}{x:Str}{v:Value}:∀{P:List Str} {vs:List Value} {i:Nat} {m:Str->Option Value},P.Nodup->P[i]?=some x->vs[i]?=some v->kindOf x≠some .local ->
 bindC kindOf (P.zip vs) m x=some v
 |[],_,_,_,_,h,_,_=>by simp at h
 |_::_,[],_,_,_,_,h,_=>by simp at h
 |p::P,w::vs,0,m,nd,h1,h2,hk=>by
  simp at h1 h2;subst h1;subst h2;show bindC kindOf ((p,w)::P.zip vs) m p=_;unfold bindC;rw[LW λv hv=>(nodup_cons.mp nd).1 (of_mem_zip hv).1,j7 hk];simp
 |p::P,w::vs,i+1,m,nd,h1,h2,hk=>by
  show bindC kindOf ((p,w)::P.zip vs) m x=_;unfold bindC;exact LX (i:=i) (nodup_cons.mp nd).2 (by simpa using h1) (by simpa using h2) hk
def De(N:List Str)(vs:List V):St:=vs.map some++List.replicate (N.length-vs.length) none
def Dq(CX:CXT)(P:Program)(w:World)(K:Frag)(mg:Str->Option Value)(base:Heap)(N:List Str)(qual:Str)(scope:Scope)(f:Addr)(cd:Value)(A:Around)(outer:List Env)(s:Shared)(H:Hp)(E:XK):Cx where
 prog:=P
 w:=w
 K:=K
 mg:=mg
 base:=base
 A:=A.deeper (envOfC qual scope s.heap.objs.size f cd)
 N:=N
 s₀:=s
 H₀:=H
 env:=envOfC qual scope s.heap.objs.size f cd
 outer:=outer
 stack:=envOfC qual scope s.heap.objs.size f cd::outer
 ex:=[]
 calm:=true
 fn:=λ_=>true
 pn:=[]
 xe:=λe s'=>wpAny (model P w) (A.deeper (envOfC qual scope s.heap.objs.size f cd)) (leaving (envOfC qual scope s.heap.objs.size f cd) e) (λ_ s''=>CX outer H s E e s'') (λe' s''=>CX outer H s E e' s'') s'
def Nn{sc:Scope}{n:Nat}{x:Str}(h:sc.names.lookup x=some .cell):∃c,(cellsFrom n sc.names []).lookup x=some c:=by
 have q:=PySem.W.cellsFrom_some sc.names n [] (.inl h);exact isSome_iff_exists.mp q
def SW{CX:CXT}{P:Program}{w:World}{K:Frag}{mg:Str->Option Value}{base:Heap}{N ps:List Str}{qual:Str}{scope:Scope}{f:Addr}{cd:Value}{A:Around}{outer:List Env}{s s1:Shared}{H:Hp}{E:XK}{us:List Value}{vs:List V}
 (S:FnScope N ps scope) (hd:A.handled=none) (e0:Env0 P w K mg base A outer s H) (hl:vs.length=ps.length) (r:Vals vs us)
 (x:InCallC s s.heap.objs.size (bindL (envOfC qual scope s.heap.objs.size f cd).kindOf (ps.zip us) λ_=>none) (cellsFrom (s.heap.objs.size+1) scope.names []) (bindC (envOfC qual scope s.heap.objs.size f cd).kindOf (ps.zip us) λ_=>none) s1):
 Inv (Dq CX P w K mg base N qual scope f cd A outer s H E) [] (De N vs) H s1:=by
 have hpl:ps.length<=N.length:=by have:=jy List.length S.pre;rw[jE]at this;omega
 obtain⟨h1,tk,rfl,hk⟩:=x.done;have noA:∀b:Addr,b∉(Dq CX P w K mg base N qual scope f cd A outer s H E).ex:=λb z=>absurd (show b∈([]:List Addr)from z) (by simp);refine⟨⟨e0.mod,S.kind,rfl,rfl,j9 _,λy z c h1 h2=>?_,λy hy=>?_,λy c _ h=>?_,λ_=>hd,Around.frames_deeper e0.frames,.inr ⟨rfl,rfl⟩,λb z=>absurd z (noA b),e0.bs,e0.bsz,λb _ _=>noA b,λb z=>absurd z (noA b),e0.funs,e0.frf⟩,
  rfl,e0.bare,Un.kept hk,⟨_,x.toInCall.ns,λi y v h1 h2 h3=>?_⟩,λy c h=>⟨_,x.cell y c h⟩,e0.hok.fresh (j9 _),λy c h=>?_,λp hp=>absurd (show p∈([]:List (Addr×Obj))from hp) (by simp),e0.hok.kept hk,?_⟩
 .exact name_of_addr x.apart (PySem.mem_of_lookup h1) (PySem.mem_of_lookup h2)
 .have hy:scope.names.lookup y=some .cell∨scope.names.lookup y=some .free:=hy;rcases hy with hy|hy
  .exact Nn hy
  .exact absurd rfl (S.nofree _ (PySem.mem_of_lookup hy))
 .exact jR (x.above y c (PySem.mem_of_lookup h))
 .have hi:i<vs.length:=by
   unfold De at h2;by_cases hi:i<vs.length
   .exact hi
   .rw[List.getElem?_append_right (by simpa using hi)]at h2;rw[List.getElem?_replicate]at h2;split at h2<;>cases h2
  have ha:vs[i]?=some v:=by
   unfold De at h2;rw[List.getElem?_append_left (by simpa using hi),List.getElem?_map]at h2;cases e:vs[i]? with
   |none=>rw[e]at h2;cases h2
   |some a=>rw[e]at h2;cases h2;rfl
  obtain⟨u,hu,rv⟩:=r.get ha;have hp:ps[i]?=some y:=by
   rw[<- S.pre,List.getElem?_take_of_lt (by omega)];exact h1
  have ndP:ps.Nodup:=by rw[<- S.pre];exact S.nd.sublist (List.take_sublist _ _)
  refine⟨u,rv,?_⟩;rcases S.par y (jq hp)with k|k
  .exact .inl ⟨k,LV ndP hp hu k⟩
  .obtain⟨c,e⟩:=Nn (n:=s.heap.objs.size+1) k;refine .inr ⟨.inl k,c,e,?_⟩;have q:=x.cell y c e;rw[LX ndP hp hu (by show scope.names.lookup y≠_;rw[k];decide)]at q;exact q
 .exact e0.hok.fresh (jR (x.above y c (PySem.mem_of_lookup h)))
 .unfold De;show _=N.length;rw[jL,jo,List.length_replicate];omega
def Qa{CX:CXT}{P:Program}{w:World}{K:Frag}{mg:Str->Option Value}{base:Heap}{k:Nat}{f:Addr}{name qual:Str}{params:Arguments}{body:List Stmt}{scope:Scope}{dV kV doc pm cdv ct oc:Value}{an od:Option Addr}
 {osl:Array (Option Value)} {N ps:List Str} {sp:Sp} (lk:K.lookup f=some ⟨oc,od,.func (fnOf name qual params body scope dV kV doc pm an cdv ct),osl⟩) (hcd:codeIn K cdv qual=true) (S:FnScope N ps scope)
 (len:∀vs H Q E,sp vs H Q E->vs.length=ps.length)
 (hbody:∀(A:Around) (outer:List Env) (s:Shared) (H:Hp) (vs:List V) (Q:VK) (E:XK),Room k (A.deeper (envOfC qual scope s.heap.objs.size f cdv))->sp vs H Q E ->
  ∃t,PSs (Dq CX P w K mg base N qual scope f cdv A outer s H E) body t/\t { nx:=λ_ H'=>Q .non H',rt:=Q } (De N vs) H):
 FnOk P w K mg base CX (k+1) f (fnOf name qual params body scope dV kV doc pm an cdv ct) ps sp:=by
 refine⟨len,λA outer s H args us vs Q E hr e0 hb r hsp=>?_⟩;have hl:=len _ _ _ _ hsp;have KX:K.In s.heap:=e0.mod.kin.keeps λb o e=>(e0.bs b o e).1;have lim:s.heap.NoLimit:=e0.mod.nolimit.keeps λb o e=>(e0.bs b o e).1;have hkind:∀y∈ps.zip us,scope.names.lookup y.1=some .local∨(scope.names.lookup y.1=some .cell/\((cellsFrom (s.heap.objs.size+1) scope.names []).lookup y.1).isSome=true):=λ⟨n,v⟩ hy=>by
  rcases S.par n (of_mem_zip hy).1 with q|q
  .exact .inl q
  .exact .inr ⟨q,PySem.W.cellsFrom_some _ _ _ (.inl q)⟩
 refine codeAny_call_function hr.depth (KX _ _ lk) rfl S.co S.gen rfl (PySem.W.codeRec_of KX hcd) (hb _ _ _ _ ?_);refine wpAny_newFunctionEnv_cells S.kind hkind λenv he s1 x=>?_;subst he;refine⟨lim.keeps x.toInCall.keep,codeAny_func ?_⟩;obtain⟨t,ht,hq⟩:=hbody A outer s H vs Q E (hr.deeper _) hsp;have I:Inv (Dq CX P w K mg base N qual scope f cdv A outer s H E) [] (De N vs) H s1:=SW S hr.hd e0 hl r x;refine jn (ht [] s1 (De N vs) H _ I hq) (λfl s' hs=>?_) λe s' hs=>hs;have fin:∀{σ':St} {H':Hp} {v:V} {u:Value},Inv (Dq CX P w K mg base N qual scope f cdv A outer s H E) [] σ' H' s'->RelV v u->Q v H'->CE outer P w H s Q u s':=
  λ{σ' H' v u} J rv q=>⟨v,H',J.os,J.bare,J.base,J.hok,rv,q⟩
 cases fl with
 |ret u=>
  obtain⟨v,σ',H',J,rv,q⟩:=hs;exact fin J rv q
 |next=>
  obtain⟨σ',H',J,q⟩:=hs;exact fin (v:=V.non) (u:=Value.none) J rfl q
 |brk=>
  obtain⟨_,_,_,q⟩:=hs;exact False.elim q
 |cont=>
  obtain⟨_,_,_,q⟩:=hs;exact False.elim q
section
variable{X:Cx}{x:Str}{p pos:Pos}{e:Expr}{es:List Expr}{t:TA}{id T:String}{r:List V->Hp->VK->Prop}
def tCB(r:List V->Hp->VK->Prop)(t:TA):TE:=λU H Q=>t U H λvs H1=>r vs H1 Q
def ER(hc:CallR X (.builtin id) r)(hg:Gl X x)(hm:X.mg x=none)(hv:bootBuiltins x=some (.builtin id))(ha:PA X (e::es) t)(hn:x≠"__name__":=by decide)(hdb:(x==("__debug__":Str))=false:=by decide)
 (he:starEach (e::es) X.env=(false,eval e X.env)::starEach es X.env:=by rfl) (hpl:(backTo pos (starEach es X.env)).any (·.1)=false:=by rfl):PE X (.Call (.Name x p) (e::es) [] pos) (tCB r t):=by
 intro O s U H Q I h;refine jW (DO I hg hm hv ?_ hn hdb);exact PyProof.Rows.callWith_builtin1 (thn (ha pos O s U H _ I h) λus s1 ⟨vs,H1,I1,r1,q1⟩=>hc O s1 U H1 vs us Q I1 r1 q1) he hpl
def Et(hc:CallR X (.type T) r)(hg:Gl X x)(hm:X.mg x=none)(hv:bootBuiltins x=some (.type T))(ha:PA X (e::es) t)(hn:x≠"__name__":=by decide)(hdb:(x==("__debug__":Str))=false:=by decide)
 (he:starEach (e::es) X.env=(false,eval e X.env)::starEach es X.env:=by rfl) (hpl:(backTo pos (starEach es X.env)).any (·.1)=false:=by rfl):PE X (.Call (.Name x p) (e::es) [] pos) (tCB r t):=by
 intro O s U H Q I h;refine jW (DO I hg hm hv ?_ hn hdb);exact PyProof.Rows.callWith_type1 (thn (ha pos O s U H _ I h) λus s1 ⟨vs,H1,I1,r1,q1⟩=>hc O s1 U H1 vs us Q I1 r1 q1) he hpl
end
end L2
namespace HT
open PySem PyProof.Rows
section
variable{prog:Program}{w:World}{A:Around}{E:Value->Shared->Prop}{s:Shared}
def cat_tup{t b:Addr}{vs ws:List Value}{Q:Value->Shared->Prop}(ht:IsTup s.heap t vs.toArray)(hb:IsTup s.heap b ws.toArray)(hv:vs≠[])
 (h1:ws=[]->Q (.ref t) s) (h2:ws≠[]->Q (.ref s.heap.objs.size) { s with heap:=s.heap.push { cls:=.type "tuple",data:=.seq (vs++ws).toArray } })
 (hsz:vs.length+ws.length<=sizeLine):wpAny (model prog w) A (binaryOp .Add (.ref t) (.ref b)) Q E s:=by
 obtain⟨⟨cls,dd,data,sl⟩,ho,hc,n,hd⟩:=id ht;obtain⟨⟨cls2,dd2,data2,sl2⟩,ho2,hc2,n2,hd2⟩:=id hb;simp only at hc hd hc2 hd2;subst hc hd hc2 hd2;have e:vs.toArray++ws.toArray=(vs++ws).toArray:=by simp
 by_cases hw:ws=[]
 .exact concat_meets ⟨_,ho,rfl⟩ ⟨_,ho2,rfl⟩ noFill_tuple_add seq_tuple_add PySem.F.slot_tuple_add PySem.F.entry_tuple_add (PySem.F.args_tuple_add_2 _ _)
   (tuple_addW1 t b vs.toArray ws.toArray n n2 dd dd2 sl sl2 (by simpa using hv) (by simp[hw])) ⟨ho,ho2,h1 hw⟩
 .refine concat_meets ⟨_,ho,rfl⟩ ⟨_,ho2,rfl⟩ noFill_tuple_add seq_tuple_add PySem.F.slot_tuple_add PySem.F.entry_tuple_add (PySem.F.args_tuple_add_2 _ _)
   (tuple_addW2 t b vs.toArray ws.toArray n n2 dd dd2 sl sl2 (by simpa using hv) (by simpa using hw) (by rw[jd,jd];exact hsz)) ⟨ho,ho2,?_⟩
  rw[e];exact h2 hw
def sIx(n d:Nat):Option Int->Nat
 |none=>d
 |some v=>if v<0 then(v+(n:Int)).toNat else min v.toNat n
def ZT(n d:Nat)(hd:d<=n)(o:Option Int):sIx n d o<=n:=by
 cases o with
 |none=>exact hd
 |some v=>
  show(if v<0 then(v+(n:Int)).toNat else min v.toNat n)<=n;by_cases hv:v<0
  .rw[j6 hv];omega
  .rw[j7 hv];exact Nat.min_le_right _ _
def P5(v:Int)(n d:Nat):(if v<0 then max (v+(n:Int)) 0 else min v (n:Int))=((sIx n d (some v):Nat):Int):=by
 show(if v<0 then max (v+(n:Int)) 0 else min v (n:Int))=(((if v<0 then(v+(n:Int)).toNat else min v.toNat n):Nat):Int);by_cases hv:v<0
 .simp only[j6 hv];omega
 .simp only[j7 hv];omega
def Qm(lo hi:Option Int)(n:Nat):Builtin.Slice.sliceAdjust lo hi 1 (n:Int)=(((sIx n 0 lo:Nat):Int),((sIx n n hi:Nat):Int)):=by
 have h1:¬ ((1:Int)<0):=by omega
 unfold Builtin.Slice.sliceAdjust;simp only[h1,km];refine Prod.ext ?_ ?_
 .cases lo with
  |none=>rfl
  |some v=>exact P5 v n 0
 .cases hi with
  |none=>rfl
  |some v=>exact P5 v n n
def Pz(i j:Nat):Builtin.Slice.slicePlaces (i:Int) (j:Int) 1=j-i:=by
 unfold Builtin.Slice.slicePlaces;have h1:(1:Int)>0:=by omega
 simp only[h1,jB,Int.ediv_one];split<;>omega
def Jj{v:Value}{o:Option Int}{Q:Option Int->Shared->Prop}(p:IsPart v o)(h:Q o s):wpAny (model prog w) A (Builtin.Slice.slicePartIndex v) Q E s:=by
 cases p with
 |none=>exact slicePart_none h
 |int i t=>exact slicePart_int h
def Fm{sl:Addr}{vl vu:Value}{lo hi:Option Int}{n:Nat}{Q:Int×Int×Nat->Shared->Prop}(hs:s.heap.IsSliceOf sl vl vu .none)(pl:IsPart vl lo)(pu:IsPart vu hi)
 (h:Q (((sIx n 0 lo:Nat):Int),1,sIx n n hi-sIx n 0 lo) s):wpAny (model prog w) A (Builtin.Slice.sliceApplied (.ref sl) (pure (n:Int))) Q E s:=by
 obtain⟨os,hos,hcs,hds⟩:=id hs;unfold Builtin.Slice.sliceApplied Builtin.Slice.sliceFields;refine j5 (j5 (jr hos hds (x:=vl) rfl (j5 (jr hos hds (x:=vu) rfl (j5 (jr hos hds (x:=.none) rfl (j8 ?_)))))));refine j5 (slicePart_none ?_);show wpAny _ _ (if((1:Int)==0)=true then _ else _) _ _ s;rw[j7 (by decide)];refine j5 (Jj pl (j5 (Jj pu (j5 (j8 ?_)))));show wpAny _ _ (match Builtin.Slice.sliceAdjust lo hi 1 (n:Int)with|(lo,hi)=>pure (lo,(1:Int),Builtin.Slice.slicePlaces lo hi 1)) _ _ s;rw[Qm lo hi n];show wpAny _ _ (pure (((sIx n 0 lo:Nat):Int),(1:Int),Builtin.Slice.slicePlaces ((sIx n 0 lo:Nat):Int) ((sIx n n hi:Nat):Int) 1)) _ _ s;rw[Pz];exact j8 h
def UW(xs:Array Value)(i k:Nat):((List.range k).filterMap λ(m:Nat)=>xs[((i:Int)+(m:Int)*1).toNat]?).toArray=((xs.toList.drop i).take k).toArray:=by
 have e:(λ(m:Nat)=>xs[((i:Int)+(m:Int)*1).toNat]?)=λm=>xs[i+m]? := by
  funext m
  have:((i:Int)+(m:Int)*1).toNat=i+m:=by omega
  rw[this]
 rw[e];have:=pick_run xs i k;rw[List.filterMap_map]at this;have e2:((λx=>xs[x]?) ∘ λx=>i+x)=λm=>xs[i+m]? := rfl;rw[e2]at this;rw[this]
def getItem_tuple_cut{t sl:Addr}{items:Array Value}{vl vu:Value}{lo hi:Option Int}{Q:Value->Shared->Prop}(ht:IsTup s.heap t items)(hs:s.heap.IsSliceOf sl vl vu .none)(pl:IsPart vl lo)(pu:IsPart vu hi)
 (hw:¬ (sIx items.size 0 lo=0/\sIx items.size items.size hi=items.size))
 (h:Q (.ref s.heap.objs.size) { s with heap:=s.heap.push { cls:=.type "tuple",data:=.seq ((items.toList.drop (sIx items.size 0 lo)).take (sIx items.size items.size hi-sIx items.size 0 lo)).toArray } })
 (hsz:items.size<=sizeLine):wpAny (model prog w) A (getItem (.ref t) (.ref sl)) Q E s:=by
 have htake:sizeOk (.seq ((items.toList.drop (sIx items.size 0 lo)).take (sIx items.size items.size hi-sIx items.size 0 lo)).toArray):=by
  show((items.toList.drop (sIx items.size 0 lo)).take (sIx items.size items.size hi-sIx items.size 0 lo)).toArray.size<=sizeLine;rw[jd,jE,ku,Array.length_toList];omega
 have hj:sIx items.size items.size hi<=items.size:=ZT _ _ (j9 _) hi;obtain⟨os,hos,hcs,hds⟩:=id hs;have hTs:s.TypeIs (.ref sl) "slice":=⟨os,hos,hcs⟩
 unfold getItem
 try with_reducible refine jD ?_
 first|refine j5 (j8 ?_)|skip
 refine j5 (wpAny_sequenceKey ht.typeIs (by decide) ?_);refine j5 (kC (name:=Str.ofString "__getitem__") ht.typeIs PyProof.Rows.slot_tuple_getitem
  (ko PyProof.Rows.slot_tuple_getitem ht.typeIs entry_tuple_getitem ?_ (args_tuple_getitem _ _)))
 show wpAny _ _ (Builtin.Tuple.tupleItemsOf (.ref t) >>= _) _ _ s;refine j5 (tupleItemsOf_ ht ?_);refine j5 (wpAny_typeOf hTs ?_);rw[j6 (by decide)];refine j5 (Fm hs pl pu ?_);have hno:¬ ((((sIx items.size 0 lo:Nat):Int)==0&&(1:Int)==1&&(sIx items.size items.size hi-sIx items.size 0 lo)==items.size)=true):=by
  intro q;rw[Bool.and_eq_true,Bool.and_eq_true]at q;have q1:((sIx items.size 0 lo:Nat):Int)=0:=eq_of_beq q.1.1;have q2:sIx items.size items.size hi-sIx items.size 0 lo=items.size:=eq_of_beq q.2;exact hw ⟨by omega,by omega⟩
 show wpAny _ _ (if(((sIx items.size 0 lo:Nat):Int)==0&&(1:Int)==1&&(sIx items.size items.size hi-sIx items.size 0 lo)==items.size)=true then _ else _) _ _ s;rw[j7 hno,UW]
 first
  |exact j5 (m:=Builtin.Tuple.tupleExact _) (jH (j8 ⟨_,rfl,j8 h⟩) htake)
  |exact j5 (m:=Builtin.Tuple.tupleExact _) (jH (j5 (j8 (j8 ⟨_,rfl,j8 h⟩))) htake)
  |exact j5 (j5 (m:=Builtin.Tuple.tupleExact _) (jH (j8 (j8 ⟨_,rfl,j8 h⟩)) htake))
  |exact j5 (j5 (m:=Builtin.Tuple.tupleExact _) (jH (j8 ⟨_,rfl,j8 h⟩) htake))
end
end HT
namespace L2
open PySem PySem.Spec PyProof.Rows
abbrev TO:=St->Hp->(Option Int->Hp->Prop)->Prop
def PO(X:Cx)(e:Option Expr)(t:TO):Prop:=
 ∀(O:List (Addr×Obj)) (s:Shared) (U:St) (H:Hp) (Q:Option Int->Hp->Prop),Inv X O U H s->t U H Q ->
   wpAny (model X.prog X.w) X.A (evalPart e X.env) (λu s'=>∃o H',Inv X O U H' s'/\IsPart u o/\Q o H') X.xe s
def KL:TO:=λ_ H Q=>Q none H
def PY(t:TE):TO:=λU H Q=>t U H λx H1=>∃i,x=.int i/\Q (some i) H1
section
variable{X:Cx}{e:Expr}{te:TE}{lo hi:Option Expr}{tl th:TO}{pos p2:Pos}
def Xy:PO X none KL:=by
 intro O s U H Q I h;rw[evalPart_none];exact j8 ⟨none,H,I,.none,h⟩
def Xx(h:PE X e te):PO X (some e) (PY te):=by
 intro O s U H Q I hw;rw[evalPart_some];refine thn (h O s U H _ I hw) λu s1 ⟨x,H1,I1,r1,q1⟩=>?_;obtain⟨i,rfl,q⟩:=q1;obtain⟨t,rfl⟩:=r1;exact⟨some i,H1,I1,.int i t,q⟩
def SlR(X:Cx)(r:V->Option Int->Option Int->Hp->VK->Prop):Prop:=
 ∀(O:List (Addr×Obj)) (s:Shared) (U:St) (H:Hp) (x:V) (v vl vu:Value) (lo hi:Option Int) (sl:Addr) (Q:VK),Inv X O U H s->RelV x v->s.heap.IsSliceOf sl vl vu .none->IsPart vl lo->IsPart vu hi->r x lo hi H Q ->
   ∃T id,typeLookup (.type T) "__getitem__"=pure (some (.builtin id))/\s.TypeIs v T/\wpAny (model X.prog X.w) X.A (getItem v (.ref sl)) (EP X O U Q) X.xe s
def tSl(r:V->Option Int->Option Int->Hp->VK->Prop)(te:TE)(tl th:TO):TE:=λU H Q=>te U H λx H1=>tl U H1 λl H2=>th U H2 λu H3=>r x l u H3 Q
def N1{r:V->Option Int->Option Int->Hp->VK->Prop}(hr:SlR X r)(he:PE X e te)(hl:PO X lo tl)(hu:PO X hi th):PE X (.Subscript e (.Slice lo hi none p2) pos) (tSl r te tl th):=by
 intro O s U H Q I h;refine Subscript_ (thn (he O s U H _ I h) λv s1 ⟨x,H1,I1,r1,q1⟩=>?_);refine wpAny_Slice (thn (hl O s1 U H1 _ I1 q1) λvl s2 ⟨l,H2,I2,pl,q2⟩=>thn (hu O s2 U H2 _ I2 q2) λvu s3 ⟨u,H3,I3,pu,q3⟩=>?_);rw[evalPart_none];refine j8 ?_;have I4:Inv X O U H3 { s3 with heap:=s3.heap.push { cls:=.type "slice",data:=.fields #[vl,vu,.none] } }:=I3.kept (t':=s3.toks) λb ob q=>Heap.get?_push_of_some _ q;obtain⟨T,id,hT,ht,hg⟩:=hr O { s3 with heap:=s3.heap.push { cls:=.type "slice",data:=.fields #[vl,vu,.none] } } U H3 x v vl vu l u s3.heap.objs.size Q I4 r1 (Heap.IsSliceOf.new ..) pl pu q3;show wpAny (model X.prog X.w) X.A (subscriptTail e (.Slice lo hi none p2) v (.ref s3.heap.objs.size)) (EP X O U Q) X.xe { s3 with heap:=s3.heap.push { cls:=.type "slice",data:=.fields #[vl,vu,.none] } };exact tail_any (ops:=[.ref s3.heap.objs.size,v]) ht hT hg (by with_unfolding_all rfl)
def GU(xs:List V)(lo hi:Option Int):List V:=(xs.drop (HT.sIx xs.length 0 lo)).take (HT.sIx xs.length xs.length hi-HT.sIx xs.length 0 lo)
def J0(xs:List V)(lo hi:Option Int):(GU xs lo hi).length<=xs.length:=by
 unfold GU;rw[jE,ku];omega
def a8(K:Frag):V->Option Int->Option Int->Hp->VK->Prop:=λx lo hi H Q=>∃a xs,x=.ref a/\SqT K H a xs /\
 ¬ (HT.sIx xs.length 0 lo=0/\HT.sIx xs.length xs.length hi=xs.length)/\∀p,H p=none->Q (.ref p) (upd H p (.tup (GU xs lo hi)))
def ZL:SlR X (a8 X.K):=by
 intro O s U H x v vl vu lo hi sl Q I rx hs pl pu h;obtain⟨a,xs,rfl,hx,hw,q⟩:=h;cases rx;obtain⟨its,r,ht,hz⟩:=I.tuple hx;have hlen:its.toArray.size=xs.length:=by rw[jd];exact r.length.symm
 refine⟨"tuple",_,PyProof.Rows.slot_tuple_getitem.lookup,ht.typeIs,?_⟩;refine HT.getItem_tuple_cut ht hs pl pu (by rw[hlen];exact hw) ?_ (by rw[hlen];exact hz);rw[hlen];refine⟨.ref s.heap.objs.size,_,I.laid (t':=s.toks) (o:=.tup (GU xs lo hi)) (λb ob q=>Heap.get?_push_of_some _ q) (j9 _) ?_,rfl,q _ (I.hok.fresh (j9 _))⟩;exact⟨jf (J0 xs lo hi) hz,_,(r.drop (HT.sIx xs.length 0 lo)).take (HT.sIx xs.length xs.length hi-HT.sIx xs.length 0 lo),IsTupD.new _ _⟩
def Pw(K:Frag):R2:=λx y H Q=>∃a b xs ys,x=.ref a/\y=.ref b/\SqT K H a xs/\SqT K H b ys/\xs≠[]/\xs.length+ys.length<=sizeLine /\
 (ys=[]->Q (.ref a) H)/\(ys≠[]->∀p,H p=none->Q (.ref p) (upd H p (.tup (xs++ys))))
def Vals.nil_iff{xs:List V}{us:List Value}(r:Vals xs us):us=[]↔xs=[]:=by
 cases r with
 |nil=>simp
 |cons _ _=>simp
def YI:OpR X (binaryOp .Add) (Pw X.K):=by
 intro O s U H x y v u Q I rx ry h;obtain⟨a,b,xs,ys,rfl,rfl,ha,hb,hx,hz,q1,q2⟩:=h;cases rx;cases ry;obtain⟨its,r1,p1,_⟩:=I.tuple ha;obtain⟨its2,r2,p2,_⟩:=I.tuple hb;refine HT.cat_tup p1 p2 (λz=>hx (r1.nil_iff.mp z)) (λz=>⟨.ref a,H,I,rfl,q1 (r2.nil_iff.mp z)⟩) (λz=>?_) (by rw[<- r1.length,<- r2.length];exact hz);refine⟨.ref s.heap.objs.size,_,I.laid (t':=s.toks) (o:=.tup (xs++ys)) (λb ob q=>Heap.get?_push_of_some _ q) (j9 _) ?_,rfl,q2 (λw=>z (r2.nil_iff.mpr w)) _ (I.hok.fresh (j9 _))⟩;exact⟨by rw[jL];exact hz,_,r1.append r2,IsTupD.new _ _⟩
end
def ixN(n:Nat)(i:Int):Option Nat:=if 0<=i then(if i<n then some i.toNat else none)else if -(n:Int)<=i then some (i+n).toNat else none
def atI{α:Type}(xs:List α)(i:Int):Option α:=(ixN xs.length i).bind λj=>xs[j]?
def Yb{n:Nat}{i:Int}{j:Nat}(h:ixN n i=some j):seqIndex? i n=some j/\j<n/\-(n:Int)<=i/\i<n:=by
 unfold ixN at h;by_cases h0:0<=i
 .rw[j6 h0]at h;by_cases h1:i<n
  .rw[j6 h1]at h;have e:i.toNat=j:=Option.some.inj h;exact⟨by rw[seqIndex_of h0 h1,e],by omega,by omega,h1⟩
  .rw[j7 h1]at h;cases h
 .rw[j7 h0]at h;by_cases h1:-(n:Int)<=i
  .rw[j6 h1]at h;have e:(i+n).toNat=j:=Option.some.inj h;exact⟨by rw[seqIndex_neg (by omega) h1,e],by omega,h1,by omega⟩
  .rw[j7 h1]at h;cases h
def PB{α:Type}{xs:List α}{i:Int}{v:α}(h:atI xs i=some v):∃j,seqIndex? i xs.length=some j/\xs[j]?=some v/\j<xs.length/\-(xs.length:Int)<=i/\i<xs.length:=by
 unfold atI at h;cases e:ixN xs.length i with
 |none=>rw[e]at h;cases h
 |some j=>
  rw[e]at h;obtain⟨h1,h2,h3,h4⟩:=Yb e;exact⟨j,h1,h,h2,h3,h4⟩
def Eb{α:Type}{xs:List α}{j:Nat}{v:α}(h:xs[j]?=some v):atI xs (j:Int)=some v:=by
 have hj:j<xs.length:=(List.getElem?_eq_some_iff.mp h).1;have e:ixN xs.length (j:Int)=some j:=by
  unfold ixN;rw[j6 (by omega),j6 (by omega)];simp
 unfold atI;rw[e];exact h
def JZ{α:Type}(xs:List α)(v:α):atI (xs++[v]) (-1)=some v:=by
 have hl:(xs++[v]).length=xs.length+1:=by simp
 have e:ixN (xs++[v]).length (-1)=some xs.length:=by
  unfold ixN;rw[hl,j7 (by decide),j6 (by omega)]
  congr 1
  omega
 unfold atI;rw[e];show(xs++[v])[xs.length]?=some v;simp
def Kq(b:Expr):Prop:=∀o i,subscripted b false o i=operate [o,i] (getItem o i)
def IxR(X:Cx)(r:R2):Prop:=
 ∀(value slice:Expr) (O:List (Addr×Obj)) (s:Shared) (U:St) (H:Hp) (x y:V) (v u:Value) (Q:VK),Inv X O U H s->RelV x v->RelV y u->r x y H Q ->
   subscripted slice false v u=operate [v,u] (getItem v u)->wpAny (model X.prog X.w) X.A (subscriptTail value slice v u) (EP X O U Q) X.xe s
def MtR(X:Cx)(id:String)(r:V->List V->Hp->VK->Prop):Prop:=
 ∀(O:List (Addr×Obj)) (s:Shared) (U:St) (H:Hp) (x:V) (xs:List V) (v:Value) (us:List Value) (Q:VK),Inv X O U H s->RelV x v->Vals xs us->r x xs H Q ->
   wpAny (model X.prog X.w) X.A (call (.builtin id) (v::us)) (EP X O U Q) X.xe s
section
variable{X:Cx}{a b:Expr}{ta tb:TE}{pos:Pos}
def IxR.or{r r':R2}(h:IxR X r)(h':IxR X r'):IxR X (λx y H Q=>r x y H Q∨r' x y H Q):=by
 intro value slice O s U H x y v u Q I rx ry q hs;rcases q with q|q
 .exact h value slice O s U H x y v u Q I rx ry q hs
 .exact h' value slice O s U H x y v u Q I rx ry q hs
def Vr{r:R2}(hr:IxR X r)(ha:PE X a ta)(hb:PE X b tb)(hs:Kq b):PE X (.Subscript a b pos) (tOp r ta tb):=by
 intro O s U H Q I h;exact Subscript_ (VN ha hb I h λv u s2 x y H2 I2 rx ry q=>hr a b O s2 U H2 x y v u Q I2 rx ry q (hs _ _))
def U8(K:Frag):R2:=λx y H Q=>∃p xs i v,x=.ref p/\y=.int i/\SqL K H p xs/\atI xs i=some v/\Q v H
def U7(K:Frag):R2:=λx y H Q=>∃p xs i v,x=.ref p/\y=.int i/\SqT K H p xs/\atI xs i=some v/\Q v H
def YZ:IxR X (U8 X.K):=by
 intro value slice O s U H x y v u Q I rx ry h hs;obtain⟨p,xs,i,z,rfl,rfl,hq,he,q⟩:=h;cases rx;obtain⟨t,rfl⟩:=ry;obtain⟨its,r,pl,hz⟩:=I.list hq;obtain⟨j,h1,h2,h3,h4,h5⟩:=PB he;obtain⟨w,ew,rw'⟩:=r.get h2;have hl:=r.length;have hn:=Jw;have fin:EP X O U Q w s:=⟨z,H,I,rw',q⟩
 by_cases h0:0<=i
 .have hj:i.toNat=j:=by
   rw[seqIndex_of h0 h5]at h1;exact Option.some.inj h1
  exact item_listR pl.isList h0 (by omega) (by rw[hj];simpa using ew) fin hs
 .have hj:(i+(its.toArray.size:Int)).toNat=j:=by
   rw[seqIndex_neg (by omega) h4]at h1;rw[jd,<- hl];exact Option.some.inj h1
  exact subscriptTail_builtinR (x:=w) pl.isList.typeIs slot_list_getitem.lookup
   (wpAny_getItem_list_neg (Q:=λr s'=>r=w/\EP X O U Q r s') pl.isList (by omega) (by rw[jd]<;>omega) (by omega) (by rw[hj];simpa using ew) ⟨rfl,fin⟩) hs
def cG:IxR X (U7 X.K):=by
 intro value slice O s U H x y v u Q I rx ry h hs;obtain⟨p,xs,i,z,rfl,rfl,hq,he,q⟩:=h;cases rx;obtain⟨t,rfl⟩:=ry;obtain⟨its,r,pl,hz⟩:=I.tuple hq;obtain⟨j,h1,h2,h3,h4,h5⟩:=PB he;obtain⟨w,ew,rw'⟩:=r.get h2;have hl:=r.length;have hn:=Jw;have fin:EP X O U Q w s:=⟨z,H,I,rw',q⟩
 exact subscriptTail_builtinR (x:=w) pl.typeIs slot_tuple_getitem.lookup
  (getItem_tuple (j:=j) (Q:=λr s'=>r=w/\EP X O U Q r s') pl (by omega) (by omega) (by rw[jd,<- hl];exact h1) (by simpa using ew) ⟨rfl,fin⟩) hs
theorem Inv.lst{O:List (Addr×Obj)}{U:St}{H:Hp}{s:Shared}{p:Addr}{xs:List V}(I:Inv X O U H s)(h:H p=some (.lst xs)):
 ∃(its:List Value) (n:Nat),Vals xs its/\s.heap.get? p=some { cls:=.type "list",data:=.seq its.toArray n }/\xs.length<=sizeLine:=by
 obtain⟨z,its,n,r,e⟩:=I.hok p _ h;exact⟨its,n,r,e,z⟩
def Ma(lo hi:Option Int)(n:Nat):(sliceBounds lo hi none n).1=((HT.sIx n 0 lo:Nat):Int)/\(sliceBounds lo hi none n).2.1=((HT.sIx n n hi:Nat):Int)/\(sliceBounds lo hi none n).2.2=1:=by
 refine⟨?_,?_,rfl⟩
 .cases lo with
  |none=>simp[sliceBounds,HT.sIx]
  |some i=>
   simp only[sliceBounds,HT.sIx,Option.getD_none,show(1:Int)>0 by decide,jB];by_cases h:i<0
   .simp only[h,jB]<;>omega
   .simp only[h,km]<;>omega
 .cases hi with
  |none=>simp[sliceBounds,HT.sIx]
  |some i=>
   simp only[sliceBounds,HT.sIx,Option.getD_none,show(1:Int)>0 by decide,jB];by_cases h:i<0
   .simp only[h,jB]<;>omega
   .simp only[h,km]<;>omega
def LY(its:List Value)(lo hi:Option Int):slicePick its.toArray lo hi none=((its.drop (HT.sIx its.length 0 lo)).take (HT.sIx its.length its.length hi-HT.sIx its.length 0 lo)).toArray:=by
 obtain⟨h1,h2,h3⟩:=Ma lo hi its.toArray.size;unfold slicePick;rw[h1,h2,h3];simp only[sliceRange_one,pick_run,jd]<;>rfl
def Pu(K:Frag):V->Option Int->Option Int->Hp->VK->Prop:=λx lo hi H Q=>∃a xs,x=.ref a/\SqL K H a xs/\∀p,H p=none->Q (.ref p) (upd H p (.lst (GU xs lo hi)))
def WY:SlR X (Pu X.K):=by
 intro O s U H x v vl vu lo hi sl Q I rx hs pl pu h;obtain⟨a,xs,rfl,hx,q⟩:=h;cases rx;obtain⟨its,r,ht,hz⟩:=I.list hx;have hlen:=r.length;refine⟨"list",_,slot_list_getitem.lookup,ht.isList.typeIs,?_⟩;refine wpAny_getItem_list_slice ht.isList hs pl pu .none (by simp) ?_ (by rw[jd]<;>omega);rw[LY,<- hlen];refine⟨.ref s.heap.objs.size,_,I.laid (t':=s.toks) (o:=.lst (GU xs lo hi)) (λb ob q=>Heap.get?_push_of_some _ q) (j9 _) ?_,rfl,q _ (I.hok.fresh (j9 _))⟩;exact⟨jf (J0 xs lo hi) hz,_,0,(r.drop (HT.sIx xs.length 0 lo)).take (HT.sIx xs.length xs.length hi-HT.sIx xs.length 0 lo),Heap.get?_push_size _ rfl⟩
def Nq:CallR X (.builtin "len") (λxs H Q=>∃p ys,xs=[.ref p]/\(SqL X.K H p ys∨SqT X.K H p ys)/\Q (.int ys.length) H):=by
 intro O s U H xs us Q I r h;obtain⟨p,ys,rfl,hq,q⟩:=h;obtain⟨u,rfl,rx⟩:=CU r;cases rx;have hn:=Jw;rcases hq with hq|hq
 .obtain⟨its,r',pl,hz⟩:=I.list hq;have hlen:=r'.length;exact Calls.call_len_list pl.isList (by simp only[jd]<;>omega) ⟨.int ys.length,H,I.tok _,⟨s.toks+1,by rw[jd,hlen]⟩,q⟩
 .obtain⟨its,r',pl,hz⟩:=I.tuple hq;have hlen:=r'.length;exact len_tuple pl (by simp only[jd]<;>omega) ⟨.int ys.length,H,I.tok _,⟨s.toks+1,by rw[jd,hlen]⟩,q⟩
def CallR.or{f:Value}{r r':List V->Hp->VK->Prop}(h:CallR X f r)(h':CallR X f r'):CallR X f (λxs H Q=>r xs H Q∨r' xs H Q):=by
 intro O s U H xs us Q I rs q;rcases q with q|q
 .exact h O s U H xs us Q I rs q
 .exact h' O s U H xs us Q I rs q
def Np:CallR X (.type "list") (λxs H Q=>∃p ys,xs=[.ref p]/\(SqL X.K H p ys∨SqT X.K H p ys)/\∀l,H l=none->Q (.ref l) (upd H l (.lst ys))):=by
 intro O s U H xs us Q I r h;obtain⟨p,ys,rfl,hq,q⟩:=h;obtain⟨u,rfl,rx⟩:=CU r;cases rx;have fin:∀(its:List Value),Vals ys its->ys.length<=sizeLine->∀(h':Heap) (c':Nat),(∀b o',s.heap.get? b=some o'->h'.get? b=some o') ->
  h'.get? s.heap.objs.size=some { cls:=.type "list",dict:=none,data:=.seq its.toArray c',slots:=#[] }->EP X O U Q (.ref s.heap.objs.size) { s with heap:=h' }:=λits r' hz h' c' kp e=>
  ⟨.ref s.heap.objs.size,_,I.laid (t':=s.toks) kp (j9 _) (show ObjOk X.prog X.w _ h' _ (.lst ys)from⟨hz,its,c',r',e⟩),rfl,q _ (I.hok.fresh (j9 _))⟩
 rcases hq with hq|hq
 .obtain⟨its,r',pl,hz⟩:=I.list hq;have hlen:=r'.length;obtain⟨o,ho,hc,n,hd⟩:=pl.isList;exact call_list_seq p (.inl rfl) ho hc hd (λh' c' kp e=>fin its r' hz h' c' kp e) (by simp only[jd]<;>omega)
 .obtain⟨its,r',pl,hz⟩:=I.tuple hq;have hlen:=r'.length;obtain⟨o,ho,hc,n,hd⟩:=pl;exact call_list_seq p (.inr rfl) ho hc hd (λh' c' kp e=>fin its r' hz h' c' kp e) (by simp only[jd]<;>omega)
def Lk:CallR X (.type "tuple") (λxs H Q=>∃p ys,xs=[.ref p]/\((SqL X.K H p ys/\∀l,H l=none->Q (.ref l) (upd H l (.tup ys)))∨(SqT X.K H p ys/\Q (.ref p) H))):=by
 intro O s U H xs us Q I r h;obtain⟨p,ys,rfl,h⟩:=h;obtain⟨u,rfl,rx⟩:=CU r;cases rx;rcases h with⟨hq,q⟩|⟨hq,q⟩
 .obtain⟨its,r',pl,hz⟩:=I.list hq;have hlen:=r'.length;refine call_tuple_list pl.isList (λh' kp=>?_) (by simp only[jd]<;>omega);have I1:Inv X O U H { s with heap:=h' }:=I.kept (t':=s.toks) kp;have I2:Inv X O U (upd H h'.objs.size (.tup ys)) { s with heap:=h'.push { cls:=.type "tuple",data:=.seq its.toArray } }:=
   I1.laid (t':=s.toks) (λb o e=>Heap.get?_push_of_some _ e) (j9 _) (show ObjOk X.prog X.w _ _ _ (.tup ys)from⟨hz,its,r',IsTupD.new _ _⟩)
  exact⟨.ref h'.objs.size,_,I2,rfl,q _ (I1.hok.fresh (j9 _))⟩
 .obtain⟨its,r',pl,hz⟩:=I.tuple hq;exact call_tuple_same pl ⟨.ref p,H,I,rfl,q⟩
def tyV(K:Frag)(T:String)(x:V)(H:Hp):Prop:=match x with
 |.str _=>T="str"
 |.int _=>T="int"
 |.ref p=>(T="list"/\∃xs,SqL K H p xs)∨(T="tuple"/\∃o,K.lookup p=some o/\o.cls=.type "tuple"/\o.dict=none) ∨
  (T="dict"/\((∃kvs,H p=some (.dK kvs))∨∃kvs,H p=some (.dT kvs)))∨(T="set"/\∃S n,H p=some (.set S n))
 |_=>False
def ZF{O:List (Addr×Obj)}{U:St}{H:Hp}{s:Shared}{T:String}{x:V}{v:Value}(I:Inv X O U H s)(r:RelV x v)(ty:tyV X.K T x H):
 s.TypeIs v T/\∀a,v=.ref a->∃ob,s.heap.get? a=some ob/\ob.dict=none:=by
 cases x with
 |str z=>
  obtain⟨t,rfl⟩:=r;cases(show T="str" from ty);exact⟨typeIs_str s z t,λ_ e=>nomatch e⟩
 |int i=>
  obtain⟨t,rfl⟩:=r;cases(show T="int" from ty);exact⟨typeIs_int s i t,λ_ e=>nomatch e⟩
 |ref p=>
  cases r;rcases ty with⟨rfl,xs,hq⟩|⟨rfl,o,hk,hc,hd⟩|⟨rfl,hk⟩|⟨rfl,S,n,hk⟩
  .obtain⟨its,_,pl,_⟩:=I.list hq;refine⟨pl.isList.typeIs,λa e=>?_⟩;cases e;obtain⟨o,n,e,c,hd,_⟩:=pl;exact⟨o,e,hd⟩
  .refine⟨⟨o,I.kIn p o hk,hc⟩,λa e=>?_⟩;cases e;exact⟨o,I.kIn _ o hk,hd⟩
  .have z:∃o,s.heap.get? p=some o/\o.ExactDict:=by
    rcases hk with⟨kvs,hk⟩|⟨kvs,hk⟩
    .obtain⟨_,_,_,_,o,_,_,e,ex,_⟩:=I.hok p _ hk;exact⟨o,e,ex⟩
    .obtain⟨_,_,_,_,o,_,_,e,ex,_⟩:=I.hok p _ hk;exact⟨o,e,ex⟩
   obtain⟨o,e,ex⟩:=z;refine⟨⟨o,e,ex.1⟩,λa e2=>?_⟩;cases e2;exact⟨o,e,ex.2.1⟩
  .obtain⟨o,_,_,_,e,ex,_⟩:=I.hok p _ hk;refine⟨⟨o,e,ex.1⟩,λa e2=>?_⟩;cases e2;exact⟨o,e,ex.2.1⟩
 |_=>exact False.elim ty
def tBM(K:Frag)(T:String)(r:V->List V->Hp->VK->Prop)(to:TE)(t:TA):TE:=λU H Q=>to U H λx H1=>tyV K T x H1/\t U H1 λxs H2=>r x xs H2 Q
variable{o e:Expr}{es:List Expr}{to:TE}{t:TA}{name:Str}{apos cpos:Pos}{T id:String}{r:V->List V->Hp->VK->Prop}
def e9(pa:PlainAttrs T)(slot:Slot T name id)(hty:typeOf (.builtin id)=pure (.type "method_descriptor"))(hm:MtR X id r)(ho:PE X o to)(ha:PA X (e::es) t)
 (hbase:attributeBase o name X.env (eval o X.env)=eval o X.env:=by rfl)
 (hfew:((backTo cpos (starEach (e::es) X.env)).all (λx=>!x.1)&&(backToKw cpos (keywordEach [] X.env)).all (λx=>x.1.isSome)
  && decide ((e::es).length+([]:List Keyword).length+(if([]:List Keyword).isEmpty then 0 else 1)<30))=true:=by rfl)
 (hline:(apos.endLine==cpos.line)=true:=by rfl) (hs:starEach (e::es) X.env=(false,eval e X.env)::starEach es X.env:=by rfl) (hplain:(backTo cpos (starEach es X.env)).any (·.1)=false:=by rfl):
 PE X (.Call (.Attribute o name apos) (e::es) [] cpos) (tBM X.K T r to t):=by
 intro O s U H Q I h;refine wpAny_Call_method_late hbase hfew hline rfl (thn (ho O s U H _ I h) λv s1 ⟨x,H1,I1,r1,ty,q1⟩=>?_);obtain⟨h1,h2⟩:=ZF I1 r1 ty;refine⟨T,id,pa,slot,hty,h1,h2,?_⟩;have hA:=ha cpos O s1 U H1 _ I1 q1;rw[hs]at hA ⊢;refine Calls.callWith_builtin (by show(false||(backTo cpos (starEach es X.env)).any (·.1))=false;rw[hplain]<;>rfl) (Calls.evalArgs_plain ?_);exact thn hA λus s2 ⟨vs,H2,I2,r2,q2⟩=>hm O s2 U H2 x vs v us Q I2 r1 r2 q2
end
def MtM(X:Cx)(id:String)(r:V->List V->Hp->VK->Prop):Prop:=
 ∀(O:List (Addr×Obj)) (s:Shared) (U:St) (H:Hp) (x:V) (xs:List V) (v:Value) (us:List Value) (Q:VK),Inv X O U H s->RelV x v->Vals xs us->r x xs H Q ->
   wpAny (model X.prog X.w) X.A (call (.builtin id) (v::us)) (EP X O U Q) X.xe s
def Vals.one:∀{x:V} {us:List Value},Vals [x] us->∃u,us=[u]/\RelV x u
 |_,_,.cons r .nil=>⟨_,rfl,r⟩
section
variable{X:Cx}{O:List (Addr×Obj)}{U:St}{H:Hp}{s:Shared}{l b:Addr}{xs ys zs:List V}
def Inv.lset{its its':List Value}{n:Nat}{f:Array Value->Array Value}{t':Nat}(I:Inv X O U H s)(hH:H l=some (.lst xs))
 (e:s.heap.get? l=some { cls:=.type "list",data:=.seq its.toArray n }) (hf:f its.toArray=its'.toArray) (hv:Vals ys its') (hz:ys.length<=sizeLine):
 Inv X O U (upd H l (.lst ys)) { s with heap:=s.heap.update l (Obj.mapSeq f),toks:=t' }:=by
 have q:=PySem.IsL.update e f;rw[hf]at q;refine I.write (x:=l) (e:=l) (by rw[hH];exact trivial) (.inl rfl) (λb' u hb hu=>(Heap.get?_update_other s.heap (Obj.mapSeq f) (Ne.symm hb)).trans hu) ⟨_,q⟩ ?_;exact⟨hz,its',_,hv,q⟩
def Inv.lnew{its:List Value}{t':Nat}(I:Inv X O U H s)(hv:Vals ys its)(hz:ys.length<=sizeLine):
 Inv X O U (upd H s.heap.objs.size (.lst ys)) { s with heap:=s.heap.push { cls:=.type "list",data:=.seq its.toArray },toks:=t' }:=
 I.laid (λ_ _ q=>Heap.get?_push_of_some _ q) (j9 _) ⟨hz,its,0,hv,Heap.get?_push_size _ rfl⟩
theorem Inv.fresh(I:Inv X O U H s):H s.heap.objs.size=none:=I.hok.fresh (j9 _)
def Inv.lstM(I:Inv X O U H s)(hH:H l=some (.lst xs)):xs.length<=sizeLine/\∃(its:List Value) (n:Nat),Vals xs its/\xs.length=its.length/\s.heap.get? l=some { cls:=.type "list",data:=.seq its.toArray n }:=by
 obtain⟨z,its,n,r,e⟩:=I.hok l _ hH;exact⟨z,its,n,r,r.length,e⟩
def Ug{n:Nat}(h:n<=sizeLine):Builtin.List.listTooLong n=false:=by
 unfold Builtin.List.listTooLong;exact jJ (by omega)
end
section
variable{X:Cx}
def Of:V->List V->Hp->VK->Prop:=λx vs H Q=>∃l xs y,x=.ref l/\vs=[y]/\H l=some (.lst xs)/\xs.length<sizeLine/\Q .non (upd H l (.lst (xs++[y])))
def LD:MtM X "list.append" Of:=by
 intro O s U H x vs v us Q I rx rv h;obtain⟨l,xs,y,rfl,rfl,hH,hz,q⟩:=h;cases rx;obtain⟨u,rfl,ru⟩:=rv.one;obtain⟨z,its,n,r,hl,e⟩:=I.lstM hH;refine call_meets F.slot_list_append ⟨_,e,rfl⟩ F.entry_list_append (F.args_list_append_2 _ _) (PySem.list_append l its.toArray n u (by rw[jd];omega)) ⟨e,?_⟩;refine⟨.non,_,I.lset (its':=its++[u]) hH e (by simp) (r.append (.cons ru .nil)) ?_,rfl,q⟩;rw[jL,List.length_singleton];omega
def XF:V->List V->Hp->VK->Prop:=λx vs H Q=>∃l b xs zs,x=.ref l/\vs=[.ref b]/\H l=some (.lst xs)/\H b=some (.lst zs)/\xs.length+zs.length<=sizeLine/\Q .non (upd H l (.lst (xs++zs)))
def fF:MtM X "list.extend" XF:=by
 intro O s U H x vs v us Q I rx rv h;obtain⟨l,b,xs,zs,rfl,rfl,hH,hB,hz,q⟩:=h;cases rx;obtain⟨u,rfl,ru⟩:=rv.one;cases ru;obtain⟨z,its,n,r,hl,e⟩:=I.lstM hH;obtain⟨z2,its2,n2,r2,hl2,e2⟩:=I.lstM hB;have hsz:its.toArray.size+its2.toArray.size<=sizeLine:=by rw[jd,jd];omega
 have hlong:¬ (!its.toArray.isEmpty&&Builtin.List.listTooLong (its.toArray.size+its2.toArray.size))=true:=by
  rw[Ug hsz,Bool.and_false];exact Bool.false_ne_true
 refine call_meets F.slot_list_extend ⟨_,e,rfl⟩ F.entry_list_extend (F.args_list_extend_2 _ _)
  (AutoSeq1.list_extend_list_list_0 l its.toArray n b its2.toArray n2 hlong (by rw[jd];omega) (by omega)) ⟨e,e2,?_⟩
 refine⟨.non,_,I.lset (its':=its++its2) hH e (by simp) (r.append r2) ?_,rfl,q⟩;rw[jL];omega
def UA:R2:=λx y H Q=>∃l b xs zs,x=.ref l/\y=.ref b/\H l=some (.lst xs)/\H b=some (.lst zs)/\xs.length+zs.length<=sizeLine/\∀p,H p=none->Q (.ref p) (upd H p (.lst (xs++zs)))
def bc:OpR X (binaryOp .Add) UA:=by
 intro O s U H x y v u Q I rx ry h;obtain⟨l,b,xs,zs,rfl,rfl,hH,hB,hz,q⟩:=h;cases rx;cases ry;obtain⟨z,its,n,r,hl,e⟩:=I.lstM hH;obtain⟨z2,its2,n2,r2,hl2,e2⟩:=I.lstM hB;refine PySem.P.add_list e e2 ?_ (by rw[jd,jd];omega);have ea:its.toArray++its2.toArray=(its++its2).toArray:=by simp
 rw[ea];exact⟨.ref _,_,I.lnew (t':=s.toks) (r.append r2) (by rw[jL];omega),rfl,q _ I.fresh⟩
end
end L2
namespace Att
open PySem PySem.W PySem.Calls PyProof.Rows
def K0{P:Params}{h:Heap}:∀(ns:List Int) (vs:List Value),WellAll P h vs (ns.map WData.int)->IntsAre vs ns:=by
 intro ns
 induction ns with
 |nil=>
  intro vs w;rw[map_nil]at w;cases w;exact .nil
 |cons n ns ih=>
  intro vs w;rw[jc]at w;cases w with
  |cons a b=>
   cases a;exact .cons _ _ (ih _ b)
def RW{l:OpenLaw}{n:Nat}(hn:l.most=some n){P:Params}{h:Heap}{args:List WData}{vals:List Value}
 (hpre:l.row.toRowW.claim.pre args=true) (hwl:WellAll P h vals args):
 ∃a vs ns,vals=[Value.ref a]/\args=[WData.list (ns.map WData.int)]/\h.get? a=some { cls:=.type "list",data:=.seq vs.toArray }/\IntsAre vs ns/\ns.length<=n:=by
 have hsh:WShape.hasAll [] args [.list .int]=true:=(pre_splitW hpre).1;have hc:l.pre.holds [] { args:=args }=true:=(pre_splitW hpre).2;obtain⟨d,r,rfl,h1,h2⟩:=hasAllW_cons hsh;obtain rfl:=hasAllW_nil h2;obtain⟨xs,rfl,h3⟩:=hasW_list h1;obtain⟨ns,rfl⟩:=items_int h3;have hlen:ns.length<=n:=by
  unfold OpenLaw.pre at hc;have h4:(WTm.not (.lt (.lit (.int (n:Int))) (.len (.arg 0)))).holds [] { args:=[.list (ns.map .int)] }=true:=by
   have h4:=(holds_andW hc).1;rw[hn]at h4;exact h4
  have h5:=condW_of h4 (w_not (w_lt w_lit (w_len_list (w_arg rfl))));rw[jo]at h5;refine Nat.le_of_not_lt λq=>?_;have q':(n:Int)<((ns.length:Nat):Int):=by omega
  first
   |(rw[jX q']at h5;exact absurd h5 (by decide))
   |(simp at h5;omega)
 cases hwl with
 |cons w1 w2=>
  cases w2;cases w1 with
  |list ho hall=>exact⟨_,_,ns,rfl,rfl,ho,K0 ns _ hall,hlen⟩
def S9(l:OpenLaw)(args:List WData):l.row.toRowW.claim.post args (.bool true) args=true:=
 postW_of (r:=l.row.toRowW) (X:=(true==true))
  (show WShape.has [] (.bool true) .bool=true by first|rfl|decide|simp[WShape.has,WShape.arms,WShape.armsAll])
  (show(WTm.eq .res (.lit (.bool true))).value [] { args:=args,res:=some (.bool true),after:=args }=some (.bool (true==true))from w_eq_bool (w_res rfl) w_lit) rfl
def attach_call{l:OpenLaw}{n:Nat}{q:Program}{loose:List Str}{XP:(Str->Option Value)->Heap->Prop}{YP:World->Heap->Prop}{d:DefRec}
 (hn:l.most=some n) (hdf:d.params.defaults=[])
 (call:∀(w:World) (s₀ s₁:Shared) (mg mb:Str->Option Value) (fa:Addr) (o:Obj) (pm cd doc:Value) (a:Addr) (vs:List Value) (ns:List Int),
  Ground q loose [] XP w s₀ mg mb s₁.heap->YP w s₁.heap ->
  s₁.heap.get? fa=some o->o.data=.func (docDef d.name d.params d.body d.scope pm cd doc)->s₁.heap.CodeRec cd d.name->mg d.name=some (.ref fa) ->
  s₁.heap.get? a=some { cls:=.type "list",data:=.seq vs.toArray }->IntsAre vs ns->ns.length<=n->s₁.gens=#[] ->
  codeAny (model l.prog w) callerA (.call (.ref fa) ⟨[.ref a],[]⟩) (λr s'=>r=.ok (.ret (.bool true))/\OldK s₁.heap s'.heap/\s'.os=s₁.os/\AllBare s'.gens) s₁):
 WalkO q loose XP YP l.row.toRowW d [] (λf vs=>PySem.call f vs):=by
 intro w s₀ s₁ mg mb G Y fa o pm cd doc dV kV ho hd hcd hD hmg hg args vals as hpre hlay hrd hwl hlo;obtain rfl:dV=.none:=Dflts.none hD hdf;obtain rfl:kV=.none:=Dflts.noKw hD;obtain⟨a,vs,ns,rfl,rfl,hobj,hints,hlen⟩:=RW hn hpre hwl;refine enter_call (jT (call w s₀ s₁ mg mb fa o pm cd doc a vs ns G Y ho (fd_plain hd) hcd hmg hobj hints hlen hg) λr s' hq=>?_);obtain⟨rfl,h2,h3,h4⟩:=hq;exact⟨.inl ⟨.bool true,.bool true,[],rfl,λ_=>rfl,.bool true,S9 l _,λ_=>⟨List.Pairwise.nil,λ_ hm=>(nomatch hm)⟩⟩,h2,h3,h4⟩
end Att
namespace L2
open PySem PySem.Spec PyProof.Rows
theorem Ku:∀{vs:List Value} {ns:List Int},IntsAre vs ns->Vals (ns.map V.int) vs
 |_,_,.nil=>.nil
 |_,_,.cons n t h=>.cons ⟨t,rfl⟩ (Ku h)
def Cr(s:Stmt):Arguments:=match s with
 |.FunctionDef _ a _ _ _ _ _ _ _ _=>a
 |_=>{ posonlyargs:=[],args:=[],vararg:=none,kwonlyargs:=[],kw_defaults:=[],kwarg:=none,defaults:=[] }
def BE(s:Stmt):List Stmt:=match s with
 |.FunctionDef _ _ b _ _ _ _ _ _ _=>b
 |_=>[]
def AA(s:Stmt):Scope:=match s with
 |.FunctionDef _ _ _ _ _ _ sc _ _ _=>sc
 |_=>{ kind:=.function,names:=[],isGenerator:=false,isCoroutine:=false }
abbrev CX0:CXT:=λ_ _ _ _ _ _=>False
abbrev E0:XK:=λ_ _ _=>False
def eB{X:Cx}:O4 CX0 X E0:=λ_ _ _ _ _ _ _ h=>h.elim
structure Fun(K:Frag)(x qual:Str)(st:Stmt)(f:Addr)(fd:FuncData):Prop where
 ex:∃(oc:Value) (od:Option Addr) (kV doc pm:Value) (an:Option Addr) (cdv ct:Value) (osl:Array (Option Value)),
  fd=fnOf x qual (Cr st) (BE st) (AA st) .none kV doc pm an cdv ct/\K.lookup f=some ⟨oc,od,.func fd,osl⟩/\codeIn K cdv qual=true
 kp:keepIn K (.ref f)=true
section
variable{P:Program}{w:World}{K:Frag}{mg:Str->Option Value}{base:Heap}
def Fun.ok{x qual:Str}{st:Stmt}{f:Addr}{fd:FuncData}{N ps:List Str}{k:Nat}{sp:Sp}(F:Fun K x qual st f fd)(S:FnScope N ps (AA st))(len:∀vs H Q E,sp vs H Q E->vs.length=ps.length)
 (hbody:∀(cdv:Value) (A:Around) (outer:List Env) (s:Shared) (H:Hp) (vs:List V) (Q:VK) (E:XK),Room k (A.deeper (envOfC qual (AA st) s.heap.objs.size f cdv))->sp vs H Q E ->
  ∃t,PSs (Dq CX0 P w K mg base N qual (AA st) f cdv A outer s H E).nox (BE st) t/\t { nx:=λ_ H'=>Q .non H',rt:=Q } (De N vs) H):FnOk P w K mg base CX0 (k+1) f fd ps sp:=by
 obtain⟨oc,od,kV,doc,pm,an,cdv,ct,osl,rfl,lk,hcd⟩:=F.ex;refine Qa lk hcd S len λA outer s H vs Q E hr hsp=>?_;obtain⟨t,h,q⟩:=hbody cdv A outer s H vs Q E hr hsp;exact⟨t,h.nox,q⟩
def Fun.binds{x qual:Str}{st:Stmt}{f:Addr}{fd:FuncData}{ps:List Str}(F:Fun K x qual st f fd)
 (h:∀(kV doc pm:Value) (an:Option Addr) (cdv ct:Value) (us:List Value),us.length=ps.length->bindArgs (fnOf x qual (Cr st) (BE st) (AA st) .none kV doc pm an cdv ct) ⟨us,[]⟩=pure (ps.zip us)):Binds K fd ps []:=by
 obtain⟨oc,od,kV,doc,pm,an,cdv,ct,osl,rfl,lk,hcd⟩:=F.ex;exact .all (h kV doc pm an cdv ct)
def Sb{x qual:Str}{st:Stmt}{f:Addr}{oc:Value}{od an:Option Addr}{osl:Array (Option Value)}{kV doc pm cdv ct:Value}(l:K.lookup f=some ⟨oc,od,.func (fnOf x qual (Cr st) (BE st) (AA st) .none kV doc pm an cdv ct),osl⟩)
 (c:codeIn K cdv qual=true) (k:keepIn K (.ref f)=true):Fun K x qual st f (fnOf x qual (Cr st) (BE st) (AA st) .none kV doc pm an cdv ct):=⟨⟨oc,od,kV,doc,pm,an,cdv,ct,osl,rfl,l,c⟩,k⟩
end
def W0{A:Around}{k:Nat}(hr:Room k A):A.units+1<cLine:=Nat.lt_of_le_of_lt (Nat.add_le_add_left (by decide:1<=64) _) hr.units
def RV{n:Nat}(h:n<=1000):n<sizeLine:=Nat.lt_of_le_of_lt h (by decide)
section
variable{κ:Type}[DecidableEq κ]
def EM(kvs:List (κ×V))(k:κ):Option V:=(kvs.find? λkv=>decide (kv.1=k)).map (·.2)
def Cz(kvs:List (κ×V))(k:κ)(v:V):List (κ×V):=
 if(kvs.any λkv=>decide (kv.1=k))=true then kvs.map (λkv=>if kv.1=k then(kv.1,v)else kv)else kvs++[(k,v)]
def Fj{p:κ×V}{k:κ}(e:p.1=k):EM (p::r) k=some p.2:=by simp[EM,jF,e]
def Fk{p:κ×V}{k:κ}(e:¬ p.1=k):EM (p::r) k=EM r k:=by simp[EM,jF,e]
theorem MN(k:κ):∀kvs:List (κ×V),(kvs.any λkv=>decide (kv.1=k))=(EM kvs k).isSome
 |[]=>rfl
 |p::r=>by
  rw[any_cons];by_cases e:p.1=k
  .simp only[Fj e,jX e,Bool.true_or,Option.isSome_some]
  .rw[Fk e,jJ e,Bool.false_or];exact MN k r
def GR(kvs:List (κ×V))(k:κ)(v:V):(Cz kvs k v).length<=kvs.length+1:=by
 unfold Cz;split
 .rw[jo];omega
 .rw[jL,jK,length_nil];omega
def RelO.isSome_eq(r:RelO o u):o.isSome=u.isSome:=by
 cases o with
 |none=>cases u with
  |none=>rfl
  |some _=>exact(show False from r).elim
 |some _=>cases u with
  |none=>exact(show False from r).elim
  |some _=>rfl
def KV.val(r:KV kvs vs)(k:κ):RelO (EM kvs k) (valueAt vs k):=by
 unfold KV at r
 induction r with
 |nil=>exact True.intro
 |@cons p q ps qs h t ih=>
  obtain⟨h1,h2⟩:=h;by_cases e:p.1=k
  .have e':q.1=k:=h1.symm.trans e;have b:valueAt (q::qs) k=some q.2:=by simp[valueAt,jF,e']
   rw[Fj e,b];exact h2
  .have e':¬ q.1=k:=λz=>e (h1.trans z);have b:valueAt (q::qs) k=valueAt qs k:=by simp[valueAt,jF,e']
   rw[Fk e,b];exact ih
theorem KV.any(r:KV kvs vs)(k:κ):(kvs.any λkv=>decide (kv.1=k))=vs.any λkv=>decide (kv.1=k):=by
 unfold KV at r
 induction r with
 |nil=>rfl
 |cons h t ih=>rw[any_cons,any_cons,ih,h.1]
def KV.repl(r:KV kvs vs)(k:κ)(ry:RelV y u):
 KV (kvs.map λkv=>if kv.1=k then(kv.1,y)else kv) (vs.map λkv=>if kv.1=k then(kv.1,u)else kv):=by
 unfold KV at r ⊢
 induction r with
 |nil=>exact .nil
 |@cons p q ps qs h t ih=>
  rw[jc,jc];refine .cons ?_ ih;obtain⟨h1,h2⟩:=h;by_cases e:p.1=k
  .rw[j6 e,j6 (h1.symm.trans e)];exact⟨h1,ry⟩
  .rw[j7 e,j7 (λz=>e (h1.trans z))];exact⟨h1,h2⟩
def KV.put(r:KV kvs vs)(k:κ)(ry:RelV y u):KV (Cz kvs k y) (stored vs k u):=by
 unfold Cz stored;rw[r.any k];by_cases e:(vs.any λkv=>decide (kv.1=k))=true
 .rw[j6 e,j6 e];exact r.repl k ry
 .rw[j7 e,j7 e];exact Paired.snoc r ⟨rfl,ry⟩
theorem KV.length(r:KV kvs vs):kvs.length=vs.length:=Paired.length r
end
def M5(r:RelV (kV k) u):(BP P w).is k u=true:=by
 cases k with
 |inl i=>obtain⟨t,e⟩:=(show ∃t,u=Value.int i t from r);subst e;exact OD P w i t
 |inr x=>obtain⟨t,e⟩:=(show ∃t,u=Value.str x t from r);subst e;exact OC P w x t
theorem LK:∀{ks:List Key} {us:List Value},Vals (ks.map kV) us->ItemsAre (BP P w) ks us
 |[],_,r=>by rw[map_nil]at r;cases r;exact .nil
 |k::ks,_,r=>by
  rw[jc]at r;cases r with
  |cons h t=>exact .cons (M5 h) (LK t)
abbrev KT(H:Hp):List (List Key×V)->List (List Key×Addr×Value)->Prop:=Paired λp q=>p.1=q.1/\H q.2.1=some (.tup (p.1.map kV))/\RelV p.2 q.2.2
def KT.val(r:KT H kvs xs)(k:List Key):RelO (EM kvs k) ((atKey xs k).map (·.2)):=by
 induction r with
 |nil=>exact True.intro
 |@cons p q ps qs h t ih=>
  obtain⟨h1,_,h2⟩:=h;by_cases e:p.1=k
  .have e':q.1=k:=h1.symm.trans e;have b:atKey (q::qs) k=some q.2:=by simp[atKey,jF,e']
   rw[Fj e,b];exact h2
  .have e':¬ q.1=k:=λz=>e (h1.trans z);have b:atKey (q::qs) k=atKey qs k:=by simp[atKey,jF,e']
   rw[Fk e,b];exact ih
def KT.repl(r:KT H kvs xs)(k:List Key)(ry:RelV y u):
 KT H (kvs.map λkv=>if kv.1=k then(kv.1,y)else kv) (xs.map (putAt k u)):=by
 induction r with
 |nil=>exact .nil
 |@cons p q ps qs h t ih=>
  rw[jc,jc];refine .cons ?_ ih;obtain⟨h1,h2,h3⟩:=h;unfold putAt;by_cases e:p.1=k
  .rw[j6 e,j6 (h1.symm.trans e)];exact⟨h1,h2,ry⟩
  .rw[j7 e,j7 (λz=>e (h1.trans z))];exact⟨h1,h2,h3⟩
def KT.put(r:KT H kvs xs)(k:List Key)(hb:H b=some (.tup (k.map kV)))(ry:RelV y u):
 KT H (Cz kvs k y) (storedH xs k b u):=by
 have e:(kvs.any λkv=>decide (kv.1=k))=(atKey xs k).isSome:=by
  rw[MN,(r.val k).isSome_eq,Option.isSome_map]
 unfold Cz storedH;rw[e];by_cases q:(atKey xs k).isSome=true
 .rw[j6 q,j6 q];exact r.repl k ry
 .rw[j7 q,j7 q];exact Paired.snoc r ⟨rfl,hb,ry⟩
def KT.keeps(r:KT H kvs xs)(ht:∀b ys,H b=some (.tup ys)->H' b=some (.tup ys)):KT H' kvs xs:=
 Paired.mapP r λ_ _ z=>⟨z.1,ht _ _ z.2.1,z.2.2⟩
section
def Vg(ok:HOk P w H h)(e:Rd H a u):ObjOk P w H h a u:=e.ok ok
def Qe(ok:HOk P w H h)(e:Rd H a (.dK kvs)):kvs.length<=sizeLine/\(a==sysModules)=false/\∃vs,KV kvs vs/\h.DictOf (BP P w) a vs:=
 show ObjOk P w H h a (.dK kvs)from Vg ok e
def W5(ok:HOk P w H h)(e:H a=some (.dK kvs)):kvs.length<=sizeLine/\(a==sysModules)=false/\∃vs,KV kvs vs/\h.DictOf (BP P w) a vs:=Qe ok (.inl e)
def NM{ks:List Key}(ok:HOk P w H h)(e:H a=some (.tup (ks.map kV))):(tupleKind (BP P w)).is h ks a:=by
 obtain⟨_,its,r,o,h1,h2,⟨n,h3⟩,_⟩:=(show ObjOk P w H h a (.tup (ks.map kV))from ok a _ e)
 exact⟨o,its.toArray,n,h1,h2,h3,by simpa using LK r⟩
def Qd(ok:HOk P w H h)(e:Rd H a (.dT kvs)):kvs.length<=sizeLine/\(a==sysModules)=false /\
 ∃xs,KT H kvs xs/\h.DictOfH (tupleKind (BP P w)) a xs:=by
 obtain⟨z,y,xs,r,o,es,ep,h1,h2,h3,h4,h5⟩:=(show ObjOk P w H h a (.dT kvs)from Vg ok e)
 refine⟨z,y,xs,r,o,es,ep,h1,h2,h3,h4,λx hx=>?_,h5⟩;have all:∀{l:List (List Key×V)} {m:List (List Key×Addr×Value)},KT H l m->∀x∈m,(tupleKind (BP P w)).is h x.1 x.2.1:=by
  intro l m q
  induction q with
  |nil=>intro x hx;exact nomatch hx
  |@cons p q ps qs hq t ih=>
   intro x hx;rcases mem_cons.mp hx with e|hx
   .subst e;exact NM ok (by rw[<- hq.1];exact hq.2.1)
   .exact ih x hx
 exact all r x hx
def f8(ok:HOk P w H h)(e:H a=some (.dT kvs)):kvs.length<=sizeLine/\(a==sysModules)=false /\
 ∃xs,KT H kvs xs/\h.DictOfH (tupleKind (BP P w)) a xs:=Qd ok (.inl e)
end
def DGet(H:Hp)(a:Addr)(y:V)(r:Option V):Prop:=
 (∃kvs k,Rd H a (.dK kvs)/\y=kV k/\r=EM kvs k)∨∃kvs k b,Rd H a (.dT kvs)/\y=.ref b/\H b=some (.tup (k.map kV))/\r=EM kvs k
def DPut(H:Hp)(a:Addr)(y v:V)(H':Hp):Prop:=
 (∃kvs k,H a=some (.dK kvs)/\y=kV k/\kvs.length<sizeLine/\H'=upd H a (.dK (Cz kvs k v))) ∨
 ∃kvs k b,H a=some (.dT kvs)/\y=.ref b/\H b=some (.tup (k.map kV))/\kvs.length<sizeLine/\H'=upd H a (.dT (Cz kvs k v))
theorem DGet.k{H:Hp}{a:Addr}{kvs:List (Key×V)}{k:Key}(e:H a=some (.dK kvs)):DGet H a (kV k) (EM kvs k):=.inl ⟨kvs,k,.inl e,rfl,rfl⟩
theorem DPut.k{H:Hp}{a:Addr}{kvs:List (Key×V)}{k:Key}{v:V}(e:H a=some (.dK kvs))(hl:kvs.length<sizeLine):DPut H a (kV k) v (upd H a (.dK (Cz kvs k v))):=.inl ⟨kvs,k,e,rfl,hl,rfl⟩
section
variable{A:Around}{E:Value->Shared->Prop}
def Inv.big(I:Inv X O U H s):sysModules<s.heap.objs.size:=by
 have h:mainGlobals<s.heap.objs.size:=(I.mod.glob.keeps I.bk).lt;exact lt_trans (by decide) h
def Sn{Q:Value->Shared->Prop}(hu:A.units+1<cLine)(I:Inv X O U H s)(g:DGet H a y (some v))(ry:RelV y u)(h:∀w' s',Inv X O U H s'->RelV v w'->Q w' s'):
 wpAny (model X.prog X.w) A (getItem (.ref a) u) Q E s:=by
 rcases g with⟨kvs,k,e,ey,l⟩|⟨kvs,k,b,e,ey,eb,l⟩
 .subst ey;obtain⟨z,hd,vs,rel,dd⟩:=Qe I.hok e;obtain⟨w',hw,rw'⟩:=RelO.some_of (v:=v) (o:=valueAt vs k) (by rw[l];exact rel.val k);exact wpAny_getItem_of (M5 ry) dd.mapOf hw (h w' _ (I.tok _) rw')
 .subst ey;cases(show u=Value.ref b from ry);obtain⟨z,hd,xs,rel,dd⟩:=Qd I.hok e;obtain⟨w',hw,rw'⟩:=RelO.some_of (v:=v) (o:=(atKey xs k).map (·.2)) (by rw[l];exact rel.val k);obtain⟨p,hp,hp2⟩:=j4 hw;refine wpAny_getItem_heap (tupleKind_room_in1 hu) (NM I.hok eb) dd hp ?_;rw[hp2];exact h w' _ (I.tok _) rw'
def Km{t':Nat}(I:Inv X O U H s)(mu:Mut (H a))(hs:Heap.SameBut a s.heap h')(he:∃q,h'.get? a=some q)(new:ObjOk X.prog X.w (upd H a ob) h' a ob):
 Inv X O U (upd H a ob) { s with heap:=h',toks:=t' }:=
 I.write (x:=a) (e:=a) mu (.inl rfl) (λb q hb z=>(hs.2 b hb).trans z) he new
def Sj{h':Heap}{kvs:List (Key×V)}(z:kvs.length<=sizeLine)(hd:(a==sysModules)=false)(rel:KV kvs vs)(dd:h'.DictOf (BP P w) a vs):
 ObjOk P w H' h' a (.dK kvs):=⟨z,hd,vs,rel,dd⟩
def Sm{Q:Unit->Shared->Prop}(hu:A.units+1<cLine)(I:Inv X O U H s)(g:DPut H a y v H')(ry:RelV y u)(rv:RelV v r)(h:∀s',Inv X O U H' s'->Q () s'):
 wpAny (model X.prog X.w) A (setItem (.ref a) u r) Q E s:=by
 rcases g with⟨kvs,k,e,ey,l,eH⟩|⟨kvs,k,b,e,ey,eb,l,eH⟩
 .subst ey eH;obtain⟨z,hd,vs,rel,dd⟩:=W5 I.hok e;have hz:vs.length<=sizeLine:=by rw[<- rel.length];exact z
  have hl:(Cz kvs k v).length<=sizeLine:=by have:=GR kvs k v;omega
  refine wpAny_setItem_pairs (hsz:=hz) (M5 ry) dd λh' dd' hs=>h _ ?_;have he:∃q,h'.get? a=some q:=let ⟨q,_,_,hq,_⟩:=dd';⟨q,hq⟩
  exact Km I (by rw[e];exact True.intro) hs he (Sj hl hd (rel.put k rv) dd')
 .subst ey eH;cases(show u=Value.ref b from ry);obtain⟨z,hd,xs,rel,dd⟩:=f8 I.hok e;have hz:xs.length<=sizeLine:=by rw[<- Paired.length rel];exact z
  have hl:(Cz kvs k v).length<=sizeLine:=by have:=GR kvs k v;omega
  refine wpAny_setItem_heap (hsz:=hz) (tupleKind_room_in1 hu) (NM I.hok eb) dd λh' dd' hs=>h _ ?_;obtain⟨q,es,ep,hq,h2,h3,h4,_,h5⟩:=dd';refine Km I (by rw[e];exact True.intro) hs ⟨q,hq⟩ ⟨hl,hd,_,(rel.put k eb rv).keeps λc ys ec=>?_,q,es,ep,hq,h2,h3,h4,h5⟩;rw[AC (eJ ec e (λz=>nomatch z))];exact ec
end
def VQ(i:Expr):Prop:=∀ov iv,subscripted i false ov iv=operate [ov,iv] (getItem ov iv)
def WV{E:Value->Shared->Prop}{T id:String}{Q:Value->Shared->Prop}
 (hl:typeLookup (.type T) "__getitem__"=pure (some (.builtin id))) (hs:VQ slice)
 (h:wpAny (model prog w) A (eval value env) (λo s₁=>wpAny (model prog w) A (eval slice env) (λi s₂=>s₂.TypeIs o T/\wpAny (model prog w) A (getItem o i) Q E s₂) E s₁) E s):
 wpAny (model prog w) A (eval (.Subscript value slice pos) env) Q E s:=by
 refine Subscript_ (jn h (λo s₁ h₁=>jn h₁ (λi s₂ h₂=>?_) λ_ _ x=>x) λ_ _ x=>x);obtain⟨hT,h₂⟩:=h₂;unfold subscriptTail;refine j5 ?_;rw[getitemInPython_of_ne hT.not_modules];refine j5 (wpAny_specialOf hT hl ?_);have fin:wpAny (model prog w) A (subscripted slice false o i) (λr s₃=>wpAny (model prog w) A (letTemporaryGo value o r >>= λ_=>pure r) Q E s₃) E s₂:=by
  rw[hs o i];exact wpAny_operating (jn h₂ (λr s₃ h₃=>j5 (wpAny_letTemporaryGo (j8 h₃))) λ_ _ x=>x)
 first
  |exact j8 (j5 fin)
  |exact j5 (j8 (j5 fin))
  |exact j5 fin
def OG(I:Inv X O U H s)(g:DGet H a y o):s.TypeIs (.ref a) "dict":=by
 rcases g with⟨kvs,k,e,_,_⟩|⟨kvs,k,b,e,_,_,_⟩
 .obtain⟨_,_,vs,_,dd⟩:=Qe I.hok e;exact dd.typeIs
 .obtain⟨_,_,xs,_,dd⟩:=Qd I.hok e;exact dd.typeIs
def Pd(td ty:TE):TE:=λU H Q=>td U H λx H1=>ty U H1 λy H2=>∃a v,x=.ref a/\DGet H2 a y (some v)/\Q v H2
def Po(td ty tv:TE):TS:=λD U H=>tv U H λv H1=>td U H1 λx H2=>ty U H2 λy H3=>∃a H4,x=.ref a/\DPut H3 a y v H4/\D.nx U H4
section
variable{X:Cx}{ty:TE}
def YC(hu:X.A.units+1<cLine)(ho:PE X o td)(hi:PE X i ty)(hs:VQ i):PE X (.Subscript o i pos) (Pd td ty):=by
 intro O s U H Q I h;refine WV PySem.F.slot_dict_getitem.lookup hs (thn (ho O s U H _ I h) λu s1 ⟨x,H1,I1,rx,q1⟩=>thn (hi O s1 U H1 _ I1 q1) λiv s2 ⟨y,H2,I2,ry,a,v,ex,g,q2⟩=>?_);subst ex;obtain rfl:u=Value.ref a:=rx;exact⟨OG I2 g,Sn hu I2 g ry λw' s3 I3 rw'=>⟨v,H2,I3,rw',q2⟩⟩
def Xv(hu:X.A.units+1<cLine)(ho:PE X o td)(hi:PE X i ty)(hv:PE X value tv)(hs:swapsWith value (some (.Subscript o i pos')) pos.line X.env=pure false):
 PS X (.Assign [.Subscript o i pos'] value pos) (Po td ty tv):=by
 intro O s U H D I h;refine wpAny_Assign_Subscript (thn (hv O s U H _ I h) λr s1 ⟨v,H1,I1,rv,q1⟩=>thn (ho O s1 U H1 _ I1 q1) λu s2 ⟨x,H2,I2,rx,q2⟩=>thn (hi O s2 U H2 _ I2 q2) λiv s3 ⟨y,H3,I3,ry,a,H4,ex,g,q3⟩=>?_) hs;subst ex;obtain rfl:u=Value.ref a:=rx;exact Sm hu I3 g ry rv λs4 I4=>⟨U,H4,I4,q3⟩
end
def V9(h:Heap)(hb:sysModules<h.objs.size):ObjOk P w H (h.push { cls:=.type "dict",data:=.dict #[] }) h.objs.size (.dK []):=
 ⟨jA _,beq_eq_false_iff_ne.mpr (Ne.symm (jb hb)),[],.nil,Heap.DictOf.new h⟩
def Hr:List (TE×TE)->St->Hp->(List (V×V)->Hp->Prop)->Prop
 |[],_,H,Q=>Q [] H
 |(tk,tv)::r,U,H,Q=>tk U H λx H1=>tv U H1 λy H2=>Hr r U H2 λps H3=>Q ((x,y)::ps) H3
abbrev VV:List (V×V)->List (Value×Value)->Prop:=Paired λp q=>RelV p.1 q.1/\RelV p.2 q.2
def PPs(X:Cx)(pos:Pos)(keys:List (Option Expr))(values:List Expr)(trs:List (TE×TE)):Prop:=
 ∀(O:List (Addr×Obj)) (s:Shared) (U:St) (H:Hp) (Q:List (V×V)->Hp->Prop),Inv X O U H s->Hr trs U H Q ->
   wpAny (model X.prog X.w) X.A (evalPairs (pairTrees keys values X.env pos)) (λvs s'=>∃ps H',Inv X O U H' s'/\VV ps vs/\Q ps H') X.xe s
def Xw:PPs X pos [] [] []:=λO s U H Q I h=>pairTrees_nil_walk ⟨[],H,I,.nil,h⟩
def US(hk:PE X k tk)(hv:PE X v tv)(hr:PPs X pos ks vs trs):
 PPs X pos (some k::ks) (v::vs) ((tk,tv)::trs):=λO s U H Q I h=>
 pairTrees_cons_walk (thn (hk O s U H _ I h) λu s1 ⟨x,H1,I1,rx,q1⟩=>thn (hv O s1 U H1 _ I1 q1) λw2 s2 ⟨y,H2,I2,ry,q2⟩=>
  thn (hr O s2 U H2 _ I2 q2) λws s3 ⟨ps,H3,I3,rel,q3⟩=>⟨(x,y)::ps,H3,I3,.cons ⟨rx,ry⟩ rel,q3⟩)
def Ev(kvs more:List (Key×V)):List (Key×V):=more.foldl (λacc kv=>Cz acc kv.1 kv.2) kvs
def KV.merge:∀{more:List (Key×V)} {rs:List (Key×Value)} {kvs:List (Key×V)} {vs:List (Key×Value)},KV more rs->KV kvs vs->KV (Ev kvs more) (merged vs rs):=by
 intro more rs kvs vs r;unfold KV at r
 induction r generalizing kvs vs with
 |nil=>intro q;exact q
 |@cons p q ps qs h t ih=>
  intro r0;have e:KV (Cz kvs p.1 p.2) (stored vs q.1 q.2):=by
   have:=r0.put p.1 h.2;rw[<- h.1];exact this
  exact ih e
theorem Hj:∀(more kvs:List (Key×V)),(Ev kvs more).length<=kvs.length+more.length
 |[],kvs=>by show kvs.length<=kvs.length+0;omega
 |p::r,kvs=>by
  have h1:=Hj r (Cz kvs p.1 p.2);have h2:=GR kvs p.1 p.2;show(Ev (Cz kvs p.1 p.2) r).length<=_;rw[jK];omega
theorem K5:∀{kvs:List (Key×V)} {ws:List (Value×Value)},VV (kvs.map λkv=>(kV kv.1,kv.2)) ws->∃rs,Carries (BP P w) ws rs/\KV kvs rs
 |[],_,r=>by rw[map_nil]at r;cases r;exact⟨[],True.intro,.nil⟩
 |p::kvs,_,r=>by
  rw[jc]at r;cases r with
  |@cons a b as bs h t=>
   obtain⟨rs,c,q⟩:=K5 (P:=P) (w:=w) t;obtain⟨b1,b2⟩:=b;exact⟨(p.1,b2)::rs,⟨M5 h.1,rfl,c⟩,.cons ⟨rfl,h.2⟩ q⟩
def Pc(trs:List (TE×TE)):TE:=λU H Q=>∀p,H p=none->Hr trs U (upd H p (.dK [])) λps H2=>H2 p=some (.dK [])/\∃kvs:List (Key×V),ps=kvs.map (λkv=>(kV kv.1,kv.2))/\kvs.length<=15/\Q (.ref p) (upd H2 p (.dK (Ev [] kvs)))
def YB(h:PPs X pos keys values trs)(hall:keys.all (·.isSome)=true)(hl:keys.length=values.length)(h0:keys≠[])
 (h15:keys.length<=15):PE X (.Dict keys values pos) (Pc trs):=by
 intro O s U H Q I q;have hn:=I.hok.fresh (j9 s.heap.objs.size);have I1:=I.laid (a:=s.heap.objs.size) (o:=.dK []) (h':=s.heap.push { cls:=.type "dict",data:=.dict #[] }) (t':=s.toks) (λ_ _ q=>Heap.get?_push_of_some _ q) (j9 _) (V9 s.heap I.big);refine wpAny_Dict_walk (knd:=BP X.prog X.w) hall hl h0 h15 (thn (h O _ U _ _ I1 (q _ hn)) λws s2 ⟨ps,H2,I2,rel,e,kvs,ep,lk,q2⟩=>?_);subst ep;obtain⟨rs,c,rk⟩:=K5 (P:=X.prog) (w:=X.w) rel;obtain⟨z,hd,vs0,r0,dd⟩:=W5 I2.hok e;cases r0;refine⟨rs,c,dd,λh' dd' hs=>⟨.ref s.heap.objs.size,_,?_,rfl,q2⟩⟩;have hz:(Ev [] kvs).length<=sizeLine:=by
  have h1:=Hj kvs [];rw[length_nil]at h1;rw[jw];omega
 have he:∃q,h'.get? s.heap.objs.size=some q:=let ⟨q,_,_,hq,_⟩:=dd';⟨q,hq⟩
 exact Km I2 (by rw[e];exact True.intro) hs he (Sj hz hd (rk.merge .nil) dd')
def Al(cells:List (Str×Addr)):List (Str×NameKind)->List (Str×Addr)->List (Str×Addr)
 |[],acc=>acc
 |(n,k)::r,acc=>if k==.free then Al cells r ((n,(cells.lookup n).getD 0)::acc)else Al cells r acc
theorem Gu(f:Str×NameKind->List (Str×Addr)->Sem (ForInStep (List (Str×Addr))))
 (hf:∀name kind cs,f (name,kind) cs=if(kind==NameKind.free)=true then(do let a <- cellOf env name;pure (ForInStep.yield ((name,a)::cs)))else pure (ForInStep.yield cs)):
 ∀(names:List (Str×NameKind)) (acc:List (Str×Addr)),(∀y∈names,y.2=.free->∃c,env.cells.lookup y.1=some c)->forIn names acc f=pure (Al env.cells names acc)
 |[],acc,_=>rfl
 |(n,k)::r,acc,hy=>by
   rw[List.forIn_cons,hf];have ih:=λa=>Gu f hf r a λz hz=>hy z (jm _ hz);by_cases hk:(k==NameKind.free)=true
   .obtain⟨c,hc⟩:=hy (n,k) jt (by simpa using hk);have hc:env.cells.lookup n=some c:=hc;have e1:cellOf env n=pure c:=by unfold cellOf;rw[hc]
    rw[j6 hk,e1];show forIn r ((n,c)::acc) f=_;have e2:Al env.cells ((n,k)::r) acc=Al env.cells r ((n,c)::acc):=by
     rw[Al,j6 hk,hc];rfl
    rw[ih,e2]
   .rw[j7 hk];show forIn r acc f=_;have e2:Al env.cells ((n,k)::r) acc=Al env.cells r acc:=by
     rw[Al,j7 hk]
    rw[ih,e2]
def FG{scope:Scope}{env:Env}(h:∀y∈scope.names,y.2=.free->∃c,env.cells.lookup y.1=some c):closureFor scope env=pure (Al env.cells scope.names []):=by
 unfold closureFor;dsimp only;rw[Gu _ (λname kind cs=>rfl) scope.names [] h];rfl
theorem EC{cells:List (Str×Addr)}:∀{names:List (Str×NameKind)} {acc:List (Str×Addr)},(∀y∈names,y.2=.free->∃c,cells.lookup y.1=some c)->(∀x c,acc.lookup x=some c->cells.lookup x=some c) ->
 ∀x c,(Al cells names acc).lookup x=some c->cells.lookup x=some c
 |[],_,_,ha,x,c,e=>ha x c e
 |(n,k)::r,acc,hy,ha,x,c,e=>by
   unfold Al at e;have hr:∀y∈r,y.2=.free->∃c,cells.lookup y.1=some c:=λz hz=>hy z (jm _ hz);by_cases hk:(k==NameKind.free)=true
   .rw[j6 hk]at e;refine EC hr (λz d q=>?_) x c e;obtain⟨c0,hc0⟩:=hy (n,k) jt (by simpa using hk);have hc0:cells.lookup n=some c0:=hc0;rw[jg]at q;by_cases hz:(z==n)=true
    .rw[hz,hc0]at q;have:z=n:=by simpa using hz
     subst this;simpa [hc0]using q
    .have hz':(z==n)=false:=by simpa using hz
     rw[hz']at q;exact ha z d q
   .rw[j7 hk]at e;exact EC hr ha x c e
theorem DW:∀{names:List (Str×NameKind)} {acc:List (Str×Addr)} {x:Str},((acc.lookup x).isSome=true∨(x,NameKind.free)∈names)->((Al cells names acc).lookup x).isSome=true
 |[],_,_,h=>h.elim id λz=>by cases z
 |(n,k)::r,acc,x,h=>by
   unfold Al;by_cases hk:(k==NameKind.free)=true
   .rw[j6 hk];refine DW ?_;by_cases hx:(x==n)=true
    .exact .inl (by rw[jg,hx];rfl)
    .have hx':(x==n)=false:=by simpa using hx
     rcases h with h|h
     .exact .inl (by rw[jg,hx'];exact h)
     .rcases mem_cons.mp h with h|h
      .cases h;simp at hx
      .exact .inr h
   .rw[j7 hk];refine DW ?_;rcases h with h|h
    .exact .inl h
    .rcases mem_cons.mp h with h|h
     .cases h;simp at hk
     .exact .inr h
def DH:Nat->List (Str×NameKind)->List (Str×Addr)
 |_,[]=>[]
 |n,(x,k)::r=>if k==.cell then DH (n+1) r++[(x,n)]else DH n r
theorem CO:∀(names:List (Str×NameKind)) (n:Nat) (acc:List (Str×Addr)),cellsFrom n names acc=DH n names++acc
 |[],_,_=>rfl
 |(x,k)::r,n,acc=>by
   unfold cellsFrom DH;by_cases hk:(k==NameKind.cell)=true
   .rw[j6 hk,j6 hk,CO r (n+1),List.append_assoc];rfl
   .rw[j7 hk,j7 hk,CO r n]
theorem JH:∀(names:List (Str×NameKind)) (n:Nat) (x:Str) (c:Addr),(DH n names).lookup x=some c->(x,NameKind.cell)∈names
 |[],_,_,_,e=>by cases e
 |(y,k)::r,n,x,c,e=>by
   unfold DH at e;by_cases hk:(k==NameKind.cell)=true
   .rw[j6 hk]at e;have hk':k=.cell:=by simpa using hk
    rw[jV]at e;cases q:(DH (n+1) r).lookup x with
    |some d=>exact jm _ (JH r _ x d q)
    |none=>
     rw[q]at e;simp only[none_or,jg]at e;by_cases hx:(x==y)=true
     .have:x=y:=by simpa using hx
      subst this;subst hk';exact jt
     .have hx':(x==y)=false:=by simpa using hx
      rw[hx']at e;cases e
   .rw[j7 hk]at e;exact jm _ (JH r n x c e)
theorem JI:∀(names:List (Str×NameKind)) (n:Nat) (x:Str),(x,NameKind.cell)∈names->∃c,(DH n names).lookup x=some c
 |[],_,_,h=>by cases h
 |(y,k)::r,n,x,h=>by
   unfold DH;by_cases hk:(k==NameKind.cell)=true
   .rw[j6 hk,jV];rcases mem_cons.mp h with h|h
    .obtain⟨rfl,rfl⟩:=Prod.mk.inj h;cases q:(DH (n+1) r).lookup x with
     |some d=>exact⟨d,rfl⟩
     |none=>exact⟨n,by simp[jg]⟩
    .obtain⟨c,hc⟩:=JI r (n+1) x h;exact⟨c,by rw[hc];rfl⟩
   .rw[j7 hk];rcases mem_cons.mp h with h|h
    .cases h;simp at hk
    .exact JI r n x h
def VM(scope:Scope)(C:Addr)(env:Env):Env:=
 { scope:=relabel scope env,locals:=C,globals:=env.globals,cells:=cellsFrom (C+1) scope.names (Al env.cells scope.names []),qual:=env.qual,func:=none,code:=env.code,frame:=env.frame,builtins:=env.builtins }
def Oo{M:Model}{A:Around}{E:Value->Shared->Prop}{s:Shared}{scope:Scope}{env:Env}{Q:Env->Shared->Prop}
 (hQ:∀h',(∀b o,s.heap.get? b=some o->h'.get? b=some o)->h'.Ns s.heap.objs.size (λ_=>none)->(∀x c,(DH (s.heap.objs.size+1) scope.names).lookup x=some c->h'.IsCell c none/\s.heap.objs.size<c) ->
  ((DH (s.heap.objs.size+1) scope.names).Pairwise λx y=>x.2≠y.2) ->
  Q { scope:=scope,locals:=s.heap.objs.size,globals:=env.globals,cells:=cellsFrom (s.heap.objs.size+1) scope.names cl,qual:=env.qual,func:=none,code:=env.code,frame:=env.frame,builtins:=env.builtins } { s with heap:=h' }):
 wpAny M A (newFunctionEnv scope env.globals cl [] env.qual none .none (some env)) Q E s:=by
 simp only[newFunctionEnv,Option.isSome_some,jB];refine j5 (wpAny_alloc ?_);refine j5 (wpAny_layCells _ (λname kind cells=>by cases hkc:kind==NameKind.cell<;>simp[hkc]) _ _ _ _ ?_);have ok:=cellsFrom_ok scope.names (s.heap.push { cls:=.type "dict",data:=.dict #[] }) (s.heap.objs.size+1) [] ⟨λ_ _ hm=>(nomatch hm),List.Pairwise.nil⟩ (by rw[Heap.size_push];exact j9 _);rw[Heap.size_push,CO,jI]at ok;rw[show({ s with heap:=s.heap.push { cls:=.type "dict",data:=.dict #[] } }:Shared).heap.objs.size=s.heap.objs.size+1 from Heap.size_push ..];refine j5 (j8 (j8 ?_));exact hQ _ (λb o e=>pushCells_keeps _ _ b o (Heap.get?_push_of_some _ e)) ((Heap.Ns.new s.heap (.type "dict")).keeps (pushCells_keeps _ _)) (λx c hc=>⟨(ok.empty x c (mem_of_lookup hc)).1,(ok.empty x c (mem_of_lookup hc)).2⟩) ok.apart
theorem L9:∀{names:List (Str×NameKind)} {x:Str} {k k':NameKind},(names.map (·.1)).Nodup->(x,k)∈names->(x,k')∈names->k=k'
 |[],_,_,_,_,h,_=>by cases h
 |(y,q)::r,x,k,k',nd,h,h'=>by
   have nd:(y::r.map (·.1)).Nodup:=nd;obtain⟨n1,n2⟩:=nodup_cons.mp nd;have out:∀{z:NameKind},(y,z)∈r->False:=λm=>n1 (mem_map.mpr ⟨_,m,rfl⟩);rcases mem_cons.mp h with e|e<;>rcases mem_cons.mp h' with e'|e'
   .cases e;cases e';rfl
   .cases e;exact(out e').elim
   .cases e';exact(out e).elim
   .exact L9 n2 e e'
theorem Hi{env:Env}{x:Str}:∀{names:List (Str×NameKind)},names.lookup x=some .free ->
 (names.map λ(n,k)=>if(k==NameKind.free&&env.scope.kind==.function&&env.kindOf n==some .cell)then(n,NameKind.cell)else(n,k)).lookup x=some .cell ∨
 (names.map λ(n,k)=>if(k==NameKind.free&&env.scope.kind==.function&&env.kindOf n==some .cell)then(n,NameKind.cell)else(n,k)).lookup x=some .free
 |[],h=>by simp at h
 |(n,k)::r,h=>by
   have ih:=@Hi env x r;show List.lookup x ((if(k==NameKind.free&&env.scope.kind==.function&&env.kindOf n==some .cell)=true then(n,NameKind.cell)else(n,k))::_)=_∨List.lookup x ((if(k==NameKind.free&&env.scope.kind==.function&&env.kindOf n==some .cell)=true then(n,NameKind.cell)else(n,k))::_)=_;cases hx:x==n with
   |true=>
    simp only[jg,hx]at h;cases h;by_cases hc:(NameKind.free==NameKind.free&&env.scope.kind==.function&&env.kindOf n==some .cell)=true
    .rw[j6 hc];exact .inl (by simp only[jg,hx])
    .rw[j7 hc];exact .inr (by simp only[jg,hx])
   |false=>
    simp only[jg,hx]at h;by_cases hc:(k==NameKind.free&&env.scope.kind==.function&&env.kindOf n==some .cell)=true
    .rw[j6 hc];simp only[jg,hx];exact ih h
    .rw[j7 hc];simp only[jg,hx];exact ih h
theorem Hy{env:Env}{x:Str}:∀{names:List (Str×NameKind)},
 ((names.map λ(n,k)=>if(k==NameKind.free&&env.scope.kind==.function&&env.kindOf n==some .cell)then(n,NameKind.cell)else(n,k)).lookup x=some .cell ∨
 (names.map λ(n,k)=>if(k==NameKind.free&&env.scope.kind==.function&&env.kindOf n==some .cell)then(n,NameKind.cell)else(n,k)).lookup x=some .free) ->
 names.lookup x=some .cell∨names.lookup x=some .free
 |[],h=>by simp at h
 |(n,k)::r,h=>by
   have ih:=@Hy env x r;have h:List.lookup x ((if(k==NameKind.free&&env.scope.kind==.function&&env.kindOf n==some .cell)=true then(n,NameKind.cell)else(n,k))::_)=_∨List.lookup x ((if(k==NameKind.free&&env.scope.kind==.function&&env.kindOf n==some .cell)=true then(n,NameKind.cell)else(n,k))::_)=_:=h;cases hx:x==n with
   |true=>
    by_cases hc:(k==NameKind.free&&env.scope.kind==.function&&env.kindOf n==some .cell)=true
    .have hk:k=.free:=by
      have:=(Bool.and_eq_true _ _ ▸ (Bool.and_eq_true _ _ ▸ hc).1:(k==NameKind.free)=true/\_).1;simpa using this
     exact .inr (by simp only[jg,hx,hk])
    .rw[j7 hc]at h;simp only[jg,hx]at h ⊢;exact h
   |false=>
    simp only[jg,hx];refine ih ?_;by_cases hc:(k==NameKind.free&&env.scope.kind==.function&&env.kindOf n==some .cell)=true
    .rw[j6 hc]at h;simp only[jg,hx]at h;exact h
    .rw[j7 hc]at h;simp only[jg,hx]at h;exact h
def cCx(X:Cx)(N':List Str)(scope:Scope)(s:Shared)(H:Hp)(ex:List Addr):Cx:=
 { X with N:=N',s₀:=s,H₀:=H,env:=VM scope s.heap.objs.size X.env,outer:=X.stack,ex:=ex,fn:=λx=>decide ((x,NameKind.cell)∈scope.names),pn:=[],xe:=λ_ _=>False }
structure CSc(X:Cx)(scope:Scope)(fr:List Str)(ix:List Nat):Prop where
 kind:scope.kind=.function
 nd:(scope.names.map (·.1)).Nodup
 free:(scope.names.all λy=>y.2 != .free||X.env.kindOf y.1==some .cell||X.env.kindOf y.1==some .free)=true
 frs:(fr.all λx=>scope.names.lookup x==some .free)=true
 ixs:fr.map some=ix.map λi=>X.N[i]?
 loc:(scope.names.all λy=>y.2 != .local||scope.names.lookup y.1==some .local)=true
def IM(n:Nat)(ix:List Nat)(U:St):St:=List.replicate n none++ix.map λi=>(U[i]?).join
section
def CSc.outer(S:CSc X scope fr ix)(hy:y∈scope.names)(e:y.2=.free):X.env.kindOf y.1=some .cell∨X.env.kindOf y.1=some .free:=by
 have h:=all_eq_true.mp S.free y hy;rw[e]at h;simpa using h
def CSc.clos(S:CSc X scope fr ix)(ok:X.Ok):∀y∈scope.names,y.2=.free->∃c,X.env.cells.lookup y.1=some c:=λy hy e=>ok.has y.1 (S.outer hy e)
def Dd(S:CSc X scope fr ix)(ok:X.Ok){n:Nat}(e:(cellsFrom n scope.names (Al X.env.cells scope.names [])).lookup x=some c):
 (DH n scope.names).lookup x=some c∨X.env.cells.lookup x=some c:=by
 rw[CO,jV]at e;cases q:(DH n scope.names).lookup x with
 |some d=>rw[q]at e;exact .inl e
 |none=>
  rw[q]at e;exact .inr (EC (S.clos ok) (λ_ _ z=>by simp at z) x c e)
def NT(S:CSc X scope fr ix)(I:Inv X O U H s)(hex:∀b∈ex,FpOk X O H b){h':Heap}(hk:∀b o,s.heap.get? b=some o->h'.get? b=some o)(hn:h'.Ns s.heap.objs.size λ_=>none)
 (ho:∀x c,(DH (s.heap.objs.size+1) scope.names).lookup x=some c->h'.IsCell c none/\s.heap.objs.size<c) (ha:(DH (s.heap.objs.size+1) scope.names).Pairwise λx y=>x.2≠y.2) (hlt:∀b∈ex,b<s.heap.objs.size):
 Inv (cCx X (loc++fr) scope s H ex) [] (IM loc.length ix U) H { s with heap:=h' }:=by
 have old:∀x c,X.env.cells.lookup x=some c->c<s.heap.objs.size:=λx c e=>let ⟨v,z⟩:=I.cell x c e;z.lt
 have lenix:fr.length=ix.length:=by simpa using jy List.length S.ixs
 refine⟨⟨I.ok.mod,?_,I.ok.glob,I.ok.blt,j9 _,?_,?_,?_,I.ok.hd,I.ok.frames,.inl rfl,?_,I.bs,jf I.ok.bsz I.sz,?_,?_,I.stack,I.stkFree⟩,rfl,I.bare,Un.kept hk,⟨_,hn,?_⟩,?_,I.hok.fresh (j9 _),?_,?_,I.hok.kept hk,?_⟩
 .exact S.kind
 .intro x y c e1 e2;rcases Dd S I.ok e1 with a|a<;>rcases Dd S I.ok e2 with b|b
  .exact name_of_addr ha (PySem.mem_of_lookup a) (PySem.mem_of_lookup b)
  .exact absurd (lt_trans (ho x c a).2 (old y c b)) (jG _)
  .exact absurd (lt_trans (ho y c b).2 (old x c a)) (jG _)
  .exact I.ok.inj x y c a b
 .intro x hx;rcases Hy hx with e|e
  .exact isSome_iff_exists.mp (PySem.W.cellsFrom_some _ _ _ (.inl e))
  .exact isSome_iff_exists.mp (PySem.W.cellsFrom_some _ _ _ (.inr (DW (.inr (PySem.mem_of_lookup e)))))
 .intro x c hf e;have hf:(x,NameKind.cell)∈scope.names:=of_decide_eq_true hf;obtain⟨d,hd⟩:=JI scope.names (s.heap.objs.size+1) x hf;have e':(cellsFrom (s.heap.objs.size+1) scope.names (Al X.env.cells scope.names [])).lookup x=some c:=e;rw[CO,jV,hd]at e';cases e';exact jR (ho x _ hd).2
 .intro b hb;refine⟨jb (hlt b hb),λx c e z=>?_⟩;rcases Dd S I.ok e with a|a
  .exact absurd (lt_trans (ho x c a).2 (by rw[z];exact hlt b hb)) (jG _)
  .exact(hex b hb).2.2.2.2.1 x c a z
 .intro b o e hb;rcases(hex b hb).2.2.2.1 with z|z
  .exact I.ok.noex b o e z
  .exact absurd (jl (Heap.lt_size (I.ok.bs b o e).1) z) (jG _)
 .intro b hb hf;rcases mem_cons.mp (I.stkSub b hf)with z|z
  .exact(hex b hb).2.1 z
  .exact(hex b hb).2.2.1 z
 .intro i x v e1 e2 e3;have e1:(loc++fr)[i]?=some x:=e1;unfold IM at e2;by_cases hi:i<loc.length
  .rw[List.getElem?_append_left (by simpa using hi),List.getElem?_replicate]at e2;split at e2<;>cases e2
  .have hi':loc.length<=i:=not_lt.mp hi;rw[List.getElem?_append_right (by simpa using hi')]at e2;rw[List.getElem?_append_right hi']at e1;rw[List.length_replicate,List.getElem?_map]at e2;generalize hj:i-loc.length=j at e1 e2;have e4:(fr.map some)[j]?=some (some x):=by rw[List.getElem?_map,e1];rfl
   rw[S.ixs,List.getElem?_map]at e4;cases q:ix[j]? with
   |none=>rw[q]at e2;cases e2
   |some k=>
    rw[q]at e2 e4;have e2:(U[k]?).join=some v:=Option.some.inj e2;have e4:X.N[k]?=some x:=Option.some.inj e4;have e5:U[k]?=some (some v):=by
     cases w:U[k]? with
     |none=>rw[w]at e2;cases e2
     |some z=>rw[w]at e2;simpa using e2
    have hfx:=all_eq_true.mp S.frs x (jq e1);have hfx:scope.names.lookup x=some .free:=by simpa using hfx
    have hmem:=PySem.mem_of_lookup hfx;have hout:=S.outer hmem rfl;obtain⟨m,hm,hl⟩:=I.loc;obtain⟨u,r,l⟩:=hl k x v e4 e5 (.inr hout);refine⟨u,r,.inr ⟨Hi hfx,?_⟩⟩;rcases l with⟨kk,_⟩|⟨kk,c,ec,z⟩
    .rcases hout with w|w
     .rw[kk]at w;cases w
     .rw[kk]at w;cases w
    .have own0:(DH (s.heap.objs.size+1) scope.names).lookup x=none:=by
      cases w:(DH (s.heap.objs.size+1) scope.names).lookup x with
      |none=>rfl
      |some d=>exact absurd (L9 S.nd (JH _ _ _ _ w) hmem) (by decide)
     have hc:(Al X.env.cells scope.names []).lookup x=some c:=by
      obtain⟨d,hd⟩:=isSome_iff_exists.mp (DW (cells:=X.env.cells) (acc:=[]) (.inr hmem));have:=EC (S.clos I.ok) (λ_ _ z=>by simp at z) x d hd;rw[ec]at this;cases this;exact hd
     refine⟨c,?_,z.keeps hk⟩;show(cellsFrom (s.heap.objs.size+1) scope.names (Al X.env.cells scope.names [])).lookup x=some c;rw[CO,jV,own0,hc];rfl
 .intro x c e;rcases Dd S I.ok e with a|a
  .exact⟨_,(ho x c a).1⟩
  .obtain⟨v,z⟩:=I.cell x c a;exact⟨v,z.keeps hk⟩
 .intro x c e;rcases Dd S I.ok e with a|a
  .exact I.hok.fresh (jR (ho x c a).2)
  .exact I.freeC x c a
 .intro p hp;cases hp
 .unfold IM;show _=(loc++fr).length;simp[lenix]
end
section
variable{R:Result->Shared->Prop}
def IL{iter:Expr}(I:Nat->Shared->Prop)
 (turn:∀n s,I n s->wpAny (model prog w) A (pyNext it) (λr s₁=>match r with
  |none=>R (.ok .next) s₁
  | some v=>wpAny (model prog w) A (letOwnedTupleGo target it v) (λ_ s₁=>wpAny (model prog w) A (assign target env v) (λ_ s₂=>
   wpAny (model prog w) A (forIn ifs true λc r=>if r=true then do let ok <- isTrue c env (eval c env);pure (ForInStep.yield ok)else pure (ForInStep.yield r)) (λok s₃=>
    if ok=true then wpAny (model prog w) A (eval elt env) (λx s₄=>
     wpAny (model prog w) A (call (.builtin "list.append") [acc,x]) (λ_ s₅=>∃m,m<n/\I m s₅) (λ_ _=>False) s₄) (λ_ _=>False) s₃
    else ∃m,m<n/\I m s₃) (λ_ _=>False) s₂) (λ_ _=>False) s₁) (λ_ _=>False) s₁) (λ_ _=>False) s)
 (n:Nat) (h:I n s):
 codeAny (model prog w) A (.compLoop (.ListComp elt [⟨target,iter,ifs,0⟩] scope pos) 0 it acc env) R s:=by
 refine codeAny_loop rfl I (λn s hI=>?_) n h;show wpAny _ A ((compTurn (.ListComp elt [⟨target,iter,ifs,0⟩] scope pos) 0 it acc env).onRaise (λx=>do noteFrame x env;theTreesLotGoes x)) _ _ s;refine wpAny_noted ?_;rw[compTurn_list];refine j5 (kD (j5 (jn (turn n s hI) (λr s₁ h₁=>?_) λ_ _ h'=>h'.elim)));cases r with
 |none=>exact j8 h₁
 |some v=>
  refine j5 (jn h₁ (λ_ s₁ h₁=>?_) λ_ _ h'=>h'.elim);refine j5 (jn h₁ (λ_ s₂ h₂=>j5 (jn h₂ (λok s₃ h₃=>?_) λ_ _ h'=>h'.elim)) λ_ _ h'=>h'.elim);cases ok with
  |false=>exact j8 ⟨rfl,h₃⟩
  |true=>
   exact j5 (j5 (jn h₃ (λx s₄ h₄=>j5 (jn h₄ (λ_ s₅ h₅=>j8 (j8 ⟨rfl,h₅⟩)) λ_ _ h'=>h'.elim)) λ_ _ h'=>h'.elim))
end
def PF(X:Cx)(ifs:List Expr)(t:TT):Prop:=
 ∀(O:List (Addr×Obj)) (s:Shared) (U:St) (H:Hp) (Q:Bool->Hp->Prop),Inv X O U H s->t U H Q ->
   wpAny (model X.prog X.w) X.A (forIn ifs true λc r=>if r=true then do let ok <- isTrue c X.env (eval c X.env);pure (ForInStep.yield ok)else pure (ForInStep.yield r)) (TP X O U Q) X.xe s
def TY:TT:=λ_ H Q=>Q true H
def bH:PF X [] TY:=λO s U H Q I h=>wpAny_tests_nil ⟨H,I,h⟩
def bD(h:PT X c t):PF X [c] t:=λO s U H Q I q=>wpAny_tests_one (h O s U H Q I q)
def W8(J:It)(D:Addr)(σ0:St)(H0:Hp)(g:TG)(tf:TT)(te:TE)(Q:VK):Prop:=∃W:Nat->Nat->St->List V->Hp->Prop,
 (∃m,W 0 m σ0 [] (upd H0 D (.lst [])))/\∀i m U ys H,W i m U ys H->H D=some (.lst ys)/\
  ((J.stop i H/\Q (.ref D) H)∨(J.go i H/\ys.length<sizeLine/\∃N:St->List V->Hp->Prop,(∀σ' ys' H',N σ' ys' H'->∃m',m'<m/\W (i+1) m' σ' ys' H')/\
    ∀x H',J.yld i H x H'->g x U H' λσ2 H2=>tf σ2 H2 λb H3=>
     if b=true then te σ2 H3 λv H4=>H4 D=some (.lst ys)/\N σ2 (ys++[v]) (upd H4 D (.lst (ys++[v])))
     else N σ2 ys H3))
def Gx(n:Nat)(ix:List Nat)(wi:TI)(g:TG)(tf:TT)(te:TE):TE:=λU H Q=>wi U H λJ H1=>∀D,H1 D=none->W8 J D (IM n ix U) H1 g tf te Q
section
def T6{D:Addr}{Q:Value->Shared->Prop}{E:Value->Shared->Prop}(I:Inv X O U H s)(hD:H D=some (.lst ys))(r:RelV x u)(hz:ys.length<sizeLine)
 (h:∀v s',Inv X O U (upd H D (.lst (ys++[x]))) s'->Q v s'):wpAny (model X.prog X.w) X.A (call (.builtin "list.append") [.ref D,u]) Q E s:=by
 have I':=I.wish λ_ _=>False;have q:=LD (X:=X.wish λ_ _=>False) O s U H (.ref D) [x] (.ref D) [u] (λv H'=>H'=upd H D (.lst (ys++[x]))) I' rfl (.cons r .nil) ⟨D,ys,x,rfl,rfl,hD,hz,rfl⟩;refine jn q (λv s' ⟨v',H',I2,_,e⟩=>?_) λ_ _ z=>False.elim z;subst e;exact h v s' I2.unwish
def YD{iter:Expr}(hc:X.calm=true)(S:CSc X scope fr ix)(hi:PI X tg iter wi)
 (hg:∀s H ex,PG (cCx X (loc++fr) scope s H ex) tg g) (hf:∀s H ex,PF (cCx X (loc++fr) scope s H ex) ifs tf) (he:∀s H ex,PE (cCx X (loc++fr) scope s H ex) elt te)
 (hs:∀x,foldedSetIterable iter X.env x=pure x:=by intro _;rfl):PE X (.ListComp elt [⟨tg,iter,ifs,0⟩] scope pos) (Gx loc.length ix wi g tf te):=by
 intro O s U H Q I h;rw[eval_ListComp];have hnames:∀y∈scope.names,y.2=.local->scope.names.lookup y.1=some .local:=λy hy e=>by
  have:=all_eq_true.mp S.loc y hy;rw[e]at this;simpa using this
 refine wpAny_comprehension_free (use:=none) rfl hs (FG (S.clos I.ok)) S.kind hnames (thn (hi O s U H _ I h) λv s1 h1=>thn h1 λitv s2 h2=>?_);obtain⟨it,fp,tn,J,H2,rfl,I2,T,st2,f2,hW⟩:=h2;refine jH ?_;have fresh2:H2 s2.heap.objs.size=none:=I2.hok.fresh (j9 _);have I3:=I2.lnew (its:=[]) (ys:=[]) (t':=s2.toks) .nil (jA _);obtain⟨W,⟨m0,w0⟩,turn⟩:=hW s2.heap.objs.size fresh2;have lt2:∀b∈fp,b<s2.heap.objs.size:=λb hb=>let ⟨o,e,_⟩:=T.obj 0 _ st2 b hb;Heap.lt_size e
 have f3:∀b∈fp,FpOk X O (upd H2 s2.heap.objs.size (.lst [])) b:=λb hb=>⟨by rw[AC (jb (lt2 b hb))];exact(f2 b hb).1,(f2 b hb).2⟩
 have lt3:∀b∈fp,b<(s2.heap.push { cls:=.type "list",data:=.seq ([]:List Value).toArray }).objs.size:=λb hb=>by rw[Heap.size_push];exact k9 (lt2 b hb)
 generalize hs3:({ s2 with heap:=s2.heap.push { cls:=.type "list",data:=.seq ([]:List Value).toArray } }:Shared)=s3 at *;have lt3:∀b∈fp,b<s3.heap.objs.size:=by rw[<- hs3];exact lt3
 have st3:tn 0 s3.heap:=T.keep _ _ _ st2 λb hb o e=>by rw[<- hs3];exact Heap.get?_push_of_some _ e
 refine Oo λh' hk hn ho ha=>?_;have I4:=NT (loc:=loc) S I3 f3 hk hn ho ha lt3;have fpX:∀{H':Hp},(∀b∈fp,H' b=none)->∀b∈fp,FpOk (cCx X (loc++fr) scope s3 (upd H2 s2.heap.objs.size (.lst [])) fp) [] H' b:=λhn b hb=>
  ⟨hn b hb,(I4.ok.exf b hb).1,I4.ok.exfs b hb,.inl hb,(I4.ok.exf b hb).2,λp hp=>by cases hp⟩
 have loop:codeAny (model X.prog X.w) X.A (.compLoop (.ListComp elt [⟨tg,iter,ifs,0⟩] scope pos) 0 (.ref it) (.ref s2.heap.objs.size) (VM scope s3.heap.objs.size X.env))
  (compPost (model X.prog X.w) X.A X.xe none (EP X O U Q) (.ref s2.heap.objs.size) s3.heap.objs.size) { s3 with heap:=h' }:=by
  refine IL (λn s'=>∃i σ' ys H',Inv (cCx X (loc++fr) scope s3 (upd H2 s2.heap.objs.size (.lst [])) fp) [] σ' H' s'/\tn i s'.heap/\(∀b∈fp,H' b=none)/\W i n σ' ys H') ?_ m0
   ⟨0,_,[],_,I4,T.keep _ _ _ st3 λb hb o e=>hk b o e,λb hb=>(f3 b hb).1,w0⟩
  rintro n s5 ⟨i,σ5,ys,H5,I5,st5,fr5,w5⟩;obtain⟨hD,w5⟩:=turn i n σ5 ys H5 w5;rcases w5 with⟨stop,qn⟩|⟨go,hz,N,hN,step⟩
  .refine thn (T.done (cCx X (loc++fr) scope s3 (upd H2 s2.heap.objs.size (.lst [])) fp) rfl rfl rfl hc i [] s5 σ5 H5 _ I5 (fpX fr5) st5 stop) λr s6 ⟨hr,I6⟩=>?_;subst hr;obtain⟨m,hm,_⟩:=I6.loc;refine⟨m,hm,λh'' hs=>?_⟩;have neC:∀b o,s3.heap.get? b=some o->b≠s3.heap.objs.size:=λb o e=>jb (Heap.lt_size e);have un:=I6.base;refine⟨.ref s2.heap.objs.size,H5,I3.call' (s':={ s6 with heap:=h'' }) (ch:=fp) I6.os ⟨λb o e n hb hx=>?_,λb o e n hb hx=>?_,un.free,λb o e hx=>?_,un.tups,un.frzs,un.tbls⟩ ?_ I6.bare ?_,rfl,qn⟩
   .exact(hs.2 b (neC b o e)).trans (un.keep b o e n hb hx)
   .obtain⟨sl,q⟩:=un.slot b o e n hb hx;exact⟨sl,(hs.2 b (neC b o e)).trans q⟩
   .obtain⟨o',q⟩:=un.there b o e hx;exact⟨o',(hs.2 b (neC b o e)).trans q⟩
   .intro b ob e;have hfree:H5 s3.heap.objs.size=none:=I6.free;refine(I6.hok b ob e).stay (λc w' hc q=>(hs.2 c ?_).trans q) (λ_ q=>q) λ_ _ q=>q;intro z;rcases hc with hc|hc
    .rw[<- hc,z,hfree]at e;cases e
    .rw[z,hfree]at hc;cases hc
   .intro b hb;obtain⟨_,a2,_,a4,a5,a6⟩:=f3 b hb;exact⟨a4,a2,a5,a6⟩
  .refine thn (T.item (cCx X (loc++fr) scope s3 (upd H2 s2.heap.objs.size (.lst [])) fp) rfl rfl rfl hc i [] s5 σ5 H5 _ I5 (fpX fr5) st5 go) λr s6 ⟨u,hr,h6⟩=>?_;subst hr;refine thn h6 λ_ s7 ⟨x,H7,I7,r7,y7,st7,fr7⟩=>?_;have I7':=I7.pinned (fpX fr7) (T.obj _ _ st7);have keepI:∀{σ8:St} {H8:Hp} {s8:Shared},Inv (cCx X (loc++fr) scope s3 (upd H2 s2.heap.objs.size (.lst [])) fp) ([]++Ft fp s7.heap) σ8 H8 s8->tn (i+1) s8.heap/\∀b∈fp,H8 b=none:=λ{σ8 H8 s8} I8=>by
    refine⟨T.keep _ _ _ st7 λb hb o e=>(I8.pin (b,o) (je _ (je _ (CW hb e)))).1,λb hb=>?_⟩;obtain⟨o,e,d⟩:=T.obj _ _ st7 b hb;exact(I8.pin (b,o) (je _ (je _ (CW hb e)))).2.1
   refine thn (hg s3 (upd H2 s2.heap.objs.size (.lst [])) fp _ s7 σ5 H7 x u _ I7' r7 (step x H7 y7)) λ_ s8 ⟨σ8,H8,I8,q8⟩=>?_;refine thn (hf s3 (upd H2 s2.heap.objs.size (.lst [])) fp _ s8 σ8 H8 _ I8 q8) λb s9 ⟨H9,I9,q9⟩=>?_;cases b with
   |false=>
    rw[j7 Bool.false_ne_true]at q9 ⊢;obtain⟨m',hm,w9⟩:=hN _ _ _ q9;exact⟨m',hm,i+1,σ8,ys,H9,I9.unpinned,(keepI I9).1,(keepI I9).2,w9⟩
   |true=>
    rw[j6 rfl]at q9 ⊢;refine thn (he s3 (upd H2 s2.heap.objs.size (.lst [])) fp _ s9 σ8 H9 _ I9 q9) λe10 s10 ⟨v10,H10,I10,r10,hD10,n10⟩=>?_;obtain⟨m',hm,w10⟩:=hN _ _ _ n10;refine T6 (X:=cCx X (loc++fr) scope s3 (upd H2 s2.heap.objs.size (.lst [])) fp) I10 hD10 r10 hz λ_ s11 I11=>?_;exact⟨m',hm,i+1,σ8,_,_,I11.unpinned,(keepI I11).1,(keepI I11).2,w10⟩
 exact codeAny_compStart_list loop (T.self X.A 0 _ _ _ (T.keep _ _ _ st3 λb hb o e=>hk b o e) loop)
end
section
variable{X:Cx}
def Qf{iter:Expr}{tn:Nat->Heap->Prop}{E:Value->Shared->Prop}
 {RR:Value->Addr->Result->Shared->Prop} (hc:X.calm=true) (S:CSc X scope fr ix)
 (hg:∀s H ex,PG (cCx X (loc++fr) scope s H ex) tg g) (hf:∀s H ex,PF (cCx X (loc++fr) scope s H ex) ifs tf) (he:∀s H ex,PE (cCx X (loc++fr) scope s H ex) elt te)
 (I2:Inv X O U H2 s2) (T:Turn X.prog X.w X.K tg J fp it tn) (st2:tn 0 s2.heap) (f2:∀b∈fp,FpOk X O H2 b) (hW:∀D,H2 D=none->W8 J D (IM loc.length ix U) H2 g tf te Q)
 (hfin:∀(s3 s6:Shared) (H5:Hp) (σ5:St) (D:Addr),Inv X O U (upd H2 D (.lst [])) s3->Inv (cCx X (loc++fr) scope s3 (upd H2 D (.lst [])) fp) [] σ5 H5 s6->(∀b∈fp,FpOk X O (upd H2 D (.lst [])) b)->Q (.ref D) H5->RR (.ref D) s3.heap.objs.size (.ok .next) s6):
 wpAny (model X.prog X.w) X.A (newList []) (λacc s₃=>wpAny (model X.prog X.w) X.A (newFunctionEnv scope X.env.globals (Al X.env.cells scope.names []) [] X.env.qual none .none (some X.env)) (λcenv s₄=>
  codeAny (model X.prog X.w) X.A (.compStart (.ListComp elt [⟨tg,iter,ifs,0⟩] scope pos) 0 (.ref it) acc { cenv with scope:=relabel scope X.env }) (RR acc cenv.locals) s₄) E s₃) E s2:=by
 refine jH ?_;have fresh2:H2 s2.heap.objs.size=none:=I2.hok.fresh (j9 _);have I3:=I2.lnew (its:=[]) (ys:=[]) (t':=s2.toks) .nil (jA _);obtain⟨W,⟨m0,w0⟩,turn⟩:=hW s2.heap.objs.size fresh2;have lt2:∀b∈fp,b<s2.heap.objs.size:=λb hb=>let ⟨o,e,_⟩:=T.obj 0 _ st2 b hb;Heap.lt_size e
 have f3:∀b∈fp,FpOk X O (upd H2 s2.heap.objs.size (.lst [])) b:=λb hb=>⟨by rw[AC (jb (lt2 b hb))];exact(f2 b hb).1,(f2 b hb).2⟩
 have lt3:∀b∈fp,b<(s2.heap.push { cls:=.type "list",data:=.seq ([]:List Value).toArray }).objs.size:=λb hb=>by rw[Heap.size_push];exact k9 (lt2 b hb)
 generalize hs3:({ s2 with heap:=s2.heap.push { cls:=.type "list",data:=.seq ([]:List Value).toArray } }:Shared)=s3 at *;have lt3:∀b∈fp,b<s3.heap.objs.size:=by rw[<- hs3];exact lt3
 have st3:tn 0 s3.heap:=T.keep _ _ _ st2 λb hb o e=>by rw[<- hs3];exact Heap.get?_push_of_some _ e
 refine Oo λh' hk hn ho ha=>?_;have I4:=NT (loc:=loc) S I3 f3 hk hn ho ha lt3;have fpX:∀{H':Hp},(∀b∈fp,H' b=none)->∀b∈fp,FpOk (cCx X (loc++fr) scope s3 (upd H2 s2.heap.objs.size (.lst [])) fp) [] H' b:=λhn b hb=>
  ⟨hn b hb,(I4.ok.exf b hb).1,I4.ok.exfs b hb,.inl hb,(I4.ok.exf b hb).2,λp hp=>by cases hp⟩
 have loop:codeAny (model X.prog X.w) X.A (.compLoop (.ListComp elt [⟨tg,iter,ifs,0⟩] scope pos) 0 (.ref it) (.ref s2.heap.objs.size) (VM scope s3.heap.objs.size X.env))
  (RR (.ref s2.heap.objs.size) s3.heap.objs.size) { s3 with heap:=h' }:=by
  refine IL (λn s'=>∃i σ' ys H',Inv (cCx X (loc++fr) scope s3 (upd H2 s2.heap.objs.size (.lst [])) fp) [] σ' H' s'/\tn i s'.heap/\(∀b∈fp,H' b=none)/\W i n σ' ys H') ?_ m0
   ⟨0,_,[],_,I4,T.keep _ _ _ st3 λb hb o e=>hk b o e,λb hb=>(f3 b hb).1,w0⟩
  rintro n s5 ⟨i,σ5,ys,H5,I5,st5,fr5,w5⟩;obtain⟨hD,w5⟩:=turn i n σ5 ys H5 w5;rcases w5 with⟨stop,qn⟩|⟨go,hz,N,hN,step⟩
  .refine thn (T.done (cCx X (loc++fr) scope s3 (upd H2 s2.heap.objs.size (.lst [])) fp) rfl rfl rfl hc i [] s5 σ5 H5 _ I5 (fpX fr5) st5 stop) λr s6 ⟨hr,I6⟩=>?_;subst hr;exact hfin s3 s6 H5 σ5 s2.heap.objs.size I3 I6 f3 qn
  .refine thn (T.item (cCx X (loc++fr) scope s3 (upd H2 s2.heap.objs.size (.lst [])) fp) rfl rfl rfl hc i [] s5 σ5 H5 _ I5 (fpX fr5) st5 go) λr s6 ⟨u,hr,h6⟩=>?_;subst hr;refine thn h6 λ_ s7 ⟨x,H7,I7,r7,y7,st7,fr7⟩=>?_;have I7':=I7.pinned (fpX fr7) (T.obj _ _ st7);have keepI:∀{σ8:St} {H8:Hp} {s8:Shared},Inv (cCx X (loc++fr) scope s3 (upd H2 s2.heap.objs.size (.lst [])) fp) ([]++Ft fp s7.heap) σ8 H8 s8->tn (i+1) s8.heap/\∀b∈fp,H8 b=none:=λ{σ8 H8 s8} I8=>by
    refine⟨T.keep _ _ _ st7 λb hb o e=>(I8.pin (b,o) (je _ (je _ (CW hb e)))).1,λb hb=>?_⟩;obtain⟨o,e,d⟩:=T.obj _ _ st7 b hb;exact(I8.pin (b,o) (je _ (je _ (CW hb e)))).2.1
   refine thn (hg s3 (upd H2 s2.heap.objs.size (.lst [])) fp _ s7 σ5 H7 x u _ I7' r7 (step x H7 y7)) λ_ s8 ⟨σ8,H8,I8,q8⟩=>?_;refine thn (hf s3 (upd H2 s2.heap.objs.size (.lst [])) fp _ s8 σ8 H8 _ I8 q8) λb s9 ⟨H9,I9,q9⟩=>?_;cases b with
   |false=>
    rw[j7 Bool.false_ne_true]at q9 ⊢;obtain⟨m',hm,w9⟩:=hN _ _ _ q9;exact⟨m',hm,i+1,σ8,ys,H9,I9.unpinned,(keepI I9).1,(keepI I9).2,w9⟩
   |true=>
    rw[j6 rfl]at q9 ⊢;refine thn (he s3 (upd H2 s2.heap.objs.size (.lst [])) fp _ s9 σ8 H9 _ I9 q9) λe10 s10 ⟨v10,H10,I10,r10,hD10,n10⟩=>?_;obtain⟨m',hm,w10⟩:=hN _ _ _ n10;refine T6 (X:=cCx X (loc++fr) scope s3 (upd H2 s2.heap.objs.size (.lst [])) fp) I10 hD10 r10 hz λ_ s11 I11=>?_;exact⟨m',hm,i+1,σ8,_,_,I11.unpinned,(keepI I11).1,(keepI I11).2,w10⟩
 exact codeAny_compStart_list loop (T.self X.A 0 _ _ _ (T.keep _ _ _ st3 λb hb o e=>hk b o e) loop)
def OJ(I3:Inv X O U H3 s3)(I6:Inv (cCx X N' scope s3 H3 fp) [] σ5 H5 s6)(f3:∀b∈fp,FpOk X O H3 b)
 (hs:Heap.SameBut s3.heap.objs.size s6.heap h''):Inv X O U H5 { s6 with heap:=h'' }:=by
 have neC:∀b o,s3.heap.get? b=some o->b≠s3.heap.objs.size:=λb o e=>jb (Heap.lt_size e);have un:=I6.base;refine I3.call' (s':={ s6 with heap:=h'' }) (ch:=fp) I6.os ⟨λb o e n hb hx=>?_,λb o e n hb hx=>?_,un.free,λb o e hx=>?_,un.tups,un.frzs,un.tbls⟩ ?_ I6.bare ?_
 .exact(hs.2 b (neC b o e)).trans (un.keep b o e n hb hx)
 .obtain⟨sl,q⟩:=un.slot b o e n hb hx;exact⟨sl,(hs.2 b (neC b o e)).trans q⟩
 .obtain⟨o',q⟩:=un.there b o e hx;exact⟨o',(hs.2 b (neC b o e)).trans q⟩
 .intro b ob e;have hfree:H5 s3.heap.objs.size=none:=I6.free;refine(I6.hok b ob e).stay (λc w' hc q=>(hs.2 c ?_).trans q) (λ_ q=>q) λ_ _ q=>q;intro z;rcases hc with hc|hc
  .rw[<- hc,z,hfree]at e;cases e
  .rw[z,hfree]at hc;cases hc
 .intro b hb;obtain⟨_,a2,_,a4,a5,a6⟩:=f3 b hb;exact⟨a4,a2,a5,a6⟩
def Xq{i:Nat}{iter:Expr}{spos:Pos}(hN:X.N.Nodup)(hiN:X.N[i]?=some y)(hy:X.env.scope.names.lookup y=some .local)
 (hc:X.calm=true) (S:CSc X scope fr ix) (hi:PI X tg iter wi)
 (hg:∀s H ex,PG (cCx X (loc++fr) scope s H ex) tg g) (hf:∀s H ex,PF (cCx X (loc++fr) scope s H ex) ifs tf) (he:∀s H ex,PE (cCx X (loc++fr) scope s H ex) elt te)
 (hsw:swapsWith (.ListComp elt [⟨tg,iter,ifs,0⟩] scope pos) (some (.Name y py)) spos.line X.env=pure true:=by rfl) (hs:∀x,foldedSetIterable iter X.env x=pure x:=by intro _;rfl):
 PS X (.Assign [.Name y py] (.ListComp elt [⟨tg,iter,ifs,0⟩] scope pos) spos) (Gy (Gx loc.length ix wi g tf te) (Ej i)):=by
 intro O s U H D I h;have hnames:∀y∈scope.names,y.2=.local->scope.names.lookup y.1=some .local:=λy hy e=>by
  have:=all_eq_true.mp S.loc y hy;rw[e]at this;simpa using this
 rw[exec_Assign_Name_used _ _ _ _ hsw];refine j5 (kD (j5 ?_));show wpAny _ _ (do let _ <- comprehension (.ListComp elt [⟨tg,iter,ifs,0⟩] scope pos) scope X.env _ (newList []) false (eval iter X.env) (some (assign (.Name y py) X.env))) _ _ s;refine j5 (jn (wpAny_comprehension_free (use:=some (assign (.Name y py) X.env)) (Q:=λ_ s'=>SP X O D .next s') rfl hs (FG (S.clos I.ok)) S.kind hnames
  (thn (hi O s U H _ I h) λv s1 h1=>thn h1 λitv s2 h2=>?_)) (λ_ s' hq=>j8 (j8 hq)) λ_ _ e=>e)
 obtain⟨it,fp,tn,J,H2,rfl,I2,T,st2,f2,hW⟩:=h2;refine Qf (RR:=λacc C=>compPost (model X.prog X.w) X.A X.xe (some (assign (.Name y py) X.env)) (λ_ s'=>SP X O D .next s') acc C) hc S hg hf he I2 T st2 f2 hW λs3 s6 H5 σ5 L I3 I6 f3 q=>?_;have J6:Inv X O U H5 s6:=OJ (h'':=s6.heap) I3 I6 f3 (.refl ..);obtain⟨m,hm,_⟩:=I6.loc;have hm:s6.heap.Ns s3.heap.objs.size m:=hm;have hL:s3.heap.objs.size≠X.env.locals:=Ne.symm (jb I3.lt);show wpAny _ _ (assign (.Name y py) X.env (.ref L)) _ _ s6;refine wpAny_assign_Name (Kv (v:=.ref L) J6 hN hiN (.inl hy) rfl (λs7 I7 ⟨a,sb,ha⟩=>?_) (.inr hy));have hca:s3.heap.objs.size≠a:=by
  rcases ha with rfl|ha
  .exact hL
  .obtain⟨v,z⟩:=I3.cell y a ha;exact Ne.symm (jb z.lt)
 refine⟨m,hm.sameBut sb hca,λh' hs'=>?_⟩;refine⟨_,H5,I7.turned (t':=s7.toks) (it:=s3.heap.objs.size) (λb o hb e=>(hs'.2 b hb).trans e) I6.free hL (.inr I3.sz) (λx c e z=>?_) (λp hp z=>?_),q⟩
 .obtain⟨v,w⟩:=I3.cell x c e;exact absurd w.lt (by rw[z];exact jG _)
 .exact absurd (Heap.lt_size (I3.pin p hp).1) (by rw[z];exact jG _)
end
mutual
def Rep(K:Frag)(H:Hp):PyData->V->Prop
 |.none,v=>v=.non
 |.bool b,v=>v=.bl b
 |.int i,v=>v=.int i
 |.str x,v=>v=.str x
 |.list ds,v=>∃a xs,v=.ref a/\SqL K H a xs/\CG K H ds xs
 |.tuple ds,v=>∃a xs,v=.ref a/\SqT K H a xs/\CG K H ds xs
 |.dict _,_=>False
def CG(K:Frag)(H:Hp):List PyData->List V->Prop
 |[],xs=>xs=[]
 |d::ds,xs=>∃x r,xs=x::r/\Rep K H d x/\CG K H ds r
end
section
mutual
theorem Dr(I:Inv X O U H s):∀(d:PyData) (v:V) (u:Value),Rep X.K H d v->RelV v u->∃as,Reads s.heap u d as
 |.none,v,u,h,r=>by
  have h:v=.non:=by simpa only[Rep]using h
  subst h;cases r;exact⟨_,.none⟩
 |.bool b,v,u,h,r=>by
  have h:v=.bl b:=by simpa only[Rep]using h
  subst h;cases r;exact⟨_,.bool b⟩
 |.int i,v,u,h,r=>by
  have h:v=.int i:=by simpa only[Rep]using h
  subst h;obtain⟨t,rfl⟩:=r;exact⟨_,.int i t⟩
 |.str x,v,u,h,r=>by
  have h:v=.str x:=by simpa only[Rep]using h
  subst h;obtain⟨t,rfl⟩:=r;exact⟨_,.str x t⟩
 |.list ds,v,u,h,r=>by
  have h:∃a xs,v=.ref a/\SqL X.K H a xs/\CG X.K H ds xs:=by simpa only[Rep]using h
  obtain⟨a,xs,rfl,hq,ha⟩:=h;cases r;obtain⟨its,rv,⟨o,n,e,c,_,dd⟩,hz⟩:=I.list hq;obtain⟨as,q⟩:=Fq I ds xs its ha rv;exact⟨_,.list e c dd (by simpa using q)⟩
 |.tuple ds,v,u,h,r=>by
  have h:∃a xs,v=.ref a/\SqT X.K H a xs/\CG X.K H ds xs:=by simpa only[Rep]using h
  obtain⟨a,xs,rfl,hq,ha⟩:=h;cases r;obtain⟨its,rv,⟨o,e,c,n,dd⟩,hz⟩:=I.tuple hq;obtain⟨as,q⟩:=Fq I ds xs its ha rv;exact⟨_,.tuple e c dd (by simpa using q)⟩
 |.dict _,v,u,h,r=>by
  have h:False:=by simpa only[Rep]using h
  exact h.elim
theorem Fq(I:Inv X O U H s):∀(ds:List PyData) (xs:List V) (us:List Value),CG X.K H ds xs->Vals xs us->∃as,ReadsAll s.heap us ds as
 |[],xs,us,h,r=>by
  have h:xs=[]:=by simpa only[CG]using h
  subst h;cases r;exact⟨_,.nil⟩
 |d::ds,xs,us,h,r=>by
  have h:∃x r,xs=x::r/\Rep X.K H d x/\CG X.K H ds r:=by simpa only[CG]using h
  obtain⟨x,rr,rfl,h1,h2⟩:=h;cases r with
  |cons r1 r2=>
   obtain⟨as,q1⟩:=Dr I d _ _ h1 r1;obtain⟨bs,q2⟩:=Fq I ds _ _ h2 r2;exact⟨_,.cons q1 q2⟩
end
end
def Stb:HO->Prop
 |.tup _=>True
 |.frz _ _=>True
 |.ext _=>True
 |.xd _=>True
 |_=>False
structure Grow(H H':Hp):Prop where
 keep:∀b o,Stb o->H b=some o->H' b=some o
theorem Grow.tup(g:Grow H H'):∀b xs,H b=some (.tup xs)->H' b=some (.tup xs):=λb _ h=>g.keep b _ trivial h
theorem Grow.frz(g:Grow H H'):∀b o u,H b=some (.frz o u)->H' b=some (.frz o u):=λb _ _ h=>g.keep b _ trivial h
def Grow.refl:Grow H H:=⟨λ_ _ _ h=>h⟩
def Chg(H:Hp)(p:Addr):Prop:=∀o,Stb o->H p≠some o
def Grow.put(a:Grow H H')(h:Chg H' p):Grow H (upd H' p o):=⟨λc u s e=>by
 have q:=a.keep c u s e;have n:c≠p:=λz=>h u s (by rw[<- z];exact q);rw[AC n];exact q⟩
theorem Chg.lst(h:H p=some (.lst xs)):Chg H p:=λo s e=>by rw[h]at e;cases e;exact s
def Grow.sq{K:Frag}(g:Grow H H')(h:SqT K H a xs):SqT K H' a xs:=by
 rcases h with(h|⟨o,h⟩)|h
 .exact .inl (.inl (g.tup _ _ h))
 .exact .inl (.inr ⟨o,g.frz _ _ _ h⟩)
 .exact .inr h
section
variable{X:Cx}
def M0(K:Frag):List V->Hp->VK->Prop:=λxs H Q=>∃x d,xs=[x]/\Rep K H d x/\d.showable=true/\d.hasDict=false/\isDisplay d=true/\d.depth<=30/\d.shown.length<=sizeLine/\Q (.str d.shown) H
def Qh(hg:X.A.guards=some [])(hu:X.A.units+64<cLine):CallR X (.builtin "repr") (M0 X.K):=by
 intro O s U H xs us Q I r h;obtain⟨x,d,rfl,hr,hs,hd,hi,hdep,hsz,q⟩:=h;obtain⟨u,rfl,ru⟩:=CU r;obtain⟨as,hR⟩:=Dr I d x u hr ru;obtain⟨a,rfl⟩:=isRef_of_reads hR hi;exact repr_of_reads' hR hs (PyData.noDict_hsm hd) hg (by omega) (λ_ _ e=>e) (λh' u tk hk=>⟨.str d.shown,H,I.kept hk,⟨_,rfl⟩,q⟩) hsz
def Qg:CallR X (.builtin "repr") (λxs H Q=>∃i,xs=[.int i]/\i.natAbs.log2<1920/\Q (.str (toString i)) H):=by
 intro O s U H xs us Q I r h;obtain⟨i,rfl,hi,q⟩:=h;obtain⟨u,rfl,ru⟩:=CU r;obtain⟨t,rfl⟩:=ru;exact PySem.P.repr_of_int hi ⟨.str (toString i),H,I.tok _,⟨_,rfl⟩,q⟩
def U6(K:Frag):R2:=λx y H Q=>∃d e,Rep K H d x/\Rep K H e y/\d.canLay0=true/\e.canLay0=true/\min d.depth e.depth<=60/\Q (.bl (!PyData.eqv d e)) H
def U9(K:Frag):R2:=λx y H Q=>∃d e,Rep K H d x/\Rep K H e y/\d.canLay0=true/\e.canLay0=true/\min d.depth e.depth<=60/\Q (.bl (PyData.eqv d e)) H
def bX(hu:X.A.units+64<cLine):OpR X (compareOp .NotEq) (U6 X.K):=by
 intro O s U H x y v u Q I rx ry h;obtain⟨d,e,h1,h2,c1,c2,hm,q⟩:=h;obtain⟨as,q1⟩:=Dr I d x v h1 rx;obtain⟨bs,q2⟩:=Dr I e y u h2 ry;exact PySem.SeqAt.compareNe_reads q1 q2 c1 c2 (by omega) ⟨.bl _,H,I,rfl,q⟩
def ba(hu:X.A.units+64<cLine):OpR X (compareOp .Eq) (U9 X.K):=by
 intro O s U H x y v u Q I rx ry h;obtain⟨d,e,h1,h2,c1,c2,hm,q⟩:=h;obtain⟨as,q1⟩:=Dr I d x v h1 rx;obtain⟨bs,q2⟩:=Dr I e y u h2 ry;exact PySem.SeqAt.compareEq_reads q1 q2 c1 c2 (by omega) ⟨.bl _,H,I,rfl,q⟩
theorem Go:∀{ns:List Int} {us:List Value},Vals (ns.map V.int) us->IntsAre us ns
 |[],_,.nil=>.nil
 |n::ns,_,.cons r t=>by obtain⟨k,rfl⟩:=r;exact .cons _ _ (Go t)
def Sw(hc:X.calm=true):CallR X (.builtin "sum") (λxs H Q=>∃(a:Addr) (ns:List Int),xs=[.ref a]/\SqL X.K H a (ns.map V.int)/\Q (.int ns.sum) H):=by
 intro O s U H xs us Q I r h;obtain⟨a,ns,rfl,hq,q⟩:=h;obtain⟨u,rfl,ru⟩:=CU r;cases ru;obtain⟨its,rv,p,hz⟩:=I.list hq;have hi:=Go rv;obtain⟨xs,hx⟩:=hi.allInts.items;have hl':s.heap.IsList a (intItems xs):=hx ▸ p.isList;refine sum_intListG (I.ok.hd hc) hl' λh' tk t' hk=>?_;have e1:ns=xs.toList.map (·.1):=by
  rw[<- nums_intItems,<- hx];exact(show numsOf its.toArray.toList=ns from hi.numsOf).symm
 have e2:preSum (numAt xs) xs.size=ns.sum:=by
  rw[preSum_eq,List.take_of_length_le (by simp),e1]
 rw[e2];exact⟨.int ns.sum,H,I.kept hk,⟨_,rfl⟩,q⟩
end
end L2
namespace L2
open PySem PySem.Spec PyProof.Rows
section
variable(K:Frag){X:Cx}
def NP(hK:X.K=K:=by rfl):IxR X (U8 K):=by subst hK;exact YZ
def Ov(hK:X.K=K:=by rfl):IxR X (U7 K):=by subst hK;exact cG
def Tk(hK:X.K=K:=by rfl):SlR X (Pu K):=by subst hK;exact WY
def Ol(hu:X.A.units+64<cLine)(hK:X.K=K:=by rfl):OpR X (compareOp .Eq) (U9 K):=by subst hK;exact ba hu
def Ka(hu:X.A.units+64<cLine)(hK:X.K=K:=by rfl):OpR X (compareOp .NotEq) (U6 K):=by subst hK;exact bX hu
def N6(hK:X.K=K:=by rfl):OpR X (binaryOp .Add) (Pw K):=by subst hK;exact YI
def a9:List V->Hp->VK->Prop:=λxs H Q=>∃p ys,xs=[.ref p]/\(SqL K H p ys∨SqT K H p ys)/\Q (.int ys.length) H
def T1(hK:X.K=K:=by rfl):CallR X (.builtin "len") (a9 K):=by subst hK;exact Nq
def Gf:List V->Hp->VK->Prop:=λxs H Q=>∃p ys,xs=[.ref p]/\(SqL K H p ys∨SqT K H p ys)/\∀l,H l=none->Q (.ref l) (upd H l (.lst ys))
def K8(hK:X.K=K:=by rfl):CallR X (.type "list") (Gf K):=by subst hK;exact Np
def Mv:List V->Hp->VK->Prop:=λxs H Q=>∃p ys,xs=[.ref p]/\((SqL K H p ys/\∀l,H l=none->Q (.ref l) (upd H l (.tup ys)))∨(SqT K H p ys/\Q (.ref p) H))
def J7(hK:X.K=K:=by rfl):CallR X (.type "tuple") (Mv K):=by subst hK;exact Lk
def OI(hg:X.A.guards=some [])(hu:X.A.units+64<cLine)(hK:X.K=K:=by rfl):CallR X (.builtin "repr") (M0 K):=by subst hK;exact Qh hg hu
def Vj:List V->Hp->VK->Prop:=λxs H Q=>∃(a:Addr) (ns:List Int),xs=[.ref a]/\SqL K H a (ns.map V.int)/\Q (.int ns.sum) H
def LN(hc:X.calm=true)(hK:X.K=K:=by rfl):CallR X (.builtin "sum") (Vj K):=by subst hK;exact Sw hc
def N0{tl:TE}(hl:PE X l tl)(hK:X.K=K:=by rfl):PI X tg l (Ih K tl):=by subst hK;exact Y5 hl
def Y4{tl:TE}(hl:PE X l tl)(hK:X.K=K:=by rfl):PI X tg l (QQ K tl):=by subst hK;exact bB hl
def Y8{pos:Pos}{k:Nat}{n:Nat}(hc:X.calm=true)(h:PGs X es t)(hK:X.K=K:=by rfl)
 (hn:(assignEach es X.env).length=n:=by rfl) (hst:(assignEach es X.env).findIdx? (·.1)=none:=by rfl):PG X (.Tuple es k pos) (QY K n t):=by
 subst hK;exact bC hc h hn hst
end
section
variable(K:Frag){X:Cx}
theorem IN:∀{bs:List Bool} {us:List Value} {i:Nat} {v:Value},Vals (bs.map V.bl) us->us[i]?=some v->∃b,bs[i]?=some b/\v=.bool b
 |[],_,_,_,.nil,e=>by simp at e
 |b::bs,_,0,_,.cons r _,e=>by simp at e;subst e;exact⟨b,rfl,r⟩
 |b::bs,_,i+1,_,.cons _ t,e=>by
  obtain⟨c,h1,h2⟩:=IN (i:=i) t (by simpa using e);exact⟨c,by simpa using h1,h2⟩
def aB:List V->Hp->VK->Prop:=λxs H Q=>∃(a:Addr) (bs:List Bool),xs=[.ref a]/\SqL K H a (bs.map V.bl)/\Q (.bl (bs.all id)) H
def aA:List V->Hp->VK->Prop:=λxs H Q=>∃(a:Addr) (bs:List Bool),xs=[.ref a]/\SqL K H a (bs.map V.bl)/\Q (.bl (bs.any id)) H
def LQ(hc:X.calm=true)(hK:X.K=K:=by rfl):CallR X (.builtin "all") (aB K):=by
 subst hK;intro O s U H xs us Q I r h;obtain⟨a,bs,rfl,hq,q⟩:=h;obtain⟨u,rfl,ru⟩:=CU r;cases ru;obtain⟨its,rv,p,hz⟩:=I.list hq;have hl:=p.isList;have hlen:=rv.length;have hlt:a<s.heap.objs.size:=by obtain⟨_,e,_⟩:=hl;exact Heap.lt_size e
 refine call_all_walk (wpAny_pyIter_list hl ?_);refine⟨s.heap.objs.size,[s.heap.objs.size,a],[s.heap.objs.size],its.toArray.size,_,_,λi=>(bs[i]?).getD true,rfl,Walks.list (A:=X.A.in1) (I.ok.hd hc) _ a (jb hlt) its.toArray,
  ⟨⟨_,Heap.get?_push_size _ rfl,rfl,rfl⟩,hl.push _⟩,λi v s' Q' E' hP hQ=>?_,λh' tk hk=>?_⟩
 .obtain⟨b,e,rfl⟩:=IN rv (by simpa using hP);simp only[e,Option.getD_some]at hQ;exact kh hQ
 .have e:((List.range its.toArray.size).all λi=>(bs[i]?).getD true)=bs.all id:=by
   rw[jd,<- hlen,jo];exact LSm.range_all bs
  rw[e];exact⟨.bl _,H,I.kept (LSm.kept_iter hk),rfl,q⟩
def LP(hc:X.calm=true)(hK:X.K=K:=by rfl):CallR X (.builtin "any") (aA K):=by
 subst hK;intro O s U H xs us Q I r h;obtain⟨a,bs,rfl,hq,q⟩:=h;obtain⟨u,rfl,ru⟩:=CU r;cases ru;obtain⟨its,rv,p,hz⟩:=I.list hq;have hl:=p.isList;have hlen:=rv.length;have hlt:a<s.heap.objs.size:=by obtain⟨_,e,_⟩:=hl;exact Heap.lt_size e
 refine call_any_walk (wpAny_pyIter_list hl ?_);refine⟨s.heap.objs.size,[s.heap.objs.size,a],[s.heap.objs.size],its.toArray.size,_,_,λi=>(bs[i]?).getD false,rfl,Walks.list (A:=X.A.in1) (I.ok.hd hc) _ a (jb hlt) its.toArray,
  ⟨⟨_,Heap.get?_push_size _ rfl,rfl,rfl⟩,hl.push _⟩,λi v s' Q' E' hP hQ=>?_,λh' tk hk=>?_⟩
 .obtain⟨b,e,rfl⟩:=IN rv (by simpa using hP);simp only[e,Option.getD_some]at hQ;exact kh hQ
 .have e:((List.range its.toArray.size).any λi=>(bs[i]?).getD false)=bs.any id:=by
   rw[jd,<- hlen,jo];exact LSm.range_any bs
  rw[e];exact⟨.bl _,H,I.kept (LSm.kept_iter hk),rfl,q⟩
def Vl:List V->Hp->VK->Prop:=λxs H Q=>∃(a:Addr) (ns:List Int),xs=[.ref a]/\SqL K H a (ns.map V.int)/\0<ns.length/\∀M:Int,M∈ns->(∀x∈ns,x<=M)->Q (.int M) H
def LO(hc:X.calm=true)(hK:X.K=K:=by rfl):CallR X (.builtin "max") (Vl K):=by
 subst hK;intro O s U H xs us Q I r h;obtain⟨a,ns,rfl,hq,hne,q⟩:=h;obtain⟨u,rfl,ru⟩:=CU r;cases ru;obtain⟨its,rv,p,hz⟩:=I.list hq;have hi:=Go rv;obtain⟨ys,e⟩:=hi.allInts.items;have hns:ns=ys.toList.map (·.1):=by
  rw[<- hi.numsOf,<- nums_intItems,<- e]
 have hsz:0<ys.size:=by
  have h3:=hne;rw[hns,jo,Array.length_toList]at h3;exact h3
 have hl:=p.isList;rw[e]at hl;refine max_intList (I.ok.hd hc) hl hsz λv h' tk hv hk=>?_;obtain⟨t,rfl⟩:=intItems_at hv;obtain⟨h1,h2⟩:=argBest_gt (numAt ys) (ys.size-1);refine⟨.int _,H,I.kept hk,⟨t,rfl⟩,q _ ?_ λx hx=>?_⟩
 .rw[hns,numAt_eq];exact getD_mem (by rw[jo,Array.length_toList];omega)
 .rw[hns]at hx;obtain⟨j,hj,rfl⟩:=mem_getD hx;rw[jo,Array.length_toList]at hj;rw[<- numAt_eq];exact h2 j (by omega)
end
section
variable{E:Value->Shared->Prop}{s:Shared}
def Hk{Q:Value->Shared->Prop}(hl:s.heap.IsTuple l (intItems xs))
 (h:∀s₂:Shared,s₂={ s with heap:=s.heap.push { cls:=.type "tuple_iterator",data:=.fields #[.ref l,.int 0 0] } } ->
  (s₂.heap.IsTupleIter s.heap.objs.size l 0/\s₂.heap.IsTuple l (intItems xs))->(∀b∈[s.heap.objs.size,l],b<s₂.heap.objs.size)->l≠s.heap.objs.size->Q (.ref s.heap.objs.size) s₂):
 wpAny (model prog w) A (pyIter (.ref l)) Q E s:=by
 have hlt:l<s.heap.objs.size:=by obtain⟨_,e,_⟩:=hl;exact Heap.lt_size e
 refine wpAny_pyIter_tuple hl (h _ rfl ⟨⟨_,Heap.get?_push_size _ rfl,rfl,rfl⟩,hl.push _⟩ (λb hb=>?_) (jb hlt));show b<(s.heap.push _).objs.size;rw[Heap.size_push];rcases mem_cons.mp hb with rfl|hb
 .exact Nat.lt_succ_self _
 .rcases mem_cons.mp hb with rfl|hb
  .exact k9 hlt
  .cases hb
def L8{h':Heap}(hk:∀b x,b∉[s.heap.objs.size]->(s.heap.push o).get? b=some x->h'.get? b=some x):∀b x,s.heap.get? b=some x->h'.get? b=some x:=
 λb x e=>hk b x (λhm=>by rw[mem_singleton.mp hm]at e;exact jG _ (Heap.lt_size e)) (Heap.get?_push_of_some _ e)
def MX{Q:Value->Shared->Prop}(hh:A.handled=none)(hl:s.heap.IsTuple l (intItems xs))
 (h:∀h' tk t',(∀b o,s.heap.get? b=some o->h'.get? b=some o)->Q (.int (preSum (numAt xs) xs.size) t') { s with heap:=h',toks:=tk }):
 wpAny (model prog w) A (call (.builtin "sum") [.ref l]) Q E s:=by
 refine call_sum_walkG (Hk hl λs₂ e st hfp hlI=>?_);subst e;refine⟨_,_,_,_,_,_,numAt xs,rfl,Walks.tuple (A:=A.in1) hh _ l hlI (intItems xs),st,hfp,(λ_ _=>intItems_at),λh' tk t' hk=>?_⟩;have:=h h' tk t' (L8 hk);simpa [intItems]using this
def ND{Q:Value->Shared->Prop}(hh:A.handled=none)(hl:s.heap.IsTuple l (intItems xs))(hne:0<xs.size)
 (h:∀v h' tk,(intItems xs)[argBest (λi j=>decide (numAt xs i>numAt xs j)) (xs.size-1)]?=some v->(∀b o,s.heap.get? b=some o->h'.get? b=some o)->Q v { s with heap:=h',toks:=tk }):
 wpAny (model prog w) A (call (.builtin "max") [.ref l]) Q E s:=by
 refine call_max_walk (Hk hl λs₂ e st hfp hlI=>?_);subst e;refine⟨_,_,_,_,_,_,_,rfl,Walks.tuple (A:=A.in1) hh _ l hlI (intItems xs),st,hfp,by simpa [intItems]using hne,CmpOf.ints_gt (numAt xs) (λ_ _=>intItems_at),λv h' tk hP hk=>?_⟩;exact h v h' tk (by simpa [intItems]using hP) (L8 hk)
end
section
variable(K:Frag){X:Cx}
def Vi:List V->Hp->VK->Prop:=λxs H Q=>∃(a:Addr) (ns:List Int),xs=[.ref a]/\SqT K H a (ns.map V.int)/\Q (.int ns.sum) H
def K6(hc:X.calm=true)(hK:X.K=K:=by rfl):CallR X (.builtin "sum") (Vi K):=by
 subst hK;intro O s U H xs us Q I r h;obtain⟨a,ns,rfl,hq,q⟩:=h;obtain⟨u,rfl,ru⟩:=CU r;cases ru;obtain⟨its,rv,p,hz⟩:=I.tuple hq;have hi:=Go rv;obtain⟨xs,hx⟩:=hi.allInts.items;have hl':s.heap.IsTuple a (intItems xs):=hx ▸ (show s.heap.IsTuple a its.toArray from p);refine MX (I.ok.hd hc) hl' λh' tk t' hk=>?_;have e1:ns=xs.toList.map (·.1):=by
  rw[<- nums_intItems,<- hx];exact(show numsOf its.toArray.toList=ns from hi.numsOf).symm
 have e2:preSum (numAt xs) xs.size=ns.sum:=by
  rw[preSum_eq,List.take_of_length_le (by simp),e1]
 rw[e2];exact⟨.int ns.sum,H,I.kept hk,⟨_,rfl⟩,q⟩
def Vk:List V->Hp->VK->Prop:=λxs H Q=>∃(a:Addr) (ns:List Int),xs=[.ref a]/\SqT K H a (ns.map V.int)/\0<ns.length/\∀M:Int,M∈ns->(∀x∈ns,x<=M)->Q (.int M) H
def K7(hc:X.calm=true)(hK:X.K=K:=by rfl):CallR X (.builtin "max") (Vk K):=by
 subst hK;intro O s U H xs us Q I r h;obtain⟨a,ns,rfl,hq,hne,q⟩:=h;obtain⟨u,rfl,ru⟩:=CU r;cases ru;obtain⟨its,rv,p,hz⟩:=I.tuple hq;have hi:=Go rv;obtain⟨ys,e⟩:=hi.allInts.items;have hns:ns=ys.toList.map (·.1):=by
  rw[<- hi.numsOf,<- nums_intItems,<- e]
 have hsz:0<ys.size:=by
  have h3:=hne;rw[hns,jo,Array.length_toList]at h3;exact h3
 have hl:s.heap.IsTuple a (intItems ys):=e ▸ (show s.heap.IsTuple a its.toArray from p);refine ND (I.ok.hd hc) hl hsz λv h' tk hv hk=>?_;obtain⟨t,rfl⟩:=intItems_at hv;obtain⟨h1,h2⟩:=argBest_gt (numAt ys) (ys.size-1);refine⟨.int _,H,I.kept hk,⟨t,rfl⟩,q _ ?_ λx hx=>?_⟩
 .rw[hns,numAt_eq];exact getD_mem (by rw[jo,Array.length_toList];omega)
 .rw[hns]at hx;obtain⟨j,hj,rfl⟩:=mem_getD hx;rw[jo,Array.length_toList]at hj;rw[<- numAt_eq];exact h2 j (by omega)
end
structure DefAt(K:Frag)(mg:Str->Option Value)(x:Str)(st:Stmt)(f:Addr)(fd:FuncData)(ps:List Str):Prop where
 fn:Fun K x x st f fd
 mg:mg x=some (.ref f)
 bd:Binds K fd ps []
def Vs{X:Cx}{j k:Nat}{sp:Sp}{st:Stmt}{p:Pos}(F:FnOk X.prog X.w X.K X.mg X.base CX0 j f fd ps sp)(hr:Room k X.A)(D:DefAt X.K X.mg x st f fd ps)(ha:PA X (e::es) t)
 (hjk:j<=k:=by decide) (hg:Gl X x:=by rfl) (hdb:(x==("__debug__":Str))=false:=by decide) (he:starEach (e::es) X.env=(false,eval e X.env)::starEach es X.env:=by rfl) (hpl:(backTo pos (starEach es X.env)).any (·.1)=false:=by rfl):
 PE X (.Call (.Name x p) (e::es) [] pos) (Eg sp [] E0 t):=
 YF (F.mono hjk) hr hg D.mg D.fn.kp D.bd .nil eB ha hdb he hpl
def P6:bootBuiltins "list"=some (.type "list"):=by decide +kernel
def bt_tuple:bootBuiltins "tuple"=some (.type "tuple"):=by decide +kernel
def bt_len:bootBuiltins "len"=some (.builtin "len"):=by decide +kernel
def bt_repr:bootBuiltins "repr"=some (.builtin "repr"):=by decide +kernel
def bt_sum:bootBuiltins "sum"=some (.builtin "sum"):=by decide +kernel
def bt_min:bootBuiltins "min"=some (.builtin "min"):=by decide +kernel
def bt_max:bootBuiltins "max"=some (.builtin "max"):=by decide +kernel
def LS:bootBuiltins "sorted"=some (.builtin "sorted"):=by decide +kernel
def bt_all:bootBuiltins "all"=some (.builtin "all"):=by decide +kernel
def bt_any:bootBuiltins "any"=some (.builtin "any"):=by decide +kernel
def Lm:bootBuiltins "isinstance"=some (.builtin "isinstance"):=by decide +kernel
mutual
theorem J1:∀ns:List Int,PyData.canLayAll0 (ns.map PyData.int)=true
 |[]=>by simp[PyData.canLayAll0]
 |n::ns=>by simp[PyData.canLayAll0,PyData.canLay0,J1 ns]
end
end L2
namespace L2
open PySem PySem.Spec PyProof.Rows PySem.W
def lCx(X:Cx)(A:Around)(N':List Str)(qual:Str)(scope:Scope)(f:Addr)(cd:Value)(cl:List (Str×Addr))(s:Shared)(H:Hp):Cx:=
 { X with N:=N',s₀:=s,H₀:=H,A:=A.deeper (envX qual scope s.heap.objs.size f cd cl),env:=envX qual scope s.heap.objs.size f cd cl,outer:=X.stack,stack:=envX qual scope s.heap.objs.size f cd cl::X.stack,ex:=[],fn:=λ_=>false,calm:=true,pn:=[],xe:=λ_ _=>False }
structure LSc(scope:Scope)(p:Str):Prop where
 nocell:(scope.names.all λy=>y.2 != .cell)=true
 par:scope.names.lookup p=some .local
 co:scope.isCoroutine=false
 gen:scope.isGenerator=false
section
def LSc.ne(L:LSc scope p):∀y∈scope.names,y.2≠.cell:=λy hy e=>by
 have:=all_eq_true.mp L.nocell y hy;rw[e]at this
 revert this;decide
def Yd(S:CSc X scope fr ix)(L:LSc scope p)(I:Inv X O U H s){A:Around}(hf:A.frames=X.A.frames)(hh:A.handled=none){h':Heap}{t':Nat}
 (hk:∀b o,s.heap.get? b=some o->h'.get? b=some o) (hn:h'.Ns s.heap.objs.size λy=>if y=p then some u else none) (r:RelV x u):
 Inv (lCx X A (p::fr) qual scope f cd (Al X.env.cells scope.names []) s H) [] (some x::ix.map λi=>(U[i]?).join) H { s with heap:=h',toks:=t' }:=by
 have lenix:fr.length=ix.length:=by simpa using jy List.length S.ixs
 have co:∀x c,(Al X.env.cells scope.names []).lookup x=some c->X.env.cells.lookup x=some c:=λx c e=>EC (S.clos I.ok) (λ_ _ z=>by simp at z) x c e;refine⟨⟨I.ok.mod,S.kind,rfl,rfl,j9 _,?_,?_,?_,λ_=>hh,Around.frames_deeper (hf.trans I.ok.frames),.inr ⟨rfl,rfl⟩,?_,I.bs,jf I.ok.bsz I.sz,?_,?_,I.stack,I.stkFree⟩,rfl,I.bare,Un.kept hk,⟨_,hn,?_⟩,?_,I.hok.fresh (j9 _),?_,?_,I.hok.kept hk,?_⟩
 .intro x y c e1 e2;exact I.ok.inj x y c (co x c e1) (co y c e2)
 .intro x hx;rcases hx with e|e
  .exact absurd rfl (L.ne (x,.cell) (PySem.mem_of_lookup e))
  .exact isSome_iff_exists.mp (DW (.inr (PySem.mem_of_lookup e)))
 .intro x c hf;cases hf
 .intro b hb;cases hb
 .intro b o e hb;cases hb
 .intro b hb;cases hb
 .intro i y v e1 e2 e3;cases i with
  |zero=>
   have e1:some p=some y:=e1;have e2:some (some x)=some (some v):=e2;cases e1;cases e2;exact⟨u,r,.inl ⟨L.par,j6 rfl⟩⟩
  |succ j=>
   have e1:fr[j]?=some y:=e1;have e2:(ix.map λi=>(U[i]?).join)[j]?=some (some v):=e2;rw[List.getElem?_map]at e2;have e4:(fr.map some)[j]?=some (some y):=by rw[List.getElem?_map,e1];rfl
   rw[S.ixs,List.getElem?_map]at e4;cases q:ix[j]? with
   |none=>rw[q]at e2;cases e2
   |some k=>
    rw[q]at e2 e4;have e2:(U[k]?).join=some v:=Option.some.inj e2;have e4:X.N[k]?=some y:=Option.some.inj e4;have e5:U[k]?=some (some v):=by
     cases w:U[k]? with
     |none=>rw[w]at e2;cases e2
     |some z=>rw[w]at e2;simpa using e2
    have hfx:=all_eq_true.mp S.frs y (jq e1);have hfx:scope.names.lookup y=some .free:=by simpa using hfx
    have hmem:=PySem.mem_of_lookup hfx;have hout:=S.outer hmem rfl;obtain⟨m,hm,hl⟩:=I.loc;obtain⟨u',r',l⟩:=hl k y v e4 e5 (.inr hout);refine⟨u',r',.inr ⟨.inr hfx,?_⟩⟩;rcases l with⟨kk,_⟩|⟨kk,c,ec,z⟩
    .rcases hout with w|w
     .rw[kk]at w;cases w
     .rw[kk]at w;cases w
    .obtain⟨d,hd⟩:=isSome_iff_exists.mp (DW (cells:=X.env.cells) (acc:=[]) (.inr hmem));have:=co y d hd;rw[ec]at this;cases this;exact⟨c,hd,z.keeps hk⟩
 .intro x c e;obtain⟨v,z⟩:=I.cell x c (co x c e);exact⟨v,z.keeps hk⟩
 .intro x c e;exact I.freeC x c (co x c e)
 .intro p hp;cases hp
 .show(_::_:List (Option V)).length=(p::fr).length;simp[lenix]
def Uu(S:CSc X scope fr ix)(L:LSc scope p)(I:Inv X O U H s){A:Around}(hf:A.frames=X.A.frames)(hr:Room 1 A){x:V}{u:Value}{tb:TE}{Q:VK}
 (ho:s.heap.get? f=some { cls:=.type "function",data:=.func (kla_fn "<lambda>" qual params body scope (Al X.env.cells scope.names []) pm cd ctv) }) (hcd:s.heap.CodeRec cd qual)
 (hb:∀us:Value,bindArgs (kla_fn "<lambda>" qual params body scope (Al X.env.cells scope.names []) pm cd ctv) ⟨[us],[]⟩=pure [(p,us)])
 (he:∀(s:Shared) (H:Hp),PE (lCx X A (p::fr) qual scope f cd (Al X.env.cells scope.names []) s H) body tb) (r:RelV x u) (h:tb (some x::ix.map λi=>(U[i]?).join) H Q):
 wpAny (model X.prog X.w) A (call (.ref f) [u]) (EP X O U Q) (λ_ _=>False) s:=by
 refine jS (jT (R:=λres s'=>match res with|.ok (.ret u)=>EP X O U Q u s'|_=>False) (kla_callFunE hr.depth ho rfl L.co L.gen rfl hcd ?_) ?_)
 .rw[hb];refine j8 ?_;refine wpAny_newFunctionEnv L.ne (λy hy=>by rw[ju]at hy;subst hy;exact L.par) (λh' hns hsb=>⟨?_,?_⟩) S.kind
  .have hk:∀b o,s.heap.get? b=some o->h'.get? b=some o:=λb o e=>(hsb.2 b (jb (Heap.lt_size e))).trans (Heap.get?_push_of_some _ e);exact I.nolimit.keeps hk
  .have hk:∀b o,s.heap.get? b=some o->h'.get? b=some o:=λb o e=>(hsb.2 b (jb (Heap.lt_size e))).trans (Heap.get?_push_of_some _ e);have hns':h'.Ns s.heap.objs.size λy=>if y=p then some u else none:=by
    have e:(λy=>([(p,u)]:List (Str×Value)).reverse.lookup y)=λy=>if y=p then some u else none:=by
     funext y
     simp only[jY,List.reverse_nil,List.nil_append,jg,List.lookup_nil];by_cases hy:y=p
     .subst hy;simp
     .have hb':(y==p)=false:=beq_eq_false_iff_ne.mpr hy;simp[hb',hy]
    rw[<- e];exact hns
   have J:=Yd (t':=s.toks+1) (qual:=qual) (f:=f) (cd:=cd) S L I hf hr.hd hk hns' r;refine kla_codeExpr (jn (he s H [] _ _ H Q J h) (λv s' hv=>?_) λ_ _ z=>z.elim);obtain⟨y,H',J',ry,q⟩:=hv;obtain⟨hh,g,d,t,os'⟩:=s';obtain rfl:os'=s.os:=J'.os;exact⟨y,H',I.call (h':=hh) (g':=g) (d':=d) (t':=t) (ch:=[]) J'.base J'.hok J'.bare (λb z=>absurd z (by simp)),ry,q⟩
 .intro res s' hq;cases res with
  |error e=>exact hq
  |ok fl=>
   cases fl with
   |ret u=>exact hq
   |next=>exact hq
   |brk=>exact hq
   |cont=>exact hq
end
def cdF(c:Addr)(q:Str):Heap->Prop:=λh=>h.CodeRec (.ref c) q
def KA(H:Hp)(q:Str)(pos:Pos)(ps:Array Value):Prop:=ps=#[]∨∃c,ps=#[rawInt pos.line,rawInt pos.col,.ref c]/\H c=some (.ext (cdF c q))
def TabStep(P:Addr)(q:Str)(pos:Pos)(H H':Hp):Prop:=H'=H∨∃c,H c=none/\c≠P/\H'=upd (upd H P (.tbl #[rawInt pos.line,rawInt pos.col,.ref c])) c (.ext (cdF c q))
structure LamAt(X:Cx)(c P:Addr):Prop where
 code:X.env.code=.ref c
 hd:CodeHd X.base c P
 bl:X.base.BuiltinsAt X.mg P
section
def Yc(I:Inv X O U H s)(hP:H P=some (.tbl ps)){h':Heap}{t':Nat}(hx:∀b o,b≠P->s.heap.get? b=some o->h'.get? b=some o)(hc:s.heap.objs.size<=c')
 (hrec:h'.CodeRec (.ref c') q) (htb:h'.get? P=some (tabObj (ps++ps'))):Inv X O U (upd (upd H P (.tbl (ps++ps'))) c' (.ext (cdF c' q))) { s with heap:=h',toks:=t' }:=by
 have hcn:H c'=none:=I.hok.fresh hc;have hPc:P≠c':=AZ hP hcn;have nP:∀b,H b=none->b≠P:=λb n z=>by subst z;rw[hP]at n;cases n
 have other:∀b,b≠P->b≠c'->upd (upd H P (.tbl (ps++ps'))) c' (.ext (cdF c' q)) b=H b:=λb h1 h2=>by rw[AC h2,AC h1]
 have ne':∀b u,H b=some u->b≠c':=λb u e=>AZ e hcn;refine I.un (h':=h') (t':=t') ⟨λb o e n _ _=>hx b o (nP b n) e,λb o e n _ _=>⟨o.slots,hx b o (nP b n) e⟩,λb o e n _=>?_,λb o e _=>?_,λb xs e=>?_,λb o u e=>?_,λb qs e=>?_⟩ λb u e=>?_
 .rw[other b (nP b n) (jb (jl (Heap.lt_size e) hc))];exact n
 .by_cases z:b=P
  .subst z;exact⟨_,htb⟩
  .exact⟨o,hx b o z e⟩
 .rw[other b (λz=>by subst z;rw[hP]at e;cases e) (ne' b _ e)];exact e
 .rw[other b (λz=>by subst z;rw[hP]at e;cases e) (ne' b _ e)];exact e
 .by_cases z:b=P
  .subst z;rw[hP]at e;cases e;exact⟨ps',by rw[AC hPc,AJ]⟩
  .exact⟨#[],by rw[other b z (ne' b _ e),e];simp⟩
 .by_cases z:b=c'
  .subst z;rw[AJ]at e;cases e;obtain⟨c0,o,vs,t,e0,r⟩:=id hrec;cases e0;refine⟨hrec,⟨o,r.1⟩,λh1 h2 q1 k=>?_⟩;obtain⟨c1,o1,vs1,t1,e1,g1,r1⟩:=q1;cases e1;exact⟨_,o1,vs1,t1,rfl,k _ g1,r1⟩
  .by_cases z2:b=P
   .subst z2;rw[AC hPc,AJ]at e;cases e;exact htb
   .rw[other b z2 z]at e;refine(I.hok b u e).stay (λd v hd q=>hx d v ?_ q) (λd q=>?_) λd xs q=>?_
    .rcases hd with rfl|hd
     .exact z2
     .intro y;subst y;rw[hP]at hd;cases hd
    .rw[other d (λy=>by subst y;rw[hP]at q;cases q) (ne' d _ q)];exact q
    .rw[other d (λy=>by subst y;rw[hP]at q;cases q) (ne' d _ q)];exact q
structure Made(X:Cx)(scope:Scope)(params:Arguments)(body:Expr)(P:Addr)(q:Str)(pos:Pos)(s:Shared)(H H':Hp)(f:Addr)(cd ctv:Value)(s':Shared):Prop where
 fn:s'.heap.get? f=some { cls:=.type "function",data:=.func (kla_fn "<lambda>" q params body scope (Al X.env.cells scope.names []) ((X.mg "__name__").getD .none) cd ctv) }
 cdc:∃c,cd=.ref c/\H' c=some (.ext (cdF c q))
 step:TabStep P q pos H H'
 new:s.heap.objs.size<=f
 fre:H' f=none
def Ut(S:CSc X scope fr ix)(LA:LamAt X c P)(I:Inv X O U H s){E:Value->Shared->Prop}{Q:Value->Shared->Prop}(hdef:defaultsOf params X.env=([],[]))
 (hP:H P=some (.tbl ps)) (hg:KA H (X.env.qual++"<lambda>") pos ps)
 (h:∀f cd ctv H' s',Inv X O U H' s'->Made X scope params body P (X.env.qual++"<lambda>") pos s H H' f cd ctv s'->Q (.ref f) s'):
 wpAny (model X.prog X.w) A (eval (.Lambda params body scope pos) X.env) Q E s:=by
 have hcl:closureFor scope X.env=pure (Al X.env.cells scope.names []):=FG (S.clos I.ok);have hns:=I.mod.glob.keeps I.bk;have hb:=LA.bl.keeps I.bk;have hcd:=LA.hd.keeps I.bk;have hobj:s.heap.get? P=some (tabObj ps):=I.hok P _ hP;have hgP:mainGlobals≠P:=λz=>by
  obtain⟨o,es,ep,e,hd,_⟩:=hns;rw[z,hobj]at e;cases e;cases hd
 refine kla_eval hdef ?_;rcases hg with rfl|⟨c',rfl,hc'⟩
 .refine kla_makeFunction hcl I.ok.glob hns LA.code hcd hobj trivial rfl hgP hb λc' ctv h' tk hx hge hlt hrec htb=>?_;have hx':∀b o,b≠P->s.heap.get? b=some o->(h'.push (kla_obj "<lambda>" (X.env.qual++"<lambda>") params body scope (Al X.env.cells scope.names []) ((X.mg "__name__").getD .none) c' ctv)).get? b=some o:=λb o n e=>Heap.get?_push_of_some _ (hx b o n e);have J:=Yc (t':=tk) I hP hx' hge (hrec.push _) (Heap.get?_push_of_some _ htb);refine h _ _ ctv _ _ J ⟨Heap.get?_push_size _ rfl,⟨c',rfl,AJ⟩,.inr ⟨c',I.hok.fresh hge,(AZ hP (I.hok.fresh hge)).symm,?_⟩,?_,?_⟩
  .simp
  .exact jf hge (jR hlt)
  .have hs:s.heap.objs.size<=h'.objs.size:=jf hge (jR hlt);rw[AC (jv hlt),AC (jv (jl (Heap.lt_size hobj) hs))];exact I.hok.fresh hs
 .have hrec:s.heap.CodeRec (.ref c') (X.env.qual++"<lambda>"):=(I.hok c' _ hc').1;have hf:codeAmong pos (#[rawInt pos.line,rawInt pos.col,Value.ref c']:Array Value).toList=some (.ref c'):=by simp[codeAmong,rawInt]
  refine kla_makeFunctionHit hcl I.ok.glob hns LA.code hcd hobj (by simp[TriplesOk,rawInt]) hf hb λctv h' tk hk hsz=>?_;have hk':∀b o,s.heap.get? b=some o->(h'.push { cls:=.type "function",data:=.func (kla_fn "<lambda>" (X.env.qual++"<lambda>") params body scope (Al X.env.cells scope.names []) ((X.mg "__name__").getD .none) (.ref c') ctv) }).get? b=some o:=λb o e=>Heap.get?_push_of_some _ (hk b o e);exact h _ _ ctv _ _ (I.kept (t':=tk) hk') ⟨Heap.get?_push_size _ rfl,⟨c',rfl,hc'⟩,.inl rfl,hsz,I.hok.fresh hsz⟩
end
end L2
namespace L2
open PySem PySem.Spec PyProof.Rows
section
variable{E:Value->Shared->Prop}{R:Result->Shared->Prop}{h:Heap}{t:Nat}{os:OsState}
variable{nm:Str}{hdct:Bool}{sub:List Value}{ab:Bool}
abbrev Gv(C t:Addr):Obj:={ cls:=.ref C,data:=.fields #[.ref t,.none,.none,.none,.bool false,.none] }
def Yk{rest:List Value}(hC:h.get? C=some (excClassObj nm q C N bs bm hdct sn sub ab col dd k0 k1 k2 k3 k5 "ValueError.__new__"))(b1:(Value.ref C::bm).contains (.type "ValueError")=true)
 (b2:(Value.ref C::bm).contains (.type "AttributeError")=false) (b3:(Value.ref C::bm).contains (.type "NameError")=false) (hrest:rest.length<=sizeLine)
 (hq:R (.ok (.ret (.ref (h.objs.size+1)))) ⟨(h.push { cls:=.type "tuple",data:=.seq rest.toArray }).push (Gv C h.objs.size),g,d,t,os⟩):
 codeAny (model prog w) A (.builtin "ValueError.__new__" ⟨.ref C::rest,[]⟩) R ⟨h,g,d,t,os⟩:=by
 have F0:=F.excBase_ValueError;have en:=F0.ends;refine codeAny_builtinAt F0.entry (PySem.wpAt_bind ?_);show PySem.wpAt _ _ _ (stack >>= _) _ _ _;refine PySem.wpAt_bind (PySem.wpAt_stack λp0 below0=>PySem.wpAt_of_wpAny ?_)
 wp_walk;refine PySem.wpAt_of_wpAny ?_;rw[F0.owner]
 repeat (first|with_reducible refine wpAny_madeHere_exc F0.canon hC ?_|with_reducible refine kH hC ?_|(with_reducible refine wpAny_isSubtype_exc hC ?_;first|rw[b1]|rw[b2]|rw[b3])|wp_step)
 show R _ _;rw[Heap.size_push];exact hq
def Sv{rest:List Value}{Q:Unit->Shared->Prop}(hC:h.get? C=some (excClassObj nm q C N bs bm hdct sn sub ab col dd k0 k1 k2 k3 k5 "ValueError.__new__"))(b1:bm.contains (.type "ValueError")=true)
 (hq:Q () ⟨h,g,d,t,os⟩):wpAny M A (checkBuiltinCall "ValueError.__new__" ⟨.ref C::rest,[]⟩) Q E ⟨h,g,d,t,os⟩:=
 wpAny_check_new_subU F.excBase_ValueError b1 .base hC hq
def Ui{rest:List Value}:Heap.MadeExcOf h ((h.push { cls:=.type "tuple",data:=.seq rest.toArray }).push (Gv C h.objs.size)) (h.objs.size+1) (.ref C) rest:=by
 refine⟨λb o e=>Heap.get?_push_of_some _ (Heap.get?_push_of_some _ e),Heap.get?_none_of_le (le_succ _),h.objs.size,?_,Heap.get?_none_of_le (j9 _),Heap.get?_push_of_some _ (Heap.get?_push_at rfl rfl)⟩;exact Heap.get?_push_at (by rw[Heap.size_push]) rfl
def VL{K:Frag}{fI:Addr}{rest:List Value}{Q:Value->Shared->Prop}(X:K.In h)(hC:h.get? C=some (excClassObj nm q C N bs bm hdct sn sub ab col dd k0 k1 k2 k3 k5 "ValueError.__new__"))(b1:bm.contains (.type "ValueError")=true)
 (b2:bm.contains (.type "AttributeError")=false) (b3:bm.contains (.type "NameError")=false) (hi:findIn K (.ref C) "__init__"=some (some (.ref fI))) (hf:PySem.W.typeIn K (.ref fI)=some (.type "function")) (hrest:rest.length<=sizeLine)
 (hq:wpAny (model prog w) (A.under (.builtin "type.__call__" ⟨.ref C::rest,[]⟩)) (call (.ref fI) (.ref (h.objs.size+1)::rest)) (λr s'=>r=.none/\Q (.ref (h.objs.size+1)) s') E ⟨(h.push { cls:=.type "tuple",data:=.seq rest.toArray }).push (Gv C h.objs.size),g,d,t,os⟩):
 wpAny (model prog w) A (call (.ref C) rest) Q E ⟨h,g,d,t,os⟩:=by
 have f1:=tc_lookup;have f2:=tc_bind (.ref C);have hT:(⟨h,g,d,t,os⟩:Shared).TypeIs (.ref C) "type":=⟨_,hC,rfl⟩
 have c1:(Value.ref C::bm).contains (.type "ValueError")=true:=by rw[kE,b1,Bool.or_true]
 have c2:(Value.ref C::bm).contains (.type "AttributeError")=false:=by rw[kE,b2];rfl
 have c3:(Value.ref C::bm).contains (.type "NameError")=false:=by rw[kE,b3];rfl
 have m0:Heap.MadeExcOf h ((h.push { cls:=.type "tuple",data:=.seq rest.toArray }).push (Gv C h.objs.size)) (h.objs.size+1) (.ref C) rest:=Ui;have X1:=X.keeps m0.keeps;have hC1:=m0.keeps _ _ hC;have e1:((h.push { cls:=.type "tuple",data:=.seq rest.toArray }).push (Gv C h.objs.size)).get? (h.objs.size+1)=some { cls:=.ref C,data:=.fields #[.ref h.objs.size,.none,.none,.none,.bool false,.none] }:=Heap.get?_push_at (by rw[Heap.size_push]) rfl;have cc:(Value.ref C::bm).contains (.ref C)=true:=by simp
 refine jS (codeAny_of_tree ?_);show wpAny _ _ (callAny (.ref C) _) _ _ _
 repeat (any_goals (first|assumption|with_reducible refine kH hC ?_|wp_step))
 refine⟨rfl,codeAny_call_builtin_at (Code.quiet_builtin _ (by decide +kernel)) entry_typeCall (wpAny_check_type_call_sub hC ?_)⟩
 repeat (first|with_reducible refine kH hC ?_|with_reducible refine wpAny_madeBy_exc hC ?_|wp_step)
 refine codeAny_call_builtin_code (Code.quiet_builtin _ F.excBase_ValueError.quiet) (Sv hC b1 (Yk hC c1 c2 c3 hrest ?_));show wpAny _ _ _ _ _ _;unfold isInstance
 repeat (first|with_reducible refine kH e1 ?_|(refine wpAny_isSubtype_exc hC1 ?_;rw[cc])|wp_step)
 show wpAny _ _ (typeLookup (.ref C) _) _ _ _;refine PySem.W.Looks.at (PySem.W.looks_findIn X1 hi) (jD (j5 (PySem.W.Looks.at (PySem.W.bind_fn X1 _ hf) (j5 (jn hq (λr s' hr=>?_) λ_ _ x=>x)))))
 obtain⟨rfl,z⟩:=hr
 wp_walk
 exact z
end
end L2
namespace L2
open PySem PySem.Spec PyProof.Rows
open Builtin Builtin.ObjectAttr
inductive OverV:List Value->Prop
 |base:OverV [.type "ValueError",.type "Exception",.type "BaseException",.type "object"]
 |own {c:Addr} {l:List Value}:OverV l->OverV (.ref c::l)
def OverV.sa(self:Value)(h:OverV l):refuseLoop self "__setattr__" l=pure ():=by
 induction h with
 |base=>exact PySem.F.store_ValueError.passes self
 |own _ ih=>rw[refuseLoop_ref];exact ih
def OverV.has(h:OverV l)(e:[Value.type "ValueError",.type "Exception",.type "BaseException",.type "object"].contains (.type x)=true):l.contains (.type x)=true:=by
 induction h with
 |base=>exact e
 |own _ ih=>rw[kE,ih,Bool.or_true]
def OverV.not(h:OverV l)(e:[Value.type "ValueError",.type "Exception",.type "BaseException",.type "object"].contains (.type x)=false):l.contains (.type x)=false:=by
 induction h with
 |base=>exact e
 |own _ ih=>rw[kE,ih];rfl
structure XC(K:Frag)(C fI:Addr):Prop where
 at_:∃nm q N bs bm sn sub ab col dd k0 k1 k2 k3 k5,K.lookup C=some (excClassObj nm q C N bs bm true sn sub ab col dd k0 k1 k2 k3 k5 "ValueError.__new__")/\OverV bm
 init:findIn K (.ref C) "__init__"=some (some (.ref fI))
 fn:PySem.W.isFn K (.ref fI)=true
 kp:keepIn K (.ref C)=true
 sa:findIn K (.ref C) "__setattr__"=some (some (.builtin "object.__setattr__"))
 ga:findIn K (.ref C) "__getattribute__"=some (some (.builtin "BaseException.__getattribute__"))
 gx:findIn K (.ref C) "__getattr__"=some none
section
variable{E:Value->Shared->Prop}{s:Shared}{K:Frag}{fI x:Addr}
def XC.cls(c:XC K C fI):∃cd,PySem.W.clsIn K C=some cd/\OverV cd.mro/\cd.hasDict=true:=by
 obtain⟨nm,q,N,bs,bm,sn,sub,ab,col,dd,k0,k1,k2,k3,k5,e,o⟩:=c.at_;exact⟨_,by unfold PySem.W.clsIn;rw[e],.own o,rfl⟩
def Wb{Q:Unit->Shared->Prop}(X:K.In s.heap)(c:XC K C fI)(hx:s.heap.get? x=some ⟨.ref C,none,.fields vs,sl⟩)(na:findIn K (.ref C) name=some none)
 (h:∀h',h'.get? x=some ⟨.ref C,some s.heap.objs.size,.fields vs,sl⟩->h'.Ns1 s.heap.objs.size (λy=>if y=name then some v else none)->(∀b o,b≠x->s.heap.get? b=some o->h'.get? b=some o)->Q () { s with heap:=h',toks:=s.toks+2 }):
 wpAny (model prog w) A (setAttr (.ref x) name v) Q E s:=by
 have SF:=PySem.F.store_object;have I:PySem.W.InstAt s.heap x ⟨.ref C,none,.fields vs,sl⟩ C none:=⟨hx,rfl,rfl,True.intro⟩
 obtain⟨cd,hc,ov,hd⟩:=c.cls;have ne:cd.mro.isEmpty=false:=by cases q:cd.mro with|nil=>rw[q]at ov;cases ov|cons _ _=>rfl
 have sub:Looks (model prog w) s.heap (isInstance (.ref x) (.type "object")) true:=
  I.type.andThen (PySem.W.looks_mroIn X (by unfold mroIn;rw[hc,bind_some,j7 (by rw[ne];decide),ov.has (by decide +kernel)]))
 have hm:Looks (model prog w) s.heap (mroOf (.ref C)) cd.mro:=(PySem.W.looks_clsIn X hc).andThen .now;refine PySem.W.set_plain X I c.sa (kJ SF.slot.plain SF.entry (@PySem.W.check_slot (model prog w) _ _ _ "object.__setattr__" "object" "__setattr__" (.ref x) [.str name s.toks,v] [] _ SF.kind SF.split sub (SF.args (.ref x) (.str name s.toks) v) ?_));rw[PySem.W.osa_eq,refuse_eq];refine j5 (j5 (I.type.here (s:={ s with toks:=s.toks+1 }) (j5 (hm.here (s:={ s with toks:=s.toks+1 }) ?_))));rw[ov.sa];refine j8 (j5 (I.type.here (s:={ s with toks:=s.toks+1 }) (j5 ((PySem.W.looks_findIn X na).here (s:={ s with toks:=s.toks+1 }) (j5 (j8 ?_))))));have hxs:x≠s.heap.objs.size:=jb (Heap.lt_size hx);have hx1:(s.heap.push { cls:=.type "dict",data:=.dict #[] }).get? x=some ⟨.ref C,none,.fields vs,sl⟩:=Heap.get?_push_of_some _ hx;refine j5 (j8 (j5 (j5 (wpAny_loadPart hx (j5 (PySem.W.Looks.here (s:={ s with toks:=s.toks+1 }) (PySem.W.looks_clsIn X hc) ?_))))));rw[hd];show wpAny _ _ (do let d <- alloc { cls:=.type "dict",data:=.dict #[] };update x λo=>{ cls:=o.cls,dict:=some d,data:=o.data,slots:=o.slots };dictMade (.ref C) x d) _ _ _;refine j5 (wpAny_alloc' (j5 (wpAny_update' hx1 ?_)));generalize hh:((s.heap.push { cls:=.type "dict",data:=.dict #[] }).update x λo=>{ cls:=o.cls,dict:=some s.heap.objs.size,data:=o.data,slots:=o.slots })=h2;have g1:h2.get? s.heap.objs.size=some { cls:=.type "dict",data:=.dict #[] }:=by rw[<- hh];exact(Heap.get?_update_ne _ _ _ _ hxs.symm).trans (Heap.get?_push_at rfl rfl)
 have g2:h2.get? x=some ⟨.ref C,some s.heap.objs.size,.fields vs,sl⟩:=by rw[<- hh];exact Heap.get?_update_self _ hx1 rfl
 have g3:∀b o,b≠x->s.heap.get? b=some o->h2.get? b=some o:=λb o n e=>by rw[<- hh];exact(Heap.get?_update_ne _ _ _ _ n).trans (Heap.get?_push_of_some _ e)
 have hnd:h2.Ns s.heap.objs.size (λ_=>none):=⟨_,#[],_,g1,rfl,λe he=>absurd he (by simp),λ_=>rfl⟩
 refine j8 ?_;show wpAny _ _ (storeInDict s.heap.objs.size (.str name s.toks) name v) _ _ _;unfold storeInDict newKeyGuard;refine j5 (j8 (j5 (wpAny_nsSet1 (Heap.Ns1.of_empty hnd) λh' hn' hs=>?_)));obtain⟨oD,esD,epD,hoD,hdD,hcD⟩:=hn'.count (Within.cons name v Within.nil);refine j5 (wpAny_lookBehind hoD (by rw[hdD];exact pastItsLine_dict (jf hcD (by rw[jK,length_nil,jw];omega))) ?_);exact j8 (h h' ((hs.2 x hxs).trans g2) hn' λb o n e=>(hs.2 b (jb (Heap.lt_size e))).trans (g3 b o n e))
end
section
variable{E:Value->Shared->Prop}{s:Shared}{K:Frag}{fI x:Addr}{mA:Str->Option Value}
def Yi{expr:Bool}{Q:Value->Shared->Prop}(X:K.In s.heap)(c:XC K C fI)(hx:s.heap.get? x=some ⟨.ref C,some dx,.fields vs,sl⟩)(hn:s.heap.Ns1 dx mA)(na:findIn K (.ref C) name=some none)(hv:mA name=some v)
 (hh:PySem.W.handedIn v=true) (h:Q v { s with toks:=s.toks+1 }):wpAny (model prog w) A (getAttr (.ref x) name expr) Q E s:=by
 obtain⟨od,ho,hl⟩:=GK hn;obtain⟨hp,g,d,t,os⟩:=s;have I:PySem.W.InstAt hp x ⟨.ref C,some dx,.fields vs,sl⟩ C (some od):=⟨hx,rfl,rfl,ho⟩
 obtain⟨cd,hc,ov,hd⟩:=c.cls;have hhd:PySem.W.hasDictIn K C=true:=by unfold PySem.W.hasDictIn;rw[hc];exact hd
 have L0:Looks (model prog w) hp (typeOf (.ref x)) (.ref C):=I.type;have L1:Looks (model prog w) hp (find (.ref x) (.ref C) name) (.value v):=PySem.W.looks_find X I (PySem.W.findObj_own hhd na rfl (by rw[hl,hv]));have L2:Looks (model prog w) hp (typeLookup (.ref C) "__getattribute__") (some (.builtin "BaseException.__getattribute__")):=PySem.W.looks_findIn X c.ga;have L3:Looks (model prog w) hp (hookBefore (.ref C)) none:=PySem.W.looks_hook X c.gx;have ne:cd.mro.isEmpty=false:=by cases q:cd.mro with|nil=>rw[q]at ov;cases ov|cons _ _=>rfl
 have sub:Looks (model prog w) hp (isInstance (.ref x) (.type "BaseException")) true:=
  I.type.andThen (PySem.W.looks_mroIn X (by unfold mroIn;rw[hc,bind_some,j7 (by rw[ne];decide),ov.has (by decide +kernel)]))
 have hx2:(Value.builtin "BaseException.__getattribute__"==Value.builtin "object.__getattribute__")=false:=by decide +kernel
 have hx1:(onTheHeap (Value.ref C)&&Value.builtin "BaseException.__getattribute__"==Value.builtin "object.__getattribute__")=false:=by rw[hx2];rfl
 unfold getAttr getAttrBy;refine j5 (wpAny_mkText (jD (j5 (L0.at (j5 (L2.at ?_))))));dsimp only;rw[j7 (by rw[hx1];exact Bool.false_ne_true)];unfold getAttrByItsOwn;refine j5 (L3.at (j5 (kK (jD ?_))));have hx0:(expr&&onTheHeap (Value.builtin "BaseException.__getattribute__"))=false:=by cases expr<;>rfl
 have FB:=F.attrBase_ValueError;have hk:builtinKind "BaseException.__getattribute__"=some .slot:=by decide +kernel
 have hs:splitId "BaseException.__getattribute__"=some ("BaseException","__getattribute__"):=by decide +kernel
 unfold callGetattribute boundAndCalled;rw[j7 (by rw[hx0];exact Bool.false_ne_true),FB.ga.bind];refine j5 (j8 (jS (kJ FB.ga.plain F.entry_bexc_ga (@PySem.W.check_slot (model prog w) _ _ _ "BaseException.__getattribute__" "BaseException" "__getattribute__" (.ref x) [.str name t] [] _ hk hs sub (F.args_bexc_ga _ _) ?_))));refine j5 (j8 (j5 (j8 (j5 (L0.at (j5 (L1.at ?_)))))));refine j8 ?_;show wpAny _ _ (handedOut v) _ _ _;rw[PySem.W.handedOut_of hh];exact j8 h
def S4{Q:Flow->Shared->Prop}(hh:A.handled=none)(c:XC K C fI)
 (h:wpAny M A (eval xe env) (λv s1=>∃e t dx sl,v=.ref e/\K.In s1.heap/\s1.heap.get? e=some ⟨.ref C,dx,.fields #[.ref t,.none,.none,.none,.bool false,.none],sl⟩/\E (.ref e) s1) E s):
 wpAny M A (exec (.Raise (some xe) none pos) env) Q E s:=by
 obtain⟨nm,q,N,bs,bm,sn,sub,ab,col,dd,k0,k1,k2,k3,k5,lk,ov⟩:=c.at_;have cb:(Value.ref C::bm).contains (.type "BaseException")=true:=(OverV.own ov).has (by decide +kernel);rw[arm_exec_Raise];refine j5 (kD ?_);show wpAny _ _ (raiseStmt env (some (do let v <- eval xe env;standAt pos;pure v)) none) _ _ _;unfold raiseStmt;refine j5 (j5 (jn h (λv s1 h1=>?_) λ_ _ z=>z));obtain⟨e,t,dx,sl,rfl,X,he,hE⟩:=h1;have hC:=X _ _ lk;refine j5 (kD (j8 ?_));obtain⟨hp,g,d,tk,os⟩:=s1
 repeat (first|with_reducible refine kH he ?_|with_reducible refine kH hC ?_|(with_reducible refine wpAny_isSubtype_exc hC ?_;rw[cb])|wp_step)
 exact wpAny_raiseNew_none hh hE
end
end L2
namespace L2
open PySem PySem.Spec PyProof.Rows
def Exo(h:Heap)(a C:Addr)(dx:Option Addr)(tb:Value):Prop:=∃vs sl,h.get? a=some ⟨.ref C,dx,.fields vs,sl⟩/\vs[1]?=some tb
structure Note(fs:List Addr)(a:Addr)(tb:Value)(h h':Heap):Prop where
 keep:∀b o,h.get? b=some o->b≠a->.ref b≠tb->b∉fs->h'.get? b=some o
 slot:∀b o,h.get? b=some o->b∈fs->∃sl,h'.get? b=some { o with slots:=sl }
 there:∀b o,h.get? b=some o->∃o',h'.get? b=some o'
end L2
namespace L2
open PySem PySem.Spec PyProof.Rows
open Builtin Builtin.ObjectAttr
section
variable{E:Value->Shared->Prop}{s:Shared}{K:Frag}{fI:Addr}{mA:Str->Option Value}
structure XI(K:Frag)(C:Addr):Prop where
 ca:findIn K (.ref C) "__class__"=some (some (.builtin "object.__class__"))
 gd:PySem.W.specialIn K (.builtin "object.__class__") "__get__"=some (some (.builtin "getset_descriptor.__get__"))
 tk:PySem.W.takesIn K (.builtin "object.__class__")=some true
 mo:mroIn K C (.type "object")=some true
def Sd(hc:(PySem.W.clsIn K C).isSome=true)(ha:findIn K (.ref C) name=some (some a))(hg:PySem.W.specialIn K a "__get__"=some (some g))(ht:PySem.W.takesIn K a=some true):PySem.W.findObj K C od name=some (.bind g a):=by
 obtain⟨cd,hc⟩:=isSome_iff_exists.mp hc;unfold PySem.W.findObj;rw[hc,bind_some,ha,bind_some];simp[hg,ht]
def Ss{Q:Option Value->Shared->Prop}(X:K.In s.heap)(c:XC K C fI)(i:XI K C)(I:PySem.W.InstAt s.heap x ⟨.ref C,dx,.fields vs,sl⟩ C od)
 (h:Q (some (.ref C)) { s with toks:=s.toks+1 }):wpAny (model prog w) A (getAttr? (.ref x) "__class__") Q E s:=by
 obtain⟨hp,g,d,t,os⟩:=s;obtain⟨cd,hc,ov,hd⟩:=c.cls;have L0:Looks (model prog w) hp (typeOf (.ref x)) (.ref C):=I.type;have L1:Looks (model prog w) hp (find (.ref x) (.ref C) "__class__") (.bind (.builtin "getset_descriptor.__get__") (.builtin "object.__class__")):=
  PySem.W.looks_find X I (Sd (by rw[hc];rfl) i.ca i.gd i.tk)
 have L2:Looks (model prog w) hp (typeLookup (.ref C) "__getattribute__") (some (.builtin "BaseException.__getattribute__")):=PySem.W.looks_findIn X c.ga;have L3:Looks (model prog w) hp (hookBefore (.ref C)) none:=PySem.W.looks_hook X c.gx;have ne:cd.mro.isEmpty=false:=by cases q:cd.mro with|nil=>rw[q]at ov;cases ov|cons _ _=>rfl
 have sub:Looks (model prog w) hp (isInstance (.ref x) (.type "BaseException")) true:=
  I.type.andThen (PySem.W.looks_mroIn X (by unfold mroIn;rw[hc,bind_some,j7 (by rw[ne];decide),ov.has (by decide +kernel)]))
 have hx2:(Value.builtin "BaseException.__getattribute__"==Value.builtin "object.__getattribute__")=false:=by decide +kernel
 have hx1:(onTheHeap (Value.ref C)&&Value.builtin "BaseException.__getattribute__"==Value.builtin "object.__getattribute__")=false:=by rw[hx2];rfl
 have FB:=F.attrBase_ValueError;have hk:builtinKind "BaseException.__getattribute__"=some .slot:=by decide +kernel
 have hs:splitId "BaseException.__getattribute__"=some ("BaseException","__getattribute__"):=by decide +kernel
 unfold getAttr? getAttrBy? getAttrBy;refine j5 (wpAny_mkText (j5 (kK (jD (j5 (L0.at (j5 (L2.at ?_))))))));dsimp only;rw[j7 (by rw[hx1];exact Bool.false_ne_true)];unfold getAttrByItsOwn;refine j5 (L3.at (j5 (kK (jD ?_))));unfold callGetattribute boundAndCalled;rw[j7 (by exact Bool.false_ne_true),FB.ga.bind];refine j5 (j8 (jS (kJ FB.ga.plain F.entry_bexc_ga (@PySem.W.check_slot (model prog w) _ _ _ "BaseException.__getattribute__" "BaseException" "__getattribute__" (.ref x) [.str "__class__" t] [] _ hk hs sub (F.args_bexc_ga _ _) ?_))));refine j5 (j8 (j5 (j8 (j5 (L0.at (j5 (L1.at ?_)))))));show wpAny _ _ (bindTo _ _ _ _) _ _ _;unfold bindTo;refine j5 (jD (jS (PySem.W.class_get (s:=⟨hp,g,d,t+1,os⟩) (od:=od) X I i.mo ?_)));refine j8 ?_;show wpAny _ _ (handedOut (.ref C)) _ _ _;rw[PySem.W.handedOut_of rfl];exact j8 (j8 h)
def NL(c:XC K C fI)(i:XI K C):PySem.W.KitX K (.ref x) (.ref C) (λh=>∃dx vs sl od,PySem.W.InstAt h x ⟨.ref C,dx,.fields vs,sl⟩ C od) where
 ty:=λ_ _ _ ⟨_,_,_,_,I⟩=>I.type
 it:=λ_ _ X _=>by
  obtain⟨nm,q,N,bs,bm,sn,sub,ab,col,dd,k0,k1,k2,k3,k5,lk,ov⟩:=c.at_;intro A' Q' E' s' k q';unfold isType loadHead;exact j5 (wpAny_loadPart (k _ _ (X _ _ lk)) (j8 q'))
 ne:=λh tp dd its n sl X htp=>by
  obtain⟨nm,q,N,bs,bm,sn,sub,ab,col,dd',k0,k1,k2,k3,k5,lk,ov⟩:=c.at_;refine Bool.eq_false_iff.mpr λq'=>?_;have e:C=tp:=Value.ref.inj (beq_iff_eq.mp q');subst e;have z:=(X _ _ lk).symm.trans htp;exact absurd (jy Obj.data (Option.some.inj z)) (by intro q;cases q)
 ca:=λX ⟨_,_,_,_,I⟩ k=>Ss X c i I k
end
def X0(a C t:Addr)(h:Heap):Prop:=h.get? a=some (Gv C t)
def X1(a C dx t:Addr)(h:Heap):Prop:=h.get? a=some ⟨.ref C,some dx,.fields #[.ref t,.none,.none,.none,.bool false,.none],#[]⟩
def XO(a C:Addr)(dx:Option Addr)(h:Heap):Prop:=∃tb,Exo h a C dx tb
def XdAt(H:Hp):Option Addr->List (Str×V)->Prop
 |none,fs=>fs=[]
 |some d,fs=>H d=some (.xd fs)
def New(X:Cx)(O:List (Addr×Obj))(b:Addr):Prop:=(b∈X.ex∨X.s₀.heap.objs.size<=b)/\b≠X.env.locals/\(∀x c,X.env.cells.lookup x=some c->c≠b)/\∀p∈X.pn++O,p.1≠b
def Inv.new(I:Inv X O U H s)(h:s.heap.objs.size<=b):New X O b:=by
 refine⟨.inr (jf I.sz h),jv (jl I.lt h),λx c e=>?_,λp hp=>?_⟩
 .obtain⟨v,o,ho,_⟩:=I.cell x c e;exact jb (jl (Heap.lt_size ho) h)
 .exact jb (jl (Heap.lt_size (I.pin p hp).1) h)
section
def NA{T:Addr}(hok:HOk P w H h)(N:Note fs a tb h h')(hx:Exo h' a C dx (.ref T))(ha:H a=some (.ext (XO a C dx)))(hT:∀T,tb=.ref T->H T=none)(hf:∀b∈fs,H b=none):HOk P w H h':=by
 have k:∀b o u,H b=some o->b≠a->h.get? b=some u->h'.get? b=some u:=λb o u q n e=>N.keep b u e n (λz=>by rw[hT b z.symm]at q;cases q) λz=>by rw[hf b z]at q;cases q
 intro b o q;by_cases n:b=a
 .subst n;rw[ha]at q;cases q;obtain⟨vs,sl,e1,e2⟩:=id hx;refine⟨⟨_,hx⟩,⟨_,e1⟩,λh1 h2 ⟨tb,vs,sl,e,z⟩ k=>⟨tb,vs,sl,k _ e,z⟩⟩
 .refine(hok b o q).stay (λc u hc e=>?_) (λ_ z=>z) λ_ _ z=>z;rcases hc with rfl|hc
  .exact k c o u q n e
  .exact k c _ u hc (λz=>by subst z;rw[ha]at hc;cases hc) e
end
end L2
namespace L2
open PySem PySem.Spec PyProof.Rows
def XdAt.grow(g:Grow H H')(h:XdAt H dx fs):XdAt H' dx fs:=by
 cases dx with
 |none=>exact h
 |some d=>exact g.keep _ _ trivial h
def ExR(K:Frag)(nm:Str)(fs:List Str)(H:Hp)(a:Addr)(xs:List V):Prop:=∃C dx,clsAt K nm=some C/\H a=some (.ext (XO a C dx))/\XdAt H dx (fs.zip xs)/\xs.length=fs.length
theorem ExR.grow{K:Frag}{nm:Str}(g:Grow H H')(h:ExR K nm fs H a xs):ExR K nm fs H' a xs:=
 let ⟨C,dx,h1,h2,h3,h4⟩:=h;⟨C,dx,h1,g.keep _ _ trivial h2,h3.grow g,h4⟩
inductive I where
 |non|bl (b:Bool)|int (i:Int)|str (x:Str)|tup (ds:List I)
inductive D where
 |im (i:I)|mu (n:Nat)|tm (ds:List D)|ro (ns:List Int)|op (nm:Str) (fs:List Str) (ds:List D)
inductive MO where
 |lst (ds:List D)|dic (kvs:List (Key×D))
abbrev Hd:=List MO
abbrev Ls:=List (Option D)
def RoL(K:Frag)(H:Hp)(a:Addr)(xs:List V):Prop:=(∃o,H a=some (.frz o (.lst xs))) ∨
 ∃(o:Obj) (its:Array Value) (n:Nat),K.lookup a=some o/\o.cls=.type "list"/\o.dict=none/\o.data=.seq its n/\its.size<=sizeLine/\Vals xs its.toList
def RoL.sq{K:Frag}(h:RoL K H a xs):SqL K H a xs:=by
 rcases h with⟨o,h⟩|h
 .exact .inl (.inr ⟨o,h⟩)
 .exact .inr h
def RoL.grow{K:Frag}(g:Grow H H')(h:RoL K H a xs):RoL K H' a xs:=by
 rcases h with⟨o,h⟩|h
 .exact .inl ⟨o,g.frz _ _ _ h⟩
 .exact .inr h
def Cq(n:Nat):Prop:=n<=sizeLine
def HL(n:Nat):Prop:=n<sizeLine
def GG(i j:Int):Prop:=(-(2^64)<i/\i<2^64)∨(-(2^64)<j/\j<2^64)
def M3(i j:Int):Prop:=0<=j/\j<=1000000/\i.natAbs<2^64
def K4(j:Int):Prop:=0<j/\j<1073741824
def DJ(j:Int):Prop:=0<j
def KS(j:Int):Prop:=-(2^62)<=j/\j<2^62
def Tq(i j:Int):Prop:=(-(2^62)<=i/\i<2^62)/\-(2^62)<=j/\j<2^62
def Vd(j:Int):Prop:=j<2^24/\-(2^62)<=j
def Vc(i j:Int):Prop:=(-(2^62)<=i/\i<2^62)/\(-(2^62)<=j/\j<2^62)/\(j-i).toNat<=2^24
def fN(n:Nat):Prop:=n<1920
def Ai{n:Nat}(h:n<=1000000):Cq n:=jf h (by rw[jw];decide)
def JR{n:Nat}(h:n<1000000):HL n:=jl h (by rw[jw];decide)
def FY{i j:Int}(a:-1000000000000<=i)(b:i<=1000000000000):GG i j:=.inl ⟨by omega,by omega⟩
def FX{j:Int}(a:-1000000000000<=j)(b:j<=1000000000000):KS j:=⟨by omega,by omega⟩
section
variable(K:Frag)
mutual
def RI(H:Hp):I->V->Prop
 |.non,v=>v=.non
 |.bl b,v=>v=.bl b
 |.int i,v=>v=.int i
 |.str x,v=>v=.str x
 |.tup ds,v=>∃a xs,v=.ref a/\SqT K H a xs/\RIs H ds xs
def RIs(H:Hp):List I->List V->Prop
 |[],xs=>xs=[]
 |d::ds,xs=>∃x r,xs=x::r/\RI H d x/\RIs H ds r
end
mutual
def RD(ρ:List Addr)(H:Hp):D->V->Prop
 |.im i,v=>RI K H i v
 |.mu n,v=>∃a,ρ[n]?=some a/\v=.ref a
 |.tm ds,v=>∃a xs,v=.ref a/\SqT K H a xs/\RDs ρ H ds xs
 |.ro ns,v=>∃a,v=.ref a/\RoL K H a (ns.map V.int)
 |.op nm fs ds,v=>∃a xs,v=.ref a/\ExR K nm fs H a xs/\RDs ρ H ds xs
def RDs(ρ:List Addr)(H:Hp):List D->List V->Prop
 |[],xs=>xs=[]
 |d::ds,xs=>∃x r,xs=x::r/\RD ρ H d x/\RDs ρ H ds r
end
def RKs(ρ:List Addr)(H:Hp):List (Key×D)->List (Key×V)->Prop
 |[],xs=>xs=[]
 |d::ds,xs=>∃x r,xs=x::r/\x.1=d.1/\RD K ρ H d.2 x.2/\RKs ρ H ds r
def RC(ρ:List Addr)(H:Hp):MO->HO->Prop
 |.lst ds,o=>∃xs,o=.lst xs/\RDs K ρ H ds xs
 |.dic kvs,o=>∃kv,o=.dK kv/\RKs K ρ H kvs kv
def Lr:List Value->List (Addr×Str×Pos)
 |.ref P::.str q _::.int l _::.int c _::r=>(P,q,⟨l.toNat,c.toNat,0,0⟩)::Lr r
 |_=>[]
def dF(o:Obj):List (Addr×Str×Pos):=match o.cls,o.data with
 |.str _ _,.fields vs=>Lr vs.toList
 |_,_=>[]
def DN(K:Frag):List (Addr×Str×Pos):=match K.getLast? with
 |some p=>dF p.2
 |none=>[]
def TabsOk(K:Frag)(H:Hp):Prop:=∀x∈DN K,∃ps,H x.1=some (.tbl ps)/\KA H x.2.1 x.2.2 ps
structure RH(ρ:List Addr)(H:Hp)(hd:Hd):Prop where
 len:ρ.length=hd.length
 nd:ρ.Nodup
 tabs:TabsOk K H
 ob:∀(n:Nat) (o:MO) (a:Addr),hd[n]?=some o->ρ[n]?=some a->∃ho,H a=some ho/\RC K ρ H o ho
structure RL(ρ:List Addr)(H:Hp)(ls:Ls)(U:St):Prop where
 len:ls.length=U.length
 ob:∀(i:Nat) (d:D),ls[i]?=some (some d)->∃v,U[i]?=some (some v)/\RD K ρ H d v
end
structure Ext(ρ:List Addr)(H:Hp)(ρ':List Addr)(H':Hp):Prop where
 pre:∃r,ρ'=ρ++r/\∀b∈r,H b=none
 keep:∀b o,H b=some o->b∉ρ->(∀ps,o≠.tbl ps)->H' b=some o
 tab:∀b ps,H b=some (.tbl ps)->∃ps',H' b=some (.tbl ps')
def nt{o:HO}(h:match o with|.tbl _=>False|_=>True:=by trivial):∀ps,o≠.tbl ps:=λps e=>by subst e;exact h
theorem TabsOk.upd{K:Frag}(t:TabsOk K H)(h1:∀ps,H a≠some (.tbl ps))(h2:∀φ,H a≠some (.ext φ)):TabsOk K (upd H a ho):=λx hx=>by
 obtain⟨ps,e,g⟩:=t x hx;have ne:x.1≠a:=λz=>h1 ps (by rw[<- z];exact e);refine⟨ps,by rw[AC ne];exact e,?_⟩;rcases g with g|⟨c,g1,g2⟩
 .exact .inl g
 .have nc:c≠a:=λz=>h2 _ (by rw[<- z];exact g2);exact .inr ⟨c,g1,by rw[AC nc];exact g2⟩
section
variable{K:Frag}{hd':Hd}
mutual
theorem RI.grow(g:Grow H H'):∀{i:I} {v:V},RI K H i v->RI K H' i v
 |.non,v,h=>by simpa only[RI]using h
 |.bl b,v,h=>by simpa only[RI]using h
 |.int b,v,h=>by simpa only[RI]using h
 |.str b,v,h=>by simpa only[RI]using h
 |.tup ds,v,h=>by
  simp only[RI]at h ⊢;obtain⟨a,xs,e,q,r⟩:=h;exact⟨a,xs,e,g.sq q,RIs.grow g r⟩
theorem RIs.grow(g:Grow H H'):∀{i:List I} {v:List V},RIs K H i v->RIs K H' i v
 |[],v,h=>by simpa only[RIs]using h
 |d::ds,v,h=>by
  simp only[RIs]at h ⊢;obtain⟨x,r,e,q,z⟩:=h;exact⟨x,r,e,q.grow g,RIs.grow g z⟩
end
def RH.mut(h:RH K ρ H hd)(m:a∈ρ):(∃xs,H a=some (.lst xs))∨∃kv,H a=some (.dK kv):=by
 obtain⟨n,e⟩:=mem_iff_getElem?.mp m;have hn:n<hd.length:=by rw[<- h.len];exact(List.getElem?_eq_some_iff.mp e).1
 obtain⟨ho,e1,e2⟩:=h.ob n hd[n] a (by simp[hn]) e;cases q:hd[n]with
 |lst ds=>rw[q]at e2;obtain⟨xs,rfl,_⟩:=e2;exact .inl ⟨xs,e1⟩
 |dic ds=>rw[q]at e2;obtain⟨xs,rfl,_⟩:=e2;exact .inr ⟨xs,e1⟩
def RH.stb_out(h:RH K ρ H hd)(s:Stb o)(e:H a=some o):a∉ρ:=λm=>by
 rcases h.mut m with⟨y,z⟩|⟨y,z⟩<;>(rw[e]at z;cases z;exact s)
def ZK(s:Stb o):∀ps,o≠.tbl ps:=λps e=>by subst e;exact s
def Ext.grow(e:Ext ρ H ρ' H')(h:RH K ρ H hd):Grow H H':=⟨λb o s q=>e.keep b _ q (h.stb_out s q) (ZK s)⟩
def Ext.refl:Ext ρ H ρ H:=⟨⟨[],by simp,by simp⟩,λ_ _ h _ _=>h,λ_ ps h=>⟨ps,h⟩⟩
def Ext.trans(e:Ext ρ H ρ1 H1)(h0:RH K ρ1 H1 hd1)(e2:Ext ρ1 H1 ρ2 H2):Ext ρ H ρ2 H2:=by
 obtain⟨r1,rfl,f1⟩:=e.pre;obtain⟨r2,rfl,f2⟩:=e2.pre;refine⟨⟨r1++r2,by simp,λb m=>?_⟩,λb o q n t=>?_,λb ps q=>?_⟩
 .rcases mem_append.mp m with m|m
  .exact f1 b m
  .have z:=f2 b m;cases q:H b with
   |none=>rfl
   |some o=>
    by_cases n:b∈ρ
    .rcases h0.mut (jU r1 n)with⟨y,w⟩|⟨y,w⟩<;>(rw[z]at w;cases w)
    .by_cases t:∃ps,o=.tbl ps
     .obtain⟨ps,rfl⟩:=t;obtain⟨ps',this⟩:=e.tab b ps q;rw[z]at this;cases this
     .have:=e.keep b o q n λps y=>t ⟨ps,y⟩;rw[z]at this;cases this
 .refine e2.keep b o (e.keep b o q n t) (λm=>?_) t;rcases mem_append.mp m with m|m
  .exact n m
  .have:=f1 b m;rw[q]at this;cases this
 .obtain⟨ps',q'⟩:=e.tab b ps q;exact e2.tab b ps' q'
mutual
theorem RD.mono(g:Grow H H')(r:List Addr):∀{d:D} {v:V},RD K ρ H d v->RD K (ρ++r) H' d v
 |.im i,v,h=>by simp only[RD]at h ⊢;exact h.grow g
 |.mu n,v,h=>by
  simp only[RD]at h ⊢;obtain⟨a,e,q⟩:=h;exact⟨a,by rw[List.getElem?_append_left (List.getElem?_eq_some_iff.mp e).1];exact e,q⟩
 |.tm ds,v,h=>by
  simp only[RD]at h ⊢;obtain⟨a,xs,e,q,z⟩:=h;exact⟨a,xs,e,g.sq q,RDs.mono g r z⟩
 |.ro ns,v,h=>by
  simp only[RD]at h ⊢;obtain⟨a,e,q⟩:=h;exact⟨a,e,q.grow g⟩
 |.op nm fs ds,v,h=>by
  simp only[RD]at h ⊢;obtain⟨a,xs,e,q,z⟩:=h;exact⟨a,xs,e,q.grow g,RDs.mono g r z⟩
theorem RDs.mono(g:Grow H H')(r:List Addr):∀{d:List D} {v:List V},RDs K ρ H d v->RDs K (ρ++r) H' d v
 |[],v,h=>by simpa only[RDs]using h
 |d::ds,v,h=>by
  simp only[RDs]at h ⊢;obtain⟨x,r',e,q,z⟩:=h;exact⟨x,r',e,q.mono g r,RDs.mono g r z⟩
end
theorem RKs.mono(g:Grow H H')(r:List Addr):∀{d:List (Key×D)} {v:List (Key×V)},RKs K ρ H d v->RKs K (ρ++r) H' d v
 |[],v,h=>by simpa only[RKs]using h
 |d::ds,v,h=>by
  simp only[RKs]at h ⊢;obtain⟨x,r',e,q1,q,z⟩:=h;exact⟨x,r',e,q1,q.mono g r,RKs.mono g r z⟩
theorem RC.mono(g:Grow H H')(r:List Addr)(h:RC K ρ H o ho):RC K (ρ++r) H' o ho:=by
 cases o with
 |lst ds=>obtain⟨xs,e,q⟩:=h;exact⟨xs,e,q.mono g r⟩
 |dic ds=>obtain⟨xs,e,q⟩:=h;exact⟨xs,e,q.mono g r⟩
def RD.ext(h:RH K ρ H hd)(e:Ext ρ H ρ' H')(q:RD K ρ H d v):RD K ρ' H' d v:=by
 obtain⟨r,rfl,_⟩:=e.pre;exact q.mono (e.grow h) r
def RDs.ext(h:RH K ρ H hd)(e:Ext ρ H ρ' H')(q:RDs K ρ H d v):RDs K ρ' H' d v:=by
 obtain⟨r,rfl,_⟩:=e.pre;exact q.mono (e.grow h) r
theorem RL.ext(h:RH K ρ H hd)(e:Ext ρ H ρ' H')(q:RL K ρ H ls U):RL K ρ' H' ls U:=
 ⟨q.len,λi d z=>let ⟨v,a,b⟩:=q.ob i d z;⟨v,a,b.ext h e⟩⟩
theorem RDs.len:∀{ds:List D} {xs:List V},RDs K ρ H ds xs->xs.length=ds.length
 |[],xs,h=>by simp only[RDs]at h;rw[h];rfl
 |d::ds,xs,h=>by
  simp only[RDs]at h;obtain⟨x,r,rfl,_,z⟩:=h;simp[RDs.len z]
theorem RDs.get:∀{ds:List D} {xs:List V} {i:Nat} {d:D},RDs K ρ H ds xs->ds[i]?=some d->∃x,xs[i]?=some x/\RD K ρ H d x
 |[],xs,i,d,h,e=>by simp at e
 |d::ds,xs,0,e,h,q=>by
  simp only[RDs]at h;obtain⟨x,r,rfl,z,_⟩:=h;simp at q;subst q;exact⟨x,rfl,z⟩
 |d::ds,xs,i+1,e,h,q=>by
  simp only[RDs]at h;obtain⟨x,r,rfl,_,z⟩:=h;obtain⟨y,a,b⟩:=RDs.get (i:=i) z (by simpa using q);exact⟨y,by simpa using a,b⟩
def RDs.nil:RDs K ρ H [] []:=by simp[RDs]
def RDs.cons(h:RD K ρ H d v)(t:RDs K ρ H ds vs):RDs K ρ H (d::ds) (v::vs):=by
 simp only[RDs];exact⟨v,vs,rfl,h,t⟩
theorem RDs.app:∀{ds es:List D} {xs ys:List V},RDs K ρ H ds xs->RDs K ρ H es ys->RDs K ρ H (ds++es) (xs++ys)
 |[],es,xs,ys,h,t=>by simp only[RDs]at h;subst h;simpa using t
 |d::ds,es,xs,ys,h,t=>by
  simp only[RDs]at h;obtain⟨x,r,rfl,z,q⟩:=h;simp only[jP];exact .cons z (q.app t)
theorem RDs.drop:∀{ds:List D} {xs:List V} (n:Nat),RDs K ρ H ds xs->RDs K ρ H (ds.drop n) (xs.drop n)
 |ds,xs,0,h=>by simpa using h
 |[],xs,n+1,h=>by simp only[RDs]at h;subst h;simp[RDs]
 |d::ds,xs,n+1,h=>by
  simp only[RDs]at h;obtain⟨x,r,rfl,z,q⟩:=h;simpa using q.drop n
theorem RDs.take:∀{ds:List D} {xs:List V} (n:Nat),RDs K ρ H ds xs->RDs K ρ H (ds.take n) (xs.take n)
 |ds,xs,0,h=>by simp[RDs]
 |[],xs,n+1,h=>by simp only[RDs]at h;subst h;simp[RDs]
 |d::ds,xs,n+1,h=>by
  simp only[RDs]at h;obtain⟨x,r,rfl,z,q⟩:=h;simpa using RDs.cons z (q.take n)
theorem RIs.ds:∀{is:List I} {xs:List V},RIs K H is xs->RDs K ρ H (is.map D.im) xs
 |[],xs,h=>by simpa only[RIs,RDs,map_nil]using h
 |i::is,xs,h=>by
  simp only[RIs]at h;obtain⟨x,r,rfl,z,q⟩:=h;exact .cons (by simpa only[RD]using z) q.ds
theorem RDs.is:∀{is:List I} {xs:List V},RDs K ρ H (is.map D.im) xs->RIs K H is xs
 |[],xs,h=>by simpa only[RIs,RDs,map_nil]using h
 |i::is,xs,h=>by
  simp only[jc,RDs]at h;obtain⟨x,r,rfl,z,q⟩:=h;simp only[RIs];exact⟨x,r,rfl,by simpa only[RD]using z,q.is⟩
def RH.put(h:RH K ρ H hd){n:Nat}(hn:ρ[n]?=some a)(c:RC K ρ H o ho):RH K ρ (upd H a ho) (hd.set n o)/\Ext ρ H ρ (upd H a ho):=by
 have ha:=h.mut (jq hn);have n1:∀ps,H a≠some (.tbl ps):=λps e=>by rcases ha with⟨y,z⟩|⟨y,z⟩<;>(rw[e]at z;cases z)
 have n2:∀φ,H a≠some (.ext φ):=λps e=>by rcases ha with⟨y,z⟩|⟨y,z⟩<;>(rw[e]at z;cases z)
 have ex:Ext ρ H ρ (upd H a ho):=⟨⟨[],by simp,by simp⟩,λb o q m _=>by
  have:b≠a:=λz=>m (by rw[z];exact jq hn);rw[AC this];exact q,λb ps q=>⟨ps,(AC (show b≠a from λz=>n1 ps (by rw[<- z];exact q))).trans q⟩⟩
 have gr:=ex.grow h;refine⟨⟨by simp[h.len],h.nd,h.tabs.upd n1 n2,λm o' b e1 e2=>?_⟩,ex⟩;have hm:m<hd.length:=by rw[<- h.len];exact(List.getElem?_eq_some_iff.mp e2).1
 by_cases hmn:m=n
 .subst hmn;rw[hn]at e2;cases e2;rw[List.getElem?_set_self hm]at e1;cases e1;exact⟨ho,AJ,by simpa using c.mono gr []⟩
 .rw[List.getElem?_set_ne (λz=>hmn z.symm)]at e1;obtain⟨ho',q1,q2⟩:=h.ob m o' b e1 e2;have:b≠a:=λz=>by
   subst z;have l1:=(List.getElem?_eq_some_iff.mp e2).1;have l2:=(List.getElem?_eq_some_iff.mp hn).1;exact hmn ((List.getElem?_inj l1 h.nd).mp (e2.trans hn.symm))
  exact⟨ho',by rw[AC this];exact q1,by simpa using q2.mono gr []⟩
theorem RH.lst(h:RH K ρ H hd){n:Nat}(hn:ρ[n]?=some a)(e:hd[n]?=some (.lst ds)):∃xs,H a=some (.lst xs)/\RDs K ρ H ds xs:=by
 obtain⟨ho,q,xs,rfl,r⟩:=h.ob n _ a e hn;exact⟨xs,q,r⟩
theorem RH.dic(h:RH K ρ H hd){n:Nat}(hn:ρ[n]?=some a)(e:hd[n]?=some (.dic ds)):∃xs,H a=some (.dK xs)/\RKs K ρ H ds xs:=by
 obtain⟨ho,q,xs,rfl,r⟩:=h.ob n _ a e hn;exact⟨xs,q,r⟩
def RH.hid(h:RH K ρ H hd)(ha:H a=none):RH K ρ (upd H a ho) hd/\Ext ρ H ρ (upd H a ho):=by
 have out:a∉ρ:=λm=>by rcases h.mut m with⟨y,z⟩|⟨y,z⟩<;>(rw[ha]at z;cases z)
 have ex:Ext ρ H ρ (upd H a ho):=⟨⟨[],by simp,by simp⟩,λb o q n _=>by rw[AC (AZ q ha)];exact q,λb ps q=>⟨ps,by rw[AC (AZ q ha)];exact q⟩⟩
 have gr:=ex.grow h;refine⟨⟨h.len,h.nd,h.tabs.upd (by simp[ha]) (by simp[ha]),λm o' b e1 e2=>?_⟩,ex⟩;obtain⟨ho',q1,q2⟩:=h.ob m o' b e1 e2;exact⟨ho',by rw[AC (AZ q1 ha)];exact q1,by simpa using q2.mono gr []⟩
def RH.hput(h:RH K ρ H hd)(out:a∉ρ)(hl:H a=some (.lst xs)):RH K ρ (upd H a ho) hd:=by
 have gr:Grow H (upd H a ho):=Grow.refl.put (.lst hl);refine⟨h.len,h.nd,h.tabs.upd (by simp[hl]) (by simp[hl]),λm o' b e1 e2=>?_⟩;obtain⟨ho',q1,q2⟩:=h.ob m o' b e1 e2;have:b≠a:=λz=>out (by rw[<- z];exact jq e2);exact⟨ho',by rw[AC this];exact q1,by simpa using q2.mono gr []⟩
end
end L2
namespace L2
open PySem PySem.Spec PyProof.Rows
abbrev ME:=Ls->Hd->Option (D×Hd)
abbrev MT:=Ls->Hd->Option (Bool×Hd)
abbrev MA:=Ls->Hd->Option (List D×Hd)
inductive Fl where
 |nx (ls:Ls)|rt (d:D)|bk (ls:Ls)|ct (ls:Ls)
abbrev MS:=Ls->Hd->Option (Fl×Hd)
section
variable(K:Frag)
def RE(t:TE)(m:ME):Prop:=∀(ρ:List Addr) (U:St) (H:Hp) (hd:Hd) (ls:Ls) (Q:VK) (d:D) (hd':Hd),RH K ρ H hd->RL K ρ H ls U->m ls hd=some (d,hd') ->
 (∀ρ' H' v,Ext ρ H ρ' H'->RH K ρ' H' hd'->RD K ρ' H' d v->Q v H')->t U H Q
def RT(t:TT)(m:MT):Prop:=∀(ρ:List Addr) (U:St) (H:Hp) (hd:Hd) (ls:Ls) (Q:Bool->Hp->Prop) (d:Bool) (hd':Hd),RH K ρ H hd->RL K ρ H ls U->m ls hd=some (d,hd') ->
 (∀ρ' H',Ext ρ H ρ' H'->RH K ρ' H' hd'->Q d H')->t U H Q
def RA(t:TA)(m:MA):Prop:=∀(ρ:List Addr) (U:St) (H:Hp) (hd:Hd) (ls:Ls) (Q:List V->Hp->Prop) (d:List D) (hd':Hd),RH K ρ H hd->RL K ρ H ls U->m ls hd=some (d,hd') ->
 (∀ρ' H' v,Ext ρ H ρ' H'->RH K ρ' H' hd'->RDs K ρ' H' d v->Q v H')->t U H Q
def RN(t:TE)(m:MA):Prop:=∀(ρ:List Addr) (U:St) (H:Hp) (hd:Hd) (ls:Ls) (Q:VK) (d:List D) (hd':Hd),RH K ρ H hd->RL K ρ H ls U->m ls hd=some (d,hd') ->
 (∀ρ' H' a xs,Ext ρ H ρ' H'->RH K ρ' H' hd'->H a=none->a∉ρ'->H' a=some (.lst xs)->RDs K ρ' H' d xs->Q (.ref a) H')->t U H Q
def fD(E:Ends)(ρ:List Addr)(H:Hp):Fl->Prop
 |.nx ls=>∀U,RL K ρ H ls U->E.nx U H
 |.bk ls=>∀U,RL K ρ H ls U->E.bk U H
 |.ct ls=>∀U,RL K ρ H ls U->E.ct U H
 |.rt d=>∀v,RD K ρ H d v->E.rt v H
def RS(t:TS)(m:MS):Prop:=∀(ρ:List Addr) (U:St) (H:Hp) (hd:Hd) (ls:Ls) (E:Ends) (f:Fl) (hd':Hd),RH K ρ H hd->RL K ρ H ls U->m ls hd=some (f,hd') ->
 (∀ρ' H',Ext ρ H ρ' H'->RH K ρ' H' hd'->fD K E ρ' H' f)->t E U H
def RB(r:R2)(f:D->D->Hd->Option (D×Hd)):Prop:=∀(ρ:List Addr) (H:Hp) (hd:Hd) (d e:D) (v u:V) (Q:VK) (z:D) (hd':Hd),RH K ρ H hd->RD K ρ H d v->RD K ρ H e u->f d e hd=some (z,hd') ->
 (∀ρ' H' w,Ext ρ H ρ' H'->RH K ρ' H' hd'->RD K ρ' H' z w->Q w H')->r v u H Q
def RF(r:List V->Hp->VK->Prop)(f:List D->Hd->Option (D×Hd)):Prop:=∀(ρ:List Addr) (H:Hp) (hd:Hd) (ds:List D) (vs:List V) (Q:VK) (z:D) (hd':Hd),RH K ρ H hd->RDs K ρ H ds vs->f ds hd=some (z,hd') ->
 (∀ρ' H' w,Ext ρ H ρ' H'->RH K ρ' H' hd'->RD K ρ' H' z w->Q w H')->r vs H Q
def RG(tp:Bool)(r:List V->Hp->VK->Prop)(g:List D->Option D):Prop:=∀(ρ:List Addr) (H:Hp) (hd:Hd) (a:Addr) (xs:List V) (ds:List D) (Q:VK) (z:D),RH K ρ H hd->(SqL K H a xs∨(tp=true/\SqT K H a xs))->RDs K ρ H ds xs->g ds=some z ->
 (∀H' w,Ext ρ H ρ H'->RH K ρ H' hd->RD K ρ H' z w->Q w H')->r [.ref a] H Q
end
structure QE(K:Frag)(X:Cx)(e:Expr)(t:TE)(m:ME):Prop where
 p:PE X e t
 r:RE K t m
structure QT(K:Frag)(X:Cx)(e:Expr)(t:TT)(m:MT):Prop where
 p:PT X e t
 r:RT K t m
structure QW(K:Frag)(X:Cx)(e:Expr)(t:TT)(m:MT):Prop where
 p:PW X e t
 r:RT K t m
structure QA(K:Frag)(X:Cx)(e:List Expr)(t:TA)(m:MA):Prop where
 p:PA X e t
 r:RA K t m
structure QN(K:Frag)(X:Cx)(e:Expr)(t:TE)(m:MA):Prop where
 p:PE X e t
 r:RN K t m
structure QS(K:Frag)(X:Cx)(e:Stmt)(t:TS)(m:MS):Prop where
 p:PS X e t
 r:RS K t m
structure QSs(K:Frag)(X:Cx)(e:List Stmt)(t:TS)(m:MS):Prop where
 p:PSs X e t
 r:RS K t m
def AS:D->Option (List D)
 |.im (.tup is)=>some (is.map .im)
 |.tm ds=>some ds
 |_=>none
def BQ(hd:Hd):D->Option (List D)
 |.mu n=>match hd[n]? with
  |some (.lst ds)=>some ds
  |_=>none
 |.ro ns=>some (ns.map λn=>.im (.int n))
 |_=>none
def Ax(hd:Hd)(d:D):Option (List D):=match AS d with
 |some ds=>some ds
 |none=>BQ hd d
def BN:List D->Option (List I)
 |[]=>some []
 |.im i::r=>(BN r).map (i::·)
 |_::_=>none
def AT(ds:List D):D:=match BN ds with
 |some is=>.im (.tup is)
 |none=>.tm ds
def BH:List D->Option (List Int)
 |[]=>some []
 |.im (.int i)::r=>(BH r).map (i::·)
 |_::_=>none
def D8:List D->Option (List Bool)
 |[]=>some []
 |.im (.bl i)::r=>(D8 r).map (i::·)
 |_::_=>none
section
variable{K:Frag}
theorem Ed:∀{ds:List D} {is:List I},BN ds=some is->ds=is.map .im
 |[],is,h=>by simp[BN]at h;subst h;rfl
 |.im i::r,is,h=>by
  simp only[BN,Option.map_eq_some_iff]at h;obtain⟨js,e,rfl⟩:=h;simp[Ed e]
 |.mu _::_,is,h=>by simp[BN]at h
 |.tm _::_,is,h=>by simp[BN]at h
 |.ro _::_,is,h=>by simp[BN]at h
 |.op _ _ _::_,is,h=>by simp[BN]at h
theorem Fz:∀{ds:List D} {is:List Int},BH ds=some is->ds=is.map λi=>.im (.int i)
 |[],is,h=>by simp[BH]at h;subst h;rfl
 |.im (.int i)::r,is,h=>by
  simp only[BH,Option.map_eq_some_iff]at h;obtain⟨js,e,rfl⟩:=h;simp[Fz e]
 |.im (.bl _)::_,is,h=>by simp[BH]at h
 |.im (.str _)::_,is,h=>by simp[BH]at h
 |.im .non::_,is,h=>by simp[BH]at h
 |.im (.tup _)::_,is,h=>by simp[BH]at h
 |.mu _::_,is,h=>by simp[BH]at h
 |.tm _::_,is,h=>by simp[BH]at h
 |.ro _::_,is,h=>by simp[BH]at h
 |.op _ _ _::_,is,h=>by simp[BH]at h
theorem Ko:∀{ds:List D} {is:List Bool},D8 ds=some is->ds=is.map λi=>.im (.bl i)
 |[],is,h=>by simp[D8]at h;subst h;rfl
 |.im (.bl i)::r,is,h=>by
  simp only[D8,Option.map_eq_some_iff]at h;obtain⟨js,e,rfl⟩:=h;simp[Ko e]
 |.im (.int _)::_,is,h=>by simp[D8]at h
 |.im (.str _)::_,is,h=>by simp[D8]at h
 |.im .non::_,is,h=>by simp[D8]at h
 |.im (.tup _)::_,is,h=>by simp[D8]at h
 |.mu _::_,is,h=>by simp[D8]at h
 |.tm _::_,is,h=>by simp[D8]at h
 |.ro _::_,is,h=>by simp[D8]at h
 |.op _ _ _::_,is,h=>by simp[D8]at h
@[simp] theorem T7(is:List I):BN (is.map .im)=some is:=by induction is<;>simp_all [BN]
@[simp] theorem fH(is:List Int):BH (is.map λi=>.im (.int i))=some is:=by induction is<;>simp_all [BH]
@[simp] theorem JY(is:List Bool):D8 (is.map λi=>.im (.bl i))=some is:=by induction is<;>simp_all [D8]
theorem KY:∀{ns:List Int} {xs:List V},RDs K ρ H (ns.map λi=>.im (.int i)) xs->xs=ns.map V.int
 |[],xs,h=>by simpa [RDs]using h
 |n::ns,xs,h=>by
  simp only[jc,RDs,RD,RI]at h;obtain⟨x,r,rfl,rfl,z⟩:=h;rw[KY z];rfl
theorem Gn:∀{ns:List Int},RDs K ρ H (ns.map λi=>.im (.int i)) (ns.map V.int)
 |[]=>by simp[RDs]
 |n::ns=>by simp only[jc];exact .cons (by simp[RD,RI]) Gn
theorem Mt:∀{ns:List Bool} {xs:List V},RDs K ρ H (ns.map λi=>.im (.bl i)) xs->xs=ns.map V.bl
 |[],xs,h=>by simpa [RDs]using h
 |n::ns,xs,h=>by
  simp only[jc,RDs,RD,RI]at h;obtain⟨x,r,rfl,rfl,z⟩:=h;rw[Mt z];rfl
theorem RD.tup(h:RD K ρ H d v)(e:AS d=some ds):∃a xs,v=.ref a/\SqT K H a xs/\RDs K ρ H ds xs:=by
 cases d with
 |im i=>
  cases i with
  |tup is=>
   simp only[AS,Option.some.injEq]at e;subst e;simp only[RD,RI]at h;obtain⟨a,xs,rfl,q,r⟩:=h;exact⟨a,xs,rfl,q,r.ds⟩
  |_=>simp[AS]at e
 |tm es=>
  simp only[AS,Option.some.injEq]at e;subst e;simpa only[RD]using h
 |_=>simp[AS]at e
theorem RD.lst(hR:RH K ρ H hd)(h:RD K ρ H d v)(e:BQ hd d=some ds):∃a xs,v=.ref a/\SqL K H a xs/\RDs K ρ H ds xs:=by
 cases d with
 |mu n=>
  simp only[BQ]at e;simp only[RD]at h;obtain⟨a,hn,rfl⟩:=h;split at e
  .next q=>
   cases e;obtain⟨xs,e1,e2⟩:=hR.lst hn q;exact⟨a,xs,rfl,SqL.of e1,e2⟩
  .cases e
 |ro ns=>
  simp only[BQ,Option.some.injEq]at e;subst e;simp only[RD]at h;obtain⟨a,rfl,q⟩:=h;exact⟨a,_,rfl,q.sq,Gn⟩
 |_=>simp[BQ]at e
def RD.seq(hR:RH K ρ H hd)(h:RD K ρ H d v)(e:Ax hd d=some ds):∃a xs,v=.ref a/\(SqL K H a xs∨SqT K H a xs)/\RDs K ρ H ds xs:=by
 unfold Ax at e;split at e
 .next q=>
  cases e;obtain⟨a,xs,e1,e2,e3⟩:=h.tup q;exact⟨a,xs,e1,.inr e2,e3⟩
 .obtain⟨a,xs,e1,e2,e3⟩:=h.lst hR e;exact⟨a,xs,e1,.inl e2,e3⟩
def BV(q:SqT K H a xs)(r:RDs K ρ H ds xs):RD K ρ H (AT ds) (.ref a):=by
 unfold AT;split
 .next e=>
  rw[Ed e]at r;simp only[RD,RI];exact⟨a,xs,rfl,q,r.is⟩
 .simp only[RD];exact⟨a,xs,rfl,q,r⟩
@[simp] theorem AY(ds:List D):AS (AT ds)=some ds:=by
 unfold AT;split
 .next e=>simp[AS,Ed e]
 .rfl
def A2(i:Nat):ME:=λls hd=>match ls[i]? with
 |some (some d)=>some (d,hd)
 |_=>none
def Zl{i:Nat}:RE K (Ta i) (A2 i):=by
 and_intros;unfold A2 at hm;split at hm
 .next e=>
  cases hm;obtain⟨v,e1,e2⟩:=hL.ob i _ e;exact⟨v,e1,hQ ρ H v .refl hR e2⟩
 .cases hm
def mC(i:I):ME:=λ_ hd=>some (.im i,hd)
def Pr(h:∀H,RI K H i v):RE K (tC v) (mC i):=by
 and_intros;cases hm;exact hQ ρ H v .refl hR (by simpa only[RD]using h H)
def mOp(f:D->D->Hd->Option (D×Hd))(ma mb:ME):ME:=λls hd=>(ma ls hd).bind λp=>(mb ls p.2).bind λq=>f p.1 q.1 q.2
def Lz{f:D->D->Hd->Option (D×Hd)}(hr:RB K r f)(ha:RE K ta ma)(hb:RE K tb mb):RE K (tOp r ta tb) (mOp f ma mb):=by
 and_intros;obtain⟨⟨d1,h1⟩,e1,hm⟩:=gV hm;obtain⟨⟨d2,h2⟩,e2,hm⟩:=gV hm;refine ha ρ U H hd ls _ d1 h1 hR hL e1 λρ1 H1 v1 x1 R1 r1=>?_;refine hb ρ1 U H1 h1 ls _ d2 h2 R1 (hL.ext hR x1) e2 λρ2 H2 v2 x2 R2 r2=>?_;exact hr ρ2 H2 h2 d1 d2 v1 v2 Q d hd' R2 (r1.ext R1 x2) r2 hm λρ' H' w x3 R3 r3=>hQ ρ' H' w ((x1.trans R1 x2).trans R2 x3) R3 r3
def DY(ta tb:MT):MT:=λls hd=>(ta ls hd).bind λp=>if p.1=true then tb ls p.2 else some (false,p.2)
def mOr(ta tb:MT):MT:=λls hd=>(ta ls hd).bind λp=>if p.1=true then some (true,p.2)else tb ls p.2
def BX(ta:MT):MT:=λls hd=>(ta ls hd).bind λp=>some (!p.1,p.2)
def ZZ(ha:RT K ta ma)(hb:RT K tb mb):RT K (Tg ta tb) (DY ma mb):=by
 and_intros;obtain⟨⟨d1,h1⟩,e1,hm⟩:=gV hm;refine ha ρ U H hd ls _ d1 h1 hR hL e1 λρ1 H1 x1 R1=>?_;cases d1 with
 |true=>
  rw[j6 rfl]at hm ⊢;exact hb ρ1 U H1 h1 ls Q d hd' R1 (hL.ext hR x1) hm λρ2 H2 x2 R2=>hQ ρ2 H2 (x1.trans R1 x2) R2
 |false=>
  rw[j7 Bool.false_ne_true]at hm ⊢;cases hm;exact hQ ρ1 H1 x1 R1
def dM(ha:RT K ta ma)(hb:RT K tb mb):RT K (tOr ta tb) (mOr ma mb):=by
 and_intros;obtain⟨⟨d1,h1⟩,e1,hm⟩:=gV hm;refine ha ρ U H hd ls _ d1 h1 hR hL e1 λρ1 H1 x1 R1=>?_;cases d1 with
 |true=>
  rw[j6 rfl]at hm ⊢;cases hm;exact hQ ρ1 H1 x1 R1
 |false=>
  rw[j7 Bool.false_ne_true]at hm ⊢;exact hb ρ1 U H1 h1 ls Q d hd' R1 (hL.ext hR x1) hm λρ2 H2 x2 R2=>hQ ρ2 H2 (x1.trans R1 x2) R2
def ZY(ha:RT K ta ma):RT K (Td ta) (BX ma):=by
 and_intros;obtain⟨⟨d1,h1⟩,e1,hm⟩:=gV hm;cases hm;exact ha ρ U H hd ls _ d1 h1 hR hL e1 λρ1 H1 x1 R1=>hQ ρ1 H1 x1 R1
open Classical in
def EN(hd:Hd):D->Option Bool
 |.im .non=>some false
 |.im (.bl b)=>some b
 |.im (.int i)=>some (i != 0)
 |.im (.str x)=>if Cq x.length then some ((x.length:Int) != 0)else none
 |.im (.tup is)=>some (!is.isEmpty)
 |.tm is=>some (!is.isEmpty)
 |.ro ns=>some (!ns.isEmpty)
 |.op _ _ _=>none
 |.mu n=>match hd[n]? with
  |some (.lst ds)=>some (!ds.isEmpty)
  |some (.dic ds)=>some (!ds.isEmpty)
  |none=>none
def Db{α β:Type}{xs:List α}{ys:List β}(h:xs.length=ys.length):xs.isEmpty=ys.isEmpty:=by
 cases xs<;>cases ys<;>simp_all
theorem RKs.len:∀{ds:List (Key×D)} {xs:List (Key×V)},RKs K ρ H ds xs->xs.length=ds.length
 |[],xs,h=>by simp only[RKs]at h;rw[h];rfl
 |d::ds,xs,h=>by
  simp only[RKs]at h;obtain⟨x,r,rfl,_,_,z⟩:=h;simp[RKs.len z]
def WU{b:Bool}(hR:RH K ρ H hd)(h:RD K ρ H d v)(e:EN hd d=some b):O2 K v H b:=by
 cases d with
 |im i=>
  cases i with
  |non=>simp only[RD,RI]at h;subst h;simp only[EN,Option.some.injEq]at e;subst e;exact rfl
  |bl c=>simp only[RD,RI]at h;subst h;simp only[EN,Option.some.injEq]at e;subst e;exact rfl
  |int c=>simp only[RD,RI]at h;subst h;simp only[EN,Option.some.injEq]at e;subst e;exact rfl
  |str c=>
   simp only[RD,RI]at h;subst h;simp only[EN]at e;split at e
   .next z=>cases e;exact⟨z,rfl⟩
   .cases e
  |tup is=>
   obtain⟨a,xs,rfl,q,r⟩:=h.tup (ds:=is.map .im) rfl;simp only[EN,Option.some.injEq]at e;subst e;exact .inr (.inl ⟨xs,q,by rw[Db (show xs.length=is.length by simpa using r.len)]⟩)
 |tm ds=>
  obtain⟨a,xs,rfl,q,r⟩:=h.tup (ds:=ds) rfl;simp only[EN,Option.some.injEq]at e;subst e;exact .inr (.inl ⟨xs,q,by rw[Db r.len]⟩)
 |ro ns=>
  obtain⟨a,xs,rfl,q,r⟩:=h.lst hR (hd:=hd) (ds:=ns.map λn=>.im (.int n)) rfl;simp only[EN,Option.some.injEq]at e;subst e;exact .inl ⟨xs,q,by rw[Db (show xs.length=ns.length by simpa using r.len)]⟩
 |op _ _ _=>simp[EN]at e
 |mu n=>
  simp only[RD]at h;obtain⟨a,hn,rfl⟩:=h;simp only[EN]at e;split at e
  .next q=>
   cases e;obtain⟨xs,e1,e2⟩:=hR.lst hn q;exact .inl ⟨xs,SqL.of e1,by rw[Db e2.len]⟩
  .next q=>
   cases e;obtain⟨xs,e1,e2⟩:=hR.dic hn q;exact .inr (.inr ⟨xs,e1,by rw[Db e2.len]⟩)
  .cases e
def BC(ma:ME):MT:=λls hd=>(ma ls hd).bind λp=>(EN p.2 p.1).map (·,p.2)
def To(ha:RE K ta ma):RT K (λU H Q=>ta U H λx H'=>∃k,O2 K x H' k/\Q k H') (BC ma):=by
 and_intros;obtain⟨⟨d1,h1⟩,e1,hm⟩:=gV hm;obtain⟨b,e2,e3⟩:=j4 hm;cases e3;exact ha ρ U H hd ls _ d1 h1 hR hL e1 λρ1 H1 v x1 R1 r1=>⟨_,WU R1 r1 e2,hQ ρ1 H1 x1 R1⟩
def AF(ma:ME):MT:=λls hd=>(ma ls hd).bind λp=>match p.1 with
 |.im (.bl b)=>some (b,p.2)
 |_=>none
def FW(ha:RE K ta ma):RT K (Lu ta) (AF ma):=by
 and_intros;obtain⟨⟨d1,h1⟩,e1,hm⟩:=gV hm;dsimp only at hm;split at hm
 .cases hm;exact ha ρ U H hd ls _ _ _ hR hL e1 λρ1 H1 v x1 R1 r1=>⟨_,by simpa only[RD,RI]using r1,hQ ρ1 H1 x1 R1⟩
 .cases hm
def Za(ha:RE K ta ma):RT K (tB ta) (AF ma):=FW ha
def mIf(c:MT)(ma mb:ME):ME:=λls hd=>(c ls hd).bind λp=>if p.1=true then ma ls p.2 else mb ls p.2
def dR(hc:RT K tc c)(ha:RE K ta ma)(hb:RE K tb mb):RE K (tIf tc ta tb) (mIf c ma mb):=by
 and_intros;obtain⟨⟨d1,h1⟩,e1,hm⟩:=gV hm;refine hc ρ U H hd ls _ d1 h1 hR hL e1 λρ1 H1 x1 R1=>?_;cases d1 with
 |true=>
  rw[j6 rfl]at hm ⊢;exact ha ρ1 U H1 h1 ls Q d hd' R1 (hL.ext hR x1) hm λρ2 H2 v x2 R2 r2=>hQ ρ2 H2 v (x1.trans R1 x2) R2 r2
 |false=>
  rw[j7 Bool.false_ne_true]at hm ⊢;exact hb ρ1 U H1 h1 ls Q d hd' R1 (hL.ext hR x1) hm λρ2 H2 v x2 R2 r2=>hQ ρ2 H2 v (x1.trans R1 x2) R2 r2
def DU(ma mb:ME):ME:=λls hd=>(AF ma ls hd).bind λp=>if p.1=true then mb ls p.2 else some (.im (.bl false),p.2)
def JN(ma mb:ME):ME:=λls hd=>(AF ma ls hd).bind λp=>if p.1=true then some (.im (.bl true),p.2)else mb ls p.2
def FP(ma:ME):ME:=λls hd=>(AF ma ls hd).bind λp=>some (.im (.bl (!p.1)),p.2)
def X8(ha:RE K ta ma)(hb:RE K tb mb):RE K (Pe ta tb) (DU ma mb):=by
 and_intros;obtain⟨⟨d1,h1⟩,e1,hm⟩:=gV hm;refine FW ha ρ U H hd ls (λc H1=>if c=true then tb U H1 Q else Q (.bl false) H1) d1 h1 hR hL e1 λρ1 H1 x1 R1=>?_;cases d1 with
 |true=>
  rw[j6 rfl]at hm ⊢;exact hb ρ1 U H1 h1 ls Q d hd' R1 (hL.ext hR x1) hm λρ2 H2 v x2 R2 r2=>hQ ρ2 H2 v (x1.trans R1 x2) R2 r2
 |false=>
  rw[j7 Bool.false_ne_true]at hm ⊢;cases hm;exact hQ ρ1 H1 _ x1 R1 (by simp[RD,RI])
def Zo(ha:RE K ta ma)(hb:RE K tb mb):RE K (Tc ta tb) (JN ma mb):=by
 and_intros;obtain⟨⟨d1,h1⟩,e1,hm⟩:=gV hm;refine FW ha ρ U H hd ls (λc H1=>if c=true then Q (.bl true) H1 else tb U H1 Q) d1 h1 hR hL e1 λρ1 H1 x1 R1=>?_;cases d1 with
 |true=>
  rw[j6 rfl]at hm ⊢;cases hm;exact hQ ρ1 H1 _ x1 R1 (by simp[RD,RI])
 |false=>
  rw[j7 Bool.false_ne_true]at hm ⊢;exact hb ρ1 U H1 h1 ls Q d hd' R1 (hL.ext hR x1) hm λρ2 H2 v x2 R2 r2=>hQ ρ2 H2 v (x1.trans R1 x2) R2 r2
def X3(ha:RE K ta ma):RE K (PZ ta) (FP ma):=by
 and_intros;obtain⟨⟨d1,h1⟩,e1,hm⟩:=gV hm;cases hm;exact FW ha ρ U H hd ls (λc H1=>Q (.bl (!c)) H1) d1 h1 hR hL e1 λρ1 H1 x1 R1=>hQ ρ1 H1 _ x1 R1 (by simp[RD,RI])
def A7:MA:=λ_ hd=>some ([],hd)
def A3(ma:ME)(mr:MA):MA:=λls hd=>(ma ls hd).bind λp=>(mr ls p.2).bind λq=>some (p.1::q.1,q.2)
def a7:RA K BS A7:=by
 and_intros;cases hm;exact hQ ρ H [] .refl hR .nil
def XD(ha:RE K ta ma)(hr:RA K tr mr):RA K (Aq ta tr) (A3 ma mr):=by
 and_intros;obtain⟨⟨d1,h1⟩,e1,hm⟩:=gV hm;obtain⟨⟨d2,h2⟩,e2,hm⟩:=gV hm;cases hm;refine ha ρ U H hd ls _ d1 h1 hR hL e1 λρ1 H1 v1 x1 R1 r1=>?_;exact hr ρ1 U H1 h1 ls _ d2 _ R1 (hL.ext hR x1) e2 λρ2 H2 v2 x2 R2 r2=>hQ ρ2 H2 _ (x1.trans R1 x2) R2 (.cons (r1.ext R1 x2) r2)
open Classical in
def Af(ma:MA):ME:=λls hd=>(ma ls hd).bind λp=>if Cq p.1.length then some (AT p.1,p.2)else none
def Zm(h:RA K t m):RE K (MQ t) (Af m):=by
 and_intros;obtain⟨⟨d1,h1⟩,e1,hm⟩:=gV hm;dsimp only at hm;split at hm
 .next z=>
  cases hm;refine h ρ U H hd ls _ d1 _ hR hL e1 λρ1 H1 v1 x1 R1 r1=>⟨by rw[r1.len];exact z,λp hp=>?_⟩
  obtain⟨R2,x2⟩:=R1.hid (ho:=.tup v1) hp;exact hQ ρ1 _ _ (x1.trans R1 x2) R2 (BV (SqT.of AJ) (r1.ext R1 x2))
 .cases hm
open Classical in
def Co(ma:MA):MA:=λls hd=>(ma ls hd).bind λp=>if Cq p.1.length then some (p.1,p.2)else none
def RH.out(hR:RH K ρ H hd)(h:H a=none):a∉ρ:=λm=>by rcases hR.mut m with⟨y,z⟩|⟨y,z⟩<;>(rw[h]at z;cases z)
theorem Ext.none(e:Ext ρ H ρ' H')(hR:RH K ρ H hd)(h:H' a=none)(hR':RH K ρ' H' hd'):H a=none:=by
 cases q:H a with
 |none=>rfl
 |some o=>
  by_cases m:a∈ρ
  .obtain⟨r,rfl,_⟩:=e.pre;exact absurd (jU r m) (hR'.out h)
  .by_cases t:∃ps,o=.tbl ps
   .obtain⟨ps,rfl⟩:=t;obtain⟨ps',this⟩:=e.tab a ps q;rw[h]at this;cases this
   .rw[e.keep a o q m λps y=>t ⟨ps,y⟩]at h;cases h
def Zd(h:RA K t m):RN K (Te t) (Co m):=by
 and_intros;obtain⟨⟨d1,h1⟩,e1,hm⟩:=gV hm;dsimp only at hm;split at hm
 .next z=>
  cases hm;refine h ρ U H hd ls _ _ _ hR hL e1 λρ1 H1 v1 x1 R1 r1=>⟨by rw[r1.len];exact z,λp hp=>?_⟩
  obtain⟨R2,x2⟩:=R1.hid (ho:=.lst v1) hp;exact hQ ρ1 _ p v1 (x1.trans R1 x2) R2 (x1.none hR hp R1) (R1.out hp) AJ (r1.ext R1 x2)
 .cases hm
def Bx(ml:MA):ME:=λls hd=>(ml ls hd).bind λp=>some (.mu p.2.length,p.2++[.lst p.1])
def RH.name(hR:RH K ρ H hd)(out:a∉ρ)(e:H a=some (.lst xs))(r:RDs K ρ H ds xs):RH K (ρ++[a]) H (hd++[.lst ds]):=by
 have mono:∀{o:MO} {ho:HO},RC K ρ H o ho->RC K (ρ++[a]) H o ho:=λc=>c.mono Grow.refl [a];refine⟨by simp[hR.len],?_,hR.tabs,λn o' b e1 e2=>?_⟩
 .rw[List.nodup_append];refine⟨hR.nd,by simp,λx hx y hy z=>?_⟩;simp at hy;subst hy;subst z;exact out hx
 .by_cases hn:n<ρ.length
  .rw[List.getElem?_append_left hn]at e2;rw[List.getElem?_append_left (by rw[<- hR.len];exact hn)]at e1;obtain⟨ho',q1,q2⟩:=hR.ob n o' b e1 e2;exact⟨ho',q1,mono q2⟩
  .have hn':n=ρ.length:=by
    have:=(List.getElem?_eq_some_iff.mp e2).1;simp at this;omega
   subst hn';simp at e2;rw[hR.len]at e1;simp at e1;subst e1;subst e2;exact⟨_,e,mono ⟨xs,rfl,r⟩⟩
def Ext.name(e:Ext ρ H ρ' H')(h:H a=Option.none):Ext ρ H (ρ'++[a]) H':=by
 obtain⟨r,rfl,f⟩:=e.pre;refine⟨⟨r++[a],by simp,λb m=>?_⟩,e.keep,e.tab⟩;rcases mem_append.mp m with m|m
 .exact f b m
 .simp at m;subst m;exact h
def Rs(h:RN K t m):RE K t (Bx m):=by
 and_intros;obtain⟨⟨d1,h1⟩,e1,hm⟩:=gV hm;cases hm;refine h ρ U H hd ls Q d1 h1 hR hL e1 λρ1 H1 a xs x1 R1 na oa ea r1=>?_;refine hQ (ρ1++[a]) H1 _ (x1.name na) (R1.name oa ea r1) ?_;simp only[RD];exact⟨a,by rw[<- R1.len];simp,rfl⟩
end
section
variable{K:Frag}{ρ ρ':List Addr}{H H':Hp}{hd hd':Hd}
def fI(g:Int->Int->Option I):D->D->Hd->Option (D×Hd)
 |.im (.int i),.im (.int j),hd=>(g i j).map (.im ·,hd)
 |_,_,_=>none
def Mu{C:Int->Int->Prop}{g:Int->Int->V}{f:Int->Int->Option I}(h:∀i j z,f i j=some z->C i j/\∀H,RI K H z (g i j)):RB K (rI C g) (fI f):=by
 intro ρ H hd d e v u Q z hd' hR h1 h2 hf hQ;unfold fI at hf;split at hf
 .simp only[RD,RI]at h1 h2;subst h1 h2;obtain⟨w,e1,e2⟩:=j4 hf;cases e2;obtain⟨c,r⟩:=h _ _ _ e1;exact⟨_,_,rfl,rfl,c,hQ ρ H _ .refl hR (by simpa only[RD]using r H)⟩
 .cases hf
def IW{g:Int->Int->V}{f:Int->Int->I}(h:∀i j H,RI K H (f i j) (g i j)):RB K (rI0 g) (fI λi j=>some (f i j)):=by
 intro ρ H hd d e v u Q z hd' hR h1 h2 hf hQ;unfold fI at hf;split at hf
 .simp only[RD,RI]at h1 h2;subst h1 h2;cases hf;exact⟨_,_,rfl,rfl,hQ ρ H _ .refl hR (by simpa only[RD]using h _ _ H)⟩
 .cases hf
def D5(f g:D->D->Hd->Option (D×Hd)):D->D->Hd->Option (D×Hd):=λd e hd=>match f d e hd with
 |some z=>some z
 |none=>g d e hd
def EO{r r':R2}{f g:D->D->Hd->Option (D×Hd)}(h:RB K r f)(h':RB K r' g):RB K (λx y H Q=>r x y H Q∨r' x y H Q) (D5 f g):=by
 intro ρ H hd d e v u Q z hd' hR h1 h2 hf hQ;unfold D5 at hf;split at hf
 .next q=>cases hf;exact .inl (h ρ H hd d e v u Q z hd' hR h1 h2 q hQ)
 .exact .inr (h' ρ H hd d e v u Q z hd' hR h1 h2 hf hQ)
abbrev HK:D->D->Hd->Option (D×Hd):=fI λi j=>some (.int (i+j))
abbrev BA:D->D->Hd->Option (D×Hd):=fI λi j=>some (.int (i-j))
def S3:RB K (rI0 λi j=>.int (i+j)) HK:=IW λ_ _ _=>by simp[RI]
def Zw:RB K (rI0 λi j=>.int (i-j)) BA:=IW λ_ _ _=>by simp[RI]
open Classical in
abbrev HI:D->D->Hd->Option (D×Hd):=fI λi j=>if GG i j then some (.int (i*j))else none
def Zz:RB K (rI CMul λi j=>.int (i*j)) HI:=Mu λi j z h=>by
 split at h
 .next q=>cases h;exact⟨q,λ_=>by simp[RI]⟩
 .cases h
open Classical in
abbrev G0:D->D->Hd->Option (D×Hd):=fI λi j=>if DJ j then some (.int (i%j))else none
def a0:RB K (rI (λ_ j=>0<j) λi j=>.int (i%j)) G0:=Mu λi j z h=>by
 split at h
 .next q=>cases h;exact⟨q,λ_=>by simp[RI]⟩
 .cases h
open Classical in
abbrev HJ:D->D->Hd->Option (D×Hd):=fI λi j=>if K4 j then some (.int (i/j))else none
def XA:RB K (rI cz λi j=>.int (i/j)) HJ:=Mu λi j z h=>by
 split at h
 .next q=>cases h;exact⟨q,λ_=>by simp[RI]⟩
 .cases h
open Classical in
abbrev IG:D->D->Hd->Option (D×Hd):=fI λi j=>if M3 i j then some (.int (i^j.toNat))else none
def Zy:RB K (rI cy λi j=>.int (i^j.toNat)) IG:=Mu λi j z h=>by
 split at h
 .next q=>cases h;exact⟨q,λ_=>by simp[RI]⟩
 .cases h
abbrev gLt:D->D->Hd->Option (D×Hd):=fI λi j=>some (.bl (decide (i<j)))
abbrev gLe:D->D->Hd->Option (D×Hd):=fI λi j=>some (.bl (decide (i<=j)))
abbrev gGt:D->D->Hd->Option (D×Hd):=fI λi j=>some (.bl (decide (j<i)))
abbrev gGe:D->D->Hd->Option (D×Hd):=fI λi j=>some (.bl (decide (j<=i)))
def dU:RB K (rI0 λi j=>.bl (decide (i<j))) gLt:=IW λ_ _ _=>by simp[RI]
def Vh:RB K (rI0 λi j=>.bl (decide (i<=j))) gLe:=IW λ_ _ _=>by simp[RI]
def dX:RB K (rI0 λi j=>.bl (decide (j<i))) gGt:=IW λ_ _ _=>by simp[RI]
def dY:RB K (rI0 λi j=>.bl (decide (j<=i))) gGe:=IW λ_ _ _=>by simp[RI]
def scI:I->Option V
 |.non=>some .non
 |.bl b=>some (.bl b)
 |.int i=>some (.int i)
 |.str x=>some (.str x)
 |.tup _=>none
def Jl{i:I}{v w:V}(e:scI i=some w)(h:RI K H i v):v=w:=by
 cases i with
 |tup _=>simp[scI]at e
 |_=>simp only[scI,Option.some.injEq]at e;subst e;simpa only[RI]using h
def GS(neg:Bool):D->D->Hd->Option (D×Hd)
 |.im i,.im j,hd=>match scI i,scI j with
  |some x,some y=>if Mb x y=true then some (.im (.bl (if neg then !decide (x=y)else decide (x=y))),hd)else none
  |_,_=>none
 |_,_,_=>none
def Rz:RB K rEq (GS false):=by
 intro ρ H hd d e v u Q z hd' hR h1 h2 hf hQ;unfold GS at hf;split at hf
 .split at hf
  .next x y e1 e2=>
   split at hf
   .next s=>
    cases hf;simp only[RD]at h1 h2;rw[Jl e1 h1,Jl e2 h2];exact⟨s,hQ ρ H _ .refl hR (by simp[RD,RI])⟩
   .cases hf
  .cases hf
 .cases hf
def Rv:RB K rNe (GS true):=by
 intro ρ H hd d e v u Q z hd' hR h1 h2 hf hQ;unfold GS at hf;split at hf
 .split at hf
  .next x y e1 e2=>
   split at hf
   .next s=>
    cases hf;simp only[RD]at h1 h2;rw[Jl e1 h1,Jl e2 h2];exact⟨s,hQ ρ H _ .refl hR (by simp[RD,RI])⟩
   .cases hf
  .cases hf
 .cases hf
mutual
def I.py:I->PyData
 |.non=>.none
 |.bl b=>.bool b
 |.int i=>.int i
 |.str x=>.str x
 |.tup ds=>.tuple (I.pys ds)
def I.pys:List I->List PyData
 |[]=>[]
 |d::ds=>I.py d::I.pys ds
end
mutual
theorem RI.rep:∀{i:I} {v:V},RI K H i v->Rep K H i.py v
 |.non,v,h=>by simpa only[RI,I.py,Rep]using h
 |.bl _,v,h=>by simpa only[RI,I.py,Rep]using h
 |.int _,v,h=>by simpa only[RI,I.py,Rep]using h
 |.str _,v,h=>by simpa only[RI,I.py,Rep]using h
 |.tup ds,v,h=>by
  simp only[RI]at h;obtain⟨a,xs,e,q,r⟩:=h;simp only[I.py,Rep];exact⟨a,xs,e,q,RIs.rep r⟩
theorem RIs.rep:∀{i:List I} {v:List V},RIs K H i v->CG K H (I.pys i) v
 |[],v,h=>by simpa only[RIs,I.pys,CG]using h
 |d::ds,v,h=>by
  simp only[RIs]at h;obtain⟨x,r,e,q,z⟩:=h;simp only[I.pys,CG];exact⟨x,r,e,q.rep,RIs.rep z⟩
end
def pyD(hd:Hd):D->Option PyData
 |.im i=>some i.py
 |.mu n=>match hd[n]? with
  |some (.lst ds)=>(BN ds).map λis=>.list (I.pys is)
  |_=>none
 |.ro ns=>some (.list (I.pys (ns.map I.int)))
 |_=>none
def EQ{d:D}{v:V}{p:PyData}(hR:RH K ρ H hd)(h:RD K ρ H d v)(e:pyD hd d=some p):Rep K H p v:=by
 cases d with
 |im i=>simp only[pyD,Option.some.injEq]at e;subst e;simp only[RD]at h;exact h.rep
 |mu n=>
  simp only[pyD]at e;simp only[RD]at h;obtain⟨a,hn,rfl⟩:=h;split at e
  .next q=>
   obtain⟨is,e1,rfl⟩:=j4 e;obtain⟨xs,e2,e3⟩:=hR.lst hn q;rw[Ed e1]at e3;simp only[Rep];exact⟨a,xs,rfl,SqL.of e2,e3.is.rep⟩
  .cases e
 |ro ns=>
  simp only[pyD,Option.some.injEq]at e;subst e;obtain⟨a,xs,rfl,q,r⟩:=h.lst hR (hd:=hd) (ds:=ns.map λn=>.im (.int n)) rfl;simp only[Rep];refine⟨a,xs,rfl,q,RIs.rep (RDs.is (ρ:=ρ) ?_)⟩;rw[jh];exact r
 |tm _=>simp[pyD]at e
 |op _ _ _=>simp[pyD]at e
def Kj(neg:Bool):D->D->Hd->Option (D×Hd):=λd e hd=>match pyD hd d,pyD hd e with
 |some x,some y=>if x.canLay0=true/\y.canLay0=true/\min x.depth y.depth<=60 then some (.im (.bl (if neg then !PyData.eqv x y else PyData.eqv x y)),hd)else none
 |_,_=>none
def S0:RB K (U9 K) (Kj false):=by
 intro ρ H hd d e v u Q z hd' hR h1 h2 hf hQ;unfold Kj at hf;split at hf
 .next e1 e2=>
  split at hf
  .next c=>cases hf;exact⟨_,_,EQ hR h1 e1,EQ hR h2 e2,c.1,c.2.1,c.2.2,hQ ρ H _ .refl hR (by simp[RD,RI])⟩
  .cases hf
 .cases hf
def Rx:RB K (U6 K) (Kj true):=by
 intro ρ H hd d e v u Q z hd' hR h1 h2 hf hQ;unfold Kj at hf;split at hf
 .next e1 e2=>
  split at hf
  .next c=>cases hf;exact⟨_,_,EQ hR h1 e1,EQ hR h2 e2,c.1,c.2.1,c.2.2,hQ ρ H _ .refl hR (by simp[RD,RI])⟩
  .cases hf
 .cases hf
abbrev gEq:=D5 (GS false) (Kj false)
abbrev gNe:=D5 (GS true) (Kj true)
def gIx:D->D->Hd->Option (D×Hd)
 |d,.im (.int i),hd=>(Ax hd d).bind λds=>(atI ds i).map (·,hd)
 |_,_,_=>none
def P9{α β:Type}{xs:List α}{ys:List β}{i:Int}{y:β}(h:xs.length=ys.length)(e:atI ys i=some y):∃(j:Nat),ys[j]?=some y/\∀x,xs[j]?=some x->atI xs i=some x:=by
 unfold atI at e;obtain⟨j,e1,e2⟩:=gV e;exact⟨j,e2,λx q=>by unfold atI;rw[h,e1];exact q⟩
def M1(K:Frag):R2:=λx y H Q=>U8 K x y H Q∨U7 K x y H Q
def dW:RB K (M1 K) gIx:=by
 intro ρ H hd d e v u Q z hd' hR h1 h2 hf hQ;unfold gIx at hf;split at hf
 .obtain⟨ds,e1,hf⟩:=gV hf;obtain⟨w,e2,e3⟩:=j4 hf;cases e3;obtain⟨a,xs,rfl,q,r⟩:=h1.seq hR e1;simp only[RD,RI]at h2;subst h2;obtain⟨j,j1,j2⟩:=P9 r.len e2;obtain⟨x,x1,x2⟩:=r.get j1;rcases q with q|q
  .exact .inl ⟨a,xs,_,x,rfl,rfl,q,j2 x x1,hQ ρ H x .refl hR x2⟩
  .exact .inr ⟨a,xs,_,x,rfl,rfl,q,j2 x x1,hQ ρ H x .refl hR x2⟩
 .cases hf
def CK(xs:List D)(lo hi:Option Int):List D:=(xs.drop (HT.sIx xs.length 0 lo)).take (HT.sIx xs.length xs.length hi-HT.sIx xs.length 0 lo)
def P4{ds:List D}{xs:List V}{lo hi:Option Int}(r:RDs K ρ H ds xs):RDs K ρ H (CK ds lo hi) (GU xs lo hi):=by
 unfold CK GU;rw[r.len];exact(r.drop _).take _
abbrev MO1:=Ls->Hd->Option (Option Int×Hd)
def RO1(K:Frag)(t:TO)(m:MO1):Prop:=∀(ρ:List Addr) (U:St) (H:Hp) (hd:Hd) (ls:Ls) (Q:Option Int->Hp->Prop) (d:Option Int) (hd':Hd),RH K ρ H hd->RL K ρ H ls U->m ls hd=some (d,hd') ->
 (∀ρ' H',Ext ρ H ρ' H'->RH K ρ' H' hd'->Q d H')->t U H Q
def Av:MO1:=λ_ hd=>some (none,hd)
def BK(m:ME):MO1:=λls hd=>(m ls hd).bind λp=>match p.1 with
 |.im (.int i)=>some (some i,p.2)
 |_=>none
def Wp:RO1 K KL Av:=by
 and_intros;cases hm;exact hQ ρ H .refl hR
def Wo{t:TE}{m:ME}(h:RE K t m):RO1 K (PY t) (BK m):=by
 and_intros;obtain⟨⟨d1,h1⟩,e1,hm⟩:=gV hm;dsimp only at hm;split at hm
 .cases hm;exact h ρ U H hd ls _ _ _ hR hL e1 λρ1 H1 v x1 R1 r1=>⟨_,by simpa only[RD,RI]using r1,hQ ρ1 H1 x1 R1⟩
 .cases hm
def fe(m:ME)(ml mh:MO1):ME:=λls hd=>(m ls hd).bind λp=>(ml ls p.2).bind λl=>(mh ls l.2).bind λh=>(AS p.1).bind λds=>
 if ¬ (HT.sIx ds.length 0 l.1=0/\HT.sIx ds.length ds.length h.1=ds.length)then some (AT (CK ds l.1 h.1),h.2)else none
def NI(m:ME)(ml mh:MO1):MA:=λls hd=>(m ls hd).bind λp=>(ml ls p.2).bind λl=>(mh ls l.2).bind λh=>(BQ h.2 p.1).bind λds=>some (CK ds l.1 h.1,h.2)
def Zc{t:TE}{tl th:TO}{m:ME}{ml mh:MO1}(h:RE K t m)(hl:RO1 K tl ml)(hh:RO1 K th mh):RN K (tSl (Pu K) t tl th) (NI m ml mh):=by
 and_intros;obtain⟨⟨d1,h1⟩,e1,hm⟩:=gV hm;obtain⟨⟨d2,h2⟩,e2,hm⟩:=gV hm;obtain⟨⟨d3,h3⟩,e3,hm⟩:=gV hm;obtain⟨ds,e4,hm⟩:=gV hm;dsimp only at e2 e3 e4 hm;cases hm;refine h ρ U H hd ls _ d1 h1 hR hL e1 λρ1 H1 v1 x1 R1 r1=>?_;refine hl ρ1 U H1 h1 ls _ d2 h2 R1 (hL.ext hR x1) e2 λρ2 H2 x2 R2=>?_;refine hh ρ2 U H2 h2 ls _ d3 _ R2 (hL.ext hR (x1.trans R1 x2)) e3 λρ3 H3 x3 R3=>?_;obtain⟨a,xs,rfl,q,r⟩:=RD.lst R3 ((r1.ext R1 x2).ext R2 x3) e4;refine⟨a,xs,rfl,q,λp hp=>?_⟩;obtain⟨R4,x4⟩:=R3.hid (ho:=.lst (GU xs d2 d3)) hp;have x123:=(x1.trans R1 x2).trans R2 x3;exact hQ ρ3 _ p _ (x123.trans R3 x4) R4 (x123.none hR hp R3) (R3.out hp) AJ ((P4 r).ext R3 x4)
def mCB(f:List D->Hd->Option (D×Hd))(ma:MA):ME:=λls hd=>(ma ls hd).bind λp=>f p.1 p.2
def Vf{r:List V->Hp->VK->Prop}{f:List D->Hd->Option (D×Hd)}{t:TA}{m:MA}(hr:RF K r f)(h:RA K t m):RE K (tCB r t) (mCB f m):=by
 and_intros;obtain⟨⟨d1,h1⟩,e1,hm⟩:=gV hm;refine h ρ U H hd ls _ d1 h1 hR hL e1 λρ1 H1 v1 x1 R1 r1=>?_;exact hr ρ1 H1 h1 d1 v1 Q d hd' R1 r1 hm λρ' H' w x2 R2 r2=>hQ ρ' H' w (x1.trans R1 x2) R2 r2
def f1(tp:Bool)(g:List D->Option D):List D->Hd->Option (D×Hd)
 |[d],hd=>((if tp then Ax hd d else BQ hd d)).bind λds=>(g ds).map (·,hd)
 |_,_=>none
def KW{tp:Bool}{r:List V->Hp->VK->Prop}{g:List D->Option D}(h:RG K tp r g):RF K r (f1 tp g):=by
 intro ρ H hd ds vs Q z hd' hR h1 hf hQ;unfold f1 at hf;split at hf
 .next d hd'=>
  obtain⟨es,e1,hf⟩:=gV hf;obtain⟨w,e2,e3⟩:=j4 hf;cases e3;simp only[RDs]at h1;obtain⟨x,r,rfl,rx,rfl⟩:=h1;cases tp with
  |true=>
   rw[j6 rfl]at e1;obtain⟨a,xs,rfl,q,rr⟩:=rx.seq hR e1;exact h ρ H hd a xs es Q z hR (q.imp id λq=>⟨rfl,q⟩) rr e2 λH' w x R r=>hQ ρ H' w x R r
  |false=>
   rw[j7 Bool.false_ne_true]at e1;obtain⟨a,xs,rfl,q,rr⟩:=rx.lst hR e1;exact h ρ H hd a xs es Q z hR (.inl q) rr e2 λH' w x R r=>hQ ρ H' w x R r
 .cases hf
def CJ(g:List D->Option D)(ml:MA):ME:=λls hd=>(ml ls hd).bind λp=>(g p.1).map (·,p.2)
def Ru{tp:Bool}{r:List V->Hp->VK->Prop}{g:List D->Option D}{t:TE}{m:MA}(hr:RG K tp r g)(h:RN K t m):RE K (tCB r (Aq t BS)) (CJ g m):=by
 and_intros;obtain⟨⟨d1,h1⟩,e1,hm⟩:=gV hm;obtain⟨w,e2,e3⟩:=j4 hm;cases e3;refine h ρ U H hd ls _ d1 _ hR hL e1 λρ1 H1 a xs x1 R1 na oa ea r1=>?_;exact hr ρ1 H1 _ a xs d1 Q d R1 (.inl (SqL.of ea)) r1 e2 λH' w x R r=>hQ ρ1 H' w (x1.trans R1 x) R r
def B1(ds:List D):Option D:=some (.im (.int ds.length))
def Zk:RG K true (a9 K) B1:=by
 intro ρ H hd a xs ds Q z hR q r e hQ;cases e;refine⟨a,xs,rfl,q.imp id λq=>q.2,?_⟩;rw[r.len];exact hQ H _ .refl hR (by simp[RD,RI])
def Ez(ds:List D):Option D:=some (AT ds)
def Mn:RG K true (Mv K) Ez:=by
 intro ρ H hd a xs ds Q z hR q r e hQ;cases e;refine⟨a,xs,rfl,?_⟩;rcases q with q|⟨_,q⟩
 .refine .inl ⟨q,λp hp=>?_⟩;obtain⟨R2,x2⟩:=hR.hid (ho:=.tup xs) hp;exact hQ _ _ x2 R2 (BV (SqT.of AJ) (r.ext hR x2))
 .exact .inr ⟨q,hQ H _ .refl hR (BV q r)⟩
def Fy(ds:List D):Option D:=(BH ds).map λns=>.im (.int ns.sum)
def fU(K:Frag):List V->Hp->VK->Prop:=λxs H Q=>Vj K xs H Q∨Vi K xs H Q
def Rn:RG K true (fU K) Fy:=by
 intro ρ H hd a xs ds Q z hR q r e hQ;obtain⟨ns,e1,rfl⟩:=j4 e;rw[Fz e1]at r;have:=KY r;subst this;rcases q with q|⟨_,q⟩
 .exact .inl ⟨a,ns,rfl,q,hQ H _ .refl hR (by simp[RD,RI])⟩
 .exact .inr ⟨a,ns,rfl,q,hQ H _ .refl hR (by simp[RD,RI])⟩
def JP(ds:List D):Option D:=(D8 ds).map λbs=>.im (.bl (bs.all id))
def NO(ds:List D):Option D:=(D8 ds).map λbs=>.im (.bl (bs.any id))
def Rq:RG K false (aB K) JP:=by
 intro ρ H hd a xs ds Q z hR q r e hQ;obtain⟨ns,e1,rfl⟩:=j4 e;rw[Ko e1]at r;have:=Mt r;subst this;rcases q with q|⟨q,_⟩
 .exact⟨a,ns,rfl,q,hQ H _ .refl hR (by simp[RD,RI])⟩
 .cases q
def Rp:RG K false (aA K) NO:=by
 intro ρ H hd a xs ds Q z hR q r e hQ;obtain⟨ns,e1,rfl⟩:=j4 e;rw[Ko e1]at r;have:=Mt r;subst this;rcases q with q|⟨q,_⟩
 .exact⟨a,ns,rfl,q,hQ H _ .refl hR (by simp[RD,RI])⟩
 .cases q
def HC:List Int->Int
 |[]=>0
 |[x]=>x
 |x::r=>if HC r>x then HC r else x
theorem IB:∀{xs:List Int},xs≠[]->HC xs∈xs/\∀x∈xs,x<=HC xs
 |[],h=>absurd rfl h
 |[x],_=>by simp[HC]
 |x::y::r,_=>by
  obtain⟨h1,h2⟩:=IB (xs:=y::r) (by simp);rw[HC];split
  .next h=>exact⟨jm _ h1,λz m=>by rcases mem_cons.mp m with rfl|m;omega;exact h2 z m⟩
  .next h=>exact⟨jt,λz m=>by rcases mem_cons.mp m with rfl|m;omega;exact Int.le_trans (h2 z m) (by omega)⟩
  .simp
def Ki(ds:List D):Option D:=(BH ds).bind λns=>if ns=[]then none else some (.im (.int (HC ns)))
def fV(K:Frag):List V->Hp->VK->Prop:=λxs H Q=>Vl K xs H Q∨Vk K xs H Q
def FZ{α:Type}{xs:List α}(h:xs≠[]):0<xs.length:=by cases xs<;>simp_all
def Ro:RG K true (fV K) Ki:=by
 intro ρ H hd a xs ds Q z hR q r e hQ;obtain⟨ns,e1,e⟩:=gV e;split at e
 .cases e
 .next hn=>
  cases e;rw[Fz e1]at r;have:=KY r;subst this;have u:∀M:Int,M∈ns->(∀x∈ns,x<=M)->M=HC ns:=λM m1 m2=>by
   obtain⟨n1,n2⟩:=IB hn;have:=n2 M m1;have:=m2 _ n1;omega
  rcases q with q|⟨_,q⟩
  .exact .inl ⟨a,ns,rfl,q,FZ hn,λM m1 m2=>by rw[u M m1 m2];exact hQ H _ .refl hR (by simp[RD,RI])⟩
  .exact .inr ⟨a,ns,rfl,q,FZ hn,λM m1 m2=>by rw[u M m1 m2];exact hQ H _ .refl hR (by simp[RD,RI])⟩
def HN:List D->Hd->Option (D×Hd)
 |[.im (.int i),.im (.int j)],hd=>some (.im (.int (if j>i then j else i)),hd)
 |_,_=>none
def HM:List D->Hd->Option (D×Hd)
 |[.im (.int i),.im (.int j)],hd=>some (.im (.int (if j<i then j else i)),hd)
 |_,_=>none
def Ww:RF K (λxs H Q=>∃i j,xs=[.int i,.int j]/\Q (.int (if j>i then j else i)) H) HN:=by
 intro ρ H hd ds vs Q z hd' hR h1 hf hQ;unfold HN at hf;split at hf
 .cases hf;simp only[RDs,RD,RI]at h1;obtain⟨x,r,rfl,rfl,y,r2,rfl,rfl,rfl⟩:=h1;exact⟨_,_,rfl,hQ ρ H _ .refl hR (by simp[RD,RI])⟩
 .cases hf
def Wv:RF K (λxs H Q=>∃i j,xs=[.int i,.int j]/\Q (.int (if j<i then j else i)) H) HM:=by
 intro ρ H hd ds vs Q z hd' hR h1 hf hQ;unfold HM at hf;split at hf
 .cases hf;simp only[RDs,RD,RI]at h1;obtain⟨x,r,rfl,rfl,y,r2,rfl,rfl,rfl⟩:=h1;exact⟨_,_,rfl,hQ ρ H _ .refl hR (by simp[RD,RI])⟩
 .cases hf
def fo:List D->Hd->Option (D×Hd)
 |[.im (.int i)],hd=>some (.im (.int (if i<0 then -i else i)),hd)
 |_,_=>none
def HE(ma:ME):MA:=λls hd=>(ma ls hd).bind λp=>(Ax p.2 p.1).map (·,p.2)
def Wq{t:TE}{m:ME}(h:RE K t m):RN K (tCB (Gf K) (Aq t BS)) (HE m):=by
 and_intros;obtain⟨⟨d1,h1⟩,e1,hm⟩:=gV hm;obtain⟨w,e2,e3⟩:=j4 hm;cases e3;refine h ρ U H hd ls _ d1 _ hR hL e1 λρ1 H1 v x1 R1 r1=>?_;obtain⟨a,xs,rfl,q,rr⟩:=r1.seq R1 e2;refine⟨a,xs,rfl,q,λl hl=>?_⟩;obtain⟨R2,x2⟩:=R1.hid (ho:=.lst xs) hl;exact hQ ρ1 _ l xs (x1.trans R1 x2) R2 (x1.none hR hl R1) (R1.out hl) AJ (rr.ext R1 x2)
def IC(ml:MA):MA:=ml
def Ts{t:TE}{m:MA}(h:RN K t m):RN K (tCB (Gf K) (Aq t BS)) (IC m):=by
 and_intros;refine h ρ U H hd ls _ d _ hR hL hm λρ1 H1 a xs x1 R1 na oa ea r1=>?_;refine⟨a,xs,rfl,.inl (SqL.of ea),λl hl=>?_⟩;obtain⟨R2,x2⟩:=R1.hid (ho:=.lst xs) hl;exact hQ ρ1 _ l xs (x1.trans R1 x2) R2 (x1.none hR hl R1) (R1.out hl) AJ (r1.ext R1 x2)
def N7(d:PyData):Prop:=d.showable=true/\d.hasDict=false/\isDisplay d=true/\d.depth<=30/\d.shown.length<=sizeLine
open Classical in
def IH:List D->Hd->Option (D×Hd)
 |[.im (.int i)],hd=>if fN i.natAbs.log2 then some (.im (.str (toString i)),hd)else none
 |_,_=>none
def Tz:RF K (λxs H Q=>∃i,xs=[.int i]/\i.natAbs.log2<1920/\Q (.str (toString i)) H) IH:=by
 intro ρ H hd ds vs Q z hd' hR h1 hf hQ;unfold IH at hf;split at hf
 .split at hf
  .next c=>
   cases hf;simp only[RDs,RD,RI]at h1;obtain⟨x,r,rfl,rfl,rfl⟩:=h1;exact⟨_,rfl,c,hQ ρ H _ .refl hR (by simp[RD,RI])⟩
  .cases hf
 .cases hf
def mMt(f:D->List D->Hd->Option (D×Hd))(mo:ME)(ma:MA):ME:=λls hd=>(mo ls hd).bind λp=>match BQ p.2 p.1 with
 |some _=>(ma ls p.2).bind λq=>f p.1 q.1 q.2
 |none=>none
def RM(K:Frag)(r:V->List V->Hp->VK->Prop)(f:D->List D->Hd->Option (D×Hd)):Prop:=∀(ρ:List Addr) (H:Hp) (hd:Hd) (d:D) (v:V) (ds:List D) (vs:List V) (Q:VK) (z:D) (hd':Hd),RH K ρ H hd->RD K ρ H d v->RDs K ρ H ds vs->f d ds hd=some (z,hd') ->
 (∀ρ' H' w,Ext ρ H ρ' H'->RH K ρ' H' hd'->RD K ρ' H' z w->Q w H')->r v vs H Q
def dQ{r:V->List V->Hp->VK->Prop}{f:D->List D->Hd->Option (D×Hd)}{to:TE}{t:TA}{mo:ME}{ma:MA}(hr:RM K r f)(ho:RE K to mo)(ha:RA K t ma):RE K (tBM K "list" r to t) (mMt f mo ma):=by
 and_intros;obtain⟨⟨d1,h1⟩,e1,hm⟩:=gV hm;dsimp only at hm;split at hm
 .next e=>
  obtain⟨⟨d2,h2⟩,e2,hm⟩:=gV hm;refine ho ρ U H hd ls _ d1 h1 hR hL e1 λρ1 H1 v x1 R1 r1=>⟨?_,?_⟩
  .obtain⟨a,xs,rfl,q,_⟩:=r1.lst R1 e;exact .inl ⟨rfl,xs,q⟩
  .exact ha ρ1 U H1 h1 ls _ d2 h2 R1 (hL.ext hR x1) e2 λρ2 H2 vs x2 R2 r2=>hr ρ2 H2 h2 d1 v d2 vs Q d hd' R2 (r1.ext R1 x2) r2 hm λρ' H' w x3 R3 r3=>hQ ρ' H' w ((x1.trans R1 x2).trans R2 x3) R3 r3
 .cases hm
open Classical in
def Du:D->List D->Hd->Option (D×Hd)
 |.mu n,[x],hd=>match hd[n]? with
  |some (.lst ds)=>if HL ds.length then some (.im .non,hd.set n (.lst (ds++[x])))else none
  |_=>none
 |_,_,_=>none
def Rm:RM K Of Du:=by
 intro ρ H hd d v ds vs Q z hd' hR h1 h2 hf hQ;unfold Du at hf;split at hf
 .split at hf
  .next q=>
   split at hf
   .next c=>
    cases hf;simp only[RD]at h1;obtain⟨a,hn,rfl⟩:=h1;simp only[RDs]at h2;obtain⟨x,r,rfl,rx,rfl⟩:=h2;obtain⟨xs,e1,e2⟩:=hR.lst hn q;obtain⟨R2,x2⟩:=hR.put hn (o:=.lst (_++[_])) (ho:=.lst (xs++[x])) ⟨_,rfl,e2.app (.cons rx .nil)⟩;exact⟨a,xs,x,rfl,rfl,e1,by rw[e2.len];exact c,hQ ρ _ _ x2 R2 (by simp[RD,RI])⟩
   .cases hf
  .cases hf
 .cases hf
end
end L2
namespace L2
open PySem PySem.Spec PyProof.Rows
section
variable{K:Frag}
def AU:MS:=λls hd=>some (.nx ls,hd)
def KR:RS K IV AU:=by
 intro ρ U H hd ls E f hd' hR hL hm hQ;cases hm;exact hQ ρ H .refl hR U hL
def AD(a b:MS):MS:=λls hd=>(a ls hd).bind λp=>match p.1 with
 |.nx ls1=>b ls1 p.2
 |f=>some (f,p.2)
def Ri(ha:RS K t a)(hb:RS K u b):RS K (MR t u) (AD a b):=by
 intro ρ U H hd ls E f hd' hR hL hm hQ;obtain⟨⟨f1,h1⟩,e1,hm⟩:=gV hm;refine ha ρ U H hd ls { E with nx:=u E } f1 h1 hR hL e1 λρ1 H1 x1 R1=>?_;cases f1 with
 |nx ls1=>
  intro σ1 L1;exact hb ρ1 σ1 H1 h1 ls1 E f hd' R1 L1 hm λρ2 H2 x2 R2=>hQ ρ2 H2 (x1.trans R1 x2) R2
 |bk ls1=>cases hm;exact hQ ρ1 H1 x1 R1
 |ct ls1=>cases hm;exact hQ ρ1 H1 x1 R1
 |rt d=>cases hm;exact hQ ρ1 H1 x1 R1
def bx:MS:=λls hd=>some (.bk ls,hd)
def eV:MS:=λls hd=>some (.ct ls,hd)
def CY(m:ME):MS:=λls hd=>(m ls hd).bind λp=>some (.nx ls,p.2)
def Wj(h:RE K t m):RS K (Pb t) (CY m):=by
 intro ρ U H hd ls E f hd' hR hL hm hQ;obtain⟨⟨d1,h1⟩,e1,hm⟩:=gV hm;cases hm;exact h ρ U H hd ls _ d1 _ hR hL e1 λρ1 H1 v x1 R1 r1=>hQ ρ1 H1 x1 R1 U (hL.ext hR x1)
def AQ(m:ME):MS:=λls hd=>(m ls hd).bind λp=>some (.rt p.1,p.2)
def Mi(h:RE K t m):RS K (JB t) (AQ m):=by
 intro ρ U H hd ls E f hd' hR hL hm hQ;obtain⟨⟨d1,h1⟩,e1,hm⟩:=gV hm;cases hm;exact h ρ U H hd ls _ d1 _ hR hL e1 λρ1 H1 v x1 R1 r1=>hQ ρ1 H1 x1 R1 v r1
def eQ:MS:=λ_ hd=>some (.rt (.im .non),hd)
def Aa(c:MT)(a b:MS):MS:=λls hd=>(c ls hd).bind λp=>if p.1=true then a ls p.2 else b ls p.2
def Va(hc:RT K tc c)(ha:RS K t a)(hb:RS K u b):RS K (MV tc t u) (Aa c a b):=by
 intro ρ U H hd ls E f hd' hR hL hm hQ;obtain⟨⟨d1,h1⟩,e1,hm⟩:=gV hm;refine hc ρ U H hd ls _ d1 h1 hR hL e1 λρ1 H1 x1 R1=>?_;cases d1 with
 |true=>
  rw[j6 rfl]at hm ⊢;exact ha ρ1 U H1 h1 ls E f hd' R1 (hL.ext hR x1) hm λρ2 H2 x2 R2=>hQ ρ2 H2 (x1.trans R1 x2) R2
 |false=>
  rw[j7 Bool.false_ne_true]at hm ⊢;exact hb ρ1 U H1 h1 ls E f hd' R1 (hL.ext hR x1) hm λρ2 H2 x2 R2=>hQ ρ2 H2 (x1.trans R1 x2) R2
def Br:MS:=λ_ _=>none
def Mk:RS K Jg Br:=by
 intro ρ U H hd ls E f hd' hR hL hm hQ;cases hm
abbrev MG:=D->Ls->Hd->Option Ls
abbrev MGs:=List D->Ls->Hd->Option Ls
def RGt(K:Frag)(t:TG)(m:MG):Prop:=∀(ρ:List Addr) (U:St) (H:Hp) (hd:Hd) (ls ls':Ls) (d:D) (v:V) (Q:St->Hp->Prop),RH K ρ H hd->RL K ρ H ls U->RD K ρ H d v->m d ls hd=some ls' ->
 (∀σ',RL K ρ H ls' σ'->Q σ' H)->t v U H Q
def O3(K:Frag)(t:TGs)(m:MGs):Prop:=∀(ρ:List Addr) (U:St) (H:Hp) (hd:Hd) (ls ls':Ls) (d:List D) (v:List V) (Q:St->Hp->Prop),RH K ρ H hd->RL K ρ H ls U->RDs K ρ H d v->m d ls hd=some ls' ->
 (∀σ',RL K ρ H ls' σ'->Q σ' H)->t v U H Q
theorem RL.set(h:RL K ρ H ls U)(i:Nat)(r:RD K ρ H d v):RL K ρ H (ls.set i (some d)) (U.set i (some v)):=by
 refine⟨by simp[h.len],λj e q=>?_⟩;by_cases hij:i=j
 .subst hij;have hl:i<ls.length:=by
   have:=(List.getElem?_eq_some_iff.mp q).1;simpa using this
  rw[List.getElem?_set_self hl]at q;cases q;exact⟨v,by rw[List.getElem?_set_self (by rw[<- h.len];exact hl)],r⟩
 .rw[List.getElem?_set_ne hij]at q;obtain⟨w,e1,e2⟩:=h.ob j e q;exact⟨w,by rw[List.getElem?_set_ne hij];exact e1,e2⟩
def AO(i:Nat):MG:=λd ls _=>some (ls.set i (some d))
def KU{i:Nat}:RGt K (Ej i) (AO i):=by
 intro ρ U H hd ls ls' d v Q hR hL hd hm hQ;cases hm;exact hQ _ (hL.set i hd)
def C8:MGs:=λds ls _=>match ds with
 |[]=>some ls
 |_=>none
def Ae(m:MG)(r:MGs):MGs:=λds ls hd=>match ds with
 |d::es=>(m d ls hd).bind λls1=>r es ls1 hd
 |[]=>none
def Wu:O3 K V7 C8:=by
 intro ρ U H hd ls ls' d v Q hR hL hd hm hQ;cases d with
 |nil=>
  simp only[RDs]at hd;subst hd;cases hm;exact⟨rfl,hQ _ hL⟩
 |cons a b=>cases hm
def Tw(h:RGt K t m)(h':O3 K u r):O3 K (QZ t u) (Ae m r):=by
 intro ρ U H hd ls ls' d v Q hR hL hd hm hQ;cases d with
 |nil=>cases hm
 |cons a b=>
  simp only[RDs]at hd;obtain⟨x,y,rfl,h1,h2⟩:=hd;obtain⟨ls1,e1,e2⟩:=gV hm;exact⟨x,y,rfl,h ρ U H _ ls ls1 a x _ hR hL h1 e1 λσ1 L1=>h' ρ σ1 H _ ls1 ls' b y Q hR L1 h2 e2 hQ⟩
def Bv(n:Nat)(r:MGs):MG:=λd ls hd=>(AS d).bind λds=>if ds.length=n then r ds ls hd else none
def Zj{n:Nat}(h':O3 K u r):RGt K (QY K n u) (Bv n r):=by
 intro ρ U H hd ls ls' d v Q hR hL hd hm hQ;obtain⟨ds,e1,hm⟩:=gV hm;split at hm
 .next c=>
  obtain⟨a,xs,rfl,q,rr⟩:=hd.tup e1;exact⟨a,xs,rfl,q,by rw[rr.len];exact c,h' ρ U H _ ls ls' ds xs Q hR hL rr hm hQ⟩
 .cases hm
def ID(m:ME)(g:MG):MS:=λls hd=>(m ls hd).bind λp=>(g p.1 ls p.2).map λls'=>(.nx ls',p.2)
def Ml(h:RE K t m)(hg:RGt K g n):RS K (Gy t g) (ID m n):=by
 intro ρ U H hd ls E f hd' hR hL hm hQ;obtain⟨⟨d1,h1⟩,e1,hm⟩:=gV hm;obtain⟨ls',e2,e3⟩:=j4 hm;cases e3;exact h ρ U H hd ls _ d1 _ hR hL e1 λρ1 H1 v x1 R1 r1=>hg ρ1 U H1 _ ls ls' d1 v _ R1 (hL.ext hR x1) r1 e2 λσ' L'=>hQ ρ1 H1 x1 R1 σ' L'
abbrev AW(i:Nat)(m:ME):MS:=ID m (AO i)
def QC(ix:List Nat)(ma:MA):MS:=λls hd=>(ma ls hd).bind λp=>if p.1.length=ix.length then some (.nx ((ix.zip p.1).foldl (λl q=>l.set q.1 (some q.2)) ls),p.2)else none
def eR(i j k:Nat)(ma:MA):MS:=QC [k,j,i] (λls hd=>(ma ls hd).map λp=>(p.1.reverse,p.2))
abbrev Gd:=List (Nat×List D)
abbrev MI:=Ls->Hd->Option ((List D×Gd)×Hd)
def GOk(hd:Hd)(g:Gd):Prop:=∀p∈g,hd[p.1]?=some (.lst p.2)
@[simp] theorem Ah(hd:Hd):GOk hd []:=λp h=>by cases h
def O1(K:Frag)(ρ:List Addr)(H:Hp)(J:It)(ds:List D)(g:Gd):Prop:=∀(ρ2:List Addr) (H2:Hp) (hd2:Hd),Ext ρ H ρ2 H2->RH K ρ2 H2 hd2->GOk hd2 g ->
 ∀i:Nat,(i<ds.length->J.go i H2/\∀x H3,J.yld i H2 x H3->∃ρ3 d,Ext ρ2 H2 ρ3 H3/\ρ3=ρ2/\RH K ρ3 H3 hd2/\ds[i]?=some d/\RD K ρ3 H3 d x)/\(i=ds.length->J.stop i H2)
def RIt(K:Frag)(t:TI)(m:MI):Prop:=∀(ρ:List Addr) (U:St) (H:Hp) (hd:Hd) (ls:Ls) (Q:It->Hp->Prop) (d:List D) (g:Gd) (hd':Hd),RH K ρ H hd->RL K ρ H ls U->m ls hd=some ((d,g),hd') ->
 (∀ρ' H' J,Ext ρ H ρ' H'->RH K ρ' H' hd'->GOk hd' g->O1 K ρ' H' J d g->Q J H')->t U H Q
def PH(hR:RH K ρ H hd)(q:SqT K H a xs)(r:RDs K ρ H ds xs)(g:Gd):O1 K ρ H (Itt K a) ds g:=by
 intro ρ2 H2 hd2 x2 R2 _ i;have q2:=(x2.grow hR).sq q;have r2:=r.ext hR x2;have uniq:∀ys,SqT K H2 a ys->True:=λ_ _=>trivial;refine⟨λhi=>?_,λhi=>⟨xs,q2,by rw[r2.len,hi];exact j9 _⟩⟩;have e:ds[i]?=some ds[i]:=by simp[hi]
 obtain⟨x,x1,x3⟩:=r2.get e;refine⟨⟨xs,x,q2,x1⟩,λy H3 ⟨e3,hy⟩=>?_⟩;subst e3;have:=hy xs q2;rw[x1]at this;cases this;exact⟨ρ2,_,.refl,rfl,R2,e,x3⟩
def BY(m:ME):MI:=λls hd=>(m ls hd).bind λp=>(AS p.1).map λds=>((ds,[]),p.2)
def Zh(h:RE K t m):RIt K (QQ K t) (BY m):=by
 intro ρ U H hd ls Q d g hd' hR hL hm hQ;obtain⟨⟨d1,h1⟩,e1,hm⟩:=gV hm;obtain⟨ds,e2,e3⟩:=j4 hm;cases e3;refine h ρ U H hd ls _ d1 _ hR hL e1 λρ1 H1 v x1 R1 r1=>?_;obtain⟨a,xs,rfl,q,r⟩:=r1.tup e2;exact⟨a,rfl,⟨xs,q⟩,hQ ρ1 H1 _ x1 R1 (Ah _) (PH R1 q r [])⟩
def E9(m:ME):MI:=λls hd=>(m ls hd).bind λp=>match p.1 with
 |.mu n=>match p.2[n]? with
  |some (.lst ds)=>some ((ds,[(n,ds)]),p.2)
  |_=>none
 |.ro ns=>some ((ns.map λn=>.im (.int n),[]),p.2)
 |_=>none
def Ws(h:RE K t m):RIt K (Ih K t) (E9 m):=by
 intro ρ U H hd ls Q d g hd' hR hL hm hQ;obtain⟨⟨d1,h1⟩,e1,hm⟩:=gV hm;dsimp only at hm;split at hm
 .next n=>
  split at hm
  .next ds q=>
   cases hm;refine h ρ U H hd ls _ _ _ hR hL e1 λρ1 H1 v x1 R1 r1=>?_;simp only[RD]at r1;obtain⟨a,hn,rfl⟩:=r1;obtain⟨xs,e2,e3⟩:=R1.lst hn q;refine⟨a,rfl,⟨xs,SqL.of e2⟩,hQ ρ1 H1 _ x1 R1 (λp z=>by simp at z;subst z;exact q) ?_⟩;intro ρ2 H2 hd2 x2 R2 G2 i;have q2:=G2 (n,d) (by simp);have hn2:ρ2[n]?=some a:=by
    obtain⟨r,rfl,_⟩:=x2.pre;rw[List.getElem?_append_left (List.getElem?_eq_some_iff.mp hn).1];exact hn
   obtain⟨ys,e4,e5⟩:=R2.lst hn2 q2;refine⟨λhi=>?_,λhi=>⟨ys,SqL.of e4,by rw[e5.len,hi];exact j9 _⟩⟩;have e:d[i]?=some d[i]:=by simp[hi]
   obtain⟨x,y1,y2⟩:=e5.get e;refine⟨⟨ys,x,SqL.of e4,y1⟩,λy H3 ⟨e6,hy⟩=>?_⟩;subst e6;have:=hy ys (SqL.of e4);rw[y1]at this;cases this;exact⟨ρ2,_,.refl,rfl,R2,e,y2⟩
  .cases hm
 .next ns=>
  cases hm;refine h ρ U H hd ls _ _ _ hR hL e1 λρ1 H1 v x1 R1 r1=>?_;simp only[RD]at r1;obtain⟨a,rfl,q⟩:=r1;refine⟨a,rfl,⟨_,q.sq⟩,hQ ρ1 H1 _ x1 R1 (Ah _) ?_⟩;intro ρ2 H2 hd2 x2 R2 G2 i;have q2:=(q.grow (x2.grow R1)).sq;have e5:RDs K ρ2 H2 (ns.map λn=>.im (.int n)) (ns.map V.int):=Gn;refine⟨λhi=>?_,λhi=>⟨_,q2,by rw[e5.len,hi];exact j9 _⟩⟩;have e:(ns.map λn=>D.im (.int n))[i]?=some ((ns.map λn=>D.im (.int n))[i]):=by simp[hi]
  obtain⟨x,y1,y2⟩:=e5.get e;refine⟨⟨_,x,q2,y1⟩,λy H3 ⟨e6,hy⟩=>?_⟩;subst e6;have:=hy _ q2;rw[y1]at this;cases this;exact⟨ρ2,_,.refl,rfl,R2,e,y2⟩
 .cases hm
def FA(ml:MA):MI:=λls hd=>(ml ls hd).map λp=>((p.1,[]),p.2)
def Zi(h:RN K t m):RIt K (Ih K t) (FA m):=by
 intro ρ U H hd ls Q d g hd' hR hL hm hQ;obtain⟨⟨d1,h1⟩,e1,e3⟩:=j4 hm;obtain⟨⟨rfl,rfl⟩,rfl⟩:=Prod.mk.inj e3 |>.imp Prod.mk.inj id;clear e3 hm;refine h ρ U H hd ls _ _ _ hR hL e1 λρ1 H1 a xs x1 R1 na oa ea r1=>?_;refine⟨a,rfl,⟨xs,SqL.of ea⟩,hQ ρ1 H1 _ x1 R1 (Ah _) ?_⟩;intro ρ2 H2 hd2 x2 R2 G2 i;have q2:SqL K H2 a xs:=SqL.of (x2.keep a _ ea oa nt);have r2:=r1.ext R1 x2;refine⟨λhi=>?_,λhi=>⟨xs,q2,by rw[r2.len,hi];exact j9 _⟩⟩;have hi:i<d1.length:=hi;have e:d1[i]?=some d1[i]:=by simp[hi]
 obtain⟨x,y1,y2⟩:=r2.get e;refine⟨⟨xs,x,q2,y1⟩,λy H3 ⟨e6,hy⟩=>?_⟩;subst e6;have:=hy xs q2;rw[y1]at this;cases this;exact⟨ρ2,_,.refl,rfl,R2,e,y2⟩
def Ar(lo:Int):Nat->List D
 |0=>[]
 |n+1=>.im (.int lo)::Ar (lo+1) n
@[simp] theorem DT(lo:Int)(n:Nat):(Ar lo n).length=n:=by
 induction n generalizing lo with
 |zero=>rfl
 |succ n ih=>simp[Ar,ih]
def Jr{n:Nat}:∀{lo:Int} {i:Nat},i<n->(Ar lo n)[i]?=some (.im (.int (lo+i))):=by
 induction n with
 |zero=>intro lo i h;omega
 |succ n ih=>
  intro lo i h;cases i with
  |zero=>simp[Ar]
  |succ i=>
   simp only[Ar,List.getElem?_cons_succ];rw[ih (by omega)]
   congr 3
   push_cast
   omega
def PJ{lo:Int}{n:Nat}:O1 K ρ H (Itr lo n) (Ar lo n) g:=by
 intro ρ2 H2 hd2 x2 R2 G2 i;refine⟨λhi=>?_,λhi=>by rw[hi,DT];exact j9 _⟩;rw[DT]at hi;refine⟨hi,λx H3 ⟨e1,e2⟩=>?_⟩;subst e1 e2;exact⟨ρ2,_,.refl,rfl,R2,Jr hi,by simp[RD,RI]⟩
open Classical in
def EV(m:MA):MI:=λls hd=>(m ls hd).bind λp=>match p.1 with
 |[.im (.int j)]=>if KS j then some ((Ar 0 j.toNat,[]),p.2)else none
 |_=>none
def Wr(h:RA K t m):RIt K (QU t) (EV m):=by
 intro ρ U H hd ls Q d g hd' hR hL hm hQ;obtain⟨⟨d1,h1⟩,e1,hm⟩:=gV hm;dsimp only at hm;split at hm
 .next j=>
  split at hm
  .next c=>
   cases hm;refine h ρ U H hd ls _ _ _ hR hL e1 λρ1 H1 v x1 R1 r1=>?_;simp only[RDs,RD,RI]at r1;obtain⟨x,r,rfl,rfl,rfl⟩:=r1;exact⟨j,rfl,c.1,c.2,hQ ρ1 H1 _ x1 R1 (Ah _) PJ⟩
  .cases hm
 .cases hm
open Classical in
def Vz(m:MA):MI:=λls hd=>(m ls hd).bind λp=>match p.1 with
 |[.im (.int i),.im (.int j)]=>if Tq i j then some ((Ar i (j-i).toNat,[]),p.2)else none
 |_=>none
open Classical in
def B3(n:MG)(b:MS)(g:Gd):List D->Ls->Hd->Option (Fl×Hd)
 |[],ls,hd=>some (.nx ls,hd)
 |d::r,ls,hd=>(n d ls hd).bind λls1=>(b ls1 hd).bind λp=>match p.1 with
  |.nx ls2=>if GOk p.2 g then B3 n b g r ls2 p.2 else none
  |.ct ls2=>if GOk p.2 g then B3 n b g r ls2 p.2 else none
  |.bk ls2=>some (.nx ls2,p.2)
  |.rt d=>some (.rt d,p.2)
def By(mi:MI)(n:MG)(b:MS):MS:=λls hd=>(mi ls hd).bind λp=>B3 n b p.1.2 p.1.1 ls p.2
def Rk(hi:RIt K wi mi)(hg:RGt K g n)(hb:RS K tb b):RS K (MW wi g tb) (By mi n b):=by
 intro ρ U H hd ls E f hd' hR hL hm hQ;obtain⟨⟨⟨ds,gd⟩,h1⟩,e1,hm⟩:=gV hm;refine hi ρ U H hd ls _ ds gd h1 hR hL e1 λρ1 H1 J x1 R1 G1 Y=>?_;dsimp only at hm;refine⟨λi m σ2 H2=>m=ds.length-i/\i<=ds.length/\∃ρ2 ls2 hd2,Ext ρ1 H1 ρ2 H2/\RH K ρ2 H2 hd2/\RL K ρ2 H2 ls2 σ2/\GOk hd2 gd/\B3 n b gd (ds.drop i) ls2 hd2=some (f,hd'),
  ⟨ds.length,by simp,jA _,ρ1,ls,h1,.refl,R1,hL.ext hR x1,G1,by simpa using hm⟩,?_⟩
 rintro i m σ2 H2 ⟨rfl,hi,ρ2,ls2,hd2,x2,R2,L2',G2,hm2⟩;obtain⟨Y1,Y2⟩:=Y ρ2 H2 hd2 x2 R2 G2 i;by_cases hlt:i<ds.length
 .obtain⟨go,Y1⟩:=Y1 hlt;have ed:ds.drop i=ds[i]::ds.drop (i+1):=List.drop_eq_getElem_cons hlt;rw[ed]at hm2;unfold B3 at hm2;obtain⟨ls3,e3,hm2⟩:=gV hm2;obtain⟨⟨fl,hd4⟩,e4,hm2⟩:=gV hm2;refine .inr ⟨go,λσ' H'=>∃ρ2 ls2 hd2,Ext ρ1 H1 ρ2 H'/\RH K ρ2 H' hd2/\RL K ρ2 H' ls2 σ'/\GOk hd2 gd/\B3 n b gd (ds.drop (i+1)) ls2 hd2=some (f,hd'),λσ' H' z=>⟨ds.length-(i+1),by omega,rfl,hlt,z⟩,λx H3 y=>?_⟩;obtain⟨ρ3,d3,x3,rfl,R3,e5,r3⟩:=Y1 x H3 y;have e6:d3=ds[i]:=by
   have:ds[i]?=some ds[i]:=by simp[hlt]
   rw[this]at e5;exact(Option.some.inj e5).symm
  subst e6;refine hg ρ3 σ2 H3 hd2 ls2 ls3 _ x _ R3 (L2'.ext R2 x3) r3 e3 λσ4 L4=>?_;refine hb ρ3 σ4 H3 hd2 ls3 _ fl hd4 R3 L4 e4 λρ5 H5 x5 R5=>?_;have x15:=(x2.trans R2 x3).trans R3 x5;cases fl with
  |nx ls5=>
   intro σ5 L5;dsimp only at hm2;split at hm2
   .next c=>exact⟨ρ5,ls5,hd4,x15,R5,L5,c,hm2⟩
   .cases hm2
  |ct ls5=>
   intro σ5 L5;dsimp only at hm2;split at hm2
   .next c=>exact⟨ρ5,ls5,hd4,x15,R5,L5,c,hm2⟩
   .cases hm2
  |bk ls5=>
   intro σ5 L5;cases hm2;exact hQ ρ5 H5 (x1.trans R1 x15) R5 σ5 L5
  |rt d5=>
   intro v5 r5;cases hm2;exact hQ ρ5 H5 (x1.trans R1 x15) R5 v5 r5
 .have e:i=ds.length:=by omega
  subst e;rw[List.drop_length]at hm2;unfold B3 at hm2;cases hm2;exact .inl ⟨Y2 rfl,hQ ρ2 H2 (x1.trans R1 x2) R2 σ2 L2'⟩
open Classical in
def B8(n:MG)(c:MT)(m:ME)(g:Gd):List D->Ls->Hd->Option (List D×Hd)
 |[],_,hd=>some ([],hd)
 |d::r,ls,hd=>(n d ls hd).bind λls1=>(c ls1 hd).bind λp=>if p.1=true then(m ls1 p.2).bind λq=>if GOk q.2 g then(B8 n c m g r ls1 q.2).map λz=>(q.1::z.1,z.2)else none else if GOk p.2 g then B8 n c m g r ls1 p.2 else none
def GP(k:Nat)(ix:List Nat)(ls:Ls):Ls:=List.replicate k none++ix.map λi=>(ls[i]?).join
open Classical in
def B9(k:Nat)(ix:List Nat)(mi:MI)(n:MG)(c:MT)(m:ME):MA:=λls hd=>(mi ls hd).bind λp=>if Cq p.1.1.length then B8 n c m p.1.2 p.1.1 (GP k ix ls) p.2 else none
def Yw{k:Nat}(h:RL K ρ H ls U):RL K ρ H (GP k ix ls) (IM k ix U):=by
 refine⟨by simp[GP,IM],λi d e=>?_⟩;unfold GP at e;unfold IM;by_cases hi:i<k
 .rw[List.getElem?_append_left (by simpa using hi),List.getElem?_replicate]at e;split at e<;>cases e
 .have hi':k<=i:=not_lt.mp hi;rw[List.getElem?_append_right (by simpa using hi'),List.length_replicate,List.getElem?_map]at e ⊢;cases q:ix[i-k]? with
  |none=>rw[q]at e;cases e
  |some j=>
   rw[q]at e;simp only[jx,Option.some.injEq]at e ⊢;have e5:ls[j]?=some (some d):=by
    cases w:ls[j]? with
    |none=>rw[w]at e;cases e
    |some z=>rw[w]at e;simpa using e
   obtain⟨v,e6,e7⟩:=h.ob j d e5;exact⟨v,by rw[e6];rfl,e7⟩
def OX{k:Nat}(hi:RIt K wi mi)(hg:RGt K g n)(hf:RT K tf c)(he:RE K te m):RN K (Gx k ix wi g tf te) (B9 k ix mi n c m):=by
 intro ρ U H hd ls Q out hd' hR hL hm hQ;obtain⟨⟨⟨ds,gd⟩,h1⟩,e1,hm⟩:=gV hm;dsimp only at hm;split at hm
 .next hlen=>
  have hlen:ds.length<=sizeLine:=hlen;refine hi ρ U H hd ls _ ds gd h1 hR hL e1 λρ1 H1 J x1 R1 G1 Y=>?_;intro Da hDa;obtain⟨R1',x1'⟩:=R1.hid (ho:=.lst []) hDa;have oD:Da∉ρ1:=R1.out hDa;have nD:H Da=none:=x1.none hR hDa R1;refine⟨λi mm σ2 ys H2=>mm=ds.length-i/\i<=ds.length/\∃ρ2 ls2 hd2 es rest,Ext ρ1 (upd H1 Da (.lst ys)) ρ2 H2/\Ext ρ1 H1 ρ2 H2/\Da∉ρ2/\H2 Da=some (.lst ys)/\RH K ρ2 H2 hd2/\RL K ρ2 H2 ls2 σ2/\RDs K ρ2 H2 es ys/\es.length<=i/\GOk hd2 gd/\B8 n c m gd (ds.drop i) ls2 hd2=some (rest,hd')/\out=es++rest,
   ⟨ds.length,by simp,jA _,ρ1,_,h1,[],out,.refl,x1',oD,AJ,R1',(Yw ((hL.ext hR x1).ext R1 x1')),.nil,j9 _,G1,by simpa using hm,rfl⟩,?_⟩
  rintro i mm σ2 ys H2 ⟨rfl,hi,ρ2,ls2,hd2,es,rest,x2',x2,oD2,hD2,R2,L2',r2,hle,G2,hm2,rfl⟩;refine⟨hD2,?_⟩;obtain⟨Y1,Y2⟩:=Y ρ2 H2 hd2 x2 R2 G2 i;by_cases hlt:i<ds.length
  .obtain⟨go,Y1⟩:=Y1 hlt;have ed:ds.drop i=ds[i]::ds.drop (i+1):=List.drop_eq_getElem_cons hlt;rw[ed]at hm2;unfold B8 at hm2;obtain⟨ls3,e3,hm2⟩:=gV hm2;obtain⟨⟨bb,hd4⟩,e4,hm2⟩:=gV hm2;refine .inr ⟨go,Nat.lt_of_le_of_lt (by rw[r2.len];exact hle) (by omega),λσ' ys' H'=>∃ρ2 ls2 hd2 es' rest',Ext ρ1 (upd H1 Da (.lst ys')) ρ2 H'/\Ext ρ1 H1 ρ2 H'/\Da∉ρ2/\H' Da=some (.lst ys')/\RH K ρ2 H' hd2/\RL K ρ2 H' ls2 σ'/\RDs K ρ2 H' es' ys'/\es'.length<=i+1/\GOk hd2 gd/\B8 n c m gd (ds.drop (i+1)) ls2 hd2=some (rest',hd')/\es++rest=es'++rest',λσ' ys' H' z=>⟨ds.length-(i+1),by omega,rfl,hlt,z⟩,λx H3 y=>?_⟩;obtain⟨ρ3,d3,x3,rfl,R3,e5,r3⟩:=Y1 x H3 y;have e6:d3=ds[i]:=by
    have:ds[i]?=some ds[i]:=by simp[hlt]
    rw[this]at e5;exact(Option.some.inj e5).symm
   subst e6;refine hg ρ3 σ2 H3 hd2 ls2 ls3 _ x _ R3 (L2'.ext R2 x3) r3 e3 λσ4 L4=>?_;refine hf ρ3 σ4 H3 hd2 ls3 _ bb hd4 R3 L4 e4 λρ5 H5 x5 R5=>?_;have hD5:H5 Da=some (.lst ys):=x5.keep Da _ (x3.keep Da _ hD2 oD2 nt) oD2 nt;have out5:Da∉ρ5:=by
    obtain⟨r,rfl,fr⟩:=x5.pre;intro z;rcases mem_append.mp z with z|z
    .exact oD2 z
    .have:=fr _ z;rw[x3.keep Da _ hD2 oD2 nt]at this;cases this
   cases bb with
   |false=>
    rw[j7 Bool.false_ne_true]at hm2 ⊢;have y25:=x3.trans R3 x5;split at hm2
    .next g5=>exact⟨ρ5,ls3,hd4,es,rest,x2'.trans R2 y25,(x2.trans R2 y25),out5,hD5,R5,L4.ext R3 x5,(r2.ext R2 y25),by omega,g5,hm2,rfl⟩
    .cases hm2
   |true=>
    rw[j6 rfl]at hm2 ⊢;obtain⟨⟨z,hd6⟩,e6,hm2⟩:=gV hm2;obtain⟨g6,hm2⟩:GOk hd6 gd/\((B8 n c m gd (ds.drop (i+1)) ls3 hd6).map λq=>(z::q.1,q.2))=some (rest,hd'):=by
     dsimp only at hm2;split at hm2
     .next g6=>exact⟨g6,hm2⟩
     .cases hm2
    obtain⟨⟨zs,hd7⟩,e7,e8⟩:=j4 hm2;cases e8;refine he ρ5 σ4 H5 hd4 ls3 _ z hd6 R5 (L4.ext R3 x5) e6 λρ6 H6 v6 x6 R6 r6=>?_;have hD6:H6 Da=some (.lst ys):=x6.keep Da _ hD5 out5 nt;have out6:Da∉ρ6:=by
     obtain⟨r,rfl,fr⟩:=x6.pre;intro z;rcases mem_append.mp z with z|z
     .exact out5 z
     .have:=fr _ z;rw[hD5]at this;cases this
    refine⟨hD6,?_⟩;have y26:=(x3.trans R3 x5).trans R5 x6;have gr:Grow H6 (upd H6 Da (.lst (ys++[v6]))):=Grow.refl.put (.lst hD6);have R7:=R6.hput (ho:=.lst (ys++[v6])) out6 hD6;have x12:=x2.trans R2 y26;have ext7:Ext ρ1 H1 ρ6 (upd H6 Da (.lst (ys++[v6]))):=⟨x12.pre,λb o q nb t=>by
     have:b≠Da:=AZ q hDa;rw[AC this];exact x12.keep b o q nb t,λb ps q=>by
     have:b≠Da:=AZ q hDa;rw[AC this];exact x12.tab b ps q⟩
    have ext8:Ext ρ1 (upd H1 Da (.lst (ys++[v6]))) ρ6 (upd H6 Da (.lst (ys++[v6]))):=by
     obtain⟨r,er,fr⟩:=x12.pre;refine⟨⟨r,er,λb hb=>?_⟩,λb o q nb t=>?_,λb ps q=>?_⟩
     .have:b≠Da:=λz=>out6 (by rw[er,<- z];exact je _ hb);rw[AC this];exact fr b hb
     .by_cases hb:b=Da
      .subst hb;rw[AJ]at q ⊢;exact q
      .rw[AC hb]at q ⊢;exact x12.keep b o q nb t
     .by_cases hb:b=Da
      .subst hb;rw[AJ]at q;cases q
      .rw[AC hb]at q ⊢;exact x12.tab b ps q
    refine⟨ρ6,ls3,hd6,es++[z],zs,ext8,ext7,out6,AJ,R7,?_,?_,by simp;omega,g6,e7,by simp⟩
    .have L6:=(L4.ext R3 x5).ext R5 x6;exact⟨L6.len,λi d e=>let ⟨v,a,b⟩:=L6.ob i d e;⟨v,a,by simpa using b.mono gr []⟩⟩
    .have:=((r2.ext R2 y26).app (.cons r6 .nil)).mono gr [];simpa using this
  .have e:i=ds.length:=by omega
   subst e;rw[List.drop_length]at hm2;unfold B8 at hm2;cases hm2;refine .inl ⟨Y2 rfl,?_⟩;exact hQ ρ2 H2 Da ys (x1.trans R1 x2) R2 nD oD2 hD2 (by simpa using r2)
 .cases hm
end
mutual
def clD(w:Nat):D->Bool
 |.im _=>true
 |.mu n=>decide (n<w)
 |.tm ds=>BD w ds
 |.ro _=>true
 |.op _ _ ds=>BD w ds
def BD(w:Nat):List D->Bool
 |[]=>true
 |d::ds=>clD w d&&BD w ds
end
def GV(w:Nat):List (Key×D)->Bool
 |[]=>true
 |d::ds=>clD w d.2&&GV w ds
def clO(w:Nat):MO->Bool
 |.lst ds=>BD w ds
 |.dic ds=>GV w ds
section
variable{K:Frag}
mutual
theorem RD.take(w:Nat):∀{d:D} {v:V},RD K ρ H d v->clD w d=true->RD K (ρ.take w) H d v
 |.im i,v,h,_=>by simp only[RD]at h ⊢;exact h
 |.mu n,v,h,c=>by
  simp only[RD]at h ⊢;obtain⟨a,e,q⟩:=h;exact⟨a,by rw[List.getElem?_take_of_lt (by simpa [clD]using c)];exact e,q⟩
 |.tm ds,v,h,c=>by
  simp only[RD]at h ⊢;obtain⟨a,xs,e,q,z⟩:=h;exact⟨a,xs,e,q,RDs.take' w z (by simpa [clD]using c)⟩
 |.ro ns,v,h,c=>by simp only[RD]at h ⊢;exact h
 |.op nm fs ds,v,h,c=>by
  simp only[RD]at h ⊢;obtain⟨a,xs,e,q,z⟩:=h;exact⟨a,xs,e,q,RDs.take' w z (by simpa [clD]using c)⟩
theorem RDs.take'(w:Nat):∀{d:List D} {v:List V},RDs K ρ H d v->BD w d=true->RDs K (ρ.take w) H d v
 |[],v,h,_=>by simpa only[RDs]using h
 |d::ds,v,h,c=>by
  simp only[RDs]at h ⊢;obtain⟨x,r',e,q,z⟩:=h;have c:clD w d=true/\BD w ds=true:=by simpa [BD]using c
  exact⟨x,r',e,q.take w c.1,RDs.take' w z c.2⟩
end
theorem RKs.take(w:Nat):∀{d:List (Key×D)} {v:List (Key×V)},RKs K ρ H d v->GV w d=true->RKs K (ρ.take w) H d v
 |[],v,h,_=>by simpa only[RKs]using h
 |d::ds,v,h,c=>by
  simp only[RKs]at h ⊢;obtain⟨x,r',e,q1,q,z⟩:=h;have c:clD w d.2=true/\GV w ds=true:=by simpa [GV]using c
  exact⟨x,r',e,q1,q.take w c.1,RKs.take w z c.2⟩
theorem RC.take(w:Nat)(h:RC K ρ H o ho)(c:clO w o=true):RC K (ρ.take w) H o ho:=by
 cases o with
 |lst ds=>obtain⟨xs,e,q⟩:=h;exact⟨xs,e,q.take' w c⟩
 |dic ds=>obtain⟨xs,e,q⟩:=h;exact⟨xs,e,q.take w c⟩
theorem RH.take(h:RH K ρ H hd)(w:Nat)(c:(hd.take w).all (clO w)=true):RH K (ρ.take w) H (hd.take w):=by
 refine⟨by simp[h.len],h.nd.sublist (List.take_sublist _ _),h.tabs,λn o a e1 e2=>?_⟩;have co:=all_eq_true.mp c o (jq e1);have hn:n<w:=by
  have:=(List.getElem?_eq_some_iff.mp e1).1;simp at this;omega
 rw[List.getElem?_take_of_lt hn]at e1 e2;obtain⟨ho,q1,q2⟩:=h.ob n o a e1 e2;exact⟨ho,q1,q2.take w co⟩
def RH.back(R1:RH K ρ1 H1 h1){w:Nat}(hw:w<=h1.length)(c1:(h1.take w).all (clO w)=true)(x:Ext (ρ1.take w) H1 ρ' H')(R':RH K ρ' H' h2)(c:(h2.take w).all (clO w)=true):
 RH K ρ1 H' (h2.take w++h1.drop w)/\Ext ρ1 H1 ρ1 H'/\ρ'.take w=ρ1.take w:=by
 obtain⟨r,rfl,fr⟩:=x.pre;have lw:(ρ1.take w).length=w:=by rw[jE,R1.len];omega
 have l2:w<=h2.length:=by rw[<- R'.len];simp[lw]
 have tk:(ρ1.take w++r).take w=ρ1.take w:=by rw[List.take_append_of_le_length (by omega),List.take_take];simp
 refine⟨⟨?_,R1.nd,R'.tabs,λn o a e1 e2=>?_⟩,⟨⟨[],by simp,by simp⟩,λb o q nb t=>x.keep b o q (λm=>nb (jQ m)) t,x.tab⟩,tk⟩
 .rw[jL,jE,ku,R1.len];omega
 .by_cases hn:n<w
  .rw[List.getElem?_append_left (by rw[jE];omega),List.getElem?_take_of_lt hn]at e1;have e3:(ρ1.take w++r)[n]?=some a:=by
    rw[List.getElem?_append_left (by omega),List.getElem?_take_of_lt hn];exact e2
   obtain⟨ho,q1,q2⟩:=R'.ob n o a e1 e3;have co:=all_eq_true.mp c o (by
    have:(h2.take w)[n]?=some o:=by rw[List.getElem?_take_of_lt hn];exact e1
    exact jq this)
   have q3:=q2.take w co;rw[tk]at q3;have q4:=q3.mono (Grow.refl (H:=H')) (ρ1.drop w);rw[List.take_append_drop]at q4;exact⟨ho,q1,q4⟩
  .rw[List.getElem?_append_right (by rw[jE];omega),jE,List.getElem?_drop]at e1;have e1:h1[n]?=some o:=by
    have:w+(n-min w h2.length)=n:=by omega
    rw[this]at e1;exact e1
   obtain⟨ho,q1,q2⟩:=R1.ob n o a e1 e2;have out:a∉ρ1.take w:=λm=>by
    obtain⟨k,hk⟩:=mem_iff_getElem?.mp m;have kw:k<w:=by
     have:=(List.getElem?_eq_some_iff.mp hk).1;rw[lw]at this;exact this
    rw[List.getElem?_take_of_lt kw]at hk;have:=(List.getElem?_inj (List.getElem?_eq_some_iff.mp e2).1 R1.nd).mp (e2.trans hk.symm);omega
   have gr:=x.grow (R1.take w c1);exact⟨ho,x.keep a ho q1 out (λps z=>by rcases R1.mut (jq e2)with⟨y,w⟩|⟨y,w⟩<;>(rw[q1,z]at w;cases w)),by simpa using q2.mono gr []⟩
def spF(K:Frag)(k:Nat)(F:List D->Hd->Option (D×Hd)):Sp:=λvs H Q _=>vs.length=k/\∃(ρ:List Addr) (hd:Hd) (ds:List D) (d:D) (hd':Hd),RH K ρ H hd/\RDs K ρ H ds vs/\F ds hd=some (d,hd')/\
 ∀ρ' H' v,Ext ρ H ρ' H'->RH K ρ' H' hd'->RD K ρ' H' d v->Q v H'
def mkF(k n:Nat)(m:MS):List D->Hd->Option (D×Hd):=λds hd=>if ds.length=k then(match m (ds.map some++List.replicate (n-k) none) hd with
 |some (.rt d,hd')=>some (d,hd')
 |some (.nx _,hd')=>some (.im .non,hd')
 | _=>none)else none
def JE{N:List Str}:∀{ds:List D} {vs:List V},RDs K ρ H ds vs->RL K ρ H (ds.map some++List.replicate (N.length-ds.length) none) (De N vs):=by
 intro ds vs r;have hl:=r.len;refine⟨by simp[De,hl],λi d e=>?_⟩;unfold De;by_cases hi:i<ds.length
 .rw[List.getElem?_append_left (by simpa using hi),List.getElem?_map]at e;have e':ds[i]?=some d:=by
   cases q:ds[i]? with
   |none=>rw[q]at e;cases e
   |some z=>rw[q]at e;simpa using e
  obtain⟨x,x1,x2⟩:=r.get e';exact⟨x,by rw[List.getElem?_append_left (by rw[jo,hl];exact hi),List.getElem?_map,x1];rfl,x2⟩
 .rw[List.getElem?_append_right (by simpa using not_lt.mp hi),List.getElem?_replicate]at e;split at e<;>cases e
def OQ{k:Nat}{N:List Str}(h:RS K t m)(s:spF K k (mkF k N.length m) vs H Q E):t { nx:=λ_ H'=>Q .non H',rt:=Q } (De N vs) H:=by
 obtain⟨hk,ρ,hd,ds,d,hd',hR,hr,hF,hQ⟩:=s;unfold mkF at hF;split at hF
 .next hl=>
  subst hl;split at hF
  .next q=>
   cases hF;exact h ρ _ H hd _ _ _ _ hR (JE hr) q λρ' H' x R v r=>hQ ρ' H' v x R r
  .next q=>
   cases hF;exact h ρ _ H hd _ _ _ _ hR (JE hr) q λρ' H' x R U L=>hQ ρ' H' .non x R (by simp[RD,RI])
  .cases hF
 .cases hF
def AX(F:List D->Hd->Option (D×Hd))(ma:MA):ME:=λls hd=>(ma ls hd).bind λp=>F p.1 p.2
def Ms{k:Nat}{F:List D->Hd->Option (D×Hd)}(h:RA K t m)(hk:∀ds hd z,F ds hd=some z->ds.length=k):RE K (Eg (spF K k F) [] E0 t) (AX F m):=by
 and_intros;obtain⟨⟨d1,h1⟩,e1,hm⟩:=gV hm;refine h ρ U H hd ls _ d1 h1 hR hL e1 λρ1 H1 v1 x1 R1 r1=>?_;rw[jI];exact⟨by rw[r1.len];exact hk _ _ _ hm,ρ1,h1,d1,d,hd',R1,r1,hm,λρ' H' w x2 R2 r2=>hQ ρ' H' w (x1.trans R1 x2) R2 r2⟩
def Op{k n:Nat}:∀ds hd z,mkF k n m ds hd=some z->ds.length=k:=λds hd z h=>by
 unfold mkF at h;split at h
 .next e=>exact e
 .cases h
def fin(w:Nat)(d:D)(h2 rest:Hd):Option (D×Hd):=if(h2.take w).all (clO w)=true then(match d with
 | .mu k=>if k<w then some (.mu k,h2.take w++rest)else(match h2[k]? with
  |some (.lst ds)=>if BD w ds=true then some (.mu (w+rest.length),h2.take w++rest++[.lst ds])else none
  | _=>none)
 | d=>if clD w d=true then some (d,h2.take w++rest)else none)else none
def AB(w:Nat)(F:List D->Hd->Option (D×Hd))(ma:MA):ME:=λls hd=>(ma ls hd).bind λp=>
 if w<=p.2.length/\BD w p.1=true/\(p.2.take w).all (clO w)=true then(F p.1 (p.2.take w)).bind λr=>fin w r.1 r.2 (p.2.drop w)else none
def Mr{w k:Nat}{F:List D->Hd->Option (D×Hd)}(h:RA K t m)(hk:∀ds hd z,F ds hd=some z->ds.length=k):RE K (Eg (spF K k F) [] E0 t) (AB w F m):=by
 and_intros;obtain⟨⟨d1,h1⟩,e1,hm⟩:=gV hm;dsimp only at hm;split at hm
 .next c=>
  obtain⟨c0,c1,c2⟩:=c;obtain⟨⟨d2,h2⟩,e2,hm⟩:=gV hm;refine h ρ U H hd ls _ d1 h1 hR hL e1 λρ1 H1 v1 x1 R1 r1=>?_;rw[jI];refine⟨by rw[r1.len];exact hk _ _ _ e2,ρ1.take w,h1.take w,d1,d2,h2,R1.take w c2,r1.take' w c1,e2,λρ' H' v x2 R2 r2=>?_⟩;unfold fin at hm;dsimp only at hm;split at hm
  .next c3=>
   obtain⟨R3,x3,tk⟩:=R1.back c0 c2 x2 R2 c3;have up:∀{d:D} {v:V},RD K ρ' H' d v->clD w d=true->RD K ρ1 H' d v:=λr c=>by
    have q:=r.take w c;rw[tk]at q;have q:=q.mono (Grow.refl (H:=H')) (ρ1.drop w);rw[List.take_append_drop]at q;exact q
   have ups:∀{d:List D} {v:List V},RDs K ρ' H' d v->BD w d=true->RDs K ρ1 H' d v:=λr c=>by
    have q:=r.take' w c;rw[tk]at q;have q:=q.mono (Grow.refl (H:=H')) (ρ1.drop w);rw[List.take_append_drop]at q;exact q
   split at hm
   .next k'=>
    split at hm
    .next hk'=>
     cases hm;exact hQ ρ1 H' v (x1.trans R1 x3) R3 (up r2 (by simpa [clD]using hk'))
    .next hk'=>
     split at hm
     .next ds q=>
      split at hm
      .next c4=>
       cases hm;simp only[RD]at r2;obtain⟨a,ea,rfl⟩:=r2;obtain⟨xs,l1,l2⟩:=R2.lst ea q;have len3:=R3.len;have out:a∉ρ1:=λm=>by
        -- a is one of those made B4 the first w
        obtain⟨r,er,fr⟩:=x2.pre;have lw:(ρ1.take w).length=w:=by rw[jE,R1.len];omega
        have ma:a∈r:=by
         rw[er,List.getElem?_append_right (by rw[lw];omega)]at ea;exact jq ea
        exact R1.out (fr a ma) m
       have na:H1 a=none:=by
        obtain⟨r,er,fr⟩:=x2.pre;have lw:(ρ1.take w).length=w:=by rw[jE,R1.len];omega
        have ma:a∈r:=by
         rw[er,List.getElem?_append_right (by rw[lw];omega)]at ea;exact jq ea
        exact fr a ma
       refine hQ (ρ1++[a]) H' _ (x1.trans R1 (x3.name na)) (R3.name out l1 (ups l2 c4)) ?_;simp only[RD];refine⟨a,?_,rfl⟩;have:w+(List.drop w h1).length=ρ1.length:=by rw[ku,R1.len];omega
       rw[this];simp
      .cases hm
     .cases hm
   .next d' nd=>
    split at hm
    .next c4=>cases hm;exact hQ ρ1 H' v (x1.trans R1 x3) R3 (up r2 c4)
    .cases hm
  .cases hm
 .cases hm
def DM(kvs:List (Key×D))(k:Key):Option D:=(kvs.find? λkv=>decide (kv.1=k)).map (·.2)
def E8(kvs:List (Key×D))(k:Key)(v:D):List (Key×D):=
 if(kvs.any λkv=>decide (kv.1=k))=true then kvs.map (λkv=>if kv.1=k then(kv.1,v)else kv)else kvs++[(k,v)]
theorem RKs.val:∀{kvs:List (Key×D)} {xs:List (Key×V)} {k:Key} {d:D},RKs K ρ H kvs xs->DM kvs k=some d->∃v,EM xs k=some v/\RD K ρ H d v
 |[],xs,k,d,h,e=>by simp[DM]at e
 |p::kvs,xs,k,d,h,e=>by
  simp only[RKs]at h;obtain⟨x,r,rfl,e1,r1,r2⟩:=h;by_cases hk:p.1=k
  .rw[Fj (e1.trans hk)];simp[DM,jF,hk]at e;subst e;exact⟨_,rfl,r1⟩
  .rw[Fk (by rw[e1];exact hk)];simp only[DM,jF,hk,decide_false]at e;exact RKs.val r2 e
theorem RKs.valN:∀{kvs:List (Key×D)} {xs:List (Key×V)} {k:Key},RKs K ρ H kvs xs->(EM xs k).isSome=(DM kvs k).isSome
 |[],xs,k,h=>by simp only[RKs]at h;subst h;rfl
 |p::kvs,xs,k,h=>by
  simp only[RKs]at h;obtain⟨x,r,rfl,e1,r1,r2⟩:=h;by_cases hk:p.1=k
  .rw[Fj (e1.trans hk)];simp[DM,jF,hk]
  .rw[Fk (by rw[e1];exact hk)];simp only[DM,jF,hk,decide_false];exact RKs.valN r2
theorem RKs.any:∀{kvs:List (Key×D)} {xs:List (Key×V)} {k:Key},RKs K ρ H kvs xs->(xs.any λkv=>decide (kv.1=k))=(kvs.any λkv=>decide (kv.1=k))
 |[],xs,k,h=>by simp only[RKs]at h;subst h;rfl
 |p::kvs,xs,k,h=>by
  simp only[RKs]at h;obtain⟨x,r,rfl,e1,r1,r2⟩:=h;simp only[any_cons,e1,RKs.any r2]
theorem RKs.upd:∀{kvs:List (Key×D)} {xs:List (Key×V)} {k:Key} {d:D} {v:V},RKs K ρ H kvs xs->RD K ρ H d v->RKs K ρ H (kvs.map (λkv=>if kv.1=k then(kv.1,d)else kv)) (xs.map (λkv=>if kv.1=k then(kv.1,v)else kv))
 |[],xs,k,d,v,h,_=>by simp only[RKs]at h;subst h;simp[RKs]
 |p::kvs,xs,k,d,v,h,q=>by
  simp only[RKs]at h;obtain⟨x,r,rfl,e1,r1,r2⟩:=h;simp only[jc,RKs];refine⟨_,_,rfl,?_,?_,RKs.upd r2 q⟩
  .rw[e1];split<;>simp[e1]
  .rw[e1];split
   .exact q
   .exact r1
theorem RKs.app:∀{kvs ks:List (Key×D)} {xs ys:List (Key×V)},RKs K ρ H kvs xs->RKs K ρ H ks ys->RKs K ρ H (kvs++ks) (xs++ys)
 |[],ks,xs,ys,h,t=>by simp only[RKs]at h;subst h;simpa using t
 |d::ds,ks,xs,ys,h,t=>by
  simp only[RKs]at h;obtain⟨x,r,rfl,e,z,q⟩:=h;simp only[jP,RKs];exact⟨_,_,rfl,e,z,q.app t⟩
def RKs.put(h:RKs K ρ H kvs xs)(q:RD K ρ H d v):RKs K ρ H (E8 kvs k d) (Cz xs k v):=by
 unfold E8 Cz;rw[h.any];split
 .exact h.upd q
 .exact h.app (by simp only[RKs];exact⟨_,_,rfl,rfl,q,rfl⟩)
def EX:D->Option Key
 |.im (.int i)=>some (.inl i)
 |.im (.str x)=>some (.inr x)
 |_=>none
def Kh(h:RD K ρ H d v)(e:EX d=some k):v=kV k:=by
 cases d with
 |im i=>
  cases i with
  |int i=>simp only[EX,Option.some.injEq]at e;subst e;simp only[RD,RI]at h;exact h
  |str i=>simp only[EX,Option.some.injEq]at e;subst e;simp only[RD,RI]at h;exact h
  |_=>simp[EX]at e
 |_=>simp[EX]at e
def Fd(hd:Hd):D->Option (List (Key×D))
 |.mu n=>match hd[n]? with
  |some (.dic kvs)=>some kvs
  |_=>none
 |_=>none
theorem RD.dic(hR:RH K ρ H hd)(h:RD K ρ H d v)(e:Fd hd d=some kvs):∃n a xs,d=.mu n/\v=.ref a/\ρ[n]?=some a/\H a=some (.dK xs)/\RKs K ρ H kvs xs:=by
 cases d with
 |mu n=>
  simp only[Fd]at e;simp only[RD]at h;obtain⟨a,hn,rfl⟩:=h;split at e
  .next q=>
   cases e;obtain⟨xs,e1,e2⟩:=hR.dic hn q;exact⟨n,a,xs,rfl,rfl,hn,e1,e2⟩
  .cases e
 |_=>simp[Fd]at e
def D4:D->D->Hd->Option (D×Hd):=λd e hd=>(Fd hd d).bind λkvs=>(EX e).bind λk=>(DM kvs k).map (·,hd)
def X7{ty:TE}(hd:RE K td md)(hy:RE K ty my):RE K (Pd td ty) (mOp D4 md my):=by
 intro ρ U H hd0 ls Q d hd' hR hL hm hQ;obtain⟨⟨d1,h1⟩,e1,hm⟩:=gV hm;obtain⟨⟨d2,h2⟩,e2,hm⟩:=gV hm;obtain⟨kvs,e3,hm⟩:=gV hm;obtain⟨k,e4,hm⟩:=gV hm;obtain⟨w,e5,e6⟩:=j4 hm;cases e6;refine hd ρ U H hd0 ls _ d1 h1 hR hL e1 λρ1 H1 v1 x1 R1 r1=>?_;refine hy ρ1 U H1 h1 ls _ d2 _ R1 (hL.ext hR x1) e2 λρ2 H2 v2 x2 R2 r2=>?_;obtain⟨n,a,xs,rfl,rfl,hn,l1,l2⟩:=RD.dic R2 (r1.ext R1 x2) e3;have:=Kh r2 e4;subst this;obtain⟨v,v1,v2⟩:=l2.val e5;exact⟨a,v,rfl,v1 ▸ DGet.k l1,hQ ρ2 H2 v (x1.trans R1 x2) R2 v2⟩
open Classical in
def GJ(md my mv:ME):MS:=λls hd=>(mv ls hd).bind λp=>(md ls p.2).bind λq=>(my ls q.2).bind λr=>(EX r.1).bind λk=>match q.1 with
 |.mu n=>match r.2[n]? with
  |some (.dic kvs)=>if HL kvs.length then some (.nx ls,r.2.set n (.dic (E8 kvs k p.1)))else none
  |_=>none
 |_=>none
def Wk{ty:TE}(hd:RE K td md)(hy:RE K ty my)(hv:RE K tv mv):RS K (Po td ty tv) (GJ md my mv):=by
 intro ρ U H hd0 ls E f hd' hR hL hm hQ;obtain⟨⟨d1,h1⟩,e1,hm⟩:=gV hm;obtain⟨⟨d2,h2⟩,e2,hm⟩:=gV hm;obtain⟨⟨d3,h3⟩,e3,hm⟩:=gV hm;obtain⟨k,e4,hm⟩:=gV hm;dsimp only at hm;split at hm
 .split at hm
  .next q=>
   split at hm
   .next c=>
    cases hm;refine hv ρ U H hd0 ls _ d1 h1 hR hL e1 λρ1 H1 v1 x1 R1 r1=>?_;refine hd ρ1 U H1 h1 ls _ _ h2 R1 (hL.ext hR x1) e2 λρ2 H2 v2 x2 R2 r2=>?_;refine hy ρ2 U H2 h2 ls _ d3 _ R2 (hL.ext hR (x1.trans R1 x2)) e3 λρ3 H3 v3 x3 R3 r3=>?_;have r2:=r2.ext R2 x3;simp only[RD]at r2;obtain⟨a,hn,rfl⟩:=r2;obtain⟨xs,l1,l2⟩:=R3.dic hn q;have:=Kh r3 e4;subst this;obtain⟨R4,x4⟩:=R3.put hn (o:=.dic (E8 _ k d1)) (ho:=.dK (Cz xs k v1)) ⟨_,rfl,l2.put ((r1.ext R1 x2).ext R2 x3)⟩;have x13:=(x1.trans R1 x2).trans R2 x3;exact⟨a,_,rfl,DPut.k l1 (by rw[l2.len];exact c),hQ ρ3 _ (x13.trans R3 x4) R4 U ((hL.ext hR x13).ext R3 x4)⟩
   .cases hm
  .cases hm
 .cases hm
def Ex:List (ME×ME)->Ls->Hd->Option (List (Key×D)×Hd)
 |[],_,hd=>some ([],hd)
 |(mk,mv)::r,ls,hd=>(mk ls hd).bind λp=>(mv ls p.2).bind λq=>(Ex r ls q.2).bind λz=>(EX p.1).map λk=>((k,q.1)::z.1,z.2)
def Gk(kvs more:List (Key×D)):List (Key×D):=more.foldl (λacc kv=>E8 acc kv.1 kv.2) kvs
theorem RKs.merge:∀{more kvs:List (Key×D)} {ms xs:List (Key×V)},RKs K ρ H more ms->RKs K ρ H kvs xs->RKs K ρ H (Gk kvs more) (Ev xs ms)
 |[],kvs,ms,xs,h,t=>by simp only[RKs]at h;subst h;exact t
 |d::ds,kvs,ms,xs,h,t=>by
  simp only[RKs]at h;obtain⟨x,r,rfl,e,z,q⟩:=h;show RKs K ρ H (Gk (E8 kvs d.1 d.2) ds) (Ev (Cz xs x.1 x.2) r);rw[e];exact q.merge (t.put z)
def RPs(K:Frag):List (TE×TE)->List (ME×ME)->Prop
 |[],[]=>True
 |t::ts,m::ms=>RE K t.1 m.1/\RE K t.2 m.2/\RPs K ts ms
 |_,_=>False
theorem N3:∀{trs:List (TE×TE)} {ms:List (ME×ME)},RPs K trs ms->∀(ρ:List Addr) (U:St) (H:Hp) (hd:Hd) (ls:Ls) (Q:List (V×V)->Hp->Prop) (kvs:List (Key×D)) (hd':Hd),RH K ρ H hd->RL K ρ H ls U->Ex ms ls hd=some (kvs,hd') ->
 (∀ρ' H' xs,Ext ρ H ρ' H'->RH K ρ' H' hd'->RKs K ρ' H' kvs xs->Q (xs.map λkv=>(kV kv.1,kv.2)) H')->Hr trs U H Q
 |[],[],_,ρ,U,H,hd,ls,Q,kvs,hd',hR,hL,hm,hQ=>by
  cases hm;exact hQ ρ H [] .refl hR (by simp[RKs])
 |(tk,tv)::ts,(mk,mv)::ms,⟨a,b,c⟩,ρ,U,H,hd,ls,Q,kvs,hd',hR,hL,hm,hQ=>by
   unfold Ex at hm;obtain⟨⟨d1,h1⟩,e1,hm⟩:=gV hm;obtain⟨⟨d2,h2⟩,e2,hm⟩:=gV hm;obtain⟨⟨d3,h3⟩,e3,hm⟩:=gV hm;obtain⟨k,e4,e5⟩:=j4 hm;cases e5;unfold Hr;refine a ρ U H hd ls _ d1 h1 hR hL e1 λρ1 H1 v1 x1 R1 r1=>?_;refine b ρ1 U H1 h1 ls _ d2 h2 R1 (hL.ext hR x1) e2 λρ2 H2 v2 x2 R2 r2=>?_;refine N3 c ρ2 U H2 h2 ls _ d3 _ R2 (hL.ext hR (x1.trans R1 x2)) e3 λρ3 H3 xs x3 R3 r3=>?_;have:=Kh r1 e4;subst this;exact hQ ρ3 H3 ((k,v2)::xs) ((x1.trans R1 x2).trans R2 x3) R3 (by simp only[RKs];exact⟨_,_,rfl,rfl,r2.ext R2 x3,r3⟩)
 |[],_::_,h,_,_,_,_,_,_,_,_,_,_,_,_=>h.elim
 |_::_,[],h,_,_,_,_,_,_,_,_,_,_,_,_=>h.elim
def M4(ms:List (ME×ME)):ME:=λls hd=>(Ex ms ls hd).bind λp=>if p.1.length<=15 then some (.mu p.2.length,p.2++[.dic (Gk [] p.1)])else none
def RH.nameD(hR:RH K ρ H hd)(out:a∉ρ)(e:H a=some o)(hs:¬ Stb o)(r:RKs K ρ H kvs xs)(h1:∀ps,o≠.tbl ps:=by intro _ z;cases z)(h2:∀φ,o≠.ext φ:=by intro _ z;cases z):RH K (ρ++[a]) (upd H a (.dK xs)) (hd++[.dic kvs]):=by
 have gr:Grow H (upd H a (.dK xs)):=Grow.refl.put λu st z=>hs (by rw[e]at z;cases z;exact st);refine⟨by simp[hR.len],?_,hR.tabs.upd (λps z=>h1 ps (Option.some.inj (e.symm.trans z))) (λps z=>h2 ps (Option.some.inj (e.symm.trans z))),λn o' b e1 e2=>?_⟩
 .rw[List.nodup_append];refine⟨hR.nd,by simp,λx hx y hy z=>?_⟩;simp at hy;subst hy;subst z;exact out hx
 .by_cases hn:n<ρ.length
  .rw[List.getElem?_append_left hn]at e2;rw[List.getElem?_append_left (by rw[<- hR.len];exact hn)]at e1;obtain⟨ho',q1,q2⟩:=hR.ob n o' b e1 e2;have:b≠a:=λz=>out (by rw[<- z];exact jq e2);exact⟨ho',by rw[AC this];exact q1,q2.mono gr [a]⟩
  .have hn':n=ρ.length:=by
    have:=(List.getElem?_eq_some_iff.mp e2).1;simp at this;omega
   subst hn';simp at e2;rw[hR.len]at e1;simp at e1;subst e1;subst e2;exact⟨_,AJ,⟨xs,rfl,r.mono gr [_]⟩⟩
def X6(h:RPs K trs ms):RE K (Pc trs) (M4 ms):=by
 and_intros;obtain⟨⟨kvs,h1⟩,e1,hm⟩:=gV hm;dsimp only at hm;split at hm
 .next c=>
  cases hm;intro p hp;obtain⟨R0,x0⟩:=hR.hid (ho:=.dK []) hp;refine N3 h ρ U _ hd ls _ kvs h1 R0 (hL.ext hR x0) e1 λρ1 H1 xs x1 R1 r1=>?_;have hp1:H1 p=some (.dK []):=x1.keep p _ AJ (hR.out hp) nt;have op:p∉ρ1:=by
   obtain⟨r,rfl,fr⟩:=x1.pre;intro z;rcases mem_append.mp z with z|z
   .exact hR.out hp z
   .have:=fr _ z;rw[AJ]at this;cases this
  refine⟨hp1,xs,rfl,by rw[r1.len];exact c,?_⟩;have mm:RKs K ρ1 H1 (Gk [] kvs) (Ev [] xs):=r1.merge (by simp[RKs]);have R2:=R1.nameD op hp1 (λz=>z) mm;have x01:=x0.trans R0 x1;refine hQ (ρ1++[p]) _ _ ?_ R2 ?_
  .obtain⟨r,er,fr⟩:=x01.pre;refine⟨⟨r++[p],by rw[er];simp,λb m=>?_⟩,λb o q nb t=>?_,λb ps q=>?_⟩
   .rcases mem_append.mp m with m|m
    .exact fr b m
    .simp at m;subst m;exact hp
   .have:b≠p:=AZ q hp;rw[AC this];exact x01.keep b o q nb t
   .have:b≠p:=AZ q hp;rw[AC this];exact x01.tab b ps q
  .simp only[RD];exact⟨p,by rw[<- R1.len];simp,rfl⟩
 .cases hm
def Vy(mo mi mv:ME):MS:=λls hd=>(mv ls hd).bind λp=>(mo ls p.2).bind λq=>(mi ls q.2).bind λr=>match q.1,r.1 with
 |.mu n,.im (.int i)=>match r.2[n]? with
  |some (.lst ds)=>(ixN ds.length i).map λj=>(.nx ls,r.2.set n (.lst (ds.set j p.1)))
  |_=>none
 |_,_=>none
end
end L2
namespace L2
open PySem PySem.Spec PyProof.Rows
structure QG(K:Frag)(X:Cx)(e:Expr)(t:TG)(m:MG):Prop where
 p:PG X e t
 r:RGt K t m
structure QGs(K:Frag)(X:Cx)(e:List Expr)(t:TGs)(m:MGs):Prop where
 p:PGs X e t
 r:O3 K t m
structure QI(K:Frag)(X:Cx)(tg e:Expr)(t:TI)(m:MI):Prop where
 p:PI X tg e t
 r:RIt K t m
structure QF(K:Frag)(X:Cx)(e:List Expr)(t:TT)(m:MT):Prop where
 p:PF X e t
 r:RT K t m
structure QO(K:Frag)(X:Cx)(e:Option Expr)(t:TO)(m:MO1):Prop where
 p:PO X e t
 r:RO1 K t m
structure QPs(K:Frag)(X:Cx)(pos:Pos)(keys:List (Option Expr))(values:List Expr)(t:List (TE×TE))(m:List (ME×ME)):Prop where
 p:PPs X pos keys values t
 r:RPs K t m
def W6(a b:List D):Prop:=a≠[]/\Cq (a.length+b.length)
open Classical in
def DV:D->D->Hd->Option (D×Hd):=λd e hd=>(AS d).bind λa=>(AS e).bind λb=>if W6 a b then some (AT (a++b),hd)else none
def Ob{K:Frag}:RB K (Pw K) DV:=by
 intro ρ H hd d e v u Q z hd' hR h1 h2 hf hQ;unfold DV at hf;obtain⟨a,e1,hf⟩:=gV hf;obtain⟨b,e2,hf⟩:=gV hf;split at hf
 .next c=>
  cases hf;obtain⟨p,xs,rfl,q1,r1⟩:=h1.tup e1;obtain⟨p2,ys,rfl,q2,r2⟩:=h2.tup e2;have l1:=r1.len;have l2:=r2.len;refine⟨p,p2,xs,ys,rfl,rfl,q1,q2,λz=>c.1 (by rw[z]at l1;simpa using l1.symm),by rw[l1,l2];exact c.2,λz=>?_,λ_ p3 hp=>?_⟩
  .have:b=[]:=by rw[z]at l2;simpa using l2.symm
   subst this;exact hQ ρ H _ .refl hR (by rw[jI];exact BV q1 r1)
  .obtain⟨R2,x2⟩:=hR.hid (ho:=.tup (xs++ys)) hp;exact hQ ρ _ _ x2 R2 (BV (SqT.of AJ) ((r1.app r2).ext hR x2))
 .cases hf
abbrev AN:=D5 HK DV
def Aw(neg:Bool)(m:ME):ME:=λls hd=>(m ls hd).bind λp=>some (.im (.bl (match p.1 with
 |.im .non=>!neg
 | _=>neg)),p.2)
def bg{K:Frag}(h:RD K ρ H d v):decide (v=.non)=(match d with|.im .non=>true|_=>false):=by
 cases d with
 |im i=>
  cases i with
  |non=>simp only[RD,RI]at h;subst h;rfl
  |tup is=>simp only[RD,RI]at h;obtain⟨a,xs,rfl,_⟩:=h;rfl
  |_=>simp only[RD,RI]at h;subst h;rfl
 |mu n=>simp only[RD]at h;obtain⟨a,_,rfl⟩:=h;rfl
 |tm ds=>simp only[RD]at h;obtain⟨a,xs,rfl,_⟩:=h;rfl
 |ro ns=>simp only[RD]at h;obtain⟨a,rfl,_⟩:=h;rfl
 |op nm fs ds=>simp only[RD]at h;obtain⟨a,xs,rfl,_⟩:=h;rfl
def Rt{K:Frag}(h:RE K t m):RE K (Pa t) (Aw false m):=by
 and_intros;obtain⟨⟨d1,h1⟩,e1,hm⟩:=gV hm;cases hm;refine h ρ U H hd ls _ d1 _ hR hL e1 λρ1 H1 v x1 R1 r1=>?_;rw[bg r1];refine hQ ρ1 H1 _ x1 R1 ?_;simp only[RD,RI];cases d1 with
 |im i=>cases i<;>rfl
 |_=>rfl
def OZ{K:Frag}(h:RE K t m):RE K (Lv t) (Aw true m):=by
 and_intros;obtain⟨⟨d1,h1⟩,e1,hm⟩:=gV hm;cases hm;refine h ρ U H hd ls _ d1 _ hR hL e1 λρ1 H1 v x1 R1 r1=>?_;rw[bg r1];refine hQ ρ1 H1 _ x1 R1 ?_;simp only[RD,RI];cases d1 with
 |im i=>cases i<;>rfl
 |_=>rfl
def Fv(m:ME):ME:=λls hd=>(m ls hd).bind λp=>match p.1 with
 |.im (.int i)=>some (.im (.int (-i)),p.2)
 |_=>none
def Zp{K:Frag}(h:RE K t m):RE K (tUn (rU λi=>.int (-i)) t) (Fv m):=by
 and_intros;obtain⟨⟨d1,h1⟩,e1,hm⟩:=gV hm;dsimp only at hm;split at hm
 .cases hm;exact h ρ U H hd ls _ _ _ hR hL e1 λρ1 H1 v x1 R1 r1=>⟨_,by simpa only[RD,RI]using r1,hQ ρ1 H1 _ x1 R1 (by simp[RD,RI])⟩
 .cases hm
def Cc:MT:=λ_ hd=>some (true,hd)
def ZX{K:Frag}:RT K TY Cc:=by
 and_intros;cases hm;exact hQ ρ H .refl hR
section
variable(K:Frag){X:Cx}{tc:TE}{mc:ME}
def qv(i:Nat){pos:Pos}(hN:X.N[i]?=some x:=by rfl)(hv:Vis X.env.scope x:=by first|exact Or.inl rfl|exact Or.inr (Or.inl rfl)|exact Or.inr (Or.inr rfl))(hd:(x==("__debug__":Str))=false:=by decide)
 (hcd:(x==("__classdict__":Str))=false:=by decide):QE K X (.Name x pos) (Ta i) (A2 i):=⟨I0 hN hv hd hcd,Zl⟩
def ak{i:Int}{j pos}:QE K X (.Constant (.int i) j pos) (tC (.int i)) (mC (.int i)):=⟨bQ,Pr λ_=>by simp[RI]⟩
def dk{i:Bool}{j pos}:QE K X (.Constant (.bool i) j pos) (tC (.bl i)) (mC (.bl i)):=⟨eA,Pr λ_=>by simp[RI]⟩
def aa{j pos}:QE K X (.Constant .none j pos) (tC .non) (mC .non):=⟨bN,Pr λ_=>by simp[RI]⟩
def aW{j pos}:QE K X (.Constant (.str x) j pos) (tC (.str x)) (mC (.str x)):=⟨bK,Pr λ_=>by simp[RI]⟩
def GD{f:D->D->Hd->Option (D×Hd)}(ho:OpR X (binaryOp op) r)(hr:RB K r f)(ha:QE K X a ta ma)(hb:QE K X b tb mb):QE K X (.BinOp a op b pos) (tOp r ta tb) (mOp f ma mb):=⟨Vq ho ha.p hb.p,Lz hr ha.r hb.r⟩
def ad(ha:QE K X a ta ma):QE K X (.UnaryOp .USub a pos) (tUn (rU λi=>.int (-i)) ta) (Fv ma):=⟨dy ZE ha.p,Zp ha.r⟩
def My{f:D->D->Hd->Option (D×Hd)}(ho:OpR X (compareOp op) r)(hr:RB K r f)(ha:QE K X a ta ma)(hb:QE K X b tb mb)(hm:behindInMarks op b=false:=by first|exact NB _|rfl):QE K X (.Compare a [op] [b] pos) (tOp r ta tb) (mOp f ma mb):=⟨YE ho ha.p hb.p hm,Lz hr ha.r hb.r⟩
def Gg{f:D->D->Hd->Option (D×Hd)}(ho:OpR X (compareOp op) r)(hr:RB K r f)(ha:QE K X a ta ma)(hb:QE K X b tb mb)(hm:behindInMarks op b=false:=by first|exact NB _|rfl):QT K X (.Compare a [op] [b] pos) (Lu (tOp r ta tb)) (AF (mOp f ma mb)):=⟨Og ho ha.p hb.p hm,FW (Lz hr ha.r hb.r)⟩
def ah{j pos'}(ha:QE K X a ta ma):QE K X (.Compare a [.Is] [.Constant .none j pos'] pos) (Pa ta) (Aw false ma):=⟨SE (SG ha.p),Rt ha.r⟩
def Xi{j pos'}(ha:QE K X a ta ma):QE K X (.Compare a [.IsNot] [.Constant .none j pos'] pos) (Lv ta) (Aw true ma):=⟨SE (Oj ha.p),OZ ha.r⟩
def aF{j pos'}(ha:QE K X a ta ma):QT K X (.Compare a [.Is] [.Constant .none j pos'] pos) (tB (Pa ta)) (AF (Aw false ma)):=⟨S8 (SG ha.p),Za (Rt ha.r)⟩
def XH{j pos'}(ha:QE K X a ta ma):QT K X (.Compare a [.IsNot] [.Constant .none j pos'] pos) (tB (Lv ta)) (AF (Aw true ma)):=⟨S8 (Oj ha.p),Za (OZ ha.r)⟩
def UB(ha:QE K X a ta ma)(he:∀whole,isTrue a X.env whole=(do let v <- whole;standAt a.pos;holding [v] (truthy v)):=by intro _;rfl)(hK:X.K=K:=by rfl):
 QT K X a (λU H Q=>ta U H λx H'=>∃k,O2 K x H' k/\Q k H') (BC ma):=by
 subst hK;exact⟨UO ha.p he,To ha.r⟩
def aE(ha:QT K X a tA nA):QT K X (.UnaryOp .Not a pos) (Td tA) (BX nA):=⟨aw ha.p,ZY ha.r⟩
def XG(ha:QT K X a tA nA):QW K X (.BoolOp .And [a] pos) tA nA:=⟨Xn ha.p,ha.r⟩
def aC(ha:QT K X a tA nA):QW K X (.BoolOp .Or [a] pos) tA nA:=⟨aq ha.p,ha.r⟩
def aD{rest:List Expr}(ha:QT K X a tA nA)(hb:QW K X (.BoolOp .And (b::rest) pos) tB' nB):QW K X (.BoolOp .And (a::b::rest) pos) (Tg tA tB') (DY nA nB):=⟨ar ha.p hb.p,ZZ ha.r hb.r⟩
def dZ{rest:List Expr}(ha:QT K X a tA nA)(hb:QW K X (.BoolOp .Or (b::rest) pos) tB' nB):QW K X (.BoolOp .Or (a::b::rest) pos) (tOr tA tB') (mOr nA nB):=⟨dm ha.p hb.p,dM ha.r hb.r⟩
def QW.toT{K:Frag}(h:QW K X e t m):QT K X e t m:=⟨h.p.pt,h.r⟩
def aY{op}(ha:QE K X a ta ma):QE K X (.BoolOp op [a] pos) ta ma:=⟨bL ha.p,ha.r⟩
def ao{rest:List Expr}(ha:QE K X a ta ma)(hb:QE K X (.BoolOp .And (b::rest) pos) tb mb):QE K X (.BoolOp .And (a::b::rest) pos) (Pe ta tb) (DU ma mb):=⟨bR ha.p hb.p,X8 ha.r hb.r⟩
def db{rest:List Expr}(ha:QE K X a ta ma)(hb:QE K X (.BoolOp .Or (b::rest) pos) tb mb):QE K X (.BoolOp .Or (a::b::rest) pos) (Tc ta tb) (JN ma mb):=⟨dz ha.p hb.p,Zo ha.r hb.r⟩
def aZ(ha:QE K X a ta ma):QE K X (.UnaryOp .Not a pos) (PZ ta) (FP ma):=⟨bM ha.p,X3 ha.r⟩
def UL(hc:QT K X c tA nA)(ha:QE K X a ta ma)(hb:QE K X b tb mb):QE K X (.IfExp c a b pos) (tIf tA ta tb) (mIf nA ma mb):=⟨Ub hc.p ha.p hb.p,dR hc.r ha.r hb.r⟩
def ap:QA K X [] BS A7:=⟨C7,a7⟩
def Xm(ha:QE K X e te me)(hr:QA K X es t m)(hs:starEach (e::es) X.env=(false,eval e X.env)::starEach es X.env:=by rfl):QA K X (e::es) (Aq te t) (A3 me m):=⟨B6 ha.p hr.p hs,XD ha.r hr.r⟩
def aV{x1}(h:QA K X es t m):QE K X (.Tuple es x1 pos) (MQ t) (Af m):=⟨SD h.p,Zm h.r⟩
def aN(h:QA K X es t m):QN K X (.List es pos) (Te t) (Co m):=⟨bO h.p,Zd h.r⟩
def ac(h:QN K X e te m):QE K X e te (Bx m):=⟨h.p,Rs h.r⟩
def dg(ha:QE K X a ta ma)(hb:QE K X b tb mb)(hs:Kq b:=by exact λ_ _=>rfl)(hK:X.K=K:=by rfl):QE K X (.Subscript a b pos) (tOp (M1 K) ta tb) (mOp gIx ma mb):=⟨Vr ((NP K hK).or (Ov K hK)) ha.p hb.p hs,Lz dW ha.r hb.r⟩
def Xl(hu:X.A.units+1<cLine)(ha:QE K X a ta ma)(hb:QE K X b tb mb)(hs:VQ b:=by exact λ_ _=>rfl):QE K X (.Subscript a b pos) (Pd ta tb) (mOp D4 ma mb):=⟨YC hu ha.p hb.p hs,X7 ha.r hb.r⟩
def XZ:QO K X none KL Av:=⟨Xy,Wp⟩
def XY(h:QE K X e te me):QO K X (some e) (PY te) (BK me):=⟨Xx h.p,Wo h.r⟩
def aM{lo:Option Expr}{tl:TO}(h:QE K X e te me)(hl:QO K X lo tl ml)(hh:QO K X hi th mh)(hK:X.K=K:=by rfl):QN K X (.Subscript e (.Slice lo hi none p2) pos) (tSl (Pu K) te tl th) (NI me ml mh):=⟨N1 (Tk K hK) h.p hl.p hh.p,Zc h.r hl.r hh.r⟩
def GE{id:String}{p:Pos}{r:List V->Hp->VK->Prop}{f:List D->Hd->Option (D×Hd)}(hc:CallR X (.builtin id) r)(hr:RF K r f)(hm:X.mg x=none)(hv:bootBuiltins x=some (.builtin id))(ha:QA K X (e::es) t m)(hg:Gl X x:=by rfl)(hn:x≠"__name__":=by decide)(hdb:(x==("__debug__":Str))=false:=by decide)
 (he:starEach (e::es) X.env=(false,eval e X.env)::starEach es X.env:=by rfl) (hpl:(backTo pos (starEach es X.env)).any (·.1)=false:=by rfl):QE K X (.Call (.Name x p) (e::es) [] pos) (tCB r t) (mCB f m):=⟨ER hc hg hm hv ha.p hn hdb he hpl,Vf hr ha.r⟩
def di{id:String}{p:Pos}{r:List V->Hp->VK->Prop}{f:List D->Hd->Option (D×Hd)}(hc:CallR X (.type id) r)(hr:RF K r f)(hm:X.mg x=none)(hv:bootBuiltins x=some (.type id))(ha:QA K X (e::es) t m)(hg:Gl X x:=by rfl)(hn:x≠"__name__":=by decide)(hdb:(x==("__debug__":Str))=false:=by decide)
 (he:starEach (e::es) X.env=(false,eval e X.env)::starEach es X.env:=by rfl) (hpl:(backTo pos (starEach es X.env)).any (·.1)=false:=by rfl):QE K X (.Call (.Name x p) (e::es) [] pos) (tCB r t) (mCB f m):=⟨Et hc hg hm hv ha.p hn hdb he hpl,Vf hr ha.r⟩
def M2{id:String}{p:Pos}{r:List V->Hp->VK->Prop}{tp:Bool}{g:List D->Option D}(hc:CallR X (.builtin id) r)(hr:RG K tp r g)(hm:X.mg x=none)(hv:bootBuiltins x=some (.builtin id))(ha:QN K X e te m)(hg:Gl X x:=by rfl)(hn:x≠"__name__":=by decide)(hdb:(x==("__debug__":Str))=false:=by decide)
 (he:starEach [e] X.env=[(false,eval e X.env)]:=by rfl):QE K X (.Call (.Name x p) [e] [] pos) (tCB r (Aq te BS)) (CJ g m):=⟨ER hc hg hm hv (B6 ha.p C7 he) hn hdb he rfl,Ru hr ha.r⟩
def dh{id:String}{p:Pos}{r:List V->Hp->VK->Prop}{tp:Bool}{g:List D->Option D}(hc:CallR X (.type id) r)(hr:RG K tp r g)(hm:X.mg x=none)(hv:bootBuiltins x=some (.type id))(ha:QN K X e te m)(hg:Gl X x:=by rfl)(hn:x≠"__name__":=by decide)(hdb:(x==("__debug__":Str))=false:=by decide)
 (he:starEach [e] X.env=[(false,eval e X.env)]:=by rfl):QE K X (.Call (.Name x p) [e] [] pos) (tCB r (Aq te BS)) (CJ g m):=⟨Et hc hg hm hv (B6 ha.p C7 he) hn hdb he rfl,Ru hr ha.r⟩
def Xa(hm:X.mg "list"=none)(ha:QE K X e te me)(hg:Gl X "list":=by rfl)(he:starEach [e] X.env=[(false,eval e X.env)]:=by rfl)(hK:X.K=K:=by rfl):QN K X (.Call (.Name "list" p) [e] [] pos) (tCB (Gf K) (Aq te BS)) (HE me):=⟨Et (K8 K hK) hg hm P6 (B6 ha.p C7 he) (by decide) (by decide) he rfl,Wq ha.r⟩
def UH(hm:X.mg "list"=none)(ha:QN K X e te m)(hg:Gl X "list":=by rfl)(he:starEach [e] X.env=[(false,eval e X.env)]:=by rfl)(hK:X.K=K:=by rfl):QN K X (.Call (.Name "list" p) [e] [] pos) (tCB (Gf K) (Aq te BS)) (IC m):=⟨Et (K8 K hK) hg hm P6 (B6 ha.p C7 he) (by decide) (by decide) he rfl,Ts ha.r⟩
def df{id:String}{r:V->List V->Hp->VK->Prop}{f:D->List D->Hd->Option (D×Hd)}{apos cpos:Pos}(slot:Slot "list" name id)(hty:typeOf (.builtin id)=pure (.type "method_descriptor"))(hm:MtM X id r)(hr:RM K r f)(ho:QE K X o to mo)(ha:QA K X (e::es) t m)
 (hbase:attributeBase o name X.env (eval o X.env)=eval o X.env:=by rfl)
 (hfew:((backTo cpos (starEach (e::es) X.env)).all (λx=>!x.1)&&(backToKw cpos (keywordEach [] X.env)).all (λx=>x.1.isSome)
  && decide ((e::es).length+([]:List Keyword).length+(if([]:List Keyword).isEmpty then 0 else 1)<30))=true:=by rfl)
 (hline:(apos.endLine==cpos.line)=true:=by rfl) (hs:starEach (e::es) X.env=(false,eval e X.env)::starEach es X.env:=by rfl) (hplain:(backTo cpos (starEach es X.env)).any (·.1)=false:=by rfl) (hK:X.K=K:=by rfl):
 QE K X (.Call (.Attribute o name apos) (e::es) [] cpos) (tBM K "list" r to t) (mMt f mo m):=by
 subst hK;exact⟨e9 PySem.F.plainAttrs_list slot hty hm ho.p ha.p hbase hfew hline hs hplain,dQ hr ho.r ha.r⟩
def UM(w:Nat){j k:Nat}{n:Nat}{F:List D->Hd->Option (D×Hd)}{st:Stmt}{p:Pos}(G:FnOk X.prog X.w X.K X.mg X.base CX0 j f fd ps (spF K n F))(hr:Room k X.A)(DA:DefAt X.K X.mg x st f fd ps)(ha:QA K X (e::es) t m)(hF:∀ds hd z,F ds hd=some z->ds.length=n)
 (hjk:j<=k:=by decide) (hg:Gl X x:=by rfl) (hdb:(x==("__debug__":Str))=false:=by decide) (he:starEach (e::es) X.env=(false,eval e X.env)::starEach es X.env:=by rfl) (hpl:(backTo pos (starEach es X.env)).any (·.1)=false:=by rfl):
 QE K X (.Call (.Name x p) (e::es) [] pos) (Eg (spF K n F) [] E0 t) (AB w F m):=⟨Vs G hr DA ha.p hjk hg hdb he hpl,Mr ha.r hF⟩
def UN{j k:Nat}{n:Nat}{F:List D->Hd->Option (D×Hd)}{st:Stmt}{p:Pos}(G:FnOk X.prog X.w X.K X.mg X.base CX0 j f fd ps (spF K n F))(hr:Room k X.A)(DA:DefAt X.K X.mg x st f fd ps)(ha:QA K X (e::es) t m)(hF:∀ds hd z,F ds hd=some z->ds.length=n)
 (hjk:j<=k:=by decide) (hg:Gl X x:=by rfl) (hdb:(x==("__debug__":Str))=false:=by decide) (he:starEach (e::es) X.env=(false,eval e X.env)::starEach es X.env:=by rfl) (hpl:(backTo pos (starEach es X.env)).any (·.1)=false:=by rfl):
 QE K X (.Call (.Name x p) (e::es) [] pos) (Eg (spF K n F) [] E0 t) (AX F m):=⟨Vs G hr DA ha.p hjk hg hdb he hpl,Ms ha.r hF⟩
def XX:QPs K X pos [] [] [] []:=⟨Xw,trivial⟩
def UF(hk:QE K X k tk mk)(hv:QE K X v tv mv)(hr:QPs K X pos ks vs trs ms):QPs K X pos (some k::ks) (v::vs) ((tk,tv)::trs) ((mk,mv)::ms):=⟨US hk.p hv.p hr.p,hk.r,hv.r,hr.r⟩
def Xk(h:QPs K X pos keys values trs ms)(hall:keys.all (·.isSome)=true:=by rfl)(hl:keys.length=values.length:=by rfl)(h0:keys≠[]:=by simp)
 (h15:keys.length<=15:=by decide):QE K X (.Dict keys values pos) (Pc trs) (M4 ms):=⟨YB h.p hall hl h0 h15,X6 h.r⟩
def Xg{i:Nat}(hN:X.N.Nodup)(hi:X.N[i]?=some x)(hx:Loc X.env.scope x)(hf:X.fn x=true∨X.env.scope.names.lookup x=some .local:=by first|exact .inl rfl|exact .inr rfl|assumption):QG K X (.Name x pos) (Ej i) (AO i):=⟨Y9 hN hi hx hf,KU⟩
def Xf:QGs K X [] V7 C8:=⟨Y7,Wu⟩
def UK(h1:QG K X e tg n)(h2:QGs K X es tgs ns)(hs:(assignEach (e::es) X.env).map (·.2)=assign e X.env::(assignEach es X.env).map (·.2):=by rfl):QGs K X (e::es) (QZ tg tgs) (Ae n ns):=⟨UZ h1.p h2.p hs,Tw h1.r h2.r⟩
def aS{k n:Nat}(hc:X.calm=true)(h:QGs K X es tgs ns)(hK:X.K=K:=by rfl)(hn:(assignEach es X.env).length=n:=by rfl)(hst:(assignEach es X.env).findIdx? (·.1)=none:=by rfl):QG K X (.Tuple es k pos) (QY K n tgs) (Bv n ns):=⟨Y8 K hc h.p hK hn hst,Zj h.r⟩
def aQ(h:QE K X e te me)(hK:X.K=K:=by rfl):QI K X tg e (QQ K te) (BY me):=⟨Y4 K h.p hK,Zh h.r⟩
def Xd(h:QE K X e te me)(hK:X.K=K:=by rfl):QI K X tg e (Ih K te) (E9 me):=⟨N0 K h.p hK,Ws h.r⟩
def aR(h:QN K X e te m)(hK:X.K=K:=by rfl):QI K X tg e (Ih K te) (FA m):=⟨N0 K h.p hK,Zi h.r⟩
def Xc(hm:X.mg "range"=none)(ha:QA K X [a] t m)(hg:Gl X "range":=by rfl)(hs:starEach [a] X.env=[(false,eval a X.env)]:=by rfl):QI K X tg (.Call (.Name "range" p) [a] [] pos) (QU t) (EV m):=⟨SC hg hm ha.p hs,Wr ha.r⟩
def aU:QF K X [] TY Cc:=⟨bH,ZX⟩
def aT(h:QT K X c tA nA):QF K X [c] tA nA:=⟨bD h.p,h.r⟩
def Xb{iter:Expr}(hc:X.calm=true)(S:CSc X scope fr ix)(hi:QI K X tg iter wi mi)
 (hg:∀s H ex,QG K (cCx X (loc++fr) scope s H ex) tg g n) (hf:∀s H ex,QF K (cCx X (loc++fr) scope s H ex) ifs tf mf) (he:∀s H ex,QE K (cCx X (loc++fr) scope s H ex) elt te mm)
 (hs:∀x,foldedSetIterable iter X.env x=pure x:=by intro _;rfl):QN K X (.ListComp elt [⟨tg,iter,ifs,0⟩] scope pos) (Gx loc.length ix wi g tf te) (B9 loc.length ix mi n mf mm):=
 ⟨YD hc S hi.p (λs H ex=>(hg s H ex).p) (λs H ex=>(hf s H ex).p) (λs H ex=>(he s H ex).p) hs,OX hi.r (hg X.s₀ X.H₀ []).r (hf X.s₀ X.H₀ []).r (he X.s₀ X.H₀ []).r⟩
def XN:QSs K X [] IV AU:=⟨Oi,KR⟩
def UC{st:Stmt}{rest:List Stmt}(h1:QS K X st u m1)(h2:QSs K X rest v m2):QSs K X (st::rest) (MR u v) (AD m1 m2):=⟨Mz h1.p h2.p,Ri h1.r h2.r⟩
def XM{st:Stmt}(h1:QS K X st u m1):QSs K X [st] u m1:=⟨Oh h1.p,h1.r⟩
def XS:QS K X (.Pass pos) IV AU:=⟨Xr,KR⟩
def XU(he:QE K X e te me)(hs:swapsWith e none pos.line X.env=pure false:=by rfl):QS K X (.Expr e pos) (Pb te) (CY me):=⟨Xu he.p hs,Wj he.r⟩
def aI(he:QE K X e te me):QS K X (.Return (some e) pos) (JB te) (AQ me):=⟨ay he.p,Mi he.r⟩
def da(hc:QT K X c tA nA)(ha:QSs K X a u m1)(hb:QSs K X b v m2):QS K X (.If c a b pos) (MV tA u v) (Aa nA m1 m2):=⟨dq hc.p ha.p hb.p,Va hc.r ha.r hb.r⟩
def UE{st:Stmt}:QS K X st Jg Br:=⟨UQ,Mk⟩
def aK(he:QE K X e te me)(hg:QG K X tg g n)(hs:swapsWithSole [tg] e pos.line X.env=pure false:=by rfl)(hw:swappedStores [tg] e X.env=pure none:=by rfl)
 (h1:(assignEach [tg] X.env).map (·.2)=[assign tg X.env]:=by rfl):QS K X (.Assign [tg] e pos) (Gy te g) (ID me n):=⟨b8 he.p hg.p hs hw h1,Ml he.r hg.r⟩
def aH{i:Nat}(hN:X.N.Nodup)(hi:X.N[i]?=some x)(hx:Loc X.env.scope x)(he:QE K X e te me)(hs:swapsWith e (some (.Name x pos')) pos.line X.env=pure false:=by rfl)(hf:X.fn x=true∨X.env.scope.names.lookup x=some .local:=by first|exact .inl rfl|exact .inr rfl|assumption):
 QS K X (.Assign [.Name x pos'] e pos) (Gy te (Ej i)) (AW i me):=⟨ax hN hi hx he.p hs hf,Ml he.r KU⟩
def XR{i:Nat}{iter:Expr}{spos:Pos}(hN:X.N.Nodup)(hiN:X.N[i]?=some y)(hy:X.env.scope.names.lookup y=some .local)
 (hc:X.calm=true) (S:CSc X scope fr ix) (hi:QI K X tg iter wi mi)
 (hg:∀s H ex,QG K (cCx X (loc++fr) scope s H ex) tg g n) (hf:∀s H ex,QF K (cCx X (loc++fr) scope s H ex) ifs tf mf) (he:∀s H ex,QE K (cCx X (loc++fr) scope s H ex) elt te mm)
 (hsw:swapsWith (.ListComp elt [⟨tg,iter,ifs,0⟩] scope pos) (some (.Name y py)) spos.line X.env=pure true:=by rfl) (hs:∀x,foldedSetIterable iter X.env x=pure x:=by intro _;rfl):
 QS K X (.Assign [.Name y py] (.ListComp elt [⟨tg,iter,ifs,0⟩] scope pos) spos) (Gy (Gx loc.length ix wi g tf te) (Ej i)) (AW i (Bx (B9 loc.length ix mi n mf mm))):=
 ⟨Xq hN hiN hy hc S hi.p (λs H ex=>(hg s H ex).p) (λs H ex=>(hf s H ex).p) (λs H ex=>(he s H ex).p) hsw hs,Ml (Rs (OX hi.r (hg X.s₀ X.H₀ []).r (hf X.s₀ X.H₀ []).r (he X.s₀ X.H₀ []).r)) KU⟩
def XV{ty:TE}(hu:X.A.units+1<cLine)(ho:QE K X o td md)(hi:QE K X i ty my)(hv:QE K X value tv mv)(hs:swapsWith value (some (.Subscript o i pos')) pos.line X.env=pure false:=by rfl):
 QS K X (.Assign [.Subscript o i pos'] value pos) (Po td ty tv) (GJ md my mv):=⟨Xv hu ho.p hi.p hv.p hs,Wk ho.r hi.r hv.r⟩
def aJ{iter:Expr}(hc:X.calm=true)(hi:QI K X tg iter wi mi)(hg:QG K X tg g n)(hb:QSs K X body tb mb)(hp:PassesOwn (model X.prog X.w) X.A X.env X.xe:=by exact PassesOwn.never)
 (hs:∀x,foldedSetIterable iter X.env x=pure x:=by intro _;rfl):QS K X (.For tg iter body [] pos) (MW wi g tb) (By mi n mb):=⟨b7 hp hc hi.p hg.p hb.p hs,Rk hi.r hg.r hb.r⟩
end
def YK{K:Frag}{mg:Str->Option Value}{st:Stmt}{j:Nat}(DA:DefAt K mg x st f fd ps)(S:FnScope N ps (AA st))
 (h:∀(cdv:Value) (A:Around) (outer:List Env) (s:Shared) (H:Hp) (E:XK),Room j (A.deeper (envOfC x (AA st) s.heap.objs.size f cdv))->∃t,QSs K (Dq CX0 P w K mg base N x (AA st) f cdv A outer s H E).nox (BE st) t m):
 FnOk P w K mg base CX0 (j+1) f fd ps (spF K ps.length (mkF ps.length N.length m)):=by
 refine DA.fn.ok S (λvs H Q E h=>h.1) (λcdv A outer s H vs Q E hr hs=>?_);obtain⟨t,q⟩:=h cdv A outer s H E hr;exact⟨t,q.p,OQ q.r hs⟩
section
variable{X:Cx}{O:List (Addr×Obj)}{U:List (Option V)}{H H':Hp}{s:Shared}{h':Heap}
def Inv.turns{tk:Nat}{fp:List Addr}(I:Inv X O U H s)(k:∀b o,b∉fp->s.heap.get? b=some o->h'.get? b=some o)(hf:∀b∈fp,FpOk X O H b):Inv X O U H { s with heap:=h',toks:=tk }:=by
 have out:∀b u,H b=some u->b∉fp:=λb u e z=>by rw[(hf b z).1]at e;cases e
 have hL:X.env.locals∉fp:=λz=>(hf _ z).2.1 rfl;refine I.step (g':=s.gens) (d':=s.drawn) (ch:=fp) (λb hb=>⟨(hf b hb).2.2.2.1,(hf b hb).2.1,(hf b hb).2.2.2.2.1,(hf b hb).2.2.2.2.2⟩) (λb o _ _ hc e _=>k b o hc e) (λb o _ _ hc e _=>⟨o.slots,k b o hc e⟩) (λ_ _ _ _ n=>n)
  (λb o hc e=>⟨o,k b o hc e⟩) (λ_ _ e=>e) (λ_ _ _ e=>e) (λb ps e=>⟨#[],by rw[e];simp⟩) (λm hm=>?_) (λb u e=>?_) I.bare
 .obtain⟨o,es,ep,ho,r⟩:=hm;exact⟨o,es,ep,k _ o hL ho,r⟩
 .refine(I.hok b u e).stay (λc v hc q=>k c v ?_ q) (λ_ q=>q) λ_ _ q=>q;rcases hc with z|z
  .rw[z];exact out b u e
  .exact out c _ z
end
def Inv.turnsL{X:Cx}{O:List (Addr×Obj)}{U:List (Option V)}{H:Hp}{s:Shared}{h':Heap}{tk:Nat}{fp:List Addr}{a:Addr}{o:HO}(I:Inv X O U H s)(k:∀b o,b∉fp->s.heap.get? b=some o->h'.get? b=some o)(hf:∀b∈fp,FpOk X O H b)(ha:s.heap.objs.size<=a)(new:ObjOk X.prog X.w (upd H a o) h' a o):
 Inv X O U (upd H a o) { s with heap:=h',toks:=tk }:=by
 have out:∀b u,H b=some u->b∉fp:=λb u e z=>by rw[(hf b z).1]at e;cases e
 have hL:X.env.locals∉fp:=λz=>(hf _ z).2.1 rfl;have fr:H a=none:=I.hok.fresh ha;refine I.step (g':=s.gens) (d':=s.drawn) (ch:=fp) (λb hb=>⟨(hf b hb).2.2.2.1,(hf b hb).2.1,(hf b hb).2.2.2.2.1,(hf b hb).2.2.2.2.2⟩) (λb o _ _ hc e _=>k b o hc e) (λb o _ _ hc e _=>⟨o.slots,k b o hc e⟩)
  (λb o _ e n=>by rw[AC (jb (jl (Heap.lt_size e) ha))];exact n) (λb o hc e=>⟨o,k b o hc e⟩) (λb xs e=>by rw[AC (AZ e fr)];exact e) (λb o u e=>by rw[AC (AZ e fr)];exact e)
  (λb ps e=>⟨#[],by rw[AC (AZ e fr),e];simp⟩) (λm hm=>?_) (λb u e=>?_) I.bare
 .obtain⟨o,es,ep,ho,r⟩:=hm;exact⟨o,es,ep,k _ o hL ho,r⟩
 .by_cases hb:b=a
  .subst hb;rw[AJ]at e;cases e;exact new
  .rw[AC hb]at e;refine(I.hok b u e).stay (λc v hc q=>k c v ?_ q) (λc q=>by rw[AC (AZ q fr)];exact q) λc xs q=>by rw[AC (AZ q fr)];exact q
   rcases hc with z|z
   .rw[z];exact out b u e
   .exact out c _ z
def RowI(tp:Bool)(h:Heap)(it l:Addr)(k:Nat):Prop:=match tp with
 |true=>h.IsTupleIter it l k
 |false=>h.IsListIter it l k
def RowL(tp:Bool)(h:Heap)(l:Addr)(xs:Array Value):Prop:=match tp with
 |true=>h.IsTuple l xs
 |false=>h.IsList l xs
theorem RowI.at{tp:Bool}{h':Heap}{k:Nat}(x:RowI tp h it l k)(e:∀o,h.get? it=some o->h'.get? it=some o):RowI tp h' it l k:=by
 cases tp with
 |true=>exact Heap.IsTupleIter.at x e
 |false=>exact Heap.IsListIter.at x e
def RowL.at{tp:Bool}{h':Heap}(x:RowL tp h l xs)(e:∀o,h.get? l=some o->h'.get? l=some o):RowL tp h' l xs:=by
 cases tp with
 |true=>obtain⟨o,e1,r⟩:=(show h.IsTuple l xs from x);exact⟨o,e _ e1,r⟩
 |false=>obtain⟨o,e1,r⟩:=(show h.IsList l xs from x);exact⟨o,e _ e1,r⟩
def RowI.obj{tp:Bool}{k:Nat}(x:RowI tp h it l k):∃o,h.get? it=some o/\o.data=.fields #[.ref l,.int k 0]:=by
 cases tp with
 |true=>obtain⟨o,e,_,d⟩:=(show h.IsTupleIter it l k from x);exact⟨o,e,d⟩
 |false=>obtain⟨o,e,_,d⟩:=(show h.IsListIter it l k from x);exact⟨o,e,d⟩
def RowL.obj{tp:Bool}(x:RowL tp h l xs):∃o n,h.get? l=some o/\o.data=.seq xs n:=by
 cases tp with
 |true=>obtain⟨o,e,_,n,d⟩:=(show h.IsTuple l xs from x);exact⟨o,n,e,d⟩
 |false=>obtain⟨o,e,_,n,d⟩:=(show h.IsList l xs from x);exact⟨o,n,e,d⟩
section
variable{E:Value->Shared->Prop}{s:Shared}{k:Nat}
def tup_next(hit:s.heap.IsTupleIter it l k)(hl:s.heap.IsTuple l xs)(hx:xs[k]?=some x){Q:Value->Shared->Prop}(hQ:∀g,g.IsTupleIter it l (k+1)->Heap.SameBut it s.heap g->Q x { s with heap:=g }):
 wpAny (model prog w) A (Builtin.SmallTypes.nextOf (.ref it)) Q E s:=by
 obtain⟨o,eo,ec,ed⟩:=id hit;obtain⟨ol,el,_,nl,edl⟩:=hl;unfold Builtin.SmallTypes.nextOf;refine j5 (kC (name:=Str.ofString "__next__") hit.typeIs PyProof.Rows.slot_tupleiter_next (ko PyProof.Rows.slot_tupleiter_next hit.typeIs PyProof.Rows.entry_tupleiter_next ?_ (PyProof.Rows.args_tupleiter_next _)));show wpAny _ _ (field (.ref it) 0 >>= _) _ _ s;refine j5 (jr eo ed (x:=.ref l) rfl ?_);show wpAny _ _ (if(Value.ref l==Value.none)=true then _ else _) _ _ s;rw[j7 (show ¬ (Value.ref l==Value.none)=true from Bool.false_ne_true)];show wpAny _ _ (field (.ref it) 1 >>= _) _ _ s;refine j5 (jr eo ed (x:=.int k 0) rfl ?_);show wpAny _ _ (seqItems? (.ref l) >>= _) _ _ s;refine j5 (kq el edl ?_);simp only[kB,hx];refine j5 (kL eo ed (by simp) (j8 ⟨x,rfl,j8 (hQ _ ⟨_,Heap.get?_update_self _ eo (Obj.isFreed_of_fields (Obj.data_mapFields ed _)),(Obj.cls_mapFields ..).trans ec,?_⟩ (Heap.SameBut.update ..))⟩));rw[Obj.data_mapFields ed];simp[rawInt]
def tup_stop(hh:A.handled=none)(hit:s.heap.IsTupleIter it l k)(hl:s.heap.IsTuple l xs)(hx:xs[k]?=none){Q:Value->Shared->Prop}(hE:∀g e,Heap.ExtBut it s.heap g->(∃o,g.get? e=some o/\o.cls=.type "StopIteration")->E (.ref e) { s with heap:=g }):
 wpAny (model prog w) A (Builtin.SmallTypes.nextOf (.ref it)) Q E s:=by
 obtain⟨o,eo,ec,ed⟩:=id hit;obtain⟨ol,el,_,nl,edl⟩:=hl;unfold Builtin.SmallTypes.nextOf;refine j5 (kC (name:=Str.ofString "__next__") hit.typeIs PyProof.Rows.slot_tupleiter_next (ko PyProof.Rows.slot_tupleiter_next hit.typeIs PyProof.Rows.entry_tupleiter_next ?_ (PyProof.Rows.args_tupleiter_next _)));show wpAny _ _ (field (.ref it) 0 >>= _) _ _ s;refine j5 (jr eo ed (x:=.ref l) rfl ?_);show wpAny _ _ (if(Value.ref l==Value.none)=true then _ else _) _ _ s;rw[j7 (show ¬ (Value.ref l==Value.none)=true from Bool.false_ne_true)];show wpAny _ _ (field (.ref it) 1 >>= _) _ _ s;refine j5 (jr eo ed (x:=.int k 0) rfl ?_);show wpAny _ _ (seqItems? (.ref l) >>= _) _ _ s;refine j5 (kq el edl ?_);simp only[kB,hx];refine j5 (wpAny_rule (j5 (kL eo ed (by simp) ?_)));show wpAny _ _ (newExc (.type "StopIteration") [] >>= _) _ _ _;refine j5 ?_;simp only[newExc,newTuple];refine j5 (jH ?_ (by size_fits));refine j5 (m:=firstArgMember _ _) (wpAny_of_eq (a:=Value.none) (by first|rfl|(simp only[firstArgMember];rfl)) ?_);refine jH ?_ (by size_fits);simp only[raiseNew];refine j5 (wpAny_handled ?_)
 first|rw[show A.in1.handled=none from hh]|rw[hh]
 exact j5 (j8 (wpAny_throw (hE _ _ (((Heap.SameBut.update ..).extBut.push _).push _) ⟨_,Heap.get?_push_size _ rfl,rfl⟩)))
def JD{tp:Bool}(hit:RowI tp s.heap it l k)(hl:RowL tp s.heap l xs)(hx:xs[k]?=some x){Q:Value->Shared->Prop}(hQ:∀g,RowI tp g it l (k+1)->Heap.SameBut it s.heap g->Q x { s with heap:=g }):
 wpAny (model prog w) A (Builtin.SmallTypes.nextOf (.ref it)) Q E s:=by
 cases tp with
 |true=>exact tup_next hit hl hx hQ
 |false=>exact wpAny_nextOf_list_item hit hl hx hQ
def Mm{tp:Bool}(hh:A.handled=none)(hit:RowI tp s.heap it l k)(hl:RowL tp s.heap l xs)(hx:xs[k]?=none){Q:Value->Shared->Prop}(hE:∀g e,Heap.ExtBut it s.heap g->(∃o,g.get? e=some o/\o.cls=.type "StopIteration")->E (.ref e) { s with heap:=g }):
 wpAny (model prog w) A (Builtin.SmallTypes.nextOf (.ref it)) Q E s:=by
 cases tp with
 |true=>exact tup_stop hh hit hl hx hE
 |false=>exact wpAny_nextOf_list_end hh hit hl hx hE
end
structure ZAt(t1 t2:Bool)(h:Heap)(z a b i1 i2 l1 l2:Addr)(f0:Value)(j k:Nat):Prop where
 z:IsZip h z a b f0
 p:IsPair h a (.ref i1) (.ref i2)
 o:∃u v,IsPair h b u v
 r1:RowI t1 h i1 l1 j
 r2:RowI t2 h i2 l2 k
structure ZNe(z a b i1 i2 l1 l2:Addr):Prop where
 az:a≠z
 bz:b≠z
 iz:i1≠z
 jz:i2≠z
 ab:a≠b
 ai:a≠i1
 aj:a≠i2
 bi:b≠i1
 bj:b≠i2
 ij:i1≠i2
 lz:l1≠z
 lb:l1≠b
 li:l1≠i1
 lj:l1≠i2
 mz:l2≠z
 mb:l2≠b
 mi:l2≠i1
 mj:l2≠i2
section
variable{E:Value->Shared->Prop}{s:Shared}{t1 t2:Bool}{j k:Nat}
abbrev Qn(z b i1 i2:Addr)(h h':Heap):Prop:=∀c o,c≠z->c≠b->c≠i1->c≠i2->h.get? c=some o->h'.get? c=some o
def TC(N:ZNe z a b i1 i2 l1 l2)(Z:ZAt t1 t2 s.heap z a b i1 i2 l1 l2 .none j k)(hl1:RowL t1 s.heap l1 xs)(hl2:RowL t2 s.heap l2 ys)(hx:xs[j]?=some x)(hy:ys[k]?=some y){Q:Value->Shared->Prop}
 (hQ:∀g,ZAt t1 t2 g z a b i1 i2 l1 l2 (rawInt s.heap.objs.size) (j+1) (k+1)->IsPair g s.heap.objs.size x y->Qn z b i1 i2 s.heap g->Q (.ref s.heap.objs.size) { s with heap:=g }):
 wpAny (model prog w) A (Builtin.«zip.__next__» ⟨[.ref z],[]⟩) (λfin s'=>∃v,fin=.done (.ret v)/\Q v s') E s:=by
 obtain⟨hz,hp,⟨u,v,hb⟩,q1,q2⟩:=Z;show wpAny _ _ (field (.ref z) 2 >>= _) _ _ _;refine j5 (jr hz rfl (x:=.bool false) rfl ?_);show wpAny _ _ (field (.ref z) 3 >>= _) _ _ _;refine j5 (jr hz rfl (x:=.ref a) rfl (j5 (kq hp rfl ?_)));show wpAny _ _ (Builtin.SmallTypes.ownedTupleIsFree (.ref z) >>= _) _ _ _;unfold Builtin.SmallTypes.ownedTupleIsFree;refine j5 (j5 (jr hz rfl (x:=.none) rfl (j8 ?_)));simp only[jB];refine j5 (wpAny_rule (j5 (jr hz rfl (x:=.ref b) rfl ?_)));refine j5 (kM hz (by simp) λg1 z1 s1=>?_);have z1:IsZip g1 z a b .ellipsis:=z1;refine j5 ?_;simp only[jM,List.zipIdx_nil,List.forIn_cons,List.forIn_nil];refine j5 (j5 (kO ?_));show wpAny _ _ (Builtin.SmallTypes.nextOf (.ref i1) >>= _) _ _ _;refine j5 (JD (s:={ s with heap:=g1 }) (q1.at λo e=>s1.extBut _ _ N.iz e) (hl1.at λo e=>s1.extBut _ _ N.lz e) hx λg2 r2 s2=>j8 ?_);have b2:IsPair g2 b u v:=s2.extBut _ _ N.bi (s1.extBut _ _ N.bz hb);refine j5 (kq b2 rfl (j5 (wpAny_updateSeq_pair b2 λg3 b3 s3=>?_)));have b3:IsPair g3 b x v:=b3;refine j5 (wpAny_letGo (j8 (j5 (j5 (kO ?_)))));show wpAny _ _ (Builtin.SmallTypes.nextOf (.ref i2) >>= _) _ _ _;have q3:RowI t2 g3 i2 l2 k:=q2.at λo e=>s3.extBut _ _ N.bj.symm (s2.extBut _ _ N.ij.symm (s1.extBut _ _ N.jz e));have m3:RowL t2 g3 l2 ys:=hl2.at λo e=>s3.extBut _ _ N.mb (s2.extBut _ _ N.mi (s1.extBut _ _ N.mz e));refine j5 (JD (s:={ s with heap:=g3 }) q3 m3 hy λg4 r4 s4=>j8 ?_);have b4:IsPair g4 b x v:=s4.extBut _ _ N.bj b3;refine j5 (kq b4 rfl (j5 (wpAny_updateSeq_pair b4 λg5 b5 s5=>?_)));have b5:IsPair g5 b x y:=b5;refine j5 (wpAny_letGo (j8 (j8 (j5 (kq b5 rfl (j5 (wpAny_newTuple ?_)))))));have sz:g5.objs.size=s.heap.objs.size:=by rw[s5.1,s4.1,s3.1,s2.1,s1.1]
 have z5:IsZip g5 z a b .ellipsis:=s5.extBut _ _ N.bz.symm (s4.extBut _ _ N.jz.symm (s3.extBut _ _ N.bz.symm (s2.extBut _ _ N.iz.symm z1)));have kp:Qn z b i1 i2 s.heap g5:=λc o c1 c2 c3 c4 e=>s5.extBut _ _ c2 (s4.extBut _ _ c4 (s3.extBut _ _ c2 (s2.extBut _ _ c3 (s1.extBut _ _ c1 e))));have w1:RowI t1 g5 i1 l1 (j+1):=r2.at λo e=>s5.extBut _ _ N.bi.symm (s4.extBut _ _ N.ij (s3.extBut _ _ N.bi.symm e));have w2:RowI t2 g5 i2 l2 (k+1):=r4.at λo e=>s5.extBut _ _ N.bj.symm e;have zlt:=Heap.lt_size z5;show wpAny _ _ (Builtin.SmallTypes.ownedTupleHandOut (.ref z) (.ref g5.objs.size) >>= _) _ _ _;unfold Builtin.SmallTypes.ownedTupleHandOut;have z6:IsZip (g5.push { cls:=.type "tuple",data:=.seq #[x,y] }) z a b .ellipsis:=Heap.get?_push_of_some _ z5;refine j5 (j5 (kM z6 (by simp) λg7 z7 s7=>?_));have z7:IsZip g7 z a b (rawInt g5.objs.size):=z7;refine kM z7 (by simp) λg8 z8 s8=>j8 ⟨_,rfl,?_⟩;have z8:IsZip g8 z a b (rawInt g5.objs.size):=z8;have up:∀c o,c≠z->g5.get? c=some o->g8.get? c=some o:=λc o c1 e=>s8.extBut _ _ c1 (s7.extBut _ _ c1 (Heap.get?_push_of_some _ e));have t8:IsPair g8 g5.objs.size x y:=s8.extBut _ _ (jv zlt) (s7.extBut _ _ (jv zlt) (Heap.get?_push_size _ rfl));show Q (.ref g5.objs.size) _;rw[sz]at z8 t8 ⊢;exact hQ g8 ⟨z8,up _ _ N.az (kp _ _ N.az N.ab N.ai N.aj hp),⟨_,_,up _ _ N.bz b5⟩,w1.at λo e=>up _ o N.iz e,w2.at λo e=>up _ o N.jz e⟩ t8 λc o c1 c2 c3 c4 e=>up c o c1 (kp c o c1 c2 c3 c4 e)
def TB(hh:A.handled=none)(N:ZNe z a b i1 i2 l1 l2)(Z:ZAt t1 t2 s.heap z a b i1 i2 l1 l2 .none j k)(hl1:RowL t1 s.heap l1 xs)(hl2:RowL t2 s.heap l2 ys)(hend:xs[j]?=none∨ys[k]?=none){Q:Fin->Shared->Prop}
 (hE:∀g e,Qn z b i1 i2 s.heap g->(∃o,g.get? e=some o/\o.cls=.type "StopIteration")->E (.ref e) { s with heap:=g }):
 wpAny (model prog w) A (Builtin.«zip.__next__» ⟨[.ref z],[]⟩) Q E s:=by
 obtain⟨hz,hp,⟨u,v,hb⟩,q1,q2⟩:=Z;show wpAny _ _ (field (.ref z) 2 >>= _) _ _ _;refine j5 (jr hz rfl (x:=.bool false) rfl ?_);show wpAny _ _ (field (.ref z) 3 >>= _) _ _ _;refine j5 (jr hz rfl (x:=.ref a) rfl (j5 (kq hp rfl ?_)));show wpAny _ _ (Builtin.SmallTypes.ownedTupleIsFree (.ref z) >>= _) _ _ _;unfold Builtin.SmallTypes.ownedTupleIsFree;refine j5 (j5 (jr hz rfl (x:=.none) rfl (j8 ?_)));simp only[jB];refine j5 (wpAny_rule (j5 (jr hz rfl (x:=.ref b) rfl ?_)));refine j5 (kM hz (by simp) λg1 z1 s1=>?_);have z1:IsZip g1 z a b .ellipsis:=z1;refine j5 ?_;simp only[jM,List.zipIdx_nil,List.forIn_cons,List.forIn_nil];refine j5 (j5 (kO ?_));show wpAny _ _ (Builtin.SmallTypes.nextOf (.ref i1) >>= _) _ _ _;have o1:RowI t1 g1 i1 l1 j:=q1.at λo e=>s1.extBut _ _ N.iz e;have m1:RowL t1 g1 l1 xs:=hl1.at λo e=>s1.extBut _ _ N.lz e;cases hx:xs[j]? with
 |none=>
  refine j5 (Mm (s:={ s with heap:=g1 }) hh o1 m1 hx λg2 e s2 he=>?_);obtain⟨oe,he1,he2⟩:=he;have z2:IsZip g2 z a b .ellipsis:=s2 _ _ N.iz.symm z1;have ne:e≠z:=λq=>by subst q;rw[z2]at he1;cases he1;simp at he2
  exact kM z2 (by simp) λg3 _ s3=>hE g3 e (λc o c1 _ c3 _ q=>s3.extBut _ _ c1 (s2 _ _ c3 (s1.extBut _ _ c1 q))) ⟨oe,s3.extBut _ _ ne he1,he2⟩
 |some x=>
  have hy:ys[k]?=none:=by
   rcases hend with q|q
   .rw[hx]at q;cases q
   .exact q
  refine j5 (JD (s:={ s with heap:=g1 }) o1 m1 hx λg2 r2 s2=>j8 ?_);have b2:IsPair g2 b u v:=s2.extBut _ _ N.bi (s1.extBut _ _ N.bz hb);refine j5 (kq b2 rfl (j5 (wpAny_updateSeq_pair b2 λg3 b3 s3=>?_)));refine j5 (wpAny_letGo (j8 (j5 (j5 (kO ?_)))));show wpAny _ _ (Builtin.SmallTypes.nextOf (.ref i2) >>= _) _ _ _;have q3:RowI t2 g3 i2 l2 k:=q2.at λo e=>s3.extBut _ _ N.bj.symm (s2.extBut _ _ N.ij.symm (s1.extBut _ _ N.jz e));have m3:RowL t2 g3 l2 ys:=hl2.at λo e=>s3.extBut _ _ N.mb (s2.extBut _ _ N.mi (s1.extBut _ _ N.mz e));refine j5 (Mm (s:={ s with heap:=g3 }) hh q3 m3 hy λg4 e s4 he=>?_);obtain⟨oe,he1,he2⟩:=he;have z4:IsZip g4 z a b .ellipsis:=s4 _ _ N.jz.symm (s3.extBut _ _ N.bz.symm (s2.extBut _ _ N.iz.symm z1));have ne:e≠z:=λq=>by subst q;rw[z4]at he1;cases he1;simp at he2
  exact kM z4 (by simp) λg5 _ s5=>hE g5 e (λc o c1 c2 c3 c4 q=>s5.extBut _ _ c1 (s4 _ _ c4 (s3.extBut _ _ c2 (s2.extBut _ _ c3 (s1.extBut _ _ c1 q))))) ⟨oe,s5.extBut _ _ ne he1,he2⟩
end
def SqS(K:Frag)(tp:Bool)(H:Hp)(a:Addr)(xs:List V):Prop:=match tp with
 |true=>SqT K H a xs
 |false=>SqL K H a xs
def Itz(K:Frag)(t1 t2:Bool)(a b:Addr):It:=
 ⟨λi H=>∃xs ys x y,SqS K t1 H a xs/\SqS K t2 H b ys/\xs[i]?=some x/\ys[i]?=some y,
  λi H x H'=>∃p u v,H p=none/\H'=upd H p (.tup [u,v])/\x=.ref p/\(∀xs,SqS K t1 H a xs->xs[i]?=some u)/\∀ys,SqS K t2 H b ys->ys[i]?=some v,
  λi H=>∃xs ys,SqS K t1 H a xs/\SqS K t2 H b ys/\(xs.length<=i∨ys.length<=i)⟩
section
def Inv.row{tp:Bool}(I:Inv X O U H s)(h:SqS X.K tp H a xs):∃its:List Value,Vals xs its/\RowL tp s.heap a its.toArray/\xs.length<=sizeLine:=by
 cases tp with
 |true=>obtain⟨its,r,p,z⟩:=I.tuple h;exact⟨its,r,(show s.heap.IsTuple a its.toArray from p),z⟩
 |false=>obtain⟨its,r,p,z⟩:=I.list h;exact⟨its,r,p.isList,z⟩
def Inv.row_inj{tp:Bool}(I:Inv X O U H s)(h:SqS X.K tp H a xs)(h':SqS X.K tp H a ys):xs=ys:=by
 cases tp with
 |true=>exact I.tuple_inj h h'
 |false=>exact I.list_inj h h'
end
def RowL.lt{tp:Bool}(x:RowL tp h l xs):l<h.objs.size:=by
 obtain⟨o,n,e,_⟩:=x.obj;exact Heap.lt_size e
def Z2{M:Model}{E:Value->Shared->Prop}{s:Shared}{x1}{T:Addr}{Q:Unit->Shared->Prop}(hz:IsZip s.heap z a b (rawInt T))
 (hQ:∀g,IsZip g z a b .none->Heap.SameBut z s.heap g->Q () { s with heap:=g }):wpAny (model prog w) A (letOwnedTupleGo (.Tuple elts x1 pos) (.ref z) (.ref T)) Q E s:=wpAny_letOwnedTupleGo_zip hz hQ
def TV{P:Program}{w:World}{K:Frag}{elts:List Expr}{kk:Nat}{tpos:Pos}{t1 t2:Bool}{z a b i1 i2 l1 l2:Addr}(N:ZNe z a b i1 i2 l1 l2):Turn P w K (.Tuple elts kk tpos) (Itz K t1 t2 l1 l2) [z,a,b,i1,i2] z (λi h=>ZAt t1 t2 h z a b i1 i2 l1 l2 .none i i) where
 mem:=by simp
 obj:=λi h st c hc=>by
  obtain⟨hz,hp,⟨u,v,hb⟩,q1,q2⟩:=st;simp only[ja,ji,jk]at hc;rcases hc with rfl|rfl|rfl|rfl|rfl
  .exact⟨_,hz,λv z=>by cases(show Data.fields _=Data.cell v from z)⟩
  .exact⟨_,hp,λv z=>by cases(show Data.seq _ _=Data.cell v from z)⟩
  .exact⟨_,hb,λv z=>by cases(show Data.seq _ _=Data.cell v from z)⟩
  .obtain⟨o,e,d⟩:=q1.obj;exact⟨o,e,λv z=>by rw[d]at z;cases z⟩
  .obtain⟨o,e,d⟩:=q2.obj;exact⟨o,e,λv z=>by rw[d]at z;cases z⟩
 keep:=λi h h' st k=>by
  obtain⟨hz,hp,⟨u,v,hb⟩,q1,q2⟩:=st;exact⟨k z (by simp) _ hz,k a (by simp) _ hp,⟨u,v,k b (by simp) _ hb⟩,q1.at λo e=>k i1 (by simp) o e,q2.at λo e=>k i2 (by simp) o e⟩
 item:=by
  intro X hP hw hK hc i O s U H E I hf st hg;subst hP hw hK;obtain⟨xs,ys,x,y,h1,h2,hx,hy⟩:=hg;obtain⟨ix,rx,px,zx⟩:=I.row h1;obtain⟨iy,ry,py,zy⟩:=I.row h2;obtain⟨u,hu,ru⟩:=rx.get hx;obtain⟨v,hv,rv⟩:=ry.get hy;have hT:s.TypeIs (.ref z) "zip":=⟨_,st.z,rfl⟩
  unfold pyNext;refine j5 (kK (kC (name:=Str.ofString "__next__") hT F.slot_zip_next (ko F.slot_zip_next hT F.entry_zip_next
   (TC N st px py (x:=u) (y:=v) (by simpa using hu) (by simpa using hv) λg Z g5 kp=>j8 ⟨_,rfl,?_⟩) (F.args_zip_next_1 _))))
  refine Z2 (M:=model X.prog X.w) (s:={ s with heap:=g }) Z.z λg' z' sb=>?_;have kp2:∀c o,c∉[z,a,b,i1,i2]->s.heap.get? c=some o->g'.get? c=some o:=λc o nc e=>by
   simp only[ja,ji,jk,not_or]at nc;exact sb.extBut _ _ nc.1 (kp c o nc.1 nc.2.2.1 nc.2.2.2.1 nc.2.2.2.2 e)
  have hTz:s.heap.objs.size≠z:=jv (Heap.lt_size st.z);have hpair:IsPair g' s.heap.objs.size u v:=sb.extBut _ _ hTz g5;have fresh:H s.heap.objs.size=none:=I.hok.fresh (j9 _);have I2:Inv X O U (upd H s.heap.objs.size (.tup [x,y])) { s with heap:=g' }:=I.turnsL (tk:=s.toks) (o:=.tup [x,y]) kp2 hf (j9 _)
   (show ObjOk X.prog X.w _ g' _ (.tup [x,y])from⟨by show 2<=sizeLine;decide,[u,v],.cons ru (.cons rv .nil),⟨_,hpair,rfl,⟨_,rfl⟩,rfl⟩⟩)
  refine⟨.ref s.heap.objs.size,_,I2,rfl,⟨_,x,y,fresh,rfl,rfl,λxs' q=>by rw[I.row_inj q h1];exact hx,λys' q=>by rw[I.row_inj q h2];exact hy⟩,⟨z',?_,?_,?_,?_⟩,λc hc=>?_⟩
  .exact sb.extBut _ _ N.az Z.p
  .obtain⟨p,q,e⟩:=Z.o;exact⟨p,q,sb.extBut _ _ N.bz e⟩
  .exact Z.r1.at λo e=>sb.extBut _ _ N.iz e
  .exact Z.r2.at λo e=>sb.extBut _ _ N.jz e
  .have lt:c<s.heap.objs.size:=by
    obtain⟨hz,hp,⟨u,v,hb⟩,q1,q2⟩:=st;simp only[ja,ji,jk]at hc;rcases hc with rfl|rfl|rfl|rfl|rfl
    .exact Heap.lt_size hz
    .exact Heap.lt_size hp
    .exact Heap.lt_size hb
    .obtain⟨o,e,_⟩:=q1.obj;exact Heap.lt_size e
    .obtain⟨o,e,_⟩:=q2.obj;exact Heap.lt_size e
   rw[AC (jb lt)];exact(hf c hc).1
 done:=by
  intro X hP hw hK hc i O s U H E I hf st hg;subst hP hw hK;obtain⟨xs,ys,h1,h2,hend⟩:=hg;obtain⟨ix,rx,px,zx⟩:=I.row h1;obtain⟨iy,ry,py,zy⟩:=I.row h2;have l1':=rx.length;have l2':=ry.length;have hT:s.TypeIs (.ref z) "zip":=⟨_,st.z,rfl⟩
  unfold pyNext;refine j5 (kK (kC (name:=Str.ofString "__next__") hT F.slot_zip_next (ko F.slot_zip_next hT F.entry_zip_next
   (TB (A:=X.A.in1) (show X.A.in1.handled=none from I.ok.hd hc) N st px py (hend.imp (λq=>by simp;omega) λq=>by simp;omega) λg e kp he=>?_) (F.args_zip_next_1 _))))
  obtain⟨o,ho,hcl⟩:=he;refine j5 (wpAny_isInstance (T:="StopIteration") (b:=true) ⟨o,ho,hcl⟩ isSubtype_stop (j8 ⟨rfl,?_⟩));exact I.turns (tk:=s.toks) (λc o nc e=>by
   simp only[ja,ji,jk,not_or]at nc;exact kp c o nc.1 nc.2.2.1 nc.2.2.2.1 nc.2.2.2.2 e) hf
 self:=λ_ _ _ _ _ st h=>wpAny_pyIter_zip st.z h
abbrev Eh(tp:Bool)(l:Addr):Obj:={ cls:=.type (match tp with|true=>"tuple_iterator" | false=>"list_iterator"),data:=.fields #[.ref l,.int 0 0] }
abbrev zh1(t1:Bool)(h:Heap)(l1:Addr):Heap:=h.push (Eh t1 l1)
abbrev zh2(t1 t2:Bool)(h:Heap)(l1 l2:Addr):Heap:=(zh1 t1 h l1).push (Eh t2 l2)
abbrev zh3(t1 t2:Bool)(h:Heap)(l1 l2:Addr):Heap:=(zh2 t1 t2 h l1 l2).push { cls:=.type "tuple",data:=.seq #[.ref h.objs.size,.ref (zh1 t1 h l1).objs.size] }
abbrev zh4(t1 t2:Bool)(h:Heap)(l1 l2:Addr):Heap:=(zh3 t1 t2 h l1 l2).push { cls:=.type "tuple",data:=.seq #[.none,.none] }
abbrev zh5(t1 t2:Bool)(h:Heap)(l1 l2:Addr):Heap:=(zh4 t1 t2 h l1 l2).push { cls:=.type "zip",data:=.fields #[.none,.bool false,.bool false,.ref (zh2 t1 t2 h l1 l2).objs.size,.ref (zh3 t1 t2 h l1 l2).objs.size] }
set_option maxHeartbeats 4000000 in
def TD(t1 t2:Bool)(l1 l2:Addr)(xs ys:Array Value):
 Meets (Builtin.«zip.__new__» ⟨[.type "zip",.ref l1,.ref l2],[]⟩) (λ_ R s=>RowL t1 s.heap l1 xs/\RowL t2 s.heap l2 ys/\R (.ok (.ret (.ref (zh4 t1 t2 s.heap l1 l2).objs.size))) { s with heap:=zh5 t1 t2 s.heap l1 l2 }):=
 .of_wp λprog w A R s h=>by
  obtain⟨hp,g,d,tk,os⟩:=s;obtain⟨q1,q2,h⟩:=h;have hsub:=sub_zip;have q2':RowL t2 (hp.push (Eh t1 l1)) l2 ys:=q2.at λo e=>Heap.get?_push_of_some _ e;cases t1<;>cases t2
  .have p1:Heap.IsList (Shared.heap ⟨hp,g,d,tk,os⟩) l1 xs:=q1;have p2:Heap.IsList (Shared.heap ⟨hp.push (Eh false l1),g,d,tk,os⟩) l2 ys:=q2'
   wp_walk using wpAny_pyIter_list p1,wpAny_pyIter_list p2
   exact⟨_,rfl,h⟩
  .have p1:Heap.IsList (Shared.heap ⟨hp,g,d,tk,os⟩) l1 xs:=q1;have p2:Heap.IsTuple (Shared.heap ⟨hp.push (Eh false l1),g,d,tk,os⟩) l2 ys:=q2'
   wp_walk using wpAny_pyIter_list p1,wpAny_pyIter_tuple p2
   exact⟨_,rfl,h⟩
  .have p1:Heap.IsTuple (Shared.heap ⟨hp,g,d,tk,os⟩) l1 xs:=q1;have p2:Heap.IsList (Shared.heap ⟨hp.push (Eh true l1),g,d,tk,os⟩) l2 ys:=q2'
   wp_walk using wpAny_pyIter_tuple p1,wpAny_pyIter_list p2
   exact⟨_,rfl,h⟩
  .have p1:Heap.IsTuple (Shared.heap ⟨hp,g,d,tk,os⟩) l1 xs:=q1;have p2:Heap.IsTuple (Shared.heap ⟨hp.push (Eh true l1),g,d,tk,os⟩) l2 ys:=q2'
   wp_walk using wpAny_pyIter_tuple p1,wpAny_pyIter_tuple p2
   exact⟨_,rfl,h⟩
def W9(h1:l1<n)(h2:l2<n):ZNe (n+4) (n+2) (n+3) n (n+1) l1 l2:=by
 have k1:@LT.lt Nat _ l1 n:=h1;have k2:@LT.lt Nat _ l2 n:=h2;constructor<;>(intro z;have z:@Eq Nat _ _:=z;omega)
def OW{tp:Bool}{h:Heap}(e:h.get? a=some (Eh tp l)):RowI tp h a l 0:=by
 cases tp with
 |true=>exact⟨_,e,rfl,rfl⟩
 |false=>exact⟨_,e,rfl,rfl⟩
section
variable{E:Value->Shared->Prop}{s:Shared}
def TF{t1 t2:Bool}{Q:Value->Shared->Prop}(q1:RowL t1 s.heap l1 xs)(q2:RowL t2 s.heap l2 ys)
 (h:∀g,ZAt t1 t2 g (s.heap.objs.size+4) (s.heap.objs.size+2) (s.heap.objs.size+3) s.heap.objs.size (s.heap.objs.size+1) l1 l2 .none 0 0->(∀c o,s.heap.get? c=some o->g.get? c=some o)->Q (.ref (s.heap.objs.size+4)) { s with heap:=g }):
 wpAny (model prog w) A (call (.type "zip") [.ref l1,.ref l2]) Q E s:=by
 refine callType_new F.called_zip (by decide) (F.typeCall_zip_2 _ _) (F.newCall_zip_2 _ _) (λobj=>F.args_object_init_3 obj _ _) F.entry_zip_new (TD t1 t2 l1 l2 xs ys) ⟨q1,q2,?_⟩;have n1:(zh1 t1 s.heap l1).objs.size=s.heap.objs.size+1:=Heap.size_push ..;have n2:(zh2 t1 t2 s.heap l1 l2).objs.size=s.heap.objs.size+2:=by rw[Heap.size_push,n1]
 have n3:(zh3 t1 t2 s.heap l1 l2).objs.size=s.heap.objs.size+3:=by rw[Heap.size_push,n2]
 have n4:(zh4 t1 t2 s.heap l1 l2).objs.size=s.heap.objs.size+4:=by rw[Heap.size_push,n3]
 have up:∀{g:Heap} {c:Addr} {o x:Obj},g.get? c=some o->(g.push x).get? c=some o:=λe=>Heap.get?_push_of_some _ e;have e5:(zh5 t1 t2 s.heap l1 l2).get? (zh4 t1 t2 s.heap l1 l2).objs.size=some _:=Heap.get?_push_size _ rfl;have e4:(zh5 t1 t2 s.heap l1 l2).get? (zh3 t1 t2 s.heap l1 l2).objs.size=some _:=up (Heap.get?_push_size _ rfl);have e3:(zh5 t1 t2 s.heap l1 l2).get? (zh2 t1 t2 s.heap l1 l2).objs.size=some _:=up (up (Heap.get?_push_size _ rfl));have e2:(zh5 t1 t2 s.heap l1 l2).get? (zh1 t1 s.heap l1).objs.size=some (Eh t2 l2):=up (up (up (Heap.get?_push_size _ (by cases t2<;>rfl))));have e1:(zh5 t1 t2 s.heap l1 l2).get? s.heap.objs.size=some (Eh t1 l1):=up (up (up (up (Heap.get?_push_size _ (by cases t1<;>rfl)))));show _/\_;rw[n2,n3,n4]at e5;rw[n1,n2]at e3;rw[n3]at e4;rw[n1]at e2;rw[n4];exact⟨⟨_,e5,rfl⟩,h _ ⟨e5,e3,⟨_,_,e4⟩,OW e1,OW e2⟩ λc o x=>up (up (up (up (up x))))⟩
end
def QP(K:Frag)(t1 t2:Bool)(ta:TA):TI:=λU H R=>ta U H λvs H1=>∃a b xs ys,vs=[.ref a,.ref b]/\SqS K t1 H1 a xs/\SqS K t2 H1 b ys/\R (Itz K t1 t2 a b) H1
section
def bA{t1 t2:Bool}{elts:List Expr}{kk:Nat}{tpos p pos:Pos}(hg:Gl X "zip")(hm:X.mg "zip"=none)(ha:PA X [a,b] ta)(hs:starEach [a,b] X.env=[(false,eval a X.env),(false,eval b X.env)]:=by rfl)(hs2:starEach [b] X.env=[(false,eval b X.env)]:=by rfl):
 PI X (.Tuple elts kk tpos) (.Call (.Name "zip" p) [a,b] [] pos) (QP X.K t1 t2 ta):=by
 intro O s U H R I h;refine Call_ (DO I hg hm boot_zip (PyProof.Rows.callWith_type1 (thn (ha pos O s U H _ I h) λus s1 ⟨vs,H1,I1,r1,q1⟩=>?_) (by rw[hs,hs2]) (by rw[hs2];rfl)));obtain⟨l1,l2,xs,ys,e,c1,c2,q⟩:=q1;subst e;obtain⟨u,v,rfl,ru,rv⟩:=Lp r1;cases ru;cases rv;obtain⟨ix,rx,px,zx⟩:=I1.row c1;obtain⟨iy,ry,py,zy⟩:=I1.row c2;refine TF px py λg Z kp=>wpAny_pyIter_zip Z.z ?_;refine⟨_,_,_,_,H1,rfl,I1.kept (t':=s1.toks) kp,TV (W9 px.lt py.lt),Z,λc hc=>?_,q⟩;simp only[ja,ji,jk]at hc;have le:s1.heap.objs.size<=c:=by
  rcases hc with rfl|rfl|rfl|rfl|rfl
  .exact kc _ _
  .exact kc _ _
  .exact kc _ _
  .exact j9 _
  .exact kc _ _
 exact I1.fpOk le (I1.hok.fresh le)
def Y3(K:Frag){t1 t2:Bool}{elts:List Expr}{kk:Nat}{tpos p pos:Pos}(hg:Gl X "zip")(hm:X.mg "zip"=none)(ha:PA X [a,b] ta)(hK:X.K=K:=by rfl)(hs:starEach [a,b] X.env=[(false,eval a X.env),(false,eval b X.env)]:=by rfl)(hs2:starEach [b] X.env=[(false,eval b X.env)]:=by rfl):
 PI X (.Tuple elts kk tpos) (.Call (.Name "zip" p) [a,b] [] pos) (QP K t1 t2 ta):=by subst hK;exact bA hg hm ha hs hs2
end
def fC(K:Frag)(ρ:List Addr)(H:Hp)(tp:Bool)(a:Addr)(ds:List D)(g:Gd):Prop:=∀(ρ2:List Addr) (H2:Hp) (hd2:Hd),Ext ρ H ρ2 H2->RH K ρ2 H2 hd2->GOk hd2 g->∃xs,SqS K tp H2 a xs/\RDs K ρ2 H2 ds xs
def RRw(K:Frag)(tp:Bool)(t:TE)(m:MI):Prop:=∀(ρ:List Addr) (U:St) (H:Hp) (hd:Hd) (ls:Ls) (Q:VK) (d:List D) (g:Gd) (hd':Hd),RH K ρ H hd->RL K ρ H ls U->m ls hd=some ((d,g),hd') ->
 (∀ρ' H' a,Ext ρ H ρ' H'->RH K ρ' H' hd'->GOk hd' g->fC K ρ' H' tp a d g->Q (.ref a) H')->t U H Q
structure QR(K:Frag)(tp:Bool)(X:Cx)(e:Expr)(t:TE)(m:MI):Prop where
 p:PE X e t
 r:RRw K tp t m
section
variable{K:Frag}{ρ':List Addr}{H':Hp}
def ZU(h:RE K t m):RRw K true t (BY m):=by
 intro ρ U H hd ls Q d g hd' hR hL hm hQ;obtain⟨⟨d1,h1⟩,e1,hm⟩:=gV hm;obtain⟨ds,e2,e3⟩:=j4 hm;cases e3;refine h ρ U H hd ls _ d1 _ hR hL e1 λρ1 H1 v x1 R1 r1=>?_;obtain⟨a,xs,rfl,q,r⟩:=r1.tup e2;exact hQ ρ1 H1 a x1 R1 (Ah _) λρ2 H2 hd2 x2 R2 _=>⟨xs,(x2.grow R1).sq q,r.ext R1 x2⟩
def Wh(h:RE K t m):RRw K false t (E9 m):=by
 intro ρ U H hd ls Q d g hd' hR hL hm hQ;obtain⟨⟨d1,h1⟩,e1,hm⟩:=gV hm;dsimp only at hm;split at hm
 .next n=>
  split at hm
  .next ds q=>
   cases hm;refine h ρ U H hd ls _ _ _ hR hL e1 λρ1 H1 v x1 R1 r1=>?_;simp only[RD]at r1;obtain⟨a,hn,rfl⟩:=r1;refine hQ ρ1 H1 a x1 R1 (λp z=>by simp at z;subst z;exact q) λρ2 H2 hd2 x2 R2 G2=>?_;have hn2:ρ2[n]?=some a:=by
    obtain⟨r,rfl,_⟩:=x2.pre;rw[List.getElem?_append_left (List.getElem?_eq_some_iff.mp hn).1];exact hn
   obtain⟨ys,e4,e5⟩:=R2.lst hn2 (G2 (n,d) (by simp));exact⟨ys,SqL.of e4,e5⟩
  .cases hm
 .next ns=>
  cases hm;refine h ρ U H hd ls _ _ _ hR hL e1 λρ1 H1 v x1 R1 r1=>?_;simp only[RD]at r1;obtain⟨a,rfl,q⟩:=r1;exact hQ ρ1 H1 a x1 R1 (Ah _) λρ2 H2 hd2 x2 R2 _=>⟨_,(q.grow (x2.grow R1)).sq,Gn⟩
 .cases hm
def ZV(h:RN K t m):RRw K false t (FA m):=by
 intro ρ U H hd ls Q d g hd' hR hL hm hQ;obtain⟨⟨d1,h1⟩,e1,e3⟩:=j4 hm;cases e3;refine h ρ U H hd ls _ _ _ hR hL e1 λρ1 H1 a xs x1 R1 na oa ea r1=>?_;exact hQ ρ1 H1 a x1 R1 (Ah _) λρ2 H2 hd2 x2 R2 _=>⟨xs,SqL.of (x2.keep a _ ea oa nt),r1.ext R1 x2⟩
open Classical in
def Kc(ma mb:MI):MI:=λls hd=>(ma ls hd).bind λp=>(mb ls p.2).bind λq=>if GOk q.2 p.1.2 then some ((List.zipWith (λx y=>AT [x,y]) p.1.1 q.1.1,p.1.2++q.1.2),q.2)else none
def Zf{t1 t2:Bool}(ha:RRw K t1 ta ma)(hb:RRw K t2 tb mb):RIt K (QP K t1 t2 (Aq ta (Aq tb BS))) (Kc ma mb):=by
 intro ρ U H hd ls Q d g hd' hR hL hm hQ;obtain⟨⟨⟨d1,g1⟩,h1⟩,e1,hm⟩:=gV hm;obtain⟨⟨⟨d2,g2⟩,h2⟩,e2,hm⟩:=gV hm;dsimp only at hm;split at hm
 .next gk=>
  cases hm;refine ha ρ U H hd ls _ d1 g1 h1 hR hL e1 λρ1 H1 a x1 R1 G1 S1=>?_;refine hb ρ1 U H1 h1 ls _ d2 g2 _ R1 (hL.ext hR x1) e2 λρ2 H2 b x2 R2 G2 S2=>?_;obtain⟨xs,c1,r1⟩:=S1 ρ2 H2 _ x2 R2 gk;obtain⟨ys,c2,r2⟩:=S2 ρ2 H2 _ .refl R2 G2;refine⟨a,b,xs,ys,rfl,c1,c2,hQ ρ2 H2 _ (x1.trans R1 x2) R2 (λp hp=>(mem_append.mp hp).elim (gk p) (G2 p)) ?_⟩;intro ρ3 H3 hd3 x3 R3 G3 i;obtain⟨xs,c1,r1⟩:=S1 ρ3 H3 _ (x2.trans R2 x3) R3 λp hp=>G3 p (jU _ hp);obtain⟨ys,c2,r2⟩:=S2 ρ3 H3 _ x3 R3 λp hp=>G3 p (je _ hp);have l1:=r1.len;have l2:=r2.len;refine⟨λhi=>?_,λhi=>⟨xs,ys,c1,c2,?_⟩⟩
  .simp only[List.length_zipWith]at hi;have i1:d1[i]?=some (d1[i]'(by omega)):=List.getElem?_eq_getElem _;have i2:d2[i]?=some (d2[i]'(by omega)):=List.getElem?_eq_getElem _;obtain⟨x,x4,x5⟩:=r1.get i1;obtain⟨y,y4,y5⟩:=r2.get i2;refine⟨⟨xs,ys,x,y,c1,c2,x4,y4⟩,λz H4 hz=>?_⟩;obtain⟨p,u,v,fp,rfl,rfl,hu,hv⟩:=hz;have eu:=hu xs c1;rw[x4]at eu;cases eu;have ev:=hv ys c2;rw[y4]at ev;cases ev;obtain⟨R4,x6⟩:=R3.hid (ho:=.tup [x,y]) fp;refine⟨ρ3,AT [d1[i]'(by omega),d2[i]'(by omega)],x6,rfl,R4,?_,BV (SqT.of AJ) (.cons (x5.ext R3 x6) (.cons (y5.ext R3 x6) .nil))⟩;simp[List.getElem?_zipWith,i1,i2]
  .simp only[List.length_zipWith]at hi;omega
 .cases hm
end
section
variable(K:Frag)
def S7(h:QE K X e te me):QR K true X e te (BY me):=⟨h.p,ZU h.r⟩
def XW(h:QE K X e te me):QR K false X e te (E9 me):=⟨h.p,Wh h.r⟩
def aL(h:QN K X e te m):QR K false X e te (FA m):=⟨h.p,ZV h.r⟩
def aP{t1 t2:Bool}{elts:List Expr}{kk:Nat}{tpos p pos:Pos}(hm:X.mg "zip"=none)(ha:QR K t1 X a ta ma)(hb:QR K t2 X b tb mb)(hg:Gl X "zip":=by rfl)(hK:X.K=K:=by rfl)(hs:starEach [a,b] X.env=[(false,eval a X.env),(false,eval b X.env)]:=by rfl)(hs2:starEach [b] X.env=[(false,eval b X.env)]:=by rfl):
 QI K X (.Tuple elts kk tpos) (.Call (.Name "zip" p) [a,b] [] pos) (QP K t1 t2 (Aq ta (Aq tb BS))) (Kc ma mb):=⟨Y3 K hg hm (B6 ha.p (B6 hb.p C7 hs2) (by rw[hs,hs2])) hK hs hs2,Zf ha.r hb.r⟩
end
section
variable{K:Frag}
def EU(ml:MA)(mb:ME):ME:=λls hd=>(ml ls hd).bind λp=>(mb ls p.2).bind λq=>match q.1 with
 |.im (.int i)=>(atI p.1 i).map (·,q.2)
 |_=>none
def Zq(ha:RN K ta ml)(hb:RE K tb mb):RE K (tOp (M1 K) ta tb) (EU ml mb):=by
 and_intros;obtain⟨⟨d1,h1⟩,e1,hm⟩:=gV hm;obtain⟨⟨d2,h2⟩,e2,hm⟩:=gV hm;dsimp only at hm;split at hm
 .obtain⟨w,e3,e4⟩:=j4 hm;cases e4;refine ha ρ U H hd ls _ d1 h1 hR hL e1 λρ1 H1 a xs x1 R1 na oa ea r1=>?_;refine hb ρ1 U H1 h1 ls _ _ _ R1 (hL.ext hR x1) e2 λρ2 H2 v2 x2 R2 r2=>?_;simp only[RD,RI]at r2;subst r2;have r1':=r1.ext R1 x2;obtain⟨j,j1,j2⟩:=P9 r1'.len e3;obtain⟨x,y1,y2⟩:=r1'.get j1;exact .inl ⟨a,xs,_,x,rfl,rfl,SqL.of (x2.keep a _ ea oa nt),j2 x y1,hQ ρ2 H2 x (x1.trans R1 x2) R2 y2⟩
 .cases hm
def Nf(neg:Bool)(x y:PyData)(hd:Hd):Option (D×Hd):=if x.canLay0=true/\y.canLay0=true/\min x.depth y.depth<=60 then some (.im (.bl (if neg then !PyData.eqv x y else PyData.eqv x y)),hd)else none
def GI(neg:Bool)(ma:ME)(ml:MA):ME:=λls hd=>(ma ls hd).bind λp=>(ml ls p.2).bind λq=>(pyD q.2 p.1).bind λx=>(BN q.1).bind λis=>Nf neg x (.list (I.pys is)) q.2
def rEN(K:Frag)(neg:Bool):R2:=λx y H Q=>∃d e,Rep K H d x/\Rep K H e y/\d.canLay0=true/\e.canLay0=true/\min d.depth e.depth<=60/\Q (.bl (if neg then !PyData.eqv d e else PyData.eqv d e)) H
def Wy(ea:H a=some (.lst xs))(r:RDs K ρ H ds xs)(e:BN ds=some is):Rep K H (.list (I.pys is)) (.ref a):=by
 rw[Ed e]at r;simp only[Rep];exact⟨a,xs,rfl,SqL.of ea,r.is.rep⟩
def X5{neg:Bool}(ha:RE K ta ma)(hb:RN K tb ml):RE K (tOp (rEN K neg) ta tb) (GI neg ma ml):=by
 and_intros;obtain⟨⟨d1,h1⟩,e1,hm⟩:=gV hm;obtain⟨⟨d2,h2⟩,e2,hm⟩:=gV hm;obtain⟨x,e3,hm⟩:=gV hm;obtain⟨is,e4,hm⟩:=gV hm;unfold Nf at hm;split at hm
 .next c=>
  cases hm;refine ha ρ U H hd ls _ d1 h1 hR hL e1 λρ1 H1 v x1 R1 r1=>?_;refine hb ρ1 U H1 h1 ls _ d2 _ R1 (hL.ext hR x1) e2 λρ2 H2 a xs x2 R2 na oa ea r2=>?_;exact⟨_,_,EQ R2 (r1.ext R1 x2) e3,Wy ea r2 e4,c.1,c.2.1,c.2.2,hQ ρ2 H2 _ (x1.trans R1 x2) R2 (by simp[RD,RI])⟩
 .cases hm
end
def bW(K:Frag){X:Cx}(hu:X.A.units+64<cLine)(hK:X.K=K:=by rfl):OpR X (compareOp .NotEq) (rEN K true):=Ka K hu hK
section
variable(K:Frag){e:Expr}{te:TE}{me:ME}{neg:Bool}
def ae(ha:QN K X a ta m)(hb:QE K X b tb mb)(hs:Kq b:=by exact λ_ _=>rfl)(hK:X.K=K:=by rfl):QE K X (.Subscript a b pos) (tOp (M1 K) ta tb) (EU m mb):=⟨Vr ((NP K hK).or (Ov K hK)) ha.p hb.p hs,Zq ha.r hb.r⟩
def XJ(ho:OpR X (compareOp op) (rEN K neg))(ha:QE K X a ta ma)(hb:QN K X b tb m)(hm:behindInMarks op b=false:=by first|exact NB _|rfl):QT K X (.Compare a [op] [b] pos) (Lu (tOp (rEN K neg) ta tb)) (AF (GI neg ma m)):=⟨Og ho ha.p hb.p hm,FW (X5 ha.r hb.r)⟩
end
def Ge(lo:Int):Nat->List V
 |0=>[]
 |n+1=>.int lo::Ge (lo+1) n
theorem Jq{lo:Int}:∀{n:Nat} {us:List Value},us.length=n->(∀(j:Nat) (v:Value),us[j]?=some v->∃t,v=.int (lo+j*1) t)->Vals (Ge lo n) us
 |0,us,h,_=>by
  have:us=[]:=List.length_eq_zero_iff.mp h;subst this;exact .nil
 |n+1,[],h,_=>by simp at h
 |n+1,u::us,h,k=>by
  obtain⟨t,e⟩:=k 0 u rfl;refine .cons ⟨t,by rw[e];simp⟩ (Jq (by simpa using h) λj v q=>?_);obtain⟨t',e'⟩:=k (j+1) v (by simpa using q);exact⟨t',by rw[e'];congr 1;push_cast;omega⟩
section
variable{A:Around}{E:Value->Shared->Prop}{s:Shared}
def OB{Q:List Value->Shared->Prop}{a b c:Int}{n:Nat}(hh:A.handled=none)(hr:IsRange s.heap r a b c t u v)(hsm:Builtin.Range.small a b c=true)(hn:Builtin.Range.rangeSize a b c=n)(hl:n<=2^24)
 (hQ:∀g tk (acc:Array Value),(∀b o,s.heap.get? b=some o->g.get? b=some o)->ItemsOf (λi v=>∃t,v=.int (a+i*c) t) acc n->Q acc.toList { s with heap:=g,toks:=tk }):
 wpAny (model prog w) A (collect (.ref r)) Q E s:=by
 unfold collect;refine j5 (wpAny_runValue (kQ F.entry_proto_collect ?_));rw[Around.under_plainId F.plain_proto_collect _];show wpAny _ A.in1 (newList [] >>= λl=>again (.builtin "list.__iadd__" ⟨[l,.ref r],[]⟩)) _ _ s;refine j5 (jH (j8 ⟨plainId_quiet F.plain_list_iadd _,kQ F.entry_list_iadd ?_⟩));rw[Around.under_plainId F.plain_list_iadd _];show wpAny _ A.in1 (Builtin.List.listExtendWith (.ref s.heap.objs.size) (.ref r) (.ref s.heap.objs.size)) _ _ _;have e0:(s.heap.push { cls:=.type "list",data:=.seq ([]:List Value).toArray }).get? s.heap.objs.size=some { cls:=.type "list",data:=.seq #[] 0 }:=Heap.get?_push_size _ rfl;have fin:∀g tk (acc:Array Value) c',(∀b o,b≠s.heap.objs.size->(s.heap.push { cls:=.type "list",data:=.seq ([]:List Value).toArray }).get? b=some o->g.get? b=some o)->g.get? s.heap.objs.size=some { cls:=.type "list",dict:=none,data:=.seq acc c',slots:=#[] }->ItemsOf (λi v=>∃t,v=.int (a+i*c) t) acc n ->
  wpAny (model prog w) A (load s.heap.objs.size >>= λo=>match o.data with|Data.seq xs epoch=>pure xs.toList|x=>unsupported "internal:collect") Q E { s with heap:=g,toks:=tk }:=λg tk acc c' kp eS it=>
  j5 (wpAny_load eS (j8 (hQ g tk acc (λb o q=>kp b o (jb (Heap.lt_size q)) (Heap.get?_push_of_some _ q)) it)))
 refine jn (wpAny_extend_range (A:=A) (R:=λr s'=>r=.ok (.ret (.ref s.heap.objs.size))/\∃g tk,s'={ s with heap:=g,toks:=tk }/\wpAny (model prog w) A (load s.heap.objs.size >>= λo=>match o.data with|Data.seq xs epoch=>pure xs.toList|x=>unsupported "internal:collect") Q E s')
  (s:={ s with heap:=s.heap.push { cls:=.type "list",data:=.seq ([]:List Value).toArray } }) hh (Heap.get?_push_of_some _ hr) hsm hn hl s.heap.objs.size (.ref s.heap.objs.size) 0 e0 λg tk acc c' kp eS it=>⟨rfl,g,tk,rfl,fin g tk acc c' kp eS it⟩) (λfn s' h=>?_) (λe s' h=>absurd h.1 (by simp))
 cases fn with
 |done f=>
  obtain⟨e,_,_,_,q⟩:=h;cases e;exact q
 |again c'=>exact⟨h.1,jT h.2 λr s'' hr=>by obtain⟨rfl,_,_,_,q⟩:=hr;exact q⟩
end
def Oe:List V->Hp->VK->Prop:=λxs H Q=>∃j:Int,xs=[.int j]/\∀p,H p=none->Q (.ref p) (upd H p (.rng 0 j))
def Od:List V->Hp->VK->Prop:=λxs H Q=>∃i j:Int,xs=[.int i,.int j]/\∀p,H p=none->Q (.ref p) (upd H p (.rng i j))
section
def call_rng1:CallR X (.type "range") Oe:=by
 intro O s U H xs us Q I r h;obtain⟨j,rfl,q⟩:=h;obtain⟨u,rfl,t,rfl⟩:=CU r;exact call_range_1 ⟨.ref s.heap.objs.size,_,I.laid (a:=s.heap.objs.size) (o:=.rng 0 j) (λb o e=>Heap.get?_push_of_some _ e) (j9 _) ⟨_,_,_,Heap.get?_push_size _ rfl⟩,rfl,q _ (I.hok.fresh (j9 _))⟩
def Sx:CallR X (.type "range") Od:=by
 intro O s U H xs us Q I r h;obtain⟨i,j,rfl,q⟩:=h;obtain⟨u,v,rfl,⟨t,rfl⟩,⟨t',rfl⟩⟩:=Lp r;exact call_range_2 ⟨.ref s.heap.objs.size,_,I.laid (a:=s.heap.objs.size) (o:=.rng i j) (λb o e=>Heap.get?_push_of_some _ e) (j9 _) ⟨_,_,_,Heap.get?_push_size _ rfl⟩,rfl,q _ (I.hok.fresh (j9 _))⟩
def dN{lo hi:Int}:Builtin.Range.rangeSize lo hi 1=((hi-lo).toNat:Nat):=by rw[rangeSize_one];split<;>omega
def QJ{lo:Int}{n:Nat}(it:ItemsOf (λi v=>∃t,v=.int (lo+i*1) t) acc n):Vals (Ge lo n) acc.toList:=Jq (by simpa using it.1) λj v q=>it.2 j v (by simpa using q)
end
section
variable{K:Frag}
open Classical in
def Uo(m:MA):MA:=λls hd=>(m ls hd).bind λp=>match p.1 with
 |[.im (.int j)]=>if Vd j then some (Ar 0 j.toNat,p.2)else none
 |[.im (.int i),.im (.int j)]=>if Vc i j then some (Ar i (j-i).toNat,p.2)else none
 |_=>none
def S6:List V->Hp->VK->Prop:=λxs H Q=>Oe xs H Q∨Od xs H Q
def eP(m:MA):ME:=λls hd=>(Uo m ls hd).bind λp=>some (AT p.1,p.2)
def VW(xs:List Int):List Int:=xs.mergeSort (λa b=>decide (a<=b))
def YU(m:MI):MA:=λls hd=>(m ls hd).bind λp=>(BH p.1.1).bind λns=>if ns.length<64 then some ((VW ns).map λi=>.im (.int i),p.2)else none
end
end L2
namespace L2
structure BltA(mg:PySem.Str->Option PySem.Value):Prop where
 list:mg "list"=none
 tuple:mg "tuple"=none
 len:mg "len"=none
 range:mg "range"=none
 repr:mg "repr"=none
 sum:mg "sum"=none
 min:mg "min"=none
 max:mg "max"=none
 abs:mg "abs"=none
 all:mg "all"=none
 any:mg "any"=none
 sorted:mg "sorted"=none
 zip:mg "zip"=none
 isinstance:mg "isinstance"=none
 int:mg "int"=none
 bool:mg "bool"=none
 str:mg "str"=none
 set:mg "set"=none
 enumerate:mg "enumerate"=none
 reversed:mg "reversed"=none
 dict:mg "dict"=none
end L2
namespace L2
open PySem PySem.Spec PyProof.Rows
section
variable{ls:Ls}{hd:Hd}{a b c:MS}{ma mb mc:ME}{ta tb:MT}{m m1 m2:MA}{n:MG}{ns:MGs}{d e:D}
@[simp] theorem cQ:AD a b ls hd=(a ls hd).bind λp=>match p.1 with
 |.nx ls1=>b ls1 p.2
 |f=>some (f,p.2):=rfl
@[simp] theorem gW:AU ls hd=some (.nx ls,hd):=rfl
@[simp] theorem gb:CY ma ls hd=(ma ls hd).bind λp=>some (.nx ls,p.2):=rfl
@[simp] theorem i3:AQ ma ls hd=(ma ls hd).bind λp=>some (.rt p.1,p.2):=rfl
@[simp] theorem gQ:eQ ls hd=some (.rt (.im .non),hd):=rfl
@[simp] theorem fz:bx ls hd=some (.bk ls,hd):=rfl
@[simp] theorem gh:eV ls hd=some (.ct ls,hd):=rfl
@[simp] theorem iA:Aa ta a b ls hd=(ta ls hd).bind λp=>if p.1=true then a ls p.2 else b ls p.2:=rfl
@[simp] theorem Sg:ID ma n ls hd=(ma ls hd).bind λp=>(n p.1 ls p.2).map λls'=>(.nx ls',p.2):=rfl
@[simp] theorem Yn(i:Nat):AO i d ls hd=some (ls.set i (some d)):=rfl
@[simp] theorem gS(k:Nat):Bv k ns d ls hd=(AS d).bind λds=>if ds.length=k then ns ds ls hd else none:=rfl
@[simp] theorem fv(d:D)(ds:List D):Ae n ns (d::ds) ls hd=(n d ls hd).bind λls1=>ns ds ls1 hd:=rfl
@[simp] theorem gU:C8 [] ls hd=some ls:=rfl
@[simp] theorem cR(ix:List Nat):QC ix m ls hd=(m ls hd).bind λp=>if p.1.length=ix.length then some (.nx ((ix.zip p.1).foldl (λl q=>l.set q.1 (some q.2)) ls),p.2)else none:=rfl
@[simp] theorem gR(i j k:Nat):eR i j k m ls hd=QC [k,j,i] (λls hd=>(m ls hd).map λp=>(p.1.reverse,p.2)) ls hd:=rfl
@[simp] theorem Sf(i:Nat):A2 i ls hd=match ls[i]? with
 |some (some d)=>some (d,hd)
 |_=>none:=rfl
@[simp] theorem j3(i:I):mC i ls hd=some (.im i,hd):=rfl
@[simp] theorem iZ(f:D->D->Hd->Option (D×Hd)):mOp f ma mb ls hd=(ma ls hd).bind λp=>(mb ls p.2).bind λq=>f p.1 q.1 q.2:=rfl
@[simp] theorem iG:DY ta tb ls hd=(ta ls hd).bind λp=>if p.1=true then tb ls p.2 else some (false,p.2):=rfl
@[simp] theorem iY:mOr ta tb ls hd=(ta ls hd).bind λp=>if p.1=true then some (true,p.2)else tb ls p.2:=rfl
@[simp] theorem i5:BX ta ls hd=(ta ls hd).bind λp=>some (!p.1,p.2):=rfl
@[simp] theorem cP:BC ma ls hd=(ma ls hd).bind λp=>(EN p.2 p.1).map (·,p.2):=rfl
@[simp] theorem Yl:AF ma ls hd=(ma ls hd).bind λp=>match p.1 with
 |.im (.bl b)=>some (b,p.2)
 |_=>none:=rfl
@[simp] theorem ia:mIf ta ma mb ls hd=(ta ls hd).bind λp=>if p.1=true then ma ls p.2 else mb ls p.2:=rfl
@[simp] theorem gm:DU ma mb ls hd=(AF ma ls hd).bind λp=>if p.1=true then mb ls p.2 else some (.im (.bl false),p.2):=rfl
@[simp] theorem i4:JN ma mb ls hd=(AF ma ls hd).bind λp=>if p.1=true then some (.im (.bl true),p.2)else mb ls p.2:=rfl
@[simp] theorem gT:FP ma ls hd=(AF ma ls hd).bind λp=>some (.im (.bl (!p.1)),p.2):=rfl
@[simp] theorem i6:A7 ls hd=some ([],hd):=rfl
@[simp] theorem gi:A3 ma m ls hd=(ma ls hd).bind λp=>(m ls p.2).bind λq=>some (p.1::q.1,q.2):=rfl
open Classical in
@[simp] theorem hU:Af m ls hd=(m ls hd).bind λp=>if Cq p.1.length then some (AT p.1,p.2)else none:=rfl
open Classical in
@[simp] theorem i8:Co m ls hd=(m ls hd).bind λp=>if Cq p.1.length then some (p.1,p.2)else none:=rfl
@[simp] theorem i7:Bx m ls hd=(m ls hd).bind λp=>some (.mu p.2.length,p.2++[.lst p.1]):=rfl
@[simp] theorem cS:Fv ma ls hd=(ma ls hd).bind λp=>match p.1 with
 |.im (.int i)=>some (.im (.int (-i)),p.2)
 |_=>none:=rfl
@[simp] theorem i9(neg:Bool):Aw neg ma ls hd=(ma ls hd).bind λp=>some (.im (.bl (match p.1 with
 |.im .non=>!neg
 | _=>neg)),p.2):=rfl
@[simp] theorem ic(g:Int->Int->Option I)(i j:Int):fI g (.im (.int i)) (.im (.int j)) hd=(g i j).map (.im ·,hd):=rfl
@[simp] theorem gZ(f g:D->D->Hd->Option (D×Hd)):D5 f g d e hd=match f d e hd with
 |some z=>some z
 |none=>g d e hd:=rfl
@[simp] theorem iD(neg:Bool)(i j:Int):GS neg (.im (.int i)) (.im (.int j)) hd=some (.im (.bl (if neg then !decide (i=j)else decide (i=j))),hd):=by simp[GS,scI,Mb]
@[simp] theorem iC(neg:Bool)(i j:Str):GS neg (.im (.str i)) (.im (.str j)) hd=some (.im (.bl (if neg then !decide (i=j)else decide (i=j))),hd):=by simp[GS,scI,Mb]
@[simp] theorem f6(i:Int):gIx d (.im (.int i)) hd=(Ax hd d).bind λds=>(atI ds i).map (·,hd):=rfl
@[simp] theorem gg:D4 d e hd=(Fd hd d).bind λkvs=>(EX e).bind λk=>(DM kvs k).map (·,hd):=rfl
@[simp] theorem ig(f:List D->Hd->Option (D×Hd)):mCB f m ls hd=(m ls hd).bind λp=>f p.1 p.2:=rfl
@[simp] theorem f7(tp:Bool)(g:List D->Option D):f1 tp g [d] hd=((if tp then Ax hd d else BQ hd d)).bind λds=>(g ds).map (·,hd):=rfl
@[simp] theorem cY(g:List D->Option D):CJ g m ls hd=(m ls hd).bind λp=>(g p.1).map (·,p.2):=rfl
@[simp] theorem eg(f:D->List D->Hd->Option (D×Hd)):mMt f ma m ls hd=(ma ls hd).bind λp=>match BQ p.2 p.1 with
 |some _=>(m ls p.2).bind λq=>f p.1 q.1 q.2
 |none=>none:=rfl
@[simp] theorem gY(i j:Int):HN [.im (.int i),.im (.int j)] hd=some (.im (.int (if j>i then j else i)),hd):=rfl
@[simp] theorem gX(i j:Int):HM [.im (.int i),.im (.int j)] hd=some (.im (.int (if j<i then j else i)),hd):=rfl
@[simp] theorem iH(i:Int):fo [.im (.int i)] hd=some (.im (.int (if i<0 then -i else i)),hd):=rfl
@[simp] theorem cT:EU m ma ls hd=(m ls hd).bind λp=>(ma ls p.2).bind λq=>match q.1 with
 |.im (.int i)=>(atI p.1 i).map (·,q.2)
 |_=>none:=rfl
@[simp] theorem cU:BY ma ls hd=(ma ls hd).bind λp=>(AS p.1).map λds=>((ds,[]),p.2):=rfl
@[simp] theorem cX:FA m ls hd=(m ls hd).map λp=>((p.1,[]),p.2):=rfl
@[simp] theorem cW:E9 ma ls hd=(ma ls hd).bind λp=>match p.1 with
 |.mu n=>match p.2[n]? with
  |some (.lst ds)=>some ((ds,[(n,ds)]),p.2)
  |_=>none
 |.ro ns=>some ((ns.map λn=>.im (.int n),[]),p.2)
 |_=>none:=rfl
open Classical in
@[simp] theorem cV:EV m ls hd=(m ls hd).bind λp=>match p.1 with
 |[.im (.int j)]=>if KS j then some ((Ar 0 j.toNat,[]),p.2)else none
 |_=>none:=rfl
open Classical in
@[simp] theorem Yq:Vz m ls hd=(m ls hd).bind λp=>match p.1 with
 |[.im (.int i),.im (.int j)]=>if Tq i j then some ((Ar i (j-i).toNat,[]),p.2)else none
 |_=>none:=rfl
@[simp] theorem iB(mi:MI):By mi n a ls hd=(mi ls hd).bind λp=>B3 n a p.1.2 p.1.1 ls p.2:=rfl
open Classical in
@[simp] theorem gj(k:Nat)(ix:List Nat)(mi:MI):B9 k ix mi n ta ma ls hd=(mi ls hd).bind λp=>if Cq p.1.1.length then B8 n ta ma p.1.2 p.1.1 (GP k ix ls) p.2 else none:=rfl
@[simp] theorem hJ:Cc ls hd=some (true,hd):=rfl
@[simp] theorem fy(F:List D->Hd->Option (D×Hd)):AX F m ls hd=(m ls hd).bind λp=>F p.1 p.2:=rfl
@[simp] theorem fL:Av ls hd=some (none,hd):=rfl
@[simp] theorem Ym:BK ma ls hd=(ma ls hd).bind λp=>match p.1 with
 |.im (.int i)=>some (some i,p.2)
 |_=>none:=rfl
@[simp] theorem Yp:HE ma ls hd=(ma ls hd).bind λp=>(Ax p.2 p.1).map (·,p.2):=rfl
@[simp] theorem fw:IC m ls hd=m ls hd:=rfl
@[simp] theorem hZ(ml mh:MO1):NI ma ml mh ls hd=(ma ls hd).bind λp=>(ml ls p.2).bind λl=>(mh ls l.2).bind λh=>(BQ h.2 p.1).bind λds=>some (CK ds l.1 h.1,h.2):=rfl
@[simp] theorem hX(ml mh:MO1):fe ma ml mh ls hd=(ma ls hd).bind λp=>(ml ls p.2).bind λl=>(mh ls l.2).bind λh=>(AS p.1).bind λds=>if ¬ (HT.sIx ds.length 0 l.1=0/\HT.sIx ds.length ds.length h.1=ds.length)then some (AT (CK ds l.1 h.1),h.2)else none:=rfl
@[simp] theorem gP:eP m ls hd=(Uo m ls hd).bind λp=>some (AT p.1,p.2):=rfl
open Classical in
@[simp] theorem i0:Uo m ls hd=(m ls hd).bind λp=>match p.1 with
 |[.im (.int j)]=>if Vd j then some (Ar 0 j.toNat,p.2)else none
 |[.im (.int i),.im (.int j)]=>if Vc i j then some (Ar i (j-i).toNat,p.2)else none
 |_=>none:=rfl
@[simp] theorem fJ(mi:MI):YU mi ls hd=(mi ls hd).bind λp=>(BH p.1.1).bind λns=>if ns.length<64 then some ((VW ns).map λi=>.im (.int i),p.2)else none:=rfl
@[simp] theorem gf(ms:List (ME×ME)):M4 ms ls hd=(Ex ms ls hd).bind λp=>if p.1.length<=15 then some (.mu p.2.length,p.2++[.dic (Gk [] p.1)])else none:=rfl
@[simp] theorem fK:Ex [] ls hd=some ([],hd):=rfl
@[simp] theorem fu(r:List (ME×ME)):Ex ((ma,mb)::r) ls hd=(ma ls hd).bind λp=>(mb ls p.2).bind λq=>(Ex r ls q.2).bind λz=>(EX p.1).map λk=>((k,q.1)::z.1,z.2):=rfl
open Classical in
@[simp] theorem gc:GJ ma mb mc ls hd=(mc ls hd).bind λp=>(ma ls p.2).bind λq=>(mb ls q.2).bind λr=>(EX r.1).bind λk=>match q.1 with
 |.mu n=>match r.2[n]? with
  |some (.dic kvs)=>if HL kvs.length then some (.nx ls,r.2.set n (.dic (E8 kvs k p.1)))else none
  |_=>none
 |_=>none:=rfl
@[simp] theorem Yo:Vy ma mb mc ls hd=(mc ls hd).bind λp=>(ma ls p.2).bind λq=>(mb ls q.2).bind λr=>match q.1,r.1 with
 |.mu n,.im (.int i)=>match r.2[n]? with
  |some (.lst ds)=>(ixN ds.length i).map λj=>(.nx ls,r.2.set n (.lst (ds.set j p.1)))
  |_=>none
 |_,_=>none:=rfl
@[simp] theorem gn(is:List I):AS (.im (.tup is))=some (is.map .im):=rfl
@[simp] theorem iM(ds:List D):AS (.tm ds)=some ds:=rfl
@[simp] theorem iO(k:Nat):AS (.mu k)=none:=rfl
@[simp] theorem iN(k:List Int):AS (.ro k)=none:=rfl
@[simp] theorem CV(is:List I):Ax hd (.im (.tup is))=some (is.map .im):=rfl
@[simp] theorem iR(ds:List D):Ax hd (.tm ds)=some ds:=rfl
@[simp] theorem dG(k:Nat):Ax hd (.mu k)=BQ hd (.mu k):=rfl
@[simp] theorem iS(k:List Int):Ax hd (.ro k)=some (k.map λn=>.im (.int n)):=rfl
@[simp] theorem eX(k:Nat):BQ hd (.mu k)=match hd[k]? with
 |some (.lst ds)=>some ds
 |_=>none:=rfl
@[simp] theorem iV(k:List Int):BQ hd (.ro k)=some (k.map λn=>.im (.int n)):=rfl
@[simp] theorem ii(k:Nat):Fd hd (.mu k)=match hd[k]? with
 |some (.dic ds)=>some ds
 |_=>none:=rfl
@[simp] theorem iX(i:Int):EX (.im (.int i))=some (.inl i):=rfl
@[simp] theorem iW(i:Str):EX (.im (.str i))=some (.inr i):=rfl
@[simp] theorem iL:BN []=some []:=rfl
@[simp] theorem il(i:I)(r:List D):BN (.im i::r)=(BN r).map (i::·):=rfl
@[simp] theorem gw:BH []=some []:=rfl
@[simp] theorem gy(i:Int)(r:List D):BH (.im (.int i)::r)=(BH r).map (i::·):=rfl
@[simp] theorem iK:D8 []=some []:=rfl
@[simp] theorem ik(i:Bool)(r:List D):D8 (.im (.bl i)::r)=(D8 r).map (i::·):=rfl
@[simp] theorem Cb(is:List I):AT (is.map .im)=.im (.tup is):=by simp[AT]
@[simp] theorem fG:AT []=.im (.tup []):=rfl
@[simp] theorem Gj(i:I):AT [.im i]=.im (.tup [i]):=rfl
@[simp] theorem gN(i j:I):AT [.im i,.im j]=.im (.tup [i,j]):=rfl
@[simp] theorem gM(i j k:I):AT [.im i,.im j,.im k]=.im (.tup [i,j,k]):=rfl
@[simp] theorem gL(i j k l:I):AT [.im i,.im j,.im k,.im l]=.im (.tup [i,j,k,l]):=rfl
@[simp] theorem iJ(w:Nat)(i:I):clD w (.im i)=true:=by simp[clD]
@[simp] theorem iI(w n:Nat):clD w (.mu n)=decide (n<w):=by simp[clD]
@[simp] theorem gC(w:Nat):BD w []=true:=by simp[BD]
@[simp] theorem Su(w:Nat)(d:D)(ds:List D):BD w (d::ds)=(clD w d&&BD w ds):=by simp[BD]
@[simp] theorem cw{α:Type}(x:α)(r:List α):atI (x::r) 0=some x:=Eb (j:=0) rfl
@[simp] theorem GW{α:Type}(x y:α)(r:List α):atI (x::y::r) 1=some y:=Eb (j:=1) rfl
@[simp] theorem EE{α:Type}(x y z:α)(r:List α):atI (x::y::z::r) 2=some z:=Eb (j:=2) rfl
def Cs{α:Type}{xs:List α}{i:Int}{k:Nat}{x:α}(hi:i=k)(h:xs[k]?=some x):atI xs i=some x:=by subst hi;exact Eb h
@[simp] theorem Bs:Cq 0:=Ai (by decide)
@[simp] theorem BU:Cq 1:=Ai (by decide)
@[simp] theorem DD:Cq 2:=Ai (by decide)
@[simp] theorem Cp:Cq 3:=Ai (by decide)
@[simp] theorem cN:Cq 4:=Ai (by decide)
@[simp] theorem cM:Cq 5:=Ai (by decide)
@[simp] theorem gO:HL 4:=JR (by decide)
open Classical in
@[simp] theorem cZ(k:Nat)(x:D):Du (.mu k) [x] hd=match hd[k]? with
 |some (.lst ds)=>if HL ds.length then some (.im .non,hd.set k (.lst (ds++[x])))else none
 |_=>none:=rfl
def T4{F:List D->Hd->Option (D×Hd)}(h1:m ls hd=some (ds,hd1))(hc:BD 0 ds=true)(hF:F ds []=some (.im i,h2)):AB 0 F m ls hd=some (.im i,hd1):=by
 simp[AB,h1,hc,hF,fin]
def Nu{w:Nat}{F:List D->Hd->Option (D×Hd)}{pre pre' rest:Hd}(hw:pre.length=w)(hw':pre'.length=w)(h1:m ls hd=some (ds,pre++rest))(hc:BD w ds=true)(hp:pre.all (clO w)=true)(hp':pre'.all (clO w)=true)(hF:F ds pre=some (.im i,pre'++g)):AB w F m ls hd=some (.im i,pre'++rest):=by
 subst hw;have e1:(pre++rest).take pre.length=pre:=by simp
 have e2:(pre'++g).take pre.length=pre':=by rw[<- hw'];simp
 simp only[AB,h1,bind_some,e1,hc,hp,hF,fin,e2,hp'];simp
end
open Classical in
def mIn(k:Nat)(n:MG)(c:MT)(m:ME)(g:Gd):List D->Ls->Hd->Option (Ls×Hd)
 |[],ls,hd=>some (ls,hd)
 |d::r,ls,hd=>(n d ls hd).bind λls1=>(c ls1 hd).bind λp=>if p.1=true then(m ls1 p.2).bind λq=>(Du (.mu k) [q.1] q.2).bind λz=>if GOk z.2 g then mIn k n c m g r ls1 z.2 else none else if GOk p.2 g then mIn k n c m g r ls1 p.2 else none
open Classical in
def QD(k:Nat)(n:MG)(c:MT)(mi:MI)(n2:MG)(c2:MT)(m:ME)(g:Gd):List D->Ls->Hd->Option Hd
 |[],ls,hd=>some hd
 |d::r,ls,hd=>(n d ls hd).bind λls1=>(c ls1 hd).bind λp=>if p.1=true then(mi ls1 p.2).bind λq=>(mIn k n2 c2 m q.1.2 q.1.1 ls1 q.2).bind λz=>if GOk z.2 g then QD k n c mi n2 c2 m g r z.1 z.2 else none else if GOk p.2 g then QD k n c mi n2 c2 m g r ls1 p.2 else none
def bw(j:Nat)(ix:List Nat)(mi:MI)(n:MG)(c:MT)(mi2:MI)(n2:MG)(c2:MT)(m:ME):ME:=λls hd=>(mi ls hd).bind λp=>(QD p.2.length n c mi2 n2 c2 m p.1.2 p.1.1 (GP j ix ls) (p.2++[.lst []])).map λh=>(.mu p.2.length,h)
open Classical in
def Ke(ma mb:ME):MA:=λls hd=>(ma ls hd).bind λp=>(mb ls p.2).bind λq=>match p.1,q.1 with
 |.mu i,.mu j=>match q.2[i]?,q.2[j]? with
  |some (.lst xs),some (.lst ys)=>if Cq (xs.length+ys.length)then some (xs++ys,q.2)else none
  |_,_=>none
 |_,_=>none
def Ze{K:Frag}(ha:RE K ta ma)(hb:RE K tb mb):RN K (tOp UA ta tb) (Ke ma mb):=by
 and_intros;obtain⟨⟨d1,h1⟩,e1,hm⟩:=gV hm;obtain⟨⟨d2,h2⟩,e2,hm⟩:=gV hm;dsimp only at hm;split at hm
 .next i j=>
  split at hm
  .next xs ys q1 q2=>
   split at hm
   .next c=>
    cases hm;refine ha ρ U H hd ls _ _ h1 hR hL e1 λρ1 H1 v x1 R1 r1=>?_;refine hb ρ1 U H1 h1 ls _ _ _ R1 (hL.ext hR x1) e2 λρ2 H2 u x2 R2 r2=>?_;have r1':=r1.ext R1 x2;simp only[RD]at r1' r2;obtain⟨a,ka,rfl⟩:=r1';obtain⟨b,kb,rfl⟩:=r2;obtain⟨vs,f1,f2⟩:=R2.lst ka q1;obtain⟨us,f3,f4⟩:=R2.lst kb q2;refine⟨a,b,vs,us,rfl,rfl,f1,f3,by rw[f2.len,f4.len];exact c,λp hp=>?_⟩;obtain⟨R3,x3⟩:=R2.hid (ho:=.lst (vs++us)) hp;have x12:=x1.trans R1 x2;exact hQ ρ2 _ p _ (x12.trans R2 x3) R3 (x12.none hR hp R2) (R2.out hp) AJ ((f2.app f4).ext R2 x3)
   .cases hm
  .cases hm
 .cases hm
def aO(K:Frag)(ha:QE K X a ta ma)(hb:QE K X b tb mb):QN K X (.BinOp a .Add b pos) (tOp UA ta tb) (Ke ma mb):=⟨Vq bc ha.p hb.p,Ze ha.r hb.r⟩
@[simp] theorem fx(j:Nat)(ix:List Nat)(mi mi2:MI)(n n2:MG)(c c2:MT)(m:ME)(ls:Ls)(hd:Hd):bw j ix mi n c mi2 n2 c2 m ls hd=(mi ls hd).bind λp=>(QD p.2.length n c mi2 n2 c2 m p.1.2 p.1.1 (GP j ix ls) (p.2++[.lst []])).map λh=>(.mu p.2.length,h):=rfl
end L2
namespace L2
open PySem PySem.Spec PyProof.Rows PySem.W
section
variable(r:Nat->Int)(n:Nat)
def PWp{α:Type}:KasT α->(α->Prop)->Prop
 |.ret a,Q=>Q a
 |.ask i j k,Q=>i<n/\j<n/\PWp (k (decide (r i<r j))) Q
def kv(p:Array Nat)(i:Nat):Int:=r (p.getD i 0)
def STo(p:Array Nat)(m:Nat):Prop:=∀i j,i<=j->j<m->kv r p i<=kv r p j
def DTo(p:Array Nat)(m:Nat):Prop:=∀i j,i<=j->j<m->kv r p j<=kv r p i
def EqL(p:Array Nat)(m q:Nat):Prop:=∀k,m-(q+1)<=k->k<m->kv r p k=kv r p (m-1)
def PAr(p:Array Nat):Prop:=p.Perm (List.range n).toArray
end
section
variable{r:Nat->Int}{n:Nat}
theorem PWp.bind{α β:Type}{f:α->KasT β}{Q:β->Prop}:∀{t:KasT α},PWp r n t (λa=>PWp r n (f a) Q)->PWp r n (t.bind f) Q
 |.ret _,h=>h
 |.ask i j k,h=>⟨h.1,h.2.1,PWp.bind h.2.2⟩
theorem PWp.mono{α:Type}{Q Q':α->Prop}:∀{t:KasT α},PWp r n t Q->(∀a,Q a->Q' a)->PWp r n t Q'
 |.ret _,h,q=>q _ h
 |.ask i j k,h,q=>⟨h.1,h.2.1,PWp.mono h.2.2 q⟩
theorem PWp.wp{α:Type}{cmp:Nat->Nat->(Bool->Shared->Prop)->Shared->Prop}{P:Shared->Prop}{Q:α->Shared->Prop}(hc:∀i j C s,i<n->j<n->P s->(∀s',P s'->C (decide (r i<r j)) s')->cmp i j C s):∀{t:KasT α} {s:Shared},PWp r n t (λa=>∀s,P s->Q a s)->P s->t.kasWp cmp Q s
 |.ret _,s,h,p=>h s p
 |.ask i j k,s,h,p=>hc i j _ s h.1 h.2.1 p λs' p'=>PWp.wp hc h.2.2 p'
theorem PAr.size(h:PAr n p):p.size=n:=by have:=h.size_eq;simpa using this
def PAr.lt(h:PAr n p){i:Nat}(hi:i<n):p.getD i 0<n:=by
 have hs:=h.size;have hi':i<p.size:=by omega
 have:p[i]∈(List.range n).toArray:=h.mem_iff.mp (Array.getElem_mem hi');have e:p.getD i 0=p[i]:=by simp[Array.getD,hi']
 rw[e];simpa using this
def Jy{p:Array Nat}{i j:Nat}(hj:j<=p.size)(k:Nat):kv r (kas_rev p i j) k=if i<=k/\k<j then kv r p (i+j-1-k)else kv r p k:=by
 unfold kv kas_rev;simp only[Array.getD_eq_getD_getElem?];rw[getElem?_mirror_all hj];split<;>rfl
def PAr.rev(h:PAr n p)(i j:Nat):PAr n (kas_rev p i j):=(mirror_perm _ _ _ _).trans h
def Ot{p:Array Nat}{m q:Nat}(hj:m<=p.size)(hq:q+1<=m)(h:EqL r p m q)(k:Nat):kv r (kas_rev p (m-(q+1)) m) k=kv r p k:=by
 rw[Jy hj];split
 .next c=>rw[h _ (by omega) (by omega),h k c.1 c.2]
 .rfl
theorem Ny(pa:PAr n p):∀(f m:Nat),1<=m->m+f<=n->STo r p m->PWp r n (kas_asc p f m) λm'=>m<=m'/\m'<=m+f/\STo r p m'/\(m'<m+f->kv r p m'<kv r p (m'-1))
 |0,m,h1,hn,hs=>⟨j9 _,j9 _,hs,λh=>by omega⟩
 |f+1,m,h1,hn,hs=>by
  refine⟨pa.lt (by omega),pa.lt (by omega),?_⟩;by_cases c:r (p.getD m 0)<r (p.getD (m-1) 0)
  .rw[jX c];exact⟨j9 _,by omega,hs,λ_=>c⟩
  .rw[jJ c];refine(Ny pa f (m+1) (by omega) (by omega) ?_).mono λm' h=>⟨by omega,by omega,h.2.2.1,λz=>h.2.2.2 (by omega)⟩
   intro i j hij hj;by_cases e:j<m
   .exact hs i j hij e
   .have:j=m:=by omega
    subst this;by_cases e2:i=j
    .subst e2;exact Int.le_refl _
    .have:=hs i (j-1) (by omega) (by omega);have:kv r p (j-1)<=kv r p j:=by unfold kv;omega
     omega
def JW{m:Nat}(h1:1<=m)(h:DTo r p m)(c:kv r p m<=kv r p (m-1)):DTo r p (m+1):=by
 intro i j hij hj;by_cases e:j<m
 .exact h i j hij e
 .have:j=m:=by omega
  subst this;by_cases e2:i=j
  .subst e2;exact Int.le_refl _
  .have:=h i (j-1) (by omega) (by omega);omega
theorem Ik:∀(f:Nat) (p:Array Nat) (m q:Nat),PAr n p->1<=m->q+1<=m->m+f<=n->DTo r p m->EqL r p m q ->
 PWp r n (kas_desc f p m q) λz=>PAr n z.1/\m<=z.2.1/\z.2.1<=m+f/\DTo r z.1 z.2.1/\EqL r z.1 z.2.1 z.2.2/\z.2.2+1<=z.2.1
 |0,p,m,q,pa,h1,hq,hn,hd,he=>⟨pa,j9 _,j9 _,hd,he,hq⟩
 |f+1,p,m,q,pa,h1,hq,hn,hd,he=>by
  refine⟨pa.lt (by omega),pa.lt (by omega),?_⟩;have sz:=pa.size;by_cases c:r (p.getD m 0)<r (p.getD (m-1) 0)
  .rw[jX c];have c':kv r p m<=kv r p (m-1):=by unfold kv;omega
   dsimp only;rw[j6 rfl];by_cases hq0:q>0
   .rw[j6 hq0];have sm:=Ot (r:=r) (p:=p) (m:=m) (q:=q) (by omega) hq he;refine(Ik f _ (m+1) 0 (pa.rev _ _) (by omega) (by omega) (by omega) ?_ ?_).mono λz h=>⟨h.1,by omega,by omega,h.2.2.2⟩
    .have:=JW h1 hd c';intro i j a b;rw[sm,sm];exact this i j a b
    .intro k a b;have:k=m:=by omega
     subst this;rfl
   .rw[j7 hq0];refine(Ik f p (m+1) 0 pa (by omega) (by omega) (by omega) (JW h1 hd c') ?_).mono λz h=>⟨h.1,by omega,by omega,h.2.2.2⟩
    intro k a b;have:k=m:=by omega
    subst this;rfl
  .rw[jJ c];dsimp only;rw[j7 Bool.false_ne_true];refine⟨pa.lt (by omega),pa.lt (by omega),?_⟩;by_cases d:r (p.getD (m-1) 0)<r (p.getD m 0)
   .rw[jX d];exact⟨pa,j9 _,by show m<=m+(f+1);omega,hd,he,hq⟩
   .rw[jJ d];dsimp only;rw[j7 Bool.false_ne_true];have e:kv r p m=kv r p (m-1):=by unfold kv;omega
    refine(Ik f p (m+1) (q+1) pa (by omega) (by omega) (by omega) (JW h1 hd (by omega)) ?_).mono λz h=>⟨h.1,by omega,by omega,h.2.2.2⟩
    intro k a b;by_cases e2:k=m
    .subst e2;rfl
    .have:=he k (by omega) (by omega);have e3:m+1-1=m:=rfl;rw[e3];omega
def Run(z:Nat×Array Nat)(r:Nat->Int)(n:Nat):Prop:=PAr n z.2/\1<=z.1/\z.1<=n/\STo r z.2 z.1
def MP{m:Nat}(pa:PAr n p)(h1:1<=m)(hn:m<=n)(hd:DTo r p m):PWp r n (kas_tail3 m n p) λz=>Run z r n:=by
 have sz:=pa.size;have st:STo r (kas_rev p 0 m) m:=by
  intro i j a b;rw[Jy (by omega),Jy (by omega),j6 ⟨by omega,by omega⟩,j6 ⟨by omega,by omega⟩];exact hd _ _ (by omega) (by omega)
 refine PWp.bind ((Ny (pa.rev 0 m) (n-m) m h1 (by omega) st).mono λm' h=>?_);exact⟨pa.rev 0 m,by show 1<=m';omega,by show m'<=n;omega,h.2.2.1⟩
def Iz{m:Nat}(pa:PAr n p)(hn:m+1<=n)(hd:DTo r p (m+1)):PWp r n (kas_descPart m n p) λz=>Run z r n:=by
 refine PWp.bind ((Ik (n-(m+1)) p (m+1) 0 pa (by omega) (by omega) (by omega) hd ?_).mono λz h=>?_)
 .intro k a b;have:k=m:=by omega
  subst this;rfl
 .obtain⟨a,b,c,d,e,g⟩:=h;have sz:=a.size;by_cases hq:z.2.2>0
  .rw[j6 hq];have sm:=Ot (r:=r) (p:=z.1) (m:=z.2.1) (q:=z.2.2) (by omega) g e;exact MP (a.rev _ _) (by omega) (by omega) λi j x y=>by rw[sm,sm];exact d i j x y
  .rw[j7 hq];exact MP a (by omega) (by omega) d
def VF(h1:1<=n):PWp r n (kas_count n (List.toArray (List.range n))) λz=>Run z r n:=by
 have pa:PAr n (List.range n).toArray:=.refl _;have sz:=pa.size;refine PWp.bind ((Ny pa (n-1) 1 (by omega) (by omega) λi j a b=>?_).mono λm h=>?_)
 .have:i=j:=by omega
  subst this;exact Int.le_refl _
 .obtain⟨a,b,c,d⟩:=h;by_cases e:(m==n)=true
  .rw[j6 e];have:m=n:=by simpa using e
   exact⟨pa,by show 1<=m;omega,by show m<=n;omega,c⟩
  .rw[j7 e];have hne:m≠n:=by simpa using e
   have dd:=d (by omega);by_cases h2:m>1
   .rw[j6 h2];refine⟨pa.lt (by omega),pa.lt (by omega),?_⟩;by_cases g:r ((List.range n).toArray.getD 0 0)<r ((List.range n).toArray.getD (m-1) 0)
    .rw[jX g];exact⟨pa,by show 1<=m;omega,by show m<=n;omega,c⟩
    .rw[jJ g];dsimp only;rw[j7 Bool.false_ne_true];have g':kv r (List.range n).toArray (m-1)<=kv r (List.range n).toArray 0:=by unfold kv;omega
     have eq:∀k,k<m->kv r (List.range n).toArray k=kv r (List.range n).toArray 0:=λk hk=>by
      have x1:=c 0 k (by omega) hk;have x2:=c k (m-1) (by omega) (by omega);omega
     have rv:∀k,kv r (kas_rev (List.range n).toArray 0 m) k=kv r (List.range n).toArray k:=λk=>by
      rw[Jy (by omega)];split
      .next z=>rw[eq _ (by omega),eq k z.2]
      .rfl
     refine Iz (pa.rev 0 m) (by omega) λi j x y=>?_;rw[rv,rv];by_cases z:j<m
     .rw[eq i (by omega),eq j z];exact Int.le_refl _
     .have:j=m:=by omega
      subst this;by_cases z2:i=j
      .subst z2;exact Int.le_refl _
      .rw[eq i (by omega)];have:=eq (j-1) (by omega);omega
   .rw[j7 h2];have:m=1:=by omega
    subst this;refine Iz pa (by omega) λi j x y=>?_;by_cases z:i=j
    .subst z;exact Int.le_refl _
    .have:i=0:=by omega
     have:j=1:=by omega
     subst i j;have:kv r (List.range n).toArray 1<kv r (List.range n).toArray 0:=dd;omega
theorem JG{k:Nat}(pa:PAr n p)(hk:k<n)(hs:STo r p k):∀(f l q:Nat),l<=q->q<=k->q-l<=f->(∀i,i<l->kv r p i<=kv r p k)->(∀i,q<=i->i<k->kv r p k<kv r p i) ->
 PWp r n (kas_place p k f l q) λm=>m<=k/\(∀i,i<m->kv r p i<=kv r p k)/\∀i,m<=i->i<k->kv r p k<kv r p i
 |0,l,q,a,b,c,d,e=>⟨by omega,d,λi x y=>e i (by omega) y⟩
 |f+1,l,q,a,b,c,d,e=>by
  unfold kas_place;by_cases h:l>=q
  .rw[j6 h];exact⟨by omega,d,λi x y=>e i (by omega) y⟩
  .rw[j7 h];refine⟨pa.lt (by omega),pa.lt (by omega),?_⟩;by_cases g:r (p.getD k 0)<r (p.getD ((l+q)/2) 0)
   .rw[jX g];dsimp only;rw[j6 rfl];have g':kv r p k<kv r p ((l+q)/2):=g;refine JG pa hk hs f l ((l+q)/2) (by omega) (by omega) (by omega) d λi x y=>?_;have:=hs ((l+q)/2) i x y;omega
   .rw[jJ g];dsimp only;rw[j7 Bool.false_ne_true];have g':kv r p ((l+q)/2)<=kv r p k:=by unfold kv;omega
    refine JG pa hk hs f ((l+q)/2+1) q (by omega) (by omega) (by omega) (λi x=>?_) e;have:=hs i ((l+q)/2) (by omega) (by omega);omega
def LH{p:Array Nat}{k d:Nat}(hk:k<p.size)(hd:d<=k)(i:Nat):kv r (bubble p k d) i=if i=k-d then kv r p k else if k-d<i/\i<=k then kv r p (i-1)else kv r p i:=by
 unfold kv;simp only[Array.getD_eq_getD_getElem?];rw[getElem?_bubble hk d hd];split
 .rfl
 .split<;>rfl
theorem T5:∀(f:Nat) (p:Array Nat) (k:Nat),PAr n p->k+f=n->STo r p k->PWp r n (kas_bin f p k) λz=>PAr n z/\STo r z n
 | 0,p,k,pa,e,hs=>⟨pa,by
  have:k=n:=by omega
  subst this;exact hs⟩
 |f+1,p,k,pa,e,hs=>by
  have sz:=pa.size;refine PWp.bind ((JG pa (by omega) hs k 0 k (by omega) (by omega) (by omega) (λi h=>by omega) (λi a b=>by omega)).mono λm h=>?_);obtain⟨a,b,c⟩:=h;refine T5 f _ (k+1) ((bubble_perm _ _ _).trans pa) (by omega) λi j x y=>?_;rw[LH (by omega) (by omega),LH (by omega) (by omega)];have ek:k-(k-m)=m:=by omega
  rw[ek]
  repeat' split
  .exact Int.le_refl _
  .exact Int.le_of_lt (c _ (by omega) (by omega))
  .omega
  .exact b _ (by omega)
  .exact hs _ _ (by omega) (by omega)
  .omega
  .exact b _ (by omega)
  .exact hs _ _ (by omega) (by omega)
  .exact hs _ _ (by omega) (by omega)
def OR(h1:1<=n):PWp r n (kas_sort n) λp=>PAr n p/\STo r p n:=by
 refine PWp.bind ((VF h1).mono λz h=>?_);obtain⟨a,b,c,d⟩:=h;by_cases e:z.1<n
 .rw[j6 e];have:max z.1 1=z.1:=by omega
  rw[this];exact T5 _ _ _ a (by omega) d
 .rw[j7 e];have:z.1=n:=by omega
  exact⟨a,this ▸ d⟩
end
def PairAt(h:Heap)(v:Value)(p:Int×Int):Prop:=∃(x:Addr) (o:Obj) (t u:Tok) (k:Nat),v=.ref x/\h.get? x=some o/\o.cls=.type "tuple"/\o.data=.seq #[.int p.1 t,.int p.2 u] k
def Aj(p:Int×Int):Int:=p.1*4000000000+p.2
def pok(p:Int×Int):Prop:=-1000000000<=p.1/\p.1<=1000000000/\-1000000000<=p.2/\p.2<=1000000000
section
variable{E:Value->Shared->Prop}{s:Shared}
def Os{C:Bool->Shared->Prop}(hx:PairAt s.heap x p)(hy:PairAt s.heap y q)(op:pok p)(oq:pok q)(h:C (decide (Aj p<Aj q)) s):
 wpAny (model prog w) A (keyLt' (tuples' true) x y) C E s:=by
 obtain⟨a,o,t,u,k,rfl,ho,hc,hd⟩:=hx;obtain⟨a2,o2,t2,u2,k2,rfl,ho2,hc2,hd2⟩:=hy;obtain⟨p1,p2⟩:=p;obtain⟨q1,q2⟩:=q;unfold pok at op oq;unfold Aj at h;dsimp only at op oq h;refine kat_lt ho hd ho2 hd2 ?_;refine kat_cons (wpAny_eqBool_int ?_);by_cases e1:p1=q1
 .have b1:(p1==q1)=true:=by simp[e1]
  rw[b1];refine kat_yes (kat_cons (wpAny_eqBool_int ?_));by_cases e2:p2=q2
  .have b2:(p2==q2)=true:=by simp[e2]
   rw[b2];refine kat_yes (kat_nil ?_);have:decide (p1*4000000000+p2<q1*4000000000+q2)=false:=jJ (by omega);rw[this]at h;exact h
  .have b2:(p2==q2)=false:=by simp[e2]
   rw[b2];refine kat_no (kat_one _ _ (lt_int ?_));have:decide (p1*4000000000+p2<q1*4000000000+q2)=decide (p2<q2):=decide_eq_decide.mpr (by omega);rw[this]at h;exact h
 .have b1:(p1==q1)=false:=by simp[e1]
  rw[b1];refine kat_no (oneLt_int ?_);have:decide (p1*4000000000+p2<q1*4000000000+q2)=decide (p1<q1):=decide_eq_decide.mpr (by omega);rw[this]at h;exact h
theorem KJ:∀{vs:List Value} {ps:List (Int×Int)},vs.length=ps.length->(∀(i:Nat) (v:Value) (p:Int×Int),vs[i]?=some v->ps[i]?=some p->PairAt h v p)->∃fs,KatTups h vs fs/\fs.length=vs.length/\∀f∈fs,∃i t,f=.int i t
 |[],[],_,_=>⟨[],.nil,rfl,λ_ z=>by cases z⟩
 |v::vs,p::ps,hl,hp=>by
  obtain⟨fs,a,b,c⟩:=KJ (vs:=vs) (ps:=ps) (by simpa using hl) λi v q e1 e2=>hp (i+1) v q (by simpa using e1) (by simpa using e2);obtain⟨x,o,t,u,k,rfl,ho,hc,hd⟩:=hp 0 v p rfl rfl;exact⟨.int p.1 t::fs,.cons ho hc hd rfl a,by simp[b],λf hf=>by
   rcases mem_cons.mp hf with rfl|hf
   .exact⟨_,_,rfl⟩
   .exact c f hf⟩
def Ff(vs:List Value)(ps:List (Int×Int))(out:List Value):Prop:=∃zs:List (Value×(Int×Int)),zs.Perm (vs.zip ps)/\(zs.map λz=>Aj z.2).Pairwise (·<=·)/\out=zs.map (·.1)
def RU{vs:List Value}{ps:List (Int×Int)}(hl:vs.length=ps.length)(pa:PAr vs.length p)(hs:STo (λi=>Aj (ps.getD i (0,0))) p vs.length):Ff vs ps (p.toList.map λi=>vs.getD i Value.none):=by
 have sz:=pa.size;refine⟨p.toList.map λi=>(vs.getD i Value.none,ps.getD i (0,0)),?_,?_,by rw[jh];rfl⟩
 .have e:vs.zip ps=(List.range vs.length).map λi=>(vs.getD i Value.none,ps.getD i (0,0)):=by
   refine ext_getElem? λi=>?_;by_cases hi:i<vs.length
   .have hi2:i<ps.length:=by omega
    rw[(List.getElem?_zip_eq_some (z:=(vs[i],ps[i]))).mpr ⟨by simp[hi],by simp[hi2]⟩];simp[hi,hi2]
   .rw[List.getElem?_eq_none (by simp;omega),List.getElem?_eq_none (by simp;omega)]
  rw[e];have:=Array.perm_iff_toList_perm.mp pa;simpa using this.map _
 .rw[jh,List.pairwise_iff_getElem];intro i j hi hj hij;simp only[jo,Array.length_toList]at hi hj;have:=hs i j (by omega) (by omega);unfold kv at this;simpa [Array.getD,hi,hj]using this
def Ph{vs:List Value}{ps:List (Int×Int)}{n:Nat}{P:PySem.Fin->Shared->Prop}(ho:s.heap.get? a=some (seqObj "list" vs.toArray n))(hl:vs.length=ps.length)(h64:vs.length<64)(hok:∀p∈ps,pok p)
 (hp:∀(i:Nat) (v:Value) (p:Int×Int),vs[i]?=some v->ps[i]?=some p->PairAt (s.heap.update a (Obj.mapSeq λ_=>#[])) v p)
 (h:∀out:List Value,Ff vs ps out->P (.done (.ret .none)) { s with heap:=sortedHeap s.heap a vs out.toArray }):
 wpAny (model prog w) A (Builtin.«list.sort» ⟨[.ref a],[]⟩) P E s:=by
 have ha:=Heap.lt_size ho;have line:vs.length<=sizeLine:=by rw[jw];omega
 obtain⟨e1,ho1⟩:∃e1,(s.heap.update a (Obj.mapSeq λ_=>#[])).get? a=some (seqObj "list" #[] e1):=⟨_,kR ho _⟩
 rw[list_sort_plain];refine j5 (listItems_at ho rfl (j5 (kr ho rfl (j5 (seqEpoch_at ho1 rfl (j5 (wpAny_newTuple (j5 (kT (jD ?_) (jA _))) line)))) (by rw[jd];exact line) (jA _))));have grow:∀b o,(s.heap.update a (Obj.mapSeq λ_=>#[])).get? b=some o->(((s.heap.update a (Obj.mapSeq λ_=>#[])).push (seqObj "tuple" vs.toArray 0)).push (seqObj "list" #[] 0)).get? b=some o:=λb o e=>Heap.get?_push_of_some _ (Heap.get?_push_of_some _ e);have ho6:=grow _ _ ho1;generalize h6:((s.heap.update a (Obj.mapSeq λ_=>#[])).push (seqObj "tuple" vs.toArray 0)).push (seqObj "list" #[] 0)=hp6 at *;have done:∀out:List Value,Ff vs ps out->P (.done (.ret .none)) { s with heap:=hp6.update a (Obj.mapSeq λ_=>out.toArray) }:=λout z=>by
  have:=h out z;unfold sortedHeap at this;rw[h6]at this;exact this
 show wpAny (model prog w) A _ P E { s with heap:=hp6 };dsimp only;have pairs6:∀(i:Nat) (v:Value) (p:Int×Int),vs[i]?=some v->ps[i]?=some p->PairAt hp6 v p:=λi v p x y=>by
  obtain⟨x',o,t,u,k,e,q,c,d⟩:=hp i v p x y;exact⟨x',o,t,u,k,e,grow _ _ q,c,d⟩
 by_cases h2:vs.toArray.size<2
 .rw[j6 h2,j6 h2];refine j5 (j8 ?_);rw[StateT.run_pure];refine j5 (j8 ?_);dsimp only;have hout:(arrOf (SortSt.mk' general' (vs.toArray.zip vs.toArray) #[] 7 none)).map (·.2)=vs.toArray:=by
   show(vs.toArray.zip vs.toArray).map (·.2)=vs.toArray;apply Array.toList_inj.mp;simp only[Array.toList_map,Array.toList_zip];exact map_snd_zip (j9 _)
  rw[hout];refine j5 (seqEpoch_at ho6 rfl (j5 (kr ho6 rfl ?_ (jA _) (by rw[jd];omega))));simp only[bne_self_eq_false,Bool.false_eq_true,km];refine j8 (done vs ⟨vs.zip ps,.refl _,?_,?_⟩)
  .have hz:(vs.zip ps).length<2:=by simp at h2 ⊢;omega
   cases hh:vs.zip ps with
   |nil=>exact .nil
   |cons z r=>
    cases r with
    |nil=>exact List.pairwise_singleton _ _
    |cons y t=>rw[hh]at hz;exact absurd hz (by simp)
  .rw[List.map_fst_zip (by omega)]
 .rw[j7 h2,j7 h2];have h2':2<=vs.length:=by simp at h2;omega
  obtain⟨fs,t1,t2,t3⟩:=KJ hl pairs6;have tT:∀f∈fs,Looks (model prog w) hp6 (typeOf f) (Value.type "int"):=λf hf=>by
   obtain⟨i,t,rfl⟩:=t3 f hf;exact .of_pure rfl
  refine j5 (kat_kind (s:={ s with heap:=hp6 }) t1 (by omega) tT rfl ?_);have est:SortSt.mk' (tuples' true) (vs.toArray.zip vs.toArray) #[] 7 none=kas_st (tuples' true) (pairsOf vs) (List.toArray (List.range vs.length)):=by
   unfold kas_st;rw[<- pairsOf_size vs,kas_range];rfl
  have ask:(kas_sort vs.length).kasWp (kas_cmp prog w A (tuples' true) (pairsOf vs)) (λp s'=>s'={ s with heap:=hp6 }/\Ff vs ps (p.toList.map λi=>vs.getD i Value.none)) { s with heap:=hp6 }:=by
   rw[<- kas_ask_eq];refine PWp.wp (n:=vs.length) (r:=λi=>Aj (ps.getD i (0,0))) (P:=λs'=>s'={ s with heap:=hp6 }) (λi j C s' hi hj e hC=>?_) ((OR (by omega)).mono λp z s' e=>⟨e,RU hl z.1 z.2⟩) rfl;subst e;have pi:ps[i]?=some (ps.getD i (0,0)):=by simp[show i<ps.length by omega]
   have pj:ps[j]?=some (ps.getD j (0,0)):=by simp[show j<ps.length by omega]
   have vi:vs[i]?=some (vs.getD i Value.none):=by simp[hi]
   have vj:vs[j]?=some (vs.getD j Value.none):=by simp[hj]
   exact Os (s:={ s with heap:=hp6 }) (pairs6 i _ _ vi pi) (pairs6 j _ _ vj pj) (hok _ (jq pi)) (hok _ (jq pj)) (hC _ rfl)
  have run:=kas_runs (E:=E) (Q:=λ_ st' s'=>∃p:Array Nat,p.size=vs.length/\arrOf st'=p.map (kas_item (pairsOf vs))/\failedOf st'=none/\s'={ s with heap:=hp6 }/\Ff vs ps (p.toList.map λi=>vs.getD i Value.none)) h2' h64 (λp st' s' x1 x2 x3 x4=>⟨p,x1,x2,x3,x4⟩) ask;rw[<- est]at run;refine j5 (jn run ?_ λ_ _ e=>e);rintro⟨⟨⟩,st'⟩ s' ⟨p,hsz,har,hf,rfl,so⟩;dsimp only;have hout:(arrOf st').map (·.2)=(p.toList.map λi=>vs.getD i Value.none).toArray:=by
   rw[har];apply Array.toList_inj.mp;simp only[Array.toList_map,jh];exact kx λi _=>jy Prod.snd (kas_item_eq vs i)
  rw[hout];refine j5 (seqEpoch_at ho6 rfl (j5 (kr ho6 rfl ?_ (jA _) (by simp[hsz];omega))));rw[hf];simp only[bne_self_eq_false,Bool.false_eq_true,km];exact j8 (done _ so)
end
def PairAt.keep{h h':Heap}(k:∀b o,h.get? b=some o->h'.get? b=some o)(q:PairAt h v p):PairAt h' v p:=by
 obtain⟨x,o,t,u,n,e,ho,c,d⟩:=q;exact⟨x,o,t,u,n,e,k _ _ ho,c,d⟩
section
variable{E:Value->Shared->Prop}{s:Shared}
def MY{vs:List Value}{ps:List (Int×Int)}{Q:Value->Shared->Prop}(hl:s.heap.IsList l vs.toArray)(hlen:vs.length=ps.length)(h64:vs.length<64)(hok:∀p∈ps,pok p)
 (hp:∀(i:Nat) (v:Value) (p:Int×Int),vs[i]?=some v->ps[i]?=some p->PairAt s.heap v p)
 (h:∀out:List Value,Ff vs ps out->Q (.ref (s.heap.objs.size+1)) { s with heap:=sortedAll s.heap vs out.toArray }):
 wpAny (model prog w) A (call (.builtin "sorted") [.ref l]) Q E s:=by
 have line:vs.length<=sizeLine:=by rw[jw];omega
 refine Calls.call_function_entry kind_sorted plain_sorted entry_sorted (args_sorted1 _) ?_;unfold Builtin.«sorted»;refine j5 (m:=checkCount "sorted" 1 1 _) (j8 (j5 (collect_list hl (j5 (kT ?_ line)) line)));have sz:((s.heap.push (seqObj "list" #[] 0)).update s.heap.objs.size (Obj.mapSeq (·++vs.toArray))).objs.size=s.heap.objs.size+1:=by rw[Heap.size_update,size_push']
 have at1:(((s.heap.push (seqObj "list" #[] 0)).update s.heap.objs.size (Obj.mapSeq (·++vs.toArray))).push (seqObj "list" vs.toArray 0)).get? (s.heap.objs.size+1)=some (seqObj "list" vs.toArray 0):=by
  have:=Heap.get?_push_size ((s.heap.push (seqObj "list" #[] 0)).update s.heap.objs.size (Obj.mapSeq (·++vs.toArray))) (o:=seqObj "list" vs.toArray 0) rfl
  rwa [sz]at this
 have old:∀b o,s.heap.get? b=some o->((((s.heap.push (seqObj "list" #[] 0)).update s.heap.objs.size (Obj.mapSeq (·++vs.toArray))).push (seqObj "list" vs.toArray 0)).update (s.heap.objs.size+1) (Obj.mapSeq λ_=>#[])).get? b=some o:=λb o e=>by
  have lt:=Heap.lt_size e;rw[Heap.get?_update_ne _ _ _ _ (jb (k9 lt)),Heap.get?_push_ne _ _ _ (by rw[sz];exact jb (k9 lt)),Heap.get?_update_ne _ _ _ _ (jb lt),Heap.get?_push_ne _ _ _ (jb lt)];exact e
 show wpAny _ _ _ _ _ { s with heap:=((s.heap.push (seqObj "list" #[] 0)).update s.heap.objs.size (Obj.mapSeq (·++vs.toArray))).push (seqObj "list" vs.toArray 0) };rw[sz];refine j5 (jD (ko slot_list_sort ⟨_,at1,rfl⟩ entry_list_sort (Ph at1 hlen h64 hok (λi v p a b=>(hp i v p a b).keep old) λout z=>⟨_,rfl,?_⟩) (args_list_sort _)));exact j8 ⟨_,rfl,h out z⟩
end
section
variable(K:Frag){X:Cx}
def JF:List V->Hp->VK->Prop:=λxs H Q=>∃(a:Addr) (us:List V) (ps:List (Int×Int)),xs=[.ref a]/\SqL K H a us/\us.length=ps.length/\us.length<64/\(∀q∈ps,pok q)/\
 (∀(i:Nat) (u:V) (q:Int×Int),us[i]?=some u->ps[i]?=some q->∃x,u=.ref x/\SqT K H x [.int q.1,.int q.2])/\
 ∀(p:Addr) (zs:List (V×(Int×Int))),H p=none->zs.Perm (us.zip ps)->(zs.map λz=>Aj z.2).Pairwise (·<=·)->Q (.ref p) (upd H p (.lst (zs.map (·.1))))
def HA:Value->V
 |.ref x=>.ref x
 |_=>.non
theorem JA:∀{us:List V} {its:List Value} {i:Nat} {u:V},Vals us its->us[i]?=some u->∃v,its[i]?=some v/\RelV u v
 |_,_,_,_,.nil,h=>by simp at h
 |_::_,_::_,0,_,.cons r _,h=>by
  simp at h;subst h;exact⟨_,rfl,r⟩
 |_::_,_::_,i+1,_,.cons _ t,h=>JA (i:=i) t (by simpa using h)
def No(hK:X.K=K:=by rfl):CallR X (.builtin "sorted") (JF K):=by
 subst hK;intro O s U H xs us0 Q I r h;obtain⟨a,us,ps,rfl,hq,hlen,h64,hok,hpr,q⟩:=h;obtain⟨u,rfl,ru⟩:=CU r;cases ru;obtain⟨its,rv,p,hz⟩:=I.list hq;have hl2:us.length=its.length:=rv.length;have point:∀(i:Nat) (v:Value) (q:Int×Int),its[i]?=some v->ps[i]?=some q->(∃x,us[i]?=some (.ref x)/\v=.ref x)/\PairAt s.heap v q:=by
  intro i v q e1 e2;have hi:i<us.length:=by rw[hl2];exact(List.getElem?_eq_some_iff.mp e1).1
  have eu:us[i]?=some us[i]:=by simp[hi]
  obtain⟨x,ex,sq⟩:=hpr i _ q eu e2;obtain⟨v',ev,rel⟩:=JA rv eu;rw[e1]at ev;cases ev;rw[ex]at rel eu;have rel:v=Value.ref x:=rel;subst rel;refine⟨⟨x,eu,rfl⟩,?_⟩;obtain⟨jts,rj,⟨o,ho,hc,n,hd⟩,_⟩:=I.tuple sq;cases rj with
  |cons r1 t1=>
   cases t1 with
   |cons r2 t2=>
    cases t2;obtain⟨t,rfl⟩:=r1;obtain⟨t',rfl⟩:=r2;exact⟨x,o,t,t',n,rfl,ho,hc,hd⟩
 refine MY (ps:=ps) p.isList (by omega) (by omega) hok (λi v q a b=>(point i v q a b).2) λout z=>?_;obtain⟨zs,pm,pw,rfl⟩:=z;obtain⟨e,he⟩:=sortedAll_at s.heap its (zs.map (·.1)).toArray;have mz:∀z∈zs,∃x,z.1=.ref x:=λz hz=>by
  have:=pm.mem_iff.mp hz;obtain⟨i,hi⟩:=mem_iff_getElem?.mp this;obtain⟨e1,e2⟩:=List.getElem?_zip_eq_some.mp hi;obtain⟨⟨x,_,ex⟩,_⟩:=point i _ _ e1 e2;exact⟨x,ex⟩
 have vz:∀{zs:List (Value×(Int×Int))},(∀z∈zs,∃x,z.1=.ref x)->Vals (zs.map λz=>HA z.1) (zs.map (·.1)):=by
  intro zs
  induction zs with
  |nil=>intro _;exact .nil
  |cons z r ih=>
   intro h;obtain⟨x,ex⟩:=h z jt;refine .cons ?_ (ih λy hy=>h y (jm _ hy));show RelV (HA z.1) z.1;rw[ex];rfl
 have pm2:(zs.map λz=>(HA z.1,z.2)).Perm (us.zip ps):=by
  have:=pm.map λz:Value×(Int×Int)=>(HA z.1,z.2)
  have e:((its.zip ps).map λz:Value×(Int×Int)=>(HA z.1,z.2))=us.zip ps:=by
   refine ext_getElem? λi=>?_;by_cases hi:i<us.length
   .have h1:i<its.length:=by omega
    have h2:i<ps.length:=by omega
    have e1:its[i]?=some its[i]:=by simp[h1]
    have e2:ps[i]?=some ps[i]:=by simp[h2]
    obtain⟨⟨x,ex,ev⟩,_⟩:=point i _ _ e1 e2;rw[List.getElem?_map,(List.getElem?_zip_eq_some (z:=(its[i],ps[i]))).mpr ⟨e1,e2⟩,(List.getElem?_zip_eq_some (z:=(V.ref x,ps[i]))).mpr ⟨ex,e2⟩,jx,ev];rfl
   .rw[List.getElem?_eq_none (by simp;omega),List.getElem?_eq_none (by simp;omega)]
  rwa [e]at this
 have pw2:((zs.map λz=>(HA z.1,z.2)).map λz:V×(Int×Int)=>Aj z.2).Pairwise (·<=·):=by rw[jh];exact pw
 have fin:=q (s.heap.objs.size+1) _ (I.hok.fresh (le_succ _)) pm2 pw2;have em:(zs.map λz=>(HA z.1,z.2)).map (·.1)=zs.map λz=>HA z.1:=by rw[jh];rfl
 rw[em]at fin;have zl:zs.length<64:=by rw[pm.length_eq];simp;omega
 refine⟨.ref (s.heap.objs.size+1),_,I.laid (a:=s.heap.objs.size+1) (o:=.lst (zs.map λz=>HA z.1)) (t':=s.toks) (λb o hb=>sortedAll_old hb) (le_succ _) ⟨?_,_,e,vz mz,he⟩,rfl,fin⟩;rw[jo];exact jR (RV (by omega))
end
def BG(p:Int×Int):D:=.im (.tup [.int p.1,.int p.2])
def DZ:List D->Option (List (Int×Int))
 |[]=>some []
 |.im (.tup [.int a,.int b])::r=>(DZ r).map ((a,b)::·)
 |_=>none
def IA:∀{ds:List D} {ps:List (Int×Int)},DZ ds=some ps->ds=ps.map BG:=by
 intro ds
 induction ds with
 |nil=>intro ps h;simp[DZ]at h;subst h;rfl
 |cons d r ih=>
  intro ps h;unfold DZ at h;split at h
  .next e=>cases e
  .next a b r' e=>
   cases e;obtain⟨qs,e1,rfl⟩:=j4 h;rw[ih e1];rfl
  .cases h
@[simp] theorem Jt(ps:List (Int×Int)):DZ (ps.map BG)=some ps:=by
 induction ps with
 |nil=>rfl
 |cons p r ih=>simp[DZ,BG]at ih ⊢;exact ih
def Dg(ps:List (Int×Int)):List (Int×Int):=ps.mergeSort λa b=>decide (Aj a<=Aj b)
def Jh(ps:List (Int×Int)):(Dg ps).Perm ps:=kF ..
def MZ(ps:List (Int×Int)):(Dg ps).Pairwise λa b=>Aj a<=Aj b:=by
 have:=List.pairwise_mergeSort (le:=λa b:Int×Int=>decide (Aj a<=Aj b)) (by intro a b c h1 h2;simp at *;omega) (by intro a b;simp;omega) ps;exact this.imp (by simp)
def UV(a:pok p)(b:pok q)(h:Aj p=Aj q):p=q:=by
 unfold pok at a b;unfold Aj at h;exact Prod.ext (by omega) (by omega)
open Classical in
def Dp(m:MI):MA:=λls hd=>(m ls hd).bind λp=>(DZ p.1.1).bind λps=>if ps.length<64/\∀q∈ps,pok q then some ((Dg ps).map BG,p.2)else none
section
variable{K:Frag}
def Oa(h:RD K ρ H (BG p) v):∃x,v=.ref x/\SqT K H x [.int p.1,.int p.2]:=by
 simp only[BG,RD,RI,RIs]at h;obtain⟨a,xs,rfl,q,x,r,rfl,rfl,y,r2,rfl,rfl,rfl⟩:=h;exact⟨a,rfl,q⟩
def Pp(h:RRw K false t m):RN K (tCB (JF K) (Aq t BS)) (Dp m):=by
 and_intros;obtain⟨⟨⟨d1,g1⟩,h1⟩,e1,hm⟩:=gV hm;obtain⟨ps,e2,hm⟩:=gV hm;split at hm
 .next c=>
  cases hm;refine h ρ U H hd ls _ d1 g1 _ hR hL e1 λρ1 H1 a x1 R1 G1 S1=>?_;obtain⟨xs,q,r⟩:=S1 ρ1 H1 _ .refl R1 G1;have e2:DZ d1=some ps:=e2;rw[IA e2]at r;have hl:xs.length=ps.length:=by simpa using r.len
  have each:∀(i:Nat) (u:V) (q:Int×Int),xs[i]?=some u->ps[i]?=some q->RD K ρ1 H1 (BG q) u:=λi u q a b=>by
   obtain⟨x,e,z⟩:=r.get (i:=i) (d:=BG q) (by simp[b]);rw[a]at e;cases e;exact z
  refine⟨a,xs,ps,rfl,q,hl,by rw[hl];exact c.1,c.2,λi u q a b=>Oa (each i u q a b),λp zs hp pm pw=>?_⟩;have es:zs.map (·.2)=Dg ps:=by
   have pp:(zs.map (·.2)).Perm ps:=by
    have:=pm.map (λz:V×(Int×Int)=>z.2)
    rwa [map_snd_zip (by omega)]at this
   refine(pp.trans (Jh ps).symm).eq_of_pairwise (le:=λa b=>Aj a<=Aj b) (λx y hx hy l1 l2=>UV (c.2 _ (pp.mem_iff.mp hx)) (c.2 _ ((Jh ps).mem_iff.mp hy)) (Int.le_antisymm l1 l2)) ?_ (MZ ps);rw[jZ]at pw ⊢;exact pw
  obtain⟨R2,x2⟩:=R1.hid (ho:=.lst (zs.map (·.1))) hp;have all:∀z∈zs,RD K ρ1 H1 (BG z.2) z.1:=λz hz=>by
   obtain⟨i,hi⟩:=mem_iff_getElem?.mp (pm.mem_iff.mp hz);obtain⟨a1,a2⟩:=List.getElem?_zip_eq_some.mp hi;exact each i _ _ a1 a2
  have rd:∀{zs:List (V×(Int×Int))},(∀z∈zs,RD K ρ1 H1 (BG z.2) z.1)->RDs K ρ1 H1 ((zs.map (·.2)).map BG) (zs.map (·.1)):=by
   intro zs
   induction zs with
   |nil=>intro _;exact .nil
   |cons z r ih=>intro h;exact .cons (h z jt) (ih λy hy=>h y (jm _ hy))
  have rz:=rd all;rw[es]at rz;exact hQ ρ1 _ p _ (x1.trans R1 x2) R2 (x1.none hR hp R1) (R1.out hp) AJ (rz.ext R1 x2)
 .cases hm
open Classical in
def cO:D->List D->Hd->Option (D×Hd)
 |.mu n,[.im (.int i)],hd=>match hd[n]? with
  |some (.lst ds)=>if KS i then(ixN ds.length i).bind λk=>(ds[k]?).map λy=>(y,hd.set n (.lst (ds.eraseIdx k)))else none
  |_=>none
 |_,_,_=>none
end
section
variable(K:Frag){X:Cx}
def Px(hm:X.mg "sorted"=none)(ha:QR K false X e te mi)(hg:Gl X "sorted":=by rfl)(he:starEach [e] X.env=[(false,eval e X.env)]:=by rfl)(hK:X.K=K:=by rfl):QN K X (.Call (.Name "sorted" p) [e] [] pos) (tCB (JF K) (Aq te BS)) (Dp mi):=
 ⟨ER (No K hK) hg hm LS (B6 ha.p C7 he) (by decide) (by decide) he rfl,Pp ha.r⟩
end
section
open Classical in
@[simp] theorem fq(k:Nat)(i:Int):cO (.mu k) [.im (.int i)] hd=match hd[k]? with
 |some (.lst ds)=>if KS i then(ixN ds.length i).bind λj=>(ds[j]?).map λy=>(y,hd.set k (.lst (ds.eraseIdx j)))else none
 |_=>none:=rfl
open Classical in
@[simp] theorem ef(mi:MI):Dp mi ls hd=(mi ls hd).bind λp=>(DZ p.1.1).bind λps=>if ps.length<64/\∀q∈ps,pok q then some ((Dg ps).map BG,p.2)else none:=rfl
end
end L2
namespace L2
open PySem PySem.Spec PyProof.Rows
def WP{α:Type}(o:Option (α×Hd))(Q:α->Hd->Prop):Prop:=∃z h,o=some (z,h)/\Q z h
abbrev WS(m:MS)(ls:Ls)(hd:Hd)(Q:Fl->Hd->Prop):Prop:=WP (m ls hd) Q
abbrev WE(m:ME)(ls:Ls)(hd:Hd)(Q:D->Hd->Prop):Prop:=WP (m ls hd) Q
abbrev WT(m:MT)(ls:Ls)(hd:Hd)(Q:Bool->Hd->Prop):Prop:=WP (m ls hd) Q
abbrev WA(m:MA)(ls:Ls)(hd:Hd)(Q:List D->Hd->Prop):Prop:=WP (m ls hd) Q
abbrev WO(m:MO1)(ls:Ls)(hd:Hd)(Q:Option Int->Hd->Prop):Prop:=WP (m ls hd) Q
abbrev WI(m:MI)(ls:Ls)(hd:Hd)(Q:List D×Gd->Hd->Prop):Prop:=WP (m ls hd) Q
abbrev WF(F:List D->Hd->Option (D×Hd))(ds:List D)(hd:Hd)(Q:D->Hd->Prop):Prop:=WP (F ds hd) Q
section
variable{α β:Type}{Q:α->Hd->Prop}{R:β->Hd->Prop}
theorem WP.some{z:α}(q:Q z h):WP (some (z,h)) Q:=⟨z,h,rfl,q⟩
def WP.mono{Q':α->Hd->Prop}(h:WP o Q)(k:∀z h,Q z h->Q' z h):WP o Q':=let ⟨z,x,e,q⟩:=h;⟨z,x,e,k z x q⟩
theorem WP.bind{f:α×Hd->Option (β×Hd)}(h:WP o λz x=>WP (f (z,x)) R):WP (o.bind f) R:=by
 obtain⟨z,x,e,q⟩:=h;rw[e];exact q
def WP.eq{z:α}(e:o=Option.some (z,h))(q:Q z h):WP o Q:=⟨z,h,e,q⟩
end
section
variable{ls:Ls}{hd:Hd}{a b:MS}{ma mb mc:ME}{ta tb:MT}{m m1 m2:MA}{n:MG}{ns:MGs}{mi:MI}{d e:D}{i j:Nat}{QS:Fl->Hd->Prop}{QE:D->Hd->Prop}{QT:Bool->Hd->Prop}{QA:List D->Hd->Prop}{QO:Option Int->Hd->Prop}{QI:List D×Gd->Hd->Prop}
def PR(b:MS)(Q:Fl->Hd->Prop):Fl->Hd->Prop
 |.nx l,h=>WS b l h Q
 |f,h=>Q f h
def A8(h:WS a ls hd (PR b QS)):WS (AD a b) ls hd QS:=by
 obtain⟨f,x,e,q⟩:=h;show WP (AD a b ls hd) QS;rw[cQ,e];cases f<;>first|exact q|exact⟨_,_,rfl,q⟩
def A6(q:WS b l h QS):PR b QS (.nx l) h:=q
def Bi(q:QS (.rt d) h):PR b QS (.rt d) h:=q
def AI(h:QS (.nx ls) hd):WS AU ls hd QS:=⟨_,_,rfl,h⟩
def AH(h:WE ma ls hd λd x=>QS (.rt d) x):WS (AQ ma) ls hd QS:=WP.bind (h.mono λ_ _ q=>WP.some q)
def AK(h:WE ma ls hd λd x=>QS (.nx (ls.set i (some d))) x):WS (AW i ma) ls hd QS:=by
 obtain⟨d,x,e,q⟩:=h;exact⟨_,_,by simp only[Sg,e,bind_some,Yn,jx],q⟩
def MC(h:WE ma ls hd λd x=>∃l,n d ls x=some l/\QS (.nx l) x):WS (ID ma n) ls hd QS:=by
 obtain⟨d,x,e,l,e2,q⟩:=h;exact⟨_,_,by simp only[Sg,e,bind_some,e2,jx],q⟩
def CL(h:WE ma ls hd λ_ x=>QS (.nx ls) x):WS (CY ma) ls hd QS:=WP.bind (h.mono λ_ _ q=>WP.some q)
def d8(h:WT ta ls hd λc x=>if c=true then WS a ls x QS else WS b ls x QS):WS (Aa ta a b) ls hd QS:=by
 refine WP.bind (h.mono λc x q=>?_);dsimp only;cases c<;>simpa using q
def AM(h:WT ta ls hd λc x=>(c=true->WS a ls x QS)/\(c=false->WS b ls x QS)):WS (Aa ta a b) ls hd QS:=
 d8 (h.mono λc x q=>by cases c<;>simp_all)
def Z7{ix:List Nat}(h:WA m ls hd λds x=>ds.length=ix.length/\QS (.nx ((ix.zip ds).foldl (λl q=>l.set q.1 (some q.2)) ls)) x):WS (QC ix m) ls hd QS:=by
 obtain⟨d,x,e,q,q2⟩:=h;exact⟨_,_,by simp only[cR,e,bind_some,q,jB],q2⟩
def WL(n:MG)(b:MS)(g:Gd)(ds:List D)(ls:Ls)(hd:Hd)(Q:Fl->Hd->Prop):Prop:=WP (B3 n b g ds ls hd) Q
def Bn(h:WI mi ls hd λp x=>WL n b p.2 p.1 ls x QS):WS (By mi n b) ls hd QS:=WP.bind (h.mono λ_ _ q=>q)
def dE(g:Gd)(P:Ls->Hd->Prop)(Q:Fl->Hd->Prop):Fl->Hd->Prop
 |.nx l,h=>GOk h g/\P l h
 |.ct l,h=>GOk h g/\P l h
 |.bk l,h=>Q (.nx l) h
 |.rt d,h=>Q (.rt d) h
theorem Bc(P:List D->Ls->Hd->Prop):∀{ds:List D} {ls:Ls} {hd:Hd},P ds ls hd ->
 (∀d r ls hd,P (d::r) ls hd->∃ls1,n d ls hd=some ls1/\WS b ls1 hd (dE g (P r) QS))->(∀ls hd,P [] ls hd->QS (.nx ls) hd)->WL n b g ds ls hd QS
 |[],ls,hd,h,_,z=>⟨_,_,by unfold B3;rfl,z _ _ h⟩
 |d::r,ls,hd,h,k,z=>by
  obtain⟨ls1,e1,f,x,e2,q⟩:=k d r ls hd h;unfold WL;unfold B3;rw[e1,bind_some,e2,bind_some];cases f with
  |nx l=>exact(show GOk x g/\P r l x from q).1 |> λg1=>by dsimp only;rw[j6 g1];exact Bc P q.2 k z
  |ct l=>exact(show GOk x g/\P r l x from q).1 |> λg1=>by dsimp only;rw[j6 g1];exact Bc P q.2 k z
  |bk l=>exact⟨_,_,rfl,q⟩
  |rt l=>exact⟨_,_,rfl,q⟩
def A0(h:ls[i]?=some (some d))(q:QE d hd):WE (A2 i) ls hd QE:=⟨d,hd,by rw[Sf,h],q⟩
def A9{i:I}(q:QE (.im i) hd):WE (mC i) ls hd QE:=⟨_,_,rfl,q⟩
def A5{f:D->D->Hd->Option (D×Hd)}(h:WE ma ls hd λd x=>WE mb ls x λe y=>WP (f d e y) QE):WE (mOp f ma mb) ls hd QE:=WP.bind (h.mono λ_ _ q=>WP.bind (q.mono λ_ _ q=>q))
def dC(h:WT ta ls hd λc x=>if c=true then WE ma ls x QE else WE mb ls x QE):WE (mIf ta ma mb) ls hd QE:=by
 refine WP.bind (h.mono λc x q=>?_);dsimp only;cases c<;>simpa using q
def Ho(h:WT ta ls hd λc x=>(c=true->WE ma ls x QE)/\(c=false->WE mb ls x QE)):WE (mIf ta ma mb) ls hd QE:=
 dC (h.mono λc x q=>by cases c<;>simp_all)
def AV(h:WA m ls hd λds x=>Cq ds.length/\QE (AT ds) x):WE (Af m) ls hd QE:=WP.bind (h.mono λds x q=>by dsimp only;rw[j6 q.1];exact WP.some q.2)
def Bp(h:WA m ls hd λds x=>QE (.mu x.length) (x++[.lst ds])):WE (Bx m) ls hd QE:=WP.bind (h.mono λ_ _ q=>WP.some q)
def DL{g:List D->Option D}(h:WA m ls hd λds x=>∃d,g ds=some d/\QE d x):WE (CJ g m) ls hd QE:=by
 obtain⟨ds,x,e,d,e2,q⟩:=h;exact⟨d,x,by simp only[cY,e,bind_some,e2,jx],q⟩
def E3(h:WA m ls hd λds x=>WE ma ls x λe y=>∃i d,e=.im (.int i)/\atI ds i=some d/\QE d y):WE (EU m ma) ls hd QE:=by
 obtain⟨ds,x,e,d,y,e2,i,z,rfl,e4,q⟩:=h;exact⟨z,y,by simp only[cT,e,bind_some,e2,e4,jx],q⟩
def B5{f:List D->Hd->Option (D×Hd)}(h:WA m ls hd λds x=>WP (f ds x) QE):WE (mCB f m) ls hd QE:=WP.bind (h.mono λ_ _ q=>q)
def PK{f:D->List D->Hd->Option (D×Hd)}(h:WE ma ls hd λd x=>(∃l,BQ x d=some l)/\WA m ls x λds y=>WP (f d ds y) QE):WE (mMt f ma m) ls hd QE:=by
 obtain⟨d,x,e,⟨l,hl⟩,q⟩:=h;unfold WE;rw[eg,e,bind_some];dsimp only;rw[hl];exact WP.bind (q.mono λ_ _ q=>q)
def Ac{F:List D->Hd->Option (D×Hd)}(h:WA m ls hd λds x=>WF F ds x QE):WE (AX F m) ls hd QE:=WP.bind (h.mono λ_ _ q=>q)
def GZ(h:WE ma ls hd λd x=>∃i,d=.im (.int i)/\QE (.im (.int (-i))) x):WE (Fv ma) ls hd QE:=by
 obtain⟨d,x,e,i,rfl,q⟩:=h;exact⟨_,x,by simp only[cS,e,bind_some],q⟩
def FV(h:WT (AF ma) ls hd λc x=>if c=true then WE mb ls x QE else QE (.im (.bl false)) x):WE (DU ma mb) ls hd QE:=by
 refine WP.bind (h.mono λc x q=>?_);dsimp only;cases c
 .exact WP.some (by simpa using q)
 .simpa using q
def Qv(h:WT (AF ma) ls hd λc x=>if c=true then QE (.im (.bl true)) x else WE mb ls x QE):WE (JN ma mb) ls hd QE:=by
 refine WP.bind (h.mono λc x q=>?_);dsimp only;cases c
 .simpa using q
 .exact WP.some (by simpa using q)
def KI(h:WT (AF ma) ls hd λc x=>QE (.im (.bl (!c))) x):WE (FP ma) ls hd QE:=WP.bind (h.mono λ_ _ q=>WP.some q)
def AG(h:WE ma ls hd λd x=>∃b,d=.im (.bl b)/\QT b x):WT (AF ma) ls hd QT:=by
 obtain⟨d,x,e,b,rfl,q⟩:=h;exact⟨b,x,by simp only[Yl,e,bind_some],q⟩
def BB(h:WE ma ls hd λd x=>∃b,EN x d=some b/\QT b x):WT (BC ma) ls hd QT:=by
 obtain⟨d,x,e,b,e2,q⟩:=h;exact⟨b,x,by simp only[cP,e,bind_some,e2,jx],q⟩
def C4(h:WT ta ls hd λc x=>QT (!c) x):WT (BX ta) ls hd QT:=WP.bind (h.mono λ_ _ q=>WP.some q)
def Fh(h:WT ta ls hd λc x=>if c=true then WT tb ls x QT else QT false x):WT (DY ta tb) ls hd QT:=by
 refine WP.bind (h.mono λc x q=>?_);dsimp only;cases c
 .exact WP.some (by simpa using q)
 .simpa using q
def Ef(h:WT ta ls hd λc x=>if c=true then QT true x else WT tb ls x QT):WT (mOr ta tb) ls hd QT:=by
 refine WP.bind (h.mono λc x q=>?_);dsimp only;cases c
 .simpa using q
 .exact WP.some (by simpa using q)
def CS(h:QT true hd):WT Cc ls hd QT:=⟨_,_,rfl,h⟩
def A4(h:QA [] hd):WA A7 ls hd QA:=⟨_,_,rfl,h⟩
def A1(h:WE ma ls hd λd x=>WA m ls x λds y=>QA (d::ds) y):WA (A3 ma m) ls hd QA:=WP.bind (h.mono λ_ _ q=>WP.bind (q.mono λ_ _ q=>WP.some q))
def Bq(h:WA m ls hd λds x=>Cq ds.length/\QA ds x):WA (Co m) ls hd QA:=WP.bind (h.mono λds x q=>by dsimp only;rw[j6 q.1];exact WP.some q.2)
def ON(h:WE ma ls hd λd x=>∃ds,Ax x d=some ds/\QA ds x):WA (HE ma) ls hd QA:=by
 obtain⟨d,x,e,ds,e2,q⟩:=h;exact⟨ds,x,by simp only[Yp,e,bind_some,e2,jx],q⟩
def Gw(h:QO none hd):WO Av ls hd QO:=⟨_,_,rfl,h⟩
def EL(h:WE ma ls hd λd x=>∃i,d=.im (.int i)/\QO (some i) x):WO (BK ma) ls hd QO:=by
 obtain⟨d,x,e,i,rfl,q⟩:=h;exact⟨_,x,by simp only[Ym,e,bind_some],q⟩
def J8(h:WA m ls hd λds x=>∃k,ds=[.im (.int k)]/\KS k/\QI (Ar 0 k.toNat,[]) x):WI (EV m) ls hd QI:=by
 obtain⟨ds,x,e,k,rfl,c,q⟩:=h;exact⟨_,x,by simp only[cV,e,bind_some,c,jB],q⟩
def d9(h:WA m ls hd λds x=>∃j k,ds=[.im (.int j),.im (.int k)]/\Tq j k/\QI (Ar j (k-j).toNat,[]) x):WI (Vz m) ls hd QI:=by
 obtain⟨ds,x,e,j,k,rfl,c,q⟩:=h;exact⟨_,x,by simp only[Yq,e,bind_some,c,jB],q⟩
def Cy(h:WE ma ls hd λd x=>∃ds,AS d=some ds/\QI (ds,[]) x):WI (BY ma) ls hd QI:=by
 obtain⟨d,x,e,ds,e2,q⟩:=h;exact⟨_,x,by simp only[cU,e,bind_some,e2,jx],q⟩
def ZB(h:WA m ls hd λds x=>QI (ds,[]) x):WI (FA m) ls hd QI:=by
 obtain⟨ds,x,e,q⟩:=h;exact⟨_,x,by simp only[cX,e,jx],q⟩
def J9(h:WE ma ls hd λd x=>∃k ds,d=.mu k/\x[k]?=some (.lst ds)/\QI (ds,[(k,ds)]) x):WI (E9 ma) ls hd QI:=by
 obtain⟨d,x,e,k,ds,rfl,e2,q⟩:=h;exact⟨_,x,by simp only[cW,e,bind_some,e2],q⟩
def BO{k:Nat}(h:WI mi ls hd λp x=>Cq p.1.length/\WP (B8 n ta ma p.2 p.1 (GP k ix ls) x) QA):WA (B9 k ix mi n ta ma) ls hd QA:=WP.bind (h.mono λp x q=>by dsimp only;rw[j6 q.1];exact q.2)
theorem ML(P:List D->List D->Ls->Hd->Prop):∀{ds es:List D} {ls:Ls} {hd:Hd},P ds es ls hd ->
 (∀d r es ls hd,P (d::r) es ls hd->∃ls1,n d ls hd=some ls1/\WT ta ls1 hd λc x=>if c=true then WE ma ls1 x λz y=>GOk y g/\P r (es++[z]) ls1 y else GOk x g/\P r es ls1 x) ->
 WP (B8 n ta ma g ds ls hd) λzs x=>∃ls',P [] (es++zs) ls' x
 |[],es,ls,hd,h,k=>⟨_,_,by unfold B8;rfl,ls,by simpa using h⟩
 |d::r,es,ls,hd,h,k=>by
  obtain⟨ls1,e1,c,x,e2,q⟩:=k d r es ls hd h;unfold B8;rw[e1,bind_some,e2,bind_some];cases c with
  |true=>
   rw[j6 rfl]at q ⊢;obtain⟨z,y,e3,g3,p3⟩:=q;obtain⟨zs,y2,e4,ls',p4⟩:=ML P p3 k;rw[e3,bind_some];dsimp only;rw[j6 g3,e4];exact⟨z::zs,y2,rfl,ls',by simpa using p4⟩
  |false=>
   rw[j7 Bool.false_ne_true]at q ⊢;dsimp only;rw[j6 q.1];exact ML P q.2 k
def Az{i j:Int}(q:QE (.im (.int (i+j))) hd):WP (AN (.im (.int i)) (.im (.int j)) hd) QE:=⟨_,_,by simp,q⟩
def BI{i j:Int}(q:QE (.im (.int (i-j))) hd):WP (BA (.im (.int i)) (.im (.int j)) hd) QE:=⟨_,_,by simp,q⟩
def Z8{i j:Int}(c:GG i j)(q:QE (.im (.int (i*j))) hd):WP (HI (.im (.int i)) (.im (.int j)) hd) QE:=⟨_,_,by simp[c],q⟩
def Z9{i j:Int}(c:DJ j)(q:QE (.im (.int (i%j))) hd):WP (G0 (.im (.int i)) (.im (.int j)) hd) QE:=⟨_,_,by simp[c],q⟩
def WK{i j:Int}(c:K4 j)(q:QE (.im (.int (i/j))) hd):WP (HJ (.im (.int i)) (.im (.int j)) hd) QE:=⟨_,_,by simp[c],q⟩
def IS{i j:Int}(q:QE (.im (.bl (decide (i<j)))) hd):WP (gLt (.im (.int i)) (.im (.int j)) hd) QE:=⟨_,_,by simp,q⟩
def Lo{i j:Int}(q:QE (.im (.bl (decide (i<=j)))) hd):WP (gLe (.im (.int i)) (.im (.int j)) hd) QE:=⟨_,_,by simp,q⟩
def IT{i j:Int}(q:QE (.im (.bl (decide (j<i)))) hd):WP (gGt (.im (.int i)) (.im (.int j)) hd) QE:=⟨_,_,by simp,q⟩
def VS{i j:Int}(q:QE (.im (.bl (decide (j<=i)))) hd):WP (gGe (.im (.int i)) (.im (.int j)) hd) QE:=⟨_,_,by simp,q⟩
def BJ{i j:Int}(q:QE (.im (.bl (decide (i=j)))) hd):WP (gEq (.im (.int i)) (.im (.int j)) hd) QE:=⟨_,_,by simp,q⟩
def MH{i j:Int}(q:QE (.im (.bl (!decide (i=j)))) hd):WP (gNe (.im (.int i)) (.im (.int j)) hd) QE:=⟨_,_,by simp,q⟩
def Qt{i j:Str}(q:QE (.im (.bl (decide (i=j)))) hd):WP (gEq (.im (.str i)) (.im (.str j)) hd) QE:=⟨_,_,by simp,q⟩
def MF{i j:Str}(q:QE (.im (.bl (!decide (i=j)))) hd):WP (gNe (.im (.str i)) (.im (.str j)) hd) QE:=⟨_,_,by simp,q⟩
def AE{i:Int}(e1:Ax hd d=some ds)(e2:atI ds i=some e)(q:QE e hd):WP (gIx d (.im (.int i)) hd) QE:=⟨_,_,by rw[f6,e1,bind_some,e2];rfl,q⟩
def KH{i j:Int}(q:QE (.im (.int (max i j))) hd):WP (HN [.im (.int i),.im (.int j)] hd) QE:=⟨_,_,rfl,by have:(if j>i then j else i)=max i j:=(by split<;>omega);rw[this];exact q⟩
def KG{i j:Int}(q:QE (.im (.int (min i j))) hd):WP (HM [.im (.int i),.im (.int j)] hd) QE:=⟨_,_,rfl,by have:(if j<i then j else i)=min i j:=(by split<;>omega);rw[this];exact q⟩
def Bf{tp:Bool}{g:List D->Option D}(e1:(if tp then Ax hd d else BQ hd d)=some ds)(e2:g ds=some z)(q:QE z hd):WP (f1 tp g [d] hd) QE:=⟨_,_,by rw[f7,e1,bind_some,e2];rfl,q⟩
def Qu{k:Nat}(e1:hd[k]?=some (.lst ds))(c:HL ds.length)(q:QE (.im .non) (hd.set k (.lst (ds++[x])))):WP (Du (.mu k) [x] hd) QE:=⟨_,_,by rw[cZ,e1];simp only[c,jB],q⟩
def WJ(h:WE mc ls hd λp x=>WE ma ls x λq y=>WE mb ls y λr z=>∃w i j ds,q=.mu w/\r=.im (.int i)/\z[w]?=some (.lst ds)/\ixN ds.length i=some j/\QS (.nx ls) (z.set w (.lst (ds.set j p)))):WS (Vy ma mb mc) ls hd QS:=by
 obtain⟨p,x,e1,q,y,e2,r,z,e3,w,i,j,ds,rfl,rfl,e5,c,qq⟩:=h;exact⟨_,_,by simp only[Yo,e1,bind_some,e2,e3,e5,c,jx],qq⟩
def Ak{k n:Nat}{m:MS}{ds:List D}{Q:D->Hd->Prop}(hl:ds.length=k)(h:WS m (ds.map some++List.replicate (n-k) none) hd λf x=>match f with
 |.rt d=>Q d x
 |.nx _=>Q (.im .non) x
 | _=>False):WF (mkF k n m) ds hd Q:=by
 obtain⟨f,x,e,q⟩:=h;unfold WF mkF;rw[j6 hl,e];cases f with
 |nx l=>exact⟨_,_,rfl,q⟩
 |rt l=>exact⟨_,_,rfl,q⟩
 |bk l=>exact q.elim
 |ct l=>exact q.elim
def Ad{F:List D->Hd->Option (D×Hd)}(h:WA m ls hd λds x=>BD 0 ds=true/\WF F ds [] λd _=>∃i,d=.im i/\QE (.im i) x):WE (AB 0 F m) ls hd QE:=by
 obtain⟨ds,x,e,c,d,y,e2,i,rfl,q⟩:=h;exact⟨_,_,T4 e c e2,q⟩
end
structure Tap(T:Nat->MO->MO->Prop)(P:List D->Hd->Option (D×Hd)):Prop where
 cl:∀{k:Nat} {a b:MO},T k a b->clO 2 a=true/\clO 2 b=true
 le:∀{j k:Nat} {a b:MO},T k a b->j<=k->T j a b
 pick:∀{k:Nat} {a b:MO} {many:Int},T (k+1) a b->0<many->many<1073741824->∃r a' b',0<=r/\r<many/\P [.mu 1,.im (.int many)] [a,b]=some (.im (.int r),[a',b'])/\T k a' b'
section
variable{T:Nat->MO->MO->Prop}{P:List D->Hd->Option (D×Hd)}{rest:Hd}{QE:D->Hd->Prop}{n c:Nat}
def Tap.draw(t:Tap T P)(hT:T (n+1) a b){many:Int}(e:m ls hd=some ([.mu 1,.im (.int many)],a::b::rest))(h0:0<many)(h1:many<1073741824)
 (k:∀r a' b',T n a' b'->0<=r->r<many->QE (.im (.int r)) (a'::b'::rest)):WE (AB 2 P m) ls hd QE:=by
 obtain⟨r,a',b',p1,p2,e2,hT'⟩:=t.pick hT h0 h1;refine⟨_,_,Nu (w:=2) (ds:=[.mu 1,.im (.int many)]) (pre:=[a,b]) (pre':=[a',b']) (rest:=rest) (g:=[]) rfl rfl e (by simp) ?_ ?_ (by simpa using e2),k r a' b' hT' p1 p2⟩
 .simp[t.cl hT]
 .simp[t.cl hT']
end
section
variable{K:Frag}
def eU:ME:=λ_ hd=>some (.mu hd.length,hd++[.dic []])
def WQ{Q:D->Hd->Prop}(q:Q (.mu hd.length) (hd++[.dic []])):WE eU ls hd Q:=⟨_,_,rfl,q⟩
end
mutual
theorem Nm{v w:Nat}(h:v<=w):∀{d:D},clD v d=true->clD w d=true
 |.im i,_=>by simp
 |.mu n,c=>by simp at c ⊢;omega
 |.tm ds,c=>by rw[clD]at c ⊢;exact GO h c
 |.ro ns,_=>by rw[clD]
 |.op _ _ ds,c=>by rw[clD]at c ⊢;exact GO h c
theorem GO{v w:Nat}(h:v<=w):∀{ds:List D},BD v ds=true->BD w ds=true
 |[],_=>by simp
 |d::ds,c=>by
  simp only[Su,Bool.and_eq_true]at c ⊢;exact⟨Nm h c.1,GO h c.2⟩
end
theorem LM{v w:Nat}(h:v<=w):∀{ds:List (Key×D)},GV v ds=true->GV w ds=true
 |[],_=>by simp[GV]
 |d::ds,c=>by
  simp only[GV,Bool.and_eq_true]at c ⊢;exact⟨Nm h c.1,LM h c.2⟩
def VI{v w:Nat}(h:v<=w)(c:clO v o=true):clO w o=true:=by
 cases o with
 |lst ds=>exact GO h c
 |dic ds=>exact LM h c
section
variable{T:Nat->MO->MO->Prop}{P:List D->Hd->Option (D×Hd)}{rest:Hd}{QE:D->Hd->Prop}
def Tap.callX(t:Tap T P){n c:Nat}(hT:T (n+c) a b)(ex:Hd){w:Nat}{F:List D->Hd->Option (D×Hd)}{R:I->Prop}(e:m ls hd=some (.mu 1::as,a::b::(ex++rest)))(hw:w=ex.length+2)(ha:BD w as=true)(hx:ex.all (clO w)=true)
 (hF:∀a b,T (n+c) a b->WF F (.mu 1::as) (a::b::ex) λd x=>∃i a' b' g,d=.im i/\R i/\T n a' b'/\x=a'::b'::(ex++g))
 (k:∀i a' b',T n a' b'->R i->QE (.im i) (a'::b'::(ex++rest))):WE (AB w F m) ls hd QE:=by
 subst hw;have hcl:∀o,clO 2 o=true->clO (ex.length+2) o=true:=λo h=>VI (by omega) h;obtain⟨d,x,e2,i,a',b',g,rfl,hR,hT',rfl⟩:=hF a b hT;refine⟨_,_,Nu (w:=ex.length+2) (ds:=.mu 1::as) (pre:=a::b::ex) (pre':=a'::b'::ex) (rest:=rest) (g:=g) rfl rfl e (by simp[ha]) ?_ ?_ e2,k i a' b' hT' hR⟩
 .simp[hcl _ (t.cl hT).1,hcl _ (t.cl hT).2];simpa using hx
 .simp[hcl _ (t.cl hT').1,hcl _ (t.cl hT').2];simpa using hx
def Tap.call(t:Tap T P){n c:Nat}(hT:T (n+c) a b){F:List D->Hd->Option (D×Hd)}{R:I->Prop}(e:m ls hd=some (.mu 1::as,a::b::rest))(ha:BD 2 as=true)
 (hF:∀a b,T (n+c) a b->WF F (.mu 1::as) [a,b] λd x=>∃i a' b' g,d=.im i/\R i/\T n a' b'/\x=a'::b'::g)
 (k:∀i a' b',T n a' b'->R i->QE (.im i) (a'::b'::rest)):WE (AB 2 F m) ls hd QE:=
 t.callX hT [] (w:=2) e rfl ha rfl hF k
end
end L2
namespace Bd
open PySem L2
structure Tp where
 cells:List Int
 nx:Int
 lf:Int
 tn:Int
def Lq(t:Tp):List (Key×D):=[(.inr "cells",.mu 0),(.inr "next",.im (.int t.nx)),(.inr "left",.im (.int t.lf)),(.inr "turn",.im (.int t.tn))]
def tp(t:Tp):Hd:=[.lst (t.cells.map λi=>.im (.int i)),.dic (Lq t)]
@[simp] theorem gp(t:Tp):(tp t).length=2:=rfl
@[simp] theorem iw(t:Tp)(r:Hd):(tp t++r)[0]?=some (.lst (t.cells.map λi=>.im (.int i))):=rfl
@[simp] theorem iu(t:Tp)(r:Hd):(tp t++r)[1]?=some (.dic (Lq t)):=rfl
@[simp] theorem tp0(t:Tp):(tp t)[0]?=some (.lst (t.cells.map λi=>.im (.int i))):=rfl
@[simp] theorem tp1(t:Tp):(tp t)[1]?=some (.dic (Lq t)):=rfl
section
variable(t:Tp)(v:Int)
@[simp] theorem gq:(Lq t).length=4:=rfl
end
theorem Fs:∀ns:List Int,I.pys (ns.map I.int)=ns.map PyData.int
 |[]=>by simp[I.pys]
 |n::ns=>by simp[I.pys,I.py,Fs ns]
def FS(ns:List Int):BN (ns.map λi=>D.im (.int i))=some (ns.map I.int):=by
 have:(ns.map λi=>D.im (.int i))=(ns.map I.int).map D.im:=by rw[jh];rfl
 rw[this];exact T7 _
def Yr(ns:List Int):PyData.eqv (.list (ns.map PyData.int)) (.list [])=decide (ns=[]):=by
 cases ns<;>simp[PyData.eqv,PyData.eqvAll]
def Us(ns:List Int):(PyData.list (ns.map PyData.int)).canLay0=true:=by simp[PyData.canLay0,J1]
def Gs(ns:List Int)(hd:Hd)(neg:Bool):Nf neg (.list (ns.map PyData.int)) (.list []) hd=some (.im (.bl (if neg then !decide (ns=[])else decide (ns=[]))),hd):=by
 unfold Nf;rw[j6,Yr];refine⟨Us ns,by simp[PyData.canLay0,PyData.canLayAll0],?_⟩;have:(PyData.list []).depth<=1:=by simp[PyData.depth,PyData.depthAll]
 omega
def FN{x:Int}(m:Int)(h:0<m):0<=x%m/\x%m<m:=⟨Int.emod_nonneg _ (by omega),Int.emod_lt_of_pos _ h⟩
def cq(hd:Hd)(neg:Bool):Nf neg (.list []) (.list []) hd=some (.im (.bl (if neg then false else true)),hd):=by
 have:=Gs [] hd neg;simpa using this
def fA(h:xs≠[])(n:Int):∃c,atI (xs.map λi=>D.im (.int i)) (n%(xs.length:Int))=some (.im (.int c)):=by
 have hl:0<xs.length:=FZ h;obtain⟨a,b⟩:=FN (x:=n) (xs.length:Int) (by omega);obtain⟨k,hk⟩:=Int.eq_ofNat_of_zero_le a;have hk':k<xs.length:=by omega
 exact⟨xs[k],Cs hk (by simp[hk'])⟩
def po1:M3 10 18:=by unfold M3;decide
inductive Cost where
 |late (d:Int)|tardy (d w:Int)|miss (d w:Int)|ends (w:Int)|steps (rows:List (Int×Int))
def OP(t:Int):List (Int×Int)->Int->Int
 |[],told=>told
 |(b,a)::r,told=>if t<b then told else OP t r a
def Cost.at:Cost->Int->Int
 |.late d,t=>t-d
 |.tardy d w,t=>if t-d<=0 then 0 else w*(t-d)
 |.miss d w,t=>if t-d<=0 then 0 else w
 |.ends w,t=>w*t
 |.steps rows,t=>OP t rows 0
def n1:¬ (("late":Str)="steps"):=by decide +kernel
def n2:¬ (("tardy":Str)="steps"):=by decide +kernel
def n3:¬ (("miss":Str)="steps"):=by decide +kernel
def n4:¬ (("ends":Str)="steps"):=by decide +kernel
def n7:¬ (("miss":Str)="ends"):=by decide +kernel
def n10:¬ (("miss":Str)="tardy"):=by decide +kernel
@[simp high] theorem iq(t:Tp)(x:MO)(r:Hd):(tp t++(x::r))[2]?=some x:=rfl
@[simp high] theorem ip(t:Tp)(x y:MO)(r:Hd):(tp t++(x::y::r))[3]?=some y:=rfl
@[simp high] theorem io(t:Tp)(x y z:MO)(r:Hd):(tp t++(x::y::z::r))[4]?=some z:=rfl
@[simp high] theorem iQ(t:Tp)(x y:MO)(r:Hd):(tp t++(x::r)).set 2 y=tp t++(y::r):=rfl
@[simp high] theorem iP(t:Tp)(x y z:MO)(r:Hd):(tp t++(x::y::r)).set 3 z=tp t++(x::z::r):=rfl
def F4(w:Nat)(ns:List Int):BD w (ns.map λi=>D.im (.int i))=true:=by induction ns<;>simp_all [BD,clD]
def VE(ns:List Int)(lo hi:Option Int):∃cs:List Int,CK (ns.map λn=>.im (.int n)) lo hi=cs.map λn=>.im (.int n):=⟨(ns.drop _).take _,by unfold CK;rw[List.map_take,List.map_drop]⟩
abbrev bp(ks:List Nat):List D:=ks.map λk:Nat=>D.im (.int (k:Int))
def Pt(n:Nat):Ar 0 n=bp (List.range n):=by
 refine ext_getElem? λi=>?_;by_cases h:i<n
 .rw[Jr h];simp[h]
 .rw[List.getElem?_eq_none (by simp;omega),List.getElem?_eq_none (by simp;omega)]
abbrev Ao(xs:List Int):List D:=xs.map λx=>D.im (.int x)
def g0(hd:Hd)(x y:MO):(hd++[x,y])[hd.length]?=some x:=by simp
def g1(hd:Hd)(x y:MO):(hd++[x,y])[hd.length+1]?=some y:=by simp
def t0(hd:Hd)(x y z:MO):(hd++[x,y]).set hd.length z=hd++[z,y]:=by simp
def t1(hd:Hd)(x y z:MO):(hd++[x,y]).set (hd.length+1) z=hd++[x,z]:=by simp
end Bd
namespace L2
open PySem PySem.Spec PyProof.Rows
section
variable{ls:Ls}{hd:Hd}{QE:D->Hd->Prop}{QI:List D×Gd->Hd->Prop}{ma:ME}{n:MG}{ta:MT}{mi:MI}{m:MA}
def VT{QA:List D->Hd->Prop}(P:List D->List D->Ls->Hd->Prop)(h:P ds [] ls hd)
 (k:∀d r es ls hd,P (d::r) es ls hd->∃ls1,n d ls hd=some ls1/\WT ta ls1 hd λc x=>if c=true then WE ma ls1 x λz y=>GOk y g/\P r (es++[z]) ls1 y else GOk x g/\P r es ls1 x)
 (z:∀es ls hd,P [] es ls hd->QA es hd):WP (B8 n ta ma g ds ls hd) QA:=
 (ML P h k).mono λzs x ⟨ls',q⟩=>z zs ls' x (by simpa using q)
def DB{α:Type}{g:Gd}{QA:List D->Hd->Prop}(inj:α->D)(f:α->Option D)(L:D->Ls->Prop)(l0:Ls){xs:List α}{hd:Hd}(hg:GOk hd g)
 (k:∀x∈xs,∀ls,ls=l0∨(∃d,L d ls)->∃ls1,n (inj x) ls hd=some ls1/\L (inj x) ls1/\WT ta ls1 hd λc y=>y=hd/\if c=true then ∃z,f x=some z/\WE ma ls1 hd λe y=>y=hd/\e=z else f x=none)
 (q:QA (xs.filterMap f) hd):WP (B8 n ta ma g (xs.map inj) l0 hd) QA:=by
 have go:∀(xs':List α) (ls:Ls),(∀x∈xs',x∈xs)->(ls=l0∨∃d,L d ls)->B8 n ta ma g (xs'.map inj) ls hd=some (xs'.filterMap f,hd):=by
  intro xs'
  induction xs' with
  |nil=>intro ls _ _;unfold B8;rfl
  |cons x r ih=>
   intro ls hs hl;obtain⟨ls1,e1,L1,c,y,e2,rfl,q⟩:=k x (hs x jt) ls hl;have ih:=ih ls1 (λz hz=>hs z (jm _ hz)) (.inr ⟨_,L1⟩);rw[jc];unfold B8;rw[e1,bind_some,e2,bind_some];cases c with
   |true=>
    rw[j6 rfl]at q;obtain⟨z,ez,e,y,e3,rfl,rfl⟩:=q;rw[j6 rfl,e3,bind_some];dsimp only;rw[j6 hg,ih,jO,ez];rfl
   |false=>
    rw[j7 Bool.false_ne_true]at q;rw[j7 Bool.false_ne_true];dsimp only;rw[j6 hg,ih,jO,q]
 exact⟨_,_,go xs l0 (λ_ h=>h) (.inl rfl),q⟩
end
abbrev blD(bs:List Bool):List D:=bs.map λb=>D.im (.bl b)
inductive Ty where
 |int|bool|str|tuple|list
 deriving DecidableEq
def Ty.nm:Ty->String
 |.int=>"int" | .bool=>"bool" | .str=>"str" | .tuple=>"tuple" | .list=>"list"
def IsT(K:Frag)(T:Ty)(H:Hp)(v:V)(b:Bool):Prop:=
 (v=.non/\b=false)∨(∃x,v=.bl x/\b=decide (T=.int∨T=.bool))∨(∃i,v=.int i/\b=decide (T=.int))∨(∃x,v=.str x/\b=decide (T=.str)) ∨
 (∃a xs,v=.ref a/\SqL K H a xs/\b=decide (T=.list))∨∃a xs,v=.ref a/\SqT K H a xs/\b=decide (T=.tuple)
section
variable{E:Value->Shared->Prop}{Q:Value->Shared->Prop}
def cH{T:Ty}{b:Bool}(I:Inv X O U H s)(r:RelV v u)(h:IsT X.K T H v b)(q:∀tk,Q (.bool b) { s with toks:=tk }):wpAny (model X.prog X.w) A (call (.builtin "isinstance") [u,.type T.nm]) Q E s:=by
 have q0:=q s.toks;have q1:=q (s.toks+1);rcases h with⟨rfl,rfl⟩|⟨x,rfl,rfl⟩|⟨i,rfl,rfl⟩|⟨x,rfl,rfl⟩|⟨a,xs,rfl,hl,rfl⟩|⟨a,xs,rfl,ht,rfl⟩
 .cases(show u=Value.none from r);cases T
  .exact IsiPair.NoneType_int q1
  .exact IsiPair.NoneType_bool q1
  .exact IsiPair.NoneType_str q1
  .exact IsiPair.NoneType_tuple q1
  .exact IsiPair.NoneType_list q1
 .cases(show u=Value.bool x from r);cases T
  .first|exact IsiPair.bool_int q0|exact IsiPair.bool_int q1
  .first|exact IsiPair.bool_bool q0|exact IsiPair.bool_bool q1
  .exact IsiPair.bool_str q1
  .exact IsiPair.bool_tuple q1
  .exact IsiPair.bool_list q1
 .obtain⟨t,rfl⟩:=(show ∃t,u=Value.int i t from r)
  cases T
  .exact IsiPair.int_int q0
  .exact IsiPair.int_bool q1
  .exact IsiPair.int_str q1
  .exact IsiPair.int_tuple q1
  .exact IsiPair.int_list q1
 .obtain⟨t,rfl⟩:=(show ∃t,u=Value.str x t from r)
  cases T
  .exact IsiPair.str_int q1
  .exact IsiPair.str_bool q1
  .exact IsiPair.str_str q0
  .exact IsiPair.str_tuple q1
  .exact IsiPair.str_list q1
 .cases(show u=Value.ref a from r);obtain⟨its,_,⟨o,n,e,c,_,_⟩,_⟩:=I.list hl;cases T
  .exact IsiPair.list_int e c q1
  .exact IsiPair.list_bool e c q1
  .exact IsiPair.list_str e c q1
  .exact IsiPair.list_tuple e c q1
  .exact IsiPair.list_list e c q0
 .cases(show u=Value.ref a from r);obtain⟨its,_,⟨o,e,c,_⟩,_⟩:=I.tuple ht;cases T
  .exact IsiPair.tuple_int e c q1
  .exact IsiPair.tuple_bool e c q1
  .exact IsiPair.tuple_str e c q1
  .exact IsiPair.tuple_tuple e c q0
  .exact IsiPair.tuple_list e c q1
end
def Tf(K:Frag)(T:Ty)(te:TE):TE:=λU H Q=>te U H λv H1=>∃b,IsT K T H1 v b/\Q (.bl b) H1
def bP(K:Frag){X:Cx}(T:Ty)(hm:X.mg "isinstance"=none)(hmT:X.mg x=none)(hvT:bootBuiltins x=some (.type T.nm))(he:PE X e te)
 (hv:bootBuiltins "isinstance"=some (.builtin "isinstance")) (hK:X.K=K) (hg:Gl X "isinstance") (hgT:Gl X x) (hnT:x≠"__name__") (hdT:(x==("__debug__":Str))=false)
 (hs:starEach [e,.Name x px] X.env=[(false,eval e X.env),(false,eval (.Name x px) X.env)]) (hs2:starEach [.Name x px] X.env=[(false,eval (.Name x px) X.env)]):PE X (.Call (.Name "isinstance" p) [e,.Name x px] [] pos) (Tf K T te):=by
 subst hK;intro O s U H Q I h;refine jW (DO I hg hm hv ?_);have go:wpAny (model X.prog X.w) X.A (spliced (backTo pos (starEach [e,.Name x px] X.env))) (λvs s₁=>wpAny (model X.prog X.w) X.A (call (.builtin "isinstance") vs) (EP X O U Q) X.xe s₁) X.xe s:=by
  rw[hs];show wpAny _ _ (spliced ((false,eval e X.env)::backTo pos [(false,eval (.Name x px) X.env)])) _ _ s;refine Calls.spliced_cons (thn (he O s U H _ I h) λu s1 ⟨v,H1,I1,r1,b,ib,q1⟩=>?_);show wpAny _ _ (spliced ((false,eval (.Name x px) X.env)::backTo pos [])) _ _ s1;refine Calls.spliced_cons (DO I1 hgT hmT hvT ?_ hnT hdT);refine Calls.spliced_nil ?_;exact cH I1 r1 ib λtk=>⟨.bl b,H1,I1.tok _,rfl,q1⟩
 exact PyProof.Rows.callWith_builtin1 go (by rw[hs,hs2]) (by rw[hs2];rfl)
section
variable{K:Frag}
def isD(T:Ty)(hd:Hd):D->Option Bool
 |.im .non=>some false
 |.im (.bl _)=>some (decide (T=.int∨T=.bool))
 |.im (.int _)=>some (decide (T=.int))
 |.im (.str _)=>some (decide (T=.str))
 |.im (.tup _)=>some (decide (T=.tuple))
 |.tm _=>some (decide (T=.tuple))
 |.ro _=>some (decide (T=.list))
 |.op _ _ _=>none
 |.mu n=>match hd[n]? with
  |some (.lst _)=>some (decide (T=.list))
  |_=>none
def cI{T:Ty}{b:Bool}(hR:RH K ρ H hd)(h:RD K ρ H d v)(e:isD T hd d=some b):IsT K T H v b:=by
 cases d with
 |im i=>
  cases i with
  |non=>simp only[RD,RI]at h;subst h;simp only[isD,Option.some.injEq]at e;exact .inl ⟨rfl,e.symm⟩
  |bl c=>simp only[RD,RI]at h;subst h;simp only[isD,Option.some.injEq]at e;exact .inr (.inl ⟨c,rfl,e.symm⟩)
  |int c=>simp only[RD,RI]at h;subst h;simp only[isD,Option.some.injEq]at e;exact .inr (.inr (.inl ⟨c,rfl,e.symm⟩))
  |str c=>simp only[RD,RI]at h;subst h;simp only[isD,Option.some.injEq]at e;exact .inr (.inr (.inr (.inl ⟨c,rfl,e.symm⟩)))
  |tup is=>
   obtain⟨a,xs,rfl,q,r⟩:=h.tup (ds:=is.map .im) rfl;simp only[isD,Option.some.injEq]at e;exact .inr (.inr (.inr (.inr (.inr ⟨a,xs,rfl,q,e.symm⟩))))
 |tm ds=>
  obtain⟨a,xs,rfl,q,r⟩:=h.tup (ds:=ds) rfl;simp only[isD,Option.some.injEq]at e;exact .inr (.inr (.inr (.inr (.inr ⟨a,xs,rfl,q,e.symm⟩))))
 |ro ns=>
  obtain⟨a,xs,rfl,q,r⟩:=h.lst hR (hd:=hd) (ds:=ns.map λn=>.im (.int n)) rfl;simp only[isD,Option.some.injEq]at e;exact .inr (.inr (.inr (.inr (.inl ⟨a,xs,rfl,q,e.symm⟩))))
 |op _ _ _=>simp[isD]at e
 |mu n=>
  simp only[isD]at e;split at e
  .next q=>
   cases e;simp only[RD]at h;obtain⟨a,hn,rfl⟩:=h;obtain⟨xs,e1,e2⟩:=hR.lst hn q;exact .inr (.inr (.inr (.inr (.inl ⟨a,xs,rfl,SqL.of e1,rfl⟩))))
  .cases e
def Bj(T:Ty)(ma:ME):ME:=λls hd=>(ma ls hd).bind λp=>(isD T p.2 p.1).map λb=>(.im (.bl b),p.2)
def Zr{T:Ty}(h:RE K te me):RE K (Tf K T te) (Bj T me):=by
 and_intros;obtain⟨⟨d1,h1⟩,e1,hm⟩:=gV hm;obtain⟨b,e2,e3⟩:=j4 hm;cases e3;exact h ρ U H hd ls _ d1 _ hR hL e1 λρ1 H1 v x1 R1 r1=>⟨b,cI R1 r1 e2,hQ ρ1 H1 _ x1 R1 (by simp[RD,RI])⟩
def K9:∀T:Ty,bootBuiltins T.nm=some (.type T.nm)
 |.int=>by decide +kernel
 |.bool=>by decide +kernel
 |.str=>by decide +kernel
 |.tuple=>by decide +kernel
 |.list=>by decide +kernel
def Js(K:Frag){X:Cx}(T:Ty){p px pos:Pos}(hm:X.mg "isinstance"=none)(hmT:X.mg x=none)(he:QE K X e te me)(hx:bootBuiltins x=some (.type T.nm):=by first|exact K9 .int|exact K9 .bool|exact K9 .str|exact K9 .tuple|exact K9 .list)(hK:X.K=K:=by rfl)(hg:Gl X "isinstance":=by rfl)(hgT:Gl X x:=by rfl)
 (hnT:x≠"__name__":=by decide) (hdT:(x==("__debug__":Str))=false:=by decide)
 (hs:starEach [e,.Name x px] X.env=[(false,eval e X.env),(false,eval (.Name x px) X.env)]:=by rfl) (hs2:starEach [.Name x px] X.env=[(false,eval (.Name x px) X.env)]:=by rfl):QE K X (.Call (.Name "isinstance" p) [e,.Name x px] [] pos) (Tf K T te) (Bj T me):=
 ⟨bP K T hm hmT hx he.p Lm hK hg hgT hnT hdT hs hs2,Zr he.r⟩
theorem RDs.ints:∀{ns:List Int} {xs:List V},RDs K ρ H (ns.map λx=>D.im (.int x)) xs->xs=ns.map V.int
 |[],xs,h=>by simpa only[RDs,map_nil]using h
 |n::ns,xs,h=>by
  simp only[jc,RDs,RD,RI]at h;obtain⟨x,r,rfl,rfl,t⟩:=h;rw[RDs.ints t];rfl
end
section
variable{mo mi me:ME}{QE:D->Hd->Prop}{QS:Fl->Hd->Prop}
def CT{T:Ty}(h:WE ma ls hd λd x=>∃b,isD T x d=some b/\QE (.im (.bl b)) x):WE (Bj T ma) ls hd QE:=by
 obtain⟨d,x,e,b,e2,q⟩:=h;exact⟨_,_,by simp only[Bj,e,bind_some,e2,jx],q⟩
end
structure EAt(h:Heap)(e it l:Addr)(i:Nat):Prop where
 e:∃old,IsEnum h e it i old
 r:h.IsListIter it l i
def Ite(K:Frag)(a:Addr):It:=
 ⟨λi H=>∃xs x,SqL K H a xs/\xs[i]?=some x,
  λi H x H'=>∃p v,H p=none/\H'=upd H p (.tup [.int (i:Int),v])/\x=.ref p/\∀xs,SqL K H a xs->xs[i]?=some v,
  λi H=>∃xs,SqL K H a xs/\xs.length<=i⟩
def R8{K:Frag}{kk:Nat}(ne:e≠it):Turn P w K (.Tuple elts kk tpos) (Ite K l) [e,it] e (λi h=>EAt h e it l i) where
 mem:=by simp
 obj:=λi h st c hc=>by
  obtain⟨⟨old,he⟩,hr⟩:=st;simp only[ja,ji,jk]at hc;rcases hc with rfl|rfl
  .exact⟨_,he,λv z=>by cases(show Data.fields _=Data.cell v from z)⟩
  .obtain⟨o,q,_,d⟩:=hr;exact⟨o,q,λv z=>by rw[d]at z;cases z⟩
 keep:=λi h h' st k=>by
  obtain⟨⟨old,he⟩,o,q,r⟩:=st;exact⟨⟨old,k e (by simp) _ he⟩,o,k it (by simp) _ q,r⟩
 item:=by
  intro X hP hw hK hc i O s U H E I hf st hg;subst hP hw hK;obtain⟨xs,x,h1,hx⟩:=hg;obtain⟨its,r,pl,hz⟩:=I.list h1;obtain⟨u,hu,ru⟩:=r.get hx;obtain⟨⟨old,he⟩,hr⟩:=st;refine wpAny_pyNext_enum_item he hr pl.isList (x:=u) (by simpa using hu) ne λg ho hr' ht hsz kp=>⟨_,rfl,?_⟩
  refine kW ho λg' e' sb=>?_;have hle:e<s.heap.objs.size:=Heap.lt_size he;have kp2:∀c o,c∉[e,it]->s.heap.get? c=some o->g'.get? c=some o:=λc o nc q=>by
   simp only[ja,ji,jk,not_or]at nc;exact sb.extBut _ _ nc.1 (kp c o nc.1 nc.2 q)
  have hT:s.heap.objs.size≠e:=jv hle;have hpair:g'.get? s.heap.objs.size=some { cls:=.type "tuple",data:=.seq #[.int i s.toks,u] }:=sb.extBut _ _ hT ht;have fresh:H s.heap.objs.size=none:=I.hok.fresh (j9 _);have I2:Inv X O U (upd H s.heap.objs.size (.tup [.int (i:Int),x])) { s with heap:=g',toks:=s.toks+1 }:=I.turnsL (tk:=s.toks+1) (o:=.tup [.int (i:Int),x]) kp2 hf (j9 _)
   (show ObjOk X.prog X.w _ g' _ (.tup [.int (i:Int),x])from⟨by show 2<=sizeLine;decide,[.int i s.toks,u],.cons ⟨_,rfl⟩ (.cons ru .nil),⟨_,hpair,rfl,⟨_,rfl⟩,rfl⟩⟩)
  refine⟨.ref s.heap.objs.size,_,I2,rfl,⟨s.heap.objs.size,x,fresh,rfl,rfl,λxs' q=>by rw[I.list_inj q h1];exact hx⟩,⟨⟨u,?_⟩,?_⟩,λc hc=>?_⟩
  .have:=e';rw[show((i:Int)+1)=((i+1:Nat):Int) by omega]at this;exact this
  .exact hr'.extBut sb.extBut (Ne.symm ne)
  .have lt:c<s.heap.objs.size:=by
    simp only[ja,ji,jk]at hc;rcases hc with rfl|rfl
    .exact hle
    .obtain⟨o,q,_⟩:=hr;exact Heap.lt_size q
   rw[AC (jb lt)];exact(hf c hc).1
 done:=by
  intro X hP hw hK hc i O s U H E I hf st hg;subst hP hw hK;obtain⟨xs,h1,hend⟩:=hg;obtain⟨its,r,pl,hz⟩:=I.list h1;have l1':=r.length;obtain⟨⟨old,he⟩,hr⟩:=st;refine wpAny_pyNext_enum_end (show X.A.handled=none from I.ok.hd hc) he hr pl.isList (by simp;omega) λg x=>⟨rfl,?_⟩
  exact I.turns (tk:=s.toks) (λc o nc q=>by
   simp only[ja,ji,jk,not_or]at nc;exact x c o nc.2 q) hf
 self:=λ_ _ _ _ _ st h=>by
  obtain⟨⟨old,he⟩,hr⟩:=st;exact kN he h
def QV(K:Frag)(ta:TA):TI:=λU H R=>ta U H λvs H1=>∃a xs,vs=[.ref a]/\SqL K H1 a xs/\R (Ite K a) H1
def EZ:bootBuiltins "enumerate"=some (.type "enumerate"):=by decide +kernel
section
def Y6(K:Frag){elts:List Expr}{kk:Nat}{tpos p pos:Pos}(hg:Gl X "enumerate")(hm:X.mg "enumerate"=none)(ha:PA X [a] ta)(hK:X.K=K:=by rfl)(hs:starEach [a] X.env=[(false,eval a X.env)]:=by rfl):
 PI X (.Tuple elts kk tpos) (.Call (.Name "enumerate" p) [a] [] pos) (QV K ta):=by
 subst hK;intro O s U H R I h;refine Call_ (DO I hg hm EZ (PyProof.Rows.callWith_type1 (thn (ha pos O s U H _ I h) λus s1 ⟨vs,H1,I1,r1,q1⟩=>?_) hs rfl));obtain⟨l,xs,e,c,q⟩:=q1;subst e;obtain⟨u,rfl,ru⟩:=r1.one;cases ru;obtain⟨its,r,pl,hz⟩:=I1.list c;refine call_enumerate_list pl.isList λg he hr hsz kp=>kN he ?_;refine⟨_,_,_,_,H1,rfl,I1.kept (t':=s1.toks) kp,R8 (jv (Nat.lt_succ_self _)),⟨⟨_,he⟩,hr⟩,λc hc=>?_,q⟩;simp only[ja,ji,jk]at hc;have le:s1.heap.objs.size<=c:=by
  rcases hc with rfl|rfl
  .exact kc _ _
  .exact j9 _
 exact I1.fpOk le (I1.hok.fresh le)
end
section
variable{K:Frag}
def Bz(ma:MI):MI:=λls hd=>(ma ls hd).map λp=>((p.1.1.zipIdx.map λq=>AT [.im (.int (q.2:Int)),q.1],p.1.2),p.2)
def Wt(ha:RRw K false ta ma):RIt K (QV K (Aq ta BS)) (Bz ma):=by
 intro ρ U H hd ls Q d g hd' hR hL hm hQ;obtain⟨⟨⟨d1,g1⟩,h1⟩,e1,e2⟩:=j4 hm;cases e2;refine ha ρ U H hd ls _ d1 g1 h1 hR hL e1 λρ1 H1 a x1 R1 G1 S1=>?_;obtain⟨xs,c1,r1⟩:=S1 ρ1 H1 _ .refl R1 G1;refine⟨a,xs,rfl,c1,hQ ρ1 H1 _ x1 R1 G1 ?_⟩;intro ρ3 H3 hd3 x3 R3 G3 i;obtain⟨xs,c1,r1⟩:=S1 ρ3 H3 _ x3 R3 G3;have l1:=r1.len;refine⟨λhi=>?_,λhi=>⟨xs,c1,?_⟩⟩
 .have hi:i<d1.length:=by simpa using hi
  have i1:d1[i]?=some (d1[i]'hi):=List.getElem?_eq_getElem _;obtain⟨x,x4,x5⟩:=r1.get i1;refine⟨⟨xs,x,c1,x4⟩,λz H4 hz=>?_⟩;obtain⟨p,v,fp,rfl,rfl,hv⟩:=hz;have ev:=hv xs c1;rw[x4]at ev;cases ev;obtain⟨R4,x6⟩:=R3.hid (ho:=.tup [.int (i:Int),x]) fp;refine⟨ρ3,AT [.im (.int (i:Int)),d1[i]'hi],x6,rfl,R4,?_,BV (SqT.of AJ) (.cons (by simp[RD,RI]) (.cons (x5.ext R3 x6) .nil))⟩;simp[i1]
 .have hi:i=d1.length:=by simpa using hi
  omega
def Xe(K:Frag){X:Cx}{elts:List Expr}{kk:Nat}{tpos p pos:Pos}(hm:X.mg "enumerate"=none)(ha:QR K false X a ta ma)(hg:Gl X "enumerate":=by rfl)(hK:X.K=K:=by rfl)(hs:starEach [a] X.env=[(false,eval a X.env)]:=by rfl):
 QI K X (.Tuple elts kk tpos) (.Call (.Name "enumerate" p) [a] [] pos) (QV K (Aq ta BS)) (Bz ma):=⟨Y6 K hg hm (B6 ha.p C7 hs) hK hs,Wt ha.r⟩
def Ck{QI:List D×Gd->Hd->Prop}(h:WI ma ls hd λp x=>QI (p.1.zipIdx.map λq=>AT [.im (.int (q.2:Int)),q.1],p.2) x):WI (Bz ma) ls hd QI:=by
 obtain⟨p,x,e,q⟩:=h;exact⟨_,_,by simp only[Bz,e,jx],q⟩
end
end L2
namespace HT
open PySem PySem.Spec PyProof.Rows
section
variable{E:Value->Shared->Prop}{s:Shared}
def getItem_tuple_whole{lo:Option Int}{Q:Value->Shared->Prop}(ht:IsTup s.heap t items)(hs:s.heap.IsSliceOf sl vl vu .none)(pl:IsPart vl lo)(pu:IsPart vu hi)
 (hw:sIx items.size 0 lo=0/\sIx items.size items.size hi=items.size) (h:Q (.ref t) s):wpAny (model prog w) A (getItem (.ref t) (.ref sl)) Q E s:=by
 obtain⟨os,hos,hcs,hds⟩:=id hs;have hTs:s.TypeIs (.ref sl) "slice":=⟨os,hos,hcs⟩
 unfold getItem
 try with_reducible refine jD ?_
 first|refine j5 (j8 ?_)|skip
 refine j5 (wpAny_sequenceKey ht.typeIs (by decide) ?_);refine j5 (kC (name:=Str.ofString "__getitem__") ht.typeIs PyProof.Rows.slot_tuple_getitem
  (ko PyProof.Rows.slot_tuple_getitem ht.typeIs entry_tuple_getitem ?_ (args_tuple_getitem _ _)))
 show wpAny _ _ (Builtin.Tuple.tupleItemsOf (.ref t) >>= _) _ _ s;refine j5 (tupleItemsOf_ ht ?_);refine j5 (wpAny_typeOf hTs ?_);rw[j6 (by decide)];refine j5 (Fm hs pl pu ?_);have hno:(((sIx items.size 0 lo:Nat):Int)==0&&(1:Int)==1&&(sIx items.size items.size hi-sIx items.size 0 lo)==items.size)=true:=by
  rw[hw.1,hw.2];simp
 show wpAny _ _ (if(((sIx items.size 0 lo:Nat):Int)==0&&(1:Int)==1&&(sIx items.size items.size hi-sIx items.size 0 lo)==items.size)=true then _ else _) _ _ s;rw[j6 hno];refine j5 ?_;unfold Builtin.Tuple.tupleIsExact;refine j5 (wpAny_typeOf ht.typeIs (j8 ?_));rw[j6 (by decide)];exact j5 (wpAny_rule (j8 ⟨_,rfl,j8 h⟩))
end
end HT
namespace L2
open PySem PySem.Spec PyProof.Rows
section
variable{X:Cx}
def U5(K:Frag):V->Option Int->Option Int->Hp->VK->Prop:=λx lo hi H Q=>a8 K x lo hi H Q∨∃a xs,x=.ref a/\SqT K H a xs/\(HT.sIx xs.length 0 lo=0/\HT.sIx xs.length xs.length hi=xs.length)/\Q (.ref a) H
def WX(K:Frag)(hK:X.K=K:=by rfl):SlR X (U5 K):=by
 subst hK;intro O s U H x v vl vu lo hi sl Q I rx hs pl pu h;rcases h with h|⟨a,xs,rfl,hx,hw,q⟩
 .exact ZL O s U H x v vl vu lo hi sl Q I rx hs pl pu h
 cases rx;obtain⟨its,r,ht,hz⟩:=I.tuple hx;have hlen:its.toArray.size=xs.length:=by rw[jd];exact r.length.symm
 refine⟨"tuple",_,PyProof.Rows.slot_tuple_getitem.lookup,ht.typeIs,?_⟩;exact HT.getItem_tuple_whole ht hs pl pu (by rw[hlen];exact hw) ⟨.ref a,H,I,rfl,q⟩
end
section
variable{K:Frag}{ρ':List Addr}{H':Hp}
def Bw(m:ME)(ml mh:MO1):ME:=λls hd=>(m ls hd).bind λp=>(ml ls p.2).bind λl=>(mh ls l.2).bind λh=>(AS p.1).map λds=>(AT (CK ds l.1 h.1),h.2)
def Zn{tl:TO}(h:RE K t m)(hl:RO1 K tl ml)(hh:RO1 K th mh):RE K (tSl (U5 K) t tl th) (Bw m ml mh):=by
 and_intros;obtain⟨⟨d1,h1⟩,e1,hm⟩:=gV hm;obtain⟨⟨d2,h2⟩,e2,hm⟩:=gV hm;obtain⟨⟨d3,h3⟩,e3,hm⟩:=gV hm;obtain⟨ds,e4,e5⟩:=j4 hm;cases e5;dsimp only at e2 e3 e4;refine h ρ U H hd ls _ d1 h1 hR hL e1 λρ1 H1 v1 x1 R1 r1=>?_;refine hl ρ1 U H1 h1 ls _ d2 h2 R1 (hL.ext hR x1) e2 λρ2 H2 x2 R2=>?_;refine hh ρ2 U H2 h2 ls _ d3 _ R2 (hL.ext hR (x1.trans R1 x2)) e3 λρ3 H3 x3 R3=>?_;obtain⟨a,xs,rfl,q,r⟩:=((r1.ext R1 x2).ext R2 x3).tup e4;by_cases c:HT.sIx ds.length 0 d2=0/\HT.sIx ds.length ds.length d3=ds.length
 .refine .inr ⟨a,xs,rfl,q,by rw[r.len];exact c,?_⟩;have e6:CK ds d2 d3=ds:=by unfold CK;rw[c.1,c.2];simp
  rw[e6]at hQ;exact hQ ρ3 _ _ ((x1.trans R1 x2).trans R2 x3) R3 (BV q r)
 .refine .inl ⟨a,xs,rfl,q,by rw[r.len];exact c,λp hp=>?_⟩;obtain⟨R4,x4⟩:=R3.hid (ho:=.tup (GU xs d2 d3)) hp;exact hQ ρ3 _ _ (((x1.trans R1 x2).trans R2 x3).trans R3 x4) R4 (BV (SqT.of AJ) ((P4 r).ext R3 x4))
def aX(K:Frag){lo:Option Expr}{tl:TO}(h:QE K X e te me)(hl:QO K X lo tl ml)(hh:QO K X hi th mh)(hK:X.K=K:=by rfl):QE K X (.Subscript e (.Slice lo hi none p2) pos) (tSl (U5 K) te tl th) (Bw me ml mh):=⟨N1 (WX K hK) h.p hl.p hh.p,Zn h.r hl.r hh.r⟩
def Fi{QE:D->Hd->Prop}(h:WE ma ls hd λd x=>WO ml ls x λl y=>WO mh ls y λu z=>∃ds,AS d=some ds/\QE (AT (CK ds l u)) z):WE (Bw ma ml mh) ls hd QE:=by
 obtain⟨d,x,e1,l,y,e2,u,z,e3,ds,e4,q⟩:=h;exact⟨_,_,by simp only[Bw,e1,bind_some,e2,e3,e4,jx],q⟩
end
section
variable{X:Cx}
def Yv{E:Value->Shared->Prop}{s:Shared}{vs ws:List Value}{Q:Value->Shared->Prop}(ht:IsTup s.heap t vs.toArray)(hb:IsTup s.heap b ws.toArray)(hv:vs=[])
 (h1:Q (.ref b) s):wpAny (model prog w) A (binaryOp .Add (.ref t) (.ref b)) Q E s:=by
 obtain⟨⟨cls,dd,data,sl⟩,ho,hc,n,hd⟩:=id ht;obtain⟨⟨cls2,dd2,data2,sl2⟩,ho2,hc2,n2,hd2⟩:=id hb;simp only at hc hd hc2 hd2;subst hc hd hc2 hd2;exact concat_meets ⟨_,ho,rfl⟩ ⟨_,ho2,rfl⟩ noFill_tuple_add seq_tuple_add PySem.F.slot_tuple_add PySem.F.entry_tuple_add (PySem.F.args_tuple_add_2 _ _)
  (tuple_addW0 t b vs.toArray ws.toArray n n2 dd dd2 sl sl2 (by simp[hv])) ⟨ho,ho2,h1⟩
def Vn(K:Frag):R2:=λx y H Q=>∃a b ys,x=.ref a/\y=.ref b/\SqT K H a []/\SqT K H b ys/\Q (.ref b) H
def YJ(K:Frag)(hK:X.K=K:=by rfl):OpR X (binaryOp .Add) (Vn K):=by
 subst hK;intro O s U H x y v u Q I rx ry h;obtain⟨a,b,ys,rfl,rfl,ha,hb,q⟩:=h;cases rx;cases ry;obtain⟨its,r1,p1,_⟩:=I.tuple ha;obtain⟨its2,r2,p2,_⟩:=I.tuple hb;have:its=[]:=by cases r1;rfl
 exact Yv p1 p2 this ⟨.ref b,H,I,rfl,q⟩
def El:D->D->Hd->Option (D×Hd):=λd e hd=>(AS d).bind λa=>(AS e).bind λb=>if a=[]then some (AT b,hd)else none
def XB{K:Frag}:RB K (Vn K) El:=by
 intro ρ H hd d e v u Q z hd' hR h1 h2 hf hQ;unfold El at hf;obtain⟨a,e1,hf⟩:=gV hf;obtain⟨b,e2,hf⟩:=gV hf;split at hf
 .next c=>
  cases hf;subst c;obtain⟨p,xs,rfl,q1,r1⟩:=h1.tup e1;obtain⟨p2,ys,rfl,q2,r2⟩:=h2.tup e2;have:xs=[]:=by simpa [RDs]using r1
  subst this;exact⟨p,p2,ys,rfl,rfl,q1,q2,hQ ρ H _ .refl hR (BV q2 r2)⟩
 .cases hf
end
section
variable{E:Value->Shared->Prop}{s:Shared}
def OH{vs:List Value}{Q:List Value->Shared->Prop}(hl:IsTup s.heap l vs.toArray)
 (h:Q vs { s with heap:=(s.heap.push (seqObj "list" #[] 0)).update s.heap.objs.size (Obj.mapSeq (·++vs.toArray)) }) (hsz:vs.length<=sizeLine:=by size_fits):
 wpAny (model prog w) A (collect (.ref l)) Q E s:=by
 obtain⟨o,ho,hc,n,hd⟩:=id hl;unfold collect;refine j5 (wpAny_runValue (kQ entry_proto_collect' ?_));show wpAny _ _ (do again (.builtin "list.__iadd__" ⟨[<- newList [],.ref l],[]⟩)) _ _ s;refine j5 (kT (j8 ⟨Code.quiet_builtin _ (by decide +kernel),kQ entry_list_iadd' ?_⟩));show wpAny _ _ (Builtin.List.listExtendWith (.ref s.heap.objs.size) (.ref l) (.ref s.heap.objs.size)) _ _ { s with heap:=s.heap.push (seqObj "list" #[] 0) };unfold Builtin.List.listExtendWith;have ho':(s.heap.push (seqObj "list" #[] 0)).get? l=some o:=Heap.get?_push_of_some _ ho;refine j5 (wpAny_typeOf (T:="tuple") ⟨o,ho',hc⟩ ?_);have ht:(Value.type "tuple"==Value.type "tuple")=true:=by rfl
 rw[j6 (by rw[ht];simp)];refine j5 (listItems_at ho' hd ?_);refine j5 (listItems_at (xs:=#[]) (n:=0) (Heap.get?_push_size _ rfl) rfl ?_);rw[j7 (by simp)];refine j5 (kr (xs:=#[]) (n:=0) (Heap.get?_push_size _ rfl) rfl ?_ (jA _) (by show(#[]++vs.toArray).size<=sizeLine+1;simp only[Array.size_append,jd,length_nil];omega));refine j8 ?_;show wpAny (model prog w) A (do
  let o <- load s.heap.objs.size
  match o.data with
  |.seq xs _=>pure xs.toList
  | _=>unsupported "internal:collect") Q E { s with heap:=(s.heap.push (seqObj "list" #[] 0)).update s.heap.objs.size (Obj.mapSeq (·++vs.toArray)) }
 refine j5 (wpAny_load (kR (Heap.get?_push_size _ rfl) _) ?_);show wpAny _ _ (pure ((#[]:Array Value)++vs.toArray).toList) Q E _;rw[show((#[]:Array Value)++vs.toArray).toList=vs by simp];exact j8 h
end
end L2
namespace L2
abbrev Bg:=D5 AN El
end L2
namespace L2
open PySem PySem.Spec PyProof.Rows PySem.W
inductive KeysOk(h:Heap):List Value->List Int->Prop
 |kI {ks:List Value} {kz:List Int}:IntsAre ks kz->KeysOk h ks kz
 |kP {ks:List Value} {ps:List (Int×Int)}:ks.length=ps.length->(∀(i:Nat) (v:Value) (p:Int×Int),ks[i]?=some v->ps[i]?=some p->PairAt h v p)->(∀p∈ps,pok p)->KeysOk h ks (ps.map Aj)
def KeysOk.len(K:KeysOk h ks kz):kz.length=ks.length:=by
 cases K with
 |kI i=>have:=i.length;omega
 |kP hl _ _=>simp[hl]
theorem HF:∀{ks:List Value} {kz:List Int} {i:Nat},IntsAre ks kz->i<ks.length->∃t,ks.getD i .none=.int (kz.getD i 0) t
 |_,_,0,.cons ..,_=>⟨_,rfl⟩
 |_,_,i+1,.cons _ _ h,hi=>by
  obtain⟨t,e⟩:=HF (i:=i) h (by simpa using hi);exact⟨t,by simpa using e⟩
section
variable{E:Value->Shared->Prop}{s:Shared}
def Uv(K:KeysOk s.heap ks kz)(h2:2<=ks.length){Q:SortKind->Shared->Prop}
 (h:∀κ,(∀(i j:Nat) (C:Bool->Shared->Prop),i<ks.length->j<ks.length->C (decide (kz.getD i 0<kz.getD j 0)) s->wpAny (model prog w) A (keyLt' κ (ks.getD i .none) (ks.getD j .none)) C (λ_ _=>False) s)->Q κ s):
 wpAny (model prog w) A (keyKind' ks.toArray) Q E s:=by
 cases K with
 |kI hk=>
  rw[ksk_kind (kz:=kz) (by simpa using hk) (by simpa using h2)];refine j8 (h _ λi j C hi hj hC=>?_);obtain⟨t,e1⟩:=HF hk hi;obtain⟨u,e2⟩:=HF hk hj;rw[e1,e2];exact kat_lt_int hC
 |@kP ps hl hp hok=>
  obtain⟨fs,t1,t2,t3⟩:=KJ hl hp;have tT:∀f∈fs,Looks (model prog w) s.heap (typeOf f) (Value.type "int"):=λf hf=>by
   obtain⟨i,t,rfl⟩:=t3 f hf;exact .of_pure rfl
  refine kat_kind t1 (by omega) tT rfl (h _ λi j C hi hj hC=>?_);have pi:ps[i]?=some (ps.getD i (0,0)):=by simp[show i<ps.length by omega]
  have pj:ps[j]?=some (ps.getD j (0,0)):=by simp[show j<ps.length by omega]
  have vi:ks[i]?=some (ks.getD i Value.none):=by simp[hi]
  have vj:ks[j]?=some (ks.getD j Value.none):=by simp[hj]
  have ei:(ps.map Aj).getD i 0=Aj (ps.getD i (0,0)):=by simp[show i<ps.length by omega]
  have ej:(ps.map Aj).getD j 0=Aj (ps.getD j (0,0)):=by simp[show j<ps.length by omega]
  rw[ei,ej]at hC;exact Os (hp i _ _ vi pi) (hp j _ _ vj pj) (hok _ (jq pi)) (hok _ (jq pj)) hC
def YW{vs:List Value}{kz:List Int}(hl:kz.length=vs.length)(pa:PAr vs.length p)(hs:STo (λi=>kz.getD i 0) p vs.length):KskOut false kz vs (p.toList.map λi=>vs.getD i Value.none):=by
 have sz:=pa.size;refine⟨p.toList.map λi=>(kz.getD i 0,vs.getD i Value.none),?_,by rw[jh];rfl,?_⟩
 .have e:kz.zip vs=(List.range vs.length).map λi=>(kz.getD i 0,vs.getD i Value.none):=by
   refine ext_getElem? λi=>?_;by_cases hi:i<vs.length
   .have hi2:i<kz.length:=by omega
    rw[(List.getElem?_zip_eq_some (z:=(kz[i],vs[i]))).mpr ⟨by simp[hi2],by simp[hi]⟩];simp[hi,hi2]
   .rw[List.getElem?_eq_none (by simp;omega),List.getElem?_eq_none (by simp;omega)]
  rw[e];have:=Array.perm_iff_toList_perm.mp pa;simpa using this.map _
 .rw[jZ,List.pairwise_iff_getElem];intro i j hi hj hij;simp only[Array.length_toList]at hi hj;have:=hs i j (by omega) (by omega);unfold kv at this;simpa [Array.getD,hi,hj]using this
def YY{e e1:Nat}{ks vs:List Value}{P:PySem.Fin->Shared->Prop}(nk:s.heap.get? kS=some (seqObj "list" ks.toArray e))(na:s.heap.get? a=some (seqObj "list" #[] e1))(hka:kS≠a)(K:KeysOk s.heap ks kz)(hl:ks.length=vs.length)(h64:vs.length<64)
 (h:∀out:List Value,KskOut false kz vs out->P (.done (.ret .none)) { s with heap:=(s.heap.update kS (Obj.mapSeq λ_=>#[])).update a (Obj.mapSeq λ_=>out.toArray) }):
 wpAny (model prog w) A (ksk_end a false vs.toArray e1 (.ref kS) ks.toArray) P E s:=by
 have hz:kz.length=vs.length:=by have:=K.len;omega
 have s1:=Heap.SameBut.update s.heap kS (Obj.mapSeq λ_=>(#[]:Array Value));have na1:(s.heap.update kS (Obj.mapSeq λ_=>(#[]:Array Value))).get? a=some (seqObj "list" #[] e1):=(s1.2 a hka.symm).trans na;have tail:∀(st:SortSt) (out:List Value),(arrOf st).map (·.2)=out.toArray->out.length=vs.length->failedOf st=none->KskOut false kz vs out->wpAny (model prog w) A (ksk_tail a false e1 (.ref kS) st) P E s:=by
  intro st out ho hlo hf so;unfold ksk_tail;dsimp only;refine j5 (kr nk rfl ?_ (by simp[jw];omega) (jA _));refine j5 (wpAny_letGo ?_);refine j5 (seqEpoch_at na1 rfl ?_);simp only[Bool.false_eq_true,km];rw[ho];refine j5 (kr na1 rfl ?_ (jA _) (by rw[jd,jw];omega));rw[hf];simp only[bne_self_eq_false,Bool.false_eq_true,km];exact j8 (h out so)
 unfold ksk_end;simp only[Bool.false_eq_true,km];by_cases h2:vs.toArray.size<2
 .rw[j6 h2,j6 h2];refine j5 (j8 ?_);rw[StateT.run_pure];refine j5 (j8 ?_);dsimp only;refine tail _ vs ?_ rfl rfl ⟨kz.zip vs,.refl _,?_,?_⟩
  .show(ks.toArray.zip vs.toArray).map (·.2)=vs.toArray;apply Array.toList_inj.mp;simp only[Array.toList_map,Array.toList_zip];exact map_snd_zip (by omega)
  .exact(map_snd_zip (by omega)).symm
  .have hzl:(kz.zip vs).length<2:=by simp at h2 ⊢;omega
   cases hh:kz.zip vs with
   |nil=>exact .nil
   |cons z r=>
    cases r with
    |nil=>exact List.pairwise_singleton _ _
    |cons y t=>rw[hh]at hzl;exact absurd hzl (by simp)
 .rw[j7 h2,j7 h2];have h2':2<=vs.length:=by simp at h2;omega
  refine j5 (Uv K (by omega) λκ cmp=>?_);have hsz:(ks.toArray.zip vs.toArray).size=vs.length:=by simp[hl]
  have it:∀i,i<vs.length->kas_item (ks.toArray.zip vs.toArray) i=(ks.getD i .none,vs.getD i .none):=λi hi=>by
   unfold kas_item;have h1:i<ks.length:=by omega
   have h3:i<(ks.toArray.zip vs.toArray).size:=by omega
   have e:(ks.toArray.zip vs.toArray).getD i (Value.none,Value.none)=(ks.toArray.zip vs.toArray)[i]:=by simp only[Array.getD,h3,dite_true];rfl
   have e2:(ks.toArray.zip vs.toArray)[i]=(ks[i],vs[i]):=by rw[Array.getElem_zip];simp
   rw[e,e2];simp[h1,hi]
  have est:SortSt.mk' κ (ks.toArray.zip vs.toArray) #[] 7 none=kas_st κ (ks.toArray.zip vs.toArray) (List.toArray (List.range vs.length)):=by
   unfold kas_st;rw[<- hsz,kas_range]
  have ask:(kas_sort vs.length).kasWp (kas_cmp prog w A κ (ks.toArray.zip vs.toArray)) (λp s'=>s'=s/\PAr vs.length p/\STo (λi=>kz.getD i 0) p vs.length) s:=by
   refine PWp.wp (n:=vs.length) (r:=λi=>kz.getD i 0) (P:=λs'=>s'=s) (λi j C s' hi hj e hC=>?_) ((OR (by omega)).mono λp z s' e=>⟨e,z.1,z.2⟩) rfl;subst e;unfold kas_cmp;rw[it i hi,it j hj];exact cmp i j C (by omega) (by omega) (hC _ rfl)
  have run:=kas_runs (E:=E) (Q:=λ_ st' s'=>∃p:Array Nat,arrOf st'=p.map (kas_item (ks.toArray.zip vs.toArray))/\failedOf st'=none/\s'=s/\PAr vs.length p/\STo (λi=>kz.getD i 0) p vs.length) h2' h64 (λp st' s' x1 x2 x3 x4=>⟨p,x2,x3,x4⟩) ask;rw[<- est]at run;refine j5 (jn run ?_ λ_ _ e=>e);rintro⟨⟨⟩,st'⟩ s' ⟨p,har,hf,rfl,pa,so⟩;dsimp only;refine tail st' (p.toList.map λi=>vs.getD i Value.none) ?_ ?_ hf (YW hz pa so)
  .rw[har];apply Array.toList_inj.mp;simp only[Array.toList_map,jh,List.toList_toArray];refine kx λi hi=>?_;have hi':i<vs.length:=by
    have:=(Array.perm_iff_toList_perm.mp pa).mem_iff.mp hi;simpa using this
   exact jy Prod.snd (it i hi')
  .simp[pa.size]
end
def Ie(G:Hp->Prop)(tb:TE)(cap:St):List Int->Hp->(List V->Hp->Prop)->Prop
 |[],H,Q=>Q [] H
 |n::r,H,Q=>G H/\tb (some (.int n)::cap) H λk H1=>Ie G tb cap r H1 λks H2=>Q (k::ks) H2
def Io(K:Frag)(H:Hp)(ks:List V)(kz:List Int):Prop:=ks=kz.map V.int∨∃ps:List (Int×Int),kz=ps.map Aj/\(∀p∈ps,pok p)/\ks.length=ps.length/\∀(i:Nat) (k:V) (p:Int×Int),ks[i]?=some k->ps[i]?=some p->∃x,k=.ref x/\SqT K H x [.int p.1,.int p.2]
def Jb(kz ns ms:List Int):Prop:=∃zs:List (Int×Int),zs.Perm (kz.zip ns)/\zs.Pairwise (λa b=>a.1<=b.1)/\ms=zs.map (·.2)
def Ei:Value->Int
 |.int n _=>n
 |_=>0
theorem NU:∀{vs:List Value} {ns:List Int},IntsAre vs ns->vs.map Ei=ns
 |_,_,.nil=>rfl
 |_,_,.cons _ _ h=>by rw[jc,NU h];rfl
theorem NV:∀{vs:List Value} {ns:List Int},IntsAre vs ns->∀v∈vs,∃t,v=.int (Ei v) t
 |_,_,.nil,v,h=>by cases h
 |_,_,.cons _ _ h,v,hv=>by
  rcases mem_cons.mp hv with rfl|hv
  .exact⟨_,rfl⟩
  .exact NV h v hv
theorem GL:∀{xs:List V} {vs:List Value} {ns:List Int},xs=ns.map V.int->Vals xs vs->IntsAre vs ns
 |_,_,[],e,h=>by subst e;cases h;exact .nil
 |_,_,n::r,e,h=>by
  subst e;cases h with
  |cons a b=>obtain⟨t,rfl⟩:=a;exact .cons n t (GL rfl b)
theorem Jc:∀{vs:List Value},(∀v∈vs,∃t,v=Value.int (Ei v) t)->Vals ((vs.map Ei).map V.int) vs
 |[],_=>.nil
 |v::r,h=>by
  refine .cons ?_ (Jc λw hw=>h w (jm _ hw));obtain⟨t,e⟩:=h v jt;exact⟨t,e⟩
def eC(hi:IntsAre vs ns)(so:KskOut false kz vs out):Jb kz ns (out.map Ei)/\∀v∈out,∃t,v=Value.int (Ei v) t:=by
 obtain⟨zs,pm,rfl,pw⟩:=so;refine⟨⟨zs.map λz=>(z.1,Ei z.2),?_,?_,by rw[jh,jh];rfl⟩,?_⟩
 .have:=pm.map λz:Int×Value=>(z.1,Ei z.2)
  have e:((kz.zip vs).map λz:Int×Value=>(z.1,Ei z.2))=kz.zip ns:=by
   rw[<- NU hi,List.zip_map_right];rfl
  rwa [e]at this
 .rw[jZ];exact pw.imp λh=>by simpa using h
 .intro v hv;obtain⟨z,hz,rfl⟩:=mem_map.mp hv;have:=pm.mem_iff.mp hz;exact NV hi _ (of_mem_zip this).2
section
def Inv.adopt(I:Inv X O U H s)(f:FpOk X O H a)(h0:X.s₀.heap.objs.size<=a)(new:ObjOk X.prog X.w (upd H a o) s.heap a o):Inv X O U (upd H a o) s:=by
 obtain⟨hn,hL,hfs,_,hc,hp⟩:=f;have nb:∀b u,H b=some u->b≠a:=λb u e=>AZ e hn;have n0:∀b o,X.s₀.heap.get? b=some o->b≠a:=λb o e=>jb (jl (Heap.lt_size e) h0);refine⟨I.ok,I.os,I.bare,⟨I.base.keep,I.base.slot,λb o e n hx=>?_,I.base.there,λb xs e=>?_,λb o u e=>?_,λb ps e=>?_⟩,I.loc,I.cell,?_,λx c e=>?_,λp hp'=>?_,λb u e=>?_,I.len⟩
 .rw[AC (n0 b o e)];exact I.base.free b o e n hx
 .have:=I.base.tups b xs e;rw[AC (nb b _ this)];exact this
 .have:=I.base.frzs b o u e;rw[AC (nb b _ this)];exact this
 .obtain⟨m,e1⟩:=I.base.tbls b ps e;exact⟨m,by rw[AC (nb b _ e1)];exact e1⟩
 .rw[AC (λz=>hL z.symm)];exact I.free
 .rw[AC (hc x c e)];exact I.freeC x c e
 .obtain⟨q1,q2,q3⟩:=I.pin p hp';exact⟨q1,by rw[AC (hp p hp')];exact q2,q3⟩
 .by_cases z:b=a
  .subst z;rw[AJ]at e;cases e;exact new
  .rw[AC z]at e;exact(I.hok b u e).stay (λ_ _ _ q=>q) (λd q=>by rw[AC (nb d _ q)];exact q) λd xs q=>by rw[AC (nb d _ q)];exact q
def YV(I:Inv X O U H s)(k:Io X.K H ks kz)(r:Vals ks us):KeysOk s.heap us kz:=by
 rcases k with rfl|⟨ps,rfl,hok,hl,hp⟩
 .exact .kI (GL rfl r)
 .refine .kP (by rw[<- r.length];exact hl) (λi v p e1 e2=>?_) hok;have hi:i<ks.length:=by rw[hl];exact(List.getElem?_eq_some_iff.mp e2).1
  have ek:ks[i]?=some ks[i]:=by simp[hi]
  obtain⟨x,ex,sq⟩:=hp i _ p ek e2;obtain⟨v',ev,rel⟩:=JA r ek;rw[e1]at ev;cases ev;rw[ex]at rel;have rel:v=Value.ref x:=rel;subst rel;obtain⟨jts,rj,⟨o,ho,hc,n,hd⟩,_⟩:=I.tuple sq;cases rj with
  |cons r1 t1=>
   cases t1 with
   |cons r2 t2=>
    cases t2;obtain⟨t,rfl⟩:=r1;obtain⟨t',rfl⟩:=r2;exact⟨x,o,t,t',n,rfl,ho,hc,hd⟩
end
section
def Inv.turn1{t':Nat}(I:Inv X ((b,o)::O) U H s)(f:FpOk X O H b)(hs:Heap.SameBut b s.heap h'):Inv X O U H { s with heap:=h',toks:=t' }:=by
 have J:Inv X O U H s:=I.pins_of λp hp=>I.pin p (je _ (jm _ hp));obtain⟨hn,hL,_,h1,h2,h3⟩:=f;exact J.turned (λc u n e=>(hs.2 c n).trans e) hn hL h1 h2 h3
def FpOk.more(f:FpOk X O H b)(h:c≠b):FpOk X ((c,o)::O) H b:=by
 obtain⟨a1,a2,a3,a4,a5,a6⟩:=f;refine⟨a1,a2,a3,a4,a5,λp hp=>?_⟩;rcases mem_append.mp hp with q|q
 .exact a6 p (jU _ q)
 .rcases mem_cons.mp q with rfl|q
  .exact h
  .exact a6 p (je _ q)
def Inv.repin(I:Inv X O U H s)(f:FpOk X O H b)(e:s.heap.get? b=some o)(hd:∀v,o.data≠.cell v):Inv X ((b,o)::O) U H s:=
 I.pins_of λp hp=>by
  rcases mem_cons.mp hp with rfl|hp
  .exact⟨e,f.1,f.2.1,f.2.2.1,hd⟩
  .exact I.pin p (je _ hp)
def Pf{f:Addr}{ns:List Int}{G:Hp->Prop}{tb:TE}{cap:St}{E:Value->Shared->Prop}(I:Inv X O U H s)(h64:ns.length<64)
 (hcol:∀(Q:List Value->Shared->Prop) (E:Value->Shared->Prop),(∀(g:Heap) (tk:Nat) (vs:List Value),(∀b o,s.heap.get? b=some o->g.get? b=some o)->IntsAre vs ns->Q vs { s with heap:=g,toks:=tk })->wpAny (model X.prog X.w) X.A.in1 (collect l) Q E s)
 (turn:∀(pins':List (Addr×Obj)) (H1:Hp) (s1:Shared) (n:Int) (u:Value) (Q1:VK),(∀p∈O,p∈pins')->Inv X pins' U H1 s1->RelV (.int n) u->G H1->tb (some (.int n)::cap) H1 Q1->wpAny (model X.prog X.w) X.A.in1.in1 (call (.ref f) [u]) (EP X pins' U Q1) (λ_ _=>False) s1)
 (h:Ie G tb cap ns H λks H3=>∃kz,Io X.K H3 ks kz/\∀p ms,H3 p=none->Jb kz ns ms->Q (.ref p) (upd H3 p (.lst (ms.map V.int)))):
 wpAny (model X.prog X.w) X.A (call (.builtin "sorted") [l] [(Str.ofString "key",.ref f)]) (EP X O U Q) E s:=by
 refine call_function_entry_kw kind_sorted plain_sorted entry_sorted (ksk_s1 _ _) ?_;unfold Builtin.«sorted»;refine j5 (m:=checkCount "sorted" 1 1 _) (j8 ?_);refine j5 (hcol _ _ λg tk vs keep0 hi=>?_)
 replace I:Inv X O U H { s with heap:=g,toks:=tk }:=I.kept (t':=tk) keep0
 clear hcol;generalize { s with heap:=g,toks:=tk }=s at I ⊢;clear keep0 g tk;have line:vs.length<=sizeLine:=by have:=hi.length;rw[jw];omega
 have h64:vs.length<64:=by have:=hi.length;omega
 refine j5 (kT ?_ line);show wpAny _ _ _ _ _ { s with heap:=s.heap.push (seqObj "list" vs.toArray 0) };have hoL:(s.heap.push (seqObj "list" vs.toArray 0)).get? s.heap.objs.size=some (seqObj "list" vs.toArray 0):=Heap.get?_push_size _ rfl;have keep1:∀b o,s.heap.get? b=some o->(s.heap.push (seqObj "list" vs.toArray 0)).get? b=some o:=λb o q=>Heap.get?_push_of_some _ q;have sz1:(s.heap.push (seqObj "list" vs.toArray 0)).objs.size=s.heap.objs.size+1:=by rw[size_push']
 generalize s.heap.push (seqObj "list" vs.toArray 0)=h1 at hoL keep1 sz1 ⊢;have fa:∀H',H' s.heap.objs.size=none->FpOk X O H' s.heap.objs.size:=λH' hn=>I.fpOk (j9 _) hn;have fk:∀H',H' (s.heap.objs.size+2)=none->FpOk X O H' (s.heap.objs.size+2):=λH' hn=>I.fpOk (by omega) hn;refine j5 (jD (wpAny_call_entry_kw slot_list_sort ⟨_,hoL,rfl⟩ entry_list_sort ?_ (ksk_l1 _ _)));show wpAny (model X.prog X.w) X.A.in1.in1 (Builtin.«list.sort» ⟨[.ref (s.heap.objs.size)],[(Str.ofString "key",.ref f)]⟩) _ _ _;rw[ksk_t1];have u1:=Heap.SameBut.update h1 (s.heap.objs.size) (Obj.mapSeq λ_=>(#[]:Array Value));obtain⟨e1,ho1⟩:∃e1,(h1.update (s.heap.objs.size) (Obj.mapSeq λ_=>(#[]:Array Value))).get? (s.heap.objs.size)=some (seqObj "list" #[] e1):=⟨_,kR hoL λ_=>#[]⟩
 have sz2:(h1.update (s.heap.objs.size) (Obj.mapSeq λ_=>(#[]:Array Value))).objs.size=s.heap.objs.size+1:=by rw[Heap.size_update,sz1]
 have keep2:∀b o,s.heap.get? b=some o->(h1.update (s.heap.objs.size) (Obj.mapSeq λ_=>(#[]:Array Value))).get? b=some o:=λb o q=>(u1.2 b (jb (Heap.lt_size q))).trans (keep1 b o q);unfold ksk_tree;refine j5 (listItems_at hoL rfl ?_);refine j5 (kr hoL rfl ?_ (by rw[jd,jw];omega) (jA _));refine j5 (seqEpoch_at ho1 rfl ?_);generalize h1.update (s.heap.objs.size) (Obj.mapSeq λ_=>(#[]:Array Value))=h2 at ho1 sz2 keep2 ⊢;refine j5 (wpAny_newTuple ?_ (by show vs.length<=_;exact line));refine j5 (kT ?_ (jA _));have sz3:(h2.push (seqObj "tuple" vs.toArray 0)).objs.size=s.heap.objs.size+2:=by rw[size_push',sz2]
 have okS:((h2.push (seqObj "tuple" vs.toArray 0)).push (seqObj "list" #[] 0)).get? (s.heap.objs.size+2)=some (seqObj "list" #[] 0):=by rw[<- sz3];exact Heap.get?_push_size _ rfl
 have oa4:((h2.push (seqObj "tuple" vs.toArray 0)).push (seqObj "list" #[] 0)).get? (s.heap.objs.size)=some (seqObj "list" #[] e1):=Heap.get?_push_of_some _ (Heap.get?_push_of_some _ ho1);have keep4:∀b o,s.heap.get? b=some o->((h2.push (seqObj "tuple" vs.toArray 0)).push (seqObj "list" #[] 0)).get? b=some o:=λb o q=>Heap.get?_push_of_some _ (Heap.get?_push_of_some _ (keep2 b o q));have ekS:∀o:Obj,Value.ref ((({ s with heap:=h2.push o }:Shared)).heap.objs.size)=Value.ref (h2.push o).objs.size:=λ_=>rfl;refine jD ?_;have goal:∀kS:Addr,kS=s.heap.objs.size+2->wpAny (model X.prog X.w) X.A.in1.in1 (ksk_rest (s.heap.objs.size) (.ref f) false vs.toArray e1 (.ref kS)) (λfin s'=>∃v,fin=PySem.Fin.done (.ret v)/\wpAny (model X.prog X.w) X.A.in1 (ret (.ref (s.heap.objs.size))) (λfin s'=>∃v,fin=PySem.Fin.done (.ret v)/\EP X O U Q v s') E s') E { s with heap:=(h2.push (seqObj "tuple" vs.toArray 0)).push (seqObj "list" #[] 0) }:=by
  intro kS ek;rw[ek];have fresh0:H (s.heap.objs.size)=none/\H (s.heap.objs.size+2)=none:=⟨I.hok.fresh (by omega),I.hok.fresh (by omega)⟩
  have I4:Inv X O U H { s with heap:=(h2.push (seqObj "tuple" vs.toArray 0)).push (seqObj "list" #[] 0) }:=I.kept (t':=s.toks) keep4;have nak:s.heap.objs.size≠s.heap.objs.size+2:=by omega
  have I5:=(I4.repin (fk H fresh0.2) okS (λv z=>by cases z)).repin ((fa H fresh0.1).more nak.symm) oa4 (λv z=>by cases z);unfold ksk_rest;refine j5 (wpAny_rule ?_)
  first
   |rw[List.forIn_toArray]
   |(rw[<- Array.forIn_toList];simp only[List.toList_toArray])
   |rw[<- Array.forIn_toList]
  refine j5 (ksk_fold (λi s'=>∃(H':Hp) (kA:Array Value) (e:Nat) (ks:List V),Inv X ((s.heap.objs.size,seqObj "list" #[] e1)::(s.heap.objs.size+2,seqObj "list" kA e)::O) U H' s'/\Vals ks kA.toList/\kA.size=i /\
   Ie G tb cap (ns.drop i) H' λks' H3=>∃kz,Io X.K H3 (ks++ks') kz/\∀p ms,H3 p=none->Jb kz ns ms->Q (.ref p) (upd H3 p (.lst (ms.map V.int)))) vs 0 _ ⟨H,#[],0,[],I5,.nil,rfl,h⟩ ?step ?done)
  case step=>
   rintro j x s' hx ⟨H',kA,e,ks,J,rk,hsz,hgo⟩;simp only[Nat.zero_add]at hsz hgo ⊢;have hj:j<vs.length:=(List.getElem?_eq_some_iff.mp hx).1;have hjn:j<ns.length:=by have:=hi.length;omega
   have enx:ns[j]?=some ns[j]:=by simp[hjn]
   have edr:ns.drop j=ns[j]::ns.drop (j+1):=List.drop_eq_getElem_cons hjn;rw[edr]at hgo;obtain⟨hG,hgo⟩:=hgo;have rx:RelV (.int ns[j]) x:=by
    obtain⟨t,et⟩:=HF hi hj;have:vs.getD j .none=x:=by simp[List.getD,hx]
    rw[this]at et;have:ns.getD j 0=ns[j]:=by simp[hjn]
    rw[this]at et;exact⟨t,et⟩
   refine j5 (kK (jn (turn _ H' s' ns[j] x _ (λp hp=>jm _ (jm _ hp)) J rx hG hgo) (λv s'' he=>?_) λ_ _ hF=>hF.elim));obtain⟨k,H2,J2,r2,hgo2⟩:=he;dsimp only;have pk:=J2.pin (s.heap.objs.size+2,seqObj "list" kA e) (je _ (jm _ jt));have pa:=J2.pin (s.heap.objs.size,seqObj "list" #[] e1) (je _ jt);have u2:=Heap.SameBut.update s''.heap (s.heap.objs.size+2) (Obj.mapSeq (·.push v));obtain⟨c2,hc2⟩:∃c2,(s''.heap.update (s.heap.objs.size+2) (Obj.mapSeq (·.push v))).get? (s.heap.objs.size+2)=some (seqObj "list" (kA.push v) c2):=⟨_,kR pk.1 (·.push v)⟩
   refine j5 (kr pk.1 rfl ?_ (by rw[jw];omega) (jf (Nat.le_of_eq (Array.size_push ..)) (by rw[jw];omega)));have J3:Inv X ((s.heap.objs.size+2,seqObj "list" kA e)::O) U H2 s'':=J2.pins_of λp hp=>J2.pin p (je _ (jm _ hp));have J4:Inv X O U H2 { s'' with heap:=s''.heap.update (s.heap.objs.size+2) (Obj.mapSeq (·.push v)) }:=J3.turn1 (t':=s''.toks) (fk H2 pk.2.1) u2;have oa:(s''.heap.update (s.heap.objs.size+2) (Obj.mapSeq (·.push v))).get? (s.heap.objs.size)=some (seqObj "list" #[] e1):=(u2.2 _ nak).trans pa.1;have J5:=(J4.repin (fk H2 pk.2.1) hc2 (λv z=>by cases z)).repin ((fa H2 pa.2.1).more nak.symm) oa (λv z=>by cases z);refine j8 ⟨rfl,H2,kA.push v,c2,ks++[k],J5,?_,by simp[hsz],?_⟩
   .rw[Array.toList_push];exact rk.append (.cons r2 .nil)
   .simpa [List.append_assoc]using hgo2
  case done=>
   rintro s' ⟨H',kA,e,ks,J,rk,hsz,hgo⟩;have hdr:ns.drop (0+vs.length)=[]:=ky (by have:=hi.length;omega);rw[hdr]at hgo;obtain⟨kz,kv,fin⟩:∃kz,Io X.K H' (ks++[]) kz/\∀p ms,H' p=none->Jb kz ns ms->Q (.ref p) (upd H' p (.lst (ms.map V.int))):=hgo;rw[jI]at kv;have pk:=J.pin (s.heap.objs.size+2,seqObj "list" kA e) (je _ (jm _ jt));have pa:=J.pin (s.heap.objs.size,seqObj "list" #[] e1) (je _ jt);refine j5 (listItems_at pk.1 rfl ?_);have ekA:kA=kA.toList.toArray:=by simp
   rw[ekA]at pk ⊢;have lk:kA.toList.length=vs.length:=by rw[Array.length_toList];omega
   refine YY pk.1 pa.1 nak.symm (YV J kv rk) lk h64 λout so=>⟨_,rfl,j8 ⟨_,rfl,?_⟩⟩
   obtain⟨on,oi⟩:=eC hi so;have u5:=Heap.SameBut.update s'.heap (s.heap.objs.size+2) (Obj.mapSeq λ_=>(#[]:Array Value));have oa:(s'.heap.update (s.heap.objs.size+2) (Obj.mapSeq λ_=>(#[]:Array Value))).get? (s.heap.objs.size)=some (seqObj "list" #[] e1):=(u5.2 _ nak).trans pa.1;have u6:=Heap.SameBut.update (s'.heap.update (s.heap.objs.size+2) (Obj.mapSeq λ_=>(#[]:Array Value))) (s.heap.objs.size) (Obj.mapSeq λ_=>out.toArray);obtain⟨c6,hc6⟩:∃c6,((s'.heap.update (s.heap.objs.size+2) (Obj.mapSeq λ_=>(#[]:Array Value))).update (s.heap.objs.size) (Obj.mapSeq λ_=>out.toArray)).get? (s.heap.objs.size)=some (seqObj "list" out.toArray c6):=⟨_,kR oa λ_=>out.toArray⟩
   have J3:Inv X ((s.heap.objs.size+2,seqObj "list" kA e)::O) U H' s':=J.pins_of λp hp=>J.pin p (je _ (jm _ hp));have J4:Inv X O U H' { s' with heap:=s'.heap.update (s.heap.objs.size+2) (Obj.mapSeq λ_=>(#[]:Array Value)) }:=J3.turn1 (t':=s'.toks) (fk H' pk.2.1) u5;have J5:Inv X O U H' { s' with heap:=(s'.heap.update (s.heap.objs.size+2) (Obj.mapSeq λ_=>(#[]:Array Value))).update (s.heap.objs.size) (Obj.mapSeq λ_=>out.toArray) }:=(J4.repin (fa H' pa.2.1) oa (λv z=>by cases z)).turn1 (t':=s'.toks) (fa H' pa.2.1) u6;have lo:out.length<64:=by
    obtain⟨zs,pm,rfl,_⟩:=so;have:=pm.length_eq;simp at this ⊢;omega
   have J6:=J5.adopt (o:=.lst ((out.map Ei).map V.int)) (fa H' pa.2.1) (I.sz) ⟨by simp[jw];omega,out,c6,Jc oi,hc6⟩;exact⟨.ref _,_,J6,rfl,fin _ _ pa.2.1 on⟩
 exact goal _ sz3
end
def Src(K:Frag)(H:Hp)(a:Addr)(ns:List Int):Prop:=SqT K H a (ns.map V.int)∨∃n:Nat,n<64/\H a=some (.rng 0 n)/\ns=(List.range n).map λk:Nat=>(k:Int)
def Jf(K:Frag)(P:Addr)(q:Str)(pos:Pos)(ix:List Nat)(te tb:TE):TE:=λU H Q=>te U H λv H1=>∃(a:Addr) (ns:List Int) (ps:Array Value),v=.ref a/\Src K H1 a ns/\ns.length<64/\H1 P=some (.tbl ps)/\KA H1 q pos ps /\
 ∀H2 c,TabStep P q pos H1 H2->H2 c=some (.ext (cdF c q))->Ie (λH=>H c=some (.ext (cdF c q))) tb (ix.map λi=>(U[i]?).join) ns H2 λks H3=>∃kz,Io K H3 ks kz/\∀p ms,H3 p=none->Jb kz ns ms->Q (.ref p) (upd H3 p (.lst (ms.map V.int)))
def TabStep.rd(t:TabStep P q pos H H')(hP:H P=some (.tbl ps))(r:Rd H a (.tup xs)):Rd H' a (.tup xs):=by
 rcases t with rfl|⟨c,hc,_,rfl⟩
 .exact r
 .have ne:∀u,H a=some u->(∀ps,u≠.tbl ps)->upd (upd H P (.tbl #[rawInt pos.line,rawInt pos.col,.ref c])) c (.ext (cdF c q)) a=some u:=λu e n=>by
   rw[AC (AZ e hc),AC (λz=>by subst z;rw[hP]at e;cases e;exact n _ rfl)];exact e
  rcases r with r|⟨o,r⟩
  .exact .inl (ne _ r λps z=>by cases z)
  .exact .inr ⟨o,ne _ r λps z=>by cases z⟩
def TabStep.sqt{K:Frag}(t:TabStep P q pos H H')(hP:H P=some (.tbl ps))(r:SqT K H a xs):SqT K H' a xs:=by
 rcases r with r|r
 .exact .inl (t.rd hP r)
 .exact .inr r
def TabStep.src{K:Frag}(t:TabStep P q pos H H')(hP:H P=some (.tbl ps))(r:Src K H a ns):Src K H' a ns:=by
 rcases r with r|⟨n,h,e,z⟩
 .exact .inl (t.sqt hP r)
 .refine .inr ⟨n,h,?_,z⟩;rcases t with rfl|⟨c,hc,_,rfl⟩
  .exact e
  .rw[AC (AZ e hc),AC (λz=>by subst z;rw[hP]at e;cases e)];exact e
def QM{n:Nat}(it:ItemsOf (λi v=>∃t,v=.int (0+i*1) t) acc n):IntsAre acc.toList ((List.range n).map λk:Nat=>(k:Int)):=by
 have:=QJ (lo:=0) it;have e:Ge 0 n=((List.range n).map λk:Nat=>(k:Int)).map V.int:=by
  have:∀(lo:Nat) (n:Nat),Ge (lo:Int) n=((List.range' lo n).map λk:Nat=>(k:Int)).map V.int:=by
   intro lo n
   induction n generalizing lo with
   |zero=>rfl
   |succ n ih=>rw[Ge,List.range'_succ];simp only[jc];rw[<- ih (lo+1)];rfl
  rw[List.range_eq_range'];exact this 0 n
 rw[e]at this;exact GL rfl this
section
def Ua(LA:LamAt X c P)(S:CSc X scope fr ix)(L:LSc scope prm)(hr:Room 3 X.A)(hcm:X.calm=true)(hg:Gl X "sorted")(hm:X.mg "sorted"=none)
 (hbind:∀(cl:List (Str×Addr)) (pm cd ctv us:Value),bindArgs (kla_fn "<lambda>" (X.env.qual++"<lambda>") params body scope cl pm cd ctv) ⟨[us],[]⟩=pure [(prm,us)])
 (he:PE X e te) (hb:∀(f:Addr) (cd:Value) (s:Shared) (H:Hp),PE (lCx X X.A.in1.in1 (prm::fr) (X.env.qual++"<lambda>") scope f cd (Al X.env.cells scope.names []) s H) body tb)
 (hdef:defaultsOf params X.env=([],[]):=by rfl) (hs:starEach [e] X.env=[(false,eval e X.env)]:=by rfl):
 PE X (.Call (.Name "sorted" p) [e] [⟨some "key",.Lambda params body scope lpos,kpos⟩] pos) (Jf X.K P (X.env.qual++"<lambda>") lpos ix te tb):=by
 intro O s U H Q I h;have PAe:PA X [e] (Aq te BS):=B6 he C7 hs;refine jW (DO (u:=.builtin "sorted") I hg hm LS ?_);have pl:(backTo pos (starEach [e] X.env)).any (·.1)=false:=by rw[hs];rfl
 refine callWith_builtin_kwB pl rfl (evalArgs_kw2 (env:=X.env) (e:=e) (rest:=[]) (kws:=[⟨some "key",.Lambda params body scope lpos,kpos⟩]) rfl (thn (PAe pos O s U H (λvs H1=>match vs with
  |[v]=>∃(a:Addr) (ns:List Int) (ps:Array Value),v=.ref a/\Src X.K H1 a ns/\ns.length<64/\H1 P=some (.tbl ps)/\KA H1 (X.env.qual++"<lambda>") lpos ps /\
   ∀H2 c,TabStep P (X.env.qual++"<lambda>") lpos H1 H2->H2 c=some (.ext (cdF c (X.env.qual++"<lambda>")))->Ie (λH=>H c=some (.ext (cdF c (X.env.qual++"<lambda>")))) tb (ix.map λi=>(U[i]?).join) ns H2 λks H3=>∃kz,Io X.K H3 ks kz/\∀p ms,H3 p=none->Jb kz ns ms->Q (.ref p) (upd H3 p (.lst (ms.map V.int)))
  | _=>False) I h) λus s1 hq=>?_) hs)
 obtain⟨vs,H1,I1,r,q⟩:=hq
 match vs,q with
 |[v],q=>
 obtain⟨a,ns,ps,rfl,sq,h64,hP,hg1,go⟩:=q;obtain⟨u,rfl,ru⟩:=CU r;cases ru;show wpAny _ _ (evalAll [(do let v <- eval (.Lambda params body scope lpos) X.env;standAt pos;pure v)]) _ _ s1;refine wpAny_evalAll_cons (j5 (Ut S LA I1 hdef hP hg1 λf cd ctv H2 s2 I2 M=>j5 (kD (j8 (wpAny_evalAll_nil ?_)))));show wpAny _ _ (call (.builtin "sorted") [.ref a] [(Str.ofString "key",.ref f)]) _ _ s2;have sq2:=M.step.src hP sq;obtain⟨c',rfl,hc'⟩:=M.cdc;have ff:FpOk X O H2 f:=I1.fpOk M.new M.fre;have I3:=I2.repin ff M.fn (λv z=>by cases z);refine jn (Pf (O:=(f,_)::O) I3 h64 (λQ E hq=>?_) (λpins' H' s' n u Q1 sub J ru hG hq=>?_) (go H2 c' M.step hc')) (λv s' hv=>?_) λ_ _ z=>z
 .rcases sq2 with sq2|⟨n,hn,er,rfl⟩
  .obtain⟨its,rv,tp,_⟩:=I2.tuple sq2;have hi:IntsAre its ns:=GL rfl rv;have hlen:its.length<=sizeLine:=by have:=hi.length;rw[jw];omega
   refine OH tp (hq _ s2.toks its (λb o q=>?_) hi) hlen;have hlt:b<s2.heap.objs.size:=Heap.lt_size q;rw[Heap.get?_update_ne _ _ _ _ (jb hlt),Heap.get?_push_ne _ _ _ (jb hlt)];exact q
  .obtain⟨t,u,v,hr'⟩:∃t u v,s2.heap.get? a=some { cls:=.type "range",data:=.fields #[.int 0 t,.int n u,.int 1 v] }:=I2.hok a _ er;refine OB (n:=n) (I2.ok.hd hcm) hr' (small_one (by omega) (by omega) (by omega) (by omega)) (by rw[dN];omega) (by omega) λg tk acc kp it=>hq g tk _ kp (QM it)
 .have pf:=J.pin (f,_) (je _ (sub _ jt));exact Uu (A:=X.A.in1.in1) (f:=f) S L J rfl hr.in1.in1 pf.1 (J.hok c' _ hG).1 (λus=>hbind _ _ _ _ us) (λs H=>hb f _ s H) ru hq
 .obtain⟨y,H',J,ry,qy⟩:=hv;exact⟨y,H',J.pins_of λp hp=>J.pin p (je _ (jm _ hp)),ry,qy⟩
end
def M9(K:Frag)(P:Addr)(q:Str)(pos:Pos):Prop:=∃p':Pos,(P,q,p')∈DN K/\((DN K).map (·.1)).Nodup/\p'.line=pos.line/\p'.col=pos.col
open Classical in
def Ey(ds:List D):Option (List Int):=match BH ds with
 |some ns=>some ns
 |none=>match DZ ds with
  |some ps=>if ∀p∈ps,pok p then some (ps.map Aj)else none
  |none=>none
open Classical in
def FQ(mb:ME)(cap:Ls)(hd:Hd):List Int->Option (List D)
 |[]=>some []
 |n::r=>match mb (some (.im (.int n))::cap) hd with
  |some (k,h)=>match FQ mb cap hd r with
   |some ks=>if h=hd then some (k::ks)else none
   |none=>none
  |none=>none
theorem LJ:∀{ns:List Int} {ks:List D},FQ mb cap hd ns=some ks->ks.length=ns.length
 |[],ks,e=>by cases e;rfl
 |n::r,ks,e=>by
  unfold FQ at e;split at e
  .split at e
   .next ks' e2=>
    split at e
    .cases e;simp[LJ e2]
    .cases e
   .cases e
  .cases e
def QH(e:Ey ds=some kz):kz.length=ds.length:=by
 unfold Ey at e;split at e
 .next ns e6=>cases e;rw[Fz e6];simp
 .split at e
  .next ps e6=>
   split at e
   .cases e;rw[IA e6];simp
   .cases e
  .cases e
def GC(kz ns:List Int):List Int:=((kz.zip ns).mergeSort λa b=>decide (a.1<=b.1)).map (·.2)
def Uc{kz ns:List Int}(nd:kz.Nodup)(hl:kz.length=ns.length)(o:Jb kz ns ms):ms=GC kz ns:=by
 obtain⟨zs,pm,pw,rfl⟩:=o;have pm2:((kz.zip ns).mergeSort λa b=>decide (a.1<=b.1)).Perm (kz.zip ns):=kF ..;have pw2:((kz.zip ns).mergeSort λa b=>decide (a.1<=b.1)).Pairwise λa b=>a.1<=b.1:=by
  have:=List.pairwise_mergeSort (le:=λa b:Int×Int=>decide (a.1<=b.1)) (by intro a b c h1 h2;simp at *;omega) (by intro a b;simp;omega) (kz.zip ns);exact this.imp (by simp)
 have inj:∀a∈kz.zip ns,∀b∈kz.zip ns,a.1=b.1->a=b:=by
  intro a ha b hb e;obtain⟨i,hi⟩:=mem_iff_getElem?.mp ha;obtain⟨j,hj⟩:=mem_iff_getElem?.mp hb;obtain⟨i1,i2⟩:=List.getElem?_zip_eq_some.mp hi;obtain⟨j1,j2⟩:=List.getElem?_zip_eq_some.mp hj;rw[e]at i1;have:i=j:=(List.getElem?_inj (List.getElem?_eq_some_iff.mp i1).1 nd).mp (i1.trans j1.symm);subst this;rw[i2]at j2;exact Prod.ext e (Option.some.inj j2)
 have:zs=(kz.zip ns).mergeSort λa b=>decide (a.1<=b.1):=
  (pm.trans pm2.symm).eq_of_pairwise (le:=λa b=>a.1<=b.1) (λa b ha hb h1 h2=>inj a (pm.mem_iff.mp ha) b (pm2.mem_iff.mp hb) (Int.le_antisymm h1 h2)) pw pw2
 rw[this];rfl
def M6(m:MA):Ls->Hd->Option (List Int×Hd):=λls hd=>(m ls hd).bind λp=>match p.1 with
 |[.im (.int j)]=>if 0<=j/\j<64 then some ((List.range j.toNat).map λk:Nat=>(k:Int),p.2)else none
 |_=>none
open Classical in
def Ew(src:Ls->Hd->Option (List Int×Hd))(ix:List Nat)(mb:ME):MA:=λls hd=>(src ls hd).bind λp=>(FQ mb (ix.map λi=>(ls[i]?).join) p.2 p.1).bind λks=>(Ey ks).bind λkz=>
 if p.1.length<64/\kz.Nodup then some ((GC kz p.1).map λi=>.im (.int i),p.2)else none
abbrev Oq(m:MA)(ix:List Nat)(mb:ME):MA:=Ew (M6 m) ix mb
def VP(K:Frag)(te:TE)(src:Ls->Hd->Option (List Int×Hd)):Prop:=∀(ρ:List Addr) (U:St) (H:Hp) (hd:Hd) (ls:Ls) (Q:VK) (ns:List Int) (hd':Hd),RH K ρ H hd->RL K ρ H ls U->src ls hd=some (ns,hd') ->
 (∀ρ1 H1 a,Ext ρ H ρ1 H1->RH K ρ1 H1 hd'->Src K H1 a ns->Q (.ref a) H1)->te U H Q
section
variable{K:Frag}
def TW(R:RH K ρ H hd)(hP:H P=some (.tbl ps))(t:TabStep P q pos H H2)(TI:M9 K P q pos):RH K ρ H2 hd/\Ext ρ H ρ H2:=by
 rcases t with rfl|⟨c,hc,ncP,rfl⟩
 .exact⟨R,.refl⟩
 .obtain⟨p',et,nd,e1,e2⟩:=TI;have nP:∀b,b∈ρ->b≠P:=λb hb z=>by
   subst z;rcases R.mut hb with⟨y,w⟩|⟨y,w⟩<;>(rw[hP]at w;cases w)
  have nc:∀b u,H b=some u->b≠c:=λb u e=>AZ e hc;have ex:Ext ρ H ρ (upd (upd H P (.tbl #[rawInt pos.line,rawInt pos.col,.ref c])) c (.ext (cdF c q))):=by
   refine⟨⟨[],by simp,by simp⟩,λb o e nb nt'=>?_,λb ps e=>?_⟩
   .rw[AC (nc b _ e),AC (λz=>by subst z;rw[hP]at e;cases e;exact nt' _ rfl)];exact e
   .by_cases z:b=P
    .subst z;exact⟨_,by rw[AC (nc _ _ hP),AJ]⟩
    .exact⟨ps,by rw[AC (nc b _ e),AC z];exact e⟩
  refine⟨⟨R.len,R.nd,λx hx=>?_,λn o a h1 h2=>?_⟩,ex⟩
  .by_cases hxP:x.1=P
   .have ex:x=(P,q,p'):=by
     obtain⟨i,hi⟩:=mem_iff_getElem?.mp hx;obtain⟨j,hj⟩:=mem_iff_getElem?.mp et;have i1:((DN K).map (·.1))[i]?=some P:=by rw[List.getElem?_map,hi];simp[hxP]
     have j1:((DN K).map (·.1))[j]?=some P:=by rw[List.getElem?_map,hj];rfl
     have:i=j:=(List.getElem?_inj (List.getElem?_eq_some_iff.mp i1).1 nd).mp (i1.trans j1.symm);subst this;exact Option.some.inj (hi.symm.trans hj)
    subst ex;refine⟨#[rawInt pos.line,rawInt pos.col,.ref c],by rw[AC (nc _ _ hP),AJ],.inr ⟨c,?_,AJ⟩⟩;show #[rawInt pos.line,rawInt pos.col,Value.ref c]=#[rawInt p'.line,rawInt p'.col,Value.ref c];rw[e1,e2]
   .obtain⟨ps',hx1,hG⟩:=R.tabs x hx;refine⟨ps',by rw[AC (nc _ _ hx1),AC hxP];exact hx1,?_⟩;rcases hG with g|⟨c',g1,g2⟩
    .exact .inl g
    .exact .inr ⟨c',g1,by rw[AC (nc _ _ g2),AC (λz=>by subst z;rw[hP]at g2;cases g2)];exact g2⟩
  .obtain⟨ho,q1,q2⟩:=R.ob n o a h1 h2;exact⟨ho,by rw[AC (nc a _ q1),AC (nP a (jq h2))];exact q1,by simpa using q2.mono (ex.grow R) []⟩
theorem Ou{ix:List Nat}(hb:RE K tb mb):∀{ns:List Int} {kds:List D} {ρ:List Addr} {H:Hp} {Q:List V->Hp->Prop},RH K ρ H hd->RL K ρ H ls U->H c=some (.ext (cdF c q)) ->
 FQ mb (ix.map λi=>(ls[i]?).join) hd ns=some kds->(∀ρ' H' ks,Ext ρ H ρ' H'->RH K ρ' H' hd->RDs K ρ' H' kds ks->Q ks H')->Ie (λH=>H c=some (.ext (cdF c q))) tb (ix.map λi=>(U[i]?).join) ns H Q
 |[],kds,ρ,H,Q,R,L,hc,e,k=>by
  cases e;exact k ρ H [] .refl R (by simp[RDs])
 |n::r,kds,ρ,H,Q,R,L,hc,e,k=>by
  unfold FQ at e;split at e
  .next kd h e1=>
   split at e
   .next ks e2=>
    split at e
    .next eh=>
     cases e;rw[eh]at e1;refine⟨hc,hb ρ _ H _ (some (.im (.int n))::ix.map λi=>(ls[i]?).join) _ kd _ R ⟨by simp,λi d ei=>?_⟩ e1 λρ1 H1 v1 x1 R1 r1=>?_⟩
     .cases i with
      |zero=>cases ei;exact⟨.int n,rfl,by simp[RD,RI]⟩
      |succ j=>
       have ei:(ix.map λi=>(ls[i]?).join)[j]?=some (some d):=ei;rw[List.getElem?_map]at ei;cases qj:ix[j]? with
       |none=>rw[qj]at ei;cases ei
       |some m=>
        rw[qj]at ei;have ei:(ls[m]?).join=some d:=Option.some.inj ei;have em:ls[m]?=some (some d):=by
         cases w:ls[m]? with
         |none=>rw[w]at ei;cases ei
         |some z=>rw[w]at ei;simpa using ei
        obtain⟨v,ev,rv⟩:=L.ob m d em;refine⟨v,?_,rv⟩;show(ix.map λi=>(U[i]?).join)[j]?=some (some v);rw[List.getElem?_map,qj];simp[ev]
     .have oc:c∉ρ:=λm=>by rcases R.mut m with⟨y,w⟩|⟨y,w⟩<;>(rw[hc]at w;cases w)
      refine Ou hb R1 (L.ext R x1) (x1.keep c _ hc oc nt) e2 λρ2 H2 ks2 x2 R2 r2=>?_;exact k ρ2 H2 (v1::ks2) (x1.trans R1 x2) R2 (.cons (r1.ext R1 x2) r2)
    .cases e
   .cases e
  .cases e
def WW(h:RA K t m):VP K (tCB S6 t) (M6 m):=by
 intro ρ U H hd ls Q ns hd' hR hL hm k;obtain⟨⟨d1,h1⟩,e1,hm⟩:=gV hm;dsimp only at hm;refine h ρ U H hd ls _ d1 h1 hR hL e1 λρ1 H1 v x1 R1 r1=>?_;split at hm
 .next j=>
  split at hm
  .next c=>
   cases hm;simp only[RDs,RD,RI]at r1;obtain⟨x,r,rfl,rfl,rfl⟩:=r1;refine .inl ⟨j,rfl,λp hp=>?_⟩;obtain⟨R2,x2⟩:=R1.hid (ho:=.rng 0 j) hp;refine k ρ1 _ p (x1.trans R1 x2) R2 (.inr ⟨j.toNat,by omega,?_,rfl⟩);rw[AJ,Int.toNat_of_nonneg c.1]
  .cases hm
 .cases hm
def Tr{src:Ls->Hd->Option (List Int×Hd)}(hi:VP K te src)(hb:RE K tb mb)(TI:M9 K P q pos):RN K (Jf K P q pos ix te tb) (Ew src ix mb):=by
 and_intros;obtain⟨⟨ns,h1⟩,e1,hm⟩:=gV hm;obtain⟨kds,e4,hm⟩:=gV hm;obtain⟨kz,e5,hm⟩:=gV hm;dsimp only at hm e4;split at hm
 .next cc=>
  cases hm;refine hi ρ U H hd ls _ ns _ hR hL e1 λρ1 H1 a x1 R1 sq=>?_;obtain⟨p',et,_,l1,l2⟩:=id TI;obtain⟨ps,hP,hG⟩:=R1.tabs (P,q,p') et;have hG':KA H1 q pos ps:=by
   rcases hG with g|⟨c,g1,g2⟩
   .exact .inl g
   .refine .inr ⟨c,?_,g2⟩;rw[g1];show #[rawInt p'.line,rawInt p'.col,Value.ref c]=_;rw[l1,l2]
  refine⟨a,ns,ps,rfl,sq,cc.1,hP,hG',λH2 c step hc=>?_⟩;obtain⟨R2,x2⟩:=TW R1 hP step TI;have x12:=x1.trans R1 x2;refine Ou hb R2 (hL.ext hR x12) hc e4 λρ3 H3 ks x3 R3 r3=>?_;have x13:=x12.trans R2 x3;refine⟨kz,?_,λp ms hp out=>?_⟩
  .unfold Ey at e5;split at e5
   .next ns' e6=>
    cases e5;rw[Fz e6]at r3;exact .inl r3.ints
   .split at e5
    .next ps' e6=>
     split at e5
     .next ok=>
      cases e5;rw[IA e6]at r3;refine .inr ⟨ps',rfl,ok,by have:=r3.len;simp at this;omega,λi k p ek ep=>?_⟩;obtain⟨w,ew,rw_⟩:=r3.get (i:=i) (d:=BG p) (by rw[List.getElem?_map,ep];rfl);rw[ek]at ew;cases ew;exact Oa rw_
     .cases e5
    .cases e5
  .have lz:kz.length=ns.length:=by
    rw[QH e5,LJ e4]
   have:=Uc cc.2 lz out;subst this;obtain⟨R4,x4⟩:=R3.hid (ho:=.lst ((GC kz ns).map V.int)) hp;exact hQ ρ3 _ p _ (x13.trans R3 x4) R4 (x13.none hR hp R3) (R3.out hp) AJ Gn
 .cases hm
end
structure LamC(K:Frag)(mg:Str->Option Value)(base:Heap)(fd:FuncData)(c P:Addr)(q:Str)(pos:Pos):Prop where
 code:fd.code=.ref c
 hd:CodeHd base c P
 bl:base.BuiltinsAt mg P
 ti:M9 K P q pos
structure QSrc(K:Frag)(X:Cx)(e:Expr)(te:TE)(src:Ls->Hd->Option (List Int×Hd)):Prop where
 p:PE X e te
 r:VP K te src
def UD(K:Frag){X:Cx}(hm2:X.mg "range"=none)(ha:QA K X [a] t m)(hg2:Gl X "range":=by rfl)(he2:starEach [a] X.env=[(false,eval a X.env)]:=by rfl):QSrc K X (.Call (.Name "range" p2) [a] [] pos2) (tCB S6 t) (M6 m):=
 ⟨Et (call_rng1.or Sx) hg2 hm2 boot_range ha.p (by decide) (by decide) he2 rfl,WW ha.r⟩
def UG(K:Frag){src:Ls->Hd->Option (List Int×Hd)}{p pos kpos:Pos}{k:Nat}(LA:LamAt X c P)(TI:M9 K P (X.env.qual++"<lambda>") lpos)(S:CSc X scope fr ix)(L:LSc scope prm)(hr:Room k X.A)(h3:3<=k)(hm:X.mg "sorted"=none)
 (he:QSrc K X e te src) (hb:∀(f:Addr) (cd:Value) (s:Shared) (H:Hp),QE K (lCx X X.A.in1.in1 (prm::fr) (X.env.qual++"<lambda>") scope f cd (Al X.env.cells scope.names []) s H) body tb mb)
 (hbind:∀(cl:List (Str×Addr)) (pm cd ctv us:Value),bindArgs (kla_fn "<lambda>" (X.env.qual++"<lambda>") params body scope cl pm cd ctv) ⟨[us],[]⟩=pure [(prm,us)])
 (hcm:X.calm=true:=by rfl) (hg:Gl X "sorted":=by rfl) (hdef:defaultsOf params X.env=([],[]):=by rfl) (hs:starEach [e] X.env=[(false,eval e X.env)]:=by rfl) (hK:X.K=K:=by rfl):
 QN K X (.Call (.Name "sorted" p) [e] [⟨some "key",.Lambda params body scope lpos,kpos⟩] pos) (Jf K P (X.env.qual++"<lambda>") lpos ix te tb) (Ew src ix mb):=by
 subst hK;exact⟨Ua LA S L (hr.mono h3) hcm hg hm hbind he.p (λf cd s H=>(hb f cd s H).p) hdef hs,Tr he.r (hb 0 .none X.s₀ X.H₀).r TI⟩
def Ue{K:Frag}{mg:Str->Option Value}{st:Stmt}{j:Nat}(DA:DefAt K mg x st f fd ps)(S:FnScope N ps (AA st))
 (h:∀(cdv:Value) (A:Around) (outer:List Env) (s:Shared) (H:Hp) (E:XK),fd.code=cdv->Room j (A.deeper (envOfC x (AA st) s.heap.objs.size f cdv))->∃t,QSs K (Dq CX0 P w K mg base N x (AA st) f cdv A outer s H E).nox (BE st) t m):
 FnOk P w K mg base CX0 (j+1) f fd ps (spF K ps.length (mkF ps.length N.length m)):=by
 obtain⟨F,hmg,bd⟩:=DA;obtain⟨⟨oc,od,kV,doc,pm,an,cdv,ct,osl,rfl,lk,hcd⟩,kp⟩:=F;refine Qa lk hcd S (λvs H Q E h=>h.1) λA outer s H vs Q E hr hs=>?_;obtain⟨t,q⟩:=h cdv A outer s H E rfl hr;exact⟨t,q.p.nox,OQ q.r hs⟩
def Pi(g:Int->Int)(ns:List Int):(GC (ns.map g) ns).Perm ns/\(GC (ns.map g) ns).Pairwise λa b=>g a<=g b:=by
 have pm:(((ns.map g).zip ns).mergeSort λa b=>decide (a.1<=b.1)).Perm ((ns.map g).zip ns):=kF ..;have pw:(((ns.map g).zip ns).mergeSort λa b=>decide (a.1<=b.1)).Pairwise λa b=>a.1<=b.1:=by
  have:=List.pairwise_mergeSort (le:=λa b:Int×Int=>decide (a.1<=b.1)) (by intro a b c h1 h2;simp at *;omega) (by intro a b;simp;omega) ((ns.map g).zip ns);exact this.imp (by simp)
 have ez:(ns.map g).zip ns=ns.map λn=>(g n,n):=by
  clear pm pw
  induction ns with
  |nil=>rfl
  |cons n r ih=>simp[ih]
 have el:∀a∈(((ns.map g).zip ns).mergeSort λa b=>decide (a.1<=b.1)),a.1=g a.2:=λa ha=>by
  have:=pm.mem_iff.mp ha;rw[ez]at this;obtain⟨n,_,rfl⟩:=mem_map.mp this;rfl
 refine⟨?_,?_⟩
 .have:=pm.map (·.2);unfold GC;refine this.trans ?_;rw[ez,jh];have:((λx:Int×Int=>x.2) ∘ λn=>(g n,n))=id:=rfl;rw[this,List.map_id]
 .unfold GC;rw[jZ];exact pw.imp_of_mem λ{a b} ha hb h=>by rw[<- el a ha,<- el b hb];exact h
theorem LI(kf:Int->D):∀{ns:List Int},(∀n∈ns,mb (some (.im (.int n))::cap) hd=some (kf n,hd))->FQ mb cap hd ns=some (ns.map kf)
 |[],_=>rfl
 |n::r,h=>by
  unfold FQ;rw[h n jt,LI kf λm hm=>h m (jm _ hm)];simp
def NN(hne:ps≠[])(hok:∀p∈ps,pok p):Ey (ps.map BG)=some (ps.map Aj):=by
 unfold Ey;have:BH (ps.map BG)=none:=by
  cases ps with
  |nil=>exact absurd rfl hne
  |cons p r=>rfl
 rw[this,Jt];simp only[j6 hok]
def SJ{g:Int->Int}{ns:List Int}(nd:ns.Nodup)(h:∀a∈ns,∀b∈ns,g a=g b->a=b):(ns.map g).Nodup:=by
 rw[List.nodup_iff_pairwise_ne,jZ];exact(List.nodup_iff_pairwise_ne.mp nd).imp_of_mem λ{a b} ha hb hne e=>hne (h a ha b hb e)
def TU{src:Ls->Hd->Option (List Int×Hd)}{ix:List Nat}{QA:List D->Hd->Prop}(h:∃ns x,src ls hd=some (ns,x)/\∃(kf:Int->Int×Int),ns.length<64/\ns.Nodup/\(∀n∈ns,pok (kf n))/\(∀a∈ns,∀b∈ns,Aj (kf a)=Aj (kf b)->a=b)/\
 (∀n∈ns,mb (some (.im (.int n))::ix.map λi=>(ls[i]?).join) x=some (BG (kf n),x))/\∀ms:List Int,ms.Perm ns->ms.Pairwise (λa b=>Aj (kf a)<=Aj (kf b))->QA (ms.map λn=>.im (.int n)) x):WA (Ew src ix mb) ls hd QA:=by
 obtain⟨ns,x,e,kf,h64,nd,ok,inj,ek,q⟩:=h;have e2:=LI (λn=>BG (kf n)) ek;by_cases hne:ns=[]
 .subst hne;refine⟨[],x,?_,q [] (.refl _) .nil⟩;simp[Ew,e,BH,FQ,Ey,GC]
 .have e3:Ey (ns.map λn=>BG (kf n))=some (ns.map λn=>Aj (kf n)):=by
   have:=NN (ps:=ns.map kf) (by simpa using hne) (by simpa using ok);rw[jh,jh]at this;exact this
  have sp:=Pi (λn=>Aj (kf n)) ns;refine⟨_,x,?_,q _ sp.1 sp.2⟩;simp only[Ew,e,bind_some,e2,e3,h64,SJ nd inj,and_self,jB]
def Qx{ix:List Nat}{QA:List D->Hd->Prop}(h:WA m ls hd λds x=>∃n:Nat,ds=[.im (.int (n:Int))]/\n<64/\∃(kf:Int->Int×Int),(∀k,k<n->pok (kf k))/\(∀a,a<n->∀b,b<n->Aj (kf a)=Aj (kf b)->a=b)/\
 (∀k:Nat,k<n->mb (some (.im (.int k))::ix.map λi=>(ls[i]?).join) x=some (BG (kf k),x))/\∀ms:List Int,ms.Perm ((List.range n).map λk:Nat=>(k:Int))->ms.Pairwise (λa b=>Aj (kf a)<=Aj (kf b))->QA (ms.map λn=>.im (.int n)) x):WA (Oq m ix mb) ls hd QA:=by
 obtain⟨ds,x,e,n,rfl,hn,kf,ok,inj,ek,q⟩:=h;have mem:∀z∈(List.range n).map λk:Nat=>(k:Int),∃k:Nat,k<n/\z=k:=λz hz=>by
  obtain⟨k,hk,rfl⟩:=mem_map.mp hz;exact⟨k,by simpa using hk,rfl⟩
 refine TU ⟨(List.range n).map λk:Nat=>(k:Int),x,?_,kf,by simpa using hn,?_,λz hz=>?_,λy hy z hz=>?_,λz hz=>?_,q⟩
 .have c:(0:Int)<=n/\(n:Int)<64:=by omega
  simp only[M6,e,bind_some,j6 c,kB]
 .rw[List.nodup_iff_pairwise_ne,jZ];exact(List.nodup_iff_pairwise_ne.mp List.nodup_range).imp λh=>by omega
 .obtain⟨k,hk,rfl⟩:=mem z hz;exact ok k hk
 .obtain⟨k,hk,rfl⟩:=mem y hy;obtain⟨l,hl,rfl⟩:=mem z hz;intro e;rw[inj k hk l hl e]
 .obtain⟨k,hk,rfl⟩:=mem z hz;exact ek k hk
end L2
namespace HT
open PySem PyProof.Rows
open PySem.AutoSeq1 (wpAny_loadPart')
section
variable{A:Around}{E:Value->Shared->Prop}
def drawsT(hh:A.handled=none)(it t:Addr)(hne:t≠it)(items:Array Value):
 Draws prog w A it [it,t] items.size (λi v=>items[i]?=some v) (λi h=>h.IsTupleIter it t i/\h.IsTuple t items) where
 live:=λ_ _ st=>let ⟨o,ho,_⟩:=st.1;⟨o,ho⟩
 frame:=λ_ _ _ st hk=>⟨let ⟨o,ho,r⟩:=st.1;⟨o,hk it (by simp) o ho,r⟩,let ⟨o,ho,r⟩:=st.2;⟨o,hk t (by simp) o ho,r⟩⟩
 item:=λi s Q E hi st hQ=>by
  refine L2.tup_next st.1 st.2 (x:=items[i]) (by simp[hi]) λh' hit' hs'=>?_;exact hQ _ h' s.toks (by simp[hi]) ⟨hit',st.2.extBut hs'.extBut hne⟩ hs'
 done:=λs Q E st hE=>L2.tup_stop hh st.1 st.2 (by simp) hE
end
def Sh(l:Addr)(items:Array Value)(n:Nat)(dct:Option Addr)(sl:Array (Option Value)):
 Meets (Builtin.«enumerate.__new__» ⟨[.type "enumerate",.ref l],[]⟩) (λ_ R s=>s.heap.get? l=some { cls:=.type "tuple",dict:=dct,data:=.seq items n,slots:=sl } /\
  R (.ok (.ret (.ref (s.heap.push { cls:=.type "tuple_iterator",data:=.fields #[.ref l,.int 0 0] }).objs.size)))
   { s with heap:=(s.heap.push { cls:=.type "tuple_iterator",data:=.fields #[.ref l,.int 0 0] }).push { cls:=.type "enumerate",data:=.fields #[.none,.bool false,.ref s.heap.objs.size,rawInt 0,.none,.none] } }):=
 .of_wp λprog w A R s h=>by
  obtain⟨hp,g,d,tk,os⟩:=s;obtain⟨hl,h⟩:=h;have hsub:=sub_enumerate;have hL:Heap.IsTuple (Shared.heap ⟨hp,g,d,tk,os⟩) l items:=⟨_,hl,rfl,n,rfl⟩
  wp_walk using wpAny_loadPart' hl
  refine wpAny_stack_any λst=>j8 ?_;split
  .rename_i c _ _ _ _ _
   cases(c==Value.type "enumerate")
   .wp_walk using wpAny_loadPart' hl,wpAny_pyIter_tuple hL
    exact⟨_,rfl,h⟩
   .wp_walk using wpAny_loadPart' hl,wpAny_pyIter_tuple hL
    exact⟨_,rfl,h⟩
  .wp_walk using wpAny_loadPart' hl,wpAny_pyIter_tuple hL
   exact⟨_,rfl,h⟩
def call_enumT{prog:Program}{w:World}{A:Around}{E:Value->Shared->Prop}{s:Shared}{Q:Value->Shared->Prop}(hL:IsTup s.heap l items)
 (h:∀h',IsEnum h' (s.heap.objs.size+1) s.heap.objs.size 0 .none->h'.IsTupleIter s.heap.objs.size l 0->h'.objs.size=s.heap.objs.size+2 ->
  (∀b o,s.heap.get? b=some o->h'.get? b=some o)->Q (.ref (s.heap.objs.size+1)) { s with heap:=h' }):
 wpAny (model prog w) A (call (.type "enumerate") [.ref l]) Q E s:=by
 obtain⟨⟨c,dct,dt,sl⟩,hl,hc,n,hd⟩:=hL
 replace hc:c=.type "tuple":=hc
 replace hd:dt=.seq items n:=hd
 subst hc hd;refine callType_new F.called_enumerate (by decide) (F.typeCall_enumerate_1 _) (F.newCall_enumerate_1 _) (λobj=>F.args_object_init_2 obj _) F.entry_enumerate_new
  (Sh l items n dct sl) ⟨hl,?_⟩
 have hz:(s.heap.push { cls:=.type "tuple_iterator",data:=.fields #[.ref l,.int 0 0] }).objs.size=s.heap.objs.size+1:=Heap.size_push ..;show _/\_;rw[hz];have he:IsEnum ((s.heap.push { cls:=.type "tuple_iterator",data:=.fields #[.ref l,.int 0 0] }).push
  { cls:=.type "enumerate",data:=.fields #[.none,.bool false,.ref s.heap.objs.size,rawInt 0,.none,.none] }) (s.heap.objs.size+1) s.heap.objs.size 0 .none:=by
  have:=Heap.get?_push_size (s.heap.push { cls:=.type "tuple_iterator",data:=.fields #[.ref l,.int 0 0] })
   (o:={ cls:=.type "enumerate",data:=.fields #[.none,.bool false,.ref s.heap.objs.size,rawInt 0,.none,.none] }) rfl
  rw[hz]at this;exact this
 refine⟨⟨_,he,rfl⟩,h _ he ⟨_,Heap.get?_push_of_some _ (Heap.get?_push_size _ rfl),rfl,rfl⟩ (by rw[Heap.size_push,hz]) λb o x=>Heap.get?_push_of_some _ (Heap.get?_push_of_some _ x)⟩
end HT
namespace L2
open PySem PySem.Spec PyProof.Rows
structure ETt(h:Heap)(e it l:Addr)(i:Nat):Prop where
 e:∃old,IsEnum h e it i old
 r:h.IsTupleIter it l i
def ItT(K:Frag)(a:Addr):It:=
 ⟨λi H=>∃xs x,SqT K H a xs/\xs[i]?=some x,
  λi H x H'=>∃p v,H p=none/\H'=upd H p (.tup [.int (i:Int),v])/\x=.ref p/\∀xs,SqT K H a xs->xs[i]?=some v,
  λi H=>∃xs,SqT K H a xs/\xs.length=i⟩
def PN{K:Frag}{kk:Nat}(ne:e≠it)(nl:l≠it)(nle:e≠l):Turn P w K (.Tuple elts kk tpos) (ItT K l) [e,it] e (λi h=>ETt h e it l i) where
 mem:=by simp
 obj:=λi h st c hc=>by
  obtain⟨⟨old,he⟩,hr⟩:=st;simp only[ja,ji,jk]at hc;rcases hc with rfl|rfl
  .exact⟨_,he,λv z=>by cases(show Data.fields _=Data.cell v from z)⟩
  .obtain⟨o,q,_,d⟩:=hr;exact⟨o,q,λv z=>by rw[d]at z;cases z⟩
 keep:=λi h h' st k=>by
  obtain⟨⟨old,he⟩,o,q,r⟩:=st;exact⟨⟨old,k e (by simp) _ he⟩,o,k it (by simp) _ q,r⟩
 item:=by
  intro X hP hw hK hc i O s U H E I hf st hg;subst hP hw hK;obtain⟨xs,x,h1,hx⟩:=hg;obtain⟨its,r,pl,hz⟩:=I.tuple h1;obtain⟨u,hu,ru⟩:=r.get hx;obtain⟨⟨old,he⟩,hr⟩:=st;have hlt:i<its.toArray.size:=by
   have:=(List.getElem?_eq_some_iff.mp hu).1;simpa using this
  have hd:X.A.in1.handled=none:=I.ok.hd hc;refine wpAny_pyNext_enum_itemD (HT.drawsT hd it l nl its.toArray) he ⟨hr,pl⟩ hlt ne (by simp;exact⟨ne,nle⟩) λx' g tk hx' ho hr' ht hsz kp=>⟨_,rfl,?_⟩
  have ex:x'=u:=by
   have hx':its.toArray[i]?=some x':=hx';rw[List.getElem?_toArray,hu]at hx';exact(Option.some.inj hx').symm
  subst ex;refine kW ho λg' e' sb=>?_;have hle:e<s.heap.objs.size:=Heap.lt_size he;have kp2:∀c o,c∉[e,it]->s.heap.get? c=some o->g'.get? c=some o:=λc o nc q=>by
   simp only[ja,ji,jk,not_or]at nc;exact sb.extBut _ _ nc.1 (kp c o nc.1 nc.2 q)
  have hT:s.heap.objs.size≠e:=jv hle;have hpair:g'.get? s.heap.objs.size=some { cls:=.type "tuple",data:=.seq #[.int i tk,x'] }:=sb.extBut _ _ hT ht;have fresh:H s.heap.objs.size=none:=I.hok.fresh (j9 _);have I2:Inv X O U (upd H s.heap.objs.size (.tup [.int (i:Int),x])) { s with heap:=g',toks:=tk+1 }:=I.turnsL (tk:=tk+1) (o:=.tup [.int (i:Int),x]) kp2 hf (j9 _)
   (show ObjOk X.prog X.w _ g' _ (.tup [.int (i:Int),x])from⟨by show 2<=sizeLine;decide,[.int i tk,x'],.cons ⟨_,rfl⟩ (.cons ru .nil),⟨_,hpair,rfl,⟨_,rfl⟩,rfl⟩⟩)
  refine⟨.ref s.heap.objs.size,_,I2,rfl,⟨s.heap.objs.size,x,fresh,rfl,rfl,λxs' q=>by rw[I.tuple_inj q h1];exact hx⟩,⟨⟨x',?_⟩,?_⟩,λc hc=>?_⟩
  .have:=e';rw[show((i:Int)+1)=((i+1:Nat):Int) by omega]at this;exact this
  .exact hr'.1.extBut sb.extBut (Ne.symm ne)
  .have lt:c<s.heap.objs.size:=by
    simp only[ja,ji,jk]at hc;rcases hc with rfl|rfl
    .exact hle
    .obtain⟨o,q,_⟩:=hr;exact Heap.lt_size q
   rw[AC (jb lt)];exact(hf c hc).1
 done:=by
  intro X hP hw hK hc i O s U H E I hf st hg;subst hP hw hK;obtain⟨xs,h1,hend⟩:=hg;obtain⟨its,r,pl,hz⟩:=I.tuple h1;have l1':=r.length;obtain⟨⟨old,he⟩,hr⟩:=st;have hd:X.A.in1.handled=none:=I.ok.hd hc;have en:i=its.toArray.size:=by simp;omega
  subst en;refine wpAny_pyNext_enum_endD (HT.drawsT hd it l nl its.toArray) he ⟨hr,pl⟩ λg x=>⟨rfl,?_⟩
  exact I.turns (tk:=s.toks) (λc o nc q=>by
   simp only[ja,ji,jk,not_or]at nc;exact x c o nc.2 q) hf
 self:=λ_ _ _ _ _ st h=>by
  obtain⟨⟨old,he⟩,hr⟩:=st;exact kN he h
def NW(K:Frag)(ta:TA):TI:=λU H R=>ta U H λvs H1=>∃a xs,vs=[.ref a]/\SqT K H1 a xs/\R (ItT K a) H1
def UX(K:Frag){elts:List Expr}{kk:Nat}{tpos p pos:Pos}(hg:Gl X "enumerate")(hm:X.mg "enumerate"=none)(ha:PA X [a] ta)(hK:X.K=K:=by rfl)(hs:starEach [a] X.env=[(false,eval a X.env)]:=by rfl):
 PI X (.Tuple elts kk tpos) (.Call (.Name "enumerate" p) [a] [] pos) (NW K ta):=by
 subst hK;intro O s U H R I h;refine Call_ (DO I hg hm EZ (PyProof.Rows.callWith_type1 (thn (ha pos O s U H _ I h) λus s1 ⟨vs,H1,I1,r1,q1⟩=>?_) hs rfl));obtain⟨l,xs,e,c,q⟩:=q1;subst e;obtain⟨u,rfl,ru⟩:=r1.one;cases ru;obtain⟨its,r,pl,hz⟩:=I1.tuple c;have ll:l<s1.heap.objs.size:=by obtain⟨o,ho,_⟩:=pl;exact Heap.lt_size ho
 refine HT.call_enumT pl λg he hr hsz kp=>kN he ?_;refine⟨_,_,_,_,H1,rfl,I1.kept (t':=s1.toks) kp,PN (jv (Nat.lt_succ_self _)) (jb ll) (jv (k9 ll)),⟨⟨_,he⟩,hr⟩,λc hc=>?_,q⟩;simp only[ja,ji,jk]at hc;have le:s1.heap.objs.size<=c:=by
  rcases hc with rfl|rfl
  .exact kc _ _
  .exact j9 _
 exact I1.fpOk le (I1.hok.fresh le)
def Tt{K:Frag}(ha:RRw K true ta ma):RIt K (NW K (Aq ta BS)) (Bz ma):=by
 intro ρ U H hd ls Q d g hd' hR hL hm hQ;obtain⟨⟨⟨d1,g1⟩,h1⟩,e1,e2⟩:=j4 hm;cases e2;refine ha ρ U H hd ls _ d1 g1 h1 hR hL e1 λρ1 H1 a x1 R1 G1 S1=>?_;obtain⟨xs,c1,r1⟩:=S1 ρ1 H1 _ .refl R1 G1;refine⟨a,xs,rfl,c1,hQ ρ1 H1 _ x1 R1 G1 ?_⟩;intro ρ3 H3 hd3 x3 R3 G3 i;obtain⟨xs,c1,r1⟩:=S1 ρ3 H3 _ x3 R3 G3;have l1:=r1.len;refine⟨λhi=>?_,λhi=>⟨xs,c1,?_⟩⟩
 .have hi:i<d1.length:=by simpa using hi
  have i1:d1[i]?=some (d1[i]'hi):=List.getElem?_eq_getElem _;obtain⟨x,x4,x5⟩:=r1.get i1;refine⟨⟨xs,x,c1,x4⟩,λz H4 hz=>?_⟩;obtain⟨p,v,fp,rfl,rfl,hv⟩:=hz;have ev:=hv xs c1;rw[x4]at ev;cases ev;obtain⟨R4,x6⟩:=R3.hid (ho:=.tup [.int (i:Int),x]) fp;refine⟨ρ3,AT [.im (.int (i:Int)),d1[i]'hi],x6,rfl,R4,?_,BV (SqT.of AJ) (.cons (by simp[RD,RI]) (.cons (x5.ext R3 x6) .nil))⟩;simp[i1]
 .have hi:i=d1.length:=by simpa using hi
  omega
def UI(K:Frag){X:Cx}{elts:List Expr}{kk:Nat}{tpos p pos:Pos}(hm:X.mg "enumerate"=none)(ha:QR K true X a ta ma)(hg:Gl X "enumerate":=by rfl)(hK:X.K=K:=by rfl)(hs:starEach [a] X.env=[(false,eval a X.env)]:=by rfl):
 QI K X (.Tuple elts kk tpos) (.Call (.Name "enumerate" p) [a] [] pos) (NW K (Aq ta BS)) (Bz ma):=⟨UX K hg hm (B6 ha.p C7 hs) hK hs,Tt ha.r⟩
end L2
namespace HS
open PySem PyProof.Rows
open PySem.AutoSeq1 (wpAny_loadPart')
open Sem (wp)
abbrev st(t:Tok):List (Str×Value):=[(Str.ofString "start",.int 1 t)]
section
variable{prog:Program}{w:World}{A:Around}{E:Value->Shared->Prop}{s:Shared}
def tcS(a b:Value):checkTypeCall "enumerate" ⟨[a],[(Str.ofString "start",b)]⟩=pure ():=by kernel_rfl
def ncS(a b:Value):checkBuiltinCall "enumerate.__new__" ⟨[.type "enumerate",a],[(Str.ofString "start",b)]⟩=pure ():=by kernel_rfl
def aiS(a b c:Value):argsOk "object.__init__" ⟨[a,b],[(Str.ofString "start",c)]⟩:=by
 unfold argsOk;rw[signature?_of (id:="object.__init__") (n:=['_','_','t','i','n','i','_','_']) (o:=['t','c','e','j','b','o']) (by kernel_rfl) F.owner_object];kernel_rfl
def Si(l:Addr)(items:Array Value)(n:Nat)(t:Tok)(dct:Option Addr)(sl:Array (Option Value)):
 Meets (Builtin.«enumerate.__new__» ⟨[.type "enumerate",.ref l],st t⟩) (λ_ R s=>s.heap.get? l=some { cls:=.type "list",dict:=dct,data:=.seq items n,slots:=sl } /\
  R (.ok (.ret (.ref (s.heap.push { cls:=.type "list_iterator",data:=.fields #[.ref l,.int 0 0] }).objs.size)))
   { s with heap:=(s.heap.push { cls:=.type "list_iterator",data:=.fields #[.ref l,.int 0 0] }).push { cls:=.type "enumerate",data:=.fields #[.none,.bool false,.ref s.heap.objs.size,rawInt 1,.none,.none] } }):=
 .of_wp λprog w A R s h=>by
  obtain⟨hp,g,d,tk,os⟩:=s;obtain⟨hl,h⟩:=h;have hsub:=sub_enumerate;have hL:Heap.IsList (Shared.heap ⟨hp,g,d,tk,os⟩) l items:=⟨_,hl,rfl,n,rfl⟩
  wp_walk using wpAny_loadPart' hl
  refine wpAny_stack_any λst=>j8 ?_;split
  .rename_i c _ _ _ _ _
   cases(c==Value.type "enumerate")
   .wp_walk using wpAny_loadPart' hl,wpAny_pyIter_list hL
    exact⟨_,rfl,h⟩
   .wp_walk using wpAny_loadPart' hl,wpAny_pyIter_list hL
    exact⟨_,rfl,h⟩
  .wp_walk using wpAny_loadPart' hl,wpAny_pyIter_list hL
   exact⟨_,rfl,h⟩
def fb{T id:String}{x a b:Value}(hl:typeLookup (.type T) "__init__"=pure (some (.builtin "object.__init__")))(hm:Bind.madeBy (.type T)=pure (some id))(hne:(some id != some "object.__new__")=true):
 Meets (Builtin.«object.__init__» ⟨[x,a],[(Str.ofString "start",b)]⟩) (λ_ R s=>s.TypeIs x T/\R (.ok (.ret .none)) s):=by
 refine Meets.of_wp λprog w A R s hs=>?_;obtain⟨hT,hq⟩:=hs
 repeat (any_goals (first|assumption|wp_step))
 exact⟨_,rfl,hq⟩
def call_enumS{l:Addr}{items:Array Value}{t:Tok}{Q:Value->Shared->Prop}(hL:s.heap.IsList l items)
 (h:∀h',IsEnum h' (s.heap.objs.size+1) s.heap.objs.size 1 .none->h'.IsListIter s.heap.objs.size l 0->h'.objs.size=s.heap.objs.size+2->(∀b o,s.heap.get? b=some o->h'.get? b=some o)->Q (.ref (s.heap.objs.size+1)) { s with heap:=h' }):
 wpAny (model prog w) A (call (.type "enumerate") [.ref l] (st t)) Q E s:=by
 obtain⟨⟨c,dct,dt,sl⟩,hl,hc,n,hd⟩:=hL
 replace hc:c=.type "list":=hc
 replace hd:dt=.seq items n:=hd
 subst hc hd;have ft:=F.called_enumerate;obtain⟨c,tl,hmro⟩:=ft.mro;have hmade:=ft.made;have hsub:=ft.sub;refine jS (codeAny_of_tree ?_);show wpAny _ _ (callAny (.type "enumerate") _) _ _ _;refine j8 ⟨Code.quiet_builtin _ (by decide +kernel),kQ F.entry_type_call ?_⟩;rw[Around.under_plain (weight_type_call_type "enumerate" [.ref l] (st t)) (units_type_call_type "enumerate" [.ref l] (st t))];have h1:=ft.notType;have h2:=ft.canCreate;have hct:=tcS (.ref l) (.int 1 t);have hcn:=ncS (.ref l) (.int 1 t)
 repeat (any_goals (first|assumption|wp_step))
 refine jT (kJ ft.plain F.entry_enumerate_new (wpAny_of_eq hcn (Si l items n t dct sl prog w A.in1 (wants (λobj s₁=>s₁.TypeIs obj "enumerate"/\Q obj s₁) E) s ⟨hl,?_⟩))) λr s₁ hr=>?_
 .have hz:(s.heap.push { cls:=.type "list_iterator",data:=.fields #[.ref l,.int 0 0] }).objs.size=s.heap.objs.size+1:=Heap.size_push ..;show _/\_;rw[hz];have he:IsEnum ((s.heap.push { cls:=.type "list_iterator",data:=.fields #[.ref l,.int 0 0] }).push { cls:=.type "enumerate",data:=.fields #[.none,.bool false,.ref s.heap.objs.size,rawInt 1,.none,.none] }) (s.heap.objs.size+1) s.heap.objs.size 1 .none:=by
   have:=Heap.get?_push_size (s.heap.push { cls:=.type "list_iterator",data:=.fields #[.ref l,.int 0 0] }) (o:={ cls:=.type "enumerate",data:=.fields #[.none,.bool false,.ref s.heap.objs.size,rawInt 1,.none,.none] }) rfl;rw[hz]at this;exact this
  exact⟨⟨_,he,rfl⟩,h _ he ⟨_,Heap.get?_push_of_some _ (Heap.get?_push_size _ rfl),rfl,rfl⟩ (by rw[Heap.size_push,hz]) λb o x=>Heap.get?_push_of_some _ (Heap.get?_push_of_some _ x)⟩
 .cases r with
  |error e=>exact hr
  |ok fl=>
   cases fl with
   |ret obj=>
    obtain⟨hT,hq0⟩:=hr;have hli:=ft.init.lookup;have hbi:=ft.init.bind obj
    repeat (any_goals (first|assumption|wp_step))
    refine jT (kJ ft.init.plain F.entry_object_init (ft.init.check _ _ _ _ _ _ _ _ hT (aiS obj (.ref l) (.int 1 t)) (fb (x:=obj) (a:=.ref l) (b:=.int 1 t) hli hmade (by decide) prog w A.in1 (wants (λr s₂=>r=.none/\Q obj s₂) E) s₁ ⟨hT,rfl,hq0⟩))) λr₂ s₂ hr₂=>?_;cases r₂ with
    |error e=>exact hr₂
    |ok fl₂=>
     cases fl₂ with
     |ret r=>
      obtain⟨rfl,hq⟩:=hr₂
      repeat (any_goals (first|assumption|wp_step))
     |_=>exact hr₂.elim
   |_=>exact hr.elim
def shift{it:Addr}{fp:List Addr}{n:Nat}{P:Nat->Value->Prop}{St:Nat->Heap->Prop}(D:Draws prog w A it fp n P St):Draws prog w A it fp (n+1) (λj v=>P (j-1) v) (λj h=>1<=j/\St (j-1) h) where
 live:=λ_ _ z=>D.live _ _ z.2
 frame:=λ_ _ _ z hk=>⟨z.1,D.frame _ _ _ z.2 hk⟩
 item:=λi s Q E hi z hQ=>D.item (i-1) s Q E (by omega) z.2 λx h' tk p q b=>hQ x h' tk p ⟨by omega,by rw[show i+1-1=i-1+1 by have:=z.1;omega];exact q⟩ b
 done:=λs Q E z hE=>D.done s Q E z.2 hE
end
def callWith_typeK{M:Model}{A:Around}{E:Value->Shared->Prop}{s:Shared}{pos:Pos}{T:String}{args:List (Bool×Sem Value)}{kws:List (Option Str×Sem Value)}{Q:Value->Shared->Prop}(hp:args.any (·.1)=false)(hk:kws.any (·.1.isNone)=false)
 (h:wpAny M A (evalArgs (.type T) true args kws) (λa s₁=>wpAny M A (call (.type T) a.pos a.kw) Q E s₁) E s):wpAny M A (callWith pos (.type T) [] args kws) Q E s:=by
 unfold callWith;refine j5 (jD (jn h (λa s₁ h₁=>j5 (kD ?_)) λ_ _ x=>x));simp only[hp,hk,Bool.or_false];exact j5 (j8 (j5 (jn h₁ (λr s₂ hr=>j5 (jD (wpAny_point (j8 hr)))) λ_ _ x=>x)))
end HS
namespace L2
open PySem PySem.Spec PyProof.Rows
structure ESt(h:Heap)(e it l:Addr)(i:Nat):Prop where
 e:∃old,IsEnum h e it ((i+1:Nat):Int) old
 r:h.IsListIter it l i
def ItS(K:Frag)(a:Addr):It:=
 ⟨λi H=>∃xs x,SqL K H a xs/\xs[i]?=some x,
  λi H x H'=>∃p v,H p=none/\H'=upd H p (.tup [.int ((i:Int)+1),v])/\x=.ref p/\∀xs,SqL K H a xs->xs[i]?=some v,
  λi H=>∃xs,SqL K H a xs/\xs.length=i⟩
def PP{K:Frag}{kk:Nat}(ne:e≠it)(nl:l≠it)(nle:e≠l):Turn P w K (.Tuple elts kk tpos) (ItS K l) [e,it] e (λi h=>ESt h e it l i) where
 mem:=by simp
 obj:=λi h st c hc=>by
  obtain⟨⟨old,he⟩,hr⟩:=st;simp only[ja,ji,jk]at hc;rcases hc with rfl|rfl
  .exact⟨_,he,λv z=>by cases(show Data.fields _=Data.cell v from z)⟩
  .obtain⟨o,q,_,d⟩:=hr;exact⟨o,q,λv z=>by rw[d]at z;cases z⟩
 keep:=λi h h' st k=>by
  obtain⟨⟨old,he⟩,o,q,r⟩:=st;exact⟨⟨old,k e (by simp) _ he⟩,o,k it (by simp) _ q,r⟩
 item:=by
  intro X hP hw hK hc i O s U H E I hf st hg;subst hP hw hK;obtain⟨xs,x,h1,hx⟩:=hg;obtain⟨its,r,pl,hz⟩:=I.list h1;obtain⟨u,hu,ru⟩:=r.get hx;obtain⟨⟨old,he⟩,hr⟩:=st;have hd:X.A.in1.handled=none:=I.ok.hd hc;have hlt:i<its.toArray.size:=by
   have:=(List.getElem?_eq_some_iff.mp hu).1;simpa using this
  refine wpAny_pyNext_enum_itemD (HS.shift (Draws.list hd it l nl its.toArray)) he ⟨by omega,by simpa using hr,pl.isList⟩ (by omega) ne (by simp;exact⟨ne,nle⟩) λx' g tk hx' ho hr' ht hsz kp=>⟨_,rfl,?_⟩
  have ex:x'=u:=by
   have hx':its.toArray[i]?=some x':=hx';rw[List.getElem?_toArray,hu]at hx';exact(Option.some.inj hx').symm
  subst ex;refine kW ho λg' e' sb=>?_;have hle:e<s.heap.objs.size:=Heap.lt_size he;have kp2:∀c o,c∉[e,it]->s.heap.get? c=some o->g'.get? c=some o:=λc o nc q=>by
   simp only[ja,ji,jk,not_or]at nc;exact sb.extBut _ _ nc.1 (kp c o nc.1 nc.2 q)
  have hT:s.heap.objs.size≠e:=jv hle;have hpair:g'.get? s.heap.objs.size=some { cls:=.type "tuple",data:=.seq #[.int ((i+1:Nat):Int) tk,x'] }:=sb.extBut _ _ hT ht;have fresh:H s.heap.objs.size=none:=I.hok.fresh (j9 _);have I2:Inv X O U (upd H s.heap.objs.size (.tup [.int ((i:Int)+1),x])) { s with heap:=g',toks:=tk+1 }:=I.turnsL (tk:=tk+1) (o:=.tup [.int ((i:Int)+1),x]) kp2 hf (j9 _)
   (show ObjOk X.prog X.w _ g' _ (.tup [.int ((i:Int)+1),x])from⟨by show 2<=sizeLine;decide,[.int ((i+1:Nat):Int) tk,x'],.cons ⟨_,rfl⟩ (.cons ru .nil),⟨_,hpair,rfl,⟨_,rfl⟩,rfl⟩⟩)
  refine⟨.ref s.heap.objs.size,_,I2,rfl,⟨s.heap.objs.size,x,fresh,rfl,rfl,λxs' q=>by rw[I.list_inj q h1];exact hx⟩,⟨⟨x',?_⟩,?_⟩,λc hc=>?_⟩
  .have:=e';rw[show(((i+1:Nat):Int)+1)=((i+1+1:Nat):Int) by omega]at this;exact this
  .have q:=hr'.2.1;exact q.extBut sb.extBut (Ne.symm ne)
  .have lt:c<s.heap.objs.size:=by
    simp only[ja,ji,jk]at hc;rcases hc with rfl|rfl
    .exact hle
    .obtain⟨o,q,_⟩:=hr;exact Heap.lt_size q
   rw[AC (jb lt)];exact(hf c hc).1
 done:=by
  intro X hP hw hK hc i O s U H E I hf st hg;subst hP hw hK;obtain⟨xs,h1,hend⟩:=hg;obtain⟨its,r,pl,hz⟩:=I.list h1;have l1':=r.length;obtain⟨⟨old,he⟩,hr⟩:=st;have hd:X.A.in1.handled=none:=I.ok.hd hc;have en:i=its.toArray.size:=by simp;omega
  subst en;refine wpAny_pyNext_enum_endD (HS.shift (Draws.list hd it l nl its.toArray)) he ⟨by omega,by simpa using hr,pl.isList⟩ λg x=>⟨rfl,?_⟩
  exact I.turns (tk:=s.toks) (λc o nc q=>by
   simp only[ja,ji,jk,not_or]at nc;exact x c o nc.2 q) hf
 self:=λ_ _ _ _ _ st h=>by
  obtain⟨⟨old,he⟩,hr⟩:=st;exact kN he h
def NX(K:Frag)(ta:TA):TI:=λU H R=>ta U H λvs H1=>∃a xs,vs=[.ref a]/\SqL K H1 a xs/\R (ItS K a) H1
def UY(K:Frag){elts:List Expr}{kk:Nat}{j}{tpos p pos cp kp:Pos}(hg:Gl X "enumerate")(hm:X.mg "enumerate"=none)(ha:PA X [a] ta)(hK:X.K=K:=by rfl)(hs:starEach [a] X.env=[(false,eval a X.env)]:=by rfl):
 PI X (.Tuple elts kk tpos) (.Call (.Name "enumerate" p) [a] [⟨some "start",.Constant (.int 1) j cp,kp⟩] pos) (NX K ta):=by
 subst hK;intro O s U H R I h;refine jW (DO I hg hm EZ ?_);have pl:(backTo pos (starEach [a] X.env)).any (·.1)=false:=by rw[hs];rfl
 refine HS.callWith_typeK pl rfl (evalArgs_kw2 (env:=X.env) (e:=a) (rest:=[]) (kws:=[⟨some "start",.Constant (.int 1) j cp,kp⟩]) rfl (thn (ha pos O s U H _ I h) λus s1 ⟨vs,H1,I1,r1,q1⟩=>?_) hs);obtain⟨l,xs,e,c,q⟩:=q1;subst e;obtain⟨u,rfl,ru⟩:=r1.one;cases ru;show wpAny _ _ (evalAll [(do let v <- eval (.Constant (.int 1) j cp) X.env;standAt pos;pure v)]) _ _ s1;refine wpAny_evalAll_cons (j5 (wpAny_Constant_int (j5 (kD (j8 (wpAny_evalAll_nil ?_))))));have I2:=I1.tok (s1.toks+1);obtain⟨its,r,pl,hz⟩:=I2.list c;have ll:l<s1.heap.objs.size:=by obtain⟨o,ho,_⟩:=pl.isList;exact Heap.lt_size ho
 refine HS.call_enumS pl.isList λg he hr hsz kp=>kN he ?_;refine⟨_,_,_,_,H1,rfl,I2.kept (t':=s1.toks+1) kp,PP (jv (Nat.lt_succ_self _)) (jb ll) (jv (k9 ll)),⟨⟨_,he⟩,hr⟩,λc hc=>?_,q⟩;simp only[ja,ji,jk]at hc;have le:s1.heap.objs.size<=c:=by
  rcases hc with rfl|rfl
  .exact kc _ _
  .exact j9 _
 exact I2.fpOk le (I2.hok.fresh le)
section
variable{K:Frag}
def Fw(ma:MI):MI:=λls hd=>(ma ls hd).map λp=>((p.1.1.zipIdx.map λq=>AT [.im (.int ((q.2:Int)+1)),q.1],p.1.2),p.2)
def Tu(ha:RRw K false ta ma):RIt K (NX K (Aq ta BS)) (Fw ma):=by
 intro ρ U H hd ls Q d g hd' hR hL hm hQ;obtain⟨⟨⟨d1,g1⟩,h1⟩,e1,e2⟩:=j4 hm;cases e2;refine ha ρ U H hd ls _ d1 g1 h1 hR hL e1 λρ1 H1 a x1 R1 G1 S1=>?_;obtain⟨xs,c1,r1⟩:=S1 ρ1 H1 _ .refl R1 G1;refine⟨a,xs,rfl,c1,hQ ρ1 H1 _ x1 R1 G1 ?_⟩;intro ρ3 H3 hd3 x3 R3 G3 i;obtain⟨xs,c1,r1⟩:=S1 ρ3 H3 _ x3 R3 G3;have l1:=r1.len;refine⟨λhi=>?_,λhi=>⟨xs,c1,?_⟩⟩
 .have hi:i<d1.length:=by simpa using hi
  have i1:d1[i]?=some (d1[i]'hi):=List.getElem?_eq_getElem _;obtain⟨x,x4,x5⟩:=r1.get i1;refine⟨⟨xs,x,c1,x4⟩,λz H4 hz=>?_⟩;obtain⟨p,v,fp,rfl,rfl,hv⟩:=hz;have ev:=hv xs c1;rw[x4]at ev;cases ev;obtain⟨R4,x6⟩:=R3.hid (ho:=.tup [.int ((i:Int)+1),x]) fp;refine⟨ρ3,AT [.im (.int ((i:Int)+1)),d1[i]'hi],x6,rfl,R4,?_,BV (SqT.of AJ) (.cons (by simp[RD,RI]) (.cons (x5.ext R3 x6) .nil))⟩;simp[i1]
 .have hi:i=d1.length:=by simpa using hi
  omega
def UJ(K:Frag){X:Cx}{elts:List Expr}{kk:Nat}{j}{tpos p pos cp kp:Pos}(hm:X.mg "enumerate"=none)(ha:QR K false X a ta ma)(hg:Gl X "enumerate":=by rfl)(hK:X.K=K:=by rfl)(hs:starEach [a] X.env=[(false,eval a X.env)]:=by rfl):
 QI K X (.Tuple elts kk tpos) (.Call (.Name "enumerate" p) [a] [⟨some "start",.Constant (.int 1) j cp,kp⟩] pos) (NX K (Aq ta BS)) (Fw ma):=⟨UY K hg hm (B6 ha.p C7 hs) hK hs,Tu ha.r⟩
def MJ{QI:List D×Gd->Hd->Prop}(h:WI ma ls hd λp x=>QI (p.1.zipIdx.map λq=>AT [.im (.int ((q.2:Int)+1)),q.1],p.2) x):WI (Fw ma) ls hd QI:=by
 obtain⟨p,x,e,q⟩:=h;exact⟨_,_,by simp only[Fw,e,jx],q⟩
end
theorem pick_all:∀L:List Value,(List.range L.length).filterMap (λi=>L[i]?)=L
 |[]=>rfl
 |x::r=>by
  rw[jK,List.range_succ_eq_map,jO];simp only[List.getElem?_cons_zero,List.filterMap_map]
  congr 1
  have:=pick_all r;simpa [Function.comp_def]using this
theorem MM:∀{xs:List V} {us:List Value},Vals xs us->Vals xs.reverse us.reverse
 |_,_,.nil=>.nil
 |_,_,.cons r t=>by
  rw[jY,jY];exact Vals.append (MM t) (.cons r .nil)
section
variable{K:Frag}
theorem RDs.rev:∀{ds:List D} {xs:List V},RDs K ρ H ds xs->RDs K ρ H ds.reverse xs.reverse
 |[],xs,h=>by simp only[RDs]at h;subst h;simp[RDs]
 |d::ds,xs,h=>by
  simp only[RDs]at h;obtain⟨x,r,rfl,rx,h⟩:=h;rw[jY,jY];exact(RDs.rev h).app (.cons rx .nil)
end
end L2
namespace HT
open PySem PySem.Spec PyProof.Rows
section
variable{E:Value->Shared->Prop}{s:Shared}
def Ql(n:Nat):Builtin.Slice.sliceAdjust none none (-1) (n:Int)=((n:Int)-1,-1):=by
 unfold Builtin.Slice.sliceAdjust;simp
def Py(n:Nat):Builtin.Slice.slicePlaces ((n:Int)-1) (-1) (-1)=n:=by
 unfold Builtin.Slice.slicePlaces;simp
 try omega
def JC{n:Nat}{Q:Int×Int×Nat->Shared->Prop}(hs:s.heap.IsSliceOf sl .none .none (.int (-1) t))(h:Q ((n:Int)-1,-1,n) s):wpAny (model prog w) A (Builtin.Slice.sliceApplied (.ref sl) (pure (n:Int))) Q E s:=by
 obtain⟨os,hos,hcs,hds⟩:=id hs;unfold Builtin.Slice.sliceApplied Builtin.Slice.sliceFields;refine j5 (j5 (jr hos hds (x:=.none) rfl (j5 (jr hos hds (x:=.none) rfl (j5 (jr hos hds (x:=.int (-1) t) rfl (j8 ?_)))))));refine j5 (slicePart_int ?_);show wpAny _ _ (if((-1:Int)==0)=true then _ else _) _ _ s;rw[j7 (by decide)];refine j5 (slicePart_none (j5 (slicePart_none (j5 (j8 ?_)))));show wpAny _ _ (match Builtin.Slice.sliceAdjust none none (-1) (n:Int)with|(lo,hi)=>pure (lo,(-1:Int),Builtin.Slice.slicePlaces lo hi (-1))) _ _ s;rw[Ql n];show wpAny _ _ (pure ((n:Int)-1,(-1:Int),Builtin.Slice.slicePlaces ((n:Int)-1) (-1) (-1))) _ _ s;rw[Py];exact j8 h
theorem Nb{α β:Type}{f g:α->Option β}:∀{l:List α},(∀x∈l,f x=g x)->l.filterMap f=l.filterMap g
 |[],_=>rfl
 |x::l,h=>by rw[jO,jO,h x jt,Nb λy hy=>h y (jm _ hy)]
def SB(xs:Array Value):((List.range xs.size).filterMap λ(m:Nat)=>xs[((xs.size:Int)-1+(m:Int)*(-1)).toNat]?).toArray=xs.toList.reverse.toArray:=by
 congr 1
 have e:(List.range xs.size).filterMap (λ(m:Nat)=>xs[((xs.size:Int)-1+(m:Int)*(-1)).toNat]?)=(List.range xs.toList.reverse.length).filterMap λi=>xs.toList.reverse[i]? := by
  rw[List.length_reverse,Array.length_toList];refine Nb λm hm=>?_;have hm:m<xs.size:=by simpa using hm
  rw[List.getElem?_reverse (by simpa using hm)];simp only[Array.length_toList,Array.getElem?_toList]
  congr 1
  omega
 rw[e];exact L2.pick_all _
def getItem_tuple_rev{Q:Value->Shared->Prop}(ht:IsTup s.heap t items)(hs:s.heap.IsSliceOf sl .none .none (.int (-1) k))(h:Q (.ref s.heap.objs.size) { s with heap:=s.heap.push { cls:=.type "tuple",data:=.seq items.toList.reverse.toArray } })(hsz:items.size<=sizeLine):wpAny (model prog w) A (getItem (.ref t) (.ref sl)) Q E s:=by
 have hsize:sizeOk (.seq items.toList.reverse.toArray):=by
  show items.toList.reverse.toArray.size<=sizeLine;simpa using hsz
 obtain⟨os,hos,hcs,hds⟩:=id hs;have hTs:s.TypeIs (.ref sl) "slice":=⟨os,hos,hcs⟩
 unfold getItem
 try with_reducible refine jD ?_
 first|refine j5 (j8 ?_)|skip
 refine j5 (wpAny_sequenceKey ht.typeIs (by decide) ?_);refine j5 (kC (name:=Str.ofString "__getitem__") ht.typeIs PyProof.Rows.slot_tuple_getitem
  (ko PyProof.Rows.slot_tuple_getitem ht.typeIs entry_tuple_getitem ?_ (args_tuple_getitem _ _)))
 show wpAny _ _ (Builtin.Tuple.tupleItemsOf (.ref t) >>= _) _ _ s;refine j5 (tupleItemsOf_ ht ?_);refine j5 (wpAny_typeOf hTs ?_);rw[j6 (by decide)];refine j5 (JC hs ?_);show wpAny _ _ (if((((items.size:Int)-1)==0&&(-1:Int)==1&&items.size==items.size)=true)then _ else _) _ _ s;rw[j7 (by simp),SB]
 first
  |exact j5 (m:=Builtin.Tuple.tupleExact _) (jH (j8 ⟨_,rfl,j8 h⟩) hsize)
  |exact j5 (m:=Builtin.Tuple.tupleExact _) (jH (j5 (j8 (j8 ⟨_,rfl,j8 h⟩))) hsize)
  |exact j5 (j5 (m:=Builtin.Tuple.tupleExact _) (jH (j8 (j8 ⟨_,rfl,j8 h⟩)) hsize))
  |exact j5 (j5 (m:=Builtin.Tuple.tupleExact _) (jH (j8 ⟨_,rfl,j8 h⟩) hsize))
end
end HT
namespace L2
open PySem PySem.Spec PyProof.Rows
section
def PX(K:Frag)(te ts:TE):TE:=λU H Q=>te U H λx H1=>ts U H1 λy H2=>y=.int (-1)/\∃a xs,x=.ref a/\SqT K H2 a xs/\∀p,H2 p=none->Q (.ref p) (upd H2 p (.tup xs.reverse))
def YA(he:PE X e te)(hs:PE X stp ts):PE X (.Subscript e (.Slice none none (some stp) p2) pos) (PX X.K te ts):=by
 intro O s U H Q I h;refine Subscript_ (thn (he O s U H _ I h) λv s1 ⟨x,H1,I1,r1,q1⟩=>?_);refine wpAny_Slice ?_;rw[evalPart_none];refine j8 (j8 ?_);rw[evalPart_some];refine thn (hs O s1 U H1 _ I1 q1) λvs s3 ⟨y,H3,I3,r3,q3⟩=>?_;obtain⟨rfl,a,xs,rfl,hx,q⟩:=q3;obtain⟨t,rfl⟩:=r3;cases r1;have I4:Inv X O U H3 { s3 with heap:=s3.heap.push { cls:=.type "slice",data:=.fields #[.none,.none,.int (-1) t] } }:=I3.kept (t':=s3.toks) λb ob q=>Heap.get?_push_of_some _ q;obtain⟨its,r,ht,hz⟩:=I4.tuple hx;have hlen:=r.length;have hg:wpAny (model X.prog X.w) X.A (getItem (.ref a) (.ref s3.heap.objs.size)) (EP X O U Q) X.xe { s3 with heap:=s3.heap.push { cls:=.type "slice",data:=.fields #[.none,.none,.int (-1) t] } }:=by
  refine HT.getItem_tuple_rev ht (Heap.IsSliceOf.new ..) ?_ (by rw[jd]<;>omega);refine⟨.ref _,_,I4.laid (t':=s3.toks) (o:=.tup xs.reverse) (λb ob q=>Heap.get?_push_of_some _ q) (j9 _) ?_,rfl,q _ (I4.hok.fresh (j9 _))⟩;exact⟨by rw[List.length_reverse];exact hz,its.reverse,MM r,IsTupD.new _ _⟩
 show wpAny (model X.prog X.w) X.A (subscriptTail e (.Slice none none (some stp) p2) (.ref a) (.ref s3.heap.objs.size)) (EP X O U Q) X.xe { s3 with heap:=s3.heap.push { cls:=.type "slice",data:=.fields #[.none,.none,.int (-1) t] } };exact tail_any (ops:=[.ref a,.ref s3.heap.objs.size]) ht.typeIs PyProof.Rows.slot_tuple_getitem.lookup hg (by with_unfolding_all rfl)
end
section
variable{K:Frag}
def Ib(m ms:ME):ME:=λls hd=>(m ls hd).bind λp=>(ms ls p.2).bind λq=>match q.1 with
 |.im (.int i)=>if i=-1 then(AS p.1).map λds=>(AT ds.reverse,q.2)else none
 |_=>none
def X2(h:RE K te m)(hs:RE K ts ms):RE K (PX K te ts) (Ib m ms):=by
 and_intros;obtain⟨⟨d1,h1⟩,e1,hm⟩:=gV hm;obtain⟨⟨d2,h2⟩,e2,hm⟩:=gV hm;dsimp only at e2 hm;split at hm
 .split at hm
  .next hi=>
   obtain⟨ds,e3,e4⟩:=j4 hm;cases e4;subst hi;refine h ρ U H hd ls _ d1 h1 hR hL e1 λρ1 H1 v1 x1 R1 r1=>?_;refine hs ρ1 U H1 h1 ls _ _ _ R1 (hL.ext hR x1) e2 λρ2 H2 v x2 R2 r2=>?_;simp only[RD,RI]at r2;obtain⟨a,xs,rfl,q,r⟩:=(r1.ext R1 x2).tup e3;refine⟨r2,a,xs,rfl,q,λp hp=>?_⟩;obtain⟨R3,x3⟩:=R2.hid (ho:=.tup xs.reverse) hp;exact hQ ρ2 _ _ ((x1.trans R1 x2).trans R2 x3) R3 (BV (SqT.of AJ) ((RDs.rev r).ext R2 x3))
  .cases hm
 .cases hm
def Xh(h:QE K X e te m)(hs:QE K X stp ts ms)(hK:X.K=K:=by rfl):QE K X (.Subscript e (.Slice none none (some stp) p2) pos) (PX K te ts) (Ib m ms):=by
 subst hK;exact⟨YA h.p hs.p,X2 h.r hs.r⟩
def WN{Q:D->Hd->Prop}(h:WE m ls hd λd x=>WE ms ls x λi y=>i=.im (.int (-1))/\∃ds,AS d=some ds/\Q (AT ds.reverse) y):WE (Ib m ms) ls hd Q:=by
 obtain⟨d,x,e1,i,y,e2,rfl,ds,e3,q⟩:=h;exact⟨_,_,by simp only[Ib,e1,e2,bind_some,jB,e3,jx],q⟩
end
end L2
namespace L2
open PySem PySem.Spec PyProof.Rows PySem.W
def Mw:List V->Hp->VK->Prop:=λxs H Q=>∃k,xs=[.bl k]/\Q (.str (if k then "True" else "False":Str)) H
def Qi:CallR X (.builtin "repr") Mw:=by
 intro O s U H xs us Q I r h;obtain⟨k,rfl,q⟩:=h;obtain⟨u,rfl,ru⟩:=CU r;cases ru;exact PySem.P.repr_of_bool ⟨.str (if k then "True" else "False":Str),H,I.tok _,⟨_,rfl⟩,q⟩
def Nc:List D->Hd->Option (D×Hd)
 |[.im (.bl k)],hd=>some (.im (.str (if k then "True" else "False":Str)),hd)
 |_,_=>none
def U0{K:Frag}:RF K Mw Nc:=by
 intro ρ H hd ds vs Q z hd' hR h1 hf hQ;unfold Nc at hf;split at hf
 .cases hf;simp only[RDs,RD,RI]at h1;obtain⟨x,r,rfl,rfl,rfl⟩:=h1;exact⟨_,rfl,hQ ρ H _ .refl hR (by simp[RD,RI])⟩
 .cases hf
end L2
namespace L2
open PySem PySem.W
def tg1:Expr->List Str
 |.Name x _=>[x]
 |_=>[]
def tg2:Expr->List Str
 |.Tuple es _ _=>es.flatMap tg1
 |e=>tg1 e
def tgN:Expr->List Str
 |.Tuple es _ _=>es.flatMap tg2
 |e=>tg1 e
def frN(X:Cx)(ix:List Nat):List Str:=ix.filterMap λi=>X.N[i]?
def ndB:List Str->Bool
 |[]=>true
 |x::xs=>!xs.elem x&&ndB xs
theorem Gi:∀{l:List Str},ndB l=true->l.Nodup
 |[],_=>List.nodup_nil
 |x::xs,h=>by
  obtain⟨h1,h2⟩:=Bool.and_eq_true_iff.mp h;refine nodup_cons.mpr ⟨λhm=>?_,Gi h2⟩;rw[List.elem_eq_true_of_mem hm]at h1;cases h1
section
variable{K:Frag}{X:Cx}{iter:Expr}{spos:Pos}{k i:Nat}
def qgA(hN:ndB X.N=true:=by kernel_rfl)(hi:X.N[i]?=some x:=by rfl)(hx:Loc X.env.scope x:=by first|exact Or.inl rfl|exact Or.inr rfl)(hf:X.fn x=true∨X.env.scope.names.lookup x=some .local:=by first|exact .inl rfl|exact .inr rfl):QG K X (.Name x pos) (Ej i) (AO i):=Xg K (Gi hN) hi hx hf
def qnA(hi:QI K X tg iter wi mi)(hg:∀s H ex,QG K (cCx X (tgN tg++frN X ix) scope s H ex) tg g n)(hf:∀s H ex,QF K (cCx X (tgN tg++frN X ix) scope s H ex) ifs tf mf)(he:∀s H ex,QE K (cCx X (tgN tg++frN X ix) scope s H ex) elt te me)
 (hc:X.calm=true:=by rfl) (S:CSc X scope (frN X ix) ix:=by exact⟨rfl,by decide +kernel,rfl,rfl,rfl,by decide +kernel⟩) (hs:∀x,foldedSetIterable iter X.env x=pure x:=by intro _;rfl) (hk:(tgN tg).length=k:=by rfl):
 QN K X (.ListComp elt [⟨tg,iter,ifs,0⟩] scope pos) (Gx k ix wi g tf te) (B9 k ix mi n mf me):=by
 subst hk;exact Xb K hc S hi hg hf he hs
def fX(hi:QI K X tg iter wi mi)(hg:∀s H ex,QG K (cCx X (tgN tg++frN X ix) scope s H ex) tg g n)(hf:∀s H ex,QF K (cCx X (tgN tg++frN X ix) scope s H ex) ifs tf mf)(he:∀s H ex,QE K (cCx X (tgN tg++frN X ix) scope s H ex) elt te me)
 (hsw:swapsWith (.ListComp elt [⟨tg,iter,ifs,0⟩] scope pos) (some (.Name y py)) spos.line X.env=pure true:=by rfl) (hN:ndB X.N=true:=by kernel_rfl) (hiN:X.N[i]?=some y:=by rfl) (hy:X.env.scope.names.lookup y=some .local:=by rfl)
 (hc:X.calm=true:=by rfl) (S:CSc X scope (frN X ix) ix:=by exact⟨rfl,by decide +kernel,rfl,rfl,rfl,by decide +kernel⟩) (hs:∀x,foldedSetIterable iter X.env x=pure x:=by intro _;rfl) (hk:(tgN tg).length=k:=by rfl):
 QS K X (.Assign [.Name y py] (.ListComp elt [⟨tg,iter,ifs,0⟩] scope pos) spos) (Gy (Gx k ix wi g tf te) (Ej i)) (AW i (Bx (B9 k ix mi n mf me))):=by
 subst hk;exact XR K (Gi hN) hiN hy hc S hi hg hf he hsw hs
def qsA(he:QE K X e te me)(hs:swapsWith e (some (.Name x pos')) pos.line X.env=pure false:=by rfl)(hN:ndB X.N=true:=by kernel_rfl)(hi:X.N[i]?=some x:=by rfl)(hx:Loc X.env.scope x:=by first|exact Or.inl rfl|exact Or.inr rfl)(hf:X.fn x=true∨X.env.scope.names.lookup x=some .local:=by first|exact .inl rfl|exact .inr rfl):
 QS K X (.Assign [.Name x pos'] e pos) (Gy te (Ej i)) (AW i me):=aH K (Gi hN) hi hx he hs hf
end
end L2
namespace L2
open PySem PySem.Spec PyProof.Rows PySem.W
abbrev Tb:=Addr×Str×Nat×Nat
def YS(ts:List Tb):Obj:={ cls:=.str "tables" 0,data:=.fields (ts.flatMap λt=>[.ref t.1,.str t.2.1 0,.int t.2.2.1 0,.int t.2.2.2 0]).toArray }
def B7(K:Frag)(ts:List Tb):Frag:=(K.filter λp=>!(ts.map (·.1)).contains p.1)++[(mainGlobals,YS ts)]
theorem RP:∀ts:List Tb,Lr (ts.flatMap λt=>[Value.ref t.1,.str t.2.1 0,.int t.2.2.1 0,.int t.2.2.2 0])=ts.map λt=>(t.1,t.2.1,⟨t.2.2.1,t.2.2.2,0,0⟩)
 |[]=>rfl
 |t::r=>by
  rw[List.flatMap_cons,jc,<- RP r];rfl
def Hq(K:Frag)(ts:List Tb):DN (B7 K ts)=ts.map λt=>(t.1,t.2.1,⟨t.2.2.1,t.2.2.2,0,0⟩):=by
 unfold DN B7;rw[List.getLast?_concat];show Lr _=_;rw[<- RP ts]
theorem GQ{L:List Addr}{a:Addr}(ha:a∉L):∀K:Frag,(K.filter λp=>!L.contains p.1).lookup a=K.lookup a
 |[]=>rfl
 |(b,o)::r=>by
   have ih:=GQ ha r;rw[filter_cons];by_cases hb:b∈L
   .have h1:(!L.contains (b,o).1)=false:=by simp[hb]
    have h2:(a==b)=false:=beq_eq_false_iff_ne.mpr λz=>ha (z ▸ hb);rw[j7 (by rw[h1];decide),jg,h2,ih]
   .have h1:(!L.contains (b,o).1)=true:=by simp[hb]
    rw[j6 h1,jg,jg,ih]
theorem IE{L:List Addr}{P:Addr}(hP:P∈L):∀K:Frag,(K.filter λp=>!L.contains p.1).lookup P=none
 |[]=>rfl
 |(b,o)::r=>by
   have ih:=IE hP r;rw[filter_cons];by_cases hb:b∈L
   .rw[j7 (by simp[hb])];exact ih
   .have h2:(P==b)=false:=beq_eq_false_iff_ne.mpr λz=>hb (z ▸ hP);rw[j6 (by simp[hb]),jg,h2];exact ih
section
variable{K:Frag}{ts:List Tb}
def GH{a:Addr}{o:Obj}(ha:a∉ts.map (·.1))(e:K.lookup a=some o):(B7 K ts).lookup a=some o:=by
 unfold B7;rw[jV,GQ ha,e];rfl
def YR{h:Heap}(X:K.In h){g:Obj}(hg:K.lookup mainGlobals=some g)(hP:mainGlobals∉ts.map (·.1)):(B7 K ts).In h:=λa o e=>by
 unfold B7 at e;rw[jV]at e;by_cases ha:a∈ts.map (·.1)
 .rw[IE ha,none_or]at e;have h2:(a==mainGlobals)=false:=beq_eq_false_iff_ne.mpr λz=>hP (z ▸ ha);rw[jg,h2]at e;cases e
 .rw[GQ ha]at e;cases k:K.lookup a with
  |some o'=>rw[k]at e;cases e;exact X _ _ k
  |none=>
   rw[k,none_or,jg]at e;by_cases hm:a=mainGlobals
   .subst hm;rw[hg]at k;cases k
   .rw[beq_eq_false_iff_ne.mpr hm]at e;cases e
def YQ(hM:mainGlobals∉ts.map (·.1)){P:Addr}(hP:P∈ts.map (·.1)):(B7 K ts).lookup P=none:=by
 unfold B7;have h2:(P==mainGlobals)=false:=beq_eq_false_iff_ne.mpr λz=>hM (z ▸ hP);rw[jV,IE hP,none_or,jg,h2];rfl
def Fun.mark{st:Stmt}(D:Fun K x qual st f fd)(X:K.In h)(hP:∀P∈ts.map (·.1),h.get? P=some (tabObj #[])):Fun (B7 K ts) x qual st f fd:=by
 have neP:∀a o,K.lookup a=some o->o≠tabObj #[]->a∉ts.map (·.1):=λa o e n z=>by
  have:=X _ _ e;rw[hP a z]at this;exact n (Option.some.inj this).symm
 obtain⟨⟨oc,od,kV,doc,pm,an,cdv,ct,osl,rfl,lk,hcd⟩,kp⟩:=D;have hf:f∉ts.map (·.1):=neP f _ lk (λz=>by cases z);refine⟨⟨oc,od,kV,doc,pm,an,cdv,ct,osl,rfl,GH hf lk,?_⟩,?_⟩
 .unfold codeIn at hcd ⊢;split at hcd
  .next c0=>
   split at hcd
   .next vs sl k=>
    have hc:c0∉ts.map (·.1):=neP c0 _ k (λz=>by
     have:vs=#[]:=by injection z with _ _ z _;injection z
     rw[this]at hcd;cases hcd)
    simp only[GH hc k];exact hcd
   .cases hcd
  .cases hcd
 .unfold keepIn;simp only[GH hf lk]
end
def dP{K:Frag}(hS:SqL K H a xs)(hO:∀ys,H a≠some (.lst ys)):RoL K H a xs:=by
 rcases hS with(h|h)|h
 .exact absurd h (hO xs)
 .exact .inl h
 .exact .inr h
def SR{Pg:Program}{w:World}{K:Frag}{mg mb:Str->Option Value}{k:Nat}{fa:Addr}{fd:FuncData}{ts:List Tb}{s₁:Shared}{vs:List Value}{F:List D->Hd->Option (D×Hd)}
 (KX:K.In s₁.heap) (hns:s₁.heap.Ns mainGlobals mg) (hb:s₁.heap.Ns builtinsNs mb) (hbb:∀x:Str,x≠"__name__"->mb x=bootBuiltins x) (hlim:s₁.heap.NoLimit) (hg:s₁.gens=#[])
 (ha:s₁.heap.get? a=some { cls:=.type "list",data:=.seq vs.toArray }) (hi:IntsAre vs ns) (hl:ns.length<=sizeLine) (hr:Room k callerA)
 (hT:∀P∈ts.map (·.1),∃cc,s₁.heap.TableAt cc P #[]) (hPK:∀P∈ts.map (·.1),K.lookup P=none) (htab:DN K=ts.map λt=>(t.1,t.2.1,⟨t.2.2.1,t.2.2.2,0,0⟩))
 (Fn:∀base:Heap,K.In base->base.Ns mainGlobals mg->(∀b o,b∉ts.map (·.1)->b≠a->s₁.heap.get? b=some o->base.get? b=some o)->FnOk Pg w K mg base CX0 k fa fd [x] (spF K 1 F)) (hbind:∀(s:Shared) (u:Value),BindsTo s fd ⟨[u],[]⟩ [(x,u)])
 (hF:∃hd',F [.ro ns] []=some (.im (.bl true),hd')):
 codeAny (model Pg w) callerA (.call (.ref fa) ⟨[.ref a],[]⟩) (λr s'=>r=.ok (.ret (.bool true))/\OldK s₁.heap s'.heap/\s'.os=s₁.os/\AllBare s'.gens) s₁:=by
 have rv:=Ku hi;have lenV:=hi.length;have hP:∀P∈ts.map (·.1),s₁.heap.get? P=some (tabObj #[]):=λP h=>let ⟨cc,t⟩:=hT P h;t.2
 have haP:a∉ts.map (·.1):=λz=>by rw[hP a z]at ha;cases ha
 have core:∀H:Hp,(∀b,b∉ts.map (·.1)->H b=none∨∃o xs,H b=some (.frz o (.lst xs)))->(∀P∈ts.map (·.1),H P=some (.tbl #[]))->SqL K H a (ns.map V.int)->HOk Pg w H s₁.heap->(∀b,H b≠none->b=a∨b∈ts.map (·.1))->(H a≠none->K.lookup a=none) ->
  codeAny (model Pg w) callerA (.call (.ref fa) ⟨[.ref a],[]⟩) (λr s'=>r=.ok (.ret (.bool true))/\OldK s₁.heap s'.heap/\s'.os=s₁.os/\AllBare s'.gens) s₁:=by
  intro H hO hHP hS hok hA hK;have base_of:∀{b:Addr} {o:Obj},s₁.heap.get? b=some o->H b=none->(HH s₁.heap H).get? b=some o:=λe n=>Uz e n;have noA:∀{b:Addr} {o:Obj} {es:Array DictEntry} {ep:Nat},s₁.heap.get? b=some o->o.data=.dict es ep->H b=none:=λ{b o es ep} e d=>by
   cases q:H b with
   |none=>rfl
   |some u=>
    rcases hA b (by rw[q];simp)with e'|e'
    .subst e';rw[ha]at e;cases e;have d':Data.seq vs.toArray _=Data.dict es ep:=d;cases d'
    .rw[hP b e']at e;cases e;cases d
  have nsK:∀{b:Addr} {m:Str->Option Value},s₁.heap.Ns b m->(HH s₁.heap H).Ns b m:=λ{b m} ⟨o,es,ep,e,d,r⟩=>⟨o,es,ep,base_of e (noA e d),d,r⟩
  have hKb:K.In (HH s₁.heap H):=λb o e=>base_of (KX b o e) (by
   cases q:H b with
   |none=>rfl
   |some u=>
    rcases hA b (by rw[q];simp)with e'|e'
    .subst e';rw[hK (by rw[q];simp)]at e;cases e
    .rw[hPK b e']at e;cases e)
  have hM:Mod K mg (HH s₁.heap H):=⟨hKb,nsK hns,⟨mb,nsK hb,hbb⟩,let ⟨mc,h1,h2⟩:=hlim;⟨mc,nsK h1,h2⟩⟩
  have e0:Env0 Pg w K mg (HH s₁.heap H) callerA [] s₁ H:=⟨rfl,hM,λb o e=>YM e,Nat.le_of_eq (SY _ _),trivial,λb hb=>absurd (show b∈([]:List Addr)from hb) (by simp),hok,.of_eq hg⟩
  have hsp:spF K 1 F [.ref a] H (λv _=>v=.bl true) λ_ _ _=>False:=by
   obtain⟨hd',e⟩:=hF;refine⟨rfl,[],[],[.ro ns],.im (.bl true),hd',⟨rfl,List.nodup_nil,λy hy=>?_,λn o a h=>by simp at h⟩,?_,e,λρ' H' v _ _ r=>?_⟩
   .rw[htab]at hy;obtain⟨t,ht,rfl⟩:=mem_map.mp hy;exact⟨#[],hHP t.1 (mem_map.mpr ⟨t,ht,rfl⟩),.inl rfl⟩
   .simp only[RDs,RD];refine⟨_,_,rfl,⟨a,rfl,dP hS λys z=>?_⟩,rfl⟩;rcases hO a haP with q|⟨o,ys,q⟩<;>(rw[q]at z;cases z)
   .simpa only[RD,RI]using r
  refine jT ((Fn _ hKb (nsK hns) λb o n1 n2 e=>base_of e (by
   cases q:H b with
   |none=>rfl
   |some u=>
    rcases hA b (by rw[q];simp)with e'|e'
    .exact absurd e' n2
    .exact absurd e' n1)).run callerA [] s₁ H ⟨[.ref a],[]⟩ [.ref a] [.ref a] _ _ hr e0 (hbind s₁ (.ref a)) (.cons rfl .nil) hsp) λr s' h=>?_
  cases r with
  |error e=>exact h.elim
  |ok fl=>
   cases fl with
   |next=>exact False.elim h
   |brk=>exact False.elim h
   |cont=>exact False.elim h
   |ret u=>
    obtain⟨v,H',os,bare,un,hok',r',q⟩:=h;have q':v=.bl true:=q;subst q';obtain rfl:u=Value.bool true:=r';have keep:∀b o,b∉ts.map (·.1)->s₁.heap.get? b=some o->s'.heap.get? b=some o:=λb o nb e=>by
     cases q:H b with
     |none=>exact un.keep b o e q (by intro z;exact absurd (show b∈([]:List Addr)from z) (by simp)) (by simp)
     |some u=>
      rcases hO b nb with z|⟨ob,xs,z⟩
      .rw[q]at z;cases z
      .have z2:=un.frzs b ob _ z;obtain⟨e1,_⟩:=hok b _ z;obtain⟨e2,_⟩:=hok' b _ z2;rw[e]at e1;cases e1;exact e2
    refine⟨rfl,⟨λb o e=>?_,λb o e=>?_⟩,os,bare⟩
    .by_cases nb:b∈ts.map (·.1)
     .obtain⟨cc,tb⟩:=hT b nb;obtain⟨more,hm⟩:=un.tbls b #[] (hHP b nb);have hb':s'.heap.get? b=some (tabObj (#[]++more)):=hok' b _ hm;rw[hP b nb]at e;cases e;exact .inr (.inl ⟨tb.isCodeTable,rfl,#[],more,rfl,hb'⟩)
     .exact .inl (keep b o nb e)
    .by_cases nb:b∈ts.map (·.1)
     .obtain⟨more,hm⟩:=un.tbls b #[] (hHP b nb);exact⟨_,hok' b _ hm⟩
     .exact⟨o,keep b o nb e⟩
 cases hk:K.lookup a with
 |some o=>
  have e:=KX a o hk;rw[ha]at e;cases e;refine core (λb=>if b∈ts.map (·.1)then some (.tbl #[])else none) (λb nb=>.inl (j7 nb)) (λP hp=>j6 hp) (.inr ⟨_,vs.toArray,_,hk,rfl,rfl,rfl,by rw[jd,lenV];exact hl,by simpa using rv⟩) (λb u z=>?_) (λb z=>?_) λz=>absurd (j7 haP) z
  .by_cases hb:b∈ts.map (·.1)
   .have z':=(j6 hb).symm.trans z;cases z';exact hP b hb
   .have z':=(j7 hb).symm.trans z;cases z'
  .by_cases hb:b∈ts.map (·.1)
   .exact .inr hb
   .exact absurd (j7 hb) z
 |none=>
  refine core (λb=>if b∈ts.map (·.1)then some (.tbl #[])else if b=a then some (.frz { cls:=.type "list",data:=.seq vs.toArray } (.lst (ns.map V.int)))else none) (λb nb=>?_) (λP hp=>j6 hp) (.inl (.inr ⟨{ cls:=.type "list",data:=.seq vs.toArray },(j7 haP).trans (j6 rfl)⟩)) (λb u z=>?_) (λb z=>?_) λ_=>hk
  .rw[j7 nb];by_cases hb:b=a
   .exact .inr ⟨_,_,j6 hb⟩
   .exact .inl (j7 hb)
  .by_cases hp:b∈ts.map (·.1)
   .have z':=(j6 hp).symm.trans z;cases z';exact hP b hp
   .have z:=(j7 hp).symm.trans z;by_cases hb:b=a
    .have z':=(j6 hb).symm.trans z;cases z';subst hb;exact⟨ha,by rw[jo];exact hl,vs,_,rv,ha⟩
    .have z':=(j7 hb).symm.trans z;cases z'
  .by_cases hp:b∈ts.map (·.1)
   .exact .inr hp
   .by_cases hb:b=a
    .exact .inl hb
    .exact absurd ((j7 hp).trans (j7 hb)) z
def walkL{l:OpenLaw}{n k:Nat}{XP:(Str->Option Value)->Heap->Prop}{YP:World->Heap->Prop}{d:DefRec}{K:Params->Frag}{F:List D->Hd->Option (D×Hd)}(xs:List (Str×Str×Nat×Nat))
 (hn:l.most=some n) (hn2:n<=sizeLine) (hdf:d.params.defaults=[]) (hr:Room k callerA) (hdr:∀x∈xs,∃dr,(recsOf q).find? (λe=>e.name==x.1)=some dr)
 (hF:∀ns:List Int,∃hd',F [.ro ns] []=some (.im (.bl true),hd'))
 (hY:∀(w:World) (h:Heap),YP w h->(K w.params).In h)
 (G:∀(w:World) (mg:Str->Option Value) (fa:Addr) (h:Heap) (c P:Str->Addr),(K w.params).In h->h.Ns mainGlobals mg->mg d.name=some (.ref fa) ->
  (∀x∈xs,h.get? (P x.1)=some (tabObj #[])/\CodeHd h (c x.1) (P x.1)/\∃a o fd,mg x.1=some (.ref a)/\h.get? a=some o/\o.data=.func fd/\fd.code=.ref (c x.1)) ->
  (∃g,(K w.params).lookup mainGlobals=some g)/\∃fd:FuncData,(∀(s:Shared) (u:Value),BindsTo s fd ⟨[u],[]⟩ [("_law_script",u)])/\
   ∀base:Heap,(B7 (K w.params) (xs.map λx=>(P x.1,x.2))).In base->base.Ns mainGlobals mg->(∀x∈xs,CodeHd base (c x.1) (P x.1))->(∀x∈xs,base.BuiltinsAt mg (P x.1))->FnOk l.prog w (B7 (K w.params) (xs.map λx=>(P x.1,x.2))) mg base CX0 k fa fd ["_law_script"] (spF (B7 (K w.params) (xs.map λx=>(P x.1,x.2))) 1 F)):
 PySem.W.WalkO q loose XP YP l.row.toRowW d [] (λf vs=>PySem.call f vs):=by
 refine Att.attach_call hn hdf λw s₀ s₁ mg mb fa o pm cd doc a vs ns Gr Y ho hd hcd hmg hobj hints hlen hg=>?_;have KX:=hY w _ Y;have each:∀x:Str,∃cp:Addr×Addr,(∃y∈xs,y.1=x)->(∃cc,s₁.heap.TableAt cc cp.2 #[])/\CodeHd s₁.heap cp.1 cp.2/\∃a o fd,mg x=some (.ref a)/\s₁.heap.get? a=some o/\o.data=.func fd/\fd.code=.ref cp.1:=by
  intro x;by_cases hx:∃y∈xs,y.1=x
  .obtain⟨y,hy,rfl⟩:=hx;obtain⟨dr,hdr⟩:=hdr y hy;have hnm:dr.name=y.1:=beq_iff_eq.mp (List.find?_some (p:=λe:DefRec=>e.name==y.1) hdr);obtain⟨a',o',fd',c,P,h1,h2,h3,h4,h5,h6⟩:=Gr.T.tab dr (List.mem_of_find?_eq_some hdr);rw[hnm]at h1;exact⟨(c,P),λ_=>⟨⟨_,h6⟩,CodeHd.of h5 h6,a',o',fd',h1,h2,h3,h4⟩⟩
  .exact⟨(0,0),λh=>absurd h hx⟩
 obtain⟨cp,hcp⟩:=Classical.skolem.mp each;have hcp:∀x∈xs,(∃cc,s₁.heap.TableAt cc (cp x.1).2 #[])/\CodeHd s₁.heap (cp x.1).1 (cp x.1).2/\∃a o fd,mg x.1=some (.ref a)/\s₁.heap.get? a=some o/\o.data=.func fd/\fd.code=.ref (cp x.1).1:=λx hx=>hcp x.1 ⟨x,hx,rfl⟩;have hts:∀P∈(xs.map λx=>((cp x.1).2,x.2)).map (·.1),∃x∈xs,P=(cp x.1).2:=λP hP=>by
  obtain⟨t,ht,rfl⟩:=mem_map.mp hP;obtain⟨x,hx,rfl⟩:=mem_map.mp ht;exact⟨x,hx,rfl⟩
 have hP:∀x∈xs,s₁.heap.get? (cp x.1).2=some (tabObj #[]):=λx hx=>by
  obtain⟨⟨cc,t⟩,_⟩:=hcp x hx;exact t.2
 have hmP:mainGlobals∉(xs.map λx=>((cp x.1).2,x.2)).map (·.1):=λz=>by
  obtain⟨x,hx,ez⟩:=hts _ z;obtain⟨o,es,ep,e,dd,_⟩:=Gr.T.g;rw[ez,hP x hx]at e;cases e;cases dd
 obtain⟨⟨g,hgl⟩,fd,hb,hFn⟩:=G w mg fa _ (λx=>(cp x).1) (λx=>(cp x).2) KX Gr.T.g hmg λx hx=>⟨hP x hx,(hcp x hx).2⟩
 refine SR (ts:=xs.map λx=>((cp x.1).2,x.2)) (K:=B7 (K w.params) (xs.map λx=>((cp x.1).2,x.2))) (YR KX hgl hmP) Gr.T.g Gr.T.b Gr.T.builtins Gr.T.nolimit hg hobj hints (jf hlen hn2) hr (λP hp=>by obtain⟨x,hx,rfl⟩:=hts P hp;exact(hcp x hx).1) (λP hp=>YQ hmP hp) (Hq _ _) (λbase kb nb keep=>hFn base kb nb (λx hx=>?_) λx hx=>?_) hb (hF ns)
 .obtain⟨oc,vs',file,tf,flags,tg,inF,text,tt,e1,r1,r2,r3,r4,r5,r6,r7,r8,hne⟩:=(hcp x hx).2.1;have hn:(cp x.1).1∉(xs.map λx=>((cp x.1).2,x.2)).map (·.1):=λz=>by
   obtain⟨y,hy,ez⟩:=hts _ z;rw[ez,hP y hy]at e1;cases e1;cases r1
  exact⟨oc,vs',file,tf,flags,tg,inF,text,tt,keep (cp x.1).1 oc hn (λz=>by rw[z,hobj]at e1;cases e1;exact absurd (show Value.type "list"=Value.type "code" from r1) (by decide)) e1,r1,r2,r3,r4,r5,r6,r7,r8,hne⟩
 .obtain⟨bm,ob,b1,b2,b3,b4,b5,b6⟩:=Gr.T.bmain;have nP:∀y∈xs,bm≠(cp y.1).2:=λy hy z=>by rw[z,hP y hy]at b3;cases b3;cases b4
  have hn:bm∉(xs.map λx=>((cp x.1).2,x.2)).map (·.1):=λz=>by
   obtain⟨y,hy,ez⟩:=hts _ z;exact nP y hy ez
  refine⟨bm,ob,b1,b2,λz=>?_,nP x hx,keep bm ob hn (λz=>by rw[z,hobj]at b3;cases b3;exact absurd (show Value.type "list"=Value.type "module" from b4) (by decide)) b3,b4,b5,b6⟩;obtain⟨o,es,ep,e,dd,_⟩:=Gr.T.g;rw[<- z,b3]at e;cases e;rw[b6]at dd;cases dd
def TX(o:Obj):Option Addr:=match o.data with
 | .fields vs=>(match (vs[11]?:Option Value)with
  |some (Value.ref P)=>some P
  | _=>none)
 |_=>none
def ZI{K:Frag}(X:K.In h)(hc:CodeHd h c P)(k:K.lookup c=some o)(e:TX o=some p):P=p:=by
 obtain⟨o',vs,file,tf,flags,tg,inF,text,tt,e1,e2,e3,e4,_⟩:=hc;have:=X _ _ k;rw[e1]at this;cases this;simp only[TX,e3,e4]at e;exact Option.some.inj e
end L2
namespace L2
open PySem PySem.W PyProof.Rows
abbrev FD:=List D->Hd->Option (D×Hd)
structure EnK where
 P:Program
 w:World
 K:Frag
 mg:Str->Option Value
 base:Heap
structure Df where
 x:Str
 st:Stmt
 ps:List Str
 k:Nat
 F:FD
def Dn(E:EnK)(e:Df):Prop:=∃f fd,DefAt E.K E.mg e.x e.st f fd e.ps
def Dl(E:EnK)(e:Df)(ps:Pos):Prop:=∃f fd c P,DefAt E.K E.mg e.x e.st f fd e.ps/\LamC E.K E.mg E.base fd c P ((e.x++".<locals>.")++"<lambda>") ps
def Kn(E:EnK)(e:Df):Prop:=∃f fd,DefAt E.K E.mg e.x e.st f fd e.ps/\FnOk E.P E.w E.K E.mg E.base CX0 e.k f fd e.ps (spF E.K e.ps.length e.F)/\∀ds hd z,e.F ds hd=some z->ds.length=e.ps.length
def okK{st:Stmt}{j k:Nat}(D:Dn E ⟨x,st,ps,k,F⟩)(S:FnScope N ps (AA st))(hF:F=mkF ps.length N.length m)(hk:k=j+1)
 (h:∀(f:Addr) (cdv:Value) (A:Around) (outer:List Env) (s:Shared) (H:Hp) (Ek:XK),Room j (A.deeper (envOfC x (AA st) s.heap.objs.size f cdv))->∃t,QSs E.K (Dq CX0 E.P E.w E.K E.mg E.base N x (AA st) f cdv A outer s H Ek).nox (BE st) t m):Kn E ⟨x,st,ps,k,F⟩:=by
 obtain⟨f,fd,D⟩:=D;subst hF;subst hk;exact⟨f,fd,D,YK D S (h f),Op⟩
def okL{st:Stmt}{j k:Nat}(D:Dl E ⟨x,st,ps,k,F⟩ pos)(S:FnScope N ps (AA st))(hF:F=mkF ps.length N.length m)(hk:k=j+1)
 (h:∀(f c P:Addr) (fd:FuncData) (LC:LamC E.K E.mg E.base fd c P ((x++".<locals>.")++"<lambda>") pos) (cdv:Value) (A:Around) (outer:List Env) (s:Shared) (H:Hp) (Ek:XK),fd.code=cdv->Room j (A.deeper (envOfC x (AA st) s.heap.objs.size f cdv))->∃t,QSs E.K (Dq CX0 E.P E.w E.K E.mg E.base N x (AA st) f cdv A outer s H Ek).nox (BE st) t m):Kn E ⟨x,st,ps,k,F⟩:=by
 obtain⟨f,fd,c,P,D,LC⟩:=D;subst hF;subst hk;exact⟨f,fd,D,Ue D S (h f c P fd LC),Op⟩
def ok0{st:Stmt}{k k':Nat}(D:Dn E ⟨x,st,ps,k',F⟩):Kn E ⟨x,st,ps,k,λ_ _=>none⟩:=by
 obtain⟨f,fd,D⟩:=D;refine⟨f,fd,D,⟨λvs H Q E h=>h.1,λA outer s H args us vs Q E hr e0 hb hv h=>?_⟩,λ_ _ _ h=>nomatch h⟩;obtain⟨_,_,_,_,_,_,_,_,e,_⟩:=h;cases e
section
variable{K:Frag}{X:Cx}{j k:Nat}{st:Stmt}
def qcW(w:Nat)(G:Kn ⟨X.prog,X.w,X.K,X.mg,X.base⟩ ⟨x,st,ps,j,F⟩)(hr:Room k X.A)(ha:QA K X (e::es) t m)
 (hjk:j<=k:=by first|decide|omega) (hg:Gl X x:=by rfl) (hdb:(x==("__debug__":Str))=false:=by decide) (he:starEach (e::es) X.env=(false,eval e X.env)::starEach es X.env:=by rfl) (hpl:(backTo pos (starEach es X.env)).any (·.1)=false:=by rfl) (hK:X.K=K:=by rfl):
 QE K X (.Call (.Name x p) (e::es) [] pos) (Eg (spF K ps.length F) [] E0 t) (AB w F m):=by
 subst hK;obtain⟨f,fd,D,G,l⟩:=G;exact UM _ w G hr D ha l hjk hg hdb he hpl
def qcG(G:Kn ⟨X.prog,X.w,X.K,X.mg,X.base⟩ ⟨x,st,ps,j,F⟩)(hr:Room k X.A)(ha:QA K X (e::es) t m)
 (hjk:j<=k:=by first|decide|omega) (hg:Gl X x:=by rfl) (hdb:(x==("__debug__":Str))=false:=by decide) (he:starEach (e::es) X.env=(false,eval e X.env)::starEach es X.env:=by rfl) (hpl:(backTo pos (starEach es X.env)).any (·.1)=false:=by rfl) (hK:X.K=K:=by rfl):
 QE K X (.Call (.Name x p) (e::es) [] pos) (Eg (spF K ps.length F) [] E0 t) (AX F m):=by
 subst hK;obtain⟨f,fd,D,G,l⟩:=G;exact UN _ G hr D ha l hjk hg hdb he hpl
def UR(a:Arguments):Str:=match a.args with
 |x::_=>x.arg
 |[]=>""
def aG{src:Ls->Hd->Option (List Int×Hd)}(LC:LamC X.K X.mg X.base fd c P q lpos)(hcd:fd.code=cdv)(hr:Room k X.A)(hm:X.mg "sorted"=none)(he:QSrc K X e te src)
 (hb:∀(f:Addr) (cd:Value) (s:Shared) (H:Hp),QE K (lCx X X.A.in1.in1 (UR params::frN X ix) (X.env.qual++"<lambda>") scope f cd (Al X.env.cells scope.names []) s H) body tb mb)
 (hcv:X.env.code=cdv:=by rfl) (hq:q=X.env.qual++"<lambda>":=by rfl) (S:CSc X scope (frN X ix) ix:=by exact⟨rfl,by decide +kernel,rfl,rfl,rfl,by decide +kernel⟩) (L:LSc scope (UR params):=by exact⟨rfl,rfl,rfl,rfl⟩) (h3:3<=k:=by decide)
 (hbind:∀(cl:List (Str×Addr)) (pm cd ctv us:Value),bindArgs (kla_fn "<lambda>" (X.env.qual++"<lambda>") params body scope cl pm cd ctv) ⟨[us],[]⟩=pure [(UR params,us)]:=by exact λ_ _ _ _ _=>rfl)
 (hcm:X.calm=true:=by rfl) (hg:Gl X "sorted":=by rfl) (hdef:defaultsOf params X.env=([],[]):=by rfl) (hs:starEach [e] X.env=[(false,eval e X.env)]:=by rfl) (hK:X.K=K:=by rfl):
 QN K X (.Call (.Name "sorted" p) [e] [⟨some "key",.Lambda params body scope lpos,kpos⟩] pos) (Jf K P (X.env.qual++"<lambda>") lpos ix te tb) (Ew src ix mb):=by
 subst hq;exact UG K ⟨hcv.trans (hcd.symm.trans LC.code),LC.hd,LC.bl⟩ (hK ▸ LC.ti) S L hr h3 hm he hb hbind hcm hg hdef hs hK
end
def FnAt(K:Frag)(n:Str)(s:Stmt)(f:Addr)(cd:Value):Prop:=∃oc kV dc pm ct od an sl,nsIn K mainGlobals n=some (some (.ref f))/\K.lookup f=some ⟨oc,od,.func (fnOf n n (Cr s) (BE s) (AA s) .none kV dc pm an cd ct),sl⟩/\codeIn K cd n=true/\keepIn K (.ref f)=true
def Fe(K:Frag)(e:Df):Prop:=∃f cd,FnAt K e.x e.st f cd
def Fla(K:Frag)(e:Df)(p:Addr):Prop:=∃f ca ob,FnAt K e.x e.st f (.ref ca)/\K.lookup ca=some ob/\TX ob=some p
abbrev Xs:=List (Str×Str×Nat×Nat)
def HX(xs:Xs)(mg:Str->Option Value)(h:Heap)(c P:Str->Addr):Prop:=∀x∈xs,h.get? (P x.1)=some (tabObj #[])/\CodeHd h (c x.1) (P x.1)/\∃a o fd,mg x.1=some (.ref a)/\h.get? a=some o/\o.data=.func fd/\fd.code=.ref (c x.1)
abbrev tbs(xs:Xs)(P:Str->Addr):List Tb:=xs.map λx=>(P x.1,x.2)
abbrev enM(l:OpenLaw)(w:World)(K:Frag)(xs:Xs)(P:Str->Addr)(mg:Str->Option Value)(base:Heap):EnK:=⟨l.prog,w,B7 K (tbs xs P),mg,base⟩
def Bd(e:Df):Prop:=∀(kV doc pm:Value) (an:Option Addr) (cdv ct:Value) (us:List Value),us.length=e.ps.length->bindArgs (fnOf e.x e.x (Cr e.st) (BE e.st) (AA e.st) .none kV doc pm an cdv ct) ⟨us,[]⟩=pure (e.ps.zip us)
section
variable{K:Frag}{mg:Str->Option Value}{c P:Str->Addr}(X:K.In h)(G:h.Ns mainGlobals mg)(hx:HX xs mg h c P)
include hx in
theorem JQ:∀P'∈(tbs xs P).map (·.1),h.get? P'=some (tabObj #[]):=λP' hp=>by
 obtain⟨t,ht,rfl⟩:=mem_map.mp hp;obtain⟨x,hxx,rfl⟩:=mem_map.mp ht;exact(hx x hxx).1
include X G hx in
theorem FnAt.def{e:Df}(H:FnAt K e.x e.st f cd)(b:Bd e):∃fd,DefAt (B7 K (tbs xs P)) mg e.x e.st f fd e.ps/\fd.code=cd:=by
 obtain⟨oc,kV,dc,pm,ct,od,an,sl,a,l,cc,k⟩:=H;have F:=Fun.mark (ts:=tbs xs P) (Sb (st:=e.st) l cc k) X (JQ hx);exact⟨_,⟨F,mg_of X G a,F.binds b⟩,rfl⟩
include X G hx in
theorem Fe.dn(H:Fe K e)(b:Bd e)(l:OpenLaw)(w:World)(base:Heap):Dn (enM l w K xs P mg base) e:=by
 obtain⟨f,cd,H⟩:=H;obtain⟨fd,D,_⟩:=H.def X G hx b;exact⟨f,fd,D⟩
include X G hx in
theorem Fla.code(H:Fla K e p){i j:Nat}(hm:(e.x,q,i,j)∈xs):P e.x=p/\∃f,FnAt K e.x e.st f (.ref (c e.x)):=by
 obtain⟨f,ca,ob,⟨oc,kV,dc,pm,ct,od,an,sl,a,l,cc,k⟩,t,v⟩:=H;obtain⟨_,hh,a',ob',fd,h1,h2,h3,h4⟩:=hx _ hm;have e1:=h1.symm.trans (mg_of X G a);cases e1;have e2:=h2.symm.trans (X _ _ l);cases e2;cases h3;have e3:Value.ref ca=.ref (c e.x):=h4;cases e3;exact⟨ZI X hh t v,f,⟨_,_,_,_,_,_,_,_,a,l,cc,k⟩⟩
include X G hx in
theorem Fla.dl(H:Fla K e p)(b:Bd e){i j:Nat}(hm:(e.x,q,i,j)∈xs){i' j':Nat}(l:OpenLaw)(w:World)(hd:∀x∈xs,CodeHd base (c x.1) (P x.1))(bl:∀x∈xs,base.BuiltinsAt mg (P x.1))(nd:((DN (B7 K (tbs xs P))).map (·.1)).Nodup)(hq:q=(e.x++".<locals>.")++"<lambda>"):
 Dl (enM l w K xs P mg base) e ⟨i,j,i',j'⟩:=by
 obtain⟨_,f,H⟩:=H.code X G hx hm;obtain⟨fd,D,e1⟩:=H.def X G hx b;subst hq;exact⟨f,fd,_,_,D,⟨e1,hd _ hm,bl _ hm,⟨i,j,0,0⟩,by rw[Hq];exact mem_map.mpr ⟨(P e.x,_,i,j),mem_map.mpr ⟨_,hm,rfl⟩,rfl⟩,nd,rfl,rfl⟩⟩
def eK(h:(xs.map λx=>P x.1)=ps)(n:ps.Nodup):((DN (B7 K (tbs xs P))).map (·.1)).Nodup:=by
 rw[Hq,jh,jh];subst h;exact n
end
def Zs(K:Frag):Prop:=∀n∈(["list","tuple","len","range","repr","sum","min","max","abs","all","any","sorted","zip","isinstance","int","bool","str","set","enumerate","reversed","dict"]:List Str),nsIn K mainGlobals n=some none
def Zs.blt{K:Frag}(Z:Zs K){mg:Str->Option Value}(X:K.In h)(G:h.Ns mainGlobals mg):BltA mg:=by
 constructor<;>exact PySem.W.mg_none_of X G (Z _ (by simp))
def bd1{e:Df}(hl:e.ps.length=1:=by rfl)(h:∀(kV doc pm:Value) (an:Option Addr) (cdv ct:Value) a,bindArgs (fnOf e.x e.x (Cr e.st) (BE e.st) (AA e.st) .none kV doc pm an cdv ct) ⟨[a],[]⟩=pure (e.ps.zip [a]):=by intros;rfl):Bd e:=λ_ _ _ _ _ _ us hu=>match us,hu.trans hl with|[_],_=>h ..
def bd2{e:Df}(hl:e.ps.length=2:=by rfl)(h:∀(kV doc pm:Value) (an:Option Addr) (cdv ct:Value) a b,bindArgs (fnOf e.x e.x (Cr e.st) (BE e.st) (AA e.st) .none kV doc pm an cdv ct) ⟨[a,b],[]⟩=pure (e.ps.zip [a,b]):=by intros;rfl):Bd e:=λ_ _ _ _ _ _ us hu=>match us,hu.trans hl with|[_,_],_=>h ..
def bd3{e:Df}(hl:e.ps.length=3:=by rfl)(h:∀(kV doc pm:Value) (an:Option Addr) (cdv ct:Value) a b c,bindArgs (fnOf e.x e.x (Cr e.st) (BE e.st) (AA e.st) .none kV doc pm an cdv ct) ⟨[a,b,c],[]⟩=pure (e.ps.zip [a,b,c]):=by intros;rfl):Bd e:=λ_ _ _ _ _ _ us hu=>match us,hu.trans hl with|[_,_,_],_=>h ..
def bd4{e:Df}(hl:e.ps.length=4:=by rfl)(h:∀(kV doc pm:Value) (an:Option Addr) (cdv ct:Value) a b c d,bindArgs (fnOf e.x e.x (Cr e.st) (BE e.st) (AA e.st) .none kV doc pm an cdv ct) ⟨[a,b,c,d],[]⟩=pure (e.ps.zip [a,b,c,d]):=by intros;rfl):Bd e:=λ_ _ _ _ _ _ us hu=>match us,hu.trans hl with|[_,_,_,_],_=>h ..
def B0{ps:List Str}{sc:Scope}(h:(decide (sc.kind=.function)&&!sc.isCoroutine&&!sc.isGenerator&&ndB N&&(N.take ps.length==ps)&&(ps.all λx=>sc.names.lookup x==some .local||sc.names.lookup x==some .cell)&&sc.names.all λy=>y.2 != .free)=true):FnScope N ps sc:=by
 simp only[Bool.and_eq_true,all_eq_true,Bool.or_eq_true,beq_iff_eq,decide_eq_true_eq,Bool.not_eq_true',bne_iff_ne]at h;obtain⟨⟨⟨⟨⟨⟨h1,h2⟩,h3⟩,h4⟩,h5⟩,h6⟩,h7⟩:=h;exact⟨h1,h2,h3,Gi h4,h5,h6,h7⟩
abbrev HG(l:OpenLaw)(w:World)(K:Frag)(xs:Xs)(mg:Str->Option Value)(c P:Str->Addr)(fa:Addr)(e:Df):Prop:=(∃g,K.lookup mainGlobals=some g)/\∃fd:FuncData,(∀(s:Shared) (v:Value),BindsTo s fd ⟨[v],[]⟩ [("_law_script",v)])/\∀base:Heap,(B7 K (tbs xs P)).In base->base.Ns mainGlobals mg->(∀x∈xs,CodeHd base (c x.1) (P x.1))->(∀x∈xs,base.BuiltinsAt mg (P x.1))->FnOk l.prog w (B7 K (tbs xs P)) mg base CX0 e.k fa fd ["_law_script"] (spF (B7 K (tbs xs P)) 1 e.F)
def V0{K:Frag}{mg:Str->Option Value}{c P:Str->Addr}{e:Df}(X:K.In h)(G:h.Ns mainGlobals mg)(hfa:mg e.x=some (.ref fa))(hx:HX xs mg h c P)(H:Fe K e)(b:Bd e)(hps:e.ps=(["_law_script"]:List Str))
 (ok:∀base:Heap,(∀x∈xs,CodeHd base (c x.1) (P x.1))->(∀x∈xs,base.BuiltinsAt mg (P x.1))->Kn (enM l w K xs P mg base) e):
 HG l w K xs mg c P fa e:=by
 obtain⟨f,cd,H⟩:=H;obtain⟨fd,D,_⟩:=H.def X G hx b;obtain⟨oc,kV,dc,pm,ct,od,an,sl,a,lk,cc,k⟩:=H;have hg:∃g,K.lookup mainGlobals=some g:=by
  cases e:K.lookup mainGlobals with
  |some g=>exact⟨g,rfl⟩
  |none=>unfold nsIn at a;rw[e]at a;cases a
 have e1:=hfa.symm.trans D.mg;cases e1;refine⟨hg,fd,λs v=>?_,λbase _ _ hd bl=>?_⟩
 .obtain⟨⟨oc',od',kV',dc',pm',an',cd',ct',sl',rfl,_,_⟩,_⟩:=D.fn;have:=b kV' dc' pm' an' cd' ct' [v] (by rw[hps];rfl);rw[hps]at this;exact .of_eq this
 .obtain⟨f',fd',D',F',_⟩:=ok base hd bl;have e2:=D.mg.symm.trans D'.mg;cases e2;obtain⟨⟨oc',od',kV',dc',pm',an',cd',ct',sl',h1,h2,_⟩,_⟩:=D.fn;obtain⟨⟨oc2,od2,kV2,dc2,pm2,an2,cd2,ct2,sl2,h3,h4,_⟩,_⟩:=D'.fn;have e3:=h2.symm.trans h4;cases e3;rw[hps]at F';exact F'
end L2
namespace L2
open PySem PySem.Spec PyProof.Rows
def FH{α:Type}:List (Option α)->Option (List α)
 |[]=>some []
 |some x::r=>(FH r).map (x::·)
 |none::_=>none
def pyN:Nat->Hd->D->Option PyData
 |_,_,.im i=>some i.py
 |_,_,.ro ns=>some (.list (I.pys (ns.map I.int)))
 |0,_,_=>none
 |n+1,hd,.tm ds=>(FH (ds.map (pyN n hd))).map .tuple
 |n+1,hd,.mu k=>match hd[k]? with
  |some (.lst ds)=>(FH (ds.map (pyN n hd))).map .list
  |_=>none
 |_+1,_,.op _ _ _=>none
section
variable{K:Frag}
theorem Ja{f:D->Option PyData}(hf:∀d v p,RD K ρ H d v->f d=some p->Rep K H p v):∀{ds:List D} {xs:List V} {ps:List PyData},RDs K ρ H ds xs->FH (ds.map f)=some ps->CG K H ps xs
 |[],xs,ps,r,e=>by
  simp only[RDs]at r;subst r;simp[FH]at e;subst e;simp only[CG]
 |d::ds,xs,ps,r,e=>by
  simp only[RDs]at r;obtain⟨x,r',rfl,h1,h2⟩:=r;rw[jc]at e;cases q:f d with
  |none=>rw[q]at e;cases e
  |some p=>
   rw[q]at e;obtain⟨ps',e1,rfl⟩:=j4 (show(FH (ds.map f)).map (p::·)=some ps from e);simp only[CG];exact⟨x,r',rfl,hf d x p h1 q,Ja hf h2 e1⟩
theorem KZ(hR:RH K ρ H hd):∀(n:Nat) (d:D) (v:V) (p:PyData),RD K ρ H d v->pyN n hd d=some p->Rep K H p v
 |n,.im i,v,p,h,e=>EQ (hd:=hd) hR h (by cases n<;>exact e)
 |n,.ro ns,v,p,h,e=>EQ (hd:=hd) hR h (by cases n<;>exact e)
 |0,.tm ds,v,p,h,e=>by cases e
 |0,.mu k,v,p,h,e=>by cases e
 |0,.op _ _ _,v,p,h,e=>by cases e
 |n+1,.op _ _ _,v,p,h,e=>by cases e
 |n+1,.tm ds,v,p,h,e=>by
  simp only[RD]at h;obtain⟨a,xs,rfl,q,r⟩:=h;obtain⟨ps,e1,rfl⟩:=j4 (show(FH (ds.map (pyN n hd))).map PyData.tuple=some p from e);simp only[Rep];exact⟨a,xs,rfl,q,Ja (λd v p=>KZ hR n d v p) r e1⟩
 |n+1,.mu k,v,p,h,e=>by
  simp only[pyN]at e;simp only[RD]at h;obtain⟨a,hn,rfl⟩:=h;split at e
  .next ds q=>
   obtain⟨ps,e1,rfl⟩:=j4 e;obtain⟨xs,e2,e3⟩:=hR.lst hn q;simp only[Rep];exact⟨a,xs,rfl,SqL.of e2,Ja (λd v p=>KZ hR n d v p) e3 e1⟩
  .cases e
end
open Classical in
def G4:List D->Hd->Option (D×Hd)
 |[d],hd=>match pyN 30 hd d with
  |some p=>if N7 p then some (.im (.str p.shown),hd)else none
  |none=>none
 |_,_=>none
def Tx{K:Frag}:RF K (M0 K) G4:=by
 intro ρ H hd ds vs Q z hd' hR h1 hf hQ;unfold G4 at hf;split at hf
 .split at hf
  .next p e=>
   split at hf
   .next c=>
    cases hf;simp only[RDs]at h1;obtain⟨x,r,rfl,rx,rfl⟩:=h1;exact⟨x,p,rfl,KZ hR _ _ _ _ rx e,c.1,c.2.1,c.2.2.1,c.2.2.2.1,c.2.2.2.2,hQ ρ H _ .refl hR (by simp[RD,RI])⟩
   .cases hf
  .cases hf
 .cases hf
section
variable{QE:D->Hd->Prop}
def MD(h1:pyN 30 hd d=some p)(c:N7 p)(q:QE (.im (.str p.shown)) hd):WP (G4 [d] hd) QE:=⟨_,_,by show(match pyN 30 hd d with|some p=>_|none=>_)=_;rw[h1];exact j6 c,q⟩
end
end L2
namespace L2
open PySem PySem.Spec PyProof.Rows PySem.W
def S5(K:Frag):List V->Hp->VK->Prop:=λxs H Q=>(xs=[.non]/\Q (.str "None") H)∨Mw xs H Q∨(∃i,xs=[.int i]/\i.natAbs.log2<1920/\Q (.str (toString i)) H)∨(∃x,xs=[.str x]/\(reprText x).length<=sizeLine/\Q (.str (reprText x)) H)∨M0 K xs H Q
def Qj(K:Frag){X:Cx}(hg:X.A.guards=some [])(hu:X.A.units+64<cLine)(hK:X.K=K:=by rfl):CallR X (.builtin "repr") (S5 K):=by
 intro O s U H xs us Q I r h;rcases h with⟨rfl,q⟩|h|h|⟨x,rfl,hx,q⟩|h
 .obtain⟨u,rfl,ru⟩:=CU r;cases ru;exact PySem.P.repr_of_none ⟨.str "None",H,I.tok _,⟨_,rfl⟩,q⟩
 .exact Qi O s U H xs us Q I r h
 .exact Qg O s U H xs us Q I r h
 .obtain⟨u,rfl,ru⟩:=CU r;obtain⟨t,rfl⟩:=ru;exact PySem.P.repr_of_str ⟨.str (reprText x),H,I.tok _,⟨_,rfl⟩,q⟩ hx
 .exact OI K hg hu hK O s U H xs us Q I r h
open Classical in
def EA:List D->Hd->Option (D×Hd)
 |[.im .non],hd=>some (.im (.str "None"),hd)
 |[.im (.bl k)],hd=>Nc [.im (.bl k)] hd
 |[.im (.int i)],hd=>IH [.im (.int i)] hd
 |[.im (.str x)],hd=>if(reprText x).length<=sizeLine then some (.im (.str (reprText x)),hd)else none
 |ds,hd=>G4 ds hd
def U1{K:Frag}:RF K (S5 K) EA:=by
 intro ρ H hd ds vs Q z hd' hR h1 hf hQ;unfold EA at hf;split at hf
 .cases hf;simp only[RDs,RD,RI]at h1;obtain⟨x,r,rfl,rfl,rfl⟩:=h1;exact .inl ⟨rfl,hQ ρ H _ .refl hR (by simp[RD,RI])⟩
 .exact .inr (.inl (U0 ρ H _ _ _ Q z hd' hR h1 hf hQ))
 .exact .inr (.inr (.inl (Tz ρ H _ _ _ Q z hd' hR h1 hf hQ)))
 .split at hf
  .next c=>
   cases hf;simp only[RDs,RD,RI]at h1;obtain⟨x,r,rfl,rfl,rfl⟩:=h1;exact .inr (.inr (.inr (.inl ⟨_,rfl,c,hQ ρ H _ .refl hR (by simp[RD,RI])⟩)))
  .cases hf
 .exact .inr (.inr (.inr (.inr (Tx ρ H _ _ _ Q z hd' hR h1 hf hQ))))
end L2
namespace L2
open PySem PySem.Spec PyProof.Rows
def Qo(v:Option Addr)(h:Heap)(T:Addr):Prop:=∃oT ts,h.get? T=some oT/\oT.data=.fields ts/\ts[3]?=some (v.elim Value.none λf=>rawInt f)
def gH(h:Heap)(T:Addr):Prop:=∃oT ts,h.get? T=some oT/\oT.data=.fields ts/\3<ts.size
def TbL(L:Addr)(h:Heap)(a:Addr)(tb:Value):Prop:=tb=.none∨∃T v,tb=.ref T/\T≠a/\(v=none∨v=some L)/\Qo v h T
section
variable{A:Around}{E:Value->Shared->Prop}{s:Shared}
def On{Q:Unit->Shared->Prop}(hfr:A.frames=some (env::outer))(hl:s.heap.FunFrames base (env::outer))(hf:env.frame=some L)(he:Exo s.heap a C dx tb)(ht:TbL L s.heap a tb)
 (h:∀h' T,(s.heap.objs.size<=T∨tb=.ref T)->T≠a->Exo h' a C dx (.ref T)->gH h' T->Note (frs (env::outer)) a tb s.heap h'->Q () { s with heap:=h' }):
 wpAny M A (noteFrame (.ref a) env) Q E s:=by
 have he0:=he;obtain⟨vs,sl,ha,h1⟩:=he;have sz:1<vs.size:=(Array.getElem?_eq_some_iff.mp h1).1;have frF:∀b∈frs (env::outer),∃o,s.heap.get? b=some o/\∀vs,o.data≠.fields vs:=λb hb=>(hl.mem hb).2;have naF:a∉frs (env::outer):=λhb=>by
  obtain⟨o,e,n⟩:=frF a hb;rw[ha]at e;cases e;exact n vs rfl
 have main:∀(h0:Heap) (hadNext:Bool),h0.objs.size=s.heap.objs.size->h0.get? a=some ⟨.ref C,dx,.fields vs,sl⟩->(∀b o,s.heap.get? b=some o->.ref b≠tb->h0.get? b=some o)->(∀b o,s.heap.get? b=some o->∃o',h0.get? b=some o')->h0.FunFrames base (env::outer) ->
  wpAny M A (do let f <- frameOf env;let pl <- entryPlaceOf L hadNext;let b <- EntryCells.newEntry tb f .none (rawInt L) .none pl;setField (.ref a) 1 b) Q E { s with heap:=h0 }:=by
  intro h0 hadNext hz ha0 k0 t0 hl0;refine j5 (wpAny_frameOf_fun (s:={ s with heap:=h0 }) hfr hl0 hf λh1' hs1=>?_);refine j5 (wpAny_entryPlaceOf λpl hpl=>?_);unfold EntryCells.newEntry newFields;refine j5 (jH ?_ (hpl.sizeOk5 _ _ _ _ _));generalize hob:({ cls:=.type "traceback",dict:=none,data:=.fields ([tb,.ref L,.none,rawInt L,.none]++(if pl.isEmpty then List.replicate 6 Value.none else pl)).toArray }:Obj)=ob;have hobd:ob.data=.fields ([tb,.ref L,.none,rawInt L,.none]++(if pl.isEmpty then List.replicate 6 Value.none else pl)).toArray:=by rw[<- hob]
  have z1:h1'.objs.size=s.heap.objs.size:=hs1.1.trans hz;have ha1:h1'.get? a=some ⟨.ref C,dx,.fields vs,sl⟩:=(hs1.2.1 a naF).trans ha0;have ha2:=Heap.get?_push_of_some (h:=h1') ob ha1;have nT:h1'.objs.size≠a:=jv (Heap.lt_size ha1);have ha3:=Heap.get?_update_self (Obj.mapFields (·.setIfInBounds 1 (Value.ref h1'.objs.size))) ha2 (Obj.isFreed_of_fields (Obj.data_mapFields rfl _));have hT3:=(Heap.get?_update_other (h1'.push ob) (Obj.mapFields (·.setIfInBounds 1 (Value.ref h1'.objs.size))) (Ne.symm nT)).trans (Heap.get?_push_size h1' (by rw[<- hob];rfl));have three:3<([tb,.ref L,.none,rawInt L,.none]++(if pl.isEmpty then List.replicate 6 Value.none else pl)).toArray.size:=by simp only[jd,jL,jK,length_nil];omega
  refine kL ha2 rfl sz (h _ h1'.objs.size (.inl (Nat.le_of_eq z1.symm)) nT ⟨_,sl,ha3,by simp[sz]⟩ ⟨_,_,hT3,hobd,three⟩ ?_);have up:∀b o,h1'.get? b=some o->b≠a->((h1'.push ob).update a (Obj.mapFields (·.setIfInBounds 1 (Value.ref h1'.objs.size)))).get? b=some o:=λb o e n=>by
   rw[Heap.get?_update_other _ _ (Ne.symm n)];exact Heap.get?_push_of_some _ e
  refine⟨λb o e n1 n2 n3=>up b o ((hs1.2.1 b n3).trans (k0 b o e n2)) n1,λb o e hb=>?_,λb o e=>?_⟩
  .obtain⟨o',e',n⟩:=frF b hb;rw[e]at e';cases e';have hbt:.ref b≠tb:=by
    rcases ht with rfl|⟨T,v,rfl,_,_,oT,ts,eT,dT,_⟩
    .exact λq=>by cases q
    .intro q;cases q;rw[e]at eT;cases eT;exact n ts dT
   obtain⟨sl',e1⟩:=hs1.2.2 b o (k0 b o e hbt);exact⟨sl',up b _ e1 λq=>naF (q ▸ hb)⟩
  .by_cases q:b=a
   .subst q;exact⟨_,ha3⟩
   .obtain⟨o0,e0⟩:=t0 b o e;obtain⟨sl',e1⟩:=hs1.2.2 b o0 e0;exact⟨_,up b _ e1 q⟩
 unfold noteFrame;simp only[hf];refine j5 (jr ha rfl h1 ?_);rcases ht with rfl|⟨T,v,rfl,nTa,hv,oT,ts,eT,dT,e3⟩
 .rw[j7 (by decide)];exact main s.heap _ rfl ha (λb o e _=>e) (λb o e=>⟨o,e⟩) hl
 .rw[j6 (show(Value.ref T != Value.none)=true from by simp)];refine j5 (jr eT dT e3 ?_);rcases hv with rfl|rfl
  .rw[j7 (by simp[rawInt])];refine j5 (kL eT dT (Array.getElem?_eq_some_iff.mp e3).1 ?_);have oth:∀b,b≠T->(s.heap.update T (Obj.mapFields (·.setIfInBounds 3 Value.none))).get? b=s.heap.get? b:=λb n=>Heap.get?_update_other _ _ (Ne.symm n);refine main _ _ (by simp) ((oth a (Ne.symm nTa)).trans ha) (λb o e n=>(oth b λq=>n (by rw[q])).trans e) (λb o e=>?_) (hl.of_keeps λb o e n=>⟨o,(oth b λq=>?_).trans e,rfl⟩)
   .by_cases q:b=T
    .subst q;exact⟨_,Heap.get?_update_self _ eT (Obj.isFreed_of_fields (Obj.data_mapFields dT _))⟩
    .exact⟨o,(oth b q).trans e⟩
   .subst q;rw[eT]at e;cases e;exact n ts dT
  .rw[j6 (by simp)];exact j8 (h s.heap T (.inr rfl) nTa he0 ⟨oT,ts,eT,dT,(Array.getElem?_eq_some_iff.mp e3).1⟩ ⟨λb o e _ _ _=>e,λb o e _=>⟨o.slots,e⟩,λb o e=>⟨o,e⟩⟩)
def Om(v:Option Addr){Q:Unit->Shared->Prop}(hfr:A.frames=some (env::outer))(hl:s.heap.FunFrames base (env::outer))(hf:env.frame=some L)(he:Exo s.heap a C dx tb)(ht:TbL L s.heap a tb)
 (h:∀h' T,(s.heap.objs.size<=T∨tb=.ref T)->T≠a->Exo h' a C dx (.ref T)->Qo v h' T->Note (frs (env::outer)) a tb s.heap h'->Q () { s with heap:=h' }):
 wpAny M A (noteFrame (.ref a) env) (λ_ s2=>wpAny M A (setFlight (.ref a) v) Q E s2) E s:=by
 refine On hfr hl hf he ht λh' T hT nT ex tr N=>?_;obtain⟨vs,sl,ha,h1⟩:=id ex;obtain⟨oT,ts,eT,dT,lt⟩:=tr;unfold setFlight;refine j5 (jr (s:={ s with heap:=h' }) ha rfl h1 ?_);rw[j6 (show(Value.ref T != Value.none)=true from by simp)];have oth:∀b,b≠T->(h'.update T (Obj.mapFields (·.setIfInBounds 3 (v.elim Value.none λf=>rawInt f)))).get? b=h'.get? b:=λb n=>Heap.get?_update_other _ _ (Ne.symm n);have nF:T∉frs (env::outer):=λhb=>by
  obtain⟨o,e,n⟩:=(hl.mem hb).2;rcases hT with z|z
  .exact absurd (Heap.lt_size e) (not_lt.mpr z)
  .rcases ht with y|⟨T',v',y,_,_,oT',ts',eT',dT',_⟩
   .rw[y]at z;cases z
   .rw[y]at z;cases z;rw[e]at eT';cases eT';exact n ts' dT'
 refine kL (s:={ s with heap:=h' }) eT dT lt (h _ T hT nT ⟨vs,sl,(oth a (Ne.symm nT)).trans ha,h1⟩ ⟨_,_,Heap.get?_update_self _ eT (Obj.isFreed_of_fields (Obj.data_mapFields dT _)),Obj.data_mapFields dT _,by simp[lt]⟩ ⟨λb o e n1 n2 n3=>?_,λb o e hb=>?_,λb o e=>?_⟩)
 .have:b≠T:=λz=>by
   subst z;rcases hT with z|z
   .exact absurd (Heap.lt_size e) (not_lt.mpr z)
   .exact n2 z.symm
  rw[oth b this];exact N.keep b o e n1 n2 n3
 .obtain⟨sl',e1⟩:=N.slot b o e hb;exact⟨sl',(oth b λz=>nF (z ▸ hb)).trans e1⟩
 .obtain⟨o',e1⟩:=N.there b o e;by_cases z:b=T
  .subst z;exact⟨_,Heap.get?_update_self _ eT (Obj.isFreed_of_fields (Obj.data_mapFields dT _))⟩
  .exact⟨o',(oth b z).trans e1⟩
def Ur{Q:Unit->Shared->Prop}(hfr:A.frames=some (env::outer))(hl:s.heap.FunFrames base (env::outer))(hf:env.frame=some L)(he:Exo s.heap a C dx tb)(ht:TbL L s.heap a tb)
 (h:∀h' T,(s.heap.objs.size<=T∨tb=.ref T)->T≠a->Exo h' a C dx (.ref T)->Qo none h' T->Note (frs (env::outer)) a tb s.heap h'->Q () { s with heap:=h' }):wpAny M A (leaving env (.ref a)) Q E s:=by
 unfold leaving;exact j5 (Om none hfr hl hf he ht h)
end
def XE(X:Cx)(O:List (Addr×Obj))(Q:VK)(e:Value)(s':Shared):Prop:=∃a C dx tb fs σ' H',e=.ref a/\Inv X O σ' H' s'/\Exo s'.heap a C dx tb/\TbL X.env.locals s'.heap a tb/\H' a=some (.ext (XO a C dx))/\
 (∀T,tb=.ref T->H' T=none/\New X O T)/\XdAt H' dx fs/\Q (.ref a) H'
def CXG(P:Program)(w:World):CXT:=λouter H s E e s'=>∃a C dx T fs H',e=.ref a/\s'.os=s.os/\AllBare s'.gens/\Un (frs outer) [] H H' s.heap s'.heap/\HOk P w H' s'.heap/\Exo s'.heap a C dx (.ref T)/\T≠a/\Qo none s'.heap T /\
 H' T=none/\s.heap.objs.size<=T/\H' a=some (.ext (XO a C dx))/\XdAt H' dx fs/\E (.ref a) none H'
section
def TL{K:Frag}{mg:Str->Option Value}{E':Value->Shared->Prop}
 (h:XE (Dq CX P w K mg base N qual scope fa cd A outer s H E).nox O Q e s') (hq:∀a H',Q (.ref a) H'->E (.ref a) none H'):
 wpAny M (A.deeper (envOfC qual scope s.heap.objs.size fa cd)) (leaving (envOfC qual scope s.heap.objs.size fa cd) e) (λ_ s''=>CXG P w outer H s E e s'') E' s':=by
 obtain⟨a,C,dx,tb,fs,σ',H',rfl,I,ex,ht,ha,hT,hd,q⟩:=h;have fr:=I.ok.frames;refine Ur (base:=base) (L:=s.heap.objs.size) fr I.stack rfl ex ht λh' T z nT ex' tr Nt=>?_;have hfs:∀b∈frs (envOfC qual scope s.heap.objs.size fa cd::outer),H' b=none:=I.stkFree;have hok':=NA I.hok Nt ex' ha (λT e=>(hT T e).1) hfs;have nx:∀b,b∉(Dq CX P w K mg base N qual scope fa cd A outer s H E).nox.ex:=λb z=>absurd (show b∈([]:List Addr)from z) (by simp);have u:=I.base;have out:∀b o,s.heap.get? b=some o->H b=none->b≠a/\.ref b≠tb/\b≠s.heap.objs.size:=λb o e n=>by
  have n':H' b=none:=u.free b o e n (nx b);refine⟨(λz=>by subst z;rw[ha]at n';cases n'),λz=>?_,jb (Heap.lt_size e)⟩;rcases(hT b z.symm).2.1 with y|y
  .exact absurd y (nx b)
  .exact absurd (jl (Heap.lt_size e) y) (jG _)
 have inF:∀b,b∈frs (envOfC qual scope s.heap.objs.size fa cd::outer)->b=s.heap.objs.size∨b∈frs outer:=λb hb=>by
  have:frs (envOfC qual scope s.heap.objs.size fa cd::outer)=s.heap.objs.size::frs outer:=rfl;rw[this]at hb;exact mem_cons.mp hb
 have tf:H' T=none/\s.heap.objs.size<=T:=by
  rcases z with z|z
  .exact⟨I.hok.fresh z,jf I.sz z⟩
  .refine⟨(hT T z).1,?_⟩;rcases(hT T z).2.1 with y|y
   .exact absurd y (nx T)
   .exact y
 refine⟨a,C,dx,T,fs,H',rfl,I.os,I.bare,⟨λb o e n nf _=>?_,λb o e n hf _=>?_,λb o e n _=>u.free b o e n (nx b),λb o e _=>?_,u.tups,u.frzs,u.tbls⟩,hok',ex',nT,tr,tf.1,tf.2,ha,hd,hq a H' q⟩
 .obtain⟨n1,n2,n3⟩:=out b o e n;exact Nt.keep b o (u.keep b o e n nf (nx b)) n1 n2 λhb=>(inF b hb).elim n3 nf
 .obtain⟨sl,e1⟩:=u.slot b o e n hf (nx b);obtain⟨sl',e2⟩:=Nt.slot b _ e1 (by
   show b∈s.heap.objs.size::frs outer;exact jm _ hf)
  exact⟨sl',e2⟩
 .obtain⟨o',e1⟩:=u.there b o e (nx b);exact Nt.there b o' e1
def Ks(I:Inv X O U H s)(h:CXG X.prog X.w X.stack H s E e s')(hq:∀a H',E (.ref a) none H'->Q (.ref a) H'):XE X O Q e s':=by
 obtain⟨a,C,dx,T,fs,H',rfl,os,bare,un,hok,ex,nT,tr,hT,z,ha,hd,q⟩:=h;exact⟨a,C,dx,.ref T,fs,U,H',rfl,I.call' (ch:=[]) os un hok bare (λb z=>absurd z (by simp)),ex,.inr ⟨T,none,rfl,nT,.inl rfl,tr⟩,ha,λT' e=>by cases e;exact⟨hT,I.new z⟩,hd,hq a H' q⟩
end
section
variable{fI:Addr}{pos:Pos}{te:TE}
def dL(K:Frag)(ta tv:TE)(f:Str):TS:=λD U H=>tv U H λy H1=>ta U H1 λx H2=>∃a C t fI,x=.ref a/\H2 a=some (.ext (X0 a C t))/\XC K C fI/\DF K C f /\
 ∀dx,H2 dx=none->dx≠a->D.nx U (upd (upd H2 dx (.xd [(f,y)])) a (.ext (X1 a C dx t)))
def Se{h:Heap}(e:h.get? a=some o):ObjOk P w H h a (.ext λh=>h.get? a=some o):=⟨e,⟨_,e⟩,λ_ _ x k=>k _ x⟩
def Xo(ha:PE X o ta)(hv:PE X value tv)(hs:swapsWith value (some (.Attribute o f pos')) pos.line X.env=pure false):PS X (.Assign [.Attribute o f pos'] value pos) (dL X.K ta tv f):=by
 intro O s U H D I h;refine plainObj_wpAny_Assign_Attribute (thn (hv O s U H _ I h) λuv s1 ⟨y,H1,I1,ry,q⟩=>thn (ha O s1 U H1 _ I1 q) λov s2 ⟨x,H2,I2,rx,a,C,t,fI,ex,ea,c,n,q2⟩=>?_) hs;subst ex;obtain rfl:ov=Value.ref a:=rx;obtain⟨x0,_⟩:=(show ObjOk X.prog X.w H2 s2.heap a (.ext (X0 a C t))from I2.hok a _ ea)
 have hx:s2.heap.get? a=some ⟨.ref C,none,.fields #[.ref t,.none,.none,.none,.bool false,.none],#[]⟩:=x0;refine Wb I2.kIn c hx n λh' e1 e2 k=>⟨U,_,?_,q2 s2.heap.objs.size (I2.hok.fresh (j9 _)) (jv (Heap.lt_size hx))⟩
 have nd:H2 s2.heap.objs.size=none:=I2.hok.fresh (j9 _);have nda:s2.heap.objs.size≠a:=jv (Heap.lt_size hx);have old:∀b u,H2 b=some u->b≠a->(upd (upd H2 s2.heap.objs.size (.xd [(f,y)])) a (.ext (X1 a C s2.heap.objs.size t))) b=some u:=λb u q n=>by
  rw[AC n,AC (AZ q nd)];exact q
 have non:∀b o,s2.heap.get? b=some o->H2 b=none->(upd (upd H2 s2.heap.objs.size (.xd [(f,y)])) a (.ext (X1 a C s2.heap.objs.size t))) b=none/\b≠a:=λb o q n=>by
  have n1:b≠a:=λz=>by rw[z,ea]at n;cases n
  exact⟨by rw[AC n1,AC (jb (Heap.lt_size q))];exact n,n1⟩
 refine I2.un ⟨λb o q n _ _=>k b o (non b o q n).2 q,λb o q n _ _=>⟨o.slots,k b o (non b o q n).2 q⟩,λb o q n _=>(non b o q n).1,λb o q _=>?_,λb xs q=>old b _ q (λz=>by rw[z,ea]at q;cases q),λb o u q=>old b _ q (λz=>by rw[z,ea]at q;cases q),
  λb ps q=>⟨#[],by rw[old b _ q (λz=>by rw[z,ea]at q;cases q)];simp⟩⟩ λb u q=>?_
 .by_cases z:b=a
  .subst z;exact⟨_,e1⟩
  .exact⟨o,k b o z q⟩
 .by_cases z:b=a
  .subst z;rw[AJ]at q;cases q;exact Se e1
  .rw[AC z]at q;by_cases z':b=s2.heap.objs.size
   .subst z';rw[AJ]at q;cases q;refine⟨_,e2,λg=>?_⟩;show RelO (List.lookup g [(f,y)]) (if g=f then some uv else none);by_cases gz:g=f
    .subst gz;rw[j6 rfl,List.lookup_cons_self];exact ry
    .have g':(g==f)=false:=by simpa using gz
     rw[j7 gz];unfold List.lookup;rw[g'];exact True.intro
   .rw[AC z']at q;refine(I2.hok b u q).stay (λc v hc r=>k c v ?_ r) (λc r=>old c _ r ?_) λc xs r=>old c _ r ?_
    .rcases hc with rfl|hc
     .exact z
     .intro zz;rw[zz,ea]at hc;cases hc
    .intro zz;rw[zz,ea]at r;cases r
    .intro zz;rw[zz,ea]at r;cases r
end
end L2
namespace L2
open PySem PySem.Spec PyProof.Rows
open Builtin Builtin.ObjectAttr
section
variable{E:Value->Shared->Prop}{s:Shared}{K:Frag}{fI x:Addr}{mA:Str->Option Value}
def Tl{Q:Unit->Shared->Prop}(X:K.In s.heap)(c:XC K C fI)(hx:s.heap.get? x=some ⟨.ref C,some dx,.fields vs,sl⟩)(hn:s.heap.Ns1 dx mA)(hw:Within mA ns)(hl:ns.length<=100)(na:findIn K (.ref C) name=some none)
 (h:∀h',h'.Ns1 dx (λy=>if y=name then some v else mA y)->(∀b o,b≠dx->s.heap.get? b=some o->h'.get? b=some o)->Q () { s with heap:=h',toks:=s.toks+2 }):
 wpAny (model prog w) A (setAttr (.ref x) name v) Q E s:=by
 have SF:=PySem.F.store_object;obtain⟨od,ho,_⟩:=GK hn;have I:PySem.W.InstAt s.heap x ⟨.ref C,some dx,.fields vs,sl⟩ C (some od):=⟨hx,rfl,rfl,ho⟩
 obtain⟨cd,hc,ov,hd⟩:=c.cls;have ne:cd.mro.isEmpty=false:=by cases q:cd.mro with|nil=>rw[q]at ov;cases ov|cons _ _=>rfl
 have sub:Looks (model prog w) s.heap (isInstance (.ref x) (.type "object")) true:=
  I.type.andThen (PySem.W.looks_mroIn X (by unfold mroIn;rw[hc,bind_some,j7 (by rw[ne];decide),ov.has (by decide +kernel)]))
 have hm:Looks (model prog w) s.heap (mroOf (.ref C)) cd.mro:=(PySem.W.looks_clsIn X hc).andThen .now;refine PySem.W.set_plain X I c.sa (kJ SF.slot.plain SF.entry (@PySem.W.check_slot (model prog w) _ _ _ "object.__setattr__" "object" "__setattr__" (.ref x) [.str name s.toks,v] [] _ SF.kind SF.split sub (SF.args (.ref x) (.str name s.toks) v) ?_));rw[PySem.W.osa_eq,refuse_eq];refine j5 (j5 (I.type.here (s:={ s with toks:=s.toks+1 }) (j5 (hm.here (s:={ s with toks:=s.toks+1 }) ?_))));rw[ov.sa];refine j8 (j5 (I.type.here (s:={ s with toks:=s.toks+1 }) (j5 ((PySem.W.looks_findIn X na).here (s:={ s with toks:=s.toks+1 }) (j5 (j8 ?_))))));refine j5 (j8 (j5 (j5 (wpAny_loadPart hx (j5 (PySem.W.Looks.here (s:={ s with toks:=s.toks+1 }) (PySem.W.looks_clsIn X hc) ?_))))));rw[hd];refine j8 ?_;show wpAny _ _ (storeInDict dx (.str name s.toks) name v) _ _ _;unfold storeInDict newKeyGuard;refine j5 (j8 (j5 (wpAny_nsSet1 hn λh' hn' hs=>?_)));obtain⟨oD,esD,epD,hoD,hdD,hcD⟩:=hn'.count (hw.cons name v);refine j5 (wpAny_lookBehind hoD (by rw[hdD];exact pastItsLine_dict (jf hcD (by rw[jK,jw];omega))) ?_);exact j8 (h h' hn' λb o n e=>(hs.2 b n).trans e)
end
section
variable{fI:Addr}{pos:Pos}{te:TE}
def ZS(K:Frag)(ta tv:TE)(f:Str):TS:=λD U H=>tv U H λy H1=>ta U H1 λx H2=>∃a C dx t fI fs,x=.ref a/\H2 a=some (.ext (X1 a C dx t))/\H2 dx=some (.xd fs)/\fs.length<=99/\fs.lookup f=none/\XC K C fI/\DF K C f /\
 D.nx U (upd H2 dx (.xd (fs++[(f,y)])))
theorem NJ:∀{fs:List (Str×V)},(fs++[(f,y)]).lookup g=match fs.lookup g with|some v=>some v|none=>if g=f then some y else none
 |[]=>by
  rw[List.nil_append,jg,List.lookup_nil];by_cases h:g=f
  .subst h;simp
  .have:(g==f)=false:=beq_eq_false_iff_ne.mpr h;simp[this,h]
 |(a,b)::fs=>by
   rw[jP,jg,jg];cases(g==a)with
   |true=>rfl
   |false=>exact NJ (fs:=fs)
def UP(ha:PE X o ta)(hv:PE X value tv)(hs:swapsWith value (some (.Attribute o f pos')) pos.line X.env=pure false):PS X (.Assign [.Attribute o f pos'] value pos) (ZS X.K ta tv f):=by
 intro O s U H D I h;refine plainObj_wpAny_Assign_Attribute (thn (hv O s U H _ I h) λuv s1 ⟨y,H1,I1,ry,q⟩=>thn (ha O s1 U H1 _ I1 q) λov s2 ⟨x,H2,I2,rx,a,C,dx,t,fI,fs,ex,ea,ed,hl,hf,c,n,q2⟩=>?_) hs;subst ex;obtain rfl:ov=Value.ref a:=rx;obtain⟨x0,_⟩:=(show ObjOk X.prog X.w H2 s2.heap a (.ext (X1 a C dx t))from I2.hok a _ ea)
 have hx:s2.heap.get? a=some ⟨.ref C,some dx,.fields #[.ref t,.none,.none,.none,.bool false,.none],#[]⟩:=x0;obtain⟨mA,hn,hr⟩:=(show ObjOk X.prog X.w H2 s2.heap dx (.xd fs)from I2.hok dx _ ed)
 have hw:Within mA (fs.map (·.1)):=λg z=>by
  have:=hr g;cases lk:fs.lookup g with
  |none=>rw[lk]at this;cases mg:mA g with
   |none=>exact absurd mg z
   |some u=>rw[mg]at this;exact this.elim
  |some u=>
   refine mem_map.mpr ⟨(g,u),?_,rfl⟩;exact PySem.mem_of_lookup lk
 refine Tl I2.kIn c hx hn hw (by rw[jo];omega) n λh' e2 k=>⟨U,_,?_,q2⟩
 have old:∀b u,H2 b=some u->b≠dx->(upd H2 dx (.xd (fs++[(f,y)]))) b=some u:=λb u q n=>by
  rw[AC n];exact q
 have non:∀b o,s2.heap.get? b=some o->H2 b=none->(upd H2 dx (.xd (fs++[(f,y)]))) b=none/\b≠dx:=λb o q n=>by
  have n1:b≠dx:=λz=>by rw[z,ed]at n;cases n
  exact⟨by rw[AC n1];exact n,n1⟩
 obtain⟨od,hod,_⟩:=GK e2;refine I2.un ⟨λb o q n _ _=>k b o (non b o q n).2 q,λb o q n _ _=>⟨o.slots,k b o (non b o q n).2 q⟩,λb o q n _=>(non b o q n).1,λb o q _=>?_,λb xs q=>old b _ q (λz=>by rw[z,ed]at q;cases q),λb o u q=>old b _ q (λz=>by rw[z,ed]at q;cases q),
  λb ps q=>⟨#[],by rw[old b _ q (λz=>by rw[z,ed]at q;cases q)];simp⟩⟩ λb u q=>?_
 .by_cases z:b=dx
  .subst z;exact⟨_,hod⟩
  .exact⟨o,k b o z q⟩
 .by_cases z':b=dx
  .subst z';rw[AJ]at q;cases q;refine⟨_,e2,λg=>?_⟩;rw[NJ];have hg:=hr g;by_cases gz:g=f
   .subst gz;rw[j6 rfl,hf,j6 rfl];exact ry
   .rw[j7 gz,j7 gz];cases lk:fs.lookup g with
    |none=>rw[lk]at hg;exact hg
    |some u=>rw[lk]at hg;exact hg
  .rw[AC z']at q;refine(I2.hok b u q).stay (λc v hc r=>k c v ?_ r) (λc r=>old c _ r ?_) λc xs r=>old c _ r ?_
   .rcases hc with rfl|hc
    .exact z'
    .intro zz;rw[zz,ed]at hc;cases hc
   .intro zz;rw[zz,ed]at r;cases r
   .intro zz;rw[zz,ed]at r;cases r
def spJ(C:Addr)(fs:List Str):Sp:=λvs H Q _=>∃a xs t,vs=.ref a::xs/\xs.length=fs.length/\H a=some (.ext (X0 a C t))/\(fs=[]->Q .non H)/\(fs≠[]->∀dx,H dx=none->dx≠a->Q .non (upd (upd H dx (.xd (fs.zip xs))) a (.ext (X1 a C dx t))))
end
def Ud{K:Frag}{mg:Str->Option Value}{st:Stmt}{fI:Addr}{f1:Str}(F:Fun K "__init__" qual st fa fd)(S:FnScope ["self",w1,w2] ["self",w1,w2] (AA st))
 (hb:BE st=[.Assign [.Attribute (.Name "self" p1) f1 p2] (.Name w1 p3) p4,.Assign [.Attribute (.Name "self" p5) f2 p6] (.Name w2 p7) p8]) (c:XC K C fI) (n1:DF K C f1) (n2:DF K C f2) (ne:(f2==f1)=false)
 (hs1:∀cdv A outer s H E,swapsWith (.Name w1 p3) (some (.Attribute (.Name "self" p1) f1 p2)) p4.line (Dq CX0 P w K mg base ["self",w1,w2] qual (AA st) fa cdv A outer s H E).env=pure false)
 (hs2:∀cdv A outer s H E,swapsWith (.Name w2 p7) (some (.Attribute (.Name "self" p5) f2 p6)) p8.line (Dq CX0 P w K mg base ["self",w1,w2] qual (AA st) fa cdv A outer s H E).env=pure false)
 (v0:Vis (AA st) "self") (v1:Vis (AA st) w1) (v2:Vis (AA st) w2) (d1:(w1==("__debug__":Str))=false) (d2:(w1==("__classdict__":Str))=false) (d3:(w2==("__debug__":Str))=false) (d4:(w2==("__classdict__":Str))=false):FnOk P w K mg base CX0 1 fa fd ["self",w1,w2] (spJ C [f1,f2]):=by
 refine F.ok (N:=["self",w1,w2]) S (λvs H Q E h=>?_) λcdv A outer s H vs Q E hr hsp=>?_
 .obtain⟨a,xs,t,rfl,hl,_⟩:=h
  match xs,hl with
  |[x,y],_=>rfl
 .rw[hb];refine⟨_,Mz (Xo (I0 (i:=0) rfl v0 (by decide) (by decide)) (I0 (i:=1) rfl v1 d1 d2) (hs1 cdv A outer s H E)) (Oh (UP (I0 (i:=0) rfl v0 (by decide) (by decide)) (I0 (i:=2) rfl v2 d3 d4) (hs2 cdv A outer s H E))),?_⟩;obtain⟨a,xs,t,rfl,hl,ha,q⟩:=hsp
  match xs,hl with
  |[x,y],_=>
  refine⟨x,rfl,.ref a,rfl,a,C,t,fI,rfl,ha,c,n1,λdx nd na=>?_⟩;refine⟨y,rfl,.ref a,rfl,a,C,dx,t,fI,[(f1,x)],rfl,AJ,by rw[AC na,AJ],by simp,by rw[jg,ne];rfl,c,n2,?_⟩;have e:upd (upd (upd H dx (.xd [(f1,x)])) a (.ext (X1 a C dx t))) dx (.xd ([(f1,x)]++[(f2,y)]))=upd (upd H dx (.xd ([f1,f2].zip [x,y]))) a (.ext (X1 a C dx t)):=by
   funext b;unfold upd
   by_cases z1:b=dx
   .have:b≠a:=λz=>na (z1 ▸ z);simp[z1,na]
   .by_cases z2:b=a
    .subst z2;simp[Ne.symm na]
    .simp[z1,z2]
  have:=q.2 (by simp) dx nd na;rw[<- e]at this;exact this
end L2
namespace L2
open PySem PySem.Spec PyProof.Rows
section
variable(C:Addr)(f:Str)
def Ends.non(D:Ends):Ends:={ D with rt:=λ_ _=>False }
end
section
variable{C fI:Addr}{f:Str}{X:Cx}{st:Stmt}{rest:List Stmt}{t u:TS}{e:Expr}{es:List Expr}{te tb:TE}{pos:Pos}
def thx{α:Type}{M:Model}{A:Around}{m:Sem α}{P Q:α->Shared->Prop}{E E':Value->Shared->Prop}{s:Shared}(h:wpAny M A m P E s)(k:∀v s,P v s->Q v s)(j:∀e s,E e s->E' e s):wpAny M A m Q E' s:=jn h k j
def MU(t:TS):TS:=λD U H=>t D.non U H
def PV(ta te:TE):TE:=λU H Q=>ta U H λ_ H1=>te U H1 Q
end
section
variable{fI:Addr}
def Qy{E:Value->Shared->Prop}{i:Nat}{Q:Unit->Shared->Prop}(I:Inv X O U H s)(hN:X.N.Nodup)(hi:X.N[i]?=some x)(hk:X.env.scope.names.lookup x=some .local)(hv:U[i]?=some (some v))
 (h:∀s',Inv X O (U.set i none) H s'->Q () s'):wpAny M A (unbindName X.env x) Q E s:=by
 obtain⟨m,hn,hl⟩:=id I.loc;have hcls:(X.env.scope.kind==.class||(X.env.scope.kind==.module&&X.env.locals != X.env.globals))=false:=by rw[I.ok.kind];rfl
 have hiσ:i<U.length:=by rw[I.len];exact(List.getElem?_eq_some_iff.mp hi).1
 obtain⟨u,_,lk⟩:=hl i x v hi hv (.inl hk);have mu:m x=some u:=by
  rcases lk with⟨_,e⟩|⟨k,_⟩
  .exact e
  .rcases k with k|k<;>(have k':X.env.scope.names.lookup x=_:=k;rw[hk]at k';cases k')
 refine wpAny_unbindName_local hk hn mu hcls λh' u' hn' hs=>?_;obtain⟨oL,_,_,hoL,_⟩:=id hn;have low:∀b o,X.s₀.heap.get? b=some o->b≠X.env.locals:=λb o e=>jb (jl (Heap.lt_size e) I.ok.above);refine h _ ⟨I.ok,I.os,I.bare,⟨λb o e n hb hx=>(hs.2 b (low b o e)).trans (I.base.keep b o e n hb hx),λb o e n hb hx=>?_,I.base.free,λb o e hx=>?_,I.base.tups,I.base.frzs,I.base.tbls⟩,⟨_,hn',λj y v' e1 e2 e3=>?_⟩,λy c e=>?_,I.free,I.freeC,λp hp=>?_,λb ob e=>?_,by simpa using I.len⟩
 .obtain⟨sl,e1⟩:=I.base.slot b o e n hb hx;exact⟨sl,(hs.2 b (low b o e)).trans e1⟩
 .obtain⟨o',e1⟩:=I.base.there b o e hx;exact⟨o',(hs.2 b (low b o e)).trans e1⟩
 .by_cases hj:j=i
  .subst hj;rw[List.getElem?_set_self hiσ]at e2;cases e2
  .rw[List.getElem?_set_ne (Ne.symm hj)]at e2;obtain⟨u',r',q⟩:=hl j y v' e1 e2 e3;refine⟨u',r',?_⟩;rcases q with⟨k,e⟩|⟨k,c,e,z⟩
   .refine .inl ⟨k,?_⟩;have:y≠x:=λe=>hj (JK hN e1 (e ▸ hi));simp[this,e]
   .exact .inr ⟨k,c,e,z.sameBut hs (I.cne y c e)⟩
 .obtain⟨w',z⟩:=I.cell y c e;exact⟨w',z.sameBut hs (I.cne y c e)⟩
 .obtain⟨e,n,ne,nf,d⟩:=I.pin p hp;exact⟨(hs.2 p.1 ne).trans e,n,ne,nf,d⟩
 .refine(I.hok b ob e).stay (λc w' hc q=>(hs.2 c ?_).trans q) (λ_ q=>q) λ_ _ q=>q;rintro rfl;rcases hc with z|hc
  .rw[<- z,I.free]at e;cases e
  .rw[I.free]at hc;cases hc
def N9{T:Addr}(I:Inv X O U H s)(ha:H a=some (.ext (XO a C dx)))(hT:∀T,tb=.ref T->H T=none/\New X O T)(N:Note (frs X.stack) a tb s.heap h')(ex:Exo h' a C dx (.ref T)):Inv X O U H { s with heap:=h' }:=by
 have na:∀b,H b=none->b≠a:=λb n z=>by rw[z,ha]at n;cases n
 have hok:=NA I.hok N ex ha (λT e=>(hT T e).1) I.stkFree;have all:∀ch:List Addr,(∀b,.ref b=tb->b∈ch)->Un (frs X.stack) ch H H s.heap h':=λch hc=>
  ⟨λb o e n nf nc=>N.keep b o e (na b n) (λz=>nc (hc b z)) nf,λb o e n hf nc=>N.slot b o e hf,λ_ _ _ n _=>n,λb o e _=>N.there b o e,λ_ _ e=>e,λ_ _ _ e=>e,λb ps e=>⟨#[],by rw[e];simp⟩⟩
 by_cases q:∃T,tb=.ref T
 .obtain⟨T0,e⟩:=q;exact I.call' (s':={ s with heap:=h' }) (ch:=[T0]) rfl (all [T0] λb z=>by rw[e]at z;cases z;simp) hok I.bare λb hb=>by
   have:b=T0:=by simpa using hb
   subst this;exact(hT b e).2
 .exact I.call' (s':={ s with heap:=h' }) (ch:=[]) rfl (all [] λb z=>absurd ⟨b,z.symm⟩ q) hok I.bare λb hb=>absurd hb (by simp)
abbrev Cx.hand(X:Cx)(e:Value):Cx:={ X with A:=X.A.mark (some e),calm:=false,xe:=λ_ _=>False }
theorem Inv.hand(I:Inv X O U H s)(e:Value):Inv (X.hand e) O U H s:=
 ⟨⟨I.ok.mod,I.ok.kind,I.ok.glob,I.ok.blt,I.ok.above,I.ok.inj,I.ok.has,I.ok.cab,(λh=>by cases h),I.ok.frames,I.ok.stk,I.ok.exf,I.ok.bs,I.ok.bsz,I.ok.noex,I.ok.exfs,I.ok.funs,I.ok.frf⟩,I.os,I.bare,I.base,I.loc,I.cell,I.free,I.freeC,I.pin,I.hok,I.len⟩
def Inv.unhand(I:Inv (X.hand e) O U H s)(hd:X.calm=true->X.A.handled=none):Inv X O U H s:=
 ⟨⟨I.ok.mod,I.ok.kind,I.ok.glob,I.ok.blt,I.ok.above,I.ok.inj,I.ok.has,I.ok.cab,hd,I.ok.frames,I.ok.stk,I.ok.exf,I.ok.bs,I.ok.bsz,I.ok.noex,I.ok.exfs,I.ok.funs,I.ok.frf⟩,I.os,I.bare,I.base,I.loc,I.cell,I.free,I.freeC,I.pin,I.hok,I.len⟩
theorem OY:∀{cs:List Addr} {us:List Value},Vals (cs.map V.ref) us->us=cs.map Value.ref
 |[],_,.nil=>rfl
 |c::cs,_,.cons r t=>by rw[OY t];rw[show _=Value.ref c from r];rfl
end
def GX(X:Cx)(st:Stmt)(t:TS):Prop:=
 ∀(O:List (Addr×Obj)) (s:Shared) (U:St) (H:Hp) (D:Ends),Inv X O U H s->t D U H->wpAny (model X.prog X.w) X.A (exec st X.env) (SP X O D.non) (XE X O D.rt) s
def GXs(X:Cx)(st:List Stmt)(t:TS):Prop:=
 ∀(O:List (Addr×Obj)) (s:Shared) (U:St) (H:Hp) (D:Ends),Inv X O U H s->t D U H->wpAny (model X.prog X.w) X.A (execs st X.env) (SP X O D.non) (XE X O D.rt) s
def GXE(X:Cx)(e:Expr)(t:TE):Prop:=
 ∀(O:List (Addr×Obj)) (s:Shared) (U:St) (H:Hp) (Q:VK),Inv X O U H s->t U H Q->wpAny (model X.prog X.w) X.A (eval e X.env) (λ_ _=>False) (XE X O Q) s
def GXA(X:Cx)(es:List Expr)(t:TE):Prop:=
 ∀(pos:Pos) (O:List (Addr×Obj)) (s:Shared) (U:St) (H:Hp) (Q:VK),Inv X O U H s->t U H Q->wpAny (model X.prog X.w) X.A (spliced (backTo pos (starEach es X.env))) (λ_ _=>False) (XE X O Q) s
section
variable{fI:Addr}{X:Cx}{st:Stmt}{rest:List Stmt}
def Ow(h:PS X.nox st t):GX X st (MU t):=λO s U H D I q=>thx (h O s U H D.non (I.wish _) q) (λ_ _ z=>z.unwish) λ_ _ z=>z.elim
def V1(h:PSs X.nox rest t):GXs X rest (MU t):=λO s U H D I q=>thx (h O s U H D.non (I.wish _) q) (λ_ _ z=>z.unwish) λ_ _ z=>z.elim
def V2(h1:GX X st t)(h2:GXs X rest u):GXs X (st::rest) (MR t u):=by
 intro O s U H D I h;refine kU (thx (h1 O s U H { D with nx:=u D } I h) (λfl s1 q=>?_) λ_ _ z=>z);cases fl with
 |next=>
  obtain⟨σ',H',I',q⟩:=q;exact h2 O s1 σ' H' D I' q
 |ret v=>exact q
 |brk=>exact q
 |cont=>exact q
def Ye(h1:GX X st t):GXs X [st] t:=by
 intro O s U H D I h;refine kU (thx (h1 O s U H D I h) (λfl s1 q=>?_) λ_ _ z=>z);cases fl with
 |next=>exact kG q
 |ret v=>exact q
 |brk=>exact q
 |cont=>exact q
def eZ(hc:PT X.nox c tc)(ha:GXs X a t)(hb:GXs X b u):GX X (.If c a b pos) (MV tc t u):=by
 intro O s U H D I h;refine wpAny_If (thx (hc O s U H _ (I.wish _) h) (λd s1 ⟨H1,I1,q1⟩=>?_) λ_ _ z=>z.elim);cases d with
 |true=>exact ha O s1 U H1 D I1.unwish q1
 |false=>exact hb O s1 U H1 D I1.unwish q1
def cJ(he:GXE X e te):GX X (.Return (some e) pos) (JB te):=λO s U H D I h=>
 wpAny_Return_some (thx (he O s U H _ I h) (λ_ _ z=>z.elim) λ_ _ z=>z)
def Yh(he:GXE X e te)(hs:swapsWith e none pos.line X.env=pure false:=by rfl):GX X (.Expr e pos) (JB te):=λO s U H D I h=>
 wpAny_Expr_any (thx (he O s U H _ I h) (λ_ _ z=>z.elim) λ_ _ z=>z) I.quiet hs
def V3(he:GXE X e te)(hs:starEach (e::es) X.env=(false,eval e X.env)::starEach es X.env:=by rfl):GXA X (e::es) te:=by
 intro pos O s U H Q I h;rw[hs];show wpAny _ _ (spliced ((false,eval e X.env)::backTo pos (starEach es X.env))) _ _ s;exact Calls.spliced_cons (thx (he O s U H _ I h) (λ_ _ z=>z.elim) λ_ _ z=>z)
def Sa(ha:PE X.nox e tb)(hr:GXA X es te)(hs:starEach (e::es) X.env=(false,eval e X.env)::starEach es X.env:=by rfl):GXA X (e::es) (PV tb te):=by
 intro pos O s U H Q I h;rw[hs];show wpAny _ _ (spliced ((false,eval e X.env)::backTo pos (starEach es X.env))) _ _ s;refine Calls.spliced_cons (thx (ha O s U H _ (I.wish _) h) (λu s1 ⟨x,H1,I1,r1,q1⟩=>?_) λ_ _ z=>z.elim);exact thx (hr pos O s1 U H1 Q I1.unwish q1) (λ_ _ z=>z.elim) λ_ _ z=>z
def Yg{x1}(h:GXA X es te):GXE X (.Tuple es x1 pos) te:=λO s U H Q I hq=>
 wpAny_Tuple_spliced (thx (h pos O s U H Q I hq) (λ_ _ z=>z.elim) λ_ _ z=>z)
def OK(hst:X.stack=X.env::X.outer/\X.env.frame=some X.env.locals):∀e s',XE X (O++pl) Q e s'->notedBy (model X.prog X.w) X.A X.env (cameBackBy (model X.prog X.w) X.A X.env (XE X O Q)) e s':=by
 rintro e s1 ⟨a,C,dx,tb,fs,σ',H',rfl,I',ex,ht,ha,hT',hd,q⟩;have I1:=I'.unpinned;have hT:∀T,tb=.ref T->H' T=none/\New X O T:=λT e=>⟨(hT' T e).1,(hT' T e).2.1,(hT' T e).2.2.1,(hT' T e).2.2.2.1,λp hp=>(hT' T e).2.2.2.2 p (by
  rcases mem_append.mp hp with z|z
  .exact jU _ z
  .exact je _ (jU _ z))⟩
 have fr:X.A.frames=some (X.env::X.outer):=by rw[<- hst.1];exact I1.ok.frames
 have fl0:s1.heap.FunFrames X.base (X.env::X.outer):=by rw[<- hst.1];exact I1.stack
 unfold notedBy cameBackBy;refine On (base:=X.base) fr fl0 hst.2 ex ht λh' T z nT ex' tr N=>?_;obtain⟨vs,sl,ea,e1⟩:=id ex';refine j5 (jr (s:={ s1 with heap:=h' }) ea rfl e1 ?_);rw[j7 (by simp)];obtain⟨oT,ts,eT,dT,lt⟩:=tr;unfold setFlight;refine j5 (jr (s:={ s1 with heap:=h' }) ea rfl e1 ?_);rw[j6 (show(Value.ref T != Value.none)=true from by simp)];have oth:∀b,b≠T->(h'.update T (Obj.mapFields (·.setIfInBounds 3 (X.env.frame.elim Value.none λf=>rawInt f)))).get? b=h'.get? b:=λb n=>Heap.get?_update_other _ _ (Ne.symm n);have I2:Inv X O σ' H' { s1 with heap:=h' }:=N9 I1 ha hT (by rw[hst.1];exact N) ex';have nw:H' T=none/\New X O T:=by
  rcases z with z|z
  .exact⟨I1.hok.fresh z,I1.new z⟩
  .exact hT T z
 have I3:=I2.turned (it:=T) (t':=s1.toks) (h':=h'.update T (Obj.mapFields (·.setIfInBounds 3 (X.env.frame.elim Value.none λf=>rawInt f)))) (λb o n e=>(Heap.get?_update_other _ _ (Ne.symm n)).trans e) nw.1 nw.2.2.1 nw.2.1 nw.2.2.2.1 nw.2.2.2.2;refine kL (s:={ s1 with heap:=h' }) eT dT lt ⟨a,C,dx,.ref T,fs,σ',H',rfl,I3,⟨vs,sl,(oth a (Ne.symm nT)).trans ea,e1⟩,.inr ⟨T,some X.env.locals,rfl,nT,.inr rfl,⟨_,_,Heap.get?_update_self _ eT (Obj.isFreed_of_fields (Obj.data_mapFields dT _)),Obj.data_mapFields dT _,by rw[hst.2];simp[lt]⟩⟩,ha,λT' e=>by cases e;exact nw,hd,q⟩
def cK{iter:Expr}(hst:X.stack=X.env::X.outer/\X.env.frame=some X.env.locals)(hc:X.calm=true)(hi:PI X.nox tg iter wi)(hg:PG X.nox tg g)(hb:GXs X body tb)
 (hs:∀x,foldedSetIterable iter X.env x=pure x:=by intro _;rfl):GX X (.For tg iter body [] pos) (MW wi g tb):=by
 intro O s U H D I h;have hp:PassesOwn (model X.prog X.w) X.A X.env (XE X O D.rt):=λe s' z=>OK (pl:=[]) hst e s' (by rw[jI];exact z);refine wpAny_For (thx (hi O s U H _ (I.wish _) h) (λv s1 h1=>thx h1 (λitv s2 h2=>?_) λ_ _ z=>z.elim) λ_ _ z=>z.elim) hs;obtain⟨it,fp,tn,J,H2,e,I2',T,st2,f2,W,⟨m0,w0⟩,turn⟩:=h2;have I2:=I2'.unwish;subst e;have stat:∀{H':Hp},(∀b∈fp,H' b=none)->∀b∈fp,FpOk X O H' b:=λhn b hb=>⟨hn b hb,(f2 b hb).2⟩
 refine codeAny_forLoop_any (λn s'=>∃i σ' H',Inv X O σ' H' s'/\tn i s'.heap/\(∀b∈fp,H' b=none)/\W i n σ' H') ?_ m0 ⟨0,U,H2,I2,st2,λb hb=>(f2 b hb).1,w0⟩;rintro n s3 ⟨i,σ3,H3,I3,st3,fr3,w3⟩;rcases turn i n σ3 H3 w3 with⟨stop,qn⟩|⟨go,N,hN,step⟩
 .refine kj hp (thn (T.done X rfl rfl rfl hc i O s3 σ3 H3 _ I3 (stat fr3) st3 stop) λr s4 ⟨hr,I4⟩=>?_);subst hr;exact kG ⟨σ3,H3,I4,qn⟩
 .refine kj hp (thn (T.item X rfl rfl rfl hc i O s3 σ3 H3 _ I3 (stat fr3) st3 go) λr s4 ⟨u,hr,h4⟩=>?_);subst hr;refine kj hp (thn h4 λ_ s5 ⟨x,H5,I5,r5,y5,st5,fr5⟩=>?_);have I5':=I5.pinned (stat fr5) (T.obj _ _ st5);refine thx (hg _ s5 σ3 H5 x u _ (I5'.wish _) r5 (step x H5 y5)) (λ_ s6 ⟨σ6,H6,I6,q6⟩=>?_) λ_ _ z=>z.elim;refine thx (hb _ s6 σ6 H6 _ I6.unwish q6) (λf s7 q7=>?_) (OK hst);have again:∀{σ7:St} {H7:Hp},Inv X (O++Ft fp s5.heap) σ7 H7 s7->N σ7 H7->∃m,m<n/\∃i σ' H',Inv X O σ' H' s7/\tn i s7.heap/\(∀b∈fp,H' b=none)/\W i m σ' H':=λ{σ7 H7} I7 n7=>by
   obtain⟨m',hm,w7⟩:=hN σ7 H7 n7;refine⟨m',hm,i+1,σ7,H7,I7.unpinned,T.keep _ _ _ st5 λb hb o e=>(I7.pin (b,o) (je _ (je _ (CW hb e)))).1,λb hb=>?_,w7⟩;obtain⟨o,e,d⟩:=T.obj _ _ st5 b hb;exact(I7.pin (b,o) (je _ (je _ (CW hb e)))).2.1
  cases f with
  |next=>obtain⟨σ7,H7,I7,n7⟩:=q7;exact again I7 n7
  |cont=>obtain⟨σ7,H7,I7,n7⟩:=q7;exact again I7 n7
  |brk=>obtain⟨σ7,H7,I7,q7⟩:=q7;exact⟨σ7,H7,I7.unpinned,q7⟩
  |ret v=>obtain⟨_,_,_,_,_,z⟩:=q7;exact z.elim
def KK(mg:Str->Option Value)(x:Str)(fs:List Str)(ta:TA):TS:=λD U H=>ta U H λvs H1=>vs.length=fs.length/\∀C,mg x=some (.ref C)->∀a dx,H1 a=none->H1 dx=none->dx≠a->D.rt (.ref a) (upd (upd H1 dx (.xd (fs.zip vs))) a (.ext (XO a C (some dx))))
def V4{p:Pos}{k:Nat}(c:XC X.K C fI)(F:FnOk X.prog X.w X.K X.mg X.base CX0 k fI fd ps (spJ C fs))(hr:Room (k+1) X.A)(hb:Binds X.K fd ps [])(hl:ps.length=fs.length+1)(hl2:fs.length<=1000)(hne:fs≠[])(hcalm:X.calm=true)(hg:Gl X x)(hm:X.mg x=some (.ref C))(pa:PA X.nox (e::es) ta)
 (hdb:(x==("__debug__":Str))=false:=by decide) (hst:starEach (e::es) X.env=(false,eval e X.env)::starEach es X.env:=by rfl) (hpl:(backTo p1 (starEach es X.env)).any (·.1)=false:=by rfl):
 GX X (.Raise (some (.Call (.Name x p) (e::es) [] p1)) none pos) (KK X.mg x fs ta):=by
 intro O s U H D I h;refine S4 (I.ok.hd hcalm) c (jW (Fa I hg hm ?_ hdb));refine PySem.W.callWith_K (h₀:=X.base) I.ok.mod.kin c.kp (thx (pa p1 O s U H _ (I.wish _) h) (λus s1 ⟨vs,H1,I1',r,q⟩=>⟨I1'.kIn,?_⟩) λ_ _ z=>z.elim) hst hpl;have I1:=I1'.unwish;obtain⟨hv,q⟩:=q;have q:=q C hm;have hu:us.length=fs.length:=by rw[<- r.length];exact hv
 obtain⟨nm,qn,N,bs,bm,sn,sub,ab,col,dd,k0,k1,k2,k3,k5,lk,ov⟩:=c.at_;obtain⟨hh,g,d,tk,os⟩:=s1;refine VL I1.kIn (I1.kIn _ _ lk) (ov.has (by decide +kernel)) (ov.not (by decide +kernel)) (ov.not (by decide +kernel)) c.init (beq_iff_eq.mp c.fn) (by show us.length<=sizeLine;rw[hu];exact jf hl2 (by decide)) ?_;have ke:∀b o,hh.get? b=some o->((hh.push { cls:=.type "tuple",data:=.seq us.toArray }).push (Gv C hh.objs.size)).get? b=some o:=λb o e=>Heap.get?_push_of_some _ (Heap.get?_push_of_some _ e);have ea:((hh.push { cls:=.type "tuple",data:=.seq us.toArray }).push (Gv C hh.objs.size)).get? (hh.objs.size+1)=some (Gv C hh.objs.size):=Heap.get?_push_at (by rw[Heap.size_push]) rfl;have na:H1 (hh.objs.size+1)=none:=I1.hok.fresh (le_succ _);have I2:=I1.laid (a:=hh.objs.size+1) (o:=.ext (X0 (hh.objs.size+1) C hh.objs.size)) (t':=tk) ke (le_succ _) (Se ea);refine jS (jT (F.run _ X.stack _ _ ⟨.ref (hh.objs.size+1)::us,[]⟩ (.ref (hh.objs.size+1)::us) (.ref (hh.objs.size+1)::vs)
  (λz H2=>z=.non/\∃dx,H2=upd (upd (upd H1 (hh.objs.size+1) (.ext (X0 (hh.objs.size+1) C hh.objs.size))) dx (.xd (fs.zip vs))) (hh.objs.size+1) (.ext (X1 (hh.objs.size+1) C dx hh.objs.size))/\H1 dx=none/\dx≠hh.objs.size+1) (λ_ _ _=>False)
  (hr.make C us []) (I2.env0.make C us []) (by have:=hb ⟨_,g,d,tk,os⟩ (.ref (hh.objs.size+1)::us) I2.kIn (by simp[hu,hl]);simpa using this) (.cons rfl r) ?_) λres s' hq=>?_)
 .refine⟨_,vs,hh.objs.size,rfl,hv,AJ,(λz=>absurd z hne),λ_ dx n1 n2=>⟨rfl,dx,rfl,by rw[AC n2]at n1;exact n1,n2⟩⟩
 .cases res with
  |error x=>exact hq.elim
  |ok fl=>
   cases fl with
   |next=>exact hq.elim
   |brk=>exact hq.elim
   |cont=>exact hq.elim
   |ret rv'=>
    obtain⟨z,H3,I3,rz,ez,dx,eH,nd,ne⟩:=I2.after hq;subst ez;have hA:H3 (hh.objs.size+1)=some (.ext (X1 (hh.objs.size+1) C dx hh.objs.size)):=by rw[eH];exact AJ
    obtain⟨x1,_⟩:=(show ObjOk X.prog X.w H3 s'.heap (hh.objs.size+1) (.ext (X1 (hh.objs.size+1) C dx hh.objs.size))from I3.hok _ _ hA)
    have x1:s'.heap.get? (hh.objs.size+1)=some ⟨.ref C,some dx,.fields #[.ref hh.objs.size,.none,.none,.none,.bool false,.none],#[]⟩:=x1;refine⟨rz,hh.objs.size+1,hh.objs.size,some dx,#[],rfl,I3.kIn,x1,hh.objs.size+1,C,some dx,.none,fs.zip vs,U,upd H3 (hh.objs.size+1) (.ext (XO (hh.objs.size+1) C (some dx))),rfl,?_,⟨_,_,x1,rfl⟩,.inl rfl,AJ,(λT e=>by cases e),?_,?_⟩
    .exact I3.write (x:=hh.objs.size+1) (e:=hh.objs.size+1) (t':=s'.toks) (by rw[hA];exact True.intro) (.inl rfl) (λ_ _ _ e=>e) ⟨_,x1⟩ ⟨⟨_,_,_,x1,rfl⟩,⟨_,x1⟩,λh1 h2 ⟨tb,vs,sl,e,z⟩ k=>⟨tb,vs,sl,k _ e,z⟩⟩
    .show upd H3 _ _ dx=_;rw[AC ne,eH,AC ne,AJ]
    .have e2:upd H3 (hh.objs.size+1) (.ext (XO (hh.objs.size+1) C (some dx)))=upd (upd H1 dx (.xd (fs.zip vs))) (hh.objs.size+1) (.ext (XO (hh.objs.size+1) C (some dx))):=by
      rw[eH];funext b;unfold upd;by_cases z1:b=hh.objs.size+1
      .simp only[j6 z1]
      .simp only[j7 z1]
     rw[e2];exact q _ dx na nd ne
end
def JX:bootBuiltins "isinstance"=some (.builtin "isinstance"):=by decide +kernel
def Yx:bootBuiltins "ValueError"=some (.type "ValueError"):=by decide +kernel
section
variable{fI:Addr}
def dw(hg:Gl X "ValueError")(hm:X.mg "ValueError"=none):PE X (.Name "ValueError" pos) (tC (.ty "ValueError")):=λO s U H Q I h=>
 DO I hg hm Yx ⟨.ty "ValueError",H,I,rfl,h⟩
end
section
variable{X:Cx}
def dD(K:Frag)(B:Addr)(D:Ends)(th:TS)(g:Addr->St)(u:St->St):VK:=λv H'=>∃a C dx fs,v=.ref a/\H' a=some (.ext (XO a C dx))/\XdAt H' dx fs/\PySem.W.exmOne K (.ref C) (.ref B)=some true /\
 th ⟨λσ2 H2=>D.nx (u σ2) H2,λ_ _=>False,λ_ _=>False,λ_ _=>False⟩ (g a) H'
def ZD(K:Frag)(mg:Str->Option Value)(xB:Str)(D:Ends)(th:TS)(g:Addr->St)(u:St->St):VK:=λv H'=>∀B,mg xB=some (.ref B)->dD K B D th g u v H'
def PU(K:Frag)(mg:Str->Option Value)(xB:Str)(tb tx th:TS)(i:Option Nat):TS:=λD U H=>tb D U H∨tx ⟨λ_ _=>False,ZD K mg xB D th (λa=>match i with|some i=>(List.replicate U.length none).set i (some (.ref a))|none=>List.replicate U.length none) (λσ2=>match i with|some i=>σ2.set i none|none=>σ2),λ_ _=>False,λ_ _=>False⟩ U H
def Z6(ex:Exo h a C dx tb)(e:HO.ext (XO a C dx)=.ext (XO a C' dx')):C'=C:=by
 have e1:XO a C dx=XO a C' dx':=by injection e
 have x:XO a C' dx' h:=by rw[<- e1];exact⟨tb,ex⟩
 obtain⟨tb',vs',sl',q',_⟩:=x;obtain⟨vs,sl,q,_⟩:=ex;rw[q]at q';have:=jy Obj.cls (Option.some.inj q');exact(Value.ref.inj this).symm
def Xp{i:Nat}{pB ph pos:Pos}(hst:X.stack=X.env::X.outer/\X.env.frame=some X.env.locals)(hb:PSs X.nox body tb)(hx:GXs X body tx)(hg:Gl X xB)(hm:X.mg xB=some (.ref B))
 (hN:X.N.Nodup) (hi:X.N[i]?=some n) (hl:X.env.scope.names.lookup n=some .local) (hh:∀a,PSs (X.hand (.ref a)) (b0::suite) th) (hdb:(xB==("__debug__":Str))=false:=by decide):
 PS X (.Try body [.ExceptHandler (some (.Name xB pB)) (some n) (b0::suite) ph] [] [] pos) (PU X.K X.mg xB tb tx th (some i)):=by
 intro O s U H D I h;refine wpAny_Try_except ?_;rcases h with h|h
 .refine thx (hb O s U H D (I.wish _) h) (λfl s1 q=>?_) λ_ _ z=>z.elim;have q:=q.unwish;cases fl with
  |next=>exact kG q
  |ret v=>exact q
  |brk=>exact q
  |cont=>exact q
 .refine thx (hx O s U H _ I h) (λfl s1 q=>?_) λe s1 q=>?_
  .cases fl with
   |next=>obtain⟨_,_,_,z⟩:=q;exact z.elim
   |ret v=>obtain⟨_,_,_,_,_,z⟩:=q;exact z.elim
   |brk=>obtain⟨_,_,_,z⟩:=q;exact z.elim
   |cont=>obtain⟨_,_,_,z⟩:=q;exact z.elim
  .obtain⟨a,C,dx,tb',fs,σ',H',rfl,I1,ex,ht,ha,hT,hd,q⟩:=q;have fr:X.A.frames=some (X.env::X.outer):=by rw[<- hst.1];exact I1.ok.frames
   have fl0:s1.heap.FunFrames X.base (X.env::X.outer):=by rw[<- hst.1];exact I1.stack
   refine Om none (base:=X.base) fr fl0 hst.2 ex ht λh' T z nT ex' tr N=>?_;have I2:Inv X O σ' H' { s1 with heap:=h' }:=N9 I1 ha hT (by rw[hst.1];exact N) ex';have LT:Looks (model X.prog X.w) h' (typeOf (.ref a)) (.ref C):=by
    obtain⟨vs,sl,e,_⟩:=ex';exact(PySem.W.Looks.ld e).andThen .now
   obtain⟨a',C',dx',fs',ea',ha',hd',hB,q⟩:=q B hm;cases ea';obtain rfl:=Z6 ex (Option.some.inj (ha.symm.trans ha'));refine wpAny_handleBy_cons (codeAny_handlers_test (Fa (X:=X.hand (.ref a)) (I2.hand _) hg hm ?_ hdb)) (by intro q;cases q);refine PySem.W.Looks.here (s:={ s1 with heap:=h' }) (PySem.W.exm_one I2.kIn LT hB) ?_;refine codeAny_handlers_suite_as ?_;obtain⟨vs,sl,ea,e1⟩:=id ex';obtain⟨oT,ts,eT,dT,e3⟩:=tr;refine wpAny_setFlight_none (s:={ s1 with heap:=h' }) ea rfl e1 eT dT (Array.getElem?_eq_some_iff.mp e3).1 ?_;have nw:H' T=none/\New X O T:=by
    rcases z with z|z
    .exact⟨I1.hok.fresh z,I1.new z⟩
    .exact hT T z
   have I3:=I2.turned (it:=T) (t':=s1.toks) (h':=h'.update T (Obj.mapFields (·.setIfInBounds 3 Value.none))) (λb o n e=>(Heap.get?_update_other _ _ (Ne.symm n)).trans e) nw.1 nw.2.2.1 nw.2.1 nw.2.2.2.1 nw.2.2.2.2;have I3':=I3.weak (σ':=List.replicate U.length none) (by rw[List.length_replicate,I.len,I3.len]) λi v e=>by
    rw[List.getElem?_replicate]at e;split at e<;>cases e
   refine Gz (v:=.ref a) I3' hN hi (.inl hl) rfl (λs4 I4=>?_) (.inr hl);refine thx (hh a O s4 _ H' _ (I4.hand _) q) (λfl s5 q5=>?_) λ_ _ z=>z.elim;cases fl with
   |next=>
    obtain⟨σ2,H2,I5,q6⟩:=q5;have I5:=I5.unhand I.ok.hd;show wpAny _ _ (do bindName X.env n .none;unbindBehindTheSuite X.env n ph) _ _ _;refine j5 (wpAny_bindName (Gz (v:=.non) I5 hN hi (.inl hl) rfl (λs6 I6=>?_) (.inr hl)));unfold unbindBehindTheSuite;have li:i<σ2.length:=by rw[I5.len];exact(List.getElem?_eq_some_iff.mp hi).1
    refine kO (Qy (v:=.non) I6 hN hi hl (List.getElem?_set_self li) λs7 I7=>?_);rw[List.set_set]at I7;exact⟨_,_,I7,q6⟩
   |ret v=>obtain⟨_,_,_,_,_,z⟩:=q5;exact z.elim
   |brk=>obtain⟨_,_,_,z⟩:=q5;exact z.elim
   |cont=>obtain⟨_,_,_,z⟩:=q5;exact z.elim
def Nd(hok:HOk P w H h)(ha:H a=some (.ext (XO a C dx)))(hd:XdAt H dx fs):∃dx vs sl od,PySem.W.InstAt h a ⟨.ref C,dx,.fields vs,sl⟩ C od:=by
 obtain⟨⟨tb,vs,sl,e,_⟩,_⟩:=(show ObjOk P w H h a (.ext (XO a C dx))from hok a _ ha)
 cases dx with
 |none=>exact⟨none,vs,sl,none,e,rfl,rfl,trivial⟩
 |some dx=>
  obtain⟨mA,n,r⟩:=(show ObjOk P w H h dx (.xd fs)from hok dx _ hd)
  obtain⟨od,ho,hl⟩:=GK n;exact⟨some dx,vs,sl,some od,e,rfl,rfl,ho⟩
structure XK1(K:Frag)(C:Addr):Prop where
 xc:∃fI,XC K C fI
 xi:XI K C
def fW(K:Frag)(c:V)(u:Value):List V->Hp->VK->Prop:=λvs H Q=>∃a C dx fs b,vs=[.ref a,c]/\H a=some (.ext (XO a C dx))/\XdAt H dx fs/\XK1 K C/\PySem.W.kitOne K (.ref C) u=some b/\Q (.bl b) H
def VJ(hu:∀u',RelV c u'->u'=u):CallR X (.builtin "isinstance") (fW X.K c u):=by
 intro O s U H xs us Q I r h;obtain⟨a,C,dx,fs,b,rfl,ha,hd,⟨⟨fI,xc⟩,xi⟩,hk,q⟩:=h
 match us,r with
 |[u1,u2],.cons r1 (.cons r2 .nil)=>
 obtain rfl:u1=.ref a:=r1;obtain rfl:=hu u2 r2;exact PySem.W.kia_one (NL xc xi) I.kIn (Nd I.hok ha hd) hk (by intro z;cases z) λtk=>⟨.bl b,H,I.tok tk,rfl,q⟩
def Vm(K:Frag)(cs:List Addr):List V->Hp->VK->Prop:=λvs H Q=>∃a C dx fs tp b,vs=[.ref a,.ref tp]/\H a=some (.ext (XO a C dx))/\XdAt H dx fs/\H tp=some (.tup (cs.map V.ref))/\XK1 K C/\PySem.W.kitAny K (.ref C) (cs.map Value.ref)=some b/\Q (.bl b) H
def T3:CallR X (.builtin "isinstance") (Vm X.K cs):=by
 intro O s U H xs us Q I r h;obtain⟨a,C,dx,fs,tp,b,rfl,ha,hd,ht,⟨⟨fI,xc⟩,xi⟩,hk,q⟩:=h
 match us,r with
 |[u1,u2],.cons r1 (.cons r2 .nil)=>
 obtain rfl:u1=.ref a:=r1;obtain rfl:u2=.ref tp:=r2;obtain⟨_,its,r3,ob,e,hc,⟨n,hd'⟩,_⟩:=(show ObjOk X.prog X.w H s.heap tp (.tup (cs.map V.ref))from I.hok tp _ ht)
 obtain rfl:=OY r3;obtain⟨oc,od,odt,osl⟩:=ob;subst hc hd';exact PySem.W.kia_tup (NL xc xi) I.kIn (Nd I.hok ha hd) e hk (by intro z;cases z) λtk=>⟨.bl b,H,I.tok tk,rfl,q⟩
def TZ(K:Frag)(ta:TE)(f:Str):TE:=λU H Q=>ta U H λx H1=>∃a C dx fs v,x=.ref a/\H1 a=some (.ext (XO a C dx))/\XdAt H1 dx fs/\fs.lookup f=some v/\XK1 K C/\DF K C f/\Q v H1
def bJ(he:PE X e ta)(hb:attributeBase e f X.env (eval e X.env)=eval e X.env):PE X (.Attribute e f pos) (TZ X.K ta f):=by
 intro O s U H Q I h;refine Yy hb (thn (he O s U H _ I h) λu s1 ⟨x,H1,I1,rx,a,C,dx,fs,v,ex,ha,hd,lk,⟨⟨fI,xc⟩,xi⟩,n,q⟩=>?_);subst ex;obtain rfl:u=Value.ref a:=rx;obtain⟨⟨tb,vs,sl,e1,_⟩,_⟩:=(show ObjOk X.prog X.w H1 s1.heap a (.ext (XO a C dx))from I1.hok a _ ha)
 obtain⟨dx,rfl⟩:∃d,dx=some d:=by
  cases dx with
  |none=>obtain rfl:fs=[]:=hd;cases lk
  |some d=>exact⟨d,rfl⟩
 obtain⟨mA,ns,r⟩:=(show ObjOk X.prog X.w H1 s1.heap dx (.xd fs)from I1.hok dx _ hd)
 obtain⟨u',hu,ru⟩:=RelO.some_of (v:=v) (o:=mA f) (by have:=r f;rw[lk]at this;exact this);exact Yi I1.kIn xc e1 ns n hu (SZ ru) ⟨v,H1,I1.tok _,ru,q⟩
end
def DI(m:MS):MS:=λls hd=>(m ls hd).bind λp=>match p.1 with
 |.rt _=>none
 |fl=>some (fl,p.2)
def Ia(ma me:ME):ME:=λls hd=>(ma ls hd).bind λp=>me ls p.2
def mkX(k n:Nat)(m:MS):List D->Hd->Option (D×Hd):=λds hd=>if ds.length=k then(match m (ds.map some++List.replicate (n-k) none) hd with
 |some (.rt d,hd')=>some (d,hd')
 | _=>none)else none
def YO{k n:Nat}:∀ds hd z,mkX k n m ds hd=some z->ds.length=k:=λds hd z h=>by
 unfold mkX at h;split at h
 .next e=>exact e
 .cases h
section
variable{K:Frag}
def Wz(ha:RE K ta ma)(he:RE K te me):RE K (PV ta te) (Ia ma me):=by
 and_intros;obtain⟨⟨d1,h1⟩,e1,hm⟩:=gV hm;refine ha ρ U H hd ls _ d1 h1 hR hL e1 λρ1 H1 v1 x1 R1 _=>?_;exact he ρ1 U H1 h1 ls Q d hd' R1 (RL.ext hR x1 hL) hm λρ2 H2 v2 x2 R2 r2=>hQ ρ2 H2 v2 (x1.trans R1 x2) R2 r2
def Mj(h:RS K t m):RS K (MU t) (DI m):=by
 intro ρ U H hd ls E fl hd' hR hL hm hQ;obtain⟨⟨fl1,h1⟩,e1,hm⟩:=gV hm;refine h ρ U H hd ls E.non fl1 h1 hR hL e1 λρ' H' x R=>?_;cases fl1 with
 |rt d=>cases hm
 |nx l=>cases hm;exact hQ ρ' H' x R
 |bk l=>cases hm;exact hQ ρ' H' x R
 |ct l=>cases hm;exact hQ ρ' H' x R
def spF.mono{k:Nat}{F:List D->Hd->Option (D×Hd)}(h:spF K k F vs H Q E)(k':∀v H',Q v H'->Q' v H'):spF K k F vs H Q' E':=
 let ⟨a,ρ,hd,ds,d,hd',b,c,e,q⟩:=h;⟨a,ρ,hd,ds,d,hd',b,c,e,λρ' H' v x R r=>k' _ _ (q ρ' H' v x R r)⟩
end
end L2
namespace L2
open PySem PySem.Spec PyProof.Rows PySem.W
def Le(K K':Frag):Prop:=∀a o,K.lookup a=some o->(∀vs,o.data≠.fields vs)->K'.lookup a=some o
def Gm{K:Frag}{ts:List Tb}(X:K.In h)(hP:∀P∈ts.map (·.1),h.get? P=some (tabObj #[])):Le K (B7 K ts):=λa o e n=>GH (λz=>by
 have:=X _ _ e;rw[hP a z]at this;cases this;exact n _ rfl) e
section
variable{K:Frag}(L:Le K K')
include L
theorem Le.ns(e:nsIn K a n=some r):nsIn K' a n=some r:=by
 unfold nsIn at e ⊢;split at e
 .next c d es k sl ho=>rw[L a _ ho (λvs q=>by cases q)];exact e
 .cases e
theorem Le.own(e:ownIn K n c=some r):ownIn K' n c=some r:=by
 cases c with
 |ref a=>
  simp only[ownIn]at e ⊢;split at e
  .next c d cd sl ho=>rw[L a _ ho (λvs q=>by cases q)];exact L.ns e
  .cases e
 |_=>exact e
theorem Le.along:∀{l:List Value} {r:Option Value},alongIn K n l=some r->alongIn K' n l=some r
 |[],_,e=>e
 |c::l,r,e=>by
  simp only[alongIn]at e ⊢;split at e
  .next v q=>rw[L.own q];exact e
  .next q=>rw[L.own q];exact Le.along e
  .cases e
theorem Le.find(e:findIn K t n=some r):findIn K' t n=some r:=by
 cases t with
 |ref a=>
  simp only[findIn]at e ⊢;split at e
  .next c d cd sl ho=>rw[L a _ ho (λvs q=>by cases q)];exact L.along e
  .cases e
 |_=>exact e
theorem Le.cls(e:clsIn K C=some cd):clsIn K' C=some cd:=by
 unfold clsIn at e ⊢;split at e
 .next c d cd sl ho=>rw[L C _ ho (λvs q=>by cases q)];exact e
 .cases e
theorem Le.mro{r:Bool}(e:mroIn K C b=some r):mroIn K' C b=some r:=by
 obtain⟨cd,a,e⟩:=gV e;unfold mroIn;rw[L.cls a];exact e
theorem Le.sub{r:Bool}(e:subIn K t b=some r):subIn K' t b=some r:=by
 cases t with
 |ref a=>exact L.mro e
 |_=>exact e
theorem Le.typeC(c:(clsIn K C).isSome=true)(e:typeIn K (.ref C)=some t):typeIn K' (.ref C)=some t:=by
 simp only[typeIn]at e ⊢;unfold clsIn at c;split at c
 .next x d cd sl ho=>rw[ho]at e;rw[L C _ ho (λvs q=>by cases q)];exact e
 .cases c
theorem Le.kitCls{r:Bool}(e:kitCls K t c=some r):kitCls K' t c=some r:=by
 unfold PySem.W.kitCls at e ⊢;split at e
 .next C=>
  split at e
  .next q=>
   have q1:(clsIn K C).isSome=true:=by cases z:(clsIn K C).isSome<;>simp[z]at q ⊢
   have q2:typeIn K (.ref C)=some (.type "type"):=by rw[q1]at q;simpa using q
   obtain⟨cd,hc⟩:=isSome_iff_exists.mp q1;rw[j6 (by rw[L.cls hc,L.typeC q1 q2];rfl)];exact L.sub e
  .cases e
 .next T=>
  split at e
  .next q=>rw[j6 q];exact L.sub e
  .cases e
 .cases e
theorem Le.kitOne{r:Bool}(e:kitOne K t c=some r):kitOne K' t c=some r:=by
 unfold PySem.W.kitOne at e ⊢;split at e
 .next q=>rw[j6 q];exact e
 .next q=>rw[j7 q];exact L.kitCls e
theorem Le.kitAny:∀{cs:List Value} {r:Bool},kitAny K t cs=some r->kitAny K' t cs=some r
 |[],_,e=>e
 |c::cs,r,e=>by
  simp only[PySem.W.kitAny]at e ⊢;split at e
  .next q=>rw[L.kitOne q];exact e
  .next q=>rw[L.kitOne q];exact Le.kitAny e
  .cases e
theorem Le.exm{r:Bool}(e:exmOne K t c=some r):exmOne K' t c=some r:=by
 unfold PySem.W.exmOne at e ⊢;split at e
 .next q=>
  rw[j6 (by rw[L.sub (beq_iff_eq.mp q)];rfl)];exact L.kitCls e
 .cases e
theorem Le.noAttr(e:DF K C f):DF K' C f:=L.find e
theorem Le.xi(i:XI K C):XI K' C:=⟨L.find i.ca,i.gd,i.tk,L.mro i.mo⟩
theorem Le.xc{fI:Addr}(hf:∃o fd,K.lookup fI=some o/\o.data=.func fd)(c:XC K C fI):XC K' C fI:=by
 obtain⟨nm,q,N,bs,bm,sn,sub,ab,col,dd,k0,k1,k2,k3,k5,lk,ov⟩:=c.at_;have lk':=L C _ lk (λvs q=>by cases q);obtain⟨o,fd,e,d⟩:=hf;have e':=L fI o e (λvs q=>by rw[d]at q;cases q);refine⟨⟨nm,q,N,bs,bm,sn,sub,ab,col,dd,k0,k1,k2,k3,k5,lk',ov⟩,L.find c.init,?_,?_,L.find c.sa,L.find c.ga,L.find c.gx⟩
 .have:=c.fn;unfold PySem.W.isFn PySem.W.typeIn at this ⊢;dsimp only at this ⊢;rw[e]at this;rw[e'];exact this
 .have:=c.kp;unfold keepIn at this ⊢;dsimp only at this ⊢;rw[lk]at this;rw[lk'];dsimp only at this ⊢;unfold PySem.W.specialIn PySem.W.typeIn at this ⊢;dsimp only at this ⊢;rw[lk]at this;rw[lk'];exact this
end
end L2
namespace L2
open PySem PySem.Spec PyProof.Rows
structure Dj(m mn:MS):Prop where
 rt:∀ls hd d x,m ls hd=some (.rt d,x)->mn ls hd=none
 nx:∀ls hd fl x,m ls hd=some (fl,x)->(∀d,fl≠.rt d)->mn ls hd=some (fl,x)
def DjE(m mn:ME):Prop:=∀ls hd z,m ls hd=some z->mn ls hd=none
def DjA(m:ME)(mn:MA):Prop:=∀ls hd z,m ls hd=some z->mn ls hd=none
def DjF(X F:List D->Hd->Option (D×Hd)):Prop:=∀ds hd z,X ds hd=some z->F ds hd=none
section
variable{n1 n2:MS}{i:Nat}
def HR:Dj (DI m) m:=by
 constructor
 .intro ls hd d x e;obtain⟨⟨fl,y⟩,e1,e2⟩:=gV e;cases fl<;>cases e2
 .intro ls hd fl x e n;obtain⟨⟨fl1,y⟩,e1,e2⟩:=gV e;cases fl1<;>cases e2<;>exact e1
def F3(a:Dj m1 n1)(b:Dj m2 n2):Dj (AD m1 m2) (AD n1 n2):=by
 constructor
 .intro ls hd d x e;obtain⟨⟨fl,y⟩,e1,e2⟩:=gV e;unfold AD;cases fl with
  |rt d1=>rw[a.rt _ _ _ _ e1];rfl
  |nx l=>rw[a.nx _ _ _ _ e1 (λd q=>by cases q)];exact b.rt _ _ _ _ e2
  |bk l=>cases e2
  |ct l=>cases e2
 .intro ls hd fl x e n;obtain⟨⟨fl1,y⟩,e1,e2⟩:=gV e;unfold AD;cases fl1 with
  |rt d1=>cases e2;exact absurd rfl (n d1)
  |nx l=>rw[a.nx _ _ _ _ e1 (λd q=>by cases q)];exact b.nx _ _ _ _ e2 n
  |bk l=>cases e2;rw[a.nx _ _ _ _ e1 (λd q=>by cases q)];rfl
  |ct l=>cases e2;rw[a.nx _ _ _ _ e1 (λd q=>by cases q)];rfl
def Ij(a:Dj m1 n1)(b:Dj m2 n2):Dj (Aa c m1 m2) (Aa c n1 n2):=by
 constructor
 .intro ls hd d x e;obtain⟨⟨q,y⟩,e1,e2⟩:=gV e;unfold Aa;rw[e1];dsimp only[bind_some]at e2 ⊢;cases q
  .exact b.rt _ _ _ _ e2
  .exact a.rt _ _ _ _ e2
 .intro ls hd fl x e n;obtain⟨⟨q,y⟩,e1,e2⟩:=gV e;unfold Aa;rw[e1];dsimp only[bind_some]at e2 ⊢;cases q
  .exact b.nx _ _ _ _ e2 n
  .exact a.nx _ _ _ _ e2 n
def Rr(e:AQ me ls hd=some (fl,x))(n:∀d,fl≠.rt d):False:=by
 obtain⟨⟨d,y⟩,e1,e2⟩:=gV e;cases e2;exact n d rfl
def Mo(e:AQ me ls hd=some (.rt d,x)):∃z,me ls hd=some z:=by
 obtain⟨z,e1,e2⟩:=gV e;exact⟨z,e1⟩
def cj(h:DjE me mf):Dj (AQ me) (AQ mf):=⟨λls hd d x e=>by obtain⟨z,q⟩:=Mo e;unfold AQ;rw[h _ _ _ q];rfl,λ_ _ _ _ e n=>(Rr e n).elim⟩
def Fc(h:DjE me mf):Dj (AQ me) (CY mf):=⟨λls hd d x e=>by obtain⟨z,q⟩:=Mo e;unfold CY;rw[h _ _ _ q];rfl,λ_ _ _ _ e n=>(Rr e n).elim⟩
def HV{w:Nat}{X F:List D->Hd->Option (D×Hd)}(h:DjF X F):DjE (AB w X ma) (AB w F ma):=by
 intro ls hd z e;obtain⟨p,e1,e2⟩:=gV e;unfold AB;rw[e1];dsimp only[bind_some]at e2 ⊢;split at e2
 .next c=>
  obtain⟨r,e3,_⟩:=gV e2;rw[j6 c,h _ _ _ e3];rfl
 .cases e2
def VA(h:DjE me mf):DjA me (A3 mf mr):=λls hd z e=>by unfold A3;rw[h _ _ _ e];rfl
def Sk(h:DjA me mr):DjA (Ia ma me) (A3 ma mr):=λls hd z e=>by
 obtain⟨p,e1,e2⟩:=gV e;unfold A3;rw[e1];show(mr ls p.2).bind _=none;rw[h _ _ _ e2];rfl
def Yt(h:DjA me mr):DjE me (Af mr):=λls hd z e=>by unfold Af;rw[h _ _ _ e];rfl
def K2{k n:Nat}(h:Dj m mn):DjF (mkX k n m) (mkF k n mn):=by
 intro ds hd z e;unfold mkX at e;unfold mkF;split at e
 .next c=>
  rw[j6 c];split at e
  .next d x q=>rw[h.rt _ _ _ _ q]
  .cases e
 .cases e
def Ep{Q:Fl->Hd->Prop}(h:WS m ls hd λfl x=>(∀d,fl≠.rt d)/\Q fl x):WS (DI m) ls hd Q:=by
 obtain⟨fl,x,e,n,q⟩:=h;refine⟨fl,x,?_,q⟩;unfold DI;rw[e];cases fl with
 |rt d=>exact absurd rfl (n d)
 |_=>rfl
def WM{Q:D->Hd->Prop}(h:WE ma ls hd λ_ x=>WE me ls x Q):WE (Ia ma me) ls hd Q:=WP.bind h
def Hn{k n:Nat}{ds:List D}{Q:D->Hd->Prop}(hl:ds.length=k)(h:WS m (ds.map some++List.replicate (n-k) none) hd λf x=>∃d,f=.rt d/\Q d x):WF (mkX k n m) ds hd Q:=by
 obtain⟨f,x,e,d,rfl,q⟩:=h;refine⟨d,x,?_,q⟩;unfold mkX;rw[j6 hl,e]
end
def fM(tn tx:TS):TS:=λD U H=>tn D.non U H∨tx D U H
def EW(mn mx:MS):MS:=λls hd=>match DI mn ls hd with
 |some r=>some r
 |none=>mx ls hd
section
variable{K:Frag}{X:Cx}{st:Stmt}
def Nl(d:Dj mx mn):Dj (EW mn mx) mn:=by
 constructor
 .intro ls hd d' x e;unfold EW at e;split at e
  .next r q=>cases e;exact HR.rt _ _ _ _ q
  .exact d.rt _ _ _ _ e
 .intro ls hd fl x e n;unfold EW at e;split at e
  .next r q=>cases e;exact HR.nx _ _ _ _ q n
  .exact d.nx _ _ _ _ e n
def OM{Q:Fl->Hd->Prop}(h:WS mn ls hd λfl x=>(∀d,fl≠.rt d)/\Q fl x):WS (EW mn mx) ls hd Q:=by
 obtain⟨fl,x,e,q⟩:=Ep h;exact⟨fl,x,by unfold EW;rw[e],q⟩
def KD{Q:Fl->Hd->Prop}(d:Dj mx mn)(h:WS mx ls hd λfl x=>∃d,fl=.rt d/\Q fl x):WS (EW mn mx) ls hd Q:=by
 obtain⟨fl,x,e,d',rfl,q⟩:=h;have z:=d.rt _ _ _ _ e;refine⟨_,x,?_,q⟩;unfold EW DI;rw[z];exact e
def VB:Dj Br mn:=⟨(λ_ _ _ _ e=>nomatch e),(λ_ _ _ _ e=>nomatch e)⟩
end
def tXg(tc:TE):TE:=λU H Q=>tc U H λv H'=>∀a,v=.ref a->Q v H'
def DC(nm:Str)(fs:List Str)(ma:MA):MS:=λls hd=>(ma ls hd).bind λp=>if p.1.length=fs.length then some (.rt (.op nm fs p.1),p.2)else none
def Lx(mg:Str->Option Value)(x:Str):TE:=λ_ H Q=>∀C,mg x=some (.ref C)->Q (.ref C) H
def hLs(k:Nat)(i:Option Nat)(d:D):Ls:=match i with
 |some i=>(List.replicate k none).set i (some d)
 |none=>List.replicate k none
def uLs(i:Option Nat)(ls:Ls):Ls:=match i with
 |some i=>ls.set i none
 |none=>ls
def FO(ns:List Str)(i:Option Nat)(mb mx mh:MS):MS:=λls hd=>match mb ls hd with
 |some r=>some r
 |none=>match mx ls hd with
  | some (.rt (.op nm fs ds),hd')=>if nm∈ns then(match mh (hLs ls.length i (.op nm fs ds)) hd' with
   |some (.nx l2,hd2)=>some (.nx (uLs i l2),hd2)
   | _=>none)else none
  |_=>none
def FC(tb:List (Str×Bool))(m:ME):ME:=λls hd=>(m ls hd).bind λp=>match p.1 with
 |.op nm _ _=>(tb.lookup nm).map λb=>(.im (.bl b),p.2)
 |_=>none
def JO(ns:List Str)(f:Str)(m:ME):ME:=λls hd=>(m ls hd).bind λp=>match p.1 with
 |.op nm fs ds=>if nm∈ns/\ds.length=fs.length then((fs.zip ds).lookup f).map λd=>(d,p.2)else none
 |_=>none
section
variable{K:Frag}{mg:Str->Option Value}
def Ve(h:RE K tc m):RE K (tXg tc) m:=λρ U H hd ls Q d hd' hR hL hm hQ=>h ρ U H hd ls _ d hd' hR hL hm λρ' H' v x R r a _=>hQ ρ' H' v x R r
def Rj{nm:Str}(hc:∀C,mg x=some (.ref C)->clsAt K nm=some C)(h:RA K ta ma):RS K (KK mg x fs ta) (DC nm fs ma):=by
 intro ρ U H hd ls E fl hd' hR hL hm hQ;obtain⟨⟨ds,h1⟩,e1,hm⟩:=gV hm;dsimp only at hm;split at hm
 .next hl=>
  cases hm;refine h ρ U H hd ls _ ds _ hR hL e1 λρ1 H1 vs x1 R1 r1=>⟨by rw[r1.len];exact hl,λC hC a dx na nd ne=>?_⟩
  obtain⟨R2,x2⟩:=R1.hid nd (ho:=.xd (fs.zip vs));obtain⟨R3,x3⟩:=R2.hid (a:=a) (by rw[AC (Ne.symm ne)];exact na) (ho:=.ext (XO a C (some dx)));refine hQ ρ1 _ ((x1.trans R1 x2).trans R2 x3) R3 (.ref a) ?_;simp only[RD];exact⟨a,vs,rfl,⟨C,some dx,hc C hC,AJ,by show upd _ _ _ dx=_;rw[AC ne,AJ],by rw[r1.len];exact hl⟩,(r1.ext R1 x2).ext R2 x3⟩
 .cases hm
def fS{k:Nat}(r:RD K ρ H d v):RL K ρ H (hLs k i d) (match i with|some i=>(List.replicate k none).set i (some v)|none=>List.replicate k none):=by
 cases i with
 |none=>exact⟨by simp[hLs],λj d e=>by simp only[hLs]at e;rw[List.getElem?_replicate]at e;split at e<;>cases e⟩
 |some i=>
  refine⟨by simp[hLs],λj d' e=>?_⟩;simp only[hLs]at e;by_cases z:i=j
  .subst z;have li:i<k:=by have:=(List.getElem?_eq_some_iff.mp e).1;simpa using this
   rw[List.getElem?_set_self (by simpa using li)]at e;cases e;exact⟨v,List.getElem?_set_self (by simpa using li),r⟩
  .rw[List.getElem?_set_ne z,List.getElem?_replicate]at e;split at e<;>cases e
def fR(h:RL K ρ H ls U):RL K ρ H (uLs i ls) (match i with|some i=>U.set i none|none=>U):=by
 cases i with
 |none=>exact h
 |some i=>
  refine⟨by simp[uLs,h.len],λj d e=>?_⟩;simp only[uLs]at e;by_cases z:i=j
  .subst z;rw[List.getElem?_set,j6 rfl]at e;split at e<;>cases e
  .rw[List.getElem?_set_ne z]at e;obtain⟨v,e1,r⟩:=h.ob j d e;exact⟨v,by dsimp only;rw[List.getElem?_set_ne z];exact e1,r⟩
def Wi(hc:∀nm∈ns,∀B C,mg xB=some (.ref B)->clsAt K nm=some C->PySem.W.exmOne K (.ref C) (.ref B)=some true)(hb:RS K tb mb)(hx:RS K tx mx)(hh:RS K th mh):RS K (PU K mg xB tb tx th i) (FO ns i mb mx mh):=by
 intro ρ U H hd ls E fl hd' hR hL hm hQ;unfold FO at hm;split at hm
 .next r e=>
  cases hm;exact .inl (hb ρ U H hd ls E fl hd' hR hL e hQ)
 .split at hm
  .next nm fs ds h1 e=>
   split at hm
   .next c=>
    split at hm
    .next l2 h2 e2=>
     cases hm;refine .inr (hx ρ U H hd ls _ (.rt (.op nm fs ds)) h1 hR hL e λρ1 H1 x1 R1 v r1 B hB=>?_);have r1':=r1;simp only[RD]at r1;obtain⟨a,xs,rfl,⟨C,dx,c1,c2,c3,c4⟩,r2⟩:=r1;refine⟨a,C,dx,_,rfl,c2,c3,hc nm c B C hB c1,?_⟩;have hl:U.length=ls.length:=hL.len.symm;refine hh ρ1 _ H1 h1 _ _ (.nx l2) hd' R1 ?_ e2 λρ2 H2 x2 R2 σ2 hL2=>hQ ρ2 H2 (x1.trans R1 x2) R2 _ (fR hL2);rw[hl];exact fS r1'
    .cases hm
   .cases hm
  .cases hm
def Uq{fs:List Str}:∀{ds:List D} {xs:List V},RDs K ρ H ds xs->(fs.zip ds).lookup f=some d->∃v,(fs.zip xs).lookup f=some v/\RD K ρ H d v:=by
 induction fs with
 |nil=>intro ds xs _ e;simp at e
 |cons g fs ih=>
  intro ds xs r e;cases ds with
  |nil=>simp at e
  |cons d0 ds=>
   simp only[RDs]at r;obtain⟨x0,r0,rfl,h1,h2⟩:=r;rw[List.zip_cons_cons,jg]at e ⊢;cases q:(f==g)with
   |true=>rw[q]at e;cases e;exact⟨x0,rfl,h1⟩
   |false=>rw[q]at e;exact ih h2 e
def Zv(hc:∀nm∈ns,∀C,clsAt K nm=some C->XK1 K C/\DF K C f)(h:RE K t m):RE K (TZ K t f) (JO ns f m):=by
 and_intros;obtain⟨⟨d1,h1⟩,e1,hm⟩:=gV hm;dsimp only at hm;split at hm
 .next nm fs ds=>
  split at hm
  .next c=>
   obtain⟨d2,e2,e3⟩:=j4 hm;cases e3;refine h ρ U H hd ls _ _ _ hR hL e1 λρ1 H1 v x1 R1 r1=>?_;simp only[RD]at r1;obtain⟨a,xs,rfl,⟨C,dx,c1,c2,c3,c4⟩,r2⟩:=r1;obtain⟨v,q1,q2⟩:=Uq r2 e2;obtain⟨k1,k2⟩:=hc nm c.1 C c1;exact⟨a,C,dx,_,v,rfl,c2,c3,q1,k1,k2,hQ ρ1 H1 v x1 R1 q2⟩
  .cases hm
 .cases hm
def Mx(K:Frag):List V->Hp->VK->Prop:=λvs H Q=>∃a C dx fs c b,vs=[.ref a,c]/\H a=some (.ext (XO a C dx))/\XdAt H dx fs/\XK1 K C/\(∃u,(∀u',RelV c u'->u'=u)/\PySem.W.kitOne K (.ref C) u=some b)/\Q (.bl b) H
def Nr:CallR X (.builtin "isinstance") (Mx X.K):=by
 intro O s U H xs us Q I r h;obtain⟨a,C,dx,fs,c,b,rfl,ha,hd,xk,⟨u,hu,hk⟩,q⟩:=h;exact VJ (u:=u) hu O s U H _ us Q I r ⟨a,C,dx,fs,b,rfl,ha,hd,xk,hk,q⟩
def Zt{tbl:List (Str×Bool)}(hc:∀nm b,tbl.lookup nm=some b->∀C B,clsAt K nm=some C->mg x=some (.ref B)->XK1 K C/\PySem.W.kitOne K (.ref C) (.ref B)=some b)(h:RE K t m):RE K (tCB (Mx K) (Aq t (Aq (Lx mg x) BS))) (FC tbl m):=by
 and_intros;obtain⟨⟨d1,h1⟩,e1,hm⟩:=gV hm;dsimp only at hm;split at hm
 .next nm fs ds=>
  obtain⟨b,e2,e3⟩:=j4 hm;cases e3;refine h ρ U H hd ls _ _ _ hR hL e1 λρ1 H1 v x1 R1 r1 B hB=>?_;simp only[RD]at r1;obtain⟨a,xs,rfl,⟨C,dx,c1,c2,c3,c4⟩,r2⟩:=r1;obtain⟨k1,k2⟩:=hc nm b e2 C B c1 hB;exact⟨a,C,dx,_,.ref B,b,rfl,c2,c3,k1,⟨.ref B,λu' r=>r,k2⟩,hQ ρ1 H1 _ x1 R1 (by simp[RD,RI])⟩
 .cases hm
def Zu{tbl:List (Str×Bool)}(hc:∀nm b,tbl.lookup nm=some b->∀C,clsAt K nm=some C->XK1 K C/\PySem.W.kitOne K (.ref C) (.type "ValueError")=some b)(h:RE K t m):RE K (tCB (Mx K) (Aq t (Aq (tC (.ty "ValueError")) BS))) (FC tbl m):=by
 and_intros;obtain⟨⟨d1,h1⟩,e1,hm⟩:=gV hm;dsimp only at hm;split at hm
 .next nm fs ds=>
  obtain⟨b,e2,e3⟩:=j4 hm;cases e3;refine h ρ U H hd ls _ _ _ hR hL e1 λρ1 H1 v x1 R1 r1=>?_;simp only[RD]at r1;obtain⟨a,xs,rfl,⟨C,dx,c1,c2,c3,c4⟩,r2⟩:=r1;obtain⟨k1,k2⟩:=hc nm b e2 C c1;exact⟨a,C,dx,_,_,b,rfl,c2,c3,k1,⟨.type "ValueError",λu' r=>r,k2⟩,hQ ρ1 H1 _ x1 R1 (by simp[RD,RI])⟩
 .cases hm
def Hs(mg:Str->Option Value):List Str->TA
 |[]=>BS
 |x::xs=>Aq (Lx mg x) (Hs mg xs)
def Pv(K:Frag):List V->Hp->VK->Prop:=λvs H Q=>∃cs,Vm K cs vs H Q
def T2:CallR X (.builtin "isinstance") (Pv X.K):=λO s U H xs us Q I r ⟨cs,h⟩=>T3 O s U H xs us Q I r h
def V6{xs:List Str}{Q:List V->Hp->Prop}(h:∀cs:List Addr,xs.map mg=cs.map (λc=>some (.ref c))->Q (cs.map V.ref) H):Hs mg xs U H Q:=by
 induction xs generalizing Q with
 |nil=>exact h [] rfl
 |cons x xs ih=>
  intro C hC;exact ih λcs e=>h (C::cs) (by rw[jc,jc,hC,e])
def X4{xs:List Str}{tbl:List (Str×Bool)}(hx:xs.length<=1000)(hc:∀nm b,tbl.lookup nm=some b->∀C (cs:List Addr),clsAt K nm=some C->xs.map mg=cs.map (λc=>some (.ref c))->XK1 K C/\PySem.W.kitAny K (.ref C) (cs.map Value.ref)=some b)(h:RE K t m):
 RE K (tCB (Pv K) (Aq t (Aq (MQ (Hs mg xs)) BS))) (FC tbl m):=by
 and_intros;obtain⟨⟨d1,h1⟩,e1,hm⟩:=gV hm;dsimp only at hm;split at hm
 .next nm fs ds=>
  obtain⟨b,e2,e3⟩:=j4 hm;cases e3;refine h ρ U H hd ls _ _ _ hR hL e1 λρ1 H1 v x1 R1 r1=>?_;refine V6 λcs ec=>?_;have lc:cs.length=xs.length:=by have:=jy List.length ec;simpa using this.symm
  refine⟨by rw[jo,lc];exact jf hx (by decide),λtp ntp=>?_⟩;obtain⟨R2,x2⟩:=R1.hid ntp (ho:=.tup (cs.map V.ref));have r2:=r1.ext R1 x2;simp only[RD]at r2;obtain⟨a,xs',rfl,⟨C,dx,c1,c2,c3,c4⟩,r3⟩:=r2;obtain⟨k1,k2⟩:=hc nm b e2 C cs c1 ec;exact⟨cs,a,C,dx,_,tp,b,rfl,c2,c3,AJ,k1,k2,hQ ρ1 _ _ (x1.trans R1 x2) R2 (by simp[RD,RI])⟩
 .cases hm
end
def Q2(Q:VK)(v:Value)(H:Hp):Prop:=∃a,v=.ref a/\Q (.ref a) H
def Ti(K:Frag)(k:Nat)(F:FD):Sp:=λvs H _ E=>spF K k F vs H (λv H'=>∀a,v=.ref a->E (.ref a) none H') E0
section
variable(K:Frag)(X:Cx)
structure YX(e:Stmt)(t:TS)(m:MS):Prop where
 p:GX X e t
 r:RS K t m
structure YXs(e:List Stmt)(t:TS)(m:MS):Prop where
 p:GXs X e t
 r:RS K t m
structure YXE(e:Expr)(t:TE)(m:ME):Prop where
 p:GXE X e t
 r:RE K t m
structure YXA(e:List Expr)(t:TE)(m:ME):Prop where
 p:GXA X e t
 r:RE K t m
end
def Cl(E:EnK)(nm:Str)(fs:List Str):Prop:=∃C fI fd ps,E.mg nm=some (.ref C)/\clsAt E.K nm=some C/\XC E.K C fI/\XI E.K C/\(∀f∈fs,DF E.K C f)/\FnOk E.P E.w E.K E.mg E.base CX0 1 fI fd ps (spJ C fs)/\Binds E.K fd ps []/\ps.length=fs.length+1/\fs.length<=1000
def Ch(E:EnK)(xB nm:Str):Prop:=∃B C,E.mg xB=some (.ref B)/\clsAt E.K nm=some C/\PySem.W.exmOne E.K (.ref C) (.ref B)=some true
def Ci(E:EnK)(x nm:Str)(b:Bool):Prop:=∃B C,E.mg x=some (.ref B)/\clsAt E.K nm=some C/\PySem.W.kitOne E.K (.ref C) (.ref B)=some b
def Cv(E:EnK)(nm:Str):Prop:=∃C,E.mg "ValueError"=none/\clsAt E.K nm=some C/\PySem.W.kitOne E.K (.ref C) (.type "ValueError")=some true
def Ct(E:EnK)(xs:List Str)(nm:Str)(b:Bool):Prop:=∃(cs:List Addr) (C:Addr),xs.map E.mg=cs.map (λc=>some (.ref c))/\clsAt E.K nm=some C/\PySem.W.kitAny E.K (.ref C) (cs.map Value.ref)=some b
def KnX(E:EnK)(e:Df):Prop:=∃f fd,DefAt E.K E.mg e.x e.st f fd e.ps/\FnOk E.P E.w E.K E.mg E.base (CXG E.P E.w) e.k f fd e.ps (Ti E.K e.ps.length e.F)/\∀ds hd z,e.F ds hd=some z->ds.length=e.ps.length
def Cl.k{nm:Str}(h:Cl E nm fs):∀C,clsAt E.K nm=some C->XK1 E.K C/\∀f∈fs,DF E.K C f:=λC e=>by
 obtain⟨C',fI,fd,ps,h1,h2,h3,h4,h5,_⟩:=h;rw[h2]at e;cases e;exact⟨⟨⟨fI,h3⟩,h4⟩,h5⟩
section
variable{K:Frag}{X:Cx}{st:Stmt}{rest:List Stmt}{p1:Pos}
def WG(h:QS K X.nox st t m):YX K X st (MU t) (DI m):=⟨Ow h.p,Mj h.r⟩
def MB(h1:YX K X st t m1)(h2:YXs K X rest u m2):YXs K X (st::rest) (MR t u) (AD m1 m2):=⟨V2 h1.p h2.p,Ri h1.r h2.r⟩
def WB(h1:YX K X st t m1):YXs K X [st] t m1:=⟨Ye h1.p,h1.r⟩
def WC:YXs K X [] (MU IV) (DI AU):=⟨V1 Oi,Mj KR⟩
def Kr{rest:List Stmt}:YXs K X rest Jg Br:=⟨λ_ _ _ _ _ _ h=>h.elim,Mk⟩
def d7(hc:QT K X.nox c tc mc)(ha:YXs K X a t m1)(hb:YXs K X b u m2):YX K X (.If c a b pos) (MV tc t u) (Aa mc m1 m2):=⟨eZ hc.p ha.p hb.p,Va hc.r ha.r hb.r⟩
def Z3(he:YXE K X e te me):YX K X (.Return (some e) pos) (JB te) (AQ me):=⟨cJ he.p,Mi he.r⟩
def WH(he:YXE K X e te me)(hs:swapsWith e none pos.line X.env=pure false:=by rfl):YX K X (.Expr e pos) (JB te) (AQ me):=⟨Yh he.p hs,Mi he.r⟩
def TJ(he:YXE K X e te me)(hs:starEach (e::es) X.env=(false,eval e X.env)::starEach es X.env:=by rfl):YXA K X (e::es) te me:=⟨V3 he.p hs,he.r⟩
def Qr(ha:QE K X.nox e tb mb)(hr:YXA K X es te me)(hs:starEach (e::es) X.env=(false,eval e X.env)::starEach es X.env:=by rfl):YXA K X (e::es) (PV tb te) (Ia mb me):=⟨Sa ha.p hr.p hs,Wz ha.r hr.r⟩
def WD{x1}(h:YXA K X es te me):YXE K X (.Tuple es x1 pos) te me:=⟨Yg h.p,h.r⟩
def Z4{iter:Expr}(hi:QI K X.nox tg iter wi mi)(hg:QG K X.nox tg g n)(hb:YXs K X body tb mb)(hc:X.calm=true:=by rfl)(hst:X.stack=X.env::X.outer/\X.env.frame=some X.env.locals:=by exact⟨rfl,rfl⟩)
 (hs:∀x,foldedSetIterable iter X.env x=pure x:=by intro _;rfl):YX K X (.For tg iter body [] pos) (MW wi g tb) (By mi n mb):=⟨cK hst hc hi.p hg.p hb.p hs,Rk hi.r hg.r hb.r⟩
def Z5(h:QS K X.nox st tn mn)(hx:YX K X st tx mx):YX K X st (fM tn tx) (EW mn mx):=by
 constructor
 .intro O s U H D I q;rcases q with q|q
  .exact Ow h.p O s U H D I q
  .exact hx.p O s U H D I q
 .intro ρ U H hd ls E fl hd' hR hL hm hQ;unfold EW at hm;split at hm
  .next r e=>cases hm;exact .inl (Mj h.r ρ U H hd ls E fl hd' hR hL e hQ)
  .exact .inr (hx.r ρ U H hd ls E fl hd' hR hL hm hQ)
def TH(w:Nat){j k:Nat}{st:Stmt}(G:KnX ⟨X.prog,X.w,X.K,X.mg,X.base⟩ ⟨x,st,ps,j,F⟩)(hr:Room k X.A)(ha:QA K X.nox (e::es) ta ma)
 (hjk:j<=k:=by first|decide|omega) (hg:Gl X x:=by rfl) (hdb:(x==("__debug__":Str))=false:=by decide) (he:starEach (e::es) X.env=(false,eval e X.env)::starEach es X.env:=by rfl) (hpl:(backTo pos (starEach es X.env)).any (·.1)=false:=by rfl) (hK:X.K=K:=by rfl):
 YXE K X (.Call (.Name x p) (e::es) [] pos) (tXg (Eg (spF K ps.length F) [] E0 ta)) (AB w F ma):=by
 subst hK;obtain⟨fa,fd,DA,G,hF⟩:=G;refine⟨λO s U H Q I h=>?_,Ve (Mr ha.r hF)⟩;refine jW (Fa I hg DA.mg ?_ hdb);refine PySem.W.callWith_K (h₀:=X.base) I.ok.mod.kin DA.fn.kp (thx (ha.p pos O s U H _ (I.wish _) h) (λus s1 ⟨vs,H1,I1',r,q⟩=>⟨I1'.kIn,?_⟩) λ_ _ z=>z.elim) he hpl;have I1:=I1'.unwish;dsimp only at q;rw[jI]at q;have q2:Ti X.K ps.length F vs H1 (λ_ _=>False) (λv dx H'=>Q2 Q v H'):=q.mono λv H' z a ea=>by subst ea;exact⟨a,rfl,z a rfl⟩
 have hl:us.length=ps.length:=by rw[<- r.length];exact G.len _ _ _ _ q2
 refine jS (jT (G.run X.A X.stack s1 H1 ⟨us,[]⟩ us vs _ _ (hr.mono hjk) I1.env0 (by have:=DA.bd s1 us I1.kIn (by simpa using hl);simpa using this) r q2) λres s' hq=>?_);cases res with
 |error x=>exact Ks I1 (show CXG X.prog X.w X.stack H1 s1 (λv dx H'=>Q2 Q v H') x s' from hq) λa H' ⟨a',e1,e2⟩=>by cases e1;exact e2
 |ok fl=>
  cases fl with
  |ret u=>obtain⟨_,_,_,_,_,_,_,z⟩:=hq;exact z.elim
  |next=>exact hq.elim
  |brk=>exact hq.elim
  |cont=>exact hq.elim
def Qq{j k:Nat}{st:Stmt}(G:KnX ⟨X.prog,X.w,X.K,X.mg,X.base⟩ ⟨x,st,ps,j,F⟩)(hr:Room k X.A)(ha:QA K X.nox (e::es) ta ma)
 (hjk:j<=k:=by first|decide|omega) (hg:Gl X x:=by rfl) (hdb:(x==("__debug__":Str))=false:=by decide) (he:starEach (e::es) X.env=(false,eval e X.env)::starEach es X.env:=by rfl) (hpl:(backTo pos (starEach es X.env)).any (·.1)=false:=by rfl) (hK:X.K=K:=by rfl):
 YXE K X (.Call (.Name x p) (e::es) [] pos) (tXg (Eg (spF K ps.length F) [] E0 ta)) (AX F ma):=by
 subst hK;obtain⟨fa,fd,DA,G,hF⟩:=G;refine⟨λO s U H Q I h=>?_,Ve (Ms ha.r hF)⟩;refine jW (Fa I hg DA.mg ?_ hdb);refine PySem.W.callWith_K (h₀:=X.base) I.ok.mod.kin DA.fn.kp (thx (ha.p pos O s U H _ (I.wish _) h) (λus s1 ⟨vs,H1,I1',r,q⟩=>⟨I1'.kIn,?_⟩) λ_ _ z=>z.elim) he hpl;have I1:=I1'.unwish;dsimp only at q;rw[jI]at q;have q2:Ti X.K ps.length F vs H1 (λ_ _=>False) (λv dx H'=>Q2 Q v H'):=q.mono λv H' z a ea=>by subst ea;exact⟨a,rfl,z a rfl⟩
 have hl:us.length=ps.length:=by rw[<- r.length];exact G.len _ _ _ _ q2
 refine jS (jT (G.run X.A X.stack s1 H1 ⟨us,[]⟩ us vs _ _ (hr.mono hjk) I1.env0 (by have:=DA.bd s1 us I1.kIn (by simpa using hl);simpa using this) r q2) λres s' hq=>?_);cases res with
 |error x=>exact Ks I1 (show CXG X.prog X.w X.stack H1 s1 (λv dx H'=>Q2 Q v H') x s' from hq) λa H' ⟨a',e1,e2⟩=>by cases e1;exact e2
 |ok fl=>
  cases fl with
  |ret u=>obtain⟨_,_,_,_,_,_,_,z⟩:=hq;exact z.elim
  |next=>exact hq.elim
  |brk=>exact hq.elim
  |cont=>exact hq.elim
end
abbrev Cx.en(X:Cx):EnK:=⟨X.prog,X.w,X.K,X.mg,X.base⟩
def Mq{o:Option Value}{a b:Addr}(h:o=some (.ref a))(k:o=some (.ref b)):a=b:=by rw[h]at k;cases k;rfl
def Ji(h:o=some a)(k:o=some b):a=b:=by rw[h]at k;cases k;rfl
def Hx(E:EnK)(xB:Str)(ns:List Str):Prop:=(∃B,E.mg xB=some (.ref B))/\∀nm∈ns,Ch E xB nm
def Ix(E:EnK)(B:Str)(tbl:List (Str×Bool)):Prop:=(∃C,E.mg B=some (.ref C))/\∀nm b,tbl.lookup nm=some b->(∃fs,Cl E nm fs)/\Ci E B nm b
def Iv(E:EnK)(tbl:List (Str×Bool)):Prop:=E.mg "ValueError"=none/\∀nm b,tbl.lookup nm=some b->(∃fs,Cl E nm fs)/\Cv E nm/\b=true
def Itx(E:EnK)(xs:List Str)(tbl:List (Str×Bool)):Prop:=(∀x∈xs,∃C,E.mg x=some (.ref C))/\∀nm b,tbl.lookup nm=some b->(∃fs,Cl E nm fs)/\Ct E xs nm b
def Fx(E:EnK)(ns:List Str)(f:Str):Prop:=∀nm∈ns,∃fs,Cl E nm fs/\f∈fs
def FM:List Expr->List Str
 |.Name x _::r=>x::FM r
 |_=>[]
section
variable{K:Frag}{X:Cx}{st:Stmt}{e:Expr}{es:List Expr}{te:TE}{me:ME}{pos p p1:Pos}{x:Str}
def TK{fs:List Str}{j:Nat}{ta:TA}{ma:MA}(G:Cl X.en x fs)(hr:Room j X.A)(ha:QA K X.nox (e::es) ta ma)(hjk:2<=j:=by decide)(hne:fs≠[]:=by simp)(hcalm:X.calm=true:=by rfl)(hg:Gl X x:=by rfl)
 (hdb:(x==("__debug__":Str))=false:=by decide) (hst:starEach (e::es) X.env=(false,eval e X.env)::starEach es X.env:=by rfl) (hpl:(backTo p1 (starEach es X.env)).any (·.1)=false:=by rfl) (hK:X.K=K:=by rfl):
 YX K X (.Raise (some (.Call (.Name x p) (e::es) [] p1)) none pos) (KK X.mg x fs ta) (DC x fs ma):=by
 subst hK;obtain⟨C,fI,fd,ps,mgC,cl,xc,xi,na,F,bd,l1,l2⟩:=G;exact⟨V4 xc F (hr.mono hjk) bd l1 l2 hne hcalm hg mgC ha.p hdb hst hpl,Rj (λC' e=>by obtain rfl:=Mq (o:=X.mg x) mgC e;exact cl) ha.r⟩
def Q3{st:Stmt}{j k:Nat}(D:Dn E ⟨x,st,ps,k,F⟩)(S:FnScope N ps (AA st))(hF:F=mkX ps.length N.length m)(hk:k=j+1)
 (h:∀(f:Addr) (cdv:Value) (A:Around) (outer:List Env) (s:Shared) (H:Hp) (Ek:XK),Room j (A.deeper (envOfC x (AA st) s.heap.objs.size f cdv))->∃t,YXs E.K (Dq (CXG E.P E.w) E.P E.w E.K E.mg E.base N x (AA st) f cdv A outer s H Ek) (BE st) t m):KnX E ⟨x,st,ps,k,F⟩:=by
 obtain⟨fa,fd,DA⟩:=D;subst hF;subst hk;refine⟨fa,fd,DA,?_,YO⟩;have h:=h fa;obtain⟨F,hmg,bd⟩:=DA;obtain⟨⟨oc,od,kV,doc,pm,an,cdv,ct,osl,rfl,lk,hcd⟩,kp⟩:=F;refine Qa lk hcd S (λvs H Q E h=>h.1) λA outer s H vs Q Ek hr hs=>?_;obtain⟨t,q⟩:=h cdv A outer s H Ek hr;refine⟨λ_ U H'=>t ⟨λ_ _=>False,λv H'=>∀a,v=.ref a->Ek (.ref a) none H',λ_ _=>False,λ_ _=>False⟩ U H',λO s1 σ1 H1 D I h1=>?_,?_⟩
 .refine thx (q.p O s1 σ1 H1 _ I h1) (λfl s2 z=>?_) λe s2 z=>?_
  .cases fl with
   |next=>obtain⟨_,_,_,z⟩:=z;exact z.elim
   |ret v=>obtain⟨_,_,_,_,_,z⟩:=z;exact z.elim
   |brk=>obtain⟨_,_,_,z⟩:=z;exact z.elim
   |cont=>obtain⟨_,_,_,z⟩:=z;exact z.elim
  .obtain⟨a,C,dx,tb,fs,σ',H',e0,I',r⟩:=z;exact TL (O:=O) ⟨a,C,dx,tb,fs,σ',H',e0,I'.wish _,r⟩ λa H' z=>z a rfl
 .obtain⟨hk,ρ,hd,ds,d,hd',hR,hr',hF,hQ⟩:=hs;dsimp only at hF;unfold mkX at hF;split at hF
  .next hl=>
   split at hF
   .next d1 h2 e1=>
    cases hF;rw[<- hl]at e1;exact q.r ρ _ H hd _ _ (.rt d) hd' hR (JE hr') e1 λρ' H' x R v r=>hQ ρ' H' v x R r
   .cases hF
  .cases hF
def XQ{i:Nat}{ns:List Str}{xB n:Str}{pB ph:Pos}{body suite:List Stmt}{b0:Stmt}{tb tx th:TS}{mb mx mh:MS}(hc:Hx X.en xB ns)(hb:QSs K X.nox body tb mb)(hx:YXs K X body tx mx)(hh:∀a,QSs K (X.hand (.ref a)) (b0::suite) th mh)
 (hN:X.N.Nodup) (hi:X.N[i]?=some n) (hl:X.env.scope.names.lookup n=some .local:=by rfl) (hst:X.stack=X.env::X.outer/\X.env.frame=some X.env.locals:=by exact⟨rfl,rfl⟩) (hg:Gl X xB:=by rfl) (hdb:(xB==("__debug__":Str))=false:=by decide) (hK:X.K=K:=by rfl):
 QS K X (.Try body [.ExceptHandler (some (.Name xB pB)) (some n) (b0::suite) ph] [] [] pos) (PU X.K X.mg xB tb tx th (some i)) (FO ns (some i) mb mx mh):=by
 subst hK;obtain⟨⟨B,hm⟩,hc⟩:=hc;refine⟨Xp hst hb.p hx.p hg hm hN hi hl (λa=>(hh a).p) hdb,Wi (λnm hn B' C h1 h2=>?_) hb.r hx.r (hh 0).r⟩;obtain⟨B2,C2,q1,q2,q3⟩:=hc nm hn;obtain rfl:=Mq (o:=X.mg xB) q1 h1;obtain rfl:=Ji q2 h2;exact q3
def N2(hg:Gl X x)(hm:X.mg x=some (.ref C))(hd:(x==("__debug__":Str))=false):PE X (.Name x pos) (Lx X.mg x):=λ_ _ _ H _ I h=>Fa I hg hm ⟨.ref C,H,I,rfl,h C hm⟩ hd
def GlN(X:Cx):List Expr->Prop
 |.Name x p::r=>(Gl X x/\(x==("__debug__":Str))=false/\starEach (.Name x p::r) X.env=(false,eval (.Name x p) X.env)::starEach r X.env)/\GlN X r
 |[]=>True
 |_=>False
theorem N4:∀{es:List Expr},GlN X es->(∀x∈FM es,∃C,X.mg x=some (.ref C))->PA X es (Hs X.mg (FM es))
 |[],_,_=>C7
 |e::es,hn,hx=>by
  cases e with
  |Name x p=>
   obtain⟨⟨g,d,h⟩,hn⟩:=(show(Gl X x/\(x==("__debug__":Str))=false/\starEach (.Name x p::es) X.env=(false,eval (.Name x p) X.env)::starEach es X.env)/\GlN X es from hn)
   obtain⟨C,hm⟩:=hx x (by simp[FM]);exact B6 (N2 g hm d) (N4 hn (λy hy=>hx y (by simp[FM,hy]))) h
  |_=>exact(show False from hn).elim
def af{tbl:List (Str×Bool)}{B:Str}{pB:Pos}(hC:Ix X.en B tbl)(bI:X.mg "isinstance"=none)(he:QE K X e te me)(gI:Gl X "isinstance":=by rfl)(gB:Gl X B:=by rfl)(dB:(B==("__debug__":Str))=false:=by decide)
 (s1:starEach [e,.Name B pB] X.env=(false,eval e X.env)::starEach [.Name B pB] X.env:=by rfl) (hK:X.K=K:=by rfl):
 QE K X (.Call (.Name "isinstance" p) [e,.Name B pB] [] pos) (tCB (Mx K) (Aq te (Aq (Lx X.mg B) BS))) (FC tbl me):=by
 subst hK;obtain⟨⟨C0,hm⟩,hC⟩:=hC;refine⟨ER Nr gI bI JX (B6 he.p (B6 (N2 gB hm dB) C7) s1) (by decide) (by decide) s1,Zt (λnm b hb C B' h1 h2=>?_) he.r⟩;obtain⟨⟨fs,cl⟩,B2,C2,q1,q2,q3⟩:=hC nm b hb;obtain rfl:=Mq (o:=X.mg B) q1 h2;have:=(cl.k C h1).1;obtain rfl:=Ji q2 h1;exact⟨this,q3⟩
def ag{pB:Pos}(hC:Iv X.en tbl)(bI:X.mg "isinstance"=none)(he:QE K X e te me)(gI:Gl X "isinstance":=by rfl)(gB:Gl X "ValueError":=by rfl)
 (s1:starEach [e,.Name "ValueError" pB] X.env=(false,eval e X.env)::starEach [.Name "ValueError" pB] X.env:=by rfl) (hK:X.K=K:=by rfl):
 QE K X (.Call (.Name "isinstance" p) [e,.Name "ValueError" pB] [] pos) (tCB (Mx K) (Aq te (Aq (tC (.ty "ValueError")) BS))) (FC tbl me):=by
 subst hK;obtain⟨hV,hC⟩:=hC;refine⟨ER Nr gI bI JX (B6 he.p (B6 (dw gB hV) C7) s1) (by decide) (by decide) s1,Zu (λnm b hb C h1=>?_) he.r⟩;obtain⟨⟨fs,cl⟩,⟨C2,q1,q2,q3⟩,rfl⟩:=hC nm b hb;have:=(cl.k C h1).1;obtain rfl:=Ji q2 h1;exact⟨this,q3⟩
theorem Mp:∀{as bs:List Addr},as.map (λc=>some (Value.ref c))=bs.map (λc=>some (Value.ref c))->as=bs
 |[],[],_=>rfl
 |[],_::_,h=>by cases h
 |_::_,[],h=>by cases h
 |a::as,b::bs,h=>by
  rw[jc,jc]at h;obtain⟨h1,h2⟩:=List.cons.inj h;cases h1;rw[Mp h2]
def Xj{k1}{pB:Pos}(hC:Itx X.en (FM es) tbl)(bI:X.mg "isinstance"=none)(he:QE K X e te me)(hn:GlN X es:=by repeat' first|exact True.intro|refine⟨⟨rfl,by decide,rfl⟩,?_⟩)(hx:(FM es).length<=1000:=by decide)(gI:Gl X "isinstance":=by rfl)
 (s1:starEach [e,.Tuple es k1 pB] X.env=(false,eval e X.env)::starEach [.Tuple es k1 pB] X.env:=by rfl) (s2:starEach [.Tuple es k1 pB] X.env=(false,eval (.Tuple es k1 pB) X.env)::starEach [] X.env:=by rfl) (hK:X.K=K:=by rfl):
 QE K X (.Call (.Name "isinstance" p) [e,.Tuple es k1 pB] [] pos) (tCB (Pv K) (Aq te (Aq (MQ (Hs X.mg (FM es))) BS))) (FC tbl me):=by
 subst hK;obtain⟨hB,hC⟩:=hC;refine⟨ER T2 gI bI JX (B6 he.p (B6 (SD (N4 hn hB)) C7 s2) s1) (by decide) (by decide) s1,X4 hx (λnm b hb C cs h1 h2=>?_) he.r⟩;obtain⟨⟨fs,cl⟩,cs2,C2,q1,q2,q3⟩:=hC nm b hb;have:=(cl.k C h1).1;obtain rfl:=Ji q2 h1;obtain rfl:=Mp ((show(FM es).map X.mg=_ from q1).symm.trans h2);exact⟨this,q3⟩
def am(hC:Fx X.en ns f)(he:QE K X e te me)(hb:attributeBase e f X.env (eval e X.env)=eval e X.env:=by rfl)(hK:X.K=K:=by rfl):QE K X (.Attribute e f pos) (TZ K te f) (JO ns f me):=by
 subst hK;refine⟨bJ he.p hb,Zv (λnm hn C h1=>?_) he.r⟩;obtain⟨fs,cl,hf⟩:=hC nm hn;obtain⟨k1,k2⟩:=cl.k C h1;exact⟨k1,k2 f hf⟩
end
section
variable{m1 n1 m2 n2:MS}{mf:ME}
def Dx{nm:Str}:Dj (DC nm fs ma) Br:=⟨λ_ _ _ _ _=>rfl,λls hd fl x e n=>by
 obtain⟨⟨ds,y⟩,e1,e2⟩:=gV e;dsimp only at e2;split at e2
 .cases e2;exact absurd rfl (n _)
 .cases e2⟩
theorem Kf(h:Dj m mn):∀(ds:List D) (ls:Ls) (hd:Hd),(∀d x,B3 n m g ds ls hd=some (.rt d,x)->B3 n mn g ds ls hd=none)/\∀fl x,B3 n m g ds ls hd=some (fl,x)->(∀d,fl≠.rt d)->B3 n mn g ds ls hd=some (fl,x)
 |[],ls,hd=>⟨(λd x e=>by unfold B3 at e;cases e),λfl x e _=>by unfold B3 at e ⊢;exact e⟩
 |d0::r,ls,hd=>by
  have ih:=Kf (n:=n) (g:=g) h r;constructor
  .intro d x e;unfold B3 at e ⊢;obtain⟨ls1,e1,e⟩:=gV e;obtain⟨⟨fl,y⟩,e2,e⟩:=gV e;rw[e1,bind_some];cases fl with
   |rt d1=>rw[h.rt _ _ _ _ e2];rfl
   |nx l=>
    rw[h.nx _ _ _ _ e2 (λd q=>by cases q),bind_some];dsimp only at e ⊢;split at e
    .next c=>rw[j6 c];exact(ih l y).1 d x e
    .cases e
   |ct l=>
    rw[h.nx _ _ _ _ e2 (λd q=>by cases q),bind_some];dsimp only at e ⊢;split at e
    .next c=>rw[j6 c];exact(ih l y).1 d x e
    .cases e
   |bk l=>cases e
  .intro fl x e nn;unfold B3 at e ⊢;obtain⟨ls1,e1,e⟩:=gV e;obtain⟨⟨fl1,y⟩,e2,e⟩:=gV e;rw[e1,bind_some];cases fl1 with
   |rt d1=>cases e;exact absurd rfl (nn d1)
   |nx l=>
    rw[h.nx _ _ _ _ e2 (λd q=>by cases q),bind_some];dsimp only at e ⊢;split at e
    .next c=>rw[j6 c];exact(ih l y).2 fl x e nn
    .cases e
   |ct l=>
    rw[h.nx _ _ _ _ e2 (λd q=>by cases q),bind_some];dsimp only at e ⊢;split at e
    .next c=>rw[j6 c];exact(ih l y).2 fl x e nn
    .cases e
   |bk l=>
    rw[h.nx _ _ _ _ e2 (λd q=>by cases q),bind_some];exact e
def K3(h:Dj m mn):Dj (By mi n m) (By mi n mn):=by
 constructor
 .intro ls hd d x e;obtain⟨p,e1,e2⟩:=gV e;unfold By;rw[e1];exact(Kf h _ _ _).1 d x e2
 .intro ls hd fl x e n;obtain⟨p,e1,e2⟩:=gV e;unfold By;rw[e1];exact(Kf h _ _ _).2 fl x e2 n
section
variable{Q:Fl->Hd->Prop}{QE:D->Hd->Prop}{nm:Str}{fs:List Str}
def EK(h:WA ma ls hd λds x=>ds.length=fs.length/\Q (.rt (.op nm fs ds)) x):WS (DC nm fs ma) ls hd Q:=by
 obtain⟨ds,x,e,l,q⟩:=h;refine⟨_,x,?_,q⟩;unfold DC;rw[e];exact j6 l
def TN(h:WS mb ls hd Q):WS (FO ns i mb mx mh) ls hd Q:=by
 obtain⟨fl,x,e,q⟩:=h;refine⟨fl,x,?_,q⟩;unfold FO;rw[e]
def TM(dj:Dj mx mb)(h:WS mx ls hd λfl x=>∃nm fs ds,fl=.rt (.op nm fs ds)/\nm∈ns/\WS mh (hLs ls.length i (.op nm fs ds)) x λf2 y=>∃l2,f2=.nx l2/\Q (.nx (uLs i l2)) y):WS (FO ns i mb mx mh) ls hd Q:=by
 obtain⟨fl,x,e,nm,fs,ds,rfl,hn,f2,y,e2,l2,rfl,q⟩:=h;refine⟨_,y,?_,q⟩;unfold FO;rw[dj.rt _ _ _ _ e,e];dsimp only;rw[j6 hn,e2]
def MK{tbl:List (Str×Bool)}(h:WE me ls hd λd x=>∃nm fs ds b,d=.op nm fs ds/\tbl.lookup nm=some b/\QE (.im (.bl b)) x):WE (FC tbl me) ls hd QE:=by
 obtain⟨d,x,e,nm,fs,ds,b,rfl,hb,q⟩:=h;refine⟨_,x,?_,q⟩;unfold FC;rw[e];show(tbl.lookup nm).map _=_;rw[hb];rfl
def Qw(h:WE me ls hd λd x=>∃nm fs ds z,d=.op nm fs ds/\nm∈ns/\ds.length=fs.length/\(fs.zip ds).lookup f=some z/\QE z x):WE (JO ns f me) ls hd QE:=by
 obtain⟨d,x,e,nm,fs,ds,z,rfl,hn,hl,hz,q⟩:=h;refine⟨_,x,?_,q⟩;unfold JO;rw[e];dsimp only[bind_some];rw[j6 ⟨hn,hl⟩,hz];rfl
end
end
def IK{X F:List D->Hd->Option (D×Hd)}(h:DjF X F):DjE (AX X ma) (AX F ma):=by
 intro ls hd z e;obtain⟨p,e1,e2⟩:=gV e;unfold AX;rw[e1];exact h _ _ _ e2
def Ju(i j:Int):Prop:=i.natAbs.log2<100000/\j.natAbs.log2<100000
def P7{i:Int}(h:i.natAbs.log2<100000):Builtin.Int.intBits i<=2^20:=by
 have e:(2:Nat)^20=1048576:=by decide
 unfold Builtin.Int.intBits;split<;>omega
def YG:OpR X (binaryOp .Mult) (rI Ju λi j=>.int (i*j)):=opI λ_ _ _ _ _ _ _ hc q=>mul_int q (IntMulOk.of_bits (P7 hc.1) (P7 hc.2))
open Classical in
abbrev Ii:D->D->Hd->Option (D×Hd):=fI λi j=>if Ju i j then some (.int (i*j))else none
def X9{K:Frag}:RB K (rI Ju λi j=>.int (i*j)) Ii:=Mu λi j z h=>by
 split at h
 .next q=>cases h;exact⟨q,λ_=>by simp[RI]⟩
 .cases h
def KF{i j:Int}{QE:D->Hd->Prop}(c:Ju i j)(q:QE (.im (.int (i*j))) hd):WP (Ii (.im (.int i)) (.im (.int j)) hd) QE:=⟨_,_,by simp[c],q⟩
end L2
namespace An
open PySem L2 Bd
inductive Tv where
 |non|bl (b:Bool)|int (i:Int)|str (x:Str)|tup (l:List Tv)|lst (l:List Tv)
mutual
def Is(n:Nat)(hd:Hd):Tv->D->Prop
 |.non,d=>d=.im .non
 |.bl b,d=>d=.im (.bl b)
 |.int i,d=>d=.im (.int i)
 |.str x,d=>d=.im (.str x)
 |.tup ts,d=>∃ds,d=AT ds/\Iss n hd ts ds
 |.lst ts,d=>∃k ds,d=.mu k/\2<=k/\k<n/\hd[k]?=some (.lst ds)/\Iss n hd ts ds
def Iss(n:Nat)(hd:Hd):List Tv->List D->Prop
 |[],ds=>ds=[]
 |t::ts,ds=>∃d r,ds=d::r/\Is n hd t d/\Iss n hd ts r
end
section
variable{n n':Nat}
mutual
theorem Is.mono(hn:n<=n')(hk:∀k,2<=k->k<n->hd'[k]?=hd[k]?):∀{t:Tv} {d:D},Is n hd t d->Is n' hd' t d
 |.non,d,h=>by simpa only[Is]using h
 |.bl b,d,h=>by simpa only[Is]using h
 |.int i,d,h=>by simpa only[Is]using h
 |.str x,d,h=>by simpa only[Is]using h
 |.tup ts,d,h=>by
  simp only[Is]at h ⊢;obtain⟨ds,e,q⟩:=h;exact⟨ds,e,Iss.mono hn hk q⟩
 |.lst ts,d,h=>by
  simp only[Is]at h ⊢;obtain⟨k,ds,e,k2,kn,e2,q⟩:=h;exact⟨k,ds,e,k2,jl kn hn,(hk k k2 kn).trans e2,Iss.mono hn hk q⟩
theorem Iss.mono(hn:n<=n')(hk:∀k,2<=k->k<n->hd'[k]?=hd[k]?):∀{ts:List Tv} {ds:List D},Iss n hd ts ds->Iss n' hd' ts ds
 |[],ds,h=>by simpa only[Iss]using h
 |t::ts,ds,h=>by
  simp only[Iss]at h ⊢;obtain⟨d,r,e,q,z⟩:=h;exact⟨d,r,e,Is.mono hn hk q,Iss.mono hn hk z⟩
end
theorem Iss.len:∀{ts:List Tv} {ds:List D},Iss n hd ts ds->ds.length=ts.length
 |[],ds,h=>by simp only[Iss]at h;subst h;rfl
 |t::ts,ds,h=>by
  simp only[Iss]at h;obtain⟨d,r,rfl,q,z⟩:=h;simp[Iss.len z]
theorem Iss.app:∀{ts us:List Tv} {ds es:List D},Iss n hd ts ds->Iss n hd us es->Iss n hd (ts++us) (ds++es)
 |[],us,ds,es,h,h'=>by simp only[Iss]at h;subst h;simpa using h'
 |t::ts,us,ds,es,h,h'=>by
  simp only[Iss]at h;obtain⟨d,r,rfl,q,z⟩:=h;rw[jP,jP];simp only[Iss];exact⟨d,r++es,rfl,q,z.app h'⟩
def Iss.nil:Iss n hd [] []:=by simp only[Iss]
def Iss.cons(h:Is n hd t d)(r:Iss n hd ts ds):Iss n hd (t::ts) (d::ds):=by simp only[Iss];exact⟨d,ds,rfl,h,r⟩
def Iss.one(h:Is n hd t d):Iss n hd [t] [d]:=.cons h .nil
theorem Iss.drop:∀(k:Nat) {ts:List Tv} {ds:List D},Iss n hd ts ds->Iss n hd (ts.drop k) (ds.drop k)
 |0,ts,ds,h=>by simpa using h
 |k+1,[],ds,h=>by simp only[Iss]at h;subst h;simpa using Iss.nil
 |k+1,t::ts,ds,h=>by
  simp only[Iss]at h;obtain⟨d,r,rfl,q,z⟩:=h;simpa using Iss.drop k z
theorem Iss.take:∀(k:Nat) {ts:List Tv} {ds:List D},Iss n hd ts ds->Iss n hd (ts.take k) (ds.take k)
 |0,ts,ds,h=>by simpa using Iss.nil
 |k+1,[],ds,h=>by simp only[Iss]at h;subst h;simpa using Iss.nil
 |k+1,t::ts,ds,h=>by
  simp only[Iss]at h;obtain⟨d,r,rfl,q,z⟩:=h;simpa using Iss.cons q (Iss.take k z)
theorem Iss.rev:∀{ts:List Tv} {ds:List D},Iss n hd ts ds->Iss n hd ts.reverse ds.reverse
 |[],ds,h=>by simp only[Iss]at h;subst h;simpa using Iss.nil
 |t::ts,ds,h=>by
  simp only[Iss]at h;obtain⟨d,r,rfl,q,z⟩:=h;rw[jY,jY];exact z.rev.app (.one q)
theorem Iss.get:∀{ts:List Tv} {ds:List D} {k:Nat} {t:Tv},Iss n hd ts ds->ts[k]?=some t->∃d,ds[k]?=some d/\Is n hd t d
 |[],ds,k,t,h,e=>by simp at e
 |u::ts,ds,0,t,h,e=>by
  simp only[Iss]at h;obtain⟨d,r,rfl,q,z⟩:=h;simp at e;subst e;exact⟨d,rfl,q⟩
 |u::ts,ds,k+1,t,h,e=>by
  simp only[Iss]at h;obtain⟨d,r,rfl,q,z⟩:=h;exact Iss.get (k:=k) z (by simpa using e)
theorem Iss.tup(h:Iss n hd ts ds):Is n hd (.tup ts) (AT ds):=by simp only[Is];exact⟨ds,rfl,h⟩
def Is.view(h:Is n hd (.tup ts) d):∃ds,AS d=some ds/\Iss n hd ts ds:=by
 simp only[Is]at h;obtain⟨ds,rfl,q⟩:=h;exact⟨ds,AY ds,q⟩
def ty(T:Ty):Tv->Bool
 |.non=>false
 |.bl _=>decide (T=.int∨T=.bool)
 |.int _=>decide (T=.int)
 |.str _=>decide (T=.str)
 |.tup _=>decide (T=.tuple)
 |.lst _=>decide (T=.list)
theorem Is.isD(T:Ty)(h:Is n hd t d):isD T hd d=some (ty T t):=by
 cases t with
 |non=>simp only[Is]at h;subst h;rfl
 |bl b=>simp only[Is]at h;subst h;rfl
 |int b=>simp only[Is]at h;subst h;rfl
 |str b=>simp only[Is]at h;subst h;rfl
 |tup ts=>
  simp only[Is]at h;obtain⟨ds,rfl,q⟩:=h;unfold AT;cases BN ds<;>rfl
 |lst ts=>
  simp only[Is]at h;obtain⟨k,ds,rfl,_,_,e,_⟩:=h;simp[L2.isD,e,ty]
mutual
def pyT:Tv->PyData
 |.non=>.none
 |.bl b=>.bool b
 |.int i=>.int i
 |.str x=>.str x
 |.tup ts=>.tuple (HB ts)
 |.lst ts=>.list (HB ts)
def HB:List Tv->List PyData
 |[]=>[]
 |t::ts=>pyT t::HB ts
end
mutual
theorem Is.py:∀{t:Tv} {i:I},Is n hd t (.im i)->i.py=pyT t
 |.non,i,h=>by simp only[Is]at h;cases h;rfl
 |.bl b,i,h=>by simp only[Is]at h;cases h;rfl
 |.int b,i,h=>by simp only[Is]at h;cases h;rfl
 |.str b,i,h=>by simp only[Is]at h;cases h;rfl
 |.tup ts,i,h=>by
  simp only[Is]at h;obtain⟨ds,e,q⟩:=h;unfold AT at e;cases z:BN ds with
  |none=>rw[z]at e;cases e
  |some is=>
   rw[z]at e;cases e;rw[Ed z]at q;rw[I.py,pyT,Iss.pys q]
 |.lst ts,i,h=>by simp only[Is]at h;obtain⟨k,ds,e,_⟩:=h;cases e
theorem Iss.pys:∀{ts:List Tv} {is:List I},Iss n hd ts (is.map D.im)->I.pys is=HB ts
 |[],is,h=>by
  simp only[Iss]at h;have:is=[]:=by simpa using h
  subst this;rfl
 |t::ts,is,h=>by
  simp only[Iss]at h;obtain⟨d,r,e,q,z⟩:=h;cases is with
  |nil=>cases e
  |cons i is=>
   rw[jc]at e;obtain⟨rfl,rfl⟩:=List.cons.inj e;rw[I.pys,HB,Is.py q,Iss.pys z]
end
mutual
def dep:Tv->Nat
 |.non=>0
 |.bl _=>0
 |.int _=>0
 |.str _=>0
 |.tup ts=>DR ts+1
 |.lst ts=>DR ts+1
def DR:List Tv->Nat
 |[]=>0
 |t::ts=>max (dep t) (DR ts)
end
def Hz(m:Nat)(i:I):pyN m hd (.im i)=some i.py:=by cases m<;>rfl
mutual
theorem Is.pyN:∀{t:Tv} {d:D} {m:Nat},Is n hd t d->dep t<=m->pyN m hd d=some (pyT t)
 |.non,d,m,h,hm=>by simp only[Is]at h;subst h;exact Hz m _
 |.bl b,d,m,h,hm=>by simp only[Is]at h;subst h;exact Hz m _
 |.int i,d,m,h,hm=>by simp only[Is]at h;subst h;exact Hz m _
 |.str x,d,m,h,hm=>by simp only[Is]at h;subst h;exact Hz m _
 |.tup ts,d,m,h,hm=>by
  have h0:=h;simp only[Is]at h;obtain⟨ds,e,q⟩:=h;cases m with
  |zero=>simp[dep]at hm
  |succ m=>
   unfold AT at e;cases z:BN ds with
   |some is=>rw[z]at e;subst e;rw[Hz,Is.py h0]
   |none=>
    rw[z]at e;subst e;show(FH (ds.map (L2.pyN m hd))).map PyData.tuple=_;rw[Iss.pyN q (by simp[dep]at hm;omega),pyT];rfl
 |.lst ts,d,m,h,hm=>by
  simp only[Is]at h;obtain⟨k,ds,rfl,_,_,e,q⟩:=h;cases m with
  |zero=>simp[dep]at hm
  |succ m=>
   show(match hd[k]? with|some (.lst ds)=>(FH (ds.map (L2.pyN m hd))).map PyData.list|_=>none)=_;rw[e];show(FH (ds.map (L2.pyN m hd))).map PyData.list=_;rw[Iss.pyN q (by simp[dep]at hm;omega),pyT];rfl
theorem Iss.pyN:∀{ts:List Tv} {ds:List D} {m:Nat},Iss n hd ts ds->DR ts<=m->FH (ds.map (L2.pyN m hd))=some (HB ts)
 |[],ds,m,h,hm=>by simp only[Iss]at h;subst h;rfl
 |t::ts,ds,m,h,hm=>by
  simp only[Iss]at h;obtain⟨d,r,rfl,q,z⟩:=h;simp only[DR]at hm;rw[jc,Is.pyN q (by omega)];show(FH (r.map (L2.pyN m hd))).map (pyT t::·)=_;rw[Iss.pyN z (by omega),HB];rfl
end
mutual
def Gq(m:Nat):Tv->Prop
 |.non=>True
 |.bl _=>True
 |.int i=>i.natAbs<=m
 |.str x=>∀c∈x.cps.toList,c<128
 |.tup ts=>Gqs m ts
 |.lst ts=>Gqs m ts
def Gqs(m:Nat):List Tv->Prop
 |[]=>True
 |t::ts=>Gq m t/\Gqs m ts
end
mutual
def wt:Tv->Nat
 |.non=>1
 |.bl _=>1
 |.int i=>i.natAbs.log2+2
 |.str x=>x.length+1
 |.tup ts=>wts ts+1
 |.lst ts=>wts ts+1
def wts:List Tv->Nat
 |[]=>0
 |t::ts=>wt t+wts ts
end
theorem gds_iff{m:Nat}:∀{ts:List Tv},Gqs m ts↔∀t∈ts,Gq m t
 |[]=>by simp[Gqs]
 |t::ts=>by simp[Gqs,gds_iff]
theorem GY:∀(ts us:List Tv),wts (ts++us)=wts ts+wts us
 |[],us=>by simp[wts]
 |t::ts,us=>by simp[wts,GY ts us];omega
theorem P0:∀{ts:List Tv},t∈ts->dep t<=DR ts
 |u::ts,h=>by
  simp only[DR];rcases mem_cons.mp h with rfl|h
  .omega
  .have:=P0 h;omega
def Il{k:Nat}(h:∀t∈ts,dep t<=k):DR ts<=k:=by
 induction ts with
 |nil=>simp[DR]
 |cons t ts ih=>
  simp only[DR];have h1:=h t (by simp);have h2:=ih λu hu=>h u (by simp[hu]);omega
mutual
theorem Gq.mono{m m':Nat}(h:m<=m'):∀{t:Tv},Gq m t->Gq m' t
 |.non,q=>trivial
 |.bl _,q=>trivial
 |.int i,q=>by simp only[Gq]at q ⊢;omega
 |.str x,q=>by simpa only[Gq]using q
 |.tup ts,q=>by simp only[Gq]at q ⊢;exact Gqs.mono h q
 |.lst ts,q=>by simp only[Gq]at q ⊢;exact Gqs.mono h q
theorem Gqs.mono{m m':Nat}(h:m<=m'):∀{ts:List Tv},Gqs m ts->Gqs m' ts
 |[],q=>trivial
 |t::ts,q=>by simp only[Gqs]at q ⊢;exact⟨Gq.mono h q.1,Gqs.mono h q.2⟩
end
end
end An
namespace An
open PySem L2 Bd
section
variable{n n':Nat}{hd':Hd}
mutual
def ofI:I->Tv
 |.non=>.non
 |.bl b=>.bl b
 |.int i=>.int i
 |.str x=>.str x
 |.tup l=>.tup (Kb l)
def Kb:List I->List Tv
 |[]=>[]
 |i::l=>ofI i::Kb l
end
mutual
theorem QK:∀(i:I),Is n hd (ofI i) (.im i)
 |.non=>by simp only[ofI,Is]
 |.bl _=>by simp only[ofI,Is]
 |.int _=>by simp only[ofI,Is]
 |.str _=>by simp only[ofI,Is]
 |.tup l=>by
  simp only[ofI,Is];exact⟨l.map D.im,(Cb l).symm,SV l⟩
theorem SV:∀(l:List I),Iss n hd (Kb l) (l.map D.im)
 |[]=>Iss.nil
 |i::l=>by rw[Kb,jc];exact .cons (QK i) (SV l)
end
theorem JJ:∀l:List I,Kb l=l.map ofI
 |[]=>rfl
 |i::l=>by rw[Kb,JJ l];rfl
def tl:Tv->Nat
 |.tup l=>l.length
 |.lst l=>l.length
 |_=>0
structure Bo(m w dp l:Nat)(t:Tv):Prop where
 gd:Gq m t
 wt:wt t<=w
 dp:dep t<=dp
 tl:tl t<=l
theorem Bo.mono{m w dp l m' w' dp' l':Nat}(h:Bo m w dp l t)(h1:m<=m')(h2:w<=w')(h3:dp<=dp')(h4:l<=l'):Bo m' w' dp' l' t:=⟨h.gd.mono h1,jf h.wt h2,jf h.dp h3,jf h.tl h4⟩
def ED{m w dp l:Nat}(h1:∀t∈ts,Gq m t)(h2:wts ts+1<=w)(h3:DR ts+1<=dp)(h4:ts.length<=l):Bo m w dp l (.tup ts):=⟨by simp only[Gq];exact gds_iff.mpr h1,by simpa only[An.wt]using h2,by simpa only[dep]using h3,by simpa only[An.tl]using h4⟩
def Nx{m w dp l:Nat}(h1:∀t∈ts,Gq m t)(h2:wts ts+1<=w)(h3:DR ts+1<=dp)(h4:ts.length<=l):Bo m w dp l (.lst ts):=⟨by simp only[Gq];exact gds_iff.mpr h1,by simpa only[An.wt]using h2,by simpa only[dep]using h3,by simpa only[An.tl]using h4⟩
def IP{m w dp l:Nat}{i:Int}(h1:i.natAbs<=m)(h2:i.natAbs.log2+2<=w):Bo m w dp l (.int i):=⟨by simpa only[Gq]using h1,by simpa only[An.wt]using h2,by simp[dep],by simp[An.tl]⟩
def Nv{m w dp l:Nat}{x:Str}(h1:∀c∈x.cps.toList,c<128)(h2:x.length+1<=w):Bo m w dp l (.str x):=⟨by simpa only[Gq]using h1,by simpa only[An.wt]using h2,by simp[dep],by simp[An.tl]⟩
def M8{m w dp l:Nat}{b:Bool}(h2:1<=w):Bo m w dp l (.bl b):=⟨trivial,by simpa only[An.wt]using h2,by simp[dep],by simp[An.tl]⟩
def Nw{m w dp l:Nat}(h2:1<=w):Bo m w dp l .non:=⟨trivial,by simpa only[An.wt]using h2,by simp[dep],by simp[An.tl]⟩
theorem Bo.tup{m w dp l:Nat}(h:Bo m w dp l (.tup ts)):(∀t∈ts,Gq m t)/\wts ts+1<=w/\DR ts+1<=dp/\ts.length<=l:=by
 have h1:=h.gd;have h2:=h.wt;have h3:=h.dp;have h4:=h.tl;simp only[Gq]at h1;simp only[An.wt]at h2;simp only[dep]at h3;simp only[An.tl]at h4;exact⟨gds_iff.mp h1,h2,h3,h4⟩
def fB{r:Int}(h:Iss n hd ts ds)(h0:0<=r)(h1:r<ts.length):∃d t,atI ds r=some d/\t∈ts/\Is n hd t d:=by
 obtain⟨k,rfl⟩:∃k:Nat,r=(k:Int):=⟨r.toNat,by omega⟩
 have hk:k<ts.length:=by omega
 obtain⟨d,e,q⟩:=h.get (List.getElem?_eq_getElem hk);exact⟨d,_,Cs rfl e,List.getElem_mem hk,q⟩
def sIx_nat(l d k:Nat):HT.sIx l d (some (k:Int))=min k l:=by
 unfold HT.sIx;have h:¬ ((k:Int)<0):=by omega
 simp[h]
def So(xs:List D)(k:Nat):CK xs none (some (k:Int))=xs.take k:=by
 unfold CK;rw[sIx_nat,show HT.sIx xs.length 0 none=0 from rfl,List.drop_zero,sub_zero,<- List.take_eq_take_min]
def Sq(xs:List D)(k:Nat):CK xs (some (k:Int)) none=xs.drop k:=by
 unfold CK;rw[sIx_nat,show HT.sIx xs.length xs.length none=xs.length from rfl,List.take_of_length_le (by simp)];by_cases h:k<=xs.length
 .rw[Nat.min_eq_left h]
 .rw[Nat.min_eq_right (by omega),ky (j9 _),ky (by omega)]
end
section
variable{QE:D->Hd->Prop}
def T9(h:AS d=some xs):HK d e hd=none:=by
 cases d with
 |im i=>cases i with
  |tup is=>rfl
  |_=>cases h
 |tm _=>rfl
 |mu _=>cases h
 |ro _=>cases h
 |op _ _ _=>cases h
def FU(h1:AS d=some xs)(h2:AS e=some ys)(hn:xs≠[])(hl:xs.length+ys.length<=1000000)(q:QE (AT (xs++ys)) hd):WP (AN d e hd) QE:=by
 refine⟨_,_,?_,q⟩;show D5 HK DV d e hd=_;unfold D5;rw[T9 h1];show DV d e hd=_;unfold DV;rw[h1,bind_some,h2,bind_some,j6 ⟨hn,Ai hl⟩]
def wp_catN(h1:AS d=some xs)(h2:AS e=some ys)(hl:xs.length+ys.length<=1000000)(q:QE (AT (xs++ys)) hd):WP (Bg d e hd) QE:=by
 by_cases hn:xs=[]
 .subst hn;refine⟨_,_,?_,q⟩;show D5 AN El d e hd=_;unfold D5;have:AN d e hd=none:=by
   show D5 HK DV d e hd=_;unfold D5;rw[T9 h1];show DV d e hd=_;unfold DV;rw[h1,bind_some,h2,bind_some,j7 (λc=>c.1 rfl)]
  rw[this];show El d e hd=_;unfold El;rw[h1,bind_some,h2,bind_some,j6 rfl];rfl
 .obtain⟨z,x,e1,q1⟩:=FU (hd:=hd) (QE:=QE) h1 h2 hn hl q;refine⟨z,x,?_,q1⟩;show D5 AN El d e hd=_;unfold D5;rw[e1]
def IR{k:Nat}(hk:k<=1000)(q:QE (.im (.int ((10:Int)^k))) hd):WP (IG (.im (.int 10)) (.im (.int (k:Int))) hd) QE:=by
 have:M3 10 (k:Int):=⟨by omega,by omega,by decide⟩
 exact⟨_,_,by simp[this],q⟩
end
end An
namespace An
open PySem L2 Bd
section
variable{QE:D->Hd->Prop}{i j k:Nat}
def Ly(h1:ls[i]?=some (some d))(hv:AS d=some ds)(h2:ls[j]?=some (some (.im (.int (k:Int)))))(q:QE (AT (ds.take k)) hd):WE (Bw (A2 i) Av (BK (A2 j))) ls hd QE:=
 Fi (A0 h1 (Gw (EL (A0 h2 ⟨_,rfl,ds,hv,by rw[So];exact q⟩))))
def dH(h1:ls[i]?=some (some d))(hv:AS d=some ds)(h2:ls[j]?=some (some (.im (.int (k:Int)))))(q:QE (AT (ds.drop k)) hd):WE (Bw (A2 i) (BK (A2 j)) Av) ls hd QE:=
 Fi (A0 h1 (EL (A0 h2 ⟨_,rfl,Gw ⟨ds,hv,by rw[Sq];exact q⟩⟩)))
def ZM(h1:ls[i]?=some (some d))(hv:AS d=some ds)(h2:ls[j]?=some (some (.im (.int (k:Int)))))(q:QE (AT (ds.take (k+1))) hd):WE (Bw (A2 i) Av (BK (mOp AN (A2 j) (mC (.int 1))))) ls hd QE:=
 Fi (A0 h1 (Gw (EL (A5 (A0 h2 (A9 (Az ⟨_,rfl,ds,hv,by rw[show((k:Int)+1)=((k+1:Nat):Int) by omega,So];exact q⟩)))))))
def Jk{c:Nat}(h1:ls[i]?=some (some d))(hv:AS d=some ds)(h2:ls[j]?=some (some (.im (.int (k:Int)))))(q:QE (AT (ds.drop (k+c))) hd):WE (Bw (A2 i) (BK (mOp AN (A2 j) (mC (.int (c:Int))))) Av) ls hd QE:=
 Fi (A0 h1 (EL (A5 (A0 h2 (A9 (Az ⟨_,rfl,Gw ⟨ds,hv,by rw[show((k:Int)+(c:Int))=((k+c:Nat):Int) by omega,Sq];exact q⟩⟩))))))
end
def Qs(ts:List Tv)(k:Nat):wts (ts.take k)+wts (ts.drop k)=wts ts:=by rw[<- GY,List.take_append_drop]
end An
namespace An
open PySem PySem.Spec PyProof.Rows L2
structure OkW(w dp:Nat)(p:PyData):Prop where
 sh:p.showable=true
 lay:p.canLay0=true
 it:p.intsShort 250=true
 dp:p.depth<=dp
 wt:p.weight+1<=w
structure OkWs(w dp:Nat)(p:List PyData):Prop where
 sh:PyData.showableAll p=true
 lay:PyData.canLayAll0 p=true
 it:PyData.intsShortAll 250 p=true
 dp:PyData.depthAll p<=dp
 wt:PyData.weightAll p<=w
def OkW.tup{w dp:Nat}(h:OkWs w dp p):OkW (w+1) (dp+1) (.tuple p):=by
 refine⟨?_,?_,?_,?_,?_⟩
 .rw[PyData.showable];exact h.sh
 .rw[PyData.canLay0];exact h.lay
 .rw[PyData.intsShort];exact h.it
 .rw[PyData.depth];have:=h.dp;omega
 .rw[PyData.weight];have:=h.wt;omega
def OkW.lst{w dp:Nat}(h:OkWs w dp p):OkW (w+1) (dp+1) (.list p):=by
 refine⟨?_,?_,?_,?_,?_⟩
 .rw[PyData.showable];exact h.sh
 .rw[PyData.canLay0];exact h.lay
 .rw[PyData.intsShort];exact h.it
 .rw[PyData.depth];have:=h.dp;omega
 .rw[PyData.weight];have:=h.wt;omega
def OkWs.nil{w dp:Nat}:OkWs w dp []:=⟨by simp[PyData.showableAll],by simp[PyData.canLayAll0],by simp[PyData.intsShortAll],by simp[PyData.depthAll],by simp[PyData.weightAll]⟩
def OkWs.cons{w w' dp:Nat}(h:OkW w dp d)(t:OkWs w' dp ds):OkWs (w+w') dp (d::ds):=by
 refine⟨by simp[PyData.showableAll,h.sh,t.sh],by simp[PyData.canLayAll0,h.lay,t.lay],by simp[PyData.intsShortAll,h.it,t.it],?_,?_⟩
 .simp only[PyData.depthAll];exact Nat.max_le.mpr ⟨h.dp,t.dp⟩
 .simp only[PyData.weightAll];have:=h.wt;have:=t.wt;omega
def OkW.mono{w w' dp dp':Nat}(h:OkW w dp d)(a:w<=w')(b:dp<=dp'):OkW w' dp' d:=⟨h.sh,h.lay,h.it,jf h.dp b,jf h.wt a⟩
def OkWs.mono{w w' dp dp':Nat}(h:OkWs w dp d)(a:w<=w')(b:dp<=dp'):OkWs w' dp' d:=⟨h.sh,h.lay,h.it,jf h.dp b,jf h.wt a⟩
def OkW.repr{w dp:Nat}(h:OkW w dp p)(hd:PyProof.Rows.isDisplay p=true)(h1:dp<=30)(h2:w<=30000):N7 p:=by
 refine⟨h.sh,PyData.hasDict_of_canLay p h.lay,hd,jf h.dp h1,?_⟩;have:=PyData.shown_le 250 (by decide) p (PyData.leavesShort_of_canLay0 250 p h.lay h.it);have hw:=h.wt;rw[jw];omega
mutual
theorem W2{m:Nat}(hm:m<=10^205):∀{t:Tv},Gq m t->OkW (wt t) (dep t) (pyT t)
 |.non,q=>⟨by simp[pyT,PyData.showable],by simp[pyT,PyData.canLay0],by simp[pyT,PyData.intsShort],by simp[pyT,PyData.depth],by simp[pyT,PyData.weight,wt]⟩
 |.bl _,q=>⟨by simp[pyT,PyData.showable],by simp[pyT,PyData.canLay0],by simp[pyT,PyData.intsShort],by simp[pyT,PyData.depth],by simp[pyT,PyData.weight,wt]⟩
 |.int i,q=>by
  simp only[Gq]at q;have h1:i.natAbs<10^206:=Nat.lt_of_le_of_lt (jf q hm) (by decide);have h0:i.natAbs<2^690:=jl h1 (by decide);have lg:i.natAbs.log2<690:=by
   by_cases z:i.natAbs=0
   .rw[z];decide
   .exact(Nat.log2_lt z).mpr h0
  refine⟨?_,by simp[pyT,PyData.canLay0],?_,by simp[pyT,PyData.depth],?_⟩
  .simp only[pyT,PyData.showable];exact jX (by omega)
  .simp only[pyT,PyData.intsShort,PyData.shown];refine jX ?_;have h2:=int_text_length_le10 (a:=i) (k:=206) (by decide) h1;rw[PySem.ofString_length];omega
  .simp only[pyT,PyData.weight,wt];split<;>omega
 |.str x,q=>by
  simp only[Gq]at q;refine⟨by simp[pyT,PyData.showable],?_,by simp[pyT,PyData.intsShort],by simp[pyT,PyData.depth],by simp only[pyT,PyData.weight,wt];exact j9 _⟩;simp only[pyT,PyData.canLay0,PyData.strOk];rw[Array.all_eq_true'];intro c hc;have:=q c (by simpa using hc);simp;omega
 |.tup ts,q=>by
  simp only[Gq]at q;rw[pyT,wt,dep];exact OkW.tup (NY hm q)
 |.lst ts,q=>by
  simp only[Gq]at q;rw[pyT,wt,dep];exact OkW.lst (NY hm q)
theorem NY{m:Nat}(hm:m<=10^205):∀{ts:List Tv},Gqs m ts->OkWs (wts ts) (DR ts) (HB ts)
 |[],q=>.nil
 |t::ts,q=>by
  simp only[Gqs]at q;rw[HB,wts,DR];exact .cons ((W2 hm q.1).mono (j9 _) (by omega)) ((NY hm q.2).mono (j9 _) (by omega))
end
end An
namespace L2
open PySem PySem.W PyProof.Rows
def feE{K:Frag}{e:Df}(h:Ea.Fe K n s)(hn:e.x=n:=by rfl)(hs:e.st=s:=by rfl):Fe K e:=by subst hn;subst hs;exact h
def flE{K:Frag}{e:Df}(h:Ea.Fl K n s p)(hn:e.x=n:=by rfl)(hs:e.st=s:=by rfl):Fla K e p:=by subst hn;subst hs;exact h
def zsE{K:Frag}(h:Ea.Zs K):Zs K:=h
theorem Vt:∀{l:List Value},Ea.ovB l=true->OverV l
 |[],h=>by simp[Ea.ovB]at h
 |v::l,h=>by
  unfold Ea.ovB at h;rcases Bool.or_eq_true_iff.mp h with h|h
  .rw[of_decide_eq_true h];exact .base
  .cases v with
   |ref a=>exact .own (Vt h)
   |_=>cases h
theorem Iy{α:Type}{p f:α->Bool}{q:α}:∀{l:List α},l.find? p=some q->f q=true->(l.filter f).find? p=some q
 |[],h,_=>by cases h
 |a::l,h,hf=>by
  rw[jF]at h;cases pa:p a with
  |true=>
   rw[pa]at h;cases h;rw[filter_cons,j6 hf,jF,pa]
  |false=>
   rw[pa]at h;have ih:=Iy h hf;rw[filter_cons];split
   .rw[jF,pa];exact ih
   .exact ih
def VH{K:Frag}{ts:List Tb}{nm:Str}(h:clsAt K nm=some C)(hC:C∉ts.map (·.1)):clsAt (B7 K ts) nm=some C:=by
 obtain⟨⟨C',o⟩,e,e2⟩:=j4 h;cases e2;unfold clsAt B7;rw[List.find?_append,Iy e (by simpa using hC)];rfl
def Kg{nm:Str}{b0 b:Bool}(h:List.lookup nm ((n,b0)::r)=some b):(nm=n/\b=b0)∨List.lookup nm r=some b:=by
 rw[jg]at h;cases q:(nm==n)with
 |true=>rw[q]at h;cases h;exact .inl ⟨beq_iff_eq.mp q,rfl⟩
 |false=>rw[q]at h;exact .inr h
def Ini(s:Stmt)(ps fs:List Str):Prop:=(∀{P:Program} {w:World} {K:Frag} {mg:Str->Option Value} {base:Heap} {qual:Str} {C fI fa:Addr} {fd:FuncData},Fun K "__init__" qual s fa fd->XC K C fI->(∀f∈fs,DF K C f)->FnOk P w K mg base CX0 1 fa fd ps (spJ C fs))/\ps.length=fs.length+1/\fs.length<=1000 /\
 ∀(qual:Str) (kV doc pm:Value) (an:Option Addr) (cdv ct:Value) (us:List Value),us.length=ps.length->bindArgs (fnOf "__init__" qual (Cr s) (BE s) (AA s) .none kV doc pm an cdv ct) ⟨us,[]⟩=pure (ps.zip us)
section
variable{K:Frag}{mg:Str->Option Value}{c P:Str->Addr}(X:K.In h)(G:h.Ns mainGlobals mg)(hx:HX xs mg h c P){nm:Str}
include X hx in
theorem Ec.ncls(H:Ea.Ec K nm s fs C):C∉(tbs xs P).map (·.1):=λz=>by
 obtain⟨fI,N,nm',q,bs,bm,sub,sn,ab,col,dd,od,an,k0,k1,k2,k3,k5,oc,kV,dc,pm,cd,ct,sl,a,b,c',_⟩:=H;have:=X _ _ c';rw[JQ hx C z]at this;cases this
include X hx in
theorem Ec.at(H:Ea.Ec K nm s fs C):clsAt (B7 K (tbs xs P)) nm=some C:=by
 have n:=Ec.ncls X hx H;obtain⟨fI,N,nm',q,bs,bm,sub,sn,ab,col,dd,od,an,k0,k1,k2,k3,k5,oc,kV,dc,pm,cd,ct,sl,a,b,_⟩:=H;exact VH b n
include X G hx in
theorem Ec.cl(H:Ea.Ec K nm s fs C)(I:Ini s ps fs):Cl (enM l w K xs P mg base) nm fs:=by
 have at':=Ec.at X hx H;have hP:=JQ hx;obtain⟨fI,N,nm',q,bs,bm,sub,sn,ab,col,dd,od,an,k0,k1,k2,k3,k5,oc,kV,dc,pm,cd,ct,sl,a,b,lC,ov,fi,fn,kp,sa,ga,gx,ca,gd,tk,mo,na,li,ci,ki⟩:=H;have LE:=Gm (ts:=tbs xs P) X hP;have xc:XC (B7 K (tbs xs P)) C fI:=LE.xc ⟨_,_,li,rfl⟩ ⟨⟨_,_,_,_,_,_,_,_,_,_,_,_,_,_,_,lC,Vt ov⟩,fi,fn,kp,sa,ga,gx⟩;have FI:=Fun.mark (ts:=tbs xs P) (Sb (st:=s) li ci ki) X hP;have nA:∀f∈fs,DF (B7 K (tbs xs P)) C f:=λf hf=>LE.noAttr (na f hf);exact⟨C,fI,_,ps,mg_of X G a,at',xc,LE.xi ⟨ca,gd,tk,mo⟩,nA,I.1 FI xc nA,FI.binds (I.2.2.2 _),I.2.1,I.2.2.1⟩
variable{b:Bool}
include X G hx in
theorem Ec.ch(H:Ea.Ec K nm s fs C)(hB:nsIn K mainGlobals B=some (some (.ref CB)))(k:PySem.W.exmOne K (.ref C) (.ref CB)=some true):Ch (enM l w K xs P mg base) B nm:=
 ⟨CB,C,mg_of X G hB,Ec.at X hx H,(Gm (ts:=tbs xs P) X (JQ hx)).exm k⟩
include X G hx in
theorem Ec.ci(H:Ea.Ec K nm s fs C)(hB:nsIn K mainGlobals B=some (some (.ref CB)))(k:PySem.W.kitOne K (.ref C) (.ref CB)=some b):Ci (enM l w K xs P mg base) B nm b:=
 ⟨CB,C,mg_of X G hB,Ec.at X hx H,(Gm (ts:=tbs xs P) X (JQ hx)).kitOne k⟩
include X G hx in
theorem Ec.cv(H:Ea.Ec K nm s fs C)(hV:nsIn K mainGlobals "ValueError"=some none)(k:PySem.W.kitOne K (.ref C) (.type "ValueError")=some true):Cv (enM l w K xs P mg base) nm:=
 ⟨C,PySem.W.mg_none_of X G hV,Ec.at X hx H,(Gm (ts:=tbs xs P) X (JQ hx)).kitOne k⟩
include X G hx in
theorem Ec.ct{ns:List Str}{cs:List Addr}(H:Ea.Ec K nm s fs C)(hB:ns.map mg=cs.map (λc=>some (.ref c)))(k:PySem.W.kitAny K (.ref C) (cs.map Value.ref)=some b):Ct (enM l w K xs P mg base) ns nm b:=
 ⟨cs,C,hB,Ec.at X hx H,(Gm (ts:=tbs xs P) X (JQ hx)).kitAny k⟩
end
end L2
namespace T38
open PySem L2
abbrev Iw:Stmt:=top 11
def Md:FnScope ["thing"] ["thing"] (AA Iw):=B0 (by kernel_rfl)
@[reducible] def OF:MS:=(AQ (DU (Bj .int (A2 0)) (FP (Bj .bool (A2 0)))))
def Ce:FD:=mkF 1 1 OF
abbrev Em:Df:=⟨"is_number",Iw,["thing"],1,Ce⟩
abbrev Hg:Stmt:=top 12
def KO:FnScope ["many","thing"] ["many","thing"] (AA Hg):=B0 (by kernel_rfl)
@[reducible] def Lg:MS:=(AQ (DU (Bj .tuple (A2 1)) (mOp gEq (mCB (f1 true B1) (A3 (A2 1) A7)) (A2 0))))
def BR:FD:=mkF 2 2 Lg
abbrev Di:Df:=⟨"is_tuple_of",Hg,["many","thing"],1,BR⟩
abbrev He:Stmt:=top 14
def KM:FnScope ["works","coming"] ["works"] (AA He):=B0 (by kernel_rfl)
@[reducible] def Lc:MS:=(AD (AW 1 (mOp gIx (mOp gIx (A2 0) (mC (.int 0))) (mC (.int 1))))
 (AD (Aa (BC (CJ JP (B9 1 [1] (BY (A2 0)) (AO 0) Cc (mOp gEq (mOp gIx (A2 0) (mC (.int 1))) (A2 1)))))
  (AQ (A2 1))
  AU)
 (AQ (mC .non))))
def Dk:FD:=mkF 1 2 Lc
abbrev FE:Df:=⟨"same_coming",He,["works"],1,Dk⟩
abbrev Hv:Stmt:=top 15
def La:FnScope ["works","coming"] ["works"] (AA Hv):=B0 (by kernel_rfl)
@[reducible] def NF:MS:=(AD (AW 1 (AB 0 Dk (A3 (A2 0) A7)))
 (AD (Aa (AF (Aw false (A2 1)))
  Br
  AU)
 (AQ (A2 1))))
def EH:FD:=mkF 1 2 NF
abbrev G5:Df:=⟨"one_coming",Hv,["works"],2,EH⟩
abbrev E4:Stmt:=top 16
def Gb:FnScope ["works","word"] ["works","word"] (AA E4):=B0 (by kernel_rfl)
@[reducible] def HD:MS:=(Aa (BC (CJ NO (B9 1 [1] (BY (A2 0)) (AO 0) Cc (mOp gNe (mOp gIx (mOp gIx (A2 0) (mC (.int 2))) (mC (.int 0))) (A2 1)))))
 Br
 AU)
def C3:FD:=mkF 2 2 HD
abbrev D6:Df:=⟨"refuse_other_costs",E4,["works","word"],1,C3⟩
abbrev Iu:Stmt:=top 17
def Mc:FnScope ["work"] ["work"] (AA Iu):=B0 (by kernel_rfl)
@[reducible] def OE:MS:=(AQ (mOp gIx (mOp gIx (A2 0) (mC (.int 2))) (Fv (mC (.int 1)))))
def Eo:FD:=mkF 1 1 OE
abbrev GT:Df:=⟨"weight_of",Iu,["work"],1,Eo⟩
abbrev Hf:Stmt:=top 19
def KN:FnScope ["works","coming"] ["works"] (AA Hf):=B0 (by kernel_rfl)
@[reducible] def Lf:MS:=(AD (AW 1 (AB 0 EH (A3 (A2 0) A7)))
 (AD (CY (AB 0 C3 (A3 (A2 0) (A3 (mC (.str "miss")) A7))))
 (AQ (A2 1))))
def Bm:FD:=mkF 1 2 Lf
abbrev CM:Df:=⟨"late_coming",Hf,["works"],3,Bm⟩
abbrev L7:Stmt:=top 20
def Pn:FnScope ["works"] ["works"] (AA L7):=B0 (by kernel_rfl)
@[reducible] def SQ:MS:=(AQ (Bx (Oq (A3 (mCB (f1 true B1) (A3 (A2 0) A7)) A7) [0] (Af (A3 (mOp gIx (mOp gIx (mOp gIx (A2 1) (A2 0)) (mC (.int 2))) (mC (.int 1))) (A3 (A2 0) A7))))))
def F7:FD:=mkF 1 1 SQ
abbrev F2:Df:=⟨"by_dues",L7,["works"],4,F7⟩
abbrev Hh:Stmt:=top 21
def KP:FnScope ["works"] ["works"] (AA Hh):=B0 (by kernel_rfl)
@[reducible] def Lh:MS:=(AQ (CJ Fy (B9 1 [] (BY (A2 0)) (AO 0) Cc (AB 0 Eo (A3 (A2 0) A7)))))
def CQ:FD:=mkF 1 1 Lh
abbrev CN:Df:=⟨"full_weight",Hh,["works"],2,CQ⟩
abbrev Kx:Stmt:=top 22
def Pk:FnScope ["one","other"] ["one","other"] (AA Kx):=B0 (by kernel_rfl)
@[reducible] def SM:MS:=(AQ (JN (Aw false (A2 1)) (DU (Aw true (A2 0)) (mOp gLe (A2 0) (A2 1)))))
def Ca:FD:=mkF 2 2 SM
abbrev Dv:Df:=⟨"no_more",Kx,["one","other"],1,Ca⟩
abbrev Hu:Stmt:=top 23
def LZ:FnScope ["row","work","w","length","coming","word","due","weight","end"] ["row","work","w"] (AA Hu):=B0 (by kernel_rfl)
@[reducible] def NE:MS:=(AD (ID (A2 1) (Bv 3 (Ae (AO 3) (Ae (AO 4) (Ae (Bv 3 (Ae (AO 5) (Ae (AO 6) (Ae (AO 7) C8)))) C8)))))
 (AD (Aa (mOr (AF (mOp gLt (A2 2) (A2 7))) (AF (Aw false (mOp gIx (A2 0) (mOp BA (A2 2) (A2 7))))))
  (AQ (mC .non))
  AU)
 (AD (AW 8 (mOp AN (mOp gIx (A2 0) (mOp BA (A2 2) (A2 7))) (A2 3)))
 (AQ (mIf (AF (mOp gLe (A2 8) (A2 6))) (A2 8) (mC .non))))))
def DS:FD:=mkF 3 9 NE
abbrev EB:Df:=⟨"put_behind",Hu,["row","work","w"],1,DS⟩
abbrev FK:Stmt:=top 24
def Ht:FnScope ["table"] ["table"] (AA FK):=B0 (by kernel_rfl)
@[reducible] def Iq:MS:=(AQ (CJ Ki (B9 2 [] (Bz (BY (mOp gIx (A2 0) (Fv (mC (.int 1)))))) (Bv 2 (Ae (AO 0) (Ae (AO 1) C8))) (AF (Aw true (A2 1))) (A2 0))))
def Cj:FD:=mkF 1 1 Iq
abbrev Cf:Df:=⟨"greatest_weight",FK,["table"],1,Cj⟩
abbrev E6:Stmt:=top 25
def Fo:FnScope ["works","thing","path","many","k","row","w","entry"] ["works","thing","path"] (AA E6):=B0 (by kernel_rfl)
@[reducible] def Jv:MS:=(AD (Aa (BX (BC (AX BR (A3 (mOp AN (mCB (f1 true B1) (A3 (A2 0) A7)) (mC (.int 1))) (A3 (A2 1) A7)))))
 Br
 AU)
 (AD (AW 3 (mOp AN (AB 0 CQ (A3 (A2 0) A7)) (mC (.int 1))))
 (By (Bz (BY (A2 1))) (Bv 2 (Ae (AO 4) (Ae (AO 5) C8)))
  (AD (Aa (BX (BC (AX BR (A3 (A2 3) (A3 (A2 5) A7)))))
  Br
  AU)
 (By (Bz (BY (A2 5))) (Bv 2 (Ae (AO 6) (Ae (AO 7) C8)))
  (Aa (DY (AF (Aw true (A2 7))) (BX (BC (AX Ce (A3 (A2 7) A7)))))
  Br
  AU))))))
def Bh:FD:=mkF 3 8 Jv
abbrev DK:Df:=⟨"look_at_shape",E6,["works","thing","path"],3,Bh⟩
@[reducible] def JM:MS:=(AD (Aa (BX (BC (AX BR (A3 (mOp AN (mCB (f1 true B1) (A3 (A2 0) A7)) (mC (.int 1))) (A3 (A2 1) A7)))))
 (DC "NoPaper" ["path","word"] (A3 (A2 2) (A3 (mC (.str "shape")) A7)))
 (DI AU))
 (AD (DI (AW 3 (mOp AN (AB 0 CQ (A3 (A2 0) A7)) (mC (.int 1)))))
 (By (Bz (BY (A2 1))) (Bv 2 (Ae (AO 4) (Ae (AO 5) C8)))
  (AD (Aa (BX (BC (AX BR (A3 (A2 3) (A3 (A2 5) A7)))))
  (DC "NoPaper" ["path","word"] (A3 (mOp Bg (A2 2) (Af (A3 (A2 4) A7))) (A3 (mC (.str "shape")) A7)))
  (DI AU))
 (By (Bz (BY (A2 5))) (Bv 2 (Ae (AO 6) (Ae (AO 7) C8)))
  (Aa (DY (AF (Aw true (A2 7))) (BX (BC (AX Ce (A3 (A2 7) A7)))))
  (DC "NoPaper" ["path","word"] (A3 (mOp Bg (A2 2) (Af (A3 (A2 4) (A3 (A2 6) A7)))) (A3 (mC (.str "shape")) A7)))
  (DI AU)))))))
def CZ:FD:=mkX 3 8 JM
abbrev E1:Df:=⟨"look_at_shape",E6,["works","thing","path"],3,CZ⟩
def G8:DjF CZ Bh:=K2 (F3 (Ij Dx HR) (F3 HR (K3 (F3 (Ij Dx HR) (K3 (Ij Dx HR))))))
abbrev F9:Stmt:=top 26
def Gc:FnScope ["work","above","row","path","w","entry"] ["work","above","row","path"] (AA F9):=B0 (by kernel_rfl)
@[reducible] def Ld:MS:=(By (Bz (BY (A2 2))) (Bv 2 (Ae (AO 4) (Ae (AO 5) C8)))
 (AD (Aa (BX (BC (AB 0 Ca (A3 (A2 5) (A3 (mOp gIx (A2 1) (A2 4)) A7)))))
 Br
 AU)
 (Aa (BX (BC (AB 0 Ca (A3 (A2 5) (A3 (AB 0 DS (A3 (A2 1) (A3 (A2 0) (A3 (A2 4) A7)))) A7)))))
  Br
  AU)))
def CP:FD:=mkF 4 6 Ld
abbrev Dh:Df:=⟨"look_at_row",F9,["work","above","row","path"],2,CP⟩
@[reducible] def Kd:MS:=(By (Bz (BY (A2 2))) (Bv 2 (Ae (AO 4) (Ae (AO 5) C8)))
 (AD (Aa (BX (BC (AB 0 Ca (A3 (A2 5) (A3 (mOp gIx (A2 1) (A2 4)) A7)))))
 (DC "NoPaper" ["path","word"] (A3 (mOp AN (A2 3) (Af (A3 (A2 4) A7))) (A3 (mC (.str "kept")) A7)))
 (DI AU))
 (Aa (BX (BC (AB 0 Ca (A3 (A2 5) (A3 (AB 0 DS (A3 (A2 1) (A3 (A2 0) (A3 (A2 4) A7)))) A7)))))
  (DC "NoPaper" ["path","word"] (A3 (mOp AN (A2 3) (Af (A3 (A2 4) A7))) (A3 (mC (.str "more")) A7)))
  (DI AU))))
def DE:FD:=mkX 4 6 Kd
abbrev F8:Df:=⟨"look_at_row",F9,["work","above","row","path"],3,DE⟩
def Gp:DjF DE CP:=K2 (K3 (F3 (Ij Dx HR) (Ij Dx HR)))
abbrev Do:Stmt:=top 27
def FJ:FnScope ["works","table","path","k","j"] ["works","table","path"] (AA Do):=B0 (by kernel_rfl)
@[reducible] def JL:MS:=(AD (Aa (BX (BC (AB 0 Ca (A3 (mOp gIx (mOp gIx (A2 1) (mC (.int 0))) (mC (.int 0))) (A3 (AB 0 Bm (A3 (A2 0) A7)) A7)))))
 Br
 AU)
 (By (Fw (E9 (AB 0 F7 (A3 (A2 0) A7)))) (Bv 2 (Ae (AO 3) (Ae (AO 4) C8)))
  (CY (AB 0 CP (A3 (mOp gIx (A2 0) (A2 4)) (A3 (mOp gIx (A2 1) (mOp BA (A2 3) (mC (.int 1)))) (A3 (mOp gIx (A2 1) (A2 3)) (A3 (mOp Bg (A2 2) (Af (A3 (A2 3) A7))) A7))))))))
def Ba:FD:=mkF 3 5 JL
abbrev D7:Df:=⟨"look_at_places",Do,["works","table","path"],5,Ba⟩
@[reducible] def Ir:MS:=(AD (Aa (BX (BC (AB 0 Ca (A3 (mOp gIx (mOp gIx (A2 1) (mC (.int 0))) (mC (.int 0))) (A3 (AB 0 Bm (A3 (A2 0) A7)) A7)))))
 (DC "NoPaper" ["path","word"] (A3 (mOp Bg (A2 2) (Af (A3 (mC (.int 0)) (A3 (mC (.int 0)) A7)))) (A3 (mC (.str "begin")) A7)))
 (DI AU))
 (By (Fw (E9 (AB 0 F7 (A3 (A2 0) A7)))) (Bv 2 (Ae (AO 3) (Ae (AO 4) C8)))
  (EW (CY (AB 0 CP (A3 (mOp gIx (A2 0) (A2 4)) (A3 (mOp gIx (A2 1) (mOp BA (A2 3) (mC (.int 1)))) (A3 (mOp gIx (A2 1) (A2 3)) (A3 (mOp Bg (A2 2) (Af (A3 (A2 3) A7))) A7)))))) (AQ (AB 0 DE (A3 (mOp gIx (A2 0) (A2 4)) (A3 (mOp gIx (A2 1) (mOp BA (A2 3) (mC (.int 1)))) (A3 (mOp gIx (A2 1) (A2 3)) (A3 (mOp Bg (A2 2) (Af (A3 (A2 3) A7))) A7)))))))))
def CF:FD:=mkX 3 5 Ir
abbrev Dm:Df:=⟨"look_at_places",Do,["works","table","path"],5,CF⟩
def FL:DjF CF Ba:=K2 (F3 (Ij Dx HR) (K3 (Nl (Fc (HV Gp)))))
abbrev Fp:Stmt:=top 28
def Hc:FnScope ["works","thing"] ["works","thing"] (AA Fp):=B0 (by kernel_rfl)
@[reducible] def NG:MS:=(AD (CY (AB 0 Bm (A3 (A2 0) A7)))
 (AD (CY (AX Bh (A3 (A2 0) (A3 (A2 1) (A3 (Af A7) A7)))))
 (AD (CY (AB 0 Ba (A3 (A2 0) (A3 (A2 1) (A3 (Af A7) A7)))))
 (AQ (mOp BA (AB 0 CQ (A3 (A2 0) A7)) (AB 0 Cj (A3 (A2 1) A7)))))))
def Cu:FD:=mkF 2 2 NG
abbrev G6:Df:=⟨"lets_table",Fp,["works","thing"],6,Cu⟩
@[reducible] def Li:MS:=(AD (DI (CY (AB 0 Bm (A3 (A2 0) A7))))
 (AD (EW (CY (AX Bh (A3 (A2 0) (A3 (A2 1) (A3 (Af A7) A7))))) (AQ (AX CZ (A3 (A2 0) (A3 (A2 1) (A3 (Af A7) A7))))))
 (AD (EW (CY (AB 0 Ba (A3 (A2 0) (A3 (A2 1) (A3 (Af A7) A7))))) (AQ (AB 0 CF (A3 (A2 0) (A3 (A2 1) (A3 (Af A7) A7)))))) Br)))
def Be:FD:=mkX 2 2 Li
abbrev Fg:Df:=⟨"lets_table",Fp,["works","thing"],6,Be⟩
def Lj:DjF Be Cu:=K2 (F3 HR (F3 (Nl (Fc (IK G8))) (F3 (Nl (Fc (HV FL))) VB)))
abbrev Mf:Stmt:=top 30
def RY:FnScope ["_law_script"] ["_law_script"] (AA Mf):=B0 (by kernel_rfl)
@[reducible] def Uk:MS:=(AQ (M4 [((mC (.str "cells")),(Bx (IC (NI (A2 0) Av (BK (mC (.int 63))))))),((mC (.str "at")),(mC (.int 0))),((mC (.str "rest")),(mC (.int 0))),((mC (.str "count")),(mC (.int 0)))]))
def HZ:FD:=mkF 1 1 Uk
abbrev JT:Df:=⟨"_law_source",Mf,["_law_script"],1,HZ⟩
abbrev Re:Stmt:=top 31
def Wd:FnScope ["_law_source_here","_law_many","_law_found","_law_cells","_law_cell","_law_mixed"] ["_law_source_here","_law_many"] (AA Re):=B0 (by kernel_rfl)
@[reducible] def br:MS:=(AD (GJ (A2 0) (mC (.str "count")) (mOp AN (mOp D4 (A2 0) (mC (.str "count"))) (mC (.int 1))))
 (AD (Aa (AF (mOp gGt (mOp D4 (A2 0) (mC (.str "rest"))) (mC (.int 0))))
  (AD (AW 2 (mOp G0 (mOp D4 (A2 0) (mC (.str "rest"))) (A2 1)))
 (AD (GJ (A2 0) (mC (.str "rest")) (mOp HJ (mOp D4 (A2 0) (mC (.str "rest"))) (A2 1)))
 (AQ (A2 2))))
  AU)
 (AD (AW 3 (mOp D4 (A2 0) (mC (.str "cells"))))
 (AD (AW 4 (mIf (AF (GI true (A2 3) (Co A7))) (mOp gIx (A2 3) (mOp G0 (mOp D4 (A2 0) (mC (.str "at"))) (mCB (f1 true B1) (A3 (A2 3) A7)))) (mC (.int 11))))
 (AD (GJ (A2 0) (mC (.str "at")) (mOp AN (mOp D4 (A2 0) (mC (.str "at"))) (mC (.int 1))))
 (AD (Aa (DY (AF (mOp gGe (A2 4) (mOp IG (mC (.int 10)) (mC (.int 18))))) (AF (mOp gLe (mOp D4 (A2 0) (mC (.str "at"))) (mCB (f1 true B1) (A3 (A2 3) A7)))))
  (AD (GJ (A2 0) (mC (.str "rest")) (mOp HJ (A2 4) (A2 1)))
 (AQ (mOp G0 (A2 4) (A2 1))))
  AU)
 (AD (AW 5 (mOp AN (mOp G0 (A2 4) (mC (.int 1073741827))) (mOp HI (mC (.int 611953)) (mOp D4 (A2 0) (mC (.str "count"))))))
 (AD (AW 5 (mOp G0 (mOp AN (mOp AN (mOp HI (A2 5) (A2 5)) (mOp HI (mC (.int 3)) (mOp D4 (A2 0) (mC (.str "count"))))) (mC (.int 7))) (mC (.int 2147483543))))
 (AD (AW 5 (mOp G0 (mOp AN (mOp AN (mOp HI (A2 5) (A2 5)) (mOp HI (mC (.int 69069)) (mOp D4 (A2 0) (mC (.str "count"))))) (mC (.int 1))) (mC (.int 2147483497))))
 (AQ (mOp G0 (mOp HJ (A2 5) (mC (.int 256))) (A2 1))))))))))))
def Ab:FD:=mkF 2 6 br
abbrev Dc:Df:=⟨"_law_pick",Re,["_law_source_here","_law_many"],1,Ab⟩
abbrev Hw:Stmt:=top 32
def Lb:FnScope ["_law_source_here","_law_most","_law_many","_law_coming","_law_longest","_law_heaviest","_law_span","_law_works","_law_k","_law_way","_law_length","_law_due","_law_weight","_law_work"] ["_law_source_here","_law_most"] (AA Hw):=B0 (by kernel_rfl)
@[reducible] def NH:MS:=(AD (AW 2 (mOp AN (mC (.int 1)) (AB 2 Ab (A3 (A2 0) (A3 (A2 1) A7)))))
 (AD (AW 3 (AB 2 Ab (A3 (A2 0) (A3 (mC (.int 61)) A7))))
 (AD (AW 4 (EU (Co (A3 (mC (.int 20)) (A3 (mC (.int 5)) (A3 (mC (.int 2)) A7)))) (AB 2 Ab (A3 (A2 0) (A3 (mC (.int 3)) A7)))))
 (AD (AW 5 (EU (Co (A3 (mC (.int 9)) (A3 (mC (.int 3)) (A3 (mC (.int 1)) A7)))) (AB 2 Ab (A3 (A2 0) (A3 (mC (.int 3)) A7)))))
 (AD (AW 6 (mOp AN (mC (.int 2)) (mOp HJ (mOp HI (A2 2) (A2 4)) (mOp AN (mC (.int 1)) (AB 2 Ab (A3 (A2 0) (A3 (mC (.int 2)) A7)))))))
 (AD (AW 7 (Bx (Co A7)))
 (AD (By (EV (A3 (A2 2) A7)) (AO 8)
  (AD (AW 9 (AB 2 Ab (A3 (A2 0) (A3 (mC (.int 6)) A7))))
 (AD (AW 10 (mOp AN (mC (.int 1)) (AB 2 Ab (A3 (A2 0) (A3 (A2 4) A7)))))
 (AD (AW 11 (mOp AN (mOp BA (A2 3) (mC (.int 1))) (AB 2 Ab (A3 (A2 0) (A3 (A2 6) A7)))))
 (AD (AW 12 (AB 2 Ab (A3 (A2 0) (A3 (mOp AN (A2 5) (mC (.int 1))) A7))))
 (AD (Aa (AF (mOp gEq (A2 9) (mC (.int 0))))
  (AW 11 (mOp BA (AB 2 Ab (A3 (A2 0) (A3 (mC (.int 500)) A7))) (mC (.int 99))))
  AU)
 (AD (Aa (DY (AF (mOp gEq (A2 9) (mC (.int 1)))) (AF (mOp gGt (A2 8) (mC (.int 0)))))
  (AW 11 (mOp gIx (mOp gIx (mOp gIx (A2 7) (AB 2 Ab (A3 (A2 0) (A3 (A2 8) A7)))) (mC (.int 2))) (mC (.int 1))))
  AU)
 (AD (AW 13 (Af (A3 (A2 10) (A3 (A2 3) (A3 (Af (A3 (mC (.str "miss")) (A3 (A2 11) (A3 (A2 12) A7)))) A7)))))
 (AD (Aa (DY (AF (mOp gEq (A2 9) (mC (.int 2)))) (AF (mOp gGt (A2 8) (mC (.int 0)))))
  (AW 13 (mOp gIx (A2 7) (AB 2 Ab (A3 (A2 0) (A3 (A2 8) A7)))))
  AU)
 (CY (mMt Du (A2 7) (A3 (A2 13) A7))))))))))))
 (AQ (mCB (f1 true Ez) (A3 (A2 7) A7))))))))))
def EJ:FD:=mkF 2 14 NH
abbrev G7:Df:=⟨"_law_late_works",Hw,["_law_source_here","_law_most"],2,EJ⟩
abbrev KQ:Stmt:=top 33
def Tn:FnScope ["_law_one","_law_due"] ["_law_one","_law_due"] (AA KQ):=B0 (by kernel_rfl)
@[reducible] def IZ(Ip:FD):MS:=(AD (Aa (AF (Aw false (A2 1)))
 (AQ (Aw false (A2 0)))
 AU)
 (AD (Aa (BC (Bj .tuple (A2 1)))
  (AD (Aa (mOr (BX (BC (Bj .tuple (A2 0)))) (AF (mOp gNe (mCB (f1 true B1) (A3 (A2 0) A7)) (mCB (f1 true B1) (A3 (A2 1) A7)))))
  (AQ (mC (.bl false)))
  AU)
 (AQ (CJ JP (B9 2 [] (Kc (BY (A2 0)) (BY (A2 1))) (Bv 2 (Ae (AO 0) (Ae (AO 1) C8))) Cc (AB 0 Ip (A3 (A2 0) (A3 (A2 1) A7)))))))
  AU)
 (AD (Aa (BC (Bj .str (A2 1)))
  (AQ (DU (Bj .str (A2 0)) (mOp gEq (A2 0) (A2 1))))
  AU)
 (AQ (DU (Bj .int (A2 0)) (DU (FP (Bj .bool (A2 0))) (mOp gEq (A2 0) (A2 1))))))))
def Ee:Nat->FD
 |0=>λ_ _=>none
 |n+1=>mkF 2 2 (IZ (Ee n))
abbrev Ip:FD:=Ee 4
abbrev Kl:Df:=⟨"_law_alike",KQ,["_law_one","_law_due"],4,Ip⟩
abbrev Jn:Stmt:=top 34
def O9:FnScope ["_law_works"] ["_law_works"] (AA Jn):=B0 (by kernel_rfl)
@[reducible] def Q9:MS:=(AQ (Bx (B9 1 [] (FA (Dp (FA (B9 1 [0] (EV (A3 (mCB (f1 true B1) (A3 (A2 0) A7)) A7)) (AO 0) Cc (Af (A3 (mOp gIx (mOp gIx (mOp gIx (A2 1) (A2 0)) (mC (.int 2))) (mC (.int 1))) (A3 (A2 0) A7))))))) (AO 0) Cc (mOp gIx (A2 0) (mC (.int 1))))))
def EI:FD:=mkF 1 1 Q9
abbrev FR:Df:=⟨"_law_by_dues",Jn,["_law_works"],1,EI⟩
abbrev Kz:Stmt:=top 35
def Pm:FnScope ["_law_above","_law_w","_law_work","_law_length","_law_coming","_law_cost","_law_entry"] ["_law_above","_law_w","_law_work"] (AA Kz):=B0 (by kernel_rfl)
@[reducible] def SO:MS:=(AD (ID (A2 2) (Bv 3 (Ae (AO 3) (Ae (AO 4) (Ae (AO 5) C8)))))
 (AD (AW 6 (mOp gIx (A2 0) (A2 1)))
 (AD (Aa (DY (AF (mOp gGe (A2 1) (mOp gIx (A2 5) (mC (.int 2))))) (DY (AF (Aw true (mOp gIx (A2 0) (mOp BA (A2 1) (mOp gIx (A2 5) (mC (.int 2))))))) (AF (mOp gLe (mOp AN (mOp gIx (A2 0) (mOp BA (A2 1) (mOp gIx (A2 5) (mC (.int 2))))) (A2 3)) (mOp gIx (A2 5) (mC (.int 1)))))))
  (Aa (mOr (AF (Aw false (A2 6))) (AF (mOp gLt (mOp AN (mOp gIx (A2 0) (mOp BA (A2 1) (mOp gIx (A2 5) (mC (.int 2))))) (A2 3)) (A2 6))))
  (AQ (mOp AN (mOp gIx (A2 0) (mOp BA (A2 1) (mOp gIx (A2 5) (mC (.int 2))))) (A2 3)))
  AU)
  AU)
 (AQ (A2 6)))))
def F6:FD:=mkF 3 7 SO
abbrev GN:Df:=⟨"_law_highest",Kz,["_law_above","_law_w","_law_work"],1,F6⟩
abbrev Rh:Stmt:=top 36
def Wg:FnScope ["_law_source_here","_law_highest_here","_law_much"] ["_law_source_here","_law_highest_here","_law_much"] (AA Rh):=B0 (by kernel_rfl)
@[reducible] def bv:MS:=(AD (Aa (mOr (AF (mOp gEq (A2 2) (mC (.int 0)))) (AF (mOp gGt (AB 2 Ab (A3 (A2 0) (A3 (mC (.int 3)) A7))) (mC (.int 0)))))
 (AQ (A2 1))
 AU)
 (AD (Aa (AF (Aw false (A2 1)))
  (AQ (mOp BA (AB 2 Ab (A3 (A2 0) (A3 (mC (.int 300)) A7))) (mC (.int 50))))
  AU)
 (AQ (mOp BA (A2 1) (AB 2 Ab (A3 (A2 0) (A3 (mOp AN (A2 2) (mC (.int 1))) A7)))))))
def IQ:FD:=mkF 3 3 bv
abbrev Nj:Df:=⟨"_law_free",Rh,["_law_source_here","_law_highest_here","_law_much"],2,IQ⟩
abbrev Ky:Stmt:=top 37
def Pl:FnScope ["_law_source_here","_law_works","_law_much","_law_full","_law_rows","_law_k","_law_above"] ["_law_source_here","_law_works","_law_much"] (AA Ky):=B0 (by kernel_rfl)
@[reducible] def SN:MS:=(AD (AW 3 (CJ Fy (B9 1 [] (BY (A2 1)) (AO 0) Cc (mOp gIx (mOp gIx (A2 0) (mC (.int 2))) (mC (.int 2))))))
 (AD (AW 4 (Bx (Co (A3 (Bx (Ke (Bx (Co (A3 (mOp BA (mOp gIx (mOp gIx (A2 1) (mC (.int 0))) (mC (.int 1))) (AB 2 Ab (A3 (A2 0) (A3 (mOp AN (A2 2) (mC (.int 1))) A7)))) A7))) (Bx (B9 1 [0,2] (EV (A3 (A2 3) A7)) (AO 0) Cc (AB 2 IQ (A3 (A2 1) (A3 (mC .non) (A3 (A2 2) A7)))))))) A7))))
 (AD (By (E9 (AB 0 EI (A3 (A2 1) A7))) (AO 5)
  (AD (AW 6 (mOp gIx (A2 4) (Fv (mC (.int 1)))))
 (CY (mMt Du (A2 4) (A3 (Bx (B9 1 [0,6,1,5,2] (EV (A3 (mOp AN (A2 3) (mC (.int 1))) A7)) (AO 0) Cc (AB 2 IQ (A3 (A2 1) (A3 (AX F6 (A3 (A2 2) (A3 (A2 0) (A3 (mOp gIx (A2 3) (A2 4)) A7)))) (A3 (A2 5) A7)))))) A7)))))
 (AQ (CJ Ez (B9 1 [] (E9 (A2 4)) (AO 0) Cc (mCB (f1 true Ez) (A3 (A2 0) A7))))))))
def F5:FD:=mkF 3 7 SN
abbrev GM:Df:=⟨"_law_lowered",Ky,["_law_source_here","_law_works","_law_much"],3,F5⟩
abbrev Jo:Stmt:=top 38
def OA:FnScope ["_law_thing"] ["_law_thing"] (AA Jo):=B0 (by kernel_rfl)
@[reducible] def QB:MS:=(AQ (JN (Aw false (A2 0)) (DU (Bj .int (A2 0)) (FP (Bj .bool (A2 0))))))
def FT:FD:=mkF 1 1 QB
abbrev HQ:Df:=⟨"_law_is_entry",Jo,["_law_thing"],1,FT⟩
abbrev OT:Stmt:=top 39
def Tm:FnScope ["_law_works","_law_thing","_law_path","_law_full","_law_k","_law_row","_law_w","_law_entry"] ["_law_works","_law_thing","_law_path"] (AA OT):=B0 (by kernel_rfl)
@[reducible] def YT:MS:=(AD (AW 3 (CJ Fy (B9 1 [] (BY (A2 0)) (AO 0) Cc (mOp gIx (mOp gIx (A2 0) (mC (.int 2))) (mC (.int 2))))))
 (AD (Aa (mOr (BX (BC (Bj .tuple (A2 1)))) (AF (mOp gNe (mCB (f1 true B1) (A3 (A2 1) A7)) (mOp AN (mCB (f1 true B1) (A3 (A2 0) A7)) (mC (.int 1))))))
  (AQ (A2 2))
  AU)
 (AD (By (Bz (BY (A2 1))) (Bv 2 (Ae (AO 4) (Ae (AO 5) C8)))
  (AD (Aa (mOr (BX (BC (Bj .tuple (A2 5)))) (AF (mOp gNe (mCB (f1 true B1) (A3 (A2 5) A7)) (mOp AN (A2 3) (mC (.int 1))))))
  (AQ (mOp Bg (A2 2) (Af (A3 (A2 4) A7))))
  AU)
 (By (Bz (BY (A2 5))) (Bv 2 (Ae (AO 6) (Ae (AO 7) C8)))
  (Aa (BX (BC (AX FT (A3 (A2 7) A7))))
  (AQ (mOp Bg (A2 2) (Af (A3 (A2 4) (A3 (A2 6) A7)))))
  AU))))
 (AQ (mC .non)))))
def Dz:FD:=mkF 3 8 YT
abbrev Kk:Df:=⟨"_law_shape",OT,["_law_works","_law_thing","_law_path"],2,Dz⟩
abbrev Mg:Stmt:=top 40
def RZ:FnScope ["_law_works","_law_table","_law_path","_law_k","_law_number","_law_w","_law_entry","_law_above"] ["_law_works","_law_table","_law_path"] (AA Mg):=B0 (by kernel_rfl)
@[reducible] def Ul:MS:=(AD (Aa (mOr (AF (Aw false (mOp gIx (mOp gIx (A2 1) (mC (.int 0))) (mC (.int 0))))) (AF (mOp gGt (mOp gIx (mOp gIx (A2 1) (mC (.int 0))) (mC (.int 0))) (mOp gIx (mOp gIx (A2 0) (mC (.int 0))) (mC (.int 1))))))
 (AQ (Af (A3 (mOp Bg (A2 2) (Af (A3 (mC (.int 0)) (A3 (mC (.int 0)) A7)))) (A3 (mC (.str "begin")) A7))))
 AU)
 (AD (By (Bz (E9 (AB 0 EI (A3 (A2 0) A7)))) (Bv 2 (Ae (AO 3) (Ae (AO 4) C8)))
  (By (Bz (BY (mOp gIx (A2 1) (mOp AN (A2 3) (mC (.int 1)))))) (Bv 2 (Ae (AO 5) (Ae (AO 6) C8)))
  (AD (AW 7 (mOp gIx (mOp gIx (A2 1) (A2 3)) (A2 5)))
 (AD (Aa (DY (AF (Aw true (A2 7))) (mOr (AF (Aw false (A2 6))) (AF (mOp gGt (A2 6) (A2 7)))))
  (AQ (Af (A3 (mOp Bg (A2 2) (Af (A3 (mOp AN (A2 3) (mC (.int 1))) (A3 (A2 5) A7)))) (A3 (mC (.str "kept")) A7))))
  AU)
 (AD (AW 7 (AX F6 (A3 (mOp gIx (A2 1) (A2 3)) (A3 (A2 5) (A3 (mOp gIx (A2 0) (A2 4)) A7)))))
 (Aa (DY (AF (Aw true (A2 7))) (mOr (AF (Aw false (A2 6))) (AF (mOp gGt (A2 6) (A2 7)))))
  (AQ (Af (A3 (mOp Bg (A2 2) (Af (A3 (mOp AN (A2 3) (mC (.int 1))) (A3 (A2 5) A7)))) (A3 (mC (.str "more")) A7))))
  AU))))))
 (AQ (mC .non))))
def Ha:FD:=mkF 3 8 Ul
abbrev JU:Df:=⟨"_law_places",Mg,["_law_works","_law_table","_law_path"],2,Ha⟩
abbrev Rg:Stmt:=top 41
def Wf:FnScope ["_law_table"] ["_law_table"] (AA Rg):=B0 (by kernel_rfl)
@[reducible] def bu:MS:=(AQ (CJ Ki (B9 2 [] (Bz (BY (mOp gIx (A2 0) (Fv (mC (.int 1)))))) (Bv 2 (Ae (AO 0) (Ae (AO 1) C8))) (AF (Aw true (A2 1))) (A2 0))))
def O6:FD:=mkF 1 1 bu
abbrev Ni:Df:=⟨"_law_last",Rg,["_law_table"],1,O6⟩
abbrev VX:Stmt:=top 42
def ZO:FnScope ["_law_table","_law_k","_law_w","_law_entry","_law_row"] ["_law_table","_law_k","_law_w","_law_entry"] (AA VX):=B0 (by kernel_rfl)
@[reducible] def eL:MS:=(AD (AW 4 (mOp gIx (A2 0) (A2 1)))
 (AQ (mOp AN (mOp Bg (Bw (A2 0) Av (BK (A2 1))) (Af (A3 (mOp AN (mOp Bg (Bw (A2 4) Av (BK (A2 2))) (Af (A3 (A2 3) A7))) (Bw (A2 4) (BK (mOp AN (A2 2) (mC (.int 1)))) Av)) A7))) (Bw (A2 0) (BK (mOp AN (A2 1) (mC (.int 1)))) Av))))
def KB:FD:=mkF 4 5 eL
abbrev M7:Df:=⟨"_law_put",VX,["_law_table","_law_k","_law_w","_law_entry"],1,KB⟩
abbrev Kw:Stmt:=top 43
def Pj:FnScope ["_law_source_here","_law_table","_law_k","_law_w","_law_step","_law_entry","_law_some"] ["_law_source_here","_law_table"] (AA Kw):=B0 (by kernel_rfl)
@[reducible] def SL:MS:=(AD (AW 2 (AB 2 Ab (A3 (A2 0) (A3 (mCB (f1 true B1) (A3 (A2 1) A7)) A7))))
 (AD (AW 3 (AB 2 Ab (A3 (A2 0) (A3 (mCB (f1 true B1) (A3 (mOp gIx (A2 1) (A2 2)) A7)) A7))))
 (AD (AW 4 (AB 2 Ab (A3 (A2 0) (A3 (mC (.int 5)) A7))))
 (AD (AW 5 (mIf (AF (Aw true (mOp gIx (mOp gIx (A2 1) (A2 2)) (A2 3)))) (mOp gIx (mOp gIx (A2 1) (A2 2)) (A2 3)) (mC (.int 30))))
 (AD (AW 6 (Bx (Co (A3 (mC .non) (A3 (mOp AN (A2 5) (mC (.int 1))) (A3 (mOp BA (A2 5) (mC (.int 1))) (A3 (mOp gIx (mOp gIx (A2 1) (A2 2)) (mOp G0 (mOp AN (A2 3) (mC (.int 1))) (mCB (f1 true B1) (A3 (mOp gIx (A2 1) (A2 2)) A7)))) (A3 (mOp gIx (mOp gIx (A2 1) (mOp BA (A2 2) (mC (.int 1)))) (A2 3)) A7))))))))
 (AQ (AX KB (A3 (A2 1) (A3 (A2 2) (A3 (A2 3) (A3 (mOp gIx (A2 6) (A2 4)) A7)))))))))))
def Cw:FD:=mkF 2 7 SL
abbrev II:Df:=⟨"_law_stepped",Kw,["_law_source_here","_law_table"],2,Cw⟩
abbrev VY:Stmt:=top 44
def ZP:FnScope ["_law_source_here","_law_table","_law_k","_law_w","_law_great","_law_some"] ["_law_source_here","_law_table"] (AA VY):=B0 (by kernel_rfl)
@[reducible] def eM:MS:=(AD (AW 2 (AB 2 Ab (A3 (A2 0) (A3 (mCB (f1 true B1) (A3 (A2 1) A7)) A7))))
 (AD (AW 3 (AB 2 Ab (A3 (A2 0) (A3 (mCB (f1 true B1) (A3 (mOp gIx (A2 1) (A2 2)) A7)) A7))))
 (AD (AW 4 (mOp Ii (mOp Ii (mOp Ii (mOp IG (mC (.int 10)) (mC (.int 60))) (mOp IG (mC (.int 10)) (mC (.int 60)))) (mOp IG (mC (.int 10)) (mC (.int 60)))) (mOp IG (mC (.int 10)) (mC (.int 19)))))
 (AD (AW 5 (Bx (Co (A3 (mC (.bl true)) (A3 (mC (.bl false)) (A3 (mC (.str "0")) (A3 (Af A7) (A3 (Bx (Co (A3 (mC (.int 3)) A7))) (A3 (Af (A3 (mC (.int 1)) A7)) (A3 (A2 4) (A3 (mOp BA (mC (.int 0)) (A2 4)) A7)))))))))))
 (AQ (AX KB (A3 (A2 1) (A3 (A2 2) (A3 (A2 3) (A3 (mOp gIx (A2 5) (AB 2 Ab (A3 (A2 0) (A3 (mC (.int 8)) A7)))) A7))))))))))
def Hb:FD:=mkF 2 6 eM
abbrev Qb:Df:=⟨"_law_odd",VY,["_law_source_here","_law_table"],2,Hb⟩
abbrev Jm:Stmt:=top 45
def O8:FnScope ["_law_source_here","_law_table","_law_way","_law_k","_law_j","_law_which","_law_row","_law_some"] ["_law_source_here","_law_table"] (AA Jm):=B0 (by kernel_rfl)
@[reducible] def Q8:MS:=(AD (AW 2 (AB 2 Ab (A3 (A2 0) (A3 (mC (.int 9)) A7))))
 (AD (AW 3 (AB 2 Ab (A3 (A2 0) (A3 (mCB (f1 true B1) (A3 (A2 1) A7)) A7))))
 (AD (AW 4 (AB 2 Ab (A3 (A2 0) (A3 (mCB (f1 true B1) (A3 (A2 1) A7)) A7))))
 (AD (AW 5 (AB 2 Ab (A3 (A2 0) (A3 (mC (.int 6)) A7))))
 (AD (AW 6 (mOp gIx (A2 1) (A2 3)))
 (AD (Aa (AF (mOp gLt (A2 2) (mC (.int 2))))
  (AQ (mIf (AF (mOp gEq (A2 2) (mC (.int 0)))) (mOp Bg (Bw (A2 1) Av (BK (A2 3))) (Bw (A2 1) (BK (mOp AN (A2 3) (mC (.int 1)))) Av)) (mOp AN (Bw (A2 1) Av (BK (mOp AN (A2 3) (mC (.int 1))))) (Bw (A2 1) (BK (A2 3)) Av))))
  AU)
 (AD (Aa (AF (mOp gLt (A2 2) (mC (.int 5))))
  (AD (AW 7 (Bx (Co (A3 (Bw (A2 6) Av (BK (Fv (mC (.int 1))))) (A3 (mOp AN (A2 6) (Af (A3 (mC .non) A7))) (A3 (EU (Co (A3 (Bx (HE (A2 6))) (A3 (mC .non) (A3 (mC (.str "")) (A3 (mC (.int 0)) (A3 (mC (.bl true)) (A3 (Af A7) A7))))))) (A2 5)) A7))))))
 (AQ (mOp AN (mOp Bg (Bw (A2 1) Av (BK (A2 3))) (Af (A3 (mOp gIx (A2 7) (mOp BA (A2 2) (mC (.int 2)))) A7))) (Bw (A2 1) (BK (mOp AN (A2 3) (mC (.int 1)))) Av))))
  AU)
 (AD (Aa (AF (mOp gEq (A2 2) (mC (.int 5))))
  (AQ (Ib (A2 1) (Fv (mC (.int 1)))))
  AU)
 (AD (Aa (AF (mOp gEq (A2 2) (mC (.int 6))))
  (AQ (Bx (HE (A2 1))))
  AU)
 (AD (Aa (AF (mOp gEq (A2 2) (mC (.int 7))))
  (AQ (EU (Co (A3 (mC .non) (A3 (Af A7) (A3 (mC (.str "shape")) (A3 (mC (.int 0)) (A3 (mC (.bl true)) (A3 (Af (A3 (Af A7) A7)) A7))))))) (A2 5)))
  AU)
 (AQ (CJ Ez (B9 1 [3,1,4] (EV (A3 (mCB (f1 true B1) (A3 (A2 1) A7)) A7)) (AO 0) Cc (mIf (AF (mOp gEq (A2 0) (A2 1))) (mOp gIx (A2 2) (A2 3)) (mIf (AF (mOp gEq (A2 0) (A2 3))) (mOp gIx (A2 2) (A2 1)) (mOp gIx (A2 2) (A2 0)))))))))))))))))
def EG:FD:=mkF 2 8 Q8
abbrev HP:Df:=⟨"_law_reshaped",Jm,["_law_source_here","_law_table"],2,EG⟩
abbrev Rf:Stmt:=top 46
def We:FnScope ["_law_source_here","_law_works","_law_j","_law_way","_law_length","_law_coming","_law_cost","_law_due"] ["_law_source_here","_law_works"] (AA Rf):=B0 (by kernel_rfl)
@[reducible] def bt:MS:=(AD (AW 2 (AB 2 Ab (A3 (A2 0) (A3 (mCB (f1 true B1) (A3 (A2 1) A7)) A7))))
 (AD (AW 3 (AB 2 Ab (A3 (A2 0) (A3 (mC (.int 4)) A7))))
 (AD (ID (mOp gIx (A2 1) (A2 2)) (Bv 3 (Ae (AO 4) (Ae (AO 5) (Ae (AO 6) C8)))))
 (AD (AW 4 (EU (Co (A3 (mCB HM (A3 (mC (.int 20)) (A3 (mOp AN (A2 4) (mC (.int 1))) A7))) (A3 (mCB HN (A3 (mC (.int 1)) (A3 (mOp BA (A2 4) (mC (.int 1))) A7))) (A3 (A2 4) (A3 (A2 4) A7))))) (A2 3)))
 (AD (AW 7 (EU (Co (A3 (mOp gIx (A2 6) (mC (.int 1))) (A3 (mOp gIx (A2 6) (mC (.int 1))) (A3 (mCB HM (A3 (mC (.int 400)) (A3 (mOp AN (mOp gIx (A2 6) (mC (.int 1))) (mC (.int 1))) A7))) (A3 (mCB HN (A3 (Fv (mC (.int 99))) (A3 (mOp BA (mOp gIx (A2 6) (mC (.int 1))) (mC (.int 1))) A7))) A7))))) (A2 3)))
 (AQ (mOp AN (mOp Bg (Bw (A2 1) Av (BK (A2 2))) (Af (A3 (Af (A3 (A2 4) (A3 (A2 5) (A3 (Af (A3 (mC (.str "miss")) (A3 (A2 7) (A3 (mOp gIx (A2 6) (mC (.int 2))) A7)))) A7)))) A7))) (Bw (A2 1) (BK (mOp AN (A2 2) (mC (.int 1)))) Av))))))))
def KC:FD:=mkF 2 8 bt
abbrev Nh:Df:=⟨"_law_near",Rf,["_law_source_here","_law_works"],2,KC⟩
abbrev Me:Stmt:=top 47
def RX:FnScope ["_law_source_here","_law_works","_law_table","_law_way"] ["_law_source_here","_law_works","_law_table","_law_way"] (AA Me):=B0 (by kernel_rfl)
@[reducible] def Uj:MS:=(AD (Aa (AF (mOp gEq (A2 3) (mC (.int 0))))
 (AQ (A2 2))
 AU)
 (AD (Aa (AF (mOp gLt (A2 3) (mC (.int 4))))
  (AQ (AX Cw (A3 (A2 0) (A3 (A2 2) A7))))
  AU)
 (AD (Aa (AF (mOp gEq (A2 3) (mC (.int 4))))
  (AQ (AX Cw (A3 (A2 0) (A3 (AX Cw (A3 (A2 0) (A3 (A2 2) A7))) A7))))
  AU)
 (AD (Aa (AF (mOp gEq (A2 3) (mC (.int 5))))
  (AQ (AX Hb (A3 (A2 0) (A3 (A2 2) A7))))
  AU)
 (AD (Aa (AF (mOp gEq (A2 3) (mC (.int 6))))
  (AQ (AX Hb (A3 (A2 0) (A3 (AX Cw (A3 (A2 0) (A3 (A2 2) A7))) A7))))
  AU)
 (AD (Aa (AF (mOp gEq (A2 3) (mC (.int 7))))
  (AQ (AX EG (A3 (A2 0) (A3 (A2 2) A7))))
  AU)
 (AD (Aa (AF (mOp gEq (A2 3) (mC (.int 8))))
  (AQ (AX EG (A3 (A2 0) (A3 (AX Hb (A3 (A2 0) (A3 (A2 2) A7))) A7))))
  AU)
 (AQ (AB 2 F5 (A3 (A2 0) (A3 (AB 2 KC (A3 (A2 0) (A3 (A2 1) A7))) (A3 (mC (.int 0)) A7))))))))))))
def HY:FD:=mkF 4 4 Uj
abbrev JS:Df:=⟨"_law_spoilt",Me,["_law_source_here","_law_works","_law_table","_law_way"],4,HY⟩
abbrev Mh:Stmt:=top 48
def Ra:FnScope ["_law_works","_law_thing","_law_path","_law_amiss"] ["_law_works","_law_thing"] (AA Mh):=B0 (by kernel_rfl)
@[reducible] def Um:MS:=(AD (AW 2 (AX Dz (A3 (A2 0) (A3 (A2 1) (A3 (Af A7) A7)))))
 (AD (Aa (AF (Aw true (A2 2)))
  (AQ (Af (A3 (mC (.str "no")) (A3 (A2 2) (A3 (mC (.str "shape")) A7)))))
  AU)
 (AD (AW 3 (AB 0 Ha (A3 (A2 0) (A3 (A2 1) (A3 (Af A7) A7)))))
 (AD (Aa (AF (Aw true (A2 3)))
  (AQ (Af (A3 (mC (.str "no")) (A3 (mOp gIx (A2 3) (mC (.int 0))) (A3 (mOp gIx (A2 3) (mC (.int 1))) A7)))))
  AU)
 (AQ (Af (A3 (mC (.str "told")) (A3 (mOp BA (CJ Fy (B9 1 [] (BY (A2 0)) (AO 0) Cc (mOp gIx (mOp gIx (A2 0) (mC (.int 2))) (mC (.int 2))))) (AB 0 O6 (A3 (A2 1) A7))) A7))))))))
def D9:FD:=mkF 2 4 Um
abbrev JV:Df:=⟨"_law_judged",Mh,["_law_works","_law_thing"],3,D9⟩
abbrev Rc:Stmt:=top 49
def Wc:FnScope ["_law_works","_law_thing","_law_found","e"] ["_law_works","_law_thing"] (AA Rc):=B0 (by kernel_rfl)
@[reducible] def bq:MS:=(AD (AW 2 (mC .non))
 (AD (FO ["NoPaper"] (some 3) (AQ (Af (A3 (mC (.str "told")) (A3 (AX Cu (A3 (A2 0) (A3 (A2 1) A7))) A7))))
  (AQ (Ia (mC (.str "told")) (AX Be (A3 (A2 0) (A3 (A2 1) A7)))))
  (AW 2 (A2 3)))
 (AD (Aa (mOr (BX (BC (FC [("NoPaper",true)] (A2 2)))) (BX (BC (FC [("NoPaper",true)] (A2 2)))))
  (AQ (Af (A3 (mC (.str "other")) A7)))
  AU)
 (AD (Aa (BC (FC [("NoPaper",false)] (A2 2)))
  (AQ (Af (A3 (mC (.str "other")) A7)))
  AU)
 (AQ (Af (A3 (mC (.str "no")) (A3 (JO ["NoPaper"] "path" (A2 2)) (A3 (JO ["NoPaper"] "word" (A2 2)) A7)))))))))
def GA:FD:=mkF 2 4 bq
abbrev Ng:Df:=⟨"_law_told",Rc,["_law_works","_law_thing"],7,GA⟩
abbrev VZ:Stmt:=top 50
def ZQ:FnScope ["_law_script","_law_source_here","_law_ways","_law_most","_law_works","_law_table","_law_way","_law_thing","_law_kept"] ["_law_script"] (AA VZ):=B0 (by kernel_rfl)
@[reducible] def eO:MS:=(AD (AW 1 (AX HZ (A3 (A2 0) A7)))
 (AD (AW 2 (Bx (B9 1 [1] (EV (A3 (mC (.int 5)) A7)) (AO 0) Cc (AB 2 Ab (A3 (A2 1) (A3 (mC (.int 10)) A7))))))
 (AD (AW 3 (EU (Co (A3 (mC (.int 3)) (A3 (mC (.int 5)) (A3 (mC (.int 8)) A7)))) (AB 2 Ab (A3 (A2 1) (A3 (mC (.int 3)) A7)))))
 (AD (AW 4 (AB 2 EJ (A3 (A2 1) (A3 (A2 3) A7))))
 (AD (AW 5 (AB 2 F5 (A3 (A2 1) (A3 (A2 4) (A3 (EU (Co (A3 (mC (.int 0)) (A3 (mC (.int 1)) (A3 (mC (.int 12)) A7)))) (AB 2 Ab (A3 (A2 1) (A3 (mC (.int 3)) A7)))) A7)))))
 (AD (By (E9 (A2 2)) (AO 6)
  (AD (AW 7 (AX HY (A3 (A2 1) (A3 (A2 4) (A3 (A2 5) (A3 (A2 6) A7))))))
 (AD (AW 8 (mCB EA (A3 (A2 7) A7)))
 (Aa (mOr (BX (BC (AB 0 Ip (A3 (AX GA (A3 (A2 4) (A3 (A2 7) A7))) (A3 (AX D9 (A3 (A2 4) (A3 (A2 7) A7))) A7))))) (AF (mOp gNe (mCB EA (A3 (A2 7) A7)) (A2 8))))
  (AQ (mC (.bl false)))
  AU))))
 (AQ (mC (.bl true)))))))))
def Rw:FD:=mkF 1 9 eO
abbrev Qc:Df:=⟨"law",VZ,["_law_script"],8,Rw⟩
set_option maxHeartbeats 0 in
def oks{E:EnK}(B:BltA E.mg)(c0:Cl E "NoPaper" ["path","word"])(c1:Fx E ["NoPaper"] "path")(c2:Fx E ["NoPaper"] "word")(c3:Hx E "BenchError" ["NoPaper"])(c4:Itx E ["NoBack","NoRow","NoRule","NoText","NoWish","NoWork","TooMany"] [("NoPaper",false)])(c5:Iv E [("NoPaper",true)])(c6:Ix E "NoPaper" [("NoPaper",true)]):(Dn E Em->Kn E Em)/\
 (Dn E Di->Kn E Di)/\
 (Dn E FE->Kn E FE)/\
 (Dn E G5->Kn E FE->Kn E G5)/\
 (Dn E D6->Kn E D6)/\
 (Dn E GT->Kn E GT)/\
 (Dn E CM->Kn E G5->Kn E D6->Kn E CM)/\
 (Dl E F2 ⟨65,41,65,70⟩->Kn E F2)/\
 (Dn E CN->Kn E GT->Kn E CN)/\
 (Dn E Dv->Kn E Dv)/\
 (Dn E EB->Kn E EB)/\
 (Dn E Cf->Kn E Cf)/\
 (Dn E E1->Kn E Em->Kn E Di->Kn E CN->KnX E E1)/\
 (Dn E DK->Kn E Em->Kn E Di->Kn E CN->Kn E DK)/\
 (Dn E F8->Kn E Dv->Kn E EB->KnX E F8)/\
 (Dn E Dh->Kn E Dv->Kn E EB->Kn E Dh)/\
 (Dn E Dm->Kn E CM->Kn E F2->Kn E Dv->Kn E Dh->KnX E F8->KnX E Dm)/\
 (Dn E D7->Kn E CM->Kn E F2->Kn E Dv->Kn E Dh->Kn E D7)/\
 (Dn E Fg->Kn E CM->Kn E CN->Kn E Cf->Kn E DK->Kn E D7->KnX E E1->KnX E Dm->KnX E Fg)/\
 (Dn E G6->Kn E CM->Kn E CN->Kn E Cf->Kn E DK->Kn E D7->Kn E G6)/\
 (Dn E JT->Kn E JT)/\
 (Dn E Dc->Kn E Dc)/\
 (Dn E G7->Kn E Dc->Kn E G7)/\
 (Dn E Kl->Kn E Kl)/\
 (Dn E FR->Kn E FR)/\
 (Dn E GN->Kn E GN)/\
 (Dn E Nj->Kn E Dc->Kn E Nj)/\
 (Dn E GM->Kn E Dc->Kn E FR->Kn E GN->Kn E Nj->Kn E GM)/\
 (Dn E HQ->Kn E HQ)/\
 (Dn E Kk->Kn E HQ->Kn E Kk)/\
 (Dn E JU->Kn E FR->Kn E GN->Kn E JU)/\
 (Dn E Ni->Kn E Ni)/\
 (Dn E M7->Kn E M7)/\
 (Dn E II->Kn E Dc->Kn E M7->Kn E II)/\
 (Dn E Qb->Kn E Dc->Kn E M7->Kn E Qb)/\
 (Dn E HP->Kn E Dc->Kn E HP)/\
 (Dn E Nh->Kn E Dc->Kn E Nh)/\
 (Dn E JS->Kn E GM->Kn E II->Kn E Qb->Kn E HP->Kn E Nh->Kn E JS)/\
 (Dn E JV->Kn E Kk->Kn E JU->Kn E Ni->Kn E JV)/\
 (Dn E Ng->Kn E G6->KnX E Fg->Kn E Ng)/\
 (Dn E Qc->Kn E JT->Kn E Dc->Kn E G7->Kn E Kl->Kn E GM->Kn E JS->Kn E JV->Kn E Ng->Kn E Qc):=by
 refine⟨λD=>okK D Md rfl rfl λ_ _ _ _ _ _ _ hr=>?_,
  λD=>okK D KO rfl rfl λ_ _ _ _ _ _ _ hr=>?_,
  λD=>okK D KM rfl rfl λ_ _ _ _ _ _ _ hr=>?_,
  λD _=>okK D La rfl rfl λ_ _ _ _ _ _ _ hr=>?_,
  λD=>okK D Gb rfl rfl λ_ _ _ _ _ _ _ hr=>?_,
  λD=>okK D Mc rfl rfl λ_ _ _ _ _ _ _ hr=>?_,
  λD _ _=>okK D KN rfl rfl λ_ _ _ _ _ _ _ hr=>?_,
  λD=>okL D Pn rfl rfl λ_ _ _ _ LC _ _ _ _ _ _ hcd hr=>?_,
  λD _=>okK D KP rfl rfl λ_ _ _ _ _ _ _ hr=>?_,
  λD=>okK D Pk rfl rfl λ_ _ _ _ _ _ _ hr=>?_,
  λD=>okK D LZ rfl rfl λ_ _ _ _ _ _ _ hr=>?_,
  λD=>okK D Ht rfl rfl λ_ _ _ _ _ _ _ hr=>?_,
  λD _ _ _=>Q3 D Fo rfl rfl λ_ _ _ _ _ _ _ hr=>?_,
  λD _ _ _=>okK D Fo rfl rfl λ_ _ _ _ _ _ _ hr=>?_,
  λD _ _=>Q3 D Gc rfl rfl λ_ _ _ _ _ _ _ hr=>?_,
  λD _ _=>okK D Gc rfl rfl λ_ _ _ _ _ _ _ hr=>?_,
  λD _ _ _ _ _=>Q3 D FJ rfl rfl λ_ _ _ _ _ _ _ hr=>?_,
  λD _ _ _ _=>okK D FJ rfl rfl λ_ _ _ _ _ _ _ hr=>?_,
  λD _ _ _ _ _ _ _=>Q3 D Hc rfl rfl λ_ _ _ _ _ _ _ hr=>?_,
  λD _ _ _ _ _=>okK D Hc rfl rfl λ_ _ _ _ _ _ _ hr=>?_,
  λD=>okK D RY rfl rfl λ_ _ _ _ _ _ _ hr=>?_,
  λD=>okK D Wd rfl rfl λ_ _ _ _ _ _ _ hr=>?_,
  λD _=>okK D Lb rfl rfl λ_ _ _ _ _ _ _ hr=>?_,
  λD=>Nat.rec (motive:=λn=>Kn E ⟨"_law_alike",KQ,["_law_one","_law_due"],n,Ee n⟩) (ok0 D) (λn ih=>okK (j:=n) D Tn rfl (by omega) λ_ _ _ _ _ _ _ hr=>?_) 4,
  λD=>okK D O9 rfl rfl λ_ _ _ _ _ _ _ hr=>?_,
  λD=>okK D Pm rfl rfl λ_ _ _ _ _ _ _ hr=>?_,
  λD _=>okK D Wg rfl rfl λ_ _ _ _ _ _ _ hr=>?_,
  λD _ _ _ _=>okK D Pl rfl rfl λ_ _ _ _ _ _ _ hr=>?_,
  λD=>okK D OA rfl rfl λ_ _ _ _ _ _ _ hr=>?_,
  λD _=>okK D Tm rfl rfl λ_ _ _ _ _ _ _ hr=>?_,
  λD _ _=>okK D RZ rfl rfl λ_ _ _ _ _ _ _ hr=>?_,
  λD=>okK D Wf rfl rfl λ_ _ _ _ _ _ _ hr=>?_,
  λD=>okK D ZO rfl rfl λ_ _ _ _ _ _ _ hr=>?_,
  λD _ _=>okK D Pj rfl rfl λ_ _ _ _ _ _ _ hr=>?_,
  λD _ _=>okK D ZP rfl rfl λ_ _ _ _ _ _ _ hr=>?_,
  λD _=>okK D O8 rfl rfl λ_ _ _ _ _ _ _ hr=>?_,
  λD _=>okK D We rfl rfl λ_ _ _ _ _ _ _ hr=>?_,
  λD _ _ _ _ _=>okK D RX rfl rfl λ_ _ _ _ _ _ _ hr=>?_,
  λD _ _ _=>okK D Ra rfl rfl λ_ _ _ _ _ _ _ hr=>?_,
  λD _ _=>okK D Wc rfl rfl λ_ _ _ _ _ _ _ hr=>?_,
  λD _ _ _ _ _ _ _ _=>okK D ZQ rfl rfl λ_ _ _ _ _ _ _ hr=>?_⟩
 all_goals (refine' ⟨_,_⟩;rotate_left;repeat' (first
  |((with_reducible show QE _ _ _ _ _);first|exact qv _ _|(first|exact ak _|exact aW _|exact dk _|exact aa _)|((with_reducible show QE _ _ _ _ (mOp _ _ _));first|((with_reducible show QE _ _ _ _ (mOp gIx _ _));refine' dg _ _ _)|((with_reducible show QE _ _ _ _ (mOp D4 _ _));refine' Xl _ (W0 hr) _ _)|((with_reducible show QE _ _ _ _ (mOp AN _ _));refine' GD _ ((SH).or (N6 _)) (EO S3 Ob) _ _)|((with_reducible show QE _ _ _ _ (mOp BA _ _));refine' GD _ bU Zw _ _)|((with_reducible show QE _ _ _ _ (mOp HI _ _));refine' GD _ bY Zz _ _)|((with_reducible show QE _ _ _ _ (mOp G0 _ _));refine' GD _ bZ a0 _ _)|((with_reducible show QE _ _ _ _ (mOp HJ _ _));refine' GD _ YH XA _ _)|((with_reducible show QE _ _ _ _ (mOp Ii _ _));refine' GD _ YG X9 _ _)|((with_reducible show QE _ _ _ _ (mOp IG _ _));refine' GD _ bV Zy _ _)|((with_reducible show QE _ _ _ _ (mOp Bg _ _));refine' GD _ (((SH).or (N6 _)).or (YJ _)) (EO (EO S3 Ob) XB) _ _)|((with_reducible show QE _ _ _ _ (mOp gLe _ _));refine' My _ Vv Vh _ _)|((with_reducible show QE _ _ _ _ (mOp gEq _ _));refine' My _ ((Vw).or (Ol _ hr.units)) (EO Rz S0) _ _)|((with_reducible show QE _ _ _ _ (mOp gNe _ _));refine' My _ ((Vu).or (Ka _ hr.units)) (EO Rv Rx) _ _))|refine' aV _ _|((with_reducible show QE _ _ _ _ (Bx _));refine' ac _ _)|refine' ad _ _|((with_reducible show QE _ _ _ _ (AB _ _ _));first|refine' qcW _ (by assumption) hr _|refine' qcW _ (by assumption) (hr.in1.deeper _) _)|((with_reducible show QE _ _ _ _ (AX _ _));refine' qcG (by assumption) hr _)|((with_reducible show QE _ _ _ _ (CJ _ _));first|((with_reducible show QE _ _ _ _ (CJ JP _));refine' M2 _ (LQ _ rfl) Rq B.all L2.bt_all _)|((with_reducible show QE _ _ _ _ (CJ NO _));refine' M2 _ (LP _ rfl) Rp B.any L2.bt_any _)|((with_reducible show QE _ _ _ _ (CJ Fy _));refine' M2 _ ((LN _ rfl).or (K6 _ rfl)) Rn B.sum L2.bt_sum _)|((with_reducible show QE _ _ _ _ (CJ Ki _));refine' M2 _ ((LO _ rfl).or (K7 _ rfl)) Ro B.max L2.bt_max _)|((with_reducible show QE _ _ _ _ (CJ Ez _));refine' dh _ (J7 _) Mn B.tuple L2.bt_tuple _))|((with_reducible show QE _ _ _ _ (mCB _ _));first|((with_reducible show QE _ _ _ _ (mCB (f1 _ JP) _));refine' GE _ (LQ _ rfl) (KW Rq) B.all L2.bt_all _)|((with_reducible show QE _ _ _ _ (mCB (f1 _ NO) _));refine' GE _ (LP _ rfl) (KW Rp) B.any L2.bt_any _)|((with_reducible show QE _ _ _ _ (mCB (f1 _ Fy) _));refine' GE _ ((LN _ rfl).or (K6 _ rfl)) (KW Rn) B.sum L2.bt_sum _)|((with_reducible show QE _ _ _ _ (mCB (f1 _ B1) _));refine' GE _ (T1 _) (KW Zk) B.len L2.bt_len _)|((with_reducible show QE _ _ _ _ (mCB (f1 _ Ki) _));refine' GE _ ((LO _ rfl).or (K7 _ rfl)) (KW Ro) B.max L2.bt_max _)|((with_reducible show QE _ _ _ _ (mCB HN _));refine' GE _ (Sz rfl) Ww B.max L2.bt_max _)|((with_reducible show QE _ _ _ _ (mCB HM _));refine' GE _ (Sy rfl) Wv B.min L2.bt_min _)|((with_reducible show QE _ _ _ _ (mCB EA _));refine' GE _ (Qj _ hr.gd hr.units) U1 B.repr L2.bt_repr _)|((with_reducible show QE _ _ _ _ (mCB (f1 _ Ez) _));refine' di _ (J7 _) (KW Mn) B.tuple L2.bt_tuple _))|((with_reducible show QE _ _ _ _ (EU _ _));refine' ae _ _ _)|((with_reducible show QE _ _ _ _ (Bw _ _ _));refine' aX _ _ _ _)|((with_reducible show QE _ _ _ _ (Ib _ _));refine' Xh _ _)|refine' UL _ _ _ _|((with_reducible show QE _ _ _ _ (mMt _ _ _));first|((with_reducible show QE _ _ _ _ (mMt Du _ _));refine' df _ PySem.F.slot_list_append PySem.F.type_list_append LD Rm _ _))|refine' Xk _ _|((with_reducible show QE _ _ _ _ (Bj _ _));first|((with_reducible show QE _ _ _ _ (Bj .int _));refine' Js _ .int B.isinstance B.int _)|((with_reducible show QE _ _ _ _ (Bj .bool _));refine' Js _ .bool B.isinstance B.bool _)|((with_reducible show QE _ _ _ _ (Bj .str _));refine' Js _ .str B.isinstance B.str _)|((with_reducible show QE _ _ _ _ (Bj .tuple _));refine' Js _ .tuple B.isinstance B.tuple _))|((with_reducible show QE _ _ _ _ (Aw _ _));first|refine' ah _ _|refine' Xi _ _)|((with_reducible show QE _ _ _ _ (DU _ _));refine' ao _ _ _)|((with_reducible show QE _ _ _ _ (JN _ _));refine' db _ _ _)|((with_reducible show QE _ _ _ _ (FP _));refine' aZ _ _)|refine' aY _ _|((with_reducible show QE _ _ _ _ (FC _ _));first|refine' af (by assumption) B.isinstance _|refine' ag (by assumption) B.isinstance _|refine' Xj (by assumption) B.isinstance _)|((with_reducible show QE _ _ _ _ (JO _ _ _));refine' am (by assumption) _))
  |refine' Xm _ _ _|exact ap _
  |((with_reducible show QT _ _ _ _ _);first|((with_reducible show QT _ _ _ _ (AF (mOp _ _ _)));first|((with_reducible show QT _ _ _ _ (AF (mOp gLt _ _)));refine' Gg _ eD dU _ _)|((with_reducible show QT _ _ _ _ (AF (mOp gLe _ _)));refine' Gg _ Vv Vh _ _)|((with_reducible show QT _ _ _ _ (AF (mOp gGt _ _)));refine' Gg _ eE dX _ _)|((with_reducible show QT _ _ _ _ (AF (mOp gGe _ _)));refine' Gg _ eF dY _ _)|((with_reducible show QT _ _ _ _ (AF (mOp gEq _ _)));refine' Gg _ ((Vw).or (Ol _ hr.units)) (EO Rz S0) _ _)|((with_reducible show QT _ _ _ _ (AF (mOp gNe _ _)));refine' Gg _ ((Vu).or (Ka _ hr.units)) (EO Rv Rx) _ _))|refine' aE _ _|((with_reducible show QT _ _ _ _ (BC _));refine' UB _ _)|((with_reducible show QT _ _ _ _ (DY _ _));refine' QW.toT _)|((with_reducible show QT _ _ _ _ (mOr _ _));refine' QW.toT _)|((with_reducible show QT _ _ _ _ (AF (Aw _ _)));first|refine' aF _ _|refine' XH _ _)|((with_reducible show QT _ _ _ _ (AF (GI _ _ _)));refine' XJ _ (bW _ hr.units) _ _))
  |refine' XG _ _|refine' aC _ _|refine' aD _ _ _|refine' dZ _ _ _
  |((with_reducible show QN _ _ _ _ _);first|((with_reducible show QN _ _ _ _ (Ew _ _ _));refine' aG LC hcd hr B.sorted _ (λ_ _ _ _=>_))|refine' aN _ _|((with_reducible show QN _ _ _ _ (B9 _ _ _ _ _ _));refine' qnA _ (λ_ _ _=>_) (λ_ _ _=>_) (λ_ _ _=>_))|((with_reducible show QN _ _ _ _ (Ke _ _));refine' aO _ _ _)|((with_reducible show QN _ _ _ _ (NI _ _ _));refine' aM _ _ _ _)|((with_reducible show QN _ _ _ _ (Dp _));refine' Px _ B.sorted _)|((with_reducible show QN _ _ _ _ (IC _));refine' UH _ B.list _)|((with_reducible show QN _ _ _ _ (HE _));refine' Xa _ B.list _))
  |((with_reducible show QI _ _ _ _ _ _);first|((with_reducible show QI _ _ _ _ _ (EV _));refine' Xc _ B.range _)|((with_reducible show QI _ _ _ _ _ (BY _));refine' aQ _ _)|((with_reducible show QI _ _ _ _ _ (E9 _));refine' Xd _ _)|((with_reducible show QI _ _ _ _ _ (FA _));refine' aR _ _)|((with_reducible show QI _ _ _ _ _ (Bz _));first|refine' UI _ B.enumerate (S7 _ _)|refine' Xe _ B.enumerate _)|((with_reducible show QI _ _ _ _ _ (Fw _));refine' UJ _ B.enumerate _)|((with_reducible show QI _ _ _ _ _ (Kc _ _));refine' aP _ B.zip _ _))
  |refine' UD _ B.range _
  |((with_reducible show QR _ _ _ _ _ _);first|((with_reducible show QR _ _ _ _ _ (FA _));refine' aL _ _)|((with_reducible show QR _ _ _ _ _ (E9 _));refine' XW _ _)|((with_reducible show QR _ _ _ _ _ (BY _));refine' S7 _ _))
  |exact qgA
  |refine' aS _ rfl _
  |exact Xf _|refine' UK _ _ _
  |exact aU _|refine' aT _ _
  |exact XZ _|refine' XY _ _
  |exact XX _|refine' UF _ _ _ _
  |((with_reducible show QSs _ _ _ _ _);first|((with_reducible show QSs _ _ _ _ (AD _ _));refine' UC _ _ _)|(first|exact XN _|refine' XM _ _))
  |((with_reducible show QS _ _ _ _ _);first|((with_reducible show QS _ _ _ _ (AW _ (Bx (B9 _ _ _ _ _ _))));first|refine' fX _ (λ_ _ _=>_) (λ_ _ _=>_) (λ_ _ _=>_)|refine' qsA _)|((with_reducible show QS _ _ _ _ (AW _ _));refine' qsA _)|refine' da _ _ _ _|refine' aI _ _|refine' aJ _ rfl _ _ _|refine' XU _ _|((with_reducible show QS _ _ _ _ (GJ _ _ _));refine' XV _ (W0 hr) _ _ _)|refine' aK _ _ _|exact XS _|((with_reducible show QS _ _ _ _ Br);exact UE _)|((with_reducible show QS _ _ _ _ (FO _ (some _) _ _ _));refine' XQ (by assumption) _ _ (λ_=>_) (Gi (by kernel_rfl)) rfl))
  |((with_reducible show YXs _ _ _ _ _);first|((with_reducible show YXs _ _ _ _ (AD _ Br));refine' MB _ Kr)|((with_reducible show YXs _ _ _ _ (AD _ _));refine' MB _ _)|(first|exact WC|refine' WB _|exact Kr))
  |((with_reducible show YX _ _ _ _ _);first|((with_reducible show YX _ _ _ _ (DI _));refine' WG _)|refine' d7 _ _ _|((with_reducible show YX _ _ _ _ (DC _ _ _));refine' TK (by assumption) hr _)|((with_reducible show YX _ _ _ _ (EW _ _));refine' Z5 _ (WH _))|refine' Z3 _|refine' Z4 _ _ _)
  |((with_reducible show YXE _ _ _ _ _);first|refine' WD _|refine' TH _ (by assumption) hr _|refine' Qq (by assumption) hr _)
  | ((with_reducible show YXA _ _ _ _ _);first|((with_reducible show YXA _ _ _ _ (Ia _ _));refine' Qr _ _)|refine' TJ _)))
open Bd
structure Sp where
 cells:List Int
 a:Int
 rs:Int
 cn:Int
def C5(t:Sp):List (Key×D):=[(.inr "cells",.mu 0),(.inr "at",.im (.int t.a)),(.inr "rest",.im (.int t.rs)),(.inr "count",.im (.int t.cn))]
def sp(t:Sp):Hd:=[.lst (t.cells.map λi=>.im (.int i)),.dic (C5 t)]
@[simp] theorem sp0(t:Sp):(sp t)[0]?=some (.lst (t.cells.map λi=>.im (.int i))):=rfl
@[simp] theorem sp1(t:Sp):(sp t)[1]?=some (.dic (C5 t)):=rfl
@[simp] theorem iT(t t':Sp)(h:t'.cells=t.cells):(sp t).set 1 (.dic (C5 t'))=sp t':=by unfold sp;rw[h];rfl
def D1:(("cells":Str)="at")=False:=by simp[jC];decide
def CD:(("cells":Str)="rest")=False:=by simp[jC];decide
def Bl:(("cells":Str)="count")=False:=by simp[jC];decide
def D3:(("at":Str)="cells")=False:=by simp[jC];decide
def DQ:(("at":Str)="rest")=False:=by simp[jC];decide
def D2:(("at":Str)="count")=False:=by simp[jC];decide
def CA:(("rest":Str)="cells")=False:=by simp[jC];decide
def DP:(("rest":Str)="at")=False:=by simp[jC];decide
def C9:(("rest":Str)="count")=False:=by simp[jC];decide
def Bk:(("count":Str)="cells")=False:=by simp[jC];decide
def D0:(("count":Str)="at")=False:=by simp[jC];decide
def CC:(("count":Str)="rest")=False:=by simp[jC];decide
section
variable(t:Sp)(v:Int)
@[simp] theorem fQ:DM (C5 t) (.inr "cells")=some (.mu 0):=by simp[DM,C5]
@[simp] theorem iU:DM (C5 t) (.inr "at")=some (.im (.int t.a)):=by simp[DM,C5,D1,CD,Bl,D3,DQ,D2,CA,DP,C9,Bk,D0,CC]
@[simp] theorem gK:DM (C5 t) (.inr "rest")=some (.im (.int t.rs)):=by simp[DM,C5,D1,CD,Bl,D3,DQ,D2,CA,DP,C9,Bk,D0,CC]
@[simp] theorem fP:DM (C5 t) (.inr "count")=some (.im (.int t.cn)):=by simp[DM,C5,D1,CD,Bl,D3,DQ,D2,CA,DP,C9,Bk,D0,CC]
@[simp] theorem gu:E8 (C5 t) (.inr "at") (.im (.int v))=C5 { t with a:=v }:=by simp[E8,C5,D1,CD,Bl,D3,DQ,D2,CA,DP,C9,Bk,D0,CC]
@[simp] theorem fO:E8 (C5 t) (.inr "rest") (.im (.int v))=C5 { t with rs:=v }:=by simp[E8,C5,D1,CD,Bl,D3,DQ,D2,CA,DP,C9,Bk,D0,CC]
@[simp] theorem fE:E8 (C5 t) (.inr "count") (.im (.int v))=C5 { t with cn:=v }:=by simp[E8,C5,D1,CD,Bl,D3,DQ,D2,CA,DP,C9,Bk,D0,CC]
@[simp] theorem gv:(C5 t).length=4:=rfl
end
def o1:DJ 1073741827:=by unfold DJ;decide
def o2:DJ 2147483543:=by unfold DJ;decide
def o3:DJ 2147483497:=by unfold DJ;decide
def o4:K4 256:=by unfold K4;decide
def o5(j:Int):GG 611953 j:=FY (by decide) (by decide)
def o6(j:Int):GG 3 j:=FY (by decide) (by decide)
def o7(j:Int):GG 69069 j:=FY (by decide) (by decide)
def mx1(c n:Int):Int:=c%1073741827+611953*n
def mx2(x n:Int):Int:=(x*x+3*n+7)%2147483543
def mx3(x n:Int):Int:=(x*x+69069*n+1)%2147483497
def Y0(τ:Sp)(many:Int)(h0:0<many)(h1:many<1073741824)(n0:0<=τ.cn)(n1:τ.cn<=100000):∃r τ',Ab [.mu 1,.im (.int many)] (sp τ)=some (.im (.int r),sp τ')/\0<=r/\r<many/\τ'.cn=τ.cn+1:=by
 have hm:DJ many:=h0;have hv:K4 many:=⟨h0,h1⟩
 by_cases hl:τ.rs>0
 .refine⟨τ.rs%many,{ τ with cn:=τ.cn+1,rs:=τ.rs/many },?_,(FN many h0).1,(FN many h0).2,rfl⟩;simp[Ab,mkF,hl,hm,hv]
 .have key:∀cell:Int,(if τ.cells=[]then cell=11 else atI (τ.cells.map λi=>D.im (.int i)) (τ.a%(τ.cells.length:Int))=some (.im (.int cell))) ->
   ∃r τ',Ab [.mu 1,.im (.int many)] (sp τ)=some (.im (.int r),sp τ')/\0<=r/\r<many/\τ'.cn=τ.cn+1:=by
   intro cell hcell;have b1:=FN (x:=cell) 1073741827 (by decide);have b2:=FN (x:=mx1 cell (τ.cn+1)*mx1 cell (τ.cn+1)+3*(τ.cn+1)+7) 2147483543 (by decide);have c1:∀j,GG (mx1 cell (τ.cn+1)) j:=λj=>FY (by unfold mx1;omega) (by unfold mx1;omega);have c2:∀j,GG (mx2 (mx1 cell (τ.cn+1)) (τ.cn+1)) j:=λj=>FY (by unfold mx2;omega) (by unfold mx2;omega);by_cases hb:cell>=1000000000000000000/\τ.a+1<=(τ.cells.length:Int)
   .refine⟨cell%many,{ τ with cn:=τ.cn+1,a:=τ.a+1,rs:=cell/many },?_,(FN many h0).1,(FN many h0).2,rfl⟩;by_cases hc:τ.cells=[]
    .rw[j6 hc]at hcell;subst hcell;omega
    .rw[j7 hc]at hcell;have hl0:0<τ.cells.length:=FZ hc;have hl0':DJ (τ.cells.length:Int):=by unfold DJ;omega
     simp[Ab,mkF,hl,hm,hv,o1,o2,o3,o4,o5,o6,o7,po1,GI,pyD,FS,Fs,I.pys,Gs,hc,hcell,hl0',hb.1,hb.2,B1]
   .refine⟨mx3 (mx2 (mx1 cell (τ.cn+1)) (τ.cn+1)) (τ.cn+1)/256%many,{ τ with cn:=τ.cn+1,a:=τ.a+1 },?_,(FN many h0).1,(FN many h0).2,rfl⟩;have hb':1000000000000000000<=cell->¬ τ.a+1<=(τ.cells.length:Int):=λa b=>hb ⟨a,b⟩;unfold mx1 at c1 c2;unfold mx2 at c2;unfold mx3 mx2 mx1;by_cases hc:τ.cells=[]
    .rw[j6 hc]at hcell;subst hcell;simp only[Int.reduceMod]at c1 c2;simp[Ab,mkF,hl,hm,hv,o1,o2,o3,o4,o5,o6,o7,po1,GI,pyD,FS,Fs,I.pys,Gs,cq,hc,B1,c1,c2]
    .rw[j7 hc]at hcell;have hl0:0<τ.cells.length:=FZ hc;have hl0':DJ (τ.cells.length:Int):=by unfold DJ;omega
     by_cases hd:1000000000000000000<=cell
     .simp[Ab,mkF,hl,hm,hv,o1,o2,o3,o4,o5,o6,o7,po1,GI,pyD,FS,Fs,I.pys,Gs,hc,hcell,hl0',B1,c1,c2,hd,hb' hd]
     .simp[Ab,mkF,hl,hm,hv,o1,o2,o3,o4,o5,o6,o7,po1,GI,pyD,FS,Fs,I.pys,Gs,hc,hcell,hl0',B1,c1,c2,hd]
  by_cases hc:τ.cells=[]
  .exact key 11 (by rw[j6 hc])
  .obtain⟨c,e⟩:=fA hc τ.a;exact key c (by rw[j7 hc];exact e)
def T(k:Nat)(a b:MO):Prop:=∃τ:Sp,0<=τ.cn/\τ.cn+k<=100000/\sp τ=[a,b]
def tap:Tap T Ab where
 cl:=by
  rintro k a b ⟨τ,_,_,e⟩;cases e;simp[clO,F4,C5,GV,clD]
 le:=by
  rintro j k a b ⟨τ,h1,h2,e⟩ h;exact⟨τ,h1,by omega,e⟩
 pick:=by
  rintro k a b many ⟨τ,n0,n1,e⟩ h0 h1;obtain⟨r,τ',eq,p1,p2,c⟩:=Y0 τ many h0 h1 n0 (by push_cast at n1;omega);refine⟨r,.lst (τ'.cells.map λi=>.im (.int i)),.dic (C5 τ'),p1,p2,?_,τ',by omega,by push_cast at n1;omega,rfl⟩;rw[<- e];exact eq
def Tj(ns:List Int):WF HZ [.ro ns] [] λd x=>d=.mu 1/\∃a b,T 90000 a b/\x=[a,b]:=by
 obtain⟨cs,e⟩:=VE ns none (some 63);exact⟨.mu 1,_,by simp[HZ,mkF,e,Gk,E8,D1,CD,Bl,D3,DQ,D2,CA,DP,C9,Bk,D0,CC];rfl,rfl,_,_,⟨⟨cs,0,0,0⟩,(show(0:Int)<=0 by decide),(show(0:Int)+(90000:Nat)<=100000 by decide),rfl⟩,rfl⟩
structure Wm where
 len:Int
 com:Int
 due:Int
 wt:Int
def wmI(w:Wm):I:=.tup [.int w.len,.int w.com,.tup [.str "miss",.int w.due,.int w.wt]]
abbrev wmD(w:Wm):D:=.im (wmI w)
abbrev AR(ws:List Wm):I:=.tup (ws.map wmI)
def BF(ws:List Wm):(ws.map wmI).map D.im=ws.map wmD:=by rw[jh];rfl
def okM(B c:Int)(w:Wm):Prop:=(1<=w.len/\w.len<=20)/\w.com=c/\(-B<=w.due/\w.due<=B)/\0<=w.wt/\w.wt<=9
def BW(B c:Int)(ws:List Wm):Prop:=ws≠[]/\ws.length<=8/\(0<=c/\c<=60)/\∀w∈ws,okM B c w
def at3{r:Int}(h0:0<=r)(h1:r<3)(x y z:D):∃d,(d=x∨d=y∨d=z)/\atI [x,y,z] r=some d:=by
 have:r=0∨r=1∨r=2:=by omega
 rcases this with rfl|rfl|rfl
 .exact⟨x,.inl rfl,Eb (j:=0) rfl⟩
 .exact⟨y,.inr (.inl rfl),Eb (j:=1) rfl⟩
 .exact⟨z,.inr (.inr rfl),Eb (j:=2) rfl⟩
abbrev Lw(mo c lo hv sp:Int)(m:Int)(z8 z9 z10 z11 z12 z13:Option D):Ls:=[some (.mu 1),some (.im (.int mo)),some (.im (.int m)),some (.im (.int c)),some (.im (.int lo)),some (.im (.int hv)),some (.im (.int sp)),some (.mu 2),z8,z9,z10,z11,z12,z13]
inductive I_late_works_w(n k:Nat)(mo c lo hv sn:Int)(r:List D)(ls:Ls)(hd:Hd):Prop
 |mk (j:Nat) (ws:List Wm) (a b:MO) (z8 z9 z10 z11 z12 z13:Option D) (h0:r=Ar (j:Int) (k-j)) (h1:j<=k) (h2:ws.length=j) (h3:(∀w∈ws,okM 500 c w)) (h4:ls=Lw mo c lo hv sn (k:Int) z8 z9 z10 z11 z12 z13) (h5:hd=[a,b,.lst (ws.map wmD)]) (h6:T (n+10*(k-j)) a b):I_late_works_w n k mo c lo hv sn r ls hd
inductive J_d1(mo c lo hv sn:Int)(k j n:Nat)(way ln wt:Int)(z13:Option D)(ws:List Wm)(f:Fl)(x:Hd):Prop
 |mk (due:Int) (a b:MO) (h0:f=Fl.nx (Lw mo c lo hv sn (k:Int) (some (.im (.int (j:Int)))) (some (.im (.int way))) (some (.im (.int (1+ln)))) (some (.im (.int due))) (some (.im (.int wt))) z13)) (h1:x=[a,b,.lst (ws.map wmD)]) (h2:(-500<=due/\due<=500)) (h3:T (n+10*(k-(j+1))+5) a b):J_d1 mo c lo hv sn k j n way ln wt z13 ws f x
inductive J_d2(mo c lo hv sn:Int)(k j n:Nat)(way ln wt:Int)(z13:Option D)(ws:List Wm)(f:Fl)(x:Hd):Prop
 |mk (due:Int) (a b:MO) (h0:f=Fl.nx (Lw mo c lo hv sn (k:Int) (some (.im (.int (j:Int)))) (some (.im (.int way))) (some (.im (.int (1+ln)))) (some (.im (.int due))) (some (.im (.int wt))) z13)) (h1:x=[a,b,.lst (ws.map wmD)]) (h2:(-500<=due/\due<=500)) (h3:T (n+10*(k-(j+1))+4) a b):J_d2 mo c lo hv sn k j n way ln wt z13 ws f x
inductive J_d3(mo c lo hv sn:Int)(k j n:Nat)(way ln due wt:Int)(ws:List Wm)(f:Fl)(x:Hd):Prop
 |mk (w:Wm) (a b:MO) (h0:f=Fl.nx (Lw mo c lo hv sn (k:Int) (some (.im (.int (j:Int)))) (some (.im (.int way))) (some (.im (.int (1+ln)))) (some (.im (.int due))) (some (.im (.int wt))) (some (wmD w)))) (h1:x=[a,b,.lst (ws.map wmD)]) (h2:okM 500 c w) (h3:T (n+10*(k-(j+1))+3) a b):J_d3 mo c lo hv sn k j n way ln due wt ws f x
def NK(n:Nat){mo:Int}(m1:1<=mo)(m2:mo<=8):∀a b,T (n+100) a b->WF EJ [.mu 1,.im (.int mo)] [a,b] λd x=>∃i a' b' g,d=.im i/\(∃ws c,i=AR ws/\BW 500 c ws/\(ws.length:Int)<=mo)/\T n a' b'/\x=a'::b'::g:=by
 intro a b hT;unfold EJ;refine Ak rfl ?_;refine A8 (AK (A5 (A9 ?_)));refine tap.draw hT rfl (by first|decide|omega) (by first|decide|omega) λm a b hT pm qm=>?_;refine Az (A6 (A8 (AK ?_)));refine tap.draw hT rfl (by first|decide|omega) (by first|decide|omega) λc a b hT pc qc=>?_;refine A6 (A8 (AK (E3 (Bq (A1 (A9 (A1 (A9 (A1 (A9 (A4 ⟨Cp,?_⟩)))))))))));refine tap.draw hT rfl (by first|decide|omega) (by first|decide|omega) λr2 a b hT pr2 qr2=>?_;obtain⟨d2,hd2,ed2⟩:=at3 pr2 qr2 (.im (.int 20)) (.im (.int 5)) (.im (.int 2));refine⟨_,_,rfl,ed2,?_⟩;obtain⟨lo,rfl,hlo⟩:∃t,d2=.im (.int t)/\(2<=t/\t<=20):=by
  rcases hd2 with rfl|rfl|rfl<;>exact⟨_,rfl,by omega,by omega⟩
 refine A6 (A8 (AK (E3 (Bq (A1 (A9 (A1 (A9 (A1 (A9 (A4 ⟨Cp,?_⟩)))))))))));refine tap.draw hT rfl (by first|decide|omega) (by first|decide|omega) λr3 a b hT pr3 qr3=>?_;obtain⟨d3,hd3,ed3⟩:=at3 pr3 qr3 (.im (.int 9)) (.im (.int 3)) (.im (.int 1));refine⟨_,_,rfl,ed3,?_⟩;obtain⟨hv,rfl,hhv⟩:∃t,d3=.im (.int t)/\(1<=t/\t<=9):=by
  rcases hd3 with rfl|rfl|rfl<;>exact⟨_,rfl,by omega,by omega⟩
 refine A6 (A8 (AK (A5 (A9 (A5 (A5 (A0 rfl (A0 rfl ?_))))))));refine Z8 (FY (by omega) (by omega)) ?_;refine A5 (A9 ?_);refine tap.draw hT rfl (by first|decide|omega) (by first|decide|omega) λr4 a b hT pr4 qr4=>?_;refine Az ?_;refine WK ⟨by omega,by omega⟩ ?_;refine Az (A6 (A8 (AK (Bp (Bq (A4 ⟨Bs,A6 (A8 (Bn (J8 (A1 (A0 rfl (A4 ⟨_,rfl,?_⟩))))))⟩))))));have hsp:0<=(1+m)*lo/(1+r4)/\(1+m)*lo/(1+r4)<=160:=by
  have h1:0<=(1+m)*lo:=Int.mul_nonneg (by omega) (by omega);have h2:(1+m)*lo<=8*lo:=Int.mul_le_mul_of_nonneg_right (by omega) (by omega);refine⟨Int.ediv_nonneg h1 (by omega),?_⟩;have:(1+m)*lo/(1+r4)<=(1+m)*lo:=Int.ediv_le_self _ h1;omega
 generalize hS:2+(1+m)*lo/(1+r4)=sn at *;refine⟨FX (by omega) (by omega),?_⟩;obtain⟨k,hk⟩:=Int.eq_ofNat_of_zero_le (show 0<=1+m by omega);rw[hk,kB];change WP (B3 _ _ _ _ (Lw mo c lo hv sn (k:Int) none none none none none none) [a,b,.lst []]) _;have hT:T (n+10*(k-0)) a b:=tap.le hT (by omega);refine Bc (I_late_works_w n k mo c lo hv sn) ⟨0,[],a,b,none,none,none,none,none,none,rfl,by omega,rfl,by simp,rfl,rfl,hT⟩ ?_ ?_
 .rintro d r ls hd ⟨j,ws,a,b,z8,z9,z10,z11,z12,z13,er,hj,hl,hws,rfl,rfl,hT⟩;obtain⟨m',hm⟩:∃m,k-j=m+1:=by
   cases q:k-j with
   |zero=>rw[q]at er;cases er
   |succ m=>exact⟨m,rfl⟩
  rw[hm,Ar]at er;obtain⟨rfl,rfl⟩:=List.cons.inj er;have hT:T (n+10*(k-(j+1))+10) a b:=tap.le hT (by omega);refine⟨Lw mo c lo hv sn (k:Int) (some (.im (.int (j:Int)))) z9 z10 z11 z12 z13,rfl,?_⟩;have atw:∀r:Int,0<=r->r<j->∃w∈ws,atI (ws.map wmD) r=some (wmD w):=by
   intro r h0 h1;obtain⟨i,hi⟩:=Int.eq_ofNat_of_zero_le h0;have hi':i<ws.length:=by omega
   exact⟨ws[i],List.getElem_mem hi',Cs hi (by simp[hi'])⟩
  refine A8 (AK ?_);refine tap.draw hT rfl (by first|decide|omega) (by first|decide|omega) λway a b hT pway qway=>?_;refine A6 (A8 (AK (A5 (A9 ?_))));refine tap.draw hT rfl (by first|decide|omega) (by first|decide|omega) λln a b hT pln qln=>?_;refine Az (A6 (A8 (AK (A5 (A5 (A0 rfl (A9 (BI ?_))))))));refine tap.draw hT rfl (by first|decide|omega) (by first|decide|omega) λdu a b hT pdu qdu=>?_;refine Az (A6 (A8 (AK ?_)));refine tap.draw hT (many:=hv+1) (rest:=[.lst (ws.map wmD)]) (by simp) (by omega) (by omega) λwt a b hT pwt qwt=>A6 ?_;change WS _ (Lw mo c lo hv sn (k:Int) (some (.im (.int (j:Int)))) (some (.im (.int way))) (some (.im (.int (1+ln)))) (some (.im (.int (c-1+du)))) (some (.im (.int wt))) z13) [a,b,.lst (ws.map wmD)] _
  -- the due
  refine A8 (WP.mono (Q:=J_d1 mo c lo hv sn k j n way ln wt z13 ws) (AM (AG (A5 (A0 rfl (A9 (BJ ⟨_,rfl,λhc=>?_,λhc=>AI ⟨_,a,b,rfl,rfl,by omega,tap.le hT (by omega)⟩⟩)))))) ?_)
  .refine AK (A5 ?_);refine tap.draw hT rfl (by first|decide|omega) (by first|decide|omega) λr5 a b hT pr5 qr5=>?_;exact A9 (BI ⟨r5-99,a,b,rfl,rfl,by omega,tap.le hT (by omega)⟩)
  rintro f x ⟨due,a,b,rfl,rfl,hdu,hT⟩;refine A6 ?_;refine A8 (WP.mono (Q:=J_d2 mo c lo hv sn k j n way ln wt z13 ws) (AM (Fh (AG (A5 (A0 rfl (A9 (BJ ⟨_,rfl,?_⟩))))))) ?_)
  .by_cases h1:way=1
   .rw[j6 (by simpa using h1)];refine AG (A5 (A0 rfl (A9 (IT ⟨_,rfl,λhc=>?_,λhc=>AI ⟨due,a,b,rfl,rfl,hdu,tap.le hT (by omega)⟩⟩))));have hc:0<(j:Int):=by simpa using hc
    refine AK (A5 (A5 (A5 (A0 rfl ?_))));refine tap.draw hT (many:=(j:Int)) (rest:=[.lst (ws.map wmD)]) (by simp) (by omega) (by omega) λr a b hT pr qr=>?_;obtain⟨w,hw,ew⟩:=atw r pr qr;have okw:=hws w hw;refine AE rfl ew (A9 (AE (ds:=[.im (.int w.len),.im (.int w.com),.im (.tup [.str "miss",.int w.due,.int w.wt])]) rfl (EE _ _ _ _) (A9 (AE (ds:=[.im (.str "miss"),.im (.int w.due),.im (.int w.wt)]) rfl (GW _ _ _) ⟨w.due,a,b,rfl,rfl,okw.2.2.1,hT⟩))))
   .rw[j7 (by simpa using h1)];exact⟨(λh=>by cases h),λ_=>AI ⟨due,a,b,rfl,rfl,hdu,tap.le hT (by omega)⟩⟩
  rintro f x ⟨due,a,b,rfl,rfl,hdu,hT⟩;refine A6 ?_;refine A8 (AK (AV (A1 (A0 rfl (A1 (A0 rfl (A1 (AV (A1 (A9 (A1 (A0 rfl (A1 (A0 rfl (A4 ⟨Cp,A4 ⟨Cp,A6 ?_⟩⟩)))))))))))))));have okn:okM 500 c ⟨1+ln,c,due,wt⟩:=⟨by dsimp only;omega,rfl,hdu,by dsimp only;omega⟩
  have e0:AT [.im (.int (1+ln)),.im (.int c),AT [.im (.str "miss"),.im (.int due),.im (.int wt)]]=wmD ⟨1+ln,c,due,wt⟩:=rfl;rw[e0];change WS _ (Lw mo c lo hv sn (k:Int) (some (.im (.int (j:Int)))) (some (.im (.int way))) (some (.im (.int (1+ln)))) (some (.im (.int due))) (some (.im (.int wt))) (some (wmD ⟨1+ln,c,due,wt⟩))) [a,b,.lst (ws.map wmD)] _;refine A8 (WP.mono (Q:=J_d3 mo c lo hv sn k j n way ln due wt ws) (AM (Fh (AG (A5 (A0 rfl (A9 (BJ ⟨_,rfl,?_⟩))))))) ?_)
  .by_cases h1:way=2
   .rw[j6 (by simpa using h1)];refine AG (A5 (A0 rfl (A9 (IT ⟨_,rfl,λhc=>?_,λhc=>AI ⟨_,a,b,rfl,rfl,okn,tap.le hT (by omega)⟩⟩))));have hc:0<(j:Int):=by simpa using hc
    refine AK (A5 (A0 rfl ?_));refine tap.draw hT (many:=(j:Int)) (rest:=[.lst (ws.map wmD)]) (by simp) (by omega) (by omega) λr a b hT pr qr=>?_;obtain⟨w,hw,ew⟩:=atw r pr qr;exact AE rfl ew ⟨w,a,b,rfl,rfl,hws w hw,hT⟩
   .rw[j7 (by simpa using h1)];exact⟨(λh=>by cases h),λ_=>AI ⟨_,a,b,rfl,rfl,okn,tap.le hT (by omega)⟩⟩
  rintro f x ⟨w,a,b,rfl,rfl,okw,hT⟩;refine A6 (CL (PK (A0 rfl ⟨⟨_,rfl⟩,A1 (A0 rfl (A4 (Qu rfl (JR (by simp;omega)) ?_)))⟩)));exact⟨Ah _,j+1,ws++[w],a,b,_,_,_,_,_,_,by rw[show((j:Int)+1)=((j+1:Nat):Int) by omega,show m'=k-(j+1) by omega],by omega,by simp[hl],λz hz=>by rcases mem_append.mp hz with q|q;exact hws z q;rw[ju]at q;subst q;exact okw,rfl,by simp,tap.le hT (by omega)⟩
 .rintro ls hd ⟨j,ws,a,b,z8,z9,z10,z11,z12,z13,er,hj,hl,hws,rfl,rfl,hT⟩;have:j=k:=by
   cases q:k-j with
   |zero=>omega
   |succ m=>rw[q]at er;cases er
  subst this;refine A6 (AH (B5 (A1 (A0 rfl (A4 (Bf rfl rfl ?_))))));rw[<- BF,Cb];exact⟨_,a,b,_,rfl,⟨ws,c,rfl,⟨λz=>by rw[z]at hl;simp at hl;omega,by omega,by omega,hws⟩,by omega⟩,tap.le hT (by omega),rfl⟩
def F1(ns:List Int):BH (Ao ns)=some ns:=by
 induction ns with
 |nil=>rfl
 |cons n r ih=>simp[Ao]at ih ⊢
def E2{ws:List Wm}{k:Nat}(hk:k<ws.length):atI (ws.map wmD) (k:Int)=some (wmD ws[k]):=Cs rfl (by simp[hk])
def VG{B c:Int}(ok:BW B c ws):WF EH [.im (AR ws)] [] λd x=>d=.im (.int c):=by
 obtain⟨hne,hl8,hc,hws⟩:=ok;have hl0:0<ws.length:=FZ hne;unfold EH;refine Ak rfl ?_;refine A8 (AK (Ad (A1 (A0 rfl (A4 ⟨by simp,?_⟩)))));have e0:(ws[0]).com=c:=(hws _ (List.getElem_mem hl0)).2.1;have S:WF Dk [.im (AR ws)] [] λd x=>d=.im (.int c):=by
  unfold Dk;refine Ak rfl ?_;refine A8 (AK (A5 (A5 (A0 rfl (A9 (AE (by rw[CV,BF]) (E2 (k:=0) hl0) ?_))))));refine A9 (AE (ds:=[.im (.int (ws[0]).len),.im (.int (ws[0]).com),.im (.tup [.str "miss",.int (ws[0]).due,.int (ws[0]).wt])]) rfl (GW _ _ _) (A6 ?_));rw[e0];refine A8 (AM (BB (DL (BO (Cy (A0 rfl ⟨_,rfl,?_⟩))))));rw[BF];refine⟨Ai (by simp;omega),?_⟩;refine DB wmD (λ_=>some (.im (.bl true))) (λ_ ls=>∃x,ls=[some x,some (.im (.int c))]) _ (Ah _) ?_ ?_
  .rintro p hp ls hls;refine⟨[some (wmD p),some (.im (.int c))],by rcases hls with rfl|⟨_,x,rfl⟩<;>rfl,⟨_,rfl⟩,CS ⟨rfl,?_⟩⟩;rw[j6 rfl];refine⟨_,rfl,A5 (A5 (A0 rfl (A9 (AE (ds:=[.im (.int p.len),.im (.int p.com),.im (.tup [.str "miss",.int p.due,.int p.wt])]) rfl (GW _ _ _) (A0 rfl (BJ ⟨rfl,?_⟩))))))⟩;simp[(hws p hp).2.1]
  have e:(ws.filterMap λ_=>some (D.im (.bl true)))=blD (ws.map λ_=>true):=by simp[blD]
  rw[e];refine⟨_,by rw[JP,JY];rfl,_,rfl,?_⟩;refine⟨λ_=>?_,(λh=>by simp at h)⟩;exact AH (A0 rfl rfl)
 refine S.mono ?_;rintro d x rfl;refine⟨_,rfl,A6 ?_⟩;refine A8 (AM (AG ?_));refine WP.eq (z:=.im (.bl false)) (h:=[]) (by simp[Aw]) ⟨_,rfl,(λh=>by cases h),λ_=>AI (A6 ?_)⟩;exact AH (A0 rfl rfl)
def U2{B c:Int}(ok:BW B c ws):WF C3 [.im (AR ws),.im (.str "miss")] [] λd x=>d=.im .non:=by
 have hl8:=ok.2.1;unfold C3;refine Ak rfl ?_;refine AM (BB (DL (BO (Cy (A0 rfl ⟨_,rfl,?_⟩)))));rw[BF];refine⟨Ai (by simp;omega),?_⟩;refine DB wmD (λ_=>some (.im (.bl false))) (λ_ ls=>∃x,ls=[some x,some (.im (.str "miss"))]) _ (Ah _) ?_ ?_
 .rintro p hp ls hls;refine⟨[some (wmD p),some (.im (.str "miss"))],by rcases hls with rfl|⟨_,x,rfl⟩<;>rfl,⟨_,rfl⟩,CS ⟨rfl,?_⟩⟩;rw[j6 rfl];refine⟨_,rfl,A5 (A5 (A5 (A0 rfl (A9 (AE (ds:=[.im (.int p.len),.im (.int p.com),.im (.tup [.str "miss",.int p.due,.int p.wt])]) rfl (EE _ _ _ _) (A9 (AE (ds:=[.im (.str "miss"),.im (.int p.due),.im (.int p.wt)]) rfl (cw _ _) (A0 rfl (MF ⟨rfl,?_⟩)))))))))⟩;simp
 have e:(ws.filterMap λ_=>some (D.im (.bl false)))=blD (ws.map λ_=>false):=by simp[blD]
 rw[e];refine⟨_,by rw[NO,JY];rfl,_,rfl,?_⟩;exact⟨(λh=>by simp at h),λ_=>AI rfl⟩
def IF{B c:Int}(ok:BW B c ws):WF Bm [.im (AR ws)] [] λd x=>d=.im (.int c):=by
 unfold Bm;refine Ak rfl ?_;refine A8 (AK (Ad (A1 (A0 rfl (A4 ⟨by simp,(VG ok).mono ?_⟩)))));rintro d x rfl;refine⟨_,rfl,A6 ?_⟩;refine A8 (CL (Ad (A1 (A0 rfl (A1 (A9 (A4 ⟨by simp,(U2 ok).mono ?_⟩)))))));rintro d x rfl;exact⟨_,rfl,A6 (AH (A0 rfl rfl))⟩
def TQ(p:Wm):WF Eo [wmD p] [] λd x=>d=.im (.int p.wt):=by
 unfold Eo;refine Ak rfl ?_;refine AH (A5 (A5 (A0 rfl (A9 (AE (ds:=[.im (.int p.len),.im (.int p.com),.im (.tup [.str "miss",.int p.due,.int p.wt])]) rfl (EE _ _ _ _) ?_)))));refine GZ (A9 ⟨_,rfl,?_⟩);refine AE (ds:=[.im (.str "miss"),.im (.int p.due),.im (.int p.wt)]) (e:=.im (.int p.wt)) rfl ?_ rfl;rfl
abbrev Ag(ws:List Wm):Int:=(ws.map Wm.wt).sum
def Na{B c:Int}(ok:BW B c ws):WF CQ [.im (AR ws)] [] λd x=>d=.im (.int (Ag ws)):=by
 have hl8:=ok.2.1;unfold CQ;refine Ak rfl ?_;refine AH (DL (BO (Cy (A0 rfl ⟨_,rfl,?_⟩))));rw[BF];refine⟨Ai (by simp;omega),?_⟩;refine DB wmD (λw=>some (.im (.int w.wt))) (λ_ ls=>∃x,ls=[some x]) _ (Ah _) ?_ ?_
 .rintro p hp ls hls;refine⟨[some (wmD p)],by rcases hls with rfl|⟨_,x,rfl⟩<;>rfl,⟨_,rfl⟩,CS ⟨rfl,?_⟩⟩;rw[j6 rfl];refine⟨_,rfl,Ad (A1 (A0 rfl (A4 ⟨by simp[wmI],(TQ p).mono ?_⟩)))⟩;rintro d y rfl;exact⟨_,rfl,rfl,rfl⟩
 have e:(ws.filterMap λw=>some (D.im (.int w.wt)))=Ao (ws.map Wm.wt):=by simp[Ao]
 rw[e];exact⟨_,by unfold Fy;rw[F1];rfl,rfl⟩
def Cg(ws:List Wm)(k:Nat):Int:=(ws[k]?.map Wm.due).getD 0
def CH(ws:List Wm):List (Int×Int):=(List.range ws.length).map λk:Nat=>(Cg ws k,(k:Int))
def BM(ws:List Wm):List Int:=(Dg (CH ws)).map (·.2)
def Nk{ws:List Wm}{k:Nat}(hk:k<ws.length):(ws[k]).due=Cg ws k:=by simp[Cg,hk]
def IJ{B c:Int}(ok:BW B c ws)(hB:B<=2000){k:Nat}(hk:k<ws.length):pok (Cg ws k,(k:Int)):=by
 have:=(ok.2.2.2 _ (List.getElem_mem hk)).2.2.1;rw[Nk hk]at this;have:=ok.2.1;unfold pok;dsimp only;omega
def SA(hp:pok p)(hq:pok q)(h:Aj p=Aj q):p=q:=by
 unfold pok at hp hq;unfold Aj at h;have:p.1=q.1:=by omega
 have:p.2=q.2:=by omega
 exact Prod.ext (by assumption) (by assumption)
def bS{B c:Int}(ok:BW B c ws)(hB:B<=2000){ms:List Int}(pm:ms.Perm ((List.range ws.length).map λk:Nat=>(k:Int)))(pw:ms.Pairwise λa b=>Aj (Cg ws a.toNat,a)<=Aj (Cg ws b.toNat,b)):ms=BM ws:=by
 have p1:(ms.map λn:Int=>(Cg ws n.toNat,n)).Perm (CH ws):=by
  have:=pm.map λn:Int=>(Cg ws n.toNat,n)
  rw[jh]at this;exact this
 have p2:(Dg (CH ws)).Perm (CH ws):=kF ..;have w2:(Dg (CH ws)).Pairwise λa b=>Aj a<=Aj b:=by
  have:=List.pairwise_mergeSort (le:=λa b:Int×Int=>decide (Aj a<=Aj b)) (by intro a b c h1 h2;simp at *;omega) (by intro a b;simp;omega) (CH ws);exact this.imp (by simp)
 have w1:(ms.map λn:Int=>(Cg ws n.toNat,n)).Pairwise λa b=>Aj a<=Aj b:=pairwise_map.mpr pw;have okd:∀a∈CH ws,pok a:=λa ha=>by
  obtain⟨k,hk,rfl⟩:=mem_map.mp ha;exact IJ ok hB (by simpa using hk)
 have e:(ms.map λn:Int=>(Cg ws n.toNat,n))=Dg (CH ws):=(p1.trans p2.symm).eq_of_pairwise (le:=λa b=>Aj a<=Aj b) (λa b ha hb h1 h2=>SA (okd a (p1.mem_iff.mp ha)) (okd b (p2.mem_iff.mp hb)) (Int.le_antisymm h1 h2)) w1 w2;unfold BM;rw[<- e,jh];have:((λx:Int×Int=>x.2) ∘ λn:Int=>(Cg ws n.toNat,n))=id:=rfl;rw[this,List.map_id]
def LR{B c:Int}(ok:BW B c ws)(hB:B<=2000):WF F7 [.im (AR ws)] [] λd x=>d=.mu 0/\x=[.lst (Ao (BM ws))]:=by
 have hl8:=ok.2.1;unfold F7;refine Ak rfl ?_;refine AH (Bp (Qx (A1 (B5 (A1 (A0 rfl (A4 (Bf rfl rfl (A4 ⟨ws.length,by simp,by omega,λn=>(Cg ws n.toNat,n),λk hk=>IJ ok hB hk,λa ha b hb e=>?_,λk hk=>?_,λms pm pw=>?_⟩)))))))))
 .have:=SA (p:=(Cg ws ((a:Int)).toNat,(a:Int))) (q:=(Cg ws ((b:Int)).toNat,(b:Int))) (IJ ok hB ha) (IJ ok hB hb) e;have:=jy Prod.snd this;dsimp only at this;omega
 .have w:WE (Af (A3 (mOp gIx (mOp gIx (mOp gIx (A2 1) (A2 0)) (mC (.int 2))) (mC (.int 1))) (A3 (A2 0) A7))) [some (.im (.int (k:Int))),some (.im (AR ws))] [] λd x=>d=BG (Cg ws k,(k:Int))/\x=[]:=by
   refine AV (A1 (A5 (A5 (A5 (A0 rfl (A0 rfl (AE (by rw[CV,BF]) (E2 hk) (A9 (AE (ds:=[.im (.int (ws[k]).len),.im (.int (ws[k]).com),.im (.tup [.str "miss",.int (ws[k]).due,.int (ws[k]).wt])]) rfl (EE _ _ _ _) (A9 (AE (ds:=[.im (.str "miss"),.im (.int (ws[k]).due),.im (.int (ws[k]).wt)]) rfl (GW _ _ _) (A1 (A0 rfl (A4 ⟨DD,?_,rfl⟩))))))))))))));rw[Nk hk];rfl
  obtain⟨d,x,e,rfl,rfl⟩:=w;exact e
 .rw[bS ok hB pm pw];exact⟨rfl,rfl⟩
def Jx{B c:Int}(ok:BW B c ws)(hB:B<=2000):WF EI [.im (AR ws)] [] λd x=>d=.mu 0/\x=[.lst (Ao (BM ws))]:=by
 have hl8:=ok.2.1;unfold EI;refine Ak rfl ?_;refine AH (Bp (BO (ZB ?_)));have hs:WA (Dp (FA (B9 1 [0] (EV (A3 (mCB (f1 true B1) (A3 (A2 0) A7)) A7)) (AO 0) Cc (Af (A3 (mOp gIx (mOp gIx (mOp gIx (A2 1) (A2 0)) (mC (.int 2))) (mC (.int 1))) (A3 (A2 0) A7)))))) [some (.im (AR ws))] [] λds x=>ds=(Dg (CH ws)).map BG/\x=[]:=by
  have h0:WA (B9 1 [0] (EV (A3 (mCB (f1 true B1) (A3 (A2 0) A7)) A7)) (AO 0) Cc (Af (A3 (mOp gIx (mOp gIx (mOp gIx (A2 1) (A2 0)) (mC (.int 2))) (mC (.int 1))) (A3 (A2 0) A7)))) [some (.im (AR ws))] [] λds x=>ds=(CH ws).map BG/\x=[]:=by
   refine BO (J8 (A1 (B5 (A1 (A0 rfl (A4 (Bf rfl rfl (A4 ⟨(ws.length:Int),by simp,FX (by omega) (by omega),?_⟩))))))));rw[kB,Pt];refine⟨Ai (by simp[bp];omega),?_⟩;refine DB (λk:Nat=>D.im (.int (k:Int))) (λk=>some (BG (Cg ws k,(k:Int)))) (λ_ ls=>∃x,ls=[some x,some (.im (AR ws))]) _ (Ah _) ?_ ?_
   .rintro k hk ls hls;have hk:k<ws.length:=by simpa using hk
    refine⟨[some (.im (.int (k:Int))),some (.im (AR ws))],by rcases hls with rfl|⟨_,x,rfl⟩<;>rfl,⟨_,rfl⟩,CS ⟨rfl,?_⟩⟩;rw[j6 rfl];refine⟨_,rfl,AV (A1 (A5 (A5 (A5 (A0 rfl (A0 rfl (AE (by rw[CV,BF]) (E2 hk) (A9 (AE (ds:=[.im (.int (ws[k]).len),.im (.int (ws[k]).com),.im (.tup [.str "miss",.int (ws[k]).due,.int (ws[k]).wt])]) rfl (EE _ _ _ _) (A9 (AE (ds:=[.im (.str "miss"),.im (.int (ws[k]).due),.im (.int (ws[k]).wt)]) rfl (GW _ _ _) (A1 (A0 rfl (A4 ⟨DD,rfl,?_⟩))))))))))))))⟩;rw[Nk hk];rfl
   .simp[CH]
  obtain⟨ds,x,e,rfl,rfl⟩:=h0;refine⟨_,_,?_,rfl,rfl⟩;have okd:∀a∈CH ws,pok a:=λa ha=>by
   obtain⟨k,hk,rfl⟩:=mem_map.mp ha;exact IJ ok hB (by simpa using hk)
  have hl:(CH ws).length<64:=by simp[CH];omega
  simp only[Dp,FA,e,bind_some,jx,Jt];rw[j6 ⟨hl,okd⟩]
 refine WP.mono hs ?_;rintro ds x ⟨rfl,rfl⟩;refine⟨Ai (by simp[Dg,List.length_mergeSort,CH];omega),?_⟩;refine DB BG (λp=>some (.im (.int p.2))) (λ_ ls=>∃x,ls=[some x]) _ (Ah _) ?_ ?_
 .rintro p hp ls hls;refine⟨[some (BG p)],by rcases hls with rfl|⟨_,x,rfl⟩<;>rfl,⟨_,rfl⟩,CS ⟨rfl,?_⟩⟩;rw[j6 rfl];exact⟨_,rfl,A5 (A0 rfl (A9 (AE (ds:=[.im (.int p.1),.im (.int p.2)]) rfl (GW _ _ _) ⟨rfl,rfl⟩)))⟩
 .refine⟨rfl,?_⟩;simp[BM,Ao]
end T38
namespace Lt
def DX(E:List Int)(o:Option Int):Prop:=(o=none/\E=[])∨∃m,o=some m/\m∈E/\∀e∈E,m<=e
def j0(o:Option Int)(e:Int):Option Int:=match o with|none=>some e|some x=>if e<x then some e else some x
def Cd(kept more:Option Int):Option Int:=match more with|none=>kept|some y=>match kept with|some x=>if x<=y then some x else some y|none=>some y
def B4(l d:Int)(o:Option Int):Option Int:=match o with|none=>none|some x=>if x+l<=d then some (x+l)else none
abbrev En:=Nat×Nat×Int
abbrev Wx:=Int×Int×Nat
def more(i:Nat)(w:Wx)(E:List En):List En:=(E.filter λe=>decide (e.2.2+w.1<=w.2.1)).map λe=>(i+1,e.2.1+w.2.2,e.2.2+w.1)
def BZ(c:Int):List Wx->Nat->List En
 |_,0=>[(0,0,c)]
 |L,i+1=>BZ c L i++(match L[i]? with|some w=>more i w (BZ c L i)|none=>[])
def sel(w:Nat)(E:List En):List Int:=(E.filter λe=>decide (e.2.1=w)).map λe=>e.2.2
def As(x:Wx)(f:Nat->Option Int)(w:Nat):Option Int:=Cd (f w) (if w<x.2.2 then none else B4 x.1 x.2.1 (f (w-x.2.2)))
end Lt
namespace T38
open PySem L2 Bd
abbrev enD(q:D×Nat):D:=AT [.im (.int (q.2:Int)),q.1]
open Lt (DX Cd B4 As sel BZ Wx)
def IU{js:List I}{QE:D->Hd->Prop}(h0:is≠[])(h1:is.length+js.length<=100)(q:QE (.im (.tup (is++js))) hd):WP (AN (.im (.tup is)) (.im (.tup js)) hd) QE:=by
 have cat:W6 (is.map D.im) (js.map D.im):=⟨by simpa using h0,Ai (by simp;omega)⟩
 refine WP.eq (z:=.im (.tup (is++js))) (h:=hd) ?_ q;show(match HK (.im (.tup is)) (.im (.tup js)) hd with|some z=>some z|none=>DV (.im (.tup is)) (.im (.tup js)) hd)=_;rw[show HK (.im (.tup is)) (.im (.tup js)) hd=none from rfl];unfold DV;rw[show AS (.im (.tup is))=some (is.map D.im)from rfl,show AS (.im (.tup js))=some (js.map D.im)from rfl,bind_some,bind_some,j6 cat,<- map_append,Cb]
def TR{w:Nat}{F:List D->Hd->Option (D×Hd)}{rest:Hd}{QE:D->Hd->Prop}(e:m ls hd=some (ds,pre++rest))(hw:pre.length=w)(hc:BD w ds=true)(hp:pre.all (clO w)=true)
 (hF:WF F ds pre λd x=>∃k es pre' g,d=.mu k/\w<=k/\x=pre'++g/\pre'.length=w/\pre'.all (clO w)=true/\x[k]?=some (.lst es)/\BD w es=true/\QE (.mu (w+rest.length)) (pre'++rest++[.lst es])):WE (AB w F m) ls hd QE:=by
 subst hw;obtain⟨d,x,e2,k,es,pre',g,rfl,hk,rfl,lp,cp,e3,c3,q⟩:=hF;refine⟨_,_,?_,q⟩;have t1:(pre++rest).take pre.length=pre:=by simp
 have t2:(pre'++g).take pre.length=pre':=by rw[<- lp];simp
 have t3:¬ k<pre.length:=by omega
 simp only[AB,e,bind_some,t1,hc,hp,e2,fin,t2,cp,j7 t3,e3,c3,jB];simp
def GB{w:Nat}{F:List D->Hd->Option (D×Hd)}{QE:D->Hd->Prop}(h:WA m ls hd λds x=>∃pre rest,x=pre++rest/\pre.length=w/\BD w ds=true/\pre.all (clO w)=true/\WF F ds pre λd x=>∃k es pre' g,d=.mu k/\w<=k/\x=pre'++g/\pre'.length=w/\pre'.all (clO w)=true/\x[k]?=some (.lst es)/\BD w es=true/\QE (.mu (w+rest.length)) (pre'++rest++[.lst es])):WE (AB w F m) ls hd QE:=by
 obtain⟨ds,x,e,pre,rest,rfl,hw,hc,hp,hF⟩:=h;exact TR e hw hc hp hF
def ET:Option Int->I|none=>.non|some x=>.int x
abbrev Am(o:Option Int):D:=.im (ET o)
def Cm{neg:Bool}{QE:D->Hd->Prop}(h:WE ma ls hd λd x=>∃o:Option Int,d=Am o/\QE (.im (.bl (if o.isNone then !neg else neg))) x):WE (Aw neg ma) ls hd QE:=by
 obtain⟨d,x,e,o,rfl,q⟩:=h;refine⟨_,x,?_,q⟩;simp only[Aw,e,bind_some];cases o<;>rfl
def Au(N:Nat)(f:Nat->Option Int):I:=.tup ((List.range N).map λw=>ET (f w))
def E7{N:Nat}{f:Nat->Option Int}{w:Nat}(hw:w<N):atI (((List.range N).map λw=>ET (f w)).map D.im) (w:Int)=some (Am (f w)):=Cs rfl (by simp[hw])
def wx(p:Wm):Wx:=(p.len,p.due,p.wt.toNat)
def Vo{B c:Int}(ok:okM B c p){N:Nat}(f:Nat->Option Int){w:Nat}(hw:w<N):WF DS [.im (Au N f),wmD p,.im (.int (w:Int))] [] λd x=>d=Am (if w<(wx p).2.2 then none else B4 (wx p).1 (wx p).2.1 (f (w-(wx p).2.2))):=by
 have h0:=ok.2.2.2;unfold DS;refine Ak rfl ?_;refine A8 (MC (A0 rfl ⟨[some (.im (Au N f)),some (wmD p),some (.im (.int (w:Int))),some (.im (.int p.len)),some (.im (.int p.com)),some (.im (.str "miss")),some (.im (.int p.due)),some (.im (.int p.wt)),none],rfl,A6 ?_⟩));refine A8 (AM (Ef (AG (A5 (A0 rfl (A0 rfl (IS ⟨_,rfl,?_⟩)))))));by_cases q:w<(wx p).2.2
 .have q':(w:Int)<p.wt:=by unfold wx at q;dsimp only at q;omega
  rw[j6 (by simpa using q'),j6 q];exact⟨λ_=>AH (A9 rfl),λh=>by cases h⟩
 .have q':¬ (w:Int)<p.wt:=by unfold wx at q;dsimp only at q;omega
  rw[j7 (by simpa using q'),j7 q];have ek:(w:Int)-p.wt=((w-(wx p).2.2:Nat):Int):=by unfold wx at q ⊢;dsimp only at q ⊢;omega
  have hk:w-(wx p).2.2<N:=by omega
  refine AG (Cm (A5 (A0 rfl (A5 (A0 rfl (A0 rfl (BI ?_)))))));rw[ek];refine AE rfl (E7 hk) ⟨_,rfl,_,rfl,λh=>?_,λh=>AI (A6 ?_)⟩
  .have e:f (w-(wx p).2.2)=none:=by
    cases e:f (w-(wx p).2.2)with
    |none=>rfl
    |some x=>rw[e]at h;simp at h
   refine AH (A9 ?_);rw[e];rfl
  .obtain⟨x,e⟩:∃x,f (w-(wx p).2.2)=some x:=by
    cases e:f (w-(wx p).2.2)with
    |none=>rw[e]at h;simp at h
    |some x=>exact⟨x,rfl⟩
   refine A8 (AK (A5 (A5 (A0 rfl (A5 (A0 rfl (A0 rfl (BI ?_))))))));rw[ek];refine AE rfl (E7 hk) ?_;rw[e];refine A0 rfl (Az (A6 (AH (Ho (AG (A5 (A0 rfl (A0 rfl (Lo ⟨_,rfl,λh=>?_,λh=>?_⟩)))))))))
   .have h:x+p.len<=p.due:=by simpa using h
    refine A0 rfl ?_;unfold B4 wx;dsimp only;rw[j6 h];rfl
   .have h:¬ x+p.len<=p.due:=by simpa using h
    refine A9 ?_;unfold B4 wx;dsimp only;rw[j7 h];rfl
def nm(one other:Option Int):Bool:=match other with|none=>true|some y=>match one with|some x=>decide (x<=y)|none=>false
def Ds(a b:Option Int):WF Ca [Am a,Am b] [] λd x=>d=.im (.bl (nm a b)):=by
 unfold Ca;refine Ak rfl ?_;refine AH (Qv (AG (Cm (A0 rfl ⟨b,rfl,_,rfl,?_⟩))));cases b with
 |none=>rfl
 |some y=>
  rw[j7 (by simp)];refine FV (AG (Cm (A0 rfl ⟨a,rfl,_,rfl,?_⟩)));cases a with
  |none=>rfl
  |some x=>
   rw[j6 (by simp)];exact A5 (A0 rfl (A0 rfl (Lo rfl)))
open Lt (DX Cd B4 As sel BZ Wx)
def Ay(n N:Nat)(f:Nat->Nat->Option Int):I:=.tup ((List.range (n+1)).map λk=>Au N (f k))
def wxs(ws:List Wm):List Wx:=(BM ws).map λi=>(ws[i.toNat]?.map wx).getD (0,0,0)
def N5(ws:List Wm):(BM ws).Perm ((List.range ws.length).map λk:Nat=>(k:Int)):=by
 have p2:(Dg (CH ws)).Perm (CH ws):=kF ..;have:=p2.map (·.2);unfold BM;refine this.trans ?_;unfold CH;rw[jh];exact .refl _
def IY{i:Int}(h:i∈BM ws):∃k:Nat,k<ws.length/\i=k:=by
 obtain⟨k,hk,rfl⟩:=mem_map.mp ((N5 ws).mem_iff.mp h);exact⟨k,by simpa using hk,rfl⟩
def ES(ws:List Wm):(BM ws).length=ws.length:=by simpa using (N5 ws).length_eq
def fT(c:Int)(L:List Wx):Nat->Nat->Option Int
 |0,w=>if w=0 then some c else none
 |k+1,w=>match L[k]? with|some x=>As x (fT c L k) w|none=>none
def EY{B c:Int}(ok:BW B c ws):0<=Ag ws/\Ag ws<=72:=by
 have:∀vs:List Wm,(∀w∈vs,okM B c w)->0<=Ag vs/\Ag vs<=9*vs.length:=by
  intro vs
  induction vs with
  |nil=>intro _;simp[Ag]
  |cons v r ih=>
   intro h;have:=ih λw hw=>h w (by simp[hw]);have:=(h v (by simp)).2.2.2;simp only[Ag,jc,List.sum_cons,jK]at *;omega
 have:=this ws ok.2.2.2;have:=ok.2.1;omega
open Lt (DX Cd B4 As sel BZ Wx)
def wp_catN{is js:List I}{QE:D->Hd->Prop}(h1:is.length+js.length<=100)(q:QE (.im (.tup (is++js))) hd):WP (Bg (.im (.tup is)) (.im (.tup js)) hd) QE:=by
 by_cases h0:is=[]
 .subst h0;refine WP.eq (z:=.im (.tup js)) (h:=hd) ?_ q;show(match AN (.im (.tup [])) (.im (.tup js)) hd with|some z=>some z|none=>El (.im (.tup [])) (.im (.tup js)) hd)=_;have e:AN (.im (.tup [])) (.im (.tup js)) hd=none:=by
   show(match HK (.im (.tup [])) (.im (.tup js)) hd with|some z=>some z|none=>DV (.im (.tup [])) (.im (.tup js)) hd)=_;rw[show HK (.im (.tup [])) (.im (.tup js)) hd=none from rfl];unfold DV;rw[show AS (.im (.tup []))=some []from rfl,show AS (.im (.tup js))=some (js.map D.im)from rfl,bind_some,bind_some,j7 (λz=>z.1 rfl)]
  rw[e];unfold El;rw[show AS (.im (.tup []))=some []from rfl,show AS (.im (.tup js))=some (js.map D.im)from rfl,bind_some,bind_some,j6 rfl,Cb]
 .obtain⟨d,x,e,q⟩:=IU (QE:=QE) h0 h1 q;refine⟨d,x,?_,q⟩;show(match AN (.im (.tup is)) (.im (.tup js)) hd with|some z=>some z|none=>El (.im (.tup is)) (.im (.tup js)) hd)=_;rw[e]
def Cn{n N:Nat}{f:Nat->Nat->Option Int}{k:Nat}(hk:k<n+1):atI (((List.range (n+1)).map λk=>Au N (f k)).map D.im) (k:Int)=some (.im (Au N (f k))):=Cs rfl (by simp[hk])
def K1{n N m:Nat}{f:Nat->Nat->Option Int}(hN:N<=100)(hm:m<N)(h1:(f n m).isSome=true)(h2:∀w,(f n w).isSome=true->w<=m):WF Cj [.im (Ay n N f)] [] λd x=>d=.im (.int (m:Int)):=by
 unfold Cj;refine Ak rfl ?_;refine AH (DL (BO (Ck (Cy (A5 (A0 rfl (GZ (A9 ⟨_,rfl,AE rfl (e:=.im (Au N (f n))) ?_ ⟨(List.range N).map λw=>Am (f n w),by simp[Au],?_⟩⟩))))))))
 .rw[jh,range_succ,map_append];exact JZ _ _
 have ez:(((List.range N).map λw=>Am (f n w)).zipIdx.map λq=>AT [.im (.int (q.2:Int)),q.1])=(List.range N).map λw:Nat=>D.im (.tup [.int (w:Int),ET (f n w)]):=by
  refine List.ext_getElem (by simp) λi a b=>?_;simp
 rw[ez];refine⟨Ai (by simp;omega),?_⟩;refine DB (λw:Nat=>D.im (.tup [.int (w:Int),ET (f n w)])) (λw=>if(f n w).isSome=true then some (.im (.int (w:Int)))else none) (λ_ ls=>∃x y,ls=[some x,some y]) _ (Ah _) ?_ ?_
 .rintro w hw ls hls;refine⟨[some (.im (.int (w:Int))),some (Am (f n w))],by rcases hls with rfl|⟨_,x,y,rfl⟩<;>rfl,⟨_,_,rfl⟩,?_⟩;refine AG (Cm (A0 rfl ⟨f n w,rfl,_,rfl,rfl,?_⟩));cases hx:f n w with
  |none=>
   rw[j7 (by simp)];exact j7 (by simp)
  |some x=>
   rw[j6 (by simp)];exact⟨_,j6 (by simp),A0 rfl ⟨rfl,rfl⟩⟩
 have ei:((List.range N).filterMap λw:Nat=>if(f n w).isSome=true then some (D.im (.int (w:Int)))else none)=Ao (((List.range N).filter λw:Nat=>(f n w).isSome).map λw:Nat=>(w:Int)):=by
  generalize List.range N=L
  induction L with
  |nil=>rfl
  |cons x r ih=>
   rw[jO,filter_cons];by_cases h:(f n x).isSome=true
   .simp[h,Ao]at ih ⊢;exact ih
   .simp[h,Ao]at ih ⊢;exact ih
 rw[ei];have hmm:(m:Int)∈((List.range N).filter λw:Nat=>(f n w).isSome).map λw:Nat=>(w:Int):=mem_map.mpr ⟨m,mem_filter.mpr ⟨by simpa using hm,h1⟩,rfl⟩;have hne:=List.ne_nil_of_mem hmm;refine⟨_,by unfold Ki;rw[F1,bind_some,j7 hne],?_⟩;have ms:=IB hne;obtain⟨w,hw,ew⟩:=mem_map.mp ms.1;have h3:=ms.2 _ hmm;have h4:=h2 w (mem_filter.mp hw).2;have:HC (((List.range N).filter λw:Nat=>(f n w).isSome).map λw:Nat=>(w:Int))=(m:Int):=by omega
 rw[this]
end T38
namespace L2
def Kt{QE:D->Hd->Prop}(h:WA m ls hd λds x=>BD 0 ds=true/\WF F ds [] λd _=>∃nm fs es,d=.op nm fs es/\BD 0 es=true/\QE d x):WE (AB 0 F m) ls hd QE:=by
 obtain⟨ds,x,e,c,d,y,e2,nm,fs,es,rfl,ce,q⟩:=h;refine⟨_,x,?_,q⟩;unfold AB;rw[e,bind_some];dsimp only;rw[j6 ⟨jA _,c,by simp⟩,List.take_zero,e2,bind_some];unfold fin;dsimp only;rw[j6 (by simp)];simp[clD,ce]
end L2
namespace Lt
def nmo(one other:Option Int):Bool:=match other with|none=>true|some y=>match one with|some x=>decide (x<=y)|none=>false
def LB(h:nmo a b=true)(k:nmo b c=true):nmo a c=true:=by
 cases c with
 |none=>rfl
 |some z=>cases b with
  |none=>simp[nmo]at k
  |some y=>cases a with
   |none=>simp[nmo]at h
   |some x=>simp[nmo]at h k ⊢;omega
def Fu(h:nmo a b=true)(k:nmo a c=true):nmo a (Cd b c)=true:=by
 cases c with
 |none=>cases b<;>exact h
 |some z=>cases b with
  |none=>exact k
  |some y=>
   show nmo a (if y<=z then some y else some z)=true;split
   .exact h
   .exact k
def nmo_of(h:nmo a (Cd b c)=true):nmo a b=true/\nmo a c=true:=by
 cases c with
 |none=>cases b<;>exact⟨h,rfl⟩
 |some z=>cases b with
  |none=>exact⟨rfl,h⟩
  |some y=>
   have h:nmo a (if y<=z then some y else some z)=true:=h;cases a with
   |none=>split at h<;>simp[nmo]at h
   |some x=>
    split at h
    .simp[nmo]at h ⊢;omega
    .simp[nmo]at h ⊢;omega
def Q5(l d:Int)(h:nmo a b=true):nmo (B4 l d a) (B4 l d b)=true:=by
 cases b with
 |none=>rfl
 |some y=>cases a with
  |none=>simp[nmo]at h
  |some x=>
   simp only[nmo,decide_eq_true_eq]at h;show nmo (if x+l<=d then some (x+l)else none) (if y+l<=d then some (y+l)else none)=true;by_cases q:y+l<=d
   .rw[j6 q,j6 (by omega)];simp[nmo];omega
   .rw[j7 q];rfl
def CI(x:Wx)(f:Nat->Option Int)(w:Nat):Option Int:=if w<x.2.2 then none else B4 x.1 x.2.1 (f (w-x.2.2))
def nextR_eq(x:Wx)(f:Nat->Option Int)(w:Nat):As x f w=Cd (f w) (CI x f w):=rfl
def Bt(N:Nat)(x:Wx)(f g:Nat->Option Int):Prop:=∀w,w<N->nmo (g w) (f w)=true/\nmo (g w) (CI x f w)=true
def rowOk_next{N:Nat}{f g:Nat->Option Int}:Bt N x f g↔∀w,w<N->nmo (g w) (As x f w)=true:=
 ⟨λh w hw=>Fu (h w hw).1 (h w hw).2,λh w hw=>nmo_of (h w hw)⟩
def row_below{N:Nat}{f g f':Nat->Option Int}(h:Bt N x f g)(k:∀w,w<N->nmo (f w) (f' w)=true):∀w,w<N->nmo (g w) (As x f' w)=true:=λw hw=>by
 obtain⟨h1,h2⟩:=h w hw;refine Fu (LB h1 (k w hw)) (LB h2 ?_);unfold CI;split
 .rfl
 .exact Q5 _ _ (k _ (by omega))
end Lt
namespace T38
open PySem L2 Bd
open Lt (DX Cd B4 As sel BZ Wx nmo CI Bt)
def Eu(a b:Option Int):nm a b=nmo a b:=by cases b<;>cases a<;>rfl
abbrev NoP(path:List I)(word:Str):D:=.op "NoPaper" ["path","word"] [.im (.tup path),.im (.str word)]
def Er(N:Nat)(x:Wx)(f g:Nat->Option Int)(w:Nat)(word:Str):Prop:=w<N/\(∀v,v<w->nmo (g v) (f v)=true/\nmo (g v) (CI x f v)=true)/\((nmo (g w) (f w)=false/\word="kept")∨(nmo (g w) (f w)=true/\nmo (g w) (CI x f w)=false/\word="more"))
inductive I_rowg(p:Wm)(N:Nat)(f g:Nat->Option Int)(i:I)(r:List D)(ls:Ls)(hd:Hd):Prop
 |mk (j:Nat) (z4 z5:Option D) (h0:j<=N) (h1:r=(((List.range' j (N-j)).map λw=>Am (g w)).zipIdx j).map enD) (h2:ls=[some (wmD p),some (.im (Au N f)),some (.im (Au N g)),some (.im i),z4,z5]) (h3:hd=[]) (h4:∀w,w<j->nmo (g w) (f w)=true/\nmo (g w) (CI (wx p) f w)=true):I_rowg p N f g i r ls hd
def Vb{B c:Int}(ok:okM B c p){N:Nat}(hN:N<=100){f g:Nat->Option Int}(hg:Bt N (wx p) f g):WF CP [wmD p,.im (Au N f),.im (Au N g),.im i] [] λd x=>d=.im .non:=by
 unfold CP;refine Ak rfl ?_;refine Bn (Ck (Cy (A0 rfl ⟨(List.range' 0 (N-0)).map λw=>Am (g w),by rw[sub_zero,<- List.range_eq_range'];simp[Au],?_⟩)));change WP (B3 _ _ _ ((((List.range' 0 (N-0)).map λw=>Am (g w)).zipIdx 0).map enD) [some (wmD p),some (.im (Au N f)),some (.im (Au N g)),some (.im i),none,none] []) _;refine Bc (I_rowg p N f g i) ⟨0,none,none,by omega,rfl,rfl,rfl,λw h=>by omega⟩ ?_ ?_
 .rintro d r ls hd ⟨j,z4,z5,hj,er,rfl,rfl,h4⟩;obtain⟨m,hm⟩:∃m,N-j=m+1:=by
   cases q:N-j with
   |zero=>rw[q]at er;cases er
   |succ m=>exact⟨m,rfl⟩
  rw[hm,List.range'_succ,jc,jM,jc]at er;obtain⟨rfl,rfl⟩:=List.cons.inj er;obtain⟨g1,g2⟩:=hg j (by omega);refine⟨[some (wmD p),some (.im (Au N f)),some (.im (Au N g)),some (.im i),some (.im (.int (j:Int))),some (Am (g j))],rfl,?_⟩;refine A8 (AM (C4 (BB (Ad (A1 (A0 rfl (A1 (A5 (A0 rfl (A0 rfl (AE rfl (E7 (by omega)) (A4 ⟨by simp,(Ds _ _).mono ?_⟩))))))))))));rintro d x rfl;refine⟨_,rfl,_,rfl,(λh=>?_),λ_=>AI (A6 ?_)⟩
  .rw[Eu,g1]at h;cases h
  refine AM (C4 (BB (Ad (A1 (A0 rfl (A1 (Ad (A1 (A0 rfl (A1 (A0 rfl (A1 (A0 rfl (A4 ⟨by simp[wmI,Au],(Vo ok f (by omega)).mono ?_⟩))))))))))))));rintro d x rfl;refine⟨_,rfl,A4 ⟨by simp,(Ds _ _).mono ?_⟩⟩;rintro d x rfl;refine⟨_,rfl,_,rfl,(λh=>?_),λ_=>AI ⟨Ah _,j+1,_,_,by omega,by rw[show N-(j+1)=m by omega],rfl,rfl,λw hw=>hg w (by omega)⟩⟩;unfold CI at g2;rw[Eu,g2]at h;cases h
 .rintro ls hd ⟨j,z4,z5,hj,er,rfl,rfl,h4⟩;rfl
def dO{B c:Int}(ok:okM B c p){N:Nat}(hN:N<=100){f g:Nat->Option Int}(hg:¬ Bt N (wx p) f g)(h0:is≠[])(h1:is.length<=50):WF DE [wmD p,.im (Au N f),.im (Au N g),.im (.tup is)] [] λd x=>∃w word,Er N (wx p) f g w word/\d=NoP (is++[.int (w:Int)]) word:=by
 unfold DE;refine Hn rfl ?_;refine Bn (Ck (Cy (A0 rfl ⟨(List.range' 0 (N-0)).map λw=>Am (g w),by rw[sub_zero,<- List.range_eq_range'];simp[Au],?_⟩)));change WP (B3 _ _ _ ((((List.range' 0 (N-0)).map λw=>Am (g w)).zipIdx 0).map enD) [some (wmD p),some (.im (Au N f)),some (.im (Au N g)),some (.im (.tup is)),none,none] []) _;refine Bc (I_rowg p N f g (.tup is)) ⟨0,none,none,by omega,rfl,rfl,rfl,λw h=>by omega⟩ ?_ ?_
 .rintro d r ls hd ⟨j,z4,z5,hj,er,rfl,rfl,h4⟩;obtain⟨m,hm⟩:∃m,N-j=m+1:=by
   cases q:N-j with
   |zero=>rw[q]at er;cases er
   |succ m=>exact⟨m,rfl⟩
  rw[hm,List.range'_succ,jc,jM,jc]at er;obtain⟨rfl,rfl⟩:=List.cons.inj er;refine⟨[some (wmD p),some (.im (Au N f)),some (.im (Au N g)),some (.im (.tup is)),some (.im (.int (j:Int))),some (Am (g j))],rfl,?_⟩;refine A8 (AM (C4 (BB (Ad (A1 (A0 rfl (A1 (A5 (A0 rfl (A0 rfl (AE rfl (E7 (by omega)) (A4 ⟨by simp,(Ds _ _).mono ?_⟩))))))))))));rintro d x rfl;refine⟨_,rfl,_,rfl,(λh=>?_),λg1=>Ep (AI ⟨(λd=>by intro q;cases q),A6 ?_⟩)⟩
  .rw[Eu]at h;exact EK (A1 (A5 (A0 rfl (AV (A1 (A0 rfl (A4 ⟨BU,IU h0 (by simp;omega) (A1 (A9 (A4 ⟨rfl,_,rfl,j,"kept",⟨by omega,h4,.inl ⟨by simpa using h,rfl⟩⟩,rfl⟩)))⟩)))))))
  refine AM (C4 (BB (Ad (A1 (A0 rfl (A1 (Ad (A1 (A0 rfl (A1 (A0 rfl (A1 (A0 rfl (A4 ⟨by simp[wmI,Au],(Vo ok f (by omega)).mono ?_⟩))))))))))))));rintro d x rfl;refine⟨_,rfl,A4 ⟨by simp,(Ds _ _).mono ?_⟩⟩;rintro d x rfl;refine⟨_,rfl,_,rfl,(λh=>?_),λg2=>Ep (AI ⟨(λd=>by intro q;cases q),Ah _,j+1,_,_,by omega,by rw[show N-(j+1)=m by omega],rfl,rfl,λw hw=>?_⟩)⟩
  .rw[Eu]at h g1;exact EK (A1 (A5 (A0 rfl (AV (A1 (A0 rfl (A4 ⟨BU,IU h0 (by simp;omega) (A1 (A9 (A4 ⟨rfl,_,rfl,j,"more",⟨by omega,h4,.inr ⟨by simpa using g1,by unfold CI;simpa using h,rfl⟩⟩,rfl⟩)))⟩)))))))
  .by_cases e:w=j
   .subst e;rw[Eu]at g1 g2;exact⟨by simpa using g1,by unfold CI;simpa using g2⟩
   .exact h4 w (by omega)
 .rintro ls hd ⟨j,z4,z5,hj,er,rfl,rfl,h4⟩;refine absurd (λw hw=>h4 w ?_) hg;have:N-j=0:=by
   cases q:N-j with
   |zero=>rfl
   |succ m=>rw[q,List.range'_succ]at er;cases er
  omega
open Lt (DX Cd B4 As sel BZ Wx nmo CI Bt)
def C6(c:Int)(ws:List Wm)(N:Nat)(g:Nat->Nat->Option Int)(n:Nat):Prop:=nmo (g 0 0) (some c)=true/\∀k x,k<n->(wxs ws)[k]?=some x->Bt N x (g k) (g (k+1))
inductive I_plg(c:Int)(ws:List Wm)(N:Nat)(g:Nat->Nat->Option Int)(r:List D)(ls:Ls)(hd:Hd):Prop
 |mk (dn rest:List Int) (z3 z4:Option D) (h0:BM ws=dn++rest) (h1:r=((Ao rest).zipIdx dn.length).map (λq=>AT [.im (.int ((q.2:Int)+1)),q.1])) (h2:ls=[some (.im (AR ws)),some (.im (Ay ws.length N g)),some (.im (.tup [])),z3,z4]) (h3:hd=[.lst (Ao (BM ws))]) (h4:C6 c ws N g dn.length):I_plg c ws N g r ls hd
def Ln{ws:List Wm}{rest:List Int}{k:Nat}(hk:k<ws.length)(e1:BM ws=dn++(k:Int)::rest):(wxs ws)[dn.length]?=some (wx ws[k]):=by
 unfold wxs;rw[e1,List.getElem?_map,List.getElem?_append_right (j9 _)];simp[hk]
def IX{c:Int}{N:Nat}{g:Nat->Nat->Option Int}{n:Nat}(h:C6 c ws N g n)(hx:(wxs ws)[n]?=some x)(r:Bt N x (g n) (g (n+1))):C6 c ws N g (n+1):=⟨h.1,λk y hk hy=>by
 by_cases e:k=n
 .subst e;rw[hx]at hy;cases hy;exact r
 .exact h.2 k y (by omega) hy⟩
def GF(c:Int)(ws:List Wm)(N:Nat)(g:Nat->Nat->Option Int)(path:List I)(word:Str):Prop:=
 (nmo (g 0 0) (some c)=false/\path=[.int 0,.int 0]/\word="begin")∨∃k x w,k<ws.length/\(wxs ws)[k]?=some x/\C6 c ws N g k/\Er N x (g k) (g (k+1)) w word/\path=[.int ((k+1:Nat):Int),.int (w:Int)]
def UU{B c:Int}(ok:BW B c ws)(hB:B<=2000){N:Nat}(hN:N<=100)(h0:0<N){g:Nat->Nat->Option Int}(hg:C6 c ws N g ws.length):WF Ba [.im (AR ws),.im (Ay ws.length N g),.im (.tup [])] [] λd x=>d=.im .non:=by
 have hl8:=ok.2.1;unfold Ba;refine Ak rfl ?_;refine A8 (AM (C4 (BB (Ad (A1 (A5 (A5 (A0 rfl (A9 (AE rfl (Cn (k:=0) (by omega)) (A9 (AE rfl (E7 (w:=0) h0) (A1 (Ad (A1 (A0 rfl (A4 ⟨by simp,(IF ok).mono ?_⟩)))))))))))))))));rintro d x rfl;refine⟨_,rfl,A4 ⟨by simp,(Ds (g 0 0) (some c)).mono ?_⟩⟩;rintro d x rfl;refine⟨_,rfl,_,rfl,(λh=>?_),λ_=>AI (A6 ?_)⟩
 .rw[Eu,hg.1]at h;cases h
 refine Bn (MJ (J9 (GB (A1 (A0 rfl (A4 ⟨[],[],rfl,rfl,by simp,rfl,(LR ok hB).mono ?_⟩))))));rintro d x ⟨rfl,rfl⟩;refine⟨0,_,[],_,rfl,j9 _,rfl,rfl,rfl,rfl,F4 _ _,0,Ao (BM ws),rfl,rfl,?_⟩;refine Bc (I_plg c ws N g) ⟨[],BM ws,none,none,rfl,rfl,rfl,rfl,hg.1,λk x h=>absurd h (kg _)⟩ ?_ ?_
 .rintro d r ls hd ⟨dn,rest,z3,z4,e1,er,rfl,rfl,h4⟩;cases rest with
  |nil=>cases er
  |cons i rest=>
   rw[show Ao (i::rest)=.im (.int i)::Ao rest from rfl,jM,jc]at er;obtain⟨rfl,rfl⟩:=List.cons.inj er;obtain⟨k,hk,rfl⟩:=IY (ws:=ws) (i:=i) (by rw[e1];simp);have hle:dn.length<ws.length:=by have:=ES ws;rw[e1]at this;simp at this;omega
   have ex:=Ln hk e1;have hr:=hg.2 _ _ hle ex;refine⟨[some (.im (AR ws)),some (.im (Ay ws.length N g)),some (.im (.tup [])),some (.im (.int ((dn.length:Int)+1))),some (.im (.int (k:Int)))],rfl,?_⟩;refine CL (Ad (A1 (A5 (A0 rfl (A0 rfl (AE (by rw[CV,BF]) (E2 hk) (A1 (A5 (A0 rfl (A5 (A0 rfl (A9 (BI ?_)))))))))))));rw[show(dn.length:Int)+1-1=(dn.length:Int) by omega];refine AE rfl (Cn (by omega)) (A1 (A5 (A0 rfl (A0 rfl ?_))));rw[show(dn.length:Int)+1=((dn.length+1:Nat):Int) by omega];refine AE rfl (Cn (by omega)) (A1 (A5 (A0 rfl (AV (A1 (A0 rfl (A4 ⟨BU,?_⟩)))))));rw[Gj];refine wp_catN (by simp) (A4 ⟨by simp[wmI,Au],?_⟩);refine(Vb (ok.2.2.2 _ (List.getElem_mem hk)) hN hr).mono ?_;rintro d x rfl;exact⟨_,rfl,by intro q hq;rw[ju]at hq;subst hq;rfl,dn++[(k:Int)],rest,_,_,by rw[e1];simp,by simp,rfl,rfl,by simpa using IX h4 ex hr⟩
 .rintro ls hd ⟨dn,rest,z3,z4,e1,er,rfl,rfl,h4⟩;rfl
def UT{B c:Int}(ok:BW B c ws)(hB:B<=2000){N:Nat}(hN:N<=100)(h0:0<N){g:Nat->Nat->Option Int}(hg:¬ C6 c ws N g ws.length):WF CF [.im (AR ws),.im (Ay ws.length N g),.im (.tup [])] [] λd x=>∃path word,GF c ws N g path word/\d=NoP path word:=by
 have hl8:=ok.2.1;unfold CF;refine Hn rfl ?_;refine A8 (AM (C4 (BB (Ad (A1 (A5 (A5 (A0 rfl (A9 (AE rfl (Cn (k:=0) (by omega)) (A9 (AE rfl (E7 (w:=0) h0) (A1 (Ad (A1 (A0 rfl (A4 ⟨by simp,(IF ok).mono ?_⟩)))))))))))))))));rintro d x rfl;refine⟨_,rfl,A4 ⟨by simp,(Ds (g 0 0) (some c)).mono ?_⟩⟩;rintro d x rfl;refine⟨_,rfl,_,rfl,(λh=>?_),λg0=>Ep (AI ⟨(λd=>by intro q;cases q),A6 ?_⟩)⟩
 .rw[Eu]at h;exact EK (A1 (A5 (A0 rfl (AV (A1 (A9 (A1 (A9 (A4 ⟨DD,wp_catN (js:=[.int 0,.int 0]) (by simp) (A1 (A9 (A4 ⟨rfl,_,rfl,_,_,.inl ⟨by simpa using h,rfl,rfl⟩,rfl⟩)))⟩)))))))))
 rw[Eu]at g0;refine Bn (MJ (J9 (GB (A1 (A0 rfl (A4 ⟨[],[],rfl,rfl,by simp,rfl,(LR ok hB).mono ?_⟩))))));rintro d x ⟨rfl,rfl⟩;refine⟨0,_,[],_,rfl,j9 _,rfl,rfl,rfl,rfl,F4 _ _,0,Ao (BM ws),rfl,rfl,?_⟩;refine Bc (I_plg c ws N g) ⟨[],BM ws,none,none,rfl,rfl,rfl,rfl,by simpa using g0,λk x h=>absurd h (kg _)⟩ ?_ ?_
 .rintro d r ls hd ⟨dn,rest,z3,z4,e1,er,rfl,rfl,h4⟩;cases rest with
  |nil=>cases er
  |cons i rest=>
   rw[show Ao (i::rest)=.im (.int i)::Ao rest from rfl,jM,jc]at er;obtain⟨rfl,rfl⟩:=List.cons.inj er;obtain⟨k,hk,rfl⟩:=IY (ws:=ws) (i:=i) (by rw[e1];simp);have hle:dn.length<ws.length:=by have:=ES ws;rw[e1]at this;simp at this;omega
   have ex:=Ln hk e1;refine⟨[some (.im (AR ws)),some (.im (Ay ws.length N g)),some (.im (.tup [])),some (.im (.int ((dn.length:Int)+1))),some (.im (.int (k:Int)))],rfl,?_⟩;by_cases hr:Bt N (wx ws[k]) (g dn.length) (g (dn.length+1))
   .refine OM (CL (Ad (A1 (A5 (A0 rfl (A0 rfl (AE (by rw[CV,BF]) (E2 hk) (A1 (A5 (A0 rfl (A5 (A0 rfl (A9 (BI ?_))))))))))))));rw[show(dn.length:Int)+1-1=(dn.length:Int) by omega];refine AE rfl (Cn (by omega)) (A1 (A5 (A0 rfl (A0 rfl ?_))));rw[show(dn.length:Int)+1=((dn.length+1:Nat):Int) by omega];refine AE rfl (Cn (by omega)) (A1 (A5 (A0 rfl (AV (A1 (A0 rfl (A4 ⟨BU,?_⟩)))))));rw[Gj];refine wp_catN (by simp) (A4 ⟨by simp[wmI,Au],?_⟩);refine(Vb (ok.2.2.2 _ (List.getElem_mem hk)) hN hr).mono ?_;rintro d x rfl;exact⟨_,rfl,(λd=>by intro q;cases q),by intro q hq;rw[ju]at hq;subst hq;rfl,dn++[(k:Int)],rest,_,_,by rw[e1];simp,by simp,rfl,rfl,by simpa using IX h4 ex hr⟩
   .refine KD (Fc (HV Gp)) (AH (Kt (A1 (A5 (A0 rfl (A0 rfl (AE (by rw[CV,BF]) (E2 hk) (A1 (A5 (A0 rfl (A5 (A0 rfl (A9 (BI ?_))))))))))))));rw[show(dn.length:Int)+1-1=(dn.length:Int) by omega];refine AE rfl (Cn (by omega)) (A1 (A5 (A0 rfl (A0 rfl ?_))));rw[show(dn.length:Int)+1=((dn.length+1:Nat):Int) by omega];refine AE rfl (Cn (by omega)) (A1 (A5 (A0 rfl (AV (A1 (A0 rfl (A4 ⟨BU,?_⟩)))))));rw[Gj];refine wp_catN (by simp) (A4 ⟨by simp[wmI,Au],?_⟩);refine(dO (ok.2.2.2 _ (List.getElem_mem hk)) hN hr (by simp) (by simp)).mono ?_;rintro d x ⟨w,word,hb,rfl⟩;exact⟨_,_,_,rfl,by simp,_,rfl,_,rfl,_,_,.inr ⟨_,_,w,hle,ex,h4,hb,rfl⟩,rfl⟩
 .rintro ls hd ⟨dn,rest,z3,z4,e1,er,rfl,rfl,h4⟩;cases rest with
  |cons i rest=>cases er
  |nil=>
   refine absurd ?_ hg;have:=ES ws;rw[e1,jI]at this;rw[<- this];exact h4
def ZA{QI:List D×Gd->Hd->Prop}(h:WI ma ls hd λp x=>WI mb ls x λq y=>GOk y p.2/\QI (List.zipWith (λx y=>AT [x,y]) p.1 q.1,p.2++q.2) y):WI (Kc ma mb) ls hd QI:=by
 obtain⟨p,x,e1,q,y,e2,g,k⟩:=h;exact⟨_,_,by simp only[Kc,e1,bind_some,e2,g,jB],k⟩
abbrev AL(n:Nat)(i:I):Prop:=WF (Ee n) [.im i,.im i] [] λd x=>d=.im (.bl true)
def cx(n:Nat)(o:Option Int):AL (n+1) (ET o):=by
 unfold AL;show WF (mkF 2 _ (IZ (Ee n))) _ _ _;refine Ak rfl ?_;refine A8 (AM (AG (Cm (A0 rfl ⟨o,rfl,_,rfl,λh=>?_,λh=>AI (A6 ?_)⟩))))
 .refine AH (Cm (A0 rfl ⟨o,rfl,?_⟩));rw[h];rfl
 .cases o with
  |none=>simp at h
  |some x=>
   refine A8 (AM (BB (CT (A0 rfl ⟨false,rfl,_,rfl,(λh=>by cases h),λ_=>AI (A6 ?_)⟩))));refine A8 (AM (BB (CT (A0 rfl ⟨false,rfl,_,rfl,(λh=>by cases h),λ_=>AI (A6 ?_)⟩))));refine AH (FV (AG (CT (A0 rfl ⟨true,rfl,_,rfl,?_⟩))));rw[j6 rfl];refine FV (AG (KI (AG (CT (A0 rfl ⟨false,rfl,_,rfl,_,rfl,?_⟩)))));rw[j6 (show(!false)=true from rfl)];refine A5 (A0 rfl (A0 rfl (BJ ?_)));simp
def Nz{n:Nat}{is:List I}(hl:is.length<=100)(h:∀i∈is,AL n i):AL (n+1) (.tup is):=by
 unfold AL;show WF (mkF 2 _ (IZ (Ee n))) _ _ _;refine Ak rfl ?_;refine A8 (AM (AG (WP.eq (z:=.im (.bl false)) (h:=[]) (by simp[Aw]) ⟨_,rfl,(λh=>by cases h),λ_=>AI (A6 ?_)⟩)));refine A8 (AM (BB (CT (A0 rfl ⟨true,rfl,_,rfl,λ_=>?_,(λh=>by cases h)⟩))));refine A8 (AM (Ef (C4 (BB (CT (A0 rfl ⟨true,rfl,_,rfl,?_⟩))))));rw[j7 (by simp)];refine AG (A5 (B5 (A1 (A0 rfl (A4 (Bf rfl rfl (B5 (A1 (A0 rfl (A4 (Bf rfl rfl (MH ⟨_,rfl,?_⟩))))))))))));refine⟨(λh=>by simp at h),λ_=>AI (A6 ?_)⟩;refine AH (DL (BO (ZA (Cy (A0 rfl ⟨is.map D.im,rfl,Cy (A0 rfl ⟨is.map D.im,rfl,Ah _,?_⟩)⟩)))));have ez:List.zipWith (λx y=>AT [x,y]) (is.map D.im) (is.map D.im)=is.map λi=>D.im (.tup [i,i]):=by
  clear hl h
  induction is with
  |nil=>rfl
  |cons i r ih=>simp[ih]
 rw[ez];refine⟨Ai (by simp;omega),?_⟩;refine DB (λi=>D.im (.tup [i,i])) (λ_=>some (.im (.bl true))) (λ_ ls=>∃x y,ls=[some x,some y]) _ (Ah _) ?_ ?_
 .rintro i hi ls hls;refine⟨[some (.im i),some (.im i)],by rcases hls with rfl|⟨_,x,y,rfl⟩<;>rfl,⟨_,_,rfl⟩,CS ⟨rfl,?_⟩⟩;rw[j6 rfl];refine⟨_,rfl,Ad (A1 (A0 rfl (A1 (A0 rfl (A4 ⟨by simp,(h i hi).mono ?_⟩)))))⟩;rintro d x rfl;exact⟨_,rfl,rfl,rfl⟩
 have e:(is.filterMap λ_=>some (D.im (.bl true)))=blD (is.map λ_=>true):=by simp[blD]
 rw[e];refine⟨.im (.bl true),?_,rfl⟩;rw[JP,JY];simp
open Lt (DX Cd B4 As sel BZ Wx nmo CI Bt)
def C1{n:Nat}{QE:D->Hd->Prop}(h:WA m ls hd λds x=>∃(a b:MO) (rest:Hd) (many:Int),x=a::b::rest/\ds=[.mu 1,.im (.int many)]/\T (n+1) a b/\0<many/\many<1073741824/\∀r a' b',T n a' b'->0<=r->r<many->QE (.im (.int r)) (a'::b'::rest)):WE (AB 2 Ab m) ls hd QE:=by
 obtain⟨ds,x,e,a,b,rest,many,rfl,rfl,hT,h0,h1,k⟩:=h;exact tap.draw hT e h0 h1 k
def Im{n c:Nat}{R:I->Prop}{QE:D->Hd->Prop}(h:WA m ls hd λds x=>∃(a b:MO) (rest:Hd) (as:List D),x=a::b::rest/\ds=.mu 1::as/\T (n+c) a b/\BD 2 as=true/\(∀a b,T (n+c) a b->WF F (.mu 1::as) [a,b] λd x=>∃i a' b' g,d=.im i/\R i/\T n a' b'/\x=a'::b'::g)/\∀i a' b',T n a' b'->R i->QE (.im i) (a'::b'::rest)):WE (AB 2 F m) ls hd QE:=by
 obtain⟨ds,x,e,a,b,rest,as,rfl,rfl,hT,hc,hF,k⟩:=h;exact tap.call hT e hc hF k
def bd(lo hi:Int)(o:Option Int):Prop:=∀y,o=some y->lo<=y/\y<=hi
def Sc(n:Nat){much:Int}(h0:0<=much)(h1:much<=100){lo hi:Int}(l0:lo<=0)(l1:300<=hi)(o:Option Int)(ob:bd lo hi o):∀a b,T (n+2) a b->WF IQ [.mu 1,Am o,.im (.int much)] [a,b] λd x=>∃i a' b' g,d=.im i/\(∃o',i=ET o'/\nmo o' o=true/\bd (lo-100) hi o')/\T n a' b'/\x=a'::b'::g:=by
 intro a b hT;have ob':bd (lo-100) hi o:=λy e=>by have:=ob y e;omega
 have rf:nmo o o=true:=by cases o<;>simp[nmo]
 unfold IQ;refine Ak rfl ?_;refine A8 (AM (Ef (AG (A5 (A0 rfl (A9 (BJ ⟨_,rfl,?_⟩)))))));split
 .exact⟨λ_=>AH (A0 rfl ⟨_,a,b,[],rfl,⟨o,rfl,rf,ob'⟩,tap.le hT (by omega),rfl⟩),λh=>by cases h⟩
 refine AG (A5 (C1 (n:=n+1) (A1 (A0 rfl (A1 (A9 (A4 ⟨a,b,[],3,rfl,rfl,hT,by decide,by decide,λr a b hT p q=>A9 (IT ⟨_,rfl,λ_=>?_,λ_=>AI (A6 ?_)⟩)⟩)))))))
 .exact AH (A0 rfl ⟨_,a,b,[],rfl,⟨o,rfl,rf,ob'⟩,tap.le hT (by omega),rfl⟩)
 refine A8 (AM (AG (Cm (A0 rfl ⟨o,rfl,_,rfl,λh=>?_,λh=>AI (A6 ?_)⟩))))
 .refine AH (A5 (C1 (n:=n) (A1 (A0 rfl (A1 (A9 (A4 ⟨a,b,[],300,rfl,rfl,hT,by decide,by decide,λr a b hT p q=>A9 (BI ?_)⟩)))))));cases o with
  |none=>exact⟨_,a,b,[],rfl,⟨some (r-50),rfl,rfl,λy e=>by cases e;omega⟩,hT,rfl⟩
  |some x=>simp at h
 .cases o with
  |none=>simp at h
  |some x=>
   refine AH (A5 (A0 rfl (C1 (n:=n) (A1 (A0 rfl (A1 (A5 (A0 rfl (A9 (Az (A4 ⟨a,b,[],much+1,rfl,rfl,hT,by omega,by omega,λr a b hT p q=>BI ?_⟩)))))))))));exact⟨_,a,b,[],rfl,⟨some (x-r),rfl,by simp[nmo];omega,λy e=>by cases e;have:=ob x rfl;omega⟩,hT,rfl⟩
def at4{r:Int}(h0:0<=r)(h1:r<4)(x y z w:D):∃d,((d=x/\r=0)∨(d=y/\r=1)∨(d=z/\r=2)∨(d=w/\r=3))/\atI [x,y,z,w] r=some d:=by
 obtain⟨k,rfl⟩:∃k:Nat,r=(k:Int):=⟨r.toNat,by omega⟩
 have:k<4:=by omega
 match k,this with
 |0,_=>exact⟨x,.inl ⟨rfl,rfl⟩,rfl⟩
 |1,_=>exact⟨y,.inr (.inl ⟨rfl,rfl⟩),rfl⟩
 |2,_=>exact⟨z,.inr (.inr (.inl ⟨rfl,rfl⟩)),rfl⟩
 |3,_=>exact⟨w,.inr (.inr (.inr ⟨rfl,rfl⟩)),rfl⟩
def sIx_nat(l d k:Nat):HT.sIx l d (some (k:Int))=min k l:=by
 unfold HT.sIx;have h:¬ ((k:Int)<0):=by omega
 simp[h]
def VC(xs:List D)(k:Nat):CK xs none (some (k:Int))=xs.take k:=by
 unfold CK;rw[sIx_nat,show HT.sIx xs.length 0 none=0 from rfl,List.drop_zero,sub_zero,<- List.take_eq_take_min]
def VD(xs:List D)(k:Nat):CK xs (some (k:Int)) none=xs.drop k:=by
 unfold CK;rw[sIx_nat,show HT.sIx xs.length xs.length none=xs.length from rfl,List.take_of_length_le (by simp)];by_cases h:k<=xs.length
 .rw[Nat.min_eq_left h]
 .rw[Nat.min_eq_right (by omega),ky (j9 _),ky (by omega)]
section
variable{QE:D->Hd->Prop}{j k:Nat}
def dJ(h:WE me ls hd λd x=>d=.im (.tup is)/\x=hd)(h2:ls[j]?=some (some (.im (.int (k:Int)))))(hk:k<=is.length)(q:QE (.im (.tup (is.take k))) hd):WE (Bw me Av (BK (A2 j))) ls hd QE:=by
 refine Fi (h.mono ?_);rintro d x ⟨rfl,rfl⟩;refine Gw (EL (A0 h2 ⟨_,rfl,is.map D.im,rfl,?_⟩));rw[VC,<- List.map_take,Cb];exact q
def ZR(h:WE me ls hd λd x=>d=.im (.tup is)/\x=hd)(h2:ls[j]?=some (some (.im (.int (k:Int)))))(q:QE (.im (.tup (is.drop (k+1)))) hd):WE (Bw me (BK (mOp AN (A2 j) (mC (.int 1)))) Av) ls hd QE:=by
 refine Fi (h.mono ?_);rintro d x ⟨rfl,rfl⟩;refine EL (A5 (A0 h2 (A9 (Az ⟨_,rfl,Gw ⟨is.map D.im,rfl,?_⟩⟩))));rw[show(k:Int)+1=((k+1:Nat):Int) by omega,VD,<- List.map_drop,Cb];exact q
end
def av{α:Type}{xs:List α}{k:Nat}(x:α)(hk:k<xs.length):xs.take k++[x]++xs.drop (k+1)=xs.set k x:=by
 rw[List.set_eq_take_append_cons_drop,j6 hk];simp
open Lt (DX Cd B4 As sel BZ Wx nmo CI Bt)
def bn(n:Nat){B c:Int}(ok:BW B c ws)(hB:500<=B):∀a b,T (n+2) a b->WF KC [.mu 1,.im (AR ws)] [a,b] λd x=>∃i a' b' g,d=.im i/\(∃us,i=AR us/\BW (B+1) c us/\us.length=ws.length/\us.map Wm.wt=ws.map Wm.wt)/\T n a' b'/\x=a'::b'::g:=by
 intro a b hT;have hl8:=ok.2.1;have hl1:0<ws.length:=List.length_pos_iff.mpr ok.1;unfold KC;refine Ak rfl ?_;refine A8 (AK (C1 (n:=n+1) (A1 (A0 rfl (A1 (B5 (A1 (A0 rfl (A4 (Bf (ds:=(ws.map wmI).map D.im) rfl rfl (A4 ⟨a,b,[],(((ws.map wmI).map D.im).length:Int),rfl,rfl,hT,by simp;omega,by simp;omega,λr a b hT p q=>A6 ?_⟩)))))))))));rw[jo,jo]at q;obtain⟨j,rfl⟩:∃j:Nat,r=(j:Int):=⟨r.toNat,by omega⟩
 have hj:j<ws.length:=by omega
 refine A8 (AK (C1 (n:=n) (A1 (A0 rfl (A1 (A9 (A4 ⟨a,b,[],4,rfl,rfl,hT,by decide,by decide,λway a b hT p1 q1=>A6 ?_⟩)))))));refine A8 (MC (A5 (A0 rfl (A0 rfl (AE (by rw[CV,BF]) (E2 hj) ⟨_,rfl,A6 ?_⟩)))));obtain⟨okl,okc,okd,okw⟩:=ok.2.2.2 _ (List.getElem_mem hj);generalize eW:ws[j]=W at okl okc okd okw;refine A8 (AK (E3 (Bq (A1 (B5 (A1 (A9 (A1 (A5 (A0 rfl (A9 (Az (A4 (KG ?_))))))))))))));refine A1 (B5 (A1 (A9 (A1 (A5 (A0 rfl (A9 (BI (A4 (KH ?_))))))))));obtain⟨d,hd,ed⟩:=at4 p1 q1 (.im (.int (min 20 (W.len+1)))) (.im (.int (max 1 (W.len-1)))) (.im (.int W.len)) (.im (.int W.len));obtain⟨ln,rfl,hl⟩:∃ln:Int,d=.im (.int ln)/\1<=ln/\ln<=20:=by
  rcases hd with⟨rfl,_⟩|⟨rfl,_⟩|⟨rfl,_⟩|⟨rfl,_⟩
  .exact⟨_,rfl,by omega,by omega⟩
  .exact⟨_,rfl,by omega,by omega⟩
  .exact⟨_,rfl,okl⟩
  .exact⟨_,rfl,okl⟩
 refine A1 (A0 rfl (A1 (A0 rfl (A4 ⟨Ai (by simp),A0 rfl ⟨way,_,rfl,ed,A6 ?_⟩⟩))));refine A8 (AK (E3 (Bq (A1 (A5 (A0 rfl (A9 (AE rfl (Cs (k:=1) rfl rfl) (A1 (A5 (A0 rfl (A9 (AE rfl (Cs (k:=1) rfl rfl) ?_)))))))))))));refine A1 (B5 (A1 (A9 (A1 (A5 (A5 (A0 rfl (A9 (AE rfl (Cs (k:=1) rfl rfl) (A9 (Az (A4 (KG ?_)))))))))))));refine A1 (B5 (A1 (GZ (A9 ⟨_,rfl,A1 (A5 (A5 (A0 rfl (A9 (AE rfl (Cs (k:=1) rfl rfl) (A9 (BI (A4 (KH ?_)))))))))⟩))));obtain⟨d,hd,ed⟩:=at4 p1 q1 (.im (.int W.due)) (.im (.int W.due)) (.im (.int (min 400 (W.due+1)))) (.im (.int (max (-99) (W.due-1))));obtain⟨du,rfl,hdu⟩:∃du:Int,d=.im (.int du)/\-(B+1)<=du/\du<=B+1:=by
  rcases hd with⟨rfl,_⟩|⟨rfl,_⟩|⟨rfl,_⟩|⟨rfl,_⟩
  .exact⟨_,rfl,by omega,by omega⟩
  .exact⟨_,rfl,by omega,by omega⟩
  .exact⟨_,rfl,by omega,by omega⟩
  .exact⟨_,rfl,by omega,by omega⟩
 refine A4 ⟨Ai (by simp),A0 rfl ⟨way,_,rfl,ed,A6 ?_⟩⟩;have lt1:((ws.map wmI).take j).length<=8:=by rw[jE,jo];omega
 have lt2:((ws.map wmI).drop (j+1)).length<=8:=by rw[ku,jo];omega
 refine AH (A5 (A5 (dJ (is:=ws.map wmI) (j:=2) (k:=j) (A0 rfl ⟨rfl,rfl⟩) rfl (by simp;omega) (AV (A1 (AV (A1 (A0 rfl (A1 (A0 rfl (A1 (AV (A1 (A9 (A1 (A0 rfl (A1 (A5 (A0 rfl (A9 (AE rfl (Cs (k:=2) rfl rfl) (A4 ⟨Cp,A4 ⟨Cp,A4 ⟨BU,?_⟩⟩⟩))))))))))))))))))))));refine wp_catN (js:=[.tup [.int ln,.int W.com,.tup [.str "miss",.int du,.int W.wt]]]) (by simp only[List.length_singleton];omega) (ZR (is:=ws.map wmI) (j:=2) (k:=j) (A0 rfl ⟨rfl,rfl⟩) rfl (IU (by simp) (by rw[jL,List.length_singleton];omega) ?_));rw[av _ (by simpa using hj)];refine⟨_,a,b,[],rfl,⟨ws.set j ⟨ln,W.com,du,W.wt⟩,?_,⟨?_,by simpa using hl8,ok.2.2.1,λw hw=>?_⟩,by simp,?_⟩,hT,rfl⟩
 .show I.tup _=I.tup _;rw[List.map_set];rfl
 .intro q;have:=jy List.length q;simp at this;exact ok.1 this
 .rcases List.mem_or_eq_of_mem_set hw with h|rfl
  .obtain⟨a1,a2,a3,a4⟩:=ok.2.2.2 w h;exact⟨a1,a2,⟨by omega,by omega⟩,a4⟩
  .exact⟨hl,okc,hdu,okw⟩
 .rw[List.map_set];refine List.ext_getElem (by simp) λi h1 h2=>?_;rw[List.getElem_set];split
  .next e=>subst e;simp[eW]
  .rfl
def Yj{us ws:List Wm}(h:us.map Wm.wt=ws.map Wm.wt):Ag us=Ag ws:=by unfold Ag;rw[h]
open Lt (DX Cd B4 As sel BZ Wx)
def cB{n N m:Nat}{f:Nat->Nat->Option Int}(hN:N<=100)(hm:m<N)(h1:(f n m).isSome=true)(h2:∀w,(f n w).isSome=true->w<=m):WF O6 [.im (Ay n N f)] [] λd x=>d=.im (.int (m:Int)):=K1 hN hm h1 h2
abbrev csD(p:Wm):D:=.im (.tup [.str "miss",.int p.due,.int p.wt])
open Lt (DX Cd B4 As sel BZ Wx nmo CI Bt)
abbrev Bu(N:Nat)(f:Nat->Option Int):List D:=(List.range N).map λw=>Am (f w)
def svl{q:Nat}(e:h[q]?=some (.lst ds)):Ax h (.mu q)=some ds:=by rw[dG,eX,e]
def OV{N:Nat}{f:Nat->Option Int}{w:Nat}(hw:w<N):atI (Bu N f) (w:Int)=some (Am (f w)):=Cs rfl (by simp[hw])
def LL{B c:Int}(ok:okM B c p){N:Nat}(f:Nat->Option Int){w:Nat}(hw:w<N)(e:Ax h d0=some (Bu N f)):WF F6 [d0,.im (.int (w:Int)),wmD p] h λd x=>d=Am (As (wx p) f w)/\x=h:=by
 have h0:=ok.2.2.2;unfold F6;refine Ak rfl ?_;refine A8 (MC (A0 rfl ⟨[some d0,some (.im (.int (w:Int))),some (wmD p),some (.im (.int p.len)),some (.im (.int p.com)),some (csD p),none],rfl,A6 ?_⟩));refine A8 (AK (A5 (A0 rfl (A0 rfl (AE e (OV hw) (A6 ?_))))));refine A8 (AM (Fh (AG (A5 (A0 rfl (A5 (A0 rfl (A9 (AE (ds:=[.im (.str "miss"),.im (.int p.due),.im (.int p.wt)]) rfl (EE _ _ _ _) (VS ⟨_,rfl,?_⟩))))))))));by_cases q:w<(wx p).2.2
 .have q':¬ (w:Int)>=p.wt:=by unfold wx at q;dsimp only at q;omega
  rw[j7 (by simpa using q')];refine⟨(λh=>by cases h),λ_=>AI (A6 (AH (A0 rfl ⟨?_,rfl⟩)))⟩;unfold As;rw[j6 q];rfl
 .have q':(w:Int)>=p.wt:=by unfold wx at q;dsimp only at q;omega
  rw[j6 (by simpa using q')];have ek:(w:Int)-p.wt=((w-(wx p).2.2:Nat):Int):=by unfold wx at q ⊢;dsimp only at q ⊢;omega
  have hk:w-(wx p).2.2<N:=by omega
  have look:∀{ls:Ls} {QE:D->Hd->Prop},ls[0]?=some (some d0)->ls[1]?=some (some (.im (.int (w:Int))))->ls[5]?=some (some (csD p))->QE (Am (f (w-(wx p).2.2))) h->WE (mOp gIx (A2 0) (mOp BA (A2 1) (mOp gIx (A2 5) (mC (.int 2))))) ls h QE:=by
   intro ls QE e0 e1 e5 k;refine A5 (A0 e0 (A5 (A0 e1 (A5 (A0 e5 (A9 (AE (ds:=[.im (.str "miss"),.im (.int p.due),.im (.int p.wt)]) rfl (EE _ _ _ _) (BI ?_))))))));rw[ek];exact AE e (OV hk) k
  refine Fh (AG (Cm (look rfl rfl rfl ⟨_,rfl,_,rfl,?_⟩)));cases hx:f (w-(wx p).2.2)with
  |none=>
   rw[j7 (by simp)];refine⟨(λh=>by cases h),λ_=>AI (A6 (AH (A0 rfl ⟨?_,rfl⟩)))⟩;unfold As;rw[j7 q,hx];rfl
  |some x=>
   rw[j6 (by simp)];have look':∀{ls:Ls} {QE:D->Hd->Prop},ls[0]?=some (some d0)->ls[1]?=some (some (.im (.int (w:Int))))->ls[5]?=some (some (csD p))->ls[3]?=some (some (.im (.int p.len)))->QE (.im (.int (x+p.len))) h->WE (mOp AN (mOp gIx (A2 0) (mOp BA (A2 1) (mOp gIx (A2 5) (mC (.int 2))))) (A2 3)) ls h QE:=by
    intro ls QE e0 e1 e5 e3 k;refine A5 (look e0 e1 e5 ?_);rw[hx];exact A0 e3 (Az k)
   refine AG (A5 (look' rfl rfl rfl rfl (A5 (A0 rfl (A9 (AE (ds:=[.im (.str "miss"),.im (.int p.due),.im (.int p.wt)]) rfl (GW _ _ _) (Lo ⟨_,rfl,λhh=>?_,λhh=>?_⟩)))))))
   .have h9:x+p.len<=p.due:=by simpa using hh
    have eb:B4 (wx p).1 (wx p).2.1 (some x)=some (x+p.len):=j6 h9;refine WP.mono (Q:=λfl y=>((fl=Fl.rt (Am (As (wx p) f w))∨((∃z,fl=Fl.nx [some d0,some (.im (.int (w:Int))),some (wmD p),some (.im (.int p.len)),some (.im (.int p.com)),some (csD p),some (Am z)]/\z=As (wx p) f w))))/\y=h) (AM (Ef (AG (Cm (A0 rfl ⟨f w,rfl,_,rfl,?_⟩))))) ?_
    .cases hf:f w with
     |none=>
      rw[j6 (by simp)];refine⟨(λ_=>AH (look' rfl rfl rfl rfl ⟨.inl ?_,rfl⟩)),λh=>by cases h⟩;unfold As;rw[j7 q,hx,eb,hf];rfl
     |some y=>
      rw[j7 (by simp)];refine AG (A5 (look' rfl rfl rfl rfl (A0 rfl (IS ⟨_,rfl,λh2=>?_,λh2=>?_⟩))))
      .have h2:x+p.len<y:=by simpa using h2
       refine AH (look' rfl rfl rfl rfl ⟨.inl ?_,rfl⟩);unfold As;rw[j7 q,hx,eb,hf];show _=Fl.rt (Am (if y<=x+p.len then some y else some (x+p.len)));rw[j7 (by omega)];rfl
      .have h2:¬ x+p.len<y:=by simpa using h2
       refine AI ⟨.inr ⟨_,rfl,?_⟩,rfl⟩;unfold As;rw[j7 q,hx,eb,hf];show some y=if y<=x+p.len then some y else some (x+p.len)
       rw[j6 (by omega)]
    .rintro fl y ⟨rfl|⟨z,rfl,rfl⟩,rfl⟩
     .exact Bi ⟨rfl,rfl⟩
     .exact A6 (AH (A0 rfl ⟨rfl,rfl⟩))
   .have h9:¬ x+p.len<=p.due:=by simpa using hh
    refine AI (A6 (AH (A0 rfl ⟨?_,rfl⟩)));unfold As;rw[j7 q,hx];show _=Am (Cd (f w) (if x+p.len<=p.due then some (x+p.len)else none));rw[j7 h9];rfl
abbrev Ll(ws:List Wm)(much:Int)(q:Nat)(z5 z6:Option D):Ls:=[some (.mu 1),some (.im (AR ws)),some (.im (.int much)),some (.im (.int (Ag ws))),some (.mu q),z5,z6]
def YN{lo hi:Int}{x:Wx}{N:Nat}{f:Nat->Option Int}(hl:0<=x.1)(hd:x.2.1<=hi)(h:∀w,w<N->bd lo hi (f w)){w:Nat}(hw:w<N):bd lo hi (As x f w):=by
 intro y e;unfold As at e;have h1:=h w hw;by_cases q:w<x.2.2
 .rw[j6 q]at e;exact h1 y e
 .rw[j7 q]at e;have h2:=h (w-x.2.2) (by omega);cases e2:f (w-x.2.2)with
  |none=>rw[e2]at e;exact h1 y e
  |some z=>
   rw[e2]at e;have h2:=h2 z e2;unfold B4 at e;by_cases q2:z+x.1<=x.2.1
   .simp only[j6 q2]at e;cases e1:f w with
    |none=>rw[e1]at e;cases e;omega
    |some u=>
     have h1:=h1 u e1;rw[e1]at e;simp only[Cd]at e;split at e<;>cases e<;>omega
   .simp only[j7 q2]at e;exact h1 y e
def Sr(n:Nat){N:Nat}(P:Nat->Option Int->Prop)(hT:T (n+2*N) a b){L:Option D->Ls}(hl0:∃z,l0=L z)(hg:∀a b:MO,GOk (a::b::hd0) g)
 (nm':∀(z:Option D) (d:D) (hd:Hd),(AO 0) d (L z) hd=some (L (some d)))
 (body:∀(j:Nat) (a b:MO) (k:Nat),j<N->T (k+2) a b->WE m0 (L (some (.im (.int (j:Int))))) (a::b::hd0) λd x=>∃o a' b',d=Am o/\P j o/\T k a' b'/\x=a'::b'::hd0)
 {QA:List D->Hd->Prop} (q:∀(f:Nat->Option Int) a b,(∀w,w<N->P w (f w))->T n a b->QA (Bu N f) (a::b::hd0)):WP (B8 (AO 0) Cc m0 g (Ar 0 N) l0 (a::b::hd0)) QA:=by
 refine VT (λr es ls hd=>∃(j:Nat) (f:Nat->Option Int) (z:Option D) (a b:MO),j<=N/\r=Ar (j:Int) (N-j)/\es=Bu j f/\(∀w,w<j->P w (f w))/\ls=L z/\hd=a::b::hd0/\T (n+2*(N-j)) a b) ?_ ?_ ?_
 .obtain⟨z,rfl⟩:=hl0;exact⟨0,λ_=>none,z,a,b,by omega,rfl,rfl,λw h=>absurd h (kg _),rfl,rfl,by simpa using hT⟩
 .rintro d r es ls hd ⟨j,f,z,a,b,hj,er,rfl,hf,rfl,rfl,hT⟩;cases q:N-j with
  |zero=>rw[q]at er;cases er
  |succ m=>
   rw[q,Ar]at er;obtain⟨rfl,rfl⟩:=List.cons.inj er;refine⟨_,nm' _ _ _,CS ?_⟩;rw[j6 rfl];refine(body j a b (n+2*m) (by omega) (tap.le hT (by omega))).mono ?_;rintro d x ⟨o,a',b',rfl,ho,hT',rfl⟩;refine⟨hg _ _,j+1,λw=>if w=j then o else f w,_,a',b',by omega,by rw[show N-(j+1)=m by omega];rfl,?_,λw hw=>?_,rfl,rfl,by rw[show N-(j+1)=m by omega];exact hT'⟩
   .unfold Bu;rw[range_succ,map_append]
    congr 1
    .refine kx λw hw=>?_;have:w≠j:=by have:=mem_range.mp hw;omega
     dsimp only;rw[j7 this]
    .simp
   .by_cases e:w=j
    .subst e;dsimp only;rw[j6 rfl];exact ho
    .dsimp only;rw[j7 e];exact hf w (by omega)
 .rintro es ls hd ⟨j,f,z,a,b,hj,er,rfl,hf,rfl,rfl,hT⟩;have:j=N:=by
   cases q:N-j with
   |zero=>omega
   |succ m=>rw[q,Ar]at er;cases er
  subst this;exact q f a b hf (by simpa using hT)
open Lt (DX Cd B4 As sel BZ Wx nmo CI Bt)
def ql(k:Nat):Nat:=if k=0 then 4 else 6+k
def qsD(j:Nat):List D:=(List.range (j+1)).map λi=>D.mu (ql i)
def ZC{QA:List D->Hd->Prop}(h:WE ma ls hd λd x=>WE mb ls x λe y=>∃p q as bs,d=.mu p/\e=.mu q/\y[p]?=some (.lst as)/\y[q]?=some (.lst bs)/\Cq (as.length+bs.length)/\QA (as++bs) y):WA (Ke ma mb) ls hd QA:=by
 obtain⟨d,x,e1,e,y,e2,p,q,as,bs,rfl,rfl,e3,e4,c,h⟩:=h;refine⟨_,_,?_,h⟩;simp only[Ke,e1,bind_some,e2];simp only[e3,e4,c,jB]
def Hl(a b o2 o3:MO)(N:Nat)(g:Nat->Nat->Option Int)(ord:List D)(j:Nat):Hd:=a::b::o2::o3::.lst (Bu N (g 0))::.lst (qsD j)::.lst ord::(List.range j).map λi=>MO.lst (Bu N (g (i+1)))
def SX{o2 o3:MO}{N:Nat}{g:Nat->Nat->Option Int}{j k:Nat}(hk:k<=j):(Hl a b o2 o3 N g ord j)[ql k]?=some (.lst (Bu N (g k))):=by
 unfold ql;cases k with
 |zero=>rfl
 |succ k=>
  rw[j7 (by omega),show 6+(k+1)=k+7 by omega];unfold Hl;simp only[List.getElem?_cons_succ];simp[show k<j by omega]
def XT(j:Nat):atI (qsD j) (-1)=some (.mu (ql j)):=by
 unfold qsD;rw[range_succ,map_append];exact JZ _ _
def Wl(N:Nat)(f:Nat->Option Int):AT (Bu N f)=.im (Au N f):=by
 unfold Bu Au;rw[show((List.range N).map λw=>Am (f w))=((List.range N).map λw=>ET (f w)).map D.im by rw[jh];rfl,Cb]
inductive I_low(n:Nat)(c:Int)(ws:List Wm)(N:Nat)(much:Int)(o2 o3:MO)(r:List D)(ls:Ls)(hd:Hd):Prop
 |mk (dn rest:List Int) (g:Nat->Nat->Option Int) (a b:MO) (z5 z6:Option D) (h0:BM ws=dn++rest) (h1:r=Ao rest) (h2:ls=Ll ws much 5 z5 z6) (h3:hd=Hl a b o2 o3 N g (Ao (BM ws)) dn.length) (h4:C6 c ws N g dn.length) (h5:T (n+2*N*rest.length) a b) (h6:∀k,k<=dn.length->∀w,w<N->bd (-150-100*(k:Int)) 2000 (g k w)):I_low n c ws N much o2 o3 r ls hd
set_option maxHeartbeats 1000000 in
def LG(n:Nat){B c:Int}(ok:BW B c ws)(hB:B<=2000){N:Nat}(eN:N=(Ag ws).toNat+1){much:Int}(m0:0<=much)(m1:much<=100):∀a b,T (n+2000) a b->WF F5 [.mu 1,.im (AR ws),.im (.int much)] [a,b] λd x=>∃i a' b' y,d=.im i/\(∃g,i=Ay ws.length N g/\C6 c ws N g ws.length/\∀k,k<=ws.length->∀w,w<N->bd (-2000) 2000 (g k w))/\T n a' b'/\x=a'::b'::y:=by
 intro a b hT;have hl8:=ok.2.1;have hf:=EY ok;have hl1:0<ws.length:=List.length_pos_iff.mpr ok.1;have lo:=ES ws;unfold F5;refine Ak rfl ?_;refine A8 (AK (DL (BO (Cy (A0 rfl ⟨_,rfl,?_⟩)))));rw[BF];refine⟨Ai (by simp;omega),?_⟩;refine DB wmD (λw=>some (.im (.int w.wt))) (λ_ ls=>∃x,ls=[some x]) _ (Ah _) ?_ ?_
 .rintro p hp ls hls;refine⟨[some (wmD p)],by rcases hls with rfl|⟨_,x,rfl⟩<;>rfl,⟨_,rfl⟩,CS ⟨rfl,?_⟩⟩;rw[j6 rfl];exact⟨_,rfl,A5 (A5 (A0 rfl (A9 (AE (ds:=[.im (.int p.len),.im (.int p.com),.im (.tup [.str "miss",.int p.due,.int p.wt])]) rfl (EE _ _ _ _) (A9 (AE (ds:=[.im (.str "miss"),.im (.int p.due),.im (.int p.wt)]) rfl (EE _ _ _ _) ⟨rfl,rfl⟩))))))⟩
 have e:(ws.filterMap λw=>some (D.im (.int w.wt)))=Ao (ws.map Wm.wt):=by simp[Ao]
 rw[e];refine⟨.im (.int (Ag ws)),by unfold Fy;rw[F1];rfl,A6 ?_⟩;obtain⟨-,ecom,-,-⟩:=ok.2.2.2 _ (List.getElem_mem hl1);refine A8 (AK (Bp (Bq (A1 (Bp (ZC (Bp (Bq (A1 (A5 (A5 (A5 (A0 rfl (A9 (AE (by rw[CV,BF]) (E2 (k:=0) hl1) (A9 (AE (ds:=[.im (.int ws[0].len),.im (.int ws[0].com),.im (.tup [.str "miss",.int ws[0].due,.int ws[0].wt])]) rfl (GW _ _ _) ?_)))))))))))))))));refine C1 (n:=n+1999) (A1 (A0 rfl (A1 (A5 (A0 rfl (A9 (Az (A4 ⟨a,b,[],much+1,rfl,rfl,hT,by omega,by omega,λr a b hT p q=>BI (A4 ⟨BU,?_⟩)⟩))))))));rw[ecom];refine Bp (BO (J8 (A1 (A0 rfl (A4 ⟨Ag ws,rfl,FX (by omega) (by omega),Ai (by dsimp only;rw[DT];omega),?_⟩)))));refine Sr (n+1+2*N*ws.length) (N:=(Ag ws).toNat) (λ_ o=>bd (-100) 2000 o) (hd0:=[.lst [.im (.int (c-r))]]) (tap.le hT ?_) (L:=λz=>[z,some (.mu 1),some (.im (.int much))]) ⟨none,rfl⟩ (λ_ _=>Ah _) (λ_ _ _=>rfl) (λj a b k hj hT=>?_) λf0 a b hf0 hT=>?_
 .have:N<=73:=by omega
  have:2*N*ws.length<=2*73*8:=Nat.mul_le_mul (by omega) hl8;omega
 .refine Im (n:=k) (c:=2) (A1 (A0 rfl (A1 (A9 (A1 (A0 rfl (A4 ⟨a,b,_,[Am none,.im (.int much)],rfl,rfl,hT,by simp[ET],Sc k m0 m1 (lo:=0) (hi:=2000) (by decide) (by decide) none (λy e=>by cases e),?_⟩)))))));rintro i a b hT ⟨o,rfl,-,ho⟩;exact⟨o,a,b,rfl,ho,hT,rfl⟩
 refine⟨2,3,[.im (.int (c-r))],Bu (Ag ws).toNat f0,rfl,rfl,rfl,rfl,Ai (by simp;omega),?_⟩;refine A4 ⟨BU,A6 ?_⟩
 let g0:Nat->Nat->Option Int:=λk w=>if k=0 then(if w=0 then some (c-r)else f0 (w-1))else none
 have er0:[D.im (.int (c-r))]++Bu (Ag ws).toNat f0=Bu N (g0 0):=by
  rw[eN];unfold Bu;rw[List.range_succ_eq_map,jc,jh];rfl
 rw[er0];change WS _ (Ll ws much 5 none none) (a::b::[.lst [.im (.int (c-r))],.lst (Bu (Ag ws).toNat f0),.lst (Bu N (g0 0)),.lst [.mu 4]]) _;refine A8 (Bn (J9 (GB (A1 (A0 rfl (A4 ⟨[],_,rfl,rfl,by simp,rfl,(Jx ok hB).mono ?_⟩))))));rintro d x ⟨rfl,rfl⟩;refine⟨0,_,[],_,rfl,j9 _,rfl,rfl,rfl,rfl,F4 _ _,6,Ao (BM ws),rfl,rfl,?_⟩;refine Bc (I_low (n+1) c ws N much (.lst [.im (.int (c-r))]) (.lst (Bu (Ag ws).toNat f0))) ⟨[],BM ws,g0,a,b,none,none,rfl,rfl,rfl,rfl,⟨by simp[g0,nmo];omega,λk x h=>absurd h (kg _)⟩,by rw[lo];exact hT,λk hk w hw=>?_⟩ ?_ ?_
 .obtain rfl:k=0:=Nat.le_zero.mp hk;intro y e;dsimp only[g0]at e;rw[j6 rfl]at e;by_cases q:w=0
  .rw[j6 q]at e;cases e;have:=ok.2.2.1;omega
  .rw[j7 q]at e;have:=hf0 (w-1) (by omega) y e;omega
 .rintro d rr ls hd ⟨dn,rest,g,a,b,z5,z6,e1,er,rfl,rfl,h4,hT,h6⟩;cases rest with
  |nil=>cases er
  |cons i rest=>
   obtain⟨rfl,rfl⟩:=List.cons.inj er;obtain⟨k,hk,rfl⟩:=IY (ws:=ws) (i:=i) (by rw[e1];simp);have hle:dn.length<ws.length:=by rw[e1]at lo;simp at lo;omega
   have ex:=Ln hk e1;have okk:=ok.2.2.2 _ (List.getElem_mem hk);refine⟨Ll ws much 5 (some (.im (.int (k:Int)))) z6,rfl,?_⟩;refine A8 (AK (A5 (A0 rfl (GZ (A9 ⟨_,rfl,AE (svl (ds:=qsD dn.length) rfl) (XT _) (A6 ?_)⟩)))));refine CL (PK (A0 rfl ⟨⟨qsD dn.length,rfl⟩,A1 (Bp (BO (J8 (A1 (A5 (A0 rfl (A9 (Az (A4 ⟨Ag ws+1,rfl,FX (by omega) (by omega),Ai (by dsimp only;rw[DT];omega),?_⟩)))))))))⟩));rw[show(Ag ws+1).toNat=N by omega];unfold Hl;refine Sr (n+1+2*N*rest.length) (N:=N) (λj o=>nmo o (As (wx ws[k]) (g dn.length) j)=true/\bd (-150-100*(dn.length:Int)-100) 2000 o) (hd0:=_) (tap.le hT ?_) (L:=λz=>[z,some (.mu 1),some (.mu (ql dn.length)),some (.im (AR ws)),some (.im (.int (k:Int))),some (.im (.int much))]) ⟨none,rfl⟩ (λ_ _=>Ah _) (λ_ _ _=>rfl) (λj a b k2 hj hT=>?_) λf a b hfl hT=>?_
   .rw[jK,Nat.mul_succ];omega
   .have er:=SX (a:=a) (b:=b) (o2:=.lst [.im (.int (c-r))]) (o3:=.lst (Bu (Ag ws).toNat f0)) (N:=N) (g:=g) (ord:=Ao (BM ws)) (j9 dn.length);unfold Hl at er;refine Im (n:=k2) (c:=2) (R:=λi=>∃o',i=ET o'/\nmo o' (As (wx ws[k]) (g dn.length) j)=true/\bd (-150-100*(dn.length:Int)-100) 2000 o') (A1 (A0 rfl (A1 (Ac (A1 (A0 rfl (A1 (A0 rfl (A1 (A5 (A0 rfl (A0 rfl (AE (by rw[CV,BF]) (E2 hk) (A4 ((LL okk (g dn.length) hj (svl er)).mono ?_)))))))))))))));rintro d x ⟨rfl,rfl⟩;refine A1 (A0 rfl (A4 ⟨a,b,_,[Am (As (wx ws[k]) (g dn.length) j),.im (.int much)],rfl,rfl,hT,by simp,Sc k2 m0 m1 (by omega) (by decide) _ (YN (x:=wx ws[k]) (by have:=okk.1.1;show 0<=ws[k].len;omega) (by have:=okk.2.2.1.2;show ws[k].due<=2000;omega) (h6 _ (j9 _)) hj),?_⟩));rintro i a b hT ⟨o,rfl,ho⟩;exact⟨o,a,b,rfl,ho,hT,rfl⟩
   refine A4 (Qu (ds:=qsD dn.length) rfl (JR (by simp[qsD];omega)) ⟨?_,?_⟩)
   .intro q hq;rw[ju]at hq;subst hq;rfl
   let g':Nat->Nat->Option Int:=λk=>if k=dn.length+1 then f else g k
   have gl:∀k',k'<=dn.length->g' k'=g k':=λk' h=>j7 (by omega);refine⟨dn++[(k:Int)],rest,g',a,b,_,_,by rw[e1];simp,rfl,rfl,?_,?_,hT,?_⟩
   .have e1':(dn++[(k:Int)]).length=dn.length+1:=by simp
    rw[e1'];unfold Hl;rw[gl 0 (by omega)];have q1:qsD (dn.length+1)=qsD dn.length++[.mu (ql (dn.length+1))]:=by
     unfold qsD;rw[range_succ,map_append];rfl
    have q2:((List.range (dn.length+1)).map λi=>MO.lst (Bu N (g' (i+1))))=((List.range dn.length).map λi=>MO.lst (Bu N (g (i+1))))++[.lst (Bu N f)]:=by
     rw[range_succ,map_append]
     congr 1
     .exact kx λi hi=>by rw[gl _ (by have:=mem_range.mp hi;omega)]
     .simp[g']
    rw[q1,q2];unfold ql;rw[j7 (by omega)];simp;omega
   .have e1':(dn++[(k:Int)]).length=dn.length+1:=by simp
    rw[e1'];refine IX ⟨by rw[gl 0 (by omega)];exact h4.1,λk' x hk' hx=>?_⟩ ex ?_
    .rw[gl _ (by omega),gl _ (by omega)];exact h4.2 k' x hk' hx
    .rw[gl _ (j9 _),show g' (dn.length+1)=f from j6 rfl];exact Lt.rowOk_next.mpr λw hw=>(hfl w hw).1
   .intro k' hk' w hw;rw[jL]at hk';by_cases q:k'=dn.length+1
    .subst q;rw[show g' (dn.length+1)=f from j6 rfl];intro y e;have:=(hfl w hw).2 y e;omega
    .rw[gl k' (by simp at hk';omega)];exact h6 k' (by simp at hk';omega) w hw
 .rintro ls hd ⟨dn,rest,g,a,b,z5,z6,e1,er,rfl,rfl,h4,hT,h6⟩;cases rest with
  |cons i rest=>cases er
  |nil=>
   have hle:dn.length=ws.length:=by rw[e1]at lo;simpa using lo
   rw[hle]at h4 ⊢;refine A6 (AH (DL (BO (J9 (A0 rfl ⟨5,qsD ws.length,rfl,rfl,Ai (by simp[qsD];omega),?_⟩)))));refine DB (λk:Nat=>D.mu (ql k)) (λk=>some (.im (Au N (g k)))) (λ_ ls=>∃x,ls=[some x]) _ (by intro q hq;rw[ju]at hq;subst hq;rfl) ?_ ?_
   .rintro k hk ls hls;refine⟨[some (.mu (ql k))],by rcases hls with rfl|⟨_,x,rfl⟩<;>rfl,⟨_,rfl⟩,CS ⟨rfl,?_⟩⟩;rw[j6 rfl];exact⟨_,rfl,B5 (A1 (A0 rfl (A4 (Bf (ds:=Bu N (g k)) (by rw[j6 rfl];exact svl (SX (by have:=mem_range.mp hk;omega))) rfl ⟨rfl,Wl _ _⟩))))⟩
   have ed:((List.range (ws.length+1)).filterMap λk:Nat=>some (D.im (Au N (g k))))=((List.range (ws.length+1)).map λk=>Au N (g k)).map D.im:=by
    rw[List.filterMap_eq_map',jh];rfl
   rw[ed];refine⟨.im (Ay ws.length N g),by unfold Ez Ay;rw[Cb],?_⟩;exact⟨_,a,b,_,rfl,⟨g,rfl,h4,λk hk w hw y e=>by have:=h6 k (by omega) w hw y e;omega⟩,tap.le hT (by omega),rfl⟩
open Lt (DX Cd B4 As sel BZ Wx nmo CI Bt Fu nmo_of)
def ZJ(h:Hd)(N:Nat)(f:Nat->Option Int):Ax h (.im (Au N f))=some (Bu N f):=by simp[Au,Bu]
def SK(h:nmo a b=true):nmo a (Cd b c)=nmo a c:=by
 cases q:nmo a c with
 |true=>exact Fu h q
 |false=>
  cases p:nmo a (Cd b c)with
  |false=>rfl
  |true=>rw[(nmo_of p).2]at q;cases q
def PD{i j:Nat}{QT:Bool->Hd->Prop}(hi:ls[i]?=some (some (Am a)))(hj:ls[j]?=some (some (Am b)))(q:QT (!nmo a b) hd):WT (DY (AF (Aw true (A2 j))) (mOr (AF (Aw false (A2 i))) (AF (mOp gGt (A2 i) (A2 j))))) ls hd QT:=by
 refine Fh (AG (Cm (A0 hj ⟨b,rfl,_,rfl,?_⟩)));cases b with
 |none=>rw[j7 (by simp)];exact q
 |some y=>
  rw[j6 (by simp)];refine Ef (AG (Cm (A0 hi ⟨a,rfl,_,rfl,?_⟩)));cases a with
  |none=>rw[j6 (by simp)];exact q
  |some x=>
   rw[j7 (by simp)];refine AG (A5 (A0 hi (A0 hj (IT ⟨_,rfl,?_⟩))));have e:decide (y<x)=!nmo (some x) (some y):=by
    by_cases h:x<=y
    .have:¬ y<x:=by omega
     simp[nmo,h,this]
    .have:y<x:=by omega
     simp[nmo,h,this]
   rw[e];exact q
open Lt (DX Cd B4 As sel BZ Wx nmo CI Bt Fu nmo_of)
abbrev Pq(c:Int)(ws:List Wm)(N:Nat)(g:Nat->Nat->Option Int)(d:D):Prop:=(C6 c ws N g ws.length/\d=.im .non)∨∃path word,GF c ws N g path word/\d=.im (.tup [.tup path,.str word])
inductive I_lpl(c:Int)(ws:List Wm)(N:Nat)(g:Nat->Nat->Option Int)(r:List D)(ls:Ls)(hd:Hd):Prop
 |mk (dn rest:List Int) (z3 z4 z5 z6 z7:Option D) (h0:BM ws=dn++rest) (h1:r=((Ao rest).zipIdx dn.length).map enD) (h2:ls=[some (.im (AR ws)),some (.im (Ay ws.length N g)),some (.im (.tup [])),z3,z4,z5,z6,z7]) (h3:hd=[.lst (Ao (BM ws))]) (h4:C6 c ws N g dn.length):I_lpl c ws N g r ls hd
inductive I_lrow(ws:List Wm)(N:Nat)(g:Nat->Nat->Option Int)(k n:Nat)(x:Wx)(r:List D)(ls:Ls)(hd:Hd):Prop
 |mk (j:Nat) (z5 z6 z7:Option D) (h0:j<=N) (h1:r=(((List.range' j (N-j)).map λw=>Am (g (n+1) w)).zipIdx j).map enD) (h2:ls=[some (.im (AR ws)),some (.im (Ay ws.length N g)),some (.im (.tup [])),some (.im (.int (n:Int))),some (.im (.int (k:Int))),z5,z6,z7]) (h3:hd=[.lst (Ao (BM ws))]) (h4:∀w,w<j->nmo (g (n+1) w) (g n w)=true/\nmo (g (n+1) w) (CI x (g n) w)=true):I_lrow ws N g k n x r ls hd
def LF{B c:Int}(ok:BW B c ws)(hB:B<=2000){N:Nat}(hN:N<=100)(h0:0<N)(g:Nat->Nat->Option Int):WF Ha [.im (AR ws),.im (Ay ws.length N g),.im (.tup [])] [] λd x=>Pq c ws N g d:=by
 have hl8:=ok.2.1;have hl0:0<ws.length:=List.length_pos_iff.mpr ok.1;have hc0:ws[0].com=c:=(ok.2.2.2 _ (List.getElem_mem hl0)).2.1;unfold Ha;refine Ak rfl ?_;have first:∀{QT:Bool->Hd->Prop},QT (!nmo (g 0 0) (some c)) []->WT (mOr (AF (Aw false (mOp gIx (mOp gIx (A2 1) (mC (.int 0))) (mC (.int 0))))) (AF (mOp gGt (mOp gIx (mOp gIx (A2 1) (mC (.int 0))) (mC (.int 0))) (mOp gIx (mOp gIx (A2 0) (mC (.int 0))) (mC (.int 1)))))) [some (.im (AR ws)),some (.im (Ay ws.length N g)),some (.im (.tup [])),none,none,none,none,none] [] QT:=by
  intro QT q;refine Ef (AG (Cm (A5 (A5 (A0 rfl (A9 (AE rfl (Cn (k:=0) (by omega)) (A9 (AE rfl (E7 (w:=0) h0) ⟨g 0 0,rfl,_,rfl,?_⟩)))))))));cases e:g 0 0 with
  |none=>rw[e]at q;rw[j6 (by simp)];exact q
  |some x=>
   rw[e]at q;rw[j7 (by simp)];have r0:atI (((List.range N).map λw=>ET (g 0 w)).map D.im) ((0:Nat):Int)=some (Am (some x)):=by rw[<- e];exact E7 h0
   refine AG (A5 (A5 (A5 (A0 rfl (A9 (AE rfl (Cn (k:=0) (by omega)) (A9 (AE rfl r0 (A5 (A5 (A0 rfl (A9 (AE (by rw[CV,BF]) (E2 (k:=0) hl0) (A9 (AE (ds:=[.im (.int ws[0].len),.im (.int ws[0].com),csD ws[0]]) rfl (GW _ _ _) (IT ⟨_,rfl,?_⟩))))))))))))))));rw[hc0];have ed:decide (c<x)=!nmo (some x) (some c):=by
    by_cases h:x<=c
    .have:¬ c<x:=by omega
     simp[nmo,h,this]
    .have:c<x:=by omega
     simp[nmo,h,this]
   rw[ed];exact q
 refine A8 (AM (first ⟨λh=>?_,λg0=>AI (A6 ?_)⟩))
 .refine AH (AV (A1 (A5 (A0 rfl (AV (A1 (A9 (A1 (A9 (A4 ⟨DD,wp_catN (js:=[.int 0,.int 0]) (by simp) (A1 (A9 (A4 ⟨DD,?_⟩)))⟩))))))))));exact .inr ⟨_,_,.inl ⟨by simpa using h,rfl,rfl⟩,rfl⟩
 refine A8 (Bn (Ck (J9 (GB (A1 (A0 rfl (A4 ⟨[],[],rfl,rfl,by simp,rfl,(Jx ok hB).mono ?_⟩)))))));rintro d x ⟨rfl,rfl⟩;refine⟨0,_,[],_,rfl,j9 _,rfl,rfl,rfl,rfl,F4 _ _,0,Ao (BM ws),rfl,rfl,?_⟩;refine Bc (I_lpl c ws N g) ⟨[],BM ws,none,none,none,none,none,rfl,rfl,rfl,rfl,by simpa using g0,λk x h=>absurd h (kg _)⟩ ?_ ?_
 .rintro d r ls hd ⟨dn,rest,z3,z4,z5,z6,z7,e1,er,rfl,rfl,h4⟩;cases rest with
  |nil=>cases er
  |cons i rest=>
   rw[show Ao (i::rest)=.im (.int i)::Ao rest from rfl,jM,jc]at er;obtain⟨rfl,rfl⟩:=List.cons.inj er;obtain⟨k,hk,rfl⟩:=IY (ws:=ws) (i:=i) (by rw[e1];simp);have hle:dn.length<ws.length:=by have:=ES ws;rw[e1]at this;simp at this;omega
   have ex:=Ln hk e1;have okk:=ok.2.2.2 _ (List.getElem_mem hk);refine⟨[some (.im (AR ws)),some (.im (Ay ws.length N g)),some (.im (.tup [])),some (.im (.int (dn.length:Int))),some (.im (.int (k:Int))),z5,z6,z7],rfl,?_⟩;refine Bn (Ck (Cy (A5 (A0 rfl (A5 (A0 rfl (A9 (Az ?_))))))));rw[show(dn.length:Int)+1=((dn.length+1:Nat):Int) by omega];refine AE rfl (Cn (by omega)) ⟨(List.range' 0 (N-0)).map λw=>Am (g (dn.length+1) w),by rw[sub_zero,<- List.range_eq_range'];simp[Au],?_⟩;refine Bc (I_lrow ws N g k dn.length (wx ws[k])) ⟨0,z5,z6,z7,by omega,rfl,rfl,rfl,λw h=>by omega⟩ ?_ ?_
   .rintro d r' ls hd ⟨j,y5,y6,y7,hj,er,rfl,rfl,h5⟩;obtain⟨m,hm⟩:∃m,N-j=m+1:=by
     cases q:N-j with
     |zero=>rw[q]at er;cases er
     |succ m=>exact⟨m,rfl⟩
    rw[hm,List.range'_succ,jc,jM,jc]at er;obtain⟨rfl,rfl⟩:=List.cons.inj er;refine⟨[some (.im (AR ws)),some (.im (Ay ws.length N g)),some (.im (.tup [])),some (.im (.int (dn.length:Int))),some (.im (.int (k:Int))),some (.im (.int (j:Int))),some (Am (g (dn.length+1) j)),y7],rfl,?_⟩;refine A8 (AK (A5 (A5 (A0 rfl (A0 rfl (AE rfl (Cn (by omega)) (A0 rfl (AE rfl (E7 (by omega)) (A6 ?_)))))))));have ret:∀{z7:Option D} {word:Str} {Q:Fl->Hd->Prop},Q (.rt (.im (.tup [.tup [.int ((dn.length+1:Nat):Int),.int (j:Int)],.str word]))) [.lst (Ao (BM ws))]->WS (AQ (Af (A3 (mOp Bg (A2 2) (Af (A3 (mOp AN (A2 3) (mC (.int 1))) (A3 (A2 5) A7)))) (A3 (mC (.str word)) A7)))) [some (.im (AR ws)),some (.im (Ay ws.length N g)),some (.im (.tup [])),some (.im (.int (dn.length:Int))),some (.im (.int (k:Int))),some (.im (.int (j:Int))),some (Am (g (dn.length+1) j)),z7] [.lst (Ao (BM ws))] Q:=by
     intro z7 word Q q;refine AH (AV (A1 (A5 (A0 rfl (AV (A1 (A5 (A0 rfl (A9 (Az (A1 (A0 rfl (A4 ⟨DD,?_⟩)))))))))))));rw[show(dn.length:Int)+1=((dn.length+1:Nat):Int) by omega];exact wp_catN (js:=[.int ((dn.length+1:Nat):Int),.int (j:Int)]) (by simp) (A1 (A9 (A4 ⟨DD,q⟩)))
    refine A8 (AM (PD (i:=6) (j:=7) (a:=g (dn.length+1) j) (b:=g dn.length j) rfl rfl ⟨λh=>ret (.inr ⟨_,_,.inr ⟨dn.length,_,j,hle,ex,h4,⟨by omega,h5,.inl ⟨by simpa using h,rfl⟩⟩,rfl⟩,rfl⟩),λa1=>AI (A6 ?_)⟩));have a1:nmo (g (dn.length+1) j) (g dn.length j)=true:=by simpa using a1
    refine A8 (AK (Ac (A1 (A5 (A0 rfl (A0 rfl (AE rfl (Cn (by omega)) (A1 (A0 rfl (A1 (A5 (A0 rfl (A0 rfl (AE (by rw[CV,BF]) (E2 hk) (A4 ((LL okk (g dn.length) (w:=j) (N:=N) (by omega) (ZJ _ N _)).mono ?_))))))))))))))));rintro d x ⟨rfl,rfl⟩;refine A6 (AM (PD (i:=6) (j:=7) (a:=g (dn.length+1) j) (b:=As (wx ws[k]) (g dn.length) j) rfl rfl ⟨λh=>?_,λa2=>AI ⟨Ah _,j+1,_,_,_,by omega,by rw[show N-(j+1)=m by omega],rfl,rfl,λw hw=>?_⟩⟩))
    .rw[Lt.nextR_eq,SK a1]at h;exact ret (.inr ⟨_,_,.inr ⟨dn.length,_,j,hle,ex,h4,⟨by omega,h5,.inr ⟨a1,by simpa using h,rfl⟩⟩,rfl⟩,rfl⟩)
    .by_cases e:w=j
     .subst e;rw[Lt.nextR_eq,SK a1]at a2;exact⟨a1,by simpa using a2⟩
     .exact h5 w (by omega)
   .rintro ls hd ⟨j,y5,y6,y7,hj,er,rfl,rfl,h5⟩;have jN:N-j=0:=by
     cases q:N-j with
     |zero=>rfl
     |succ m=>rw[q,List.range'_succ]at er;cases er
    exact⟨by intro q hq;rw[ju]at hq;subst hq;rfl,dn++[(k:Int)],rest,_,_,_,_,_,by rw[e1];simp,by simp,rfl,rfl,by simpa using IX h4 ex λw hw=>h5 w (by omega)⟩
 .rintro ls hd ⟨dn,rest,z3,z4,z5,z6,z7,e1,er,rfl,rfl,h4⟩;cases rest with
  |cons i rest=>cases er
  |nil=>
   refine A6 (AH (A9 (.inl ⟨?_,rfl⟩)));have:=ES ws;rw[e1,jI]at this;rw[<- this];exact h4
def Wn{N:Nat}{f g:Nat->Option Int}{w v:Nat}(h:Er N x f g w a)(k:Er N x f g v b):w=v/\a=b:=by
 have key:∀{w v:Nat} {a b:Str},Er N x f g w a->Er N x f g v b->¬ w<v:=λh k l=>by
  obtain⟨p,q⟩:=k.2.1 _ l;rcases h.2.2 with⟨r,_⟩|⟨_,r,_⟩
  .rw[p]at r;cases r
  .rw[q]at r;cases r
 obtain rfl:w=v:=by have:=key h k;have:=key k h;omega
 refine⟨rfl,?_⟩;rcases h.2.2 with⟨r,rfl⟩|⟨r,r2,rfl⟩<;>rcases k.2.2 with⟨q,rfl⟩|⟨q,q2,rfl⟩
 .rfl
 .rw[r]at q;cases q
 .rw[r]at q;cases q
 .rfl
def Rl{N:Nat}{f g:Nat->Option Int}{w:Nat}(h:Er N x f g w a):¬ Bt N x f g:=λk=>by
 obtain⟨p,q⟩:=k w h.1;rcases h.2.2 with⟨r,_⟩|⟨_,r,_⟩
 .rw[p]at r;cases r
 .rw[q]at r;cases r
def b9{c:Int}{N:Nat}{g:Nat->Nat->Option Int}(h:GF c ws N g p a)(k:GF c ws N g q b):p=q/\a=b:=by
 rcases h with⟨h1,rfl,rfl⟩|⟨n,x,w,h1,h2,h3,h4,rfl⟩<;>rcases k with⟨k1,rfl,rfl⟩|⟨m,y,v,k1,k2,k3,k4,rfl⟩
 .exact⟨rfl,rfl⟩
 .rw[k3.1]at h1;cases h1
 .rw[h3.1]at k1;cases k1
 .have key:∀{n m:Nat} {x:Wx} {w:Nat} {a:Str},(wxs ws)[n]?=some x->Er N x (g n) (g (n+1)) w a->C6 c ws N g m->¬ n<m:=λe hb hm l=>Rl hb (hm.2 _ _ l e);obtain rfl:n=m:=by have:=key h2 h4 k3;have:=key k2 k4 h3;omega
  rw[h2]at k2;cases k2;obtain⟨rfl,rfl⟩:=Wn h4 k4;exact⟨rfl,rfl⟩
def dv{c:Int}{N:Nat}{g:Nat->Nat->Option Int}(h:GF c ws N g p a):¬ C6 c ws N g ws.length:=λk=>by
 rcases h with⟨h1,_⟩|⟨n,x,w,h1,h2,h3,h4,_⟩
 .rw[k.1]at h1;cases h1
 .exact Rl h4 (k.2 _ _ h1 h2)
open An
def BL(N:Nat):Tv->Bool
 |.tup es=>decide (es.length=N)
 |_=>false
def isI:Tv->Bool
 |.int _=>true
 |_=>false
def ent:Tv->Bool
 |.non=>true
 |.int _=>true
 |_=>false
def Gh{n:Nat}{i:Nat}(h:Is n hd t d)(hi:ls[i]?=some (some d)){QE:D->Hd->Prop}(q:QE (.im (.bl (isI t))) hd):WE (DU (Bj .int (A2 i)) (FP (Bj .bool (A2 i)))) ls hd QE:=by
 refine FV (AG (CT (A0 hi ⟨_,h.isD .int,_,rfl,?_⟩)));cases t with
 |int i=>
  rw[j6 (by rfl)];exact KI (AG (CT (A0 hi ⟨_,h.isD .bool,_,rfl,q⟩)))
 |bl b=>
  rw[j6 (by rfl)];exact KI (AG (CT (A0 hi ⟨_,h.isD .bool,_,rfl,q⟩)))
 |non=>rw[j7 (by simp[ty])];exact q
 |str x=>rw[j7 (by simp[ty])];exact q
 |tup x=>rw[j7 (by simp[ty])];exact q
 |lst x=>rw[j7 (by simp[ty])];exact q
def bf{n:Nat}(h:Is n hd t d):WF Ce [d] hd λe x=>e=.im (.bl (isI t))/\x=hd:=by
 unfold Ce;exact Ak rfl (AH (Gh h rfl ⟨rfl,rfl⟩))
def fj:Tv->Bool
 |.non=>true
 |_=>false
def bh{n:Nat}{i:Nat}{neg:Bool}(h:Is n hd t d)(hi:ls[i]?=some (some d)){QE:D->Hd->Prop}(q:QE (.im (.bl (if fj t then !neg else neg))) hd):WE (Aw neg (A2 i)) ls hd QE:=by
 refine⟨_,_,?_,q⟩;unfold Aw;rw[Sf,hi];show some (D.im (.bl _),hd)=_;cases t with
 |non=>simp only[Is]at h;subst h;rfl
 |bl b=>simp only[Is]at h;subst h;rfl
 |int b=>simp only[Is]at h;subst h;rfl
 |str b=>simp only[Is]at h;subst h;rfl
 |tup ts=>
  simp only[Is]at h;obtain⟨ds,rfl,_⟩:=h;unfold AT;cases BN ds<;>rfl
 |lst ts=>
  simp only[Is]at h;obtain⟨k,ds,rfl,_⟩:=h;rfl
def WR{n:Nat}{N:Nat}(h:Is n hd t d):WF BR [.im (.int (N:Int)),d] hd λe x=>e=.im (.bl (BL N t))/\x=hd:=by
 unfold BR;refine Ak rfl ?_;refine AH (FV (AG (CT (A0 rfl ⟨_,h.isD .tuple,_,rfl,?_⟩))));cases t with
 |tup es=>
  rw[j6 (by rfl)];obtain⟨ds,e1,e2⟩:=h.view;refine A5 (B5 (A1 (A0 rfl (A4 (Bf (ds:=ds) (by rw[j6 rfl];unfold Ax;rw[e1]) rfl (A0 rfl (BJ ⟨?_,rfl⟩)))))));have:=e2.len;show D.im (.bl (decide ((ds.length:Int)=(N:Int))))=.im (.bl (decide (es.length=N)));rw[this]
  congr 2
  simp;omega
 |int i=>rw[j7 (by simp[ty])];exact⟨rfl,rfl⟩
 |bl b=>rw[j7 (by simp[ty])];exact⟨rfl,rfl⟩
 |non=>rw[j7 (by simp[ty])];exact⟨rfl,rfl⟩
 |str x=>rw[j7 (by simp[ty])];exact⟨rfl,rfl⟩
 |lst x=>rw[j7 (by simp[ty])];exact⟨rfl,rfl⟩
def Ys{n:Nat}(h:Is n hd t d):WF FT [d] hd λe x=>e=.im (.bl (ent t))/\x=hd:=by
 unfold FT;refine Ak rfl (AH (Qv (AG (bh h rfl ⟨_,rfl,?_⟩))));cases t with
 |non=>exact⟨rfl,rfl⟩
 |bl b=>exact Gh h rfl ⟨rfl,rfl⟩
 |int b=>exact Gh h rfl ⟨rfl,rfl⟩
 |str b=>exact Gh h rfl ⟨rfl,rfl⟩
 |tup b=>exact Gh h rfl ⟨rfl,rfl⟩
 |lst b=>exact Gh h rfl ⟨rfl,rfl⟩
inductive RowOff(N:Nat):Tv->List I->Prop
 |whole (t:Tv) (h:BL N t=false):RowOff N t []
 |place (es:List Tv) (w:Nat) (e:Tv) (h2:es.length=N) (h3:es[w]?=some e) (h4:ent e=false) (h5:∀v,v<w->∀e,es[v]?=some e->ent e=true):RowOff N (.tup es) [.int (w:Int)]
def Dy(N:Nat)(t:Tv):Prop:=∃es,t=.tup es/\es.length=N/\∀e∈es,ent e=true
inductive ShOff(n N:Nat):Tv->List I->Prop
 |whole (t:Tv) (h:BL (n+1) t=false):ShOff n N t []
 |row (rs:List Tv) (k:Nat) (r:Tv) (p:List I) (h2:rs.length=n+1) (h3:rs[k]?=some r) (h4:RowOff N r p) (h5:∀j,j<k->∀r,rs[j]?=some r->Dy N r):ShOff n N (.tup rs) (.int (k:Int)::p)
def EF(n N:Nat)(t:Tv):Prop:=∃rs,t=.tup rs/\rs.length=n+1/\∀r∈rs,Dy N r
def Dw{ds:List D}{j:Nat}(h:d::r=((ds.drop j).zipIdx j).map enD):∃e,ds[j]?=some e/\d=enD (e,j)/\r=((ds.drop (j+1)).zipIdx (j+1)).map enD:=by
 cases q:ds[j]? with
 |none=>
  have:ds.length<=j:=List.getElem?_eq_none_iff.mp q;rw[ky this]at h;cases h
 |some e=>
  obtain⟨lt,rfl⟩:=List.getElem?_eq_some_iff.mp q;rw[List.drop_eq_getElem_cons lt,jM,jc]at h;obtain⟨rfl,rfl⟩:=List.cons.inj h;exact⟨_,rfl,rfl,rfl⟩
def HU{ds:List D}{j:Nat}(h:[]=((ds.drop j).zipIdx j).map enD):ds.length<=j:=by
 by_cases lt:j<ds.length
 .rw[List.drop_eq_getElem_cons lt,jM,jc]at h;cases h
 .omega
def Ga{n:Nat}{N:Nat}(h:Is n hd t d)(e:BL N t=true):∃es ds,t=.tup es/\es.length=N/\AS d=some ds/\Iss n hd es ds:=by
 cases t with
 |tup es=>
  obtain⟨ds,e1,e2⟩:=h.view;exact⟨es,ds,rfl,by simpa [BL]using e,e1,e2⟩
 |_=>cases e
def Fb{n:Nat}{j:Nat}(h:Iss n hd ts ds)(e:ds[j]?=some d):∃t,ts[j]?=some t/\Is n hd t d:=by
 have lt:j<ts.length:=by have:=(List.getElem?_eq_some_iff.mp e).1;rw[h.len]at this;exact this
 obtain⟨d',e1,e2⟩:=h.get (List.getElem?_eq_getElem lt);rw[e]at e1;cases e1;exact⟨_,List.getElem?_eq_getElem lt,e2⟩
def Vx{n:Nat}{i N:Nat}(h:Is n hd t d)(hi:ls[i]?=some (some d))(hm:me ls hd=some (.im (.int (N:Int)),hd)){QT:Bool->Hd->Prop}(q:QT (!BL N t) hd):WT (mOr (BX (BC (Bj .tuple (A2 i)))) (AF (mOp gNe (mCB (f1 true B1) (A3 (A2 i) A7)) me))) ls hd QT:=by
 refine Ef (C4 (BB (CT (A0 hi ⟨_,h.isD .tuple,_,rfl,?_⟩))));cases t with
 |tup es=>
  obtain⟨ds,e1,e2⟩:=h.view;rw[j7 (by simp[ty])];refine AG (A5 (B5 (A1 (A0 hi (A4 (Bf (ds:=ds) (by rw[j6 rfl];unfold Ax;rw[e1]) rfl (WP.eq hm (MH ⟨_,rfl,?_⟩))))))));have e:(!decide ((ds.length:Int)=(N:Int)))=!BL N (.tup es):=by
   rw[e2.len];congr 1;simp[BL];omega
  rw[e];exact q
 |int i=>exact q
 |bl b=>exact q
 |non=>exact q
 |str x=>exact q
 |lst x=>exact q
open PySem L2 Bd An
def Kp{a b j:Nat}:Bv 2 (Ae (AO a) (Ae (AO b) C8)) (enD (e,j)) ls hd=some ((ls.set a (some (.im (.int (j:Int))))).set b (some e)):=by
 unfold Bv enD;rw[AY];rfl
def Up{B c:Int}(ok:BW B c ws){N:Nat}(hN:(N:Int)=Ag ws+1){n:Nat}(h:Is n hd t d):WF Dz [.im (AR ws),d,.im (.tup [])] hd λe x=>x=hd/\((EF ws.length N t/\e=.im .non)∨∃p,ShOff ws.length N t p/\e=.im (.tup p)):=by
 have hl8:=ok.2.1;unfold Dz;refine Ak rfl ?_;refine A8 (AK (DL (BO (Cy (A0 rfl ⟨_,rfl,?_⟩)))));rw[BF];refine⟨Ai (by simp;omega),?_⟩;refine DB wmD (λw=>some (.im (.int w.wt))) (λ_ ls=>∃x,ls=[some x]) _ (Ah _) ?_ ?_
 .rintro p hp ls hls;refine⟨[some (wmD p)],by rcases hls with rfl|⟨_,x,rfl⟩<;>rfl,⟨_,rfl⟩,CS ⟨rfl,?_⟩⟩;rw[j6 rfl];exact⟨_,rfl,A5 (A5 (A0 rfl (A9 (AE (ds:=[.im (.int p.len),.im (.int p.com),csD p]) rfl (EE _ _ _ _) (A9 (AE (ds:=[.im (.str "miss"),.im (.int p.due),.im (.int p.wt)]) rfl (EE _ _ _ _) ⟨rfl,rfl⟩))))))⟩
 have e:(ws.filterMap λw=>some (D.im (.int w.wt)))=Ao (ws.map Wm.wt):=by simp[Ao]
 rw[e];refine⟨_,by unfold Fy;rw[F1];rfl,A6 ?_⟩;change WS _ [some (.im (AR ws)),some d,some (.im (.tup [])),some (.im (.int (Ag ws))),none,none,none,none] hd _;have l1:mOp AN (mCB (f1 true B1) (A3 (A2 0) A7)) (mC (.int 1)) [some (.im (AR ws)),some d,some (.im (.tup [])),some (.im (.int (Ag ws))),none,none,none,none] hd=some (.im (.int ((ws.length+1:Nat):Int)),hd):=by
  have:WE (mOp AN (mCB (f1 true B1) (A3 (A2 0) A7)) (mC (.int 1))) [some (.im (AR ws)),some d,some (.im (.tup [])),some (.im (.int (Ag ws))),none,none,none,none] hd λe x=>e=.im (.int ((ws.length+1:Nat):Int))/\x=hd:=A5 (B5 (A1 (A0 rfl (A4 (Bf (ds:=ws.map wmD) (by rw[j6 rfl,CV,BF]) rfl (A9 (Az ⟨by simp,rfl⟩)))))));obtain⟨_,_,q,rfl,rfl⟩:=this;exact q
 refine A8 (AM (Vx h rfl l1 ⟨λq=>?_,λq=>AI (A6 ?_)⟩))
 .exact AH (A0 rfl ⟨rfl,.inr ⟨_,.whole _ (by simpa using q),rfl⟩⟩)
 obtain⟨rs,ds,rfl,lr,tv,ir⟩:=Ga h (show BL (ws.length+1) t=true by simpa using q);refine A8 (Bn (Ck (Cy (A0 rfl ⟨ds,tv,?_⟩))));change WP (B3 _ _ _ (((ds.drop 0).zipIdx 0).map enD) _ _) _;refine Bc (λr ls x=>∃(j:Nat) (z4 z5 z6 z7:Option D),r=((ds.drop j).zipIdx j).map enD/\ls=[some (.im (AR ws)),some d,some (.im (.tup [])),some (.im (.int (Ag ws))),z4,z5,z6,z7]/\x=hd/\∀k,k<j->∀r,rs[k]?=some r->Dy N r) ⟨0,none,none,none,none,rfl,rfl,rfl,λk hk=>by omega⟩ ?_ ?_
 .rintro e r ls x ⟨j,z4,z5,z6,z7,er,rfl,hx,hg⟩;subst x;obtain⟨dr,ej,rfl,rfl⟩:=Dw er;obtain⟨tr,et,hr⟩:=Fb ir ej;refine⟨[some (.im (AR ws)),some d,some (.im (.tup [])),some (.im (.int (Ag ws))),some (.im (.int (j:Int))),some dr,z6,z7],Kp,?_⟩;have l2:mOp AN (A2 3) (mC (.int 1)) [some (.im (AR ws)),some d,some (.im (.tup [])),some (.im (.int (Ag ws))),some (.im (.int (j:Int))),some dr,z6,z7] hd=some (.im (.int (N:Int)),hd):=by
   have:WE (mOp AN (A2 3) (mC (.int 1))) [some (.im (AR ws)),some d,some (.im (.tup [])),some (.im (.int (Ag ws))),some (.im (.int (j:Int))),some dr,z6,z7] hd λe x=>e=.im (.int (N:Int))/\x=hd:=A5 (A0 rfl (A9 (Az ⟨by rw[hN],rfl⟩)));obtain⟨_,_,q,rfl,rfl⟩:=this;exact q
  refine A8 (AM (Vx hr rfl l2 ⟨λq=>?_,λq=>AI (A6 ?_)⟩))
  .refine AH (A5 (A0 rfl (AV (A1 (A0 rfl (A4 ⟨BU,?_⟩))))));rw[Gj];exact wp_catN (by simp) ⟨rfl,.inr ⟨_,.row rs j tr [] lr et (.whole _ (by simpa using q)) hg,rfl⟩⟩
  obtain⟨es,ds',rfl,le,tv',ie⟩:=Ga hr (show BL N tr=true by simpa using q);refine Bn (Ck (Cy (A0 rfl ⟨ds',tv',?_⟩)));change WP (B3 _ _ _ (((ds'.drop 0).zipIdx 0).map enD) _ _) _;refine Bc (λr ls x=>∃(w:Nat) (y6 y7:Option D),r=((ds'.drop w).zipIdx w).map enD/\ls=[some (.im (AR ws)),some d,some (.im (.tup [])),some (.im (.int (Ag ws))),some (.im (.int (j:Int))),some dr,y6,y7]/\x=hd/\∀v,v<w->∀e,es[v]?=some e->ent e=true) ⟨0,z6,z7,rfl,rfl,rfl,λk hk=>by omega⟩ ?_ ?_
  .rintro e r ls x ⟨w,y6,y7,er,rfl,hx,hv⟩;subst x;obtain⟨de,ew,rfl,rfl⟩:=Dw er;obtain⟨te,eu,he⟩:=Fb ie ew;refine⟨[some (.im (AR ws)),some d,some (.im (.tup [])),some (.im (.int (Ag ws))),some (.im (.int (j:Int))),some dr,some (.im (.int (w:Int))),some de],Kp,?_⟩;refine AM (C4 (BB (Ac (A1 (A0 rfl (A4 ((Ys he).mono ?_)))))));rintro d2 x2 ⟨rfl,hx2⟩;subst x2;refine⟨_,rfl,λq=>?_,λq=>AI ⟨Ah _,w+1,_,_,rfl,rfl,rfl,λv lv e ee=>?_⟩⟩
   .refine AH (A5 (A0 rfl (AV (A1 (A0 rfl (A1 (A0 rfl (A4 ⟨DD,?_⟩))))))));exact wp_catN (js:=[.int (j:Int),.int (w:Int)]) (by simp) ⟨rfl,.inr ⟨_,.row rs j _ [.int (w:Int)] lr et (.place es w te le eu (by simpa using q) hv) hg,rfl⟩⟩
   .by_cases z:v=w
    .subst z;rw[eu]at ee;cases ee;simpa using q
    .exact hv v (by omega) e ee
  .rintro ls x ⟨w,y6,y7,er,rfl,hx,hv⟩;subst x;have hw:=HU er;refine⟨Ah _,j+1,_,_,_,_,rfl,rfl,rfl,λk lk r hr'=>?_⟩;by_cases z:k=j
   .subst z;rw[et]at hr';cases hr';refine⟨es,rfl,le,λe he=>?_⟩;obtain⟨v,lv,rfl⟩:=List.mem_iff_getElem.mp he;exact hv v (by rw[ie.len]at hw;omega) _ (List.getElem?_eq_getElem lv)
   .exact hg k (by omega) r hr'
 .rintro ls x ⟨j,z4,z5,z6,z7,er,rfl,hx,hg⟩;subst x;have hj:=HU er;refine A6 (AH (A9 ⟨rfl,.inl ⟨⟨rs,rfl,lr,λr hr=>?_⟩,rfl⟩⟩));obtain⟨k,lk,rfl⟩:=List.mem_iff_getElem.mp hr;exact hg k (by rw[ir.len]at hj;omega) _ (List.getElem?_eq_getElem lk)
open PySem L2 Bd An
def W3{n:Nat}{i:Nat}(h:Is n hd t d)(hi:ls[i]?=some (some d)){QT:Bool->Hd->Prop}(q:QT (!ent t) hd):WT (DY (AF (Aw true (A2 i))) (BX (BC (AX Ce (A3 (A2 i) A7))))) ls hd QT:=by
 refine Fh (AG (bh h hi ⟨_,rfl,?_⟩));have num:∀{QT:Bool->Hd->Prop},QT (!isI t) hd->WT (BX (BC (AX Ce (A3 (A2 i) A7)))) ls hd QT:=by
  intro QT q;refine C4 (BB (Ac (A1 (A0 hi (A4 ((bf h).mono ?_))))));rintro e x ⟨rfl,hx⟩;subst x;exact⟨_,rfl,q⟩
 cases t with
 |non=>exact q
 |bl b=>exact num q
 |int b=>exact num q
 |str b=>exact num q
 |tup b=>exact num q
 |lst b=>exact num q
def Jd{n:Nat}{i N:Nat}(h:Is n hd t d)(hi:ls[i]?=some (some d))(hm:me ls hd=some (.im (.int (N:Int)),hd)){QT:Bool->Hd->Prop}(q:QT (!BL N t) hd):WT (BX (BC (AX BR (A3 me (A3 (A2 i) A7))))) ls hd QT:=by
 refine C4 (BB (Ac (A1 (WP.eq hm (A1 (A0 hi (A4 ((WR h).mono ?_))))))));rintro e x ⟨rfl,hx⟩;subst x;exact⟨_,rfl,q⟩
def Q4{Q:Fl->Hd->Prop}(h:Q (.nx ls) hd):WS (DI AU) ls hd Q:=Ep (AI ⟨(λd=>nofun),h⟩)
def WZ{B c:Int}(ok:BW B c ws){N:Nat}(hN:(N:Int)=Ag ws+1){n:Nat}(h:Is n hd t d)(hb:¬ EF ws.length N t):WF CZ [.im (AR ws),d,.im (.tup [])] hd λe x=>x=hd/\∃p,ShOff ws.length N t p/\e=NoP p "shape":=by
 have hl8:=ok.2.1;unfold CZ;refine Hn rfl ?_;change WS _ [some (.im (AR ws)),some d,some (.im (.tup [])),none,none,none,none,none] hd _;have l1:mOp AN (mCB (f1 true B1) (A3 (A2 0) A7)) (mC (.int 1)) [some (.im (AR ws)),some d,some (.im (.tup [])),none,none,none,none,none] hd=some (.im (.int ((ws.length+1:Nat):Int)),hd):=by
  have:WE (mOp AN (mCB (f1 true B1) (A3 (A2 0) A7)) (mC (.int 1))) [some (.im (AR ws)),some d,some (.im (.tup [])),none,none,none,none,none] hd λe x=>e=.im (.int ((ws.length+1:Nat):Int))/\x=hd:=A5 (B5 (A1 (A0 rfl (A4 (Bf (ds:=ws.map wmD) (by rw[j6 rfl,CV,BF]) rfl (A9 (Az ⟨by simp,rfl⟩)))))));obtain⟨_,_,q,rfl,rfl⟩:=this;exact q
 refine A8 (AM (Jd h rfl l1 ⟨λq=>?_,λq=>Q4 (A6 ?_)⟩))
 .exact EK (A1 (A0 rfl (A1 (A9 (A4 ⟨rfl,_,rfl,rfl,_,.whole _ (by simpa using q),rfl⟩)))))
 obtain⟨rs,ds,rfl,lr,tv,ir⟩:=Ga h (show BL (ws.length+1) t=true by simpa using q);refine A8 (Ep (AK (A5 (Ad (A1 (A0 rfl (A4 ⟨by simp,(Na ok).mono ?_⟩)))))));rintro d2 x2 rfl;refine⟨_,rfl,A9 (Az ⟨(λd=>nofun),A6 ?_⟩)⟩;rw[<- hN];refine Bn (Ck (Cy (A0 rfl ⟨ds,tv,?_⟩)));change WP (B3 _ _ _ (((ds.drop 0).zipIdx 0).map enD) [some (.im (AR ws)),some d,some (.im (.tup [])),some (.im (.int (N:Int))),none,none,none,none] hd) _;refine Bc (λr ls x=>∃(j:Nat) (z4 z5 z6 z7:Option D),r=((ds.drop j).zipIdx j).map enD/\ls=[some (.im (AR ws)),some d,some (.im (.tup [])),some (.im (.int (N:Int))),z4,z5,z6,z7]/\x=hd/\∀k,k<j->∀r,rs[k]?=some r->Dy N r) ⟨0,none,none,none,none,rfl,rfl,rfl,λk hk=>by omega⟩ ?_ ?_
 .rintro e r ls x ⟨j,z4,z5,z6,z7,er,rfl,hx,hg⟩;subst x;obtain⟨dr,ej,rfl,rfl⟩:=Dw er;obtain⟨tr,et,hr⟩:=Fb ir ej;refine⟨[some (.im (AR ws)),some d,some (.im (.tup [])),some (.im (.int (N:Int))),some (.im (.int (j:Int))),some dr,z6,z7],Kp,?_⟩;refine A8 (AM (Jd hr rfl rfl ⟨λq=>?_,λq=>Q4 (A6 ?_)⟩))
  .refine EK (A1 (A5 (A0 rfl (AV (A1 (A0 rfl (A4 ⟨BU,?_⟩)))))));rw[Gj];exact wp_catN (by simp) (A1 (A9 (A4 ⟨rfl,_,rfl,rfl,_,.row rs j tr [] lr et (.whole _ (by simpa using q)) hg,rfl⟩)))
  obtain⟨es,ds',rfl,le,tv',ie⟩:=Ga hr (show BL N tr=true by simpa using q);refine Bn (Ck (Cy (A0 rfl ⟨ds',tv',?_⟩)));change WP (B3 _ _ _ (((ds'.drop 0).zipIdx 0).map enD) _ _) _;refine Bc (λr ls x=>∃(w:Nat) (y6 y7:Option D),r=((ds'.drop w).zipIdx w).map enD/\ls=[some (.im (AR ws)),some d,some (.im (.tup [])),some (.im (.int (N:Int))),some (.im (.int (j:Int))),some dr,y6,y7]/\x=hd/\∀v,v<w->∀e,es[v]?=some e->ent e=true) ⟨0,z6,z7,rfl,rfl,rfl,λk hk=>by omega⟩ ?_ ?_
  .rintro e r ls x ⟨w,y6,y7,er,rfl,hx,hv⟩;subst x;obtain⟨de,ew,rfl,rfl⟩:=Dw er;obtain⟨te,eu,he⟩:=Fb ie ew;refine⟨[some (.im (AR ws)),some d,some (.im (.tup [])),some (.im (.int (N:Int))),some (.im (.int (j:Int))),some dr,some (.im (.int (w:Int))),some de],Kp,?_⟩;refine AM (W3 he rfl ⟨λq=>?_,λq=>Q4 ⟨Ah _,w+1,_,_,rfl,rfl,rfl,λv lv e ee=>?_⟩⟩)
   .refine EK (A1 (A5 (A0 rfl (AV (A1 (A0 rfl (A1 (A0 rfl (A4 ⟨DD,?_⟩)))))))));exact wp_catN (js:=[.int (j:Int),.int (w:Int)]) (by simp) (A1 (A9 (A4 ⟨rfl,_,rfl,rfl,_,.row rs j _ [.int (w:Int)] lr et (.place es w te le eu (by simpa using q) hv) hg,rfl⟩)))
   .by_cases z:v=w
    .subst z;rw[eu]at ee;cases ee;simpa using q
    .exact hv v (by omega) e ee
  .rintro ls x ⟨w,y6,y7,er,rfl,hx,hv⟩;subst x;have hw:=HU er;refine⟨Ah _,j+1,_,_,_,_,rfl,rfl,rfl,λk lk r hr'=>?_⟩;by_cases z:k=j
   .subst z;rw[et]at hr';cases hr';refine⟨es,rfl,le,λe he=>?_⟩;obtain⟨v,lv,rfl⟩:=List.mem_iff_getElem.mp he;exact hv v (by rw[ie.len]at hw;omega) _ (List.getElem?_eq_getElem lv)
   .exact hg k (by omega) r hr'
 .rintro ls x ⟨j,z4,z5,z6,z7,er,rfl,hx,hg⟩;have hj:=HU er;refine absurd ⟨rs,rfl,lr,λr hr=>?_⟩ hb;obtain⟨k,lk,rfl⟩:=List.mem_iff_getElem.mp hr;exact hg k (by rw[ir.len]at hj;omega) _ (List.getElem?_eq_getElem lk)
open PySem L2 Bd An
def YL{N:Nat}(h:RowOff N t p)(k:RowOff N t q):p=q:=by
 cases h with
 |whole _ h=>
  cases k with
  |whole _ k=>rfl
  |place es w e k2 k3 k4 k5=>simp[BL,k2]at h
 |place es w e h2 h3 h4 h5=>
  cases k with
  |whole _ k=>simp[BL,h2]at k
  |place _ v f k2 k3 k4 k5=>
   have a:¬ w<v:=λl=>by rw[k5 w l e h3]at h4;cases h4
   have b:¬ v<w:=λl=>by rw[h5 v l f k3]at k4;cases k4
   obtain rfl:w=v:=by omega
   rfl
def N8{N:Nat}(h:RowOff N t p):¬ Dy N t:=by
 rintro⟨es,rfl,le,hg⟩;cases h with
 |whole _ h=>simp[BL,le]at h
 |place _ w e h2 h3 h4 h5=>rw[hg e (jq h3)]at h4;cases h4
def ZN{n N:Nat}(h:ShOff n N t p)(k:ShOff n N t q):p=q:=by
 cases h with
 |whole _ h=>
  cases k with
  |whole _ k=>rfl
  |row rs w r p k2 k3 k4 k5=>simp[BL,k2]at h
 |row rs w r p h2 h3 h4 h5=>
  cases k with
  |whole _ k=>simp[BL,h2]at k
  |row _ v s q k2 k3 k4 k5=>
   have a:¬ w<v:=λl=>N8 h4 (k5 w l r h3);have b:¬ v<w:=λl=>N8 k4 (h5 v l s k3);obtain rfl:w=v:=by omega
   rw[h3]at k3;cases k3;rw[YL h4 k4]
def dI{n N:Nat}(h:ShOff n N t p):¬ EF n N t:=by
 rintro⟨rs,rfl,le,hg⟩;cases h with
 |whole _ h=>simp[BL,le]at h
 |row _ w r p h2 h3 h4 h5=>exact N8 h4 (hg r (jq h3))
def V8:Tv->Option Int
 |.int i=>some i
 |_=>none
def cg{n:Nat}(h:Is n hd t d)(e:ent t=true):d=Am (V8 t):=by
 cases t with
 |non=>simp only[Is]at h;subst h;rfl
 |int i=>simp only[Is]at h;subst h;rfl
 |_=>cases e
theorem Oy{n:Nat}:∀{ts:List Tv} {ds:List D},Iss n hd ts ds->(∀t∈ts,ent t=true)->ds=(ts.map λt=>ET (V8 t)).map D.im
 |[],ds,h,_=>by simp only[Iss]at h;subst h;rfl
 |t::ts,ds,h,k=>by
  simp only[Iss]at h;obtain⟨d,r,rfl,h1,h2⟩:=h;rw[cg h1 (k t (by simp)),Oy h2 λu hu=>k u (by simp[hu])];rfl
def Zb{n N:Nat}(h:Is n hd t d)(g:Dy N t):∃f:Nat->Option Int,d=.im (Au N f):=by
 obtain⟨es,rfl,rfl,hg⟩:=g;simp only[Is]at h;obtain⟨ds,rfl,h⟩:=h;refine⟨λw=>V8 (es.getD w .non),?_⟩;rw[Oy h hg,Cb]
 congr 2
 refine List.ext_getElem (by simp) λi h1 h2=>?_;simp only[jo]at h1;simp[h1]
theorem OU{n N:Nat}:∀{ts:List Tv} {ds:List D},Iss n hd ts ds->(∀t∈ts,Dy N t)->∃g:Nat->Nat->Option Int,ds=(List.range ts.length).map λk=>D.im (Au N (g k))
 |[],ds,h,_=>by simp only[Iss]at h;subst h;exact⟨λ_ _=>none,rfl⟩
 |t::ts,ds,h,k=>by
  simp only[Iss]at h;obtain⟨d,r,rfl,h1,h2⟩:=h;obtain⟨f,rfl⟩:=Zb h1 (k t (by simp));obtain⟨g,rfl⟩:=OU h2 λu hu=>k u (by simp[hu]);refine⟨λk=>match k with|0=>f|k+1=>g k,?_⟩;rw[jK,List.range_succ_eq_map,jc,jh];rfl
def V5{n m N:Nat}(h:Is m hd t d)(g:EF n N t):∃g:Nat->Nat->Option Int,d=.im (Ay n N g):=by
 obtain⟨rs,rfl,lr,hg⟩:=g;simp only[Is]at h;obtain⟨ds,rfl,h⟩:=h;obtain⟨g,rfl⟩:=OU h hg;refine⟨g,?_⟩;rw[lr];have:((List.range (n+1)).map λk=>D.im (Au N (g k)))=((List.range (n+1)).map λk=>Au N (g k)).map D.im:=by rw[jh];rfl
 rw[this,Cb];rfl
open PySem L2 Bd An
def NZ{N:Nat}(h:Dy N t):BL N t=true:=by
 obtain⟨es,rfl,le,_⟩:=h;simp[BL,le]
def OS{B c:Int}(ok:BW B c ws){N:Nat}(hN:(N:Int)=Ag ws+1){n:Nat}(h:Is n hd t d)(hb:EF ws.length N t):WF Bh [.im (AR ws),d,.im (.tup [])] hd λe x=>x=hd/\e=.im .non:=by
 have hl8:=ok.2.1;unfold Bh;refine Ak rfl ?_;change WS _ [some (.im (AR ws)),some d,some (.im (.tup [])),none,none,none,none,none] hd _;have l1:mOp AN (mCB (f1 true B1) (A3 (A2 0) A7)) (mC (.int 1)) [some (.im (AR ws)),some d,some (.im (.tup [])),none,none,none,none,none] hd=some (.im (.int ((ws.length+1:Nat):Int)),hd):=by
  have:WE (mOp AN (mCB (f1 true B1) (A3 (A2 0) A7)) (mC (.int 1))) [some (.im (AR ws)),some d,some (.im (.tup [])),none,none,none,none,none] hd λe x=>e=.im (.int ((ws.length+1:Nat):Int))/\x=hd:=A5 (B5 (A1 (A0 rfl (A4 (Bf (ds:=ws.map wmD) (by rw[j6 rfl,CV,BF]) rfl (A9 (Az ⟨by simp,rfl⟩)))))));obtain⟨_,_,q,rfl,rfl⟩:=this;exact q
 obtain⟨rs,rfl,lr,hg⟩:=hb;have t1:BL (ws.length+1) (.tup rs)=true:=by simp[BL,lr]
 refine A8 (AM (Jd h rfl l1 ⟨λq=>?_,λq=>AI (A6 ?_)⟩))
 .rw[t1]at q;cases q
 obtain⟨_,ds,e0,_,tv,ir⟩:=Ga h t1;cases e0;refine A8 (AK (A5 (Ad (A1 (A0 rfl (A4 ⟨by simp,(Na ok).mono ?_⟩))))));rintro d2 x2 rfl;refine⟨_,rfl,A9 (Az (A6 ?_))⟩;rw[<- hN];refine Bn (Ck (Cy (A0 rfl ⟨ds,tv,?_⟩)));change WP (B3 _ _ _ (((ds.drop 0).zipIdx 0).map enD) [some (.im (AR ws)),some d,some (.im (.tup [])),some (.im (.int (N:Int))),none,none,none,none] hd) _;refine Bc (λr ls x=>∃(j:Nat) (z4 z5 z6 z7:Option D),r=((ds.drop j).zipIdx j).map enD/\ls=[some (.im (AR ws)),some d,some (.im (.tup [])),some (.im (.int (N:Int))),z4,z5,z6,z7]/\x=hd) ⟨0,none,none,none,none,rfl,rfl,rfl⟩ ?_ ?_
 .rintro e r ls x ⟨j,z4,z5,z6,z7,er,rfl,hx⟩;subst x;obtain⟨dr,ej,rfl,rfl⟩:=Dw er;obtain⟨tr,et,hr⟩:=Fb ir ej;have gr:=hg tr (jq et);refine⟨[some (.im (AR ws)),some d,some (.im (.tup [])),some (.im (.int (N:Int))),some (.im (.int (j:Int))),some dr,z6,z7],Kp,?_⟩;refine A8 (AM (Jd hr rfl rfl ⟨λq=>?_,λq=>AI (A6 ?_)⟩))
  .rw[NZ gr]at q;cases q
  obtain⟨es,ds',rfl,le,tv',ie⟩:=Ga hr (NZ gr);obtain⟨es',ee',_,ge⟩:=gr;cases ee';refine Bn (Ck (Cy (A0 rfl ⟨ds',tv',?_⟩)));change WP (B3 _ _ _ (((ds'.drop 0).zipIdx 0).map enD) _ _) _;refine Bc (λr ls x=>∃(w:Nat) (y6 y7:Option D),r=((ds'.drop w).zipIdx w).map enD/\ls=[some (.im (AR ws)),some d,some (.im (.tup [])),some (.im (.int (N:Int))),some (.im (.int (j:Int))),some dr,y6,y7]/\x=hd) ⟨0,z6,z7,rfl,rfl,rfl⟩ ?_ ?_
  .rintro e r ls x ⟨w,y6,y7,er,rfl,hx⟩;subst x;obtain⟨de,ew,rfl,rfl⟩:=Dw er;obtain⟨te,eu,he⟩:=Fb ie ew;refine⟨[some (.im (AR ws)),some d,some (.im (.tup [])),some (.im (.int (N:Int))),some (.im (.int (j:Int))),some dr,some (.im (.int (w:Int))),some de],Kp,?_⟩;refine AM (W3 he rfl ⟨λq=>?_,λq=>AI ⟨Ah _,w+1,_,_,rfl,rfl,rfl⟩⟩);rw[ge te (jq eu)]at q;cases q
  .rintro ls x ⟨w,y6,y7,er,rfl,hx⟩;subst x;exact⟨Ah _,j+1,_,_,_,_,rfl,rfl,rfl⟩
 .rintro ls x ⟨j,z4,z5,z6,z7,er,rfl,hx⟩;subst x;exact⟨rfl,rfl⟩
open Lt (DX Cd B4 As sel BZ Wx nmo CI Bt)
def Ox{c:Int}{k:Nat}(h:L[k]?=some x):fT c L (k+1)=As x (fT c L k):=by
 funext w
 rw[fT,h]
def Uh(o:Option Int):nmo o o=true:=by cases o<;>simp[nmo]
def OL(ws:List Wm):(wxs ws).length=ws.length:=by unfold wxs;rw[jo,ES]
theorem Qk{c:Int}{N:Nat}{g:Nat->Nat->Option Int}(h:C6 c ws N g ws.length):∀k,k<=ws.length->∀w,w<N->nmo (g k w) (fT c (wxs ws) k w)=true
 |0,_,w,_=>by
  rw[fT];by_cases e:w=0
  .subst e;simpa using h.1
  .rw[j7 e];rfl
 |k+1,hk,w,hw=>by
  obtain⟨x0,hx⟩:∃x,(wxs ws)[k]?=some x:=⟨_,List.getElem?_eq_getElem (by rw[OL];omega)⟩
  rw[Ox hx];exact Lt.row_below (h.2 k _ (by omega) hx) (Qk h k (by omega)) w hw
theorem R9{c:Int}{ws:List Wm}:∀k,k<=ws.length->(fT c (wxs ws) k 0).isSome=true
 |0,_=>by simp[fT]
 |k+1,hk=>by
  have ih:=R9 (c:=c) (ws:=ws) k (by omega);obtain⟨x0,hx⟩:∃x,(wxs ws)[k]?=some x:=⟨_,List.getElem?_eq_getElem (by rw[OL];omega)⟩
  rw[Ox hx];have:=(Lt.nmo_of (Uh (As x0 (fT c (wxs ws) k) 0))).1;cases q:fT c (wxs ws) k 0 with
  |none=>rw[q]at ih;cases ih
  |some x=>
   rw[q]at this;cases p:As x0 (fT c (wxs ws) k) 0 with
   |none=>rw[p]at this;simp[nmo]at this
   |some y=>rfl
def FF(N:Nat)(g:Nat->Nat->Option Int):Nat->Nat->Option Int:=λk w=>if w<N then g k w else none
def Yu(n N:Nat)(g:Nat->Nat->Option Int):Ay n N (FF N g)=Ay n N g:=by
 unfold Ay
 congr 1
 refine kx λk _=>?_;unfold Au
 congr 1
 refine kx λw hw=>?_;have:=mem_range.mp hw;simp[FF,this]
def G9{N:Nat}{g:Nat->Nat->Option Int}{k w:Nat}(h:w<N):FF N g k w=g k w:=j6 h
def cut_row{N:Nat}{g:Nat->Nat->Option Int}{k k':Nat}:Bt N x (FF N g k) (FF N g k')↔Bt N x (g k) (g k'):=by
 have e:∀w,w<N->CI x (FF N g k) w=CI x (g k) w:=λw hw=>by
  unfold CI;split
  .rfl
  .rw[G9 (by omega)]
 exact⟨λh w hw=>by have:=h w hw;rwa [G9 hw,G9 hw,e w hw]at this,λh w hw=>by rw[G9 hw,G9 hw,e w hw];exact h w hw⟩
def ck{c:Int}{N n:Nat}(h0:0<N){g:Nat->Nat->Option Int}:C6 c ws N (FF N g) n↔C6 c ws N g n:=by
 unfold C6;rw[G9 h0];exact⟨λh=>⟨h.1,λk x a b=>cut_row.mp (h.2 k x a b)⟩,λh=>⟨h.1,λk x a b=>cut_row.mpr (h.2 k x a b)⟩⟩
theorem W1(P:Nat->Bool):∀N,(∀w,P w=true->w<N)->(∃w,P w=true)->∃m,m<N/\P m=true/\∀w,P w=true->w<=m
 |0,h,⟨w,hw⟩=>absurd (h w hw) (kg _)
 |N+1,h,⟨w,hw⟩=>by
  by_cases q:P N=true
  .exact⟨N,by omega,q,λv hv=>by have:=h v hv;omega⟩
  .obtain⟨m,a,b,c⟩:=W1 P N (λv hv=>by
    have:=h v hv;have:v≠N:=λe=>q (e ▸ hv);omega) ⟨w,hw⟩
   exact⟨m,by omega,b,c⟩
def cL{N n:Nat}(h0:0<N){g:Nat->Nat->Option Int}(h:(g n 0).isSome=true):∃m,m<N/\(FF N g n m).isSome=true/\∀w,(FF N g n w).isSome=true->w<=m:=
 W1 (λw=>(FF N g n w).isSome) N (λw hw=>by
  unfold FF at hw;split at hw
  .assumption
  .cases hw) ⟨0,by rw[G9 h0];exact h⟩
def fZ{c:Int}{N:Nat}(h0:0<N){g:Nat->Nat->Option Int}(h:C6 c ws N g ws.length):(g ws.length 0).isSome=true:=by
 have a:=Qk h ws.length (j9 _) 0 h0;have b:=R9 (c:=c) (ws:=ws) ws.length (j9 _);cases q:fT c (wxs ws) ws.length 0 with
 |none=>rw[q]at b;cases b
 |some x=>
  rw[q]at a;cases p:g ws.length 0 with
  |none=>rw[p]at a;simp[nmo]at a
  |some y=>rfl
open PySem L2 Bd An
def c8{B c:Int}(ok:BW B c ws)(hB:B<=2000){N:Nat}(eN:N=(Ag ws).toNat+1){n:Nat}{g:Nat->Nat->Option Int}(h:Is n hd t (.im (Ay ws.length N g)))(hs:EF ws.length N t)(hg:C6 c ws N g ws.length){m:Nat}(hm:m<N)(h1:(g ws.length m).isSome=true)(h2:∀w,(g ws.length w).isSome=true->w<=m):WF Cu [.im (AR ws),.im (Ay ws.length N g)] hd λe x=>e=.im (.int (Ag ws-m))/\x=hd:=by
 have hf:=EY ok;subst eN;have hcl:∀f:Nat->Nat->Option Int,BD 0 [D.im (AR ws),.im (Ay ws.length ((Ag ws).toNat+1) f),.im (.tup [])]=true:=λf=>by simp
 unfold Cu;refine Ak rfl ?_;refine A8 (CL (Ad (A1 (A0 rfl (A4 ⟨by simp,(IF ok).mono ?_⟩)))));rintro d x rfl;refine⟨_,rfl,A6 ?_⟩;refine A8 (CL (Ac (A1 (A0 rfl (A1 (A0 rfl (A1 (AV (A4 ⟨Bs,A4 ((OS ok (by omega) h hs).mono ?_)⟩)))))))));rintro d x ⟨hx,rfl⟩;subst x;refine A6 ?_;refine A8 (CL (Ad (A1 (A0 rfl (A1 (A0 rfl (A1 (AV (A4 ⟨Bs,A4 ⟨hcl _,(UU ok hB (by omega) (by omega) hg).mono ?_⟩⟩)))))))));rintro d x rfl;refine⟨_,rfl,A6 ?_⟩;refine AH (A5 (Ad (A1 (A0 rfl (A4 ⟨by simp,(Na ok).mono ?_⟩)))));rintro d x rfl;refine⟨_,rfl,Ad (A1 (A0 rfl (A4 ⟨by simp,(K1 (by omega) (by omega) h1 h2).mono ?_⟩)))⟩;rintro d x rfl;exact⟨_,rfl,BI ⟨rfl,rfl⟩⟩
def c9{B c:Int}(ok:BW B c ws){N:Nat}(eN:N=(Ag ws).toNat+1){n:Nat}(h:Is n hd t d)(hs:¬ EF ws.length N t):WF Be [.im (AR ws),d] hd λe x=>x=hd/\∃p,ShOff ws.length N t p/\e=NoP p "shape":=by
 have hf:=EY ok;subst eN;unfold Be;refine Hn rfl ?_;refine A8 (Ep (CL (Ad (A1 (A0 rfl (A4 ⟨by simp,(IF ok).mono ?_⟩))))));rintro e x rfl;refine⟨_,rfl,(λd=>by intro q;cases q),A6 ?_⟩;refine A8 (KD (Fc (IK G8)) (AH (Ac (A1 (A0 rfl (A1 (A0 rfl (A1 (AV (A4 ⟨Bs,A4 ((WZ ok (by omega) h hs).mono ?_)⟩))))))))));rintro e x ⟨hx,p,hp,rfl⟩;subst x;exact⟨_,rfl,Bi ⟨_,rfl,rfl,p,hp,rfl⟩⟩
def cA{B c:Int}(ok:BW B c ws)(hB:B<=2000){N:Nat}(eN:N=(Ag ws).toNat+1){n:Nat}{g:Nat->Nat->Option Int}(h:Is n hd t (.im (Ay ws.length N g)))(hs:EF ws.length N t)(hg:¬ C6 c ws N g ws.length):WF Be [.im (AR ws),.im (Ay ws.length N g)] hd λe x=>x=hd/\∃p word,GF c ws N g p word/\e=NoP p word:=by
 have hf:=EY ok;subst eN;have hcl:∀f:Nat->Nat->Option Int,BD 0 [D.im (AR ws),.im (Ay ws.length ((Ag ws).toNat+1) f),.im (.tup [])]=true:=λf=>by simp
 unfold Be;refine Hn rfl ?_;refine A8 (Ep (CL (Ad (A1 (A0 rfl (A4 ⟨by simp,(IF ok).mono ?_⟩))))));rintro e x rfl;refine⟨_,rfl,(λd=>by intro q;cases q),A6 ?_⟩;refine A8 (OM (CL (Ac (A1 (A0 rfl (A1 (A0 rfl (A1 (AV (A4 ⟨Bs,A4 ((OS ok (by omega) h hs).mono ?_)⟩))))))))));rintro d x ⟨hx,rfl⟩;subst x;refine⟨(λd=>by intro q;cases q),A6 ?_⟩;refine A8 (KD (Fc (HV FL)) (AH (Kt (A1 (A0 rfl (A1 (A0 rfl (A1 (AV (A4 ⟨Bs,A4 ⟨hcl _,(UT ok hB (by omega) (by omega) hg).mono ?_⟩⟩))))))))));rintro d x ⟨p,word,hp,rfl⟩;exact⟨_,_,_,rfl,by simp,_,rfl,Bi ⟨_,rfl,rfl,p,word,hp,rfl⟩⟩
open PySem L2 Bd An
def RJ(hx:WF Be [.im (AR ws),d] hd λe x=>x=hd/\e=NoP p word):WF GA [.im (AR ws),d] hd λe x=>e=.im (.tup [.str "no",.tup p,.str word])/\x=hd:=by
 unfold GA;refine Ak rfl ?_;refine A8 (AK (A9 (A6 ?_)));refine A8 (TM (cj (Yt (Sk (VA (IK Lj))))) (AH (WM (A9 (Ac (A1 (A0 rfl (A1 (A0 rfl (A4 (hx.mono ?_)))))))))));rintro e x ⟨hx,rfl⟩;subst x;refine⟨_,_,_,rfl,by simp,?_⟩;refine AK (A0 rfl ⟨_,rfl,A6 ?_⟩);refine A8 (AM (Ef (C4 (BB (MK (A0 rfl ⟨_,_,_,true,rfl,rfl,true,rfl,?_⟩))))));rw[j7 (by simp)];refine C4 (BB (MK (A0 rfl ⟨_,_,_,true,rfl,rfl,true,rfl,(λh=>by cases h),λ_=>AI (A6 ?_)⟩)));refine A8 (AM (BB (MK (A0 rfl ⟨_,_,_,false,rfl,rfl,false,rfl,(λh=>by cases h),λ_=>AI (A6 ?_)⟩))));exact AH (AV (A1 (A9 (A1 (Qw (A0 rfl ⟨_,_,_,_,rfl,by simp,rfl,rfl,A1 (Qw (A0 rfl ⟨_,_,_,_,rfl,by simp,rfl,rfl,A4 ⟨Cp,rfl,rfl⟩⟩))⟩))))))
def ZH{k:Int}(hx:WF Cu [.im (AR ws),d] hd λe x=>e=.im (.int k)/\x=hd):WF GA [.im (AR ws),d] hd λe x=>e=.im (.tup [.str "told",.int k])/\x=hd:=by
 unfold GA;refine Ak rfl ?_;refine A8 (AK (A9 (A6 ?_)));refine A8 (TN (AH (AV (A1 (A9 (A1 (Ac (A1 (A0 rfl (A1 (A0 rfl (A4 (hx.mono ?_)))))))))))));rintro e x ⟨rfl,hx⟩;subst x;exact A4 ⟨DD,Bi ⟨rfl,rfl⟩⟩
open PySem L2 Bd An
def Uw(hx:WF Dz [.im (AR ws),d,.im (.tup [])] hd λe x=>x=hd/\e=.im (.tup p)):WF D9 [.im (AR ws),d] hd λe x=>e=.im (.tup [.str "no",.tup p,.str "shape"])/\x=hd:=by
 unfold D9;refine Ak rfl ?_;refine A8 (AK (Ac (A1 (A0 rfl (A1 (A0 rfl (A1 (AV (A4 ⟨Bs,A4 (hx.mono ?_)⟩)))))))));rintro e x ⟨hx,rfl⟩;subst x;refine A6 (A8 (AM (AG ⟨.im (.bl true),_,rfl,_,rfl,(λ_=>?_),(λh=>by cases h)⟩)));exact AH (AV (A1 (A9 (A1 (A0 rfl (A1 (A9 (A4 ⟨Cp,rfl,rfl⟩))))))))
def Ux{B c:Int}(ok:BW B c ws)(hB:B<=2000){N:Nat}(hN:N<=100)(h0:0<N){g:Nat->Nat->Option Int}(hx:WF Dz [.im (AR ws),.im (Ay ws.length N g),.im (.tup [])] hd λe x=>x=hd/\e=.im .non)(hg:¬ C6 c ws N g ws.length):WF D9 [.im (AR ws),.im (Ay ws.length N g)] hd λe x=>(∃p word,GF c ws N g p word/\e=.im (.tup [.str "no",.tup p,.str word]))/\x=hd:=by
 unfold D9;refine Ak rfl ?_;refine A8 (AK (Ac (A1 (A0 rfl (A1 (A0 rfl (A1 (AV (A4 ⟨Bs,A4 (hx.mono ?_)⟩)))))))));rintro e x ⟨hx,rfl⟩;subst x;refine A6 (A8 (AM (AG ⟨.im (.bl false),_,rfl,_,rfl,(λh=>by cases h),(λ_=>AI (A6 ?_))⟩)));refine A8 (AK (Ad (A1 (A0 rfl (A1 (A0 rfl (A1 (AV (A4 ⟨Bs,A4 ⟨by simp,(LF ok hB hN h0 g).mono ?_⟩⟩)))))))));rintro e x (⟨z,_⟩|⟨p,word,hp,rfl⟩)
 .exact absurd z hg
 refine⟨_,rfl,A6 (A8 (AM (AG ⟨.im (.bl true),_,rfl,_,rfl,(λ_=>?_),(λh=>by cases h)⟩)))⟩;exact AH (AV (A1 (A9 (A1 (A5 (A0 rfl (A9 (AE (ds:=[.im (.tup p),.im (.str word)]) rfl rfl (A1 (A5 (A0 rfl (A9 (AE (ds:=[.im (.tup p),.im (.str word)]) rfl rfl (A4 ⟨Cp,⟨p,word,hp,rfl⟩,rfl⟩))))))))))))))
def Uy{B c:Int}(ok:BW B c ws)(hB:B<=2000){N:Nat}(hN:N<=100)(h0:0<N){g:Nat->Nat->Option Int}(hx:WF Dz [.im (AR ws),.im (Ay ws.length N g),.im (.tup [])] hd λe x=>x=hd/\e=.im .non)(hg:C6 c ws N g ws.length){m:Nat}(hm:m<N)(h1:(g ws.length m).isSome=true)(h2:∀w,(g ws.length w).isSome=true->w<=m):WF D9 [.im (AR ws),.im (Ay ws.length N g)] hd λe x=>e=.im (.tup [.str "told",.int (Ag ws-m)])/\x=hd:=by
 have hl8:=ok.2.1;unfold D9;refine Ak rfl ?_;refine A8 (AK (Ac (A1 (A0 rfl (A1 (A0 rfl (A1 (AV (A4 ⟨Bs,A4 (hx.mono ?_)⟩)))))))));rintro e x ⟨hx,rfl⟩;subst x;refine A6 (A8 (AM (AG ⟨.im (.bl false),_,rfl,_,rfl,(λh=>by cases h),(λ_=>AI (A6 ?_))⟩)));refine A8 (AK (Ad (A1 (A0 rfl (A1 (A0 rfl (A1 (AV (A4 ⟨Bs,A4 ⟨by simp,(LF ok hB hN h0 g).mono ?_⟩⟩)))))))));rintro e x (⟨_,rfl⟩|⟨p,word,hp,rfl⟩)
 rotate_left
 .exact absurd hg (dv hp)
 refine⟨_,rfl,A6 (A8 (AM (AG ⟨.im (.bl false),_,rfl,_,rfl,(λh=>by cases h),(λ_=>AI (A6 ?_))⟩)))⟩;refine AH (AV (A1 (A9 (A1 (A5 (DL (BO (Cy (A0 rfl ⟨_,rfl,?_⟩)))))))));rw[BF];refine⟨Ai (by simp;omega),?_⟩;refine DB wmD (λw=>some (.im (.int w.wt))) (λ_ ls=>∃x,ls=[some x]) _ (Ah _) ?_ ?_
 .rintro p hp ls hls;refine⟨[some (wmD p)],by rcases hls with rfl|⟨_,x,rfl⟩<;>rfl,⟨_,rfl⟩,CS ⟨rfl,?_⟩⟩;rw[j6 rfl];exact⟨_,rfl,A5 (A5 (A0 rfl (A9 (AE (ds:=[.im (.int p.len),.im (.int p.com),csD p]) rfl (EE _ _ _ _) (A9 (AE (ds:=[.im (.str "miss"),.im (.int p.due),.im (.int p.wt)]) rfl (EE _ _ _ _) ⟨rfl,rfl⟩))))))⟩
 have e:(ws.filterMap λw=>some (D.im (.int w.wt)))=Ao (ws.map Wm.wt):=by simp[Ao]
 rw[e];refine⟨_,by unfold Fy;rw[F1];rfl,?_⟩;refine Ad (A1 (A0 rfl (A4 ⟨by simp,(cB hN hm h1 h2).mono ?_⟩)));rintro e x rfl;exact⟨_,rfl,BI (A4 ⟨DD,rfl,rfl⟩)⟩
open PySem L2 Bd An
def O0(n:Nat)(x:Str):AL (n+1) (.str x):=by
 unfold AL;show WF (mkF 2 _ (IZ (Ee n))) _ _ _;refine Ak rfl ?_;refine A8 (AM (AG (WP.eq (z:=.im (.bl false)) (h:=[]) (by simp[Aw]) ⟨_,rfl,(λh=>by cases h),λ_=>AI (A6 ?_)⟩)));refine A8 (AM (BB (CT (A0 rfl ⟨false,rfl,_,rfl,(λh=>by cases h),λ_=>AI (A6 ?_)⟩))));refine A8 (AM (BB (CT (A0 rfl ⟨true,rfl,_,rfl,(λ_=>?_),(λh=>by cases h)⟩))));refine AH (FV (AG (CT (A0 rfl ⟨true,rfl,_,rfl,?_⟩))));rw[j6 rfl];exact A5 (A0 rfl (A0 rfl (Qt (Bi (by simp)))))
def T8(n:Nat)(i:Int):AL (n+1) (.int i):=cx n (some i)
abbrev O5(p:List I):Prop:=p.length<=3/\∀i∈p,∃k,i=.int k
def Z1(h:O5 p):AL 3 (.tup p):=Nz (by have:=h.1;omega) λi hi=>by obtain⟨k,rfl⟩:=h.2 i hi;exact T8 _ k
def W7(h:O5 p)(word:Str):AL 4 (.tup [.str "no",.tup p,.str word]):=Nz (by simp) λi hi=>by
 simp only[ja,ji,jk]at hi;rcases hi with rfl|rfl|rfl
 .exact O0 _ _
 .exact Z1 h
 .exact O0 _ _
def Z0(k:Int):AL 4 (.tup [.str "told",.int k]):=Nz (by simp) λi hi=>by
 simp only[ja,ji,jk]at hi;rcases hi with rfl|rfl
 .exact O0 _ _
 .exact T8 _ k
def Uf{N:Nat}(h:RowOff N t p):p.length<=1/\∀i∈p,∃k,i=.int k:=by
 cases h with
 |whole=>simp
 |place=>simp
def Wa{n N:Nat}(h:ShOff n N t p):O5 p:=by
 cases h with
 |whole=>simp[O5]
 |row rs k r p h2 h3 h4 h5=>
  obtain⟨a,b⟩:=Uf h4;refine⟨by simp;omega,λi hi=>?_⟩;rcases mem_cons.mp hi with rfl|hi
  .exact⟨_,rfl⟩
  .exact b i hi
def Xz{c:Int}{N:Nat}{g:Nat->Nat->Option Int}(h:GF c ws N g p word):O5 p:=by
 rcases h with⟨_,rfl,_⟩|⟨k,x,w,_,_,_,_,rfl⟩
 .exact⟨by simp,λi hi=>by simp at hi;exact⟨0,hi⟩⟩
 .refine⟨by simp,λi hi=>?_⟩;simp only[ja,ji,jk]at hi;rcases hi with rfl|rfl<;>exact⟨_,rfl⟩
def VO{B c:Int}(ok:BW B c ws)(hB:B<=2000){n:Nat}(h:Is n hd t d):∃i,(WF GA [.im (AR ws),d] hd λe x=>e=.im i/\x=hd)/\(WF D9 [.im (AR ws),d] hd λe x=>e=.im i/\x=hd)/\AL 4 i:=by
 have hf:=EY ok;obtain⟨N,eN⟩:∃N,N=(Ag ws).toNat+1:=⟨_,rfl⟩
 have h0:0<N:=by omega
 have hN:(N:Int)=Ag ws+1:=by omega
 have ls:=Up ok hN h;by_cases hs:EF ws.length N t
 .have ls1:WF Dz [.im (AR ws),d,.im (.tup [])] hd λe x=>x=hd/\e=.im .non:=ls.mono λe x ⟨hx,q⟩=>⟨hx,by
   rcases q with⟨_,q⟩|⟨p,hp,_⟩
   .exact q
   .exact absurd hs (dI hp)⟩
  obtain⟨g0,rfl⟩:=V5 h hs;rw[<- Yu]at h ls1 ⊢;by_cases hg:C6 c ws N (FF N g0) ws.length
  .obtain⟨m,hm,h1,h2⟩:=cL (n:=ws.length) h0 (fZ h0 ((ck h0).mp hg));exact⟨_,ZH (c8 ok hB eN h hs hg hm h1 h2),Uy ok hB (by omega) h0 ls1 hg hm h1 h2,Z0 _⟩
  .obtain⟨e,x,q,hx,p,word,hp,rfl⟩:=cA ok hB eN h hs hg;refine⟨_,RJ (p:=p) (word:=word) ⟨_,x,q,hx,rfl⟩,(Ux ok hB (by omega) h0 ls1 hg).mono ?_,W7 (Xz hp) word⟩;rintro e2 x2 ⟨⟨p2,w2,hp2,rfl⟩,hx2⟩;obtain⟨rfl,rfl⟩:=b9 hp hp2;exact⟨rfl,hx2⟩
 .obtain⟨e,x,q,hx,p,hp,rfl⟩:=c9 ok eN h hs;refine⟨_,RJ (p:=p) (word:="shape") ⟨_,x,q,hx,rfl⟩,Uw (ls.mono λe2 x2 ⟨hx2,q2⟩=>⟨hx2,?_⟩),W7 (Wa hp) "shape"⟩;rcases q2 with⟨z,_⟩|⟨p2,hp2,rfl⟩
  .exact absurd z hs
  .rw[ZN hp hp2]
open PySem L2 Bd An
def Vp{m:Nat}{k w:Nat}(h:Is m hd (.tup rs) d)(he:Is m hd te e)(hk:rs[k]?=some (.tup es))(hw:w<es.length)(l1:rs.length<=1000)(l2:es.length<=1000):WF KB [d,.im (.int (k:Int)),.im (.int (w:Int)),e] hd λd' x=>x=hd/\Is m hd (.tup (rs.take k++[.tup (es.take w++[te]++es.drop (w+1))]++rs.drop (k+1))) d':=by
 obtain⟨ds,tv,ir⟩:=h.view;obtain⟨dr,er,hr⟩:=ir.get hk;obtain⟨ds',tv',ie⟩:=hr.view;have lr:=ir.len;have le:=ie.len;unfold KB;refine Ak rfl ?_;refine A8 (AK (A5 (A0 rfl (A0 rfl (AE (by unfold Ax;rw[tv]) (Cs rfl er) (A6 ?_))))));refine AH (A5 (A5 (Ly (i:=0) (j:=1) (k:=k) rfl tv rfl (AV (A1 (A5 (A5 (Ly (i:=4) (j:=2) (k:=w) rfl tv' rfl (AV (A1 (A0 rfl (A4 ⟨BU,?_⟩))))))))))));refine An.wp_catN (AY _) (AY _) (by simp;omega) ?_;refine Jk (i:=4) (j:=2) (k:=w) (c:=1) rfl tv' rfl (FU (AY _) (AY _) (by simp) (by simp;omega) ?_);refine A4 ⟨BU,An.wp_catN (AY _) (AY _) (by simp;omega) ?_⟩;refine Jk (i:=0) (j:=1) (k:=k) (c:=1) rfl tv rfl (FU (AY _) (AY _) (by simp) (by simp;omega) ?_);refine⟨rfl,(((ir.take k).app (.one ?_)).app (ir.drop (k+1))).tup⟩;exact(((ie.take w).app (.one he)).app (ie.drop (w+1))).tup
open PySem L2 Bd An
def is0{n:Nat}(h:Is 0 hd t d):Is n hd' t d:=h.mono (jA n) λk _ q=>absurd q (kg k)
def svt(h:AS d=some ds)(hd:Hd):Ax hd d=some ds:=by unfold Ax;rw[h]
def en(m:Int)(t:Tv):Prop:=t=.non∨∃i,t=.int i/\-m<=i/\i<=m
def toT:Option Int->Tv
 |none=>.non
 |some x=>.int x
def fh{n:Nat}(o:Option Int):Is n hd (toT o) (Am o):=by cases o<;>simp only[toT,Is]<;>rfl
def gA{m:Int}(h:bd (-m) m o):en m (toT o):=by
 cases o with
 |none=>exact .inl rfl
 |some x=>exact .inr ⟨x,rfl,h x rfl⟩
def fc{n:Nat}{m:Int}(h:Is n hd t d)(e:en m t):∃o,d=Am o/\bd (-m) m o:=by
 rcases e with rfl|⟨i,rfl,q⟩
 .simp only[Is]at h;exact⟨none,h,λy e=>by cases e⟩
 .simp only[Is]at h;exact⟨some i,h,λy e=>by cases e;exact q⟩
def Tb(R:List Tv->Prop)(L N:Nat)(t:Tv):Prop:=∃rs,t=.tup rs/\rs.length=L/\∀r∈rs,∃es,r=.tup es/\es.length=N/\R es
def RK{R R':List Tv->Prop}{L N:Nat}{rs:List Tv}{k w:Nat}(lr:rs.length=L)(hr:∀r∈rs,∃es,r=.tup es/\es.length=N/\R es)(hk:rs[k]?=some (.tup es))(le:es.length=N)(hw:w<N)(up:∀es,es.length=N->R es->R' es)(nw:R' (es.take w++[te]++es.drop (w+1))):Tb R' L N (.tup (rs.take k++[.tup (es.take w++[te]++es.drop (w+1))]++rs.drop (k+1))):=by
 have kl:k<rs.length:=(List.getElem?_eq_some_iff.mp hk).1;refine⟨_,rfl,by simp;omega,λr h=>?_⟩;have old:r∈rs->∃es,r=.tup es/\es.length=N/\R' es:=λh=>by
  obtain⟨es,e1,e2,e3⟩:=hr r h;exact⟨es,e1,e2,up _ e2 e3⟩
 rcases mem_append.mp h with h|h
 .rcases mem_append.mp h with h|h
  .exact old (jQ h)
  .rw[ju]at h;subst h;exact⟨_,rfl,by simp;omega,nw⟩
 .exact old (k8 h)
def look{n:Nat}{R:List Tv->Prop}{N:Nat}(ir:Iss n hd rs ds)(hr:∀r∈rs,∃es,r=.tup es/\es.length=N/\R es){k:Nat}(hk:k<rs.length):∃dr dse es,ds[k]?=some dr/\rs[k]?=some (.tup es)/\es.length=N/\R es/\AS dr=some dse/\dse.length=N/\Iss n hd es dse:=by
 obtain⟨es,e1,e2,e3⟩:=hr _ (List.getElem_mem hk);have e4:rs[k]?=some (.tup es):=by rw[List.getElem?_eq_getElem hk,e1]
 obtain⟨dr,q1,q2⟩:=ir.get e4;obtain⟨dse,q3,q4⟩:=q2.view;exact⟨dr,dse,es,q1,e4,e2,e3,q3,by rw[q4.len,e2],q4⟩
def fY{ds:List D}{k:Nat}(hk:k<ds.length):∃k',k'<ds.length/\∀d,ds[k']?=some d->atI ds ((k:Int)-1)=some d:=by
 cases k with
 |zero=>
  refine⟨ds.length-1,by omega,λd h=>?_⟩;obtain⟨l,e⟩:∃l,ds=l++[d]:=by
   have hne:ds≠[]:=by intro z;subst z;cases hk
   refine⟨ds.dropLast,?_⟩;rw[<- List.getLast?_eq_getElem?,List.getLast?_eq_some_getLast hne]at h;cases h;exact(List.dropLast_concat_getLast hne).symm
  rw[e];exact JZ _ _
 |succ k=>exact⟨k,by omega,λd h=>by rw[show((k+1:Nat):Int)-1=(k:Int) by omega];exact Cs rfl h⟩
abbrev Es(m:Int)(es:List Tv):Prop:=∀e∈es,en m e
def entry{m:Int}{n:Nat}(h:Iss n hd es dse)(r:Es m es){w:Nat}(hw:w<es.length):∃o,atI dse (w:Int)=some (Am o)/\bd (-m) m o:=by
 obtain⟨d,q1,q2⟩:=h.get (List.getElem?_eq_getElem hw);obtain⟨o,rfl,hb⟩:=fc q2 (r _ (List.getElem_mem hw));exact⟨o,Cs rfl q1,hb⟩
def cf{m:Int}(w:Nat)(h:Es m es)(ho:bd (-m) m o):Es m (es.take w++[toT o]++es.drop (w+1)):=by
 intro e he;rcases mem_append.mp he with he|he
 .rcases mem_append.mp he with he|he
  .exact h e (jQ he)
  .rw[ju]at he;subst he;exact gA ho
 .exact h e (k8 he)
def Oz{m m':Int}(h:m<=m')(e:en m t):en m' t:=by
 rcases e with rfl|⟨i,rfl,q⟩
 .exact .inl rfl
 .exact .inr ⟨i,rfl,by omega,by omega⟩
def P8{m m':Int}(h:m<=m')(e:bd (-m) m o):bd (-m') m' o:=λy q=>by have:=e y q;omega
def gE{P:Option Int->Prop}{r:Int}(h0:0<=r)(h1:r<5)(a:P x)(b:P y)(c:P z)(d:P w)(e:P v):∃o,P o/\atI [Am x,Am y,Am z,Am w,Am v] r=some (Am o):=by
 obtain⟨k,rfl⟩:∃k:Nat,r=(k:Int):=⟨r.toNat,by omega⟩
 have:k<5:=by omega
 match k,this with
 |0,_=>exact⟨x,a,rfl⟩
 |1,_=>exact⟨y,b,rfl⟩
 |2,_=>exact⟨z,c,rfl⟩
 |3,_=>exact⟨w,d,rfl⟩
 |4,_=>exact⟨v,e,rfl⟩
def RQ(n:Nat){L N:Nat}{m:Int}(hL:1<=L/\L<=20)(hN:1<=N/\N<=100)(hm:31<=m)(h:Is 0 [] t d)(ht:Tb (Es m) L N t){rest:Hd}(hT:T (n+3) a b):WF Cw [.mu 1,d] (a::b::rest) λd' x=>∃a' b' y t',x=a'::b'::(rest++y)/\T n a' b'/\Is 0 [] t' d'/\Tb (Es (m+1)) L N t':=by
 obtain⟨rs,rfl,lr,hr⟩:=ht;obtain⟨ds,tv,ir⟩:=h.view;have lr':=ir.len;unfold Cw;refine Ak rfl ?_;refine A8 (AK (C1 (n:=n+2) (A1 (A0 rfl (A1 (B5 (A1 (A0 rfl (A4 (Bf (ds:=ds) (svt tv _) rfl (A4 ⟨a,b,rest,(ds.length:Int),rfl,rfl,hT,by omega,by omega,λr a b hT p q=>A6 ?_⟩)))))))))));obtain⟨k,rfl⟩:∃k:Nat,r=(k:Int):=⟨r.toNat,by omega⟩
 have hk:k<rs.length:=by omega
 obtain⟨dr,dse,es,e1,e2,e3,e4,e5,e6,e7⟩:=look ir hr hk;obtain⟨k',hk',ek'⟩:=fY (ds:=ds) (k:=k) (by omega);obtain⟨dr',dse',es',e1',e2',e3',e4',e5',e6',e7'⟩:=look ir hr (k:=k') (by omega);have atk:=Cs (i:=(k:Int)) rfl e1;have atk':=ek' _ e1';refine A8 (AK (C1 (n:=n+1) (A1 (A0 rfl (A1 (B5 (A1 (A5 (A0 rfl (A0 rfl (AE (svt tv _) atk (A4 (Bf (ds:=dse) (svt e5 _) rfl (A4 ⟨a,b,rest,(dse.length:Int),rfl,rfl,hT,by omega,by omega,λr a b hT p1 q1=>A6 ?_⟩))))))))))))));obtain⟨w,rfl⟩:∃w:Nat,r=(w:Int):=⟨r.toNat,by omega⟩
 have hw:w<N:=by omega
 refine A8 (AK (C1 (n:=n) (A1 (A0 rfl (A1 (A9 (A4 ⟨a,b,rest,5,rfl,rfl,hT,by decide,by decide,λst a b hT p2 q2=>A6 ?_⟩)))))));obtain⟨w2,hw2,ew2⟩:∃w2:Nat,w2<N/\((w:Int)+1)%(dse.length:Int)=(w2:Int):=by
  rw[e6];have a1:=Int.emod_nonneg ((w:Int)+1) (b:=(N:Int)) (by omega);have a2:=Int.emod_lt_of_pos ((w:Int)+1) (b:=(N:Int)) (by omega);exact⟨(((w:Int)+1)%(N:Int)).toNat,by omega,by omega⟩
 obtain⟨o,eo,bo⟩:=entry e7 e4 (w:=w) (by omega);obtain⟨o2,eo2,bo2⟩:=entry e7 e4 (w:=w2) (by omega);obtain⟨o3,eo3,bo3⟩:=entry e7' e4' (w:=w) (by omega);refine A8 (AK (WP.mono (Q:=λd x=>∃e:Int,d=.im (.int e)/\(-m<=e/\e<=m)/\x=a::b::rest) ?_ ?_))
 .refine Ho (AG (Cm (A5 (A5 (A0 rfl (A0 rfl (AE (svt tv _) atk (A0 rfl (AE (svt e5 _) eo ⟨o,rfl,_,rfl,λh=>?_,λh=>?_⟩)))))))))
  .cases o with
   |none=>simp at h
   |some x=>exact A5 (A5 (A0 rfl (A0 rfl (AE (svt tv _) atk (A0 rfl (AE (svt e5 _) eo ⟨x,rfl,bo x rfl,rfl⟩))))))
  .exact A9 ⟨30,rfl,by omega,rfl⟩
 rintro _ _ ⟨e,rfl,he,rfl⟩;refine A6 (A8 (AK (Bp (Bq (A1 (A9 (A1 (A5 (A0 rfl (A9 (Az (A1 (A5 (A0 rfl (A9 (BI ?_))))))))))))))));refine A1 (A5 (A5 (A0 rfl (A0 rfl (AE (svt tv _) atk (A5 (A5 (A0 rfl (A9 (Az (B5 (A1 (A5 (A0 rfl (A0 rfl (AE (svt tv _) atk (A4 (Bf (ds:=dse) (svt e5 _) rfl (Z9 (by unfold DJ;omega) ?_)))))))))))))))))));rw[ew2];refine AE (svt e5 _) eo2 (A1 (A5 (A5 (A0 rfl (A5 (A0 rfl (A9 (BI (AE (svt tv _) atk' (A0 rfl (AE (svt e5' _) eo3 (A4 ⟨Ai (by simp),A6 ?_⟩))))))))))));generalize hE:[D.im I.non,_,_,_,_]=E5;obtain⟨u,hu,au⟩:∃u,bd (-(m+1)) (m+1) u/\atI E5 st=some (Am u):=by
  subst hE;exact gE (x:=none) (y:=some _) (z:=some _) p2 q2 (λy e=>by cases e) (λy e=>by cases e;omega) (λy e=>by cases e;omega) (P8 (by omega) bo2) (P8 (by omega) bo3)
 refine AH (Ac (A1 (A0 rfl (A1 (A0 rfl (A1 (A0 rfl (A1 (A5 (A0 rfl (A0 rfl (AE (ds:=E5) (svl (by simp)) au (A4 ?_)))))))))))));refine(Vp (m:=0) (te:=toT u) (is0 h) (fh u) e2 (by omega) (by omega) (by omega)).mono ?_;rintro d' x ⟨rfl,q⟩;exact⟨a,b,[.lst E5],_,rfl,hT,is0 q,RK lr hr e2 e3 hw (λes _ he e h=>Oz (by omega) (he e h)) (cf w (λe h=>Oz (by omega) (e4 e h)) hu)⟩
open PySem L2 Bd An
abbrev Gr:Nat:=10^200
theorem Hm{c:Nat}:∀{ts:List Tv},(∀t∈ts,wt t<=c)->wts ts<=c*ts.length
 |[],_=>by simp[wts]
 |t::ts,h=>by
  have h1:=h t (by simp);have h2:=Hm (ts:=ts) λu hu=>h u (by simp[hu]);simp only[wts,jK,Nat.mul_succ];omega
def c7{i:Nat}(h:i<4096):i.log2<=12:=by
 by_cases z:i=0
 .rw[z];decide
 .exact Nat.le_of_lt_succ ((Nat.log2_lt z).mpr (by omega))
def W4{m:Int}(hm:m<=4000)(h:en m t):Bo Gr 14 0 0 t:=by
 rcases h with rfl|⟨i,rfl,q⟩
 .exact Nw (by decide)
 .exact IP (jf (show i.natAbs<=4000 by omega) (by decide)) (by have:=c7 (i:=i.natAbs) (by omega);omega)
abbrev Rb(es:List Tv):Prop:=Bo Gr 2000 3 100 (.tup es)
def Zx{m:Int}(hm:m<=4000)(w:Nat)(h:Es m es)(l:es.length<=80)(ht:Bo Gr 700 2 100 te):Rb (es.take w++[te]++es.drop (w+1)):=by
 have b:∀t∈es,Bo Gr 14 0 0 t:=λt q=>W4 hm (h t q);have w1:=Hm (c:=14) λt (q:t∈es.take w)=>(b t (jQ q)).wt;have w2:=Hm (c:=14) λt (q:t∈es.drop (w+1))=>(b t (k8 q)).wt;have w3:=ht.wt;have w4:=ht.dp;rw[jE]at w1;rw[ku]at w2;have al:∀t∈es.take w++[te]++es.drop (w+1),Gq Gr t/\dep t<=2:=λt q=>by
  rcases mem_append.mp q with q|q
  .rcases mem_append.mp q with q|q
   .have:=b t (jQ q);exact⟨this.gd,by have:=this.dp;omega⟩
   .rw[ju]at q;subst q;exact⟨ht.gd,w4⟩
  .have:=b t (k8 q);exact⟨this.gd,by have:=this.dp;omega⟩
 refine ED (λt q=>(al t q).1) ?_ (Nat.succ_le_succ (Il λt q=>(al t q).2)) (by simp;omega);rw[GY,GY];simp only[wts];omega
def Ps{m:Int}(hm:m<=4000)(h:Es m es)(l:es.length<=80):Rb es:=by
 have b:∀t∈es,Bo Gr 14 0 0 t:=λt q=>W4 hm (h t q);have w1:=Hm (c:=14) λt (q:t∈es)=>(b t q).wt;exact ED (λt q=>(b t q).gd) (by omega) (Nat.succ_le_succ (Il λt q=>by have:=(b t q).dp;omega)) (by omega)
def two{rest:Hd}{k:Nat}(h:2<=k):(a'::b'::rest)[k]?=(a::b::rest)[k]? := by
 obtain⟨j,rfl⟩:∃j,k=j+2:=⟨k-2,by omega⟩
 rfl
def big:∃G:Int,G=(10:Int)^60*(10:Int)^60*(10:Int)^60*(10:Int)^19/\Bo Gr 700 2 100 (.int G)/\Bo Gr 700 2 100 (.int (0-G)):=⟨_,rfl,IP (by decide +kernel) (by decide +kernel),IP (by decide +kernel) (by decide +kernel)⟩
def at8{n:Nat}(P:Tv->Prop)(h:Iss n hd ts ds)(hp:∀t∈ts,P t){r:Int}(h0:0<=r)(h1:r<ts.length):∃d t,atI ds r=some d/\P t/\Is n hd t d:=by
 obtain⟨d,t,q1,q2,q3⟩:=fB h h0 h1;exact⟨d,t,q1,hp t q2,q3⟩
def NS{n:Nat}{k:Nat}(h2:2<=k)(hn:k<n)(e:hd[k]?=some (.lst ds))(h:Iss n hd ts ds):Is n hd (.lst ts) (.mu k):=by
 simp only[Is];exact⟨k,ds,rfl,h2,hn,e,h⟩
def Ig{n:Nat}:Is n hd (.tup []) (AT []):=Iss.nil.tup
def eI(n:Nat){L N:Nat}{m:Int}(hm:m<=4000)(hL:1<=L/\L<=20)(hN:1<=N/\N<=80)(h:Is 0 [] t d)(ht:Tb (Es m) L N t){rest:Hd}(hT:T (n+3) a b):WF Hb [.mu 1,d] (a::b::rest) λd' x=>∃a' b' y t',x=a'::b'::(rest++y)/\T n a' b'/\Is x.length x t' d'/\Tb Rb L N t':=by
 obtain⟨rs,rfl,lr,hr⟩:=ht;obtain⟨ds,tv,ir⟩:=h.view;have lr':=ir.len;obtain⟨G,eG,bG,bG'⟩:=big;unfold Hb;refine Ak rfl ?_;refine A8 (AK (C1 (n:=n+2) (A1 (A0 rfl (A1 (B5 (A1 (A0 rfl (A4 (Bf (ds:=ds) (svt tv _) rfl (A4 ⟨a,b,rest,(ds.length:Int),rfl,rfl,hT,by omega,by omega,λr a b hT p q=>A6 ?_⟩)))))))))));obtain⟨k,rfl⟩:∃k:Nat,r=(k:Int):=⟨r.toNat,by omega⟩
 have hk:k<rs.length:=by omega
 obtain⟨dr,dse,es,e1,e2,e3,e4,e5,e6,e7⟩:=look ir hr hk;have atk:=Cs (i:=(k:Int)) rfl e1;refine A8 (AK (C1 (n:=n+1) (A1 (A0 rfl (A1 (B5 (A1 (A5 (A0 rfl (A0 rfl (AE (svt tv _) atk (A4 (Bf (ds:=dse) (svt e5 _) rfl (A4 ⟨a,b,rest,(dse.length:Int),rfl,rfl,hT,by omega,by omega,λr a b hT p1 q1=>A6 ?_⟩))))))))))))));obtain⟨w,rfl⟩:∃w:Nat,r=(w:Int):=⟨r.toNat,by omega⟩
 have hw:w<N:=by omega
 refine A8 (AK (A5 (A5 (A5 (A5 (A9 (A9 (IR (k:=60) (by decide) (A5 (A9 (A9 (IR (k:=60) (by decide) (KF (by constructor<;>decide +kernel) (A5 (A9 (A9 (IR (k:=60) (by decide) (KF (by constructor<;>decide +kernel) (A5 (A9 (A9 (IR (k:=19) (by decide) (KF (by constructor<;>decide +kernel) (A6 ?_))))))))))))))))))))))));rw[<- eG];refine A8 (AK (Bp (Bq (A1 (A9 (A1 (A9 (A1 (A9 (A1 (AV (A4 ⟨Bs,A1 (Bp (Bq (A1 (A9 (A4 ⟨BU,A1 (AV (A1 (A9 (A4 ⟨BU,A1 (A0 rfl (A1 (A5 (A9 (A0 rfl (BI (A4 ⟨Ai (by simp),A6 ?_⟩)))))))⟩))))⟩)))))⟩))))))))))));generalize hE:[D.im (.bl true),_,_,_,_,_,_,_]=E;have ez:∃z,z=rest++[.lst [.im (.int 3)]]++[.lst E]:=⟨_,rfl⟩
 obtain⟨z,ez⟩:=ez;have iE:∀a b:MO,Iss (a::b::z).length (a::b::z) [.bl true,.bl false,.str "0",.tup [],.lst [.int 3],.tup [.int 1],.int G,.int (0-G)] E:=λa b=>by
  rw[<- hE];refine .cons (by simp only[Is]) (.cons (by simp only[Is]) (.cons (by simp only[Is]) (.cons Ig (.cons ?_ (.cons (Iss.tup (.cons (by simp only[Is]) .nil)) (.cons (by simp only[Is]) (.one (by simp only[Is]))))))));refine NS (ds:=[.im (.int 3)]) (by simp) (by rw[ez];simp) (by rw[ez];simp) (.one (by simp only[Is]))
 have bE:∀t∈[Tv.bl true,.bl false,.str "0",.tup [],.lst [.int 3],.tup [.int 1],.int G,.int (0-G)],Bo Gr 700 2 100 t:=λt ht=>by
  simp only[ja,ji,jk]at ht;rcases ht with rfl|rfl|rfl|rfl|rfl|rfl|rfl|rfl
  .exact M8 (by decide)
  .exact M8 (by decide)
  .exact Nv (by decide) (by decide)
  .exact ED (by simp) (by decide) (by decide) (by decide)
  .exact Nx (λt ht=>by rw[ju]at ht;subst ht;simp only[Gq];decide) (by decide) (by decide) (by decide)
  .exact ED (λt ht=>by rw[ju]at ht;subst ht;simp only[Gq];decide) (by decide) (by decide) (by decide)
  .exact bG
  .exact bG'
 refine AH (Ac (A1 (A0 rfl (A1 (A0 rfl (A1 (A0 rfl (A1 (A5 (A0 rfl (C1 (n:=n) (A1 (A0 rfl (A1 (A9 (A4 ⟨a,b,z,8,by rw[ez];rfl,rfl,hT,by decide,by decide,λr a b hT p2 q2=>?_⟩))))))))))))))));obtain⟨e,te,ate,bte,ise⟩:=at8 _ (iE a b) bE p2 (by simpa using q2);refine AE (ds:=E) (svl (by rw[ez];simp)) ate (A4 ?_);refine(Vp (m:=(a::b::z).length) (te:=te) (is0 h) ise e2 (by omega) (by omega) (by omega)).mono ?_;rintro d' x ⟨rfl,q⟩;exact⟨a,b,[.lst [.im (.int 3)],.lst E],_,by rw[ez];simp,hT,q,RK lr hr e2 e3 hw (λes l he=>Ps hm he (by omega)) (Zx hm w e4 (by omega) bte)⟩
open PySem L2 Bd An
def U4(n:Nat):Ar 0 n=(List.range n).map λi:Nat=>D.im (.int (i:Int)):=by
 have go:∀(n:Nat) (lo:Nat),Ar (lo:Int) n=(List.range' lo n).map λi:Nat=>D.im (.int (i:Int)):=by
  intro n
  induction n with
  |zero=>intro lo;rfl
  |succ n ih=>
   intro lo;rw[Ar,List.range'_succ,jc,<- ih (lo+1)];rfl
 rw[List.range_eq_range'];exact go n 0
def cm(xs:List D):∃j,CK xs none (some (-1))=xs.take j:=by
 unfold CK;rw[show HT.sIx xs.length 0 none=0 from rfl,List.drop_zero,sub_zero];exact⟨_,rfl⟩
abbrev HW(t:Tv):Prop:=Bo Gr 30000 10 100 t
abbrev It(t:Tv):Prop:=Bo Gr 2100 4 101 t
def Dt(h:∀u∈us,It u)(l:us.length<=12):HW (.tup us)/\HW (.lst us):=by
 have w:=Hm (c:=2100) λt (q:t∈us)=>(h t q).wt;have d:DR us<=4:=Il λt q=>(h t q).dp;exact⟨ED (λt q=>(h t q).gd) (by omega) (by omega) (by omega),Nx (λt q=>(h t q).gd) (by omega) (by omega) (by omega)⟩
def NQ(h:Rb es)(hs:∀u∈us,u∈es∨u=.non)(hw:wts us<=wts es+1)(hl:us.length<=es.length+1):It (.tup us)/\It (.lst us):=by
 obtain⟨h1,h2,h3,h4⟩:=h.tup;have g:∀t∈us,Gq Gr t:=λt ht=>by
  rcases hs t ht with q|rfl
  .exact h1 t q
  .trivial
 have p:DR us<=3:=Il λt ht=>by
  rcases hs t ht with q|rfl
  .have:=P0 q;omega
  .simp[dep]
 exact⟨ED g (by omega) (by omega) (by omega),Nx g (by omega) (by omega) (by omega)⟩
theorem NR{n:Nat}(h:Iss n hd rs ds)(f:Nat->Nat):∀(l:List Nat),(∀i∈l,f i<rs.length)->Iss n hd (l.map λi=>rs.getD (f i) .non) (l.map λi=>ds.getD (f i) (.im .non))
 |[],_=>.nil
 |i::l,hl=>by
  obtain⟨d,q1,q2⟩:=h.get (List.getElem?_eq_getElem (hl i (by simp)));rw[jc,jc];refine .cons ?_ (NR h f l λj hj=>hl j (by simp[hj]));rw[List.getD_eq_getElem?_getD,List.getD_eq_getElem?_getD,q1,List.getElem?_eq_getElem (hl i (by simp))];exact q2
def Out(n:Nat)(rest:Hd)(d:D)(x:Hd):Prop:=∃a' b' y t',x=a'::b'::(rest++y)/\T n a' b'/\Is x.length x t' d/\HW t'
def Jp(n:Nat){L N:Nat}(hL:1<=L/\L<=10)(hN:1<=N/\N<=80){rest:Hd}(h:Is (rest.length+2) (a::b::rest) t d)(ht:Tb Rb L N t)(hT:T (n+4) a b):WF EG [.mu 1,d] (a::b::rest) (Out n rest):=by
 obtain⟨rs,rfl,lr,hr⟩:=ht;obtain⟨ds,tv,ir0⟩:=h.view;have lr':=ir0.len;have ir:∀(a b:MO) (y:Hd),Iss (a::b::(rest++y)).length (a::b::(rest++y)) rs ds:=λa2 b2 y=>ir0.mono (by simp) λk k2 kn=>by
  rw[two k2 (a:=a) (b:=b),<- jP,<- jP,List.getElem?_append_left (by simpa using kn)]
 have itr:∀r∈rs,It r:=λr q=>by
  obtain⟨es,rfl,_,q⟩:=hr r q;exact q.mono (j9 _) (by decide) (by decide) (by decide)
 have ith:∀(ts:List Tv),(∀u∈ts,u∈rs)->∀u∈ts,It u:=λts q u hu=>itr u (q u hu);unfold EG;refine Ak rfl ?_;refine A8 (AK (C1 (n:=n+3) (A1 (A0 rfl (A1 (A9 (A4 ⟨a,b,rest,9,rfl,rfl,hT,by decide,by decide,λway a b hT p0 q0=>A6 ?_⟩)))))));refine A8 (AK (C1 (n:=n+2) (A1 (A0 rfl (A1 (B5 (A1 (A0 rfl (A4 (Bf (ds:=ds) (svt tv _) rfl (A4 ⟨a,b,rest,(ds.length:Int),rfl,rfl,hT,by omega,by omega,λr a b hT p q=>A6 ?_⟩)))))))))));obtain⟨k,rfl⟩:∃k:Nat,r=(k:Int):=⟨r.toNat,by omega⟩
 refine A8 (AK (C1 (n:=n+1) (A1 (A0 rfl (A1 (B5 (A1 (A0 rfl (A4 (Bf (ds:=ds) (svt tv _) rfl (A4 ⟨a,b,rest,(ds.length:Int),rfl,rfl,hT,by omega,by omega,λr a b hT p1 q1=>A6 ?_⟩)))))))))));obtain⟨j,rfl⟩:∃k:Nat,r=(k:Int):=⟨r.toNat,by omega⟩
 refine A8 (AK (C1 (n:=n) (A1 (A0 rfl (A1 (A9 (A4 ⟨a,b,rest,6,rfl,rfl,hT,by decide,by decide,λwh a b hT p2 q2=>A6 ?_⟩)))))));have hk:k<rs.length:=by omega
 have hj:j<rs.length:=by omega
 have ir1:=ir a b [];rw[jI]at ir1;obtain⟨dr,dse,es,e1,e2,e3,e4,e5,e6,e7⟩:=look ir1 hr hk;have atk:=Cs (i:=(k:Int)) rfl e1;refine A8 (AK (A5 (A0 rfl (A0 rfl (AE (svt tv _) atk (A6 ?_))))));change WS _ [some (.mu 1),some d,some (.im (.int way)),some (.im (.int (k:Int))),some (.im (.int (j:Int))),some (.im (.int wh)),some dr,none] (a::b::rest) _
 -- the same heap
 have same:∀{d:D} {t:Tv},Is (a::b::rest).length (a::b::rest) t d->HW t->Out n rest d (a::b::rest):=λ{d t} h q=>⟨a,b,[],t,by simp,hT,h,q⟩
 have l1:(rs.take k).length=k:=by rw[jE];omega
 have sub1:∀u∈rs.take k++rs.drop (k+1),u∈rs:=λu hu=>by
  rcases mem_append.mp hu with q|q
  .exact jQ q
  .exact k8 q
 refine A8 (AM (AG (A5 (A0 rfl (A9 (IS ⟨_,rfl,λc=>?_,λc=>AI (A6 ?_)⟩))))))
 .refine AH (Ho (AG (A5 (A0 rfl (A9 (BJ ⟨_,rfl,λc=>?_,λc=>?_⟩))))))
  .refine A5 (Ly (i:=1) (j:=3) (k:=k) rfl tv rfl (Jk (i:=1) (j:=3) (k:=k) (c:=1) rfl tv rfl (An.wp_catN (AY _) (AY _) (by simp;omega) (Bi ?_))));exact same ((ir1.take k).app (ir1.drop (k+1))).tup (Dt (ith _ sub1) (by simp;omega)).1
  .refine A5 (ZM (i:=1) (j:=3) (k:=k) rfl tv rfl (dH (i:=1) (j:=3) (k:=k) rfl tv rfl (FU (AY _) (AY _) (by simp;intro z;subst z;simp at lr';omega) (by simp;omega) (Bi ?_))));refine same ((ir1.take (k+1)).app (ir1.drop k)).tup (Dt (ith _ λu hu=>?_) (by simp;omega)).1;rcases mem_append.mp hu with q|q
   .exact jQ q
   .exact k8 q
 have w2:¬ way<2:=by simpa using c
 refine A8 (AM (AG (A5 (A0 rfl (A9 (IS ⟨_,rfl,λc=>?_,λc=>AI (A6 ?_)⟩))))))
 .have w5:way<5:=by simpa using c
  obtain⟨jj,ejj⟩:=cm dse;refine A8 (AK (Bp (Bq (A1 (Fi (A0 rfl (Gw (EL (GZ (A9 ⟨_,rfl,_,rfl,dse,e5,?_⟩))))))))));rw[show(-(1:Int))=-1 from rfl,ejj];refine A1 (A5 (A0 rfl (AV (A1 (A9 (A4 ⟨BU,FU e5 (AY _) (by intro z;rw[z]at e6;simp at e6;omega) (by simp;omega) ?_⟩))))));refine A1 (E3 (Bq (A1 (Bp (ON (A0 rfl ⟨dse,svt e5 _,A1 (A9 (A1 (A9 (A1 (A9 (A1 (A9 (A1 (AV (A4 ⟨Bs,A4 ⟨Ai (by simp),?_⟩⟩))))))))))⟩))))));generalize hE:[D.mu _,_,_,_,_,_]=E;have e7':∀y,Iss (a::b::(rest++y)).length (a::b::(rest++y)) es dse:=λy=>e7.mono (by simp) λk k2 kn=>by
   rw[<- jP,<- jP,List.getElem?_append_left (by simpa using kn)]
  have iE:∀y,Iss (a::b::(rest++([.lst dse]++y))).length (a::b::(rest++([.lst dse]++y))) [.lst es,.non,.str "",.int 0,.bl true,.tup []] E:=λy=>by
   rw[<- hE];refine .cons ?_ (.cons (by simp only[Is]) (.cons (by simp only[Is]) (.cons (by simp only[Is]) (.cons (by simp only[Is]) (.one Ig)))));exact NS (ds:=dse) (by simp) (by simp) (by simp) (e7' _)
  have bE:∀t∈[Tv.lst es,.non,.str "",.int 0,.bl true,.tup []],It t:=λt ht=>by
   simp only[ja,ji,jk]at ht;rcases ht with rfl|rfl|rfl|rfl|rfl|rfl
   .exact(NQ e4 (λu hu=>.inl hu) (by omega) (by omega)).2
   .exact Nw (by decide)
   .exact Nv (by decide) (by decide)
   .exact IP (by decide) (by decide)
   .exact M8 (by decide)
   .exact ED (by simp) (by decide) (by decide) (by decide)
  obtain⟨k6,hk6⟩:∃k6:Nat,wh=(k6:Int):=⟨wh.toNat,by omega⟩
  obtain⟨e,te,ate0,-⟩:=at8 It (iE []) bE p2 (by simpa using q2);refine A0 rfl ⟨_,e,rfl,ate0,A4 ⟨Cp,A6 ?_⟩⟩;generalize hF:[AT (dse.take jj),_,_]=F;have iF:∃te,It te/\∀y,Iss (a::b::(rest++([.lst dse]++y))).length (a::b::(rest++([.lst dse]++y))) [.tup (es.take jj),.tup (es++[.non]),te] F:=by
   obtain⟨t6,ht6⟩:∃t6,[Tv.lst es,.non,.str "",.int 0,.bl true,.tup []][k6]?=some t6:=⟨_,List.getElem?_eq_getElem (by simp;omega)⟩
   refine⟨t6,bE t6 (jq ht6),λy=>?_⟩;rw[<- hF];obtain⟨d6,q1,q2⟩:=(iE y).get ht6;have:d6=e:=by
    rw[hk6,Cs rfl q1]at ate0;cases ate0;rfl
   subst this;exact .cons ((e7' _).take jj).tup (.cons ((e7' _).app (.one (by simp only[Is]))).tup (.one q2))
  obtain⟨te,bte,iF⟩:=iF;have bF:∀t∈[Tv.tup (es.take jj),.tup (es++[.non]),te],It t:=λt ht=>by
   simp only[ja,ji,jk]at ht;rcases ht with rfl|rfl|rfl
   .exact(NQ e4 (λu hu=>.inl (jQ hu)) (by have:=Qs es jj;omega) (by simp;omega)).1
   .refine(NQ e4 (λu hu=>?_) (by rw[GY];simp only[wts,An.wt];omega) (by simp)).1;rcases mem_append.mp hu with q|q
    .exact .inl q
    .rw[ju]at q;exact .inr q
   .exact bte
  obtain⟨f,tf,atf,btf,isf⟩:=at8 It (iF [.lst F]) bF (r:=way-2) (by omega) (by simp;omega);refine AH (A5 (A5 (Ly (i:=1) (j:=3) (k:=k) rfl tv rfl (AV (A1 (A5 (A0 rfl (A5 (A0 rfl (A9 (BI (AE (ds:=F) (svl (by simp)) atf (A4 ⟨BU,An.wp_catN (AY _) (AY _) (by simp;omega) ?_⟩)))))))))))));refine Jk (i:=1) (j:=3) (k:=k) (c:=1) rfl tv rfl (FU (AY _) (AY _) (by simp) (by simp;omega) (Bi ?_));refine⟨a,b,[.lst dse]++[.lst F],_,by simp,hT,?_,(Dt (us:=rs.take k++[tf]++rs.drop (k+1)) (λu hu=>?_) (by simp;omega)).1⟩
  .have z:a::b::rest++[.lst dse]++[.lst F]=a::b::(rest++([.lst dse]++[.lst F])):=by simp
   rw[z];exact((((ir a b _).take k).app (.one isf)).app ((ir a b _).drop (k+1))).tup
  .rcases mem_append.mp hu with q|q
   .rcases mem_append.mp q with q|q
    .exact itr u (jQ q)
    .rw[ju]at q;subst q;exact btf
   .exact itr u (k8 q)
 refine A8 (AM (AG (A5 (A0 rfl (A9 (BJ ⟨_,rfl,λc=>?_,λc=>AI (A6 ?_)⟩))))))
 .exact AH (WN (A0 rfl (GZ (A9 ⟨_,rfl,rfl,ds,tv,Bi (same ir1.rev.tup (Dt (ith _ λu hu=>by simpa using hu) (by simp;omega)).1)⟩))))
 refine A8 (AM (AG (A5 (A0 rfl (A9 (BJ ⟨_,rfl,λc=>?_,λc=>AI (A6 ?_)⟩))))))
 .refine AH (Bp (ON (A0 rfl ⟨ds,svt tv _,Bi ⟨a,b,[.lst ds],.lst rs,by simp,hT,?_,(Dt itr (by omega)).2⟩⟩)));exact NS (ds:=ds) (by simp) (by simp) (by simp) (by simpa using ir a b [.lst ds])
 refine A8 (AM (AG (A5 (A0 rfl (A9 (BJ ⟨_,rfl,λc=>?_,λc=>AI (A6 ?_)⟩))))))
 .refine AH (E3 (Bq (A1 (A9 (A1 (AV (A4 ⟨Bs,A1 (A9 (A1 (A9 (A1 (A9 (A1 (AV (A1 (AV (A4 ⟨Bs,A4 ⟨BU,A4 ⟨Ai (by simp),?_⟩⟩⟩))))))))))⟩)))))));have iE:Iss (a::b::rest).length (a::b::rest) [.non,.tup [],.str "shape",.int 0,.bl true,.tup [.tup []]] [.im .non,AT [],.im (.str "shape"),.im (.int 0),.im (.bl true),AT [AT []]]:=.cons (by simp only[Is]) (.cons Ig (.cons (by simp only[Is]) (.cons (by simp only[Is]) (.cons (by simp only[Is]) (.one (Iss.tup (.one Ig)))))));have bE:∀t∈[Tv.non,.tup [],.str "shape",.int 0,.bl true,.tup [.tup []]],HW t:=λt ht=>by
   simp only[ja,ji,jk]at ht;rcases ht with rfl|rfl|rfl|rfl|rfl|rfl
   .exact Nw (by decide)
   .exact ED (by simp) (by decide) (by decide) (by decide)
   .exact Nv (by decide) (by decide)
   .exact IP (by decide) (by decide)
   .exact M8 (by decide)
   .exact ED (λt ht=>by rw[ju]at ht;subst ht;simp only[Gq,Gqs]) (by decide) (by decide) (by decide)
  obtain⟨e,te,ate,bte,ise⟩:=at8 HW iE bE p2 (by simpa using q2);exact A0 rfl ⟨_,e,rfl,ate,Bi (same ise bte)⟩
 let f:Nat->Nat:=λi=>if i=k then j else if i=j then k else i
 have fl:∀i,i<rs.length->f i<rs.length:=λi hi=>by
  show(if i=k then j else if i=j then k else i)<rs.length;by_cases q:i=k
  .rw[j6 q];omega
  .rw[j7 q];split<;>omega
 have dat:∀i,i<rs.length->atI ds (i:Int)=some (ds.getD i (.im .non)):=λi hi=>Cs rfl (by rw[List.getD_eq_getElem?_getD,List.getElem?_eq_getElem (by omega)];rfl);refine AH (DL (BO (J8 (A1 (B5 (A1 (A0 rfl (A4 (Bf (ds:=ds) (svt tv _) rfl (A4 ⟨(ds.length:Int),rfl,FX (by omega) (by omega),Ai (by dsimp only;rw[DT];omega),?_⟩))))))))));rw[kB,U4];refine DB (λi:Nat=>D.im (.int (i:Int))) (λi=>some (ds.getD (f i) (.im .non))) (λ_ ls=>∃x,ls=[some x,some (.im (.int (k:Int))),some d,some (.im (.int (j:Int)))]) _ (Ah _) ?_ ?_
 .rintro i hi ls hls;have hi:=mem_range.mp hi;refine⟨[some (.im (.int (i:Int))),some (.im (.int (k:Int))),some d,some (.im (.int (j:Int)))],by rcases hls with rfl|⟨_,x,rfl⟩<;>rfl,⟨_,rfl⟩,CS ⟨rfl,?_⟩⟩;rw[j6 rfl];refine⟨_,rfl,Ho (AG (A5 (A0 rfl (A0 rfl (BJ ⟨_,rfl,λc=>?_,λc=>?_⟩)))))⟩
  .have c:(i:Int)=k:=by simpa using c
   have:f i=j:=j6 (by omega);rw[this];exact A5 (A0 rfl (A0 rfl (AE (svt tv _) (dat j hj) ⟨rfl,rfl⟩)))
  .have c:¬ (i:Int)=k:=by simpa using c
   refine Ho (AG (A5 (A0 rfl (A0 rfl (BJ ⟨_,rfl,λc2=>?_,λc2=>?_⟩)))))
   .have c2:(i:Int)=j:=by simpa using c2
    have:f i=k:=by show(if i=k then j else if i=j then k else i)=k;rw[j7 (by omega),j6 (by omega)]
    rw[this];exact A5 (A0 rfl (A0 rfl (AE (svt tv _) (dat k hk) ⟨rfl,rfl⟩)))
   .have c2:¬ (i:Int)=j:=by simpa using c2
    have:f i=i:=by show(if i=k then j else if i=j then k else i)=i;rw[j7 (by omega),j7 (by omega)]
    rw[this];exact A5 (A0 rfl (A0 rfl (AE (svt tv _) (dat i (by omega)) ⟨rfl,rfl⟩)))
 rw[List.filterMap_eq_map'];refine⟨_,rfl,same (t:=.tup ((List.range ds.length).map λi=>rs.getD (f i) .non)) (NR ir1 f _ λi hi=>fl i (by have:=mem_range.mp hi;omega)).tup (Dt (λu hu=>?_) (by simp;omega)).1⟩;obtain⟨i,hi,rfl⟩:=mem_map.mp hu;have hi:=mem_range.mp hi;rw[List.getD_eq_getElem?_getD,List.getElem?_eq_getElem (fl i (by omega))];exact itr _ (List.getElem_mem _)
open PySem L2 Bd An
def RO{n N:Nat}{m:Int}{g:Nat->Nat->Option Int}(h:∀k,k<=n->∀w,w<N->bd (-m) m (g k w)):Tb (Es m) (n+1) N (ofI (Ay n N g)):=by
 unfold Ay;rw[ofI,JJ];refine⟨_,rfl,by simp,λr hr=>?_⟩;simp only[jh,mem_map,mem_range]at hr;obtain⟨k,hk,rfl⟩:=hr;show ∃es,ofI (Au N (g k))=_/\_;unfold Au;rw[ofI,JJ];refine⟨_,rfl,by simp,λe he=>?_⟩;simp only[jh,mem_map,mem_range]at he;obtain⟨w,hw,rfl⟩:=he;show en m (ofI (ET (g k w)));have hb:=h k (by omega) w hw;cases q:g k w with
 |none=>exact .inl rfl
 |some x=>exact .inr ⟨x,rfl,hb x q⟩
def Je{m:Int}{L N:Nat}(hm:m<=4000)(hL:L<=10)(hN:N<=80)(h:Tb (Es m) L N t):HW t:=by
 obtain⟨rs,rfl,lr,hr⟩:=h;refine(Dt (λr q=>?_) (by omega)).1;obtain⟨es,rfl,l,q⟩:=hr r q;exact(Ps hm q (by omega)).mono (j9 _) (by decide) (by decide) (by decide)
def Ry{L N:Nat}(hL:L<=10)(h:Tb Rb L N t):HW t:=by
 obtain⟨rs,rfl,lr,hr⟩:=h;refine(Dt (λr q=>?_) (by omega)).1;obtain⟨es,rfl,l,q⟩:=hr r q;exact q.mono (j9 _) (by decide) (by decide) (by decide)
def Th(n:Nat){c:Int}(ok:BW 500 c ws){N:Nat}(eN:N=(Ag ws).toNat+1){g:Nat->Nat->Option Int}(hg:∀k,k<=ws.length->∀w,w<N->bd (-2000) 2000 (g k w)){way:Int}(w0:0<=way)(w9:way<10){rest:Hd}(hT:T (n+2100) a b):WF HY [.mu 1,.im (AR ws),.im (Ay ws.length N g),.im (.int way)] (a::b::rest) (Out n rest):=by
 have hl8:=ok.2.1;have hf:=EY ok;have hN:1<=N/\N<=80:=by omega
 have hL:1<=ws.length+1/\ws.length+1<=10:=by omega
 have tb:=RO hg;have is:Is 0 [] (ofI (Ay ws.length N g)) (.im (Ay ws.length N g)):=QK _;have st:∀(k:Nat) {m:Int} {t:Tv} {d:D} {a b:MO} {rest:Hd},31<=m->Is 0 [] t d->Tb (Es m) (ws.length+1) N t->T (k+3) a b->WF Cw [.mu 1,d] (a::b::rest) λd' x=>∃a' b' y t',x=a'::b'::(rest++y)/\T k a' b'/\Is 0 [] t' d'/\Tb (Es (m+1)) (ws.length+1) N t':=λk {m t d a b rest} hm hi ht hT=>RQ k ⟨hL.1,by omega⟩ ⟨hN.1,by omega⟩ hm hi ht hT;have od:∀(k:Nat) {m:Int} {t:Tv} {d:D} {a b:MO} {rest:Hd},m<=4000->Is 0 [] t d->Tb (Es m) (ws.length+1) N t->T (k+3) a b->WF Hb [.mu 1,d] (a::b::rest) λd' x=>∃a' b' y t',x=a'::b'::(rest++y)/\T k a' b'/\Is x.length x t' d'/\Tb Rb (ws.length+1) N t':=λk {m t d a b rest} hm hi ht hT=>eI k hm ⟨hL.1,by omega⟩ hN hi ht hT;unfold HY;refine Ak rfl ?_;refine A8 (AM (AG (A5 (A0 rfl (A9 (BJ ⟨_,rfl,λq=>?_,λq=>AI (A6 ?_)⟩))))))
 .exact AH (A0 rfl ⟨a,b,[],_,by simp,tap.le hT (by omega),is0 is,Je (by decide) hL.2 hN.2 tb⟩)
 refine A8 (AM (AG (A5 (A0 rfl (A9 (IS ⟨_,rfl,λq=>?_,λq=>AI (A6 ?_)⟩))))))
 .refine AH (Ac (A1 (A0 rfl (A1 (A0 rfl (A4 ((st n (by decide) is tb (tap.le hT (by omega))).mono ?_)))))));rintro d x ⟨a,b,y,t,rfl,hT,hi,ht⟩;exact⟨a,b,y,t,rfl,hT,is0 hi,Je (by decide) hL.2 hN.2 ht⟩
 refine A8 (AM (AG (A5 (A0 rfl (A9 (BJ ⟨_,rfl,λq=>?_,λq=>AI (A6 ?_)⟩))))))
 .refine AH (Ac (A1 (A0 rfl (A1 (Ac (A1 (A0 rfl (A1 (A0 rfl (A4 ((st (n+3) (by decide) is tb (tap.le hT (by omega))).mono ?_)))))))))));rintro d x ⟨a,b,y,t,rfl,hT,hi,ht⟩;refine A4 ((st n (by decide) hi ht hT).mono ?_);rintro d x ⟨a,b,y2,t,rfl,hT,hi,ht⟩;exact⟨a,b,y++y2,t,by simp,hT,is0 hi,Je (by decide) hL.2 hN.2 ht⟩
 refine A8 (AM (AG (A5 (A0 rfl (A9 (BJ ⟨_,rfl,λq=>?_,λq=>AI (A6 ?_)⟩))))))
 .refine AH (Ac (A1 (A0 rfl (A1 (A0 rfl (A4 ((od n (by decide) is tb (tap.le hT (by omega))).mono ?_)))))));rintro d x ⟨a,b,y,t,rfl,hT,hi,ht⟩;exact⟨a,b,y,t,rfl,hT,hi,Ry hL.2 ht⟩
 refine A8 (AM (AG (A5 (A0 rfl (A9 (BJ ⟨_,rfl,λq=>?_,λq=>AI (A6 ?_)⟩))))))
 .refine AH (Ac (A1 (A0 rfl (A1 (Ac (A1 (A0 rfl (A1 (A0 rfl (A4 ((st (n+3) (by decide) is tb (tap.le hT (by omega))).mono ?_)))))))))));rintro d x ⟨a,b,y,t,rfl,hT,hi,ht⟩;refine A4 ((od n (by decide) hi ht hT).mono ?_);rintro d x ⟨a,b,y2,t,rfl,hT,hi,ht⟩;exact⟨a,b,y++y2,t,by simp,hT,hi,Ry hL.2 ht⟩
 refine A8 (AM (AG (A5 (A0 rfl (A9 (BJ ⟨_,rfl,λq=>?_,λq=>AI (A6 ?_)⟩))))))
 .refine AH (Ac (A1 (A0 rfl (A1 (A0 rfl (A4 ((Jp n hL hN (is0 is) ?_ (tap.le hT (by omega))).mono ?_)))))))
  .obtain⟨rs,e,lr,hr⟩:=tb;refine⟨rs,e,lr,λr q=>?_⟩;obtain⟨es,e,l,q⟩:=hr r q;exact⟨es,e,l,Ps (m:=2000) (by decide) q (by omega)⟩
  .exact λd x h=>h
 refine A8 (AM (AG (A5 (A0 rfl (A9 (BJ ⟨_,rfl,λq=>?_,λq=>AI (A6 ?_)⟩))))))
 .refine AH (Ac (A1 (A0 rfl (A1 (Ac (A1 (A0 rfl (A1 (A0 rfl (A4 ((od (n+4) (by decide) is tb (tap.le hT (by omega))).mono ?_)))))))))));rintro d x ⟨a,b,y,t,rfl,hT,hi,ht⟩;refine A4 ((Jp n hL hN (rest:=rest++y) (by simpa using hi) ht hT).mono ?_);rintro d x ⟨a,b,y2,t,rfl,hT,hi,ht⟩;exact⟨a,b,y++y2,t,by simp,hT,hi,ht⟩
 refine AH (Im (n:=n) (c:=2000) (R:=λi=>∃g:Nat->Nat->Option Int,i=Ay ws.length N g/\∀k,k<=ws.length->∀w,w<N->bd (-2000) 2000 (g k w)) (A1 (A0 rfl (A1 (Im (n:=n+2000) (c:=2) (R:=λi=>∃us,i=AR us/\BW 501 c us/\us.length=ws.length/\us.map Wm.wt=ws.map Wm.wt) (A1 (A0 rfl (A1 (A0 rfl (A4 ⟨a,b,rest,[.im (AR ws)],rfl,rfl,tap.le hT (by omega),by simp,bn (n+2000) ok (by decide),?_⟩))))))))));rintro i a b hT ⟨us,rfl,ok2,hul,huw⟩;have eN2:N=(Ag us).toNat+1:=by rw[Yj huw];exact eN
 refine A1 (A9 (A4 ⟨a,b,rest,[.im (AR us),.im (.int 0)],rfl,rfl,hT,by simp,λa b hT=>(LG n ok2 (by decide) eN2 (by decide) (by decide) a b hT).mono ?_,?_⟩))
 .rintro d x ⟨i,a',b',y,rfl,⟨g,rfl,-,hg⟩,hT,rfl⟩;exact⟨_,a',b',y,rfl,⟨g,by rw[hul],by rw[<- hul];exact hg⟩,hT,rfl⟩
 rintro i a b hT ⟨g2,rfl,hg2⟩;exact⟨a,b,[],_,by simp,hT,is0 (hd:=[]) (QK _),Je (by decide) hL.2 hN.2 (RO hg2)⟩
def Oc(h:∀i,d=.im i->∃is,i=.tup is):EA [d] hd=G4 [d] hd:=by
 cases d with
 |im i=>obtain⟨is,rfl⟩:=h i rfl;rfl
 |_=>rfl
def rT:Tv->Str
 |.non=>"None"
 |.bl b=>if b then "True" else "False"
 |.int i=>toString i
 |.str x=>reprText x
 |t=>(pyT t).shown
def VR{N:Nat}{QE:D->Hd->Prop}(hi:Is N hd t d)(h:HW t)(q:QE (.im (.str (rT t))) hd):WP (EA [d] hd) QE:=by
 have ok:=W2 (m:=Gr) (by decide) h.gd;have hw:=h.wt;have hp:=h.dp;cases t with
 |non=>simp only[Is]at hi;subst hi;exact⟨_,_,rfl,q⟩
 |bl b=>simp only[Is]at hi;subst hi;exact⟨_,_,rfl,q⟩
 |int i=>
  simp only[Is]at hi;subst hi;have:=ok.sh;simp only[pyT,PyData.showable]at this;have h:i.natAbs.log2<1920:=of_decide_eq_true this;exact⟨_,_,by show IH [.im (.int i)] hd=_;unfold IH;exact j6 h,q⟩
 |str x=>
  simp only[Is]at hi;subst hi;have hs:(reprText x).length<=sizeLine:=by
   have:=PyData.shown_le 250 (by decide) (pyT (.str x)) (PyData.leavesShort_of_canLay0 250 _ ok.lay ok.it);have hw2:=ok.wt;rw[jw];simp only[pyT,PyData.shown]at this hw2;omega
  exact⟨_,_,j6 hs,q⟩
 |tup ts=>
  have e:EA [d] hd=G4 [d] hd:=Oc λi ei=>by
   subst ei;simp only[Is]at hi;obtain⟨ds,e,_⟩:=hi;unfold AT at e;cases z:BN ds with
   |none=>rw[z]at e;cases e
   |some is=>rw[z]at e;cases e;exact⟨_,rfl⟩
  rw[e];exact MD (hi.pyN (by omega)) (ok.repr rfl (by omega) (by omega)) q
 |lst ts=>
  have e:EA [d] hd=G4 [d] hd:=Oc λi ei=>by
   subst ei;simp only[Is]at hi;obtain⟨k,ds,e,_⟩:=hi;cases e
  rw[e];exact MD (hi.pyN (by omega)) (ok.repr rfl (by omega) (by omega)) q
def eY(ns:List Int):WF Rw [.ro ns] [] λd x=>d=.im (.bl true):=by
 unfold Rw;refine Ak rfl ?_;refine A8 (AK (Ac (A1 (A0 rfl (A4 ((Tj ns).mono ?_))))));rintro d x ⟨rfl,a,b,hT,rfl⟩;refine A6 (A8 (AK (Bp (BO (J8 (A1 (A9 (A4 ⟨5,rfl,FX (by decide) (by decide),Ai (by dsimp only;rw[DT];decide),?_⟩))))))));refine VT (λr es ls hd=>∃(j:Nat) (ms:List Int) (z:Option D) (a b:MO),j<=5/\r=Ar (j:Int) (5-j)/\es=Ao ms/\ms.length=j/\(∀m∈ms,0<=m/\m<10)/\ls=[z,some (.mu 1)]/\hd=[a,b]/\T (80000+(5-j)) a b) ⟨0,[],none,a,b,by omega,rfl,rfl,rfl,(λm h=>by cases h),rfl,rfl,tap.le hT (by omega)⟩ ?_ ?_
 .rintro d r es ls hd ⟨j,ms,z,a,b,hj,er,rfl,lm,hm,rfl,rfl,hT⟩;cases q:5-j with
  |zero=>rw[q]at er;cases er
  |succ m=>
   rw[q,Ar]at er;obtain⟨rfl,rfl⟩:=List.cons.inj er;refine⟨_,rfl,CS ?_⟩;rw[j6 rfl];refine C1 (n:=80000+m) (A1 (A0 rfl (A1 (A9 (A4 ⟨a,b,[],10,rfl,rfl,tap.le hT (by omega),by decide,by decide,λr a b hT p q=>?_⟩)))));refine⟨Ah _,j+1,ms++[r],_,a,b,by omega,by rw[show 5-(j+1)=m by omega];rfl,by simp[Ao],by simp[lm],λx hx=>?_,rfl,rfl,by rw[show 5-(j+1)=m by omega];exact hT⟩;rcases mem_append.mp hx with hx|hx
   .exact hm x hx
   .rw[ju]at hx;subst hx;exact⟨p,q⟩
 rintro es ls hd ⟨j,ms,z,a,b,hj,er,rfl,lm,hm,rfl,rfl,hT⟩;have lm5:ms.length<=5:=by omega
 clear er;refine A6 (A8 (AK (E3 (Bq (A1 (A9 (A1 (A9 (A1 (A9 (A4 ⟨Cp,?_⟩)))))))))));refine C1 (n:=79000) (A1 (A0 rfl (A1 (A9 (A4 ⟨a,b,[.lst (Ao ms)],3,rfl,rfl,tap.le hT (by omega),by decide,by decide,λr a b hT p q=>?_⟩)))));obtain⟨d2,hd2,ed2⟩:=at3 p q (.im (.int 3)) (.im (.int 5)) (.im (.int 8));refine⟨_,_,rfl,ed2,?_⟩;obtain⟨mo,rfl,hmo⟩:∃t,d2=.im (.int t)/\(1<=t/\t<=8):=by
  rcases hd2 with rfl|rfl|rfl<;>exact⟨_,rfl,by omega,by omega⟩
 refine A6 (A8 (AK (Im (n:=70000) (c:=100) (A1 (A0 rfl (A1 (A0 rfl (A4 ⟨a,b,[.lst (Ao ms)],[.im (.int mo)],rfl,rfl,tap.le hT (by omega),by simp,NK 70000 hmo.1 hmo.2,?_⟩))))))));rintro i a b hT ⟨ws,c,rfl,ok,-⟩;have hl8:=ok.2.1;have hf:=EY ok;obtain⟨N,eN⟩:∃N,N=(Ag ws).toNat+1:=⟨_,rfl⟩
 refine A6 (A8 (AK (Im (n:=60000) (c:=2000) (R:=λi=>∃g:Nat->Nat->Option Int,i=Ay ws.length N g/\C6 c ws N g ws.length/\∀k,k<=ws.length->∀w,w<N->bd (-2000) 2000 (g k w)) (A1 (A0 rfl (A1 (A0 rfl (A1 (E3 (Bq (A1 (A9 (A1 (A9 (A1 (A9 (A4 ⟨Cp,?_⟩)))))))))))))))));refine C1 (n:=69000) (A1 (A0 rfl (A1 (A9 (A4 ⟨a,b,[.lst (Ao ms)],3,rfl,rfl,tap.le hT (by omega),by decide,by decide,λr a b hT p q=>?_⟩)))));obtain⟨d3,hd3,ed3⟩:=at3 p q (.im (.int 0)) (.im (.int 1)) (.im (.int 12));refine⟨_,_,rfl,ed3,?_⟩;obtain⟨mu,rfl,hmu⟩:∃t,d3=.im (.int t)/\(0<=t/\t<=100):=by
  rcases hd3 with rfl|rfl|rfl<;>exact⟨_,rfl,by omega,by omega⟩
 refine A4 ⟨a,b,[.lst (Ao ms)],[.im (AR ws),.im (.int mu)],rfl,rfl,tap.le hT (by omega),by simp,LG 60000 ok (by decide) eN hmu.1 hmu.2,?_⟩;rintro i a b hT ⟨g,rfl,-,hg⟩;refine A6 (A8 (Bn (J9 (A0 rfl ⟨2,Ao ms,rfl,rfl,?_⟩))));refine Bc (λr ls hd=>∃(dn re:List Int) (z6 z7 z8:Option D) (a b:MO) (y:Hd),ms=dn++re/\r=Ao re/\ls=[some (.ro ns),some (.mu 1),some (.mu 2),some (.im (.int mo)),some (.im (AR ws)),some (.im (Ay ws.length N g)),z6,z7,z8]/\hd=a::b::.lst (Ao ms)::y/\T (40000+2100*re.length) a b) ⟨[],ms,none,none,none,a,b,[],rfl,rfl,rfl,rfl,tap.le hT (by omega)⟩ ?_ ?_
 .rintro d r ls hd ⟨dn,re,z6,z7,z8,a,b,y,em,er,rfl,rfl,hT⟩;cases re with
  |nil=>cases er
  |cons way re=>
   obtain⟨rfl,rfl⟩:=List.cons.inj er;obtain⟨y0,y9⟩:=hm way (by rw[em];simp);refine⟨[some (.ro ns),some (.mu 1),some (.mu 2),some (.im (.int mo)),some (.im (AR ws)),some (.im (Ay ws.length N g)),some (.im (.int way)),z7,z8],rfl,?_⟩;refine A8 (AK (Ac (A1 (A0 rfl (A1 (A0 rfl (A1 (A0 rfl (A1 (A0 rfl (A4 ((Th (40000+2100*re.length) ok eN hg y0 y9 (rest:=.lst (Ao ms)::y) (tap.le hT (by rw[jK];omega))).mono ?_))))))))))));rintro d x ⟨a,b,y2,t,rfl,hT,hi,ht⟩;obtain⟨i,h1,h2,h3⟩:=VO ok (by decide) hi;refine A6 (A8 (AK (B5 (A1 (A0 rfl (A4 (VR hi ht (A6 ?_))))))));refine AM (Ef (C4 (BB (Ad (A1 (Ac (A1 (A0 rfl (A1 (A0 rfl (A4 (h1.mono ?_))))))))))));rintro e x ⟨rfl,rfl⟩;refine A1 (Ac (A1 (A0 rfl (A1 (A0 rfl (A4 (h2.mono ?_)))))));rintro e x ⟨rfl,rfl⟩;refine A4 ⟨by simp,h3.mono ?_⟩;rintro e x rfl;refine⟨_,rfl,_,rfl,?_⟩;rw[j7 (by simp)];refine AG (A5 (B5 (A1 (A0 rfl (A4 (VR hi ht (A0 rfl (MF ⟨_,rfl,(λh=>by simp at h),λ_=>AI ?_⟩))))))));exact⟨λp hp=>by rw[ju]at hp;subst hp;rfl,dn++[way],re,_,_,_,a,b,y++y2,by rw[em];simp,rfl,rfl,rfl,hT⟩
 .rintro ls hd ⟨dn,re,z6,z7,z8,a,b,y,em,er,rfl,rfl,hT⟩;exact A6 (AH (A9 rfl))
def law_eq(ns:List Int):∃hd,Rw [.ro ns] []=some (.im (.bl true),hd):=by
 obtain⟨d,x,e,rfl⟩:=eY ns;exact⟨x,e⟩
open PySem L2 PySem.W PyProof.Rows
abbrev xS:Xs:=[("by_dues",((("by_dues":Str)++".<locals>.")++"<lambda>"),65,41)]
def O7:FnScope ["self","path","word"] ["self","path","word"] (AA (Ea.inC (top 2))):=B0 (by kernel_rfl)
def DG:Ini (Ea.inC (top 2)) ["self","path","word"] ["path","word"]:=⟨λF c nA=>Ud F O7 rfl c (nA _ (by simp)) (nA _ (by simp)) (by decide) (λ_ _ _ _ _ _=>rfl) (λ_ _ _ _ _ _=>rfl) (Or.inl rfl) (Or.inl rfl) (Or.inl rfl) (by decide) (by decide) (by decide) (by decide),rfl,by decide,λ_ _ _ _ _ _ _ us hl=>match us,hl with|[_,_,_],_=>rfl⟩
def all_mk{l:OpenLaw}{w:World}{K:Frag}{h:Heap}{mg:Str->Option Value}{fa:Addr}{c P:Str->Addr}(X:K.In h)(G:h.Ns mainGlobals mg)(hfa:mg "law"=some (.ref fa))(hx:HX xS mg h c P)(F:Qp K):HG l w K xS mg c P fa Qc:=by
 obtain⟨Z,h0,h1,h2,h3,h4,h5,h6,h7,h8,h9,h10,h11,h12,h13,h14,h15,h16,h17,h18,h19,h20,h21,h22,h23,h24,h25,h26,h27,h28,h29,h31,h32,h33,h34,h35,h36,p30,cc0,cc1,cc2,cc3,cc4,cc5,cc6,cc7,cc8,h30,tn,ec_NoPaper,ns_NoPaper,ns_BenchError,ns_NoBack,ns_NoRow,ns_NoRule,ns_NoText,ns_NoWish,ns_NoWork,ns_TooMany,kt0,kt1,kt2,kt3,kt4⟩:=F;have B:=(zsE Z).blt X G;have nd:((DN (B7 K (tbs xS P))).map (·.1)).Nodup:=eK (ps:=[p30]) (by show [P "by_dues"]=_;rw[((flE (e:=F2) h30).code X G hx (.head _)).1]) tn;refine V0 X G hfa hx (feE h0) bd1 rfl λbase hd bl=>?_;obtain⟨o_is_number,o_is_tuple_of,o_same_coming,o_one_coming,o_refuse_other_costs,o_weight_of,o_late_coming,o_by_dues,o_full_weight,o_no_more,o_put_behind,o_greatest_weight,ox_look_at_shape,o_look_at_shape,ox_look_at_row,o_look_at_row,ox_look_at_places,o_look_at_places,ox_lets_table,o_lets_table,o_source,o_pick,o_late_works,o_alike,o_lby_dues,o_highest,o_free,o_lowered,o_is_entry,o_shape,o_places,o_last,o_put,o_stepped,o_odd,o_reshaped,o_near,o_spoilt,o_judged,o_told,o_law⟩:=oks (E:=enM l w K xS P mg base) B
  (Ec.cl X G hx ec_NoPaper DG)
  (λnm hh=>(by rcases mem_cons.mp hh with rfl|hh;(· exact⟨_,Ec.cl X G hx ec_NoPaper DG,by simp⟩);cases hh))
  (λnm hh=>(by rcases mem_cons.mp hh with rfl|hh;(· exact⟨_,Ec.cl X G hx ec_NoPaper DG,by simp⟩);cases hh))
  (⟨⟨_,mg_of X G ns_BenchError⟩,λnm hh=>(by rcases mem_cons.mp hh with rfl|hh;(· exact Ec.ch X G hx ec_NoPaper ns_BenchError kt0);cases hh)⟩)
  (⟨λnm hh=>(by rcases mem_cons.mp hh with rfl|hh;(· exact⟨_,mg_of X G ns_NoBack⟩);rcases mem_cons.mp hh with rfl|hh;(· exact⟨_,mg_of X G ns_NoRow⟩);rcases mem_cons.mp hh with rfl|hh;(· exact⟨_,mg_of X G ns_NoRule⟩);rcases mem_cons.mp hh with rfl|hh;(· exact⟨_,mg_of X G ns_NoText⟩);rcases mem_cons.mp hh with rfl|hh;(· exact⟨_,mg_of X G ns_NoWish⟩);rcases mem_cons.mp hh with rfl|hh;(· exact⟨_,mg_of X G ns_NoWork⟩);rcases mem_cons.mp hh with rfl|hh;(· exact⟨_,mg_of X G ns_TooMany⟩);cases hh),λnm b hh=>(by rcases Kg hh with⟨rfl,rfl⟩|hh;(· exact⟨⟨_,Ec.cl X G hx ec_NoPaper DG⟩,Ec.ct X G hx ec_NoPaper (by simp only[jc,map_nil];rw[mg_of X G ns_NoBack,mg_of X G ns_NoRow,mg_of X G ns_NoRule,mg_of X G ns_NoText,mg_of X G ns_NoWish,mg_of X G ns_NoWork,mg_of X G ns_TooMany]) kt1⟩);cases hh)⟩)
  (⟨PySem.W.mg_none_of X G kt2,λnm b hh=>(by rcases Kg hh with⟨rfl,rfl⟩|hh;(· exact⟨⟨_,Ec.cl X G hx ec_NoPaper DG⟩,Ec.cv X G hx ec_NoPaper kt2 kt3,rfl⟩);cases hh)⟩)
  (⟨⟨_,mg_of X G ns_NoPaper⟩,λnm b hh=>(by rcases Kg hh with⟨rfl,rfl⟩|hh;(· exact⟨⟨_,Ec.cl X G hx ec_NoPaper DG⟩,Ec.ci X G hx ec_NoPaper ns_NoPaper kt4⟩);cases hh)⟩)
 have g1:=o_source ((feE h1).dn X G hx bd1 l w base);have g2:=o_pick ((feE h2).dn X G hx bd2 l w base);have g3:=o_late_works ((feE h3).dn X G hx bd2 l w base) g2;have g4:=o_alike ((feE h4).dn X G hx bd2 l w base);have g5:=o_lby_dues ((feE h5).dn X G hx bd1 l w base);have g6:=o_highest ((feE h6).dn X G hx bd3 l w base);have g7:=o_free ((feE h7).dn X G hx bd3 l w base) g2;have g8:=o_lowered ((feE h8).dn X G hx bd3 l w base) g2 g5 g6 g7;have g9:=o_put ((feE h9).dn X G hx bd4 l w base);have g10:=o_stepped ((feE h10).dn X G hx bd2 l w base) g2 g9;have g11:=o_odd ((feE h11).dn X G hx bd2 l w base) g2 g9;have g12:=o_reshaped ((feE h12).dn X G hx bd2 l w base) g2;have g13:=o_near ((feE h13).dn X G hx bd2 l w base) g2;have g14:=o_spoilt ((feE h14).dn X G hx bd4 l w base) g8 g10 g11 g12 g13;have g15:=o_is_entry ((feE h15).dn X G hx bd1 l w base);have g16:=o_shape ((feE h16).dn X G hx bd3 l w base) g15;have g17:=o_places ((feE h17).dn X G hx bd3 l w base) g5 g6;have g18:=o_last ((feE h18).dn X G hx bd1 l w base);have g19:=o_judged ((feE h19).dn X G hx bd2 l w base) g16 g17 g18;have g20:=o_same_coming ((feE h20).dn X G hx bd1 l w base);have g21:=o_one_coming ((feE h21).dn X G hx bd1 l w base) g20;have g22:=o_refuse_other_costs ((feE h22).dn X G hx bd2 l w base);have g23:=o_late_coming ((feE h23).dn X G hx bd1 l w base) g21 g22;have g24:=o_weight_of ((feE h24).dn X G hx bd1 l w base);have g25:=o_full_weight ((feE h25).dn X G hx bd1 l w base) g24;have g26:=o_greatest_weight ((feE h26).dn X G hx bd1 l w base);have g27:=o_is_number ((feE h27).dn X G hx bd1 l w base);have g28:=o_is_tuple_of ((feE h28).dn X G hx bd2 l w base);have gx29:=ox_look_at_shape ((feE h29).dn X G hx bd3 l w base) g27 g28 g25;have g29:=o_look_at_shape ((feE h29).dn X G hx bd3 l w base) g27 g28 g25;have g30:=o_by_dues ((flE h30).dl X G hx bd1 (.head _) l w hd bl nd rfl);have g31:=o_no_more ((feE h31).dn X G hx bd2 l w base);have g32:=o_put_behind ((feE h32).dn X G hx bd3 l w base);have gx33:=ox_look_at_row ((feE h33).dn X G hx bd4 l w base) g31 g32;have g33:=o_look_at_row ((feE h33).dn X G hx bd4 l w base) g31 g32;have gx34:=ox_look_at_places ((feE h34).dn X G hx bd3 l w base) g23 g30 g31 g33 gx33;have g34:=o_look_at_places ((feE h34).dn X G hx bd3 l w base) g23 g30 g31 g33;have gx35:=ox_lets_table ((feE h35).dn X G hx bd2 l w base) g23 g25 g26 g29 g34 gx29 gx34;have g35:=o_lets_table ((feE h35).dn X G hx bd2 l w base) g23 g25 g26 g29 g34;have g36:=o_told ((feE h36).dn X G hx bd2 l w base) g35 gx35;exact o_law ((feE h0).dn X G hx bd1 l w base) g1 g2 g3 g4 g8 g14 g19 g36
end T38
theorem PySem.Challenge.cw_benchdays_k38_late_tables_judged_holds : PySem.Challenge.rw_benchdays_k38_late_tables_judged.Holds := by
 refine T38.early λK F d hd hdf=>L2.walkL T38.xS (l:=PySem.Challenge.rw_benchdays_k38_late_tables_judged) (n:=63) (k:=8) (F:=T38.Rw) rfl (by decide) hdf ⟨rfl,by decide,by decide,rfl⟩ (by intro x hx;simp only[T38.xS,ja,ji,jk]at hx;subst hx;exact⟨_,rfl⟩) T38.law_eq (λw h Y=>Y) λw mg fa h c P X G hmg hx=>?_;rw[hd]at hmg;exact T38.all_mk X G hmg hx (F w)
