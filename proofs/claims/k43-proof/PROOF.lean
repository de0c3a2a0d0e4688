import PyProof.Rows.All
import Wide.All
import OpenK.AllK
import Wide.FinOn
import Lean
import PyProof.EqAt
import PyProof.EqKinds
import PyProof.TupleCall
import KE.KSortKey
import PyProof.ListMulRoad
import PyProof.Draws
import PyProof.EnumMake
import PyProof.ListNew
import KE.KRevIter
import KE.KMinKey
import PySem.Challenge.RW_benchdays_k43_whole_any_table
set_option Elab.async false
set_option linter.all false
set_option maxRecDepth 100000
noncomputable section
set_option hygiene false in
local macro_rules | `(tactic| and_intros) => `(tactic| intro ρ σ H hd ls Q d hd' hR hL hm hQ)
open List(mem_cons mem_filter mem_range filterMap_cons mem_cons_self mem_cons_of_mem mem_append mem_append_left mem_append_right size_toArray append_nil nodup_cons of_mem_zip length_take mem_of_getElem? length_append length_map length_replicate length_drop replicate_succ flatten_cons append_assoc nil_append map_nil map_cons find?_cons any_cons length_cons length_nil lookup_cons lookup_append mem_map all_eq_true mem_singleton contains_cons mem_iff_getElem? map_map zipIdx_cons not_mem_nil ext_getElem? map_snd_zip map_congr_left mergeSort_perm pairwise_map filter_cons map_append range_succ ext_getElem)
open Option(bind_some isSome_iff_exists none_or map_some)
open Nat(lt_of_lt_of_le lt_irrefl ne_of_lt le_trans le_of_lt ne_of_gt le_refl lt_trans zero_le not_lt lt_succ_of_lt le_succ le_add_right zero_add sub_zero not_lt_zero)
open Int(toNat_natCast)
def c5{α β:Type _}{o:Option α}{f:α->Option β}{b:β}(h:o.bind f=some b):∃a,o=some a/\f a=some b:=Option.bind_eq_some_iff.mp h
def c7{α β:Type _}{o:Option α}{f:α->β}{b:β}(h:o.map f=some b):∃a,o=some a/\f a=b:=Option.map_eq_some_iff.mp h
set_option compiler.extract_closed false
local macro_rules | `(tactic| omega) => `(tactic| first | lia | omega (config := {}))
namespace Ea
open PySem PySem.W
def dA(s:Stmt):Arguments:=match s with
 |.FunctionDef _ a _ _ _ _ _ _ _ _=>a
 |_=>{ posonlyargs:=[],args:=[],vararg:=none,kwonlyargs:=[],kw_defaults:=[],kwarg:=none,defaults:=[] }
def dB(s:Stmt):List Stmt:=match s with
 |.FunctionDef _ _ b _ _ _ _ _ _ _=>b
 |_=>[]
def dS(s:Stmt):Scope:=match s with
 |.FunctionDef _ _ _ _ _ _ sc _ _ _=>sc
 |_=>{ kind:=.function,names:=[],isGenerator:=false,isCoroutine:=false }
def tO(o:Obj):Option Addr:=match o.data with
 | .fields vs=>(match (vs[11]?:Option Value)with
  |some (Value.ref P)=>some P
  | _=>none)
 |_=>none
def At(K:Frag)(n:Str)(s:Stmt)(f:Addr)(cd:Value):Prop:=∃oc kV dc pm ct od an sl,nsIn K mainGlobals n=some (some (.ref f))/\K.lookup f=some ⟨oc,od,.func (fnOf n n (dA s) (dB s) (dS s) .none kV dc pm an cd ct),sl⟩/\codeIn K cd n=true/\keepIn K (.ref f)=true
def Fe(K:Frag)(n:Str)(s:Stmt):Prop:=∃f cd,At K n s f cd
def Fl(K:Frag)(n:Str)(s:Stmt)(p:Addr):Prop:=∃f ca ob,At K n s f (.ref ca)/\K.lookup ca=some ob/\tO ob=some p
section
variable{K:Frag}{n:Str}{s:Stmt}{f ca p:Addr}{oc kV dc pm cd ct:Value}{od an:Option Addr}{sl:Array (Option Value)}{ob:Obj}
def feI(a:nsIn K mainGlobals n=some (some (.ref f)))(l:K.lookup f=some ⟨oc,od,.func (fnOf n n (dA s) (dB s) (dS s) .none kV dc pm an cd ct),sl⟩)(c:codeIn K cd n=true)(k:keepIn K (.ref f)=true):Fe K n s:=⟨f,cd,_,_,_,_,_,_,_,_,a,l,c,k⟩
def flI(a:nsIn K mainGlobals n=some (some (.ref f)))(l:K.lookup f=some ⟨oc,od,.func (fnOf n n (dA s) (dB s) (dS s) .none kV dc pm an cd ct),sl⟩)(c:codeIn K cd n=true)(k:keepIn K (.ref f)=true)(u:cd=.ref ca)(t:K.lookup ca=some ob)(v:tO ob=some p):Fl K n s p:=by
 subst u;exact⟨f,ca,ob,⟨_,_,_,_,_,_,_,_,a,l,c,k⟩,t,v⟩
end
abbrev Zx:List Str:=["list","tuple","len","range","repr","sum","min","max","abs","all","any","sorted","zip","isinstance","int","bool","str","set","enumerate","reversed","dict"]
def Zs(K:Frag):Prop:=∀n∈Zx,nsIn K mainGlobals n=some none
def Zg(K:Frag)(l:List Str):Prop:=∀n∈l,nsIn K mainGlobals n=some none
def zs0{K:Frag}:Zg K []:=λ_ h=>nomatch h
def zs1{K:Frag}{n:Str}{l:List Str}(h:nsIn K mainGlobals n=some none)(r:Zg K l):Zg K (n::l):=λm hm=>by
 rcases mem_cons.mp hm with rfl|hm
 .exact h
 .exact r m hm
end Ea
namespace L2
open PySem
def bD(nm:Str)(p:Addr×Obj):Bool:=match p.2.data with
 |.cls cd=>cd.name==nm
 |_=>false
def clsAt(K:PySem.W.Frag)(nm:Str):Option Addr:=(K.find? (bD nm)).map (·.1)
end L2
namespace Ea
open PySem PySem.W
def inC(s:Stmt):Stmt:=match s with
 |.ClassDef _ _ _ b _ _ _ _ _ _ _=>b.getD 0 (.Pass ⟨0,0,0,0⟩)
 |_=>.Pass ⟨0,0,0,0⟩
def ovB:List Value->Bool
 |[]=>false
 | v::l=>decide (v::l=[.type "ValueError",.type "Exception",.type "BaseException",.type "object"])||(match v with
  |.ref _=>ovB l
  | _=>false)
def Ec(K:Frag)(nm:Str)(s:Stmt)(fs:List Str)(C:Addr):Prop:=∃(fI N:Addr) (nm' q:Str) (bs bm sub:List Value) (sn:List Str) (ab:Bool) (col:Option Bool) (dd od an:Option Addr) (k0 k1 k2 k3 k5:Option Value) (oc kV dc pm cd ct:Value) (sl:Array (Option Value)),
 nsIn K mainGlobals nm=some (some (.ref C))/\L2.clsAt K nm=some C/\K.lookup C=some (excClassObj nm' q C N bs bm true sn sub ab col dd k0 k1 k2 k3 k5 "ValueError.__new__")/\ovB bm=true/\findIn K (.ref C) "__init__"=some (some (.ref fI))/\isFn K (.ref fI)=true/\keepIn K (.ref C)=true /\
 findIn K (.ref C) "__setattr__"=some (some (.builtin "object.__setattr__"))/\findIn K (.ref C) "__getattribute__"=some (some (.builtin "BaseException.__getattribute__"))/\findIn K (.ref C) "__getattr__"=some none/\findIn K (.ref C) "__class__"=some (some (.builtin "object.__class__"))/\
 specialIn K (.builtin "object.__class__") "__get__"=some (some (.builtin "getset_descriptor.__get__"))/\takesIn K (.builtin "object.__class__")=some true/\mroIn K C (.type "object")=some true/\(∀f∈fs,findIn K (.ref C) f=some none)/\
 K.lookup fI=some ⟨oc,od,.func (fnOf "__init__" (nm++".__init__") (dA s) (dB s) (dS s) .none kV dc pm an cd ct),sl⟩/\codeIn K cd (nm++".__init__")=true/\keepIn K (.ref fI)=true
section
variable{K:Frag}{nm:Str}{s:Stmt}{fs:List Str}{C fI N:Addr}{nm' q:Str}{bs bm sub:List Value}{sn:List Str}{ab:Bool}{col:Option Bool}{dd od an:Option Addr}{k0 k1 k2 k3 k5:Option Value}{oc kV dc pm cd ct:Value}{sl:Array (Option Value)}
def na0:∀f∈([]:List Str),findIn K (.ref C) f=some none:=λ_ h=>nomatch h
def na1{f:Str}(h:findIn K (.ref C) f=some none)(r:∀f∈fs,findIn K (.ref C) f=some none):∀g∈f::fs,findIn K (.ref C) g=some none:=λg hg=>by
 rcases mem_cons.mp hg with rfl|hg
 .exact h
 .exact r g hg
def ecI(a:nsIn K mainGlobals nm=some (some (.ref C)))(b:L2.clsAt K nm=some C)(c:K.lookup C=some (excClassObj nm' q C N bs bm true sn sub ab col dd k0 k1 k2 k3 k5 "ValueError.__new__"))(d:ovB bm=true)(e:findIn K (.ref C) "__init__"=some (some (.ref fI)))(f:isFn K (.ref fI)=true)(g:keepIn K (.ref C)=true)
 (h:findIn K (.ref C) "__setattr__"=some (some (.builtin "object.__setattr__"))) (i:findIn K (.ref C) "__getattribute__"=some (some (.builtin "BaseException.__getattribute__"))) (j:findIn K (.ref C) "__getattr__"=some none) (k:findIn K (.ref C) "__class__"=some (some (.builtin "object.__class__")))
 (l:specialIn K (.builtin "object.__class__") "__get__"=some (some (.builtin "getset_descriptor.__get__"))) (m:takesIn K (.builtin "object.__class__")=some true) (n:mroIn K C (.type "object")=some true) (o:∀f∈fs,findIn K (.ref C) f=some none)
 (p:K.lookup fI=some ⟨oc,od,.func (fnOf "__init__" (nm++".__init__") (dA s) (dB s) (dS s) .none kV dc pm an cd ct),sl⟩) (r:codeIn K cd (nm++".__init__")=true) (t:keepIn K (.ref fI)=true):Ec K nm s fs C:=
 ⟨fI,N,nm',q,bs,bm,sub,sn,ab,col,dd,od,an,k0,k1,k2,k3,k5,oc,kV,dc,pm,cd,ct,sl,a,b,c,d,e,f,g,h,i,j,k,l,m,n,o,p,r,t⟩
end
end Ea
namespace Hl
open PySem PySem.W PyProof.Rows
def OI(p:Program)(w:World)(m:Nat)(ann:Option Value):Nat->SharedT->Thread->Option SharedT
 |0,_,_=>none
 |n+1,s,t=>match through t with
  |true=>some s
  |false=>match stepOk m ann t with
   |false=>none
   |true=>match stepT (denote treeTable) p w s t with
    |some (s',t')=>OI p w m ann n s' t'
    |none=>none
def NK{p:Program}{w:World}{m:Nat}{ann:Option Value}:∀{n:Nat} {s s':SharedT} {t:Thread},OI p w m ann n s t=some s'->topRun treeTable p w m ann n s.abs t=some s'.abs
 |0,_,_,_,h=>by cases h
 |n+1,s,s',t,h=>by
  rw[OI]at h;rw[topRun];cases h1:through t with
  |true=>rw[h1]at h;cases h;rfl
  |false=>
   rw[h1]at h;cases h2:stepOk m ann t with
   |false=>rw[h2]at h;cases h
   |true=>
    rw[h2]at h;cases h3:stepT (denote treeTable) p w s t with
    |none=>rw[h3]at h;cases h
    |some r=>obtain⟨s2,t2⟩:=r;rw[h3]at h;rw[stepT_spec h3];exact NK h
def U5:Nat->List Obj->BT->BT
 |_,[],t=>t
 |n,o::r,t=>U5 (n+1) r (t.ins n o)
def bT(P:Params):BT:=U5 0 (boot_heap P).objs.toList .nil
def Zw(P:Params):absHeap (bT P) 11 (boot_heap P).life=boot_heap P:=by kernel_rfl
def bx(P:Params):((boot_heap P).isNs mainGlobals,(boot_heap P).nsMap mainGlobals "__annotations__")=(true,some (.ref 6)):=by kernel_rfl
variable{p q:Program}{loose:List Str}{Xt:Shared->Bool}{α:Type}{Yf:Shared->α}{Ya:World->α}{N M:Nat}
def MQ(p q:Program)(loose:List Str)(Xt:Shared->Bool)(Yf:Shared->α)(M:Nat)(w:World)(os:OsState):=
 match OI p w 11 (some (.ref 6)) M ⟨bT w.params,11,(boot_heap w.params).life,Array.mk [],boot_drawn,boot_toks,os⟩ (topStub p)with
 | some s=>(match staticsOk (importedModules p.main.body) (boot_heap w.params) s.abs.heap&&namesBound p s.abs.heap&&gensDone s.abs&&laidKept (boot_heap w.params) s.abs.heap with
  |true=>some (openSeen q loose (importedModules p.main.body) Xt true s.abs,Yf s.abs)
  | false=>none)
 |none=>none
def left(e:opening p=plainProg p.main.scope.names)(f:∀s,fenceModules? p s=some s)(hN:Nat.ble 600 N=true)(hM:Nat.ble M N=true)(h:∀w os,MQ p q loose Xt Yf M w os=some (openGood q loose,Ya w)):LeftO p q loose Xt Yf Ya N:=λw=>by
 obtain⟨⟨hp,gs,d,k,os⟩,e1,e2⟩:=c7 (boot_open e hN f w);simp only[Prod.mk.injEq]at e2;obtain⟨rfl,rfl,rfl,rfl⟩:=e2;have hl:=h w os;unfold MQ at hl;split at hl
 .next s hs=>
  have r:=topRun_mono (N-M) _ _ _ _ (NK hs);rw[show M+(N-M)=N by have:=Nat.le_of_ble_eq_true hM;omega]at r;have ea:(SharedT.mk (bT w.params) 11 (boot_heap w.params).life (Array.mk []) boot_drawn boot_toks os).abs=⟨boot_heap w.params,Array.mk [],boot_drawn,boot_toks,os⟩:=by
   show Shared.mk (absHeap (bT w.params) 11 (boot_heap w.params).life) _ _ _ _=_;rw[Zw]
  rw[ea]at r;obtain⟨z1,z2⟩:=Prod.mk.inj (bx w.params);have z3:(boot_heap w.params).objs.size=11:=rfl;split at hl
  .next c=>
   show((fencedOpening treeTable p w N).bind (topFrom treeTable p w N)).map _=_;rw[e1,bind_some];have t:topFrom treeTable p w N ⟨boot_heap w.params,Array.mk [],boot_drawn,boot_toks,os⟩=some s.abs:=by
    unfold topFrom;dsimp only;rw[z1,z2,z3,r];show(match staticsOk (importedModules p.main.body) (boot_heap w.params) s.abs.heap&&namesBound p s.abs.heap&&gensDone s.abs&&laidKept (boot_heap w.params) s.abs.heap with|true=>some s.abs|false=>none)=_;rw[c]
   rw[t];exact hl
  .cases hl
 .cases hl
end Hl
namespace T43
open PySem PySem.W PyProof.Rows Ea
def top(i:Nat):Stmt:=PySem.Challenge.pw_benchdays_k43_whole_any_table.main.body.getD i (.Pass ⟨0,0,0,0⟩)
def vw:PySem.Program:={ PySem.Challenge.pw_benchdays_k43_whole_any_table with main:={ PySem.Challenge.pw_benchdays_k43_whole_any_table.main with body:=[1,2,3,5,6,8,9,10,11,13,14,15,16,17,18,19,20,21,22,24,25,27,28,29,30,31,32,33,34,35,36,37,38,39,40,41,42,43,44].map top } }
def Pa(K:Frag):Prop:=Zs K/\Fe K "law" (top 44)/\Fe K "same_coming" (top 8)/\Fe K "one_coming" (top 9)/\Fe K "refuse_other_costs" (top 10)/\Fe K "late_coming" (top 13)/\Fe K "weight_of" (top 11)/\Fe K "full_weight" (top 15)/\Fe K "no_more" (top 16)/\Fe K "put_behind" (top 17)/\Fe K "next_row" (top 24)/\Fe K "table_of" (top 25)/\Fe K "_law_source" (top 27)/\Fe K "_law_pick" (top 28)/\Fe K "_law_late_works" (top 29)/\Fe K "_law_by_dues" (top 31)/\Fe K "_law_sets" (top 32)/\Fe K "_law_table" (top 33)/\Fe K "_law_highest" (top 34)/\Fe K "_law_free" (top 35)/\Fe K "_law_lowered" (top 36)/\Fe K "_law_near" (top 40)/\Fe K "_law_stepped" (top 41)/\Fe K "greatest_weight" (top 18)/\Fe K "is_number" (top 5)/\Fe K "is_tuple_of" (top 6)/\Fe K "look_at_shape" (top 19)/\Fe K "look_at_row" (top 20)/\Fe K "look_at_places" (top 21)/\Fe K "lets_table" (top 22)/\Fe K "_law_let" (top 42)/\Fe K "_law_alike" (top 30)/\Fe K "_law_is_entry" (top 37)/\Fe K "_law_shape" (top 38)/\Fe K "_law_last" (top 39)/\Fe K "_law_is_so" (top 43)/\∃p5 cc0,Fl K "by_dues" (top 14) p5/\([p5]:List Addr).Nodup/\Ec K "NoPaper" (inC (top 2)) ["path","word"] cc0/\nsIn K mainGlobals "NoPaper"=some (some (.ref cc0))/\exmOne K (.ref cc0) (.ref cc0)=some true
def bh{K:Frag}{p5 cc0:Addr}(z:Zs K)(h0:Fe K "law" (top 44))(h1:Fe K "same_coming" (top 8))(h2:Fe K "one_coming" (top 9))(h3:Fe K "refuse_other_costs" (top 10))(h4:Fe K "late_coming" (top 13))(h6:Fe K "weight_of" (top 11))(h7:Fe K "full_weight" (top 15))(h8:Fe K "no_more" (top 16))(h9:Fe K "put_behind" (top 17))(h10:Fe K "next_row" (top 24))(h11:Fe K "table_of" (top 25))(h12:Fe K "_law_source" (top 27))(h13:Fe K "_law_pick" (top 28))(h14:Fe K "_law_late_works" (top 29))(h15:Fe K "_law_by_dues" (top 31))(h16:Fe K "_law_sets" (top 32))(h17:Fe K "_law_table" (top 33))(h18:Fe K "_law_highest" (top 34))(h19:Fe K "_law_free" (top 35))(h20:Fe K "_law_lowered" (top 36))(h21:Fe K "_law_near" (top 40))(h22:Fe K "_law_stepped" (top 41))(h23:Fe K "greatest_weight" (top 18))(h24:Fe K "is_number" (top 5))(h25:Fe K "is_tuple_of" (top 6))(h26:Fe K "look_at_shape" (top 19))(h27:Fe K "look_at_row" (top 20))(h28:Fe K "look_at_places" (top 21))(h29:Fe K "lets_table" (top 22))(h30:Fe K "_law_let" (top 42))(h31:Fe K "_law_alike" (top 30))(h32:Fe K "_law_is_entry" (top 37))(h33:Fe K "_law_shape" (top 38))(h34:Fe K "_law_last" (top 39))(h35:Fe K "_law_is_so" (top 43))(h5:Fl K "by_dues" (top 14) p5)(tn:([p5]:List Addr).Nodup)(ec_NoPaper:Ec K "NoPaper" (inC (top 2)) ["path","word"] cc0)(ns_NoPaper:nsIn K mainGlobals "NoPaper"=some (some (.ref cc0)))(kt0:exmOne K (.ref cc0) (.ref cc0)=some true):Pa K:=⟨z,h0,h1,h2,h3,h4,h6,h7,h8,h9,h10,h11,h12,h13,h14,h15,h16,h17,h18,h19,h20,h21,h22,h23,h24,h25,h26,h27,h28,h29,h30,h31,h32,h33,h34,h35,_,_,h5,tn,ec_NoPaper,ns_NoPaper,kt0⟩
local macro_rules | `(tactic| o_head $H) => `(tactic| (refine holds_open (r := PySem.Challenge.rw_benchdays_k43_whole_any_table.row) (q := T43.vw) (loose := []) (Xt := λ s => xlAt T43.vw [] s && recOk (RowW.records (OpenRow.toRowW PySem.Challenge.rw_benchdays_k43_whole_any_table.row)) s) (XP := XL T43.vw []) (Yf := Hook.obs $H) (Ya := Hook.val $H) (YP := Hook.says $H) (N := 100000) ?hl (Hook.of $H) (Hook.keeps $H) (λ s e => xl_of s (Bool.and_eq_true_iff.mp e).1) XL.keeps (by rfl) (by rfl) (by rfl) (λ s e => recFacts_of (Bool.and_eq_true_iff.mp e).2) (by rfl) (by first | assumption | decide +kernel) (by decide +kernel) ⟨rfl, rfl, rfl, rfl, rfl, by decide +kernel⟩ ?hw ?hc; (case hl => exact Hl.left (M := 10000) (by rfl) (λ s => by rfl) (by decide) (by decide) λ w os => by kernel_rfl)))
set_option maxRecDepth 100000 in
set_option maxHeartbeats 0 in
def early(hG:∀(K:Params->Frag),(∀w:World,Pa (K w.params))->∀d:DefRec,d.name="law"->d.params.defaults=[]->WalkO T43.vw [] (XL T43.vw []) (λw h=>(K w.params).In h) PySem.Challenge.rw_benchdays_k43_whole_any_table.row.toRowW d [] (λf vs=>PySem.call f vs)):PySem.Challenge.rw_benchdays_k43_whole_any_table.Holds:=by
 w_on;o_law;k_head;(case hw=>w_witness2)
 k_fill
 refine λw s₀ s₁ mg mb G Y=>hG _ ?F _ rfl rfl w s₀ s₁ mg mb G (km_in_of Y)
 case F=>
  intro w;refine' bh ?z ?h0 ?h1 ?h2 ?h3 ?h4 ?h6 ?h7 ?h8 ?h9 ?h10 ?h11 ?h12 ?h13 ?h14 ?h15 ?h16 ?h17 ?h18 ?h19 ?h20 ?h21 ?h22 ?h23 ?h24 ?h25 ?h26 ?h27 ?h28 ?h29 ?h30 ?h31 ?h32 ?h33 ?h34 ?h35 ?h5 ?tn ?ec_NoPaper ?ns_NoPaper ?kt0
  case z=>(refine' zs1 _ (zs1 _ (zs1 _ (zs1 _ (zs1 _ (zs1 _ (zs1 _ (zs1 _ (zs1 _ (zs1 _ (zs1 _ (zs1 _ (zs1 _ (zs1 _ (zs1 _ (zs1 _ (zs1 _ (zs1 _ (zs1 _ (zs1 _ (zs1 _ (zs0)))))))))))))))))))))<;>k_is)
  case h0|h1|h2|h3|h4|h6|h7|h8|h9|h10|h11|h12|h13|h14|h15|h16|h17|h18|h19|h20|h21|h22|h23|h24|h25|h26|h27|h28|h29|h30|h31|h32|h33|h34|h35=>(refine' feI ?a ?l ?c ?k;case a|l|c|k=>k_is)
  case h5=>(refine' flI ?a ?l ?c ?k ?u ?t ?v;(case a|l|c|k=>k_is);(case u=>rfl);(case t=>k_is);(case v=>rfl))
  case tn=>decide
  case ec_NoPaper=>(refine' ecI ?a ?b ?c ?d ?e ?f ?g ?h ?i ?j ?k ?l ?m ?n (na1 ?o1 (na1 ?o0 (na0))) ?p ?r ?t;(case a=>k_is);(case c=>k_is);(case d=>decide);(case e=>k_is);(case p=>k_is);(case b=>kernel_rfl);(case f|g|h|i|j|k|l|m|n|o0|o1|r|t=>k_is))
  case ns_NoPaper|kt0=>first|k_is|kernel_rfl
end T43
namespace L2
open PySem PySem.Spec PyProof.Rows
abbrev Key:=Sum Int Str
def Hs:Key->Value->Bool
 |.inl k,v=>Value.isInt k v
 |.inr x,v=>Value.isStrOf x v
def bg(w:World):Key->Int
 |.inl k=>hashInt k
 |.inr x=>hashStr w x
def Bb:∀{k:Key} {v:Value},Hs k v=true->(∃i t,k=Sum.inl i/\v=Value.int i t)∨(∃x t,k=Sum.inr x/\v=Value.str x t)
 |.inl i,v,h=>by
  obtain⟨t,e⟩:=Value.isInt_shape (k:=i) (v:=v) h;exact .inl ⟨i,t,rfl,e⟩
 |.inr x,v,h=>by
  obtain⟨t,e⟩:=Value.isStrOf_shape (x:=x) (v:=v) h;exact .inr ⟨x,t,rfl,e⟩
def Qs(i:Int)(t:Tok):Hs (.inl i) (.int i t)=true:=by simp[Hs,Value.isInt]
def Qr(x:Str)(t:Tok):Hs (.inr x) (.str x t)=true:=by simp[Hs,Value.isStrOf]
def ZY(a b:Int):decide ((Sum.inl a:Key)=Sum.inl b)=(a==b):=by
 by_cases e:a=b
 .subst e;simp
 .have h:¬ (Sum.inl a:Key)=Sum.inl b:=λq=>e (Sum.inl.inj q);rw[decide_eq_false h];exact(beq_eq_false_iff_ne.mpr e).symm
def ZV(a b:Str):decide ((Sum.inr a:Key)=Sum.inr b)=decide (a=b):=by
 by_cases e:a=b
 .subst e;simp
 .have h:¬ (Sum.inr a:Key)=Sum.inr b:=λq=>e (Sum.inr.inj q);rw[decide_eq_false h,decide_eq_false e]
def ZX(a:Int)(b:Str):decide ((Sum.inl a:Key)=Sum.inr b)=false:=decide_eq_false (λq=>nomatch q)
def ZW(a:Str)(b:Int):decide ((Sum.inr a:Key)=Sum.inl b)=false:=decide_eq_false (λq=>nomatch q)
def BP(prog:Program)(w:World):PySem.KeyKind prog w Key where
 is:=Hs
 hash:=bg w
 inj:=λv a b ha hb=>by
  rcases Bb ha with⟨i,t,rfl,rfl⟩|⟨x,t,rfl,rfl⟩
  .rcases Bb hb with⟨j,u,rfl,e⟩|⟨y,u,rfl,e⟩
   .injection e with e1 _;rw[e1]
   .exact nomatch e
  .rcases Bb hb with⟨j,u,rfl,e⟩|⟨y,u,rfl,e⟩
   .exact nomatch e
   .injection e with e1 _;rw[e1]
 byValue:=λk v h=>by
  rcases Bb h with⟨i,t,rfl,rfl⟩|⟨x,t,rfl,rfl⟩<;>rfl
 pyHash:=λhv h=>by
  rcases Bb hv with⟨i,t,rfl,rfl⟩|⟨x,t,rfl,rfl⟩
  .exact wpAny_pyHash_int h
  .exact wpAny_pyHash_str h
 eqBool:=λhu hv h=>by
  rcases Bb hu with⟨i,t,rfl,rfl⟩|⟨x,t,rfl,rfl⟩
  .rcases Bb hv with⟨j,u,rfl,rfl⟩|⟨y,u,rfl,rfl⟩
   .rw[ZY]at h;exact wpAny_eqBool_int h
   .rw[ZX]at h;exact SeqAt.EqAt.int_str i t y u _ _ _ _ h
  .rcases Bb hv with⟨j,u,rfl,rfl⟩|⟨y,u,rfl,rfl⟩
   .rw[ZW]at h;exact SeqAt.EqAt.str_int x t j u _ _ _ _ h
   .rw[ZV]at h;exact wpAny_eqBool_str h
 «strs»:=λk x t v h=>by
  rcases Bb h with⟨i,u,rfl,e⟩|⟨y,u,rfl,e⟩
  .exact nomatch e
  .injection e with e1 _
   subst e1;cases v<;>rfl
def N7(prog:Program)(w:World)(i:Int)(t:Tok):(BP prog w).is (.inl i) (.int i t)=true:=Qs i t
def N6(prog:Program)(w:World)(x:Str)(t:Tok):(BP prog w).is (.inr x) (.str x t)=true:=Qr x t
inductive V where
 |non|bl (b:Bool)|int (i:Int)|str (x:Str)|byt (b:Array UInt8)|flt (b:UInt64)|ref (a:Addr)|ty (n:String)
 deriving DecidableEq
def RelV:V->Value->Prop
 |.non,u=>u=Value.none
 |.bl b,u=>u=Value.bool b
 |.int i,u=>∃t,u=Value.int i t
 |.str x,u=>∃t,u=Value.str x t
 |.byt b,u=>∃t,u=Value.bytes b t
 |.flt b,u=>∃t,u=Value.float b t
 |.ref a,u=>u=Value.ref a
 |.ty n,u=>u=Value.type n
abbrev Vals:List V->List Value->Prop:=Paired RelV
def Vals.length{xs:List V}{us:List Value}(r:Vals xs us):xs.length=us.length:=Paired.length r
def Vals.get:∀{xs:List V} {us:List Value} {i:Nat} {x:V},Vals xs us->xs[i]?=some x->∃u,us[i]?=some u/\RelV x u
 |_,_,_,_,.nil,e=>by simp at e
 |_,_,0,_,.cons r _,e=>by simp at e;subst e;exact⟨_,rfl,r⟩
 |_,_,i+1,x,.cons _ t,e=>by
  obtain⟨u,h1,h2⟩:=Vals.get (i:=i) (x:=x) t (by simpa using e);exact⟨u,by simpa using h1,h2⟩
def Vals.set{x:V}{u:Value}(r:RelV x u):∀{xs:List V} {us:List Value} (i:Nat),Vals xs us->Vals (xs.set i x) (us.set i u)
 |_,_,_,.nil=>.nil
 |_,_,0,.cons _ t=>.cons r t
 |_,_,i+1,.cons q t=>.cons q (Vals.set r i t)
def Vals.append:∀{xs ys:List V} {us ws:List Value},Vals xs us->Vals ys ws->Vals (xs++ys) (us++ws)
 |_,_,_,_,.nil,s=>s
 |_,_,_,_,.cons r t,s=>.cons r (Vals.append t s)
def Vals.take:∀{xs:List V} {us:List Value} (n:Nat),Vals xs us->Vals (xs.take n) (us.take n)
 |_,_,0,_=>.nil
 |_,_,_+1,.nil=>.nil
 |_,_,n+1,.cons r t=>.cons r (Vals.take n t)
def Vals.drop:∀{xs:List V} {us:List Value} (n:Nat),Vals xs us->Vals (xs.drop n) (us.drop n)
 |_,_,0,r=>r
 |_,_,_+1,.nil=>.nil
 |_,_,n+1,.cons _ t=>Vals.drop n t
def RelO:Option V->Option Value->Prop
 |some v,some u=>RelV v u
 |none,none=>True
 |_,_=>False
def KV{κ:Type}:List (κ×V)->List (κ×Value)->Prop:=Paired λ(p:κ×V) (q:κ×Value)=>p.1=q.1/\RelV p.2 q.2
def kV:Key->V
 |.inl i=>.int i
 |.inr x=>.str x
inductive HO where
 /-- a list -/
 |lst (xs:List V)
 /-- a tuple (never changes) -/
 |tup (xs:List V)
 /-- a dict whose keys are ints and texts;one whose keys are tuples of ints and texts (the empty one is both) -/
 |dK (kvs:List (Key×V))|dT (kvs:List (List Key×V))
 /-- a set of ints: its members,its size -/
 |set (S:Int->Bool) (n:Nat)
 /-- an instance of the class at C,its dict at dx,its attributes -/
 |ins (C dx:Addr) (fs:List (Str×V))
 /-- the dict of the instance at x -/
 |own (x:Addr)
 /-- the dict of an exception -/
 |xd (fs:List (Str×V))
 /-- a bound method,f of x -/
 |met (f x:Addr)
 /-- a range object lo,lo+1,.. LJ hi -/
 |rng (lo hi:Int)
 /-- a thing that is known to the object (the script;a dict while a loop walks it): read,never written while it is so -/
 |frz (o:Obj) (u:HO)
 /-- a code object's table -/
 |tbl (ps:Array Value)
 /-- any other thing,by what is true of its one object (a def of one's own: SetO a S n:=HO.ext λh=>..) -/
 |ext (φ:Heap->Prop)
abbrev Hp:=Addr->Option HO
def upd(H:Hp)(a:Addr)(o:HO):Hp:=λb=>if b=a then some o else H b
def AJ{H:Hp}{a:Addr}{o:HO}:upd H a o a=some o:=by unfold upd;rw[if_pos rfl]
def AC{H:Hp}{a b:Addr}{o:HO}(h:b≠a):upd H a o b=H b:=by unfold upd;rw[if_neg h]
def ak{H:Hp}{a b:Addr}{o u:HO}(h:H a=some o)(h':H b=some u)(d:o≠u):a≠b:=by
 intro e;subst e;rw[h]at h';exact d (Option.some.inj h')
def AY{H:Hp}{a b:Addr}{o:HO}(h:H a=some o)(h':H b=none):a≠b:=by
 intro e;subst e;rw[h]at h';cases h'
def IsTupD(h:Heap)(a:Addr)(items:Array Value):Prop:=∃o,h.get? a=some o/\o.cls=.type "tuple"/\(∃n,o.data=.seq items n)/\o.dict=none
def IsTupD.t{h:Heap}{a:Addr}{items:Array Value}(x:IsTupD h a items):IsTup h a items:=let ⟨o,e,c,d,_⟩:=x;⟨o,e,c,d⟩
def IsTupD.new(h:Heap)(items:Array Value):IsTupD (h.push { cls:=.type "tuple",data:=.seq items }) h.objs.size items:=⟨_,Heap.get?_push_size _ rfl,rfl,⟨_,rfl⟩,rfl⟩
section
variable(P:Program)(w:World)
def ObjOk(H:Hp)(h:Heap)(a:Addr):HO->Prop
 |.lst xs=>xs.length<=sizeLine/\∃(its:List Value) (n:Nat),Vals xs its/\h.get? a=some { cls:=.type "list",data:=.seq its.toArray n }
 |.tup xs=>xs.length<=sizeLine/\∃its:List Value,Vals xs its/\IsTupD h a its.toArray
 |.dK kvs=>kvs.length<=sizeLine/\(a==sysModules)=false/\∃vs,KV kvs vs/\h.DictOf (BP P w) a vs
 |.dT kvs=>kvs.length<=sizeLine/\(a==sysModules)=false/\∃xs:List (List Key×Addr×Value),
  Paired (λ(p:List Key×V) (q:List Key×Addr×Value)=>p.1=q.1/\H q.2.1=some (.tup (p.1.map kV))/\RelV p.2 q.2.2) kvs xs /\
  ∃o es ep,h.get? a=some o/\o.ExactDict/\o.data=.dict es ep/\es.toList=xs.map (entryOfKey (tupleKind (BP P w)))/\(xs.map (·.1)).Nodup
 |.set S n=>h.SetOf (intKind P w) a S n
 |.ins C dx fs=>H dx=some (.own a)/\fs.length<=1000/\dx≠a/\h.get? a=some (PySem.W.instObj C dx)/\
  ∃mA,h.Ns1 dx mA/\(∀f,RelO (fs.lookup f) (mA f))/\PySem.Within mA (fs.map (·.1))
 |.own _=>∃o,h.get? a=some o
 |.xd fs=>∃mA,h.Ns1 a mA/\∀f,RelO (fs.lookup f) (mA f)
 |.rng lo hi=>∃t u v,h.get? a=some { cls:=.type "range",data:=.fields #[.int lo t,.int hi u,.int 1 v] }
 |.frz o u=>h.get? a=some o/\ObjOk H h a u
 |.tbl ps=>h.get? a=some { cls:=.none,data:=.fields ps }
 |.met f x=>h.get? a=some (PySem.W.methodObj (.ref f) (.ref x))
 |.ext φ=>φ h/\(∃o,h.get? a=some o)/\∀h1 h2:Heap,φ h1->(∀o,h1.get? a=some o->h2.get? a=some o)->φ h2
def HOk(H:Hp)(h:Heap):Prop:=∀a o,H a=some o->ObjOk P w H h a o
end
section
variable{P:Program}{w:World}{H H':Hp}{h h':Heap}{a:Addr}{o:HO}
def ObjOk.lt(x:ObjOk P w H h a o):a<h.objs.size:=by
 cases o with
 |lst xs=>obtain⟨_,_,_,_,e⟩:=x;exact Heap.lt_size e
 |tup xs=>obtain⟨_,_,_,o,e,_⟩:=x;exact Heap.lt_size e
 |dK kvs=>obtain⟨_,_,_,_,o,_,_,e,_⟩:=x;exact Heap.lt_size e
 |dT kvs=>obtain⟨_,_,_,_,o,_,_,e,_⟩:=x;exact Heap.lt_size e
 |set S n=>obtain⟨o,_,_,_,e,_⟩:=x;exact Heap.lt_size e
 |ins C dx fs=>obtain⟨_,_,_,e,_⟩:=x;exact Heap.lt_size e
 |own y=>obtain⟨_,e⟩:=x;exact Heap.lt_size e
 |xd fs=>obtain⟨_,⟨_,_,_,e,_⟩,_⟩:=x;exact Heap.lt_size e
 |rng lo hi=>obtain⟨_,_,_,e⟩:=x;exact Heap.lt_size e
 |frz ob u=>obtain⟨e,_⟩:=x;exact Heap.lt_size e
 |tbl ps=>exact Heap.lt_size (show h.get? a=some _ from x)
 |met f y=>exact Heap.lt_size (show h.get? a=some _ from x)
 |ext φ=>obtain⟨_,⟨_,e⟩,_⟩:=x;exact Heap.lt_size e
def Paired.mapP{α β:Type}{F G:α->β->Prop}:∀{l₁:List α} {l₂:List β},Paired F l₁ l₂->(∀a b,F a b->G a b)->Paired G l₁ l₂
 |_,_,.nil,_=>.nil
 |_,_,.cons r t,f=>.cons (f _ _ r) (Paired.mapP t f)
def ObjOk.stay(x:ObjOk P w H h a o)(k:∀b u,(b=a∨H b=some (.own a))->h.get? b=some u->h'.get? b=some u)
 (ho:∀b,H b=some (.own a)->H' b=some (.own a)) (ht:∀b xs,H b=some (.tup xs)->H' b=some (.tup xs)):ObjOk P w H' h' a o:=by
 induction o with
 |lst xs=>obtain⟨z,its,n,r,e⟩:=x;exact⟨z,its,n,r,k _ _ (.inl rfl) e⟩
 |tup xs=>obtain⟨z,its,r,ob,e,c⟩:=x;exact⟨z,its,r,ob,k _ _ (.inl rfl) e,c⟩
 |dK kvs=>obtain⟨z,y,vs,r,ob,es,ep,e,c⟩:=x;exact⟨z,y,vs,r,ob,es,ep,k _ _ (.inl rfl) e,c⟩
 |dT kvs=>
  obtain⟨z,y,xs,r,ob,es,ep,e,c⟩:=x;exact⟨z,y,xs,Paired.mapP r λp q z=>⟨z.1,ht _ _ z.2.1,z.2.2⟩,ob,es,ep,k _ _ (.inl rfl) e,c⟩
 |set S n=>obtain⟨ob,es,ep,t,e,c⟩:=x;exact⟨ob,es,ep,t,k _ _ (.inl rfl) e,c⟩
 |ins C dx fs=>
  obtain⟨d,z,ne,e,mA,⟨od,es,ep,e2,c⟩,r⟩:=x;exact⟨ho _ d,z,ne,k _ _ (.inl rfl) e,mA,⟨od,es,ep,k _ _ (.inr d) e2,c⟩,r⟩
 |own y=>obtain⟨ob,e⟩:=x;exact⟨ob,k _ _ (.inl rfl) e⟩
 |xd fs=>obtain⟨mA,⟨od,es,ep,e,c⟩,r⟩:=x;exact⟨mA,⟨od,es,ep,k _ _ (.inl rfl) e,c⟩,r⟩
 |rng lo hi=>obtain⟨t,u,v,e⟩:=x;exact⟨t,u,v,k _ _ (.inl rfl) e⟩
 |frz ob u ih=>obtain⟨e,q⟩:=x;exact⟨k _ _ (.inl rfl) e,ih q⟩
 |tbl ps=>
  have e:h.get? a=some { cls:=.none,data:=.fields ps }:=x;show h'.get? a=some { cls:=.none,data:=.fields ps };exact k a _ (.inl rfl) e
 |met f y=>
  have e:h.get? a=some (PySem.W.methodObj (.ref f) (.ref y)):=x;show h'.get? a=some (PySem.W.methodObj (.ref f) (.ref y));exact k a _ (.inl rfl) e
 |ext φ=>obtain⟨p,⟨o,e⟩,st⟩:=x;exact⟨st _ _ p λo q=>k _ _ (.inl rfl) q,⟨o,k _ _ (.inl rfl) e⟩,st⟩
def HOk.lt(x:HOk P w H h)(e:H a=some o):a<h.objs.size:=(x a o e).lt
def HOk.fresh(x:HOk P w H h)(e:h.objs.size<=a):H a=none:=by
 cases q:H a with
 |none=>rfl
 |some u=>exact absurd (lt_of_lt_of_le (x.lt q) e) (lt_irrefl _)
def HOk.kept(x:HOk P w H h)(k:∀b u,h.get? b=some u->h'.get? b=some u):HOk P w H h':=λa o e=>
 (x a o e).stay (λb u _ q=>k b u q) (λ_ q=>q) λ_ _ q=>q
def HOk.laid(x:HOk P w H h)(k:∀b u,h.get? b=some u->h'.get? b=some u)(hp:h.objs.size<=a)(new:ObjOk P w (upd H a o) h' a o):HOk P w (upd H a o) h':=λb u e=>by
 have hn:=x.fresh hp;by_cases hb:b=a
 .subst hb;rw[AJ]at e;cases e;exact new
 .rw[AC hb]at e;exact(x b u e).stay (λc v _ q=>k c v q) (λc q=>by rw[AC (AY q hn)];exact q) λc xs q=>by rw[AC (AY q hn)];exact q
end
def Rd(H:Hp)(a:Addr)(u:HO):Prop:=H a=some u∨∃o,H a=some (.frz o u)
def Rd.ok{P:Program}{w:World}{H:Hp}{h:Heap}{a:Addr}{u:HO}(r:Rd H a u)(x:HOk P w H h):ObjOk P w H h a u:=by
 rcases r with r|⟨o,r⟩
 .exact x a u r
 .obtain⟨_,q⟩:=x a _ r;exact q
def Mut:Option HO->Prop
 |some (.lst _)=>True
 |some (.dK _)=>True
 |some (.dT _)=>True
 |some (.set _ _)=>True
 |some (.ins _ _ _)=>True
 |some (.ext _)=>True
 |_=>False
section
variable{P:Program}{w:World}{H:Hp}{h h':Heap}{x e:Addr}{o':HO}
def HOk.write(ok:HOk P w H h)(mu:Mut (H x))(he:e=x∨H e=some (.own x))(k:∀b u,b≠e->h.get? b=some u->h'.get? b=some u)(heo:∃u,h'.get? e=some u)
 (new:ObjOk P w (upd H x o') h' x o'):HOk P w (upd H x o') h':=λb u q=>by
 have nown:∀c y,H c=some (.own y)->c≠x:=λc y r z=>by subst z;rw[r]at mu;exact mu
 have ntup:∀c xs,H c=some (.tup xs)->c≠x:=λc xs r z=>by subst z;rw[r]at mu;exact mu
 by_cases hb:b=x
 .subst hb;rw[AJ]at q;cases q;exact new
 .rw[AC hb]at q;by_cases hbe:b=e
  .have q':H b=some (.own x):=by
    rcases he with z|z
    .exact absurd (hbe.trans z) hb
    .rw[hbe];exact z
   rw[q]at q';cases q';obtain⟨v,hv⟩:=heo;exact⟨v,by rw[hbe];exact hv⟩
  .refine(ok b u q).stay (λc v hc r=>k c v ?_ r) (λc r=>by rw[AC (nown c b r)];exact r) λc xs r=>by rw[AC (ntup c xs r)];exact r
   rcases hc with rfl|hc
   .exact hbe
   .rintro rfl;rcases he with z|z
    .exact nown c b hc z
    .rw[hc]at z;cases z;exact hb rfl
end
structure Un(fs ex:List Addr)(H H':Hp)(h h':Heap):Prop where
 keep:∀b o,h.get? b=some o->H b=none->b∉fs->b∉ex->h'.get? b=some o
 slot:∀b o,h.get? b=some o->H b=none->b∈fs->b∉ex->∃sl,h'.get? b=some { o with slots:=sl }
 free:∀b o,h.get? b=some o->H b=none->b∉ex->H' b=none
 there:∀b o,h.get? b=some o->b∉ex->∃o',h'.get? b=some o'
 tups:∀b xs,H b=some (.tup xs)->H' b=some (.tup xs)
 frzs:∀b o u,H b=some (.frz o u)->H' b=some (.frz o u)
 tbls:∀b ps,H b=some (.tbl ps)->∃more,H' b=some (.tbl (ps++more))
section
variable{fs fs' ex ex':List Addr}{H H1 H2:Hp}{h h1 h2 h':Heap}{a x e:Addr}{o:HO}
def Un.any(u:Un fs ex H H1 h h1){b:Addr}{ob:Obj}(q:h.get? b=some ob)(n:H b=none)(hx:b∉ex):∃sl,h1.get? b=some { ob with slots:=sl }:=by
 by_cases hb:b∈fs
 .exact u.slot b ob q n hb hx
 .exact⟨ob.slots,u.keep b ob q n hb hx⟩
def Un.kept(k:∀b u,h.get? b=some u->h'.get? b=some u):Un fs ex H H h h':=
 ⟨λb ob q _ _ _=>k b ob q,λb ob q _ _ _=>⟨ob.slots,k b ob q⟩,λ_ _ _ n _=>n,λb ob q _=>⟨ob,k b ob q⟩,λ_ _ q=>q,λ_ _ _ q=>q,λ_ ps q=>⟨#[],by rw[q];simp⟩⟩
def Un.refl:Un fs ex H H h h:=Un.kept λ_ _ q=>q
def Un.laid(k:∀b u,h.get? b=some u->h'.get? b=some u)(hp:h.objs.size<=a)(hn:H a=none):Un fs ex H (upd H a o) h h' where
 keep:=λb u q _ _ _=>k b u q
 slot:=λb u q _ _ _=>⟨u.slots,k b u q⟩
 free:=λb u q n _=>by rw[AC (ne_of_lt (lt_of_lt_of_le (Heap.lt_size q) hp))];exact n
 there:=λb u q _=>⟨u,k b u q⟩
 tups:=λb xs q=>by rw[AC (AY q hn)];exact q
 frzs:=λb u xs q=>by rw[AC (AY q hn)];exact q
 tbls:=λb ps q=>⟨#[],by rw[AC (AY q hn),q];simp⟩
def Un.write(mu:Mut (H x))(he:e=x∨H e=some (.own x))(k:∀b u,b≠e->h.get? b=some u->h'.get? b=some u)(heo:∃u,h'.get? e=some u):Un fs ex H (upd H x o) h h':=by
 have hx:∀b,H b=none->b≠x:=λb n z=>by subst z;rw[n]at mu;exact mu
 have hb:∀b,H b=none->b≠e:=λb n z=>by
  subst z;rcases he with r|r
  .exact hx b n r
  .rw[n]at r;cases r
 have hm:∀b u,H b=some u->¬ Mut (some u)->b≠x:=λb u q nm z=>by subst z;rw[q]at mu;exact nm mu
 refine⟨λb u q n _ _=>k b u (hb b n) q,λb u q n _ _=>⟨u.slots,k b u (hb b n) q⟩,λb u q n _=>by rw[AC (hx b n)];exact n,λb u q _=>?_,
  λb xs q=>by rw[AC (hm b _ q λz=>z)];exact q,λb u xs q=>by rw[AC (hm b _ q λz=>z)];exact q,λb ps q=>⟨#[],by rw[AC (hm b _ q λz=>z),q];simp⟩⟩
 by_cases hbe:b=e
 .subst hbe;exact heo
 .exact⟨u,k b u hbe q⟩
end
def trk(h:Heap)(H:Hp):List Addr:=(List.range h.objs.size).filter λa=>(H a).isSome
def GI(h:Heap)(H:Hp):Heap:=PySem.W.hideAll h (trk h H)
def Qw(h:Heap)(H:Hp):(GI h H).objs.size=h.objs.size:=PySem.W.hideAll_size _ _
def TZ{h:Heap}{H:Hp}{b:Addr}{o:Obj}(e:h.get? b=some o)(n:H b=none):(GI h H).get? b=some o:=
 PySem.W.hideAll_get _ e λhm=>by
  have q:(H b).isSome=true:=(mem_filter.mp hm).2;rw[n]at q;simp at q
def WY{h:Heap}{H:Hp}{b:Addr}{o:Obj}(e:(GI h H).get? b=some o):h.get? b=some o/\H b=none:=by
 have e':h.get? b=some o:=PySem.W.of_hideAll (trk h H) e;refine⟨e',?_⟩;cases q:H b with
 |none=>rfl
 |some x=>
  have hm:b∈trk h H:=mem_filter.mpr ⟨mem_range.mpr (Heap.lt_size e'),by simp[q]⟩;have z:(GI h H).get? b=none:=PySem.W.hideAll_none (trk h H) hm;rw[z]at e;cases e
def X9(g h:Heap)(L:Addr):List (Addr×Obj):=(List.range h.objs.size).filterMap λa=>if a=L∨(g.get? a).isSome=true then none else(h.get? a).map λo=>(a,o)
def rest(g h:Heap)(L d:Addr):List (Addr×Obj):=(X9 g h L).filter λp=>decide (p.1≠d)
structure Mod(K:PySem.W.Frag)(mg:Str->Option Value)(base:Heap):Prop where
 kin:K.In base
 glob:base.Ns mainGlobals mg
 blt:∃mb,base.Ns builtinsNs mb/\∀x:Str,x≠"__name__"->mb x=bootBuiltins x
 nolimit:base.NoLimit
structure Cx where
 prog:Program
 w:World
 K:PySem.W.Frag
 mg:Str->Option Value
 base:Heap
 A:Around
 N:List Str
 s₀:Shared
 H₀:Hp
 env:Env
 outer:List Env
 stack:List Env
 ex:List Addr
 fn:Str->Bool
 calm:Bool
 pn:List (Addr×Obj)
 xe:Value->Shared->Prop
def frs(l:List Env):List Addr:=l.filterMap (·.frame)
abbrev Cx.fs(X:Cx):List Addr:=frs X.outer
def Vis(sc:Scope)(x:Str):Prop:=sc.names.lookup x=some .local∨sc.names.lookup x=some .cell∨sc.names.lookup x=some .free
def Loc(sc:Scope)(x:Str):Prop:=sc.names.lookup x=some .local∨sc.names.lookup x=some .cell
def cB(env:Env)(h:Heap)(m:Str->Option Value)(x:Str)(u:Value):Prop:=
 (env.kindOf x=some .local/\m x=some u)∨((env.kindOf x=some .cell∨env.kindOf x=some .free)/\∃c,env.cells.lookup x=some c/\h.IsCell c (some u))
structure Cx.Ok(X:Cx):Prop where
 mod:Mod X.K X.mg X.base
 kind:X.env.scope.kind=.function
 glob:X.env.globals=mainGlobals
 blt:X.env.builtins=builtinsNs
 above:X.s₀.heap.objs.size<=X.env.locals
 inj:∀x y c,X.env.cells.lookup x=some c->X.env.cells.lookup y=some c->x=y
 has:∀x,(X.env.kindOf x=some .cell∨X.env.kindOf x=some .free)->∃c,X.env.cells.lookup x=some c
 cab:∀x c,X.fn x=true->X.env.cells.lookup x=some c->X.s₀.heap.objs.size<=c
 hd:X.calm=true->X.A.handled=none
 frames:X.A.frames=some X.stack
 stk:X.stack=X.outer∨(X.stack=X.env::X.outer/\X.env.frame=some X.env.locals)
 exf:∀b∈X.ex,b≠X.env.locals/\∀x c,X.env.cells.lookup x=some c->c≠b
 bs:∀b o,X.base.get? b=some o->X.s₀.heap.get? b=some o/\X.H₀ b=none
 bsz:X.base.objs.size<=X.s₀.heap.objs.size
 noex:∀b o,X.base.get? b=some o->b∉X.ex
 exfs:∀b∈X.ex,b∉X.fs
 funs:X.s₀.heap.FunFrames X.base X.outer
 frf:∀b∈X.fs,X.H₀ b=none
structure Inv(X:Cx)(pins:List (Addr×Obj))(σ:List (Option V))(H:Hp)(s:Shared):Prop where
 ok:X.Ok
 os:s.os=X.s₀.os
 bare:AllBare s.gens
 base:Un X.fs X.ex X.H₀ H X.s₀.heap s.heap
 loc:∃m,s.heap.Ns X.env.locals m/\∀(i:Nat) (x:Str) (v:V),X.N[i]?=some x->σ[i]?=some (some v)->Vis X.env.scope x->∃u,RelV v u/\cB X.env s.heap m x u
 cell:∀x c,X.env.cells.lookup x=some c->∃v,s.heap.IsCell c v
 free:H X.env.locals=none
 freeC:∀x c,X.env.cells.lookup x=some c->H c=none
 pin:∀p∈X.pn++pins,s.heap.get? p.1=some p.2/\H p.1=none/\p.1≠X.env.locals/\p.1∉X.fs/\∀v,p.2.data≠.cell v
 hok:HOk X.prog X.w H s.heap
 len:σ.length=X.N.length
section
variable{X:Cx}{pins:List (Addr×Obj)}{σ:List (Option V)}{H H':Hp}{s:Shared}{h':Heap}
def Cx.Ok.nofr(ok:X.Ok){b:Addr}{o:Obj}(e:X.base.get? b=some o):b∉X.fs:=λhb=>by
 have:=(ok.funs.mem hb).1;rw[e]at this;cases this
def Inv.bs(I:Inv X pins σ H s):∀b o,X.base.get? b=some o->s.heap.get? b=some o/\H b=none:=λb o e=>
 ⟨I.base.keep b o (I.ok.bs b o e).1 (I.ok.bs b o e).2 (I.ok.nofr e) (I.ok.noex b o e),I.base.free b o (I.ok.bs b o e).1 (I.ok.bs b o e).2 (I.ok.noex b o e)⟩
def Inv.bk(I:Inv X pins σ H s):∀b o,X.base.get? b=some o->s.heap.get? b=some o:=λb o e=>(I.bs b o e).1
def Inv.mod(I:Inv X pins σ H s):Mod X.K X.mg X.base:=I.ok.mod
def Inv.kIn(I:Inv X pins σ H s):X.K.In s.heap:=I.ok.mod.kin.keeps I.bk
def Inv.nolimit(I:Inv X pins σ H s):s.heap.NoLimit:=I.ok.mod.nolimit.keeps I.bk
def Inv.fr(I:Inv X pins σ H s):∃m,Fr X.base X.env.locals s.heap m:=
 let ⟨m,hn,_⟩:=I.loc
 ⟨m,hn,I.bk,le_trans I.ok.bsz I.ok.above⟩
def Inv.lt(I:Inv X pins σ H s):X.env.locals<s.heap.objs.size:=let ⟨_,hn,_⟩:=I.loc;hn.lt
def Inv.sz(I:Inv X pins σ H s):X.s₀.heap.objs.size<=s.heap.objs.size:=le_trans I.ok.above (le_of_lt I.lt)
def Inv.nofs(I:Inv X pins σ H s){a:Addr}(h:s.heap.objs.size<=a):a∉X.fs:=λhb=>by
 obtain⟨_,o,ho,_⟩:=I.ok.funs.mem hb;exact absurd (lt_of_lt_of_le (Heap.lt_size ho) (le_trans I.sz h)) (lt_irrefl _)
def Inv.cne(I:Inv X pins σ H s):∀x c,X.env.cells.lookup x=some c->c≠X.env.locals:=λx c e z=>by
 obtain⟨v,o,ho,hd⟩:=I.cell x c e;obtain⟨m,⟨o',es,ep,ho',hd',_⟩,_⟩:=I.loc;rw[z,ho']at ho;cases ho;rw[hd']at hd;cases hd
def Inv.funs(I:Inv X pins σ H s):s.heap.FunFrames X.base X.outer:=by
 have all:∀(l:List Env),(∀b∈frs l,b∈X.fs)->X.s₀.heap.FunFrames X.base l->s.heap.FunFrames X.base l:=by
  intro l
  induction l with
  |nil=>intro _ _;trivial
  |cons env r ih=>
   intro hs hl;obtain⟨hk,⟨L,o,hf,hn,ho,hd⟩,hr⟩:=hl;have hL:L∈X.fs:=hs L (by unfold frs;rw[filterMap_cons,hf];exact mem_cons_self);obtain⟨sl,e⟩:=I.base.slot L o ho (I.ok.frf L hL) hL λz=>I.ok.exfs L z hL;exact⟨hk,⟨L,_,hf,hn,e,hd⟩,ih (λb hb=>hs b (by unfold frs;rw[filterMap_cons,hf];exact mem_cons_of_mem _ hb)) hr⟩
 exact all X.outer (λ_ hb=>hb) I.ok.funs
def Inv.stack(I:Inv X pins σ H s):s.heap.FunFrames X.base X.stack:=by
 rcases I.ok.stk with e|⟨e,hf⟩
 .rw[e];exact I.funs
 .rw[e];obtain⟨m,hn,_⟩:=I.loc;refine .cons (by rw[I.ok.kind];decide) hf hn ?_ I.funs;exact Heap.get?_none_of_le (le_trans I.ok.bsz I.ok.above)
def Inv.stkSub(I:Inv X pins σ H s):∀b∈frs X.stack,b∈X.env.locals::X.fs:=λb hb=>by
 rcases I.ok.stk with e|⟨e,hf⟩
 .rw[e]at hb;exact mem_cons_of_mem _ hb
 .rw[e]at hb;unfold frs at hb;rw[filterMap_cons,hf]at hb;exact hb
def Inv.stkFree(I:Inv X pins σ H s):∀b∈frs X.stack,H b=none:=λb hb=>by
 rcases mem_cons.mp (I.stkSub b hb)with e|hb
 .rw[e];exact I.free
 .obtain⟨_,o,ho,_⟩:=I.ok.funs.mem hb;exact I.base.free b o ho (I.ok.frf b hb) λz=>I.ok.exfs b z hb
def Inv.step{g':Array GenState}{t':Nat}{d':Drawn}{ch:List Addr}(I:Inv X pins σ H s)
 (hch:∀b∈ch,(b∈X.ex∨X.s₀.heap.objs.size<=b)/\b≠X.env.locals/\(∀x c,X.env.cells.lookup x=some c->c≠b)/\∀p∈X.pn++pins,p.1≠b)
 (keep:∀b o,b≠X.env.locals->b∉X.fs->b∉ch->s.heap.get? b=some o->H b=none->h'.get? b=some o)
 (slot:∀b o,b≠X.env.locals->b∈X.fs->b∉ch->s.heap.get? b=some o->H b=none->∃sl,h'.get? b=some { o with slots:=sl }) (free:∀b o,b∉ch->s.heap.get? b=some o->H b=none->H' b=none)
 (there:∀b o,b∉ch->s.heap.get? b=some o->∃o',h'.get? b=some o')
 (tups:∀b xs,H b=some (.tup xs)->H' b=some (.tup xs)) (frzs:∀b o u,H b=some (.frz o u)->H' b=some (.frz o u)) (tbls:∀b ps,H b=some (.tbl ps)->∃more,H' b=some (.tbl (ps++more)))
 (ns:∀m,s.heap.Ns X.env.locals m->h'.Ns X.env.locals m) (hok:HOk X.prog X.w H' h') (hg:AllBare g'):
 Inv X pins σ H' { s with heap:=h',gens:=g',drawn:=d',toks:=t' }:=by
 have neL:∀b o,X.s₀.heap.get? b=some o->b≠X.env.locals:=λb o e=>ne_of_lt (lt_of_lt_of_le (Heap.lt_size e) I.ok.above);have neC:∀b o,X.s₀.heap.get? b=some o->b∉X.ex->b∉ch:=λb o e hx hb=>by
  rcases(hch b hb).1 with z|z
  .exact hx z
  .exact absurd (lt_of_lt_of_le (Heap.lt_size e) z) (lt_irrefl _)
 have cellK:∀x c,X.env.cells.lookup x=some c->∀v,s.heap.IsCell c v->h'.IsCell c v:=λx c e v ⟨o,ho,hd⟩=>by
  have nch:c∉ch:=λz=>(hch c z).2.2.1 x c e rfl;by_cases hc:c∈X.fs
  .obtain⟨sl,q⟩:=slot c o (I.cne x c e) hc nch ho (I.freeC x c e);exact⟨_,q,hd⟩
  .exact⟨o,keep c o (I.cne x c e) hc nch ho (I.freeC x c e),hd⟩
 refine⟨I.ok,I.os,hg,⟨λb o e n hb hx=>?_,λb o e n hb hx=>?_,λb o e n hx=>?_,λb o e hx=>?_,λb xs e=>tups b xs (I.base.tups b xs e),λb o xs e=>frzs b o xs (I.base.frzs b o xs e),λb ps e=>?_⟩,?_,λx c e=>?_,?_,λx c e=>?_,λp hp=>?_,hok,I.len⟩
 .exact keep b o (neL b o e) hb (neC b o e hx) (I.base.keep b o e n hb hx) (I.base.free b o e n hx)
 .obtain⟨sl,e1⟩:=I.base.slot b o e n hb hx;obtain⟨sl',e2⟩:=slot b _ (neL b o e) hb (neC b o e hx) e1 (I.base.free b o e n hx);exact⟨sl',e2⟩
 .obtain⟨o',e1⟩:=I.base.there b o e hx;exact free b o' (neC b o e hx) e1 (I.base.free b o e n hx)
 .obtain⟨o',e1⟩:=I.base.there b o e hx;exact there b o' (neC b o e hx) e1
 .obtain⟨m1,e1⟩:=I.base.tbls b ps e;obtain⟨m2,e2⟩:=tbls b _ e1;exact⟨m1++m2,by rw[e2,Array.append_assoc]⟩
 .obtain⟨m,hn,hl⟩:=I.loc;refine⟨m,ns m hn,λi x v e1 e2 e3=>?_⟩;obtain⟨u,r,l⟩:=hl i x v e1 e2 e3;refine⟨u,r,?_⟩;rcases l with l|⟨k,c,e,z⟩
  .exact .inl l
  .exact .inr ⟨k,c,e,cellK x c e _ z⟩
 .obtain⟨v,z⟩:=I.cell x c e;exact⟨v,cellK x c e v z⟩
 .obtain⟨m,⟨o,_,_,ho,_⟩,_⟩:=I.loc;exact free _ o (λz=>(hch _ z).2.1 rfl) ho I.free
 .obtain⟨v,o,ho,hd⟩:=I.cell x c e;exact free c o (λz=>(hch c z).2.2.1 x c e rfl) ho (I.freeC x c e)
 .obtain⟨e,n,ne,nf,d⟩:=I.pin p hp;have nch:p.1∉ch:=λz=>(hch p.1 z).2.2.2 p hp rfl;exact⟨keep p.1 p.2 ne nf nch e n,free p.1 p.2 nch e n,ne,nf,d⟩
def Inv.un{t':Nat}(I:Inv X pins σ H s)(u:Un X.fs [] H H' s.heap h')(hok:HOk X.prog X.w H' h'):Inv X pins σ H' { s with heap:=h',toks:=t' }:=by
 obtain⟨m,⟨o,es,ep,ho,r⟩,_⟩:=id I.loc;obtain⟨sl,hL⟩:=u.any ho I.free (by simp);exact I.step (g':=s.gens) (d':=s.drawn) (ch:=[]) (λ_ z=>nomatch z) (λb o _ hb _ e n=>u.keep b o e n hb (by simp)) (λb o _ hb _ e n=>u.slot b o e n hb (by simp)) (λb o _ e n=>u.free b o e n (by simp)) (λb o _ e=>u.there b o e (by simp)) u.tups u.frzs u.tbls (λm' hm=>by
  obtain⟨o',es',ep',ho',r'⟩:=hm;rw[ho]at ho';cases ho';exact⟨_,es',ep',hL,r'⟩) hok I.bare
def Inv.call{g':Array GenState}{t':Nat}{d':Drawn}{ch:List Addr}(I:Inv X pins σ H s)(u:Un (frs X.stack) ch H H' s.heap h')(hok:HOk X.prog X.w H' h')(hg:AllBare g')
 (hch:∀b∈ch,(b∈X.ex∨X.s₀.heap.objs.size<=b)/\b≠X.env.locals/\(∀x c,X.env.cells.lookup x=some c->c≠b)/\∀p∈X.pn++pins,p.1≠b):
 Inv X pins σ H' { s with heap:=h',gens:=g',drawn:=d',toks:=t' }:=by
 obtain⟨m,⟨o,es,ep,ho,r⟩,_⟩:=id I.loc;obtain⟨sl,hL⟩:=u.any ho I.free λz=>(hch _ z).2.1 rfl;exact I.step (ch:=ch) hch (λb o hL hb hc e n=>u.keep b o e n (λz=>(mem_cons.mp (I.stkSub b z)).elim hL hb) hc) (λb o _ _ hc e n=>u.any e n hc) (λb o hc e n=>u.free b o e n hc) (λb o hc e=>u.there b o e hc) u.tups u.frzs u.tbls (λm' hm=>by
  obtain⟨o',es',ep',ho',r'⟩:=hm;rw[ho]at ho';cases ho';exact⟨_,es',ep',hL,r'⟩) hok hg
def Inv.turned{t':Nat}{it:Addr}(I:Inv X pins σ H s)(k:∀b o,b≠it->s.heap.get? b=some o->h'.get? b=some o)(hn:H it=none)(hL:it≠X.env.locals)
 (h1:it∈X.ex∨X.s₀.heap.objs.size<=it) (h2:∀x c,X.env.cells.lookup x=some c->c≠it) (h3:∀p∈X.pn++pins,p.1≠it):Inv X pins σ H { s with heap:=h',toks:=t' }:=by
 have nit:∀b u,H b=some u->b≠it:=λb u e z=>by rw[z,hn]at e;cases e
 refine I.step (g':=s.gens) (d':=s.drawn) (ch:=[it]) (λb hb=>?_) (λb o _ _ hc e _=>k b o (λz=>hc (by simp[z])) e) (λb o _ _ hc e _=>⟨o.slots,k b o (λz=>hc (by simp[z])) e⟩) (λ_ _ _ _ n=>n)
  (λb o hc e=>⟨o,k b o (λz=>hc (by simp[z])) e⟩) (λ_ _ e=>e) (λ_ _ _ e=>e) (λb ps e=>⟨#[],by rw[e];simp⟩) (λm hm=>?_) (λb u e=>?_) I.bare
 .have e:b=it:=by simpa using hb
  subst e;exact⟨h1,hL,h2,h3⟩
 .obtain⟨o,es,ep,ho,r⟩:=hm;exact⟨o,es,ep,k _ o (Ne.symm hL) ho,r⟩
 .refine(I.hok b u e).stay (λc v hc q=>k c v ?_ q) (λ_ q=>q) λ_ _ q=>q;rcases hc with z|z
  .rw[z];exact nit b u e
  .exact nit c _ z
def Inv.tok(I:Inv X pins σ H s)(t:Nat):Inv X pins σ H { s with toks:=t }:=I.un (h':=s.heap) (t':=t) Un.refl I.hok
def Inv.kept{t':Nat}(I:Inv X pins σ H s)(k:∀b u,s.heap.get? b=some u->h'.get? b=some u):Inv X pins σ H { s with heap:=h',toks:=t' }:=I.un (Un.kept k) (I.hok.kept k)
def Inv.laid{a:Addr}{o:HO}{t':Nat}(I:Inv X pins σ H s)(k:∀b u,s.heap.get? b=some u->h'.get? b=some u)(hp:s.heap.objs.size<=a)(new:ObjOk X.prog X.w (upd H a o) h' a o):
 Inv X pins σ (upd H a o) { s with heap:=h',toks:=t' }:=I.un (Un.laid k hp (I.hok.fresh hp)) (I.hok.laid k hp new)
def Inv.write{x e:Addr}{o:HO}{t':Nat}(I:Inv X pins σ H s)(mu:Mut (H x))(he:e=x∨H e=some (.own x))(k:∀b u,b≠e->s.heap.get? b=some u->h'.get? b=some u)(heo:∃u,h'.get? e=some u)
 (new:ObjOk X.prog X.w (upd H x o) h' x o):Inv X pins σ (upd H x o) { s with heap:=h',toks:=t' }:=I.un (Un.write mu he k heo) (I.hok.write mu he k heo new)
def Inv.weak{σ':List (Option V)}(I:Inv X pins σ H s)(hl:σ'.length=σ.length)(w:∀(i:Nat) v,σ'[i]?=some (some v)->σ[i]?=some (some v)):Inv X pins σ' H s:=
 ⟨I.ok,I.os,I.bare,I.base,let ⟨m,hn,hl'⟩:=I.loc;⟨m,hn,λi x v e1 e2 e3=>hl' i x v e1 (w i v e2) e3⟩,I.cell,I.free,I.freeC,I.pin,I.hok,hl.trans I.len⟩
def Inv.pins_of{pins':List (Addr×Obj)}(I:Inv X pins σ H s)(h:∀p∈pins',s.heap.get? p.1=some p.2/\H p.1=none/\p.1≠X.env.locals/\p.1∉X.fs/\∀v,p.2.data≠.cell v):Inv X pins' σ H s:=
 ⟨I.ok,I.os,I.bare,I.base,I.loc,I.cell,I.free,I.freeC,λp hp=>(mem_append.mp hp).elim (λz=>I.pin p (mem_append_left _ z)) (h p),I.hok,I.len⟩
def IY{N:List Str}(hN:N.Nodup){i j:Nat}{x:Str}(a:N[i]?=some x)(b:N[j]?=some x):i=j:=by
 obtain⟨h1,e1⟩:=List.getElem?_eq_some_iff.mp a;obtain⟨h2,e2⟩:=List.getElem?_eq_some_iff.mp b;exact(List.getElem_inj hN).mp (e1.trans e2.symm)
def KG{M:Model}{A:Around}{E:Value->Shared->Prop}{i:Nat}{x:Str}{v:V}{u:Value}{Q:Unit->Shared->Prop}(I:Inv X pins σ H s)(hN:X.N.Nodup)(hi:X.N[i]?=some x)(hx:Loc X.env.scope x)(r:RelV v u)
 (h:∀s',Inv X pins (σ.set i (some v)) H s'->(∃a,Heap.SameBut a s.heap s'.heap/\(a=X.env.locals∨X.env.cells.lookup x=some a))->Q () s') (hf:X.fn x=true∨X.env.scope.names.lookup x=some .local:=by first|exact .inl rfl|exact .inr rfl|assumption):wpAny M A (storeName X.env x u) Q E s:=by
 obtain⟨m,hn,hl⟩:=id I.loc;have hcls:(X.env.scope.kind==.class||(X.env.scope.kind==.module&&X.env.locals != X.env.globals))=false:=by rw[I.ok.kind];rfl
 have hiσ:i<σ.length:=by rw[I.len];exact(List.getElem?_eq_some_iff.mp hi).1
 have cne:=I.cne;have tracked:∀{a:Addr} {h':Heap},(∃o,s.heap.get? a=some o/\H a=none)->Heap.SameBut a s.heap h'->HOk X.prog X.w H h':=λ{a h'} ha hs b ob e=>by
  obtain⟨_,_,hfree⟩:=ha;refine(I.hok b ob e).stay (λc w' hc q=>(hs.2 c ?_).trans q) (λ_ q=>q) λ_ _ q=>q;rintro rfl;rcases hc with rfl|hc
  .rw[hfree]at e;cases e
  .rw[hfree]at hc;cases hc
 rcases hx with hk|hk
 .refine wpAny_storeName_local hk hn (λh' hn' hs=>?_) hcls;obtain⟨oL,_,_,hoL,_⟩:=id hn;refine h _ ⟨I.ok,I.os,I.bare,⟨λb o e n hb hx=>?_,λb o e n hb hx=>?_,I.base.free,λb o e hx=>?_,I.base.tups,I.base.frzs,I.base.tbls⟩,⟨_,hn',λj y v' e1 e2 e3=>?_⟩,λy c e=>?_,I.free,I.freeC,λp hp=>?_,tracked ⟨oL,hoL,I.free⟩ hs,by simpa using I.len⟩ ⟨_,hs,.inl rfl⟩
  .exact(hs.2 b (ne_of_lt (lt_of_lt_of_le (Heap.lt_size e) I.ok.above))).trans (I.base.keep b o e n hb hx)
  .obtain⟨sl,e1⟩:=I.base.slot b o e n hb hx;exact⟨sl,(hs.2 b (ne_of_lt (lt_of_lt_of_le (Heap.lt_size e) I.ok.above))).trans e1⟩
  .obtain⟨o',e1⟩:=I.base.there b o e hx;exact⟨o',(hs.2 b (ne_of_lt (lt_of_lt_of_le (Heap.lt_size e) I.ok.above))).trans e1⟩
  .by_cases hj:j=i
   .subst hj;rw[hi]at e1;cases e1;rw[List.getElem?_set_self hiσ]at e2;cases e2;exact⟨u,r,.inl ⟨hk,by simp⟩⟩
   .rw[List.getElem?_set_ne (Ne.symm hj)]at e2;obtain⟨u',r',q⟩:=hl j y v' e1 e2 e3;refine⟨u',r',?_⟩;rcases q with⟨k,e⟩|⟨k,c,e,z⟩
    .refine .inl ⟨k,?_⟩;have:y≠x:=λe=>hj (IY hN e1 (e ▸ hi));simp[this,e]
    .exact .inr ⟨k,c,e,z.sameBut hs (cne y c e)⟩
  .obtain⟨w',z⟩:=I.cell y c e;exact⟨w',z.sameBut hs (cne y c e)⟩
  .obtain⟨e,n,ne,nf,d⟩:=I.pin p hp;exact⟨(hs.2 p.1 ne).trans e,n,ne,nf,d⟩
 .have hfn:X.fn x=true:=by
   rcases hf with z|z
   .exact z
   .rw[z]at hk;cases hk
  obtain⟨c,hc⟩:=I.ok.has x (.inl hk);obtain⟨w',z⟩:=I.cell x c hc;refine wpAny_storeName_cell I.ok.kind hk hc z (λh' hc' hs=>?_);obtain⟨oc,hoc,hocd⟩:=id z;refine h { s with heap:=h' } ⟨I.ok,I.os,I.bare,⟨λb o e n hb hx=>?_,λb o e n hb hx=>?_,I.base.free,λb o e hx=>?_,I.base.tups,I.base.frzs,I.base.tbls⟩,⟨m,hn.sameBut hs (Ne.symm (cne x c hc)),λj y v' e1 e2 e3=>?_⟩,λy c' e=>?_,I.free,I.freeC,λp hp=>?_,tracked ⟨oc,hoc,I.freeC x c hc⟩ hs,by simpa using I.len⟩ ⟨c,hs,.inr hc⟩
  .exact(hs.2 b (ne_of_lt (lt_of_lt_of_le (Heap.lt_size e) (I.ok.cab x c hfn hc)))).trans (I.base.keep b o e n hb hx)
  .obtain⟨sl,e1⟩:=I.base.slot b o e n hb hx;exact⟨sl,(hs.2 b (ne_of_lt (lt_of_lt_of_le (Heap.lt_size e) (I.ok.cab x c hfn hc)))).trans e1⟩
  .obtain⟨o',e1⟩:=I.base.there b o e hx;exact⟨o',(hs.2 b (ne_of_lt (lt_of_lt_of_le (Heap.lt_size e) (I.ok.cab x c hfn hc)))).trans e1⟩
  .by_cases hj:j=i
   .subst hj;rw[hi]at e1;cases e1;rw[List.getElem?_set_self hiσ]at e2;cases e2;exact⟨u,r,.inr ⟨.inl hk,c,hc,hc'⟩⟩
   .rw[List.getElem?_set_ne (Ne.symm hj)]at e2;obtain⟨u',r',q⟩:=hl j y v' e1 e2 e3;refine⟨u',r',?_⟩;rcases q with q|⟨k,c',e,z'⟩
    .exact .inl q
    .refine .inr ⟨k,c',e,z'.sameBut hs ?_⟩;rintro rfl;exact hj (IY hN e1 (I.ok.inj _ _ _ e hc ▸ hi))
  .by_cases hcc:c'=c
   .subst hcc;exact⟨_,hc'⟩
   .obtain⟨w2,z2⟩:=I.cell y c' e;exact⟨w2,z2.sameBut hs hcc⟩
  .obtain⟨e,n,ne,nf,d⟩:=I.pin p hp;refine⟨(hs.2 p.1 ?_).trans e,n,ne,nf,d⟩;intro q;rw[q,hoc]at e;have q':oc=p.2:=Option.some.inj e;exact d w' (by rw[<- q'];exact hocd)
def G9{M:Model}{A:Around}{E:Value->Shared->Prop}{i:Nat}{x:Str}{v:V}{u:Value}{Q:Unit->Shared->Prop}(I:Inv X pins σ H s)(hN:X.N.Nodup)(hi:X.N[i]?=some x)(hx:Loc X.env.scope x)(r:RelV v u)
 (h:∀s',Inv X pins (σ.set i (some v)) H s'->Q () s') (hf:X.fn x=true∨X.env.scope.names.lookup x=some .local:=by first|exact .inl rfl|exact .inr rfl|assumption):wpAny M A (storeName X.env x u) Q E s:=
 KG I hN hi hx r (λs' I' _=>h s' I') hf
def Inv.call'{s':Shared}{ch:List Addr}(I:Inv X pins σ H s)(ho:s'.os=s.os)(u:Un (frs X.stack) ch H H' s.heap s'.heap)(hok:HOk X.prog X.w H' s'.heap)(hg:AllBare s'.gens)
 (hch:∀b∈ch,(b∈X.ex∨X.s₀.heap.objs.size<=b)/\b≠X.env.locals/\(∀x c,X.env.cells.lookup x=some c->c≠b)/\∀p∈X.pn++pins,p.1≠b):Inv X pins σ H' s':=by
 obtain⟨h',g',d',t',o'⟩:=s';have e:o'=s.os:=ho;subst e;exact I.call (g':=g') (t':=t') (d':=d') u hok hg hch
end
abbrev XK:=Value->Option Addr->Hp->Prop
abbrev St:=List (Option V)
abbrev VK:=V->Hp->Prop
abbrev TE:=St->Hp->VK->Prop
abbrev TT:=St->Hp->(Bool->Hp->Prop)->Prop
abbrev TA:=St->Hp->(List V->Hp->Prop)->Prop
structure Ends where
 nx:St->Hp->Prop
 rt:VK
 bk:St->Hp->Prop:=λ_ _=>False
 ct:St->Hp->Prop:=λ_ _=>False
abbrev TS:=Ends->St->Hp->Prop
def EP(X:Cx)(pins:List (Addr×Obj))(σ:St)(Q:VK)(u:Value)(s':Shared):Prop:=∃v H',Inv X pins σ H' s'/\RelV v u/\Q v H'
def TP(X:Cx)(pins:List (Addr×Obj))(σ:St)(Q:Bool->Hp->Prop)(b:Bool)(s':Shared):Prop:=∃H',Inv X pins σ H' s'/\Q b H'
def AP(X:Cx)(pins:List (Addr×Obj))(σ:St)(Q:List V->Hp->Prop)(us:List Value)(s':Shared):Prop:=∃vs H',Inv X pins σ H' s'/\Vals vs us/\Q vs H'
def SP(X:Cx)(pins:List (Addr×Obj))(D:Ends)(f:Flow)(s':Shared):Prop:=
 match f with
 |.next=>∃σ' H',Inv X pins σ' H' s'/\D.nx σ' H'
 |.brk=>∃σ' H',Inv X pins σ' H' s'/\D.bk σ' H'
 |.cont=>∃σ' H',Inv X pins σ' H' s'/\D.ct σ' H'
 |.ret u=>∃v σ' H',Inv X pins σ' H' s'/\RelV v u/\D.rt v H'
def PE(X:Cx)(e:Expr)(t:TE):Prop:=
 ∀(pins:List (Addr×Obj)) (s:Shared) (σ:St) (H:Hp) (Q:VK),Inv X pins σ H s->t σ H Q->wpAny (model X.prog X.w) X.A (eval e X.env) (EP X pins σ Q) X.xe s
def PT(X:Cx)(e:Expr)(t:TT):Prop:=
 ∀(pins:List (Addr×Obj)) (s:Shared) (σ:St) (H:Hp) (Q:Bool->Hp->Prop),Inv X pins σ H s->t σ H Q->wpAny (model X.prog X.w) X.A (isTrue e X.env (eval e X.env)) (TP X pins σ Q) X.xe s
def PW(X:Cx)(e:Expr)(t:TT):Prop:=
 ∀(whole:Sem Value) (pins:List (Addr×Obj)) (s:Shared) (σ:St) (H:Hp) (Q:Bool->Hp->Prop),Inv X pins σ H s->t σ H Q->wpAny (model X.prog X.w) X.A (isTrue e X.env whole) (TP X pins σ Q) X.xe s
def PW.pt{X:Cx}{e:Expr}{t:TT}(h:PW X e t):PT X e t:=h _
def PA(X:Cx)(es:List Expr)(t:TA):Prop:=
 ∀(pos:Pos) (pins:List (Addr×Obj)) (s:Shared) (σ:St) (H:Hp) (Q:List V->Hp->Prop),Inv X pins σ H s->t σ H Q->wpAny (model X.prog X.w) X.A (spliced (backTo pos (starEach es X.env))) (AP X pins σ Q) X.xe s
def PS(X:Cx)(st:Stmt)(t:TS):Prop:=
 ∀(pins:List (Addr×Obj)) (s:Shared) (σ:St) (H:Hp) (D:Ends),Inv X pins σ H s->t D σ H->wpAny (model X.prog X.w) X.A (exec st X.env) (SP X pins D) X.xe s
def PSs(X:Cx)(st:List Stmt)(t:TS):Prop:=
 ∀(pins:List (Addr×Obj)) (s:Shared) (σ:St) (H:Hp) (D:Ends),Inv X pins σ H s->t D σ H->wpAny (model X.prog X.w) X.A (execs st X.env) (SP X pins D) X.xe s
def thn{α:Type}{t:Sem α}{Q Q':α->Shared->Prop}{M:Model}{A:Around}{E:Value->Shared->Prop}{s:Shared}(h:wpAny M A t Q E s)(hQ:∀a s,Q a s->Q' a s):wpAny M A t Q' E s:=wpAny_mono h hQ λ_ _ x=>x
section
variable{X:Cx}
def bin{a b:Expr}{ta tb:TE}(ha:PE X a ta)(hb:PE X b tb){pins:List (Addr×Obj)}{s:Shared}{σ:St}{H:Hp}{R:V->V->Hp->Prop}(I:Inv X pins σ H s)(h:ta σ H λx H1=>tb σ H1 λy H2=>R x y H2)
 {α:Type} {Q:α->Shared->Prop} {f:Value->Value->Sem α}
 (hf:∀v u s2 x y H2,Inv X pins σ H2 s2->RelV x v->RelV y u->R x y H2->wpAny (model X.prog X.w) X.A (f v u) Q X.xe s2):
 wpAny (model X.prog X.w) X.A (eval a X.env) (λv s₁=>wpAny (model X.prog X.w) X.A (eval b X.env) (λu s₂=>wpAny (model X.prog X.w) X.A (f v u) Q X.xe s₂) X.xe s₁) X.xe s:=by
 refine thn (ha pins s σ H _ I h) λv s1 ⟨x,H1,I1,r1,q1⟩=>?_;refine thn (hb pins s1 σ H1 _ I1 q1) λu s2 ⟨y,H2,I2,r2,q2⟩=>?_;exact hf v u s2 x y H2 I2 r1 r2 q2
def SB(i:Nat):TE:=λσ H Q=>∃v,σ[i]?=some (some v)/\Q v H
def tC(v:V):TE:=λ_ H Q=>Q v H
def Gy{i:Nat}{x:Str}{pos:Pos}(hN:X.N[i]?=some x)(hv:Vis X.env.scope x)(hd:(x==("__debug__":Str))=false:=by decide)(hcd:(x==("__classdict__":Str))=false:=by decide):PE X (.Name x pos) (SB i):=by
 intro pins s σ H Q I h;obtain⟨v,e,h⟩:=h;obtain⟨m,hn,hl⟩:=I.loc;obtain⟨u,r,l⟩:=hl i x v hN e hv;have fin:EP X pins σ Q u s:=⟨v,H,I,r,h⟩
 rcases l with⟨hk,hm⟩|⟨hk,c,hc,hcell⟩
 .exact wpAny_Name (wpAny_loadName_local I.ok.kind hk hn hm fin) hd
 .rcases hk with hk|hk
  .exact wpAny_Name (wpAny_loadName_cell I.ok.kind hk hc hcell fin) hd
  .exact wpAny_Name (wpAny_loadName_free I.ok.kind hk hc hcell fin hcd) hd
def Z8{i j pos}:PE X (.Constant (.int i) j pos) (tC (.int i)):=λ_ _ _ H _ I h=>wpAny_Constant_int ⟨.int i,H,I.tok _,⟨_,rfl⟩,h⟩
def ac{b j pos}:PE X (.Constant (.bool b) j pos) (tC (.bl b)):=λ_ _ _ H _ I h=>Constant_bool ⟨.bl b,H,I,rfl,h⟩
def Z5{j pos}:PE X (.Constant .none j pos) (tC .non):=λ_ _ _ H _ I h=>Constant_none ⟨.non,H,I,rfl,h⟩
def Z2{x j pos}:PE X (.Constant (.str x) j pos) (tC (.str x)):=λ_ _ _ H _ I h=>Calls.Constant_str ⟨.str x,H,I.tok _,⟨_,rfl⟩,h⟩
def Gl(X:Cx)(x:Str):Prop:=X.env.kindOf x=some .globalImplicit
def Ft{E:Value->Shared->Prop}{pins:List (Addr×Obj)}{s:Shared}{σ:St}{H:Hp}{x:Str}{u:Value}{pos:Pos}{Q:Value->Shared->Prop}(I:Inv X pins σ H s)(hg:Gl X x)(hm:X.mg x=some u)(h:Q u s)
 (hd:(x==("__debug__":Str))=false:=by decide):wpAny (model X.prog X.w) X.A (eval (.Name x pos) X.env) Q E s:=
 Calls.Name_function_global I.ok.kind hg (Calls.loadGlobal_global (by rw[I.ok.glob];exact I.mod.glob.keeps I.bk) hm h) hd
def D0{E:Value->Shared->Prop}{pins:List (Addr×Obj)}{s:Shared}{σ:St}{H:Hp}{x:Str}{u:Value}{pos:Pos}{Q:Value->Shared->Prop}(I:Inv X pins σ H s)(hg:Gl X x)(hm:X.mg x=none)(hv:bootBuiltins x=some u)(h:Q u s)
 (hn:x≠"__name__":=by decide) (hd:(x==("__debug__":Str))=false:=by decide):wpAny (model X.prog X.w) X.A (eval (.Name x pos) X.env) Q E s:=by
 obtain⟨mb,h1,h2⟩:=I.mod.blt;exact Calls.Name_function_global I.ok.kind hg (Calls.loadGlobal_builtin (by rw[I.ok.glob];exact I.mod.glob.keeps I.bk) hm (by rw[I.ok.blt];exact h1.keeps I.bk) ((h2 x hn).trans hv) h) hd
variable{a b:Expr}{ta tb:TE}{pos:Pos}
def PC(X:Cx)(op:CmpOp)(a b:Expr)(t:TE):Prop:=
 ∀(pins:List (Addr×Obj)) (s:Shared) (σ:St) (H:Hp) (Q:VK),Inv X pins σ H s->t σ H Q ->
   wpAny (model X.prog X.w) X.A (eval a X.env) (λv s₁=>wpAny (model X.prog X.w) X.A (eval b X.env) (λu s₂=>wpAny (model X.prog X.w) X.A (compareOp op v u) (EP X pins σ Q) X.xe s₂) X.xe s₁) X.xe s
def MC(b:Expr){op:CmpOp}(h:op≠.In)(h2:op≠.NotIn):behindInMarks op b=false:=by
 have e1:(op==CmpOp.In)=false:=by cases op<;>first|rfl|exact absurd rfl h
 have e2:(op==CmpOp.NotIn)=false:=by cases op<;>first|rfl|exact absurd rfl h2
 cases b<;>simp[behindInMarks,e1,e2]
def ON(ta:TE):TE:=λσ H Q=>ta σ H λx H1=>Q (.bl (decide (x=.non))) H1
def L8(ta:TE):TE:=λσ H Q=>ta σ H λx H1=>Q (.bl (!decide (x=.non))) H1
def RelV.none_iff{x:V}{v:Value}(r:RelV x v):(v==Value.none)=decide (x=.non):=by
 cases x with
 |non=>cases r;rfl
 |bl _=>cases r;rfl
 |int _=>obtain⟨t,rfl⟩:=r;rfl
 |str _=>obtain⟨t,rfl⟩:=r;rfl
 |byt _=>obtain⟨t,rfl⟩:=r;rfl
 |flt _=>obtain⟨t,rfl⟩:=r;rfl
 |ref _=>cases r;rfl
 |ty _=>cases r;rfl
def Qf{j pos'}(ha:PE X a ta):PC X .Is a (.Constant .none j pos') (ON ta):=by
 intro pins s σ H Q I h;refine thn (ha pins s σ H _ I h) λv s1 ⟨x,H1,I1,r1,q1⟩=>?_;exact Constant_none (is_none_gen ⟨.bl _,H1,I1,by rw[r1.none_iff];rfl,q1⟩)
def Nk{j pos'}(ha:PE X a ta):PC X .IsNot a (.Constant .none j pos') (L8 ta):=by
 intro pins s σ H Q I h;refine thn (ha pins s σ H _ I h) λv s1 ⟨x,H1,I1,r1,q1⟩=>?_;exact Constant_none (isnot_none_gen ⟨.bl _,H1,I1,by rw[r1.none_iff];rfl,q1⟩)
def tB(t:TE):TT:=λσ H Q=>t σ H λx H1=>∃c,x=.bl c/\Q c H1
def Qe{op:CmpOp}{t:TE}(h:PC X op a b t)(h1:behindInMarks op b=false:=by first|exact MC _ (by decide) (by decide)|rfl):PE X (.Compare a [op] [b] pos) t:=λpins s σ H Q I hw=>wpAny_Compare1 (h pins s σ H Q I hw) h1
def QY{op:CmpOp}{t:TE}(h:PC X op a b t)(h1:behindInMarks op b=false:=by first|exact MC _ (by decide) (by decide)|rfl):PT X (.Compare a [op] [b] pos) (tB t):=by
 intro pins s σ H Q I hw;refine wpAny_isTrue_Compare1 (thn (h pins s σ H _ I hw) λv s1 h1=>thn h1 λu s2 h2=>thn h2 λc s3 ⟨x,H1,I1,r1,q1⟩=>?_) h1;obtain⟨d,rfl,q⟩:=q1;cases r1;exact wpAny_truthy_bool ⟨H1,I1,q⟩
variable{tA tB':TT}{rest:List Expr}
def SI(t u:TT):TT:=λσ H Q=>t σ H λc H1=>if c=true then u σ H1 Q else Q false H1
def tOr(t u:TT):TT:=λσ H Q=>t σ H λc H1=>if c=true then Q true H1 else u σ H1 Q
def SE(t:TT):TT:=λσ H Q=>t σ H λc H1=>Q (!c) H1
def Vw(ha:PT X a tA):PW X (.BoolOp .And [a] pos) tA:=by
 intro wh pins s σ H Q I h;refine isTrue_and (thn (ha pins s σ H Q I h) λc s1 e=>?_);cases c with
 |true=>exact isTrue_and_nil e
 |false=>exact e
def Yp(ha:PT X a tA):PW X (.BoolOp .Or [a] pos) tA:=by
 intro wh pins s σ H Q I h;refine isTrue_or (thn (ha pins s σ H Q I h) λc s1 e=>?_);cases c with
 |false=>exact isTrue_or_nil e
 |true=>exact e
def Yq(ha:PT X a tA)(hb:PW X (.BoolOp .And (b::rest) pos) tB'):PW X (.BoolOp .And (a::b::rest) pos) (SI tA tB'):=by
 intro wh pins s σ H Q I h;refine isTrue_and (thn (ha pins s σ H _ I h) λc s1 ⟨H1,I1,q1⟩=>?_);cases c with
 |true=>exact hb wh pins s1 σ H1 Q I1 q1
 |false=>exact⟨H1,I1,q1⟩
def aW(ha:PT X a tA)(hb:PW X (.BoolOp .Or (b::rest) pos) tB'):PW X (.BoolOp .Or (a::b::rest) pos) (tOr tA tB'):=by
 intro wh pins s σ H Q I h;refine isTrue_or (thn (ha pins s σ H _ I h) λc s1 ⟨H1,I1,q1⟩=>?_);cases c with
 |true=>exact⟨H1,I1,q1⟩
 |false=>exact hb wh pins s1 σ H1 Q I1 q1
def Yr(ha:PT X a tA):PT X (.UnaryOp .Not a pos) (SE tA):=by
 intro pins s σ H Q I h;exact isTrue_not (ha pins s σ H (λc H1=>Q (!c) H1) I h)
def OR(ta tb:TE):TE:=λσ H Q=>ta σ H λx H1=>∃c,x=.bl c/\if c=true then tb σ H1 Q else Q (.bl false) H1
def SD(ta tb:TE):TE:=λσ H Q=>ta σ H λx H1=>∃c,x=.bl c/\if c=true then Q (.bl true) H1 else tb σ H1 Q
def OM(ta:TE):TE:=λσ H Q=>ta σ H λx H1=>∃c,x=.bl c/\Q (.bl (!c)) H1
def Z3{op}{t:TE}(h:PE X a t):PE X (.BoolOp op [a] pos) t:=λpins s σ H Q I hw=>BoolOp_one (h pins s σ H Q I hw)
def Z9(ha:PE X a ta)(hb:PE X (.BoolOp .And (b::rest) pos) tb):PE X (.BoolOp .And (a::b::rest) pos) (OR ta tb):=by
 intro pins s σ H Q I h;refine BoolOp_and (thn (ha pins s σ H _ I h) λv s1 ⟨x,H1,I1,r1,q1⟩=>?_);obtain⟨c,rfl,q1⟩:=q1;cases r1;refine wpAny_truthy_bool ?_;cases c with
 |true=>exact hb pins s1 σ H1 Q I1 q1
 |false=>exact⟨.bl false,H1,I1,rfl,q1⟩
def aZ(ha:PE X a ta)(hb:PE X (.BoolOp .Or (b::rest) pos) tb):PE X (.BoolOp .Or (a::b::rest) pos) (SD ta tb):=by
 intro pins s σ H Q I h;refine BoolOp_or (thn (ha pins s σ H _ I h) λv s1 ⟨x,H1,I1,r1,q1⟩=>?_);obtain⟨c,rfl,q1⟩:=q1;cases r1;refine wpAny_truthy_bool ?_;cases c with
 |false=>exact hb pins s1 σ H1 Q I1 q1
 |true=>exact⟨.bl true,H1,I1,rfl,q1⟩
def Z4(ha:PE X a ta):PE X (.UnaryOp .Not a pos) (OM ta):=by
 intro pins s σ H Q I h;refine UnaryOp_ (thn (ha pins s σ H _ I h) λv s1 ⟨x,H1,I1,r1,q1⟩=>?_);obtain⟨c,rfl,q1⟩:=q1;cases r1;exact not_of (wpAny_truthy_bool ⟨.bl (!c),H1,I1,rfl,q1⟩)
def tIf(t:TT)(ta tb:TE):TE:=λσ H Q=>t σ H λc H1=>if c=true then ta σ H1 Q else tb σ H1 Q
def TD{c:Expr}(hc:PT X c tA)(ha:PE X a ta)(hb:PE X b tb):PE X (.IfExp c a b pos) (tIf tA ta tb):=by
 intro pins s σ H Q I h;refine wpAny_IfExp (thn (hc pins s σ H _ I h) λd s1 ⟨H1,I1,q1⟩=>?_);cases d with
 |true=>exact ha pins s1 σ H1 Q I1 q1
 |false=>exact hb pins s1 σ H1 Q I1 q1
end
def SqL(K:PySem.W.Frag)(H:Hp)(a:Addr)(xs:List V):Prop:=
 Rd H a (.lst xs) ∨
  ∃(o:Obj) (its:Array Value) (n:Nat),K.lookup a=some o/\o.cls=.type "list"/\o.dict=none/\o.data=.seq its n/\its.size<=sizeLine/\Vals xs its.toList
def SqT(K:PySem.W.Frag)(H:Hp)(a:Addr)(xs:List V):Prop:=
 Rd H a (.tup xs) ∨
  ∃(o:Obj) (its:Array Value) (n:Nat),K.lookup a=some o/\o.cls=.type "tuple"/\o.dict=none/\o.data=.seq its n/\its.size<=sizeLine/\Vals xs its.toList
def c8:Value->Option V
 |.none=>some .non
 |.bool b=>some (.bl b)
 |.int i _=>some (.int i)
 |.str x _=>some (.str x)
 |.bytes b _=>some (.byt b)
 |.float b _=>some (.flt b)
 |.ref a=>some (.ref a)
 |.type n=>some (.ty n)
 |_=>none
def RelV.abs{x:V}{u:Value}(r:RelV x u):c8 u=some x:=by
 cases x with
 |non=>cases r;rfl
 |bl _=>cases r;rfl
 |int _=>obtain⟨t,rfl⟩:=r;rfl
 |str _=>obtain⟨t,rfl⟩:=r;rfl
 |byt _=>obtain⟨t,rfl⟩:=r;rfl
 |flt _=>obtain⟨t,rfl⟩:=r;rfl
 |ref _=>cases r;rfl
 |ty _=>cases r;rfl
def RelV.inj{x y:V}{u:Value}(r:RelV x u)(q:RelV y u):x=y:=Option.some.inj (r.abs.symm.trans q.abs)
def Vals.inj:∀{xs ys:List V} {us:List Value},Vals xs us->Vals ys us->xs=ys
 |_,_,_,.nil,.nil=>rfl
 |_,_,_,.cons r t,.cons r' t'=>by rw[r.inj r',Vals.inj t t']
section
variable{X:Cx}{pins:List (Addr×Obj)}{σ:St}{H:Hp}{s:Shared}{a:Addr}{xs ys:List V}
def SqL.of{K:PySem.W.Frag}(h:H a=some (.lst xs)):SqL K H a xs:=.inl (.inl h)
def SqT.of{K:PySem.W.Frag}(h:H a=some (.tup xs)):SqT K H a xs:=.inl (.inl h)
def Inv.list(I:Inv X pins σ H s)(h:SqL X.K H a xs):∃its:List Value,Vals xs its/\PlainL s.heap a its.toArray/\xs.length<=sizeLine:=by
 rcases h with h|⟨o,its,n,hk,hc,hd,hs,hz,r⟩
 .obtain⟨z,its,n,r,e⟩:=h.ok I.hok;exact⟨its,r,⟨_,n,e,rfl,rfl,rfl⟩,z⟩
 .refine⟨its.toList,r,⟨o,n,I.kIn a o hk,hc,hd,by simpa using hs⟩,?_⟩;have e:=r.length;simp only[Array.length_toList]at e;omega
def Inv.tuple(I:Inv X pins σ H s)(h:SqT X.K H a xs):∃its:List Value,Vals xs its/\IsTup s.heap a its.toArray/\xs.length<=sizeLine:=by
 rcases h with h|⟨o,its,n,hk,hc,_,hs,hz,r⟩
 .obtain⟨z,its,r,p⟩:=h.ok I.hok;exact⟨its,r,p.t,z⟩
 .refine⟨its.toList,r,⟨o,I.kIn a o hk,hc,n,by simpa using hs⟩,?_⟩;have e:=r.length;simp only[Array.length_toList]at e;omega
def Inv.list_inj(I:Inv X pins σ H s)(h:SqL X.K H a xs)(h':SqL X.K H a ys):xs=ys:=by
 obtain⟨its,r,⟨o,n,e,_,_,d⟩,_⟩:=I.list h;obtain⟨its',r',⟨o',n',e',_,_,d'⟩,_⟩:=I.list h';rw[e]at e';cases e';rw[d]at d'
 injection d' with d1 _
 have:its=its':=by simpa using congrArg Array.toList d1
 subst this;exact r.inj r'
def Inv.tuple_inj(I:Inv X pins σ H s)(h:SqT X.K H a xs)(h':SqT X.K H a ys):xs=ys:=by
 obtain⟨its,r,⟨o,e,_,n,d⟩,_⟩:=I.tuple h;obtain⟨its',r',⟨o',e',_,n',d'⟩,_⟩:=I.tuple h';rw[e]at e';cases e';rw[d]at d'
 injection d' with d1 _
 have:its=its':=by simpa using congrArg Array.toList d1
 subst this;exact r.inj r'
end
abbrev Cx.wish(X:Cx)(E:Value->Shared->Prop):Cx:={ X with xe:=E }
abbrev Cx.nox(X:Cx):Cx:=X.wish λ_ _=>False
def Cx.Ok.wish{X:Cx}(ok:X.Ok)(E:Value->Shared->Prop):(X.wish E).Ok:=
 ⟨ok.mod,ok.kind,ok.glob,ok.blt,ok.above,ok.inj,ok.has,ok.cab,ok.hd,ok.frames,ok.stk,ok.exf,ok.bs,ok.bsz,ok.noex,ok.exfs,ok.funs,ok.frf⟩
def Cx.Ok.unwish{X:Cx}{E:Value->Shared->Prop}(ok:(X.wish E).Ok):X.Ok:=
 ⟨ok.mod,ok.kind,ok.glob,ok.blt,ok.above,ok.inj,ok.has,ok.cab,ok.hd,ok.frames,ok.stk,ok.exf,ok.bs,ok.bsz,ok.noex,ok.exfs,ok.funs,ok.frf⟩
section
variable{X:Cx}{pins:List (Addr×Obj)}{σ:St}{H:Hp}{s:Shared}{E:Value->Shared->Prop}
def Inv.wish(I:Inv X pins σ H s)(E:Value->Shared->Prop):Inv (X.wish E) pins σ H s:=⟨I.ok.wish E,I.os,I.bare,I.base,I.loc,I.cell,I.free,I.freeC,I.pin,I.hok,I.len⟩
def Inv.unwish(I:Inv (X.wish E) pins σ H s):Inv X pins σ H s:=⟨I.ok.unwish,I.os,I.bare,I.base,I.loc,I.cell,I.free,I.freeC,I.pin,I.hok,I.len⟩
def SP.unwish{D:Ends}{f:Flow}{s':Shared}(h:SP (X.wish E) pins D f s'):SP X pins D f s':=by
 cases f with
 |next=>obtain⟨σ',H',I,q⟩:=h;exact⟨σ',H',I.unwish,q⟩
 |brk=>obtain⟨σ',H',I,q⟩:=h;exact⟨σ',H',I.unwish,q⟩
 |cont=>obtain⟨σ',H',I,q⟩:=h;exact⟨σ',H',I.unwish,q⟩
 |ret u=>obtain⟨v,σ',H',I,r,q⟩:=h;exact⟨v,σ',H',I.unwish,r,q⟩
def PSs.nox{st:List Stmt}{t:TS}(h:PSs X.nox st t):PSs X st t:=λpins s σ H D I hw=>
 wpAny_mono (h pins s σ H D (I.wish _) hw) (λ_ _ q=>q.unwish) λ_ _ z=>False.elim z
end
section
variable{X:Cx}{st:Stmt}{rest:List Stmt}{t u:TS}{e:Expr}{te:TE}{pos:Pos}
def Hj:TS:=λD σ H=>D.nx σ H
def LX(t u:TS):TS:=λD σ H=>t { D with nx:=u D } σ H
def Nj:PSs X [] Hj:=λ_ _ σ H _ I h=>wpAny_execs_nil ⟨σ,H,I,h⟩
def M3(h1:PS X st t)(h2:PSs X rest u):PSs X (st::rest) (LX t u):=by
 intro pins s σ H D I h;refine wpAny_execs_cons (thn (h1 pins s σ H { D with nx:=u D } I h) λf s1 q=>?_);cases f with
 |next=>
  obtain⟨σ',H',I',q⟩:=q;exact h2 pins s1 σ' H' D I' q
 |ret v=>exact q
 |brk=>exact q
 |cont=>exact q
def Ni(h1:PS X st t):PSs X [st] t:=by
 intro pins s σ H D I h;refine wpAny_execs_cons (thn (h1 pins s σ H D I h) λf s1 q=>?_);cases f with
 |next=>exact wpAny_execs_nil q
 |ret v=>exact q
 |brk=>exact q
 |cont=>exact q
def W1:PS X (.Pass pos) Hj:=λ_ _ σ H _ I h=>wpAny_Pass ⟨σ,H,I,h⟩
def Inv.quiet{pins:List (Addr×Obj)}{σ:St}{H:Hp}{s:Shared}(I:Inv X pins σ H s):interactive X.env=false:=by simp[interactive,I.ok.kind]
def OO(te:TE):TS:=λD σ H=>te σ H λ_ H1=>D.nx σ H1
def W2(he:PE X e te)(hs:swapsWith e none pos.line X.env=pure false:=by rfl):PS X (.Expr e pos) (OO te):=by
 intro pins s σ H D I h;exact wpAny_Expr_any (thn (he pins s σ H _ I h) λv s1 ⟨x,H1,I1,r1,q1⟩=>⟨σ,H1,I1,q1⟩) I.quiet hs
def G7(te:TE):TS:=λD σ H=>te σ H D.rt
def Yt(he:PE X e te):PS X (.Return (some e) pos) (G7 te):=by
 intro pins s σ H D I h;exact wpAny_Return_some (thn (he pins s σ H _ I h) λv s1 ⟨x,H1,I1,r1,q1⟩=>⟨x,σ,H1,I1,r1,q1⟩)
def LZ(c:TT)(t u:TS):TS:=λD σ H=>c σ H λb H1=>if b=true then t D σ H1 else u D σ H1
def aX{c:Expr}{a b:List Stmt}{tc:TT}(hc:PT X c tc)(ha:PSs X a t)(hb:PSs X b u):PS X (.If c a b pos) (LZ tc t u):=by
 intro pins s σ H D I h;refine wpAny_If (thn (hc pins s σ H _ I h) λd s1 ⟨H1,I1,q1⟩=>?_);cases d with
 |true=>exact ha pins s1 σ H1 D I1 q1
 |false=>exact hb pins s1 σ H1 D I1 q1
def Iu:TS:=λ_ _ _=>False
def T1:PS X st Iu:=λ_ _ _ _ _ _ h=>h.elim
end
abbrev TG:=V->St->Hp->(St->Hp->Prop)->Prop
abbrev TGs:=List V->St->Hp->(St->Hp->Prop)->Prop
def PG(X:Cx)(target:Expr)(t:TG):Prop:=
 ∀(pins:List (Addr×Obj)) (s:Shared) (σ:St) (H:Hp) (v:V) (u:Value) (Q:St->Hp->Prop),Inv X pins σ H s->RelV v u->t v σ H Q ->
   wpAny (model X.prog X.w) X.A (assign target X.env u) (λ_ s'=>∃σ' H',Inv X pins σ' H' s'/\Q σ' H') X.xe s
def PGs(X:Cx)(ts:List Expr)(t:TGs):Prop:=
 ∀(pins:List (Addr×Obj)) (s:Shared) (σ:St) (H:Hp) (vs:List V) (us:List Value) (Q:St->Hp->Prop),Inv X pins σ H s->Vals vs us->t vs σ H Q ->
   wpAny (model X.prog X.w) X.A (assignInOrder ((assignEach ts X.env).map (·.2)) us) (λ_ s'=>∃σ' H',Inv X pins σ' H' s'/\Q σ' H') X.xe s
abbrev Tw:=V->V->V->Hp->(Hp->Prop)->Prop
def a0(X:Cx)(t:Tw):Prop:=
 ∀(pins:List (Addr×Obj)) (s:Shared) (σ:St) (H:Hp) (o i v:V) (ov iv u:Value) (Q:Hp->Prop),Inv X pins σ H s->RelV o ov->RelV i iv->RelV v u->t o i v H Q ->
   wpAny (model X.prog X.w) X.A (setItem ov iv u) (λ_ s'=>∃H',Inv X pins σ H' s'/\Q H') X.xe s
section
variable{X:Cx}{pos:Pos}
def EE(i:Nat):TG:=λv σ H Q=>Q (σ.set i (some v)) H
def WH{i:Nat}{x:Str}(hN:X.N.Nodup)(hi:X.N[i]?=some x)(hx:Loc X.env.scope x)(hf:X.fn x=true∨X.env.scope.names.lookup x=some .local:=by first|exact .inl rfl|exact .inr rfl|assumption):PG X (.Name x pos) (EE i):=by
 intro pins s σ H v u Q I r h;exact wpAny_assign_Name (G9 I hN hi hx r (λs' I'=>⟨_,H,I',h⟩) hf)
def Ti:TGs:=λvs σ H Q=>vs=[]/\Q σ H
def PM(t:TG)(u:TGs):TGs:=λvs σ H Q=>∃v r,vs=v::r/\t v σ H λσ' H'=>u r σ' H' Q
def WD:PGs X [] Ti:=by
 intro pins s σ H vs us Q I r h;obtain⟨e,h⟩:=h;subst e;cases r;exact assignInOrder_nil ⟨σ,H,I,h⟩
def TB{e:Expr}{es:List Expr}{t:TG}{u:TGs}(h1:PG X e t)(h2:PGs X es u)
 (hs:(assignEach (e::es) X.env).map (·.2)=assign e X.env::(assignEach es X.env).map (·.2):=by rfl):PGs X (e::es) (PM t u):=by
 intro pins s σ H vs us Q I r h;obtain⟨v,vr,e1,h⟩:=h;subst e1;cases r with
 |cons r rr=>
  rw[hs];refine assignInOrder_cons (thn (h1 pins s σ H _ _ _ I r h) λ_ s1 ⟨σ1,H1,I1,q1⟩=>?_);exact h2 pins s1 σ1 H1 _ _ Q I1 rr q1
def PL(K:PySem.W.Frag)(n:Nat)(t:TGs):TG:=λv σ H Q=>∃a xs,v=.ref a/\SqT K H a xs/\xs.length=n/\t xs σ H Q
def Yx{es:List Expr}{k:Nat}{t:TGs}{n:Nat}(hc:X.calm=true)(h:PGs X es t)
 (hn:(assignEach es X.env).length=n:=by rfl) (hst:(assignEach es X.env).findIdx? (·.1)=none:=by rfl):PG X (.Tuple es k pos) (PL X.K n t):=by
 intro pins s σ H v u Q I r hw;obtain⟨a,xs,e1,hq,hl,hw⟩:=hw;subst e1;cases r;obtain⟨its,rv,ht,hz⟩:=I.tuple hq;refine assign_Tuple_tuple (I.ok.hd hc) ht (by simp[hn,<- hl,rv.length]) hst λh' hx=>?_;have I1:Inv X pins σ H { s with heap:=h' }:=I.kept (t':=s.toks) λb o e=>hx b o (ne_of_lt (Heap.lt_size e)) e;exact h pins _ σ H xs _ Q I1 (by simpa using rv) hw
def Tg(to ti:TE)(t:Tw):TG:=λv σ H Q=>to σ H λo H1=>ti σ H1 λi H2=>t o i v H2 λH3=>Q σ H3
def Yy{o i:Expr}{to ti:TE}{t:Tw}(ho:PE X o to)(hi:PE X i ti)(hs:a0 X t)
 (ha:∀v,assign (.Subscript o i pos) X.env v=(do
  let ov <- holding [v] (eval o X.env)
  let iv <- holding [v,ov] (eval i X.env)
  standAt pos
  holding [v,ov,iv] (setItem ov iv v)
  release [v,ov,iv] []):=by intro _;rfl):PG X (.Subscript o i pos) (Tg to ti t):=by
 intro pins s σ H v u Q I r h;rw[ha];refine wpAny_bind (wpAny_holding (thn (ho pins s σ H _ I h) λov s1 ⟨x,H1,I1,r1,q1⟩=>?_));refine wpAny_bind (wpAny_holding (thn (hi pins s1 σ H1 _ I1 q1) λiv s2 ⟨y,H2,I2,r2,q2⟩=>?_));refine wpAny_bind (wpAny_standAt (wpAny_bind (wpAny_holding (thn (hs pins s2 σ H2 x y v ov iv u _ I2 r1 r2 r q2) λ_ s3 ⟨H3,I3,q3⟩=>?_))));exact wpAny_release ⟨σ,H3,I3,q3⟩
def F3(te:TE)(g:TG):TS:=λD σ H=>te σ H λx H1=>g x σ H1 D.nx
def QZ{tg e:Expr}{te:TE}{g:TG}(he:PE X e te)(hg:PG X tg g)(hs:swapsWithSole [tg] e pos.line X.env=pure false:=by rfl)(hw:swappedStores [tg] e X.env=pure none:=by rfl)
 (h1:(assignEach [tg] X.env).map (·.2)=[assign tg X.env]:=by rfl):PS X (.Assign [tg] e pos) (F3 te g):=by
 intro pins s σ H D I h;refine wpAny_Assign_stores (thn (he pins s σ H _ I h) λv s1 ⟨x,H1,I1,r1,q1⟩=>?_) hs hw;rw[h1];exact thn (hg pins s1 σ H1 x v _ I1 r1 q1) λ_ s2 q=>q
def Ys{i:Nat}{x:Str}{e:Expr}{te:TE}{pos':Pos}(hN:X.N.Nodup)(hi:X.N[i]?=some x)(hx:Loc X.env.scope x)(he:PE X e te)(hs:swapsWith e (some (.Name x pos')) pos.line X.env=pure false:=by rfl)(hf:X.fn x=true∨X.env.scope.names.lookup x=some .local:=by first|exact .inl rfl|exact .inr rfl|assumption):
 PS X (.Assign [.Name x pos'] e pos) (F3 te (EE i)):=by
 intro pins s σ H D I h;refine wpAny_Assign_Name (thn (he pins s σ H _ I h) λv s1 ⟨y,H1,I1,r1,q1⟩=>?_) hs;exact G9 I1 hN hi hx r1 (λs2 I2=>⟨_,H1,I2,q1⟩) hf
end
structure It where
 go:Nat->Hp->Prop
 yld:Nat->Hp->V->Hp->Prop
 stop:Nat->Hp->Prop
def FpOk(X:Cx)(pins:List (Addr×Obj))(H:Hp)(b:Addr):Prop:=
 H b=none/\b≠X.env.locals/\b∉X.fs/\(b∈X.ex∨X.s₀.heap.objs.size<=b)/\(∀x c,X.env.cells.lookup x=some c->c≠b)/\∀p∈X.pn++pins,p.1≠b
def Inv.fpOk{X:Cx}{pins:List (Addr×Obj)}{σ:St}{H H':Hp}{s:Shared}{b:Addr}(I:Inv X pins σ H s)(hb:s.heap.objs.size<=b)(hn:H' b=none):FpOk X pins H' b:=by
 refine⟨hn,ne_of_gt (lt_of_lt_of_le I.lt hb),I.nofs hb,.inr (le_trans I.sz hb),λx c e z=>?_,λp hp z=>?_⟩
 .obtain⟨v,q⟩:=I.cell x c e;exact absurd (lt_of_lt_of_le q.lt (by rw[z];exact hb)) (lt_irrefl _)
 .exact absurd (lt_of_lt_of_le (Heap.lt_size (I.pin p hp).1) (by rw[z];exact hb)) (lt_irrefl _)
structure Turn(P:Program)(w:World)(K:PySem.W.Frag)(tg:Expr)(J:It)(fp:List Addr)(it:Addr)(tn:Nat->Heap->Prop):Prop where
 mem:it∈fp
 obj:∀i h,tn i h->∀b∈fp,∃o,h.get? b=some o/\∀v,o.data≠.cell v
 keep:∀i h h',tn i h->(∀b∈fp,∀o,h.get? b=some o->h'.get? b=some o)->tn i h'
 item:∀(X:Cx),X.prog=P->X.w=w->X.K=K->X.calm=true->∀(i:Nat) (pins:List (Addr×Obj)) (s:Shared) (σ:St) (H:Hp) (E:Value->Shared->Prop),Inv X pins σ H s->(∀b∈fp,FpOk X pins H b)->tn i s.heap->J.go i H ->
  wpAny (model P w) X.A (pyNext (.ref it)) (λr s1=>∃u,r=some u /\
   wpAny (model P w) X.A (letOwnedTupleGo tg (.ref it) u) (λ_ s2=>∃x H',Inv X pins σ H' s2/\RelV x u/\J.yld i H x H'/\tn (i+1) s2.heap/\∀b∈fp,H' b=none) E s1) E s
 done:∀(X:Cx),X.prog=P->X.w=w->X.K=K->X.calm=true->∀(i:Nat) (pins:List (Addr×Obj)) (s:Shared) (σ:St) (H:Hp) (E:Value->Shared->Prop),Inv X pins σ H s->(∀b∈fp,FpOk X pins H b)->tn i s.heap->J.stop i H ->
  wpAny (model P w) X.A (pyNext (.ref it)) (λr s1=>r=none/\Inv X pins σ H s1) E s
 self:∀(A:Around) (i:Nat) (s:Shared) (Q:Value->Shared->Prop) (E:Value->Shared->Prop),tn i s.heap->Q (.ref it) s->wpAny (model P w) A (pyIter (.ref it)) Q E s
abbrev TI:=St->Hp->(It->Hp->Prop)->Prop
def PIE(X:Cx)(pins:List (Addr×Obj))(σ:St)(tg:Expr)(R:It->Hp->Prop)(itv:Value)(s2:Shared):Prop:=
 ∃(it:Addr) (fp:List Addr) (tn:Nat->Heap->Prop) (J:It) (H':Hp),itv=.ref it/\Inv X pins σ H' s2/\Turn X.prog X.w X.K tg J fp it tn/\tn 0 s2.heap/\(∀b∈fp,FpOk X pins H' b)/\R J H'
def PI(X:Cx)(tg iter:Expr)(wi:TI):Prop:=
 ∀(pins:List (Addr×Obj)) (s:Shared) (σ:St) (H:Hp) (R:It->Hp->Prop),Inv X pins σ H s->wi σ H R ->
   wpAny (model X.prog X.w) X.A (eval iter X.env) (λv s1=>wpAny (model X.prog X.w) X.A (pyIter v) (PIE X pins σ tg R) X.xe s1) X.xe s
def PK{M:Model}{A:Around}{E:Value->Shared->Prop}{s:Shared}{tg:Expr}{it:Addr}{u:Value}{o:Obj}{n:String}{vs:Array Value}{Q:Unit->Shared->Prop}(ho:s.heap.get? it=some o)(hc:o.cls=.type n)(hd:o.data=.fields vs)
 (hn:["enumerate","zip","dict_itemiterator","dict_reverseitemiterator","odict_iterator","itertools.zip_longest","itertools.pairwise"].contains n=false) (hQ:Q () s):wpAny M A (letOwnedTupleGo tg (.ref it) u) Q E s:=by
 unfold letOwnedTupleGo;cases tg<;>first
  |exact wpAny_pure hQ
  | (cases u<;>first
   |exact wpAny_pure hQ
   | (refine wpAny_bind (wpAny_load ho ?_)
      rw[hc,hd];show wpAny M A (if(["enumerate","zip","dict_itemiterator","dict_reverseitemiterator","odict_iterator","itertools.zip_longest","itertools.pairwise"].contains n&&vs[0]?==some (rawInt _))=true then _ else _) Q E s;rw[if_neg (by intro h;rw[hn,Bool.false_and]at h;cases h)];exact wpAny_pure hQ))
def Itl(K:PySem.W.Frag)(a:Addr):It:=
 ⟨λi H=>∃xs x,SqL K H a xs/\xs[i]?=some x,λi H x H'=>H'=H/\∀xs,SqL K H a xs->xs[i]?=some x,λi H=>∃xs,SqL K H a xs/\xs.length<=i⟩
def Itt(K:PySem.W.Frag)(a:Addr):It:=
 ⟨λi H=>∃xs x,SqT K H a xs/\xs[i]?=some x,λi H x H'=>H'=H/\∀xs,SqT K H a xs->xs[i]?=some x,λi H=>∃xs,SqT K H a xs/\xs.length<=i⟩
def Itr(lo:Int)(n:Nat):It:=⟨λi _=>i<n,λi H x H'=>H'=H/\x=.int (lo+i),λi _=>n<=i⟩
def Pn{P:Program}{w:World}{K:PySem.W.Frag}{tg:Expr}(a it:Addr):Turn P w K tg (Itl K a) [it] it (λi h=>h.IsListIter it a i) where
 mem:=by simp
 obj:=λi h st b hb=>by
  have e:b=it:=by simpa using hb
  subst e;obtain⟨o,e,c,d⟩:=st;exact⟨o,e,λv z=>by rw[d]at z;cases z⟩
 keep:=λi h h' st k=>st.at λo e=>k it (by simp) o e
 item:=by
  intro X hP hw hK hc i pins s σ H E I hf st hg;subst hP hw hK;obtain⟨xs,x,hq,hx⟩:=hg;obtain⟨its,rv,p,hz⟩:=I.list hq;obtain⟨u,hu,ru⟩:=rv.get hx;obtain⟨f0,f1,f2,f3,f4,f5⟩:=hf it (by simp);refine wpAny_pyNext_list_item st p.isList (x:=u) (by simpa using hu) λh' st' sb=>?_;have I1:Inv X pins σ H { s with heap:=h' }:=I.turned (t':=s.toks) (λb o hb e=>(sb.2 b hb).trans e) f0 f1 f3 f4 f5;obtain⟨o,e,c,d⟩:=id st';exact⟨u,rfl,PK (s:={ s with heap:=h' }) e c d (by decide) ⟨x,H,I1,ru,⟨rfl,λys hy=>by rw[I.list_inj hy hq];exact hx⟩,st',λb hb=>(hf b hb).1⟩⟩
 done:=by
  intro X hP hw hK hc i pins s σ H E I hf st hg;subst hP hw hK;obtain⟨xs,hq,hx⟩:=hg;obtain⟨its,rv,p,hz⟩:=I.list hq;obtain⟨f0,f1,f2,f3,f4,f5⟩:=hf it (by simp);have hl:=rv.length;exact wpAny_pyNext_list_end (I.ok.hd hc) st p.isList (by simp;omega) λh' eb=>⟨rfl,I.turned (t':=s.toks) (λb o hb e=>eb b o hb e) f0 f1 f3 f4 f5⟩
 self:=λ_ _ _ _ _ st h=>wpAny_pyIter_listiter st h
def OE{P:Program}{w:World}{K:PySem.W.Frag}{tg:Expr}(a it:Addr):Turn P w K tg (Itt K a) [it] it (λi h=>h.IsTupleIter it a i) where
 mem:=by simp
 obj:=λi h st b hb=>by
  have e:b=it:=by simpa using hb
  subst e;obtain⟨o,e,c,d⟩:=st;exact⟨o,e,λv z=>by rw[d]at z;cases z⟩
 keep:=λi h h' st k=>st.at λo e=>k it (by simp) o e
 item:=by
  intro X hP hw hK hc i pins s σ H E I hf st hg;subst hP hw hK;obtain⟨xs,x,hq,hx⟩:=hg;obtain⟨its,rv,p,hz⟩:=I.tuple hq;obtain⟨u,hu,ru⟩:=rv.get hx;obtain⟨f0,f1,f2,f3,f4,f5⟩:=hf it (by simp);refine wpAny_pyNext_tuple_item st (show s.heap.IsTuple a its.toArray from p) (x:=u) (by simpa using hu) λh' st' sb=>?_;have I1:Inv X pins σ H { s with heap:=h' }:=I.turned (t':=s.toks) (λb o hb e=>(sb.2 b hb).trans e) f0 f1 f3 f4 f5;obtain⟨o,e,c,d⟩:=id st';exact⟨u,rfl,PK (s:={ s with heap:=h' }) e c d (by decide) ⟨x,H,I1,ru,⟨rfl,λys hy=>by rw[I.tuple_inj hy hq];exact hx⟩,st',λb hb=>(hf b hb).1⟩⟩
 done:=by
  intro X hP hw hK hc i pins s σ H E I hf st hg;subst hP hw hK;obtain⟨xs,hq,hx⟩:=hg;obtain⟨its,rv,p,hz⟩:=I.tuple hq;obtain⟨f0,f1,f2,f3,f4,f5⟩:=hf it (by simp);have hl:=rv.length;exact wpAny_pyNext_tuple_end (I.ok.hd hc) st (show s.heap.IsTuple a its.toArray from p) (by simp;omega) λh' eb=>⟨rfl,I.turned (t':=s.toks) (λb o hb e=>eb b o hb e) f0 f1 f3 f4 f5⟩
 self:=λ_ _ _ _ _ st h=>wpAny_pyIter_tupleiter st h
def OF{P:Program}{w:World}{K:PySem.W.Frag}{tg:Expr}(it:Addr)(lo:Int)(n:Nat):Turn P w K tg (Itr lo n) [it] it (λi h=>IsRangeIter h it (lo+(i:Nat)*1) ((n:Int)-(i:Nat)) 1) where
 mem:=by simp
 obj:=λi h st b hb=>by
  have e:b=it:=by simpa using hb
  subst e;exact⟨_,st,λv z=>by
   have z':Data.fields _=Data.cell v:=z;cases z'⟩
 keep:=λi h h' st k=>k it (by simp) _ st
 item:=by
  intro X hP hw hK hc i pins s σ H E I hf st hg;subst hP hw hK;obtain⟨f0,f1,f2,f3,f4,f5⟩:=hf it (by simp);have W:=Walks.range (prog:=X.prog) (w:=X.w) (I.ok.hd hc) it lo 1 n;refine W.item i s _ _ hg st λv h' tk hv st' kk=>?_;obtain⟨t,rfl⟩:=hv;have I1:Inv X pins σ H { s with heap:=h',toks:=tk }:=I.turned (λb o hb e=>kk b o (by simpa using hb) e) f0 f1 f3 f4 f5;refine⟨_,rfl,PK (s:={ s with heap:=h',toks:=tk }) (n:="range_iterator") st' rfl rfl (by decide) ⟨.int (lo+i),H,I1,⟨t,?_⟩,⟨rfl,rfl⟩,st',λb hb=>(hf b hb).1⟩⟩;rw[Int.mul_one]
 done:=by
  intro X hP hw hK hc i pins s σ H E I hf st hg;subst hP hw hK;obtain⟨f0,f1,f2,f3,f4,f5⟩:=hf it (by simp);exact wpAny_pyNext_range_end (I.ok.hd hc) st (by have:n<=i:=hg;omega) λh' eb=>⟨rfl,I.turned (t':=s.toks) (λb o hb e=>eb b o hb e) f0 f1 f3 f4 f5⟩
 self:=λ_ _ _ _ _ st h=>wpAny_pyIter_rangeiter st h
section
variable{X:Cx}{tg:Expr}
def Hu(K:PySem.W.Frag)(tl:TE):TI:=λσ H R=>tl σ H λx H1=>∃a,x=.ref a/\(∃xs,SqL K H1 a xs)/\R (Itl K a) H1
def P9(K:PySem.W.Frag)(tl:TE):TI:=λσ H R=>tl σ H λx H1=>∃a,x=.ref a/\(∃xs,SqT K H1 a xs)/\R (Itt K a) H1
def WB{l:Expr}{tl:TE}(hl:PE X l tl):PI X tg l (Hu X.K tl):=by
 intro pins s σ H R I h;refine thn (hl pins s σ H _ I h) λv s1 ⟨x,H1,I1,r1,q1⟩=>?_;obtain⟨a,e,⟨xs,hq⟩,q⟩:=q1;subst e;cases r1;obtain⟨its,rv,p,hz⟩:=I1.list hq;refine wpAny_pyIter_list p.isList ?_;refine⟨s1.heap.objs.size,[s1.heap.objs.size],_,_,H1,rfl,I1.kept (t':=s1.toks) λb o e=>Heap.get?_push_of_some _ e,Pn a _,⟨_,Heap.get?_push_size _ rfl,rfl,rfl⟩,λb hb=>?_,q⟩;have e:b=s1.heap.objs.size:=by simpa using hb
 subst e;exact I1.fpOk (le_refl _) (I1.hok.fresh (le_refl _))
def Yw{l:Expr}{tl:TE}(hl:PE X l tl):PI X tg l (P9 X.K tl):=by
 intro pins s σ H R I h;refine thn (hl pins s σ H _ I h) λv s1 ⟨x,H1,I1,r1,q1⟩=>?_;obtain⟨a,e,⟨xs,hq⟩,q⟩:=q1;subst e;cases r1;obtain⟨its,rv,p,hz⟩:=I1.tuple hq;refine wpAny_pyIter_tuple (show s1.heap.IsTuple a its.toArray from p) ?_;refine⟨s1.heap.objs.size,[s1.heap.objs.size],_,_,H1,rfl,I1.kept (t':=s1.toks) λb o e=>Heap.get?_push_of_some _ e,OE a _,⟨_,Heap.get?_push_size _ rfl,rfl,rfl⟩,λb hb=>?_,q⟩;have e:b=s1.heap.objs.size:=by simpa using hb
 subst e;exact I1.fpOk (le_refl _) (I1.hok.fresh (le_refl _))
def M0{pins:List (Addr×Obj)}{σ:St}{H:Hp}{s:Shared}{R:It->Hp->Prop}{E:Value->Shared->Prop}{lo hi:Int}{t u v:Tok}{tk:Nat}(I:Inv X pins σ H s)(h1:-(2^62)<=lo)(h2:lo<2^62)(h3:-(2^62)<=hi)(h4:hi<2^62)
 (q:R (Itr lo (hi-lo).toNat) H):wpAny (model X.prog X.w) X.A (pyIter (.ref s.heap.objs.size)) (PIE X pins σ tg R) E { s with heap:=s.heap.push { cls:=.type "range",data:=.fields #[.int lo t,.int hi u,.int 1 v] },toks:=tk }:=by
 refine wpAny_pyIter_range (IsRange.new ..) (small_one h1 h2 h3 h4) ?_;have I1:Inv X pins σ H { s with heap:=s.heap.push { cls:=.type "range",data:=.fields #[.int lo t,.int hi u,.int 1 v] },toks:=tk }:=I.kept λb o e=>Heap.get?_push_of_some _ e;refine⟨(s.heap.push { cls:=.type "range",data:=.fields #[.int lo t,.int hi u,.int 1 v] }).objs.size,[(s.heap.push { cls:=.type "range",data:=.fields #[.int lo t,.int hi u,.int 1 v] }).objs.size],_,_,H,rfl,
  I1.kept (t':=tk) λb o e=>Heap.get?_push_of_some _ e,OF _ lo (hi-lo).toNat,?_,λb hb=>?_,q⟩
 .have e1:lo+((0:Nat):Int)*1=lo:=by simp
  have e2:(((hi-lo).toNat:Nat):Int)-((0:Nat):Int)=Builtin.Range.rangeSize lo hi 1:=by rw[rangeSize_one];split<;>omega
  show IsRangeIter _ _ (lo+((0:Nat):Int)*1) ((((hi-lo).toNat:Nat):Int)-((0:Nat):Int)) 1;rw[e1,e2];exact Heap.get?_push_size _ rfl
 .have e:b=(s.heap.push { cls:=.type "range",data:=.fields #[.int lo t,.int hi u,.int 1 v] }).objs.size:=by simpa using hb
  subst e;exact I1.fpOk (le_refl _) (I1.hok.fresh (le_refl _))
def PD(ta:TA):TI:=λσ H R=>ta σ H λvs H1=>∃j:Int,vs=[.int j]/\-(2^62)<=j/\j<2^62/\R (Itr 0 j.toNat) H1
def PB(ta:TA):TI:=λσ H R=>ta σ H λvs H1=>∃i j:Int,vs=[.int i,.int j]/\(-(2^62)<=i/\i<2^62/\-(2^62)<=j/\j<2^62)/\R (Itr i (j-i).toNat) H1
def Qd{a:Expr}{ta:TA}{p pos:Pos}(hg:Gl X "range")(hm:X.mg "range"=none)(ha:PA X [a] ta)(hs:starEach [a] X.env=[(false,eval a X.env)]:=by rfl):PI X tg (.Call (.Name "range" p) [a] [] pos) (PD ta):=by
 intro pins s σ H R I h;refine Call_ (D0 I hg hm boot_range (PyProof.Rows.callWith_type1 (thn (ha pos pins s σ H _ I h) λus s1 ⟨vs,H1,I1,r1,q1⟩=>?_) hs rfl));obtain⟨j,e,q1,q2,q⟩:=q1;subst e;cases r1 with
 |cons r rr=>
  cases rr;obtain⟨t,rfl⟩:=r;exact call_range_1 (M0 I1 (by omega) (by omega) q1 q2 (by simpa using q))
def Qc{a b:Expr}{ta:TA}{p pos:Pos}(hg:Gl X "range")(hm:X.mg "range"=none)(ha:PA X [a,b] ta)(hs:starEach [a,b] X.env=[(false,eval a X.env),(false,eval b X.env)]:=by rfl)(hs2:starEach [b] X.env=[(false,eval b X.env)]:=by rfl):
 PI X tg (.Call (.Name "range" p) [a,b] [] pos) (PB ta):=by
 intro pins s σ H R I h;refine Call_ (D0 I hg hm boot_range (PyProof.Rows.callWith_type1 (thn (ha pos pins s σ H _ I h) λus s1 ⟨vs,H1,I1,r1,q1⟩=>?_) (by rw[hs,hs2]) (by rw[hs2];rfl)));obtain⟨i,j,e,⟨q1,q2,q3,q4⟩,q⟩:=q1;subst e;cases r1 with
 |cons r rr=>
  cases rr with
  |cons r' rr=>
   cases rr;obtain⟨t,rfl⟩:=r;obtain⟨t',rfl⟩:=r';exact call_range_2 (M0 I1 q1 q2 q3 q4 q)
def La(wi:TI)(g:TG)(tb:TS):TS:=λD σ H=>wi σ H λJ H1=>∃W:Nat->Nat->St->Hp->Prop,(∃m,W 0 m σ H1)/\∀i m σ H,W i m σ H ->
 (J.stop i H/\D.nx σ H)∨(J.go i H/\∃N:St->Hp->Prop,(∀σ' H',N σ' H'->∃m',m'<m/\W (i+1) m' σ' H')/\∀x H',J.yld i H x H'->g x σ H' λσ2 H2=>tb { D with nx:=N,ct:=N,bk:=D.nx } σ2 H2)
def F9(fp:List Addr)(h:Heap):List (Addr×Obj):=fp.filterMap λb=>(h.get? b).map λo=>(b,o)
def CH{fp:List Addr}{h:Heap}{b:Addr}{o:Obj}(hb:b∈fp)(e:h.get? b=some o):(b,o)∈F9 fp h:=List.mem_filterMap.mpr ⟨b,hb,by rw[e];rfl⟩
def Qh{fp:List Addr}{h:Heap}{p:Addr×Obj}(hp:p∈F9 fp h):p.1∈fp/\h.get? p.1=some p.2:=by
 obtain⟨b,hb,e⟩:=List.mem_filterMap.mp hp;cases q:h.get? b with
 |none=>rw[q]at e;cases e
 |some o=>
  rw[q]at e;have e':(b,o)=p:=Option.some.inj e;subst e';exact⟨hb,q⟩
def Inv.pinned{pins:List (Addr×Obj)}{σ:St}{H:Hp}{s:Shared}{fp:List Addr}(I:Inv X pins σ H s)(hf:∀b∈fp,FpOk X pins H b)(ho:∀b∈fp,∃o,s.heap.get? b=some o/\∀v,o.data≠.cell v):Inv X (pins++F9 fp s.heap) σ H s:=
 I.pins_of λp hp=>(mem_append.mp hp).elim (λz=>I.pin p (mem_append_right _ z)) λz=>by
  obtain⟨hb,e⟩:=Qh z;obtain⟨f0,f1,f2,_⟩:=hf p.1 hb;obtain⟨o,e',d⟩:=ho p.1 hb;rw[e]at e';cases e';exact⟨e,f0,f1,f2,d⟩
def Inv.unpinned{pins pl:List (Addr×Obj)}{σ:St}{H:Hp}{s:Shared}(I:Inv X (pins++pl) σ H s):Inv X pins σ H s:=I.pins_of λp hp=>I.pin p (mem_append_right _ (mem_append_left _ hp))
def Yu{iter:Expr}{body:List Stmt}{wi:TI}{g:TG}{tb:TS}{pos:Pos}(hp:PassesOwn (model X.prog X.w) X.A X.env X.xe)(hc:X.calm=true)(hi:PI X tg iter wi)(hg:PG X tg g)(hb:PSs X body tb)
 (hs:∀x,foldedSetIterable iter X.env x=pure x:=by intro _;rfl):PS X (.For tg iter body [] pos) (La wi g tb):=by
 intro pins s σ H D I h;refine wpAny_For (thn (hi pins s σ H _ I h) λv s1 h1=>thn h1 λitv s2 h2=>?_) hs;obtain⟨it,fp,tn,J,H2,e,I2,T,st2,f2,W,⟨m0,w0⟩,turn⟩:=h2;subst e
 -- what stays true of the iterator's objects through the loop
 have stat:∀{H':Hp},(∀b∈fp,H' b=none)->∀b∈fp,FpOk X pins H' b:=λhn b hb=>⟨hn b hb,(f2 b hb).2⟩
 refine codeAny_forLoop_any (λn s'=>∃i σ' H',Inv X pins σ' H' s'/\tn i s'.heap/\(∀b∈fp,H' b=none)/\W i n σ' H') ?_ m0 ⟨0,σ,H2,I2,st2,λb hb=>(f2 b hb).1,w0⟩;rintro n s3 ⟨i,σ3,H3,I3,st3,fr3,w3⟩;rcases turn i n σ3 H3 w3 with⟨stop,qn⟩|⟨go,N,hN,step⟩
 .refine wpAny_passesOwn hp (thn (T.done X rfl rfl rfl hc i pins s3 σ3 H3 X.xe I3 (stat fr3) st3 stop) λr s4 ⟨hr,I4⟩=>?_);subst hr;exact wpAny_execs_nil ⟨σ3,H3,I4,qn⟩
 .refine wpAny_passesOwn hp (thn (T.item X rfl rfl rfl hc i pins s3 σ3 H3 X.xe I3 (stat fr3) st3 go) λr s4 ⟨u,hr,h4⟩=>?_);subst hr;refine wpAny_passesOwn hp (thn h4 λ_ s5 ⟨x,H5,I5,r5,y5,st5,fr5⟩=>?_);have I5':=I5.pinned (stat fr5) (T.obj _ _ st5);refine wpAny_passesOwn hp (thn (hg _ s5 σ3 H5 x u _ I5' r5 (step x H5 y5)) λ_ s6 ⟨σ6,H6,I6,q6⟩=>?_);refine wpAny_passesOwn hp (thn (hb _ s6 σ6 H6 _ I6 q6) λf s7 q7=>?_);have again:∀{σ7:St} {H7:Hp},Inv X (pins++F9 fp s5.heap) σ7 H7 s7->N σ7 H7->∃m,m<n/\∃i σ' H',Inv X pins σ' H' s7/\tn i s7.heap/\(∀b∈fp,H' b=none)/\W i m σ' H':=λ{σ7 H7} I7 n7=>by
   obtain⟨m',hm,w7⟩:=hN σ7 H7 n7;refine⟨m',hm,i+1,σ7,H7,I7.unpinned,T.keep _ _ _ st5 λb hb o e=>(I7.pin (b,o) (mem_append_right _ (mem_append_right _ (CH hb e)))).1,λb hb=>?_,w7⟩;obtain⟨o,e,d⟩:=T.obj _ _ st5 b hb;exact(I7.pin (b,o) (mem_append_right _ (mem_append_right _ (CH hb e)))).2.1
  cases f with
  |next=>obtain⟨σ7,H7,I7,n7⟩:=q7;exact again I7 n7
  |cont=>obtain⟨σ7,H7,I7,n7⟩:=q7;exact again I7 n7
  |brk=>obtain⟨σ7,H7,I7,q7⟩:=q7;exact⟨σ7,H7,I7.unpinned,q7⟩
  |ret v=>obtain⟨x7,σ7,H7,I7,r7,q7⟩:=q7;exact⟨x7,σ7,H7,I7.unpinned,r7,q7⟩
end
abbrev R2:=V->V->Hp->VK->Prop
def OpR(X:Cx)(f:Value->Value->Sem Value)(r:R2):Prop:=
 ∀(pins:List (Addr×Obj)) (s:Shared) (σ:St) (H:Hp) (x y:V) (v u:Value) (Q:VK),Inv X pins σ H s->RelV x v->RelV y u->r x y H Q ->
   wpAny (model X.prog X.w) X.A (f v u) (EP X pins σ Q) X.xe s
def UnR(X:Cx)(f:Value->Sem Value)(r:V->Hp->VK->Prop):Prop:=
 ∀(pins:List (Addr×Obj)) (s:Shared) (σ:St) (H:Hp) (x:V) (v:Value) (Q:VK),Inv X pins σ H s->RelV x v->r x H Q ->
   wpAny (model X.prog X.w) X.A (f v) (EP X pins σ Q) X.xe s
def CallR(X:Cx)(f:Value)(r:List V->Hp->VK->Prop):Prop:=
 ∀(pins:List (Addr×Obj)) (s:Shared) (σ:St) (H:Hp) (xs:List V) (us:List Value) (Q:VK),Inv X pins σ H s->Vals xs us->r xs H Q ->
   wpAny (model X.prog X.w) X.A (call f us) (EP X pins σ Q) X.xe s
def c9(X:Cx)(r:V->Hp->(Bool->Hp->Prop)->Prop):Prop:=
 ∀(pins:List (Addr×Obj)) (s:Shared) (σ:St) (H:Hp) (x:V) (v:Value) (Q:Bool->Hp->Prop),Inv X pins σ H s->RelV x v->r x H Q ->
   wpAny (model X.prog X.w) X.A (truthy v) (TP X pins σ Q) X.xe s
def tOp(r:R2)(ta tb:TE):TE:=λσ H Q=>ta σ H λx H1=>tb σ H1 λy H2=>r x y H2 Q
def tUn(r:V->Hp->VK->Prop)(ta:TE):TE:=λσ H Q=>ta σ H λx H1=>r x H1 Q
def rI(C:Int->Int->Prop)(g:Int->Int->V):R2:=λx y H Q=>∃i j,x=.int i/\y=.int j/\C i j/\Q (g i j) H
def rI0(g:Int->Int->V):R2:=λx y H Q=>∃i j,x=.int i/\y=.int j/\Q (g i j) H
def rU(g:Int->V):V->Hp->VK->Prop:=λx H Q=>∃i,x=.int i/\Q (g i) H
section
variable{X:Cx}{a b c:Expr}{ta tb tc:TE}{pos:Pos}
def Tv(ha:PE X a ta)(hb:PE X b tb){pins:List (Addr×Obj)}{s:Shared}{σ:St}{H:Hp}{R:V->V->Hp->Prop}(I:Inv X pins σ H s)
 (h:ta σ H λx H1=>tb σ H1 λy H2=>R x y H2) {Q:Value->Shared->Prop} {f:Value->Value->Sem Value}
 (hf:∀v u s2 x y H2,Inv X pins σ H2 s2->RelV x v->RelV y u->R x y H2->wpAny (model X.prog X.w) X.A (f v u) Q X.xe s2):
 wpAny (model X.prog X.w) X.A (eval a X.env) (λv s₁=>wpAny (model X.prog X.w) X.A (eval b X.env) (λu s₂=>wpAny (model X.prog X.w) X.A (f v u) Q X.xe s₂) X.xe s₁) X.xe s:=by
 refine thn (ha pins s σ H _ I h) λv s1 ⟨x,H1,I1,r1,q1⟩=>?_;refine thn (hb pins s1 σ H1 _ I1 q1) λu s2 ⟨y,H2,I2,r2,q2⟩=>?_;exact hf v u s2 x y H2 I2 r1 r2 q2
def LF{op:Operator}{r:R2}(ho:OpR X (binaryOp op) r)(ha:PE X a ta)(hb:PE X b tb):PE X (.BinOp a op b pos) (tOp r ta tb):=by
 intro pins s σ H Q I h;exact wpAny_BinOp (Tv ha hb I h λv u s2 x y H2 I2 rx ry q=>ho pins s2 σ H2 x y v u Q I2 rx ry q)
def aY{op:UnaryOp}{r:V->Hp->VK->Prop}(ho:UnR X (unaryOp op) r)(ha:PE X a ta):PE X (.UnaryOp op a pos) (tUn r ta):=by
 intro pins s σ H Q I h;exact UnaryOp_ (thn (ha pins s σ H _ I h) λv s1 ⟨x,H1,I1,r1,q1⟩=>ho pins s1 σ H1 x v Q I1 r1 q1)
def opI{f:Value->Value->Sem Value}{C:Int->Int->Prop}{g:Int->Int->Int}
 (rule:∀(i j:Int) (t u:Tok) (s:Shared) (Q:Value->Shared->Prop) (E:Value->Shared->Prop),C i j->Q (.int (g i j) s.toks) { s with toks:=s.toks+1 }->wpAny (model X.prog X.w) X.A (f (.int i t) (.int j u)) Q E s):
 OpR X f (rI C λi j=>.int (g i j)):=by
 intro pins s σ H x y v u Q I rx ry h;obtain⟨i,j,rfl,rfl,hc,q⟩:=h;obtain⟨t,rfl⟩:=rx;obtain⟨t',rfl⟩:=ry;exact rule i j t t' s _ _ hc ⟨.int (g i j),H,I.tok _,⟨_,rfl⟩,q⟩
def ZK{f:Value->Value->Sem Value}{g:Int->Int->Int}
 (rule:∀(i j:Int) (t u:Tok) (s:Shared) (Q:Value->Shared->Prop) (E:Value->Shared->Prop),Q (.int (g i j) s.toks) { s with toks:=s.toks+1 }->wpAny (model X.prog X.w) X.A (f (.int i t) (.int j u)) Q E s):
 OpR X f (rI0 λi j=>.int (g i j)):=by
 intro pins s σ H x y v u Q I rx ry h;obtain⟨i,j,rfl,rfl,q⟩:=h;obtain⟨t,rfl⟩:=rx;obtain⟨t',rfl⟩:=ry;exact rule i j t t' s _ _ ⟨.int (g i j),H,I.tok _,⟨_,rfl⟩,q⟩
def Oo{f:Value->Value->Sem Value}{g:Int->Int->Bool}
 (rule:∀(i j:Int) (t u:Tok) (s:Shared) (Q:Value->Shared->Prop) (E:Value->Shared->Prop),Q (.bool (g i j)) s->wpAny (model X.prog X.w) X.A (f (.int i t) (.int j u)) Q E s):
 OpR X f (rI0 λi j=>.bl (g i j)):=by
 intro pins s σ H x y v u Q I rx ry h;obtain⟨i,j,rfl,rfl,q⟩:=h;obtain⟨t,rfl⟩:=rx;obtain⟨t',rfl⟩:=ry;exact rule i j t t' s _ _ ⟨.bl (g i j),H,I,rfl,q⟩
def a8(i j:Int):Prop:=0<j/\j<1073741824
def a7(i j:Int):Prop:=0<=j/\j<=1000000/\i.natAbs<2^64
def CMul(i j:Int):Prop:=(-(2^64)<i/\i<2^64)∨(-(2^64)<j/\j<2^64)
def CMul.ok{i j:Int}(h:CMul i j):IntMulOk i j:=by
 rcases h with⟨h1,h2⟩|⟨h1,h2⟩
 .exact .of_left (intBits_le_64 h1 h2)
 .exact .of_right (intBits_le_64 h1 h2)
def Qg:OpR X (binaryOp .Add) (rI0 λi j=>.int (i+j)):=ZK λ_ _ _ _ _ _ _ q=>add_int q
def ZB:OpR X (binaryOp .Sub) (rI0 λi j=>.int (i-j)):=ZK λ_ _ _ _ _ _ _ q=>sub_int q
def ZG:OpR X (binaryOp .Mult) (rI CMul λi j=>.int (i*j)):=opI λ_ _ _ _ _ _ _ hc q=>mul_int q hc.ok
def WU:OpR X (binaryOp .FloorDiv) (rI a8 λi j=>.int (i/j)):=opI λi j _ _ _ _ _ hc q=>by
 have h1:(0:Int)<j:=hc.1;have h2:j<1073741824:=hc.2;exact floordiv_int (by omega) (by rw[Int.fdiv_eq_ediv_of_nonneg i (by omega)];exact q) (.inl (PyProof.noPylong_small (by omega)))
def ZH:OpR X (binaryOp .Mod) (rI (λ_ j=>0<j) λi j=>.int (i%j)):=opI λi j _ _ _ _ _ hc q=>by
 have h1:(0:Int)<j:=hc;exact mod_int' (by omega) (by rw[Int.fmod_eq_emod_of_nonneg i (by omega)];exact q)
def ZD:OpR X (binaryOp .Pow) (rI a7 λi j=>.int (i^j.toNat)):=opI λ_ _ _ _ _ _ _ hc q=>pow_int_small hc.1 hc.2.1 hc.2.2 q
def unI{f:Value->Sem Value}{g:Int->Int}
 (rule:∀(i:Int) (t:Tok) (s:Shared) (Q:Value->Shared->Prop) (E:Value->Shared->Prop),Q (.int (g i) s.toks) { s with toks:=s.toks+1 }->wpAny (model X.prog X.w) X.A (f (.int i t)) Q E s):
 UnR X f (rU λi=>.int (g i)):=by
 intro pins s σ H x v Q I rx h;obtain⟨i,rfl,q⟩:=h;obtain⟨t,rfl⟩:=rx;exact rule i t s _ _ ⟨.int (g i),H,I.tok _,⟨_,rfl⟩,q⟩
def XQ:UnR X (unaryOp .USub) (rU λi=>.int (-i)):=unI λ_ _ _ _ _ q=>neg_int q
end
def Lg:V->V->Bool
 |.non,.non=>true|.non,.int _=>true|.int _,.non=>true|.non,.bl _=>true|.bl _,.non=>true|.non,.str _=>true|.str _,.non=>true
 |.int _,.int _=>true|.bl _,.bl _=>true|.str _,.str _=>true|.byt _,.byt _=>true
 |.int _,.str _=>true|.str _,.int _=>true|.bl _,.str _=>true|.str _,.bl _=>true
 |_,_=>false
def rEq:R2:=λx y H Q=>Lg x y=true/\Q (.bl (decide (x=y))) H
def rNe:R2:=λx y H Q=>Lg x y=true/\Q (.bl (!decide (x=y))) H
def O4{i j:Int}:decide (V.int i=V.int j)=(i==j):=by
 rw[Bool.eq_iff_iff];simp
def RV{i j:Bool}:decide (V.bl i=V.bl j)=(i==j):=by
 rw[Bool.eq_iff_iff];simp
def O3{i j:Str}:decide (V.str i=V.str j)=(i==j):=by
 rw[Bool.eq_iff_iff];simp
def O5{i j:Array UInt8}:decide (V.byt i=V.byt j)=(i.toList==j.toList):=by
 rw[Bool.eq_iff_iff];cases i;cases j;simp
section
variable{X:Cx}{a b c:Expr}{ta tb tc:TE}{pos:Pos}
def An{pins:List (Addr×Obj)}{σ:St}{H:Hp}{s:Shared}{Q:VK}{k k':Bool}(I:Inv X pins σ H s)(q:Q (.bl k) H)(e:k=k'):EP X pins σ Q (.bool k') s:=by
 subst e;exact⟨.bl k,H,I,rfl,q⟩
def UR:OpR X (compareOp .Eq) rEq:=by
 intro pins s σ H x y v u Q I rx ry h;obtain⟨hs,q⟩:=h;cases x with
 |non=>
  cases rx;cases y with
  |non=>cases ry;exact PySem.EqNone.eq_none_none (An I q (by simp))
  |bl j=>cases ry;exact PySem.EqNone.eq_none_bool (An I q (by simp))
  |int j=>obtain⟨t',rfl⟩:=ry;exact PySem.EqNone.eq_none_int (An I q (by simp))
  |str j=>obtain⟨t',rfl⟩:=ry;exact PySem.EqNone.eq_none_str (An I q (by simp))
  |_=>exact absurd (show false=true from hs) Bool.false_ne_true
 |bl i=>
  cases rx;cases y with
  |non=>cases ry;exact PySem.EqNone.eq_bool_none (An I q (by simp))
  |bl j=>cases ry;exact eq_bool (An I q RV)
  |str j=>obtain⟨t',rfl⟩:=ry;exact PySem.EqMixed.eq_bool_str (An I q (by simp))
  |_=>exact absurd (show false=true from hs) Bool.false_ne_true
 |int i=>
  obtain⟨t,rfl⟩:=rx;cases y with
  |non=>cases ry;exact PySem.EqNone.eq_int_none (An I q (by simp))
  |int j=>obtain⟨t',rfl⟩:=ry;exact eq_int (An I q O4)
  |str j=>obtain⟨t',rfl⟩:=ry;exact PySem.EqMixed.eq_int_str (An I q (by simp))
  |_=>exact absurd (show false=true from hs) Bool.false_ne_true
 |str i=>
  obtain⟨t,rfl⟩:=rx;cases y with
  |non=>cases ry;exact PySem.EqNone.eq_str_none (An I q (by simp))
  |bl j=>cases ry;exact PySem.EqMixed.eq_str_bool (An I q (by simp))
  |int j=>obtain⟨t',rfl⟩:=ry;exact PySem.EqMixed.eq_str_int (An I q (by simp))
  |str j=>obtain⟨t',rfl⟩:=ry;exact eq_str (An I q O3)
  |_=>exact absurd (show false=true from hs) Bool.false_ne_true
 |byt i=>
  obtain⟨t,rfl⟩:=rx;cases y with
  |byt j=>obtain⟨t',rfl⟩:=ry;exact PySem.W.eq_bytes (An I q O5)
  |_=>exact absurd (show false=true from hs) Bool.false_ne_true
 |_=>cases y<;>exact absurd (show false=true from hs) Bool.false_ne_true
def UP:OpR X (compareOp .NotEq) rNe:=by
 intro pins s σ H x y v u Q I rx ry h;obtain⟨hs,q⟩:=h;cases x with
 |non=>
  cases rx;cases y with
  |non=>cases ry;exact PySem.EqNone.ne_none_none (An I q (by simp))
  |bl j=>cases ry;exact PySem.EqNone.ne_none_bool (An I q (by simp))
  |int j=>obtain⟨t',rfl⟩:=ry;exact PySem.EqNone.ne_none_int (An I q (by simp))
  |str j=>obtain⟨t',rfl⟩:=ry;exact PySem.EqNone.ne_none_str (An I q (by simp))
  |_=>exact absurd (show false=true from hs) Bool.false_ne_true
 |bl i=>
  cases rx;cases y with
  |non=>cases ry;exact PySem.EqNone.ne_bool_none (An I q (by simp))
  |bl j=>cases ry;exact ne_bool (An I q (congrArg not RV))
  |str j=>obtain⟨t',rfl⟩:=ry;exact PySem.EqMixed.ne_bool_str (An I q (by simp))
  |_=>exact absurd (show false=true from hs) Bool.false_ne_true
 |int i=>
  obtain⟨t,rfl⟩:=rx;cases y with
  |non=>cases ry;exact PySem.EqNone.ne_int_none (An I q (by simp))
  |int j=>obtain⟨t',rfl⟩:=ry;exact ne_int (An I q (congrArg not O4))
  |str j=>obtain⟨t',rfl⟩:=ry;exact PySem.EqMixed.ne_int_str (An I q (by simp))
  |_=>exact absurd (show false=true from hs) Bool.false_ne_true
 |str i=>
  obtain⟨t,rfl⟩:=rx;cases y with
  |non=>cases ry;exact PySem.EqNone.ne_str_none (An I q (by simp))
  |bl j=>cases ry;exact PySem.EqMixed.ne_str_bool (An I q (by simp))
  |int j=>obtain⟨t',rfl⟩:=ry;exact PySem.EqMixed.ne_str_int (An I q (by simp))
  |str j=>obtain⟨t',rfl⟩:=ry;exact ne_str (An I q (congrArg not O3))
  |_=>exact absurd (show false=true from hs) Bool.false_ne_true
 |byt i=>
  obtain⟨t,rfl⟩:=rx;cases y with
  |byt j=>obtain⟨t',rfl⟩:=ry;exact PySem.W.ne_bytes (An I q (congrArg not O5))
  |_=>exact absurd (show false=true from hs) Bool.false_ne_true
 |_=>cases y<;>exact absurd (show false=true from hs) Bool.false_ne_true
def af:OpR X (compareOp .Lt) (rI0 λi j=>.bl (decide (i<j))):=Oo λ_ _ _ _ _ _ _ q=>lt_int q
def UQ:OpR X (compareOp .LtE) (rI0 λi j=>.bl (decide (i<=j))):=Oo λ_ _ _ _ _ _ _ q=>le_int q
def ag:OpR X (compareOp .Gt) (rI0 λi j=>.bl (decide (j<i))):=Oo λ_ _ _ _ _ _ _ q=>gt_int q
def ah:OpR X (compareOp .GtE) (rI0 λi j=>.bl (decide (j<=i))):=Oo λ_ _ _ _ _ _ _ q=>ge_int q
def OpR.or{f:Value->Value->Sem Value}{r r':R2}(h:OpR X f r)(h':OpR X f r'):OpR X f (λx y H Q=>r x y H Q∨r' x y H Q):=by
 intro pins s σ H x y v u Q I rx ry q;rcases q with q|q
 .exact h pins s σ H x y v u Q I rx ry q
 .exact h' pins s σ H x y v u Q I rx ry q
def MB(b:Expr){op:CmpOp}(h:op≠.In:=by decide)(h2:op≠.NotIn:=by decide):behindInMarks op b=false:=by
 have e1:(op==CmpOp.In)=false:=by cases op<;>first|rfl|exact absurd rfl h
 have e2:(op==CmpOp.NotIn)=false:=by cases op<;>first|rfl|exact absurd rfl h2
 cases b<;>simp[behindInMarks,e1,e2]
def WN{op:CmpOp}{r:R2}(ho:OpR X (compareOp op) r)(ha:PE X a ta)(hb:PE X b tb)(hm:behindInMarks op b=false):PE X (.Compare a [op] [b] pos) (tOp r ta tb):=by
 intro pins s σ H Q I h;exact wpAny_Compare1 (Tv ha hb I h λv u s2 x y H2 I2 rx ry q=>ho pins s2 σ H2 x y v u Q I2 rx ry q) hm
def L7(t:TE):TT:=λσ H Q=>t σ H λx H'=>∃k,x=.bl k/\Q k H'
def Nh{op:CmpOp}{r:R2}(ho:OpR X (compareOp op) r)(ha:PE X a ta)(hb:PE X b tb)(hm:behindInMarks op b=false):PT X (.Compare a [op] [b] pos) (L7 (tOp r ta tb)):=by
 intro pins s σ H Q I h;refine wpAny_isTrue_Compare1 (thn (ha pins s σ H _ I h) λv s1 ⟨x,H1,I1,r1,q1⟩=>thn (hb pins s1 σ H1 _ I1 q1) λu s2 ⟨y,H2,I2,r2,q2⟩=>
  thn (ho pins s2 σ H2 x y v u _ I2 r1 r2 q2) λc s3 ⟨z,H3,I3,r3,k,e,q3⟩=>?_) hm
 subst e;cases r3;exact wpAny_truthy_bool ⟨H3,I3,q3⟩
def Mx(K:PySem.W.Frag)(x:V)(H:Hp)(k:Bool):Prop:=
 match x with
 |.non=>k=false
 |.bl b=>k=b
 |.int i=>k=(i != 0)
 |.str y=>y.length<=sizeLine/\k=((y.length:Int) != 0)
 |.byt y=>y.size<=sizeLine/\k=((y.size:Int) != 0)
 |.ref p=>(∃xs,SqL K H p xs/\k=!xs.isEmpty)∨(∃xs,SqT K H p xs/\k=!xs.isEmpty)∨∃kvs,H p=some (.dK kvs)/\k=!kvs.isEmpty
 |_=>False
def P6{κ:Type}{kvs:List (κ×V)}{vs:List (κ×Value)}(r:KV kvs vs):(!vs.isEmpty)=!kvs.isEmpty:=by
 cases r<;>rfl
def JL{xs:List V}{its:List Value}(r:Vals xs its):(!its.toArray.isEmpty)=!xs.isEmpty:=by
 cases r<;>simp
def HJ:(sizeLine:Nat)<2^63:=by rw[sizeLine_eq];decide
def XS:c9 X (λx H Q=>∃k,Mx X.K x H k/\Q k H):=by
 intro pins s σ H x v Q I rx h;obtain⟨k,e,q⟩:=h;have hl:=HJ;have hs:sizeLine=16777216:=sizeLine_eq;cases x with
 |non=>
  cases rx;have e':k=false:=e;subst e';exact truthy_none ⟨H,I,q⟩
 |bl b=>
  cases rx;have e':k=b:=e;subst e';exact wpAny_truthy_bool ⟨H,I,q⟩
 |int i=>
  obtain⟨t,rfl⟩:=rx;have e':k=(i != 0):=e;subst e';exact PySem.P.truthy_int ⟨H,I,q⟩
 |str y=>
  obtain⟨t,rfl⟩:=rx;obtain⟨hy,e'⟩:y.length<=sizeLine/\k=((y.length:Int) != 0):=e;subst e';exact PySem.P.truthy_str (by omega) ⟨H,I.tok _,q⟩
 |byt y=>
  obtain⟨t,rfl⟩:=rx;obtain⟨hy,e'⟩:y.size<=sizeLine/\k=((y.size:Int) != 0):=e;subst e';exact PySem.W.truthy_bytes (by omega) ⟨H,I.tok _,q⟩
 |ref p=>
  cases rx;have e':(∃xs,SqL X.K H p xs/\k=!xs.isEmpty)∨(∃xs,SqT X.K H p xs/\k=!xs.isEmpty)∨∃kvs,H p=some (.dK kvs)/\k=!kvs.isEmpty:=e;rcases e' with⟨xs,hx,e'⟩|⟨xs,hx,e'⟩|⟨kvs,hx,e'⟩
  .subst e';obtain⟨its,r,pl,hz⟩:=I.list hx;have hlen:=r.length;exact wpAny_truthy_list pl.isList (by simp only[size_toArray];omega) ⟨H,I.tok _,by rw[JL r];exact q⟩
  .subst e';obtain⟨its,r,pl,hz⟩:=I.tuple hx;have hlen:=r.length;exact truthy_tuple pl (by simp only[size_toArray];omega) ⟨H,I.tok _,by rw[JL r];exact q⟩
  .subst e';obtain⟨hz,hS,vs,r,m⟩:kvs.length<=sizeLine/\(p==sysModules)=false/\∃vs,KV kvs vs/\s.heap.DictOf (BP X.prog X.w) p vs:=I.hok p _ hx;have hlen:kvs.length=vs.length:=Paired.length r;exact wpAny_truthy_dict hS m (by omega) ⟨H,I.tok _,by rw[P6 r];exact q⟩
 |_=>exact(show False from e).elim
def Sy(ha:PE X a ta)(he:∀whole,isTrue a X.env whole=(do let v <- whole;standAt a.pos;holding [v] (truthy v))):
 PT X a (λσ H Q=>ta σ H λx H'=>∃k,Mx X.K x H' k/\Q k H'):=by
 intro pins s σ H Q I h;exact isTrue_plain (thn (ha pins s σ H _ I h) λv s1 ⟨x,H1,I1,r1,q1⟩=>XS pins s1 σ H1 x v Q I1 r1 q1) (he _)
def DN{x:V}{us:List Value}(r:Vals [x] us):∃u,us=[u]/\RelV x u:=by
 cases r with
 |cons r1 r2=>cases r2;exact⟨_,rfl,r1⟩
def Kx{x y:V}{us:List Value}(r:Vals [x,y] us):∃u w',us=[u,w']/\RelV x u/\RelV y w':=by
 cases r with
 |cons r1 r2=>
  cases r2 with
  |cons r3 r4=>cases r4;exact⟨_,_,rfl,r1,r3⟩
def Rf(hc:X.calm=true):CallR X (.builtin "max") (λxs H Q=>∃i j,xs=[.int i,.int j]/\Q (.int (if j>i then j else i)) H):=by
 intro pins s σ H xs us Q I r h;obtain⟨i,j,rfl,q⟩:=h;obtain⟨u,w',rfl,⟨t,rfl⟩,⟨t',rfl⟩⟩:=Kx r;refine max_two_ints (I.ok.hd hc) λh' tk k=>⟨_,H,I.kept k,?_,q⟩
 by_cases hj:j>i
 .rw[if_pos hj,if_pos hj];exact⟨_,rfl⟩
 .rw[if_neg hj,if_neg hj];exact⟨_,rfl⟩
def Re(hc:X.calm=true):CallR X (.builtin "min") (λxs H Q=>∃i j,xs=[.int i,.int j]/\Q (.int (if j<i then j else i)) H):=by
 intro pins s σ H xs us Q I r h;obtain⟨i,j,rfl,q⟩:=h;obtain⟨u,w',rfl,⟨t,rfl⟩,⟨t',rfl⟩⟩:=Kx r;refine min_two_ints (I.ok.hd hc) λh' tk k=>⟨_,H,I.kept k,?_,q⟩
 by_cases hj:j<i
 .rw[if_pos hj,if_pos hj];exact⟨_,rfl⟩
 .rw[if_neg hj,if_neg hj];exact⟨_,rfl⟩
end
def HI{h:Heap}{dx:Addr}{mA:Str->Option Value}(n:h.Ns1 dx mA):∃od,h.get? dx=some od/\∀name,PySem.W.lookIn name od=some (mA name):=by
 obtain⟨o,es,ep,ho,hd,hk,_,hm⟩:=n;refine⟨o,ho,λname=>?_⟩;have e:=hm name;unfold nsFind findBy at e;rw[<- Array.find?_toList]at e;unfold PySem.W.lookIn;rw[hd];dsimp only;split
 .rename_i y q
  rw[q]at e;exact congrArg some e
 .rename_i q
  rw[q]at e;have a:es.toList.any (·.refKey)=false:=by
   rw[List.any_eq_false];intro y hy;obtain⟨z,t,hkey⟩:=hk y (Array.mem_toList_iff.mp hy);simp[DictEntry.refKey,hkey]
  have a':¬ es.toList.any (·.refKey)=true:=by rw[a];exact Bool.false_ne_true
  rw[if_neg a'];exact congrArg some e
def RelO.some_of{v:V}{o:Option Value}(r:RelO (some v) o):∃u,o=some u/\RelV v u:=by
 cases o with
 |none=>exact(show False from r).elim
 |some u=>exact⟨u,rfl,r⟩
def Dv(K:PySem.W.Frag)(C:Addr)(f:Str):Prop:=PySem.W.findIn K (.ref C) f=some none
structure Room(k:Nat)(A:Around):Prop where
 hd:A.handled=none
 dp:A.depth+3*k+5<recursionLimit
 un:A.units+16*k+200<cLine
 gd:A.guards=some []
def Room.mono{j k:Nat}{A:Around}(r:Room k A)(h:j<=k):Room j A:=⟨r.hd,by have:=r.dp;omega,by have:=r.un;omega,r.gd⟩
def Room.deeper{k:Nat}{A:Around}(r:Room (k+1) A)(env:Env):Room k (A.deeper env):=
 ⟨r.hd,by have:=r.dp;show A.depth+1+3*k+5<_;omega,by have:=r.un;show A.units+3+16*k+200<_;omega,by first|exact r.gd|(simpa [Around.deeper,Around.under,Code.guards,Code.isGuard,pushGuards]using r.gd)⟩
def Room.in1{k:Nat}{A:Around}(r:Room (k+1) A):Room k A.in1:=
 ⟨r.hd,by have:=r.dp;show A.depth+3*k+5<_;omega,by have:=r.un;show A.units+1+16*k+200<_;omega,r.gd⟩
def Ox{A:Around}{C:Addr}{us:List Value}{kw:List (Str×Value)}:(A.under (.builtin "type.__call__" ⟨.ref C::us,kw⟩)).depth=A.depth+1:=by
 first|rfl|simp[Around.under,Code.weight,Code.isCreation,Code.isGuard,Code.isCaller,Code.frames,Code.isFrame,guardIds]
def Ow{A:Around}{C:Addr}{us:List Value}{kw:List (Str×Value)}:(A.under (.builtin "type.__call__" ⟨.ref C::us,kw⟩)).units=A.units+1:=by
 first|rfl|simp[Around.under,Code.cUnits,Code.frames,Code.isFrame]
def Room.make{k:Nat}{A:Around}(r:Room (k+1) A)(C:Addr)(us:List Value)(kw:List (Str×Value)):Room k (A.under (.builtin "type.__call__" ⟨.ref C::us,kw⟩)):=
 ⟨r.hd,by have:=r.dp;rw[Ox];omega,by have:=r.un;rw[Ow];omega,by first|exact r.gd|(simpa [Around.under,Code.guards,Code.isGuard,guardIds,pushGuards]using r.gd)⟩
def Room.depth{k:Nat}{A:Around}(r:Room k A):A.depth<recursionLimit:=by have:=r.dp;omega
def Room.units{k:Nat}{A:Around}(r:Room k A):A.units+64<cLine:=by have:=r.un;omega
def CI:TA:=λ_ H Q=>Q [] H
def BM(ta:TE)(tr:TA):TA:=λσ H Q=>ta σ H λx H1=>tr σ H1 λxs H2=>Q (x::xs) H2
section
variable{X:Cx}{e:Expr}{es:List Expr}{te:TE}{t:TA}{pos:Pos}
def Cv:PA X [] CI:=λ_ _ _ _ H Q I h=>Calls.spliced_nil ⟨[],H,I,.nil,h⟩
def CA(ha:PE X e te)(hr:PA X es t)(hs:starEach (e::es) X.env=(false,eval e X.env)::starEach es X.env:=by rfl):PA X (e::es) (BM te t):=by
 intro pos pins s σ H Q I h;rw[hs];show wpAny _ _ (spliced ((false,eval e X.env)::backTo pos (starEach es X.env))) _ _ s;refine Calls.spliced_cons (thn (ha pins s σ H _ I h) λu s1 ⟨x,H1,I1,r1,q1⟩=>?_);exact thn (hr pos pins s1 σ H1 _ I1 q1) λus s2 ⟨xs,H2,I2,r2,q2⟩=>⟨x::xs,H2,I2,.cons r1 r2,q2⟩
def SC(t:TA):TE:=λσ H Q=>t σ H λxs H1=>xs.length<=sizeLine/\∀p,H1 p=none->Q (.ref p) (upd H1 p (.tup xs))
def SG(t:TA):TE:=λσ H Q=>t σ H λxs H1=>xs.length<=sizeLine/\∀p,H1 p=none->Q (.ref p) (upd H1 p (.lst xs))
def Z1{x1}(h:PA X es t):PE X (.Tuple es x1 pos) (SC t):=by
 intro pins s σ H Q I hq;refine wpAny_Tuple_spliced (thn (h pos pins s σ H _ I hq) λus s1 ⟨xs,H1,I1,r,z,q⟩=>⟨by rw[<- r.length];exact z,?_⟩);have hf:H1 s1.heap.objs.size=none:=I1.hok.fresh (le_refl _);refine⟨.ref s1.heap.objs.size,upd H1 s1.heap.objs.size (.tup xs),I1.laid (t':=s1.toks) (λb u e=>Heap.get?_push_of_some _ e) (le_refl _) ?_,rfl,q _ hf⟩;exact⟨z,us,r,⟨_,Heap.get?_push_size _ rfl,rfl,⟨_,rfl⟩,rfl⟩⟩
def Z6(h:PA X es t):PE X (.List es pos) (SG t):=by
 intro pins s σ H Q I hq;refine wpAny_List_spliced (thn (h pos pins s σ H _ I hq) λus s1 ⟨xs,H1,I1,r,z,q⟩=>⟨by rw[<- r.length];exact z,?_⟩);have hf:H1 s1.heap.objs.size=none:=I1.hok.fresh (le_refl _);refine⟨.ref s1.heap.objs.size,upd H1 s1.heap.objs.size (.lst xs),I1.laid (t':=s1.toks) (λb u e=>Heap.get?_push_of_some _ e) (le_refl _) ?_,rfl,q _ hf⟩;exact⟨z,us,0,r,Heap.get?_push_size _ rfl⟩
end
abbrev Sp:=List V->Hp->VK->XK->Prop
abbrev CXT:=List Env->Hp->Shared->XK->Value->Shared->Prop
structure Env0(P:Program)(w:World)(K:PySem.W.Frag)(mg:Str->Option Value)(base:Heap)(A:Around)(outer:List Env)(s:Shared)(H:Hp):Prop where
 frames:A.frames=some outer
 mod:Mod K mg base
 bs:∀b o,base.get? b=some o->s.heap.get? b=some o/\H b=none
 bsz:base.objs.size<=s.heap.objs.size
 funs:s.heap.FunFrames base outer
 frf:∀b∈frs outer,H b=none
 hok:HOk P w H s.heap
 bare:AllBare s.gens
def CE(outer:List Env)(P:Program)(w:World)(H:Hp)(s:Shared)(Q:VK)(u:Value)(s':Shared):Prop:=
 ∃v H',s'.os=s.os/\AllBare s'.gens/\Un (frs outer) [] H H' s.heap s'.heap/\HOk P w H' s'.heap/\RelV v u/\Q v H'
def CR(CX:CXT)(outer:List Env)(P:Program)(w:World)(H:Hp)(s:Shared)(Q:VK)(E:XK)(r:Result)(s':Shared):Prop:=
 match r with
 |.ok (.ret u)=>CE outer P w H s Q u s'
 |.ok _=>False
 |.error e=>CX outer H s E e s'
structure FnOk(P:Program)(w:World)(K:PySem.W.Frag)(mg:Str->Option Value)(base:Heap)(CX:CXT)(k:Nat)(f:Addr)(fd:FuncData)(ps:List Str)(sp:Sp):Prop where
 len:∀vs H Q E,sp vs H Q E->vs.length=ps.length
 run:∀(A:Around) (outer:List Env) (s:Shared) (H:Hp) (args:Args) (us:List Value) (vs:List V) (Q:VK) (E:XK),Room k A->Env0 P w K mg base A outer s H->BindsTo s fd args (ps.zip us)->Vals vs us->sp vs H Q E ->
  codeAny (model P w) A (.call (.ref f) args) (CR CX outer P w H s Q E) s
def FnOk.mono{P:Program}{w:World}{K:PySem.W.Frag}{mg:Str->Option Value}{base:Heap}{CX:CXT}{j k:Nat}{f:Addr}{fd:FuncData}{ps:List Str}{sp:Sp}(F:FnOk P w K mg base CX j f fd ps sp)(h:j<=k):
 FnOk P w K mg base CX k f fd ps sp:=⟨F.len,λA outer s H args us vs Q E hr=>F.run A outer s H args us vs Q E (hr.mono h)⟩
def Env0.make{P:Program}{w:World}{K:PySem.W.Frag}{mg:Str->Option Value}{base:Heap}{A:Around}{outer:List Env}{s:Shared}{H:Hp}(e:Env0 P w K mg base A outer s H)(C:Addr)(us:List Value)(kw:List (Str×Value)):
 Env0 P w K mg base (A.under (.builtin "type.__call__" ⟨.ref C::us,kw⟩)) outer s H:=⟨by first|exact e.frames|(simpa [Around.under,Code.envs,Code.isFrame,pushEnvs]using e.frames),e.mod,e.bs,e.bsz,e.funs,e.frf,e.hok,e.bare⟩
section
variable{X:Cx}{pins:List (Addr×Obj)}{σ:St}{H:Hp}{s s':Shared}
def Inv.env0(I:Inv X pins σ H s):Env0 X.prog X.w X.K X.mg X.base X.A X.stack s H:=
 ⟨I.ok.frames,I.ok.mod,I.bs,le_trans I.ok.bsz I.sz,I.stack,I.stkFree,I.hok,I.bare⟩
def Inv.after{Q:VK}{u:Value}(I:Inv X pins σ H s)(h:CE X.stack X.prog X.w H s Q u s'):EP X pins σ Q u s':=by
 obtain⟨v,H',os,bare,un,hok,r,q⟩:=h;obtain⟨hh,g,d,t,os'⟩:=s';obtain rfl:os'=s.os:=os;exact⟨v,H',I.call (h':=hh) (g':=g) (d':=d) (t':=t) (ch:=[]) un hok bare (λb z=>absurd z (by simp)),r,q⟩
end
def Ej(sp:Sp)(dvs:List V)(E:XK)(t:TA):TE:=λσ H Q=>t σ H λvs H1=>sp (vs++dvs) H1 Q E
def Binds(K:PySem.W.Frag)(fd:FuncData)(ps:List Str)(ds:List Value):Prop:=
 ∀(s:Shared) (us:List Value),K.In s.heap->(us++ds).length=ps.length->BindsTo s fd ⟨us,[]⟩ (ps.zip (us++ds))
def Binds.all{K:PySem.W.Frag}{fd:FuncData}{ps:List Str}(h:∀us:List Value,us.length=ps.length->bindArgs fd ⟨us,[]⟩=pure (ps.zip us)):Binds K fd ps []:=λs us _ hl=>by
 rw[append_nil]at hl ⊢;exact .of_eq (h us hl)
def Mz(CX:CXT)(X:Cx)(E:XK):Prop:=∀(pins:List (Addr×Obj)) (σ:St) (H:Hp) (s:Shared) (e:Value) (s':Shared),Inv X pins σ H s->CX X.stack H s E e s'->X.xe e s'
section
variable{X:Cx}{CX:CXT}{k:Nat}{f C:Addr}{fd:FuncData}{ps:List Str}{sp:Sp}{dvs:List V}{ds:List Value}{E:XK}{x m:Str}{p pos apos:Pos}{e o:Expr}{es:List Expr}{ta:TE}{t:TA}
def Xf{pins:List (Addr×Obj)}{σ:St}{H:Hp}{s:Shared}{Q:VK}{us:List Value}{vs:List V}(F:FnOk X.prog X.w X.K X.mg X.base CX k f fd ps sp)(hr:Room k X.A)(hb:Binds X.K fd ps ds)(hd:Vals dvs ds)(hx:Mz CX X E)
 (I:Inv X pins σ H s) (r:Vals vs us) (h:sp (vs++dvs) H Q E):wpAny (model X.prog X.w) X.A (call (.ref f) us) (EP X pins σ Q) X.xe s:=by
 have r2:Vals (vs++dvs) (us++ds):=r.append hd;have hl:(us++ds).length=ps.length:=by rw[<- r2.length];exact F.len _ _ _ _ h
 refine wpAny_call (codeAny_mono (F.run X.A X.stack s H ⟨us,[]⟩ (us++ds) (vs++dvs) Q E hr I.env0 (hb s us I.kIn hl) r2 h) λr s' hq=>?_);cases r with
 |error e=>exact hx pins σ H s e s' I hq
 |ok fl=>
  cases fl with
  |ret u=>exact I.after hq
  |next=>exact False.elim hq
  |brk=>exact False.elim hq
  |cont=>exact False.elim hq
def WQ(F:FnOk X.prog X.w X.K X.mg X.base CX k f fd ps sp)(hr:Room k X.A)(hg:Gl X x)(hm:X.mg x=some (.ref f))(hk:PySem.W.keepIn X.K (.ref f)=true)(hb:Binds X.K fd ps ds)(hd:Vals dvs ds)(hx:Mz CX X E)
 (ha:PA X (e::es) t) (hdb:(x==("__debug__":Str))=false:=by decide) (he:starEach (e::es) X.env=(false,eval e X.env)::starEach es X.env:=by rfl) (hpl:(backTo pos (starEach es X.env)).any (·.1)=false:=by rfl):
 PE X (.Call (.Name x p) (e::es) [] pos) (Ej sp dvs E t):=by
 intro pins s σ H Q I h;refine wpAny_Call_Name_kw (Ft I hg hm ?_ hdb);refine PySem.W.callWith_K (h₀:=X.base) I.ok.mod.kin hk (thn (ha pos pins s σ H _ I h) λus s1 ⟨vs,H1,I1,r,q⟩=>⟨I1.kIn,?_⟩) he hpl;exact Xf F hr hb hd hx I1 r q
end
structure FnScope(N P:List Str)(sc:Scope):Prop where
 kind:sc.kind=.function
 co:sc.isCoroutine=false
 gen:sc.isGenerator=false
 nd:N.Nodup
 pre:N.take P.length=P
 par:∀x∈P,sc.names.lookup x=some .local∨sc.names.lookup x=some .cell
 nofree:∀y∈sc.names,y.2≠.free
def Kf{kindOf:Str->Option NameKind}{x:Str}:∀{binds:List (Str×Value)} {m:Str->Option Value},(∀v,(x,v)∉binds)->bindL kindOf binds m x=m x
 |[],_,_=>rfl
 |(n,v)::r,m,h=>by
   unfold bindL;rw[Kf λw hw=>h w (mem_cons_of_mem _ hw)];split
   .have:x≠n:=by rintro rfl;exact h v mem_cons_self
    simp[this]
   .rfl
def Kh{kindOf:Str->Option NameKind}{x:Str}:∀{binds:List (Str×Value)} {m:Str->Option Value},(∀v,(x,v)∉binds)->bindC kindOf binds m x=m x
 |[],_,_=>rfl
 |(n,v)::r,m,h=>by
   unfold bindC;rw[Kh λw hw=>h w (mem_cons_of_mem _ hw)];split
   .rfl
   .have:x≠n:=by rintro rfl;exact h v mem_cons_self
    simp[this]
def Kg{kindOf:Str->Option NameKind}{x:Str}{v:Value}:∀{P:List Str} {vs:List Value} {i:Nat} {m:Str->Option Value},P.Nodup->P[i]?=some x->vs[i]?=some v->kindOf x=some .local ->
 bindL kindOf (P.zip vs) m x=some v
 |[],_,_,_,_,h,_,_=>by simp at h
 |_::_,[],_,_,_,_,h,_=>by simp at h
 |p::P,w::vs,0,m,nd,h1,h2,hk=>by
  simp at h1 h2;subst h1;subst h2;show bindL kindOf ((p,w)::P.zip vs) m p=_;unfold bindL;rw[Kf λv hv=>(nodup_cons.mp nd).1 (of_mem_zip hv).1,if_pos hk];simp
 |p::P,w::vs,i+1,m,nd,h1,h2,hk=>by
  show bindL kindOf ((p,w)::P.zip vs) m x=_;unfold bindL;exact Kg (i:=i) (nodup_cons.mp nd).2 (by simpa using h1) (by simpa using h2) hk
def Ki{kindOf:Str->Option NameKind}{x:Str}{v:Value}:∀{P:List Str} {vs:List Value} {i:Nat} {m:Str->Option Value},P.Nodup->P[i]?=some x->vs[i]?=some v->kindOf x≠some .local ->
 bindC kindOf (P.zip vs) m x=some v
 |[],_,_,_,_,h,_,_=>by simp at h
 |_::_,[],_,_,_,_,h,_=>by simp at h
 |p::P,w::vs,0,m,nd,h1,h2,hk=>by
  simp at h1 h2;subst h1;subst h2;show bindC kindOf ((p,w)::P.zip vs) m p=_;unfold bindC;rw[Kh λv hv=>(nodup_cons.mp nd).1 (of_mem_zip hv).1,if_neg hk];simp
 |p::P,w::vs,i+1,m,nd,h1,h2,hk=>by
  show bindC kindOf ((p,w)::P.zip vs) m x=_;unfold bindC;exact Ki (i:=i) (nodup_cons.mp nd).2 (by simpa using h1) (by simpa using h2) hk
def DO(N:List Str)(vs:List V):St:=vs.map some++List.replicate (N.length-vs.length) none
def DY(CX:CXT)(P:Program)(w:World)(K:PySem.W.Frag)(mg:Str->Option Value)(base:Heap)(N:List Str)(qual:Str)(scope:Scope)(f:Addr)(cd:Value)(A:Around)(outer:List Env)(s:Shared)(H:Hp)(E:XK):Cx where
 prog:=P
 w:=w
 K:=K
 mg:=mg
 base:=base
 A:=A.deeper (envOfC qual scope s.heap.objs.size f cd)
 N:=N
 s₀:=s
 H₀:=H
 env:=envOfC qual scope s.heap.objs.size f cd
 outer:=outer
 stack:=envOfC qual scope s.heap.objs.size f cd::outer
 ex:=[]
 calm:=true
 fn:=λ_=>true
 pn:=[]
 xe:=λe s'=>wpAny (model P w) (A.deeper (envOfC qual scope s.heap.objs.size f cd)) (leaving (envOfC qual scope s.heap.objs.size f cd) e) (λ_ s''=>CX outer H s E e s'') (λe' s''=>CX outer H s E e' s'') s'
def Mp{sc:Scope}{n:Nat}{x:Str}(h:sc.names.lookup x=some .cell):∃c,(cellsFrom n sc.names []).lookup x=some c:=by
 have q:=PySem.W.cellsFrom_some sc.names n [] (.inl h);exact isSome_iff_exists.mp q
def Qt{CX:CXT}{P:Program}{w:World}{K:PySem.W.Frag}{mg:Str->Option Value}{base:Heap}{N ps:List Str}{qual:Str}{scope:Scope}{f:Addr}{cd:Value}{A:Around}{outer:List Env}{s s1:Shared}{H:Hp}{E:XK}{us:List Value}{vs:List V}
 (S:FnScope N ps scope) (hd:A.handled=none) (e0:Env0 P w K mg base A outer s H) (hl:vs.length=ps.length) (r:Vals vs us)
 (x:InCallC s s.heap.objs.size (bindL (envOfC qual scope s.heap.objs.size f cd).kindOf (ps.zip us) λ_=>none) (cellsFrom (s.heap.objs.size+1) scope.names []) (bindC (envOfC qual scope s.heap.objs.size f cd).kindOf (ps.zip us) λ_=>none) s1):
 Inv (DY CX P w K mg base N qual scope f cd A outer s H E) [] (DO N vs) H s1:=by
 have hpl:ps.length<=N.length:=by have:=congrArg List.length S.pre;rw[length_take]at this;omega
 obtain⟨h1,tk,rfl,hk⟩:=x.done;have noA:∀b:Addr,b∉(DY CX P w K mg base N qual scope f cd A outer s H E).ex:=λb z=>absurd (show b∈([]:List Addr)from z) (by simp);refine⟨⟨e0.mod,S.kind,rfl,rfl,le_refl _,λy z c h1 h2=>?_,λy hy=>?_,λy c _ h=>?_,λ_=>hd,Around.frames_deeper e0.frames,.inr ⟨rfl,rfl⟩,λb z=>absurd z (noA b),e0.bs,e0.bsz,λb _ _=>noA b,λb z=>absurd z (noA b),e0.funs,e0.frf⟩,
  rfl,e0.bare,Un.kept hk,⟨_,x.toInCall.ns,λi y v h1 h2 h3=>?_⟩,λy c h=>⟨_,x.cell y c h⟩,e0.hok.fresh (le_refl _),λy c h=>?_,λp hp=>absurd (show p∈([]:List (Addr×Obj))from hp) (by simp),e0.hok.kept hk,?_⟩
 .exact name_of_addr x.apart (PySem.mem_of_lookup h1) (PySem.mem_of_lookup h2)
 .have hy:scope.names.lookup y=some .cell∨scope.names.lookup y=some .free:=hy;rcases hy with hy|hy
  .exact Mp hy
  .exact absurd rfl (S.nofree _ (PySem.mem_of_lookup hy))
 .exact le_of_lt (x.above y c (PySem.mem_of_lookup h))
 .have hi:i<vs.length:=by
   unfold DO at h2;by_cases hi:i<vs.length
   .exact hi
   .rw[List.getElem?_append_right (by simpa using hi)]at h2;rw[List.getElem?_replicate]at h2;split at h2<;>cases h2
  have ha:vs[i]?=some v:=by
   unfold DO at h2;rw[List.getElem?_append_left (by simpa using hi),List.getElem?_map]at h2;cases e:vs[i]? with
   |none=>rw[e]at h2;cases h2
   |some a=>rw[e]at h2;cases h2;rfl
  obtain⟨u,hu,rv⟩:=r.get ha;have hp:ps[i]?=some y:=by
   rw[<- S.pre,List.getElem?_take_of_lt (by omega)];exact h1
  have ndP:ps.Nodup:=by rw[<- S.pre];exact S.nd.sublist (List.take_sublist _ _)
  refine⟨u,rv,?_⟩;rcases S.par y (mem_of_getElem? hp)with k|k
  .exact .inl ⟨k,Kg ndP hp hu k⟩
  .obtain⟨c,e⟩:=Mp (n:=s.heap.objs.size+1) k;refine .inr ⟨.inl k,c,e,?_⟩;have q:=x.cell y c e;rw[Ki ndP hp hu (by show scope.names.lookup y≠_;rw[k];decide)]at q;exact q
 .exact e0.hok.fresh (le_of_lt (x.above y c (PySem.mem_of_lookup h)))
 .unfold DO;show _=N.length;rw[length_append,length_map,length_replicate];omega
def PN{CX:CXT}{P:Program}{w:World}{K:PySem.W.Frag}{mg:Str->Option Value}{base:Heap}{k:Nat}{f:Addr}{name qual:Str}{params:Arguments}{body:List Stmt}{scope:Scope}{dV kV doc pm cdv ct oc:Value}{an od:Option Addr}
 {osl:Array (Option Value)} {N ps:List Str} {sp:Sp} (lk:K.lookup f=some ⟨oc,od,.func (PySem.W.fnOf name qual params body scope dV kV doc pm an cdv ct),osl⟩) (hcd:PySem.W.codeIn K cdv qual=true) (S:FnScope N ps scope)
 (len:∀vs H Q E,sp vs H Q E->vs.length=ps.length)
 (hbody:∀(A:Around) (outer:List Env) (s:Shared) (H:Hp) (vs:List V) (Q:VK) (E:XK),Room k (A.deeper (envOfC qual scope s.heap.objs.size f cdv))->sp vs H Q E ->
  ∃t,PSs (DY CX P w K mg base N qual scope f cdv A outer s H E) body t/\t { nx:=λ_ H'=>Q .non H',rt:=Q } (DO N vs) H):
 FnOk P w K mg base CX (k+1) f (PySem.W.fnOf name qual params body scope dV kV doc pm an cdv ct) ps sp:=by
 refine⟨len,λA outer s H args us vs Q E hr e0 hb r hsp=>?_⟩;have hl:=len _ _ _ _ hsp;have KX:K.In s.heap:=e0.mod.kin.keeps λb o e=>(e0.bs b o e).1;have lim:s.heap.NoLimit:=e0.mod.nolimit.keeps λb o e=>(e0.bs b o e).1;have hkind:∀y∈ps.zip us,scope.names.lookup y.1=some .local∨(scope.names.lookup y.1=some .cell/\((cellsFrom (s.heap.objs.size+1) scope.names []).lookup y.1).isSome=true):=λ⟨n,v⟩ hy=>by
  rcases S.par n (of_mem_zip hy).1 with q|q
  .exact .inl q
  .exact .inr ⟨q,PySem.W.cellsFrom_some _ _ _ (.inl q)⟩
 refine codeAny_call_function hr.depth (KX _ _ lk) rfl S.co S.gen rfl (PySem.W.codeRec_of KX hcd) (hb _ _ _ _ ?_);refine wpAny_newFunctionEnv_cells S.kind hkind λenv he s1 x=>?_;subst he;refine⟨lim.keeps x.toInCall.keep,codeAny_func ?_⟩;obtain⟨t,ht,hq⟩:=hbody A outer s H vs Q E (hr.deeper _) hsp;have I:Inv (DY CX P w K mg base N qual scope f cdv A outer s H E) [] (DO N vs) H s1:=Qt S hr.hd e0 hl r x;refine wpAny_mono (ht [] s1 (DO N vs) H _ I hq) (λfl s' hs=>?_) λe s' hs=>hs;have fin:∀{σ':St} {H':Hp} {v:V} {u:Value},Inv (DY CX P w K mg base N qual scope f cdv A outer s H E) [] σ' H' s'->RelV v u->Q v H'->CE outer P w H s Q u s':=
  λ{σ' H' v u} J rv q=>⟨v,H',J.os,J.bare,J.base,J.hok,rv,q⟩
 cases fl with
 |ret u=>
  obtain⟨v,σ',H',J,rv,q⟩:=hs;exact fin J rv q
 |next=>
  obtain⟨σ',H',J,q⟩:=hs;exact fin (v:=V.non) (u:=Value.none) J rfl q
 |brk=>
  obtain⟨_,_,_,q⟩:=hs;exact False.elim q
 |cont=>
  obtain⟨_,_,_,q⟩:=hs;exact False.elim q
section
variable{X:Cx}{x:Str}{p pos:Pos}{e:Expr}{es:List Expr}{t:TA}{id T:String}{r:List V->Hp->VK->Prop}
def tCB(r:List V->Hp->VK->Prop)(t:TA):TE:=λσ H Q=>t σ H λvs H1=>r vs H1 Q
def IT(hc:CallR X (.builtin id) r)(hg:Gl X x)(hm:X.mg x=none)(hv:bootBuiltins x=some (.builtin id))(ha:PA X (e::es) t)(hn:x≠"__name__":=by decide)(hdb:(x==("__debug__":Str))=false:=by decide)
 (he:starEach (e::es) X.env=(false,eval e X.env)::starEach es X.env:=by rfl) (hpl:(backTo pos (starEach es X.env)).any (·.1)=false:=by rfl):PE X (.Call (.Name x p) (e::es) [] pos) (tCB r t):=by
 intro pins s σ H Q I h;refine wpAny_Call_Name_kw (D0 I hg hm hv ?_ hn hdb);exact PyProof.Rows.callWith_builtin1 (thn (ha pos pins s σ H _ I h) λus s1 ⟨vs,H1,I1,r1,q1⟩=>hc pins s1 σ H1 vs us Q I1 r1 q1) he hpl
def EL(hc:CallR X (.type T) r)(hg:Gl X x)(hm:X.mg x=none)(hv:bootBuiltins x=some (.type T))(ha:PA X (e::es) t)(hn:x≠"__name__":=by decide)(hdb:(x==("__debug__":Str))=false:=by decide)
 (he:starEach (e::es) X.env=(false,eval e X.env)::starEach es X.env:=by rfl) (hpl:(backTo pos (starEach es X.env)).any (·.1)=false:=by rfl):PE X (.Call (.Name x p) (e::es) [] pos) (tCB r t):=by
 intro pins s σ H Q I h;refine wpAny_Call_Name_kw (D0 I hg hm hv ?_ hn hdb);exact PyProof.Rows.callWith_type1 (thn (ha pos pins s σ H _ I h) λus s1 ⟨vs,H1,I1,r1,q1⟩=>hc pins s1 σ H1 vs us Q I1 r1 q1) he hpl
end
end L2
namespace HT
open PySem PyProof.Rows
section
variable{prog:Program}{w:World}{A:Around}{E:Value->Shared->Prop}{s:Shared}
def cat_tup{t b:Addr}{vs ws:List Value}{Q:Value->Shared->Prop}(ht:IsTup s.heap t vs.toArray)(hb:IsTup s.heap b ws.toArray)(hv:vs≠[])
 (h1:ws=[]->Q (.ref t) s) (h2:ws≠[]->Q (.ref s.heap.objs.size) { s with heap:=s.heap.push { cls:=.type "tuple",data:=.seq (vs++ws).toArray } })
 (hsz:vs.length+ws.length<=sizeLine):wpAny (model prog w) A (binaryOp .Add (.ref t) (.ref b)) Q E s:=by
 obtain⟨⟨cls,dd,data,sl⟩,ho,hc,n,hd⟩:=id ht;obtain⟨⟨cls2,dd2,data2,sl2⟩,ho2,hc2,n2,hd2⟩:=id hb;simp only at hc hd hc2 hd2;subst hc hd hc2 hd2;have e:vs.toArray++ws.toArray=(vs++ws).toArray:=by simp
 by_cases hw:ws=[]
 .exact concat_meets ⟨_,ho,rfl⟩ ⟨_,ho2,rfl⟩ noFill_tuple_add seq_tuple_add PySem.F.slot_tuple_add PySem.F.entry_tuple_add (PySem.F.args_tuple_add_2 _ _)
   (tuple_addW1 t b vs.toArray ws.toArray n n2 dd dd2 sl sl2 (by simpa using hv) (by simp[hw])) ⟨ho,ho2,h1 hw⟩
 .refine concat_meets ⟨_,ho,rfl⟩ ⟨_,ho2,rfl⟩ noFill_tuple_add seq_tuple_add PySem.F.slot_tuple_add PySem.F.entry_tuple_add (PySem.F.args_tuple_add_2 _ _)
   (tuple_addW2 t b vs.toArray ws.toArray n n2 dd dd2 sl sl2 (by simpa using hv) (by simpa using hw) (by rw[size_toArray,size_toArray];exact hsz)) ⟨ho,ho2,?_⟩
  rw[e];exact h2 hw
def sIx(n d:Nat):Option Int->Nat
 |none=>d
 |some v=>if v<0 then(v+(n:Int)).toNat else min v.toNat n
def Xc(n d:Nat)(hd:d<=n)(o:Option Int):sIx n d o<=n:=by
 cases o with
 |none=>exact hd
 |some v=>
  show(if v<0 then(v+(n:Int)).toNat else min v.toNat n)<=n;by_cases hv:v<0
  .rw[if_pos hv];omega
  .rw[if_neg hv];exact Nat.min_le_right _ _
def O8(v:Int)(n d:Nat):(if v<0 then max (v+(n:Int)) 0 else min v (n:Int))=((sIx n d (some v):Nat):Int):=by
 show(if v<0 then max (v+(n:Int)) 0 else min v (n:Int))=(((if v<0 then(v+(n:Int)).toNat else min v.toNat n):Nat):Int);by_cases hv:v<0
 .simp only[if_pos hv];omega
 .simp only[if_neg hv];omega
def PX(lo hi:Option Int)(n:Nat):Builtin.Slice.sliceAdjust lo hi 1 (n:Int)=(((sIx n 0 lo:Nat):Int),((sIx n n hi:Nat):Int)):=by
 have h1:¬ ((1:Int)<0):=by omega
 unfold Builtin.Slice.sliceAdjust;simp only[h1,if_false];refine Prod.ext ?_ ?_
 .cases lo with
  |none=>rfl
  |some v=>exact O8 v n 0
 .cases hi with
  |none=>rfl
  |some v=>exact O8 v n n
def On(i j:Nat):Builtin.Slice.slicePlaces (i:Int) (j:Int) 1=j-i:=by
 unfold Builtin.Slice.slicePlaces;have h1:(1:Int)>0:=by omega
 simp only[h1,if_true,Int.ediv_one];split<;>omega
def Ix{v:Value}{o:Option Int}{Q:Option Int->Shared->Prop}(p:IsPart v o)(h:Q o s):wpAny (model prog w) A (Builtin.Slice.slicePartIndex v) Q E s:=by
 cases p with
 |none=>exact slicePart_none h
 |int i t=>exact slicePart_int h
def F4{sl:Addr}{vl vu:Value}{lo hi:Option Int}{n:Nat}{Q:Int×Int×Nat->Shared->Prop}(hs:s.heap.IsSliceOf sl vl vu .none)(pl:IsPart vl lo)(pu:IsPart vu hi)
 (h:Q (((sIx n 0 lo:Nat):Int),1,sIx n n hi-sIx n 0 lo) s):wpAny (model prog w) A (Builtin.Slice.sliceApplied (.ref sl) (pure (n:Int))) Q E s:=by
 obtain⟨os,hos,hcs,hds⟩:=id hs;unfold Builtin.Slice.sliceApplied Builtin.Slice.sliceFields;refine wpAny_bind (wpAny_bind (wpAny_field hos hds (x:=vl) rfl (wpAny_bind (wpAny_field hos hds (x:=vu) rfl (wpAny_bind (wpAny_field hos hds (x:=.none) rfl (wpAny_pure ?_)))))));refine wpAny_bind (slicePart_none ?_);show wpAny _ _ (if((1:Int)==0)=true then _ else _) _ _ s;rw[if_neg (by decide)];refine wpAny_bind (Ix pl (wpAny_bind (Ix pu (wpAny_bind (wpAny_pure ?_)))));show wpAny _ _ (match Builtin.Slice.sliceAdjust lo hi 1 (n:Int)with|(lo,hi)=>pure (lo,(1:Int),Builtin.Slice.slicePlaces lo hi 1)) _ _ s;rw[PX lo hi n];show wpAny _ _ (pure (((sIx n 0 lo:Nat):Int),(1:Int),Builtin.Slice.slicePlaces ((sIx n 0 lo:Nat):Int) ((sIx n n hi:Nat):Int) 1)) _ _ s;rw[On];exact wpAny_pure h
def T7(xs:Array Value)(i k:Nat):((List.range k).filterMap λ(m:Nat)=>xs[((i:Int)+(m:Int)*1).toNat]?).toArray=((xs.toList.drop i).take k).toArray:=by
 have e:(λ(m:Nat)=>xs[((i:Int)+(m:Int)*1).toNat]?)=λm=>xs[i+m]? := by
  funext m
  have:((i:Int)+(m:Int)*1).toNat=i+m:=by omega
  rw[this]
 rw[e];have:=pick_run xs i k;rw[List.filterMap_map]at this;have e2:((λx=>xs[x]?) ∘ λx=>i+x)=λm=>xs[i+m]? := rfl;rw[e2]at this;rw[this]
def getItem_tuple_cut{t sl:Addr}{items:Array Value}{vl vu:Value}{lo hi:Option Int}{Q:Value->Shared->Prop}(ht:IsTup s.heap t items)(hs:s.heap.IsSliceOf sl vl vu .none)(pl:IsPart vl lo)(pu:IsPart vu hi)
 (hw:¬ (sIx items.size 0 lo=0/\sIx items.size items.size hi=items.size))
 (h:Q (.ref s.heap.objs.size) { s with heap:=s.heap.push { cls:=.type "tuple",data:=.seq ((items.toList.drop (sIx items.size 0 lo)).take (sIx items.size items.size hi-sIx items.size 0 lo)).toArray } })
 (hsz:items.size<=sizeLine):wpAny (model prog w) A (getItem (.ref t) (.ref sl)) Q E s:=by
 have htake:sizeOk (.seq ((items.toList.drop (sIx items.size 0 lo)).take (sIx items.size items.size hi-sIx items.size 0 lo)).toArray):=by
  show((items.toList.drop (sIx items.size 0 lo)).take (sIx items.size items.size hi-sIx items.size 0 lo)).toArray.size<=sizeLine;rw[size_toArray,length_take,length_drop,Array.length_toList];omega
 have hj:sIx items.size items.size hi<=items.size:=Xc _ _ (le_refl _) hi;obtain⟨os,hos,hcs,hds⟩:=id hs;have hTs:s.TypeIs (.ref sl) "slice":=⟨os,hos,hcs⟩
 unfold getItem
 try with_reducible refine wpAny_holding ?_
 first|refine wpAny_bind (wpAny_pure ?_)|skip
 refine wpAny_bind (wpAny_sequenceKey ht.typeIs (by decide) ?_);refine wpAny_bind (wpAny_callSpecial?_slot (name:=Str.ofString "__getitem__") ht.typeIs PyProof.Rows.slot_tuple_getitem
  (wpAny_call_entry PyProof.Rows.slot_tuple_getitem ht.typeIs entry_tuple_getitem ?_ (args_tuple_getitem _ _)))
 show wpAny _ _ (Builtin.Tuple.tupleItemsOf (.ref t) >>= _) _ _ s;refine wpAny_bind (tupleItemsOf_ ht ?_);refine wpAny_bind (wpAny_typeOf hTs ?_);rw[if_pos (by decide)];refine wpAny_bind (F4 hs pl pu ?_);have hno:¬ ((((sIx items.size 0 lo:Nat):Int)==0&&(1:Int)==1&&(sIx items.size items.size hi-sIx items.size 0 lo)==items.size)=true):=by
  intro q;rw[Bool.and_eq_true,Bool.and_eq_true]at q;have q1:((sIx items.size 0 lo:Nat):Int)=0:=eq_of_beq q.1.1;have q2:sIx items.size items.size hi-sIx items.size 0 lo=items.size:=eq_of_beq q.2;exact hw ⟨by omega,by omega⟩
 show wpAny _ _ (if(((sIx items.size 0 lo:Nat):Int)==0&&(1:Int)==1&&(sIx items.size items.size hi-sIx items.size 0 lo)==items.size)=true then _ else _) _ _ s;rw[if_neg hno,T7]
 first
  |exact wpAny_bind (m:=Builtin.Tuple.tupleExact _) (wpAny_newObj_type (wpAny_pure ⟨_,rfl,wpAny_pure h⟩) htake)
  |exact wpAny_bind (m:=Builtin.Tuple.tupleExact _) (wpAny_newObj_type (wpAny_bind (wpAny_pure (wpAny_pure ⟨_,rfl,wpAny_pure h⟩))) htake)
  |exact wpAny_bind (wpAny_bind (m:=Builtin.Tuple.tupleExact _) (wpAny_newObj_type (wpAny_pure (wpAny_pure ⟨_,rfl,wpAny_pure h⟩)) htake))
  |exact wpAny_bind (wpAny_bind (m:=Builtin.Tuple.tupleExact _) (wpAny_newObj_type (wpAny_pure ⟨_,rfl,wpAny_pure h⟩) htake))
end
end HT
namespace L2
open PySem PySem.Spec PyProof.Rows
abbrev TO:=St->Hp->(Option Int->Hp->Prop)->Prop
def PO(X:Cx)(e:Option Expr)(t:TO):Prop:=
 ∀(pins:List (Addr×Obj)) (s:Shared) (σ:St) (H:Hp) (Q:Option Int->Hp->Prop),Inv X pins σ H s->t σ H Q ->
   wpAny (model X.prog X.w) X.A (evalPart e X.env) (λu s'=>∃o H',Inv X pins σ H' s'/\IsPart u o/\Q o H') X.xe s
def Ji:TO:=λ_ H Q=>Q none H
def OL(t:TE):TO:=λσ H Q=>t σ H λx H1=>∃i,x=.int i/\Q (some i) H1
section
variable{X:Cx}{e:Expr}{te:TE}{lo hi:Option Expr}{tl th:TO}{pos p2:Pos}
def W6:PO X none Ji:=by
 intro pins s σ H Q I h;rw[evalPart_none];exact wpAny_pure ⟨none,H,I,.none,h⟩
def W5(h:PE X e te):PO X (some e) (OL te):=by
 intro pins s σ H Q I hw;rw[evalPart_some];refine thn (h pins s σ H _ I hw) λu s1 ⟨x,H1,I1,r1,q1⟩=>?_;obtain⟨i,rfl,q⟩:=q1;obtain⟨t,rfl⟩:=r1;exact⟨some i,H1,I1,.int i t,q⟩
def SlR(X:Cx)(r:V->Option Int->Option Int->Hp->VK->Prop):Prop:=
 ∀(pins:List (Addr×Obj)) (s:Shared) (σ:St) (H:Hp) (x:V) (v vl vu:Value) (lo hi:Option Int) (sl:Addr) (Q:VK),Inv X pins σ H s->RelV x v->s.heap.IsSliceOf sl vl vu .none->IsPart vl lo->IsPart vu hi->r x lo hi H Q ->
   ∃T id,typeLookup (.type T) "__getitem__"=pure (some (.builtin id))/\s.TypeIs v T/\wpAny (model X.prog X.w) X.A (getItem v (.ref sl)) (EP X pins σ Q) X.xe s
def tSl(r:V->Option Int->Option Int->Hp->VK->Prop)(te:TE)(tl th:TO):TE:=λσ H Q=>te σ H λx H1=>tl σ H1 λl H2=>th σ H2 λu H3=>r x l u H3 Q
def M5{r:V->Option Int->Option Int->Hp->VK->Prop}(hr:SlR X r)(he:PE X e te)(hl:PO X lo tl)(hu:PO X hi th):PE X (.Subscript e (.Slice lo hi none p2) pos) (tSl r te tl th):=by
 intro pins s σ H Q I h;refine Subscript_ (thn (he pins s σ H _ I h) λv s1 ⟨x,H1,I1,r1,q1⟩=>?_);refine wpAny_Slice (thn (hl pins s1 σ H1 _ I1 q1) λvl s2 ⟨l,H2,I2,pl,q2⟩=>thn (hu pins s2 σ H2 _ I2 q2) λvu s3 ⟨u,H3,I3,pu,q3⟩=>?_);rw[evalPart_none];refine wpAny_pure ?_;have I4:Inv X pins σ H3 { s3 with heap:=s3.heap.push { cls:=.type "slice",data:=.fields #[vl,vu,.none] } }:=I3.kept (t':=s3.toks) λb ob q=>Heap.get?_push_of_some _ q;obtain⟨T,id,hT,ht,hg⟩:=hr pins { s3 with heap:=s3.heap.push { cls:=.type "slice",data:=.fields #[vl,vu,.none] } } σ H3 x v vl vu l u s3.heap.objs.size Q I4 r1 (Heap.IsSliceOf.new ..) pl pu q3;show wpAny (model X.prog X.w) X.A (subscriptTail e (.Slice lo hi none p2) v (.ref s3.heap.objs.size)) (EP X pins σ Q) X.xe { s3 with heap:=s3.heap.push { cls:=.type "slice",data:=.fields #[vl,vu,.none] } };exact tail_any (ops:=[.ref s3.heap.objs.size,v]) ht hT hg (by with_unfolding_all rfl)
def Fc(xs:List V)(lo hi:Option Int):List V:=(xs.drop (HT.sIx xs.length 0 lo)).take (HT.sIx xs.length xs.length hi-HT.sIx xs.length 0 lo)
def II(xs:List V)(lo hi:Option Int):(Fc xs lo hi).length<=xs.length:=by
 unfold Fc;rw[length_take,length_drop];omega
def YA(K:PySem.W.Frag):V->Option Int->Option Int->Hp->VK->Prop:=λx lo hi H Q=>∃a xs,x=.ref a/\SqT K H a xs /\
 ¬ (HT.sIx xs.length 0 lo=0/\HT.sIx xs.length xs.length hi=xs.length)/\∀p,H p=none->Q (.ref p) (upd H p (.tup (Fc xs lo hi)))
def XX:SlR X (YA X.K):=by
 intro pins s σ H x v vl vu lo hi sl Q I rx hs pl pu h;obtain⟨a,xs,rfl,hx,hw,q⟩:=h;cases rx;obtain⟨its,r,ht,hz⟩:=I.tuple hx;have hlen:its.toArray.size=xs.length:=by rw[size_toArray];exact r.length.symm
 refine⟨"tuple",_,PyProof.Rows.slot_tuple_getitem.lookup,ht.typeIs,?_⟩;refine HT.getItem_tuple_cut ht hs pl pu (by rw[hlen];exact hw) ?_ (by rw[hlen];exact hz);rw[hlen];refine⟨.ref s.heap.objs.size,_,I.laid (t':=s.toks) (o:=.tup (Fc xs lo hi)) (λb ob q=>Heap.get?_push_of_some _ q) (le_refl _) ?_,rfl,q _ (I.hok.fresh (le_refl _))⟩;exact⟨le_trans (II xs lo hi) hz,_,(r.drop (HT.sIx xs.length 0 lo)).take (HT.sIx xs.length xs.length hi-HT.sIx xs.length 0 lo),IsTupD.new _ _⟩
def Oi(K:PySem.W.Frag):R2:=λx y H Q=>∃a b xs ys,x=.ref a/\y=.ref b/\SqT K H a xs/\SqT K H b ys/\xs≠[]/\xs.length+ys.length<=sizeLine /\
 (ys=[]->Q (.ref a) H)/\(ys≠[]->∀p,H p=none->Q (.ref p) (upd H p (.tup (xs++ys))))
def Vals.nil_iff{xs:List V}{us:List Value}(r:Vals xs us):us=[]↔xs=[]:=by
 cases r with
 |nil=>simp
 |cons _ _=>simp
def WV:OpR X (binaryOp .Add) (Oi X.K):=by
 intro pins s σ H x y v u Q I rx ry h;obtain⟨a,b,xs,ys,rfl,rfl,ha,hb,hx,hz,q1,q2⟩:=h;cases rx;cases ry;obtain⟨its,r1,p1,_⟩:=I.tuple ha;obtain⟨its2,r2,p2,_⟩:=I.tuple hb;refine HT.cat_tup p1 p2 (λz=>hx (r1.nil_iff.mp z)) (λz=>⟨.ref a,H,I,rfl,q1 (r2.nil_iff.mp z)⟩) (λz=>?_) (by rw[<- r1.length,<- r2.length];exact hz);refine⟨.ref s.heap.objs.size,_,I.laid (t':=s.toks) (o:=.tup (xs++ys)) (λb ob q=>Heap.get?_push_of_some _ q) (le_refl _) ?_,rfl,q2 (λw=>z (r2.nil_iff.mpr w)) _ (I.hok.fresh (le_refl _))⟩;exact⟨by rw[length_append];exact hz,_,r1.append r2,IsTupD.new _ _⟩
end
def ixN(n:Nat)(i:Int):Option Nat:=if 0<=i then(if i<n then some i.toNat else none)else if -(n:Int)<=i then some (i+n).toNat else none
def atI{α:Type}(xs:List α)(i:Int):Option α:=(ixN xs.length i).bind λj=>xs[j]?
def Nz{n:Nat}{i:Int}{j:Nat}(h:ixN n i=some j):seqIndex? i n=some j/\j<n/\-(n:Int)<=i/\i<n:=by
 unfold ixN at h;by_cases h0:0<=i
 .rw[if_pos h0]at h;by_cases h1:i<n
  .rw[if_pos h1]at h;have e:i.toNat=j:=Option.some.inj h;exact⟨by rw[seqIndex_of h0 h1,e],by omega,by omega,h1⟩
  .rw[if_neg h1]at h;cases h
 .rw[if_neg h0]at h;by_cases h1:-(n:Int)<=i
  .rw[if_pos h1]at h;have e:(i+n).toNat=j:=Option.some.inj h;exact⟨by rw[seqIndex_neg (by omega) h1,e],by omega,h1,by omega⟩
  .rw[if_neg h1]at h;cases h
def OB{α:Type}{xs:List α}{i:Int}{v:α}(h:atI xs i=some v):∃j,seqIndex? i xs.length=some j/\xs[j]?=some v/\j<xs.length/\-(xs.length:Int)<=i/\i<xs.length:=by
 unfold atI at h;cases e:ixN xs.length i with
 |none=>rw[e]at h;cases h
 |some j=>
  rw[e]at h;obtain⟨h1,h2,h3,h4⟩:=Nz e;exact⟨j,h1,h,h2,h3,h4⟩
def EB{α:Type}{xs:List α}{j:Nat}{v:α}(h:xs[j]?=some v):atI xs (j:Int)=some v:=by
 have hj:j<xs.length:=(List.getElem?_eq_some_iff.mp h).1;have e:ixN xs.length (j:Int)=some j:=by
  unfold ixN;rw[if_pos (by omega),if_pos (by omega)];simp
 unfold atI;rw[e];exact h
def GU{α:Type}(xs:List α)(v:α):atI (xs++[v]) (-1)=some v:=by
 have hl:(xs++[v]).length=xs.length+1:=by simp
 have e:ixN (xs++[v]).length (-1)=some xs.length:=by
  unfold ixN;rw[hl,if_neg (by decide),if_pos (by omega)]
  congr 1
  omega
 unfold atI;rw[e];show(xs++[v])[xs.length]?=some v;simp
def KC(b:Expr):Prop:=∀o i,subscripted b false o i=operate [o,i] (getItem o i)
def IxR(X:Cx)(r:R2):Prop:=
 ∀(value slice:Expr) (pins:List (Addr×Obj)) (s:Shared) (σ:St) (H:Hp) (x y:V) (v u:Value) (Q:VK),Inv X pins σ H s->RelV x v->RelV y u->r x y H Q ->
   subscripted slice false v u=operate [v,u] (getItem v u)->wpAny (model X.prog X.w) X.A (subscriptTail value slice v u) (EP X pins σ Q) X.xe s
def MtR(X:Cx)(id:String)(r:V->List V->Hp->VK->Prop):Prop:=
 ∀(pins:List (Addr×Obj)) (s:Shared) (σ:St) (H:Hp) (x:V) (xs:List V) (v:Value) (us:List Value) (Q:VK),Inv X pins σ H s->RelV x v->Vals xs us->r x xs H Q ->
   wpAny (model X.prog X.w) X.A (call (.builtin id) (v::us)) (EP X pins σ Q) X.xe s
section
variable{X:Cx}{a b:Expr}{ta tb:TE}{pos:Pos}
def IxR.or{r r':R2}(h:IxR X r)(h':IxR X r'):IxR X (λx y H Q=>r x y H Q∨r' x y H Q):=by
 intro value slice pins s σ H x y v u Q I rx ry q hs;rcases q with q|q
 .exact h value slice pins s σ H x y v u Q I rx ry q hs
 .exact h' value slice pins s σ H x y v u Q I rx ry q hs
def UM{r:R2}(hr:IxR X r)(ha:PE X a ta)(hb:PE X b tb)(hs:KC b):PE X (.Subscript a b pos) (tOp r ta tb):=by
 intro pins s σ H Q I h;exact Subscript_ (Tv ha hb I h λv u s2 x y H2 I2 rx ry q=>hr a b pins s2 σ H2 x y v u Q I2 rx ry q (hs _ _))
def Sg(K:PySem.W.Frag):R2:=λx y H Q=>∃p xs i v,x=.ref p/\y=.int i/\SqL K H p xs/\atI xs i=some v/\Q v H
def Sf(K:PySem.W.Frag):R2:=λx y H Q=>∃p xs i v,x=.ref p/\y=.int i/\SqT K H p xs/\atI xs i=some v/\Q v H
def Wk:IxR X (Sg X.K):=by
 intro value slice pins s σ H x y v u Q I rx ry h hs;obtain⟨p,xs,i,z,rfl,rfl,hq,he,q⟩:=h;cases rx;obtain⟨t,rfl⟩:=ry;obtain⟨its,r,pl,hz⟩:=I.list hq;obtain⟨j,h1,h2,h3,h4,h5⟩:=OB he;obtain⟨w,ew,rw'⟩:=r.get h2;have hl:=r.length;have hn:=HJ;have fin:EP X pins σ Q w s:=⟨z,H,I,rw',q⟩
 by_cases h0:0<=i
 .have hj:i.toNat=j:=by
   rw[seqIndex_of h0 h5]at h1;exact Option.some.inj h1
  exact item_listR pl.isList h0 (by omega) (by rw[hj];simpa using ew) fin hs
 .have hj:(i+(its.toArray.size:Int)).toNat=j:=by
   rw[seqIndex_neg (by omega) h4]at h1;rw[size_toArray,<- hl];exact Option.some.inj h1
  exact subscriptTail_builtinR (x:=w) pl.isList.typeIs slot_list_getitem.lookup
   (wpAny_getItem_list_neg (Q:=λr s'=>r=w/\EP X pins σ Q r s') pl.isList (by omega) (by rw[size_toArray]<;>omega) (by omega) (by rw[hj];simpa using ew) ⟨rfl,fin⟩) hs
def ZZ:IxR X (Sf X.K):=by
 intro value slice pins s σ H x y v u Q I rx ry h hs;obtain⟨p,xs,i,z,rfl,rfl,hq,he,q⟩:=h;cases rx;obtain⟨t,rfl⟩:=ry;obtain⟨its,r,pl,hz⟩:=I.tuple hq;obtain⟨j,h1,h2,h3,h4,h5⟩:=OB he;obtain⟨w,ew,rw'⟩:=r.get h2;have hl:=r.length;have hn:=HJ;have fin:EP X pins σ Q w s:=⟨z,H,I,rw',q⟩
 exact subscriptTail_builtinR (x:=w) pl.typeIs slot_tuple_getitem.lookup
  (getItem_tuple (j:=j) (Q:=λr s'=>r=w/\EP X pins σ Q r s') pl (by omega) (by omega) (by rw[size_toArray,<- hl];exact h1) (by simpa using ew) ⟨rfl,fin⟩) hs
def Ov(its:List Value)(n j:Nat)(u:Value):Obj.mapSeq (·.setIfInBounds j u) { cls:=.type "list",data:=.seq its.toArray n }={ cls:=.type "list",data:=.seq (its.set j u).toArray n }:=by
 simp[Obj.mapSeq]
def Inv.lst{pins:List (Addr×Obj)}{σ:St}{H:Hp}{s:Shared}{p:Addr}{xs:List V}(I:Inv X pins σ H s)(h:H p=some (.lst xs)):
 ∃(its:List Value) (n:Nat),Vals xs its/\s.heap.get? p=some { cls:=.type "list",data:=.seq its.toArray n }/\xs.length<=sizeLine:=by
 obtain⟨z,its,n,r,e⟩:=I.hok p _ h;exact⟨its,n,r,e,z⟩
def Inv.lstUpd{pins:List (Addr×Obj)}{σ:St}{H:Hp}{s:Shared}{p:Addr}{xs ys:List V}{its its':List Value}{n n':Nat}{f:Obj->Obj}(I:Inv X pins σ H s)(h:H p=some (.lst xs))
 (ho:s.heap.get? p=some { cls:=.type "list",data:=.seq its.toArray n }) (hf:f { cls:=.type "list",data:=.seq its.toArray n }={ cls:=.type "list",data:=.seq its'.toArray n' }) (r:Vals ys its') (hz:ys.length<=sizeLine) (t:Nat):
 Inv X pins σ (upd H p (.lst ys)) { s with heap:=s.heap.update p f,toks:=t }:=by
 have e:(s.heap.update p f).get? p=some { cls:=.type "list",data:=.seq its'.toArray n' }:=by
  rw[Heap.get?_update_self f ho (by rw[hf]<;>rfl),hf]
 refine I.write (x:=p) (e:=p) (by rw[h];trivial) (.inl rfl) (λb u hb q=>(Heap.get?_update_other _ _ (Ne.symm hb)).trans q) ⟨_,e⟩ ?_;exact⟨hz,its',n',r,e⟩
def Og:V->V->V->Hp->(Hp->Prop)->Prop:=λo i v H Q=>∃p xs k j,o=.ref p/\i=.int k/\H p=some (.lst xs)/\ixN xs.length k=some j/\Q (upd H p (.lst (xs.set j v)))
def SL:a0 X Og:=by
 intro pins s σ H o i v ov iv u Q I ro ri rv h;obtain⟨p,xs,k,j,rfl,rfl,hp,hj,q⟩:=h;cases ro;obtain⟨t,rfl⟩:=ri;obtain⟨its,n,r,ho,hz⟩:=I.lst hp;obtain⟨h1,h2,h3,h4⟩:=Nz hj;have hl:=r.length;have hn:=HJ;have I':Inv X pins σ (upd H p (.lst (xs.set j v))) { s with heap:=s.heap.update p (Obj.mapSeq (·.setIfInBounds j u)) }:=
  I.lstUpd hp ho (Ov its n j u) (r.set rv j) (by rw[List.length_set];exact hz) s.toks
 by_cases h0:0<=k
 .have hk:k.toNat=j:=by
   rw[seqIndex_of h0 h4]at h1;exact Option.some.inj h1
  exact PySem.W.ki_setAt ho h0 (by omega) (by rw[size_toArray,<- hl];exact h4) (by rw[hk];exact⟨_,I',q⟩)
 .have hk:(k+(its.toArray.size:Int)).toNat=j:=by
   rw[seqIndex_neg (by omega) h3]at h1;rw[size_toArray,<- hl];exact Option.some.inj h1
  exact PySem.W.ki_setBack ho (by omega) (by rw[size_toArray,<- hl];exact h3) (by omega) (by rw[hk];exact⟨_,I',q⟩)
def Lf(lo hi:Option Int)(n:Nat):(sliceBounds lo hi none n).1=((HT.sIx n 0 lo:Nat):Int)/\(sliceBounds lo hi none n).2.1=((HT.sIx n n hi:Nat):Int)/\(sliceBounds lo hi none n).2.2=1:=by
 refine⟨?_,?_,rfl⟩
 .cases lo with
  |none=>simp[sliceBounds,HT.sIx]
  |some i=>
   simp only[sliceBounds,HT.sIx,Option.getD_none,show(1:Int)>0 by decide,if_true];by_cases h:i<0
   .simp only[h,if_true]<;>omega
   .simp only[h,if_false]<;>omega
 .cases hi with
  |none=>simp[sliceBounds,HT.sIx]
  |some i=>
   simp only[sliceBounds,HT.sIx,Option.getD_none,show(1:Int)>0 by decide,if_true];by_cases h:i<0
   .simp only[h,if_true]<;>omega
   .simp only[h,if_false]<;>omega
def Kj(its:List Value)(lo hi:Option Int):slicePick its.toArray lo hi none=((its.drop (HT.sIx its.length 0 lo)).take (HT.sIx its.length its.length hi-HT.sIx its.length 0 lo)).toArray:=by
 obtain⟨h1,h2,h3⟩:=Lf lo hi its.toArray.size;unfold slicePick;rw[h1,h2,h3];simp only[sliceRange_one,pick_run,size_toArray]<;>rfl
def Of(K:PySem.W.Frag):V->Option Int->Option Int->Hp->VK->Prop:=λx lo hi H Q=>∃a xs,x=.ref a/\SqL K H a xs/\∀p,H p=none->Q (.ref p) (upd H p (.lst (Fc xs lo hi)))
def Ur:SlR X (Of X.K):=by
 intro pins s σ H x v vl vu lo hi sl Q I rx hs pl pu h;obtain⟨a,xs,rfl,hx,q⟩:=h;cases rx;obtain⟨its,r,ht,hz⟩:=I.list hx;have hlen:=r.length;refine⟨"list",_,slot_list_getitem.lookup,ht.isList.typeIs,?_⟩;refine wpAny_getItem_list_slice ht.isList hs pl pu .none (by simp) ?_ (by rw[size_toArray]<;>omega);rw[Kj,<- hlen];refine⟨.ref s.heap.objs.size,_,I.laid (t':=s.toks) (o:=.lst (Fc xs lo hi)) (λb ob q=>Heap.get?_push_of_some _ q) (le_refl _) ?_,rfl,q _ (I.hok.fresh (le_refl _))⟩;exact⟨le_trans (II xs lo hi) hz,_,0,(r.drop (HT.sIx xs.length 0 lo)).take (HT.sIx xs.length xs.length hi-HT.sIx xs.length 0 lo),Heap.get?_push_size _ rfl⟩
def eqV:V->V->Bool
 |.non,.non=>true
 |.bl a,.bl b=>a==b
 |.bl a,.int b=>(if a then 1 else 0)==b
 |.int a,.bl b=>a==(if b then 1 else 0)
 |.int a,.int b=>a==b
 |.str a,.str b=>a==b
 |_,_=>false
def inV(x:V)(xs:List V):Bool:=xs.any λy=>eqV y x
def Ms:CallR X (.builtin "len") (λxs H Q=>∃p ys,xs=[.ref p]/\(SqL X.K H p ys∨SqT X.K H p ys)/\Q (.int ys.length) H):=by
 intro pins s σ H xs us Q I r h;obtain⟨p,ys,rfl,hq,q⟩:=h;obtain⟨u,rfl,rx⟩:=DN r;cases rx;have hn:=HJ;rcases hq with hq|hq
 .obtain⟨its,r',pl,hz⟩:=I.list hq;have hlen:=r'.length;exact Calls.call_len_list pl.isList (by simp only[size_toArray]<;>omega) ⟨.int ys.length,H,I.tok _,⟨s.toks+1,by rw[size_toArray,hlen]⟩,q⟩
 .obtain⟨its,r',pl,hz⟩:=I.tuple hq;have hlen:=r'.length;exact len_tuple pl (by simp only[size_toArray]<;>omega) ⟨.int ys.length,H,I.tok _,⟨s.toks+1,by rw[size_toArray,hlen]⟩,q⟩
def CallR.or{f:Value}{r r':List V->Hp->VK->Prop}(h:CallR X f r)(h':CallR X f r'):CallR X f (λxs H Q=>r xs H Q∨r' xs H Q):=by
 intro pins s σ H xs us Q I rs q;rcases q with q|q
 .exact h pins s σ H xs us Q I rs q
 .exact h' pins s σ H xs us Q I rs q
def Mr:CallR X (.type "list") (λxs H Q=>∃p ys,xs=[.ref p]/\(SqL X.K H p ys∨SqT X.K H p ys)/\∀l,H l=none->Q (.ref l) (upd H l (.lst ys))):=by
 intro pins s σ H xs us Q I r h;obtain⟨p,ys,rfl,hq,q⟩:=h;obtain⟨u,rfl,rx⟩:=DN r;cases rx;have fin:∀(its:List Value),Vals ys its->ys.length<=sizeLine->∀(h':Heap) (c':Nat),(∀b o',s.heap.get? b=some o'->h'.get? b=some o') ->
  h'.get? s.heap.objs.size=some { cls:=.type "list",dict:=none,data:=.seq its.toArray c',slots:=#[] }->EP X pins σ Q (.ref s.heap.objs.size) { s with heap:=h' }:=λits r' hz h' c' kp e=>
  ⟨.ref s.heap.objs.size,_,I.laid (t':=s.toks) kp (le_refl _) (show ObjOk X.prog X.w _ h' _ (.lst ys)from⟨hz,its,c',r',e⟩),rfl,q _ (I.hok.fresh (le_refl _))⟩
 rcases hq with hq|hq
 .obtain⟨its,r',pl,hz⟩:=I.list hq;have hlen:=r'.length;obtain⟨o,ho,hc,n,hd⟩:=pl.isList;exact call_list_seq p (.inl rfl) ho hc hd (λh' c' kp e=>fin its r' hz h' c' kp e) (by simp only[size_toArray]<;>omega)
 .obtain⟨its,r',pl,hz⟩:=I.tuple hq;have hlen:=r'.length;obtain⟨o,ho,hc,n,hd⟩:=pl;exact call_list_seq p (.inr rfl) ho hc hd (λh' c' kp e=>fin its r' hz h' c' kp e) (by simp only[size_toArray]<;>omega)
def Ku:CallR X (.type "tuple") (λxs H Q=>∃p ys,xs=[.ref p]/\((SqL X.K H p ys/\∀l,H l=none->Q (.ref l) (upd H l (.tup ys)))∨(SqT X.K H p ys/\Q (.ref p) H))):=by
 intro pins s σ H xs us Q I r h;obtain⟨p,ys,rfl,h⟩:=h;obtain⟨u,rfl,rx⟩:=DN r;cases rx;rcases h with⟨hq,q⟩|⟨hq,q⟩
 .obtain⟨its,r',pl,hz⟩:=I.list hq;have hlen:=r'.length;refine call_tuple_list pl.isList (λh' kp=>?_) (by simp only[size_toArray]<;>omega);have I1:Inv X pins σ H { s with heap:=h' }:=I.kept (t':=s.toks) kp;have I2:Inv X pins σ (upd H h'.objs.size (.tup ys)) { s with heap:=h'.push { cls:=.type "tuple",data:=.seq its.toArray } }:=
   I1.laid (t':=s.toks) (λb o e=>Heap.get?_push_of_some _ e) (le_refl _) (show ObjOk X.prog X.w _ _ _ (.tup ys)from⟨hz,its,r',IsTupD.new _ _⟩)
  exact⟨.ref h'.objs.size,_,I2,rfl,q _ (I1.hok.fresh (le_refl _))⟩
 .obtain⟨its,r',pl,hz⟩:=I.tuple hq;exact call_tuple_same pl ⟨.ref p,H,I,rfl,q⟩
def tyV(K:PySem.W.Frag)(T:String)(x:V)(H:Hp):Prop:=match x with
 |.str _=>T="str"
 |.int _=>T="int"
 |.ref p=>(T="list"/\∃xs,SqL K H p xs)∨(T="tuple"/\∃o,K.lookup p=some o/\o.cls=.type "tuple"/\o.dict=none) ∨
  (T="dict"/\((∃kvs,H p=some (.dK kvs))∨∃kvs,H p=some (.dT kvs)))∨(T="set"/\∃S n,H p=some (.set S n))
 |_=>False
def XR{pins:List (Addr×Obj)}{σ:St}{H:Hp}{s:Shared}{T:String}{x:V}{v:Value}(I:Inv X pins σ H s)(r:RelV x v)(ty:tyV X.K T x H):
 s.TypeIs v T/\∀a,v=.ref a->∃ob,s.heap.get? a=some ob/\ob.dict=none:=by
 cases x with
 |str z=>
  obtain⟨t,rfl⟩:=r;cases(show T="str" from ty);exact⟨typeIs_str s z t,λ_ e=>nomatch e⟩
 |int i=>
  obtain⟨t,rfl⟩:=r;cases(show T="int" from ty);exact⟨typeIs_int s i t,λ_ e=>nomatch e⟩
 |ref p=>
  cases r;rcases ty with⟨rfl,xs,hq⟩|⟨rfl,o,hk,hc,hd⟩|⟨rfl,hk⟩|⟨rfl,S,n,hk⟩
  .obtain⟨its,_,pl,_⟩:=I.list hq;refine⟨pl.isList.typeIs,λa e=>?_⟩;cases e;obtain⟨o,n,e,c,hd,_⟩:=pl;exact⟨o,e,hd⟩
  .refine⟨⟨o,I.kIn p o hk,hc⟩,λa e=>?_⟩;cases e;exact⟨o,I.kIn _ o hk,hd⟩
  .have z:∃o,s.heap.get? p=some o/\o.ExactDict:=by
    rcases hk with⟨kvs,hk⟩|⟨kvs,hk⟩
    .obtain⟨_,_,_,_,o,_,_,e,ex,_⟩:=I.hok p _ hk;exact⟨o,e,ex⟩
    .obtain⟨_,_,_,_,o,_,_,e,ex,_⟩:=I.hok p _ hk;exact⟨o,e,ex⟩
   obtain⟨o,e,ex⟩:=z;refine⟨⟨o,e,ex.1⟩,λa e2=>?_⟩;cases e2;exact⟨o,e,ex.2.1⟩
  .obtain⟨o,_,_,_,e,ex,_⟩:=I.hok p _ hk;refine⟨⟨o,e,ex.1⟩,λa e2=>?_⟩;cases e2;exact⟨o,e,ex.2.1⟩
 |_=>exact False.elim ty
def tBM(K:PySem.W.Frag)(T:String)(r:V->List V->Hp->VK->Prop)(to:TE)(t:TA):TE:=λσ H Q=>to σ H λx H1=>tyV K T x H1/\t σ H1 λxs H2=>r x xs H2 Q
variable{o e:Expr}{es:List Expr}{to:TE}{t:TA}{name:Str}{apos cpos:Pos}{T id:String}{r:V->List V->Hp->VK->Prop}
def aa(pa:PlainAttrs T)(slot:Slot T name id)(hty:typeOf (.builtin id)=pure (.type "method_descriptor"))(hm:MtR X id r)(ho:PE X o to)(ha:PA X (e::es) t)
 (hbase:attributeBase o name X.env (eval o X.env)=eval o X.env:=by rfl)
 (hfew:((backTo cpos (starEach (e::es) X.env)).all (λx=>!x.1)&&(backToKw cpos (keywordEach [] X.env)).all (λx=>x.1.isSome)
  && decide ((e::es).length+([]:List Keyword).length+(if([]:List Keyword).isEmpty then 0 else 1)<30))=true:=by rfl)
 (hline:(apos.endLine==cpos.line)=true:=by rfl) (hs:starEach (e::es) X.env=(false,eval e X.env)::starEach es X.env:=by rfl) (hplain:(backTo cpos (starEach es X.env)).any (·.1)=false:=by rfl):
 PE X (.Call (.Attribute o name apos) (e::es) [] cpos) (tBM X.K T r to t):=by
 intro pins s σ H Q I h;refine wpAny_Call_method_late hbase hfew hline rfl (thn (ho pins s σ H _ I h) λv s1 ⟨x,H1,I1,r1,ty,q1⟩=>?_);obtain⟨h1,h2⟩:=XR I1 r1 ty;refine⟨T,id,pa,slot,hty,h1,h2,?_⟩;have hA:=ha cpos pins s1 σ H1 _ I1 q1;rw[hs]at hA ⊢;refine Calls.callWith_builtin (by show(false||(backTo cpos (starEach es X.env)).any (·.1))=false;rw[hplain]<;>rfl) (Calls.evalArgs_plain ?_);exact thn hA λus s2 ⟨vs,H2,I2,r2,q2⟩=>hm pins s2 σ H2 x vs v us Q I2 r1 r2 q2
end
def MtM(X:Cx)(id:String)(r:V->List V->Hp->VK->Prop):Prop:=
 ∀(pins:List (Addr×Obj)) (s:Shared) (σ:St) (H:Hp) (x:V) (xs:List V) (v:Value) (us:List Value) (Q:VK),Inv X pins σ H s->RelV x v->Vals xs us->r x xs H Q ->
   wpAny (model X.prog X.w) X.A (call (.builtin id) (v::us)) (EP X pins σ Q) X.xe s
def Vals.one:∀{x:V} {us:List Value},Vals [x] us->∃u,us=[u]/\RelV x u
 |_,_,.cons r .nil=>⟨_,rfl,r⟩
def Vals.rep{xs:List V}{us:List Value}(h:Vals xs us):∀k:Nat,Vals (List.replicate k xs).flatten (List.replicate k us).flatten
 |0=>.nil
 |k+1=>by
  rw[replicate_succ,replicate_succ,flatten_cons,flatten_cons];exact Vals.append h (Vals.rep h k)
def HN(its:List Value):∀(k:Nat) (acc:List Value),
 List.foldl (λx1 x2=>x1++x2) acc.toArray (List.replicate k its.toArray)=(acc++(List.replicate k its).flatten).toArray
 |0,acc=>by simp
 |k+1,acc=>by
  have e:acc.toArray++its.toArray=(acc++its).toArray:=by simp
  have e2:(acc++its)++(List.replicate k its).flatten=acc++(List.replicate (k+1) its).flatten:=by
   rw[replicate_succ,flatten_cons,append_assoc]
  rw[<- e2,<- HN its k (acc++its),<- e,replicate_succ,List.foldl_cons]
section
variable{X:Cx}{pins:List (Addr×Obj)}{σ:St}{H:Hp}{s:Shared}{l b:Addr}{xs ys zs:List V}
def Inv.lset{its its':List Value}{n:Nat}{f:Array Value->Array Value}{t':Nat}(I:Inv X pins σ H s)(hH:H l=some (.lst xs))
 (e:s.heap.get? l=some { cls:=.type "list",data:=.seq its.toArray n }) (hf:f its.toArray=its'.toArray) (hv:Vals ys its') (hz:ys.length<=sizeLine):
 Inv X pins σ (upd H l (.lst ys)) { s with heap:=s.heap.update l (Obj.mapSeq f),toks:=t' }:=by
 have q:=PySem.IsL.update e f;rw[hf]at q;refine I.write (x:=l) (e:=l) (by rw[hH];exact trivial) (.inl rfl) (λb' u hb hu=>(Heap.get?_update_other s.heap (Obj.mapSeq f) (Ne.symm hb)).trans hu) ⟨_,q⟩ ?_;exact⟨hz,its',_,hv,q⟩
def Inv.lnew{its:List Value}{t':Nat}(I:Inv X pins σ H s)(hv:Vals ys its)(hz:ys.length<=sizeLine):
 Inv X pins σ (upd H s.heap.objs.size (.lst ys)) { s with heap:=s.heap.push { cls:=.type "list",data:=.seq its.toArray },toks:=t' }:=
 I.laid (λ_ _ q=>Heap.get?_push_of_some _ q) (le_refl _) ⟨hz,its,0,hv,Heap.get?_push_size _ rfl⟩
def Inv.fresh(I:Inv X pins σ H s):H s.heap.objs.size=none:=I.hok.fresh (le_refl _)
def Inv.lstM(I:Inv X pins σ H s)(hH:H l=some (.lst xs)):xs.length<=sizeLine/\∃(its:List Value) (n:Nat),Vals xs its/\xs.length=its.length/\s.heap.get? l=some { cls:=.type "list",data:=.seq its.toArray n }:=by
 obtain⟨z,its,n,r,e⟩:=I.hok l _ hH;exact⟨z,its,n,r,r.length,e⟩
def M9{n:Nat}(h:n<=sizeLine):Builtin.List.listTooLong n=false:=by
 unfold Builtin.List.listTooLong;exact decide_eq_false (by omega)
end
section
variable{X:Cx}
def Ng:V->List V->Hp->VK->Prop:=λx vs H Q=>∃l xs y,x=.ref l/\vs=[y]/\H l=some (.lst xs)/\xs.length<sizeLine/\Q .non (upd H l (.lst (xs++[y])))
def KP:MtM X "list.append" Ng:=by
 intro pins s σ H x vs v us Q I rx rv h;obtain⟨l,xs,y,rfl,rfl,hH,hz,q⟩:=h;cases rx;obtain⟨u,rfl,ru⟩:=rv.one;obtain⟨z,its,n,r,hl,e⟩:=I.lstM hH;refine call_meets F.slot_list_append ⟨_,e,rfl⟩ F.entry_list_append (F.args_list_append_2 _ _) (PySem.list_append l its.toArray n u (by rw[size_toArray];omega)) ⟨e,?_⟩;refine⟨.non,_,I.lset (its':=its++[u]) hH e (by simp) (r.append (.cons ru .nil)) ?_,rfl,q⟩;rw[length_append,List.length_singleton];omega
def VQ:V->List V->Hp->VK->Prop:=λx vs H Q=>∃l b xs zs,x=.ref l/\vs=[.ref b]/\H l=some (.lst xs)/\H b=some (.lst zs)/\xs.length+zs.length<=sizeLine/\Q .non (upd H l (.lst (xs++zs)))
def bJ:MtM X "list.extend" VQ:=by
 intro pins s σ H x vs v us Q I rx rv h;obtain⟨l,b,xs,zs,rfl,rfl,hH,hB,hz,q⟩:=h;cases rx;obtain⟨u,rfl,ru⟩:=rv.one;cases ru;obtain⟨z,its,n,r,hl,e⟩:=I.lstM hH;obtain⟨z2,its2,n2,r2,hl2,e2⟩:=I.lstM hB;have hsz:its.toArray.size+its2.toArray.size<=sizeLine:=by rw[size_toArray,size_toArray];omega
 have hlong:¬ (!its.toArray.isEmpty&&Builtin.List.listTooLong (its.toArray.size+its2.toArray.size))=true:=by
  rw[M9 hsz,Bool.and_false];exact Bool.false_ne_true
 refine call_meets F.slot_list_extend ⟨_,e,rfl⟩ F.entry_list_extend (F.args_list_extend_2 _ _)
  (AutoSeq1.list_extend_list_list_0 l its.toArray n b its2.toArray n2 hlong (by rw[size_toArray];omega) (by omega)) ⟨e,e2,?_⟩
 refine⟨.non,_,I.lset (its':=its++its2) hH e (by simp) (r.append r2) ?_,rfl,q⟩;rw[length_append];omega
def Si:R2:=λx y H Q=>∃l b xs zs,x=.ref l/\y=.ref b/\H l=some (.lst xs)/\H b=some (.lst zs)/\xs.length+zs.length<=sizeLine/\∀p,H p=none->Q (.ref p) (upd H p (.lst (xs++zs)))
def ZJ:OpR X (binaryOp .Add) Si:=by
 intro pins s σ H x y v u Q I rx ry h;obtain⟨l,b,xs,zs,rfl,rfl,hH,hB,hz,q⟩:=h;cases rx;cases ry;obtain⟨z,its,n,r,hl,e⟩:=I.lstM hH;obtain⟨z2,its2,n2,r2,hl2,e2⟩:=I.lstM hB;refine PySem.P.add_list e e2 ?_ (by rw[size_toArray,size_toArray];omega);have ea:its.toArray++its2.toArray=(its++its2).toArray:=by simp
 rw[ea];exact⟨.ref _,_,I.lnew (t':=s.toks) (r.append r2) (by rw[length_append];omega),rfl,q _ I.fresh⟩
def Sd:R2:=λx y H Q=>∃l k xs,x=.ref l/\y=.int k/\H l=some (.lst xs)/\-(2^63)<=k/\k<2^63/\xs.length*k.toNat<=sizeLine /\
 ∀p,H p=none->Q (.ref p) (upd H p (.lst (List.replicate k.toNat xs).flatten))
def Nv{α:Type}(xs:List α)(k:Nat):(List.replicate k xs).flatten.length=k*xs.length:=by
 induction k with
 |zero=>simp
 |succ k ih=>rw[replicate_succ,flatten_cons,length_append,ih,Nat.succ_mul,Nat.add_comm]
def ZC:OpR X (binaryOp .Mult) Sd:=by
 intro pins s σ H x y v u Q I rx ry h;obtain⟨l,k,xs,rfl,rfl,hH,h1,h2,hz,q⟩:=h;cases rx;obtain⟨t,rfl⟩:=ry;obtain⟨z,its,n,r,hl,e⟩:=I.lstM hH;have hlen:its.toArray.size*k.toNat<=sizeLine:=by rw[size_toArray,<- hl];exact hz
 have hcap:¬ its.toArray.size*k.toNat>(2^63-1)/8:=by
  have:(sizeLine:Nat)<=(2^63-1)/8:=by decide
  omega
 have hfit:¬ (!Builtin.List.listFitsIndex k)=true:=by
  rw[fitsIndex_both h1 h2];exact Bool.false_ne_true
 have hlong:¬ Builtin.List.listTooLong (its.toArray.size*k.toNat)=true:=by
  rw[M9 hlen];exact Bool.false_ne_true
 have hnew:List.foldl (λx1 x2=>x1++x2) #[] (List.replicate (if its.toArray.isEmpty=true then 0 else k.toNat) its.toArray)=(List.replicate k.toNat its).flatten.toArray:=by
  have f0:∀m:Nat,List.foldl (λx1 x2=>x1++x2) #[] (List.replicate m its.toArray)=(List.replicate m its).flatten.toArray:=λm=>by
   have:=HN its m [];rw[nil_append]at this;exact this
  rw[f0];cases its with
  |nil=>simp
  |cons a r'=>rw[if_neg (by simp)]
 refine wpAny_binaryOp_repeat_ref (T:="list") (U:="int") (by decide) ⟨_,e,rfl⟩ (λs'=>typeIs_int s' k t) noFill_list_mul F.fills_int_mul F.slot_int_rmul repeat_list F.slot_int_index.lookup
  (call_meets F.slot_int_rmul (typeIs_int s k t) F.entry_int_rmul (F.args_int_rmul_2 _ _) (int___rmul___int_list k t l its.toArray n)
   ⟨e,rfl,⟨_,e,rfl⟩,call_meets F.slot_list_mul ⟨_,e,rfl⟩ F.entry_list_mul (F.args_list_mul_2 _ _) (AutoListH.list___mul___list_int_3 l its.toArray n k t hfit hcap hlong) ⟨e,?_⟩⟩)
 rw[hnew];exact⟨.ref _,_,I.lnew (t':=s.toks) (r.rep k.toNat) (by rw[Nv,Nat.mul_comm];exact hz),rfl,q _ I.fresh⟩
end
end L2
namespace Att
open PySem PySem.W PySem.Calls PyProof.Rows
def JM{P:Params}{h:Heap}:∀(ns:List Int) (vs:List Value),WellAll P h vs (ns.map WData.int)->IntsAre vs ns:=by
 intro ns
 induction ns with
 |nil=>
  intro vs w;rw[map_nil]at w;cases w;exact .nil
 |cons n ns ih=>
  intro vs w;rw[map_cons]at w;cases w with
  |cons a b=>
   cases a;exact .cons _ _ (ih _ b)
def Pu{l:OpenLaw}{n:Nat}(hn:l.most=some n){P:Params}{h:Heap}{args:List WData}{vals:List Value}
 (hpre:l.row.toRowW.claim.pre args=true) (hwl:WellAll P h vals args):
 ∃a vs ns,vals=[Value.ref a]/\args=[WData.list (ns.map WData.int)]/\h.get? a=some { cls:=.type "list",data:=.seq vs.toArray }/\IntsAre vs ns/\ns.length<=n:=by
 have hsh:WShape.hasAll [] args [.list .int]=true:=(pre_splitW hpre).1;have hc:l.pre.holds [] { args:=args }=true:=(pre_splitW hpre).2;obtain⟨d,r,rfl,h1,h2⟩:=hasAllW_cons hsh;obtain rfl:=hasAllW_nil h2;obtain⟨xs,rfl,h3⟩:=hasW_list h1;obtain⟨ns,rfl⟩:=items_int h3;have hlen:ns.length<=n:=by
  unfold OpenLaw.pre at hc;have h4:(WTm.not (.lt (.lit (.int (n:Int))) (.len (.arg 0)))).holds [] { args:=[.list (ns.map .int)] }=true:=by
   have h4:=(holds_andW hc).1;rw[hn]at h4;exact h4
  have h5:=condW_of h4 (w_not (w_lt w_lit (w_len_list (w_arg rfl))));rw[length_map]at h5;refine Nat.le_of_not_lt λq=>?_;have q':(n:Int)<((ns.length:Nat):Int):=by omega
  first
   |(rw[decide_eq_true q']at h5;exact absurd h5 (by decide))
   |(simp at h5;omega)
 cases hwl with
 |cons w1 w2=>
  cases w2;cases w1 with
  |list ho hall=>exact⟨_,_,ns,rfl,rfl,ho,JM ns _ hall,hlen⟩
def Qa(l:OpenLaw)(args:List WData):l.row.toRowW.claim.post args (.bool true) args=true:=
 postW_of (r:=l.row.toRowW) (X:=(true==true))
  (show WShape.has [] (.bool true) .bool=true by first|rfl|decide|simp[WShape.has,WShape.arms,WShape.armsAll])
  (show(WTm.eq .res (.lit (.bool true))).value [] { args:=args,res:=some (.bool true),after:=args }=some (.bool (true==true))from w_eq_bool (w_res rfl) w_lit) rfl
def attach_call{l:OpenLaw}{n:Nat}{q:Program}{loose:List Str}{XP:(Str->Option Value)->Heap->Prop}{YP:World->Heap->Prop}{d:DefRec}
 (hn:l.most=some n) (hdf:d.params.defaults=[])
 (call:∀(w:World) (s₀ s₁:Shared) (mg mb:Str->Option Value) (fa:Addr) (o:Obj) (pm cd doc:Value) (a:Addr) (vs:List Value) (ns:List Int),
  Ground q loose [] XP w s₀ mg mb s₁.heap->YP w s₁.heap ->
  s₁.heap.get? fa=some o->o.data=.func (docDef d.name d.params d.body d.scope pm cd doc)->s₁.heap.CodeRec cd d.name->mg d.name=some (.ref fa) ->
  s₁.heap.get? a=some { cls:=.type "list",data:=.seq vs.toArray }->IntsAre vs ns->ns.length<=n->s₁.gens=#[] ->
  codeAny (model l.prog w) callerA (.call (.ref fa) ⟨[.ref a],[]⟩) (λr s'=>r=.ok (.ret (.bool true))/\OldK s₁.heap s'.heap/\s'.os=s₁.os/\AllBare s'.gens) s₁):
 WalkO q loose XP YP l.row.toRowW d [] (λf vs=>PySem.call f vs):=by
 intro w s₀ s₁ mg mb G Y fa o pm cd doc dV kV ho hd hcd hD hmg hg args vals as hpre hlay hrd hwl hlo;obtain rfl:dV=.none:=Dflts.none hD hdf;obtain rfl:kV=.none:=Dflts.noKw hD;obtain⟨a,vs,ns,rfl,rfl,hobj,hints,hlen⟩:=Pu hn hpre hwl;refine enter_call (codeAny_mono (call w s₀ s₁ mg mb fa o pm cd doc a vs ns G Y ho (fd_plain hd) hcd hmg hobj hints hlen hg) λr s' hq=>?_);obtain⟨rfl,h2,h3,h4⟩:=hq;exact⟨.inl ⟨.bool true,.bool true,[],rfl,λ_=>rfl,.bool true,Qa l _,λ_=>⟨List.Pairwise.nil,λ_ hm=>(nomatch hm)⟩⟩,h2,h3,h4⟩
end Att
namespace L2
open PySem PySem.Spec PyProof.Rows
def KF:∀{vs:List Value} {ns:List Int},IntsAre vs ns->Vals (ns.map V.int) vs
 |_,_,.nil=>.nil
 |_,_,.cons n t h=>.cons ⟨t,rfl⟩ (KF h)
def CP(s:Stmt):Arguments:=match s with
 |.FunctionDef _ a _ _ _ _ _ _ _ _=>a
 |_=>{ posonlyargs:=[],args:=[],vararg:=none,kwonlyargs:=[],kw_defaults:=[],kwarg:=none,defaults:=[] }
def B9(s:Stmt):List Stmt:=match s with
 |.FunctionDef _ _ b _ _ _ _ _ _ _=>b
 |_=>[]
def AB(s:Stmt):Scope:=match s with
 |.FunctionDef _ _ _ _ _ _ sc _ _ _=>sc
 |_=>{ kind:=.function,names:=[],isGenerator:=false,isCoroutine:=false }
abbrev CX0:CXT:=λ_ _ _ _ _ _=>False
abbrev E0:XK:=λ_ _ _=>False
def ad{X:Cx}:Mz CX0 X E0:=λ_ _ _ _ _ _ _ h=>h.elim
structure Fun(K:PySem.W.Frag)(x qual:Str)(st:Stmt)(f:Addr)(fd:FuncData):Prop where
 ex:∃(oc:Value) (od:Option Addr) (kV doc pm:Value) (an:Option Addr) (cdv ct:Value) (osl:Array (Option Value)),
  fd=PySem.W.fnOf x qual (CP st) (B9 st) (AB st) .none kV doc pm an cdv ct/\K.lookup f=some ⟨oc,od,.func fd,osl⟩/\PySem.W.codeIn K cdv qual=true
 kp:PySem.W.keepIn K (.ref f)=true
section
variable{P:Program}{w:World}{K:PySem.W.Frag}{mg:Str->Option Value}{base:Heap}
def Fun.ok{x qual:Str}{st:Stmt}{f:Addr}{fd:FuncData}{N ps:List Str}{k:Nat}{sp:Sp}(F:Fun K x qual st f fd)(S:FnScope N ps (AB st))(len:∀vs H Q E,sp vs H Q E->vs.length=ps.length)
 (hbody:∀(cdv:Value) (A:Around) (outer:List Env) (s:Shared) (H:Hp) (vs:List V) (Q:VK) (E:XK),Room k (A.deeper (envOfC qual (AB st) s.heap.objs.size f cdv))->sp vs H Q E ->
  ∃t,PSs (DY CX0 P w K mg base N qual (AB st) f cdv A outer s H E).nox (B9 st) t/\t { nx:=λ_ H'=>Q .non H',rt:=Q } (DO N vs) H):FnOk P w K mg base CX0 (k+1) f fd ps sp:=by
 obtain⟨oc,od,kV,doc,pm,an,cdv,ct,osl,rfl,lk,hcd⟩:=F.ex;refine PN lk hcd S len λA outer s H vs Q E hr hsp=>?_;obtain⟨t,h,q⟩:=hbody cdv A outer s H vs Q E hr hsp;exact⟨t,h.nox,q⟩
def Fun.binds{x qual:Str}{st:Stmt}{f:Addr}{fd:FuncData}{ps:List Str}(F:Fun K x qual st f fd)
 (h:∀(kV doc pm:Value) (an:Option Addr) (cdv ct:Value) (us:List Value),us.length=ps.length->bindArgs (PySem.W.fnOf x qual (CP st) (B9 st) (AB st) .none kV doc pm an cdv ct) ⟨us,[]⟩=pure (ps.zip us)):Binds K fd ps []:=by
 obtain⟨oc,od,kV,doc,pm,an,cdv,ct,osl,rfl,lk,hcd⟩:=F.ex;exact .all (h kV doc pm an cdv ct)
def Qz{x qual:Str}{st:Stmt}{f:Addr}{oc:Value}{od an:Option Addr}{osl:Array (Option Value)}{kV doc pm cdv ct:Value}(l:K.lookup f=some ⟨oc,od,.func (PySem.W.fnOf x qual (CP st) (B9 st) (AB st) .none kV doc pm an cdv ct),osl⟩)
 (c:PySem.W.codeIn K cdv qual=true) (k:PySem.W.keepIn K (.ref f)=true):Fun K x qual st f (PySem.W.fnOf x qual (CP st) (B9 st) (AB st) .none kV doc pm an cdv ct):=⟨⟨oc,od,kV,doc,pm,an,cdv,ct,osl,rfl,l,c⟩,k⟩
end
def US{A:Around}{k:Nat}(hr:Room k A):A.units+1<cLine:=Nat.lt_of_le_of_lt (Nat.add_le_add_left (by decide:1<=64) _) hr.units
def Pt{n:Nat}(h:n<=1000):n<sizeLine:=Nat.lt_of_le_of_lt h (by decide)
section
variable{κ:Type}[DecidableEq κ]
def E2(kvs:List (κ×V))(k:κ):Option V:=(kvs.find? λkv=>decide (kv.1=k)).map (·.2)
def CU(kvs:List (κ×V))(k:κ)(v:V):List (κ×V):=
 if(kvs.any λkv=>decide (kv.1=k))=true then kvs.map (λkv=>if kv.1=k then(kv.1,v)else kv)else kvs++[(k,v)]
def F1{p:κ×V}{r:List (κ×V)}{k:κ}(e:p.1=k):E2 (p::r) k=some p.2:=by simp[E2,find?_cons,e]
def F2{p:κ×V}{r:List (κ×V)}{k:κ}(e:¬ p.1=k):E2 (p::r) k=E2 r k:=by simp[E2,find?_cons,e]
def LU(k:κ):∀kvs:List (κ×V),(kvs.any λkv=>decide (kv.1=k))=(E2 kvs k).isSome
 |[]=>rfl
 |p::r=>by
  rw[any_cons];by_cases e:p.1=k
  .simp only[F1 e,decide_eq_true e,Bool.true_or,Option.isSome_some]
  .rw[F2 e,decide_eq_false e,Bool.false_or];exact LU k r
def FZ(kvs:List (κ×V))(k:κ)(v:V):(CU kvs k v).length<=kvs.length+1:=by
 unfold CU;split
 .rw[length_map];omega
 .rw[length_append,length_cons,length_nil];omega
def RelO.isSome_eq{o:Option V}{u:Option Value}(r:RelO o u):o.isSome=u.isSome:=by
 cases o with
 |none=>cases u with
  |none=>rfl
  |some _=>exact(show False from r).elim
 |some _=>cases u with
  |none=>exact(show False from r).elim
  |some _=>rfl
def KV.val{kvs:List (κ×V)}{vs:List (κ×Value)}(r:KV kvs vs)(k:κ):RelO (E2 kvs k) (valueAt vs k):=by
 unfold KV at r
 induction r with
 |nil=>exact True.intro
 |@cons p q ps qs h t ih=>
  obtain⟨h1,h2⟩:=h;by_cases e:p.1=k
  .have e':q.1=k:=h1.symm.trans e;have b:valueAt (q::qs) k=some q.2:=by simp[valueAt,find?_cons,e']
   rw[F1 e,b];exact h2
  .have e':¬ q.1=k:=λz=>e (h1.trans z);have b:valueAt (q::qs) k=valueAt qs k:=by simp[valueAt,find?_cons,e']
   rw[F2 e,b];exact ih
def KV.any{kvs:List (κ×V)}{vs:List (κ×Value)}(r:KV kvs vs)(k:κ):(kvs.any λkv=>decide (kv.1=k))=vs.any λkv=>decide (kv.1=k):=by
 unfold KV at r
 induction r with
 |nil=>rfl
 |cons h t ih=>rw[any_cons,any_cons,ih,h.1]
def KV.repl{kvs:List (κ×V)}{vs:List (κ×Value)}(r:KV kvs vs)(k:κ){y:V}{u:Value}(ry:RelV y u):
 KV (kvs.map λkv=>if kv.1=k then(kv.1,y)else kv) (vs.map λkv=>if kv.1=k then(kv.1,u)else kv):=by
 unfold KV at r ⊢
 induction r with
 |nil=>exact .nil
 |@cons p q ps qs h t ih=>
  rw[map_cons,map_cons];refine .cons ?_ ih;obtain⟨h1,h2⟩:=h;by_cases e:p.1=k
  .rw[if_pos e,if_pos (h1.symm.trans e)];exact⟨h1,ry⟩
  .rw[if_neg e,if_neg (λz=>e (h1.trans z))];exact⟨h1,h2⟩
def KV.put{kvs:List (κ×V)}{vs:List (κ×Value)}(r:KV kvs vs)(k:κ){y:V}{u:Value}(ry:RelV y u):KV (CU kvs k y) (stored vs k u):=by
 unfold CU stored;rw[r.any k];by_cases e:(vs.any λkv=>decide (kv.1=k))=true
 .rw[if_pos e,if_pos e];exact r.repl k ry
 .rw[if_neg e,if_neg e];exact Paired.snoc r ⟨rfl,ry⟩
def KV.length{kvs:List (κ×V)}{vs:List (κ×Value)}(r:KV kvs vs):kvs.length=vs.length:=Paired.length r
end
def LH{P:Program}{w:World}{k:Key}{u:Value}(r:RelV (kV k) u):(BP P w).is k u=true:=by
 cases k with
 |inl i=>obtain⟨t,e⟩:=(show ∃t,u=Value.int i t from r);subst e;exact N7 P w i t
 |inr x=>obtain⟨t,e⟩:=(show ∃t,u=Value.str x t from r);subst e;exact N6 P w x t
def KW{P:Program}{w:World}:∀{ks:List Key} {us:List Value},Vals (ks.map kV) us->ItemsAre (BP P w) ks us
 |[],_,r=>by rw[map_nil]at r;cases r;exact .nil
 |k::ks,_,r=>by
  rw[map_cons]at r;cases r with
  |cons h t=>exact .cons (LH h) (KW t)
abbrev KT(H:Hp):List (List Key×V)->List (List Key×Addr×Value)->Prop:=Paired λp q=>p.1=q.1/\H q.2.1=some (.tup (p.1.map kV))/\RelV p.2 q.2.2
def KT.val{H:Hp}{kvs:List (List Key×V)}{xs:List (List Key×Addr×Value)}(r:KT H kvs xs)(k:List Key):RelO (E2 kvs k) ((atKey xs k).map (·.2)):=by
 induction r with
 |nil=>exact True.intro
 |@cons p q ps qs h t ih=>
  obtain⟨h1,_,h2⟩:=h;by_cases e:p.1=k
  .have e':q.1=k:=h1.symm.trans e;have b:atKey (q::qs) k=some q.2:=by simp[atKey,find?_cons,e']
   rw[F1 e,b];exact h2
  .have e':¬ q.1=k:=λz=>e (h1.trans z);have b:atKey (q::qs) k=atKey qs k:=by simp[atKey,find?_cons,e']
   rw[F2 e,b];exact ih
def KT.repl{H:Hp}{kvs:List (List Key×V)}{xs:List (List Key×Addr×Value)}(r:KT H kvs xs)(k:List Key){y:V}{u:Value}(ry:RelV y u):
 KT H (kvs.map λkv=>if kv.1=k then(kv.1,y)else kv) (xs.map (putAt k u)):=by
 induction r with
 |nil=>exact .nil
 |@cons p q ps qs h t ih=>
  rw[map_cons,map_cons];refine .cons ?_ ih;obtain⟨h1,h2,h3⟩:=h;unfold putAt;by_cases e:p.1=k
  .rw[if_pos e,if_pos (h1.symm.trans e)];exact⟨h1,h2,ry⟩
  .rw[if_neg e,if_neg (λz=>e (h1.trans z))];exact⟨h1,h2,h3⟩
def KT.put{H:Hp}{kvs:List (List Key×V)}{xs:List (List Key×Addr×Value)}(r:KT H kvs xs)(k:List Key){b:Addr}{y:V}{u:Value}(hb:H b=some (.tup (k.map kV)))(ry:RelV y u):
 KT H (CU kvs k y) (storedH xs k b u):=by
 have e:(kvs.any λkv=>decide (kv.1=k))=(atKey xs k).isSome:=by
  rw[LU,(r.val k).isSome_eq,Option.isSome_map]
 unfold CU storedH;rw[e];by_cases q:(atKey xs k).isSome=true
 .rw[if_pos q,if_pos q];exact r.repl k ry
 .rw[if_neg q,if_neg q];exact Paired.snoc r ⟨rfl,hb,ry⟩
def KT.keeps{H H':Hp}{kvs:List (List Key×V)}{xs:List (List Key×Addr×Value)}(r:KT H kvs xs)(ht:∀b ys,H b=some (.tup ys)->H' b=some (.tup ys)):KT H' kvs xs:=
 Paired.mapP r λ_ _ z=>⟨z.1,ht _ _ z.2.1,z.2.2⟩
section
variable{P:Program}{w:World}{H:Hp}{h:Heap}{a:Addr}
def UF{u:HO}(ok:HOk P w H h)(e:Rd H a u):ObjOk P w H h a u:=e.ok ok
def PU{kvs:List (Key×V)}(ok:HOk P w H h)(e:Rd H a (.dK kvs)):kvs.length<=sizeLine/\(a==sysModules)=false/\∃vs,KV kvs vs/\h.DictOf (BP P w) a vs:=
 show ObjOk P w H h a (.dK kvs)from UF ok e
def UV{kvs:List (Key×V)}(ok:HOk P w H h)(e:H a=some (.dK kvs)):kvs.length<=sizeLine/\(a==sysModules)=false/\∃vs,KV kvs vs/\h.DictOf (BP P w) a vs:=PU ok (.inl e)
def MU{ks:List Key}(ok:HOk P w H h)(e:H a=some (.tup (ks.map kV))):(tupleKind (BP P w)).is h ks a:=by
 obtain⟨_,its,r,o,h1,h2,⟨n,h3⟩,_⟩:=(show ObjOk P w H h a (.tup (ks.map kV))from ok a _ e)
 exact⟨o,its.toArray,n,h1,h2,h3,by simpa using KW r⟩
def PR{kvs:List (List Key×V)}(ok:HOk P w H h)(e:Rd H a (.dT kvs)):kvs.length<=sizeLine/\(a==sysModules)=false /\
 ∃xs,KT H kvs xs/\h.DictOfH (tupleKind (BP P w)) a xs:=by
 obtain⟨z,y,xs,r,o,es,ep,h1,h2,h3,h4,h5⟩:=(show ObjOk P w H h a (.dT kvs)from UF ok e)
 refine⟨z,y,xs,r,o,es,ep,h1,h2,h3,h4,λx hx=>?_,h5⟩;have all:∀{l:List (List Key×V)} {m:List (List Key×Addr×Value)},KT H l m->∀x∈m,(tupleKind (BP P w)).is h x.1 x.2.1:=by
  intro l m q
  induction q with
  |nil=>intro x hx;exact nomatch hx
  |@cons p q ps qs hq t ih=>
   intro x hx;rcases mem_cons.mp hx with e|hx
   .subst e;exact MU ok (by rw[<- hq.1];exact hq.2.1)
   .exact ih x hx
 exact all r x hx
def bC{kvs:List (List Key×V)}(ok:HOk P w H h)(e:H a=some (.dT kvs)):kvs.length<=sizeLine/\(a==sysModules)=false /\
 ∃xs,KT H kvs xs/\h.DictOfH (tupleKind (BP P w)) a xs:=PR ok (.inl e)
end
def DGet(H:Hp)(a:Addr)(y:V)(r:Option V):Prop:=
 (∃kvs k,Rd H a (.dK kvs)/\y=kV k/\r=E2 kvs k)∨∃kvs k b,Rd H a (.dT kvs)/\y=.ref b/\H b=some (.tup (k.map kV))/\r=E2 kvs k
def DPut(H:Hp)(a:Addr)(y v:V)(H':Hp):Prop:=
 (∃kvs k,H a=some (.dK kvs)/\y=kV k/\kvs.length<sizeLine/\H'=upd H a (.dK (CU kvs k v))) ∨
 ∃kvs k b,H a=some (.dT kvs)/\y=.ref b/\H b=some (.tup (k.map kV))/\kvs.length<sizeLine/\H'=upd H a (.dT (CU kvs k v))
def DGet.k{H:Hp}{a:Addr}{kvs:List (Key×V)}{k:Key}(e:H a=some (.dK kvs)):DGet H a (kV k) (E2 kvs k):=.inl ⟨kvs,k,.inl e,rfl,rfl⟩
def DPut.k{H:Hp}{a:Addr}{kvs:List (Key×V)}{k:Key}{v:V}(e:H a=some (.dK kvs))(hl:kvs.length<sizeLine):DPut H a (kV k) v (upd H a (.dK (CU kvs k v))):=.inl ⟨kvs,k,e,rfl,hl,rfl⟩
section
variable{X:Cx}{pins:List (Addr×Obj)}{σ:St}{H:Hp}{s:Shared}{a:Addr}{y v:V}{u r:Value}{o:Option V}{A:Around}{E:Value->Shared->Prop}
def Inv.big(I:Inv X pins σ H s):sysModules<s.heap.objs.size:=by
 have h:mainGlobals<s.heap.objs.size:=(I.mod.glob.keeps I.bk).lt;exact lt_trans (by decide) h
def RX{Q:Value->Shared->Prop}(hu:A.units+1<cLine)(I:Inv X pins σ H s)(g:DGet H a y (some v))(ry:RelV y u)(h:∀w' s',Inv X pins σ H s'->RelV v w'->Q w' s'):
 wpAny (model X.prog X.w) A (getItem (.ref a) u) Q E s:=by
 rcases g with⟨kvs,k,e,ey,l⟩|⟨kvs,k,b,e,ey,eb,l⟩
 .subst ey;obtain⟨z,hd,vs,rel,dd⟩:=PU I.hok e;obtain⟨w',hw,rw'⟩:=RelO.some_of (v:=v) (o:=valueAt vs k) (by rw[l];exact rel.val k);exact wpAny_getItem_of (LH ry) dd.mapOf hw (h w' _ (I.tok _) rw')
 .subst ey;cases(show u=Value.ref b from ry);obtain⟨z,hd,xs,rel,dd⟩:=PR I.hok e;obtain⟨w',hw,rw'⟩:=RelO.some_of (v:=v) (o:=(atKey xs k).map (·.2)) (by rw[l];exact rel.val k);obtain⟨p,hp,hp2⟩:=c7 hw;refine wpAny_getItem_heap (tupleKind_room_in1 hu) (MU I.hok eb) dd hp ?_;rw[hp2];exact h w' _ (I.tok _) rw'
def KA{h':Heap}{t':Nat}{ob:HO}(I:Inv X pins σ H s)(mu:Mut (H a))(hs:Heap.SameBut a s.heap h')(he:∃q,h'.get? a=some q)(new:ObjOk X.prog X.w (upd H a ob) h' a ob):
 Inv X pins σ (upd H a ob) { s with heap:=h',toks:=t' }:=
 I.write (x:=a) (e:=a) mu (.inl rfl) (λb q hb z=>(hs.2 b hb).trans z) he new
def RQ{P:Program}{w:World}{H':Hp}{h':Heap}{kvs:List (Key×V)}{vs:List (Key×Value)}(z:kvs.length<=sizeLine)(hd:(a==sysModules)=false)(rel:KV kvs vs)(dd:h'.DictOf (BP P w) a vs):
 ObjOk P w H' h' a (.dK kvs):=⟨z,hd,vs,rel,dd⟩
def RW{H':Hp}{Q:Unit->Shared->Prop}(hu:A.units+1<cLine)(I:Inv X pins σ H s)(g:DPut H a y v H')(ry:RelV y u)(rv:RelV v r)(h:∀s',Inv X pins σ H' s'->Q () s'):
 wpAny (model X.prog X.w) A (setItem (.ref a) u r) Q E s:=by
 rcases g with⟨kvs,k,e,ey,l,eH⟩|⟨kvs,k,b,e,ey,eb,l,eH⟩
 .subst ey eH;obtain⟨z,hd,vs,rel,dd⟩:=UV I.hok e;have hz:vs.length<=sizeLine:=by rw[<- rel.length];exact z
  have hl:(CU kvs k v).length<=sizeLine:=by have:=FZ kvs k v;omega
  refine wpAny_setItem_pairs (hsz:=hz) (LH ry) dd λh' dd' hs=>h _ ?_;have he:∃q,h'.get? a=some q:=let ⟨q,_,_,hq,_⟩:=dd';⟨q,hq⟩
  exact KA I (by rw[e];exact True.intro) hs he (RQ hl hd (rel.put k rv) dd')
 .subst ey eH;cases(show u=Value.ref b from ry);obtain⟨z,hd,xs,rel,dd⟩:=bC I.hok e;have hz:xs.length<=sizeLine:=by rw[<- Paired.length rel];exact z
  have hl:(CU kvs k v).length<=sizeLine:=by have:=FZ kvs k v;omega
  refine wpAny_setItem_heap (hsz:=hz) (tupleKind_room_in1 hu) (MU I.hok eb) dd λh' dd' hs=>h _ ?_;obtain⟨q,es,ep,hq,h2,h3,h4,_,h5⟩:=dd';refine KA I (by rw[e];exact True.intro) hs ⟨q,hq⟩ ⟨hl,hd,_,(rel.put k eb rv).keeps λc ys ec=>?_,q,es,ep,hq,h2,h3,h4,h5⟩;rw[AC (ak ec e (λz=>nomatch z))];exact ec
end
def Tz(i:Expr):Prop:=∀ov iv,subscripted i false ov iv=operate [ov,iv] (getItem ov iv)
def Uo{prog:Program}{w:World}{A:Around}{E:Value->Shared->Prop}{s:Shared}{env:Env}{value slice:Expr}{pos:Pos}{T id:String}{Q:Value->Shared->Prop}
 (hl:typeLookup (.type T) "__getitem__"=pure (some (.builtin id))) (hs:Tz slice)
 (h:wpAny (model prog w) A (eval value env) (λo s₁=>wpAny (model prog w) A (eval slice env) (λi s₂=>s₂.TypeIs o T/\wpAny (model prog w) A (getItem o i) Q E s₂) E s₁) E s):
 wpAny (model prog w) A (eval (.Subscript value slice pos) env) Q E s:=by
 refine Subscript_ (wpAny_mono h (λo s₁ h₁=>wpAny_mono h₁ (λi s₂ h₂=>?_) λ_ _ x=>x) λ_ _ x=>x);obtain⟨hT,h₂⟩:=h₂;unfold subscriptTail;refine wpAny_bind ?_;rw[getitemInPython_of_ne hT.not_modules];refine wpAny_bind (wpAny_specialOf hT hl ?_);have fin:wpAny (model prog w) A (subscripted slice false o i) (λr s₃=>wpAny (model prog w) A (letTemporaryGo value o r >>= λ_=>pure r) Q E s₃) E s₂:=by
  rw[hs o i];exact wpAny_operating (wpAny_mono h₂ (λr s₃ h₃=>wpAny_bind (wpAny_letTemporaryGo (wpAny_pure h₃))) λ_ _ x=>x)
 first
  |exact wpAny_pure (wpAny_bind fin)
  |exact wpAny_bind (wpAny_pure (wpAny_bind fin))
  |exact wpAny_bind fin
def NB{X:Cx}{pins:List (Addr×Obj)}{σ:St}{H:Hp}{s:Shared}{a:Addr}{y:V}{o:Option V}(I:Inv X pins σ H s)(g:DGet H a y o):s.TypeIs (.ref a) "dict":=by
 rcases g with⟨kvs,k,e,_,_⟩|⟨kvs,k,b,e,_,_,_⟩
 .obtain⟨_,_,vs,_,dd⟩:=PU I.hok e;exact dd.typeIs
 .obtain⟨_,_,xs,_,dd⟩:=PR I.hok e;exact dd.typeIs
def OQ(td ty:TE):TE:=λσ H Q=>td σ H λx H1=>ty σ H1 λy H2=>∃a v,x=.ref a/\DGet H2 a y (some v)/\Q v H2
def Oa(td ty tv:TE):TS:=λD σ H=>tv σ H λv H1=>td σ H1 λx H2=>ty σ H2 λy H3=>∃a H4,x=.ref a/\DPut H3 a y v H4/\D.nx σ H4
section
variable{X:Cx}{o i e value:Expr}{pos pos' tpos:Pos}{td ty tv:TE}
def WK(hu:X.A.units+1<cLine)(ho:PE X o td)(hi:PE X i ty)(hs:Tz i):PE X (.Subscript o i pos) (OQ td ty):=by
 intro pins s σ H Q I h;refine Uo PySem.F.slot_dict_getitem.lookup hs (thn (ho pins s σ H _ I h) λu s1 ⟨x,H1,I1,rx,q1⟩=>thn (hi pins s1 σ H1 _ I1 q1) λiv s2 ⟨y,H2,I2,ry,a,v,ex,g,q2⟩=>?_);subst ex;obtain rfl:u=Value.ref a:=rx;exact⟨NB I2 g,RX hu I2 g ry λw' s3 I3 rw'=>⟨v,H2,I3,rw',q2⟩⟩
def W3(hu:X.A.units+1<cLine)(ho:PE X o td)(hi:PE X i ty)(hv:PE X value tv)(hs:swapsWith value (some (.Subscript o i pos')) pos.line X.env=pure false):
 PS X (.Assign [.Subscript o i pos'] value pos) (Oa td ty tv):=by
 intro pins s σ H D I h;refine wpAny_Assign_Subscript (thn (hv pins s σ H _ I h) λr s1 ⟨v,H1,I1,rv,q1⟩=>thn (ho pins s1 σ H1 _ I1 q1) λu s2 ⟨x,H2,I2,rx,q2⟩=>thn (hi pins s2 σ H2 _ I2 q2) λiv s3 ⟨y,H3,I3,ry,a,H4,ex,g,q3⟩=>?_) hs;subst ex;obtain rfl:u=Value.ref a:=rx;exact RW hu I3 g ry rv λs4 I4=>⟨σ,H4,I4,q3⟩
end
def Tj{P:Program}{w:World}{H:Hp}(h:Heap)(hb:sysModules<h.objs.size):ObjOk P w H (h.push { cls:=.type "dict",data:=.dict #[] }) h.objs.size (.dK []):=
 ⟨zero_le _,beq_eq_false_iff_ne.mpr (Ne.symm (ne_of_lt hb)),[],.nil,Heap.DictOf.new h⟩
def Go:List (TE×TE)->St->Hp->(List (V×V)->Hp->Prop)->Prop
 |[],_,H,Q=>Q [] H
 |(tk,tv)::r,σ,H,Q=>tk σ H λx H1=>tv σ H1 λy H2=>Go r σ H2 λps H3=>Q ((x,y)::ps) H3
abbrev VV:List (V×V)->List (Value×Value)->Prop:=Paired λp q=>RelV p.1 q.1/\RelV p.2 q.2
def PPs(X:Cx)(pos:Pos)(keys:List (Option Expr))(values:List Expr)(trs:List (TE×TE)):Prop:=
 ∀(pins:List (Addr×Obj)) (s:Shared) (σ:St) (H:Hp) (Q:List (V×V)->Hp->Prop),Inv X pins σ H s->Go trs σ H Q ->
   wpAny (model X.prog X.w) X.A (evalPairs (pairTrees keys values X.env pos)) (λvs s'=>∃ps H',Inv X pins σ H' s'/\VV ps vs/\Q ps H') X.xe s
def W4{X:Cx}{pos:Pos}:PPs X pos [] [] []:=λpins s σ H Q I h=>pairTrees_nil_walk ⟨[],H,I,.nil,h⟩
def T3{X:Cx}{pos:Pos}{k v:Expr}{ks:List (Option Expr)}{vs:List Expr}{tk tv:TE}{trs:List (TE×TE)}(hk:PE X k tk)(hv:PE X v tv)(hr:PPs X pos ks vs trs):
 PPs X pos (some k::ks) (v::vs) ((tk,tv)::trs):=λpins s σ H Q I h=>
 pairTrees_cons_walk (thn (hk pins s σ H _ I h) λu s1 ⟨x,H1,I1,rx,q1⟩=>thn (hv pins s1 σ H1 _ I1 q1) λw2 s2 ⟨y,H2,I2,ry,q2⟩=>
  thn (hr pins s2 σ H2 _ I2 q2) λws s3 ⟨ps,H3,I3,rel,q3⟩=>⟨(x,y)::ps,H3,I3,.cons ⟨rx,ry⟩ rel,q3⟩)
def EM(kvs more:List (Key×V)):List (Key×V):=more.foldl (λacc kv=>CU acc kv.1 kv.2) kvs
def KV.merge:∀{more:List (Key×V)} {rs:List (Key×Value)} {kvs:List (Key×V)} {vs:List (Key×Value)},KV more rs->KV kvs vs->KV (EM kvs more) (merged vs rs):=by
 intro more rs kvs vs r;unfold KV at r
 induction r generalizing kvs vs with
 |nil=>intro q;exact q
 |@cons p q ps qs h t ih=>
  intro r0;have e:KV (CU kvs p.1 p.2) (stored vs q.1 q.2):=by
   have:=r0.put p.1 h.2;rw[<- h.1];exact this
  exact ih e
def Gf:∀(more kvs:List (Key×V)),(EM kvs more).length<=kvs.length+more.length
 |[],kvs=>by show kvs.length<=kvs.length+0;omega
 |p::r,kvs=>by
  have h1:=Gf r (CU kvs p.1 p.2);have h2:=FZ kvs p.1 p.2;show(EM (CU kvs p.1 p.2) r).length<=_;rw[length_cons];omega
def JS{P:Program}{w:World}:∀{kvs:List (Key×V)} {ws:List (Value×Value)},VV (kvs.map λkv=>(kV kv.1,kv.2)) ws->∃rs,Carries (BP P w) ws rs/\KV kvs rs
 |[],_,r=>by rw[map_nil]at r;cases r;exact⟨[],True.intro,.nil⟩
 |p::kvs,_,r=>by
  rw[map_cons]at r;cases r with
  |@cons a b as bs h t=>
   obtain⟨rs,c,q⟩:=JS (P:=P) (w:=w) t;obtain⟨b1,b2⟩:=b;exact⟨(p.1,b2)::rs,⟨LH h.1,rfl,c⟩,.cons ⟨rfl,h.2⟩ q⟩
def OP(trs:List (TE×TE)):TE:=λσ H Q=>∀p,H p=none->Go trs σ (upd H p (.dK [])) λps H2=>H2 p=some (.dK [])/\∃kvs:List (Key×V),ps=kvs.map (λkv=>(kV kv.1,kv.2))/\kvs.length<=15/\Q (.ref p) (upd H2 p (.dK (EM [] kvs)))
def WJ{X:Cx}{pos:Pos}{keys:List (Option Expr)}{values:List Expr}{trs:List (TE×TE)}(h:PPs X pos keys values trs)(hall:keys.all (·.isSome)=true)(hl:keys.length=values.length)(h0:keys≠[])
 (h15:keys.length<=15):PE X (.Dict keys values pos) (OP trs):=by
 intro pins s σ H Q I q;have hn:=I.hok.fresh (le_refl s.heap.objs.size);have I1:=I.laid (a:=s.heap.objs.size) (o:=.dK []) (h':=s.heap.push { cls:=.type "dict",data:=.dict #[] }) (t':=s.toks) (λ_ _ q=>Heap.get?_push_of_some _ q) (le_refl _) (Tj s.heap I.big);refine wpAny_Dict_walk (knd:=BP X.prog X.w) hall hl h0 h15 (thn (h pins _ σ _ _ I1 (q _ hn)) λws s2 ⟨ps,H2,I2,rel,e,kvs,ep,lk,q2⟩=>?_);subst ep;obtain⟨rs,c,rk⟩:=JS (P:=X.prog) (w:=X.w) rel;obtain⟨z,hd,vs0,r0,dd⟩:=UV I2.hok e;cases r0;refine⟨rs,c,dd,λh' dd' hs=>⟨.ref s.heap.objs.size,_,?_,rfl,q2⟩⟩;have hz:(EM [] kvs).length<=sizeLine:=by
  have h1:=Gf kvs [];rw[length_nil]at h1;rw[sizeLine_eq];omega
 have he:∃q,h'.get? s.heap.objs.size=some q:=let ⟨q,_,_,hq,_⟩:=dd';⟨q,hq⟩
 exact KA I2 (by rw[e];exact True.intro) hs he (RQ hz hd (rk.merge .nil) dd')
def Al(cells:List (Str×Addr)):List (Str×NameKind)->List (Str×Addr)->List (Str×Addr)
 |[],acc=>acc
 |(n,k)::r,acc=>if k==.free then Al cells r ((n,(cells.lookup n).getD 0)::acc)else Al cells r acc
def Fz{env:Env}(f:Str×NameKind->List (Str×Addr)->Sem (ForInStep (List (Str×Addr))))
 (hf:∀name kind cs,f (name,kind) cs=if(kind==NameKind.free)=true then(do let a <- cellOf env name;pure (ForInStep.yield ((name,a)::cs)))else pure (ForInStep.yield cs)):
 ∀(names:List (Str×NameKind)) (acc:List (Str×Addr)),(∀y∈names,y.2=.free->∃c,env.cells.lookup y.1=some c)->forIn names acc f=pure (Al env.cells names acc)
 |[],acc,_=>rfl
 |(n,k)::r,acc,hy=>by
   rw[List.forIn_cons,hf];have ih:=λa=>Fz f hf r a λz hz=>hy z (mem_cons_of_mem _ hz);by_cases hk:(k==NameKind.free)=true
   .obtain⟨c,hc⟩:=hy (n,k) mem_cons_self (by simpa using hk);have hc:env.cells.lookup n=some c:=hc;have e1:cellOf env n=pure c:=by unfold cellOf;rw[hc]
    rw[if_pos hk,e1];show forIn r ((n,c)::acc) f=_;have e2:Al env.cells ((n,k)::r) acc=Al env.cells r ((n,c)::acc):=by
     rw[Al,if_pos hk,hc];rfl
    rw[ih,e2]
   .rw[if_neg hk];show forIn r acc f=_;have e2:Al env.cells ((n,k)::r) acc=Al env.cells r acc:=by
     rw[Al,if_neg hk]
    rw[ih,e2]
def Ee{scope:Scope}{env:Env}(h:∀y∈scope.names,y.2=.free->∃c,env.cells.lookup y.1=some c):closureFor scope env=pure (Al env.cells scope.names []):=by
 unfold closureFor;dsimp only;rw[Fz _ (λname kind cs=>rfl) scope.names [] h];rfl
def Dt{cells:List (Str×Addr)}:∀{names:List (Str×NameKind)} {acc:List (Str×Addr)},(∀y∈names,y.2=.free->∃c,cells.lookup y.1=some c)->(∀x c,acc.lookup x=some c->cells.lookup x=some c) ->
 ∀x c,(Al cells names acc).lookup x=some c->cells.lookup x=some c
 |[],_,_,ha,x,c,e=>ha x c e
 |(n,k)::r,acc,hy,ha,x,c,e=>by
   unfold Al at e;have hr:∀y∈r,y.2=.free->∃c,cells.lookup y.1=some c:=λz hz=>hy z (mem_cons_of_mem _ hz);by_cases hk:(k==NameKind.free)=true
   .rw[if_pos hk]at e;refine Dt hr (λz d q=>?_) x c e;obtain⟨c0,hc0⟩:=hy (n,k) mem_cons_self (by simpa using hk);have hc0:cells.lookup n=some c0:=hc0;rw[lookup_cons]at q;by_cases hz:(z==n)=true
    .rw[hz,hc0]at q;have:z=n:=by simpa using hz
     subst this;simpa [hc0]using q
    .have hz':(z==n)=false:=by simpa using hz
     rw[hz']at q;exact ha z d q
   .rw[if_neg hk]at e;exact Dt hr ha x c e
def DE{cells:List (Str×Addr)}:∀{names:List (Str×NameKind)} {acc:List (Str×Addr)} {x:Str},((acc.lookup x).isSome=true∨(x,NameKind.free)∈names)->((Al cells names acc).lookup x).isSome=true
 |[],_,_,h=>h.elim id λz=>by cases z
 |(n,k)::r,acc,x,h=>by
   unfold Al;by_cases hk:(k==NameKind.free)=true
   .rw[if_pos hk];refine DE ?_;by_cases hx:(x==n)=true
    .exact .inl (by rw[lookup_cons,hx];rfl)
    .have hx':(x==n)=false:=by simpa using hx
     rcases h with h|h
     .exact .inl (by rw[lookup_cons,hx'];exact h)
     .rcases mem_cons.mp h with h|h
      .cases h;simp at hx
      .exact .inr h
   .rw[if_neg hk];refine DE ?_;rcases h with h|h
    .exact .inl h
    .rcases mem_cons.mp h with h|h
     .cases h;simp at hk
     .exact .inr h
def Cp:Nat->List (Str×NameKind)->List (Str×Addr)
 |_,[]=>[]
 |n,(x,k)::r=>if k==.cell then Cp (n+1) r++[(x,n)]else Cp n r
def CC:∀(names:List (Str×NameKind)) (n:Nat) (acc:List (Str×Addr)),cellsFrom n names acc=Cp n names++acc
 |[],_,_=>rfl
 |(x,k)::r,n,acc=>by
   unfold cellsFrom Cp;by_cases hk:(k==NameKind.cell)=true
   .rw[if_pos hk,if_pos hk,CC r (n+1),append_assoc];rfl
   .rw[if_neg hk,if_neg hk,CC r n]
def IU:∀(names:List (Str×NameKind)) (n:Nat) (x:Str) (c:Addr),(Cp n names).lookup x=some c->(x,NameKind.cell)∈names
 |[],_,_,_,e=>by cases e
 |(y,k)::r,n,x,c,e=>by
   unfold Cp at e;by_cases hk:(k==NameKind.cell)=true
   .rw[if_pos hk]at e;have hk':k=.cell:=by simpa using hk
    rw[lookup_append]at e;cases q:(Cp (n+1) r).lookup x with
    |some d=>exact mem_cons_of_mem _ (IU r _ x d q)
    |none=>
     rw[q]at e;simp only[none_or,lookup_cons]at e;by_cases hx:(x==y)=true
     .have:x=y:=by simpa using hx
      subst this;subst hk';exact mem_cons_self
     .have hx':(x==y)=false:=by simpa using hx
      rw[hx']at e;cases e
   .rw[if_neg hk]at e;exact mem_cons_of_mem _ (IU r n x c e)
def IV:∀(names:List (Str×NameKind)) (n:Nat) (x:Str),(x,NameKind.cell)∈names->∃c,(Cp n names).lookup x=some c
 |[],_,_,h=>by cases h
 |(y,k)::r,n,x,h=>by
   unfold Cp;by_cases hk:(k==NameKind.cell)=true
   .rw[if_pos hk,lookup_append];rcases mem_cons.mp h with h|h
    .obtain⟨rfl,rfl⟩:=Prod.mk.inj h;cases q:(Cp (n+1) r).lookup x with
     |some d=>exact⟨d,rfl⟩
     |none=>exact⟨n,by simp[lookup_cons]⟩
    .obtain⟨c,hc⟩:=IV r (n+1) x h;exact⟨c,by rw[hc];rfl⟩
   .rw[if_neg hk];rcases mem_cons.mp h with h|h
    .cases h;simp at hk
    .exact IV r n x h
def Tu(scope:Scope)(C:Addr)(env:Env):Env:=
 { scope:=relabel scope env,locals:=C,globals:=env.globals,cells:=cellsFrom (C+1) scope.names (Al env.cells scope.names []),qual:=env.qual,func:=none,code:=env.code,frame:=env.frame,builtins:=env.builtins }
def Nn{M:Model}{A:Around}{E:Value->Shared->Prop}{s:Shared}{scope:Scope}{cl:List (Str×Addr)}{env:Env}{Q:Env->Shared->Prop}
 (hQ:∀h',(∀b o,s.heap.get? b=some o->h'.get? b=some o)->h'.Ns s.heap.objs.size (λ_=>none)->(∀x c,(Cp (s.heap.objs.size+1) scope.names).lookup x=some c->h'.IsCell c none/\s.heap.objs.size<c) ->
  ((Cp (s.heap.objs.size+1) scope.names).Pairwise λx y=>x.2≠y.2) ->
  Q { scope:=scope,locals:=s.heap.objs.size,globals:=env.globals,cells:=cellsFrom (s.heap.objs.size+1) scope.names cl,qual:=env.qual,func:=none,code:=env.code,frame:=env.frame,builtins:=env.builtins } { s with heap:=h' }):
 wpAny M A (newFunctionEnv scope env.globals cl [] env.qual none .none (some env)) Q E s:=by
 simp only[newFunctionEnv,Option.isSome_some,if_true];refine wpAny_bind (wpAny_alloc ?_);refine wpAny_bind (wpAny_layCells _ (λname kind cells=>by cases hkc:kind==NameKind.cell<;>simp[hkc]) _ _ _ _ ?_);have ok:=cellsFrom_ok scope.names (s.heap.push { cls:=.type "dict",data:=.dict #[] }) (s.heap.objs.size+1) [] ⟨λ_ _ hm=>(nomatch hm),List.Pairwise.nil⟩ (by rw[Heap.size_push];exact le_refl _);rw[Heap.size_push,CC,append_nil]at ok;rw[show({ s with heap:=s.heap.push { cls:=.type "dict",data:=.dict #[] } }:Shared).heap.objs.size=s.heap.objs.size+1 from Heap.size_push ..];refine wpAny_bind (wpAny_pure (wpAny_pure ?_));exact hQ _ (λb o e=>pushCells_keeps _ _ b o (Heap.get?_push_of_some _ e)) ((Heap.Ns.new s.heap (.type "dict")).keeps (pushCells_keeps _ _)) (λx c hc=>⟨(ok.empty x c (mem_of_lookup hc)).1,(ok.empty x c (mem_of_lookup hc)).2⟩) ok.apart
def KN:∀{names:List (Str×NameKind)} {x:Str} {k k':NameKind},(names.map (·.1)).Nodup->(x,k)∈names->(x,k')∈names->k=k'
 |[],_,_,_,_,h,_=>by cases h
 |(y,q)::r,x,k,k',nd,h,h'=>by
   have nd:(y::r.map (·.1)).Nodup:=nd;obtain⟨n1,n2⟩:=nodup_cons.mp nd;have out:∀{z:NameKind},(y,z)∈r->False:=λm=>n1 (mem_map.mpr ⟨_,m,rfl⟩);rcases mem_cons.mp h with e|e<;>rcases mem_cons.mp h' with e'|e'
   .cases e;cases e';rfl
   .cases e;exact(out e').elim
   .cases e';exact(out e).elim
   .exact KN n2 e e'
def Ge{env:Env}{x:Str}:∀{names:List (Str×NameKind)},names.lookup x=some .free ->
 (names.map λ(n,k)=>if(k==NameKind.free&&env.scope.kind==.function&&env.kindOf n==some .cell)then(n,NameKind.cell)else(n,k)).lookup x=some .cell ∨
 (names.map λ(n,k)=>if(k==NameKind.free&&env.scope.kind==.function&&env.kindOf n==some .cell)then(n,NameKind.cell)else(n,k)).lookup x=some .free
 |[],h=>by simp at h
 |(n,k)::r,h=>by
   have ih:=@Ge env x r;show List.lookup x ((if(k==NameKind.free&&env.scope.kind==.function&&env.kindOf n==some .cell)=true then(n,NameKind.cell)else(n,k))::_)=_∨List.lookup x ((if(k==NameKind.free&&env.scope.kind==.function&&env.kindOf n==some .cell)=true then(n,NameKind.cell)else(n,k))::_)=_;cases hx:x==n with
   |true=>
    simp only[lookup_cons,hx]at h;cases h;by_cases hc:(NameKind.free==NameKind.free&&env.scope.kind==.function&&env.kindOf n==some .cell)=true
    .rw[if_pos hc];exact .inl (by simp only[lookup_cons,hx])
    .rw[if_neg hc];exact .inr (by simp only[lookup_cons,hx])
   |false=>
    simp only[lookup_cons,hx]at h;by_cases hc:(k==NameKind.free&&env.scope.kind==.function&&env.kindOf n==some .cell)=true
    .rw[if_pos hc];simp only[lookup_cons,hx];exact ih h
    .rw[if_neg hc];simp only[lookup_cons,hx];exact ih h
def Gw{env:Env}{x:Str}:∀{names:List (Str×NameKind)},
 ((names.map λ(n,k)=>if(k==NameKind.free&&env.scope.kind==.function&&env.kindOf n==some .cell)then(n,NameKind.cell)else(n,k)).lookup x=some .cell ∨
 (names.map λ(n,k)=>if(k==NameKind.free&&env.scope.kind==.function&&env.kindOf n==some .cell)then(n,NameKind.cell)else(n,k)).lookup x=some .free) ->
 names.lookup x=some .cell∨names.lookup x=some .free
 |[],h=>by simp at h
 |(n,k)::r,h=>by
   have ih:=@Gw env x r;have h:List.lookup x ((if(k==NameKind.free&&env.scope.kind==.function&&env.kindOf n==some .cell)=true then(n,NameKind.cell)else(n,k))::_)=_∨List.lookup x ((if(k==NameKind.free&&env.scope.kind==.function&&env.kindOf n==some .cell)=true then(n,NameKind.cell)else(n,k))::_)=_:=h;cases hx:x==n with
   |true=>
    by_cases hc:(k==NameKind.free&&env.scope.kind==.function&&env.kindOf n==some .cell)=true
    .have hk:k=.free:=by
      have:=(Bool.and_eq_true _ _ ▸ (Bool.and_eq_true _ _ ▸ hc).1:(k==NameKind.free)=true/\_).1;simpa using this
     exact .inr (by simp only[lookup_cons,hx,hk])
    .rw[if_neg hc]at h;simp only[lookup_cons,hx]at h ⊢;exact h
   |false=>
    simp only[lookup_cons,hx];refine ih ?_;by_cases hc:(k==NameKind.free&&env.scope.kind==.function&&env.kindOf n==some .cell)=true
    .rw[if_pos hc]at h;simp only[lookup_cons,hx]at h;exact h
    .rw[if_neg hc]at h;simp only[lookup_cons,hx]at h;exact h
def cCx(X:Cx)(N':List Str)(scope:Scope)(s:Shared)(H:Hp)(ex:List Addr):Cx:=
 { X with N:=N',s₀:=s,H₀:=H,env:=Tu scope s.heap.objs.size X.env,outer:=X.stack,ex:=ex,fn:=λx=>decide ((x,NameKind.cell)∈scope.names),pn:=[],xe:=λ_ _=>False }
structure CSc(X:Cx)(scope:Scope)(fr:List Str)(ix:List Nat):Prop where
 kind:scope.kind=.function
 nd:(scope.names.map (·.1)).Nodup
 free:(scope.names.all λy=>y.2 != .free||X.env.kindOf y.1==some .cell||X.env.kindOf y.1==some .free)=true
 frs:(fr.all λx=>scope.names.lookup x==some .free)=true
 ixs:fr.map some=ix.map λi=>X.N[i]?
 loc:(scope.names.all λy=>y.2 != .local||scope.names.lookup y.1==some .local)=true
def HZ(n:Nat)(ix:List Nat)(σ:St):St:=List.replicate n none++ix.map λi=>(σ[i]?).join
section
variable{X:Cx}{scope:Scope}{fr loc:List Str}{ix:List Nat}{pins:List (Addr×Obj)}{σ:St}{H:Hp}{s:Shared}
def CSc.outer(S:CSc X scope fr ix){y:Str×NameKind}(hy:y∈scope.names)(e:y.2=.free):X.env.kindOf y.1=some .cell∨X.env.kindOf y.1=some .free:=by
 have h:=all_eq_true.mp S.free y hy;rw[e]at h;simpa using h
def CSc.clos(S:CSc X scope fr ix)(ok:X.Ok):∀y∈scope.names,y.2=.free->∃c,X.env.cells.lookup y.1=some c:=λy hy e=>ok.has y.1 (S.outer hy e)
def DK(S:CSc X scope fr ix)(ok:X.Ok){n:Nat}{x:Str}{c:Addr}(e:(cellsFrom n scope.names (Al X.env.cells scope.names [])).lookup x=some c):
 (Cp n scope.names).lookup x=some c∨X.env.cells.lookup x=some c:=by
 rw[CC,lookup_append]at e;cases q:(Cp n scope.names).lookup x with
 |some d=>rw[q]at e;exact .inl e
 |none=>
  rw[q]at e;exact .inr (Dt (S.clos ok) (λ_ _ z=>by simp at z) x c e)
def MY(S:CSc X scope fr ix)(I:Inv X pins σ H s){ex:List Addr}(hex:∀b∈ex,FpOk X pins H b){h':Heap}(hk:∀b o,s.heap.get? b=some o->h'.get? b=some o)(hn:h'.Ns s.heap.objs.size λ_=>none)
 (ho:∀x c,(Cp (s.heap.objs.size+1) scope.names).lookup x=some c->h'.IsCell c none/\s.heap.objs.size<c) (ha:(Cp (s.heap.objs.size+1) scope.names).Pairwise λx y=>x.2≠y.2) (hlt:∀b∈ex,b<s.heap.objs.size):
 Inv (cCx X (loc++fr) scope s H ex) [] (HZ loc.length ix σ) H { s with heap:=h' }:=by
 have old:∀x c,X.env.cells.lookup x=some c->c<s.heap.objs.size:=λx c e=>let ⟨v,z⟩:=I.cell x c e;z.lt
 have lenix:fr.length=ix.length:=by simpa using congrArg List.length S.ixs
 refine⟨⟨I.ok.mod,?_,I.ok.glob,I.ok.blt,le_refl _,?_,?_,?_,I.ok.hd,I.ok.frames,.inl rfl,?_,I.bs,le_trans I.ok.bsz I.sz,?_,?_,I.stack,I.stkFree⟩,rfl,I.bare,Un.kept hk,⟨_,hn,?_⟩,?_,I.hok.fresh (le_refl _),?_,?_,I.hok.kept hk,?_⟩
 .exact S.kind
 .intro x y c e1 e2;rcases DK S I.ok e1 with a|a<;>rcases DK S I.ok e2 with b|b
  .exact name_of_addr ha (PySem.mem_of_lookup a) (PySem.mem_of_lookup b)
  .exact absurd (lt_trans (ho x c a).2 (old y c b)) (lt_irrefl _)
  .exact absurd (lt_trans (ho y c b).2 (old x c a)) (lt_irrefl _)
  .exact I.ok.inj x y c a b
 .intro x hx;rcases Gw hx with e|e
  .exact isSome_iff_exists.mp (PySem.W.cellsFrom_some _ _ _ (.inl e))
  .exact isSome_iff_exists.mp (PySem.W.cellsFrom_some _ _ _ (.inr (DE (.inr (PySem.mem_of_lookup e)))))
 .intro x c hf e;have hf:(x,NameKind.cell)∈scope.names:=of_decide_eq_true hf;obtain⟨d,hd⟩:=IV scope.names (s.heap.objs.size+1) x hf;have e':(cellsFrom (s.heap.objs.size+1) scope.names (Al X.env.cells scope.names [])).lookup x=some c:=e;rw[CC,lookup_append,hd]at e';cases e';exact le_of_lt (ho x _ hd).2
 .intro b hb;refine⟨ne_of_lt (hlt b hb),λx c e z=>?_⟩;rcases DK S I.ok e with a|a
  .exact absurd (lt_trans (ho x c a).2 (by rw[z];exact hlt b hb)) (lt_irrefl _)
  .exact(hex b hb).2.2.2.2.1 x c a z
 .intro b o e hb;rcases(hex b hb).2.2.2.1 with z|z
  .exact I.ok.noex b o e z
  .exact absurd (lt_of_lt_of_le (Heap.lt_size (I.ok.bs b o e).1) z) (lt_irrefl _)
 .intro b hb hf;rcases mem_cons.mp (I.stkSub b hf)with z|z
  .exact(hex b hb).2.1 z
  .exact(hex b hb).2.2.1 z
 .intro i x v e1 e2 e3;have e1:(loc++fr)[i]?=some x:=e1;unfold HZ at e2;by_cases hi:i<loc.length
  .rw[List.getElem?_append_left (by simpa using hi),List.getElem?_replicate]at e2;split at e2<;>cases e2
  .have hi':loc.length<=i:=not_lt.mp hi;rw[List.getElem?_append_right (by simpa using hi')]at e2;rw[List.getElem?_append_right hi']at e1;rw[length_replicate,List.getElem?_map]at e2;generalize hj:i-loc.length=j at e1 e2;have e4:(fr.map some)[j]?=some (some x):=by rw[List.getElem?_map,e1];rfl
   rw[S.ixs,List.getElem?_map]at e4;cases q:ix[j]? with
   |none=>rw[q]at e2;cases e2
   |some k=>
    rw[q]at e2 e4;have e2:(σ[k]?).join=some v:=Option.some.inj e2;have e4:X.N[k]?=some x:=Option.some.inj e4;have e5:σ[k]?=some (some v):=by
     cases w:σ[k]? with
     |none=>rw[w]at e2;cases e2
     |some z=>rw[w]at e2;simpa using e2
    have hfx:=all_eq_true.mp S.frs x (mem_of_getElem? e1);have hfx:scope.names.lookup x=some .free:=by simpa using hfx
    have hmem:=PySem.mem_of_lookup hfx;have hout:=S.outer hmem rfl;obtain⟨m,hm,hl⟩:=I.loc;obtain⟨u,r,l⟩:=hl k x v e4 e5 (.inr hout);refine⟨u,r,.inr ⟨Ge hfx,?_⟩⟩;rcases l with⟨kk,_⟩|⟨kk,c,ec,z⟩
    .rcases hout with w|w
     .rw[kk]at w;cases w
     .rw[kk]at w;cases w
    .have own0:(Cp (s.heap.objs.size+1) scope.names).lookup x=none:=by
      cases w:(Cp (s.heap.objs.size+1) scope.names).lookup x with
      |none=>rfl
      |some d=>exact absurd (KN S.nd (IU _ _ _ _ w) hmem) (by decide)
     have hc:(Al X.env.cells scope.names []).lookup x=some c:=by
      obtain⟨d,hd⟩:=isSome_iff_exists.mp (DE (cells:=X.env.cells) (acc:=[]) (.inr hmem));have:=Dt (S.clos I.ok) (λ_ _ z=>by simp at z) x d hd;rw[ec]at this;cases this;exact hd
     refine⟨c,?_,z.keeps hk⟩;show(cellsFrom (s.heap.objs.size+1) scope.names (Al X.env.cells scope.names [])).lookup x=some c;rw[CC,lookup_append,own0,hc];rfl
 .intro x c e;rcases DK S I.ok e with a|a
  .exact⟨_,(ho x c a).1⟩
  .obtain⟨v,z⟩:=I.cell x c a;exact⟨v,z.keeps hk⟩
 .intro x c e;rcases DK S I.ok e with a|a
  .exact I.hok.fresh (le_of_lt (ho x c a).2)
  .exact I.freeC x c a
 .intro p hp;cases hp
 .unfold HZ;show _=(loc++fr).length;simp[lenix]
end
section
variable{prog:Program}{w:World}{A:Around}{R:Result->Shared->Prop}{s:Shared}
def HY{elt target iter:Expr}{ifs:List Expr}{scope:Scope}{pos:Pos}{it acc:Value}{env:Env}(I:Nat->Shared->Prop)
 (turn:∀n s,I n s->wpAny (model prog w) A (pyNext it) (λr s₁=>match r with
  |none=>R (.ok .next) s₁
  | some v=>wpAny (model prog w) A (letOwnedTupleGo target it v) (λ_ s₁=>wpAny (model prog w) A (assign target env v) (λ_ s₂=>
   wpAny (model prog w) A (forIn ifs true λc r=>if r=true then do let ok <- isTrue c env (eval c env);pure (ForInStep.yield ok)else pure (ForInStep.yield r)) (λok s₃=>
    if ok=true then wpAny (model prog w) A (eval elt env) (λx s₄=>
     wpAny (model prog w) A (call (.builtin "list.append") [acc,x]) (λ_ s₅=>∃m,m<n/\I m s₅) (λ_ _=>False) s₄) (λ_ _=>False) s₃
    else ∃m,m<n/\I m s₃) (λ_ _=>False) s₂) (λ_ _=>False) s₁) (λ_ _=>False) s₁) (λ_ _=>False) s)
 (n:Nat) (h:I n s):
 codeAny (model prog w) A (.compLoop (.ListComp elt [⟨target,iter,ifs,0⟩] scope pos) 0 it acc env) R s:=by
 refine codeAny_loop rfl I (λn s hI=>?_) n h;show wpAny _ A ((compTurn (.ListComp elt [⟨target,iter,ifs,0⟩] scope pos) 0 it acc env).onRaise (λx=>do noteFrame x env;theTreesLotGoes x)) _ _ s;refine wpAny_noted ?_;rw[compTurn_list];refine wpAny_bind (wpAny_standAt (wpAny_bind (wpAny_mono (turn n s hI) (λr s₁ h₁=>?_) λ_ _ h'=>h'.elim)));cases r with
 |none=>exact wpAny_pure h₁
 |some v=>
  refine wpAny_bind (wpAny_mono h₁ (λ_ s₁ h₁=>?_) λ_ _ h'=>h'.elim);refine wpAny_bind (wpAny_mono h₁ (λ_ s₂ h₂=>wpAny_bind (wpAny_mono h₂ (λok s₃ h₃=>?_) λ_ _ h'=>h'.elim)) λ_ _ h'=>h'.elim);cases ok with
  |false=>exact wpAny_pure ⟨rfl,h₃⟩
  |true=>
   exact wpAny_bind (wpAny_bind (wpAny_mono h₃ (λx s₄ h₄=>wpAny_bind (wpAny_mono h₄ (λ_ s₅ h₅=>wpAny_pure (wpAny_pure ⟨rfl,h₅⟩)) λ_ _ h'=>h'.elim)) λ_ _ h'=>h'.elim))
end
def PF(X:Cx)(ifs:List Expr)(t:TT):Prop:=
 ∀(pins:List (Addr×Obj)) (s:Shared) (σ:St) (H:Hp) (Q:Bool->Hp->Prop),Inv X pins σ H s->t σ H Q ->
   wpAny (model X.prog X.w) X.A (forIn ifs true λc r=>if r=true then do let ok <- isTrue c X.env (eval c X.env);pure (ForInStep.yield ok)else pure (ForInStep.yield r)) (TP X pins σ Q) X.xe s
def SA:TT:=λ_ H Q=>Q true H
def Z0{X:Cx}:PF X [] SA:=λpins s σ H Q I h=>wpAny_tests_nil ⟨H,I,h⟩
def Yz{X:Cx}{c:Expr}{t:TT}(h:PT X c t):PF X [c] t:=λpins s σ H Q I q=>wpAny_tests_one (h pins s σ H Q I q)
def UX(J:It)(D:Addr)(σ0:St)(H0:Hp)(g:TG)(tf:TT)(te:TE)(Q:VK):Prop:=∃W:Nat->Nat->St->List V->Hp->Prop,
 (∃m,W 0 m σ0 [] (upd H0 D (.lst [])))/\∀i m σ ys H,W i m σ ys H->H D=some (.lst ys)/\
  ((J.stop i H/\Q (.ref D) H)∨(J.go i H/\ys.length<sizeLine/\∃N:St->List V->Hp->Prop,(∀σ' ys' H',N σ' ys' H'->∃m',m'<m/\W (i+1) m' σ' ys' H')/\
    ∀x H',J.yld i H x H'->g x σ H' λσ2 H2=>tf σ2 H2 λb H3=>
     if b=true then te σ2 H3 λv H4=>H4 D=some (.lst ys)/\N σ2 (ys++[v]) (upd H4 D (.lst (ys++[v])))
     else N σ2 ys H3))
def G8(n:Nat)(ix:List Nat)(wi:TI)(g:TG)(tf:TT)(te:TE):TE:=λσ H Q=>wi σ H λJ H1=>∀D,H1 D=none->UX J D (HZ n ix σ) H1 g tf te Q
section
variable{X:Cx}
def Rk{pins:List (Addr×Obj)}{σ:St}{H:Hp}{s:Shared}{D:Addr}{ys:List V}{x:V}{u:Value}{Q:Value->Shared->Prop}{E:Value->Shared->Prop}(I:Inv X pins σ H s)(hD:H D=some (.lst ys))(r:RelV x u)(hz:ys.length<sizeLine)
 (h:∀v s',Inv X pins σ (upd H D (.lst (ys++[x]))) s'->Q v s'):wpAny (model X.prog X.w) X.A (call (.builtin "list.append") [.ref D,u]) Q E s:=by
 have I':=I.wish λ_ _=>False;have q:=KP (X:=X.wish λ_ _=>False) pins s σ H (.ref D) [x] (.ref D) [u] (λv H'=>H'=upd H D (.lst (ys++[x]))) I' rfl (.cons r .nil) ⟨D,ys,x,rfl,rfl,hD,hz,rfl⟩;refine wpAny_mono q (λv s' ⟨v',H',I2,_,e⟩=>?_) λ_ _ z=>False.elim z;subst e;exact h v s' I2.unwish
def WM{elt tg iter:Expr}{ifs:List Expr}{scope:Scope}{pos:Pos}{loc fr:List Str}{ix:List Nat}{wi:TI}{g:TG}{tf:TT}{te:TE}(hc:X.calm=true)(S:CSc X scope fr ix)(hi:PI X tg iter wi)
 (hg:∀s H ex,PG (cCx X (loc++fr) scope s H ex) tg g) (hf:∀s H ex,PF (cCx X (loc++fr) scope s H ex) ifs tf) (he:∀s H ex,PE (cCx X (loc++fr) scope s H ex) elt te)
 (hs:∀x,foldedSetIterable iter X.env x=pure x:=by intro _;rfl):PE X (.ListComp elt [⟨tg,iter,ifs,0⟩] scope pos) (G8 loc.length ix wi g tf te):=by
 intro pins s σ H Q I h;rw[eval_ListComp];have hnames:∀y∈scope.names,y.2=.local->scope.names.lookup y.1=some .local:=λy hy e=>by
  have:=all_eq_true.mp S.loc y hy;rw[e]at this;simpa using this
 refine wpAny_comprehension_free (use:=none) rfl hs (Ee (S.clos I.ok)) S.kind hnames (thn (hi pins s σ H _ I h) λv s1 h1=>thn h1 λitv s2 h2=>?_);obtain⟨it,fp,tn,J,H2,rfl,I2,T,st2,f2,hW⟩:=h2;refine wpAny_newObj_type ?_;have fresh2:H2 s2.heap.objs.size=none:=I2.hok.fresh (le_refl _);have I3:=I2.lnew (its:=[]) (ys:=[]) (t':=s2.toks) .nil (zero_le _);obtain⟨W,⟨m0,w0⟩,turn⟩:=hW s2.heap.objs.size fresh2;have lt2:∀b∈fp,b<s2.heap.objs.size:=λb hb=>let ⟨o,e,_⟩:=T.obj 0 _ st2 b hb;Heap.lt_size e
 have f3:∀b∈fp,FpOk X pins (upd H2 s2.heap.objs.size (.lst [])) b:=λb hb=>⟨by rw[AC (ne_of_lt (lt2 b hb))];exact(f2 b hb).1,(f2 b hb).2⟩
 have lt3:∀b∈fp,b<(s2.heap.push { cls:=.type "list",data:=.seq ([]:List Value).toArray }).objs.size:=λb hb=>by rw[Heap.size_push];exact lt_succ_of_lt (lt2 b hb)
 generalize hs3:({ s2 with heap:=s2.heap.push { cls:=.type "list",data:=.seq ([]:List Value).toArray } }:Shared)=s3 at *;have lt3:∀b∈fp,b<s3.heap.objs.size:=by rw[<- hs3];exact lt3
 have st3:tn 0 s3.heap:=T.keep _ _ _ st2 λb hb o e=>by rw[<- hs3];exact Heap.get?_push_of_some _ e
 refine Nn λh' hk hn ho ha=>?_;have I4:=MY (loc:=loc) S I3 f3 hk hn ho ha lt3;have fpX:∀{H':Hp},(∀b∈fp,H' b=none)->∀b∈fp,FpOk (cCx X (loc++fr) scope s3 (upd H2 s2.heap.objs.size (.lst [])) fp) [] H' b:=λhn b hb=>
  ⟨hn b hb,(I4.ok.exf b hb).1,I4.ok.exfs b hb,.inl hb,(I4.ok.exf b hb).2,λp hp=>by cases hp⟩
 have loop:codeAny (model X.prog X.w) X.A (.compLoop (.ListComp elt [⟨tg,iter,ifs,0⟩] scope pos) 0 (.ref it) (.ref s2.heap.objs.size) (Tu scope s3.heap.objs.size X.env))
  (compPost (model X.prog X.w) X.A X.xe none (EP X pins σ Q) (.ref s2.heap.objs.size) s3.heap.objs.size) { s3 with heap:=h' }:=by
  refine HY (λn s'=>∃i σ' ys H',Inv (cCx X (loc++fr) scope s3 (upd H2 s2.heap.objs.size (.lst [])) fp) [] σ' H' s'/\tn i s'.heap/\(∀b∈fp,H' b=none)/\W i n σ' ys H') ?_ m0
   ⟨0,_,[],_,I4,T.keep _ _ _ st3 λb hb o e=>hk b o e,λb hb=>(f3 b hb).1,w0⟩
  rintro n s5 ⟨i,σ5,ys,H5,I5,st5,fr5,w5⟩;obtain⟨hD,w5⟩:=turn i n σ5 ys H5 w5;rcases w5 with⟨stop,qn⟩|⟨go,hz,N,hN,step⟩
  .refine thn (T.done (cCx X (loc++fr) scope s3 (upd H2 s2.heap.objs.size (.lst [])) fp) rfl rfl rfl hc i [] s5 σ5 H5 _ I5 (fpX fr5) st5 stop) λr s6 ⟨hr,I6⟩=>?_;subst hr;obtain⟨m,hm,_⟩:=I6.loc;refine⟨m,hm,λh'' hs=>?_⟩;have neC:∀b o,s3.heap.get? b=some o->b≠s3.heap.objs.size:=λb o e=>ne_of_lt (Heap.lt_size e);have un:=I6.base;refine⟨.ref s2.heap.objs.size,H5,I3.call' (s':={ s6 with heap:=h'' }) (ch:=fp) I6.os ⟨λb o e n hb hx=>?_,λb o e n hb hx=>?_,un.free,λb o e hx=>?_,un.tups,un.frzs,un.tbls⟩ ?_ I6.bare ?_,rfl,qn⟩
   .exact(hs.2 b (neC b o e)).trans (un.keep b o e n hb hx)
   .obtain⟨sl,q⟩:=un.slot b o e n hb hx;exact⟨sl,(hs.2 b (neC b o e)).trans q⟩
   .obtain⟨o',q⟩:=un.there b o e hx;exact⟨o',(hs.2 b (neC b o e)).trans q⟩
   .intro b ob e;have hfree:H5 s3.heap.objs.size=none:=I6.free;refine(I6.hok b ob e).stay (λc w' hc q=>(hs.2 c ?_).trans q) (λ_ q=>q) λ_ _ q=>q;intro z;rcases hc with hc|hc
    .rw[<- hc,z,hfree]at e;cases e
    .rw[z,hfree]at hc;cases hc
   .intro b hb;obtain⟨_,a2,_,a4,a5,a6⟩:=f3 b hb;exact⟨a4,a2,a5,a6⟩
  .refine thn (T.item (cCx X (loc++fr) scope s3 (upd H2 s2.heap.objs.size (.lst [])) fp) rfl rfl rfl hc i [] s5 σ5 H5 _ I5 (fpX fr5) st5 go) λr s6 ⟨u,hr,h6⟩=>?_;subst hr;refine thn h6 λ_ s7 ⟨x,H7,I7,r7,y7,st7,fr7⟩=>?_;have I7':=I7.pinned (fpX fr7) (T.obj _ _ st7);have keepI:∀{σ8:St} {H8:Hp} {s8:Shared},Inv (cCx X (loc++fr) scope s3 (upd H2 s2.heap.objs.size (.lst [])) fp) ([]++F9 fp s7.heap) σ8 H8 s8->tn (i+1) s8.heap/\∀b∈fp,H8 b=none:=λ{σ8 H8 s8} I8=>by
    refine⟨T.keep _ _ _ st7 λb hb o e=>(I8.pin (b,o) (mem_append_right _ (mem_append_right _ (CH hb e)))).1,λb hb=>?_⟩;obtain⟨o,e,d⟩:=T.obj _ _ st7 b hb;exact(I8.pin (b,o) (mem_append_right _ (mem_append_right _ (CH hb e)))).2.1
   refine thn (hg s3 (upd H2 s2.heap.objs.size (.lst [])) fp _ s7 σ5 H7 x u _ I7' r7 (step x H7 y7)) λ_ s8 ⟨σ8,H8,I8,q8⟩=>?_;refine thn (hf s3 (upd H2 s2.heap.objs.size (.lst [])) fp _ s8 σ8 H8 _ I8 q8) λb s9 ⟨H9,I9,q9⟩=>?_;cases b with
   |false=>
    rw[if_neg Bool.false_ne_true]at q9 ⊢;obtain⟨m',hm,w9⟩:=hN _ _ _ q9;exact⟨m',hm,i+1,σ8,ys,H9,I9.unpinned,(keepI I9).1,(keepI I9).2,w9⟩
   |true=>
    rw[if_pos rfl]at q9 ⊢;refine thn (he s3 (upd H2 s2.heap.objs.size (.lst [])) fp _ s9 σ8 H9 _ I9 q9) λe10 s10 ⟨v10,H10,I10,r10,hD10,n10⟩=>?_;obtain⟨m',hm,w10⟩:=hN _ _ _ n10;refine Rk (X:=cCx X (loc++fr) scope s3 (upd H2 s2.heap.objs.size (.lst [])) fp) I10 hD10 r10 hz λ_ s11 I11=>?_;exact⟨m',hm,i+1,σ8,_,_,I11.unpinned,(keepI I11).1,(keepI I11).2,w10⟩
 exact codeAny_compStart_list loop (T.self X.A 0 _ _ _ (T.keep _ _ _ st3 λb hb o e=>hk b o e) loop)
end
section
variable{X:Cx}
def PV{elt tg iter:Expr}{ifs:List Expr}{scope:Scope}{pos:Pos}{loc fr:List Str}{ix:List Nat}{g:TG}{tf:TT}{te:TE}{pins:List (Addr×Obj)}{σ:St}{Q:VK}{it:Addr}{fp:List Addr}{tn:Nat->Heap->Prop}{J:It}{H2:Hp}{s2:Shared}{E:Value->Shared->Prop}
 {RR:Value->Addr->Result->Shared->Prop} (hc:X.calm=true) (S:CSc X scope fr ix)
 (hg:∀s H ex,PG (cCx X (loc++fr) scope s H ex) tg g) (hf:∀s H ex,PF (cCx X (loc++fr) scope s H ex) ifs tf) (he:∀s H ex,PE (cCx X (loc++fr) scope s H ex) elt te)
 (I2:Inv X pins σ H2 s2) (T:Turn X.prog X.w X.K tg J fp it tn) (st2:tn 0 s2.heap) (f2:∀b∈fp,FpOk X pins H2 b) (hW:∀D,H2 D=none->UX J D (HZ loc.length ix σ) H2 g tf te Q)
 (hfin:∀(s3 s6:Shared) (H5:Hp) (σ5:St) (D:Addr),Inv X pins σ (upd H2 D (.lst [])) s3->Inv (cCx X (loc++fr) scope s3 (upd H2 D (.lst [])) fp) [] σ5 H5 s6->(∀b∈fp,FpOk X pins (upd H2 D (.lst [])) b)->Q (.ref D) H5->RR (.ref D) s3.heap.objs.size (.ok .next) s6):
 wpAny (model X.prog X.w) X.A (newList []) (λacc s₃=>wpAny (model X.prog X.w) X.A (newFunctionEnv scope X.env.globals (Al X.env.cells scope.names []) [] X.env.qual none .none (some X.env)) (λcenv s₄=>
  codeAny (model X.prog X.w) X.A (.compStart (.ListComp elt [⟨tg,iter,ifs,0⟩] scope pos) 0 (.ref it) acc { cenv with scope:=relabel scope X.env }) (RR acc cenv.locals) s₄) E s₃) E s2:=by
 refine wpAny_newObj_type ?_;have fresh2:H2 s2.heap.objs.size=none:=I2.hok.fresh (le_refl _);have I3:=I2.lnew (its:=[]) (ys:=[]) (t':=s2.toks) .nil (zero_le _);obtain⟨W,⟨m0,w0⟩,turn⟩:=hW s2.heap.objs.size fresh2;have lt2:∀b∈fp,b<s2.heap.objs.size:=λb hb=>let ⟨o,e,_⟩:=T.obj 0 _ st2 b hb;Heap.lt_size e
 have f3:∀b∈fp,FpOk X pins (upd H2 s2.heap.objs.size (.lst [])) b:=λb hb=>⟨by rw[AC (ne_of_lt (lt2 b hb))];exact(f2 b hb).1,(f2 b hb).2⟩
 have lt3:∀b∈fp,b<(s2.heap.push { cls:=.type "list",data:=.seq ([]:List Value).toArray }).objs.size:=λb hb=>by rw[Heap.size_push];exact lt_succ_of_lt (lt2 b hb)
 generalize hs3:({ s2 with heap:=s2.heap.push { cls:=.type "list",data:=.seq ([]:List Value).toArray } }:Shared)=s3 at *;have lt3:∀b∈fp,b<s3.heap.objs.size:=by rw[<- hs3];exact lt3
 have st3:tn 0 s3.heap:=T.keep _ _ _ st2 λb hb o e=>by rw[<- hs3];exact Heap.get?_push_of_some _ e
 refine Nn λh' hk hn ho ha=>?_;have I4:=MY (loc:=loc) S I3 f3 hk hn ho ha lt3;have fpX:∀{H':Hp},(∀b∈fp,H' b=none)->∀b∈fp,FpOk (cCx X (loc++fr) scope s3 (upd H2 s2.heap.objs.size (.lst [])) fp) [] H' b:=λhn b hb=>
  ⟨hn b hb,(I4.ok.exf b hb).1,I4.ok.exfs b hb,.inl hb,(I4.ok.exf b hb).2,λp hp=>by cases hp⟩
 have loop:codeAny (model X.prog X.w) X.A (.compLoop (.ListComp elt [⟨tg,iter,ifs,0⟩] scope pos) 0 (.ref it) (.ref s2.heap.objs.size) (Tu scope s3.heap.objs.size X.env))
  (RR (.ref s2.heap.objs.size) s3.heap.objs.size) { s3 with heap:=h' }:=by
  refine HY (λn s'=>∃i σ' ys H',Inv (cCx X (loc++fr) scope s3 (upd H2 s2.heap.objs.size (.lst [])) fp) [] σ' H' s'/\tn i s'.heap/\(∀b∈fp,H' b=none)/\W i n σ' ys H') ?_ m0
   ⟨0,_,[],_,I4,T.keep _ _ _ st3 λb hb o e=>hk b o e,λb hb=>(f3 b hb).1,w0⟩
  rintro n s5 ⟨i,σ5,ys,H5,I5,st5,fr5,w5⟩;obtain⟨hD,w5⟩:=turn i n σ5 ys H5 w5;rcases w5 with⟨stop,qn⟩|⟨go,hz,N,hN,step⟩
  .refine thn (T.done (cCx X (loc++fr) scope s3 (upd H2 s2.heap.objs.size (.lst [])) fp) rfl rfl rfl hc i [] s5 σ5 H5 _ I5 (fpX fr5) st5 stop) λr s6 ⟨hr,I6⟩=>?_;subst hr;exact hfin s3 s6 H5 σ5 s2.heap.objs.size I3 I6 f3 qn
  .refine thn (T.item (cCx X (loc++fr) scope s3 (upd H2 s2.heap.objs.size (.lst [])) fp) rfl rfl rfl hc i [] s5 σ5 H5 _ I5 (fpX fr5) st5 go) λr s6 ⟨u,hr,h6⟩=>?_;subst hr;refine thn h6 λ_ s7 ⟨x,H7,I7,r7,y7,st7,fr7⟩=>?_;have I7':=I7.pinned (fpX fr7) (T.obj _ _ st7);have keepI:∀{σ8:St} {H8:Hp} {s8:Shared},Inv (cCx X (loc++fr) scope s3 (upd H2 s2.heap.objs.size (.lst [])) fp) ([]++F9 fp s7.heap) σ8 H8 s8->tn (i+1) s8.heap/\∀b∈fp,H8 b=none:=λ{σ8 H8 s8} I8=>by
    refine⟨T.keep _ _ _ st7 λb hb o e=>(I8.pin (b,o) (mem_append_right _ (mem_append_right _ (CH hb e)))).1,λb hb=>?_⟩;obtain⟨o,e,d⟩:=T.obj _ _ st7 b hb;exact(I8.pin (b,o) (mem_append_right _ (mem_append_right _ (CH hb e)))).2.1
   refine thn (hg s3 (upd H2 s2.heap.objs.size (.lst [])) fp _ s7 σ5 H7 x u _ I7' r7 (step x H7 y7)) λ_ s8 ⟨σ8,H8,I8,q8⟩=>?_;refine thn (hf s3 (upd H2 s2.heap.objs.size (.lst [])) fp _ s8 σ8 H8 _ I8 q8) λb s9 ⟨H9,I9,q9⟩=>?_;cases b with
   |false=>
    rw[if_neg Bool.false_ne_true]at q9 ⊢;obtain⟨m',hm,w9⟩:=hN _ _ _ q9;exact⟨m',hm,i+1,σ8,ys,H9,I9.unpinned,(keepI I9).1,(keepI I9).2,w9⟩
   |true=>
    rw[if_pos rfl]at q9 ⊢;refine thn (he s3 (upd H2 s2.heap.objs.size (.lst [])) fp _ s9 σ8 H9 _ I9 q9) λe10 s10 ⟨v10,H10,I10,r10,hD10,n10⟩=>?_;obtain⟨m',hm,w10⟩:=hN _ _ _ n10;refine Rk (X:=cCx X (loc++fr) scope s3 (upd H2 s2.heap.objs.size (.lst [])) fp) I10 hD10 r10 hz λ_ s11 I11=>?_;exact⟨m',hm,i+1,σ8,_,_,I11.unpinned,(keepI I11).1,(keepI I11).2,w10⟩
 exact codeAny_compStart_list loop (T.self X.A 0 _ _ _ (T.keep _ _ _ st3 λb hb o e=>hk b o e) loop)
def ND{scope:Scope}{N':List Str}{fp:List Addr}{pins:List (Addr×Obj)}{σ σ5:St}{H3 H5:Hp}{s3 s6:Shared}{h'':Heap}(I3:Inv X pins σ H3 s3)(I6:Inv (cCx X N' scope s3 H3 fp) [] σ5 H5 s6)(f3:∀b∈fp,FpOk X pins H3 b)
 (hs:Heap.SameBut s3.heap.objs.size s6.heap h''):Inv X pins σ H5 { s6 with heap:=h'' }:=by
 have neC:∀b o,s3.heap.get? b=some o->b≠s3.heap.objs.size:=λb o e=>ne_of_lt (Heap.lt_size e);have un:=I6.base;refine I3.call' (s':={ s6 with heap:=h'' }) (ch:=fp) I6.os ⟨λb o e n hb hx=>?_,λb o e n hb hx=>?_,un.free,λb o e hx=>?_,un.tups,un.frzs,un.tbls⟩ ?_ I6.bare ?_
 .exact(hs.2 b (neC b o e)).trans (un.keep b o e n hb hx)
 .obtain⟨sl,q⟩:=un.slot b o e n hb hx;exact⟨sl,(hs.2 b (neC b o e)).trans q⟩
 .obtain⟨o',q⟩:=un.there b o e hx;exact⟨o',(hs.2 b (neC b o e)).trans q⟩
 .intro b ob e;have hfree:H5 s3.heap.objs.size=none:=I6.free;refine(I6.hok b ob e).stay (λc w' hc q=>(hs.2 c ?_).trans q) (λ_ q=>q) λ_ _ q=>q;intro z;rcases hc with hc|hc
  .rw[<- hc,z,hfree]at e;cases e
  .rw[z,hfree]at hc;cases hc
 .intro b hb;obtain⟨_,a2,_,a4,a5,a6⟩:=f3 b hb;exact⟨a4,a2,a5,a6⟩
def W0{i:Nat}{y:Str}{elt tg iter:Expr}{ifs:List Expr}{scope:Scope}{pos spos py:Pos}{loc fr:List Str}{ix:List Nat}{wi:TI}{g:TG}{tf:TT}{te:TE}(hN:X.N.Nodup)(hiN:X.N[i]?=some y)(hy:X.env.scope.names.lookup y=some .local)
 (hc:X.calm=true) (S:CSc X scope fr ix) (hi:PI X tg iter wi)
 (hg:∀s H ex,PG (cCx X (loc++fr) scope s H ex) tg g) (hf:∀s H ex,PF (cCx X (loc++fr) scope s H ex) ifs tf) (he:∀s H ex,PE (cCx X (loc++fr) scope s H ex) elt te)
 (hsw:swapsWith (.ListComp elt [⟨tg,iter,ifs,0⟩] scope pos) (some (.Name y py)) spos.line X.env=pure true:=by rfl) (hs:∀x,foldedSetIterable iter X.env x=pure x:=by intro _;rfl):
 PS X (.Assign [.Name y py] (.ListComp elt [⟨tg,iter,ifs,0⟩] scope pos) spos) (F3 (G8 loc.length ix wi g tf te) (EE i)):=by
 intro pins s σ H D I h;have hnames:∀y∈scope.names,y.2=.local->scope.names.lookup y.1=some .local:=λy hy e=>by
  have:=all_eq_true.mp S.loc y hy;rw[e]at this;simpa using this
 rw[exec_Assign_Name_used _ _ _ _ hsw];refine wpAny_bind (wpAny_standAt (wpAny_bind ?_));show wpAny _ _ (do let _ <- comprehension (.ListComp elt [⟨tg,iter,ifs,0⟩] scope pos) scope X.env _ (newList []) false (eval iter X.env) (some (assign (.Name y py) X.env))) _ _ s;refine wpAny_bind (wpAny_mono (wpAny_comprehension_free (use:=some (assign (.Name y py) X.env)) (Q:=λ_ s'=>SP X pins D .next s') rfl hs (Ee (S.clos I.ok)) S.kind hnames
  (thn (hi pins s σ H _ I h) λv s1 h1=>thn h1 λitv s2 h2=>?_)) (λ_ s' hq=>wpAny_pure (wpAny_pure hq)) λ_ _ e=>e)
 obtain⟨it,fp,tn,J,H2,rfl,I2,T,st2,f2,hW⟩:=h2;refine PV (RR:=λacc C=>compPost (model X.prog X.w) X.A X.xe (some (assign (.Name y py) X.env)) (λ_ s'=>SP X pins D .next s') acc C) hc S hg hf he I2 T st2 f2 hW λs3 s6 H5 σ5 L I3 I6 f3 q=>?_;have J6:Inv X pins σ H5 s6:=ND (h'':=s6.heap) I3 I6 f3 (.refl ..);obtain⟨m,hm,_⟩:=I6.loc;have hm:s6.heap.Ns s3.heap.objs.size m:=hm;have hL:s3.heap.objs.size≠X.env.locals:=Ne.symm (ne_of_lt I3.lt);show wpAny _ _ (assign (.Name y py) X.env (.ref L)) _ _ s6;refine wpAny_assign_Name (KG (v:=.ref L) J6 hN hiN (.inl hy) rfl (λs7 I7 ⟨a,sb,ha⟩=>?_) (.inr hy));have hca:s3.heap.objs.size≠a:=by
  rcases ha with rfl|ha
  .exact hL
  .obtain⟨v,z⟩:=I3.cell y a ha;exact Ne.symm (ne_of_lt z.lt)
 refine⟨m,hm.sameBut sb hca,λh' hs'=>?_⟩;refine⟨_,H5,I7.turned (t':=s7.toks) (it:=s3.heap.objs.size) (λb o hb e=>(hs'.2 b hb).trans e) I6.free hL (.inr I3.sz) (λx c e z=>?_) (λp hp z=>?_),q⟩
 .obtain⟨v,w⟩:=I3.cell x c e;exact absurd w.lt (by rw[z];exact lt_irrefl _)
 .exact absurd (Heap.lt_size (I3.pin p hp).1) (by rw[z];exact lt_irrefl _)
end
mutual
def Rep(K:PySem.W.Frag)(H:Hp):PyData->V->Prop
 |.none,v=>v=.non
 |.bool b,v=>v=.bl b
 |.int i,v=>v=.int i
 |.str x,v=>v=.str x
 |.list ds,v=>∃a xs,v=.ref a/\SqL K H a xs/\RepAll K H ds xs
 |.tuple ds,v=>∃a xs,v=.ref a/\SqT K H a xs/\RepAll K H ds xs
 |.dict _,_=>False
def RepAll(K:PySem.W.Frag)(H:Hp):List PyData->List V->Prop
 |[],xs=>xs=[]
 |d::ds,xs=>∃x r,xs=x::r/\Rep K H d x/\RepAll K H ds r
end
section
variable{X:Cx}{pins:List (Addr×Obj)}{σ:St}{H:Hp}{s:Shared}
mutual
def EK(I:Inv X pins σ H s):∀(d:PyData) (v:V) (u:Value),Rep X.K H d v->RelV v u->∃as,Reads s.heap u d as
 |.none,v,u,h,r=>by
  have h:v=.non:=by simpa only[Rep]using h
  subst h;cases r;exact⟨_,.none⟩
 |.bool b,v,u,h,r=>by
  have h:v=.bl b:=by simpa only[Rep]using h
  subst h;cases r;exact⟨_,.bool b⟩
 |.int i,v,u,h,r=>by
  have h:v=.int i:=by simpa only[Rep]using h
  subst h;obtain⟨t,rfl⟩:=r;exact⟨_,.int i t⟩
 |.str x,v,u,h,r=>by
  have h:v=.str x:=by simpa only[Rep]using h
  subst h;obtain⟨t,rfl⟩:=r;exact⟨_,.str x t⟩
 |.list ds,v,u,h,r=>by
  have h:∃a xs,v=.ref a/\SqL X.K H a xs/\RepAll X.K H ds xs:=by simpa only[Rep]using h
  obtain⟨a,xs,rfl,hq,ha⟩:=h;cases r;obtain⟨its,rv,⟨o,n,e,c,_,dd⟩,hz⟩:=I.list hq;obtain⟨as,q⟩:=F7 I ds xs its ha rv;exact⟨_,.list e c dd (by simpa using q)⟩
 |.tuple ds,v,u,h,r=>by
  have h:∃a xs,v=.ref a/\SqT X.K H a xs/\RepAll X.K H ds xs:=by simpa only[Rep]using h
  obtain⟨a,xs,rfl,hq,ha⟩:=h;cases r;obtain⟨its,rv,⟨o,e,c,n,dd⟩,hz⟩:=I.tuple hq;obtain⟨as,q⟩:=F7 I ds xs its ha rv;exact⟨_,.tuple e c dd (by simpa using q)⟩
 |.dict _,v,u,h,r=>by
  have h:False:=by simpa only[Rep]using h
  exact h.elim
def F7(I:Inv X pins σ H s):∀(ds:List PyData) (xs:List V) (us:List Value),RepAll X.K H ds xs->Vals xs us->∃as,ReadsAll s.heap us ds as
 |[],xs,us,h,r=>by
  have h:xs=[]:=by simpa only[RepAll]using h
  subst h;cases r;exact⟨_,.nil⟩
 |d::ds,xs,us,h,r=>by
  have h:∃x r,xs=x::r/\Rep X.K H d x/\RepAll X.K H ds r:=by simpa only[RepAll]using h
  obtain⟨x,rr,rfl,h1,h2⟩:=h;cases r with
  |cons r1 r2=>
   obtain⟨as,q1⟩:=EK I d _ _ h1 r1;obtain⟨bs,q2⟩:=F7 I ds _ _ h2 r2;exact⟨_,.cons q1 q2⟩
end
end
def Stb:HO->Prop
 |.tup _=>True
 |.frz _ _=>True
 |.ext _=>True
 |.xd _=>True
 |_=>False
structure Grow(H H':Hp):Prop where
 keep:∀b o,Stb o->H b=some o->H' b=some o
def Grow.tup{H H':Hp}(g:Grow H H'):∀b xs,H b=some (.tup xs)->H' b=some (.tup xs):=λb _ h=>g.keep b _ trivial h
def Grow.frz{H H':Hp}(g:Grow H H'):∀b o u,H b=some (.frz o u)->H' b=some (.frz o u):=λb _ _ h=>g.keep b _ trivial h
def Grow.refl{H:Hp}:Grow H H:=⟨λ_ _ _ h=>h⟩
def Chg(H:Hp)(p:Addr):Prop:=∀o,Stb o->H p≠some o
def Grow.put{H H':Hp}{p:Addr}{o:HO}(a:Grow H H')(h:Chg H' p):Grow H (upd H' p o):=⟨λc u s e=>by
 have q:=a.keep c u s e;have n:c≠p:=λz=>h u s (by rw[<- z];exact q);rw[AC n];exact q⟩
def Chg.lst{H:Hp}{p:Addr}{xs:List V}(h:H p=some (.lst xs)):Chg H p:=λo s e=>by rw[h]at e;cases e;exact s
def Grow.sq{K:PySem.W.Frag}{H H':Hp}{a:Addr}{xs:List V}(g:Grow H H')(h:SqT K H a xs):SqT K H' a xs:=by
 rcases h with(h|⟨o,h⟩)|h
 .exact .inl (.inl (g.tup _ _ h))
 .exact .inl (.inr ⟨o,g.frz _ _ _ h⟩)
 .exact .inr h
mutual
/-- no list in it -/
def Imm:PyData->Bool
 |.none|.bool _|.int _|.str _=>true
 |.list _=>false
 |.tuple ds=>He ds
 |.dict _=>false
def He:List PyData->Bool
 |[]=>true
 |d::ds=>Imm d&&He ds
end
mutual
def Rep.grow{K:PySem.W.Frag}{H H':Hp}(g:Grow H H'):∀(d:PyData) (v:V),Imm d=true->Rep K H d v->Rep K H' d v
 |.none,v,_,h=>by simpa only[Rep]using h
 |.bool b,v,_,h=>by simpa only[Rep]using h
 |.int i,v,_,h=>by simpa only[Rep]using h
 |.str x,v,_,h=>by simpa only[Rep]using h
 |.list ds,v,m,h=>by simp[Imm]at m
 |.tuple ds,v,m,h=>by
  have h:∃a xs,v=.ref a/\SqT K H a xs/\RepAll K H ds xs:=by simpa only[Rep]using h
  obtain⟨a,xs,e,hq,ha⟩:=h;simp only[Rep];exact⟨a,xs,e,g.sq hq,RepAll.grow g ds xs (by simpa only[Imm]using m) ha⟩
 |.dict _,v,m,h=>by simp[Imm]at m
def RepAll.grow{K:PySem.W.Frag}{H H':Hp}(g:Grow H H'):∀(ds:List PyData) (xs:List V),He ds=true->RepAll K H ds xs->RepAll K H' ds xs
 |[],xs,_,h=>by simpa only[RepAll]using h
 |d::ds,xs,m,h=>by
  have h:∃x r,xs=x::r/\Rep K H d x/\RepAll K H ds r:=by simpa only[RepAll]using h
  obtain⟨x,r,e,h1,h2⟩:=h;have m:Imm d=true/\He ds=true:=by simpa [He]using m
  simp only[RepAll];exact⟨x,r,e,Rep.grow g d x m.1 h1,RepAll.grow g ds r m.2 h2⟩
end
section
variable{X:Cx}
def Se(K:PySem.W.Frag):R2:=λx y H Q=>∃d e,Rep K H d x/\Rep K H e y/\d.canLay0=true/\e.canLay0=true/\min d.depth e.depth<=60/\Q (.bl (!PyData.eqv d e)) H
def Sh(K:PySem.W.Frag):R2:=λx y H Q=>∃d e,Rep K H d x/\Rep K H e y/\d.canLay0=true/\e.canLay0=true/\min d.depth e.depth<=60/\Q (.bl (PyData.eqv d e)) H
def ZF(hu:X.A.units+64<cLine):OpR X (compareOp .NotEq) (Se X.K):=by
 intro pins s σ H x y v u Q I rx ry h;obtain⟨d,e,h1,h2,c1,c2,hm,q⟩:=h;obtain⟨as,q1⟩:=EK I d x v h1 rx;obtain⟨bs,q2⟩:=EK I e y u h2 ry;exact PySem.SeqAt.compareNe_reads q1 q2 c1 c2 (by omega) ⟨.bl _,H,I,rfl,q⟩
def ZI(hu:X.A.units+64<cLine):OpR X (compareOp .Eq) (Sh X.K):=by
 intro pins s σ H x y v u Q I rx ry h;obtain⟨d,e,h1,h2,c1,c2,hm,q⟩:=h;obtain⟨as,q1⟩:=EK I d x v h1 rx;obtain⟨bs,q2⟩:=EK I e y u h2 ry;exact PySem.SeqAt.compareEq_reads q1 q2 c1 c2 (by omega) ⟨.bl _,H,I,rfl,q⟩
def Fv:∀{ns:List Int} {us:List Value},Vals (ns.map V.int) us->IntsAre us ns
 |[],_,.nil=>.nil
 |n::ns,_,.cons r t=>by obtain⟨k,rfl⟩:=r;exact .cons _ _ (Fv t)
def Rb(hc:X.calm=true):CallR X (.builtin "sum") (λxs H Q=>∃(a:Addr) (ns:List Int),xs=[.ref a]/\SqL X.K H a (ns.map V.int)/\Q (.int ns.sum) H):=by
 intro pins s σ H xs us Q I r h;obtain⟨a,ns,rfl,hq,q⟩:=h;obtain⟨u,rfl,ru⟩:=DN r;cases ru;obtain⟨its,rv,p,hz⟩:=I.list hq;have hi:=Fv rv;obtain⟨xs,hx⟩:=hi.allInts.items;have hl':s.heap.IsList a (intItems xs):=hx ▸ p.isList;refine sum_intListG (I.ok.hd hc) hl' λh' tk t' hk=>?_;have e1:ns=xs.toList.map (·.1):=by
  rw[<- nums_intItems,<- hx];exact(show numsOf its.toArray.toList=ns from hi.numsOf).symm
 have e2:preSum (numAt xs) xs.size=ns.sum:=by
  rw[preSum_eq,List.take_of_length_le (by simp),e1]
 rw[e2];exact⟨.int ns.sum,H,I.kept hk,⟨_,rfl⟩,q⟩
end
end L2
namespace L2
open PySem PySem.Spec PyProof.Rows
section
variable(K:PySem.W.Frag){X:Cx}
def MX(hK:X.K=K:=by rfl):IxR X (Sg K):=by subst hK;exact Wk
def Ny(hK:X.K=K:=by rfl):IxR X (Sf K):=by subst hK;exact ZZ
def SK(hK:X.K=K:=by rfl):SlR X (Of K):=by subst hK;exact Ur
def Nl(hu:X.A.units+64<cLine)(hK:X.K=K:=by rfl):OpR X (compareOp .Eq) (Sh K):=by subst hK;exact ZI hu
def Ju(hu:X.A.units+64<cLine)(hK:X.K=K:=by rfl):OpR X (compareOp .NotEq) (Se K):=by subst hK;exact ZF hu
def M7(hK:X.K=K:=by rfl):OpR X (binaryOp .Add) (Oi K):=by subst hK;exact WV
def YB:List V->Hp->VK->Prop:=λxs H Q=>∃p ys,xs=[.ref p]/\(SqL K H p ys∨SqT K H p ys)/\Q (.int ys.length) H
def Rg(hK:X.K=K:=by rfl):CallR X (.builtin "len") (YB K):=by subst hK;exact Ms
def Fk:List V->Hp->VK->Prop:=λxs H Q=>∃p ys,xs=[.ref p]/\(SqL K H p ys∨SqT K H p ys)/\∀l,H l=none->Q (.ref l) (upd H l (.lst ys))
def JV(hK:X.K=K:=by rfl):CallR X (.type "list") (Fk K):=by subst hK;exact Mr
def M1:List V->Hp->VK->Prop:=λxs H Q=>∃p ys,xs=[.ref p]/\((SqL K H p ys/\∀l,H l=none->Q (.ref l) (upd H l (.tup ys)))∨(SqT K H p ys/\Q (.ref p) H))
def IK(hK:X.K=K:=by rfl):CallR X (.type "tuple") (M1 K):=by subst hK;exact Ku
def UI:List V->Hp->VK->Prop:=λxs H Q=>∃(a:Addr) (ns:List Int),xs=[.ref a]/\SqL K H a (ns.map V.int)/\Q (.int ns.sum) H
def Ka(hc:X.calm=true)(hK:X.K=K:=by rfl):CallR X (.builtin "sum") (UI K):=by subst hK;exact Rb hc
def M4{tg l:Expr}{tl:TE}(hl:PE X l tl)(hK:X.K=K:=by rfl):PI X tg l (Hu K tl):=by subst hK;exact WB hl
def W9{tg l:Expr}{tl:TE}(hl:PE X l tl)(hK:X.K=K:=by rfl):PI X tg l (P9 K tl):=by subst hK;exact Yw hl
def WG{pos:Pos}{es:List Expr}{k:Nat}{t:TGs}{n:Nat}(hc:X.calm=true)(h:PGs X es t)(hK:X.K=K:=by rfl)
 (hn:(assignEach es X.env).length=n:=by rfl) (hst:(assignEach es X.env).findIdx? (·.1)=none:=by rfl):PG X (.Tuple es k pos) (PL K n t):=by
 subst hK;exact Yx hc h hn hst
end
section
variable(K:PySem.W.Frag){X:Cx}
def Hb:∀{bs:List Bool} {us:List Value} {i:Nat} {v:Value},Vals (bs.map V.bl) us->us[i]?=some v->∃b,bs[i]?=some b/\v=.bool b
 |[],_,_,_,.nil,e=>by simp at e
 |b::bs,_,0,_,.cons r _,e=>by simp at e;subst e;exact⟨b,rfl,r⟩
 |b::bs,_,i+1,_,.cons _ t,e=>by
  obtain⟨c,h1,h2⟩:=Hb (i:=i) t (by simpa using e);exact⟨c,by simpa using h1,h2⟩
def YD:List V->Hp->VK->Prop:=λxs H Q=>∃(a:Addr) (bs:List Bool),xs=[.ref a]/\SqL K H a (bs.map V.bl)/\Q (.bl (bs.all id)) H
def YC:List V->Hp->VK->Prop:=λxs H Q=>∃(a:Addr) (bs:List Bool),xs=[.ref a]/\SqL K H a (bs.map V.bl)/\Q (.bl (bs.any id)) H
def Kd(hc:X.calm=true)(hK:X.K=K:=by rfl):CallR X (.builtin "all") (YD K):=by
 subst hK;intro pins s σ H xs us Q I r h;obtain⟨a,bs,rfl,hq,q⟩:=h;obtain⟨u,rfl,ru⟩:=DN r;cases ru;obtain⟨its,rv,p,hz⟩:=I.list hq;have hl:=p.isList;have hlen:=rv.length;have hlt:a<s.heap.objs.size:=by obtain⟨_,e,_⟩:=hl;exact Heap.lt_size e
 refine call_all_walk (wpAny_pyIter_list hl ?_);refine⟨s.heap.objs.size,[s.heap.objs.size,a],[s.heap.objs.size],its.toArray.size,_,_,λi=>(bs[i]?).getD true,rfl,Walks.list (A:=X.A.in1) (I.ok.hd hc) _ a (ne_of_lt hlt) its.toArray,
  ⟨⟨_,Heap.get?_push_size _ rfl,rfl,rfl⟩,hl.push _⟩,λi v s' Q' E' hP hQ=>?_,λh' tk hk=>?_⟩
 .obtain⟨b,e,rfl⟩:=Hb rv (by simpa using hP);simp only[e,Option.getD_some]at hQ;exact wpAny_truthy_bool hQ
 .have e:((List.range its.toArray.size).all λi=>(bs[i]?).getD true)=bs.all id:=by
   rw[size_toArray,<- hlen,length_map];exact LSm.range_all bs
  rw[e];exact⟨.bl _,H,I.kept (LSm.kept_iter hk),rfl,q⟩
def Kc(hc:X.calm=true)(hK:X.K=K:=by rfl):CallR X (.builtin "any") (YC K):=by
 subst hK;intro pins s σ H xs us Q I r h;obtain⟨a,bs,rfl,hq,q⟩:=h;obtain⟨u,rfl,ru⟩:=DN r;cases ru;obtain⟨its,rv,p,hz⟩:=I.list hq;have hl:=p.isList;have hlen:=rv.length;have hlt:a<s.heap.objs.size:=by obtain⟨_,e,_⟩:=hl;exact Heap.lt_size e
 refine call_any_walk (wpAny_pyIter_list hl ?_);refine⟨s.heap.objs.size,[s.heap.objs.size,a],[s.heap.objs.size],its.toArray.size,_,_,λi=>(bs[i]?).getD false,rfl,Walks.list (A:=X.A.in1) (I.ok.hd hc) _ a (ne_of_lt hlt) its.toArray,
  ⟨⟨_,Heap.get?_push_size _ rfl,rfl,rfl⟩,hl.push _⟩,λi v s' Q' E' hP hQ=>?_,λh' tk hk=>?_⟩
 .obtain⟨b,e,rfl⟩:=Hb rv (by simpa using hP);simp only[e,Option.getD_some]at hQ;exact wpAny_truthy_bool hQ
 .have e:((List.range its.toArray.size).any λi=>(bs[i]?).getD false)=bs.any id:=by
   rw[size_toArray,<- hlen,length_map];exact LSm.range_any bs
  rw[e];exact⟨.bl _,H,I.kept (LSm.kept_iter hk),rfl,q⟩
def UK:List V->Hp->VK->Prop:=λxs H Q=>∃(a:Addr) (ns:List Int),xs=[.ref a]/\SqL K H a (ns.map V.int)/\0<ns.length/\∀M:Int,M∈ns->(∀x∈ns,x<=M)->Q (.int M) H
def Kb(hc:X.calm=true)(hK:X.K=K:=by rfl):CallR X (.builtin "max") (UK K):=by
 subst hK;intro pins s σ H xs us Q I r h;obtain⟨a,ns,rfl,hq,hne,q⟩:=h;obtain⟨u,rfl,ru⟩:=DN r;cases ru;obtain⟨its,rv,p,hz⟩:=I.list hq;have hi:=Fv rv;obtain⟨ys,e⟩:=hi.allInts.items;have hns:ns=ys.toList.map (·.1):=by
  rw[<- hi.numsOf,<- nums_intItems,<- e]
 have hsz:0<ys.size:=by
  have h3:=hne;rw[hns,length_map,Array.length_toList]at h3;exact h3
 have hl:=p.isList;rw[e]at hl;refine max_intList (I.ok.hd hc) hl hsz λv h' tk hv hk=>?_;obtain⟨t,rfl⟩:=intItems_at hv;obtain⟨h1,h2⟩:=argBest_gt (numAt ys) (ys.size-1);refine⟨.int _,H,I.kept hk,⟨t,rfl⟩,q _ ?_ λx hx=>?_⟩
 .rw[hns,numAt_eq];exact getD_mem (by rw[length_map,Array.length_toList];omega)
 .rw[hns]at hx;obtain⟨j,hj,rfl⟩:=mem_getD hx;rw[length_map,Array.length_toList]at hj;rw[<- numAt_eq];exact h2 j (by omega)
end
section
variable{prog:Program}{w:World}{A:Around}{E:Value->Shared->Prop}{s:Shared}{l:Addr}{xs:Array (Int×Tok)}
def Gg{Q:Value->Shared->Prop}(hl:s.heap.IsTuple l (intItems xs))
 (h:∀s₂:Shared,s₂={ s with heap:=s.heap.push { cls:=.type "tuple_iterator",data:=.fields #[.ref l,.int 0 0] } } ->
  (s₂.heap.IsTupleIter s.heap.objs.size l 0/\s₂.heap.IsTuple l (intItems xs))->(∀b∈[s.heap.objs.size,l],b<s₂.heap.objs.size)->l≠s.heap.objs.size->Q (.ref s.heap.objs.size) s₂):
 wpAny (model prog w) A (pyIter (.ref l)) Q E s:=by
 have hlt:l<s.heap.objs.size:=by obtain⟨_,e,_⟩:=hl;exact Heap.lt_size e
 refine wpAny_pyIter_tuple hl (h _ rfl ⟨⟨_,Heap.get?_push_size _ rfl,rfl,rfl⟩,hl.push _⟩ (λb hb=>?_) (ne_of_lt hlt));show b<(s.heap.push _).objs.size;rw[Heap.size_push];rcases mem_cons.mp hb with rfl|hb
 .exact Nat.lt_succ_self _
 .rcases mem_cons.mp hb with rfl|hb
  .exact lt_succ_of_lt hlt
  .cases hb
def KM{h':Heap}{o:Obj}(hk:∀b x,b∉[s.heap.objs.size]->(s.heap.push o).get? b=some x->h'.get? b=some x):∀b x,s.heap.get? b=some x->h'.get? b=some x:=
 λb x e=>hk b x (λhm=>by rw[mem_singleton.mp hm]at e;exact lt_irrefl _ (Heap.lt_size e)) (Heap.get?_push_of_some _ e)
def Lb{Q:Value->Shared->Prop}(hh:A.handled=none)(hl:s.heap.IsTuple l (intItems xs))
 (h:∀h' tk t',(∀b o,s.heap.get? b=some o->h'.get? b=some o)->Q (.int (preSum (numAt xs) xs.size) t') { s with heap:=h',toks:=tk }):
 wpAny (model prog w) A (call (.builtin "sum") [.ref l]) Q E s:=by
 refine call_sum_walkG (Gg hl λs₂ e st hfp hlI=>?_);subst e;refine⟨_,_,_,_,_,_,numAt xs,rfl,Walks.tuple (A:=A.in1) hh _ l hlI (intItems xs),st,hfp,(λ_ _=>intItems_at),λh' tk t' hk=>?_⟩;have:=h h' tk t' (KM hk);simpa [intItems]using this
def MH{Q:Value->Shared->Prop}(hh:A.handled=none)(hl:s.heap.IsTuple l (intItems xs))(hne:0<xs.size)
 (h:∀v h' tk,(intItems xs)[argBest (λi j=>decide (numAt xs i>numAt xs j)) (xs.size-1)]?=some v->(∀b o,s.heap.get? b=some o->h'.get? b=some o)->Q v { s with heap:=h',toks:=tk }):
 wpAny (model prog w) A (call (.builtin "max") [.ref l]) Q E s:=by
 refine call_max_walk (Gg hl λs₂ e st hfp hlI=>?_);subst e;refine⟨_,_,_,_,_,_,_,rfl,Walks.tuple (A:=A.in1) hh _ l hlI (intItems xs),st,hfp,by simpa [intItems]using hne,CmpOf.ints_gt (numAt xs) (λ_ _=>intItems_at),λv h' tk hP hk=>?_⟩;exact h v h' tk (by simpa [intItems]using hP) (KM hk)
end
section
variable(K:PySem.W.Frag){X:Cx}
def UH:List V->Hp->VK->Prop:=λxs H Q=>∃(a:Addr) (ns:List Int),xs=[.ref a]/\SqT K H a (ns.map V.int)/\Q (.int ns.sum) H
def JT(hc:X.calm=true)(hK:X.K=K:=by rfl):CallR X (.builtin "sum") (UH K):=by
 subst hK;intro pins s σ H xs us Q I r h;obtain⟨a,ns,rfl,hq,q⟩:=h;obtain⟨u,rfl,ru⟩:=DN r;cases ru;obtain⟨its,rv,p,hz⟩:=I.tuple hq;have hi:=Fv rv;obtain⟨xs,hx⟩:=hi.allInts.items;have hl':s.heap.IsTuple a (intItems xs):=hx ▸ (show s.heap.IsTuple a its.toArray from p);refine Lb (I.ok.hd hc) hl' λh' tk t' hk=>?_;have e1:ns=xs.toList.map (·.1):=by
  rw[<- nums_intItems,<- hx];exact(show numsOf its.toArray.toList=ns from hi.numsOf).symm
 have e2:preSum (numAt xs) xs.size=ns.sum:=by
  rw[preSum_eq,List.take_of_length_le (by simp),e1]
 rw[e2];exact⟨.int ns.sum,H,I.kept hk,⟨_,rfl⟩,q⟩
def UJ:List V->Hp->VK->Prop:=λxs H Q=>∃(a:Addr) (ns:List Int),xs=[.ref a]/\SqT K H a (ns.map V.int)/\0<ns.length/\∀M:Int,M∈ns->(∀x∈ns,x<=M)->Q (.int M) H
def JU(hc:X.calm=true)(hK:X.K=K:=by rfl):CallR X (.builtin "max") (UJ K):=by
 subst hK;intro pins s σ H xs us Q I r h;obtain⟨a,ns,rfl,hq,hne,q⟩:=h;obtain⟨u,rfl,ru⟩:=DN r;cases ru;obtain⟨its,rv,p,hz⟩:=I.tuple hq;have hi:=Fv rv;obtain⟨ys,e⟩:=hi.allInts.items;have hns:ns=ys.toList.map (·.1):=by
  rw[<- hi.numsOf,<- nums_intItems,<- e]
 have hsz:0<ys.size:=by
  have h3:=hne;rw[hns,length_map,Array.length_toList]at h3;exact h3
 have hl:s.heap.IsTuple a (intItems ys):=e ▸ (show s.heap.IsTuple a its.toArray from p);refine MH (I.ok.hd hc) hl hsz λv h' tk hv hk=>?_;obtain⟨t,rfl⟩:=intItems_at hv;obtain⟨h1,h2⟩:=argBest_gt (numAt ys) (ys.size-1);refine⟨.int _,H,I.kept hk,⟨t,rfl⟩,q _ ?_ λx hx=>?_⟩
 .rw[hns,numAt_eq];exact getD_mem (by rw[length_map,Array.length_toList];omega)
 .rw[hns]at hx;obtain⟨j,hj,rfl⟩:=mem_getD hx;rw[length_map,Array.length_toList]at hj;rw[<- numAt_eq];exact h2 j (by omega)
end
structure DefAt(K:PySem.W.Frag)(mg:Str->Option Value)(x:Str)(st:Stmt)(f:Addr)(fd:FuncData)(ps:List Str):Prop where
 fn:Fun K x x st f fd
 mg:mg x=some (.ref f)
 bd:Binds K fd ps []
def UN{X:Cx}{j k:Nat}{f:Addr}{fd:FuncData}{ps:List Str}{sp:Sp}{x:Str}{st:Stmt}{e:Expr}{es:List Expr}{t:TA}{p pos:Pos}(F:FnOk X.prog X.w X.K X.mg X.base CX0 j f fd ps sp)(hr:Room k X.A)(D:DefAt X.K X.mg x st f fd ps)(ha:PA X (e::es) t)
 (hjk:j<=k:=by decide) (hg:Gl X x:=by rfl) (hdb:(x==("__debug__":Str))=false:=by decide) (he:starEach (e::es) X.env=(false,eval e X.env)::starEach es X.env:=by rfl) (hpl:(backTo pos (starEach es X.env)).any (·.1)=false:=by rfl):
 PE X (.Call (.Name x p) (e::es) [] pos) (Ej sp [] E0 t):=
 WQ (F.mono hjk) hr hg D.mg D.fn.kp D.bd .nil ad ha hdb he hpl
def O9:bootBuiltins "list"=some (.type "list"):=by decide +kernel
def bt_tuple:bootBuiltins "tuple"=some (.type "tuple"):=by decide +kernel
def bt_len:bootBuiltins "len"=some (.builtin "len"):=by decide +kernel
def bt_sum:bootBuiltins "sum"=some (.builtin "sum"):=by decide +kernel
def bt_min:bootBuiltins "min"=some (.builtin "min"):=by decide +kernel
def bt_max:bootBuiltins "max"=some (.builtin "max"):=by decide +kernel
def Ke:bootBuiltins "sorted"=some (.builtin "sorted"):=by decide +kernel
def bt_all:bootBuiltins "all"=some (.builtin "all"):=by decide +kernel
def bt_any:bootBuiltins "any"=some (.builtin "any"):=by decide +kernel
def Kv:bootBuiltins "isinstance"=some (.builtin "isinstance"):=by decide +kernel
mutual
def IJ:∀ns:List Int,PyData.canLayAll0 (ns.map PyData.int)=true
 |[]=>by simp[PyData.canLayAll0]
 |n::ns=>by simp[PyData.canLayAll0,PyData.canLay0,IJ ns]
end
end L2
namespace L2
open PySem PySem.Spec PyProof.Rows PySem.W
def lCx(X:Cx)(A:Around)(N':List Str)(qual:Str)(scope:Scope)(f:Addr)(cd:Value)(cl:List (Str×Addr))(s:Shared)(H:Hp):Cx:=
 { X with N:=N',s₀:=s,H₀:=H,A:=A.deeper (envX qual scope s.heap.objs.size f cd cl),env:=envX qual scope s.heap.objs.size f cd cl,outer:=X.stack,stack:=envX qual scope s.heap.objs.size f cd cl::X.stack,ex:=[],fn:=λ_=>false,calm:=true,pn:=[],xe:=λ_ _=>False }
structure LSc(scope:Scope)(p:Str):Prop where
 nocell:(scope.names.all λy=>y.2 != .cell)=true
 par:scope.names.lookup p=some .local
 co:scope.isCoroutine=false
 gen:scope.isGenerator=false
section
variable{X:Cx}{scope:Scope}{fr:List Str}{ix:List Nat}{pins:List (Addr×Obj)}{σ:St}{H:Hp}{s:Shared}{p:Str}
def LSc.ne(L:LSc scope p):∀y∈scope.names,y.2≠.cell:=λy hy e=>by
 have:=all_eq_true.mp L.nocell y hy;rw[e]at this
 revert this;decide
def Wp(S:CSc X scope fr ix)(L:LSc scope p)(I:Inv X pins σ H s){A:Around}(hf:A.frames=X.A.frames)(hh:A.handled=none){qual:Str}{f:Addr}{cd:Value}{h':Heap}{x:V}{u:Value}{t':Nat}
 (hk:∀b o,s.heap.get? b=some o->h'.get? b=some o) (hn:h'.Ns s.heap.objs.size λy=>if y=p then some u else none) (r:RelV x u):
 Inv (lCx X A (p::fr) qual scope f cd (Al X.env.cells scope.names []) s H) [] (some x::ix.map λi=>(σ[i]?).join) H { s with heap:=h',toks:=t' }:=by
 have lenix:fr.length=ix.length:=by simpa using congrArg List.length S.ixs
 have co:∀x c,(Al X.env.cells scope.names []).lookup x=some c->X.env.cells.lookup x=some c:=λx c e=>Dt (S.clos I.ok) (λ_ _ z=>by simp at z) x c e;refine⟨⟨I.ok.mod,S.kind,rfl,rfl,le_refl _,?_,?_,?_,λ_=>hh,Around.frames_deeper (hf.trans I.ok.frames),.inr ⟨rfl,rfl⟩,?_,I.bs,le_trans I.ok.bsz I.sz,?_,?_,I.stack,I.stkFree⟩,rfl,I.bare,Un.kept hk,⟨_,hn,?_⟩,?_,I.hok.fresh (le_refl _),?_,?_,I.hok.kept hk,?_⟩
 .intro x y c e1 e2;exact I.ok.inj x y c (co x c e1) (co y c e2)
 .intro x hx;rcases hx with e|e
  .exact absurd rfl (L.ne (x,.cell) (PySem.mem_of_lookup e))
  .exact isSome_iff_exists.mp (DE (.inr (PySem.mem_of_lookup e)))
 .intro x c hf;cases hf
 .intro b hb;cases hb
 .intro b o e hb;cases hb
 .intro b hb;cases hb
 .intro i y v e1 e2 e3;cases i with
  |zero=>
   have e1:some p=some y:=e1;have e2:some (some x)=some (some v):=e2;cases e1;cases e2;exact⟨u,r,.inl ⟨L.par,if_pos rfl⟩⟩
  |succ j=>
   have e1:fr[j]?=some y:=e1;have e2:(ix.map λi=>(σ[i]?).join)[j]?=some (some v):=e2;rw[List.getElem?_map]at e2;have e4:(fr.map some)[j]?=some (some y):=by rw[List.getElem?_map,e1];rfl
   rw[S.ixs,List.getElem?_map]at e4;cases q:ix[j]? with
   |none=>rw[q]at e2;cases e2
   |some k=>
    rw[q]at e2 e4;have e2:(σ[k]?).join=some v:=Option.some.inj e2;have e4:X.N[k]?=some y:=Option.some.inj e4;have e5:σ[k]?=some (some v):=by
     cases w:σ[k]? with
     |none=>rw[w]at e2;cases e2
     |some z=>rw[w]at e2;simpa using e2
    have hfx:=all_eq_true.mp S.frs y (mem_of_getElem? e1);have hfx:scope.names.lookup y=some .free:=by simpa using hfx
    have hmem:=PySem.mem_of_lookup hfx;have hout:=S.outer hmem rfl;obtain⟨m,hm,hl⟩:=I.loc;obtain⟨u',r',l⟩:=hl k y v e4 e5 (.inr hout);refine⟨u',r',.inr ⟨.inr hfx,?_⟩⟩;rcases l with⟨kk,_⟩|⟨kk,c,ec,z⟩
    .rcases hout with w|w
     .rw[kk]at w;cases w
     .rw[kk]at w;cases w
    .obtain⟨d,hd⟩:=isSome_iff_exists.mp (DE (cells:=X.env.cells) (acc:=[]) (.inr hmem));have:=co y d hd;rw[ec]at this;cases this;exact⟨c,hd,z.keeps hk⟩
 .intro x c e;obtain⟨v,z⟩:=I.cell x c (co x c e);exact⟨v,z.keeps hk⟩
 .intro x c e;exact I.freeC x c (co x c e)
 .intro p hp;cases hp
 .show(_::_:List (Option V)).length=(p::fr).length;simp[lenix]
def TX(S:CSc X scope fr ix)(L:LSc scope p)(I:Inv X pins σ H s){A:Around}(hf:A.frames=X.A.frames)(hr:Room 1 A){qual:Str}{f:Addr}{cd ctv pm:Value}{params:Arguments}{body:Expr}{x:V}{u:Value}{tb:TE}{Q:VK}
 (ho:s.heap.get? f=some { cls:=.type "function",data:=.func (kla_fn "<lambda>" qual params body scope (Al X.env.cells scope.names []) pm cd ctv) }) (hcd:s.heap.CodeRec cd qual)
 (hb:∀us:Value,bindArgs (kla_fn "<lambda>" qual params body scope (Al X.env.cells scope.names []) pm cd ctv) ⟨[us],[]⟩=pure [(p,us)])
 (he:∀(s:Shared) (H:Hp),PE (lCx X A (p::fr) qual scope f cd (Al X.env.cells scope.names []) s H) body tb) (r:RelV x u) (h:tb (some x::ix.map λi=>(σ[i]?).join) H Q):
 wpAny (model X.prog X.w) A (call (.ref f) [u]) (EP X pins σ Q) (λ_ _=>False) s:=by
 refine wpAny_call (codeAny_mono (R:=λres s'=>match res with|.ok (.ret u)=>EP X pins σ Q u s'|_=>False) (kla_callFunE hr.depth ho rfl L.co L.gen rfl hcd ?_) ?_)
 .rw[hb];refine wpAny_pure ?_;refine wpAny_newFunctionEnv L.ne (λy hy=>by rw[mem_singleton]at hy;subst hy;exact L.par) (λh' hns hsb=>⟨?_,?_⟩) S.kind
  .have hk:∀b o,s.heap.get? b=some o->h'.get? b=some o:=λb o e=>(hsb.2 b (ne_of_lt (Heap.lt_size e))).trans (Heap.get?_push_of_some _ e);exact I.nolimit.keeps hk
  .have hk:∀b o,s.heap.get? b=some o->h'.get? b=some o:=λb o e=>(hsb.2 b (ne_of_lt (Heap.lt_size e))).trans (Heap.get?_push_of_some _ e);have hns':h'.Ns s.heap.objs.size λy=>if y=p then some u else none:=by
    have e:(λy=>([(p,u)]:List (Str×Value)).reverse.lookup y)=λy=>if y=p then some u else none:=by
     funext y
     simp only[List.reverse_cons,List.reverse_nil,nil_append,lookup_cons,List.lookup_nil];by_cases hy:y=p
     .subst hy;simp
     .have hb':(y==p)=false:=beq_eq_false_iff_ne.mpr hy;simp[hb',hy]
    rw[<- e];exact hns
   have J:=Wp (t':=s.toks+1) (qual:=qual) (f:=f) (cd:=cd) S L I hf hr.hd hk hns' r;refine kla_codeExpr (wpAny_mono (he s H [] _ _ H Q J h) (λv s' hv=>?_) λ_ _ z=>z.elim);obtain⟨y,H',J',ry,q⟩:=hv;obtain⟨hh,g,d,t,os'⟩:=s';obtain rfl:os'=s.os:=J'.os;exact⟨y,H',I.call (h':=hh) (g':=g) (d':=d) (t':=t) (ch:=[]) J'.base J'.hok J'.bare (λb z=>absurd z (by simp)),ry,q⟩
 .intro res s' hq;cases res with
  |error e=>exact hq
  |ok fl=>
   cases fl with
   |ret u=>exact hq
   |next=>exact hq
   |brk=>exact hq
   |cont=>exact hq
end
def cdF(c:Addr)(q:Str):Heap->Prop:=λh=>h.CodeRec (.ref c) q
def JX(H:Hp)(q:Str)(pos:Pos)(ps:Array Value):Prop:=ps=#[]∨∃c,ps=#[rawInt pos.line,rawInt pos.col,.ref c]/\H c=some (.ext (cdF c q))
def TabStep(P:Addr)(q:Str)(pos:Pos)(H H':Hp):Prop:=H'=H∨∃c,H c=none/\c≠P/\H'=upd (upd H P (.tbl #[rawInt pos.line,rawInt pos.col,.ref c])) c (.ext (cdF c q))
structure LamAt(X:Cx)(c P:Addr):Prop where
 code:X.env.code=.ref c
 hd:CodeHd X.base c P
 bl:X.base.BuiltinsAt X.mg P
section
variable{X:Cx}{pins:List (Addr×Obj)}{σ:St}{H:Hp}{s:Shared}{c P:Addr}{scope:Scope}{fr:List Str}{ix:List Nat}
def Wo(I:Inv X pins σ H s){q:Str}{ps:Array Value}{ps':Array Value}(hP:H P=some (.tbl ps)){c':Addr}{h':Heap}{t':Nat}(hx:∀b o,b≠P->s.heap.get? b=some o->h'.get? b=some o)(hc:s.heap.objs.size<=c')
 (hrec:h'.CodeRec (.ref c') q) (htb:h'.get? P=some (tabObj (ps++ps'))):Inv X pins σ (upd (upd H P (.tbl (ps++ps'))) c' (.ext (cdF c' q))) { s with heap:=h',toks:=t' }:=by
 have hcn:H c'=none:=I.hok.fresh hc;have hPc:P≠c':=AY hP hcn;have nP:∀b,H b=none->b≠P:=λb n z=>by subst z;rw[hP]at n;cases n
 have other:∀b,b≠P->b≠c'->upd (upd H P (.tbl (ps++ps'))) c' (.ext (cdF c' q)) b=H b:=λb h1 h2=>by rw[AC h2,AC h1]
 have ne':∀b u,H b=some u->b≠c':=λb u e=>AY e hcn;refine I.un (h':=h') (t':=t') ⟨λb o e n _ _=>hx b o (nP b n) e,λb o e n _ _=>⟨o.slots,hx b o (nP b n) e⟩,λb o e n _=>?_,λb o e _=>?_,λb xs e=>?_,λb o u e=>?_,λb qs e=>?_⟩ λb u e=>?_
 .rw[other b (nP b n) (ne_of_lt (lt_of_lt_of_le (Heap.lt_size e) hc))];exact n
 .by_cases z:b=P
  .subst z;exact⟨_,htb⟩
  .exact⟨o,hx b o z e⟩
 .rw[other b (λz=>by subst z;rw[hP]at e;cases e) (ne' b _ e)];exact e
 .rw[other b (λz=>by subst z;rw[hP]at e;cases e) (ne' b _ e)];exact e
 .by_cases z:b=P
  .subst z;rw[hP]at e;cases e;exact⟨ps',by rw[AC hPc,AJ]⟩
  .exact⟨#[],by rw[other b z (ne' b _ e),e];simp⟩
 .by_cases z:b=c'
  .subst z;rw[AJ]at e;cases e;obtain⟨c0,o,vs,t,e0,r⟩:=id hrec;cases e0;refine⟨hrec,⟨o,r.1⟩,λh1 h2 q1 k=>?_⟩;obtain⟨c1,o1,vs1,t1,e1,g1,r1⟩:=q1;cases e1;exact⟨_,o1,vs1,t1,rfl,k _ g1,r1⟩
  .by_cases z2:b=P
   .subst z2;rw[AC hPc,AJ]at e;cases e;exact htb
   .rw[other b z2 z]at e;refine(I.hok b u e).stay (λd v hd q=>hx d v ?_ q) (λd q=>?_) λd xs q=>?_
    .rcases hd with rfl|hd
     .exact z2
     .intro y;subst y;rw[hP]at hd;cases hd
    .rw[other d (λy=>by subst y;rw[hP]at q;cases q) (ne' d _ q)];exact q
    .rw[other d (λy=>by subst y;rw[hP]at q;cases q) (ne' d _ q)];exact q
structure Made(X:Cx)(scope:Scope)(params:Arguments)(body:Expr)(P:Addr)(q:Str)(pos:Pos)(s:Shared)(H H':Hp)(f:Addr)(cd ctv:Value)(s':Shared):Prop where
 fn:s'.heap.get? f=some { cls:=.type "function",data:=.func (kla_fn "<lambda>" q params body scope (Al X.env.cells scope.names []) ((X.mg "__name__").getD .none) cd ctv) }
 cdc:∃c,cd=.ref c/\H' c=some (.ext (cdF c q))
 step:TabStep P q pos H H'
 new:s.heap.objs.size<=f
 fre:H' f=none
def TW(S:CSc X scope fr ix)(LA:LamAt X c P)(I:Inv X pins σ H s){A:Around}{E:Value->Shared->Prop}{params:Arguments}{body:Expr}{pos:Pos}{ps:Array Value}{Q:Value->Shared->Prop}(hdef:defaultsOf params X.env=([],[]))
 (hP:H P=some (.tbl ps)) (hg:JX H (X.env.qual++"<lambda>") pos ps)
 (h:∀f cd ctv H' s',Inv X pins σ H' s'->Made X scope params body P (X.env.qual++"<lambda>") pos s H H' f cd ctv s'->Q (.ref f) s'):
 wpAny (model X.prog X.w) A (eval (.Lambda params body scope pos) X.env) Q E s:=by
 have hcl:closureFor scope X.env=pure (Al X.env.cells scope.names []):=Ee (S.clos I.ok);have hns:=I.mod.glob.keeps I.bk;have hb:=LA.bl.keeps I.bk;have hcd:=LA.hd.keeps I.bk;have hobj:s.heap.get? P=some (tabObj ps):=I.hok P _ hP;have hgP:mainGlobals≠P:=λz=>by
  obtain⟨o,es,ep,e,hd,_⟩:=hns;rw[z,hobj]at e;cases e;cases hd
 refine kla_eval hdef ?_;rcases hg with rfl|⟨c',rfl,hc'⟩
 .refine kla_makeFunction hcl I.ok.glob hns LA.code hcd hobj trivial rfl hgP hb λc' ctv h' tk hx hge hlt hrec htb=>?_;have hx':∀b o,b≠P->s.heap.get? b=some o->(h'.push (kla_obj "<lambda>" (X.env.qual++"<lambda>") params body scope (Al X.env.cells scope.names []) ((X.mg "__name__").getD .none) c' ctv)).get? b=some o:=λb o n e=>Heap.get?_push_of_some _ (hx b o n e);have J:=Wo (t':=tk) I hP hx' hge (hrec.push _) (Heap.get?_push_of_some _ htb);refine h _ _ ctv _ _ J ⟨Heap.get?_push_size _ rfl,⟨c',rfl,AJ⟩,.inr ⟨c',I.hok.fresh hge,(AY hP (I.hok.fresh hge)).symm,?_⟩,?_,?_⟩
  .simp
  .exact le_trans hge (le_of_lt hlt)
  .have hs:s.heap.objs.size<=h'.objs.size:=le_trans hge (le_of_lt hlt);rw[AC (ne_of_gt hlt),AC (ne_of_gt (lt_of_lt_of_le (Heap.lt_size hobj) hs))];exact I.hok.fresh hs
 .have hrec:s.heap.CodeRec (.ref c') (X.env.qual++"<lambda>"):=(I.hok c' _ hc').1;have hf:codeAmong pos (#[rawInt pos.line,rawInt pos.col,Value.ref c']:Array Value).toList=some (.ref c'):=by simp[codeAmong,rawInt]
  refine kla_makeFunctionHit hcl I.ok.glob hns LA.code hcd hobj (by simp[TriplesOk,rawInt]) hf hb λctv h' tk hk hsz=>?_;have hk':∀b o,s.heap.get? b=some o->(h'.push { cls:=.type "function",data:=.func (kla_fn "<lambda>" (X.env.qual++"<lambda>") params body scope (Al X.env.cells scope.names []) ((X.mg "__name__").getD .none) (.ref c') ctv) }).get? b=some o:=λb o e=>Heap.get?_push_of_some _ (hk b o e);exact h _ _ ctv _ _ (I.kept (t':=tk) hk') ⟨Heap.get?_push_size _ rfl,⟨c',rfl,hc'⟩,.inl rfl,hsz,I.hok.fresh hsz⟩
end
end L2
namespace L2
open PySem PySem.Spec PyProof.Rows
section
variable{prog:Program}{w:World}{A:Around}{E:Value->Shared->Prop}{R:Result->Shared->Prop}{h:Heap}{g:Array GenState}{d:Drawn}{t:Nat}{os:OsState}
variable{nm q:Str}{C N:Addr}{bs bm:List Value}{hdct:Bool}{sn:List Str}{sub:List Value}{ab:Bool}{col:Option Bool}{dd:Option Addr}{k0 k1 k2 k3 k5:Option Value}
abbrev G5(C t:Addr):Obj:={ cls:=.ref C,data:=.fields #[.ref t,.none,.none,.none,.bool false,.none] }
def Wu{rest:List Value}(hC:h.get? C=some (excClassObj nm q C N bs bm hdct sn sub ab col dd k0 k1 k2 k3 k5 "ValueError.__new__"))(b1:(Value.ref C::bm).contains (.type "ValueError")=true)
 (b2:(Value.ref C::bm).contains (.type "AttributeError")=false) (b3:(Value.ref C::bm).contains (.type "NameError")=false) (hrest:rest.length<=sizeLine)
 (hq:R (.ok (.ret (.ref (h.objs.size+1)))) ⟨(h.push { cls:=.type "tuple",data:=.seq rest.toArray }).push (G5 C h.objs.size),g,d,t,os⟩):
 codeAny (model prog w) A (.builtin "ValueError.__new__" ⟨.ref C::rest,[]⟩) R ⟨h,g,d,t,os⟩:=by
 have F0:=F.excBase_ValueError;have en:=F0.ends;refine codeAny_builtinAt F0.entry (PySem.wpAt_bind ?_);show PySem.wpAt _ _ _ (stack >>= _) _ _ _;refine PySem.wpAt_bind (PySem.wpAt_stack λp0 below0=>PySem.wpAt_of_wpAny ?_)
 wp_walk;refine PySem.wpAt_of_wpAny ?_;rw[F0.owner]
 repeat (first|with_reducible refine wpAny_madeHere_exc F0.canon hC ?_|with_reducible refine wpAny_loadPart_at hC ?_|(with_reducible refine wpAny_isSubtype_exc hC ?_;first|rw[b1]|rw[b2]|rw[b3])|wp_step)
 show R _ _;rw[Heap.size_push];exact hq
def Ra{M:Model}{rest:List Value}{Q:Unit->Shared->Prop}(hC:h.get? C=some (excClassObj nm q C N bs bm hdct sn sub ab col dd k0 k1 k2 k3 k5 "ValueError.__new__"))(b1:bm.contains (.type "ValueError")=true)
 (hq:Q () ⟨h,g,d,t,os⟩):wpAny M A (checkBuiltinCall "ValueError.__new__" ⟨.ref C::rest,[]⟩) Q E ⟨h,g,d,t,os⟩:=
 wpAny_check_new_subU F.excBase_ValueError b1 .base hC hq
def TM{rest:List Value}:Heap.MadeExcOf h ((h.push { cls:=.type "tuple",data:=.seq rest.toArray }).push (G5 C h.objs.size)) (h.objs.size+1) (.ref C) rest:=by
 refine⟨λb o e=>Heap.get?_push_of_some _ (Heap.get?_push_of_some _ e),Heap.get?_none_of_le (le_succ _),h.objs.size,?_,Heap.get?_none_of_le (le_refl _),Heap.get?_push_of_some _ (Heap.get?_push_at rfl rfl)⟩;exact Heap.get?_push_at (by rw[Heap.size_push]) rfl
def Tt{K:PySem.W.Frag}{fI:Addr}{rest:List Value}{Q:Value->Shared->Prop}(X:K.In h)(hC:h.get? C=some (excClassObj nm q C N bs bm hdct sn sub ab col dd k0 k1 k2 k3 k5 "ValueError.__new__"))(b1:bm.contains (.type "ValueError")=true)
 (b2:bm.contains (.type "AttributeError")=false) (b3:bm.contains (.type "NameError")=false) (hi:PySem.W.findIn K (.ref C) "__init__"=some (some (.ref fI))) (hf:PySem.W.typeIn K (.ref fI)=some (.type "function")) (hrest:rest.length<=sizeLine)
 (hq:wpAny (model prog w) (A.under (.builtin "type.__call__" ⟨.ref C::rest,[]⟩)) (call (.ref fI) (.ref (h.objs.size+1)::rest)) (λr s'=>r=.none/\Q (.ref (h.objs.size+1)) s') E ⟨(h.push { cls:=.type "tuple",data:=.seq rest.toArray }).push (G5 C h.objs.size),g,d,t,os⟩):
 wpAny (model prog w) A (call (.ref C) rest) Q E ⟨h,g,d,t,os⟩:=by
 have f1:=tc_lookup;have f2:=tc_bind (.ref C);have hT:(⟨h,g,d,t,os⟩:Shared).TypeIs (.ref C) "type":=⟨_,hC,rfl⟩
 have c1:(Value.ref C::bm).contains (.type "ValueError")=true:=by rw[contains_cons,b1,Bool.or_true]
 have c2:(Value.ref C::bm).contains (.type "AttributeError")=false:=by rw[contains_cons,b2];rfl
 have c3:(Value.ref C::bm).contains (.type "NameError")=false:=by rw[contains_cons,b3];rfl
 have m0:Heap.MadeExcOf h ((h.push { cls:=.type "tuple",data:=.seq rest.toArray }).push (G5 C h.objs.size)) (h.objs.size+1) (.ref C) rest:=TM;have X1:=X.keeps m0.keeps;have hC1:=m0.keeps _ _ hC;have e1:((h.push { cls:=.type "tuple",data:=.seq rest.toArray }).push (G5 C h.objs.size)).get? (h.objs.size+1)=some { cls:=.ref C,data:=.fields #[.ref h.objs.size,.none,.none,.none,.bool false,.none] }:=Heap.get?_push_at (by rw[Heap.size_push]) rfl;have cc:(Value.ref C::bm).contains (.ref C)=true:=by simp
 refine wpAny_call (codeAny_of_tree ?_);show wpAny _ _ (callAny (.ref C) _) _ _ _
 repeat (any_goals (first|assumption|with_reducible refine wpAny_loadPart_at hC ?_|wp_step))
 refine⟨rfl,codeAny_call_builtin_at (Code.quiet_builtin _ (by decide +kernel)) entry_typeCall (wpAny_check_type_call_sub hC ?_)⟩
 repeat (first|with_reducible refine wpAny_loadPart_at hC ?_|with_reducible refine wpAny_madeBy_exc hC ?_|wp_step)
 refine codeAny_call_builtin_code (Code.quiet_builtin _ F.excBase_ValueError.quiet) (Ra hC b1 (Wu hC c1 c2 c3 hrest ?_));show wpAny _ _ _ _ _ _;unfold isInstance
 repeat (first|with_reducible refine wpAny_loadPart_at e1 ?_|(refine wpAny_isSubtype_exc hC1 ?_;rw[cc])|wp_step)
 show wpAny _ _ (typeLookup (.ref C) _) _ _ _;refine PySem.W.Looks.at (PySem.W.looks_findIn X1 hi) (wpAny_holding (wpAny_bind (PySem.W.Looks.at (PySem.W.bind_fn X1 _ hf) (wpAny_bind (wpAny_mono hq (λr s' hr=>?_) λ_ _ x=>x)))))
 obtain⟨rfl,z⟩:=hr
 wp_walk
 exact z
end
end L2
namespace L2
open PySem PySem.Spec PyProof.Rows
open Builtin Builtin.ObjectAttr
inductive OverV:List Value->Prop
 |base:OverV [.type "ValueError",.type "Exception",.type "BaseException",.type "object"]
 |own {c:Addr} {l:List Value}:OverV l->OverV (.ref c::l)
def OverV.sa(self:Value){l:List Value}(h:OverV l):refuseLoop self "__setattr__" l=pure ():=by
 induction h with
 |base=>exact PySem.F.store_ValueError.passes self
 |own _ ih=>rw[refuseLoop_ref];exact ih
def OverV.has{l:List Value}(h:OverV l){x:String}(e:[Value.type "ValueError",.type "Exception",.type "BaseException",.type "object"].contains (.type x)=true):l.contains (.type x)=true:=by
 induction h with
 |base=>exact e
 |own _ ih=>rw[contains_cons,ih,Bool.or_true]
def OverV.not{l:List Value}(h:OverV l){x:String}(e:[Value.type "ValueError",.type "Exception",.type "BaseException",.type "object"].contains (.type x)=false):l.contains (.type x)=false:=by
 induction h with
 |base=>exact e
 |own _ ih=>rw[contains_cons,ih];rfl
structure XC(K:PySem.W.Frag)(C fI:Addr):Prop where
 at_:∃nm q N bs bm sn sub ab col dd k0 k1 k2 k3 k5,K.lookup C=some (excClassObj nm q C N bs bm true sn sub ab col dd k0 k1 k2 k3 k5 "ValueError.__new__")/\OverV bm
 init:PySem.W.findIn K (.ref C) "__init__"=some (some (.ref fI))
 fn:PySem.W.isFn K (.ref fI)=true
 kp:PySem.W.keepIn K (.ref C)=true
 sa:PySem.W.findIn K (.ref C) "__setattr__"=some (some (.builtin "object.__setattr__"))
 ga:PySem.W.findIn K (.ref C) "__getattribute__"=some (some (.builtin "BaseException.__getattribute__"))
 gx:PySem.W.findIn K (.ref C) "__getattr__"=some none
section
variable{prog:Program}{w:World}{A:Around}{E:Value->Shared->Prop}{s:Shared}{K:PySem.W.Frag}{C fI x:Addr}{name:Str}{v:Value}
def XC.cls(c:XC K C fI):∃cd,PySem.W.clsIn K C=some cd/\OverV cd.mro/\cd.hasDict=true:=by
 obtain⟨nm,q,N,bs,bm,sn,sub,ab,col,dd,k0,k1,k2,k3,k5,e,o⟩:=c.at_;exact⟨_,by unfold PySem.W.clsIn;rw[e],.own o,rfl⟩
def Us{sl:Array (Option Value)}{vs:Array Value}{Q:Unit->Shared->Prop}(X:K.In s.heap)(c:XC K C fI)(hx:s.heap.get? x=some ⟨.ref C,none,.fields vs,sl⟩)(na:PySem.W.findIn K (.ref C) name=some none)
 (h:∀h',h'.get? x=some ⟨.ref C,some s.heap.objs.size,.fields vs,sl⟩->h'.Ns1 s.heap.objs.size (λy=>if y=name then some v else none)->(∀b o,b≠x->s.heap.get? b=some o->h'.get? b=some o)->Q () { s with heap:=h',toks:=s.toks+2 }):
 wpAny (model prog w) A (setAttr (.ref x) name v) Q E s:=by
 have SF:=PySem.F.store_object;have I:PySem.W.InstAt s.heap x ⟨.ref C,none,.fields vs,sl⟩ C none:=⟨hx,rfl,rfl,True.intro⟩
 obtain⟨cd,hc,ov,hd⟩:=c.cls;have ne:cd.mro.isEmpty=false:=by cases q:cd.mro with|nil=>rw[q]at ov;cases ov|cons _ _=>rfl
 have sub:PySem.W.Looks (model prog w) s.heap (isInstance (.ref x) (.type "object")) true:=
  I.type.andThen (PySem.W.looks_mroIn X (by unfold PySem.W.mroIn;rw[hc,bind_some,if_neg (by rw[ne];decide),ov.has (by decide +kernel)]))
 have hm:PySem.W.Looks (model prog w) s.heap (mroOf (.ref C)) cd.mro:=(PySem.W.looks_clsIn X hc).andThen .now;refine PySem.W.set_plain X I c.sa (codeAny_call_builtin SF.slot.plain SF.entry (@PySem.W.check_slot (model prog w) _ _ _ "object.__setattr__" "object" "__setattr__" (.ref x) [.str name s.toks,v] [] _ SF.kind SF.split sub (SF.args (.ref x) (.str name s.toks) v) ?_));rw[PySem.W.osa_eq,refuse_eq];refine wpAny_bind (wpAny_bind (I.type.here (s:={ s with toks:=s.toks+1 }) (wpAny_bind (hm.here (s:={ s with toks:=s.toks+1 }) ?_))));rw[ov.sa];refine wpAny_pure (wpAny_bind (I.type.here (s:={ s with toks:=s.toks+1 }) (wpAny_bind ((PySem.W.looks_findIn X na).here (s:={ s with toks:=s.toks+1 }) (wpAny_bind (wpAny_pure ?_))))));have hxs:x≠s.heap.objs.size:=ne_of_lt (Heap.lt_size hx);have hx1:(s.heap.push { cls:=.type "dict",data:=.dict #[] }).get? x=some ⟨.ref C,none,.fields vs,sl⟩:=Heap.get?_push_of_some _ hx;refine wpAny_bind (wpAny_pure (wpAny_bind (wpAny_bind (wpAny_loadPart hx (wpAny_bind (PySem.W.Looks.here (s:={ s with toks:=s.toks+1 }) (PySem.W.looks_clsIn X hc) ?_))))));rw[hd];show wpAny _ _ (do let d <- alloc { cls:=.type "dict",data:=.dict #[] };update x λo=>{ cls:=o.cls,dict:=some d,data:=o.data,slots:=o.slots };dictMade (.ref C) x d) _ _ _;refine wpAny_bind (wpAny_alloc' (wpAny_bind (wpAny_update' hx1 ?_)));generalize hh:((s.heap.push { cls:=.type "dict",data:=.dict #[] }).update x λo=>{ cls:=o.cls,dict:=some s.heap.objs.size,data:=o.data,slots:=o.slots })=h2;have g1:h2.get? s.heap.objs.size=some { cls:=.type "dict",data:=.dict #[] }:=by rw[<- hh];exact(Heap.get?_update_ne _ _ _ _ hxs.symm).trans (Heap.get?_push_at rfl rfl)
 have g2:h2.get? x=some ⟨.ref C,some s.heap.objs.size,.fields vs,sl⟩:=by rw[<- hh];exact Heap.get?_update_self _ hx1 rfl
 have g3:∀b o,b≠x->s.heap.get? b=some o->h2.get? b=some o:=λb o n e=>by rw[<- hh];exact(Heap.get?_update_ne _ _ _ _ n).trans (Heap.get?_push_of_some _ e)
 have hnd:h2.Ns s.heap.objs.size (λ_=>none):=⟨_,#[],_,g1,rfl,λe he=>absurd he (by simp),λ_=>rfl⟩
 refine wpAny_pure ?_;show wpAny _ _ (storeInDict s.heap.objs.size (.str name s.toks) name v) _ _ _;unfold storeInDict newKeyGuard;refine wpAny_bind (wpAny_pure (wpAny_bind (wpAny_nsSet1 (Heap.Ns1.of_empty hnd) λh' hn' hs=>?_)));obtain⟨oD,esD,epD,hoD,hdD,hcD⟩:=hn'.count (Within.cons name v Within.nil);refine wpAny_bind (wpAny_lookBehind hoD (by rw[hdD];exact pastItsLine_dict (le_trans hcD (by rw[length_cons,length_nil,sizeLine_eq];omega))) ?_);exact wpAny_pure (h h' ((hs.2 x hxs).trans g2) hn' λb o n e=>(hs.2 b (ne_of_lt (Heap.lt_size e))).trans (g3 b o n e))
end
section
variable{prog:Program}{w:World}{A:Around}{E:Value->Shared->Prop}{s:Shared}{K:PySem.W.Frag}{C fI x dx:Addr}{name:Str}{v:Value}{mA:Str->Option Value}
def cG{sl:Array (Option Value)}{vs:Array Value}{expr:Bool}{Q:Value->Shared->Prop}(X:K.In s.heap)(c:XC K C fI)(hx:s.heap.get? x=some ⟨.ref C,some dx,.fields vs,sl⟩)(hn:s.heap.Ns1 dx mA)(na:PySem.W.findIn K (.ref C) name=some none)(hv:mA name=some v)
 (hh:PySem.W.handedIn v=true) (h:Q v { s with toks:=s.toks+1 }):wpAny (model prog w) A (getAttr (.ref x) name expr) Q E s:=by
 obtain⟨od,ho,hl⟩:=HI hn;obtain⟨hp,g,d,t,os⟩:=s;have I:PySem.W.InstAt hp x ⟨.ref C,some dx,.fields vs,sl⟩ C (some od):=⟨hx,rfl,rfl,ho⟩
 obtain⟨cd,hc,ov,hd⟩:=c.cls;have hhd:PySem.W.hasDictIn K C=true:=by unfold PySem.W.hasDictIn;rw[hc];exact hd
 have L0:PySem.W.Looks (model prog w) hp (typeOf (.ref x)) (.ref C):=I.type;have L1:PySem.W.Looks (model prog w) hp (find (.ref x) (.ref C) name) (.value v):=PySem.W.looks_find X I (PySem.W.findObj_own hhd na rfl (by rw[hl,hv]));have L2:PySem.W.Looks (model prog w) hp (typeLookup (.ref C) "__getattribute__") (some (.builtin "BaseException.__getattribute__")):=PySem.W.looks_findIn X c.ga;have L3:PySem.W.Looks (model prog w) hp (hookBefore (.ref C)) none:=PySem.W.looks_hook X c.gx;have ne:cd.mro.isEmpty=false:=by cases q:cd.mro with|nil=>rw[q]at ov;cases ov|cons _ _=>rfl
 have sub:PySem.W.Looks (model prog w) hp (isInstance (.ref x) (.type "BaseException")) true:=
  I.type.andThen (PySem.W.looks_mroIn X (by unfold PySem.W.mroIn;rw[hc,bind_some,if_neg (by rw[ne];decide),ov.has (by decide +kernel)]))
 have hx2:(Value.builtin "BaseException.__getattribute__"==Value.builtin "object.__getattribute__")=false:=by decide +kernel
 have hx1:(onTheHeap (Value.ref C)&&Value.builtin "BaseException.__getattribute__"==Value.builtin "object.__getattribute__")=false:=by rw[hx2];rfl
 unfold getAttr getAttrBy;refine wpAny_bind (wpAny_mkText (wpAny_holding (wpAny_bind (L0.at (wpAny_bind (L2.at ?_))))));dsimp only;rw[if_neg (by rw[hx1];exact Bool.false_ne_true)];unfold getAttrByItsOwn;refine wpAny_bind (L3.at (wpAny_bind (wpAny_attempt (wpAny_holding ?_))));have hx0:(expr&&onTheHeap (Value.builtin "BaseException.__getattribute__"))=false:=by cases expr<;>rfl
 have FB:=F.attrBase_ValueError;have hk:builtinKind "BaseException.__getattribute__"=some .slot:=by decide +kernel
 have hs:splitId "BaseException.__getattribute__"=some ("BaseException","__getattribute__"):=by decide +kernel
 unfold callGetattribute boundAndCalled;rw[if_neg (by rw[hx0];exact Bool.false_ne_true),FB.ga.bind];refine wpAny_bind (wpAny_pure (wpAny_call (codeAny_call_builtin FB.ga.plain F.entry_bexc_ga (@PySem.W.check_slot (model prog w) _ _ _ "BaseException.__getattribute__" "BaseException" "__getattribute__" (.ref x) [.str name t] [] _ hk hs sub (F.args_bexc_ga _ _) ?_))));refine wpAny_bind (wpAny_pure (wpAny_bind (wpAny_pure (wpAny_bind (L0.at (wpAny_bind (L1.at ?_)))))));refine wpAny_pure ?_;show wpAny _ _ (handedOut v) _ _ _;rw[PySem.W.handedOut_of hh];exact wpAny_pure h
def QU{M:Model}{env:Env}{xe:Expr}{pos:Pos}{Q:Flow->Shared->Prop}(hh:A.handled=none)(c:XC K C fI)
 (h:wpAny M A (eval xe env) (λv s1=>∃e t dx sl,v=.ref e/\K.In s1.heap/\s1.heap.get? e=some ⟨.ref C,some dx,.fields #[.ref t,.none,.none,.none,.bool false,.none],sl⟩/\E (.ref e) s1) E s):
 wpAny M A (exec (.Raise (some xe) none pos) env) Q E s:=by
 obtain⟨nm,q,N,bs,bm,sn,sub,ab,col,dd,k0,k1,k2,k3,k5,lk,ov⟩:=c.at_;have cb:(Value.ref C::bm).contains (.type "BaseException")=true:=(OverV.own ov).has (by decide +kernel);rw[arm_exec_Raise];refine wpAny_bind (wpAny_standAt ?_);show wpAny _ _ (raiseStmt env (some (do let v <- eval xe env;standAt pos;pure v)) none) _ _ _;unfold raiseStmt;refine wpAny_bind (wpAny_bind (wpAny_mono h (λv s1 h1=>?_) λ_ _ z=>z));obtain⟨e,t,dx,sl,rfl,X,he,hE⟩:=h1;have hC:=X _ _ lk;refine wpAny_bind (wpAny_standAt (wpAny_pure ?_));obtain⟨hp,g,d,tk,os⟩:=s1
 repeat (first|with_reducible refine wpAny_loadPart_at he ?_|with_reducible refine wpAny_loadPart_at hC ?_|(with_reducible refine wpAny_isSubtype_exc hC ?_;rw[cb])|wp_step)
 exact wpAny_raiseNew_none hh hE
end
end L2
namespace L2
open PySem PySem.Spec PyProof.Rows
def Exo(h:Heap)(a C dx:Addr)(tb:Value):Prop:=∃vs sl,h.get? a=some ⟨.ref C,some dx,.fields vs,sl⟩/\vs[1]?=some tb
structure Note(fs:List Addr)(a:Addr)(tb:Value)(h h':Heap):Prop where
 keep:∀b o,h.get? b=some o->b≠a->.ref b≠tb->b∉fs->h'.get? b=some o
 slot:∀b o,h.get? b=some o->b∈fs->∃sl,h'.get? b=some { o with slots:=sl }
 there:∀b o,h.get? b=some o->∃o',h'.get? b=some o'
end L2
namespace L2
open PySem PySem.Spec PyProof.Rows
open Builtin Builtin.ObjectAttr
section
variable{prog:Program}{w:World}{A:Around}{E:Value->Shared->Prop}{s:Shared}{K:PySem.W.Frag}{C fI x dx:Addr}{mA:Str->Option Value}
structure XI(K:PySem.W.Frag)(C:Addr):Prop where
 ca:PySem.W.findIn K (.ref C) "__class__"=some (some (.builtin "object.__class__"))
 gd:PySem.W.specialIn K (.builtin "object.__class__") "__get__"=some (some (.builtin "getset_descriptor.__get__"))
 tk:PySem.W.takesIn K (.builtin "object.__class__")=some true
 mo:PySem.W.mroIn K C (.type "object")=some true
end
def X0(a C t:Addr)(h:Heap):Prop:=h.get? a=some (G5 C t)
def X1(a C dx t:Addr)(h:Heap):Prop:=h.get? a=some ⟨.ref C,some dx,.fields #[.ref t,.none,.none,.none,.bool false,.none],#[]⟩
def XO(a C dx:Addr)(h:Heap):Prop:=∃tb,Exo h a C dx tb
def New(X:Cx)(pins:List (Addr×Obj))(b:Addr):Prop:=(b∈X.ex∨X.s₀.heap.objs.size<=b)/\b≠X.env.locals/\(∀x c,X.env.cells.lookup x=some c->c≠b)/\∀p∈X.pn++pins,p.1≠b
def Inv.new{X:Cx}{pins:List (Addr×Obj)}{σ:St}{H:Hp}{s:Shared}(I:Inv X pins σ H s){b:Addr}(h:s.heap.objs.size<=b):New X pins b:=by
 refine⟨.inr (le_trans I.sz h),ne_of_gt (lt_of_lt_of_le I.lt h),λx c e=>?_,λp hp=>?_⟩
 .obtain⟨v,o,ho,_⟩:=I.cell x c e;exact ne_of_lt (lt_of_lt_of_le (Heap.lt_size ho) h)
 .exact ne_of_lt (lt_of_lt_of_le (Heap.lt_size (I.pin p hp).1) h)
section
variable{C:Addr}{f:Str}{X:Cx}{pins:List (Addr×Obj)}{σ:St}{H:Hp}{s s':Shared}{Q:VK}{e:Value}
def M8{P:Program}{w:World}{fs:List Addr}{a dx T:Addr}{tb:Value}{h h':Heap}(hok:HOk P w H h)(N:Note fs a tb h h')(hx:Exo h' a C dx (.ref T))(ha:H a=some (.ext (XO a C dx)))(hT:∀T,tb=.ref T->H T=none)(hf:∀b∈fs,H b=none):HOk P w H h':=by
 have k:∀b o u,H b=some o->b≠a->h.get? b=some u->h'.get? b=some u:=λb o u q n e=>N.keep b u e n (λz=>by rw[hT b z.symm]at q;cases q) λz=>by rw[hf b z]at q;cases q
 intro b o q;by_cases n:b=a
 .subst n;rw[ha]at q;cases q;obtain⟨vs,sl,e1,e2⟩:=id hx;refine⟨⟨_,hx⟩,⟨_,e1⟩,λh1 h2 ⟨tb,vs,sl,e,z⟩ k=>⟨tb,vs,sl,k _ e,z⟩⟩
 .refine(hok b o q).stay (λc u hc e=>?_) (λ_ z=>z) λ_ _ z=>z;rcases hc with rfl|hc
  .exact k c o u q n e
  .exact k c _ u hc (λz=>by subst z;rw[ha]at hc;cases hc) e
end
end L2
namespace L2
open PySem PySem.Spec PyProof.Rows
def ExR(K:PySem.W.Frag)(nm:Str)(fs:List Str)(H:Hp)(a:Addr)(xs:List V):Prop:=∃C dx,clsAt K nm=some C/\H a=some (.ext (XO a C dx))/\H dx=some (.xd (fs.zip xs))/\xs.length=fs.length
def ExR.grow{K:PySem.W.Frag}{nm:Str}{fs:List Str}{H H':Hp}{a:Addr}{xs:List V}(g:Grow H H')(h:ExR K nm fs H a xs):ExR K nm fs H' a xs:=
 let ⟨C,dx,h1,h2,h3,h4⟩:=h;⟨C,dx,h1,g.keep _ _ trivial h2,g.keep _ _ trivial h3,h4⟩
inductive I where
 |non|bl (b:Bool)|int (i:Int)|str (x:Str)|tup (ds:List I)
inductive D where
 |im (i:I)|mu (n:Nat)|tm (ds:List D)|ro (ns:List Int)|op (nm:Str) (fs:List Str) (ds:List D)
inductive MO where
 |lst (ds:List D)|dic (kvs:List (Key×D))
abbrev Hd:=List MO
abbrev Ls:=List (Option D)
def RoL(K:PySem.W.Frag)(H:Hp)(a:Addr)(xs:List V):Prop:=(∃o,H a=some (.frz o (.lst xs))) ∨
 ∃(o:Obj) (its:Array Value) (n:Nat),K.lookup a=some o/\o.cls=.type "list"/\o.dict=none/\o.data=.seq its n/\its.size<=sizeLine/\Vals xs its.toList
def RoL.sq{K:PySem.W.Frag}{H:Hp}{a:Addr}{xs:List V}(h:RoL K H a xs):SqL K H a xs:=by
 rcases h with⟨o,h⟩|h
 .exact .inl (.inr ⟨o,h⟩)
 .exact .inr h
def RoL.grow{K:PySem.W.Frag}{H H':Hp}{a:Addr}{xs:List V}(g:Grow H H')(h:RoL K H a xs):RoL K H' a xs:=by
 rcases h with⟨o,h⟩|h
 .exact .inl ⟨o,g.frz _ _ _ h⟩
 .exact .inr h
def C9(n:Nat):Prop:=n<=sizeLine
def GN(n:Nat):Prop:=n<sizeLine
def FM(i j:Int):Prop:=(-(2^64)<i/\i<2^64)∨(-(2^64)<j/\j<2^64)
def Om(i j:Int):Prop:=0<=j/\j<=1000000/\i.natAbs<2^64
def JR(j:Int):Prop:=0<j/\j<1073741824
def CV(j:Int):Prop:=0<j
def Jp(j:Int):Prop:=-(2^62)<=j/\j<2^62
def Ob(i j:Int):Prop:=(-(2^62)<=i/\i<2^62)/\-(2^62)<=j/\j<2^62
def UC(j:Int):Prop:=j<2^24/\-(2^62)<=j
def UB(i j:Int):Prop:=(-(2^62)<=i/\i<2^62)/\(-(2^62)<=j/\j<2^62)/\(j-i).toNat<=2^24
def Ab{n:Nat}(h:n<=1000000):C9 n:=le_trans h (by rw[sizeLine_eq];decide)
def E9{n:Nat}(h:n<1000000):GN n:=lt_of_lt_of_le h (by rw[sizeLine_eq];decide)
def Ew{i j:Int}(a:-1000000000000<=i)(b:i<=1000000000000):FM i j:=.inl ⟨by omega,by omega⟩
def Fi{j:Int}(a:-1000000000000<=j)(b:j<=1000000000000):Jp j:=⟨by omega,by omega⟩
def V5{i j:Int}(a:-1000000000000<=i)(b:i<=1000000000000)(c:-1000000000000<=j)(d:j<=1000000000000):Ob i j:=⟨⟨by omega,by omega⟩,by omega,by omega⟩
section
variable(K:PySem.W.Frag)
mutual
def RI(H:Hp):I->V->Prop
 |.non,v=>v=.non
 |.bl b,v=>v=.bl b
 |.int i,v=>v=.int i
 |.str x,v=>v=.str x
 |.tup ds,v=>∃a xs,v=.ref a/\SqT K H a xs/\RIs H ds xs
def RIs(H:Hp):List I->List V->Prop
 |[],xs=>xs=[]
 |d::ds,xs=>∃x r,xs=x::r/\RI H d x/\RIs H ds r
end
mutual
def RD(ρ:List Addr)(H:Hp):D->V->Prop
 |.im i,v=>RI K H i v
 |.mu n,v=>∃a,ρ[n]?=some a/\v=.ref a
 |.tm ds,v=>∃a xs,v=.ref a/\SqT K H a xs/\RDs ρ H ds xs
 |.ro ns,v=>∃a,v=.ref a/\RoL K H a (ns.map V.int)
 |.op nm fs ds,v=>∃a xs,v=.ref a/\ExR K nm fs H a xs/\RDs ρ H ds xs
def RDs(ρ:List Addr)(H:Hp):List D->List V->Prop
 |[],xs=>xs=[]
 |d::ds,xs=>∃x r,xs=x::r/\RD ρ H d x/\RDs ρ H ds r
end
def RKs(ρ:List Addr)(H:Hp):List (Key×D)->List (Key×V)->Prop
 |[],xs=>xs=[]
 |d::ds,xs=>∃x r,xs=x::r/\x.1=d.1/\RD K ρ H d.2 x.2/\RKs ρ H ds r
def RC(ρ:List Addr)(H:Hp):MO->HO->Prop
 |.lst ds,o=>∃xs,o=.lst xs/\RDs K ρ H ds xs
 |.dic kvs,o=>∃kv,o=.dK kv/\RKs K ρ H kvs kv
def Kz:List Value->List (Addr×Str×Pos)
 |.ref P::.str q _::.int l _::.int c _::r=>(P,q,⟨l.toNat,c.toNat,0,0⟩)::Kz r
 |_=>[]
def aC(o:Obj):List (Addr×Str×Pos):=match o.cls,o.data with
 |.str _ _,.fields vs=>Kz vs.toList
 |_,_=>[]
def Cu(K:PySem.W.Frag):List (Addr×Str×Pos):=match K.getLast? with
 |some p=>aC p.2
 |none=>[]
def TabsOk(K:PySem.W.Frag)(H:Hp):Prop:=∀x∈Cu K,∃ps,H x.1=some (.tbl ps)/\JX H x.2.1 x.2.2 ps
structure RH(ρ:List Addr)(H:Hp)(hd:Hd):Prop where
 len:ρ.length=hd.length
 nd:ρ.Nodup
 tabs:TabsOk K H
 ob:∀(n:Nat) (o:MO) (a:Addr),hd[n]?=some o->ρ[n]?=some a->∃ho,H a=some ho/\RC K ρ H o ho
structure RL(ρ:List Addr)(H:Hp)(ls:Ls)(σ:St):Prop where
 len:ls.length=σ.length
 ob:∀(i:Nat) (d:D),ls[i]?=some (some d)->∃v,σ[i]?=some (some v)/\RD K ρ H d v
end
structure Ext(ρ:List Addr)(H:Hp)(ρ':List Addr)(H':Hp):Prop where
 pre:∃r,ρ'=ρ++r/\∀b∈r,H b=none
 keep:∀b o,H b=some o->b∉ρ->(∀ps,o≠.tbl ps)->H' b=some o
 tab:∀b ps,H b=some (.tbl ps)->∃ps',H' b=some (.tbl ps')
def nt{o:HO}(h:match o with|.tbl _=>False|_=>True:=by trivial):∀ps,o≠.tbl ps:=λps e=>by subst e;exact h
def TabsOk.upd{K:PySem.W.Frag}{H:Hp}(t:TabsOk K H){a:Addr}{ho:HO}(h1:∀ps,H a≠some (.tbl ps))(h2:∀φ,H a≠some (.ext φ)):TabsOk K (upd H a ho):=λx hx=>by
 obtain⟨ps,e,g⟩:=t x hx;have ne:x.1≠a:=λz=>h1 ps (by rw[<- z];exact e);refine⟨ps,by rw[AC ne];exact e,?_⟩;rcases g with g|⟨c,g1,g2⟩
 .exact .inl g
 .have nc:c≠a:=λz=>h2 _ (by rw[<- z];exact g2);exact .inr ⟨c,g1,by rw[AC nc];exact g2⟩
section
variable{K:PySem.W.Frag}{ρ ρ' ρ1 ρ2:List Addr}{H H' H1 H2:Hp}{hd hd' hd1:Hd}
mutual
def RI.grow(g:Grow H H'):∀{i:I} {v:V},RI K H i v->RI K H' i v
 |.non,v,h=>by simpa only[RI]using h
 |.bl b,v,h=>by simpa only[RI]using h
 |.int b,v,h=>by simpa only[RI]using h
 |.str b,v,h=>by simpa only[RI]using h
 |.tup ds,v,h=>by
  simp only[RI]at h ⊢;obtain⟨a,xs,e,q,r⟩:=h;exact⟨a,xs,e,g.sq q,RIs.grow g r⟩
def RIs.grow(g:Grow H H'):∀{i:List I} {v:List V},RIs K H i v->RIs K H' i v
 |[],v,h=>by simpa only[RIs]using h
 |d::ds,v,h=>by
  simp only[RIs]at h ⊢;obtain⟨x,r,e,q,z⟩:=h;exact⟨x,r,e,q.grow g,RIs.grow g z⟩
end
def RH.mut(h:RH K ρ H hd){a:Addr}(m:a∈ρ):(∃xs,H a=some (.lst xs))∨∃kv,H a=some (.dK kv):=by
 obtain⟨n,e⟩:=mem_iff_getElem?.mp m;have hn:n<hd.length:=by rw[<- h.len];exact(List.getElem?_eq_some_iff.mp e).1
 obtain⟨ho,e1,e2⟩:=h.ob n hd[n] a (by simp[hn]) e;cases q:hd[n]with
 |lst ds=>rw[q]at e2;obtain⟨xs,rfl,_⟩:=e2;exact .inl ⟨xs,e1⟩
 |dic ds=>rw[q]at e2;obtain⟨xs,rfl,_⟩:=e2;exact .inr ⟨xs,e1⟩
def RH.stb_out(h:RH K ρ H hd){a:Addr}{o:HO}(s:Stb o)(e:H a=some o):a∉ρ:=λm=>by
 rcases h.mut m with⟨y,z⟩|⟨y,z⟩<;>(rw[e]at z;cases z;exact s)
def XV{o:HO}(s:Stb o):∀ps,o≠.tbl ps:=λps e=>by subst e;exact s
def Ext.grow(e:Ext ρ H ρ' H')(h:RH K ρ H hd):Grow H H':=⟨λb o s q=>e.keep b _ q (h.stb_out s q) (XV s)⟩
def Ext.refl:Ext ρ H ρ H:=⟨⟨[],by simp,by simp⟩,λ_ _ h _ _=>h,λ_ ps h=>⟨ps,h⟩⟩
def Ext.trans(e:Ext ρ H ρ1 H1)(h0:RH K ρ1 H1 hd1)(e2:Ext ρ1 H1 ρ2 H2):Ext ρ H ρ2 H2:=by
 obtain⟨r1,rfl,f1⟩:=e.pre;obtain⟨r2,rfl,f2⟩:=e2.pre;refine⟨⟨r1++r2,by simp,λb m=>?_⟩,λb o q n t=>?_,λb ps q=>?_⟩
 .rcases mem_append.mp m with m|m
  .exact f1 b m
  .have z:=f2 b m;cases q:H b with
   |none=>rfl
   |some o=>
    by_cases n:b∈ρ
    .rcases h0.mut (mem_append_left r1 n)with⟨y,w⟩|⟨y,w⟩<;>(rw[z]at w;cases w)
    .by_cases t:∃ps,o=.tbl ps
     .obtain⟨ps,rfl⟩:=t;obtain⟨ps',this⟩:=e.tab b ps q;rw[z]at this;cases this
     .have:=e.keep b o q n λps y=>t ⟨ps,y⟩;rw[z]at this;cases this
 .refine e2.keep b o (e.keep b o q n t) (λm=>?_) t;rcases mem_append.mp m with m|m
  .exact n m
  .have:=f1 b m;rw[q]at this;cases this
 .obtain⟨ps',q'⟩:=e.tab b ps q;exact e2.tab b ps' q'
mutual
def RD.mono(g:Grow H H')(r:List Addr):∀{d:D} {v:V},RD K ρ H d v->RD K (ρ++r) H' d v
 |.im i,v,h=>by simp only[RD]at h ⊢;exact h.grow g
 |.mu n,v,h=>by
  simp only[RD]at h ⊢;obtain⟨a,e,q⟩:=h;exact⟨a,by rw[List.getElem?_append_left (List.getElem?_eq_some_iff.mp e).1];exact e,q⟩
 |.tm ds,v,h=>by
  simp only[RD]at h ⊢;obtain⟨a,xs,e,q,z⟩:=h;exact⟨a,xs,e,g.sq q,RDs.mono g r z⟩
 |.ro ns,v,h=>by
  simp only[RD]at h ⊢;obtain⟨a,e,q⟩:=h;exact⟨a,e,q.grow g⟩
 |.op nm fs ds,v,h=>by
  simp only[RD]at h ⊢;obtain⟨a,xs,e,q,z⟩:=h;exact⟨a,xs,e,q.grow g,RDs.mono g r z⟩
def RDs.mono(g:Grow H H')(r:List Addr):∀{d:List D} {v:List V},RDs K ρ H d v->RDs K (ρ++r) H' d v
 |[],v,h=>by simpa only[RDs]using h
 |d::ds,v,h=>by
  simp only[RDs]at h ⊢;obtain⟨x,r',e,q,z⟩:=h;exact⟨x,r',e,q.mono g r,RDs.mono g r z⟩
end
def RKs.mono(g:Grow H H')(r:List Addr):∀{d:List (Key×D)} {v:List (Key×V)},RKs K ρ H d v->RKs K (ρ++r) H' d v
 |[],v,h=>by simpa only[RKs]using h
 |d::ds,v,h=>by
  simp only[RKs]at h ⊢;obtain⟨x,r',e,q1,q,z⟩:=h;exact⟨x,r',e,q1,q.mono g r,RKs.mono g r z⟩
def RC.mono(g:Grow H H')(r:List Addr){o:MO}{ho:HO}(h:RC K ρ H o ho):RC K (ρ++r) H' o ho:=by
 cases o with
 |lst ds=>obtain⟨xs,e,q⟩:=h;exact⟨xs,e,q.mono g r⟩
 |dic ds=>obtain⟨xs,e,q⟩:=h;exact⟨xs,e,q.mono g r⟩
def RD.ext(h:RH K ρ H hd)(e:Ext ρ H ρ' H'){d:D}{v:V}(q:RD K ρ H d v):RD K ρ' H' d v:=by
 obtain⟨r,rfl,_⟩:=e.pre;exact q.mono (e.grow h) r
def RDs.ext(h:RH K ρ H hd)(e:Ext ρ H ρ' H'){d:List D}{v:List V}(q:RDs K ρ H d v):RDs K ρ' H' d v:=by
 obtain⟨r,rfl,_⟩:=e.pre;exact q.mono (e.grow h) r
def RL.ext(h:RH K ρ H hd)(e:Ext ρ H ρ' H'){ls:Ls}{σ:St}(q:RL K ρ H ls σ):RL K ρ' H' ls σ:=
 ⟨q.len,λi d z=>let ⟨v,a,b⟩:=q.ob i d z;⟨v,a,b.ext h e⟩⟩
def RDs.len:∀{ds:List D} {xs:List V},RDs K ρ H ds xs->xs.length=ds.length
 |[],xs,h=>by simp only[RDs]at h;rw[h];rfl
 |d::ds,xs,h=>by
  simp only[RDs]at h;obtain⟨x,r,rfl,_,z⟩:=h;simp[RDs.len z]
def RDs.get:∀{ds:List D} {xs:List V} {i:Nat} {d:D},RDs K ρ H ds xs->ds[i]?=some d->∃x,xs[i]?=some x/\RD K ρ H d x
 |[],xs,i,d,h,e=>by simp at e
 |d::ds,xs,0,e,h,q=>by
  simp only[RDs]at h;obtain⟨x,r,rfl,z,_⟩:=h;simp at q;subst q;exact⟨x,rfl,z⟩
 |d::ds,xs,i+1,e,h,q=>by
  simp only[RDs]at h;obtain⟨x,r,rfl,_,z⟩:=h;obtain⟨y,a,b⟩:=RDs.get (i:=i) z (by simpa using q);exact⟨y,by simpa using a,b⟩
def RDs.nil:RDs K ρ H [] []:=by simp[RDs]
def RDs.cons{d:D}{v:V}{ds:List D}{vs:List V}(h:RD K ρ H d v)(t:RDs K ρ H ds vs):RDs K ρ H (d::ds) (v::vs):=by
 simp only[RDs];exact⟨v,vs,rfl,h,t⟩
def RDs.app:∀{ds es:List D} {xs ys:List V},RDs K ρ H ds xs->RDs K ρ H es ys->RDs K ρ H (ds++es) (xs++ys)
 |[],es,xs,ys,h,t=>by simp only[RDs]at h;subst h;simpa using t
 |d::ds,es,xs,ys,h,t=>by
  simp only[RDs]at h;obtain⟨x,r,rfl,z,q⟩:=h;simp only[List.cons_append];exact .cons z (q.app t)
def RDs.set:∀{ds:List D} {xs:List V} {d:D} {v:V} (i:Nat),RDs K ρ H ds xs->RD K ρ H d v->RDs K ρ H (ds.set i d) (xs.set i v)
 |[],xs,d,v,i,h,t=>by simp only[RDs]at h;subst h;simp[RDs]
 |d::ds,xs,e,v,0,h,t=>by
  simp only[RDs]at h;obtain⟨x,r,rfl,z,q⟩:=h;simpa using RDs.cons t q
 |d::ds,xs,e,v,i+1,h,t=>by
  simp only[RDs]at h;obtain⟨x,r,rfl,z,q⟩:=h;simpa using RDs.cons z (q.set i t)
def RDs.drop:∀{ds:List D} {xs:List V} (n:Nat),RDs K ρ H ds xs->RDs K ρ H (ds.drop n) (xs.drop n)
 |ds,xs,0,h=>by simpa using h
 |[],xs,n+1,h=>by simp only[RDs]at h;subst h;simp[RDs]
 |d::ds,xs,n+1,h=>by
  simp only[RDs]at h;obtain⟨x,r,rfl,z,q⟩:=h;simpa using q.drop n
def RDs.take:∀{ds:List D} {xs:List V} (n:Nat),RDs K ρ H ds xs->RDs K ρ H (ds.take n) (xs.take n)
 |ds,xs,0,h=>by simp[RDs]
 |[],xs,n+1,h=>by simp only[RDs]at h;subst h;simp[RDs]
 |d::ds,xs,n+1,h=>by
  simp only[RDs]at h;obtain⟨x,r,rfl,z,q⟩:=h;simpa using RDs.cons z (q.take n)
def RIs.ds:∀{is:List I} {xs:List V},RIs K H is xs->RDs K ρ H (is.map D.im) xs
 |[],xs,h=>by simpa only[RIs,RDs,map_nil]using h
 |i::is,xs,h=>by
  simp only[RIs]at h;obtain⟨x,r,rfl,z,q⟩:=h;exact .cons (by simpa only[RD]using z) q.ds
def RDs.is:∀{is:List I} {xs:List V},RDs K ρ H (is.map D.im) xs->RIs K H is xs
 |[],xs,h=>by simpa only[RIs,RDs,map_nil]using h
 |i::is,xs,h=>by
  simp only[map_cons,RDs]at h;obtain⟨x,r,rfl,z,q⟩:=h;simp only[RIs];exact⟨x,r,rfl,by simpa only[RD]using z,q.is⟩
def RH.put(h:RH K ρ H hd){n:Nat}{a:Addr}(hn:ρ[n]?=some a){o:MO}{ho:HO}(c:RC K ρ H o ho):RH K ρ (upd H a ho) (hd.set n o)/\Ext ρ H ρ (upd H a ho):=by
 have ha:=h.mut (mem_of_getElem? hn);have n1:∀ps,H a≠some (.tbl ps):=λps e=>by rcases ha with⟨y,z⟩|⟨y,z⟩<;>(rw[e]at z;cases z)
 have n2:∀φ,H a≠some (.ext φ):=λps e=>by rcases ha with⟨y,z⟩|⟨y,z⟩<;>(rw[e]at z;cases z)
 have ex:Ext ρ H ρ (upd H a ho):=⟨⟨[],by simp,by simp⟩,λb o q m _=>by
  have:b≠a:=λz=>m (by rw[z];exact mem_of_getElem? hn);rw[AC this];exact q,λb ps q=>⟨ps,(AC (show b≠a from λz=>n1 ps (by rw[<- z];exact q))).trans q⟩⟩
 have gr:=ex.grow h;refine⟨⟨by simp[h.len],h.nd,h.tabs.upd n1 n2,λm o' b e1 e2=>?_⟩,ex⟩;have hm:m<hd.length:=by rw[<- h.len];exact(List.getElem?_eq_some_iff.mp e2).1
 by_cases hmn:m=n
 .subst hmn;rw[hn]at e2;cases e2;rw[List.getElem?_set_self hm]at e1;cases e1;exact⟨ho,AJ,by simpa using c.mono gr []⟩
 .rw[List.getElem?_set_ne (λz=>hmn z.symm)]at e1;obtain⟨ho',q1,q2⟩:=h.ob m o' b e1 e2;have:b≠a:=λz=>by
   subst z;have l1:=(List.getElem?_eq_some_iff.mp e2).1;have l2:=(List.getElem?_eq_some_iff.mp hn).1;exact hmn ((List.getElem?_inj l1 h.nd).mp (e2.trans hn.symm))
  exact⟨ho',by rw[AC this];exact q1,by simpa using q2.mono gr []⟩
def RH.lst(h:RH K ρ H hd){n:Nat}{a:Addr}{ds:List D}(hn:ρ[n]?=some a)(e:hd[n]?=some (.lst ds)):∃xs,H a=some (.lst xs)/\RDs K ρ H ds xs:=by
 obtain⟨ho,q,xs,rfl,r⟩:=h.ob n _ a e hn;exact⟨xs,q,r⟩
def RH.dic(h:RH K ρ H hd){n:Nat}{a:Addr}{ds:List (Key×D)}(hn:ρ[n]?=some a)(e:hd[n]?=some (.dic ds)):∃xs,H a=some (.dK xs)/\RKs K ρ H ds xs:=by
 obtain⟨ho,q,xs,rfl,r⟩:=h.ob n _ a e hn;exact⟨xs,q,r⟩
def RH.hid(h:RH K ρ H hd){a:Addr}(ha:H a=none){ho:HO}:RH K ρ (upd H a ho) hd/\Ext ρ H ρ (upd H a ho):=by
 have out:a∉ρ:=λm=>by rcases h.mut m with⟨y,z⟩|⟨y,z⟩<;>(rw[ha]at z;cases z)
 have ex:Ext ρ H ρ (upd H a ho):=⟨⟨[],by simp,by simp⟩,λb o q n _=>by rw[AC (AY q ha)];exact q,λb ps q=>⟨ps,by rw[AC (AY q ha)];exact q⟩⟩
 have gr:=ex.grow h;refine⟨⟨h.len,h.nd,h.tabs.upd (by simp[ha]) (by simp[ha]),λm o' b e1 e2=>?_⟩,ex⟩;obtain⟨ho',q1,q2⟩:=h.ob m o' b e1 e2;exact⟨ho',by rw[AC (AY q1 ha)];exact q1,by simpa using q2.mono gr []⟩
def RH.hput(h:RH K ρ H hd){a:Addr}(out:a∉ρ){xs:List V}{ho:HO}(hl:H a=some (.lst xs)):RH K ρ (upd H a ho) hd:=by
 have gr:Grow H (upd H a ho):=Grow.refl.put (.lst hl);refine⟨h.len,h.nd,h.tabs.upd (by simp[hl]) (by simp[hl]),λm o' b e1 e2=>?_⟩;obtain⟨ho',q1,q2⟩:=h.ob m o' b e1 e2;have:b≠a:=λz=>out (by rw[<- z];exact mem_of_getElem? e2);exact⟨ho',by rw[AC this];exact q1,by simpa using q2.mono gr []⟩
end
end L2
namespace L2
open PySem PySem.Spec PyProof.Rows
abbrev ME:=Ls->Hd->Option (D×Hd)
abbrev MT:=Ls->Hd->Option (Bool×Hd)
abbrev MA:=Ls->Hd->Option (List D×Hd)
inductive Fl where
 |nx (ls:Ls)|rt (d:D)|bk (ls:Ls)|ct (ls:Ls)
abbrev MS:=Ls->Hd->Option (Fl×Hd)
section
variable(K:PySem.W.Frag)
def RE(t:TE)(m:ME):Prop:=∀(ρ:List Addr) (σ:St) (H:Hp) (hd:Hd) (ls:Ls) (Q:VK) (d:D) (hd':Hd),RH K ρ H hd->RL K ρ H ls σ->m ls hd=some (d,hd') ->
 (∀ρ' H' v,Ext ρ H ρ' H'->RH K ρ' H' hd'->RD K ρ' H' d v->Q v H')->t σ H Q
def RT(t:TT)(m:MT):Prop:=∀(ρ:List Addr) (σ:St) (H:Hp) (hd:Hd) (ls:Ls) (Q:Bool->Hp->Prop) (d:Bool) (hd':Hd),RH K ρ H hd->RL K ρ H ls σ->m ls hd=some (d,hd') ->
 (∀ρ' H',Ext ρ H ρ' H'->RH K ρ' H' hd'->Q d H')->t σ H Q
def RA(t:TA)(m:MA):Prop:=∀(ρ:List Addr) (σ:St) (H:Hp) (hd:Hd) (ls:Ls) (Q:List V->Hp->Prop) (d:List D) (hd':Hd),RH K ρ H hd->RL K ρ H ls σ->m ls hd=some (d,hd') ->
 (∀ρ' H' v,Ext ρ H ρ' H'->RH K ρ' H' hd'->RDs K ρ' H' d v->Q v H')->t σ H Q
def RN(t:TE)(m:MA):Prop:=∀(ρ:List Addr) (σ:St) (H:Hp) (hd:Hd) (ls:Ls) (Q:VK) (d:List D) (hd':Hd),RH K ρ H hd->RL K ρ H ls σ->m ls hd=some (d,hd') ->
 (∀ρ' H' a xs,Ext ρ H ρ' H'->RH K ρ' H' hd'->H a=none->a∉ρ'->H' a=some (.lst xs)->RDs K ρ' H' d xs->Q (.ref a) H')->t σ H Q
def bH(E:Ends)(ρ:List Addr)(H:Hp):Fl->Prop
 |.nx ls=>∀σ,RL K ρ H ls σ->E.nx σ H
 |.bk ls=>∀σ,RL K ρ H ls σ->E.bk σ H
 |.ct ls=>∀σ,RL K ρ H ls σ->E.ct σ H
 |.rt d=>∀v,RD K ρ H d v->E.rt v H
def RS(t:TS)(m:MS):Prop:=∀(ρ:List Addr) (σ:St) (H:Hp) (hd:Hd) (ls:Ls) (E:Ends) (f:Fl) (hd':Hd),RH K ρ H hd->RL K ρ H ls σ->m ls hd=some (f,hd') ->
 (∀ρ' H',Ext ρ H ρ' H'->RH K ρ' H' hd'->bH K E ρ' H' f)->t E σ H
def RB(r:R2)(f:D->D->Hd->Option (D×Hd)):Prop:=∀(ρ:List Addr) (H:Hp) (hd:Hd) (d e:D) (v u:V) (Q:VK) (z:D) (hd':Hd),RH K ρ H hd->RD K ρ H d v->RD K ρ H e u->f d e hd=some (z,hd') ->
 (∀ρ' H' w,Ext ρ H ρ' H'->RH K ρ' H' hd'->RD K ρ' H' z w->Q w H')->r v u H Q
def RF(r:List V->Hp->VK->Prop)(f:List D->Hd->Option (D×Hd)):Prop:=∀(ρ:List Addr) (H:Hp) (hd:Hd) (ds:List D) (vs:List V) (Q:VK) (z:D) (hd':Hd),RH K ρ H hd->RDs K ρ H ds vs->f ds hd=some (z,hd') ->
 (∀ρ' H' w,Ext ρ H ρ' H'->RH K ρ' H' hd'->RD K ρ' H' z w->Q w H')->r vs H Q
def RG(tp:Bool)(r:List V->Hp->VK->Prop)(g:List D->Option D):Prop:=∀(ρ:List Addr) (H:Hp) (hd:Hd) (a:Addr) (xs:List V) (ds:List D) (Q:VK) (z:D),RH K ρ H hd->(SqL K H a xs∨(tp=true/\SqT K H a xs))->RDs K ρ H ds xs->g ds=some z ->
 (∀H' w,Ext ρ H ρ H'->RH K ρ H' hd->RD K ρ H' z w->Q w H')->r [.ref a] H Q
end
structure QE(K:PySem.W.Frag)(X:Cx)(e:Expr)(t:TE)(m:ME):Prop where
 p:PE X e t
 r:RE K t m
structure QT(K:PySem.W.Frag)(X:Cx)(e:Expr)(t:TT)(m:MT):Prop where
 p:PT X e t
 r:RT K t m
structure QW(K:PySem.W.Frag)(X:Cx)(e:Expr)(t:TT)(m:MT):Prop where
 p:PW X e t
 r:RT K t m
structure QA(K:PySem.W.Frag)(X:Cx)(e:List Expr)(t:TA)(m:MA):Prop where
 p:PA X e t
 r:RA K t m
structure QN(K:PySem.W.Frag)(X:Cx)(e:Expr)(t:TE)(m:MA):Prop where
 p:PE X e t
 r:RN K t m
structure QS(K:PySem.W.Frag)(X:Cx)(e:Stmt)(t:TS)(m:MS):Prop where
 p:PS X e t
 r:RS K t m
structure QSs(K:PySem.W.Frag)(X:Cx)(e:List Stmt)(t:TS)(m:MS):Prop where
 p:PSs X e t
 r:RS K t m
def Af:D->Option (List D)
 |.im (.tup is)=>some (is.map .im)
 |.tm ds=>some ds
 |_=>none
def BQ(hd:Hd):D->Option (List D)
 |.mu n=>match hd[n]? with
  |some (.lst ds)=>some ds
  |_=>none
 |.ro ns=>some (ns.map λn=>.im (.int n))
 |_=>none
def B8(hd:Hd)(d:D):Option (List D):=match Af d with
 |some ds=>some ds
 |none=>BQ hd d
def C4:List D->Option (List I)
 |[]=>some []
 |.im i::r=>(C4 r).map (i::·)
 |_::_=>none
def Ag(ds:List D):D:=match C4 ds with
 |some is=>.im (.tup is)
 |none=>.tm ds
def BG:List D->Option (List Int)
 |[]=>some []
 |.im (.int i)::r=>(BG r).map (i::·)
 |_::_=>none
def Cf:List D->Option (List Bool)
 |[]=>some []
 |.im (.bl i)::r=>(Cf r).map (i::·)
 |_::_=>none
section
variable{K:PySem.W.Frag}{ρ ρ':List Addr}{H H':Hp}{hd hd':Hd}
def GV:∀{ds:List D} {is:List I},C4 ds=some is->ds=is.map .im
 |[],is,h=>by simp[C4]at h;subst h;rfl
 |.im i::r,is,h=>by
  simp only[C4,Option.map_eq_some_iff]at h;obtain⟨js,e,rfl⟩:=h;simp[GV e]
 |.mu _::_,is,h=>by simp[C4]at h
 |.tm _::_,is,h=>by simp[C4]at h
 |.ro _::_,is,h=>by simp[C4]at h
 |.op _ _ _::_,is,h=>by simp[C4]at h
def FE:∀{ds:List D} {is:List Int},BG ds=some is->ds=is.map λi=>.im (.int i)
 |[],is,h=>by simp[BG]at h;subst h;rfl
 |.im (.int i)::r,is,h=>by
  simp only[BG,Option.map_eq_some_iff]at h;obtain⟨js,e,rfl⟩:=h;simp[FE e]
 |.im (.bl _)::_,is,h=>by simp[BG]at h
 |.im (.str _)::_,is,h=>by simp[BG]at h
 |.im .non::_,is,h=>by simp[BG]at h
 |.im (.tup _)::_,is,h=>by simp[BG]at h
 |.mu _::_,is,h=>by simp[BG]at h
 |.tm _::_,is,h=>by simp[BG]at h
 |.ro _::_,is,h=>by simp[BG]at h
 |.op _ _ _::_,is,h=>by simp[BG]at h
def KB:∀{ds:List D} {is:List Bool},Cf ds=some is->ds=is.map λi=>.im (.bl i)
 |[],is,h=>by simp[Cf]at h;subst h;rfl
 |.im (.bl i)::r,is,h=>by
  simp only[Cf,Option.map_eq_some_iff]at h;obtain⟨js,e,rfl⟩:=h;simp[KB e]
 |.im (.int _)::_,is,h=>by simp[Cf]at h
 |.im (.str _)::_,is,h=>by simp[Cf]at h
 |.im .non::_,is,h=>by simp[Cf]at h
 |.im (.tup _)::_,is,h=>by simp[Cf]at h
 |.mu _::_,is,h=>by simp[Cf]at h
 |.tm _::_,is,h=>by simp[Cf]at h
 |.ro _::_,is,h=>by simp[Cf]at h
 |.op _ _ _::_,is,h=>by simp[Cf]at h
@[simp] theorem Rl(is:List I):C4 (is.map .im)=some is:=by induction is<;>simp_all [C4]
@[simp] theorem bL(is:List Int):BG (is.map λi=>.im (.int i))=some is:=by induction is<;>simp_all [BG]
@[simp] theorem Mu(is:List Bool):Cf (is.map λi=>.im (.bl i))=some is:=by induction is<;>simp_all [Cf]
def Js:∀{ns:List Int} {xs:List V},RDs K ρ H (ns.map λi=>.im (.int i)) xs->xs=ns.map V.int
 |[],xs,h=>by simpa [RDs]using h
 |n::ns,xs,h=>by
  simp only[map_cons,RDs,RD,RI]at h;obtain⟨x,r,rfl,rfl,z⟩:=h;rw[Js z];rfl
def Fu:∀{ns:List Int},RDs K ρ H (ns.map λi=>.im (.int i)) (ns.map V.int)
 |[]=>by simp[RDs]
 |n::ns=>by simp only[map_cons];exact .cons (by simp[RD,RI]) Fu
def Lz:∀{ns:List Bool} {xs:List V},RDs K ρ H (ns.map λi=>.im (.bl i)) xs->xs=ns.map V.bl
 |[],xs,h=>by simpa [RDs]using h
 |n::ns,xs,h=>by
  simp only[map_cons,RDs,RD,RI]at h;obtain⟨x,r,rfl,rfl,z⟩:=h;rw[Lz z];rfl
def RD.tup{d:D}{v:V}{ds:List D}(h:RD K ρ H d v)(e:Af d=some ds):∃a xs,v=.ref a/\SqT K H a xs/\RDs K ρ H ds xs:=by
 cases d with
 |im i=>
  cases i with
  |tup is=>
   simp only[Af,Option.some.injEq]at e;subst e;simp only[RD,RI]at h;obtain⟨a,xs,rfl,q,r⟩:=h;exact⟨a,xs,rfl,q,r.ds⟩
  |_=>simp[Af]at e
 |tm es=>
  simp only[Af,Option.some.injEq]at e;subst e;simpa only[RD]using h
 |_=>simp[Af]at e
def RD.lst{d:D}{v:V}{ds:List D}(hR:RH K ρ H hd)(h:RD K ρ H d v)(e:BQ hd d=some ds):∃a xs,v=.ref a/\SqL K H a xs/\RDs K ρ H ds xs:=by
 cases d with
 |mu n=>
  simp only[BQ]at e;simp only[RD]at h;obtain⟨a,hn,rfl⟩:=h;split at e
  .next q=>
   cases e;obtain⟨xs,e1,e2⟩:=hR.lst hn q;exact⟨a,xs,rfl,SqL.of e1,e2⟩
  .cases e
 |ro ns=>
  simp only[BQ,Option.some.injEq]at e;subst e;simp only[RD]at h;obtain⟨a,rfl,q⟩:=h;exact⟨a,_,rfl,q.sq,Fu⟩
 |_=>simp[BQ]at e
def RD.seq{d:D}{v:V}{ds:List D}(hR:RH K ρ H hd)(h:RD K ρ H d v)(e:B8 hd d=some ds):∃a xs,v=.ref a/\(SqL K H a xs∨SqT K H a xs)/\RDs K ρ H ds xs:=by
 unfold B8 at e;split at e
 .next q=>
  cases e;obtain⟨a,xs,e1,e2,e3⟩:=h.tup q;exact⟨a,xs,e1,.inr e2,e3⟩
 .obtain⟨a,xs,e1,e2,e3⟩:=h.lst hR e;exact⟨a,xs,e1,.inl e2,e3⟩
def BW{ds:List D}{a:Addr}{xs:List V}(q:SqT K H a xs)(r:RDs K ρ H ds xs):RD K ρ H (Ag ds) (.ref a):=by
 unfold Ag;split
 .next e=>
  rw[GV e]at r;simp only[RD,RI];exact⟨a,xs,rfl,q,r.is⟩
 .simp only[RD];exact⟨a,xs,rfl,q,r⟩
def A1(i:Nat):ME:=λls hd=>match ls[i]? with
 |some (some d)=>some (d,hd)
 |_=>none
def Xw{i:Nat}:RE K (SB i) (A1 i):=by
 and_intros;unfold A1 at hm;split at hm
 .next e=>
  cases hm;obtain⟨v,e1,e2⟩:=hL.ob i _ e;exact⟨v,e1,hQ ρ H v .refl hR e2⟩
 .cases hm
def mC(i:I):ME:=λ_ hd=>some (.im i,hd)
def Od{v:V}{i:I}(h:∀H,RI K H i v):RE K (tC v) (mC i):=by
 and_intros;cases hm;exact hQ ρ H v .refl hR (by simpa only[RD]using h H)
def mOp(f:D->D->Hd->Option (D×Hd))(ma mb:ME):ME:=λls hd=>(ma ls hd).bind λp=>(mb ls p.2).bind λq=>f p.1 q.1 q.2
def L9{r:R2}{f:D->D->Hd->Option (D×Hd)}{ta tb:TE}{ma mb:ME}(hr:RB K r f)(ha:RE K ta ma)(hb:RE K tb mb):RE K (tOp r ta tb) (mOp f ma mb):=by
 and_intros;obtain⟨⟨d1,h1⟩,e1,hm⟩:=c5 hm;obtain⟨⟨d2,h2⟩,e2,hm⟩:=c5 hm;refine ha ρ σ H hd ls _ d1 h1 hR hL e1 λρ1 H1 v1 x1 R1 r1=>?_;refine hb ρ1 σ H1 h1 ls _ d2 h2 R1 (hL.ext hR x1) e2 λρ2 H2 v2 x2 R2 r2=>?_;exact hr ρ2 H2 h2 d1 d2 v1 v2 Q d hd' R2 (r1.ext R1 x2) r2 hm λρ' H' w x3 R3 r3=>hQ ρ' H' w ((x1.trans R1 x2).trans R2 x3) R3 r3
def Cz(ta tb:MT):MT:=λls hd=>(ta ls hd).bind λp=>if p.1=true then tb ls p.2 else some (false,p.2)
def mOr(ta tb:MT):MT:=λls hd=>(ta ls hd).bind λp=>if p.1=true then some (true,p.2)else tb ls p.2
def C6(ta:MT):MT:=λls hd=>(ta ls hd).bind λp=>some (!p.1,p.2)
def Xi{ta tb:TT}{ma mb:MT}(ha:RT K ta ma)(hb:RT K tb mb):RT K (SI ta tb) (Cz ma mb):=by
 and_intros;obtain⟨⟨d1,h1⟩,e1,hm⟩:=c5 hm;refine ha ρ σ H hd ls _ d1 h1 hR hL e1 λρ1 H1 x1 R1=>?_;cases d1 with
 |true=>
  rw[if_pos rfl]at hm ⊢;exact hb ρ1 σ H1 h1 ls Q d hd' R1 (hL.ext hR x1) hm λρ2 H2 x2 R2=>hQ ρ2 H2 (x1.trans R1 x2) R2
 |false=>
  rw[if_neg Bool.false_ne_true]at hm ⊢;cases hm;exact hQ ρ1 H1 x1 R1
def aE{ta tb:TT}{ma mb:MT}(ha:RT K ta ma)(hb:RT K tb mb):RT K (tOr ta tb) (mOr ma mb):=by
 and_intros;obtain⟨⟨d1,h1⟩,e1,hm⟩:=c5 hm;refine ha ρ σ H hd ls _ d1 h1 hR hL e1 λρ1 H1 x1 R1=>?_;cases d1 with
 |true=>
  rw[if_pos rfl]at hm ⊢;cases hm;exact hQ ρ1 H1 x1 R1
 |false=>
  rw[if_neg Bool.false_ne_true]at hm ⊢;exact hb ρ1 σ H1 h1 ls Q d hd' R1 (hL.ext hR x1) hm λρ2 H2 x2 R2=>hQ ρ2 H2 (x1.trans R1 x2) R2
def Xh{ta:TT}{ma:MT}(ha:RT K ta ma):RT K (SE ta) (C6 ma):=by
 and_intros;obtain⟨⟨d1,h1⟩,e1,hm⟩:=c5 hm;cases hm;exact ha ρ σ H hd ls _ d1 h1 hR hL e1 λρ1 H1 x1 R1=>hQ ρ1 H1 x1 R1
open Classical in
def E3(hd:Hd):D->Option Bool
 |.im .non=>some false
 |.im (.bl b)=>some b
 |.im (.int i)=>some (i != 0)
 |.im (.str x)=>if C9 x.length then some ((x.length:Int) != 0)else none
 |.im (.tup is)=>some (!is.isEmpty)
 |.tm is=>some (!is.isEmpty)
 |.ro ns=>some (!ns.isEmpty)
 |.op _ _ _=>none
 |.mu n=>match hd[n]? with
  |some (.lst ds)=>some (!ds.isEmpty)
  |some (.dic ds)=>some (!ds.isEmpty)
  |none=>none
def DJ{α β:Type}{xs:List α}{ys:List β}(h:xs.length=ys.length):xs.isEmpty=ys.isEmpty:=by
 cases xs<;>cases ys<;>simp_all
def RKs.len:∀{ds:List (Key×D)} {xs:List (Key×V)},RKs K ρ H ds xs->xs.length=ds.length
 |[],xs,h=>by simp only[RKs]at h;rw[h];rfl
 |d::ds,xs,h=>by
  simp only[RKs]at h;obtain⟨x,r,rfl,_,_,z⟩:=h;simp[RKs.len z]
def Ul{d:D}{v:V}{b:Bool}(hR:RH K ρ H hd)(h:RD K ρ H d v)(e:E3 hd d=some b):Mx K v H b:=by
 cases d with
 |im i=>
  cases i with
  |non=>simp only[RD,RI]at h;subst h;simp only[E3,Option.some.injEq]at e;subst e;exact rfl
  |bl c=>simp only[RD,RI]at h;subst h;simp only[E3,Option.some.injEq]at e;subst e;exact rfl
  |int c=>simp only[RD,RI]at h;subst h;simp only[E3,Option.some.injEq]at e;subst e;exact rfl
  |str c=>
   simp only[RD,RI]at h;subst h;simp only[E3]at e;split at e
   .next z=>cases e;exact⟨z,rfl⟩
   .cases e
  |tup is=>
   obtain⟨a,xs,rfl,q,r⟩:=h.tup (ds:=is.map .im) rfl;simp only[E3,Option.some.injEq]at e;subst e;exact .inr (.inl ⟨xs,q,by rw[DJ (show xs.length=is.length by simpa using r.len)]⟩)
 |tm ds=>
  obtain⟨a,xs,rfl,q,r⟩:=h.tup (ds:=ds) rfl;simp only[E3,Option.some.injEq]at e;subst e;exact .inr (.inl ⟨xs,q,by rw[DJ r.len]⟩)
 |ro ns=>
  obtain⟨a,xs,rfl,q,r⟩:=h.lst hR (hd:=hd) (ds:=ns.map λn=>.im (.int n)) rfl;simp only[E3,Option.some.injEq]at e;subst e;exact .inl ⟨xs,q,by rw[DJ (show xs.length=ns.length by simpa using r.len)]⟩
 |op _ _ _=>simp[E3]at e
 |mu n=>
  simp only[RD]at h;obtain⟨a,hn,rfl⟩:=h;simp only[E3]at e;split at e
  .next q=>
   cases e;obtain⟨xs,e1,e2⟩:=hR.lst hn q;exact .inl ⟨xs,SqL.of e1,by rw[DJ e2.len]⟩
  .next q=>
   cases e;obtain⟨xs,e1,e2⟩:=hR.dic hn q;exact .inr (.inr ⟨xs,e1,by rw[DJ e2.len]⟩)
  .cases e
def BU(ma:ME):MT:=λls hd=>(ma ls hd).bind λp=>(E3 p.2 p.1).map (·,p.2)
def SU{ta:TE}{ma:ME}(ha:RE K ta ma):RT K (λσ H Q=>ta σ H λx H'=>∃k,Mx K x H' k/\Q k H') (BU ma):=by
 and_intros;obtain⟨⟨d1,h1⟩,e1,hm⟩:=c5 hm;obtain⟨b,e2,e3⟩:=c7 hm;cases e3;exact ha ρ σ H hd ls _ d1 h1 hR hL e1 λρ1 H1 v x1 R1 r1=>⟨_,Ul R1 r1 e2,hQ ρ1 H1 x1 R1⟩
def AM(ma:ME):MT:=λls hd=>(ma ls hd).bind λp=>match p.1 with
 |.im (.bl b)=>some (b,p.2)
 |_=>none
def Ev{ta:TE}{ma:ME}(ha:RE K ta ma):RT K (L7 ta) (AM ma):=by
 and_intros;obtain⟨⟨d1,h1⟩,e1,hm⟩:=c5 hm;dsimp only at hm;split at hm
 .cases hm;exact ha ρ σ H hd ls _ _ _ hR hL e1 λρ1 H1 v x1 R1 r1=>⟨_,by simpa only[RD,RI]using r1,hQ ρ1 H1 x1 R1⟩
 .cases hm
def Xj{ta:TE}{ma:ME}(ha:RE K ta ma):RT K (tB ta) (AM ma):=Ev ha
def mIf(c:MT)(ma mb:ME):ME:=λls hd=>(c ls hd).bind λp=>if p.1=true then ma ls p.2 else mb ls p.2
def UD{tc:TT}{c:MT}{ta tb:TE}{ma mb:ME}(hc:RT K tc c)(ha:RE K ta ma)(hb:RE K tb mb):RE K (tIf tc ta tb) (mIf c ma mb):=by
 and_intros;obtain⟨⟨d1,h1⟩,e1,hm⟩:=c5 hm;refine hc ρ σ H hd ls _ d1 h1 hR hL e1 λρ1 H1 x1 R1=>?_;cases d1 with
 |true=>
  rw[if_pos rfl]at hm ⊢;exact ha ρ1 σ H1 h1 ls Q d hd' R1 (hL.ext hR x1) hm λρ2 H2 v x2 R2 r2=>hQ ρ2 H2 v (x1.trans R1 x2) R2 r2
 |false=>
  rw[if_neg Bool.false_ne_true]at hm ⊢;exact hb ρ1 σ H1 h1 ls Q d hd' R1 (hL.ext hR x1) hm λρ2 H2 v x2 R2 r2=>hQ ρ2 H2 v (x1.trans R1 x2) R2 r2
def DD(ma mb:ME):ME:=λls hd=>(AM ma ls hd).bind λp=>if p.1=true then mb ls p.2 else some (.im (.bl false),p.2)
def Ib(ma mb:ME):ME:=λls hd=>(AM ma ls hd).bind λp=>if p.1=true then some (.im (.bl true),p.2)else mb ls p.2
def FO(ma:ME):ME:=λls hd=>(AM ma ls hd).bind λp=>some (.im (.bl (!p.1)),p.2)
def VM{ta tb:TE}{ma mb:ME}(ha:RE K ta ma)(hb:RE K tb mb):RE K (OR ta tb) (DD ma mb):=by
 and_intros;obtain⟨⟨d1,h1⟩,e1,hm⟩:=c5 hm;refine Ev ha ρ σ H hd ls (λc H1=>if c=true then tb σ H1 Q else Q (.bl false) H1) d1 h1 hR hL e1 λρ1 H1 x1 R1=>?_;cases d1 with
 |true=>
  rw[if_pos rfl]at hm ⊢;exact hb ρ1 σ H1 h1 ls Q d hd' R1 (hL.ext hR x1) hm λρ2 H2 v x2 R2 r2=>hQ ρ2 H2 v (x1.trans R1 x2) R2 r2
 |false=>
  rw[if_neg Bool.false_ne_true]at hm ⊢;cases hm;exact hQ ρ1 H1 _ x1 R1 (by simp[RD,RI])
def Xz{ta tb:TE}{ma mb:ME}(ha:RE K ta ma)(hb:RE K tb mb):RE K (SD ta tb) (Ib ma mb):=by
 and_intros;obtain⟨⟨d1,h1⟩,e1,hm⟩:=c5 hm;refine Ev ha ρ σ H hd ls (λc H1=>if c=true then Q (.bl true) H1 else tb σ H1 Q) d1 h1 hR hL e1 λρ1 H1 x1 R1=>?_;cases d1 with
 |true=>
  rw[if_pos rfl]at hm ⊢;cases hm;exact hQ ρ1 H1 _ x1 R1 (by simp[RD,RI])
 |false=>
  rw[if_neg Bool.false_ne_true]at hm ⊢;exact hb ρ1 σ H1 h1 ls Q d hd' R1 (hL.ext hR x1) hm λρ2 H2 v x2 R2 r2=>hQ ρ2 H2 v (x1.trans R1 x2) R2 r2
def VH{ta:TE}{ma:ME}(ha:RE K ta ma):RE K (OM ta) (FO ma):=by
 and_intros;obtain⟨⟨d1,h1⟩,e1,hm⟩:=c5 hm;cases hm;exact Ev ha ρ σ H hd ls (λc H1=>Q (.bl (!c)) H1) d1 h1 hR hL e1 λρ1 H1 x1 R1=>hQ ρ1 H1 _ x1 R1 (by simp[RD,RI])
def A6:MA:=λ_ hd=>some ([],hd)
def A3(ma:ME)(mr:MA):MA:=λls hd=>(ma ls hd).bind λp=>(mr ls p.2).bind λq=>some (p.1::q.1,q.2)
def Y9:RA K CI A6:=by
 and_intros;cases hm;exact hQ ρ H [] .refl hR .nil
def VP{ta:TE}{tr:TA}{ma:ME}{mr:MA}(ha:RE K ta ma)(hr:RA K tr mr):RA K (BM ta tr) (A3 ma mr):=by
 and_intros;obtain⟨⟨d1,h1⟩,e1,hm⟩:=c5 hm;obtain⟨⟨d2,h2⟩,e2,hm⟩:=c5 hm;cases hm;refine ha ρ σ H hd ls _ d1 h1 hR hL e1 λρ1 H1 v1 x1 R1 r1=>?_;exact hr ρ1 σ H1 h1 ls _ d2 _ R1 (hL.ext hR x1) e2 λρ2 H2 v2 x2 R2 r2=>hQ ρ2 H2 _ (x1.trans R1 x2) R2 (.cons (r1.ext R1 x2) r2)
open Classical in
def Ap(ma:MA):ME:=λls hd=>(ma ls hd).bind λp=>if C9 p.1.length then some (Ag p.1,p.2)else none
def Xx{t:TA}{m:MA}(h:RA K t m):RE K (SC t) (Ap m):=by
 and_intros;obtain⟨⟨d1,h1⟩,e1,hm⟩:=c5 hm;dsimp only at hm;split at hm
 .next z=>
  cases hm;refine h ρ σ H hd ls _ d1 _ hR hL e1 λρ1 H1 v1 x1 R1 r1=>⟨by rw[r1.len];exact z,λp hp=>?_⟩
  obtain⟨R2,x2⟩:=R1.hid (ho:=.tup v1) hp;exact hQ ρ1 _ _ (x1.trans R1 x2) R2 (BW (SqT.of AJ) (r1.ext R1 x2))
 .cases hm
open Classical in
def CO(ma:MA):MA:=λls hd=>(ma ls hd).bind λp=>if C9 p.1.length then some (p.1,p.2)else none
def RH.out(hR:RH K ρ H hd){a:Addr}(h:H a=none):a∉ρ:=λm=>by rcases hR.mut m with⟨y,z⟩|⟨y,z⟩<;>(rw[h]at z;cases z)
def Ext.none(e:Ext ρ H ρ' H')(hR:RH K ρ H hd){a:Addr}(h:H' a=none)(hR':RH K ρ' H' hd'):H a=none:=by
 cases q:H a with
 |none=>rfl
 |some o=>
  by_cases m:a∈ρ
  .obtain⟨r,rfl,_⟩:=e.pre;exact absurd (mem_append_left r m) (hR'.out h)
  .by_cases t:∃ps,o=.tbl ps
   .obtain⟨ps,rfl⟩:=t;obtain⟨ps',this⟩:=e.tab a ps q;rw[h]at this;cases this
   .rw[e.keep a o q m λps y=>t ⟨ps,y⟩]at h;cases h
def Xm{t:TA}{m:MA}(h:RA K t m):RN K (SG t) (CO m):=by
 and_intros;obtain⟨⟨d1,h1⟩,e1,hm⟩:=c5 hm;dsimp only at hm;split at hm
 .next z=>
  cases hm;refine h ρ σ H hd ls _ _ _ hR hL e1 λρ1 H1 v1 x1 R1 r1=>⟨by rw[r1.len];exact z,λp hp=>?_⟩
  obtain⟨R2,x2⟩:=R1.hid (ho:=.lst v1) hp;exact hQ ρ1 _ p v1 (x1.trans R1 x2) R2 (x1.none hR hp R1) (R1.out hp) AJ (r1.ext R1 x2)
 .cases hm
def BH(ml:MA):ME:=λls hd=>(ml ls hd).bind λp=>some (.mu p.2.length,p.2++[.lst p.1])
def RH.name(hR:RH K ρ H hd){a:Addr}{xs:List V}{ds:List D}(out:a∉ρ)(e:H a=some (.lst xs))(r:RDs K ρ H ds xs):RH K (ρ++[a]) H (hd++[.lst ds]):=by
 have mono:∀{o:MO} {ho:HO},RC K ρ H o ho->RC K (ρ++[a]) H o ho:=λc=>c.mono Grow.refl [a];refine⟨by simp[hR.len],?_,hR.tabs,λn o' b e1 e2=>?_⟩
 .rw[List.nodup_append];refine⟨hR.nd,by simp,λx hx y hy z=>?_⟩;simp at hy;subst hy;subst z;exact out hx
 .by_cases hn:n<ρ.length
  .rw[List.getElem?_append_left hn]at e2;rw[List.getElem?_append_left (by rw[<- hR.len];exact hn)]at e1;obtain⟨ho',q1,q2⟩:=hR.ob n o' b e1 e2;exact⟨ho',q1,mono q2⟩
  .have hn':n=ρ.length:=by
    have:=(List.getElem?_eq_some_iff.mp e2).1;simp at this;omega
   subst hn';simp at e2;rw[hR.len]at e1;simp at e1;subst e1;subst e2;exact⟨_,e,mono ⟨xs,rfl,r⟩⟩
def Ext.name(e:Ext ρ H ρ' H'){a:Addr}(h:H a=Option.none):Ext ρ H (ρ'++[a]) H':=by
 obtain⟨r,rfl,f⟩:=e.pre;refine⟨⟨r++[a],by simp,λb m=>?_⟩,e.keep,e.tab⟩;rcases mem_append.mp m with m|m
 .exact f b m
 .simp at m;subst m;exact h
def QD{t:TE}{m:MA}(h:RN K t m):RE K t (BH m):=by
 and_intros;obtain⟨⟨d1,h1⟩,e1,hm⟩:=c5 hm;cases hm;refine h ρ σ H hd ls Q d1 h1 hR hL e1 λρ1 H1 a xs x1 R1 na oa ea r1=>?_;refine hQ (ρ1++[a]) H1 _ (x1.name na) (R1.name oa ea r1) ?_;simp only[RD];exact⟨a,by rw[<- R1.len];simp,rfl⟩
end
section
variable{K:PySem.W.Frag}{ρ ρ':List Addr}{H H':Hp}{hd hd':Hd}
def fI(g:Int->Int->Option I):D->D->Hd->Option (D×Hd)
 |.im (.int i),.im (.int j),hd=>(g i j).map (.im ·,hd)
 |_,_,_=>none
def Oe{C:Int->Int->Prop}{g:Int->Int->V}{f:Int->Int->Option I}(h:∀i j z,f i j=some z->C i j/\∀H,RI K H z (g i j)):RB K (rI C g) (fI f):=by
 intro ρ H hd d e v u Q z hd' hR h1 h2 hf hQ;unfold fI at hf;split at hf
 .simp only[RD,RI]at h1 h2;subst h1 h2;obtain⟨w,e1,e2⟩:=c7 hf;cases e2;obtain⟨c,r⟩:=h _ _ _ e1;exact⟨_,_,rfl,rfl,c,hQ ρ H _ .refl hR (by simpa only[RD]using r H)⟩
 .cases hf
def Hk{g:Int->Int->V}{f:Int->Int->I}(h:∀i j H,RI K H (f i j) (g i j)):RB K (rI0 g) (fI λi j=>some (f i j)):=by
 intro ρ H hd d e v u Q z hd' hR h1 h2 hf hQ;unfold fI at hf;split at hf
 .simp only[RD,RI]at h1 h2;subst h1 h2;cases hf;exact⟨_,_,rfl,rfl,hQ ρ H _ .refl hR (by simpa only[RD]using h _ _ H)⟩
 .cases hf
def GQ(f g:D->D->Hd->Option (D×Hd)):D->D->Hd->Option (D×Hd):=λd e hd=>match f d e hd with
 |some z=>some z
 |none=>g d e hd
def E4{r r':R2}{f g:D->D->Hd->Option (D×Hd)}(h:RB K r f)(h':RB K r' g):RB K (λx y H Q=>r x y H Q∨r' x y H Q) (GQ f g):=by
 intro ρ H hd d e v u Q z hd' hR h1 h2 hf hQ;unfold GQ at hf;split at hf
 .next q=>cases hf;exact .inl (h ρ H hd d e v u Q z hd' hR h1 h2 q hQ)
 .exact .inr (h' ρ H hd d e v u Q z hd' hR h1 h2 hf hQ)
abbrev K4:D->D->Hd->Option (D×Hd):=fI λi j=>some (.int (i+j))
abbrev B5:D->D->Hd->Option (D×Hd):=fI λi j=>some (.int (i-j))
def QQ:RB K (rI0 λi j=>.int (i+j)) K4:=Hk λ_ _ _=>by simp[RI]
def Y5:RB K (rI0 λi j=>.int (i-j)) B5:=Hk λ_ _ _=>by simp[RI]
open Classical in
abbrev GJ:D->D->Hd->Option (D×Hd):=fI λi j=>if FM i j then some (.int (i*j))else none
def Y7:RB K (rI CMul λi j=>.int (i*j)) GJ:=Oe λi j z h=>by
 split at h
 .next q=>cases h;exact⟨q,λ_=>by simp[RI]⟩
 .cases h
open Classical in
abbrev FF:D->D->Hd->Option (D×Hd):=fI λi j=>if CV j then some (.int (i%j))else none
def Y8:RB K (rI (λ_ j=>0<j) λi j=>.int (i%j)) FF:=Oe λi j z h=>by
 split at h
 .next q=>cases h;exact⟨q,λ_=>by simp[RI]⟩
 .cases h
open Classical in
abbrev GK:D->D->Hd->Option (D×Hd):=fI λi j=>if JR j then some (.int (i/j))else none
def VN:RB K (rI a8 λi j=>.int (i/j)) GK:=Oe λi j z h=>by
 split at h
 .next q=>cases h;exact⟨q,λ_=>by simp[RI]⟩
 .cases h
open Classical in
abbrev Th:D->D->Hd->Option (D×Hd):=fI λi j=>if Om i j then some (.int (i^j.toNat))else none
def Y6:RB K (rI a7 λi j=>.int (i^j.toNat)) Th:=Oe λi j z h=>by
 split at h
 .next q=>cases h;exact⟨q,λ_=>by simp[RI]⟩
 .cases h
abbrev gLt:D->D->Hd->Option (D×Hd):=fI λi j=>some (.bl (decide (i<j)))
abbrev gLe:D->D->Hd->Option (D×Hd):=fI λi j=>some (.bl (decide (i<=j)))
abbrev gGt:D->D->Hd->Option (D×Hd):=fI λi j=>some (.bl (decide (j<i)))
abbrev gGe:D->D->Hd->Option (D×Hd):=fI λi j=>some (.bl (decide (j<=i)))
def aK:RB K (rI0 λi j=>.bl (decide (i<j))) gLt:=Hk λ_ _ _=>by simp[RI]
def UG:RB K (rI0 λi j=>.bl (decide (i<=j))) gLe:=Hk λ_ _ _=>by simp[RI]
def aM:RB K (rI0 λi j=>.bl (decide (j<i))) gGt:=Hk λ_ _ _=>by simp[RI]
def aN:RB K (rI0 λi j=>.bl (decide (j<=i))) gGe:=Hk λ_ _ _=>by simp[RI]
def scI:I->Option V
 |.non=>some .non
 |.bl b=>some (.bl b)
 |.int i=>some (.int i)
 |.str x=>some (.str x)
 |.tup _=>none
def Iy{i:I}{v w:V}(e:scI i=some w)(h:RI K H i v):v=w:=by
 cases i with
 |tup _=>simp[scI]at e
 |_=>simp only[scI,Option.some.injEq]at e;subst e;simpa only[RI]using h
def Fa(neg:Bool):D->D->Hd->Option (D×Hd)
 |.im i,.im j,hd=>match scI i,scI j with
  |some x,some y=>if Lg x y=true then some (.im (.bl (if neg then !decide (x=y)else decide (x=y))),hd)else none
  |_,_=>none
 |_,_,_=>none
def QM:RB K rEq (Fa false):=by
 intro ρ H hd d e v u Q z hd' hR h1 h2 hf hQ;unfold Fa at hf;split at hf
 .split at hf
  .next x y e1 e2=>
   split at hf
   .next s=>
    cases hf;simp only[RD]at h1 h2;rw[Iy e1 h1,Iy e2 h2];exact⟨s,hQ ρ H _ .refl hR (by simp[RD,RI])⟩
   .cases hf
  .cases hf
 .cases hf
def QK:RB K rNe (Fa true):=by
 intro ρ H hd d e v u Q z hd' hR h1 h2 hf hQ;unfold Fa at hf;split at hf
 .split at hf
  .next x y e1 e2=>
   split at hf
   .next s=>
    cases hf;simp only[RD]at h1 h2;rw[Iy e1 h1,Iy e2 h2];exact⟨s,hQ ρ H _ .refl hR (by simp[RD,RI])⟩
   .cases hf
  .cases hf
 .cases hf
mutual
def I.py:I->PyData
 |.non=>.none
 |.bl b=>.bool b
 |.int i=>.int i
 |.str x=>.str x
 |.tup ds=>.tuple (I.pys ds)
def I.pys:List I->List PyData
 |[]=>[]
 |d::ds=>I.py d::I.pys ds
end
mutual
def RI.rep:∀{i:I} {v:V},RI K H i v->Rep K H i.py v
 |.non,v,h=>by simpa only[RI,I.py,Rep]using h
 |.bl _,v,h=>by simpa only[RI,I.py,Rep]using h
 |.int _,v,h=>by simpa only[RI,I.py,Rep]using h
 |.str _,v,h=>by simpa only[RI,I.py,Rep]using h
 |.tup ds,v,h=>by
  simp only[RI]at h;obtain⟨a,xs,e,q,r⟩:=h;simp only[I.py,Rep];exact⟨a,xs,e,q,RIs.rep r⟩
def RIs.rep:∀{i:List I} {v:List V},RIs K H i v->RepAll K H (I.pys i) v
 |[],v,h=>by simpa only[RIs,I.pys,RepAll]using h
 |d::ds,v,h=>by
  simp only[RIs]at h;obtain⟨x,r,e,q,z⟩:=h;simp only[I.pys,RepAll];exact⟨x,r,e,q.rep,RIs.rep z⟩
end
def pyD(hd:Hd):D->Option PyData
 |.im i=>some i.py
 |.mu n=>match hd[n]? with
  |some (.lst ds)=>(C4 ds).map λis=>.list (I.pys is)
  |_=>none
 |.ro ns=>some (.list (I.pys (ns.map I.int)))
 |_=>none
def Fo{d:D}{v:V}{p:PyData}(hR:RH K ρ H hd)(h:RD K ρ H d v)(e:pyD hd d=some p):Rep K H p v:=by
 cases d with
 |im i=>simp only[pyD,Option.some.injEq]at e;subst e;simp only[RD]at h;exact h.rep
 |mu n=>
  simp only[pyD]at e;simp only[RD]at h;obtain⟨a,hn,rfl⟩:=h;split at e
  .next q=>
   obtain⟨is,e1,rfl⟩:=c7 e;obtain⟨xs,e2,e3⟩:=hR.lst hn q;rw[GV e1]at e3;simp only[Rep];exact⟨a,xs,rfl,SqL.of e2,e3.is.rep⟩
  .cases e
 |ro ns=>
  simp only[pyD,Option.some.injEq]at e;subst e;obtain⟨a,xs,rfl,q,r⟩:=h.lst hR (hd:=hd) (ds:=ns.map λn=>.im (.int n)) rfl;simp only[Rep];refine⟨a,xs,rfl,q,RIs.rep (RDs.is (ρ:=ρ) ?_)⟩;rw[map_map];exact r
 |tm _=>simp[pyD]at e
 |op _ _ _=>simp[pyD]at e
def K3(neg:Bool):D->D->Hd->Option (D×Hd):=λd e hd=>match pyD hd d,pyD hd e with
 |some x,some y=>if x.canLay0=true/\y.canLay0=true/\min x.depth y.depth<=60 then some (.im (.bl (if neg then !PyData.eqv x y else PyData.eqv x y)),hd)else none
 |_,_=>none
def QP:RB K (Sh K) (K3 false):=by
 intro ρ H hd d e v u Q z hd' hR h1 h2 hf hQ;unfold K3 at hf;split at hf
 .next e1 e2=>
  split at hf
  .next c=>cases hf;exact⟨_,_,Fo hR h1 e1,Fo hR h2 e2,c.1,c.2.1,c.2.2,hQ ρ H _ .refl hR (by simp[RD,RI])⟩
  .cases hf
 .cases hf
def QL:RB K (Se K) (K3 true):=by
 intro ρ H hd d e v u Q z hd' hR h1 h2 hf hQ;unfold K3 at hf;split at hf
 .next e1 e2=>
  split at hf
  .next c=>cases hf;exact⟨_,_,Fo hR h1 e1,Fo hR h2 e2,c.1,c.2.1,c.2.2,hQ ρ H _ .refl hR (by simp[RD,RI])⟩
  .cases hf
 .cases hf
abbrev gEq:=GQ (Fa false) (K3 false)
abbrev gNe:=GQ (Fa true) (K3 true)
def gIx:D->D->Hd->Option (D×Hd)
 |d,.im (.int i),hd=>(B8 hd d).bind λds=>(atI ds i).map (·,hd)
 |_,_,_=>none
def OA{α β:Type}{xs:List α}{ys:List β}{i:Int}{y:β}(h:xs.length=ys.length)(e:atI ys i=some y):∃(j:Nat),ys[j]?=some y/\∀x,xs[j]?=some x->atI xs i=some x:=by
 unfold atI at e;obtain⟨j,e1,e2⟩:=c5 e;exact⟨j,e2,λx q=>by unfold atI;rw[h,e1];exact q⟩
def LB(K:PySem.W.Frag):R2:=λx y H Q=>Sg K x y H Q∨Sf K x y H Q
def aL:RB K (LB K) gIx:=by
 intro ρ H hd d e v u Q z hd' hR h1 h2 hf hQ;unfold gIx at hf;split at hf
 .obtain⟨ds,e1,hf⟩:=c5 hf;obtain⟨w,e2,e3⟩:=c7 hf;cases e3;obtain⟨a,xs,rfl,q,r⟩:=h1.seq hR e1;simp only[RD,RI]at h2;subst h2;obtain⟨j,j1,j2⟩:=OA r.len e2;obtain⟨x,x1,x2⟩:=r.get j1;rcases q with q|q
  .exact .inl ⟨a,xs,_,x,rfl,rfl,q,j2 x x1,hQ ρ H x .refl hR x2⟩
  .exact .inr ⟨a,xs,_,x,rfl,rfl,q,j2 x x1,hQ ρ H x .refl hR x2⟩
 .cases hf
def DG(xs:List D)(lo hi:Option Int):List D:=(xs.drop (HT.sIx xs.length 0 lo)).take (HT.sIx xs.length xs.length hi-HT.sIx xs.length 0 lo)
def O7{ds:List D}{xs:List V}{lo hi:Option Int}(r:RDs K ρ H ds xs):RDs K ρ H (DG ds lo hi) (Fc xs lo hi):=by
 unfold DG Fc;rw[r.len];exact(r.drop _).take _
abbrev MO1:=Ls->Hd->Option (Option Int×Hd)
def RO1(K:PySem.W.Frag)(t:TO)(m:MO1):Prop:=∀(ρ:List Addr) (σ:St) (H:Hp) (hd:Hd) (ls:Ls) (Q:Option Int->Hp->Prop) (d:Option Int) (hd':Hd),RH K ρ H hd->RL K ρ H ls σ->m ls hd=some (d,hd') ->
 (∀ρ' H',Ext ρ H ρ' H'->RH K ρ' H' hd'->Q d H')->t σ H Q
def Bt:MO1:=λ_ hd=>some (none,hd)
def DC(m:ME):MO1:=λls hd=>(m ls hd).bind λp=>match p.1 with
 |.im (.int i)=>some (some i,p.2)
 |_=>none
def V4:RO1 K Ji Bt:=by
 and_intros;cases hm;exact hQ ρ H .refl hR
def V3{t:TE}{m:ME}(h:RE K t m):RO1 K (OL t) (DC m):=by
 and_intros;obtain⟨⟨d1,h1⟩,e1,hm⟩:=c5 hm;dsimp only at hm;split at hm
 .cases hm;exact h ρ σ H hd ls _ _ _ hR hL e1 λρ1 H1 v x1 R1 r1=>⟨_,by simpa only[RD,RI]using r1,hQ ρ1 H1 x1 R1⟩
 .cases hm
def bf(m:ME)(ml mh:MO1):ME:=λls hd=>(m ls hd).bind λp=>(ml ls p.2).bind λl=>(mh ls l.2).bind λh=>(Af p.1).bind λds=>
 if ¬ (HT.sIx ds.length 0 l.1=0/\HT.sIx ds.length ds.length h.1=ds.length)then some (Ag (DG ds l.1 h.1),h.2)else none
def MN(m:ME)(ml mh:MO1):MA:=λls hd=>(m ls hd).bind λp=>(ml ls p.2).bind λl=>(mh ls l.2).bind λh=>(BQ h.2 p.1).bind λds=>some (DG ds l.1 h.1,h.2)
def Xk{t:TE}{tl th:TO}{m:ME}{ml mh:MO1}(h:RE K t m)(hl:RO1 K tl ml)(hh:RO1 K th mh):RN K (tSl (Of K) t tl th) (MN m ml mh):=by
 and_intros;obtain⟨⟨d1,h1⟩,e1,hm⟩:=c5 hm;obtain⟨⟨d2,h2⟩,e2,hm⟩:=c5 hm;obtain⟨⟨d3,h3⟩,e3,hm⟩:=c5 hm;obtain⟨ds,e4,hm⟩:=c5 hm;dsimp only at e2 e3 e4 hm;cases hm;refine h ρ σ H hd ls _ d1 h1 hR hL e1 λρ1 H1 v1 x1 R1 r1=>?_;refine hl ρ1 σ H1 h1 ls _ d2 h2 R1 (hL.ext hR x1) e2 λρ2 H2 x2 R2=>?_;refine hh ρ2 σ H2 h2 ls _ d3 _ R2 (hL.ext hR (x1.trans R1 x2)) e3 λρ3 H3 x3 R3=>?_;obtain⟨a,xs,rfl,q,r⟩:=RD.lst R3 ((r1.ext R1 x2).ext R2 x3) e4;refine⟨a,xs,rfl,q,λp hp=>?_⟩;obtain⟨R4,x4⟩:=R3.hid (ho:=.lst (Fc xs d2 d3)) hp;have x123:=(x1.trans R1 x2).trans R2 x3;exact hQ ρ3 _ p _ (x123.trans R3 x4) R4 (x123.none hR hp R3) (R3.out hp) AJ ((O7 r).ext R3 x4)
def mCB(f:List D->Hd->Option (D×Hd))(ma:MA):ME:=λls hd=>(ma ls hd).bind λp=>f p.1 p.2
def UE{r:List V->Hp->VK->Prop}{f:List D->Hd->Option (D×Hd)}{t:TA}{m:MA}(hr:RF K r f)(h:RA K t m):RE K (tCB r t) (mCB f m):=by
 and_intros;obtain⟨⟨d1,h1⟩,e1,hm⟩:=c5 hm;refine h ρ σ H hd ls _ d1 h1 hR hL e1 λρ1 H1 v1 x1 R1 r1=>?_;exact hr ρ1 H1 h1 d1 v1 Q d hd' R1 r1 hm λρ' H' w x2 R2 r2=>hQ ρ' H' w (x1.trans R1 x2) R2 r2
def f1(tp:Bool)(g:List D->Option D):List D->Hd->Option (D×Hd)
 |[d],hd=>((if tp then B8 hd d else BQ hd d)).bind λds=>(g ds).map (·,hd)
 |_,_=>none
def Jr{tp:Bool}{r:List V->Hp->VK->Prop}{g:List D->Option D}(h:RG K tp r g):RF K r (f1 tp g):=by
 intro ρ H hd ds vs Q z hd' hR h1 hf hQ;unfold f1 at hf;split at hf
 .next d hd'=>
  obtain⟨es,e1,hf⟩:=c5 hf;obtain⟨w,e2,e3⟩:=c7 hf;cases e3;simp only[RDs]at h1;obtain⟨x,r,rfl,rx,rfl⟩:=h1;cases tp with
  |true=>
   rw[if_pos rfl]at e1;obtain⟨a,xs,rfl,q,rr⟩:=rx.seq hR e1;exact h ρ H hd a xs es Q z hR (q.imp id λq=>⟨rfl,q⟩) rr e2 λH' w x R r=>hQ ρ H' w x R r
  |false=>
   rw[if_neg Bool.false_ne_true]at e1;obtain⟨a,xs,rfl,q,rr⟩:=rx.lst hR e1;exact h ρ H hd a xs es Q z hR (.inl q) rr e2 λH' w x R r=>hQ ρ H' w x R r
 .cases hf
def C8(g:List D->Option D)(ml:MA):ME:=λls hd=>(ml ls hd).bind λp=>(g p.1).map (·,p.2)
def QJ{tp:Bool}{r:List V->Hp->VK->Prop}{g:List D->Option D}{t:TE}{m:MA}(hr:RG K tp r g)(h:RN K t m):RE K (tCB r (BM t CI)) (C8 g m):=by
 and_intros;obtain⟨⟨d1,h1⟩,e1,hm⟩:=c5 hm;obtain⟨w,e2,e3⟩:=c7 hm;cases e3;refine h ρ σ H hd ls _ d1 _ hR hL e1 λρ1 H1 a xs x1 R1 na oa ea r1=>?_;exact hr ρ1 H1 _ a xs d1 Q d R1 (.inl (SqL.of ea)) r1 e2 λH' w x R r=>hQ ρ1 H' w (x1.trans R1 x) R r
def BZ(ds:List D):Option D:=some (.im (.int ds.length))
def Xv:RG K true (YB K) BZ:=by
 intro ρ H hd a xs ds Q z hR q r e hQ;cases e;refine⟨a,xs,rfl,q.imp id λq=>q.2,?_⟩;rw[r.len];exact hQ H _ .refl hR (by simp[RD,RI])
def D3(ds:List D):Option D:=some (Ag ds)
def Lr:RG K true (M1 K) D3:=by
 intro ρ H hd a xs ds Q z hR q r e hQ;cases e;refine⟨a,xs,rfl,?_⟩;rcases q with q|⟨_,q⟩
 .refine .inl ⟨q,λp hp=>?_⟩;obtain⟨R2,x2⟩:=hR.hid (ho:=.tup xs) hp;exact hQ _ _ x2 R2 (BW (SqT.of AJ) (r.ext hR x2))
 .exact .inr ⟨q,hQ H _ .refl hR (BW q r)⟩
def FC(ds:List D):Option D:=(BG ds).map λns=>.im (.int ns.sum)
def bX(K:PySem.W.Frag):List V->Hp->VK->Prop:=λxs H Q=>UI K xs H Q∨UH K xs H Q
def Q7:RG K true (bX K) FC:=by
 intro ρ H hd a xs ds Q z hR q r e hQ;obtain⟨ns,e1,rfl⟩:=c7 e;rw[FE e1]at r;have:=Js r;subst this;rcases q with q|⟨_,q⟩
 .exact .inl ⟨a,ns,rfl,q,hQ H _ .refl hR (by simp[RD,RI])⟩
 .exact .inr ⟨a,ns,rfl,q,hQ H _ .refl hR (by simp[RD,RI])⟩
def K2(ds:List D):Option D:=(Cf ds).map λbs=>.im (.bl (bs.all id))
def MW(ds:List D):Option D:=(Cf ds).map λbs=>.im (.bl (bs.any id))
def QB:RG K false (YD K) K2:=by
 intro ρ H hd a xs ds Q z hR q r e hQ;obtain⟨ns,e1,rfl⟩:=c7 e;rw[KB e1]at r;have:=Lz r;subst this;rcases q with q|⟨q,_⟩
 .exact⟨a,ns,rfl,q,hQ H _ .refl hR (by simp[RD,RI])⟩
 .cases q
def Q9:RG K false (YC K) MW:=by
 intro ρ H hd a xs ds Q z hR q r e hQ;obtain⟨ns,e1,rfl⟩:=c7 e;rw[KB e1]at r;have:=Lz r;subst this;rcases q with q|⟨q,_⟩
 .exact⟨a,ns,rfl,q,hQ H _ .refl hR (by simp[RD,RI])⟩
 .cases q
def GD:List Int->Int
 |[]=>0
 |[x]=>x
 |x::r=>if GD r>x then GD r else x
def HC:∀{xs:List Int},xs≠[]->GD xs∈xs/\∀x∈xs,x<=GD xs
 |[],h=>absurd rfl h
 |[x],_=>by simp[GD]
 |x::y::r,_=>by
  obtain⟨h1,h2⟩:=HC (xs:=y::r) (by simp);rw[GD];split
  .next h=>exact⟨mem_cons_of_mem _ h1,λz m=>by rcases mem_cons.mp m with rfl|m;omega;exact h2 z m⟩
  .next h=>exact⟨mem_cons_self,λz m=>by rcases mem_cons.mp m with rfl|m;omega;exact Int.le_trans (h2 z m) (by omega)⟩
  .simp
def K1(ds:List D):Option D:=(BG ds).bind λns=>if ns=[]then none else some (.im (.int (GD ns)))
def bY(K:PySem.W.Frag):List V->Hp->VK->Prop:=λxs H Q=>UK K xs H Q∨UJ K xs H Q
def E7{α:Type}{xs:List α}(h:xs≠[]):0<xs.length:=by cases xs<;>simp_all
def Q8:RG K true (bY K) K1:=by
 intro ρ H hd a xs ds Q z hR q r e hQ;obtain⟨ns,e1,e⟩:=c5 e;split at e
 .cases e
 .next hn=>
  cases e;rw[FE e1]at r;have:=Js r;subst this;have u:∀M:Int,M∈ns->(∀x∈ns,x<=M)->M=GD ns:=λM m1 m2=>by
   obtain⟨n1,n2⟩:=HC hn;have:=n2 M m1;have:=m2 _ n1;omega
  rcases q with q|⟨_,q⟩
  .exact .inl ⟨a,ns,rfl,q,E7 hn,λM m1 m2=>by rw[u M m1 m2];exact hQ H _ .refl hR (by simp[RD,RI])⟩
  .exact .inr ⟨a,ns,rfl,q,E7 hn,λM m1 m2=>by rw[u M m1 m2];exact hQ H _ .refl hR (by simp[RD,RI])⟩
def GP:List D->Hd->Option (D×Hd)
 |[.im (.int i),.im (.int j)],hd=>some (.im (.int (if j>i then j else i)),hd)
 |_,_=>none
def GO:List D->Hd->Option (D×Hd)
 |[.im (.int i),.im (.int j)],hd=>some (.im (.int (if j<i then j else i)),hd)
 |_,_=>none
def VD:RF K (λxs H Q=>∃i j,xs=[.int i,.int j]/\Q (.int (if j>i then j else i)) H) GP:=by
 intro ρ H hd ds vs Q z hd' hR h1 hf hQ;unfold GP at hf;split at hf
 .cases hf;simp only[RDs,RD,RI]at h1;obtain⟨x,r,rfl,rfl,y,r2,rfl,rfl,rfl⟩:=h1;exact⟨_,_,rfl,hQ ρ H _ .refl hR (by simp[RD,RI])⟩
 .cases hf
def VC:RF K (λxs H Q=>∃i j,xs=[.int i,.int j]/\Q (.int (if j<i then j else i)) H) GO:=by
 intro ρ H hd ds vs Q z hd' hR h1 hf hQ;unfold GO at hf;split at hf
 .cases hf;simp only[RDs,RD,RI]at h1;obtain⟨x,r,rfl,rfl,y,r2,rfl,rfl,rfl⟩:=h1;exact⟨_,_,rfl,hQ ρ H _ .refl hR (by simp[RD,RI])⟩
 .cases hf
def bn:List D->Hd->Option (D×Hd)
 |[.im (.int i)],hd=>some (.im (.int (if i<0 then -i else i)),hd)
 |_,_=>none
def Hq(ma:ME):MA:=λls hd=>(ma ls hd).bind λp=>(B8 p.2 p.1).map (·,p.2)
def V6{t:TE}{m:ME}(h:RE K t m):RN K (tCB (Fk K) (BM t CI)) (Hq m):=by
 and_intros;obtain⟨⟨d1,h1⟩,e1,hm⟩:=c5 hm;obtain⟨w,e2,e3⟩:=c7 hm;cases e3;refine h ρ σ H hd ls _ d1 _ hR hL e1 λρ1 H1 v x1 R1 r1=>?_;obtain⟨a,xs,rfl,q,rr⟩:=r1.seq R1 e2;refine⟨a,xs,rfl,q,λl hl=>?_⟩;obtain⟨R2,x2⟩:=R1.hid (ho:=.lst xs) hl;exact hQ ρ1 _ l xs (x1.trans R1 x2) R2 (x1.none hR hl R1) (R1.out hl) AJ (rr.ext R1 x2)
def HE(ml:MA):MA:=ml
def SW{t:TE}{m:MA}(h:RN K t m):RN K (tCB (Fk K) (BM t CI)) (HE m):=by
 and_intros;refine h ρ σ H hd ls _ d _ hR hL hm λρ1 H1 a xs x1 R1 na oa ea r1=>?_;refine⟨a,xs,rfl,.inl (SqL.of ea),λl hl=>?_⟩;obtain⟨R2,x2⟩:=R1.hid (ho:=.lst xs) hl;exact hQ ρ1 _ l xs (x1.trans R1 x2) R2 (x1.none hR hl R1) (R1.out hl) AJ (r1.ext R1 x2)
def UU:I->Option V
 |.non=>some .non
 |.bl b=>some (.bl b)
 |.int i=>some (.int i)
 |.str x=>some (.str x)
 |.tup _=>none
def R9:List D->Option (List V)
 |[]=>some []
 |.im i::r=>(UU i).bind λv=>(R9 r).map (v::·)
 |_::_=>none
def mMt(f:D->List D->Hd->Option (D×Hd))(mo:ME)(ma:MA):ME:=λls hd=>(mo ls hd).bind λp=>match BQ p.2 p.1 with
 |some _=>(ma ls p.2).bind λq=>f p.1 q.1 q.2
 |none=>none
def RM(K:PySem.W.Frag)(r:V->List V->Hp->VK->Prop)(f:D->List D->Hd->Option (D×Hd)):Prop:=∀(ρ:List Addr) (H:Hp) (hd:Hd) (d:D) (v:V) (ds:List D) (vs:List V) (Q:VK) (z:D) (hd':Hd),RH K ρ H hd->RD K ρ H d v->RDs K ρ H ds vs->f d ds hd=some (z,hd') ->
 (∀ρ' H' w,Ext ρ H ρ' H'->RH K ρ' H' hd'->RD K ρ' H' z w->Q w H')->r v vs H Q
def aJ{r:V->List V->Hp->VK->Prop}{f:D->List D->Hd->Option (D×Hd)}{to:TE}{t:TA}{mo:ME}{ma:MA}(hr:RM K r f)(ho:RE K to mo)(ha:RA K t ma):RE K (tBM K "list" r to t) (mMt f mo ma):=by
 and_intros;obtain⟨⟨d1,h1⟩,e1,hm⟩:=c5 hm;dsimp only at hm;split at hm
 .next e=>
  obtain⟨⟨d2,h2⟩,e2,hm⟩:=c5 hm;refine ho ρ σ H hd ls _ d1 h1 hR hL e1 λρ1 H1 v x1 R1 r1=>⟨?_,?_⟩
  .obtain⟨a,xs,rfl,q,_⟩:=r1.lst R1 e;exact .inl ⟨rfl,xs,q⟩
  .exact ha ρ1 σ H1 h1 ls _ d2 h2 R1 (hL.ext hR x1) e2 λρ2 H2 vs x2 R2 r2=>hr ρ2 H2 h2 d1 v d2 vs Q d hd' R2 (r1.ext R1 x2) r2 hm λρ' H' w x3 R3 r3=>hQ ρ' H' w ((x1.trans R1 x2).trans R2 x3) R3 r3
 .cases hm
open Classical in
def BK:D->List D->Hd->Option (D×Hd)
 |.mu n,[x],hd=>match hd[n]? with
  |some (.lst ds)=>if GN ds.length then some (.im .non,hd.set n (.lst (ds++[x])))else none
  |_=>none
 |_,_,_=>none
def Q6:RM K Ng BK:=by
 intro ρ H hd d v ds vs Q z hd' hR h1 h2 hf hQ;unfold BK at hf;split at hf
 .split at hf
  .next q=>
   split at hf
   .next c=>
    cases hf;simp only[RD]at h1;obtain⟨a,hn,rfl⟩:=h1;simp only[RDs]at h2;obtain⟨x,r,rfl,rx,rfl⟩:=h2;obtain⟨xs,e1,e2⟩:=hR.lst hn q;obtain⟨R2,x2⟩:=hR.put hn (o:=.lst (_++[_])) (ho:=.lst (xs++[x])) ⟨_,rfl,e2.app (.cons rx .nil)⟩;exact⟨a,xs,x,rfl,rfl,e1,by rw[e2.len];exact c,hQ ρ _ _ x2 R2 (by simp[RD,RI])⟩
   .cases hf
  .cases hf
 .cases hf
end
end L2
namespace L2
open PySem PySem.Spec PyProof.Rows
section
variable{K:PySem.W.Frag}{ρ ρ':List Addr}{H H':Hp}{hd hd':Hd}
def Ac:MS:=λls hd=>some (.nx ls,hd)
def Jo:RS K Hj Ac:=by
 intro ρ σ H hd ls E f hd' hR hL hm hQ;cases hm;exact hQ ρ H .refl hR σ hL
def AE(a b:MS):MS:=λls hd=>(a ls hd).bind λp=>match p.1 with
 |.nx ls1=>b ls1 p.2
 |f=>some (f,p.2)
def Q3{t u:TS}{a b:MS}(ha:RS K t a)(hb:RS K u b):RS K (LX t u) (AE a b):=by
 intro ρ σ H hd ls E f hd' hR hL hm hQ;obtain⟨⟨f1,h1⟩,e1,hm⟩:=c5 hm;refine ha ρ σ H hd ls { E with nx:=u E } f1 h1 hR hL e1 λρ1 H1 x1 R1=>?_;cases f1 with
 |nx ls1=>
  intro σ1 L1;exact hb ρ1 σ1 H1 h1 ls1 E f hd' R1 L1 hm λρ2 H2 x2 R2=>hQ ρ2 H2 (x1.trans R1 x2) R2
 |bk ls1=>cases hm;exact hQ ρ1 H1 x1 R1
 |ct ls1=>cases hm;exact hQ ρ1 H1 x1 R1
 |rt d=>cases hm;exact hQ ρ1 H1 x1 R1
def ZS:MS:=λls hd=>some (.bk ls,hd)
def av:MS:=λls hd=>some (.ct ls,hd)
def BF(m:ME):MS:=λls hd=>(m ls hd).bind λp=>some (.nx ls,p.2)
def V0{t:TE}{m:ME}(h:RE K t m):RS K (OO t) (BF m):=by
 intro ρ σ H hd ls E f hd' hR hL hm hQ;obtain⟨⟨d1,h1⟩,e1,hm⟩:=c5 hm;cases hm;exact h ρ σ H hd ls _ d1 _ hR hL e1 λρ1 H1 v x1 R1 r1=>hQ ρ1 H1 x1 R1 σ (hL.ext hR x1)
def AX(m:ME):MS:=λls hd=>(m ls hd).bind λp=>some (.rt p.1,p.2)
def J9{t:TE}{m:ME}(h:RE K t m):RS K (G7 t) (AX m):=by
 intro ρ σ H hd ls E f hd' hR hL hm hQ;obtain⟨⟨d1,h1⟩,e1,hm⟩:=c5 hm;cases hm;exact h ρ σ H hd ls _ d1 _ hR hL e1 λρ1 H1 v x1 R1 r1=>hQ ρ1 H1 x1 R1 v r1
def aq:MS:=λ_ hd=>some (.rt (.im .non),hd)
def Ak(c:MT)(a b:MS):MS:=λls hd=>(c ls hd).bind λp=>if p.1=true then a ls p.2 else b ls p.2
def U9{tc:TT}{t u:TS}{c:MT}{a b:MS}(hc:RT K tc c)(ha:RS K t a)(hb:RS K u b):RS K (LZ tc t u) (Ak c a b):=by
 intro ρ σ H hd ls E f hd' hR hL hm hQ;obtain⟨⟨d1,h1⟩,e1,hm⟩:=c5 hm;refine hc ρ σ H hd ls _ d1 h1 hR hL e1 λρ1 H1 x1 R1=>?_;cases d1 with
 |true=>
  rw[if_pos rfl]at hm ⊢;exact ha ρ1 σ H1 h1 ls E f hd' R1 (hL.ext hR x1) hm λρ2 H2 x2 R2=>hQ ρ2 H2 (x1.trans R1 x2) R2
 |false=>
  rw[if_neg Bool.false_ne_true]at hm ⊢;exact hb ρ1 σ H1 h1 ls E f hd' R1 (hL.ext hR x1) hm λρ2 H2 x2 R2=>hQ ρ2 H2 (x1.trans R1 x2) R2
def Bq:MS:=λ_ _=>none
def Lm:RS K Iu Bq:=by
 intro ρ σ H hd ls E f hd' hR hL hm hQ;cases hm
abbrev MG:=D->Ls->Hd->Option Ls
abbrev MGs:=List D->Ls->Hd->Option Ls
def RGt(K:PySem.W.Frag)(t:TG)(m:MG):Prop:=∀(ρ:List Addr) (σ:St) (H:Hp) (hd:Hd) (ls ls':Ls) (d:D) (v:V) (Q:St->Hp->Prop),RH K ρ H hd->RL K ρ H ls σ->RD K ρ H d v->m d ls hd=some ls' ->
 (∀σ',RL K ρ H ls' σ'->Q σ' H)->t v σ H Q
def My(K:PySem.W.Frag)(t:TGs)(m:MGs):Prop:=∀(ρ:List Addr) (σ:St) (H:Hp) (hd:Hd) (ls ls':Ls) (d:List D) (v:List V) (Q:St->Hp->Prop),RH K ρ H hd->RL K ρ H ls σ->RDs K ρ H d v->m d ls hd=some ls' ->
 (∀σ',RL K ρ H ls' σ'->Q σ' H)->t v σ H Q
def RL.set{ls:Ls}{σ:St}{d:D}{v:V}(h:RL K ρ H ls σ)(i:Nat)(r:RD K ρ H d v):RL K ρ H (ls.set i (some d)) (σ.set i (some v)):=by
 refine⟨by simp[h.len],λj e q=>?_⟩;by_cases hij:i=j
 .subst hij;have hl:i<ls.length:=by
   have:=(List.getElem?_eq_some_iff.mp q).1;simpa using this
  rw[List.getElem?_set_self hl]at q;cases q;exact⟨v,by rw[List.getElem?_set_self (by rw[<- h.len];exact hl)],r⟩
 .rw[List.getElem?_set_ne hij]at q;obtain⟨w,e1,e2⟩:=h.ob j e q;exact⟨w,by rw[List.getElem?_set_ne hij];exact e1,e2⟩
def AG(i:Nat):MG:=λd ls _=>some (ls.set i (some d))
def Jq{i:Nat}:RGt K (EE i) (AG i):=by
 intro ρ σ H hd ls ls' d v Q hR hL hd hm hQ;cases hm;exact hQ _ (hL.set i hd)
def BY:MGs:=λds ls _=>match ds with
 |[]=>some ls
 |_=>none
def AR(m:MG)(r:MGs):MGs:=λds ls hd=>match ds with
 |d::es=>(m d ls hd).bind λls1=>r es ls1 hd
 |[]=>none
def VB:My K Ti BY:=by
 intro ρ σ H hd ls ls' d v Q hR hL hd hm hQ;cases d with
 |nil=>
  simp only[RDs]at hd;subst hd;cases hm;exact⟨rfl,hQ _ hL⟩
 |cons a b=>cases hm
def SZ{t:TG}{u:TGs}{m:MG}{r:MGs}(h:RGt K t m)(h':My K u r):My K (PM t u) (AR m r):=by
 intro ρ σ H hd ls ls' d v Q hR hL hd hm hQ;cases d with
 |nil=>cases hm
 |cons a b=>
  simp only[RDs]at hd;obtain⟨x,y,rfl,h1,h2⟩:=hd;obtain⟨ls1,e1,e2⟩:=c5 hm;exact⟨x,y,rfl,h ρ σ H _ ls ls1 a x _ hR hL h1 e1 λσ1 L1=>h' ρ σ1 H _ ls1 ls' b y Q hR L1 h2 e2 hQ⟩
def BX(n:Nat)(r:MGs):MG:=λd ls hd=>(Af d).bind λds=>if ds.length=n then r ds ls hd else none
def Xu{n:Nat}{u:TGs}{r:MGs}(h':My K u r):RGt K (PL K n u) (BX n r):=by
 intro ρ σ H hd ls ls' d v Q hR hL hd hm hQ;obtain⟨ds,e1,hm⟩:=c5 hm;split at hm
 .next c=>
  obtain⟨a,xs,rfl,q,rr⟩:=hd.tup e1;exact⟨a,xs,rfl,q,by rw[rr.len];exact c,h' ρ σ H _ ls ls' ds xs Q hR hL rr hm hQ⟩
 .cases hm
def GG(m:ME)(g:MG):MS:=λls hd=>(m ls hd).bind λp=>(g p.1 ls p.2).map λls'=>(.nx ls',p.2)
def Ln{t:TE}{m:ME}{g:TG}{n:MG}(h:RE K t m)(hg:RGt K g n):RS K (F3 t g) (GG m n):=by
 intro ρ σ H hd ls E f hd' hR hL hm hQ;obtain⟨⟨d1,h1⟩,e1,hm⟩:=c5 hm;obtain⟨ls',e2,e3⟩:=c7 hm;cases e3;exact h ρ σ H hd ls _ d1 _ hR hL e1 λρ1 H1 v x1 R1 r1=>hg ρ1 σ H1 _ ls ls' d1 v _ R1 (hL.ext hR x1) r1 e2 λσ' L'=>hQ ρ1 H1 x1 R1 σ' L'
abbrev AT(i:Nat)(m:ME):MS:=GG m (AG i)
def P2(ix:List Nat)(ma:MA):MS:=λls hd=>(ma ls hd).bind λp=>if p.1.length=ix.length then some (.nx ((ix.zip p.1).foldl (λl q=>l.set q.1 (some q.2)) ls),p.2)else none
def ar(i j k:Nat)(ma:MA):MS:=P2 [k,j,i] (λls hd=>(ma ls hd).map λp=>(p.1.reverse,p.2))
abbrev Gd:=List (Nat×List D)
abbrev MI:=Ls->Hd->Option ((List D×Gd)×Hd)
def GOk(hd:Hd)(g:Gd):Prop:=∀p∈g,hd[p.1]?=some (.lst p.2)
@[simp] theorem Aa(hd:Hd):GOk hd []:=λp h=>by cases h
def Mw(K:PySem.W.Frag)(ρ:List Addr)(H:Hp)(J:It)(ds:List D)(g:Gd):Prop:=∀(ρ2:List Addr) (H2:Hp) (hd2:Hd),Ext ρ H ρ2 H2->RH K ρ2 H2 hd2->GOk hd2 g ->
 ∀i:Nat,(i<ds.length->J.go i H2/\∀x H3,J.yld i H2 x H3->∃ρ3 d,Ext ρ2 H2 ρ3 H3/\ρ3=ρ2/\RH K ρ3 H3 hd2/\ds[i]?=some d/\RD K ρ3 H3 d x)/\(i=ds.length->J.stop i H2)
def RIt(K:PySem.W.Frag)(t:TI)(m:MI):Prop:=∀(ρ:List Addr) (σ:St) (H:Hp) (hd:Hd) (ls:Ls) (Q:It->Hp->Prop) (d:List D) (g:Gd) (hd':Hd),RH K ρ H hd->RL K ρ H ls σ->m ls hd=some ((d,g),hd') ->
 (∀ρ' H' J,Ext ρ H ρ' H'->RH K ρ' H' hd'->GOk hd' g->Mw K ρ' H' J d g->Q J H')->t σ H Q
def OC{a:Addr}{xs:List V}{ds:List D}(hR:RH K ρ H hd)(q:SqT K H a xs)(r:RDs K ρ H ds xs)(g:Gd):Mw K ρ H (Itt K a) ds g:=by
 intro ρ2 H2 hd2 x2 R2 _ i;have q2:=(x2.grow hR).sq q;have r2:=r.ext hR x2;have uniq:∀ys,SqT K H2 a ys->True:=λ_ _=>trivial;refine⟨λhi=>?_,λhi=>⟨xs,q2,by rw[r2.len,hi];exact le_refl _⟩⟩;have e:ds[i]?=some ds[i]:=by simp[hi]
 obtain⟨x,x1,x3⟩:=r2.get e;refine⟨⟨xs,x,q2,x1⟩,λy H3 ⟨e3,hy⟩=>?_⟩;subst e3;have:=hy xs q2;rw[x1]at this;cases this;exact⟨ρ2,_,.refl,rfl,R2,e,x3⟩
def BB(m:ME):MI:=λls hd=>(m ls hd).bind λp=>(Af p.1).map λds=>((ds,[]),p.2)
def Xp{t:TE}{m:ME}(h:RE K t m):RIt K (P9 K t) (BB m):=by
 intro ρ σ H hd ls Q d g hd' hR hL hm hQ;obtain⟨⟨d1,h1⟩,e1,hm⟩:=c5 hm;obtain⟨ds,e2,e3⟩:=c7 hm;cases e3;refine h ρ σ H hd ls _ d1 _ hR hL e1 λρ1 H1 v x1 R1 r1=>?_;obtain⟨a,xs,rfl,q,r⟩:=r1.tup e2;exact⟨a,rfl,⟨xs,q⟩,hQ ρ1 H1 _ x1 R1 (Aa _) (OC R1 q r [])⟩
def CW(m:ME):MI:=λls hd=>(m ls hd).bind λp=>match p.1 with
 |.mu n=>match p.2[n]? with
  |some (.lst ds)=>some ((ds,[(n,ds)]),p.2)
  |_=>none
 |.ro ns=>some ((ns.map λn=>.im (.int n),[]),p.2)
 |_=>none
def V9{t:TE}{m:ME}(h:RE K t m):RIt K (Hu K t) (CW m):=by
 intro ρ σ H hd ls Q d g hd' hR hL hm hQ;obtain⟨⟨d1,h1⟩,e1,hm⟩:=c5 hm;dsimp only at hm;split at hm
 .next n=>
  split at hm
  .next ds q=>
   cases hm;refine h ρ σ H hd ls _ _ _ hR hL e1 λρ1 H1 v x1 R1 r1=>?_;simp only[RD]at r1;obtain⟨a,hn,rfl⟩:=r1;obtain⟨xs,e2,e3⟩:=R1.lst hn q;refine⟨a,rfl,⟨xs,SqL.of e2⟩,hQ ρ1 H1 _ x1 R1 (λp z=>by simp at z;subst z;exact q) ?_⟩;intro ρ2 H2 hd2 x2 R2 G2 i;have q2:=G2 (n,d) (by simp);have hn2:ρ2[n]?=some a:=by
    obtain⟨r,rfl,_⟩:=x2.pre;rw[List.getElem?_append_left (List.getElem?_eq_some_iff.mp hn).1];exact hn
   obtain⟨ys,e4,e5⟩:=R2.lst hn2 q2;refine⟨λhi=>?_,λhi=>⟨ys,SqL.of e4,by rw[e5.len,hi];exact le_refl _⟩⟩;have e:d[i]?=some d[i]:=by simp[hi]
   obtain⟨x,y1,y2⟩:=e5.get e;refine⟨⟨ys,x,SqL.of e4,y1⟩,λy H3 ⟨e6,hy⟩=>?_⟩;subst e6;have:=hy ys (SqL.of e4);rw[y1]at this;cases this;exact⟨ρ2,_,.refl,rfl,R2,e,y2⟩
  .cases hm
 .next ns=>
  cases hm;refine h ρ σ H hd ls _ _ _ hR hL e1 λρ1 H1 v x1 R1 r1=>?_;simp only[RD]at r1;obtain⟨a,rfl,q⟩:=r1;refine⟨a,rfl,⟨_,q.sq⟩,hQ ρ1 H1 _ x1 R1 (Aa _) ?_⟩;intro ρ2 H2 hd2 x2 R2 G2 i;have q2:=(q.grow (x2.grow R1)).sq;have e5:RDs K ρ2 H2 (ns.map λn=>.im (.int n)) (ns.map V.int):=Fu;refine⟨λhi=>?_,λhi=>⟨_,q2,by rw[e5.len,hi];exact le_refl _⟩⟩;have e:(ns.map λn=>D.im (.int n))[i]?=some ((ns.map λn=>D.im (.int n))[i]):=by simp[hi]
  obtain⟨x,y1,y2⟩:=e5.get e;refine⟨⟨_,x,q2,y1⟩,λy H3 ⟨e6,hy⟩=>?_⟩;subst e6;have:=hy _ q2;rw[y1]at this;cases this;exact⟨ρ2,_,.refl,rfl,R2,e,y2⟩
 .cases hm
def Eb(ml:MA):MI:=λls hd=>(ml ls hd).map λp=>((p.1,[]),p.2)
def Xq{t:TE}{m:MA}(h:RN K t m):RIt K (Hu K t) (Eb m):=by
 intro ρ σ H hd ls Q d g hd' hR hL hm hQ;obtain⟨⟨d1,h1⟩,e1,e3⟩:=c7 hm;obtain⟨⟨rfl,rfl⟩,rfl⟩:=Prod.mk.inj e3 |>.imp Prod.mk.inj id;clear e3 hm;refine h ρ σ H hd ls _ _ _ hR hL e1 λρ1 H1 a xs x1 R1 na oa ea r1=>?_;refine⟨a,rfl,⟨xs,SqL.of ea⟩,hQ ρ1 H1 _ x1 R1 (Aa _) ?_⟩;intro ρ2 H2 hd2 x2 R2 G2 i;have q2:SqL K H2 a xs:=SqL.of (x2.keep a _ ea oa nt);have r2:=r1.ext R1 x2;refine⟨λhi=>?_,λhi=>⟨xs,q2,by rw[r2.len,hi];exact le_refl _⟩⟩;have hi:i<d1.length:=hi;have e:d1[i]?=some d1[i]:=by simp[hi]
 obtain⟨x,y1,y2⟩:=r2.get e;refine⟨⟨xs,x,q2,y1⟩,λy H3 ⟨e6,hy⟩=>?_⟩;subst e6;have:=hy xs q2;rw[y1]at this;cases this;exact⟨ρ2,_,.refl,rfl,R2,e,y2⟩
def Au(lo:Int):Nat->List D
 |0=>[]
 |n+1=>.im (.int lo)::Au (lo+1) n
@[simp] theorem El(lo:Int)(n:Nat):(Au lo n).length=n:=by
 induction n generalizing lo with
 |zero=>rfl
 |succ n ih=>simp[Au,ih]
def JD{n:Nat}:∀{lo:Int} {i:Nat},i<n->(Au lo n)[i]?=some (.im (.int (lo+i))):=by
 induction n with
 |zero=>intro lo i h;omega
 |succ n ih=>
  intro lo i h;cases i with
  |zero=>simp[Au]
  |succ i=>
   simp only[Au,List.getElem?_cons_succ];rw[ih (by omega)]
   congr 3
   push_cast
   omega
def Ii{lo:Int}{n:Nat}{g:Gd}:Mw K ρ H (Itr lo n) (Au lo n) g:=by
 intro ρ2 H2 hd2 x2 R2 G2 i;refine⟨λhi=>?_,λhi=>by rw[hi,El];exact le_refl _⟩;rw[El]at hi;refine⟨hi,λx H3 ⟨e1,e2⟩=>?_⟩;subst e1 e2;exact⟨ρ2,_,.refl,rfl,R2,JD hi,by simp[RD,RI]⟩
open Classical in
def EZ(m:MA):MI:=λls hd=>(m ls hd).bind λp=>match p.1 with
 |[.im (.int j)]=>if Jp j then some ((Au 0 j.toNat,[]),p.2)else none
 |_=>none
def V8{t:TA}{m:MA}(h:RA K t m):RIt K (PD t) (EZ m):=by
 intro ρ σ H hd ls Q d g hd' hR hL hm hQ;obtain⟨⟨d1,h1⟩,e1,hm⟩:=c5 hm;dsimp only at hm;split at hm
 .next j=>
  split at hm
  .next c=>
   cases hm;refine h ρ σ H hd ls _ _ _ hR hL e1 λρ1 H1 v x1 R1 r1=>?_;simp only[RDs,RD,RI]at r1;obtain⟨x,r,rfl,rfl,rfl⟩:=r1;exact⟨j,rfl,c.1,c.2,hQ ρ1 H1 _ x1 R1 (Aa _) Ii⟩
  .cases hm
 .cases hm
open Classical in
def Hr(m:MA):MI:=λls hd=>(m ls hd).bind λp=>match p.1 with
 |[.im (.int i),.im (.int j)]=>if Ob i j then some ((Au i (j-i).toNat,[]),p.2)else none
 |_=>none
def V7{t:TA}{m:MA}(h:RA K t m):RIt K (PB t) (Hr m):=by
 intro ρ σ H hd ls Q d g hd' hR hL hm hQ;obtain⟨⟨d1,h1⟩,e1,hm⟩:=c5 hm;dsimp only at hm;split at hm
 .next i j=>
  split at hm
  .next c=>
   cases hm;refine h ρ σ H hd ls _ _ _ hR hL e1 λρ1 H1 v x1 R1 r1=>?_;simp only[RDs,RD,RI]at r1;obtain⟨x,r,rfl,rfl,y,r2,rfl,rfl,rfl⟩:=r1;exact⟨i,j,rfl,⟨c.1.1,c.1.2,c.2.1,c.2.2⟩,hQ ρ1 H1 _ x1 R1 (Aa _) Ii⟩
  .cases hm
 .cases hm
open Classical in
def Az(n:MG)(b:MS)(g:Gd):List D->Ls->Hd->Option (Fl×Hd)
 |[],ls,hd=>some (.nx ls,hd)
 |d::r,ls,hd=>(n d ls hd).bind λls1=>(b ls1 hd).bind λp=>match p.1 with
  |.nx ls2=>if GOk p.2 g then Az n b g r ls2 p.2 else none
  |.ct ls2=>if GOk p.2 g then Az n b g r ls2 p.2 else none
  |.bk ls2=>some (.nx ls2,p.2)
  |.rt d=>some (.rt d,p.2)
def BN(mi:MI)(n:MG)(b:MS):MS:=λls hd=>(mi ls hd).bind λp=>Az n b p.1.2 p.1.1 ls p.2
def Q5{wi:TI}{g:TG}{tb:TS}{mi:MI}{n:MG}{b:MS}(hi:RIt K wi mi)(hg:RGt K g n)(hb:RS K tb b):RS K (La wi g tb) (BN mi n b):=by
 intro ρ σ H hd ls E f hd' hR hL hm hQ;obtain⟨⟨⟨ds,gd⟩,h1⟩,e1,hm⟩:=c5 hm;refine hi ρ σ H hd ls _ ds gd h1 hR hL e1 λρ1 H1 J x1 R1 G1 Y=>?_;dsimp only at hm;refine⟨λi m σ2 H2=>m=ds.length-i/\i<=ds.length/\∃ρ2 ls2 hd2,Ext ρ1 H1 ρ2 H2/\RH K ρ2 H2 hd2/\RL K ρ2 H2 ls2 σ2/\GOk hd2 gd/\Az n b gd (ds.drop i) ls2 hd2=some (f,hd'),
  ⟨ds.length,by simp,zero_le _,ρ1,ls,h1,.refl,R1,hL.ext hR x1,G1,by simpa using hm⟩,?_⟩
 rintro i m σ2 H2 ⟨rfl,hi,ρ2,ls2,hd2,x2,R2,L2',G2,hm2⟩;obtain⟨Y1,Y2⟩:=Y ρ2 H2 hd2 x2 R2 G2 i;by_cases hlt:i<ds.length
 .obtain⟨go,Y1⟩:=Y1 hlt;have ed:ds.drop i=ds[i]::ds.drop (i+1):=List.drop_eq_getElem_cons hlt;rw[ed]at hm2;unfold Az at hm2;obtain⟨ls3,e3,hm2⟩:=c5 hm2;obtain⟨⟨fl,hd4⟩,e4,hm2⟩:=c5 hm2;refine .inr ⟨go,λσ' H'=>∃ρ2 ls2 hd2,Ext ρ1 H1 ρ2 H'/\RH K ρ2 H' hd2/\RL K ρ2 H' ls2 σ'/\GOk hd2 gd/\Az n b gd (ds.drop (i+1)) ls2 hd2=some (f,hd'),λσ' H' z=>⟨ds.length-(i+1),by omega,rfl,hlt,z⟩,λx H3 y=>?_⟩;obtain⟨ρ3,d3,x3,rfl,R3,e5,r3⟩:=Y1 x H3 y;have e6:d3=ds[i]:=by
   have:ds[i]?=some ds[i]:=by simp[hlt]
   rw[this]at e5;exact(Option.some.inj e5).symm
  subst e6;refine hg ρ3 σ2 H3 hd2 ls2 ls3 _ x _ R3 (L2'.ext R2 x3) r3 e3 λσ4 L4=>?_;refine hb ρ3 σ4 H3 hd2 ls3 _ fl hd4 R3 L4 e4 λρ5 H5 x5 R5=>?_;have x15:=(x2.trans R2 x3).trans R3 x5;cases fl with
  |nx ls5=>
   intro σ5 L5;dsimp only at hm2;split at hm2
   .next c=>exact⟨ρ5,ls5,hd4,x15,R5,L5,c,hm2⟩
   .cases hm2
  |ct ls5=>
   intro σ5 L5;dsimp only at hm2;split at hm2
   .next c=>exact⟨ρ5,ls5,hd4,x15,R5,L5,c,hm2⟩
   .cases hm2
  |bk ls5=>
   intro σ5 L5;cases hm2;exact hQ ρ5 H5 (x1.trans R1 x15) R5 σ5 L5
  |rt d5=>
   intro v5 r5;cases hm2;exact hQ ρ5 H5 (x1.trans R1 x15) R5 v5 r5
 .have e:i=ds.length:=by omega
  subst e;rw[List.drop_length]at hm2;unfold Az at hm2;cases hm2;exact .inl ⟨Y2 rfl,hQ ρ2 H2 (x1.trans R1 x2) R2 σ2 L2'⟩
open Classical in
def B4(n:MG)(c:MT)(m:ME)(g:Gd):List D->Ls->Hd->Option (List D×Hd)
 |[],_,hd=>some ([],hd)
 |d::r,ls,hd=>(n d ls hd).bind λls1=>(c ls1 hd).bind λp=>if p.1=true then(m ls1 p.2).bind λq=>if GOk q.2 g then(B4 n c m g r ls1 q.2).map λz=>(q.1::z.1,z.2)else none else if GOk p.2 g then B4 n c m g r ls1 p.2 else none
def FU(k:Nat)(ix:List Nat)(ls:Ls):Ls:=List.replicate k none++ix.map λi=>(ls[i]?).join
open Classical in
def Aw(k:Nat)(ix:List Nat)(mi:MI)(n:MG)(c:MT)(m:ME):MA:=λls hd=>(mi ls hd).bind λp=>if C9 p.1.1.length then B4 n c m p.1.2 p.1.1 (FU k ix ls) p.2 else none
def X8{k:Nat}{ix:List Nat}{ls:Ls}{σ:St}(h:RL K ρ H ls σ):RL K ρ H (FU k ix ls) (HZ k ix σ):=by
 refine⟨by simp[FU,HZ],λi d e=>?_⟩;unfold FU at e;unfold HZ;by_cases hi:i<k
 .rw[List.getElem?_append_left (by simpa using hi),List.getElem?_replicate]at e;split at e<;>cases e
 .have hi':k<=i:=not_lt.mp hi;rw[List.getElem?_append_right (by simpa using hi'),length_replicate,List.getElem?_map]at e ⊢;cases q:ix[i-k]? with
  |none=>rw[q]at e;cases e
  |some j=>
   rw[q]at e;simp only[map_some,Option.some.injEq]at e ⊢;have e5:ls[j]?=some (some d):=by
    cases w:ls[j]? with
    |none=>rw[w]at e;cases e
    |some z=>rw[w]at e;simpa using e
   obtain⟨v,e6,e7⟩:=h.ob j d e5;exact⟨v,by rw[e6];rfl,e7⟩
def NY{k:Nat}{ix:List Nat}{wi:TI}{g:TG}{tf:TT}{te:TE}{mi:MI}{n:MG}{c:MT}{m:ME}(hi:RIt K wi mi)(hg:RGt K g n)(hf:RT K tf c)(he:RE K te m):RN K (G8 k ix wi g tf te) (Aw k ix mi n c m):=by
 intro ρ σ H hd ls Q out hd' hR hL hm hQ;obtain⟨⟨⟨ds,gd⟩,h1⟩,e1,hm⟩:=c5 hm;dsimp only at hm;split at hm
 .next hlen=>
  have hlen:ds.length<=sizeLine:=hlen;refine hi ρ σ H hd ls _ ds gd h1 hR hL e1 λρ1 H1 J x1 R1 G1 Y=>?_;intro Da hDa;obtain⟨R1',x1'⟩:=R1.hid (ho:=.lst []) hDa;have oD:Da∉ρ1:=R1.out hDa;have nD:H Da=none:=x1.none hR hDa R1;refine⟨λi mm σ2 ys H2=>mm=ds.length-i/\i<=ds.length/\∃ρ2 ls2 hd2 es rest,Ext ρ1 (upd H1 Da (.lst ys)) ρ2 H2/\Ext ρ1 H1 ρ2 H2/\Da∉ρ2/\H2 Da=some (.lst ys)/\RH K ρ2 H2 hd2/\RL K ρ2 H2 ls2 σ2/\RDs K ρ2 H2 es ys/\es.length<=i/\GOk hd2 gd/\B4 n c m gd (ds.drop i) ls2 hd2=some (rest,hd')/\out=es++rest,
   ⟨ds.length,by simp,zero_le _,ρ1,_,h1,[],out,.refl,x1',oD,AJ,R1',(X8 ((hL.ext hR x1).ext R1 x1')),.nil,le_refl _,G1,by simpa using hm,rfl⟩,?_⟩
  rintro i mm σ2 ys H2 ⟨rfl,hi,ρ2,ls2,hd2,es,rest,x2',x2,oD2,hD2,R2,L2',r2,hle,G2,hm2,rfl⟩;refine⟨hD2,?_⟩;obtain⟨Y1,Y2⟩:=Y ρ2 H2 hd2 x2 R2 G2 i;by_cases hlt:i<ds.length
  .obtain⟨go,Y1⟩:=Y1 hlt;have ed:ds.drop i=ds[i]::ds.drop (i+1):=List.drop_eq_getElem_cons hlt;rw[ed]at hm2;unfold B4 at hm2;obtain⟨ls3,e3,hm2⟩:=c5 hm2;obtain⟨⟨bb,hd4⟩,e4,hm2⟩:=c5 hm2;refine .inr ⟨go,Nat.lt_of_le_of_lt (by rw[r2.len];exact hle) (by omega),λσ' ys' H'=>∃ρ2 ls2 hd2 es' rest',Ext ρ1 (upd H1 Da (.lst ys')) ρ2 H'/\Ext ρ1 H1 ρ2 H'/\Da∉ρ2/\H' Da=some (.lst ys')/\RH K ρ2 H' hd2/\RL K ρ2 H' ls2 σ'/\RDs K ρ2 H' es' ys'/\es'.length<=i+1/\GOk hd2 gd/\B4 n c m gd (ds.drop (i+1)) ls2 hd2=some (rest',hd')/\es++rest=es'++rest',λσ' ys' H' z=>⟨ds.length-(i+1),by omega,rfl,hlt,z⟩,λx H3 y=>?_⟩;obtain⟨ρ3,d3,x3,rfl,R3,e5,r3⟩:=Y1 x H3 y;have e6:d3=ds[i]:=by
    have:ds[i]?=some ds[i]:=by simp[hlt]
    rw[this]at e5;exact(Option.some.inj e5).symm
   subst e6;refine hg ρ3 σ2 H3 hd2 ls2 ls3 _ x _ R3 (L2'.ext R2 x3) r3 e3 λσ4 L4=>?_;refine hf ρ3 σ4 H3 hd2 ls3 _ bb hd4 R3 L4 e4 λρ5 H5 x5 R5=>?_;have hD5:H5 Da=some (.lst ys):=x5.keep Da _ (x3.keep Da _ hD2 oD2 nt) oD2 nt;have out5:Da∉ρ5:=by
    obtain⟨r,rfl,fr⟩:=x5.pre;intro z;rcases mem_append.mp z with z|z
    .exact oD2 z
    .have:=fr _ z;rw[x3.keep Da _ hD2 oD2 nt]at this;cases this
   cases bb with
   |false=>
    rw[if_neg Bool.false_ne_true]at hm2 ⊢;have y25:=x3.trans R3 x5;split at hm2
    .next g5=>exact⟨ρ5,ls3,hd4,es,rest,x2'.trans R2 y25,(x2.trans R2 y25),out5,hD5,R5,L4.ext R3 x5,(r2.ext R2 y25),by omega,g5,hm2,rfl⟩
    .cases hm2
   |true=>
    rw[if_pos rfl]at hm2 ⊢;obtain⟨⟨z,hd6⟩,e6,hm2⟩:=c5 hm2;obtain⟨g6,hm2⟩:GOk hd6 gd/\((B4 n c m gd (ds.drop (i+1)) ls3 hd6).map λq=>(z::q.1,q.2))=some (rest,hd'):=by
     dsimp only at hm2;split at hm2
     .next g6=>exact⟨g6,hm2⟩
     .cases hm2
    obtain⟨⟨zs,hd7⟩,e7,e8⟩:=c7 hm2;cases e8;refine he ρ5 σ4 H5 hd4 ls3 _ z hd6 R5 (L4.ext R3 x5) e6 λρ6 H6 v6 x6 R6 r6=>?_;have hD6:H6 Da=some (.lst ys):=x6.keep Da _ hD5 out5 nt;have out6:Da∉ρ6:=by
     obtain⟨r,rfl,fr⟩:=x6.pre;intro z;rcases mem_append.mp z with z|z
     .exact out5 z
     .have:=fr _ z;rw[hD5]at this;cases this
    refine⟨hD6,?_⟩;have y26:=(x3.trans R3 x5).trans R5 x6;have gr:Grow H6 (upd H6 Da (.lst (ys++[v6]))):=Grow.refl.put (.lst hD6);have R7:=R6.hput (ho:=.lst (ys++[v6])) out6 hD6;have x12:=x2.trans R2 y26;have ext7:Ext ρ1 H1 ρ6 (upd H6 Da (.lst (ys++[v6]))):=⟨x12.pre,λb o q nb t=>by
     have:b≠Da:=AY q hDa;rw[AC this];exact x12.keep b o q nb t,λb ps q=>by
     have:b≠Da:=AY q hDa;rw[AC this];exact x12.tab b ps q⟩
    have ext8:Ext ρ1 (upd H1 Da (.lst (ys++[v6]))) ρ6 (upd H6 Da (.lst (ys++[v6]))):=by
     obtain⟨r,er,fr⟩:=x12.pre;refine⟨⟨r,er,λb hb=>?_⟩,λb o q nb t=>?_,λb ps q=>?_⟩
     .have:b≠Da:=λz=>out6 (by rw[er,<- z];exact mem_append_right _ hb);rw[AC this];exact fr b hb
     .by_cases hb:b=Da
      .subst hb;rw[AJ]at q ⊢;exact q
      .rw[AC hb]at q ⊢;exact x12.keep b o q nb t
     .by_cases hb:b=Da
      .subst hb;rw[AJ]at q;cases q
      .rw[AC hb]at q ⊢;exact x12.tab b ps q
    refine⟨ρ6,ls3,hd6,es++[z],zs,ext8,ext7,out6,AJ,R7,?_,?_,by simp;omega,g6,e7,by simp⟩
    .have L6:=(L4.ext R3 x5).ext R5 x6;exact⟨L6.len,λi d e=>let ⟨v,a,b⟩:=L6.ob i d e;⟨v,a,by simpa using b.mono gr []⟩⟩
    .have:=((r2.ext R2 y26).app (.cons r6 .nil)).mono gr [];simpa using this
  .have e:i=ds.length:=by omega
   subst e;rw[List.drop_length]at hm2;unfold B4 at hm2;cases hm2;refine .inl ⟨Y2 rfl,?_⟩;exact hQ ρ2 H2 Da ys (x1.trans R1 x2) R2 nD oD2 hD2 (by simpa using r2)
 .cases hm
end
mutual
def clD(w:Nat):D->Bool
 |.im _=>true
 |.mu n=>decide (n<w)
 |.tm ds=>Av w ds
 |.ro _=>true
 |.op _ _ ds=>Av w ds
def Av(w:Nat):List D->Bool
 |[]=>true
 |d::ds=>clD w d&&Av w ds
end
def Fd(w:Nat):List (Key×D)->Bool
 |[]=>true
 |d::ds=>clD w d.2&&Fd w ds
def clO(w:Nat):MO->Bool
 |.lst ds=>Av w ds
 |.dic ds=>Fd w ds
section
variable{K:PySem.W.Frag}{ρ ρ' ρ1:List Addr}{H H' H1:Hp}{hd hd' h1 h2:Hd}
mutual
def RD.take(w:Nat):∀{d:D} {v:V},RD K ρ H d v->clD w d=true->RD K (ρ.take w) H d v
 |.im i,v,h,_=>by simp only[RD]at h ⊢;exact h
 |.mu n,v,h,c=>by
  simp only[RD]at h ⊢;obtain⟨a,e,q⟩:=h;exact⟨a,by rw[List.getElem?_take_of_lt (by simpa [clD]using c)];exact e,q⟩
 |.tm ds,v,h,c=>by
  simp only[RD]at h ⊢;obtain⟨a,xs,e,q,z⟩:=h;exact⟨a,xs,e,q,RDs.take' w z (by simpa [clD]using c)⟩
 |.ro ns,v,h,c=>by simp only[RD]at h ⊢;exact h
 |.op nm fs ds,v,h,c=>by
  simp only[RD]at h ⊢;obtain⟨a,xs,e,q,z⟩:=h;exact⟨a,xs,e,q,RDs.take' w z (by simpa [clD]using c)⟩
def RDs.take'(w:Nat):∀{d:List D} {v:List V},RDs K ρ H d v->Av w d=true->RDs K (ρ.take w) H d v
 |[],v,h,_=>by simpa only[RDs]using h
 |d::ds,v,h,c=>by
  simp only[RDs]at h ⊢;obtain⟨x,r',e,q,z⟩:=h;have c:clD w d=true/\Av w ds=true:=by simpa [Av]using c
  exact⟨x,r',e,q.take w c.1,RDs.take' w z c.2⟩
end
def RKs.take(w:Nat):∀{d:List (Key×D)} {v:List (Key×V)},RKs K ρ H d v->Fd w d=true->RKs K (ρ.take w) H d v
 |[],v,h,_=>by simpa only[RKs]using h
 |d::ds,v,h,c=>by
  simp only[RKs]at h ⊢;obtain⟨x,r',e,q1,q,z⟩:=h;have c:clD w d.2=true/\Fd w ds=true:=by simpa [Fd]using c
  exact⟨x,r',e,q1,q.take w c.1,RKs.take w z c.2⟩
def RC.take(w:Nat){o:MO}{ho:HO}(h:RC K ρ H o ho)(c:clO w o=true):RC K (ρ.take w) H o ho:=by
 cases o with
 |lst ds=>obtain⟨xs,e,q⟩:=h;exact⟨xs,e,q.take' w c⟩
 |dic ds=>obtain⟨xs,e,q⟩:=h;exact⟨xs,e,q.take w c⟩
def RH.take(h:RH K ρ H hd)(w:Nat)(c:(hd.take w).all (clO w)=true):RH K (ρ.take w) H (hd.take w):=by
 refine⟨by simp[h.len],h.nd.sublist (List.take_sublist _ _),h.tabs,λn o a e1 e2=>?_⟩;have co:=all_eq_true.mp c o (mem_of_getElem? e1);have hn:n<w:=by
  have:=(List.getElem?_eq_some_iff.mp e1).1;simp at this;omega
 rw[List.getElem?_take_of_lt hn]at e1 e2;obtain⟨ho,q1,q2⟩:=h.ob n o a e1 e2;exact⟨ho,q1,q2.take w co⟩
def RH.back(R1:RH K ρ1 H1 h1){w:Nat}(hw:w<=h1.length)(c1:(h1.take w).all (clO w)=true)(x:Ext (ρ1.take w) H1 ρ' H')(R':RH K ρ' H' h2)(c:(h2.take w).all (clO w)=true):
 RH K ρ1 H' (h2.take w++h1.drop w)/\Ext ρ1 H1 ρ1 H'/\ρ'.take w=ρ1.take w:=by
 obtain⟨r,rfl,fr⟩:=x.pre;have lw:(ρ1.take w).length=w:=by rw[length_take,R1.len];omega
 have l2:w<=h2.length:=by rw[<- R'.len];simp[lw]
 have tk:(ρ1.take w++r).take w=ρ1.take w:=by rw[List.take_append_of_le_length (by omega),List.take_take];simp
 refine⟨⟨?_,R1.nd,R'.tabs,λn o a e1 e2=>?_⟩,⟨⟨[],by simp,by simp⟩,λb o q nb t=>x.keep b o q (λm=>nb (List.mem_of_mem_take m)) t,x.tab⟩,tk⟩
 .rw[length_append,length_take,length_drop,R1.len];omega
 .by_cases hn:n<w
  .rw[List.getElem?_append_left (by rw[length_take];omega),List.getElem?_take_of_lt hn]at e1;have e3:(ρ1.take w++r)[n]?=some a:=by
    rw[List.getElem?_append_left (by omega),List.getElem?_take_of_lt hn];exact e2
   obtain⟨ho,q1,q2⟩:=R'.ob n o a e1 e3;have co:=all_eq_true.mp c o (by
    have:(h2.take w)[n]?=some o:=by rw[List.getElem?_take_of_lt hn];exact e1
    exact mem_of_getElem? this)
   have q3:=q2.take w co;rw[tk]at q3;have q4:=q3.mono (Grow.refl (H:=H')) (ρ1.drop w);rw[List.take_append_drop]at q4;exact⟨ho,q1,q4⟩
  .rw[List.getElem?_append_right (by rw[length_take];omega),length_take,List.getElem?_drop]at e1;have e1:h1[n]?=some o:=by
    have:w+(n-min w h2.length)=n:=by omega
    rw[this]at e1;exact e1
   obtain⟨ho,q1,q2⟩:=R1.ob n o a e1 e2;have out:a∉ρ1.take w:=λm=>by
    obtain⟨k,hk⟩:=mem_iff_getElem?.mp m;have kw:k<w:=by
     have:=(List.getElem?_eq_some_iff.mp hk).1;rw[lw]at this;exact this
    rw[List.getElem?_take_of_lt kw]at hk;have:=(List.getElem?_inj (List.getElem?_eq_some_iff.mp e2).1 R1.nd).mp (e2.trans hk.symm);omega
   have gr:=x.grow (R1.take w c1);exact⟨ho,x.keep a ho q1 out (λps z=>by rcases R1.mut (mem_of_getElem? e2)with⟨y,w⟩|⟨y,w⟩<;>(rw[q1,z]at w;cases w)),by simpa using q2.mono gr []⟩
def spF(K:PySem.W.Frag)(k:Nat)(F:List D->Hd->Option (D×Hd)):Sp:=λvs H Q _=>vs.length=k/\∃(ρ:List Addr) (hd:Hd) (ds:List D) (d:D) (hd':Hd),RH K ρ H hd/\RDs K ρ H ds vs/\F ds hd=some (d,hd')/\
 ∀ρ' H' v,Ext ρ H ρ' H'->RH K ρ' H' hd'->RD K ρ' H' d v->Q v H'
def mkF(k n:Nat)(m:MS):List D->Hd->Option (D×Hd):=λds hd=>if ds.length=k then(match m (ds.map some++List.replicate (n-k) none) hd with
 |some (.rt d,hd')=>some (d,hd')
 |some (.nx _,hd')=>some (.im .non,hd')
 | _=>none)else none
def IQ{N:List Str}:∀{ds:List D} {vs:List V},RDs K ρ H ds vs->RL K ρ H (ds.map some++List.replicate (N.length-ds.length) none) (DO N vs):=by
 intro ds vs r;have hl:=r.len;refine⟨by simp[DO,hl],λi d e=>?_⟩;unfold DO;by_cases hi:i<ds.length
 .rw[List.getElem?_append_left (by simpa using hi),List.getElem?_map]at e;have e':ds[i]?=some d:=by
   cases q:ds[i]? with
   |none=>rw[q]at e;cases e
   |some z=>rw[q]at e;simpa using e
  obtain⟨x,x1,x2⟩:=r.get e';exact⟨x,by rw[List.getElem?_append_left (by rw[length_map,hl];exact hi),List.getElem?_map,x1];rfl,x2⟩
 .rw[List.getElem?_append_right (by simpa using not_lt.mp hi),List.getElem?_replicate]at e;split at e<;>cases e
def NN{k:Nat}{N:List Str}{m:MS}{t:TS}(h:RS K t m){vs:List V}{H:Hp}{Q:VK}{E:XK}(s:spF K k (mkF k N.length m) vs H Q E):t { nx:=λ_ H'=>Q .non H',rt:=Q } (DO N vs) H:=by
 obtain⟨hk,ρ,hd,ds,d,hd',hR,hr,hF,hQ⟩:=s;unfold mkF at hF;split at hF
 .next hl=>
  subst hl;split at hF
  .next q=>
   cases hF;exact h ρ _ H hd _ _ _ _ hR (IQ hr) q λρ' H' x R v r=>hQ ρ' H' v x R r
  .next q=>
   cases hF;exact h ρ _ H hd _ _ _ _ hR (IQ hr) q λρ' H' x R σ L=>hQ ρ' H' .non x R (by simp[RD,RI])
  .cases hF
 .cases hF
def Do(F:List D->Hd->Option (D×Hd))(ma:MA):ME:=λls hd=>(ma ls hd).bind λp=>F p.1 p.2
def Sb{k:Nat}{F:List D->Hd->Option (D×Hd)}{t:TA}{m:MA}(h:RA K t m)(hk:∀ds hd z,F ds hd=some z->ds.length=k):RE K (Ej (spF K k F) [] E0 t) (Do F m):=by
 and_intros;obtain⟨⟨d1,h1⟩,e1,hm⟩:=c5 hm;refine h ρ σ H hd ls _ d1 h1 hR hL e1 λρ1 H1 v1 x1 R1 r1=>?_;rw[append_nil];exact⟨by rw[r1.len];exact hk _ _ _ hm,ρ1,h1,d1,d,hd',R1,r1,hm,λρ' H' w x2 R2 r2=>hQ ρ' H' w (x1.trans R1 x2) R2 r2⟩
def No{k n:Nat}{m:MS}:∀ds hd z,mkF k n m ds hd=some z->ds.length=k:=λds hd z h=>by
 unfold mkF at h;split at h
 .next e=>exact e
 .cases h
def fin(w:Nat)(d:D)(h2 rest:Hd):Option (D×Hd):=if(h2.take w).all (clO w)=true then(match d with
 | .mu k=>if k<w then some (.mu k,h2.take w++rest)else(match h2[k]? with
  |some (.lst ds)=>if Av w ds=true then some (.mu (w+rest.length),h2.take w++rest++[.lst ds])else none
  | _=>none)
 | d=>if clD w d=true then some (d,h2.take w++rest)else none)else none
def A8(w:Nat)(F:List D->Hd->Option (D×Hd))(ma:MA):ME:=λls hd=>(ma ls hd).bind λp=>
 if w<=p.2.length/\Av w p.1=true/\(p.2.take w).all (clO w)=true then(F p.1 (p.2.take w)).bind λr=>fin w r.1 r.2 (p.2.drop w)else none
def Ly{w k:Nat}{F:List D->Hd->Option (D×Hd)}{t:TA}{m:MA}(h:RA K t m)(hk:∀ds hd z,F ds hd=some z->ds.length=k):RE K (Ej (spF K k F) [] E0 t) (A8 w F m):=by
 and_intros;obtain⟨⟨d1,h1⟩,e1,hm⟩:=c5 hm;dsimp only at hm;split at hm
 .next c=>
  obtain⟨c0,c1,c2⟩:=c;obtain⟨⟨d2,h2⟩,e2,hm⟩:=c5 hm;refine h ρ σ H hd ls _ d1 h1 hR hL e1 λρ1 H1 v1 x1 R1 r1=>?_;rw[append_nil];refine⟨by rw[r1.len];exact hk _ _ _ e2,ρ1.take w,h1.take w,d1,d2,h2,R1.take w c2,r1.take' w c1,e2,λρ' H' v x2 R2 r2=>?_⟩;unfold fin at hm;dsimp only at hm;split at hm
  .next c3=>
   obtain⟨R3,x3,tk⟩:=R1.back c0 c2 x2 R2 c3;have up:∀{d:D} {v:V},RD K ρ' H' d v->clD w d=true->RD K ρ1 H' d v:=λr c=>by
    have q:=r.take w c;rw[tk]at q;have q:=q.mono (Grow.refl (H:=H')) (ρ1.drop w);rw[List.take_append_drop]at q;exact q
   have ups:∀{d:List D} {v:List V},RDs K ρ' H' d v->Av w d=true->RDs K ρ1 H' d v:=λr c=>by
    have q:=r.take' w c;rw[tk]at q;have q:=q.mono (Grow.refl (H:=H')) (ρ1.drop w);rw[List.take_append_drop]at q;exact q
   split at hm
   .next k'=>
    split at hm
    .next hk'=>
     cases hm;exact hQ ρ1 H' v (x1.trans R1 x3) R3 (up r2 (by simpa [clD]using hk'))
    .next hk'=>
     split at hm
     .next ds q=>
      split at hm
      .next c4=>
       cases hm;simp only[RD]at r2;obtain⟨a,ea,rfl⟩:=r2;obtain⟨xs,l1,l2⟩:=R2.lst ea q;have len3:=R3.len;have out:a∉ρ1:=λm=>by
        -- a is one of those made behind the first w
        obtain⟨r,er,fr⟩:=x2.pre;have lw:(ρ1.take w).length=w:=by rw[length_take,R1.len];omega
        have ma:a∈r:=by
         rw[er,List.getElem?_append_right (by rw[lw];omega)]at ea;exact mem_of_getElem? ea
        exact R1.out (fr a ma) m
       have na:H1 a=none:=by
        obtain⟨r,er,fr⟩:=x2.pre;have lw:(ρ1.take w).length=w:=by rw[length_take,R1.len];omega
        have ma:a∈r:=by
         rw[er,List.getElem?_append_right (by rw[lw];omega)]at ea;exact mem_of_getElem? ea
        exact fr a ma
       refine hQ (ρ1++[a]) H' _ (x1.trans R1 (x3.name na)) (R3.name out l1 (ups l2 c4)) ?_;simp only[RD];refine⟨a,?_,rfl⟩;have:w+(List.drop w h1).length=ρ1.length:=by rw[length_drop,R1.len];omega
       rw[this];simp
      .cases hm
     .cases hm
   .next d' nd=>
    split at hm
    .next c4=>cases hm;exact hQ ρ1 H' v (x1.trans R1 x3) R3 (up r2 c4)
    .cases hm
  .cases hm
 .cases hm
def Ct(kvs:List (Key×D))(k:Key):Option D:=(kvs.find? λkv=>decide (kv.1=k)).map (·.2)
def Dk(kvs:List (Key×D))(k:Key)(v:D):List (Key×D):=
 if(kvs.any λkv=>decide (kv.1=k))=true then kvs.map (λkv=>if kv.1=k then(kv.1,v)else kv)else kvs++[(k,v)]
def RKs.val:∀{kvs:List (Key×D)} {xs:List (Key×V)} {k:Key} {d:D},RKs K ρ H kvs xs->Ct kvs k=some d->∃v,E2 xs k=some v/\RD K ρ H d v
 |[],xs,k,d,h,e=>by simp[Ct]at e
 |p::kvs,xs,k,d,h,e=>by
  simp only[RKs]at h;obtain⟨x,r,rfl,e1,r1,r2⟩:=h;by_cases hk:p.1=k
  .rw[F1 (e1.trans hk)];simp[Ct,find?_cons,hk]at e;subst e;exact⟨_,rfl,r1⟩
  .rw[F2 (by rw[e1];exact hk)];simp only[Ct,find?_cons,hk,decide_false]at e;exact RKs.val r2 e
def RKs.valN:∀{kvs:List (Key×D)} {xs:List (Key×V)} {k:Key},RKs K ρ H kvs xs->(E2 xs k).isSome=(Ct kvs k).isSome
 |[],xs,k,h=>by simp only[RKs]at h;subst h;rfl
 |p::kvs,xs,k,h=>by
  simp only[RKs]at h;obtain⟨x,r,rfl,e1,r1,r2⟩:=h;by_cases hk:p.1=k
  .rw[F1 (e1.trans hk)];simp[Ct,find?_cons,hk]
  .rw[F2 (by rw[e1];exact hk)];simp only[Ct,find?_cons,hk,decide_false];exact RKs.valN r2
def RKs.any:∀{kvs:List (Key×D)} {xs:List (Key×V)} {k:Key},RKs K ρ H kvs xs->(xs.any λkv=>decide (kv.1=k))=(kvs.any λkv=>decide (kv.1=k))
 |[],xs,k,h=>by simp only[RKs]at h;subst h;rfl
 |p::kvs,xs,k,h=>by
  simp only[RKs]at h;obtain⟨x,r,rfl,e1,r1,r2⟩:=h;simp only[any_cons,e1,RKs.any r2]
def RKs.upd:∀{kvs:List (Key×D)} {xs:List (Key×V)} {k:Key} {d:D} {v:V},RKs K ρ H kvs xs->RD K ρ H d v->RKs K ρ H (kvs.map (λkv=>if kv.1=k then(kv.1,d)else kv)) (xs.map (λkv=>if kv.1=k then(kv.1,v)else kv))
 |[],xs,k,d,v,h,_=>by simp only[RKs]at h;subst h;simp[RKs]
 |p::kvs,xs,k,d,v,h,q=>by
  simp only[RKs]at h;obtain⟨x,r,rfl,e1,r1,r2⟩:=h;simp only[map_cons,RKs];refine⟨_,_,rfl,?_,?_,RKs.upd r2 q⟩
  .rw[e1];split<;>simp[e1]
  .rw[e1];split
   .exact q
   .exact r1
def RKs.app:∀{kvs ks:List (Key×D)} {xs ys:List (Key×V)},RKs K ρ H kvs xs->RKs K ρ H ks ys->RKs K ρ H (kvs++ks) (xs++ys)
 |[],ks,xs,ys,h,t=>by simp only[RKs]at h;subst h;simpa using t
 |d::ds,ks,xs,ys,h,t=>by
  simp only[RKs]at h;obtain⟨x,r,rfl,e,z,q⟩:=h;simp only[List.cons_append,RKs];exact⟨_,_,rfl,e,z,q.app t⟩
def RKs.put{kvs:List (Key×D)}{xs:List (Key×V)}{k:Key}{d:D}{v:V}(h:RKs K ρ H kvs xs)(q:RD K ρ H d v):RKs K ρ H (Dk kvs k d) (CU xs k v):=by
 unfold Dk CU;rw[h.any];split
 .exact h.upd q
 .exact h.app (by simp only[RKs];exact⟨_,_,rfl,rfl,q,rfl⟩)
def E8:D->Option Key
 |.im (.int i)=>some (.inl i)
 |.im (.str x)=>some (.inr x)
 |_=>none
def K0{d:D}{v:V}{k:Key}(h:RD K ρ H d v)(e:E8 d=some k):v=kV k:=by
 cases d with
 |im i=>
  cases i with
  |int i=>simp only[E8,Option.some.injEq]at e;subst e;simp only[RD,RI]at h;exact h
  |str i=>simp only[E8,Option.some.injEq]at e;subst e;simp only[RD,RI]at h;exact h
  |_=>simp[E8]at e
 |_=>simp[E8]at e
def Ex(hd:Hd):D->Option (List (Key×D))
 |.mu n=>match hd[n]? with
  |some (.dic kvs)=>some kvs
  |_=>none
 |_=>none
def RD.dic{d:D}{v:V}{kvs:List (Key×D)}(hR:RH K ρ H hd)(h:RD K ρ H d v)(e:Ex hd d=some kvs):∃n a xs,d=.mu n/\v=.ref a/\ρ[n]?=some a/\H a=some (.dK xs)/\RKs K ρ H kvs xs:=by
 cases d with
 |mu n=>
  simp only[Ex]at e;simp only[RD]at h;obtain⟨a,hn,rfl⟩:=h;split at e
  .next q=>
   cases e;obtain⟨xs,e1,e2⟩:=hR.dic hn q;exact⟨n,a,xs,rfl,rfl,hn,e1,e2⟩
  .cases e
 |_=>simp[Ex]at e
def Cc:D->D->Hd->Option (D×Hd):=λd e hd=>(Ex hd d).bind λkvs=>(E8 e).bind λk=>(Ct kvs k).map (·,hd)
def VL{td ty:TE}{md my:ME}(hd:RE K td md)(hy:RE K ty my):RE K (OQ td ty) (mOp Cc md my):=by
 intro ρ σ H hd0 ls Q d hd' hR hL hm hQ;obtain⟨⟨d1,h1⟩,e1,hm⟩:=c5 hm;obtain⟨⟨d2,h2⟩,e2,hm⟩:=c5 hm;obtain⟨kvs,e3,hm⟩:=c5 hm;obtain⟨k,e4,hm⟩:=c5 hm;obtain⟨w,e5,e6⟩:=c7 hm;cases e6;refine hd ρ σ H hd0 ls _ d1 h1 hR hL e1 λρ1 H1 v1 x1 R1 r1=>?_;refine hy ρ1 σ H1 h1 ls _ d2 _ R1 (hL.ext hR x1) e2 λρ2 H2 v2 x2 R2 r2=>?_;obtain⟨n,a,xs,rfl,rfl,hn,l1,l2⟩:=RD.dic R2 (r1.ext R1 x2) e3;have:=K0 r2 e4;subst this;obtain⟨v,v1,v2⟩:=l2.val e5;exact⟨a,v,rfl,v1 ▸ DGet.k l1,hQ ρ2 H2 v (x1.trans R1 x2) R2 v2⟩
open Classical in
def FQ(md my mv:ME):MS:=λls hd=>(mv ls hd).bind λp=>(md ls p.2).bind λq=>(my ls q.2).bind λr=>(E8 r.1).bind λk=>match q.1 with
 |.mu n=>match r.2[n]? with
  |some (.dic kvs)=>if GN kvs.length then some (.nx ls,r.2.set n (.dic (Dk kvs k p.1)))else none
  |_=>none
 |_=>none
def V1{td ty tv:TE}{md my mv:ME}(hd:RE K td md)(hy:RE K ty my)(hv:RE K tv mv):RS K (Oa td ty tv) (FQ md my mv):=by
 intro ρ σ H hd0 ls E f hd' hR hL hm hQ;obtain⟨⟨d1,h1⟩,e1,hm⟩:=c5 hm;obtain⟨⟨d2,h2⟩,e2,hm⟩:=c5 hm;obtain⟨⟨d3,h3⟩,e3,hm⟩:=c5 hm;obtain⟨k,e4,hm⟩:=c5 hm;dsimp only at hm;split at hm
 .split at hm
  .next q=>
   split at hm
   .next c=>
    cases hm;refine hv ρ σ H hd0 ls _ d1 h1 hR hL e1 λρ1 H1 v1 x1 R1 r1=>?_;refine hd ρ1 σ H1 h1 ls _ _ h2 R1 (hL.ext hR x1) e2 λρ2 H2 v2 x2 R2 r2=>?_;refine hy ρ2 σ H2 h2 ls _ d3 _ R2 (hL.ext hR (x1.trans R1 x2)) e3 λρ3 H3 v3 x3 R3 r3=>?_;have r2:=r2.ext R2 x3;simp only[RD]at r2;obtain⟨a,hn,rfl⟩:=r2;obtain⟨xs,l1,l2⟩:=R3.dic hn q;have:=K0 r3 e4;subst this;obtain⟨R4,x4⟩:=R3.put hn (o:=.dic (Dk _ k d1)) (ho:=.dK (CU xs k v1)) ⟨_,rfl,l2.put ((r1.ext R1 x2).ext R2 x3)⟩;have x13:=(x1.trans R1 x2).trans R2 x3;exact⟨a,_,rfl,DPut.k l1 (by rw[l2.len];exact c),hQ ρ3 _ (x13.trans R3 x4) R4 σ ((hL.ext hR x13).ext R3 x4)⟩
   .cases hm
  .cases hm
 .cases hm
def EO:List (ME×ME)->Ls->Hd->Option (List (Key×D)×Hd)
 |[],_,hd=>some ([],hd)
 |(mk,mv)::r,ls,hd=>(mk ls hd).bind λp=>(mv ls p.2).bind λq=>(EO r ls q.2).bind λz=>(E8 p.1).map λk=>((k,q.1)::z.1,z.2)
def Fs(kvs more:List (Key×D)):List (Key×D):=more.foldl (λacc kv=>Dk acc kv.1 kv.2) kvs
def RKs.merge:∀{more kvs:List (Key×D)} {ms xs:List (Key×V)},RKs K ρ H more ms->RKs K ρ H kvs xs->RKs K ρ H (Fs kvs more) (EM xs ms)
 |[],kvs,ms,xs,h,t=>by simp only[RKs]at h;subst h;exact t
 |d::ds,kvs,ms,xs,h,t=>by
  simp only[RKs]at h;obtain⟨x,r,rfl,e,z,q⟩:=h;show RKs K ρ H (Fs (Dk kvs d.1 d.2) ds) (EM (CU xs x.1 x.2) r);rw[e];exact q.merge (t.put z)
def RPs(K:PySem.W.Frag):List (TE×TE)->List (ME×ME)->Prop
 |[],[]=>True
 |t::ts,m::ms=>RE K t.1 m.1/\RE K t.2 m.2/\RPs K ts ms
 |_,_=>False
def M6:∀{trs:List (TE×TE)} {ms:List (ME×ME)},RPs K trs ms->∀(ρ:List Addr) (σ:St) (H:Hp) (hd:Hd) (ls:Ls) (Q:List (V×V)->Hp->Prop) (kvs:List (Key×D)) (hd':Hd),RH K ρ H hd->RL K ρ H ls σ->EO ms ls hd=some (kvs,hd') ->
 (∀ρ' H' xs,Ext ρ H ρ' H'->RH K ρ' H' hd'->RKs K ρ' H' kvs xs->Q (xs.map λkv=>(kV kv.1,kv.2)) H')->Go trs σ H Q
 |[],[],_,ρ,σ,H,hd,ls,Q,kvs,hd',hR,hL,hm,hQ=>by
  cases hm;exact hQ ρ H [] .refl hR (by simp[RKs])
 |(tk,tv)::ts,(mk,mv)::ms,⟨a,b,c⟩,ρ,σ,H,hd,ls,Q,kvs,hd',hR,hL,hm,hQ=>by
   unfold EO at hm;obtain⟨⟨d1,h1⟩,e1,hm⟩:=c5 hm;obtain⟨⟨d2,h2⟩,e2,hm⟩:=c5 hm;obtain⟨⟨d3,h3⟩,e3,hm⟩:=c5 hm;obtain⟨k,e4,e5⟩:=c7 hm;cases e5;unfold Go;refine a ρ σ H hd ls _ d1 h1 hR hL e1 λρ1 H1 v1 x1 R1 r1=>?_;refine b ρ1 σ H1 h1 ls _ d2 h2 R1 (hL.ext hR x1) e2 λρ2 H2 v2 x2 R2 r2=>?_;refine M6 c ρ2 σ H2 h2 ls _ d3 _ R2 (hL.ext hR (x1.trans R1 x2)) e3 λρ3 H3 xs x3 R3 r3=>?_;have:=K0 r1 e4;subst this;exact hQ ρ3 H3 ((k,v2)::xs) ((x1.trans R1 x2).trans R2 x3) R3 (by simp only[RKs];exact⟨_,_,rfl,rfl,r2.ext R2 x3,r3⟩)
 |[],_::_,h,_,_,_,_,_,_,_,_,_,_,_,_=>h.elim
 |_::_,[],h,_,_,_,_,_,_,_,_,_,_,_,_=>h.elim
def LG(ms:List (ME×ME)):ME:=λls hd=>(EO ms ls hd).bind λp=>if p.1.length<=15 then some (.mu p.2.length,p.2++[.dic (Fs [] p.1)])else none
def RH.nameD(hR:RH K ρ H hd){a:Addr}{xs:List (Key×V)}{kvs:List (Key×D)}(out:a∉ρ){o:HO}(e:H a=some o)(hs:¬ Stb o)(r:RKs K ρ H kvs xs)(h1:∀ps,o≠.tbl ps:=by intro _ z;cases z)(h2:∀φ,o≠.ext φ:=by intro _ z;cases z):RH K (ρ++[a]) (upd H a (.dK xs)) (hd++[.dic kvs]):=by
 have gr:Grow H (upd H a (.dK xs)):=Grow.refl.put λu st z=>hs (by rw[e]at z;cases z;exact st);refine⟨by simp[hR.len],?_,hR.tabs.upd (λps z=>h1 ps (Option.some.inj (e.symm.trans z))) (λps z=>h2 ps (Option.some.inj (e.symm.trans z))),λn o' b e1 e2=>?_⟩
 .rw[List.nodup_append];refine⟨hR.nd,by simp,λx hx y hy z=>?_⟩;simp at hy;subst hy;subst z;exact out hx
 .by_cases hn:n<ρ.length
  .rw[List.getElem?_append_left hn]at e2;rw[List.getElem?_append_left (by rw[<- hR.len];exact hn)]at e1;obtain⟨ho',q1,q2⟩:=hR.ob n o' b e1 e2;have:b≠a:=λz=>out (by rw[<- z];exact mem_of_getElem? e2);exact⟨ho',by rw[AC this];exact q1,q2.mono gr [a]⟩
  .have hn':n=ρ.length:=by
    have:=(List.getElem?_eq_some_iff.mp e2).1;simp at this;omega
   subst hn';simp at e2;rw[hR.len]at e1;simp at e1;subst e1;subst e2;exact⟨_,AJ,⟨xs,rfl,r.mono gr [_]⟩⟩
def VJ{trs:List (TE×TE)}{ms:List (ME×ME)}(h:RPs K trs ms):RE K (OP trs) (LG ms):=by
 and_intros;obtain⟨⟨kvs,h1⟩,e1,hm⟩:=c5 hm;dsimp only at hm;split at hm
 .next c=>
  cases hm;intro p hp;obtain⟨R0,x0⟩:=hR.hid (ho:=.dK []) hp;refine M6 h ρ σ _ hd ls _ kvs h1 R0 (hL.ext hR x0) e1 λρ1 H1 xs x1 R1 r1=>?_;have hp1:H1 p=some (.dK []):=x1.keep p _ AJ (hR.out hp) nt;have op:p∉ρ1:=by
   obtain⟨r,rfl,fr⟩:=x1.pre;intro z;rcases mem_append.mp z with z|z
   .exact hR.out hp z
   .have:=fr _ z;rw[AJ]at this;cases this
  refine⟨hp1,xs,rfl,by rw[r1.len];exact c,?_⟩;have mm:RKs K ρ1 H1 (Fs [] kvs) (EM [] xs):=r1.merge (by simp[RKs]);have R2:=R1.nameD op hp1 (λz=>z) mm;have x01:=x0.trans R0 x1;refine hQ (ρ1++[p]) _ _ ?_ R2 ?_
  .obtain⟨r,er,fr⟩:=x01.pre;refine⟨⟨r++[p],by rw[er];simp,λb m=>?_⟩,λb o q nb t=>?_,λb ps q=>?_⟩
   .rcases mem_append.mp m with m|m
    .exact fr b m
    .simp at m;subst m;exact hp
   .have:b≠p:=AY q hp;rw[AC this];exact x01.keep b o q nb t
   .have:b≠p:=AY q hp;rw[AC this];exact x01.tab b ps q
  .simp only[RD];exact⟨p,by rw[<- R1.len];simp,rfl⟩
 .cases hm
def GF(mo mi mv:ME):MS:=λls hd=>(mv ls hd).bind λp=>(mo ls p.2).bind λq=>(mi ls q.2).bind λr=>match q.1,r.1 with
 |.mu n,.im (.int i)=>match r.2[n]? with
  |some (.lst ds)=>(ixN ds.length i).map λj=>(.nx ls,r.2.set n (.lst (ds.set j p.1)))
  |_=>none
 |_,_=>none
def Uz{to ti tv:TE}{mo mi mv:ME}(ho:RE K to mo)(hi:RE K ti mi)(hv:RE K tv mv):RS K (F3 tv (Tg to ti Og)) (GF mo mi mv):=by
 intro ρ σ H hd0 ls E f hd' hR hL hm hQ;obtain⟨⟨d1,h1⟩,e1,hm⟩:=c5 hm;obtain⟨⟨d2,h2⟩,e2,hm⟩:=c5 hm;obtain⟨⟨d3,h3⟩,e3,hm⟩:=c5 hm;dsimp only at hm;split at hm
 .split at hm
  .next q=>
   obtain⟨j,e4,e5⟩:=c7 hm;cases e5;refine hv ρ σ H hd0 ls _ d1 h1 hR hL e1 λρ1 H1 v1 x1 R1 r1=>?_;refine ho ρ1 σ H1 h1 ls _ _ h2 R1 (hL.ext hR x1) e2 λρ2 H2 v2 x2 R2 r2=>?_;refine hi ρ2 σ H2 h2 ls _ _ _ R2 (hL.ext hR (x1.trans R1 x2)) e3 λρ3 H3 v3 x3 R3 r3=>?_;have r2:=r2.ext R2 x3;simp only[RD]at r2;obtain⟨a,hn,rfl⟩:=r2;simp only[RD,RI]at r3;subst r3;obtain⟨xs,l1,l2⟩:=R3.lst hn q;obtain⟨R4,x4⟩:=R3.put hn (o:=.lst _) (ho:=.lst (xs.set j v1)) ⟨_,rfl,l2.set j ((r1.ext R1 x2).ext R2 x3)⟩;have x13:=(x1.trans R1 x2).trans R2 x3;exact⟨a,xs,_,j,rfl,rfl,l1,by rw[l2.len];exact e4,hQ ρ3 _ (x13.trans R3 x4) R4 σ ((hL.ext hR x13).ext R3 x4)⟩
  .cases hm
 .cases hm
end
end L2
namespace L2
open PySem PySem.Spec PyProof.Rows
structure QG(K:PySem.W.Frag)(X:Cx)(e:Expr)(t:TG)(m:MG):Prop where
 p:PG X e t
 r:RGt K t m
structure QGs(K:PySem.W.Frag)(X:Cx)(e:List Expr)(t:TGs)(m:MGs):Prop where
 p:PGs X e t
 r:My K t m
structure QI(K:PySem.W.Frag)(X:Cx)(tg e:Expr)(t:TI)(m:MI):Prop where
 p:PI X tg e t
 r:RIt K t m
structure QF(K:PySem.W.Frag)(X:Cx)(e:List Expr)(t:TT)(m:MT):Prop where
 p:PF X e t
 r:RT K t m
structure QO(K:PySem.W.Frag)(X:Cx)(e:Option Expr)(t:TO)(m:MO1):Prop where
 p:PO X e t
 r:RO1 K t m
structure QPs(K:PySem.W.Frag)(X:Cx)(pos:Pos)(keys:List (Option Expr))(values:List Expr)(t:List (TE×TE))(m:List (ME×ME)):Prop where
 p:PPs X pos keys values t
 r:RPs K t m
def UW(a b:List D):Prop:=a≠[]/\C9 (a.length+b.length)
open Classical in
def GL:D->D->Hd->Option (D×Hd):=λd e hd=>(Af d).bind λa=>(Af e).bind λb=>if UW a b then some (Ag (a++b),hd)else none
def Nc{K:PySem.W.Frag}:RB K (Oi K) GL:=by
 intro ρ H hd d e v u Q z hd' hR h1 h2 hf hQ;unfold GL at hf;obtain⟨a,e1,hf⟩:=c5 hf;obtain⟨b,e2,hf⟩:=c5 hf;split at hf
 .next c=>
  cases hf;obtain⟨p,xs,rfl,q1,r1⟩:=h1.tup e1;obtain⟨p2,ys,rfl,q2,r2⟩:=h2.tup e2;have l1:=r1.len;have l2:=r2.len;refine⟨p,p2,xs,ys,rfl,rfl,q1,q2,λz=>c.1 (by rw[z]at l1;simpa using l1.symm),by rw[l1,l2];exact c.2,λz=>?_,λ_ p3 hp=>?_⟩
  .have:b=[]:=by rw[z]at l2;simpa using l2.symm
   subst this;exact hQ ρ H _ .refl hR (by rw[append_nil];exact BW q1 r1)
  .obtain⟨R2,x2⟩:=hR.hid (ho:=.tup (xs++ys)) hp;exact hQ ρ _ _ x2 R2 (BW (SqT.of AJ) ((r1.app r2).ext hR x2))
 .cases hf
abbrev AS:=GQ K4 GL
def BI(neg:Bool)(m:ME):ME:=λls hd=>(m ls hd).bind λp=>some (.im (.bl (match p.1 with
 |.im .non=>!neg
 | _=>neg)),p.2)
def ZL{K:PySem.W.Frag}{ρ:List Addr}{H:Hp}{d:D}{v:V}(h:RD K ρ H d v):decide (v=.non)=(match d with|.im .non=>true|_=>false):=by
 cases d with
 |im i=>
  cases i with
  |non=>simp only[RD,RI]at h;subst h;rfl
  |tup is=>simp only[RD,RI]at h;obtain⟨a,xs,rfl,_⟩:=h;rfl
  |_=>simp only[RD,RI]at h;subst h;rfl
 |mu n=>simp only[RD]at h;obtain⟨a,_,rfl⟩:=h;rfl
 |tm ds=>simp only[RD]at h;obtain⟨a,xs,rfl,_⟩:=h;rfl
 |ro ns=>simp only[RD]at h;obtain⟨a,rfl,_⟩:=h;rfl
 |op nm fs ds=>simp only[RD]at h;obtain⟨a,xs,rfl,_⟩:=h;rfl
def QH{K:PySem.W.Frag}{t:TE}{m:ME}(h:RE K t m):RE K (ON t) (BI false m):=by
 and_intros;obtain⟨⟨d1,h1⟩,e1,hm⟩:=c5 hm;cases hm;refine h ρ σ H hd ls _ d1 _ hR hL e1 λρ1 H1 v x1 R1 r1=>?_;rw[ZL r1];refine hQ ρ1 H1 _ x1 R1 ?_;simp only[RD,RI];cases d1 with
 |im i=>cases i<;>rfl
 |_=>rfl
def Na{K:PySem.W.Frag}{t:TE}{m:ME}(h:RE K t m):RE K (L8 t) (BI true m):=by
 and_intros;obtain⟨⟨d1,h1⟩,e1,hm⟩:=c5 hm;cases hm;refine h ρ σ H hd ls _ d1 _ hR hL e1 λρ1 H1 v x1 R1 r1=>?_;rw[ZL r1];refine hQ ρ1 H1 _ x1 R1 ?_;simp only[RD,RI];cases d1 with
 |im i=>cases i<;>rfl
 |_=>rfl
def FW(m:ME):ME:=λls hd=>(m ls hd).bind λp=>match p.1 with
 |.im (.int i)=>some (.im (.int (-i)),p.2)
 |_=>none
def Y0{K:PySem.W.Frag}{t:TE}{m:ME}(h:RE K t m):RE K (tUn (rU λi=>.int (-i)) t) (FW m):=by
 and_intros;obtain⟨⟨d1,h1⟩,e1,hm⟩:=c5 hm;dsimp only at hm;split at hm
 .cases hm;exact h ρ σ H hd ls _ _ _ hR hL e1 λρ1 H1 v x1 R1 r1=>⟨_,by simpa only[RD,RI]using r1,hQ ρ1 H1 _ x1 R1 (by simp[RD,RI])⟩
 .cases hm
def Bw:MT:=λ_ hd=>some (true,hd)
def Xg{K:PySem.W.Frag}:RT K SA Bw:=by
 and_intros;cases hm;exact hQ ρ H .refl hR
section
variable(K:PySem.W.Frag){X:Cx}{a b c e:Expr}{es:List Expr}{ta tb tc te:TE}{ma mb mc me:ME}{tA tB':TT}{nA nB:MT}{t:TA}{m:MA}{pos:Pos}{x:Str}
def qv(i:Nat){x:Str}{pos:Pos}(hN:X.N[i]?=some x:=by rfl)(hv:Vis X.env.scope x:=by first|exact Or.inl rfl|exact Or.inr (Or.inl rfl)|exact Or.inr (Or.inr rfl))(hd:(x==("__debug__":Str))=false:=by decide)
 (hcd:(x==("__classdict__":Str))=false:=by decide):QE K X (.Name x pos) (SB i) (A1 i):=⟨Gy hN hv hd hcd,Xw⟩
def Ym{i:Int}{j pos}:QE K X (.Constant (.int i) j pos) (tC (.int i)) (mC (.int i)):=⟨Z8,Od λ_=>by simp[RI]⟩
def aV{i:Bool}{j pos}:QE K X (.Constant (.bool i) j pos) (tC (.bl i)) (mC (.bl i)):=⟨ac,Od λ_=>by simp[RI]⟩
def Yh{j pos}:QE K X (.Constant .none j pos) (tC .non) (mC .non):=⟨Z5,Od λ_=>by simp[RI]⟩
def Yc{x:Str}{j pos}:QE K X (.Constant (.str x) j pos) (tC (.str x)) (mC (.str x)):=⟨Z2,Od λ_=>by simp[RI]⟩
def GB{op:Operator}{r:R2}{f:D->D->Hd->Option (D×Hd)}(ho:OpR X (binaryOp op) r)(hr:RB K r f)(ha:QE K X a ta ma)(hb:QE K X b tb mb):QE K X (.BinOp a op b pos) (tOp r ta tb) (mOp f ma mb):=⟨LF ho ha.p hb.p,L9 hr ha.r hb.r⟩
def Yj(ha:QE K X a ta ma):QE K X (.UnaryOp .USub a pos) (tUn (rU λi=>.int (-i)) ta) (FW ma):=⟨aY XQ ha.p,Y0 ha.r⟩
def M2{op:CmpOp}{r:R2}{f:D->D->Hd->Option (D×Hd)}(ho:OpR X (compareOp op) r)(hr:RB K r f)(ha:QE K X a ta ma)(hb:QE K X b tb mb)(hm:behindInMarks op b=false:=by first|exact MB _|rfl):QE K X (.Compare a [op] [b] pos) (tOp r ta tb) (mOp f ma mb):=⟨WN ho ha.p hb.p hm,L9 hr ha.r hb.r⟩
def Fm{op:CmpOp}{r:R2}{f:D->D->Hd->Option (D×Hd)}(ho:OpR X (compareOp op) r)(hr:RB K r f)(ha:QE K X a ta ma)(hb:QE K X b tb mb)(hm:behindInMarks op b=false:=by first|exact MB _|rfl):QT K X (.Compare a [op] [b] pos) (L7 (tOp r ta tb)) (AM (mOp f ma mb)):=⟨Nh ho ha.p hb.p hm,Ev (L9 hr ha.r hb.r)⟩
def Yl{j pos'}(ha:QE K X a ta ma):QE K X (.Compare a [.Is] [.Constant .none j pos'] pos) (ON ta) (BI false ma):=⟨Qe (Qf ha.p),QH ha.r⟩
def Vs{j pos'}(ha:QE K X a ta ma):QE K X (.Compare a [.IsNot] [.Constant .none j pos'] pos) (L8 ta) (BI true ma):=⟨Qe (Nk ha.p),Na ha.r⟩
def YH{j pos'}(ha:QE K X a ta ma):QT K X (.Compare a [.Is] [.Constant .none j pos'] pos) (tB (ON ta)) (AM (BI false ma)):=⟨QY (Qf ha.p),Xj (QH ha.r)⟩
def VS{j pos'}(ha:QE K X a ta ma):QT K X (.Compare a [.IsNot] [.Constant .none j pos'] pos) (tB (L8 ta)) (AM (BI true ma)):=⟨QY (Nk ha.p),Xj (Na ha.r)⟩
def Sj(ha:QE K X a ta ma)(he:∀whole,isTrue a X.env whole=(do let v <- whole;standAt a.pos;holding [v] (truthy v)):=by intro _;rfl)(hK:X.K=K:=by rfl):
 QT K X a (λσ H Q=>ta σ H λx H'=>∃k,Mx K x H' k/\Q k H') (BU ma):=by
 subst hK;exact⟨Sy ha.p he,SU ha.r⟩
def YG(ha:QT K X a tA nA):QT K X (.UnaryOp .Not a pos) (SE tA) (C6 nA):=⟨Yr ha.p,Xh ha.r⟩
def VR(ha:QT K X a tA nA):QW K X (.BoolOp .And [a] pos) tA nA:=⟨Vw ha.p,ha.r⟩
def YE(ha:QT K X a tA nA):QW K X (.BoolOp .Or [a] pos) tA nA:=⟨Yp ha.p,ha.r⟩
def YF{rest:List Expr}(ha:QT K X a tA nA)(hb:QW K X (.BoolOp .And (b::rest) pos) tB' nB):QW K X (.BoolOp .And (a::b::rest) pos) (SI tA tB') (Cz nA nB):=⟨Yq ha.p hb.p,Xi ha.r hb.r⟩
def aO{rest:List Expr}(ha:QT K X a tA nA)(hb:QW K X (.BoolOp .Or (b::rest) pos) tB' nB):QW K X (.BoolOp .Or (a::b::rest) pos) (tOr tA tB') (mOr nA nB):=⟨aW ha.p hb.p,aE ha.r hb.r⟩
def QW.toT{K:PySem.W.Frag}{X:Cx}{e:Expr}{t:TT}{m:MT}(h:QW K X e t m):QT K X e t m:=⟨h.p.pt,h.r⟩
def Ye{op}(ha:QE K X a ta ma):QE K X (.BoolOp op [a] pos) ta ma:=⟨Z3 ha.p,ha.r⟩
def Yn{rest:List Expr}(ha:QE K X a ta ma)(hb:QE K X (.BoolOp .And (b::rest) pos) tb mb):QE K X (.BoolOp .And (a::b::rest) pos) (OR ta tb) (DD ma mb):=⟨Z9 ha.p hb.p,VM ha.r hb.r⟩
def aQ{rest:List Expr}(ha:QE K X a ta ma)(hb:QE K X (.BoolOp .Or (b::rest) pos) tb mb):QE K X (.BoolOp .Or (a::b::rest) pos) (SD ta tb) (Ib ma mb):=⟨aZ ha.p hb.p,Xz ha.r hb.r⟩
def Yg(ha:QE K X a ta ma):QE K X (.UnaryOp .Not a pos) (OM ta) (FO ma):=⟨Z4 ha.p,VH ha.r⟩
def Sv(hc:QT K X c tA nA)(ha:QE K X a ta ma)(hb:QE K X b tb mb):QE K X (.IfExp c a b pos) (tIf tA ta tb) (mIf nA ma mb):=⟨TD hc.p ha.p hb.p,UD hc.r ha.r hb.r⟩
def Yo:QA K X [] CI A6:=⟨Cv,Y9⟩
def Vv(ha:QE K X e te me)(hr:QA K X es t m)(hs:starEach (e::es) X.env=(false,eval e X.env)::starEach es X.env:=by rfl):QA K X (e::es) (BM te t) (A3 me m):=⟨CA ha.p hr.p hs,VP ha.r hr.r⟩
def Yb{x1}(h:QA K X es t m):QE K X (.Tuple es x1 pos) (SC t) (Ap m):=⟨Z1 h.p,Xx h.r⟩
def YR(h:QA K X es t m):QN K X (.List es pos) (SG t) (CO m):=⟨Z6 h.p,Xm h.r⟩
def Yi(h:QN K X e te m):QE K X e te (BH m):=⟨h.p,QD h.r⟩
def aS(ha:QE K X a ta ma)(hb:QE K X b tb mb)(hs:KC b:=by exact λ_ _=>rfl)(hK:X.K=K:=by rfl):QE K X (.Subscript a b pos) (tOp (LB K) ta tb) (mOp gIx ma mb):=⟨UM ((MX K hK).or (Ny K hK)) ha.p hb.p hs,L9 aL ha.r hb.r⟩
def Vu(hu:X.A.units+1<cLine)(ha:QE K X a ta ma)(hb:QE K X b tb mb)(hs:Tz b:=by exact λ_ _=>rfl):QE K X (.Subscript a b pos) (OQ ta tb) (mOp Cc ma mb):=⟨WK hu ha.p hb.p hs,VL ha.r hb.r⟩
def Vi:QO K X none Ji Bt:=⟨W6,V4⟩
def Vh(h:QE K X e te me):QO K X (some e) (OL te) (DC me):=⟨W5 h.p,V3 h.r⟩
def YO{lo hi:Option Expr}{tl th:TO}{ml mh:MO1}{p2:Pos}(h:QE K X e te me)(hl:QO K X lo tl ml)(hh:QO K X hi th mh)(hK:X.K=K:=by rfl):QN K X (.Subscript e (.Slice lo hi none p2) pos) (tSl (Of K) te tl th) (MN me ml mh):=⟨M5 (SK K hK) h.p hl.p hh.p,Xk h.r hl.r hh.r⟩
def GC{id:String}{p:Pos}{r:List V->Hp->VK->Prop}{f:List D->Hd->Option (D×Hd)}(hc:CallR X (.builtin id) r)(hr:RF K r f)(hm:X.mg x=none)(hv:bootBuiltins x=some (.builtin id))(ha:QA K X (e::es) t m)(hg:Gl X x:=by rfl)(hn:x≠"__name__":=by decide)(hdb:(x==("__debug__":Str))=false:=by decide)
 (he:starEach (e::es) X.env=(false,eval e X.env)::starEach es X.env:=by rfl) (hpl:(backTo pos (starEach es X.env)).any (·.1)=false:=by rfl):QE K X (.Call (.Name x p) (e::es) [] pos) (tCB r t) (mCB f m):=⟨IT hc hg hm hv ha.p hn hdb he hpl,UE hr ha.r⟩
def aU{id:String}{p:Pos}{r:List V->Hp->VK->Prop}{f:List D->Hd->Option (D×Hd)}(hc:CallR X (.type id) r)(hr:RF K r f)(hm:X.mg x=none)(hv:bootBuiltins x=some (.type id))(ha:QA K X (e::es) t m)(hg:Gl X x:=by rfl)(hn:x≠"__name__":=by decide)(hdb:(x==("__debug__":Str))=false:=by decide)
 (he:starEach (e::es) X.env=(false,eval e X.env)::starEach es X.env:=by rfl) (hpl:(backTo pos (starEach es X.env)).any (·.1)=false:=by rfl):QE K X (.Call (.Name x p) (e::es) [] pos) (tCB r t) (mCB f m):=⟨EL hc hg hm hv ha.p hn hdb he hpl,UE hr ha.r⟩
def LD{id:String}{p:Pos}{r:List V->Hp->VK->Prop}{tp:Bool}{g:List D->Option D}(hc:CallR X (.builtin id) r)(hr:RG K tp r g)(hm:X.mg x=none)(hv:bootBuiltins x=some (.builtin id))(ha:QN K X e te m)(hg:Gl X x:=by rfl)(hn:x≠"__name__":=by decide)(hdb:(x==("__debug__":Str))=false:=by decide)
 (he:starEach [e] X.env=[(false,eval e X.env)]:=by rfl):QE K X (.Call (.Name x p) [e] [] pos) (tCB r (BM te CI)) (C8 g m):=⟨IT hc hg hm hv (CA ha.p Cv he) hn hdb he rfl,QJ hr ha.r⟩
def aT{id:String}{p:Pos}{r:List V->Hp->VK->Prop}{tp:Bool}{g:List D->Option D}(hc:CallR X (.type id) r)(hr:RG K tp r g)(hm:X.mg x=none)(hv:bootBuiltins x=some (.type id))(ha:QN K X e te m)(hg:Gl X x:=by rfl)(hn:x≠"__name__":=by decide)(hdb:(x==("__debug__":Str))=false:=by decide)
 (he:starEach [e] X.env=[(false,eval e X.env)]:=by rfl):QE K X (.Call (.Name x p) [e] [] pos) (tCB r (BM te CI)) (C8 g m):=⟨EL hc hg hm hv (CA ha.p Cv he) hn hdb he rfl,QJ hr ha.r⟩
def Vj{p:Pos}(hm:X.mg "list"=none)(ha:QE K X e te me)(hg:Gl X "list":=by rfl)(he:starEach [e] X.env=[(false,eval e X.env)]:=by rfl)(hK:X.K=K:=by rfl):QN K X (.Call (.Name "list" p) [e] [] pos) (tCB (Fk K) (BM te CI)) (Hq me):=⟨EL (JV K hK) hg hm O9 (CA ha.p Cv he) (by decide) (by decide) he rfl,V6 ha.r⟩
def Sq{p:Pos}(hm:X.mg "list"=none)(ha:QN K X e te m)(hg:Gl X "list":=by rfl)(he:starEach [e] X.env=[(false,eval e X.env)]:=by rfl)(hK:X.K=K:=by rfl):QN K X (.Call (.Name "list" p) [e] [] pos) (tCB (Fk K) (BM te CI)) (HE m):=⟨EL (JV K hK) hg hm O9 (CA ha.p Cv he) (by decide) (by decide) he rfl,SW ha.r⟩
def aR{id:String}{r:V->List V->Hp->VK->Prop}{f:D->List D->Hd->Option (D×Hd)}{name:Str}{apos cpos:Pos}{o:Expr}{to:TE}{mo:ME}(slot:Slot "list" name id)(hty:typeOf (.builtin id)=pure (.type "method_descriptor"))(hm:MtM X id r)(hr:RM K r f)(ho:QE K X o to mo)(ha:QA K X (e::es) t m)
 (hbase:attributeBase o name X.env (eval o X.env)=eval o X.env:=by rfl)
 (hfew:((backTo cpos (starEach (e::es) X.env)).all (λx=>!x.1)&&(backToKw cpos (keywordEach [] X.env)).all (λx=>x.1.isSome)
  && decide ((e::es).length+([]:List Keyword).length+(if([]:List Keyword).isEmpty then 0 else 1)<30))=true:=by rfl)
 (hline:(apos.endLine==cpos.line)=true:=by rfl) (hs:starEach (e::es) X.env=(false,eval e X.env)::starEach es X.env:=by rfl) (hplain:(backTo cpos (starEach es X.env)).any (·.1)=false:=by rfl) (hK:X.K=K:=by rfl):
 QE K X (.Call (.Attribute o name apos) (e::es) [] cpos) (tBM K "list" r to t) (mMt f mo m):=by
 subst hK;exact⟨aa PySem.F.plainAttrs_list slot hty hm ho.p ha.p hbase hfew hline hs hplain,aJ hr ho.r ha.r⟩
def Sw(w:Nat){j k:Nat}{f:Addr}{fd:FuncData}{ps:List Str}{n:Nat}{F:List D->Hd->Option (D×Hd)}{st:Stmt}{p:Pos}(G:FnOk X.prog X.w X.K X.mg X.base CX0 j f fd ps (spF K n F))(hr:Room k X.A)(DA:DefAt X.K X.mg x st f fd ps)(ha:QA K X (e::es) t m)(hF:∀ds hd z,F ds hd=some z->ds.length=n)
 (hjk:j<=k:=by decide) (hg:Gl X x:=by rfl) (hdb:(x==("__debug__":Str))=false:=by decide) (he:starEach (e::es) X.env=(false,eval e X.env)::starEach es X.env:=by rfl) (hpl:(backTo pos (starEach es X.env)).any (·.1)=false:=by rfl):
 QE K X (.Call (.Name x p) (e::es) [] pos) (Ej (spF K n F) [] E0 t) (A8 w F m):=⟨UN G hr DA ha.p hjk hg hdb he hpl,Ly ha.r hF⟩
def Sx{j k:Nat}{f:Addr}{fd:FuncData}{ps:List Str}{n:Nat}{F:List D->Hd->Option (D×Hd)}{st:Stmt}{p:Pos}(G:FnOk X.prog X.w X.K X.mg X.base CX0 j f fd ps (spF K n F))(hr:Room k X.A)(DA:DefAt X.K X.mg x st f fd ps)(ha:QA K X (e::es) t m)(hF:∀ds hd z,F ds hd=some z->ds.length=n)
 (hjk:j<=k:=by decide) (hg:Gl X x:=by rfl) (hdb:(x==("__debug__":Str))=false:=by decide) (he:starEach (e::es) X.env=(false,eval e X.env)::starEach es X.env:=by rfl) (hpl:(backTo pos (starEach es X.env)).any (·.1)=false:=by rfl):
 QE K X (.Call (.Name x p) (e::es) [] pos) (Ej (spF K n F) [] E0 t) (Do F m):=⟨UN G hr DA ha.p hjk hg hdb he hpl,Sb ha.r hF⟩
def Vg{pos:Pos}:QPs K X pos [] [] [] []:=⟨W4,trivial⟩
def Sn{pos:Pos}{k v:Expr}{ks:List (Option Expr)}{vs:List Expr}{tk tv:TE}{mk mv:ME}{trs:List (TE×TE)}{ms:List (ME×ME)}(hk:QE K X k tk mk)(hv:QE K X v tv mv)(hr:QPs K X pos ks vs trs ms):QPs K X pos (some k::ks) (v::vs) ((tk,tv)::trs) ((mk,mv)::ms):=⟨T3 hk.p hv.p hr.p,hk.r,hv.r,hr.r⟩
def Vt{pos:Pos}{keys:List (Option Expr)}{values:List Expr}{trs:List (TE×TE)}{ms:List (ME×ME)}(h:QPs K X pos keys values trs ms)(hall:keys.all (·.isSome)=true:=by rfl)(hl:keys.length=values.length:=by rfl)(h0:keys≠[]:=by simp)
 (h15:keys.length<=15:=by decide):QE K X (.Dict keys values pos) (OP trs) (LG ms):=⟨WJ h.p hall hl h0 h15,VJ h.r⟩
def Vq{i:Nat}(hN:X.N.Nodup)(hi:X.N[i]?=some x)(hx:Loc X.env.scope x)(hf:X.fn x=true∨X.env.scope.names.lookup x=some .local:=by first|exact .inl rfl|exact .inr rfl|assumption):QG K X (.Name x pos) (EE i) (AG i):=⟨WH hN hi hx hf,Jq⟩
def Vp:QGs K X [] Ti BY:=⟨WD,VB⟩
def Su{tg:TG}{tgs:TGs}{n:MG}{ns:MGs}(h1:QG K X e tg n)(h2:QGs K X es tgs ns)(hs:(assignEach (e::es) X.env).map (·.2)=assign e X.env::(assignEach es X.env).map (·.2):=by rfl):QGs K X (e::es) (PM tg tgs) (AR n ns):=⟨TB h1.p h2.p hs,SZ h1.r h2.r⟩
def YW{k n:Nat}{tgs:TGs}{ns:MGs}(hc:X.calm=true)(h:QGs K X es tgs ns)(hK:X.K=K:=by rfl)(hn:(assignEach es X.env).length=n:=by rfl)(hst:(assignEach es X.env).findIdx? (·.1)=none:=by rfl):QG K X (.Tuple es k pos) (PL K n tgs) (BX n ns):=⟨WG K hc h.p hK hn hst,Xu h.r⟩
def YU{tg:Expr}(h:QE K X e te me)(hK:X.K=K:=by rfl):QI K X tg e (P9 K te) (BB me):=⟨W9 K h.p hK,Xp h.r⟩
def Vn{tg:Expr}(h:QE K X e te me)(hK:X.K=K:=by rfl):QI K X tg e (Hu K te) (CW me):=⟨M4 K h.p hK,V9 h.r⟩
def YV{tg:Expr}(h:QN K X e te m)(hK:X.K=K:=by rfl):QI K X tg e (Hu K te) (Eb m):=⟨M4 K h.p hK,Xq h.r⟩
def Vm{tg:Expr}{p:Pos}(hm:X.mg "range"=none)(ha:QA K X [a] t m)(hg:Gl X "range":=by rfl)(hs:starEach [a] X.env=[(false,eval a X.env)]:=by rfl):QI K X tg (.Call (.Name "range" p) [a] [] pos) (PD t) (EZ m):=⟨Qd hg hm ha.p hs,V8 ha.r⟩
def Vl{tg:Expr}{p:Pos}(hm:X.mg "range"=none)(ha:QA K X [a,b] t m)(hg:Gl X "range":=by rfl)(hs:starEach [a,b] X.env=[(false,eval a X.env),(false,eval b X.env)]:=by rfl)(hs2:starEach [b] X.env=[(false,eval b X.env)]:=by rfl):QI K X tg (.Call (.Name "range" p) [a,b] [] pos) (PB t) (Hr m):=⟨Qc hg hm ha.p hs hs2,V7 ha.r⟩
def YZ:QF K X [] SA Bw:=⟨Z0,Xg⟩
def YY(h:QT K X c tA nA):QF K X [c] tA nA:=⟨Yz h.p,h.r⟩
def Vk{elt tg iter:Expr}{ifs:List Expr}{scope:Scope}{loc fr:List Str}{ix:List Nat}{wi:TI}{g:TG}{tf:TT}{te:TE}{mi:MI}{n:MG}{mf:MT}{mm:ME}(hc:X.calm=true)(S:CSc X scope fr ix)(hi:QI K X tg iter wi mi)
 (hg:∀s H ex,QG K (cCx X (loc++fr) scope s H ex) tg g n) (hf:∀s H ex,QF K (cCx X (loc++fr) scope s H ex) ifs tf mf) (he:∀s H ex,QE K (cCx X (loc++fr) scope s H ex) elt te mm)
 (hs:∀x,foldedSetIterable iter X.env x=pure x:=by intro _;rfl):QN K X (.ListComp elt [⟨tg,iter,ifs,0⟩] scope pos) (G8 loc.length ix wi g tf te) (Aw loc.length ix mi n mf mm):=
 ⟨WM hc S hi.p (λs H ex=>(hg s H ex).p) (λs H ex=>(hf s H ex).p) (λs H ex=>(he s H ex).p) hs,NY hi.r (hg X.s₀ X.H₀ []).r (hf X.s₀ X.H₀ []).r (he X.s₀ X.H₀ []).r⟩
def VW:QSs K X [] Hj Ac:=⟨Nj,Jo⟩
def Sk{st:Stmt}{rest:List Stmt}{u v:TS}{m1 m2:MS}(h1:QS K X st u m1)(h2:QSs K X rest v m2):QSs K X (st::rest) (LX u v) (AE m1 m2):=⟨M3 h1.p h2.p,Q3 h1.r h2.r⟩
def VU{st:Stmt}{u:TS}{m1:MS}(h1:QS K X st u m1):QSs K X [st] u m1:=⟨Ni h1.p,h1.r⟩
def Va:QS K X (.Pass pos) Hj Ac:=⟨W1,Jo⟩
def Vd(he:QE K X e te me)(hs:swapsWith e none pos.line X.env=pure false:=by rfl):QS K X (.Expr e pos) (OO te) (BF me):=⟨W2 he.p hs,V0 he.r⟩
def YK(he:QE K X e te me):QS K X (.Return (some e) pos) (G7 te) (AX me):=⟨Yt he.p,J9 he.r⟩
def aP{a b:List Stmt}{u v:TS}{m1 m2:MS}(hc:QT K X c tA nA)(ha:QSs K X a u m1)(hb:QSs K X b v m2):QS K X (.If c a b pos) (LZ tA u v) (Ak nA m1 m2):=⟨aX hc.p ha.p hb.p,U9 hc.r ha.r hb.r⟩
def Sm{st:Stmt}:QS K X st Iu Bq:=⟨T1,Lm⟩
def YM{tg:Expr}{g:TG}{n:MG}(he:QE K X e te me)(hg:QG K X tg g n)(hs:swapsWithSole [tg] e pos.line X.env=pure false:=by rfl)(hw:swappedStores [tg] e X.env=pure none:=by rfl)
 (h1:(assignEach [tg] X.env).map (·.2)=[assign tg X.env]:=by rfl):QS K X (.Assign [tg] e pos) (F3 te g) (GG me n):=⟨QZ he.p hg.p hs hw h1,Ln he.r hg.r⟩
def YJ{i:Nat}{pos':Pos}(hN:X.N.Nodup)(hi:X.N[i]?=some x)(hx:Loc X.env.scope x)(he:QE K X e te me)(hs:swapsWith e (some (.Name x pos')) pos.line X.env=pure false:=by rfl)(hf:X.fn x=true∨X.env.scope.names.lookup x=some .local:=by first|exact .inl rfl|exact .inr rfl|assumption):
 QS K X (.Assign [.Name x pos'] e pos) (F3 te (EE i)) (AT i me):=⟨Ys hN hi hx he.p hs hf,Ln he.r Jq⟩
def VZ{i:Nat}{y:Str}{elt tg iter:Expr}{ifs:List Expr}{scope:Scope}{spos py:Pos}{loc fr:List Str}{ix:List Nat}{wi:TI}{g:TG}{tf:TT}{te:TE}{mi:MI}{n:MG}{mf:MT}{mm:ME}(hN:X.N.Nodup)(hiN:X.N[i]?=some y)(hy:X.env.scope.names.lookup y=some .local)
 (hc:X.calm=true) (S:CSc X scope fr ix) (hi:QI K X tg iter wi mi)
 (hg:∀s H ex,QG K (cCx X (loc++fr) scope s H ex) tg g n) (hf:∀s H ex,QF K (cCx X (loc++fr) scope s H ex) ifs tf mf) (he:∀s H ex,QE K (cCx X (loc++fr) scope s H ex) elt te mm)
 (hsw:swapsWith (.ListComp elt [⟨tg,iter,ifs,0⟩] scope pos) (some (.Name y py)) spos.line X.env=pure true:=by rfl) (hs:∀x,foldedSetIterable iter X.env x=pure x:=by intro _;rfl):
 QS K X (.Assign [.Name y py] (.ListComp elt [⟨tg,iter,ifs,0⟩] scope pos) spos) (F3 (G8 loc.length ix wi g tf te) (EE i)) (AT i (BH (Aw loc.length ix mi n mf mm))):=
 ⟨W0 hN hiN hy hc S hi.p (λs H ex=>(hg s H ex).p) (λs H ex=>(hf s H ex).p) (λs H ex=>(he s H ex).p) hsw hs,Ln (QD (NY hi.r (hg X.s₀ X.H₀ []).r (hf X.s₀ X.H₀ []).r (he X.s₀ X.H₀ []).r)) Jq⟩
def Ve{o i value:Expr}{pos':Pos}{td ty tv:TE}{md my mv:ME}(hu:X.A.units+1<cLine)(ho:QE K X o td md)(hi:QE K X i ty my)(hv:QE K X value tv mv)(hs:swapsWith value (some (.Subscript o i pos')) pos.line X.env=pure false:=by rfl):
 QS K X (.Assign [.Subscript o i pos'] value pos) (Oa td ty tv) (FQ md my mv):=⟨W3 hu ho.p hi.p hv.p hs,V1 ho.r hi.r hv.r⟩
def Vb{o i value:Expr}{pos':Pos}{to ti tv:TE}{mo mi mv:ME}(ho:QE K X o to mo)(hi:QE K X i ti mi)(hv:QE K X value tv mv)(hs:swapsWithSole [.Subscript o i pos'] value pos.line X.env=pure false:=by rfl)(hw:swappedStores [.Subscript o i pos'] value X.env=pure none:=by rfl)
 (h1:(assignEach [.Subscript o i pos'] X.env).map (·.2)=[assign (.Subscript o i pos') X.env]:=by rfl)
 (ha:∀v,assign (.Subscript o i pos') X.env v=(do
  let ov <- holding [v] (eval o X.env)
  let iv <- holding [v,ov] (eval i X.env)
  standAt pos'
  holding [v,ov,iv] (setItem ov iv v)
  release [v,ov,iv] []):=by intro _;rfl):QS K X (.Assign [.Subscript o i pos'] value pos) (F3 tv (Tg to ti Og)) (GF mo mi mv):=⟨QZ hv.p (Yy ho.p hi.p SL ha) hs hw h1,Uz ho.r hi.r hv.r⟩
def YL{tg iter:Expr}{body:List Stmt}{wi:TI}{g:TG}{tb:TS}{mi:MI}{n:MG}{mb:MS}(hc:X.calm=true)(hi:QI K X tg iter wi mi)(hg:QG K X tg g n)(hb:QSs K X body tb mb)(hp:PassesOwn (model X.prog X.w) X.A X.env X.xe:=by exact PassesOwn.never)
 (hs:∀x,foldedSetIterable iter X.env x=pure x:=by intro _;rfl):QS K X (.For tg iter body [] pos) (La wi g tb) (BN mi n mb):=⟨Yu hp hc hi.p hg.p hb.p hs,Q5 hi.r hg.r hb.r⟩
end
def WX{P:Program}{w:World}{K:PySem.W.Frag}{mg:Str->Option Value}{base:Heap}{x:Str}{st:Stmt}{f:Addr}{fd:FuncData}{N ps:List Str}{j:Nat}{m:MS}(DA:DefAt K mg x st f fd ps)(S:FnScope N ps (AB st))
 (h:∀(cdv:Value) (A:Around) (outer:List Env) (s:Shared) (H:Hp) (E:XK),Room j (A.deeper (envOfC x (AB st) s.heap.objs.size f cdv))->∃t,QSs K (DY CX0 P w K mg base N x (AB st) f cdv A outer s H E).nox (B9 st) t m):
 FnOk P w K mg base CX0 (j+1) f fd ps (spF K ps.length (mkF ps.length N.length m)):=by
 refine DA.fn.ok S (λvs H Q E h=>h.1) (λcdv A outer s H vs Q E hr hs=>?_);obtain⟨t,q⟩:=h cdv A outer s H E hr;exact⟨t,q.p,NN q.r hs⟩
section
variable{X:Cx}{pins:List (Addr×Obj)}{σ:List (Option V)}{H H':Hp}{s:Shared}{h':Heap}
def Inv.turns{tk:Nat}{fp:List Addr}(I:Inv X pins σ H s)(k:∀b o,b∉fp->s.heap.get? b=some o->h'.get? b=some o)(hf:∀b∈fp,FpOk X pins H b):Inv X pins σ H { s with heap:=h',toks:=tk }:=by
 have out:∀b u,H b=some u->b∉fp:=λb u e z=>by rw[(hf b z).1]at e;cases e
 have hL:X.env.locals∉fp:=λz=>(hf _ z).2.1 rfl;refine I.step (g':=s.gens) (d':=s.drawn) (ch:=fp) (λb hb=>⟨(hf b hb).2.2.2.1,(hf b hb).2.1,(hf b hb).2.2.2.2.1,(hf b hb).2.2.2.2.2⟩) (λb o _ _ hc e _=>k b o hc e) (λb o _ _ hc e _=>⟨o.slots,k b o hc e⟩) (λ_ _ _ _ n=>n)
  (λb o hc e=>⟨o,k b o hc e⟩) (λ_ _ e=>e) (λ_ _ _ e=>e) (λb ps e=>⟨#[],by rw[e];simp⟩) (λm hm=>?_) (λb u e=>?_) I.bare
 .obtain⟨o,es,ep,ho,r⟩:=hm;exact⟨o,es,ep,k _ o hL ho,r⟩
 .refine(I.hok b u e).stay (λc v hc q=>k c v ?_ q) (λ_ q=>q) λ_ _ q=>q;rcases hc with z|z
  .rw[z];exact out b u e
  .exact out c _ z
end
def Inv.turnsL{X:Cx}{pins:List (Addr×Obj)}{σ:List (Option V)}{H:Hp}{s:Shared}{h':Heap}{tk:Nat}{fp:List Addr}{a:Addr}{o:HO}(I:Inv X pins σ H s)(k:∀b o,b∉fp->s.heap.get? b=some o->h'.get? b=some o)(hf:∀b∈fp,FpOk X pins H b)(ha:s.heap.objs.size<=a)(new:ObjOk X.prog X.w (upd H a o) h' a o):
 Inv X pins σ (upd H a o) { s with heap:=h',toks:=tk }:=by
 have out:∀b u,H b=some u->b∉fp:=λb u e z=>by rw[(hf b z).1]at e;cases e
 have hL:X.env.locals∉fp:=λz=>(hf _ z).2.1 rfl;have fr:H a=none:=I.hok.fresh ha;refine I.step (g':=s.gens) (d':=s.drawn) (ch:=fp) (λb hb=>⟨(hf b hb).2.2.2.1,(hf b hb).2.1,(hf b hb).2.2.2.2.1,(hf b hb).2.2.2.2.2⟩) (λb o _ _ hc e _=>k b o hc e) (λb o _ _ hc e _=>⟨o.slots,k b o hc e⟩)
  (λb o _ e n=>by rw[AC (ne_of_lt (lt_of_lt_of_le (Heap.lt_size e) ha))];exact n) (λb o hc e=>⟨o,k b o hc e⟩) (λb xs e=>by rw[AC (AY e fr)];exact e) (λb o u e=>by rw[AC (AY e fr)];exact e)
  (λb ps e=>⟨#[],by rw[AC (AY e fr),e];simp⟩) (λm hm=>?_) (λb u e=>?_) I.bare
 .obtain⟨o,es,ep,ho,r⟩:=hm;exact⟨o,es,ep,k _ o hL ho,r⟩
 .by_cases hb:b=a
  .subst hb;rw[AJ]at e;cases e;exact new
  .rw[AC hb]at e;refine(I.hok b u e).stay (λc v hc q=>k c v ?_ q) (λc q=>by rw[AC (AY q fr)];exact q) λc xs q=>by rw[AC (AY q fr)];exact q
   rcases hc with z|z
   .rw[z];exact out b u e
   .exact out c _ z
def RowI(tp:Bool)(h:Heap)(it l:Addr)(k:Nat):Prop:=match tp with
 |true=>h.IsTupleIter it l k
 |false=>h.IsListIter it l k
def RowL(tp:Bool)(h:Heap)(l:Addr)(xs:Array Value):Prop:=match tp with
 |true=>h.IsTuple l xs
 |false=>h.IsList l xs
def RowI.at{tp:Bool}{h h':Heap}{it l:Addr}{k:Nat}(x:RowI tp h it l k)(e:∀o,h.get? it=some o->h'.get? it=some o):RowI tp h' it l k:=by
 cases tp with
 |true=>exact Heap.IsTupleIter.at x e
 |false=>exact Heap.IsListIter.at x e
def RowL.at{tp:Bool}{h h':Heap}{l:Addr}{xs:Array Value}(x:RowL tp h l xs)(e:∀o,h.get? l=some o->h'.get? l=some o):RowL tp h' l xs:=by
 cases tp with
 |true=>obtain⟨o,e1,r⟩:=(show h.IsTuple l xs from x);exact⟨o,e _ e1,r⟩
 |false=>obtain⟨o,e1,r⟩:=(show h.IsList l xs from x);exact⟨o,e _ e1,r⟩
def RowI.obj{tp:Bool}{h:Heap}{it l:Addr}{k:Nat}(x:RowI tp h it l k):∃o,h.get? it=some o/\o.data=.fields #[.ref l,.int k 0]:=by
 cases tp with
 |true=>obtain⟨o,e,_,d⟩:=(show h.IsTupleIter it l k from x);exact⟨o,e,d⟩
 |false=>obtain⟨o,e,_,d⟩:=(show h.IsListIter it l k from x);exact⟨o,e,d⟩
def RowL.obj{tp:Bool}{h:Heap}{l:Addr}{xs:Array Value}(x:RowL tp h l xs):∃o n,h.get? l=some o/\o.data=.seq xs n:=by
 cases tp with
 |true=>obtain⟨o,e,_,n,d⟩:=(show h.IsTuple l xs from x);exact⟨o,n,e,d⟩
 |false=>obtain⟨o,e,_,n,d⟩:=(show h.IsList l xs from x);exact⟨o,n,e,d⟩
section
variable{prog:Program}{w:World}{A:Around}{E:Value->Shared->Prop}{s:Shared}{it l:Addr}{k:Nat}{xs:Array Value}{x:Value}
def S6(hit:s.heap.IsTupleIter it l k)(hl:s.heap.IsTuple l xs)(hx:xs[k]?=some x){Q:Value->Shared->Prop}(hQ:∀g,g.IsTupleIter it l (k+1)->Heap.SameBut it s.heap g->Q x { s with heap:=g }):
 wpAny (model prog w) A (Builtin.SmallTypes.nextOf (.ref it)) Q E s:=by
 obtain⟨o,eo,ec,ed⟩:=id hit;obtain⟨ol,el,_,nl,edl⟩:=hl;unfold Builtin.SmallTypes.nextOf;refine wpAny_bind (wpAny_callSpecial?_slot (name:=Str.ofString "__next__") hit.typeIs PyProof.Rows.slot_tupleiter_next (wpAny_call_entry PyProof.Rows.slot_tupleiter_next hit.typeIs PyProof.Rows.entry_tupleiter_next ?_ (PyProof.Rows.args_tupleiter_next _)));show wpAny _ _ (field (.ref it) 0 >>= _) _ _ s;refine wpAny_bind (wpAny_field eo ed (x:=.ref l) rfl ?_);show wpAny _ _ (if(Value.ref l==Value.none)=true then _ else _) _ _ s;rw[if_neg (show ¬ (Value.ref l==Value.none)=true from Bool.false_ne_true)];show wpAny _ _ (field (.ref it) 1 >>= _) _ _ s;refine wpAny_bind (wpAny_field eo ed (x:=.int k 0) rfl ?_);show wpAny _ _ (seqItems? (.ref l) >>= _) _ _ s;refine wpAny_bind (wpAny_seqItems el edl ?_);simp only[toNat_natCast,hx];refine wpAny_bind (wpAny_setField eo ed (by simp) (wpAny_pure ⟨x,rfl,wpAny_pure (hQ _ ⟨_,Heap.get?_update_self _ eo (Obj.isFreed_of_fields (Obj.data_mapFields ed _)),(Obj.cls_mapFields ..).trans ec,?_⟩ (Heap.SameBut.update ..))⟩));rw[Obj.data_mapFields ed];simp[rawInt]
def S5(hh:A.handled=none)(hit:s.heap.IsTupleIter it l k)(hl:s.heap.IsTuple l xs)(hx:xs[k]?=none){Q:Value->Shared->Prop}(hE:∀g e,Heap.ExtBut it s.heap g->(∃o,g.get? e=some o/\o.cls=.type "StopIteration")->E (.ref e) { s with heap:=g }):
 wpAny (model prog w) A (Builtin.SmallTypes.nextOf (.ref it)) Q E s:=by
 obtain⟨o,eo,ec,ed⟩:=id hit;obtain⟨ol,el,_,nl,edl⟩:=hl;unfold Builtin.SmallTypes.nextOf;refine wpAny_bind (wpAny_callSpecial?_slot (name:=Str.ofString "__next__") hit.typeIs PyProof.Rows.slot_tupleiter_next (wpAny_call_entry PyProof.Rows.slot_tupleiter_next hit.typeIs PyProof.Rows.entry_tupleiter_next ?_ (PyProof.Rows.args_tupleiter_next _)));show wpAny _ _ (field (.ref it) 0 >>= _) _ _ s;refine wpAny_bind (wpAny_field eo ed (x:=.ref l) rfl ?_);show wpAny _ _ (if(Value.ref l==Value.none)=true then _ else _) _ _ s;rw[if_neg (show ¬ (Value.ref l==Value.none)=true from Bool.false_ne_true)];show wpAny _ _ (field (.ref it) 1 >>= _) _ _ s;refine wpAny_bind (wpAny_field eo ed (x:=.int k 0) rfl ?_);show wpAny _ _ (seqItems? (.ref l) >>= _) _ _ s;refine wpAny_bind (wpAny_seqItems el edl ?_);simp only[toNat_natCast,hx];refine wpAny_bind (wpAny_rule (wpAny_bind (wpAny_setField eo ed (by simp) ?_)));show wpAny _ _ (newExc (.type "StopIteration") [] >>= _) _ _ _;refine wpAny_bind ?_;simp only[newExc,newTuple];refine wpAny_bind (wpAny_newObj_type ?_ (by size_fits));refine wpAny_bind (m:=firstArgMember _ _) (wpAny_of_eq (a:=Value.none) (by first|rfl|(simp only[firstArgMember];rfl)) ?_);refine wpAny_newObj_type ?_ (by size_fits);simp only[raiseNew];refine wpAny_bind (wpAny_handled ?_)
 first|rw[show A.in1.handled=none from hh]|rw[hh]
 exact wpAny_bind (wpAny_pure (wpAny_throw (hE _ _ (((Heap.SameBut.update ..).extBut.push _).push _) ⟨_,Heap.get?_push_size _ rfl,rfl⟩)))
def IP{tp:Bool}(hit:RowI tp s.heap it l k)(hl:RowL tp s.heap l xs)(hx:xs[k]?=some x){Q:Value->Shared->Prop}(hQ:∀g,RowI tp g it l (k+1)->Heap.SameBut it s.heap g->Q x { s with heap:=g }):
 wpAny (model prog w) A (Builtin.SmallTypes.nextOf (.ref it)) Q E s:=by
 cases tp with
 |true=>exact S6 hit hl hx hQ
 |false=>exact wpAny_nextOf_list_item hit hl hx hQ
def Lo{tp:Bool}(hh:A.handled=none)(hit:RowI tp s.heap it l k)(hl:RowL tp s.heap l xs)(hx:xs[k]?=none){Q:Value->Shared->Prop}(hE:∀g e,Heap.ExtBut it s.heap g->(∃o,g.get? e=some o/\o.cls=.type "StopIteration")->E (.ref e) { s with heap:=g }):
 wpAny (model prog w) A (Builtin.SmallTypes.nextOf (.ref it)) Q E s:=by
 cases tp with
 |true=>exact S5 hh hit hl hx hE
 |false=>exact wpAny_nextOf_list_end hh hit hl hx hE
end
structure ZAt(t1 t2:Bool)(h:Heap)(z a b i1 i2 l1 l2:Addr)(f0:Value)(j k:Nat):Prop where
 z:IsZip h z a b f0
 p:IsPair h a (.ref i1) (.ref i2)
 o:∃u v,IsPair h b u v
 r1:RowI t1 h i1 l1 j
 r2:RowI t2 h i2 l2 k
structure ZNe(z a b i1 i2 l1 l2:Addr):Prop where
 az:a≠z
 bz:b≠z
 iz:i1≠z
 jz:i2≠z
 ab:a≠b
 ai:a≠i1
 aj:a≠i2
 bi:b≠i1
 bj:b≠i2
 ij:i1≠i2
 lz:l1≠z
 lb:l1≠b
 li:l1≠i1
 lj:l1≠i2
 mz:l2≠z
 mb:l2≠b
 mi:l2≠i1
 mj:l2≠i2
section
variable{prog:Program}{w:World}{A:Around}{E:Value->Shared->Prop}{s:Shared}{t1 t2:Bool}{z a b i1 i2 l1 l2:Addr}{j k:Nat}{xs ys:Array Value}{x y:Value}
abbrev PY(z b i1 i2:Addr)(h h':Heap):Prop:=∀c o,c≠z->c≠b->c≠i1->c≠i2->h.get? c=some o->h'.get? c=some o
def Rp(N:ZNe z a b i1 i2 l1 l2)(Z:ZAt t1 t2 s.heap z a b i1 i2 l1 l2 .none j k)(hl1:RowL t1 s.heap l1 xs)(hl2:RowL t2 s.heap l2 ys)(hx:xs[j]?=some x)(hy:ys[k]?=some y){Q:Value->Shared->Prop}
 (hQ:∀g,ZAt t1 t2 g z a b i1 i2 l1 l2 (rawInt s.heap.objs.size) (j+1) (k+1)->IsPair g s.heap.objs.size x y->PY z b i1 i2 s.heap g->Q (.ref s.heap.objs.size) { s with heap:=g }):
 wpAny (model prog w) A (Builtin.«zip.__next__» ⟨[.ref z],[]⟩) (λfin s'=>∃v,fin=.done (.ret v)/\Q v s') E s:=by
 obtain⟨hz,hp,⟨u,v,hb⟩,q1,q2⟩:=Z;show wpAny _ _ (field (.ref z) 2 >>= _) _ _ _;refine wpAny_bind (wpAny_field hz rfl (x:=.bool false) rfl ?_);show wpAny _ _ (field (.ref z) 3 >>= _) _ _ _;refine wpAny_bind (wpAny_field hz rfl (x:=.ref a) rfl (wpAny_bind (wpAny_seqItems hp rfl ?_)));show wpAny _ _ (Builtin.SmallTypes.ownedTupleIsFree (.ref z) >>= _) _ _ _;unfold Builtin.SmallTypes.ownedTupleIsFree;refine wpAny_bind (wpAny_bind (wpAny_field hz rfl (x:=.none) rfl (wpAny_pure ?_)));simp only[if_true];refine wpAny_bind (wpAny_rule (wpAny_bind (wpAny_field hz rfl (x:=.ref b) rfl ?_)));refine wpAny_bind (wpAny_setField_rec hz (by simp) λg1 z1 s1=>?_);have z1:IsZip g1 z a b .ellipsis:=z1;refine wpAny_bind ?_;simp only[zipIdx_cons,List.zipIdx_nil,List.forIn_cons,List.forIn_nil];refine wpAny_bind (wpAny_bind (wpAny_onRaise ?_));show wpAny _ _ (Builtin.SmallTypes.nextOf (.ref i1) >>= _) _ _ _;refine wpAny_bind (IP (s:={ s with heap:=g1 }) (q1.at λo e=>s1.extBut _ _ N.iz e) (hl1.at λo e=>s1.extBut _ _ N.lz e) hx λg2 r2 s2=>wpAny_pure ?_);have b2:IsPair g2 b u v:=s2.extBut _ _ N.bi (s1.extBut _ _ N.bz hb);refine wpAny_bind (wpAny_seqItems b2 rfl (wpAny_bind (wpAny_updateSeq_pair b2 λg3 b3 s3=>?_)));have b3:IsPair g3 b x v:=b3;refine wpAny_bind (wpAny_letGo (wpAny_pure (wpAny_bind (wpAny_bind (wpAny_onRaise ?_)))));show wpAny _ _ (Builtin.SmallTypes.nextOf (.ref i2) >>= _) _ _ _;have q3:RowI t2 g3 i2 l2 k:=q2.at λo e=>s3.extBut _ _ N.bj.symm (s2.extBut _ _ N.ij.symm (s1.extBut _ _ N.jz e));have m3:RowL t2 g3 l2 ys:=hl2.at λo e=>s3.extBut _ _ N.mb (s2.extBut _ _ N.mi (s1.extBut _ _ N.mz e));refine wpAny_bind (IP (s:={ s with heap:=g3 }) q3 m3 hy λg4 r4 s4=>wpAny_pure ?_);have b4:IsPair g4 b x v:=s4.extBut _ _ N.bj b3;refine wpAny_bind (wpAny_seqItems b4 rfl (wpAny_bind (wpAny_updateSeq_pair b4 λg5 b5 s5=>?_)));have b5:IsPair g5 b x y:=b5;refine wpAny_bind (wpAny_letGo (wpAny_pure (wpAny_pure (wpAny_bind (wpAny_seqItems b5 rfl (wpAny_bind (wpAny_newTuple ?_)))))));have sz:g5.objs.size=s.heap.objs.size:=by rw[s5.1,s4.1,s3.1,s2.1,s1.1]
 have z5:IsZip g5 z a b .ellipsis:=s5.extBut _ _ N.bz.symm (s4.extBut _ _ N.jz.symm (s3.extBut _ _ N.bz.symm (s2.extBut _ _ N.iz.symm z1)));have kp:PY z b i1 i2 s.heap g5:=λc o c1 c2 c3 c4 e=>s5.extBut _ _ c2 (s4.extBut _ _ c4 (s3.extBut _ _ c2 (s2.extBut _ _ c3 (s1.extBut _ _ c1 e))));have w1:RowI t1 g5 i1 l1 (j+1):=r2.at λo e=>s5.extBut _ _ N.bi.symm (s4.extBut _ _ N.ij (s3.extBut _ _ N.bi.symm e));have w2:RowI t2 g5 i2 l2 (k+1):=r4.at λo e=>s5.extBut _ _ N.bj.symm e;have zlt:=Heap.lt_size z5;show wpAny _ _ (Builtin.SmallTypes.ownedTupleHandOut (.ref z) (.ref g5.objs.size) >>= _) _ _ _;unfold Builtin.SmallTypes.ownedTupleHandOut;have z6:IsZip (g5.push { cls:=.type "tuple",data:=.seq #[x,y] }) z a b .ellipsis:=Heap.get?_push_of_some _ z5;refine wpAny_bind (wpAny_bind (wpAny_setField_rec z6 (by simp) λg7 z7 s7=>?_));have z7:IsZip g7 z a b (rawInt g5.objs.size):=z7;refine wpAny_setField_rec z7 (by simp) λg8 z8 s8=>wpAny_pure ⟨_,rfl,?_⟩;have z8:IsZip g8 z a b (rawInt g5.objs.size):=z8;have up:∀c o,c≠z->g5.get? c=some o->g8.get? c=some o:=λc o c1 e=>s8.extBut _ _ c1 (s7.extBut _ _ c1 (Heap.get?_push_of_some _ e));have t8:IsPair g8 g5.objs.size x y:=s8.extBut _ _ (ne_of_gt zlt) (s7.extBut _ _ (ne_of_gt zlt) (Heap.get?_push_size _ rfl));show Q (.ref g5.objs.size) _;rw[sz]at z8 t8 ⊢;exact hQ g8 ⟨z8,up _ _ N.az (kp _ _ N.az N.ab N.ai N.aj hp),⟨_,_,up _ _ N.bz b5⟩,w1.at λo e=>up _ o N.iz e,w2.at λo e=>up _ o N.jz e⟩ t8 λc o c1 c2 c3 c4 e=>up c o c1 (kp c o c1 c2 c3 c4 e)
def Rn(hh:A.handled=none)(N:ZNe z a b i1 i2 l1 l2)(Z:ZAt t1 t2 s.heap z a b i1 i2 l1 l2 .none j k)(hl1:RowL t1 s.heap l1 xs)(hl2:RowL t2 s.heap l2 ys)(hend:xs[j]?=none∨ys[k]?=none){Q:Fin->Shared->Prop}
 (hE:∀g e,PY z b i1 i2 s.heap g->(∃o,g.get? e=some o/\o.cls=.type "StopIteration")->E (.ref e) { s with heap:=g }):
 wpAny (model prog w) A (Builtin.«zip.__next__» ⟨[.ref z],[]⟩) Q E s:=by
 obtain⟨hz,hp,⟨u,v,hb⟩,q1,q2⟩:=Z;show wpAny _ _ (field (.ref z) 2 >>= _) _ _ _;refine wpAny_bind (wpAny_field hz rfl (x:=.bool false) rfl ?_);show wpAny _ _ (field (.ref z) 3 >>= _) _ _ _;refine wpAny_bind (wpAny_field hz rfl (x:=.ref a) rfl (wpAny_bind (wpAny_seqItems hp rfl ?_)));show wpAny _ _ (Builtin.SmallTypes.ownedTupleIsFree (.ref z) >>= _) _ _ _;unfold Builtin.SmallTypes.ownedTupleIsFree;refine wpAny_bind (wpAny_bind (wpAny_field hz rfl (x:=.none) rfl (wpAny_pure ?_)));simp only[if_true];refine wpAny_bind (wpAny_rule (wpAny_bind (wpAny_field hz rfl (x:=.ref b) rfl ?_)));refine wpAny_bind (wpAny_setField_rec hz (by simp) λg1 z1 s1=>?_);have z1:IsZip g1 z a b .ellipsis:=z1;refine wpAny_bind ?_;simp only[zipIdx_cons,List.zipIdx_nil,List.forIn_cons,List.forIn_nil];refine wpAny_bind (wpAny_bind (wpAny_onRaise ?_));show wpAny _ _ (Builtin.SmallTypes.nextOf (.ref i1) >>= _) _ _ _;have o1:RowI t1 g1 i1 l1 j:=q1.at λo e=>s1.extBut _ _ N.iz e;have m1:RowL t1 g1 l1 xs:=hl1.at λo e=>s1.extBut _ _ N.lz e;cases hx:xs[j]? with
 |none=>
  refine wpAny_bind (Lo (s:={ s with heap:=g1 }) hh o1 m1 hx λg2 e s2 he=>?_);obtain⟨oe,he1,he2⟩:=he;have z2:IsZip g2 z a b .ellipsis:=s2 _ _ N.iz.symm z1;have ne:e≠z:=λq=>by subst q;rw[z2]at he1;cases he1;simp at he2
  exact wpAny_setField_rec z2 (by simp) λg3 _ s3=>hE g3 e (λc o c1 _ c3 _ q=>s3.extBut _ _ c1 (s2 _ _ c3 (s1.extBut _ _ c1 q))) ⟨oe,s3.extBut _ _ ne he1,he2⟩
 |some x=>
  have hy:ys[k]?=none:=by
   rcases hend with q|q
   .rw[hx]at q;cases q
   .exact q
  refine wpAny_bind (IP (s:={ s with heap:=g1 }) o1 m1 hx λg2 r2 s2=>wpAny_pure ?_);have b2:IsPair g2 b u v:=s2.extBut _ _ N.bi (s1.extBut _ _ N.bz hb);refine wpAny_bind (wpAny_seqItems b2 rfl (wpAny_bind (wpAny_updateSeq_pair b2 λg3 b3 s3=>?_)));refine wpAny_bind (wpAny_letGo (wpAny_pure (wpAny_bind (wpAny_bind (wpAny_onRaise ?_)))));show wpAny _ _ (Builtin.SmallTypes.nextOf (.ref i2) >>= _) _ _ _;have q3:RowI t2 g3 i2 l2 k:=q2.at λo e=>s3.extBut _ _ N.bj.symm (s2.extBut _ _ N.ij.symm (s1.extBut _ _ N.jz e));have m3:RowL t2 g3 l2 ys:=hl2.at λo e=>s3.extBut _ _ N.mb (s2.extBut _ _ N.mi (s1.extBut _ _ N.mz e));refine wpAny_bind (Lo (s:={ s with heap:=g3 }) hh q3 m3 hy λg4 e s4 he=>?_);obtain⟨oe,he1,he2⟩:=he;have z4:IsZip g4 z a b .ellipsis:=s4 _ _ N.jz.symm (s3.extBut _ _ N.bz.symm (s2.extBut _ _ N.iz.symm z1));have ne:e≠z:=λq=>by subst q;rw[z4]at he1;cases he1;simp at he2
  exact wpAny_setField_rec z4 (by simp) λg5 _ s5=>hE g5 e (λc o c1 c2 c3 c4 q=>s5.extBut _ _ c1 (s4 _ _ c4 (s3.extBut _ _ c2 (s2.extBut _ _ c3 (s1.extBut _ _ c1 q))))) ⟨oe,s5.extBut _ _ ne he1,he2⟩
end
def SqS(K:PySem.W.Frag)(tp:Bool)(H:Hp)(a:Addr)(xs:List V):Prop:=match tp with
 |true=>SqT K H a xs
 |false=>SqL K H a xs
def Itz(K:PySem.W.Frag)(t1 t2:Bool)(a b:Addr):It:=
 ⟨λi H=>∃xs ys x y,SqS K t1 H a xs/\SqS K t2 H b ys/\xs[i]?=some x/\ys[i]?=some y,
  λi H x H'=>∃p u v,H p=none/\H'=upd H p (.tup [u,v])/\x=.ref p/\(∀xs,SqS K t1 H a xs->xs[i]?=some u)/\∀ys,SqS K t2 H b ys->ys[i]?=some v,
  λi H=>∃xs ys,SqS K t1 H a xs/\SqS K t2 H b ys/\(xs.length<=i∨ys.length<=i)⟩
section
variable{X:Cx}{pins:List (Addr×Obj)}{σ:List (Option V)}{H:Hp}{s:Shared}
def Inv.row{tp:Bool}{a:Addr}{xs:List V}(I:Inv X pins σ H s)(h:SqS X.K tp H a xs):∃its:List Value,Vals xs its/\RowL tp s.heap a its.toArray/\xs.length<=sizeLine:=by
 cases tp with
 |true=>obtain⟨its,r,p,z⟩:=I.tuple h;exact⟨its,r,(show s.heap.IsTuple a its.toArray from p),z⟩
 |false=>obtain⟨its,r,p,z⟩:=I.list h;exact⟨its,r,p.isList,z⟩
def Inv.row_inj{tp:Bool}{a:Addr}{xs ys:List V}(I:Inv X pins σ H s)(h:SqS X.K tp H a xs)(h':SqS X.K tp H a ys):xs=ys:=by
 cases tp with
 |true=>exact I.tuple_inj h h'
 |false=>exact I.list_inj h h'
end
def RowL.lt{tp:Bool}{h:Heap}{l:Addr}{xs:Array Value}(x:RowL tp h l xs):l<h.objs.size:=by
 obtain⟨o,n,e,_⟩:=x.obj;exact Heap.lt_size e
def XA{M:Model}{A:Around}{E:Value->Shared->Prop}{s:Shared}{elts:List Expr}{x1}{pos:Pos}{z a b T:Addr}{Q:Unit->Shared->Prop}(hz:IsZip s.heap z a b (rawInt T)){prog:Program}{w:World}
 (hQ:∀g,IsZip g z a b .none->Heap.SameBut z s.heap g->Q () { s with heap:=g }):wpAny (model prog w) A (letOwnedTupleGo (.Tuple elts x1 pos) (.ref z) (.ref T)) Q E s:=wpAny_letOwnedTupleGo_zip hz hQ
def S4{P:Program}{w:World}{K:PySem.W.Frag}{elts:List Expr}{kk:Nat}{tpos:Pos}{t1 t2:Bool}{z a b i1 i2 l1 l2:Addr}(N:ZNe z a b i1 i2 l1 l2):Turn P w K (.Tuple elts kk tpos) (Itz K t1 t2 l1 l2) [z,a,b,i1,i2] z (λi h=>ZAt t1 t2 h z a b i1 i2 l1 l2 .none i i) where
 mem:=by simp
 obj:=λi h st c hc=>by
  obtain⟨hz,hp,⟨u,v,hb⟩,q1,q2⟩:=st;simp only[mem_cons,not_mem_nil,or_false]at hc;rcases hc with rfl|rfl|rfl|rfl|rfl
  .exact⟨_,hz,λv z=>by cases(show Data.fields _=Data.cell v from z)⟩
  .exact⟨_,hp,λv z=>by cases(show Data.seq _ _=Data.cell v from z)⟩
  .exact⟨_,hb,λv z=>by cases(show Data.seq _ _=Data.cell v from z)⟩
  .obtain⟨o,e,d⟩:=q1.obj;exact⟨o,e,λv z=>by rw[d]at z;cases z⟩
  .obtain⟨o,e,d⟩:=q2.obj;exact⟨o,e,λv z=>by rw[d]at z;cases z⟩
 keep:=λi h h' st k=>by
  obtain⟨hz,hp,⟨u,v,hb⟩,q1,q2⟩:=st;exact⟨k z (by simp) _ hz,k a (by simp) _ hp,⟨u,v,k b (by simp) _ hb⟩,q1.at λo e=>k i1 (by simp) o e,q2.at λo e=>k i2 (by simp) o e⟩
 item:=by
  intro X hP hw hK hc i pins s σ H E I hf st hg;subst hP hw hK;obtain⟨xs,ys,x,y,h1,h2,hx,hy⟩:=hg;obtain⟨ix,rx,px,zx⟩:=I.row h1;obtain⟨iy,ry,py,zy⟩:=I.row h2;obtain⟨u,hu,ru⟩:=rx.get hx;obtain⟨v,hv,rv⟩:=ry.get hy;have hT:s.TypeIs (.ref z) "zip":=⟨_,st.z,rfl⟩
  unfold pyNext;refine wpAny_bind (wpAny_attempt (wpAny_callSpecial?_slot (name:=Str.ofString "__next__") hT F.slot_zip_next (wpAny_call_entry F.slot_zip_next hT F.entry_zip_next
   (Rp N st px py (x:=u) (y:=v) (by simpa using hu) (by simpa using hv) λg Z g5 kp=>wpAny_pure ⟨_,rfl,?_⟩) (F.args_zip_next_1 _))))
  refine XA (M:=model X.prog X.w) (s:={ s with heap:=g }) Z.z λg' z' sb=>?_;have kp2:∀c o,c∉[z,a,b,i1,i2]->s.heap.get? c=some o->g'.get? c=some o:=λc o nc e=>by
   simp only[mem_cons,not_mem_nil,or_false,not_or]at nc;exact sb.extBut _ _ nc.1 (kp c o nc.1 nc.2.2.1 nc.2.2.2.1 nc.2.2.2.2 e)
  have hTz:s.heap.objs.size≠z:=ne_of_gt (Heap.lt_size st.z);have hpair:IsPair g' s.heap.objs.size u v:=sb.extBut _ _ hTz g5;have fresh:H s.heap.objs.size=none:=I.hok.fresh (le_refl _);have I2:Inv X pins σ (upd H s.heap.objs.size (.tup [x,y])) { s with heap:=g' }:=I.turnsL (tk:=s.toks) (o:=.tup [x,y]) kp2 hf (le_refl _)
   (show ObjOk X.prog X.w _ g' _ (.tup [x,y])from⟨by show 2<=sizeLine;decide,[u,v],.cons ru (.cons rv .nil),⟨_,hpair,rfl,⟨_,rfl⟩,rfl⟩⟩)
  refine⟨.ref s.heap.objs.size,_,I2,rfl,⟨_,x,y,fresh,rfl,rfl,λxs' q=>by rw[I.row_inj q h1];exact hx,λys' q=>by rw[I.row_inj q h2];exact hy⟩,⟨z',?_,?_,?_,?_⟩,λc hc=>?_⟩
  .exact sb.extBut _ _ N.az Z.p
  .obtain⟨p,q,e⟩:=Z.o;exact⟨p,q,sb.extBut _ _ N.bz e⟩
  .exact Z.r1.at λo e=>sb.extBut _ _ N.iz e
  .exact Z.r2.at λo e=>sb.extBut _ _ N.jz e
  .have lt:c<s.heap.objs.size:=by
    obtain⟨hz,hp,⟨u,v,hb⟩,q1,q2⟩:=st;simp only[mem_cons,not_mem_nil,or_false]at hc;rcases hc with rfl|rfl|rfl|rfl|rfl
    .exact Heap.lt_size hz
    .exact Heap.lt_size hp
    .exact Heap.lt_size hb
    .obtain⟨o,e,_⟩:=q1.obj;exact Heap.lt_size e
    .obtain⟨o,e,_⟩:=q2.obj;exact Heap.lt_size e
   rw[AC (ne_of_lt lt)];exact(hf c hc).1
 done:=by
  intro X hP hw hK hc i pins s σ H E I hf st hg;subst hP hw hK;obtain⟨xs,ys,h1,h2,hend⟩:=hg;obtain⟨ix,rx,px,zx⟩:=I.row h1;obtain⟨iy,ry,py,zy⟩:=I.row h2;have l1':=rx.length;have l2':=ry.length;have hT:s.TypeIs (.ref z) "zip":=⟨_,st.z,rfl⟩
  unfold pyNext;refine wpAny_bind (wpAny_attempt (wpAny_callSpecial?_slot (name:=Str.ofString "__next__") hT F.slot_zip_next (wpAny_call_entry F.slot_zip_next hT F.entry_zip_next
   (Rn (A:=X.A.in1) (show X.A.in1.handled=none from I.ok.hd hc) N st px py (hend.imp (λq=>by simp;omega) λq=>by simp;omega) λg e kp he=>?_) (F.args_zip_next_1 _))))
  obtain⟨o,ho,hcl⟩:=he;refine wpAny_bind (wpAny_isInstance (T:="StopIteration") (b:=true) ⟨o,ho,hcl⟩ isSubtype_stop (wpAny_pure ⟨rfl,?_⟩));exact I.turns (tk:=s.toks) (λc o nc e=>by
   simp only[mem_cons,not_mem_nil,or_false,not_or]at nc;exact kp c o nc.1 nc.2.2.1 nc.2.2.2.1 nc.2.2.2.2 e) hf
 self:=λ_ _ _ _ _ st h=>wpAny_pyIter_zip st.z h
abbrev EC(tp:Bool)(l:Addr):Obj:={ cls:=.type (match tp with|true=>"tuple_iterator" | false=>"list_iterator"),data:=.fields #[.ref l,.int 0 0] }
abbrev zh1(t1:Bool)(h:Heap)(l1:Addr):Heap:=h.push (EC t1 l1)
abbrev zh2(t1 t2:Bool)(h:Heap)(l1 l2:Addr):Heap:=(zh1 t1 h l1).push (EC t2 l2)
abbrev zh3(t1 t2:Bool)(h:Heap)(l1 l2:Addr):Heap:=(zh2 t1 t2 h l1 l2).push { cls:=.type "tuple",data:=.seq #[.ref h.objs.size,.ref (zh1 t1 h l1).objs.size] }
abbrev zh4(t1 t2:Bool)(h:Heap)(l1 l2:Addr):Heap:=(zh3 t1 t2 h l1 l2).push { cls:=.type "tuple",data:=.seq #[.none,.none] }
abbrev zh5(t1 t2:Bool)(h:Heap)(l1 l2:Addr):Heap:=(zh4 t1 t2 h l1 l2).push { cls:=.type "zip",data:=.fields #[.none,.bool false,.bool false,.ref (zh2 t1 t2 h l1 l2).objs.size,.ref (zh3 t1 t2 h l1 l2).objs.size] }
set_option maxHeartbeats 4000000 in
def Rq(t1 t2:Bool)(l1 l2:Addr)(xs ys:Array Value):
 Meets (Builtin.«zip.__new__» ⟨[.type "zip",.ref l1,.ref l2],[]⟩) (λ_ R s=>RowL t1 s.heap l1 xs/\RowL t2 s.heap l2 ys/\R (.ok (.ret (.ref (zh4 t1 t2 s.heap l1 l2).objs.size))) { s with heap:=zh5 t1 t2 s.heap l1 l2 }):=
 .of_wp λprog w A R s h=>by
  obtain⟨hp,g,d,tk,os⟩:=s;obtain⟨q1,q2,h⟩:=h;have hsub:=sub_zip;have q2':RowL t2 (hp.push (EC t1 l1)) l2 ys:=q2.at λo e=>Heap.get?_push_of_some _ e;cases t1<;>cases t2
  .have p1:Heap.IsList (Shared.heap ⟨hp,g,d,tk,os⟩) l1 xs:=q1;have p2:Heap.IsList (Shared.heap ⟨hp.push (EC false l1),g,d,tk,os⟩) l2 ys:=q2'
   wp_walk using wpAny_pyIter_list p1,wpAny_pyIter_list p2
   exact⟨_,rfl,h⟩
  .have p1:Heap.IsList (Shared.heap ⟨hp,g,d,tk,os⟩) l1 xs:=q1;have p2:Heap.IsTuple (Shared.heap ⟨hp.push (EC false l1),g,d,tk,os⟩) l2 ys:=q2'
   wp_walk using wpAny_pyIter_list p1,wpAny_pyIter_tuple p2
   exact⟨_,rfl,h⟩
  .have p1:Heap.IsTuple (Shared.heap ⟨hp,g,d,tk,os⟩) l1 xs:=q1;have p2:Heap.IsList (Shared.heap ⟨hp.push (EC true l1),g,d,tk,os⟩) l2 ys:=q2'
   wp_walk using wpAny_pyIter_tuple p1,wpAny_pyIter_list p2
   exact⟨_,rfl,h⟩
  .have p1:Heap.IsTuple (Shared.heap ⟨hp,g,d,tk,os⟩) l1 xs:=q1;have p2:Heap.IsTuple (Shared.heap ⟨hp.push (EC true l1),g,d,tk,os⟩) l2 ys:=q2'
   wp_walk using wpAny_pyIter_tuple p1,wpAny_pyIter_tuple p2
   exact⟨_,rfl,h⟩
def UY{n l1 l2:Addr}(h1:l1<n)(h2:l2<n):ZNe (n+4) (n+2) (n+3) n (n+1) l1 l2:=by
 have k1:@LT.lt Nat _ l1 n:=h1;have k2:@LT.lt Nat _ l2 n:=h2;constructor<;>(intro z;have z:@Eq Nat _ _:=z;omega)
def NW{tp:Bool}{h:Heap}{a l:Addr}(e:h.get? a=some (EC tp l)):RowI tp h a l 0:=by
 cases tp with
 |true=>exact⟨_,e,rfl,rfl⟩
 |false=>exact⟨_,e,rfl,rfl⟩
section
variable{prog:Program}{w:World}{A:Around}{E:Value->Shared->Prop}{s:Shared}
def Rr{t1 t2:Bool}{l1 l2:Addr}{xs ys:Array Value}{Q:Value->Shared->Prop}(q1:RowL t1 s.heap l1 xs)(q2:RowL t2 s.heap l2 ys)
 (h:∀g,ZAt t1 t2 g (s.heap.objs.size+4) (s.heap.objs.size+2) (s.heap.objs.size+3) s.heap.objs.size (s.heap.objs.size+1) l1 l2 .none 0 0->(∀c o,s.heap.get? c=some o->g.get? c=some o)->Q (.ref (s.heap.objs.size+4)) { s with heap:=g }):
 wpAny (model prog w) A (call (.type "zip") [.ref l1,.ref l2]) Q E s:=by
 refine callType_new F.called_zip (by decide) (F.typeCall_zip_2 _ _) (F.newCall_zip_2 _ _) (λobj=>F.args_object_init_3 obj _ _) F.entry_zip_new (Rq t1 t2 l1 l2 xs ys) ⟨q1,q2,?_⟩;have n1:(zh1 t1 s.heap l1).objs.size=s.heap.objs.size+1:=Heap.size_push ..;have n2:(zh2 t1 t2 s.heap l1 l2).objs.size=s.heap.objs.size+2:=by rw[Heap.size_push,n1]
 have n3:(zh3 t1 t2 s.heap l1 l2).objs.size=s.heap.objs.size+3:=by rw[Heap.size_push,n2]
 have n4:(zh4 t1 t2 s.heap l1 l2).objs.size=s.heap.objs.size+4:=by rw[Heap.size_push,n3]
 have up:∀{g:Heap} {c:Addr} {o x:Obj},g.get? c=some o->(g.push x).get? c=some o:=λe=>Heap.get?_push_of_some _ e;have e5:(zh5 t1 t2 s.heap l1 l2).get? (zh4 t1 t2 s.heap l1 l2).objs.size=some _:=Heap.get?_push_size _ rfl;have e4:(zh5 t1 t2 s.heap l1 l2).get? (zh3 t1 t2 s.heap l1 l2).objs.size=some _:=up (Heap.get?_push_size _ rfl);have e3:(zh5 t1 t2 s.heap l1 l2).get? (zh2 t1 t2 s.heap l1 l2).objs.size=some _:=up (up (Heap.get?_push_size _ rfl));have e2:(zh5 t1 t2 s.heap l1 l2).get? (zh1 t1 s.heap l1).objs.size=some (EC t2 l2):=up (up (up (Heap.get?_push_size _ (by cases t2<;>rfl))));have e1:(zh5 t1 t2 s.heap l1 l2).get? s.heap.objs.size=some (EC t1 l1):=up (up (up (up (Heap.get?_push_size _ (by cases t1<;>rfl)))));show _/\_;rw[n2,n3,n4]at e5;rw[n1,n2]at e3;rw[n3]at e4;rw[n1]at e2;rw[n4];exact⟨⟨_,e5,rfl⟩,h _ ⟨e5,e3,⟨_,_,e4⟩,NW e1,NW e2⟩ λc o x=>up (up (up (up (up x))))⟩
end
def P8(K:PySem.W.Frag)(t1 t2:Bool)(ta:TA):TI:=λσ H R=>ta σ H λvs H1=>∃a b xs ys,vs=[.ref a,.ref b]/\SqS K t1 H1 a xs/\SqS K t2 H1 b ys/\R (Itz K t1 t2 a b) H1
section
variable{X:Cx}
def Yv{t1 t2:Bool}{a b:Expr}{ta:TA}{elts:List Expr}{kk:Nat}{tpos p pos:Pos}(hg:Gl X "zip")(hm:X.mg "zip"=none)(ha:PA X [a,b] ta)(hs:starEach [a,b] X.env=[(false,eval a X.env),(false,eval b X.env)]:=by rfl)(hs2:starEach [b] X.env=[(false,eval b X.env)]:=by rfl):
 PI X (.Tuple elts kk tpos) (.Call (.Name "zip" p) [a,b] [] pos) (P8 X.K t1 t2 ta):=by
 intro pins s σ H R I h;refine Call_ (D0 I hg hm boot_zip (PyProof.Rows.callWith_type1 (thn (ha pos pins s σ H _ I h) λus s1 ⟨vs,H1,I1,r1,q1⟩=>?_) (by rw[hs,hs2]) (by rw[hs2];rfl)));obtain⟨l1,l2,xs,ys,e,c1,c2,q⟩:=q1;subst e;obtain⟨u,v,rfl,ru,rv⟩:=Kx r1;cases ru;cases rv;obtain⟨ix,rx,px,zx⟩:=I1.row c1;obtain⟨iy,ry,py,zy⟩:=I1.row c2;refine Rr px py λg Z kp=>wpAny_pyIter_zip Z.z ?_;refine⟨_,_,_,_,H1,rfl,I1.kept (t':=s1.toks) kp,S4 (UY px.lt py.lt),Z,λc hc=>?_,q⟩;simp only[mem_cons,not_mem_nil,or_false]at hc;have le:s1.heap.objs.size<=c:=by
  rcases hc with rfl|rfl|rfl|rfl|rfl
  .exact le_add_right _ _
  .exact le_add_right _ _
  .exact le_add_right _ _
  .exact le_refl _
  .exact le_add_right _ _
 exact I1.fpOk le (I1.hok.fresh le)
def W8(K:PySem.W.Frag){t1 t2:Bool}{a b:Expr}{ta:TA}{elts:List Expr}{kk:Nat}{tpos p pos:Pos}(hg:Gl X "zip")(hm:X.mg "zip"=none)(ha:PA X [a,b] ta)(hK:X.K=K:=by rfl)(hs:starEach [a,b] X.env=[(false,eval a X.env),(false,eval b X.env)]:=by rfl)(hs2:starEach [b] X.env=[(false,eval b X.env)]:=by rfl):
 PI X (.Tuple elts kk tpos) (.Call (.Name "zip" p) [a,b] [] pos) (P8 K t1 t2 ta):=by subst hK;exact Yv hg hm ha hs hs2
end
def bG(K:PySem.W.Frag)(ρ:List Addr)(H:Hp)(tp:Bool)(a:Addr)(ds:List D)(g:Gd):Prop:=∀(ρ2:List Addr) (H2:Hp) (hd2:Hd),Ext ρ H ρ2 H2->RH K ρ2 H2 hd2->GOk hd2 g->∃xs,SqS K tp H2 a xs/\RDs K ρ2 H2 ds xs
def RRw(K:PySem.W.Frag)(tp:Bool)(t:TE)(m:MI):Prop:=∀(ρ:List Addr) (σ:St) (H:Hp) (hd:Hd) (ls:Ls) (Q:VK) (d:List D) (g:Gd) (hd':Hd),RH K ρ H hd->RL K ρ H ls σ->m ls hd=some ((d,g),hd') ->
 (∀ρ' H' a,Ext ρ H ρ' H'->RH K ρ' H' hd'->GOk hd' g->bG K ρ' H' tp a d g->Q (.ref a) H')->t σ H Q
structure QR(K:PySem.W.Frag)(tp:Bool)(X:Cx)(e:Expr)(t:TE)(m:MI):Prop where
 p:PE X e t
 r:RRw K tp t m
section
variable{K:PySem.W.Frag}{ρ ρ':List Addr}{H H':Hp}{hd hd':Hd}
def Xd{t:TE}{m:ME}(h:RE K t m):RRw K true t (BB m):=by
 intro ρ σ H hd ls Q d g hd' hR hL hm hQ;obtain⟨⟨d1,h1⟩,e1,hm⟩:=c5 hm;obtain⟨ds,e2,e3⟩:=c7 hm;cases e3;refine h ρ σ H hd ls _ d1 _ hR hL e1 λρ1 H1 v x1 R1 r1=>?_;obtain⟨a,xs,rfl,q,r⟩:=r1.tup e2;exact hQ ρ1 H1 a x1 R1 (Aa _) λρ2 H2 hd2 x2 R2 _=>⟨xs,(x2.grow R1).sq q,r.ext R1 x2⟩
def Uy{t:TE}{m:ME}(h:RE K t m):RRw K false t (CW m):=by
 intro ρ σ H hd ls Q d g hd' hR hL hm hQ;obtain⟨⟨d1,h1⟩,e1,hm⟩:=c5 hm;dsimp only at hm;split at hm
 .next n=>
  split at hm
  .next ds q=>
   cases hm;refine h ρ σ H hd ls _ _ _ hR hL e1 λρ1 H1 v x1 R1 r1=>?_;simp only[RD]at r1;obtain⟨a,hn,rfl⟩:=r1;refine hQ ρ1 H1 a x1 R1 (λp z=>by simp at z;subst z;exact q) λρ2 H2 hd2 x2 R2 G2=>?_;have hn2:ρ2[n]?=some a:=by
    obtain⟨r,rfl,_⟩:=x2.pre;rw[List.getElem?_append_left (List.getElem?_eq_some_iff.mp hn).1];exact hn
   obtain⟨ys,e4,e5⟩:=R2.lst hn2 (G2 (n,d) (by simp));exact⟨ys,SqL.of e4,e5⟩
  .cases hm
 .next ns=>
  cases hm;refine h ρ σ H hd ls _ _ _ hR hL e1 λρ1 H1 v x1 R1 r1=>?_;simp only[RD]at r1;obtain⟨a,rfl,q⟩:=r1;exact hQ ρ1 H1 a x1 R1 (Aa _) λρ2 H2 hd2 x2 R2 _=>⟨_,(q.grow (x2.grow R1)).sq,Fu⟩
 .cases hm
def Xe{t:TE}{m:MA}(h:RN K t m):RRw K false t (Eb m):=by
 intro ρ σ H hd ls Q d g hd' hR hL hm hQ;obtain⟨⟨d1,h1⟩,e1,e3⟩:=c7 hm;cases e3;refine h ρ σ H hd ls _ _ _ hR hL e1 λρ1 H1 a xs x1 R1 na oa ea r1=>?_;exact hQ ρ1 H1 a x1 R1 (Aa _) λρ2 H2 hd2 x2 R2 _=>⟨xs,SqL.of (x2.keep a _ ea oa nt),r1.ext R1 x2⟩
open Classical in
def HD(ma mb:MI):MI:=λls hd=>(ma ls hd).bind λp=>(mb ls p.2).bind λq=>if GOk q.2 p.1.2 then some ((List.zipWith (λx y=>Ag [x,y]) p.1.1 q.1.1,p.1.2++q.1.2),q.2)else none
def Xo{t1 t2:Bool}{ta tb:TE}{ma mb:MI}(ha:RRw K t1 ta ma)(hb:RRw K t2 tb mb):RIt K (P8 K t1 t2 (BM ta (BM tb CI))) (HD ma mb):=by
 intro ρ σ H hd ls Q d g hd' hR hL hm hQ;obtain⟨⟨⟨d1,g1⟩,h1⟩,e1,hm⟩:=c5 hm;obtain⟨⟨⟨d2,g2⟩,h2⟩,e2,hm⟩:=c5 hm;dsimp only at hm;split at hm
 .next gk=>
  cases hm;refine ha ρ σ H hd ls _ d1 g1 h1 hR hL e1 λρ1 H1 a x1 R1 G1 S1=>?_;refine hb ρ1 σ H1 h1 ls _ d2 g2 _ R1 (hL.ext hR x1) e2 λρ2 H2 b x2 R2 G2 S2=>?_;obtain⟨xs,c1,r1⟩:=S1 ρ2 H2 _ x2 R2 gk;obtain⟨ys,c2,r2⟩:=S2 ρ2 H2 _ .refl R2 G2;refine⟨a,b,xs,ys,rfl,c1,c2,hQ ρ2 H2 _ (x1.trans R1 x2) R2 (λp hp=>(mem_append.mp hp).elim (gk p) (G2 p)) ?_⟩;intro ρ3 H3 hd3 x3 R3 G3 i;obtain⟨xs,c1,r1⟩:=S1 ρ3 H3 _ (x2.trans R2 x3) R3 λp hp=>G3 p (mem_append_left _ hp);obtain⟨ys,c2,r2⟩:=S2 ρ3 H3 _ x3 R3 λp hp=>G3 p (mem_append_right _ hp);have l1:=r1.len;have l2:=r2.len;refine⟨λhi=>?_,λhi=>⟨xs,ys,c1,c2,?_⟩⟩
  .simp only[List.length_zipWith]at hi;have i1:d1[i]?=some (d1[i]'(by omega)):=List.getElem?_eq_getElem _;have i2:d2[i]?=some (d2[i]'(by omega)):=List.getElem?_eq_getElem _;obtain⟨x,x4,x5⟩:=r1.get i1;obtain⟨y,y4,y5⟩:=r2.get i2;refine⟨⟨xs,ys,x,y,c1,c2,x4,y4⟩,λz H4 hz=>?_⟩;obtain⟨p,u,v,fp,rfl,rfl,hu,hv⟩:=hz;have eu:=hu xs c1;rw[x4]at eu;cases eu;have ev:=hv ys c2;rw[y4]at ev;cases ev;obtain⟨R4,x6⟩:=R3.hid (ho:=.tup [x,y]) fp;refine⟨ρ3,Ag [d1[i]'(by omega),d2[i]'(by omega)],x6,rfl,R4,?_,BW (SqT.of AJ) (.cons (x5.ext R3 x6) (.cons (y5.ext R3 x6) .nil))⟩;simp[List.getElem?_zipWith,i1,i2]
  .simp only[List.length_zipWith]at hi;omega
 .cases hm
end
section
variable(K:PySem.W.Frag){X:Cx}{a b e:Expr}{ta tb te:TE}{me:ME}{m:MA}
def QX(h:QE K X e te me):QR K true X e te (BB me):=⟨h.p,Xd h.r⟩
def Vf(h:QE K X e te me):QR K false X e te (CW me):=⟨h.p,Uy h.r⟩
def YN(h:QN K X e te m):QR K false X e te (Eb m):=⟨h.p,Xe h.r⟩
def YT{t1 t2:Bool}{ma mb:MI}{elts:List Expr}{kk:Nat}{tpos p pos:Pos}(hm:X.mg "zip"=none)(ha:QR K t1 X a ta ma)(hb:QR K t2 X b tb mb)(hg:Gl X "zip":=by rfl)(hK:X.K=K:=by rfl)(hs:starEach [a,b] X.env=[(false,eval a X.env),(false,eval b X.env)]:=by rfl)(hs2:starEach [b] X.env=[(false,eval b X.env)]:=by rfl):
 QI K X (.Tuple elts kk tpos) (.Call (.Name "zip" p) [a,b] [] pos) (P8 K t1 t2 (BM ta (BM tb CI))) (HD ma mb):=⟨W8 K hg hm (CA ha.p (CA hb.p Cv hs2) (by rw[hs,hs2])) hK hs hs2,Xo ha.r hb.r⟩
end
section
variable{K:PySem.W.Frag}
def FX(ml:MA)(mb:ME):ME:=λls hd=>(ml ls hd).bind λp=>(mb ls p.2).bind λq=>match q.1 with
 |.im (.int i)=>(atI p.1 i).map (·,q.2)
 |_=>none
def Y3{ta tb:TE}{ml:MA}{mb:ME}(ha:RN K ta ml)(hb:RE K tb mb):RE K (tOp (LB K) ta tb) (FX ml mb):=by
 and_intros;obtain⟨⟨d1,h1⟩,e1,hm⟩:=c5 hm;obtain⟨⟨d2,h2⟩,e2,hm⟩:=c5 hm;dsimp only at hm;split at hm
 .obtain⟨w,e3,e4⟩:=c7 hm;cases e4;refine ha ρ σ H hd ls _ d1 h1 hR hL e1 λρ1 H1 a xs x1 R1 na oa ea r1=>?_;refine hb ρ1 σ H1 h1 ls _ _ _ R1 (hL.ext hR x1) e2 λρ2 H2 v2 x2 R2 r2=>?_;simp only[RD,RI]at r2;subst r2;have r1':=r1.ext R1 x2;obtain⟨j,j1,j2⟩:=OA r1'.len e3;obtain⟨x,y1,y2⟩:=r1'.get j1;exact .inl ⟨a,xs,_,x,rfl,rfl,SqL.of (x2.keep a _ ea oa nt),j2 x y1,hQ ρ2 H2 x (x1.trans R1 x2) R2 y2⟩
 .cases hm
def Mg(neg:Bool)(x y:PyData)(hd:Hd):Option (D×Hd):=if x.canLay0=true/\y.canLay0=true/\min x.depth y.depth<=60 then some (.im (.bl (if neg then !PyData.eqv x y else PyData.eqv x y)),hd)else none
def FP(neg:Bool)(ma:ME)(ml:MA):ME:=λls hd=>(ma ls hd).bind λp=>(ml ls p.2).bind λq=>(pyD q.2 p.1).bind λx=>(C4 q.1).bind λis=>Mg neg x (.list (I.pys is)) q.2
def rEN(K:PySem.W.Frag)(neg:Bool):R2:=λx y H Q=>∃d e,Rep K H d x/\Rep K H e y/\d.canLay0=true/\e.canLay0=true/\min d.depth e.depth<=60/\Q (.bl (if neg then !PyData.eqv d e else PyData.eqv d e)) H
def VE{ρ:List Addr}{H:Hp}{a:Addr}{xs:List V}{ds:List D}{is:List I}(ea:H a=some (.lst xs))(r:RDs K ρ H ds xs)(e:C4 ds=some is):Rep K H (.list (I.pys is)) (.ref a):=by
 rw[GV e]at r;simp only[Rep];exact⟨a,xs,rfl,SqL.of ea,r.is.rep⟩
def VI{neg:Bool}{ta tb:TE}{ma:ME}{ml:MA}(ha:RE K ta ma)(hb:RN K tb ml):RE K (tOp (rEN K neg) ta tb) (FP neg ma ml):=by
 and_intros;obtain⟨⟨d1,h1⟩,e1,hm⟩:=c5 hm;obtain⟨⟨d2,h2⟩,e2,hm⟩:=c5 hm;obtain⟨x,e3,hm⟩:=c5 hm;obtain⟨is,e4,hm⟩:=c5 hm;unfold Mg at hm;split at hm
 .next c=>
  cases hm;refine ha ρ σ H hd ls _ d1 h1 hR hL e1 λρ1 H1 v x1 R1 r1=>?_;refine hb ρ1 σ H1 h1 ls _ d2 _ R1 (hL.ext hR x1) e2 λρ2 H2 a xs x2 R2 na oa ea r2=>?_;exact⟨_,_,Fo R2 (r1.ext R1 x2) e3,VE ea r2 e4,c.1,c.2.1,c.2.2,hQ ρ2 H2 _ (x1.trans R1 x2) R2 (by simp[RD,RI])⟩
 .cases hm
end
def ZE(K:PySem.W.Frag){X:Cx}(hu:X.A.units+64<cLine)(hK:X.K=K:=by rfl):OpR X (compareOp .NotEq) (rEN K true):=Ju K hu hK
section
variable(K:PySem.W.Frag){X:Cx}{a b e:Expr}{ta tb te:TE}{ma mb me:ME}{m mk:MA}{pos:Pos}{op:CmpOp}{neg:Bool}
def Yk(ha:QN K X a ta m)(hb:QE K X b tb mb)(hs:KC b:=by exact λ_ _=>rfl)(hK:X.K=K:=by rfl):QE K X (.Subscript a b pos) (tOp (LB K) ta tb) (FX m mb):=⟨UM ((MX K hK).or (Ny K hK)) ha.p hb.p hs,Y3 ha.r hb.r⟩
def VT(ho:OpR X (compareOp op) (rEN K neg))(ha:QE K X a ta ma)(hb:QN K X b tb m)(hm:behindInMarks op b=false:=by first|exact MB _|rfl):QT K X (.Compare a [op] [b] pos) (L7 (tOp (rEN K neg) ta tb)) (AM (FP neg ma m)):=⟨Nh ho ha.p hb.p hm,Ev (VI ha.r hb.r)⟩
end
def Fj(lo:Int):Nat->List V
 |0=>[]
 |n+1=>.int lo::Fj (lo+1) n
def JB{lo:Int}:∀{n:Nat} {us:List Value},us.length=n->(∀(j:Nat) (v:Value),us[j]?=some v->∃t,v=.int (lo+j*1) t)->Vals (Fj lo n) us
 |0,us,h,_=>by
  have:us=[]:=List.length_eq_zero_iff.mp h;subst this;exact .nil
 |n+1,[],h,_=>by simp at h
 |n+1,u::us,h,k=>by
  obtain⟨t,e⟩:=k 0 u rfl;refine .cons ⟨t,by rw[e];simp⟩ (JB (by simpa using h) λj v q=>?_);obtain⟨t',e'⟩:=k (j+1) v (by simpa using q);exact⟨t',by rw[e'];congr 1;push_cast;omega⟩
section
variable{prog:Program}{w:World}{A:Around}{E:Value->Shared->Prop}{s:Shared}
def N5{Q:List Value->Shared->Prop}{r:Addr}{a b c:Int}{t u v:Tok}{n:Nat}(hh:A.handled=none)(hr:IsRange s.heap r a b c t u v)(hsm:Builtin.Range.small a b c=true)(hn:Builtin.Range.rangeSize a b c=n)(hl:n<=2^24)
 (hQ:∀g tk (acc:Array Value),(∀b o,s.heap.get? b=some o->g.get? b=some o)->ItemsOf (λi v=>∃t,v=.int (a+i*c) t) acc n->Q acc.toList { s with heap:=g,toks:=tk }):
 wpAny (model prog w) A (collect (.ref r)) Q E s:=by
 unfold collect;refine wpAny_bind (wpAny_runValue (codeAny_builtin F.entry_proto_collect ?_));rw[Around.under_plainId F.plain_proto_collect _];show wpAny _ A.in1 (newList [] >>= λl=>again (.builtin "list.__iadd__" ⟨[l,.ref r],[]⟩)) _ _ s;refine wpAny_bind (wpAny_newObj_type (wpAny_pure ⟨plainId_quiet F.plain_list_iadd _,codeAny_builtin F.entry_list_iadd ?_⟩));rw[Around.under_plainId F.plain_list_iadd _];show wpAny _ A.in1 (Builtin.List.listExtendWith (.ref s.heap.objs.size) (.ref r) (.ref s.heap.objs.size)) _ _ _;have e0:(s.heap.push { cls:=.type "list",data:=.seq ([]:List Value).toArray }).get? s.heap.objs.size=some { cls:=.type "list",data:=.seq #[] 0 }:=Heap.get?_push_size _ rfl;have fin:∀g tk (acc:Array Value) c',(∀b o,b≠s.heap.objs.size->(s.heap.push { cls:=.type "list",data:=.seq ([]:List Value).toArray }).get? b=some o->g.get? b=some o)->g.get? s.heap.objs.size=some { cls:=.type "list",dict:=none,data:=.seq acc c',slots:=#[] }->ItemsOf (λi v=>∃t,v=.int (a+i*c) t) acc n ->
  wpAny (model prog w) A (load s.heap.objs.size >>= λo=>match o.data with|Data.seq xs epoch=>pure xs.toList|x=>unsupported "internal:collect") Q E { s with heap:=g,toks:=tk }:=λg tk acc c' kp eS it=>
  wpAny_bind (wpAny_load eS (wpAny_pure (hQ g tk acc (λb o q=>kp b o (ne_of_lt (Heap.lt_size q)) (Heap.get?_push_of_some _ q)) it)))
 refine wpAny_mono (wpAny_extend_range (A:=A) (R:=λr s'=>r=.ok (.ret (.ref s.heap.objs.size))/\∃g tk,s'={ s with heap:=g,toks:=tk }/\wpAny (model prog w) A (load s.heap.objs.size >>= λo=>match o.data with|Data.seq xs epoch=>pure xs.toList|x=>unsupported "internal:collect") Q E s')
  (s:={ s with heap:=s.heap.push { cls:=.type "list",data:=.seq ([]:List Value).toArray } }) hh (Heap.get?_push_of_some _ hr) hsm hn hl s.heap.objs.size (.ref s.heap.objs.size) 0 e0 λg tk acc c' kp eS it=>⟨rfl,g,tk,rfl,fin g tk acc c' kp eS it⟩) (λfn s' h=>?_) (λe s' h=>absurd h.1 (by simp))
 cases fn with
 |done f=>
  obtain⟨e,_,_,_,q⟩:=h;cases e;exact q
 |again c'=>exact⟨h.1,codeAny_mono h.2 λr s'' hr=>by obtain⟨rfl,_,_,_,q⟩:=hr;exact q⟩
end
def Nf:List V->Hp->VK->Prop:=λxs H Q=>∃j:Int,xs=[.int j]/\∀p,H p=none->Q (.ref p) (upd H p (.rng 0 j))
def Nd:List V->Hp->VK->Prop:=λxs H Q=>∃i j:Int,xs=[.int i,.int j]/\∀p,H p=none->Q (.ref p) (upd H p (.rng i j))
section
variable{X:Cx}
def call_rng1:CallR X (.type "range") Nf:=by
 intro pins s σ H xs us Q I r h;obtain⟨j,rfl,q⟩:=h;obtain⟨u,rfl,t,rfl⟩:=DN r;exact call_range_1 ⟨.ref s.heap.objs.size,_,I.laid (a:=s.heap.objs.size) (o:=.rng 0 j) (λb o e=>Heap.get?_push_of_some _ e) (le_refl _) ⟨_,_,_,Heap.get?_push_size _ rfl⟩,rfl,q _ (I.hok.fresh (le_refl _))⟩
def Rc:CallR X (.type "range") Nd:=by
 intro pins s σ H xs us Q I r h;obtain⟨i,j,rfl,q⟩:=h;obtain⟨u,v,rfl,⟨t,rfl⟩,⟨t',rfl⟩⟩:=Kx r;exact call_range_2 ⟨.ref s.heap.objs.size,_,I.laid (a:=s.heap.objs.size) (o:=.rng i j) (λb o e=>Heap.get?_push_of_some _ e) (le_refl _) ⟨_,_,_,Heap.get?_push_size _ rfl⟩,rfl,q _ (I.hok.fresh (le_refl _))⟩
def aF{lo hi:Int}:Builtin.Range.rangeSize lo hi 1=((hi-lo).toNat:Nat):=by rw[rangeSize_one];split<;>omega
def P5{lo:Int}{n:Nat}{acc:Array Value}(it:ItemsOf (λi v=>∃t,v=.int (lo+i*1) t) acc n):Vals (Fj lo n) acc.toList:=JB (by simpa using it.1) λj v q=>it.2 j v (by simpa using q)
end
section
variable{K:PySem.W.Frag}
open Classical in
def TQ(m:MA):MA:=λls hd=>(m ls hd).bind λp=>match p.1 with
 |[.im (.int j)]=>if UC j then some (Au 0 j.toNat,p.2)else none
 |[.im (.int i),.im (.int j)]=>if UB i j then some (Au i (j-i).toNat,p.2)else none
 |_=>none
def QV:List V->Hp->VK->Prop:=λxs H Q=>Nf xs H Q∨Nd xs H Q
def ap(m:MA):ME:=λls hd=>(TQ m ls hd).bind λp=>some (Ag p.1,p.2)
def U6(xs:List Int):List Int:=xs.mergeSort (λa b=>decide (a<=b))
def Wg(m:MI):MA:=λls hd=>(m ls hd).bind λp=>(BG p.1.1).bind λns=>if ns.length<64 then some ((U6 ns).map λi=>.im (.int i),p.2)else none
end
end L2
namespace L2
structure BltA(mg:PySem.Str->Option PySem.Value):Prop where
 list:mg "list"=none
 tuple:mg "tuple"=none
 len:mg "len"=none
 range:mg "range"=none
 repr:mg "repr"=none
 sum:mg "sum"=none
 min:mg "min"=none
 max:mg "max"=none
 abs:mg "abs"=none
 all:mg "all"=none
 any:mg "any"=none
 sorted:mg "sorted"=none
 zip:mg "zip"=none
 isinstance:mg "isinstance"=none
 int:mg "int"=none
 bool:mg "bool"=none
 str:mg "str"=none
 set:mg "set"=none
 enumerate:mg "enumerate"=none
 reversed:mg "reversed"=none
 dict:mg "dict"=none
end L2
namespace L2
open PySem PySem.Spec PyProof.Rows
section
variable{ls:Ls}{hd:Hd}{a b c:MS}{ma mb mc:ME}{ta tb:MT}{m m1 m2:MA}{n:MG}{ns:MGs}{d e:D}
@[simp] theorem Zk:AE a b ls hd=(a ls hd).bind λp=>match p.1 with
 |.nx ls1=>b ls1 p.2
 |f=>some (f,p.2):=rfl
@[simp] theorem cO:Ac ls hd=some (.nx ls,hd):=rfl
@[simp] theorem cS:BF ma ls hd=(ma ls hd).bind λp=>some (.nx ls,p.2):=rfl
@[simp] theorem cz:AX ma ls hd=(ma ls hd).bind λp=>some (.rt p.1,p.2):=rfl
@[simp] theorem cJ:aq ls hd=some (.rt (.im .non),hd):=rfl
@[simp] theorem bv:ZS ls hd=some (.bk ls,hd):=rfl
@[simp] theorem cW:av ls hd=some (.ct ls,hd):=rfl
@[simp] theorem dE:Ak ta a b ls hd=(ta ls hd).bind λp=>if p.1=true then a ls p.2 else b ls p.2:=rfl
@[simp] theorem Mf:GG ma n ls hd=(ma ls hd).bind λp=>(n p.1 ls p.2).map λls'=>(.nx ls',p.2):=rfl
@[simp] theorem Wy(i:Nat):AG i d ls hd=some (ls.set i (some d)):=rfl
@[simp] theorem cL(k:Nat):BX k ns d ls hd=(Af d).bind λds=>if ds.length=k then ns ds ls hd else none:=rfl
@[simp] theorem bq(d:D)(ds:List D):AR n ns (d::ds) ls hd=(n d ls hd).bind λls1=>ns ds ls1 hd:=rfl
@[simp] theorem cN:BY [] ls hd=some ls:=rfl
@[simp] theorem Zl(ix:List Nat):P2 ix m ls hd=(m ls hd).bind λp=>if p.1.length=ix.length then some (.nx ((ix.zip p.1).foldl (λl q=>l.set q.1 (some q.2)) ls),p.2)else none:=rfl
@[simp] theorem cK(i j k:Nat):ar i j k m ls hd=P2 [k,j,i] (λls hd=>(m ls hd).map λp=>(p.1.reverse,p.2)) ls hd:=rfl
@[simp] theorem Zi(i:Nat):A1 i ls hd=match ls[i]? with
 |some (some d)=>some (d,hd)
 |_=>none:=rfl
@[simp] theorem eE(i:I):mC i ls hd=some (.im i,hd):=rfl
@[simp] theorem dh(f:D->D->Hd->Option (D×Hd)):mOp f ma mb ls hd=(ma ls hd).bind λp=>(mb ls p.2).bind λq=>f p.1 q.1 q.2:=rfl
@[simp] theorem dI:Cz ta tb ls hd=(ta ls hd).bind λp=>if p.1=true then tb ls p.2 else some (false,p.2):=rfl
@[simp] theorem dg:mOr ta tb ls hd=(ta ls hd).bind λp=>if p.1=true then some (true,p.2)else tb ls p.2:=rfl
@[simp] theorem d7:C6 ta ls hd=(ta ls hd).bind λp=>some (!p.1,p.2):=rfl
@[simp] theorem Zj:BU ma ls hd=(ma ls hd).bind λp=>(E3 p.2 p.1).map (·,p.2):=rfl
@[simp] theorem Wv:AM ma ls hd=(ma ls hd).bind λp=>match p.1 with
 |.im (.bl b)=>some (b,p.2)
 |_=>none:=rfl
@[simp] theorem di:mIf ta ma mb ls hd=(ta ls hd).bind λp=>if p.1=true then ma ls p.2 else mb ls p.2:=rfl
@[simp] theorem cZ:DD ma mb ls hd=(AM ma ls hd).bind λp=>if p.1=true then mb ls p.2 else some (.im (.bl false),p.2):=rfl
@[simp] theorem d6:Ib ma mb ls hd=(AM ma ls hd).bind λp=>if p.1=true then some (.im (.bl true),p.2)else mb ls p.2:=rfl
@[simp] theorem cM:FO ma ls hd=(AM ma ls hd).bind λp=>some (.im (.bl (!p.1)),p.2):=rfl
@[simp] theorem d8:A6 ls hd=some ([],hd):=rfl
@[simp] theorem cX:A3 ma m ls hd=(ma ls hd).bind λp=>(m ls p.2).bind λq=>some (p.1::q.1,q.2):=rfl
open Classical in
@[simp] theorem cv:Ap m ls hd=(m ls hd).bind λp=>if C9 p.1.length then some (Ag p.1,p.2)else none:=rfl
open Classical in
@[simp] theorem dC:CO m ls hd=(m ls hd).bind λp=>if C9 p.1.length then some (p.1,p.2)else none:=rfl
@[simp] theorem d9:BH m ls hd=(m ls hd).bind λp=>some (.mu p.2.length,p.2++[.lst p.1]):=rfl
@[simp] theorem Zm:FW ma ls hd=(ma ls hd).bind λp=>match p.1 with
 |.im (.int i)=>some (.im (.int (-i)),p.2)
 |_=>none:=rfl
@[simp] theorem dD(neg:Bool):BI neg ma ls hd=(ma ls hd).bind λp=>some (.im (.bl (match p.1 with
 |.im .non=>!neg
 | _=>neg)),p.2):=rfl
@[simp] theorem dk(g:Int->Int->Option I)(i j:Int):fI g (.im (.int i)) (.im (.int j)) hd=(g i j).map (.im ·,hd):=rfl
@[simp] theorem cR(f g:D->D->Hd->Option (D×Hd)):GQ f g d e hd=match f d e hd with
 |some z=>some z
 |none=>g d e hd:=rfl
@[simp] theorem dH(neg:Bool)(i j:Int):Fa neg (.im (.int i)) (.im (.int j)) hd=some (.im (.bl (if neg then !decide (i=j)else decide (i=j))),hd):=by simp[Fa,scI,Lg]
@[simp] theorem dG(neg:Bool)(i j:Str):Fa neg (.im (.str i)) (.im (.str j)) hd=some (.im (.bl (if neg then !decide (i=j)else decide (i=j))),hd):=by simp[Fa,scI,Lg]
@[simp] theorem bA(i:Int):gIx d (.im (.int i)) hd=(B8 hd d).bind λds=>(atI ds i).map (·,hd):=rfl
@[simp] theorem cV:Cc d e hd=(Ex hd d).bind λkvs=>(E8 e).bind λk=>(Ct kvs k).map (·,hd):=rfl
@[simp] theorem dm(f:List D->Hd->Option (D×Hd)):mCB f m ls hd=(m ls hd).bind λp=>f p.1 p.2:=rfl
@[simp] theorem bB(tp:Bool)(g:List D->Option D):f1 tp g [d] hd=((if tp then B8 hd d else BQ hd d)).bind λds=>(g ds).map (·,hd):=rfl
@[simp] theorem Zt(g:List D->Option D):C8 g m ls hd=(m ls hd).bind λp=>(g p.1).map (·,p.2):=rfl
@[simp] theorem b9(f:D->List D->Hd->Option (D×Hd)):mMt f ma m ls hd=(ma ls hd).bind λp=>match BQ p.2 p.1 with
 |some _=>(m ls p.2).bind λq=>f p.1 q.1 q.2
 |none=>none:=rfl
@[simp] theorem cQ(i j:Int):GP [.im (.int i),.im (.int j)] hd=some (.im (.int (if j>i then j else i)),hd):=rfl
@[simp] theorem cP(i j:Int):GO [.im (.int i),.im (.int j)] hd=some (.im (.int (if j<i then j else i)),hd):=rfl
@[simp] theorem dJ(i:Int):bn [.im (.int i)] hd=some (.im (.int (if i<0 then -i else i)),hd):=rfl
@[simp] theorem Zn:FX m ma ls hd=(m ls hd).bind λp=>(ma ls p.2).bind λq=>match q.1 with
 |.im (.int i)=>(atI p.1 i).map (·,q.2)
 |_=>none:=rfl
@[simp] theorem Zo:BB ma ls hd=(ma ls hd).bind λp=>(Af p.1).map λds=>((ds,[]),p.2):=rfl
@[simp] theorem Zr:Eb m ls hd=(m ls hd).map λp=>((p.1,[]),p.2):=rfl
@[simp] theorem Zq:CW ma ls hd=(ma ls hd).bind λp=>match p.1 with
 |.mu n=>match p.2[n]? with
  |some (.lst ds)=>some ((ds,[(n,ds)]),p.2)
  |_=>none
 |.ro ns=>some ((ns.map λn=>.im (.int n),[]),p.2)
 |_=>none:=rfl
open Classical in
@[simp] theorem Zp:EZ m ls hd=(m ls hd).bind λp=>match p.1 with
 |[.im (.int j)]=>if Jp j then some ((Au 0 j.toNat,[]),p.2)else none
 |_=>none:=rfl
open Classical in
@[simp] theorem X3:Hr m ls hd=(m ls hd).bind λp=>match p.1 with
 |[.im (.int i),.im (.int j)]=>if Ob i j then some ((Au i (j-i).toNat,[]),p.2)else none
 |_=>none:=rfl
@[simp] theorem dF(mi:MI):BN mi n a ls hd=(mi ls hd).bind λp=>Az n a p.1.2 p.1.1 ls p.2:=rfl
open Classical in
@[simp] theorem cY(k:Nat)(ix:List Nat)(mi:MI):Aw k ix mi n ta ma ls hd=(mi ls hd).bind λp=>if C9 p.1.1.length then B4 n ta ma p.1.2 p.1.1 (FU k ix ls) p.2 else none:=rfl
@[simp] theorem cu:Bw ls hd=some (true,hd):=rfl
@[simp] theorem bu(F:List D->Hd->Option (D×Hd)):Do F m ls hd=(m ls hd).bind λp=>F p.1 p.2:=rfl
@[simp] theorem bO:Bt ls hd=some (none,hd):=rfl
@[simp] theorem Ww:DC ma ls hd=(ma ls hd).bind λp=>match p.1 with
 |.im (.int i)=>some (some i,p.2)
 |_=>none:=rfl
@[simp] theorem X2:Hq ma ls hd=(ma ls hd).bind λp=>(B8 p.2 p.1).map (·,p.2):=rfl
@[simp] theorem br:HE m ls hd=m ls hd:=rfl
@[simp] theorem cx(ml mh:MO1):MN ma ml mh ls hd=(ma ls hd).bind λp=>(ml ls p.2).bind λl=>(mh ls l.2).bind λh=>(BQ h.2 p.1).bind λds=>some (DG ds l.1 h.1,h.2):=rfl
@[simp] theorem cw(ml mh:MO1):bf ma ml mh ls hd=(ma ls hd).bind λp=>(ml ls p.2).bind λl=>(mh ls l.2).bind λh=>(Af p.1).bind λds=>if ¬ (HT.sIx ds.length 0 l.1=0/\HT.sIx ds.length ds.length h.1=ds.length)then some (Ag (DG ds l.1 h.1),h.2)else none:=rfl
@[simp] theorem cI:ap m ls hd=(TQ m ls hd).bind λp=>some (Ag p.1,p.2):=rfl
open Classical in
@[simp] theorem cy:TQ m ls hd=(m ls hd).bind λp=>match p.1 with
 |[.im (.int j)]=>if UC j then some (Au 0 j.toNat,p.2)else none
 |[.im (.int i),.im (.int j)]=>if UB i j then some (Au i (j-i).toNat,p.2)else none
 |_=>none:=rfl
@[simp] theorem bM(mi:MI):Wg mi ls hd=(mi ls hd).bind λp=>(BG p.1.1).bind λns=>if ns.length<64 then some ((U6 ns).map λi=>.im (.int i),p.2)else none:=rfl
@[simp] theorem cU(ms:List (ME×ME)):LG ms ls hd=(EO ms ls hd).bind λp=>if p.1.length<=15 then some (.mu p.2.length,p.2++[.dic (Fs [] p.1)])else none:=rfl
@[simp] theorem bN:EO [] ls hd=some ([],hd):=rfl
@[simp] theorem bp(r:List (ME×ME)):EO ((ma,mb)::r) ls hd=(ma ls hd).bind λp=>(mb ls p.2).bind λq=>(EO r ls q.2).bind λz=>(E8 p.1).map λk=>((k,q.1)::z.1,z.2):=rfl
open Classical in
@[simp] theorem cT:FQ ma mb mc ls hd=(mc ls hd).bind λp=>(ma ls p.2).bind λq=>(mb ls q.2).bind λr=>(E8 r.1).bind λk=>match q.1 with
 |.mu n=>match r.2[n]? with
  |some (.dic kvs)=>if GN kvs.length then some (.nx ls,r.2.set n (.dic (Dk kvs k p.1)))else none
  |_=>none
 |_=>none:=rfl
@[simp] theorem Wz:GF ma mb mc ls hd=(mc ls hd).bind λp=>(ma ls p.2).bind λq=>(mb ls q.2).bind λr=>match q.1,r.1 with
 |.mu n,.im (.int i)=>match r.2[n]? with
  |some (.lst ds)=>(ixN ds.length i).map λj=>(.nx ls,r.2.set n (.lst (ds.set j p.1)))
  |_=>none
 |_,_=>none:=rfl
@[simp] theorem cf(is:List I):Af (.im (.tup is))=some (is.map .im):=rfl
@[simp] theorem dP(ds:List D):Af (.tm ds)=some ds:=rfl
@[simp] theorem dR(k:Nat):Af (.mu k)=none:=rfl
@[simp] theorem dQ(k:List Int):Af (.ro k)=none:=rfl
@[simp] theorem Cj(is:List I):B8 hd (.im (.tup is))=some (is.map .im):=rfl
@[simp] theorem dX(ds:List D):B8 hd (.tm ds)=some ds:=rfl
@[simp] theorem Iv(k:Nat):B8 hd (.mu k)=BQ hd (.mu k):=rfl
@[simp] theorem dY(k:List Int):B8 hd (.ro k)=some (k.map λn=>.im (.int n)):=rfl
@[simp] theorem JI(k:Nat):BQ hd (.mu k)=match hd[k]? with
 |some (.lst ds)=>some ds
 |_=>none:=rfl
@[simp] theorem db(k:List Int):BQ hd (.ro k)=some (k.map λn=>.im (.int n)):=rfl
@[simp] theorem dq(k:Nat):Ex hd (.mu k)=match hd[k]? with
 |some (.dic ds)=>some ds
 |_=>none:=rfl
@[simp] theorem df(i:Int):E8 (.im (.int i))=some (.inl i):=rfl
@[simp] theorem de(i:Str):E8 (.im (.str i))=some (.inr i):=rfl
@[simp] theorem dO:C4 []=some []:=rfl
@[simp] theorem dw(i:I)(r:List D):C4 (.im i::r)=(C4 r).map (i::·):=rfl
@[simp] theorem cq:BG []=some []:=rfl
@[simp] theorem cr(i:Int)(r:List D):BG (.im (.int i)::r)=(BG r).map (i::·):=rfl
@[simp] theorem dN:Cf []=some []:=rfl
@[simp] theorem dv(i:Bool)(r:List D):Cf (.im (.bl i)::r)=(Cf r).map (i::·):=rfl
@[simp] theorem Bi(is:List I):Ag (is.map .im)=.im (.tup is):=by simp[Ag]
@[simp] theorem bK:Ag []=.im (.tup []):=rfl
@[simp] theorem Hm(i:I):Ag [.im i]=.im (.tup [i]):=rfl
@[simp] theorem cF(i j:I):Ag [.im i,.im j]=.im (.tup [i,j]):=rfl
@[simp] theorem cE(i j k:I):Ag [.im i,.im j,.im k]=.im (.tup [i,j,k]):=rfl
@[simp] theorem cD(i j k l:I):Ag [.im i,.im j,.im k,.im l]=.im (.tup [i,j,k,l]):=rfl
@[simp] theorem dM(w:Nat)(i:I):clD w (.im i)=true:=by simp[clD]
@[simp] theorem dL(w n:Nat):clD w (.mu n)=decide (n<w):=by simp[clD]
@[simp] theorem bw(w:Nat):Av w []=true:=by simp[Av]
@[simp] theorem RZ(w:Nat)(d:D)(ds:List D):Av w (d::ds)=(clD w d&&Av w ds):=by simp[Av]
@[simp] theorem Zy{α:Type}(x:α)(r:List α):atI (x::r) 0=some x:=EB (j:=0) rfl
@[simp] theorem Ef{α:Type}(x y:α)(r:List α):atI (x::y::r) 1=some y:=EB (j:=1) rfl
@[simp] theorem D6{α:Type}(x y z:α)(r:List α):atI (x::y::z::r) 2=some z:=EB (j:=2) rfl
def Cg{α:Type}{xs:List α}{i:Int}{k:Nat}{x:α}(hi:i=k)(h:xs[k]?=some x):atI xs i=some x:=by subst hi;exact EB h
@[simp] theorem Dr:C9 0:=Ab (by decide)
@[simp] theorem BC:C9 1:=Ab (by decide)
@[simp] theorem HP:C9 2:=Ab (by decide)
@[simp] theorem Dq:C9 3:=Ab (by decide)
@[simp] theorem Me:C9 4:=Ab (by decide)
@[simp] theorem Zf:C9 5:=Ab (by decide)
@[simp] theorem cH:GN 4:=E9 (by decide)
open Classical in
@[simp] theorem Zu(k:Nat)(x:D):BK (.mu k) [x] hd=match hd[k]? with
 |some (.lst ds)=>if GN ds.length then some (.im .non,hd.set k (.lst (ds++[x])))else none
 |_=>none:=rfl
def Ri{F:List D->Hd->Option (D×Hd)}{ds:List D}{hd1 h2:Hd}{i:I}(h1:m ls hd=some (ds,hd1))(hc:Av 0 ds=true)(hF:F ds []=some (.im i,h2)):A8 0 F m ls hd=some (.im i,hd1):=by
 simp[A8,h1,hc,hF,fin]
def Mt{w:Nat}{F:List D->Hd->Option (D×Hd)}{ds:List D}{pre pre' rest g:Hd}{i:I}(hw:pre.length=w)(hw':pre'.length=w)(h1:m ls hd=some (ds,pre++rest))(hc:Av w ds=true)(hp:pre.all (clO w)=true)(hp':pre'.all (clO w)=true)(hF:F ds pre=some (.im i,pre'++g)):A8 w F m ls hd=some (.im i,pre'++rest):=by
 subst hw;have e1:(pre++rest).take pre.length=pre:=by simp
 have e2:(pre'++g).take pre.length=pre':=by rw[<- hw'];simp
 simp only[A8,h1,bind_some,e1,hc,hp,hF,fin,e2,hp'];simp
end
open Classical in
def mIn(k:Nat)(n:MG)(c:MT)(m:ME)(g:Gd):List D->Ls->Hd->Option (Ls×Hd)
 |[],ls,hd=>some (ls,hd)
 |d::r,ls,hd=>(n d ls hd).bind λls1=>(c ls1 hd).bind λp=>if p.1=true then(m ls1 p.2).bind λq=>(BK (.mu k) [q.1] q.2).bind λz=>if GOk z.2 g then mIn k n c m g r ls1 z.2 else none else if GOk p.2 g then mIn k n c m g r ls1 p.2 else none
open Classical in
def P3(k:Nat)(n:MG)(c:MT)(mi:MI)(n2:MG)(c2:MT)(m:ME)(g:Gd):List D->Ls->Hd->Option Hd
 |[],ls,hd=>some hd
 |d::r,ls,hd=>(n d ls hd).bind λls1=>(c ls1 hd).bind λp=>if p.1=true then(mi ls1 p.2).bind λq=>(mIn k n2 c2 m q.1.2 q.1.1 ls1 q.2).bind λz=>if GOk z.2 g then P3 k n c mi n2 c2 m g r z.1 z.2 else none else if GOk p.2 g then P3 k n c mi n2 c2 m g r ls1 p.2 else none
def ZR(j:Nat)(ix:List Nat)(mi:MI)(n:MG)(c:MT)(mi2:MI)(n2:MG)(c2:MT)(m:ME):ME:=λls hd=>(mi ls hd).bind λp=>(P3 p.2.length n c mi2 n2 c2 m p.1.2 p.1.1 (FU j ix ls) (p.2++[.lst []])).map λh=>(.mu p.2.length,h)
open Classical in
def HF(ma mb:ME):MA:=λls hd=>(ma ls hd).bind λp=>(mb ls p.2).bind λq=>match p.1,q.1 with
 |.mu i,.mu j=>match q.2[i]?,q.2[j]? with
  |some (.lst xs),some (.lst ys)=>if C9 (xs.length+ys.length)then some (xs++ys,q.2)else none
  |_,_=>none
 |_,_=>none
def Xn{K:PySem.W.Frag}{ta tb:TE}{ma mb:ME}(ha:RE K ta ma)(hb:RE K tb mb):RN K (tOp Si ta tb) (HF ma mb):=by
 and_intros;obtain⟨⟨d1,h1⟩,e1,hm⟩:=c5 hm;obtain⟨⟨d2,h2⟩,e2,hm⟩:=c5 hm;dsimp only at hm;split at hm
 .next i j=>
  split at hm
  .next xs ys q1 q2=>
   split at hm
   .next c=>
    cases hm;refine ha ρ σ H hd ls _ _ h1 hR hL e1 λρ1 H1 v x1 R1 r1=>?_;refine hb ρ1 σ H1 h1 ls _ _ _ R1 (hL.ext hR x1) e2 λρ2 H2 u x2 R2 r2=>?_;have r1':=r1.ext R1 x2;simp only[RD]at r1' r2;obtain⟨a,ka,rfl⟩:=r1';obtain⟨b,kb,rfl⟩:=r2;obtain⟨vs,f1,f2⟩:=R2.lst ka q1;obtain⟨us,f3,f4⟩:=R2.lst kb q2;refine⟨a,b,vs,us,rfl,rfl,f1,f3,by rw[f2.len,f4.len];exact c,λp hp=>?_⟩;obtain⟨R3,x3⟩:=R2.hid (ho:=.lst (vs++us)) hp;have x12:=x1.trans R1 x2;exact hQ ρ2 _ p _ (x12.trans R2 x3) R3 (x12.none hR hp R2) (R2.out hp) AJ ((f2.app f4).ext R2 x3)
   .cases hm
  .cases hm
 .cases hm
def YS(K:PySem.W.Frag){X:Cx}{a b:Expr}{pos:Pos}{ta tb:TE}{ma mb:ME}(ha:QE K X a ta ma)(hb:QE K X b tb mb):QN K X (.BinOp a .Add b pos) (tOp Si ta tb) (HF ma mb):=⟨LF ZJ ha.p hb.p,Xn ha.r hb.r⟩
@[simp] theorem bt(j:Nat)(ix:List Nat)(mi mi2:MI)(n n2:MG)(c c2:MT)(m:ME)(ls:Ls)(hd:Hd):ZR j ix mi n c mi2 n2 c2 m ls hd=(mi ls hd).bind λp=>(P3 p.2.length n c mi2 n2 c2 m p.1.2 p.1.1 (FU j ix ls) (p.2++[.lst []])).map λh=>(.mu p.2.length,h):=rfl
end L2
namespace L2
open PySem PySem.Spec PyProof.Rows PySem.W
section
variable(r:Nat->Int)(n:Nat)
def PWp{α:Type}:KasT α->(α->Prop)->Prop
 |.ret a,Q=>Q a
 |.ask i j k,Q=>i<n/\j<n/\PWp (k (decide (r i<r j))) Q
def kv(p:Array Nat)(i:Nat):Int:=r (p.getD i 0)
def STo(p:Array Nat)(m:Nat):Prop:=∀i j,i<=j->j<m->kv r p i<=kv r p j
def DTo(p:Array Nat)(m:Nat):Prop:=∀i j,i<=j->j<m->kv r p j<=kv r p i
def EqL(p:Array Nat)(m q:Nat):Prop:=∀k,m-(q+1)<=k->k<m->kv r p k=kv r p (m-1)
def PAr(p:Array Nat):Prop:=p.Perm (List.range n).toArray
end
section
variable{r:Nat->Int}{n:Nat}
def PWp.bind{α β:Type}{f:α->KasT β}{Q:β->Prop}:∀{t:KasT α},PWp r n t (λa=>PWp r n (f a) Q)->PWp r n (t.bind f) Q
 |.ret _,h=>h
 |.ask i j k,h=>⟨h.1,h.2.1,PWp.bind h.2.2⟩
def PWp.mono{α:Type}{Q Q':α->Prop}:∀{t:KasT α},PWp r n t Q->(∀a,Q a->Q' a)->PWp r n t Q'
 |.ret _,h,q=>q _ h
 |.ask i j k,h,q=>⟨h.1,h.2.1,PWp.mono h.2.2 q⟩
def PWp.wp{α:Type}{cmp:Nat->Nat->(Bool->Shared->Prop)->Shared->Prop}{P:Shared->Prop}{Q:α->Shared->Prop}(hc:∀i j C s,i<n->j<n->P s->(∀s',P s'->C (decide (r i<r j)) s')->cmp i j C s):∀{t:KasT α} {s:Shared},PWp r n t (λa=>∀s,P s->Q a s)->P s->t.kasWp cmp Q s
 |.ret _,s,h,p=>h s p
 |.ask i j k,s,h,p=>hc i j _ s h.1 h.2.1 p λs' p'=>PWp.wp hc h.2.2 p'
def PAr.size{p:Array Nat}(h:PAr n p):p.size=n:=by have:=h.size_eq;simpa using this
def PAr.lt{p:Array Nat}(h:PAr n p){i:Nat}(hi:i<n):p.getD i 0<n:=by
 have hs:=h.size;have hi':i<p.size:=by omega
 have:p[i]∈(List.range n).toArray:=h.mem_iff.mp (Array.getElem_mem hi');have e:p.getD i 0=p[i]:=by simp[Array.getD,hi']
 rw[e];simpa using this
def JK{p:Array Nat}{i j:Nat}(hj:j<=p.size)(k:Nat):kv r (kas_rev p i j) k=if i<=k/\k<j then kv r p (i+j-1-k)else kv r p k:=by
 unfold kv kas_rev;simp only[Array.getD_eq_getD_getElem?];rw[getElem?_mirror_all hj];split<;>rfl
def PAr.rev{p:Array Nat}(h:PAr n p)(i j:Nat):PAr n (kas_rev p i j):=(mirror_perm _ _ _ _).trans h
def Nw{p:Array Nat}{m q:Nat}(hj:m<=p.size)(hq:q+1<=m)(h:EqL r p m q)(k:Nat):kv r (kas_rev p (m-(q+1)) m) k=kv r p k:=by
 rw[JK hj];split
 .next c=>rw[h _ (by omega) (by omega),h k c.1 c.2]
 .rfl
def Mv{p:Array Nat}(pa:PAr n p):∀(f m:Nat),1<=m->m+f<=n->STo r p m->PWp r n (kas_asc p f m) λm'=>m<=m'/\m'<=m+f/\STo r p m'/\(m'<m+f->kv r p m'<kv r p (m'-1))
 |0,m,h1,hn,hs=>⟨le_refl _,le_refl _,hs,λh=>by omega⟩
 |f+1,m,h1,hn,hs=>by
  refine⟨pa.lt (by omega),pa.lt (by omega),?_⟩;by_cases c:r (p.getD m 0)<r (p.getD (m-1) 0)
  .rw[decide_eq_true c];exact⟨le_refl _,by omega,hs,λ_=>c⟩
  .rw[decide_eq_false c];refine(Mv pa f (m+1) (by omega) (by omega) ?_).mono λm' h=>⟨by omega,by omega,h.2.2.1,λz=>h.2.2.2 (by omega)⟩
   intro i j hij hj;by_cases e:j<m
   .exact hs i j hij e
   .have:j=m:=by omega
    subst this;by_cases e2:i=j
    .subst e2;exact Int.le_refl _
    .have:=hs i (j-1) (by omega) (by omega);have:kv r p (j-1)<=kv r p j:=by unfold kv;omega
     omega
def Ie{p:Array Nat}{m:Nat}(h1:1<=m)(h:DTo r p m)(c:kv r p m<=kv r p (m-1)):DTo r p (m+1):=by
 intro i j hij hj;by_cases e:j<m
 .exact h i j hij e
 .have:j=m:=by omega
  subst this;by_cases e2:i=j
  .subst e2;exact Int.le_refl _
  .have:=h i (j-1) (by omega) (by omega);omega
def Hy:∀(f:Nat) (p:Array Nat) (m q:Nat),PAr n p->1<=m->q+1<=m->m+f<=n->DTo r p m->EqL r p m q ->
 PWp r n (kas_desc f p m q) λz=>PAr n z.1/\m<=z.2.1/\z.2.1<=m+f/\DTo r z.1 z.2.1/\EqL r z.1 z.2.1 z.2.2/\z.2.2+1<=z.2.1
 |0,p,m,q,pa,h1,hq,hn,hd,he=>⟨pa,le_refl _,le_refl _,hd,he,hq⟩
 |f+1,p,m,q,pa,h1,hq,hn,hd,he=>by
  refine⟨pa.lt (by omega),pa.lt (by omega),?_⟩;have sz:=pa.size;by_cases c:r (p.getD m 0)<r (p.getD (m-1) 0)
  .rw[decide_eq_true c];have c':kv r p m<=kv r p (m-1):=by unfold kv;omega
   dsimp only;rw[if_pos rfl];by_cases hq0:q>0
   .rw[if_pos hq0];have sm:=Nw (r:=r) (p:=p) (m:=m) (q:=q) (by omega) hq he;refine(Hy f _ (m+1) 0 (pa.rev _ _) (by omega) (by omega) (by omega) ?_ ?_).mono λz h=>⟨h.1,by omega,by omega,h.2.2.2⟩
    .have:=Ie h1 hd c';intro i j a b;rw[sm,sm];exact this i j a b
    .intro k a b;have:k=m:=by omega
     subst this;rfl
   .rw[if_neg hq0];refine(Hy f p (m+1) 0 pa (by omega) (by omega) (by omega) (Ie h1 hd c') ?_).mono λz h=>⟨h.1,by omega,by omega,h.2.2.2⟩
    intro k a b;have:k=m:=by omega
    subst this;rfl
  .rw[decide_eq_false c];dsimp only;rw[if_neg Bool.false_ne_true];refine⟨pa.lt (by omega),pa.lt (by omega),?_⟩;by_cases d:r (p.getD (m-1) 0)<r (p.getD m 0)
   .rw[decide_eq_true d];exact⟨pa,le_refl _,by show m<=m+(f+1);omega,hd,he,hq⟩
   .rw[decide_eq_false d];dsimp only;rw[if_neg Bool.false_ne_true];have e:kv r p m=kv r p (m-1):=by unfold kv;omega
    refine(Hy f p (m+1) (q+1) pa (by omega) (by omega) (by omega) (Ie h1 hd (by omega)) ?_).mono λz h=>⟨h.1,by omega,by omega,h.2.2.2⟩
    intro k a b;by_cases e2:k=m
    .subst e2;rfl
    .have:=he k (by omega) (by omega);have e3:m+1-1=m:=rfl;rw[e3];omega
def Run(z:Nat×Array Nat)(r:Nat->Int)(n:Nat):Prop:=PAr n z.2/\1<=z.1/\z.1<=n/\STo r z.2 z.1
def LW{p:Array Nat}{m:Nat}(pa:PAr n p)(h1:1<=m)(hn:m<=n)(hd:DTo r p m):PWp r n (kas_tail3 m n p) λz=>Run z r n:=by
 have sz:=pa.size;have st:STo r (kas_rev p 0 m) m:=by
  intro i j a b;rw[JK (by omega),JK (by omega),if_pos ⟨by omega,by omega⟩,if_pos ⟨by omega,by omega⟩];exact hd _ _ (by omega) (by omega)
 refine PWp.bind ((Mv (pa.rev 0 m) (n-m) m h1 (by omega) st).mono λm' h=>?_);exact⟨pa.rev 0 m,by show 1<=m';omega,by show m'<=n;omega,h.2.2.1⟩
def IH{p:Array Nat}{m:Nat}(pa:PAr n p)(hn:m+1<=n)(hd:DTo r p (m+1)):PWp r n (kas_descPart m n p) λz=>Run z r n:=by
 refine PWp.bind ((Hy (n-(m+1)) p (m+1) 0 pa (by omega) (by omega) (by omega) hd ?_).mono λz h=>?_)
 .intro k a b;have:k=m:=by omega
  subst this;rfl
 .obtain⟨a,b,c,d,e,g⟩:=h;have sz:=a.size;by_cases hq:z.2.2>0
  .rw[if_pos hq];have sm:=Nw (r:=r) (p:=z.1) (m:=z.2.1) (q:=z.2.2) (by omega) g e;exact LW (a.rev _ _) (by omega) (by omega) λi j x y=>by rw[sm,sm];exact d i j x y
  .rw[if_neg hq];exact LW a (by omega) (by omega) d
def To(h1:1<=n):PWp r n (kas_count n (List.toArray (List.range n))) λz=>Run z r n:=by
 have pa:PAr n (List.range n).toArray:=.refl _;have sz:=pa.size;refine PWp.bind ((Mv pa (n-1) 1 (by omega) (by omega) λi j a b=>?_).mono λm h=>?_)
 .have:i=j:=by omega
  subst this;exact Int.le_refl _
 .obtain⟨a,b,c,d⟩:=h;by_cases e:(m==n)=true
  .rw[if_pos e];have:m=n:=by simpa using e
   exact⟨pa,by show 1<=m;omega,by show m<=n;omega,c⟩
  .rw[if_neg e];have hne:m≠n:=by simpa using e
   have dd:=d (by omega);by_cases h2:m>1
   .rw[if_pos h2];refine⟨pa.lt (by omega),pa.lt (by omega),?_⟩;by_cases g:r ((List.range n).toArray.getD 0 0)<r ((List.range n).toArray.getD (m-1) 0)
    .rw[decide_eq_true g];exact⟨pa,by show 1<=m;omega,by show m<=n;omega,c⟩
    .rw[decide_eq_false g];dsimp only;rw[if_neg Bool.false_ne_true];have g':kv r (List.range n).toArray (m-1)<=kv r (List.range n).toArray 0:=by unfold kv;omega
     have eq:∀k,k<m->kv r (List.range n).toArray k=kv r (List.range n).toArray 0:=λk hk=>by
      have x1:=c 0 k (by omega) hk;have x2:=c k (m-1) (by omega) (by omega);omega
     have rv:∀k,kv r (kas_rev (List.range n).toArray 0 m) k=kv r (List.range n).toArray k:=λk=>by
      rw[JK (by omega)];split
      .next z=>rw[eq _ (by omega),eq k z.2]
      .rfl
     refine IH (pa.rev 0 m) (by omega) λi j x y=>?_;rw[rv,rv];by_cases z:j<m
     .rw[eq i (by omega),eq j z];exact Int.le_refl _
     .have:j=m:=by omega
      subst this;by_cases z2:i=j
      .subst z2;exact Int.le_refl _
      .rw[eq i (by omega)];have:=eq (j-1) (by omega);omega
   .rw[if_neg h2];have:m=1:=by omega
    subst this;refine IH pa (by omega) λi j x y=>?_;by_cases z:i=j
    .subst z;exact Int.le_refl _
    .have:i=0:=by omega
     have:j=1:=by omega
     subst i j;have:kv r (List.range n).toArray 1<kv r (List.range n).toArray 0:=dd;omega
def IS{p:Array Nat}{k:Nat}(pa:PAr n p)(hk:k<n)(hs:STo r p k):∀(f l q:Nat),l<=q->q<=k->q-l<=f->(∀i,i<l->kv r p i<=kv r p k)->(∀i,q<=i->i<k->kv r p k<kv r p i) ->
 PWp r n (kas_place p k f l q) λm=>m<=k/\(∀i,i<m->kv r p i<=kv r p k)/\∀i,m<=i->i<k->kv r p k<kv r p i
 |0,l,q,a,b,c,d,e=>⟨by omega,d,λi x y=>e i (by omega) y⟩
 |f+1,l,q,a,b,c,d,e=>by
  unfold kas_place;by_cases h:l>=q
  .rw[if_pos h];exact⟨by omega,d,λi x y=>e i (by omega) y⟩
  .rw[if_neg h];refine⟨pa.lt (by omega),pa.lt (by omega),?_⟩;by_cases g:r (p.getD k 0)<r (p.getD ((l+q)/2) 0)
   .rw[decide_eq_true g];dsimp only;rw[if_pos rfl];have g':kv r p k<kv r p ((l+q)/2):=g;refine IS pa hk hs f l ((l+q)/2) (by omega) (by omega) (by omega) d λi x y=>?_;have:=hs ((l+q)/2) i x y;omega
   .rw[decide_eq_false g];dsimp only;rw[if_neg Bool.false_ne_true];have g':kv r p ((l+q)/2)<=kv r p k:=by unfold kv;omega
    refine IS pa hk hs f ((l+q)/2+1) q (by omega) (by omega) (by omega) (λi x=>?_) e;have:=hs i ((l+q)/2) (by omega) (by omega);omega
def KR{p:Array Nat}{k d:Nat}(hk:k<p.size)(hd:d<=k)(i:Nat):kv r (bubble p k d) i=if i=k-d then kv r p k else if k-d<i/\i<=k then kv r p (i-1)else kv r p i:=by
 unfold kv;simp only[Array.getD_eq_getD_getElem?];rw[getElem?_bubble hk d hd];split
 .rfl
 .split<;>rfl
def Rj:∀(f:Nat) (p:Array Nat) (k:Nat),PAr n p->k+f=n->STo r p k->PWp r n (kas_bin f p k) λz=>PAr n z/\STo r z n
 | 0,p,k,pa,e,hs=>⟨pa,by
  have:k=n:=by omega
  subst this;exact hs⟩
 |f+1,p,k,pa,e,hs=>by
  have sz:=pa.size;refine PWp.bind ((IS pa (by omega) hs k 0 k (by omega) (by omega) (by omega) (λi h=>by omega) (λi a b=>by omega)).mono λm h=>?_);obtain⟨a,b,c⟩:=h;refine Rj f _ (k+1) ((bubble_perm _ _ _).trans pa) (by omega) λi j x y=>?_;rw[KR (by omega) (by omega),KR (by omega) (by omega)];have ek:k-(k-m)=m:=by omega
  rw[ek]
  repeat' split
  .exact Int.le_refl _
  .exact Int.le_of_lt (c _ (by omega) (by omega))
  .omega
  .exact b _ (by omega)
  .exact hs _ _ (by omega) (by omega)
  .omega
  .exact b _ (by omega)
  .exact hs _ _ (by omega) (by omega)
  .exact hs _ _ (by omega) (by omega)
def NO(h1:1<=n):PWp r n (kas_sort n) λp=>PAr n p/\STo r p n:=by
 refine PWp.bind ((To h1).mono λz h=>?_);obtain⟨a,b,c,d⟩:=h;by_cases e:z.1<n
 .rw[if_pos e];have:max z.1 1=z.1:=by omega
  rw[this];exact Rj _ _ _ a (by omega) d
 .rw[if_neg e];have:z.1=n:=by omega
  exact⟨a,this ▸ d⟩
end
def PairAt(h:Heap)(v:Value)(p:Int×Int):Prop:=∃(x:Addr) (o:Obj) (t u:Tok) (k:Nat),v=.ref x/\h.get? x=some o/\o.cls=.type "tuple"/\o.data=.seq #[.int p.1 t,.int p.2 u] k
def Aj(p:Int×Int):Int:=p.1*4000000000+p.2
def pok(p:Int×Int):Prop:=-1000000000<=p.1/\p.1<=1000000000/\-1000000000<=p.2/\p.2<=1000000000
section
variable{prog:Program}{w:World}{A:Around}{E:Value->Shared->Prop}{s:Shared}
def Nu{x y:Value}{p q:Int×Int}{C:Bool->Shared->Prop}(hx:PairAt s.heap x p)(hy:PairAt s.heap y q)(op:pok p)(oq:pok q)(h:C (decide (Aj p<Aj q)) s):
 wpAny (model prog w) A (keyLt' (tuples' true) x y) C E s:=by
 obtain⟨a,o,t,u,k,rfl,ho,hc,hd⟩:=hx;obtain⟨a2,o2,t2,u2,k2,rfl,ho2,hc2,hd2⟩:=hy;obtain⟨p1,p2⟩:=p;obtain⟨q1,q2⟩:=q;unfold pok at op oq;unfold Aj at h;dsimp only at op oq h;refine kat_lt ho hd ho2 hd2 ?_;refine kat_cons (wpAny_eqBool_int ?_);by_cases e1:p1=q1
 .have b1:(p1==q1)=true:=by simp[e1]
  rw[b1];refine kat_yes (kat_cons (wpAny_eqBool_int ?_));by_cases e2:p2=q2
  .have b2:(p2==q2)=true:=by simp[e2]
   rw[b2];refine kat_yes (kat_nil ?_);have:decide (p1*4000000000+p2<q1*4000000000+q2)=false:=decide_eq_false (by omega);rw[this]at h;exact h
  .have b2:(p2==q2)=false:=by simp[e2]
   rw[b2];refine kat_no (kat_one _ _ (lt_int ?_));have:decide (p1*4000000000+p2<q1*4000000000+q2)=decide (p2<q2):=decide_eq_decide.mpr (by omega);rw[this]at h;exact h
 .have b1:(p1==q1)=false:=by simp[e1]
  rw[b1];refine kat_no (oneLt_int ?_);have:decide (p1*4000000000+p2<q1*4000000000+q2)=decide (p1<q1):=decide_eq_decide.mpr (by omega);rw[this]at h;exact h
def Jg{h:Heap}:∀{vs:List Value} {ps:List (Int×Int)},vs.length=ps.length->(∀(i:Nat) (v:Value) (p:Int×Int),vs[i]?=some v->ps[i]?=some p->PairAt h v p)->∃fs,KatTups h vs fs/\fs.length=vs.length/\∀f∈fs,∃i t,f=.int i t
 |[],[],_,_=>⟨[],.nil,rfl,λ_ z=>by cases z⟩
 |v::vs,p::ps,hl,hp=>by
  obtain⟨fs,a,b,c⟩:=Jg (vs:=vs) (ps:=ps) (by simpa using hl) λi v q e1 e2=>hp (i+1) v q (by simpa using e1) (by simpa using e2);obtain⟨x,o,t,u,k,rfl,ho,hc,hd⟩:=hp 0 v p rfl rfl;exact⟨.int p.1 t::fs,.cons ho hc hd rfl a,by simp[b],λf hf=>by
   rcases mem_cons.mp hf with rfl|hf
   .exact⟨_,_,rfl⟩
   .exact c f hf⟩
def Ey(vs:List Value)(ps:List (Int×Int))(out:List Value):Prop:=∃zs:List (Value×(Int×Int)),zs.Perm (vs.zip ps)/\(zs.map λz=>Aj z.2).Pairwise (·<=·)/\out=zs.map (·.1)
def Pr{vs:List Value}{ps:List (Int×Int)}(hl:vs.length=ps.length){p:Array Nat}(pa:PAr vs.length p)(hs:STo (λi=>Aj (ps.getD i (0,0))) p vs.length):Ey vs ps (p.toList.map λi=>vs.getD i Value.none):=by
 have sz:=pa.size;refine⟨p.toList.map λi=>(vs.getD i Value.none,ps.getD i (0,0)),?_,?_,by rw[map_map];rfl⟩
 .have e:vs.zip ps=(List.range vs.length).map λi=>(vs.getD i Value.none,ps.getD i (0,0)):=by
   refine ext_getElem? λi=>?_;by_cases hi:i<vs.length
   .have hi2:i<ps.length:=by omega
    rw[(List.getElem?_zip_eq_some (z:=(vs[i],ps[i]))).mpr ⟨by simp[hi],by simp[hi2]⟩];simp[hi,hi2]
   .rw[List.getElem?_eq_none (by simp;omega),List.getElem?_eq_none (by simp;omega)]
  rw[e];have:=Array.perm_iff_toList_perm.mp pa;simpa using this.map _
 .rw[map_map,List.pairwise_iff_getElem];intro i j hi hj hij;simp only[length_map,Array.length_toList]at hi hj;have:=hs i j (by omega) (by omega);unfold kv at this;simpa [Array.getD,hi,hj]using this
def OT{a:Addr}{vs:List Value}{ps:List (Int×Int)}{n:Nat}{P:PySem.Fin->Shared->Prop}(ho:s.heap.get? a=some (seqObj "list" vs.toArray n))(hl:vs.length=ps.length)(h64:vs.length<64)(hok:∀p∈ps,pok p)
 (hp:∀(i:Nat) (v:Value) (p:Int×Int),vs[i]?=some v->ps[i]?=some p->PairAt (s.heap.update a (Obj.mapSeq λ_=>#[])) v p)
 (h:∀out:List Value,Ey vs ps out->P (.done (.ret .none)) { s with heap:=sortedHeap s.heap a vs out.toArray }):
 wpAny (model prog w) A (Builtin.«list.sort» ⟨[.ref a],[]⟩) P E s:=by
 have ha:=Heap.lt_size ho;have line:vs.length<=sizeLine:=by rw[sizeLine_eq];omega
 obtain⟨e1,ho1⟩:∃e1,(s.heap.update a (Obj.mapSeq λ_=>#[])).get? a=some (seqObj "list" #[] e1):=⟨_,get?_update_seq ho _⟩
 rw[list_sort_plain];refine wpAny_bind (listItems_at ho rfl (wpAny_bind (listUpdate_at ho rfl (wpAny_bind (seqEpoch_at ho1 rfl (wpAny_bind (wpAny_newTuple (wpAny_bind (wpAny_newList (wpAny_holding ?_) (zero_le _))) line)))) (by rw[size_toArray];exact line) (zero_le _))));have grow:∀b o,(s.heap.update a (Obj.mapSeq λ_=>#[])).get? b=some o->(((s.heap.update a (Obj.mapSeq λ_=>#[])).push (seqObj "tuple" vs.toArray 0)).push (seqObj "list" #[] 0)).get? b=some o:=λb o e=>Heap.get?_push_of_some _ (Heap.get?_push_of_some _ e);have ho6:=grow _ _ ho1;generalize h6:((s.heap.update a (Obj.mapSeq λ_=>#[])).push (seqObj "tuple" vs.toArray 0)).push (seqObj "list" #[] 0)=hp6 at *;have done:∀out:List Value,Ey vs ps out->P (.done (.ret .none)) { s with heap:=hp6.update a (Obj.mapSeq λ_=>out.toArray) }:=λout z=>by
  have:=h out z;unfold sortedHeap at this;rw[h6]at this;exact this
 show wpAny (model prog w) A _ P E { s with heap:=hp6 };dsimp only;have pairs6:∀(i:Nat) (v:Value) (p:Int×Int),vs[i]?=some v->ps[i]?=some p->PairAt hp6 v p:=λi v p x y=>by
  obtain⟨x',o,t,u,k,e,q,c,d⟩:=hp i v p x y;exact⟨x',o,t,u,k,e,grow _ _ q,c,d⟩
 by_cases h2:vs.toArray.size<2
 .rw[if_pos h2,if_pos h2];refine wpAny_bind (wpAny_pure ?_);rw[StateT.run_pure];refine wpAny_bind (wpAny_pure ?_);dsimp only;have hout:(arrOf (SortSt.mk' general' (vs.toArray.zip vs.toArray) #[] 7 none)).map (·.2)=vs.toArray:=by
   show(vs.toArray.zip vs.toArray).map (·.2)=vs.toArray;apply Array.toList_inj.mp;simp only[Array.toList_map,Array.toList_zip];exact map_snd_zip (le_refl _)
  rw[hout];refine wpAny_bind (seqEpoch_at ho6 rfl (wpAny_bind (listUpdate_at ho6 rfl ?_ (zero_le _) (by rw[size_toArray];omega))));simp only[bne_self_eq_false,Bool.false_eq_true,if_false];refine wpAny_pure (done vs ⟨vs.zip ps,.refl _,?_,?_⟩)
  .have hz:(vs.zip ps).length<2:=by simp at h2 ⊢;omega
   cases hh:vs.zip ps with
   |nil=>exact .nil
   |cons z r=>
    cases r with
    |nil=>exact List.pairwise_singleton _ _
    |cons y t=>rw[hh]at hz;exact absurd hz (by simp)
  .rw[List.map_fst_zip (by omega)]
 .rw[if_neg h2,if_neg h2];have h2':2<=vs.length:=by simp at h2;omega
  obtain⟨fs,t1,t2,t3⟩:=Jg hl pairs6;have tT:∀f∈fs,Looks (model prog w) hp6 (typeOf f) (Value.type "int"):=λf hf=>by
   obtain⟨i,t,rfl⟩:=t3 f hf;exact .of_pure rfl
  refine wpAny_bind (kat_kind (s:={ s with heap:=hp6 }) t1 (by omega) tT rfl ?_);have est:SortSt.mk' (tuples' true) (vs.toArray.zip vs.toArray) #[] 7 none=kas_st (tuples' true) (pairsOf vs) (List.toArray (List.range vs.length)):=by
   unfold kas_st;rw[<- pairsOf_size vs,kas_range];rfl
  have ask:(kas_sort vs.length).kasWp (kas_cmp prog w A (tuples' true) (pairsOf vs)) (λp s'=>s'={ s with heap:=hp6 }/\Ey vs ps (p.toList.map λi=>vs.getD i Value.none)) { s with heap:=hp6 }:=by
   rw[<- kas_ask_eq];refine PWp.wp (n:=vs.length) (r:=λi=>Aj (ps.getD i (0,0))) (P:=λs'=>s'={ s with heap:=hp6 }) (λi j C s' hi hj e hC=>?_) ((NO (by omega)).mono λp z s' e=>⟨e,Pr hl z.1 z.2⟩) rfl;subst e;have pi:ps[i]?=some (ps.getD i (0,0)):=by simp[show i<ps.length by omega]
   have pj:ps[j]?=some (ps.getD j (0,0)):=by simp[show j<ps.length by omega]
   have vi:vs[i]?=some (vs.getD i Value.none):=by simp[hi]
   have vj:vs[j]?=some (vs.getD j Value.none):=by simp[hj]
   exact Nu (s:={ s with heap:=hp6 }) (pairs6 i _ _ vi pi) (pairs6 j _ _ vj pj) (hok _ (mem_of_getElem? pi)) (hok _ (mem_of_getElem? pj)) (hC _ rfl)
  have run:=kas_runs (E:=E) (Q:=λ_ st' s'=>∃p:Array Nat,p.size=vs.length/\arrOf st'=p.map (kas_item (pairsOf vs))/\failedOf st'=none/\s'={ s with heap:=hp6 }/\Ey vs ps (p.toList.map λi=>vs.getD i Value.none)) h2' h64 (λp st' s' x1 x2 x3 x4=>⟨p,x1,x2,x3,x4⟩) ask;rw[<- est]at run;refine wpAny_bind (wpAny_mono run ?_ λ_ _ e=>e);rintro⟨⟨⟩,st'⟩ s' ⟨p,hsz,har,hf,rfl,so⟩;dsimp only;have hout:(arrOf st').map (·.2)=(p.toList.map λi=>vs.getD i Value.none).toArray:=by
   rw[har];apply Array.toList_inj.mp;simp only[Array.toList_map,map_map];exact map_congr_left λi _=>congrArg Prod.snd (kas_item_eq vs i)
  rw[hout];refine wpAny_bind (seqEpoch_at ho6 rfl (wpAny_bind (listUpdate_at ho6 rfl ?_ (zero_le _) (by simp[hsz];omega))));rw[hf];simp only[bne_self_eq_false,Bool.false_eq_true,if_false];exact wpAny_pure (done _ so)
end
def PairAt.keep{h h':Heap}{v:Value}{p:Int×Int}(k:∀b o,h.get? b=some o->h'.get? b=some o)(q:PairAt h v p):PairAt h' v p:=by
 obtain⟨x,o,t,u,n,e,ho,c,d⟩:=q;exact⟨x,o,t,u,n,e,k _ _ ho,c,d⟩
section
variable{prog:Program}{w:World}{A:Around}{E:Value->Shared->Prop}{s:Shared}
def Lc{l:Addr}{vs:List Value}{ps:List (Int×Int)}{Q:Value->Shared->Prop}(hl:s.heap.IsList l vs.toArray)(hlen:vs.length=ps.length)(h64:vs.length<64)(hok:∀p∈ps,pok p)
 (hp:∀(i:Nat) (v:Value) (p:Int×Int),vs[i]?=some v->ps[i]?=some p->PairAt s.heap v p)
 (h:∀out:List Value,Ey vs ps out->Q (.ref (s.heap.objs.size+1)) { s with heap:=sortedAll s.heap vs out.toArray }):
 wpAny (model prog w) A (call (.builtin "sorted") [.ref l]) Q E s:=by
 have line:vs.length<=sizeLine:=by rw[sizeLine_eq];omega
 refine Calls.call_function_entry kind_sorted plain_sorted entry_sorted (args_sorted1 _) ?_;unfold Builtin.«sorted»;refine wpAny_bind (m:=checkCount "sorted" 1 1 _) (wpAny_pure (wpAny_bind (collect_list hl (wpAny_bind (wpAny_newList ?_ line)) line)));have sz:((s.heap.push (seqObj "list" #[] 0)).update s.heap.objs.size (Obj.mapSeq (·++vs.toArray))).objs.size=s.heap.objs.size+1:=by rw[Heap.size_update,size_push']
 have at1:(((s.heap.push (seqObj "list" #[] 0)).update s.heap.objs.size (Obj.mapSeq (·++vs.toArray))).push (seqObj "list" vs.toArray 0)).get? (s.heap.objs.size+1)=some (seqObj "list" vs.toArray 0):=by
  have:=Heap.get?_push_size ((s.heap.push (seqObj "list" #[] 0)).update s.heap.objs.size (Obj.mapSeq (·++vs.toArray))) (o:=seqObj "list" vs.toArray 0) rfl
  rwa [sz]at this
 have old:∀b o,s.heap.get? b=some o->((((s.heap.push (seqObj "list" #[] 0)).update s.heap.objs.size (Obj.mapSeq (·++vs.toArray))).push (seqObj "list" vs.toArray 0)).update (s.heap.objs.size+1) (Obj.mapSeq λ_=>#[])).get? b=some o:=λb o e=>by
  have lt:=Heap.lt_size e;rw[Heap.get?_update_ne _ _ _ _ (ne_of_lt (lt_succ_of_lt lt)),Heap.get?_push_ne _ _ _ (by rw[sz];exact ne_of_lt (lt_succ_of_lt lt)),Heap.get?_update_ne _ _ _ _ (ne_of_lt lt),Heap.get?_push_ne _ _ _ (ne_of_lt lt)];exact e
 show wpAny _ _ _ _ _ { s with heap:=((s.heap.push (seqObj "list" #[] 0)).update s.heap.objs.size (Obj.mapSeq (·++vs.toArray))).push (seqObj "list" vs.toArray 0) };rw[sz];refine wpAny_bind (wpAny_holding (wpAny_call_entry slot_list_sort ⟨_,at1,rfl⟩ entry_list_sort (OT at1 hlen h64 hok (λi v p a b=>(hp i v p a b).keep old) λout z=>⟨_,rfl,?_⟩) (args_list_sort _)));exact wpAny_pure ⟨_,rfl,h out z⟩
end
section
variable(K:PySem.W.Frag){X:Cx}
def IR:List V->Hp->VK->Prop:=λxs H Q=>∃(a:Addr) (us:List V) (ps:List (Int×Int)),xs=[.ref a]/\SqL K H a us/\us.length=ps.length/\us.length<64/\(∀q∈ps,pok q)/\
 (∀(i:Nat) (u:V) (q:Int×Int),us[i]?=some u->ps[i]?=some q->∃x,u=.ref x/\SqT K H x [.int q.1,.int q.2])/\
 ∀(p:Addr) (zs:List (V×(Int×Int))),H p=none->zs.Perm (us.zip ps)->(zs.map λz=>Aj z.2).Pairwise (·<=·)->Q (.ref p) (upd H p (.lst (zs.map (·.1))))
def GA:Value->V
 |.ref x=>.ref x
 |_=>.non
def IM:∀{us:List V} {its:List Value} {i:Nat} {u:V},Vals us its->us[i]?=some u->∃v,its[i]?=some v/\RelV u v
 |_,_,_,_,.nil,h=>by simp at h
 |_::_,_::_,0,_,.cons r _,h=>by
  simp at h;subst h;exact⟨_,rfl,r⟩
 |_::_,_::_,i+1,_,.cons _ t,h=>IM (i:=i) t (by simpa using h)
def Mq(hK:X.K=K:=by rfl):CallR X (.builtin "sorted") (IR K):=by
 subst hK;intro pins s σ H xs us0 Q I r h;obtain⟨a,us,ps,rfl,hq,hlen,h64,hok,hpr,q⟩:=h;obtain⟨u,rfl,ru⟩:=DN r;cases ru;obtain⟨its,rv,p,hz⟩:=I.list hq;have hl2:us.length=its.length:=rv.length;have point:∀(i:Nat) (v:Value) (q:Int×Int),its[i]?=some v->ps[i]?=some q->(∃x,us[i]?=some (.ref x)/\v=.ref x)/\PairAt s.heap v q:=by
  intro i v q e1 e2;have hi:i<us.length:=by rw[hl2];exact(List.getElem?_eq_some_iff.mp e1).1
  have eu:us[i]?=some us[i]:=by simp[hi]
  obtain⟨x,ex,sq⟩:=hpr i _ q eu e2;obtain⟨v',ev,rel⟩:=IM rv eu;rw[e1]at ev;cases ev;rw[ex]at rel eu;have rel:v=Value.ref x:=rel;subst rel;refine⟨⟨x,eu,rfl⟩,?_⟩;obtain⟨jts,rj,⟨o,ho,hc,n,hd⟩,_⟩:=I.tuple sq;cases rj with
  |cons r1 t1=>
   cases t1 with
   |cons r2 t2=>
    cases t2;obtain⟨t,rfl⟩:=r1;obtain⟨t',rfl⟩:=r2;exact⟨x,o,t,t',n,rfl,ho,hc,hd⟩
 refine Lc (ps:=ps) p.isList (by omega) (by omega) hok (λi v q a b=>(point i v q a b).2) λout z=>?_;obtain⟨zs,pm,pw,rfl⟩:=z;obtain⟨e,he⟩:=sortedAll_at s.heap its (zs.map (·.1)).toArray;have mz:∀z∈zs,∃x,z.1=.ref x:=λz hz=>by
  have:=pm.mem_iff.mp hz;obtain⟨i,hi⟩:=mem_iff_getElem?.mp this;obtain⟨e1,e2⟩:=List.getElem?_zip_eq_some.mp hi;obtain⟨⟨x,_,ex⟩,_⟩:=point i _ _ e1 e2;exact⟨x,ex⟩
 have vz:∀{zs:List (Value×(Int×Int))},(∀z∈zs,∃x,z.1=.ref x)->Vals (zs.map λz=>GA z.1) (zs.map (·.1)):=by
  intro zs
  induction zs with
  |nil=>intro _;exact .nil
  |cons z r ih=>
   intro h;obtain⟨x,ex⟩:=h z mem_cons_self;refine .cons ?_ (ih λy hy=>h y (mem_cons_of_mem _ hy));show RelV (GA z.1) z.1;rw[ex];rfl
 have pm2:(zs.map λz=>(GA z.1,z.2)).Perm (us.zip ps):=by
  have:=pm.map λz:Value×(Int×Int)=>(GA z.1,z.2)
  have e:((its.zip ps).map λz:Value×(Int×Int)=>(GA z.1,z.2))=us.zip ps:=by
   refine ext_getElem? λi=>?_;by_cases hi:i<us.length
   .have h1:i<its.length:=by omega
    have h2:i<ps.length:=by omega
    have e1:its[i]?=some its[i]:=by simp[h1]
    have e2:ps[i]?=some ps[i]:=by simp[h2]
    obtain⟨⟨x,ex,ev⟩,_⟩:=point i _ _ e1 e2;rw[List.getElem?_map,(List.getElem?_zip_eq_some (z:=(its[i],ps[i]))).mpr ⟨e1,e2⟩,(List.getElem?_zip_eq_some (z:=(V.ref x,ps[i]))).mpr ⟨ex,e2⟩,map_some,ev];rfl
   .rw[List.getElem?_eq_none (by simp;omega),List.getElem?_eq_none (by simp;omega)]
  rwa [e]at this
 have pw2:((zs.map λz=>(GA z.1,z.2)).map λz:V×(Int×Int)=>Aj z.2).Pairwise (·<=·):=by rw[map_map];exact pw
 have fin:=q (s.heap.objs.size+1) _ (I.hok.fresh (le_succ _)) pm2 pw2;have em:(zs.map λz=>(GA z.1,z.2)).map (·.1)=zs.map λz=>GA z.1:=by rw[map_map];rfl
 rw[em]at fin;have zl:zs.length<64:=by rw[pm.length_eq];simp;omega
 refine⟨.ref (s.heap.objs.size+1),_,I.laid (a:=s.heap.objs.size+1) (o:=.lst (zs.map λz=>GA z.1)) (t':=s.toks) (λb o hb=>sortedAll_old hb) (le_succ _) ⟨?_,_,e,vz mz,he⟩,rfl,fin⟩;rw[length_map];exact le_of_lt (Pt (by omega))
end
def BE(p:Int×Int):D:=.im (.tup [.int p.1,.int p.2])
def DI:List D->Option (List (Int×Int))
 |[]=>some []
 |.im (.tup [.int a,.int b])::r=>(DI r).map ((a,b)::·)
 |_=>none
def Gz:∀{ds:List D} {ps:List (Int×Int)},DI ds=some ps->ds=ps.map BE:=by
 intro ds
 induction ds with
 |nil=>intro ps h;simp[DI]at h;subst h;rfl
 |cons d r ih=>
  intro ps h;unfold DI at h;split at h
  .next e=>cases e
  .next a b r' e=>
   cases e;obtain⟨qs,e1,rfl⟩:=c7 h;rw[ih e1];rfl
  .cases h
@[simp] theorem JF(ps:List (Int×Int)):DI (ps.map BE)=some ps:=by
 induction ps with
 |nil=>rfl
 |cons p r ih=>simp[DI,BE]at ih ⊢;exact ih
def DP(ps:List (Int×Int)):List (Int×Int):=ps.mergeSort λa b=>decide (Aj a<=Aj b)
def Iw(ps:List (Int×Int)):(DP ps).Perm ps:=mergeSort_perm ..
def Ld(ps:List (Int×Int)):(DP ps).Pairwise λa b=>Aj a<=Aj b:=by
 have:=List.pairwise_mergeSort (le:=λa b:Int×Int=>decide (Aj a<=Aj b)) (by intro a b c h1 h2;simp at *;omega) (by intro a b;simp;omega) ps;exact this.imp (by simp)
def T6{p q:Int×Int}(a:pok p)(b:pok q)(h:Aj p=Aj q):p=q:=by
 unfold pok at a b;unfold Aj at h;exact Prod.ext (by omega) (by omega)
open Classical in
def DW(m:MI):MA:=λls hd=>(m ls hd).bind λp=>(DI p.1.1).bind λps=>if ps.length<64/\∀q∈ps,pok q then some ((DP ps).map BE,p.2)else none
section
variable{K:PySem.W.Frag}{ρ:List Addr}{H:Hp}{hd:Hd}
def Nb{p:Int×Int}{v:V}(h:RD K ρ H (BE p) v):∃x,v=.ref x/\SqT K H x [.int p.1,.int p.2]:=by
 simp only[BE,RD,RI,RIs]at h;obtain⟨a,xs,rfl,q,x,r,rfl,rfl,y,r2,rfl,rfl,rfl⟩:=h;exact⟨a,rfl,q⟩
def Oc{t:TE}{m:MI}(h:RRw K false t m):RN K (tCB (IR K) (BM t CI)) (DW m):=by
 and_intros;obtain⟨⟨⟨d1,g1⟩,h1⟩,e1,hm⟩:=c5 hm;obtain⟨ps,e2,hm⟩:=c5 hm;split at hm
 .next c=>
  cases hm;refine h ρ σ H hd ls _ d1 g1 _ hR hL e1 λρ1 H1 a x1 R1 G1 S1=>?_;obtain⟨xs,q,r⟩:=S1 ρ1 H1 _ .refl R1 G1;have e2:DI d1=some ps:=e2;rw[Gz e2]at r;have hl:xs.length=ps.length:=by simpa using r.len
  have each:∀(i:Nat) (u:V) (q:Int×Int),xs[i]?=some u->ps[i]?=some q->RD K ρ1 H1 (BE q) u:=λi u q a b=>by
   obtain⟨x,e,z⟩:=r.get (i:=i) (d:=BE q) (by simp[b]);rw[a]at e;cases e;exact z
  refine⟨a,xs,ps,rfl,q,hl,by rw[hl];exact c.1,c.2,λi u q a b=>Nb (each i u q a b),λp zs hp pm pw=>?_⟩;have es:zs.map (·.2)=DP ps:=by
   have pp:(zs.map (·.2)).Perm ps:=by
    have:=pm.map (λz:V×(Int×Int)=>z.2)
    rwa [map_snd_zip (by omega)]at this
   refine(pp.trans (Iw ps).symm).eq_of_pairwise (le:=λa b=>Aj a<=Aj b) (λx y hx hy l1 l2=>T6 (c.2 _ (pp.mem_iff.mp hx)) (c.2 _ ((Iw ps).mem_iff.mp hy)) (Int.le_antisymm l1 l2)) ?_ (Ld ps);rw[pairwise_map]at pw ⊢;exact pw
  obtain⟨R2,x2⟩:=R1.hid (ho:=.lst (zs.map (·.1))) hp;have all:∀z∈zs,RD K ρ1 H1 (BE z.2) z.1:=λz hz=>by
   obtain⟨i,hi⟩:=mem_iff_getElem?.mp (pm.mem_iff.mp hz);obtain⟨a1,a2⟩:=List.getElem?_zip_eq_some.mp hi;exact each i _ _ a1 a2
  have rd:∀{zs:List (V×(Int×Int))},(∀z∈zs,RD K ρ1 H1 (BE z.2) z.1)->RDs K ρ1 H1 ((zs.map (·.2)).map BE) (zs.map (·.1)):=by
   intro zs
   induction zs with
   |nil=>intro _;exact .nil
   |cons z r ih=>intro h;exact .cons (h z mem_cons_self) (ih λy hy=>h y (mem_cons_of_mem _ hy))
  have rz:=rd all;rw[es]at rz;exact hQ ρ1 _ p _ (x1.trans R1 x2) R2 (x1.none hR hp R1) (R1.out hp) AJ (rz.ext R1 x2)
 .cases hm
open Classical in
def Zh:D->List D->Hd->Option (D×Hd)
 |.mu n,[.im (.int i)],hd=>match hd[n]? with
  |some (.lst ds)=>if Jp i then(ixN ds.length i).bind λk=>(ds[k]?).map λy=>(y,hd.set n (.lst (ds.eraseIdx k)))else none
  |_=>none
 |_,_,_=>none
end
section
variable(K:PySem.W.Frag){X:Cx}{e:Expr}{te:TE}{p pos:Pos}
def Oj{mi:MI}(hm:X.mg "sorted"=none)(ha:QR K false X e te mi)(hg:Gl X "sorted":=by rfl)(he:starEach [e] X.env=[(false,eval e X.env)]:=by rfl)(hK:X.K=K:=by rfl):QN K X (.Call (.Name "sorted" p) [e] [] pos) (tCB (IR K) (BM te CI)) (DW mi):=
 ⟨IT (Mq K hK) hg hm Ke (CA ha.p Cv he) (by decide) (by decide) he rfl,Oc ha.r⟩
end
section
variable{ls:Ls}{hd:Hd}
open Classical in
@[simp] theorem bo(k:Nat)(i:Int):Zh (.mu k) [.im (.int i)] hd=match hd[k]? with
 |some (.lst ds)=>if Jp i then(ixN ds.length i).bind λj=>(ds[j]?).map λy=>(y,hd.set k (.lst (ds.eraseIdx j)))else none
 |_=>none:=rfl
open Classical in
@[simp] theorem b8(mi:MI):DW mi ls hd=(mi ls hd).bind λp=>(DI p.1.1).bind λps=>if ps.length<64/\∀q∈ps,pok q then some ((DP ps).map BE,p.2)else none:=rfl
end
end L2
namespace L2
open PySem PySem.Spec PyProof.Rows
def WP{α:Type}(o:Option (α×Hd))(Q:α->Hd->Prop):Prop:=∃z h,o=some (z,h)/\Q z h
abbrev WS(m:MS)(ls:Ls)(hd:Hd)(Q:Fl->Hd->Prop):Prop:=WP (m ls hd) Q
abbrev WE(m:ME)(ls:Ls)(hd:Hd)(Q:D->Hd->Prop):Prop:=WP (m ls hd) Q
abbrev WT(m:MT)(ls:Ls)(hd:Hd)(Q:Bool->Hd->Prop):Prop:=WP (m ls hd) Q
abbrev WA(m:MA)(ls:Ls)(hd:Hd)(Q:List D->Hd->Prop):Prop:=WP (m ls hd) Q
abbrev WO(m:MO1)(ls:Ls)(hd:Hd)(Q:Option Int->Hd->Prop):Prop:=WP (m ls hd) Q
abbrev WI(m:MI)(ls:Ls)(hd:Hd)(Q:List D×Gd->Hd->Prop):Prop:=WP (m ls hd) Q
abbrev WF(F:List D->Hd->Option (D×Hd))(ds:List D)(hd:Hd)(Q:D->Hd->Prop):Prop:=WP (F ds hd) Q
section
variable{α β:Type}{o:Option (α×Hd)}{Q:α->Hd->Prop}{R:β->Hd->Prop}{ls:Ls}{hd:Hd}{d e:D}
def WP.some{z:α}{h:Hd}(q:Q z h):WP (some (z,h)) Q:=⟨z,h,rfl,q⟩
def WP.mono{Q':α->Hd->Prop}(h:WP o Q)(k:∀z h,Q z h->Q' z h):WP o Q':=let ⟨z,x,e,q⟩:=h;⟨z,x,e,k z x q⟩
def WP.bind{f:α×Hd->Option (β×Hd)}(h:WP o λz x=>WP (f (z,x)) R):WP (o.bind f) R:=by
 obtain⟨z,x,e,q⟩:=h;rw[e];exact q
def WP.eq{z:α}{h:Hd}(e:o=Option.some (z,h))(q:Q z h):WP o Q:=⟨z,h,e,q⟩
end
section
variable{ls:Ls}{hd:Hd}{a b:MS}{ma mb mc:ME}{ta tb:MT}{m m1 m2:MA}{n:MG}{ns:MGs}{mi:MI}{d e:D}{i j:Nat}{QS:Fl->Hd->Prop}{QE:D->Hd->Prop}{QT:Bool->Hd->Prop}{QA:List D->Hd->Prop}{QO:Option Int->Hd->Prop}{QI:List D×Gd->Hd->Prop}
def OJ(b:MS)(Q:Fl->Hd->Prop):Fl->Hd->Prop
 |.nx l,h=>WS b l h Q
 |f,h=>Q f h
def AA(h:WS a ls hd (OJ b QS)):WS (AE a b) ls hd QS:=by
 obtain⟨f,x,e,q⟩:=h;show WP (AE a b ls hd) QS;rw[Zk,e];cases f<;>first|exact q|exact⟨_,_,rfl,q⟩
def A7{l:Ls}{h:Hd}(q:WS b l h QS):OJ b QS (.nx l) h:=q
def IN{h:Hd}(q:QS (.rt d) h):OJ b QS (.rt d) h:=q
def AV(h:QS (.nx ls) hd):WS Ac ls hd QS:=⟨_,_,rfl,h⟩
def AU(h:WE ma ls hd λd x=>QS (.rt d) x):WS (AX ma) ls hd QS:=WP.bind (h.mono λ_ _ q=>WP.some q)
def AN(h:WE ma ls hd λd x=>QS (.nx (ls.set i (some d))) x):WS (AT i ma) ls hd QS:=by
 obtain⟨d,x,e,q⟩:=h;exact⟨_,_,by simp only[Mf,e,bind_some,Wy,map_some],q⟩
def Ij(h:WE ma ls hd λd x=>∃l,n d ls x=some l/\QS (.nx l) x):WS (GG ma n) ls hd QS:=by
 obtain⟨d,x,e,l,e2,q⟩:=h;exact⟨_,_,by simp only[Mf,e,bind_some,e2,map_some],q⟩
def Be(h:WE ma ls hd λ_ x=>QS (.nx ls) x):WS (BF ma) ls hd QS:=WP.bind (h.mono λ_ _ q=>WP.some q)
def aA(h:WT ta ls hd λc x=>if c=true then WS a ls x QS else WS b ls x QS):WS (Ak ta a b) ls hd QS:=by
 refine WP.bind (h.mono λc x q=>?_);dsimp only;cases c<;>simpa using q
def Ae(h:WT ta ls hd λc x=>(c=true->WS a ls x QS)/\(c=false->WS b ls x QS)):WS (Ak ta a b) ls hd QS:=
 aA (h.mono λc x q=>by cases c<;>simp_all)
def XG{ix:List Nat}(h:WA m ls hd λds x=>ds.length=ix.length/\QS (.nx ((ix.zip ds).foldl (λl q=>l.set q.1 (some q.2)) ls)) x):WS (P2 ix m) ls hd QS:=by
 obtain⟨d,x,e,q,q2⟩:=h;exact⟨_,_,by simp only[Zl,e,bind_some,q,if_true],q2⟩
def WL(n:MG)(b:MS)(g:Gd)(ds:List D)(ls:Ls)(hd:Hd)(Q:Fl->Hd->Prop):Prop:=WP (Az n b g ds ls hd) Q
def BL(h:WI mi ls hd λp x=>WL n b p.2 p.1 ls x QS):WS (BN mi n b) ls hd QS:=WP.bind (h.mono λ_ _ q=>q)
def U4(g:Gd)(P:Ls->Hd->Prop)(Q:Fl->Hd->Prop):Fl->Hd->Prop
 |.nx l,h=>GOk h g/\P l h
 |.ct l,h=>GOk h g/\P l h
 |.bk l,h=>Q (.nx l) h
 |.rt d,h=>Q (.rt d) h
def BJ{g:Gd}(P:List D->Ls->Hd->Prop):∀{ds:List D} {ls:Ls} {hd:Hd},P ds ls hd ->
 (∀d r ls hd,P (d::r) ls hd->∃ls1,n d ls hd=some ls1/\WS b ls1 hd (U4 g (P r) QS))->(∀ls hd,P [] ls hd->QS (.nx ls) hd)->WL n b g ds ls hd QS
 |[],ls,hd,h,_,z=>⟨_,_,by unfold Az;rfl,z _ _ h⟩
 |d::r,ls,hd,h,k,z=>by
  obtain⟨ls1,e1,f,x,e2,q⟩:=k d r ls hd h;unfold WL;unfold Az;rw[e1,bind_some,e2,bind_some];cases f with
  |nx l=>exact(show GOk x g/\P r l x from q).1 |> λg1=>by dsimp only;rw[if_pos g1];exact BJ P q.2 k z
  |ct l=>exact(show GOk x g/\P r l x from q).1 |> λg1=>by dsimp only;rw[if_pos g1];exact BJ P q.2 k z
  |bk l=>exact⟨_,_,rfl,q⟩
  |rt l=>exact⟨_,_,rfl,q⟩
def A0(h:ls[i]?=some (some d))(q:QE d hd):WE (A1 i) ls hd QE:=⟨d,hd,by rw[Zi,h],q⟩
def A9{i:I}(q:QE (.im i) hd):WE (mC i) ls hd QE:=⟨_,_,rfl,q⟩
def A4{f:D->D->Hd->Option (D×Hd)}(h:WE ma ls hd λd x=>WE mb ls x λe y=>WP (f d e y) QE):WE (mOp f ma mb) ls hd QE:=WP.bind (h.mono λ_ _ q=>WP.bind (q.mono λ_ _ q=>q))
def U3(h:WT ta ls hd λc x=>if c=true then WE ma ls x QE else WE mb ls x QE):WE (mIf ta ma mb) ls hd QE:=by
 refine WP.bind (h.mono λc x q=>?_);dsimp only;cases c<;>simpa using q
def Pk(h:WT ta ls hd λc x=>(c=true->WE ma ls x QE)/\(c=false->WE mb ls x QE)):WE (mIf ta ma mb) ls hd QE:=
 U3 (h.mono λc x q=>by cases c<;>simp_all)
def Am(h:WA m ls hd λds x=>C9 ds.length/\QE (Ag ds) x):WE (Ap m) ls hd QE:=WP.bind (h.mono λds x q=>by dsimp only;rw[if_pos q.1];exact WP.some q.2)
def Ay(h:WA m ls hd λds x=>QE (.mu x.length) (x++[.lst ds])):WE (BH m) ls hd QE:=WP.bind (h.mono λ_ _ q=>WP.some q)
def DH{g:List D->Option D}(h:WA m ls hd λds x=>∃d,g ds=some d/\QE d x):WE (C8 g m) ls hd QE:=by
 obtain⟨ds,x,e,d,e2,q⟩:=h;exact⟨d,x,by simp only[Zt,e,bind_some,e2,map_some],q⟩
def Ff(h:WA m ls hd λds x=>WE ma ls x λe y=>∃i d,e=.im (.int i)/\atI ds i=some d/\QE d y):WE (FX m ma) ls hd QE:=by
 obtain⟨ds,x,e,d,y,e2,i,z,rfl,e4,q⟩:=h;exact⟨z,y,by simp only[Zn,e,bind_some,e2,e4,map_some],q⟩
def BD{f:List D->Hd->Option (D×Hd)}(h:WA m ls hd λds x=>WP (f ds x) QE):WE (mCB f m) ls hd QE:=WP.bind (h.mono λ_ _ q=>q)
def Hi{f:D->List D->Hd->Option (D×Hd)}(h:WE ma ls hd λd x=>(∃l,BQ x d=some l)/\WA m ls x λds y=>WP (f d ds y) QE):WE (mMt f ma m) ls hd QE:=by
 obtain⟨d,x,e,⟨l,hl⟩,q⟩:=h;unfold WE;rw[b9,e,bind_some];dsimp only;rw[hl];exact WP.bind (q.mono λ_ _ q=>q)
def G6{F:List D->Hd->Option (D×Hd)}(h:WA m ls hd λds x=>WF F ds x QE):WE (Do F m) ls hd QE:=WP.bind (h.mono λ_ _ q=>q)
def Gk(h:WE ma ls hd λd x=>∃i,d=.im (.int i)/\QE (.im (.int (-i))) x):WE (FW ma) ls hd QE:=by
 obtain⟨d,x,e,i,rfl,q⟩:=h;exact⟨_,x,by simp only[Zm,e,bind_some],q⟩
def E1(h:WT (AM ma) ls hd λc x=>if c=true then WE mb ls x QE else QE (.im (.bl false)) x):WE (DD ma mb) ls hd QE:=by
 refine WP.bind (h.mono λc x q=>?_);dsimp only;cases c
 .exact WP.some (by simpa using q)
 .simpa using q
def Pj(h:WT (AM ma) ls hd λc x=>if c=true then QE (.im (.bl true)) x else WE mb ls x QE):WE (Ib ma mb) ls hd QE:=by
 refine WP.bind (h.mono λc x q=>?_);dsimp only;cases c
 .simpa using q
 .exact WP.some (by simpa using q)
def Jf(h:WT (AM ma) ls hd λc x=>QE (.im (.bl (!c))) x):WE (FO ma) ls hd QE:=WP.bind (h.mono λ_ _ q=>WP.some q)
def AO(h:WE ma ls hd λd x=>∃b,d=.im (.bl b)/\QT b x):WT (AM ma) ls hd QT:=by
 obtain⟨d,x,e,b,rfl,q⟩:=h;exact⟨b,x,by simp only[Wv,e,bind_some],q⟩
def BV(h:WE ma ls hd λd x=>∃b,E3 x d=some b/\QT b x):WT (BU ma) ls hd QT:=by
 obtain⟨d,x,e,b,e2,q⟩:=h;exact⟨b,x,by simp only[Zj,e,bind_some,e2,map_some],q⟩
def CF(h:WT ta ls hd λc x=>QT (!c) x):WT (C6 ta) ls hd QT:=WP.bind (h.mono λ_ _ q=>WP.some q)
def Cr(h:WT ta ls hd λc x=>if c=true then WT tb ls x QT else QT false x):WT (Cz ta tb) ls hd QT:=by
 refine WP.bind (h.mono λc x q=>?_);dsimp only;cases c
 .exact WP.some (by simpa using q)
 .simpa using q
def FK(h:WT ta ls hd λc x=>if c=true then QT true x else WT tb ls x QT):WT (mOr ta tb) ls hd QT:=by
 refine WP.bind (h.mono λc x q=>?_);dsimp only;cases c
 .simpa using q
 .exact WP.some (by simpa using q)
def Bu(h:QT true hd):WT Bw ls hd QT:=⟨_,_,rfl,h⟩
def A5(h:QA [] hd):WA A6 ls hd QA:=⟨_,_,rfl,h⟩
def A2(h:WE ma ls hd λd x=>WA m ls x λds y=>QA (d::ds) y):WA (A3 ma m) ls hd QA:=WP.bind (h.mono λ_ _ q=>WP.bind (q.mono λ_ _ q=>WP.some q))
def Bc(h:WA m ls hd λds x=>C9 ds.length/\QA ds x):WA (CO m) ls hd QA:=WP.bind (h.mono λds x q=>by dsimp only;rw[if_pos q.1];exact WP.some q.2)
def Uj(h:WE ma ls hd λd x=>∃ds,B8 x d=some ds/\QA ds x):WA (Hq ma) ls hd QA:=by
 obtain⟨d,x,e,ds,e2,q⟩:=h;exact⟨ds,x,by simp only[X2,e,bind_some,e2,map_some],q⟩
def U1(h:QO none hd):WO Bt ls hd QO:=⟨_,_,rfl,h⟩
def NI(h:WE ma ls hd λd x=>∃i,d=.im (.int i)/\QO (some i) x):WO (DC ma) ls hd QO:=by
 obtain⟨d,x,e,i,rfl,q⟩:=h;exact⟨_,x,by simp only[Ww,e,bind_some],q⟩
def Je(h:WA m ls hd λds x=>∃k,ds=[.im (.int k)]/\Jp k/\QI (Au 0 k.toNat,[]) x):WI (EZ m) ls hd QI:=by
 obtain⟨ds,x,e,k,rfl,c,q⟩:=h;exact⟨_,x,by simp only[Zp,e,bind_some,c,if_true],q⟩
def U2(h:WA m ls hd λds x=>∃j k,ds=[.im (.int j),.im (.int k)]/\Ob j k/\QI (Au j (k-j).toNat,[]) x):WI (Hr m) ls hd QI:=by
 obtain⟨ds,x,e,j,k,rfl,c,q⟩:=h;exact⟨_,x,by simp only[X3,e,bind_some,c,if_true],q⟩
def CM(h:WE ma ls hd λd x=>∃ds,Af d=some ds/\QI (ds,[]) x):WI (BB ma) ls hd QI:=by
 obtain⟨d,x,e,ds,e2,q⟩:=h;exact⟨_,x,by simp only[Zo,e,bind_some,e2,map_some],q⟩
def XJ(h:WA m ls hd λds x=>QI (ds,[]) x):WI (Eb m) ls hd QI:=by
 obtain⟨ds,x,e,q⟩:=h;exact⟨_,x,by simp only[Zr,e,map_some],q⟩
def EW(h:WE ma ls hd λd x=>∃k ds,d=.mu k/\x[k]?=some (.lst ds)/\QI (ds,[(k,ds)]) x):WI (CW ma) ls hd QI:=by
 obtain⟨d,x,e,k,ds,rfl,e2,q⟩:=h;exact⟨_,x,by simp only[Zq,e,bind_some,e2],q⟩
def B7{k:Nat}{ix:List Nat}(h:WI mi ls hd λp x=>C9 p.1.length/\WP (B4 n ta ma p.2 p.1 (FU k ix ls) x) QA):WA (Aw k ix mi n ta ma) ls hd QA:=WP.bind (h.mono λp x q=>by dsimp only;rw[if_pos q.1];exact q.2)
def LR{g:Gd}(P:List D->List D->Ls->Hd->Prop):∀{ds es:List D} {ls:Ls} {hd:Hd},P ds es ls hd ->
 (∀d r es ls hd,P (d::r) es ls hd->∃ls1,n d ls hd=some ls1/\WT ta ls1 hd λc x=>if c=true then WE ma ls1 x λz y=>GOk y g/\P r (es++[z]) ls1 y else GOk x g/\P r es ls1 x) ->
 WP (B4 n ta ma g ds ls hd) λzs x=>∃ls',P [] (es++zs) ls' x
 |[],es,ls,hd,h,k=>⟨_,_,by unfold B4;rfl,ls,by simpa using h⟩
 |d::r,es,ls,hd,h,k=>by
  obtain⟨ls1,e1,c,x,e2,q⟩:=k d r es ls hd h;unfold B4;rw[e1,bind_some,e2,bind_some];cases c with
  |true=>
   rw[if_pos rfl]at q ⊢;obtain⟨z,y,e3,g3,p3⟩:=q;obtain⟨zs,y2,e4,ls',p4⟩:=LR P p3 k;rw[e3,bind_some];dsimp only;rw[if_pos g3,e4];exact⟨z::zs,y2,rfl,ls',by simpa using p4⟩
  |false=>
   rw[if_neg Bool.false_ne_true]at q ⊢;dsimp only;rw[if_pos q.1];exact LR P q.2 k
def Ar{i j:Int}(q:QE (.im (.int (i+j))) hd):WP (AS (.im (.int i)) (.im (.int j)) hd) QE:=⟨_,_,by simp,q⟩
def B6{i j:Int}(q:QE (.im (.int (i-j))) hd):WP (B5 (.im (.int i)) (.im (.int j)) hd) QE:=⟨_,_,by simp,q⟩
def XH{i j:Int}(c:FM i j)(q:QE (.im (.int (i*j))) hd):WP (GJ (.im (.int i)) (.im (.int j)) hd) QE:=⟨_,_,by simp[c],q⟩
def Pf{i j:Int}(c:CV j)(q:QE (.im (.int (i%j))) hd):WP (FF (.im (.int i)) (.im (.int j)) hd) QE:=⟨_,_,by simp[c],q⟩
def Uf{i j:Int}(c:JR j)(q:QE (.im (.int (i/j))) hd):WP (GK (.im (.int i)) (.im (.int j)) hd) QE:=⟨_,_,by simp[c],q⟩
def Il{i j:Int}(q:QE (.im (.bl (decide (i<j)))) hd):WP (gLt (.im (.int i)) (.im (.int j)) hd) QE:=⟨_,_,by simp,q⟩
def Hh{i j:Int}(q:QE (.im (.bl (decide (i<=j)))) hd):WP (gLe (.im (.int i)) (.im (.int j)) hd) QE:=⟨_,_,by simp,q⟩
def Im{i j:Int}(q:QE (.im (.bl (decide (j<i)))) hd):WP (gGt (.im (.int i)) (.im (.int j)) hd) QE:=⟨_,_,by simp,q⟩
def U0{i j:Int}(q:QE (.im (.bl (decide (j<=i)))) hd):WP (gGe (.im (.int i)) (.im (.int j)) hd) QE:=⟨_,_,by simp,q⟩
def EI{i j:Int}(q:QE (.im (.bl (decide (i=j)))) hd):WP (gEq (.im (.int i)) (.im (.int j)) hd) QE:=⟨_,_,by simp,q⟩
def LN{i j:Int}(q:QE (.im (.bl (!decide (i=j)))) hd):WP (gNe (.im (.int i)) (.im (.int j)) hd) QE:=⟨_,_,by simp,q⟩
def LO{i j:Str}(q:QE (.im (.bl (decide (i=j)))) hd):WP (gEq (.im (.str i)) (.im (.str j)) hd) QE:=⟨_,_,by simp,q⟩
def Ik{i j:Str}(q:QE (.im (.bl (!decide (i=j)))) hd):WP (gNe (.im (.str i)) (.im (.str j)) hd) QE:=⟨_,_,by simp,q⟩
def AD{i:Int}{ds:List D}(e1:B8 hd d=some ds)(e2:atI ds i=some e)(q:QE e hd):WP (gIx d (.im (.int i)) hd) QE:=⟨_,_,by rw[bA,e1,bind_some,e2];rfl,q⟩
def Jd{i j:Int}(q:QE (.im (.int (max i j))) hd):WP (GP [.im (.int i),.im (.int j)] hd) QE:=⟨_,_,rfl,by have:(if j>i then j else i)=max i j:=(by split<;>omega);rw[this];exact q⟩
def Jc{i j:Int}(q:QE (.im (.int (min i j))) hd):WP (GO [.im (.int i),.im (.int j)] hd) QE:=⟨_,_,rfl,by have:(if j<i then j else i)=min i j:=(by split<;>omega);rw[this];exact q⟩
def Bf{tp:Bool}{g:List D->Option D}{ds:List D}{z:D}(e1:(if tp then B8 hd d else BQ hd d)=some ds)(e2:g ds=some z)(q:QE z hd):WP (f1 tp g [d] hd) QE:=⟨_,_,by rw[bB,e1,bind_some,e2];rfl,q⟩
def Gj{k:Nat}{x:D}{ds:List D}(e1:hd[k]?=some (.lst ds))(c:GN ds.length)(q:QE (.im .non) (hd.set k (.lst (ds++[x])))):WP (BK (.mu k) [x] hd) QE:=⟨_,_,by rw[Zu,e1];simp only[c,if_true],q⟩
def NG(h:WE mc ls hd λp x=>WE ma ls x λq y=>WE mb ls y λr z=>∃w i j ds,q=.mu w/\r=.im (.int i)/\z[w]?=some (.lst ds)/\ixN ds.length i=some j/\QS (.nx ls) (z.set w (.lst (ds.set j p)))):WS (GF ma mb mc) ls hd QS:=by
 obtain⟨p,x,e1,q,y,e2,r,z,e3,w,i,j,ds,rfl,rfl,e5,c,qq⟩:=h;exact⟨_,_,by simp only[Wz,e1,bind_some,e2,e3,e5,c,map_some],qq⟩
def As{k n:Nat}{m:MS}{ds:List D}{Q:D->Hd->Prop}(hl:ds.length=k)(h:WS m (ds.map some++List.replicate (n-k) none) hd λf x=>match f with
 |.rt d=>Q d x
 |.nx _=>Q (.im .non) x
 | _=>False):WF (mkF k n m) ds hd Q:=by
 obtain⟨f,x,e,q⟩:=h;unfold WF mkF;rw[if_pos hl,e];cases f with
 |nx l=>exact⟨_,_,rfl,q⟩
 |rt l=>exact⟨_,_,rfl,q⟩
 |bk l=>exact q.elim
 |ct l=>exact q.elim
def AK{F:List D->Hd->Option (D×Hd)}(h:WA m ls hd λds x=>Av 0 ds=true/\WF F ds [] λd _=>∃i,d=.im i/\QE (.im i) x):WE (A8 0 F m) ls hd QE:=by
 obtain⟨ds,x,e,c,d,y,e2,i,rfl,q⟩:=h;exact⟨_,_,Ri e c e2,q⟩
end
structure Tap(T:Nat->MO->MO->Prop)(P:List D->Hd->Option (D×Hd)):Prop where
 cl:∀{k:Nat} {a b:MO},T k a b->clO 2 a=true/\clO 2 b=true
 le:∀{j k:Nat} {a b:MO},T k a b->j<=k->T j a b
 pick:∀{k:Nat} {a b:MO} {many:Int},T (k+1) a b->0<many->many<1073741824->∃r a' b',0<=r/\r<many/\P [.mu 1,.im (.int many)] [a,b]=some (.im (.int r),[a',b'])/\T k a' b'
section
variable{T:Nat->MO->MO->Prop}{P:List D->Hd->Option (D×Hd)}{a b:MO}{rest:Hd}{ls:Ls}{m:MA}{QE:D->Hd->Prop}{n c:Nat}
def Tap.draw(t:Tap T P)(hT:T (n+1) a b){many:Int}{hd:Hd}(e:m ls hd=some ([.mu 1,.im (.int many)],a::b::rest))(h0:0<many)(h1:many<1073741824)
 (k:∀r a' b',T n a' b'->0<=r->r<many->QE (.im (.int r)) (a'::b'::rest)):WE (A8 2 P m) ls hd QE:=by
 obtain⟨r,a',b',p1,p2,e2,hT'⟩:=t.pick hT h0 h1;refine⟨_,_,Mt (w:=2) (ds:=[.mu 1,.im (.int many)]) (pre:=[a,b]) (pre':=[a',b']) (rest:=rest) (g:=[]) rfl rfl e (by simp) ?_ ?_ (by simpa using e2),k r a' b' hT' p1 p2⟩
 .simp[t.cl hT]
 .simp[t.cl hT']
end
section
variable{K:PySem.W.Frag}{ρ ρ':List Addr}{H H':Hp}{hd hd':Hd}
def au:ME:=λ_ hd=>some (.mu hd.length,hd++[.dic []])
def Ui{ls:Ls}{Q:D->Hd->Prop}(q:Q (.mu hd.length) (hd++[.dic []])):WE au ls hd Q:=⟨_,_,rfl,q⟩
end
mutual
def Mo{v w:Nat}(h:v<=w):∀{d:D},clD v d=true->clD w d=true
 |.im i,_=>by simp
 |.mu n,c=>by simp at c ⊢;omega
 |.tm ds,c=>by rw[clD]at c ⊢;exact FT h c
 |.ro ns,_=>by rw[clD]
 |.op _ _ ds,c=>by rw[clD]at c ⊢;exact FT h c
def FT{v w:Nat}(h:v<=w):∀{ds:List D},Av v ds=true->Av w ds=true
 |[],_=>by simp
 |d::ds,c=>by
  simp only[RZ,Bool.and_eq_true]at c ⊢;exact⟨Mo h c.1,FT h c.2⟩
end
def KZ{v w:Nat}(h:v<=w):∀{ds:List (Key×D)},Fd v ds=true->Fd w ds=true
 |[],_=>by simp[Fd]
 |d::ds,c=>by
  simp only[Fd,Bool.and_eq_true]at c ⊢;exact⟨Mo h c.1,KZ h c.2⟩
def Ts{v w:Nat}(h:v<=w){o:MO}(c:clO v o=true):clO w o=true:=by
 cases o with
 |lst ds=>exact FT h c
 |dic ds=>exact KZ h c
section
variable{T:Nat->MO->MO->Prop}{P:List D->Hd->Option (D×Hd)}{a b:MO}{rest:Hd}{ls:Ls}{m:MA}{QE:D->Hd->Prop}
def Tap.callX(t:Tap T P){n c:Nat}(hT:T (n+c) a b)(ex:Hd){w:Nat}{F:List D->Hd->Option (D×Hd)}{as:List D}{hd:Hd}{R:I->Prop}(e:m ls hd=some (.mu 1::as,a::b::(ex++rest)))(hw:w=ex.length+2)(ha:Av w as=true)(hx:ex.all (clO w)=true)
 (hF:∀a b,T (n+c) a b->WF F (.mu 1::as) (a::b::ex) λd x=>∃i a' b' g,d=.im i/\R i/\T n a' b'/\x=a'::b'::(ex++g))
 (k:∀i a' b',T n a' b'->R i->QE (.im i) (a'::b'::(ex++rest))):WE (A8 w F m) ls hd QE:=by
 subst hw;have hcl:∀o,clO 2 o=true->clO (ex.length+2) o=true:=λo h=>Ts (by omega) h;obtain⟨d,x,e2,i,a',b',g,rfl,hR,hT',rfl⟩:=hF a b hT;refine⟨_,_,Mt (w:=ex.length+2) (ds:=.mu 1::as) (pre:=a::b::ex) (pre':=a'::b'::ex) (rest:=rest) (g:=g) rfl rfl e (by simp[ha]) ?_ ?_ e2,k i a' b' hT' hR⟩
 .simp[hcl _ (t.cl hT).1,hcl _ (t.cl hT).2];simpa using hx
 .simp[hcl _ (t.cl hT').1,hcl _ (t.cl hT').2];simpa using hx
def Tap.call(t:Tap T P){n c:Nat}(hT:T (n+c) a b){F:List D->Hd->Option (D×Hd)}{as:List D}{hd:Hd}{R:I->Prop}(e:m ls hd=some (.mu 1::as,a::b::rest))(ha:Av 2 as=true)
 (hF:∀a b,T (n+c) a b->WF F (.mu 1::as) [a,b] λd x=>∃i a' b' g,d=.im i/\R i/\T n a' b'/\x=a'::b'::g)
 (k:∀i a' b',T n a' b'->R i->QE (.im i) (a'::b'::rest)):WE (A8 2 F m) ls hd QE:=
 t.callX hT [] (w:=2) e rfl ha rfl hF k
end
end L2
namespace Bd
open PySem L2
structure Tp where
 cells:List Int
 nx:Int
 lf:Int
 tn:Int
def Ky(t:Tp):List (Key×D):=[(.inr "cells",.mu 0),(.inr "next",.im (.int t.nx)),(.inr "left",.im (.int t.lf)),(.inr "turn",.im (.int t.tn))]
def tp(t:Tp):Hd:=[.lst (t.cells.map λi=>.im (.int i)),.dic (Ky t)]
@[simp] theorem cg(t:Tp):(tp t).length=2:=rfl
@[simp] theorem eB(t:Tp)(r:Hd):(tp t++r)[0]?=some (.lst (t.cells.map λi=>.im (.int i))):=rfl
@[simp] theorem eA(t:Tp)(r:Hd):(tp t++r)[1]?=some (.dic (Ky t)):=rfl
@[simp] theorem tp0(t:Tp):(tp t)[0]?=some (.lst (t.cells.map λi=>.im (.int i))):=rfl
@[simp] theorem tp1(t:Tp):(tp t)[1]?=some (.dic (Ky t)):=rfl
section
variable(t:Tp)(v:Int)
@[simp] theorem cj:(Ky t).length=4:=rfl
end
def F8:∀ns:List Int,I.pys (ns.map I.int)=ns.map PyData.int
 |[]=>by simp[I.pys]
 |n::ns=>by simp[I.pys,I.py,F8 ns]
def Es(ns:List Int):C4 (ns.map λi=>D.im (.int i))=some (ns.map I.int):=by
 have:(ns.map λi=>D.im (.int i))=(ns.map I.int).map D.im:=by rw[map_map];rfl
 rw[this];exact Rl _
def X4(ns:List Int):PyData.eqv (.list (ns.map PyData.int)) (.list [])=decide (ns=[]):=by
 cases ns<;>simp[PyData.eqv,PyData.eqvAll]
def TV(ns:List Int):(PyData.list (ns.map PyData.int)).canLay0=true:=by simp[PyData.canLay0,IJ]
def Fy(ns:List Int)(hd:Hd)(neg:Bool):Mg neg (.list (ns.map PyData.int)) (.list []) hd=some (.im (.bl (if neg then !decide (ns=[])else decide (ns=[]))),hd):=by
 unfold Mg;rw[if_pos,X4];refine⟨TV ns,by simp[PyData.canLay0,PyData.canLayAll0],?_⟩;have:(PyData.list []).depth<=1:=by simp[PyData.depth,PyData.depthAll]
 omega
def Em{x:Int}(m:Int)(h:0<m):0<=x%m/\x%m<m:=⟨Int.emod_nonneg _ (by omega),Int.emod_lt_of_pos _ h⟩
def Zv(hd:Hd)(neg:Bool):Mg neg (.list []) (.list []) hd=some (.im (.bl (if neg then false else true)),hd):=by
 have:=Fy [] hd neg;simpa using this
def bE{xs:List Int}(h:xs≠[])(n:Int):∃c,atI (xs.map λi=>D.im (.int i)) (n%(xs.length:Int))=some (.im (.int c)):=by
 have hl:0<xs.length:=E7 h;obtain⟨a,b⟩:=Em (x:=n) (xs.length:Int) (by omega);obtain⟨k,hk⟩:=Int.eq_ofNat_of_zero_le a;have hk':k<xs.length:=by omega
 exact⟨xs[k],Cg hk (by simp[hk'])⟩
def po1:Om 10 18:=by unfold Om;decide
inductive Cost where
 |late (d:Int)|tardy (d w:Int)|miss (d w:Int)|ends (w:Int)|steps (rows:List (Int×Int))
def NM(t:Int):List (Int×Int)->Int->Int
 |[],told=>told
 |(b,a)::r,told=>if t<b then told else NM t r a
def Cost.at:Cost->Int->Int
 |.late d,t=>t-d
 |.tardy d w,t=>if t-d<=0 then 0 else w*(t-d)
 |.miss d w,t=>if t-d<=0 then 0 else w
 |.ends w,t=>w*t
 |.steps rows,t=>NM t rows 0
def n1:¬ (("late":Str)="steps"):=by decide +kernel
def n2:¬ (("tardy":Str)="steps"):=by decide +kernel
def n3:¬ (("miss":Str)="steps"):=by decide +kernel
def n4:¬ (("ends":Str)="steps"):=by decide +kernel
def n7:¬ (("miss":Str)="ends"):=by decide +kernel
def n10:¬ (("miss":Str)="tardy"):=by decide +kernel
@[simp high] theorem e9(t:Tp)(x:MO)(r:Hd):(tp t++(x::r))[2]?=some x:=rfl
@[simp high] theorem dz(t:Tp)(x y:MO)(r:Hd):(tp t++(x::y::r))[3]?=some y:=rfl
@[simp high] theorem dy(t:Tp)(x y z:MO)(r:Hd):(tp t++(x::y::z::r))[4]?=some z:=rfl
@[simp high] theorem dW(t:Tp)(x y:MO)(r:Hd):(tp t++(x::r)).set 2 y=tp t++(y::r):=rfl
@[simp high] theorem dU(t:Tp)(x y z:MO)(r:Hd):(tp t++(x::y::r)).set 3 z=tp t++(x::z::r):=rfl
def Dd(w:Nat)(ns:List Int):Av w (ns.map λi=>D.im (.int i))=true:=by induction ns<;>simp_all [Av,clD]
def Tn(ns:List Int)(lo hi:Option Int):∃cs:List Int,DG (ns.map λn=>.im (.int n)) lo hi=cs.map λn=>.im (.int n):=⟨(ns.drop _).take _,by unfold DG;rw[List.map_take,List.map_drop]⟩
abbrev Ot(ks:List Nat):List D:=ks.map λk:Nat=>D.im (.int (k:Int))
def Wl{n:Nat}{i:Int}(a:0<=i)(b:i<n):ixN n i=some i.toNat:=by unfold ixN;rw[if_pos a,if_pos b]
def JC(n:Nat):Au 0 n=Ot (List.range n):=by
 refine ext_getElem? λi=>?_;by_cases h:i<n
 .rw[JD h];simp[h]
 .rw[List.getElem?_eq_none (by simp;omega),List.getElem?_eq_none (by simp;omega)]
abbrev Aq(xs:List Int):List D:=xs.map λx=>D.im (.int x)
def g0(hd:Hd)(x y:MO):(hd++[x,y])[hd.length]?=some x:=by simp
def g1(hd:Hd)(x y:MO):(hd++[x,y])[hd.length+1]?=some y:=by simp
def t0(hd:Hd)(x y z:MO):(hd++[x,y]).set hd.length z=hd++[z,y]:=by simp
def t1(hd:Hd)(x y z:MO):(hd++[x,y]).set (hd.length+1) z=hd++[x,z]:=by simp
end Bd
namespace L2
open PySem PySem.Spec PyProof.Rows
section
variable{ls:Ls}{hd:Hd}{QE:D->Hd->Prop}{QI:List D×Gd->Hd->Prop}{ma:ME}{n:MG}{ta:MT}{mi:MI}{m:MA}
def Kw{g:Gd}{QA:List D->Hd->Prop}(P:List D->List D->Ls->Hd->Prop){ds:List D}{ls:Ls}{hd:Hd}(h:P ds [] ls hd)
 (k:∀d r es ls hd,P (d::r) es ls hd->∃ls1,n d ls hd=some ls1/\WT ta ls1 hd λc x=>if c=true then WE ma ls1 x λz y=>GOk y g/\P r (es++[z]) ls1 y else GOk x g/\P r es ls1 x)
 (z:∀es ls hd,P [] es ls hd->QA es hd):WP (B4 n ta ma g ds ls hd) QA:=
 (LR P h k).mono λzs x ⟨ls',q⟩=>z zs ls' x (by simpa using q)
def Ci{α:Type}{g:Gd}{QA:List D->Hd->Prop}(inj:α->D)(f:α->Option D)(L:D->Ls->Prop)(l0:Ls){xs:List α}{hd:Hd}(hg:GOk hd g)
 (k:∀x∈xs,∀ls,ls=l0∨(∃d,L d ls)->∃ls1,n (inj x) ls hd=some ls1/\L (inj x) ls1/\WT ta ls1 hd λc y=>y=hd/\if c=true then ∃z,f x=some z/\WE ma ls1 hd λe y=>y=hd/\e=z else f x=none)
 (q:QA (xs.filterMap f) hd):WP (B4 n ta ma g (xs.map inj) l0 hd) QA:=by
 have go:∀(xs':List α) (ls:Ls),(∀x∈xs',x∈xs)->(ls=l0∨∃d,L d ls)->B4 n ta ma g (xs'.map inj) ls hd=some (xs'.filterMap f,hd):=by
  intro xs'
  induction xs' with
  |nil=>intro ls _ _;unfold B4;rfl
  |cons x r ih=>
   intro ls hs hl;obtain⟨ls1,e1,L1,c,y,e2,rfl,q⟩:=k x (hs x mem_cons_self) ls hl;have ih:=ih ls1 (λz hz=>hs z (mem_cons_of_mem _ hz)) (.inr ⟨_,L1⟩);rw[map_cons];unfold B4;rw[e1,bind_some,e2,bind_some];cases c with
   |true=>
    rw[if_pos rfl]at q;obtain⟨z,ez,e,y,e3,rfl,rfl⟩:=q;rw[if_pos rfl,e3,bind_some];dsimp only;rw[if_pos hg,ih,filterMap_cons,ez];rfl
   |false=>
    rw[if_neg Bool.false_ne_true]at q;rw[if_neg Bool.false_ne_true];dsimp only;rw[if_pos hg,ih,filterMap_cons,q]
 exact⟨_,_,go xs l0 (λ_ h=>h) (.inl rfl),q⟩
end
section
variable{K:PySem.W.Frag}{ρ ρ':List Addr}{H H':Hp}{hd hd':Hd}
def eC(neg:Bool)(ma:ME)(ml:MA):ME:=λls hd=>(ma ls hd).bind λp=>(ml ls p.2).bind λq=>match p.1 with
 |.im i=>(UU i).bind λx=>(R9 q.1).map λxs=>(.im (.bl (if neg then !inV x xs else inV x xs)),q.2)
 |_=>none
open Classical in
def Jy(ml:MA)(mb:ME):MA:=λls hd=>(ml ls hd).bind λp=>(mb ls p.2).bind λq=>match q.1 with
 |.im (.int k)=>if(0<=k/\k<=1000)/\C9 (p.1.length*k.toNat)then some ((List.replicate k.toNat p.1).flatten,q.2)else none
 |_=>none
def RDs.rep{ds:List D}{xs:List V}(r:RDs K ρ H ds xs):∀n,RDs K ρ H (List.replicate n ds).flatten (List.replicate n xs).flatten
 |0=>by simp[RDs]
 |n+1=>by
  simp only[replicate_succ,flatten_cons];exact r.app (r.rep n)
def Xl{ta tb:TE}{ml:MA}{mb:ME}(ha:RN K ta ml)(hb:RE K tb mb):RN K (tOp Sd ta tb) (Jy ml mb):=by
 and_intros;obtain⟨⟨d1,h1⟩,e1,hm⟩:=c5 hm;obtain⟨⟨d2,h2⟩,e2,hm⟩:=c5 hm;dsimp only at hm;split at hm
 .next k=>
  split at hm
  .next c=>
   cases hm;refine ha ρ σ H hd ls _ d1 h1 hR hL e1 λρ1 H1 a xs x1 R1 na oa ea r1=>?_;refine hb ρ1 σ H1 h1 ls _ _ _ R1 (hL.ext hR x1) e2 λρ2 H2 v2 x2 R2 r2=>?_;simp only[RD,RI]at r2;subst r2;have ea2:=x2.keep a _ ea oa nt;refine⟨a,k,xs,rfl,rfl,ea2,by omega,by omega,by rw[r1.len];exact c.2,λp hp=>?_⟩;obtain⟨R3,x3⟩:=R2.hid (ho:=.lst (List.replicate k.toNat xs).flatten) hp;have x12:=x1.trans R1 x2;exact hQ ρ2 _ p _ (x12.trans R2 x3) R3 (x12.none hR hp R2) (R2.out hp) AJ (((r1.ext R1 x2).rep k.toNat).ext R2 x3)
  .cases hm
 .cases hm
def YQ(K:PySem.W.Frag){X:Cx}{a b:Expr}{ta tb:TE}{ml:MA}{mb:ME}{pos:Pos}(ha:QN K X a ta ml)(hb:QE K X b tb mb):QN K X (.BinOp a .Mult b pos) (tOp Sd ta tb) (Jy ml mb):=⟨LF ZC ha.p hb.p,Xl ha.r hb.r⟩
end
abbrev blD(bs:List Bool):List D:=bs.map λb=>D.im (.bl b)
inductive Ty where
 |int|bool|str|tuple|list
 deriving DecidableEq
def Ty.nm:Ty->String
 |.int=>"int" | .bool=>"bool" | .str=>"str" | .tuple=>"tuple" | .list=>"list"
def IsT(K:PySem.W.Frag)(T:Ty)(H:Hp)(v:V)(b:Bool):Prop:=
 (v=.non/\b=false)∨(∃x,v=.bl x/\b=decide (T=.int∨T=.bool))∨(∃i,v=.int i/\b=decide (T=.int))∨(∃x,v=.str x/\b=decide (T=.str)) ∨
 (∃a xs,v=.ref a/\SqL K H a xs/\b=decide (T=.list))∨∃a xs,v=.ref a/\SqT K H a xs/\b=decide (T=.tuple)
section
variable{X:Cx}{pins:List (Addr×Obj)}{σ:St}{H:Hp}{s:Shared}{A:Around}{E:Value->Shared->Prop}{Q:Value->Shared->Prop}
def Za{T:Ty}{v:V}{u:Value}{b:Bool}(I:Inv X pins σ H s)(r:RelV v u)(h:IsT X.K T H v b)(q:∀tk,Q (.bool b) { s with toks:=tk }):wpAny (model X.prog X.w) A (call (.builtin "isinstance") [u,.type T.nm]) Q E s:=by
 have q0:=q s.toks;have q1:=q (s.toks+1);rcases h with⟨rfl,rfl⟩|⟨x,rfl,rfl⟩|⟨i,rfl,rfl⟩|⟨x,rfl,rfl⟩|⟨a,xs,rfl,hl,rfl⟩|⟨a,xs,rfl,ht,rfl⟩
 .cases(show u=Value.none from r);cases T
  .exact IsiPair.NoneType_int q1
  .exact IsiPair.NoneType_bool q1
  .exact IsiPair.NoneType_str q1
  .exact IsiPair.NoneType_tuple q1
  .exact IsiPair.NoneType_list q1
 .cases(show u=Value.bool x from r);cases T
  .first|exact IsiPair.bool_int q0|exact IsiPair.bool_int q1
  .first|exact IsiPair.bool_bool q0|exact IsiPair.bool_bool q1
  .exact IsiPair.bool_str q1
  .exact IsiPair.bool_tuple q1
  .exact IsiPair.bool_list q1
 .obtain⟨t,rfl⟩:=(show ∃t,u=Value.int i t from r)
  cases T
  .exact IsiPair.int_int q0
  .exact IsiPair.int_bool q1
  .exact IsiPair.int_str q1
  .exact IsiPair.int_tuple q1
  .exact IsiPair.int_list q1
 .obtain⟨t,rfl⟩:=(show ∃t,u=Value.str x t from r)
  cases T
  .exact IsiPair.str_int q1
  .exact IsiPair.str_bool q1
  .exact IsiPair.str_str q0
  .exact IsiPair.str_tuple q1
  .exact IsiPair.str_list q1
 .cases(show u=Value.ref a from r);obtain⟨its,_,⟨o,n,e,c,_,_⟩,_⟩:=I.list hl;cases T
  .exact IsiPair.list_int e c q1
  .exact IsiPair.list_bool e c q1
  .exact IsiPair.list_str e c q1
  .exact IsiPair.list_tuple e c q1
  .exact IsiPair.list_list e c q0
 .cases(show u=Value.ref a from r);obtain⟨its,_,⟨o,e,c,_⟩,_⟩:=I.tuple ht;cases T
  .exact IsiPair.tuple_int e c q1
  .exact IsiPair.tuple_bool e c q1
  .exact IsiPair.tuple_str e c q1
  .exact IsiPair.tuple_tuple e c q0
  .exact IsiPair.tuple_list e c q1
end
def SH(K:PySem.W.Frag)(T:Ty)(te:TE):TE:=λσ H Q=>te σ H λv H1=>∃b,IsT K T H1 v b/\Q (.bl b) H1
def Z7(K:PySem.W.Frag){X:Cx}(T:Ty){e:Expr}{te:TE}{x:Str}{p px pos:Pos}(hm:X.mg "isinstance"=none)(hmT:X.mg x=none)(hvT:bootBuiltins x=some (.type T.nm))(he:PE X e te)
 (hv:bootBuiltins "isinstance"=some (.builtin "isinstance")) (hK:X.K=K) (hg:Gl X "isinstance") (hgT:Gl X x) (hnT:x≠"__name__") (hdT:(x==("__debug__":Str))=false)
 (hs:starEach [e,.Name x px] X.env=[(false,eval e X.env),(false,eval (.Name x px) X.env)]) (hs2:starEach [.Name x px] X.env=[(false,eval (.Name x px) X.env)]):PE X (.Call (.Name "isinstance" p) [e,.Name x px] [] pos) (SH K T te):=by
 subst hK;intro pins s σ H Q I h;refine wpAny_Call_Name_kw (D0 I hg hm hv ?_);have go:wpAny (model X.prog X.w) X.A (spliced (backTo pos (starEach [e,.Name x px] X.env))) (λvs s₁=>wpAny (model X.prog X.w) X.A (call (.builtin "isinstance") vs) (EP X pins σ Q) X.xe s₁) X.xe s:=by
  rw[hs];show wpAny _ _ (spliced ((false,eval e X.env)::backTo pos [(false,eval (.Name x px) X.env)])) _ _ s;refine Calls.spliced_cons (thn (he pins s σ H _ I h) λu s1 ⟨v,H1,I1,r1,b,ib,q1⟩=>?_);show wpAny _ _ (spliced ((false,eval (.Name x px) X.env)::backTo pos [])) _ _ s1;refine Calls.spliced_cons (D0 I1 hgT hmT hvT ?_ hnT hdT);refine Calls.spliced_nil ?_;exact Za I1 r1 ib λtk=>⟨.bl b,H1,I1.tok _,rfl,q1⟩
 exact PyProof.Rows.callWith_builtin1 go (by rw[hs,hs2]) (by rw[hs2];rfl)
section
variable{K:PySem.W.Frag}{ρ ρ':List Addr}{H H':Hp}{hd hd':Hd}
def isD(T:Ty)(hd:Hd):D->Option Bool
 |.im .non=>some false
 |.im (.bl _)=>some (decide (T=.int∨T=.bool))
 |.im (.int _)=>some (decide (T=.int))
 |.im (.str _)=>some (decide (T=.str))
 |.im (.tup _)=>some (decide (T=.tuple))
 |.tm _=>some (decide (T=.tuple))
 |.ro _=>some (decide (T=.list))
 |.op _ _ _=>none
 |.mu n=>match hd[n]? with
  |some (.lst _)=>some (decide (T=.list))
  |_=>none
def Zb{T:Ty}{d:D}{v:V}{b:Bool}(hR:RH K ρ H hd)(h:RD K ρ H d v)(e:isD T hd d=some b):IsT K T H v b:=by
 cases d with
 |im i=>
  cases i with
  |non=>simp only[RD,RI]at h;subst h;simp only[isD,Option.some.injEq]at e;exact .inl ⟨rfl,e.symm⟩
  |bl c=>simp only[RD,RI]at h;subst h;simp only[isD,Option.some.injEq]at e;exact .inr (.inl ⟨c,rfl,e.symm⟩)
  |int c=>simp only[RD,RI]at h;subst h;simp only[isD,Option.some.injEq]at e;exact .inr (.inr (.inl ⟨c,rfl,e.symm⟩))
  |str c=>simp only[RD,RI]at h;subst h;simp only[isD,Option.some.injEq]at e;exact .inr (.inr (.inr (.inl ⟨c,rfl,e.symm⟩)))
  |tup is=>
   obtain⟨a,xs,rfl,q,r⟩:=h.tup (ds:=is.map .im) rfl;simp only[isD,Option.some.injEq]at e;exact .inr (.inr (.inr (.inr (.inr ⟨a,xs,rfl,q,e.symm⟩))))
 |tm ds=>
  obtain⟨a,xs,rfl,q,r⟩:=h.tup (ds:=ds) rfl;simp only[isD,Option.some.injEq]at e;exact .inr (.inr (.inr (.inr (.inr ⟨a,xs,rfl,q,e.symm⟩))))
 |ro ns=>
  obtain⟨a,xs,rfl,q,r⟩:=h.lst hR (hd:=hd) (ds:=ns.map λn=>.im (.int n)) rfl;simp only[isD,Option.some.injEq]at e;exact .inr (.inr (.inr (.inr (.inl ⟨a,xs,rfl,q,e.symm⟩))))
 |op _ _ _=>simp[isD]at e
 |mu n=>
  simp only[isD]at e;split at e
  .next q=>
   cases e;simp only[RD]at h;obtain⟨a,hn,rfl⟩:=h;obtain⟨xs,e1,e2⟩:=hR.lst hn q;exact .inr (.inr (.inr (.inr (.inl ⟨a,xs,rfl,SqL.of e1,rfl⟩))))
  .cases e
def C7(T:Ty)(ma:ME):ME:=λls hd=>(ma ls hd).bind λp=>(isD T p.2 p.1).map λb=>(.im (.bl b),p.2)
def Y4{T:Ty}{te:TE}{me:ME}(h:RE K te me):RE K (SH K T te) (C7 T me):=by
 and_intros;obtain⟨⟨d1,h1⟩,e1,hm⟩:=c5 hm;obtain⟨b,e2,e3⟩:=c7 hm;cases e3;exact h ρ σ H hd ls _ d1 _ hR hL e1 λρ1 H1 v x1 R1 r1=>⟨b,Zb R1 r1 e2,hQ ρ1 H1 _ x1 R1 (by simp[RD,RI])⟩
def JW:∀T:Ty,bootBuiltins T.nm=some (.type T.nm)
 |.int=>by decide +kernel
 |.bool=>by decide +kernel
 |.str=>by decide +kernel
 |.tuple=>by decide +kernel
 |.list=>by decide +kernel
def JE(K:PySem.W.Frag){X:Cx}(T:Ty){e:Expr}{te:TE}{me:ME}{x:Str}{p px pos:Pos}(hm:X.mg "isinstance"=none)(hmT:X.mg x=none)(he:QE K X e te me)(hx:bootBuiltins x=some (.type T.nm):=by first|exact JW .int|exact JW .bool|exact JW .str|exact JW .tuple|exact JW .list)(hK:X.K=K:=by rfl)(hg:Gl X "isinstance":=by rfl)(hgT:Gl X x:=by rfl)
 (hnT:x≠"__name__":=by decide) (hdT:(x==("__debug__":Str))=false:=by decide)
 (hs:starEach [e,.Name x px] X.env=[(false,eval e X.env),(false,eval (.Name x px) X.env)]:=by rfl) (hs2:starEach [.Name x px] X.env=[(false,eval (.Name x px) X.env)]:=by rfl):QE K X (.Call (.Name "isinstance" p) [e,.Name x px] [] pos) (SH K T te) (C7 T me):=
 ⟨Z7 K T hm hmT hx he.p Kv hK hg hgT hnT hdT hs hs2,Y4 he.r⟩
def RDs.ints:∀{ns:List Int} {xs:List V},RDs K ρ H (ns.map λx=>D.im (.int x)) xs->xs=ns.map V.int
 |[],xs,h=>by simpa only[RDs,map_nil]using h
 |n::ns,xs,h=>by
  simp only[map_cons,RDs,RD,RI]at h;obtain⟨x,r,rfl,rfl,t⟩:=h;rw[RDs.ints t];rfl
end
section
variable{ls:Ls}{hd:Hd}{ma mo mi me:ME}{QE:D->Hd->Prop}{QS:Fl->Hd->Prop}
def Cs{T:Ty}(h:WE ma ls hd λd x=>∃b,isD T x d=some b/\QE (.im (.bl b)) x):WE (C7 T ma) ls hd QE:=by
 obtain⟨d,x,e,b,e2,q⟩:=h;exact⟨_,_,by simp only[C7,e,bind_some,e2,map_some],q⟩
end
structure EAt(h:Heap)(e it l:Addr)(i:Nat):Prop where
 e:∃old,IsEnum h e it i old
 r:h.IsListIter it l i
def Ite(K:PySem.W.Frag)(a:Addr):It:=
 ⟨λi H=>∃xs x,SqL K H a xs/\xs[i]?=some x,
  λi H x H'=>∃p v,H p=none/\H'=upd H p (.tup [.int (i:Int),v])/\x=.ref p/\∀xs,SqL K H a xs->xs[i]?=some v,
  λi H=>∃xs,SqL K H a xs/\xs.length<=i⟩
def Po{P:Program}{w:World}{K:PySem.W.Frag}{elts:List Expr}{kk:Nat}{tpos:Pos}{e it l:Addr}(ne:e≠it):Turn P w K (.Tuple elts kk tpos) (Ite K l) [e,it] e (λi h=>EAt h e it l i) where
 mem:=by simp
 obj:=λi h st c hc=>by
  obtain⟨⟨old,he⟩,hr⟩:=st;simp only[mem_cons,not_mem_nil,or_false]at hc;rcases hc with rfl|rfl
  .exact⟨_,he,λv z=>by cases(show Data.fields _=Data.cell v from z)⟩
  .obtain⟨o,q,_,d⟩:=hr;exact⟨o,q,λv z=>by rw[d]at z;cases z⟩
 keep:=λi h h' st k=>by
  obtain⟨⟨old,he⟩,o,q,r⟩:=st;exact⟨⟨old,k e (by simp) _ he⟩,o,k it (by simp) _ q,r⟩
 item:=by
  intro X hP hw hK hc i pins s σ H E I hf st hg;subst hP hw hK;obtain⟨xs,x,h1,hx⟩:=hg;obtain⟨its,r,pl,hz⟩:=I.list h1;obtain⟨u,hu,ru⟩:=r.get hx;obtain⟨⟨old,he⟩,hr⟩:=st;refine wpAny_pyNext_enum_item he hr pl.isList (x:=u) (by simpa using hu) ne λg ho hr' ht hsz kp=>⟨_,rfl,?_⟩
  refine wpAny_letOwnedTupleGo_enum ho λg' e' sb=>?_;have hle:e<s.heap.objs.size:=Heap.lt_size he;have kp2:∀c o,c∉[e,it]->s.heap.get? c=some o->g'.get? c=some o:=λc o nc q=>by
   simp only[mem_cons,not_mem_nil,or_false,not_or]at nc;exact sb.extBut _ _ nc.1 (kp c o nc.1 nc.2 q)
  have hT:s.heap.objs.size≠e:=ne_of_gt hle;have hpair:g'.get? s.heap.objs.size=some { cls:=.type "tuple",data:=.seq #[.int i s.toks,u] }:=sb.extBut _ _ hT ht;have fresh:H s.heap.objs.size=none:=I.hok.fresh (le_refl _);have I2:Inv X pins σ (upd H s.heap.objs.size (.tup [.int (i:Int),x])) { s with heap:=g',toks:=s.toks+1 }:=I.turnsL (tk:=s.toks+1) (o:=.tup [.int (i:Int),x]) kp2 hf (le_refl _)
   (show ObjOk X.prog X.w _ g' _ (.tup [.int (i:Int),x])from⟨by show 2<=sizeLine;decide,[.int i s.toks,u],.cons ⟨_,rfl⟩ (.cons ru .nil),⟨_,hpair,rfl,⟨_,rfl⟩,rfl⟩⟩)
  refine⟨.ref s.heap.objs.size,_,I2,rfl,⟨s.heap.objs.size,x,fresh,rfl,rfl,λxs' q=>by rw[I.list_inj q h1];exact hx⟩,⟨⟨u,?_⟩,?_⟩,λc hc=>?_⟩
  .have:=e';rw[show((i:Int)+1)=((i+1:Nat):Int) by omega]at this;exact this
  .exact hr'.extBut sb.extBut (Ne.symm ne)
  .have lt:c<s.heap.objs.size:=by
    simp only[mem_cons,not_mem_nil,or_false]at hc;rcases hc with rfl|rfl
    .exact hle
    .obtain⟨o,q,_⟩:=hr;exact Heap.lt_size q
   rw[AC (ne_of_lt lt)];exact(hf c hc).1
 done:=by
  intro X hP hw hK hc i pins s σ H E I hf st hg;subst hP hw hK;obtain⟨xs,h1,hend⟩:=hg;obtain⟨its,r,pl,hz⟩:=I.list h1;have l1':=r.length;obtain⟨⟨old,he⟩,hr⟩:=st;refine wpAny_pyNext_enum_end (show X.A.handled=none from I.ok.hd hc) he hr pl.isList (by simp;omega) λg x=>⟨rfl,?_⟩
  exact I.turns (tk:=s.toks) (λc o nc q=>by
   simp only[mem_cons,not_mem_nil,or_false,not_or]at nc;exact x c o nc.2 q) hf
 self:=λ_ _ _ _ _ st h=>by
  obtain⟨⟨old,he⟩,hr⟩:=st;exact wpAny_pyIter_enum he h
def PH(K:PySem.W.Frag)(ta:TA):TI:=λσ H R=>ta σ H λvs H1=>∃a xs,vs=[.ref a]/\SqL K H1 a xs/\R (Ite K a) H1
def EA:bootBuiltins "enumerate"=some (.type "enumerate"):=by decide +kernel
section
variable{X:Cx}
def WC(K:PySem.W.Frag){a:Expr}{ta:TA}{elts:List Expr}{kk:Nat}{tpos p pos:Pos}(hg:Gl X "enumerate")(hm:X.mg "enumerate"=none)(ha:PA X [a] ta)(hK:X.K=K:=by rfl)(hs:starEach [a] X.env=[(false,eval a X.env)]:=by rfl):
 PI X (.Tuple elts kk tpos) (.Call (.Name "enumerate" p) [a] [] pos) (PH K ta):=by
 subst hK;intro pins s σ H R I h;refine Call_ (D0 I hg hm EA (PyProof.Rows.callWith_type1 (thn (ha pos pins s σ H _ I h) λus s1 ⟨vs,H1,I1,r1,q1⟩=>?_) hs rfl));obtain⟨l,xs,e,c,q⟩:=q1;subst e;obtain⟨u,rfl,ru⟩:=r1.one;cases ru;obtain⟨its,r,pl,hz⟩:=I1.list c;refine call_enumerate_list pl.isList λg he hr hsz kp=>wpAny_pyIter_enum he ?_;refine⟨_,_,_,_,H1,rfl,I1.kept (t':=s1.toks) kp,Po (ne_of_gt (Nat.lt_succ_self _)),⟨⟨_,he⟩,hr⟩,λc hc=>?_,q⟩;simp only[mem_cons,not_mem_nil,or_false]at hc;have le:s1.heap.objs.size<=c:=by
  rcases hc with rfl|rfl
  .exact le_add_right _ _
  .exact le_refl _
 exact I1.fpOk le (I1.hok.fresh le)
end
section
variable{K:PySem.W.Frag}
def Bg(ma:MI):MI:=λls hd=>(ma ls hd).map λp=>((p.1.1.zipIdx.map λq=>Ag [.im (.int (q.2:Int)),q.1],p.1.2),p.2)
def VA{ta:TE}{ma:MI}(ha:RRw K false ta ma):RIt K (PH K (BM ta CI)) (Bg ma):=by
 intro ρ σ H hd ls Q d g hd' hR hL hm hQ;obtain⟨⟨⟨d1,g1⟩,h1⟩,e1,e2⟩:=c7 hm;cases e2;refine ha ρ σ H hd ls _ d1 g1 h1 hR hL e1 λρ1 H1 a x1 R1 G1 S1=>?_;obtain⟨xs,c1,r1⟩:=S1 ρ1 H1 _ .refl R1 G1;refine⟨a,xs,rfl,c1,hQ ρ1 H1 _ x1 R1 G1 ?_⟩;intro ρ3 H3 hd3 x3 R3 G3 i;obtain⟨xs,c1,r1⟩:=S1 ρ3 H3 _ x3 R3 G3;have l1:=r1.len;refine⟨λhi=>?_,λhi=>⟨xs,c1,?_⟩⟩
 .have hi:i<d1.length:=by simpa using hi
  have i1:d1[i]?=some (d1[i]'hi):=List.getElem?_eq_getElem _;obtain⟨x,x4,x5⟩:=r1.get i1;refine⟨⟨xs,x,c1,x4⟩,λz H4 hz=>?_⟩;obtain⟨p,v,fp,rfl,rfl,hv⟩:=hz;have ev:=hv xs c1;rw[x4]at ev;cases ev;obtain⟨R4,x6⟩:=R3.hid (ho:=.tup [.int (i:Int),x]) fp;refine⟨ρ3,Ag [.im (.int (i:Int)),d1[i]'hi],x6,rfl,R4,?_,BW (SqT.of AJ) (.cons (by simp[RD,RI]) (.cons (x5.ext R3 x6) .nil))⟩;simp[i1]
 .have hi:i=d1.length:=by simpa using hi
  omega
def Vo(K:PySem.W.Frag){X:Cx}{a:Expr}{ta:TE}{ma:MI}{elts:List Expr}{kk:Nat}{tpos p pos:Pos}(hm:X.mg "enumerate"=none)(ha:QR K false X a ta ma)(hg:Gl X "enumerate":=by rfl)(hK:X.K=K:=by rfl)(hs:starEach [a] X.env=[(false,eval a X.env)]:=by rfl):
 QI K X (.Tuple elts kk tpos) (.Call (.Name "enumerate" p) [a] [] pos) (PH K (BM ta CI)) (Bg ma):=⟨WC K hg hm (CA ha.p Cv hs) hK hs,VA ha.r⟩
def Co{ma:MI}{ls:Ls}{hd:Hd}{QI:List D×Gd->Hd->Prop}(h:WI ma ls hd λp x=>QI (p.1.zipIdx.map λq=>Ag [.im (.int (q.2:Int)),q.1],p.2) x):WI (Bg ma) ls hd QI:=by
 obtain⟨p,x,e,q⟩:=h;exact⟨_,_,by simp only[Bg,e,map_some],q⟩
end
end L2
namespace HT
open PySem PySem.Spec PyProof.Rows
section
variable{prog:Program}{w:World}{A:Around}{E:Value->Shared->Prop}{s:Shared}
def getItem_tuple_whole{t sl:Addr}{items:Array Value}{vl vu:Value}{lo hi:Option Int}{Q:Value->Shared->Prop}(ht:IsTup s.heap t items)(hs:s.heap.IsSliceOf sl vl vu .none)(pl:IsPart vl lo)(pu:IsPart vu hi)
 (hw:sIx items.size 0 lo=0/\sIx items.size items.size hi=items.size) (h:Q (.ref t) s):wpAny (model prog w) A (getItem (.ref t) (.ref sl)) Q E s:=by
 obtain⟨os,hos,hcs,hds⟩:=id hs;have hTs:s.TypeIs (.ref sl) "slice":=⟨os,hos,hcs⟩
 unfold getItem
 try with_reducible refine wpAny_holding ?_
 first|refine wpAny_bind (wpAny_pure ?_)|skip
 refine wpAny_bind (wpAny_sequenceKey ht.typeIs (by decide) ?_);refine wpAny_bind (wpAny_callSpecial?_slot (name:=Str.ofString "__getitem__") ht.typeIs PyProof.Rows.slot_tuple_getitem
  (wpAny_call_entry PyProof.Rows.slot_tuple_getitem ht.typeIs entry_tuple_getitem ?_ (args_tuple_getitem _ _)))
 show wpAny _ _ (Builtin.Tuple.tupleItemsOf (.ref t) >>= _) _ _ s;refine wpAny_bind (tupleItemsOf_ ht ?_);refine wpAny_bind (wpAny_typeOf hTs ?_);rw[if_pos (by decide)];refine wpAny_bind (F4 hs pl pu ?_);have hno:(((sIx items.size 0 lo:Nat):Int)==0&&(1:Int)==1&&(sIx items.size items.size hi-sIx items.size 0 lo)==items.size)=true:=by
  rw[hw.1,hw.2];simp
 show wpAny _ _ (if(((sIx items.size 0 lo:Nat):Int)==0&&(1:Int)==1&&(sIx items.size items.size hi-sIx items.size 0 lo)==items.size)=true then _ else _) _ _ s;rw[if_pos hno];refine wpAny_bind ?_;unfold Builtin.Tuple.tupleIsExact;refine wpAny_bind (wpAny_typeOf ht.typeIs (wpAny_pure ?_));rw[if_pos (by decide)];exact wpAny_bind (wpAny_rule (wpAny_pure ⟨_,rfl,wpAny_pure h⟩))
end
end HT
namespace L2
open PySem PySem.Spec PyProof.Rows
section
variable{X:Cx}
def Sc(K:PySem.W.Frag):V->Option Int->Option Int->Hp->VK->Prop:=λx lo hi H Q=>YA K x lo hi H Q∨∃a xs,x=.ref a/\SqT K H a xs/\(HT.sIx xs.length 0 lo=0/\HT.sIx xs.length xs.length hi=xs.length)/\Q (.ref a) H
def Uq(K:PySem.W.Frag)(hK:X.K=K:=by rfl):SlR X (Sc K):=by
 subst hK;intro pins s σ H x v vl vu lo hi sl Q I rx hs pl pu h;rcases h with h|⟨a,xs,rfl,hx,hw,q⟩
 .exact XX pins s σ H x v vl vu lo hi sl Q I rx hs pl pu h
 cases rx;obtain⟨its,r,ht,hz⟩:=I.tuple hx;have hlen:its.toArray.size=xs.length:=by rw[size_toArray];exact r.length.symm
 refine⟨"tuple",_,PyProof.Rows.slot_tuple_getitem.lookup,ht.typeIs,?_⟩;exact HT.getItem_tuple_whole ht hs pl pu (by rw[hlen];exact hw) ⟨.ref a,H,I,rfl,q⟩
end
section
variable{K:PySem.W.Frag}{ρ ρ':List Addr}{H H':Hp}{hd hd':Hd}
def E6(m:ME)(ml mh:MO1):ME:=λls hd=>(m ls hd).bind λp=>(ml ls p.2).bind λl=>(mh ls l.2).bind λh=>(Af p.1).map λds=>(Ag (DG ds l.1 h.1),h.2)
def Xy{t:TE}{tl th:TO}{m:ME}{ml mh:MO1}(h:RE K t m)(hl:RO1 K tl ml)(hh:RO1 K th mh):RE K (tSl (Sc K) t tl th) (E6 m ml mh):=by
 and_intros;obtain⟨⟨d1,h1⟩,e1,hm⟩:=c5 hm;obtain⟨⟨d2,h2⟩,e2,hm⟩:=c5 hm;obtain⟨⟨d3,h3⟩,e3,hm⟩:=c5 hm;obtain⟨ds,e4,e5⟩:=c7 hm;cases e5;dsimp only at e2 e3 e4;refine h ρ σ H hd ls _ d1 h1 hR hL e1 λρ1 H1 v1 x1 R1 r1=>?_;refine hl ρ1 σ H1 h1 ls _ d2 h2 R1 (hL.ext hR x1) e2 λρ2 H2 x2 R2=>?_;refine hh ρ2 σ H2 h2 ls _ d3 _ R2 (hL.ext hR (x1.trans R1 x2)) e3 λρ3 H3 x3 R3=>?_;obtain⟨a,xs,rfl,q,r⟩:=((r1.ext R1 x2).ext R2 x3).tup e4;by_cases c:HT.sIx ds.length 0 d2=0/\HT.sIx ds.length ds.length d3=ds.length
 .refine .inr ⟨a,xs,rfl,q,by rw[r.len];exact c,?_⟩;have e6:DG ds d2 d3=ds:=by unfold DG;rw[c.1,c.2];simp
  rw[e6]at hQ;exact hQ ρ3 _ _ ((x1.trans R1 x2).trans R2 x3) R3 (BW q r)
 .refine .inl ⟨a,xs,rfl,q,by rw[r.len];exact c,λp hp=>?_⟩;obtain⟨R4,x4⟩:=R3.hid (ho:=.tup (Fc xs d2 d3)) hp;exact hQ ρ3 _ _ (((x1.trans R1 x2).trans R2 x3).trans R3 x4) R4 (BW (SqT.of AJ) ((O7 r).ext R3 x4))
def Yd(K:PySem.W.Frag){X:Cx}{e:Expr}{te:TE}{me:ME}{lo hi:Option Expr}{tl th:TO}{ml mh:MO1}{p2 pos:Pos}(h:QE K X e te me)(hl:QO K X lo tl ml)(hh:QO K X hi th mh)(hK:X.K=K:=by rfl):QE K X (.Subscript e (.Slice lo hi none p2) pos) (tSl (Sc K) te tl th) (E6 me ml mh):=⟨M5 (Uq K hK) h.p hl.p hh.p,Xy h.r hl.r hh.r⟩
def Pi{ma:ME}{ls:Ls}{QE:D->Hd->Prop}{ml mh:MO1}(h:WE ma ls hd λd x=>WO ml ls x λl y=>WO mh ls y λu z=>∃ds,Af d=some ds/\QE (Ag (DG ds l u)) z):WE (E6 ma ml mh) ls hd QE:=by
 obtain⟨d,x,e1,l,y,e2,u,z,e3,ds,e4,q⟩:=h;exact⟨_,_,by simp only[E6,e1,bind_some,e2,e3,e4,map_some],q⟩
end
section
variable{X:Cx}
def X7{prog:Program}{w:World}{A:Around}{E:Value->Shared->Prop}{s:Shared}{t b:Addr}{vs ws:List Value}{Q:Value->Shared->Prop}(ht:IsTup s.heap t vs.toArray)(hb:IsTup s.heap b ws.toArray)(hv:vs=[])
 (h1:Q (.ref b) s):wpAny (model prog w) A (binaryOp .Add (.ref t) (.ref b)) Q E s:=by
 obtain⟨⟨cls,dd,data,sl⟩,ho,hc,n,hd⟩:=id ht;obtain⟨⟨cls2,dd2,data2,sl2⟩,ho2,hc2,n2,hd2⟩:=id hb;simp only at hc hd hc2 hd2;subst hc hd hc2 hd2;exact concat_meets ⟨_,ho,rfl⟩ ⟨_,ho2,rfl⟩ noFill_tuple_add seq_tuple_add PySem.F.slot_tuple_add PySem.F.entry_tuple_add (PySem.F.args_tuple_add_2 _ _)
  (tuple_addW0 t b vs.toArray ws.toArray n n2 dd dd2 sl sl2 (by simp[hv])) ⟨ho,ho2,h1⟩
def UL(K:PySem.W.Frag):R2:=λx y H Q=>∃a b ys,x=.ref a/\y=.ref b/\SqT K H a []/\SqT K H b ys/\Q (.ref b) H
def WW(K:PySem.W.Frag)(hK:X.K=K:=by rfl):OpR X (binaryOp .Add) (UL K):=by
 subst hK;intro pins s σ H x y v u Q I rx ry h;obtain⟨a,b,ys,rfl,rfl,ha,hb,q⟩:=h;cases rx;cases ry;obtain⟨its,r1,p1,_⟩:=I.tuple ha;obtain⟨its2,r2,p2,_⟩:=I.tuple hb;have:its=[]:=by cases r1;rfl
 exact X7 p1 p2 this ⟨.ref b,H,I,rfl,q⟩
def Hv:D->D->Hd->Option (D×Hd):=λd e hd=>(Af d).bind λa=>(Af e).bind λb=>if a=[]then some (Ag b,hd)else none
def VO{K:PySem.W.Frag}:RB K (UL K) Hv:=by
 intro ρ H hd d e v u Q z hd' hR h1 h2 hf hQ;unfold Hv at hf;obtain⟨a,e1,hf⟩:=c5 hf;obtain⟨b,e2,hf⟩:=c5 hf;split at hf
 .next c=>
  cases hf;subst c;obtain⟨p,xs,rfl,q1,r1⟩:=h1.tup e1;obtain⟨p2,ys,rfl,q2,r2⟩:=h2.tup e2;have:xs=[]:=by simpa [RDs]using r1
  subst this;exact⟨p,p2,ys,rfl,rfl,q1,q2,hQ ρ H _ .refl hR (BW q2 r2)⟩
 .cases hf
end
section
variable{prog:Program}{w:World}{A:Around}{E:Value->Shared->Prop}{s:Shared}
def NC{l:Addr}{vs:List Value}{Q:List Value->Shared->Prop}(hl:IsTup s.heap l vs.toArray)
 (h:Q vs { s with heap:=(s.heap.push (seqObj "list" #[] 0)).update s.heap.objs.size (Obj.mapSeq (·++vs.toArray)) }) (hsz:vs.length<=sizeLine:=by size_fits):
 wpAny (model prog w) A (collect (.ref l)) Q E s:=by
 obtain⟨o,ho,hc,n,hd⟩:=id hl;unfold collect;refine wpAny_bind (wpAny_runValue (codeAny_builtin entry_proto_collect' ?_));show wpAny _ _ (do again (.builtin "list.__iadd__" ⟨[<- newList [],.ref l],[]⟩)) _ _ s;refine wpAny_bind (wpAny_newList (wpAny_pure ⟨Code.quiet_builtin _ (by decide +kernel),codeAny_builtin entry_list_iadd' ?_⟩));show wpAny _ _ (Builtin.List.listExtendWith (.ref s.heap.objs.size) (.ref l) (.ref s.heap.objs.size)) _ _ { s with heap:=s.heap.push (seqObj "list" #[] 0) };unfold Builtin.List.listExtendWith;have ho':(s.heap.push (seqObj "list" #[] 0)).get? l=some o:=Heap.get?_push_of_some _ ho;refine wpAny_bind (wpAny_typeOf (T:="tuple") ⟨o,ho',hc⟩ ?_);have ht:(Value.type "tuple"==Value.type "tuple")=true:=by rfl
 rw[if_pos (by rw[ht];simp)];refine wpAny_bind (listItems_at ho' hd ?_);refine wpAny_bind (listItems_at (xs:=#[]) (n:=0) (Heap.get?_push_size _ rfl) rfl ?_);rw[if_neg (by simp)];refine wpAny_bind (listUpdate_at (xs:=#[]) (n:=0) (Heap.get?_push_size _ rfl) rfl ?_ (zero_le _) (by show(#[]++vs.toArray).size<=sizeLine+1;simp only[Array.size_append,size_toArray,length_nil];omega));refine wpAny_pure ?_;show wpAny (model prog w) A (do
  let o <- load s.heap.objs.size
  match o.data with
  |.seq xs _=>pure xs.toList
  | _=>unsupported "internal:collect") Q E { s with heap:=(s.heap.push (seqObj "list" #[] 0)).update s.heap.objs.size (Obj.mapSeq (·++vs.toArray)) }
 refine wpAny_bind (wpAny_load (get?_update_seq (Heap.get?_push_size _ rfl) _) ?_);show wpAny _ _ (pure ((#[]:Array Value)++vs.toArray).toList) Q E _;rw[show((#[]:Array Value)++vs.toArray).toList=vs by simp];exact wpAny_pure h
end
end L2
namespace L2
abbrev Ep:=GQ AS Hv
end L2
namespace L2
open PySem PySem.Spec PyProof.Rows PySem.W
inductive KeysOk(h:Heap):List Value->List Int->Prop
 |kI {ks:List Value} {kz:List Int}:IntsAre ks kz->KeysOk h ks kz
 |kP {ks:List Value} {ps:List (Int×Int)}:ks.length=ps.length->(∀(i:Nat) (v:Value) (p:Int×Int),ks[i]?=some v->ps[i]?=some p->PairAt h v p)->(∀p∈ps,pok p)->KeysOk h ks (ps.map Aj)
def KeysOk.len{h:Heap}{ks:List Value}{kz:List Int}(K:KeysOk h ks kz):kz.length=ks.length:=by
 cases K with
 |kI i=>have:=i.length;omega
 |kP hl _ _=>simp[hl]
def GH:∀{ks:List Value} {kz:List Int} {i:Nat},IntsAre ks kz->i<ks.length->∃t,ks.getD i .none=.int (kz.getD i 0) t
 |_,_,0,.cons ..,_=>⟨_,rfl⟩
 |_,_,i+1,.cons _ _ h,hi=>by
  obtain⟨t,e⟩:=GH (i:=i) h (by simpa using hi);exact⟨t,by simpa using e⟩
section
variable{prog:Program}{w:World}{A:Around}{E:Value->Shared->Prop}{s:Shared}
def TY{ks:List Value}{kz:List Int}(K:KeysOk s.heap ks kz)(h2:2<=ks.length){Q:SortKind->Shared->Prop}
 (h:∀κ,(∀(i j:Nat) (C:Bool->Shared->Prop),i<ks.length->j<ks.length->C (decide (kz.getD i 0<kz.getD j 0)) s->wpAny (model prog w) A (keyLt' κ (ks.getD i .none) (ks.getD j .none)) C (λ_ _=>False) s)->Q κ s):
 wpAny (model prog w) A (keyKind' ks.toArray) Q E s:=by
 cases K with
 |kI hk=>
  rw[ksk_kind (kz:=kz) (by simpa using hk) (by simpa using h2)];refine wpAny_pure (h _ λi j C hi hj hC=>?_);obtain⟨t,e1⟩:=GH hk hi;obtain⟨u,e2⟩:=GH hk hj;rw[e1,e2];exact kat_lt_int hC
 |@kP ps hl hp hok=>
  obtain⟨fs,t1,t2,t3⟩:=Jg hl hp;have tT:∀f∈fs,Looks (model prog w) s.heap (typeOf f) (Value.type "int"):=λf hf=>by
   obtain⟨i,t,rfl⟩:=t3 f hf;exact .of_pure rfl
  refine kat_kind t1 (by omega) tT rfl (h _ λi j C hi hj hC=>?_);have pi:ps[i]?=some (ps.getD i (0,0)):=by simp[show i<ps.length by omega]
  have pj:ps[j]?=some (ps.getD j (0,0)):=by simp[show j<ps.length by omega]
  have vi:ks[i]?=some (ks.getD i Value.none):=by simp[hi]
  have vj:ks[j]?=some (ks.getD j Value.none):=by simp[hj]
  have ei:(ps.map Aj).getD i 0=Aj (ps.getD i (0,0)):=by simp[show i<ps.length by omega]
  have ej:(ps.map Aj).getD j 0=Aj (ps.getD j (0,0)):=by simp[show j<ps.length by omega]
  rw[ei,ej]at hC;exact Nu (hp i _ _ vi pi) (hp j _ _ vj pj) (hok _ (mem_of_getElem? pi)) (hok _ (mem_of_getElem? pj)) hC
def Wi{vs:List Value}{kz:List Int}(hl:kz.length=vs.length){p:Array Nat}(pa:PAr vs.length p)(hs:STo (λi=>kz.getD i 0) p vs.length):KskOut false kz vs (p.toList.map λi=>vs.getD i Value.none):=by
 have sz:=pa.size;refine⟨p.toList.map λi=>(kz.getD i 0,vs.getD i Value.none),?_,by rw[map_map];rfl,?_⟩
 .have e:kz.zip vs=(List.range vs.length).map λi=>(kz.getD i 0,vs.getD i Value.none):=by
   refine ext_getElem? λi=>?_;by_cases hi:i<vs.length
   .have hi2:i<kz.length:=by omega
    rw[(List.getElem?_zip_eq_some (z:=(kz[i],vs[i]))).mpr ⟨by simp[hi2],by simp[hi]⟩];simp[hi,hi2]
   .rw[List.getElem?_eq_none (by simp;omega),List.getElem?_eq_none (by simp;omega)]
  rw[e];have:=Array.perm_iff_toList_perm.mp pa;simpa using this.map _
 .rw[pairwise_map,List.pairwise_iff_getElem];intro i j hi hj hij;simp only[Array.length_toList]at hi hj;have:=hs i j (by omega) (by omega);unfold kv at this;simpa [Array.getD,hi,hj]using this
def Wj{a kS:Addr}{e e1:Nat}{ks vs:List Value}{kz:List Int}{P:PySem.Fin->Shared->Prop}(nk:s.heap.get? kS=some (seqObj "list" ks.toArray e))(na:s.heap.get? a=some (seqObj "list" #[] e1))(hka:kS≠a)(K:KeysOk s.heap ks kz)(hl:ks.length=vs.length)(h64:vs.length<64)
 (h:∀out:List Value,KskOut false kz vs out->P (.done (.ret .none)) { s with heap:=(s.heap.update kS (Obj.mapSeq λ_=>#[])).update a (Obj.mapSeq λ_=>out.toArray) }):
 wpAny (model prog w) A (ksk_end a false vs.toArray e1 (.ref kS) ks.toArray) P E s:=by
 have hz:kz.length=vs.length:=by have:=K.len;omega
 have s1:=Heap.SameBut.update s.heap kS (Obj.mapSeq λ_=>(#[]:Array Value));have na1:(s.heap.update kS (Obj.mapSeq λ_=>(#[]:Array Value))).get? a=some (seqObj "list" #[] e1):=(s1.2 a hka.symm).trans na;have tail:∀(st:SortSt) (out:List Value),(arrOf st).map (·.2)=out.toArray->out.length=vs.length->failedOf st=none->KskOut false kz vs out->wpAny (model prog w) A (ksk_tail a false e1 (.ref kS) st) P E s:=by
  intro st out ho hlo hf so;unfold ksk_tail;dsimp only;refine wpAny_bind (listUpdate_at nk rfl ?_ (by simp[sizeLine_eq];omega) (zero_le _));refine wpAny_bind (wpAny_letGo ?_);refine wpAny_bind (seqEpoch_at na1 rfl ?_);simp only[Bool.false_eq_true,if_false];rw[ho];refine wpAny_bind (listUpdate_at na1 rfl ?_ (zero_le _) (by rw[size_toArray,sizeLine_eq];omega));rw[hf];simp only[bne_self_eq_false,Bool.false_eq_true,if_false];exact wpAny_pure (h out so)
 unfold ksk_end;simp only[Bool.false_eq_true,if_false];by_cases h2:vs.toArray.size<2
 .rw[if_pos h2,if_pos h2];refine wpAny_bind (wpAny_pure ?_);rw[StateT.run_pure];refine wpAny_bind (wpAny_pure ?_);dsimp only;refine tail _ vs ?_ rfl rfl ⟨kz.zip vs,.refl _,?_,?_⟩
  .show(ks.toArray.zip vs.toArray).map (·.2)=vs.toArray;apply Array.toList_inj.mp;simp only[Array.toList_map,Array.toList_zip];exact map_snd_zip (by omega)
  .exact(map_snd_zip (by omega)).symm
  .have hzl:(kz.zip vs).length<2:=by simp at h2 ⊢;omega
   cases hh:kz.zip vs with
   |nil=>exact .nil
   |cons z r=>
    cases r with
    |nil=>exact List.pairwise_singleton _ _
    |cons y t=>rw[hh]at hzl;exact absurd hzl (by simp)
 .rw[if_neg h2,if_neg h2];have h2':2<=vs.length:=by simp at h2;omega
  refine wpAny_bind (TY K (by omega) λκ cmp=>?_);have hsz:(ks.toArray.zip vs.toArray).size=vs.length:=by simp[hl]
  have it:∀i,i<vs.length->kas_item (ks.toArray.zip vs.toArray) i=(ks.getD i .none,vs.getD i .none):=λi hi=>by
   unfold kas_item;have h1:i<ks.length:=by omega
   have h3:i<(ks.toArray.zip vs.toArray).size:=by omega
   have e:(ks.toArray.zip vs.toArray).getD i (Value.none,Value.none)=(ks.toArray.zip vs.toArray)[i]:=by simp only[Array.getD,h3,dite_true];rfl
   have e2:(ks.toArray.zip vs.toArray)[i]=(ks[i],vs[i]):=by rw[Array.getElem_zip];simp
   rw[e,e2];simp[h1,hi]
  have est:SortSt.mk' κ (ks.toArray.zip vs.toArray) #[] 7 none=kas_st κ (ks.toArray.zip vs.toArray) (List.toArray (List.range vs.length)):=by
   unfold kas_st;rw[<- hsz,kas_range]
  have ask:(kas_sort vs.length).kasWp (kas_cmp prog w A κ (ks.toArray.zip vs.toArray)) (λp s'=>s'=s/\PAr vs.length p/\STo (λi=>kz.getD i 0) p vs.length) s:=by
   refine PWp.wp (n:=vs.length) (r:=λi=>kz.getD i 0) (P:=λs'=>s'=s) (λi j C s' hi hj e hC=>?_) ((NO (by omega)).mono λp z s' e=>⟨e,z.1,z.2⟩) rfl;subst e;unfold kas_cmp;rw[it i hi,it j hj];exact cmp i j C (by omega) (by omega) (hC _ rfl)
  have run:=kas_runs (E:=E) (Q:=λ_ st' s'=>∃p:Array Nat,arrOf st'=p.map (kas_item (ks.toArray.zip vs.toArray))/\failedOf st'=none/\s'=s/\PAr vs.length p/\STo (λi=>kz.getD i 0) p vs.length) h2' h64 (λp st' s' x1 x2 x3 x4=>⟨p,x2,x3,x4⟩) ask;rw[<- est]at run;refine wpAny_bind (wpAny_mono run ?_ λ_ _ e=>e);rintro⟨⟨⟩,st'⟩ s' ⟨p,har,hf,rfl,pa,so⟩;dsimp only;refine tail st' (p.toList.map λi=>vs.getD i Value.none) ?_ ?_ hf (Wi hz pa so)
  .rw[har];apply Array.toList_inj.mp;simp only[Array.toList_map,map_map,List.toList_toArray];refine map_congr_left λi hi=>?_;have hi':i<vs.length:=by
    have:=(Array.perm_iff_toList_perm.mp pa).mem_iff.mp hi;simpa using this
   exact congrArg Prod.snd (it i hi')
  .simp[pa.size]
end
def Ht(G:Hp->Prop)(tb:TE)(cap:St):List Int->Hp->(List V->Hp->Prop)->Prop
 |[],H,Q=>Q [] H
 |n::r,H,Q=>G H/\tb (some (.int n)::cap) H λk H1=>Ht G tb cap r H1 λks H2=>Q (k::ks) H2
def Hz(K:PySem.W.Frag)(H:Hp)(ks:List V)(kz:List Int):Prop:=ks=kz.map V.int∨∃ps:List (Int×Int),kz=ps.map Aj/\(∀p∈ps,pok p)/\ks.length=ps.length/\∀(i:Nat) (k:V) (p:Int×Int),ks[i]?=some k->ps[i]?=some p->∃x,k=.ref x/\SqT K H x [.int p.1,.int p.2]
def Ih(kz ns ms:List Int):Prop:=∃zs:List (Int×Int),zs.Perm (kz.zip ns)/\zs.Pairwise (λa b=>a.1<=b.1)/\ms=zs.map (·.2)
def ED:Value->Int
 |.int n _=>n
 |_=>0
def MZ:∀{vs:List Value} {ns:List Int},IntsAre vs ns->vs.map ED=ns
 |_,_,.nil=>rfl
 |_,_,.cons _ _ h=>by rw[map_cons,MZ h];rfl
def Ma:∀{vs:List Value} {ns:List Int},IntsAre vs ns->∀v∈vs,∃t,v=.int (ED v) t
 |_,_,.nil,v,h=>by cases h
 |_,_,.cons _ _ h,v,hv=>by
  rcases mem_cons.mp hv with rfl|hv
  .exact⟨_,rfl⟩
  .exact Ma h v hv
def FR:∀{xs:List V} {vs:List Value} {ns:List Int},xs=ns.map V.int->Vals xs vs->IntsAre vs ns
 |_,_,[],e,h=>by subst e;cases h;exact .nil
 |_,_,n::r,e,h=>by
  subst e;cases h with
  |cons a b=>obtain⟨t,rfl⟩:=a;exact .cons n t (FR rfl b)
def Io:∀{vs:List Value},(∀v∈vs,∃t,v=Value.int (ED v) t)->Vals ((vs.map ED).map V.int) vs
 |[],_=>.nil
 |v::r,h=>by
  refine .cons ?_ (Io λw hw=>h w (mem_cons_of_mem _ hw));obtain⟨t,e⟩:=h v mem_cons_self;exact⟨t,e⟩
def ae{kz ns:List Int}{vs out:List Value}(hi:IntsAre vs ns)(so:KskOut false kz vs out):Ih kz ns (out.map ED)/\∀v∈out,∃t,v=Value.int (ED v) t:=by
 obtain⟨zs,pm,rfl,pw⟩:=so;refine⟨⟨zs.map λz=>(z.1,ED z.2),?_,?_,by rw[map_map,map_map];rfl⟩,?_⟩
 .have:=pm.map λz:Int×Value=>(z.1,ED z.2)
  have e:((kz.zip vs).map λz:Int×Value=>(z.1,ED z.2))=kz.zip ns:=by
   rw[<- MZ hi,List.zip_map_right];rfl
  rwa [e]at this
 .rw[pairwise_map];exact pw.imp λh=>by simpa using h
 .intro v hv;obtain⟨z,hz,rfl⟩:=mem_map.mp hv;have:=pm.mem_iff.mp hz;exact Ma hi _ (of_mem_zip this).2
section
variable{X:Cx}{pins:List (Addr×Obj)}{σ:St}{H:Hp}{s:Shared}{a:Addr}
def Inv.adopt{o:HO}(I:Inv X pins σ H s)(f:FpOk X pins H a)(h0:X.s₀.heap.objs.size<=a)(new:ObjOk X.prog X.w (upd H a o) s.heap a o):Inv X pins σ (upd H a o) s:=by
 obtain⟨hn,hL,hfs,_,hc,hp⟩:=f;have nb:∀b u,H b=some u->b≠a:=λb u e=>AY e hn;have n0:∀b o,X.s₀.heap.get? b=some o->b≠a:=λb o e=>ne_of_lt (lt_of_lt_of_le (Heap.lt_size e) h0);refine⟨I.ok,I.os,I.bare,⟨I.base.keep,I.base.slot,λb o e n hx=>?_,I.base.there,λb xs e=>?_,λb o u e=>?_,λb ps e=>?_⟩,I.loc,I.cell,?_,λx c e=>?_,λp hp'=>?_,λb u e=>?_,I.len⟩
 .rw[AC (n0 b o e)];exact I.base.free b o e n hx
 .have:=I.base.tups b xs e;rw[AC (nb b _ this)];exact this
 .have:=I.base.frzs b o u e;rw[AC (nb b _ this)];exact this
 .obtain⟨m,e1⟩:=I.base.tbls b ps e;exact⟨m,by rw[AC (nb b _ e1)];exact e1⟩
 .rw[AC (λz=>hL z.symm)];exact I.free
 .rw[AC (hc x c e)];exact I.freeC x c e
 .obtain⟨q1,q2,q3⟩:=I.pin p hp';exact⟨q1,by rw[AC (hp p hp')];exact q2,q3⟩
 .by_cases z:b=a
  .subst z;rw[AJ]at e;cases e;exact new
  .rw[AC z]at e;exact(I.hok b u e).stay (λ_ _ _ q=>q) (λd q=>by rw[AC (nb d _ q)];exact q) λd xs q=>by rw[AC (nb d _ q)];exact q
def Wh(I:Inv X pins σ H s){ks:List V}{kz:List Int}{us:List Value}(k:Hz X.K H ks kz)(r:Vals ks us):KeysOk s.heap us kz:=by
 rcases k with rfl|⟨ps,rfl,hok,hl,hp⟩
 .exact .kI (FR rfl r)
 .refine .kP (by rw[<- r.length];exact hl) (λi v p e1 e2=>?_) hok;have hi:i<ks.length:=by rw[hl];exact(List.getElem?_eq_some_iff.mp e2).1
  have ek:ks[i]?=some ks[i]:=by simp[hi]
  obtain⟨x,ex,sq⟩:=hp i _ p ek e2;obtain⟨v',ev,rel⟩:=IM r ek;rw[e1]at ev;cases ev;rw[ex]at rel;have rel:v=Value.ref x:=rel;subst rel;obtain⟨jts,rj,⟨o,ho,hc,n,hd⟩,_⟩:=I.tuple sq;cases rj with
  |cons r1 t1=>
   cases t1 with
   |cons r2 t2=>
    cases t2;obtain⟨t,rfl⟩:=r1;obtain⟨t',rfl⟩:=r2;exact⟨x,o,t,t',n,rfl,ho,hc,hd⟩
end
section
variable{X:Cx}{pins:List (Addr×Obj)}{σ:St}{H:Hp}{s:Shared}
def Inv.turn1{b:Addr}{o:Obj}{h':Heap}{t':Nat}(I:Inv X ((b,o)::pins) σ H s)(f:FpOk X pins H b)(hs:Heap.SameBut b s.heap h'):Inv X pins σ H { s with heap:=h',toks:=t' }:=by
 have J:Inv X pins σ H s:=I.pins_of λp hp=>I.pin p (mem_append_right _ (mem_cons_of_mem _ hp));obtain⟨hn,hL,_,h1,h2,h3⟩:=f;exact J.turned (λc u n e=>(hs.2 c n).trans e) hn hL h1 h2 h3
def FpOk.more{b c:Addr}{o:Obj}(f:FpOk X pins H b)(h:c≠b):FpOk X ((c,o)::pins) H b:=by
 obtain⟨a1,a2,a3,a4,a5,a6⟩:=f;refine⟨a1,a2,a3,a4,a5,λp hp=>?_⟩;rcases mem_append.mp hp with q|q
 .exact a6 p (mem_append_left _ q)
 .rcases mem_cons.mp q with rfl|q
  .exact h
  .exact a6 p (mem_append_right _ q)
def Inv.repin{b:Addr}{o:Obj}(I:Inv X pins σ H s)(f:FpOk X pins H b)(e:s.heap.get? b=some o)(hd:∀v,o.data≠.cell v):Inv X ((b,o)::pins) σ H s:=
 I.pins_of λp hp=>by
  rcases mem_cons.mp hp with rfl|hp
  .exact⟨e,f.1,f.2.1,f.2.2.1,hd⟩
  .exact I.pin p (mem_append_right _ hp)
def OS{l:Value}{f:Addr}{ns:List Int}{G:Hp->Prop}{tb:TE}{cap:St}{Q:VK}{E:Value->Shared->Prop}(I:Inv X pins σ H s)(h64:ns.length<64)
 (hcol:∀(Q:List Value->Shared->Prop) (E:Value->Shared->Prop),(∀(g:Heap) (tk:Nat) (vs:List Value),(∀b o,s.heap.get? b=some o->g.get? b=some o)->IntsAre vs ns->Q vs { s with heap:=g,toks:=tk })->wpAny (model X.prog X.w) X.A.in1 (collect l) Q E s)
 (turn:∀(pins':List (Addr×Obj)) (H1:Hp) (s1:Shared) (n:Int) (u:Value) (Q1:VK),(∀p∈pins,p∈pins')->Inv X pins' σ H1 s1->RelV (.int n) u->G H1->tb (some (.int n)::cap) H1 Q1->wpAny (model X.prog X.w) X.A.in1.in1 (call (.ref f) [u]) (EP X pins' σ Q1) (λ_ _=>False) s1)
 (h:Ht G tb cap ns H λks H3=>∃kz,Hz X.K H3 ks kz/\∀p ms,H3 p=none->Ih kz ns ms->Q (.ref p) (upd H3 p (.lst (ms.map V.int)))):
 wpAny (model X.prog X.w) X.A (call (.builtin "sorted") [l] [(Str.ofString "key",.ref f)]) (EP X pins σ Q) E s:=by
 refine call_function_entry_kw kind_sorted plain_sorted entry_sorted (ksk_s1 _ _) ?_;unfold Builtin.«sorted»;refine wpAny_bind (m:=checkCount "sorted" 1 1 _) (wpAny_pure ?_);refine wpAny_bind (hcol _ _ λg tk vs keep0 hi=>?_)
 replace I:Inv X pins σ H { s with heap:=g,toks:=tk }:=I.kept (t':=tk) keep0
 clear hcol;generalize { s with heap:=g,toks:=tk }=s at I ⊢;clear keep0 g tk;have line:vs.length<=sizeLine:=by have:=hi.length;rw[sizeLine_eq];omega
 have h64:vs.length<64:=by have:=hi.length;omega
 refine wpAny_bind (wpAny_newList ?_ line);show wpAny _ _ _ _ _ { s with heap:=s.heap.push (seqObj "list" vs.toArray 0) };have hoL:(s.heap.push (seqObj "list" vs.toArray 0)).get? s.heap.objs.size=some (seqObj "list" vs.toArray 0):=Heap.get?_push_size _ rfl;have keep1:∀b o,s.heap.get? b=some o->(s.heap.push (seqObj "list" vs.toArray 0)).get? b=some o:=λb o q=>Heap.get?_push_of_some _ q;have sz1:(s.heap.push (seqObj "list" vs.toArray 0)).objs.size=s.heap.objs.size+1:=by rw[size_push']
 generalize s.heap.push (seqObj "list" vs.toArray 0)=h1 at hoL keep1 sz1 ⊢;have fa:∀H',H' s.heap.objs.size=none->FpOk X pins H' s.heap.objs.size:=λH' hn=>I.fpOk (le_refl _) hn;have fk:∀H',H' (s.heap.objs.size+2)=none->FpOk X pins H' (s.heap.objs.size+2):=λH' hn=>I.fpOk (by omega) hn;refine wpAny_bind (wpAny_holding (wpAny_call_entry_kw slot_list_sort ⟨_,hoL,rfl⟩ entry_list_sort ?_ (ksk_l1 _ _)));show wpAny (model X.prog X.w) X.A.in1.in1 (Builtin.«list.sort» ⟨[.ref (s.heap.objs.size)],[(Str.ofString "key",.ref f)]⟩) _ _ _;rw[ksk_t1];have u1:=Heap.SameBut.update h1 (s.heap.objs.size) (Obj.mapSeq λ_=>(#[]:Array Value));obtain⟨e1,ho1⟩:∃e1,(h1.update (s.heap.objs.size) (Obj.mapSeq λ_=>(#[]:Array Value))).get? (s.heap.objs.size)=some (seqObj "list" #[] e1):=⟨_,get?_update_seq hoL λ_=>#[]⟩
 have sz2:(h1.update (s.heap.objs.size) (Obj.mapSeq λ_=>(#[]:Array Value))).objs.size=s.heap.objs.size+1:=by rw[Heap.size_update,sz1]
 have keep2:∀b o,s.heap.get? b=some o->(h1.update (s.heap.objs.size) (Obj.mapSeq λ_=>(#[]:Array Value))).get? b=some o:=λb o q=>(u1.2 b (ne_of_lt (Heap.lt_size q))).trans (keep1 b o q);unfold ksk_tree;refine wpAny_bind (listItems_at hoL rfl ?_);refine wpAny_bind (listUpdate_at hoL rfl ?_ (by rw[size_toArray,sizeLine_eq];omega) (zero_le _));refine wpAny_bind (seqEpoch_at ho1 rfl ?_);generalize h1.update (s.heap.objs.size) (Obj.mapSeq λ_=>(#[]:Array Value))=h2 at ho1 sz2 keep2 ⊢;refine wpAny_bind (wpAny_newTuple ?_ (by show vs.length<=_;exact line));refine wpAny_bind (wpAny_newList ?_ (zero_le _));have sz3:(h2.push (seqObj "tuple" vs.toArray 0)).objs.size=s.heap.objs.size+2:=by rw[size_push',sz2]
 have okS:((h2.push (seqObj "tuple" vs.toArray 0)).push (seqObj "list" #[] 0)).get? (s.heap.objs.size+2)=some (seqObj "list" #[] 0):=by rw[<- sz3];exact Heap.get?_push_size _ rfl
 have oa4:((h2.push (seqObj "tuple" vs.toArray 0)).push (seqObj "list" #[] 0)).get? (s.heap.objs.size)=some (seqObj "list" #[] e1):=Heap.get?_push_of_some _ (Heap.get?_push_of_some _ ho1);have keep4:∀b o,s.heap.get? b=some o->((h2.push (seqObj "tuple" vs.toArray 0)).push (seqObj "list" #[] 0)).get? b=some o:=λb o q=>Heap.get?_push_of_some _ (Heap.get?_push_of_some _ (keep2 b o q));have ekS:∀o:Obj,Value.ref ((({ s with heap:=h2.push o }:Shared)).heap.objs.size)=Value.ref (h2.push o).objs.size:=λ_=>rfl;refine wpAny_holding ?_;have goal:∀kS:Addr,kS=s.heap.objs.size+2->wpAny (model X.prog X.w) X.A.in1.in1 (ksk_rest (s.heap.objs.size) (.ref f) false vs.toArray e1 (.ref kS)) (λfin s'=>∃v,fin=PySem.Fin.done (.ret v)/\wpAny (model X.prog X.w) X.A.in1 (ret (.ref (s.heap.objs.size))) (λfin s'=>∃v,fin=PySem.Fin.done (.ret v)/\EP X pins σ Q v s') E s') E { s with heap:=(h2.push (seqObj "tuple" vs.toArray 0)).push (seqObj "list" #[] 0) }:=by
  intro kS ek;rw[ek];have fresh0:H (s.heap.objs.size)=none/\H (s.heap.objs.size+2)=none:=⟨I.hok.fresh (by omega),I.hok.fresh (by omega)⟩
  have I4:Inv X pins σ H { s with heap:=(h2.push (seqObj "tuple" vs.toArray 0)).push (seqObj "list" #[] 0) }:=I.kept (t':=s.toks) keep4;have nak:s.heap.objs.size≠s.heap.objs.size+2:=by omega
  have I5:=(I4.repin (fk H fresh0.2) okS (λv z=>by cases z)).repin ((fa H fresh0.1).more nak.symm) oa4 (λv z=>by cases z);unfold ksk_rest;refine wpAny_bind (wpAny_rule ?_)
  first
   |rw[List.forIn_toArray]
   |(rw[<- Array.forIn_toList];simp only[List.toList_toArray])
   |rw[<- Array.forIn_toList]
  refine wpAny_bind (ksk_fold (λi s'=>∃(H':Hp) (kA:Array Value) (e:Nat) (ks:List V),Inv X ((s.heap.objs.size,seqObj "list" #[] e1)::(s.heap.objs.size+2,seqObj "list" kA e)::pins) σ H' s'/\Vals ks kA.toList/\kA.size=i /\
   Ht G tb cap (ns.drop i) H' λks' H3=>∃kz,Hz X.K H3 (ks++ks') kz/\∀p ms,H3 p=none->Ih kz ns ms->Q (.ref p) (upd H3 p (.lst (ms.map V.int)))) vs 0 _ ⟨H,#[],0,[],I5,.nil,rfl,h⟩ ?step ?done)
  case step=>
   rintro j x s' hx ⟨H',kA,e,ks,J,rk,hsz,hgo⟩;simp only[zero_add]at hsz hgo ⊢;have hj:j<vs.length:=(List.getElem?_eq_some_iff.mp hx).1;have hjn:j<ns.length:=by have:=hi.length;omega
   have enx:ns[j]?=some ns[j]:=by simp[hjn]
   have edr:ns.drop j=ns[j]::ns.drop (j+1):=List.drop_eq_getElem_cons hjn;rw[edr]at hgo;obtain⟨hG,hgo⟩:=hgo;have rx:RelV (.int ns[j]) x:=by
    obtain⟨t,et⟩:=GH hi hj;have:vs.getD j .none=x:=by simp[List.getD,hx]
    rw[this]at et;have:ns.getD j 0=ns[j]:=by simp[hjn]
    rw[this]at et;exact⟨t,et⟩
   refine wpAny_bind (wpAny_attempt (wpAny_mono (turn _ H' s' ns[j] x _ (λp hp=>mem_cons_of_mem _ (mem_cons_of_mem _ hp)) J rx hG hgo) (λv s'' he=>?_) λ_ _ hF=>hF.elim));obtain⟨k,H2,J2,r2,hgo2⟩:=he;dsimp only;have pk:=J2.pin (s.heap.objs.size+2,seqObj "list" kA e) (mem_append_right _ (mem_cons_of_mem _ mem_cons_self));have pa:=J2.pin (s.heap.objs.size,seqObj "list" #[] e1) (mem_append_right _ mem_cons_self);have u2:=Heap.SameBut.update s''.heap (s.heap.objs.size+2) (Obj.mapSeq (·.push v));obtain⟨c2,hc2⟩:∃c2,(s''.heap.update (s.heap.objs.size+2) (Obj.mapSeq (·.push v))).get? (s.heap.objs.size+2)=some (seqObj "list" (kA.push v) c2):=⟨_,get?_update_seq pk.1 (·.push v)⟩
   refine wpAny_bind (listUpdate_at pk.1 rfl ?_ (by rw[sizeLine_eq];omega) (le_trans (Nat.le_of_eq (Array.size_push ..)) (by rw[sizeLine_eq];omega)));have J3:Inv X ((s.heap.objs.size+2,seqObj "list" kA e)::pins) σ H2 s'':=J2.pins_of λp hp=>J2.pin p (mem_append_right _ (mem_cons_of_mem _ hp));have J4:Inv X pins σ H2 { s'' with heap:=s''.heap.update (s.heap.objs.size+2) (Obj.mapSeq (·.push v)) }:=J3.turn1 (t':=s''.toks) (fk H2 pk.2.1) u2;have oa:(s''.heap.update (s.heap.objs.size+2) (Obj.mapSeq (·.push v))).get? (s.heap.objs.size)=some (seqObj "list" #[] e1):=(u2.2 _ nak).trans pa.1;have J5:=(J4.repin (fk H2 pk.2.1) hc2 (λv z=>by cases z)).repin ((fa H2 pa.2.1).more nak.symm) oa (λv z=>by cases z);refine wpAny_pure ⟨rfl,H2,kA.push v,c2,ks++[k],J5,?_,by simp[hsz],?_⟩
   .rw[Array.toList_push];exact rk.append (.cons r2 .nil)
   .simpa [append_assoc]using hgo2
  case done=>
   rintro s' ⟨H',kA,e,ks,J,rk,hsz,hgo⟩;have hdr:ns.drop (0+vs.length)=[]:=List.drop_of_length_le (by have:=hi.length;omega);rw[hdr]at hgo;obtain⟨kz,kv,fin⟩:∃kz,Hz X.K H' (ks++[]) kz/\∀p ms,H' p=none->Ih kz ns ms->Q (.ref p) (upd H' p (.lst (ms.map V.int))):=hgo;rw[append_nil]at kv;have pk:=J.pin (s.heap.objs.size+2,seqObj "list" kA e) (mem_append_right _ (mem_cons_of_mem _ mem_cons_self));have pa:=J.pin (s.heap.objs.size,seqObj "list" #[] e1) (mem_append_right _ mem_cons_self);refine wpAny_bind (listItems_at pk.1 rfl ?_);have ekA:kA=kA.toList.toArray:=by simp
   rw[ekA]at pk ⊢;have lk:kA.toList.length=vs.length:=by rw[Array.length_toList];omega
   refine Wj pk.1 pa.1 nak.symm (Wh J kv rk) lk h64 λout so=>⟨_,rfl,wpAny_pure ⟨_,rfl,?_⟩⟩
   obtain⟨on,oi⟩:=ae hi so;have u5:=Heap.SameBut.update s'.heap (s.heap.objs.size+2) (Obj.mapSeq λ_=>(#[]:Array Value));have oa:(s'.heap.update (s.heap.objs.size+2) (Obj.mapSeq λ_=>(#[]:Array Value))).get? (s.heap.objs.size)=some (seqObj "list" #[] e1):=(u5.2 _ nak).trans pa.1;have u6:=Heap.SameBut.update (s'.heap.update (s.heap.objs.size+2) (Obj.mapSeq λ_=>(#[]:Array Value))) (s.heap.objs.size) (Obj.mapSeq λ_=>out.toArray);obtain⟨c6,hc6⟩:∃c6,((s'.heap.update (s.heap.objs.size+2) (Obj.mapSeq λ_=>(#[]:Array Value))).update (s.heap.objs.size) (Obj.mapSeq λ_=>out.toArray)).get? (s.heap.objs.size)=some (seqObj "list" out.toArray c6):=⟨_,get?_update_seq oa λ_=>out.toArray⟩
   have J3:Inv X ((s.heap.objs.size+2,seqObj "list" kA e)::pins) σ H' s':=J.pins_of λp hp=>J.pin p (mem_append_right _ (mem_cons_of_mem _ hp));have J4:Inv X pins σ H' { s' with heap:=s'.heap.update (s.heap.objs.size+2) (Obj.mapSeq λ_=>(#[]:Array Value)) }:=J3.turn1 (t':=s'.toks) (fk H' pk.2.1) u5;have J5:Inv X pins σ H' { s' with heap:=(s'.heap.update (s.heap.objs.size+2) (Obj.mapSeq λ_=>(#[]:Array Value))).update (s.heap.objs.size) (Obj.mapSeq λ_=>out.toArray) }:=(J4.repin (fa H' pa.2.1) oa (λv z=>by cases z)).turn1 (t':=s'.toks) (fa H' pa.2.1) u6;have lo:out.length<64:=by
    obtain⟨zs,pm,rfl,_⟩:=so;have:=pm.length_eq;simp at this ⊢;omega
   have J6:=J5.adopt (o:=.lst ((out.map ED).map V.int)) (fa H' pa.2.1) (I.sz) ⟨by simp[sizeLine_eq];omega,out,c6,Io oi,hc6⟩;exact⟨.ref _,_,J6,rfl,fin _ _ pa.2.1 on⟩
 exact goal _ sz3
end
def Src(K:PySem.W.Frag)(H:Hp)(a:Addr)(ns:List Int):Prop:=SqT K H a (ns.map V.int)∨∃n:Nat,n<64/\H a=some (.rng 0 n)/\ns=(List.range n).map λk:Nat=>(k:Int)
def Ir(K:PySem.W.Frag)(P:Addr)(q:Str)(pos:Pos)(ix:List Nat)(te tb:TE):TE:=λσ H Q=>te σ H λv H1=>∃(a:Addr) (ns:List Int) (ps:Array Value),v=.ref a/\Src K H1 a ns/\ns.length<64/\H1 P=some (.tbl ps)/\JX H1 q pos ps /\
 ∀H2 c,TabStep P q pos H1 H2->H2 c=some (.ext (cdF c q))->Ht (λH=>H c=some (.ext (cdF c q))) tb (ix.map λi=>(σ[i]?).join) ns H2 λks H3=>∃kz,Hz K H3 ks kz/\∀p ms,H3 p=none->Ih kz ns ms->Q (.ref p) (upd H3 p (.lst (ms.map V.int)))
def TabStep.rd{P:Addr}{q:Str}{pos:Pos}{H H':Hp}{ps:Array Value}(t:TabStep P q pos H H')(hP:H P=some (.tbl ps)){a:Addr}{xs:List V}(r:Rd H a (.tup xs)):Rd H' a (.tup xs):=by
 rcases t with rfl|⟨c,hc,_,rfl⟩
 .exact r
 .have ne:∀u,H a=some u->(∀ps,u≠.tbl ps)->upd (upd H P (.tbl #[rawInt pos.line,rawInt pos.col,.ref c])) c (.ext (cdF c q)) a=some u:=λu e n=>by
   rw[AC (AY e hc),AC (λz=>by subst z;rw[hP]at e;cases e;exact n _ rfl)];exact e
  rcases r with r|⟨o,r⟩
  .exact .inl (ne _ r λps z=>by cases z)
  .exact .inr ⟨o,ne _ r λps z=>by cases z⟩
def TabStep.sqt{K:PySem.W.Frag}{P:Addr}{q:Str}{pos:Pos}{H H':Hp}{ps:Array Value}(t:TabStep P q pos H H')(hP:H P=some (.tbl ps)){a:Addr}{xs:List V}(r:SqT K H a xs):SqT K H' a xs:=by
 rcases r with r|r
 .exact .inl (t.rd hP r)
 .exact .inr r
def TabStep.src{K:PySem.W.Frag}{P:Addr}{q:Str}{pos:Pos}{H H':Hp}{ps:Array Value}(t:TabStep P q pos H H')(hP:H P=some (.tbl ps)){a:Addr}{ns:List Int}(r:Src K H a ns):Src K H' a ns:=by
 rcases r with r|⟨n,h,e,z⟩
 .exact .inl (t.sqt hP r)
 .refine .inr ⟨n,h,?_,z⟩;rcases t with rfl|⟨c,hc,_,rfl⟩
  .exact e
  .rw[AC (AY e hc),AC (λz=>by subst z;rw[hP]at e;cases e)];exact e
def P7{n:Nat}{acc:Array Value}(it:ItemsOf (λi v=>∃t,v=.int (0+i*1) t) acc n):IntsAre acc.toList ((List.range n).map λk:Nat=>(k:Int)):=by
 have:=P5 (lo:=0) it;have e:Fj 0 n=((List.range n).map λk:Nat=>(k:Int)).map V.int:=by
  have:∀(lo:Nat) (n:Nat),Fj (lo:Int) n=((List.range' lo n).map λk:Nat=>(k:Int)).map V.int:=by
   intro lo n
   induction n generalizing lo with
   |zero=>rfl
   |succ n ih=>rw[Fj,List.range'_succ];simp only[map_cons];rw[<- ih (lo+1)];rfl
  rw[List.range_eq_range'];exact this 0 n
 rw[e]at this;exact FR rfl this
section
variable{X:Cx}{c P:Addr}{scope:Scope}{fr:List Str}{ix:List Nat}{prm:Str}{params:Arguments}{body e:Expr}{p pos lpos kpos:Pos}{te tb:TE}
def TC(LA:LamAt X c P)(S:CSc X scope fr ix)(L:LSc scope prm)(hr:Room 3 X.A)(hcm:X.calm=true)(hg:Gl X "sorted")(hm:X.mg "sorted"=none)
 (hbind:∀(cl:List (Str×Addr)) (pm cd ctv us:Value),bindArgs (kla_fn "<lambda>" (X.env.qual++"<lambda>") params body scope cl pm cd ctv) ⟨[us],[]⟩=pure [(prm,us)])
 (he:PE X e te) (hb:∀(f:Addr) (cd:Value) (s:Shared) (H:Hp),PE (lCx X X.A.in1.in1 (prm::fr) (X.env.qual++"<lambda>") scope f cd (Al X.env.cells scope.names []) s H) body tb)
 (hdef:defaultsOf params X.env=([],[]):=by rfl) (hs:starEach [e] X.env=[(false,eval e X.env)]:=by rfl):
 PE X (.Call (.Name "sorted" p) [e] [⟨some "key",.Lambda params body scope lpos,kpos⟩] pos) (Ir X.K P (X.env.qual++"<lambda>") lpos ix te tb):=by
 intro pins s σ H Q I h;have PAe:PA X [e] (BM te CI):=CA he Cv hs;refine wpAny_Call_Name_kw (D0 (u:=.builtin "sorted") I hg hm Ke ?_);have pl:(backTo pos (starEach [e] X.env)).any (·.1)=false:=by rw[hs];rfl
 refine callWith_builtin_kwB pl rfl (evalArgs_kw2 (env:=X.env) (e:=e) (rest:=[]) (kws:=[⟨some "key",.Lambda params body scope lpos,kpos⟩]) rfl (thn (PAe pos pins s σ H (λvs H1=>match vs with
  |[v]=>∃(a:Addr) (ns:List Int) (ps:Array Value),v=.ref a/\Src X.K H1 a ns/\ns.length<64/\H1 P=some (.tbl ps)/\JX H1 (X.env.qual++"<lambda>") lpos ps /\
   ∀H2 c,TabStep P (X.env.qual++"<lambda>") lpos H1 H2->H2 c=some (.ext (cdF c (X.env.qual++"<lambda>")))->Ht (λH=>H c=some (.ext (cdF c (X.env.qual++"<lambda>")))) tb (ix.map λi=>(σ[i]?).join) ns H2 λks H3=>∃kz,Hz X.K H3 ks kz/\∀p ms,H3 p=none->Ih kz ns ms->Q (.ref p) (upd H3 p (.lst (ms.map V.int)))
  | _=>False) I h) λus s1 hq=>?_) hs)
 obtain⟨vs,H1,I1,r,q⟩:=hq
 match vs,q with
 |[v],q=>
 obtain⟨a,ns,ps,rfl,sq,h64,hP,hg1,go⟩:=q;obtain⟨u,rfl,ru⟩:=DN r;cases ru;show wpAny _ _ (evalAll [(do let v <- eval (.Lambda params body scope lpos) X.env;standAt pos;pure v)]) _ _ s1;refine wpAny_evalAll_cons (wpAny_bind (TW S LA I1 hdef hP hg1 λf cd ctv H2 s2 I2 M=>wpAny_bind (wpAny_standAt (wpAny_pure (wpAny_evalAll_nil ?_)))));show wpAny _ _ (call (.builtin "sorted") [.ref a] [(Str.ofString "key",.ref f)]) _ _ s2;have sq2:=M.step.src hP sq;obtain⟨c',rfl,hc'⟩:=M.cdc;have ff:FpOk X pins H2 f:=I1.fpOk M.new M.fre;have I3:=I2.repin ff M.fn (λv z=>by cases z);refine wpAny_mono (OS (pins:=(f,_)::pins) I3 h64 (λQ E hq=>?_) (λpins' H' s' n u Q1 sub J ru hG hq=>?_) (go H2 c' M.step hc')) (λv s' hv=>?_) λ_ _ z=>z
 .rcases sq2 with sq2|⟨n,hn,er,rfl⟩
  .obtain⟨its,rv,tp,_⟩:=I2.tuple sq2;have hi:IntsAre its ns:=FR rfl rv;have hlen:its.length<=sizeLine:=by have:=hi.length;rw[sizeLine_eq];omega
   refine NC tp (hq _ s2.toks its (λb o q=>?_) hi) hlen;have hlt:b<s2.heap.objs.size:=Heap.lt_size q;rw[Heap.get?_update_ne _ _ _ _ (ne_of_lt hlt),Heap.get?_push_ne _ _ _ (ne_of_lt hlt)];exact q
  .obtain⟨t,u,v,hr'⟩:∃t u v,s2.heap.get? a=some { cls:=.type "range",data:=.fields #[.int 0 t,.int n u,.int 1 v] }:=I2.hok a _ er;refine N5 (n:=n) (I2.ok.hd hcm) hr' (small_one (by omega) (by omega) (by omega) (by omega)) (by rw[aF];omega) (by omega) λg tk acc kp it=>hq g tk _ kp (P7 it)
 .have pf:=J.pin (f,_) (mem_append_right _ (sub _ mem_cons_self));exact TX (A:=X.A.in1.in1) (f:=f) S L J rfl hr.in1.in1 pf.1 (J.hok c' _ hG).1 (λus=>hbind _ _ _ _ us) (λs H=>hb f _ s H) ru hq
 .obtain⟨y,H',J,ry,qy⟩:=hv;exact⟨y,H',J.pins_of λp hp=>J.pin p (mem_append_right _ (mem_cons_of_mem _ hp)),ry,qy⟩
end
def LK(K:PySem.W.Frag)(P:Addr)(q:Str)(pos:Pos):Prop:=∃p':Pos,(P,q,p')∈Cu K/\((Cu K).map (·.1)).Nodup/\p'.line=pos.line/\p'.col=pos.col
open Classical in
def EQ(ds:List D):Option (List Int):=match BG ds with
 |some ns=>some ns
 |none=>match DI ds with
  |some ps=>if ∀p∈ps,pok p then some (ps.map Aj)else none
  |none=>none
open Classical in
def Eo(mb:ME)(cap:Ls)(hd:Hd):List Int->Option (List D)
 |[]=>some []
 |n::r=>match mb (some (.im (.int n))::cap) hd with
  |some (k,h)=>match Eo mb cap hd r with
   |some ks=>if h=hd then some (k::ks)else none
   |none=>none
  |none=>none
def KU{mb:ME}{cap:Ls}{hd:Hd}:∀{ns:List Int} {ks:List D},Eo mb cap hd ns=some ks->ks.length=ns.length
 |[],ks,e=>by cases e;rfl
 |n::r,ks,e=>by
  unfold Eo at e;split at e
  .split at e
   .next ks' e2=>
    split at e
    .cases e;simp[KU e2]
    .cases e
   .cases e
  .cases e
def P4{ds:List D}{kz:List Int}(e:EQ ds=some kz):kz.length=ds.length:=by
 unfold EQ at e;split at e
 .next ns e6=>cases e;rw[FE e6];simp
 .split at e
  .next ps e6=>
   split at e
   .cases e;rw[Gz e6];simp
   .cases e
  .cases e
def FL(kz ns:List Int):List Int:=((kz.zip ns).mergeSort λa b=>decide (a.1<=b.1)).map (·.2)
def TF{kz ns ms:List Int}(nd:kz.Nodup)(hl:kz.length=ns.length)(o:Ih kz ns ms):ms=FL kz ns:=by
 obtain⟨zs,pm,pw,rfl⟩:=o;have pm2:((kz.zip ns).mergeSort λa b=>decide (a.1<=b.1)).Perm (kz.zip ns):=mergeSort_perm ..;have pw2:((kz.zip ns).mergeSort λa b=>decide (a.1<=b.1)).Pairwise λa b=>a.1<=b.1:=by
  have:=List.pairwise_mergeSort (le:=λa b:Int×Int=>decide (a.1<=b.1)) (by intro a b c h1 h2;simp at *;omega) (by intro a b;simp;omega) (kz.zip ns);exact this.imp (by simp)
 have inj:∀a∈kz.zip ns,∀b∈kz.zip ns,a.1=b.1->a=b:=by
  intro a ha b hb e;obtain⟨i,hi⟩:=mem_iff_getElem?.mp ha;obtain⟨j,hj⟩:=mem_iff_getElem?.mp hb;obtain⟨i1,i2⟩:=List.getElem?_zip_eq_some.mp hi;obtain⟨j1,j2⟩:=List.getElem?_zip_eq_some.mp hj;rw[e]at i1;have:i=j:=(List.getElem?_inj (List.getElem?_eq_some_iff.mp i1).1 nd).mp (i1.trans j1.symm);subst this;rw[i2]at j2;exact Prod.ext e (Option.some.inj j2)
 have:zs=(kz.zip ns).mergeSort λa b=>decide (a.1<=b.1):=
  (pm.trans pm2.symm).eq_of_pairwise (le:=λa b=>a.1<=b.1) (λa b ha hb h1 h2=>inj a (pm.mem_iff.mp ha) b (pm2.mem_iff.mp hb) (Int.le_antisymm h1 h2)) pw pw2
 rw[this];rfl
def LI(m:MA):Ls->Hd->Option (List Int×Hd):=λls hd=>(m ls hd).bind λp=>match p.1 with
 |[.im (.int j)]=>if 0<=j/\j<64 then some ((List.range j.toNat).map λk:Nat=>(k:Int),p.2)else none
 |_=>none
open Classical in
def EN(src:Ls->Hd->Option (List Int×Hd))(ix:List Nat)(mb:ME):MA:=λls hd=>(src ls hd).bind λp=>(Eo mb (ix.map λi=>(ls[i]?).join) p.2 p.1).bind λks=>(EQ ks).bind λkz=>
 if p.1.length<64/\kz.Nodup then some ((FL kz p.1).map λi=>.im (.int i),p.2)else none
abbrev Nr(m:MA)(ix:List Nat)(mb:ME):MA:=EN (LI m) ix mb
def Tx(K:PySem.W.Frag)(te:TE)(src:Ls->Hd->Option (List Int×Hd)):Prop:=∀(ρ:List Addr) (σ:St) (H:Hp) (hd:Hd) (ls:Ls) (Q:VK) (ns:List Int) (hd':Hd),RH K ρ H hd->RL K ρ H ls σ->src ls hd=some (ns,hd') ->
 (∀ρ1 H1 a,Ext ρ H ρ1 H1->RH K ρ1 H1 hd'->Src K H1 a ns->Q (.ref a) H1)->te σ H Q
section
variable{K:PySem.W.Frag}{ρ:List Addr}{H:Hp}{hd:Hd}
def S7{P:Addr}{q:Str}{pos:Pos}{H2:Hp}{ps:Array Value}(R:RH K ρ H hd)(hP:H P=some (.tbl ps))(t:TabStep P q pos H H2)(TI:LK K P q pos):RH K ρ H2 hd/\Ext ρ H ρ H2:=by
 rcases t with rfl|⟨c,hc,ncP,rfl⟩
 .exact⟨R,.refl⟩
 .obtain⟨p',et,nd,e1,e2⟩:=TI;have nP:∀b,b∈ρ->b≠P:=λb hb z=>by
   subst z;rcases R.mut hb with⟨y,w⟩|⟨y,w⟩<;>(rw[hP]at w;cases w)
  have nc:∀b u,H b=some u->b≠c:=λb u e=>AY e hc;have ex:Ext ρ H ρ (upd (upd H P (.tbl #[rawInt pos.line,rawInt pos.col,.ref c])) c (.ext (cdF c q))):=by
   refine⟨⟨[],by simp,by simp⟩,λb o e nb nt'=>?_,λb ps e=>?_⟩
   .rw[AC (nc b _ e),AC (λz=>by subst z;rw[hP]at e;cases e;exact nt' _ rfl)];exact e
   .by_cases z:b=P
    .subst z;exact⟨_,by rw[AC (nc _ _ hP),AJ]⟩
    .exact⟨ps,by rw[AC (nc b _ e),AC z];exact e⟩
  refine⟨⟨R.len,R.nd,λx hx=>?_,λn o a h1 h2=>?_⟩,ex⟩
  .by_cases hxP:x.1=P
   .have ex:x=(P,q,p'):=by
     obtain⟨i,hi⟩:=mem_iff_getElem?.mp hx;obtain⟨j,hj⟩:=mem_iff_getElem?.mp et;have i1:((Cu K).map (·.1))[i]?=some P:=by rw[List.getElem?_map,hi];simp[hxP]
     have j1:((Cu K).map (·.1))[j]?=some P:=by rw[List.getElem?_map,hj];rfl
     have:i=j:=(List.getElem?_inj (List.getElem?_eq_some_iff.mp i1).1 nd).mp (i1.trans j1.symm);subst this;exact Option.some.inj (hi.symm.trans hj)
    subst ex;refine⟨#[rawInt pos.line,rawInt pos.col,.ref c],by rw[AC (nc _ _ hP),AJ],.inr ⟨c,?_,AJ⟩⟩;show #[rawInt pos.line,rawInt pos.col,Value.ref c]=#[rawInt p'.line,rawInt p'.col,Value.ref c];rw[e1,e2]
   .obtain⟨ps',hx1,hG⟩:=R.tabs x hx;refine⟨ps',by rw[AC (nc _ _ hx1),AC hxP];exact hx1,?_⟩;rcases hG with g|⟨c',g1,g2⟩
    .exact .inl g
    .exact .inr ⟨c',g1,by rw[AC (nc _ _ g2),AC (λz=>by subst z;rw[hP]at g2;cases g2)];exact g2⟩
  .obtain⟨ho,q1,q2⟩:=R.ob n o a h1 h2;exact⟨ho,by rw[AC (nc a _ q1),AC (nP a (mem_of_getElem? h2))];exact q1,by simpa using q2.mono (ex.grow R) []⟩
def Nx{tb:TE}{mb:ME}{ix:List Nat}{q:Str}{c:Addr}(hb:RE K tb mb){ls:Ls}{σ:St}:∀{ns:List Int} {kds:List D} {ρ:List Addr} {H:Hp} {Q:List V->Hp->Prop},RH K ρ H hd->RL K ρ H ls σ->H c=some (.ext (cdF c q)) ->
 Eo mb (ix.map λi=>(ls[i]?).join) hd ns=some kds->(∀ρ' H' ks,Ext ρ H ρ' H'->RH K ρ' H' hd->RDs K ρ' H' kds ks->Q ks H')->Ht (λH=>H c=some (.ext (cdF c q))) tb (ix.map λi=>(σ[i]?).join) ns H Q
 |[],kds,ρ,H,Q,R,L,hc,e,k=>by
  cases e;exact k ρ H [] .refl R (by simp[RDs])
 |n::r,kds,ρ,H,Q,R,L,hc,e,k=>by
  unfold Eo at e;split at e
  .next kd h e1=>
   split at e
   .next ks e2=>
    split at e
    .next eh=>
     cases e;rw[eh]at e1;refine⟨hc,hb ρ _ H _ (some (.im (.int n))::ix.map λi=>(ls[i]?).join) _ kd _ R ⟨by simp,λi d ei=>?_⟩ e1 λρ1 H1 v1 x1 R1 r1=>?_⟩
     .cases i with
      |zero=>cases ei;exact⟨.int n,rfl,by simp[RD,RI]⟩
      |succ j=>
       have ei:(ix.map λi=>(ls[i]?).join)[j]?=some (some d):=ei;rw[List.getElem?_map]at ei;cases qj:ix[j]? with
       |none=>rw[qj]at ei;cases ei
       |some m=>
        rw[qj]at ei;have ei:(ls[m]?).join=some d:=Option.some.inj ei;have em:ls[m]?=some (some d):=by
         cases w:ls[m]? with
         |none=>rw[w]at ei;cases ei
         |some z=>rw[w]at ei;simpa using ei
        obtain⟨v,ev,rv⟩:=L.ob m d em;refine⟨v,?_,rv⟩;show(ix.map λi=>(σ[i]?).join)[j]?=some (some v);rw[List.getElem?_map,qj];simp[ev]
     .have oc:c∉ρ:=λm=>by rcases R.mut m with⟨y,w⟩|⟨y,w⟩<;>(rw[hc]at w;cases w)
      refine Nx hb R1 (L.ext R x1) (x1.keep c _ hc oc nt) e2 λρ2 H2 ks2 x2 R2 r2=>?_;exact k ρ2 H2 (v1::ks2) (x1.trans R1 x2) R2 (.cons (r1.ext R1 x2) r2)
    .cases e
   .cases e
  .cases e
def Up{t:TA}{m:MA}(h:RA K t m):Tx K (tCB QV t) (LI m):=by
 intro ρ σ H hd ls Q ns hd' hR hL hm k;obtain⟨⟨d1,h1⟩,e1,hm⟩:=c5 hm;dsimp only at hm;refine h ρ σ H hd ls _ d1 h1 hR hL e1 λρ1 H1 v x1 R1 r1=>?_;split at hm
 .next j=>
  split at hm
  .next c=>
   cases hm;simp only[RDs,RD,RI]at r1;obtain⟨x,r,rfl,rfl,rfl⟩:=r1;refine .inl ⟨j,rfl,λp hp=>?_⟩;obtain⟨R2,x2⟩:=R1.hid (ho:=.rng 0 j) hp;refine k ρ1 _ p (x1.trans R1 x2) R2 (.inr ⟨j.toNat,by omega,?_,rfl⟩);rw[AJ,Int.toNat_of_nonneg c.1]
  .cases hm
 .cases hm
def SV{te tb:TE}{src:Ls->Hd->Option (List Int×Hd)}{mb:ME}{P:Addr}{q:Str}{pos:Pos}{ix:List Nat}(hi:Tx K te src)(hb:RE K tb mb)(TI:LK K P q pos):RN K (Ir K P q pos ix te tb) (EN src ix mb):=by
 and_intros;obtain⟨⟨ns,h1⟩,e1,hm⟩:=c5 hm;obtain⟨kds,e4,hm⟩:=c5 hm;obtain⟨kz,e5,hm⟩:=c5 hm;dsimp only at hm e4;split at hm
 .next cc=>
  cases hm;refine hi ρ σ H hd ls _ ns _ hR hL e1 λρ1 H1 a x1 R1 sq=>?_;obtain⟨p',et,_,l1,l2⟩:=id TI;obtain⟨ps,hP,hG⟩:=R1.tabs (P,q,p') et;have hG':JX H1 q pos ps:=by
   rcases hG with g|⟨c,g1,g2⟩
   .exact .inl g
   .refine .inr ⟨c,?_,g2⟩;rw[g1];show #[rawInt p'.line,rawInt p'.col,Value.ref c]=_;rw[l1,l2]
  refine⟨a,ns,ps,rfl,sq,cc.1,hP,hG',λH2 c step hc=>?_⟩;obtain⟨R2,x2⟩:=S7 R1 hP step TI;have x12:=x1.trans R1 x2;refine Nx hb R2 (hL.ext hR x12) hc e4 λρ3 H3 ks x3 R3 r3=>?_;have x13:=x12.trans R2 x3;refine⟨kz,?_,λp ms hp out=>?_⟩
  .unfold EQ at e5;split at e5
   .next ns' e6=>
    cases e5;rw[FE e6]at r3;exact .inl r3.ints
   .split at e5
    .next ps' e6=>
     split at e5
     .next ok=>
      cases e5;rw[Gz e6]at r3;refine .inr ⟨ps',rfl,ok,by have:=r3.len;simp at this;omega,λi k p ek ep=>?_⟩;obtain⟨w,ew,rw_⟩:=r3.get (i:=i) (d:=BE p) (by rw[List.getElem?_map,ep];rfl);rw[ek]at ew;cases ew;exact Nb rw_
     .cases e5
    .cases e5
  .have lz:kz.length=ns.length:=by
    rw[P4 e5,KU e4]
   have:=TF cc.2 lz out;subst this;obtain⟨R4,x4⟩:=R3.hid (ho:=.lst ((FL kz ns).map V.int)) hp;exact hQ ρ3 _ p _ (x13.trans R3 x4) R4 (x13.none hR hp R3) (R3.out hp) AJ Fu
 .cases hm
end
structure LamC(K:PySem.W.Frag)(mg:Str->Option Value)(base:Heap)(fd:FuncData)(c P:Addr)(q:Str)(pos:Pos):Prop where
 code:fd.code=.ref c
 hd:CodeHd base c P
 bl:base.BuiltinsAt mg P
 ti:LK K P q pos
structure QSrc(K:PySem.W.Frag)(X:Cx)(e:Expr)(te:TE)(src:Ls->Hd->Option (List Int×Hd)):Prop where
 p:PE X e te
 r:Tx K te src
def Sl(K:PySem.W.Frag){X:Cx}{a:Expr}{t:TA}{m:MA}{p2 pos2:Pos}(hm2:X.mg "range"=none)(ha:QA K X [a] t m)(hg2:Gl X "range":=by rfl)(he2:starEach [a] X.env=[(false,eval a X.env)]:=by rfl):QSrc K X (.Call (.Name "range" p2) [a] [] pos2) (tCB QV t) (LI m):=
 ⟨EL (call_rng1.or Rc) hg2 hm2 boot_range ha.p (by decide) (by decide) he2 rfl,Up ha.r⟩
def So(K:PySem.W.Frag){src:Ls->Hd->Option (List Int×Hd)}{X:Cx}{c P:Addr}{scope:Scope}{fr:List Str}{ix:List Nat}{prm:Str}{params:Arguments}{body e:Expr}{p pos lpos kpos:Pos}{te tb:TE}{mb:ME}{k:Nat}(LA:LamAt X c P)(TI:LK K P (X.env.qual++"<lambda>") lpos)(S:CSc X scope fr ix)(L:LSc scope prm)(hr:Room k X.A)(h3:3<=k)(hm:X.mg "sorted"=none)
 (he:QSrc K X e te src) (hb:∀(f:Addr) (cd:Value) (s:Shared) (H:Hp),QE K (lCx X X.A.in1.in1 (prm::fr) (X.env.qual++"<lambda>") scope f cd (Al X.env.cells scope.names []) s H) body tb mb)
 (hbind:∀(cl:List (Str×Addr)) (pm cd ctv us:Value),bindArgs (kla_fn "<lambda>" (X.env.qual++"<lambda>") params body scope cl pm cd ctv) ⟨[us],[]⟩=pure [(prm,us)])
 (hcm:X.calm=true:=by rfl) (hg:Gl X "sorted":=by rfl) (hdef:defaultsOf params X.env=([],[]):=by rfl) (hs:starEach [e] X.env=[(false,eval e X.env)]:=by rfl) (hK:X.K=K:=by rfl):
 QN K X (.Call (.Name "sorted" p) [e] [⟨some "key",.Lambda params body scope lpos,kpos⟩] pos) (Ir K P (X.env.qual++"<lambda>") lpos ix te tb) (EN src ix mb):=by
 subst hK;exact⟨TC LA S L (hr.mono h3) hcm hg hm hbind he.p (λf cd s H=>(hb f cd s H).p) hdef hs,SV he.r (hb 0 .none X.s₀ X.H₀).r TI⟩
def TJ{P:Program}{w:World}{K:PySem.W.Frag}{mg:Str->Option Value}{base:Heap}{x:Str}{st:Stmt}{f:Addr}{fd:FuncData}{N ps:List Str}{j:Nat}{m:MS}(DA:DefAt K mg x st f fd ps)(S:FnScope N ps (AB st))
 (h:∀(cdv:Value) (A:Around) (outer:List Env) (s:Shared) (H:Hp) (E:XK),fd.code=cdv->Room j (A.deeper (envOfC x (AB st) s.heap.objs.size f cdv))->∃t,QSs K (DY CX0 P w K mg base N x (AB st) f cdv A outer s H E).nox (B9 st) t m):
 FnOk P w K mg base CX0 (j+1) f fd ps (spF K ps.length (mkF ps.length N.length m)):=by
 obtain⟨F,hmg,bd⟩:=DA;obtain⟨⟨oc,od,kV,doc,pm,an,cdv,ct,osl,rfl,lk,hcd⟩,kp⟩:=F;refine PN lk hcd S (λvs H Q E h=>h.1) λA outer s H vs Q E hr hs=>?_;obtain⟨t,q⟩:=h cdv A outer s H E rfl hr;exact⟨t,q.p.nox,NN q.r hs⟩
def OU(g:Int->Int)(ns:List Int):(FL (ns.map g) ns).Perm ns/\(FL (ns.map g) ns).Pairwise λa b=>g a<=g b:=by
 have pm:(((ns.map g).zip ns).mergeSort λa b=>decide (a.1<=b.1)).Perm ((ns.map g).zip ns):=mergeSort_perm ..;have pw:(((ns.map g).zip ns).mergeSort λa b=>decide (a.1<=b.1)).Pairwise λa b=>a.1<=b.1:=by
  have:=List.pairwise_mergeSort (le:=λa b:Int×Int=>decide (a.1<=b.1)) (by intro a b c h1 h2;simp at *;omega) (by intro a b;simp;omega) ((ns.map g).zip ns);exact this.imp (by simp)
 have ez:(ns.map g).zip ns=ns.map λn=>(g n,n):=by
  clear pm pw
  induction ns with
  |nil=>rfl
  |cons n r ih=>simp[ih]
 have el:∀a∈(((ns.map g).zip ns).mergeSort λa b=>decide (a.1<=b.1)),a.1=g a.2:=λa ha=>by
  have:=pm.mem_iff.mp ha;rw[ez]at this;obtain⟨n,_,rfl⟩:=mem_map.mp this;rfl
 refine⟨?_,?_⟩
 .have:=pm.map (·.2);unfold FL;refine this.trans ?_;rw[ez,map_map];have:((λx:Int×Int=>x.2) ∘ λn=>(g n,n))=id:=rfl;rw[this,List.map_id]
 .unfold FL;rw[pairwise_map];exact pw.imp_of_mem λ{a b} ha hb h=>by rw[<- el a ha,<- el b hb];exact h
def KS{mb:ME}{cap:Ls}{hd:Hd}(kf:Int->D):∀{ns:List Int},(∀n∈ns,mb (some (.im (.int n))::cap) hd=some (kf n,hd))->Eo mb cap hd ns=some (ns.map kf)
 |[],_=>rfl
 |n::r,h=>by
  unfold Eo;rw[h n mem_cons_self,KS kf λm hm=>h m (mem_cons_of_mem _ hm)];simp
def MV{ps:List (Int×Int)}(hne:ps≠[])(hok:∀p∈ps,pok p):EQ (ps.map BE)=some (ps.map Aj):=by
 unfold EQ;have:BG (ps.map BE)=none:=by
  cases ps with
  |nil=>exact absurd rfl hne
  |cons p r=>rfl
 rw[this,JF];simp only[if_pos hok]
def Qi{g:Int->Int}{ns:List Int}(nd:ns.Nodup)(h:∀a∈ns,∀b∈ns,g a=g b->a=b):(ns.map g).Nodup:=by
 rw[List.nodup_iff_pairwise_ne,pairwise_map];exact(List.nodup_iff_pairwise_ne.mp nd).imp_of_mem λ{a b} ha hb hne e=>hne (h a ha b hb e)
def S3{src:Ls->Hd->Option (List Int×Hd)}{mb:ME}{ix:List Nat}{ls:Ls}{hd:Hd}{QA:List D->Hd->Prop}(h:∃ns x,src ls hd=some (ns,x)/\∃(kf:Int->Int×Int),ns.length<64/\ns.Nodup/\(∀n∈ns,pok (kf n))/\(∀a∈ns,∀b∈ns,Aj (kf a)=Aj (kf b)->a=b)/\
 (∀n∈ns,mb (some (.im (.int n))::ix.map λi=>(ls[i]?).join) x=some (BE (kf n),x))/\∀ms:List Int,ms.Perm ns->ms.Pairwise (λa b=>Aj (kf a)<=Aj (kf b))->QA (ms.map λn=>.im (.int n)) x):WA (EN src ix mb) ls hd QA:=by
 obtain⟨ns,x,e,kf,h64,nd,ok,inj,ek,q⟩:=h;have e2:=KS (λn=>BE (kf n)) ek;by_cases hne:ns=[]
 .subst hne;refine⟨[],x,?_,q [] (.refl _) .nil⟩;simp[EN,e,BG,Eo,EQ,FL]
 .have e3:EQ (ns.map λn=>BE (kf n))=some (ns.map λn=>Aj (kf n)):=by
   have:=MV (ps:=ns.map kf) (by simpa using hne) (by simpa using ok);rw[map_map,map_map]at this;exact this
  have sp:=OU (λn=>Aj (kf n)) ns;refine⟨_,x,?_,q _ sp.1 sp.2⟩;simp only[EN,e,bind_some,e2,e3,h64,Qi nd inj,and_self,if_true]
def Pl{m:MA}{mb:ME}{ix:List Nat}{ls:Ls}{hd:Hd}{QA:List D->Hd->Prop}(h:WA m ls hd λds x=>∃n:Nat,ds=[.im (.int (n:Int))]/\n<64/\∃(kf:Int->Int×Int),(∀k,k<n->pok (kf k))/\(∀a,a<n->∀b,b<n->Aj (kf a)=Aj (kf b)->a=b)/\
 (∀k:Nat,k<n->mb (some (.im (.int k))::ix.map λi=>(ls[i]?).join) x=some (BE (kf k),x))/\∀ms:List Int,ms.Perm ((List.range n).map λk:Nat=>(k:Int))->ms.Pairwise (λa b=>Aj (kf a)<=Aj (kf b))->QA (ms.map λn=>.im (.int n)) x):WA (Nr m ix mb) ls hd QA:=by
 obtain⟨ds,x,e,n,rfl,hn,kf,ok,inj,ek,q⟩:=h;have mem:∀z∈(List.range n).map λk:Nat=>(k:Int),∃k:Nat,k<n/\z=k:=λz hz=>by
  obtain⟨k,hk,rfl⟩:=mem_map.mp hz;exact⟨k,by simpa using hk,rfl⟩
 refine S3 ⟨(List.range n).map λk:Nat=>(k:Int),x,?_,kf,by simpa using hn,?_,λz hz=>?_,λy hy z hz=>?_,λz hz=>?_,q⟩
 .have c:(0:Int)<=n/\(n:Int)<64:=by omega
  simp only[LI,e,bind_some,if_pos c,toNat_natCast]
 .rw[List.nodup_iff_pairwise_ne,pairwise_map];exact(List.nodup_iff_pairwise_ne.mp List.nodup_range).imp λh=>by omega
 .obtain⟨k,hk,rfl⟩:=mem z hz;exact ok k hk
 .obtain⟨k,hk,rfl⟩:=mem y hy;obtain⟨l,hl,rfl⟩:=mem z hz;intro e;rw[inj k hk l hl e]
 .obtain⟨k,hk,rfl⟩:=mem z hz;exact ek k hk
end L2
namespace HT
open PySem PyProof.Rows
def noFill_tuple_mul:fillsNumberSlot (.type "tuple") "mul"=pure false:=
 PySem.fillsNumberSlot_seq (id:="tuple.__mul__") (r:=some (.builtin "tuple.__rmul__")) F.slot_tuple_mul.lookup (by decide +kernel) F.slot_tuple_rmul.lookup (by decide +kernel)
def repeat_tuple:seqRepeat? (.type "tuple")=pure (some (.builtin "tuple.__mul__")):=by
 unfold seqRepeat?;rw[PySem.seqSlot_of (T:="tuple") (name:="__mul__") (id:="tuple.__mul__") F.slot_tuple_mul.lookup (by decide +kernel),PySem.seqSlot_of (T:="tuple") (name:="__rmul__") (id:="tuple.__rmul__") F.slot_tuple_rmul.lookup (by decide +kernel)];rfl
def int_rmul_tuple(a:Int)(t:Tok)(l:Addr)(items:Array Value)(n:Nat)(dd:Option Addr)(sl:Array (Option Value)):
 Meets (Builtin.«int.__rmul__» ⟨[.int a t,.ref l],[]⟩) (λ_ R s=>s.heap.get? l=some { cls:=.type "tuple",dict:=dd,data:=.seq items n,slots:=sl }/\R (.ok (.ret Value.notImplemented)) s):=
 .of_wp λprog w A R s h=>by obtain⟨hp,g,d,tk,os⟩:=s;obtain⟨hl,h⟩:=h;wp_walk;exact⟨_,rfl,h⟩
def tuple_mul(l:Addr)(items:Array Value)(n:Nat)(dd:Option Addr)(sl:Array (Option Value))(k:Int)(t:Tok)(h0:items.isEmpty=false)(hk:0<=k/\k<=1000)(hs:items.size*k.toNat<=100000):
 Meets (Builtin.«tuple.__mul__» ⟨[.ref l,.int k t],[]⟩) (λ_ R s=>s.heap.get? l=some { cls:=.type "tuple",dict:=dd,data:=.seq items n,slots:=sl }/\(k=1->R (.ok (.ret (.ref l))) s)/\(k≠1->R (.ok (.ret (.ref s.heap.objs.size))) { s with heap:=s.heap.push { cls:=.type "tuple",data:=.seq ((List.replicate k.toNat items).foldl (·++·) #[]) } })):=
 .of_wp λprog w A R s h=>by
  obtain⟨hp,g,d,tk,os⟩:=s;obtain⟨hl,h1,h2⟩:=h;have f1:=AutoSeq1.idx_int;have f2:=AutoSeq1.sub_tuple_tuple
  wp_walk using wpAny_loadPart' hl
  have c1:¬ (decide (k < -2^63)||decide (k>=2^63))=true:=by simp;omega
  rw[if_neg c1]
  wp_walk using wpAny_loadPart' hl
  by_cases k1:k=1
  .rw[if_pos (by simp[k1])]
   wp_walk using wpAny_loadPart' hl
   exact⟨_,rfl,h1 k1⟩
  .rw[if_neg (by simp[h0,k1])];have h2:=h2 k1;by_cases k0:k=0
   .rw[if_pos (by simp[k0])]
    wp_walk using wpAny_loadPart' hl
    subst k0;exact⟨_,rfl,h2⟩
   .have c2:¬ ((items.size:Int)*k>(2^63-1)/8):=by
     have e:(items.size:Int)*k=((items.size*k.toNat:Nat):Int):=by rw[Int.natCast_mul,Int.toNat_of_nonneg hk.1]
     rw[e];omega
    have c3:¬ Builtin.Tuple.tupleTooMany ((items.size:Int)*k)=true:=by
     have e:(items.size:Int)*k=((items.size*k.toNat:Nat):Int):=by rw[Int.natCast_mul,Int.toNat_of_nonneg hk.1]
     unfold Builtin.Tuple.tupleTooMany;rw[e,sizeLine_eq,decide_eq_true_eq];omega
    rw[if_neg (by simp[h0];omega)];dsimp only;rw[if_neg c2,if_neg c3];have hz:(List.foldl (λx1 x2=>x1++x2) #[] (List.replicate k.toNat items)).size<=sizeLine:=by
     have:∀(m:Nat) (a:Array Value),(List.foldl (λx1 x2=>x1++x2) a (List.replicate m items)).size=a.size+items.size*m:=by
      intro m
      induction m with
      |zero=>intro a;simp
      |succ m ih=>intro a;rw[replicate_succ,List.foldl_cons,ih,Array.size_append,Nat.mul_succ];omega
     rw[this,sizeLine_eq];simp;omega
    unfold Builtin.Tuple.tupleExact;refine wpAny_bind (wpAny_newObj_type ?_ hz);exact wpAny_pure ⟨_,rfl,h2⟩
end HT
namespace L2
open PySem PySem.Spec PyProof.Rows
section
variable{X:Cx}
def Oh(K:PySem.W.Frag):R2:=λx y H Q=>∃l k xs,x=.ref l/\y=.int k/\SqT K H l xs/\xs≠[]/\(0<=k/\k<=1000)/\xs.length*k.toNat<=100000/\(k=1->Q (.ref l) H)/\
 (k≠1->∀p,H p=none->Q (.ref p) (upd H p (.tup (List.replicate k.toNat xs).flatten)))
def WR(K:PySem.W.Frag)(hK:X.K=K:=by rfl):OpR X (binaryOp .Mult) (Oh K):=by
 subst hK;intro pins s σ H x y v u Q I rx ry h;obtain⟨l,k,xs,rfl,rfl,hH,hne,hk,hz,q1,q2⟩:=h;cases rx;obtain⟨t,rfl⟩:=ry;obtain⟨its,r,p,_⟩:=I.tuple hH;obtain⟨⟨cls,dd,data,sl⟩,ho,hc,n,hd⟩:=id p;simp only at hc hd;subst hc hd;have ht:s.TypeIs (.ref l) "tuple":=⟨_,ho,rfl⟩
 have hn:its≠[]:=λz=>hne (r.nil_iff.mp z);have hl:its.length=xs.length:=r.length.symm;refine wpAny_binaryOp_repeat_ref (T:="tuple") (U:="int") (by decide) ht (λs'=>typeIs_int s' k t) HT.noFill_tuple_mul F.fills_int_mul F.slot_int_rmul HT.repeat_tuple F.slot_int_index.lookup
  (call_meets F.slot_int_rmul (typeIs_int s k t) F.entry_int_rmul (F.args_int_rmul_2 _ _) (HT.int_rmul_tuple k t l its.toArray n dd sl)
   ⟨ho,rfl,ht,call_meets F.slot_tuple_mul ht F.entry_tuple_mul (F.args_tuple_mul_2 _ _) (HT.tuple_mul l its.toArray n dd sl k t (by cases its with|nil=>exact absurd rfl hn|cons a r=>rfl) hk (by rw[size_toArray,hl];exact hz)) ⟨ho,λe=>?_,λe=>?_⟩⟩)
 .exact⟨.ref l,H,I,rfl,q1 e⟩
 .have f0:=HN its k.toNat []
  rw[nil_append]at f0;rw[f0];refine⟨.ref s.heap.objs.size,_,I.laid (t':=s.toks) (o:=.tup (List.replicate k.toNat xs).flatten) (λb ob q=>Heap.get?_push_of_some _ q) (le_refl _) ?_,rfl,q2 e _ (I.hok.fresh (le_refl _))⟩;exact⟨by rw[Nv,sizeLine_eq,Nat.mul_comm];omega,_,r.rep k.toNat,IsTupD.new _ _⟩
end
section
variable{K:PySem.W.Frag}
def Ho(ma mb:ME):ME:=λls hd=>(ma ls hd).bind λp=>(mb ls p.2).bind λq=>match p.1,q.1 with
 |.im (.tup is),.im (.int k)=>if is≠[]/\(0<=k/\k<=1000)/\is.length*k.toNat<=100000 then some (.im (.tup (List.replicate k.toNat is).flatten),q.2)else none
 |_,_=>none
def VG{ta tb:TE}{ma mb:ME}(ha:RE K ta ma)(hb:RE K tb mb):RE K (tOp (Oh K) ta tb) (Ho ma mb):=by
 and_intros;obtain⟨⟨d1,h1⟩,e1,hm⟩:=c5 hm;obtain⟨⟨d2,h2⟩,e2,hm⟩:=c5 hm;dsimp only at hm;split at hm
 .next is k _=>
  split at hm
  .next c=>
   cases hm;refine ha ρ σ H hd ls _ _ h1 hR hL e1 λρ1 H1 v1 x1 R1 r1=>?_;refine hb ρ1 σ H1 h1 ls _ _ _ R1 (hL.ext hR x1) e2 λρ2 H2 v2 x2 R2 r2=>?_;simp only[RD,RI]at r2;subst r2;have r1:=r1.ext R1 x2;obtain⟨a,xs,rfl,sq,rs⟩:=r1.tup (ds:=is.map D.im) rfl;have hl:xs.length=is.length:=by have:=rs.len;simpa using this
   refine⟨a,k,xs,rfl,rfl,sq,λz=>c.1 (List.length_eq_zero_iff.mp (by rw[<- hl,z];rfl)),c.2.1,by rw[hl];exact c.2.2,λe=>?_,λe p hp=>?_⟩
   .subst e;refine hQ ρ2 H2 _ (x1.trans R1 x2) R2 ?_;simpa using r1
   .obtain⟨R3,x3⟩:=R2.hid (ho:=.tup (List.replicate k.toNat xs).flatten) hp;refine hQ ρ2 _ _ ((x1.trans R1 x2).trans R2 x3) R3 ?_;have e3:D.im (.tup (List.replicate k.toNat is).flatten)=Ag ((List.replicate k.toNat is).flatten.map D.im):=(Bi _).symm;rw[e3];refine BW (SqT.of AJ) ?_;have:=((rs.rep k.toNat).ext R2 x3)
    have e4:(List.replicate k.toNat is).flatten.map D.im=(List.replicate k.toNat (is.map D.im)).flatten:=by rw[List.map_flatten,List.map_replicate]
    rw[e4];exact this
  .cases hm
 .cases hm
def Vr(K:PySem.W.Frag){X:Cx}{a b:Expr}{ta tb:TE}{ma mb:ME}{pos:Pos}(ha:QE K X a ta ma)(hb:QE K X b tb mb)(hK:X.K=K:=by rfl):QE K X (.BinOp a .Mult b pos) (tOp (Oh K) ta tb) (Ho ma mb):=⟨LF (WR K hK) ha.p hb.p,VG ha.r hb.r⟩
def Uh{ma mb:ME}{ls:Ls}{hd:Hd}{QE:D->Hd->Prop}(h:WE ma ls hd λd x=>WE mb ls x λe y=>∃is k,d=.im (.tup is)/\e=.im (.int k)/\is≠[]/\(0<=k/\k<=1000)/\is.length*k.toNat<=100000/\QE (.im (.tup (List.replicate k.toNat is).flatten)) y):WE (Ho ma mb) ls hd QE:=by
 obtain⟨d,x,e1,e,y,e2,is,k,rfl,rfl,c1,c2,c3,q⟩:=h;exact⟨_,_,by simp only[Ho,e1,bind_some,e2];rw[if_pos ⟨c1,c2,c3⟩],q⟩
end
end L2
namespace HT
open PySem PyProof.Rows
open PySem.AutoSeq1 (wpAny_loadPart')
section
variable{prog:Program}{w:World}{A:Around}{E:Value->Shared->Prop}{s:Shared}
def JG{it t:Addr}{i:Nat}{items:Array Value}{x:Value}{Q:Value->Shared->Prop}(hit:s.heap.IsTupleIter it t i)(ht:s.heap.IsTuple t items)(hx:items[i]?=some x)
 (hQ:∀h',h'.IsTupleIter it t (i+1)->Heap.SameBut it s.heap h'->Q x { s with heap:=h' }):wpAny (model prog w) A (Builtin.SmallTypes.nextOf (.ref it)) Q E s:=by
 obtain⟨o,ho,hc,hd⟩:=id hit;obtain⟨ol,hol,_,nl,hdl⟩:=ht;unfold Builtin.SmallTypes.nextOf;refine wpAny_bind (wpAny_callSpecial?_slot (name:=Str.ofString "__next__") hit.typeIs F.slot_tuple_iterator_next
  (wpAny_call_entry F.slot_tuple_iterator_next hit.typeIs F.entry_tuple_iterator_next ?_ (F.args_tuple_iterator_next_1 _)))
 show wpAny _ _ (field (.ref it) 0 >>= _) _ _ s;refine wpAny_bind (wpAny_field ho hd (x:=.ref t) rfl ?_);show wpAny _ _ (if(Value.ref t==Value.none)=true then _ else _) _ _ s;rw[if_neg (show ¬ ((Value.ref t==Value.none)=true)from Bool.false_ne_true)];show wpAny _ _ (field (.ref it) 1 >>= _) _ _ s;refine wpAny_bind (wpAny_field ho hd (x:=.int i 0) rfl ?_);show wpAny _ _ (seqItems? (.ref t) >>= _) _ _ s;refine wpAny_bind (wpAny_seqItems hol hdl ?_);simp only[toNat_natCast,hx];refine wpAny_bind (wpAny_setField ho hd (by simp) (wpAny_pure ⟨x,rfl,wpAny_pure (hQ _ ?_ (Heap.SameBut.update ..))⟩));exact⟨_,Heap.get?_update_self _ ho (Obj.isFreed_of_fields (Obj.data_mapFields hd _)),(Obj.cls_mapFields ..).trans hc,by rw[Obj.data_mapFields hd];simp[rawInt]⟩
def Jw{it t:Addr}{i:Nat}{items:Array Value}{Q:Value->Shared->Prop}(hh:A.handled=none)(hit:s.heap.IsTupleIter it t i)(ht:s.heap.IsTuple t items)(hx:items[i]?=none)
 (hE:∀h' e,Heap.ExtBut it s.heap h'->(∃o,h'.get? e=some o/\o.cls=.type "StopIteration")->E (.ref e) { s with heap:=h' }):wpAny (model prog w) A (Builtin.SmallTypes.nextOf (.ref it)) Q E s:=by
 obtain⟨o,ho,hc,hd⟩:=id hit;obtain⟨ol,hol,_,nl,hdl⟩:=ht;unfold Builtin.SmallTypes.nextOf;refine wpAny_bind (wpAny_callSpecial?_slot (name:=Str.ofString "__next__") hit.typeIs F.slot_tuple_iterator_next
  (wpAny_call_entry F.slot_tuple_iterator_next hit.typeIs F.entry_tuple_iterator_next ?_ (F.args_tuple_iterator_next_1 _)))
 show wpAny _ _ (field (.ref it) 0 >>= _) _ _ s;refine wpAny_bind (wpAny_field ho hd (x:=.ref t) rfl ?_);show wpAny _ _ (if(Value.ref t==Value.none)=true then _ else _) _ _ s;rw[if_neg (show ¬ ((Value.ref t==Value.none)=true)from Bool.false_ne_true)];show wpAny _ _ (field (.ref it) 1 >>= _) _ _ s;refine wpAny_bind (wpAny_field ho hd (x:=.int i 0) rfl ?_);show wpAny _ _ (seqItems? (.ref t) >>= _) _ _ s;refine wpAny_bind (wpAny_seqItems hol hdl ?_);simp only[toNat_natCast,hx];refine wpAny_bind (wpAny_rule (wpAny_bind (wpAny_setField ho hd (by simp) ?_)));show wpAny _ _ (newExc (.type "StopIteration") [] >>= _) _ _ _;refine wpAny_bind ?_;simp only[newExc,newTuple];refine wpAny_bind (wpAny_newObj_type ?_ (by size_fits));refine wpAny_bind (m:=firstArgMember _ _) (wpAny_of_eq (a:=Value.none) (by first|rfl|(simp only[firstArgMember];rfl)) ?_);refine wpAny_newObj_type ?_ (by size_fits);simp only[raiseNew];refine wpAny_bind (wpAny_handled ?_)
 first|rw[show A.in1.handled=none from hh]|rw[hh]
 refine wpAny_bind (wpAny_pure (wpAny_throw ?_));exact hE _ _ (((Heap.SameBut.update ..).extBut.push _).push _) ⟨_,Heap.get?_push_size _ rfl,rfl⟩
def drawsT(hh:A.handled=none)(it t:Addr)(hne:t≠it)(items:Array Value):
 Draws prog w A it [it,t] items.size (λi v=>items[i]?=some v) (λi h=>h.IsTupleIter it t i/\h.IsTuple t items) where
 live:=λ_ _ st=>let ⟨o,ho,_⟩:=st.1;⟨o,ho⟩
 frame:=λ_ _ _ st hk=>⟨let ⟨o,ho,r⟩:=st.1;⟨o,hk it (by simp) o ho,r⟩,let ⟨o,ho,r⟩:=st.2;⟨o,hk t (by simp) o ho,r⟩⟩
 item:=λi s Q E hi st hQ=>by
  refine JG st.1 st.2 (x:=items[i]) (by simp[hi]) λh' hit' hs'=>?_;exact hQ _ h' s.toks (by simp[hi]) ⟨hit',st.2.extBut hs'.extBut hne⟩ hs'
 done:=λs Q E st hE=>Jw hh st.1 st.2 (by simp) hE
end
def RO(l:Addr)(items:Array Value)(n:Nat)(dct:Option Addr)(sl:Array (Option Value)):
 Meets (Builtin.«enumerate.__new__» ⟨[.type "enumerate",.ref l],[]⟩) (λ_ R s=>s.heap.get? l=some { cls:=.type "tuple",dict:=dct,data:=.seq items n,slots:=sl } /\
  R (.ok (.ret (.ref (s.heap.push { cls:=.type "tuple_iterator",data:=.fields #[.ref l,.int 0 0] }).objs.size)))
   { s with heap:=(s.heap.push { cls:=.type "tuple_iterator",data:=.fields #[.ref l,.int 0 0] }).push { cls:=.type "enumerate",data:=.fields #[.none,.bool false,.ref s.heap.objs.size,rawInt 0,.none,.none] } }):=
 .of_wp λprog w A R s h=>by
  obtain⟨hp,g,d,tk,os⟩:=s;obtain⟨hl,h⟩:=h;have hsub:=sub_enumerate;have hL:Heap.IsTuple (Shared.heap ⟨hp,g,d,tk,os⟩) l items:=⟨_,hl,rfl,n,rfl⟩
  wp_walk using wpAny_loadPart' hl
  refine wpAny_stack_any λst=>wpAny_pure ?_;split
  .rename_i c _ _ _ _ _
   cases(c==Value.type "enumerate")
   .wp_walk using wpAny_loadPart' hl,wpAny_pyIter_tuple hL
    exact⟨_,rfl,h⟩
   .wp_walk using wpAny_loadPart' hl,wpAny_pyIter_tuple hL
    exact⟨_,rfl,h⟩
  .wp_walk using wpAny_loadPart' hl,wpAny_pyIter_tuple hL
   exact⟨_,rfl,h⟩
def call_enumT{prog:Program}{w:World}{A:Around}{E:Value->Shared->Prop}{s:Shared}{l:Addr}{items:Array Value}{Q:Value->Shared->Prop}(hL:IsTup s.heap l items)
 (h:∀h',IsEnum h' (s.heap.objs.size+1) s.heap.objs.size 0 .none->h'.IsTupleIter s.heap.objs.size l 0->h'.objs.size=s.heap.objs.size+2 ->
  (∀b o,s.heap.get? b=some o->h'.get? b=some o)->Q (.ref (s.heap.objs.size+1)) { s with heap:=h' }):
 wpAny (model prog w) A (call (.type "enumerate") [.ref l]) Q E s:=by
 obtain⟨⟨c,dct,dt,sl⟩,hl,hc,n,hd⟩:=hL
 replace hc:c=.type "tuple":=hc
 replace hd:dt=.seq items n:=hd
 subst hc hd;refine callType_new F.called_enumerate (by decide) (F.typeCall_enumerate_1 _) (F.newCall_enumerate_1 _) (λobj=>F.args_object_init_2 obj _) F.entry_enumerate_new
  (RO l items n dct sl) ⟨hl,?_⟩
 have hz:(s.heap.push { cls:=.type "tuple_iterator",data:=.fields #[.ref l,.int 0 0] }).objs.size=s.heap.objs.size+1:=Heap.size_push ..;show _/\_;rw[hz];have he:IsEnum ((s.heap.push { cls:=.type "tuple_iterator",data:=.fields #[.ref l,.int 0 0] }).push
  { cls:=.type "enumerate",data:=.fields #[.none,.bool false,.ref s.heap.objs.size,rawInt 0,.none,.none] }) (s.heap.objs.size+1) s.heap.objs.size 0 .none:=by
  have:=Heap.get?_push_size (s.heap.push { cls:=.type "tuple_iterator",data:=.fields #[.ref l,.int 0 0] })
   (o:={ cls:=.type "enumerate",data:=.fields #[.none,.bool false,.ref s.heap.objs.size,rawInt 0,.none,.none] }) rfl
  rw[hz]at this;exact this
 refine⟨⟨_,he,rfl⟩,h _ he ⟨_,Heap.get?_push_of_some _ (Heap.get?_push_size _ rfl),rfl,rfl⟩ (by rw[Heap.size_push,hz]) λb o x=>Heap.get?_push_of_some _ (Heap.get?_push_of_some _ x)⟩
end HT
namespace L2
open PySem PySem.Spec PyProof.Rows
structure ETt(h:Heap)(e it l:Addr)(i:Nat):Prop where
 e:∃old,IsEnum h e it i old
 r:h.IsTupleIter it l i
def ItT(K:PySem.W.Frag)(a:Addr):It:=
 ⟨λi H=>∃xs x,SqT K H a xs/\xs[i]?=some x,
  λi H x H'=>∃p v,H p=none/\H'=upd H p (.tup [.int (i:Int),v])/\x=.ref p/\∀xs,SqT K H a xs->xs[i]?=some v,
  λi H=>∃xs,SqT K H a xs/\xs.length=i⟩
def OG{P:Program}{w:World}{K:PySem.W.Frag}{elts:List Expr}{kk:Nat}{tpos:Pos}{e it l:Addr}(ne:e≠it)(nl:l≠it)(nle:e≠l):Turn P w K (.Tuple elts kk tpos) (ItT K l) [e,it] e (λi h=>ETt h e it l i) where
 mem:=by simp
 obj:=λi h st c hc=>by
  obtain⟨⟨old,he⟩,hr⟩:=st;simp only[mem_cons,not_mem_nil,or_false]at hc;rcases hc with rfl|rfl
  .exact⟨_,he,λv z=>by cases(show Data.fields _=Data.cell v from z)⟩
  .obtain⟨o,q,_,d⟩:=hr;exact⟨o,q,λv z=>by rw[d]at z;cases z⟩
 keep:=λi h h' st k=>by
  obtain⟨⟨old,he⟩,o,q,r⟩:=st;exact⟨⟨old,k e (by simp) _ he⟩,o,k it (by simp) _ q,r⟩
 item:=by
  intro X hP hw hK hc i pins s σ H E I hf st hg;subst hP hw hK;obtain⟨xs,x,h1,hx⟩:=hg;obtain⟨its,r,pl,hz⟩:=I.tuple h1;obtain⟨u,hu,ru⟩:=r.get hx;obtain⟨⟨old,he⟩,hr⟩:=st;have hlt:i<its.toArray.size:=by
   have:=(List.getElem?_eq_some_iff.mp hu).1;simpa using this
  have hd:X.A.in1.handled=none:=I.ok.hd hc;refine wpAny_pyNext_enum_itemD (HT.drawsT hd it l nl its.toArray) he ⟨hr,pl⟩ hlt ne (by simp;exact⟨ne,nle⟩) λx' g tk hx' ho hr' ht hsz kp=>⟨_,rfl,?_⟩
  have ex:x'=u:=by
   have hx':its.toArray[i]?=some x':=hx';rw[List.getElem?_toArray,hu]at hx';exact(Option.some.inj hx').symm
  subst ex;refine wpAny_letOwnedTupleGo_enum ho λg' e' sb=>?_;have hle:e<s.heap.objs.size:=Heap.lt_size he;have kp2:∀c o,c∉[e,it]->s.heap.get? c=some o->g'.get? c=some o:=λc o nc q=>by
   simp only[mem_cons,not_mem_nil,or_false,not_or]at nc;exact sb.extBut _ _ nc.1 (kp c o nc.1 nc.2 q)
  have hT:s.heap.objs.size≠e:=ne_of_gt hle;have hpair:g'.get? s.heap.objs.size=some { cls:=.type "tuple",data:=.seq #[.int i tk,x'] }:=sb.extBut _ _ hT ht;have fresh:H s.heap.objs.size=none:=I.hok.fresh (le_refl _);have I2:Inv X pins σ (upd H s.heap.objs.size (.tup [.int (i:Int),x])) { s with heap:=g',toks:=tk+1 }:=I.turnsL (tk:=tk+1) (o:=.tup [.int (i:Int),x]) kp2 hf (le_refl _)
   (show ObjOk X.prog X.w _ g' _ (.tup [.int (i:Int),x])from⟨by show 2<=sizeLine;decide,[.int i tk,x'],.cons ⟨_,rfl⟩ (.cons ru .nil),⟨_,hpair,rfl,⟨_,rfl⟩,rfl⟩⟩)
  refine⟨.ref s.heap.objs.size,_,I2,rfl,⟨s.heap.objs.size,x,fresh,rfl,rfl,λxs' q=>by rw[I.tuple_inj q h1];exact hx⟩,⟨⟨x',?_⟩,?_⟩,λc hc=>?_⟩
  .have:=e';rw[show((i:Int)+1)=((i+1:Nat):Int) by omega]at this;exact this
  .exact hr'.1.extBut sb.extBut (Ne.symm ne)
  .have lt:c<s.heap.objs.size:=by
    simp only[mem_cons,not_mem_nil,or_false]at hc;rcases hc with rfl|rfl
    .exact hle
    .obtain⟨o,q,_⟩:=hr;exact Heap.lt_size q
   rw[AC (ne_of_lt lt)];exact(hf c hc).1
 done:=by
  intro X hP hw hK hc i pins s σ H E I hf st hg;subst hP hw hK;obtain⟨xs,h1,hend⟩:=hg;obtain⟨its,r,pl,hz⟩:=I.tuple h1;have l1':=r.length;obtain⟨⟨old,he⟩,hr⟩:=st;have hd:X.A.in1.handled=none:=I.ok.hd hc;have en:i=its.toArray.size:=by simp;omega
  subst en;refine wpAny_pyNext_enum_endD (HT.drawsT hd it l nl its.toArray) he ⟨hr,pl⟩ λg x=>⟨rfl,?_⟩
  exact I.turns (tk:=s.toks) (λc o nc q=>by
   simp only[mem_cons,not_mem_nil,or_false,not_or]at nc;exact x c o nc.2 q) hf
 self:=λ_ _ _ _ _ st h=>by
  obtain⟨⟨old,he⟩,hr⟩:=st;exact wpAny_pyIter_enum he h
def Mb(K:PySem.W.Frag)(ta:TA):TI:=λσ H R=>ta σ H λvs H1=>∃a xs,vs=[.ref a]/\SqT K H1 a xs/\R (ItT K a) H1
def T8(K:PySem.W.Frag){X:Cx}{a:Expr}{ta:TA}{elts:List Expr}{kk:Nat}{tpos p pos:Pos}(hg:Gl X "enumerate")(hm:X.mg "enumerate"=none)(ha:PA X [a] ta)(hK:X.K=K:=by rfl)(hs:starEach [a] X.env=[(false,eval a X.env)]:=by rfl):
 PI X (.Tuple elts kk tpos) (.Call (.Name "enumerate" p) [a] [] pos) (Mb K ta):=by
 subst hK;intro pins s σ H R I h;refine Call_ (D0 I hg hm EA (PyProof.Rows.callWith_type1 (thn (ha pos pins s σ H _ I h) λus s1 ⟨vs,H1,I1,r1,q1⟩=>?_) hs rfl));obtain⟨l,xs,e,c,q⟩:=q1;subst e;obtain⟨u,rfl,ru⟩:=r1.one;cases ru;obtain⟨its,r,pl,hz⟩:=I1.tuple c;have ll:l<s1.heap.objs.size:=by obtain⟨o,ho,_⟩:=pl;exact Heap.lt_size ho
 refine HT.call_enumT pl λg he hr hsz kp=>wpAny_pyIter_enum he ?_;refine⟨_,_,_,_,H1,rfl,I1.kept (t':=s1.toks) kp,OG (ne_of_gt (Nat.lt_succ_self _)) (ne_of_lt ll) (ne_of_gt (lt_succ_of_lt ll)),⟨⟨_,he⟩,hr⟩,λc hc=>?_,q⟩;simp only[mem_cons,not_mem_nil,or_false]at hc;have le:s1.heap.objs.size<=c:=by
  rcases hc with rfl|rfl
  .exact le_add_right _ _
  .exact le_refl _
 exact I1.fpOk le (I1.hok.fresh le)
def SX{K:PySem.W.Frag}{ta:TE}{ma:MI}(ha:RRw K true ta ma):RIt K (Mb K (BM ta CI)) (Bg ma):=by
 intro ρ σ H hd ls Q d g hd' hR hL hm hQ;obtain⟨⟨⟨d1,g1⟩,h1⟩,e1,e2⟩:=c7 hm;cases e2;refine ha ρ σ H hd ls _ d1 g1 h1 hR hL e1 λρ1 H1 a x1 R1 G1 S1=>?_;obtain⟨xs,c1,r1⟩:=S1 ρ1 H1 _ .refl R1 G1;refine⟨a,xs,rfl,c1,hQ ρ1 H1 _ x1 R1 G1 ?_⟩;intro ρ3 H3 hd3 x3 R3 G3 i;obtain⟨xs,c1,r1⟩:=S1 ρ3 H3 _ x3 R3 G3;have l1:=r1.len;refine⟨λhi=>?_,λhi=>⟨xs,c1,?_⟩⟩
 .have hi:i<d1.length:=by simpa using hi
  have i1:d1[i]?=some (d1[i]'hi):=List.getElem?_eq_getElem _;obtain⟨x,x4,x5⟩:=r1.get i1;refine⟨⟨xs,x,c1,x4⟩,λz H4 hz=>?_⟩;obtain⟨p,v,fp,rfl,rfl,hv⟩:=hz;have ev:=hv xs c1;rw[x4]at ev;cases ev;obtain⟨R4,x6⟩:=R3.hid (ho:=.tup [.int (i:Int),x]) fp;refine⟨ρ3,Ag [.im (.int (i:Int)),d1[i]'hi],x6,rfl,R4,?_,BW (SqT.of AJ) (.cons (by simp[RD,RI]) (.cons (x5.ext R3 x6) .nil))⟩;simp[i1]
 .have hi:i=d1.length:=by simpa using hi
  omega
def Sr(K:PySem.W.Frag){X:Cx}{a:Expr}{ta:TE}{ma:MI}{elts:List Expr}{kk:Nat}{tpos p pos:Pos}(hm:X.mg "enumerate"=none)(ha:QR K true X a ta ma)(hg:Gl X "enumerate":=by rfl)(hK:X.K=K:=by rfl)(hs:starEach [a] X.env=[(false,eval a X.env)]:=by rfl):
 QI K X (.Tuple elts kk tpos) (.Call (.Name "enumerate" p) [a] [] pos) (Mb K (BM ta CI)) (Bg ma):=⟨T8 K hg hm (CA ha.p Cv hs) hK hs,SX ha.r⟩
end L2
namespace HS
open PySem PyProof.Rows
open PySem.AutoSeq1 (wpAny_loadPart')
open Sem (wp)
abbrev st(t:Tok):List (Str×Value):=[(Str.ofString "start",.int 1 t)]
section
variable{prog:Program}{w:World}{A:Around}{E:Value->Shared->Prop}{s:Shared}
def tcS(a b:Value):checkTypeCall "enumerate" ⟨[a],[(Str.ofString "start",b)]⟩=pure ():=by kernel_rfl
def ncS(a b:Value):checkBuiltinCall "enumerate.__new__" ⟨[.type "enumerate",a],[(Str.ofString "start",b)]⟩=pure ():=by kernel_rfl
def aiS(a b c:Value):argsOk "object.__init__" ⟨[a,b],[(Str.ofString "start",c)]⟩:=by
 unfold argsOk;rw[signature?_of (id:="object.__init__") (n:=['_','_','t','i','n','i','_','_']) (o:=['t','c','e','j','b','o']) (by kernel_rfl) F.owner_object];kernel_rfl
def RP(l:Addr)(items:Array Value)(n:Nat)(t:Tok)(dct:Option Addr)(sl:Array (Option Value)):
 Meets (Builtin.«enumerate.__new__» ⟨[.type "enumerate",.ref l],st t⟩) (λ_ R s=>s.heap.get? l=some { cls:=.type "list",dict:=dct,data:=.seq items n,slots:=sl } /\
  R (.ok (.ret (.ref (s.heap.push { cls:=.type "list_iterator",data:=.fields #[.ref l,.int 0 0] }).objs.size)))
   { s with heap:=(s.heap.push { cls:=.type "list_iterator",data:=.fields #[.ref l,.int 0 0] }).push { cls:=.type "enumerate",data:=.fields #[.none,.bool false,.ref s.heap.objs.size,rawInt 1,.none,.none] } }):=
 .of_wp λprog w A R s h=>by
  obtain⟨hp,g,d,tk,os⟩:=s;obtain⟨hl,h⟩:=h;have hsub:=sub_enumerate;have hL:Heap.IsList (Shared.heap ⟨hp,g,d,tk,os⟩) l items:=⟨_,hl,rfl,n,rfl⟩
  wp_walk using wpAny_loadPart' hl
  refine wpAny_stack_any λst=>wpAny_pure ?_;split
  .rename_i c _ _ _ _ _
   cases(c==Value.type "enumerate")
   .wp_walk using wpAny_loadPart' hl,wpAny_pyIter_list hL
    exact⟨_,rfl,h⟩
   .wp_walk using wpAny_loadPart' hl,wpAny_pyIter_list hL
    exact⟨_,rfl,h⟩
  .wp_walk using wpAny_loadPart' hl,wpAny_pyIter_list hL
   exact⟨_,rfl,h⟩
def be{T id:String}{x a b:Value}(hl:typeLookup (.type T) "__init__"=pure (some (.builtin "object.__init__")))(hm:Bind.madeBy (.type T)=pure (some id))(hne:(some id != some "object.__new__")=true):
 Meets (Builtin.«object.__init__» ⟨[x,a],[(Str.ofString "start",b)]⟩) (λ_ R s=>s.TypeIs x T/\R (.ok (.ret .none)) s):=by
 refine Meets.of_wp λprog w A R s hs=>?_;obtain⟨hT,hq⟩:=hs
 repeat (any_goals (first|assumption|wp_step))
 exact⟨_,rfl,hq⟩
def call_enumS{l:Addr}{items:Array Value}{t:Tok}{Q:Value->Shared->Prop}(hL:s.heap.IsList l items)
 (h:∀h',IsEnum h' (s.heap.objs.size+1) s.heap.objs.size 1 .none->h'.IsListIter s.heap.objs.size l 0->h'.objs.size=s.heap.objs.size+2->(∀b o,s.heap.get? b=some o->h'.get? b=some o)->Q (.ref (s.heap.objs.size+1)) { s with heap:=h' }):
 wpAny (model prog w) A (call (.type "enumerate") [.ref l] (st t)) Q E s:=by
 obtain⟨⟨c,dct,dt,sl⟩,hl,hc,n,hd⟩:=hL
 replace hc:c=.type "list":=hc
 replace hd:dt=.seq items n:=hd
 subst hc hd;have ft:=F.called_enumerate;obtain⟨c,tl,hmro⟩:=ft.mro;have hmade:=ft.made;have hsub:=ft.sub;refine wpAny_call (codeAny_of_tree ?_);show wpAny _ _ (callAny (.type "enumerate") _) _ _ _;refine wpAny_pure ⟨Code.quiet_builtin _ (by decide +kernel),codeAny_builtin F.entry_type_call ?_⟩;rw[Around.under_plain (weight_type_call_type "enumerate" [.ref l] (st t)) (units_type_call_type "enumerate" [.ref l] (st t))];have h1:=ft.notType;have h2:=ft.canCreate;have hct:=tcS (.ref l) (.int 1 t);have hcn:=ncS (.ref l) (.int 1 t)
 repeat (any_goals (first|assumption|wp_step))
 refine codeAny_mono (codeAny_call_builtin ft.plain F.entry_enumerate_new (wpAny_of_eq hcn (RP l items n t dct sl prog w A.in1 (wants (λobj s₁=>s₁.TypeIs obj "enumerate"/\Q obj s₁) E) s ⟨hl,?_⟩))) λr s₁ hr=>?_
 .have hz:(s.heap.push { cls:=.type "list_iterator",data:=.fields #[.ref l,.int 0 0] }).objs.size=s.heap.objs.size+1:=Heap.size_push ..;show _/\_;rw[hz];have he:IsEnum ((s.heap.push { cls:=.type "list_iterator",data:=.fields #[.ref l,.int 0 0] }).push { cls:=.type "enumerate",data:=.fields #[.none,.bool false,.ref s.heap.objs.size,rawInt 1,.none,.none] }) (s.heap.objs.size+1) s.heap.objs.size 1 .none:=by
   have:=Heap.get?_push_size (s.heap.push { cls:=.type "list_iterator",data:=.fields #[.ref l,.int 0 0] }) (o:={ cls:=.type "enumerate",data:=.fields #[.none,.bool false,.ref s.heap.objs.size,rawInt 1,.none,.none] }) rfl;rw[hz]at this;exact this
  exact⟨⟨_,he,rfl⟩,h _ he ⟨_,Heap.get?_push_of_some _ (Heap.get?_push_size _ rfl),rfl,rfl⟩ (by rw[Heap.size_push,hz]) λb o x=>Heap.get?_push_of_some _ (Heap.get?_push_of_some _ x)⟩
 .cases r with
  |error e=>exact hr
  |ok fl=>
   cases fl with
   |ret obj=>
    obtain⟨hT,hq0⟩:=hr;have hli:=ft.init.lookup;have hbi:=ft.init.bind obj
    repeat (any_goals (first|assumption|wp_step))
    refine codeAny_mono (codeAny_call_builtin ft.init.plain F.entry_object_init (ft.init.check _ _ _ _ _ _ _ _ hT (aiS obj (.ref l) (.int 1 t)) (be (x:=obj) (a:=.ref l) (b:=.int 1 t) hli hmade (by decide) prog w A.in1 (wants (λr s₂=>r=.none/\Q obj s₂) E) s₁ ⟨hT,rfl,hq0⟩))) λr₂ s₂ hr₂=>?_;cases r₂ with
    |error e=>exact hr₂
    |ok fl₂=>
     cases fl₂ with
     |ret r=>
      obtain⟨rfl,hq⟩:=hr₂
      repeat (any_goals (first|assumption|wp_step))
     |_=>exact hr₂.elim
   |_=>exact hr.elim
def shift{it:Addr}{fp:List Addr}{n:Nat}{P:Nat->Value->Prop}{St:Nat->Heap->Prop}(D:Draws prog w A it fp n P St):Draws prog w A it fp (n+1) (λj v=>P (j-1) v) (λj h=>1<=j/\St (j-1) h) where
 live:=λ_ _ z=>D.live _ _ z.2
 frame:=λ_ _ _ z hk=>⟨z.1,D.frame _ _ _ z.2 hk⟩
 item:=λi s Q E hi z hQ=>D.item (i-1) s Q E (by omega) z.2 λx h' tk p q b=>hQ x h' tk p ⟨by omega,by rw[show i+1-1=i-1+1 by have:=z.1;omega];exact q⟩ b
 done:=λs Q E z hE=>D.done s Q E z.2 hE
end
def callWith_typeK{M:Model}{A:Around}{E:Value->Shared->Prop}{s:Shared}{pos:Pos}{T:String}{args:List (Bool×Sem Value)}{kws:List (Option Str×Sem Value)}{Q:Value->Shared->Prop}(hp:args.any (·.1)=false)(hk:kws.any (·.1.isNone)=false)
 (h:wpAny M A (evalArgs (.type T) true args kws) (λa s₁=>wpAny M A (call (.type T) a.pos a.kw) Q E s₁) E s):wpAny M A (callWith pos (.type T) [] args kws) Q E s:=by
 unfold callWith;refine wpAny_bind (wpAny_holding (wpAny_mono h (λa s₁ h₁=>wpAny_bind (wpAny_standAt ?_)) λ_ _ x=>x));simp only[hp,hk,Bool.or_false];exact wpAny_bind (wpAny_pure (wpAny_bind (wpAny_mono h₁ (λr s₂ hr=>wpAny_bind (wpAny_holding (wpAny_point (wpAny_pure hr)))) λ_ _ x=>x)))
end HS
namespace L2
open PySem PySem.Spec PyProof.Rows
structure ESt(h:Heap)(e it l:Addr)(i:Nat):Prop where
 e:∃old,IsEnum h e it ((i+1:Nat):Int) old
 r:h.IsListIter it l i
def ItS(K:PySem.W.Frag)(a:Addr):It:=
 ⟨λi H=>∃xs x,SqL K H a xs/\xs[i]?=some x,
  λi H x H'=>∃p v,H p=none/\H'=upd H p (.tup [.int ((i:Int)+1),v])/\x=.ref p/\∀xs,SqL K H a xs->xs[i]?=some v,
  λi H=>∃xs,SqL K H a xs/\xs.length=i⟩
def OH{P:Program}{w:World}{K:PySem.W.Frag}{elts:List Expr}{kk:Nat}{tpos:Pos}{e it l:Addr}(ne:e≠it)(nl:l≠it)(nle:e≠l):Turn P w K (.Tuple elts kk tpos) (ItS K l) [e,it] e (λi h=>ESt h e it l i) where
 mem:=by simp
 obj:=λi h st c hc=>by
  obtain⟨⟨old,he⟩,hr⟩:=st;simp only[mem_cons,not_mem_nil,or_false]at hc;rcases hc with rfl|rfl
  .exact⟨_,he,λv z=>by cases(show Data.fields _=Data.cell v from z)⟩
  .obtain⟨o,q,_,d⟩:=hr;exact⟨o,q,λv z=>by rw[d]at z;cases z⟩
 keep:=λi h h' st k=>by
  obtain⟨⟨old,he⟩,o,q,r⟩:=st;exact⟨⟨old,k e (by simp) _ he⟩,o,k it (by simp) _ q,r⟩
 item:=by
  intro X hP hw hK hc i pins s σ H E I hf st hg;subst hP hw hK;obtain⟨xs,x,h1,hx⟩:=hg;obtain⟨its,r,pl,hz⟩:=I.list h1;obtain⟨u,hu,ru⟩:=r.get hx;obtain⟨⟨old,he⟩,hr⟩:=st;have hd:X.A.in1.handled=none:=I.ok.hd hc;have hlt:i<its.toArray.size:=by
   have:=(List.getElem?_eq_some_iff.mp hu).1;simpa using this
  refine wpAny_pyNext_enum_itemD (HS.shift (Draws.list hd it l nl its.toArray)) he ⟨by omega,by simpa using hr,pl.isList⟩ (by omega) ne (by simp;exact⟨ne,nle⟩) λx' g tk hx' ho hr' ht hsz kp=>⟨_,rfl,?_⟩
  have ex:x'=u:=by
   have hx':its.toArray[i]?=some x':=hx';rw[List.getElem?_toArray,hu]at hx';exact(Option.some.inj hx').symm
  subst ex;refine wpAny_letOwnedTupleGo_enum ho λg' e' sb=>?_;have hle:e<s.heap.objs.size:=Heap.lt_size he;have kp2:∀c o,c∉[e,it]->s.heap.get? c=some o->g'.get? c=some o:=λc o nc q=>by
   simp only[mem_cons,not_mem_nil,or_false,not_or]at nc;exact sb.extBut _ _ nc.1 (kp c o nc.1 nc.2 q)
  have hT:s.heap.objs.size≠e:=ne_of_gt hle;have hpair:g'.get? s.heap.objs.size=some { cls:=.type "tuple",data:=.seq #[.int ((i+1:Nat):Int) tk,x'] }:=sb.extBut _ _ hT ht;have fresh:H s.heap.objs.size=none:=I.hok.fresh (le_refl _);have I2:Inv X pins σ (upd H s.heap.objs.size (.tup [.int ((i:Int)+1),x])) { s with heap:=g',toks:=tk+1 }:=I.turnsL (tk:=tk+1) (o:=.tup [.int ((i:Int)+1),x]) kp2 hf (le_refl _)
   (show ObjOk X.prog X.w _ g' _ (.tup [.int ((i:Int)+1),x])from⟨by show 2<=sizeLine;decide,[.int ((i+1:Nat):Int) tk,x'],.cons ⟨_,rfl⟩ (.cons ru .nil),⟨_,hpair,rfl,⟨_,rfl⟩,rfl⟩⟩)
  refine⟨.ref s.heap.objs.size,_,I2,rfl,⟨s.heap.objs.size,x,fresh,rfl,rfl,λxs' q=>by rw[I.list_inj q h1];exact hx⟩,⟨⟨x',?_⟩,?_⟩,λc hc=>?_⟩
  .have:=e';rw[show(((i+1:Nat):Int)+1)=((i+1+1:Nat):Int) by omega]at this;exact this
  .have q:=hr'.2.1;exact q.extBut sb.extBut (Ne.symm ne)
  .have lt:c<s.heap.objs.size:=by
    simp only[mem_cons,not_mem_nil,or_false]at hc;rcases hc with rfl|rfl
    .exact hle
    .obtain⟨o,q,_⟩:=hr;exact Heap.lt_size q
   rw[AC (ne_of_lt lt)];exact(hf c hc).1
 done:=by
  intro X hP hw hK hc i pins s σ H E I hf st hg;subst hP hw hK;obtain⟨xs,h1,hend⟩:=hg;obtain⟨its,r,pl,hz⟩:=I.list h1;have l1':=r.length;obtain⟨⟨old,he⟩,hr⟩:=st;have hd:X.A.in1.handled=none:=I.ok.hd hc;have en:i=its.toArray.size:=by simp;omega
  subst en;refine wpAny_pyNext_enum_endD (HS.shift (Draws.list hd it l nl its.toArray)) he ⟨by omega,by simpa using hr,pl.isList⟩ λg x=>⟨rfl,?_⟩
  exact I.turns (tk:=s.toks) (λc o nc q=>by
   simp only[mem_cons,not_mem_nil,or_false,not_or]at nc;exact x c o nc.2 q) hf
 self:=λ_ _ _ _ _ st h=>by
  obtain⟨⟨old,he⟩,hr⟩:=st;exact wpAny_pyIter_enum he h
def Mc(K:PySem.W.Frag)(ta:TA):TI:=λσ H R=>ta σ H λvs H1=>∃a xs,vs=[.ref a]/\SqL K H1 a xs/\R (ItS K a) H1
def T9(K:PySem.W.Frag){X:Cx}{a:Expr}{ta:TA}{elts:List Expr}{kk:Nat}{j}{tpos p pos cp kp:Pos}(hg:Gl X "enumerate")(hm:X.mg "enumerate"=none)(ha:PA X [a] ta)(hK:X.K=K:=by rfl)(hs:starEach [a] X.env=[(false,eval a X.env)]:=by rfl):
 PI X (.Tuple elts kk tpos) (.Call (.Name "enumerate" p) [a] [⟨some "start",.Constant (.int 1) j cp,kp⟩] pos) (Mc K ta):=by
 subst hK;intro pins s σ H R I h;refine wpAny_Call_Name_kw (D0 I hg hm EA ?_);have pl:(backTo pos (starEach [a] X.env)).any (·.1)=false:=by rw[hs];rfl
 refine HS.callWith_typeK pl rfl (evalArgs_kw2 (env:=X.env) (e:=a) (rest:=[]) (kws:=[⟨some "start",.Constant (.int 1) j cp,kp⟩]) rfl (thn (ha pos pins s σ H _ I h) λus s1 ⟨vs,H1,I1,r1,q1⟩=>?_) hs);obtain⟨l,xs,e,c,q⟩:=q1;subst e;obtain⟨u,rfl,ru⟩:=r1.one;cases ru;show wpAny _ _ (evalAll [(do let v <- eval (.Constant (.int 1) j cp) X.env;standAt pos;pure v)]) _ _ s1;refine wpAny_evalAll_cons (wpAny_bind (wpAny_Constant_int (wpAny_bind (wpAny_standAt (wpAny_pure (wpAny_evalAll_nil ?_))))));have I2:=I1.tok (s1.toks+1);obtain⟨its,r,pl,hz⟩:=I2.list c;have ll:l<s1.heap.objs.size:=by obtain⟨o,ho,_⟩:=pl.isList;exact Heap.lt_size ho
 refine HS.call_enumS pl.isList λg he hr hsz kp=>wpAny_pyIter_enum he ?_;refine⟨_,_,_,_,H1,rfl,I2.kept (t':=s1.toks+1) kp,OH (ne_of_gt (Nat.lt_succ_self _)) (ne_of_lt ll) (ne_of_gt (lt_succ_of_lt ll)),⟨⟨_,he⟩,hr⟩,λc hc=>?_,q⟩;simp only[mem_cons,not_mem_nil,or_false]at hc;have le:s1.heap.objs.size<=c:=by
  rcases hc with rfl|rfl
  .exact le_add_right _ _
  .exact le_refl _
 exact I2.fpOk le (I2.hok.fresh le)
section
variable{K:PySem.W.Frag}
def FA(ma:MI):MI:=λls hd=>(ma ls hd).map λp=>((p.1.1.zipIdx.map λq=>Ag [.im (.int ((q.2:Int)+1)),q.1],p.1.2),p.2)
def SY{ta:TE}{ma:MI}(ha:RRw K false ta ma):RIt K (Mc K (BM ta CI)) (FA ma):=by
 intro ρ σ H hd ls Q d g hd' hR hL hm hQ;obtain⟨⟨⟨d1,g1⟩,h1⟩,e1,e2⟩:=c7 hm;cases e2;refine ha ρ σ H hd ls _ d1 g1 h1 hR hL e1 λρ1 H1 a x1 R1 G1 S1=>?_;obtain⟨xs,c1,r1⟩:=S1 ρ1 H1 _ .refl R1 G1;refine⟨a,xs,rfl,c1,hQ ρ1 H1 _ x1 R1 G1 ?_⟩;intro ρ3 H3 hd3 x3 R3 G3 i;obtain⟨xs,c1,r1⟩:=S1 ρ3 H3 _ x3 R3 G3;have l1:=r1.len;refine⟨λhi=>?_,λhi=>⟨xs,c1,?_⟩⟩
 .have hi:i<d1.length:=by simpa using hi
  have i1:d1[i]?=some (d1[i]'hi):=List.getElem?_eq_getElem _;obtain⟨x,x4,x5⟩:=r1.get i1;refine⟨⟨xs,x,c1,x4⟩,λz H4 hz=>?_⟩;obtain⟨p,v,fp,rfl,rfl,hv⟩:=hz;have ev:=hv xs c1;rw[x4]at ev;cases ev;obtain⟨R4,x6⟩:=R3.hid (ho:=.tup [.int ((i:Int)+1),x]) fp;refine⟨ρ3,Ag [.im (.int ((i:Int)+1)),d1[i]'hi],x6,rfl,R4,?_,BW (SqT.of AJ) (.cons (by simp[RD,RI]) (.cons (x5.ext R3 x6) .nil))⟩;simp[i1]
 .have hi:i=d1.length:=by simpa using hi
  omega
def Ss(K:PySem.W.Frag){X:Cx}{a:Expr}{ta:TE}{ma:MI}{elts:List Expr}{kk:Nat}{j}{tpos p pos cp kp:Pos}(hm:X.mg "enumerate"=none)(ha:QR K false X a ta ma)(hg:Gl X "enumerate":=by rfl)(hK:X.K=K:=by rfl)(hs:starEach [a] X.env=[(false,eval a X.env)]:=by rfl):
 QI K X (.Tuple elts kk tpos) (.Call (.Name "enumerate" p) [a] [⟨some "start",.Constant (.int 1) j cp,kp⟩] pos) (Mc K (BM ta CI)) (FA ma):=⟨T9 K hg hm (CA ha.p Cv hs) hK hs,SY ha.r⟩
def LP{ma:MI}{ls:Ls}{hd:Hd}{QI:List D×Gd->Hd->Prop}(h:WI ma ls hd λp x=>QI (p.1.zipIdx.map λq=>Ag [.im (.int ((q.2:Int)+1)),q.1],p.2) x):WI (FA ma) ls hd QI:=by
 obtain⟨p,x,e,q⟩:=h;exact⟨_,_,by simp only[FA,e,map_some],q⟩
end
end L2
namespace L2
open PySem PySem.W
def tg1:Expr->List Str
 |.Name x _=>[x]
 |_=>[]
def tg2:Expr->List Str
 |.Tuple es _ _=>es.flatMap tg1
 |e=>tg1 e
def tgN:Expr->List Str
 |.Tuple es _ _=>es.flatMap tg2
 |e=>tg1 e
def frN(X:Cx)(ix:List Nat):List Str:=ix.filterMap λi=>X.N[i]?
def ndB:List Str->Bool
 |[]=>true
 |x::xs=>!xs.elem x&&ndB xs
def Fq:∀{l:List Str},ndB l=true->l.Nodup
 |[],_=>List.nodup_nil
 |x::xs,h=>by
  obtain⟨h1,h2⟩:=Bool.and_eq_true_iff.mp h;refine nodup_cons.mpr ⟨λhm=>?_,Fq h2⟩;rw[List.elem_eq_true_of_mem hm]at h1;cases h1
section
variable{K:PySem.W.Frag}{X:Cx}{elt tg iter tg' iter' e:Expr}{ifs ifs':List Expr}{scope:Scope}{pos spos py:Pos}{ix:List Nat}{wi wi':TI}{g g':TG}{tf tf':TT}{te tk tv:TE}{mi mi':MI}{n n':MG}{mf mf':MT}{me mk mv:ME}{k i:Nat}{x y:Str}
def qgA(hN:ndB X.N=true:=by kernel_rfl)(hi:X.N[i]?=some x:=by rfl)(hx:Loc X.env.scope x:=by first|exact Or.inl rfl|exact Or.inr rfl)(hf:X.fn x=true∨X.env.scope.names.lookup x=some .local:=by first|exact .inl rfl|exact .inr rfl):QG K X (.Name x pos) (EE i) (AG i):=Vq K (Fq hN) hi hx hf
def qnA(hi:QI K X tg iter wi mi)(hg:∀s H ex,QG K (cCx X (tgN tg++frN X ix) scope s H ex) tg g n)(hf:∀s H ex,QF K (cCx X (tgN tg++frN X ix) scope s H ex) ifs tf mf)(he:∀s H ex,QE K (cCx X (tgN tg++frN X ix) scope s H ex) elt te me)
 (hc:X.calm=true:=by rfl) (S:CSc X scope (frN X ix) ix:=by exact⟨rfl,by decide +kernel,rfl,rfl,rfl,by decide +kernel⟩) (hs:∀x,foldedSetIterable iter X.env x=pure x:=by intro _;rfl) (hk:(tgN tg).length=k:=by rfl):
 QN K X (.ListComp elt [⟨tg,iter,ifs,0⟩] scope pos) (G8 k ix wi g tf te) (Aw k ix mi n mf me):=by
 subst hk;exact Vk K hc S hi hg hf he hs
def bZ(hi:QI K X tg iter wi mi)(hg:∀s H ex,QG K (cCx X (tgN tg++frN X ix) scope s H ex) tg g n)(hf:∀s H ex,QF K (cCx X (tgN tg++frN X ix) scope s H ex) ifs tf mf)(he:∀s H ex,QE K (cCx X (tgN tg++frN X ix) scope s H ex) elt te me)
 (hsw:swapsWith (.ListComp elt [⟨tg,iter,ifs,0⟩] scope pos) (some (.Name y py)) spos.line X.env=pure true:=by rfl) (hN:ndB X.N=true:=by kernel_rfl) (hiN:X.N[i]?=some y:=by rfl) (hy:X.env.scope.names.lookup y=some .local:=by rfl)
 (hc:X.calm=true:=by rfl) (S:CSc X scope (frN X ix) ix:=by exact⟨rfl,by decide +kernel,rfl,rfl,rfl,by decide +kernel⟩) (hs:∀x,foldedSetIterable iter X.env x=pure x:=by intro _;rfl) (hk:(tgN tg).length=k:=by rfl):
 QS K X (.Assign [.Name y py] (.ListComp elt [⟨tg,iter,ifs,0⟩] scope pos) spos) (F3 (G8 k ix wi g tf te) (EE i)) (AT i (BH (Aw k ix mi n mf me))):=by
 subst hk;exact VZ K (Fq hN) hiN hy hc S hi hg hf he hsw hs
def qsA{pos':Pos}(he:QE K X e te me)(hs:swapsWith e (some (.Name x pos')) pos.line X.env=pure false:=by rfl)(hN:ndB X.N=true:=by kernel_rfl)(hi:X.N[i]?=some x:=by rfl)(hx:Loc X.env.scope x:=by first|exact Or.inl rfl|exact Or.inr rfl)(hf:X.fn x=true∨X.env.scope.names.lookup x=some .local:=by first|exact .inl rfl|exact .inr rfl):
 QS K X (.Assign [.Name x pos'] e pos) (F3 te (EE i)) (AT i me):=YJ K (Fq hN) hi hx he hs hf
end
end L2
namespace L2
open PySem PySem.Spec PyProof.Rows PySem.W
abbrev Tb:=Addr×Str×Nat×Nat
def Wc(ts:List Tb):Obj:={ cls:=.str "tables" 0,data:=.fields (ts.flatMap λt=>[.ref t.1,.str t.2.1 0,.int t.2.2.1 0,.int t.2.2.2 0]).toArray }
def B3(K:PySem.W.Frag)(ts:List Tb):PySem.W.Frag:=(K.filter λp=>!(ts.map (·.1)).contains p.1)++[(mainGlobals,Wc ts)]
def Pp:∀ts:List Tb,Kz (ts.flatMap λt=>[Value.ref t.1,.str t.2.1 0,.int t.2.2.1 0,.int t.2.2.2 0])=ts.map λt=>(t.1,t.2.1,⟨t.2.2.1,t.2.2.2,0,0⟩)
 |[]=>rfl
 |t::r=>by
  rw[List.flatMap_cons,map_cons,<- Pp r];rfl
def Gn(K:PySem.W.Frag)(ts:List Tb):Cu (B3 K ts)=ts.map λt=>(t.1,t.2.1,⟨t.2.2.1,t.2.2.2,0,0⟩):=by
 unfold Cu B3;rw[List.getLast?_concat];show Kz _=_;rw[<- Pp ts]
def FY{L:List Addr}{a:Addr}(ha:a∉L):∀K:PySem.W.Frag,(K.filter λp=>!L.contains p.1).lookup a=K.lookup a
 |[]=>rfl
 |(b,o)::r=>by
   have ih:=FY ha r;rw[filter_cons];by_cases hb:b∈L
   .have h1:(!L.contains (b,o).1)=false:=by simp[hb]
    have h2:(a==b)=false:=beq_eq_false_iff_ne.mpr λz=>ha (z ▸ hb);rw[if_neg (by rw[h1];decide),lookup_cons,h2,ih]
   .have h1:(!L.contains (b,o).1)=true:=by simp[hb]
    rw[if_pos h1,lookup_cons,lookup_cons,ih]
def HH{L:List Addr}{P:Addr}(hP:P∈L):∀K:PySem.W.Frag,(K.filter λp=>!L.contains p.1).lookup P=none
 |[]=>rfl
 |(b,o)::r=>by
   have ih:=HH hP r;rw[filter_cons];by_cases hb:b∈L
   .rw[if_neg (by simp[hb])];exact ih
   .have h2:(P==b)=false:=beq_eq_false_iff_ne.mpr λz=>hb (z ▸ hP);rw[if_pos (by simp[hb]),lookup_cons,h2];exact ih
section
variable{K:PySem.W.Frag}{ts:List Tb}
def FN{a:Addr}{o:Obj}(ha:a∉ts.map (·.1))(e:K.lookup a=some o):(B3 K ts).lookup a=some o:=by
 unfold B3;rw[lookup_append,FY ha,e];rfl
def Wb{h:Heap}(X:K.In h){g:Obj}(hg:K.lookup mainGlobals=some g)(hP:mainGlobals∉ts.map (·.1)):(B3 K ts).In h:=λa o e=>by
 unfold B3 at e;rw[lookup_append]at e;by_cases ha:a∈ts.map (·.1)
 .rw[HH ha,none_or]at e;have h2:(a==mainGlobals)=false:=beq_eq_false_iff_ne.mpr λz=>hP (z ▸ ha);rw[lookup_cons,h2]at e;cases e
 .rw[FY ha]at e;cases k:K.lookup a with
  |some o'=>rw[k]at e;cases e;exact X _ _ k
  |none=>
   rw[k,none_or,lookup_cons]at e;by_cases hm:a=mainGlobals
   .subst hm;rw[hg]at k;cases k
   .rw[beq_eq_false_iff_ne.mpr hm]at e;cases e
def Wa(hM:mainGlobals∉ts.map (·.1)){P:Addr}(hP:P∈ts.map (·.1)):(B3 K ts).lookup P=none:=by
 unfold B3;have h2:(P==mainGlobals)=false:=beq_eq_false_iff_ne.mpr λz=>hM (z ▸ hP);rw[lookup_append,HH hP,none_or,lookup_cons,h2];rfl
def Fun.mark{x qual:Str}{st:Stmt}{f:Addr}{fd:FuncData}(D:Fun K x qual st f fd){h:Heap}(X:K.In h)(hP:∀P∈ts.map (·.1),h.get? P=some (tabObj #[])):Fun (B3 K ts) x qual st f fd:=by
 have neP:∀a o,K.lookup a=some o->o≠tabObj #[]->a∉ts.map (·.1):=λa o e n z=>by
  have:=X _ _ e;rw[hP a z]at this;exact n (Option.some.inj this).symm
 obtain⟨⟨oc,od,kV,doc,pm,an,cdv,ct,osl,rfl,lk,hcd⟩,kp⟩:=D;have hf:f∉ts.map (·.1):=neP f _ lk (λz=>by cases z);refine⟨⟨oc,od,kV,doc,pm,an,cdv,ct,osl,rfl,FN hf lk,?_⟩,?_⟩
 .unfold codeIn at hcd ⊢;split at hcd
  .next c0=>
   split at hcd
   .next vs sl k=>
    have hc:c0∉ts.map (·.1):=neP c0 _ k (λz=>by
     have:vs=#[]:=by injection z with _ _ z _;injection z
     rw[this]at hcd;cases hcd)
    simp only[FN hc k];exact hcd
   .cases hcd
  .cases hcd
 .unfold keepIn;simp only[FN hf lk]
end
def aH{K:PySem.W.Frag}{H:Hp}{a:Addr}{xs:List V}(hS:SqL K H a xs)(hO:∀ys,H a≠some (.lst ys)):RoL K H a xs:=by
 rcases hS with(h|h)|h
 .exact absurd h (hO xs)
 .exact .inl h
 .exact .inr h
def Qp{Pg:Program}{w:World}{K:PySem.W.Frag}{mg mb:Str->Option Value}{k:Nat}{fa a:Addr}{fd:FuncData}{x:Str}{ts:List Tb}{s₁:Shared}{vs:List Value}{ns:List Int}{F:List D->Hd->Option (D×Hd)}
 (KX:K.In s₁.heap) (hns:s₁.heap.Ns mainGlobals mg) (hb:s₁.heap.Ns builtinsNs mb) (hbb:∀x:Str,x≠"__name__"->mb x=bootBuiltins x) (hlim:s₁.heap.NoLimit) (hg:s₁.gens=#[])
 (ha:s₁.heap.get? a=some { cls:=.type "list",data:=.seq vs.toArray }) (hi:IntsAre vs ns) (hl:ns.length<=sizeLine) (hr:Room k callerA)
 (hT:∀P∈ts.map (·.1),∃cc,s₁.heap.TableAt cc P #[]) (hPK:∀P∈ts.map (·.1),K.lookup P=none) (htab:Cu K=ts.map λt=>(t.1,t.2.1,⟨t.2.2.1,t.2.2.2,0,0⟩))
 (Fn:∀base:Heap,K.In base->base.Ns mainGlobals mg->(∀b o,b∉ts.map (·.1)->b≠a->s₁.heap.get? b=some o->base.get? b=some o)->FnOk Pg w K mg base CX0 k fa fd [x] (spF K 1 F)) (hbind:∀(s:Shared) (u:Value),BindsTo s fd ⟨[u],[]⟩ [(x,u)])
 (hF:∃hd',F [.ro ns] []=some (.im (.bl true),hd')):
 codeAny (model Pg w) callerA (.call (.ref fa) ⟨[.ref a],[]⟩) (λr s'=>r=.ok (.ret (.bool true))/\OldK s₁.heap s'.heap/\s'.os=s₁.os/\AllBare s'.gens) s₁:=by
 have rv:=KF hi;have lenV:=hi.length;have hP:∀P∈ts.map (·.1),s₁.heap.get? P=some (tabObj #[]):=λP h=>let ⟨cc,t⟩:=hT P h;t.2
 have haP:a∉ts.map (·.1):=λz=>by rw[hP a z]at ha;cases ha
 have core:∀H:Hp,(∀b,b∉ts.map (·.1)->H b=none∨∃o xs,H b=some (.frz o (.lst xs)))->(∀P∈ts.map (·.1),H P=some (.tbl #[]))->SqL K H a (ns.map V.int)->HOk Pg w H s₁.heap->(∀b,H b≠none->b=a∨b∈ts.map (·.1))->(H a≠none->K.lookup a=none) ->
  codeAny (model Pg w) callerA (.call (.ref fa) ⟨[.ref a],[]⟩) (λr s'=>r=.ok (.ret (.bool true))/\OldK s₁.heap s'.heap/\s'.os=s₁.os/\AllBare s'.gens) s₁:=by
  intro H hO hHP hS hok hA hK;have base_of:∀{b:Addr} {o:Obj},s₁.heap.get? b=some o->H b=none->(GI s₁.heap H).get? b=some o:=λe n=>TZ e n;have noA:∀{b:Addr} {o:Obj} {es:Array DictEntry} {ep:Nat},s₁.heap.get? b=some o->o.data=.dict es ep->H b=none:=λ{b o es ep} e d=>by
   cases q:H b with
   |none=>rfl
   |some u=>
    rcases hA b (by rw[q];simp)with e'|e'
    .subst e';rw[ha]at e;cases e;have d':Data.seq vs.toArray _=Data.dict es ep:=d;cases d'
    .rw[hP b e']at e;cases e;cases d
  have nsK:∀{b:Addr} {m:Str->Option Value},s₁.heap.Ns b m->(GI s₁.heap H).Ns b m:=λ{b m} ⟨o,es,ep,e,d,r⟩=>⟨o,es,ep,base_of e (noA e d),d,r⟩
  have hKb:K.In (GI s₁.heap H):=λb o e=>base_of (KX b o e) (by
   cases q:H b with
   |none=>rfl
   |some u=>
    rcases hA b (by rw[q];simp)with e'|e'
    .subst e';rw[hK (by rw[q];simp)]at e;cases e
    .rw[hPK b e']at e;cases e)
  have hM:Mod K mg (GI s₁.heap H):=⟨hKb,nsK hns,⟨mb,nsK hb,hbb⟩,let ⟨mc,h1,h2⟩:=hlim;⟨mc,nsK h1,h2⟩⟩
  have e0:Env0 Pg w K mg (GI s₁.heap H) callerA [] s₁ H:=⟨rfl,hM,λb o e=>WY e,Nat.le_of_eq (Qw _ _),trivial,λb hb=>absurd (show b∈([]:List Addr)from hb) (by simp),hok,.of_eq hg⟩
  have hsp:spF K 1 F [.ref a] H (λv _=>v=.bl true) λ_ _ _=>False:=by
   obtain⟨hd',e⟩:=hF;refine⟨rfl,[],[],[.ro ns],.im (.bl true),hd',⟨rfl,List.nodup_nil,λy hy=>?_,λn o a h=>by simp at h⟩,?_,e,λρ' H' v _ _ r=>?_⟩
   .rw[htab]at hy;obtain⟨t,ht,rfl⟩:=mem_map.mp hy;exact⟨#[],hHP t.1 (mem_map.mpr ⟨t,ht,rfl⟩),.inl rfl⟩
   .simp only[RDs,RD];refine⟨_,_,rfl,⟨a,rfl,aH hS λys z=>?_⟩,rfl⟩;rcases hO a haP with q|⟨o,ys,q⟩<;>(rw[q]at z;cases z)
   .simpa only[RD,RI]using r
  refine codeAny_mono ((Fn _ hKb (nsK hns) λb o n1 n2 e=>base_of e (by
   cases q:H b with
   |none=>rfl
   |some u=>
    rcases hA b (by rw[q];simp)with e'|e'
    .exact absurd e' n2
    .exact absurd e' n1)).run callerA [] s₁ H ⟨[.ref a],[]⟩ [.ref a] [.ref a] _ _ hr e0 (hbind s₁ (.ref a)) (.cons rfl .nil) hsp) λr s' h=>?_
  cases r with
  |error e=>exact h.elim
  |ok fl=>
   cases fl with
   |next=>exact False.elim h
   |brk=>exact False.elim h
   |cont=>exact False.elim h
   |ret u=>
    obtain⟨v,H',os,bare,un,hok',r',q⟩:=h;have q':v=.bl true:=q;subst q';obtain rfl:u=Value.bool true:=r';have keep:∀b o,b∉ts.map (·.1)->s₁.heap.get? b=some o->s'.heap.get? b=some o:=λb o nb e=>by
     cases q:H b with
     |none=>exact un.keep b o e q (by intro z;exact absurd (show b∈([]:List Addr)from z) (by simp)) (by simp)
     |some u=>
      rcases hO b nb with z|⟨ob,xs,z⟩
      .rw[q]at z;cases z
      .have z2:=un.frzs b ob _ z;obtain⟨e1,_⟩:=hok b _ z;obtain⟨e2,_⟩:=hok' b _ z2;rw[e]at e1;cases e1;exact e2
    refine⟨rfl,⟨λb o e=>?_,λb o e=>?_⟩,os,bare⟩
    .by_cases nb:b∈ts.map (·.1)
     .obtain⟨cc,tb⟩:=hT b nb;obtain⟨more,hm⟩:=un.tbls b #[] (hHP b nb);have hb':s'.heap.get? b=some (tabObj (#[]++more)):=hok' b _ hm;rw[hP b nb]at e;cases e;exact .inr (.inl ⟨tb.isCodeTable,rfl,#[],more,rfl,hb'⟩)
     .exact .inl (keep b o nb e)
    .by_cases nb:b∈ts.map (·.1)
     .obtain⟨more,hm⟩:=un.tbls b #[] (hHP b nb);exact⟨_,hok' b _ hm⟩
     .exact⟨o,keep b o nb e⟩
 cases hk:K.lookup a with
 |some o=>
  have e:=KX a o hk;rw[ha]at e;cases e;refine core (λb=>if b∈ts.map (·.1)then some (.tbl #[])else none) (λb nb=>.inl (if_neg nb)) (λP hp=>if_pos hp) (.inr ⟨_,vs.toArray,_,hk,rfl,rfl,rfl,by rw[size_toArray,lenV];exact hl,by simpa using rv⟩) (λb u z=>?_) (λb z=>?_) λz=>absurd (if_neg haP) z
  .by_cases hb:b∈ts.map (·.1)
   .have z':=(if_pos hb).symm.trans z;cases z';exact hP b hb
   .have z':=(if_neg hb).symm.trans z;cases z'
  .by_cases hb:b∈ts.map (·.1)
   .exact .inr hb
   .exact absurd (if_neg hb) z
 |none=>
  refine core (λb=>if b∈ts.map (·.1)then some (.tbl #[])else if b=a then some (.frz { cls:=.type "list",data:=.seq vs.toArray } (.lst (ns.map V.int)))else none) (λb nb=>?_) (λP hp=>if_pos hp) (.inl (.inr ⟨{ cls:=.type "list",data:=.seq vs.toArray },(if_neg haP).trans (if_pos rfl)⟩)) (λb u z=>?_) (λb z=>?_) λ_=>hk
  .rw[if_neg nb];by_cases hb:b=a
   .exact .inr ⟨_,_,if_pos hb⟩
   .exact .inl (if_neg hb)
  .by_cases hp:b∈ts.map (·.1)
   .have z':=(if_pos hp).symm.trans z;cases z';exact hP b hp
   .have z:=(if_neg hp).symm.trans z;by_cases hb:b=a
    .have z':=(if_pos hb).symm.trans z;cases z';subst hb;exact⟨ha,by rw[length_map];exact hl,vs,_,rv,ha⟩
    .have z':=(if_neg hb).symm.trans z;cases z'
  .by_cases hp:b∈ts.map (·.1)
   .exact .inr hp
   .by_cases hb:b=a
    .exact .inl hb
    .exact absurd ((if_neg hp).trans (if_neg hb)) z
def walkL{l:PySem.W.OpenLaw}{n k:Nat}{q:Program}{loose:List Str}{XP:(Str->Option Value)->Heap->Prop}{YP:World->Heap->Prop}{d:DefRec}{K:Params->PySem.W.Frag}{F:List D->Hd->Option (D×Hd)}(xs:List (Str×Str×Nat×Nat))
 (hn:l.most=some n) (hn2:n<=sizeLine) (hdf:d.params.defaults=[]) (hr:Room k callerA) (hdr:∀x∈xs,∃dr,(recsOf q).find? (λe=>e.name==x.1)=some dr)
 (hF:∀ns:List Int,∃hd',F [.ro ns] []=some (.im (.bl true),hd'))
 (hY:∀(w:World) (h:Heap),YP w h->(K w.params).In h)
 (G:∀(w:World) (mg:Str->Option Value) (fa:Addr) (h:Heap) (c P:Str->Addr),(K w.params).In h->h.Ns mainGlobals mg->mg d.name=some (.ref fa) ->
  (∀x∈xs,h.get? (P x.1)=some (tabObj #[])/\CodeHd h (c x.1) (P x.1)/\∃a o fd,mg x.1=some (.ref a)/\h.get? a=some o/\o.data=.func fd/\fd.code=.ref (c x.1)) ->
  (∃g,(K w.params).lookup mainGlobals=some g)/\∃fd:FuncData,(∀(s:Shared) (u:Value),BindsTo s fd ⟨[u],[]⟩ [("_law_script",u)])/\
   ∀base:Heap,(B3 (K w.params) (xs.map λx=>(P x.1,x.2))).In base->base.Ns mainGlobals mg->(∀x∈xs,CodeHd base (c x.1) (P x.1))->(∀x∈xs,base.BuiltinsAt mg (P x.1))->FnOk l.prog w (B3 (K w.params) (xs.map λx=>(P x.1,x.2))) mg base CX0 k fa fd ["_law_script"] (spF (B3 (K w.params) (xs.map λx=>(P x.1,x.2))) 1 F)):
 PySem.W.WalkO q loose XP YP l.row.toRowW d [] (λf vs=>PySem.call f vs):=by
 refine Att.attach_call hn hdf λw s₀ s₁ mg mb fa o pm cd doc a vs ns Gr Y ho hd hcd hmg hobj hints hlen hg=>?_;have KX:=hY w _ Y;have each:∀x:Str,∃cp:Addr×Addr,(∃y∈xs,y.1=x)->(∃cc,s₁.heap.TableAt cc cp.2 #[])/\CodeHd s₁.heap cp.1 cp.2/\∃a o fd,mg x=some (.ref a)/\s₁.heap.get? a=some o/\o.data=.func fd/\fd.code=.ref cp.1:=by
  intro x;by_cases hx:∃y∈xs,y.1=x
  .obtain⟨y,hy,rfl⟩:=hx;obtain⟨dr,hdr⟩:=hdr y hy;have hnm:dr.name=y.1:=beq_iff_eq.mp (List.find?_some (p:=λe:DefRec=>e.name==y.1) hdr);obtain⟨a',o',fd',c,P,h1,h2,h3,h4,h5,h6⟩:=Gr.T.tab dr (List.mem_of_find?_eq_some hdr);rw[hnm]at h1;exact⟨(c,P),λ_=>⟨⟨_,h6⟩,CodeHd.of h5 h6,a',o',fd',h1,h2,h3,h4⟩⟩
  .exact⟨(0,0),λh=>absurd h hx⟩
 obtain⟨cp,hcp⟩:=Classical.skolem.mp each;have hcp:∀x∈xs,(∃cc,s₁.heap.TableAt cc (cp x.1).2 #[])/\CodeHd s₁.heap (cp x.1).1 (cp x.1).2/\∃a o fd,mg x.1=some (.ref a)/\s₁.heap.get? a=some o/\o.data=.func fd/\fd.code=.ref (cp x.1).1:=λx hx=>hcp x.1 ⟨x,hx,rfl⟩;have hts:∀P∈(xs.map λx=>((cp x.1).2,x.2)).map (·.1),∃x∈xs,P=(cp x.1).2:=λP hP=>by
  obtain⟨t,ht,rfl⟩:=mem_map.mp hP;obtain⟨x,hx,rfl⟩:=mem_map.mp ht;exact⟨x,hx,rfl⟩
 have hP:∀x∈xs,s₁.heap.get? (cp x.1).2=some (tabObj #[]):=λx hx=>by
  obtain⟨⟨cc,t⟩,_⟩:=hcp x hx;exact t.2
 have hmP:mainGlobals∉(xs.map λx=>((cp x.1).2,x.2)).map (·.1):=λz=>by
  obtain⟨x,hx,ez⟩:=hts _ z;obtain⟨o,es,ep,e,dd,_⟩:=Gr.T.g;rw[ez,hP x hx]at e;cases e;cases dd
 obtain⟨⟨g,hgl⟩,fd,hb,hFn⟩:=G w mg fa _ (λx=>(cp x).1) (λx=>(cp x).2) KX Gr.T.g hmg λx hx=>⟨hP x hx,(hcp x hx).2⟩
 refine Qp (ts:=xs.map λx=>((cp x.1).2,x.2)) (K:=B3 (K w.params) (xs.map λx=>((cp x.1).2,x.2))) (Wb KX hgl hmP) Gr.T.g Gr.T.b Gr.T.builtins Gr.T.nolimit hg hobj hints (le_trans hlen hn2) hr (λP hp=>by obtain⟨x,hx,rfl⟩:=hts P hp;exact(hcp x hx).1) (λP hp=>Wa hmP hp) (Gn _ _) (λbase kb nb keep=>hFn base kb nb (λx hx=>?_) λx hx=>?_) hb (hF ns)
 .obtain⟨oc,vs',file,tf,flags,tg,inF,text,tt,e1,r1,r2,r3,r4,r5,r6,r7,r8,hne⟩:=(hcp x hx).2.1;have hn:(cp x.1).1∉(xs.map λx=>((cp x.1).2,x.2)).map (·.1):=λz=>by
   obtain⟨y,hy,ez⟩:=hts _ z;rw[ez,hP y hy]at e1;cases e1;cases r1
  exact⟨oc,vs',file,tf,flags,tg,inF,text,tt,keep (cp x.1).1 oc hn (λz=>by rw[z,hobj]at e1;cases e1;exact absurd (show Value.type "list"=Value.type "code" from r1) (by decide)) e1,r1,r2,r3,r4,r5,r6,r7,r8,hne⟩
 .obtain⟨bm,ob,b1,b2,b3,b4,b5,b6⟩:=Gr.T.bmain;have nP:∀y∈xs,bm≠(cp y.1).2:=λy hy z=>by rw[z,hP y hy]at b3;cases b3;cases b4
  have hn:bm∉(xs.map λx=>((cp x.1).2,x.2)).map (·.1):=λz=>by
   obtain⟨y,hy,ez⟩:=hts _ z;exact nP y hy ez
  refine⟨bm,ob,b1,b2,λz=>?_,nP x hx,keep bm ob hn (λz=>by rw[z,hobj]at b3;cases b3;exact absurd (show Value.type "list"=Value.type "module" from b4) (by decide)) b3,b4,b5,b6⟩;obtain⟨o,es,ep,e,dd,_⟩:=Gr.T.g;rw[<- z,b3]at e;cases e;rw[b6]at dd;cases dd
def S9(o:Obj):Option Addr:=match o.data with
 | .fields vs=>(match (vs[11]?:Option Value)with
  |some (Value.ref P)=>some P
  | _=>none)
 |_=>none
def XT{K:PySem.W.Frag}{h:Heap}{c P p:Addr}{o:Obj}(X:K.In h)(hc:CodeHd h c P)(k:K.lookup c=some o)(e:S9 o=some p):P=p:=by
 obtain⟨o',vs,file,tf,flags,tg,inF,text,tt,e1,e2,e3,e4,_⟩:=hc;have:=X _ _ k;rw[e1]at this;cases this;simp only[S9,e3,e4]at e;exact Option.some.inj e
end L2
namespace L2
open PySem PySem.W PyProof.Rows
abbrev FD:=List D->Hd->Option (D×Hd)
structure EnK where
 P:Program
 w:World
 K:PySem.W.Frag
 mg:Str->Option Value
 base:Heap
structure Df where
 x:Str
 st:Stmt
 ps:List Str
 k:Nat
 F:FD
def Dn(E:EnK)(e:Df):Prop:=∃f fd,DefAt E.K E.mg e.x e.st f fd e.ps
def Dl(E:EnK)(e:Df)(ps:Pos):Prop:=∃f fd c P,DefAt E.K E.mg e.x e.st f fd e.ps/\LamC E.K E.mg E.base fd c P ((e.x++".<locals>.")++"<lambda>") ps
def Kn(E:EnK)(e:Df):Prop:=∃f fd,DefAt E.K E.mg e.x e.st f fd e.ps/\FnOk E.P E.w E.K E.mg E.base CX0 e.k f fd e.ps (spF E.K e.ps.length e.F)/\∀ds hd z,e.F ds hd=some z->ds.length=e.ps.length
def okK{E:EnK}{x:Str}{st:Stmt}{ps N:List Str}{j k:Nat}{m:MS}{F:FD}(D:Dn E ⟨x,st,ps,k,F⟩)(S:FnScope N ps (AB st))(hF:F=mkF ps.length N.length m)(hk:k=j+1)
 (h:∀(f:Addr) (cdv:Value) (A:Around) (outer:List Env) (s:Shared) (H:Hp) (Ek:XK),Room j (A.deeper (envOfC x (AB st) s.heap.objs.size f cdv))->∃t,QSs E.K (DY CX0 E.P E.w E.K E.mg E.base N x (AB st) f cdv A outer s H Ek).nox (B9 st) t m):Kn E ⟨x,st,ps,k,F⟩:=by
 obtain⟨f,fd,D⟩:=D;subst hF;subst hk;exact⟨f,fd,D,WX D S (h f),No⟩
def okL{E:EnK}{x:Str}{st:Stmt}{ps N:List Str}{j k:Nat}{m:MS}{F:FD}{pos:Pos}(D:Dl E ⟨x,st,ps,k,F⟩ pos)(S:FnScope N ps (AB st))(hF:F=mkF ps.length N.length m)(hk:k=j+1)
 (h:∀(f c P:Addr) (fd:FuncData) (LC:LamC E.K E.mg E.base fd c P ((x++".<locals>.")++"<lambda>") pos) (cdv:Value) (A:Around) (outer:List Env) (s:Shared) (H:Hp) (Ek:XK),fd.code=cdv->Room j (A.deeper (envOfC x (AB st) s.heap.objs.size f cdv))->∃t,QSs E.K (DY CX0 E.P E.w E.K E.mg E.base N x (AB st) f cdv A outer s H Ek).nox (B9 st) t m):Kn E ⟨x,st,ps,k,F⟩:=by
 obtain⟨f,fd,c,P,D,LC⟩:=D;subst hF;subst hk;exact⟨f,fd,D,TJ D S (h f c P fd LC),No⟩
def ok0{E:EnK}{x:Str}{st:Stmt}{ps:List Str}{k k':Nat}{F:FD}(D:Dn E ⟨x,st,ps,k',F⟩):Kn E ⟨x,st,ps,k,λ_ _=>none⟩:=by
 obtain⟨f,fd,D⟩:=D;refine⟨f,fd,D,⟨λvs H Q E h=>h.1,λA outer s H args us vs Q E hr e0 hb hv h=>?_⟩,λ_ _ _ h=>nomatch h⟩;obtain⟨_,_,_,_,_,_,_,_,e,_⟩:=h;cases e
section
variable{K:PySem.W.Frag}{X:Cx}{e:Expr}{es:List Expr}{t:TA}{m:MA}{x:Str}{j k:Nat}{ps:List Str}{F:FD}{st:Stmt}{p pos:Pos}
def qcW(w:Nat)(G:Kn ⟨X.prog,X.w,X.K,X.mg,X.base⟩ ⟨x,st,ps,j,F⟩)(hr:Room k X.A)(ha:QA K X (e::es) t m)
 (hjk:j<=k:=by first|decide|omega) (hg:Gl X x:=by rfl) (hdb:(x==("__debug__":Str))=false:=by decide) (he:starEach (e::es) X.env=(false,eval e X.env)::starEach es X.env:=by rfl) (hpl:(backTo pos (starEach es X.env)).any (·.1)=false:=by rfl) (hK:X.K=K:=by rfl):
 QE K X (.Call (.Name x p) (e::es) [] pos) (Ej (spF K ps.length F) [] E0 t) (A8 w F m):=by
 subst hK;obtain⟨f,fd,D,G,l⟩:=G;exact Sw _ w G hr D ha l hjk hg hdb he hpl
def qcG(G:Kn ⟨X.prog,X.w,X.K,X.mg,X.base⟩ ⟨x,st,ps,j,F⟩)(hr:Room k X.A)(ha:QA K X (e::es) t m)
 (hjk:j<=k:=by first|decide|omega) (hg:Gl X x:=by rfl) (hdb:(x==("__debug__":Str))=false:=by decide) (he:starEach (e::es) X.env=(false,eval e X.env)::starEach es X.env:=by rfl) (hpl:(backTo pos (starEach es X.env)).any (·.1)=false:=by rfl) (hK:X.K=K:=by rfl):
 QE K X (.Call (.Name x p) (e::es) [] pos) (Ej (spF K ps.length F) [] E0 t) (Do F m):=by
 subst hK;obtain⟨f,fd,D,G,l⟩:=G;exact Sx _ G hr D ha l hjk hg hdb he hpl
variable{c P:Addr}{scope:Scope}{ix:List Nat}{params:Arguments}{body:Expr}{lpos kpos:Pos}{te tb:TE}{mi mb:ME}{fd:FuncData}{cdv:Value}{q:Str}
def T2(a:Arguments):Str:=match a.args with
 |x::_=>x.arg
 |[]=>""
def YI{src:Ls->Hd->Option (List Int×Hd)}(LC:LamC X.K X.mg X.base fd c P q lpos)(hcd:fd.code=cdv)(hr:Room k X.A)(hm:X.mg "sorted"=none)(he:QSrc K X e te src)
 (hb:∀(f:Addr) (cd:Value) (s:Shared) (H:Hp),QE K (lCx X X.A.in1.in1 (T2 params::frN X ix) (X.env.qual++"<lambda>") scope f cd (Al X.env.cells scope.names []) s H) body tb mb)
 (hcv:X.env.code=cdv:=by rfl) (hq:q=X.env.qual++"<lambda>":=by rfl) (S:CSc X scope (frN X ix) ix:=by exact⟨rfl,by decide +kernel,rfl,rfl,rfl,by decide +kernel⟩) (L:LSc scope (T2 params):=by exact⟨rfl,rfl,rfl,rfl⟩) (h3:3<=k:=by decide)
 (hbind:∀(cl:List (Str×Addr)) (pm cd ctv us:Value),bindArgs (kla_fn "<lambda>" (X.env.qual++"<lambda>") params body scope cl pm cd ctv) ⟨[us],[]⟩=pure [(T2 params,us)]:=by exact λ_ _ _ _ _=>rfl)
 (hcm:X.calm=true:=by rfl) (hg:Gl X "sorted":=by rfl) (hdef:defaultsOf params X.env=([],[]):=by rfl) (hs:starEach [e] X.env=[(false,eval e X.env)]:=by rfl) (hK:X.K=K:=by rfl):
 QN K X (.Call (.Name "sorted" p) [e] [⟨some "key",.Lambda params body scope lpos,kpos⟩] pos) (Ir K P (X.env.qual++"<lambda>") lpos ix te tb) (EN src ix mb):=by
 subst hq;exact So K ⟨hcv.trans (hcd.symm.trans LC.code),LC.hd,LC.bl⟩ (hK ▸ LC.ti) S L hr h3 hm he hb hbind hcm hg hdef hs hK
end
def FnAt(K:PySem.W.Frag)(n:Str)(s:Stmt)(f:Addr)(cd:Value):Prop:=∃oc kV dc pm ct od an sl,PySem.W.nsIn K mainGlobals n=some (some (.ref f))/\K.lookup f=some ⟨oc,od,.func (PySem.W.fnOf n n (CP s) (B9 s) (AB s) .none kV dc pm an cd ct),sl⟩/\PySem.W.codeIn K cd n=true/\PySem.W.keepIn K (.ref f)=true
def Fe(K:PySem.W.Frag)(e:Df):Prop:=∃f cd,FnAt K e.x e.st f cd
def Fla(K:PySem.W.Frag)(e:Df)(p:Addr):Prop:=∃f ca ob,FnAt K e.x e.st f (.ref ca)/\K.lookup ca=some ob/\S9 ob=some p
abbrev Xs:=List (Str×Str×Nat×Nat)
def HX(xs:Xs)(mg:Str->Option Value)(h:Heap)(c P:Str->Addr):Prop:=∀x∈xs,h.get? (P x.1)=some (tabObj #[])/\CodeHd h (c x.1) (P x.1)/\∃a o fd,mg x.1=some (.ref a)/\h.get? a=some o/\o.data=.func fd/\fd.code=.ref (c x.1)
abbrev tbs(xs:Xs)(P:Str->Addr):List Tb:=xs.map λx=>(P x.1,x.2)
abbrev enM(l:PySem.W.OpenLaw)(w:World)(K:PySem.W.Frag)(xs:Xs)(P:Str->Addr)(mg:Str->Option Value)(base:Heap):EnK:=⟨l.prog,w,B3 K (tbs xs P),mg,base⟩
def Bd(e:Df):Prop:=∀(kV doc pm:Value) (an:Option Addr) (cdv ct:Value) (us:List Value),us.length=e.ps.length->bindArgs (PySem.W.fnOf e.x e.x (CP e.st) (B9 e.st) (AB e.st) .none kV doc pm an cdv ct) ⟨us,[]⟩=pure (e.ps.zip us)
section
variable{K:PySem.W.Frag}{h:Heap}{mg:Str->Option Value}{xs:Xs}{c P:Str->Addr}(X:K.In h)(G:h.Ns mainGlobals mg)(hx:HX xs mg h c P)
include hx in
theorem PJ:∀P'∈(tbs xs P).map (·.1),h.get? P'=some (tabObj #[]):=λP' hp=>by
 obtain⟨t,ht,rfl⟩:=mem_map.mp hp;obtain⟨x,hxx,rfl⟩:=mem_map.mp ht;exact(hx x hxx).1
include X G hx in
theorem FnAt.def{e:Df}{f:Addr}{cd:Value}(H:FnAt K e.x e.st f cd)(b:Bd e):∃fd,DefAt (B3 K (tbs xs P)) mg e.x e.st f fd e.ps/\fd.code=cd:=by
 obtain⟨oc,kV,dc,pm,ct,od,an,sl,a,l,cc,k⟩:=H;have F:=Fun.mark (ts:=tbs xs P) (Qz (st:=e.st) l cc k) X (PJ hx);exact⟨_,⟨F,PySem.W.mg_of X G a,F.binds b⟩,rfl⟩
include X G hx in
theorem Fe.dn{e:Df}(H:Fe K e)(b:Bd e)(l:PySem.W.OpenLaw)(w:World)(base:Heap):Dn (enM l w K xs P mg base) e:=by
 obtain⟨f,cd,H⟩:=H;obtain⟨fd,D,_⟩:=H.def X G hx b;exact⟨f,fd,D⟩
include X G hx in
theorem Fla.code{e:Df}{p:Addr}(H:Fla K e p){q:Str}{i j:Nat}(hm:(e.x,q,i,j)∈xs):P e.x=p/\∃f,FnAt K e.x e.st f (.ref (c e.x)):=by
 obtain⟨f,ca,ob,⟨oc,kV,dc,pm,ct,od,an,sl,a,l,cc,k⟩,t,v⟩:=H;obtain⟨_,hh,a',ob',fd,h1,h2,h3,h4⟩:=hx _ hm;have e1:=h1.symm.trans (PySem.W.mg_of X G a);cases e1;have e2:=h2.symm.trans (X _ _ l);cases e2;cases h3;have e3:Value.ref ca=.ref (c e.x):=h4;cases e3;exact⟨XT X hh t v,f,⟨_,_,_,_,_,_,_,_,a,l,cc,k⟩⟩
include X G hx in
theorem Fla.dl{e:Df}{p:Addr}(H:Fla K e p)(b:Bd e){q:Str}{i j:Nat}(hm:(e.x,q,i,j)∈xs){i' j':Nat}(l:PySem.W.OpenLaw)(w:World){base:Heap}(hd:∀x∈xs,CodeHd base (c x.1) (P x.1))(bl:∀x∈xs,base.BuiltinsAt mg (P x.1))(nd:((Cu (B3 K (tbs xs P))).map (·.1)).Nodup)(hq:q=(e.x++".<locals>.")++"<lambda>"):
 Dl (enM l w K xs P mg base) e ⟨i,j,i',j'⟩:=by
 obtain⟨_,f,H⟩:=H.code X G hx hm;obtain⟨fd,D,e1⟩:=H.def X G hx b;subst hq;exact⟨f,fd,_,_,D,⟨e1,hd _ hm,bl _ hm,⟨i,j,0,0⟩,by rw[Gn];exact mem_map.mpr ⟨(P e.x,_,i,j),mem_map.mpr ⟨_,hm,rfl⟩,rfl⟩,nd,rfl,rfl⟩⟩
def al{ps:List Addr}(h:(xs.map λx=>P x.1)=ps)(n:ps.Nodup):((Cu (B3 K (tbs xs P))).map (·.1)).Nodup:=by
 rw[Gn,map_map,map_map];subst h;exact n
end
def Zs(K:PySem.W.Frag):Prop:=∀n∈(["list","tuple","len","range","repr","sum","min","max","abs","all","any","sorted","zip","isinstance","int","bool","str","set","enumerate","reversed","dict"]:List Str),PySem.W.nsIn K mainGlobals n=some none
def Zs.blt{K:PySem.W.Frag}(Z:Zs K){h:Heap}{mg:Str->Option Value}(X:K.In h)(G:h.Ns mainGlobals mg):BltA mg:=by
 constructor<;>exact PySem.W.mg_none_of X G (Z _ (by simp))
def bd1{e:Df}(hl:e.ps.length=1:=by rfl)(h:∀(kV doc pm:Value) (an:Option Addr) (cdv ct:Value) a,bindArgs (PySem.W.fnOf e.x e.x (CP e.st) (B9 e.st) (AB e.st) .none kV doc pm an cdv ct) ⟨[a],[]⟩=pure (e.ps.zip [a]):=by intros;rfl):Bd e:=λ_ _ _ _ _ _ us hu=>match us,hu.trans hl with|[_],_=>h ..
def bd2{e:Df}(hl:e.ps.length=2:=by rfl)(h:∀(kV doc pm:Value) (an:Option Addr) (cdv ct:Value) a b,bindArgs (PySem.W.fnOf e.x e.x (CP e.st) (B9 e.st) (AB e.st) .none kV doc pm an cdv ct) ⟨[a,b],[]⟩=pure (e.ps.zip [a,b]):=by intros;rfl):Bd e:=λ_ _ _ _ _ _ us hu=>match us,hu.trans hl with|[_,_],_=>h ..
def bd3{e:Df}(hl:e.ps.length=3:=by rfl)(h:∀(kV doc pm:Value) (an:Option Addr) (cdv ct:Value) a b c,bindArgs (PySem.W.fnOf e.x e.x (CP e.st) (B9 e.st) (AB e.st) .none kV doc pm an cdv ct) ⟨[a,b,c],[]⟩=pure (e.ps.zip [a,b,c]):=by intros;rfl):Bd e:=λ_ _ _ _ _ _ us hu=>match us,hu.trans hl with|[_,_,_],_=>h ..
def bd4{e:Df}(hl:e.ps.length=4:=by rfl)(h:∀(kV doc pm:Value) (an:Option Addr) (cdv ct:Value) a b c d,bindArgs (PySem.W.fnOf e.x e.x (CP e.st) (B9 e.st) (AB e.st) .none kV doc pm an cdv ct) ⟨[a,b,c,d],[]⟩=pure (e.ps.zip [a,b,c,d]):=by intros;rfl):Bd e:=λ_ _ _ _ _ _ us hu=>match us,hu.trans hl with|[_,_,_,_],_=>h ..
def Ax{N ps:List Str}{sc:Scope}(h:(decide (sc.kind=.function)&&!sc.isCoroutine&&!sc.isGenerator&&ndB N&&(N.take ps.length==ps)&&(ps.all λx=>sc.names.lookup x==some .local||sc.names.lookup x==some .cell)&&sc.names.all λy=>y.2 != .free)=true):FnScope N ps sc:=by
 simp only[Bool.and_eq_true,all_eq_true,Bool.or_eq_true,beq_iff_eq,decide_eq_true_eq,Bool.not_eq_true',bne_iff_ne]at h;obtain⟨⟨⟨⟨⟨⟨h1,h2⟩,h3⟩,h4⟩,h5⟩,h6⟩,h7⟩:=h;exact⟨h1,h2,h3,Fq h4,h5,h6,h7⟩
abbrev HG(l:PySem.W.OpenLaw)(w:World)(K:PySem.W.Frag)(xs:Xs)(mg:Str->Option Value)(c P:Str->Addr)(fa:Addr)(e:Df):Prop:=(∃g,K.lookup mainGlobals=some g)/\∃fd:FuncData,(∀(s:Shared) (v:Value),BindsTo s fd ⟨[v],[]⟩ [("_law_script",v)])/\∀base:Heap,(B3 K (tbs xs P)).In base->base.Ns mainGlobals mg->(∀x∈xs,CodeHd base (c x.1) (P x.1))->(∀x∈xs,base.BuiltinsAt mg (P x.1))->FnOk l.prog w (B3 K (tbs xs P)) mg base CX0 e.k fa fd ["_law_script"] (spF (B3 K (tbs xs P)) 1 e.F)
def Ta{l:PySem.W.OpenLaw}{w:World}{K:PySem.W.Frag}{h:Heap}{mg:Str->Option Value}{fa:Addr}{xs:Xs}{c P:Str->Addr}{e:Df}(X:K.In h)(G:h.Ns mainGlobals mg)(hfa:mg e.x=some (.ref fa))(hx:HX xs mg h c P)(H:Fe K e)(b:Bd e)(hps:e.ps=(["_law_script"]:List Str))
 (ok:∀base:Heap,(∀x∈xs,CodeHd base (c x.1) (P x.1))->(∀x∈xs,base.BuiltinsAt mg (P x.1))->Kn (enM l w K xs P mg base) e):
 HG l w K xs mg c P fa e:=by
 obtain⟨f,cd,H⟩:=H;obtain⟨fd,D,_⟩:=H.def X G hx b;obtain⟨oc,kV,dc,pm,ct,od,an,sl,a,lk,cc,k⟩:=H;have hg:∃g,K.lookup mainGlobals=some g:=by
  cases e:K.lookup mainGlobals with
  |some g=>exact⟨g,rfl⟩
  |none=>unfold PySem.W.nsIn at a;rw[e]at a;cases a
 have e1:=hfa.symm.trans D.mg;cases e1;refine⟨hg,fd,λs v=>?_,λbase _ _ hd bl=>?_⟩
 .obtain⟨⟨oc',od',kV',dc',pm',an',cd',ct',sl',rfl,_,_⟩,_⟩:=D.fn;have:=b kV' dc' pm' an' cd' ct' [v] (by rw[hps];rfl);rw[hps]at this;exact .of_eq this
 .obtain⟨f',fd',D',F',_⟩:=ok base hd bl;have e2:=D.mg.symm.trans D'.mg;cases e2;obtain⟨⟨oc',od',kV',dc',pm',an',cd',ct',sl',h1,h2,_⟩,_⟩:=D.fn;obtain⟨⟨oc2,od2,kV2,dc2,pm2,an2,cd2,ct2,sl2,h3,h4,_⟩,_⟩:=D'.fn;have e3:=h2.symm.trans h4;cases e3;rw[hps]at F';exact F'
end L2
namespace L2
open PySem PySem.Spec PyProof.Rows
def PZ(v:Option Addr)(h:Heap)(T:Addr):Prop:=∃oT ts,h.get? T=some oT/\oT.data=.fields ts/\ts[3]?=some (v.elim Value.none λf=>rawInt f)
def cA(h:Heap)(T:Addr):Prop:=∃oT ts,h.get? T=some oT/\oT.data=.fields ts/\3<ts.size
def TbL(L:Addr)(h:Heap)(a:Addr)(tb:Value):Prop:=tb=.none∨∃T v,tb=.ref T/\T≠a/\(v=none∨v=some L)/\PZ v h T
section
variable{M:Model}{A:Around}{E:Value->Shared->Prop}{s:Shared}{base:Heap}{env:Env}{outer:List Env}{L a C dx:Addr}{tb:Value}
def Nm{Q:Unit->Shared->Prop}(hfr:A.frames=some (env::outer))(hl:s.heap.FunFrames base (env::outer))(hf:env.frame=some L)(he:Exo s.heap a C dx tb)(ht:TbL L s.heap a tb)
 (h:∀h' T,(s.heap.objs.size<=T∨tb=.ref T)->T≠a->Exo h' a C dx (.ref T)->cA h' T->Note (frs (env::outer)) a tb s.heap h'->Q () { s with heap:=h' }):
 wpAny M A (noteFrame (.ref a) env) Q E s:=by
 have he0:=he;obtain⟨vs,sl,ha,h1⟩:=he;have sz:1<vs.size:=(Array.getElem?_eq_some_iff.mp h1).1;have frF:∀b∈frs (env::outer),∃o,s.heap.get? b=some o/\∀vs,o.data≠.fields vs:=λb hb=>(hl.mem hb).2;have naF:a∉frs (env::outer):=λhb=>by
  obtain⟨o,e,n⟩:=frF a hb;rw[ha]at e;cases e;exact n vs rfl
 have main:∀(h0:Heap) (hadNext:Bool),h0.objs.size=s.heap.objs.size->h0.get? a=some ⟨.ref C,some dx,.fields vs,sl⟩->(∀b o,s.heap.get? b=some o->.ref b≠tb->h0.get? b=some o)->(∀b o,s.heap.get? b=some o->∃o',h0.get? b=some o')->h0.FunFrames base (env::outer) ->
  wpAny M A (do let f <- frameOf env;let pl <- entryPlaceOf L hadNext;let b <- EntryCells.newEntry tb f .none (rawInt L) .none pl;setField (.ref a) 1 b) Q E { s with heap:=h0 }:=by
  intro h0 hadNext hz ha0 k0 t0 hl0;refine wpAny_bind (wpAny_frameOf_fun (s:={ s with heap:=h0 }) hfr hl0 hf λh1' hs1=>?_);refine wpAny_bind (wpAny_entryPlaceOf λpl hpl=>?_);unfold EntryCells.newEntry newFields;refine wpAny_bind (wpAny_newObj_type ?_ (hpl.sizeOk5 _ _ _ _ _));generalize hob:({ cls:=.type "traceback",dict:=none,data:=.fields ([tb,.ref L,.none,rawInt L,.none]++(if pl.isEmpty then List.replicate 6 Value.none else pl)).toArray }:Obj)=ob;have hobd:ob.data=.fields ([tb,.ref L,.none,rawInt L,.none]++(if pl.isEmpty then List.replicate 6 Value.none else pl)).toArray:=by rw[<- hob]
  have z1:h1'.objs.size=s.heap.objs.size:=hs1.1.trans hz;have ha1:h1'.get? a=some ⟨.ref C,some dx,.fields vs,sl⟩:=(hs1.2.1 a naF).trans ha0;have ha2:=Heap.get?_push_of_some (h:=h1') ob ha1;have nT:h1'.objs.size≠a:=ne_of_gt (Heap.lt_size ha1);have ha3:=Heap.get?_update_self (Obj.mapFields (·.setIfInBounds 1 (Value.ref h1'.objs.size))) ha2 (Obj.isFreed_of_fields (Obj.data_mapFields rfl _));have hT3:=(Heap.get?_update_other (h1'.push ob) (Obj.mapFields (·.setIfInBounds 1 (Value.ref h1'.objs.size))) (Ne.symm nT)).trans (Heap.get?_push_size h1' (by rw[<- hob];rfl));have three:3<([tb,.ref L,.none,rawInt L,.none]++(if pl.isEmpty then List.replicate 6 Value.none else pl)).toArray.size:=by simp only[size_toArray,length_append,length_cons,length_nil];omega
  refine wpAny_setField ha2 rfl sz (h _ h1'.objs.size (.inl (Nat.le_of_eq z1.symm)) nT ⟨_,sl,ha3,by simp[sz]⟩ ⟨_,_,hT3,hobd,three⟩ ?_);have up:∀b o,h1'.get? b=some o->b≠a->((h1'.push ob).update a (Obj.mapFields (·.setIfInBounds 1 (Value.ref h1'.objs.size)))).get? b=some o:=λb o e n=>by
   rw[Heap.get?_update_other _ _ (Ne.symm n)];exact Heap.get?_push_of_some _ e
  refine⟨λb o e n1 n2 n3=>up b o ((hs1.2.1 b n3).trans (k0 b o e n2)) n1,λb o e hb=>?_,λb o e=>?_⟩
  .obtain⟨o',e',n⟩:=frF b hb;rw[e]at e';cases e';have hbt:.ref b≠tb:=by
    rcases ht with rfl|⟨T,v,rfl,_,_,oT,ts,eT,dT,_⟩
    .exact λq=>by cases q
    .intro q;cases q;rw[e]at eT;cases eT;exact n ts dT
   obtain⟨sl',e1⟩:=hs1.2.2 b o (k0 b o e hbt);exact⟨sl',up b _ e1 λq=>naF (q ▸ hb)⟩
  .by_cases q:b=a
   .subst q;exact⟨_,ha3⟩
   .obtain⟨o0,e0⟩:=t0 b o e;obtain⟨sl',e1⟩:=hs1.2.2 b o0 e0;exact⟨_,up b _ e1 q⟩
 unfold noteFrame;simp only[hf];refine wpAny_bind (wpAny_field ha rfl h1 ?_);rcases ht with rfl|⟨T,v,rfl,nTa,hv,oT,ts,eT,dT,e3⟩
 .rw[if_neg (by decide)];exact main s.heap _ rfl ha (λb o e _=>e) (λb o e=>⟨o,e⟩) hl
 .rw[if_pos (show(Value.ref T != Value.none)=true from by simp)];refine wpAny_bind (wpAny_field eT dT e3 ?_);rcases hv with rfl|rfl
  .rw[if_neg (by simp[rawInt])];refine wpAny_bind (wpAny_setField eT dT (Array.getElem?_eq_some_iff.mp e3).1 ?_);have oth:∀b,b≠T->(s.heap.update T (Obj.mapFields (·.setIfInBounds 3 Value.none))).get? b=s.heap.get? b:=λb n=>Heap.get?_update_other _ _ (Ne.symm n);refine main _ _ (by simp) ((oth a (Ne.symm nTa)).trans ha) (λb o e n=>(oth b λq=>n (by rw[q])).trans e) (λb o e=>?_) (hl.of_keeps λb o e n=>⟨o,(oth b λq=>?_).trans e,rfl⟩)
   .by_cases q:b=T
    .subst q;exact⟨_,Heap.get?_update_self _ eT (Obj.isFreed_of_fields (Obj.data_mapFields dT _))⟩
    .exact⟨o,(oth b q).trans e⟩
   .subst q;rw[eT]at e;cases e;exact n ts dT
  .rw[if_pos (by simp)];exact wpAny_pure (h s.heap T (.inr rfl) nTa he0 ⟨oT,ts,eT,dT,(Array.getElem?_eq_some_iff.mp e3).1⟩ ⟨λb o e _ _ _=>e,λb o e _=>⟨o.slots,e⟩,λb o e=>⟨o,e⟩⟩)
def Jv(v:Option Addr){Q:Unit->Shared->Prop}(hfr:A.frames=some (env::outer))(hl:s.heap.FunFrames base (env::outer))(hf:env.frame=some L)(he:Exo s.heap a C dx tb)(ht:TbL L s.heap a tb)
 (h:∀h' T,(s.heap.objs.size<=T∨tb=.ref T)->T≠a->Exo h' a C dx (.ref T)->PZ v h' T->Note (frs (env::outer)) a tb s.heap h'->Q () { s with heap:=h' }):
 wpAny M A (noteFrame (.ref a) env) (λ_ s2=>wpAny M A (setFlight (.ref a) v) Q E s2) E s:=by
 refine Nm hfr hl hf he ht λh' T hT nT ex tr N=>?_;obtain⟨vs,sl,ha,h1⟩:=id ex;obtain⟨oT,ts,eT,dT,lt⟩:=tr;unfold setFlight;refine wpAny_bind (wpAny_field (s:={ s with heap:=h' }) ha rfl h1 ?_);rw[if_pos (show(Value.ref T != Value.none)=true from by simp)];have oth:∀b,b≠T->(h'.update T (Obj.mapFields (·.setIfInBounds 3 (v.elim Value.none λf=>rawInt f)))).get? b=h'.get? b:=λb n=>Heap.get?_update_other _ _ (Ne.symm n);have nF:T∉frs (env::outer):=λhb=>by
  obtain⟨o,e,n⟩:=(hl.mem hb).2;rcases hT with z|z
  .exact absurd (Heap.lt_size e) (not_lt.mpr z)
  .rcases ht with y|⟨T',v',y,_,_,oT',ts',eT',dT',_⟩
   .rw[y]at z;cases z
   .rw[y]at z;cases z;rw[e]at eT';cases eT';exact n ts' dT'
 refine wpAny_setField (s:={ s with heap:=h' }) eT dT lt (h _ T hT nT ⟨vs,sl,(oth a (Ne.symm nT)).trans ha,h1⟩ ⟨_,_,Heap.get?_update_self _ eT (Obj.isFreed_of_fields (Obj.data_mapFields dT _)),Obj.data_mapFields dT _,by simp[lt]⟩ ⟨λb o e n1 n2 n3=>?_,λb o e hb=>?_,λb o e=>?_⟩)
 .have:b≠T:=λz=>by
   subst z;rcases hT with z|z
   .exact absurd (Heap.lt_size e) (not_lt.mpr z)
   .exact n2 z.symm
  rw[oth b this];exact N.keep b o e n1 n2 n3
 .obtain⟨sl',e1⟩:=N.slot b o e hb;exact⟨sl',(oth b λz=>nF (z ▸ hb)).trans e1⟩
 .obtain⟨o',e1⟩:=N.there b o e;by_cases z:b=T
  .subst z;exact⟨_,Heap.get?_update_self _ eT (Obj.isFreed_of_fields (Obj.data_mapFields dT _))⟩
  .exact⟨o',(oth b z).trans e1⟩
def TU{Q:Unit->Shared->Prop}(hfr:A.frames=some (env::outer))(hl:s.heap.FunFrames base (env::outer))(hf:env.frame=some L)(he:Exo s.heap a C dx tb)(ht:TbL L s.heap a tb)
 (h:∀h' T,(s.heap.objs.size<=T∨tb=.ref T)->T≠a->Exo h' a C dx (.ref T)->PZ none h' T->Note (frs (env::outer)) a tb s.heap h'->Q () { s with heap:=h' }):wpAny M A (leaving env (.ref a)) Q E s:=by
 unfold leaving;exact wpAny_bind (Jv none hfr hl hf he ht h)
end
def XE(X:Cx)(pins:List (Addr×Obj))(Q:VK)(e:Value)(s':Shared):Prop:=∃a C dx tb fs σ' H',e=.ref a/\Inv X pins σ' H' s'/\Exo s'.heap a C dx tb/\TbL X.env.locals s'.heap a tb/\H' a=some (.ext (XO a C dx))/\
 (∀T,tb=.ref T->H' T=none/\New X pins T)/\H' dx=some (.xd fs)/\Q (.ref a) H'
def CXG(P:Program)(w:World):CXT:=λouter H s E e s'=>∃a C dx T fs H',e=.ref a/\s'.os=s.os/\AllBare s'.gens/\Un (frs outer) [] H H' s.heap s'.heap/\HOk P w H' s'.heap/\Exo s'.heap a C dx (.ref T)/\T≠a/\PZ none s'.heap T /\
 H' T=none/\s.heap.objs.size<=T/\H' a=some (.ext (XO a C dx))/\H' dx=some (.xd fs)/\E (.ref a) none H'
section
variable{X:Cx}{pins:List (Addr×Obj)}{σ:St}{H:Hp}{s s':Shared}{Q:VK}{e:Value}
def Rv{P:Program}{w:World}{K:PySem.W.Frag}{mg:Str->Option Value}{base:Heap}{N:List Str}{qual:Str}{scope:Scope}{fa:Addr}{cd:Value}{A:Around}{outer:List Env}{E:XK}{CX:CXT}{M:Model}{E':Value->Shared->Prop}
 (h:XE (DY CX P w K mg base N qual scope fa cd A outer s H E).nox pins Q e s') (hq:∀a H',Q (.ref a) H'->E (.ref a) none H'):
 wpAny M (A.deeper (envOfC qual scope s.heap.objs.size fa cd)) (leaving (envOfC qual scope s.heap.objs.size fa cd) e) (λ_ s''=>CXG P w outer H s E e s'') E' s':=by
 obtain⟨a,C,dx,tb,fs,σ',H',rfl,I,ex,ht,ha,hT,hd,q⟩:=h;have fr:=I.ok.frames;refine TU (base:=base) (L:=s.heap.objs.size) fr I.stack rfl ex ht λh' T z nT ex' tr Nt=>?_;have hfs:∀b∈frs (envOfC qual scope s.heap.objs.size fa cd::outer),H' b=none:=I.stkFree;have hok':=M8 I.hok Nt ex' ha (λT e=>(hT T e).1) hfs;have nx:∀b,b∉(DY CX P w K mg base N qual scope fa cd A outer s H E).nox.ex:=λb z=>absurd (show b∈([]:List Addr)from z) (by simp);have u:=I.base;have out:∀b o,s.heap.get? b=some o->H b=none->b≠a/\.ref b≠tb/\b≠s.heap.objs.size:=λb o e n=>by
  have n':H' b=none:=u.free b o e n (nx b);refine⟨(λz=>by subst z;rw[ha]at n';cases n'),λz=>?_,ne_of_lt (Heap.lt_size e)⟩;rcases(hT b z.symm).2.1 with y|y
  .exact absurd y (nx b)
  .exact absurd (lt_of_lt_of_le (Heap.lt_size e) y) (lt_irrefl _)
 have inF:∀b,b∈frs (envOfC qual scope s.heap.objs.size fa cd::outer)->b=s.heap.objs.size∨b∈frs outer:=λb hb=>by
  have:frs (envOfC qual scope s.heap.objs.size fa cd::outer)=s.heap.objs.size::frs outer:=rfl;rw[this]at hb;exact mem_cons.mp hb
 have tf:H' T=none/\s.heap.objs.size<=T:=by
  rcases z with z|z
  .exact⟨I.hok.fresh z,le_trans I.sz z⟩
  .refine⟨(hT T z).1,?_⟩;rcases(hT T z).2.1 with y|y
   .exact absurd y (nx T)
   .exact y
 refine⟨a,C,dx,T,fs,H',rfl,I.os,I.bare,⟨λb o e n nf _=>?_,λb o e n hf _=>?_,λb o e n _=>u.free b o e n (nx b),λb o e _=>?_,u.tups,u.frzs,u.tbls⟩,hok',ex',nT,tr,tf.1,tf.2,ha,hd,hq a H' q⟩
 .obtain⟨n1,n2,n3⟩:=out b o e n;exact Nt.keep b o (u.keep b o e n nf (nx b)) n1 n2 λhb=>(inF b hb).elim n3 nf
 .obtain⟨sl,e1⟩:=u.slot b o e n hf (nx b);obtain⟨sl',e2⟩:=Nt.slot b _ e1 (by
   show b∈s.heap.objs.size::frs outer;exact mem_cons_of_mem _ hf)
  exact⟨sl',e2⟩
 .obtain⟨o',e1⟩:=u.there b o e (nx b);exact Nt.there b o' e1
def Pe{E:XK}(I:Inv X pins σ H s)(h:CXG X.prog X.w X.stack H s E e s')(hq:∀a H',E (.ref a) none H'->Q (.ref a) H'):XE X pins Q e s':=by
 obtain⟨a,C,dx,T,fs,H',rfl,os,bare,un,hok,ex,nT,tr,hT,z,ha,hd,q⟩:=h;exact⟨a,C,dx,.ref T,fs,σ,H',rfl,I.call' (ch:=[]) os un hok bare (λb z=>absurd z (by simp)),ex,.inr ⟨T,none,rfl,nT,.inl rfl,tr⟩,ha,λT' e=>by cases e;exact⟨hT,I.new z⟩,hd,hq a H' q⟩
end
section
variable{X:Cx}{C fI:Addr}{f:Str}{pos pos':Pos}{value o e:Expr}{ta tv te:TE}
def aD(K:PySem.W.Frag)(ta tv:TE)(f:Str):TS:=λD σ H=>tv σ H λy H1=>ta σ H1 λx H2=>∃a C t fI,x=.ref a/\H2 a=some (.ext (X0 a C t))/\XC K C fI/\Dv K C f /\
 ∀dx,H2 dx=none->dx≠a->D.nx σ (upd (upd H2 dx (.xd [(f,y)])) a (.ext (X1 a C dx t)))
def RK{P:Program}{w:World}{H:Hp}{h:Heap}{a:Addr}{o:Obj}(e:h.get? a=some o):ObjOk P w H h a (.ext λh=>h.get? a=some o):=⟨e,⟨_,e⟩,λ_ _ x k=>k _ x⟩
def Vx(ha:PE X o ta)(hv:PE X value tv)(hs:swapsWith value (some (.Attribute o f pos')) pos.line X.env=pure false):PS X (.Assign [.Attribute o f pos'] value pos) (aD X.K ta tv f):=by
 intro pins s σ H D I h;refine plainObj_wpAny_Assign_Attribute (thn (hv pins s σ H _ I h) λuv s1 ⟨y,H1,I1,ry,q⟩=>thn (ha pins s1 σ H1 _ I1 q) λov s2 ⟨x,H2,I2,rx,a,C,t,fI,ex,ea,c,n,q2⟩=>?_) hs;subst ex;obtain rfl:ov=Value.ref a:=rx;obtain⟨x0,_⟩:=(show ObjOk X.prog X.w H2 s2.heap a (.ext (X0 a C t))from I2.hok a _ ea)
 have hx:s2.heap.get? a=some ⟨.ref C,none,.fields #[.ref t,.none,.none,.none,.bool false,.none],#[]⟩:=x0;refine Us I2.kIn c hx n λh' e1 e2 k=>⟨σ,_,?_,q2 s2.heap.objs.size (I2.hok.fresh (le_refl _)) (ne_of_gt (Heap.lt_size hx))⟩
 have nd:H2 s2.heap.objs.size=none:=I2.hok.fresh (le_refl _);have nda:s2.heap.objs.size≠a:=ne_of_gt (Heap.lt_size hx);have old:∀b u,H2 b=some u->b≠a->(upd (upd H2 s2.heap.objs.size (.xd [(f,y)])) a (.ext (X1 a C s2.heap.objs.size t))) b=some u:=λb u q n=>by
  rw[AC n,AC (AY q nd)];exact q
 have non:∀b o,s2.heap.get? b=some o->H2 b=none->(upd (upd H2 s2.heap.objs.size (.xd [(f,y)])) a (.ext (X1 a C s2.heap.objs.size t))) b=none/\b≠a:=λb o q n=>by
  have n1:b≠a:=λz=>by rw[z,ea]at n;cases n
  exact⟨by rw[AC n1,AC (ne_of_lt (Heap.lt_size q))];exact n,n1⟩
 refine I2.un ⟨λb o q n _ _=>k b o (non b o q n).2 q,λb o q n _ _=>⟨o.slots,k b o (non b o q n).2 q⟩,λb o q n _=>(non b o q n).1,λb o q _=>?_,λb xs q=>old b _ q (λz=>by rw[z,ea]at q;cases q),λb o u q=>old b _ q (λz=>by rw[z,ea]at q;cases q),
  λb ps q=>⟨#[],by rw[old b _ q (λz=>by rw[z,ea]at q;cases q)];simp⟩⟩ λb u q=>?_
 .by_cases z:b=a
  .subst z;exact⟨_,e1⟩
  .exact⟨o,k b o z q⟩
 .by_cases z:b=a
  .subst z;rw[AJ]at q;cases q;exact RK e1
  .rw[AC z]at q;by_cases z':b=s2.heap.objs.size
   .subst z';rw[AJ]at q;cases q;refine⟨_,e2,λg=>?_⟩;show RelO (List.lookup g [(f,y)]) (if g=f then some uv else none);by_cases gz:g=f
    .subst gz;rw[if_pos rfl,List.lookup_cons_self];exact ry
    .have g':(g==f)=false:=by simpa using gz
     rw[if_neg gz];unfold List.lookup;rw[g'];exact True.intro
   .rw[AC z']at q;refine(I2.hok b u q).stay (λc v hc r=>k c v ?_ r) (λc r=>old c _ r ?_) λc xs r=>old c _ r ?_
    .rcases hc with rfl|hc
     .exact z
     .intro zz;rw[zz,ea]at hc;cases hc
    .intro zz;rw[zz,ea]at r;cases r
    .intro zz;rw[zz,ea]at r;cases r
end
end L2
namespace L2
open PySem PySem.Spec PyProof.Rows
open Builtin Builtin.ObjectAttr
section
variable{prog:Program}{w:World}{A:Around}{E:Value->Shared->Prop}{s:Shared}{K:PySem.W.Frag}{C fI x dx:Addr}{name:Str}{v:Value}{mA:Str->Option Value}
def SM{sl:Array (Option Value)}{vs:Array Value}{ns:List Str}{Q:Unit->Shared->Prop}(X:K.In s.heap)(c:XC K C fI)(hx:s.heap.get? x=some ⟨.ref C,some dx,.fields vs,sl⟩)(hn:s.heap.Ns1 dx mA)(hw:Within mA ns)(hl:ns.length<=100)(na:PySem.W.findIn K (.ref C) name=some none)
 (h:∀h',h'.Ns1 dx (λy=>if y=name then some v else mA y)->(∀b o,b≠dx->s.heap.get? b=some o->h'.get? b=some o)->Q () { s with heap:=h',toks:=s.toks+2 }):
 wpAny (model prog w) A (setAttr (.ref x) name v) Q E s:=by
 have SF:=PySem.F.store_object;obtain⟨od,ho,_⟩:=HI hn;have I:PySem.W.InstAt s.heap x ⟨.ref C,some dx,.fields vs,sl⟩ C (some od):=⟨hx,rfl,rfl,ho⟩
 obtain⟨cd,hc,ov,hd⟩:=c.cls;have ne:cd.mro.isEmpty=false:=by cases q:cd.mro with|nil=>rw[q]at ov;cases ov|cons _ _=>rfl
 have sub:PySem.W.Looks (model prog w) s.heap (isInstance (.ref x) (.type "object")) true:=
  I.type.andThen (PySem.W.looks_mroIn X (by unfold PySem.W.mroIn;rw[hc,bind_some,if_neg (by rw[ne];decide),ov.has (by decide +kernel)]))
 have hm:PySem.W.Looks (model prog w) s.heap (mroOf (.ref C)) cd.mro:=(PySem.W.looks_clsIn X hc).andThen .now;refine PySem.W.set_plain X I c.sa (codeAny_call_builtin SF.slot.plain SF.entry (@PySem.W.check_slot (model prog w) _ _ _ "object.__setattr__" "object" "__setattr__" (.ref x) [.str name s.toks,v] [] _ SF.kind SF.split sub (SF.args (.ref x) (.str name s.toks) v) ?_));rw[PySem.W.osa_eq,refuse_eq];refine wpAny_bind (wpAny_bind (I.type.here (s:={ s with toks:=s.toks+1 }) (wpAny_bind (hm.here (s:={ s with toks:=s.toks+1 }) ?_))));rw[ov.sa];refine wpAny_pure (wpAny_bind (I.type.here (s:={ s with toks:=s.toks+1 }) (wpAny_bind ((PySem.W.looks_findIn X na).here (s:={ s with toks:=s.toks+1 }) (wpAny_bind (wpAny_pure ?_))))));refine wpAny_bind (wpAny_pure (wpAny_bind (wpAny_bind (wpAny_loadPart hx (wpAny_bind (PySem.W.Looks.here (s:={ s with toks:=s.toks+1 }) (PySem.W.looks_clsIn X hc) ?_))))));rw[hd];refine wpAny_pure ?_;show wpAny _ _ (storeInDict dx (.str name s.toks) name v) _ _ _;unfold storeInDict newKeyGuard;refine wpAny_bind (wpAny_pure (wpAny_bind (wpAny_nsSet1 hn λh' hn' hs=>?_)));obtain⟨oD,esD,epD,hoD,hdD,hcD⟩:=hn'.count (hw.cons name v);refine wpAny_bind (wpAny_lookBehind hoD (by rw[hdD];exact pastItsLine_dict (le_trans hcD (by rw[length_cons,sizeLine_eq];omega))) ?_);exact wpAny_pure (h h' hn' λb o n e=>(hs.2 b n).trans e)
end
section
variable{X:Cx}{C fI:Addr}{f:Str}{pos pos':Pos}{value o e:Expr}{ta tv te:TE}
def Xb(K:PySem.W.Frag)(ta tv:TE)(f:Str):TS:=λD σ H=>tv σ H λy H1=>ta σ H1 λx H2=>∃a C dx t fI fs,x=.ref a/\H2 a=some (.ext (X1 a C dx t))/\H2 dx=some (.xd fs)/\fs.length<=99/\fs.lookup f=none/\XC K C fI/\Dv K C f /\
 D.nx σ (upd H2 dx (.xd (fs++[(f,y)])))
def MP{f g:Str}{y:V}:∀{fs:List (Str×V)},(fs++[(f,y)]).lookup g=match fs.lookup g with|some v=>some v|none=>if g=f then some y else none
 |[]=>by
  rw[nil_append,lookup_cons,List.lookup_nil];by_cases h:g=f
  .subst h;simp
  .have:(g==f)=false:=beq_eq_false_iff_ne.mpr h;simp[this,h]
 |(a,b)::fs=>by
   rw[List.cons_append,lookup_cons,lookup_cons];cases(g==a)with
   |true=>rfl
   |false=>exact MP (fs:=fs)
def Sz(ha:PE X o ta)(hv:PE X value tv)(hs:swapsWith value (some (.Attribute o f pos')) pos.line X.env=pure false):PS X (.Assign [.Attribute o f pos'] value pos) (Xb X.K ta tv f):=by
 intro pins s σ H D I h;refine plainObj_wpAny_Assign_Attribute (thn (hv pins s σ H _ I h) λuv s1 ⟨y,H1,I1,ry,q⟩=>thn (ha pins s1 σ H1 _ I1 q) λov s2 ⟨x,H2,I2,rx,a,C,dx,t,fI,fs,ex,ea,ed,hl,hf,c,n,q2⟩=>?_) hs;subst ex;obtain rfl:ov=Value.ref a:=rx;obtain⟨x0,_⟩:=(show ObjOk X.prog X.w H2 s2.heap a (.ext (X1 a C dx t))from I2.hok a _ ea)
 have hx:s2.heap.get? a=some ⟨.ref C,some dx,.fields #[.ref t,.none,.none,.none,.bool false,.none],#[]⟩:=x0;obtain⟨mA,hn,hr⟩:=(show ObjOk X.prog X.w H2 s2.heap dx (.xd fs)from I2.hok dx _ ed)
 have hw:Within mA (fs.map (·.1)):=λg z=>by
  have:=hr g;cases lk:fs.lookup g with
  |none=>rw[lk]at this;cases mg:mA g with
   |none=>exact absurd mg z
   |some u=>rw[mg]at this;exact this.elim
  |some u=>
   refine mem_map.mpr ⟨(g,u),?_,rfl⟩;exact PySem.mem_of_lookup lk
 refine SM I2.kIn c hx hn hw (by rw[length_map];omega) n λh' e2 k=>⟨σ,_,?_,q2⟩
 have old:∀b u,H2 b=some u->b≠dx->(upd H2 dx (.xd (fs++[(f,y)]))) b=some u:=λb u q n=>by
  rw[AC n];exact q
 have non:∀b o,s2.heap.get? b=some o->H2 b=none->(upd H2 dx (.xd (fs++[(f,y)]))) b=none/\b≠dx:=λb o q n=>by
  have n1:b≠dx:=λz=>by rw[z,ed]at n;cases n
  exact⟨by rw[AC n1];exact n,n1⟩
 obtain⟨od,hod,_⟩:=HI e2;refine I2.un ⟨λb o q n _ _=>k b o (non b o q n).2 q,λb o q n _ _=>⟨o.slots,k b o (non b o q n).2 q⟩,λb o q n _=>(non b o q n).1,λb o q _=>?_,λb xs q=>old b _ q (λz=>by rw[z,ed]at q;cases q),λb o u q=>old b _ q (λz=>by rw[z,ed]at q;cases q),
  λb ps q=>⟨#[],by rw[old b _ q (λz=>by rw[z,ed]at q;cases q)];simp⟩⟩ λb u q=>?_
 .by_cases z:b=dx
  .subst z;exact⟨_,hod⟩
  .exact⟨o,k b o z q⟩
 .by_cases z':b=dx
  .subst z';rw[AJ]at q;cases q;refine⟨_,e2,λg=>?_⟩;rw[MP];have hg:=hr g;by_cases gz:g=f
   .subst gz;rw[if_pos rfl,hf,if_pos rfl];exact ry
   .rw[if_neg gz,if_neg gz];cases lk:fs.lookup g with
    |none=>rw[lk]at hg;exact hg
    |some u=>rw[lk]at hg;exact hg
  .rw[AC z']at q;refine(I2.hok b u q).stay (λc v hc r=>k c v ?_ r) (λc r=>old c _ r ?_) λc xs r=>old c _ r ?_
   .rcases hc with rfl|hc
    .exact z'
    .intro zz;rw[zz,ed]at hc;cases hc
   .intro zz;rw[zz,ed]at r;cases r
   .intro zz;rw[zz,ed]at r;cases r
def spJ(C:Addr)(fs:List Str):Sp:=λvs H Q _=>∃a xs t,vs=.ref a::xs/\xs.length=fs.length/\H a=some (.ext (X0 a C t))/\∀dx,H dx=none->dx≠a->Q .non (upd (upd H dx (.xd (fs.zip xs))) a (.ext (X1 a C dx t)))
end
def TH{P:Program}{w:World}{K:PySem.W.Frag}{mg:Str->Option Value}{base:Heap}{qual:Str}{st:Stmt}{C fI fa:Addr}{fd:FuncData}{f1 f2:Str}{p1 p2 p3 p4 p5 p6 p7 p8:Pos}{w1 w2:Str}(F:Fun K "__init__" qual st fa fd)(S:FnScope ["self",w1,w2] ["self",w1,w2] (AB st))
 (hb:B9 st=[.Assign [.Attribute (.Name "self" p1) f1 p2] (.Name w1 p3) p4,.Assign [.Attribute (.Name "self" p5) f2 p6] (.Name w2 p7) p8]) (c:XC K C fI) (n1:Dv K C f1) (n2:Dv K C f2) (ne:(f2==f1)=false)
 (hs1:∀cdv A outer s H E,swapsWith (.Name w1 p3) (some (.Attribute (.Name "self" p1) f1 p2)) p4.line (DY CX0 P w K mg base ["self",w1,w2] qual (AB st) fa cdv A outer s H E).env=pure false)
 (hs2:∀cdv A outer s H E,swapsWith (.Name w2 p7) (some (.Attribute (.Name "self" p5) f2 p6)) p8.line (DY CX0 P w K mg base ["self",w1,w2] qual (AB st) fa cdv A outer s H E).env=pure false)
 (v0:Vis (AB st) "self") (v1:Vis (AB st) w1) (v2:Vis (AB st) w2) (d1:(w1==("__debug__":Str))=false) (d2:(w1==("__classdict__":Str))=false) (d3:(w2==("__debug__":Str))=false) (d4:(w2==("__classdict__":Str))=false):FnOk P w K mg base CX0 1 fa fd ["self",w1,w2] (spJ C [f1,f2]):=by
 refine F.ok (N:=["self",w1,w2]) S (λvs H Q E h=>?_) λcdv A outer s H vs Q E hr hsp=>?_
 .obtain⟨a,xs,t,rfl,hl,_⟩:=h
  match xs,hl with
  |[x,y],_=>rfl
 .rw[hb];refine⟨_,M3 (Vx (Gy (i:=0) rfl v0 (by decide) (by decide)) (Gy (i:=1) rfl v1 d1 d2) (hs1 cdv A outer s H E)) (Ni (Sz (Gy (i:=0) rfl v0 (by decide) (by decide)) (Gy (i:=2) rfl v2 d3 d4) (hs2 cdv A outer s H E))),?_⟩;obtain⟨a,xs,t,rfl,hl,ha,q⟩:=hsp
  match xs,hl with
  |[x,y],_=>
  refine⟨x,rfl,.ref a,rfl,a,C,t,fI,rfl,ha,c,n1,λdx nd na=>?_⟩;refine⟨y,rfl,.ref a,rfl,a,C,dx,t,fI,[(f1,x)],rfl,AJ,by rw[AC na,AJ],by simp,by rw[lookup_cons,ne];rfl,c,n2,?_⟩;have e:upd (upd (upd H dx (.xd [(f1,x)])) a (.ext (X1 a C dx t))) dx (.xd ([(f1,x)]++[(f2,y)]))=upd (upd H dx (.xd ([f1,f2].zip [x,y]))) a (.ext (X1 a C dx t)):=by
   funext b;unfold upd
   by_cases z1:b=dx
   .have:b≠a:=λz=>na (z1 ▸ z);simp[z1,na]
   .by_cases z2:b=a
    .subst z2;simp[Ne.symm na]
    .simp[z1,z2]
  have:=q dx nd na;rw[<- e]at this;exact this
end L2
namespace L2
open PySem PySem.Spec PyProof.Rows
section
variable(C:Addr)(f:Str)
def Ends.non(D:Ends):Ends:={ D with rt:=λ_ _=>False }
end
section
variable{C fI:Addr}{f:Str}{X:Cx}{st:Stmt}{rest:List Stmt}{t u:TS}{e:Expr}{es:List Expr}{te tb:TE}{pos:Pos}
def thx{α:Type}{M:Model}{A:Around}{m:Sem α}{P Q:α->Shared->Prop}{E E':Value->Shared->Prop}{s:Shared}(h:wpAny M A m P E s)(k:∀v s,P v s->Q v s)(j:∀e s,E e s->E' e s):wpAny M A m Q E' s:=wpAny_mono h k j
def LY(t:TS):TS:=λD σ H=>t D.non σ H
def OK(ta te:TE):TE:=λσ H Q=>ta σ H λ_ H1=>te σ H1 Q
end
section
variable{X:Cx}{pins:List (Addr×Obj)}{σ:St}{H:Hp}{s:Shared}{C fI a dx:Addr}{f:Str}
def Pm{M:Model}{A:Around}{E:Value->Shared->Prop}{i:Nat}{x:Str}{v:V}{Q:Unit->Shared->Prop}(I:Inv X pins σ H s)(hN:X.N.Nodup)(hi:X.N[i]?=some x)(hk:X.env.scope.names.lookup x=some .local)(hv:σ[i]?=some (some v))
 (h:∀s',Inv X pins (σ.set i none) H s'->Q () s'):wpAny M A (unbindName X.env x) Q E s:=by
 obtain⟨m,hn,hl⟩:=id I.loc;have hcls:(X.env.scope.kind==.class||(X.env.scope.kind==.module&&X.env.locals != X.env.globals))=false:=by rw[I.ok.kind];rfl
 have hiσ:i<σ.length:=by rw[I.len];exact(List.getElem?_eq_some_iff.mp hi).1
 obtain⟨u,_,lk⟩:=hl i x v hi hv (.inl hk);have mu:m x=some u:=by
  rcases lk with⟨_,e⟩|⟨k,_⟩
  .exact e
  .rcases k with k|k<;>(have k':X.env.scope.names.lookup x=_:=k;rw[hk]at k';cases k')
 refine wpAny_unbindName_local hk hn mu hcls λh' u' hn' hs=>?_;obtain⟨oL,_,_,hoL,_⟩:=id hn;have low:∀b o,X.s₀.heap.get? b=some o->b≠X.env.locals:=λb o e=>ne_of_lt (lt_of_lt_of_le (Heap.lt_size e) I.ok.above);refine h _ ⟨I.ok,I.os,I.bare,⟨λb o e n hb hx=>(hs.2 b (low b o e)).trans (I.base.keep b o e n hb hx),λb o e n hb hx=>?_,I.base.free,λb o e hx=>?_,I.base.tups,I.base.frzs,I.base.tbls⟩,⟨_,hn',λj y v' e1 e2 e3=>?_⟩,λy c e=>?_,I.free,I.freeC,λp hp=>?_,λb ob e=>?_,by simpa using I.len⟩
 .obtain⟨sl,e1⟩:=I.base.slot b o e n hb hx;exact⟨sl,(hs.2 b (low b o e)).trans e1⟩
 .obtain⟨o',e1⟩:=I.base.there b o e hx;exact⟨o',(hs.2 b (low b o e)).trans e1⟩
 .by_cases hj:j=i
  .subst hj;rw[List.getElem?_set_self hiσ]at e2;cases e2
  .rw[List.getElem?_set_ne (Ne.symm hj)]at e2;obtain⟨u',r',q⟩:=hl j y v' e1 e2 e3;refine⟨u',r',?_⟩;rcases q with⟨k,e⟩|⟨k,c,e,z⟩
   .refine .inl ⟨k,?_⟩;have:y≠x:=λe=>hj (IY hN e1 (e ▸ hi));simp[this,e]
   .exact .inr ⟨k,c,e,z.sameBut hs (I.cne y c e)⟩
 .obtain⟨w',z⟩:=I.cell y c e;exact⟨w',z.sameBut hs (I.cne y c e)⟩
 .obtain⟨e,n,ne,nf,d⟩:=I.pin p hp;exact⟨(hs.2 p.1 ne).trans e,n,ne,nf,d⟩
 .refine(I.hok b ob e).stay (λc w' hc q=>(hs.2 c ?_).trans q) (λ_ q=>q) λ_ _ q=>q;rintro rfl;rcases hc with z|hc
  .rw[<- z,I.free]at e;cases e
  .rw[I.free]at hc;cases hc
def IX{tb:Value}{T:Addr}{h':Heap}(I:Inv X pins σ H s)(ha:H a=some (.ext (XO a C dx)))(hT:∀T,tb=.ref T->H T=none/\New X pins T)(N:Note (frs X.stack) a tb s.heap h')(ex:Exo h' a C dx (.ref T)):Inv X pins σ H { s with heap:=h' }:=by
 have na:∀b,H b=none->b≠a:=λb n z=>by rw[z,ha]at n;cases n
 have hok:=M8 I.hok N ex ha (λT e=>(hT T e).1) I.stkFree;have all:∀ch:List Addr,(∀b,.ref b=tb->b∈ch)->Un (frs X.stack) ch H H s.heap h':=λch hc=>
  ⟨λb o e n nf nc=>N.keep b o e (na b n) (λz=>nc (hc b z)) nf,λb o e n hf nc=>N.slot b o e hf,λ_ _ _ n _=>n,λb o e _=>N.there b o e,λ_ _ e=>e,λ_ _ _ e=>e,λb ps e=>⟨#[],by rw[e];simp⟩⟩
 by_cases q:∃T,tb=.ref T
 .obtain⟨T0,e⟩:=q;exact I.call' (s':={ s with heap:=h' }) (ch:=[T0]) rfl (all [T0] λb z=>by rw[e]at z;cases z;simp) hok I.bare λb hb=>by
   have:b=T0:=by simpa using hb
   subst this;exact(hT b e).2
 .exact I.call' (s':={ s with heap:=h' }) (ch:=[]) rfl (all [] λb z=>absurd ⟨b,z.symm⟩ q) hok I.bare λb hb=>absurd hb (by simp)
abbrev Cx.hand(X:Cx)(e:Value):Cx:={ X with A:=X.A.mark (some e),calm:=false,xe:=λ_ _=>False }
def Inv.hand(I:Inv X pins σ H s)(e:Value):Inv (X.hand e) pins σ H s:=
 ⟨⟨I.ok.mod,I.ok.kind,I.ok.glob,I.ok.blt,I.ok.above,I.ok.inj,I.ok.has,I.ok.cab,(λh=>by cases h),I.ok.frames,I.ok.stk,I.ok.exf,I.ok.bs,I.ok.bsz,I.ok.noex,I.ok.exfs,I.ok.funs,I.ok.frf⟩,I.os,I.bare,I.base,I.loc,I.cell,I.free,I.freeC,I.pin,I.hok,I.len⟩
def Inv.unhand{e:Value}(I:Inv (X.hand e) pins σ H s)(hd:X.calm=true->X.A.handled=none):Inv X pins σ H s:=
 ⟨⟨I.ok.mod,I.ok.kind,I.ok.glob,I.ok.blt,I.ok.above,I.ok.inj,I.ok.has,I.ok.cab,hd,I.ok.frames,I.ok.stk,I.ok.exf,I.ok.bs,I.ok.bsz,I.ok.noex,I.ok.exfs,I.ok.funs,I.ok.frf⟩,I.os,I.bare,I.base,I.loc,I.cell,I.free,I.freeC,I.pin,I.hok,I.len⟩
end
def GX(X:Cx)(st:Stmt)(t:TS):Prop:=
 ∀(pins:List (Addr×Obj)) (s:Shared) (σ:St) (H:Hp) (D:Ends),Inv X pins σ H s->t D σ H->wpAny (model X.prog X.w) X.A (exec st X.env) (SP X pins D.non) (XE X pins D.rt) s
def GXs(X:Cx)(st:List Stmt)(t:TS):Prop:=
 ∀(pins:List (Addr×Obj)) (s:Shared) (σ:St) (H:Hp) (D:Ends),Inv X pins σ H s->t D σ H->wpAny (model X.prog X.w) X.A (execs st X.env) (SP X pins D.non) (XE X pins D.rt) s
def GXE(X:Cx)(e:Expr)(t:TE):Prop:=
 ∀(pins:List (Addr×Obj)) (s:Shared) (σ:St) (H:Hp) (Q:VK),Inv X pins σ H s->t σ H Q->wpAny (model X.prog X.w) X.A (eval e X.env) (λ_ _=>False) (XE X pins Q) s
def GXA(X:Cx)(es:List Expr)(t:TE):Prop:=
 ∀(pos:Pos) (pins:List (Addr×Obj)) (s:Shared) (σ:St) (H:Hp) (Q:VK),Inv X pins σ H s->t σ H Q->wpAny (model X.prog X.w) X.A (spliced (backTo pos (starEach es X.env))) (λ_ _=>False) (XE X pins Q) s
section
variable{C fI:Addr}{X:Cx}{st:Stmt}{rest:List Stmt}{t u:TS}{e:Expr}{es:List Expr}{te tb:TE}{pos:Pos}
def O0(h:PS X.nox st t):GX X st (LY t):=λpins s σ H D I q=>thx (h pins s σ H D.non (I.wish _) q) (λ_ _ z=>z.unwish) λ_ _ z=>z.elim
def Tc(h:PSs X.nox rest t):GXs X rest (LY t):=λpins s σ H D I q=>thx (h pins s σ H D.non (I.wish _) q) (λ_ _ z=>z.unwish) λ_ _ z=>z.elim
def Td(h1:GX X st t)(h2:GXs X rest u):GXs X (st::rest) (LX t u):=by
 intro pins s σ H D I h;refine wpAny_execs_cons (thx (h1 pins s σ H { D with nx:=u D } I h) (λfl s1 q=>?_) λ_ _ z=>z);cases fl with
 |next=>
  obtain⟨σ',H',I',q⟩:=q;exact h2 pins s1 σ' H' D I' q
 |ret v=>exact q
 |brk=>exact q
 |cont=>exact q
def Wq(h1:GX X st t):GXs X [st] t:=by
 intro pins s σ H D I h;refine wpAny_execs_cons (thx (h1 pins s σ H D I h) (λfl s1 q=>?_) λ_ _ z=>z);cases fl with
 |next=>exact wpAny_execs_nil q
 |ret v=>exact q
 |brk=>exact q
 |cont=>exact q
def ay{c:Expr}{a b:List Stmt}{tc:TT}(hc:PT X.nox c tc)(ha:GXs X a t)(hb:GXs X b u):GX X (.If c a b pos) (LZ tc t u):=by
 intro pins s σ H D I h;refine wpAny_If (thx (hc pins s σ H _ (I.wish _) h) (λd s1 ⟨H1,I1,q1⟩=>?_) λ_ _ z=>z.elim);cases d with
 |true=>exact ha pins s1 σ H1 D I1.unwish q1
 |false=>exact hb pins s1 σ H1 D I1.unwish q1
def Zd(he:GXE X e te):GX X (.Return (some e) pos) (G7 te):=λpins s σ H D I h=>
 wpAny_Return_some (thx (he pins s σ H _ I h) (λ_ _ z=>z.elim) λ_ _ z=>z)
def Wt(he:GXE X e te)(hs:swapsWith e none pos.line X.env=pure false:=by rfl):GX X (.Expr e pos) (G7 te):=λpins s σ H D I h=>
 wpAny_Expr_any (thx (he pins s σ H _ I h) (λ_ _ z=>z.elim) λ_ _ z=>z) I.quiet hs
def Zc{x:Str}{pos':Pos}(he:GXE X e te)(hs:swapsWith e (some (.Name x pos')) pos.line X.env=pure false:=by rfl):GX X (.Assign [.Name x pos'] e pos) (G7 te):=λpins s σ H D I h=>
 wpAny_Assign_Name (thx (he pins s σ H _ I h) (λ_ _ z=>z.elim) λ_ _ z=>z) hs
def Ws{c a b:Expr}{tc:TT}(hc:PT X.nox c tc)(ha:GXE X a te)(hb:GXE X b tb):GXE X (.IfExp c a b pos) (tIf tc te tb):=by
 intro pins s σ H Q I h;refine wpAny_IfExp (thx (hc pins s σ H _ (I.wish _) h) (λd s1 ⟨H1,I1,q1⟩=>?_) λ_ _ z=>z.elim);cases d with
 |true=>exact ha pins s1 σ H1 Q I1.unwish q1
 |false=>exact hb pins s1 σ H1 Q I1.unwish q1
def Te(he:GXE X e te)(hs:starEach (e::es) X.env=(false,eval e X.env)::starEach es X.env:=by rfl):GXA X (e::es) te:=by
 intro pos pins s σ H Q I h;rw[hs];show wpAny _ _ (spliced ((false,eval e X.env)::backTo pos (starEach es X.env))) _ _ s;exact Calls.spliced_cons (thx (he pins s σ H _ I h) (λ_ _ z=>z.elim) λ_ _ z=>z)
def Qx(ha:PE X.nox e tb)(hr:GXA X es te)(hs:starEach (e::es) X.env=(false,eval e X.env)::starEach es X.env:=by rfl):GXA X (e::es) (OK tb te):=by
 intro pos pins s σ H Q I h;rw[hs];show wpAny _ _ (spliced ((false,eval e X.env)::backTo pos (starEach es X.env))) _ _ s;refine Calls.spliced_cons (thx (ha pins s σ H _ (I.wish _) h) (λu s1 ⟨x,H1,I1,r1,q1⟩=>?_) λ_ _ z=>z.elim);exact thx (hr pos pins s1 σ H1 Q I1.unwish q1) (λ_ _ z=>z.elim) λ_ _ z=>z
def Wr{x1}(h:GXA X es te):GXE X (.Tuple es x1 pos) te:=λpins s σ H Q I hq=>
 wpAny_Tuple_spliced (thx (h pos pins s σ H Q I hq) (λ_ _ z=>z.elim) λ_ _ z=>z)
def NE{pins pl:List (Addr×Obj)}{Q:VK}(hst:X.stack=X.env::X.outer/\X.env.frame=some X.env.locals):∀e s',XE X (pins++pl) Q e s'->notedBy (model X.prog X.w) X.A X.env (cameBackBy (model X.prog X.w) X.A X.env (XE X pins Q)) e s':=by
 rintro e s1 ⟨a,C,dx,tb,fs,σ',H',rfl,I',ex,ht,ha,hT',hd,q⟩;have I1:=I'.unpinned;have hT:∀T,tb=.ref T->H' T=none/\New X pins T:=λT e=>⟨(hT' T e).1,(hT' T e).2.1,(hT' T e).2.2.1,(hT' T e).2.2.2.1,λp hp=>(hT' T e).2.2.2.2 p (by
  rcases mem_append.mp hp with z|z
  .exact mem_append_left _ z
  .exact mem_append_right _ (mem_append_left _ z))⟩
 have fr:X.A.frames=some (X.env::X.outer):=by rw[<- hst.1];exact I1.ok.frames
 have fl0:s1.heap.FunFrames X.base (X.env::X.outer):=by rw[<- hst.1];exact I1.stack
 unfold notedBy cameBackBy;refine Nm (base:=X.base) fr fl0 hst.2 ex ht λh' T z nT ex' tr N=>?_;obtain⟨vs,sl,ea,e1⟩:=id ex';refine wpAny_bind (wpAny_field (s:={ s1 with heap:=h' }) ea rfl e1 ?_);rw[if_neg (by simp)];obtain⟨oT,ts,eT,dT,lt⟩:=tr;unfold setFlight;refine wpAny_bind (wpAny_field (s:={ s1 with heap:=h' }) ea rfl e1 ?_);rw[if_pos (show(Value.ref T != Value.none)=true from by simp)];have oth:∀b,b≠T->(h'.update T (Obj.mapFields (·.setIfInBounds 3 (X.env.frame.elim Value.none λf=>rawInt f)))).get? b=h'.get? b:=λb n=>Heap.get?_update_other _ _ (Ne.symm n);have I2:Inv X pins σ' H' { s1 with heap:=h' }:=IX I1 ha hT (by rw[hst.1];exact N) ex';have nw:H' T=none/\New X pins T:=by
  rcases z with z|z
  .exact⟨I1.hok.fresh z,I1.new z⟩
  .exact hT T z
 have I3:=I2.turned (it:=T) (t':=s1.toks) (h':=h'.update T (Obj.mapFields (·.setIfInBounds 3 (X.env.frame.elim Value.none λf=>rawInt f)))) (λb o n e=>(Heap.get?_update_other _ _ (Ne.symm n)).trans e) nw.1 nw.2.2.1 nw.2.1 nw.2.2.2.1 nw.2.2.2.2;refine wpAny_setField (s:={ s1 with heap:=h' }) eT dT lt ⟨a,C,dx,.ref T,fs,σ',H',rfl,I3,⟨vs,sl,(oth a (Ne.symm nT)).trans ea,e1⟩,.inr ⟨T,some X.env.locals,rfl,nT,.inr rfl,⟨_,_,Heap.get?_update_self _ eT (Obj.isFreed_of_fields (Obj.data_mapFields dT _)),Obj.data_mapFields dT _,by rw[hst.2];simp[lt]⟩⟩,ha,λT' e=>by cases e;exact nw,hd,q⟩
def Ze{tg iter:Expr}{body:List Stmt}{wi:TI}{g:TG}{tb:TS}(hst:X.stack=X.env::X.outer/\X.env.frame=some X.env.locals)(hc:X.calm=true)(hi:PI X.nox tg iter wi)(hg:PG X.nox tg g)(hb:GXs X body tb)
 (hs:∀x,foldedSetIterable iter X.env x=pure x:=by intro _;rfl):GX X (.For tg iter body [] pos) (La wi g tb):=by
 intro pins s σ H D I h;have hp:PassesOwn (model X.prog X.w) X.A X.env (XE X pins D.rt):=λe s' z=>NE (pl:=[]) hst e s' (by rw[append_nil];exact z);refine wpAny_For (thx (hi pins s σ H _ (I.wish _) h) (λv s1 h1=>thx h1 (λitv s2 h2=>?_) λ_ _ z=>z.elim) λ_ _ z=>z.elim) hs;obtain⟨it,fp,tn,J,H2,e,I2',T,st2,f2,W,⟨m0,w0⟩,turn⟩:=h2;have I2:=I2'.unwish;subst e;have stat:∀{H':Hp},(∀b∈fp,H' b=none)->∀b∈fp,FpOk X pins H' b:=λhn b hb=>⟨hn b hb,(f2 b hb).2⟩
 refine codeAny_forLoop_any (λn s'=>∃i σ' H',Inv X pins σ' H' s'/\tn i s'.heap/\(∀b∈fp,H' b=none)/\W i n σ' H') ?_ m0 ⟨0,σ,H2,I2,st2,λb hb=>(f2 b hb).1,w0⟩;rintro n s3 ⟨i,σ3,H3,I3,st3,fr3,w3⟩;rcases turn i n σ3 H3 w3 with⟨stop,qn⟩|⟨go,N,hN,step⟩
 .refine wpAny_passesOwn hp (thn (T.done X rfl rfl rfl hc i pins s3 σ3 H3 _ I3 (stat fr3) st3 stop) λr s4 ⟨hr,I4⟩=>?_);subst hr;exact wpAny_execs_nil ⟨σ3,H3,I4,qn⟩
 .refine wpAny_passesOwn hp (thn (T.item X rfl rfl rfl hc i pins s3 σ3 H3 _ I3 (stat fr3) st3 go) λr s4 ⟨u,hr,h4⟩=>?_);subst hr;refine wpAny_passesOwn hp (thn h4 λ_ s5 ⟨x,H5,I5,r5,y5,st5,fr5⟩=>?_);have I5':=I5.pinned (stat fr5) (T.obj _ _ st5);refine thx (hg _ s5 σ3 H5 x u _ (I5'.wish _) r5 (step x H5 y5)) (λ_ s6 ⟨σ6,H6,I6,q6⟩=>?_) λ_ _ z=>z.elim;refine thx (hb _ s6 σ6 H6 _ I6.unwish q6) (λf s7 q7=>?_) (NE hst);have again:∀{σ7:St} {H7:Hp},Inv X (pins++F9 fp s5.heap) σ7 H7 s7->N σ7 H7->∃m,m<n/\∃i σ' H',Inv X pins σ' H' s7/\tn i s7.heap/\(∀b∈fp,H' b=none)/\W i m σ' H':=λ{σ7 H7} I7 n7=>by
   obtain⟨m',hm,w7⟩:=hN σ7 H7 n7;refine⟨m',hm,i+1,σ7,H7,I7.unpinned,T.keep _ _ _ st5 λb hb o e=>(I7.pin (b,o) (mem_append_right _ (mem_append_right _ (CH hb e)))).1,λb hb=>?_,w7⟩;obtain⟨o,e,d⟩:=T.obj _ _ st5 b hb;exact(I7.pin (b,o) (mem_append_right _ (mem_append_right _ (CH hb e)))).2.1
  cases f with
  |next=>obtain⟨σ7,H7,I7,n7⟩:=q7;exact again I7 n7
  |cont=>obtain⟨σ7,H7,I7,n7⟩:=q7;exact again I7 n7
  |brk=>obtain⟨σ7,H7,I7,q7⟩:=q7;exact⟨σ7,H7,I7.unpinned,q7⟩
  |ret v=>obtain⟨_,_,_,_,_,z⟩:=q7;exact z.elim
def Jh(mg:Str->Option Value)(x:Str)(fs:List Str)(ta:TA):TS:=λD σ H=>ta σ H λvs H1=>vs.length=fs.length/\∀C,mg x=some (.ref C)->∀a dx,H1 a=none->H1 dx=none->dx≠a->D.rt (.ref a) (upd (upd H1 dx (.xd (fs.zip vs))) a (.ext (XO a C dx)))
def Tf{x:Str}{ps fs:List Str}{p p1:Pos}{k:Nat}{fd:FuncData}{ta:TA}(c:XC X.K C fI)(F:FnOk X.prog X.w X.K X.mg X.base CX0 k fI fd ps (spJ C fs))(hr:Room (k+1) X.A)(hb:Binds X.K fd ps [])(hl:ps.length=fs.length+1)(hl2:fs.length<=1000)(hcalm:X.calm=true)(hg:Gl X x)(hm:X.mg x=some (.ref C))(pa:PA X.nox (e::es) ta)
 (hdb:(x==("__debug__":Str))=false:=by decide) (hst:starEach (e::es) X.env=(false,eval e X.env)::starEach es X.env:=by rfl) (hpl:(backTo p1 (starEach es X.env)).any (·.1)=false:=by rfl):
 GX X (.Raise (some (.Call (.Name x p) (e::es) [] p1)) none pos) (Jh X.mg x fs ta):=by
 intro pins s σ H D I h;refine QU (I.ok.hd hcalm) c (wpAny_Call_Name_kw (Ft I hg hm ?_ hdb));refine PySem.W.callWith_K (h₀:=X.base) I.ok.mod.kin c.kp (thx (pa p1 pins s σ H _ (I.wish _) h) (λus s1 ⟨vs,H1,I1',r,q⟩=>⟨I1'.kIn,?_⟩) λ_ _ z=>z.elim) hst hpl;have I1:=I1'.unwish;obtain⟨hv,q⟩:=q;have q:=q C hm;have hu:us.length=fs.length:=by rw[<- r.length];exact hv
 obtain⟨nm,qn,N,bs,bm,sn,sub,ab,col,dd,k0,k1,k2,k3,k5,lk,ov⟩:=c.at_;obtain⟨hh,g,d,tk,os⟩:=s1;refine Tt I1.kIn (I1.kIn _ _ lk) (ov.has (by decide +kernel)) (ov.not (by decide +kernel)) (ov.not (by decide +kernel)) c.init (beq_iff_eq.mp c.fn) (by show us.length<=sizeLine;rw[hu];exact le_trans hl2 (by decide)) ?_;have ke:∀b o,hh.get? b=some o->((hh.push { cls:=.type "tuple",data:=.seq us.toArray }).push (G5 C hh.objs.size)).get? b=some o:=λb o e=>Heap.get?_push_of_some _ (Heap.get?_push_of_some _ e);have ea:((hh.push { cls:=.type "tuple",data:=.seq us.toArray }).push (G5 C hh.objs.size)).get? (hh.objs.size+1)=some (G5 C hh.objs.size):=Heap.get?_push_at (by rw[Heap.size_push]) rfl;have na:H1 (hh.objs.size+1)=none:=I1.hok.fresh (le_succ _);have I2:=I1.laid (a:=hh.objs.size+1) (o:=.ext (X0 (hh.objs.size+1) C hh.objs.size)) (t':=tk) ke (le_succ _) (RK ea);refine wpAny_call (codeAny_mono (F.run _ X.stack _ _ ⟨.ref (hh.objs.size+1)::us,[]⟩ (.ref (hh.objs.size+1)::us) (.ref (hh.objs.size+1)::vs)
  (λz H2=>z=.non/\∃dx,H2=upd (upd (upd H1 (hh.objs.size+1) (.ext (X0 (hh.objs.size+1) C hh.objs.size))) dx (.xd (fs.zip vs))) (hh.objs.size+1) (.ext (X1 (hh.objs.size+1) C dx hh.objs.size))/\H1 dx=none/\dx≠hh.objs.size+1) (λ_ _ _=>False)
  (hr.make C us []) (I2.env0.make C us []) (by have:=hb ⟨_,g,d,tk,os⟩ (.ref (hh.objs.size+1)::us) I2.kIn (by simp[hu,hl]);simpa using this) (.cons rfl r) ?_) λres s' hq=>?_)
 .refine⟨_,vs,hh.objs.size,rfl,hv,AJ,λdx n1 n2=>⟨rfl,dx,rfl,by rw[AC n2]at n1;exact n1,n2⟩⟩
 .cases res with
  |error x=>exact hq.elim
  |ok fl=>
   cases fl with
   |next=>exact hq.elim
   |brk=>exact hq.elim
   |cont=>exact hq.elim
   |ret rv'=>
    obtain⟨z,H3,I3,rz,ez,dx,eH,nd,ne⟩:=I2.after hq;subst ez;have hA:H3 (hh.objs.size+1)=some (.ext (X1 (hh.objs.size+1) C dx hh.objs.size)):=by rw[eH];exact AJ
    obtain⟨x1,_⟩:=(show ObjOk X.prog X.w H3 s'.heap (hh.objs.size+1) (.ext (X1 (hh.objs.size+1) C dx hh.objs.size))from I3.hok _ _ hA)
    have x1:s'.heap.get? (hh.objs.size+1)=some ⟨.ref C,some dx,.fields #[.ref hh.objs.size,.none,.none,.none,.bool false,.none],#[]⟩:=x1;refine⟨rz,hh.objs.size+1,hh.objs.size,dx,#[],rfl,I3.kIn,x1,hh.objs.size+1,C,dx,.none,fs.zip vs,σ,upd H3 (hh.objs.size+1) (.ext (XO (hh.objs.size+1) C dx)),rfl,?_,⟨_,_,x1,rfl⟩,.inl rfl,AJ,(λT e=>by cases e),?_,?_⟩
    .exact I3.write (x:=hh.objs.size+1) (e:=hh.objs.size+1) (t':=s'.toks) (by rw[hA];exact True.intro) (.inl rfl) (λ_ _ _ e=>e) ⟨_,x1⟩ ⟨⟨_,_,_,x1,rfl⟩,⟨_,x1⟩,λh1 h2 ⟨tb,vs,sl,e,z⟩ k=>⟨tb,vs,sl,k _ e,z⟩⟩
    .rw[AC ne,eH,AC ne,AJ]
    .have e2:upd H3 (hh.objs.size+1) (.ext (XO (hh.objs.size+1) C dx))=upd (upd H1 dx (.xd (fs.zip vs))) (hh.objs.size+1) (.ext (XO (hh.objs.size+1) C dx)):=by
      rw[eH];funext b;unfold upd;by_cases z1:b=hh.objs.size+1
      .simp only[if_pos z1]
      .simp only[if_neg z1]
     rw[e2];exact q _ dx na nd ne
end
section
variable{X:Cx}
def aB(K:PySem.W.Frag)(B:Addr)(D:Ends)(th:TS)(g:Addr->St)(u:St->St):VK:=λv H'=>∃a C dx fs,v=.ref a/\H' a=some (.ext (XO a C dx))/\H' dx=some (.xd fs)/\PySem.W.exmOne K (.ref C) (.ref B)=some true /\
 th ⟨λσ2 H2=>D.nx (u σ2) H2,λ_ _=>False,λ_ _=>False,λ_ _=>False⟩ (g a) H'
def XN(K:PySem.W.Frag)(mg:Str->Option Value)(xB:Str)(D:Ends)(th:TS)(g:Addr->St)(u:St->St):VK:=λv H'=>∀B,mg xB=some (.ref B)->aB K B D th g u v H'
def Iq(K:PySem.W.Frag)(mg:Str->Option Value)(xB:Str)(tb tx th:TS)(i:Option Nat):TS:=λD σ H=>tb D σ H∨tx ⟨λ_ _=>False,XN K mg xB D th (λa=>match i with|some i=>(List.replicate σ.length none).set i (some (.ref a))|none=>List.replicate σ.length none) (λσ2=>match i with|some i=>σ2.set i none|none=>σ2),λ_ _=>False,λ_ _=>False⟩ σ H
def Pd{h:Heap}{a C C' dx dx':Addr}{tb:Value}(ex:Exo h a C dx tb)(e:HO.ext (XO a C dx)=.ext (XO a C' dx')):C'=C:=by
 have e1:XO a C dx=XO a C' dx':=by injection e
 have x:XO a C' dx' h:=by rw[<- e1];exact⟨tb,ex⟩
 obtain⟨tb',vs',sl',q',_⟩:=x;obtain⟨vs,sl,q,_⟩:=ex;rw[q]at q';have:=congrArg Obj.cls (Option.some.inj q');exact(Value.ref.inj this).symm
def Vz{i:Nat}{B:Addr}{xB n:Str}{pB ph pos:Pos}{body suite:List Stmt}{b0:Stmt}{tb tx th:TS}(hst:X.stack=X.env::X.outer/\X.env.frame=some X.env.locals)(hb:PSs X.nox body tb)(hx:GXs X body tx)(hg:Gl X xB)(hm:X.mg xB=some (.ref B))
 (hN:X.N.Nodup) (hi:X.N[i]?=some n) (hl:X.env.scope.names.lookup n=some .local) (hh:∀a,PSs (X.hand (.ref a)) (b0::suite) th) (hdb:(xB==("__debug__":Str))=false:=by decide):
 PS X (.Try body [.ExceptHandler (some (.Name xB pB)) (some n) (b0::suite) ph] [] [] pos) (Iq X.K X.mg xB tb tx th (some i)):=by
 intro pins s σ H D I h;refine wpAny_Try_except ?_;rcases h with h|h
 .refine thx (hb pins s σ H D (I.wish _) h) (λfl s1 q=>?_) λ_ _ z=>z.elim;have q:=q.unwish;cases fl with
  |next=>exact wpAny_execs_nil q
  |ret v=>exact q
  |brk=>exact q
  |cont=>exact q
 .refine thx (hx pins s σ H _ I h) (λfl s1 q=>?_) λe s1 q=>?_
  .cases fl with
   |next=>obtain⟨_,_,_,z⟩:=q;exact z.elim
   |ret v=>obtain⟨_,_,_,_,_,z⟩:=q;exact z.elim
   |brk=>obtain⟨_,_,_,z⟩:=q;exact z.elim
   |cont=>obtain⟨_,_,_,z⟩:=q;exact z.elim
  .obtain⟨a,C,dx,tb',fs,σ',H',rfl,I1,ex,ht,ha,hT,hd,q⟩:=q;have fr:X.A.frames=some (X.env::X.outer):=by rw[<- hst.1];exact I1.ok.frames
   have fl0:s1.heap.FunFrames X.base (X.env::X.outer):=by rw[<- hst.1];exact I1.stack
   refine Jv none (base:=X.base) fr fl0 hst.2 ex ht λh' T z nT ex' tr N=>?_;have I2:Inv X pins σ' H' { s1 with heap:=h' }:=IX I1 ha hT (by rw[hst.1];exact N) ex';have LT:PySem.W.Looks (model X.prog X.w) h' (typeOf (.ref a)) (.ref C):=by
    obtain⟨vs,sl,e,_⟩:=ex';exact(PySem.W.Looks.ld e).andThen .now
   obtain⟨a',C',dx',fs',ea',ha',hd',hB,q⟩:=q B hm;cases ea';obtain rfl:=Pd ex (Option.some.inj (ha.symm.trans ha'));refine wpAny_handleBy_cons (codeAny_handlers_test (Ft (X:=X.hand (.ref a)) (I2.hand _) hg hm ?_ hdb)) (by intro q;cases q);refine PySem.W.Looks.here (s:={ s1 with heap:=h' }) (PySem.W.exm_one I2.kIn LT hB) ?_;refine codeAny_handlers_suite_as ?_;obtain⟨vs,sl,ea,e1⟩:=id ex';obtain⟨oT,ts,eT,dT,e3⟩:=tr;refine wpAny_setFlight_none (s:={ s1 with heap:=h' }) ea rfl e1 eT dT (Array.getElem?_eq_some_iff.mp e3).1 ?_;have nw:H' T=none/\New X pins T:=by
    rcases z with z|z
    .exact⟨I1.hok.fresh z,I1.new z⟩
    .exact hT T z
   have I3:=I2.turned (it:=T) (t':=s1.toks) (h':=h'.update T (Obj.mapFields (·.setIfInBounds 3 Value.none))) (λb o n e=>(Heap.get?_update_other _ _ (Ne.symm n)).trans e) nw.1 nw.2.2.1 nw.2.1 nw.2.2.2.1 nw.2.2.2.2;have I3':=I3.weak (σ':=List.replicate σ.length none) (by rw[length_replicate,I.len,I3.len]) λi v e=>by
    rw[List.getElem?_replicate]at e;split at e<;>cases e
   refine G9 (v:=.ref a) I3' hN hi (.inl hl) rfl (λs4 I4=>?_) (.inr hl);refine thx (hh a pins s4 _ H' _ (I4.hand _) q) (λfl s5 q5=>?_) λ_ _ z=>z.elim;cases fl with
   |next=>
    obtain⟨σ2,H2,I5,q6⟩:=q5;have I5:=I5.unhand I.ok.hd;show wpAny _ _ (do bindName X.env n .none;unbindBehindTheSuite X.env n ph) _ _ _;refine wpAny_bind (wpAny_bindName (G9 (v:=.non) I5 hN hi (.inl hl) rfl (λs6 I6=>?_) (.inr hl)));unfold unbindBehindTheSuite;have li:i<σ2.length:=by rw[I5.len];exact(List.getElem?_eq_some_iff.mp hi).1
    refine wpAny_onRaise (Pm (v:=.non) I6 hN hi hl (List.getElem?_set_self li) λs7 I7=>?_);rw[List.set_set]at I7;exact⟨_,_,I7,q6⟩
   |ret v=>obtain⟨_,_,_,_,_,z⟩:=q5;exact z.elim
   |brk=>obtain⟨_,_,_,z⟩:=q5;exact z.elim
   |cont=>obtain⟨_,_,_,z⟩:=q5;exact z.elim
def Vy{B:Addr}{xB:Str}{pB ph pos:Pos}{body suite:List Stmt}{b0:Stmt}{tb tx th:TS}(hst:X.stack=X.env::X.outer/\X.env.frame=some X.env.locals)(hb:PSs X.nox body tb)(hx:GXs X body tx)(hg:Gl X xB)(hm:X.mg xB=some (.ref B))
 (hh:∀a,PSs (X.hand (.ref a)) (b0::suite) th) (hdb:(xB==("__debug__":Str))=false:=by decide):
 PS X (.Try body [.ExceptHandler (some (.Name xB pB)) none (b0::suite) ph] [] [] pos) (Iq X.K X.mg xB tb tx th none):=by
 intro pins s σ H D I h;refine wpAny_Try_except ?_;rcases h with h|h
 .refine thx (hb pins s σ H D (I.wish _) h) (λfl s1 q=>?_) λ_ _ z=>z.elim;have q:=q.unwish;cases fl with
  |next=>exact wpAny_execs_nil q
  |ret v=>exact q
  |brk=>exact q
  |cont=>exact q
 .refine thx (hx pins s σ H _ I h) (λfl s1 q=>?_) λe s1 q=>?_
  .cases fl with
   |next=>obtain⟨_,_,_,z⟩:=q;exact z.elim
   |ret v=>obtain⟨_,_,_,_,_,z⟩:=q;exact z.elim
   |brk=>obtain⟨_,_,_,z⟩:=q;exact z.elim
   |cont=>obtain⟨_,_,_,z⟩:=q;exact z.elim
  .obtain⟨a,C,dx,tb',fs,σ',H',rfl,I1,ex,ht,ha,hT,hd,q⟩:=q;have fr:X.A.frames=some (X.env::X.outer):=by rw[<- hst.1];exact I1.ok.frames
   have fl0:s1.heap.FunFrames X.base (X.env::X.outer):=by rw[<- hst.1];exact I1.stack
   refine Jv none (base:=X.base) fr fl0 hst.2 ex ht λh' T z nT ex' tr N=>?_;have I2:Inv X pins σ' H' { s1 with heap:=h' }:=IX I1 ha hT (by rw[hst.1];exact N) ex';have LT:PySem.W.Looks (model X.prog X.w) h' (typeOf (.ref a)) (.ref C):=by
    obtain⟨vs,sl,e,_⟩:=ex';exact(PySem.W.Looks.ld e).andThen .now
   obtain⟨a',C',dx',fs',ea',ha',hd',hB,q⟩:=q B hm;cases ea';obtain rfl:=Pd ex (Option.some.inj (ha.symm.trans ha'));refine wpAny_handleBy_cons (codeAny_handlers_test (Ft (X:=X.hand (.ref a)) (I2.hand _) hg hm ?_ hdb)) (by intro q;cases q);refine PySem.W.Looks.here (s:={ s1 with heap:=h' }) (PySem.W.exm_one I2.kIn LT hB) ?_;refine codeAny_handlers_suite ?_;obtain⟨vs,sl,ea,e1⟩:=id ex';obtain⟨oT,ts,eT,dT,e3⟩:=tr;refine wpAny_setFlight_none (s:={ s1 with heap:=h' }) ea rfl e1 eT dT (Array.getElem?_eq_some_iff.mp e3).1 ?_;have nw:H' T=none/\New X pins T:=by
    rcases z with z|z
    .exact⟨I1.hok.fresh z,I1.new z⟩
    .exact hT T z
   have I3:=I2.turned (it:=T) (t':=s1.toks) (h':=h'.update T (Obj.mapFields (·.setIfInBounds 3 Value.none))) (λb o n e=>(Heap.get?_update_other _ _ (Ne.symm n)).trans e) nw.1 nw.2.2.1 nw.2.1 nw.2.2.2.1 nw.2.2.2.2;have I3':=I3.weak (σ':=List.replicate σ.length none) (by rw[length_replicate,I.len,I3.len]) λi v e=>by
    rw[List.getElem?_replicate]at e;split at e<;>cases e
   refine thx (hh a pins _ _ H' _ (I3'.hand _) q) (λfl s5 q5=>?_) λ_ _ z=>z.elim;cases fl with
   |next=>
    obtain⟨σ2,H2,I5,q6⟩:=q5;exact⟨_,_,I5.unhand I.ok.hd,q6⟩
   |ret v=>obtain⟨_,_,_,_,_,z⟩:=q5;exact z.elim
   |brk=>obtain⟨_,_,_,z⟩:=q5;exact z.elim
   |cont=>obtain⟨_,_,_,z⟩:=q5;exact z.elim
end
def Cy(m:MS):MS:=λls hd=>(m ls hd).bind λp=>match p.1 with
 |.rt _=>none
 |fl=>some (fl,p.2)
def Hn(ma me:ME):ME:=λls hd=>(ma ls hd).bind λp=>me ls p.2
def mkX(k n:Nat)(m:MS):List D->Hd->Option (D×Hd):=λds hd=>if ds.length=k then(match m (ds.map some++List.replicate (n-k) none) hd with
 |some (.rt d,hd')=>some (d,hd')
 | _=>none)else none
def WZ{k n:Nat}{m:MS}:∀ds hd z,mkX k n m ds hd=some z->ds.length=k:=λds hd z h=>by
 unfold mkX at h;split at h
 .next e=>exact e
 .cases h
section
variable{K:PySem.W.Frag}{C:Addr}{f:Str}{ρ ρ':List Addr}{H H':Hp}{hd hd':Hd}
def VF{ta te:TE}{ma me:ME}(ha:RE K ta ma)(he:RE K te me):RE K (OK ta te) (Hn ma me):=by
 and_intros;obtain⟨⟨d1,h1⟩,e1,hm⟩:=c5 hm;refine ha ρ σ H hd ls _ d1 h1 hR hL e1 λρ1 H1 v1 x1 R1 _=>?_;exact he ρ1 σ H1 h1 ls Q d hd' R1 (RL.ext hR x1 hL) hm λρ2 H2 v2 x2 R2 r2=>hQ ρ2 H2 v2 (x1.trans R1 x2) R2 r2
def Lk{t:TS}{m:MS}(h:RS K t m):RS K (LY t) (Cy m):=by
 intro ρ σ H hd ls E fl hd' hR hL hm hQ;obtain⟨⟨fl1,h1⟩,e1,hm⟩:=c5 hm;refine h ρ σ H hd ls E.non fl1 h1 hR hL e1 λρ' H' x R=>?_;cases fl1 with
 |rt d=>cases hm
 |nx l=>cases hm;exact hQ ρ' H' x R
 |bk l=>cases hm;exact hQ ρ' H' x R
 |ct l=>cases hm;exact hQ ρ' H' x R
def spF.mono{k:Nat}{F:List D->Hd->Option (D×Hd)}{vs:List V}{Q Q':VK}{E E':XK}(h:spF K k F vs H Q E)(k':∀v H',Q v H'->Q' v H'):spF K k F vs H Q' E':=
 let ⟨a,ρ,hd,ds,d,hd',b,c,e,q⟩:=h;⟨a,ρ,hd,ds,d,hd',b,c,e,λρ' H' v x R r=>k' _ _ (q ρ' H' v x R r)⟩
end
end L2
namespace L2
open PySem PySem.Spec PyProof.Rows PySem.W
def Le(K K':Frag):Prop:=∀a o,K.lookup a=some o->(∀vs,o.data≠.fields vs)->K'.lookup a=some o
def Np{K:Frag}{ts:List Tb}{h:Heap}(X:K.In h)(hP:∀P∈ts.map (·.1),h.get? P=some (tabObj #[])):Le K (B3 K ts):=λa o e n=>FN (λz=>by
 have:=X _ _ e;rw[hP a z]at this;cases this;exact n _ rfl) e
section
variable{K K':Frag}(L:Le K K')
include L
theorem Le.ns{a:Addr}{n:Str}{r:Option Value}(e:nsIn K a n=some r):nsIn K' a n=some r:=by
 unfold nsIn at e ⊢;split at e
 .next c d es k sl ho=>rw[L a _ ho (λvs q=>by cases q)];exact e
 .cases e
theorem Le.own{n:Str}{c:Value}{r:Option Value}(e:ownIn K n c=some r):ownIn K' n c=some r:=by
 cases c with
 |ref a=>
  simp only[ownIn]at e ⊢;split at e
  .next c d cd sl ho=>rw[L a _ ho (λvs q=>by cases q)];exact L.ns e
  .cases e
 |_=>exact e
theorem Le.along{n:Str}:∀{l:List Value} {r:Option Value},alongIn K n l=some r->alongIn K' n l=some r
 |[],_,e=>e
 |c::l,r,e=>by
  simp only[alongIn]at e ⊢;split at e
  .next v q=>rw[L.own q];exact e
  .next q=>rw[L.own q];exact Le.along e
  .cases e
theorem Le.find{t:Value}{n:Str}{r:Option Value}(e:findIn K t n=some r):findIn K' t n=some r:=by
 cases t with
 |ref a=>
  simp only[findIn]at e ⊢;split at e
  .next c d cd sl ho=>rw[L a _ ho (λvs q=>by cases q)];exact L.along e
  .cases e
 |_=>exact e
theorem Le.cls{C:Addr}{cd:ClassData}(e:clsIn K C=some cd):clsIn K' C=some cd:=by
 unfold clsIn at e ⊢;split at e
 .next c d cd sl ho=>rw[L C _ ho (λvs q=>by cases q)];exact e
 .cases e
theorem Le.mro{C:Addr}{b:Value}{r:Bool}(e:mroIn K C b=some r):mroIn K' C b=some r:=by
 obtain⟨cd,a,e⟩:=c5 e;unfold mroIn;rw[L.cls a];exact e
theorem Le.sub{t b:Value}{r:Bool}(e:subIn K t b=some r):subIn K' t b=some r:=by
 cases t with
 |ref a=>exact L.mro e
 |_=>exact e
theorem Le.typeC{C:Addr}{t:Value}(c:(clsIn K C).isSome=true)(e:typeIn K (.ref C)=some t):typeIn K' (.ref C)=some t:=by
 simp only[typeIn]at e ⊢;unfold clsIn at c;split at c
 .next x d cd sl ho=>rw[ho]at e;rw[L C _ ho (λvs q=>by cases q)];exact e
 .cases c
theorem Le.kitCls{t c:Value}{r:Bool}(e:kitCls K t c=some r):kitCls K' t c=some r:=by
 unfold PySem.W.kitCls at e ⊢;split at e
 .next C=>
  split at e
  .next q=>
   have q1:(clsIn K C).isSome=true:=by cases z:(clsIn K C).isSome<;>simp[z]at q ⊢
   have q2:typeIn K (.ref C)=some (.type "type"):=by rw[q1]at q;simpa using q
   obtain⟨cd,hc⟩:=isSome_iff_exists.mp q1;rw[if_pos (by rw[L.cls hc,L.typeC q1 q2];rfl)];exact L.sub e
  .cases e
 .next T=>
  split at e
  .next q=>rw[if_pos q];exact L.sub e
  .cases e
 .cases e
theorem Le.exm{t c:Value}{r:Bool}(e:exmOne K t c=some r):exmOne K' t c=some r:=by
 unfold PySem.W.exmOne at e ⊢;split at e
 .next q=>
  rw[if_pos (by rw[L.sub (beq_iff_eq.mp q)];rfl)];exact L.kitCls e
 .cases e
theorem Le.noAttr{C:Addr}{f:Str}(e:Dv K C f):Dv K' C f:=L.find e
theorem Le.xi{C:Addr}(i:XI K C):XI K' C:=⟨L.find i.ca,i.gd,i.tk,L.mro i.mo⟩
theorem Le.xc{C fI:Addr}(hf:∃o fd,K.lookup fI=some o/\o.data=.func fd)(c:XC K C fI):XC K' C fI:=by
 obtain⟨nm,q,N,bs,bm,sn,sub,ab,col,dd,k0,k1,k2,k3,k5,lk,ov⟩:=c.at_;have lk':=L C _ lk (λvs q=>by cases q);obtain⟨o,fd,e,d⟩:=hf;have e':=L fI o e (λvs q=>by rw[d]at q;cases q);refine⟨⟨nm,q,N,bs,bm,sn,sub,ab,col,dd,k0,k1,k2,k3,k5,lk',ov⟩,L.find c.init,?_,?_,L.find c.sa,L.find c.ga,L.find c.gx⟩
 .have:=c.fn;unfold PySem.W.isFn PySem.W.typeIn at this ⊢;dsimp only at this ⊢;rw[e]at this;rw[e'];exact this
 .have:=c.kp;unfold PySem.W.keepIn at this ⊢;dsimp only at this ⊢;rw[lk]at this;rw[lk'];dsimp only at this ⊢;unfold PySem.W.specialIn PySem.W.typeIn at this ⊢;dsimp only at this ⊢;rw[lk]at this;rw[lk'];exact this
end
end L2
namespace L2
open PySem PySem.Spec PyProof.Rows
structure Dj(m mn:MS):Prop where
 rt:∀ls hd d x,m ls hd=some (.rt d,x)->mn ls hd=none
 nx:∀ls hd fl x,m ls hd=some (fl,x)->(∀d,fl≠.rt d)->mn ls hd=some (fl,x)
def DjE(m mn:ME):Prop:=∀ls hd z,m ls hd=some z->mn ls hd=none
def DjA(m:ME)(mn:MA):Prop:=∀ls hd z,m ls hd=some z->mn ls hd=none
def DjF(X F:List D->Hd->Option (D×Hd)):Prop:=∀ds hd z,X ds hd=some z->F ds hd=none
section
variable{m mn m1 n1 m2 n2:MS}{me mf:ME}{i:Nat}
def HR:Dj (Cy m) m:=by
 constructor
 .intro ls hd d x e;obtain⟨⟨fl,y⟩,e1,e2⟩:=c5 e;cases fl<;>cases e2
 .intro ls hd fl x e n;obtain⟨⟨fl1,y⟩,e1,e2⟩:=c5 e;cases fl1<;>cases e2<;>exact e1
def ET(a:Dj m1 n1)(b:Dj m2 n2):Dj (AE m1 m2) (AE n1 n2):=by
 constructor
 .intro ls hd d x e;obtain⟨⟨fl,y⟩,e1,e2⟩:=c5 e;unfold AE;cases fl with
  |rt d1=>rw[a.rt _ _ _ _ e1];rfl
  |nx l=>rw[a.nx _ _ _ _ e1 (λd q=>by cases q)];exact b.rt _ _ _ _ e2
  |bk l=>cases e2
  |ct l=>cases e2
 .intro ls hd fl x e n;obtain⟨⟨fl1,y⟩,e1,e2⟩:=c5 e;unfold AE;cases fl1 with
  |rt d1=>cases e2;exact absurd rfl (n d1)
  |nx l=>rw[a.nx _ _ _ _ e1 (λd q=>by cases q)];exact b.nx _ _ _ _ e2 n
  |bk l=>cases e2;rw[a.nx _ _ _ _ e1 (λd q=>by cases q)];rfl
  |ct l=>cases e2;rw[a.nx _ _ _ _ e1 (λd q=>by cases q)];rfl
def Hw{c:MT}(a:Dj m1 n1)(b:Dj m2 n2):Dj (Ak c m1 m2) (Ak c n1 n2):=by
 constructor
 .intro ls hd d x e;obtain⟨⟨q,y⟩,e1,e2⟩:=c5 e;unfold Ak;rw[e1];dsimp only[bind_some]at e2 ⊢;cases q
  .exact b.rt _ _ _ _ e2
  .exact a.rt _ _ _ _ e2
 .intro ls hd fl x e n;obtain⟨⟨q,y⟩,e1,e2⟩:=c5 e;unfold Ak;rw[e1];dsimp only[bind_some]at e2 ⊢;cases q
  .exact b.nx _ _ _ _ e2 n
  .exact a.nx _ _ _ _ e2 n
def QC{ls:Ls}{hd:Hd}{fl:Fl}{x:Hd}(e:AX me ls hd=some (fl,x))(n:∀d,fl≠.rt d):False:=by
 obtain⟨⟨d,y⟩,e1,e2⟩:=c5 e;cases e2;exact n d rfl
def Lu{ls:Ls}{hd:Hd}{d:D}{x:Hd}(e:AX me ls hd=some (.rt d,x)):∃z,me ls hd=some z:=by
 obtain⟨z,e1,e2⟩:=c5 e;exact⟨z,e1⟩
def Fx(h:DjE me mf):Dj (AX me) (BF mf):=⟨λls hd d x e=>by obtain⟨z,q⟩:=Lu e;unfold BF;rw[h _ _ _ q];rfl,λ_ _ _ _ e n=>(QC e n).elim⟩
def RU(h:DjE me mf):Dj (AX me) (AT i mf):=⟨λls hd d x e=>by obtain⟨z,q⟩:=Lu e;simp only[Mf,h _ _ _ q,Option.bind_none],λ_ _ _ _ e n=>(QC e n).elim⟩
def DX{w:Nat}{X F:List D->Hd->Option (D×Hd)}{ma:MA}(h:DjF X F):DjE (A8 w X ma) (A8 w F ma):=by
 intro ls hd z e;obtain⟨p,e1,e2⟩:=c5 e;unfold A8;rw[e1];dsimp only[bind_some]at e2 ⊢;split at e2
 .next c=>
  obtain⟨r,e3,_⟩:=c5 e2;rw[if_pos c,h _ _ _ e3];rfl
 .cases e2
def Mm{mr:MA}(h:DjE me mf):DjA me (A3 mf mr):=λls hd z e=>by unfold A3;rw[h _ _ _ e];rfl
def KY{ma:ME}{mr:MA}(h:DjA me mr):DjA (Hn ma me) (A3 ma mr):=λls hd z e=>by
 obtain⟨p,e1,e2⟩:=c5 e;unfold A3;rw[e1];show(mr ls p.2).bind _=none;rw[h _ _ _ e2];rfl
def O2{mr:MA}(h:DjA me mr):DjE me (Ap mr):=λls hd z e=>by unfold Ap;rw[h _ _ _ e];rfl
def JO{k n:Nat}(h:Dj m mn):DjF (mkX k n m) (mkF k n mn):=by
 intro ds hd z e;unfold mkX at e;unfold mkF;split at e
 .next c=>
  rw[if_pos c];split at e
  .next d x q=>rw[h.rt _ _ _ _ q]
  .cases e
 .cases e
def Gi{ls:Ls}{hd:Hd}{Q:Fl->Hd->Prop}(h:WS m ls hd λfl x=>(∀d,fl≠.rt d)/\Q fl x):WS (Cy m) ls hd Q:=by
 obtain⟨fl,x,e,n,q⟩:=h;refine⟨fl,x,?_,q⟩;unfold Cy;rw[e];cases fl with
 |rt d=>exact absurd rfl (n d)
 |_=>rfl
def Ug{ma:ME}{ls:Ls}{hd:Hd}{Q:D->Hd->Prop}(h:WE ma ls hd λ_ x=>WE me ls x Q):WE (Hn ma me) ls hd Q:=WP.bind h
def LQ{k n:Nat}{ds:List D}{hd:Hd}{Q:D->Hd->Prop}(hl:ds.length=k)(h:WS m (ds.map some++List.replicate (n-k) none) hd λf x=>∃d,f=.rt d/\Q d x):WF (mkX k n m) ds hd Q:=by
 obtain⟨f,x,e,d,rfl,q⟩:=h;refine⟨d,x,?_,q⟩;unfold mkX;rw[if_pos hl,e]
end
def bP(tn tx:TS):TS:=λD σ H=>tn D.non σ H∨tx D σ H
def Dp(mn mx:MS):MS:=λls hd=>match Cy mn ls hd with
 |some r=>some r
 |none=>mx ls hd
section
variable{C:Addr}{f:Str}{K:PySem.W.Frag}{X:Cx}{st:Stmt}{tn tx:TS}{mn mx:MS}
def JQ(d:Dj mx mn):Dj (Dp mn mx) mn:=by
 constructor
 .intro ls hd d' x e;unfold Dp at e;split at e
  .next r q=>cases e;exact HR.rt _ _ _ _ q
  .exact d.rt _ _ _ _ e
 .intro ls hd fl x e n;unfold Dp at e;split at e
  .next r q=>cases e;exact HR.nx _ _ _ _ q n
  .exact d.nx _ _ _ _ e n
def NH{ls:Ls}{hd:Hd}{Q:Fl->Hd->Prop}(h:WS mn ls hd λfl x=>(∀d,fl≠.rt d)/\Q fl x):WS (Dp mn mx) ls hd Q:=by
 obtain⟨fl,x,e,q⟩:=Gi h;exact⟨fl,x,by unfold Dp;rw[e],q⟩
def Jb{ls:Ls}{hd:Hd}{Q:Fl->Hd->Prop}(d:Dj mx mn)(h:WS mx ls hd λfl x=>∃d,fl=.rt d/\Q fl x):WS (Dp mn mx) ls hd Q:=by
 obtain⟨fl,x,e,d',rfl,q⟩:=h;have z:=d.rt _ _ _ _ e;refine⟨_,x,?_,q⟩;unfold Dp Cy;rw[z];exact e
def Tk:Dj Bq mn:=⟨(λ_ _ _ _ e=>nomatch e),(λ_ _ _ _ e=>nomatch e)⟩
end
def tXg(tc:TE):TE:=λσ H Q=>tc σ H λv H'=>∀a,v=.ref a->Q v H'
def Cm(nm:Str)(fs:List Str)(ma:MA):MS:=λls hd=>(ma ls hd).bind λp=>if p.1.length=fs.length then some (.rt (.op nm fs p.1),p.2)else none
def hLs(k:Nat)(i:Option Nat)(d:D):Ls:=match i with
 |some i=>(List.replicate k none).set i (some d)
 |none=>List.replicate k none
def uLs(i:Option Nat)(ls:Ls):Ls:=match i with
 |some i=>ls.set i none
 |none=>ls
def Dm(ns:List Str)(i:Option Nat)(mb mx mh:MS):MS:=λls hd=>match mb ls hd with
 |some r=>some r
 |none=>match mx ls hd with
  | some (.rt (.op nm fs ds),hd')=>if nm∈ns then(match mh (hLs ls.length i (.op nm fs ds)) hd' with
   |some (.nx l2,hd2)=>some (.nx (uLs i l2),hd2)
   | _=>none)else none
  |_=>none
section
variable{K:PySem.W.Frag}{ρ ρ':List Addr}{H H':Hp}{hd hd':Hd}{mg:Str->Option Value}{x:Str}
def aI{tc:TE}{m:ME}(h:RE K tc m):RE K (tXg tc) m:=λρ σ H hd ls Q d hd' hR hL hm hQ=>h ρ σ H hd ls _ d hd' hR hL hm λρ' H' v x R r a _=>hQ ρ' H' v x R r
def Q4{nm:Str}{fs:List Str}{ta:TA}{ma:MA}(hc:∀C,mg x=some (.ref C)->clsAt K nm=some C)(h:RA K ta ma):RS K (Jh mg x fs ta) (Cm nm fs ma):=by
 intro ρ σ H hd ls E fl hd' hR hL hm hQ;obtain⟨⟨ds,h1⟩,e1,hm⟩:=c5 hm;dsimp only at hm;split at hm
 .next hl=>
  cases hm;refine h ρ σ H hd ls _ ds _ hR hL e1 λρ1 H1 vs x1 R1 r1=>⟨by rw[r1.len];exact hl,λC hC a dx na nd ne=>?_⟩
  obtain⟨R2,x2⟩:=R1.hid nd (ho:=.xd (fs.zip vs));obtain⟨R3,x3⟩:=R2.hid (a:=a) (by rw[AC (Ne.symm ne)];exact na) (ho:=.ext (XO a C dx));refine hQ ρ1 _ ((x1.trans R1 x2).trans R2 x3) R3 (.ref a) ?_;simp only[RD];exact⟨a,vs,rfl,⟨C,dx,hc C hC,AJ,by rw[AC ne,AJ],by rw[r1.len];exact hl⟩,(r1.ext R1 x2).ext R2 x3⟩
 .cases hm
def bW{i:Option Nat}{k:Nat}{d:D}{v:V}(r:RD K ρ H d v):RL K ρ H (hLs k i d) (match i with|some i=>(List.replicate k none).set i (some v)|none=>List.replicate k none):=by
 cases i with
 |none=>exact⟨by simp[hLs],λj d e=>by simp only[hLs]at e;rw[List.getElem?_replicate]at e;split at e<;>cases e⟩
 |some i=>
  refine⟨by simp[hLs],λj d' e=>?_⟩;simp only[hLs]at e;by_cases z:i=j
  .subst z;have li:i<k:=by have:=(List.getElem?_eq_some_iff.mp e).1;simpa using this
   rw[List.getElem?_set_self (by simpa using li)]at e;cases e;exact⟨v,List.getElem?_set_self (by simpa using li),r⟩
  .rw[List.getElem?_set_ne z,List.getElem?_replicate]at e;split at e<;>cases e
def bV{i:Option Nat}{ls:Ls}{σ:St}(h:RL K ρ H ls σ):RL K ρ H (uLs i ls) (match i with|some i=>σ.set i none|none=>σ):=by
 cases i with
 |none=>exact h
 |some i=>
  refine⟨by simp[uLs,h.len],λj d e=>?_⟩;simp only[uLs]at e;by_cases z:i=j
  .subst z;rw[List.getElem?_set,if_pos rfl]at e;split at e<;>cases e
  .rw[List.getElem?_set_ne z]at e;obtain⟨v,e1,r⟩:=h.ob j d e;exact⟨v,by dsimp only;rw[List.getElem?_set_ne z];exact e1,r⟩
def NU{xB:Str}{ns:List Str}{i:Option Nat}{tb tx th:TS}{mb mx mh:MS}(hc:∀nm∈ns,∀B C,mg xB=some (.ref B)->clsAt K nm=some C->PySem.W.exmOne K (.ref C) (.ref B)=some true)(hb:RS K tb mb)(hx:RS K tx mx)(hh:RS K th mh):RS K (Iq K mg xB tb tx th i) (Dm ns i mb mx mh):=by
 intro ρ σ H hd ls E fl hd' hR hL hm hQ;unfold Dm at hm;split at hm
 .next r e=>
  cases hm;exact .inl (hb ρ σ H hd ls E fl hd' hR hL e hQ)
 .split at hm
  .next nm fs ds h1 e=>
   split at hm
   .next c=>
    split at hm
    .next l2 h2 e2=>
     cases hm;refine .inr (hx ρ σ H hd ls _ (.rt (.op nm fs ds)) h1 hR hL e λρ1 H1 x1 R1 v r1 B hB=>?_);have r1':=r1;simp only[RD]at r1;obtain⟨a,xs,rfl,⟨C,dx,c1,c2,c3,c4⟩,r2⟩:=r1;refine⟨a,C,dx,_,rfl,c2,c3,hc nm c B C hB c1,?_⟩;have hl:σ.length=ls.length:=hL.len.symm;refine hh ρ1 _ H1 h1 _ _ (.nx l2) hd' R1 ?_ e2 λρ2 H2 x2 R2 σ2 hL2=>hQ ρ2 H2 (x1.trans R1 x2) R2 _ (bV hL2);rw[hl];exact bW r1'
    .cases hm
   .cases hm
  .cases hm
end
def Q2(Q:VK)(v:Value)(H:Hp):Prop:=∃a,v=.ref a/\Q (.ref a) H
def XW(K:PySem.W.Frag)(k:Nat)(F:FD):Sp:=λvs H _ E=>spF K k F vs H (λv H'=>∀a,v=.ref a->E (.ref a) none H') E0
section
variable(K:PySem.W.Frag)(X:Cx)
structure YX(e:Stmt)(t:TS)(m:MS):Prop where
 p:GX X e t
 r:RS K t m
structure YXs(e:List Stmt)(t:TS)(m:MS):Prop where
 p:GXs X e t
 r:RS K t m
structure YXE(e:Expr)(t:TE)(m:ME):Prop where
 p:GXE X e t
 r:RE K t m
structure YXA(e:List Expr)(t:TE)(m:ME):Prop where
 p:GXA X e t
 r:RE K t m
end
def Cl(E:EnK)(nm:Str)(fs:List Str):Prop:=∃C fI fd ps,E.mg nm=some (.ref C)/\clsAt E.K nm=some C/\XC E.K C fI/\XI E.K C/\(∀f∈fs,Dv E.K C f)/\FnOk E.P E.w E.K E.mg E.base CX0 1 fI fd ps (spJ C fs)/\Binds E.K fd ps []/\ps.length=fs.length+1/\fs.length<=1000
def Ch(E:EnK)(xB nm:Str):Prop:=∃B C,E.mg xB=some (.ref B)/\clsAt E.K nm=some C/\PySem.W.exmOne E.K (.ref C) (.ref B)=some true
def KnX(E:EnK)(e:Df):Prop:=∃f fd,DefAt E.K E.mg e.x e.st f fd e.ps/\FnOk E.P E.w E.K E.mg E.base (CXG E.P E.w) e.k f fd e.ps (XW E.K e.ps.length e.F)/\∀ds hd z,e.F ds hd=some z->ds.length=e.ps.length
section
variable{K:PySem.W.Frag}{X:Cx}{st:Stmt}{rest:List Stmt}{t u:TS}{m m1 m2:MS}{e:Expr}{es:List Expr}{te tb:TE}{me mb:ME}{pos p p1:Pos}{x:Str}
def Ud(h:QS K X.nox st t m):YX K X st (LY t) (Cy m):=⟨O0 h.p,Lk h.r⟩
def LM(h1:YX K X st t m1)(h2:YXs K X rest u m2):YXs K X (st::rest) (LX t u) (AE m1 m2):=⟨Td h1.p h2.p,Q3 h1.r h2.r⟩
def UZ(h1:YX K X st t m1):YXs K X [st] t m1:=⟨Wq h1.p,h1.r⟩
def Ua:YXs K X [] (LY Hj) (Cy Ac):=⟨Tc Nj,Lk Jo⟩
def KD{rest:List Stmt}:YXs K X rest Iu Bq:=⟨λ_ _ _ _ _ _ h=>h.elim,Lm⟩
def a9{c:Expr}{a b:List Stmt}{tc:TT}{mc:MT}(hc:QT K X.nox c tc mc)(ha:YXs K X a t m1)(hb:YXs K X b u m2):YX K X (.If c a b pos) (LZ tc t u) (Ak mc m1 m2):=⟨ay hc.p ha.p hb.p,U9 hc.r ha.r hb.r⟩
def XD(he:YXE K X e te me):YX K X (.Return (some e) pos) (G7 te) (AX me):=⟨Zd he.p,J9 he.r⟩
def Ue(he:YXE K X e te me)(hs:swapsWith e none pos.line X.env=pure false:=by rfl):YX K X (.Expr e pos) (G7 te) (AX me):=⟨Wt he.p hs,J9 he.r⟩
def XB{pos':Pos}(he:YXE K X e te me)(hs:swapsWith e (some (.Name x pos')) pos.line X.env=pure false:=by rfl):YX K X (.Assign [.Name x pos'] e pos) (G7 te) (AX me):=⟨Zc he.p hs,J9 he.r⟩
def Uc{c a b:Expr}{tc:TT}{mc:MT}(hc:QT K X.nox c tc mc)(ha:YXE K X a te me)(hb:YXE K X b tb mb):YXE K X (.IfExp c a b pos) (tIf tc te tb) (mIf mc me mb):=⟨Ws hc.p ha.p hb.p,UD hc.r ha.r hb.r⟩
def Rt(he:YXE K X e te me)(hs:starEach (e::es) X.env=(false,eval e X.env)::starEach es X.env:=by rfl):YXA K X (e::es) te me:=⟨Te he.p hs,he.r⟩
def Pb(ha:QE K X.nox e tb mb)(hr:YXA K X es te me)(hs:starEach (e::es) X.env=(false,eval e X.env)::starEach es X.env:=by rfl):YXA K X (e::es) (OK tb te) (Hn mb me):=⟨Qx ha.p hr.p hs,VF ha.r hr.r⟩
def Ub{x1}(h:YXA K X es te me):YXE K X (.Tuple es x1 pos) te me:=⟨Wr h.p,h.r⟩
def XF{tg iter:Expr}{body:List Stmt}{wi:TI}{g:TG}{tb:TS}{mi:MI}{n:MG}{mb:MS}(hi:QI K X.nox tg iter wi mi)(hg:QG K X.nox tg g n)(hb:YXs K X body tb mb)(hc:X.calm=true:=by rfl)(hst:X.stack=X.env::X.outer/\X.env.frame=some X.env.locals:=by exact⟨rfl,rfl⟩)
 (hs:∀x,foldedSetIterable iter X.env x=pure x:=by intro _;rfl):YX K X (.For tg iter body [] pos) (La wi g tb) (BN mi n mb):=⟨Ze hst hc hi.p hg.p hb.p hs,Q5 hi.r hg.r hb.r⟩
def Pc{tn tx:TS}{mn mx:MS}(h:QS K X.nox st tn mn)(hx:YX K X st tx mx):YX K X st (bP tn tx) (Dp mn mx):=by
 constructor
 .intro pins s σ H D I q;rcases q with q|q
  .exact O0 h.p pins s σ H D I q
  .exact hx.p pins s σ H D I q
 .intro ρ σ H hd ls E fl hd' hR hL hm hQ;unfold Dp at hm;split at hm
  .next r e=>cases hm;exact .inl (Lk h.r ρ σ H hd ls E fl hd' hR hL e hQ)
  .exact .inr (hx.r ρ σ H hd ls E fl hd' hR hL hm hQ)
def Rs(w:Nat){j k:Nat}{ps:List Str}{F:FD}{st:Stmt}{ta:TA}{ma:MA}(G:KnX ⟨X.prog,X.w,X.K,X.mg,X.base⟩ ⟨x,st,ps,j,F⟩)(hr:Room k X.A)(ha:QA K X.nox (e::es) ta ma)
 (hjk:j<=k:=by first|decide|omega) (hg:Gl X x:=by rfl) (hdb:(x==("__debug__":Str))=false:=by decide) (he:starEach (e::es) X.env=(false,eval e X.env)::starEach es X.env:=by rfl) (hpl:(backTo pos (starEach es X.env)).any (·.1)=false:=by rfl) (hK:X.K=K:=by rfl):
 YXE K X (.Call (.Name x p) (e::es) [] pos) (tXg (Ej (spF K ps.length F) [] E0 ta)) (A8 w F ma):=by
 subst hK;obtain⟨fa,fd,DA,G,hF⟩:=G;refine⟨λpins s σ H Q I h=>?_,aI (Ly ha.r hF)⟩;refine wpAny_Call_Name_kw (Ft I hg DA.mg ?_ hdb);refine PySem.W.callWith_K (h₀:=X.base) I.ok.mod.kin DA.fn.kp (thx (ha.p pos pins s σ H _ (I.wish _) h) (λus s1 ⟨vs,H1,I1',r,q⟩=>⟨I1'.kIn,?_⟩) λ_ _ z=>z.elim) he hpl;have I1:=I1'.unwish;dsimp only at q;rw[append_nil]at q;have q2:XW X.K ps.length F vs H1 (λ_ _=>False) (λv dx H'=>Q2 Q v H'):=q.mono λv H' z a ea=>by subst ea;exact⟨a,rfl,z a rfl⟩
 have hl:us.length=ps.length:=by rw[<- r.length];exact G.len _ _ _ _ q2
 refine wpAny_call (codeAny_mono (G.run X.A X.stack s1 H1 ⟨us,[]⟩ us vs _ _ (hr.mono hjk) I1.env0 (by have:=DA.bd s1 us I1.kIn (by simpa using hl);simpa using this) r q2) λres s' hq=>?_);cases res with
 |error x=>exact Pe I1 (show CXG X.prog X.w X.stack H1 s1 (λv dx H'=>Q2 Q v H') x s' from hq) λa H' ⟨a',e1,e2⟩=>by cases e1;exact e2
 |ok fl=>
  cases fl with
  |ret u=>obtain⟨_,_,_,_,_,_,_,z⟩:=hq;exact z.elim
  |next=>exact hq.elim
  |brk=>exact hq.elim
  |cont=>exact hq.elim
end
abbrev Cx.en(X:Cx):EnK:=⟨X.prog,X.w,X.K,X.mg,X.base⟩
def Lv{o:Option Value}{a b:Addr}(h:o=some (.ref a))(k:o=some (.ref b)):a=b:=by rw[h]at k;cases k;rfl
def Ps{o:Option Addr}{a b:Addr}(h:o=some a)(k:o=some b):a=b:=by rw[h]at k;cases k;rfl
def Hx(E:EnK)(xB:Str)(ns:List Str):Prop:=(∃B,E.mg xB=some (.ref B))/\∀nm∈ns,Ch E xB nm
section
variable{K:PySem.W.Frag}{X:Cx}{st:Stmt}{e:Expr}{es:List Expr}{te:TE}{me:ME}{pos p p1:Pos}{x:Str}
def Ru{fs:List Str}{j:Nat}{ta:TA}{ma:MA}(G:Cl X.en x fs)(hr:Room j X.A)(ha:QA K X.nox (e::es) ta ma)(hjk:2<=j:=by decide)(hcalm:X.calm=true:=by rfl)(hg:Gl X x:=by rfl)
 (hdb:(x==("__debug__":Str))=false:=by decide) (hst:starEach (e::es) X.env=(false,eval e X.env)::starEach es X.env:=by rfl) (hpl:(backTo p1 (starEach es X.env)).any (·.1)=false:=by rfl) (hK:X.K=K:=by rfl):
 YX K X (.Raise (some (.Call (.Name x p) (e::es) [] p1)) none pos) (Jh X.mg x fs ta) (Cm x fs ma):=by
 subst hK;obtain⟨C,fI,fd,ps,mgC,cl,xc,xi,na,F,bd,l1,l2⟩:=G;exact⟨Tf xc F (hr.mono hjk) bd l1 l2 hcalm hg mgC ha.p hdb hst hpl,Q4 (λC' e=>by obtain rfl:=Lv (o:=X.mg x) mgC e;exact cl) ha.r⟩
def Op{E:EnK}{x:Str}{st:Stmt}{ps N:List Str}{j k:Nat}{m:MS}{F:FD}(D:Dn E ⟨x,st,ps,k,F⟩)(S:FnScope N ps (AB st))(hF:F=mkX ps.length N.length m)(hk:k=j+1)
 (h:∀(f:Addr) (cdv:Value) (A:Around) (outer:List Env) (s:Shared) (H:Hp) (Ek:XK),Room j (A.deeper (envOfC x (AB st) s.heap.objs.size f cdv))->∃t,YXs E.K (DY (CXG E.P E.w) E.P E.w E.K E.mg E.base N x (AB st) f cdv A outer s H Ek) (B9 st) t m):KnX E ⟨x,st,ps,k,F⟩:=by
 obtain⟨fa,fd,DA⟩:=D;subst hF;subst hk;refine⟨fa,fd,DA,?_,WZ⟩;have h:=h fa;obtain⟨F,hmg,bd⟩:=DA;obtain⟨⟨oc,od,kV,doc,pm,an,cdv,ct,osl,rfl,lk,hcd⟩,kp⟩:=F;refine PN lk hcd S (λvs H Q E h=>h.1) λA outer s H vs Q Ek hr hs=>?_;obtain⟨t,q⟩:=h cdv A outer s H Ek hr;refine⟨λ_ σ H'=>t ⟨λ_ _=>False,λv H'=>∀a,v=.ref a->Ek (.ref a) none H',λ_ _=>False,λ_ _=>False⟩ σ H',λpins s1 σ1 H1 D I h1=>?_,?_⟩
 .refine thx (q.p pins s1 σ1 H1 _ I h1) (λfl s2 z=>?_) λe s2 z=>?_
  .cases fl with
   |next=>obtain⟨_,_,_,z⟩:=z;exact z.elim
   |ret v=>obtain⟨_,_,_,_,_,z⟩:=z;exact z.elim
   |brk=>obtain⟨_,_,_,z⟩:=z;exact z.elim
   |cont=>obtain⟨_,_,_,z⟩:=z;exact z.elim
  .obtain⟨a,C,dx,tb,fs,σ',H',e0,I',r⟩:=z;exact Rv (pins:=pins) ⟨a,C,dx,tb,fs,σ',H',e0,I'.wish _,r⟩ λa H' z=>z a rfl
 .obtain⟨hk,ρ,hd,ds,d,hd',hR,hr',hF,hQ⟩:=hs;dsimp only at hF;unfold mkX at hF;split at hF
  .next hl=>
   split at hF
   .next d1 h2 e1=>
    cases hF;rw[<- hl]at e1;exact q.r ρ _ H hd _ _ (.rt d) hd' hR (IQ hr') e1 λρ' H' x R v r=>hQ ρ' H' v x R r
   .cases hF
  .cases hF
def VY{i:Nat}{ns:List Str}{xB n:Str}{pB ph:Pos}{body suite:List Stmt}{b0:Stmt}{tb tx th:TS}{mb mx mh:MS}(hc:Hx X.en xB ns)(hb:QSs K X.nox body tb mb)(hx:YXs K X body tx mx)(hh:∀a,QSs K (X.hand (.ref a)) (b0::suite) th mh)
 (hN:X.N.Nodup) (hi:X.N[i]?=some n) (hl:X.env.scope.names.lookup n=some .local:=by rfl) (hst:X.stack=X.env::X.outer/\X.env.frame=some X.env.locals:=by exact⟨rfl,rfl⟩) (hg:Gl X xB:=by rfl) (hdb:(xB==("__debug__":Str))=false:=by decide) (hK:X.K=K:=by rfl):
 QS K X (.Try body [.ExceptHandler (some (.Name xB pB)) (some n) (b0::suite) ph] [] [] pos) (Iq X.K X.mg xB tb tx th (some i)) (Dm ns (some i) mb mx mh):=by
 subst hK;obtain⟨⟨B,hm⟩,hc⟩:=hc;refine⟨Vz hst hb.p hx.p hg hm hN hi hl (λa=>(hh a).p) hdb,NU (λnm hn B' C h1 h2=>?_) hb.r hx.r (hh 0).r⟩;obtain⟨B2,C2,q1,q2,q3⟩:=hc nm hn;obtain rfl:=Lv (o:=X.mg xB) q1 h1;obtain rfl:=Ps q2 h2;exact q3
def VX{ns:List Str}{xB:Str}{pB ph:Pos}{body suite:List Stmt}{b0:Stmt}{tb tx th:TS}{mb mx mh:MS}(hc:Hx X.en xB ns)(hb:QSs K X.nox body tb mb)(hx:YXs K X body tx mx)(hh:∀a,QSs K (X.hand (.ref a)) (b0::suite) th mh)
 (hst:X.stack=X.env::X.outer/\X.env.frame=some X.env.locals:=by exact⟨rfl,rfl⟩) (hg:Gl X xB:=by rfl) (hdb:(xB==("__debug__":Str))=false:=by decide) (hK:X.K=K:=by rfl):
 QS K X (.Try body [.ExceptHandler (some (.Name xB pB)) none (b0::suite) ph] [] [] pos) (Iq X.K X.mg xB tb tx th none) (Dm ns none mb mx mh):=by
 subst hK;obtain⟨⟨B,hm⟩,hc⟩:=hc;refine⟨Vy hst hb.p hx.p hg hm (λa=>(hh a).p) hdb,NU (λnm hn B' C h1 h2=>?_) hb.r hx.r (hh 0).r⟩;obtain⟨B2,C2,q1,q2,q3⟩:=hc nm hn;obtain rfl:=Lv (o:=X.mg xB) q1 h1;obtain rfl:=Ps q2 h2;exact q3
end
section
variable{m mn m1 n1 m2 n2 mb mx mh:MS}{me mf:ME}
def Dc{nm:Str}{fs:List Str}{ma:MA}:Dj (Cm nm fs ma) Bq:=⟨λ_ _ _ _ _=>rfl,λls hd fl x e n=>by
 obtain⟨⟨ds,y⟩,e1,e2⟩:=c5 e;dsimp only at e2;split at e2
 .cases e2;exact absurd rfl (n _)
 .cases e2⟩
def Jz{n:MG}{g:Gd}(h:Dj m mn):∀(ds:List D) (ls:Ls) (hd:Hd),(∀d x,Az n m g ds ls hd=some (.rt d,x)->Az n mn g ds ls hd=none)/\∀fl x,Az n m g ds ls hd=some (fl,x)->(∀d,fl≠.rt d)->Az n mn g ds ls hd=some (fl,x)
 |[],ls,hd=>⟨(λd x e=>by unfold Az at e;cases e),λfl x e _=>by unfold Az at e ⊢;exact e⟩
 |d0::r,ls,hd=>by
  have ih:=Jz (n:=n) (g:=g) h r;constructor
  .intro d x e;unfold Az at e ⊢;obtain⟨ls1,e1,e⟩:=c5 e;obtain⟨⟨fl,y⟩,e2,e⟩:=c5 e;rw[e1,bind_some];cases fl with
   |rt d1=>rw[h.rt _ _ _ _ e2];rfl
   |nx l=>
    rw[h.nx _ _ _ _ e2 (λd q=>by cases q),bind_some];dsimp only at e ⊢;split at e
    .next c=>rw[if_pos c];exact(ih l y).1 d x e
    .cases e
   |ct l=>
    rw[h.nx _ _ _ _ e2 (λd q=>by cases q),bind_some];dsimp only at e ⊢;split at e
    .next c=>rw[if_pos c];exact(ih l y).1 d x e
    .cases e
   |bk l=>cases e
  .intro fl x e nn;unfold Az at e ⊢;obtain⟨ls1,e1,e⟩:=c5 e;obtain⟨⟨fl1,y⟩,e2,e⟩:=c5 e;rw[e1,bind_some];cases fl1 with
   |rt d1=>cases e;exact absurd rfl (nn d1)
   |nx l=>
    rw[h.nx _ _ _ _ e2 (λd q=>by cases q),bind_some];dsimp only at e ⊢;split at e
    .next c=>rw[if_pos c];exact(ih l y).2 fl x e nn
    .cases e
   |ct l=>
    rw[h.nx _ _ _ _ e2 (λd q=>by cases q),bind_some];dsimp only at e ⊢;split at e
    .next c=>rw[if_pos c];exact(ih l y).2 fl x e nn
    .cases e
   |bk l=>
    rw[h.nx _ _ _ _ e2 (λd q=>by cases q),bind_some];exact e
def JP{mi:MI}{n:MG}(h:Dj m mn):Dj (BN mi n m) (BN mi n mn):=by
 constructor
 .intro ls hd d x e;obtain⟨p,e1,e2⟩:=c5 e;unfold BN;rw[e1];exact(Jz h _ _ _).1 d x e2
 .intro ls hd fl x e n;obtain⟨p,e1,e2⟩:=c5 e;unfold BN;rw[e1];exact(Jz h _ _ _).2 fl x e2 n
section
variable{ls:Ls}{hd:Hd}{Q:Fl->Hd->Prop}{QE:D->Hd->Prop}{ns:List Str}{i:Option Nat}{nm:Str}{fs:List Str}
def IL{ma:MA}(h:WA ma ls hd λds x=>ds.length=fs.length/\Q (.rt (.op nm fs ds)) x):WS (Cm nm fs ma) ls hd Q:=by
 obtain⟨ds,x,e,l,q⟩:=h;refine⟨_,x,?_,q⟩;unfold Cm;rw[e];exact if_pos l
def Ry(h:WS mb ls hd Q):WS (Dm ns i mb mx mh) ls hd Q:=by
 obtain⟨fl,x,e,q⟩:=h;refine⟨fl,x,?_,q⟩;unfold Dm;rw[e]
def Rx(dj:Dj mx mb)(h:WS mx ls hd λfl x=>∃nm fs ds,fl=.rt (.op nm fs ds)/\nm∈ns/\WS mh (hLs ls.length i (.op nm fs ds)) x λf2 y=>∃l2,f2=.nx l2/\Q (.nx (uLs i l2)) y):WS (Dm ns i mb mx mh) ls hd Q:=by
 obtain⟨fl,x,e,nm,fs,ds,rfl,hn,f2,y,e2,l2,rfl,q⟩:=h;refine⟨_,y,?_,q⟩;unfold Dm;rw[dj.rt _ _ _ _ e,e];dsimp only;rw[if_pos hn,e2]
end
end
end L2
namespace L2
open PySem PySem.W PyProof.Rows
def feE{K:PySem.W.Frag}{e:Df}{n:Str}{s:Stmt}(h:Ea.Fe K n s)(hn:e.x=n:=by rfl)(hs:e.st=s:=by rfl):Fe K e:=by subst hn;subst hs;exact h
def flE{K:PySem.W.Frag}{e:Df}{n:Str}{s:Stmt}{p:Addr}(h:Ea.Fl K n s p)(hn:e.x=n:=by rfl)(hs:e.st=s:=by rfl):Fla K e p:=by subst hn;subst hs;exact h
def zsE{K:PySem.W.Frag}(h:Ea.Zs K):Zs K:=h
def UO:∀{l:List Value},Ea.ovB l=true->OverV l
 |[],h=>by simp[Ea.ovB]at h
 |v::l,h=>by
  unfold Ea.ovB at h;rcases Bool.or_eq_true_iff.mp h with h|h
  .rw[of_decide_eq_true h];exact .base
  .cases v with
   |ref a=>exact .own (UO h)
   |_=>cases h
def IG{α:Type}{p f:α->Bool}{q:α}:∀{l:List α},l.find? p=some q->f q=true->(l.filter f).find? p=some q
 |[],h,_=>by cases h
 |a::l,h,hf=>by
  rw[find?_cons]at h;cases pa:p a with
  |true=>
   rw[pa]at h;cases h;rw[filter_cons,if_pos hf,find?_cons,pa]
  |false=>
   rw[pa]at h;have ih:=IG h hf;rw[filter_cons];split
   .rw[find?_cons,pa];exact ih
   .exact ih
def Tr{K:PySem.W.Frag}{ts:List Tb}{nm:Str}{C:Addr}(h:clsAt K nm=some C)(hC:C∉ts.map (·.1)):clsAt (B3 K ts) nm=some C:=by
 obtain⟨⟨C',o⟩,e,e2⟩:=c7 h;cases e2;unfold clsAt B3;rw[List.find?_append,IG e (by simpa using hC)];rfl
def Ini(s:Stmt)(ps fs:List Str):Prop:=(∀{P:Program} {w:World} {K:PySem.W.Frag} {mg:Str->Option Value} {base:Heap} {qual:Str} {C fI fa:Addr} {fd:FuncData},Fun K "__init__" qual s fa fd->XC K C fI->(∀f∈fs,Dv K C f)->FnOk P w K mg base CX0 1 fa fd ps (spJ C fs))/\ps.length=fs.length+1/\fs.length<=1000 /\
 ∀(qual:Str) (kV doc pm:Value) (an:Option Addr) (cdv ct:Value) (us:List Value),us.length=ps.length->bindArgs (PySem.W.fnOf "__init__" qual (CP s) (B9 s) (AB s) .none kV doc pm an cdv ct) ⟨us,[]⟩=pure (ps.zip us)
section
variable{K:PySem.W.Frag}{h:Heap}{mg:Str->Option Value}{xs:Xs}{c P:Str->Addr}(X:K.In h)(G:h.Ns mainGlobals mg)(hx:HX xs mg h c P){l:PySem.W.OpenLaw}{w:World}{base:Heap}{nm:Str}{s:Stmt}{fs ps:List Str}{C:Addr}
include X hx in
theorem Ec.ncls(H:Ea.Ec K nm s fs C):C∉(tbs xs P).map (·.1):=λz=>by
 obtain⟨fI,N,nm',q,bs,bm,sub,sn,ab,col,dd,od,an,k0,k1,k2,k3,k5,oc,kV,dc,pm,cd,ct,sl,a,b,c',_⟩:=H;have:=X _ _ c';rw[PJ hx C z]at this;cases this
include X hx in
theorem Ec.at(H:Ea.Ec K nm s fs C):clsAt (B3 K (tbs xs P)) nm=some C:=by
 have n:=Ec.ncls X hx H;obtain⟨fI,N,nm',q,bs,bm,sub,sn,ab,col,dd,od,an,k0,k1,k2,k3,k5,oc,kV,dc,pm,cd,ct,sl,a,b,_⟩:=H;exact Tr b n
include X G hx in
theorem Ec.cl(H:Ea.Ec K nm s fs C)(I:Ini s ps fs):Cl (enM l w K xs P mg base) nm fs:=by
 have at':=Ec.at X hx H;have hP:=PJ hx;obtain⟨fI,N,nm',q,bs,bm,sub,sn,ab,col,dd,od,an,k0,k1,k2,k3,k5,oc,kV,dc,pm,cd,ct,sl,a,b,lC,ov,fi,fn,kp,sa,ga,gx,ca,gd,tk,mo,na,li,ci,ki⟩:=H;have LE:=Np (ts:=tbs xs P) X hP;have xc:XC (B3 K (tbs xs P)) C fI:=LE.xc ⟨_,_,li,rfl⟩ ⟨⟨_,_,_,_,_,_,_,_,_,_,_,_,_,_,_,lC,UO ov⟩,fi,fn,kp,sa,ga,gx⟩;have FI:=Fun.mark (ts:=tbs xs P) (Qz (st:=s) li ci ki) X hP;have nA:∀f∈fs,Dv (B3 K (tbs xs P)) C f:=λf hf=>LE.noAttr (na f hf);exact⟨C,fI,_,ps,PySem.W.mg_of X G a,at',xc,LE.xi ⟨ca,gd,tk,mo⟩,nA,I.1 FI xc nA,FI.binds (I.2.2.2 _),I.2.1,I.2.2.1⟩
variable{B:Str}{CB:Addr}{b:Bool}
include X G hx in
theorem Ec.ch(H:Ea.Ec K nm s fs C)(hB:PySem.W.nsIn K mainGlobals B=some (some (.ref CB)))(k:PySem.W.exmOne K (.ref C) (.ref CB)=some true):Ch (enM l w K xs P mg base) B nm:=
 ⟨CB,C,PySem.W.mg_of X G hB,Ec.at X hx H,(Np (ts:=tbs xs P) X (PJ hx)).exm k⟩
include X G hx in
include X G hx in
include X G hx in
end
end L2
namespace T43
open PySem L2
abbrev IF:Stmt:=top 5
def Li:FnScope ["thing"] ["thing"] (AB IF):=Ax (by kernel_rfl)
@[reducible] def N9:MS:=(AX (DD (C7 .int (A1 0)) (FO (C7 .bool (A1 0)))))
def DL:FD:=mkF 1 1 N9
abbrev EF:Df:=⟨"is_number",IF,["thing"],1,DL⟩
abbrev Gb:Stmt:=top 6
def Jl:FnScope ["many","thing"] ["many","thing"] (AB Gb):=Ax (by kernel_rfl)
@[reducible] def Kr:MS:=(AX (DD (C7 .tuple (A1 1)) (mOp gEq (mCB (f1 true BZ) (A3 (A1 1) A6)) (A1 0))))
def Bn:FD:=mkF 2 2 Kr
abbrev DR:Df:=⟨"is_tuple_of",Gb,["many","thing"],1,Bn⟩
abbrev GZ:Stmt:=top 8
def Jj:FnScope ["works","coming"] ["works"] (AB GZ):=Ax (by kernel_rfl)
@[reducible] def Ko:MS:=(AE (AT 1 (mOp gIx (mOp gIx (A1 0) (mC (.int 0))) (mC (.int 1))))
 (AE (Ak (BU (C8 K2 (Aw 1 [1] (BB (A1 0)) (AG 0) Bw (mOp gEq (mOp gIx (A1 0) (mC (.int 1))) (A1 1)))))
  (AX (A1 1))
  Ac)
 (AX (mC .non))))
def DT:FD:=mkF 1 2 Ko
abbrev Ed:Df:=⟨"same_coming",GZ,["works"],1,DT⟩
abbrev Gu:Stmt:=top 9
def Kl:FnScope ["works","coming"] ["works"] (AB Gu):=Ax (by kernel_rfl)
@[reducible] def MK:MS:=(AE (AT 1 (A8 0 DT (A3 (A1 0) A6)))
 (AE (Ak (AM (BI false (A1 1)))
  Bq
  Ac)
 (AX (A1 1))))
def Dx:FD:=mkF 1 2 MK
abbrev FG:Df:=⟨"one_coming",Gu,["works"],2,Dx⟩
abbrev Dh:Stmt:=top 10
def Fg:FnScope ["works","word"] ["works","word"] (AB Dh):=Ax (by kernel_rfl)
@[reducible] def GE:MS:=(Ak (BU (C8 MW (Aw 1 [1] (BB (A1 0)) (AG 0) Bw (mOp gNe (mOp gIx (mOp gIx (A1 0) (mC (.int 2))) (mC (.int 0))) (A1 1)))))
 Bq
 Ac)
def Br:FD:=mkF 2 2 GE
abbrev Cd:Df:=⟨"refuse_other_costs",Dh,["works","word"],1,Br⟩
abbrev IE:Stmt:=top 11
def Lh:FnScope ["work"] ["work"] (AB IE):=Ax (by kernel_rfl)
@[reducible] def N8:MS:=(AX (mOp gIx (mOp gIx (A1 0) (mC (.int 2))) (FW (mC (.int 1)))))
def EH:FD:=mkF 1 1 N8
abbrev Fb:Df:=⟨"weight_of",IE,["work"],1,EH⟩
abbrev Ga:Stmt:=top 13
def Jk:FnScope ["works","coming"] ["works"] (AB Ga):=Ax (by kernel_rfl)
@[reducible] def Kq:MS:=(AE (AT 1 (A8 0 Dx (A3 (A1 0) A6)))
 (AE (BF (A8 0 Br (A3 (A1 0) (A3 (mC (.str "miss")) A6))))
 (AX (A1 1))))
def BR:FD:=mkF 1 2 Kq
abbrev Bl:Df:=⟨"late_coming",Ga,["works"],3,BR⟩
abbrev KL:Stmt:=top 14
def OZ:FnScope ["works"] ["works"] (AB KL):=Ax (by kernel_rfl)
@[reducible] def Qo:MS:=(AX (BH (Nr (A3 (mCB (f1 true BZ) (A3 (A1 0) A6)) A6) [0] (Ap (A3 (mOp gIx (mOp gIx (mOp gIx (A1 1) (A1 0)) (mC (.int 2))) (mC (.int 1))) (A3 (A1 0) A6))))))
def De:FD:=mkF 1 1 Qo
abbrev Db:Df:=⟨"by_dues",KL,["works"],4,De⟩
abbrev Gc:Stmt:=top 15
def Jm:FnScope ["works"] ["works"] (AB Gc):=Ax (by kernel_rfl)
@[reducible] def Ks:MS:=(AX (C8 FC (Aw 1 [] (BB (A1 0)) (AG 0) Bw (A8 0 EH (A3 (A1 0) A6)))))
def Bo:FD:=mkF 1 1 Ks
abbrev Bm:Df:=⟨"full_weight",Gc,["works"],2,Bo⟩
abbrev KI:Stmt:=top 16
def OW:FnScope ["one","other"] ["one","other"] (AB KI):=Ax (by kernel_rfl)
@[reducible] def Ql:MS:=(AX (Ib (BI false (A1 1)) (DD (BI true (A1 0)) (mOp gLe (A1 0) (A1 1)))))
def Bs:FD:=mkF 2 2 Ql
abbrev D5:Df:=⟨"no_more",KI,["one","other"],1,Bs⟩
abbrev Gs:Stmt:=top 17
def Kk:FnScope ["row","work","w","length","coming","word","due","weight","end"] ["row","work","w"] (AB Gs):=Ax (by kernel_rfl)
@[reducible] def MJ:MS:=(AE (GG (A1 1) (BX 3 (AR (AG 3) (AR (AG 4) (AR (BX 3 (AR (AG 5) (AR (AG 6) (AR (AG 7) BY)))) BY)))))
 (AE (Ak (mOr (AM (mOp gLt (A1 2) (A1 7))) (AM (BI false (mOp gIx (A1 0) (mOp B5 (A1 2) (A1 7))))))
  (AX (mC .non))
  Ac)
 (AE (AT 8 (mOp AS (mOp gIx (A1 0) (mOp B5 (A1 2) (A1 7))) (A1 3)))
 (AX (mIf (AM (mOp gLe (A1 8) (A1 6))) (A1 8) (mC .non))))))
def CS:FD:=mkF 3 9 MJ
abbrev D4:Df:=⟨"put_behind",Gs,["row","work","w"],1,CS⟩
abbrev Eh:Stmt:=top 18
def Gp:FnScope ["table"] ["table"] (AB Eh):=Ax (by kernel_rfl)
@[reducible] def IC:MS:=(AX (C8 K1 (Aw 2 [] (Bg (BB (mOp gIx (A1 0) (FW (mC (.int 1)))))) (BX 2 (AR (AG 0) (AR (AG 1) BY))) (AM (BI true (A1 1))) (A1 0))))
def CL:FD:=mkF 1 1 IC
abbrev CJ:Df:=⟨"greatest_weight",Eh,["table"],1,CL⟩
abbrev Di:Stmt:=top 19
def F5:FnScope ["works","thing","path","many","k","row","w","entry"] ["works","thing","path"] (AB Di):=Ax (by kernel_rfl)
@[reducible] def JH:MS:=(AE (Ak (C6 (BU (A8 0 Bn (A3 (mOp AS (mCB (f1 true BZ) (A3 (A1 0) A6)) (mC (.int 1))) (A3 (A1 1) A6)))))
 Bq
 Ac)
 (AE (AT 3 (mOp AS (A8 0 Bo (A3 (A1 0) A6)) (mC (.int 1))))
 (BN (Bg (BB (A1 1))) (BX 2 (AR (AG 4) (AR (AG 5) BY)))
  (AE (Ak (C6 (BU (A8 0 Bn (A3 (A1 3) (A3 (A1 5) A6)))))
  Bq
  Ac)
 (BN (Bg (BB (A1 5))) (BX 2 (AR (AG 6) (AR (AG 7) BY)))
  (Ak (Cz (AM (BI true (A1 7))) (C6 (BU (A8 0 DL (A3 (A1 7) A6)))))
  Bq
  Ac))))))
def Bh:FD:=mkF 3 8 JH
abbrev Cq:Df:=⟨"look_at_shape",Di,["works","thing","path"],3,Bh⟩
@[reducible] def Ia:MS:=(AE (Ak (C6 (BU (A8 0 Bn (A3 (mOp AS (mCB (f1 true BZ) (A3 (A1 0) A6)) (mC (.int 1))) (A3 (A1 1) A6)))))
 (Cm "NoPaper" ["path","word"] (A3 (A1 2) (A3 (mC (.str "shape")) A6)))
 (Cy Ac))
 (AE (Cy (AT 3 (mOp AS (A8 0 Bo (A3 (A1 0) A6)) (mC (.int 1)))))
 (BN (Bg (BB (A1 1))) (BX 2 (AR (AG 4) (AR (AG 5) BY)))
  (AE (Ak (C6 (BU (A8 0 Bn (A3 (A1 3) (A3 (A1 5) A6)))))
  (Cm "NoPaper" ["path","word"] (A3 (mOp AS (A1 2) (Ap (A3 (A1 4) A6))) (A3 (mC (.str "shape")) A6)))
  (Cy Ac))
 (BN (Bg (BB (A1 5))) (BX 2 (AR (AG 6) (AR (AG 7) BY)))
  (Ak (Cz (AM (BI true (A1 7))) (C6 (BU (A8 0 DL (A3 (A1 7) A6)))))
  (Cm "NoPaper" ["path","word"] (A3 (mOp AS (A1 2) (Ap (A3 (A1 4) (A3 (A1 6) A6)))) (A3 (mC (.str "shape")) A6)))
  (Cy Ac)))))))
def Du:FD:=mkX 3 8 Ia
abbrev Dg:Df:=⟨"look_at_shape",Di,["works","thing","path"],3,Du⟩
def Ig:DjF Du Bh:=JO (ET (Hw Dc HR) (ET HR (JP (ET (Hw Dc HR) (JP (Hw Dc HR))))))
abbrev EX:Stmt:=top 20
def Fh:FnScope ["work","above","row","path","w","entry"] ["work","above","row","path"] (AB EX):=Ax (by kernel_rfl)
@[reducible] def Kp:MS:=(BN (Bg (BB (A1 2))) (BX 2 (AR (AG 4) (AR (AG 5) BY)))
 (AE (Ak (C6 (BU (A8 0 Bs (A3 (A1 5) (A3 (mOp gIx (A1 1) (A1 4)) A6)))))
 Bq
 Ac)
 (Ak (C6 (BU (A8 0 Bs (A3 (A1 5) (A3 (A8 0 CS (A3 (A1 1) (A3 (A1 0) (A3 (A1 4) A6)))) A6)))))
  Bq
  Ac)))
def CD:FD:=mkF 4 6 Kp
abbrev DQ:Df:=⟨"look_at_row",EX,["work","above","row","path"],2,CD⟩
@[reducible] def Jx:MS:=(BN (Bg (BB (A1 2))) (BX 2 (AR (AG 4) (AR (AG 5) BY)))
 (AE (Ak (C6 (BU (A8 0 Bs (A3 (A1 5) (A3 (mOp gIx (A1 1) (A1 4)) A6)))))
 (Cm "NoPaper" ["path","word"] (A3 (mOp AS (A1 3) (Ap (A3 (A1 4) A6))) (A3 (mC (.str "kept")) A6)))
 (Cy Ac))
 (Ak (C6 (BU (A8 0 Bs (A3 (A1 5) (A3 (A8 0 CS (A3 (A1 1) (A3 (A1 0) (A3 (A1 4) A6)))) A6)))))
  (Cm "NoPaper" ["path","word"] (A3 (mOp AS (A1 3) (Ap (A3 (A1 4) A6))) (A3 (mC (.str "more")) A6)))
  (Cy Ac))))
def Cn:FD:=mkX 4 6 Jx
abbrev EV:Df:=⟨"look_at_row",EX,["work","above","row","path"],3,Cn⟩
def Fw:DjF Cn CD:=JO (JP (ET (Hw Dc HR) (Hw Dc HR)))
abbrev DV:Stmt:=top 21
def Eg:FnScope ["works","table","path","k","j"] ["works","table","path"] (AB DV):=Ax (by kernel_rfl)
@[reducible] def IZ:MS:=(AE (Ak (C6 (BU (A8 0 Bs (A3 (mOp gIx (mOp gIx (A1 1) (mC (.int 0))) (mC (.int 0))) (A3 (A8 0 BR (A3 (A1 0) A6)) A6)))))
 Bq
 Ac)
 (BN (FA (CW (A8 0 De (A3 (A1 0) A6)))) (BX 2 (AR (AG 3) (AR (AG 4) BY)))
  (BF (A8 0 CD (A3 (mOp gIx (A1 0) (A1 4)) (A3 (mOp gIx (A1 1) (mOp B5 (A1 3) (mC (.int 1)))) (A3 (mOp gIx (A1 1) (A1 3)) (A3 (mOp Ep (A1 2) (Ap (A3 (A1 3) A6))) A6))))))))
def Ba:FD:=mkF 3 5 IZ
abbrev Ce:Df:=⟨"look_at_places",DV,["works","table","path"],5,Ba⟩
@[reducible] def ID:MS:=(AE (Ak (C6 (BU (A8 0 Bs (A3 (mOp gIx (mOp gIx (A1 1) (mC (.int 0))) (mC (.int 0))) (A3 (A8 0 BR (A3 (A1 0) A6)) A6)))))
 (Cm "NoPaper" ["path","word"] (A3 (mOp Ep (A1 2) (Ap (A3 (mC (.int 0)) (A3 (mC (.int 0)) A6)))) (A3 (mC (.str "begin")) A6)))
 (Cy Ac))
 (BN (FA (CW (A8 0 De (A3 (A1 0) A6)))) (BX 2 (AR (AG 3) (AR (AG 4) BY)))
  (Dp (BF (A8 0 CD (A3 (mOp gIx (A1 0) (A1 4)) (A3 (mOp gIx (A1 1) (mOp B5 (A1 3) (mC (.int 1)))) (A3 (mOp gIx (A1 1) (A1 3)) (A3 (mOp Ep (A1 2) (Ap (A3 (A1 3) A6))) A6)))))) (AX (A8 0 Cn (A3 (mOp gIx (A1 0) (A1 4)) (A3 (mOp gIx (A1 1) (mOp B5 (A1 3) (mC (.int 1)))) (A3 (mOp gIx (A1 1) (A1 3)) (A3 (mOp Ep (A1 2) (Ap (A3 (A1 3) A6))) A6)))))))))
def C1:FD:=mkX 3 5 ID
abbrev DU:Df:=⟨"look_at_places",DV,["works","table","path"],5,C1⟩
def Ei:DjF C1 Ba:=JO (ET (Hw Dc HR) (JP (JQ (Fx (DX Fw)))))
abbrev F6:Stmt:=top 22
def GY:FnScope ["works","thing"] ["works","thing"] (AB F6):=Ax (by kernel_rfl)
@[reducible] def ML:MS:=(AE (BF (A8 0 BR (A3 (A1 0) A6)))
 (AE (BF (A8 0 Bh (A3 (A1 0) (A3 (A1 1) (A3 (Ap A6) A6)))))
 (AE (BF (A8 0 Ba (A3 (A1 0) (A3 (A1 1) (A3 (Ap A6) A6)))))
 (AX (mOp B5 (A8 0 Bo (A3 (A1 0) A6)) (A8 0 CL (A3 (A1 1) A6)))))))
def CT:FD:=mkF 2 2 ML
abbrev FH:Df:=⟨"lets_table",F6,["works","thing"],6,CT⟩
@[reducible] def Kt:MS:=(AE (Cy (BF (A8 0 BR (A3 (A1 0) A6))))
 (AE (Dp (BF (A8 0 Bh (A3 (A1 0) (A3 (A1 1) (A3 (Ap A6) A6))))) (AX (A8 0 Du (A3 (A1 0) (A3 (A1 1) (A3 (Ap A6) A6))))))
 (AE (Dp (BF (A8 0 Ba (A3 (A1 0) (A3 (A1 1) (A3 (Ap A6) A6))))) (AX (A8 0 C1 (A3 (A1 0) (A3 (A1 1) (A3 (Ap A6) A6)))))) Bq)))
def D7:FD:=mkX 2 2 Kt
abbrev Ez:Df:=⟨"lets_table",F6,["works","thing"],6,D7⟩
def Gh:DjF D7 CT:=JO (ET HR (ET (JQ (Fx (DX Ig))) (ET (JQ (Fx (DX Ei))) Tk)))
abbrev J1:Stmt:=top 24
def N2:FnScope ["above","work","row","w","kept","more"] ["above","work"] (AB J1):=Ax (by kernel_rfl)
@[reducible] def Oz:MS:=(AE (AT 2 (BH (CO A6)))
 (AE (BN (Bg (BB (A1 0))) (BX 2 (AR (AG 3) (AR (AG 4) BY)))
  (AE (AT 5 (A8 0 CS (A3 (A1 0) (A3 (A1 1) (A3 (A1 3) A6)))))
 (BF (mMt BK (A1 2) (A3 (mIf (BU (A8 0 Bs (A3 (A1 4) (A3 (A1 5) A6)))) (A1 4) (A1 5)) A6)))))
 (AX (mCB (f1 true D3) (A3 (A1 2) A6)))))
def Et:FD:=mkF 2 6 Oz
abbrev GS:Df:=⟨"next_row",J1,["above","work"],2,Et⟩
abbrev J0:Stmt:=top 25
def N1:FnScope ["works","coming","rows","j"] ["works"] (AB J0):=Ax (by kernel_rfl)
@[reducible] def Oy:MS:=(AE (AT 1 (A8 0 BR (A3 (A1 0) A6)))
 (AE (AT 2 (BH (CO (A3 (mOp AS (Ap (A3 (A1 1) A6)) (Ho (Ap (A3 (mC .non) A6)) (A8 0 Bo (A3 (A1 0) A6)))) A6))))
 (AE (BN (CW (A8 0 De (A3 (A1 0) A6))) (AG 3)
  (BF (mMt BK (A1 2) (A3 (A8 0 Et (A3 (mOp gIx (A1 2) (FW (mC (.int 1)))) (A3 (mOp gIx (A1 0) (A1 3)) A6))) A6))))
 (AX (mCB (f1 true D3) (A3 (A1 2) A6))))))
def Dw:FD:=mkF 1 4 Oy
abbrev GR:Df:=⟨"table_of",J0,["works"],5,Dw⟩
abbrev Lj:Stmt:=top 27
def Pv:FnScope ["_law_script"] ["_law_script"] (AB Lj):=Ax (by kernel_rfl)
@[reducible] def TN:MS:=(AX (LG [((mC (.str "cells")),(BH (HE (MN (A1 0) Bt (DC (mC (.int 63))))))),((mC (.str "at")),(mC (.int 0))),((mC (.str "rest")),(mC (.int 0))),((mC (.str "count")),(mC (.int 0)))]))
def GW:FD:=mkF 1 1 TN
abbrev Ic:Df:=⟨"_law_source",Lj,["_law_script"],1,GW⟩
abbrev Px:Stmt:=top 28
def Uu:FnScope ["_law_source_here","_law_many","_law_found","_law_cells","_law_cell","_law_mixed"] ["_law_source_here","_law_many"] (AB Px):=Ax (by kernel_rfl)
@[reducible] def ZN:MS:=(AE (FQ (A1 0) (mC (.str "count")) (mOp AS (mOp Cc (A1 0) (mC (.str "count"))) (mC (.int 1))))
 (AE (Ak (AM (mOp gGt (mOp Cc (A1 0) (mC (.str "rest"))) (mC (.int 0))))
  (AE (AT 2 (mOp FF (mOp Cc (A1 0) (mC (.str "rest"))) (A1 1)))
 (AE (FQ (A1 0) (mC (.str "rest")) (mOp GK (mOp Cc (A1 0) (mC (.str "rest"))) (A1 1)))
 (AX (A1 2))))
  Ac)
 (AE (AT 3 (mOp Cc (A1 0) (mC (.str "cells"))))
 (AE (AT 4 (mIf (AM (FP true (A1 3) (CO A6))) (mOp gIx (A1 3) (mOp FF (mOp Cc (A1 0) (mC (.str "at"))) (mCB (f1 true BZ) (A3 (A1 3) A6)))) (mC (.int 11))))
 (AE (FQ (A1 0) (mC (.str "at")) (mOp AS (mOp Cc (A1 0) (mC (.str "at"))) (mC (.int 1))))
 (AE (Ak (Cz (AM (mOp gGe (A1 4) (mOp Th (mC (.int 10)) (mC (.int 18))))) (AM (mOp gLe (mOp Cc (A1 0) (mC (.str "at"))) (mCB (f1 true BZ) (A3 (A1 3) A6)))))
  (AE (FQ (A1 0) (mC (.str "rest")) (mOp GK (A1 4) (A1 1)))
 (AX (mOp FF (A1 4) (A1 1))))
  Ac)
 (AE (AT 5 (mOp AS (mOp FF (A1 4) (mC (.int 1073741827))) (mOp GJ (mC (.int 611953)) (mOp Cc (A1 0) (mC (.str "count"))))))
 (AE (AT 5 (mOp FF (mOp AS (mOp AS (mOp GJ (A1 5) (A1 5)) (mOp GJ (mC (.int 3)) (mOp Cc (A1 0) (mC (.str "count"))))) (mC (.int 7))) (mC (.int 2147483543))))
 (AE (AT 5 (mOp FF (mOp AS (mOp AS (mOp GJ (A1 5) (A1 5)) (mOp GJ (mC (.int 69069)) (mOp Cc (A1 0) (mC (.str "count"))))) (mC (.int 1))) (mC (.int 2147483497))))
 (AX (mOp FF (mOp GK (A1 5) (mC (.int 256))) (A1 1))))))))))))
def Ah:FD:=mkF 2 6 ZN
abbrev ES:Df:=⟨"_law_pick",Px,["_law_source_here","_law_many"],1,Ah⟩
abbrev Gv:Stmt:=top 29
def Km:FnScope ["_law_source_here","_law_most","_law_many","_law_coming","_law_longest","_law_heaviest","_law_span","_law_works","_law_k","_law_way","_law_length","_law_due","_law_weight","_law_work"] ["_law_source_here","_law_most"] (AB Gv):=Ax (by kernel_rfl)
@[reducible] def MM:MS:=(AE (AT 2 (mOp AS (mC (.int 1)) (A8 2 Ah (A3 (A1 0) (A3 (A1 1) A6)))))
 (AE (AT 3 (A8 2 Ah (A3 (A1 0) (A3 (mC (.int 61)) A6))))
 (AE (AT 4 (FX (CO (A3 (mC (.int 20)) (A3 (mC (.int 5)) (A3 (mC (.int 2)) A6)))) (A8 2 Ah (A3 (A1 0) (A3 (mC (.int 3)) A6)))))
 (AE (AT 5 (FX (CO (A3 (mC (.int 9)) (A3 (mC (.int 3)) (A3 (mC (.int 1)) A6)))) (A8 2 Ah (A3 (A1 0) (A3 (mC (.int 3)) A6)))))
 (AE (AT 6 (mOp AS (mC (.int 2)) (mOp GK (mOp GJ (A1 2) (A1 4)) (mOp AS (mC (.int 1)) (A8 2 Ah (A3 (A1 0) (A3 (mC (.int 2)) A6)))))))
 (AE (AT 7 (BH (CO A6)))
 (AE (BN (EZ (A3 (A1 2) A6)) (AG 8)
  (AE (AT 9 (A8 2 Ah (A3 (A1 0) (A3 (mC (.int 6)) A6))))
 (AE (AT 10 (mOp AS (mC (.int 1)) (A8 2 Ah (A3 (A1 0) (A3 (A1 4) A6)))))
 (AE (AT 11 (mOp AS (mOp B5 (A1 3) (mC (.int 1))) (A8 2 Ah (A3 (A1 0) (A3 (A1 6) A6)))))
 (AE (AT 12 (A8 2 Ah (A3 (A1 0) (A3 (mOp AS (A1 5) (mC (.int 1))) A6))))
 (AE (Ak (AM (mOp gEq (A1 9) (mC (.int 0))))
  (AT 11 (mOp B5 (A8 2 Ah (A3 (A1 0) (A3 (mC (.int 500)) A6))) (mC (.int 99))))
  Ac)
 (AE (Ak (Cz (AM (mOp gEq (A1 9) (mC (.int 1)))) (AM (mOp gGt (A1 8) (mC (.int 0)))))
  (AT 11 (mOp gIx (mOp gIx (mOp gIx (A1 7) (A8 2 Ah (A3 (A1 0) (A3 (A1 8) A6)))) (mC (.int 2))) (mC (.int 1))))
  Ac)
 (AE (AT 13 (Ap (A3 (A1 10) (A3 (A1 3) (A3 (Ap (A3 (mC (.str "miss")) (A3 (A1 11) (A3 (A1 12) A6)))) A6)))))
 (AE (Ak (Cz (AM (mOp gEq (A1 9) (mC (.int 2)))) (AM (mOp gGt (A1 8) (mC (.int 0)))))
  (AT 13 (mOp gIx (A1 7) (A8 2 Ah (A3 (A1 0) (A3 (A1 8) A6)))))
  Ac)
 (BF (mMt BK (A1 7) (A3 (A1 13) A6))))))))))))
 (AX (mCB (f1 true D3) (A3 (A1 7) A6))))))))))
def Dz:FD:=mkF 2 14 MM
abbrev FJ:Df:=⟨"_law_late_works",Gv,["_law_source_here","_law_most"],2,Dz⟩
abbrev Jn:Stmt:=top 30
def SS:FnScope ["_law_one","_law_due"] ["_law_one","_law_due"] (AB Jn):=Ax (by kernel_rfl)
@[reducible] def Nq(IB:FD):MS:=(AE (Ak (AM (BI false (A1 1)))
 (AX (BI false (A1 0)))
 Ac)
 (AE (Ak (BU (C7 .tuple (A1 1)))
  (AE (Ak (mOr (C6 (BU (C7 .tuple (A1 0)))) (AM (mOp gNe (mCB (f1 true BZ) (A3 (A1 0) A6)) (mCB (f1 true BZ) (A3 (A1 1) A6)))))
  (AX (mC (.bl false)))
  Ac)
 (AX (C8 K2 (Aw 2 [] (HD (BB (A1 0)) (BB (A1 1))) (BX 2 (AR (AG 0) (AR (AG 1) BY))) Bw (A8 0 IB (A3 (A1 0) (A3 (A1 1) A6)))))))
  Ac)
 (AE (Ak (BU (C7 .str (A1 1)))
  (AX (DD (C7 .str (A1 0)) (mOp gEq (A1 0) (A1 1))))
  Ac)
 (AX (DD (C7 .int (A1 0)) (DD (FO (C7 .bool (A1 0))) (mOp gEq (A1 0) (A1 1))))))))
def G0:Nat->FD
 |0=>λ_ _=>none
 |n+1=>mkF 2 2 (Nq (G0 n))
abbrev IB:FD:=G0 4
abbrev K9:Df:=⟨"_law_alike",Jn,["_law_one","_law_due"],4,IB⟩
abbrev J7:Stmt:=top 31
def N3:FnScope ["_law_works"] ["_law_works"] (AB J7):=Ax (by kernel_rfl)
@[reducible] def P0:MS:=(AX (BH (Aw 1 [] (Eb (DW (Eb (Aw 1 [0] (EZ (A3 (mCB (f1 true BZ) (A3 (A1 0) A6)) A6)) (AG 0) Bw (Ap (A3 (mOp gIx (mOp gIx (mOp gIx (A1 1) (A1 0)) (mC (.int 2))) (mC (.int 1))) (A3 (A1 0) A6))))))) (AG 0) Bw (mOp gIx (A1 0) (mC (.int 1))))))
def Dy:FD:=mkF 1 1 P0
abbrev Er:Df:=⟨"_law_by_dues",J7,["_law_works"],1,Dy⟩
abbrev Pw:Stmt:=top 32
def Ut:FnScope ["_law_works","_law_found","_law_row","_law_k","_law_length","_law_coming","_law_cost","_law_fitting"] ["_law_works"] (AB Pw):=Ax (by kernel_rfl)
@[reducible] def ZM:MS:=(AE (AT 1 (BH (CO (A3 (Ap (A3 (mC (.int 0)) (A3 (mC (.int 0)) (A3 (mOp gIx (mOp gIx (A1 0) (mC (.int 0))) (mC (.int 1))) (A3 (BH (CO A6)) A6))))) A6))))
 (AE (BN (Bg (CW (A8 0 Dy (A3 (A1 0) A6)))) (BX 2 (AR (AG 2) (AR (AG 3) BY)))
  (AE (GG (mOp gIx (A1 0) (A1 3)) (BX 3 (AR (AG 4) (AR (AG 5) (AR (AG 6) BY)))))
 (AE (AT 7 (BH (Aw 1 [4,6] (CW (A1 1)) (AG 0) (AM (mOp gLe (mOp AS (mOp gIx (A1 0) (mC (.int 2))) (A1 1)) (mOp gIx (A1 2) (mC (.int 1))))) (A1 0))))
 (AT 1 (BH (HF (A1 1) (BH (Aw 1 [2,6,4,3] (CW (A1 7)) (AG 0) Bw (Ap (A3 (mOp AS (A1 1) (mC (.int 1))) (A3 (mOp AS (mOp gIx (A1 0) (mC (.int 1))) (mOp gIx (A1 2) (mC (.int 2)))) (A3 (mOp AS (mOp gIx (A1 0) (mC (.int 2))) (A1 3)) (A3 (BH (HF (mOp gIx (A1 0) (mC (.int 3))) (BH (CO (A3 (A1 4) A6))))) A6)))))))))))))
 (AX (A1 1))))
def JY:FD:=mkF 1 8 ZM
abbrev Mh:Df:=⟨"_law_sets",Pw,["_law_works"],2,JY⟩
abbrev NQ:Stmt:=top 33
def SO:FnScope ["_law_works","_law_full","_law_rows","_law_row","_law_weight","_law_end","_law_some","_law_k"] ["_law_works"] (AB NQ):=Ax (by kernel_rfl)
@[reducible] def Wd:MS:=(AE (AT 1 (C8 FC (Aw 1 [] (BB (A1 0)) (AG 0) Bw (mOp gIx (mOp gIx (A1 0) (mC (.int 2))) (mC (.int 2))))))
 (AE (AT 2 (BH (Aw 1 [1] (EZ (A3 (mOp AS (mCB (f1 true BZ) (A3 (A1 0) A6)) (mC (.int 1))) A6)) (AG 0) Bw (BH (Jy (CO (A3 (mC .non) A6)) (mOp AS (A1 1) (mC (.int 1))))))))
 (AE (BN (CW (Do JY (A3 (A1 0) A6))) (BX 4 (AR (AG 3) (AR (AG 4) (AR (AG 5) (AR (AG 6) BY)))))
  (BN (Hr (A3 (A1 3) (A3 (mCB (f1 true BZ) (A3 (A1 2) A6)) A6))) (AG 7)
  (Ak (mOr (AM (BI false (mOp gIx (mOp gIx (A1 2) (A1 7)) (A1 4)))) (AM (mOp gLt (A1 5) (mOp gIx (mOp gIx (A1 2) (A1 7)) (A1 4)))))
  (GF (mOp gIx (A1 2) (A1 7)) (A1 4) (A1 5))
  Ac)))
 (AX (C8 D3 (Aw 1 [] (CW (A1 2)) (AG 0) Bw (mCB (f1 true D3) (A3 (A1 0) A6))))))))
def I0:FD:=mkF 1 8 Wd
abbrev K6:Df:=⟨"_law_table",NQ,["_law_works"],3,I0⟩
abbrev KK:Stmt:=top 34
def OY:FnScope ["_law_above","_law_w","_law_work","_law_length","_law_coming","_law_cost","_law_entry"] ["_law_above","_law_w","_law_work"] (AB KK):=Ax (by kernel_rfl)
@[reducible] def Qn:MS:=(AE (GG (A1 2) (BX 3 (AR (AG 3) (AR (AG 4) (AR (AG 5) BY)))))
 (AE (AT 6 (mOp gIx (A1 0) (A1 1)))
 (AE (Ak (Cz (AM (mOp gGe (A1 1) (mOp gIx (A1 5) (mC (.int 2))))) (Cz (AM (BI true (mOp gIx (A1 0) (mOp B5 (A1 1) (mOp gIx (A1 5) (mC (.int 2))))))) (AM (mOp gLe (mOp AS (mOp gIx (A1 0) (mOp B5 (A1 1) (mOp gIx (A1 5) (mC (.int 2))))) (A1 3)) (mOp gIx (A1 5) (mC (.int 1)))))))
  (Ak (mOr (AM (BI false (A1 6))) (AM (mOp gLt (mOp AS (mOp gIx (A1 0) (mOp B5 (A1 1) (mOp gIx (A1 5) (mC (.int 2))))) (A1 3)) (A1 6))))
  (AX (mOp AS (mOp gIx (A1 0) (mOp B5 (A1 1) (mOp gIx (A1 5) (mC (.int 2))))) (A1 3)))
  Ac)
  Ac)
 (AX (A1 6)))))
def FV:FD:=mkF 3 7 Qn
abbrev HV:Df:=⟨"_law_highest",KK,["_law_above","_law_w","_law_work"],1,FV⟩
abbrev Q0:Stmt:=top 35
def Ux:FnScope ["_law_source_here","_law_highest_here","_law_much"] ["_law_source_here","_law_highest_here","_law_much"] (AB Q0):=Ax (by kernel_rfl)
@[reducible] def ZQ:MS:=(AE (Ak (mOr (AM (mOp gEq (A1 2) (mC (.int 0)))) (AM (mOp gGt (A8 2 Ah (A3 (A1 0) (A3 (mC (.int 3)) A6))) (mC (.int 0)))))
 (AX (A1 1))
 Ac)
 (AE (Ak (AM (BI false (A1 1)))
  (AX (mOp B5 (A8 2 Ah (A3 (A1 0) (A3 (mC (.int 300)) A6))) (mC (.int 50))))
  Ac)
 (AX (mOp B5 (A1 1) (A8 2 Ah (A3 (A1 0) (A3 (mOp AS (A1 2) (mC (.int 1))) A6)))))))
def Hg:FD:=mkF 3 3 ZQ
abbrev Mk:Df:=⟨"_law_free",Q0,["_law_source_here","_law_highest_here","_law_much"],2,Hg⟩
abbrev KJ:Stmt:=top 36
def OX:FnScope ["_law_source_here","_law_works","_law_much","_law_full","_law_rows","_law_k","_law_above"] ["_law_source_here","_law_works","_law_much"] (AB KJ):=Ax (by kernel_rfl)
@[reducible] def Qm:MS:=(AE (AT 3 (C8 FC (Aw 1 [] (BB (A1 1)) (AG 0) Bw (mOp gIx (mOp gIx (A1 0) (mC (.int 2))) (mC (.int 2))))))
 (AE (AT 4 (BH (CO (A3 (BH (HF (BH (CO (A3 (mOp B5 (mOp gIx (mOp gIx (A1 1) (mC (.int 0))) (mC (.int 1))) (A8 2 Ah (A3 (A1 0) (A3 (mOp AS (A1 2) (mC (.int 1))) A6)))) A6))) (BH (Aw 1 [0,2] (EZ (A3 (A1 3) A6)) (AG 0) Bw (A8 2 Hg (A3 (A1 1) (A3 (mC .non) (A3 (A1 2) A6)))))))) A6))))
 (AE (BN (CW (A8 0 Dy (A3 (A1 1) A6))) (AG 5)
  (AE (AT 6 (mOp gIx (A1 4) (FW (mC (.int 1)))))
 (BF (mMt BK (A1 4) (A3 (BH (Aw 1 [0,6,1,5,2] (EZ (A3 (mOp AS (A1 3) (mC (.int 1))) A6)) (AG 0) Bw (A8 2 Hg (A3 (A1 1) (A3 (Do FV (A3 (A1 2) (A3 (A1 0) (A3 (mOp gIx (A1 3) (A1 4)) A6)))) (A3 (A1 5) A6)))))) A6)))))
 (AX (C8 D3 (Aw 1 [] (CW (A1 4)) (AG 0) Bw (mCB (f1 true D3) (A3 (A1 0) A6))))))))
def EU:FD:=mkF 3 7 Qm
abbrev HU:Df:=⟨"_law_lowered",KJ,["_law_source_here","_law_works","_law_much"],3,EU⟩
abbrev J8:Stmt:=top 37
def N4:FnScope ["_law_thing"] ["_law_thing"] (AB J8):=Ax (by kernel_rfl)
@[reducible] def P1:MS:=(AX (Ib (BI false (A1 0)) (DD (C7 .int (A1 0)) (FO (C7 .bool (A1 0))))))
def Eu:FD:=mkF 1 1 P1
abbrev GT:Df:=⟨"_law_is_entry",J8,["_law_thing"],1,Eu⟩
abbrev NR:Stmt:=top 38
def SQ:FnScope ["_law_works","_law_thing","_law_path","_law_full","_law_k","_law_row","_law_w","_law_entry"] ["_law_works","_law_thing","_law_path"] (AB NR):=Ax (by kernel_rfl)
@[reducible] def We:MS:=(AE (AT 3 (C8 FC (Aw 1 [] (BB (A1 0)) (AG 0) Bw (mOp gIx (mOp gIx (A1 0) (mC (.int 2))) (mC (.int 2))))))
 (AE (Ak (mOr (C6 (BU (C7 .tuple (A1 1)))) (AM (mOp gNe (mCB (f1 true BZ) (A3 (A1 1) A6)) (mOp AS (mCB (f1 true BZ) (A3 (A1 0) A6)) (mC (.int 1))))))
  (AX (A1 2))
  Ac)
 (AE (BN (Bg (BB (A1 1))) (BX 2 (AR (AG 4) (AR (AG 5) BY)))
  (AE (Ak (mOr (C6 (BU (C7 .tuple (A1 5)))) (AM (mOp gNe (mCB (f1 true BZ) (A3 (A1 5) A6)) (mOp AS (A1 3) (mC (.int 1))))))
  (AX (mOp AS (A1 2) (Ap (A3 (A1 4) A6))))
  Ac)
 (BN (Bg (BB (A1 5))) (BX 2 (AR (AG 6) (AR (AG 7) BY)))
  (Ak (C6 (BU (A8 0 Eu (A3 (A1 7) A6))))
  (AX (mOp AS (A1 2) (Ap (A3 (A1 4) (A3 (A1 6) A6)))))
  Ac))))
 (AX (mC .non)))))
def IA:FD:=mkF 3 8 We
abbrev K7:Df:=⟨"_law_shape",NR,["_law_works","_law_thing","_law_path"],2,IA⟩
abbrev Pz:Stmt:=top 39
def Uw:FnScope ["_law_table_here"] ["_law_table_here"] (AB Pz):=Ax (by kernel_rfl)
@[reducible] def ZP:MS:=(AX (C8 K1 (Aw 2 [] (Bg (BB (mOp gIx (A1 0) (FW (mC (.int 1)))))) (BX 2 (AR (AG 0) (AR (AG 1) BY))) (AM (BI true (A1 1))) (A1 0))))
def Ja:FD:=mkF 1 1 ZP
abbrev Mj:Df:=⟨"_law_last",Pz,["_law_table_here"],1,Ja⟩
abbrev Py:Stmt:=top 40
def Uv:FnScope ["_law_source_here","_law_works","_law_j","_law_way","_law_length","_law_coming","_law_cost","_law_due"] ["_law_source_here","_law_works"] (AB Py):=Ax (by kernel_rfl)
@[reducible] def ZO:MS:=(AE (AT 2 (A8 2 Ah (A3 (A1 0) (A3 (mCB (f1 true BZ) (A3 (A1 1) A6)) A6))))
 (AE (AT 3 (A8 2 Ah (A3 (A1 0) (A3 (mC (.int 4)) A6))))
 (AE (GG (mOp gIx (A1 1) (A1 2)) (BX 3 (AR (AG 4) (AR (AG 5) (AR (AG 6) BY)))))
 (AE (AT 4 (FX (CO (A3 (mCB GO (A3 (mC (.int 20)) (A3 (mOp AS (A1 4) (mC (.int 1))) A6))) (A3 (mCB GP (A3 (mC (.int 1)) (A3 (mOp B5 (A1 4) (mC (.int 1))) A6))) (A3 (A1 4) (A3 (A1 4) A6))))) (A1 3)))
 (AE (AT 7 (FX (CO (A3 (mOp gIx (A1 6) (mC (.int 1))) (A3 (mOp gIx (A1 6) (mC (.int 1))) (A3 (mCB GO (A3 (mC (.int 400)) (A3 (mOp AS (mOp gIx (A1 6) (mC (.int 1))) (mC (.int 1))) A6))) (A3 (mCB GP (A3 (FW (mC (.int 99))) (A3 (mOp B5 (mOp gIx (A1 6) (mC (.int 1))) (mC (.int 1))) A6))) A6))))) (A1 3)))
 (AX (mOp AS (mOp Ep (E6 (A1 1) Bt (DC (A1 2))) (Ap (A3 (Ap (A3 (A1 4) (A3 (A1 5) (A3 (Ap (A3 (mC (.str "miss")) (A3 (A1 7) (A3 (mOp gIx (A1 6) (mC (.int 2))) A6)))) A6)))) A6))) (E6 (A1 1) (DC (mOp AS (A1 2) (mC (.int 1)))) Bt))))))))
def Hf:FD:=mkF 2 8 ZO
abbrev Mi:Df:=⟨"_law_near",Py,["_law_source_here","_law_works"],2,Hf⟩
abbrev KH:Stmt:=top 41
def OV:FnScope ["_law_source_here","_law_table_here","_law_k","_law_w","_law_step","_law_entry","_law_some","_law_row"] ["_law_source_here","_law_table_here"] (AB KH):=Ax (by kernel_rfl)
@[reducible] def Qk:MS:=(AE (AT 2 (A8 2 Ah (A3 (A1 0) (A3 (mCB (f1 true BZ) (A3 (A1 1) A6)) A6))))
 (AE (AT 3 (A8 2 Ah (A3 (A1 0) (A3 (mCB (f1 true BZ) (A3 (mOp gIx (A1 1) (A1 2)) A6)) A6))))
 (AE (AT 4 (A8 2 Ah (A3 (A1 0) (A3 (mC (.int 5)) A6))))
 (AE (AT 5 (mIf (AM (BI true (mOp gIx (mOp gIx (A1 1) (A1 2)) (A1 3)))) (mOp gIx (mOp gIx (A1 1) (A1 2)) (A1 3)) (mC (.int 30))))
 (AE (AT 6 (BH (CO (A3 (mC .non) (A3 (mOp AS (A1 5) (mC (.int 1))) (A3 (mOp B5 (A1 5) (mC (.int 1))) (A3 (mOp gIx (mOp gIx (A1 1) (A1 2)) (mOp FF (mOp AS (A1 3) (mC (.int 1))) (mCB (f1 true BZ) (A3 (mOp gIx (A1 1) (A1 2)) A6)))) (A3 (mOp gIx (mOp gIx (A1 1) (mOp B5 (A1 2) (mC (.int 1)))) (A1 3)) A6))))))))
 (AE (AT 7 (mOp AS (mOp Ep (E6 (mOp gIx (A1 1) (A1 2)) Bt (DC (A1 3))) (Ap (A3 (mOp gIx (A1 6) (A1 4)) A6))) (E6 (mOp gIx (A1 1) (A1 2)) (DC (mOp AS (A1 3) (mC (.int 1)))) Bt)))
 (AX (mOp AS (mOp Ep (E6 (A1 1) Bt (DC (A1 2))) (Ap (A3 (A1 7) A6))) (E6 (A1 1) (DC (mOp AS (A1 2) (mC (.int 1)))) Bt)))))))))
def D8:FD:=mkF 2 8 Qk
abbrev HQ:Df:=⟨"_law_stepped",KH,["_law_source_here","_law_table_here"],2,D8⟩
abbrev U7:Stmt:=top 42
def XZ:FnScope ["_law_works","_law_thing","_law_found"] ["_law_works","_law_thing"] (AB U7):=Ax (by kernel_rfl)
@[reducible] def am:MS:=(AE (AT 2 (Ap (A3 (mC (.str "no")) A6)))
 (AE (Dm ["NoPaper"] none (AT 2 (Ap (A3 (mC (.str "told")) (A3 (A8 0 CT (A3 (A1 0) (A3 (A1 1) A6))) A6))))
  (Dp (AT 2 (Ap (A3 (mC (.str "told")) (A3 (A8 0 CT (A3 (A1 0) (A3 (A1 1) A6))) A6)))) (AX (Hn (mC (.str "told")) (A8 0 D7 (A3 (A1 0) (A3 (A1 1) A6))))))
  (AT 2 (Ap (A3 (mC (.str "no")) A6))))
 (AX (A1 2))))
def JZ:FD:=mkF 2 3 am
abbrev PP:Df:=⟨"_law_let",U7,["_law_works","_law_thing"],7,JZ⟩
abbrev NS:Stmt:=top 43
def SR:FnScope ["_law_works","_law_thing","_law_tells","_law_true","_law_row","_law_true_row","_law_entry","_law_true_entry","_law_full"] ["_law_works","_law_thing","_law_tells","_law_true"] (AB NS):=Ax (by kernel_rfl)
@[reducible] def Wf:MS:=(AE (Ak (AM (BI true (A8 0 IA (A3 (A1 0) (A3 (A1 1) (A3 (Ap A6) A6))))))
 (AX (mC (.bl false)))
 Ac)
 (AE (BN (HD (BB (A1 1)) (BB (A1 3))) (BX 2 (AR (AG 4) (AR (AG 5) BY)))
  (BN (HD (BB (A1 4)) (BB (A1 5))) (BX 2 (AR (AG 6) (AR (AG 7) BY)))
  (Ak (Cz (AM (BI true (A1 7))) (mOr (AM (BI false (A1 6))) (AM (mOp gGt (A1 6) (A1 7)))))
  (AX (mC (.bl false)))
  Ac)))
 (AE (AT 8 (mOp B5 (mCB (f1 true BZ) (A3 (mOp gIx (A1 3) (mC (.int 0))) A6)) (mC (.int 1))))
 (AX (DD (A8 0 IB (A3 (A1 2) (A3 (mOp B5 (A1 8) (A8 0 Ja (A3 (A1 1) A6))) A6))) (mOp gLe (A1 2) (mOp B5 (A1 8) (A8 0 Ja (A3 (A1 3) A6)))))))))
def G4:FD:=mkF 4 9 Wf
abbrev K8:Df:=⟨"_law_is_so",NS,["_law_works","_law_thing","_law_tells","_law_true"],5,G4⟩
abbrev U8:Stmt:=top 44
def Xa:FnScope ["_law_script","_law_source_here","_law_most","_law_works","_law_true","_law_things","_law_own","_law_at","_law_thing","_law_found"] ["_law_script"] (AB U8):=Ax (by kernel_rfl)
@[reducible] def ao:MS:=(AE (AT 1 (Do GW (A3 (A1 0) A6)))
 (AE (AT 2 (FX (CO (A3 (mC (.int 3)) (A3 (mC (.int 5)) (A3 (mC (.int 8)) A6)))) (A8 2 Ah (A3 (A1 1) (A3 (mC (.int 3)) A6)))))
 (AE (AT 3 (A8 2 Dz (A3 (A1 1) (A3 (A1 2) A6))))
 (AE (AT 4 (A8 0 I0 (A3 (A1 3) A6)))
 (AE (AT 5 (BH (Aw 1 [1,3] (BB (Ap (A3 (mC (.int 0)) (A3 (mC (.int 1)) (A3 (mC (.int 12)) A6))))) (AG 0) Bw (A8 2 EU (A3 (A1 1) (A3 (A1 2) (A3 (A1 0) A6)))))))
 (AE (AT 6 (BH (Hq (A1 5))))
 (AE (BF (mMt BK (A1 5) (A3 (A8 0 Dw (A3 (A1 3) A6)) A6)))
 (AE (BF (mMt BK (A1 5) (A3 (A8 0 Dw (A3 (A8 2 Hf (A3 (A1 1) (A3 (A1 3) A6))) A6)) A6)))
 (AE (BF (mMt BK (A1 5) (A3 (A8 2 EU (A3 (A1 1) (A3 (A8 2 Hf (A3 (A1 1) (A3 (A1 3) A6))) (A3 (mC (.int 0)) A6)))) A6)))
 (AE (BF (mMt BK (A1 5) (A3 (A8 2 D8 (A3 (A1 1) (A3 (mOp gIx (A1 6) (A8 2 Ah (A3 (A1 1) (A3 (mC (.int 3)) A6)))) A6))) A6)))
 (AE (BF (mMt BK (A1 5) (A3 (A8 2 D8 (A3 (A1 1) (A3 (A8 2 D8 (A3 (A1 1) (A3 (mOp gIx (A1 6) (A8 2 Ah (A3 (A1 1) (A3 (mC (.int 3)) A6)))) A6))) A6))) A6)))
 (AE (BN (Bg (CW (A1 5))) (BX 2 (AR (AG 7) (AR (AG 8) BY)))
  (AE (AT 9 (A8 0 JZ (A3 (A1 3) (A3 (A1 8) A6))))
 (AE (Ak (Cz (AM (mOp gNe (mOp gIx (A1 9) (mC (.int 0))) (mC (.str "told")))) (AM (mOp gLt (A1 7) (mC (.int 4)))))
  (AX (mC (.bl false)))
  Ac)
 (Ak (Cz (AM (mOp gEq (mOp gIx (A1 9) (mC (.int 0))) (mC (.str "told")))) (C6 (BU (A8 0 G4 (A3 (A1 3) (A3 (A1 8) (A3 (mOp gIx (A1 9) (mC (.int 1))) (A3 (A1 4) A6))))))))
  (AX (mC (.bl false)))
  Ac))))
 (AX (mC (.bl true)))))))))))))))
def Rw:FD:=mkF 1 10 ao
abbrev PQ:Df:=⟨"law",U8,["_law_script"],8,Rw⟩
set_option maxHeartbeats 0 in
def oks{E:EnK}(B:BltA E.mg)(c0:Cl E "NoPaper" ["path","word"])(c1:Hx E "NoPaper" ["NoPaper"]):(Dn E EF->Kn E EF)/\
 (Dn E DR->Kn E DR)/\
 (Dn E Ed->Kn E Ed)/\
 (Dn E FG->Kn E Ed->Kn E FG)/\
 (Dn E Cd->Kn E Cd)/\
 (Dn E Fb->Kn E Fb)/\
 (Dn E Bl->Kn E FG->Kn E Cd->Kn E Bl)/\
 (Dl E Db ⟨40,41,40,70⟩->Kn E Db)/\
 (Dn E Bm->Kn E Fb->Kn E Bm)/\
 (Dn E D5->Kn E D5)/\
 (Dn E D4->Kn E D4)/\
 (Dn E CJ->Kn E CJ)/\
 (Dn E Dg->Kn E EF->Kn E DR->Kn E Bm->KnX E Dg)/\
 (Dn E Cq->Kn E EF->Kn E DR->Kn E Bm->Kn E Cq)/\
 (Dn E EV->Kn E D5->Kn E D4->KnX E EV)/\
 (Dn E DQ->Kn E D5->Kn E D4->Kn E DQ)/\
 (Dn E DU->Kn E Bl->Kn E Db->Kn E D5->Kn E DQ->KnX E EV->KnX E DU)/\
 (Dn E Ce->Kn E Bl->Kn E Db->Kn E D5->Kn E DQ->Kn E Ce)/\
 (Dn E Ez->Kn E Bl->Kn E Bm->Kn E CJ->Kn E Cq->Kn E Ce->KnX E Dg->KnX E DU->KnX E Ez)/\
 (Dn E FH->Kn E Bl->Kn E Bm->Kn E CJ->Kn E Cq->Kn E Ce->Kn E FH)/\
 (Dn E GS->Kn E D5->Kn E D4->Kn E GS)/\
 (Dn E GR->Kn E Bl->Kn E Db->Kn E Bm->Kn E GS->Kn E GR)/\
 (Dn E Ic->Kn E Ic)/\
 (Dn E ES->Kn E ES)/\
 (Dn E FJ->Kn E ES->Kn E FJ)/\
 (Dn E K9->Kn E K9)/\
 (Dn E Er->Kn E Er)/\
 (Dn E Mh->Kn E Er->Kn E Mh)/\
 (Dn E K6->Kn E Mh->Kn E K6)/\
 (Dn E HV->Kn E HV)/\
 (Dn E Mk->Kn E ES->Kn E Mk)/\
 (Dn E HU->Kn E ES->Kn E Er->Kn E HV->Kn E Mk->Kn E HU)/\
 (Dn E GT->Kn E GT)/\
 (Dn E K7->Kn E GT->Kn E K7)/\
 (Dn E Mj->Kn E Mj)/\
 (Dn E Mi->Kn E ES->Kn E Mi)/\
 (Dn E HQ->Kn E ES->Kn E HQ)/\
 (Dn E PP->Kn E FH->KnX E Ez->Kn E PP)/\
 (Dn E K8->Kn E K9->Kn E K7->Kn E Mj->Kn E K8)/\
 (Dn E PQ->Kn E GR->Kn E Ic->Kn E ES->Kn E FJ->Kn E K6->Kn E HU->Kn E Mi->Kn E HQ->Kn E PP->Kn E K8->Kn E PQ):=by
 refine⟨λD=>okK D Li rfl rfl λ_ _ _ _ _ _ _ hr=>?_,
  λD=>okK D Jl rfl rfl λ_ _ _ _ _ _ _ hr=>?_,
  λD=>okK D Jj rfl rfl λ_ _ _ _ _ _ _ hr=>?_,
  λD _=>okK D Kl rfl rfl λ_ _ _ _ _ _ _ hr=>?_,
  λD=>okK D Fg rfl rfl λ_ _ _ _ _ _ _ hr=>?_,
  λD=>okK D Lh rfl rfl λ_ _ _ _ _ _ _ hr=>?_,
  λD _ _=>okK D Jk rfl rfl λ_ _ _ _ _ _ _ hr=>?_,
  λD=>okL D OZ rfl rfl λ_ _ _ _ LC _ _ _ _ _ _ hcd hr=>?_,
  λD _=>okK D Jm rfl rfl λ_ _ _ _ _ _ _ hr=>?_,
  λD=>okK D OW rfl rfl λ_ _ _ _ _ _ _ hr=>?_,
  λD=>okK D Kk rfl rfl λ_ _ _ _ _ _ _ hr=>?_,
  λD=>okK D Gp rfl rfl λ_ _ _ _ _ _ _ hr=>?_,
  λD _ _ _=>Op D F5 rfl rfl λ_ _ _ _ _ _ _ hr=>?_,
  λD _ _ _=>okK D F5 rfl rfl λ_ _ _ _ _ _ _ hr=>?_,
  λD _ _=>Op D Fh rfl rfl λ_ _ _ _ _ _ _ hr=>?_,
  λD _ _=>okK D Fh rfl rfl λ_ _ _ _ _ _ _ hr=>?_,
  λD _ _ _ _ _=>Op D Eg rfl rfl λ_ _ _ _ _ _ _ hr=>?_,
  λD _ _ _ _=>okK D Eg rfl rfl λ_ _ _ _ _ _ _ hr=>?_,
  λD _ _ _ _ _ _ _=>Op D GY rfl rfl λ_ _ _ _ _ _ _ hr=>?_,
  λD _ _ _ _ _=>okK D GY rfl rfl λ_ _ _ _ _ _ _ hr=>?_,
  λD _ _=>okK D N2 rfl rfl λ_ _ _ _ _ _ _ hr=>?_,
  λD _ _ _ _=>okK D N1 rfl rfl λ_ _ _ _ _ _ _ hr=>?_,
  λD=>okK D Pv rfl rfl λ_ _ _ _ _ _ _ hr=>?_,
  λD=>okK D Uu rfl rfl λ_ _ _ _ _ _ _ hr=>?_,
  λD _=>okK D Km rfl rfl λ_ _ _ _ _ _ _ hr=>?_,
  λD=>Nat.rec (motive:=λn=>Kn E ⟨"_law_alike",Jn,["_law_one","_law_due"],n,G0 n⟩) (ok0 D) (λn ih=>okK (j:=n) D SS rfl (by omega) λ_ _ _ _ _ _ _ hr=>?_) 4,
  λD=>okK D N3 rfl rfl λ_ _ _ _ _ _ _ hr=>?_,
  λD _=>okK D Ut rfl rfl λ_ _ _ _ _ _ _ hr=>?_,
  λD _=>okK D SO rfl rfl λ_ _ _ _ _ _ _ hr=>?_,
  λD=>okK D OY rfl rfl λ_ _ _ _ _ _ _ hr=>?_,
  λD _=>okK D Ux rfl rfl λ_ _ _ _ _ _ _ hr=>?_,
  λD _ _ _ _=>okK D OX rfl rfl λ_ _ _ _ _ _ _ hr=>?_,
  λD=>okK D N4 rfl rfl λ_ _ _ _ _ _ _ hr=>?_,
  λD _=>okK D SQ rfl rfl λ_ _ _ _ _ _ _ hr=>?_,
  λD=>okK D Uw rfl rfl λ_ _ _ _ _ _ _ hr=>?_,
  λD _=>okK D Uv rfl rfl λ_ _ _ _ _ _ _ hr=>?_,
  λD _=>okK D OV rfl rfl λ_ _ _ _ _ _ _ hr=>?_,
  λD _ _=>okK D XZ rfl rfl λ_ _ _ _ _ _ _ hr=>?_,
  λD _ _ _=>okK D SR rfl rfl λ_ _ _ _ _ _ _ hr=>?_,
  λD _ _ _ _ _ _ _ _ _ _=>okK D Xa rfl rfl λ_ _ _ _ _ _ _ hr=>?_⟩
 all_goals (refine' ⟨_,_⟩;rotate_left;repeat' (first
  |((with_reducible show QE _ _ _ _ _);first|exact qv _ _|(first|exact Ym _|exact Yc _|exact aV _|exact Yh _)|((with_reducible show QE _ _ _ _ (mOp _ _ _));first|((with_reducible show QE _ _ _ _ (mOp gIx _ _));refine' aS _ _ _)|((with_reducible show QE _ _ _ _ (mOp Cc _ _));refine' Vu _ (US hr) _ _)|((with_reducible show QE _ _ _ _ (mOp AS _ _));refine' GB _ ((Qg).or (M7 _)) (E4 QQ Nc) _ _)|((with_reducible show QE _ _ _ _ (mOp B5 _ _));refine' GB _ ZB Y5 _ _)|((with_reducible show QE _ _ _ _ (mOp GJ _ _));refine' GB _ ZG Y7 _ _)|((with_reducible show QE _ _ _ _ (mOp FF _ _));refine' GB _ ZH Y8 _ _)|((with_reducible show QE _ _ _ _ (mOp GK _ _));refine' GB _ WU VN _ _)|((with_reducible show QE _ _ _ _ (mOp Th _ _));refine' GB _ ZD Y6 _ _)|((with_reducible show QE _ _ _ _ (mOp Ep _ _));refine' GB _ (((Qg).or (M7 _)).or (WW _)) (E4 (E4 QQ Nc) VO) _ _)|((with_reducible show QE _ _ _ _ (mOp gLe _ _));refine' M2 _ UQ UG _ _)|((with_reducible show QE _ _ _ _ (mOp gEq _ _));refine' M2 _ ((UR).or (Nl _ hr.units)) (E4 QM QP) _ _)|((with_reducible show QE _ _ _ _ (mOp gNe _ _));refine' M2 _ ((UP).or (Ju _ hr.units)) (E4 QK QL) _ _))|refine' Yb _ _|((with_reducible show QE _ _ _ _ (BH _));refine' Yi _ _)|refine' Yj _ _|((with_reducible show QE _ _ _ _ (A8 _ _ _));first|refine' qcW _ (by assumption) hr _|refine' qcW _ (by assumption) (hr.in1.deeper _) _)|((with_reducible show QE _ _ _ _ (Do _ _));refine' qcG (by assumption) hr _)|((with_reducible show QE _ _ _ _ (C8 _ _));first|((with_reducible show QE _ _ _ _ (C8 K2 _));refine' LD _ (Kd _ rfl) QB B.all L2.bt_all _)|((with_reducible show QE _ _ _ _ (C8 MW _));refine' LD _ (Kc _ rfl) Q9 B.any L2.bt_any _)|((with_reducible show QE _ _ _ _ (C8 FC _));refine' LD _ ((Ka _ rfl).or (JT _ rfl)) Q7 B.sum L2.bt_sum _)|((with_reducible show QE _ _ _ _ (C8 K1 _));refine' LD _ ((Kb _ rfl).or (JU _ rfl)) Q8 B.max L2.bt_max _)|((with_reducible show QE _ _ _ _ (C8 D3 _));refine' aT _ (IK _) Lr B.tuple L2.bt_tuple _))|((with_reducible show QE _ _ _ _ (mCB _ _));first|((with_reducible show QE _ _ _ _ (mCB (f1 _ K2) _));refine' GC _ (Kd _ rfl) (Jr QB) B.all L2.bt_all _)|((with_reducible show QE _ _ _ _ (mCB (f1 _ MW) _));refine' GC _ (Kc _ rfl) (Jr Q9) B.any L2.bt_any _)|((with_reducible show QE _ _ _ _ (mCB (f1 _ FC) _));refine' GC _ ((Ka _ rfl).or (JT _ rfl)) (Jr Q7) B.sum L2.bt_sum _)|((with_reducible show QE _ _ _ _ (mCB (f1 _ BZ) _));refine' GC _ (Rg _) (Jr Xv) B.len L2.bt_len _)|((with_reducible show QE _ _ _ _ (mCB (f1 _ K1) _));refine' GC _ ((Kb _ rfl).or (JU _ rfl)) (Jr Q8) B.max L2.bt_max _)|((with_reducible show QE _ _ _ _ (mCB GP _));refine' GC _ (Rf rfl) VD B.max L2.bt_max _)|((with_reducible show QE _ _ _ _ (mCB GO _));refine' GC _ (Re rfl) VC B.min L2.bt_min _)|((with_reducible show QE _ _ _ _ (mCB (f1 _ D3) _));refine' aU _ (IK _) (Jr Lr) B.tuple L2.bt_tuple _))|((with_reducible show QE _ _ _ _ (FX _ _));refine' Yk _ _ _)|((with_reducible show QE _ _ _ _ (E6 _ _ _));refine' Yd _ _ _ _)|((with_reducible show QE _ _ _ _ (Ho _ _));refine' Vr _ _ _)|refine' Sv _ _ _ _|((with_reducible show QE _ _ _ _ (mMt _ _ _));first|((with_reducible show QE _ _ _ _ (mMt BK _ _));refine' aR _ PySem.F.slot_list_append PySem.F.type_list_append KP Q6 _ _))|refine' Vt _ _|((with_reducible show QE _ _ _ _ (C7 _ _));first|((with_reducible show QE _ _ _ _ (C7 .int _));refine' JE _ .int B.isinstance B.int _)|((with_reducible show QE _ _ _ _ (C7 .bool _));refine' JE _ .bool B.isinstance B.bool _)|((with_reducible show QE _ _ _ _ (C7 .str _));refine' JE _ .str B.isinstance B.str _)|((with_reducible show QE _ _ _ _ (C7 .tuple _));refine' JE _ .tuple B.isinstance B.tuple _))|((with_reducible show QE _ _ _ _ (BI _ _));first|refine' Yl _ _|refine' Vs _ _)|((with_reducible show QE _ _ _ _ (DD _ _));refine' Yn _ _ _)|((with_reducible show QE _ _ _ _ (Ib _ _));refine' aQ _ _ _)|((with_reducible show QE _ _ _ _ (FO _));refine' Yg _ _)|refine' Ye _ _)
  |refine' Vv _ _ _|exact Yo _
  |((with_reducible show QT _ _ _ _ _);first|((with_reducible show QT _ _ _ _ (AM (mOp _ _ _)));first|((with_reducible show QT _ _ _ _ (AM (mOp gLt _ _)));refine' Fm _ af aK _ _)|((with_reducible show QT _ _ _ _ (AM (mOp gLe _ _)));refine' Fm _ UQ UG _ _)|((with_reducible show QT _ _ _ _ (AM (mOp gGt _ _)));refine' Fm _ ag aM _ _)|((with_reducible show QT _ _ _ _ (AM (mOp gGe _ _)));refine' Fm _ ah aN _ _)|((with_reducible show QT _ _ _ _ (AM (mOp gEq _ _)));refine' Fm _ ((UR).or (Nl _ hr.units)) (E4 QM QP) _ _)|((with_reducible show QT _ _ _ _ (AM (mOp gNe _ _)));refine' Fm _ ((UP).or (Ju _ hr.units)) (E4 QK QL) _ _))|refine' YG _ _|((with_reducible show QT _ _ _ _ (BU _));refine' Sj _ _)|((with_reducible show QT _ _ _ _ (Cz _ _));refine' QW.toT _)|((with_reducible show QT _ _ _ _ (mOr _ _));refine' QW.toT _)|((with_reducible show QT _ _ _ _ (AM (BI _ _)));first|refine' YH _ _|refine' VS _ _)|((with_reducible show QT _ _ _ _ (AM (FP _ _ _)));refine' VT _ (ZE _ hr.units) _ _))
  |refine' VR _ _|refine' YE _ _|refine' YF _ _ _|refine' aO _ _ _
  |((with_reducible show QN _ _ _ _ _);first|((with_reducible show QN _ _ _ _ (EN _ _ _));refine' YI LC hcd hr B.sorted _ (λ_ _ _ _=>_))|refine' YR _ _|((with_reducible show QN _ _ _ _ (Aw _ _ _ _ _ _));refine' qnA _ (λ_ _ _=>_) (λ_ _ _=>_) (λ_ _ _=>_))|((with_reducible show QN _ _ _ _ (Jy _ _));refine' YQ _ _ _)|((with_reducible show QN _ _ _ _ (HF _ _));refine' YS _ _ _)|((with_reducible show QN _ _ _ _ (MN _ _ _));refine' YO _ _ _ _)|((with_reducible show QN _ _ _ _ (DW _));refine' Oj _ B.sorted _)|((with_reducible show QN _ _ _ _ (HE _));refine' Sq _ B.list _)|((with_reducible show QN _ _ _ _ (Hq _));refine' Vj _ B.list _))
  |((with_reducible show QI _ _ _ _ _ _);first|((with_reducible show QI _ _ _ _ _ (EZ _));refine' Vm _ B.range _)|((with_reducible show QI _ _ _ _ _ (Hr _));refine' Vl _ B.range _)|((with_reducible show QI _ _ _ _ _ (BB _));refine' YU _ _)|((with_reducible show QI _ _ _ _ _ (CW _));refine' Vn _ _)|((with_reducible show QI _ _ _ _ _ (Eb _));refine' YV _ _)|((with_reducible show QI _ _ _ _ _ (Bg _));first|refine' Sr _ B.enumerate (QX _ _)|refine' Vo _ B.enumerate _)|((with_reducible show QI _ _ _ _ _ (FA _));refine' Ss _ B.enumerate _)|((with_reducible show QI _ _ _ _ _ (HD _ _));refine' YT _ B.zip _ _))
  |refine' Sl _ B.range _
  |((with_reducible show QR _ _ _ _ _ _);first|((with_reducible show QR _ _ _ _ _ (Eb _));refine' YN _ _)|((with_reducible show QR _ _ _ _ _ (CW _));refine' Vf _ _)|((with_reducible show QR _ _ _ _ _ (BB _));refine' QX _ _))
  |exact qgA
  |refine' YW _ rfl _
  |exact Vp _|refine' Su _ _ _
  |exact YZ _|refine' YY _ _
  |exact Vi _|refine' Vh _ _
  |exact Vg _|refine' Sn _ _ _ _
  |((with_reducible show QSs _ _ _ _ _);first|((with_reducible show QSs _ _ _ _ (AE _ _));refine' Sk _ _ _)|(first|exact VW _|refine' VU _ _))
  |((with_reducible show QS _ _ _ _ _);first|((with_reducible show QS _ _ _ _ (AT _ (BH (Aw _ _ _ _ _ _))));first|refine' bZ _ (λ_ _ _=>_) (λ_ _ _=>_) (λ_ _ _=>_)|refine' qsA _)|((with_reducible show QS _ _ _ _ (AT _ _));refine' qsA _)|refine' aP _ _ _ _|refine' YK _ _|refine' YL _ rfl _ _ _|refine' Vd _ _|((with_reducible show QS _ _ _ _ (FQ _ _ _));refine' Ve _ (US hr) _ _ _)|((with_reducible show QS _ _ _ _ (GF _ _ _));refine' Vb _ _ _ _)|refine' YM _ _ _|exact Va _|((with_reducible show QS _ _ _ _ Bq);exact Sm _)|((with_reducible show QS _ _ _ _ (Dm _ (some _) _ _ _));refine' VY (by assumption) _ _ (λ_=>_) (Fq (by kernel_rfl)) rfl)|((with_reducible show QS _ _ _ _ (Dm _ none _ _ _));refine' VX (by assumption) _ _ (λ_=>_)))
  |((with_reducible show YXs _ _ _ _ _);first|((with_reducible show YXs _ _ _ _ (AE _ Bq));refine' LM _ KD)|((with_reducible show YXs _ _ _ _ (AE _ _));refine' LM _ _)|(first|exact Ua|refine' UZ _|exact KD))
  |((with_reducible show YX _ _ _ _ _);first|((with_reducible show YX _ _ _ _ (Cy _));refine' Ud _)|refine' a9 _ _ _|((with_reducible show YX _ _ _ _ (Cm _ _ _));refine' Ru (by assumption) hr _)|((with_reducible show YX _ _ _ _ (Dp _ _));first|refine' Pc _ (Ue _)|refine' Pc _ (XB _))|refine' XD _|refine' XF _ _ _)
  |((with_reducible show YXE _ _ _ _ _);first|refine' Ub _|refine' Rs _ (by assumption) hr _|refine' Uc _ _ _)
  | ((with_reducible show YXA _ _ _ _ _);first|((with_reducible show YXA _ _ _ _ (Hn _ _));refine' Pb _ _)|refine' Rt _)))
open Bd
structure Sp where
 cells:List Int
 a:Int
 rs:Int
 cn:Int
def Bv(t:Sp):List (Key×D):=[(.inr "cells",.mu 0),(.inr "at",.im (.int t.a)),(.inr "rest",.im (.int t.rs)),(.inr "count",.im (.int t.cn))]
def sp(t:Sp):Hd:=[.lst (t.cells.map λi=>.im (.int i)),.dic (Bv t)]
@[simp] theorem sp0(t:Sp):(sp t)[0]?=some (.lst (t.cells.map λi=>.im (.int i))):=rfl
@[simp] theorem sp1(t:Sp):(sp t)[1]?=some (.dic (Bv t)):=rfl
@[simp] theorem dZ(t t':Sp)(h:t'.cells=t.cells):(sp t).set 1 (.dic (Bv t'))=sp t':=by unfold sp;rw[h];rfl
def CZ:(("cells":Str)="at")=False:=by simp[eq_iff_iff];decide
def C0:(("cells":Str)="rest")=False:=by simp[eq_iff_iff];decide
def Bk:(("cells":Str)="count")=False:=by simp[eq_iff_iff];decide
def Cb:(("at":Str)="cells")=False:=by simp[eq_iff_iff];decide
def D2:(("at":Str)="rest")=False:=by simp[eq_iff_iff];decide
def Ca:(("at":Str)="count")=False:=by simp[eq_iff_iff];decide
def By:(("rest":Str)="cells")=False:=by simp[eq_iff_iff];decide
def D1:(("rest":Str)="at")=False:=by simp[eq_iff_iff];decide
def Bx:(("rest":Str)="count")=False:=by simp[eq_iff_iff];decide
def Bj:(("count":Str)="cells")=False:=by simp[eq_iff_iff];decide
def CY:(("count":Str)="at")=False:=by simp[eq_iff_iff];decide
def Bz:(("count":Str)="rest")=False:=by simp[eq_iff_iff];decide
section
variable(t:Sp)(v:Int)
@[simp] theorem bS:Ct (Bv t) (.inr "cells")=some (.mu 0):=by simp[Ct,Bv]
@[simp] theorem da:Ct (Bv t) (.inr "at")=some (.im (.int t.a)):=by simp[Ct,Bv,CZ,C0,Bk,Cb,D2,Ca,By,D1,Bx,Bj,CY,Bz]
@[simp] theorem cC:Ct (Bv t) (.inr "rest")=some (.im (.int t.rs)):=by simp[Ct,Bv,CZ,C0,Bk,Cb,D2,Ca,By,D1,Bx,Bj,CY,Bz]
@[simp] theorem bR:Ct (Bv t) (.inr "count")=some (.im (.int t.cn)):=by simp[Ct,Bv,CZ,C0,Bk,Cb,D2,Ca,By,D1,Bx,Bj,CY,Bz]
@[simp] theorem ck:Dk (Bv t) (.inr "at") (.im (.int v))=Bv { t with a:=v }:=by simp[Dk,Bv,CZ,C0,Bk,Cb,D2,Ca,By,D1,Bx,Bj,CY,Bz]
@[simp] theorem bQ:Dk (Bv t) (.inr "rest") (.im (.int v))=Bv { t with rs:=v }:=by simp[Dk,Bv,CZ,C0,Bk,Cb,D2,Ca,By,D1,Bx,Bj,CY,Bz]
@[simp] theorem bI:Dk (Bv t) (.inr "count") (.im (.int v))=Bv { t with cn:=v }:=by simp[Dk,Bv,CZ,C0,Bk,Cb,D2,Ca,By,D1,Bx,Bj,CY,Bz]
@[simp] theorem cm:(Bv t).length=4:=rfl
end
def o1:CV 1073741827:=by unfold CV;decide
def o2:CV 2147483543:=by unfold CV;decide
def o3:CV 2147483497:=by unfold CV;decide
def o4:JR 256:=by unfold JR;decide
def o5(j:Int):FM 611953 j:=Ew (by decide) (by decide)
def o6(j:Int):FM 3 j:=Ew (by decide) (by decide)
def o7(j:Int):FM 69069 j:=Ew (by decide) (by decide)
def mx1(c n:Int):Int:=c%1073741827+611953*n
def mx2(x n:Int):Int:=(x*x+3*n+7)%2147483543
def mx3(x n:Int):Int:=(x*x+69069*n+1)%2147483497
def W7(τ:Sp)(many:Int)(h0:0<many)(h1:many<1073741824)(n0:0<=τ.cn)(n1:τ.cn<=100000):∃r τ',Ah [.mu 1,.im (.int many)] (sp τ)=some (.im (.int r),sp τ')/\0<=r/\r<many/\τ'.cn=τ.cn+1:=by
 have hm:CV many:=h0;have hv:JR many:=⟨h0,h1⟩
 by_cases hl:τ.rs>0
 .refine⟨τ.rs%many,{ τ with cn:=τ.cn+1,rs:=τ.rs/many },?_,(Em many h0).1,(Em many h0).2,rfl⟩;simp[Ah,mkF,hl,hm,hv]
 .have key:∀cell:Int,(if τ.cells=[]then cell=11 else atI (τ.cells.map λi=>D.im (.int i)) (τ.a%(τ.cells.length:Int))=some (.im (.int cell))) ->
   ∃r τ',Ah [.mu 1,.im (.int many)] (sp τ)=some (.im (.int r),sp τ')/\0<=r/\r<many/\τ'.cn=τ.cn+1:=by
   intro cell hcell;have b1:=Em (x:=cell) 1073741827 (by decide);have b2:=Em (x:=mx1 cell (τ.cn+1)*mx1 cell (τ.cn+1)+3*(τ.cn+1)+7) 2147483543 (by decide);have c1:∀j,FM (mx1 cell (τ.cn+1)) j:=λj=>Ew (by unfold mx1;omega) (by unfold mx1;omega);have c2:∀j,FM (mx2 (mx1 cell (τ.cn+1)) (τ.cn+1)) j:=λj=>Ew (by unfold mx2;omega) (by unfold mx2;omega);by_cases hb:cell>=1000000000000000000/\τ.a+1<=(τ.cells.length:Int)
   .refine⟨cell%many,{ τ with cn:=τ.cn+1,a:=τ.a+1,rs:=cell/many },?_,(Em many h0).1,(Em many h0).2,rfl⟩;by_cases hc:τ.cells=[]
    .rw[if_pos hc]at hcell;subst hcell;omega
    .rw[if_neg hc]at hcell;have hl0:0<τ.cells.length:=E7 hc;have hl0':CV (τ.cells.length:Int):=by unfold CV;omega
     simp[Ah,mkF,hl,hm,hv,o1,o2,o3,o4,o5,o6,o7,po1,FP,pyD,Es,F8,I.pys,Fy,hc,hcell,hl0',hb.1,hb.2,BZ]
   .refine⟨mx3 (mx2 (mx1 cell (τ.cn+1)) (τ.cn+1)) (τ.cn+1)/256%many,{ τ with cn:=τ.cn+1,a:=τ.a+1 },?_,(Em many h0).1,(Em many h0).2,rfl⟩;have hb':1000000000000000000<=cell->¬ τ.a+1<=(τ.cells.length:Int):=λa b=>hb ⟨a,b⟩;unfold mx1 at c1 c2;unfold mx2 at c2;unfold mx3 mx2 mx1;by_cases hc:τ.cells=[]
    .rw[if_pos hc]at hcell;subst hcell;simp only[Int.reduceMod]at c1 c2;simp[Ah,mkF,hl,hm,hv,o1,o2,o3,o4,o5,o6,o7,po1,FP,pyD,Es,F8,I.pys,Fy,Zv,hc,BZ,c1,c2]
    .rw[if_neg hc]at hcell;have hl0:0<τ.cells.length:=E7 hc;have hl0':CV (τ.cells.length:Int):=by unfold CV;omega
     by_cases hd:1000000000000000000<=cell
     .simp[Ah,mkF,hl,hm,hv,o1,o2,o3,o4,o5,o6,o7,po1,FP,pyD,Es,F8,I.pys,Fy,hc,hcell,hl0',BZ,c1,c2,hd,hb' hd]
     .simp[Ah,mkF,hl,hm,hv,o1,o2,o3,o4,o5,o6,o7,po1,FP,pyD,Es,F8,I.pys,Fy,hc,hcell,hl0',BZ,c1,c2,hd]
  by_cases hc:τ.cells=[]
  .exact key 11 (by rw[if_pos hc])
  .obtain⟨c,e⟩:=bE hc τ.a;exact key c (by rw[if_neg hc];exact e)
def T(k:Nat)(a b:MO):Prop:=∃τ:Sp,0<=τ.cn/\τ.cn+k<=100000/\sp τ=[a,b]
def tap:Tap T Ah where
 cl:=by
  rintro k a b ⟨τ,_,_,e⟩;cases e;simp[clO,Dd,Bv,Fd,clD]
 le:=by
  rintro j k a b ⟨τ,h1,h2,e⟩ h;exact⟨τ,h1,by omega,e⟩
 pick:=by
  rintro k a b many ⟨τ,n0,n1,e⟩ h0 h1;obtain⟨r,τ',eq,p1,p2,c⟩:=W7 τ many h0 h1 n0 (by push_cast at n1;omega);refine⟨r,.lst (τ'.cells.map λi=>.im (.int i)),.dic (Bv τ'),p1,p2,?_,τ',by omega,by push_cast at n1;omega,rfl⟩;rw[<- e];exact eq
def SJ(ns:List Int):WF GW [.ro ns] [] λd x=>d=.mu 1/\∃a b,T 90000 a b/\x=[a,b]:=by
 obtain⟨cs,e⟩:=Tn ns none (some 63);exact⟨.mu 1,_,by simp[GW,mkF,e,Fs,Dk,CZ,C0,Bk,Cb,D2,Ca,By,D1,Bx,Bj,CY,Bz];rfl,rfl,_,_,⟨⟨cs,0,0,0⟩,(show(0:Int)<=0 by decide),(show(0:Int)+(90000:Nat)<=100000 by decide),rfl⟩,rfl⟩
structure Wm where
 len:Int
 com:Int
 due:Int
 wt:Int
def wmI(w:Wm):I:=.tup [.int w.len,.int w.com,.tup [.str "miss",.int w.due,.int w.wt]]
abbrev wmD(w:Wm):D:=.im (wmI w)
abbrev AQ(ws:List Wm):I:=.tup (ws.map wmI)
def BO(ws:List Wm):(ws.map wmI).map D.im=ws.map wmD:=by rw[map_map];rfl
def okM(B c:Int)(w:Wm):Prop:=(1<=w.len/\w.len<=20)/\w.com=c/\(-B<=w.due/\w.due<=B)/\0<=w.wt/\w.wt<=9
def BS(B c:Int)(ws:List Wm):Prop:=ws≠[]/\ws.length<=8/\(0<=c/\c<=60)/\∀w∈ws,okM B c w
def at3{r:Int}(h0:0<=r)(h1:r<3)(x y z:D):∃d,(d=x∨d=y∨d=z)/\atI [x,y,z] r=some d:=by
 have:r=0∨r=1∨r=2:=by omega
 rcases this with rfl|rfl|rfl
 .exact⟨x,.inl rfl,EB (j:=0) rfl⟩
 .exact⟨y,.inr (.inl rfl),EB (j:=1) rfl⟩
 .exact⟨z,.inr (.inr rfl),EB (j:=2) rfl⟩
abbrev Lw(mo c lo hv sp:Int)(m:Int)(z8 z9 z10 z11 z12 z13:Option D):Ls:=[some (.mu 1),some (.im (.int mo)),some (.im (.int m)),some (.im (.int c)),some (.im (.int lo)),some (.im (.int hv)),some (.im (.int sp)),some (.mu 2),z8,z9,z10,z11,z12,z13]
inductive I_late_works_w(n k:Nat)(mo c lo hv sn:Int)(r:List D)(ls:Ls)(hd:Hd):Prop
 |mk (j:Nat) (ws:List Wm) (a b:MO) (z8 z9 z10 z11 z12 z13:Option D) (h0:r=Au (j:Int) (k-j)) (h1:j<=k) (h2:ws.length=j) (h3:(∀w∈ws,okM 500 c w)) (h4:ls=Lw mo c lo hv sn (k:Int) z8 z9 z10 z11 z12 z13) (h5:hd=[a,b,.lst (ws.map wmD)]) (h6:T (n+10*(k-j)) a b):I_late_works_w n k mo c lo hv sn r ls hd
inductive J_d1(mo c lo hv sn:Int)(k j n:Nat)(way ln wt:Int)(z13:Option D)(ws:List Wm)(f:Fl)(x:Hd):Prop
 |mk (due:Int) (a b:MO) (h0:f=Fl.nx (Lw mo c lo hv sn (k:Int) (some (.im (.int (j:Int)))) (some (.im (.int way))) (some (.im (.int (1+ln)))) (some (.im (.int due))) (some (.im (.int wt))) z13)) (h1:x=[a,b,.lst (ws.map wmD)]) (h2:(-500<=due/\due<=500)) (h3:T (n+10*(k-(j+1))+5) a b):J_d1 mo c lo hv sn k j n way ln wt z13 ws f x
inductive J_d2(mo c lo hv sn:Int)(k j n:Nat)(way ln wt:Int)(z13:Option D)(ws:List Wm)(f:Fl)(x:Hd):Prop
 |mk (due:Int) (a b:MO) (h0:f=Fl.nx (Lw mo c lo hv sn (k:Int) (some (.im (.int (j:Int)))) (some (.im (.int way))) (some (.im (.int (1+ln)))) (some (.im (.int due))) (some (.im (.int wt))) z13)) (h1:x=[a,b,.lst (ws.map wmD)]) (h2:(-500<=due/\due<=500)) (h3:T (n+10*(k-(j+1))+4) a b):J_d2 mo c lo hv sn k j n way ln wt z13 ws f x
inductive J_d3(mo c lo hv sn:Int)(k j n:Nat)(way ln due wt:Int)(ws:List Wm)(f:Fl)(x:Hd):Prop
 |mk (w:Wm) (a b:MO) (h0:f=Fl.nx (Lw mo c lo hv sn (k:Int) (some (.im (.int (j:Int)))) (some (.im (.int way))) (some (.im (.int (1+ln)))) (some (.im (.int due))) (some (.im (.int wt))) (some (wmD w)))) (h1:x=[a,b,.lst (ws.map wmD)]) (h2:okM 500 c w) (h3:T (n+10*(k-(j+1))+3) a b):J_d3 mo c lo hv sn k j n way ln due wt ws f x
def MR(n:Nat){mo:Int}(m1:1<=mo)(m2:mo<=8):∀a b,T (n+100) a b->WF Dz [.mu 1,.im (.int mo)] [a,b] λd x=>∃i a' b' g,d=.im i/\(∃ws c,i=AQ ws/\BS 500 c ws/\(ws.length:Int)<=mo)/\T n a' b'/\x=a'::b'::g:=by
 intro a b hT;unfold Dz;refine As rfl ?_;refine AA (AN (A4 (A9 ?_)));refine tap.draw hT rfl (by first|decide|omega) (by first|decide|omega) λm a b hT pm qm=>?_;refine Ar (A7 (AA (AN ?_)));refine tap.draw hT rfl (by first|decide|omega) (by first|decide|omega) λc a b hT pc qc=>?_;refine A7 (AA (AN (Ff (Bc (A2 (A9 (A2 (A9 (A2 (A9 (A5 ⟨Dq,?_⟩)))))))))));refine tap.draw hT rfl (by first|decide|omega) (by first|decide|omega) λr2 a b hT pr2 qr2=>?_;obtain⟨d2,hd2,ed2⟩:=at3 pr2 qr2 (.im (.int 20)) (.im (.int 5)) (.im (.int 2));refine⟨_,_,rfl,ed2,?_⟩;obtain⟨lo,rfl,hlo⟩:∃t,d2=.im (.int t)/\(2<=t/\t<=20):=by
  rcases hd2 with rfl|rfl|rfl<;>exact⟨_,rfl,by omega,by omega⟩
 refine A7 (AA (AN (Ff (Bc (A2 (A9 (A2 (A9 (A2 (A9 (A5 ⟨Dq,?_⟩)))))))))));refine tap.draw hT rfl (by first|decide|omega) (by first|decide|omega) λr3 a b hT pr3 qr3=>?_;obtain⟨d3,hd3,ed3⟩:=at3 pr3 qr3 (.im (.int 9)) (.im (.int 3)) (.im (.int 1));refine⟨_,_,rfl,ed3,?_⟩;obtain⟨hv,rfl,hhv⟩:∃t,d3=.im (.int t)/\(1<=t/\t<=9):=by
  rcases hd3 with rfl|rfl|rfl<;>exact⟨_,rfl,by omega,by omega⟩
 refine A7 (AA (AN (A4 (A9 (A4 (A4 (A0 rfl (A0 rfl ?_))))))));refine XH (Ew (by omega) (by omega)) ?_;refine A4 (A9 ?_);refine tap.draw hT rfl (by first|decide|omega) (by first|decide|omega) λr4 a b hT pr4 qr4=>?_;refine Ar ?_;refine Uf ⟨by omega,by omega⟩ ?_;refine Ar (A7 (AA (AN (Ay (Bc (A5 ⟨Dr,A7 (AA (BL (Je (A2 (A0 rfl (A5 ⟨_,rfl,?_⟩))))))⟩))))));have hsp:0<=(1+m)*lo/(1+r4)/\(1+m)*lo/(1+r4)<=160:=by
  have h1:0<=(1+m)*lo:=Int.mul_nonneg (by omega) (by omega);have h2:(1+m)*lo<=8*lo:=Int.mul_le_mul_of_nonneg_right (by omega) (by omega);refine⟨Int.ediv_nonneg h1 (by omega),?_⟩;have:(1+m)*lo/(1+r4)<=(1+m)*lo:=Int.ediv_le_self _ h1;omega
 generalize hS:2+(1+m)*lo/(1+r4)=sn at *;refine⟨Fi (by omega) (by omega),?_⟩;obtain⟨k,hk⟩:=Int.eq_ofNat_of_zero_le (show 0<=1+m by omega);rw[hk,toNat_natCast];change WP (Az _ _ _ _ (Lw mo c lo hv sn (k:Int) none none none none none none) [a,b,.lst []]) _;have hT:T (n+10*(k-0)) a b:=tap.le hT (by omega);refine BJ (I_late_works_w n k mo c lo hv sn) ⟨0,[],a,b,none,none,none,none,none,none,rfl,by omega,rfl,by simp,rfl,rfl,hT⟩ ?_ ?_
 .rintro d r ls hd ⟨j,ws,a,b,z8,z9,z10,z11,z12,z13,er,hj,hl,hws,rfl,rfl,hT⟩;obtain⟨m',hm⟩:∃m,k-j=m+1:=by
   cases q:k-j with
   |zero=>rw[q]at er;cases er
   |succ m=>exact⟨m,rfl⟩
  rw[hm,Au]at er;obtain⟨rfl,rfl⟩:=List.cons.inj er;have hT:T (n+10*(k-(j+1))+10) a b:=tap.le hT (by omega);refine⟨Lw mo c lo hv sn (k:Int) (some (.im (.int (j:Int)))) z9 z10 z11 z12 z13,rfl,?_⟩;have atw:∀r:Int,0<=r->r<j->∃w∈ws,atI (ws.map wmD) r=some (wmD w):=by
   intro r h0 h1;obtain⟨i,hi⟩:=Int.eq_ofNat_of_zero_le h0;have hi':i<ws.length:=by omega
   exact⟨ws[i],List.getElem_mem hi',Cg hi (by simp[hi'])⟩
  refine AA (AN ?_);refine tap.draw hT rfl (by first|decide|omega) (by first|decide|omega) λway a b hT pway qway=>?_;refine A7 (AA (AN (A4 (A9 ?_))));refine tap.draw hT rfl (by first|decide|omega) (by first|decide|omega) λln a b hT pln qln=>?_;refine Ar (A7 (AA (AN (A4 (A4 (A0 rfl (A9 (B6 ?_))))))));refine tap.draw hT rfl (by first|decide|omega) (by first|decide|omega) λdu a b hT pdu qdu=>?_;refine Ar (A7 (AA (AN ?_)));refine tap.draw hT (many:=hv+1) (rest:=[.lst (ws.map wmD)]) (by simp) (by omega) (by omega) λwt a b hT pwt qwt=>A7 ?_;change WS _ (Lw mo c lo hv sn (k:Int) (some (.im (.int (j:Int)))) (some (.im (.int way))) (some (.im (.int (1+ln)))) (some (.im (.int (c-1+du)))) (some (.im (.int wt))) z13) [a,b,.lst (ws.map wmD)] _
  -- the due
  refine AA (WP.mono (Q:=J_d1 mo c lo hv sn k j n way ln wt z13 ws) (Ae (AO (A4 (A0 rfl (A9 (EI ⟨_,rfl,λhc=>?_,λhc=>AV ⟨_,a,b,rfl,rfl,by omega,tap.le hT (by omega)⟩⟩)))))) ?_)
  .refine AN (A4 ?_);refine tap.draw hT rfl (by first|decide|omega) (by first|decide|omega) λr5 a b hT pr5 qr5=>?_;exact A9 (B6 ⟨r5-99,a,b,rfl,rfl,by omega,tap.le hT (by omega)⟩)
  rintro f x ⟨due,a,b,rfl,rfl,hdu,hT⟩;refine A7 ?_;refine AA (WP.mono (Q:=J_d2 mo c lo hv sn k j n way ln wt z13 ws) (Ae (Cr (AO (A4 (A0 rfl (A9 (EI ⟨_,rfl,?_⟩))))))) ?_)
  .by_cases h1:way=1
   .rw[if_pos (by simpa using h1)];refine AO (A4 (A0 rfl (A9 (Im ⟨_,rfl,λhc=>?_,λhc=>AV ⟨due,a,b,rfl,rfl,hdu,tap.le hT (by omega)⟩⟩))));have hc:0<(j:Int):=by simpa using hc
    refine AN (A4 (A4 (A4 (A0 rfl ?_))));refine tap.draw hT (many:=(j:Int)) (rest:=[.lst (ws.map wmD)]) (by simp) (by omega) (by omega) λr a b hT pr qr=>?_;obtain⟨w,hw,ew⟩:=atw r pr qr;have okw:=hws w hw;refine AD rfl ew (A9 (AD (ds:=[.im (.int w.len),.im (.int w.com),.im (.tup [.str "miss",.int w.due,.int w.wt])]) rfl (D6 _ _ _ _) (A9 (AD (ds:=[.im (.str "miss"),.im (.int w.due),.im (.int w.wt)]) rfl (Ef _ _ _) ⟨w.due,a,b,rfl,rfl,okw.2.2.1,hT⟩))))
   .rw[if_neg (by simpa using h1)];exact⟨(λh=>by cases h),λ_=>AV ⟨due,a,b,rfl,rfl,hdu,tap.le hT (by omega)⟩⟩
  rintro f x ⟨due,a,b,rfl,rfl,hdu,hT⟩;refine A7 ?_;refine AA (AN (Am (A2 (A0 rfl (A2 (A0 rfl (A2 (Am (A2 (A9 (A2 (A0 rfl (A2 (A0 rfl (A5 ⟨Dq,A5 ⟨Dq,A7 ?_⟩⟩)))))))))))))));have okn:okM 500 c ⟨1+ln,c,due,wt⟩:=⟨by dsimp only;omega,rfl,hdu,by dsimp only;omega⟩
  have e0:Ag [.im (.int (1+ln)),.im (.int c),Ag [.im (.str "miss"),.im (.int due),.im (.int wt)]]=wmD ⟨1+ln,c,due,wt⟩:=rfl;rw[e0];change WS _ (Lw mo c lo hv sn (k:Int) (some (.im (.int (j:Int)))) (some (.im (.int way))) (some (.im (.int (1+ln)))) (some (.im (.int due))) (some (.im (.int wt))) (some (wmD ⟨1+ln,c,due,wt⟩))) [a,b,.lst (ws.map wmD)] _;refine AA (WP.mono (Q:=J_d3 mo c lo hv sn k j n way ln due wt ws) (Ae (Cr (AO (A4 (A0 rfl (A9 (EI ⟨_,rfl,?_⟩))))))) ?_)
  .by_cases h1:way=2
   .rw[if_pos (by simpa using h1)];refine AO (A4 (A0 rfl (A9 (Im ⟨_,rfl,λhc=>?_,λhc=>AV ⟨_,a,b,rfl,rfl,okn,tap.le hT (by omega)⟩⟩))));have hc:0<(j:Int):=by simpa using hc
    refine AN (A4 (A0 rfl ?_));refine tap.draw hT (many:=(j:Int)) (rest:=[.lst (ws.map wmD)]) (by simp) (by omega) (by omega) λr a b hT pr qr=>?_;obtain⟨w,hw,ew⟩:=atw r pr qr;exact AD rfl ew ⟨w,a,b,rfl,rfl,hws w hw,hT⟩
   .rw[if_neg (by simpa using h1)];exact⟨(λh=>by cases h),λ_=>AV ⟨_,a,b,rfl,rfl,okn,tap.le hT (by omega)⟩⟩
  rintro f x ⟨w,a,b,rfl,rfl,okw,hT⟩;refine A7 (Be (Hi (A0 rfl ⟨⟨_,rfl⟩,A2 (A0 rfl (A5 (Gj rfl (E9 (by simp;omega)) ?_)))⟩)));exact⟨Aa _,j+1,ws++[w],a,b,_,_,_,_,_,_,by rw[show((j:Int)+1)=((j+1:Nat):Int) by omega,show m'=k-(j+1) by omega],by omega,by simp[hl],λz hz=>by rcases mem_append.mp hz with q|q;exact hws z q;rw[mem_singleton]at q;subst q;exact okw,rfl,by simp,tap.le hT (by omega)⟩
 .rintro ls hd ⟨j,ws,a,b,z8,z9,z10,z11,z12,z13,er,hj,hl,hws,rfl,rfl,hT⟩;have:j=k:=by
   cases q:k-j with
   |zero=>omega
   |succ m=>rw[q]at er;cases er
  subst this;refine A7 (AU (BD (A2 (A0 rfl (A5 (Bf rfl rfl ?_))))));rw[<- BO,Bi];exact⟨_,a,b,_,rfl,⟨ws,c,rfl,⟨λz=>by rw[z]at hl;simp at hl;omega,by omega,by omega,hws⟩,by omega⟩,tap.le hT (by omega),rfl⟩
def ER(ns:List Int):BG (Aq ns)=some ns:=by
 induction ns with
 |nil=>rfl
 |cons n r ih=>simp[Aq]at ih ⊢
def DM{ws:List Wm}{k:Nat}(hk:k<ws.length):atI (ws.map wmD) (k:Int)=some (wmD ws[k]):=Cg rfl (by simp[hk])
def Tq{B c:Int}{ws:List Wm}(ok:BS B c ws):WF Dx [.im (AQ ws)] [] λd x=>d=.im (.int c):=by
 obtain⟨hne,hl8,hc,hws⟩:=ok;have hl0:0<ws.length:=E7 hne;unfold Dx;refine As rfl ?_;refine AA (AN (AK (A2 (A0 rfl (A5 ⟨by simp,?_⟩)))));have e0:(ws[0]).com=c:=(hws _ (List.getElem_mem hl0)).2.1;have S:WF DT [.im (AQ ws)] [] λd x=>d=.im (.int c):=by
  unfold DT;refine As rfl ?_;refine AA (AN (A4 (A4 (A0 rfl (A9 (AD (by rw[Cj,BO]) (DM (k:=0) hl0) ?_))))));refine A9 (AD (ds:=[.im (.int (ws[0]).len),.im (.int (ws[0]).com),.im (.tup [.str "miss",.int (ws[0]).due,.int (ws[0]).wt])]) rfl (Ef _ _ _) (A7 ?_));rw[e0];refine AA (Ae (BV (DH (B7 (CM (A0 rfl ⟨_,rfl,?_⟩))))));rw[BO];refine⟨Ab (by simp;omega),?_⟩;refine Ci wmD (λ_=>some (.im (.bl true))) (λ_ ls=>∃x,ls=[some x,some (.im (.int c))]) _ (Aa _) ?_ ?_
  .rintro p hp ls hls;refine⟨[some (wmD p),some (.im (.int c))],by rcases hls with rfl|⟨_,x,rfl⟩<;>rfl,⟨_,rfl⟩,Bu ⟨rfl,?_⟩⟩;rw[if_pos rfl];refine⟨_,rfl,A4 (A4 (A0 rfl (A9 (AD (ds:=[.im (.int p.len),.im (.int p.com),.im (.tup [.str "miss",.int p.due,.int p.wt])]) rfl (Ef _ _ _) (A0 rfl (EI ⟨rfl,?_⟩))))))⟩;simp[(hws p hp).2.1]
  have e:(ws.filterMap λ_=>some (D.im (.bl true)))=blD (ws.map λ_=>true):=by simp[blD]
  rw[e];refine⟨_,by rw[K2,Mu];rfl,_,rfl,?_⟩;refine⟨λ_=>?_,(λh=>by simp at h)⟩;exact AU (A0 rfl rfl)
 refine S.mono ?_;rintro d x rfl;refine⟨_,rfl,A7 ?_⟩;refine AA (Ae (AO ?_));refine WP.eq (z:=.im (.bl false)) (h:=[]) (by simp[BI]) ⟨_,rfl,(λh=>by cases h),λ_=>AV (A7 ?_)⟩;exact AU (A0 rfl rfl)
def Sa{B c:Int}{ws:List Wm}(ok:BS B c ws):WF Br [.im (AQ ws),.im (.str "miss")] [] λd x=>d=.im .non:=by
 have hl8:=ok.2.1;unfold Br;refine As rfl ?_;refine Ae (BV (DH (B7 (CM (A0 rfl ⟨_,rfl,?_⟩)))));rw[BO];refine⟨Ab (by simp;omega),?_⟩;refine Ci wmD (λ_=>some (.im (.bl false))) (λ_ ls=>∃x,ls=[some x,some (.im (.str "miss"))]) _ (Aa _) ?_ ?_
 .rintro p hp ls hls;refine⟨[some (wmD p),some (.im (.str "miss"))],by rcases hls with rfl|⟨_,x,rfl⟩<;>rfl,⟨_,rfl⟩,Bu ⟨rfl,?_⟩⟩;rw[if_pos rfl];refine⟨_,rfl,A4 (A4 (A4 (A0 rfl (A9 (AD (ds:=[.im (.int p.len),.im (.int p.com),.im (.tup [.str "miss",.int p.due,.int p.wt])]) rfl (D6 _ _ _ _) (A9 (AD (ds:=[.im (.str "miss"),.im (.int p.due),.im (.int p.wt)]) rfl (Zy _ _) (A0 rfl (Ik ⟨rfl,?_⟩)))))))))⟩;simp
 have e:(ws.filterMap λ_=>some (D.im (.bl false)))=blD (ws.map λ_=>false):=by simp[blD]
 rw[e];refine⟨_,by rw[MW,Mu];rfl,_,rfl,?_⟩;exact⟨(λh=>by simp at h),λ_=>AV rfl⟩
def HK{B c:Int}{ws:List Wm}(ok:BS B c ws):WF BR [.im (AQ ws)] [] λd x=>d=.im (.int c):=by
 unfold BR;refine As rfl ?_;refine AA (AN (AK (A2 (A0 rfl (A5 ⟨by simp,(Tq ok).mono ?_⟩)))));rintro d x rfl;refine⟨_,rfl,A7 ?_⟩;refine AA (Be (AK (A2 (A0 rfl (A2 (A9 (A5 ⟨by simp,(Sa ok).mono ?_⟩)))))));rintro d x rfl;exact⟨_,rfl,A7 (AU (A0 rfl rfl))⟩
def Rz(p:Wm):WF EH [wmD p] [] λd x=>d=.im (.int p.wt):=by
 unfold EH;refine As rfl ?_;refine AU (A4 (A4 (A0 rfl (A9 (AD (ds:=[.im (.int p.len),.im (.int p.com),.im (.tup [.str "miss",.int p.due,.int p.wt])]) rfl (D6 _ _ _ _) ?_)))));refine Gk (A9 ⟨_,rfl,?_⟩);refine AD (ds:=[.im (.str "miss"),.im (.int p.due),.im (.int p.wt)]) (e:=.im (.int p.wt)) rfl ?_ rfl;rfl
abbrev AH(ws:List Wm):Int:=(ws.map Wm.wt).sum
def Md{B c:Int}{ws:List Wm}(ok:BS B c ws):WF Bo [.im (AQ ws)] [] λd x=>d=.im (.int (AH ws)):=by
 have hl8:=ok.2.1;unfold Bo;refine As rfl ?_;refine AU (DH (B7 (CM (A0 rfl ⟨_,rfl,?_⟩))));rw[BO];refine⟨Ab (by simp;omega),?_⟩;refine Ci wmD (λw=>some (.im (.int w.wt))) (λ_ ls=>∃x,ls=[some x]) _ (Aa _) ?_ ?_
 .rintro p hp ls hls;refine⟨[some (wmD p)],by rcases hls with rfl|⟨_,x,rfl⟩<;>rfl,⟨_,rfl⟩,Bu ⟨rfl,?_⟩⟩;rw[if_pos rfl];refine⟨_,rfl,AK (A2 (A0 rfl (A5 ⟨by simp[wmI],(Rz p).mono ?_⟩)))⟩;rintro d y rfl;exact⟨_,rfl,rfl,rfl⟩
 have e:(ws.filterMap λw=>some (D.im (.int w.wt)))=Aq (ws.map Wm.wt):=by simp[Aq]
 rw[e];exact⟨_,by unfold FC;rw[ER];rfl,rfl⟩
def CK(ws:List Wm)(k:Nat):Int:=(ws[k]?.map Wm.due).getD 0
def C3(ws:List Wm):List (Int×Int):=(List.range ws.length).map λk:Nat=>(CK ws k,(k:Int))
def B0(ws:List Wm):List Int:=(DP (C3 ws)).map (·.2)
def Ml{ws:List Wm}{k:Nat}(hk:k<ws.length):(ws[k]).due=CK ws k:=by simp[CK,hk]
def HW{B c:Int}{ws:List Wm}(ok:BS B c ws)(hB:B<=2000){k:Nat}(hk:k<ws.length):pok (CK ws k,(k:Int)):=by
 have:=(ok.2.2.2 _ (List.getElem_mem hk)).2.2.1;rw[Ml hk]at this;have:=ok.2.1;unfold pok;dsimp only;omega
def Qb{p q:Int×Int}(hp:pok p)(hq:pok q)(h:Aj p=Aj q):p=q:=by
 unfold pok at hp hq;unfold Aj at h;have:p.1=q.1:=by omega
 have:p.2=q.2:=by omega
 exact Prod.ext (by assumption) (by assumption)
def ZA{B c:Int}{ws:List Wm}(ok:BS B c ws)(hB:B<=2000){ms:List Int}(pm:ms.Perm ((List.range ws.length).map λk:Nat=>(k:Int)))(pw:ms.Pairwise λa b=>Aj (CK ws a.toNat,a)<=Aj (CK ws b.toNat,b)):ms=B0 ws:=by
 have p1:(ms.map λn:Int=>(CK ws n.toNat,n)).Perm (C3 ws):=by
  have:=pm.map λn:Int=>(CK ws n.toNat,n)
  rw[map_map]at this;exact this
 have p2:(DP (C3 ws)).Perm (C3 ws):=mergeSort_perm ..;have w2:(DP (C3 ws)).Pairwise λa b=>Aj a<=Aj b:=by
  have:=List.pairwise_mergeSort (le:=λa b:Int×Int=>decide (Aj a<=Aj b)) (by intro a b c h1 h2;simp at *;omega) (by intro a b;simp;omega) (C3 ws);exact this.imp (by simp)
 have w1:(ms.map λn:Int=>(CK ws n.toNat,n)).Pairwise λa b=>Aj a<=Aj b:=pairwise_map.mpr pw;have okd:∀a∈C3 ws,pok a:=λa ha=>by
  obtain⟨k,hk,rfl⟩:=mem_map.mp ha;exact HW ok hB (by simpa using hk)
 have e:(ms.map λn:Int=>(CK ws n.toNat,n))=DP (C3 ws):=(p1.trans p2.symm).eq_of_pairwise (le:=λa b=>Aj a<=Aj b) (λa b ha hb h1 h2=>Qb (okd a (p1.mem_iff.mp ha)) (okd b (p2.mem_iff.mp hb)) (Int.le_antisymm h1 h2)) w1 w2;unfold B0;rw[<- e,map_map];have:((λx:Int×Int=>x.2) ∘ λn:Int=>(CK ws n.toNat,n))=id:=rfl;rw[this,List.map_id]
def Ha{B c:Int}{ws:List Wm}(ok:BS B c ws)(hB:B<=2000):WF De [.im (AQ ws)] [] λd x=>d=.mu 0/\x=[.lst (Aq (B0 ws))]:=by
 have hl8:=ok.2.1;unfold De;refine As rfl ?_;refine AU (Ay (Pl (A2 (BD (A2 (A0 rfl (A5 (Bf rfl rfl (A5 ⟨ws.length,by simp,by omega,λn=>(CK ws n.toNat,n),λk hk=>HW ok hB hk,λa ha b hb e=>?_,λk hk=>?_,λms pm pw=>?_⟩)))))))))
 .have:=Qb (p:=(CK ws ((a:Int)).toNat,(a:Int))) (q:=(CK ws ((b:Int)).toNat,(b:Int))) (HW ok hB ha) (HW ok hB hb) e;have:=congrArg Prod.snd this;dsimp only at this;omega
 .have w:WE (Ap (A3 (mOp gIx (mOp gIx (mOp gIx (A1 1) (A1 0)) (mC (.int 2))) (mC (.int 1))) (A3 (A1 0) A6))) [some (.im (.int (k:Int))),some (.im (AQ ws))] [] λd x=>d=BE (CK ws k,(k:Int))/\x=[]:=by
   refine Am (A2 (A4 (A4 (A4 (A0 rfl (A0 rfl (AD (by rw[Cj,BO]) (DM hk) (A9 (AD (ds:=[.im (.int (ws[k]).len),.im (.int (ws[k]).com),.im (.tup [.str "miss",.int (ws[k]).due,.int (ws[k]).wt])]) rfl (D6 _ _ _ _) (A9 (AD (ds:=[.im (.str "miss"),.im (.int (ws[k]).due),.im (.int (ws[k]).wt)]) rfl (Ef _ _ _) (A2 (A0 rfl (A5 ⟨HP,?_,rfl⟩))))))))))))));rw[Ml hk];rfl
  obtain⟨d,x,e,rfl,rfl⟩:=w;exact e
 .rw[ZA ok hB pm pw];exact⟨rfl,rfl⟩
def JJ{B c:Int}{ws:List Wm}(ok:BS B c ws)(hB:B<=2000):WF Dy [.im (AQ ws)] [] λd x=>d=.mu 0/\x=[.lst (Aq (B0 ws))]:=by
 have hl8:=ok.2.1;unfold Dy;refine As rfl ?_;refine AU (Ay (B7 (XJ ?_)));have hs:WA (DW (Eb (Aw 1 [0] (EZ (A3 (mCB (f1 true BZ) (A3 (A1 0) A6)) A6)) (AG 0) Bw (Ap (A3 (mOp gIx (mOp gIx (mOp gIx (A1 1) (A1 0)) (mC (.int 2))) (mC (.int 1))) (A3 (A1 0) A6)))))) [some (.im (AQ ws))] [] λds x=>ds=(DP (C3 ws)).map BE/\x=[]:=by
  have h0:WA (Aw 1 [0] (EZ (A3 (mCB (f1 true BZ) (A3 (A1 0) A6)) A6)) (AG 0) Bw (Ap (A3 (mOp gIx (mOp gIx (mOp gIx (A1 1) (A1 0)) (mC (.int 2))) (mC (.int 1))) (A3 (A1 0) A6)))) [some (.im (AQ ws))] [] λds x=>ds=(C3 ws).map BE/\x=[]:=by
   refine B7 (Je (A2 (BD (A2 (A0 rfl (A5 (Bf rfl rfl (A5 ⟨(ws.length:Int),by simp,Fi (by omega) (by omega),?_⟩))))))));rw[toNat_natCast,JC];refine⟨Ab (by simp[Ot];omega),?_⟩;refine Ci (λk:Nat=>D.im (.int (k:Int))) (λk=>some (BE (CK ws k,(k:Int)))) (λ_ ls=>∃x,ls=[some x,some (.im (AQ ws))]) _ (Aa _) ?_ ?_
   .rintro k hk ls hls;have hk:k<ws.length:=by simpa using hk
    refine⟨[some (.im (.int (k:Int))),some (.im (AQ ws))],by rcases hls with rfl|⟨_,x,rfl⟩<;>rfl,⟨_,rfl⟩,Bu ⟨rfl,?_⟩⟩;rw[if_pos rfl];refine⟨_,rfl,Am (A2 (A4 (A4 (A4 (A0 rfl (A0 rfl (AD (by rw[Cj,BO]) (DM hk) (A9 (AD (ds:=[.im (.int (ws[k]).len),.im (.int (ws[k]).com),.im (.tup [.str "miss",.int (ws[k]).due,.int (ws[k]).wt])]) rfl (D6 _ _ _ _) (A9 (AD (ds:=[.im (.str "miss"),.im (.int (ws[k]).due),.im (.int (ws[k]).wt)]) rfl (Ef _ _ _) (A2 (A0 rfl (A5 ⟨HP,rfl,?_⟩))))))))))))))⟩;rw[Ml hk];rfl
   .simp[C3]
  obtain⟨ds,x,e,rfl,rfl⟩:=h0;refine⟨_,_,?_,rfl,rfl⟩;have okd:∀a∈C3 ws,pok a:=λa ha=>by
   obtain⟨k,hk,rfl⟩:=mem_map.mp ha;exact HW ok hB (by simpa using hk)
  have hl:(C3 ws).length<64:=by simp[C3];omega
  simp only[DW,Eb,e,bind_some,map_some,JF];rw[if_pos ⟨hl,okd⟩]
 refine WP.mono hs ?_;rintro ds x ⟨rfl,rfl⟩;refine⟨Ab (by simp[DP,List.length_mergeSort,C3];omega),?_⟩;refine Ci BE (λp=>some (.im (.int p.2))) (λ_ ls=>∃x,ls=[some x]) _ (Aa _) ?_ ?_
 .rintro p hp ls hls;refine⟨[some (BE p)],by rcases hls with rfl|⟨_,x,rfl⟩<;>rfl,⟨_,rfl⟩,Bu ⟨rfl,?_⟩⟩;rw[if_pos rfl];exact⟨_,rfl,A4 (A0 rfl (A9 (AD (ds:=[.im (.int p.1),.im (.int p.2)]) rfl (Ef _ _ _) ⟨rfl,rfl⟩)))⟩
 .refine⟨rfl,?_⟩;simp[B0,Aq]
end T43
namespace Lt
def IsMin(E:List Int)(o:Option Int):Prop:=(o=none/\E=[])∨∃m,o=some m/\m∈E/\∀e∈E,m<=e
def IsMin.uniq{E:List Int}{o o':Option Int}(h:IsMin E o)(h':IsMin E o'):o=o':=by
 rcases h with⟨rfl,rfl⟩|⟨m,rfl,hm,hl⟩
 .rcases h' with⟨rfl,_⟩|⟨m,rfl,hm,_⟩
  .rfl
  .cases hm
 .rcases h' with⟨rfl,rfl⟩|⟨m',rfl,hm',hl'⟩
  .cases hm
  .have:=hl m' hm';have:=hl' m hm;have:m=m':=by omega
   rw[this]
def isMin_nil:IsMin [] none:=.inl ⟨rfl,rfl⟩
def EY(o:Option Int)(e:Int):Option Int:=match o with|none=>some e|some x=>if e<x then some e else some x
def IsMin.put{E:List Int}{o:Option Int}(h:IsMin E o)(e:Int):IsMin (E++[e]) (EY o e):=by
 rcases h with⟨rfl,rfl⟩|⟨m,rfl,hm,hl⟩
 .exact .inr ⟨e,rfl,by simp,by simp⟩
 .unfold EY;dsimp only;split
  .exact .inr ⟨e,rfl,by simp,λx hx=>by rcases mem_append.mp hx with q|q;have:=hl x q;omega;simp at q;omega⟩
  .exact .inr ⟨m,rfl,by simp[hm],λx hx=>by rcases mem_append.mp hx with q|q;exact hl x q;simp at q;omega⟩
def comb(kept more:Option Int):Option Int:=match more with|none=>kept|some y=>match kept with|some x=>if x<=y then some x else some y|none=>some y
def IsMin.comb{A B:List Int}{o o':Option Int}(h:IsMin A o)(h':IsMin B o'):IsMin (A++B) (comb o o'):=by
 rcases h' with⟨rfl,rfl⟩|⟨y,rfl,hy,ly⟩
 .rw[append_nil];exact h
 .rcases h with⟨rfl,rfl⟩|⟨x,rfl,hx,lx⟩
  .exact .inr ⟨y,rfl,by simpa using hy,by simpa using ly⟩
  .unfold Lt.comb;dsimp only;split
   .exact .inr ⟨x,rfl,by simp[hx],λe he=>by rcases mem_append.mp he with q|q;exact lx e q;have:=ly e q;omega⟩
   .exact .inr ⟨y,rfl,by simp[hy],λe he=>by rcases mem_append.mp he with q|q;have:=lx e q;omega;exact ly e q⟩
def behind(l d:Int)(o:Option Int):Option Int:=match o with|none=>none|some x=>if x+l<=d then some (x+l)else none
def IsMin.behind{A:List Int}{o:Option Int}(l d:Int)(h:IsMin A o):IsMin ((A.map (·+l)).filter λe=>decide (e<=d)) (behind l d o):=by
 rcases h with⟨rfl,rfl⟩|⟨x,rfl,hx,lx⟩
 .exact isMin_nil
 .unfold Lt.behind;dsimp only;split
  .next q=>
   refine .inr ⟨x+l,rfl,mem_filter.mpr ⟨mem_map.mpr ⟨x,hx,rfl⟩,by simpa using q⟩,λe he=>?_⟩;obtain⟨z,hz,rfl⟩:=mem_map.mp (mem_filter.mp he).1;have:=lx z hz;omega
  .next q=>
   refine .inl ⟨rfl,List.filter_eq_nil_iff.mpr λe he=>?_⟩;obtain⟨z,hz,rfl⟩:=mem_map.mp he;have:=lx z hz;simp;omega
abbrev En:=Nat×Nat×Int
abbrev Wx:=Int×Int×Nat
def more(i:Nat)(w:Wx)(E:List En):List En:=(E.filter λe=>decide (e.2.2+w.1<=w.2.1)).map λe=>(i+1,e.2.1+w.2.2,e.2.2+w.1)
def AF(c:Int):List Wx->Nat->List En
 |_,0=>[(0,0,c)]
 |L,i+1=>AF c L i++(match L[i]? with|some w=>more i w (AF c L i)|none=>[])
def sel(w:Nat)(E:List En):List Int:=(E.filter λe=>decide (e.2.1=w)).map λe=>e.2.2
def sel_app(w:Nat)(E F:List En):sel w (E++F)=sel w E++sel w F:=by simp[sel]
def SN(i:Nat)(x:Wx)(w:Nat)(E:List En):sel w (more i x E)=if w<x.2.2 then []else((sel (w-x.2.2) E).map (·+x.1)).filter λe=>decide (e<=x.2.1):=by
 induction E with
 |nil=>simp[more,sel]
 |cons e r ih=>
  have em:more i x (e::r)=(if e.2.2+x.1<=x.2.1 then [(i+1,e.2.1+x.2.2,e.2.2+x.1)]else [])++more i x r:=by
   unfold more;rw[filter_cons];by_cases q:e.2.2+x.1<=x.2.1<;>simp[q]
  rw[em,sel_app,ih];by_cases hw:w<x.2.2
  .rw[if_pos hw,if_pos hw,append_nil];by_cases q:e.2.2+x.1<=x.2.1
   .have:¬ e.2.1+x.2.2=w:=by omega
    simp[q,sel,this]
   .simp[q,sel]
  .rw[if_neg hw,if_neg hw];have ec:sel (w-x.2.2) (e::r)=(if e.2.1=w-x.2.2 then [e.2.2]else [])++sel (w-x.2.2) r:=by
    unfold sel;rw[filter_cons];by_cases q:e.2.1=w-x.2.2<;>simp[q]
   rw[ec,map_append,List.filter_append]
   congr 1
   by_cases q1:e.2.2+x.1<=x.2.1
   .by_cases q2:e.2.1=w-x.2.2
    .have e3:w-x.2.2+x.2.2=w:=Nat.sub_add_cancel (Nat.le_of_not_lt hw);simp[q1,q2,sel,e3]
    .have:¬ e.2.1+x.2.2=w:=by omega
     simp[q1,q2,sel,this]
   .by_cases q2:e.2.1=w-x.2.2<;>simp[q1,q2,sel]
def Ad(x:Wx)(f:Nat->Option Int)(w:Nat):Option Int:=comb (f w) (if w<x.2.2 then none else behind x.1 x.2.1 (f (w-x.2.2)))
def next_min{c:Int}{L:List Wx}{i:Nat}{x:Wx}(hx:L[i]?=some x){f:Nat->Option Int}{w:Nat}(h:IsMin (sel w (AF c L i)) (f w))(h':¬ w<x.2.2->IsMin (sel (w-x.2.2) (AF c L i)) (f (w-x.2.2))):IsMin (sel w (AF c L (i+1))) (Ad x f w):=by
 have e:AF c L (i+1)=AF c L i++more i x (AF c L i):=by rw[AF,hx]
 rw[e,sel_app,SN];unfold Ad;refine h.comb ?_;by_cases q:w<x.2.2
 .rw[if_pos q,if_pos q];exact isMin_nil
 .rw[if_neg q,if_neg q];exact(h' q).behind _ _
def FS{c:Int}{L:List Wx}:∀{i:Nat} {e:En},e∈AF c L i->e.1<=i
 |0,e,h=>by simp[AF]at h;rw[h];exact le_refl _
 |i+1,e,h=>by
  rw[AF]at h;rcases mem_append.mp h with q|q
  .exact Nat.le_succ_of_le (FS q)
  .split at q
   .obtain⟨z,_,rfl⟩:=mem_map.mp q;exact le_refl _
   .cases q
def HM{c:Int}{L:List Wx}(k:Nat):∀j,((AF c L (k+j)).filter λe=>decide (e.1<=k))=AF c L k
 |0=>List.filter_eq_self.mpr λe he=>by simpa using FS he
 |j+1=>by
  have ih:=HM (c:=c) (L:=L) k j;rw[<- Nat.add_assoc,AF,List.filter_append,ih];have:(match L[k+j]? with|some w=>more (k+j) w (AF c L (k+j))|none=>([]:List En)).filter (λe:En=>decide (e.1<=k))=[]:=by
   refine List.filter_eq_nil_iff.mpr λe he=>?_;split at he
   .obtain⟨z,_,rfl⟩:=mem_map.mp he;simp;omega
   .cases he
  rw[this,append_nil]
end Lt
namespace T43
open PySem L2 Bd
abbrev enD(q:D×Nat):D:=Ag [.im (.int (q.2:Int)),q.1]
open Lt (IsMin comb behind Ad sel AF Wx)
def DB{is js:List I}{hd:Hd}{QE:D->Hd->Prop}(h0:is≠[])(h1:is.length+js.length<=100)(q:QE (.im (.tup (is++js))) hd):WP (AS (.im (.tup is)) (.im (.tup js)) hd) QE:=by
 have cat:UW (is.map D.im) (js.map D.im):=⟨by simpa using h0,Ab (by simp;omega)⟩
 refine WP.eq (z:=.im (.tup (is++js))) (h:=hd) ?_ q;show(match K4 (.im (.tup is)) (.im (.tup js)) hd with|some z=>some z|none=>GL (.im (.tup is)) (.im (.tup js)) hd)=_;rw[show K4 (.im (.tup is)) (.im (.tup js)) hd=none from rfl];unfold GL;rw[show Af (.im (.tup is))=some (is.map D.im)from rfl,show Af (.im (.tup js))=some (js.map D.im)from rfl,bind_some,bind_some,if_pos cat,<- map_append,Bi]
def S0{w:Nat}{F:List D->Hd->Option (D×Hd)}{m:MA}{ls:Ls}{hd pre rest:Hd}{ds:List D}{QE:D->Hd->Prop}(e:m ls hd=some (ds,pre++rest))(hw:pre.length=w)(hc:Av w ds=true)(hp:pre.all (clO w)=true)
 (hF:WF F ds pre λd x=>∃k es pre' g,d=.mu k/\w<=k/\x=pre'++g/\pre'.length=w/\pre'.all (clO w)=true/\x[k]?=some (.lst es)/\Av w es=true/\QE (.mu (w+rest.length)) (pre'++rest++[.lst es])):WE (A8 w F m) ls hd QE:=by
 subst hw;obtain⟨d,x,e2,k,es,pre',g,rfl,hk,rfl,lp,cp,e3,c3,q⟩:=hF;refine⟨_,_,?_,q⟩;have t1:(pre++rest).take pre.length=pre:=by simp
 have t2:(pre'++g).take pre.length=pre':=by rw[<- lp];simp
 have t3:¬ k<pre.length:=by omega
 simp only[A8,e,bind_some,t1,hc,hp,e2,fin,t2,cp,if_neg t3,e3,c3,if_true];simp
def EJ{w:Nat}{F:List D->Hd->Option (D×Hd)}{m:MA}{ls:Ls}{hd:Hd}{QE:D->Hd->Prop}(h:WA m ls hd λds x=>∃pre rest,x=pre++rest/\pre.length=w/\Av w ds=true/\pre.all (clO w)=true/\WF F ds pre λd x=>∃k es pre' g,d=.mu k/\w<=k/\x=pre'++g/\pre'.length=w/\pre'.all (clO w)=true/\x[k]?=some (.lst es)/\Av w es=true/\QE (.mu (w+rest.length)) (pre'++rest++[.lst es])):WE (A8 w F m) ls hd QE:=by
 obtain⟨ds,x,e,pre,rest,rfl,hw,hc,hp,hF⟩:=h;exact S0 e hw hc hp hF
def Ai:Option Int->I|none=>.non|some x=>.int x
abbrev AW(o:Option Int):D:=.im (Ai o)
def Bp{neg:Bool}{ma:ME}{ls:Ls}{hd:Hd}{QE:D->Hd->Prop}(h:WE ma ls hd λd x=>∃o:Option Int,d=AW o/\QE (.im (.bl (if o.isNone then !neg else neg))) x):WE (BI neg ma) ls hd QE:=by
 obtain⟨d,x,e,o,rfl,q⟩:=h;refine⟨_,x,?_,q⟩;simp only[BI,e,bind_some];cases o<;>rfl
def AI(N:Nat)(f:Nat->Option Int):I:=.tup ((List.range N).map λw=>Ai (f w))
def Ck{N:Nat}{f:Nat->Option Int}{w:Nat}(hw:w<N):atI (((List.range N).map λw=>Ai (f w)).map D.im) (w:Int)=some (AW (f w)):=Cg rfl (by simp[hw])
def wx(p:Wm):Wx:=(p.len,p.due,p.wt.toNat)
def Ol{B c:Int}{p:Wm}(ok:okM B c p){N:Nat}(f:Nat->Option Int){w:Nat}(hw:w<N):WF CS [.im (AI N f),wmD p,.im (.int (w:Int))] [] λd x=>d=AW (if w<(wx p).2.2 then none else behind (wx p).1 (wx p).2.1 (f (w-(wx p).2.2))):=by
 have h0:=ok.2.2.2;unfold CS;refine As rfl ?_;refine AA (Ij (A0 rfl ⟨[some (.im (AI N f)),some (wmD p),some (.im (.int (w:Int))),some (.im (.int p.len)),some (.im (.int p.com)),some (.im (.str "miss")),some (.im (.int p.due)),some (.im (.int p.wt)),none],rfl,A7 ?_⟩));refine AA (Ae (FK (AO (A4 (A0 rfl (A0 rfl (Il ⟨_,rfl,?_⟩)))))));by_cases q:w<(wx p).2.2
 .have q':(w:Int)<p.wt:=by unfold wx at q;dsimp only at q;omega
  rw[if_pos (by simpa using q'),if_pos q];exact⟨λ_=>AU (A9 rfl),λh=>by cases h⟩
 .have q':¬ (w:Int)<p.wt:=by unfold wx at q;dsimp only at q;omega
  rw[if_neg (by simpa using q'),if_neg q];have ek:(w:Int)-p.wt=((w-(wx p).2.2:Nat):Int):=by unfold wx at q ⊢;dsimp only at q ⊢;omega
  have hk:w-(wx p).2.2<N:=by omega
  refine AO (Bp (A4 (A0 rfl (A4 (A0 rfl (A0 rfl (B6 ?_)))))));rw[ek];refine AD rfl (Ck hk) ⟨_,rfl,_,rfl,λh=>?_,λh=>AV (A7 ?_)⟩
  .have e:f (w-(wx p).2.2)=none:=by
    cases e:f (w-(wx p).2.2)with
    |none=>rfl
    |some x=>rw[e]at h;simp at h
   refine AU (A9 ?_);rw[e];rfl
  .obtain⟨x,e⟩:∃x,f (w-(wx p).2.2)=some x:=by
    cases e:f (w-(wx p).2.2)with
    |none=>rw[e]at h;simp at h
    |some x=>exact⟨x,rfl⟩
   refine AA (AN (A4 (A4 (A0 rfl (A4 (A0 rfl (A0 rfl (B6 ?_))))))));rw[ek];refine AD rfl (Ck hk) ?_;rw[e];refine A0 rfl (Ar (A7 (AU (Pk (AO (A4 (A0 rfl (A0 rfl (Hh ⟨_,rfl,λh=>?_,λh=>?_⟩)))))))))
   .have h:x+p.len<=p.due:=by simpa using h
    refine A0 rfl ?_;unfold behind wx;dsimp only;rw[if_pos h];rfl
   .have h:¬ x+p.len<=p.due:=by simpa using h
    refine A9 ?_;unfold behind wx;dsimp only;rw[if_neg h];rfl
def nm(one other:Option Int):Bool:=match other with|none=>true|some y=>match one with|some x=>decide (x<=y)|none=>false
def X6(a b:Option Int):comb a b=if nm a b=true then a else b:=by
 cases b with
 |none=>simp[comb,nm]
 |some y=>
  cases a with
  |none=>simp[comb,nm]
  |some x=>simp[comb,nm]
def Cw(a b:Option Int):WF Bs [AW a,AW b] [] λd x=>d=.im (.bl (nm a b)):=by
 unfold Bs;refine As rfl ?_;refine AU (Pj (AO (Bp (A0 rfl ⟨b,rfl,_,rfl,?_⟩))));cases b with
 |none=>rfl
 |some y=>
  rw[if_neg (by simp)];refine E1 (AO (Bp (A0 rfl ⟨a,rfl,_,rfl,?_⟩)));cases a with
  |none=>rfl
  |some x=>
   rw[if_pos (by simp)];exact A4 (A0 rfl (A0 rfl (Hh rfl)))
inductive I_next_row_w(p:Wm)(N:Nat)(f:Nat->Option Int)(r:List D)(ls:Ls)(hd:Hd):Prop
 |mk (j:Nat) (z3 z4 z5:Option D) (h0:j<=N) (h1:r=(((List.range' j (N-j)).map λw=>AW (f w)).zipIdx j).map enD) (h2:ls=[some (.im (AI N f)),some (wmD p),some (.mu 0),z3,z4,z5]) (h3:hd=[.lst ((List.range j).map λw=>AW (Ad (wx p) f w))]):I_next_row_w p N f r ls hd
def Os{B c:Int}{p:Wm}(ok:okM B c p){N:Nat}(hN:N<=100)(f:Nat->Option Int):WF Et [.im (AI N f),wmD p] [] λd x=>d=.im (AI N (Ad (wx p) f)):=by
 unfold Et;refine As rfl ?_;refine AA (AN (Ay (Bc (A5 ⟨Dr,A7 ?_⟩))));refine AA (BL (Co (CM (A0 rfl ⟨((List.range N).map λw=>Ai (f w)).map D.im,rfl,?_⟩))));change WP (Az _ _ _ (((((List.range N).map λw=>Ai (f w)).map D.im).zipIdx 0).map enD) [some (.im (AI N f)),some (wmD p),some (.mu 0),none,none,none] [.lst []]) _;have e0:((List.range N).map λw=>Ai (f w)).map D.im=(List.range' 0 (N-0)).map λw=>AW (f w):=by rw[map_map,List.range_eq_range',sub_zero];rfl
 rw[e0];refine BJ (I_next_row_w p N f) ⟨0,none,none,none,by omega,rfl,rfl,rfl⟩ ?_ ?_
 .rintro d r ls hd ⟨j,z3,z4,z5,hj,er,rfl,rfl⟩;obtain⟨m,hm⟩:∃m,N-j=m+1:=by
   cases q:N-j with
   |zero=>rw[q]at er;cases er
   |succ m=>exact⟨m,rfl⟩
  rw[hm,List.range'_succ,map_cons,zipIdx_cons,map_cons]at er;obtain⟨rfl,rfl⟩:=List.cons.inj er;refine⟨[some (.im (AI N f)),some (wmD p),some (.mu 0),some (.im (.int (j:Int))),some (AW (f j)),z5],rfl,?_⟩;refine AA (AN (AK (A2 (A0 rfl (A2 (A0 rfl (A2 (A0 rfl (A5 ⟨by simp[wmI,AI],(Ol ok f (by omega)).mono ?_⟩)))))))));rintro d x rfl;refine⟨_,rfl,A7 ?_⟩;refine Be (Hi (A0 rfl ⟨⟨_,rfl⟩,A2 (U3 (BV (AK (A2 (A0 rfl (A2 (A0 rfl (A5 ⟨by simp,(Cw _ _).mono ?_⟩))))))))⟩));rintro d x rfl;refine⟨_,rfl,_,rfl,?_⟩;have fin:∀o:Option Int,o=Ad (wx p) f j->WA A6 [some (.im (AI N f)),some (wmD p),some (.mu 0),some (.im (.int (j:Int))),some (AW (f j)),some (AW (if j<(wx p).2.2 then none else behind (wx p).1 (wx p).2.1 (f (j-(wx p).2.2))))] [.lst ((List.range j).map λw=>AW (Ad (wx p) f w))] λds y=>WP (BK (.mu 0) (AW o::ds) y) λ_ x=>GOk x []/\I_next_row_w p N f ((((List.range' (j+1) m).map λw=>AW (f w)).zipIdx (j+1)).map enD) [some (D.im (AI N f)),some (wmD p),some (.mu 0),some (.im (.int (j:Int))),some (AW (f j)),some (AW (if j<(wx p).2.2 then none else behind (wx p).1 (wx p).2.1 (f (j-(wx p).2.2))))] x:=by
   rintro o rfl;refine A5 (Gj rfl (E9 (by simp;omega)) ⟨Aa _,j+1,_,_,_,by omega,by rw[show N-(j+1)=m by omega],rfl,?_⟩);rw[range_succ];simp
  have ec:Ad (wx p) f j=if nm (f j) (if j<(wx p).2.2 then none else behind (wx p).1 (wx p).2.1 (f (j-(wx p).2.2)))=true then f j else(if j<(wx p).2.2 then none else behind (wx p).1 (wx p).2.1 (f (j-(wx p).2.2))):=by
   unfold Ad;rw[X6]
  by_cases q:nm (f j) (if j<(wx p).2.2 then none else behind (wx p).1 (wx p).2.1 (f (j-(wx p).2.2)))=true
  .rw[if_pos q]at ec ⊢;exact A0 rfl (fin _ ec.symm)
  .rw[if_neg q]at ec ⊢;exact A0 rfl (fin _ ec.symm)
 .rintro ls hd ⟨j,z3,z4,z5,hj,er,rfl,rfl⟩;have:j=N:=by
   cases q:N-j with
   |zero=>omega
   |succ m=>rw[q]at er;cases er
  subst this;refine A7 (AU (BD (A2 (A0 rfl (A5 (Bf rfl rfl ?_))))));have e2:((List.range j).map λw=>AW (Ad (wx p) f w))=((List.range j).map λw=>Ai (Ad (wx p) f w)).map D.im:=by rw[map_map];rfl
  rw[e2,Bi];rfl
open Lt (IsMin comb behind Ad sel AF Wx)
def AZ(n N:Nat)(f:Nat->Nat->Option Int):I:=.tup ((List.range (n+1)).map λk=>AI N (f k))
def wxs(ws:List Wm):List Wx:=(B0 ws).map λi=>(ws[i.toNat]?.map wx).getD (0,0,0)
def IW(ws:List Wm):(B0 ws).Perm ((List.range ws.length).map λk:Nat=>(k:Int)):=by
 have p2:(DP (C3 ws)).Perm (C3 ws):=mergeSort_perm ..;have:=p2.map (·.2);unfold B0;refine this.trans ?_;unfold C3;rw[map_map];exact .refl _
def Fp{ws:List Wm}{i:Int}(h:i∈B0 ws):∃k:Nat,k<ws.length/\i=k:=by
 obtain⟨k,hk,rfl⟩:=mem_map.mp ((IW ws).mem_iff.mp h);exact⟨k,by simpa using hk,rfl⟩
def CN(ws:List Wm):(B0 ws).length=ws.length:=by simpa using (IW ws).length_eq
def fT(c:Int)(L:List Wx):Nat->Nat->Option Int
 |0,w=>if w=0 then some c else none
 |k+1,w=>match L[k]? with|some x=>Ad x (fT c L k) w|none=>none
def RJ(c:Int)(L:List Wx):∀k,k<=L.length->∀w,IsMin (sel w (AF c L k)) (fT c L k w)
 |0,_,w=>by
  unfold fT AF sel;by_cases h:w=0
  .subst h;exact .inr ⟨c,by simp,by simp,by simp⟩
  .have:¬ (0=w):=λz=>h z.symm;simp only[if_neg h];exact .inl ⟨rfl,by simp[this]⟩
 |k+1,hk,w=>by
  have hx:L[k]?=some L[k]:=by simp[Nat.lt_of_succ_le hk]
  have ih:=RJ c L k (by omega);have e:fT c L (k+1) w=Ad L[k] (fT c L k) w:=by rw[fT,hx]
  rw[e];exact Lt.next_min hx (ih w) λ_=>ih _
def bU(c:Int)(m:Nat)(L:List Wx):[I.int c]++(List.replicate m [I.non]).flatten=(List.range (m+1)).map λw=>Ai (fT c L 0 w):=by
 have e1:(List.replicate m [I.non]).flatten=List.replicate m I.non:=by
  induction m with
  |zero=>rfl
  |succ m ih=>rw[replicate_succ,flatten_cons,ih,replicate_succ];rfl
 rw[e1];refine ext_getElem (by simp) λi h1 h2=>?_;simp only[List.getElem_map,List.getElem_range];cases i with
 |zero=>rfl
 |succ i=>
  simp[fT,Ai]
def DZ{B c:Int}{ws:List Wm}(ok:BS B c ws):0<=AH ws/\AH ws<=72:=by
 have:∀vs:List Wm,(∀w∈vs,okM B c w)->0<=AH vs/\AH vs<=9*vs.length:=by
  intro vs
  induction vs with
  |nil=>intro _;simp[AH]
  |cons v r ih=>
   intro h;have:=ih λw hw=>h w (by simp[hw]);have:=(h v (by simp)).2.2.2;simp only[AH,map_cons,List.sum_cons,length_cons]at *;omega
 have:=this ws ok.2.2.2;have:=ok.2.1;omega
inductive I_table_of_w(c:Int)(ws:List Wm)(r:List D)(ls:Ls)(hd:Hd):Prop
 |mk (dn rest:List Int) (z3:Option D) (h0:B0 ws=dn++rest) (h1:r=Aq rest) (h2:ls=[some (.im (AQ ws)),some (.im (.int c)),some (.mu 0),z3]) (h3:hd=[.lst ((List.range (dn.length+1)).map λk=>D.im (AI ((AH ws).toNat+1) (fT c (wxs ws) k))),.lst (Aq (B0 ws))]):I_table_of_w c ws r ls hd
def Ip{B c:Int}{ws:List Wm}(ok:BS B c ws)(hB:B<=2000):WF Dw [.im (AQ ws)] [] λd x=>d=.im (AZ ws.length ((AH ws).toNat+1) (fT c (wxs ws))):=by
 have hl8:=ok.2.1;have hf:=DZ ok;unfold Dw;refine As rfl ?_;refine AA (AN (AK (A2 (A0 rfl (A5 ⟨by simp,(HK ok).mono ?_⟩)))));rintro d x rfl;refine⟨_,rfl,A7 ?_⟩;refine AA (AN (Ay (Bc (A2 (A4 (Am (A2 (A0 rfl (A5 ⟨BC,?_⟩)))))))));refine Uh (Am (A2 (A9 (A5 ⟨BC,AK (A2 (A0 rfl (A5 ⟨by simp,(Md ok).mono ?_⟩)))⟩))));rintro d x rfl;refine⟨_,rfl,[.non],AH ws,rfl,rfl,by simp,by omega,by simp;omega,?_⟩;rw[Hm];refine DB (by simp) (by simp;omega) ?_;rw[bU c _ (wxs ws)];refine A5 ⟨BC,A7 ?_⟩;change WS _ [some (.im (AQ ws)),some (.im (.int c)),some (.mu 0),none] [.lst [.im (AI ((AH ws).toNat+1) (fT c (wxs ws) 0))]] _;refine AA (BL (EW (EJ (A2 (A0 rfl (A5 ⟨[],[.lst [.im (AI ((AH ws).toNat+1) (fT c (wxs ws) 0))]],rfl,rfl,by simp,rfl,(Ha ok hB).mono ?_⟩))))));rintro d x ⟨rfl,rfl⟩;refine⟨0,_,[],_,rfl,le_refl _,rfl,rfl,rfl,rfl,Dd _ _,1,Aq (B0 ws),rfl,rfl,?_⟩;refine BJ (I_table_of_w c ws) ⟨[],B0 ws,none,rfl,rfl,rfl,rfl⟩ ?_ ?_
 .rintro d r ls hd ⟨dn,rest,z3,e1,er,rfl,rfl⟩;cases rest with
  |nil=>cases er
  |cons i rest=>
   obtain⟨rfl,rfl⟩:=List.cons.inj er;obtain⟨k,hk,rfl⟩:=Fp (ws:=ws) (i:=i) (by rw[e1];simp);have hle:dn.length<ws.length:=by have:=CN ws;rw[e1]at this;simp at this;omega
   have ex:(wxs ws)[dn.length]?=some (wx ws[k]):=by
    unfold wxs;rw[e1,List.getElem?_map,List.getElem?_append_right (le_refl _)];simp[hk]
   refine⟨[some (.im (AQ ws)),some (.im (.int c)),some (.mu 0),some (.im (.int (k:Int)))],rfl,?_⟩;refine Be (Hi (A0 rfl ⟨⟨_,rfl⟩,A2 (AK (A2 (A4 (A0 rfl (Gk (A9 ⟨_,rfl,AD rfl (e:=.im (AI ((AH ws).toNat+1) (fT c (wxs ws) dn.length))) ?_ (A2 (A4 (A0 rfl (A0 rfl (AD (by rw[Cj,BO]) (DM hk) (A5 ⟨by simp[wmI,AI],(Os (ok.2.2.2 _ (List.getElem_mem hk)) (by omega) _).mono ?_⟩))))))⟩))))))⟩))
   .rw[range_succ,map_append];exact GU _ _
   rintro d x rfl;refine⟨_,rfl,A5 (Gj rfl (E9 (by simp;omega)) ?_)⟩;refine⟨by intro q hq;rw[mem_singleton]at hq;subst hq;rfl,dn++[(k:Int)],rest,_,by rw[e1];simp,rfl,rfl,?_⟩;have e2:Ad (wx ws[k]) (fT c (wxs ws) dn.length)=fT c (wxs ws) (dn.length+1):=by
    funext w
    rw[fT,ex]
   rw[e2];simp only[length_append,length_cons,length_nil,zero_add];rw[range_succ (n:=dn.length+1),map_append];rfl
 .rintro ls hd ⟨dn,rest,z3,e1,er,rfl,rfl⟩;have:rest=[]:=by cases rest with
   |nil=>rfl
   |cons t r=>cases er
  subst this;rw[append_nil]at e1;have hle:dn.length=ws.length:=by rw[<- e1];exact CN ws
  refine A7 (AU (BD (A2 (A0 rfl (A5 (Bf rfl rfl ?_))))));have e2:((List.range (dn.length+1)).map λk=>D.im (AI ((AH ws).toNat+1) (fT c (wxs ws) k)))=((List.range (dn.length+1)).map λk=>AI ((AH ws).toNat+1) (fT c (wxs ws) k)).map D.im:=by rw[map_map];rfl
  rw[e2,Bi,hle];rfl
end T43
namespace Lt
def HL{c:Int}{L:List Wx}:∀i,(AF c L i).length<=2^i
 |0=>by simp[AF]
 |i+1=>by
  have ih:=HL (c:=c) (L:=L) i;rw[Nat.pow_succ];cases hx:L[i]? with
  |none=>
   have e:AF c L (i+1)=AF c L i++[]:=by rw[AF,hx]
   rw[e];simp;omega
  |some w=>
   have e:AF c L (i+1)=AF c L i++more i w (AF c L i):=by rw[AF,hx]
   have:(more i w (AF c L i)).length<=(AF c L i).length:=by unfold more;rw[length_map];exact List.length_filter_le _ _
   rw[e,length_append];omega
def GM{c:Int}{L:List Wx}:∀{i:Nat} {e:Lt.En},e∈AF c L i->e.2.1<=((L.take i).map λx=>x.2.2).sum
 |0,e,h=>by simp[AF]at h;rw[h];simp
 |i+1,e,h=>by
  rw[AF]at h;have mono:((L.take i).map λx=>x.2.2).sum<=((L.take (i+1)).map λx=>x.2.2).sum:=by
   rw[List.take_succ,map_append,List.sum_append];omega
  rcases mem_append.mp h with q|q
  .exact le_trans (GM q) mono
  .split at q
   .next w hw=>
    obtain⟨z,hz,rfl⟩:=mem_map.mp q;have:=GM (mem_filter.mp hz).1;have e:((L[i]?.toList).map λx:Wx=>x.2.2).sum=w.2.2:=by rw[hw];simp
    rw[List.take_succ,map_append,List.sum_append,e];dsimp only;omega
   .cases q
end Lt
namespace T43
open PySem L2 Bd
open Lt (IsMin comb behind Ad sel AF Wx more HL)
def LS{ma mb:ME}{ls:Ls}{hd:Hd}{QA:List D->Hd->Prop}(h:WE ma ls hd λd x=>WE mb ls x λe y=>∃p q as bs,d=.mu p/\e=.mu q/\y[p]?=some (.lst as)/\y[q]?=some (.lst bs)/\C9 (as.length+bs.length)/\QA (as++bs) y):WA (HF ma mb) ls hd QA:=by
 obtain⟨d,x,e1,e,y,e2,p,q,as,bs,rfl,rfl,e3,e4,c,h⟩:=h;refine⟨_,_,?_,h⟩;simp only[HF,e1,bind_some,e2];simp only[e3,e4,c,if_true]
abbrev enT(z:Lt.En×Nat):D:=Ag [.im (.int (z.1.1:Int)),.im (.int (z.1.2.1:Int)),.im (.int z.1.2.2),.mu z.2]
def Refs(x:Hd)(qs:List Nat)(b:Nat):Prop:=∀q∈qs,∃ds,x[q]?=some (.lst ds)/\ds.length<=b
def Hc{x:Hd}{q:Nat}{o:MO}(e:x[q]?=some o)(g:Hd):(x++g)[q]?=some o:=by
 rw[List.getElem?_append_left (List.getElem?_eq_some_iff.mp e).1];exact e
def Refs.app{x:Hd}{qs:List Nat}{b:Nat}(h:Refs x qs b)(g:Hd):Refs (x++g) qs b:=λq hq=>by
 obtain⟨ds,e,l⟩:=h q hq;exact⟨ds,Hc e g,l⟩
def HB(x:Hd)(o:MO)(g:Hd):(x++(o::g))[x.length]?=some o:=by simp
def b7(E:List (Lt.En×Nat))(p:Lt.En×Nat->Prop)[DecidablePred p]:(E.filterMap λz=>if p z then some (enT z)else none)=(E.filter λz=>decide (p z)).map enT:=by
 induction E with
 |nil=>rfl
 |cons x r ih=>
  rw[filterMap_cons,filter_cons];by_cases h:p x
  .simp[h,ih]
  .simp[h,ih]
def LL(i:Nat)(x:Wx):∀(E:List Lt.En) (qs:List Nat),qs.length=E.length->((E.zip qs).filter λz=>decide (z.1.2.2+x.1<=x.2.1)).map (λz=>((i+1,z.1.2.1+x.2.2,z.1.2.2+x.1):Lt.En))=more i x E
 |[],_,_=>by simp[more]
 |e::r,[],h=>by simp at h
 |e::r,q::qs,h=>by
  have ih:=LL i x r qs (by simpa using h);unfold more at ih ⊢;rw[List.zip_cons_cons,filter_cons,filter_cons];by_cases c:e.2.2+x.1<=x.2.1
  .simp[c,ih]
  .simp[c,ih]
def ba{i:Nat}(h:i<=8):2^i<=256:=le_trans (Nat.pow_le_pow_right (by decide) h) (by decide)
inductive I_sets_w(ws:List Wm)(c:Int)(H0:Hd)(r:List D)(ls:Ls)(hd:Hd):Prop
 |mk (dn rest:List Int) (L:Nat) (g:Hd) (qs:List Nat) (z2 z3 z4 z5 z6 z7:Option D) (h0:B0 ws=dn++rest) (h1:r=((Aq rest).zipIdx dn.length).map enD) (h2:ls=[some (.im (AQ ws)),some (.mu L),z2,z3,z4,z5,z6,z7]) (h3:H0.length<=L) (h4:hd=H0++([MO.lst [],.lst [enT ((0,0,c),H0.length)],.lst (Aq (B0 ws))]++g)) (h5:qs.length=(AF c (wxs ws) dn.length).length) (h6:hd[L]?=some (.lst (((AF c (wxs ws) dn.length).zip qs).map enT))) (h7:Refs hd qs dn.length):I_sets_w ws c H0 r ls hd
inductive J_sets(dn:List Int)(k:Nat)(p:Wm)(X:Hd)(F:List (Lt.En×Nat))(r' es:List D)(ls:Ls)(hd:Hd):Prop
 |mk (dn' rest':List (Lt.En×Nat)) (qs':List Nat) (g':Hd) (z:Option D) (h0:F=dn'++rest') (h1:r'=rest'.map enT) (h2:qs'.length=dn'.length) (h3:es=((dn'.map λz=>((dn.length+1,z.1.2.1+(wx p).2.2,z.1.2.2+(wx p).1):Lt.En)).zip qs').map enT) (h4:ls=[z,some (.im (.int (dn.length:Int))),some (.im (.tup [.str "miss",.int p.due,.int p.wt])),some (.im (.int p.len)),some (.im (.int (k:Int)))]) (h5:hd=X++[.lst (F.map enT)]++g') (h6:Refs hd qs' (dn.length+1)):J_sets dn k p X F r' es ls hd
set_option maxHeartbeats 1000000 in
def XY{B c:Int}{ws:List Wm}(ok:BS B c ws)(hB:B<=2000)(H0:Hd):WF JY [.im (AQ ws)] H0 λd x=>∃(L:Nat) (rest:Hd) (qs:List Nat),d=.mu L/\H0.length<=L/\x=H0++rest/\qs.length=(AF c (wxs ws) ws.length).length/\x[L]?=some (.lst (((AF c (wxs ws) ws.length).zip qs).map enT)):=by
 obtain⟨hne,hl8,hc,hws⟩:=id ok;have hl0:0<ws.length:=E7 hne;unfold JY;refine As rfl ?_;refine AA (AN (Ay (Bc (A2 (Am (A2 (A9 (A2 (A9 (A2 (A4 (A4 (A0 rfl (A9 (AD (by rw[Cj,BO]) (DM (k:=0) hl0) (A9 (AD (ds:=[.im (.int (ws[0]).len),.im (.int (ws[0]).com),.im (.tup [.str "miss",.int (ws[0]).due,.int (ws[0]).wt])]) rfl (Ef _ _ _) (A2 (Ay (Bc (A5 ⟨Dr,A5 ⟨Me,A5 ⟨BC,A7 ?_⟩⟩⟩)))))))))))))))))))));rw[(hws _ (List.getElem_mem hl0)).2.1];refine AA (BL (Co (EW (EJ (A2 (A0 rfl (A5 ⟨[],_,rfl,rfl,by simp,rfl,(JJ ok hB).mono ?_⟩)))))));rintro d x ⟨rfl,rfl⟩;refine⟨0,_,[],_,rfl,le_refl _,rfl,rfl,rfl,rfl,Dd _ _,H0.length+2,Aq (B0 ws),by simp,?_,?_⟩
 .simp
 have e0:H0++[MO.lst []]++[MO.lst [enT ((0,0,c),H0.length)]]++[MO.lst (Aq (B0 ws))]=H0++[MO.lst [],.lst [enT ((0,0,c),H0.length)],.lst (Aq (B0 ws))]:=by simp
 have gO:∀g:Hd,GOk (H0++([MO.lst [],.lst [enT ((0,0,c),H0.length)],.lst (Aq (B0 ws))]++g)) [(H0.length+2,Aq (B0 ws))]:=by
  intro g q hq;rw[mem_singleton]at hq;subst hq;simp
 refine BJ (I_sets_w ws c H0) ⟨[],B0 ws,H0.length+1,[],[H0.length],none,none,none,none,none,none,rfl,rfl,by simp,by omega,by simp;rfl,rfl,?_,?_⟩ ?_ ?_
 .simp[AF];rfl
 .intro q hq;rw[mem_singleton]at hq;subst hq;exact⟨[],by simp,by simp⟩
 .rintro d r ls hd ⟨dn,rest,L,g,qs,z2,z3,z4,z5,z6,z7,e1,er,rfl,hL,ehd,hq,hE,hR⟩;cases rest with
  |nil=>cases er
  |cons i rest=>
   rw[show Aq (i::rest)=.im (.int i)::Aq rest from rfl,zipIdx_cons,map_cons]at er;obtain⟨rfl,rfl⟩:=List.cons.inj er;obtain⟨k,hk,rfl⟩:=Fp (ws:=ws) (i:=i) (by rw[e1];simp);have hle:dn.length<ws.length:=by have:=CN ws;rw[e1]at this;simp at this;omega
   have ex:(wxs ws)[dn.length]?=some (wx ws[k]):=by
    unfold wxs;rw[e1,List.getElem?_map,List.getElem?_append_right (le_refl _)];simp[hk]
   have okk:=hws _ (List.getElem_mem hk);have eF:AF c (wxs ws) (dn.length+1)=AF c (wxs ws) dn.length++more dn.length (wx ws[k]) (AF c (wxs ws) dn.length):=by rw[AF,ex]
   have lenE:=HL (c:=c) (L:=wxs ws) dn.length;have p8:=ba (i:=dn.length) (by omega);generalize hEE:AF c (wxs ws) dn.length=E at *;generalize hp:ws[k]=p at *;subst ehd;generalize hX:H0++([MO.lst [],.lst [enT ((0,0,c),H0.length)],.lst (Aq (B0 ws))]++g)=X at *;refine⟨[some (.im (AQ ws)),some (.mu L),some (.im (.int (dn.length:Int))),some (.im (.int (k:Int))),z4,z5,z6,z7],rfl,?_⟩;refine AA (Ij (A4 (A0 rfl (A0 rfl (AD (by rw[Cj,BO]) (DM hk) ?_)))));rw[hp];refine⟨[some (.im (AQ ws)),some (.mu L),some (.im (.int (dn.length:Int))),some (.im (.int (k:Int))),some (.im (.int p.len)),some (.im (.int p.com)),some (.im (.tup [.str "miss",.int p.due,.int p.wt])),z7],rfl,A7 ?_⟩;have lz:(E.zip qs).length=E.length:=by rw[List.length_zip,hq,Nat.min_self]
   refine AA (AN (Ay (B7 (EW (A0 rfl ⟨L,_,rfl,hE,Ab (by rw[length_map,lz];omega),?_⟩)))));refine Ci enT (λz=>if z.1.2.2+p.len<=p.due then some (enT z)else none) (λ_ ls=>∃x,ls=[some x,some (.im (.int p.len)),some (.im (.tup [.str "miss",.int p.due,.int p.wt]))]) _ (by intro q hq;rw[mem_singleton]at hq;subst hq;exact hE) ?_ ?_
   .rintro z hz ls hls;refine⟨[some (enT z),some (.im (.int p.len)),some (.im (.tup [.str "miss",.int p.due,.int p.wt]))],by rcases hls with rfl|⟨_,x,rfl⟩<;>rfl,⟨_,rfl⟩,?_⟩;refine AO (A4 (A4 (A4 (A0 rfl (A9 (AD rfl (D6 _ _ _ _) (A0 rfl (Ar (A4 (A0 rfl (A9 (AD (ds:=[.im (.str "miss"),.im (.int p.due),.im (.int p.wt)]) rfl (Ef _ _ _) (Hh ⟨_,rfl,rfl,?_⟩)))))))))))));by_cases q:z.1.2.2+p.len<=p.due
    .rw[if_pos (by simpa using q)];exact⟨_,if_pos q,A0 rfl ⟨rfl,rfl⟩⟩
    .rw[if_neg (by simpa using q)];exact if_neg q
   rw[b7];generalize hFF:(E.zip qs).filter (λz=>decide (z.1.2.2+p.len<=p.due))=F;have hFm:∀z∈F,z.2∈qs:=λz hz=>by
    rw[<- hFF]at hz;exact(of_mem_zip (mem_filter.mp hz).1).2
   have hFl:F.length<=E.length:=by rw[<- hFF,<- lz];exact List.length_filter_le _ _
   refine A7 ?_;change WS _ [some (.im (AQ ws)),some (.mu L),some (.im (.int (dn.length:Int))),some (.im (.int (k:Int))),some (.im (.int p.len)),some (.im (.int p.com)),some (.im (.tup [.str "miss",.int p.due,.int p.wt])),some (.mu X.length)] (X++[.lst (F.map enT)]) _;have hXF:∀g':Hd,(X++[MO.lst (F.map enT)]++g')[X.length]?=some (.lst (F.map enT)):=λg'=>by rw[append_assoc];exact HB X _ g'
   refine AN (Ay (LS (A0 rfl (Ay (B7 (EW (A0 rfl ⟨X.length,F.map enT,rfl,by simpa using hXF [],Ab (by rw[length_map];omega),?_⟩)))))));refine Kw (J_sets dn k p X F) ⟨[],F,[],[],none,rfl,rfl,rfl,rfl,rfl,by simp,λq hq=>by cases hq⟩ ?_ ?_
   .rintro d r' es ls hd ⟨dn',rest',qs',g',z,e2,e3,lq,rfl,rfl,rfl,R'⟩;cases rest' with
    |nil=>cases e3
    |cons y rest'=>
     obtain⟨rfl,rfl⟩:=List.cons.inj e3;obtain⟨ds,ed,ld⟩:=hR y.2 (hFm y (by rw[e2];simp));refine⟨[some (enT y),some (.im (.int (dn.length:Int))),some (.im (.tup [.str "miss",.int p.due,.int p.wt])),some (.im (.int p.len)),some (.im (.int (k:Int)))],rfl,Bu ?_⟩;rw[if_pos rfl];refine Am (A2 (A4 (A0 rfl (A9 (Ar (A2 (A4 (A4 (A0 rfl (A9 (AD rfl (Ef _ _ _) (A4 (A0 rfl (A9 (AD (ds:=[.im (.str "miss"),.im (.int p.due),.im (.int p.wt)]) rfl (D6 _ _ _ _) (Ar (A2 (A4 (A4 (A0 rfl (A9 (AD rfl (D6 _ _ _ _) (A0 rfl (Ar (A2 (Ay (LS (A4 (A0 rfl (A9 (AD rfl (e:=.mu y.2) rfl (Ay (Bc (A2 (A0 rfl (A5 ⟨BC,?_⟩))))))))))))))))))))))))))))))))))));have ed':(X++[MO.lst (F.map enT)]++g'++[MO.lst [.im (.int (k:Int))]])[y.2]?=some (.lst ds):=by
      rw[append_assoc,append_assoc];exact Hc ed _
     refine⟨y.2,_,ds,[.im (.int (k:Int))],rfl,rfl,ed',HB _ _ [],Ab (by simp;omega),A5 ⟨Me,?_⟩⟩;have c1:((dn.length:Int)+1)=((dn.length+1:Nat):Int):=by omega
     have c2:((y.1.2.1:Int)+p.wt)=((y.1.2.1+(wx p).2.2:Nat):Int):=by have:=okk.2.2.2;unfold wx;dsimp only;omega
     rw[c1,c2];refine⟨by intro q hq;rw[mem_singleton]at hq;subst hq;simpa using hXF (g'++[MO.lst [.im (.int (k:Int))],.lst (ds++[.im (.int (k:Int))])]),dn'++[y],rest',qs'++[(X++[MO.lst (F.map enT)]++g'++[MO.lst [.im (.int (k:Int))]]).length],g'++[MO.lst [.im (.int (k:Int))],.lst (ds++[.im (.int (k:Int))])],_,by rw[e2];simp,rfl,by simp[lq],?_,rfl,by simp,?_⟩
     .rw[map_append,List.zip_append (by simp[lq]),map_append];rfl
     .intro q hq;rcases mem_append.mp hq with q'|q'
      .have:=(R'.app [MO.lst [.im (.int (k:Int))],.lst (ds++[.im (.int (k:Int))])]) q q';simpa using this
      .rw[mem_singleton]at q';subst q';exact⟨ds++[.im (.int (k:Int))],HB _ _ [],by simp;omega⟩
   rintro es ls hd ⟨dn',rest',qs',g',z,e2,e3,lq,rfl,rfl,rfl,R'⟩;have er':rest'=[]:=by cases rest' with
    |nil=>rfl
    |cons t r=>cases e3
   subst er';rw[append_nil]at e2;subst e2;have eM:(F.map λz=>((dn.length+1,z.1.2.1+(wx p).2.2,z.1.2.2+(wx p).1):Lt.En))=more dn.length (wx p) E:=by
    rw[<- hFF];exact LL dn.length (wx p) E qs hq
   rw[eM];have lM:qs'.length=(more dn.length (wx p) E).length:=by rw[<- eM,length_map];exact lq
   generalize hY:X++[MO.lst (F.map enT)]++g'=Y at *;have eL:(Y++[MO.lst (((more dn.length (wx p) E).zip qs').map enT)])[L]?=some (.lst ((E.zip qs).map enT)):=by
    rw[<- hY,append_assoc,append_assoc];exact Hc hE _
   refine⟨L,Y.length,_,_,rfl,rfl,eL,HB Y _ [],Ab (by rw[length_map,length_map,lz,List.length_zip,lM,Nat.min_self];have:=hFl;rw[<- eM];simp;omega),?_⟩;rw[<- map_append,<- List.zip_append (by rw[hq]),<- eF];have hfin:Y++[MO.lst (((more dn.length (wx p) E).zip qs').map enT)]++[MO.lst (((AF c (wxs ws) (dn.length+1)).zip (qs++qs')).map enT)]=H0++([MO.lst [],.lst [enT ((0,0,c),H0.length)],.lst (Aq (B0 ws))]++(g++[MO.lst (F.map enT)]++g'++[MO.lst (((more dn.length (wx p) E).zip qs').map enT)]++[MO.lst (((AF c (wxs ws) (dn.length+1)).zip (qs++qs')).map enT)])):=by
    rw[<- hY,<- hX];simp
   have hlY:H0.length<=Y.length:=by rw[<- hY,<- hX];simp
   have R1:Refs (Y++[MO.lst (((more dn.length (wx p) E).zip qs').map enT)]++[MO.lst (((AF c (wxs ws) (dn.length+1)).zip (qs++qs')).map enT)]) (qs++qs') (dn.length+1):=by
    intro q hq';rcases mem_append.mp hq' with q'|q'
    .obtain⟨ds,ed,ld⟩:=hR q q';refine⟨ds,?_,by omega⟩;rw[<- hY,append_assoc,append_assoc,append_assoc];exact Hc ed _
    .obtain⟨ds,ed,ld⟩:=R' q q';exact⟨ds,by rw[append_assoc];exact Hc ed _,ld⟩
   refine⟨by rw[hfin];exact gO _,dn++[(k:Int)],rest,(Y++[MO.lst (((more dn.length (wx p) E).zip qs').map enT)]).length,_,qs++qs',_,_,_,_,_,_,by rw[e1];simp,by simp,rfl,by simp;omega,hfin,?_,?_,?_⟩
   .rw[length_append,length_append,hq,lM];simp only[length_append,length_cons,length_nil,zero_add];rw[eF,length_append]
   .simp only[length_append (as:=dn),length_cons,length_nil,zero_add];exact HB _ _ []
   .simp only[length_append (as:=dn),length_cons,length_nil,zero_add];exact R1
 .rintro ls hd ⟨dn,rest,L,g,qs,z2,z3,z4,z5,z6,z7,e1,er,rfl,hL,rfl,hq,hE,hR⟩;have:rest=[]:=by cases rest with
   |nil=>rfl
   |cons t r=>cases er
  subst this;rw[append_nil]at e1;have hle:dn.length=ws.length:=by rw[<- e1];exact CN ws
  rw[hle]at hq hE;exact A7 (AU (A0 rfl ⟨L,_,qs,rfl,hL,rfl,hq,hE⟩))
open Lt (IsMin comb behind Ad sel AF Wx)
def TK(x:Int):WF DL [.im (.int x)] [] λd _=>d=.im (.bl true):=by
 unfold DL;refine As rfl ?_;refine AU (E1 (AO (Cs (A0 rfl ⟨true,rfl,_,rfl,?_⟩))));rw[if_pos rfl];exact Jf (AO (Cs (A0 rfl ⟨false,rfl,_,rfl,rfl⟩)))
def NJ{n:Int}{is:List I}(h:(is.length:Int)=n):WF Bn [.im (.int n),.im (.tup is)] [] λd _=>d=.im (.bl true):=by
 unfold Bn;refine As rfl ?_;refine AU (E1 (AO (Cs (A0 rfl ⟨true,rfl,_,rfl,?_⟩))));rw[if_pos rfl];refine A4 (BD (A2 (A0 rfl (A5 (Bf rfl rfl (A0 rfl (EI ?_)))))));simp[h]
inductive I_shape_w(ws:List Wm)(n N:Nat)(f:Nat->Nat->Option Int)(r:List D)(ls:Ls)(hd:Hd):Prop
 |mk (dn rest:List Nat) (z4 z5 z6 z7:Option D) (h0:List.range (n+1)=dn++rest) (h1:r=((rest.map λk=>D.im (AI N (f k))).zipIdx dn.length).map enD) (h2:ls=[some (.im (AQ ws)),some (.im (AZ n N f)),some (.im (.tup [])),some (.im (.int (N:Int))),z4,z5,z6,z7]) (h3:hd=[]):I_shape_w ws n N f r ls hd
def NP{B c:Int}{ws:List Wm}(ok:BS B c ws){n N:Nat}(hn:n=ws.length)(hN:(N:Int)=AH ws+1)(f:Nat->Nat->Option Int):WF Bh [.im (AQ ws),.im (AZ n N f),.im (.tup [])] [] λd x=>d=.im .non:=by
 unfold Bh;refine As rfl ?_;refine AA (Ae (CF (BV (AK (A2 (A4 (BD (A2 (A0 rfl (A5 (Bf rfl rfl (A9 (Ar (A2 (A0 rfl (A5 ⟨by simp,(NJ (by simp[hn])).mono ?_⟩))))))))))))))) );rintro d x rfl;refine⟨_,rfl,_,rfl,(λh=>by cases h),λ_=>AV (A7 ?_)⟩;refine AA (AN (A4 (AK (A2 (A0 rfl (A5 ⟨by simp,(Md ok).mono ?_⟩))))));rintro d x rfl;refine⟨_,rfl,A9 (Ar (A7 ?_))⟩;rw[<- hN];refine BL (Co (CM (A0 rfl ⟨(List.range (n+1)).map λk=>D.im (AI N (f k)),by simp[AZ],?_⟩)));change WP (Az _ _ _ ((((List.range (n+1)).map λk=>D.im (AI N (f k))).zipIdx 0).map enD) [some (.im (AQ ws)),some (.im (AZ n N f)),some (.im (.tup [])),some (.im (.int (N:Int))),none,none,none,none] []) _;refine BJ (I_shape_w ws n N f) ⟨[],_,none,none,none,none,rfl,rfl,rfl,rfl⟩ ?_ ?_
 .rintro d r ls hd ⟨dn,rest,z4,z5,z6,z7,e1,er,rfl,rfl⟩;cases rest with
  |nil=>cases er
  |cons k rest=>
   rw[map_cons,zipIdx_cons,map_cons]at er;obtain⟨rfl,rfl⟩:=List.cons.inj er;refine⟨[some (.im (AQ ws)),some (.im (AZ n N f)),some (.im (.tup [])),some (.im (.int (N:Int))),some (.im (.int (dn.length:Int))),some (.im (AI N (f k))),z6,z7],rfl,?_⟩;refine AA (Ae (CF (BV (AK (A2 (A0 rfl (A2 (A0 rfl (A5 ⟨by simp[AI],(NJ (by simp)).mono ?_⟩)))))))));rintro d x rfl;refine⟨_,rfl,_,rfl,(λh=>by cases h),λ_=>AV (A7 ?_)⟩;refine BL (Co (CM (A0 rfl ⟨(List.range N).map λw=>AW (f k w),by simp[AI],?_⟩)));change WP (Az _ _ _ ((((List.range N).map λw=>AW (f k w)).zipIdx 0).map enD) _ []) _;refine BJ (λr ls hd=>∃(dn' rest':List Nat) (z6 z7:Option D),r=((rest'.map λw=>AW (f k w)).zipIdx dn'.length).map enD/\ls=[some (.im (AQ ws)),some (.im (AZ n N f)),some (.im (.tup [])),some (.im (.int (N:Int))),some (.im (.int (dn.length:Int))),some (.im (AI N (f k))),z6,z7]/\hd=[]) ⟨[],_,z6,z7,rfl,rfl,rfl⟩ ?_ ?_
   .rintro d r ls hd ⟨dn',rest',z6,z7,er,rfl,rfl⟩;cases rest' with
    |nil=>cases er
    |cons w rest'=>
     rw[map_cons,zipIdx_cons,map_cons]at er;obtain⟨rfl,rfl⟩:=List.cons.inj er;have fin:∀r',r'=((rest'.map λw=>AW (f k w)).zipIdx (dn'.length+1)).map enD->∃(dn'' rest'':List Nat) (y6 y7:Option D),r'=((rest''.map λw=>AW (f k w)).zipIdx dn''.length).map enD/\[some (D.im (AQ ws)),some (.im (AZ n N f)),some (.im (.tup [])),some (.im (.int (N:Int))),some (.im (.int (dn.length:Int))),some (.im (AI N (f k))),some (.im (.int (dn'.length:Int))),some (AW (f k w))]=[some (.im (AQ ws)),some (.im (AZ n N f)),some (.im (.tup [])),some (.im (.int (N:Int))),some (.im (.int (dn.length:Int))),some (.im (AI N (f k))),y6,y7]/\([]:Hd)=[]:=λr' e=>⟨dn'++[w],rest',_,_,by rw[e];simp,rfl,rfl⟩
     refine⟨[some (.im (AQ ws)),some (.im (AZ n N f)),some (.im (.tup [])),some (.im (.int (N:Int))),some (.im (.int (dn.length:Int))),some (.im (AI N (f k))),some (.im (.int (dn'.length:Int))),some (AW (f k w))],rfl,?_⟩;refine Ae (Cr (AO (Bp (A0 rfl ⟨f k w,rfl,_,rfl,?_⟩))));cases hx:f k w with
     |none=>
      rw[if_neg (by simp)];rw[hx]at fin;exact⟨(λh=>by cases h),λ_=>AV ⟨Aa _,fin _ rfl⟩⟩
     |some x=>
      rw[if_pos (by simp)];rw[hx]at fin;refine CF (BV (AK (A2 (A0 rfl (A5 ⟨by simp[Ai],(TK x).mono ?_⟩)))));rintro d x rfl;exact⟨_,rfl,_,rfl,(λh=>by cases h),λ_=>AV ⟨Aa _,fin _ rfl⟩⟩
   .rintro ls hd ⟨dn',rest',z6,z7,er,rfl,rfl⟩;exact⟨Aa _,dn++[k],rest,_,_,_,_,by rw[e1];simp,by simp,rfl,rfl⟩
 .rintro ls hd ⟨dn,rest,z4,z5,z6,z7,e1,er,rfl,rfl⟩;rfl
def D9{is js:List I}{hd:Hd}{QE:D->Hd->Prop}(h1:is.length+js.length<=100)(q:QE (.im (.tup (is++js))) hd):WP (Ep (.im (.tup is)) (.im (.tup js)) hd) QE:=by
 by_cases h0:is=[]
 .subst h0;refine WP.eq (z:=.im (.tup js)) (h:=hd) ?_ q;show(match AS (.im (.tup [])) (.im (.tup js)) hd with|some z=>some z|none=>Hv (.im (.tup [])) (.im (.tup js)) hd)=_;have e:AS (.im (.tup [])) (.im (.tup js)) hd=none:=by
   show(match K4 (.im (.tup [])) (.im (.tup js)) hd with|some z=>some z|none=>GL (.im (.tup [])) (.im (.tup js)) hd)=_;rw[show K4 (.im (.tup [])) (.im (.tup js)) hd=none from rfl];unfold GL;rw[show Af (.im (.tup []))=some []from rfl,show Af (.im (.tup js))=some (js.map D.im)from rfl,bind_some,bind_some,if_neg (λz=>z.1 rfl)]
  rw[e];unfold Hv;rw[show Af (.im (.tup []))=some []from rfl,show Af (.im (.tup js))=some (js.map D.im)from rfl,bind_some,bind_some,if_pos rfl,Bi]
 .obtain⟨d,x,e,q⟩:=DB (QE:=QE) h0 h1 q;refine⟨d,x,?_,q⟩;show(match AS (.im (.tup is)) (.im (.tup js)) hd with|some z=>some z|none=>Hv (.im (.tup is)) (.im (.tup js)) hd)=_;rw[e]
def BA{n N:Nat}{f:Nat->Nat->Option Int}{k:Nat}(hk:k<n+1):atI (((List.range (n+1)).map λk=>AI N (f k)).map D.im) (k:Int)=some (.im (AI N (f k))):=Cg rfl (by simp[hk])
def JN{n N m:Nat}{f:Nat->Nat->Option Int}(hN:N<=100)(hm:m<N)(h1:(f n m).isSome=true)(h2:∀w,(f n w).isSome=true->w<=m):WF CL [.im (AZ n N f)] [] λd x=>d=.im (.int (m:Int)):=by
 unfold CL;refine As rfl ?_;refine AU (DH (B7 (Co (CM (A4 (A0 rfl (Gk (A9 ⟨_,rfl,AD rfl (e:=.im (AI N (f n))) ?_ ⟨(List.range N).map λw=>AW (f n w),by simp[AI],?_⟩⟩))))))))
 .rw[map_map,range_succ,map_append];exact GU _ _
 have ez:(((List.range N).map λw=>AW (f n w)).zipIdx.map λq=>Ag [.im (.int (q.2:Int)),q.1])=(List.range N).map λw:Nat=>D.im (.tup [.int (w:Int),Ai (f n w)]):=by
  refine ext_getElem (by simp) λi a b=>?_;simp
 rw[ez];refine⟨Ab (by simp;omega),?_⟩;refine Ci (λw:Nat=>D.im (.tup [.int (w:Int),Ai (f n w)])) (λw=>if(f n w).isSome=true then some (.im (.int (w:Int)))else none) (λ_ ls=>∃x y,ls=[some x,some y]) _ (Aa _) ?_ ?_
 .rintro w hw ls hls;refine⟨[some (.im (.int (w:Int))),some (AW (f n w))],by rcases hls with rfl|⟨_,x,y,rfl⟩<;>rfl,⟨_,_,rfl⟩,?_⟩;refine AO (Bp (A0 rfl ⟨f n w,rfl,_,rfl,rfl,?_⟩));cases hx:f n w with
  |none=>
   rw[if_neg (by simp)];exact if_neg (by simp)
  |some x=>
   rw[if_pos (by simp)];exact⟨_,if_pos (by simp),A0 rfl ⟨rfl,rfl⟩⟩
 have ei:((List.range N).filterMap λw:Nat=>if(f n w).isSome=true then some (D.im (.int (w:Int)))else none)=Aq (((List.range N).filter λw:Nat=>(f n w).isSome).map λw:Nat=>(w:Int)):=by
  generalize List.range N=L
  induction L with
  |nil=>rfl
  |cons x r ih=>
   rw[filterMap_cons,filter_cons];by_cases h:(f n x).isSome=true
   .simp[h,Aq]at ih ⊢;exact ih
   .simp[h,Aq]at ih ⊢;exact ih
 rw[ei];have hmm:(m:Int)∈((List.range N).filter λw:Nat=>(f n w).isSome).map λw:Nat=>(w:Int):=mem_map.mpr ⟨m,mem_filter.mpr ⟨by simpa using hm,h1⟩,rfl⟩;have hne:=List.ne_nil_of_mem hmm;refine⟨_,by unfold K1;rw[ER,bind_some,if_neg hne],?_⟩;have ms:=HC hne;obtain⟨w,hw,ew⟩:=mem_map.mp ms.1;have h3:=ms.2 _ hmm;have h4:=h2 w (mem_filter.mp hw).2;have:GD (((List.range N).filter λw:Nat=>(f n w).isSome).map λw:Nat=>(w:Int))=(m:Int):=by omega
 rw[this]
open Lt (IsMin comb behind Ad sel AF Wx more EY FS GM HM)
def XM{ml:MA}{mb:ME}{ls:Ls}{hd:Hd}{QA:List D->Hd->Prop}(h:WA ml ls hd λds x=>WE mb ls x λe y=>∃k,e=.im (.int k)/\(0<=k/\k<=1000)/\C9 (ds.length*k.toNat)/\QA (List.replicate k.toNat ds).flatten y):WA (Jy ml mb) ls hd QA:=by
 obtain⟨ds,x,e1,e,y,e2,k,rfl,c1,c2,q⟩:=h;exact⟨_,_,by simp only[Jy,e1,bind_some,e2,c1,c2,and_self,if_true],q⟩
abbrev B1(N:Nat)(f:Nat->Option Int):List D:=(List.range N).map λw=>AW (f w)
def Rh(n N:Nat)(f:Nat->Nat->Option Int):Hd:=(List.range (n+1)).map (λk=>MO.lst (B1 N (f k)))++[MO.lst ((List.range (n+1)).map D.mu)]
def Lq(n N:Nat)(f:Nat->Nat->Option Int):(Rh n N f).length=n+2:=by simp[Rh]
def Lp{n N:Nat}{f:Nat->Nat->Option Int}{k:Nat}(hk:k<=n)(g:Hd):(Rh n N f++g)[k]?=some (.lst (B1 N (f k))):=by
 unfold Rh;rw[append_assoc,List.getElem?_append_left (by simp;omega)];simp[Nat.lt_succ_of_le hk]
def JA(n N:Nat)(f:Nat->Nat->Option Int)(g:Hd):(Rh n N f++g)[n+1]?=some (.lst ((List.range (n+1)).map D.mu)):=by
 unfold Rh;rw[append_assoc,List.getElem?_append_right (by simp)];simp
def NZ{n N L:Nat}{f:Nat->Nat->Option Int}(hL:n+2<=L)(g:Hd):(Rh n N f++g)[L]?=g[L-(n+2)]? := by
 rw[List.getElem?_append_right (by rw[Lq];exact hL),Lq]
def Xr{n N:Nat}{f f':Nat->Nat->Option Int}{k w:Nat}{o:Option Int}(hk:k<=n)(hw:w<N)(g:Hd)(h1:f' k w=o)(h2:∀k' w',¬ (k'=k/\w'=w)->f' k' w'=f k' w'):(Rh n N f++g).set k (.lst ((B1 N (f k)).set w (AW o)))=Rh n N f'++g:=by
 unfold Rh;rw[append_assoc,append_assoc,List.set_append_left _ _ (by simp;omega)]
 congr 1
 refine ext_getElem (by simp) λi a1 a2=>?_;simp only[length_map,List.length_range]at a2;rw[List.getElem_set];by_cases q:k=i
 .subst q;rw[if_pos rfl];simp only[List.getElem_map,List.getElem_range]
  congr 1
  refine ext_getElem (by simp) λj b1 b2=>?_;rw[List.getElem_set];by_cases q:w=j
  .subst q;simp[h1]
  .rw[if_neg q];simp only[List.getElem_map,List.getElem_range];rw[h2 k j (λz=>q z.2.symm)]
 .rw[if_neg q];simp only[List.getElem_map,List.getElem_range]
  congr 1
  refine map_congr_left λj _=>?_;rw[h2 i j (λz=>q z.1.symm)]
def Ou{n k:Nat}(hk:k<=n):atI ((List.range (n+1)).map D.mu) (k:Int)=some (.mu k):=Cg rfl (by simp[Nat.lt_succ_of_le hk])
def NX{N:Nat}{f:Nat->Option Int}{w:Nat}(hw:w<N):atI (B1 N f) (w:Int)=some (AW (f w)):=Cg rfl (by simp[hw])
def TL(N:Nat):(List.replicate N [D.im .non]).flatten=B1 N λ_=>none:=by
 have e1:(List.replicate N [D.im .non]).flatten=List.replicate N (D.im .non):=by
  induction N with
  |zero=>rfl
  |succ m ih=>rw[replicate_succ,flatten_cons,ih,replicate_succ];rfl
 rw[e1];refine ext_getElem (by simp) λi h1 h2=>?_;simp[Ai]
def XU{B c:Int}{ws:List Wm}(ok:BS B c ws):((wxs ws).map λx=>x.2.2).sum=(AH ws).toNat:=by
 have h1:(wxs ws).Perm (ws.map wx):=by
  have p:=(IW ws).map λi:Int=>(ws[i.toNat]?.map wx).getD (0,0,0);rw[map_map]at p;refine p.trans ?_;refine(List.Perm.of_eq ?_);refine ext_getElem (by simp) λi a b=>?_;simp at a b;simp[a]
 have h2:=(h1.map λx:Wx=>x.2.2).sum_nat
 rw[h2,map_map];have:∀vs:List Wm,(∀w∈vs,okM B c w)->(vs.map ((λx:Wx=>x.2.2) ∘ wx)).sum=(AH vs).toNat/\0<=AH vs:=by
  intro vs
  induction vs with
  |nil=>intro _;simp[AH]
  |cons v r ih=>
   intro h;have ih:=ih λw hw=>h w (by simp[hw]);have:=(h v (by simp)).2.2.2;simp only[AH,map_cons,List.sum_cons,Function.comp]at *;have e:(wx v).2.2=v.wt.toNat:=rfl;rw[ih.1,e];omega
 exact(this ws ok.2.2.2).1
set_option maxHeartbeats 1000000 in
def Um{B c:Int}{ws:List Wm}(ok:BS B c ws)(hB:B<=2000):WF I0 [.im (AQ ws)] [] λd x=>d=.im (AZ ws.length ((AH ws).toNat+1) (fT c (wxs ws))):=by
 have hl8:=ok.2.1;have hf:=DZ ok;have hwx:=XU ok;generalize hN:(AH ws).toNat+1=N;generalize hn:ws.length=n at *;unfold I0;refine As rfl ?_;refine AA (AN (DH (B7 (CM (A0 rfl ⟨_,rfl,?_⟩)))));rw[BO];refine⟨Ab (by simp;omega),?_⟩;refine Ci wmD (λw=>some (.im (.int w.wt))) (λ_ ls=>∃x,ls=[some x]) _ (Aa _) ?_ ?_
 .rintro p hp ls hls;refine⟨[some (wmD p)],by rcases hls with rfl|⟨_,x,rfl⟩<;>rfl,⟨_,rfl⟩,Bu ⟨rfl,?_⟩⟩;rw[if_pos rfl];exact⟨_,rfl,A4 (A4 (A0 rfl (A9 (AD (ds:=[.im (.int p.len),.im (.int p.com),.im (.tup [.str "miss",.int p.due,.int p.wt])]) rfl (D6 _ _ _ _) (A9 (AD (ds:=[.im (.str "miss"),.im (.int p.due),.im (.int p.wt)]) rfl (D6 _ _ _ _) ⟨rfl,rfl⟩))))))⟩
 have e:(ws.filterMap λw=>some (D.im (.int w.wt)))=Aq (ws.map Wm.wt):=by simp[Aq]
 rw[e];refine⟨.im (.int (AH ws)),by unfold FC;rw[ER];rfl,A7 ?_⟩;refine AA (AN (Ay (B7 (Je (A2 (A4 (BD (A2 (A0 rfl (A5 (Bf rfl rfl (A9 (Ar (A5 ⟨(n:Int)+1,by simp[hn],Fi (by omega) (by omega),?_⟩))))))))))))));have en:((n:Int)+1).toNat=n+1:=by omega
 rw[en,JC];refine⟨Ab (by simp[Ot];omega),?_⟩;refine Kw (λr' es ls hd=>∃(j:Nat) (z:Option D),j<=n+1/\r'=Ot (List.range' j (n+1-j))/\es=(List.range j).map D.mu/\ls=[z,some (.im (.int (AH ws)))]/\hd=(List.range j).map λ_=>MO.lst (B1 N λ_=>none)) ⟨0,none,by omega,by rw[List.range_eq_range',sub_zero],rfl,rfl,rfl⟩ ?_ ?_
 .rintro d r' es ls hd ⟨j,z,hj,er,rfl,rfl,rfl⟩;obtain⟨m,hm⟩:∃m,n+1-j=m+1:=by
   cases q:n+1-j with
   |zero=>rw[q]at er;cases er
   |succ m=>exact⟨m,rfl⟩
  rw[hm,List.range'_succ]at er;obtain⟨rfl,rfl⟩:=List.cons.inj er;refine⟨[some (.im (.int (j:Int))),some (.im (.int (AH ws)))],rfl,Bu ?_⟩;rw[if_pos rfl];refine Ay (XM (Bc (A2 (A9 (A5 ⟨BC,A4 (A0 rfl (A9 (Ar ⟨AH ws+1,rfl,by omega,Ab (by simp;omega),?_⟩)))⟩)))));have eN:(AH ws+1).toNat=N:=by omega
  rw[eN,TL];refine⟨Aa _,j+1,_,by omega,by rw[show n+1-(j+1)=m by omega],?_,rfl,?_⟩
  .rw[range_succ];simp
  .rw[range_succ];simp
 rintro es ls hd ⟨j,z,hj,er,rfl,rfl,rfl⟩;have:j=n+1:=by
  cases q:n+1-j with
  |zero=>omega
  |succ m=>rw[q]at er;cases er
 subst this;refine A7 ?_;have eH:(List.range (n+1)).map (λ_=>MO.lst (B1 N λ_=>none))++[MO.lst ((List.range (n+1)).map D.mu)]=Rh n N λ_ _=>none:=rfl;have el:((List.range (n+1)).map λ_=>MO.lst (B1 N λ_=>none)).length=n+1:=by simp
 rw[eH,el];refine AA (BL (EW (G6 (A2 (A0 rfl (A5 ((XY ok hB _).mono ?_)))))));rintro d x ⟨L,rest,qs,rfl,hL,rfl,hq,hE⟩;rw[Lq]at hL;rw[hn]at hq hE;refine⟨L,_,rfl,hE,?_⟩;rw[NZ hL]at hE;have gL:∀f,GOk (Rh n N f++rest) [(L,((AF c (wxs ws) n).zip qs).map enT)]:=λf q hq'=>by
  rw[mem_singleton]at hq';subst hq';dsimp only;rw[NZ hL];exact hE
 change WP (Az _ _ _ _ [some (.im (AQ ws)),some (.im (.int (AH ws))),some (.mu (n+1)),none,none,none,none,none] _) _;refine BJ (λr ls hd=>∃(dn rs:List (Lt.En×Nat)) (f:Nat->Nat->Option Int) (z3 z4 z5 z6 z7:Option D),(AF c (wxs ws) n).zip qs=dn++rs/\r=rs.map enT/\ls=[some (.im (AQ ws)),some (.im (.int (AH ws))),some (.mu (n+1)),z3,z4,z5,z6,z7]/\hd=Rh n N f++rest/\∀k,k<=n->∀w,w<N->IsMin (sel w ((dn.map (·.1)).filter λe=>decide (e.1<=k))) (f k w)) ⟨[],_,λ_ _=>none,none,none,none,none,none,rfl,rfl,rfl,rfl,λk _ w _=>Lt.isMin_nil⟩ ?_ ?_
 .rintro d r ls hd ⟨dn,rs,f,z3,z4,z5,z6,z7,e1,er,rfl,rfl,hM⟩;cases rs with
  |nil=>cases er
  |cons y rs=>
   obtain⟨rfl,rfl⟩:=List.cons.inj er;obtain⟨⟨ro,w0,ed⟩,q⟩:=y;have hy:((ro,w0,ed):Lt.En)∈AF c (wxs ws) n:=(of_mem_zip (show(((ro,w0,ed):Lt.En),q)∈(AF c (wxs ws) n).zip qs by rw[e1];simp)).1;have hro:ro<=n:=FS hy;have hw0:w0<N:=by
    have h1:=GM hy;have h2:((wxs ws).take n).length=(wxs ws).length∨True:=.inr trivial;have h3:(wxs ws).take n=wxs ws:=List.take_of_length_le (by unfold wxs;rw[length_map,CN,hn];exact le_refl _);rw[h3,hwx]at h1;dsimp only at h1;omega
   refine⟨[some (.im (AQ ws)),some (.im (.int (AH ws))),some (.mu (n+1)),some (.im (.int (ro:Int))),some (.im (.int (w0:Int))),some (.im (.int ed)),some (.mu q),z7],rfl,?_⟩;refine BL (U2 (A2 (A0 rfl (A2 (BD (A2 (A0 rfl (A5 (Bf (ds:=(List.range (n+1)).map D.mu) (by rw[if_pos rfl,Iv,JI,JA]) rfl (A5 ⟨(ro:Int),((n+1:Nat):Int),by simp,V5 (by omega) (by omega) (by omega) (by omega),?_⟩))))))))));have em:(((n+1:Nat):Int)-(ro:Int)).toNat=n+1-ro:=by omega
   rw[em];refine BJ (λr ls hd=>∃(j:Nat) (f':Nat->Nat->Option Int) (z7:Option D),ro<=j/\j<=n+1/\r=Au (j:Int) (n+1-j)/\ls=[some (.im (AQ ws)),some (.im (.int (AH ws))),some (.mu (n+1)),some (.im (.int (ro:Int))),some (.im (.int (w0:Int))),some (.im (.int ed)),some (.mu q),z7]/\hd=Rh n N f'++rest/\∀k w,f' k w=if ro<=k/\k<j/\w=w0 then EY (f k w) ed else f k w) ⟨ro,f,z7,le_refl _,by omega,rfl,rfl,rfl,λk w=>by rw[if_neg (by omega)]⟩ ?_ ?_
   .rintro d r ls hd ⟨j,f',z7,h1,h2,er,rfl,rfl,hf'⟩;obtain⟨m,hm⟩:∃m,n+1-j=m+1:=by
     cases q:n+1-j with
     |zero=>rw[q]at er;cases er
     |succ m=>exact⟨m,rfl⟩
    rw[hm,Au]at er;obtain⟨rfl,rfl⟩:=List.cons.inj er;have hj:j<=n:=by omega
    have ej:((j:Int)+1)=((j+1:Nat):Int):=by omega
    have emj:m=n+1-(j+1):=by omega
    have fj:f' j w0=f j w0:=by rw[hf',if_neg (by omega)]
    refine⟨[some (.im (AQ ws)),some (.im (.int (AH ws))),some (.mu (n+1)),some (.im (.int (ro:Int))),some (.im (.int (w0:Int))),some (.im (.int ed)),some (.mu q),some (.im (.int (j:Int)))],rfl,?_⟩;have svT:B8 (Rh n N f'++rest) (.mu (n+1))=some ((List.range (n+1)).map D.mu):=by rw[Iv,JI,JA]
    have svR:B8 (Rh n N f'++rest) (.mu j)=some (B1 N (f' j)):=by rw[Iv,JI,Lp hj]
    -- the put
    have hput:EY (f j w0) ed=some ed->WS (GF (mOp gIx (A1 2) (A1 7)) (A1 4) (A1 5)) [some (.im (AQ ws)),some (.im (.int (AH ws))),some (.mu (n+1)),some (.im (.int (ro:Int))),some (.im (.int (w0:Int))),some (.im (.int ed)),some (.mu q),some (.im (.int (j:Int)))] (Rh n N f'++rest) λfl x=>fl=.nx [some (.im (AQ ws)),some (.im (.int (AH ws))),some (.mu (n+1)),some (.im (.int (ro:Int))),some (.im (.int (w0:Int))),some (.im (.int ed)),some (.mu q),some (.im (.int (j:Int)))]/\∃f'',x=Rh n N f''++rest/\∀k w,f'' k w=if ro<=k/\k<j+1/\w=w0 then EY (f k w) ed else f k w:=by
     intro hp;refine NG (A0 rfl (A4 (A0 rfl (A0 rfl (AD svT (Ou hj) (A0 rfl ⟨j,(w0:Int),w0,B1 N (f' j),rfl,rfl,Lp hj _,by rw[Wl (by omega) (by simp;omega)];simp,rfl,λk w=>if ro<=k/\k<j+1/\w=w0 then EY (f k w) ed else f k w,?_,λ_ _=>rfl⟩))))));refine Xr (o:=some ed) hj hw0 rest ?_ λk' w' hne=>?_
     .rw[if_pos ⟨h1,by omega,rfl⟩,hp]
     .rw[hf'];by_cases c1:ro<=k'/\k'<j/\w'=w0
      .rw[if_pos c1,if_pos ⟨c1.1,by omega,c1.2.2⟩]
      .rw[if_neg c1,if_neg λz=>c1 ⟨z.1,by
        have:k'≠j:=λe=>hne ⟨e,z.2.2⟩;omega,z.2.2⟩]
    have hno:EY (f j w0) ed=f j w0->∀k w,f' k w=if ro<=k/\k<j+1/\w=w0 then EY (f k w) ed else f k w:=by
     intro hp k w;rw[hf'];by_cases c1:ro<=k/\k<j/\w=w0
     .rw[if_pos c1,if_pos ⟨c1.1,by omega,c1.2.2⟩]
     .rw[if_neg c1];by_cases c2:ro<=k/\k<j+1/\w=w0
      .have:k=j:=by omega
       rw[if_pos c2,this,c2.2.2,hp]
      .rw[if_neg c2]
    refine WP.mono (Q:=λfl x=>fl=.nx [some (.im (AQ ws)),some (.im (.int (AH ws))),some (.mu (n+1)),some (.im (.int (ro:Int))),some (.im (.int (w0:Int))),some (.im (.int ed)),some (.mu q),some (.im (.int (j:Int)))]/\∃f'',x=Rh n N f''++rest/\∀k w,f'' k w=if ro<=k/\k<j+1/\w=w0 then EY (f k w) ed else f k w) (Ae (FK (AO (Bp (A4 (A4 (A0 rfl (A0 rfl (AD svT (Ou hj) (A0 rfl (AD svR (NX hw0) ⟨f' j w0,rfl,_,rfl,?_⟩))))))))))) ?_
    .rw[fj];cases hfo:f j w0 with
     |none=>
      rw[if_pos (by simp)];exact⟨λ_=>hput (by rw[hfo];rfl),λh=>by cases h⟩
     |some x=>
      rw[if_neg (by simp)];refine AO (A4 (A0 rfl (A4 (A4 (A0 rfl (A0 rfl (AD svT (Ou hj) (A0 rfl (AD svR (NX hw0) ?_)))))))));rw[fj,hfo];refine Il ⟨_,rfl,λh=>?_,λh=>?_⟩
      .have h:ed<x:=by simpa using h
       exact hput (by rw[hfo];unfold EY;dsimp only;rw[if_pos h])
      .have h:¬ ed<x:=by simpa using h
       exact AV ⟨rfl,f',rfl,hno (by rw[hfo];unfold EY;dsimp only;rw[if_neg h])⟩
    .rintro fl x ⟨rfl,f'',rfl,hf''⟩;exact⟨Aa _,j+1,f'',_,by omega,by omega,by rw[ej,emj],rfl,rfl,hf''⟩
   .rintro ls hd ⟨j,f',z7,h1,h2,er,rfl,rfl,hf'⟩;have:j=n+1:=by
     cases q:n+1-j with
     |zero=>omega
     |succ m=>rw[q]at er;cases er
    subst this;refine⟨gL f',dn++[((ro,w0,ed),q)],rs,f',_,_,_,_,_,by rw[e1];simp,rfl,rfl,rfl,λk hk w hw=>?_⟩;have hm:=hM k hk w hw;rw[map_append,List.filter_append,Lt.sel_app,hf'];by_cases c1:ro<=k/\w=w0
    .rw[if_pos ⟨c1.1,by omega,c1.2⟩];have e3:sel w ((List.map (λx:Lt.En×Nat=>x.1) [((ro,w0,ed),q)]).filter λe=>decide (e.1<=k))=[ed]:=by
      simp[sel,c1.1,c1.2]
     rw[e3];exact hm.put ed
    .rw[if_neg λz=>c1 ⟨z.1,z.2.2⟩];have e3:sel w ((List.map (λx:Lt.En×Nat=>x.1) [((ro,w0,ed),q)]).filter λe=>decide (e.1<=k))=[]:=by
      by_cases c2:ro<=k
      .have:¬ w0=w:=λz=>c1 ⟨c2,z.symm⟩;simp[sel,c2,this]
      .simp[sel,c2]
     rw[e3,append_nil];exact hm
 .rintro ls hd ⟨dn,rs,f,z3,z4,z5,z6,z7,e1,er,rfl,rfl,hM⟩;have:rs=[]:=by cases rs with
   |nil=>rfl
   |cons t r=>cases er
  subst this;rw[append_nil]at e1;have eD:dn.map (·.1)=AF c (wxs ws) n:=by rw[<- e1,List.map_fst_zip (by omega)]
  rw[eD]at hM;have lw:(wxs ws).length=n:=by unfold wxs;rw[length_map,CN,hn]
  have eqf:∀k,k<=n->∀w,w<N->f k w=fT c (wxs ws) k w:=λk hk w hw=>by
   have h1:=hM k hk w hw;have h2:=HM (c:=c) (L:=wxs ws) k (n-k);rw[show k+(n-k)=n by omega]at h2;rw[h2]at h1;exact h1.uniq (RJ c (wxs ws) k (by omega) w)
  refine A7 (AU (DH (B7 (EW (A0 rfl ⟨n+1,_,rfl,JA n N f rest,Ab (by simp;omega),?_⟩)))));refine Ci D.mu (λk=>some (.im (AI N (fT c (wxs ws) k)))) (λ_ ls=>∃x,ls=[some x]) _ (by intro q hq';rw[mem_singleton]at hq';subst hq';exact JA n N f rest) ?_ ?_
  .rintro k hk ls hls;have hk:k<=n:=Nat.le_of_lt_succ (by simpa using hk);refine⟨[some (.mu k)],by rcases hls with rfl|⟨_,x,rfl⟩<;>rfl,⟨_,rfl⟩,Bu ⟨rfl,?_⟩⟩;rw[if_pos rfl];refine⟨_,rfl,BD (A2 (A0 rfl (A5 (Bf (ds:=B1 N (f k)) (by rw[if_pos rfl,Iv,JI,Lp hk]) rfl ⟨rfl,?_⟩))))⟩;have e2:B1 N (f k)=((List.range N).map λw=>Ai (fT c (wxs ws) k w)).map D.im:=by
    rw[map_map];refine map_congr_left λw hw=>?_;rw[eqf k hk w (by simpa using hw)];rfl
   rw[e2,Bi];rfl
  .have e2:((List.range (n+1)).filterMap λk=>some (D.im (AI N (fT c (wxs ws) k))))=((List.range (n+1)).map λk=>AI N (fT c (wxs ws) k)).map D.im:=by simp
   rw[e2];refine⟨_,rfl,?_⟩;rw[Bi];rfl
def Ph{ma mb:MI}{ls:Ls}{hd:Hd}{QI:List D×Gd->Hd->Prop}(h:WI ma ls hd λp x=>WI mb ls x λq y=>GOk y p.2/\QI (List.zipWith (λx y=>Ag [x,y]) p.1 q.1,p.2++q.2) y):WI (HD ma mb) ls hd QI:=by
 obtain⟨p,x,e1,q,y,e2,g,k⟩:=h;exact⟨_,_,by simp only[HD,e1,bind_some,e2,g,if_true],k⟩
abbrev AL(n:Nat)(i:I):Prop:=WF (G0 n) [.im i,.im i] [] λd x=>d=.im (.bl true)
def Zz(n:Nat)(o:Option Int):AL (n+1) (Ai o):=by
 unfold AL;show WF (mkF 2 _ (Nq (G0 n))) _ _ _;refine As rfl ?_;refine AA (Ae (AO (Bp (A0 rfl ⟨o,rfl,_,rfl,λh=>?_,λh=>AV (A7 ?_)⟩))))
 .refine AU (Bp (A0 rfl ⟨o,rfl,?_⟩));rw[h];rfl
 .cases o with
  |none=>simp at h
  |some x=>
   refine AA (Ae (BV (Cs (A0 rfl ⟨false,rfl,_,rfl,(λh=>by cases h),λ_=>AV (A7 ?_)⟩))));refine AA (Ae (BV (Cs (A0 rfl ⟨false,rfl,_,rfl,(λh=>by cases h),λ_=>AV (A7 ?_)⟩))));refine AU (E1 (AO (Cs (A0 rfl ⟨true,rfl,_,rfl,?_⟩))));rw[if_pos rfl];refine E1 (AO (Jf (AO (Cs (A0 rfl ⟨false,rfl,_,rfl,_,rfl,?_⟩)))));rw[if_pos (show(!false)=true from rfl)];refine A4 (A0 rfl (A0 rfl (EI ?_)));simp
open Lt (IsMin comb behind Ad sel AF Wx)
def Qq{n N m:Nat}{f:Nat->Nat->Option Int}(hN:N<=100)(hm:m<N)(h1:(f n m).isSome=true)(h2:∀w,(f n w).isSome=true->w<=m):WF Ja [.im (AZ n N f)] [] λd x=>d=.im (.int (m:Int)):=JN hN hm h1 h2
def X5(a:Option Int):WF Eu [AW a] [] λd x=>d=.im (.bl true):=by
 unfold Eu;refine As rfl ?_;refine AU (Pj (AO (Bp (A0 rfl ⟨a,rfl,_,rfl,?_⟩))));cases a with
 |none=>rw[if_pos (by simp)]
 |some x=>
  rw[if_neg (by simp)];refine E1 (AO (Cs (A0 rfl ⟨true,rfl,_,rfl,?_⟩)));rw[if_pos rfl];exact Jf (AO (Cs (A0 rfl ⟨false,rfl,_,rfl,rfl⟩)))
abbrev csD(p:Wm):D:=.im (.tup [.str "miss",.int p.due,.int p.wt])
def TR{B c:Int}{ws:List Wm}(ok:BS B c ws){n N:Nat}(hn:n=ws.length)(hN:(N:Int)=AH ws+1)(f:Nat->Nat->Option Int):WF IA [.im (AQ ws),.im (AZ n N f),.im (.tup [])] [] λd x=>d=.im .non:=by
 have hl8:=ok.2.1;unfold IA;refine As rfl ?_;refine AA (AN (DH (B7 (CM (A0 rfl ⟨_,rfl,?_⟩)))));rw[BO];refine⟨Ab (by simp;omega),?_⟩;refine Ci wmD (λw=>some (.im (.int w.wt))) (λ_ ls=>∃x,ls=[some x]) _ (Aa _) ?_ ?_
 .rintro p hp ls hls;refine⟨[some (wmD p)],by rcases hls with rfl|⟨_,x,rfl⟩<;>rfl,⟨_,rfl⟩,Bu ⟨rfl,?_⟩⟩;rw[if_pos rfl];exact⟨_,rfl,A4 (A4 (A0 rfl (A9 (AD (ds:=[.im (.int p.len),.im (.int p.com),csD p]) rfl (D6 _ _ _ _) (A9 (AD (ds:=[.im (.str "miss"),.im (.int p.due),.im (.int p.wt)]) rfl (D6 _ _ _ _) ⟨rfl,rfl⟩))))))⟩
 have e:(ws.filterMap λw=>some (D.im (.int w.wt)))=Aq (ws.map Wm.wt):=by simp[Aq]
 rw[e];refine⟨_,by unfold FC;rw[ER];rfl,A7 ?_⟩;change WS _ [some (.im (AQ ws)),some (.im (AZ n N f)),some (.im (.tup [])),some (.im (.int (AH ws))),none,none,none,none] [] _;refine AA (Ae (FK (CF (BV (Cs (A0 rfl ⟨true,rfl,_,rfl,?_⟩))))));rw[if_neg (by simp)];refine AO (A4 (BD (A2 (A0 rfl (A5 (Bf rfl rfl (A4 (BD (A2 (A0 rfl (A5 (Bf rfl rfl (A9 (Ar (LN ⟨_,rfl,(λh=>by simp[hn]at h),λ_=>AV (A7 ?_)⟩)))))))))))))));refine AA (BL (Co (CM (A0 rfl ⟨(List.range (n+1)).map λk=>D.im (AI N (f k)),by simp[AZ],?_⟩))));change WP (Az _ _ _ ((((List.range (n+1)).map λk=>D.im (AI N (f k))).zipIdx 0).map enD) [some (.im (AQ ws)),some (.im (AZ n N f)),some (.im (.tup [])),some (.im (.int (AH ws))),none,none,none,none] []) _;refine BJ (λr ls hd=>∃(dn rest:List Nat) (z4 z5 z6 z7:Option D),r=((rest.map λk=>D.im (AI N (f k))).zipIdx dn.length).map enD/\ls=[some (.im (AQ ws)),some (.im (AZ n N f)),some (.im (.tup [])),some (.im (.int (AH ws))),z4,z5,z6,z7]/\hd=[]) ⟨[],_,none,none,none,none,rfl,rfl,rfl⟩ ?_ ?_
 .rintro d r ls hd ⟨dn,rest,z4,z5,z6,z7,er,rfl,rfl⟩;cases rest with
  |nil=>cases er
  |cons k rest=>
   rw[map_cons,zipIdx_cons,map_cons]at er;obtain⟨rfl,rfl⟩:=List.cons.inj er;refine⟨[some (.im (AQ ws)),some (.im (AZ n N f)),some (.im (.tup [])),some (.im (.int (AH ws))),some (.im (.int (dn.length:Int))),some (.im (AI N (f k))),z6,z7],rfl,?_⟩;refine AA (Ae (FK (CF (BV (Cs (A0 rfl ⟨true,rfl,_,rfl,?_⟩))))));rw[if_neg (by simp)];refine AO (A4 (BD (A2 (A0 rfl (A5 (Bf (ds:=(List.range N).map λw=>AW (f k w)) (by simp[AI]) rfl (A4 (A0 rfl (A9 (Ar (LN ⟨_,rfl,(λh=>by simp at h;omega),λ_=>AV (A7 ?_)⟩)))))))))));refine BL (Co (CM (A0 rfl ⟨(List.range N).map λw=>AW (f k w),by simp[AI],?_⟩)));change WP (Az _ _ _ ((((List.range N).map λw=>AW (f k w)).zipIdx 0).map enD) _ []) _;refine BJ (λr ls hd=>∃(dn' rest':List Nat) (z6 z7:Option D),r=((rest'.map λw=>AW (f k w)).zipIdx dn'.length).map enD/\ls=[some (.im (AQ ws)),some (.im (AZ n N f)),some (.im (.tup [])),some (.im (.int (AH ws))),some (.im (.int (dn.length:Int))),some (.im (AI N (f k))),z6,z7]/\hd=[]) ⟨[],_,z6,z7,rfl,rfl,rfl⟩ ?_ ?_
   .rintro d r ls hd ⟨dn',rest',z6,z7,er,rfl,rfl⟩;cases rest' with
    |nil=>cases er
    |cons w rest'=>
     rw[map_cons,zipIdx_cons,map_cons]at er;obtain⟨rfl,rfl⟩:=List.cons.inj er;refine⟨[some (.im (AQ ws)),some (.im (AZ n N f)),some (.im (.tup [])),some (.im (.int (AH ws))),some (.im (.int (dn.length:Int))),some (.im (AI N (f k))),some (.im (.int (dn'.length:Int))),some (AW (f k w))],rfl,?_⟩;refine Ae (CF (BV (AK (A2 (A0 rfl (A5 ⟨by cases f k w<;>simp[Ai],(X5 (f k w)).mono ?_⟩))))));rintro d x rfl;exact⟨_,rfl,_,rfl,(λh=>by cases h),λ_=>AV ⟨Aa _,dn'++[w],rest',_,_,by simp,rfl,rfl⟩⟩
   .rintro ls hd ⟨dn',rest',z6,z7,er,rfl,rfl⟩;exact⟨Aa _,dn++[k],rest,_,_,_,_,by simp,rfl,rfl⟩
 .rintro ls hd ⟨dn,rest,z4,z5,z6,z7,er,rfl,rfl⟩;exact A7 (AU (A9 rfl))
end T43
namespace L2
def Gm{F:FD}{m:MA}{ls:Ls}{hd:Hd}{QE:D->Hd->Prop}(h:WA m ls hd λds x=>Av 0 ds=true/\WF F ds [] λd _=>∃nm fs es,d=.op nm fs es/\Av 0 es=true/\QE d x):WE (A8 0 F m) ls hd QE:=by
 obtain⟨ds,x,e,c,d,y,e2,nm,fs,es,rfl,ce,q⟩:=h;refine⟨_,x,?_,q⟩;unfold A8;rw[e,bind_some];dsimp only;rw[if_pos ⟨zero_le _,c,by simp⟩,List.take_zero,e2,bind_some];unfold fin;dsimp only;rw[if_pos (by simp)];simp[clD,ce]
end L2
namespace Lt
def nmo(one other:Option Int):Bool:=match other with|none=>true|some y=>match one with|some x=>decide (x<=y)|none=>false
def KO{a b c:Option Int}(h:nmo a b=true)(k:nmo b c=true):nmo a c=true:=by
 cases c with
 |none=>rfl
 |some z=>cases b with
  |none=>simp[nmo]at k
  |some y=>cases a with
   |none=>simp[nmo]at h
   |some x=>simp[nmo]at h k ⊢;omega
def MF{a b c:Option Int}(h:nmo a b=true)(k:nmo a c=true):nmo a (comb b c)=true:=by
 cases c with
 |none=>cases b<;>exact h
 |some z=>cases b with
  |none=>exact k
  |some y=>
   show nmo a (if y<=z then some y else some z)=true;split
   .exact h
   .exact k
def nmo_of{a b c:Option Int}(h:nmo a (comb b c)=true):nmo a b=true/\nmo a c=true:=by
 cases c with
 |none=>cases b<;>exact⟨h,rfl⟩
 |some z=>cases b with
  |none=>exact⟨rfl,h⟩
  |some y=>
   have h:nmo a (if y<=z then some y else some z)=true:=h;cases a with
   |none=>split at h<;>simp[nmo]at h
   |some x=>
    split at h
    .simp[nmo]at h ⊢;omega
    .simp[nmo]at h ⊢;omega
def Oq{a b:Option Int}(l d:Int)(h:nmo a b=true):nmo (behind l d a) (behind l d b)=true:=by
 cases b with
 |none=>rfl
 |some y=>cases a with
  |none=>simp[nmo]at h
  |some x=>
   simp only[nmo,decide_eq_true_eq]at h;show nmo (if x+l<=d then some (x+l)else none) (if y+l<=d then some (y+l)else none)=true;by_cases q:y+l<=d
   .rw[if_pos q,if_pos (by omega)];simp[nmo];omega
   .rw[if_neg q];rfl
def DF(x:Wx)(f:Nat->Option Int)(w:Nat):Option Int:=if w<x.2.2 then none else behind x.1 x.2.1 (f (w-x.2.2))
def CG(N:Nat)(x:Wx)(f g:Nat->Option Int):Prop:=∀w,w<N->nmo (g w) (f w)=true/\nmo (g w) (DF x f w)=true
def rowOk_next{N:Nat}{x:Wx}{f g:Nat->Option Int}:CG N x f g↔∀w,w<N->nmo (g w) (Ad x f w)=true:=
 ⟨λh w hw=>MF (h w hw).1 (h w hw).2,λh w hw=>nmo_of (h w hw)⟩
def row_below{N:Nat}{x:Wx}{f g f':Nat->Option Int}(h:CG N x f g)(k:∀w,w<N->nmo (f w) (f' w)=true):∀w,w<N->nmo (g w) (Ad x f' w)=true:=λw hw=>by
 obtain⟨h1,h2⟩:=h w hw;refine MF (KO h1 (k w hw)) (KO h2 ?_);unfold DF;split
 .rfl
 .exact Oq _ _ (k _ (by omega))
end Lt
namespace T43
open PySem L2 Bd
open Lt (IsMin comb behind Ad sel AF Wx nmo DF CG)
def HA(a b:Option Int):nm a b=nmo a b:=by cases b<;>cases a<;>rfl
abbrev NoP(d:D):Prop:=∃es,d=.op "NoPaper" ["path","word"] es/\Av 0 es=true
inductive I_rowg(p:Wm)(N:Nat)(f g:Nat->Option Int)(i:I)(r:List D)(ls:Ls)(hd:Hd):Prop
 |mk (j:Nat) (z4 z5:Option D) (h0:j<=N) (h1:r=(((List.range' j (N-j)).map λw=>AW (g w)).zipIdx j).map enD) (h2:ls=[some (wmD p),some (.im (AI N f)),some (.im (AI N g)),some (.im i),z4,z5]) (h3:hd=[]) (h4:∀w,w<j->nmo (g w) (f w)=true/\nmo (g w) (DF (wx p) f w)=true):I_rowg p N f g i r ls hd
def UA{B c:Int}{p:Wm}(ok:okM B c p){N:Nat}(hN:N<=100){f g:Nat->Option Int}(hg:CG N (wx p) f g){i:I}:WF CD [wmD p,.im (AI N f),.im (AI N g),.im i] [] λd x=>d=.im .non:=by
 unfold CD;refine As rfl ?_;refine BL (Co (CM (A0 rfl ⟨(List.range' 0 (N-0)).map λw=>AW (g w),by rw[sub_zero,<- List.range_eq_range'];simp[AI],?_⟩)));change WP (Az _ _ _ ((((List.range' 0 (N-0)).map λw=>AW (g w)).zipIdx 0).map enD) [some (wmD p),some (.im (AI N f)),some (.im (AI N g)),some (.im i),none,none] []) _;refine BJ (I_rowg p N f g i) ⟨0,none,none,by omega,rfl,rfl,rfl,λw h=>by omega⟩ ?_ ?_
 .rintro d r ls hd ⟨j,z4,z5,hj,er,rfl,rfl,h4⟩;obtain⟨m,hm⟩:∃m,N-j=m+1:=by
   cases q:N-j with
   |zero=>rw[q]at er;cases er
   |succ m=>exact⟨m,rfl⟩
  rw[hm,List.range'_succ,map_cons,zipIdx_cons,map_cons]at er;obtain⟨rfl,rfl⟩:=List.cons.inj er;obtain⟨g1,g2⟩:=hg j (by omega);refine⟨[some (wmD p),some (.im (AI N f)),some (.im (AI N g)),some (.im i),some (.im (.int (j:Int))),some (AW (g j))],rfl,?_⟩;refine AA (Ae (CF (BV (AK (A2 (A0 rfl (A2 (A4 (A0 rfl (A0 rfl (AD rfl (Ck (by omega)) (A5 ⟨by simp,(Cw _ _).mono ?_⟩))))))))))));rintro d x rfl;refine⟨_,rfl,_,rfl,(λh=>?_),λ_=>AV (A7 ?_)⟩
  .rw[HA,g1]at h;cases h
  refine Ae (CF (BV (AK (A2 (A0 rfl (A2 (AK (A2 (A0 rfl (A2 (A0 rfl (A2 (A0 rfl (A5 ⟨by simp[wmI,AI],(Ol ok f (by omega)).mono ?_⟩))))))))))))));rintro d x rfl;refine⟨_,rfl,A5 ⟨by simp,(Cw _ _).mono ?_⟩⟩;rintro d x rfl;refine⟨_,rfl,_,rfl,(λh=>?_),λ_=>AV ⟨Aa _,j+1,_,_,by omega,by rw[show N-(j+1)=m by omega],rfl,rfl,λw hw=>hg w (by omega)⟩⟩;unfold DF at g2;rw[HA,g2]at h;cases h
 .rintro ls hd ⟨j,z4,z5,hj,er,rfl,rfl,h4⟩;rfl
def aG{B c:Int}{p:Wm}(ok:okM B c p){N:Nat}(hN:N<=100){f g:Nat->Option Int}(hg:¬ CG N (wx p) f g){is:List I}(h0:is≠[])(h1:is.length<=50):WF Cn [wmD p,.im (AI N f),.im (AI N g),.im (.tup is)] [] λd x=>NoP d:=by
 unfold Cn;refine LQ rfl ?_;refine BL (Co (CM (A0 rfl ⟨(List.range' 0 (N-0)).map λw=>AW (g w),by rw[sub_zero,<- List.range_eq_range'];simp[AI],?_⟩)));change WP (Az _ _ _ ((((List.range' 0 (N-0)).map λw=>AW (g w)).zipIdx 0).map enD) [some (wmD p),some (.im (AI N f)),some (.im (AI N g)),some (.im (.tup is)),none,none] []) _;refine BJ (I_rowg p N f g (.tup is)) ⟨0,none,none,by omega,rfl,rfl,rfl,λw h=>by omega⟩ ?_ ?_
 .rintro d r ls hd ⟨j,z4,z5,hj,er,rfl,rfl,h4⟩;obtain⟨m,hm⟩:∃m,N-j=m+1:=by
   cases q:N-j with
   |zero=>rw[q]at er;cases er
   |succ m=>exact⟨m,rfl⟩
  rw[hm,List.range'_succ,map_cons,zipIdx_cons,map_cons]at er;obtain⟨rfl,rfl⟩:=List.cons.inj er;refine⟨[some (wmD p),some (.im (AI N f)),some (.im (AI N g)),some (.im (.tup is)),some (.im (.int (j:Int))),some (AW (g j))],rfl,?_⟩;refine AA (Ae (CF (BV (AK (A2 (A0 rfl (A2 (A4 (A0 rfl (A0 rfl (AD rfl (Ck (by omega)) (A5 ⟨by simp,(Cw _ _).mono ?_⟩))))))))))));rintro d x rfl;refine⟨_,rfl,_,rfl,(λh=>?_),λg1=>Gi (AV ⟨(λd=>by intro q;cases q),A7 ?_⟩)⟩
  .exact IL (A2 (A4 (A0 rfl (Am (A2 (A0 rfl (A5 ⟨BC,DB h0 (by simp;omega) (A2 (A9 (A5 ⟨rfl,_,rfl,_,rfl,by simp⟩)))⟩)))))))
  refine Ae (CF (BV (AK (A2 (A0 rfl (A2 (AK (A2 (A0 rfl (A2 (A0 rfl (A2 (A0 rfl (A5 ⟨by simp[wmI,AI],(Ol ok f (by omega)).mono ?_⟩))))))))))))));rintro d x rfl;refine⟨_,rfl,A5 ⟨by simp,(Cw _ _).mono ?_⟩⟩;rintro d x rfl;refine⟨_,rfl,_,rfl,(λh=>?_),λg2=>Gi (AV ⟨(λd=>by intro q;cases q),Aa _,j+1,_,_,by omega,by rw[show N-(j+1)=m by omega],rfl,rfl,λw hw=>?_⟩)⟩
  .exact IL (A2 (A4 (A0 rfl (Am (A2 (A0 rfl (A5 ⟨BC,DB h0 (by simp;omega) (A2 (A9 (A5 ⟨rfl,_,rfl,_,rfl,by simp⟩)))⟩)))))))
  .by_cases e:w=j
   .subst e;rw[HA]at g1 g2;exact⟨by simpa using g1,by unfold DF;simpa using g2⟩
   .exact h4 w (by omega)
 .rintro ls hd ⟨j,z4,z5,hj,er,rfl,rfl,h4⟩;refine absurd (λw hw=>h4 w ?_) hg;have:N-j=0:=by
   cases q:N-j with
   |zero=>rfl
   |succ m=>rw[q,List.range'_succ]at er;cases er
  omega
open Lt (IsMin comb behind Ad sel AF Wx nmo DF CG)
def C5(c:Int)(ws:List Wm)(N:Nat)(g:Nat->Nat->Option Int)(n:Nat):Prop:=nmo (g 0 0) (some c)=true/\∀k x,k<n->(wxs ws)[k]?=some x->CG N x (g k) (g (k+1))
inductive I_plg(c:Int)(ws:List Wm)(N:Nat)(g:Nat->Nat->Option Int)(r:List D)(ls:Ls)(hd:Hd):Prop
 |mk (dn rest:List Int) (z3 z4:Option D) (h0:B0 ws=dn++rest) (h1:r=((Aq rest).zipIdx dn.length).map (λq=>Ag [.im (.int ((q.2:Int)+1)),q.1])) (h2:ls=[some (.im (AQ ws)),some (.im (AZ ws.length N g)),some (.im (.tup [])),z3,z4]) (h3:hd=[.lst (Aq (B0 ws))]) (h4:C5 c ws N g dn.length):I_plg c ws N g r ls hd
def OD{ws:List Wm}{dn rest:List Int}{k:Nat}(hk:k<ws.length)(e1:B0 ws=dn++(k:Int)::rest):(wxs ws)[dn.length]?=some (wx ws[k]):=by
 unfold wxs;rw[e1,List.getElem?_map,List.getElem?_append_right (le_refl _)];simp[hk]
def Jt{c:Int}{ws:List Wm}{N:Nat}{g:Nat->Nat->Option Int}{n:Nat}{x:Wx}(h:C5 c ws N g n)(hx:(wxs ws)[n]?=some x)(r:CG N x (g n) (g (n+1))):C5 c ws N g (n+1):=⟨h.1,λk y hk hy=>by
 by_cases e:k=n
 .subst e;rw[hx]at hy;cases hy;exact r
 .exact h.2 k y (by omega) hy⟩
def T5{B c:Int}{ws:List Wm}(ok:BS B c ws)(hB:B<=2000){N:Nat}(hN:N<=100)(h0:0<N){g:Nat->Nat->Option Int}(hg:C5 c ws N g ws.length):WF Ba [.im (AQ ws),.im (AZ ws.length N g),.im (.tup [])] [] λd x=>d=.im .non:=by
 have hl8:=ok.2.1;unfold Ba;refine As rfl ?_;refine AA (Ae (CF (BV (AK (A2 (A4 (A4 (A0 rfl (A9 (AD rfl (BA (k:=0) (by omega)) (A9 (AD rfl (Ck (w:=0) h0) (A2 (AK (A2 (A0 rfl (A5 ⟨by simp,(HK ok).mono ?_⟩)))))))))))))))));rintro d x rfl;refine⟨_,rfl,A5 ⟨by simp,(Cw (g 0 0) (some c)).mono ?_⟩⟩;rintro d x rfl;refine⟨_,rfl,_,rfl,(λh=>?_),λ_=>AV (A7 ?_)⟩
 .rw[HA,hg.1]at h;cases h
 refine BL (LP (EW (EJ (A2 (A0 rfl (A5 ⟨[],[],rfl,rfl,by simp,rfl,(Ha ok hB).mono ?_⟩))))));rintro d x ⟨rfl,rfl⟩;refine⟨0,_,[],_,rfl,le_refl _,rfl,rfl,rfl,rfl,Dd _ _,0,Aq (B0 ws),rfl,rfl,?_⟩;refine BJ (I_plg c ws N g) ⟨[],B0 ws,none,none,rfl,rfl,rfl,rfl,hg.1,λk x h=>absurd h (not_lt_zero _)⟩ ?_ ?_
 .rintro d r ls hd ⟨dn,rest,z3,z4,e1,er,rfl,rfl,h4⟩;cases rest with
  |nil=>cases er
  |cons i rest=>
   rw[show Aq (i::rest)=.im (.int i)::Aq rest from rfl,zipIdx_cons,map_cons]at er;obtain⟨rfl,rfl⟩:=List.cons.inj er;obtain⟨k,hk,rfl⟩:=Fp (ws:=ws) (i:=i) (by rw[e1];simp);have hle:dn.length<ws.length:=by have:=CN ws;rw[e1]at this;simp at this;omega
   have ex:=OD hk e1;have hr:=hg.2 _ _ hle ex;refine⟨[some (.im (AQ ws)),some (.im (AZ ws.length N g)),some (.im (.tup [])),some (.im (.int ((dn.length:Int)+1))),some (.im (.int (k:Int)))],rfl,?_⟩;refine Be (AK (A2 (A4 (A0 rfl (A0 rfl (AD (by rw[Cj,BO]) (DM hk) (A2 (A4 (A0 rfl (A4 (A0 rfl (A9 (B6 ?_)))))))))))));rw[show(dn.length:Int)+1-1=(dn.length:Int) by omega];refine AD rfl (BA (by omega)) (A2 (A4 (A0 rfl (A0 rfl ?_))));rw[show(dn.length:Int)+1=((dn.length+1:Nat):Int) by omega];refine AD rfl (BA (by omega)) (A2 (A4 (A0 rfl (Am (A2 (A0 rfl (A5 ⟨BC,?_⟩)))))));rw[Hm];refine D9 (by simp) (A5 ⟨by simp[wmI,AI],?_⟩);refine(UA (ok.2.2.2 _ (List.getElem_mem hk)) hN hr).mono ?_;rintro d x rfl;exact⟨_,rfl,by intro q hq;rw[mem_singleton]at hq;subst hq;rfl,dn++[(k:Int)],rest,_,_,by rw[e1];simp,by simp,rfl,rfl,by simpa using Jt h4 ex hr⟩
 .rintro ls hd ⟨dn,rest,z3,z4,e1,er,rfl,rfl,h4⟩;rfl
def T4{B c:Int}{ws:List Wm}(ok:BS B c ws)(hB:B<=2000){N:Nat}(hN:N<=100)(h0:0<N){g:Nat->Nat->Option Int}(hg:¬ C5 c ws N g ws.length):WF C1 [.im (AQ ws),.im (AZ ws.length N g),.im (.tup [])] [] λd x=>NoP d:=by
 have hl8:=ok.2.1;unfold C1;refine LQ rfl ?_;refine AA (Ae (CF (BV (AK (A2 (A4 (A4 (A0 rfl (A9 (AD rfl (BA (k:=0) (by omega)) (A9 (AD rfl (Ck (w:=0) h0) (A2 (AK (A2 (A0 rfl (A5 ⟨by simp,(HK ok).mono ?_⟩)))))))))))))))));rintro d x rfl;refine⟨_,rfl,A5 ⟨by simp,(Cw (g 0 0) (some c)).mono ?_⟩⟩;rintro d x rfl;refine⟨_,rfl,_,rfl,(λh=>?_),λg0=>Gi (AV ⟨(λd=>by intro q;cases q),A7 ?_⟩)⟩
 .exact IL (A2 (A4 (A0 rfl (Am (A2 (A9 (A2 (A9 (A5 ⟨HP,D9 (js:=[.int 0,.int 0]) (by simp) (A2 (A9 (A5 ⟨rfl,_,rfl,_,rfl,by simp⟩)))⟩)))))))))
 rw[HA]at g0;refine BL (LP (EW (EJ (A2 (A0 rfl (A5 ⟨[],[],rfl,rfl,by simp,rfl,(Ha ok hB).mono ?_⟩))))));rintro d x ⟨rfl,rfl⟩;refine⟨0,_,[],_,rfl,le_refl _,rfl,rfl,rfl,rfl,Dd _ _,0,Aq (B0 ws),rfl,rfl,?_⟩;refine BJ (I_plg c ws N g) ⟨[],B0 ws,none,none,rfl,rfl,rfl,rfl,by simpa using g0,λk x h=>absurd h (not_lt_zero _)⟩ ?_ ?_
 .rintro d r ls hd ⟨dn,rest,z3,z4,e1,er,rfl,rfl,h4⟩;cases rest with
  |nil=>cases er
  |cons i rest=>
   rw[show Aq (i::rest)=.im (.int i)::Aq rest from rfl,zipIdx_cons,map_cons]at er;obtain⟨rfl,rfl⟩:=List.cons.inj er;obtain⟨k,hk,rfl⟩:=Fp (ws:=ws) (i:=i) (by rw[e1];simp);have hle:dn.length<ws.length:=by have:=CN ws;rw[e1]at this;simp at this;omega
   have ex:=OD hk e1;refine⟨[some (.im (AQ ws)),some (.im (AZ ws.length N g)),some (.im (.tup [])),some (.im (.int ((dn.length:Int)+1))),some (.im (.int (k:Int)))],rfl,?_⟩;by_cases hr:CG N (wx ws[k]) (g dn.length) (g (dn.length+1))
   .refine NH (Be (AK (A2 (A4 (A0 rfl (A0 rfl (AD (by rw[Cj,BO]) (DM hk) (A2 (A4 (A0 rfl (A4 (A0 rfl (A9 (B6 ?_))))))))))))));rw[show(dn.length:Int)+1-1=(dn.length:Int) by omega];refine AD rfl (BA (by omega)) (A2 (A4 (A0 rfl (A0 rfl ?_))));rw[show(dn.length:Int)+1=((dn.length+1:Nat):Int) by omega];refine AD rfl (BA (by omega)) (A2 (A4 (A0 rfl (Am (A2 (A0 rfl (A5 ⟨BC,?_⟩)))))));rw[Hm];refine D9 (by simp) (A5 ⟨by simp[wmI,AI],?_⟩);refine(UA (ok.2.2.2 _ (List.getElem_mem hk)) hN hr).mono ?_;rintro d x rfl;exact⟨_,rfl,(λd=>by intro q;cases q),by intro q hq;rw[mem_singleton]at hq;subst hq;rfl,dn++[(k:Int)],rest,_,_,by rw[e1];simp,by simp,rfl,rfl,by simpa using Jt h4 ex hr⟩
   .refine Jb (Fx (DX Fw)) (AU (Gm (A2 (A4 (A0 rfl (A0 rfl (AD (by rw[Cj,BO]) (DM hk) (A2 (A4 (A0 rfl (A4 (A0 rfl (A9 (B6 ?_))))))))))))));rw[show(dn.length:Int)+1-1=(dn.length:Int) by omega];refine AD rfl (BA (by omega)) (A2 (A4 (A0 rfl (A0 rfl ?_))));rw[show(dn.length:Int)+1=((dn.length+1:Nat):Int) by omega];refine AD rfl (BA (by omega)) (A2 (A4 (A0 rfl (Am (A2 (A0 rfl (A5 ⟨BC,?_⟩)))))));rw[Hm];refine D9 (by simp) (A5 ⟨by simp[wmI,AI],?_⟩);refine(aG (ok.2.2.2 _ (List.getElem_mem hk)) hN hr (by simp) (by simp)).mono ?_;rintro d x ⟨es,rfl,ce⟩;exact⟨_,_,es,rfl,ce,_,rfl,_,rfl,es,rfl,ce⟩
 .rintro ls hd ⟨dn,rest,z3,z4,e1,er,rfl,rfl,h4⟩;cases rest with
  |cons i rest=>cases er
  |nil=>
   refine absurd ?_ hg;have:=CN ws;rw[e1,append_nil]at this;rw[<- this];exact h4
def ZU{B c:Int}{ws:List Wm}(ok:BS B c ws)(hB:B<=2000){N:Nat}(eN:N=(AH ws).toNat+1){g:Nat->Nat->Option Int}(hg:C5 c ws N g ws.length){m:Nat}(hm:m<N)(h1:(g ws.length m).isSome=true)(h2:∀w,(g ws.length w).isSome=true->w<=m):WF CT [.im (AQ ws),.im (AZ ws.length N g)] [] λd x=>d=.im (.int (AH ws-m)):=by
 have hf:=DZ ok;subst eN;have hcl:∀f:Nat->Nat->Option Int,Av 0 [D.im (AQ ws),.im (AZ ws.length ((AH ws).toNat+1) f),.im (.tup [])]=true:=λf=>by simp
 unfold CT;refine As rfl ?_;refine AA (Be (AK (A2 (A0 rfl (A5 ⟨by simp,(HK ok).mono ?_⟩)))));rintro d x rfl;refine⟨_,rfl,A7 ?_⟩;refine AA (Be (AK (A2 (A0 rfl (A2 (A0 rfl (A2 (Am (A5 ⟨Dr,A5 ⟨hcl _,(NP ok rfl (by omega) _).mono ?_⟩⟩)))))))));rintro d x rfl;refine⟨_,rfl,A7 ?_⟩;refine AA (Be (AK (A2 (A0 rfl (A2 (A0 rfl (A2 (Am (A5 ⟨Dr,A5 ⟨hcl _,(T5 ok hB (by omega) (by omega) hg).mono ?_⟩⟩)))))))));rintro d x rfl;refine⟨_,rfl,A7 ?_⟩;refine AU (A4 (AK (A2 (A0 rfl (A5 ⟨by simp,(Md ok).mono ?_⟩)))));rintro d x rfl;refine⟨_,rfl,AK (A2 (A0 rfl (A5 ⟨by simp,(JN (by omega) (by omega) h1 h2).mono ?_⟩)))⟩;rintro d x rfl;exact⟨_,rfl,B6 rfl⟩
def ZT{B c:Int}{ws:List Wm}(ok:BS B c ws)(hB:B<=2000){N:Nat}(eN:N=(AH ws).toNat+1){g:Nat->Nat->Option Int}(hg:¬ C5 c ws N g ws.length):WF D7 [.im (AQ ws),.im (AZ ws.length N g)] [] λd x=>NoP d:=by
 have hf:=DZ ok;subst eN;have hcl:∀f:Nat->Nat->Option Int,Av 0 [D.im (AQ ws),.im (AZ ws.length ((AH ws).toNat+1) f),.im (.tup [])]=true:=λf=>by simp
 unfold D7;refine LQ rfl ?_;refine AA (Gi (Be (AK (A2 (A0 rfl (A5 ⟨by simp,(HK ok).mono ?_⟩))))));rintro d x rfl;refine⟨_,rfl,(λd=>by intro q;cases q),A7 ?_⟩;refine AA (NH (Be (AK (A2 (A0 rfl (A2 (A0 rfl (A2 (Am (A5 ⟨Dr,A5 ⟨hcl _,(NP ok rfl (by omega) _).mono ?_⟩⟩))))))))));rintro d x rfl;refine⟨_,rfl,(λd=>by intro q;cases q),A7 ?_⟩;refine AA (Jb (Fx (DX Ei)) (AU (Gm (A2 (A0 rfl (A2 (A0 rfl (A2 (Am (A5 ⟨Dr,A5 ⟨hcl _,(T4 ok hB (by omega) (by omega) hg).mono ?_⟩⟩))))))))));rintro d x ⟨es,rfl,ce⟩;exact⟨_,_,es,rfl,ce,_,rfl,IN ⟨_,rfl,es,rfl,ce⟩⟩
def aw{B c:Int}{ws:List Wm}(ok:BS B c ws)(hB:B<=2000){N:Nat}(eN:N=(AH ws).toNat+1){g:Nat->Nat->Option Int}(hs:C5 c ws N g ws.length->∃m,m<N/\(g ws.length m).isSome=true/\∀w,(g ws.length w).isSome=true->w<=m):
 WF JZ [.im (AQ ws),.im (AZ ws.length N g)] [] λd x=>(C5 c ws N g ws.length/\∃m,m<N/\(g ws.length m).isSome=true/\(∀w,(g ws.length w).isSome=true->w<=m)/\d=.im (.tup [.str "told",.int (AH ws-m)]))∨(¬ C5 c ws N g ws.length/\d=.im (.tup [.str "no"])):=by
 have hcl:Av 0 [D.im (AQ ws),.im (AZ ws.length N g)]=true:=by simp
 unfold JZ;refine As rfl ?_;refine AA (AN (Am (A2 (A9 (A5 ⟨BC,A7 ?_⟩)))));by_cases hg:C5 c ws N g ws.length
 .obtain⟨m,hm,h1,h2⟩:=hs hg;refine AA (Ry (AN (Am (A2 (A9 (A2 (AK (A2 (A0 rfl (A2 (A0 rfl (A5 ⟨hcl,(ZU ok hB eN hg hm h1 h2).mono ?_⟩))))))))))));rintro d x rfl;exact⟨_,rfl,A5 ⟨HP,A7 (AU (A0 rfl (.inl ⟨hg,m,hm,h1,h2,rfl⟩)))⟩⟩
 .refine AA (Rx (JQ (RU (O2 (KY (Mm (DX Gh)))))) (Jb (RU (O2 (KY (Mm (DX Gh))))) (AU (Ug (A9 (Gm (A2 (A0 rfl (A2 (A0 rfl (A5 ⟨hcl,(ZT ok hB eN hg).mono ?_⟩)))))))))));rintro d x ⟨es,rfl,ce⟩;refine⟨_,_,es,rfl,ce,_,rfl,_,_,es,rfl,by simp,?_⟩;refine AN (Am (A2 (A9 (A5 ⟨BC,_,rfl,A7 ?_⟩))));exact AU (A0 rfl (.inr ⟨hg,rfl⟩))
open Lt (IsMin comb behind Ad sel AF Wx nmo DF CG)
def DS{n:Nat}{m:MA}{ls:Ls}{hd:Hd}{QE:D->Hd->Prop}(h:WA m ls hd λds x=>∃(a b:MO) (rest:Hd) (many:Int),x=a::b::rest/\ds=[.mu 1,.im (.int many)]/\T (n+1) a b/\0<many/\many<1073741824/\∀r a' b',T n a' b'->0<=r->r<many->QE (.im (.int r)) (a'::b'::rest)):WE (A8 2 Ah m) ls hd QE:=by
 obtain⟨ds,x,e,a,b,rest,many,rfl,rfl,hT,h0,h1,k⟩:=h;exact tap.draw hT e h0 h1 k
def EG{n c:Nat}{F:FD}{R:I->Prop}{m:MA}{ls:Ls}{hd:Hd}{QE:D->Hd->Prop}(h:WA m ls hd λds x=>∃(a b:MO) (rest:Hd) (as:List D),x=a::b::rest/\ds=.mu 1::as/\T (n+c) a b/\Av 2 as=true/\(∀a b,T (n+c) a b->WF F (.mu 1::as) [a,b] λd x=>∃i a' b' g,d=.im i/\R i/\T n a' b'/\x=a'::b'::g)/\∀i a' b',T n a' b'->R i->QE (.im i) (a'::b'::rest)):WE (A8 2 F m) ls hd QE:=by
 obtain⟨ds,x,e,a,b,rest,as,rfl,rfl,hT,hc,hF,k⟩:=h;exact tap.call hT e hc hF k
def R8(n:Nat){much:Int}(h0:0<=much)(h1:much<=100)(o:Option Int):∀a b,T (n+2) a b->WF Hg [.mu 1,AW o,.im (.int much)] [a,b] λd x=>∃i a' b' g,d=.im i/\(∃o',i=Ai o'/\nmo o' o=true)/\T n a' b'/\x=a'::b'::g:=by
 intro a b hT;have rf:nmo o o=true:=by cases o<;>simp[nmo]
 unfold Hg;refine As rfl ?_;refine AA (Ae (FK (AO (A4 (A0 rfl (A9 (EI ⟨_,rfl,?_⟩)))))));split
 .exact⟨λ_=>AU (A0 rfl ⟨_,a,b,[],rfl,⟨o,rfl,rf⟩,tap.le hT (by omega),rfl⟩),λh=>by cases h⟩
 refine AO (A4 (DS (n:=n+1) (A2 (A0 rfl (A2 (A9 (A5 ⟨a,b,[],3,rfl,rfl,hT,by decide,by decide,λr a b hT p q=>A9 (Im ⟨_,rfl,λ_=>?_,λ_=>AV (A7 ?_)⟩)⟩)))))))
 .exact AU (A0 rfl ⟨_,a,b,[],rfl,⟨o,rfl,rf⟩,tap.le hT (by omega),rfl⟩)
 refine AA (Ae (AO (Bp (A0 rfl ⟨o,rfl,_,rfl,λh=>?_,λh=>AV (A7 ?_)⟩))))
 .refine AU (A4 (DS (n:=n) (A2 (A0 rfl (A2 (A9 (A5 ⟨a,b,[],300,rfl,rfl,hT,by decide,by decide,λr a b hT p q=>A9 (B6 ?_)⟩)))))));cases o with
  |none=>exact⟨_,a,b,[],rfl,⟨some (r-50),rfl,rfl⟩,hT,rfl⟩
  |some x=>simp at h
 .cases o with
  |none=>simp at h
  |some x=>
   refine AU (A4 (A0 rfl (DS (n:=n) (A2 (A0 rfl (A2 (A4 (A0 rfl (A9 (Ar (A5 ⟨a,b,[],much+1,rfl,rfl,hT,by omega,by omega,λr a b hT p q=>B6 ?_⟩)))))))))));exact⟨_,a,b,[],rfl,⟨some (x-r),rfl,by simp[nmo];omega⟩,hT,rfl⟩
def at4{r:Int}(h0:0<=r)(h1:r<4)(x y z w:D):∃d,((d=x/\r=0)∨(d=y/\r=1)∨(d=z/\r=2)∨(d=w/\r=3))/\atI [x,y,z,w] r=some d:=by
 obtain⟨k,rfl⟩:∃k:Nat,r=(k:Int):=⟨r.toNat,by omega⟩
 have:k<4:=by omega
 match k,this with
 |0,_=>exact⟨x,.inl ⟨rfl,rfl⟩,rfl⟩
 |1,_=>exact⟨y,.inr (.inl ⟨rfl,rfl⟩),rfl⟩
 |2,_=>exact⟨z,.inr (.inr (.inl ⟨rfl,rfl⟩)),rfl⟩
 |3,_=>exact⟨w,.inr (.inr (.inr ⟨rfl,rfl⟩)),rfl⟩
def NT(l d k:Nat):HT.sIx l d (some (k:Int))=min k l:=by
 unfold HT.sIx;have h:¬ ((k:Int)<0):=by omega
 simp[h]
def Tl(xs:List D)(k:Nat):DG xs none (some (k:Int))=xs.take k:=by
 unfold DG;rw[NT,show HT.sIx xs.length 0 none=0 from rfl,List.drop_zero,sub_zero,<- List.take_eq_take_min]
def Tm(xs:List D)(k:Nat):DG xs (some (k:Int)) none=xs.drop k:=by
 unfold DG;rw[NT,show HT.sIx xs.length xs.length none=xs.length from rfl,List.take_of_length_le (by simp)];by_cases h:k<=xs.length
 .rw[Nat.min_eq_left h]
 .rw[Nat.min_eq_right (by omega),List.drop_of_length_le (le_refl _),List.drop_of_length_le (by omega)]
section
variable{ls:Ls}{hd:Hd}{QE:D->Hd->Prop}{j k:Nat}{is:List I}{me:ME}
def Iz(h:WE me ls hd λd x=>d=.im (.tup is)/\x=hd)(h2:ls[j]?=some (some (.im (.int (k:Int)))))(hk:k<=is.length)(q:QE (.im (.tup (is.take k))) hd):WE (E6 me Bt (DC (A1 j))) ls hd QE:=by
 refine Pi (h.mono ?_);rintro d x ⟨rfl,rfl⟩;refine U1 (NI (A0 h2 ⟨_,rfl,is.map D.im,rfl,?_⟩));rw[Tl,<- List.map_take,Bi];exact q
def Gq(h:WE me ls hd λd x=>d=.im (.tup is)/\x=hd)(h2:ls[j]?=some (some (.im (.int (k:Int)))))(q:QE (.im (.tup (is.drop (k+1)))) hd):WE (E6 me (DC (mOp AS (A1 j) (mC (.int 1)))) Bt) ls hd QE:=by
 refine Pi (h.mono ?_);rintro d x ⟨rfl,rfl⟩;refine NI (A4 (A0 h2 (A9 (Ar ⟨_,rfl,U1 ⟨is.map D.im,rfl,?_⟩⟩))));rw[show(k:Int)+1=((k+1:Nat):Int) by omega,Tm,<- List.map_drop,Bi];exact q
end
def Gx{α:Type}{xs:List α}{k:Nat}(x:α)(hk:k<xs.length):xs.take k++[x]++xs.drop (k+1)=xs.set k x:=by
 rw[List.set_eq_take_append_cons_drop,if_pos hk];simp
open Lt (IsMin comb behind Ad sel AF Wx nmo DF CG)
def Qj(n:Nat){B c:Int}{ws:List Wm}(ok:BS B c ws)(hB:500<=B):∀a b,T (n+2) a b->WF Hf [.mu 1,.im (AQ ws)] [a,b] λd x=>∃i a' b' g,d=.im i/\(∃us,i=AQ us/\BS (B+1) c us/\us.length=ws.length/\us.map Wm.wt=ws.map Wm.wt)/\T n a' b'/\x=a'::b'::g:=by
 intro a b hT;have hl8:=ok.2.1;have hl1:0<ws.length:=List.length_pos_iff.mpr ok.1;unfold Hf;refine As rfl ?_;refine AA (AN (DS (n:=n+1) (A2 (A0 rfl (A2 (BD (A2 (A0 rfl (A5 (Bf (ds:=(ws.map wmI).map D.im) rfl rfl (A5 ⟨a,b,[],(((ws.map wmI).map D.im).length:Int),rfl,rfl,hT,by simp;omega,by simp;omega,λr a b hT p q=>A7 ?_⟩)))))))))));rw[length_map,length_map]at q;obtain⟨j,rfl⟩:∃j:Nat,r=(j:Int):=⟨r.toNat,by omega⟩
 have hj:j<ws.length:=by omega
 refine AA (AN (DS (n:=n) (A2 (A0 rfl (A2 (A9 (A5 ⟨a,b,[],4,rfl,rfl,hT,by decide,by decide,λway a b hT p1 q1=>A7 ?_⟩)))))));refine AA (Ij (A4 (A0 rfl (A0 rfl (AD (by rw[Cj,BO]) (DM hj) ⟨_,rfl,A7 ?_⟩)))));obtain⟨okl,okc,okd,okw⟩:=ok.2.2.2 _ (List.getElem_mem hj);generalize eW:ws[j]=W at okl okc okd okw;refine AA (AN (Ff (Bc (A2 (BD (A2 (A9 (A2 (A4 (A0 rfl (A9 (Ar (A5 (Jc ?_))))))))))))));refine A2 (BD (A2 (A9 (A2 (A4 (A0 rfl (A9 (B6 (A5 (Jd ?_))))))))));obtain⟨d,hd,ed⟩:=at4 p1 q1 (.im (.int (min 20 (W.len+1)))) (.im (.int (max 1 (W.len-1)))) (.im (.int W.len)) (.im (.int W.len));obtain⟨ln,rfl,hl⟩:∃ln:Int,d=.im (.int ln)/\1<=ln/\ln<=20:=by
  rcases hd with⟨rfl,_⟩|⟨rfl,_⟩|⟨rfl,_⟩|⟨rfl,_⟩
  .exact⟨_,rfl,by omega,by omega⟩
  .exact⟨_,rfl,by omega,by omega⟩
  .exact⟨_,rfl,okl⟩
  .exact⟨_,rfl,okl⟩
 refine A2 (A0 rfl (A2 (A0 rfl (A5 ⟨Ab (by simp),A0 rfl ⟨way,_,rfl,ed,A7 ?_⟩⟩))));refine AA (AN (Ff (Bc (A2 (A4 (A0 rfl (A9 (AD rfl (Cg (k:=1) rfl rfl) (A2 (A4 (A0 rfl (A9 (AD rfl (Cg (k:=1) rfl rfl) ?_)))))))))))));refine A2 (BD (A2 (A9 (A2 (A4 (A4 (A0 rfl (A9 (AD rfl (Cg (k:=1) rfl rfl) (A9 (Ar (A5 (Jc ?_)))))))))))));refine A2 (BD (A2 (Gk (A9 ⟨_,rfl,A2 (A4 (A4 (A0 rfl (A9 (AD rfl (Cg (k:=1) rfl rfl) (A9 (B6 (A5 (Jd ?_)))))))))⟩))));obtain⟨d,hd,ed⟩:=at4 p1 q1 (.im (.int W.due)) (.im (.int W.due)) (.im (.int (min 400 (W.due+1)))) (.im (.int (max (-99) (W.due-1))));obtain⟨du,rfl,hdu⟩:∃du:Int,d=.im (.int du)/\-(B+1)<=du/\du<=B+1:=by
  rcases hd with⟨rfl,_⟩|⟨rfl,_⟩|⟨rfl,_⟩|⟨rfl,_⟩
  .exact⟨_,rfl,by omega,by omega⟩
  .exact⟨_,rfl,by omega,by omega⟩
  .exact⟨_,rfl,by omega,by omega⟩
  .exact⟨_,rfl,by omega,by omega⟩
 refine A5 ⟨Ab (by simp),A0 rfl ⟨way,_,rfl,ed,A7 ?_⟩⟩;have lt1:((ws.map wmI).take j).length<=8:=by rw[length_take,length_map];omega
 have lt2:((ws.map wmI).drop (j+1)).length<=8:=by rw[length_drop,length_map];omega
 refine AU (A4 (A4 (Iz (is:=ws.map wmI) (j:=2) (k:=j) (A0 rfl ⟨rfl,rfl⟩) rfl (by simp;omega) (Am (A2 (Am (A2 (A0 rfl (A2 (A0 rfl (A2 (Am (A2 (A9 (A2 (A0 rfl (A2 (A4 (A0 rfl (A9 (AD rfl (Cg (k:=2) rfl rfl) (A5 ⟨Dq,A5 ⟨Dq,A5 ⟨BC,?_⟩⟩⟩))))))))))))))))))))));refine D9 (js:=[.tup [.int ln,.int W.com,.tup [.str "miss",.int du,.int W.wt]]]) (by simp only[List.length_singleton];omega) (Gq (is:=ws.map wmI) (j:=2) (k:=j) (A0 rfl ⟨rfl,rfl⟩) rfl (DB (by simp) (by rw[length_append,List.length_singleton];omega) ?_));rw[Gx _ (by simpa using hj)];refine⟨_,a,b,[],rfl,⟨ws.set j ⟨ln,W.com,du,W.wt⟩,?_,⟨?_,by simpa using hl8,ok.2.2.1,λw hw=>?_⟩,by simp,?_⟩,hT,rfl⟩
 .show I.tup _=I.tup _;rw[List.map_set];rfl
 .intro q;have:=congrArg List.length q;simp at this;exact ok.1 this
 .rcases List.mem_or_eq_of_mem_set hw with h|rfl
  .obtain⟨a1,a2,a3,a4⟩:=ok.2.2.2 w h;exact⟨a1,a2,⟨by omega,by omega⟩,a4⟩
  .exact⟨hl,okc,hdu,okw⟩
 .rw[List.map_set];refine ext_getElem (by simp) λi h1 h2=>?_;rw[List.getElem_set];split
  .next e=>subst e;simp[eW]
  .rfl
def O1{us ws:List Wm}(h:us.map Wm.wt=ws.map Wm.wt):AH us=AH ws:=by unfold AH;rw[h]
def at5{r:Int}(h0:0<=r)(h1:r<5)(x y z w v:Option Int):∃o,atI [AW x,AW y,AW z,AW w,AW v] r=some (AW o):=by
 obtain⟨k,rfl⟩:∃k:Nat,r=(k:Int):=⟨r.toNat,by omega⟩
 have:k<5:=by omega
 match k,this with
 |0,_=>exact⟨x,rfl⟩
 |1,_=>exact⟨y,rfl⟩
 |2,_=>exact⟨z,rfl⟩
 |3,_=>exact⟨w,rfl⟩
 |4,_=>exact⟨v,rfl⟩
def S8{n N:Nat}{g:Nat->Nat->Option Int}{k:Nat}(hk:k<n+1):∃k',atI (((List.range (n+1)).map λk=>AI N (g k)).map D.im) ((k:Int)-1)=some (.im (AI N (g k'))):=by
 cases k with
 |zero=>
  refine⟨n,?_⟩;rw[map_map,range_succ,map_append];exact GU _ _
 |succ k=>exact⟨k,by rw[show((k+1:Nat):Int)-1=(k:Int) by omega];exact BA (by omega)⟩
def NL{n N:Nat}{g:Nat->Nat->Option Int}{k w:Nat}(hk:k<n+1)(hw:w<N)(o:Option Int):I.tup (((List.range (n+1)).map λk=>AI N (g k)).set k (.tup (((List.range N).map λw=>Ai (g k w)).set w (Ai o))))=AZ n N λk' w'=>if k'=k/\w'=w then o else g k' w':=by
 unfold AZ
 congr 1
 refine ext_getElem (by simp) λi h1 h2=>?_;rw[List.getElem_set];simp only[List.getElem_map,List.getElem_range];split
 .next e=>
  subst e;unfold AI
  congr 1
  refine ext_getElem (by simp) λj h3 h4=>?_;rw[List.getElem_set];simp only[List.getElem_map,List.getElem_range];split
  .next e=>subst e;simp
  .next e=>rw[if_neg (λz=>e z.2.symm)]
 .next e=>
  unfold AI
  congr 1
  refine ext_getElem (by simp) λj h3 h4=>?_;simp only[List.getElem_map,List.getElem_range];rw[if_neg (λz=>e z.1.symm)]
def Pq(m:Nat){n N:Nat}(hn:n<=8)(hN:N<=100)(h0:0<N)(g:Nat->Nat->Option Int):∀a b,T (m+3) a b->WF D8 [.mu 1,.im (AZ n N g)] [a,b] λd x=>∃i a' b' y,d=.im i/\(∃g',i=AZ n N g')/\T m a' b'/\x=a'::b'::y:=by
 intro a b hT;unfold D8;refine As rfl ?_;have lt:(((List.range (n+1)).map λk=>AI N (g k)).map D.im).length=n+1:=by simp
 refine AA (AN (DS (n:=m+2) (A2 (A0 rfl (A2 (BD (A2 (A0 rfl (A5 (Bf (ds:=((List.range (n+1)).map λk=>AI N (g k)).map D.im) rfl rfl (A5 ⟨a,b,[],((((List.range (n+1)).map λk=>AI N (g k)).map D.im).length:Int),rfl,rfl,hT,by omega,by omega,λr a b hT p q=>A7 ?_⟩)))))))))));obtain⟨k,rfl⟩:∃k:Nat,r=(k:Int):=⟨r.toNat,by omega⟩
 have hk:k<n+1:=by omega
 have lr:(((List.range N).map λw=>Ai (g k w)).map D.im).length=N:=by simp
 refine AA (AN (DS (n:=m+1) (A2 (A0 rfl (A2 (BD (A2 (A4 (A0 rfl (A0 rfl (AD rfl (BA hk) (A5 (Bf (ds:=((List.range N).map λw=>Ai (g k w)).map D.im) rfl rfl (A5 ⟨a,b,[],((((List.range N).map λw=>Ai (g k w)).map D.im).length:Int),rfl,rfl,hT,by omega,by omega,λr a b hT p1 q1=>A7 ?_⟩))))))))))))));obtain⟨w,rfl⟩:∃w:Nat,r=(w:Int):=⟨r.toNat,by omega⟩
 have hw:w<N:=by omega
 refine AA (AN (DS (n:=m) (A2 (A0 rfl (A2 (A9 (A5 ⟨a,b,[],5,rfl,rfl,hT,by decide,by decide,λst a b hT p2 q2=>A7 ?_⟩)))))));have lr0:((List.range N).map λw=>Ai (g k w)).length=N:=by simp
 have lt0:((List.range (n+1)).map λk=>AI N (g k)).length=n+1:=by simp
 obtain⟨w2,hw2,ew2⟩:∃w2:Nat,w2<N/\((w:Int)+1)%((((List.range N).map λw=>Ai (g k w)).map D.im).length:Int)=(w2:Int):=by
  rw[lr];have a1:=Int.emod_nonneg ((w:Int)+1) (b:=(N:Int)) (by omega);have a2:=Int.emod_lt_of_pos ((w:Int)+1) (b:=(N:Int)) (by omega);exact⟨(((w:Int)+1)%(N:Int)).toNat,by omega,by omega⟩
 obtain⟨k',ek'⟩:=S8 (N:=N) (g:=g) hk;refine AA (AN (Pk (AO (Bp (A4 (A4 (A0 rfl (A0 rfl (AD rfl (BA hk) (A0 rfl (AD rfl (Ck hw) ⟨g k w,rfl,_,rfl,λh=>?_,λh=>?_⟩)))))))))))
 .obtain⟨x,hx⟩:∃x,g k w=some x:=by cases q:g k w with
   |none=>rw[q]at h;simp at h
   |some x=>exact⟨x,rfl⟩
  have hrow:=Ck (f:=g k) hw;rw[hx]at hrow;refine A4 (A4 (A0 rfl (A0 rfl (AD rfl (BA hk) (A0 rfl (AD rfl hrow (A7 ?_)))))));refine AA (AN (Ay (Bc (A2 (A9 (A2 (A4 (A0 rfl (A9 (Ar (A2 (A4 (A0 rfl (A9 (B6 ?_)))))))))))))));refine A2 (A4 (A4 (A0 rfl (A0 rfl (AD rfl (BA hk) (A4 (A4 (A0 rfl (A9 (Ar (BD (A2 (A4 (A0 rfl (A0 rfl (AD rfl (BA hk) (A5 (Bf (ds:=((List.range N).map λw=>Ai (g k w)).map D.im) rfl rfl (Pf (by unfold CV;omega) ?_)))))))))))))))))));rw[ew2];refine AD rfl (Ck hw2) (A2 (A4 (A4 (A0 rfl (A4 (A0 rfl (A9 (B6 (AD rfl ek' (A0 rfl (AD rfl (Ck hw) (A5 ⟨Ab (by simp),A7 ?_⟩))))))))))));generalize hE:[D.im I.non,_,_,_,_]=E5;obtain⟨o,ho⟩:∃o,atI E5 st=some (AW o):=by
   subst hE;exact at5 p2 q2 none (some _) (some _) (g k w2) (g k' w)
  refine AA (AN (A4 (A4 (Iz (is:=(List.range N).map λw=>Ai (g k w)) (j:=3) (k:=w) (A4 (A0 rfl (A0 rfl (AD rfl (BA hk) ⟨rfl,rfl⟩)))) rfl (by omega) (Am (A2 (A4 (A0 rfl (A0 rfl (AD (ds:=E5) rfl ho (A5 ⟨BC,?_⟩)))))))))));refine D9 (js:=[Ai o]) (by rw[length_take];simp;omega) (Gq (is:=(List.range N).map λw=>Ai (g k w)) (j:=3) (k:=w) (A4 (A0 rfl (A0 rfl (AD rfl (BA hk) ⟨rfl,rfl⟩)))) rfl (DB (by simp) (by simp;omega) (A7 ?_)));rw[Gx _ (by omega)];refine AU (A4 (A4 (Iz (is:=(List.range (n+1)).map λk=>AI N (g k)) (j:=2) (k:=k) (A0 rfl ⟨rfl,rfl⟩) rfl (by omega) (Am (A2 (A0 rfl (A5 ⟨BC,?_⟩)))))));refine D9 (js:=[.tup (((List.range N).map λw=>Ai (g k w)).set w (Ai o))]) (by rw[length_take];simp;omega) (Gq (is:=(List.range (n+1)).map λk=>AI N (g k)) (j:=2) (k:=k) (A0 rfl ⟨rfl,rfl⟩) rfl (DB (by simp) (by simp;omega) ?_));rw[Gx _ (by omega),NL hk hw o];exact⟨_,a,b,[_],rfl,⟨_,rfl⟩,hT,rfl⟩
 .refine A9 (A7 ?_);refine AA (AN (Ay (Bc (A2 (A9 (A2 (A4 (A0 rfl (A9 (Ar (A2 (A4 (A0 rfl (A9 (B6 ?_)))))))))))))));refine A2 (A4 (A4 (A0 rfl (A0 rfl (AD rfl (BA hk) (A4 (A4 (A0 rfl (A9 (Ar (BD (A2 (A4 (A0 rfl (A0 rfl (AD rfl (BA hk) (A5 (Bf (ds:=((List.range N).map λw=>Ai (g k w)).map D.im) rfl rfl (Pf (by unfold CV;omega) ?_)))))))))))))))))));rw[ew2];refine AD rfl (Ck hw2) (A2 (A4 (A4 (A0 rfl (A4 (A0 rfl (A9 (B6 (AD rfl ek' (A0 rfl (AD rfl (Ck hw) (A5 ⟨Ab (by simp),A7 ?_⟩))))))))))));generalize hE:[D.im I.non,_,_,_,_]=E5;obtain⟨o,ho⟩:∃o,atI E5 st=some (AW o):=by
   subst hE;exact at5 p2 q2 none (some _) (some _) (g k w2) (g k' w)
  refine AA (AN (A4 (A4 (Iz (is:=(List.range N).map λw=>Ai (g k w)) (j:=3) (k:=w) (A4 (A0 rfl (A0 rfl (AD rfl (BA hk) ⟨rfl,rfl⟩)))) rfl (by omega) (Am (A2 (A4 (A0 rfl (A0 rfl (AD (ds:=E5) rfl ho (A5 ⟨BC,?_⟩)))))))))));refine D9 (js:=[Ai o]) (by rw[length_take];simp;omega) (Gq (is:=(List.range N).map λw=>Ai (g k w)) (j:=3) (k:=w) (A4 (A0 rfl (A0 rfl (AD rfl (BA hk) ⟨rfl,rfl⟩)))) rfl (DB (by simp) (by simp;omega) (A7 ?_)));rw[Gx _ (by omega)];refine AU (A4 (A4 (Iz (is:=(List.range (n+1)).map λk=>AI N (g k)) (j:=2) (k:=k) (A0 rfl ⟨rfl,rfl⟩) rfl (by omega) (Am (A2 (A0 rfl (A5 ⟨BC,?_⟩)))))));refine D9 (js:=[.tup (((List.range N).map λw=>Ai (g k w)).set w (Ai o))]) (by rw[length_take];simp;omega) (Gq (is:=(List.range (n+1)).map λk=>AI N (g k)) (j:=2) (k:=k) (A0 rfl ⟨rfl,rfl⟩) rfl (DB (by simp) (by simp;omega) ?_));rw[Gx _ (by omega),NL hk hw o];exact⟨_,a,b,[_],rfl,⟨_,rfl⟩,hT,rfl⟩
open Lt (IsMin comb behind Ad sel AF Wx nmo DF CG)
def svl{h:Hd}{q:Nat}{ds:List D}(e:h[q]?=some (.lst ds)):B8 h (.mu q)=some ds:=by rw[Iv,JI,e]
def NV{N:Nat}{f:Nat->Option Int}{w:Nat}(hw:w<N):atI (B1 N f) (w:Int)=some (AW (f w)):=Cg rfl (by simp[hw])
def Qv{B c:Int}{p:Wm}(ok:okM B c p){N:Nat}(f:Nat->Option Int){w:Nat}(hw:w<N){h:Hd}{q0:Nat}(e:h[q0]?=some (.lst (B1 N f))):WF FV [.mu q0,.im (.int (w:Int)),wmD p] h λd x=>d=AW (Ad (wx p) f w)/\x=h:=by
 have h0:=ok.2.2.2;unfold FV;refine As rfl ?_;refine AA (Ij (A0 rfl ⟨[some (.mu q0),some (.im (.int (w:Int))),some (wmD p),some (.im (.int p.len)),some (.im (.int p.com)),some (csD p),none],rfl,A7 ?_⟩));refine AA (AN (A4 (A0 rfl (A0 rfl (AD (svl e) (NV hw) (A7 ?_))))));refine AA (Ae (Cr (AO (A4 (A0 rfl (A4 (A0 rfl (A9 (AD (ds:=[.im (.str "miss"),.im (.int p.due),.im (.int p.wt)]) rfl (D6 _ _ _ _) (U0 ⟨_,rfl,?_⟩))))))))));by_cases q:w<(wx p).2.2
 .have q':¬ (w:Int)>=p.wt:=by unfold wx at q;dsimp only at q;omega
  rw[if_neg (by simpa using q')];refine⟨(λh=>by cases h),λ_=>AV (A7 (AU (A0 rfl ⟨?_,rfl⟩)))⟩;unfold Ad;rw[if_pos q];rfl
 .have q':(w:Int)>=p.wt:=by unfold wx at q;dsimp only at q;omega
  rw[if_pos (by simpa using q')];have ek:(w:Int)-p.wt=((w-(wx p).2.2:Nat):Int):=by unfold wx at q ⊢;dsimp only at q ⊢;omega
  have hk:w-(wx p).2.2<N:=by omega
  have MQ:∀{ls:Ls} {QE:D->Hd->Prop},ls[0]?=some (some (.mu q0))->ls[1]?=some (some (.im (.int (w:Int))))->ls[5]?=some (some (csD p))->QE (AW (f (w-(wx p).2.2))) h->WE (mOp gIx (A1 0) (mOp B5 (A1 1) (mOp gIx (A1 5) (mC (.int 2))))) ls h QE:=by
   intro ls QE e0 e1 e5 k;refine A4 (A0 e0 (A4 (A0 e1 (A4 (A0 e5 (A9 (AD (ds:=[.im (.str "miss"),.im (.int p.due),.im (.int p.wt)]) rfl (D6 _ _ _ _) (B6 ?_))))))));rw[ek];exact AD (svl e) (NV hk) k
  refine Cr (AO (Bp (MQ rfl rfl rfl ⟨_,rfl,_,rfl,?_⟩)));cases hx:f (w-(wx p).2.2)with
  |none=>
   rw[if_neg (by simp)];refine⟨(λh=>by cases h),λ_=>AV (A7 (AU (A0 rfl ⟨?_,rfl⟩)))⟩;unfold Ad;rw[if_neg q,hx];rfl
  |some x=>
   rw[if_pos (by simp)];have look':∀{ls:Ls} {QE:D->Hd->Prop},ls[0]?=some (some (.mu q0))->ls[1]?=some (some (.im (.int (w:Int))))->ls[5]?=some (some (csD p))->ls[3]?=some (some (.im (.int p.len)))->QE (.im (.int (x+p.len))) h->WE (mOp AS (mOp gIx (A1 0) (mOp B5 (A1 1) (mOp gIx (A1 5) (mC (.int 2))))) (A1 3)) ls h QE:=by
    intro ls QE e0 e1 e5 e3 k;refine A4 (MQ e0 e1 e5 ?_);rw[hx];exact A0 e3 (Ar k)
   refine AO (A4 (look' rfl rfl rfl rfl (A4 (A0 rfl (A9 (AD (ds:=[.im (.str "miss"),.im (.int p.due),.im (.int p.wt)]) rfl (Ef _ _ _) (Hh ⟨_,rfl,λhh=>?_,λhh=>?_⟩)))))))
   .have h9:x+p.len<=p.due:=by simpa using hh
    have eb:behind (wx p).1 (wx p).2.1 (some x)=some (x+p.len):=if_pos h9;refine WP.mono (Q:=λfl y=>((fl=Fl.rt (AW (Ad (wx p) f w))∨((∃z,fl=Fl.nx [some (.mu q0),some (.im (.int (w:Int))),some (wmD p),some (.im (.int p.len)),some (.im (.int p.com)),some (csD p),some (AW z)]/\z=Ad (wx p) f w))))/\y=h) (Ae (FK (AO (Bp (A0 rfl ⟨f w,rfl,_,rfl,?_⟩))))) ?_
    .cases hf:f w with
     |none=>
      rw[if_pos (by simp)];refine⟨(λ_=>AU (look' rfl rfl rfl rfl ⟨.inl ?_,rfl⟩)),λh=>by cases h⟩;unfold Ad;rw[if_neg q,hx,eb,hf];rfl
     |some y=>
      rw[if_neg (by simp)];refine AO (A4 (look' rfl rfl rfl rfl (A0 rfl (Il ⟨_,rfl,λh2=>?_,λh2=>?_⟩))))
      .have h2:x+p.len<y:=by simpa using h2
       refine AU (look' rfl rfl rfl rfl ⟨.inl ?_,rfl⟩);unfold Ad;rw[if_neg q,hx,eb,hf];show _=Fl.rt (AW (if y<=x+p.len then some y else some (x+p.len)));rw[if_neg (by omega)];rfl
      .have h2:¬ x+p.len<y:=by simpa using h2
       refine AV ⟨.inr ⟨_,rfl,?_⟩,rfl⟩;unfold Ad;rw[if_neg q,hx,eb,hf];show some y=if y<=x+p.len then some y else some (x+p.len)
       rw[if_pos (by omega)]
    .rintro fl y ⟨rfl|⟨z,rfl,rfl⟩,rfl⟩
     .exact IN ⟨rfl,rfl⟩
     .exact A7 (AU (A0 rfl ⟨rfl,rfl⟩))
   .have h9:¬ x+p.len<=p.due:=by simpa using hh
    refine AV (A7 (AU (A0 rfl ⟨?_,rfl⟩)));unfold Ad;rw[if_neg q,hx];show _=AW (comb (f w) (if x+p.len<=p.due then some (x+p.len)else none));rw[if_neg h9];rfl
abbrev Ll(ws:List Wm)(much:Int)(q:Nat)(z5 z6:Option D):Ls:=[some (.mu 1),some (.im (AQ ws)),some (.im (.int much)),some (.im (.int (AH ws))),some (.mu q),z5,z6]
def RY{m0:ME}(n:Nat){N:Nat}(F:Nat->Option Int){hd0:Hd}{a b:MO}(hT:T (n+2*N) a b){l0:Ls}{L:Option D->Ls}(hl0:∃z,l0=L z){g:Gd}(hg:∀a b:MO,GOk (a::b::hd0) g)
 (nm':∀(z:Option D) (d:D) (hd:Hd),(AG 0) d (L z) hd=some (L (some d)))
 (body:∀(j:Nat) (a b:MO) (k:Nat),j<N->T (k+2) a b->WE m0 (L (some (.im (.int (j:Int))))) (a::b::hd0) λd x=>∃o a' b',d=AW o/\nmo o (F j)=true/\T k a' b'/\x=a'::b'::hd0)
 {QA:List D->Hd->Prop} (q:∀(f:Nat->Option Int) a b,(∀w,w<N->nmo (f w) (F w)=true)->T n a b->QA (B1 N f) (a::b::hd0)):WP (B4 (AG 0) Bw m0 g (Au 0 N) l0 (a::b::hd0)) QA:=by
 refine Kw (λr es ls hd=>∃(j:Nat) (f:Nat->Option Int) (z:Option D) (a b:MO),j<=N/\r=Au (j:Int) (N-j)/\es=B1 j f/\(∀w,w<j->nmo (f w) (F w)=true)/\ls=L z/\hd=a::b::hd0/\T (n+2*(N-j)) a b) ?_ ?_ ?_
 .obtain⟨z,rfl⟩:=hl0;exact⟨0,λ_=>none,z,a,b,by omega,rfl,rfl,λw h=>absurd h (not_lt_zero _),rfl,rfl,by simpa using hT⟩
 .rintro d r es ls hd ⟨j,f,z,a,b,hj,er,rfl,hf,rfl,rfl,hT⟩;cases q:N-j with
  |zero=>rw[q]at er;cases er
  |succ m=>
   rw[q,Au]at er;obtain⟨rfl,rfl⟩:=List.cons.inj er;refine⟨_,nm' _ _ _,Bu ?_⟩;rw[if_pos rfl];refine(body j a b (n+2*m) (by omega) (tap.le hT (by omega))).mono ?_;rintro d x ⟨o,a',b',rfl,ho,hT',rfl⟩;refine⟨hg _ _,j+1,λw=>if w=j then o else f w,_,a',b',by omega,by rw[show N-(j+1)=m by omega];rfl,?_,λw hw=>?_,rfl,rfl,by rw[show N-(j+1)=m by omega];exact hT'⟩
   .unfold B1;rw[range_succ,map_append]
    congr 1
    .refine map_congr_left λw hw=>?_;have:w≠j:=by have:=mem_range.mp hw;omega
     dsimp only;rw[if_neg this]
    .simp
   .by_cases e:w=j
    .subst e;dsimp only;rw[if_pos rfl];exact ho
    .dsimp only;rw[if_neg e];exact hf w (by omega)
 .rintro es ls hd ⟨j,f,z,a,b,hj,er,rfl,hf,rfl,rfl,hT⟩;have:j=N:=by
   cases q:N-j with
   |zero=>omega
   |succ m=>rw[q,Au]at er;cases er
  subst this;exact q f a b hf (by simpa using hT)
open Lt (IsMin comb behind Ad sel AF Wx nmo DF CG)
def ql(k:Nat):Nat:=if k=0 then 4 else 6+k
def qsD(j:Nat):List D:=(List.range (j+1)).map λi=>D.mu (ql i)
def Hl(a b o2 o3:MO)(N:Nat)(g:Nat->Nat->Option Int)(ord:List D)(j:Nat):Hd:=a::b::o2::o3::.lst (B1 N (g 0))::.lst (qsD j)::.lst ord::(List.range j).map λi=>MO.lst (B1 N (g (i+1)))
def Qu{a b o2 o3:MO}{N:Nat}{g:Nat->Nat->Option Int}{ord:List D}{j k:Nat}(hk:k<=j):(Hl a b o2 o3 N g ord j)[ql k]?=some (.lst (B1 N (g k))):=by
 unfold ql;cases k with
 |zero=>rfl
 |succ k=>
  rw[if_neg (by omega),show 6+(k+1)=k+7 by omega];unfold Hl;simp only[List.getElem?_cons_succ];simp[show k<j by omega]
def Vc(j:Nat):atI (qsD j) (-1)=some (.mu (ql j)):=by
 unfold qsD;rw[range_succ,map_append];exact GU _ _
def V2(N:Nat)(f:Nat->Option Int):Ag (B1 N f)=.im (AI N f):=by
 unfold B1 AI;rw[show((List.range N).map λw=>AW (f w))=((List.range N).map λw=>Ai (f w)).map D.im by rw[map_map];rfl,Bi]
inductive I_low(n:Nat)(c:Int)(ws:List Wm)(N:Nat)(much:Int)(o2 o3:MO)(r:List D)(ls:Ls)(hd:Hd):Prop
 |mk (dn rest:List Int) (g:Nat->Nat->Option Int) (a b:MO) (z5 z6:Option D) (h0:B0 ws=dn++rest) (h1:r=Aq rest) (h2:ls=Ll ws much 5 z5 z6) (h3:hd=Hl a b o2 o3 N g (Aq (B0 ws)) dn.length) (h4:C5 c ws N g dn.length) (h5:T (n+2*N*rest.length) a b):I_low n c ws N much o2 o3 r ls hd
set_option maxHeartbeats 1000000 in
def KQ(n:Nat){B c:Int}{ws:List Wm}(ok:BS B c ws)(hB:B<=2000){N:Nat}(eN:N=(AH ws).toNat+1){much:Int}(m0:0<=much)(m1:much<=100):∀a b,T (n+2000) a b->WF EU [.mu 1,.im (AQ ws),.im (.int much)] [a,b] λd x=>∃i a' b' y,d=.im i/\(∃g,i=AZ ws.length N g/\C5 c ws N g ws.length)/\T n a' b'/\x=a'::b'::y:=by
 intro a b hT;have hl8:=ok.2.1;have hf:=DZ ok;have hl1:0<ws.length:=List.length_pos_iff.mpr ok.1;have lo:=CN ws;unfold EU;refine As rfl ?_;refine AA (AN (DH (B7 (CM (A0 rfl ⟨_,rfl,?_⟩)))));rw[BO];refine⟨Ab (by simp;omega),?_⟩;refine Ci wmD (λw=>some (.im (.int w.wt))) (λ_ ls=>∃x,ls=[some x]) _ (Aa _) ?_ ?_
 .rintro p hp ls hls;refine⟨[some (wmD p)],by rcases hls with rfl|⟨_,x,rfl⟩<;>rfl,⟨_,rfl⟩,Bu ⟨rfl,?_⟩⟩;rw[if_pos rfl];exact⟨_,rfl,A4 (A4 (A0 rfl (A9 (AD (ds:=[.im (.int p.len),.im (.int p.com),.im (.tup [.str "miss",.int p.due,.int p.wt])]) rfl (D6 _ _ _ _) (A9 (AD (ds:=[.im (.str "miss"),.im (.int p.due),.im (.int p.wt)]) rfl (D6 _ _ _ _) ⟨rfl,rfl⟩))))))⟩
 have e:(ws.filterMap λw=>some (D.im (.int w.wt)))=Aq (ws.map Wm.wt):=by simp[Aq]
 rw[e];refine⟨.im (.int (AH ws)),by unfold FC;rw[ER];rfl,A7 ?_⟩;obtain⟨-,ecom,-,-⟩:=ok.2.2.2 _ (List.getElem_mem hl1);refine AA (AN (Ay (Bc (A2 (Ay (LS (Ay (Bc (A2 (A4 (A4 (A4 (A0 rfl (A9 (AD (by rw[Cj,BO]) (DM (k:=0) hl1) (A9 (AD (ds:=[.im (.int ws[0].len),.im (.int ws[0].com),.im (.tup [.str "miss",.int ws[0].due,.int ws[0].wt])]) rfl (Ef _ _ _) ?_)))))))))))))))));refine DS (n:=n+1999) (A2 (A0 rfl (A2 (A4 (A0 rfl (A9 (Ar (A5 ⟨a,b,[],much+1,rfl,rfl,hT,by omega,by omega,λr a b hT p q=>B6 (A5 ⟨BC,?_⟩)⟩))))))));rw[ecom];refine Ay (B7 (Je (A2 (A0 rfl (A5 ⟨AH ws,rfl,Fi (by omega) (by omega),Ab (by dsimp only;rw[El];omega),?_⟩)))));refine RY (n+1+2*N*ws.length) (N:=(AH ws).toNat) (λ_=>none) (hd0:=[.lst [.im (.int (c-r))]]) (tap.le hT ?_) (L:=λz=>[z,some (.mu 1),some (.im (.int much))]) ⟨none,rfl⟩ (λ_ _=>Aa _) (λ_ _ _=>rfl) (λj a b k hj hT=>?_) λf0 a b hf0 hT=>?_
 .have:N<=73:=by omega
  have:2*N*ws.length<=2*73*8:=Nat.mul_le_mul (by omega) hl8;omega
 .refine EG (n:=k) (c:=2) (A2 (A0 rfl (A2 (A9 (A2 (A0 rfl (A5 ⟨a,b,_,[AW none,.im (.int much)],rfl,rfl,hT,by simp[Ai],R8 k m0 m1 none,?_⟩)))))));rintro i a b hT ⟨o,rfl,ho⟩;exact⟨o,a,b,rfl,ho,hT,rfl⟩
 refine⟨2,3,[.im (.int (c-r))],B1 (AH ws).toNat f0,rfl,rfl,rfl,rfl,Ab (by simp;omega),?_⟩;refine A5 ⟨BC,A7 ?_⟩
 let g0:Nat->Nat->Option Int:=λk w=>if k=0 then(if w=0 then some (c-r)else f0 (w-1))else none
 have er0:[D.im (.int (c-r))]++B1 (AH ws).toNat f0=B1 N (g0 0):=by
  rw[eN];unfold B1;rw[List.range_succ_eq_map,map_cons,map_map];rfl
 rw[er0];change WS _ (Ll ws much 5 none none) (a::b::[.lst [.im (.int (c-r))],.lst (B1 (AH ws).toNat f0),.lst (B1 N (g0 0)),.lst [.mu 4]]) _;refine AA (BL (EW (EJ (A2 (A0 rfl (A5 ⟨[],_,rfl,rfl,by simp,rfl,(JJ ok hB).mono ?_⟩))))));rintro d x ⟨rfl,rfl⟩;refine⟨0,_,[],_,rfl,le_refl _,rfl,rfl,rfl,rfl,Dd _ _,6,Aq (B0 ws),rfl,rfl,?_⟩;refine BJ (I_low (n+1) c ws N much (.lst [.im (.int (c-r))]) (.lst (B1 (AH ws).toNat f0))) ⟨[],B0 ws,g0,a,b,none,none,rfl,rfl,rfl,rfl,⟨by simp[g0,nmo];omega,λk x h=>absurd h (not_lt_zero _)⟩,by rw[lo];exact hT⟩ ?_ ?_
 .rintro d rr ls hd ⟨dn,rest,g,a,b,z5,z6,e1,er,rfl,rfl,h4,hT⟩;cases rest with
  |nil=>cases er
  |cons i rest=>
   obtain⟨rfl,rfl⟩:=List.cons.inj er;obtain⟨k,hk,rfl⟩:=Fp (ws:=ws) (i:=i) (by rw[e1];simp);have hle:dn.length<ws.length:=by rw[e1]at lo;simp at lo;omega
   have ex:=OD hk e1;have okk:=ok.2.2.2 _ (List.getElem_mem hk);refine⟨Ll ws much 5 (some (.im (.int (k:Int)))) z6,rfl,?_⟩;refine AA (AN (A4 (A0 rfl (Gk (A9 ⟨_,rfl,AD (svl (ds:=qsD dn.length) rfl) (Vc _) (A7 ?_)⟩)))));refine Be (Hi (A0 rfl ⟨⟨qsD dn.length,rfl⟩,A2 (Ay (B7 (Je (A2 (A4 (A0 rfl (A9 (Ar (A5 ⟨AH ws+1,rfl,Fi (by omega) (by omega),Ab (by dsimp only;rw[El];omega),?_⟩)))))))))⟩));rw[show(AH ws+1).toNat=N by omega];unfold Hl;refine RY (n+1+2*N*rest.length) (N:=N) (Ad (wx ws[k]) (g dn.length)) (hd0:=_) (tap.le hT ?_) (L:=λz=>[z,some (.mu 1),some (.mu (ql dn.length)),some (.im (AQ ws)),some (.im (.int (k:Int))),some (.im (.int much))]) ⟨none,rfl⟩ (λ_ _=>Aa _) (λ_ _ _=>rfl) (λj a b k2 hj hT=>?_) λf a b hfl hT=>?_
   .rw[length_cons,Nat.mul_succ];omega
   .have er:=Qu (a:=a) (b:=b) (o2:=.lst [.im (.int (c-r))]) (o3:=.lst (B1 (AH ws).toNat f0)) (N:=N) (g:=g) (ord:=Aq (B0 ws)) (le_refl dn.length);unfold Hl at er;refine EG (n:=k2) (c:=2) (R:=λi=>∃o',i=Ai o'/\nmo o' (Ad (wx ws[k]) (g dn.length) j)=true) (A2 (A0 rfl (A2 (G6 (A2 (A0 rfl (A2 (A0 rfl (A2 (A4 (A0 rfl (A0 rfl (AD (by rw[Cj,BO]) (DM hk) (A5 ((Qv okk (g dn.length) hj er).mono ?_)))))))))))))));rintro d x ⟨rfl,rfl⟩;refine A2 (A0 rfl (A5 ⟨a,b,_,[AW (Ad (wx ws[k]) (g dn.length) j),.im (.int much)],rfl,rfl,hT,by simp,R8 k2 m0 m1 _,?_⟩));rintro i a b hT ⟨o,rfl,ho⟩;exact⟨o,a,b,rfl,ho,hT,rfl⟩
   refine A5 (Gj (ds:=qsD dn.length) rfl (E9 (by simp[qsD];omega)) ⟨?_,?_⟩)
   .intro q hq;rw[mem_singleton]at hq;subst hq;rfl
   let g':Nat->Nat->Option Int:=λk=>if k=dn.length+1 then f else g k
   have gl:∀k',k'<=dn.length->g' k'=g k':=λk' h=>if_neg (by omega);refine⟨dn++[(k:Int)],rest,g',a,b,_,_,by rw[e1];simp,rfl,rfl,?_,?_,hT⟩
   .have e1':(dn++[(k:Int)]).length=dn.length+1:=by simp
    rw[e1'];unfold Hl;rw[gl 0 (by omega)];have q1:qsD (dn.length+1)=qsD dn.length++[.mu (ql (dn.length+1))]:=by
     unfold qsD;rw[range_succ,map_append];rfl
    have q2:((List.range (dn.length+1)).map λi=>MO.lst (B1 N (g' (i+1))))=((List.range dn.length).map λi=>MO.lst (B1 N (g (i+1))))++[.lst (B1 N f)]:=by
     rw[range_succ,map_append]
     congr 1
     .exact map_congr_left λi hi=>by rw[gl _ (by have:=mem_range.mp hi;omega)]
     .simp[g']
    rw[q1,q2];unfold ql;rw[if_neg (by omega)];simp;omega
   .have e1':(dn++[(k:Int)]).length=dn.length+1:=by simp
    rw[e1'];refine Jt ⟨by rw[gl 0 (by omega)];exact h4.1,λk' x hk' hx=>?_⟩ ex ?_
    .rw[gl _ (by omega),gl _ (by omega)];exact h4.2 k' x hk' hx
    .rw[gl _ (le_refl _),show g' (dn.length+1)=f from if_pos rfl];exact Lt.rowOk_next.mpr hfl
 .rintro ls hd ⟨dn,rest,g,a,b,z5,z6,e1,er,rfl,rfl,h4,hT⟩;cases rest with
  |cons i rest=>cases er
  |nil=>
   have hle:dn.length=ws.length:=by rw[e1]at lo;simpa using lo
   rw[hle]at h4 ⊢;refine A7 (AU (DH (B7 (EW (A0 rfl ⟨5,qsD ws.length,rfl,rfl,Ab (by simp[qsD];omega),?_⟩)))));refine Ci (λk:Nat=>D.mu (ql k)) (λk=>some (.im (AI N (g k)))) (λ_ ls=>∃x,ls=[some x]) _ (by intro q hq;rw[mem_singleton]at hq;subst hq;rfl) ?_ ?_
   .rintro k hk ls hls;refine⟨[some (.mu (ql k))],by rcases hls with rfl|⟨_,x,rfl⟩<;>rfl,⟨_,rfl⟩,Bu ⟨rfl,?_⟩⟩;rw[if_pos rfl];exact⟨_,rfl,BD (A2 (A0 rfl (A5 (Bf (ds:=B1 N (g k)) (by rw[if_pos rfl];exact svl (Qu (by have:=mem_range.mp hk;omega))) rfl ⟨rfl,V2 _ _⟩))))⟩
   have ed:((List.range (ws.length+1)).filterMap λk:Nat=>some (D.im (AI N (g k))))=((List.range (ws.length+1)).map λk=>AI N (g k)).map D.im:=by
    rw[List.filterMap_eq_map',map_map];rfl
   rw[ed];refine⟨.im (AZ ws.length N g),by unfold D3 AZ;rw[Bi],?_⟩;exact⟨_,a,b,_,rfl,⟨g,rfl,h4⟩,tap.le hT (by omega),rfl⟩
open Lt (IsMin comb behind Ad sel AF Wx nmo DF CG)
def K5{c:Int}{L:List Wx}{k:Nat}{x:Wx}(h:L[k]?=some x):fT c L (k+1)=Ad x (fT c L k):=by
 funext w
 rw[fT,h]
def MD(o:Option Int):nmo o o=true:=by cases o<;>simp[nmo]
def NF(ws:List Wm):(wxs ws).length=ws.length:=by unfold wxs;rw[length_map,CN]
def LJ{c:Int}{ws:List Wm}{N:Nat}{g:Nat->Nat->Option Int}(h:C5 c ws N g ws.length):∀k,k<=ws.length->∀w,w<N->nmo (g k w) (fT c (wxs ws) k w)=true
 |0,_,w,_=>by
  rw[fT];by_cases e:w=0
  .subst e;simpa using h.1
  .rw[if_neg e];rfl
 |k+1,hk,w,hw=>by
  obtain⟨x0,hx⟩:∃x,(wxs ws)[k]?=some x:=⟨_,List.getElem?_eq_getElem (by rw[NF];omega)⟩
  rw[K5 hx];exact Lt.row_below (h.2 k _ (by omega) hx) (LJ h k (by omega)) w hw
def Uk(c:Int)(ws:List Wm)(N:Nat):C5 c ws N (fT c (wxs ws)) ws.length:=⟨by simp[fT,nmo],λk x hk hx=>Lt.rowOk_next.mpr λw _=>by rw[K5 hx];exact MD _⟩
def LV{c:Int}{ws:List Wm}:∀k,k<=ws.length->(fT c (wxs ws) k 0).isSome=true
 |0,_=>by simp[fT]
 |k+1,hk=>by
  have ih:=LV (c:=c) (ws:=ws) k (by omega);obtain⟨x0,hx⟩:∃x,(wxs ws)[k]?=some x:=⟨_,List.getElem?_eq_getElem (by rw[NF];omega)⟩
  rw[K5 hx];have:=(Lt.nmo_of (MD (Ad x0 (fT c (wxs ws) k) 0))).1;cases q:fT c (wxs ws) k 0 with
  |none=>rw[q]at ih;cases ih
  |some x=>
   rw[q]at this;cases p:Ad x0 (fT c (wxs ws) k) 0 with
   |none=>rw[p]at this;simp[nmo]at this
   |some y=>rfl
def CQ(N:Nat)(g:Nat->Nat->Option Int):Nat->Nat->Option Int:=λk w=>if w<N then g k w else none
def O6(n N:Nat)(g:Nat->Nat->Option Int):AZ n N (CQ N g)=AZ n N g:=by
 unfold AZ
 congr 1
 refine map_congr_left λk _=>?_;unfold AI
 congr 1
 refine map_congr_left λw hw=>?_;have:=mem_range.mp hw;simp[CQ,this]
def Ds{N:Nat}{g:Nat->Nat->Option Int}{k w:Nat}(h:w<N):CQ N g k w=g k w:=if_pos h
def cut_row{N:Nat}{g:Nat->Nat->Option Int}{x:Wx}{k k':Nat}:CG N x (CQ N g k) (CQ N g k')↔CG N x (g k) (g k'):=by
 have e:∀w,w<N->DF x (CQ N g k) w=DF x (g k) w:=λw hw=>by
  unfold DF;split
  .rfl
  .rw[Ds (by omega)]
 exact⟨λh w hw=>by have:=h w hw;rwa [Ds hw,Ds hw,e w hw]at this,λh w hw=>by rw[Ds hw,Ds hw,e w hw];exact h w hw⟩
def Mn{c:Int}{ws:List Wm}{N n:Nat}(h0:0<N){g:Nat->Nat->Option Int}:C5 c ws N (CQ N g) n↔C5 c ws N g n:=by
 unfold C5;rw[Ds h0];exact⟨λh=>⟨h.1,λk x a b=>cut_row.mp (h.2 k x a b)⟩,λh=>⟨h.1,λk x a b=>cut_row.mpr (h.2 k x a b)⟩⟩
def UT(P:Nat->Bool):∀N,(∀w,P w=true->w<N)->(∃w,P w=true)->∃m,m<N/\P m=true/\∀w,P w=true->w<=m
 |0,h,⟨w,hw⟩=>absurd (h w hw) (not_lt_zero _)
 |N+1,h,⟨w,hw⟩=>by
  by_cases q:P N=true
  .exact⟨N,by omega,q,λv hv=>by have:=h v hv;omega⟩
  .obtain⟨m,a,b,c⟩:=UT P N (λv hv=>by
    have:=h v hv;have:v≠N:=λe=>q (e ▸ hv);omega) ⟨w,hw⟩
   exact⟨m,by omega,b,c⟩
def Qy{N n:Nat}(h0:0<N){g:Nat->Nat->Option Int}(h:(g n 0).isSome=true):∃m,m<N/\(CQ N g n m).isSome=true/\∀w,(CQ N g n w).isSome=true->w<=m:=
 UT (λw=>(CQ N g n w).isSome) N (λw hw=>by
  unfold CQ at hw;split at hw
  .assumption
  .cases hw) ⟨0,by rw[Ds h0];exact h⟩
def bc{c:Int}{ws:List Wm}{N:Nat}(h0:0<N){g:Nat->Nat->Option Int}(h:C5 c ws N g ws.length):(g ws.length 0).isSome=true:=by
 have a:=LJ h ws.length (le_refl _) 0 h0;have b:=LV (c:=c) (ws:=ws) ws.length (le_refl _);cases q:fT c (wxs ws) ws.length 0 with
 |none=>rw[q]at b;cases b
 |some x=>
  rw[q]at a;cases p:g ws.length 0 with
  |none=>rw[p]at a;simp[nmo]at a
  |some y=>rfl
def Rm(n N:Nat)(g f:Nat->Nat->Option Int):List.zipWith (λx y=>Ag [x,y]) (((List.range (n+1)).map λk=>AI N (g k)).map D.im) (((List.range (n+1)).map λk=>AI N (f k)).map D.im)=(List.range (n+1)).map λk=>D.im (.tup [AI N (g k),AI N (f k)]):=by
 refine ext_getElem (by simp) λi a b=>?_;simp
def Ro(N:Nat)(g f:Nat->Option Int):List.zipWith (λx y=>Ag [x,y]) (((List.range N).map λw=>Ai (g w)).map D.im) (((List.range N).map λw=>Ai (f w)).map D.im)=(List.range N).map λw=>D.im (.tup [Ai (g w),Ai (f w)]):=by
 refine ext_getElem (by simp) λi a b=>?_;simp
def Wn{B c:Int}{ws:List Wm}(ok:BS B c ws){N:Nat}(eN:N=(AH ws).toNat+1){g f:Nat->Nat->Option Int}(hb:∀k,k<=ws.length->∀w,w<N->nmo (g k w) (f k w)=true){m m':Nat}(hm:m<N)(h1:(g ws.length m).isSome=true)(h2:∀w,(g ws.length w).isSome=true->w<=m)(hm':m'<N)(h1':(f ws.length m').isSome=true)(h2':∀w,(f ws.length w).isSome=true->w<=m')(hmm:m'<=m):
 WF G4 [.im (AQ ws),.im (AZ ws.length N g),.im (.int (AH ws-m)),.im (AZ ws.length N f)] [] λd x=>d=.im (.bl true):=by
 have hf:=DZ ok;have hl8:=ok.2.1;have hcl:Av 0 [D.im (AQ ws),.im (AZ ws.length N g),.im (.tup [])]=true:=by simp
 unfold G4;refine As rfl ?_;refine AA (Ae (AO (Bp (AK (A2 (A0 rfl (A2 (A0 rfl (A2 (Am (A5 ⟨Dr,A5 ⟨hcl,(TR ok rfl (by omega) g).mono ?_⟩⟩)))))))))));rintro d x rfl;refine⟨_,rfl,none,rfl,_,rfl,(λh=>by cases h),λ_=>AV (A7 ?_)⟩;refine AA (BL (Ph (CM (A0 rfl ⟨_,rfl,CM (A0 rfl ⟨_,rfl,Aa _,?_⟩)⟩))));rw[Rm];refine BJ (λr ls hd=>∃(dn rest:List Nat) (z4 z5 z6 z7:Option D),List.range (ws.length+1)=dn++rest/\r=rest.map (λk=>D.im (.tup [AI N (g k),AI N (f k)]))/\ls=[some (.im (AQ ws)),some (.im (AZ ws.length N g)),some (.im (.int (AH ws-m))),some (.im (AZ ws.length N f)),z4,z5,z6,z7,none]/\hd=[]) ⟨[],_,none,none,none,none,rfl,rfl,rfl,rfl⟩ ?_ ?_
 .rintro d r ls hd ⟨dn,rest,z4,z5,z6,z7,e1,er,rfl,rfl⟩;cases rest with
  |nil=>cases er
  |cons k rest=>
   obtain⟨rfl,rfl⟩:=List.cons.inj er;have hk:k<=ws.length:=by
    have:k∈List.range (ws.length+1):=by rw[e1];simp
    have:=mem_range.mp this;omega
   refine⟨[some (.im (AQ ws)),some (.im (AZ ws.length N g)),some (.im (.int (AH ws-m))),some (.im (AZ ws.length N f)),some (.im (AI N (g k))),some (.im (AI N (f k))),z6,z7,none],rfl,?_⟩;refine BL (Ph (CM (A0 rfl ⟨_,rfl,CM (A0 rfl ⟨_,rfl,Aa _,?_⟩)⟩)));rw[Ro];refine BJ (λr ls hd=>∃(dn rest:List Nat) (z6 z7:Option D),List.range N=dn++rest/\r=rest.map (λw=>D.im (.tup [Ai (g k w),Ai (f k w)]))/\ls=[some (.im (AQ ws)),some (.im (AZ ws.length N g)),some (.im (.int (AH ws-m))),some (.im (AZ ws.length N f)),some (.im (AI N (g k))),some (.im (AI N (f k))),z6,z7,none]/\hd=[]) ⟨[],_,z6,z7,rfl,rfl,rfl,rfl⟩ ?_ ?_
   .rintro d r ls hd ⟨dn',rest',z6,z7,e2,er,rfl,rfl⟩;cases rest' with
    |nil=>cases er
    |cons w rest'=>
     obtain⟨rfl,rfl⟩:=List.cons.inj er;have hw:w<N:=by
      have:w∈List.range N:=by rw[e2];simp
      exact mem_range.mp this
     have hn:=hb k hk w hw;refine⟨[some (.im (AQ ws)),some (.im (AZ ws.length N g)),some (.im (.int (AH ws-m))),some (.im (AZ ws.length N f)),some (.im (AI N (g k))),some (.im (AI N (f k))),some (AW (g k w)),some (AW (f k w)),none],rfl,?_⟩;refine Ae (Cr (AO (Bp (A0 rfl ⟨f k w,rfl,_,rfl,?_⟩))));have fin:U4 [] (λls hd=>∃(dn rest:List Nat) (z6 z7:Option D),List.range N=dn++rest/\rest'.map (λw=>D.im (.tup [Ai (g k w),Ai (f k w)]))=rest.map (λw=>D.im (.tup [Ai (g k w),Ai (f k w)]))/\ls=[some (.im (AQ ws)),some (.im (AZ ws.length N g)),some (.im (.int (AH ws-m))),some (.im (AZ ws.length N f)),some (.im (AI N (g k))),some (.im (AI N (f k))),z6,z7,none]/\hd=[]) (λf x=>True) (Fl.nx [some (.im (AQ ws)),some (.im (AZ ws.length N g)),some (.im (.int (AH ws-m))),some (.im (AZ ws.length N f)),some (.im (AI N (g k))),some (.im (AI N (f k))),some (AW (g k w)),some (AW (f k w)),none]) []:=⟨Aa _,dn'++[w],rest',_,_,by rw[e2];simp,rfl,rfl,rfl⟩
     cases hf':f k w with
     |none=>
      rw[if_neg (by simp)];rw[hf']at fin;exact⟨(λh=>by cases h),λ_=>AV ⟨fin.1,fin.2⟩⟩
     |some y=>
      rw[if_pos (by simp)];rw[hf']at hn fin;cases hg':g k w with
      |none=>rw[hg']at hn;simp[nmo]at hn
      |some x=>
       rw[hg']at hn fin;have hxy:x<=y:=by simpa [nmo]using hn
       refine FK (AO (Bp (A0 rfl ⟨some x,rfl,_,rfl,?_⟩)));rw[if_neg (by simp)];refine AO (A4 (A0 rfl (A0 rfl (Im ⟨_,rfl,(λh=>?_),λ_=>AV ⟨fin.1,fin.2⟩⟩))));have:x>y:=by simpa using h
       omega
   .rintro ls hd ⟨dn',rest',z6,z7,e2,er,rfl,rfl⟩;exact⟨Aa _,dn++[k],rest,_,_,_,_,by rw[e1];simp,rfl,rfl,rfl⟩
 .rintro ls hd ⟨dn,rest,z4,z5,z6,z7,e1,er,rfl,rfl⟩;refine A7 (AA (AN (A4 (BD (A2 (A4 (A0 rfl (A9 (AD rfl (BA (k:=0) (by omega)) (A5 (Bf (ds:=((List.range N).map λw=>Ai (f 0 w)).map D.im) rfl rfl (A9 (B6 (A7 ?_))))))))))))));have eF:((((List.range N).map λw=>Ai (f 0 w)).map D.im).length:Int)-1=AH ws:=by simp;omega
  rw[eF];refine AU (E1 (AO (AK (A2 (A0 rfl (A2 (A4 (A0 rfl (AK (A2 (A0 rfl (A5 ⟨by simp,(Qq (by omega) hm h1 h2).mono ?_⟩))))))))))));rintro d x rfl;refine⟨_,rfl,B6 (A5 ⟨by simp,(Zz 3 (some (AH ws-m))).mono ?_⟩)⟩;rintro d x rfl;refine⟨_,rfl,_,rfl,?_⟩;rw[if_pos rfl];refine A4 (A0 rfl (A4 (A0 rfl (AK (A2 (A0 rfl (A5 ⟨by simp,(Qq (by omega) hm' h1' h2').mono ?_⟩)))))));rintro d x rfl;refine⟨_,rfl,B6 (Hh ?_)⟩;have:AH ws-(m:Int)<=AH ws-(m':Int):=by omega
  simp[this]
open Lt (IsMin comb behind Ad sel AF Wx nmo DF CG)
abbrev Ao(n N:Nat)(g:Nat->Nat->Option Int):D:=.im (AZ n N g)
def bF{c:Int}{ws:List Wm}(ok:BS 500 c ws){N:Nat}(eN:N=(AH ws).toNat+1){g:Nat->Nat->Option Int}{at':Nat}(h4:at'<4->C5 c ws N g ws.length){q0 q1 q2 q5 q6 q9:Option D}{hd:Hd}:
 WS (AE (AT 9 (A8 0 JZ (A3 (A1 3) (A3 (A1 8) A6))))
 (AE (Ak (Cz (AM (mOp gNe (mOp gIx (A1 9) (mC (.int 0))) (mC (.str "told")))) (AM (mOp gLt (A1 7) (mC (.int 4)))))
  (AX (mC (.bl false)))
  Ac)
 (Ak (Cz (AM (mOp gEq (mOp gIx (A1 9) (mC (.int 0))) (mC (.str "told")))) (C6 (BU (A8 0 G4 (A3 (A1 3) (A3 (A1 8) (A3 (mOp gIx (A1 9) (mC (.int 1))) (A3 (A1 4) A6))))))))
  (AX (mC (.bl false)))
  Ac))) [q0,q1,q2,some (.im (AQ ws)),some (Ao ws.length N (fT c (wxs ws))),q5,q6,some (.im (.int (at':Int))),some (Ao ws.length N g),q9] hd λf x=>∃z9,f=.nx [q0,q1,q2,some (.im (AQ ws)),some (Ao ws.length N (fT c (wxs ws))),q5,q6,some (.im (.int (at':Int))),some (Ao ws.length N g),z9]/\x=hd:=by
 have hf:=DZ ok;have h0:0<N:=by omega
 rw[show Ao ws.length N g=Ao ws.length N (CQ N g) by unfold Ao;rw[O6],show Ao ws.length N (fT c (wxs ws))=Ao ws.length N (CQ N (fT c (wxs ws))) by unfold Ao;rw[O6]];have hcl:Av 0 [D.im (AQ ws),Ao ws.length N (CQ N g)]=true:=by simp
 refine AA (AN (AK (A2 (A0 rfl (A2 (A0 rfl (A5 ⟨hcl,(aw ok (by decide) eN (λhp=>Qy h0 (bc h0 ((Mn h0).mp hp)))).mono ?_⟩)))))));rintro d x (⟨hp,m,hm,h1,h2,rfl⟩|⟨hp,rfl⟩)
 .refine⟨_,rfl,A7 ?_⟩;refine AA (Ae (Cr (AO (A4 (A4 (A0 rfl (A9 (AD rfl (Cg (k:=0) rfl rfl) (A9 (Ik ⟨_,rfl,?_⟩))))))))));rw[if_neg (by simp)];refine⟨(λh=>by cases h),λ_=>AV (A7 ?_)⟩;refine Ae (Cr (AO (A4 (A4 (A0 rfl (A9 (AD rfl (Cg (k:=0) rfl rfl) (A9 (LO ⟨_,rfl,?_⟩)))))))));rw[if_pos (by simp)];obtain⟨m',hm',h1',h2'⟩:=Qy (n:=ws.length) h0 (LV (c:=c) (ws:=ws) ws.length (le_refl _));have hb:∀k,k<=ws.length->∀w,w<N->nmo (CQ N g k w) (CQ N (fT c (wxs ws)) k w)=true:=λk hk w hw=>by
   rw[Ds hw,Ds hw];exact LJ ((Mn h0).mp hp) k hk w hw
  have hmm:m'<=m:=by
   refine h2 m' ?_;have:=hb ws.length (le_refl _) m' hm';cases q:CQ N (fT c (wxs ws)) ws.length m' with
   |none=>rw[q]at h1';cases h1'
   |some y=>
    rw[q]at this;cases p:CQ N g ws.length m' with
    |none=>rw[p]at this;simp[nmo]at this
    |some z=>rfl
  have hcl2:Av 0 [D.im (AQ ws),Ao ws.length N (CQ N g),.im (.int (AH ws-m)),Ao ws.length N (CQ N (fT c (wxs ws)))]=true:=by simp
  refine CF (BV (AK (A2 (A0 rfl (A2 (A0 rfl (A2 (A4 (A0 rfl (A9 (AD rfl (Cg (k:=1) rfl rfl) (A2 (A0 rfl (A5 ⟨hcl2,(Wn ok eN hb hm h1 h2 hm' h1' h2' hmm).mono ?_⟩))))))))))))));rintro d x rfl;exact⟨_,rfl,_,rfl,(λh=>by cases h),λ_=>AV ⟨_,rfl,rfl⟩⟩
 .refine⟨_,rfl,A7 ?_⟩;have h4':¬ at'<4:=λh=>hp ((Mn h0).mpr (h4 h));refine AA (Ae (Cr (AO (A4 (A4 (A0 rfl (A9 (AD rfl (Cg (k:=0) rfl rfl) (A9 (Ik ⟨_,rfl,?_⟩))))))))));rw[if_pos (by decide)];refine AO (A4 (A0 rfl (A9 (Il ⟨_,rfl,(λh=>?_),λ_=>AV (A7 ?_)⟩))))
  .have:(at':Int)<4:=by simpa using h
   omega
  refine Ae (Cr (AO (A4 (A4 (A0 rfl (A9 (AD rfl (Cg (k:=0) rfl rfl) (A9 (LO ⟨_,rfl,?_⟩)))))))));rw[if_neg (by decide)];exact⟨(λh=>by cases h),λ_=>AV ⟨_,rfl,rfl⟩⟩
abbrev Lx(ns:List Int)(mo:Int)(ws:List Wm)(N:Nat)(c:Int)(z6 z7 z8 z9:Option D):Ls:=[some (.ro ns),some (.mu 1),some (.im (.int mo)),some (.im (AQ ws)),some (Ao ws.length N (fT c (wxs ws))),some (.mu 2),z6,z7,z8,z9]
set_option maxHeartbeats 1000000 in
def ax(ns:List Int):WF Rw [.ro ns] [] λd x=>d=.im (.bl true):=by
 unfold Rw;refine As rfl ?_;refine AA (AN (G6 (A2 (A0 rfl (A5 ((SJ ns).mono ?_))))));rintro d x ⟨rfl,a,b,hT,rfl⟩;refine A7 (AA (AN (Ff (Bc (A2 (A9 (A2 (A9 (A2 (A9 (A5 ⟨Dq,?_⟩)))))))))));refine DS (n:=80000) (A2 (A0 rfl (A2 (A9 (A5 ⟨a,b,[],3,rfl,rfl,tap.le hT (by omega),by decide,by decide,λr a b hT p q=>?_⟩)))));obtain⟨d2,hd2,ed2⟩:=at3 p q (.im (.int 3)) (.im (.int 5)) (.im (.int 8));refine⟨_,_,rfl,ed2,?_⟩;obtain⟨mo,rfl,hmo⟩:∃t,d2=.im (.int t)/\(1<=t/\t<=8):=by
  rcases hd2 with rfl|rfl|rfl<;>exact⟨_,rfl,by omega,by omega⟩
 refine A7 (AA (AN (EG (n:=70000) (c:=100) (A2 (A0 rfl (A2 (A0 rfl (A5 ⟨a,b,[],[.im (.int mo)],rfl,rfl,tap.le hT (by omega),by simp,MR 70000 hmo.1 hmo.2,?_⟩))))))));rintro i a b hT ⟨ws,c,rfl,ok,-⟩;have hl8:=ok.2.1;have hf:=DZ ok;obtain⟨N,eN⟩:∃N,N=(AH ws).toNat+1:=⟨_,rfl⟩
 have h0:0<N:=by omega
 refine A7 (AA (AN (AK (A2 (A0 rfl (A5 ⟨by simp,(Um ok (by decide)).mono ?_⟩))))));rintro d x rfl;rw[<- eN];refine⟨_,rfl,A7 ?_⟩;change WS _ [some (.ro ns),some (.mu 1),some (.im (.int mo)),some (.im (AQ ws)),some (Ao ws.length N (fT c (wxs ws))),none,none,none,none,none] [a,b] _;refine AA (AN (Ay (B7 (CM (Am (A2 (A9 (A2 (A9 (A2 (A9 (A5 ⟨Dq,_,rfl,Ab (by simp),?_⟩))))))))))));refine Kw (λr es ls hd=>∃(ms:List Int) (gs:List (Nat->Nat->Option Int)) (z:Option D) (a b:MO),r=Aq ms/\(∀m∈ms,0<=m/\m<=100)/\ms.length<=3/\gs.length+ms.length=3/\es=gs.map (Ao ws.length N)/\(∀g∈gs,C5 c ws N g ws.length)/\ls=[z,some (.mu 1),some (.im (AQ ws))]/\hd=[a,b]/\T (60000+2000*ms.length) a b) ⟨[0,1,12],[],none,a,b,rfl,(λm hm=>by simp only[mem_cons,not_mem_nil,or_false]at hm;omega),by simp,rfl,rfl,(λg hg=>by cases hg),rfl,rfl,tap.le hT (by simp)⟩ ?_ ?_
 .rintro d r es ls hd ⟨ms,gs,z,a,b,er,hms,l3,lg,rfl,hgs,rfl,rfl,hT⟩;cases ms with
  |nil=>cases er
  |cons m ms=>
   obtain⟨rfl,rfl⟩:=List.cons.inj er;obtain⟨m0,m1⟩:=hms m (by simp);refine⟨_,rfl,Bu ?_⟩;rw[if_pos rfl];refine EG (n:=60000+2000*ms.length) (c:=2000) (A2 (A0 rfl (A2 (A0 rfl (A2 (A0 rfl (A5 ⟨a,b,[],[.im (AQ ws),.im (.int m)],rfl,rfl,tap.le hT (by rw[length_cons];omega),by simp,KQ _ ok (by decide) eN m0 m1,?_⟩)))))));rintro i a b hT ⟨g,rfl,hg⟩;refine⟨Aa _,ms,gs++[g],_,a,b,rfl,λx hx=>hms x (by simp[hx]),by simp at l3;omega,by simp at lg ⊢;omega,by simp,λx hx=>?_,rfl,rfl,hT⟩;rcases mem_append.mp hx with hx|hx
   .exact hgs x hx
   .rw[mem_singleton]at hx;subst hx;exact hg
 rintro es ls hd ⟨ms,gs,z,a,b,er,hms,l3,lg,rfl,hgs,rfl,rfl,hT⟩;obtain rfl:ms=[]:=by cases ms with
  |nil=>rfl
  |cons _ _=>cases er
 have lg:gs.length=3:=by simpa using lg
 refine A7 ?_;change WS _ (Lx ns mo ws N c none none none none) [a,b,.lst (gs.map (Ao ws.length N))] _;refine AA (AN (Ay (Uj (A0 rfl ⟨gs.map (Ao ws.length N),rfl,A7 ?_⟩))));change WS _ (Lx ns mo ws N c (some (.mu 3)) none none none) [a,b,.lst (gs.map (Ao ws.length N)),.lst (gs.map (Ao ws.length N))] _;have app:∀{me:ME} {R:MS} {Q:Fl->Hd->Prop} {a b:MO} {L:List (Nat->Nat->Option Int)},L.length<=20->(WE me (Lx ns mo ws N c (some (.mu 3)) none none none) [a,b,.lst (L.map (Ao ws.length N)),.lst (gs.map (Ao ws.length N))] λd x=>∃g a' b',d=Ao ws.length N g/\x=[a',b',.lst (L.map (Ao ws.length N)),.lst (gs.map (Ao ws.length N))]/\WS R (Lx ns mo ws N c (some (.mu 3)) none none none) [a',b',.lst ((L++[g]).map (Ao ws.length N)),.lst (gs.map (Ao ws.length N))] Q)->WS (AE (BF (mMt BK (A1 5) (A3 me A6))) R) (Lx ns mo ws N c (some (.mu 3)) none none none) [a,b,.lst (L.map (Ao ws.length N)),.lst (gs.map (Ao ws.length N))] Q:=by
  intro me R Q a b L hL h;refine AA (Be (Hi (A0 rfl ⟨⟨L.map (Ao ws.length N),rfl⟩,A2 (h.mono ?_)⟩)));rintro d x ⟨g,a',b',rfl,rfl,hW⟩;refine A5 (Gj (ds:=L.map (Ao ws.length N)) rfl (E9 (by simp;omega)) (A7 ?_));rw[map_append]at hW;exact hW
 refine app (by omega) (AK (A2 (A0 rfl (A5 ⟨by simp,(Ip ok (by decide)).mono ?_⟩))));rintro d x rfl;rw[<- eN];refine⟨_,rfl,_,a,b,rfl,rfl,?_⟩;refine app (by simp;omega) (AK (A2 (EG (n:=50000) (c:=2) (R:=λi=>∃us,i=AQ us/\BS 501 c us/\us.length=ws.length/\us.map Wm.wt=ws.map Wm.wt) (A2 (A0 rfl (A2 (A0 rfl (A5 ⟨a,b,_,[.im (AQ ws)],rfl,rfl,tap.le hT (by simp),by simp,Qj 50000 ok (by decide),?_⟩))))))));rintro i a b hT ⟨us1,rfl,ok1,hul1,huw1⟩;refine A5 ⟨by simp,(Ip ok1 (by decide)).mono ?_⟩;rintro d x rfl;have eN1:N=(AH us1).toNat+1:=by rw[O1 huw1];exact eN
 refine⟨_,rfl,fT c (wxs us1),a,b,by rw[<- eN1,hul1],rfl,?_⟩;refine app (by simp;omega) (EG (n:=40000) (c:=2000) (R:=λi=>∃g,i=AZ ws.length N g) (A2 (A0 rfl (A2 (EG (n:=42000) (c:=2) (R:=λi=>∃us,i=AQ us/\BS 501 c us/\us.length=ws.length/\us.map Wm.wt=ws.map Wm.wt) (A2 (A0 rfl (A2 (A0 rfl (A5 ⟨a,b,_,[.im (AQ ws)],rfl,rfl,tap.le hT (by decide),by simp,Qj 42000 ok (by decide),?_⟩))))))))));rintro i a b hT ⟨us,rfl,ok2,hul,huw⟩;have eN2:N=(AH us).toNat+1:=by rw[O1 huw];exact eN
 refine A2 (A9 (A5 ⟨a,b,_,[.im (AQ us),.im (.int 0)],rfl,rfl,tap.le hT (by decide),by simp,λa b hT=>(KQ 40000 ok2 (by decide) eN2 (by decide) (by decide) a b hT).mono ?_,?_⟩))
 .rintro d x ⟨i,a',b',y,rfl,⟨g,rfl,-⟩,hT,rfl⟩;exact⟨_,a',b',y,rfl,⟨g,by rw[hul]⟩,hT,rfl⟩
 rintro i a b hT ⟨g5,rfl⟩;refine⟨g5,a,b,rfl,rfl,?_⟩;have own:∀r:Int,0<=r->r<3->∃g∈gs,atI (gs.map (Ao ws.length N)) r=some (Ao ws.length N g):=λr p q=>by
  obtain⟨k,rfl⟩:∃k:Nat,r=(k:Int):=⟨r.toNat,by omega⟩
  have hk:k<gs.length:=by omega
  exact⟨gs[k],List.getElem_mem hk,Cg rfl (by simp[hk])⟩
 have step:∀(n:Nat) (g:Nat->Nat->Option Int),∀a b,T (n+3) a b->WF D8 [.mu 1,Ao ws.length N g] [a,b] λd x=>∃i a' b' y,d=.im i/\(∃g',i=AZ ws.length N g')/\T n a' b'/\x=a'::b'::y:=λn g=>Pq n hl8 (by omega) h0 g;refine app (by simp;omega) (EG (n:=30000) (c:=3) (R:=λi=>∃g',i=AZ ws.length N g') (A2 (A0 rfl (A2 (A4 (A0 rfl (DS (n:=30003) (A2 (A0 rfl (A2 (A9 (A5 ⟨a,b,_,3,rfl,rfl,tap.le hT (by decide),by decide,by decide,λr a b hT p q=>?_⟩))))))))))));obtain⟨g6,-,e6⟩:=own r p q;refine AD (svl (ds:=gs.map (Ao ws.length N)) rfl) e6 (A5 ⟨a,b,_,[Ao ws.length N g6],rfl,rfl,hT,by simp,step 30000 g6,?_⟩);rintro i a b hT ⟨g7,rfl⟩;refine⟨g7,a,b,rfl,rfl,?_⟩;refine app (by simp;omega) (EG (n:=20000) (c:=3) (R:=λi=>∃g',i=AZ ws.length N g') (A2 (A0 rfl (A2 (EG (n:=20003) (c:=3) (R:=λi=>∃g',i=AZ ws.length N g') (A2 (A0 rfl (A2 (A4 (A0 rfl (DS (n:=20006) (A2 (A0 rfl (A2 (A9 (A5 ⟨a,b,_,3,rfl,rfl,tap.le hT (by decide),by decide,by decide,λr a b hT p q=>?_⟩))))))))))))))));obtain⟨g8,-,e8⟩:=own r p q;refine AD (svl (ds:=gs.map (Ao ws.length N)) rfl) e8 (A5 ⟨a,b,_,[Ao ws.length N g8],rfl,rfl,hT,by simp,step 20003 g8,?_⟩);rintro i a b hT ⟨g9,rfl⟩;refine A5 ⟨a,b,_,[Ao ws.length N g9],rfl,rfl,hT,by simp,step 20000 g9,?_⟩;rintro i a b hT ⟨g10,rfl⟩;refine⟨g10,a,b,rfl,rfl,?_⟩;have first:∀(k:Nat) (g:Nat->Nat->Option Int),(gs++[fT c (wxs ws)]++[fT c (wxs us1)]++[g5]++[g7]++[g10])[k]?=some g->k<4->C5 c ws N g ws.length:=by
  intro k g hk h4;rw[append_assoc,append_assoc,append_assoc,append_assoc]at hk;rcases Nat.lt_or_ge k gs.length with h|h
  .rw[List.getElem?_append_left h]at hk;exact hgs g (mem_of_getElem? hk)
  .obtain rfl:k=gs.length:=by omega
   rw[List.getElem?_append_right (le_refl _),Nat.sub_self]at hk;cases hk;exact Uk c ws N
 generalize gs++[fT c (wxs ws)]++[fT c (wxs us1)]++[g5]++[g7]++[g10]=L at first ⊢
 refine AA (BL (Co (EW (A0 rfl ⟨2,L.map (Ao ws.length N),rfl,rfl,?_⟩))));change WP (Az _ _ _ (((L.map (Ao ws.length N)).zipIdx 0).map enD) _ _) _;refine BJ (λr ls hd=>∃(dn rest:List (Nat->Nat->Option Int)) (z7 z8 z9:Option D),L=dn++rest/\r=((rest.map (Ao ws.length N)).zipIdx dn.length).map enD/\ls=Lx ns mo ws N c (some (.mu 3)) z7 z8 z9/\hd=[a,b,.lst (L.map (Ao ws.length N)),.lst (gs.map (Ao ws.length N))]) ⟨[],L,none,none,none,rfl,rfl,rfl,rfl⟩ ?_ ?_
 .rintro d r ls hd ⟨dn,rest,z7,z8,z9,eL,er,rfl,rfl⟩;cases rest with
  |nil=>cases er
  |cons g rest=>
   rw[map_cons,zipIdx_cons,map_cons]at er;obtain⟨rfl,rfl⟩:=List.cons.inj er;refine⟨Lx ns mo ws N c (some (.mu 3)) (some (.im (.int (dn.length:Int)))) (some (Ao ws.length N g)) z9,rfl,?_⟩;refine(bF ok eN (at':=dn.length) (g:=g) (λh=>first dn.length g (by rw[eL];simp) h)).mono ?_;rintro f x ⟨y9,rfl,rfl⟩;refine⟨λp hp=>by rw[mem_singleton]at hp;subst hp;rfl,dn++[g],rest,_,_,y9,by rw[eL];simp,by simp,rfl,rfl⟩
 .rintro ls hd ⟨dn,rest,z7,z8,z9,eL,er,rfl,rfl⟩;exact A7 (AU (A9 rfl))
def law_eq(ns:List Int):∃hd,Rw [.ro ns] []=some (.im (.bl true),hd):=by
 obtain⟨d,x,e,rfl⟩:=ax ns;exact⟨x,e⟩
open PySem L2 PySem.W PyProof.Rows
abbrev xS:Xs:=[("by_dues",((("by_dues":Str)++".<locals>.")++"<lambda>"),40,41)]
def N0:FnScope ["self","path","word"] ["self","path","word"] (AB (Ea.inC (top 2))):=Ax (by kernel_rfl)
def NA:Ini (Ea.inC (top 2)) ["self","path","word"] ["path","word"]:=⟨λF c nA=>TH F N0 rfl c (nA _ (by simp)) (nA _ (by simp)) (by decide) (λ_ _ _ _ _ _=>rfl) (λ_ _ _ _ _ _=>rfl) (Or.inl rfl) (Or.inl rfl) (Or.inl rfl) (by decide) (by decide) (by decide) (by decide),rfl,by decide,λ_ _ _ _ _ _ _ us hl=>match us,hl with|[_,_,_],_=>rfl⟩
def all_mk{l:PySem.W.OpenLaw}{w:World}{K:PySem.W.Frag}{h:Heap}{mg:Str->Option Value}{fa:Addr}{c P:Str->Addr}(X:K.In h)(G:h.Ns mainGlobals mg)(hfa:mg "law"=some (.ref fa))(hx:HX xS mg h c P)(F:Pa K):HG l w K xS mg c P fa PQ:=by
 obtain⟨Z,h0,h1,h2,h3,h4,h6,h7,h8,h9,h10,h11,h12,h13,h14,h15,h16,h17,h18,h19,h20,h21,h22,h23,h24,h25,h26,h27,h28,h29,h30,h31,h32,h33,h34,h35,p5,cc0,h5,tn,ec_NoPaper,ns_NoPaper,kt0⟩:=F;have B:=(zsE Z).blt X G;have nd:((Cu (B3 K (tbs xS P))).map (·.1)).Nodup:=al (ps:=[p5]) (by show [P "by_dues"]=_;rw[((flE (e:=Db) h5).code X G hx (.head _)).1]) tn;refine Ta X G hfa hx (feE h0) bd1 rfl λbase hd bl=>?_;obtain⟨o_is_number,o_is_tuple_of,o_same_coming,o_one_coming,o_refuse_other_costs,o_weight_of,o_late_coming,o_by_dues,o_full_weight,o_no_more,o_put_behind,o_greatest_weight,ox_look_at_shape,o_look_at_shape,ox_look_at_row,o_look_at_row,ox_look_at_places,o_look_at_places,ox_lets_table,o_lets_table,o_next_row,o_table_of,o_source,o_pick,o_late_works,o_alike,o_lby_dues,o_sets,o_table,o_highest,o_free,o_lowered,o_is_entry,o_shape,o_last,o_near,o_stepped,o_let,o_is_so,o_law⟩:=oks (E:=enM l w K xS P mg base) B
  (Ec.cl X G hx ec_NoPaper NA)
  (⟨⟨_,PySem.W.mg_of X G ns_NoPaper⟩,λnm hh=>by rcases mem_cons.mp hh with rfl|hh;(· exact Ec.ch X G hx ec_NoPaper ns_NoPaper kt0);cases hh⟩)
 have g1:=o_same_coming ((feE h1).dn X G hx bd1 l w base);have g2:=o_one_coming ((feE h2).dn X G hx bd1 l w base) g1;have g3:=o_refuse_other_costs ((feE h3).dn X G hx bd2 l w base);have g4:=o_late_coming ((feE h4).dn X G hx bd1 l w base) g2 g3;have g5:=o_by_dues ((flE h5).dl X G hx bd1 (.head _) l w hd bl nd rfl);have g6:=o_weight_of ((feE h6).dn X G hx bd1 l w base);have g7:=o_full_weight ((feE h7).dn X G hx bd1 l w base) g6;have g8:=o_no_more ((feE h8).dn X G hx bd2 l w base);have g9:=o_put_behind ((feE h9).dn X G hx bd3 l w base);have g10:=o_next_row ((feE h10).dn X G hx bd2 l w base) g8 g9;have g11:=o_table_of ((feE h11).dn X G hx bd1 l w base) g4 g5 g7 g10;have g12:=o_source ((feE h12).dn X G hx bd1 l w base);have g13:=o_pick ((feE h13).dn X G hx bd2 l w base);have g14:=o_late_works ((feE h14).dn X G hx bd2 l w base) g13;have g15:=o_lby_dues ((feE h15).dn X G hx bd1 l w base);have g16:=o_sets ((feE h16).dn X G hx bd1 l w base) g15;have g17:=o_table ((feE h17).dn X G hx bd1 l w base) g16;have g18:=o_highest ((feE h18).dn X G hx bd3 l w base);have g19:=o_free ((feE h19).dn X G hx bd3 l w base) g13;have g20:=o_lowered ((feE h20).dn X G hx bd3 l w base) g13 g15 g18 g19;have g21:=o_near ((feE h21).dn X G hx bd2 l w base) g13;have g22:=o_stepped ((feE h22).dn X G hx bd2 l w base) g13;have g23:=o_greatest_weight ((feE h23).dn X G hx bd1 l w base);have g24:=o_is_number ((feE h24).dn X G hx bd1 l w base);have g25:=o_is_tuple_of ((feE h25).dn X G hx bd2 l w base);have gx26:=ox_look_at_shape ((feE h26).dn X G hx bd3 l w base) g24 g25 g7;have g26:=o_look_at_shape ((feE h26).dn X G hx bd3 l w base) g24 g25 g7;have gx27:=ox_look_at_row ((feE h27).dn X G hx bd4 l w base) g8 g9;have g27:=o_look_at_row ((feE h27).dn X G hx bd4 l w base) g8 g9;have gx28:=ox_look_at_places ((feE h28).dn X G hx bd3 l w base) g4 g5 g8 g27 gx27;have g28:=o_look_at_places ((feE h28).dn X G hx bd3 l w base) g4 g5 g8 g27;have gx29:=ox_lets_table ((feE h29).dn X G hx bd2 l w base) g4 g7 g23 g26 g28 gx26 gx28;have g29:=o_lets_table ((feE h29).dn X G hx bd2 l w base) g4 g7 g23 g26 g28;have g30:=o_let ((feE h30).dn X G hx bd2 l w base) g29 gx29;have g31:=o_alike ((feE h31).dn X G hx bd2 l w base);have g32:=o_is_entry ((feE h32).dn X G hx bd1 l w base);have g33:=o_shape ((feE h33).dn X G hx bd3 l w base) g32;have g34:=o_last ((feE h34).dn X G hx bd1 l w base);have g35:=o_is_so ((feE h35).dn X G hx bd4 l w base) g31 g33 g34;exact o_law ((feE h0).dn X G hx bd1 l w base) g11 g12 g13 g14 g17 g20 g21 g22 g30 g35
end T43
theorem PySem.Challenge.cw_benchdays_k43_whole_any_table_holds : PySem.Challenge.rw_benchdays_k43_whole_any_table.Holds := by
 refine T43.early λK F d hd hdf=>L2.walkL T43.xS (l:=PySem.Challenge.rw_benchdays_k43_whole_any_table) (n:=63) (k:=8) (F:=T43.Rw) rfl (by decide) hdf ⟨rfl,by decide,by decide,rfl⟩ (by intro x hx;simp only[T43.xS,mem_cons,not_mem_nil,or_false]at hx;subst hx;exact⟨_,rfl⟩) T43.law_eq (λw h Y=>Y) λw mg fa h c P X G hmg hx=>?_;rw[hd]at hmg;exact T43.all_mk X G hmg hx (F w)
