import PyProof.Rows.All
import Wide.All
import OpenK.AllK
import Wide.FinOn
import Lean
import PyProof.EqAt
import PyProof.EqKinds
import PyProof.TupleCall
import KE.KSortKey
import PyProof.ListMulRoad
import PyProof.Draws
import PyProof.EnumMake
import PyProof.ListNew
import KE.KRevIter
import KE.KMinKey
import PyProof.TupleKey
import PySem.Challenge.RW_benchdays_k47_ends_papers_told
set_option Elab.async false
set_option linter.all false
set_option maxRecDepth 100000
noncomputable section
set_option hygiene false in
local macro_rules | `(tactic| and_intros) => `(tactic| intro ρ σ H hd ls Q d hd' hR hL hm hQ)
open List(mem_cons mem_filter filterMap_cons mem_cons_self mem_cons_of_mem mem_append mem_append_left mem_append_right size_toArray append_nil nodup_cons of_mem_zip length_take mem_of_getElem? length_append length_map replicate_succ flatten_cons append_assoc map_nil map_cons find?_cons any_cons length_cons length_nil lookup_cons lookup_append mem_map all_eq_true mem_singleton mem_iff_getElem? cons_append nodup_append map_map drop_eq_getElem_cons take_append_drop zipIdx_cons not_mem_nil mergeSort_perm pairwise_mergeSort ext_getElem? map_snd_zip map_congr_left pairwise_map map_id nodup_range filter_cons sum_cons map_append length_range range_succ)
open Option(bind_some isSome_iff_exists none_or getD_some map_eq_some_iff map_some)
open Nat(lt_of_lt_of_le lt_irrefl ne_of_lt le_trans le_of_lt ne_of_gt le_refl lt_trans zero_le lt_succ_of_lt lt_succ_self le_add_right le_succ min_eq_left)
open Int(toNat_natCast)
def c5{α β:Type _}{o:Option α}{f:α->Option β}{b:β}(h:o.bind f=some b):∃a,o=some a/\f a=some b:=Option.bind_eq_some_iff.mp h
def c7{α β:Type _}{o:Option α}{f:α->β}{b:β}(h:o.map f=some b):∃a,o=some a/\f a=b:=Option.map_eq_some_iff.mp h
set_option compiler.extract_closed false
local macro_rules | `(tactic| omega) => `(tactic| first | lia | omega (config := {}))
namespace Ea
open PySem PySem.W
def dA(s:Stmt):Arguments:=match s with
 |.FunctionDef _ a _ _ _ _ _ _ _ _=>a
 |_=>{ posonlyargs:=[],args:=[],vararg:=none,kwonlyargs:=[],kw_defaults:=[],kwarg:=none,defaults:=[] }
def dB(s:Stmt):List Stmt:=match s with
 |.FunctionDef _ _ b _ _ _ _ _ _ _=>b
 |_=>[]
def dS(s:Stmt):Scope:=match s with
 |.FunctionDef _ _ _ _ _ _ sc _ _ _=>sc
 |_=>{ kind:=.function,names:=[],isGenerator:=false,isCoroutine:=false }
def tO(o:Obj):Option Addr:=match o.data with
 | .fields vs=>(match (vs[11]?:Option Value)with
  |some (Value.ref P)=>some P
  | _=>none)
 |_=>none
def At(K:Frag)(n:Str)(s:Stmt)(f:Addr)(cd:Value):Prop:=∃oc kV dc pm ct od an sl,nsIn K mainGlobals n=some (some (.ref f))/\K.lookup f=some ⟨oc,od,.func (fnOf n n (dA s) (dB s) (dS s) .none kV dc pm an cd ct),sl⟩/\codeIn K cd n=true/\keepIn K (.ref f)=true
def Fe(K:Frag)(n:Str)(s:Stmt):Prop:=∃f cd,At K n s f cd
def Fl(K:Frag)(n:Str)(s:Stmt)(p:Addr):Prop:=∃f ca ob,At K n s f (.ref ca)/\K.lookup ca=some ob/\tO ob=some p
section
variable{K:Frag}{n:Str}{s:Stmt}{f ca p:Addr}{oc kV dc pm cd ct:Value}{od an:Option Addr}{sl:Array (Option Value)}{ob:Obj}
def feI(a:nsIn K mainGlobals n=some (some (.ref f)))(l:K.lookup f=some ⟨oc,od,.func (fnOf n n (dA s) (dB s) (dS s) .none kV dc pm an cd ct),sl⟩)(c:codeIn K cd n=true)(k:keepIn K (.ref f)=true):Fe K n s:=⟨f,cd,_,_,_,_,_,_,_,_,a,l,c,k⟩
def flI(a:nsIn K mainGlobals n=some (some (.ref f)))(l:K.lookup f=some ⟨oc,od,.func (fnOf n n (dA s) (dB s) (dS s) .none kV dc pm an cd ct),sl⟩)(c:codeIn K cd n=true)(k:keepIn K (.ref f)=true)(u:cd=.ref ca)(t:K.lookup ca=some ob)(v:tO ob=some p):Fl K n s p:=by
 subst u;exact⟨f,ca,ob,⟨_,_,_,_,_,_,_,_,a,l,c,k⟩,t,v⟩
end
abbrev Yo:List Str:=["list","tuple","len","range","repr","sum","min","max","abs","all","any","sorted","zip","isinstance","int","bool","str","set","enumerate","reversed","dict"]
def Zs(K:Frag):Prop:=∀n∈Yo,nsIn K mainGlobals n=some none
def Zg(K:Frag)(l:List Str):Prop:=∀n∈l,nsIn K mainGlobals n=some none
def zs0{K:Frag}:Zg K []:=λ_ h=>nomatch h
def zs1{K:Frag}{n:Str}{l:List Str}(h:nsIn K mainGlobals n=some none)(r:Zg K l):Zg K (n::l):=λm hm=>by
 rcases mem_cons.mp hm with rfl|hm
 .exact h
 .exact r m hm
end Ea
namespace L2
open PySem
def Zp(nm:Str)(p:Addr×Obj):Bool:=match p.2.data with
 |.cls cd=>cd.name==nm
 |_=>false
def Zq(K:PySem.W.Frag)(nm:Str):Option Addr:=(K.find? (Zp nm)).map (·.1)
end L2
namespace Ea
open PySem PySem.W
section
variable{K:Frag}{nm:Str}{s:Stmt}{fs:List Str}{C fI N:Addr}{nm' q:Str}{bs bm sub:List Value}{sn:List Str}{ab:Bool}{col:Option Bool}{dd od an:Option Addr}{k0 k1 k2 k3 k5:Option Value}{oc kV dc pm cd ct:Value}{sl:Array (Option Value)}
def na1{f:Str}(h:findIn K (.ref C) f=some none)(r:∀f∈fs,findIn K (.ref C) f=some none):∀g∈f::fs,findIn K (.ref C) g=some none:=λg hg=>by
 rcases mem_cons.mp hg with rfl|hg
 .exact h
 .exact r g hg
end
end Ea
namespace Hl
open PySem PySem.W PyProof.Rows
def Np(p:Program)(w:World)(m:Nat)(ann:Option Value):Nat->SharedT->Thread->Option SharedT
 |0,_,_=>none
 |n+1,s,t=>match through t with
  |true=>some s
  |false=>match stepOk m ann t with
   |false=>none
   |true=>match stepT (denote treeTable) p w s t with
    |some (s',t')=>Np p w m ann n s' t'
    |none=>none
theorem N5{p:Program}{w:World}{m:Nat}{ann:Option Value}:∀{n:Nat} {s s':SharedT} {t:Thread},Np p w m ann n s t=some s'->topRun treeTable p w m ann n s.abs t=some s'.abs
 |0,_,_,_,h=>by cases h
 |n+1,s,s',t,h=>by
  rw[Np]at h;rw[topRun];cases h1:through t with
  |true=>rw[h1]at h;cases h;rfl
  |false=>
   rw[h1]at h;cases h2:stepOk m ann t with
   |false=>rw[h2]at h;cases h
   |true=>
    rw[h2]at h;cases h3:stepT (denote treeTable) p w s t with
    |none=>rw[h3]at h;cases h
    |some r=>obtain⟨s2,t2⟩:=r;rw[h3]at h;rw[stepT_spec h3];exact N5 h
def T7:Nat->List Obj->BT->BT
 |_,[],t=>t
 |n,o::r,t=>T7 (n+1) r (t.ins n o)
def bT(P:Params):BT:=T7 0 (boot_heap P).objs.toList .nil
def Yn(P:Params):absHeap (bT P) 11 (boot_heap P).life=boot_heap P:=by kernel_rfl
def ac(P:Params):((boot_heap P).isNs mainGlobals,(boot_heap P).nsMap mainGlobals "__annotations__")=(true,some (.ref 6)):=by kernel_rfl
variable{p q:Program}{loose:List Str}{Xt:Shared->Bool}{α:Type}{Yf:Shared->α}{Ya:World->α}{N M:Nat}
def YG(p q:Program)(loose:List Str)(Xt:Shared->Bool)(Yf:Shared->α)(M:Nat)(w:World)(os:OsState):=
 match Np p w 11 (some (.ref 6)) M ⟨bT w.params,11,(boot_heap w.params).life,Array.mk [],boot_drawn,boot_toks,os⟩ (topStub p)with
 | some s=>(match staticsOk (importedModules p.main.body) (boot_heap w.params) s.abs.heap&&namesBound p s.abs.heap&&gensDone s.abs&&laidKept (boot_heap w.params) s.abs.heap with
  |true=>some (openSeen q loose (importedModules p.main.body) Xt true s.abs,Yf s.abs)
  | false=>none)
 |none=>none
def left(e:opening p=plainProg p.main.scope.names)(f:∀s,fenceModules? p s=some s)(hN:Nat.ble 600 N=true)(hM:Nat.ble M N=true)(h:∀w os,YG p q loose Xt Yf M w os=some (openGood q loose,Ya w)):LeftO p q loose Xt Yf Ya N:=λw=>by
 obtain⟨⟨hp,gs,d,k,os⟩,e1,e2⟩:=c7 (boot_open e hN f w);simp only[Prod.mk.injEq]at e2;obtain⟨rfl,rfl,rfl,rfl⟩:=e2;have hl:=h w os;unfold YG at hl;split at hl
 .next s hs=>
  have r:=topRun_mono (N-M) _ _ _ _ (N5 hs);rw[show M+(N-M)=N by have:=Nat.le_of_ble_eq_true hM;omega]at r;have ea:(SharedT.mk (bT w.params) 11 (boot_heap w.params).life (Array.mk []) boot_drawn boot_toks os).abs=⟨boot_heap w.params,Array.mk [],boot_drawn,boot_toks,os⟩:=by
   show Shared.mk (absHeap (bT w.params) 11 (boot_heap w.params).life) _ _ _ _=_;rw[Yn]
  rw[ea]at r;obtain⟨z1,z2⟩:=Prod.mk.inj (ac w.params);have z3:(boot_heap w.params).objs.size=11:=rfl;split at hl
  .next c=>
   show((fencedOpening treeTable p w N).bind (topFrom treeTable p w N)).map _=_;rw[e1,bind_some];have t:topFrom treeTable p w N ⟨boot_heap w.params,Array.mk [],boot_drawn,boot_toks,os⟩=some s.abs:=by
    unfold topFrom;dsimp only;rw[z1,z2,z3,r];show(match staticsOk (importedModules p.main.body) (boot_heap w.params) s.abs.heap&&namesBound p s.abs.heap&&gensDone s.abs&&laidKept (boot_heap w.params) s.abs.heap with|true=>some s.abs|false=>none)=_;rw[c]
   rw[t];exact hl
  .cases hl
 .cases hl
end Hl
namespace T47
open PySem PySem.W PyProof.Rows Ea
def top(i:Nat):Stmt:=PySem.Challenge.pw_benchdays_k47_ends_papers_told.main.body.getD i (.Pass ⟨0,0,0,0⟩)
def vw:PySem.Program:={ PySem.Challenge.pw_benchdays_k47_ends_papers_told with main:={ PySem.Challenge.pw_benchdays_k47_ends_papers_told.main with body:=[1,2,3,5,6,8,9,10,11,12,14,15,17,18,19,20,21,22,23,24,25,27,28,30,32,33,34,35,37,38,39,41,42,43,44,45,46,47,48,49,50,51,52,53,54].map top } }
def Ow(K:Frag):Prop:=Zs K/\Fe K "law" (top 54)/\Fe K "same_coming" (top 8)/\Fe K "one_coming" (top 9)/\Fe K "refuse_other_costs" (top 10)/\Fe K "late_coming" (top 17)/\Fe K "weight_of" (top 11)/\Fe K "full_weight" (top 19)/\Fe K "no_more" (top 20)/\Fe K "put_behind" (top 21)/\Fe K "next_row" (top 27)/\Fe K "table_of" (top 28)/\Fe K "ends_of" (top 30)/\Fe K "turned" (top 32)/\Fe K "add_piece" (top 14)/\Fe K "one_weight" (top 12)/\Fe K "end_weight" (top 33)/\Fe K "ends_paper" (top 35)/\Fe K "is_tuple_of" (top 6)/\Fe K "is_number" (top 5)/\Fe K "look_at_shape" (top 23)/\Fe K "look_at_entry_shape" (top 37)/\Fe K "greatest_weight" (top 22)/\Fe K "look_at_row" (top 24)/\Fe K "look_at_places" (top 25)/\Fe K "look_at_entry" (top 38)/\Fe K "lets_ends" (top 39)/\Fe K "_law_source" (top 41)/\Fe K "_law_pick" (top 42)/\Fe K "_law_end_works" (top 43)/\Fe K "_law_alike" (top 44)/\Fe K "_law_least_left" (top 52)/\Fe K "_law_is_entry" (top 47)/\Fe K "_law_shape" (top 48)/\Fe K "_law_by_dues" (top 45)/\Fe K "_law_highest" (top 46)/\Fe K "_law_places" (top 49)/\Fe K "_law_last" (top 50)/\Fe K "_law_turned" (top 51)/\Fe K "_law_judged" (top 53)/\∃p5 p15 p18,Fl K "by_dues" (top 18) p5/\Fl K "ranked_plan" (top 15) p15/\Fl K "left_plan" (top 34) p18/\([p5,p15,p18]:List Addr).Nodup
def aR{K:Frag}{p5 p15 p18:Addr}(z:Zs K)(h0:Fe K "law" (top 54))(h1:Fe K "same_coming" (top 8))(h2:Fe K "one_coming" (top 9))(h3:Fe K "refuse_other_costs" (top 10))(h4:Fe K "late_coming" (top 17))(h6:Fe K "weight_of" (top 11))(h7:Fe K "full_weight" (top 19))(h8:Fe K "no_more" (top 20))(h9:Fe K "put_behind" (top 21))(h10:Fe K "next_row" (top 27))(h11:Fe K "table_of" (top 28))(h12:Fe K "ends_of" (top 30))(h13:Fe K "turned" (top 32))(h14:Fe K "add_piece" (top 14))(h16:Fe K "one_weight" (top 12))(h17:Fe K "end_weight" (top 33))(h19:Fe K "ends_paper" (top 35))(h20:Fe K "is_tuple_of" (top 6))(h21:Fe K "is_number" (top 5))(h22:Fe K "look_at_shape" (top 23))(h23:Fe K "look_at_entry_shape" (top 37))(h24:Fe K "greatest_weight" (top 22))(h25:Fe K "look_at_row" (top 24))(h26:Fe K "look_at_places" (top 25))(h27:Fe K "look_at_entry" (top 38))(h28:Fe K "lets_ends" (top 39))(h29:Fe K "_law_source" (top 41))(h30:Fe K "_law_pick" (top 42))(h31:Fe K "_law_end_works" (top 43))(h32:Fe K "_law_alike" (top 44))(h33:Fe K "_law_least_left" (top 52))(h34:Fe K "_law_is_entry" (top 47))(h35:Fe K "_law_shape" (top 48))(h36:Fe K "_law_by_dues" (top 45))(h37:Fe K "_law_highest" (top 46))(h38:Fe K "_law_places" (top 49))(h39:Fe K "_law_last" (top 50))(h40:Fe K "_law_turned" (top 51))(h41:Fe K "_law_judged" (top 53))(h5:Fl K "by_dues" (top 18) p5)(h15:Fl K "ranked_plan" (top 15) p15)(h18:Fl K "left_plan" (top 34) p18)(tn:([p5,p15,p18]:List Addr).Nodup):Ow K:=⟨z,h0,h1,h2,h3,h4,h6,h7,h8,h9,h10,h11,h12,h13,h14,h16,h17,h19,h20,h21,h22,h23,h24,h25,h26,h27,h28,h29,h30,h31,h32,h33,h34,h35,h36,h37,h38,h39,h40,h41,_,_,_,h5,h15,h18,tn⟩
local macro_rules | `(tactic| o_head $H) => `(tactic| (refine holds_open (r := PySem.Challenge.rw_benchdays_k47_ends_papers_told.row) (q := T47.vw) (loose := []) (Xt := λ s => xlAt T47.vw [] s && recOk (RowW.records (OpenRow.toRowW PySem.Challenge.rw_benchdays_k47_ends_papers_told.row)) s) (XP := XL T47.vw []) (Yf := Hook.obs $H) (Ya := Hook.val $H) (YP := Hook.says $H) (N := 100000) ?hl (Hook.of $H) (Hook.keeps $H) (λ s e => xl_of s (Bool.and_eq_true_iff.mp e).1) XL.keeps (by rfl) (by rfl) (by rfl) (λ s e => recFacts_of (Bool.and_eq_true_iff.mp e).2) (by rfl) (by first | assumption | decide +kernel) (by decide +kernel) ⟨rfl, rfl, rfl, rfl, rfl, by decide +kernel⟩ ?hw ?hc; (case hl => exact Hl.left (M := 10000) (by rfl) (λ s => by rfl) (by decide) (by decide) λ w os => by kernel_rfl)))
set_option maxRecDepth 100000 in
set_option maxHeartbeats 0 in
def early(hG:∀(K:Params->Frag),(∀w:World,Ow (K w.params))->∀d:DefRec,d.name="law"->d.params.defaults=[]->WalkO T47.vw [] (XL T47.vw []) (λw h=>(K w.params).In h) PySem.Challenge.rw_benchdays_k47_ends_papers_told.row.toRowW d [] (λf vs=>PySem.call f vs)):PySem.Challenge.rw_benchdays_k47_ends_papers_told.Holds:=by
 w_on;o_law;k_head;(case hw=>w_witness2)
 k_fill
 refine λw s₀ s₁ mg mb G Y=>hG _ ?F _ rfl rfl w s₀ s₁ mg mb G (km_in_of Y)
 case F=>
  intro w;refine' aR ?z ?h0 ?h1 ?h2 ?h3 ?h4 ?h6 ?h7 ?h8 ?h9 ?h10 ?h11 ?h12 ?h13 ?h14 ?h16 ?h17 ?h19 ?h20 ?h21 ?h22 ?h23 ?h24 ?h25 ?h26 ?h27 ?h28 ?h29 ?h30 ?h31 ?h32 ?h33 ?h34 ?h35 ?h36 ?h37 ?h38 ?h39 ?h40 ?h41 ?h5 ?h15 ?h18 ?tn
  case z=>(refine' zs1 _ (zs1 _ (zs1 _ (zs1 _ (zs1 _ (zs1 _ (zs1 _ (zs1 _ (zs1 _ (zs1 _ (zs1 _ (zs1 _ (zs1 _ (zs1 _ (zs1 _ (zs1 _ (zs1 _ (zs1 _ (zs1 _ (zs1 _ (zs1 _ (zs0)))))))))))))))))))))<;>k_is)
  case h0|h1|h2|h3|h4|h6|h7|h8|h9|h10|h11|h12|h13|h14|h16|h17|h19|h20|h21|h22|h23|h24|h25|h26|h27|h28|h29|h30|h31|h32|h33|h34|h35|h36|h37|h38|h39|h40|h41=>(refine' feI ?a ?l ?c ?k;case a|l|c|k=>k_is)
  case h5|h15|h18=>(refine' flI ?a ?l ?c ?k ?u ?t ?v;(case a|l|c|k=>k_is);(case u=>rfl);(case t=>k_is);(case v=>rfl))
  case tn=>decide
end T47
namespace L2
open PySem PySem.Spec PyProof.Rows
abbrev Key:=Sum Int Str
def HP:Key->Value->Bool
 |.inl k,v=>Value.isInt k v
 |.inr x,v=>Value.isStrOf x v
def aP(w:World):Key->Int
 |.inl k=>hashInt k
 |.inr x=>hashStr w x
def BP:∀{k:Key} {v:Value},HP k v=true->(∃i t,k=Sum.inl i/\v=Value.int i t)∨(∃x t,k=Sum.inr x/\v=Value.str x t)
 |.inl i,v,h=>by
  obtain⟨t,e⟩:=Value.isInt_shape (k:=i) (v:=v) h;exact .inl ⟨i,t,rfl,e⟩
 |.inr x,v,h=>by
  obtain⟨t,e⟩:=Value.isStrOf_shape (x:=x) (v:=v) h;exact .inr ⟨x,t,rfl,e⟩
def Q8(i:Int)(t:Tok):HP (.inl i) (.int i t)=true:=by simp[HP,Value.isInt]
def Q7(x:Str)(t:Tok):HP (.inr x) (.str x t)=true:=by simp[HP,Value.isStrOf]
def YL(a b:Int):decide ((Sum.inl a:Key)=Sum.inl b)=(a==b):=by
 by_cases e:a=b
 .subst e;simp
 .have h:¬ (Sum.inl a:Key)=Sum.inl b:=λq=>e (Sum.inl.inj q);rw[decide_eq_false h];exact(beq_eq_false_iff_ne.mpr e).symm
def YI(a b:Str):decide ((Sum.inr a:Key)=Sum.inr b)=decide (a=b):=by
 by_cases e:a=b
 .subst e;simp
 .have h:¬ (Sum.inr a:Key)=Sum.inr b:=λq=>e (Sum.inr.inj q);rw[decide_eq_false h,decide_eq_false e]
def YK(a:Int)(b:Str):decide ((Sum.inl a:Key)=Sum.inr b)=false:=decide_eq_false (λq=>nomatch q)
def YJ(a:Str)(b:Int):decide ((Sum.inr a:Key)=Sum.inl b)=false:=decide_eq_false (λq=>nomatch q)
def BF(prog:Program)(w:World):PySem.KeyKind prog w Key where
 is:=HP
 hash:=aP w
 inj:=λv a b ha hb=>by
  rcases BP ha with⟨i,t,rfl,rfl⟩|⟨x,t,rfl,rfl⟩
  .rcases BP hb with⟨j,u,rfl,e⟩|⟨y,u,rfl,e⟩
   .injection e with e1 _;rw[e1]
   .exact nomatch e
  .rcases BP hb with⟨j,u,rfl,e⟩|⟨y,u,rfl,e⟩
   .exact nomatch e
   .injection e with e1 _;rw[e1]
 byValue:=λk v h=>by
  rcases BP h with⟨i,t,rfl,rfl⟩|⟨x,t,rfl,rfl⟩<;>rfl
 pyHash:=λhv h=>by
  rcases BP hv with⟨i,t,rfl,rfl⟩|⟨x,t,rfl,rfl⟩
  .exact wpAny_pyHash_int h
  .exact wpAny_pyHash_str h
 eqBool:=λhu hv h=>by
  rcases BP hu with⟨i,t,rfl,rfl⟩|⟨x,t,rfl,rfl⟩
  .rcases BP hv with⟨j,u,rfl,rfl⟩|⟨y,u,rfl,rfl⟩
   .rw[YL]at h;exact wpAny_eqBool_int h
   .rw[YK]at h;exact SeqAt.EqAt.int_str i t y u _ _ _ _ h
  .rcases BP hv with⟨j,u,rfl,rfl⟩|⟨y,u,rfl,rfl⟩
   .rw[YJ]at h;exact SeqAt.EqAt.str_int x t j u _ _ _ _ h
   .rw[YI]at h;exact wpAny_eqBool_str h
 «strs»:=λk x t v h=>by
  rcases BP h with⟨i,u,rfl,e⟩|⟨y,u,rfl,e⟩
  .exact nomatch e
  .injection e with e1 _
   subst e1;cases v<;>rfl
def Mn(prog:Program)(w:World)(i:Int)(t:Tok):(BF prog w).is (.inl i) (.int i t)=true:=Q8 i t
def Mm(prog:Program)(w:World)(x:Str)(t:Tok):(BF prog w).is (.inr x) (.str x t)=true:=Q7 x t
inductive V where
 |non|bl (b:Bool)|int (i:Int)|str (x:Str)|byt (b:Array UInt8)|flt (b:UInt64)|ref (a:Addr)|ty (n:String)
 deriving DecidableEq
def RelV:V->Value->Prop
 |.non,u=>u=Value.none
 |.bl b,u=>u=Value.bool b
 |.int i,u=>∃t,u=Value.int i t
 |.str x,u=>∃t,u=Value.str x t
 |.byt b,u=>∃t,u=Value.bytes b t
 |.flt b,u=>∃t,u=Value.float b t
 |.ref a,u=>u=Value.ref a
 |.ty n,u=>u=Value.type n
abbrev Vals:List V->List Value->Prop:=Paired RelV
theorem Vals.length{xs:List V}{us:List Value}(r:Vals xs us):xs.length=us.length:=Paired.length r
theorem Vals.get:∀{xs:List V} {us:List Value} {i:Nat} {x:V},Vals xs us->xs[i]?=some x->∃u,us[i]?=some u/\RelV x u
 |_,_,_,_,.nil,e=>by simp at e
 |_,_,0,_,.cons r _,e=>by simp at e;subst e;exact⟨_,rfl,r⟩
 |_,_,i+1,x,.cons _ t,e=>by
  obtain⟨u,h1,h2⟩:=Vals.get (i:=i) (x:=x) t (by simpa using e);exact⟨u,by simpa using h1,h2⟩
theorem Vals.set{x:V}{u:Value}(r:RelV x u):∀{xs:List V} {us:List Value} (i:Nat),Vals xs us->Vals (xs.set i x) (us.set i u)
 |_,_,_,.nil=>.nil
 |_,_,0,.cons _ t=>.cons r t
 |_,_,i+1,.cons q t=>.cons q (Vals.set r i t)
theorem Vals.append:∀{xs ys:List V} {us ws:List Value},Vals xs us->Vals ys ws->Vals (xs++ys) (us++ws)
 |_,_,_,_,.nil,s=>s
 |_,_,_,_,.cons r t,s=>.cons r (Vals.append t s)
theorem Vals.take:∀{xs:List V} {us:List Value} (n:Nat),Vals xs us->Vals (xs.take n) (us.take n)
 |_,_,0,_=>.nil
 |_,_,_+1,.nil=>.nil
 |_,_,n+1,.cons r t=>.cons r (Vals.take n t)
theorem Vals.drop:∀{xs:List V} {us:List Value} (n:Nat),Vals xs us->Vals (xs.drop n) (us.drop n)
 |_,_,0,r=>r
 |_,_,_+1,.nil=>.nil
 |_,_,n+1,.cons _ t=>Vals.drop n t
def RelO:Option V->Option Value->Prop
 |some v,some u=>RelV v u
 |none,none=>True
 |_,_=>False
def KV{κ:Type}:List (κ×V)->List (κ×Value)->Prop:=Paired λ(p:κ×V) (q:κ×Value)=>p.1=q.1/\RelV p.2 q.2
def kV:Key->V
 |.inl i=>.int i
 |.inr x=>.str x
inductive HO where
 /-- a list -/
 |lst (xs:List V)
 /-- a tuple (never changes) -/
 |tup (xs:List V)
 /-- a dict whose keys are ints and texts;one whose keys are tuples of ints and texts (the empty one is both) -/
 |dK (kvs:List (Key×V))|dT (kvs:List (List Key×V))
 /-- a set of ints: its members,its size -/
 |set (S:Int->Bool) (n:Nat)
 /-- an instance of the class at C,its dict at dx,its attributes -/
 |ins (C dx:Addr) (fs:List (Str×V))
 /-- the dict of the instance at x -/
 |own (x:Addr)
 /-- the dict of an exception -/
 |xd (fs:List (Str×V))
 /-- a bound method,f of x -/
 |met (f x:Addr)
 /-- a range object lo,lo+1,.. below hi -/
 |rng (lo hi:Int)
 /-- a thing that is known to the object (the script;a dict while a loop walks it): read,never written while it is so -/
 |frz (o:Obj) (u:HO)
 /-- a code object's table -/
 |tbl (ps:Array Value)
 /-- any other thing,by what is true of its one object (a def of one's own: SetO a S n:=HO.ext λh=>..) -/
 |ext (φ:Heap->Prop)
abbrev Hp:=Addr->Option HO
def upd(H:Hp)(a:Addr)(o:HO):Hp:=λb=>if b=a then some o else H b
def AM{H:Hp}{a:Addr}{o:HO}:upd H a o a=some o:=by unfold upd;rw[if_pos rfl]
def AC{H:Hp}{a b:Addr}{o:HO}(h:b≠a):upd H a o b=H b:=by unfold upd;rw[if_neg h]
def ZT{H:Hp}{a b:Addr}{o u:HO}(h:H a=some o)(h':H b=some u)(d:o≠u):a≠b:=by
 intro e;subst e;rw[h]at h';exact d (Option.some.inj h')
def AS{H:Hp}{a b:Addr}{o:HO}(h:H a=some o)(h':H b=none):a≠b:=by
 intro e;subst e;rw[h]at h';cases h'
def IsTupD(h:Heap)(a:Addr)(items:Array Value):Prop:=∃o,h.get? a=some o/\o.cls=.type "tuple"/\(∃n,o.data=.seq items n)/\o.dict=none
def IsTupD.t{h:Heap}{a:Addr}{items:Array Value}(x:IsTupD h a items):IsTup h a items:=let ⟨o,e,c,d,_⟩:=x;⟨o,e,c,d⟩
def IsTupD.new(h:Heap)(items:Array Value):IsTupD (h.push { cls:=.type "tuple",data:=.seq items }) h.objs.size items:=⟨_,Heap.get?_push_size _ rfl,rfl,⟨_,rfl⟩,rfl⟩
section
variable(P:Program)(w:World)
def ObjOk(H:Hp)(h:Heap)(a:Addr):HO->Prop
 |.lst xs=>xs.length<=sizeLine/\∃(its:List Value) (n:Nat),Vals xs its/\h.get? a=some { cls:=.type "list",data:=.seq its.toArray n }
 |.tup xs=>xs.length<=sizeLine/\∃its:List Value,Vals xs its/\IsTupD h a its.toArray
 |.dK kvs=>kvs.length<=sizeLine/\(a==sysModules)=false/\∃vs,KV kvs vs/\h.DictOf (BF P w) a vs
 |.dT kvs=>kvs.length<=sizeLine/\(a==sysModules)=false/\∃xs:List (List Key×Addr×Value),
  Paired (λ(p:List Key×V) (q:List Key×Addr×Value)=>p.1=q.1/\H q.2.1=some (.tup (p.1.map kV))/\RelV p.2 q.2.2) kvs xs /\
  ∃o es ep,h.get? a=some o/\o.ExactDict/\o.data=.dict es ep/\es.toList=xs.map (entryOfKey (tupleKind (BF P w)))/\(xs.map (·.1)).Nodup
 |.set S n=>h.SetOf (intKind P w) a S n
 |.ins C dx fs=>H dx=some (.own a)/\fs.length<=1000/\dx≠a/\h.get? a=some (PySem.W.instObj C dx)/\
  ∃mA,h.Ns1 dx mA/\(∀f,RelO (fs.lookup f) (mA f))/\PySem.Within mA (fs.map (·.1))
 |.own _=>∃o,h.get? a=some o
 |.xd fs=>∃mA,h.Ns1 a mA/\∀f,RelO (fs.lookup f) (mA f)
 |.rng lo hi=>∃t u v,h.get? a=some { cls:=.type "range",data:=.fields #[.int lo t,.int hi u,.int 1 v] }
 |.frz o u=>h.get? a=some o/\ObjOk H h a u
 |.tbl ps=>h.get? a=some { cls:=.none,data:=.fields ps }
 |.met f x=>h.get? a=some (PySem.W.methodObj (.ref f) (.ref x))
 |.ext φ=>φ h/\(∃o,h.get? a=some o)/\∀h1 h2:Heap,φ h1->(∀o,h1.get? a=some o->h2.get? a=some o)->φ h2
def HOk(H:Hp)(h:Heap):Prop:=∀a o,H a=some o->ObjOk P w H h a o
end
section
variable{P:Program}{w:World}{H H':Hp}{h h':Heap}{a:Addr}{o:HO}
def ObjOk.lt(x:ObjOk P w H h a o):a<h.objs.size:=by
 cases o with
 |lst xs=>obtain⟨_,_,_,_,e⟩:=x;exact Heap.lt_size e
 |tup xs=>obtain⟨_,_,_,o,e,_⟩:=x;exact Heap.lt_size e
 |dK kvs=>obtain⟨_,_,_,_,o,_,_,e,_⟩:=x;exact Heap.lt_size e
 |dT kvs=>obtain⟨_,_,_,_,o,_,_,e,_⟩:=x;exact Heap.lt_size e
 |set S n=>obtain⟨o,_,_,_,e,_⟩:=x;exact Heap.lt_size e
 |ins C dx fs=>obtain⟨_,_,_,e,_⟩:=x;exact Heap.lt_size e
 |own y=>obtain⟨_,e⟩:=x;exact Heap.lt_size e
 |xd fs=>obtain⟨_,⟨_,_,_,e,_⟩,_⟩:=x;exact Heap.lt_size e
 |rng lo hi=>obtain⟨_,_,_,e⟩:=x;exact Heap.lt_size e
 |frz ob u=>obtain⟨e,_⟩:=x;exact Heap.lt_size e
 |tbl ps=>exact Heap.lt_size (show h.get? a=some _ from x)
 |met f y=>exact Heap.lt_size (show h.get? a=some _ from x)
 |ext φ=>obtain⟨_,⟨_,e⟩,_⟩:=x;exact Heap.lt_size e
theorem Paired.mapP{α β:Type}{F G:α->β->Prop}:∀{l₁:List α} {l₂:List β},Paired F l₁ l₂->(∀a b,F a b->G a b)->Paired G l₁ l₂
 |_,_,.nil,_=>.nil
 |_,_,.cons r t,f=>.cons (f _ _ r) (Paired.mapP t f)
def ObjOk.stay(x:ObjOk P w H h a o)(k:∀b u,(b=a∨H b=some (.own a))->h.get? b=some u->h'.get? b=some u)
 (ho:∀b,H b=some (.own a)->H' b=some (.own a)) (ht:∀b xs,H b=some (.tup xs)->H' b=some (.tup xs)):ObjOk P w H' h' a o:=by
 induction o with
 |lst xs=>obtain⟨z,its,n,r,e⟩:=x;exact⟨z,its,n,r,k _ _ (.inl rfl) e⟩
 |tup xs=>obtain⟨z,its,r,ob,e,c⟩:=x;exact⟨z,its,r,ob,k _ _ (.inl rfl) e,c⟩
 |dK kvs=>obtain⟨z,y,vs,r,ob,es,ep,e,c⟩:=x;exact⟨z,y,vs,r,ob,es,ep,k _ _ (.inl rfl) e,c⟩
 |dT kvs=>
  obtain⟨z,y,xs,r,ob,es,ep,e,c⟩:=x;exact⟨z,y,xs,Paired.mapP r λp q z=>⟨z.1,ht _ _ z.2.1,z.2.2⟩,ob,es,ep,k _ _ (.inl rfl) e,c⟩
 |set S n=>obtain⟨ob,es,ep,t,e,c⟩:=x;exact⟨ob,es,ep,t,k _ _ (.inl rfl) e,c⟩
 |ins C dx fs=>
  obtain⟨d,z,ne,e,mA,⟨od,es,ep,e2,c⟩,r⟩:=x;exact⟨ho _ d,z,ne,k _ _ (.inl rfl) e,mA,⟨od,es,ep,k _ _ (.inr d) e2,c⟩,r⟩
 |own y=>obtain⟨ob,e⟩:=x;exact⟨ob,k _ _ (.inl rfl) e⟩
 |xd fs=>obtain⟨mA,⟨od,es,ep,e,c⟩,r⟩:=x;exact⟨mA,⟨od,es,ep,k _ _ (.inl rfl) e,c⟩,r⟩
 |rng lo hi=>obtain⟨t,u,v,e⟩:=x;exact⟨t,u,v,k _ _ (.inl rfl) e⟩
 |frz ob u ih=>obtain⟨e,q⟩:=x;exact⟨k _ _ (.inl rfl) e,ih q⟩
 |tbl ps=>
  have e:h.get? a=some { cls:=.none,data:=.fields ps }:=x;show h'.get? a=some { cls:=.none,data:=.fields ps };exact k a _ (.inl rfl) e
 |met f y=>
  have e:h.get? a=some (PySem.W.methodObj (.ref f) (.ref y)):=x;show h'.get? a=some (PySem.W.methodObj (.ref f) (.ref y));exact k a _ (.inl rfl) e
 |ext φ=>obtain⟨p,⟨o,e⟩,st⟩:=x;exact⟨st _ _ p λo q=>k _ _ (.inl rfl) q,⟨o,k _ _ (.inl rfl) e⟩,st⟩
theorem HOk.lt(x:HOk P w H h)(e:H a=some o):a<h.objs.size:=(x a o e).lt
def HOk.fresh(x:HOk P w H h)(e:h.objs.size<=a):H a=none:=by
 cases q:H a with
 |none=>rfl
 |some u=>exact absurd (lt_of_lt_of_le (x.lt q) e) (lt_irrefl _)
def HOk.kept(x:HOk P w H h)(k:∀b u,h.get? b=some u->h'.get? b=some u):HOk P w H h':=λa o e=>
 (x a o e).stay (λb u _ q=>k b u q) (λ_ q=>q) λ_ _ q=>q
def HOk.laid(x:HOk P w H h)(k:∀b u,h.get? b=some u->h'.get? b=some u)(hp:h.objs.size<=a)(new:ObjOk P w (upd H a o) h' a o):HOk P w (upd H a o) h':=λb u e=>by
 have hn:=x.fresh hp;by_cases hb:b=a
 .subst hb;rw[AM]at e;cases e;exact new
 .rw[AC hb]at e;exact(x b u e).stay (λc v _ q=>k c v q) (λc q=>by rw[AC (AS q hn)];exact q) λc xs q=>by rw[AC (AS q hn)];exact q
end
def Rd(H:Hp)(a:Addr)(u:HO):Prop:=H a=some u∨∃o,H a=some (.frz o u)
def Rd.ok{P:Program}{w:World}{H:Hp}{h:Heap}{a:Addr}{u:HO}(r:Rd H a u)(x:HOk P w H h):ObjOk P w H h a u:=by
 rcases r with r|⟨o,r⟩
 .exact x a u r
 .obtain⟨_,q⟩:=x a _ r;exact q
def Mut:Option HO->Prop
 |some (.lst _)=>True
 |some (.dK _)=>True
 |some (.dT _)=>True
 |some (.set _ _)=>True
 |some (.ins _ _ _)=>True
 |some (.ext _)=>True
 |_=>False
section
variable{P:Program}{w:World}{H:Hp}{h h':Heap}{x e:Addr}{o':HO}
def HOk.write(ok:HOk P w H h)(mu:Mut (H x))(he:e=x∨H e=some (.own x))(k:∀b u,b≠e->h.get? b=some u->h'.get? b=some u)(heo:∃u,h'.get? e=some u)
 (new:ObjOk P w (upd H x o') h' x o'):HOk P w (upd H x o') h':=λb u q=>by
 have nown:∀c y,H c=some (.own y)->c≠x:=λc y r z=>by subst z;rw[r]at mu;exact mu
 have ntup:∀c xs,H c=some (.tup xs)->c≠x:=λc xs r z=>by subst z;rw[r]at mu;exact mu
 by_cases hb:b=x
 .subst hb;rw[AM]at q;cases q;exact new
 .rw[AC hb]at q;by_cases hbe:b=e
  .have q':H b=some (.own x):=by
    rcases he with z|z
    .exact absurd (hbe.trans z) hb
    .rw[hbe];exact z
   rw[q]at q';cases q';obtain⟨v,hv⟩:=heo;exact⟨v,by rw[hbe];exact hv⟩
  .refine(ok b u q).stay (λc v hc r=>k c v ?_ r) (λc r=>by rw[AC (nown c b r)];exact r) λc xs r=>by rw[AC (ntup c xs r)];exact r
   rcases hc with rfl|hc
   .exact hbe
   .rintro rfl;rcases he with z|z
    .exact nown c b hc z
    .rw[hc]at z;cases z;exact hb rfl
end
structure Un(fs ex:List Addr)(H H':Hp)(h h':Heap):Prop where
 keep:∀b o,h.get? b=some o->H b=none->b∉fs->b∉ex->h'.get? b=some o
 slot:∀b o,h.get? b=some o->H b=none->b∈fs->b∉ex->∃sl,h'.get? b=some { o with slots:=sl }
 free:∀b o,h.get? b=some o->H b=none->b∉ex->H' b=none
 there:∀b o,h.get? b=some o->b∉ex->∃o',h'.get? b=some o'
 tups:∀b xs,H b=some (.tup xs)->H' b=some (.tup xs)
 frzs:∀b o u,H b=some (.frz o u)->H' b=some (.frz o u)
 tbls:∀b ps,H b=some (.tbl ps)->∃more,H' b=some (.tbl (ps++more))
section
variable{fs fs' ex ex':List Addr}{H H1 H2:Hp}{h h1 h2 h':Heap}{a x e:Addr}{o:HO}
def Un.any(u:Un fs ex H H1 h h1){b:Addr}{ob:Obj}(q:h.get? b=some ob)(n:H b=none)(hx:b∉ex):∃sl,h1.get? b=some { ob with slots:=sl }:=by
 by_cases hb:b∈fs
 .exact u.slot b ob q n hb hx
 .exact⟨ob.slots,u.keep b ob q n hb hx⟩
def Un.kept(k:∀b u,h.get? b=some u->h'.get? b=some u):Un fs ex H H h h':=
 ⟨λb ob q _ _ _=>k b ob q,λb ob q _ _ _=>⟨ob.slots,k b ob q⟩,λ_ _ _ n _=>n,λb ob q _=>⟨ob,k b ob q⟩,λ_ _ q=>q,λ_ _ _ q=>q,λ_ ps q=>⟨#[],by rw[q];simp⟩⟩
def Un.refl:Un fs ex H H h h:=Un.kept λ_ _ q=>q
def Un.laid(k:∀b u,h.get? b=some u->h'.get? b=some u)(hp:h.objs.size<=a)(hn:H a=none):Un fs ex H (upd H a o) h h' where
 keep:=λb u q _ _ _=>k b u q
 slot:=λb u q _ _ _=>⟨u.slots,k b u q⟩
 free:=λb u q n _=>by rw[AC (ne_of_lt (lt_of_lt_of_le (Heap.lt_size q) hp))];exact n
 there:=λb u q _=>⟨u,k b u q⟩
 tups:=λb xs q=>by rw[AC (AS q hn)];exact q
 frzs:=λb u xs q=>by rw[AC (AS q hn)];exact q
 tbls:=λb ps q=>⟨#[],by rw[AC (AS q hn),q];simp⟩
def Un.write(mu:Mut (H x))(he:e=x∨H e=some (.own x))(k:∀b u,b≠e->h.get? b=some u->h'.get? b=some u)(heo:∃u,h'.get? e=some u):Un fs ex H (upd H x o) h h':=by
 have hx:∀b,H b=none->b≠x:=λb n z=>by subst z;rw[n]at mu;exact mu
 have hb:∀b,H b=none->b≠e:=λb n z=>by
  subst z;rcases he with r|r
  .exact hx b n r
  .rw[n]at r;cases r
 have hm:∀b u,H b=some u->¬ Mut (some u)->b≠x:=λb u q nm z=>by subst z;rw[q]at mu;exact nm mu
 refine⟨λb u q n _ _=>k b u (hb b n) q,λb u q n _ _=>⟨u.slots,k b u (hb b n) q⟩,λb u q n _=>by rw[AC (hx b n)];exact n,λb u q _=>?_,
  λb xs q=>by rw[AC (hm b _ q λz=>z)];exact q,λb u xs q=>by rw[AC (hm b _ q λz=>z)];exact q,λb ps q=>⟨#[],by rw[AC (hm b _ q λz=>z),q];simp⟩⟩
 by_cases hbe:b=e
 .subst hbe;exact heo
 .exact⟨u,k b u hbe q⟩
end
def trk(h:Heap)(H:Hp):List Addr:=(List.range h.objs.size).filter λa=>(H a).isSome
def G4(h:Heap)(H:Hp):Heap:=PySem.W.hideAll h (trk h H)
def QC(h:Heap)(H:Hp):(G4 h H).objs.size=h.objs.size:=PySem.W.hideAll_size _ _
def Sh{h:Heap}{H:Hp}{b:Addr}{o:Obj}(e:h.get? b=some o)(n:H b=none):(G4 h H).get? b=some o:=
 PySem.W.hideAll_get _ e λhm=>by
  have q:(H b).isSome=true:=(mem_filter.mp hm).2;rw[n]at q;simp at q
def VO{h:Heap}{H:Hp}{b:Addr}{o:Obj}(e:(G4 h H).get? b=some o):h.get? b=some o/\H b=none:=by
 have e':h.get? b=some o:=PySem.W.of_hideAll (trk h H) e;refine⟨e',?_⟩;cases q:H b with
 |none=>rfl
 |some x=>
  have hm:b∈trk h H:=mem_filter.mpr ⟨List.mem_range.mpr (Heap.lt_size e'),by simp[q]⟩;have z:(G4 h H).get? b=none:=PySem.W.hideAll_none (trk h H) hm;rw[z]at e;cases e
def Vv(g h:Heap)(L:Addr):List (Addr×Obj):=(List.range h.objs.size).filterMap λa=>if a=L∨(g.get? a).isSome=true then none else(h.get? a).map λo=>(a,o)
def rest(g h:Heap)(L d:Addr):List (Addr×Obj):=(Vv g h L).filter λp=>decide (p.1≠d)
structure Mod(K:PySem.W.Frag)(mg:Str->Option Value)(base:Heap):Prop where
 kin:K.In base
 glob:base.Ns mainGlobals mg
 blt:∃mb,base.Ns builtinsNs mb/\∀x:Str,x≠"__name__"->mb x=bootBuiltins x
 nolimit:base.NoLimit
structure Cx where
 prog:Program
 w:World
 K:PySem.W.Frag
 mg:Str->Option Value
 base:Heap
 A:Around
 N:List Str
 s₀:Shared
 H₀:Hp
 env:Env
 outer:List Env
 stack:List Env
 ex:List Addr
 fn:Str->Bool
 calm:Bool
 pn:List (Addr×Obj)
 xe:Value->Shared->Prop
def frs(l:List Env):List Addr:=l.filterMap (·.frame)
abbrev Cx.fs(X:Cx):List Addr:=frs X.outer
def Vis(sc:Scope)(x:Str):Prop:=sc.names.lookup x=some .local∨sc.names.lookup x=some .cell∨sc.names.lookup x=some .free
def Loc(sc:Scope)(x:Str):Prop:=sc.names.lookup x=some .local∨sc.names.lookup x=some .cell
def af(env:Env)(h:Heap)(m:Str->Option Value)(x:Str)(u:Value):Prop:=
 (env.kindOf x=some .local/\m x=some u)∨((env.kindOf x=some .cell∨env.kindOf x=some .free)/\∃c,env.cells.lookup x=some c/\h.IsCell c (some u))
structure Cx.Ok(X:Cx):Prop where
 mod:Mod X.K X.mg X.base
 kind:X.env.scope.kind=.function
 glob:X.env.globals=mainGlobals
 blt:X.env.builtins=builtinsNs
 above:X.s₀.heap.objs.size<=X.env.locals
 inj:∀x y c,X.env.cells.lookup x=some c->X.env.cells.lookup y=some c->x=y
 has:∀x,(X.env.kindOf x=some .cell∨X.env.kindOf x=some .free)->∃c,X.env.cells.lookup x=some c
 cab:∀x c,X.fn x=true->X.env.cells.lookup x=some c->X.s₀.heap.objs.size<=c
 hd:X.calm=true->X.A.handled=none
 frames:X.A.frames=some X.stack
 stk:X.stack=X.outer∨(X.stack=X.env::X.outer/\X.env.frame=some X.env.locals)
 exf:∀b∈X.ex,b≠X.env.locals/\∀x c,X.env.cells.lookup x=some c->c≠b
 bs:∀b o,X.base.get? b=some o->X.s₀.heap.get? b=some o/\X.H₀ b=none
 bsz:X.base.objs.size<=X.s₀.heap.objs.size
 noex:∀b o,X.base.get? b=some o->b∉X.ex
 exfs:∀b∈X.ex,b∉X.fs
 funs:X.s₀.heap.FunFrames X.base X.outer
 frf:∀b∈X.fs,X.H₀ b=none
structure Inv(X:Cx)(pins:List (Addr×Obj))(σ:List (Option V))(H:Hp)(s:Shared):Prop where
 ok:X.Ok
 os:s.os=X.s₀.os
 bare:AllBare s.gens
 base:Un X.fs X.ex X.H₀ H X.s₀.heap s.heap
 loc:∃m,s.heap.Ns X.env.locals m/\∀(i:Nat) (x:Str) (v:V),X.N[i]?=some x->σ[i]?=some (some v)->Vis X.env.scope x->∃u,RelV v u/\af X.env s.heap m x u
 cell:∀x c,X.env.cells.lookup x=some c->∃v,s.heap.IsCell c v
 free:H X.env.locals=none
 freeC:∀x c,X.env.cells.lookup x=some c->H c=none
 pin:∀p∈X.pn++pins,s.heap.get? p.1=some p.2/\H p.1=none/\p.1≠X.env.locals/\p.1∉X.fs/\∀v,p.2.data≠.cell v
 hok:HOk X.prog X.w H s.heap
 len:σ.length=X.N.length
section
variable{X:Cx}{pins:List (Addr×Obj)}{σ:List (Option V)}{H H':Hp}{s:Shared}{h':Heap}
def Cx.Ok.nofr(ok:X.Ok){b:Addr}{o:Obj}(e:X.base.get? b=some o):b∉X.fs:=λhb=>by
 have:=(ok.funs.mem hb).1;rw[e]at this;cases this
theorem Inv.bs(I:Inv X pins σ H s):∀b o,X.base.get? b=some o->s.heap.get? b=some o/\H b=none:=λb o e=>
 ⟨I.base.keep b o (I.ok.bs b o e).1 (I.ok.bs b o e).2 (I.ok.nofr e) (I.ok.noex b o e),I.base.free b o (I.ok.bs b o e).1 (I.ok.bs b o e).2 (I.ok.noex b o e)⟩
def Inv.bk(I:Inv X pins σ H s):∀b o,X.base.get? b=some o->s.heap.get? b=some o:=λb o e=>(I.bs b o e).1
theorem Inv.mod(I:Inv X pins σ H s):Mod X.K X.mg X.base:=I.ok.mod
def Inv.kIn(I:Inv X pins σ H s):X.K.In s.heap:=I.ok.mod.kin.keeps I.bk
theorem Inv.nolimit(I:Inv X pins σ H s):s.heap.NoLimit:=I.ok.mod.nolimit.keeps I.bk
theorem Inv.lt(I:Inv X pins σ H s):X.env.locals<s.heap.objs.size:=let ⟨_,hn,_⟩:=I.loc;hn.lt
def Inv.sz(I:Inv X pins σ H s):X.s₀.heap.objs.size<=s.heap.objs.size:=le_trans I.ok.above (le_of_lt I.lt)
def Inv.nofs(I:Inv X pins σ H s){a:Addr}(h:s.heap.objs.size<=a):a∉X.fs:=λhb=>by
 obtain⟨_,o,ho,_⟩:=I.ok.funs.mem hb;exact absurd (lt_of_lt_of_le (Heap.lt_size ho) (le_trans I.sz h)) (lt_irrefl _)
def Inv.cne(I:Inv X pins σ H s):∀x c,X.env.cells.lookup x=some c->c≠X.env.locals:=λx c e z=>by
 obtain⟨v,o,ho,hd⟩:=I.cell x c e;obtain⟨m,⟨o',es,ep,ho',hd',_⟩,_⟩:=I.loc;rw[z,ho']at ho;cases ho;rw[hd']at hd;cases hd
theorem Inv.funs(I:Inv X pins σ H s):s.heap.FunFrames X.base X.outer:=by
 have all:∀(l:List Env),(∀b∈frs l,b∈X.fs)->X.s₀.heap.FunFrames X.base l->s.heap.FunFrames X.base l:=by
  intro l
  induction l with
  |nil=>intro _ _;trivial
  |cons env r ih=>
   intro hs hl;obtain⟨hk,⟨L,o,hf,hn,ho,hd⟩,hr⟩:=hl;have hL:L∈X.fs:=hs L (by unfold frs;rw[filterMap_cons,hf];exact mem_cons_self);obtain⟨sl,e⟩:=I.base.slot L o ho (I.ok.frf L hL) hL λz=>I.ok.exfs L z hL;exact⟨hk,⟨L,_,hf,hn,e,hd⟩,ih (λb hb=>hs b (by unfold frs;rw[filterMap_cons,hf];exact mem_cons_of_mem _ hb)) hr⟩
 exact all X.outer (λ_ hb=>hb) I.ok.funs
theorem Inv.stack(I:Inv X pins σ H s):s.heap.FunFrames X.base X.stack:=by
 rcases I.ok.stk with e|⟨e,hf⟩
 .rw[e];exact I.funs
 .rw[e];obtain⟨m,hn,_⟩:=I.loc;refine .cons (by rw[I.ok.kind];decide) hf hn ?_ I.funs;exact Heap.get?_none_of_le (le_trans I.ok.bsz I.ok.above)
def Inv.stkSub(I:Inv X pins σ H s):∀b∈frs X.stack,b∈X.env.locals::X.fs:=λb hb=>by
 rcases I.ok.stk with e|⟨e,hf⟩
 .rw[e]at hb;exact mem_cons_of_mem _ hb
 .rw[e]at hb;unfold frs at hb;rw[filterMap_cons,hf]at hb;exact hb
def Inv.stkFree(I:Inv X pins σ H s):∀b∈frs X.stack,H b=none:=λb hb=>by
 rcases mem_cons.mp (I.stkSub b hb)with e|hb
 .rw[e];exact I.free
 .obtain⟨_,o,ho,_⟩:=I.ok.funs.mem hb;exact I.base.free b o ho (I.ok.frf b hb) λz=>I.ok.exfs b z hb
def Inv.step{g':Array GenState}{t':Nat}{d':Drawn}{ch:List Addr}(I:Inv X pins σ H s)
 (hch:∀b∈ch,(b∈X.ex∨X.s₀.heap.objs.size<=b)/\b≠X.env.locals/\(∀x c,X.env.cells.lookup x=some c->c≠b)/\∀p∈X.pn++pins,p.1≠b)
 (keep:∀b o,b≠X.env.locals->b∉X.fs->b∉ch->s.heap.get? b=some o->H b=none->h'.get? b=some o)
 (slot:∀b o,b≠X.env.locals->b∈X.fs->b∉ch->s.heap.get? b=some o->H b=none->∃sl,h'.get? b=some { o with slots:=sl }) (free:∀b o,b∉ch->s.heap.get? b=some o->H b=none->H' b=none)
 (there:∀b o,b∉ch->s.heap.get? b=some o->∃o',h'.get? b=some o')
 (tups:∀b xs,H b=some (.tup xs)->H' b=some (.tup xs)) (frzs:∀b o u,H b=some (.frz o u)->H' b=some (.frz o u)) (tbls:∀b ps,H b=some (.tbl ps)->∃more,H' b=some (.tbl (ps++more)))
 (ns:∀m,s.heap.Ns X.env.locals m->h'.Ns X.env.locals m) (hok:HOk X.prog X.w H' h') (hg:AllBare g'):
 Inv X pins σ H' { s with heap:=h',gens:=g',drawn:=d',toks:=t' }:=by
 have neL:∀b o,X.s₀.heap.get? b=some o->b≠X.env.locals:=λb o e=>ne_of_lt (lt_of_lt_of_le (Heap.lt_size e) I.ok.above);have neC:∀b o,X.s₀.heap.get? b=some o->b∉X.ex->b∉ch:=λb o e hx hb=>by
  rcases(hch b hb).1 with z|z
  .exact hx z
  .exact absurd (lt_of_lt_of_le (Heap.lt_size e) z) (lt_irrefl _)
 have cellK:∀x c,X.env.cells.lookup x=some c->∀v,s.heap.IsCell c v->h'.IsCell c v:=λx c e v ⟨o,ho,hd⟩=>by
  have nch:c∉ch:=λz=>(hch c z).2.2.1 x c e rfl;by_cases hc:c∈X.fs
  .obtain⟨sl,q⟩:=slot c o (I.cne x c e) hc nch ho (I.freeC x c e);exact⟨_,q,hd⟩
  .exact⟨o,keep c o (I.cne x c e) hc nch ho (I.freeC x c e),hd⟩
 refine⟨I.ok,I.os,hg,⟨λb o e n hb hx=>?_,λb o e n hb hx=>?_,λb o e n hx=>?_,λb o e hx=>?_,λb xs e=>tups b xs (I.base.tups b xs e),λb o xs e=>frzs b o xs (I.base.frzs b o xs e),λb ps e=>?_⟩,?_,λx c e=>?_,?_,λx c e=>?_,λp hp=>?_,hok,I.len⟩
 .exact keep b o (neL b o e) hb (neC b o e hx) (I.base.keep b o e n hb hx) (I.base.free b o e n hx)
 .obtain⟨sl,e1⟩:=I.base.slot b o e n hb hx;obtain⟨sl',e2⟩:=slot b _ (neL b o e) hb (neC b o e hx) e1 (I.base.free b o e n hx);exact⟨sl',e2⟩
 .obtain⟨o',e1⟩:=I.base.there b o e hx;exact free b o' (neC b o e hx) e1 (I.base.free b o e n hx)
 .obtain⟨o',e1⟩:=I.base.there b o e hx;exact there b o' (neC b o e hx) e1
 .obtain⟨m1,e1⟩:=I.base.tbls b ps e;obtain⟨m2,e2⟩:=tbls b _ e1;exact⟨m1++m2,by rw[e2,Array.append_assoc]⟩
 .obtain⟨m,hn,hl⟩:=I.loc;refine⟨m,ns m hn,λi x v e1 e2 e3=>?_⟩;obtain⟨u,r,l⟩:=hl i x v e1 e2 e3;refine⟨u,r,?_⟩;rcases l with l|⟨k,c,e,z⟩
  .exact .inl l
  .exact .inr ⟨k,c,e,cellK x c e _ z⟩
 .obtain⟨v,z⟩:=I.cell x c e;exact⟨v,cellK x c e v z⟩
 .obtain⟨m,⟨o,_,_,ho,_⟩,_⟩:=I.loc;exact free _ o (λz=>(hch _ z).2.1 rfl) ho I.free
 .obtain⟨v,o,ho,hd⟩:=I.cell x c e;exact free c o (λz=>(hch c z).2.2.1 x c e rfl) ho (I.freeC x c e)
 .obtain⟨e,n,ne,nf,d⟩:=I.pin p hp;have nch:p.1∉ch:=λz=>(hch p.1 z).2.2.2 p hp rfl;exact⟨keep p.1 p.2 ne nf nch e n,free p.1 p.2 nch e n,ne,nf,d⟩
def Inv.un{t':Nat}(I:Inv X pins σ H s)(u:Un X.fs [] H H' s.heap h')(hok:HOk X.prog X.w H' h'):Inv X pins σ H' { s with heap:=h',toks:=t' }:=by
 obtain⟨m,⟨o,es,ep,ho,r⟩,_⟩:=id I.loc;obtain⟨sl,hL⟩:=u.any ho I.free (by simp);exact I.step (g':=s.gens) (d':=s.drawn) (ch:=[]) (λ_ z=>nomatch z) (λb o _ hb _ e n=>u.keep b o e n hb (by simp)) (λb o _ hb _ e n=>u.slot b o e n hb (by simp)) (λb o _ e n=>u.free b o e n (by simp)) (λb o _ e=>u.there b o e (by simp)) u.tups u.frzs u.tbls (λm' hm=>by
  obtain⟨o',es',ep',ho',r'⟩:=hm;rw[ho]at ho';cases ho';exact⟨_,es',ep',hL,r'⟩) hok I.bare
def Inv.call{g':Array GenState}{t':Nat}{d':Drawn}{ch:List Addr}(I:Inv X pins σ H s)(u:Un (frs X.stack) ch H H' s.heap h')(hok:HOk X.prog X.w H' h')(hg:AllBare g')
 (hch:∀b∈ch,(b∈X.ex∨X.s₀.heap.objs.size<=b)/\b≠X.env.locals/\(∀x c,X.env.cells.lookup x=some c->c≠b)/\∀p∈X.pn++pins,p.1≠b):
 Inv X pins σ H' { s with heap:=h',gens:=g',drawn:=d',toks:=t' }:=by
 obtain⟨m,⟨o,es,ep,ho,r⟩,_⟩:=id I.loc;obtain⟨sl,hL⟩:=u.any ho I.free λz=>(hch _ z).2.1 rfl;exact I.step (ch:=ch) hch (λb o hL hb hc e n=>u.keep b o e n (λz=>(mem_cons.mp (I.stkSub b z)).elim hL hb) hc) (λb o _ _ hc e n=>u.any e n hc) (λb o hc e n=>u.free b o e n hc) (λb o hc e=>u.there b o e hc) u.tups u.frzs u.tbls (λm' hm=>by
  obtain⟨o',es',ep',ho',r'⟩:=hm;rw[ho]at ho';cases ho';exact⟨_,es',ep',hL,r'⟩) hok hg
def Inv.turned{t':Nat}{it:Addr}(I:Inv X pins σ H s)(k:∀b o,b≠it->s.heap.get? b=some o->h'.get? b=some o)(hn:H it=none)(hL:it≠X.env.locals)
 (h1:it∈X.ex∨X.s₀.heap.objs.size<=it) (h2:∀x c,X.env.cells.lookup x=some c->c≠it) (h3:∀p∈X.pn++pins,p.1≠it):Inv X pins σ H { s with heap:=h',toks:=t' }:=by
 have nit:∀b u,H b=some u->b≠it:=λb u e z=>by rw[z,hn]at e;cases e
 refine I.step (g':=s.gens) (d':=s.drawn) (ch:=[it]) (λb hb=>?_) (λb o _ _ hc e _=>k b o (λz=>hc (by simp[z])) e) (λb o _ _ hc e _=>⟨o.slots,k b o (λz=>hc (by simp[z])) e⟩) (λ_ _ _ _ n=>n)
  (λb o hc e=>⟨o,k b o (λz=>hc (by simp[z])) e⟩) (λ_ _ e=>e) (λ_ _ _ e=>e) (λb ps e=>⟨#[],by rw[e];simp⟩) (λm hm=>?_) (λb u e=>?_) I.bare
 .have e:b=it:=by simpa using hb
  subst e;exact⟨h1,hL,h2,h3⟩
 .obtain⟨o,es,ep,ho,r⟩:=hm;exact⟨o,es,ep,k _ o (Ne.symm hL) ho,r⟩
 .refine(I.hok b u e).stay (λc v hc q=>k c v ?_ q) (λ_ q=>q) λ_ _ q=>q;rcases hc with z|z
  .rw[z];exact nit b u e
  .exact nit c _ z
def Inv.tok(I:Inv X pins σ H s)(t:Nat):Inv X pins σ H { s with toks:=t }:=I.un (h':=s.heap) (t':=t) Un.refl I.hok
theorem Inv.kept{t':Nat}(I:Inv X pins σ H s)(k:∀b u,s.heap.get? b=some u->h'.get? b=some u):Inv X pins σ H { s with heap:=h',toks:=t' }:=I.un (Un.kept k) (I.hok.kept k)
theorem Inv.laid{a:Addr}{o:HO}{t':Nat}(I:Inv X pins σ H s)(k:∀b u,s.heap.get? b=some u->h'.get? b=some u)(hp:s.heap.objs.size<=a)(new:ObjOk X.prog X.w (upd H a o) h' a o):
 Inv X pins σ (upd H a o) { s with heap:=h',toks:=t' }:=I.un (Un.laid k hp (I.hok.fresh hp)) (I.hok.laid k hp new)
theorem Inv.write{x e:Addr}{o:HO}{t':Nat}(I:Inv X pins σ H s)(mu:Mut (H x))(he:e=x∨H e=some (.own x))(k:∀b u,b≠e->s.heap.get? b=some u->h'.get? b=some u)(heo:∃u,h'.get? e=some u)
 (new:ObjOk X.prog X.w (upd H x o) h' x o):Inv X pins σ (upd H x o) { s with heap:=h',toks:=t' }:=I.un (Un.write mu he k heo) (I.hok.write mu he k heo new)
def Inv.pins_of{pins':List (Addr×Obj)}(I:Inv X pins σ H s)(h:∀p∈pins',s.heap.get? p.1=some p.2/\H p.1=none/\p.1≠X.env.locals/\p.1∉X.fs/\∀v,p.2.data≠.cell v):Inv X pins' σ H s:=
 ⟨I.ok,I.os,I.bare,I.base,I.loc,I.cell,I.free,I.freeC,λp hp=>(mem_append.mp hp).elim (λz=>I.pin p (mem_append_left _ z)) (h p),I.hok,I.len⟩
def Lg{N:List Str}(hN:N.Nodup){i j:Nat}{x:Str}(a:N[i]?=some x)(b:N[j]?=some x):i=j:=by
 obtain⟨h1,e1⟩:=List.getElem?_eq_some_iff.mp a;obtain⟨h2,e2⟩:=List.getElem?_eq_some_iff.mp b;exact(List.getElem_inj hN).mp (e1.trans e2.symm)
def Jo{M:Model}{A:Around}{E:Value->Shared->Prop}{i:Nat}{x:Str}{v:V}{u:Value}{Q:Unit->Shared->Prop}(I:Inv X pins σ H s)(hN:X.N.Nodup)(hi:X.N[i]?=some x)(hx:Loc X.env.scope x)(r:RelV v u)
 (h:∀s',Inv X pins (σ.set i (some v)) H s'->(∃a,Heap.SameBut a s.heap s'.heap/\(a=X.env.locals∨X.env.cells.lookup x=some a))->Q () s') (hf:X.fn x=true∨X.env.scope.names.lookup x=some .local:=by first|exact .inl rfl|exact .inr rfl|assumption):wpAny M A (storeName X.env x u) Q E s:=by
 obtain⟨m,hn,hl⟩:=id I.loc;have hcls:(X.env.scope.kind==.class||(X.env.scope.kind==.module&&X.env.locals != X.env.globals))=false:=by rw[I.ok.kind];rfl
 have hiσ:i<σ.length:=by rw[I.len];exact(List.getElem?_eq_some_iff.mp hi).1
 have cne:=I.cne;have tracked:∀{a:Addr} {h':Heap},(∃o,s.heap.get? a=some o/\H a=none)->Heap.SameBut a s.heap h'->HOk X.prog X.w H h':=λ{a h'} ha hs b ob e=>by
  obtain⟨_,_,hfree⟩:=ha;refine(I.hok b ob e).stay (λc w' hc q=>(hs.2 c ?_).trans q) (λ_ q=>q) λ_ _ q=>q;rintro rfl;rcases hc with rfl|hc
  .rw[hfree]at e;cases e
  .rw[hfree]at hc;cases hc
 rcases hx with hk|hk
 .refine wpAny_storeName_local hk hn (λh' hn' hs=>?_) hcls;obtain⟨oL,_,_,hoL,_⟩:=id hn;refine h _ ⟨I.ok,I.os,I.bare,⟨λb o e n hb hx=>?_,λb o e n hb hx=>?_,I.base.free,λb o e hx=>?_,I.base.tups,I.base.frzs,I.base.tbls⟩,⟨_,hn',λj y v' e1 e2 e3=>?_⟩,λy c e=>?_,I.free,I.freeC,λp hp=>?_,tracked ⟨oL,hoL,I.free⟩ hs,by simpa using I.len⟩ ⟨_,hs,.inl rfl⟩
  .exact(hs.2 b (ne_of_lt (lt_of_lt_of_le (Heap.lt_size e) I.ok.above))).trans (I.base.keep b o e n hb hx)
  .obtain⟨sl,e1⟩:=I.base.slot b o e n hb hx;exact⟨sl,(hs.2 b (ne_of_lt (lt_of_lt_of_le (Heap.lt_size e) I.ok.above))).trans e1⟩
  .obtain⟨o',e1⟩:=I.base.there b o e hx;exact⟨o',(hs.2 b (ne_of_lt (lt_of_lt_of_le (Heap.lt_size e) I.ok.above))).trans e1⟩
  .by_cases hj:j=i
   .subst hj;rw[hi]at e1;cases e1;rw[List.getElem?_set_self hiσ]at e2;cases e2;exact⟨u,r,.inl ⟨hk,by simp⟩⟩
   .rw[List.getElem?_set_ne (Ne.symm hj)]at e2;obtain⟨u',r',q⟩:=hl j y v' e1 e2 e3;refine⟨u',r',?_⟩;rcases q with⟨k,e⟩|⟨k,c,e,z⟩
    .refine .inl ⟨k,?_⟩;have:y≠x:=λe=>hj (Lg hN e1 (e ▸ hi));simp[this,e]
    .exact .inr ⟨k,c,e,z.sameBut hs (cne y c e)⟩
  .obtain⟨w',z⟩:=I.cell y c e;exact⟨w',z.sameBut hs (cne y c e)⟩
  .obtain⟨e,n,ne,nf,d⟩:=I.pin p hp;exact⟨(hs.2 p.1 ne).trans e,n,ne,nf,d⟩
 .have hfn:X.fn x=true:=by
   rcases hf with z|z
   .exact z
   .rw[z]at hk;cases hk
  obtain⟨c,hc⟩:=I.ok.has x (.inl hk);obtain⟨w',z⟩:=I.cell x c hc;refine wpAny_storeName_cell I.ok.kind hk hc z (λh' hc' hs=>?_);obtain⟨oc,hoc,hocd⟩:=id z;refine h { s with heap:=h' } ⟨I.ok,I.os,I.bare,⟨λb o e n hb hx=>?_,λb o e n hb hx=>?_,I.base.free,λb o e hx=>?_,I.base.tups,I.base.frzs,I.base.tbls⟩,⟨m,hn.sameBut hs (Ne.symm (cne x c hc)),λj y v' e1 e2 e3=>?_⟩,λy c' e=>?_,I.free,I.freeC,λp hp=>?_,tracked ⟨oc,hoc,I.freeC x c hc⟩ hs,by simpa using I.len⟩ ⟨c,hs,.inr hc⟩
  .exact(hs.2 b (ne_of_lt (lt_of_lt_of_le (Heap.lt_size e) (I.ok.cab x c hfn hc)))).trans (I.base.keep b o e n hb hx)
  .obtain⟨sl,e1⟩:=I.base.slot b o e n hb hx;exact⟨sl,(hs.2 b (ne_of_lt (lt_of_lt_of_le (Heap.lt_size e) (I.ok.cab x c hfn hc)))).trans e1⟩
  .obtain⟨o',e1⟩:=I.base.there b o e hx;exact⟨o',(hs.2 b (ne_of_lt (lt_of_lt_of_le (Heap.lt_size e) (I.ok.cab x c hfn hc)))).trans e1⟩
  .by_cases hj:j=i
   .subst hj;rw[hi]at e1;cases e1;rw[List.getElem?_set_self hiσ]at e2;cases e2;exact⟨u,r,.inr ⟨.inl hk,c,hc,hc'⟩⟩
   .rw[List.getElem?_set_ne (Ne.symm hj)]at e2;obtain⟨u',r',q⟩:=hl j y v' e1 e2 e3;refine⟨u',r',?_⟩;rcases q with q|⟨k,c',e,z'⟩
    .exact .inl q
    .refine .inr ⟨k,c',e,z'.sameBut hs ?_⟩;rintro rfl;exact hj (Lg hN e1 (I.ok.inj _ _ _ e hc ▸ hi))
  .by_cases hcc:c'=c
   .subst hcc;exact⟨_,hc'⟩
   .obtain⟨w2,z2⟩:=I.cell y c' e;exact⟨w2,z2.sameBut hs hcc⟩
  .obtain⟨e,n,ne,nf,d⟩:=I.pin p hp;refine⟨(hs.2 p.1 ?_).trans e,n,ne,nf,d⟩;intro q;rw[q,hoc]at e;have q':oc=p.2:=Option.some.inj e;exact d w' (by rw[<- q'];exact hocd)
def L3{M:Model}{A:Around}{E:Value->Shared->Prop}{i:Nat}{x:Str}{v:V}{u:Value}{Q:Unit->Shared->Prop}(I:Inv X pins σ H s)(hN:X.N.Nodup)(hi:X.N[i]?=some x)(hx:Loc X.env.scope x)(r:RelV v u)
 (h:∀s',Inv X pins (σ.set i (some v)) H s'->Q () s') (hf:X.fn x=true∨X.env.scope.names.lookup x=some .local:=by first|exact .inl rfl|exact .inr rfl|assumption):wpAny M A (storeName X.env x u) Q E s:=
 Jo I hN hi hx r (λs' I' _=>h s' I') hf
def Inv.call'{s':Shared}{ch:List Addr}(I:Inv X pins σ H s)(ho:s'.os=s.os)(u:Un (frs X.stack) ch H H' s.heap s'.heap)(hok:HOk X.prog X.w H' s'.heap)(hg:AllBare s'.gens)
 (hch:∀b∈ch,(b∈X.ex∨X.s₀.heap.objs.size<=b)/\b≠X.env.locals/\(∀x c,X.env.cells.lookup x=some c->c≠b)/\∀p∈X.pn++pins,p.1≠b):Inv X pins σ H' s':=by
 obtain⟨h',g',d',t',o'⟩:=s';have e:o'=s.os:=ho;subst e;exact I.call (g':=g') (t':=t') (d':=d') u hok hg hch
end
abbrev XK:=Value->Option Addr->Hp->Prop
abbrev St:=List (Option V)
abbrev VK:=V->Hp->Prop
abbrev TE:=St->Hp->VK->Prop
abbrev TT:=St->Hp->(Bool->Hp->Prop)->Prop
abbrev TA:=St->Hp->(List V->Hp->Prop)->Prop
structure Ends where
 nx:St->Hp->Prop
 rt:VK
 bk:St->Hp->Prop:=λ_ _=>False
 ct:St->Hp->Prop:=λ_ _=>False
abbrev TS:=Ends->St->Hp->Prop
def EP(X:Cx)(pins:List (Addr×Obj))(σ:St)(Q:VK)(u:Value)(s':Shared):Prop:=∃v H',Inv X pins σ H' s'/\RelV v u/\Q v H'
def TP(X:Cx)(pins:List (Addr×Obj))(σ:St)(Q:Bool->Hp->Prop)(b:Bool)(s':Shared):Prop:=∃H',Inv X pins σ H' s'/\Q b H'
def AP(X:Cx)(pins:List (Addr×Obj))(σ:St)(Q:List V->Hp->Prop)(us:List Value)(s':Shared):Prop:=∃vs H',Inv X pins σ H' s'/\Vals vs us/\Q vs H'
def SP(X:Cx)(pins:List (Addr×Obj))(D:Ends)(f:Flow)(s':Shared):Prop:=
 match f with
 |.next=>∃σ' H',Inv X pins σ' H' s'/\D.nx σ' H'
 |.brk=>∃σ' H',Inv X pins σ' H' s'/\D.bk σ' H'
 |.cont=>∃σ' H',Inv X pins σ' H' s'/\D.ct σ' H'
 |.ret u=>∃v σ' H',Inv X pins σ' H' s'/\RelV v u/\D.rt v H'
def PE(X:Cx)(e:Expr)(t:TE):Prop:=
 ∀(pins:List (Addr×Obj)) (s:Shared) (σ:St) (H:Hp) (Q:VK),Inv X pins σ H s->t σ H Q->wpAny (model X.prog X.w) X.A (eval e X.env) (EP X pins σ Q) X.xe s
def PT(X:Cx)(e:Expr)(t:TT):Prop:=
 ∀(pins:List (Addr×Obj)) (s:Shared) (σ:St) (H:Hp) (Q:Bool->Hp->Prop),Inv X pins σ H s->t σ H Q->wpAny (model X.prog X.w) X.A (isTrue e X.env (eval e X.env)) (TP X pins σ Q) X.xe s
def PW(X:Cx)(e:Expr)(t:TT):Prop:=
 ∀(whole:Sem Value) (pins:List (Addr×Obj)) (s:Shared) (σ:St) (H:Hp) (Q:Bool->Hp->Prop),Inv X pins σ H s->t σ H Q->wpAny (model X.prog X.w) X.A (isTrue e X.env whole) (TP X pins σ Q) X.xe s
def PW.pt{X:Cx}{e:Expr}{t:TT}(h:PW X e t):PT X e t:=h _
def PA(X:Cx)(es:List Expr)(t:TA):Prop:=
 ∀(pos:Pos) (pins:List (Addr×Obj)) (s:Shared) (σ:St) (H:Hp) (Q:List V->Hp->Prop),Inv X pins σ H s->t σ H Q->wpAny (model X.prog X.w) X.A (spliced (backTo pos (starEach es X.env))) (AP X pins σ Q) X.xe s
def PS(X:Cx)(st:Stmt)(t:TS):Prop:=
 ∀(pins:List (Addr×Obj)) (s:Shared) (σ:St) (H:Hp) (D:Ends),Inv X pins σ H s->t D σ H->wpAny (model X.prog X.w) X.A (exec st X.env) (SP X pins D) X.xe s
def PSs(X:Cx)(st:List Stmt)(t:TS):Prop:=
 ∀(pins:List (Addr×Obj)) (s:Shared) (σ:St) (H:Hp) (D:Ends),Inv X pins σ H s->t D σ H->wpAny (model X.prog X.w) X.A (execs st X.env) (SP X pins D) X.xe s
def thn{α:Type}{t:Sem α}{Q Q':α->Shared->Prop}{M:Model}{A:Around}{E:Value->Shared->Prop}{s:Shared}(h:wpAny M A t Q E s)(hQ:∀a s,Q a s->Q' a s):wpAny M A t Q' E s:=wpAny_mono h hQ λ_ _ x=>x
section
variable{X:Cx}
def bin{a b:Expr}{ta tb:TE}(ha:PE X a ta)(hb:PE X b tb){pins:List (Addr×Obj)}{s:Shared}{σ:St}{H:Hp}{R:V->V->Hp->Prop}(I:Inv X pins σ H s)(h:ta σ H λx H1=>tb σ H1 λy H2=>R x y H2)
 {α:Type} {Q:α->Shared->Prop} {f:Value->Value->Sem α}
 (hf:∀v u s2 x y H2,Inv X pins σ H2 s2->RelV x v->RelV y u->R x y H2->wpAny (model X.prog X.w) X.A (f v u) Q X.xe s2):
 wpAny (model X.prog X.w) X.A (eval a X.env) (λv s₁=>wpAny (model X.prog X.w) X.A (eval b X.env) (λu s₂=>wpAny (model X.prog X.w) X.A (f v u) Q X.xe s₂) X.xe s₁) X.xe s:=by
 refine thn (ha pins s σ H _ I h) λv s1 ⟨x,H1,I1,r1,q1⟩=>?_;refine thn (hb pins s1 σ H1 _ I1 q1) λu s2 ⟨y,H2,I2,r2,q2⟩=>?_;exact hf v u s2 x y H2 I2 r1 r2 q2
def Nq(i:Nat):TE:=λσ H Q=>∃v,σ[i]?=some (some v)/\Q v H
def tC(v:V):TE:=λ_ H Q=>Q v H
def Po{i:Nat}{x:Str}{pos:Pos}(hN:X.N[i]?=some x)(hv:Vis X.env.scope x)(hd:(x==("__debug__":Str))=false:=by decide)(hcd:(x==("__classdict__":Str))=false:=by decide):PE X (.Name x pos) (Nq i):=by
 intro pins s σ H Q I h;obtain⟨v,e,h⟩:=h;obtain⟨m,hn,hl⟩:=I.loc;obtain⟨u,r,l⟩:=hl i x v hN e hv;have fin:EP X pins σ Q u s:=⟨v,H,I,r,h⟩
 rcases l with⟨hk,hm⟩|⟨hk,c,hc,hcell⟩
 .exact wpAny_Name (wpAny_loadName_local I.ok.kind hk hn hm fin) hd
 .rcases hk with hk|hk
  .exact wpAny_Name (wpAny_loadName_cell I.ok.kind hk hc hcell fin) hd
  .exact wpAny_Name (wpAny_loadName_free I.ok.kind hk hc hcell fin hcd) hd
def Xr{i j pos}:PE X (.Constant (.int i) j pos) (tC (.int i)):=λ_ _ _ H _ I h=>wpAny_Constant_int ⟨.int i,H,I.tok _,⟨_,rfl⟩,h⟩
def ZM{b j pos}:PE X (.Constant (.bool b) j pos) (tC (.bl b)):=λ_ _ _ H _ I h=>Constant_bool ⟨.bl b,H,I,rfl,h⟩
def Xo{j pos}:PE X (.Constant .none j pos) (tC .non):=λ_ _ _ H _ I h=>Constant_none ⟨.non,H,I,rfl,h⟩
def Xl{x j pos}:PE X (.Constant (.str x) j pos) (tC (.str x)):=λ_ _ _ H _ I h=>Calls.Constant_str ⟨.str x,H,I.tok _,⟨_,rfl⟩,h⟩
def Gl(X:Cx)(x:Str):Prop:=X.env.kindOf x=some .globalImplicit
def VY{E:Value->Shared->Prop}{pins:List (Addr×Obj)}{s:Shared}{σ:St}{H:Hp}{x:Str}{u:Value}{pos:Pos}{Q:Value->Shared->Prop}(I:Inv X pins σ H s)(hg:Gl X x)(hm:X.mg x=some u)(h:Q u s)
 (hd:(x==("__debug__":Str))=false:=by decide):wpAny (model X.prog X.w) X.A (eval (.Name x pos) X.env) Q E s:=
 Calls.Name_function_global I.ok.kind hg (Calls.loadGlobal_global (by rw[I.ok.glob];exact I.mod.glob.keeps I.bk) hm h) hd
def Ca{E:Value->Shared->Prop}{pins:List (Addr×Obj)}{s:Shared}{σ:St}{H:Hp}{x:Str}{u:Value}{pos:Pos}{Q:Value->Shared->Prop}(I:Inv X pins σ H s)(hg:Gl X x)(hm:X.mg x=none)(hv:bootBuiltins x=some u)(h:Q u s)
 (hn:x≠"__name__":=by decide) (hd:(x==("__debug__":Str))=false:=by decide):wpAny (model X.prog X.w) X.A (eval (.Name x pos) X.env) Q E s:=by
 obtain⟨mb,h1,h2⟩:=I.mod.blt;exact Calls.Name_function_global I.ok.kind hg (Calls.loadGlobal_builtin (by rw[I.ok.glob];exact I.mod.glob.keeps I.bk) hm (by rw[I.ok.blt];exact h1.keeps I.bk) ((h2 x hn).trans hv) h) hd
variable{a b:Expr}{ta tb:TE}{pos:Pos}
def PC(X:Cx)(op:CmpOp)(a b:Expr)(t:TE):Prop:=
 ∀(pins:List (Addr×Obj)) (s:Shared) (σ:St) (H:Hp) (Q:VK),Inv X pins σ H s->t σ H Q ->
   wpAny (model X.prog X.w) X.A (eval a X.env) (λv s₁=>wpAny (model X.prog X.w) X.A (eval b X.env) (λu s₂=>wpAny (model X.prog X.w) X.A (compareOp op v u) (EP X pins σ Q) X.xe s₂) X.xe s₁) X.xe s
def Li(b:Expr){op:CmpOp}(h:op≠.In)(h2:op≠.NotIn):behindInMarks op b=false:=by
 have e1:(op==CmpOp.In)=false:=by cases op<;>first|rfl|exact absurd rfl h
 have e2:(op==CmpOp.NotIn)=false:=by cases op<;>first|rfl|exact absurd rfl h2
 cases b<;>simp[behindInMarks,e1,e2]
def Nw(ta:TE):TE:=λσ H Q=>ta σ H λx H1=>Q (.bl (decide (x=.non))) H1
def Kh(ta:TE):TE:=λσ H Q=>ta σ H λx H1=>Q (.bl (!decide (x=.non))) H1
def RelV.none_iff{x:V}{v:Value}(r:RelV x v):(v==Value.none)=decide (x=.non):=by
 cases x with
 |non=>cases r;rfl
 |bl _=>cases r;rfl
 |int _=>obtain⟨t,rfl⟩:=r;rfl
 |str _=>obtain⟨t,rfl⟩:=r;rfl
 |byt _=>obtain⟨t,rfl⟩:=r;rfl
 |flt _=>obtain⟨t,rfl⟩:=r;rfl
 |ref _=>cases r;rfl
 |ty _=>cases r;rfl
def Pr{j pos'}(ha:PE X a ta):PC X .Is a (.Constant .none j pos') (Nw ta):=by
 intro pins s σ H Q I h;refine thn (ha pins s σ H _ I h) λv s1 ⟨x,H1,I1,r1,q1⟩=>?_;exact Constant_none (is_none_gen ⟨.bl _,H1,I1,by rw[r1.none_iff];rfl,q1⟩)
def NP{j pos'}(ha:PE X a ta):PC X .IsNot a (.Constant .none j pos') (Kh ta):=by
 intro pins s σ H Q I h;refine thn (ha pins s σ H _ I h) λv s1 ⟨x,H1,I1,r1,q1⟩=>?_;exact Constant_none (isnot_none_gen ⟨.bl _,H1,I1,by rw[r1.none_iff];rfl,q1⟩)
def tB(t:TE):TT:=λσ H Q=>t σ H λx H1=>∃c,x=.bl c/\Q c H1
def Pp{op:CmpOp}{t:TE}(h:PC X op a b t)(h1:behindInMarks op b=false:=by first|exact Li _ (by decide) (by decide)|rfl):PE X (.Compare a [op] [b] pos) t:=λpins s σ H Q I hw=>wpAny_Compare1 (h pins s σ H Q I hw) h1
def Ph{op:CmpOp}{t:TE}(h:PC X op a b t)(h1:behindInMarks op b=false:=by first|exact Li _ (by decide) (by decide)|rfl):PT X (.Compare a [op] [b] pos) (tB t):=by
 intro pins s σ H Q I hw;refine wpAny_isTrue_Compare1 (thn (h pins s σ H _ I hw) λv s1 h1=>thn h1 λu s2 h2=>thn h2 λc s3 ⟨x,H1,I1,r1,q1⟩=>?_) h1;obtain⟨d,rfl,q⟩:=q1;cases r1;exact wpAny_truthy_bool ⟨H1,I1,q⟩
variable{tA tB':TT}{rest:List Expr}
def RO(t u:TT):TT:=λσ H Q=>t σ H λc H1=>if c=true then u σ H1 Q else Q false H1
def tOr(t u:TT):TT:=λσ H Q=>t σ H λc H1=>if c=true then Q true H1 else u σ H1 Q
def Qz(t:TT):TT:=λσ H Q=>t σ H λc H1=>Q (!c) H1
def Us(ha:PT X a tA):PW X (.BoolOp .And [a] pos) tA:=by
 intro wh pins s σ H Q I h;refine isTrue_and (thn (ha pins s σ H Q I h) λc s1 e=>?_);cases c with
 |true=>exact isTrue_and_nil e
 |false=>exact e
def XY(ha:PT X a tA):PW X (.BoolOp .Or [a] pos) tA:=by
 intro wh pins s σ H Q I h;refine isTrue_or (thn (ha pins s σ H Q I h) λc s1 e=>?_);cases c with
 |false=>exact isTrue_or_nil e
 |true=>exact e
def XZ(ha:PT X a tA)(hb:PW X (.BoolOp .And (b::rest) pos) tB'):PW X (.BoolOp .And (a::b::rest) pos) (RO tA tB'):=by
 intro wh pins s σ H Q I h;refine isTrue_and (thn (ha pins s σ H _ I h) λc s1 ⟨H1,I1,q1⟩=>?_);cases c with
 |true=>exact hb wh pins s1 σ H1 Q I1 q1
 |false=>exact⟨H1,I1,q1⟩
def ZG(ha:PT X a tA)(hb:PW X (.BoolOp .Or (b::rest) pos) tB'):PW X (.BoolOp .Or (a::b::rest) pos) (tOr tA tB'):=by
 intro wh pins s σ H Q I h;refine isTrue_or (thn (ha pins s σ H _ I h) λc s1 ⟨H1,I1,q1⟩=>?_);cases c with
 |true=>exact⟨H1,I1,q1⟩
 |false=>exact hb wh pins s1 σ H1 Q I1 q1
def Xa(ha:PT X a tA):PT X (.UnaryOp .Not a pos) (Qz tA):=by
 intro pins s σ H Q I h;exact isTrue_not (ha pins s σ H (λc H1=>Q (!c) H1) I h)
def O1(ta tb:TE):TE:=λσ H Q=>ta σ H λx H1=>∃c,x=.bl c/\if c=true then tb σ H1 Q else Q (.bl false) H1
def Qy(ta tb:TE):TE:=λσ H Q=>ta σ H λx H1=>∃c,x=.bl c/\if c=true then Q (.bl true) H1 else tb σ H1 Q
def Nt(ta:TE):TE:=λσ H Q=>ta σ H λx H1=>∃c,x=.bl c/\Q (.bl (!c)) H1
def Xm{op}{t:TE}(h:PE X a t):PE X (.BoolOp op [a] pos) t:=λpins s σ H Q I hw=>BoolOp_one (h pins s σ H Q I hw)
def Xu(ha:PE X a ta)(hb:PE X (.BoolOp .And (b::rest) pos) tb):PE X (.BoolOp .And (a::b::rest) pos) (O1 ta tb):=by
 intro pins s σ H Q I h;refine BoolOp_and (thn (ha pins s σ H _ I h) λv s1 ⟨x,H1,I1,r1,q1⟩=>?_);obtain⟨c,rfl,q1⟩:=q1;cases r1;refine wpAny_truthy_bool ?_;cases c with
 |true=>exact hb pins s1 σ H1 Q I1 q1
 |false=>exact⟨.bl false,H1,I1,rfl,q1⟩
def ZK(ha:PE X a ta)(hb:PE X (.BoolOp .Or (b::rest) pos) tb):PE X (.BoolOp .Or (a::b::rest) pos) (Qy ta tb):=by
 intro pins s σ H Q I h;refine BoolOp_or (thn (ha pins s σ H _ I h) λv s1 ⟨x,H1,I1,r1,q1⟩=>?_);obtain⟨c,rfl,q1⟩:=q1;cases r1;refine wpAny_truthy_bool ?_;cases c with
 |false=>exact hb pins s1 σ H1 Q I1 q1
 |true=>exact⟨.bl true,H1,I1,rfl,q1⟩
def Xn(ha:PE X a ta):PE X (.UnaryOp .Not a pos) (Nt ta):=by
 intro pins s σ H Q I h;refine UnaryOp_ (thn (ha pins s σ H _ I h) λv s1 ⟨x,H1,I1,r1,q1⟩=>?_);obtain⟨c,rfl,q1⟩:=q1;cases r1;exact not_of (wpAny_truthy_bool ⟨.bl (!c),H1,I1,rfl,q1⟩)
def tIf(t:TT)(ta tb:TE):TE:=λσ H Q=>t σ H λc H1=>if c=true then ta σ H1 Q else tb σ H1 Q
def SL{c:Expr}(hc:PT X c tA)(ha:PE X a ta)(hb:PE X b tb):PE X (.IfExp c a b pos) (tIf tA ta tb):=by
 intro pins s σ H Q I h;refine wpAny_IfExp (thn (hc pins s σ H _ I h) λd s1 ⟨H1,I1,q1⟩=>?_);cases d with
 |true=>exact ha pins s1 σ H1 Q I1 q1
 |false=>exact hb pins s1 σ H1 Q I1 q1
end
def SqL(K:PySem.W.Frag)(H:Hp)(a:Addr)(xs:List V):Prop:=
 Rd H a (.lst xs) ∨
  ∃(o:Obj) (its:Array Value) (n:Nat),K.lookup a=some o/\o.cls=.type "list"/\o.dict=none/\o.data=.seq its n/\its.size<=sizeLine/\Vals xs its.toList
def SqT(K:PySem.W.Frag)(H:Hp)(a:Addr)(xs:List V):Prop:=
 Rd H a (.tup xs) ∨
  ∃(o:Obj) (its:Array Value) (n:Nat),K.lookup a=some o/\o.cls=.type "tuple"/\o.dict=none/\o.data=.seq its n/\its.size<=sizeLine/\Vals xs its.toList
def ad:Value->Option V
 |.none=>some .non
 |.bool b=>some (.bl b)
 |.int i _=>some (.int i)
 |.str x _=>some (.str x)
 |.bytes b _=>some (.byt b)
 |.float b _=>some (.flt b)
 |.ref a=>some (.ref a)
 |.type n=>some (.ty n)
 |_=>none
def RelV.abs{x:V}{u:Value}(r:RelV x u):ad u=some x:=by
 cases x with
 |non=>cases r;rfl
 |bl _=>cases r;rfl
 |int _=>obtain⟨t,rfl⟩:=r;rfl
 |str _=>obtain⟨t,rfl⟩:=r;rfl
 |byt _=>obtain⟨t,rfl⟩:=r;rfl
 |flt _=>obtain⟨t,rfl⟩:=r;rfl
 |ref _=>cases r;rfl
 |ty _=>cases r;rfl
theorem RelV.inj{x y:V}{u:Value}(r:RelV x u)(q:RelV y u):x=y:=Option.some.inj (r.abs.symm.trans q.abs)
theorem Vals.inj:∀{xs ys:List V} {us:List Value},Vals xs us->Vals ys us->xs=ys
 |_,_,_,.nil,.nil=>rfl
 |_,_,_,.cons r t,.cons r' t'=>by rw[r.inj r',Vals.inj t t']
section
variable{X:Cx}{pins:List (Addr×Obj)}{σ:St}{H:Hp}{s:Shared}{a:Addr}{xs ys:List V}
def SqL.of{K:PySem.W.Frag}(h:H a=some (.lst xs)):SqL K H a xs:=.inl (.inl h)
def SqT.of{K:PySem.W.Frag}(h:H a=some (.tup xs)):SqT K H a xs:=.inl (.inl h)
def Inv.list(I:Inv X pins σ H s)(h:SqL X.K H a xs):∃its:List Value,Vals xs its/\PlainL s.heap a its.toArray/\xs.length<=sizeLine:=by
 rcases h with h|⟨o,its,n,hk,hc,hd,hs,hz,r⟩
 .obtain⟨z,its,n,r,e⟩:=h.ok I.hok;exact⟨its,r,⟨_,n,e,rfl,rfl,rfl⟩,z⟩
 .refine⟨its.toList,r,⟨o,n,I.kIn a o hk,hc,hd,by simpa using hs⟩,?_⟩;have e:=r.length;simp only[Array.length_toList]at e;omega
def Inv.tuple(I:Inv X pins σ H s)(h:SqT X.K H a xs):∃its:List Value,Vals xs its/\IsTup s.heap a its.toArray/\xs.length<=sizeLine:=by
 rcases h with h|⟨o,its,n,hk,hc,_,hs,hz,r⟩
 .obtain⟨z,its,r,p⟩:=h.ok I.hok;exact⟨its,r,p.t,z⟩
 .refine⟨its.toList,r,⟨o,I.kIn a o hk,hc,n,by simpa using hs⟩,?_⟩;have e:=r.length;simp only[Array.length_toList]at e;omega
def Inv.list_inj(I:Inv X pins σ H s)(h:SqL X.K H a xs)(h':SqL X.K H a ys):xs=ys:=by
 obtain⟨its,r,⟨o,n,e,_,_,d⟩,_⟩:=I.list h;obtain⟨its',r',⟨o',n',e',_,_,d'⟩,_⟩:=I.list h';rw[e]at e';cases e';rw[d]at d'
 injection d' with d1 _
 have:its=its':=by simpa using congrArg Array.toList d1
 subst this;exact r.inj r'
def Inv.tuple_inj(I:Inv X pins σ H s)(h:SqT X.K H a xs)(h':SqT X.K H a ys):xs=ys:=by
 obtain⟨its,r,⟨o,e,_,n,d⟩,_⟩:=I.tuple h;obtain⟨its',r',⟨o',e',_,n',d'⟩,_⟩:=I.tuple h';rw[e]at e';cases e';rw[d]at d'
 injection d' with d1 _
 have:its=its':=by simpa using congrArg Array.toList d1
 subst this;exact r.inj r'
end
abbrev Cx.wish(X:Cx)(E:Value->Shared->Prop):Cx:={ X with xe:=E }
abbrev Cx.nox(X:Cx):Cx:=X.wish λ_ _=>False
theorem Cx.Ok.wish{X:Cx}(ok:X.Ok)(E:Value->Shared->Prop):(X.wish E).Ok:=
 ⟨ok.mod,ok.kind,ok.glob,ok.blt,ok.above,ok.inj,ok.has,ok.cab,ok.hd,ok.frames,ok.stk,ok.exf,ok.bs,ok.bsz,ok.noex,ok.exfs,ok.funs,ok.frf⟩
def Cx.Ok.unwish{X:Cx}{E:Value->Shared->Prop}(ok:(X.wish E).Ok):X.Ok:=
 ⟨ok.mod,ok.kind,ok.glob,ok.blt,ok.above,ok.inj,ok.has,ok.cab,ok.hd,ok.frames,ok.stk,ok.exf,ok.bs,ok.bsz,ok.noex,ok.exfs,ok.funs,ok.frf⟩
section
variable{X:Cx}{pins:List (Addr×Obj)}{σ:St}{H:Hp}{s:Shared}{E:Value->Shared->Prop}
theorem Inv.wish(I:Inv X pins σ H s)(E:Value->Shared->Prop):Inv (X.wish E) pins σ H s:=⟨I.ok.wish E,I.os,I.bare,I.base,I.loc,I.cell,I.free,I.freeC,I.pin,I.hok,I.len⟩
theorem Inv.unwish(I:Inv (X.wish E) pins σ H s):Inv X pins σ H s:=⟨I.ok.unwish,I.os,I.bare,I.base,I.loc,I.cell,I.free,I.freeC,I.pin,I.hok,I.len⟩
theorem SP.unwish{D:Ends}{f:Flow}{s':Shared}(h:SP (X.wish E) pins D f s'):SP X pins D f s':=by
 cases f with
 |next=>obtain⟨σ',H',I,q⟩:=h;exact⟨σ',H',I.unwish,q⟩
 |brk=>obtain⟨σ',H',I,q⟩:=h;exact⟨σ',H',I.unwish,q⟩
 |cont=>obtain⟨σ',H',I,q⟩:=h;exact⟨σ',H',I.unwish,q⟩
 |ret u=>obtain⟨v,σ',H',I,r,q⟩:=h;exact⟨v,σ',H',I.unwish,r,q⟩
theorem PSs.nox{st:List Stmt}{t:TS}(h:PSs X.nox st t):PSs X st t:=λpins s σ H D I hw=>
 wpAny_mono (h pins s σ H D (I.wish _) hw) (λ_ _ q=>q.unwish) λ_ _ z=>False.elim z
end
section
variable{X:Cx}{st:Stmt}{rest:List Stmt}{t u:TS}{e:Expr}{te:TE}{pos:Pos}
def Ia:TS:=λD σ H=>D.nx σ H
def Qw(t u:TS):TS:=λD σ H=>t { D with nx:=u D } σ H
def Uu:PSs X [] Ia:=λ_ _ σ H _ I h=>wpAny_execs_nil ⟨σ,H,I,h⟩
def SB(h1:PS X st t)(h2:PSs X rest u):PSs X (st::rest) (Qw t u):=by
 intro pins s σ H D I h;refine wpAny_execs_cons (thn (h1 pins s σ H { D with nx:=u D } I h) λf s1 q=>?_);cases f with
 |next=>
  obtain⟨σ',H',I',q⟩:=q;exact h2 pins s1 σ' H' D I' q
 |ret v=>exact q
 |brk=>exact q
 |cont=>exact q
def Ut(h1:PS X st t):PSs X [st] t:=by
 intro pins s σ H D I h;refine wpAny_execs_cons (thn (h1 pins s σ H D I h) λf s1 q=>?_);cases f with
 |next=>exact wpAny_execs_nil q
 |ret v=>exact q
 |brk=>exact q
 |cont=>exact q
def Uw:PS X (.Pass pos) Ia:=λ_ _ σ H _ I h=>wpAny_Pass ⟨σ,H,I,h⟩
def Inv.quiet{pins:List (Addr×Obj)}{σ:St}{H:Hp}{s:Shared}(I:Inv X pins σ H s):interactive X.env=false:=by simp[interactive,I.ok.kind]
def Nx(te:TE):TS:=λD σ H=>te σ H λ_ H1=>D.nx σ H1
def Ux(he:PE X e te)(hs:swapsWith e none pos.line X.env=pure false:=by rfl):PS X (.Expr e pos) (Nx te):=by
 intro pins s σ H D I h;exact wpAny_Expr_any (thn (he pins s σ H _ I h) λv s1 ⟨x,H1,I1,r1,q1⟩=>⟨σ,H1,I1,q1⟩) I.quiet hs
def Qx(te:TE):TS:=λD σ H=>te σ H D.rt
def Xc(he:PE X e te):PS X (.Return (some e) pos) (Qx te):=by
 intro pins s σ H D I h;exact wpAny_Return_some (thn (he pins s σ H _ I h) λv s1 ⟨x,H1,I1,r1,q1⟩=>⟨x,σ,H1,I1,r1,q1⟩)
def RJ(c:TT)(t u:TS):TS:=λD σ H=>c σ H λb H1=>if b=true then t D σ H1 else u D σ H1
def ZI{c:Expr}{a b:List Stmt}{tc:TT}(hc:PT X c tc)(ha:PSs X a t)(hb:PSs X b u):PS X (.If c a b pos) (RJ tc t u):=by
 intro pins s σ H D I h;refine wpAny_If (thn (hc pins s σ H _ I h) λd s1 ⟨H1,I1,q1⟩=>?_);cases d with
 |true=>exact ha pins s1 σ H1 D I1 q1
 |false=>exact hb pins s1 σ H1 D I1 q1
def Ky:TS:=λ_ _ _=>False
def SD:PS X st Ky:=λ_ _ _ _ _ _ h=>h.elim
end
abbrev TG:=V->St->Hp->(St->Hp->Prop)->Prop
abbrev TGs:=List V->St->Hp->(St->Hp->Prop)->Prop
def PG(X:Cx)(target:Expr)(t:TG):Prop:=
 ∀(pins:List (Addr×Obj)) (s:Shared) (σ:St) (H:Hp) (v:V) (u:Value) (Q:St->Hp->Prop),Inv X pins σ H s->RelV v u->t v σ H Q ->
   wpAny (model X.prog X.w) X.A (assign target X.env u) (λ_ s'=>∃σ' H',Inv X pins σ' H' s'/\Q σ' H') X.xe s
def PGs(X:Cx)(ts:List Expr)(t:TGs):Prop:=
 ∀(pins:List (Addr×Obj)) (s:Shared) (σ:St) (H:Hp) (vs:List V) (us:List Value) (Q:St->Hp->Prop),Inv X pins σ H s->Vals vs us->t vs σ H Q ->
   wpAny (model X.prog X.w) X.A (assignInOrder ((assignEach ts X.env).map (·.2)) us) (λ_ s'=>∃σ' H',Inv X pins σ' H' s'/\Q σ' H') X.xe s
abbrev Md:=V->V->V->Hp->(Hp->Prop)->Prop
def T1(X:Cx)(t:Md):Prop:=
 ∀(pins:List (Addr×Obj)) (s:Shared) (σ:St) (H:Hp) (o i v:V) (ov iv u:Value) (Q:Hp->Prop),Inv X pins σ H s->RelV o ov->RelV i iv->RelV v u->t o i v H Q ->
   wpAny (model X.prog X.w) X.A (setItem ov iv u) (λ_ s'=>∃H',Inv X pins σ H' s'/\Q H') X.xe s
abbrev TIp:=V->V->Hp->VK->Prop
def PIp(X:Cx)(op:Operator)(t:TIp):Prop:=
 ∀(pins:List (Addr×Obj)) (s:Shared) (σ:St) (H:Hp) (x y:V) (v u:Value) (Q:VK),Inv X pins σ H s->RelV x v->RelV y u->t x y H Q ->
   wpAny (model X.prog X.w) X.A (inplaceOp op v u) (EP X pins σ Q) X.xe s
section
variable{X:Cx}{pos:Pos}
def Dp(i:Nat):TG:=λv σ H Q=>Q (σ.set i (some v)) H
def VA{i:Nat}{x:Str}(hN:X.N.Nodup)(hi:X.N[i]?=some x)(hx:Loc X.env.scope x)(hf:X.fn x=true∨X.env.scope.names.lookup x=some .local:=by first|exact .inl rfl|exact .inr rfl|assumption):PG X (.Name x pos) (Dp i):=by
 intro pins s σ H v u Q I r h;exact wpAny_assign_Name (L3 I hN hi hx r (λs' I'=>⟨_,H,I',h⟩) hf)
def Sl:TGs:=λvs σ H Q=>vs=[]/\Q σ H
def Ol(t:TG)(u:TGs):TGs:=λvs σ H Q=>∃v r,vs=v::r/\t v σ H λσ' H'=>u r σ' H' Q
def V8:PGs X [] Sl:=by
 intro pins s σ H vs us Q I r h;obtain⟨e,h⟩:=h;subst e;cases r;exact assignInOrder_nil ⟨σ,H,I,h⟩
def SI{e:Expr}{es:List Expr}{t:TG}{u:TGs}(h1:PG X e t)(h2:PGs X es u)
 (hs:(assignEach (e::es) X.env).map (·.2)=assign e X.env::(assignEach es X.env).map (·.2):=by rfl):PGs X (e::es) (Ol t u):=by
 intro pins s σ H vs us Q I r h;obtain⟨v,vr,e1,h⟩:=h;subst e1;cases r with
 |cons r rr=>
  rw[hs];refine assignInOrder_cons (thn (h1 pins s σ H _ _ _ I r h) λ_ s1 ⟨σ1,H1,I1,q1⟩=>?_);exact h2 pins s1 σ1 H1 _ _ Q I1 rr q1
def Oj(K:PySem.W.Frag)(n:Nat)(t:TGs):TG:=λv σ H Q=>∃a xs,v=.ref a/\SqT K H a xs/\xs.length=n/\t xs σ H Q
def Xg{es:List Expr}{k:Nat}{t:TGs}{n:Nat}(hc:X.calm=true)(h:PGs X es t)
 (hn:(assignEach es X.env).length=n:=by rfl) (hst:(assignEach es X.env).findIdx? (·.1)=none:=by rfl):PG X (.Tuple es k pos) (Oj X.K n t):=by
 intro pins s σ H v u Q I r hw;obtain⟨a,xs,e1,hq,hl,hw⟩:=hw;subst e1;cases r;obtain⟨its,rv,ht,hz⟩:=I.tuple hq;refine assign_Tuple_tuple (I.ok.hd hc) ht (by simp[hn,<- hl,rv.length]) hst λh' hx=>?_;have I1:Inv X pins σ H { s with heap:=h' }:=I.kept (t':=s.toks) λb o e=>hx b o (ne_of_lt (Heap.lt_size e)) e;exact h pins _ σ H xs _ Q I1 (by simpa using rv) hw
def Sj(to ti:TE)(t:Md):TG:=λv σ H Q=>to σ H λo H1=>ti σ H1 λi H2=>t o i v H2 λH3=>Q σ H3
def Xh{o i:Expr}{to ti:TE}{t:Md}(ho:PE X o to)(hi:PE X i ti)(hs:T1 X t)
 (ha:∀v,assign (.Subscript o i pos) X.env v=(do
  let ov <- holding [v] (eval o X.env)
  let iv <- holding [v,ov] (eval i X.env)
  standAt pos
  holding [v,ov,iv] (setItem ov iv v)
  release [v,ov,iv] []):=by intro _;rfl):PG X (.Subscript o i pos) (Sj to ti t):=by
 intro pins s σ H v u Q I r h;rw[ha];refine wpAny_bind (wpAny_holding (thn (ho pins s σ H _ I h) λov s1 ⟨x,H1,I1,r1,q1⟩=>?_));refine wpAny_bind (wpAny_holding (thn (hi pins s1 σ H1 _ I1 q1) λiv s2 ⟨y,H2,I2,r2,q2⟩=>?_));refine wpAny_bind (wpAny_standAt (wpAny_bind (wpAny_holding (thn (hs pins s2 σ H2 x y v ov iv u _ I2 r1 r2 r q2) λ_ s3 ⟨H3,I3,q3⟩=>?_))));exact wpAny_release ⟨σ,H3,I3,q3⟩
def Ed(te:TE)(g:TG):TS:=λD σ H=>te σ H λx H1=>g x σ H1 D.nx
def Pi{tg e:Expr}{te:TE}{g:TG}(he:PE X e te)(hg:PG X tg g)(hs:swapsWithSole [tg] e pos.line X.env=pure false:=by rfl)(hw:swappedStores [tg] e X.env=pure none:=by rfl)
 (h1:(assignEach [tg] X.env).map (·.2)=[assign tg X.env]:=by rfl):PS X (.Assign [tg] e pos) (Ed te g):=by
 intro pins s σ H D I h;refine wpAny_Assign_stores (thn (he pins s σ H _ I h) λv s1 ⟨x,H1,I1,r1,q1⟩=>?_) hs hw;rw[h1];exact thn (hg pins s1 σ H1 x v _ I1 r1 q1) λ_ s2 q=>q
def Xb{i:Nat}{x:Str}{e:Expr}{te:TE}{pos':Pos}(hN:X.N.Nodup)(hi:X.N[i]?=some x)(hx:Loc X.env.scope x)(he:PE X e te)(hs:swapsWith e (some (.Name x pos')) pos.line X.env=pure false:=by rfl)(hf:X.fn x=true∨X.env.scope.names.lookup x=some .local:=by first|exact .inl rfl|exact .inr rfl|assumption):
 PS X (.Assign [.Name x pos'] e pos) (Ed te (Dp i)):=by
 intro pins s σ H D I h;refine wpAny_Assign_Name (thn (he pins s σ H _ I h) λv s1 ⟨y,H1,I1,r1,q1⟩=>?_) hs;exact L3 I1 hN hi hx r1 (λs2 I2=>⟨_,H1,I2,q1⟩) hf
def O0(to ti te:TE)(tget:V->V->Hp->VK->Prop)(tip:TIp)(tset:Md):TS:=λD σ H=>to σ H λo H1=>ti σ H1 λi H2=>tget o i H2 λx H3=>te σ H3 λy H4=>tip x y H4 λz H5=>tset o i z H5 λH6=>D.nx σ H6
def Yp(X:Cx)(t:V->V->Hp->VK->Prop):Prop:=
 ∀(pins:List (Addr×Obj)) (s:Shared) (σ:St) (H:Hp) (o i:V) (ov iv:Value) (Q:VK),Inv X pins σ H s->RelV o ov->RelV i iv->t o i H Q ->
   wpAny (model X.prog X.w) X.A (getItem ov iv) (EP X pins σ Q) X.xe s
def Uz{o i e:Expr}{to ti te:TE}{tget:V->V->Hp->VK->Prop}{tip:TIp}{tset:Md}{op:Operator}{tpos:Pos}(ho:PE X o to)(hi:PE X i ti)(hg:Yp X tget)(he:PE X e te)(hp:PIp X op tip)(hs:T1 X tset)
 (ha:∀ov iv new,augStore i ov iv new=(do holding [new,ov,iv] (setItem ov iv new);release [new,ov,iv] [];pure .next):=by intros;rfl):PS X (.AugAssign (.Subscript o i tpos) op e pos) (O0 to ti te tget tip tset):=by
 intro pins s σ H D I h;refine wpAny_AugAssign_SubscriptAny (thn (ho pins s σ H _ I h) λov s1 ⟨x1,H1,I1,r1,q1⟩=>?_) ha;refine thn (hi pins s1 σ H1 _ I1 q1) λiv s2 ⟨x2,H2,I2,r2,q2⟩=>?_;refine thn (hg pins s2 σ H2 x1 x2 ov iv _ I2 r1 r2 q2) λold s3 ⟨x3,H3,I3,r3,q3⟩=>?_;refine thn (he pins s3 σ H3 _ I3 q3) λv s4 ⟨x4,H4,I4,r4,q4⟩=>?_;refine thn (hp pins s4 σ H4 x3 x4 old v _ I4 r3 r4 q4) λnew s5 ⟨x5,H5,I5,r5,q5⟩=>?_;exact thn (hs pins s5 σ H5 x1 x2 x5 ov iv new _ I5 r1 r2 r5 q5) λ_ s6 ⟨H6,I6,q6⟩=>⟨σ,H6,I6,q6⟩
def ipI(f:Int->Int->Int):TIp:=λx y H Q=>∃i j,x=.int i/\y=.int j/\Q (.int (f i j)) H
def YQ:PIp X .Sub (ipI λi j=>i-j):=by
 intro pins s σ H x y v u Q I r1 r2 h;obtain⟨i,j,e1,e2,q⟩:=h;subst e1;subst e2;obtain⟨t,rfl⟩:=r1;obtain⟨t',rfl⟩:=r2;exact isub_int ⟨.int _,H,I.tok _,⟨_,rfl⟩,q⟩
end
section
variable{X:Cx}{pos:Pos}
def Kx(c:TT)(tb:TS):TS:=λD σ H=>∃W:Nat->St->Hp->Prop,(∃m,W m σ H)/\∀m σ H,W m σ H ->
 c σ H λb H1=>if b=true then ∃N:St->Hp->Prop,(∀σ' H',N σ' H'->∃m',m'<m/\W m' σ' H')/\tb { D with nx:=N,ct:=N,bk:=D.nx } σ H1 else D.nx σ H1
def SC{c:Expr}{body:List Stmt}{tc:TT}{tb:TS}(hp:PassesOwn (model X.prog X.w) X.A X.env X.xe)(hc:PT X c tc)(hb:PSs X body tb):PS X (.While c body [] pos) (Kx tc tb):=by
 intro pins s σ H D I h;obtain⟨W,⟨m0,w0⟩,turn⟩:=h;refine wpAny_While (codeAny_whileLoop (λn s'=>∃σ' H',Inv X pins σ' H' s'/\W n σ' H') ?_ m0 ⟨σ,H,I,w0⟩);rintro n s1 ⟨σ1,H1,I1,w1⟩;refine wpAny_passesOwn hp (thn (hc pins s1 σ1 H1 _ I1 (turn n σ1 H1 w1)) λb s2 ⟨H2,I2,q2⟩=>?_);cases b with
 |true=>
  obtain⟨N,hN,q2⟩:=q2;rw[if_pos rfl];refine wpAny_passesOwn hp (thn (hb pins s2 σ1 H2 _ I2 q2) λf s3 q3=>?_);cases f with
  |next=>
   obtain⟨σ3,H3,I3,n3⟩:=q3;obtain⟨m',hm,w3⟩:=hN σ3 H3 n3;exact⟨m',hm,σ3,H3,I3,w3⟩
  |cont=>
   obtain⟨σ3,H3,I3,n3⟩:=q3;obtain⟨m',hm,w3⟩:=hN σ3 H3 n3;exact⟨m',hm,σ3,H3,I3,w3⟩
  |brk=>exact q3
  |ret v=>exact q3
 |false=>
  rw[if_neg Bool.false_ne_true];exact wpAny_execs_nil ⟨σ1,H2,I2,q2⟩
end
structure It where
 go:Nat->Hp->Prop
 yld:Nat->Hp->V->Hp->Prop
 stop:Nat->Hp->Prop
def FpOk(X:Cx)(pins:List (Addr×Obj))(H:Hp)(b:Addr):Prop:=
 H b=none/\b≠X.env.locals/\b∉X.fs/\(b∈X.ex∨X.s₀.heap.objs.size<=b)/\(∀x c,X.env.cells.lookup x=some c->c≠b)/\∀p∈X.pn++pins,p.1≠b
def Inv.fpOk{X:Cx}{pins:List (Addr×Obj)}{σ:St}{H H':Hp}{s:Shared}{b:Addr}(I:Inv X pins σ H s)(hb:s.heap.objs.size<=b)(hn:H' b=none):FpOk X pins H' b:=by
 refine⟨hn,ne_of_gt (lt_of_lt_of_le I.lt hb),I.nofs hb,.inr (le_trans I.sz hb),λx c e z=>?_,λp hp z=>?_⟩
 .obtain⟨v,q⟩:=I.cell x c e;exact absurd (lt_of_lt_of_le q.lt (by rw[z];exact hb)) (lt_irrefl _)
 .exact absurd (lt_of_lt_of_le (Heap.lt_size (I.pin p hp).1) (by rw[z];exact hb)) (lt_irrefl _)
structure Turn(P:Program)(w:World)(K:PySem.W.Frag)(tg:Expr)(J:It)(fp:List Addr)(it:Addr)(tn:Nat->Heap->Prop):Prop where
 mem:it∈fp
 obj:∀i h,tn i h->∀b∈fp,∃o,h.get? b=some o/\∀v,o.data≠.cell v
 keep:∀i h h',tn i h->(∀b∈fp,∀o,h.get? b=some o->h'.get? b=some o)->tn i h'
 item:∀(X:Cx),X.prog=P->X.w=w->X.K=K->X.calm=true->∀(i:Nat) (pins:List (Addr×Obj)) (s:Shared) (σ:St) (H:Hp) (E:Value->Shared->Prop),Inv X pins σ H s->(∀b∈fp,FpOk X pins H b)->tn i s.heap->J.go i H ->
  wpAny (model P w) X.A (pyNext (.ref it)) (λr s1=>∃u,r=some u /\
   wpAny (model P w) X.A (letOwnedTupleGo tg (.ref it) u) (λ_ s2=>∃x H',Inv X pins σ H' s2/\RelV x u/\J.yld i H x H'/\tn (i+1) s2.heap/\∀b∈fp,H' b=none) E s1) E s
 done:∀(X:Cx),X.prog=P->X.w=w->X.K=K->X.calm=true->∀(i:Nat) (pins:List (Addr×Obj)) (s:Shared) (σ:St) (H:Hp) (E:Value->Shared->Prop),Inv X pins σ H s->(∀b∈fp,FpOk X pins H b)->tn i s.heap->J.stop i H ->
  wpAny (model P w) X.A (pyNext (.ref it)) (λr s1=>r=none/\Inv X pins σ H s1) E s
 self:∀(A:Around) (i:Nat) (s:Shared) (Q:Value->Shared->Prop) (E:Value->Shared->Prop),tn i s.heap->Q (.ref it) s->wpAny (model P w) A (pyIter (.ref it)) Q E s
abbrev TI:=St->Hp->(It->Hp->Prop)->Prop
def PIE(X:Cx)(pins:List (Addr×Obj))(σ:St)(tg:Expr)(R:It->Hp->Prop)(itv:Value)(s2:Shared):Prop:=
 ∃(it:Addr) (fp:List Addr) (tn:Nat->Heap->Prop) (J:It) (H':Hp),itv=.ref it/\Inv X pins σ H' s2/\Turn X.prog X.w X.K tg J fp it tn/\tn 0 s2.heap/\(∀b∈fp,FpOk X pins H' b)/\R J H'
def PI(X:Cx)(tg iter:Expr)(wi:TI):Prop:=
 ∀(pins:List (Addr×Obj)) (s:Shared) (σ:St) (H:Hp) (R:It->Hp->Prop),Inv X pins σ H s->wi σ H R ->
   wpAny (model X.prog X.w) X.A (eval iter X.env) (λv s1=>wpAny (model X.prog X.w) X.A (pyIter v) (PIE X pins σ tg R) X.xe s1) X.xe s
def Oi{M:Model}{A:Around}{E:Value->Shared->Prop}{s:Shared}{tg:Expr}{it:Addr}{u:Value}{o:Obj}{n:String}{vs:Array Value}{Q:Unit->Shared->Prop}(ho:s.heap.get? it=some o)(hc:o.cls=.type n)(hd:o.data=.fields vs)
 (hn:["enumerate","zip","dict_itemiterator","dict_reverseitemiterator","odict_iterator","itertools.zip_longest","itertools.pairwise"].contains n=false) (hQ:Q () s):wpAny M A (letOwnedTupleGo tg (.ref it) u) Q E s:=by
 unfold letOwnedTupleGo;cases tg<;>first
  |exact wpAny_pure hQ
  | (cases u<;>first
   |exact wpAny_pure hQ
   | (refine wpAny_bind (wpAny_load ho ?_)
      rw[hc,hd];show wpAny M A (if(["enumerate","zip","dict_itemiterator","dict_reverseitemiterator","odict_iterator","itertools.zip_longest","itertools.pairwise"].contains n&&vs[0]?==some (rawInt _))=true then _ else _) Q E s;rw[if_neg (by intro h;rw[hn,Bool.false_and]at h;cases h)];exact wpAny_pure hQ))
def Itl(K:PySem.W.Frag)(a:Addr):It:=
 ⟨λi H=>∃xs x,SqL K H a xs/\xs[i]?=some x,λi H x H'=>H'=H/\∀xs,SqL K H a xs->xs[i]?=some x,λi H=>∃xs,SqL K H a xs/\xs.length<=i⟩
def Itt(K:PySem.W.Frag)(a:Addr):It:=
 ⟨λi H=>∃xs x,SqT K H a xs/\xs[i]?=some x,λi H x H'=>H'=H/\∀xs,SqT K H a xs->xs[i]?=some x,λi H=>∃xs,SqT K H a xs/\xs.length<=i⟩
def Itr(lo:Int)(n:Nat):It:=⟨λi _=>i<n,λi H x H'=>H'=H/\x=.int (lo+i),λi _=>n<=i⟩
def P3{P:Program}{w:World}{K:PySem.W.Frag}{tg:Expr}(a it:Addr):Turn P w K tg (Itl K a) [it] it (λi h=>h.IsListIter it a i) where
 mem:=by simp
 obj:=λi h st b hb=>by
  have e:b=it:=by simpa using hb
  subst e;obtain⟨o,e,c,d⟩:=st;exact⟨o,e,λv z=>by rw[d]at z;cases z⟩
 keep:=λi h h' st k=>st.at λo e=>k it (by simp) o e
 item:=by
  intro X hP hw hK hc i pins s σ H E I hf st hg;subst hP hw hK;obtain⟨xs,x,hq,hx⟩:=hg;obtain⟨its,rv,p,hz⟩:=I.list hq;obtain⟨u,hu,ru⟩:=rv.get hx;obtain⟨f0,f1,f2,f3,f4,f5⟩:=hf it (by simp);refine wpAny_pyNext_list_item st p.isList (x:=u) (by simpa using hu) λh' st' sb=>?_;have I1:Inv X pins σ H { s with heap:=h' }:=I.turned (t':=s.toks) (λb o hb e=>(sb.2 b hb).trans e) f0 f1 f3 f4 f5;obtain⟨o,e,c,d⟩:=id st';exact⟨u,rfl,Oi (s:={ s with heap:=h' }) e c d (by decide) ⟨x,H,I1,ru,⟨rfl,λys hy=>by rw[I.list_inj hy hq];exact hx⟩,st',λb hb=>(hf b hb).1⟩⟩
 done:=by
  intro X hP hw hK hc i pins s σ H E I hf st hg;subst hP hw hK;obtain⟨xs,hq,hx⟩:=hg;obtain⟨its,rv,p,hz⟩:=I.list hq;obtain⟨f0,f1,f2,f3,f4,f5⟩:=hf it (by simp);have hl:=rv.length;exact wpAny_pyNext_list_end (I.ok.hd hc) st p.isList (by simp;omega) λh' eb=>⟨rfl,I.turned (t':=s.toks) (λb o hb e=>eb b o hb e) f0 f1 f3 f4 f5⟩
 self:=λ_ _ _ _ _ st h=>wpAny_pyIter_listiter st h
def Nl{P:Program}{w:World}{K:PySem.W.Frag}{tg:Expr}(a it:Addr):Turn P w K tg (Itt K a) [it] it (λi h=>h.IsTupleIter it a i) where
 mem:=by simp
 obj:=λi h st b hb=>by
  have e:b=it:=by simpa using hb
  subst e;obtain⟨o,e,c,d⟩:=st;exact⟨o,e,λv z=>by rw[d]at z;cases z⟩
 keep:=λi h h' st k=>st.at λo e=>k it (by simp) o e
 item:=by
  intro X hP hw hK hc i pins s σ H E I hf st hg;subst hP hw hK;obtain⟨xs,x,hq,hx⟩:=hg;obtain⟨its,rv,p,hz⟩:=I.tuple hq;obtain⟨u,hu,ru⟩:=rv.get hx;obtain⟨f0,f1,f2,f3,f4,f5⟩:=hf it (by simp);refine wpAny_pyNext_tuple_item st (show s.heap.IsTuple a its.toArray from p) (x:=u) (by simpa using hu) λh' st' sb=>?_;have I1:Inv X pins σ H { s with heap:=h' }:=I.turned (t':=s.toks) (λb o hb e=>(sb.2 b hb).trans e) f0 f1 f3 f4 f5;obtain⟨o,e,c,d⟩:=id st';exact⟨u,rfl,Oi (s:={ s with heap:=h' }) e c d (by decide) ⟨x,H,I1,ru,⟨rfl,λys hy=>by rw[I.tuple_inj hy hq];exact hx⟩,st',λb hb=>(hf b hb).1⟩⟩
 done:=by
  intro X hP hw hK hc i pins s σ H E I hf st hg;subst hP hw hK;obtain⟨xs,hq,hx⟩:=hg;obtain⟨its,rv,p,hz⟩:=I.tuple hq;obtain⟨f0,f1,f2,f3,f4,f5⟩:=hf it (by simp);have hl:=rv.length;exact wpAny_pyNext_tuple_end (I.ok.hd hc) st (show s.heap.IsTuple a its.toArray from p) (by simp;omega) λh' eb=>⟨rfl,I.turned (t':=s.toks) (λb o hb e=>eb b o hb e) f0 f1 f3 f4 f5⟩
 self:=λ_ _ _ _ _ st h=>wpAny_pyIter_tupleiter st h
def Nm{P:Program}{w:World}{K:PySem.W.Frag}{tg:Expr}(it:Addr)(lo:Int)(n:Nat):Turn P w K tg (Itr lo n) [it] it (λi h=>IsRangeIter h it (lo+(i:Nat)*1) ((n:Int)-(i:Nat)) 1) where
 mem:=by simp
 obj:=λi h st b hb=>by
  have e:b=it:=by simpa using hb
  subst e;exact⟨_,st,λv z=>by
   have z':Data.fields _=Data.cell v:=z;cases z'⟩
 keep:=λi h h' st k=>k it (by simp) _ st
 item:=by
  intro X hP hw hK hc i pins s σ H E I hf st hg;subst hP hw hK;obtain⟨f0,f1,f2,f3,f4,f5⟩:=hf it (by simp);have W:=Walks.range (prog:=X.prog) (w:=X.w) (I.ok.hd hc) it lo 1 n;refine W.item i s _ _ hg st λv h' tk hv st' kk=>?_;obtain⟨t,rfl⟩:=hv;have I1:Inv X pins σ H { s with heap:=h',toks:=tk }:=I.turned (λb o hb e=>kk b o (by simpa using hb) e) f0 f1 f3 f4 f5;refine⟨_,rfl,Oi (s:={ s with heap:=h',toks:=tk }) (n:="range_iterator") st' rfl rfl (by decide) ⟨.int (lo+i),H,I1,⟨t,?_⟩,⟨rfl,rfl⟩,st',λb hb=>(hf b hb).1⟩⟩;rw[Int.mul_one]
 done:=by
  intro X hP hw hK hc i pins s σ H E I hf st hg;subst hP hw hK;obtain⟨f0,f1,f2,f3,f4,f5⟩:=hf it (by simp);exact wpAny_pyNext_range_end (I.ok.hd hc) st (by have:n<=i:=hg;omega) λh' eb=>⟨rfl,I.turned (t':=s.toks) (λb o hb e=>eb b o hb e) f0 f1 f3 f4 f5⟩
 self:=λ_ _ _ _ _ st h=>wpAny_pyIter_rangeiter st h
section
variable{X:Cx}{tg:Expr}
def HU(K:PySem.W.Frag)(tl:TE):TI:=λσ H R=>tl σ H λx H1=>∃a,x=.ref a/\(∃xs,SqL K H1 a xs)/\R (Itl K a) H1
def Of(K:PySem.W.Frag)(tl:TE):TI:=λσ H R=>tl σ H λx H1=>∃a,x=.ref a/\(∃xs,SqT K H1 a xs)/\R (Itt K a) H1
def V6{l:Expr}{tl:TE}(hl:PE X l tl):PI X tg l (HU X.K tl):=by
 intro pins s σ H R I h;refine thn (hl pins s σ H _ I h) λv s1 ⟨x,H1,I1,r1,q1⟩=>?_;obtain⟨a,e,⟨xs,hq⟩,q⟩:=q1;subst e;cases r1;obtain⟨its,rv,p,hz⟩:=I1.list hq;refine wpAny_pyIter_list p.isList ?_;refine⟨s1.heap.objs.size,[s1.heap.objs.size],_,_,H1,rfl,I1.kept (t':=s1.toks) λb o e=>Heap.get?_push_of_some _ e,P3 a _,⟨_,Heap.get?_push_size _ rfl,rfl,rfl⟩,λb hb=>?_,q⟩;have e:b=s1.heap.objs.size:=by simpa using hb
 subst e;exact I1.fpOk (le_refl _) (I1.hok.fresh (le_refl _))
def Xf{l:Expr}{tl:TE}(hl:PE X l tl):PI X tg l (Of X.K tl):=by
 intro pins s σ H R I h;refine thn (hl pins s σ H _ I h) λv s1 ⟨x,H1,I1,r1,q1⟩=>?_;obtain⟨a,e,⟨xs,hq⟩,q⟩:=q1;subst e;cases r1;obtain⟨its,rv,p,hz⟩:=I1.tuple hq;refine wpAny_pyIter_tuple (show s1.heap.IsTuple a its.toArray from p) ?_;refine⟨s1.heap.objs.size,[s1.heap.objs.size],_,_,H1,rfl,I1.kept (t':=s1.toks) λb o e=>Heap.get?_push_of_some _ e,Nl a _,⟨_,Heap.get?_push_size _ rfl,rfl,rfl⟩,λb hb=>?_,q⟩;have e:b=s1.heap.objs.size:=by simpa using hb
 subst e;exact I1.fpOk (le_refl _) (I1.hok.fresh (le_refl _))
def Rl{pins:List (Addr×Obj)}{σ:St}{H:Hp}{s:Shared}{R:It->Hp->Prop}{E:Value->Shared->Prop}{lo hi:Int}{t u v:Tok}{tk:Nat}(I:Inv X pins σ H s)(h1:-(2^62)<=lo)(h2:lo<2^62)(h3:-(2^62)<=hi)(h4:hi<2^62)
 (q:R (Itr lo (hi-lo).toNat) H):wpAny (model X.prog X.w) X.A (pyIter (.ref s.heap.objs.size)) (PIE X pins σ tg R) E { s with heap:=s.heap.push { cls:=.type "range",data:=.fields #[.int lo t,.int hi u,.int 1 v] },toks:=tk }:=by
 refine wpAny_pyIter_range (IsRange.new ..) (small_one h1 h2 h3 h4) ?_;have I1:Inv X pins σ H { s with heap:=s.heap.push { cls:=.type "range",data:=.fields #[.int lo t,.int hi u,.int 1 v] },toks:=tk }:=I.kept λb o e=>Heap.get?_push_of_some _ e;refine⟨(s.heap.push { cls:=.type "range",data:=.fields #[.int lo t,.int hi u,.int 1 v] }).objs.size,[(s.heap.push { cls:=.type "range",data:=.fields #[.int lo t,.int hi u,.int 1 v] }).objs.size],_,_,H,rfl,
  I1.kept (t':=tk) λb o e=>Heap.get?_push_of_some _ e,Nm _ lo (hi-lo).toNat,?_,λb hb=>?_,q⟩
 .have e1:lo+((0:Nat):Int)*1=lo:=by simp
  have e2:(((hi-lo).toNat:Nat):Int)-((0:Nat):Int)=Builtin.Range.rangeSize lo hi 1:=by rw[rangeSize_one];split<;>omega
  show IsRangeIter _ _ (lo+((0:Nat):Int)*1) ((((hi-lo).toNat:Nat):Int)-((0:Nat):Int)) 1;rw[e1,e2];exact Heap.get?_push_size _ rfl
 .have e:b=(s.heap.push { cls:=.type "range",data:=.fields #[.int lo t,.int hi u,.int 1 v] }).objs.size:=by simpa using hb
  subst e;exact I1.fpOk (le_refl _) (I1.hok.fresh (le_refl _))
def Og(ta:TA):TI:=λσ H R=>ta σ H λvs H1=>∃j:Int,vs=[.int j]/\-(2^62)<=j/\j<2^62/\R (Itr 0 j.toNat) H1
def Pm{a:Expr}{ta:TA}{p pos:Pos}(hg:Gl X "range")(hm:X.mg "range"=none)(ha:PA X [a] ta)(hs:starEach [a] X.env=[(false,eval a X.env)]:=by rfl):PI X tg (.Call (.Name "range" p) [a] [] pos) (Og ta):=by
 intro pins s σ H R I h;refine Call_ (Ca I hg hm boot_range (PyProof.Rows.callWith_type1 (thn (ha pos pins s σ H _ I h) λus s1 ⟨vs,H1,I1,r1,q1⟩=>?_) hs rfl));obtain⟨j,e,q1,q2,q⟩:=q1;subst e;cases r1 with
 |cons r rr=>
  cases rr;obtain⟨t,rfl⟩:=r;exact call_range_1 (Rl I1 (by omega) (by omega) q1 q2 (by simpa using q))
def RK(wi:TI)(g:TG)(tb:TS):TS:=λD σ H=>wi σ H λJ H1=>∃W:Nat->Nat->St->Hp->Prop,(∃m,W 0 m σ H1)/\∀i m σ H,W i m σ H ->
 (J.stop i H/\D.nx σ H)∨(J.go i H/\∃N:St->Hp->Prop,(∀σ' H',N σ' H'->∃m',m'<m/\W (i+1) m' σ' H')/\∀x H',J.yld i H x H'->g x σ H' λσ2 H2=>tb { D with nx:=N,ct:=N,bk:=D.nx } σ2 H2)
def FV(fp:List Addr)(h:Heap):List (Addr×Obj):=fp.filterMap λb=>(h.get? b).map λo=>(b,o)
def Ck{fp:List Addr}{h:Heap}{b:Addr}{o:Obj}(hb:b∈fp)(e:h.get? b=some o):(b,o)∈FV fp h:=List.mem_filterMap.mpr ⟨b,hb,by rw[e];rfl⟩
def Pt{fp:List Addr}{h:Heap}{p:Addr×Obj}(hp:p∈FV fp h):p.1∈fp/\h.get? p.1=some p.2:=by
 obtain⟨b,hb,e⟩:=List.mem_filterMap.mp hp;cases q:h.get? b with
 |none=>rw[q]at e;cases e
 |some o=>
  rw[q]at e;have e':(b,o)=p:=Option.some.inj e;subst e';exact⟨hb,q⟩
def Inv.pinned{pins:List (Addr×Obj)}{σ:St}{H:Hp}{s:Shared}{fp:List Addr}(I:Inv X pins σ H s)(hf:∀b∈fp,FpOk X pins H b)(ho:∀b∈fp,∃o,s.heap.get? b=some o/\∀v,o.data≠.cell v):Inv X (pins++FV fp s.heap) σ H s:=
 I.pins_of λp hp=>(mem_append.mp hp).elim (λz=>I.pin p (mem_append_right _ z)) λz=>by
  obtain⟨hb,e⟩:=Pt z;obtain⟨f0,f1,f2,_⟩:=hf p.1 hb;obtain⟨o,e',d⟩:=ho p.1 hb;rw[e]at e';cases e';exact⟨e,f0,f1,f2,d⟩
def Inv.unpinned{pins pl:List (Addr×Obj)}{σ:St}{H:Hp}{s:Shared}(I:Inv X (pins++pl) σ H s):Inv X pins σ H s:=I.pins_of λp hp=>I.pin p (mem_append_right _ (mem_append_left _ hp))
def Xd{iter:Expr}{body:List Stmt}{wi:TI}{g:TG}{tb:TS}{pos:Pos}(hp:PassesOwn (model X.prog X.w) X.A X.env X.xe)(hc:X.calm=true)(hi:PI X tg iter wi)(hg:PG X tg g)(hb:PSs X body tb)
 (hs:∀x,foldedSetIterable iter X.env x=pure x:=by intro _;rfl):PS X (.For tg iter body [] pos) (RK wi g tb):=by
 intro pins s σ H D I h;refine wpAny_For (thn (hi pins s σ H _ I h) λv s1 h1=>thn h1 λitv s2 h2=>?_) hs;obtain⟨it,fp,tn,J,H2,e,I2,T,st2,f2,W,⟨m0,w0⟩,turn⟩:=h2;subst e
 -- what stays true of the iterator's objects through the loop
 have stat:∀{H':Hp},(∀b∈fp,H' b=none)->∀b∈fp,FpOk X pins H' b:=λhn b hb=>⟨hn b hb,(f2 b hb).2⟩
 refine codeAny_forLoop_any (λn s'=>∃i σ' H',Inv X pins σ' H' s'/\tn i s'.heap/\(∀b∈fp,H' b=none)/\W i n σ' H') ?_ m0 ⟨0,σ,H2,I2,st2,λb hb=>(f2 b hb).1,w0⟩;rintro n s3 ⟨i,σ3,H3,I3,st3,fr3,w3⟩;rcases turn i n σ3 H3 w3 with⟨stop,qn⟩|⟨go,N,hN,step⟩
 .refine wpAny_passesOwn hp (thn (T.done X rfl rfl rfl hc i pins s3 σ3 H3 X.xe I3 (stat fr3) st3 stop) λr s4 ⟨hr,I4⟩=>?_);subst hr;exact wpAny_execs_nil ⟨σ3,H3,I4,qn⟩
 .refine wpAny_passesOwn hp (thn (T.item X rfl rfl rfl hc i pins s3 σ3 H3 X.xe I3 (stat fr3) st3 go) λr s4 ⟨u,hr,h4⟩=>?_);subst hr;refine wpAny_passesOwn hp (thn h4 λ_ s5 ⟨x,H5,I5,r5,y5,st5,fr5⟩=>?_);have I5':=I5.pinned (stat fr5) (T.obj _ _ st5);refine wpAny_passesOwn hp (thn (hg _ s5 σ3 H5 x u _ I5' r5 (step x H5 y5)) λ_ s6 ⟨σ6,H6,I6,q6⟩=>?_);refine wpAny_passesOwn hp (thn (hb _ s6 σ6 H6 _ I6 q6) λf s7 q7=>?_);have again:∀{σ7:St} {H7:Hp},Inv X (pins++FV fp s5.heap) σ7 H7 s7->N σ7 H7->∃m,m<n/\∃i σ' H',Inv X pins σ' H' s7/\tn i s7.heap/\(∀b∈fp,H' b=none)/\W i m σ' H':=λ{σ7 H7} I7 n7=>by
   obtain⟨m',hm,w7⟩:=hN σ7 H7 n7;refine⟨m',hm,i+1,σ7,H7,I7.unpinned,T.keep _ _ _ st5 λb hb o e=>(I7.pin (b,o) (mem_append_right _ (mem_append_right _ (Ck hb e)))).1,λb hb=>?_,w7⟩;obtain⟨o,e,d⟩:=T.obj _ _ st5 b hb;exact(I7.pin (b,o) (mem_append_right _ (mem_append_right _ (Ck hb e)))).2.1
  cases f with
  |next=>obtain⟨σ7,H7,I7,n7⟩:=q7;exact again I7 n7
  |cont=>obtain⟨σ7,H7,I7,n7⟩:=q7;exact again I7 n7
  |brk=>obtain⟨σ7,H7,I7,q7⟩:=q7;exact⟨σ7,H7,I7.unpinned,q7⟩
  |ret v=>obtain⟨x7,σ7,H7,I7,r7,q7⟩:=q7;exact⟨x7,σ7,H7,I7.unpinned,r7,q7⟩
end
abbrev R2:=V->V->Hp->VK->Prop
def OpR(X:Cx)(f:Value->Value->Sem Value)(r:R2):Prop:=
 ∀(pins:List (Addr×Obj)) (s:Shared) (σ:St) (H:Hp) (x y:V) (v u:Value) (Q:VK),Inv X pins σ H s->RelV x v->RelV y u->r x y H Q ->
   wpAny (model X.prog X.w) X.A (f v u) (EP X pins σ Q) X.xe s
def UnR(X:Cx)(f:Value->Sem Value)(r:V->Hp->VK->Prop):Prop:=
 ∀(pins:List (Addr×Obj)) (s:Shared) (σ:St) (H:Hp) (x:V) (v:Value) (Q:VK),Inv X pins σ H s->RelV x v->r x H Q ->
   wpAny (model X.prog X.w) X.A (f v) (EP X pins σ Q) X.xe s
def CallR(X:Cx)(f:Value)(r:List V->Hp->VK->Prop):Prop:=
 ∀(pins:List (Addr×Obj)) (s:Shared) (σ:St) (H:Hp) (xs:List V) (us:List Value) (Q:VK),Inv X pins σ H s->Vals xs us->r xs H Q ->
   wpAny (model X.prog X.w) X.A (call f us) (EP X pins σ Q) X.xe s
def ae(X:Cx)(r:V->Hp->(Bool->Hp->Prop)->Prop):Prop:=
 ∀(pins:List (Addr×Obj)) (s:Shared) (σ:St) (H:Hp) (x:V) (v:Value) (Q:Bool->Hp->Prop),Inv X pins σ H s->RelV x v->r x H Q ->
   wpAny (model X.prog X.w) X.A (truthy v) (TP X pins σ Q) X.xe s
def tOp(r:R2)(ta tb:TE):TE:=λσ H Q=>ta σ H λx H1=>tb σ H1 λy H2=>r x y H2 Q
def tUn(r:V->Hp->VK->Prop)(ta:TE):TE:=λσ H Q=>ta σ H λx H1=>r x H1 Q
def rI(C:Int->Int->Prop)(g:Int->Int->V):R2:=λx y H Q=>∃i j,x=.int i/\y=.int j/\C i j/\Q (g i j) H
def rI0(g:Int->Int->V):R2:=λx y H Q=>∃i j,x=.int i/\y=.int j/\Q (g i j) H
def rU(g:Int->V):V->Hp->VK->Prop:=λx H Q=>∃i,x=.int i/\Q (g i) H
section
variable{X:Cx}{a b c:Expr}{ta tb tc:TE}{pos:Pos}
def Sx(ha:PE X a ta)(hb:PE X b tb){pins:List (Addr×Obj)}{s:Shared}{σ:St}{H:Hp}{R:V->V->Hp->Prop}(I:Inv X pins σ H s)
 (h:ta σ H λx H1=>tb σ H1 λy H2=>R x y H2) {Q:Value->Shared->Prop} {f:Value->Value->Sem Value}
 (hf:∀v u s2 x y H2,Inv X pins σ H2 s2->RelV x v->RelV y u->R x y H2->wpAny (model X.prog X.w) X.A (f v u) Q X.xe s2):
 wpAny (model X.prog X.w) X.A (eval a X.env) (λv s₁=>wpAny (model X.prog X.w) X.A (eval b X.env) (λu s₂=>wpAny (model X.prog X.w) X.A (f v u) Q X.xe s₂) X.xe s₁) X.xe s:=by
 refine thn (ha pins s σ H _ I h) λv s1 ⟨x,H1,I1,r1,q1⟩=>?_;refine thn (hb pins s1 σ H1 _ I1 q1) λu s2 ⟨y,H2,I2,r2,q2⟩=>?_;exact hf v u s2 x y H2 I2 r1 r2 q2
def ON{op:Operator}{r:R2}(ho:OpR X (binaryOp op) r)(ha:PE X a ta)(hb:PE X b tb):PE X (.BinOp a op b pos) (tOp r ta tb):=by
 intro pins s σ H Q I h;exact wpAny_BinOp (Sx ha hb I h λv u s2 x y H2 I2 rx ry q=>ho pins s2 σ H2 x y v u Q I2 rx ry q)
def ZJ{op:UnaryOp}{r:V->Hp->VK->Prop}(ho:UnR X (unaryOp op) r)(ha:PE X a ta):PE X (.UnaryOp op a pos) (tUn r ta):=by
 intro pins s σ H Q I h;exact UnaryOp_ (thn (ha pins s σ H _ I h) λv s1 ⟨x,H1,I1,r1,q1⟩=>ho pins s1 σ H1 x v Q I1 r1 q1)
def opI{f:Value->Value->Sem Value}{C:Int->Int->Prop}{g:Int->Int->Int}
 (rule:∀(i j:Int) (t u:Tok) (s:Shared) (Q:Value->Shared->Prop) (E:Value->Shared->Prop),C i j->Q (.int (g i j) s.toks) { s with toks:=s.toks+1 }->wpAny (model X.prog X.w) X.A (f (.int i t) (.int j u)) Q E s):
 OpR X f (rI C λi j=>.int (g i j)):=by
 intro pins s σ H x y v u Q I rx ry h;obtain⟨i,j,rfl,rfl,hc,q⟩:=h;obtain⟨t,rfl⟩:=rx;obtain⟨t',rfl⟩:=ry;exact rule i j t t' s _ _ hc ⟨.int (g i j),H,I.tok _,⟨_,rfl⟩,q⟩
def Y7{f:Value->Value->Sem Value}{g:Int->Int->Int}
 (rule:∀(i j:Int) (t u:Tok) (s:Shared) (Q:Value->Shared->Prop) (E:Value->Shared->Prop),Q (.int (g i j) s.toks) { s with toks:=s.toks+1 }->wpAny (model X.prog X.w) X.A (f (.int i t) (.int j u)) Q E s):
 OpR X f (rI0 λi j=>.int (g i j)):=by
 intro pins s σ H x y v u Q I rx ry h;obtain⟨i,j,rfl,rfl,q⟩:=h;obtain⟨t,rfl⟩:=rx;obtain⟨t',rfl⟩:=ry;exact rule i j t t' s _ _ ⟨.int (g i j),H,I.tok _,⟨_,rfl⟩,q⟩
def OO{f:Value->Value->Sem Value}{g:Int->Int->Bool}
 (rule:∀(i j:Int) (t u:Tok) (s:Shared) (Q:Value->Shared->Prop) (E:Value->Shared->Prop),Q (.bool (g i j)) s->wpAny (model X.prog X.w) X.A (f (.int i t) (.int j u)) Q E s):
 OpR X f (rI0 λi j=>.bl (g i j)):=by
 intro pins s σ H x y v u Q I rx ry h;obtain⟨i,j,rfl,rfl,q⟩:=h;obtain⟨t,rfl⟩:=rx;obtain⟨t',rfl⟩:=ry;exact rule i j t t' s _ _ ⟨.bl (g i j),H,I,rfl,q⟩
def Ys(i j:Int):Prop:=0<j/\j<1073741824
def Yr(i j:Int):Prop:=0<=j/\j<=1000000/\i.natAbs<2^64
def CMul(i j:Int):Prop:=(-(2^64)<i/\i<2^64)∨(-(2^64)<j/\j<2^64)
def CMul.ok{i j:Int}(h:CMul i j):IntMulOk i j:=by
 rcases h with⟨h1,h2⟩|⟨h1,h2⟩
 .exact .of_left (intBits_le_64 h1 h2)
 .exact .of_right (intBits_le_64 h1 h2)
def Ps:OpR X (binaryOp .Add) (rI0 λi j=>.int (i+j)):=Y7 λ_ _ _ _ _ _ _ q=>add_int q
def Xx:OpR X (binaryOp .Sub) (rI0 λi j=>.int (i-j)):=Y7 λ_ _ _ _ _ _ _ q=>sub_int q
def Y3:OpR X (binaryOp .Mult) (rI CMul λi j=>.int (i*j)):=opI λ_ _ _ _ _ _ _ hc q=>mul_int q hc.ok
def VJ:OpR X (binaryOp .FloorDiv) (rI Ys λi j=>.int (i/j)):=opI λi j _ _ _ _ _ hc q=>by
 have h1:(0:Int)<j:=hc.1;have h2:j<1073741824:=hc.2;exact floordiv_int (by omega) (by rw[Int.fdiv_eq_ediv_of_nonneg i (by omega)];exact q) (.inl (PyProof.noPylong_small (by omega)))
def Y4:OpR X (binaryOp .Mod) (rI (λ_ j=>0<j) λi j=>.int (i%j)):=opI λi j _ _ _ _ _ hc q=>by
 have h1:(0:Int)<j:=hc;exact mod_int' (by omega) (by rw[Int.fmod_eq_emod_of_nonneg i (by omega)];exact q)
def Xy:OpR X (binaryOp .Pow) (rI Yr λi j=>.int (i^j.toNat)):=opI λ_ _ _ _ _ _ _ hc q=>pow_int_small hc.1 hc.2.1 hc.2.2 q
def unI{f:Value->Sem Value}{g:Int->Int}
 (rule:∀(i:Int) (t:Tok) (s:Shared) (Q:Value->Shared->Prop) (E:Value->Shared->Prop),Q (.int (g i) s.toks) { s with toks:=s.toks+1 }->wpAny (model X.prog X.w) X.A (f (.int i t)) Q E s):
 UnR X f (rU λi=>.int (g i)):=by
 intro pins s σ H x v Q I rx h;obtain⟨i,rfl,q⟩:=h;obtain⟨t,rfl⟩:=rx;exact rule i t s _ _ ⟨.int (g i),H,I.tok _,⟨_,rfl⟩,q⟩
def W5:UnR X (unaryOp .USub) (rU λi=>.int (-i)):=unI λ_ _ _ _ _ q=>neg_int q
end
def LF:V->V->Bool
 |.non,.non=>true|.non,.int _=>true|.int _,.non=>true|.non,.bl _=>true|.bl _,.non=>true|.non,.str _=>true|.str _,.non=>true
 |.int _,.int _=>true|.bl _,.bl _=>true|.str _,.str _=>true|.byt _,.byt _=>true
 |.int _,.str _=>true|.str _,.int _=>true|.bl _,.str _=>true|.str _,.bl _=>true
 |_,_=>false
def rEq:R2:=λx y H Q=>LF x y=true/\Q (.bl (decide (x=y))) H
def rNe:R2:=λx y H Q=>LF x y=true/\Q (.bl (!decide (x=y))) H
def Nd{i j:Int}:decide (V.int i=V.int j)=(i==j):=by
 rw[Bool.eq_iff_iff];simp
def QU{i j:Bool}:decide (V.bl i=V.bl j)=(i==j):=by
 rw[Bool.eq_iff_iff];simp
def Nc{i j:Str}:decide (V.str i=V.str j)=(i==j):=by
 rw[Bool.eq_iff_iff];simp
def Nf{i j:Array UInt8}:decide (V.byt i=V.byt j)=(i.toList==j.toList):=by
 rw[Bool.eq_iff_iff];cases i;cases j;simp
section
variable{X:Cx}{a b c:Expr}{ta tb tc:TE}{pos:Pos}
def Ah{pins:List (Addr×Obj)}{σ:St}{H:Hp}{s:Shared}{Q:VK}{k k':Bool}(I:Inv X pins σ H s)(q:Q (.bl k) H)(e:k=k'):EP X pins σ Q (.bool k') s:=by
 subst e;exact⟨.bl k,H,I,rfl,q⟩
def Tc:OpR X (compareOp .Eq) rEq:=by
 intro pins s σ H x y v u Q I rx ry h;obtain⟨hs,q⟩:=h;cases x with
 |non=>
  cases rx;cases y with
  |non=>cases ry;exact PySem.EqNone.eq_none_none (Ah I q (by simp))
  |bl j=>cases ry;exact PySem.EqNone.eq_none_bool (Ah I q (by simp))
  |int j=>obtain⟨t',rfl⟩:=ry;exact PySem.EqNone.eq_none_int (Ah I q (by simp))
  |str j=>obtain⟨t',rfl⟩:=ry;exact PySem.EqNone.eq_none_str (Ah I q (by simp))
  |_=>exact absurd (show false=true from hs) Bool.false_ne_true
 |bl i=>
  cases rx;cases y with
  |non=>cases ry;exact PySem.EqNone.eq_bool_none (Ah I q (by simp))
  |bl j=>cases ry;exact eq_bool (Ah I q QU)
  |str j=>obtain⟨t',rfl⟩:=ry;exact PySem.EqMixed.eq_bool_str (Ah I q (by simp))
  |_=>exact absurd (show false=true from hs) Bool.false_ne_true
 |int i=>
  obtain⟨t,rfl⟩:=rx;cases y with
  |non=>cases ry;exact PySem.EqNone.eq_int_none (Ah I q (by simp))
  |int j=>obtain⟨t',rfl⟩:=ry;exact eq_int (Ah I q Nd)
  |str j=>obtain⟨t',rfl⟩:=ry;exact PySem.EqMixed.eq_int_str (Ah I q (by simp))
  |_=>exact absurd (show false=true from hs) Bool.false_ne_true
 |str i=>
  obtain⟨t,rfl⟩:=rx;cases y with
  |non=>cases ry;exact PySem.EqNone.eq_str_none (Ah I q (by simp))
  |bl j=>cases ry;exact PySem.EqMixed.eq_str_bool (Ah I q (by simp))
  |int j=>obtain⟨t',rfl⟩:=ry;exact PySem.EqMixed.eq_str_int (Ah I q (by simp))
  |str j=>obtain⟨t',rfl⟩:=ry;exact eq_str (Ah I q Nc)
  |_=>exact absurd (show false=true from hs) Bool.false_ne_true
 |byt i=>
  obtain⟨t,rfl⟩:=rx;cases y with
  |byt j=>obtain⟨t',rfl⟩:=ry;exact PySem.W.eq_bytes (Ah I q Nf)
  |_=>exact absurd (show false=true from hs) Bool.false_ne_true
 |_=>cases y<;>exact absurd (show false=true from hs) Bool.false_ne_true
def TZ:OpR X (compareOp .NotEq) rNe:=by
 intro pins s σ H x y v u Q I rx ry h;obtain⟨hs,q⟩:=h;cases x with
 |non=>
  cases rx;cases y with
  |non=>cases ry;exact PySem.EqNone.ne_none_none (Ah I q (by simp))
  |bl j=>cases ry;exact PySem.EqNone.ne_none_bool (Ah I q (by simp))
  |int j=>obtain⟨t',rfl⟩:=ry;exact PySem.EqNone.ne_none_int (Ah I q (by simp))
  |str j=>obtain⟨t',rfl⟩:=ry;exact PySem.EqNone.ne_none_str (Ah I q (by simp))
  |_=>exact absurd (show false=true from hs) Bool.false_ne_true
 |bl i=>
  cases rx;cases y with
  |non=>cases ry;exact PySem.EqNone.ne_bool_none (Ah I q (by simp))
  |bl j=>cases ry;exact ne_bool (Ah I q (congrArg not QU))
  |str j=>obtain⟨t',rfl⟩:=ry;exact PySem.EqMixed.ne_bool_str (Ah I q (by simp))
  |_=>exact absurd (show false=true from hs) Bool.false_ne_true
 |int i=>
  obtain⟨t,rfl⟩:=rx;cases y with
  |non=>cases ry;exact PySem.EqNone.ne_int_none (Ah I q (by simp))
  |int j=>obtain⟨t',rfl⟩:=ry;exact ne_int (Ah I q (congrArg not Nd))
  |str j=>obtain⟨t',rfl⟩:=ry;exact PySem.EqMixed.ne_int_str (Ah I q (by simp))
  |_=>exact absurd (show false=true from hs) Bool.false_ne_true
 |str i=>
  obtain⟨t,rfl⟩:=rx;cases y with
  |non=>cases ry;exact PySem.EqNone.ne_str_none (Ah I q (by simp))
  |bl j=>cases ry;exact PySem.EqMixed.ne_str_bool (Ah I q (by simp))
  |int j=>obtain⟨t',rfl⟩:=ry;exact PySem.EqMixed.ne_str_int (Ah I q (by simp))
  |str j=>obtain⟨t',rfl⟩:=ry;exact ne_str (Ah I q (congrArg not Nc))
  |_=>exact absurd (show false=true from hs) Bool.false_ne_true
 |byt i=>
  obtain⟨t,rfl⟩:=rx;cases y with
  |byt j=>obtain⟨t',rfl⟩:=ry;exact PySem.W.ne_bytes (Ah I q (congrArg not Nf))
  |_=>exact absurd (show false=true from hs) Bool.false_ne_true
 |_=>cases y<;>exact absurd (show false=true from hs) Bool.false_ne_true
def ZP:OpR X (compareOp .Lt) (rI0 λi j=>.bl (decide (i<j))):=OO λ_ _ _ _ _ _ _ q=>lt_int q
def Ta:OpR X (compareOp .LtE) (rI0 λi j=>.bl (decide (i<=j))):=OO λ_ _ _ _ _ _ _ q=>le_int q
def ZQ:OpR X (compareOp .Gt) (rI0 λi j=>.bl (decide (j<i))):=OO λ_ _ _ _ _ _ _ q=>gt_int q
def ZR:OpR X (compareOp .GtE) (rI0 λi j=>.bl (decide (j<=i))):=OO λ_ _ _ _ _ _ _ q=>ge_int q
def OpR.or{f:Value->Value->Sem Value}{r r':R2}(h:OpR X f r)(h':OpR X f r'):OpR X f (λx y H Q=>r x y H Q∨r' x y H Q):=by
 intro pins s σ H x y v u Q I rx ry q;rcases q with q|q
 .exact h pins s σ H x y v u Q I rx ry q
 .exact h' pins s σ H x y v u Q I rx ry q
def Lf(b:Expr){op:CmpOp}(h:op≠.In:=by decide)(h2:op≠.NotIn:=by decide):behindInMarks op b=false:=by
 have e1:(op==CmpOp.In)=false:=by cases op<;>first|rfl|exact absurd rfl h
 have e2:(op==CmpOp.NotIn)=false:=by cases op<;>first|rfl|exact absurd rfl h2
 cases b<;>simp[behindInMarks,e1,e2]
def VG{op:CmpOp}{r:R2}(ho:OpR X (compareOp op) r)(ha:PE X a ta)(hb:PE X b tb)(hm:behindInMarks op b=false):PE X (.Compare a [op] [b] pos) (tOp r ta tb):=by
 intro pins s σ H Q I h;exact wpAny_Compare1 (Sx ha hb I h λv u s2 x y H2 I2 rx ry q=>ho pins s2 σ H2 x y v u Q I2 rx ry q) hm
def Kg(t:TE):TT:=λσ H Q=>t σ H λx H'=>∃k,x=.bl k/\Q k H'
def NO{op:CmpOp}{r:R2}(ho:OpR X (compareOp op) r)(ha:PE X a ta)(hb:PE X b tb)(hm:behindInMarks op b=false):PT X (.Compare a [op] [b] pos) (Kg (tOp r ta tb)):=by
 intro pins s σ H Q I h;refine wpAny_isTrue_Compare1 (thn (ha pins s σ H _ I h) λv s1 ⟨x,H1,I1,r1,q1⟩=>thn (hb pins s1 σ H1 _ I1 q1) λu s2 ⟨y,H2,I2,r2,q2⟩=>
  thn (ho pins s2 σ H2 x y v u _ I2 r1 r2 q2) λc s3 ⟨z,H3,I3,r3,k,e,q3⟩=>?_) hm
 subst e;cases r3;exact wpAny_truthy_bool ⟨H3,I3,q3⟩
def Mc(K:PySem.W.Frag)(x:V)(H:Hp)(k:Bool):Prop:=
 match x with
 |.non=>k=false
 |.bl b=>k=b
 |.int i=>k=(i != 0)
 |.str y=>y.length<=sizeLine/\k=((y.length:Int) != 0)
 |.byt y=>y.size<=sizeLine/\k=((y.size:Int) != 0)
 |.ref p=>(∃xs,SqL K H p xs/\k=!xs.isEmpty)∨(∃xs,SqT K H p xs/\k=!xs.isEmpty)∨∃kvs,H p=some (.dK kvs)/\k=!kvs.isEmpty
 |_=>False
def Ob{κ:Type}{kvs:List (κ×V)}{vs:List (κ×Value)}(r:KV kvs vs):(!vs.isEmpty)=!kvs.isEmpty:=by
 cases r<;>rfl
def Iz{xs:List V}{its:List Value}(r:Vals xs its):(!its.toArray.isEmpty)=!xs.isEmpty:=by
 cases r<;>simp
def Fa:(sizeLine:Nat)<2^63:=by rw[sizeLine_eq];decide
def W9:ae X (λx H Q=>∃k,Mc X.K x H k/\Q k H):=by
 intro pins s σ H x v Q I rx h;obtain⟨k,e,q⟩:=h;have hl:=Fa;have hs:sizeLine=16777216:=sizeLine_eq;cases x with
 |non=>
  cases rx;have e':k=false:=e;subst e';exact truthy_none ⟨H,I,q⟩
 |bl b=>
  cases rx;have e':k=b:=e;subst e';exact wpAny_truthy_bool ⟨H,I,q⟩
 |int i=>
  obtain⟨t,rfl⟩:=rx;have e':k=(i != 0):=e;subst e';exact PySem.P.truthy_int ⟨H,I,q⟩
 |str y=>
  obtain⟨t,rfl⟩:=rx;obtain⟨hy,e'⟩:y.length<=sizeLine/\k=((y.length:Int) != 0):=e;subst e';exact PySem.P.truthy_str (by omega) ⟨H,I.tok _,q⟩
 |byt y=>
  obtain⟨t,rfl⟩:=rx;obtain⟨hy,e'⟩:y.size<=sizeLine/\k=((y.size:Int) != 0):=e;subst e';exact PySem.W.truthy_bytes (by omega) ⟨H,I.tok _,q⟩
 |ref p=>
  cases rx;have e':(∃xs,SqL X.K H p xs/\k=!xs.isEmpty)∨(∃xs,SqT X.K H p xs/\k=!xs.isEmpty)∨∃kvs,H p=some (.dK kvs)/\k=!kvs.isEmpty:=e;rcases e' with⟨xs,hx,e'⟩|⟨xs,hx,e'⟩|⟨kvs,hx,e'⟩
  .subst e';obtain⟨its,r,pl,hz⟩:=I.list hx;have hlen:=r.length;exact wpAny_truthy_list pl.isList (by simp only[size_toArray];omega) ⟨H,I.tok _,by rw[Iz r];exact q⟩
  .subst e';obtain⟨its,r,pl,hz⟩:=I.tuple hx;have hlen:=r.length;exact truthy_tuple pl (by simp only[size_toArray];omega) ⟨H,I.tok _,by rw[Iz r];exact q⟩
  .subst e';obtain⟨hz,hS,vs,r,m⟩:kvs.length<=sizeLine/\(p==sysModules)=false/\∃vs,KV kvs vs/\s.heap.DictOf (BF X.prog X.w) p vs:=I.hok p _ hx;have hlen:kvs.length=vs.length:=Paired.length r;exact wpAny_truthy_dict hS m (by omega) ⟨H,I.tok _,by rw[Ob r];exact q⟩
 |_=>exact(show False from e).elim
def SA(ha:PE X a ta)(he:∀whole,isTrue a X.env whole=(do let v <- whole;standAt a.pos;holding [v] (truthy v))):
 PT X a (λσ H Q=>ta σ H λx H'=>∃k,Mc X.K x H' k/\Q k H'):=by
 intro pins s σ H Q I h;exact isTrue_plain (thn (ha pins s σ H _ I h) λv s1 ⟨x,H1,I1,r1,q1⟩=>W9 pins s1 σ H1 x v Q I1 r1 q1) (he _)
def By{x:V}{us:List Value}(r:Vals [x] us):∃u,us=[u]/\RelV x u:=by
 cases r with
 |cons r1 r2=>cases r2;exact⟨_,rfl,r1⟩
def Nk{x y:V}{us:List Value}(r:Vals [x,y] us):∃u w',us=[u,w']/\RelV x u/\RelV y w':=by
 cases r with
 |cons r1 r2=>
  cases r2 with
  |cons r3 r4=>cases r4;exact⟨_,_,rfl,r1,r3⟩
def Qb(hc:X.calm=true):CallR X (.builtin "max") (λxs H Q=>∃i j,xs=[.int i,.int j]/\Q (.int (if j>i then j else i)) H):=by
 intro pins s σ H xs us Q I r h;obtain⟨i,j,rfl,q⟩:=h;obtain⟨u,w',rfl,⟨t,rfl⟩,⟨t',rfl⟩⟩:=Nk r;refine max_two_ints (I.ok.hd hc) λh' tk k=>⟨_,H,I.kept k,?_,q⟩
 by_cases hj:j>i
 .rw[if_pos hj,if_pos hj];exact⟨_,rfl⟩
 .rw[if_neg hj,if_neg hj];exact⟨_,rfl⟩
end
def RelO.some_of{v:V}{o:Option Value}(r:RelO (some v) o):∃u,o=some u/\RelV v u:=by
 cases o with
 |none=>exact(show False from r).elim
 |some u=>exact⟨u,rfl,r⟩
structure Room(k:Nat)(A:Around):Prop where
 hd:A.handled=none
 dp:A.depth+3*k+5<recursionLimit
 un:A.units+16*k+200<cLine
 gd:A.guards=some []
def Room.mono{j k:Nat}{A:Around}(r:Room k A)(h:j<=k):Room j A:=⟨r.hd,by have:=r.dp;omega,by have:=r.un;omega,r.gd⟩
theorem Room.deeper{k:Nat}{A:Around}(r:Room (k+1) A)(env:Env):Room k (A.deeper env):=
 ⟨r.hd,by have:=r.dp;show A.depth+1+3*k+5<_;omega,by have:=r.un;show A.units+3+16*k+200<_;omega,by first|exact r.gd|(simpa [Around.deeper,Around.under,Code.guards,Code.isGuard,pushGuards]using r.gd)⟩
theorem Room.in1{k:Nat}{A:Around}(r:Room (k+1) A):Room k A.in1:=
 ⟨r.hd,by have:=r.dp;show A.depth+3*k+5<_;omega,by have:=r.un;show A.units+1+16*k+200<_;omega,r.gd⟩
theorem Room.depth{k:Nat}{A:Around}(r:Room k A):A.depth<recursionLimit:=by have:=r.dp;omega
theorem Room.units{k:Nat}{A:Around}(r:Room k A):A.units+64<cLine:=by have:=r.un;omega
def Room.units0{k:Nat}{A:Around}(r:Room k A):A.units<cLine:=by have:=r.un;omega
def Bv:TA:=λ_ H Q=>Q [] H
def B7(ta:TE)(tr:TA):TA:=λσ H Q=>ta σ H λx H1=>tr σ H1 λxs H2=>Q (x::xs) H2
section
variable{X:Cx}{e:Expr}{es:List Expr}{te:TE}{t:TA}{pos:Pos}
def CI:PA X [] Bv:=λ_ _ _ _ H Q I h=>Calls.spliced_nil ⟨[],H,I,.nil,h⟩
def Bi(ha:PE X e te)(hr:PA X es t)(hs:starEach (e::es) X.env=(false,eval e X.env)::starEach es X.env:=by rfl):PA X (e::es) (B7 te t):=by
 intro pos pins s σ H Q I h;rw[hs];show wpAny _ _ (spliced ((false,eval e X.env)::backTo pos (starEach es X.env))) _ _ s;refine Calls.spliced_cons (thn (ha pins s σ H _ I h) λu s1 ⟨x,H1,I1,r1,q1⟩=>?_);exact thn (hr pos pins s1 σ H1 _ I1 q1) λus s2 ⟨xs,H2,I2,r2,q2⟩=>⟨x::xs,H2,I2,.cons r1 r2,q2⟩
def Qv(t:TA):TE:=λσ H Q=>t σ H λxs H1=>xs.length<=sizeLine/\∀p,H1 p=none->Q (.ref p) (upd H1 p (.tup xs))
def R8(t:TA):TE:=λσ H Q=>t σ H λxs H1=>xs.length<=sizeLine/\∀p,H1 p=none->Q (.ref p) (upd H1 p (.lst xs))
def Xk{x1}(h:PA X es t):PE X (.Tuple es x1 pos) (Qv t):=by
 intro pins s σ H Q I hq;refine wpAny_Tuple_spliced (thn (h pos pins s σ H _ I hq) λus s1 ⟨xs,H1,I1,r,z,q⟩=>⟨by rw[<- r.length];exact z,?_⟩);have hf:H1 s1.heap.objs.size=none:=I1.hok.fresh (le_refl _);refine⟨.ref s1.heap.objs.size,upd H1 s1.heap.objs.size (.tup xs),I1.laid (t':=s1.toks) (λb u e=>Heap.get?_push_of_some _ e) (le_refl _) ?_,rfl,q _ hf⟩;exact⟨z,us,r,⟨_,Heap.get?_push_size _ rfl,rfl,⟨_,rfl⟩,rfl⟩⟩
def Xp(h:PA X es t):PE X (.List es pos) (R8 t):=by
 intro pins s σ H Q I hq;refine wpAny_List_spliced (thn (h pos pins s σ H _ I hq) λus s1 ⟨xs,H1,I1,r,z,q⟩=>⟨by rw[<- r.length];exact z,?_⟩);have hf:H1 s1.heap.objs.size=none:=I1.hok.fresh (le_refl _);refine⟨.ref s1.heap.objs.size,upd H1 s1.heap.objs.size (.lst xs),I1.laid (t':=s1.toks) (λb u e=>Heap.get?_push_of_some _ e) (le_refl _) ?_,rfl,q _ hf⟩;exact⟨z,us,0,r,Heap.get?_push_size _ rfl⟩
end
abbrev Sp:=List V->Hp->VK->XK->Prop
abbrev CXT:=List Env->Hp->Shared->XK->Value->Shared->Prop
structure Env0(P:Program)(w:World)(K:PySem.W.Frag)(mg:Str->Option Value)(base:Heap)(A:Around)(outer:List Env)(s:Shared)(H:Hp):Prop where
 frames:A.frames=some outer
 mod:Mod K mg base
 bs:∀b o,base.get? b=some o->s.heap.get? b=some o/\H b=none
 bsz:base.objs.size<=s.heap.objs.size
 funs:s.heap.FunFrames base outer
 frf:∀b∈frs outer,H b=none
 hok:HOk P w H s.heap
 bare:AllBare s.gens
def CE(outer:List Env)(P:Program)(w:World)(H:Hp)(s:Shared)(Q:VK)(u:Value)(s':Shared):Prop:=
 ∃v H',s'.os=s.os/\AllBare s'.gens/\Un (frs outer) [] H H' s.heap s'.heap/\HOk P w H' s'.heap/\RelV v u/\Q v H'
def CR(CX:CXT)(outer:List Env)(P:Program)(w:World)(H:Hp)(s:Shared)(Q:VK)(E:XK)(r:Result)(s':Shared):Prop:=
 match r with
 |.ok (.ret u)=>CE outer P w H s Q u s'
 |.ok _=>False
 |.error e=>CX outer H s E e s'
structure FnOk(P:Program)(w:World)(K:PySem.W.Frag)(mg:Str->Option Value)(base:Heap)(CX:CXT)(k:Nat)(f:Addr)(fd:FuncData)(ps:List Str)(sp:Sp):Prop where
 len:∀vs H Q E,sp vs H Q E->vs.length=ps.length
 run:∀(A:Around) (outer:List Env) (s:Shared) (H:Hp) (args:Args) (us:List Value) (vs:List V) (Q:VK) (E:XK),Room k A->Env0 P w K mg base A outer s H->BindsTo s fd args (ps.zip us)->Vals vs us->sp vs H Q E ->
  codeAny (model P w) A (.call (.ref f) args) (CR CX outer P w H s Q E) s
theorem FnOk.mono{P:Program}{w:World}{K:PySem.W.Frag}{mg:Str->Option Value}{base:Heap}{CX:CXT}{j k:Nat}{f:Addr}{fd:FuncData}{ps:List Str}{sp:Sp}(F:FnOk P w K mg base CX j f fd ps sp)(h:j<=k):
 FnOk P w K mg base CX k f fd ps sp:=⟨F.len,λA outer s H args us vs Q E hr=>F.run A outer s H args us vs Q E (hr.mono h)⟩
section
variable{X:Cx}{pins:List (Addr×Obj)}{σ:St}{H:Hp}{s s':Shared}
def Inv.env0(I:Inv X pins σ H s):Env0 X.prog X.w X.K X.mg X.base X.A X.stack s H:=
 ⟨I.ok.frames,I.ok.mod,I.bs,le_trans I.ok.bsz I.sz,I.stack,I.stkFree,I.hok,I.bare⟩
def Inv.after{Q:VK}{u:Value}(I:Inv X pins σ H s)(h:CE X.stack X.prog X.w H s Q u s'):EP X pins σ Q u s':=by
 obtain⟨v,H',os,bare,un,hok,r,q⟩:=h;obtain⟨hh,g,d,t,os'⟩:=s';obtain rfl:os'=s.os:=os;exact⟨v,H',I.call (h':=hh) (g':=g) (d':=d) (t':=t) (ch:=[]) un hok bare (λb z=>absurd z (by simp)),r,q⟩
end
def Ey(sp:Sp)(dvs:List V)(E:XK)(t:TA):TE:=λσ H Q=>t σ H λvs H1=>sp (vs++dvs) H1 Q E
def Binds(K:PySem.W.Frag)(fd:FuncData)(ps:List Str)(ds:List Value):Prop:=
 ∀(s:Shared) (us:List Value),K.In s.heap->(us++ds).length=ps.length->BindsTo s fd ⟨us,[]⟩ (ps.zip (us++ds))
def Binds.all{K:PySem.W.Frag}{fd:FuncData}{ps:List Str}(h:∀us:List Value,us.length=ps.length->bindArgs fd ⟨us,[]⟩=pure (ps.zip us)):Binds K fd ps []:=λs us _ hl=>by
 rw[append_nil]at hl ⊢;exact .of_eq (h us hl)
def Mf(CX:CXT)(X:Cx)(E:XK):Prop:=∀(pins:List (Addr×Obj)) (σ:St) (H:Hp) (s:Shared) (e:Value) (s':Shared),Inv X pins σ H s->CX X.stack H s E e s'->X.xe e s'
section
variable{X:Cx}{CX:CXT}{k:Nat}{f C:Addr}{fd:FuncData}{ps:List Str}{sp:Sp}{dvs:List V}{ds:List Value}{E:XK}{x m:Str}{p pos apos:Pos}{e o:Expr}{es:List Expr}{ta:TE}{t:TA}
def WM{pins:List (Addr×Obj)}{σ:St}{H:Hp}{s:Shared}{Q:VK}{us:List Value}{vs:List V}(F:FnOk X.prog X.w X.K X.mg X.base CX k f fd ps sp)(hr:Room k X.A)(hb:Binds X.K fd ps ds)(hd:Vals dvs ds)(hx:Mf CX X E)
 (I:Inv X pins σ H s) (r:Vals vs us) (h:sp (vs++dvs) H Q E):wpAny (model X.prog X.w) X.A (call (.ref f) us) (EP X pins σ Q) X.xe s:=by
 have r2:Vals (vs++dvs) (us++ds):=r.append hd;have hl:(us++ds).length=ps.length:=by rw[<- r2.length];exact F.len _ _ _ _ h
 refine wpAny_call (codeAny_mono (F.run X.A X.stack s H ⟨us,[]⟩ (us++ds) (vs++dvs) Q E hr I.env0 (hb s us I.kIn hl) r2 h) λr s' hq=>?_);cases r with
 |error e=>exact hx pins σ H s e s' I hq
 |ok fl=>
  cases fl with
  |ret u=>exact I.after hq
  |next=>exact False.elim hq
  |brk=>exact False.elim hq
  |cont=>exact False.elim hq
def VH(F:FnOk X.prog X.w X.K X.mg X.base CX k f fd ps sp)(hr:Room k X.A)(hg:Gl X x)(hm:X.mg x=some (.ref f))(hk:PySem.W.keepIn X.K (.ref f)=true)(hb:Binds X.K fd ps ds)(hd:Vals dvs ds)(hx:Mf CX X E)
 (ha:PA X (e::es) t) (hdb:(x==("__debug__":Str))=false:=by decide) (he:starEach (e::es) X.env=(false,eval e X.env)::starEach es X.env:=by rfl) (hpl:(backTo pos (starEach es X.env)).any (·.1)=false:=by rfl):
 PE X (.Call (.Name x p) (e::es) [] pos) (Ey sp dvs E t):=by
 intro pins s σ H Q I h;refine wpAny_Call_Name_kw (VY I hg hm ?_ hdb);refine PySem.W.callWith_K (h₀:=X.base) I.ok.mod.kin hk (thn (ha pos pins s σ H _ I h) λus s1 ⟨vs,H1,I1,r,q⟩=>⟨I1.kIn,?_⟩) he hpl;exact WM F hr hb hd hx I1 r q
end
structure FnScope(N P:List Str)(sc:Scope):Prop where
 kind:sc.kind=.function
 co:sc.isCoroutine=false
 gen:sc.isGenerator=false
 nd:N.Nodup
 pre:N.take P.length=P
 par:∀x∈P,sc.names.lookup x=some .local∨sc.names.lookup x=some .cell
 nofree:∀y∈sc.names,y.2≠.free
theorem KH{kindOf:Str->Option NameKind}{x:Str}:∀{binds:List (Str×Value)} {m:Str->Option Value},(∀v,(x,v)∉binds)->bindL kindOf binds m x=m x
 |[],_,_=>rfl
 |(n,v)::r,m,h=>by
   unfold bindL;rw[KH λw hw=>h w (mem_cons_of_mem _ hw)];split
   .have:x≠n:=by rintro rfl;exact h v mem_cons_self
    simp[this]
   .rfl
theorem KJ{kindOf:Str->Option NameKind}{x:Str}:∀{binds:List (Str×Value)} {m:Str->Option Value},(∀v,(x,v)∉binds)->bindC kindOf binds m x=m x
 |[],_,_=>rfl
 |(n,v)::r,m,h=>by
   unfold bindC;rw[KJ λw hw=>h w (mem_cons_of_mem _ hw)];split
   .rfl
   .have:x≠n:=by rintro rfl;exact h v mem_cons_self
    simp[this]
theorem KI{kindOf:Str->Option NameKind}{x:Str}{v:Value}:∀{P:List Str} {vs:List Value} {i:Nat} {m:Str->Option Value},P.Nodup->P[i]?=some x->vs[i]?=some v->kindOf x=some .local ->
 bindL kindOf (P.zip vs) m x=some v
 |[],_,_,_,_,h,_,_=>by simp at h
 |_::_,[],_,_,_,_,h,_=>by simp at h
 |p::P,w::vs,0,m,nd,h1,h2,hk=>by
  simp at h1 h2;subst h1;subst h2;show bindL kindOf ((p,w)::P.zip vs) m p=_;unfold bindL;rw[KH λv hv=>(nodup_cons.mp nd).1 (of_mem_zip hv).1,if_pos hk];simp
 |p::P,w::vs,i+1,m,nd,h1,h2,hk=>by
  show bindL kindOf ((p,w)::P.zip vs) m x=_;unfold bindL;exact KI (i:=i) (nodup_cons.mp nd).2 (by simpa using h1) (by simpa using h2) hk
theorem KK{kindOf:Str->Option NameKind}{x:Str}{v:Value}:∀{P:List Str} {vs:List Value} {i:Nat} {m:Str->Option Value},P.Nodup->P[i]?=some x->vs[i]?=some v->kindOf x≠some .local ->
 bindC kindOf (P.zip vs) m x=some v
 |[],_,_,_,_,h,_,_=>by simp at h
 |_::_,[],_,_,_,_,h,_=>by simp at h
 |p::P,w::vs,0,m,nd,h1,h2,hk=>by
  simp at h1 h2;subst h1;subst h2;show bindC kindOf ((p,w)::P.zip vs) m p=_;unfold bindC;rw[KJ λv hv=>(nodup_cons.mp nd).1 (of_mem_zip hv).1,if_neg hk];simp
 |p::P,w::vs,i+1,m,nd,h1,h2,hk=>by
  show bindC kindOf ((p,w)::P.zip vs) m x=_;unfold bindC;exact KK (i:=i) (nodup_cons.mp nd).2 (by simpa using h1) (by simpa using h2) hk
def start(N:List Str)(vs:List V):St:=vs.map some++List.replicate (N.length-vs.length) none
def FN(CX:CXT)(P:Program)(w:World)(K:PySem.W.Frag)(mg:Str->Option Value)(base:Heap)(N:List Str)(qual:Str)(scope:Scope)(f:Addr)(cd:Value)(A:Around)(outer:List Env)(s:Shared)(H:Hp)(E:XK):Cx where
 prog:=P
 w:=w
 K:=K
 mg:=mg
 base:=base
 A:=A.deeper (envOfC qual scope s.heap.objs.size f cd)
 N:=N
 s₀:=s
 H₀:=H
 env:=envOfC qual scope s.heap.objs.size f cd
 outer:=outer
 stack:=envOfC qual scope s.heap.objs.size f cd::outer
 ex:=[]
 calm:=true
 fn:=λ_=>true
 pn:=[]
 xe:=λe s'=>wpAny (model P w) (A.deeper (envOfC qual scope s.heap.objs.size f cd)) (leaving (envOfC qual scope s.heap.objs.size f cd) e) (λ_ s''=>CX outer H s E e s'') (λe' s''=>CX outer H s E e' s'') s'
def MQ{sc:Scope}{n:Nat}{x:Str}(h:sc.names.lookup x=some .cell):∃c,(cellsFrom n sc.names []).lookup x=some c:=by
 have q:=PySem.W.cellsFrom_some sc.names n [] (.inl h);exact isSome_iff_exists.mp q
def Q9{CX:CXT}{P:Program}{w:World}{K:PySem.W.Frag}{mg:Str->Option Value}{base:Heap}{N ps:List Str}{qual:Str}{scope:Scope}{f:Addr}{cd:Value}{A:Around}{outer:List Env}{s s1:Shared}{H:Hp}{E:XK}{us:List Value}{vs:List V}
 (S:FnScope N ps scope) (hd:A.handled=none) (e0:Env0 P w K mg base A outer s H) (hl:vs.length=ps.length) (r:Vals vs us)
 (x:InCallC s s.heap.objs.size (bindL (envOfC qual scope s.heap.objs.size f cd).kindOf (ps.zip us) λ_=>none) (cellsFrom (s.heap.objs.size+1) scope.names []) (bindC (envOfC qual scope s.heap.objs.size f cd).kindOf (ps.zip us) λ_=>none) s1):
 Inv (FN CX P w K mg base N qual scope f cd A outer s H E) [] (start N vs) H s1:=by
 have hpl:ps.length<=N.length:=by have:=congrArg List.length S.pre;rw[length_take]at this;omega
 obtain⟨h1,tk,rfl,hk⟩:=x.done;have noA:∀b:Addr,b∉(FN CX P w K mg base N qual scope f cd A outer s H E).ex:=λb z=>absurd (show b∈([]:List Addr)from z) (by simp);refine⟨⟨e0.mod,S.kind,rfl,rfl,le_refl _,λy z c h1 h2=>?_,λy hy=>?_,λy c _ h=>?_,λ_=>hd,Around.frames_deeper e0.frames,.inr ⟨rfl,rfl⟩,λb z=>absurd z (noA b),e0.bs,e0.bsz,λb _ _=>noA b,λb z=>absurd z (noA b),e0.funs,e0.frf⟩,
  rfl,e0.bare,Un.kept hk,⟨_,x.toInCall.ns,λi y v h1 h2 h3=>?_⟩,λy c h=>⟨_,x.cell y c h⟩,e0.hok.fresh (le_refl _),λy c h=>?_,λp hp=>absurd (show p∈([]:List (Addr×Obj))from hp) (by simp),e0.hok.kept hk,?_⟩
 .exact name_of_addr x.apart (PySem.mem_of_lookup h1) (PySem.mem_of_lookup h2)
 .have hy:scope.names.lookup y=some .cell∨scope.names.lookup y=some .free:=hy;rcases hy with hy|hy
  .exact MQ hy
  .exact absurd rfl (S.nofree _ (PySem.mem_of_lookup hy))
 .exact le_of_lt (x.above y c (PySem.mem_of_lookup h))
 .have hi:i<vs.length:=by
   unfold start at h2;by_cases hi:i<vs.length
   .exact hi
   .rw[List.getElem?_append_right (by simpa using hi)]at h2;rw[List.getElem?_replicate]at h2;split at h2<;>cases h2
  have ha:vs[i]?=some v:=by
   unfold start at h2;rw[List.getElem?_append_left (by simpa using hi),List.getElem?_map]at h2;cases e:vs[i]? with
   |none=>rw[e]at h2;cases h2
   |some a=>rw[e]at h2;cases h2;rfl
  obtain⟨u,hu,rv⟩:=r.get ha;have hp:ps[i]?=some y:=by
   rw[<- S.pre,List.getElem?_take_of_lt (by omega)];exact h1
  have ndP:ps.Nodup:=by rw[<- S.pre];exact S.nd.sublist (List.take_sublist _ _)
  refine⟨u,rv,?_⟩;rcases S.par y (mem_of_getElem? hp)with k|k
  .exact .inl ⟨k,KI ndP hp hu k⟩
  .obtain⟨c,e⟩:=MQ (n:=s.heap.objs.size+1) k;refine .inr ⟨.inl k,c,e,?_⟩;have q:=x.cell y c e;rw[KK ndP hp hu (by show scope.names.lookup y≠_;rw[k];decide)]at q;exact q
 .exact e0.hok.fresh (le_of_lt (x.above y c (PySem.mem_of_lookup h)))
 .unfold start;show _=N.length;rw[length_append,length_map,List.length_replicate];omega
def Tf{CX:CXT}{P:Program}{w:World}{K:PySem.W.Frag}{mg:Str->Option Value}{base:Heap}{k:Nat}{f:Addr}{name qual:Str}{params:Arguments}{body:List Stmt}{scope:Scope}{dV kV doc pm cdv ct oc:Value}{an od:Option Addr}
 {osl:Array (Option Value)} {N ps:List Str} {sp:Sp} (lk:K.lookup f=some ⟨oc,od,.func (PySem.W.fnOf name qual params body scope dV kV doc pm an cdv ct),osl⟩) (hcd:PySem.W.codeIn K cdv qual=true) (S:FnScope N ps scope)
 (len:∀vs H Q E,sp vs H Q E->vs.length=ps.length)
 (hbody:∀(A:Around) (outer:List Env) (s:Shared) (H:Hp) (vs:List V) (Q:VK) (E:XK),Room k (A.deeper (envOfC qual scope s.heap.objs.size f cdv))->sp vs H Q E ->
  ∃t,PSs (FN CX P w K mg base N qual scope f cdv A outer s H E) body t/\t { nx:=λ_ H'=>Q .non H',rt:=Q } (start N vs) H):
 FnOk P w K mg base CX (k+1) f (PySem.W.fnOf name qual params body scope dV kV doc pm an cdv ct) ps sp:=by
 refine⟨len,λA outer s H args us vs Q E hr e0 hb r hsp=>?_⟩;have hl:=len _ _ _ _ hsp;have KX:K.In s.heap:=e0.mod.kin.keeps λb o e=>(e0.bs b o e).1;have lim:s.heap.NoLimit:=e0.mod.nolimit.keeps λb o e=>(e0.bs b o e).1;have hkind:∀y∈ps.zip us,scope.names.lookup y.1=some .local∨(scope.names.lookup y.1=some .cell/\((cellsFrom (s.heap.objs.size+1) scope.names []).lookup y.1).isSome=true):=λ⟨n,v⟩ hy=>by
  rcases S.par n (of_mem_zip hy).1 with q|q
  .exact .inl q
  .exact .inr ⟨q,PySem.W.cellsFrom_some _ _ _ (.inl q)⟩
 refine codeAny_call_function hr.depth (KX _ _ lk) rfl S.co S.gen rfl (PySem.W.codeRec_of KX hcd) (hb _ _ _ _ ?_);refine wpAny_newFunctionEnv_cells S.kind hkind λenv he s1 x=>?_;subst he;refine⟨lim.keeps x.toInCall.keep,codeAny_func ?_⟩;obtain⟨t,ht,hq⟩:=hbody A outer s H vs Q E (hr.deeper _) hsp;have I:Inv (FN CX P w K mg base N qual scope f cdv A outer s H E) [] (start N vs) H s1:=Q9 S hr.hd e0 hl r x;refine wpAny_mono (ht [] s1 (start N vs) H _ I hq) (λfl s' hs=>?_) λe s' hs=>hs;have fin:∀{σ':St} {H':Hp} {v:V} {u:Value},Inv (FN CX P w K mg base N qual scope f cdv A outer s H E) [] σ' H' s'->RelV v u->Q v H'->CE outer P w H s Q u s':=
  λ{σ' H' v u} J rv q=>⟨v,H',J.os,J.bare,J.base,J.hok,rv,q⟩
 cases fl with
 |ret u=>
  obtain⟨v,σ',H',J,rv,q⟩:=hs;exact fin J rv q
 |next=>
  obtain⟨σ',H',J,q⟩:=hs;exact fin (v:=V.non) (u:=Value.none) J rfl q
 |brk=>
  obtain⟨_,_,_,q⟩:=hs;exact False.elim q
 |cont=>
  obtain⟨_,_,_,q⟩:=hs;exact False.elim q
section
variable{X:Cx}{x:Str}{p pos:Pos}{e:Expr}{es:List Expr}{t:TA}{id T:String}{r:List V->Hp->VK->Prop}
def tCB(r:List V->Hp->VK->Prop)(t:TA):TE:=λσ H Q=>t σ H λvs H1=>r vs H1 Q
def Fq(hc:CallR X (.builtin id) r)(hg:Gl X x)(hm:X.mg x=none)(hv:bootBuiltins x=some (.builtin id))(ha:PA X (e::es) t)(hn:x≠"__name__":=by decide)(hdb:(x==("__debug__":Str))=false:=by decide)
 (he:starEach (e::es) X.env=(false,eval e X.env)::starEach es X.env:=by rfl) (hpl:(backTo pos (starEach es X.env)).any (·.1)=false:=by rfl):PE X (.Call (.Name x p) (e::es) [] pos) (tCB r t):=by
 intro pins s σ H Q I h;refine wpAny_Call_Name_kw (Ca I hg hm hv ?_ hn hdb);exact PyProof.Rows.callWith_builtin1 (thn (ha pos pins s σ H _ I h) λus s1 ⟨vs,H1,I1,r1,q1⟩=>hc pins s1 σ H1 vs us Q I1 r1 q1) he hpl
def F2(hc:CallR X (.type T) r)(hg:Gl X x)(hm:X.mg x=none)(hv:bootBuiltins x=some (.type T))(ha:PA X (e::es) t)(hn:x≠"__name__":=by decide)(hdb:(x==("__debug__":Str))=false:=by decide)
 (he:starEach (e::es) X.env=(false,eval e X.env)::starEach es X.env:=by rfl) (hpl:(backTo pos (starEach es X.env)).any (·.1)=false:=by rfl):PE X (.Call (.Name x p) (e::es) [] pos) (tCB r t):=by
 intro pins s σ H Q I h;refine wpAny_Call_Name_kw (Ca I hg hm hv ?_ hn hdb);exact PyProof.Rows.callWith_type1 (thn (ha pos pins s σ H _ I h) λus s1 ⟨vs,H1,I1,r1,q1⟩=>hc pins s1 σ H1 vs us Q I1 r1 q1) he hpl
end
end L2
namespace HT
open PySem PyProof.Rows
section
variable{prog:Program}{w:World}{A:Around}{E:Value->Shared->Prop}{s:Shared}
def cat_tup{t b:Addr}{vs ws:List Value}{Q:Value->Shared->Prop}(ht:IsTup s.heap t vs.toArray)(hb:IsTup s.heap b ws.toArray)(hv:vs≠[])
 (h1:ws=[]->Q (.ref t) s) (h2:ws≠[]->Q (.ref s.heap.objs.size) { s with heap:=s.heap.push { cls:=.type "tuple",data:=.seq (vs++ws).toArray } })
 (hsz:vs.length+ws.length<=sizeLine):wpAny (model prog w) A (binaryOp .Add (.ref t) (.ref b)) Q E s:=by
 obtain⟨⟨cls,dd,data,sl⟩,ho,hc,n,hd⟩:=id ht;obtain⟨⟨cls2,dd2,data2,sl2⟩,ho2,hc2,n2,hd2⟩:=id hb;simp only at hc hd hc2 hd2;subst hc hd hc2 hd2;have e:vs.toArray++ws.toArray=(vs++ws).toArray:=by simp
 by_cases hw:ws=[]
 .exact concat_meets ⟨_,ho,rfl⟩ ⟨_,ho2,rfl⟩ noFill_tuple_add seq_tuple_add PySem.F.slot_tuple_add PySem.F.entry_tuple_add (PySem.F.args_tuple_add_2 _ _)
   (tuple_addW1 t b vs.toArray ws.toArray n n2 dd dd2 sl sl2 (by simpa using hv) (by simp[hw])) ⟨ho,ho2,h1 hw⟩
 .refine concat_meets ⟨_,ho,rfl⟩ ⟨_,ho2,rfl⟩ noFill_tuple_add seq_tuple_add PySem.F.slot_tuple_add PySem.F.entry_tuple_add (PySem.F.args_tuple_add_2 _ _)
   (tuple_addW2 t b vs.toArray ws.toArray n n2 dd dd2 sl sl2 (by simpa using hv) (by simpa using hw) (by rw[size_toArray,size_toArray];exact hsz)) ⟨ho,ho2,?_⟩
  rw[e];exact h2 hw
def sIx(n d:Nat):Option Int->Nat
 |none=>d
 |some v=>if v<0 then(v+(n:Int)).toNat else min v.toNat n
end
end HT
namespace L2
open PySem PySem.Spec PyProof.Rows
abbrev TO:=St->Hp->(Option Int->Hp->Prop)->Prop
def PO(X:Cx)(e:Option Expr)(t:TO):Prop:=
 ∀(pins:List (Addr×Obj)) (s:Shared) (σ:St) (H:Hp) (Q:Option Int->Hp->Prop),Inv X pins σ H s->t σ H Q ->
   wpAny (model X.prog X.w) X.A (evalPart e X.env) (λu s'=>∃o H',Inv X pins σ H' s'/\IsPart u o/\Q o H') X.xe s
def JK:TO:=λ_ H Q=>Q none H
def Nr(t:TE):TO:=λσ H Q=>t σ H λx H1=>∃i,x=.int i/\Q (some i) H1
section
variable{X:Cx}{e:Expr}{te:TE}{lo hi:Option Expr}{tl th:TO}{pos p2:Pos}
def V2:PO X none JK:=by
 intro pins s σ H Q I h;rw[evalPart_none];exact wpAny_pure ⟨none,H,I,.none,h⟩
def V1(h:PE X e te):PO X (some e) (Nr te):=by
 intro pins s σ H Q I hw;rw[evalPart_some];refine thn (h pins s σ H _ I hw) λu s1 ⟨x,H1,I1,r1,q1⟩=>?_;obtain⟨i,rfl,q⟩:=q1;obtain⟨t,rfl⟩:=r1;exact⟨some i,H1,I1,.int i t,q⟩
def SlR(X:Cx)(r:V->Option Int->Option Int->Hp->VK->Prop):Prop:=
 ∀(pins:List (Addr×Obj)) (s:Shared) (σ:St) (H:Hp) (x:V) (v vl vu:Value) (lo hi:Option Int) (sl:Addr) (Q:VK),Inv X pins σ H s->RelV x v->s.heap.IsSliceOf sl vl vu .none->IsPart vl lo->IsPart vu hi->r x lo hi H Q ->
   ∃T id,typeLookup (.type T) "__getitem__"=pure (some (.builtin id))/\s.TypeIs v T/\wpAny (model X.prog X.w) X.A (getItem v (.ref sl)) (EP X pins σ Q) X.xe s
def tSl(r:V->Option Int->Option Int->Hp->VK->Prop)(te:TE)(tl th:TO):TE:=λσ H Q=>te σ H λx H1=>tl σ H1 λl H2=>th σ H2 λu H3=>r x l u H3 Q
def SK{r:V->Option Int->Option Int->Hp->VK->Prop}(hr:SlR X r)(he:PE X e te)(hl:PO X lo tl)(hu:PO X hi th):PE X (.Subscript e (.Slice lo hi none p2) pos) (tSl r te tl th):=by
 intro pins s σ H Q I h;refine Subscript_ (thn (he pins s σ H _ I h) λv s1 ⟨x,H1,I1,r1,q1⟩=>?_);refine wpAny_Slice (thn (hl pins s1 σ H1 _ I1 q1) λvl s2 ⟨l,H2,I2,pl,q2⟩=>thn (hu pins s2 σ H2 _ I2 q2) λvu s3 ⟨u,H3,I3,pu,q3⟩=>?_);rw[evalPart_none];refine wpAny_pure ?_;have I4:Inv X pins σ H3 { s3 with heap:=s3.heap.push { cls:=.type "slice",data:=.fields #[vl,vu,.none] } }:=I3.kept (t':=s3.toks) λb ob q=>Heap.get?_push_of_some _ q;obtain⟨T,id,hT,ht,hg⟩:=hr pins { s3 with heap:=s3.heap.push { cls:=.type "slice",data:=.fields #[vl,vu,.none] } } σ H3 x v vl vu l u s3.heap.objs.size Q I4 r1 (Heap.IsSliceOf.new ..) pl pu q3;show wpAny (model X.prog X.w) X.A (subscriptTail e (.Slice lo hi none p2) v (.ref s3.heap.objs.size)) (EP X pins σ Q) X.xe { s3 with heap:=s3.heap.push { cls:=.type "slice",data:=.fields #[vl,vu,.none] } };exact tail_any (ops:=[.ref s3.heap.objs.size,v]) ht hT hg (by with_unfolding_all rfl)
def IS(xs:List V)(lo hi:Option Int):List V:=(xs.drop (HT.sIx xs.length 0 lo)).take (HT.sIx xs.length xs.length hi-HT.sIx xs.length 0 lo)
def My(xs:List V)(lo hi:Option Int):(IS xs lo hi).length<=xs.length:=by
 unfold IS;rw[length_take,List.length_drop];omega
def OJ(K:PySem.W.Frag):R2:=λx y H Q=>∃a b xs ys,x=.ref a/\y=.ref b/\SqT K H a xs/\SqT K H b ys/\xs≠[]/\xs.length+ys.length<=sizeLine /\
 (ys=[]->Q (.ref a) H)/\(ys≠[]->∀p,H p=none->Q (.ref p) (upd H p (.tup (xs++ys))))
def Vals.nil_iff{xs:List V}{us:List Value}(r:Vals xs us):us=[]↔xs=[]:=by
 cases r with
 |nil=>simp
 |cons _ _=>simp
def VL:OpR X (binaryOp .Add) (OJ X.K):=by
 intro pins s σ H x y v u Q I rx ry h;obtain⟨a,b,xs,ys,rfl,rfl,ha,hb,hx,hz,q1,q2⟩:=h;cases rx;cases ry;obtain⟨its,r1,p1,_⟩:=I.tuple ha;obtain⟨its2,r2,p2,_⟩:=I.tuple hb;refine HT.cat_tup p1 p2 (λz=>hx (r1.nil_iff.mp z)) (λz=>⟨.ref a,H,I,rfl,q1 (r2.nil_iff.mp z)⟩) (λz=>?_) (by rw[<- r1.length,<- r2.length];exact hz);refine⟨.ref s.heap.objs.size,_,I.laid (t':=s.toks) (o:=.tup (xs++ys)) (λb ob q=>Heap.get?_push_of_some _ q) (le_refl _) ?_,rfl,q2 (λw=>z (r2.nil_iff.mpr w)) _ (I.hok.fresh (le_refl _))⟩;exact⟨by rw[length_append];exact hz,_,r1.append r2,IsTupD.new _ _⟩
end
def ixN(n:Nat)(i:Int):Option Nat:=if 0<=i then(if i<n then some i.toNat else none)else if -(n:Int)<=i then some (i+n).toNat else none
def atI{α:Type}(xs:List α)(i:Int):Option α:=(ixN xs.length i).bind λj=>xs[j]?
def Na{n:Nat}{i:Int}{j:Nat}(h:ixN n i=some j):seqIndex? i n=some j/\j<n/\-(n:Int)<=i/\i<n:=by
 unfold ixN at h;by_cases h0:0<=i
 .rw[if_pos h0]at h;by_cases h1:i<n
  .rw[if_pos h1]at h;have e:i.toNat=j:=Option.some.inj h;exact⟨by rw[seqIndex_of h0 h1,e],by omega,by omega,h1⟩
  .rw[if_neg h1]at h;cases h
 .rw[if_neg h0]at h;by_cases h1:-(n:Int)<=i
  .rw[if_pos h1]at h;have e:(i+n).toNat=j:=Option.some.inj h;exact⟨by rw[seqIndex_neg (by omega) h1,e],by omega,h1,by omega⟩
  .rw[if_neg h1]at h;cases h
def Jl{α:Type}{xs:List α}{i:Int}{v:α}(h:atI xs i=some v):∃j,seqIndex? i xs.length=some j/\xs[j]?=some v/\j<xs.length/\-(xs.length:Int)<=i/\i<xs.length:=by
 unfold atI at h;cases e:ixN xs.length i with
 |none=>rw[e]at h;cases h
 |some j=>
  rw[e]at h;obtain⟨h1,h2,h3,h4⟩:=Na e;exact⟨j,h1,h,h2,h3,h4⟩
def HZ{α:Type}{xs:List α}{j:Nat}{v:α}(h:xs[j]?=some v):atI xs (j:Int)=some v:=by
 have hj:j<xs.length:=(List.getElem?_eq_some_iff.mp h).1;have e:ixN xs.length (j:Int)=some j:=by
  unfold ixN;rw[if_pos (by omega),if_pos (by omega)];simp
 unfold atI;rw[e];exact h
def IU{α:Type}(xs:List α)(v:α):atI (xs++[v]) (-1)=some v:=by
 have hl:(xs++[v]).length=xs.length+1:=by simp
 have e:ixN (xs++[v]).length (-1)=some xs.length:=by
  unfold ixN;rw[hl,if_neg (by decide),if_pos (by omega)]
  congr 1
  omega
 unfold atI;rw[e];show(xs++[v])[xs.length]?=some v;simp
def Jm(b:Expr):Prop:=∀o i,subscripted b false o i=operate [o,i] (getItem o i)
def IxR(X:Cx)(r:R2):Prop:=
 ∀(value slice:Expr) (pins:List (Addr×Obj)) (s:Shared) (σ:St) (H:Hp) (x y:V) (v u:Value) (Q:VK),Inv X pins σ H s->RelV x v->RelV y u->r x y H Q ->
   subscripted slice false v u=operate [v,u] (getItem v u)->wpAny (model X.prog X.w) X.A (subscriptTail value slice v u) (EP X pins σ Q) X.xe s
def MtR(X:Cx)(id:String)(r:V->List V->Hp->VK->Prop):Prop:=
 ∀(pins:List (Addr×Obj)) (s:Shared) (σ:St) (H:Hp) (x:V) (xs:List V) (v:Value) (us:List Value) (Q:VK),Inv X pins σ H s->RelV x v->Vals xs us->r x xs H Q ->
   wpAny (model X.prog X.w) X.A (call (.builtin id) (v::us)) (EP X pins σ Q) X.xe s
section
variable{X:Cx}{a b:Expr}{ta tb:TE}{pos:Pos}
def IxR.or{r r':R2}(h:IxR X r)(h':IxR X r'):IxR X (λx y H Q=>r x y H Q∨r' x y H Q):=by
 intro value slice pins s σ H x y v u Q I rx ry q hs;rcases q with q|q
 .exact h value slice pins s σ H x y v u Q I rx ry q hs
 .exact h' value slice pins s σ H x y v u Q I rx ry q hs
def TX{r:R2}(hr:IxR X r)(ha:PE X a ta)(hb:PE X b tb)(hs:Jm b):PE X (.Subscript a b pos) (tOp r ta tb):=by
 intro pins s σ H Q I h;exact Subscript_ (Sx ha hb I h λv u s2 x y H2 I2 rx ry q=>hr a b pins s2 σ H2 x y v u Q I2 rx ry q (hs _ _))
def JW(K:PySem.W.Frag):R2:=λx y H Q=>∃p xs i v,x=.ref p/\y=.int i/\SqL K H p xs/\atI xs i=some v/\Q v H
def Rn(K:PySem.W.Frag):R2:=λx y H Q=>∃p xs i v,x=.ref p/\y=.int i/\SqT K H p xs/\atI xs i=some v/\Q v H
def Vc:IxR X (JW X.K):=by
 intro value slice pins s σ H x y v u Q I rx ry h hs;obtain⟨p,xs,i,z,rfl,rfl,hq,he,q⟩:=h;cases rx;obtain⟨t,rfl⟩:=ry;obtain⟨its,r,pl,hz⟩:=I.list hq;obtain⟨j,h1,h2,h3,h4,h5⟩:=Jl he;obtain⟨w,ew,rw'⟩:=r.get h2;have hl:=r.length;have hn:=Fa;have fin:EP X pins σ Q w s:=⟨z,H,I,rw',q⟩
 by_cases h0:0<=i
 .have hj:i.toNat=j:=by
   rw[seqIndex_of h0 h5]at h1;exact Option.some.inj h1
  exact item_listR pl.isList h0 (by omega) (by rw[hj];simpa using ew) fin hs
 .have hj:(i+(its.toArray.size:Int)).toNat=j:=by
   rw[seqIndex_neg (by omega) h4]at h1;rw[size_toArray,<- hl];exact Option.some.inj h1
  exact subscriptTail_builtinR (x:=w) pl.isList.typeIs slot_list_getitem.lookup
   (wpAny_getItem_list_neg (Q:=λr s'=>r=w/\EP X pins σ Q r s') pl.isList (by omega) (by rw[size_toArray]<;>omega) (by omega) (by rw[hj];simpa using ew) ⟨rfl,fin⟩) hs
def YM:IxR X (Rn X.K):=by
 intro value slice pins s σ H x y v u Q I rx ry h hs;obtain⟨p,xs,i,z,rfl,rfl,hq,he,q⟩:=h;cases rx;obtain⟨t,rfl⟩:=ry;obtain⟨its,r,pl,hz⟩:=I.tuple hq;obtain⟨j,h1,h2,h3,h4,h5⟩:=Jl he;obtain⟨w,ew,rw'⟩:=r.get h2;have hl:=r.length;have hn:=Fa;have fin:EP X pins σ Q w s:=⟨z,H,I,rw',q⟩
 exact subscriptTail_builtinR (x:=w) pl.typeIs slot_tuple_getitem.lookup
  (getItem_tuple (j:=j) (Q:=λr s'=>r=w/\EP X pins σ Q r s') pl (by omega) (by omega) (by rw[size_toArray,<- hl];exact h1) (by simpa using ew) ⟨rfl,fin⟩) hs
def OR(its:List Value)(n j:Nat)(u:Value):Obj.mapSeq (·.setIfInBounds j u) { cls:=.type "list",data:=.seq its.toArray n }={ cls:=.type "list",data:=.seq (its.set j u).toArray n }:=by
 simp[Obj.mapSeq]
theorem Inv.lst{pins:List (Addr×Obj)}{σ:St}{H:Hp}{s:Shared}{p:Addr}{xs:List V}(I:Inv X pins σ H s)(h:H p=some (.lst xs)):
 ∃(its:List Value) (n:Nat),Vals xs its/\s.heap.get? p=some { cls:=.type "list",data:=.seq its.toArray n }/\xs.length<=sizeLine:=by
 obtain⟨z,its,n,r,e⟩:=I.hok p _ h;exact⟨its,n,r,e,z⟩
def Inv.lstUpd{pins:List (Addr×Obj)}{σ:St}{H:Hp}{s:Shared}{p:Addr}{xs ys:List V}{its its':List Value}{n n':Nat}{f:Obj->Obj}(I:Inv X pins σ H s)(h:H p=some (.lst xs))
 (ho:s.heap.get? p=some { cls:=.type "list",data:=.seq its.toArray n }) (hf:f { cls:=.type "list",data:=.seq its.toArray n }={ cls:=.type "list",data:=.seq its'.toArray n' }) (r:Vals ys its') (hz:ys.length<=sizeLine) (t:Nat):
 Inv X pins σ (upd H p (.lst ys)) { s with heap:=s.heap.update p f,toks:=t }:=by
 have e:(s.heap.update p f).get? p=some { cls:=.type "list",data:=.seq its'.toArray n' }:=by
  rw[Heap.get?_update_self f ho (by rw[hf]<;>rfl),hf]
 refine I.write (x:=p) (e:=p) (by rw[h];trivial) (.inl rfl) (λb u hb q=>(Heap.get?_update_other _ _ (Ne.symm hb)).trans q) ⟨_,e⟩ ?_;exact⟨hz,its',n',r,e⟩
def Im:V->V->V->Hp->(Hp->Prop)->Prop:=λo i v H Q=>∃p xs k j,o=.ref p/\i=.int k/\H p=some (.lst xs)/\ixN xs.length k=some j/\Q (upd H p (.lst (xs.set j v)))
def LD:T1 X Im:=by
 intro pins s σ H o i v ov iv u Q I ro ri rv h;obtain⟨p,xs,k,j,rfl,rfl,hp,hj,q⟩:=h;cases ro;obtain⟨t,rfl⟩:=ri;obtain⟨its,n,r,ho,hz⟩:=I.lst hp;obtain⟨h1,h2,h3,h4⟩:=Na hj;have hl:=r.length;have hn:=Fa;have I':Inv X pins σ (upd H p (.lst (xs.set j v))) { s with heap:=s.heap.update p (Obj.mapSeq (·.setIfInBounds j u)) }:=
  I.lstUpd hp ho (OR its n j u) (r.set rv j) (by rw[List.length_set];exact hz) s.toks
 by_cases h0:0<=k
 .have hk:k.toNat=j:=by
   rw[seqIndex_of h0 h4]at h1;exact Option.some.inj h1
  exact PySem.W.ki_setAt ho h0 (by omega) (by rw[size_toArray,<- hl];exact h4) (by rw[hk];exact⟨_,I',q⟩)
 .have hk:(k+(its.toArray.size:Int)).toNat=j:=by
   rw[seqIndex_neg (by omega) h3]at h1;rw[size_toArray,<- hl];exact Option.some.inj h1
  exact PySem.W.ki_setBack ho (by omega) (by rw[size_toArray,<- hl];exact h3) (by omega) (by rw[hk];exact⟨_,I',q⟩)
def L9(lo hi:Option Int)(n:Nat):(sliceBounds lo hi none n).1=((HT.sIx n 0 lo:Nat):Int)/\(sliceBounds lo hi none n).2.1=((HT.sIx n n hi:Nat):Int)/\(sliceBounds lo hi none n).2.2=1:=by
 refine⟨?_,?_,rfl⟩
 .cases lo with
  |none=>simp[sliceBounds,HT.sIx]
  |some i=>
   simp only[sliceBounds,HT.sIx,Option.getD_none,show(1:Int)>0 by decide,if_true];by_cases h:i<0
   .simp only[h,if_true]<;>omega
   .simp only[h,if_false]<;>omega
 .cases hi with
  |none=>simp[sliceBounds,HT.sIx]
  |some i=>
   simp only[sliceBounds,HT.sIx,Option.getD_none,show(1:Int)>0 by decide,if_true];by_cases h:i<0
   .simp only[h,if_true]<;>omega
   .simp only[h,if_false]<;>omega
def KM(its:List Value)(lo hi:Option Int):slicePick its.toArray lo hi none=((its.drop (HT.sIx its.length 0 lo)).take (HT.sIx its.length its.length hi-HT.sIx its.length 0 lo)).toArray:=by
 obtain⟨h1,h2,h3⟩:=L9 lo hi its.toArray.size;unfold slicePick;rw[h1,h2,h3];simp only[sliceRange_one,pick_run,size_toArray]<;>rfl
def OH(K:PySem.W.Frag):V->Option Int->Option Int->Hp->VK->Prop:=λx lo hi H Q=>∃a xs,x=.ref a/\SqL K H a xs/\∀p,H p=none->Q (.ref p) (upd H p (.lst (IS xs lo hi)))
def Tw:SlR X (OH X.K):=by
 intro pins s σ H x v vl vu lo hi sl Q I rx hs pl pu h;obtain⟨a,xs,rfl,hx,q⟩:=h;cases rx;obtain⟨its,r,ht,hz⟩:=I.list hx;have hlen:=r.length;refine⟨"list",_,slot_list_getitem.lookup,ht.isList.typeIs,?_⟩;refine wpAny_getItem_list_slice ht.isList hs pl pu .none (by simp) ?_ (by rw[size_toArray]<;>omega);rw[KM,<- hlen];refine⟨.ref s.heap.objs.size,_,I.laid (t':=s.toks) (o:=.lst (IS xs lo hi)) (λb ob q=>Heap.get?_push_of_some _ q) (le_refl _) ?_,rfl,q _ (I.hok.fresh (le_refl _))⟩;exact⟨le_trans (My xs lo hi) hz,_,0,(r.drop (HT.sIx xs.length 0 lo)).take (HT.sIx xs.length xs.length hi-HT.sIx xs.length 0 lo),Heap.get?_push_size _ rfl⟩
def MW:CallR X (.builtin "len") (λxs H Q=>∃p ys,xs=[.ref p]/\(SqL X.K H p ys∨SqT X.K H p ys)/\Q (.int ys.length) H):=by
 intro pins s σ H xs us Q I r h;obtain⟨p,ys,rfl,hq,q⟩:=h;obtain⟨u,rfl,rx⟩:=By r;cases rx;have hn:=Fa;rcases hq with hq|hq
 .obtain⟨its,r',pl,hz⟩:=I.list hq;have hlen:=r'.length;exact Calls.call_len_list pl.isList (by simp only[size_toArray]<;>omega) ⟨.int ys.length,H,I.tok _,⟨s.toks+1,by rw[size_toArray,hlen]⟩,q⟩
 .obtain⟨its,r',pl,hz⟩:=I.tuple hq;have hlen:=r'.length;exact len_tuple pl (by simp only[size_toArray]<;>omega) ⟨.int ys.length,H,I.tok _,⟨s.toks+1,by rw[size_toArray,hlen]⟩,q⟩
def CallR.or{f:Value}{r r':List V->Hp->VK->Prop}(h:CallR X f r)(h':CallR X f r'):CallR X f (λxs H Q=>r xs H Q∨r' xs H Q):=by
 intro pins s σ H xs us Q I rs q;rcases q with q|q
 .exact h pins s σ H xs us Q I rs q
 .exact h' pins s σ H xs us Q I rs q
def MV:CallR X (.type "list") (λxs H Q=>∃p ys,xs=[.ref p]/\(SqL X.K H p ys∨SqT X.K H p ys)/\∀l,H l=none->Q (.ref l) (upd H l (.lst ys))):=by
 intro pins s σ H xs us Q I r h;obtain⟨p,ys,rfl,hq,q⟩:=h;obtain⟨u,rfl,rx⟩:=By r;cases rx;have fin:∀(its:List Value),Vals ys its->ys.length<=sizeLine->∀(h':Heap) (c':Nat),(∀b o',s.heap.get? b=some o'->h'.get? b=some o') ->
  h'.get? s.heap.objs.size=some { cls:=.type "list",dict:=none,data:=.seq its.toArray c',slots:=#[] }->EP X pins σ Q (.ref s.heap.objs.size) { s with heap:=h' }:=λits r' hz h' c' kp e=>
  ⟨.ref s.heap.objs.size,_,I.laid (t':=s.toks) kp (le_refl _) (show ObjOk X.prog X.w _ h' _ (.lst ys)from⟨hz,its,c',r',e⟩),rfl,q _ (I.hok.fresh (le_refl _))⟩
 rcases hq with hq|hq
 .obtain⟨its,r',pl,hz⟩:=I.list hq;have hlen:=r'.length;obtain⟨o,ho,hc,n,hd⟩:=pl.isList;exact call_list_seq p (.inl rfl) ho hc hd (λh' c' kp e=>fin its r' hz h' c' kp e) (by simp only[size_toArray]<;>omega)
 .obtain⟨its,r',pl,hz⟩:=I.tuple hq;have hlen:=r'.length;obtain⟨o,ho,hc,n,hd⟩:=pl;exact call_list_seq p (.inr rfl) ho hc hd (λh' c' kp e=>fin its r' hz h' c' kp e) (by simp only[size_toArray]<;>omega)
def Kc:CallR X (.type "tuple") (λxs H Q=>∃p ys,xs=[.ref p]/\((SqL X.K H p ys/\∀l,H l=none->Q (.ref l) (upd H l (.tup ys)))∨(SqT X.K H p ys/\Q (.ref p) H))):=by
 intro pins s σ H xs us Q I r h;obtain⟨p,ys,rfl,h⟩:=h;obtain⟨u,rfl,rx⟩:=By r;cases rx;rcases h with⟨hq,q⟩|⟨hq,q⟩
 .obtain⟨its,r',pl,hz⟩:=I.list hq;have hlen:=r'.length;refine call_tuple_list pl.isList (λh' kp=>?_) (by simp only[size_toArray]<;>omega);have I1:Inv X pins σ H { s with heap:=h' }:=I.kept (t':=s.toks) kp;have I2:Inv X pins σ (upd H h'.objs.size (.tup ys)) { s with heap:=h'.push { cls:=.type "tuple",data:=.seq its.toArray } }:=
   I1.laid (t':=s.toks) (λb o e=>Heap.get?_push_of_some _ e) (le_refl _) (show ObjOk X.prog X.w _ _ _ (.tup ys)from⟨hz,its,r',IsTupD.new _ _⟩)
  exact⟨.ref h'.objs.size,_,I2,rfl,q _ (I1.hok.fresh (le_refl _))⟩
 .obtain⟨its,r',pl,hz⟩:=I.tuple hq;exact call_tuple_same pl ⟨.ref p,H,I,rfl,q⟩
def tyV(K:PySem.W.Frag)(T:String)(x:V)(H:Hp):Prop:=match x with
 |.str _=>T="str"
 |.int _=>T="int"
 |.ref p=>(T="list"/\∃xs,SqL K H p xs)∨(T="tuple"/\∃o,K.lookup p=some o/\o.cls=.type "tuple"/\o.dict=none) ∨
  (T="dict"/\((∃kvs,H p=some (.dK kvs))∨∃kvs,H p=some (.dT kvs)))∨(T="set"/\∃S n,H p=some (.set S n))
 |_=>False
def W6{pins:List (Addr×Obj)}{σ:St}{H:Hp}{s:Shared}{T:String}{x:V}{v:Value}(I:Inv X pins σ H s)(r:RelV x v)(ty:tyV X.K T x H):
 s.TypeIs v T/\∀a,v=.ref a->∃ob,s.heap.get? a=some ob/\ob.dict=none:=by
 cases x with
 |str z=>
  obtain⟨t,rfl⟩:=r;cases(show T="str" from ty);exact⟨typeIs_str s z t,λ_ e=>nomatch e⟩
 |int i=>
  obtain⟨t,rfl⟩:=r;cases(show T="int" from ty);exact⟨typeIs_int s i t,λ_ e=>nomatch e⟩
 |ref p=>
  cases r;rcases ty with⟨rfl,xs,hq⟩|⟨rfl,o,hk,hc,hd⟩|⟨rfl,hk⟩|⟨rfl,S,n,hk⟩
  .obtain⟨its,_,pl,_⟩:=I.list hq;refine⟨pl.isList.typeIs,λa e=>?_⟩;cases e;obtain⟨o,n,e,c,hd,_⟩:=pl;exact⟨o,e,hd⟩
  .refine⟨⟨o,I.kIn p o hk,hc⟩,λa e=>?_⟩;cases e;exact⟨o,I.kIn _ o hk,hd⟩
  .have z:∃o,s.heap.get? p=some o/\o.ExactDict:=by
    rcases hk with⟨kvs,hk⟩|⟨kvs,hk⟩
    .obtain⟨_,_,_,_,o,_,_,e,ex,_⟩:=I.hok p _ hk;exact⟨o,e,ex⟩
    .obtain⟨_,_,_,_,o,_,_,e,ex,_⟩:=I.hok p _ hk;exact⟨o,e,ex⟩
   obtain⟨o,e,ex⟩:=z;refine⟨⟨o,e,ex.1⟩,λa e2=>?_⟩;cases e2;exact⟨o,e,ex.2.1⟩
  .obtain⟨o,_,_,_,e,ex,_⟩:=I.hok p _ hk;refine⟨⟨o,e,ex.1⟩,λa e2=>?_⟩;cases e2;exact⟨o,e,ex.2.1⟩
 |_=>exact False.elim ty
def tBM(K:PySem.W.Frag)(T:String)(r:V->List V->Hp->VK->Prop)(to:TE)(t:TA):TE:=λσ H Q=>to σ H λx H1=>tyV K T x H1/\t σ H1 λxs H2=>r x xs H2 Q
variable{o e:Expr}{es:List Expr}{to:TE}{t:TA}{name:Str}{apos cpos:Pos}{T id:String}{r:V->List V->Hp->VK->Prop}
def ZL(pa:PlainAttrs T)(slot:Slot T name id)(hty:typeOf (.builtin id)=pure (.type "method_descriptor"))(hm:MtR X id r)(ho:PE X o to)(ha:PA X (e::es) t)
 (hbase:attributeBase o name X.env (eval o X.env)=eval o X.env:=by rfl)
 (hfew:((backTo cpos (starEach (e::es) X.env)).all (λx=>!x.1)&&(backToKw cpos (keywordEach [] X.env)).all (λx=>x.1.isSome)
  && decide ((e::es).length+([]:List Keyword).length+(if([]:List Keyword).isEmpty then 0 else 1)<30))=true:=by rfl)
 (hline:(apos.endLine==cpos.line)=true:=by rfl) (hs:starEach (e::es) X.env=(false,eval e X.env)::starEach es X.env:=by rfl) (hplain:(backTo cpos (starEach es X.env)).any (·.1)=false:=by rfl):
 PE X (.Call (.Attribute o name apos) (e::es) [] cpos) (tBM X.K T r to t):=by
 intro pins s σ H Q I h;refine wpAny_Call_method_late hbase hfew hline rfl (thn (ho pins s σ H _ I h) λv s1 ⟨x,H1,I1,r1,ty,q1⟩=>?_);obtain⟨h1,h2⟩:=W6 I1 r1 ty;refine⟨T,id,pa,slot,hty,h1,h2,?_⟩;have hA:=ha cpos pins s1 σ H1 _ I1 q1;rw[hs]at hA ⊢;refine Calls.callWith_builtin (by show(false||(backTo cpos (starEach es X.env)).any (·.1))=false;rw[hplain]<;>rfl) (Calls.evalArgs_plain ?_);exact thn hA λus s2 ⟨vs,H2,I2,r2,q2⟩=>hm pins s2 σ H2 x vs v us Q I2 r1 r2 q2
end
def MtM(X:Cx)(id:String)(r:V->List V->Hp->VK->Prop):Prop:=
 ∀(pins:List (Addr×Obj)) (s:Shared) (σ:St) (H:Hp) (x:V) (xs:List V) (v:Value) (us:List Value) (Q:VK),Inv X pins σ H s->RelV x v->Vals xs us->r x xs H Q ->
   wpAny (model X.prog X.w) X.A (call (.builtin id) (v::us)) (EP X pins σ Q) X.xe s
def Vals.one:∀{x:V} {us:List Value},Vals [x] us->∃u,us=[u]/\RelV x u
 |_,_,.cons r .nil=>⟨_,rfl,r⟩
theorem Vals.rep{xs:List V}{us:List Value}(h:Vals xs us):∀k:Nat,Vals (List.replicate k xs).flatten (List.replicate k us).flatten
 |0=>.nil
 |k+1=>by
  rw[replicate_succ,replicate_succ,flatten_cons,flatten_cons];exact Vals.append h (Vals.rep h k)
theorem K6(its:List Value):∀(k:Nat) (acc:List Value),
 List.foldl (λx1 x2=>x1++x2) acc.toArray (List.replicate k its.toArray)=(acc++(List.replicate k its).flatten).toArray
 |0,acc=>by simp
 |k+1,acc=>by
  have e:acc.toArray++its.toArray=(acc++its).toArray:=by simp
  have e2:(acc++its)++(List.replicate k its).flatten=acc++(List.replicate (k+1) its).flatten:=by
   rw[replicate_succ,flatten_cons,append_assoc]
  rw[<- e2,<- K6 its k (acc++its),<- e,replicate_succ,List.foldl_cons]
section
variable{X:Cx}{pins:List (Addr×Obj)}{σ:St}{H:Hp}{s:Shared}{l b:Addr}{xs ys zs:List V}
def Inv.lset{its its':List Value}{n:Nat}{f:Array Value->Array Value}{t':Nat}(I:Inv X pins σ H s)(hH:H l=some (.lst xs))
 (e:s.heap.get? l=some { cls:=.type "list",data:=.seq its.toArray n }) (hf:f its.toArray=its'.toArray) (hv:Vals ys its') (hz:ys.length<=sizeLine):
 Inv X pins σ (upd H l (.lst ys)) { s with heap:=s.heap.update l (Obj.mapSeq f),toks:=t' }:=by
 have q:=PySem.IsL.update e f;rw[hf]at q;refine I.write (x:=l) (e:=l) (by rw[hH];exact trivial) (.inl rfl) (λb' u hb hu=>(Heap.get?_update_other s.heap (Obj.mapSeq f) (Ne.symm hb)).trans hu) ⟨_,q⟩ ?_;exact⟨hz,its',_,hv,q⟩
def Inv.lnew{its:List Value}{t':Nat}(I:Inv X pins σ H s)(hv:Vals ys its)(hz:ys.length<=sizeLine):
 Inv X pins σ (upd H s.heap.objs.size (.lst ys)) { s with heap:=s.heap.push { cls:=.type "list",data:=.seq its.toArray },toks:=t' }:=
 I.laid (λ_ _ q=>Heap.get?_push_of_some _ q) (le_refl _) ⟨hz,its,0,hv,Heap.get?_push_size _ rfl⟩
theorem Inv.fresh(I:Inv X pins σ H s):H s.heap.objs.size=none:=I.hok.fresh (le_refl _)
def Inv.lstM(I:Inv X pins σ H s)(hH:H l=some (.lst xs)):xs.length<=sizeLine/\∃(its:List Value) (n:Nat),Vals xs its/\xs.length=its.length/\s.heap.get? l=some { cls:=.type "list",data:=.seq its.toArray n }:=by
 obtain⟨z,its,n,r,e⟩:=I.hok l _ hH;exact⟨z,its,n,r,r.length,e⟩
def SR{n:Nat}(h:n<=sizeLine):Builtin.List.listTooLong n=false:=by
 unfold Builtin.List.listTooLong;exact decide_eq_false (by omega)
end
section
variable{X:Cx}
def NM:V->List V->Hp->VK->Prop:=λx vs H Q=>∃l xs y,x=.ref l/\vs=[y]/\H l=some (.lst xs)/\xs.length<sizeLine/\Q .non (upd H l (.lst (xs++[y])))
def Jy:MtM X "list.append" NM:=by
 intro pins s σ H x vs v us Q I rx rv h;obtain⟨l,xs,y,rfl,rfl,hH,hz,q⟩:=h;cases rx;obtain⟨u,rfl,ru⟩:=rv.one;obtain⟨z,its,n,r,hl,e⟩:=I.lstM hH;refine call_meets F.slot_list_append ⟨_,e,rfl⟩ F.entry_list_append (F.args_list_append_2 _ _) (PySem.list_append l its.toArray n u (by rw[size_toArray];omega)) ⟨e,?_⟩;refine⟨.non,_,I.lset (its':=its++[u]) hH e (by simp) (r.append (.cons ru .nil)) ?_,rfl,q⟩;rw[length_append,List.length_singleton];omega
def UQ:V->List V->Hp->VK->Prop:=λx vs H Q=>∃l b xs zs,x=.ref l/\vs=[.ref b]/\H l=some (.lst xs)/\H b=some (.lst zs)/\xs.length+zs.length<=sizeLine/\Q .non (upd H l (.lst (xs++zs)))
def Zy:MtM X "list.extend" UQ:=by
 intro pins s σ H x vs v us Q I rx rv h;obtain⟨l,b,xs,zs,rfl,rfl,hH,hB,hz,q⟩:=h;cases rx;obtain⟨u,rfl,ru⟩:=rv.one;cases ru;obtain⟨z,its,n,r,hl,e⟩:=I.lstM hH;obtain⟨z2,its2,n2,r2,hl2,e2⟩:=I.lstM hB;have hsz:its.toArray.size+its2.toArray.size<=sizeLine:=by rw[size_toArray,size_toArray];omega
 have hlong:¬ (!its.toArray.isEmpty&&Builtin.List.listTooLong (its.toArray.size+its2.toArray.size))=true:=by
  rw[SR hsz,Bool.and_false];exact Bool.false_ne_true
 refine call_meets F.slot_list_extend ⟨_,e,rfl⟩ F.entry_list_extend (F.args_list_extend_2 _ _)
  (AutoSeq1.list_extend_list_list_0 l its.toArray n b its2.toArray n2 hlong (by rw[size_toArray];omega) (by omega)) ⟨e,e2,?_⟩
 refine⟨.non,_,I.lset (its':=its++its2) hH e (by simp) (r.append r2) ?_,rfl,q⟩;rw[length_append];omega
def Rp:R2:=λx y H Q=>∃l b xs zs,x=.ref l/\y=.ref b/\H l=some (.lst xs)/\H b=some (.lst zs)/\xs.length+zs.length<=sizeLine/\∀p,H p=none->Q (.ref p) (upd H p (.lst (xs++zs)))
def Y6:OpR X (binaryOp .Add) Rp:=by
 intro pins s σ H x y v u Q I rx ry h;obtain⟨l,b,xs,zs,rfl,rfl,hH,hB,hz,q⟩:=h;cases rx;cases ry;obtain⟨z,its,n,r,hl,e⟩:=I.lstM hH;obtain⟨z2,its2,n2,r2,hl2,e2⟩:=I.lstM hB;refine PySem.P.add_list e e2 ?_ (by rw[size_toArray,size_toArray];omega);have ea:its.toArray++its2.toArray=(its++its2).toArray:=by simp
 rw[ea];exact⟨.ref _,_,I.lnew (t':=s.toks) (r.append r2) (by rw[length_append];omega),rfl,q _ I.fresh⟩
def VX{α:Type}(xs:List α)(k:Nat):(List.replicate k xs).flatten.length=k*xs.length:=by
 induction k with
 |zero=>simp
 |succ k ih=>rw[replicate_succ,flatten_cons,length_append,ih,Nat.succ_mul,Nat.add_comm]
end
end L2
namespace Att
open PySem PySem.W PySem.Calls PyProof.Rows
def J0{P:Params}{h:Heap}:∀(ns:List Int) (vs:List Value),WellAll P h vs (ns.map WData.int)->IntsAre vs ns:=by
 intro ns
 induction ns with
 |nil=>
  intro vs w;rw[map_nil]at w;cases w;exact .nil
 |cons n ns ih=>
  intro vs w;rw[map_cons]at w;cases w with
  |cons a b=>
   cases a;exact .cons _ _ (ih _ b)
def P8{l:OpenLaw}{n:Nat}(hn:l.most=some n){P:Params}{h:Heap}{args:List WData}{vals:List Value}
 (hpre:l.row.toRowW.claim.pre args=true) (hwl:WellAll P h vals args):
 ∃a vs ns,vals=[Value.ref a]/\args=[WData.list (ns.map WData.int)]/\h.get? a=some { cls:=.type "list",data:=.seq vs.toArray }/\IntsAre vs ns/\ns.length<=n:=by
 have hsh:WShape.hasAll [] args [.list .int]=true:=(pre_splitW hpre).1;have hc:l.pre.holds [] { args:=args }=true:=(pre_splitW hpre).2;obtain⟨d,r,rfl,h1,h2⟩:=hasAllW_cons hsh;obtain rfl:=hasAllW_nil h2;obtain⟨xs,rfl,h3⟩:=hasW_list h1;obtain⟨ns,rfl⟩:=items_int h3;have hlen:ns.length<=n:=by
  unfold OpenLaw.pre at hc;have h4:(WTm.not (.lt (.lit (.int (n:Int))) (.len (.arg 0)))).holds [] { args:=[.list (ns.map .int)] }=true:=by
   have h4:=(holds_andW hc).1;rw[hn]at h4;exact h4
  have h5:=condW_of h4 (w_not (w_lt w_lit (w_len_list (w_arg rfl))));rw[length_map]at h5;refine Nat.le_of_not_lt λq=>?_;have q':(n:Int)<((ns.length:Nat):Int):=by omega
  first
   |(rw[decide_eq_true q']at h5;exact absurd h5 (by decide))
   |(simp at h5;omega)
 cases hwl with
 |cons w1 w2=>
  cases w2;cases w1 with
  |list ho hall=>exact⟨_,_,ns,rfl,rfl,ho,J0 ns _ hall,hlen⟩
def Pj(l:OpenLaw)(args:List WData):l.row.toRowW.claim.post args (.bool true) args=true:=
 postW_of (r:=l.row.toRowW) (X:=(true==true))
  (show WShape.has [] (.bool true) .bool=true by first|rfl|decide|simp[WShape.has,WShape.arms,WShape.armsAll])
  (show(WTm.eq .res (.lit (.bool true))).value [] { args:=args,res:=some (.bool true),after:=args }=some (.bool (true==true))from w_eq_bool (w_res rfl) w_lit) rfl
def attach_call{l:OpenLaw}{n:Nat}{q:Program}{loose:List Str}{XP:(Str->Option Value)->Heap->Prop}{YP:World->Heap->Prop}{d:DefRec}
 (hn:l.most=some n) (hdf:d.params.defaults=[])
 (call:∀(w:World) (s₀ s₁:Shared) (mg mb:Str->Option Value) (fa:Addr) (o:Obj) (pm cd doc:Value) (a:Addr) (vs:List Value) (ns:List Int),
  Ground q loose [] XP w s₀ mg mb s₁.heap->YP w s₁.heap ->
  s₁.heap.get? fa=some o->o.data=.func (docDef d.name d.params d.body d.scope pm cd doc)->s₁.heap.CodeRec cd d.name->mg d.name=some (.ref fa) ->
  s₁.heap.get? a=some { cls:=.type "list",data:=.seq vs.toArray }->IntsAre vs ns->ns.length<=n->s₁.gens=#[] ->
  codeAny (model l.prog w) callerA (.call (.ref fa) ⟨[.ref a],[]⟩) (λr s'=>r=.ok (.ret (.bool true))/\OldK s₁.heap s'.heap/\s'.os=s₁.os/\AllBare s'.gens) s₁):
 WalkO q loose XP YP l.row.toRowW d [] (λf vs=>PySem.call f vs):=by
 intro w s₀ s₁ mg mb G Y fa o pm cd doc dV kV ho hd hcd hD hmg hg args vals as hpre hlay hrd hwl hlo;obtain rfl:dV=.none:=Dflts.none hD hdf;obtain rfl:kV=.none:=Dflts.noKw hD;obtain⟨a,vs,ns,rfl,rfl,hobj,hints,hlen⟩:=P8 hn hpre hwl;refine enter_call (codeAny_mono (call w s₀ s₁ mg mb fa o pm cd doc a vs ns G Y ho (fd_plain hd) hcd hmg hobj hints hlen hg) λr s' hq=>?_);obtain⟨rfl,h2,h3,h4⟩:=hq;exact⟨.inl ⟨.bool true,.bool true,[],rfl,λ_=>rfl,.bool true,Pj l _,λ_=>⟨List.Pairwise.nil,λ_ hm=>(nomatch hm)⟩⟩,h2,h3,h4⟩
end Att
namespace L2
open PySem PySem.Spec PyProof.Rows
theorem Jn:∀{vs:List Value} {ns:List Int},IntsAre vs ns->Vals (ns.map V.int) vs
 |_,_,.nil=>.nil
 |_,_,.cons n t h=>.cons ⟨t,rfl⟩ (Jn h)
def CO(s:Stmt):Arguments:=match s with
 |.FunctionDef _ a _ _ _ _ _ _ _ _=>a
 |_=>{ posonlyargs:=[],args:=[],vararg:=none,kwonlyargs:=[],kw_defaults:=[],kwarg:=none,defaults:=[] }
def BM(s:Stmt):List Stmt:=match s with
 |.FunctionDef _ _ b _ _ _ _ _ _ _=>b
 |_=>[]
def A9(s:Stmt):Scope:=match s with
 |.FunctionDef _ _ _ _ _ _ sc _ _ _=>sc
 |_=>{ kind:=.function,names:=[],isGenerator:=false,isCoroutine:=false }
abbrev CX0:CXT:=λ_ _ _ _ _ _=>False
abbrev E0:XK:=λ_ _ _=>False
def ZN{X:Cx}:Mf CX0 X E0:=λ_ _ _ _ _ _ _ h=>h.elim
structure Fun(K:PySem.W.Frag)(x qual:Str)(st:Stmt)(f:Addr)(fd:FuncData):Prop where
 ex:∃(oc:Value) (od:Option Addr) (kV doc pm:Value) (an:Option Addr) (cdv ct:Value) (osl:Array (Option Value)),
  fd=PySem.W.fnOf x qual (CO st) (BM st) (A9 st) .none kV doc pm an cdv ct/\K.lookup f=some ⟨oc,od,.func fd,osl⟩/\PySem.W.codeIn K cdv qual=true
 kp:PySem.W.keepIn K (.ref f)=true
section
variable{P:Program}{w:World}{K:PySem.W.Frag}{mg:Str->Option Value}{base:Heap}
def Fun.ok{x qual:Str}{st:Stmt}{f:Addr}{fd:FuncData}{N ps:List Str}{k:Nat}{sp:Sp}(F:Fun K x qual st f fd)(S:FnScope N ps (A9 st))(len:∀vs H Q E,sp vs H Q E->vs.length=ps.length)
 (hbody:∀(cdv:Value) (A:Around) (outer:List Env) (s:Shared) (H:Hp) (vs:List V) (Q:VK) (E:XK),Room k (A.deeper (envOfC qual (A9 st) s.heap.objs.size f cdv))->sp vs H Q E ->
  ∃t,PSs (FN CX0 P w K mg base N qual (A9 st) f cdv A outer s H E).nox (BM st) t/\t { nx:=λ_ H'=>Q .non H',rt:=Q } (start N vs) H):FnOk P w K mg base CX0 (k+1) f fd ps sp:=by
 obtain⟨oc,od,kV,doc,pm,an,cdv,ct,osl,rfl,lk,hcd⟩:=F.ex;refine Tf lk hcd S len λA outer s H vs Q E hr hsp=>?_;obtain⟨t,h,q⟩:=hbody cdv A outer s H vs Q E hr hsp;exact⟨t,h.nox,q⟩
def Fun.binds{x qual:Str}{st:Stmt}{f:Addr}{fd:FuncData}{ps:List Str}(F:Fun K x qual st f fd)
 (h:∀(kV doc pm:Value) (an:Option Addr) (cdv ct:Value) (us:List Value),us.length=ps.length->bindArgs (PySem.W.fnOf x qual (CO st) (BM st) (A9 st) .none kV doc pm an cdv ct) ⟨us,[]⟩=pure (ps.zip us)):Binds K fd ps []:=by
 obtain⟨oc,od,kV,doc,pm,an,cdv,ct,osl,rfl,lk,hcd⟩:=F.ex;exact .all (h kV doc pm an cdv ct)
def YR{x qual:Str}{st:Stmt}{f:Addr}{oc:Value}{od an:Option Addr}{osl:Array (Option Value)}{kV doc pm cdv ct:Value}(l:K.lookup f=some ⟨oc,od,.func (PySem.W.fnOf x qual (CO st) (BM st) (A9 st) .none kV doc pm an cdv ct),osl⟩)
 (c:PySem.W.codeIn K cdv qual=true) (k:PySem.W.keepIn K (.ref f)=true):Fun K x qual st f (PySem.W.fnOf x qual (CO st) (BM st) (A9 st) .none kV doc pm an cdv ct):=⟨⟨oc,od,kV,doc,pm,an,cdv,ct,osl,rfl,l,c⟩,k⟩
end
def Te{A:Around}{k:Nat}(hr:Room k A):A.units+1<cLine:=Nat.lt_of_le_of_lt (Nat.add_le_add_left (by decide:1<=64) _) hr.units
def Jp{n:Nat}(h:n<=1000):n<sizeLine:=Nat.lt_of_le_of_lt h (by decide)
section
variable{κ:Type}[DecidableEq κ]
def DW(kvs:List (κ×V))(k:κ):Option V:=(kvs.find? λkv=>decide (kv.1=k)).map (·.2)
def C8(kvs:List (κ×V))(k:κ)(v:V):List (κ×V):=
 if(kvs.any λkv=>decide (kv.1=k))=true then kvs.map (λkv=>if kv.1=k then(kv.1,v)else kv)else kvs++[(k,v)]
def EZ{p:κ×V}{r:List (κ×V)}{k:κ}(e:p.1=k):DW (p::r) k=some p.2:=by simp[DW,find?_cons,e]
def Eb{p:κ×V}{r:List (κ×V)}{k:κ}(e:¬ p.1=k):DW (p::r) k=DW r k:=by simp[DW,find?_cons,e]
theorem Kt(k:κ):∀kvs:List (κ×V),(kvs.any λkv=>decide (kv.1=k))=(DW kvs k).isSome
 |[]=>rfl
 |p::r=>by
  rw[any_cons];by_cases e:p.1=k
  .simp only[EZ e,decide_eq_true e,Bool.true_or,Option.isSome_some]
  .rw[Eb e,decide_eq_false e,Bool.false_or];exact Kt k r
def FH(kvs:List (κ×V))(k:κ)(v:V):(C8 kvs k v).length<=kvs.length+1:=by
 unfold C8;split
 .rw[length_map];omega
 .rw[length_append,length_cons,length_nil];omega
def RelO.isSome_eq{o:Option V}{u:Option Value}(r:RelO o u):o.isSome=u.isSome:=by
 cases o with
 |none=>cases u with
  |none=>rfl
  |some _=>exact(show False from r).elim
 |some _=>cases u with
  |none=>exact(show False from r).elim
  |some _=>rfl
def KV.val{kvs:List (κ×V)}{vs:List (κ×Value)}(r:KV kvs vs)(k:κ):RelO (DW kvs k) (valueAt vs k):=by
 unfold KV at r
 induction r with
 |nil=>exact True.intro
 |@cons p q ps qs h t ih=>
  obtain⟨h1,h2⟩:=h;by_cases e:p.1=k
  .have e':q.1=k:=h1.symm.trans e;have b:valueAt (q::qs) k=some q.2:=by simp[valueAt,find?_cons,e']
   rw[EZ e,b];exact h2
  .have e':¬ q.1=k:=λz=>e (h1.trans z);have b:valueAt (q::qs) k=valueAt qs k:=by simp[valueAt,find?_cons,e']
   rw[Eb e,b];exact ih
theorem KV.any{kvs:List (κ×V)}{vs:List (κ×Value)}(r:KV kvs vs)(k:κ):(kvs.any λkv=>decide (kv.1=k))=vs.any λkv=>decide (kv.1=k):=by
 unfold KV at r
 induction r with
 |nil=>rfl
 |cons h t ih=>rw[any_cons,any_cons,ih,h.1]
def KV.repl{kvs:List (κ×V)}{vs:List (κ×Value)}(r:KV kvs vs)(k:κ){y:V}{u:Value}(ry:RelV y u):
 KV (kvs.map λkv=>if kv.1=k then(kv.1,y)else kv) (vs.map λkv=>if kv.1=k then(kv.1,u)else kv):=by
 unfold KV at r ⊢
 induction r with
 |nil=>exact .nil
 |@cons p q ps qs h t ih=>
  rw[map_cons,map_cons];refine .cons ?_ ih;obtain⟨h1,h2⟩:=h;by_cases e:p.1=k
  .rw[if_pos e,if_pos (h1.symm.trans e)];exact⟨h1,ry⟩
  .rw[if_neg e,if_neg (λz=>e (h1.trans z))];exact⟨h1,h2⟩
def KV.put{kvs:List (κ×V)}{vs:List (κ×Value)}(r:KV kvs vs)(k:κ){y:V}{u:Value}(ry:RelV y u):KV (C8 kvs k y) (stored vs k u):=by
 unfold C8 stored;rw[r.any k];by_cases e:(vs.any λkv=>decide (kv.1=k))=true
 .rw[if_pos e,if_pos e];exact r.repl k ry
 .rw[if_neg e,if_neg e];exact Paired.snoc r ⟨rfl,ry⟩
theorem KV.length{kvs:List (κ×V)}{vs:List (κ×Value)}(r:KV kvs vs):kvs.length=vs.length:=Paired.length r
end
def Km{P:Program}{w:World}{k:Key}{u:Value}(r:RelV (kV k) u):(BF P w).is k u=true:=by
 cases k with
 |inl i=>obtain⟨t,e⟩:=(show ∃t,u=Value.int i t from r);subst e;exact Mn P w i t
 |inr x=>obtain⟨t,e⟩:=(show ∃t,u=Value.str x t from r);subst e;exact Mm P w x t
theorem K4{P:Program}{w:World}:∀{ks:List Key} {us:List Value},Vals (ks.map kV) us->ItemsAre (BF P w) ks us
 |[],_,r=>by rw[map_nil]at r;cases r;exact .nil
 |k::ks,_,r=>by
  rw[map_cons]at r;cases r with
  |cons h t=>exact .cons (Km h) (K4 t)
abbrev KT(H:Hp):List (List Key×V)->List (List Key×Addr×Value)->Prop:=Paired λp q=>p.1=q.1/\H q.2.1=some (.tup (p.1.map kV))/\RelV p.2 q.2.2
def KT.val{H:Hp}{kvs:List (List Key×V)}{xs:List (List Key×Addr×Value)}(r:KT H kvs xs)(k:List Key):RelO (DW kvs k) ((atKey xs k).map (·.2)):=by
 induction r with
 |nil=>exact True.intro
 |@cons p q ps qs h t ih=>
  obtain⟨h1,_,h2⟩:=h;by_cases e:p.1=k
  .have e':q.1=k:=h1.symm.trans e;have b:atKey (q::qs) k=some q.2:=by simp[atKey,find?_cons,e']
   rw[EZ e,b];exact h2
  .have e':¬ q.1=k:=λz=>e (h1.trans z);have b:atKey (q::qs) k=atKey qs k:=by simp[atKey,find?_cons,e']
   rw[Eb e,b];exact ih
def KT.repl{H:Hp}{kvs:List (List Key×V)}{xs:List (List Key×Addr×Value)}(r:KT H kvs xs)(k:List Key){y:V}{u:Value}(ry:RelV y u):
 KT H (kvs.map λkv=>if kv.1=k then(kv.1,y)else kv) (xs.map (putAt k u)):=by
 induction r with
 |nil=>exact .nil
 |@cons p q ps qs h t ih=>
  rw[map_cons,map_cons];refine .cons ?_ ih;obtain⟨h1,h2,h3⟩:=h;unfold putAt;by_cases e:p.1=k
  .rw[if_pos e,if_pos (h1.symm.trans e)];exact⟨h1,h2,ry⟩
  .rw[if_neg e,if_neg (λz=>e (h1.trans z))];exact⟨h1,h2,h3⟩
def KT.put{H:Hp}{kvs:List (List Key×V)}{xs:List (List Key×Addr×Value)}(r:KT H kvs xs)(k:List Key){b:Addr}{y:V}{u:Value}(hb:H b=some (.tup (k.map kV)))(ry:RelV y u):
 KT H (C8 kvs k y) (storedH xs k b u):=by
 have e:(kvs.any λkv=>decide (kv.1=k))=(atKey xs k).isSome:=by
  rw[Kt,(r.val k).isSome_eq,Option.isSome_map]
 unfold C8 storedH;rw[e];by_cases q:(atKey xs k).isSome=true
 .rw[if_pos q,if_pos q];exact r.repl k ry
 .rw[if_neg q,if_neg q];exact Paired.snoc r ⟨rfl,hb,ry⟩
def KT.keeps{H H':Hp}{kvs:List (List Key×V)}{xs:List (List Key×Addr×Value)}(r:KT H kvs xs)(ht:∀b ys,H b=some (.tup ys)->H' b=some (.tup ys)):KT H' kvs xs:=
 Paired.mapP r λ_ _ z=>⟨z.1,ht _ _ z.2.1,z.2.2⟩
section
variable{P:Program}{w:World}{H:Hp}{h:Heap}{a:Addr}
def TH{u:HO}(ok:HOk P w H h)(e:Rd H a u):ObjOk P w H h a u:=e.ok ok
def Op{kvs:List (Key×V)}(ok:HOk P w H h)(e:Rd H a (.dK kvs)):kvs.length<=sizeLine/\(a==sysModules)=false/\∃vs,KV kvs vs/\h.DictOf (BF P w) a vs:=
 show ObjOk P w H h a (.dK kvs)from TH ok e
def Tg{kvs:List (Key×V)}(ok:HOk P w H h)(e:H a=some (.dK kvs)):kvs.length<=sizeLine/\(a==sysModules)=false/\∃vs,KV kvs vs/\h.DictOf (BF P w) a vs:=Op ok (.inl e)
def M1{ks:List Key}(ok:HOk P w H h)(e:H a=some (.tup (ks.map kV))):(tupleKind (BF P w)).is h ks a:=by
 obtain⟨_,its,r,o,h1,h2,⟨n,h3⟩,_⟩:=(show ObjOk P w H h a (.tup (ks.map kV))from ok a _ e)
 exact⟨o,its.toArray,n,h1,h2,h3,by simpa using K4 r⟩
def Oo{kvs:List (List Key×V)}(ok:HOk P w H h)(e:Rd H a (.dT kvs)):kvs.length<=sizeLine/\(a==sysModules)=false /\
 ∃xs,KT H kvs xs/\h.DictOfH (tupleKind (BF P w)) a xs:=by
 obtain⟨z,y,xs,r,o,es,ep,h1,h2,h3,h4,h5⟩:=(show ObjOk P w H h a (.dT kvs)from TH ok e)
 refine⟨z,y,xs,r,o,es,ep,h1,h2,h3,h4,λx hx=>?_,h5⟩;have all:∀{l:List (List Key×V)} {m:List (List Key×Addr×Value)},KT H l m->∀x∈m,(tupleKind (BF P w)).is h x.1 x.2.1:=by
  intro l m q
  induction q with
  |nil=>intro x hx;exact nomatch hx
  |@cons p q ps qs hq t ih=>
   intro x hx;rcases mem_cons.mp hx with e|hx
   .subst e;exact M1 ok (by rw[<- hq.1];exact hq.2.1)
   .exact ih x hx
 exact all r x hx
def Zo{kvs:List (List Key×V)}(ok:HOk P w H h)(e:H a=some (.dT kvs)):kvs.length<=sizeLine/\(a==sysModules)=false /\
 ∃xs,KT H kvs xs/\h.DictOfH (tupleKind (BF P w)) a xs:=Oo ok (.inl e)
end
def DGet(H:Hp)(a:Addr)(y:V)(r:Option V):Prop:=
 (∃kvs k,Rd H a (.dK kvs)/\y=kV k/\r=DW kvs k)∨∃kvs k b,Rd H a (.dT kvs)/\y=.ref b/\H b=some (.tup (k.map kV))/\r=DW kvs k
def DPut(H:Hp)(a:Addr)(y v:V)(H':Hp):Prop:=
 (∃kvs k,H a=some (.dK kvs)/\y=kV k/\kvs.length<sizeLine/\H'=upd H a (.dK (C8 kvs k v))) ∨
 ∃kvs k b,H a=some (.dT kvs)/\y=.ref b/\H b=some (.tup (k.map kV))/\kvs.length<sizeLine/\H'=upd H a (.dT (C8 kvs k v))
theorem DGet.k{H:Hp}{a:Addr}{kvs:List (Key×V)}{k:Key}(e:H a=some (.dK kvs)):DGet H a (kV k) (DW kvs k):=.inl ⟨kvs,k,.inl e,rfl,rfl⟩
theorem DPut.k{H:Hp}{a:Addr}{kvs:List (Key×V)}{k:Key}{v:V}(e:H a=some (.dK kvs))(hl:kvs.length<sizeLine):DPut H a (kV k) v (upd H a (.dK (C8 kvs k v))):=.inl ⟨kvs,k,e,rfl,hl,rfl⟩
section
variable{X:Cx}{pins:List (Addr×Obj)}{σ:St}{H:Hp}{s:Shared}{a:Addr}{y v:V}{u r:Value}{o:Option V}{A:Around}{E:Value->Shared->Prop}
def Inv.big(I:Inv X pins σ H s):sysModules<s.heap.objs.size:=by
 have h:mainGlobals<s.heap.objs.size:=(I.mod.glob.keeps I.bk).lt;exact lt_trans (by decide) h
def QX{Q:Value->Shared->Prop}(hu:A.units+1<cLine)(I:Inv X pins σ H s)(g:DGet H a y (some v))(ry:RelV y u)(h:∀w' s',Inv X pins σ H s'->RelV v w'->Q w' s'):
 wpAny (model X.prog X.w) A (getItem (.ref a) u) Q E s:=by
 rcases g with⟨kvs,k,e,ey,l⟩|⟨kvs,k,b,e,ey,eb,l⟩
 .subst ey;obtain⟨z,hd,vs,rel,dd⟩:=Op I.hok e;obtain⟨w',hw,rw'⟩:=RelO.some_of (v:=v) (o:=valueAt vs k) (by rw[l];exact rel.val k);exact wpAny_getItem_of (Km ry) dd.mapOf hw (h w' _ (I.tok _) rw')
 .subst ey;cases(show u=Value.ref b from ry);obtain⟨z,hd,xs,rel,dd⟩:=Oo I.hok e;obtain⟨w',hw,rw'⟩:=RelO.some_of (v:=v) (o:=(atKey xs k).map (·.2)) (by rw[l];exact rel.val k);obtain⟨p,hp,hp2⟩:=c7 hw;refine wpAny_getItem_heap (tupleKind_room_in1 hu) (M1 I.hok eb) dd hp ?_;rw[hp2];exact h w' _ (I.tok _) rw'
def Ji{h':Heap}{t':Nat}{ob:HO}(I:Inv X pins σ H s)(mu:Mut (H a))(hs:Heap.SameBut a s.heap h')(he:∃q,h'.get? a=some q)(new:ObjOk X.prog X.w (upd H a ob) h' a ob):
 Inv X pins σ (upd H a ob) { s with heap:=h',toks:=t' }:=
 I.write (x:=a) (e:=a) mu (.inl rfl) (λb q hb z=>(hs.2 b hb).trans z) he new
def QQ{P:Program}{w:World}{H':Hp}{h':Heap}{kvs:List (Key×V)}{vs:List (Key×Value)}(z:kvs.length<=sizeLine)(hd:(a==sysModules)=false)(rel:KV kvs vs)(dd:h'.DictOf (BF P w) a vs):
 ObjOk P w H' h' a (.dK kvs):=⟨z,hd,vs,rel,dd⟩
def QV{H':Hp}{Q:Unit->Shared->Prop}(hu:A.units+1<cLine)(I:Inv X pins σ H s)(g:DPut H a y v H')(ry:RelV y u)(rv:RelV v r)(h:∀s',Inv X pins σ H' s'->Q () s'):
 wpAny (model X.prog X.w) A (setItem (.ref a) u r) Q E s:=by
 rcases g with⟨kvs,k,e,ey,l,eH⟩|⟨kvs,k,b,e,ey,eb,l,eH⟩
 .subst ey eH;obtain⟨z,hd,vs,rel,dd⟩:=Tg I.hok e;have hz:vs.length<=sizeLine:=by rw[<- rel.length];exact z
  have hl:(C8 kvs k v).length<=sizeLine:=by have:=FH kvs k v;omega
  refine wpAny_setItem_pairs (hsz:=hz) (Km ry) dd λh' dd' hs=>h _ ?_;have he:∃q,h'.get? a=some q:=let ⟨q,_,_,hq,_⟩:=dd';⟨q,hq⟩
  exact Ji I (by rw[e];exact True.intro) hs he (QQ hl hd (rel.put k rv) dd')
 .subst ey eH;cases(show u=Value.ref b from ry);obtain⟨z,hd,xs,rel,dd⟩:=Zo I.hok e;have hz:xs.length<=sizeLine:=by rw[<- Paired.length rel];exact z
  have hl:(C8 kvs k v).length<=sizeLine:=by have:=FH kvs k v;omega
  refine wpAny_setItem_heap (hsz:=hz) (tupleKind_room_in1 hu) (M1 I.hok eb) dd λh' dd' hs=>h _ ?_;obtain⟨q,es,ep,hq,h2,h3,h4,_,h5⟩:=dd';refine Ji I (by rw[e];exact True.intro) hs ⟨q,hq⟩ ⟨hl,hd,_,(rel.put k eb rv).keeps λc ys ec=>?_,q,es,ep,hq,h2,h3,h4,h5⟩;rw[AC (ZT ec e (λz=>nomatch z))];exact ec
end
def T2(i:Expr):Prop:=∀ov iv,subscripted i false ov iv=operate [ov,iv] (getItem ov iv)
def Tu{prog:Program}{w:World}{A:Around}{E:Value->Shared->Prop}{s:Shared}{env:Env}{value slice:Expr}{pos:Pos}{T id:String}{Q:Value->Shared->Prop}
 (hl:typeLookup (.type T) "__getitem__"=pure (some (.builtin id))) (hs:T2 slice)
 (h:wpAny (model prog w) A (eval value env) (λo s₁=>wpAny (model prog w) A (eval slice env) (λi s₂=>s₂.TypeIs o T/\wpAny (model prog w) A (getItem o i) Q E s₂) E s₁) E s):
 wpAny (model prog w) A (eval (.Subscript value slice pos) env) Q E s:=by
 refine Subscript_ (wpAny_mono h (λo s₁ h₁=>wpAny_mono h₁ (λi s₂ h₂=>?_) λ_ _ x=>x) λ_ _ x=>x);obtain⟨hT,h₂⟩:=h₂;unfold subscriptTail;refine wpAny_bind ?_;rw[getitemInPython_of_ne hT.not_modules];refine wpAny_bind (wpAny_specialOf hT hl ?_);have fin:wpAny (model prog w) A (subscripted slice false o i) (λr s₃=>wpAny (model prog w) A (letTemporaryGo value o r >>= λ_=>pure r) Q E s₃) E s₂:=by
  rw[hs o i];exact wpAny_operating (wpAny_mono h₂ (λr s₃ h₃=>wpAny_bind (wpAny_letTemporaryGo (wpAny_pure h₃))) λ_ _ x=>x)
 first
  |exact wpAny_pure (wpAny_bind fin)
  |exact wpAny_bind (wpAny_pure (wpAny_bind fin))
  |exact wpAny_bind fin
def Mx{X:Cx}{pins:List (Addr×Obj)}{σ:St}{H:Hp}{s:Shared}{a:Addr}{y:V}{o:Option V}(I:Inv X pins σ H s)(g:DGet H a y o):s.TypeIs (.ref a) "dict":=by
 rcases g with⟨kvs,k,e,_,_⟩|⟨kvs,k,b,e,_,_,_⟩
 .obtain⟨_,_,vs,_,dd⟩:=Op I.hok e;exact dd.typeIs
 .obtain⟨_,_,xs,_,dd⟩:=Oo I.hok e;exact dd.typeIs
def Nz(td ty:TE):TE:=λσ H Q=>td σ H λx H1=>ty σ H1 λy H2=>∃a v,x=.ref a/\DGet H2 a y (some v)/\Q v H2
def OC(td ty tv:TE):TS:=λD σ H=>tv σ H λv H1=>td σ H1 λx H2=>ty σ H2 λy H3=>∃a H4,x=.ref a/\DPut H3 a y v H4/\D.nx σ H4
section
variable{X:Cx}{o i e value:Expr}{pos pos' tpos:Pos}{td ty tv:TE}
def VE(hu:X.A.units+1<cLine)(ho:PE X o td)(hi:PE X i ty)(hs:T2 i):PE X (.Subscript o i pos) (Nz td ty):=by
 intro pins s σ H Q I h;refine Tu PySem.F.slot_dict_getitem.lookup hs (thn (ho pins s σ H _ I h) λu s1 ⟨x,H1,I1,rx,q1⟩=>thn (hi pins s1 σ H1 _ I1 q1) λiv s2 ⟨y,H2,I2,ry,a,v,ex,g,q2⟩=>?_);subst ex;obtain rfl:u=Value.ref a:=rx;exact⟨Mx I2 g,QX hu I2 g ry λw' s3 I3 rw'=>⟨v,H2,I3,rw',q2⟩⟩
def Uy(hu:X.A.units+1<cLine)(ho:PE X o td)(hi:PE X i ty)(hv:PE X value tv)(hs:swapsWith value (some (.Subscript o i pos')) pos.line X.env=pure false):
 PS X (.Assign [.Subscript o i pos'] value pos) (OC td ty tv):=by
 intro pins s σ H D I h;refine wpAny_Assign_Subscript (thn (hv pins s σ H _ I h) λr s1 ⟨v,H1,I1,rv,q1⟩=>thn (ho pins s1 σ H1 _ I1 q1) λu s2 ⟨x,H2,I2,rx,q2⟩=>thn (hi pins s2 σ H2 _ I2 q2) λiv s3 ⟨y,H3,I3,ry,a,H4,ex,g,q3⟩=>?_) hs;subst ex;obtain rfl:u=Value.ref a:=rx;exact QV hu I3 g ry rv λs4 I4=>⟨σ,H4,I4,q3⟩
end
def So{P:Program}{w:World}{H:Hp}(h:Heap)(hb:sysModules<h.objs.size):ObjOk P w H (h.push { cls:=.type "dict",data:=.dict #[] }) h.objs.size (.dK []):=
 ⟨zero_le _,beq_eq_false_iff_ne.mpr (Ne.symm (ne_of_lt hb)),[],.nil,Heap.DictOf.new h⟩
def GW:List (TE×TE)->St->Hp->(List (V×V)->Hp->Prop)->Prop
 |[],_,H,Q=>Q [] H
 |(tk,tv)::r,σ,H,Q=>tk σ H λx H1=>tv σ H1 λy H2=>GW r σ H2 λps H3=>Q ((x,y)::ps) H3
abbrev VV:List (V×V)->List (Value×Value)->Prop:=Paired λp q=>RelV p.1 q.1/\RelV p.2 q.2
def PPs(X:Cx)(pos:Pos)(keys:List (Option Expr))(values:List Expr)(trs:List (TE×TE)):Prop:=
 ∀(pins:List (Addr×Obj)) (s:Shared) (σ:St) (H:Hp) (Q:List (V×V)->Hp->Prop),Inv X pins σ H s->GW trs σ H Q ->
   wpAny (model X.prog X.w) X.A (evalPairs (pairTrees keys values X.env pos)) (λvs s'=>∃ps H',Inv X pins σ H' s'/\VV ps vs/\Q ps H') X.xe s
def V0{X:Cx}{pos:Pos}:PPs X pos [] [] []:=λpins s σ H Q I h=>pairTrees_nil_walk ⟨[],H,I,.nil,h⟩
def SE{X:Cx}{pos:Pos}{k v:Expr}{ks:List (Option Expr)}{vs:List Expr}{tk tv:TE}{trs:List (TE×TE)}(hk:PE X k tk)(hv:PE X v tv)(hr:PPs X pos ks vs trs):
 PPs X pos (some k::ks) (v::vs) ((tk,tv)::trs):=λpins s σ H Q I h=>
 pairTrees_cons_walk (thn (hk pins s σ H _ I h) λu s1 ⟨x,H1,I1,rx,q1⟩=>thn (hv pins s1 σ H1 _ I1 q1) λw2 s2 ⟨y,H2,I2,ry,q2⟩=>
  thn (hr pins s2 σ H2 _ I2 q2) λws s3 ⟨ps,H3,I3,rel,q3⟩=>⟨(x,y)::ps,H3,I3,.cons ⟨rx,ry⟩ rel,q3⟩)
def Dz(kvs more:List (Key×V)):List (Key×V):=more.foldl (λacc kv=>C8 acc kv.1 kv.2) kvs
def KV.merge:∀{more:List (Key×V)} {rs:List (Key×Value)} {kvs:List (Key×V)} {vs:List (Key×Value)},KV more rs->KV kvs vs->KV (Dz kvs more) (merged vs rs):=by
 intro more rs kvs vs r;unfold KV at r
 induction r generalizing kvs vs with
 |nil=>intro q;exact q
 |@cons p q ps qs h t ih=>
  intro r0;have e:KV (C8 kvs p.1 p.2) (stored vs q.1 q.2):=by
   have:=r0.put p.1 h.2;rw[<- h.1];exact this
  exact ih e
theorem GR:∀(more kvs:List (Key×V)),(Dz kvs more).length<=kvs.length+more.length
 |[],kvs=>by show kvs.length<=kvs.length+0;omega
 |p::r,kvs=>by
  have h1:=GR r (C8 kvs p.1 p.2);have h2:=FH kvs p.1 p.2;show(Dz (C8 kvs p.1 p.2) r).length<=_;rw[length_cons];omega
theorem JA{P:Program}{w:World}:∀{kvs:List (Key×V)} {ws:List (Value×Value)},VV (kvs.map λkv=>(kV kv.1,kv.2)) ws->∃rs,Carries (BF P w) ws rs/\KV kvs rs
 |[],_,r=>by rw[map_nil]at r;cases r;exact⟨[],True.intro,.nil⟩
 |p::kvs,_,r=>by
  rw[map_cons]at r;cases r with
  |@cons a b as bs h t=>
   obtain⟨rs,c,q⟩:=JA (P:=P) (w:=w) t;obtain⟨b1,b2⟩:=b;exact⟨(p.1,b2)::rs,⟨Km h.1,rfl,c⟩,.cons ⟨rfl,h.2⟩ q⟩
def Ny(trs:List (TE×TE)):TE:=λσ H Q=>∀p,H p=none->GW trs σ (upd H p (.dK [])) λps H2=>H2 p=some (.dK [])/\∃kvs:List (Key×V),ps=kvs.map (λkv=>(kV kv.1,kv.2))/\kvs.length<=15/\Q (.ref p) (upd H2 p (.dK (Dz [] kvs)))
def VD{X:Cx}{pos:Pos}{keys:List (Option Expr)}{values:List Expr}{trs:List (TE×TE)}(h:PPs X pos keys values trs)(hall:keys.all (·.isSome)=true)(hl:keys.length=values.length)(h0:keys≠[])
 (h15:keys.length<=15):PE X (.Dict keys values pos) (Ny trs):=by
 intro pins s σ H Q I q;have hn:=I.hok.fresh (le_refl s.heap.objs.size);have I1:=I.laid (a:=s.heap.objs.size) (o:=.dK []) (h':=s.heap.push { cls:=.type "dict",data:=.dict #[] }) (t':=s.toks) (λ_ _ q=>Heap.get?_push_of_some _ q) (le_refl _) (So s.heap I.big);refine wpAny_Dict_walk (knd:=BF X.prog X.w) hall hl h0 h15 (thn (h pins _ σ _ _ I1 (q _ hn)) λws s2 ⟨ps,H2,I2,rel,e,kvs,ep,lk,q2⟩=>?_);subst ep;obtain⟨rs,c,rk⟩:=JA (P:=X.prog) (w:=X.w) rel;obtain⟨z,hd,vs0,r0,dd⟩:=Tg I2.hok e;cases r0;refine⟨rs,c,dd,λh' dd' hs=>⟨.ref s.heap.objs.size,_,?_,rfl,q2⟩⟩;have hz:(Dz [] kvs).length<=sizeLine:=by
  have h1:=GR kvs [];rw[length_nil]at h1;rw[sizeLine_eq];omega
 have he:∃q,h'.get? s.heap.objs.size=some q:=let ⟨q,_,_,hq,_⟩:=dd';⟨q,hq⟩
 exact Ji I2 (by rw[e];exact True.intro) hs he (QQ hz hd (rk.merge .nil) dd')
def AX(cells:List (Str×Addr)):List (Str×NameKind)->List (Str×Addr)->List (Str×Addr)
 |[],acc=>acc
 |(n,k)::r,acc=>if k==.free then AX cells r ((n,(cells.lookup n).getD 0)::acc)else AX cells r acc
theorem Fc{env:Env}(f:Str×NameKind->List (Str×Addr)->Sem (ForInStep (List (Str×Addr))))
 (hf:∀name kind cs,f (name,kind) cs=if(kind==NameKind.free)=true then(do let a <- cellOf env name;pure (ForInStep.yield ((name,a)::cs)))else pure (ForInStep.yield cs)):
 ∀(names:List (Str×NameKind)) (acc:List (Str×Addr)),(∀y∈names,y.2=.free->∃c,env.cells.lookup y.1=some c)->forIn names acc f=pure (AX env.cells names acc)
 |[],acc,_=>rfl
 |(n,k)::r,acc,hy=>by
   rw[List.forIn_cons,hf];have ih:=λa=>Fc f hf r a λz hz=>hy z (mem_cons_of_mem _ hz);by_cases hk:(k==NameKind.free)=true
   .obtain⟨c,hc⟩:=hy (n,k) mem_cons_self (by simpa using hk);have hc:env.cells.lookup n=some c:=hc;have e1:cellOf env n=pure c:=by unfold cellOf;rw[hc]
    rw[if_pos hk,e1];show forIn r ((n,c)::acc) f=_;have e2:AX env.cells ((n,k)::r) acc=AX env.cells r ((n,c)::acc):=by
     rw[AX,if_pos hk,hc];rfl
    rw[ih,e2]
   .rw[if_neg hk];show forIn r acc f=_;have e2:AX env.cells ((n,k)::r) acc=AX env.cells r acc:=by
     rw[AX,if_neg hk]
    rw[ih,e2]
def ED{scope:Scope}{env:Env}(h:∀y∈scope.names,y.2=.free->∃c,env.cells.lookup y.1=some c):closureFor scope env=pure (AX env.cells scope.names []):=by
 unfold closureFor;dsimp only;rw[Fc _ (λname kind cs=>rfl) scope.names [] h];rfl
theorem DO{cells:List (Str×Addr)}:∀{names:List (Str×NameKind)} {acc:List (Str×Addr)},(∀y∈names,y.2=.free->∃c,cells.lookup y.1=some c)->(∀x c,acc.lookup x=some c->cells.lookup x=some c) ->
 ∀x c,(AX cells names acc).lookup x=some c->cells.lookup x=some c
 |[],_,_,ha,x,c,e=>ha x c e
 |(n,k)::r,acc,hy,ha,x,c,e=>by
   unfold AX at e;have hr:∀y∈r,y.2=.free->∃c,cells.lookup y.1=some c:=λz hz=>hy z (mem_cons_of_mem _ hz);by_cases hk:(k==NameKind.free)=true
   .rw[if_pos hk]at e;refine DO hr (λz d q=>?_) x c e;obtain⟨c0,hc0⟩:=hy (n,k) mem_cons_self (by simpa using hk);have hc0:cells.lookup n=some c0:=hc0;rw[lookup_cons]at q;by_cases hz:(z==n)=true
    .rw[hz,hc0]at q;have:z=n:=by simpa using hz
     subst this;simpa [hc0]using q
    .have hz':(z==n)=false:=by simpa using hz
     rw[hz']at q;exact ha z d q
   .rw[if_neg hk]at e;exact DO hr ha x c e
theorem Cl{cells:List (Str×Addr)}:∀{names:List (Str×NameKind)} {acc:List (Str×Addr)} {x:Str},((acc.lookup x).isSome=true∨(x,NameKind.free)∈names)->((AX cells names acc).lookup x).isSome=true
 |[],_,_,h=>h.elim id λz=>by cases z
 |(n,k)::r,acc,x,h=>by
   unfold AX;by_cases hk:(k==NameKind.free)=true
   .rw[if_pos hk];refine Cl ?_;by_cases hx:(x==n)=true
    .exact .inl (by rw[lookup_cons,hx];rfl)
    .have hx':(x==n)=false:=by simpa using hx
     rcases h with h|h
     .exact .inl (by rw[lookup_cons,hx'];exact h)
     .rcases mem_cons.mp h with h|h
      .cases h;simp at hx
      .exact .inr h
   .rw[if_neg hk];refine Cl ?_;rcases h with h|h
    .exact .inl h
    .rcases mem_cons.mp h with h|h
     .cases h;simp at hk
     .exact .inr h
def CQ:Nat->List (Str×NameKind)->List (Str×Addr)
 |_,[]=>[]
 |n,(x,k)::r=>if k==.cell then CQ (n+1) r++[(x,n)]else CQ n r
theorem Bx:∀(names:List (Str×NameKind)) (n:Nat) (acc:List (Str×Addr)),cellsFrom n names acc=CQ n names++acc
 |[],_,_=>rfl
 |(x,k)::r,n,acc=>by
   unfold cellsFrom CQ;by_cases hk:(k==NameKind.cell)=true
   .rw[if_pos hk,if_pos hk,Bx r (n+1),append_assoc];rfl
   .rw[if_neg hk,if_neg hk,Bx r n]
theorem IG:∀(names:List (Str×NameKind)) (n:Nat) (x:Str) (c:Addr),(CQ n names).lookup x=some c->(x,NameKind.cell)∈names
 |[],_,_,_,e=>by cases e
 |(y,k)::r,n,x,c,e=>by
   unfold CQ at e;by_cases hk:(k==NameKind.cell)=true
   .rw[if_pos hk]at e;have hk':k=.cell:=by simpa using hk
    rw[lookup_append]at e;cases q:(CQ (n+1) r).lookup x with
    |some d=>exact mem_cons_of_mem _ (IG r _ x d q)
    |none=>
     rw[q]at e;simp only[none_or,lookup_cons]at e;by_cases hx:(x==y)=true
     .have:x=y:=by simpa using hx
      subst this;subst hk';exact mem_cons_self
     .have hx':(x==y)=false:=by simpa using hx
      rw[hx']at e;cases e
   .rw[if_neg hk]at e;exact mem_cons_of_mem _ (IG r n x c e)
theorem IH:∀(names:List (Str×NameKind)) (n:Nat) (x:Str),(x,NameKind.cell)∈names->∃c,(CQ n names).lookup x=some c
 |[],_,_,h=>by cases h
 |(y,k)::r,n,x,h=>by
   unfold CQ;by_cases hk:(k==NameKind.cell)=true
   .rw[if_pos hk,lookup_append];rcases mem_cons.mp h with h|h
    .obtain⟨rfl,rfl⟩:=Prod.mk.inj h;cases q:(CQ (n+1) r).lookup x with
     |some d=>exact⟨d,rfl⟩
     |none=>exact⟨n,by simp[lookup_cons]⟩
    .obtain⟨c,hc⟩:=IH r (n+1) x h;exact⟨c,by rw[hc];rfl⟩
   .rw[if_neg hk];rcases mem_cons.mp h with h|h
    .cases h;simp at hk
    .exact IH r n x h
def Sw(scope:Scope)(C:Addr)(env:Env):Env:=
 { scope:=relabel scope env,locals:=C,globals:=env.globals,cells:=cellsFrom (C+1) scope.names (AX env.cells scope.names []),qual:=env.qual,func:=none,code:=env.code,frame:=env.frame,builtins:=env.builtins }
def NR{M:Model}{A:Around}{E:Value->Shared->Prop}{s:Shared}{scope:Scope}{cl:List (Str×Addr)}{env:Env}{Q:Env->Shared->Prop}
 (hQ:∀h',(∀b o,s.heap.get? b=some o->h'.get? b=some o)->h'.Ns s.heap.objs.size (λ_=>none)->(∀x c,(CQ (s.heap.objs.size+1) scope.names).lookup x=some c->h'.IsCell c none/\s.heap.objs.size<c) ->
  ((CQ (s.heap.objs.size+1) scope.names).Pairwise λx y=>x.2≠y.2) ->
  Q { scope:=scope,locals:=s.heap.objs.size,globals:=env.globals,cells:=cellsFrom (s.heap.objs.size+1) scope.names cl,qual:=env.qual,func:=none,code:=env.code,frame:=env.frame,builtins:=env.builtins } { s with heap:=h' }):
 wpAny M A (newFunctionEnv scope env.globals cl [] env.qual none .none (some env)) Q E s:=by
 simp only[newFunctionEnv,Option.isSome_some,if_true];refine wpAny_bind (wpAny_alloc ?_);refine wpAny_bind (wpAny_layCells _ (λname kind cells=>by cases hkc:kind==NameKind.cell<;>simp[hkc]) _ _ _ _ ?_);have ok:=cellsFrom_ok scope.names (s.heap.push { cls:=.type "dict",data:=.dict #[] }) (s.heap.objs.size+1) [] ⟨λ_ _ hm=>(nomatch hm),List.Pairwise.nil⟩ (by rw[Heap.size_push];exact le_refl _);rw[Heap.size_push,Bx,append_nil]at ok;rw[show({ s with heap:=s.heap.push { cls:=.type "dict",data:=.dict #[] } }:Shared).heap.objs.size=s.heap.objs.size+1 from Heap.size_push ..];refine wpAny_bind (wpAny_pure (wpAny_pure ?_));exact hQ _ (λb o e=>pushCells_keeps _ _ b o (Heap.get?_push_of_some _ e)) ((Heap.Ns.new s.heap (.type "dict")).keeps (pushCells_keeps _ _)) (λx c hc=>⟨(ok.empty x c (mem_of_lookup hc)).1,(ok.empty x c (mem_of_lookup hc)).2⟩) ok.apart
theorem Jx:∀{names:List (Str×NameKind)} {x:Str} {k k':NameKind},(names.map (·.1)).Nodup->(x,k)∈names->(x,k')∈names->k=k'
 |[],_,_,_,_,h,_=>by cases h
 |(y,q)::r,x,k,k',nd,h,h'=>by
   have nd:(y::r.map (·.1)).Nodup:=nd;obtain⟨n1,n2⟩:=nodup_cons.mp nd;have out:∀{z:NameKind},(y,z)∈r->False:=λm=>n1 (mem_map.mpr ⟨_,m,rfl⟩);rcases mem_cons.mp h with e|e<;>rcases mem_cons.mp h' with e'|e'
   .cases e;cases e';rfl
   .cases e;exact(out e').elim
   .cases e';exact(out e).elim
   .exact Jx n2 e e'
theorem GQ{env:Env}{x:Str}:∀{names:List (Str×NameKind)},names.lookup x=some .free ->
 (names.map λ(n,k)=>if(k==NameKind.free&&env.scope.kind==.function&&env.kindOf n==some .cell)then(n,NameKind.cell)else(n,k)).lookup x=some .cell ∨
 (names.map λ(n,k)=>if(k==NameKind.free&&env.scope.kind==.function&&env.kindOf n==some .cell)then(n,NameKind.cell)else(n,k)).lookup x=some .free
 |[],h=>by simp at h
 |(n,k)::r,h=>by
   have ih:=@GQ env x r;show List.lookup x ((if(k==NameKind.free&&env.scope.kind==.function&&env.kindOf n==some .cell)=true then(n,NameKind.cell)else(n,k))::_)=_∨List.lookup x ((if(k==NameKind.free&&env.scope.kind==.function&&env.kindOf n==some .cell)=true then(n,NameKind.cell)else(n,k))::_)=_;cases hx:x==n with
   |true=>
    simp only[lookup_cons,hx]at h;cases h;by_cases hc:(NameKind.free==NameKind.free&&env.scope.kind==.function&&env.kindOf n==some .cell)=true
    .rw[if_pos hc];exact .inl (by simp only[lookup_cons,hx])
    .rw[if_neg hc];exact .inr (by simp only[lookup_cons,hx])
   |false=>
    simp only[lookup_cons,hx]at h;by_cases hc:(k==NameKind.free&&env.scope.kind==.function&&env.kindOf n==some .cell)=true
    .rw[if_pos hc];simp only[lookup_cons,hx];exact ih h
    .rw[if_neg hc];simp only[lookup_cons,hx];exact ih h
theorem Gi{env:Env}{x:Str}:∀{names:List (Str×NameKind)},
 ((names.map λ(n,k)=>if(k==NameKind.free&&env.scope.kind==.function&&env.kindOf n==some .cell)then(n,NameKind.cell)else(n,k)).lookup x=some .cell ∨
 (names.map λ(n,k)=>if(k==NameKind.free&&env.scope.kind==.function&&env.kindOf n==some .cell)then(n,NameKind.cell)else(n,k)).lookup x=some .free) ->
 names.lookup x=some .cell∨names.lookup x=some .free
 |[],h=>by simp at h
 |(n,k)::r,h=>by
   have ih:=@Gi env x r;have h:List.lookup x ((if(k==NameKind.free&&env.scope.kind==.function&&env.kindOf n==some .cell)=true then(n,NameKind.cell)else(n,k))::_)=_∨List.lookup x ((if(k==NameKind.free&&env.scope.kind==.function&&env.kindOf n==some .cell)=true then(n,NameKind.cell)else(n,k))::_)=_:=h;cases hx:x==n with
   |true=>
    by_cases hc:(k==NameKind.free&&env.scope.kind==.function&&env.kindOf n==some .cell)=true
    .have hk:k=.free:=by
      have:=(Bool.and_eq_true _ _ ▸ (Bool.and_eq_true _ _ ▸ hc).1:(k==NameKind.free)=true/\_).1;simpa using this
     exact .inr (by simp only[lookup_cons,hx,hk])
    .rw[if_neg hc]at h;simp only[lookup_cons,hx]at h ⊢;exact h
   |false=>
    simp only[lookup_cons,hx];refine ih ?_;by_cases hc:(k==NameKind.free&&env.scope.kind==.function&&env.kindOf n==some .cell)=true
    .rw[if_pos hc]at h;simp only[lookup_cons,hx]at h;exact h
    .rw[if_neg hc]at h;simp only[lookup_cons,hx]at h;exact h
def cCx(X:Cx)(N':List Str)(scope:Scope)(s:Shared)(H:Hp)(ex:List Addr):Cx:=
 { X with N:=N',s₀:=s,H₀:=H,env:=Sw scope s.heap.objs.size X.env,outer:=X.stack,ex:=ex,fn:=λx=>decide ((x,NameKind.cell)∈scope.names),pn:=[],xe:=λ_ _=>False }
structure CSc(X:Cx)(scope:Scope)(fr:List Str)(ix:List Nat):Prop where
 kind:scope.kind=.function
 nd:(scope.names.map (·.1)).Nodup
 free:(scope.names.all λy=>y.2 != .free||X.env.kindOf y.1==some .cell||X.env.kindOf y.1==some .free)=true
 frs:(fr.all λx=>scope.names.lookup x==some .free)=true
 ixs:fr.map some=ix.map λi=>X.N[i]?
 loc:(scope.names.all λy=>y.2 != .local||scope.names.lookup y.1==some .local)=true
def HD(n:Nat)(ix:List Nat)(σ:St):St:=List.replicate n none++ix.map λi=>(σ[i]?).join
section
variable{X:Cx}{scope:Scope}{fr loc:List Str}{ix:List Nat}{pins:List (Addr×Obj)}{σ:St}{H:Hp}{s:Shared}
def CSc.outer(S:CSc X scope fr ix){y:Str×NameKind}(hy:y∈scope.names)(e:y.2=.free):X.env.kindOf y.1=some .cell∨X.env.kindOf y.1=some .free:=by
 have h:=all_eq_true.mp S.free y hy;rw[e]at h;simpa using h
def CSc.clos(S:CSc X scope fr ix)(ok:X.Ok):∀y∈scope.names,y.2=.free->∃c,X.env.cells.lookup y.1=some c:=λy hy e=>ok.has y.1 (S.outer hy e)
def Ct(S:CSc X scope fr ix)(ok:X.Ok){n:Nat}{x:Str}{c:Addr}(e:(cellsFrom n scope.names (AX X.env.cells scope.names [])).lookup x=some c):
 (CQ n scope.names).lookup x=some c∨X.env.cells.lookup x=some c:=by
 rw[Bx,lookup_append]at e;cases q:(CQ n scope.names).lookup x with
 |some d=>rw[q]at e;exact .inl e
 |none=>
  rw[q]at e;exact .inr (DO (S.clos ok) (λ_ _ z=>by simp at z) x c e)
def M4(S:CSc X scope fr ix)(I:Inv X pins σ H s){ex:List Addr}(hex:∀b∈ex,FpOk X pins H b){h':Heap}(hk:∀b o,s.heap.get? b=some o->h'.get? b=some o)(hn:h'.Ns s.heap.objs.size λ_=>none)
 (ho:∀x c,(CQ (s.heap.objs.size+1) scope.names).lookup x=some c->h'.IsCell c none/\s.heap.objs.size<c) (ha:(CQ (s.heap.objs.size+1) scope.names).Pairwise λx y=>x.2≠y.2) (hlt:∀b∈ex,b<s.heap.objs.size):
 Inv (cCx X (loc++fr) scope s H ex) [] (HD loc.length ix σ) H { s with heap:=h' }:=by
 have old:∀x c,X.env.cells.lookup x=some c->c<s.heap.objs.size:=λx c e=>let ⟨v,z⟩:=I.cell x c e;z.lt
 have lenix:fr.length=ix.length:=by simpa using congrArg List.length S.ixs
 refine⟨⟨I.ok.mod,?_,I.ok.glob,I.ok.blt,le_refl _,?_,?_,?_,I.ok.hd,I.ok.frames,.inl rfl,?_,I.bs,le_trans I.ok.bsz I.sz,?_,?_,I.stack,I.stkFree⟩,rfl,I.bare,Un.kept hk,⟨_,hn,?_⟩,?_,I.hok.fresh (le_refl _),?_,?_,I.hok.kept hk,?_⟩
 .exact S.kind
 .intro x y c e1 e2;rcases Ct S I.ok e1 with a|a<;>rcases Ct S I.ok e2 with b|b
  .exact name_of_addr ha (PySem.mem_of_lookup a) (PySem.mem_of_lookup b)
  .exact absurd (lt_trans (ho x c a).2 (old y c b)) (lt_irrefl _)
  .exact absurd (lt_trans (ho y c b).2 (old x c a)) (lt_irrefl _)
  .exact I.ok.inj x y c a b
 .intro x hx;rcases Gi hx with e|e
  .exact isSome_iff_exists.mp (PySem.W.cellsFrom_some _ _ _ (.inl e))
  .exact isSome_iff_exists.mp (PySem.W.cellsFrom_some _ _ _ (.inr (Cl (.inr (PySem.mem_of_lookup e)))))
 .intro x c hf e;have hf:(x,NameKind.cell)∈scope.names:=of_decide_eq_true hf;obtain⟨d,hd⟩:=IH scope.names (s.heap.objs.size+1) x hf;have e':(cellsFrom (s.heap.objs.size+1) scope.names (AX X.env.cells scope.names [])).lookup x=some c:=e;rw[Bx,lookup_append,hd]at e';cases e';exact le_of_lt (ho x _ hd).2
 .intro b hb;refine⟨ne_of_lt (hlt b hb),λx c e z=>?_⟩;rcases Ct S I.ok e with a|a
  .exact absurd (lt_trans (ho x c a).2 (by rw[z];exact hlt b hb)) (lt_irrefl _)
  .exact(hex b hb).2.2.2.2.1 x c a z
 .intro b o e hb;rcases(hex b hb).2.2.2.1 with z|z
  .exact I.ok.noex b o e z
  .exact absurd (lt_of_lt_of_le (Heap.lt_size (I.ok.bs b o e).1) z) (lt_irrefl _)
 .intro b hb hf;rcases mem_cons.mp (I.stkSub b hf)with z|z
  .exact(hex b hb).2.1 z
  .exact(hex b hb).2.2.1 z
 .intro i x v e1 e2 e3;have e1:(loc++fr)[i]?=some x:=e1;unfold HD at e2;by_cases hi:i<loc.length
  .rw[List.getElem?_append_left (by simpa using hi),List.getElem?_replicate]at e2;split at e2<;>cases e2
  .have hi':loc.length<=i:=Nat.not_lt.mp hi;rw[List.getElem?_append_right (by simpa using hi')]at e2;rw[List.getElem?_append_right hi']at e1;rw[List.length_replicate,List.getElem?_map]at e2;generalize hj:i-loc.length=j at e1 e2;have e4:(fr.map some)[j]?=some (some x):=by rw[List.getElem?_map,e1];rfl
   rw[S.ixs,List.getElem?_map]at e4;cases q:ix[j]? with
   |none=>rw[q]at e2;cases e2
   |some k=>
    rw[q]at e2 e4;have e2:(σ[k]?).join=some v:=Option.some.inj e2;have e4:X.N[k]?=some x:=Option.some.inj e4;have e5:σ[k]?=some (some v):=by
     cases w:σ[k]? with
     |none=>rw[w]at e2;cases e2
     |some z=>rw[w]at e2;simpa using e2
    have hfx:=all_eq_true.mp S.frs x (mem_of_getElem? e1);have hfx:scope.names.lookup x=some .free:=by simpa using hfx
    have hmem:=PySem.mem_of_lookup hfx;have hout:=S.outer hmem rfl;obtain⟨m,hm,hl⟩:=I.loc;obtain⟨u,r,l⟩:=hl k x v e4 e5 (.inr hout);refine⟨u,r,.inr ⟨GQ hfx,?_⟩⟩;rcases l with⟨kk,_⟩|⟨kk,c,ec,z⟩
    .rcases hout with w|w
     .rw[kk]at w;cases w
     .rw[kk]at w;cases w
    .have own0:(CQ (s.heap.objs.size+1) scope.names).lookup x=none:=by
      cases w:(CQ (s.heap.objs.size+1) scope.names).lookup x with
      |none=>rfl
      |some d=>exact absurd (Jx S.nd (IG _ _ _ _ w) hmem) (by decide)
     have hc:(AX X.env.cells scope.names []).lookup x=some c:=by
      obtain⟨d,hd⟩:=isSome_iff_exists.mp (Cl (cells:=X.env.cells) (acc:=[]) (.inr hmem));have:=DO (S.clos I.ok) (λ_ _ z=>by simp at z) x d hd;rw[ec]at this;cases this;exact hd
     refine⟨c,?_,z.keeps hk⟩;show(cellsFrom (s.heap.objs.size+1) scope.names (AX X.env.cells scope.names [])).lookup x=some c;rw[Bx,lookup_append,own0,hc];rfl
 .intro x c e;rcases Ct S I.ok e with a|a
  .exact⟨_,(ho x c a).1⟩
  .obtain⟨v,z⟩:=I.cell x c a;exact⟨v,z.keeps hk⟩
 .intro x c e;rcases Ct S I.ok e with a|a
  .exact I.hok.fresh (le_of_lt (ho x c a).2)
  .exact I.freeC x c a
 .intro p hp;cases hp
 .unfold HD;show _=(loc++fr).length;simp[lenix]
end
section
variable{prog:Program}{w:World}{A:Around}{R:Result->Shared->Prop}{s:Shared}
def HC{elt target iter:Expr}{ifs:List Expr}{scope:Scope}{pos:Pos}{it acc:Value}{env:Env}(I:Nat->Shared->Prop)
 (turn:∀n s,I n s->wpAny (model prog w) A (pyNext it) (λr s₁=>match r with
  |none=>R (.ok .next) s₁
  | some v=>wpAny (model prog w) A (letOwnedTupleGo target it v) (λ_ s₁=>wpAny (model prog w) A (assign target env v) (λ_ s₂=>
   wpAny (model prog w) A (forIn ifs true λc r=>if r=true then do let ok <- isTrue c env (eval c env);pure (ForInStep.yield ok)else pure (ForInStep.yield r)) (λok s₃=>
    if ok=true then wpAny (model prog w) A (eval elt env) (λx s₄=>
     wpAny (model prog w) A (call (.builtin "list.append") [acc,x]) (λ_ s₅=>∃m,m<n/\I m s₅) (λ_ _=>False) s₄) (λ_ _=>False) s₃
    else ∃m,m<n/\I m s₃) (λ_ _=>False) s₂) (λ_ _=>False) s₁) (λ_ _=>False) s₁) (λ_ _=>False) s)
 (n:Nat) (h:I n s):
 codeAny (model prog w) A (.compLoop (.ListComp elt [⟨target,iter,ifs,0⟩] scope pos) 0 it acc env) R s:=by
 refine codeAny_loop rfl I (λn s hI=>?_) n h;show wpAny _ A ((compTurn (.ListComp elt [⟨target,iter,ifs,0⟩] scope pos) 0 it acc env).onRaise (λx=>do noteFrame x env;theTreesLotGoes x)) _ _ s;refine wpAny_noted ?_;rw[compTurn_list];refine wpAny_bind (wpAny_standAt (wpAny_bind (wpAny_mono (turn n s hI) (λr s₁ h₁=>?_) λ_ _ h'=>h'.elim)));cases r with
 |none=>exact wpAny_pure h₁
 |some v=>
  refine wpAny_bind (wpAny_mono h₁ (λ_ s₁ h₁=>?_) λ_ _ h'=>h'.elim);refine wpAny_bind (wpAny_mono h₁ (λ_ s₂ h₂=>wpAny_bind (wpAny_mono h₂ (λok s₃ h₃=>?_) λ_ _ h'=>h'.elim)) λ_ _ h'=>h'.elim);cases ok with
  |false=>exact wpAny_pure ⟨rfl,h₃⟩
  |true=>
   exact wpAny_bind (wpAny_bind (wpAny_mono h₃ (λx s₄ h₄=>wpAny_bind (wpAny_mono h₄ (λ_ s₅ h₅=>wpAny_pure (wpAny_pure ⟨rfl,h₅⟩)) λ_ _ h'=>h'.elim)) λ_ _ h'=>h'.elim))
end
def PF(X:Cx)(ifs:List Expr)(t:TT):Prop:=
 ∀(pins:List (Addr×Obj)) (s:Shared) (σ:St) (H:Hp) (Q:Bool->Hp->Prop),Inv X pins σ H s->t σ H Q ->
   wpAny (model X.prog X.w) X.A (forIn ifs true λc r=>if r=true then do let ok <- isTrue c X.env (eval c X.env);pure (ForInStep.yield ok)else pure (ForInStep.yield r)) (TP X pins σ Q) X.xe s
def Qu:TT:=λ_ H Q=>Q true H
def Xj{X:Cx}:PF X [] Qu:=λpins s σ H Q I h=>wpAny_tests_nil ⟨H,I,h⟩
def Xi{X:Cx}{c:Expr}{t:TT}(h:PT X c t):PF X [c] t:=λpins s σ H Q I q=>wpAny_tests_one (h pins s σ H Q I q)
def Ti(J:It)(D:Addr)(σ0:St)(H0:Hp)(g:TG)(tf:TT)(te:TE)(Q:VK):Prop:=∃W:Nat->Nat->St->List V->Hp->Prop,
 (∃m,W 0 m σ0 [] (upd H0 D (.lst [])))/\∀i m σ ys H,W i m σ ys H->H D=some (.lst ys)/\
  ((J.stop i H/\Q (.ref D) H)∨(J.go i H/\ys.length<sizeLine/\∃N:St->List V->Hp->Prop,(∀σ' ys' H',N σ' ys' H'->∃m',m'<m/\W (i+1) m' σ' ys' H')/\
    ∀x H',J.yld i H x H'->g x σ H' λσ2 H2=>tf σ2 H2 λb H3=>
     if b=true then te σ2 H3 λv H4=>H4 D=some (.lst ys)/\N σ2 (ys++[v]) (upd H4 D (.lst (ys++[v])))
     else N σ2 ys H3))
def Fh(n:Nat)(ix:List Nat)(wi:TI)(g:TG)(tf:TT)(te:TE):TE:=λσ H Q=>wi σ H λJ H1=>∀D,H1 D=none->Ti J D (HD n ix σ) H1 g tf te Q
section
variable{X:Cx}
def Qf{pins:List (Addr×Obj)}{σ:St}{H:Hp}{s:Shared}{D:Addr}{ys:List V}{x:V}{u:Value}{Q:Value->Shared->Prop}{E:Value->Shared->Prop}(I:Inv X pins σ H s)(hD:H D=some (.lst ys))(r:RelV x u)(hz:ys.length<sizeLine)
 (h:∀v s',Inv X pins σ (upd H D (.lst (ys++[x]))) s'->Q v s'):wpAny (model X.prog X.w) X.A (call (.builtin "list.append") [.ref D,u]) Q E s:=by
 have I':=I.wish λ_ _=>False;have q:=Jy (X:=X.wish λ_ _=>False) pins s σ H (.ref D) [x] (.ref D) [u] (λv H'=>H'=upd H D (.lst (ys++[x]))) I' rfl (.cons r .nil) ⟨D,ys,x,rfl,rfl,hD,hz,rfl⟩;refine wpAny_mono q (λv s' ⟨v',H',I2,_,e⟩=>?_) λ_ _ z=>False.elim z;subst e;exact h v s' I2.unwish
def VF{elt tg iter:Expr}{ifs:List Expr}{scope:Scope}{pos:Pos}{loc fr:List Str}{ix:List Nat}{wi:TI}{g:TG}{tf:TT}{te:TE}(hc:X.calm=true)(S:CSc X scope fr ix)(hi:PI X tg iter wi)
 (hg:∀s H ex,PG (cCx X (loc++fr) scope s H ex) tg g) (hf:∀s H ex,PF (cCx X (loc++fr) scope s H ex) ifs tf) (he:∀s H ex,PE (cCx X (loc++fr) scope s H ex) elt te)
 (hs:∀x,foldedSetIterable iter X.env x=pure x:=by intro _;rfl):PE X (.ListComp elt [⟨tg,iter,ifs,0⟩] scope pos) (Fh loc.length ix wi g tf te):=by
 intro pins s σ H Q I h;rw[eval_ListComp];have hnames:∀y∈scope.names,y.2=.local->scope.names.lookup y.1=some .local:=λy hy e=>by
  have:=all_eq_true.mp S.loc y hy;rw[e]at this;simpa using this
 refine wpAny_comprehension_free (use:=none) rfl hs (ED (S.clos I.ok)) S.kind hnames (thn (hi pins s σ H _ I h) λv s1 h1=>thn h1 λitv s2 h2=>?_);obtain⟨it,fp,tn,J,H2,rfl,I2,T,st2,f2,hW⟩:=h2;refine wpAny_newObj_type ?_;have fresh2:H2 s2.heap.objs.size=none:=I2.hok.fresh (le_refl _);have I3:=I2.lnew (its:=[]) (ys:=[]) (t':=s2.toks) .nil (zero_le _);obtain⟨W,⟨m0,w0⟩,turn⟩:=hW s2.heap.objs.size fresh2;have lt2:∀b∈fp,b<s2.heap.objs.size:=λb hb=>let ⟨o,e,_⟩:=T.obj 0 _ st2 b hb;Heap.lt_size e
 have f3:∀b∈fp,FpOk X pins (upd H2 s2.heap.objs.size (.lst [])) b:=λb hb=>⟨by rw[AC (ne_of_lt (lt2 b hb))];exact(f2 b hb).1,(f2 b hb).2⟩
 have lt3:∀b∈fp,b<(s2.heap.push { cls:=.type "list",data:=.seq ([]:List Value).toArray }).objs.size:=λb hb=>by rw[Heap.size_push];exact lt_succ_of_lt (lt2 b hb)
 generalize hs3:({ s2 with heap:=s2.heap.push { cls:=.type "list",data:=.seq ([]:List Value).toArray } }:Shared)=s3 at *;have lt3:∀b∈fp,b<s3.heap.objs.size:=by rw[<- hs3];exact lt3
 have st3:tn 0 s3.heap:=T.keep _ _ _ st2 λb hb o e=>by rw[<- hs3];exact Heap.get?_push_of_some _ e
 refine NR λh' hk hn ho ha=>?_;have I4:=M4 (loc:=loc) S I3 f3 hk hn ho ha lt3;have fpX:∀{H':Hp},(∀b∈fp,H' b=none)->∀b∈fp,FpOk (cCx X (loc++fr) scope s3 (upd H2 s2.heap.objs.size (.lst [])) fp) [] H' b:=λhn b hb=>
  ⟨hn b hb,(I4.ok.exf b hb).1,I4.ok.exfs b hb,.inl hb,(I4.ok.exf b hb).2,λp hp=>by cases hp⟩
 have loop:codeAny (model X.prog X.w) X.A (.compLoop (.ListComp elt [⟨tg,iter,ifs,0⟩] scope pos) 0 (.ref it) (.ref s2.heap.objs.size) (Sw scope s3.heap.objs.size X.env))
  (compPost (model X.prog X.w) X.A X.xe none (EP X pins σ Q) (.ref s2.heap.objs.size) s3.heap.objs.size) { s3 with heap:=h' }:=by
  refine HC (λn s'=>∃i σ' ys H',Inv (cCx X (loc++fr) scope s3 (upd H2 s2.heap.objs.size (.lst [])) fp) [] σ' H' s'/\tn i s'.heap/\(∀b∈fp,H' b=none)/\W i n σ' ys H') ?_ m0
   ⟨0,_,[],_,I4,T.keep _ _ _ st3 λb hb o e=>hk b o e,λb hb=>(f3 b hb).1,w0⟩
  rintro n s5 ⟨i,σ5,ys,H5,I5,st5,fr5,w5⟩;obtain⟨hD,w5⟩:=turn i n σ5 ys H5 w5;rcases w5 with⟨stop,qn⟩|⟨go,hz,N,hN,step⟩
  .refine thn (T.done (cCx X (loc++fr) scope s3 (upd H2 s2.heap.objs.size (.lst [])) fp) rfl rfl rfl hc i [] s5 σ5 H5 _ I5 (fpX fr5) st5 stop) λr s6 ⟨hr,I6⟩=>?_;subst hr;obtain⟨m,hm,_⟩:=I6.loc;refine⟨m,hm,λh'' hs=>?_⟩;have neC:∀b o,s3.heap.get? b=some o->b≠s3.heap.objs.size:=λb o e=>ne_of_lt (Heap.lt_size e);have un:=I6.base;refine⟨.ref s2.heap.objs.size,H5,I3.call' (s':={ s6 with heap:=h'' }) (ch:=fp) I6.os ⟨λb o e n hb hx=>?_,λb o e n hb hx=>?_,un.free,λb o e hx=>?_,un.tups,un.frzs,un.tbls⟩ ?_ I6.bare ?_,rfl,qn⟩
   .exact(hs.2 b (neC b o e)).trans (un.keep b o e n hb hx)
   .obtain⟨sl,q⟩:=un.slot b o e n hb hx;exact⟨sl,(hs.2 b (neC b o e)).trans q⟩
   .obtain⟨o',q⟩:=un.there b o e hx;exact⟨o',(hs.2 b (neC b o e)).trans q⟩
   .intro b ob e;have hfree:H5 s3.heap.objs.size=none:=I6.free;refine(I6.hok b ob e).stay (λc w' hc q=>(hs.2 c ?_).trans q) (λ_ q=>q) λ_ _ q=>q;intro z;rcases hc with hc|hc
    .rw[<- hc,z,hfree]at e;cases e
    .rw[z,hfree]at hc;cases hc
   .intro b hb;obtain⟨_,a2,_,a4,a5,a6⟩:=f3 b hb;exact⟨a4,a2,a5,a6⟩
  .refine thn (T.item (cCx X (loc++fr) scope s3 (upd H2 s2.heap.objs.size (.lst [])) fp) rfl rfl rfl hc i [] s5 σ5 H5 _ I5 (fpX fr5) st5 go) λr s6 ⟨u,hr,h6⟩=>?_;subst hr;refine thn h6 λ_ s7 ⟨x,H7,I7,r7,y7,st7,fr7⟩=>?_;have I7':=I7.pinned (fpX fr7) (T.obj _ _ st7);have keepI:∀{σ8:St} {H8:Hp} {s8:Shared},Inv (cCx X (loc++fr) scope s3 (upd H2 s2.heap.objs.size (.lst [])) fp) ([]++FV fp s7.heap) σ8 H8 s8->tn (i+1) s8.heap/\∀b∈fp,H8 b=none:=λ{σ8 H8 s8} I8=>by
    refine⟨T.keep _ _ _ st7 λb hb o e=>(I8.pin (b,o) (mem_append_right _ (mem_append_right _ (Ck hb e)))).1,λb hb=>?_⟩;obtain⟨o,e,d⟩:=T.obj _ _ st7 b hb;exact(I8.pin (b,o) (mem_append_right _ (mem_append_right _ (Ck hb e)))).2.1
   refine thn (hg s3 (upd H2 s2.heap.objs.size (.lst [])) fp _ s7 σ5 H7 x u _ I7' r7 (step x H7 y7)) λ_ s8 ⟨σ8,H8,I8,q8⟩=>?_;refine thn (hf s3 (upd H2 s2.heap.objs.size (.lst [])) fp _ s8 σ8 H8 _ I8 q8) λb s9 ⟨H9,I9,q9⟩=>?_;cases b with
   |false=>
    rw[if_neg Bool.false_ne_true]at q9 ⊢;obtain⟨m',hm,w9⟩:=hN _ _ _ q9;exact⟨m',hm,i+1,σ8,ys,H9,I9.unpinned,(keepI I9).1,(keepI I9).2,w9⟩
   |true=>
    rw[if_pos rfl]at q9 ⊢;refine thn (he s3 (upd H2 s2.heap.objs.size (.lst [])) fp _ s9 σ8 H9 _ I9 q9) λe10 s10 ⟨v10,H10,I10,r10,hD10,n10⟩=>?_;obtain⟨m',hm,w10⟩:=hN _ _ _ n10;refine Qf (X:=cCx X (loc++fr) scope s3 (upd H2 s2.heap.objs.size (.lst [])) fp) I10 hD10 r10 hz λ_ s11 I11=>?_;exact⟨m',hm,i+1,σ8,_,_,I11.unpinned,(keepI I11).1,(keepI I11).2,w10⟩
 exact codeAny_compStart_list loop (T.self X.A 0 _ _ _ (T.keep _ _ _ st3 λb hb o e=>hk b o e) loop)
end
section
variable{X:Cx}
def Oq{elt tg iter:Expr}{ifs:List Expr}{scope:Scope}{pos:Pos}{loc fr:List Str}{ix:List Nat}{g:TG}{tf:TT}{te:TE}{pins:List (Addr×Obj)}{σ:St}{Q:VK}{it:Addr}{fp:List Addr}{tn:Nat->Heap->Prop}{J:It}{H2:Hp}{s2:Shared}{E:Value->Shared->Prop}
 {RR:Value->Addr->Result->Shared->Prop} (hc:X.calm=true) (S:CSc X scope fr ix)
 (hg:∀s H ex,PG (cCx X (loc++fr) scope s H ex) tg g) (hf:∀s H ex,PF (cCx X (loc++fr) scope s H ex) ifs tf) (he:∀s H ex,PE (cCx X (loc++fr) scope s H ex) elt te)
 (I2:Inv X pins σ H2 s2) (T:Turn X.prog X.w X.K tg J fp it tn) (st2:tn 0 s2.heap) (f2:∀b∈fp,FpOk X pins H2 b) (hW:∀D,H2 D=none->Ti J D (HD loc.length ix σ) H2 g tf te Q)
 (hfin:∀(s3 s6:Shared) (H5:Hp) (σ5:St) (D:Addr),Inv X pins σ (upd H2 D (.lst [])) s3->Inv (cCx X (loc++fr) scope s3 (upd H2 D (.lst [])) fp) [] σ5 H5 s6->(∀b∈fp,FpOk X pins (upd H2 D (.lst [])) b)->Q (.ref D) H5->RR (.ref D) s3.heap.objs.size (.ok .next) s6):
 wpAny (model X.prog X.w) X.A (newList []) (λacc s₃=>wpAny (model X.prog X.w) X.A (newFunctionEnv scope X.env.globals (AX X.env.cells scope.names []) [] X.env.qual none .none (some X.env)) (λcenv s₄=>
  codeAny (model X.prog X.w) X.A (.compStart (.ListComp elt [⟨tg,iter,ifs,0⟩] scope pos) 0 (.ref it) acc { cenv with scope:=relabel scope X.env }) (RR acc cenv.locals) s₄) E s₃) E s2:=by
 refine wpAny_newObj_type ?_;have fresh2:H2 s2.heap.objs.size=none:=I2.hok.fresh (le_refl _);have I3:=I2.lnew (its:=[]) (ys:=[]) (t':=s2.toks) .nil (zero_le _);obtain⟨W,⟨m0,w0⟩,turn⟩:=hW s2.heap.objs.size fresh2;have lt2:∀b∈fp,b<s2.heap.objs.size:=λb hb=>let ⟨o,e,_⟩:=T.obj 0 _ st2 b hb;Heap.lt_size e
 have f3:∀b∈fp,FpOk X pins (upd H2 s2.heap.objs.size (.lst [])) b:=λb hb=>⟨by rw[AC (ne_of_lt (lt2 b hb))];exact(f2 b hb).1,(f2 b hb).2⟩
 have lt3:∀b∈fp,b<(s2.heap.push { cls:=.type "list",data:=.seq ([]:List Value).toArray }).objs.size:=λb hb=>by rw[Heap.size_push];exact lt_succ_of_lt (lt2 b hb)
 generalize hs3:({ s2 with heap:=s2.heap.push { cls:=.type "list",data:=.seq ([]:List Value).toArray } }:Shared)=s3 at *;have lt3:∀b∈fp,b<s3.heap.objs.size:=by rw[<- hs3];exact lt3
 have st3:tn 0 s3.heap:=T.keep _ _ _ st2 λb hb o e=>by rw[<- hs3];exact Heap.get?_push_of_some _ e
 refine NR λh' hk hn ho ha=>?_;have I4:=M4 (loc:=loc) S I3 f3 hk hn ho ha lt3;have fpX:∀{H':Hp},(∀b∈fp,H' b=none)->∀b∈fp,FpOk (cCx X (loc++fr) scope s3 (upd H2 s2.heap.objs.size (.lst [])) fp) [] H' b:=λhn b hb=>
  ⟨hn b hb,(I4.ok.exf b hb).1,I4.ok.exfs b hb,.inl hb,(I4.ok.exf b hb).2,λp hp=>by cases hp⟩
 have loop:codeAny (model X.prog X.w) X.A (.compLoop (.ListComp elt [⟨tg,iter,ifs,0⟩] scope pos) 0 (.ref it) (.ref s2.heap.objs.size) (Sw scope s3.heap.objs.size X.env))
  (RR (.ref s2.heap.objs.size) s3.heap.objs.size) { s3 with heap:=h' }:=by
  refine HC (λn s'=>∃i σ' ys H',Inv (cCx X (loc++fr) scope s3 (upd H2 s2.heap.objs.size (.lst [])) fp) [] σ' H' s'/\tn i s'.heap/\(∀b∈fp,H' b=none)/\W i n σ' ys H') ?_ m0
   ⟨0,_,[],_,I4,T.keep _ _ _ st3 λb hb o e=>hk b o e,λb hb=>(f3 b hb).1,w0⟩
  rintro n s5 ⟨i,σ5,ys,H5,I5,st5,fr5,w5⟩;obtain⟨hD,w5⟩:=turn i n σ5 ys H5 w5;rcases w5 with⟨stop,qn⟩|⟨go,hz,N,hN,step⟩
  .refine thn (T.done (cCx X (loc++fr) scope s3 (upd H2 s2.heap.objs.size (.lst [])) fp) rfl rfl rfl hc i [] s5 σ5 H5 _ I5 (fpX fr5) st5 stop) λr s6 ⟨hr,I6⟩=>?_;subst hr;exact hfin s3 s6 H5 σ5 s2.heap.objs.size I3 I6 f3 qn
  .refine thn (T.item (cCx X (loc++fr) scope s3 (upd H2 s2.heap.objs.size (.lst [])) fp) rfl rfl rfl hc i [] s5 σ5 H5 _ I5 (fpX fr5) st5 go) λr s6 ⟨u,hr,h6⟩=>?_;subst hr;refine thn h6 λ_ s7 ⟨x,H7,I7,r7,y7,st7,fr7⟩=>?_;have I7':=I7.pinned (fpX fr7) (T.obj _ _ st7);have keepI:∀{σ8:St} {H8:Hp} {s8:Shared},Inv (cCx X (loc++fr) scope s3 (upd H2 s2.heap.objs.size (.lst [])) fp) ([]++FV fp s7.heap) σ8 H8 s8->tn (i+1) s8.heap/\∀b∈fp,H8 b=none:=λ{σ8 H8 s8} I8=>by
    refine⟨T.keep _ _ _ st7 λb hb o e=>(I8.pin (b,o) (mem_append_right _ (mem_append_right _ (Ck hb e)))).1,λb hb=>?_⟩;obtain⟨o,e,d⟩:=T.obj _ _ st7 b hb;exact(I8.pin (b,o) (mem_append_right _ (mem_append_right _ (Ck hb e)))).2.1
   refine thn (hg s3 (upd H2 s2.heap.objs.size (.lst [])) fp _ s7 σ5 H7 x u _ I7' r7 (step x H7 y7)) λ_ s8 ⟨σ8,H8,I8,q8⟩=>?_;refine thn (hf s3 (upd H2 s2.heap.objs.size (.lst [])) fp _ s8 σ8 H8 _ I8 q8) λb s9 ⟨H9,I9,q9⟩=>?_;cases b with
   |false=>
    rw[if_neg Bool.false_ne_true]at q9 ⊢;obtain⟨m',hm,w9⟩:=hN _ _ _ q9;exact⟨m',hm,i+1,σ8,ys,H9,I9.unpinned,(keepI I9).1,(keepI I9).2,w9⟩
   |true=>
    rw[if_pos rfl]at q9 ⊢;refine thn (he s3 (upd H2 s2.heap.objs.size (.lst [])) fp _ s9 σ8 H9 _ I9 q9) λe10 s10 ⟨v10,H10,I10,r10,hD10,n10⟩=>?_;obtain⟨m',hm,w10⟩:=hN _ _ _ n10;refine Qf (X:=cCx X (loc++fr) scope s3 (upd H2 s2.heap.objs.size (.lst [])) fp) I10 hD10 r10 hz λ_ s11 I11=>?_;exact⟨m',hm,i+1,σ8,_,_,I11.unpinned,(keepI I11).1,(keepI I11).2,w10⟩
 exact codeAny_compStart_list loop (T.self X.A 0 _ _ _ (T.keep _ _ _ st3 λb hb o e=>hk b o e) loop)
def Mz{scope:Scope}{N':List Str}{fp:List Addr}{pins:List (Addr×Obj)}{σ σ5:St}{H3 H5:Hp}{s3 s6:Shared}{h'':Heap}(I3:Inv X pins σ H3 s3)(I6:Inv (cCx X N' scope s3 H3 fp) [] σ5 H5 s6)(f3:∀b∈fp,FpOk X pins H3 b)
 (hs:Heap.SameBut s3.heap.objs.size s6.heap h''):Inv X pins σ H5 { s6 with heap:=h'' }:=by
 have neC:∀b o,s3.heap.get? b=some o->b≠s3.heap.objs.size:=λb o e=>ne_of_lt (Heap.lt_size e);have un:=I6.base;refine I3.call' (s':={ s6 with heap:=h'' }) (ch:=fp) I6.os ⟨λb o e n hb hx=>?_,λb o e n hb hx=>?_,un.free,λb o e hx=>?_,un.tups,un.frzs,un.tbls⟩ ?_ I6.bare ?_
 .exact(hs.2 b (neC b o e)).trans (un.keep b o e n hb hx)
 .obtain⟨sl,q⟩:=un.slot b o e n hb hx;exact⟨sl,(hs.2 b (neC b o e)).trans q⟩
 .obtain⟨o',q⟩:=un.there b o e hx;exact⟨o',(hs.2 b (neC b o e)).trans q⟩
 .intro b ob e;have hfree:H5 s3.heap.objs.size=none:=I6.free;refine(I6.hok b ob e).stay (λc w' hc q=>(hs.2 c ?_).trans q) (λ_ q=>q) λ_ _ q=>q;intro z;rcases hc with hc|hc
  .rw[<- hc,z,hfree]at e;cases e
  .rw[z,hfree]at hc;cases hc
 .intro b hb;obtain⟨_,a2,_,a4,a5,a6⟩:=f3 b hb;exact⟨a4,a2,a5,a6⟩
def Uv{i:Nat}{y:Str}{elt tg iter:Expr}{ifs:List Expr}{scope:Scope}{pos spos py:Pos}{loc fr:List Str}{ix:List Nat}{wi:TI}{g:TG}{tf:TT}{te:TE}(hN:X.N.Nodup)(hiN:X.N[i]?=some y)(hy:X.env.scope.names.lookup y=some .local)
 (hc:X.calm=true) (S:CSc X scope fr ix) (hi:PI X tg iter wi)
 (hg:∀s H ex,PG (cCx X (loc++fr) scope s H ex) tg g) (hf:∀s H ex,PF (cCx X (loc++fr) scope s H ex) ifs tf) (he:∀s H ex,PE (cCx X (loc++fr) scope s H ex) elt te)
 (hsw:swapsWith (.ListComp elt [⟨tg,iter,ifs,0⟩] scope pos) (some (.Name y py)) spos.line X.env=pure true:=by rfl) (hs:∀x,foldedSetIterable iter X.env x=pure x:=by intro _;rfl):
 PS X (.Assign [.Name y py] (.ListComp elt [⟨tg,iter,ifs,0⟩] scope pos) spos) (Ed (Fh loc.length ix wi g tf te) (Dp i)):=by
 intro pins s σ H D I h;have hnames:∀y∈scope.names,y.2=.local->scope.names.lookup y.1=some .local:=λy hy e=>by
  have:=all_eq_true.mp S.loc y hy;rw[e]at this;simpa using this
 rw[exec_Assign_Name_used _ _ _ _ hsw];refine wpAny_bind (wpAny_standAt (wpAny_bind ?_));show wpAny _ _ (do let _ <- comprehension (.ListComp elt [⟨tg,iter,ifs,0⟩] scope pos) scope X.env _ (newList []) false (eval iter X.env) (some (assign (.Name y py) X.env))) _ _ s;refine wpAny_bind (wpAny_mono (wpAny_comprehension_free (use:=some (assign (.Name y py) X.env)) (Q:=λ_ s'=>SP X pins D .next s') rfl hs (ED (S.clos I.ok)) S.kind hnames
  (thn (hi pins s σ H _ I h) λv s1 h1=>thn h1 λitv s2 h2=>?_)) (λ_ s' hq=>wpAny_pure (wpAny_pure hq)) λ_ _ e=>e)
 obtain⟨it,fp,tn,J,H2,rfl,I2,T,st2,f2,hW⟩:=h2;refine Oq (RR:=λacc C=>compPost (model X.prog X.w) X.A X.xe (some (assign (.Name y py) X.env)) (λ_ s'=>SP X pins D .next s') acc C) hc S hg hf he I2 T st2 f2 hW λs3 s6 H5 σ5 L I3 I6 f3 q=>?_;have J6:Inv X pins σ H5 s6:=Mz (h'':=s6.heap) I3 I6 f3 (.refl ..);obtain⟨m,hm,_⟩:=I6.loc;have hm:s6.heap.Ns s3.heap.objs.size m:=hm;have hL:s3.heap.objs.size≠X.env.locals:=Ne.symm (ne_of_lt I3.lt);show wpAny _ _ (assign (.Name y py) X.env (.ref L)) _ _ s6;refine wpAny_assign_Name (Jo (v:=.ref L) J6 hN hiN (.inl hy) rfl (λs7 I7 ⟨a,sb,ha⟩=>?_) (.inr hy));have hca:s3.heap.objs.size≠a:=by
  rcases ha with rfl|ha
  .exact hL
  .obtain⟨v,z⟩:=I3.cell y a ha;exact Ne.symm (ne_of_lt z.lt)
 refine⟨m,hm.sameBut sb hca,λh' hs'=>?_⟩;refine⟨_,H5,I7.turned (t':=s7.toks) (it:=s3.heap.objs.size) (λb o hb e=>(hs'.2 b hb).trans e) I6.free hL (.inr I3.sz) (λx c e z=>?_) (λp hp z=>?_),q⟩
 .obtain⟨v,w⟩:=I3.cell x c e;exact absurd w.lt (by rw[z];exact lt_irrefl _)
 .exact absurd (Heap.lt_size (I3.pin p hp).1) (by rw[z];exact lt_irrefl _)
end
mutual
def Rep(K:PySem.W.Frag)(H:Hp):PyData->V->Prop
 |.none,v=>v=.non
 |.bool b,v=>v=.bl b
 |.int i,v=>v=.int i
 |.str x,v=>v=.str x
 |.list ds,v=>∃a xs,v=.ref a/\SqL K H a xs/\RepAll K H ds xs
 |.tuple ds,v=>∃a xs,v=.ref a/\SqT K H a xs/\RepAll K H ds xs
 |.dict _,_=>False
def RepAll(K:PySem.W.Frag)(H:Hp):List PyData->List V->Prop
 |[],xs=>xs=[]
 |d::ds,xs=>∃x r,xs=x::r/\Rep K H d x/\RepAll K H ds r
end
section
variable{X:Cx}{pins:List (Addr×Obj)}{σ:St}{H:Hp}{s:Shared}
mutual
theorem Dy(I:Inv X pins σ H s):∀(d:PyData) (v:V) (u:Value),Rep X.K H d v->RelV v u->∃as,Reads s.heap u d as
 |.none,v,u,h,r=>by
  have h:v=.non:=by simpa only[Rep]using h
  subst h;cases r;exact⟨_,.none⟩
 |.bool b,v,u,h,r=>by
  have h:v=.bl b:=by simpa only[Rep]using h
  subst h;cases r;exact⟨_,.bool b⟩
 |.int i,v,u,h,r=>by
  have h:v=.int i:=by simpa only[Rep]using h
  subst h;obtain⟨t,rfl⟩:=r;exact⟨_,.int i t⟩
 |.str x,v,u,h,r=>by
  have h:v=.str x:=by simpa only[Rep]using h
  subst h;obtain⟨t,rfl⟩:=r;exact⟨_,.str x t⟩
 |.list ds,v,u,h,r=>by
  have h:∃a xs,v=.ref a/\SqL X.K H a xs/\RepAll X.K H ds xs:=by simpa only[Rep]using h
  obtain⟨a,xs,rfl,hq,ha⟩:=h;cases r;obtain⟨its,rv,⟨o,n,e,c,_,dd⟩,hz⟩:=I.list hq;obtain⟨as,q⟩:=Eg I ds xs its ha rv;exact⟨_,.list e c dd (by simpa using q)⟩
 |.tuple ds,v,u,h,r=>by
  have h:∃a xs,v=.ref a/\SqT X.K H a xs/\RepAll X.K H ds xs:=by simpa only[Rep]using h
  obtain⟨a,xs,rfl,hq,ha⟩:=h;cases r;obtain⟨its,rv,⟨o,e,c,n,dd⟩,hz⟩:=I.tuple hq;obtain⟨as,q⟩:=Eg I ds xs its ha rv;exact⟨_,.tuple e c dd (by simpa using q)⟩
 |.dict _,v,u,h,r=>by
  have h:False:=by simpa only[Rep]using h
  exact h.elim
theorem Eg(I:Inv X pins σ H s):∀(ds:List PyData) (xs:List V) (us:List Value),RepAll X.K H ds xs->Vals xs us->∃as,ReadsAll s.heap us ds as
 |[],xs,us,h,r=>by
  have h:xs=[]:=by simpa only[RepAll]using h
  subst h;cases r;exact⟨_,.nil⟩
 |d::ds,xs,us,h,r=>by
  have h:∃x r,xs=x::r/\Rep X.K H d x/\RepAll X.K H ds r:=by simpa only[RepAll]using h
  obtain⟨x,rr,rfl,h1,h2⟩:=h;cases r with
  |cons r1 r2=>
   obtain⟨as,q1⟩:=Dy I d _ _ h1 r1;obtain⟨bs,q2⟩:=Eg I ds _ _ h2 r2;exact⟨_,.cons q1 q2⟩
end
end
def Stb:HO->Prop
 |.tup _=>True
 |.frz _ _=>True
 |.ext _=>True
 |.xd _=>True
 |_=>False
structure Grow(H H':Hp):Prop where
 keep:∀b o,Stb o->H b=some o->H' b=some o
theorem Grow.tup{H H':Hp}(g:Grow H H'):∀b xs,H b=some (.tup xs)->H' b=some (.tup xs):=λb _ h=>g.keep b _ trivial h
theorem Grow.frz{H H':Hp}(g:Grow H H'):∀b o u,H b=some (.frz o u)->H' b=some (.frz o u):=λb _ _ h=>g.keep b _ trivial h
def Grow.refl{H:Hp}:Grow H H:=⟨λ_ _ _ h=>h⟩
def Chg(H:Hp)(p:Addr):Prop:=∀o,Stb o->H p≠some o
def Grow.put{H H':Hp}{p:Addr}{o:HO}(a:Grow H H')(h:Chg H' p):Grow H (upd H' p o):=⟨λc u s e=>by
 have q:=a.keep c u s e;have n:c≠p:=λz=>h u s (by rw[<- z];exact q);rw[AC n];exact q⟩
theorem Chg.lst{H:Hp}{p:Addr}{xs:List V}(h:H p=some (.lst xs)):Chg H p:=λo s e=>by rw[h]at e;cases e;exact s
def Grow.sq{K:PySem.W.Frag}{H H':Hp}{a:Addr}{xs:List V}(g:Grow H H')(h:SqT K H a xs):SqT K H' a xs:=by
 rcases h with(h|⟨o,h⟩)|h
 .exact .inl (.inl (g.tup _ _ h))
 .exact .inl (.inr ⟨o,g.frz _ _ _ h⟩)
 .exact .inr h
mutual
/-- no list in it -/
def Imm:PyData->Bool
 |.none|.bool _|.int _|.str _=>true
 |.list _=>false
 |.tuple ds=>HI ds
 |.dict _=>false
def HI:List PyData->Bool
 |[]=>true
 |d::ds=>Imm d&&HI ds
end
mutual
theorem Rep.grow{K:PySem.W.Frag}{H H':Hp}(g:Grow H H'):∀(d:PyData) (v:V),Imm d=true->Rep K H d v->Rep K H' d v
 |.none,v,_,h=>by simpa only[Rep]using h
 |.bool b,v,_,h=>by simpa only[Rep]using h
 |.int i,v,_,h=>by simpa only[Rep]using h
 |.str x,v,_,h=>by simpa only[Rep]using h
 |.list ds,v,m,h=>by simp[Imm]at m
 |.tuple ds,v,m,h=>by
  have h:∃a xs,v=.ref a/\SqT K H a xs/\RepAll K H ds xs:=by simpa only[Rep]using h
  obtain⟨a,xs,e,hq,ha⟩:=h;simp only[Rep];exact⟨a,xs,e,g.sq hq,RepAll.grow g ds xs (by simpa only[Imm]using m) ha⟩
 |.dict _,v,m,h=>by simp[Imm]at m
theorem RepAll.grow{K:PySem.W.Frag}{H H':Hp}(g:Grow H H'):∀(ds:List PyData) (xs:List V),HI ds=true->RepAll K H ds xs->RepAll K H' ds xs
 |[],xs,_,h=>by simpa only[RepAll]using h
 |d::ds,xs,m,h=>by
  have h:∃x r,xs=x::r/\Rep K H d x/\RepAll K H ds r:=by simpa only[RepAll]using h
  obtain⟨x,r,e,h1,h2⟩:=h;have m:Imm d=true/\HI ds=true:=by simpa [HI]using m
  simp only[RepAll];exact⟨x,r,e,Rep.grow g d x m.1 h1,RepAll.grow g ds r m.2 h2⟩
end
section
variable{X:Cx}
def Rm(K:PySem.W.Frag):R2:=λx y H Q=>∃d e,Rep K H d x/\Rep K H e y/\d.canLay0=true/\e.canLay0=true/\min d.depth e.depth<=60/\Q (.bl (!PyData.eqv d e)) H
def Ro(K:PySem.W.Frag):R2:=λx y H Q=>∃d e,Rep K H d x/\Rep K H e y/\d.canLay0=true/\e.canLay0=true/\min d.depth e.depth<=60/\Q (.bl (PyData.eqv d e)) H
def Y0(hu:X.A.units+64<cLine):OpR X (compareOp .NotEq) (Rm X.K):=by
 intro pins s σ H x y v u Q I rx ry h;obtain⟨d,e,h1,h2,c1,c2,hm,q⟩:=h;obtain⟨as,q1⟩:=Dy I d x v h1 rx;obtain⟨bs,q2⟩:=Dy I e y u h2 ry;exact PySem.SeqAt.compareNe_reads q1 q2 c1 c2 (by omega) ⟨.bl _,H,I,rfl,q⟩
def Y5(hu:X.A.units+64<cLine):OpR X (compareOp .Eq) (Ro X.K):=by
 intro pins s σ H x y v u Q I rx ry h;obtain⟨d,e,h1,h2,c1,c2,hm,q⟩:=h;obtain⟨as,q1⟩:=Dy I d x v h1 rx;obtain⟨bs,q2⟩:=Dy I e y u h2 ry;exact PySem.SeqAt.compareEq_reads q1 q2 c1 c2 (by omega) ⟨.bl _,H,I,rfl,q⟩
theorem Dd:∀{ns:List Int} {us:List Value},Vals (ns.map V.int) us->IntsAre us ns
 |[],_,.nil=>.nil
 |n::ns,_,.cons r t=>by obtain⟨k,rfl⟩:=r;exact .cons _ _ (Dd t)
def QZ(hc:X.calm=true):CallR X (.builtin "sum") (λxs H Q=>∃(a:Addr) (ns:List Int),xs=[.ref a]/\SqL X.K H a (ns.map V.int)/\Q (.int ns.sum) H):=by
 intro pins s σ H xs us Q I r h;obtain⟨a,ns,rfl,hq,q⟩:=h;obtain⟨u,rfl,ru⟩:=By r;cases ru;obtain⟨its,rv,p,hz⟩:=I.list hq;have hi:=Dd rv;obtain⟨xs,hx⟩:=hi.allInts.items;have hl':s.heap.IsList a (intItems xs):=hx ▸ p.isList;refine sum_intListG (I.ok.hd hc) hl' λh' tk t' hk=>?_;have e1:ns=xs.toList.map (·.1):=by
  rw[<- nums_intItems,<- hx];exact(show numsOf its.toArray.toList=ns from hi.numsOf).symm
 have e2:preSum (numAt xs) xs.size=ns.sum:=by
  rw[preSum_eq,List.take_of_length_le (by simp),e1]
 rw[e2];exact⟨.int ns.sum,H,I.kept hk,⟨_,rfl⟩,q⟩
end
end L2
namespace L2
open PySem PySem.Spec PyProof.Rows
section
variable(K:PySem.W.Frag){X:Cx}
def M3(hK:X.K=K:=by rfl):IxR X (JW K):=by subst hK;exact Vc
def NZ(hK:X.K=K:=by rfl):IxR X (Rn K):=by subst hK;exact YM
def RU(hK:X.K=K:=by rfl):SlR X (OH K):=by subst hK;exact Tw
def NQ(hu:X.A.units+64<cLine)(hK:X.K=K:=by rfl):OpR X (compareOp .Eq) (Ro K):=by subst hK;exact Y5 hu
def JY(hu:X.A.units+64<cLine)(hK:X.K=K:=by rfl):OpR X (compareOp .NotEq) (Rm K):=by subst hK;exact Y0 hu
def Ld(hK:X.K=K:=by rfl):OpR X (binaryOp .Add) (OJ K):=by subst hK;exact VL
def Wt:List V->Hp->VK->Prop:=λxs H Q=>∃p ys,xs=[.ref p]/\(SqL K H p ys∨SqT K H p ys)/\Q (.int ys.length) H
def Qc(hK:X.K=K:=by rfl):CallR X (.builtin "len") (Wt K):=by subst hK;exact MW
def JV:List V->Hp->VK->Prop:=λxs H Q=>∃p ys,xs=[.ref p]/\(SqL K H p ys∨SqT K H p ys)/\∀l,H l=none->Q (.ref l) (upd H l (.lst ys))
def Ot(hK:X.K=K:=by rfl):CallR X (.type "list") (JV K):=by subst hK;exact MV
def LW:List V->Hp->VK->Prop:=λxs H Q=>∃p ys,xs=[.ref p]/\((SqL K H p ys/\∀l,H l=none->Q (.ref l) (upd H l (.tup ys)))∨(SqT K H p ys/\Q (.ref p) H))
def Hu(hK:X.K=K:=by rfl):CallR X (.type "tuple") (LW K):=by subst hK;exact Kc
def TL:List V->Hp->VK->Prop:=λxs H Q=>∃(a:Addr) (ns:List Int),xs=[.ref a]/\SqL K H a (ns.map V.int)/\Q (.int ns.sum) H
def KA(hc:X.calm=true)(hK:X.K=K:=by rfl):CallR X (.builtin "sum") (TL K):=by subst hK;exact QZ hc
def LZ{tg l:Expr}{tl:TE}(hl:PE X l tl)(hK:X.K=K:=by rfl):PI X tg l (HU K tl):=by subst hK;exact V6 hl
def V5{tg l:Expr}{tl:TE}(hl:PE X l tl)(hK:X.K=K:=by rfl):PI X tg l (Of K tl):=by subst hK;exact Xf hl
def V9{pos:Pos}{es:List Expr}{k:Nat}{t:TGs}{n:Nat}(hc:X.calm=true)(h:PGs X es t)(hK:X.K=K:=by rfl)
 (hn:(assignEach es X.env).length=n:=by rfl) (hst:(assignEach es X.env).findIdx? (·.1)=none:=by rfl):PG X (.Tuple es k pos) (Oj K n t):=by
 subst hK;exact Xg hc h hn hst
end
section
variable(K:PySem.W.Frag){X:Cx}
theorem HF:∀{bs:List Bool} {us:List Value} {i:Nat} {v:Value},Vals (bs.map V.bl) us->us[i]?=some v->∃b,bs[i]?=some b/\v=.bool b
 |[],_,_,_,.nil,e=>by simp at e
 |b::bs,_,0,_,.cons r _,e=>by simp at e;subst e;exact⟨b,rfl,r⟩
 |b::bs,_,i+1,_,.cons _ t,e=>by
  obtain⟨c,h1,h2⟩:=HF (i:=i) t (by simpa using e);exact⟨c,by simpa using h1,h2⟩
def Wv:List V->Hp->VK->Prop:=λxs H Q=>∃(a:Addr) (bs:List Bool),xs=[.ref a]/\SqL K H a (bs.map V.bl)/\Q (.bl (bs.all id)) H
def Wu:List V->Hp->VK->Prop:=λxs H Q=>∃(a:Addr) (bs:List Bool),xs=[.ref a]/\SqL K H a (bs.map V.bl)/\Q (.bl (bs.any id)) H
def KF(hc:X.calm=true)(hK:X.K=K:=by rfl):CallR X (.builtin "all") (Wv K):=by
 subst hK;intro pins s σ H xs us Q I r h;obtain⟨a,bs,rfl,hq,q⟩:=h;obtain⟨u,rfl,ru⟩:=By r;cases ru;obtain⟨its,rv,p,hz⟩:=I.list hq;have hl:=p.isList;have hlen:=rv.length;have hlt:a<s.heap.objs.size:=by obtain⟨_,e,_⟩:=hl;exact Heap.lt_size e
 refine call_all_walk (wpAny_pyIter_list hl ?_);refine⟨s.heap.objs.size,[s.heap.objs.size,a],[s.heap.objs.size],its.toArray.size,_,_,λi=>(bs[i]?).getD true,rfl,Walks.list (A:=X.A.in1) (I.ok.hd hc) _ a (ne_of_lt hlt) its.toArray,
  ⟨⟨_,Heap.get?_push_size _ rfl,rfl,rfl⟩,hl.push _⟩,λi v s' Q' E' hP hQ=>?_,λh' tk hk=>?_⟩
 .obtain⟨b,e,rfl⟩:=HF rv (by simpa using hP);simp only[e,getD_some]at hQ;exact wpAny_truthy_bool hQ
 .have e:((List.range its.toArray.size).all λi=>(bs[i]?).getD true)=bs.all id:=by
   rw[size_toArray,<- hlen,length_map];exact LSm.range_all bs
  rw[e];exact⟨.bl _,H,I.kept (LSm.kept_iter hk),rfl,q⟩
def KD(hc:X.calm=true)(hK:X.K=K:=by rfl):CallR X (.builtin "any") (Wu K):=by
 subst hK;intro pins s σ H xs us Q I r h;obtain⟨a,bs,rfl,hq,q⟩:=h;obtain⟨u,rfl,ru⟩:=By r;cases ru;obtain⟨its,rv,p,hz⟩:=I.list hq;have hl:=p.isList;have hlen:=rv.length;have hlt:a<s.heap.objs.size:=by obtain⟨_,e,_⟩:=hl;exact Heap.lt_size e
 refine call_any_walk (wpAny_pyIter_list hl ?_);refine⟨s.heap.objs.size,[s.heap.objs.size,a],[s.heap.objs.size],its.toArray.size,_,_,λi=>(bs[i]?).getD false,rfl,Walks.list (A:=X.A.in1) (I.ok.hd hc) _ a (ne_of_lt hlt) its.toArray,
  ⟨⟨_,Heap.get?_push_size _ rfl,rfl,rfl⟩,hl.push _⟩,λi v s' Q' E' hP hQ=>?_,λh' tk hk=>?_⟩
 .obtain⟨b,e,rfl⟩:=HF rv (by simpa using hP);simp only[e,getD_some]at hQ;exact wpAny_truthy_bool hQ
 .have e:((List.range its.toArray.size).any λi=>(bs[i]?).getD false)=bs.any id:=by
   rw[size_toArray,<- hlen,length_map];exact LSm.range_any bs
  rw[e];exact⟨.bl _,H,I.kept (LSm.kept_iter hk),rfl,q⟩
theorem N4:∀{ns:List Int} {us:List Value},IntsAre us ns->Vals (ns.map V.int) us
 |[],_,.nil=>.nil
 |_::_,_,.cons _ _ t=>.cons ⟨_,rfl⟩ (N4 t)
def TR:List V->Hp->VK->Prop:=λxs H Q=>∃(a:Addr) (ns:List Int),xs=[.ref a]/\SqL K H a (ns.map V.int)/\0<ns.length/\∀M:Int,M∈ns->(∀x∈ns,x<=M)->Q (.int M) H
def KC(hc:X.calm=true)(hK:X.K=K:=by rfl):CallR X (.builtin "max") (TR K):=by
 subst hK;intro pins s σ H xs us Q I r h;obtain⟨a,ns,rfl,hq,hne,q⟩:=h;obtain⟨u,rfl,ru⟩:=By r;cases ru;obtain⟨its,rv,p,hz⟩:=I.list hq;have hi:=Dd rv;obtain⟨ys,e⟩:=hi.allInts.items;have hns:ns=ys.toList.map (·.1):=by
  rw[<- hi.numsOf,<- nums_intItems,<- e]
 have hsz:0<ys.size:=by
  have h3:=hne;rw[hns,length_map,Array.length_toList]at h3;exact h3
 have hl:=p.isList;rw[e]at hl;refine max_intList (I.ok.hd hc) hl hsz λv h' tk hv hk=>?_;obtain⟨t,rfl⟩:=intItems_at hv;obtain⟨h1,h2⟩:=argBest_gt (numAt ys) (ys.size-1);refine⟨.int _,H,I.kept hk,⟨t,rfl⟩,q _ ?_ λx hx=>?_⟩
 .rw[hns,numAt_eq];exact getD_mem (by rw[length_map,Array.length_toList];omega)
 .rw[hns]at hx;obtain⟨j,hj,rfl⟩:=mem_getD hx;rw[length_map,Array.length_toList]at hj;rw[<- numAt_eq];exact h2 j (by omega)
def TN:List V->Hp->VK->Prop:=λxs H Q=>∃(a:Addr) (ns:List Int),xs=[.ref a]/\SqL K H a (ns.map V.int)/\0<ns.length/\∀M:Int,M∈ns->(∀x∈ns,M<=x)->Q (.int M) H
def KB(hc:X.calm=true)(hK:X.K=K:=by rfl):CallR X (.builtin "min") (TN K):=by
 subst hK;intro pins s σ H xs us Q I r h;obtain⟨a,ns,rfl,hq,hne,q⟩:=h;obtain⟨u,rfl,ru⟩:=By r;cases ru;obtain⟨its,rv,p,hz⟩:=I.list hq;have hi:=Dd rv;obtain⟨ys,e⟩:=hi.allInts.items;have hns:ns=ys.toList.map (·.1):=by
  rw[<- hi.numsOf,<- nums_intItems,<- e]
 have hsz:0<ys.size:=by
  have h3:=hne;rw[hns,length_map,Array.length_toList]at h3;exact h3
 have hl:=p.isList;rw[e]at hl;refine min_intList (I.ok.hd hc) hl hsz λv h' tk hv hk=>?_;obtain⟨t,rfl⟩:=intItems_at hv;obtain⟨h1,h2⟩:=argBest_lt (numAt ys) (ys.size-1);refine⟨.int _,H,I.kept hk,⟨t,rfl⟩,q _ ?_ λx hx=>?_⟩
 .rw[hns,numAt_eq];exact getD_mem (by rw[length_map,Array.length_toList];omega)
 .rw[hns]at hx;obtain⟨j,hj,rfl⟩:=mem_getD hx;rw[length_map,Array.length_toList]at hj;rw[<- numAt_eq];exact h2 j (by omega)
end
section
variable{prog:Program}{w:World}{A:Around}{E:Value->Shared->Prop}{s:Shared}{l:Addr}{xs:Array (Int×Tok)}
def GS{Q:Value->Shared->Prop}(hl:s.heap.IsTuple l (intItems xs))
 (h:∀s₂:Shared,s₂={ s with heap:=s.heap.push { cls:=.type "tuple_iterator",data:=.fields #[.ref l,.int 0 0] } } ->
  (s₂.heap.IsTupleIter s.heap.objs.size l 0/\s₂.heap.IsTuple l (intItems xs))->(∀b∈[s.heap.objs.size,l],b<s₂.heap.objs.size)->l≠s.heap.objs.size->Q (.ref s.heap.objs.size) s₂):
 wpAny (model prog w) A (pyIter (.ref l)) Q E s:=by
 have hlt:l<s.heap.objs.size:=by obtain⟨_,e,_⟩:=hl;exact Heap.lt_size e
 refine wpAny_pyIter_tuple hl (h _ rfl ⟨⟨_,Heap.get?_push_size _ rfl,rfl,rfl⟩,hl.push _⟩ (λb hb=>?_) (ne_of_lt hlt));show b<(s.heap.push _).objs.size;rw[Heap.size_push];rcases mem_cons.mp hb with rfl|hb
 .exact lt_succ_self _
 .rcases mem_cons.mp hb with rfl|hb
  .exact lt_succ_of_lt hlt
  .cases hb
def Jw{h':Heap}{o:Obj}(hk:∀b x,b∉[s.heap.objs.size]->(s.heap.push o).get? b=some x->h'.get? b=some x):∀b x,s.heap.get? b=some x->h'.get? b=some x:=
 λb x e=>hk b x (λhm=>by rw[mem_singleton.mp hm]at e;exact lt_irrefl _ (Heap.lt_size e)) (Heap.get?_push_of_some _ e)
def L0{Q:Value->Shared->Prop}(hh:A.handled=none)(hl:s.heap.IsTuple l (intItems xs))
 (h:∀h' tk t',(∀b o,s.heap.get? b=some o->h'.get? b=some o)->Q (.int (preSum (numAt xs) xs.size) t') { s with heap:=h',toks:=tk }):
 wpAny (model prog w) A (call (.builtin "sum") [.ref l]) Q E s:=by
 refine call_sum_walkG (GS hl λs₂ e st hfp hlI=>?_);subst e;refine⟨_,_,_,_,_,_,numAt xs,rfl,Walks.tuple (A:=A.in1) hh _ l hlI (intItems xs),st,hfp,(λ_ _=>intItems_at),λh' tk t' hk=>?_⟩;have:=h h' tk t' (Jw hk);simpa [intItems]using this
def Lk{Q:Value->Shared->Prop}(hh:A.handled=none)(hl:s.heap.IsTuple l (intItems xs))(hne:0<xs.size)
 (h:∀v h' tk,(intItems xs)[argBest (λi j=>decide (numAt xs i>numAt xs j)) (xs.size-1)]?=some v->(∀b o,s.heap.get? b=some o->h'.get? b=some o)->Q v { s with heap:=h',toks:=tk }):
 wpAny (model prog w) A (call (.builtin "max") [.ref l]) Q E s:=by
 refine call_max_walk (GS hl λs₂ e st hfp hlI=>?_);subst e;refine⟨_,_,_,_,_,_,_,rfl,Walks.tuple (A:=A.in1) hh _ l hlI (intItems xs),st,hfp,by simpa [intItems]using hne,CmpOf.ints_gt (numAt xs) (λ_ _=>intItems_at),λv h' tk hP hk=>?_⟩;exact h v h' tk (by simpa [intItems]using hP) (Jw hk)
end
section
variable(K:PySem.W.Frag){X:Cx}
def TK:List V->Hp->VK->Prop:=λxs H Q=>∃(a:Addr) (ns:List Int),xs=[.ref a]/\SqT K H a (ns.map V.int)/\Q (.int ns.sum) H
def JB(hc:X.calm=true)(hK:X.K=K:=by rfl):CallR X (.builtin "sum") (TK K):=by
 subst hK;intro pins s σ H xs us Q I r h;obtain⟨a,ns,rfl,hq,q⟩:=h;obtain⟨u,rfl,ru⟩:=By r;cases ru;obtain⟨its,rv,p,hz⟩:=I.tuple hq;have hi:=Dd rv;obtain⟨xs,hx⟩:=hi.allInts.items;have hl':s.heap.IsTuple a (intItems xs):=hx ▸ (show s.heap.IsTuple a its.toArray from p);refine L0 (I.ok.hd hc) hl' λh' tk t' hk=>?_;have e1:ns=xs.toList.map (·.1):=by
  rw[<- nums_intItems,<- hx];exact(show numsOf its.toArray.toList=ns from hi.numsOf).symm
 have e2:preSum (numAt xs) xs.size=ns.sum:=by
  rw[preSum_eq,List.take_of_length_le (by simp),e1]
 rw[e2];exact⟨.int ns.sum,H,I.kept hk,⟨_,rfl⟩,q⟩
def TQ:List V->Hp->VK->Prop:=λxs H Q=>∃(a:Addr) (ns:List Int),xs=[.ref a]/\SqT K H a (ns.map V.int)/\0<ns.length/\∀M:Int,M∈ns->(∀x∈ns,x<=M)->Q (.int M) H
def JC(hc:X.calm=true)(hK:X.K=K:=by rfl):CallR X (.builtin "max") (TQ K):=by
 subst hK;intro pins s σ H xs us Q I r h;obtain⟨a,ns,rfl,hq,hne,q⟩:=h;obtain⟨u,rfl,ru⟩:=By r;cases ru;obtain⟨its,rv,p,hz⟩:=I.tuple hq;have hi:=Dd rv;obtain⟨ys,e⟩:=hi.allInts.items;have hns:ns=ys.toList.map (·.1):=by
  rw[<- hi.numsOf,<- nums_intItems,<- e]
 have hsz:0<ys.size:=by
  have h3:=hne;rw[hns,length_map,Array.length_toList]at h3;exact h3
 have hl:s.heap.IsTuple a (intItems ys):=e ▸ (show s.heap.IsTuple a its.toArray from p);refine Lk (I.ok.hd hc) hl hsz λv h' tk hv hk=>?_;obtain⟨t,rfl⟩:=intItems_at hv;obtain⟨h1,h2⟩:=argBest_gt (numAt ys) (ys.size-1);refine⟨.int _,H,I.kept hk,⟨t,rfl⟩,q _ ?_ λx hx=>?_⟩
 .rw[hns,numAt_eq];exact getD_mem (by rw[length_map,Array.length_toList];omega)
 .rw[hns]at hx;obtain⟨j,hj,rfl⟩:=mem_getD hx;rw[length_map,Array.length_toList]at hj;rw[<- numAt_eq];exact h2 j (by omega)
end
structure DefAt(K:PySem.W.Frag)(mg:Str->Option Value)(x:Str)(st:Stmt)(f:Addr)(fd:FuncData)(ps:List Str):Prop where
 fn:Fun K x x st f fd
 mg:mg x=some (.ref f)
 bd:Binds K fd ps []
def TY{X:Cx}{j k:Nat}{f:Addr}{fd:FuncData}{ps:List Str}{sp:Sp}{x:Str}{st:Stmt}{e:Expr}{es:List Expr}{t:TA}{p pos:Pos}(F:FnOk X.prog X.w X.K X.mg X.base CX0 j f fd ps sp)(hr:Room k X.A)(D:DefAt X.K X.mg x st f fd ps)(ha:PA X (e::es) t)
 (hjk:j<=k:=by decide) (hg:Gl X x:=by rfl) (hdb:(x==("__debug__":Str))=false:=by decide) (he:starEach (e::es) X.env=(false,eval e X.env)::starEach es X.env:=by rfl) (hpl:(backTo pos (starEach es X.env)).any (·.1)=false:=by rfl):
 PE X (.Call (.Name x p) (e::es) [] pos) (Ey sp [] E0 t):=
 VH (F.mono hjk) hr hg D.mg D.fn.kp D.bd .nil ZN ha hdb he hpl
def Vt:bootBuiltins "list"=some (.type "list"):=by decide +kernel
def bt_tuple:bootBuiltins "tuple"=some (.type "tuple"):=by decide +kernel
def bt_len:bootBuiltins "len"=some (.builtin "len"):=by decide +kernel
def bt_sum:bootBuiltins "sum"=some (.builtin "sum"):=by decide +kernel
def bt_min:bootBuiltins "min"=some (.builtin "min"):=by decide +kernel
def bt_max:bootBuiltins "max"=some (.builtin "max"):=by decide +kernel
def HE:bootBuiltins "sorted"=some (.builtin "sorted"):=by decide +kernel
def bt_all:bootBuiltins "all"=some (.builtin "all"):=by decide +kernel
def bt_any:bootBuiltins "any"=some (.builtin "any"):=by decide +kernel
def Kd:bootBuiltins "isinstance"=some (.builtin "isinstance"):=by decide +kernel
mutual
theorem Ht:∀ns:List Int,PyData.canLayAll0 (ns.map PyData.int)=true
 |[]=>by simp[PyData.canLayAll0]
 |n::ns=>by simp[PyData.canLayAll0,PyData.canLay0,Ht ns]
end
end L2
namespace L2
open PySem PySem.Spec PyProof.Rows PySem.W
def lCx(X:Cx)(A:Around)(N':List Str)(qual:Str)(scope:Scope)(f:Addr)(cd:Value)(cl:List (Str×Addr))(s:Shared)(H:Hp):Cx:=
 { X with N:=N',s₀:=s,H₀:=H,A:=A.deeper (envX qual scope s.heap.objs.size f cd cl),env:=envX qual scope s.heap.objs.size f cd cl,outer:=X.stack,stack:=envX qual scope s.heap.objs.size f cd cl::X.stack,ex:=[],fn:=λ_=>false,calm:=true,pn:=[],xe:=λ_ _=>False }
structure LSc(scope:Scope)(p:Str):Prop where
 nocell:(scope.names.all λy=>y.2 != .cell)=true
 par:scope.names.lookup p=some .local
 co:scope.isCoroutine=false
 gen:scope.isGenerator=false
section
variable{X:Cx}{scope:Scope}{fr:List Str}{ix:List Nat}{pins:List (Addr×Obj)}{σ:St}{H:Hp}{s:Shared}{p:Str}
def LSc.ne(L:LSc scope p):∀y∈scope.names,y.2≠.cell:=λy hy e=>by
 have:=all_eq_true.mp L.nocell y hy;rw[e]at this
 revert this;decide
def Vf(S:CSc X scope fr ix)(L:LSc scope p)(I:Inv X pins σ H s){A:Around}(hf:A.frames=X.A.frames)(hh:A.handled=none){qual:Str}{f:Addr}{cd:Value}{h':Heap}{x:V}{u:Value}{t':Nat}
 (hk:∀b o,s.heap.get? b=some o->h'.get? b=some o) (hn:h'.Ns s.heap.objs.size λy=>if y=p then some u else none) (r:RelV x u):
 Inv (lCx X A (p::fr) qual scope f cd (AX X.env.cells scope.names []) s H) [] (some x::ix.map λi=>(σ[i]?).join) H { s with heap:=h',toks:=t' }:=by
 have lenix:fr.length=ix.length:=by simpa using congrArg List.length S.ixs
 have co:∀x c,(AX X.env.cells scope.names []).lookup x=some c->X.env.cells.lookup x=some c:=λx c e=>DO (S.clos I.ok) (λ_ _ z=>by simp at z) x c e;refine⟨⟨I.ok.mod,S.kind,rfl,rfl,le_refl _,?_,?_,?_,λ_=>hh,Around.frames_deeper (hf.trans I.ok.frames),.inr ⟨rfl,rfl⟩,?_,I.bs,le_trans I.ok.bsz I.sz,?_,?_,I.stack,I.stkFree⟩,rfl,I.bare,Un.kept hk,⟨_,hn,?_⟩,?_,I.hok.fresh (le_refl _),?_,?_,I.hok.kept hk,?_⟩
 .intro x y c e1 e2;exact I.ok.inj x y c (co x c e1) (co y c e2)
 .intro x hx;rcases hx with e|e
  .exact absurd rfl (L.ne (x,.cell) (PySem.mem_of_lookup e))
  .exact isSome_iff_exists.mp (Cl (.inr (PySem.mem_of_lookup e)))
 .intro x c hf;cases hf
 .intro b hb;cases hb
 .intro b o e hb;cases hb
 .intro b hb;cases hb
 .intro i y v e1 e2 e3;cases i with
  |zero=>
   have e1:some p=some y:=e1;have e2:some (some x)=some (some v):=e2;cases e1;cases e2;exact⟨u,r,.inl ⟨L.par,if_pos rfl⟩⟩
  |succ j=>
   have e1:fr[j]?=some y:=e1;have e2:(ix.map λi=>(σ[i]?).join)[j]?=some (some v):=e2;rw[List.getElem?_map]at e2;have e4:(fr.map some)[j]?=some (some y):=by rw[List.getElem?_map,e1];rfl
   rw[S.ixs,List.getElem?_map]at e4;cases q:ix[j]? with
   |none=>rw[q]at e2;cases e2
   |some k=>
    rw[q]at e2 e4;have e2:(σ[k]?).join=some v:=Option.some.inj e2;have e4:X.N[k]?=some y:=Option.some.inj e4;have e5:σ[k]?=some (some v):=by
     cases w:σ[k]? with
     |none=>rw[w]at e2;cases e2
     |some z=>rw[w]at e2;simpa using e2
    have hfx:=all_eq_true.mp S.frs y (mem_of_getElem? e1);have hfx:scope.names.lookup y=some .free:=by simpa using hfx
    have hmem:=PySem.mem_of_lookup hfx;have hout:=S.outer hmem rfl;obtain⟨m,hm,hl⟩:=I.loc;obtain⟨u',r',l⟩:=hl k y v e4 e5 (.inr hout);refine⟨u',r',.inr ⟨.inr hfx,?_⟩⟩;rcases l with⟨kk,_⟩|⟨kk,c,ec,z⟩
    .rcases hout with w|w
     .rw[kk]at w;cases w
     .rw[kk]at w;cases w
    .obtain⟨d,hd⟩:=isSome_iff_exists.mp (Cl (cells:=X.env.cells) (acc:=[]) (.inr hmem));have:=co y d hd;rw[ec]at this;cases this;exact⟨c,hd,z.keeps hk⟩
 .intro x c e;obtain⟨v,z⟩:=I.cell x c (co x c e);exact⟨v,z.keeps hk⟩
 .intro x c e;exact I.freeC x c (co x c e)
 .intro p hp;cases hp
 .show(_::_:List (Option V)).length=(p::fr).length;simp[lenix]
def M0(S:CSc X scope fr ix)(L:LSc scope p)(I:Inv X pins σ H s){A:Around}(hf:A.frames=X.A.frames)(hr:Room 1 A){qual:Str}{f:Addr}{cd ctv pm:Value}{params:Arguments}{body:Expr}{x:V}{u:Value}{tb:TE}{Q:VK}
 (ho:s.heap.get? f=some { cls:=.type "function",data:=.func (kla_fn "<lambda>" qual params body scope (AX X.env.cells scope.names []) pm cd ctv) }) (hcd:s.heap.CodeRec cd qual)
 (hb:∀us:Value,bindArgs (kla_fn "<lambda>" qual params body scope (AX X.env.cells scope.names []) pm cd ctv) ⟨[us],[]⟩=pure [(p,us)])
 (he:∀(s:Shared) (H:Hp),PE (lCx X A (p::fr) qual scope f cd (AX X.env.cells scope.names []) s H) body tb) (r:RelV x u) (h:tb (some x::ix.map λi=>(σ[i]?).join) H Q):
 wpAny (model X.prog X.w) A (call (.ref f) [u]) (EP X pins σ Q) (λ_ _=>False) s:=by
 refine wpAny_call (codeAny_mono (R:=λres s'=>match res with|.ok (.ret u)=>EP X pins σ Q u s'|_=>False) (kla_callFunE hr.depth ho rfl L.co L.gen rfl hcd ?_) ?_)
 .rw[hb];refine wpAny_pure ?_;refine wpAny_newFunctionEnv L.ne (λy hy=>by rw[mem_singleton]at hy;subst hy;exact L.par) (λh' hns hsb=>⟨?_,?_⟩) S.kind
  .have hk:∀b o,s.heap.get? b=some o->h'.get? b=some o:=λb o e=>(hsb.2 b (ne_of_lt (Heap.lt_size e))).trans (Heap.get?_push_of_some _ e);exact I.nolimit.keeps hk
  .have hk:∀b o,s.heap.get? b=some o->h'.get? b=some o:=λb o e=>(hsb.2 b (ne_of_lt (Heap.lt_size e))).trans (Heap.get?_push_of_some _ e);have hns':h'.Ns s.heap.objs.size λy=>if y=p then some u else none:=by
    have e:(λy=>([(p,u)]:List (Str×Value)).reverse.lookup y)=λy=>if y=p then some u else none:=by
     funext y
     simp only[List.reverse_cons,List.reverse_nil,List.nil_append,lookup_cons,List.lookup_nil];by_cases hy:y=p
     .subst hy;simp
     .have hb':(y==p)=false:=beq_eq_false_iff_ne.mpr hy;simp[hb',hy]
    rw[<- e];exact hns
   have J:=Vf (t':=s.toks+1) (qual:=qual) (f:=f) (cd:=cd) S L I hf hr.hd hk hns' r;refine kla_codeExpr (wpAny_mono (he s H [] _ _ H Q J h) (λv s' hv=>?_) λ_ _ z=>z.elim);obtain⟨y,H',J',ry,q⟩:=hv;obtain⟨hh,g,d,t,os'⟩:=s';obtain rfl:os'=s.os:=J'.os;exact⟨y,H',I.call (h':=hh) (g':=g) (d':=d) (t':=t) (ch:=[]) J'.base J'.hok J'.bare (λb z=>absurd z (by simp)),ry,q⟩
 .intro res s' hq;cases res with
  |error e=>exact hq
  |ok fl=>
   cases fl with
   |ret u=>exact hq
   |next=>exact hq
   |brk=>exact hq
   |cont=>exact hq
end
def cdF(c:Addr)(q:Str):Heap->Prop:=λh=>h.CodeRec (.ref c) q
def Dt(H:Hp)(q:Str)(pos:Pos)(ps:Array Value):Prop:=ps=#[]∨∃c,ps=#[rawInt pos.line,rawInt pos.col,.ref c]/\H c=some (.ext (cdF c q))
def TabStep(P:Addr)(q:Str)(pos:Pos)(H H':Hp):Prop:=H'=H∨∃c,H c=none/\c≠P/\H'=upd (upd H P (.tbl #[rawInt pos.line,rawInt pos.col,.ref c])) c (.ext (cdF c q))
structure LamAt(X:Cx)(c P:Addr):Prop where
 code:X.env.code=.ref c
 hd:CodeHd X.base c P
 bl:X.base.BuiltinsAt X.mg P
section
variable{X:Cx}{pins:List (Addr×Obj)}{σ:St}{H:Hp}{s:Shared}{c P:Addr}{scope:Scope}{fr:List Str}{ix:List Nat}
def Vd(I:Inv X pins σ H s){q:Str}{ps:Array Value}{ps':Array Value}(hP:H P=some (.tbl ps)){c':Addr}{h':Heap}{t':Nat}(hx:∀b o,b≠P->s.heap.get? b=some o->h'.get? b=some o)(hc:s.heap.objs.size<=c')
 (hrec:h'.CodeRec (.ref c') q) (htb:h'.get? P=some (tabObj (ps++ps'))):Inv X pins σ (upd (upd H P (.tbl (ps++ps'))) c' (.ext (cdF c' q))) { s with heap:=h',toks:=t' }:=by
 have hcn:H c'=none:=I.hok.fresh hc;have hPc:P≠c':=AS hP hcn;have nP:∀b,H b=none->b≠P:=λb n z=>by subst z;rw[hP]at n;cases n
 have other:∀b,b≠P->b≠c'->upd (upd H P (.tbl (ps++ps'))) c' (.ext (cdF c' q)) b=H b:=λb h1 h2=>by rw[AC h2,AC h1]
 have ne':∀b u,H b=some u->b≠c':=λb u e=>AS e hcn;refine I.un (h':=h') (t':=t') ⟨λb o e n _ _=>hx b o (nP b n) e,λb o e n _ _=>⟨o.slots,hx b o (nP b n) e⟩,λb o e n _=>?_,λb o e _=>?_,λb xs e=>?_,λb o u e=>?_,λb qs e=>?_⟩ λb u e=>?_
 .rw[other b (nP b n) (ne_of_lt (lt_of_lt_of_le (Heap.lt_size e) hc))];exact n
 .by_cases z:b=P
  .subst z;exact⟨_,htb⟩
  .exact⟨o,hx b o z e⟩
 .rw[other b (λz=>by subst z;rw[hP]at e;cases e) (ne' b _ e)];exact e
 .rw[other b (λz=>by subst z;rw[hP]at e;cases e) (ne' b _ e)];exact e
 .by_cases z:b=P
  .subst z;rw[hP]at e;cases e;exact⟨ps',by rw[AC hPc,AM]⟩
  .exact⟨#[],by rw[other b z (ne' b _ e),e];simp⟩
 .by_cases z:b=c'
  .subst z;rw[AM]at e;cases e;obtain⟨c0,o,vs,t,e0,r⟩:=id hrec;cases e0;refine⟨hrec,⟨o,r.1⟩,λh1 h2 q1 k=>?_⟩;obtain⟨c1,o1,vs1,t1,e1,g1,r1⟩:=q1;cases e1;exact⟨_,o1,vs1,t1,rfl,k _ g1,r1⟩
  .by_cases z2:b=P
   .subst z2;rw[AC hPc,AM]at e;cases e;exact htb
   .rw[other b z2 z]at e;refine(I.hok b u e).stay (λd v hd q=>hx d v ?_ q) (λd q=>?_) λd xs q=>?_
    .rcases hd with rfl|hd
     .exact z2
     .intro y;subst y;rw[hP]at hd;cases hd
    .rw[other d (λy=>by subst y;rw[hP]at q;cases q) (ne' d _ q)];exact q
    .rw[other d (λy=>by subst y;rw[hP]at q;cases q) (ne' d _ q)];exact q
structure Made(X:Cx)(scope:Scope)(params:Arguments)(body:Expr)(P:Addr)(q:Str)(pos:Pos)(s:Shared)(H H':Hp)(f:Addr)(cd ctv:Value)(s':Shared):Prop where
 fn:s'.heap.get? f=some { cls:=.type "function",data:=.func (kla_fn "<lambda>" q params body scope (AX X.env.cells scope.names []) ((X.mg "__name__").getD .none) cd ctv) }
 cdc:∃c,cd=.ref c/\H' c=some (.ext (cdF c q))
 step:TabStep P q pos H H'
 new:s.heap.objs.size<=f
 fre:H' f=none
def IM(S:CSc X scope fr ix)(LA:LamAt X c P)(I:Inv X pins σ H s){A:Around}{E:Value->Shared->Prop}{params:Arguments}{body:Expr}{pos:Pos}{ps:Array Value}{Q:Value->Shared->Prop}(hdef:defaultsOf params X.env=([],[]))
 (hP:H P=some (.tbl ps)) (hg:Dt H (X.env.qual++"<lambda>") pos ps)
 (h:∀f cd ctv H' s',Inv X pins σ H' s'->Made X scope params body P (X.env.qual++"<lambda>") pos s H H' f cd ctv s'->Q (.ref f) s'):
 wpAny (model X.prog X.w) A (eval (.Lambda params body scope pos) X.env) Q E s:=by
 have hcl:closureFor scope X.env=pure (AX X.env.cells scope.names []):=ED (S.clos I.ok);have hns:=I.mod.glob.keeps I.bk;have hb:=LA.bl.keeps I.bk;have hcd:=LA.hd.keeps I.bk;have hobj:s.heap.get? P=some (tabObj ps):=I.hok P _ hP;have hgP:mainGlobals≠P:=λz=>by
  obtain⟨o,es,ep,e,hd,_⟩:=hns;rw[z,hobj]at e;cases e;cases hd
 refine kla_eval hdef ?_;rcases hg with rfl|⟨c',rfl,hc'⟩
 .refine kla_makeFunction hcl I.ok.glob hns LA.code hcd hobj trivial rfl hgP hb λc' ctv h' tk hx hge hlt hrec htb=>?_;have hx':∀b o,b≠P->s.heap.get? b=some o->(h'.push (kla_obj "<lambda>" (X.env.qual++"<lambda>") params body scope (AX X.env.cells scope.names []) ((X.mg "__name__").getD .none) c' ctv)).get? b=some o:=λb o n e=>Heap.get?_push_of_some _ (hx b o n e);have J:=Vd (t':=tk) I hP hx' hge (hrec.push _) (Heap.get?_push_of_some _ htb);refine h _ _ ctv _ _ J ⟨Heap.get?_push_size _ rfl,⟨c',rfl,AM⟩,.inr ⟨c',I.hok.fresh hge,(AS hP (I.hok.fresh hge)).symm,?_⟩,?_,?_⟩
  .simp
  .exact le_trans hge (le_of_lt hlt)
  .have hs:s.heap.objs.size<=h'.objs.size:=le_trans hge (le_of_lt hlt);rw[AC (ne_of_gt hlt),AC (ne_of_gt (lt_of_lt_of_le (Heap.lt_size hobj) hs))];exact I.hok.fresh hs
 .have hrec:s.heap.CodeRec (.ref c') (X.env.qual++"<lambda>"):=(I.hok c' _ hc').1;have hf:codeAmong pos (#[rawInt pos.line,rawInt pos.col,Value.ref c']:Array Value).toList=some (.ref c'):=by simp[codeAmong,rawInt]
  refine kla_makeFunctionHit hcl I.ok.glob hns LA.code hcd hobj (by simp[TriplesOk,rawInt]) hf hb λctv h' tk hk hsz=>?_;have hk':∀b o,s.heap.get? b=some o->(h'.push { cls:=.type "function",data:=.func (kla_fn "<lambda>" (X.env.qual++"<lambda>") params body scope (AX X.env.cells scope.names []) ((X.mg "__name__").getD .none) (.ref c') ctv) }).get? b=some o:=λb o e=>Heap.get?_push_of_some _ (hk b o e);exact h _ _ ctv _ _ (I.kept (t':=tk) hk') ⟨Heap.get?_push_size _ rfl,⟨c',rfl,hc'⟩,.inl rfl,hsz,I.hok.fresh hsz⟩
end
end L2
namespace L2
open PySem PySem.Spec PyProof.Rows
def Exo(h:Heap)(a C:Addr)(dx:Option Addr)(tb:Value):Prop:=∃vs sl,h.get? a=some ⟨.ref C,dx,.fields vs,sl⟩/\vs[1]?=some tb
structure Note(fs:List Addr)(a:Addr)(tb:Value)(h h':Heap):Prop where
 keep:∀b o,h.get? b=some o->b≠a->.ref b≠tb->b∉fs->h'.get? b=some o
 slot:∀b o,h.get? b=some o->b∈fs->∃sl,h'.get? b=some { o with slots:=sl }
 there:∀b o,h.get? b=some o->∃o',h'.get? b=some o'
end L2
namespace L2
open PySem PySem.Spec PyProof.Rows
open Builtin Builtin.ObjectAttr
def XO(a C:Addr)(dx:Option Addr)(h:Heap):Prop:=∃tb,Exo h a C dx tb
def XdAt(H:Hp):Option Addr->List (Str×V)->Prop
 |none,fs=>fs=[]
 |some d,fs=>H d=some (.xd fs)
def New(X:Cx)(pins:List (Addr×Obj))(b:Addr):Prop:=(b∈X.ex∨X.s₀.heap.objs.size<=b)/\b≠X.env.locals/\(∀x c,X.env.cells.lookup x=some c->c≠b)/\∀p∈X.pn++pins,p.1≠b
section
variable{C:Addr}{f:Str}{X:Cx}{pins:List (Addr×Obj)}{σ:St}{H:Hp}{s s':Shared}{Q:VK}{e:Value}
def SQ{P:Program}{w:World}{fs:List Addr}{a T:Addr}{dx:Option Addr}{tb:Value}{h h':Heap}(hok:HOk P w H h)(N:Note fs a tb h h')(hx:Exo h' a C dx (.ref T))(ha:H a=some (.ext (XO a C dx)))(hT:∀T,tb=.ref T->H T=none)(hf:∀b∈fs,H b=none):HOk P w H h':=by
 have k:∀b o u,H b=some o->b≠a->h.get? b=some u->h'.get? b=some u:=λb o u q n e=>N.keep b u e n (λz=>by rw[hT b z.symm]at q;cases q) λz=>by rw[hf b z]at q;cases q
 intro b o q;by_cases n:b=a
 .subst n;rw[ha]at q;cases q;obtain⟨vs,sl,e1,e2⟩:=id hx;refine⟨⟨_,hx⟩,⟨_,e1⟩,λh1 h2 ⟨tb,vs,sl,e,z⟩ k=>⟨tb,vs,sl,k _ e,z⟩⟩
 .refine(hok b o q).stay (λc u hc e=>?_) (λ_ z=>z) λ_ _ z=>z;rcases hc with rfl|hc
  .exact k c o u q n e
  .exact k c _ u hc (λz=>by subst z;rw[ha]at hc;cases hc) e
end
end L2
namespace L2
open PySem PySem.Spec PyProof.Rows
def XdAt.grow{H H':Hp}{dx:Option Addr}{fs:List (Str×V)}(g:Grow H H')(h:XdAt H dx fs):XdAt H' dx fs:=by
 cases dx with
 |none=>exact h
 |some d=>exact g.keep _ _ trivial h
def ExR(K:PySem.W.Frag)(nm:Str)(fs:List Str)(H:Hp)(a:Addr)(xs:List V):Prop:=∃C dx,Zq K nm=some C/\H a=some (.ext (XO a C dx))/\XdAt H dx (fs.zip xs)/\xs.length=fs.length
theorem ExR.grow{K:PySem.W.Frag}{nm:Str}{fs:List Str}{H H':Hp}{a:Addr}{xs:List V}(g:Grow H H')(h:ExR K nm fs H a xs):ExR K nm fs H' a xs:=
 let ⟨C,dx,h1,h2,h3,h4⟩:=h;⟨C,dx,h1,g.keep _ _ trivial h2,h3.grow g,h4⟩
end L2
namespace L2
open PySem PySem.Spec PyProof.Rows PySem.W
structure SndOk(q:Str)(params:Arguments)(scope:Scope)(body:Expr)(p1 p2:Str):Prop where
 ne:p1≠p2
 l1:LSc scope p1
 l2:LSc scope p2
 nofree:(scope.names.all λy=>y.2 != .free)=true
 kind:scope.kind=.function
 d1:(p2==("__debug__":Str))=false
 d2:(p2==("__classdict__":Str))=false
 bind:∀(cl:List (Str×Addr)) (pm cd ctv u v:Value),bindArgs (kla_fn "<lambda>" q params body scope cl pm cd ctv) ⟨[u,v],[]⟩=pure [(p1,u),(p2,v)]
def fnF(f c:Addr)(q:Str):Heap->Prop:=λh=>∃params scope p1 p2 pos pm ctv,h.get? f=some { cls:=.type "function",data:=.func (kla_fn "<lambda>" q params (.Name p2 pos) scope [] pm (.ref c) ctv) }/\SndOk q params scope (.Name p2 pos) p1 p2
def FvR(k:Nat)(H:Hp)(a:Addr)(xs:List V):Prop:=k=0/\xs=[]/\∃c q,H a=some (.ext (fnF a c q))/\H c=some (.ext (cdF c q))
def FvR.grow{k:Nat}{H H':Hp}{a:Addr}{xs:List V}(g:Grow H H')(h:FvR k H a xs):FvR k H' a xs:=
 let ⟨h1,h2,c,q,h3,h4⟩:=h;⟨h1,h2,c,q,g.keep _ _ trivial h3,g.keep _ _ trivial h4⟩
section
variable{X:Cx}{scope:Scope}{pins:List (Addr×Obj)}{σ:St}{H:Hp}{s:Shared}{p1 p2:Str}
def Ve{q:Str}{params:Arguments}{body:Expr}(S:SndOk q params scope body p1 p2)(I:Inv X pins σ H s){A:Around}(hf:A.frames=X.A.frames)(hh:A.handled=none){qual:Str}{f:Addr}{cd:Value}{h':Heap}{x y:V}{u v:Value}{t':Nat}
 (hk:∀b o,s.heap.get? b=some o->h'.get? b=some o) (hn:h'.Ns s.heap.objs.size λz=>([(p1,u),(p2,v)]:List (Str×Value)).reverse.lookup z) (r:RelV x u) (r2:RelV y v):
 Inv (lCx X A [p1,p2] qual scope f cd [] s H) [] [some x,some y] H { s with heap:=h',toks:=t' }:=by
 refine⟨⟨I.ok.mod,S.kind,rfl,rfl,le_refl _,?_,?_,?_,λ_=>hh,Around.frames_deeper (hf.trans I.ok.frames),.inr ⟨rfl,rfl⟩,?_,I.bs,le_trans I.ok.bsz I.sz,?_,?_,I.stack,I.stkFree⟩,rfl,I.bare,Un.kept hk,⟨_,hn,?_⟩,?_,I.hok.fresh (le_refl _),?_,?_,I.hok.kept hk,?_⟩
 .intro x y c e1 e2;cases e1
 .intro x hx;rcases hx with e|e
  .exact absurd rfl (S.l1.ne (x,.cell) (PySem.mem_of_lookup e))
  .have:=all_eq_true.mp S.nofree _ (PySem.mem_of_lookup e)
   revert this;simp
 .intro x c hf;cases hf
 .intro b hb;cases hb
 .intro b o e hb;cases hb
 .intro b hb;cases hb
 .intro i z w e1 e2 e3
  match i,e1,e2 with
  |0,e1,e2=>
   have e1:some p1=some z:=e1;have e2:some (some x)=some (some w):=e2;cases e1;cases e2;refine⟨u,r,.inl ⟨S.l1.par,?_⟩⟩;have hb:(p1==p2)=false:=beq_eq_false_iff_ne.mpr S.ne;simp[lookup_cons,hb]
  |1,e1,e2=>
   have e1:some p2=some z:=e1;have e2:some (some y)=some (some w):=e2;cases e1;cases e2;exact⟨v,r2,.inl ⟨S.l2.par,by simp[lookup_cons]⟩⟩
  |i+2,e1,e2=>cases e1
 .intro x c e;cases e
 .intro x c e;cases e
 .intro p hp;cases hp
 .rfl
def RQ(I:Inv X pins σ H s){A:Around}(hf:A.frames=X.A.frames)(hr:Room 1 A){f c:Addr}{q:Str}{x y:V}{u v:Value}{Q:VK}(ho:H f=some (.ext (fnF f c q)))(hc:H c=some (.ext (cdF c q)))(rx:RelV x u)(ry:RelV y v)(h:Q y H):
 wpAny (model X.prog X.w) A (call (.ref f) [u,v]) (EP X pins σ Q) (λ_ _=>False) s:=by
 obtain⟨params,scope,p1,p2,pos,pm,ctv,ho',S⟩:=(I.hok f _ ho).1;have hcd:s.heap.CodeRec (.ref c) q:=(I.hok c _ hc).1;have he:∀(s:Shared) (H:Hp),PE (lCx X A [p1,p2] q scope f (.ref c) [] s H) (.Name p2 pos) (Nq 1):=λs H=>Po rfl (.inl S.l2.par) S.d1 S.d2;refine wpAny_call (codeAny_mono (R:=λres s'=>match res with|.ok (.ret u)=>EP X pins σ Q u s'|_=>False) (kla_callFunE hr.depth ho' rfl S.l1.co S.l1.gen rfl hcd ?_) ?_)
 .rw[S.bind];refine wpAny_pure ?_;refine wpAny_newFunctionEnv S.l1.ne (λy hy=>?_) (λh' hns hsb=>⟨?_,?_⟩) S.kind
  .rcases mem_cons.mp hy with rfl|hy
   .exact S.l1.par
   .rw[mem_singleton]at hy;subst hy;exact S.l2.par
  .have hk:∀b o,s.heap.get? b=some o->h'.get? b=some o:=λb o e=>(hsb.2 b (ne_of_lt (Heap.lt_size e))).trans (Heap.get?_push_of_some _ e);exact I.nolimit.keeps hk
  .have hk:∀b o,s.heap.get? b=some o->h'.get? b=some o:=λb o e=>(hsb.2 b (ne_of_lt (Heap.lt_size e))).trans (Heap.get?_push_of_some _ e);have J:=Ve (t':=s.toks+[(p1,u),(p2,v)].length) (qual:=q) (f:=f) (cd:=.ref c) S I hf hr.hd hk hns rx ry;refine kla_codeExpr (wpAny_mono (he s H [] _ [some x,some y] H Q J ⟨y,rfl,h⟩) (λv s' hv=>?_) λ_ _ z=>z.elim);obtain⟨y,H',J',ry,q⟩:=hv;obtain⟨hh,g,d,t,os'⟩:=s';obtain rfl:os'=s.os:=J'.os;exact⟨y,H',I.call (h':=hh) (g':=g) (d':=d) (t':=t) (ch:=[]) J'.base J'.hok J'.bare (λb z=>absurd z (by simp)),ry,q⟩
 .intro res s' hq;cases res with
  |error e=>exact hq
  |ok fl=>
   cases fl with
   |ret u=>exact hq
   |next=>exact hq
   |brk=>exact hq
   |cont=>exact hq
end
end L2
namespace L2
open PySem PySem.Spec PyProof.Rows
inductive I where
 |non|bl (b:Bool)|int (i:Int)|str (x:Str)|tup (ds:List I)
inductive D where
 |im (i:I)|mu (n:Nat)|tm (ds:List D)|ro (ns:List Int)|op (nm:Str) (fs:List Str) (ds:List D)|fv (k:Nat) (ds:List D)
inductive MO where
 |lst (ds:List D)|dic (kvs:List (Key×D))
abbrev Hd:=List MO
abbrev Ls:=List (Option D)
def RoL(K:PySem.W.Frag)(H:Hp)(a:Addr)(xs:List V):Prop:=(∃o,H a=some (.frz o (.lst xs))) ∨
 ∃(o:Obj) (its:Array Value) (n:Nat),K.lookup a=some o/\o.cls=.type "list"/\o.dict=none/\o.data=.seq its n/\its.size<=sizeLine/\Vals xs its.toList
def RoL.sq{K:PySem.W.Frag}{H:Hp}{a:Addr}{xs:List V}(h:RoL K H a xs):SqL K H a xs:=by
 rcases h with⟨o,h⟩|h
 .exact .inl (.inr ⟨o,h⟩)
 .exact .inr h
def RoL.grow{K:PySem.W.Frag}{H H':Hp}{a:Addr}{xs:List V}(g:Grow H H')(h:RoL K H a xs):RoL K H' a xs:=by
 rcases h with⟨o,h⟩|h
 .exact .inl ⟨o,g.frz _ _ _ h⟩
 .exact .inr h
def CF(n:Nat):Prop:=n<=sizeLine
def G7(n:Nat):Prop:=n<sizeLine
def F4(i j:Int):Prop:=(-(2^64)<i/\i<2^64)∨(-(2^64)<j/\j<2^64)
def OM(i j:Int):Prop:=0<=j/\j<=1000000/\i.natAbs<2^64
def Kp(j:Int):Prop:=0<j/\j<1073741824
def Cz(j:Int):Prop:=0<j
def JT(j:Int):Prop:=-(2^62)<=j/\j<2^62
def WX(i j:Int):Prop:=(-(2^62)<=i/\i<2^62)/\-(2^62)<=j/\j<2^62
def TD(j:Int):Prop:=j<2^24/\-(2^62)<=j
def TC(i j:Int):Prop:=(-(2^62)<=i/\i<2^62)/\(-(2^62)<=j/\j<2^62)/\(j-i).toNat<=2^24
def AZ{n:Nat}(h:n<=1000000):CF n:=le_trans h (by rw[sizeLine_eq];decide)
def De{n:Nat}(h:n<1000000):G7 n:=lt_of_lt_of_le h (by rw[sizeLine_eq];decide)
def DB{i j:Int}(a:-1000000000000<=i)(b:i<=1000000000000):F4 i j:=.inl ⟨by omega,by omega⟩
def ER{j:Int}(a:-1000000000000<=j)(b:j<=1000000000000):JT j:=⟨by omega,by omega⟩
section
variable(K:PySem.W.Frag)
mutual
def RI(H:Hp):I->V->Prop
 |.non,v=>v=.non
 |.bl b,v=>v=.bl b
 |.int i,v=>v=.int i
 |.str x,v=>v=.str x
 |.tup ds,v=>∃a xs,v=.ref a/\SqT K H a xs/\RIs H ds xs
def RIs(H:Hp):List I->List V->Prop
 |[],xs=>xs=[]
 |d::ds,xs=>∃x r,xs=x::r/\RI H d x/\RIs H ds r
end
mutual
def RD(ρ:List Addr)(H:Hp):D->V->Prop
 |.im i,v=>RI K H i v
 |.mu n,v=>∃a,ρ[n]?=some a/\v=.ref a
 |.tm ds,v=>∃a xs,v=.ref a/\SqT K H a xs/\RDs ρ H ds xs
 |.ro ns,v=>∃a,v=.ref a/\RoL K H a (ns.map V.int)
 |.op nm fs ds,v=>∃a xs,v=.ref a/\ExR K nm fs H a xs/\RDs ρ H ds xs
 |.fv k ds,v=>∃a xs,v=.ref a/\FvR k H a xs/\RDs ρ H ds xs
def RDs(ρ:List Addr)(H:Hp):List D->List V->Prop
 |[],xs=>xs=[]
 |d::ds,xs=>∃x r,xs=x::r/\RD ρ H d x/\RDs ρ H ds r
end
def RKs(ρ:List Addr)(H:Hp):List (Key×D)->List (Key×V)->Prop
 |[],xs=>xs=[]
 |d::ds,xs=>∃x r,xs=x::r/\x.1=d.1/\RD K ρ H d.2 x.2/\RKs ρ H ds r
def RC(ρ:List Addr)(H:Hp):MO->HO->Prop
 |.lst ds,o=>∃xs,o=.lst xs/\RDs K ρ H ds xs
 |.dic kvs,o=>∃kv,o=.dK kv/\RKs K ρ H kvs kv
def Kf:List Value->List (Addr×Str×Pos)
 |.ref P::.str q _::.int l _::.int c _::r=>(P,q,⟨l.toNat,c.toNat,0,0⟩)::Kf r
 |_=>[]
def Yx(o:Obj):List (Addr×Str×Pos):=match o.cls,o.data with
 |.str _ _,.fields vs=>Kf vs.toList
 |_,_=>[]
def CY(K:PySem.W.Frag):List (Addr×Str×Pos):=match K.getLast? with
 |some p=>Yx p.2
 |none=>[]
def TabsOk(K:PySem.W.Frag)(H:Hp):Prop:=∀x∈CY K,∃ps,H x.1=some (.tbl ps)/\Dt H x.2.1 x.2.2 ps
structure RH(ρ:List Addr)(H:Hp)(hd:Hd):Prop where
 len:ρ.length=hd.length
 nd:ρ.Nodup
 tabs:TabsOk K H
 ob:∀(n:Nat) (o:MO) (a:Addr),hd[n]?=some o->ρ[n]?=some a->∃ho,H a=some ho/\RC K ρ H o ho
structure RL(ρ:List Addr)(H:Hp)(ls:Ls)(σ:St):Prop where
 len:ls.length=σ.length
 ob:∀(i:Nat) (d:D),ls[i]?=some (some d)->∃v,σ[i]?=some (some v)/\RD K ρ H d v
end
structure Ext(ρ:List Addr)(H:Hp)(ρ':List Addr)(H':Hp):Prop where
 pre:∃r,ρ'=ρ++r/\∀b∈r,H b=none
 keep:∀b o,H b=some o->b∉ρ->(∀ps,o≠.tbl ps)->H' b=some o
 tab:∀b ps,H b=some (.tbl ps)->∃ps',H' b=some (.tbl ps')
def nt{o:HO}(h:match o with|.tbl _=>False|_=>True:=by trivial):∀ps,o≠.tbl ps:=λps e=>by subst e;exact h
theorem TabsOk.upd{K:PySem.W.Frag}{H:Hp}(t:TabsOk K H){a:Addr}{ho:HO}(h1:∀ps,H a≠some (.tbl ps))(h2:∀φ,H a≠some (.ext φ)):TabsOk K (upd H a ho):=λx hx=>by
 obtain⟨ps,e,g⟩:=t x hx;have ne:x.1≠a:=λz=>h1 ps (by rw[<- z];exact e);refine⟨ps,by rw[AC ne];exact e,?_⟩;rcases g with g|⟨c,g1,g2⟩
 .exact .inl g
 .have nc:c≠a:=λz=>h2 _ (by rw[<- z];exact g2);exact .inr ⟨c,g1,by rw[AC nc];exact g2⟩
section
variable{K:PySem.W.Frag}{ρ ρ' ρ1 ρ2:List Addr}{H H' H1 H2:Hp}{hd hd' hd1:Hd}
mutual
theorem RI.grow(g:Grow H H'):∀{i:I} {v:V},RI K H i v->RI K H' i v
 |.non,v,h=>by simpa only[RI]using h
 |.bl b,v,h=>by simpa only[RI]using h
 |.int b,v,h=>by simpa only[RI]using h
 |.str b,v,h=>by simpa only[RI]using h
 |.tup ds,v,h=>by
  simp only[RI]at h ⊢;obtain⟨a,xs,e,q,r⟩:=h;exact⟨a,xs,e,g.sq q,RIs.grow g r⟩
theorem RIs.grow(g:Grow H H'):∀{i:List I} {v:List V},RIs K H i v->RIs K H' i v
 |[],v,h=>by simpa only[RIs]using h
 |d::ds,v,h=>by
  simp only[RIs]at h ⊢;obtain⟨x,r,e,q,z⟩:=h;exact⟨x,r,e,q.grow g,RIs.grow g z⟩
end
def RH.mut(h:RH K ρ H hd){a:Addr}(m:a∈ρ):(∃xs,H a=some (.lst xs))∨∃kv,H a=some (.dK kv):=by
 obtain⟨n,e⟩:=mem_iff_getElem?.mp m;have hn:n<hd.length:=by rw[<- h.len];exact(List.getElem?_eq_some_iff.mp e).1
 obtain⟨ho,e1,e2⟩:=h.ob n hd[n] a (by simp[hn]) e;cases q:hd[n]with
 |lst ds=>rw[q]at e2;obtain⟨xs,rfl,_⟩:=e2;exact .inl ⟨xs,e1⟩
 |dic ds=>rw[q]at e2;obtain⟨xs,rfl,_⟩:=e2;exact .inr ⟨xs,e1⟩
def RH.stb_out(h:RH K ρ H hd){a:Addr}{o:HO}(s:Stb o)(e:H a=some o):a∉ρ:=λm=>by
 rcases h.mut m with⟨y,z⟩|⟨y,z⟩<;>(rw[e]at z;cases z;exact s)
def WC{o:HO}(s:Stb o):∀ps,o≠.tbl ps:=λps e=>by subst e;exact s
def Ext.grow(e:Ext ρ H ρ' H')(h:RH K ρ H hd):Grow H H':=⟨λb o s q=>e.keep b _ q (h.stb_out s q) (WC s)⟩
def Ext.refl:Ext ρ H ρ H:=⟨⟨[],by simp,by simp⟩,λ_ _ h _ _=>h,λ_ ps h=>⟨ps,h⟩⟩
def Ext.trans(e:Ext ρ H ρ1 H1)(h0:RH K ρ1 H1 hd1)(e2:Ext ρ1 H1 ρ2 H2):Ext ρ H ρ2 H2:=by
 obtain⟨r1,rfl,f1⟩:=e.pre;obtain⟨r2,rfl,f2⟩:=e2.pre;refine⟨⟨r1++r2,by simp,λb m=>?_⟩,λb o q n t=>?_,λb ps q=>?_⟩
 .rcases mem_append.mp m with m|m
  .exact f1 b m
  .have z:=f2 b m;cases q:H b with
   |none=>rfl
   |some o=>
    by_cases n:b∈ρ
    .rcases h0.mut (mem_append_left r1 n)with⟨y,w⟩|⟨y,w⟩<;>(rw[z]at w;cases w)
    .by_cases t:∃ps,o=.tbl ps
     .obtain⟨ps,rfl⟩:=t;obtain⟨ps',this⟩:=e.tab b ps q;rw[z]at this;cases this
     .have:=e.keep b o q n λps y=>t ⟨ps,y⟩;rw[z]at this;cases this
 .refine e2.keep b o (e.keep b o q n t) (λm=>?_) t;rcases mem_append.mp m with m|m
  .exact n m
  .have:=f1 b m;rw[q]at this;cases this
 .obtain⟨ps',q'⟩:=e.tab b ps q;exact e2.tab b ps' q'
mutual
theorem RD.mono(g:Grow H H')(r:List Addr):∀{d:D} {v:V},RD K ρ H d v->RD K (ρ++r) H' d v
 |.im i,v,h=>by simp only[RD]at h ⊢;exact h.grow g
 |.mu n,v,h=>by
  simp only[RD]at h ⊢;obtain⟨a,e,q⟩:=h;exact⟨a,by rw[List.getElem?_append_left (List.getElem?_eq_some_iff.mp e).1];exact e,q⟩
 |.tm ds,v,h=>by
  simp only[RD]at h ⊢;obtain⟨a,xs,e,q,z⟩:=h;exact⟨a,xs,e,g.sq q,RDs.mono g r z⟩
 |.ro ns,v,h=>by
  simp only[RD]at h ⊢;obtain⟨a,e,q⟩:=h;exact⟨a,e,q.grow g⟩
 |.op nm fs ds,v,h=>by
  simp only[RD]at h ⊢;obtain⟨a,xs,e,q,z⟩:=h;exact⟨a,xs,e,q.grow g,RDs.mono g r z⟩
 |.fv k ds,v,h=>by
  simp only[RD]at h ⊢;obtain⟨a,xs,e,q,z⟩:=h;exact⟨a,xs,e,q.grow g,RDs.mono g r z⟩
theorem RDs.mono(g:Grow H H')(r:List Addr):∀{d:List D} {v:List V},RDs K ρ H d v->RDs K (ρ++r) H' d v
 |[],v,h=>by simpa only[RDs]using h
 |d::ds,v,h=>by
  simp only[RDs]at h ⊢;obtain⟨x,r',e,q,z⟩:=h;exact⟨x,r',e,q.mono g r,RDs.mono g r z⟩
end
theorem RKs.mono(g:Grow H H')(r:List Addr):∀{d:List (Key×D)} {v:List (Key×V)},RKs K ρ H d v->RKs K (ρ++r) H' d v
 |[],v,h=>by simpa only[RKs]using h
 |d::ds,v,h=>by
  simp only[RKs]at h ⊢;obtain⟨x,r',e,q1,q,z⟩:=h;exact⟨x,r',e,q1,q.mono g r,RKs.mono g r z⟩
theorem RC.mono(g:Grow H H')(r:List Addr){o:MO}{ho:HO}(h:RC K ρ H o ho):RC K (ρ++r) H' o ho:=by
 cases o with
 |lst ds=>obtain⟨xs,e,q⟩:=h;exact⟨xs,e,q.mono g r⟩
 |dic ds=>obtain⟨xs,e,q⟩:=h;exact⟨xs,e,q.mono g r⟩
def RD.ext(h:RH K ρ H hd)(e:Ext ρ H ρ' H'){d:D}{v:V}(q:RD K ρ H d v):RD K ρ' H' d v:=by
 obtain⟨r,rfl,_⟩:=e.pre;exact q.mono (e.grow h) r
def RDs.ext(h:RH K ρ H hd)(e:Ext ρ H ρ' H'){d:List D}{v:List V}(q:RDs K ρ H d v):RDs K ρ' H' d v:=by
 obtain⟨r,rfl,_⟩:=e.pre;exact q.mono (e.grow h) r
theorem RL.ext(h:RH K ρ H hd)(e:Ext ρ H ρ' H'){ls:Ls}{σ:St}(q:RL K ρ H ls σ):RL K ρ' H' ls σ:=
 ⟨q.len,λi d z=>let ⟨v,a,b⟩:=q.ob i d z;⟨v,a,b.ext h e⟩⟩
theorem RDs.len:∀{ds:List D} {xs:List V},RDs K ρ H ds xs->xs.length=ds.length
 |[],xs,h=>by simp only[RDs]at h;rw[h];rfl
 |d::ds,xs,h=>by
  simp only[RDs]at h;obtain⟨x,r,rfl,_,z⟩:=h;simp[RDs.len z]
theorem RDs.get:∀{ds:List D} {xs:List V} {i:Nat} {d:D},RDs K ρ H ds xs->ds[i]?=some d->∃x,xs[i]?=some x/\RD K ρ H d x
 |[],xs,i,d,h,e=>by simp at e
 |d::ds,xs,0,e,h,q=>by
  simp only[RDs]at h;obtain⟨x,r,rfl,z,_⟩:=h;simp at q;subst q;exact⟨x,rfl,z⟩
 |d::ds,xs,i+1,e,h,q=>by
  simp only[RDs]at h;obtain⟨x,r,rfl,_,z⟩:=h;obtain⟨y,a,b⟩:=RDs.get (i:=i) z (by simpa using q);exact⟨y,by simpa using a,b⟩
def RDs.nil:RDs K ρ H [] []:=by simp[RDs]
def RDs.cons{d:D}{v:V}{ds:List D}{vs:List V}(h:RD K ρ H d v)(t:RDs K ρ H ds vs):RDs K ρ H (d::ds) (v::vs):=by
 simp only[RDs];exact⟨v,vs,rfl,h,t⟩
theorem RDs.app:∀{ds es:List D} {xs ys:List V},RDs K ρ H ds xs->RDs K ρ H es ys->RDs K ρ H (ds++es) (xs++ys)
 |[],es,xs,ys,h,t=>by simp only[RDs]at h;subst h;simpa using t
 |d::ds,es,xs,ys,h,t=>by
  simp only[RDs]at h;obtain⟨x,r,rfl,z,q⟩:=h;simp only[cons_append];exact .cons z (q.app t)
theorem RDs.set:∀{ds:List D} {xs:List V} {d:D} {v:V} (i:Nat),RDs K ρ H ds xs->RD K ρ H d v->RDs K ρ H (ds.set i d) (xs.set i v)
 |[],xs,d,v,i,h,t=>by simp only[RDs]at h;subst h;simp[RDs]
 |d::ds,xs,e,v,0,h,t=>by
  simp only[RDs]at h;obtain⟨x,r,rfl,z,q⟩:=h;simpa using RDs.cons t q
 |d::ds,xs,e,v,i+1,h,t=>by
  simp only[RDs]at h;obtain⟨x,r,rfl,z,q⟩:=h;simpa using RDs.cons z (q.set i t)
theorem RDs.drop:∀{ds:List D} {xs:List V} (n:Nat),RDs K ρ H ds xs->RDs K ρ H (ds.drop n) (xs.drop n)
 |ds,xs,0,h=>by simpa using h
 |[],xs,n+1,h=>by simp only[RDs]at h;subst h;simp[RDs]
 |d::ds,xs,n+1,h=>by
  simp only[RDs]at h;obtain⟨x,r,rfl,z,q⟩:=h;simpa using q.drop n
theorem RDs.take:∀{ds:List D} {xs:List V} (n:Nat),RDs K ρ H ds xs->RDs K ρ H (ds.take n) (xs.take n)
 |ds,xs,0,h=>by simp[RDs]
 |[],xs,n+1,h=>by simp only[RDs]at h;subst h;simp[RDs]
 |d::ds,xs,n+1,h=>by
  simp only[RDs]at h;obtain⟨x,r,rfl,z,q⟩:=h;simpa using RDs.cons z (q.take n)
theorem RIs.ds:∀{is:List I} {xs:List V},RIs K H is xs->RDs K ρ H (is.map D.im) xs
 |[],xs,h=>by simpa only[RIs,RDs,map_nil]using h
 |i::is,xs,h=>by
  simp only[RIs]at h;obtain⟨x,r,rfl,z,q⟩:=h;exact .cons (by simpa only[RD]using z) q.ds
theorem RDs.is:∀{is:List I} {xs:List V},RDs K ρ H (is.map D.im) xs->RIs K H is xs
 |[],xs,h=>by simpa only[RIs,RDs,map_nil]using h
 |i::is,xs,h=>by
  simp only[map_cons,RDs]at h;obtain⟨x,r,rfl,z,q⟩:=h;simp only[RIs];exact⟨x,r,rfl,by simpa only[RD]using z,q.is⟩
def RH.put(h:RH K ρ H hd){n:Nat}{a:Addr}(hn:ρ[n]?=some a){o:MO}{ho:HO}(c:RC K ρ H o ho):RH K ρ (upd H a ho) (hd.set n o)/\Ext ρ H ρ (upd H a ho):=by
 have ha:=h.mut (mem_of_getElem? hn);have n1:∀ps,H a≠some (.tbl ps):=λps e=>by rcases ha with⟨y,z⟩|⟨y,z⟩<;>(rw[e]at z;cases z)
 have n2:∀φ,H a≠some (.ext φ):=λps e=>by rcases ha with⟨y,z⟩|⟨y,z⟩<;>(rw[e]at z;cases z)
 have ex:Ext ρ H ρ (upd H a ho):=⟨⟨[],by simp,by simp⟩,λb o q m _=>by
  have:b≠a:=λz=>m (by rw[z];exact mem_of_getElem? hn);rw[AC this];exact q,λb ps q=>⟨ps,(AC (show b≠a from λz=>n1 ps (by rw[<- z];exact q))).trans q⟩⟩
 have gr:=ex.grow h;refine⟨⟨by simp[h.len],h.nd,h.tabs.upd n1 n2,λm o' b e1 e2=>?_⟩,ex⟩;have hm:m<hd.length:=by rw[<- h.len];exact(List.getElem?_eq_some_iff.mp e2).1
 by_cases hmn:m=n
 .subst hmn;rw[hn]at e2;cases e2;rw[List.getElem?_set_self hm]at e1;cases e1;exact⟨ho,AM,by simpa using c.mono gr []⟩
 .rw[List.getElem?_set_ne (λz=>hmn z.symm)]at e1;obtain⟨ho',q1,q2⟩:=h.ob m o' b e1 e2;have:b≠a:=λz=>by
   subst z;have l1:=(List.getElem?_eq_some_iff.mp e2).1;have l2:=(List.getElem?_eq_some_iff.mp hn).1;exact hmn ((List.getElem?_inj l1 h.nd).mp (e2.trans hn.symm))
  exact⟨ho',by rw[AC this];exact q1,by simpa using q2.mono gr []⟩
theorem RH.lst(h:RH K ρ H hd){n:Nat}{a:Addr}{ds:List D}(hn:ρ[n]?=some a)(e:hd[n]?=some (.lst ds)):∃xs,H a=some (.lst xs)/\RDs K ρ H ds xs:=by
 obtain⟨ho,q,xs,rfl,r⟩:=h.ob n _ a e hn;exact⟨xs,q,r⟩
theorem RH.dic(h:RH K ρ H hd){n:Nat}{a:Addr}{ds:List (Key×D)}(hn:ρ[n]?=some a)(e:hd[n]?=some (.dic ds)):∃xs,H a=some (.dK xs)/\RKs K ρ H ds xs:=by
 obtain⟨ho,q,xs,rfl,r⟩:=h.ob n _ a e hn;exact⟨xs,q,r⟩
def RH.hid(h:RH K ρ H hd){a:Addr}(ha:H a=none){ho:HO}:RH K ρ (upd H a ho) hd/\Ext ρ H ρ (upd H a ho):=by
 have out:a∉ρ:=λm=>by rcases h.mut m with⟨y,z⟩|⟨y,z⟩<;>(rw[ha]at z;cases z)
 have ex:Ext ρ H ρ (upd H a ho):=⟨⟨[],by simp,by simp⟩,λb o q n _=>by rw[AC (AS q ha)];exact q,λb ps q=>⟨ps,by rw[AC (AS q ha)];exact q⟩⟩
 have gr:=ex.grow h;refine⟨⟨h.len,h.nd,h.tabs.upd (by simp[ha]) (by simp[ha]),λm o' b e1 e2=>?_⟩,ex⟩;obtain⟨ho',q1,q2⟩:=h.ob m o' b e1 e2;exact⟨ho',by rw[AC (AS q1 ha)];exact q1,by simpa using q2.mono gr []⟩
def RH.hput(h:RH K ρ H hd){a:Addr}(out:a∉ρ){xs:List V}{ho:HO}(hl:H a=some (.lst xs)):RH K ρ (upd H a ho) hd:=by
 have gr:Grow H (upd H a ho):=Grow.refl.put (.lst hl);refine⟨h.len,h.nd,h.tabs.upd (by simp[hl]) (by simp[hl]),λm o' b e1 e2=>?_⟩;obtain⟨ho',q1,q2⟩:=h.ob m o' b e1 e2;have:b≠a:=λz=>out (by rw[<- z];exact mem_of_getElem? e2);exact⟨ho',by rw[AC this];exact q1,by simpa using q2.mono gr []⟩
end
end L2
namespace L2
open PySem PySem.Spec PyProof.Rows
abbrev ME:=Ls->Hd->Option (D×Hd)
abbrev MT:=Ls->Hd->Option (Bool×Hd)
abbrev MA:=Ls->Hd->Option (List D×Hd)
inductive Fl where
 |nx (ls:Ls)|rt (d:D)|bk (ls:Ls)|ct (ls:Ls)
abbrev MS:=Ls->Hd->Option (Fl×Hd)
section
variable(K:PySem.W.Frag)
def RE(t:TE)(m:ME):Prop:=∀(ρ:List Addr) (σ:St) (H:Hp) (hd:Hd) (ls:Ls) (Q:VK) (d:D) (hd':Hd),RH K ρ H hd->RL K ρ H ls σ->m ls hd=some (d,hd') ->
 (∀ρ' H' v,Ext ρ H ρ' H'->RH K ρ' H' hd'->RD K ρ' H' d v->Q v H')->t σ H Q
def RT(t:TT)(m:MT):Prop:=∀(ρ:List Addr) (σ:St) (H:Hp) (hd:Hd) (ls:Ls) (Q:Bool->Hp->Prop) (d:Bool) (hd':Hd),RH K ρ H hd->RL K ρ H ls σ->m ls hd=some (d,hd') ->
 (∀ρ' H',Ext ρ H ρ' H'->RH K ρ' H' hd'->Q d H')->t σ H Q
def RA(t:TA)(m:MA):Prop:=∀(ρ:List Addr) (σ:St) (H:Hp) (hd:Hd) (ls:Ls) (Q:List V->Hp->Prop) (d:List D) (hd':Hd),RH K ρ H hd->RL K ρ H ls σ->m ls hd=some (d,hd') ->
 (∀ρ' H' v,Ext ρ H ρ' H'->RH K ρ' H' hd'->RDs K ρ' H' d v->Q v H')->t σ H Q
def RN(t:TE)(m:MA):Prop:=∀(ρ:List Addr) (σ:St) (H:Hp) (hd:Hd) (ls:Ls) (Q:VK) (d:List D) (hd':Hd),RH K ρ H hd->RL K ρ H ls σ->m ls hd=some (d,hd') ->
 (∀ρ' H' a xs,Ext ρ H ρ' H'->RH K ρ' H' hd'->H a=none->a∉ρ'->H' a=some (.lst xs)->RDs K ρ' H' d xs->Q (.ref a) H')->t σ H Q
def Zv(E:Ends)(ρ:List Addr)(H:Hp):Fl->Prop
 |.nx ls=>∀σ,RL K ρ H ls σ->E.nx σ H
 |.bk ls=>∀σ,RL K ρ H ls σ->E.bk σ H
 |.ct ls=>∀σ,RL K ρ H ls σ->E.ct σ H
 |.rt d=>∀v,RD K ρ H d v->E.rt v H
def RS(t:TS)(m:MS):Prop:=∀(ρ:List Addr) (σ:St) (H:Hp) (hd:Hd) (ls:Ls) (E:Ends) (f:Fl) (hd':Hd),RH K ρ H hd->RL K ρ H ls σ->m ls hd=some (f,hd') ->
 (∀ρ' H',Ext ρ H ρ' H'->RH K ρ' H' hd'->Zv K E ρ' H' f)->t E σ H
def RB(r:R2)(f:D->D->Hd->Option (D×Hd)):Prop:=∀(ρ:List Addr) (H:Hp) (hd:Hd) (d e:D) (v u:V) (Q:VK) (z:D) (hd':Hd),RH K ρ H hd->RD K ρ H d v->RD K ρ H e u->f d e hd=some (z,hd') ->
 (∀ρ' H' w,Ext ρ H ρ' H'->RH K ρ' H' hd'->RD K ρ' H' z w->Q w H')->r v u H Q
def RF(r:List V->Hp->VK->Prop)(f:List D->Hd->Option (D×Hd)):Prop:=∀(ρ:List Addr) (H:Hp) (hd:Hd) (ds:List D) (vs:List V) (Q:VK) (z:D) (hd':Hd),RH K ρ H hd->RDs K ρ H ds vs->f ds hd=some (z,hd') ->
 (∀ρ' H' w,Ext ρ H ρ' H'->RH K ρ' H' hd'->RD K ρ' H' z w->Q w H')->r vs H Q
def RG(tp:Bool)(r:List V->Hp->VK->Prop)(g:List D->Option D):Prop:=∀(ρ:List Addr) (H:Hp) (hd:Hd) (a:Addr) (xs:List V) (ds:List D) (Q:VK) (z:D),RH K ρ H hd->(SqL K H a xs∨(tp=true/\SqT K H a xs))->RDs K ρ H ds xs->g ds=some z ->
 (∀H' w,Ext ρ H ρ H'->RH K ρ H' hd->RD K ρ H' z w->Q w H')->r [.ref a] H Q
end
structure QE(K:PySem.W.Frag)(X:Cx)(e:Expr)(t:TE)(m:ME):Prop where
 p:PE X e t
 r:RE K t m
structure QT(K:PySem.W.Frag)(X:Cx)(e:Expr)(t:TT)(m:MT):Prop where
 p:PT X e t
 r:RT K t m
structure QW(K:PySem.W.Frag)(X:Cx)(e:Expr)(t:TT)(m:MT):Prop where
 p:PW X e t
 r:RT K t m
structure QA(K:PySem.W.Frag)(X:Cx)(e:List Expr)(t:TA)(m:MA):Prop where
 p:PA X e t
 r:RA K t m
structure QN(K:PySem.W.Frag)(X:Cx)(e:Expr)(t:TE)(m:MA):Prop where
 p:PE X e t
 r:RN K t m
structure QS(K:PySem.W.Frag)(X:Cx)(e:Stmt)(t:TS)(m:MS):Prop where
 p:PS X e t
 r:RS K t m
structure QSs(K:PySem.W.Frag)(X:Cx)(e:List Stmt)(t:TS)(m:MS):Prop where
 p:PSs X e t
 r:RS K t m
def AW:D->Option (List D)
 |.im (.tup is)=>some (is.map .im)
 |.tm ds=>some ds
 |_=>none
def Ak(hd:Hd):D->Option (List D)
 |.mu n=>match hd[n]? with
  |some (.lst ds)=>some ds
  |_=>none
 |.ro ns=>some (ns.map λn=>.im (.int n))
 |_=>none
def Ax(hd:Hd)(d:D):Option (List D):=match AW d with
 |some ds=>some ds
 |none=>Ak hd d
def B1:List D->Option (List I)
 |[]=>some []
 |.im i::r=>(B1 r).map (i::·)
 |_::_=>none
def AV(ds:List D):D:=match B1 ds with
 |some is=>.im (.tup is)
 |none=>.tm ds
def Al:List D->Option (List Int)
 |[]=>some []
 |.im (.int i)::r=>(Al r).map (i::·)
 |_::_=>none
def C6:List D->Option (List Bool)
 |[]=>some []
 |.im (.bl i)::r=>(C6 r).map (i::·)
 |_::_=>none
section
variable{K:PySem.W.Frag}{ρ ρ':List Addr}{H H':Hp}{hd hd':Hd}
theorem GF:∀{ds:List D} {is:List I},B1 ds=some is->ds=is.map .im
 |[],is,h=>by simp[B1]at h;subst h;rfl
 |.im i::r,is,h=>by
  simp only[B1,map_eq_some_iff]at h;obtain⟨js,e,rfl⟩:=h;simp[GF e]
 |.mu _::_,is,h=>by simp[B1]at h
 |.tm _::_,is,h=>by simp[B1]at h
 |.ro _::_,is,h=>by simp[B1]at h
 |.op _ _ _::_,is,h=>by simp[B1]at h
 |.fv _ _::_,is,h=>by simp[B1]at h
theorem Cf:∀{ds:List D} {is:List Int},Al ds=some is->ds=is.map λi=>.im (.int i)
 |[],is,h=>by simp[Al]at h;subst h;rfl
 |.im (.int i)::r,is,h=>by
  simp only[Al,map_eq_some_iff]at h;obtain⟨js,e,rfl⟩:=h;simp[Cf e]
 |.im (.bl _)::_,is,h=>by simp[Al]at h
 |.im (.str _)::_,is,h=>by simp[Al]at h
 |.im .non::_,is,h=>by simp[Al]at h
 |.im (.tup _)::_,is,h=>by simp[Al]at h
 |.mu _::_,is,h=>by simp[Al]at h
 |.tm _::_,is,h=>by simp[Al]at h
 |.ro _::_,is,h=>by simp[Al]at h
 |.op _ _ _::_,is,h=>by simp[Al]at h
 |.fv _ _::_,is,h=>by simp[Al]at h
theorem Jj:∀{ds:List D} {is:List Bool},C6 ds=some is->ds=is.map λi=>.im (.bl i)
 |[],is,h=>by simp[C6]at h;subst h;rfl
 |.im (.bl i)::r,is,h=>by
  simp only[C6,map_eq_some_iff]at h;obtain⟨js,e,rfl⟩:=h;simp[Jj e]
 |.im (.int _)::_,is,h=>by simp[C6]at h
 |.im (.str _)::_,is,h=>by simp[C6]at h
 |.im .non::_,is,h=>by simp[C6]at h
 |.im (.tup _)::_,is,h=>by simp[C6]at h
 |.mu _::_,is,h=>by simp[C6]at h
 |.tm _::_,is,h=>by simp[C6]at h
 |.ro _::_,is,h=>by simp[C6]at h
 |.op _ _ _::_,is,h=>by simp[C6]at h
 |.fv _ _::_,is,h=>by simp[C6]at h
@[simp] theorem Qg(is:List I):B1 (is.map .im)=some is:=by induction is<;>simp_all [B1]
@[simp] theorem Ce(is:List Int):Al (is.map λi=>.im (.int i))=some is:=by induction is<;>simp_all [Al]
@[simp] theorem GD(is:List Bool):C6 (is.map λi=>.im (.bl i))=some is:=by induction is<;>simp_all [C6]
theorem ES:∀{ns:List Int} {xs:List V},RDs K ρ H (ns.map λi=>.im (.int i)) xs->xs=ns.map V.int
 |[],xs,h=>by simpa [RDs]using h
 |n::ns,xs,h=>by
  simp only[map_cons,RDs,RD,RI]at h;obtain⟨x,r,rfl,rfl,z⟩:=h;rw[ES z];rfl
theorem ET:∀{ns:List Int},RDs K ρ H (ns.map λi=>.im (.int i)) (ns.map V.int)
 |[]=>by simp[RDs]
 |n::ns=>by simp only[map_cons];exact .cons (by simp[RD,RI]) ET
theorem LV:∀{ns:List Bool} {xs:List V},RDs K ρ H (ns.map λi=>.im (.bl i)) xs->xs=ns.map V.bl
 |[],xs,h=>by simpa [RDs]using h
 |n::ns,xs,h=>by
  simp only[map_cons,RDs,RD,RI]at h;obtain⟨x,r,rfl,rfl,z⟩:=h;rw[LV z];rfl
theorem RD.tup{d:D}{v:V}{ds:List D}(h:RD K ρ H d v)(e:AW d=some ds):∃a xs,v=.ref a/\SqT K H a xs/\RDs K ρ H ds xs:=by
 cases d with
 |im i=>
  cases i with
  |tup is=>
   simp only[AW,Option.some.injEq]at e;subst e;simp only[RD,RI]at h;obtain⟨a,xs,rfl,q,r⟩:=h;exact⟨a,xs,rfl,q,r.ds⟩
  |_=>simp[AW]at e
 |tm es=>
  simp only[AW,Option.some.injEq]at e;subst e;simpa only[RD]using h
 |_=>simp[AW]at e
theorem RD.lst{d:D}{v:V}{ds:List D}(hR:RH K ρ H hd)(h:RD K ρ H d v)(e:Ak hd d=some ds):∃a xs,v=.ref a/\SqL K H a xs/\RDs K ρ H ds xs:=by
 cases d with
 |mu n=>
  simp only[Ak]at e;simp only[RD]at h;obtain⟨a,hn,rfl⟩:=h;split at e
  .next q=>
   cases e;obtain⟨xs,e1,e2⟩:=hR.lst hn q;exact⟨a,xs,rfl,SqL.of e1,e2⟩
  .cases e
 |ro ns=>
  simp only[Ak,Option.some.injEq]at e;subst e;simp only[RD]at h;obtain⟨a,rfl,q⟩:=h;exact⟨a,_,rfl,q.sq,ET⟩
 |_=>simp[Ak]at e
def RD.seq{d:D}{v:V}{ds:List D}(hR:RH K ρ H hd)(h:RD K ρ H d v)(e:Ax hd d=some ds):∃a xs,v=.ref a/\(SqL K H a xs∨SqT K H a xs)/\RDs K ρ H ds xs:=by
 unfold Ax at e;split at e
 .next q=>
  cases e;obtain⟨a,xs,e1,e2,e3⟩:=h.tup q;exact⟨a,xs,e1,.inr e2,e3⟩
 .obtain⟨a,xs,e1,e2,e3⟩:=h.lst hR e;exact⟨a,xs,e1,.inl e2,e3⟩
def Bn{ds:List D}{a:Addr}{xs:List V}(q:SqT K H a xs)(r:RDs K ρ H ds xs):RD K ρ H (AV ds) (.ref a):=by
 unfold AV;split
 .next e=>
  rw[GF e]at r;simp only[RD,RI];exact⟨a,xs,rfl,q,r.is⟩
 .simp only[RD];exact⟨a,xs,rfl,q,r⟩
def A0(i:Nat):ME:=λls hd=>match ls[i]? with
 |some (some d)=>some (d,hd)
 |_=>none
def Wg{i:Nat}:RE K (Nq i) (A0 i):=by
 and_intros;unfold A0 at hm;split at hm
 .next e=>
  cases hm;obtain⟨v,e1,e2⟩:=hL.ob i _ e;exact⟨v,e1,hQ ρ H v .refl hR e2⟩
 .cases hm
def mC(i:I):ME:=λ_ hd=>some (.im i,hd)
def OF{v:V}{i:I}(h:∀H,RI K H i v):RE K (tC v) (mC i):=by
 and_intros;cases hm;exact hQ ρ H v .refl hR (by simpa only[RD]using h H)
def mOp(f:D->D->Hd->Option (D×Hd))(ma mb:ME):ME:=λls hd=>(ma ls hd).bind λp=>(mb ls p.2).bind λq=>f p.1 q.1 q.2
def Ki{r:R2}{f:D->D->Hd->Option (D×Hd)}{ta tb:TE}{ma mb:ME}(hr:RB K r f)(ha:RE K ta ma)(hb:RE K tb mb):RE K (tOp r ta tb) (mOp f ma mb):=by
 and_intros;obtain⟨⟨d1,h1⟩,e1,hm⟩:=c5 hm;obtain⟨⟨d2,h2⟩,e2,hm⟩:=c5 hm;refine ha ρ σ H hd ls _ d1 h1 hR hL e1 λρ1 H1 v1 x1 R1 r1=>?_;refine hb ρ1 σ H1 h1 ls _ d2 h2 R1 (hL.ext hR x1) e2 λρ2 H2 v2 x2 R2 r2=>?_;exact hr ρ2 H2 h2 d1 d2 v1 v2 Q d hd' R2 (r1.ext R1 x2) r2 hm λρ' H' w x3 R3 r3=>hQ ρ' H' w ((x1.trans R1 x2).trans R2 x3) R3 r3
def Co(ta tb:MT):MT:=λls hd=>(ta ls hd).bind λp=>if p.1=true then tb ls p.2 else some (false,p.2)
def mOr(ta tb:MT):MT:=λls hd=>(ta ls hd).bind λp=>if p.1=true then some (true,p.2)else tb ls p.2
def Bw(ta:MT):MT:=λls hd=>(ta ls hd).bind λp=>some (!p.1,p.2)
def WQ{ta tb:TT}{ma mb:MT}(ha:RT K ta ma)(hb:RT K tb mb):RT K (RO ta tb) (Co ma mb):=by
 and_intros;obtain⟨⟨d1,h1⟩,e1,hm⟩:=c5 hm;refine ha ρ σ H hd ls _ d1 h1 hR hL e1 λρ1 H1 x1 R1=>?_;cases d1 with
 |true=>
  rw[if_pos rfl]at hm ⊢;exact hb ρ1 σ H1 h1 ls Q d hd' R1 (hL.ext hR x1) hm λρ2 H2 x2 R2=>hQ ρ2 H2 (x1.trans R1 x2) R2
 |false=>
  rw[if_neg Bool.false_ne_true]at hm ⊢;cases hm;exact hQ ρ1 H1 x1 R1
def Yy{ta tb:TT}{ma mb:MT}(ha:RT K ta ma)(hb:RT K tb mb):RT K (tOr ta tb) (mOr ma mb):=by
 and_intros;obtain⟨⟨d1,h1⟩,e1,hm⟩:=c5 hm;refine ha ρ σ H hd ls _ d1 h1 hR hL e1 λρ1 H1 x1 R1=>?_;cases d1 with
 |true=>
  rw[if_pos rfl]at hm ⊢;cases hm;exact hQ ρ1 H1 x1 R1
 |false=>
  rw[if_neg Bool.false_ne_true]at hm ⊢;exact hb ρ1 σ H1 h1 ls Q d hd' R1 (hL.ext hR x1) hm λρ2 H2 x2 R2=>hQ ρ2 H2 (x1.trans R1 x2) R2
def WO{ta:TT}{ma:MT}(ha:RT K ta ma):RT K (Qz ta) (Bw ma):=by
 and_intros;obtain⟨⟨d1,h1⟩,e1,hm⟩:=c5 hm;cases hm;exact ha ρ σ H hd ls _ d1 h1 hR hL e1 λρ1 H1 x1 R1=>hQ ρ1 H1 x1 R1
open Classical in
def Cn(hd:Hd):D->Option Bool
 |.im .non=>some false
 |.im (.bl b)=>some b
 |.im (.int i)=>some (i != 0)
 |.im (.str x)=>if CF x.length then some ((x.length:Int) != 0)else none
 |.im (.tup is)=>some (!is.isEmpty)
 |.tm is=>some (!is.isEmpty)
 |.ro ns=>some (!ns.isEmpty)
 |.op _ _ _=>none
 |.fv _ _=>none
 |.mu n=>match hd[n]? with
  |some (.lst ds)=>some (!ds.isEmpty)
  |some (.dic ds)=>some (!ds.isEmpty)
  |none=>none
def Cs{α β:Type}{xs:List α}{ys:List β}(h:xs.length=ys.length):xs.isEmpty=ys.isEmpty:=by
 cases xs<;>cases ys<;>simp_all
theorem RKs.len:∀{ds:List (Key×D)} {xs:List (Key×V)},RKs K ρ H ds xs->xs.length=ds.length
 |[],xs,h=>by simp only[RKs]at h;rw[h];rfl
 |d::ds,xs,h=>by
  simp only[RKs]at h;obtain⟨x,r,rfl,_,_,z⟩:=h;simp[RKs.len z]
def Ts{d:D}{v:V}{b:Bool}(hR:RH K ρ H hd)(h:RD K ρ H d v)(e:Cn hd d=some b):Mc K v H b:=by
 cases d with
 |im i=>
  cases i with
  |non=>simp only[RD,RI]at h;subst h;simp only[Cn,Option.some.injEq]at e;subst e;exact rfl
  |bl c=>simp only[RD,RI]at h;subst h;simp only[Cn,Option.some.injEq]at e;subst e;exact rfl
  |int c=>simp only[RD,RI]at h;subst h;simp only[Cn,Option.some.injEq]at e;subst e;exact rfl
  |str c=>
   simp only[RD,RI]at h;subst h;simp only[Cn]at e;split at e
   .next z=>cases e;exact⟨z,rfl⟩
   .cases e
  |tup is=>
   obtain⟨a,xs,rfl,q,r⟩:=h.tup (ds:=is.map .im) rfl;simp only[Cn,Option.some.injEq]at e;subst e;exact .inr (.inl ⟨xs,q,by rw[Cs (show xs.length=is.length by simpa using r.len)]⟩)
 |tm ds=>
  obtain⟨a,xs,rfl,q,r⟩:=h.tup (ds:=ds) rfl;simp only[Cn,Option.some.injEq]at e;subst e;exact .inr (.inl ⟨xs,q,by rw[Cs r.len]⟩)
 |ro ns=>
  obtain⟨a,xs,rfl,q,r⟩:=h.lst hR (hd:=hd) (ds:=ns.map λn=>.im (.int n)) rfl;simp only[Cn,Option.some.injEq]at e;subst e;exact .inl ⟨xs,q,by rw[Cs (show xs.length=ns.length by simpa using r.len)]⟩
 |op _ _ _=>simp[Cn]at e
 |fv _ _=>simp[Cn]at e
 |mu n=>
  simp only[RD]at h;obtain⟨a,hn,rfl⟩:=h;simp only[Cn]at e;split at e
  .next q=>
   cases e;obtain⟨xs,e1,e2⟩:=hR.lst hn q;exact .inl ⟨xs,SqL.of e1,by rw[Cs e2.len]⟩
  .next q=>
   cases e;obtain⟨xs,e1,e2⟩:=hR.dic hn q;exact .inr (.inr ⟨xs,e1,by rw[Cs e2.len]⟩)
  .cases e
def B2(ma:ME):MT:=λls hd=>(ma ls hd).bind λp=>(Cn p.2 p.1).map (·,p.2)
def RY{ta:TE}{ma:ME}(ha:RE K ta ma):RT K (λσ H Q=>ta σ H λx H'=>∃k,Mc K x H' k/\Q k H') (B2 ma):=by
 and_intros;obtain⟨⟨d1,h1⟩,e1,hm⟩:=c5 hm;obtain⟨b,e2,e3⟩:=c7 hm;cases e3;exact ha ρ σ H hd ls _ d1 h1 hR hL e1 λρ1 H1 v x1 R1 r1=>⟨_,Ts R1 r1 e2,hQ ρ1 H1 x1 R1⟩
def AF(ma:ME):MT:=λls hd=>(ma ls hd).bind λp=>match p.1 with
 |.im (.bl b)=>some (b,p.2)
 |_=>none
def EQ{ta:TE}{ma:ME}(ha:RE K ta ma):RT K (Kg ta) (AF ma):=by
 and_intros;obtain⟨⟨d1,h1⟩,e1,hm⟩:=c5 hm;dsimp only at hm;split at hm
 .cases hm;exact ha ρ σ H hd ls _ _ _ hR hL e1 λρ1 H1 v x1 R1 r1=>⟨_,by simpa only[RD,RI]using r1,hQ ρ1 H1 x1 R1⟩
 .cases hm
def WR{ta:TE}{ma:ME}(ha:RE K ta ma):RT K (tB ta) (AF ma):=EQ ha
def mIf(c:MT)(ma mb:ME):ME:=λls hd=>(c ls hd).bind λp=>if p.1=true then ma ls p.2 else mb ls p.2
def Z3{tc:TT}{c:MT}{ta tb:TE}{ma mb:ME}(hc:RT K tc c)(ha:RE K ta ma)(hb:RE K tb mb):RE K (tIf tc ta tb) (mIf c ma mb):=by
 and_intros;obtain⟨⟨d1,h1⟩,e1,hm⟩:=c5 hm;refine hc ρ σ H hd ls _ d1 h1 hR hL e1 λρ1 H1 x1 R1=>?_;cases d1 with
 |true=>
  rw[if_pos rfl]at hm ⊢;exact ha ρ1 σ H1 h1 ls Q d hd' R1 (hL.ext hR x1) hm λρ2 H2 v x2 R2 r2=>hQ ρ2 H2 v (x1.trans R1 x2) R2 r2
 |false=>
  rw[if_neg Bool.false_ne_true]at hm ⊢;exact hb ρ1 σ H1 h1 ls Q d hd' R1 (hL.ext hR x1) hm λρ2 H2 v x2 R2 r2=>hQ ρ2 H2 v (x1.trans R1 x2) R2 r2
def D0(ma mb:ME):ME:=λls hd=>(AF ma ls hd).bind λp=>if p.1=true then mb ls p.2 else some (.im (.bl false),p.2)
def IJ(ma mb:ME):ME:=λls hd=>(AF ma ls hd).bind λp=>if p.1=true then some (.im (.bl true),p.2)else mb ls p.2
def F6(ma:ME):ME:=λls hd=>(AF ma ls hd).bind λp=>some (.im (.bl (!p.1)),p.2)
def UM{ta tb:TE}{ma mb:ME}(ha:RE K ta ma)(hb:RE K tb mb):RE K (O1 ta tb) (D0 ma mb):=by
 and_intros;obtain⟨⟨d1,h1⟩,e1,hm⟩:=c5 hm;refine EQ ha ρ σ H hd ls (λc H1=>if c=true then tb σ H1 Q else Q (.bl false) H1) d1 h1 hR hL e1 λρ1 H1 x1 R1=>?_;cases d1 with
 |true=>
  rw[if_pos rfl]at hm ⊢;exact hb ρ1 σ H1 h1 ls Q d hd' R1 (hL.ext hR x1) hm λρ2 H2 v x2 R2 r2=>hQ ρ2 H2 v (x1.trans R1 x2) R2 r2
 |false=>
  rw[if_neg Bool.false_ne_true]at hm ⊢;cases hm;exact hQ ρ1 H1 _ x1 R1 (by simp[RD,RI])
def Wi{ta tb:TE}{ma mb:ME}(ha:RE K ta ma)(hb:RE K tb mb):RE K (Qy ta tb) (IJ ma mb):=by
 and_intros;obtain⟨⟨d1,h1⟩,e1,hm⟩:=c5 hm;refine EQ ha ρ σ H hd ls (λc H1=>if c=true then Q (.bl true) H1 else tb σ H1 Q) d1 h1 hR hL e1 λρ1 H1 x1 R1=>?_;cases d1 with
 |true=>
  rw[if_pos rfl]at hm ⊢;cases hm;exact hQ ρ1 H1 _ x1 R1 (by simp[RD,RI])
 |false=>
  rw[if_neg Bool.false_ne_true]at hm ⊢;exact hb ρ1 σ H1 h1 ls Q d hd' R1 (hL.ext hR x1) hm λρ2 H2 v x2 R2 r2=>hQ ρ2 H2 v (x1.trans R1 x2) R2 r2
def UG{ta:TE}{ma:ME}(ha:RE K ta ma):RE K (Nt ta) (F6 ma):=by
 and_intros;obtain⟨⟨d1,h1⟩,e1,hm⟩:=c5 hm;cases hm;exact EQ ha ρ σ H hd ls (λc H1=>Q (.bl (!c)) H1) d1 h1 hR hL e1 λρ1 H1 x1 R1=>hQ ρ1 H1 _ x1 R1 (by simp[RD,RI])
def A5:MA:=λ_ hd=>some ([],hd)
def A2(ma:ME)(mr:MA):MA:=λls hd=>(ma ls hd).bind λp=>(mr ls p.2).bind λq=>some (p.1::q.1,q.2)
def Ws:RA K Bv A5:=by
 and_intros;cases hm;exact hQ ρ H [] .refl hR .nil
def UP{ta:TE}{tr:TA}{ma:ME}{mr:MA}(ha:RE K ta ma)(hr:RA K tr mr):RA K (B7 ta tr) (A2 ma mr):=by
 and_intros;obtain⟨⟨d1,h1⟩,e1,hm⟩:=c5 hm;obtain⟨⟨d2,h2⟩,e2,hm⟩:=c5 hm;cases hm;refine ha ρ σ H hd ls _ d1 h1 hR hL e1 λρ1 H1 v1 x1 R1 r1=>?_;exact hr ρ1 σ H1 h1 ls _ d2 _ R1 (hL.ext hR x1) e2 λρ2 H2 v2 x2 R2 r2=>hQ ρ2 H2 _ (x1.trans R1 x2) R2 (.cons (r1.ext R1 x2) r2)
open Classical in
def Ad(ma:MA):ME:=λls hd=>(ma ls hd).bind λp=>if CF p.1.length then some (AV p.1,p.2)else none
def Wh{t:TA}{m:MA}(h:RA K t m):RE K (Qv t) (Ad m):=by
 and_intros;obtain⟨⟨d1,h1⟩,e1,hm⟩:=c5 hm;dsimp only at hm;split at hm
 .next z=>
  cases hm;refine h ρ σ H hd ls _ d1 _ hR hL e1 λρ1 H1 v1 x1 R1 r1=>⟨by rw[r1.len];exact z,λp hp=>?_⟩
  obtain⟨R2,x2⟩:=R1.hid (ho:=.tup v1) hp;exact hQ ρ1 _ _ (x1.trans R1 x2) R2 (Bn (SqT.of AM) (r1.ext R1 x2))
 .cases hm
open Classical in
def CZ(ma:MA):MA:=λls hd=>(ma ls hd).bind λp=>if CF p.1.length then some (p.1,p.2)else none
def RH.out(hR:RH K ρ H hd){a:Addr}(h:H a=none):a∉ρ:=λm=>by rcases hR.mut m with⟨y,z⟩|⟨y,z⟩<;>(rw[h]at z;cases z)
theorem Ext.none(e:Ext ρ H ρ' H')(hR:RH K ρ H hd){a:Addr}(h:H' a=none)(hR':RH K ρ' H' hd'):H a=none:=by
 cases q:H a with
 |none=>rfl
 |some o=>
  by_cases m:a∈ρ
  .obtain⟨r,rfl,_⟩:=e.pre;exact absurd (mem_append_left r m) (hR'.out h)
  .by_cases t:∃ps,o=.tbl ps
   .obtain⟨ps,rfl⟩:=t;obtain⟨ps',this⟩:=e.tab a ps q;rw[h]at this;cases this
   .rw[e.keep a o q m λps y=>t ⟨ps,y⟩]at h;cases h
def WZ{t:TA}{m:MA}(h:RA K t m):RN K (R8 t) (CZ m):=by
 and_intros;obtain⟨⟨d1,h1⟩,e1,hm⟩:=c5 hm;dsimp only at hm;split at hm
 .next z=>
  cases hm;refine h ρ σ H hd ls _ _ _ hR hL e1 λρ1 H1 v1 x1 R1 r1=>⟨by rw[r1.len];exact z,λp hp=>?_⟩
  obtain⟨R2,x2⟩:=R1.hid (ho:=.lst v1) hp;exact hQ ρ1 _ p v1 (x1.trans R1 x2) R2 (x1.none hR hp R1) (R1.out hp) AM (r1.ext R1 x2)
 .cases hm
def B3(ml:MA):ME:=λls hd=>(ml ls hd).bind λp=>some (.mu p.2.length,p.2++[.lst p.1])
def RH.name(hR:RH K ρ H hd){a:Addr}{xs:List V}{ds:List D}(out:a∉ρ)(e:H a=some (.lst xs))(r:RDs K ρ H ds xs):RH K (ρ++[a]) H (hd++[.lst ds]):=by
 have mono:∀{o:MO} {ho:HO},RC K ρ H o ho->RC K (ρ++[a]) H o ho:=λc=>c.mono Grow.refl [a];refine⟨by simp[hR.len],?_,hR.tabs,λn o' b e1 e2=>?_⟩
 .rw[nodup_append];refine⟨hR.nd,by simp,λx hx y hy z=>?_⟩;simp at hy;subst hy;subst z;exact out hx
 .by_cases hn:n<ρ.length
  .rw[List.getElem?_append_left hn]at e2;rw[List.getElem?_append_left (by rw[<- hR.len];exact hn)]at e1;obtain⟨ho',q1,q2⟩:=hR.ob n o' b e1 e2;exact⟨ho',q1,mono q2⟩
  .have hn':n=ρ.length:=by
    have:=(List.getElem?_eq_some_iff.mp e2).1;simp at this;omega
   subst hn';simp at e2;rw[hR.len]at e1;simp at e1;subst e1;subst e2;exact⟨_,e,mono ⟨xs,rfl,r⟩⟩
def Ext.name(e:Ext ρ H ρ' H'){a:Addr}(h:H a=Option.none):Ext ρ H (ρ'++[a]) H':=by
 obtain⟨r,rfl,f⟩:=e.pre;refine⟨⟨r++[a],by simp,λb m=>?_⟩,e.keep,e.tab⟩;rcases mem_append.mp m with m|m
 .exact f b m
 .simp at m;subst m;exact h
def PV{t:TE}{m:MA}(h:RN K t m):RE K t (B3 m):=by
 and_intros;obtain⟨⟨d1,h1⟩,e1,hm⟩:=c5 hm;cases hm;refine h ρ σ H hd ls Q d1 h1 hR hL e1 λρ1 H1 a xs x1 R1 na oa ea r1=>?_;refine hQ (ρ1++[a]) H1 _ (x1.name na) (R1.name oa ea r1) ?_;simp only[RD];exact⟨a,by rw[<- R1.len];simp,rfl⟩
end
section
variable{K:PySem.W.Frag}{ρ ρ':List Addr}{H H':Hp}{hd hd':Hd}
def fI(g:Int->Int->Option I):D->D->Hd->Option (D×Hd)
 |.im (.int i),.im (.int j),hd=>(g i j).map (.im ·,hd)
 |_,_,_=>none
def OG{C:Int->Int->Prop}{g:Int->Int->V}{f:Int->Int->Option I}(h:∀i j z,f i j=some z->C i j/\∀H,RI K H z (g i j)):RB K (rI C g) (fI f):=by
 intro ρ H hd d e v u Q z hd' hR h1 h2 hf hQ;unfold fI at hf;split at hf
 .simp only[RD,RI]at h1 h2;subst h1 h2;obtain⟨w,e1,e2⟩:=c7 hf;cases e2;obtain⟨c,r⟩:=h _ _ _ e1;exact⟨_,_,rfl,rfl,c,hQ ρ H _ .refl hR (by simpa only[RD]using r H)⟩
 .cases hf
def HK{g:Int->Int->V}{f:Int->Int->I}(h:∀i j H,RI K H (f i j) (g i j)):RB K (rI0 g) (fI λi j=>some (f i j)):=by
 intro ρ H hd d e v u Q z hd' hR h1 h2 hf hQ;unfold fI at hf;split at hf
 .simp only[RD,RI]at h1 h2;subst h1 h2;cases hf;exact⟨_,_,rfl,rfl,hQ ρ H _ .refl hR (by simpa only[RD]using h _ _ H)⟩
 .cases hf
def G9(f g:D->D->Hd->Option (D×Hd)):D->D->Hd->Option (D×Hd):=λd e hd=>match f d e hd with
 |some z=>some z
 |none=>g d e hd
def DX{r r':R2}{f g:D->D->Hd->Option (D×Hd)}(h:RB K r f)(h':RB K r' g):RB K (λx y H Q=>r x y H Q∨r' x y H Q) (G9 f g):=by
 intro ρ H hd d e v u Q z hd' hR h1 h2 hf hQ;unfold G9 at hf;split at hf
 .next q=>cases hf;exact .inl (h ρ H hd d e v u Q z hd' hR h1 h2 q hQ)
 .exact .inr (h' ρ H hd d e v u Q z hd' hR h1 h2 hf hQ)
abbrev Jd:D->D->Hd->Option (D×Hd):=fI λi j=>some (.int (i+j))
abbrev BV:D->D->Hd->Option (D×Hd):=fI λi j=>some (.int (i-j))
def Pe:RB K (rI0 λi j=>.int (i+j)) Jd:=HK λ_ _ _=>by simp[RI]
def Wo:RB K (rI0 λi j=>.int (i-j)) BV:=HK λ_ _ _=>by simp[RI]
open Classical in
abbrev El:D->D->Hd->Option (D×Hd):=fI λi j=>if F4 i j then some (.int (i*j))else none
def Wq:RB K (rI CMul λi j=>.int (i*j)) El:=OG λi j z h=>by
 split at h
 .next q=>cases h;exact⟨q,λ_=>by simp[RI]⟩
 .cases h
open Classical in
abbrev G5:D->D->Hd->Option (D×Hd):=fI λi j=>if Cz j then some (.int (i%j))else none
def Wr:RB K (rI (λ_ j=>0<j) λi j=>.int (i%j)) G5:=OG λi j z h=>by
 split at h
 .next q=>cases h;exact⟨q,λ_=>by simp[RI]⟩
 .cases h
open Classical in
abbrev J8:D->D->Hd->Option (D×Hd):=fI λi j=>if Kp j then some (.int (i/j))else none
def UN:RB K (rI Ys λi j=>.int (i/j)) J8:=OG λi j z h=>by
 split at h
 .next q=>cases h;exact⟨q,λ_=>by simp[RI]⟩
 .cases h
open Classical in
abbrev Sk:D->D->Hd->Option (D×Hd):=fI λi j=>if OM i j then some (.int (i^j.toNat))else none
def Wp:RB K (rI Yr λi j=>.int (i^j.toNat)) Sk:=OG λi j z h=>by
 split at h
 .next q=>cases h;exact⟨q,λ_=>by simp[RI]⟩
 .cases h
abbrev gLt:D->D->Hd->Option (D×Hd):=fI λi j=>some (.bl (decide (i<j)))
abbrev gLe:D->D->Hd->Option (D×Hd):=fI λi j=>some (.bl (decide (i<=j)))
abbrev gGt:D->D->Hd->Option (D×Hd):=fI λi j=>some (.bl (decide (j<i)))
abbrev gGe:D->D->Hd->Option (D×Hd):=fI λi j=>some (.bl (decide (j<=i)))
def Z4:RB K (rI0 λi j=>.bl (decide (i<j))) gLt:=HK λ_ _ _=>by simp[RI]
def TJ:RB K (rI0 λi j=>.bl (decide (i<=j))) gLe:=HK λ_ _ _=>by simp[RI]
def Z6:RB K (rI0 λi j=>.bl (decide (j<i))) gGt:=HK λ_ _ _=>by simp[RI]
def Z7:RB K (rI0 λi j=>.bl (decide (j<=i))) gGe:=HK λ_ _ _=>by simp[RI]
def scI:I->Option V
 |.non=>some .non
 |.bl b=>some (.bl b)
 |.int i=>some (.int i)
 |.str x=>some (.str x)
 |.tup _=>none
def Ic{i:I}{v w:V}(e:scI i=some w)(h:RI K H i v):v=w:=by
 cases i with
 |tup _=>simp[scI]at e
 |_=>simp only[scI,Option.some.injEq]at e;subst e;simpa only[RI]using h
def FJ(neg:Bool):D->D->Hd->Option (D×Hd)
 |.im i,.im j,hd=>match scI i,scI j with
  |some x,some y=>if LF x y=true then some (.im (.bl (if neg then !decide (x=y)else decide (x=y))),hd)else none
  |_,_=>none
 |_,_,_=>none
def Pb:RB K rEq (FJ false):=by
 intro ρ H hd d e v u Q z hd' hR h1 h2 hf hQ;unfold FJ at hf;split at hf
 .split at hf
  .next x y e1 e2=>
   split at hf
   .next s=>
    cases hf;simp only[RD]at h1 h2;rw[Ic e1 h1,Ic e2 h2];exact⟨s,hQ ρ H _ .refl hR (by simp[RD,RI])⟩
   .cases hf
  .cases hf
 .cases hf
def PZ:RB K rNe (FJ true):=by
 intro ρ H hd d e v u Q z hd' hR h1 h2 hf hQ;unfold FJ at hf;split at hf
 .split at hf
  .next x y e1 e2=>
   split at hf
   .next s=>
    cases hf;simp only[RD]at h1 h2;rw[Ic e1 h1,Ic e2 h2];exact⟨s,hQ ρ H _ .refl hR (by simp[RD,RI])⟩
   .cases hf
  .cases hf
 .cases hf
mutual
def I.py:I->PyData
 |.non=>.none
 |.bl b=>.bool b
 |.int i=>.int i
 |.str x=>.str x
 |.tup ds=>.tuple (I.pys ds)
def I.pys:List I->List PyData
 |[]=>[]
 |d::ds=>I.py d::I.pys ds
end
mutual
theorem RI.rep:∀{i:I} {v:V},RI K H i v->Rep K H i.py v
 |.non,v,h=>by simpa only[RI,I.py,Rep]using h
 |.bl _,v,h=>by simpa only[RI,I.py,Rep]using h
 |.int _,v,h=>by simpa only[RI,I.py,Rep]using h
 |.str _,v,h=>by simpa only[RI,I.py,Rep]using h
 |.tup ds,v,h=>by
  simp only[RI]at h;obtain⟨a,xs,e,q,r⟩:=h;simp only[I.py,Rep];exact⟨a,xs,e,q,RIs.rep r⟩
theorem RIs.rep:∀{i:List I} {v:List V},RIs K H i v->RepAll K H (I.pys i) v
 |[],v,h=>by simpa only[RIs,I.pys,RepAll]using h
 |d::ds,v,h=>by
  simp only[RIs]at h;obtain⟨x,r,e,q,z⟩:=h;simp only[I.pys,RepAll];exact⟨x,r,e,q.rep,RIs.rep z⟩
end
def pyD(hd:Hd):D->Option PyData
 |.im i=>some i.py
 |.mu n=>match hd[n]? with
  |some (.lst ds)=>(B1 ds).map λis=>.list (I.pys is)
  |_=>none
 |.ro ns=>some (.list (I.pys (ns.map I.int)))
 |_=>none
def FU{d:D}{v:V}{p:PyData}(hR:RH K ρ H hd)(h:RD K ρ H d v)(e:pyD hd d=some p):Rep K H p v:=by
 cases d with
 |im i=>simp only[pyD,Option.some.injEq]at e;subst e;simp only[RD]at h;exact h.rep
 |mu n=>
  simp only[pyD]at e;simp only[RD]at h;obtain⟨a,hn,rfl⟩:=h;split at e
  .next q=>
   obtain⟨is,e1,rfl⟩:=c7 e;obtain⟨xs,e2,e3⟩:=hR.lst hn q;rw[GF e1]at e3;simp only[Rep];exact⟨a,xs,rfl,SqL.of e2,e3.is.rep⟩
  .cases e
 |ro ns=>
  simp only[pyD,Option.some.injEq]at e;subst e;obtain⟨a,xs,rfl,q,r⟩:=h.lst hR (hd:=hd) (ds:=ns.map λn=>.im (.int n)) rfl;simp only[Rep];refine⟨a,xs,rfl,q,RIs.rep (RDs.is (ρ:=ρ) ?_)⟩;rw[map_map];exact r
 |tm _=>simp[pyD]at e
 |op _ _ _=>simp[pyD]at e
 |fv _ _=>simp[pyD]at e
def Jc(neg:Bool):D->D->Hd->Option (D×Hd):=λd e hd=>match pyD hd d,pyD hd e with
 |some x,some y=>if x.canLay0=true/\y.canLay0=true/\min x.depth y.depth<=60 then some (.im (.bl (if neg then !PyData.eqv x y else PyData.eqv x y)),hd)else none
 |_,_=>none
def Pd:RB K (Ro K) (Jc false):=by
 intro ρ H hd d e v u Q z hd' hR h1 h2 hf hQ;unfold Jc at hf;split at hf
 .next e1 e2=>
  split at hf
  .next c=>cases hf;exact⟨_,_,FU hR h1 e1,FU hR h2 e2,c.1,c.2.1,c.2.2,hQ ρ H _ .refl hR (by simp[RD,RI])⟩
  .cases hf
 .cases hf
def Pa:RB K (Rm K) (Jc true):=by
 intro ρ H hd d e v u Q z hd' hR h1 h2 hf hQ;unfold Jc at hf;split at hf
 .next e1 e2=>
  split at hf
  .next c=>cases hf;exact⟨_,_,FU hR h1 e1,FU hR h2 e2,c.1,c.2.1,c.2.2,hQ ρ H _ .refl hR (by simp[RD,RI])⟩
  .cases hf
 .cases hf
abbrev gEq:=G9 (FJ false) (Jc false)
abbrev gNe:=G9 (FJ true) (Jc true)
def gIx:D->D->Hd->Option (D×Hd)
 |d,.im (.int i),hd=>(Ax hd d).bind λds=>(atI ds i).map (·,hd)
 |_,_,_=>none
def Ng{α β:Type}{xs:List α}{ys:List β}{i:Int}{y:β}(h:xs.length=ys.length)(e:atI ys i=some y):∃(j:Nat),ys[j]?=some y/\∀x,xs[j]?=some x->atI xs i=some x:=by
 unfold atI at e;obtain⟨j,e1,e2⟩:=c5 e;exact⟨j,e2,λx q=>by unfold atI;rw[h,e1];exact q⟩
def Kj(K:PySem.W.Frag):R2:=λx y H Q=>JW K x y H Q∨Rn K x y H Q
def Z5:RB K (Kj K) gIx:=by
 intro ρ H hd d e v u Q z hd' hR h1 h2 hf hQ;unfold gIx at hf;split at hf
 .obtain⟨ds,e1,hf⟩:=c5 hf;obtain⟨w,e2,e3⟩:=c7 hf;cases e3;obtain⟨a,xs,rfl,q,r⟩:=h1.seq hR e1;simp only[RD,RI]at h2;subst h2;obtain⟨j,j1,j2⟩:=Ng r.len e2;obtain⟨x,x1,x2⟩:=r.get j1;rcases q with q|q
  .exact .inl ⟨a,xs,_,x,rfl,rfl,q,j2 x x1,hQ ρ H x .refl hR x2⟩
  .exact .inr ⟨a,xs,_,x,rfl,rfl,q,j2 x x1,hQ ρ H x .refl hR x2⟩
 .cases hf
def HB(xs:List D)(lo hi:Option Int):List D:=(xs.drop (HT.sIx xs.length 0 lo)).take (HT.sIx xs.length xs.length hi-HT.sIx xs.length 0 lo)
def Vp{ds:List D}{xs:List V}{lo hi:Option Int}(r:RDs K ρ H ds xs):RDs K ρ H (HB ds lo hi) (IS xs lo hi):=by
 unfold HB IS;rw[r.len];exact(r.drop _).take _
abbrev MO1:=Ls->Hd->Option (Option Int×Hd)
def RO1(K:PySem.W.Frag)(t:TO)(m:MO1):Prop:=∀(ρ:List Addr) (σ:St) (H:Hp) (hd:Hd) (ls:Ls) (Q:Option Int->Hp->Prop) (d:Option Int) (hd':Hd),RH K ρ H hd->RL K ρ H ls σ->m ls hd=some (d,hd') ->
 (∀ρ' H',Ext ρ H ρ' H'->RH K ρ' H' hd'->Q d H')->t σ H Q
def HN:MO1:=λ_ hd=>some (none,hd)
def Kk(m:ME):MO1:=λls hd=>(m ls hd).bind λp=>match p.1 with
 |.im (.int i)=>some (some i,p.2)
 |_=>none
def U6:RO1 K JK HN:=by
 and_intros;cases hm;exact hQ ρ H .refl hR
def U5{t:TE}{m:ME}(h:RE K t m):RO1 K (Nr t) (Kk m):=by
 and_intros;obtain⟨⟨d1,h1⟩,e1,hm⟩:=c5 hm;dsimp only at hm;split at hm
 .cases hm;exact h ρ σ H hd ls _ _ _ hR hL e1 λρ1 H1 v x1 R1 r1=>⟨_,by simpa only[RD,RI]using r1,hQ ρ1 H1 x1 R1⟩
 .cases hm
def aN(m:ME)(ml mh:MO1):ME:=λls hd=>(m ls hd).bind λp=>(ml ls p.2).bind λl=>(mh ls l.2).bind λh=>(AW p.1).bind λds=>
 if ¬ (HT.sIx ds.length 0 l.1=0/\HT.sIx ds.length ds.length h.1=ds.length)then some (AV (HB ds l.1 h.1),h.2)else none
def Lx(m:ME)(ml mh:MO1):MA:=λls hd=>(m ls hd).bind λp=>(ml ls p.2).bind λl=>(mh ls l.2).bind λh=>(Ak h.2 p.1).bind λds=>some (HB ds l.1 h.1,h.2)
def WY{t:TE}{tl th:TO}{m:ME}{ml mh:MO1}(h:RE K t m)(hl:RO1 K tl ml)(hh:RO1 K th mh):RN K (tSl (OH K) t tl th) (Lx m ml mh):=by
 and_intros;obtain⟨⟨d1,h1⟩,e1,hm⟩:=c5 hm;obtain⟨⟨d2,h2⟩,e2,hm⟩:=c5 hm;obtain⟨⟨d3,h3⟩,e3,hm⟩:=c5 hm;obtain⟨ds,e4,hm⟩:=c5 hm;dsimp only at e2 e3 e4 hm;cases hm;refine h ρ σ H hd ls _ d1 h1 hR hL e1 λρ1 H1 v1 x1 R1 r1=>?_;refine hl ρ1 σ H1 h1 ls _ d2 h2 R1 (hL.ext hR x1) e2 λρ2 H2 x2 R2=>?_;refine hh ρ2 σ H2 h2 ls _ d3 _ R2 (hL.ext hR (x1.trans R1 x2)) e3 λρ3 H3 x3 R3=>?_;obtain⟨a,xs,rfl,q,r⟩:=RD.lst R3 ((r1.ext R1 x2).ext R2 x3) e4;refine⟨a,xs,rfl,q,λp hp=>?_⟩;obtain⟨R4,x4⟩:=R3.hid (ho:=.lst (IS xs d2 d3)) hp;have x123:=(x1.trans R1 x2).trans R2 x3;exact hQ ρ3 _ p _ (x123.trans R3 x4) R4 (x123.none hR hp R3) (R3.out hp) AM ((Vp r).ext R3 x4)
def mCB(f:List D->Hd->Option (D×Hd))(ma:MA):ME:=λls hd=>(ma ls hd).bind λp=>f p.1 p.2
def TF{r:List V->Hp->VK->Prop}{f:List D->Hd->Option (D×Hd)}{t:TA}{m:MA}(hr:RF K r f)(h:RA K t m):RE K (tCB r t) (mCB f m):=by
 and_intros;obtain⟨⟨d1,h1⟩,e1,hm⟩:=c5 hm;refine h ρ σ H hd ls _ d1 h1 hR hL e1 λρ1 H1 v1 x1 R1 r1=>?_;exact hr ρ1 H1 h1 d1 v1 Q d hd' R1 r1 hm λρ' H' w x2 R2 r2=>hQ ρ' H' w (x1.trans R1 x2) R2 r2
def f1(tp:Bool)(g:List D->Option D):List D->Hd->Option (D×Hd)
 |[d],hd=>((if tp then Ax hd d else Ak hd d)).bind λds=>(g ds).map (·,hd)
 |_,_=>none
def Fk{tp:Bool}{r:List V->Hp->VK->Prop}{g:List D->Option D}(h:RG K tp r g):RF K r (f1 tp g):=by
 intro ρ H hd ds vs Q z hd' hR h1 hf hQ;unfold f1 at hf;split at hf
 .next d hd'=>
  obtain⟨es,e1,hf⟩:=c5 hf;obtain⟨w,e2,e3⟩:=c7 hf;cases e3;simp only[RDs]at h1;obtain⟨x,r,rfl,rx,rfl⟩:=h1;cases tp with
  |true=>
   rw[if_pos rfl]at e1;obtain⟨a,xs,rfl,q,rr⟩:=rx.seq hR e1;exact h ρ H hd a xs es Q z hR (q.imp id λq=>⟨rfl,q⟩) rr e2 λH' w x R r=>hQ ρ H' w x R r
  |false=>
   rw[if_neg Bool.false_ne_true]at e1;obtain⟨a,xs,rfl,q,rr⟩:=rx.lst hR e1;exact h ρ H hd a xs es Q z hR (.inl q) rr e2 λH' w x R r=>hQ ρ H' w x R r
 .cases hf
def BB(g:List D->Option D)(ml:MA):ME:=λls hd=>(ml ls hd).bind λp=>(g p.1).map (·,p.2)
def PY{tp:Bool}{r:List V->Hp->VK->Prop}{g:List D->Option D}{t:TE}{m:MA}(hr:RG K tp r g)(h:RN K t m):RE K (tCB r (B7 t Bv)) (BB g m):=by
 and_intros;obtain⟨⟨d1,h1⟩,e1,hm⟩:=c5 hm;obtain⟨w,e2,e3⟩:=c7 hm;cases e3;refine h ρ σ H hd ls _ d1 _ hR hL e1 λρ1 H1 a xs x1 R1 na oa ea r1=>?_;exact hr ρ1 H1 _ a xs d1 Q d R1 (.inl (SqL.of ea)) r1 e2 λH' w x R r=>hQ ρ1 H' w (x1.trans R1 x) R r
def Ay(ds:List D):Option D:=some (.im (.int ds.length))
def Wf:RG K true (Wt K) Ay:=by
 intro ρ H hd a xs ds Q z hR q r e hQ;cases e;refine⟨a,xs,rfl,q.imp id λq=>q.2,?_⟩;rw[r.len];exact hQ H _ .refl hR (by simp[RD,RI])
def C4(ds:List D):Option D:=some (AV ds)
def LU:RG K true (LW K) C4:=by
 intro ρ H hd a xs ds Q z hR q r e hQ;cases e;refine⟨a,xs,rfl,?_⟩;rcases q with q|⟨_,q⟩
 .refine .inl ⟨q,λp hp=>?_⟩;obtain⟨R2,x2⟩:=hR.hid (ho:=.tup xs) hp;exact hQ _ _ x2 R2 (Bn (SqT.of AM) (r.ext hR x2))
 .exact .inr ⟨q,hQ H _ .refl hR (Bn q r)⟩
def Cd(ds:List D):Option D:=(Al ds).map λns=>.im (.int ns.sum)
def aH(K:PySem.W.Frag):List V->Hp->VK->Prop:=λxs H Q=>TL K xs H Q∨TK K xs H Q
def PN:RG K true (aH K) Cd:=by
 intro ρ H hd a xs ds Q z hR q r e hQ;obtain⟨ns,e1,rfl⟩:=c7 e;rw[Cf e1]at r;have:=ES r;subst this;rcases q with q|⟨_,q⟩
 .exact .inl ⟨a,ns,rfl,q,hQ H _ .refl hR (by simp[RD,RI])⟩
 .exact .inr ⟨a,ns,rfl,q,hQ H _ .refl hR (by simp[RD,RI])⟩
def Jb(ds:List D):Option D:=(C6 ds).map λbs=>.im (.bl (bs.all id))
def Gs(ds:List D):Option D:=(C6 ds).map λbs=>.im (.bl (bs.any id))
def PU:RG K false (Wv K) Jb:=by
 intro ρ H hd a xs ds Q z hR q r e hQ;obtain⟨ns,e1,rfl⟩:=c7 e;rw[Jj e1]at r;have:=LV r;subst this;rcases q with q|⟨q,_⟩
 .exact⟨a,ns,rfl,q,hQ H _ .refl hR (by simp[RD,RI])⟩
 .cases q
def PR:RG K false (Wu K) Gs:=by
 intro ρ H hd a xs ds Q z hR q r e hQ;obtain⟨ns,e1,rfl⟩:=c7 e;rw[Jj e1]at r;have:=LV r;subst this;rcases q with q|⟨q,_⟩
 .exact⟨a,ns,rfl,q,hQ H _ .refl hR (by simp[RD,RI])⟩
 .cases q
def Fu:List Int->Int
 |[]=>0
 |[x]=>x
 |x::r=>if Fu r>x then Fu r else x
def Ft:List Int->Int
 |[]=>0
 |[x]=>x
 |x::r=>if Ft r<x then Ft r else x
theorem F5:∀{xs:List Int},xs≠[]->Fu xs∈xs/\∀x∈xs,x<=Fu xs
 |[],h=>absurd rfl h
 |[x],_=>by simp[Fu]
 |x::y::r,_=>by
  obtain⟨h1,h2⟩:=F5 (xs:=y::r) (by simp);rw[Fu];split
  .next h=>exact⟨mem_cons_of_mem _ h1,λz m=>by rcases mem_cons.mp m with rfl|m;omega;exact h2 z m⟩
  .next h=>exact⟨mem_cons_self,λz m=>by rcases mem_cons.mp m with rfl|m;omega;exact Int.le_trans (h2 z m) (by omega)⟩
  .simp
theorem Gm:∀{xs:List Int},xs≠[]->Ft xs∈xs/\∀x∈xs,Ft xs<=x
 |[],h=>absurd rfl h
 |[x],_=>by simp[Ft]
 |x::y::r,_=>by
  obtain⟨h1,h2⟩:=Gm (xs:=y::r) (by simp);rw[Ft];split
  .next h=>exact⟨mem_cons_of_mem _ h1,λz m=>by rcases mem_cons.mp m with rfl|m;omega;exact h2 z m⟩
  .next h=>exact⟨mem_cons_self,λz m=>by rcases mem_cons.mp m with rfl|m;omega;exact Int.le_trans (by omega) (h2 z m)⟩
  .simp
def Fz(ds:List D):Option D:=(Al ds).bind λns=>if ns=[]then none else some (.im (.int (Fu ns)))
def FI(ds:List D):Option D:=(Al ds).bind λns=>if ns=[]then none else some (.im (.int (Ft ns)))
def aI(K:PySem.W.Frag):List V->Hp->VK->Prop:=λxs H Q=>TR K xs H Q∨TQ K xs H Q
def Db{α:Type}{xs:List α}(h:xs≠[]):0<xs.length:=by cases xs<;>simp_all
def PQ:RG K true (aI K) Fz:=by
 intro ρ H hd a xs ds Q z hR q r e hQ;obtain⟨ns,e1,e⟩:=c5 e;split at e
 .cases e
 .next hn=>
  cases e;rw[Cf e1]at r;have:=ES r;subst this;have u:∀M:Int,M∈ns->(∀x∈ns,x<=M)->M=Fu ns:=λM m1 m2=>by
   obtain⟨n1,n2⟩:=F5 hn;have:=n2 M m1;have:=m2 _ n1;omega
  rcases q with q|⟨_,q⟩
  .exact .inl ⟨a,ns,rfl,q,Db hn,λM m1 m2=>by rw[u M m1 m2];exact hQ H _ .refl hR (by simp[RD,RI])⟩
  .exact .inr ⟨a,ns,rfl,q,Db hn,λM m1 m2=>by rw[u M m1 m2];exact hQ H _ .refl hR (by simp[RD,RI])⟩
def PP:RG K false (TN K) FI:=by
 intro ρ H hd a xs ds Q z hR q r e hQ;obtain⟨ns,e1,e⟩:=c5 e;split at e
 .cases e
 .next hn=>
  cases e;rw[Cf e1]at r;have:=ES r;subst this;have u:∀M:Int,M∈ns->(∀x∈ns,M<=x)->M=Ft ns:=λM m1 m2=>by
   obtain⟨n1,n2⟩:=Gm hn;have:=n2 M m1;have:=m2 _ n1;omega
  rcases q with q|⟨q,_⟩
  .exact⟨a,ns,rfl,q,Db hn,λM m1 m2=>by rw[u M m1 m2];exact hQ H _ .refl hR (by simp[RD,RI])⟩
  .cases q
def G8:List D->Hd->Option (D×Hd)
 |[.im (.int i),.im (.int j)],hd=>some (.im (.int (if j>i then j else i)),hd)
 |_,_=>none
def Zi:List D->Hd->Option (D×Hd)
 |[.im (.int i),.im (.int j)],hd=>some (.im (.int (if j<i then j else i)),hd)
 |_,_=>none
def UD:RF K (λxs H Q=>∃i j,xs=[.int i,.int j]/\Q (.int (if j>i then j else i)) H) G8:=by
 intro ρ H hd ds vs Q z hd' hR h1 hf hQ;unfold G8 at hf;split at hf
 .cases hf;simp only[RDs,RD,RI]at h1;obtain⟨x,r,rfl,rfl,y,r2,rfl,rfl,rfl⟩:=h1;exact⟨_,_,rfl,hQ ρ H _ .refl hR (by simp[RD,RI])⟩
 .cases hf
def aS:List D->Hd->Option (D×Hd)
 |[.im (.int i)],hd=>some (.im (.int (if i<0 then -i else i)),hd)
 |_,_=>none
def Zb(ma:ME):MA:=λls hd=>(ma ls hd).bind λp=>(Ax p.2 p.1).map (·,p.2)
def Go(ml:MA):MA:=ml
def Rc{t:TE}{m:MA}(h:RN K t m):RN K (tCB (JV K) (B7 t Bv)) (Go m):=by
 and_intros;refine h ρ σ H hd ls _ d _ hR hL hm λρ1 H1 a xs x1 R1 na oa ea r1=>?_;refine⟨a,xs,rfl,.inl (SqL.of ea),λl hl=>?_⟩;obtain⟨R2,x2⟩:=R1.hid (ho:=.lst xs) hl;exact hQ ρ1 _ l xs (x1.trans R1 x2) R2 (x1.none hR hl R1) (R1.out hl) AM (r1.ext R1 x2)
def mMt(f:D->List D->Hd->Option (D×Hd))(mo:ME)(ma:MA):ME:=λls hd=>(mo ls hd).bind λp=>match Ak p.2 p.1 with
 |some _=>(ma ls p.2).bind λq=>f p.1 q.1 q.2
 |none=>none
def RM(K:PySem.W.Frag)(r:V->List V->Hp->VK->Prop)(f:D->List D->Hd->Option (D×Hd)):Prop:=∀(ρ:List Addr) (H:Hp) (hd:Hd) (d:D) (v:V) (ds:List D) (vs:List V) (Q:VK) (z:D) (hd':Hd),RH K ρ H hd->RD K ρ H d v->RDs K ρ H ds vs->f d ds hd=some (z,hd') ->
 (∀ρ' H' w,Ext ρ H ρ' H'->RH K ρ' H' hd'->RD K ρ' H' z w->Q w H')->r v vs H Q
def Z2{r:V->List V->Hp->VK->Prop}{f:D->List D->Hd->Option (D×Hd)}{to:TE}{t:TA}{mo:ME}{ma:MA}(hr:RM K r f)(ho:RE K to mo)(ha:RA K t ma):RE K (tBM K "list" r to t) (mMt f mo ma):=by
 and_intros;obtain⟨⟨d1,h1⟩,e1,hm⟩:=c5 hm;dsimp only at hm;split at hm
 .next e=>
  obtain⟨⟨d2,h2⟩,e2,hm⟩:=c5 hm;refine ho ρ σ H hd ls _ d1 h1 hR hL e1 λρ1 H1 v x1 R1 r1=>⟨?_,?_⟩
  .obtain⟨a,xs,rfl,q,_⟩:=r1.lst R1 e;exact .inl ⟨rfl,xs,q⟩
  .exact ha ρ1 σ H1 h1 ls _ d2 h2 R1 (hL.ext hR x1) e2 λρ2 H2 vs x2 R2 r2=>hr ρ2 H2 h2 d1 v d2 vs Q d hd' R2 (r1.ext R1 x2) r2 hm λρ' H' w x3 R3 r3=>hQ ρ' H' w ((x1.trans R1 x2).trans R2 x3) R3 r3
 .cases hm
open Classical in
def Bj:D->List D->Hd->Option (D×Hd)
 |.mu n,[x],hd=>match hd[n]? with
  |some (.lst ds)=>if G7 ds.length then some (.im .non,hd.set n (.lst (ds++[x])))else none
  |_=>none
 |_,_,_=>none
def PL:RM K NM Bj:=by
 intro ρ H hd d v ds vs Q z hd' hR h1 h2 hf hQ;unfold Bj at hf;split at hf
 .split at hf
  .next q=>
   split at hf
   .next c=>
    cases hf;simp only[RD]at h1;obtain⟨a,hn,rfl⟩:=h1;simp only[RDs]at h2;obtain⟨x,r,rfl,rx,rfl⟩:=h2;obtain⟨xs,e1,e2⟩:=hR.lst hn q;obtain⟨R2,x2⟩:=hR.put hn (o:=.lst (_++[_])) (ho:=.lst (xs++[x])) ⟨_,rfl,e2.app (.cons rx .nil)⟩;exact⟨a,xs,x,rfl,rfl,e1,by rw[e2.len];exact c,hQ ρ _ _ x2 R2 (by simp[RD,RI])⟩
   .cases hf
  .cases hf
 .cases hf
end
end L2
namespace L2
open PySem PySem.Spec PyProof.Rows
section
variable{K:PySem.W.Frag}{ρ ρ':List Addr}{H H':Hp}{hd hd':Hd}
def AY:MS:=λls hd=>some (.nx ls,hd)
def ND:RS K Ia AY:=by
 intro ρ σ H hd ls E f hd' hR hL hm hQ;cases hm;exact hQ ρ H .refl hR σ hL
def AD(a b:MS):MS:=λls hd=>(a ls hd).bind λp=>match p.1 with
 |.nx ls1=>b ls1 p.2
 |f=>some (f,p.2)
def WU{t u:TS}{a b:MS}(ha:RS K t a)(hb:RS K u b):RS K (Qw t u) (AD a b):=by
 intro ρ σ H hd ls E f hd' hR hL hm hQ;obtain⟨⟨f1,h1⟩,e1,hm⟩:=c5 hm;refine ha ρ σ H hd ls { E with nx:=u E } f1 h1 hR hL e1 λρ1 H1 x1 R1=>?_;cases f1 with
 |nx ls1=>
  intro σ1 L1;exact hb ρ1 σ1 H1 h1 ls1 E f hd' R1 L1 hm λρ2 H2 x2 R2=>hQ ρ2 H2 (x1.trans R1 x2) R2
 |bk ls1=>cases hm;exact hQ ρ1 H1 x1 R1
 |ct ls1=>cases hm;exact hQ ρ1 H1 x1 R1
 |rt d=>cases hm;exact hQ ρ1 H1 x1 R1
def YF:MS:=λls hd=>some (.bk ls,hd)
def Zd:MS:=λls hd=>some (.ct ls,hd)
def BU(m:ME):MS:=λls hd=>(m ls hd).bind λp=>some (.nx ls,p.2)
def U3{t:TE}{m:ME}(h:RE K t m):RS K (Nx t) (BU m):=by
 intro ρ σ H hd ls E f hd' hR hL hm hQ;obtain⟨⟨d1,h1⟩,e1,hm⟩:=c5 hm;cases hm;exact h ρ σ H hd ls _ d1 _ hR hL e1 λρ1 H1 v x1 R1 r1=>hQ ρ1 H1 x1 R1 σ (hL.ext hR x1)
def AR(m:ME):MS:=λls hd=>(m ls hd).bind λp=>some (.rt p.1,p.2)
def WV{t:TE}{m:ME}(h:RE K t m):RS K (Qx t) (AR m):=by
 intro ρ σ H hd ls E f hd' hR hL hm hQ;obtain⟨⟨d1,h1⟩,e1,hm⟩:=c5 hm;cases hm;exact h ρ σ H hd ls _ d1 _ hR hL e1 λρ1 H1 v x1 R1 r1=>hQ ρ1 H1 x1 R1 v r1
def ZZ:MS:=λ_ hd=>some (.rt (.im .non),hd)
def Aj(c:MT)(a b:MS):MS:=λls hd=>(c ls hd).bind λp=>if p.1=true then a ls p.2 else b ls p.2
def Z0{tc:TT}{t u:TS}{c:MT}{a b:MS}(hc:RT K tc c)(ha:RS K t a)(hb:RS K u b):RS K (RJ tc t u) (Aj c a b):=by
 intro ρ σ H hd ls E f hd' hR hL hm hQ;obtain⟨⟨d1,h1⟩,e1,hm⟩:=c5 hm;refine hc ρ σ H hd ls _ d1 h1 hR hL e1 λρ1 H1 x1 R1=>?_;cases d1 with
 |true=>
  rw[if_pos rfl]at hm ⊢;exact ha ρ1 σ H1 h1 ls E f hd' R1 (hL.ext hR x1) hm λρ2 H2 x2 R2=>hQ ρ2 H2 (x1.trans R1 x2) R2
 |false=>
  rw[if_neg Bool.false_ne_true]at hm ⊢;exact hb ρ1 σ H1 h1 ls E f hd' R1 (hL.ext hR x1) hm λρ2 H2 x2 R2=>hQ ρ2 H2 (x1.trans R1 x2) R2
def Bc:MS:=λ_ _=>none
def Ra:RS K Ky Bc:=by
 intro ρ σ H hd ls E f hd' hR hL hm hQ;cases hm
abbrev MG:=D->Ls->Hd->Option Ls
abbrev MGs:=List D->Ls->Hd->Option Ls
def RGt(K:PySem.W.Frag)(t:TG)(m:MG):Prop:=∀(ρ:List Addr) (σ:St) (H:Hp) (hd:Hd) (ls ls':Ls) (d:D) (v:V) (Q:St->Hp->Prop),RH K ρ H hd->RL K ρ H ls σ->RD K ρ H d v->m d ls hd=some ls' ->
 (∀σ',RL K ρ H ls' σ'->Q σ' H)->t v σ H Q
def Me(K:PySem.W.Frag)(t:TGs)(m:MGs):Prop:=∀(ρ:List Addr) (σ:St) (H:Hp) (hd:Hd) (ls ls':Ls) (d:List D) (v:List V) (Q:St->Hp->Prop),RH K ρ H hd->RL K ρ H ls σ->RDs K ρ H d v->m d ls hd=some ls' ->
 (∀σ',RL K ρ H ls' σ'->Q σ' H)->t v σ H Q
theorem RL.set{ls:Ls}{σ:St}{d:D}{v:V}(h:RL K ρ H ls σ)(i:Nat)(r:RD K ρ H d v):RL K ρ H (ls.set i (some d)) (σ.set i (some v)):=by
 refine⟨by simp[h.len],λj e q=>?_⟩;by_cases hij:i=j
 .subst hij;have hl:i<ls.length:=by
   have:=(List.getElem?_eq_some_iff.mp q).1;simpa using this
  rw[List.getElem?_set_self hl]at q;cases q;exact⟨v,by rw[List.getElem?_set_self (by rw[<- h.len];exact hl)],r⟩
 .rw[List.getElem?_set_ne hij]at q;obtain⟨w,e1,e2⟩:=h.ob j e q;exact⟨w,by rw[List.getElem?_set_ne hij];exact e1,e2⟩
def AB(i:Nat):MG:=λd ls _=>some (ls.set i (some d))
def JU{i:Nat}:RGt K (Dp i) (AB i):=by
 intro ρ σ H hd ls ls' d v Q hR hL hd hm hQ;cases hm;exact hQ _ (hL.set i hd)
def BA:MGs:=λds ls _=>match ds with
 |[]=>some ls
 |_=>none
def AJ(m:MG)(r:MGs):MGs:=λds ls hd=>match ds with
 |d::es=>(m d ls hd).bind λls1=>r es ls1 hd
 |[]=>none
def UA:Me K Sl BA:=by
 intro ρ σ H hd ls ls' d v Q hR hL hd hm hQ;cases d with
 |nil=>
  simp only[RDs]at hd;subst hd;cases hm;exact⟨rfl,hQ _ hL⟩
 |cons a b=>cases hm
def Rg{t:TG}{u:TGs}{m:MG}{r:MGs}(h:RGt K t m)(h':Me K u r):Me K (Ol t u) (AJ m r):=by
 intro ρ σ H hd ls ls' d v Q hR hL hd hm hQ;cases d with
 |nil=>cases hm
 |cons a b=>
  simp only[RDs]at hd;obtain⟨x,y,rfl,h1,h2⟩:=hd;obtain⟨ls1,e1,e2⟩:=c5 hm;exact⟨x,y,rfl,h ρ σ H _ ls ls1 a x _ hR hL h1 e1 λσ1 L1=>h' ρ σ1 H _ ls1 ls' b y Q hR L1 h2 e2 hQ⟩
def B9(n:Nat)(r:MGs):MG:=λd ls hd=>(AW d).bind λds=>if ds.length=n then r ds ls hd else none
def We{n:Nat}{u:TGs}{r:MGs}(h':Me K u r):RGt K (Oj K n u) (B9 n r):=by
 intro ρ σ H hd ls ls' d v Q hR hL hd hm hQ;obtain⟨ds,e1,hm⟩:=c5 hm;split at hm
 .next c=>
  obtain⟨a,xs,rfl,q,rr⟩:=hd.tup e1;exact⟨a,xs,rfl,q,by rw[rr.len];exact c,h' ρ σ H _ ls ls' ds xs Q hR hL rr hm hQ⟩
 .cases hm
def Gp(m:ME)(g:MG):MS:=λls hd=>(m ls hd).bind λp=>(g p.1 ls p.2).map λls'=>(.nx ls',p.2)
def LQ{t:TE}{m:ME}{g:TG}{n:MG}(h:RE K t m)(hg:RGt K g n):RS K (Ed t g) (Gp m n):=by
 intro ρ σ H hd ls E f hd' hR hL hm hQ;obtain⟨⟨d1,h1⟩,e1,hm⟩:=c5 hm;obtain⟨ls',e2,e3⟩:=c7 hm;cases e3;exact h ρ σ H hd ls _ d1 _ hR hL e1 λρ1 H1 v x1 R1 r1=>hg ρ1 σ H1 _ ls ls' d1 v _ R1 (hL.ext hR x1) r1 e2 λσ' L'=>hQ ρ1 H1 x1 R1 σ' L'
abbrev AQ(i:Nat)(m:ME):MS:=Gp m (AB i)
def Sb(ix:List Nat)(ma:MA):MS:=λls hd=>(ma ls hd).bind λp=>if p.1.length=ix.length then some (.nx ((ix.zip p.1).foldl (λl q=>l.set q.1 (some q.2)) ls),p.2)else none
def Za(i j k:Nat)(ma:MA):MS:=Sb [k,j,i] (λls hd=>(ma ls hd).map λp=>(p.1.reverse,p.2))
abbrev Gd:=List (Nat×List D)
abbrev MI:=Ls->Hd->Option ((List D×Gd)×Hd)
def GOk(hd:Hd)(g:Gd):Prop:=∀p∈g,hd[p.1]?=some (.lst p.2)
@[simp] theorem AK(hd:Hd):GOk hd []:=λp h=>by cases h
def Mb(K:PySem.W.Frag)(ρ:List Addr)(H:Hp)(J:It)(ds:List D)(g:Gd):Prop:=∀(ρ2:List Addr) (H2:Hp) (hd2:Hd),Ext ρ H ρ2 H2->RH K ρ2 H2 hd2->GOk hd2 g ->
 ∀i:Nat,(i<ds.length->J.go i H2/\∀x H3,J.yld i H2 x H3->∃ρ3 d,Ext ρ2 H2 ρ3 H3/\ρ3=ρ2/\RH K ρ3 H3 hd2/\ds[i]?=some d/\RD K ρ3 H3 d x)/\(i=ds.length->J.stop i H2)
def RIt(K:PySem.W.Frag)(t:TI)(m:MI):Prop:=∀(ρ:List Addr) (σ:St) (H:Hp) (hd:Hd) (ls:Ls) (Q:It->Hp->Prop) (d:List D) (g:Gd) (hd':Hd),RH K ρ H hd->RL K ρ H ls σ->m ls hd=some ((d,g),hd') ->
 (∀ρ' H' J,Ext ρ H ρ' H'->RH K ρ' H' hd'->GOk hd' g->Mb K ρ' H' J d g->Q J H')->t σ H Q
def Ni{a:Addr}{xs:List V}{ds:List D}(hR:RH K ρ H hd)(q:SqT K H a xs)(r:RDs K ρ H ds xs)(g:Gd):Mb K ρ H (Itt K a) ds g:=by
 intro ρ2 H2 hd2 x2 R2 _ i;have q2:=(x2.grow hR).sq q;have r2:=r.ext hR x2;have uniq:∀ys,SqT K H2 a ys->True:=λ_ _=>trivial;refine⟨λhi=>?_,λhi=>⟨xs,q2,by rw[r2.len,hi];exact le_refl _⟩⟩;have e:ds[i]?=some ds[i]:=by simp[hi]
 obtain⟨x,x1,x3⟩:=r2.get e;refine⟨⟨xs,x,q2,x1⟩,λy H3 ⟨e3,hy⟩=>?_⟩;subst e3;have:=hy xs q2;rw[x1]at this;cases this;exact⟨ρ2,_,.refl,rfl,R2,e,x3⟩
def Ap(m:ME):MI:=λls hd=>(m ls hd).bind λp=>(AW p.1).map λds=>((ds,[]),p.2)
def Wc{t:TE}{m:ME}(h:RE K t m):RIt K (Of K t) (Ap m):=by
 intro ρ σ H hd ls Q d g hd' hR hL hm hQ;obtain⟨⟨d1,h1⟩,e1,hm⟩:=c5 hm;obtain⟨ds,e2,e3⟩:=c7 hm;cases e3;refine h ρ σ H hd ls _ d1 _ hR hL e1 λρ1 H1 v x1 R1 r1=>?_;obtain⟨a,xs,rfl,q,r⟩:=r1.tup e2;exact⟨a,rfl,⟨xs,q⟩,hQ ρ1 H1 _ x1 R1 (AK _) (Ni R1 q r [])⟩
def CS(m:ME):MI:=λls hd=>(m ls hd).bind λp=>match p.1 with
 |.mu n=>match p.2[n]? with
  |some (.lst ds)=>some ((ds,[(n,ds)]),p.2)
  |_=>none
 |.ro ns=>some ((ns.map λn=>.im (.int n),[]),p.2)
 |_=>none
def U8{t:TE}{m:ME}(h:RE K t m):RIt K (HU K t) (CS m):=by
 intro ρ σ H hd ls Q d g hd' hR hL hm hQ;obtain⟨⟨d1,h1⟩,e1,hm⟩:=c5 hm;dsimp only at hm;split at hm
 .next n=>
  split at hm
  .next ds q=>
   cases hm;refine h ρ σ H hd ls _ _ _ hR hL e1 λρ1 H1 v x1 R1 r1=>?_;simp only[RD]at r1;obtain⟨a,hn,rfl⟩:=r1;obtain⟨xs,e2,e3⟩:=R1.lst hn q;refine⟨a,rfl,⟨xs,SqL.of e2⟩,hQ ρ1 H1 _ x1 R1 (λp z=>by simp at z;subst z;exact q) ?_⟩;intro ρ2 H2 hd2 x2 R2 G2 i;have q2:=G2 (n,d) (by simp);have hn2:ρ2[n]?=some a:=by
    obtain⟨r,rfl,_⟩:=x2.pre;rw[List.getElem?_append_left (List.getElem?_eq_some_iff.mp hn).1];exact hn
   obtain⟨ys,e4,e5⟩:=R2.lst hn2 q2;refine⟨λhi=>?_,λhi=>⟨ys,SqL.of e4,by rw[e5.len,hi];exact le_refl _⟩⟩;have e:d[i]?=some d[i]:=by simp[hi]
   obtain⟨x,y1,y2⟩:=e5.get e;refine⟨⟨ys,x,SqL.of e4,y1⟩,λy H3 ⟨e6,hy⟩=>?_⟩;subst e6;have:=hy ys (SqL.of e4);rw[y1]at this;cases this;exact⟨ρ2,_,.refl,rfl,R2,e,y2⟩
  .cases hm
 .next ns=>
  cases hm;refine h ρ σ H hd ls _ _ _ hR hL e1 λρ1 H1 v x1 R1 r1=>?_;simp only[RD]at r1;obtain⟨a,rfl,q⟩:=r1;refine⟨a,rfl,⟨_,q.sq⟩,hQ ρ1 H1 _ x1 R1 (AK _) ?_⟩;intro ρ2 H2 hd2 x2 R2 G2 i;have q2:=(q.grow (x2.grow R1)).sq;have e5:RDs K ρ2 H2 (ns.map λn=>.im (.int n)) (ns.map V.int):=ET;refine⟨λhi=>?_,λhi=>⟨_,q2,by rw[e5.len,hi];exact le_refl _⟩⟩;have e:(ns.map λn=>D.im (.int n))[i]?=some ((ns.map λn=>D.im (.int n))[i]):=by simp[hi]
  obtain⟨x,y1,y2⟩:=e5.get e;refine⟨⟨_,x,q2,y1⟩,λy H3 ⟨e6,hy⟩=>?_⟩;subst e6;have:=hy _ q2;rw[y1]at this;cases this;exact⟨ρ2,_,.refl,rfl,R2,e,y2⟩
 .cases hm
def EA(ml:MA):MI:=λls hd=>(ml ls hd).map λp=>((p.1,[]),p.2)
def Wd{t:TE}{m:MA}(h:RN K t m):RIt K (HU K t) (EA m):=by
 intro ρ σ H hd ls Q d g hd' hR hL hm hQ;obtain⟨⟨d1,h1⟩,e1,e3⟩:=c7 hm;obtain⟨⟨rfl,rfl⟩,rfl⟩:=Prod.mk.inj e3 |>.imp Prod.mk.inj id;clear e3 hm;refine h ρ σ H hd ls _ _ _ hR hL e1 λρ1 H1 a xs x1 R1 na oa ea r1=>?_;refine⟨a,rfl,⟨xs,SqL.of ea⟩,hQ ρ1 H1 _ x1 R1 (AK _) ?_⟩;intro ρ2 H2 hd2 x2 R2 G2 i;have q2:SqL K H2 a xs:=SqL.of (x2.keep a _ ea oa nt);have r2:=r1.ext R1 x2;refine⟨λhi=>?_,λhi=>⟨xs,q2,by rw[r2.len,hi];exact le_refl _⟩⟩;have hi:i<d1.length:=hi;have e:d1[i]?=some d1[i]:=by simp[hi]
 obtain⟨x,y1,y2⟩:=r2.get e;refine⟨⟨xs,x,q2,y1⟩,λy H3 ⟨e6,hy⟩=>?_⟩;subst e6;have:=hy xs q2;rw[y1]at this;cases this;exact⟨ρ2,_,.refl,rfl,R2,e,y2⟩
def Ar(lo:Int):Nat->List D
 |0=>[]
 |n+1=>.im (.int lo)::Ar (lo+1) n
@[simp] theorem Ik(lo:Int)(n:Nat):(Ar lo n).length=n:=by
 induction n generalizing lo with
 |zero=>rfl
 |succ n ih=>simp[Ar,ih]
def Il{n:Nat}:∀{lo:Int} {i:Nat},i<n->(Ar lo n)[i]?=some (.im (.int (lo+i))):=by
 induction n with
 |zero=>intro lo i h;omega
 |succ n ih=>
  intro lo i h;cases i with
  |zero=>simp[Ar]
  |succ i=>
   simp only[Ar,List.getElem?_cons_succ];rw[ih (by omega)]
   congr 3
   push_cast
   omega
def Nj{lo:Int}{n:Nat}{g:Gd}:Mb K ρ H (Itr lo n) (Ar lo n) g:=by
 intro ρ2 H2 hd2 x2 R2 G2 i;refine⟨λhi=>?_,λhi=>by rw[hi,Ik];exact le_refl _⟩;rw[Ik]at hi;refine⟨hi,λx H3 ⟨e1,e2⟩=>?_⟩;subst e1 e2;exact⟨ρ2,_,.refl,rfl,R2,Il hi,by simp[RD,RI]⟩
open Classical in
def DG(m:MA):MI:=λls hd=>(m ls hd).bind λp=>match p.1 with
 |[.im (.int j)]=>if JT j then some ((Ar 0 j.toNat,[]),p.2)else none
 |_=>none
def U7{t:TA}{m:MA}(h:RA K t m):RIt K (Og t) (DG m):=by
 intro ρ σ H hd ls Q d g hd' hR hL hm hQ;obtain⟨⟨d1,h1⟩,e1,hm⟩:=c5 hm;dsimp only at hm;split at hm
 .next j=>
  split at hm
  .next c=>
   cases hm;refine h ρ σ H hd ls _ _ _ hR hL e1 λρ1 H1 v x1 R1 r1=>?_;simp only[RDs,RD,RI]at r1;obtain⟨x,r,rfl,rfl,rfl⟩:=r1;exact⟨j,rfl,c.1,c.2,hQ ρ1 H1 _ x1 R1 (AK _) Nj⟩
  .cases hm
 .cases hm
open Classical in
def Zc(m:MA):MI:=λls hd=>(m ls hd).bind λp=>match p.1 with
 |[.im (.int i),.im (.int j)]=>if WX i j then some ((Ar i (j-i).toNat,[]),p.2)else none
 |_=>none
open Classical in
def B8(n:MG)(b:MS)(g:Gd):List D->Ls->Hd->Option (Fl×Hd)
 |[],ls,hd=>some (.nx ls,hd)
 |d::r,ls,hd=>(n d ls hd).bind λls1=>(b ls1 hd).bind λp=>match p.1 with
  |.nx ls2=>if GOk p.2 g then B8 n b g r ls2 p.2 else none
  |.ct ls2=>if GOk p.2 g then B8 n b g r ls2 p.2 else none
  |.bk ls2=>some (.nx ls2,p.2)
  |.rt d=>some (.rt d,p.2)
def Bp(mi:MI)(n:MG)(b:MS):MS:=λls hd=>(mi ls hd).bind λp=>B8 n b p.1.2 p.1.1 ls p.2
def WW{wi:TI}{g:TG}{tb:TS}{mi:MI}{n:MG}{b:MS}(hi:RIt K wi mi)(hg:RGt K g n)(hb:RS K tb b):RS K (RK wi g tb) (Bp mi n b):=by
 intro ρ σ H hd ls E f hd' hR hL hm hQ;obtain⟨⟨⟨ds,gd⟩,h1⟩,e1,hm⟩:=c5 hm;refine hi ρ σ H hd ls _ ds gd h1 hR hL e1 λρ1 H1 J x1 R1 G1 Y=>?_;dsimp only at hm;refine⟨λi m σ2 H2=>m=ds.length-i/\i<=ds.length/\∃ρ2 ls2 hd2,Ext ρ1 H1 ρ2 H2/\RH K ρ2 H2 hd2/\RL K ρ2 H2 ls2 σ2/\GOk hd2 gd/\B8 n b gd (ds.drop i) ls2 hd2=some (f,hd'),
  ⟨ds.length,by simp,zero_le _,ρ1,ls,h1,.refl,R1,hL.ext hR x1,G1,by simpa using hm⟩,?_⟩
 rintro i m σ2 H2 ⟨rfl,hi,ρ2,ls2,hd2,x2,R2,L2',G2,hm2⟩;obtain⟨Y1,Y2⟩:=Y ρ2 H2 hd2 x2 R2 G2 i;by_cases hlt:i<ds.length
 .obtain⟨go,Y1⟩:=Y1 hlt;have ed:ds.drop i=ds[i]::ds.drop (i+1):=drop_eq_getElem_cons hlt;rw[ed]at hm2;unfold B8 at hm2;obtain⟨ls3,e3,hm2⟩:=c5 hm2;obtain⟨⟨fl,hd4⟩,e4,hm2⟩:=c5 hm2;refine .inr ⟨go,λσ' H'=>∃ρ2 ls2 hd2,Ext ρ1 H1 ρ2 H'/\RH K ρ2 H' hd2/\RL K ρ2 H' ls2 σ'/\GOk hd2 gd/\B8 n b gd (ds.drop (i+1)) ls2 hd2=some (f,hd'),λσ' H' z=>⟨ds.length-(i+1),by omega,rfl,hlt,z⟩,λx H3 y=>?_⟩;obtain⟨ρ3,d3,x3,rfl,R3,e5,r3⟩:=Y1 x H3 y;have e6:d3=ds[i]:=by
   have:ds[i]?=some ds[i]:=by simp[hlt]
   rw[this]at e5;exact(Option.some.inj e5).symm
  subst e6;refine hg ρ3 σ2 H3 hd2 ls2 ls3 _ x _ R3 (L2'.ext R2 x3) r3 e3 λσ4 L4=>?_;refine hb ρ3 σ4 H3 hd2 ls3 _ fl hd4 R3 L4 e4 λρ5 H5 x5 R5=>?_;have x15:=(x2.trans R2 x3).trans R3 x5;cases fl with
  |nx ls5=>
   intro σ5 L5;dsimp only at hm2;split at hm2
   .next c=>exact⟨ρ5,ls5,hd4,x15,R5,L5,c,hm2⟩
   .cases hm2
  |ct ls5=>
   intro σ5 L5;dsimp only at hm2;split at hm2
   .next c=>exact⟨ρ5,ls5,hd4,x15,R5,L5,c,hm2⟩
   .cases hm2
  |bk ls5=>
   intro σ5 L5;cases hm2;exact hQ ρ5 H5 (x1.trans R1 x15) R5 σ5 L5
  |rt d5=>
   intro v5 r5;cases hm2;exact hQ ρ5 H5 (x1.trans R1 x15) R5 v5 r5
 .have e:i=ds.length:=by omega
  subst e;rw[List.drop_length]at hm2;unfold B8 at hm2;cases hm2;exact .inl ⟨Y2 rfl,hQ ρ2 H2 (x1.trans R1 x2) R2 σ2 L2'⟩
open Classical in
def Az(n:MG)(c:MT)(m:ME)(g:Gd):List D->Ls->Hd->Option (List D×Hd)
 |[],_,hd=>some ([],hd)
 |d::r,ls,hd=>(n d ls hd).bind λls1=>(c ls1 hd).bind λp=>if p.1=true then(m ls1 p.2).bind λq=>if GOk q.2 g then(Az n c m g r ls1 q.2).map λz=>(q.1::z.1,z.2)else none else if GOk p.2 g then Az n c m g r ls1 p.2 else none
def EL(k:Nat)(ix:List Nat)(ls:Ls):Ls:=List.replicate k none++ix.map λi=>(ls[i]?).join
open Classical in
def Ac(k:Nat)(ix:List Nat)(mi:MI)(n:MG)(c:MT)(m:ME):MA:=λls hd=>(mi ls hd).bind λp=>if CF p.1.1.length then Az n c m p.1.2 p.1.1 (EL k ix ls) p.2 else none
def Vs{k:Nat}{ix:List Nat}{ls:Ls}{σ:St}(h:RL K ρ H ls σ):RL K ρ H (EL k ix ls) (HD k ix σ):=by
 refine⟨by simp[EL,HD],λi d e=>?_⟩;unfold EL at e;unfold HD;by_cases hi:i<k
 .rw[List.getElem?_append_left (by simpa using hi),List.getElem?_replicate]at e;split at e<;>cases e
 .have hi':k<=i:=Nat.not_lt.mp hi;rw[List.getElem?_append_right (by simpa using hi'),List.length_replicate,List.getElem?_map]at e ⊢;cases q:ix[i-k]? with
  |none=>rw[q]at e;cases e
  |some j=>
   rw[q]at e;simp only[map_some,Option.some.injEq]at e ⊢;have e5:ls[j]?=some (some d):=by
    cases w:ls[j]? with
    |none=>rw[w]at e;cases e
    |some z=>rw[w]at e;simpa using e
   obtain⟨v,e6,e7⟩:=h.ob j d e5;exact⟨v,by rw[e6];rfl,e7⟩
def NG{k:Nat}{ix:List Nat}{wi:TI}{g:TG}{tf:TT}{te:TE}{mi:MI}{n:MG}{c:MT}{m:ME}(hi:RIt K wi mi)(hg:RGt K g n)(hf:RT K tf c)(he:RE K te m):RN K (Fh k ix wi g tf te) (Ac k ix mi n c m):=by
 intro ρ σ H hd ls Q out hd' hR hL hm hQ;obtain⟨⟨⟨ds,gd⟩,h1⟩,e1,hm⟩:=c5 hm;dsimp only at hm;split at hm
 .next hlen=>
  have hlen:ds.length<=sizeLine:=hlen;refine hi ρ σ H hd ls _ ds gd h1 hR hL e1 λρ1 H1 J x1 R1 G1 Y=>?_;intro Da hDa;obtain⟨R1',x1'⟩:=R1.hid (ho:=.lst []) hDa;have oD:Da∉ρ1:=R1.out hDa;have nD:H Da=none:=x1.none hR hDa R1;refine⟨λi mm σ2 ys H2=>mm=ds.length-i/\i<=ds.length/\∃ρ2 ls2 hd2 es rest,Ext ρ1 (upd H1 Da (.lst ys)) ρ2 H2/\Ext ρ1 H1 ρ2 H2/\Da∉ρ2/\H2 Da=some (.lst ys)/\RH K ρ2 H2 hd2/\RL K ρ2 H2 ls2 σ2/\RDs K ρ2 H2 es ys/\es.length<=i/\GOk hd2 gd/\Az n c m gd (ds.drop i) ls2 hd2=some (rest,hd')/\out=es++rest,
   ⟨ds.length,by simp,zero_le _,ρ1,_,h1,[],out,.refl,x1',oD,AM,R1',(Vs ((hL.ext hR x1).ext R1 x1')),.nil,le_refl _,G1,by simpa using hm,rfl⟩,?_⟩
  rintro i mm σ2 ys H2 ⟨rfl,hi,ρ2,ls2,hd2,es,rest,x2',x2,oD2,hD2,R2,L2',r2,hle,G2,hm2,rfl⟩;refine⟨hD2,?_⟩;obtain⟨Y1,Y2⟩:=Y ρ2 H2 hd2 x2 R2 G2 i;by_cases hlt:i<ds.length
  .obtain⟨go,Y1⟩:=Y1 hlt;have ed:ds.drop i=ds[i]::ds.drop (i+1):=drop_eq_getElem_cons hlt;rw[ed]at hm2;unfold Az at hm2;obtain⟨ls3,e3,hm2⟩:=c5 hm2;obtain⟨⟨bb,hd4⟩,e4,hm2⟩:=c5 hm2;refine .inr ⟨go,Nat.lt_of_le_of_lt (by rw[r2.len];exact hle) (by omega),λσ' ys' H'=>∃ρ2 ls2 hd2 es' rest',Ext ρ1 (upd H1 Da (.lst ys')) ρ2 H'/\Ext ρ1 H1 ρ2 H'/\Da∉ρ2/\H' Da=some (.lst ys')/\RH K ρ2 H' hd2/\RL K ρ2 H' ls2 σ'/\RDs K ρ2 H' es' ys'/\es'.length<=i+1/\GOk hd2 gd/\Az n c m gd (ds.drop (i+1)) ls2 hd2=some (rest',hd')/\es++rest=es'++rest',λσ' ys' H' z=>⟨ds.length-(i+1),by omega,rfl,hlt,z⟩,λx H3 y=>?_⟩;obtain⟨ρ3,d3,x3,rfl,R3,e5,r3⟩:=Y1 x H3 y;have e6:d3=ds[i]:=by
    have:ds[i]?=some ds[i]:=by simp[hlt]
    rw[this]at e5;exact(Option.some.inj e5).symm
   subst e6;refine hg ρ3 σ2 H3 hd2 ls2 ls3 _ x _ R3 (L2'.ext R2 x3) r3 e3 λσ4 L4=>?_;refine hf ρ3 σ4 H3 hd2 ls3 _ bb hd4 R3 L4 e4 λρ5 H5 x5 R5=>?_;have hD5:H5 Da=some (.lst ys):=x5.keep Da _ (x3.keep Da _ hD2 oD2 nt) oD2 nt;have out5:Da∉ρ5:=by
    obtain⟨r,rfl,fr⟩:=x5.pre;intro z;rcases mem_append.mp z with z|z
    .exact oD2 z
    .have:=fr _ z;rw[x3.keep Da _ hD2 oD2 nt]at this;cases this
   cases bb with
   |false=>
    rw[if_neg Bool.false_ne_true]at hm2 ⊢;have y25:=x3.trans R3 x5;split at hm2
    .next g5=>exact⟨ρ5,ls3,hd4,es,rest,x2'.trans R2 y25,(x2.trans R2 y25),out5,hD5,R5,L4.ext R3 x5,(r2.ext R2 y25),by omega,g5,hm2,rfl⟩
    .cases hm2
   |true=>
    rw[if_pos rfl]at hm2 ⊢;obtain⟨⟨z,hd6⟩,e6,hm2⟩:=c5 hm2;obtain⟨g6,hm2⟩:GOk hd6 gd/\((Az n c m gd (ds.drop (i+1)) ls3 hd6).map λq=>(z::q.1,q.2))=some (rest,hd'):=by
     dsimp only at hm2;split at hm2
     .next g6=>exact⟨g6,hm2⟩
     .cases hm2
    obtain⟨⟨zs,hd7⟩,e7,e8⟩:=c7 hm2;cases e8;refine he ρ5 σ4 H5 hd4 ls3 _ z hd6 R5 (L4.ext R3 x5) e6 λρ6 H6 v6 x6 R6 r6=>?_;have hD6:H6 Da=some (.lst ys):=x6.keep Da _ hD5 out5 nt;have out6:Da∉ρ6:=by
     obtain⟨r,rfl,fr⟩:=x6.pre;intro z;rcases mem_append.mp z with z|z
     .exact out5 z
     .have:=fr _ z;rw[hD5]at this;cases this
    refine⟨hD6,?_⟩;have y26:=(x3.trans R3 x5).trans R5 x6;have gr:Grow H6 (upd H6 Da (.lst (ys++[v6]))):=Grow.refl.put (.lst hD6);have R7:=R6.hput (ho:=.lst (ys++[v6])) out6 hD6;have x12:=x2.trans R2 y26;have ext7:Ext ρ1 H1 ρ6 (upd H6 Da (.lst (ys++[v6]))):=⟨x12.pre,λb o q nb t=>by
     have:b≠Da:=AS q hDa;rw[AC this];exact x12.keep b o q nb t,λb ps q=>by
     have:b≠Da:=AS q hDa;rw[AC this];exact x12.tab b ps q⟩
    have ext8:Ext ρ1 (upd H1 Da (.lst (ys++[v6]))) ρ6 (upd H6 Da (.lst (ys++[v6]))):=by
     obtain⟨r,er,fr⟩:=x12.pre;refine⟨⟨r,er,λb hb=>?_⟩,λb o q nb t=>?_,λb ps q=>?_⟩
     .have:b≠Da:=λz=>out6 (by rw[er,<- z];exact mem_append_right _ hb);rw[AC this];exact fr b hb
     .by_cases hb:b=Da
      .subst hb;rw[AM]at q ⊢;exact q
      .rw[AC hb]at q ⊢;exact x12.keep b o q nb t
     .by_cases hb:b=Da
      .subst hb;rw[AM]at q;cases q
      .rw[AC hb]at q ⊢;exact x12.tab b ps q
    refine⟨ρ6,ls3,hd6,es++[z],zs,ext8,ext7,out6,AM,R7,?_,?_,by simp;omega,g6,e7,by simp⟩
    .have L6:=(L4.ext R3 x5).ext R5 x6;exact⟨L6.len,λi d e=>let ⟨v,a,b⟩:=L6.ob i d e;⟨v,a,by simpa using b.mono gr []⟩⟩
    .have:=((r2.ext R2 y26).app (.cons r6 .nil)).mono gr [];simpa using this
  .have e:i=ds.length:=by omega
   subst e;rw[List.drop_length]at hm2;unfold Az at hm2;cases hm2;refine .inl ⟨Y2 rfl,?_⟩;exact hQ ρ2 H2 Da ys (x1.trans R1 x2) R2 nD oD2 hD2 (by simpa using r2)
 .cases hm
end
mutual
def clD(w:Nat):D->Bool
 |.im _=>true
 |.mu n=>decide (n<w)
 |.tm ds=>B4 w ds
 |.ro _=>true
 |.op _ _ ds=>B4 w ds
 |.fv _ ds=>B4 w ds
def B4(w:Nat):List D->Bool
 |[]=>true
 |d::ds=>clD w d&&B4 w ds
end
def FO(w:Nat):List (Key×D)->Bool
 |[]=>true
 |d::ds=>clD w d.2&&FO w ds
def clO(w:Nat):MO->Bool
 |.lst ds=>B4 w ds
 |.dic ds=>FO w ds
section
variable{K:PySem.W.Frag}{ρ ρ' ρ1:List Addr}{H H' H1:Hp}{hd hd' h1 h2:Hd}
mutual
theorem RD.take(w:Nat):∀{d:D} {v:V},RD K ρ H d v->clD w d=true->RD K (ρ.take w) H d v
 |.im i,v,h,_=>by simp only[RD]at h ⊢;exact h
 |.mu n,v,h,c=>by
  simp only[RD]at h ⊢;obtain⟨a,e,q⟩:=h;exact⟨a,by rw[List.getElem?_take_of_lt (by simpa [clD]using c)];exact e,q⟩
 |.tm ds,v,h,c=>by
  simp only[RD]at h ⊢;obtain⟨a,xs,e,q,z⟩:=h;exact⟨a,xs,e,q,RDs.take' w z (by simpa [clD]using c)⟩
 |.ro ns,v,h,c=>by simp only[RD]at h ⊢;exact h
 |.op nm fs ds,v,h,c=>by
  simp only[RD]at h ⊢;obtain⟨a,xs,e,q,z⟩:=h;exact⟨a,xs,e,q,RDs.take' w z (by simpa [clD]using c)⟩
 |.fv k ds,v,h,c=>by
  simp only[RD]at h ⊢;obtain⟨a,xs,e,q,z⟩:=h;exact⟨a,xs,e,q,RDs.take' w z (by simpa [clD]using c)⟩
theorem RDs.take'(w:Nat):∀{d:List D} {v:List V},RDs K ρ H d v->B4 w d=true->RDs K (ρ.take w) H d v
 |[],v,h,_=>by simpa only[RDs]using h
 |d::ds,v,h,c=>by
  simp only[RDs]at h ⊢;obtain⟨x,r',e,q,z⟩:=h;have c:clD w d=true/\B4 w ds=true:=by simpa [B4]using c
  exact⟨x,r',e,q.take w c.1,RDs.take' w z c.2⟩
end
theorem RKs.take(w:Nat):∀{d:List (Key×D)} {v:List (Key×V)},RKs K ρ H d v->FO w d=true->RKs K (ρ.take w) H d v
 |[],v,h,_=>by simpa only[RKs]using h
 |d::ds,v,h,c=>by
  simp only[RKs]at h ⊢;obtain⟨x,r',e,q1,q,z⟩:=h;have c:clD w d.2=true/\FO w ds=true:=by simpa [FO]using c
  exact⟨x,r',e,q1,q.take w c.1,RKs.take w z c.2⟩
theorem RC.take(w:Nat){o:MO}{ho:HO}(h:RC K ρ H o ho)(c:clO w o=true):RC K (ρ.take w) H o ho:=by
 cases o with
 |lst ds=>obtain⟨xs,e,q⟩:=h;exact⟨xs,e,q.take' w c⟩
 |dic ds=>obtain⟨xs,e,q⟩:=h;exact⟨xs,e,q.take w c⟩
theorem RH.take(h:RH K ρ H hd)(w:Nat)(c:(hd.take w).all (clO w)=true):RH K (ρ.take w) H (hd.take w):=by
 refine⟨by simp[h.len],h.nd.sublist (List.take_sublist _ _),h.tabs,λn o a e1 e2=>?_⟩;have co:=all_eq_true.mp c o (mem_of_getElem? e1);have hn:n<w:=by
  have:=(List.getElem?_eq_some_iff.mp e1).1;simp at this;omega
 rw[List.getElem?_take_of_lt hn]at e1 e2;obtain⟨ho,q1,q2⟩:=h.ob n o a e1 e2;exact⟨ho,q1,q2.take w co⟩
def RH.back(R1:RH K ρ1 H1 h1){w:Nat}(hw:w<=h1.length)(c1:(h1.take w).all (clO w)=true)(x:Ext (ρ1.take w) H1 ρ' H')(R':RH K ρ' H' h2)(c:(h2.take w).all (clO w)=true):
 RH K ρ1 H' (h2.take w++h1.drop w)/\Ext ρ1 H1 ρ1 H'/\ρ'.take w=ρ1.take w:=by
 obtain⟨r,rfl,fr⟩:=x.pre;have lw:(ρ1.take w).length=w:=by rw[length_take,R1.len];omega
 have l2:w<=h2.length:=by rw[<- R'.len];simp[lw]
 have tk:(ρ1.take w++r).take w=ρ1.take w:=by rw[List.take_append_of_le_length (by omega),List.take_take];simp
 refine⟨⟨?_,R1.nd,R'.tabs,λn o a e1 e2=>?_⟩,⟨⟨[],by simp,by simp⟩,λb o q nb t=>x.keep b o q (λm=>nb (List.mem_of_mem_take m)) t,x.tab⟩,tk⟩
 .rw[length_append,length_take,List.length_drop,R1.len];omega
 .by_cases hn:n<w
  .rw[List.getElem?_append_left (by rw[length_take];omega),List.getElem?_take_of_lt hn]at e1;have e3:(ρ1.take w++r)[n]?=some a:=by
    rw[List.getElem?_append_left (by omega),List.getElem?_take_of_lt hn];exact e2
   obtain⟨ho,q1,q2⟩:=R'.ob n o a e1 e3;have co:=all_eq_true.mp c o (by
    have:(h2.take w)[n]?=some o:=by rw[List.getElem?_take_of_lt hn];exact e1
    exact mem_of_getElem? this)
   have q3:=q2.take w co;rw[tk]at q3;have q4:=q3.mono (Grow.refl (H:=H')) (ρ1.drop w);rw[take_append_drop]at q4;exact⟨ho,q1,q4⟩
  .rw[List.getElem?_append_right (by rw[length_take];omega),length_take,List.getElem?_drop]at e1;have e1:h1[n]?=some o:=by
    have:w+(n-min w h2.length)=n:=by omega
    rw[this]at e1;exact e1
   obtain⟨ho,q1,q2⟩:=R1.ob n o a e1 e2;have out:a∉ρ1.take w:=λm=>by
    obtain⟨k,hk⟩:=mem_iff_getElem?.mp m;have kw:k<w:=by
     have:=(List.getElem?_eq_some_iff.mp hk).1;rw[lw]at this;exact this
    rw[List.getElem?_take_of_lt kw]at hk;have:=(List.getElem?_inj (List.getElem?_eq_some_iff.mp e2).1 R1.nd).mp (e2.trans hk.symm);omega
   have gr:=x.grow (R1.take w c1);exact⟨ho,x.keep a ho q1 out (λps z=>by rcases R1.mut (mem_of_getElem? e2)with⟨y,w⟩|⟨y,w⟩<;>(rw[q1,z]at w;cases w)),by simpa using q2.mono gr []⟩
def spF(K:PySem.W.Frag)(k:Nat)(F:List D->Hd->Option (D×Hd)):Sp:=λvs H Q _=>vs.length=k/\∃(ρ:List Addr) (hd:Hd) (ds:List D) (d:D) (hd':Hd),RH K ρ H hd/\RDs K ρ H ds vs/\F ds hd=some (d,hd')/\
 ∀ρ' H' v,Ext ρ H ρ' H'->RH K ρ' H' hd'->RD K ρ' H' d v->Q v H'
def mkF(k n:Nat)(m:MS):List D->Hd->Option (D×Hd):=λds hd=>if ds.length=k then(match m (ds.map some++List.replicate (n-k) none) hd with
 |some (.rt d,hd')=>some (d,hd')
 |some (.nx _,hd')=>some (.im .non,hd')
 | _=>none)else none
def LS{N:List Str}:∀{ds:List D} {vs:List V},RDs K ρ H ds vs->RL K ρ H (ds.map some++List.replicate (N.length-ds.length) none) (start N vs):=by
 intro ds vs r;have hl:=r.len;refine⟨by simp[start,hl],λi d e=>?_⟩;unfold start;by_cases hi:i<ds.length
 .rw[List.getElem?_append_left (by simpa using hi),List.getElem?_map]at e;have e':ds[i]?=some d:=by
   cases q:ds[i]? with
   |none=>rw[q]at e;cases e
   |some z=>rw[q]at e;simpa using e
  obtain⟨x,x1,x2⟩:=r.get e';exact⟨x,by rw[List.getElem?_append_left (by rw[length_map,hl];exact hi),List.getElem?_map,x1];rfl,x2⟩
 .rw[List.getElem?_append_right (by simpa using Nat.not_lt.mp hi),List.getElem?_replicate]at e;split at e<;>cases e
def N9{k:Nat}{N:List Str}{m:MS}{t:TS}(h:RS K t m){vs:List V}{H:Hp}{Q:VK}{E:XK}(s:spF K k (mkF k N.length m) vs H Q E):t { nx:=λ_ H'=>Q .non H',rt:=Q } (start N vs) H:=by
 obtain⟨hk,ρ,hd,ds,d,hd',hR,hr,hF,hQ⟩:=s;unfold mkF at hF;split at hF
 .next hl=>
  subst hl;split at hF
  .next q=>
   cases hF;exact h ρ _ H hd _ _ _ _ hR (LS hr) q λρ' H' x R v r=>hQ ρ' H' v x R r
  .next q=>
   cases hF;exact h ρ _ H hd _ _ _ _ hR (LS hr) q λρ' H' x R σ L=>hQ ρ' H' .non x R (by simp[RD,RI])
  .cases hF
 .cases hF
def CJ(F:List D->Hd->Option (D×Hd))(ma:MA):ME:=λls hd=>(ma ls hd).bind λp=>F p.1 p.2
def Rj{k:Nat}{F:List D->Hd->Option (D×Hd)}{t:TA}{m:MA}(h:RA K t m)(hk:∀ds hd z,F ds hd=some z->ds.length=k):RE K (Ey (spF K k F) [] E0 t) (CJ F m):=by
 and_intros;obtain⟨⟨d1,h1⟩,e1,hm⟩:=c5 hm;refine h ρ σ H hd ls _ d1 h1 hR hL e1 λρ1 H1 v1 x1 R1 r1=>?_;rw[append_nil];exact⟨by rw[r1.len];exact hk _ _ _ hm,ρ1,h1,d1,d,hd',R1,r1,hm,λρ' H' w x2 R2 r2=>hQ ρ' H' w (x1.trans R1 x2) R2 r2⟩
def NT{k n:Nat}{m:MS}:∀ds hd z,mkF k n m ds hd=some z->ds.length=k:=λds hd z h=>by
 unfold mkF at h;split at h
 .next e=>exact e
 .cases h
def fin(w:Nat)(d:D)(h2 rest:Hd):Option (D×Hd):=if(h2.take w).all (clO w)=true then(match d with
 | .mu k=>if k<w then some (.mu k,h2.take w++rest)else(match h2[k]? with
  |some (.lst ds)=>if B4 w ds=true then some (.mu (w+rest.length),h2.take w++rest++[.lst ds])else none
  | _=>none)
 | d=>if clD w d=true then some (d,h2.take w++rest)else none)else none
def AA(w:Nat)(F:List D->Hd->Option (D×Hd))(ma:MA):ME:=λls hd=>(ma ls hd).bind λp=>
 if w<=p.2.length/\B4 w p.1=true/\(p.2.take w).all (clO w)=true then(F p.1 (p.2.take w)).bind λr=>fin w r.1 r.2 (p.2.drop w)else none
def Rh{w k:Nat}{F:List D->Hd->Option (D×Hd)}{t:TA}{m:MA}(h:RA K t m)(hk:∀ds hd z,F ds hd=some z->ds.length=k):RE K (Ey (spF K k F) [] E0 t) (AA w F m):=by
 and_intros;obtain⟨⟨d1,h1⟩,e1,hm⟩:=c5 hm;dsimp only at hm;split at hm
 .next c=>
  obtain⟨c0,c1,c2⟩:=c;obtain⟨⟨d2,h2⟩,e2,hm⟩:=c5 hm;refine h ρ σ H hd ls _ d1 h1 hR hL e1 λρ1 H1 v1 x1 R1 r1=>?_;rw[append_nil];refine⟨by rw[r1.len];exact hk _ _ _ e2,ρ1.take w,h1.take w,d1,d2,h2,R1.take w c2,r1.take' w c1,e2,λρ' H' v x2 R2 r2=>?_⟩;unfold fin at hm;dsimp only at hm;split at hm
  .next c3=>
   obtain⟨R3,x3,tk⟩:=R1.back c0 c2 x2 R2 c3;have up:∀{d:D} {v:V},RD K ρ' H' d v->clD w d=true->RD K ρ1 H' d v:=λr c=>by
    have q:=r.take w c;rw[tk]at q;have q:=q.mono (Grow.refl (H:=H')) (ρ1.drop w);rw[take_append_drop]at q;exact q
   have ups:∀{d:List D} {v:List V},RDs K ρ' H' d v->B4 w d=true->RDs K ρ1 H' d v:=λr c=>by
    have q:=r.take' w c;rw[tk]at q;have q:=q.mono (Grow.refl (H:=H')) (ρ1.drop w);rw[take_append_drop]at q;exact q
   split at hm
   .next k'=>
    split at hm
    .next hk'=>
     cases hm;exact hQ ρ1 H' v (x1.trans R1 x3) R3 (up r2 (by simpa [clD]using hk'))
    .next hk'=>
     split at hm
     .next ds q=>
      split at hm
      .next c4=>
       cases hm;simp only[RD]at r2;obtain⟨a,ea,rfl⟩:=r2;obtain⟨xs,l1,l2⟩:=R2.lst ea q;have len3:=R3.len;have out:a∉ρ1:=λm=>by
        -- a is one of those made behind the first w
        obtain⟨r,er,fr⟩:=x2.pre;have lw:(ρ1.take w).length=w:=by rw[length_take,R1.len];omega
        have ma:a∈r:=by
         rw[er,List.getElem?_append_right (by rw[lw];omega)]at ea;exact mem_of_getElem? ea
        exact R1.out (fr a ma) m
       have na:H1 a=none:=by
        obtain⟨r,er,fr⟩:=x2.pre;have lw:(ρ1.take w).length=w:=by rw[length_take,R1.len];omega
        have ma:a∈r:=by
         rw[er,List.getElem?_append_right (by rw[lw];omega)]at ea;exact mem_of_getElem? ea
        exact fr a ma
       refine hQ (ρ1++[a]) H' _ (x1.trans R1 (x3.name na)) (R3.name out l1 (ups l2 c4)) ?_;simp only[RD];refine⟨a,?_,rfl⟩;have:w+(List.drop w h1).length=ρ1.length:=by rw[List.length_drop,R1.len];omega
       rw[this];simp
      .cases hm
     .cases hm
   .next d' nd=>
    split at hm
    .next c4=>cases hm;exact hQ ρ1 H' v (x1.trans R1 x3) R3 (up r2 c4)
    .cases hm
  .cases hm
 .cases hm
def BJ(c:MT)(b:MS):Nat->Ls->Hd->Option (Fl×Hd)
 |0,_,_=>none
 | k+1,ls,hd=>(c ls hd).bind λp=>if p.1=true then(b ls p.2).bind λq=>(match q.1 with
  |.nx ls2=>BJ c b k ls2 q.2
  |.ct ls2=>BJ c b k ls2 q.2
  |.bk ls2=>some (.nx ls2,q.2)
  | .rt d=>some (.rt d,q.2))else some (.nx ls,p.2)
open Classical in
def Ei(c:MT)(b:MS):MS:=λls hd=>if h:∃r k,BJ c b k ls hd=some r then some h.choose else none
theorem Dj{c:MT}{b:MS}:∀{k j:Nat} {ls:Ls} {hd:Hd} {r:Fl×Hd},BJ c b k ls hd=some r->k<=j->BJ c b j ls hd=some r
 |0,_,_,_,_,h,_=>by cases h
 |k+1,0,_,_,_,_,hj=>by omega
 |k+1,j+1,ls,hd,r,h,hj=>by
  unfold BJ at h ⊢;obtain⟨p,e1,h⟩:=c5 h;rw[e1];show(if p.1=true then _ else _)=_;split at h
  .next c=>
   rw[if_pos c];obtain⟨q,e2,h⟩:=c5 h;rw[e2];obtain⟨f,hd2⟩:=q;cases f with
   |nx ls2=>exact Dj h (by omega)
   |ct ls2=>exact Dj h (by omega)
   |bk ls2=>exact h
   |rt d=>exact h
  .next c=>rw[if_neg c];exact h
def Q3{c:MT}{b:MS}{k:Nat}{ls:Ls}{hd:Hd}{r:Fl×Hd}(h:BJ c b k ls hd=some r):Ei c b ls hd=some r:=by
 unfold Ei;have ex:∃r k,BJ c b k ls hd=some r:=⟨r,k,h⟩
 rw[dif_pos ex];obtain⟨j,e⟩:=ex.choose_spec;have e1:=Dj e (Nat.le_max_left j k);have e2:=Dj h (Nat.le_max_right j k);rw[e1]at e2;exact e2
def RZ{tc:TT}{tb:TS}{c:MT}{b:MS}(hc:RT K tc c)(hb:RS K tb b):RS K (Kx tc tb) (Ei c b):=by
 intro ρ σ H hd ls E f hd' hR hL hm hQ;obtain⟨k,hk⟩:∃k,BJ c b k ls hd=some (f,hd'):=by
  unfold Ei at hm;split at hm
  .next ex=>
   obtain⟨j,e⟩:=ex.choose_spec;exact⟨j,by rw[e];exact hm⟩
  .cases hm
 refine⟨λm σ2 H2=>∃ρ2 ls2 hd2,Ext ρ H ρ2 H2/\RH K ρ2 H2 hd2/\RL K ρ2 H2 ls2 σ2/\BJ c b m ls2 hd2=some (f,hd'),⟨k,ρ,ls,hd,.refl,hR,hL,hk⟩,?_⟩;rintro m σ2 H2 ⟨ρ2,ls2,hd2,x2,R2,L2',hm2⟩;cases m with
 |zero=>cases hm2
 |succ m=>
  unfold BJ at hm2;obtain⟨⟨bb,hd3⟩,e1,hm2⟩:=c5 hm2;refine hc ρ2 σ2 H2 hd2 ls2 _ bb hd3 R2 L2' e1 λρ3 H3 x3 R3=>?_;cases bb with
  |false=>
   rw[if_neg Bool.false_ne_true]at hm2 ⊢;cases hm2;exact hQ ρ3 H3 (x2.trans R2 x3) R3 σ2 (L2'.ext R2 x3)
  |true=>
   rw[if_pos rfl]at hm2 ⊢;obtain⟨⟨fl,hd4⟩,e2,hm2⟩:=c5 hm2;refine⟨λσ' H'=>∃ρ2 ls2 hd2,Ext ρ H ρ2 H'/\RH K ρ2 H' hd2/\RL K ρ2 H' ls2 σ'/\BJ c b m ls2 hd2=some (f,hd'),λσ' H' z=>⟨m,lt_succ_self m,z⟩,?_⟩;refine hb ρ3 σ2 H3 hd3 ls2 _ fl hd4 R3 (L2'.ext R2 x3) e2 λρ5 H5 x5 R5=>?_;have x15:=(x2.trans R2 x3).trans R3 x5;cases fl with
   |nx ls5=>intro σ5 L5;exact⟨ρ5,ls5,hd4,x15,R5,L5,hm2⟩
   |ct ls5=>intro σ5 L5;exact⟨ρ5,ls5,hd4,x15,R5,L5,hm2⟩
   |bk ls5=>intro σ5 L5;cases hm2;exact hQ ρ5 H5 x15 R5 σ5 L5
   |rt d5=>intro v5 r5;cases hm2;exact hQ ρ5 H5 x15 R5 v5 r5
def CW(kvs:List (Key×D))(k:Key):Option D:=(kvs.find? λkv=>decide (kv.1=k)).map (·.2)
def DF(kvs:List (Key×D))(k:Key)(v:D):List (Key×D):=
 if(kvs.any λkv=>decide (kv.1=k))=true then kvs.map (λkv=>if kv.1=k then(kv.1,v)else kv)else kvs++[(k,v)]
theorem RKs.val:∀{kvs:List (Key×D)} {xs:List (Key×V)} {k:Key} {d:D},RKs K ρ H kvs xs->CW kvs k=some d->∃v,DW xs k=some v/\RD K ρ H d v
 |[],xs,k,d,h,e=>by simp[CW]at e
 |p::kvs,xs,k,d,h,e=>by
  simp only[RKs]at h;obtain⟨x,r,rfl,e1,r1,r2⟩:=h;by_cases hk:p.1=k
  .rw[EZ (e1.trans hk)];simp[CW,find?_cons,hk]at e;subst e;exact⟨_,rfl,r1⟩
  .rw[Eb (by rw[e1];exact hk)];simp only[CW,find?_cons,hk,decide_false]at e;exact RKs.val r2 e
theorem RKs.valN:∀{kvs:List (Key×D)} {xs:List (Key×V)} {k:Key},RKs K ρ H kvs xs->(DW xs k).isSome=(CW kvs k).isSome
 |[],xs,k,h=>by simp only[RKs]at h;subst h;rfl
 |p::kvs,xs,k,h=>by
  simp only[RKs]at h;obtain⟨x,r,rfl,e1,r1,r2⟩:=h;by_cases hk:p.1=k
  .rw[EZ (e1.trans hk)];simp[CW,find?_cons,hk]
  .rw[Eb (by rw[e1];exact hk)];simp only[CW,find?_cons,hk,decide_false];exact RKs.valN r2
theorem RKs.any:∀{kvs:List (Key×D)} {xs:List (Key×V)} {k:Key},RKs K ρ H kvs xs->(xs.any λkv=>decide (kv.1=k))=(kvs.any λkv=>decide (kv.1=k))
 |[],xs,k,h=>by simp only[RKs]at h;subst h;rfl
 |p::kvs,xs,k,h=>by
  simp only[RKs]at h;obtain⟨x,r,rfl,e1,r1,r2⟩:=h;simp only[any_cons,e1,RKs.any r2]
theorem RKs.upd:∀{kvs:List (Key×D)} {xs:List (Key×V)} {k:Key} {d:D} {v:V},RKs K ρ H kvs xs->RD K ρ H d v->RKs K ρ H (kvs.map (λkv=>if kv.1=k then(kv.1,d)else kv)) (xs.map (λkv=>if kv.1=k then(kv.1,v)else kv))
 |[],xs,k,d,v,h,_=>by simp only[RKs]at h;subst h;simp[RKs]
 |p::kvs,xs,k,d,v,h,q=>by
  simp only[RKs]at h;obtain⟨x,r,rfl,e1,r1,r2⟩:=h;simp only[map_cons,RKs];refine⟨_,_,rfl,?_,?_,RKs.upd r2 q⟩
  .rw[e1];split<;>simp[e1]
  .rw[e1];split
   .exact q
   .exact r1
theorem RKs.app:∀{kvs ks:List (Key×D)} {xs ys:List (Key×V)},RKs K ρ H kvs xs->RKs K ρ H ks ys->RKs K ρ H (kvs++ks) (xs++ys)
 |[],ks,xs,ys,h,t=>by simp only[RKs]at h;subst h;simpa using t
 |d::ds,ks,xs,ys,h,t=>by
  simp only[RKs]at h;obtain⟨x,r,rfl,e,z,q⟩:=h;simp only[cons_append,RKs];exact⟨_,_,rfl,e,z,q.app t⟩
def RKs.put{kvs:List (Key×D)}{xs:List (Key×V)}{k:Key}{d:D}{v:V}(h:RKs K ρ H kvs xs)(q:RD K ρ H d v):RKs K ρ H (DF kvs k d) (C8 xs k v):=by
 unfold DF C8;rw[h.any];split
 .exact h.upd q
 .exact h.app (by simp only[RKs];exact⟨_,_,rfl,rfl,q,rfl⟩)
def Dc:D->Option Key
 |.im (.int i)=>some (.inl i)
 |.im (.str x)=>some (.inr x)
 |_=>none
def Ja{d:D}{v:V}{k:Key}(h:RD K ρ H d v)(e:Dc d=some k):v=kV k:=by
 cases d with
 |im i=>
  cases i with
  |int i=>simp only[Dc,Option.some.injEq]at e;subst e;simp only[RD,RI]at h;exact h
  |str i=>simp only[Dc,Option.some.injEq]at e;subst e;simp only[RD,RI]at h;exact h
  |_=>simp[Dc]at e
 |_=>simp[Dc]at e
def EU(hd:Hd):D->Option (List (Key×D))
 |.mu n=>match hd[n]? with
  |some (.dic kvs)=>some kvs
  |_=>none
 |_=>none
theorem RD.dic{d:D}{v:V}{kvs:List (Key×D)}(hR:RH K ρ H hd)(h:RD K ρ H d v)(e:EU hd d=some kvs):∃n a xs,d=.mu n/\v=.ref a/\ρ[n]?=some a/\H a=some (.dK xs)/\RKs K ρ H kvs xs:=by
 cases d with
 |mu n=>
  simp only[EU]at e;simp only[RD]at h;obtain⟨a,hn,rfl⟩:=h;split at e
  .next q=>
   cases e;obtain⟨xs,e1,e2⟩:=hR.dic hn q;exact⟨n,a,xs,rfl,rfl,hn,e1,e2⟩
  .cases e
 |_=>simp[EU]at e
def CD:D->D->Hd->Option (D×Hd):=λd e hd=>(EU hd d).bind λkvs=>(Dc e).bind λk=>(CW kvs k).map (·,hd)
def UL{td ty:TE}{md my:ME}(hd:RE K td md)(hy:RE K ty my):RE K (Nz td ty) (mOp CD md my):=by
 intro ρ σ H hd0 ls Q d hd' hR hL hm hQ;obtain⟨⟨d1,h1⟩,e1,hm⟩:=c5 hm;obtain⟨⟨d2,h2⟩,e2,hm⟩:=c5 hm;obtain⟨kvs,e3,hm⟩:=c5 hm;obtain⟨k,e4,hm⟩:=c5 hm;obtain⟨w,e5,e6⟩:=c7 hm;cases e6;refine hd ρ σ H hd0 ls _ d1 h1 hR hL e1 λρ1 H1 v1 x1 R1 r1=>?_;refine hy ρ1 σ H1 h1 ls _ d2 _ R1 (hL.ext hR x1) e2 λρ2 H2 v2 x2 R2 r2=>?_;obtain⟨n,a,xs,rfl,rfl,hn,l1,l2⟩:=RD.dic R2 (r1.ext R1 x2) e3;have:=Ja r2 e4;subst this;obtain⟨v,v1,v2⟩:=l2.val e5;exact⟨a,v,rfl,v1 ▸ DGet.k l1,hQ ρ2 H2 v (x1.trans R1 x2) R2 v2⟩
open Classical in
def F7(md my mv:ME):MS:=λls hd=>(mv ls hd).bind λp=>(md ls p.2).bind λq=>(my ls q.2).bind λr=>(Dc r.1).bind λk=>match q.1 with
 |.mu n=>match r.2[n]? with
  |some (.dic kvs)=>if G7 kvs.length then some (.nx ls,r.2.set n (.dic (DF kvs k p.1)))else none
  |_=>none
 |_=>none
def U4{td ty tv:TE}{md my mv:ME}(hd:RE K td md)(hy:RE K ty my)(hv:RE K tv mv):RS K (OC td ty tv) (F7 md my mv):=by
 intro ρ σ H hd0 ls E f hd' hR hL hm hQ;obtain⟨⟨d1,h1⟩,e1,hm⟩:=c5 hm;obtain⟨⟨d2,h2⟩,e2,hm⟩:=c5 hm;obtain⟨⟨d3,h3⟩,e3,hm⟩:=c5 hm;obtain⟨k,e4,hm⟩:=c5 hm;dsimp only at hm;split at hm
 .split at hm
  .next q=>
   split at hm
   .next c=>
    cases hm;refine hv ρ σ H hd0 ls _ d1 h1 hR hL e1 λρ1 H1 v1 x1 R1 r1=>?_;refine hd ρ1 σ H1 h1 ls _ _ h2 R1 (hL.ext hR x1) e2 λρ2 H2 v2 x2 R2 r2=>?_;refine hy ρ2 σ H2 h2 ls _ d3 _ R2 (hL.ext hR (x1.trans R1 x2)) e3 λρ3 H3 v3 x3 R3 r3=>?_;have r2:=r2.ext R2 x3;simp only[RD]at r2;obtain⟨a,hn,rfl⟩:=r2;obtain⟨xs,l1,l2⟩:=R3.dic hn q;have:=Ja r3 e4;subst this;obtain⟨R4,x4⟩:=R3.put hn (o:=.dic (DF _ k d1)) (ho:=.dK (C8 xs k v1)) ⟨_,rfl,l2.put ((r1.ext R1 x2).ext R2 x3)⟩;have x13:=(x1.trans R1 x2).trans R2 x3;exact⟨a,_,rfl,DPut.k l1 (by rw[l2.len];exact c),hQ ρ3 _ (x13.trans R3 x4) R4 σ ((hL.ext hR x13).ext R3 x4)⟩
   .cases hm
  .cases hm
 .cases hm
def E2:List (ME×ME)->Ls->Hd->Option (List (Key×D)×Hd)
 |[],_,hd=>some ([],hd)
 |(mk,mv)::r,ls,hd=>(mk ls hd).bind λp=>(mv ls p.2).bind λq=>(E2 r ls q.2).bind λz=>(Dc p.1).map λk=>((k,q.1)::z.1,z.2)
def FX(kvs more:List (Key×D)):List (Key×D):=more.foldl (λacc kv=>DF acc kv.1 kv.2) kvs
theorem RKs.merge:∀{more kvs:List (Key×D)} {ms xs:List (Key×V)},RKs K ρ H more ms->RKs K ρ H kvs xs->RKs K ρ H (FX kvs more) (Dz xs ms)
 |[],kvs,ms,xs,h,t=>by simp only[RKs]at h;subst h;exact t
 |d::ds,kvs,ms,xs,h,t=>by
  simp only[RKs]at h;obtain⟨x,r,rfl,e,z,q⟩:=h;show RKs K ρ H (FX (DF kvs d.1 d.2) ds) (Dz (C8 xs x.1 x.2) r);rw[e];exact q.merge (t.put z)
def RPs(K:PySem.W.Frag):List (TE×TE)->List (ME×ME)->Prop
 |[],[]=>True
 |t::ts,m::ms=>RE K t.1 m.1/\RE K t.2 m.2/\RPs K ts ms
 |_,_=>False
theorem Lb:∀{trs:List (TE×TE)} {ms:List (ME×ME)},RPs K trs ms->∀(ρ:List Addr) (σ:St) (H:Hp) (hd:Hd) (ls:Ls) (Q:List (V×V)->Hp->Prop) (kvs:List (Key×D)) (hd':Hd),RH K ρ H hd->RL K ρ H ls σ->E2 ms ls hd=some (kvs,hd') ->
 (∀ρ' H' xs,Ext ρ H ρ' H'->RH K ρ' H' hd'->RKs K ρ' H' kvs xs->Q (xs.map λkv=>(kV kv.1,kv.2)) H')->GW trs σ H Q
 |[],[],_,ρ,σ,H,hd,ls,Q,kvs,hd',hR,hL,hm,hQ=>by
  cases hm;exact hQ ρ H [] .refl hR (by simp[RKs])
 |(tk,tv)::ts,(mk,mv)::ms,⟨a,b,c⟩,ρ,σ,H,hd,ls,Q,kvs,hd',hR,hL,hm,hQ=>by
   unfold E2 at hm;obtain⟨⟨d1,h1⟩,e1,hm⟩:=c5 hm;obtain⟨⟨d2,h2⟩,e2,hm⟩:=c5 hm;obtain⟨⟨d3,h3⟩,e3,hm⟩:=c5 hm;obtain⟨k,e4,e5⟩:=c7 hm;cases e5;unfold GW;refine a ρ σ H hd ls _ d1 h1 hR hL e1 λρ1 H1 v1 x1 R1 r1=>?_;refine b ρ1 σ H1 h1 ls _ d2 h2 R1 (hL.ext hR x1) e2 λρ2 H2 v2 x2 R2 r2=>?_;refine Lb c ρ2 σ H2 h2 ls _ d3 _ R2 (hL.ext hR (x1.trans R1 x2)) e3 λρ3 H3 xs x3 R3 r3=>?_;have:=Ja r1 e4;subst this;exact hQ ρ3 H3 ((k,v2)::xs) ((x1.trans R1 x2).trans R2 x3) R3 (by simp only[RKs];exact⟨_,_,rfl,rfl,r2.ext R2 x3,r3⟩)
 |[],_::_,h,_,_,_,_,_,_,_,_,_,_,_,_=>h.elim
 |_::_,[],h,_,_,_,_,_,_,_,_,_,_,_,_=>h.elim
def Kl(ms:List (ME×ME)):ME:=λls hd=>(E2 ms ls hd).bind λp=>if p.1.length<=15 then some (.mu p.2.length,p.2++[.dic (FX [] p.1)])else none
def RH.nameD(hR:RH K ρ H hd){a:Addr}{xs:List (Key×V)}{kvs:List (Key×D)}(out:a∉ρ){o:HO}(e:H a=some o)(hs:¬ Stb o)(r:RKs K ρ H kvs xs)(h1:∀ps,o≠.tbl ps:=by intro _ z;cases z)(h2:∀φ,o≠.ext φ:=by intro _ z;cases z):RH K (ρ++[a]) (upd H a (.dK xs)) (hd++[.dic kvs]):=by
 have gr:Grow H (upd H a (.dK xs)):=Grow.refl.put λu st z=>hs (by rw[e]at z;cases z;exact st);refine⟨by simp[hR.len],?_,hR.tabs.upd (λps z=>h1 ps (Option.some.inj (e.symm.trans z))) (λps z=>h2 ps (Option.some.inj (e.symm.trans z))),λn o' b e1 e2=>?_⟩
 .rw[nodup_append];refine⟨hR.nd,by simp,λx hx y hy z=>?_⟩;simp at hy;subst hy;subst z;exact out hx
 .by_cases hn:n<ρ.length
  .rw[List.getElem?_append_left hn]at e2;rw[List.getElem?_append_left (by rw[<- hR.len];exact hn)]at e1;obtain⟨ho',q1,q2⟩:=hR.ob n o' b e1 e2;have:b≠a:=λz=>out (by rw[<- z];exact mem_of_getElem? e2);exact⟨ho',by rw[AC this];exact q1,q2.mono gr [a]⟩
  .have hn':n=ρ.length:=by
    have:=(List.getElem?_eq_some_iff.mp e2).1;simp at this;omega
   subst hn';simp at e2;rw[hR.len]at e1;simp at e1;subst e1;subst e2;exact⟨_,AM,⟨xs,rfl,r.mono gr [_]⟩⟩
def UK{trs:List (TE×TE)}{ms:List (ME×ME)}(h:RPs K trs ms):RE K (Ny trs) (Kl ms):=by
 and_intros;obtain⟨⟨kvs,h1⟩,e1,hm⟩:=c5 hm;dsimp only at hm;split at hm
 .next c=>
  cases hm;intro p hp;obtain⟨R0,x0⟩:=hR.hid (ho:=.dK []) hp;refine Lb h ρ σ _ hd ls _ kvs h1 R0 (hL.ext hR x0) e1 λρ1 H1 xs x1 R1 r1=>?_;have hp1:H1 p=some (.dK []):=x1.keep p _ AM (hR.out hp) nt;have op:p∉ρ1:=by
   obtain⟨r,rfl,fr⟩:=x1.pre;intro z;rcases mem_append.mp z with z|z
   .exact hR.out hp z
   .have:=fr _ z;rw[AM]at this;cases this
  refine⟨hp1,xs,rfl,by rw[r1.len];exact c,?_⟩;have mm:RKs K ρ1 H1 (FX [] kvs) (Dz [] xs):=r1.merge (by simp[RKs]);have R2:=R1.nameD op hp1 (λz=>z) mm;have x01:=x0.trans R0 x1;refine hQ (ρ1++[p]) _ _ ?_ R2 ?_
  .obtain⟨r,er,fr⟩:=x01.pre;refine⟨⟨r++[p],by rw[er];simp,λb m=>?_⟩,λb o q nb t=>?_,λb ps q=>?_⟩
   .rcases mem_append.mp m with m|m
    .exact fr b m
    .simp at m;subst m;exact hp
   .have:b≠p:=AS q hp;rw[AC this];exact x01.keep b o q nb t
   .have:b≠p:=AS q hp;rw[AC this];exact x01.tab b ps q
  .simp only[RD];exact⟨p,by rw[<- R1.len];simp,rfl⟩
 .cases hm
def Dk(mo mi mv:ME):MS:=λls hd=>(mv ls hd).bind λp=>(mo ls p.2).bind λq=>(mi ls q.2).bind λr=>match q.1,r.1 with
 |.mu n,.im (.int i)=>match r.2[n]? with
  |some (.lst ds)=>(ixN ds.length i).map λj=>(.nx ls,r.2.set n (.lst (ds.set j p.1)))
  |_=>none
 |_,_=>none
def U1{to ti tv:TE}{mo mi mv:ME}(ho:RE K to mo)(hi:RE K ti mi)(hv:RE K tv mv):RS K (Ed tv (Sj to ti Im)) (Dk mo mi mv):=by
 intro ρ σ H hd0 ls E f hd' hR hL hm hQ;obtain⟨⟨d1,h1⟩,e1,hm⟩:=c5 hm;obtain⟨⟨d2,h2⟩,e2,hm⟩:=c5 hm;obtain⟨⟨d3,h3⟩,e3,hm⟩:=c5 hm;dsimp only at hm;split at hm
 .split at hm
  .next q=>
   obtain⟨j,e4,e5⟩:=c7 hm;cases e5;refine hv ρ σ H hd0 ls _ d1 h1 hR hL e1 λρ1 H1 v1 x1 R1 r1=>?_;refine ho ρ1 σ H1 h1 ls _ _ h2 R1 (hL.ext hR x1) e2 λρ2 H2 v2 x2 R2 r2=>?_;refine hi ρ2 σ H2 h2 ls _ _ _ R2 (hL.ext hR (x1.trans R1 x2)) e3 λρ3 H3 v3 x3 R3 r3=>?_;have r2:=r2.ext R2 x3;simp only[RD]at r2;obtain⟨a,hn,rfl⟩:=r2;simp only[RD,RI]at r3;subst r3;obtain⟨xs,l1,l2⟩:=R3.lst hn q;obtain⟨R4,x4⟩:=R3.put hn (o:=.lst _) (ho:=.lst (xs.set j v1)) ⟨_,rfl,l2.set j ((r1.ext R1 x2).ext R2 x3)⟩;have x13:=(x1.trans R1 x2).trans R2 x3;exact⟨a,xs,_,j,rfl,rfl,l1,by rw[l2.len];exact e4,hQ ρ3 _ (x13.trans R3 x4) R4 σ ((hL.ext hR x13).ext R3 x4)⟩
  .cases hm
 .cases hm
end
end L2
namespace L2
open PySem PySem.Spec PyProof.Rows
structure QG(K:PySem.W.Frag)(X:Cx)(e:Expr)(t:TG)(m:MG):Prop where
 p:PG X e t
 r:RGt K t m
structure QGs(K:PySem.W.Frag)(X:Cx)(e:List Expr)(t:TGs)(m:MGs):Prop where
 p:PGs X e t
 r:Me K t m
structure QI(K:PySem.W.Frag)(X:Cx)(tg e:Expr)(t:TI)(m:MI):Prop where
 p:PI X tg e t
 r:RIt K t m
structure QF(K:PySem.W.Frag)(X:Cx)(e:List Expr)(t:TT)(m:MT):Prop where
 p:PF X e t
 r:RT K t m
structure QO(K:PySem.W.Frag)(X:Cx)(e:Option Expr)(t:TO)(m:MO1):Prop where
 p:PO X e t
 r:RO1 K t m
structure QPs(K:PySem.W.Frag)(X:Cx)(pos:Pos)(keys:List (Option Expr))(values:List Expr)(t:List (TE×TE))(m:List (ME×ME)):Prop where
 p:PPs X pos keys values t
 r:RPs K t m
def Th(a b:List D):Prop:=a≠[]/\CF (a.length+b.length)
open Classical in
def G6:D->D->Hd->Option (D×Hd):=λd e hd=>(AW d).bind λa=>(AW e).bind λb=>if Th a b then some (AV (a++b),hd)else none
def NJ{K:PySem.W.Frag}:RB K (OJ K) G6:=by
 intro ρ H hd d e v u Q z hd' hR h1 h2 hf hQ;unfold G6 at hf;obtain⟨a,e1,hf⟩:=c5 hf;obtain⟨b,e2,hf⟩:=c5 hf;split at hf
 .next c=>
  cases hf;obtain⟨p,xs,rfl,q1,r1⟩:=h1.tup e1;obtain⟨p2,ys,rfl,q2,r2⟩:=h2.tup e2;have l1:=r1.len;have l2:=r2.len;refine⟨p,p2,xs,ys,rfl,rfl,q1,q2,λz=>c.1 (by rw[z]at l1;simpa using l1.symm),by rw[l1,l2];exact c.2,λz=>?_,λ_ p3 hp=>?_⟩
  .have:b=[]:=by rw[z]at l2;simpa using l2.symm
   subst this;exact hQ ρ H _ .refl hR (by rw[append_nil];exact Bn q1 r1)
  .obtain⟨R2,x2⟩:=hR.hid (ho:=.tup (xs++ys)) hp;exact hQ ρ _ _ x2 R2 (Bn (SqT.of AM) ((r1.app r2).ext hR x2))
 .cases hf
abbrev Aq:=G9 Jd G6
def Av(neg:Bool)(m:ME):ME:=λls hd=>(m ls hd).bind λp=>some (.im (.bl (match p.1 with
 |.im .non=>!neg
 | _=>neg)),p.2)
def Y8{K:PySem.W.Frag}{ρ:List Addr}{H:Hp}{d:D}{v:V}(h:RD K ρ H d v):decide (v=.non)=(match d with|.im .non=>true|_=>false):=by
 cases d with
 |im i=>
  cases i with
  |non=>simp only[RD,RI]at h;subst h;rfl
  |tup is=>simp only[RD,RI]at h;obtain⟨a,xs,rfl,_⟩:=h;rfl
  |_=>simp only[RD,RI]at h;subst h;rfl
 |mu n=>simp only[RD]at h;obtain⟨a,_,rfl⟩:=h;rfl
 |tm ds=>simp only[RD]at h;obtain⟨a,xs,rfl,_⟩:=h;rfl
 |ro ns=>simp only[RD]at h;obtain⟨a,rfl,_⟩:=h;rfl
 |op nm fs ds=>simp only[RD]at h;obtain⟨a,xs,rfl,_⟩:=h;rfl
 |fv k ds=>simp only[RD]at h;obtain⟨a,xs,rfl,_⟩:=h;rfl
def PX{K:PySem.W.Frag}{t:TE}{m:ME}(h:RE K t m):RE K (Nw t) (Av false m):=by
 and_intros;obtain⟨⟨d1,h1⟩,e1,hm⟩:=c5 hm;cases hm;refine h ρ σ H hd ls _ d1 _ hR hL e1 λρ1 H1 v x1 R1 r1=>?_;rw[Y8 r1];refine hQ ρ1 H1 _ x1 R1 ?_;simp only[RD,RI];cases d1 with
 |im i=>cases i<;>rfl
 |_=>rfl
def NH{K:PySem.W.Frag}{t:TE}{m:ME}(h:RE K t m):RE K (Kh t) (Av true m):=by
 and_intros;obtain⟨⟨d1,h1⟩,e1,hm⟩:=c5 hm;cases hm;refine h ρ σ H hd ls _ d1 _ hR hL e1 λρ1 H1 v x1 R1 r1=>?_;rw[Y8 r1];refine hQ ρ1 H1 _ x1 R1 ?_;simp only[RD,RI];cases d1 with
 |im i=>cases i<;>rfl
 |_=>rfl
def DZ(m:ME):ME:=λls hd=>(m ls hd).bind λp=>match p.1 with
 |.im (.int i)=>some (.im (.int (-i)),p.2)
 |_=>none
def Wj{K:PySem.W.Frag}{t:TE}{m:ME}(h:RE K t m):RE K (tUn (rU λi=>.int (-i)) t) (DZ m):=by
 and_intros;obtain⟨⟨d1,h1⟩,e1,hm⟩:=c5 hm;dsimp only at hm;split at hm
 .cases hm;exact h ρ σ H hd ls _ _ _ hR hL e1 λρ1 H1 v x1 R1 r1=>⟨_,by simpa only[RD,RI]using r1,hQ ρ1 H1 _ x1 R1 (by simp[RD,RI])⟩
 .cases hm
def BE:MT:=λ_ hd=>some (true,hd)
def WN{K:PySem.W.Frag}:RT K Qu BE:=by
 and_intros;cases hm;exact hQ ρ H .refl hR
section
variable(K:PySem.W.Frag){X:Cx}{a b c e:Expr}{es:List Expr}{ta tb tc te:TE}{ma mb mc me:ME}{tA tB':TT}{nA nB:MT}{t:TA}{m:MA}{pos:Pos}{x:Str}
def qv(i:Nat){x:Str}{pos:Pos}(hN:X.N[i]?=some x:=by rfl)(hv:Vis X.env.scope x:=by first|exact Or.inl rfl|exact Or.inr (Or.inl rfl)|exact Or.inr (Or.inr rfl))(hd:(x==("__debug__":Str))=false:=by decide)
 (hcd:(x==("__classdict__":Str))=false:=by decide):QE K X (.Name x pos) (Nq i) (A0 i):=⟨Po hN hv hd hcd,Wg⟩
def XV{i:Int}{j pos}:QE K X (.Constant (.int i) j pos) (tC (.int i)) (mC (.int i)):=⟨Xr,OF λ_=>by simp[RI]⟩
def ZF{i:Bool}{j pos}:QE K X (.Constant (.bool i) j pos) (tC (.bl i)) (mC (.bl i)):=⟨ZM,OF λ_=>by simp[RI]⟩
def XQ{j pos}:QE K X (.Constant .none j pos) (tC .non) (mC .non):=⟨Xo,OF λ_=>by simp[RI]⟩
def XJ{x:Str}{j pos}:QE K X (.Constant (.str x) j pos) (tC (.str x)) (mC (.str x)):=⟨Xl,OF λ_=>by simp[RI]⟩
def Fp{op:Operator}{r:R2}{f:D->D->Hd->Option (D×Hd)}(ho:OpR X (binaryOp op) r)(hr:RB K r f)(ha:QE K X a ta ma)(hb:QE K X b tb mb):QE K X (.BinOp a op b pos) (tOp r ta tb) (mOp f ma mb):=⟨ON ho ha.p hb.p,Ki hr ha.r hb.r⟩
def XS(ha:QE K X a ta ma):QE K X (.UnaryOp .USub a pos) (tUn (rU λi=>.int (-i)) ta) (DZ ma):=⟨ZJ W5 ha.p,Wj ha.r⟩
def LY{op:CmpOp}{r:R2}{f:D->D->Hd->Option (D×Hd)}(ho:OpR X (compareOp op) r)(hr:RB K r f)(ha:QE K X a ta ma)(hb:QE K X b tb mb)(hm:behindInMarks op b=false:=by first|exact Lf _|rfl):QE K X (.Compare a [op] [b] pos) (tOp r ta tb) (mOp f ma mb):=⟨VG ho ha.p hb.p hm,Ki hr ha.r hb.r⟩
def FT{op:CmpOp}{r:R2}{f:D->D->Hd->Option (D×Hd)}(ho:OpR X (compareOp op) r)(hr:RB K r f)(ha:QE K X a ta ma)(hb:QE K X b tb mb)(hm:behindInMarks op b=false:=by first|exact Lf _|rfl):QT K X (.Compare a [op] [b] pos) (Kg (tOp r ta tb)) (AF (mOp f ma mb)):=⟨NO ho ha.p hb.p hm,EQ (Ki hr ha.r hb.r)⟩
def XU{j pos'}(ha:QE K X a ta ma):QE K X (.Compare a [.Is] [.Constant .none j pos'] pos) (Nw ta) (Av false ma):=⟨Pp (Pr ha.p),PX ha.r⟩
def Uo{j pos'}(ha:QE K X a ta ma):QE K X (.Compare a [.IsNot] [.Constant .none j pos'] pos) (Kh ta) (Av true ma):=⟨Pp (NP ha.p),NH ha.r⟩
def X0{j pos'}(ha:QE K X a ta ma):QT K X (.Compare a [.Is] [.Constant .none j pos'] pos) (tB (Nw ta)) (AF (Av false ma)):=⟨Ph (Pr ha.p),WR (PX ha.r)⟩
def US{j pos'}(ha:QE K X a ta ma):QT K X (.Compare a [.IsNot] [.Constant .none j pos'] pos) (tB (Kh ta)) (AF (Av true ma)):=⟨Ph (NP ha.p),WR (NH ha.r)⟩
def Rq(ha:QE K X a ta ma)(he:∀whole,isTrue a X.env whole=(do let v <- whole;standAt a.pos;holding [v] (truthy v)):=by intro _;rfl)(hK:X.K=K:=by rfl):
 QT K X a (λσ H Q=>ta σ H λx H'=>∃k,Mc K x H' k/\Q k H') (B2 ma):=by
 subst hK;exact⟨SA ha.p he,RY ha.r⟩
def Wz(ha:QT K X a tA nA):QT K X (.UnaryOp .Not a pos) (Qz tA) (Bw nA):=⟨Xa ha.p,WO ha.r⟩
def UR(ha:QT K X a tA nA):QW K X (.BoolOp .And [a] pos) tA nA:=⟨Us ha.p,ha.r⟩
def Ww(ha:QT K X a tA nA):QW K X (.BoolOp .Or [a] pos) tA nA:=⟨XY ha.p,ha.r⟩
def Wy{rest:List Expr}(ha:QT K X a tA nA)(hb:QW K X (.BoolOp .And (b::rest) pos) tB' nB):QW K X (.BoolOp .And (a::b::rest) pos) (RO tA tB') (Co nA nB):=⟨XZ ha.p hb.p,WQ ha.r hb.r⟩
def Z8{rest:List Expr}(ha:QT K X a tA nA)(hb:QW K X (.BoolOp .Or (b::rest) pos) tB' nB):QW K X (.BoolOp .Or (a::b::rest) pos) (tOr tA tB') (mOr nA nB):=⟨ZG ha.p hb.p,Yy ha.r hb.r⟩
def QW.toT{K:PySem.W.Frag}{X:Cx}{e:Expr}{t:TT}{m:MT}(h:QW K X e t m):QT K X e t m:=⟨h.p.pt,h.r⟩
def XM{op}(ha:QE K X a ta ma):QE K X (.BoolOp op [a] pos) ta ma:=⟨Xm ha.p,ha.r⟩
def XW{rest:List Expr}(ha:QE K X a ta ma)(hb:QE K X (.BoolOp .And (b::rest) pos) tb mb):QE K X (.BoolOp .And (a::b::rest) pos) (O1 ta tb) (D0 ma mb):=⟨Xu ha.p hb.p,UM ha.r hb.r⟩
def ZA{rest:List Expr}(ha:QE K X a ta ma)(hb:QE K X (.BoolOp .Or (b::rest) pos) tb mb):QE K X (.BoolOp .Or (a::b::rest) pos) (Qy ta tb) (IJ ma mb):=⟨ZK ha.p hb.p,Wi ha.r hb.r⟩
def XN(ha:QE K X a ta ma):QE K X (.UnaryOp .Not a pos) (Nt ta) (F6 ma):=⟨Xn ha.p,UG ha.r⟩
def S5(hc:QT K X c tA nA)(ha:QE K X a ta ma)(hb:QE K X b tb mb):QE K X (.IfExp c a b pos) (tIf tA ta tb) (mIf nA ma mb):=⟨SL hc.p ha.p hb.p,Z3 hc.r ha.r hb.r⟩
def XX:QA K X [] Bv A5:=⟨CI,Ws⟩
def Ur(ha:QE K X e te me)(hr:QA K X es t m)(hs:starEach (e::es) X.env=(false,eval e X.env)::starEach es X.env:=by rfl):QA K X (e::es) (B7 te t) (A2 me m):=⟨Bi ha.p hr.p hs,UP ha.r hr.r⟩
def XI{x1}(h:QA K X es t m):QE K X (.Tuple es x1 pos) (Qv t) (Ad m):=⟨Xk h.p,Wh h.r⟩
def X8(h:QA K X es t m):QN K X (.List es pos) (R8 t) (CZ m):=⟨Xp h.p,WZ h.r⟩
def XR(h:QN K X e te m):QE K X e te (B3 m):=⟨h.p,PV h.r⟩
def ZC(ha:QE K X a ta ma)(hb:QE K X b tb mb)(hs:Jm b:=by exact λ_ _=>rfl)(hK:X.K=K:=by rfl):QE K X (.Subscript a b pos) (tOp (Kj K) ta tb) (mOp gIx ma mb):=⟨TX ((M3 K hK).or (NZ K hK)) ha.p hb.p hs,Ki Z5 ha.r hb.r⟩
def Uq(hu:X.A.units+1<cLine)(ha:QE K X a ta ma)(hb:QE K X b tb mb)(hs:T2 b:=by exact λ_ _=>rfl):QE K X (.Subscript a b pos) (Nz ta tb) (mOp CD ma mb):=⟨VE hu ha.p hb.p hs,UL ha.r hb.r⟩
def Uf:QO K X none JK HN:=⟨V2,U6⟩
def Ue(h:QE K X e te me):QO K X (some e) (Nr te) (Kk me):=⟨V1 h.p,U5 h.r⟩
def X7{lo hi:Option Expr}{tl th:TO}{ml mh:MO1}{p2:Pos}(h:QE K X e te me)(hl:QO K X lo tl ml)(hh:QO K X hi th mh)(hK:X.K=K:=by rfl):QN K X (.Subscript e (.Slice lo hi none p2) pos) (tSl (OH K) te tl th) (Lx me ml mh):=⟨SK (RU K hK) h.p hl.p hh.p,WY h.r hl.r hh.r⟩
def EG{id:String}{p:Pos}{r:List V->Hp->VK->Prop}{f:List D->Hd->Option (D×Hd)}(hc:CallR X (.builtin id) r)(hr:RF K r f)(hm:X.mg x=none)(hv:bootBuiltins x=some (.builtin id))(ha:QA K X (e::es) t m)(hg:Gl X x:=by rfl)(hn:x≠"__name__":=by decide)(hdb:(x==("__debug__":Str))=false:=by decide)
 (he:starEach (e::es) X.env=(false,eval e X.env)::starEach es X.env:=by rfl) (hpl:(backTo pos (starEach es X.env)).any (·.1)=false:=by rfl):QE K X (.Call (.Name x p) (e::es) [] pos) (tCB r t) (mCB f m):=⟨Fq hc hg hm hv ha.p hn hdb he hpl,TF hr ha.r⟩
def ZE{id:String}{p:Pos}{r:List V->Hp->VK->Prop}{f:List D->Hd->Option (D×Hd)}(hc:CallR X (.type id) r)(hr:RF K r f)(hm:X.mg x=none)(hv:bootBuiltins x=some (.type id))(ha:QA K X (e::es) t m)(hg:Gl X x:=by rfl)(hn:x≠"__name__":=by decide)(hdb:(x==("__debug__":Str))=false:=by decide)
 (he:starEach (e::es) X.env=(false,eval e X.env)::starEach es X.env:=by rfl) (hpl:(backTo pos (starEach es X.env)).any (·.1)=false:=by rfl):QE K X (.Call (.Name x p) (e::es) [] pos) (tCB r t) (mCB f m):=⟨F2 hc hg hm hv ha.p hn hdb he hpl,TF hr ha.r⟩
def Ip{id:String}{p:Pos}{r:List V->Hp->VK->Prop}{tp:Bool}{g:List D->Option D}(hc:CallR X (.builtin id) r)(hr:RG K tp r g)(hm:X.mg x=none)(hv:bootBuiltins x=some (.builtin id))(ha:QN K X e te m)(hg:Gl X x:=by rfl)(hn:x≠"__name__":=by decide)(hdb:(x==("__debug__":Str))=false:=by decide)
 (he:starEach [e] X.env=[(false,eval e X.env)]:=by rfl):QE K X (.Call (.Name x p) [e] [] pos) (tCB r (B7 te Bv)) (BB g m):=⟨Fq hc hg hm hv (Bi ha.p CI he) hn hdb he rfl,PY hr ha.r⟩
def ZD{id:String}{p:Pos}{r:List V->Hp->VK->Prop}{tp:Bool}{g:List D->Option D}(hc:CallR X (.type id) r)(hr:RG K tp r g)(hm:X.mg x=none)(hv:bootBuiltins x=some (.type id))(ha:QN K X e te m)(hg:Gl X x:=by rfl)(hn:x≠"__name__":=by decide)(hdb:(x==("__debug__":Str))=false:=by decide)
 (he:starEach [e] X.env=[(false,eval e X.env)]:=by rfl):QE K X (.Call (.Name x p) [e] [] pos) (tCB r (B7 te Bv)) (BB g m):=⟨F2 hc hg hm hv (Bi ha.p CI he) hn hdb he rfl,PY hr ha.r⟩
def Ry{p:Pos}(hm:X.mg "list"=none)(ha:QN K X e te m)(hg:Gl X "list":=by rfl)(he:starEach [e] X.env=[(false,eval e X.env)]:=by rfl)(hK:X.K=K:=by rfl):QN K X (.Call (.Name "list" p) [e] [] pos) (tCB (JV K) (B7 te Bv)) (Go m):=⟨F2 (Ot K hK) hg hm Vt (Bi ha.p CI he) (by decide) (by decide) he rfl,Rc ha.r⟩
def ZB{id:String}{r:V->List V->Hp->VK->Prop}{f:D->List D->Hd->Option (D×Hd)}{name:Str}{apos cpos:Pos}{o:Expr}{to:TE}{mo:ME}(slot:Slot "list" name id)(hty:typeOf (.builtin id)=pure (.type "method_descriptor"))(hm:MtM X id r)(hr:RM K r f)(ho:QE K X o to mo)(ha:QA K X (e::es) t m)
 (hbase:attributeBase o name X.env (eval o X.env)=eval o X.env:=by rfl)
 (hfew:((backTo cpos (starEach (e::es) X.env)).all (λx=>!x.1)&&(backToKw cpos (keywordEach [] X.env)).all (λx=>x.1.isSome)
  && decide ((e::es).length+([]:List Keyword).length+(if([]:List Keyword).isEmpty then 0 else 1)<30))=true:=by rfl)
 (hline:(apos.endLine==cpos.line)=true:=by rfl) (hs:starEach (e::es) X.env=(false,eval e X.env)::starEach es X.env:=by rfl) (hplain:(backTo cpos (starEach es X.env)).any (·.1)=false:=by rfl) (hK:X.K=K:=by rfl):
 QE K X (.Call (.Attribute o name apos) (e::es) [] cpos) (tBM K "list" r to t) (mMt f mo m):=by
 subst hK;exact⟨ZL PySem.F.plainAttrs_list slot hty hm ho.p ha.p hbase hfew hline hs hplain,Z2 hr ho.r ha.r⟩
def S6(w:Nat){j k:Nat}{f:Addr}{fd:FuncData}{ps:List Str}{n:Nat}{F:List D->Hd->Option (D×Hd)}{st:Stmt}{p:Pos}(G:FnOk X.prog X.w X.K X.mg X.base CX0 j f fd ps (spF K n F))(hr:Room k X.A)(DA:DefAt X.K X.mg x st f fd ps)(ha:QA K X (e::es) t m)(hF:∀ds hd z,F ds hd=some z->ds.length=n)
 (hjk:j<=k:=by decide) (hg:Gl X x:=by rfl) (hdb:(x==("__debug__":Str))=false:=by decide) (he:starEach (e::es) X.env=(false,eval e X.env)::starEach es X.env:=by rfl) (hpl:(backTo pos (starEach es X.env)).any (·.1)=false:=by rfl):
 QE K X (.Call (.Name x p) (e::es) [] pos) (Ey (spF K n F) [] E0 t) (AA w F m):=⟨TY G hr DA ha.p hjk hg hdb he hpl,Rh ha.r hF⟩
def S9{j k:Nat}{f:Addr}{fd:FuncData}{ps:List Str}{n:Nat}{F:List D->Hd->Option (D×Hd)}{st:Stmt}{p:Pos}(G:FnOk X.prog X.w X.K X.mg X.base CX0 j f fd ps (spF K n F))(hr:Room k X.A)(DA:DefAt X.K X.mg x st f fd ps)(ha:QA K X (e::es) t m)(hF:∀ds hd z,F ds hd=some z->ds.length=n)
 (hjk:j<=k:=by decide) (hg:Gl X x:=by rfl) (hdb:(x==("__debug__":Str))=false:=by decide) (he:starEach (e::es) X.env=(false,eval e X.env)::starEach es X.env:=by rfl) (hpl:(backTo pos (starEach es X.env)).any (·.1)=false:=by rfl):
 QE K X (.Call (.Name x p) (e::es) [] pos) (Ey (spF K n F) [] E0 t) (CJ F m):=⟨TY G hr DA ha.p hjk hg hdb he hpl,Rj ha.r hF⟩
def Ud{pos:Pos}:QPs K X pos [] [] [] []:=⟨V0,trivial⟩
def Rv{pos:Pos}{k v:Expr}{ks:List (Option Expr)}{vs:List Expr}{tk tv:TE}{mk mv:ME}{trs:List (TE×TE)}{ms:List (ME×ME)}(hk:QE K X k tk mk)(hv:QE K X v tv mv)(hr:QPs K X pos ks vs trs ms):QPs K X pos (some k::ks) (v::vs) ((tk,tv)::trs) ((mk,mv)::ms):=⟨SE hk.p hv.p hr.p,hk.r,hv.r,hr.r⟩
def Up{pos:Pos}{keys:List (Option Expr)}{values:List Expr}{trs:List (TE×TE)}{ms:List (ME×ME)}(h:QPs K X pos keys values trs ms)(hall:keys.all (·.isSome)=true:=by rfl)(hl:keys.length=values.length:=by rfl)(h0:keys≠[]:=by simp)
 (h15:keys.length<=15:=by decide):QE K X (.Dict keys values pos) (Ny trs) (Kl ms):=⟨VD h.p hall hl h0 h15,UK h.r⟩
def Ul{i:Nat}(hN:X.N.Nodup)(hi:X.N[i]?=some x)(hx:Loc X.env.scope x)(hf:X.fn x=true∨X.env.scope.names.lookup x=some .local:=by first|exact .inl rfl|exact .inr rfl|assumption):QG K X (.Name x pos) (Dp i) (AB i):=⟨VA hN hi hx hf,JU⟩
def Uk:QGs K X [] Sl BA:=⟨V8,UA⟩
def S4{tg:TG}{tgs:TGs}{n:MG}{ns:MGs}(h1:QG K X e tg n)(h2:QGs K X es tgs ns)(hs:(assignEach (e::es) X.env).map (·.2)=assign e X.env::(assignEach es X.env).map (·.2):=by rfl):QGs K X (e::es) (Ol tg tgs) (AJ n ns):=⟨SI h1.p h2.p hs,Rg h1.r h2.r⟩
def XF{k n:Nat}{tgs:TGs}{ns:MGs}(hc:X.calm=true)(h:QGs K X es tgs ns)(hK:X.K=K:=by rfl)(hn:(assignEach es X.env).length=n:=by rfl)(hst:(assignEach es X.env).findIdx? (·.1)=none:=by rfl):QG K X (.Tuple es k pos) (Oj K n tgs) (B9 n ns):=⟨V9 K hc h.p hK hn hst,We h.r⟩
def XD{tg:Expr}(h:QE K X e te me)(hK:X.K=K:=by rfl):QI K X tg e (Of K te) (Ap me):=⟨V5 K h.p hK,Wc h.r⟩
def Ui{tg:Expr}(h:QE K X e te me)(hK:X.K=K:=by rfl):QI K X tg e (HU K te) (CS me):=⟨LZ K h.p hK,U8 h.r⟩
def XE{tg:Expr}(h:QN K X e te m)(hK:X.K=K:=by rfl):QI K X tg e (HU K te) (EA m):=⟨LZ K h.p hK,Wd h.r⟩
def Uh{tg:Expr}{p:Pos}(hm:X.mg "range"=none)(ha:QA K X [a] t m)(hg:Gl X "range":=by rfl)(hs:starEach [a] X.env=[(false,eval a X.env)]:=by rfl):QI K X tg (.Call (.Name "range" p) [a] [] pos) (Og t) (DG m):=⟨Pm hg hm ha.p hs,U7 ha.r⟩
def XH:QF K X [] Qu BE:=⟨Xj,WN⟩
def XG(h:QT K X c tA nA):QF K X [c] tA nA:=⟨Xi h.p,h.r⟩
def Ug{elt tg iter:Expr}{ifs:List Expr}{scope:Scope}{loc fr:List Str}{ix:List Nat}{wi:TI}{g:TG}{tf:TT}{te:TE}{mi:MI}{n:MG}{mf:MT}{mm:ME}(hc:X.calm=true)(S:CSc X scope fr ix)(hi:QI K X tg iter wi mi)
 (hg:∀s H ex,QG K (cCx X (loc++fr) scope s H ex) tg g n) (hf:∀s H ex,QF K (cCx X (loc++fr) scope s H ex) ifs tf mf) (he:∀s H ex,QE K (cCx X (loc++fr) scope s H ex) elt te mm)
 (hs:∀x,foldedSetIterable iter X.env x=pure x:=by intro _;rfl):QN K X (.ListComp elt [⟨tg,iter,ifs,0⟩] scope pos) (Fh loc.length ix wi g tf te) (Ac loc.length ix mi n mf mm):=
 ⟨VF hc S hi.p (λs H ex=>(hg s H ex).p) (λs H ex=>(hf s H ex).p) (λs H ex=>(he s H ex).p) hs,NG hi.r (hg X.s₀ X.H₀ []).r (hf X.s₀ X.H₀ []).r (he X.s₀ X.H₀ []).r⟩
def UV:QSs K X [] Ia AY:=⟨Uu,ND⟩
def Rr{st:Stmt}{rest:List Stmt}{u v:TS}{m1 m2:MS}(h1:QS K X st u m1)(h2:QSs K X rest v m2):QSs K X (st::rest) (Qw u v) (AD m1 m2):=⟨SB h1.p h2.p,WU h1.r h2.r⟩
def UU{st:Stmt}{u:TS}{m1:MS}(h1:QS K X st u m1):QSs K X [st] u m1:=⟨Ut h1.p,h1.r⟩
def UX:QS K X (.Pass pos) Ia AY:=⟨Uw,ND⟩
def Ua(he:QE K X e te me)(hs:swapsWith e none pos.line X.env=pure false:=by rfl):QS K X (.Expr e pos) (Nx te) (BU me):=⟨Ux he.p hs,U3 he.r⟩
def X3(he:QE K X e te me):QS K X (.Return (some e) pos) (Qx te) (AR me):=⟨Xc he.p,WV he.r⟩
def Z9{a b:List Stmt}{u v:TS}{m1 m2:MS}(hc:QT K X c tA nA)(ha:QSs K X a u m1)(hb:QSs K X b v m2):QS K X (.If c a b pos) (RJ tA u v) (Aj nA m1 m2):=⟨ZI hc.p ha.p hb.p,Z0 hc.r ha.r hb.r⟩
def Ru{st:Stmt}:QS K X st Ky Bc:=⟨SD,Ra⟩
def X5{tg:Expr}{g:TG}{n:MG}(he:QE K X e te me)(hg:QG K X tg g n)(hs:swapsWithSole [tg] e pos.line X.env=pure false:=by rfl)(hw:swappedStores [tg] e X.env=pure none:=by rfl)
 (h1:(assignEach [tg] X.env).map (·.2)=[assign tg X.env]:=by rfl):QS K X (.Assign [tg] e pos) (Ed te g) (Gp me n):=⟨Pi he.p hg.p hs hw h1,LQ he.r hg.r⟩
def X2{i:Nat}{pos':Pos}(hN:X.N.Nodup)(hi:X.N[i]?=some x)(hx:Loc X.env.scope x)(he:QE K X e te me)(hs:swapsWith e (some (.Name x pos')) pos.line X.env=pure false:=by rfl)(hf:X.fn x=true∨X.env.scope.names.lookup x=some .local:=by first|exact .inl rfl|exact .inr rfl|assumption):
 QS K X (.Assign [.Name x pos'] e pos) (Ed te (Dp i)) (AQ i me):=⟨Xb hN hi hx he.p hs hf,LQ he.r JU⟩
def UW{i:Nat}{y:Str}{elt tg iter:Expr}{ifs:List Expr}{scope:Scope}{spos py:Pos}{loc fr:List Str}{ix:List Nat}{wi:TI}{g:TG}{tf:TT}{te:TE}{mi:MI}{n:MG}{mf:MT}{mm:ME}(hN:X.N.Nodup)(hiN:X.N[i]?=some y)(hy:X.env.scope.names.lookup y=some .local)
 (hc:X.calm=true) (S:CSc X scope fr ix) (hi:QI K X tg iter wi mi)
 (hg:∀s H ex,QG K (cCx X (loc++fr) scope s H ex) tg g n) (hf:∀s H ex,QF K (cCx X (loc++fr) scope s H ex) ifs tf mf) (he:∀s H ex,QE K (cCx X (loc++fr) scope s H ex) elt te mm)
 (hsw:swapsWith (.ListComp elt [⟨tg,iter,ifs,0⟩] scope pos) (some (.Name y py)) spos.line X.env=pure true:=by rfl) (hs:∀x,foldedSetIterable iter X.env x=pure x:=by intro _;rfl):
 QS K X (.Assign [.Name y py] (.ListComp elt [⟨tg,iter,ifs,0⟩] scope pos) spos) (Ed (Fh loc.length ix wi g tf te) (Dp i)) (AQ i (B3 (Ac loc.length ix mi n mf mm))):=
 ⟨Uv hN hiN hy hc S hi.p (λs H ex=>(hg s H ex).p) (λs H ex=>(hf s H ex).p) (λs H ex=>(he s H ex).p) hsw hs,LQ (PV (NG hi.r (hg X.s₀ X.H₀ []).r (hf X.s₀ X.H₀ []).r (he X.s₀ X.H₀ []).r)) JU⟩
def Ub{o i value:Expr}{pos':Pos}{td ty tv:TE}{md my mv:ME}(hu:X.A.units+1<cLine)(ho:QE K X o td md)(hi:QE K X i ty my)(hv:QE K X value tv mv)(hs:swapsWith value (some (.Subscript o i pos')) pos.line X.env=pure false:=by rfl):
 QS K X (.Assign [.Subscript o i pos'] value pos) (OC td ty tv) (F7 md my mv):=⟨Uy hu ho.p hi.p hv.p hs,U4 ho.r hi.r hv.r⟩
def UY{o i value:Expr}{pos':Pos}{to ti tv:TE}{mo mi mv:ME}(ho:QE K X o to mo)(hi:QE K X i ti mi)(hv:QE K X value tv mv)(hs:swapsWithSole [.Subscript o i pos'] value pos.line X.env=pure false:=by rfl)(hw:swappedStores [.Subscript o i pos'] value X.env=pure none:=by rfl)
 (h1:(assignEach [.Subscript o i pos'] X.env).map (·.2)=[assign (.Subscript o i pos') X.env]:=by rfl)
 (ha:∀v,assign (.Subscript o i pos') X.env v=(do
  let ov <- holding [v] (eval o X.env)
  let iv <- holding [v,ov] (eval i X.env)
  standAt pos'
  holding [v,ov,iv] (setItem ov iv v)
  release [v,ov,iv] []):=by intro _;rfl):QS K X (.Assign [.Subscript o i pos'] value pos) (Ed tv (Sj to ti Im)) (Dk mo mi mv):=⟨Pi hv.p (Xh ho.p hi.p LD ha) hs hw h1,U1 ho.r hi.r hv.r⟩
def X4{tg iter:Expr}{body:List Stmt}{wi:TI}{g:TG}{tb:TS}{mi:MI}{n:MG}{mb:MS}(hc:X.calm=true)(hi:QI K X tg iter wi mi)(hg:QG K X tg g n)(hb:QSs K X body tb mb)(hp:PassesOwn (model X.prog X.w) X.A X.env X.xe:=by exact PassesOwn.never)
 (hs:∀x,foldedSetIterable iter X.env x=pure x:=by intro _;rfl):QS K X (.For tg iter body [] pos) (RK wi g tb) (Bp mi n mb):=⟨Xd hp hc hi.p hg.p hb.p hs,WW hi.r hg.r hb.r⟩
def Rt{body:List Stmt}{tb:TS}{mb:MS}(hc:QT K X c tA nA)(hb:QSs K X body tb mb)(hp:PassesOwn (model X.prog X.w) X.A X.env X.xe:=by exact PassesOwn.never):QS K X (.While c body [] pos) (Kx tA tb) (Ei nA mb):=⟨SC hp hc.p hb.p,RZ hc.r hb.r⟩
end
def VN{P:Program}{w:World}{K:PySem.W.Frag}{mg:Str->Option Value}{base:Heap}{x:Str}{st:Stmt}{f:Addr}{fd:FuncData}{N ps:List Str}{j:Nat}{m:MS}(DA:DefAt K mg x st f fd ps)(S:FnScope N ps (A9 st))
 (h:∀(cdv:Value) (A:Around) (outer:List Env) (s:Shared) (H:Hp) (E:XK),Room j (A.deeper (envOfC x (A9 st) s.heap.objs.size f cdv))->∃t,QSs K (FN CX0 P w K mg base N x (A9 st) f cdv A outer s H E).nox (BM st) t m):
 FnOk P w K mg base CX0 (j+1) f fd ps (spF K ps.length (mkF ps.length N.length m)):=by
 refine DA.fn.ok S (λvs H Q E h=>h.1) (λcdv A outer s H vs Q E hr hs=>?_);obtain⟨t,q⟩:=h cdv A outer s H E hr;exact⟨t,q.p,N9 q.r hs⟩
section
variable{X:Cx}{pins:List (Addr×Obj)}{σ:List (Option V)}{H H':Hp}{s:Shared}{h':Heap}
def Inv.turns{tk:Nat}{fp:List Addr}(I:Inv X pins σ H s)(k:∀b o,b∉fp->s.heap.get? b=some o->h'.get? b=some o)(hf:∀b∈fp,FpOk X pins H b):Inv X pins σ H { s with heap:=h',toks:=tk }:=by
 have out:∀b u,H b=some u->b∉fp:=λb u e z=>by rw[(hf b z).1]at e;cases e
 have hL:X.env.locals∉fp:=λz=>(hf _ z).2.1 rfl;refine I.step (g':=s.gens) (d':=s.drawn) (ch:=fp) (λb hb=>⟨(hf b hb).2.2.2.1,(hf b hb).2.1,(hf b hb).2.2.2.2.1,(hf b hb).2.2.2.2.2⟩) (λb o _ _ hc e _=>k b o hc e) (λb o _ _ hc e _=>⟨o.slots,k b o hc e⟩) (λ_ _ _ _ n=>n)
  (λb o hc e=>⟨o,k b o hc e⟩) (λ_ _ e=>e) (λ_ _ _ e=>e) (λb ps e=>⟨#[],by rw[e];simp⟩) (λm hm=>?_) (λb u e=>?_) I.bare
 .obtain⟨o,es,ep,ho,r⟩:=hm;exact⟨o,es,ep,k _ o hL ho,r⟩
 .refine(I.hok b u e).stay (λc v hc q=>k c v ?_ q) (λ_ q=>q) λ_ _ q=>q;rcases hc with z|z
  .rw[z];exact out b u e
  .exact out c _ z
end
def Inv.turnsL{X:Cx}{pins:List (Addr×Obj)}{σ:List (Option V)}{H:Hp}{s:Shared}{h':Heap}{tk:Nat}{fp:List Addr}{a:Addr}{o:HO}(I:Inv X pins σ H s)(k:∀b o,b∉fp->s.heap.get? b=some o->h'.get? b=some o)(hf:∀b∈fp,FpOk X pins H b)(ha:s.heap.objs.size<=a)(new:ObjOk X.prog X.w (upd H a o) h' a o):
 Inv X pins σ (upd H a o) { s with heap:=h',toks:=tk }:=by
 have out:∀b u,H b=some u->b∉fp:=λb u e z=>by rw[(hf b z).1]at e;cases e
 have hL:X.env.locals∉fp:=λz=>(hf _ z).2.1 rfl;have fr:H a=none:=I.hok.fresh ha;refine I.step (g':=s.gens) (d':=s.drawn) (ch:=fp) (λb hb=>⟨(hf b hb).2.2.2.1,(hf b hb).2.1,(hf b hb).2.2.2.2.1,(hf b hb).2.2.2.2.2⟩) (λb o _ _ hc e _=>k b o hc e) (λb o _ _ hc e _=>⟨o.slots,k b o hc e⟩)
  (λb o _ e n=>by rw[AC (ne_of_lt (lt_of_lt_of_le (Heap.lt_size e) ha))];exact n) (λb o hc e=>⟨o,k b o hc e⟩) (λb xs e=>by rw[AC (AS e fr)];exact e) (λb o u e=>by rw[AC (AS e fr)];exact e)
  (λb ps e=>⟨#[],by rw[AC (AS e fr),e];simp⟩) (λm hm=>?_) (λb u e=>?_) I.bare
 .obtain⟨o,es,ep,ho,r⟩:=hm;exact⟨o,es,ep,k _ o hL ho,r⟩
 .by_cases hb:b=a
  .subst hb;rw[AM]at e;cases e;exact new
  .rw[AC hb]at e;refine(I.hok b u e).stay (λc v hc q=>k c v ?_ q) (λc q=>by rw[AC (AS q fr)];exact q) λc xs q=>by rw[AC (AS q fr)];exact q
   rcases hc with z|z
   .rw[z];exact out b u e
   .exact out c _ z
def RowI(tp:Bool)(h:Heap)(it l:Addr)(k:Nat):Prop:=match tp with
 |true=>h.IsTupleIter it l k
 |false=>h.IsListIter it l k
def RowL(tp:Bool)(h:Heap)(l:Addr)(xs:Array Value):Prop:=match tp with
 |true=>h.IsTuple l xs
 |false=>h.IsList l xs
theorem RowI.at{tp:Bool}{h h':Heap}{it l:Addr}{k:Nat}(x:RowI tp h it l k)(e:∀o,h.get? it=some o->h'.get? it=some o):RowI tp h' it l k:=by
 cases tp with
 |true=>exact Heap.IsTupleIter.at x e
 |false=>exact Heap.IsListIter.at x e
def RowL.at{tp:Bool}{h h':Heap}{l:Addr}{xs:Array Value}(x:RowL tp h l xs)(e:∀o,h.get? l=some o->h'.get? l=some o):RowL tp h' l xs:=by
 cases tp with
 |true=>obtain⟨o,e1,r⟩:=(show h.IsTuple l xs from x);exact⟨o,e _ e1,r⟩
 |false=>obtain⟨o,e1,r⟩:=(show h.IsList l xs from x);exact⟨o,e _ e1,r⟩
def RowI.obj{tp:Bool}{h:Heap}{it l:Addr}{k:Nat}(x:RowI tp h it l k):∃o,h.get? it=some o/\o.data=.fields #[.ref l,.int k 0]:=by
 cases tp with
 |true=>obtain⟨o,e,_,d⟩:=(show h.IsTupleIter it l k from x);exact⟨o,e,d⟩
 |false=>obtain⟨o,e,_,d⟩:=(show h.IsListIter it l k from x);exact⟨o,e,d⟩
def RowL.obj{tp:Bool}{h:Heap}{l:Addr}{xs:Array Value}(x:RowL tp h l xs):∃o n,h.get? l=some o/\o.data=.seq xs n:=by
 cases tp with
 |true=>obtain⟨o,e,_,n,d⟩:=(show h.IsTuple l xs from x);exact⟨o,n,e,d⟩
 |false=>obtain⟨o,e,_,n,d⟩:=(show h.IsList l xs from x);exact⟨o,n,e,d⟩
section
variable{prog:Program}{w:World}{A:Around}{E:Value->Shared->Prop}{s:Shared}{it l:Addr}{k:Nat}{xs:Array Value}{x:Value}
def tup_next(hit:s.heap.IsTupleIter it l k)(hl:s.heap.IsTuple l xs)(hx:xs[k]?=some x){Q:Value->Shared->Prop}(hQ:∀g,g.IsTupleIter it l (k+1)->Heap.SameBut it s.heap g->Q x { s with heap:=g }):
 wpAny (model prog w) A (Builtin.SmallTypes.nextOf (.ref it)) Q E s:=by
 obtain⟨o,eo,ec,ed⟩:=id hit;obtain⟨ol,el,_,nl,edl⟩:=hl;unfold Builtin.SmallTypes.nextOf;refine wpAny_bind (wpAny_callSpecial?_slot (name:=Str.ofString "__next__") hit.typeIs PyProof.Rows.slot_tupleiter_next (wpAny_call_entry PyProof.Rows.slot_tupleiter_next hit.typeIs PyProof.Rows.entry_tupleiter_next ?_ (PyProof.Rows.args_tupleiter_next _)));show wpAny _ _ (field (.ref it) 0 >>= _) _ _ s;refine wpAny_bind (wpAny_field eo ed (x:=.ref l) rfl ?_);show wpAny _ _ (if(Value.ref l==Value.none)=true then _ else _) _ _ s;rw[if_neg (show ¬ (Value.ref l==Value.none)=true from Bool.false_ne_true)];show wpAny _ _ (field (.ref it) 1 >>= _) _ _ s;refine wpAny_bind (wpAny_field eo ed (x:=.int k 0) rfl ?_);show wpAny _ _ (seqItems? (.ref l) >>= _) _ _ s;refine wpAny_bind (wpAny_seqItems el edl ?_);simp only[toNat_natCast,hx];refine wpAny_bind (wpAny_setField eo ed (by simp) (wpAny_pure ⟨x,rfl,wpAny_pure (hQ _ ⟨_,Heap.get?_update_self _ eo (Obj.isFreed_of_fields (Obj.data_mapFields ed _)),(Obj.cls_mapFields ..).trans ec,?_⟩ (Heap.SameBut.update ..))⟩));rw[Obj.data_mapFields ed];simp[rawInt]
def tup_stop(hh:A.handled=none)(hit:s.heap.IsTupleIter it l k)(hl:s.heap.IsTuple l xs)(hx:xs[k]?=none){Q:Value->Shared->Prop}(hE:∀g e,Heap.ExtBut it s.heap g->(∃o,g.get? e=some o/\o.cls=.type "StopIteration")->E (.ref e) { s with heap:=g }):
 wpAny (model prog w) A (Builtin.SmallTypes.nextOf (.ref it)) Q E s:=by
 obtain⟨o,eo,ec,ed⟩:=id hit;obtain⟨ol,el,_,nl,edl⟩:=hl;unfold Builtin.SmallTypes.nextOf;refine wpAny_bind (wpAny_callSpecial?_slot (name:=Str.ofString "__next__") hit.typeIs PyProof.Rows.slot_tupleiter_next (wpAny_call_entry PyProof.Rows.slot_tupleiter_next hit.typeIs PyProof.Rows.entry_tupleiter_next ?_ (PyProof.Rows.args_tupleiter_next _)));show wpAny _ _ (field (.ref it) 0 >>= _) _ _ s;refine wpAny_bind (wpAny_field eo ed (x:=.ref l) rfl ?_);show wpAny _ _ (if(Value.ref l==Value.none)=true then _ else _) _ _ s;rw[if_neg (show ¬ (Value.ref l==Value.none)=true from Bool.false_ne_true)];show wpAny _ _ (field (.ref it) 1 >>= _) _ _ s;refine wpAny_bind (wpAny_field eo ed (x:=.int k 0) rfl ?_);show wpAny _ _ (seqItems? (.ref l) >>= _) _ _ s;refine wpAny_bind (wpAny_seqItems el edl ?_);simp only[toNat_natCast,hx];refine wpAny_bind (wpAny_rule (wpAny_bind (wpAny_setField eo ed (by simp) ?_)));show wpAny _ _ (newExc (.type "StopIteration") [] >>= _) _ _ _;refine wpAny_bind ?_;simp only[newExc,newTuple];refine wpAny_bind (wpAny_newObj_type ?_ (by size_fits));refine wpAny_bind (m:=firstArgMember _ _) (wpAny_of_eq (a:=Value.none) (by first|rfl|(simp only[firstArgMember];rfl)) ?_);refine wpAny_newObj_type ?_ (by size_fits);simp only[raiseNew];refine wpAny_bind (wpAny_handled ?_)
 first|rw[show A.in1.handled=none from hh]|rw[hh]
 exact wpAny_bind (wpAny_pure (wpAny_throw (hE _ _ (((Heap.SameBut.update ..).extBut.push _).push _) ⟨_,Heap.get?_push_size _ rfl,rfl⟩)))
def IB{tp:Bool}(hit:RowI tp s.heap it l k)(hl:RowL tp s.heap l xs)(hx:xs[k]?=some x){Q:Value->Shared->Prop}(hQ:∀g,RowI tp g it l (k+1)->Heap.SameBut it s.heap g->Q x { s with heap:=g }):
 wpAny (model prog w) A (Builtin.SmallTypes.nextOf (.ref it)) Q E s:=by
 cases tp with
 |true=>exact tup_next hit hl hx hQ
 |false=>exact wpAny_nextOf_list_item hit hl hx hQ
def LR{tp:Bool}(hh:A.handled=none)(hit:RowI tp s.heap it l k)(hl:RowL tp s.heap l xs)(hx:xs[k]?=none){Q:Value->Shared->Prop}(hE:∀g e,Heap.ExtBut it s.heap g->(∃o,g.get? e=some o/\o.cls=.type "StopIteration")->E (.ref e) { s with heap:=g }):
 wpAny (model prog w) A (Builtin.SmallTypes.nextOf (.ref it)) Q E s:=by
 cases tp with
 |true=>exact tup_stop hh hit hl hx hE
 |false=>exact wpAny_nextOf_list_end hh hit hl hx hE
end
structure ZAt(t1 t2:Bool)(h:Heap)(z a b i1 i2 l1 l2:Addr)(f0:Value)(j k:Nat):Prop where
 z:IsZip h z a b f0
 p:IsPair h a (.ref i1) (.ref i2)
 o:∃u v,IsPair h b u v
 r1:RowI t1 h i1 l1 j
 r2:RowI t2 h i2 l2 k
structure ZNe(z a b i1 i2 l1 l2:Addr):Prop where
 az:a≠z
 bz:b≠z
 iz:i1≠z
 jz:i2≠z
 ab:a≠b
 ai:a≠i1
 aj:a≠i2
 bi:b≠i1
 bj:b≠i2
 ij:i1≠i2
 lz:l1≠z
 lb:l1≠b
 li:l1≠i1
 lj:l1≠i2
 mz:l2≠z
 mb:l2≠b
 mi:l2≠i1
 mj:l2≠i2
section
variable{prog:Program}{w:World}{A:Around}{E:Value->Shared->Prop}{s:Shared}{t1 t2:Bool}{z a b i1 i2 l1 l2:Addr}{j k:Nat}{xs ys:Array Value}{x y:Value}
abbrev Ov(z b i1 i2:Addr)(h h':Heap):Prop:=∀c o,c≠z->c≠b->c≠i1->c≠i2->h.get? c=some o->h'.get? c=some o
def Qi(N:ZNe z a b i1 i2 l1 l2)(Z:ZAt t1 t2 s.heap z a b i1 i2 l1 l2 .none j k)(hl1:RowL t1 s.heap l1 xs)(hl2:RowL t2 s.heap l2 ys)(hx:xs[j]?=some x)(hy:ys[k]?=some y){Q:Value->Shared->Prop}
 (hQ:∀g,ZAt t1 t2 g z a b i1 i2 l1 l2 (rawInt s.heap.objs.size) (j+1) (k+1)->IsPair g s.heap.objs.size x y->Ov z b i1 i2 s.heap g->Q (.ref s.heap.objs.size) { s with heap:=g }):
 wpAny (model prog w) A (Builtin.«zip.__next__» ⟨[.ref z],[]⟩) (λfin s'=>∃v,fin=.done (.ret v)/\Q v s') E s:=by
 obtain⟨hz,hp,⟨u,v,hb⟩,q1,q2⟩:=Z;show wpAny _ _ (field (.ref z) 2 >>= _) _ _ _;refine wpAny_bind (wpAny_field hz rfl (x:=.bool false) rfl ?_);show wpAny _ _ (field (.ref z) 3 >>= _) _ _ _;refine wpAny_bind (wpAny_field hz rfl (x:=.ref a) rfl (wpAny_bind (wpAny_seqItems hp rfl ?_)));show wpAny _ _ (Builtin.SmallTypes.ownedTupleIsFree (.ref z) >>= _) _ _ _;unfold Builtin.SmallTypes.ownedTupleIsFree;refine wpAny_bind (wpAny_bind (wpAny_field hz rfl (x:=.none) rfl (wpAny_pure ?_)));simp only[if_true];refine wpAny_bind (wpAny_rule (wpAny_bind (wpAny_field hz rfl (x:=.ref b) rfl ?_)));refine wpAny_bind (wpAny_setField_rec hz (by simp) λg1 z1 s1=>?_);have z1:IsZip g1 z a b .ellipsis:=z1;refine wpAny_bind ?_;simp only[zipIdx_cons,List.zipIdx_nil,List.forIn_cons,List.forIn_nil];refine wpAny_bind (wpAny_bind (wpAny_onRaise ?_));show wpAny _ _ (Builtin.SmallTypes.nextOf (.ref i1) >>= _) _ _ _;refine wpAny_bind (IB (s:={ s with heap:=g1 }) (q1.at λo e=>s1.extBut _ _ N.iz e) (hl1.at λo e=>s1.extBut _ _ N.lz e) hx λg2 r2 s2=>wpAny_pure ?_);have b2:IsPair g2 b u v:=s2.extBut _ _ N.bi (s1.extBut _ _ N.bz hb);refine wpAny_bind (wpAny_seqItems b2 rfl (wpAny_bind (wpAny_updateSeq_pair b2 λg3 b3 s3=>?_)));have b3:IsPair g3 b x v:=b3;refine wpAny_bind (wpAny_letGo (wpAny_pure (wpAny_bind (wpAny_bind (wpAny_onRaise ?_)))));show wpAny _ _ (Builtin.SmallTypes.nextOf (.ref i2) >>= _) _ _ _;have q3:RowI t2 g3 i2 l2 k:=q2.at λo e=>s3.extBut _ _ N.bj.symm (s2.extBut _ _ N.ij.symm (s1.extBut _ _ N.jz e));have m3:RowL t2 g3 l2 ys:=hl2.at λo e=>s3.extBut _ _ N.mb (s2.extBut _ _ N.mi (s1.extBut _ _ N.mz e));refine wpAny_bind (IB (s:={ s with heap:=g3 }) q3 m3 hy λg4 r4 s4=>wpAny_pure ?_);have b4:IsPair g4 b x v:=s4.extBut _ _ N.bj b3;refine wpAny_bind (wpAny_seqItems b4 rfl (wpAny_bind (wpAny_updateSeq_pair b4 λg5 b5 s5=>?_)));have b5:IsPair g5 b x y:=b5;refine wpAny_bind (wpAny_letGo (wpAny_pure (wpAny_pure (wpAny_bind (wpAny_seqItems b5 rfl (wpAny_bind (wpAny_newTuple ?_)))))));have sz:g5.objs.size=s.heap.objs.size:=by rw[s5.1,s4.1,s3.1,s2.1,s1.1]
 have z5:IsZip g5 z a b .ellipsis:=s5.extBut _ _ N.bz.symm (s4.extBut _ _ N.jz.symm (s3.extBut _ _ N.bz.symm (s2.extBut _ _ N.iz.symm z1)));have kp:Ov z b i1 i2 s.heap g5:=λc o c1 c2 c3 c4 e=>s5.extBut _ _ c2 (s4.extBut _ _ c4 (s3.extBut _ _ c2 (s2.extBut _ _ c3 (s1.extBut _ _ c1 e))));have w1:RowI t1 g5 i1 l1 (j+1):=r2.at λo e=>s5.extBut _ _ N.bi.symm (s4.extBut _ _ N.ij (s3.extBut _ _ N.bi.symm e));have w2:RowI t2 g5 i2 l2 (k+1):=r4.at λo e=>s5.extBut _ _ N.bj.symm e;have zlt:=Heap.lt_size z5;show wpAny _ _ (Builtin.SmallTypes.ownedTupleHandOut (.ref z) (.ref g5.objs.size) >>= _) _ _ _;unfold Builtin.SmallTypes.ownedTupleHandOut;have z6:IsZip (g5.push { cls:=.type "tuple",data:=.seq #[x,y] }) z a b .ellipsis:=Heap.get?_push_of_some _ z5;refine wpAny_bind (wpAny_bind (wpAny_setField_rec z6 (by simp) λg7 z7 s7=>?_));have z7:IsZip g7 z a b (rawInt g5.objs.size):=z7;refine wpAny_setField_rec z7 (by simp) λg8 z8 s8=>wpAny_pure ⟨_,rfl,?_⟩;have z8:IsZip g8 z a b (rawInt g5.objs.size):=z8;have up:∀c o,c≠z->g5.get? c=some o->g8.get? c=some o:=λc o c1 e=>s8.extBut _ _ c1 (s7.extBut _ _ c1 (Heap.get?_push_of_some _ e));have t8:IsPair g8 g5.objs.size x y:=s8.extBut _ _ (ne_of_gt zlt) (s7.extBut _ _ (ne_of_gt zlt) (Heap.get?_push_size _ rfl));show Q (.ref g5.objs.size) _;rw[sz]at z8 t8 ⊢;exact hQ g8 ⟨z8,up _ _ N.az (kp _ _ N.az N.ab N.ai N.aj hp),⟨_,_,up _ _ N.bz b5⟩,w1.at λo e=>up _ o N.iz e,w2.at λo e=>up _ o N.jz e⟩ t8 λc o c1 c2 c3 c4 e=>up c o c1 (kp c o c1 c2 c3 c4 e)
def Qh(hh:A.handled=none)(N:ZNe z a b i1 i2 l1 l2)(Z:ZAt t1 t2 s.heap z a b i1 i2 l1 l2 .none j k)(hl1:RowL t1 s.heap l1 xs)(hl2:RowL t2 s.heap l2 ys)(hend:xs[j]?=none∨ys[k]?=none){Q:Fin->Shared->Prop}
 (hE:∀g e,Ov z b i1 i2 s.heap g->(∃o,g.get? e=some o/\o.cls=.type "StopIteration")->E (.ref e) { s with heap:=g }):
 wpAny (model prog w) A (Builtin.«zip.__next__» ⟨[.ref z],[]⟩) Q E s:=by
 obtain⟨hz,hp,⟨u,v,hb⟩,q1,q2⟩:=Z;show wpAny _ _ (field (.ref z) 2 >>= _) _ _ _;refine wpAny_bind (wpAny_field hz rfl (x:=.bool false) rfl ?_);show wpAny _ _ (field (.ref z) 3 >>= _) _ _ _;refine wpAny_bind (wpAny_field hz rfl (x:=.ref a) rfl (wpAny_bind (wpAny_seqItems hp rfl ?_)));show wpAny _ _ (Builtin.SmallTypes.ownedTupleIsFree (.ref z) >>= _) _ _ _;unfold Builtin.SmallTypes.ownedTupleIsFree;refine wpAny_bind (wpAny_bind (wpAny_field hz rfl (x:=.none) rfl (wpAny_pure ?_)));simp only[if_true];refine wpAny_bind (wpAny_rule (wpAny_bind (wpAny_field hz rfl (x:=.ref b) rfl ?_)));refine wpAny_bind (wpAny_setField_rec hz (by simp) λg1 z1 s1=>?_);have z1:IsZip g1 z a b .ellipsis:=z1;refine wpAny_bind ?_;simp only[zipIdx_cons,List.zipIdx_nil,List.forIn_cons,List.forIn_nil];refine wpAny_bind (wpAny_bind (wpAny_onRaise ?_));show wpAny _ _ (Builtin.SmallTypes.nextOf (.ref i1) >>= _) _ _ _;have o1:RowI t1 g1 i1 l1 j:=q1.at λo e=>s1.extBut _ _ N.iz e;have m1:RowL t1 g1 l1 xs:=hl1.at λo e=>s1.extBut _ _ N.lz e;cases hx:xs[j]? with
 |none=>
  refine wpAny_bind (LR (s:={ s with heap:=g1 }) hh o1 m1 hx λg2 e s2 he=>?_);obtain⟨oe,he1,he2⟩:=he;have z2:IsZip g2 z a b .ellipsis:=s2 _ _ N.iz.symm z1;have ne:e≠z:=λq=>by subst q;rw[z2]at he1;cases he1;simp at he2
  exact wpAny_setField_rec z2 (by simp) λg3 _ s3=>hE g3 e (λc o c1 _ c3 _ q=>s3.extBut _ _ c1 (s2 _ _ c3 (s1.extBut _ _ c1 q))) ⟨oe,s3.extBut _ _ ne he1,he2⟩
 |some x=>
  have hy:ys[k]?=none:=by
   rcases hend with q|q
   .rw[hx]at q;cases q
   .exact q
  refine wpAny_bind (IB (s:={ s with heap:=g1 }) o1 m1 hx λg2 r2 s2=>wpAny_pure ?_);have b2:IsPair g2 b u v:=s2.extBut _ _ N.bi (s1.extBut _ _ N.bz hb);refine wpAny_bind (wpAny_seqItems b2 rfl (wpAny_bind (wpAny_updateSeq_pair b2 λg3 b3 s3=>?_)));refine wpAny_bind (wpAny_letGo (wpAny_pure (wpAny_bind (wpAny_bind (wpAny_onRaise ?_)))));show wpAny _ _ (Builtin.SmallTypes.nextOf (.ref i2) >>= _) _ _ _;have q3:RowI t2 g3 i2 l2 k:=q2.at λo e=>s3.extBut _ _ N.bj.symm (s2.extBut _ _ N.ij.symm (s1.extBut _ _ N.jz e));have m3:RowL t2 g3 l2 ys:=hl2.at λo e=>s3.extBut _ _ N.mb (s2.extBut _ _ N.mi (s1.extBut _ _ N.mz e));refine wpAny_bind (LR (s:={ s with heap:=g3 }) hh q3 m3 hy λg4 e s4 he=>?_);obtain⟨oe,he1,he2⟩:=he;have z4:IsZip g4 z a b .ellipsis:=s4 _ _ N.jz.symm (s3.extBut _ _ N.bz.symm (s2.extBut _ _ N.iz.symm z1));have ne:e≠z:=λq=>by subst q;rw[z4]at he1;cases he1;simp at he2
  exact wpAny_setField_rec z4 (by simp) λg5 _ s5=>hE g5 e (λc o c1 c2 c3 c4 q=>s5.extBut _ _ c1 (s4 _ _ c4 (s3.extBut _ _ c2 (s2.extBut _ _ c3 (s1.extBut _ _ c1 q))))) ⟨oe,s5.extBut _ _ ne he1,he2⟩
end
def SqS(K:PySem.W.Frag)(tp:Bool)(H:Hp)(a:Addr)(xs:List V):Prop:=match tp with
 |true=>SqT K H a xs
 |false=>SqL K H a xs
def Itz(K:PySem.W.Frag)(t1 t2:Bool)(a b:Addr):It:=
 ⟨λi H=>∃xs ys x y,SqS K t1 H a xs/\SqS K t2 H b ys/\xs[i]?=some x/\ys[i]?=some y,
  λi H x H'=>∃p u v,H p=none/\H'=upd H p (.tup [u,v])/\x=.ref p/\(∀xs,SqS K t1 H a xs->xs[i]?=some u)/\∀ys,SqS K t2 H b ys->ys[i]?=some v,
  λi H=>∃xs ys,SqS K t1 H a xs/\SqS K t2 H b ys/\(xs.length<=i∨ys.length<=i)⟩
section
variable{X:Cx}{pins:List (Addr×Obj)}{σ:List (Option V)}{H:Hp}{s:Shared}
def Inv.row{tp:Bool}{a:Addr}{xs:List V}(I:Inv X pins σ H s)(h:SqS X.K tp H a xs):∃its:List Value,Vals xs its/\RowL tp s.heap a its.toArray/\xs.length<=sizeLine:=by
 cases tp with
 |true=>obtain⟨its,r,p,z⟩:=I.tuple h;exact⟨its,r,(show s.heap.IsTuple a its.toArray from p),z⟩
 |false=>obtain⟨its,r,p,z⟩:=I.list h;exact⟨its,r,p.isList,z⟩
def Inv.row_inj{tp:Bool}{a:Addr}{xs ys:List V}(I:Inv X pins σ H s)(h:SqS X.K tp H a xs)(h':SqS X.K tp H a ys):xs=ys:=by
 cases tp with
 |true=>exact I.tuple_inj h h'
 |false=>exact I.list_inj h h'
end
def RowL.lt{tp:Bool}{h:Heap}{l:Addr}{xs:Array Value}(x:RowL tp h l xs):l<h.objs.size:=by
 obtain⟨o,n,e,_⟩:=x.obj;exact Heap.lt_size e
def Vy{M:Model}{A:Around}{E:Value->Shared->Prop}{s:Shared}{elts:List Expr}{x1}{pos:Pos}{z a b T:Addr}{Q:Unit->Shared->Prop}(hz:IsZip s.heap z a b (rawInt T)){prog:Program}{w:World}
 (hQ:∀g,IsZip g z a b .none->Heap.SameBut z s.heap g->Q () { s with heap:=g }):wpAny (model prog w) A (letOwnedTupleGo (.Tuple elts x1 pos) (.ref z) (.ref T)) Q E s:=wpAny_letOwnedTupleGo_zip hz hQ
def Qr{P:Program}{w:World}{K:PySem.W.Frag}{elts:List Expr}{kk:Nat}{tpos:Pos}{t1 t2:Bool}{z a b i1 i2 l1 l2:Addr}(N:ZNe z a b i1 i2 l1 l2):Turn P w K (.Tuple elts kk tpos) (Itz K t1 t2 l1 l2) [z,a,b,i1,i2] z (λi h=>ZAt t1 t2 h z a b i1 i2 l1 l2 .none i i) where
 mem:=by simp
 obj:=λi h st c hc=>by
  obtain⟨hz,hp,⟨u,v,hb⟩,q1,q2⟩:=st;simp only[mem_cons,not_mem_nil,or_false]at hc;rcases hc with rfl|rfl|rfl|rfl|rfl
  .exact⟨_,hz,λv z=>by cases(show Data.fields _=Data.cell v from z)⟩
  .exact⟨_,hp,λv z=>by cases(show Data.seq _ _=Data.cell v from z)⟩
  .exact⟨_,hb,λv z=>by cases(show Data.seq _ _=Data.cell v from z)⟩
  .obtain⟨o,e,d⟩:=q1.obj;exact⟨o,e,λv z=>by rw[d]at z;cases z⟩
  .obtain⟨o,e,d⟩:=q2.obj;exact⟨o,e,λv z=>by rw[d]at z;cases z⟩
 keep:=λi h h' st k=>by
  obtain⟨hz,hp,⟨u,v,hb⟩,q1,q2⟩:=st;exact⟨k z (by simp) _ hz,k a (by simp) _ hp,⟨u,v,k b (by simp) _ hb⟩,q1.at λo e=>k i1 (by simp) o e,q2.at λo e=>k i2 (by simp) o e⟩
 item:=by
  intro X hP hw hK hc i pins s σ H E I hf st hg;subst hP hw hK;obtain⟨xs,ys,x,y,h1,h2,hx,hy⟩:=hg;obtain⟨ix,rx,px,zx⟩:=I.row h1;obtain⟨iy,ry,py,zy⟩:=I.row h2;obtain⟨u,hu,ru⟩:=rx.get hx;obtain⟨v,hv,rv⟩:=ry.get hy;have hT:s.TypeIs (.ref z) "zip":=⟨_,st.z,rfl⟩
  unfold pyNext;refine wpAny_bind (wpAny_attempt (wpAny_callSpecial?_slot (name:=Str.ofString "__next__") hT F.slot_zip_next (wpAny_call_entry F.slot_zip_next hT F.entry_zip_next
   (Qi N st px py (x:=u) (y:=v) (by simpa using hu) (by simpa using hv) λg Z g5 kp=>wpAny_pure ⟨_,rfl,?_⟩) (F.args_zip_next_1 _))))
  refine Vy (M:=model X.prog X.w) (s:={ s with heap:=g }) Z.z λg' z' sb=>?_;have kp2:∀c o,c∉[z,a,b,i1,i2]->s.heap.get? c=some o->g'.get? c=some o:=λc o nc e=>by
   simp only[mem_cons,not_mem_nil,or_false,not_or]at nc;exact sb.extBut _ _ nc.1 (kp c o nc.1 nc.2.2.1 nc.2.2.2.1 nc.2.2.2.2 e)
  have hTz:s.heap.objs.size≠z:=ne_of_gt (Heap.lt_size st.z);have hpair:IsPair g' s.heap.objs.size u v:=sb.extBut _ _ hTz g5;have fresh:H s.heap.objs.size=none:=I.hok.fresh (le_refl _);have I2:Inv X pins σ (upd H s.heap.objs.size (.tup [x,y])) { s with heap:=g' }:=I.turnsL (tk:=s.toks) (o:=.tup [x,y]) kp2 hf (le_refl _)
   (show ObjOk X.prog X.w _ g' _ (.tup [x,y])from⟨by show 2<=sizeLine;decide,[u,v],.cons ru (.cons rv .nil),⟨_,hpair,rfl,⟨_,rfl⟩,rfl⟩⟩)
  refine⟨.ref s.heap.objs.size,_,I2,rfl,⟨_,x,y,fresh,rfl,rfl,λxs' q=>by rw[I.row_inj q h1];exact hx,λys' q=>by rw[I.row_inj q h2];exact hy⟩,⟨z',?_,?_,?_,?_⟩,λc hc=>?_⟩
  .exact sb.extBut _ _ N.az Z.p
  .obtain⟨p,q,e⟩:=Z.o;exact⟨p,q,sb.extBut _ _ N.bz e⟩
  .exact Z.r1.at λo e=>sb.extBut _ _ N.iz e
  .exact Z.r2.at λo e=>sb.extBut _ _ N.jz e
  .have lt:c<s.heap.objs.size:=by
    obtain⟨hz,hp,⟨u,v,hb⟩,q1,q2⟩:=st;simp only[mem_cons,not_mem_nil,or_false]at hc;rcases hc with rfl|rfl|rfl|rfl|rfl
    .exact Heap.lt_size hz
    .exact Heap.lt_size hp
    .exact Heap.lt_size hb
    .obtain⟨o,e,_⟩:=q1.obj;exact Heap.lt_size e
    .obtain⟨o,e,_⟩:=q2.obj;exact Heap.lt_size e
   rw[AC (ne_of_lt lt)];exact(hf c hc).1
 done:=by
  intro X hP hw hK hc i pins s σ H E I hf st hg;subst hP hw hK;obtain⟨xs,ys,h1,h2,hend⟩:=hg;obtain⟨ix,rx,px,zx⟩:=I.row h1;obtain⟨iy,ry,py,zy⟩:=I.row h2;have l1':=rx.length;have l2':=ry.length;have hT:s.TypeIs (.ref z) "zip":=⟨_,st.z,rfl⟩
  unfold pyNext;refine wpAny_bind (wpAny_attempt (wpAny_callSpecial?_slot (name:=Str.ofString "__next__") hT F.slot_zip_next (wpAny_call_entry F.slot_zip_next hT F.entry_zip_next
   (Qh (A:=X.A.in1) (show X.A.in1.handled=none from I.ok.hd hc) N st px py (hend.imp (λq=>by simp;omega) λq=>by simp;omega) λg e kp he=>?_) (F.args_zip_next_1 _))))
  obtain⟨o,ho,hcl⟩:=he;refine wpAny_bind (wpAny_isInstance (T:="StopIteration") (b:=true) ⟨o,ho,hcl⟩ isSubtype_stop (wpAny_pure ⟨rfl,?_⟩));exact I.turns (tk:=s.toks) (λc o nc e=>by
   simp only[mem_cons,not_mem_nil,or_false,not_or]at nc;exact kp c o nc.1 nc.2.2.1 nc.2.2.2.1 nc.2.2.2.2 e) hf
 self:=λ_ _ _ _ _ st h=>wpAny_pyIter_zip st.z h
abbrev Dm(tp:Bool)(l:Addr):Obj:={ cls:=.type (match tp with|true=>"tuple_iterator" | false=>"list_iterator"),data:=.fields #[.ref l,.int 0 0] }
abbrev zh1(t1:Bool)(h:Heap)(l1:Addr):Heap:=h.push (Dm t1 l1)
abbrev zh2(t1 t2:Bool)(h:Heap)(l1 l2:Addr):Heap:=(zh1 t1 h l1).push (Dm t2 l2)
abbrev zh3(t1 t2:Bool)(h:Heap)(l1 l2:Addr):Heap:=(zh2 t1 t2 h l1 l2).push { cls:=.type "tuple",data:=.seq #[.ref h.objs.size,.ref (zh1 t1 h l1).objs.size] }
abbrev zh4(t1 t2:Bool)(h:Heap)(l1 l2:Addr):Heap:=(zh3 t1 t2 h l1 l2).push { cls:=.type "tuple",data:=.seq #[.none,.none] }
abbrev zh5(t1 t2:Bool)(h:Heap)(l1 l2:Addr):Heap:=(zh4 t1 t2 h l1 l2).push { cls:=.type "zip",data:=.fields #[.none,.bool false,.bool false,.ref (zh2 t1 t2 h l1 l2).objs.size,.ref (zh3 t1 t2 h l1 l2).objs.size] }
set_option maxHeartbeats 4000000 in
def Qj(t1 t2:Bool)(l1 l2:Addr)(xs ys:Array Value):
 Meets (Builtin.«zip.__new__» ⟨[.type "zip",.ref l1,.ref l2],[]⟩) (λ_ R s=>RowL t1 s.heap l1 xs/\RowL t2 s.heap l2 ys/\R (.ok (.ret (.ref (zh4 t1 t2 s.heap l1 l2).objs.size))) { s with heap:=zh5 t1 t2 s.heap l1 l2 }):=
 .of_wp λprog w A R s h=>by
  obtain⟨hp,g,d,tk,os⟩:=s;obtain⟨q1,q2,h⟩:=h;have hsub:=sub_zip;have q2':RowL t2 (hp.push (Dm t1 l1)) l2 ys:=q2.at λo e=>Heap.get?_push_of_some _ e;cases t1<;>cases t2
  .have p1:Heap.IsList (Shared.heap ⟨hp,g,d,tk,os⟩) l1 xs:=q1;have p2:Heap.IsList (Shared.heap ⟨hp.push (Dm false l1),g,d,tk,os⟩) l2 ys:=q2'
   wp_walk using wpAny_pyIter_list p1,wpAny_pyIter_list p2
   exact⟨_,rfl,h⟩
  .have p1:Heap.IsList (Shared.heap ⟨hp,g,d,tk,os⟩) l1 xs:=q1;have p2:Heap.IsTuple (Shared.heap ⟨hp.push (Dm false l1),g,d,tk,os⟩) l2 ys:=q2'
   wp_walk using wpAny_pyIter_list p1,wpAny_pyIter_tuple p2
   exact⟨_,rfl,h⟩
  .have p1:Heap.IsTuple (Shared.heap ⟨hp,g,d,tk,os⟩) l1 xs:=q1;have p2:Heap.IsList (Shared.heap ⟨hp.push (Dm true l1),g,d,tk,os⟩) l2 ys:=q2'
   wp_walk using wpAny_pyIter_tuple p1,wpAny_pyIter_list p2
   exact⟨_,rfl,h⟩
  .have p1:Heap.IsTuple (Shared.heap ⟨hp,g,d,tk,os⟩) l1 xs:=q1;have p2:Heap.IsTuple (Shared.heap ⟨hp.push (Dm true l1),g,d,tk,os⟩) l2 ys:=q2'
   wp_walk using wpAny_pyIter_tuple p1,wpAny_pyIter_tuple p2
   exact⟨_,rfl,h⟩
def Tj{n l1 l2:Addr}(h1:l1<n)(h2:l2<n):ZNe (n+4) (n+2) (n+3) n (n+1) l1 l2:=by
 have k1:@LT.lt Nat _ l1 n:=h1;have k2:@LT.lt Nat _ l2 n:=h2;constructor<;>(intro z;have z:@Eq Nat _ _:=z;omega)
def NF{tp:Bool}{h:Heap}{a l:Addr}(e:h.get? a=some (Dm tp l)):RowI tp h a l 0:=by
 cases tp with
 |true=>exact⟨_,e,rfl,rfl⟩
 |false=>exact⟨_,e,rfl,rfl⟩
section
variable{prog:Program}{w:World}{A:Around}{E:Value->Shared->Prop}{s:Shared}
def Qk{t1 t2:Bool}{l1 l2:Addr}{xs ys:Array Value}{Q:Value->Shared->Prop}(q1:RowL t1 s.heap l1 xs)(q2:RowL t2 s.heap l2 ys)
 (h:∀g,ZAt t1 t2 g (s.heap.objs.size+4) (s.heap.objs.size+2) (s.heap.objs.size+3) s.heap.objs.size (s.heap.objs.size+1) l1 l2 .none 0 0->(∀c o,s.heap.get? c=some o->g.get? c=some o)->Q (.ref (s.heap.objs.size+4)) { s with heap:=g }):
 wpAny (model prog w) A (call (.type "zip") [.ref l1,.ref l2]) Q E s:=by
 refine callType_new F.called_zip (by decide) (F.typeCall_zip_2 _ _) (F.newCall_zip_2 _ _) (λobj=>F.args_object_init_3 obj _ _) F.entry_zip_new (Qj t1 t2 l1 l2 xs ys) ⟨q1,q2,?_⟩;have n1:(zh1 t1 s.heap l1).objs.size=s.heap.objs.size+1:=Heap.size_push ..;have n2:(zh2 t1 t2 s.heap l1 l2).objs.size=s.heap.objs.size+2:=by rw[Heap.size_push,n1]
 have n3:(zh3 t1 t2 s.heap l1 l2).objs.size=s.heap.objs.size+3:=by rw[Heap.size_push,n2]
 have n4:(zh4 t1 t2 s.heap l1 l2).objs.size=s.heap.objs.size+4:=by rw[Heap.size_push,n3]
 have up:∀{g:Heap} {c:Addr} {o x:Obj},g.get? c=some o->(g.push x).get? c=some o:=λe=>Heap.get?_push_of_some _ e;have e5:(zh5 t1 t2 s.heap l1 l2).get? (zh4 t1 t2 s.heap l1 l2).objs.size=some _:=Heap.get?_push_size _ rfl;have e4:(zh5 t1 t2 s.heap l1 l2).get? (zh3 t1 t2 s.heap l1 l2).objs.size=some _:=up (Heap.get?_push_size _ rfl);have e3:(zh5 t1 t2 s.heap l1 l2).get? (zh2 t1 t2 s.heap l1 l2).objs.size=some _:=up (up (Heap.get?_push_size _ rfl));have e2:(zh5 t1 t2 s.heap l1 l2).get? (zh1 t1 s.heap l1).objs.size=some (Dm t2 l2):=up (up (up (Heap.get?_push_size _ (by cases t2<;>rfl))));have e1:(zh5 t1 t2 s.heap l1 l2).get? s.heap.objs.size=some (Dm t1 l1):=up (up (up (up (Heap.get?_push_size _ (by cases t1<;>rfl)))));show _/\_;rw[n2,n3,n4]at e5;rw[n1,n2]at e3;rw[n3]at e4;rw[n1]at e2;rw[n4];exact⟨⟨_,e5,rfl⟩,h _ ⟨e5,e3,⟨_,_,e4⟩,NF e1,NF e2⟩ λc o x=>up (up (up (up (up x))))⟩
end
def Oe(K:PySem.W.Frag)(t1 t2:Bool)(ta:TA):TI:=λσ H R=>ta σ H λvs H1=>∃a b xs ys,vs=[.ref a,.ref b]/\SqS K t1 H1 a xs/\SqS K t2 H1 b ys/\R (Itz K t1 t2 a b) H1
section
variable{X:Cx}
def Xe{t1 t2:Bool}{a b:Expr}{ta:TA}{elts:List Expr}{kk:Nat}{tpos p pos:Pos}(hg:Gl X "zip")(hm:X.mg "zip"=none)(ha:PA X [a,b] ta)(hs:starEach [a,b] X.env=[(false,eval a X.env),(false,eval b X.env)]:=by rfl)(hs2:starEach [b] X.env=[(false,eval b X.env)]:=by rfl):
 PI X (.Tuple elts kk tpos) (.Call (.Name "zip" p) [a,b] [] pos) (Oe X.K t1 t2 ta):=by
 intro pins s σ H R I h;refine Call_ (Ca I hg hm boot_zip (PyProof.Rows.callWith_type1 (thn (ha pos pins s σ H _ I h) λus s1 ⟨vs,H1,I1,r1,q1⟩=>?_) (by rw[hs,hs2]) (by rw[hs2];rfl)));obtain⟨l1,l2,xs,ys,e,c1,c2,q⟩:=q1;subst e;obtain⟨u,v,rfl,ru,rv⟩:=Nk r1;cases ru;cases rv;obtain⟨ix,rx,px,zx⟩:=I1.row c1;obtain⟨iy,ry,py,zy⟩:=I1.row c2;refine Qk px py λg Z kp=>wpAny_pyIter_zip Z.z ?_;refine⟨_,_,_,_,H1,rfl,I1.kept (t':=s1.toks) kp,Qr (Tj px.lt py.lt),Z,λc hc=>?_,q⟩;simp only[mem_cons,not_mem_nil,or_false]at hc;have le:s1.heap.objs.size<=c:=by
  rcases hc with rfl|rfl|rfl|rfl|rfl
  .exact le_add_right _ _
  .exact le_add_right _ _
  .exact le_add_right _ _
  .exact le_refl _
  .exact le_add_right _ _
 exact I1.fpOk le (I1.hok.fresh le)
def V4(K:PySem.W.Frag){t1 t2:Bool}{a b:Expr}{ta:TA}{elts:List Expr}{kk:Nat}{tpos p pos:Pos}(hg:Gl X "zip")(hm:X.mg "zip"=none)(ha:PA X [a,b] ta)(hK:X.K=K:=by rfl)(hs:starEach [a,b] X.env=[(false,eval a X.env),(false,eval b X.env)]:=by rfl)(hs2:starEach [b] X.env=[(false,eval b X.env)]:=by rfl):
 PI X (.Tuple elts kk tpos) (.Call (.Name "zip" p) [a,b] [] pos) (Oe K t1 t2 ta):=by subst hK;exact Xe hg hm ha hs hs2
end
def Zu(K:PySem.W.Frag)(ρ:List Addr)(H:Hp)(tp:Bool)(a:Addr)(ds:List D)(g:Gd):Prop:=∀(ρ2:List Addr) (H2:Hp) (hd2:Hd),Ext ρ H ρ2 H2->RH K ρ2 H2 hd2->GOk hd2 g->∃xs,SqS K tp H2 a xs/\RDs K ρ2 H2 ds xs
def RRw(K:PySem.W.Frag)(tp:Bool)(t:TE)(m:MI):Prop:=∀(ρ:List Addr) (σ:St) (H:Hp) (hd:Hd) (ls:Ls) (Q:VK) (d:List D) (g:Gd) (hd':Hd),RH K ρ H hd->RL K ρ H ls σ->m ls hd=some ((d,g),hd') ->
 (∀ρ' H' a,Ext ρ H ρ' H'->RH K ρ' H' hd'->GOk hd' g->Zu K ρ' H' tp a d g->Q (.ref a) H')->t σ H Q
structure QR(K:PySem.W.Frag)(tp:Bool)(X:Cx)(e:Expr)(t:TE)(m:MI):Prop where
 p:PE X e t
 r:RRw K tp t m
section
variable{K:PySem.W.Frag}{ρ ρ':List Addr}{H H':Hp}{hd hd':Hd}
def WJ{t:TE}{m:ME}(h:RE K t m):RRw K true t (Ap m):=by
 intro ρ σ H hd ls Q d g hd' hR hL hm hQ;obtain⟨⟨d1,h1⟩,e1,hm⟩:=c5 hm;obtain⟨ds,e2,e3⟩:=c7 hm;cases e3;refine h ρ σ H hd ls _ d1 _ hR hL e1 λρ1 H1 v x1 R1 r1=>?_;obtain⟨a,xs,rfl,q,r⟩:=r1.tup e2;exact hQ ρ1 H1 a x1 R1 (AK _) λρ2 H2 hd2 x2 R2 _=>⟨xs,(x2.grow R1).sq q,r.ext R1 x2⟩
def U0{t:TE}{m:ME}(h:RE K t m):RRw K false t (CS m):=by
 intro ρ σ H hd ls Q d g hd' hR hL hm hQ;obtain⟨⟨d1,h1⟩,e1,hm⟩:=c5 hm;dsimp only at hm;split at hm
 .next n=>
  split at hm
  .next ds q=>
   cases hm;refine h ρ σ H hd ls _ _ _ hR hL e1 λρ1 H1 v x1 R1 r1=>?_;simp only[RD]at r1;obtain⟨a,hn,rfl⟩:=r1;refine hQ ρ1 H1 a x1 R1 (λp z=>by simp at z;subst z;exact q) λρ2 H2 hd2 x2 R2 G2=>?_;have hn2:ρ2[n]?=some a:=by
    obtain⟨r,rfl,_⟩:=x2.pre;rw[List.getElem?_append_left (List.getElem?_eq_some_iff.mp hn).1];exact hn
   obtain⟨ys,e4,e5⟩:=R2.lst hn2 (G2 (n,d) (by simp));exact⟨ys,SqL.of e4,e5⟩
  .cases hm
 .next ns=>
  cases hm;refine h ρ σ H hd ls _ _ _ hR hL e1 λρ1 H1 v x1 R1 r1=>?_;simp only[RD]at r1;obtain⟨a,rfl,q⟩:=r1;exact hQ ρ1 H1 a x1 R1 (AK _) λρ2 H2 hd2 x2 R2 _=>⟨_,(q.grow (x2.grow R1)).sq,ET⟩
 .cases hm
def WK{t:TE}{m:MA}(h:RN K t m):RRw K false t (EA m):=by
 intro ρ σ H hd ls Q d g hd' hR hL hm hQ;obtain⟨⟨d1,h1⟩,e1,e3⟩:=c7 hm;cases e3;refine h ρ σ H hd ls _ _ _ hR hL e1 λρ1 H1 a xs x1 R1 na oa ea r1=>?_;exact hQ ρ1 H1 a x1 R1 (AK _) λρ2 H2 hd2 x2 R2 _=>⟨xs,SqL.of (x2.keep a _ ea oa nt),r1.ext R1 x2⟩
open Classical in
def JZ(ma mb:MI):MI:=λls hd=>(ma ls hd).bind λp=>(mb ls p.2).bind λq=>if GOk q.2 p.1.2 then some ((List.zipWith (λx y=>AV [x,y]) p.1.1 q.1.1,p.1.2++q.1.2),q.2)else none
def Wb{t1 t2:Bool}{ta tb:TE}{ma mb:MI}(ha:RRw K t1 ta ma)(hb:RRw K t2 tb mb):RIt K (Oe K t1 t2 (B7 ta (B7 tb Bv))) (JZ ma mb):=by
 intro ρ σ H hd ls Q d g hd' hR hL hm hQ;obtain⟨⟨⟨d1,g1⟩,h1⟩,e1,hm⟩:=c5 hm;obtain⟨⟨⟨d2,g2⟩,h2⟩,e2,hm⟩:=c5 hm;dsimp only at hm;split at hm
 .next gk=>
  cases hm;refine ha ρ σ H hd ls _ d1 g1 h1 hR hL e1 λρ1 H1 a x1 R1 G1 S1=>?_;refine hb ρ1 σ H1 h1 ls _ d2 g2 _ R1 (hL.ext hR x1) e2 λρ2 H2 b x2 R2 G2 S2=>?_;obtain⟨xs,c1,r1⟩:=S1 ρ2 H2 _ x2 R2 gk;obtain⟨ys,c2,r2⟩:=S2 ρ2 H2 _ .refl R2 G2;refine⟨a,b,xs,ys,rfl,c1,c2,hQ ρ2 H2 _ (x1.trans R1 x2) R2 (λp hp=>(mem_append.mp hp).elim (gk p) (G2 p)) ?_⟩;intro ρ3 H3 hd3 x3 R3 G3 i;obtain⟨xs,c1,r1⟩:=S1 ρ3 H3 _ (x2.trans R2 x3) R3 λp hp=>G3 p (mem_append_left _ hp);obtain⟨ys,c2,r2⟩:=S2 ρ3 H3 _ x3 R3 λp hp=>G3 p (mem_append_right _ hp);have l1:=r1.len;have l2:=r2.len;refine⟨λhi=>?_,λhi=>⟨xs,ys,c1,c2,?_⟩⟩
  .simp only[List.length_zipWith]at hi;have i1:d1[i]?=some (d1[i]'(by omega)):=List.getElem?_eq_getElem _;have i2:d2[i]?=some (d2[i]'(by omega)):=List.getElem?_eq_getElem _;obtain⟨x,x4,x5⟩:=r1.get i1;obtain⟨y,y4,y5⟩:=r2.get i2;refine⟨⟨xs,ys,x,y,c1,c2,x4,y4⟩,λz H4 hz=>?_⟩;obtain⟨p,u,v,fp,rfl,rfl,hu,hv⟩:=hz;have eu:=hu xs c1;rw[x4]at eu;cases eu;have ev:=hv ys c2;rw[y4]at ev;cases ev;obtain⟨R4,x6⟩:=R3.hid (ho:=.tup [x,y]) fp;refine⟨ρ3,AV [d1[i]'(by omega),d2[i]'(by omega)],x6,rfl,R4,?_,Bn (SqT.of AM) (.cons (x5.ext R3 x6) (.cons (y5.ext R3 x6) .nil))⟩;simp[List.getElem?_zipWith,i1,i2]
  .simp only[List.length_zipWith]at hi;omega
 .cases hm
end
section
variable(K:PySem.W.Frag){X:Cx}{a b e:Expr}{ta tb te:TE}{me:ME}{m:MA}
def LX(h:QE K X e te me):QR K true X e te (Ap me):=⟨h.p,WJ h.r⟩
def Uc(h:QE K X e te me):QR K false X e te (CS me):=⟨h.p,U0 h.r⟩
def X6(h:QN K X e te m):QR K false X e te (EA m):=⟨h.p,WK h.r⟩
def XC{t1 t2:Bool}{ma mb:MI}{elts:List Expr}{kk:Nat}{tpos p pos:Pos}(hm:X.mg "zip"=none)(ha:QR K t1 X a ta ma)(hb:QR K t2 X b tb mb)(hg:Gl X "zip":=by rfl)(hK:X.K=K:=by rfl)(hs:starEach [a,b] X.env=[(false,eval a X.env),(false,eval b X.env)]:=by rfl)(hs2:starEach [b] X.env=[(false,eval b X.env)]:=by rfl):
 QI K X (.Tuple elts kk tpos) (.Call (.Name "zip" p) [a,b] [] pos) (Oe K t1 t2 (B7 ta (B7 tb Bv))) (JZ ma mb):=⟨V4 K hg hm (Bi ha.p (Bi hb.p CI hs2) (by rw[hs,hs2])) hK hs hs2,Wb ha.r hb.r⟩
end
section
variable{K:PySem.W.Frag}
def IK(ml:MA)(mb:ME):ME:=λls hd=>(ml ls hd).bind λp=>(mb ls p.2).bind λq=>match q.1 with
 |.im (.int i)=>(atI p.1 i).map (·,q.2)
 |_=>none
def Wl{ta tb:TE}{ml:MA}{mb:ME}(ha:RN K ta ml)(hb:RE K tb mb):RE K (tOp (Kj K) ta tb) (IK ml mb):=by
 and_intros;obtain⟨⟨d1,h1⟩,e1,hm⟩:=c5 hm;obtain⟨⟨d2,h2⟩,e2,hm⟩:=c5 hm;dsimp only at hm;split at hm
 .obtain⟨w,e3,e4⟩:=c7 hm;cases e4;refine ha ρ σ H hd ls _ d1 h1 hR hL e1 λρ1 H1 a xs x1 R1 na oa ea r1=>?_;refine hb ρ1 σ H1 h1 ls _ _ _ R1 (hL.ext hR x1) e2 λρ2 H2 v2 x2 R2 r2=>?_;simp only[RD,RI]at r2;subst r2;have r1':=r1.ext R1 x2;obtain⟨j,j1,j2⟩:=Ng r1'.len e3;obtain⟨x,y1,y2⟩:=r1'.get j1;exact .inl ⟨a,xs,_,x,rfl,rfl,SqL.of (x2.keep a _ ea oa nt),j2 x y1,hQ ρ2 H2 x (x1.trans R1 x2) R2 y2⟩
 .cases hm
def Jf(neg:Bool)(x y:PyData)(hd:Hd):Option (D×Hd):=if x.canLay0=true/\y.canLay0=true/\min x.depth y.depth<=60 then some (.im (.bl (if neg then !PyData.eqv x y else PyData.eqv x y)),hd)else none
def DH(neg:Bool)(ma:ME)(ml:MA):ME:=λls hd=>(ma ls hd).bind λp=>(ml ls p.2).bind λq=>(pyD q.2 p.1).bind λx=>(B1 q.1).bind λis=>Jf neg x (.list (I.pys is)) q.2
def rEN(K:PySem.W.Frag)(neg:Bool):R2:=λx y H Q=>∃d e,Rep K H d x/\Rep K H e y/\d.canLay0=true/\e.canLay0=true/\min d.depth e.depth<=60/\Q (.bl (if neg then !PyData.eqv d e else PyData.eqv d e)) H
def UE{ρ:List Addr}{H:Hp}{a:Addr}{xs:List V}{ds:List D}{is:List I}(ea:H a=some (.lst xs))(r:RDs K ρ H ds xs)(e:B1 ds=some is):Rep K H (.list (I.pys is)) (.ref a):=by
 rw[GF e]at r;simp only[Rep];exact⟨a,xs,rfl,SqL.of ea,r.is.rep⟩
def UJ{neg:Bool}{ta tb:TE}{ma:ME}{ml:MA}(ha:RE K ta ma)(hb:RN K tb ml):RE K (tOp (rEN K neg) ta tb) (DH neg ma ml):=by
 and_intros;obtain⟨⟨d1,h1⟩,e1,hm⟩:=c5 hm;obtain⟨⟨d2,h2⟩,e2,hm⟩:=c5 hm;obtain⟨x,e3,hm⟩:=c5 hm;obtain⟨is,e4,hm⟩:=c5 hm;unfold Jf at hm;split at hm
 .next c=>
  cases hm;refine ha ρ σ H hd ls _ d1 h1 hR hL e1 λρ1 H1 v x1 R1 r1=>?_;refine hb ρ1 σ H1 h1 ls _ d2 _ R1 (hL.ext hR x1) e2 λρ2 H2 a xs x2 R2 na oa ea r2=>?_;exact⟨_,_,FU R2 (r1.ext R1 x2) e3,UE ea r2 e4,c.1,c.2.1,c.2.2,hQ ρ2 H2 _ (x1.trans R1 x2) R2 (by simp[RD,RI])⟩
 .cases hm
end
def Xz(K:PySem.W.Frag){X:Cx}(hu:X.A.units+64<cLine)(hK:X.K=K:=by rfl):OpR X (compareOp .NotEq) (rEN K true):=JY K hu hK
section
variable(K:PySem.W.Frag){X:Cx}{a b e:Expr}{ta tb te:TE}{ma mb me:ME}{m mk:MA}{pos:Pos}{op:CmpOp}{neg:Bool}
def XT(ha:QN K X a ta m)(hb:QE K X b tb mb)(hs:Jm b:=by exact λ_ _=>rfl)(hK:X.K=K:=by rfl):QE K X (.Subscript a b pos) (tOp (Kj K) ta tb) (IK m mb):=⟨TX ((M3 K hK).or (NZ K hK)) ha.p hb.p hs,Wl ha.r hb.r⟩
def UT(ho:OpR X (compareOp op) (rEN K neg))(ha:QE K X a ta ma)(hb:QN K X b tb m)(hm:behindInMarks op b=false:=by first|exact Lf _|rfl):QT K X (.Compare a [op] [b] pos) (Kg (tOp (rEN K neg) ta tb)) (AF (DH neg ma m)):=⟨NO ho ha.p hb.p hm,EQ (UJ ha.r hb.r)⟩
end
def FS(lo:Int):Nat->List V
 |0=>[]
 |n+1=>.int lo::FS (lo+1) n
theorem Ij{lo:Int}:∀{n:Nat} {us:List Value},us.length=n->(∀(j:Nat) (v:Value),us[j]?=some v->∃t,v=.int (lo+j*1) t)->Vals (FS lo n) us
 |0,us,h,_=>by
  have:us=[]:=List.length_eq_zero_iff.mp h;subst this;exact .nil
 |n+1,[],h,_=>by simp at h
 |n+1,u::us,h,k=>by
  obtain⟨t,e⟩:=k 0 u rfl;refine .cons ⟨t,by rw[e];simp⟩ (Ij (by simpa using h) λj v q=>?_);obtain⟨t',e'⟩:=k (j+1) v (by simpa using q);exact⟨t',by rw[e'];congr 1;push_cast;omega⟩
section
variable{prog:Program}{w:World}{A:Around}{E:Value->Shared->Prop}{s:Shared}
def Ml{Q:List Value->Shared->Prop}{r:Addr}{a b c:Int}{t u v:Tok}{n:Nat}(hh:A.handled=none)(hr:IsRange s.heap r a b c t u v)(hsm:Builtin.Range.small a b c=true)(hn:Builtin.Range.rangeSize a b c=n)(hl:n<=2^24)
 (hQ:∀g tk (acc:Array Value),(∀b o,s.heap.get? b=some o->g.get? b=some o)->ItemsOf (λi v=>∃t,v=.int (a+i*c) t) acc n->Q acc.toList { s with heap:=g,toks:=tk }):
 wpAny (model prog w) A (collect (.ref r)) Q E s:=by
 unfold collect;refine wpAny_bind (wpAny_runValue (codeAny_builtin F.entry_proto_collect ?_));rw[Around.under_plainId F.plain_proto_collect _];show wpAny _ A.in1 (newList [] >>= λl=>again (.builtin "list.__iadd__" ⟨[l,.ref r],[]⟩)) _ _ s;refine wpAny_bind (wpAny_newObj_type (wpAny_pure ⟨plainId_quiet F.plain_list_iadd _,codeAny_builtin F.entry_list_iadd ?_⟩));rw[Around.under_plainId F.plain_list_iadd _];show wpAny _ A.in1 (Builtin.List.listExtendWith (.ref s.heap.objs.size) (.ref r) (.ref s.heap.objs.size)) _ _ _;have e0:(s.heap.push { cls:=.type "list",data:=.seq ([]:List Value).toArray }).get? s.heap.objs.size=some { cls:=.type "list",data:=.seq #[] 0 }:=Heap.get?_push_size _ rfl;have fin:∀g tk (acc:Array Value) c',(∀b o,b≠s.heap.objs.size->(s.heap.push { cls:=.type "list",data:=.seq ([]:List Value).toArray }).get? b=some o->g.get? b=some o)->g.get? s.heap.objs.size=some { cls:=.type "list",dict:=none,data:=.seq acc c',slots:=#[] }->ItemsOf (λi v=>∃t,v=.int (a+i*c) t) acc n ->
  wpAny (model prog w) A (load s.heap.objs.size >>= λo=>match o.data with|Data.seq xs epoch=>pure xs.toList|x=>unsupported "internal:collect") Q E { s with heap:=g,toks:=tk }:=λg tk acc c' kp eS it=>
  wpAny_bind (wpAny_load eS (wpAny_pure (hQ g tk acc (λb o q=>kp b o (ne_of_lt (Heap.lt_size q)) (Heap.get?_push_of_some _ q)) it)))
 refine wpAny_mono (wpAny_extend_range (A:=A) (R:=λr s'=>r=.ok (.ret (.ref s.heap.objs.size))/\∃g tk,s'={ s with heap:=g,toks:=tk }/\wpAny (model prog w) A (load s.heap.objs.size >>= λo=>match o.data with|Data.seq xs epoch=>pure xs.toList|x=>unsupported "internal:collect") Q E s')
  (s:={ s with heap:=s.heap.push { cls:=.type "list",data:=.seq ([]:List Value).toArray } }) hh (Heap.get?_push_of_some _ hr) hsm hn hl s.heap.objs.size (.ref s.heap.objs.size) 0 e0 λg tk acc c' kp eS it=>⟨rfl,g,tk,rfl,fin g tk acc c' kp eS it⟩) (λfn s' h=>?_) (λe s' h=>absurd h.1 (by simp))
 cases fn with
 |done f=>
  obtain⟨e,_,_,_,q⟩:=h;cases e;exact q
 |again c'=>exact⟨h.1,codeAny_mono h.2 λr s'' hr=>by obtain⟨rfl,_,_,_,q⟩:=hr;exact q⟩
end
def NL:List V->Hp->VK->Prop:=λxs H Q=>∃j:Int,xs=[.int j]/\∀p,H p=none->Q (.ref p) (upd H p (.rng 0 j))
def NK:List V->Hp->VK->Prop:=λxs H Q=>∃i j:Int,xs=[.int i,.int j]/\∀p,H p=none->Q (.ref p) (upd H p (.rng i j))
section
variable{X:Cx}
def call_rng1:CallR X (.type "range") NL:=by
 intro pins s σ H xs us Q I r h;obtain⟨j,rfl,q⟩:=h;obtain⟨u,rfl,t,rfl⟩:=By r;exact call_range_1 ⟨.ref s.heap.objs.size,_,I.laid (a:=s.heap.objs.size) (o:=.rng 0 j) (λb o e=>Heap.get?_push_of_some _ e) (le_refl _) ⟨_,_,_,Heap.get?_push_size _ rfl⟩,rfl,q _ (I.hok.fresh (le_refl _))⟩
def Qa:CallR X (.type "range") NK:=by
 intro pins s σ H xs us Q I r h;obtain⟨i,j,rfl,q⟩:=h;obtain⟨u,v,rfl,⟨t,rfl⟩,⟨t',rfl⟩⟩:=Nk r;exact call_range_2 ⟨.ref s.heap.objs.size,_,I.laid (a:=s.heap.objs.size) (o:=.rng i j) (λb o e=>Heap.get?_push_of_some _ e) (le_refl _) ⟨_,_,_,Heap.get?_push_size _ rfl⟩,rfl,q _ (I.hok.fresh (le_refl _))⟩
def Yz{lo hi:Int}:Builtin.Range.rangeSize lo hi 1=((hi-lo).toNat:Nat):=by rw[rangeSize_one];split<;>omega
def Oa{lo:Int}{n:Nat}{acc:Array Value}(it:ItemsOf (λi v=>∃t,v=.int (lo+i*1) t) acc n):Vals (FS lo n) acc.toList:=Ij (by simpa using it.1) λj v q=>it.2 j v (by simpa using q)
end
section
variable{K:PySem.W.Frag}
open Classical in
def Sa(m:MA):MA:=λls hd=>(m ls hd).bind λp=>match p.1 with
 |[.im (.int j)]=>if TD j then some (Ar 0 j.toNat,p.2)else none
 |[.im (.int i),.im (.int j)]=>if TC i j then some (Ar i (j-i).toNat,p.2)else none
 |_=>none
def Pf:List V->Hp->VK->Prop:=λxs H Q=>NL xs H Q∨NK xs H Q
def ZY(m:MA):ME:=λls hd=>(Sa m ls hd).bind λp=>some (AV p.1,p.2)
def JX:∀{xs ys:List Int},xs.Perm ys->xs.Pairwise (·<=·)->ys.Pairwise (·<=·)->xs=ys:=λ{xs ys} p a b=>
 p.eq_of_pairwise (le:=(·<=·)) (λ_ _ _ _ h1 h2=>Int.le_antisymm h1 h2) a b
def C0(xs:List Int):List Int:=xs.mergeSort (λa b=>decide (a<=b))
def Bz(xs:List Int):(C0 xs).Perm xs:=mergeSort_perm ..
def GY(xs:List Int):(C0 xs).Pairwise (·<=·):=by
 have:=pairwise_mergeSort (le:=λa b:Int=>decide (a<=b)) (by intro a b c h1 h2;simp at *;omega) (by intro a b;simp;omega) xs;exact this.imp (by simp)
def DY(m:MI):MA:=λls hd=>(m ls hd).bind λp=>(Al p.1.1).bind λns=>if ns.length<64 then some ((C0 ns).map λi=>.im (.int i),p.2)else none
end
end L2
namespace L2
structure BltA(mg:PySem.Str->Option PySem.Value):Prop where
 list:mg "list"=none
 tuple:mg "tuple"=none
 len:mg "len"=none
 range:mg "range"=none
 repr:mg "repr"=none
 sum:mg "sum"=none
 min:mg "min"=none
 max:mg "max"=none
 abs:mg "abs"=none
 all:mg "all"=none
 any:mg "any"=none
 sorted:mg "sorted"=none
 zip:mg "zip"=none
 isinstance:mg "isinstance"=none
 int:mg "int"=none
 bool:mg "bool"=none
 str:mg "str"=none
 set:mg "set"=none
 enumerate:mg "enumerate"=none
 reversed:mg "reversed"=none
 dict:mg "dict"=none
end L2
namespace L2
open PySem PySem.Spec PyProof.Rows
section
variable{ls:Ls}{hd:Hd}{a b c:MS}{ma mb mc:ME}{ta tb:MT}{m m1 m2:MA}{n:MG}{ns:MGs}{d e:D}
@[simp] theorem QJ:AD a b ls hd=(a ls hd).bind λp=>match p.1 with
 |.nx ls1=>b ls1 p.2
 |f=>some (f,p.2):=rfl
@[simp] theorem ay:AY ls hd=some (.nx ls,hd):=rfl
@[simp] theorem bB:BU ma ls hd=(ma ls hd).bind λp=>some (.nx ls,p.2):=rfl
@[simp] theorem bV:AR ma ls hd=(ma ls hd).bind λp=>some (.rt p.1,p.2):=rfl
@[simp] theorem aq:ZZ ls hd=some (.rt (.im .non),hd):=rfl
@[simp] theorem aZ:YF ls hd=some (.bk ls,hd):=rfl
@[simp] theorem bF:Zd ls hd=some (.ct ls,hd):=rfl
@[simp] theorem bf:Aj ta a b ls hd=(ta ls hd).bind λp=>if p.1=true then a ls p.2 else b ls p.2:=rfl
@[simp] theorem MD:Gp ma n ls hd=(ma ls hd).bind λp=>(n p.1 ls p.2).map λls'=>(.nx ls',p.2):=rfl
@[simp] theorem Nb(i:Nat):AB i d ls hd=some (ls.set i (some d)):=rfl
@[simp] theorem av(k:Nat):B9 k ns d ls hd=(AW d).bind λds=>if ds.length=k then ns ds ls hd else none:=rfl
@[simp] theorem aV(d:D)(ds:List D):AJ n ns (d::ds) ls hd=(n d ls hd).bind λls1=>ns ds ls1 hd:=rfl
@[simp] theorem ax:BA [] ls hd=some ls:=rfl
@[simp] theorem bW(ix:List Nat):Sb ix m ls hd=(m ls hd).bind λp=>if p.1.length=ix.length then some (.nx ((ix.zip p.1).foldl (λl q=>l.set q.1 (some q.2)) ls),p.2)else none:=rfl
@[simp] theorem au(i j k:Nat):Za i j k m ls hd=Sb [k,j,i] (λls hd=>(m ls hd).map λp=>(p.1.reverse,p.2)) ls hd:=rfl
@[simp] theorem QH(i:Nat):A0 i ls hd=match ls[i]? with
 |some (some d)=>some (d,hd)
 |_=>none:=rfl
@[simp] theorem cW(i:I):mC i ls hd=some (.im i,hd):=rfl
@[simp] theorem cJ(f:D->D->Hd->Option (D×Hd)):mOp f ma mb ls hd=(ma ls hd).bind λp=>(mb ls p.2).bind λq=>f p.1 q.1 q.2:=rfl
@[simp] theorem bn:Co ta tb ls hd=(ta ls hd).bind λp=>if p.1=true then tb ls p.2 else some (false,p.2):=rfl
@[simp] theorem cI:mOr ta tb ls hd=(ta ls hd).bind λp=>if p.1=true then some (true,p.2)else tb ls p.2:=rfl
@[simp] theorem bY:Bw ta ls hd=(ta ls hd).bind λp=>some (!p.1,p.2):=rfl
@[simp] theorem YY:B2 ma ls hd=(ma ls hd).bind λp=>(Cn p.2 p.1).map (·,p.2):=rfl
@[simp] theorem Vl:AF ma ls hd=(ma ls hd).bind λp=>match p.1 with
 |.im (.bl b)=>some (b,p.2)
 |_=>none:=rfl
@[simp] theorem cK:mIf ta ma mb ls hd=(ta ls hd).bind λp=>if p.1=true then ma ls p.2 else mb ls p.2:=rfl
@[simp] theorem bH:D0 ma mb ls hd=(AF ma ls hd).bind λp=>if p.1=true then mb ls p.2 else some (.im (.bl false),p.2):=rfl
@[simp] theorem bX:IJ ma mb ls hd=(AF ma ls hd).bind λp=>if p.1=true then some (.im (.bl true),p.2)else mb ls p.2:=rfl
@[simp] theorem aw:F6 ma ls hd=(AF ma ls hd).bind λp=>some (.im (.bl (!p.1)),p.2):=rfl
@[simp] theorem bZ:A5 ls hd=some ([],hd):=rfl
@[simp] theorem bG:A2 ma m ls hd=(ma ls hd).bind λp=>(m ls p.2).bind λq=>some (p.1::q.1,q.2):=rfl
open Classical in
@[simp] theorem bQ:Ad m ls hd=(m ls hd).bind λp=>if CF p.1.length then some (AV p.1,p.2)else none:=rfl
open Classical in
@[simp] theorem ba:CZ m ls hd=(m ls hd).bind λp=>if CF p.1.length then some (p.1,p.2)else none:=rfl
@[simp] theorem YZ:B3 m ls hd=(m ls hd).bind λp=>some (.mu p.2.length,p.2++[.lst p.1]):=rfl
@[simp] theorem Yb:DZ ma ls hd=(ma ls hd).bind λp=>match p.1 with
 |.im (.int i)=>some (.im (.int (-i)),p.2)
 |_=>none:=rfl
@[simp] theorem bc(neg:Bool):Av neg ma ls hd=(ma ls hd).bind λp=>some (.im (.bl (match p.1 with
 |.im .non=>!neg
 | _=>neg)),p.2):=rfl
@[simp] theorem cL(g:Int->Int->Option I)(i j:Int):fI g (.im (.int i)) (.im (.int j)) hd=(g i j).map (.im ·,hd):=rfl
@[simp] theorem bA(f g:D->D->Hd->Option (D×Hd)):G9 f g d e hd=match f d e hd with
 |some z=>some z
 |none=>g d e hd:=rfl
@[simp] theorem bh(neg:Bool)(i j:Int):FJ neg (.im (.int i)) (.im (.int j)) hd=some (.im (.bl (if neg then !decide (i=j)else decide (i=j))),hd):=by simp[FJ,scI,LF]
@[simp] theorem bg(neg:Bool)(i j:Str):FJ neg (.im (.str i)) (.im (.str j)) hd=some (.im (.bl (if neg then !decide (i=j)else decide (i=j))),hd):=by simp[FJ,scI,LF]
@[simp] theorem Zl(i:Int):gIx d (.im (.int i)) hd=(Ax hd d).bind λds=>(atI ds i).map (·,hd):=rfl
@[simp] theorem bE:CD d e hd=(EU hd d).bind λkvs=>(Dc e).bind λk=>(CW kvs k).map (·,hd):=rfl
@[simp] theorem cM(f:List D->Hd->Option (D×Hd)):mCB f m ls hd=(m ls hd).bind λp=>f p.1 p.2:=rfl
@[simp] theorem Zm(tp:Bool)(g:List D->Option D):f1 tp g [d] hd=((if tp then Ax hd d else Ak hd d)).bind λds=>(g ds).map (·,hd):=rfl
@[simp] theorem Yh(g:List D->Option D):BB g m ls hd=(m ls hd).bind λp=>(g p.1).map (·,p.2):=rfl
@[simp] theorem Zk(f:D->List D->Hd->Option (D×Hd)):mMt f ma m ls hd=(ma ls hd).bind λp=>match Ak p.2 p.1 with
 |some _=>(m ls p.2).bind λq=>f p.1 q.1 q.2
 |none=>none:=rfl
@[simp] theorem b7(i j:Int):G8 [.im (.int i),.im (.int j)] hd=some (.im (.int (if j>i then j else i)),hd):=rfl
@[simp] theorem b0(i j:Int):Zi [.im (.int i),.im (.int j)] hd=some (.im (.int (if j<i then j else i)),hd):=rfl
@[simp] theorem bo(i:Int):aS [.im (.int i)] hd=some (.im (.int (if i<0 then -i else i)),hd):=rfl
@[simp] theorem Yc:IK m ma ls hd=(m ls hd).bind λp=>(ma ls p.2).bind λq=>match q.1 with
 |.im (.int i)=>(atI p.1 i).map (·,q.2)
 |_=>none:=rfl
@[simp] theorem QK:Ap ma ls hd=(ma ls hd).bind λp=>(AW p.1).map λds=>((ds,[]),p.2):=rfl
@[simp] theorem Yg:EA m ls hd=(m ls hd).map λp=>((p.1,[]),p.2):=rfl
@[simp] theorem Ye:CS ma ls hd=(ma ls hd).bind λp=>match p.1 with
 |.mu n=>match p.2[n]? with
  |some (.lst ds)=>some ((ds,[(n,ds)]),p.2)
  |_=>none
 |.ro ns=>some ((ns.map λn=>.im (.int n),[]),p.2)
 |_=>none:=rfl
open Classical in
@[simp] theorem Yd:DG m ls hd=(m ls hd).bind λp=>match p.1 with
 |[.im (.int j)]=>if JT j then some ((Ar 0 j.toNat,[]),p.2)else none
 |_=>none:=rfl
open Classical in
@[simp] theorem b9:Zc m ls hd=(m ls hd).bind λp=>match p.1 with
 |[.im (.int i),.im (.int j)]=>if WX i j then some ((Ar i (j-i).toNat,[]),p.2)else none
 |_=>none:=rfl
@[simp] theorem Yi(mi:MI):Bp mi n a ls hd=(mi ls hd).bind λp=>B8 n a p.1.2 p.1.1 ls p.2:=rfl
open Classical in
@[simp] theorem Vn(k:Nat)(ix:List Nat)(mi:MI):Ac k ix mi n ta ma ls hd=(mi ls hd).bind λp=>if CF p.1.1.length then Az n ta ma p.1.2 p.1.1 (EL k ix ls) p.2 else none:=rfl
@[simp] theorem bP:BE ls hd=some (true,hd):=rfl
@[simp] theorem aY(F:List D->Hd->Option (D×Hd)):CJ F m ls hd=(m ls hd).bind λp=>F p.1 p.2:=rfl
@[simp] theorem aA:HN ls hd=some (none,hd):=rfl
@[simp] theorem ar:Kk ma ls hd=(ma ls hd).bind λp=>match p.1 with
 |.im (.int i)=>some (some i,p.2)
 |_=>none:=rfl
@[simp] theorem b8:Zb ma ls hd=(ma ls hd).bind λp=>(Ax p.2 p.1).map (·,p.2):=rfl
@[simp] theorem aW:Go m ls hd=m ls hd:=rfl
@[simp] theorem bS(ml mh:MO1):Lx ma ml mh ls hd=(ma ls hd).bind λp=>(ml ls p.2).bind λl=>(mh ls l.2).bind λh=>(Ak h.2 p.1).bind λds=>some (HB ds l.1 h.1,h.2):=rfl
@[simp] theorem bR(ml mh:MO1):aN ma ml mh ls hd=(ma ls hd).bind λp=>(ml ls p.2).bind λl=>(mh ls l.2).bind λh=>(AW p.1).bind λds=>if ¬ (HT.sIx ds.length 0 l.1=0/\HT.sIx ds.length ds.length h.1=ds.length)then some (AV (HB ds l.1 h.1),h.2)else none:=rfl
@[simp] theorem ap:ZY m ls hd=(Sa m ls hd).bind λp=>some (AV p.1,p.2):=rfl
open Classical in
@[simp] theorem bU:Sa m ls hd=(m ls hd).bind λp=>match p.1 with
 |[.im (.int j)]=>if TD j then some (Ar 0 j.toNat,p.2)else none
 |[.im (.int i),.im (.int j)]=>if TC i j then some (Ar i (j-i).toNat,p.2)else none
 |_=>none:=rfl
@[simp] theorem a8(mi:MI):DY mi ls hd=(mi ls hd).bind λp=>(Al p.1.1).bind λns=>if ns.length<64 then some ((C0 ns).map λi=>.im (.int i),p.2)else none:=rfl
@[simp] theorem bD(ms:List (ME×ME)):Kl ms ls hd=(E2 ms ls hd).bind λp=>if p.1.length<=15 then some (.mu p.2.length,p.2++[.dic (FX [] p.1)])else none:=rfl
@[simp] theorem a9:E2 [] ls hd=some ([],hd):=rfl
@[simp] theorem aU(r:List (ME×ME)):E2 ((ma,mb)::r) ls hd=(ma ls hd).bind λp=>(mb ls p.2).bind λq=>(E2 r ls q.2).bind λz=>(Dc p.1).map λk=>((k,q.1)::z.1,z.2):=rfl
open Classical in
@[simp] theorem bC:F7 ma mb mc ls hd=(mc ls hd).bind λp=>(ma ls p.2).bind λq=>(mb ls q.2).bind λr=>(Dc r.1).bind λk=>match q.1 with
 |.mu n=>match r.2[n]? with
  |some (.dic kvs)=>if G7 kvs.length then some (.nx ls,r.2.set n (.dic (DF kvs k p.1)))else none
  |_=>none
 |_=>none:=rfl
@[simp] theorem Vm:Dk ma mb mc ls hd=(mc ls hd).bind λp=>(ma ls p.2).bind λq=>(mb ls q.2).bind λr=>match q.1,r.1 with
 |.mu n,.im (.int i)=>match r.2[n]? with
  |some (.lst ds)=>(ixN ds.length i).map λj=>(.nx ls,r.2.set n (.lst (ds.set j p.1)))
  |_=>none
 |_,_=>none:=rfl
@[simp] theorem W7(is:List I):AW (.im (.tup is))=some (is.map .im):=rfl
@[simp] theorem bu(ds:List D):AW (.tm ds)=some ds:=rfl
@[simp] theorem bx(k:Nat):AW (.mu k)=none:=rfl
@[simp] theorem bw(k:List Int):AW (.ro k)=none:=rfl
@[simp] theorem Ee(is:List I):Ax hd (.im (.tup is))=some (is.map .im):=rfl
@[simp] theorem cA(ds:List D):Ax hd (.tm ds)=some ds:=rfl
@[simp] theorem cC(k:Nat):Ax hd (.mu k)=Ak hd (.mu k):=rfl
@[simp] theorem cB(k:List Int):Ax hd (.ro k)=some (k.map λn=>.im (.int n)):=rfl
@[simp] theorem Ze(k:Nat):Ak hd (.mu k)=match hd[k]? with
 |some (.lst ds)=>some ds
 |_=>none:=rfl
@[simp] theorem cF(k:List Int):Ak hd (.ro k)=some (k.map λn=>.im (.int n)):=rfl
@[simp] theorem cN(k:Nat):EU hd (.mu k)=match hd[k]? with
 |some (.dic ds)=>some ds
 |_=>none:=rfl
@[simp] theorem cH(i:Int):Dc (.im (.int i))=some (.inl i):=rfl
@[simp] theorem cG(i:Str):Dc (.im (.str i))=some (.inr i):=rfl
@[simp] theorem bt:B1 []=some []:=rfl
@[simp] theorem cP(i:I)(r:List D):B1 (.im i::r)=(B1 r).map (i::·):=rfl
@[simp] theorem bN:Al []=some []:=rfl
@[simp] theorem bO(i:Int)(r:List D):Al (.im (.int i)::r)=(Al r).map (i::·):=rfl
@[simp] theorem br:C6 []=some []:=rfl
@[simp] theorem cO(i:Bool)(r:List D):C6 (.im (.bl i)::r)=(C6 r).map (i::·):=rfl
@[simp] theorem C1(is:List I):AV (is.map .im)=.im (.tup is):=by simp[AV]
@[simp] theorem Zz:AV []=.im (.tup []):=rfl
@[simp] theorem NS(i:I):AV [.im i]=.im (.tup [i]):=rfl
@[simp] theorem am(i j:I):AV [.im i,.im j]=.im (.tup [i,j]):=rfl
@[simp] theorem al(i j k:I):AV [.im i,.im j,.im k]=.im (.tup [i,j,k]):=rfl
@[simp] theorem ak(i j k l:I):AV [.im i,.im j,.im k,.im l]=.im (.tup [i,j,k,l]):=rfl
@[simp] theorem bq(w:Nat)(i:I):clD w (.im i)=true:=by simp[clD]
@[simp] theorem bp(w n:Nat):clD w (.mu n)=decide (n<w):=by simp[clD]
@[simp] theorem aa(w:Nat):B4 w []=true:=by simp[B4]
@[simp] theorem QY(w:Nat)(d:D)(ds:List D):B4 w (d::ds)=(clD w d&&B4 w ds):=by simp[B4]
@[simp] theorem Ev{α:Type}(x:α)(r:List α):atI (x::r) 0=some x:=HZ (j:=0) rfl
@[simp] theorem Cq{α:Type}(x y:α)(r:List α):atI (x::y::r) 1=some y:=HZ (j:=1) rfl
@[simp] theorem EE{α:Type}(x y z:α)(r:List α):atI (x::y::z::r) 2=some z:=HZ (j:=2) rfl
def GE{α:Type}{xs:List α}{i:Int}{k:Nat}{x:α}(hi:i=k)(h:xs[k]?=some x):atI xs i=some x:=by subst hi;exact HZ h
@[simp] theorem Gw:CF 0:=AZ (by decide)
@[simp] theorem Gv:CF 1:=AZ (by decide)
@[simp] theorem CK:CF 2:=AZ (by decide)
@[simp] theorem Em:CF 3:=AZ (by decide)
@[simp] theorem ao:G7 4:=De (by decide)
open Classical in
@[simp] theorem Yj(k:Nat)(x:D):Bj (.mu k) [x] hd=match hd[k]? with
 |some (.lst ds)=>if G7 ds.length then some (.im .non,hd.set k (.lst (ds++[x])))else none
 |_=>none:=rfl
def Qd{F:List D->Hd->Option (D×Hd)}{ds:List D}{hd1 h2:Hd}{i:I}(h1:m ls hd=some (ds,hd1))(hc:B4 0 ds=true)(hF:F ds []=some (.im i,h2)):AA 0 F m ls hd=some (.im i,hd1):=by
 simp[AA,h1,hc,hF,fin]
def MY{w:Nat}{F:List D->Hd->Option (D×Hd)}{ds:List D}{pre pre' rest g:Hd}{i:I}(hw:pre.length=w)(hw':pre'.length=w)(h1:m ls hd=some (ds,pre++rest))(hc:B4 w ds=true)(hp:pre.all (clO w)=true)(hp':pre'.all (clO w)=true)(hF:F ds pre=some (.im i,pre'++g)):AA w F m ls hd=some (.im i,pre'++rest):=by
 subst hw;have e1:(pre++rest).take pre.length=pre:=by simp
 have e2:(pre'++g).take pre.length=pre':=by rw[<- hw'];simp
 simp only[AA,h1,bind_some,e1,hc,hp,hF,fin,e2,hp'];simp
end
def Sc{n:MG}{b:MS}{g:Gd}{ls:Ls}{hd:Hd}:B8 n b g [] ls hd=some (.nx ls,hd):=by unfold B8;rfl
def Q4{n:MG}{b:MS}{g:Gd}{d:D}{r:List D}{ls ls1 ls2:Ls}{hd hd2:Hd}(h1:n d ls hd=some ls1)(h2:b ls1 hd=some (.nx ls2,hd2))(h3:GOk hd2 g):B8 n b g (d::r) ls hd=B8 n b g r ls2 hd2:=by
 conv=>lhs;unfold B8
 simp[h1,h2,h3]
open Classical in
def mIn(k:Nat)(n:MG)(c:MT)(m:ME)(g:Gd):List D->Ls->Hd->Option (Ls×Hd)
 |[],ls,hd=>some (ls,hd)
 |d::r,ls,hd=>(n d ls hd).bind λls1=>(c ls1 hd).bind λp=>if p.1=true then(m ls1 p.2).bind λq=>(Bj (.mu k) [q.1] q.2).bind λz=>if GOk z.2 g then mIn k n c m g r ls1 z.2 else none else if GOk p.2 g then mIn k n c m g r ls1 p.2 else none
open Classical in
def OW(k:Nat)(n:MG)(c:MT)(mi:MI)(n2:MG)(c2:MT)(m:ME)(g:Gd):List D->Ls->Hd->Option Hd
 |[],ls,hd=>some hd
 |d::r,ls,hd=>(n d ls hd).bind λls1=>(c ls1 hd).bind λp=>if p.1=true then(mi ls1 p.2).bind λq=>(mIn k n2 c2 m q.1.2 q.1.1 ls1 q.2).bind λz=>if GOk z.2 g then OW k n c mi n2 c2 m g r z.1 z.2 else none else if GOk p.2 g then OW k n c mi n2 c2 m g r ls1 p.2 else none
def YE(j:Nat)(ix:List Nat)(mi:MI)(n:MG)(c:MT)(mi2:MI)(n2:MG)(c2:MT)(m:ME):ME:=λls hd=>(mi ls hd).bind λp=>(OW p.2.length n c mi2 n2 c2 m p.1.2 p.1.1 (EL j ix ls) (p.2++[.lst []])).map λh=>(.mu p.2.length,h)
open Classical in
def IL(ma mb:ME):MA:=λls hd=>(ma ls hd).bind λp=>(mb ls p.2).bind λq=>match p.1,q.1 with
 |.mu i,.mu j=>match q.2[i]?,q.2[j]? with
  |some (.lst xs),some (.lst ys)=>if CF (xs.length+ys.length)then some (xs++ys,q.2)else none
  |_,_=>none
 |_,_=>none
def Wa{K:PySem.W.Frag}{ta tb:TE}{ma mb:ME}(ha:RE K ta ma)(hb:RE K tb mb):RN K (tOp Rp ta tb) (IL ma mb):=by
 and_intros;obtain⟨⟨d1,h1⟩,e1,hm⟩:=c5 hm;obtain⟨⟨d2,h2⟩,e2,hm⟩:=c5 hm;dsimp only at hm;split at hm
 .next i j=>
  split at hm
  .next xs ys q1 q2=>
   split at hm
   .next c=>
    cases hm;refine ha ρ σ H hd ls _ _ h1 hR hL e1 λρ1 H1 v x1 R1 r1=>?_;refine hb ρ1 σ H1 h1 ls _ _ _ R1 (hL.ext hR x1) e2 λρ2 H2 u x2 R2 r2=>?_;have r1':=r1.ext R1 x2;simp only[RD]at r1' r2;obtain⟨a,ka,rfl⟩:=r1';obtain⟨b,kb,rfl⟩:=r2;obtain⟨vs,f1,f2⟩:=R2.lst ka q1;obtain⟨us,f3,f4⟩:=R2.lst kb q2;refine⟨a,b,vs,us,rfl,rfl,f1,f3,by rw[f2.len,f4.len];exact c,λp hp=>?_⟩;obtain⟨R3,x3⟩:=R2.hid (ho:=.lst (vs++us)) hp;have x12:=x1.trans R1 x2;exact hQ ρ2 _ p _ (x12.trans R2 x3) R3 (x12.none hR hp R2) (R2.out hp) AM ((f2.app f4).ext R2 x3)
   .cases hm
  .cases hm
 .cases hm
def X9(K:PySem.W.Frag){X:Cx}{a b:Expr}{pos:Pos}{ta tb:TE}{ma mb:ME}(ha:QE K X a ta ma)(hb:QE K X b tb mb):QN K X (.BinOp a .Add b pos) (tOp Rp ta tb) (IL ma mb):=⟨ON Y6 ha.p hb.p,Wa ha.r hb.r⟩
@[simp] theorem aX(j:Nat)(ix:List Nat)(mi mi2:MI)(n n2:MG)(c c2:MT)(m:ME)(ls:Ls)(hd:Hd):YE j ix mi n c mi2 n2 c2 m ls hd=(mi ls hd).bind λp=>(OW p.2.length n c mi2 n2 c2 m p.1.2 p.1.1 (EL j ix ls) (p.2++[.lst []])).map λh=>(.mu p.2.length,h):=rfl
end L2
namespace L2
open PySem PySem.Spec PyProof.Rows PySem.W
section
variable(r:Nat->Int)(n:Nat)
def PWp{α:Type}:KasT α->(α->Prop)->Prop
 |.ret a,Q=>Q a
 |.ask i j k,Q=>i<n/\j<n/\PWp (k (decide (r i<r j))) Q
def kv(p:Array Nat)(i:Nat):Int:=r (p.getD i 0)
def STo(p:Array Nat)(m:Nat):Prop:=∀i j,i<=j->j<m->kv r p i<=kv r p j
def DTo(p:Array Nat)(m:Nat):Prop:=∀i j,i<=j->j<m->kv r p j<=kv r p i
def EqL(p:Array Nat)(m q:Nat):Prop:=∀k,m-(q+1)<=k->k<m->kv r p k=kv r p (m-1)
def PAr(p:Array Nat):Prop:=p.Perm (List.range n).toArray
end
section
variable{r:Nat->Int}{n:Nat}
theorem PWp.bind{α β:Type}{f:α->KasT β}{Q:β->Prop}:∀{t:KasT α},PWp r n t (λa=>PWp r n (f a) Q)->PWp r n (t.bind f) Q
 |.ret _,h=>h
 |.ask i j k,h=>⟨h.1,h.2.1,PWp.bind h.2.2⟩
theorem PWp.mono{α:Type}{Q Q':α->Prop}:∀{t:KasT α},PWp r n t Q->(∀a,Q a->Q' a)->PWp r n t Q'
 |.ret _,h,q=>q _ h
 |.ask i j k,h,q=>⟨h.1,h.2.1,PWp.mono h.2.2 q⟩
theorem PWp.wp{α:Type}{cmp:Nat->Nat->(Bool->Shared->Prop)->Shared->Prop}{P:Shared->Prop}{Q:α->Shared->Prop}(hc:∀i j C s,i<n->j<n->P s->(∀s',P s'->C (decide (r i<r j)) s')->cmp i j C s):∀{t:KasT α} {s:Shared},PWp r n t (λa=>∀s,P s->Q a s)->P s->t.kasWp cmp Q s
 |.ret _,s,h,p=>h s p
 |.ask i j k,s,h,p=>hc i j _ s h.1 h.2.1 p λs' p'=>PWp.wp hc h.2.2 p'
theorem PAr.size{p:Array Nat}(h:PAr n p):p.size=n:=by have:=h.size_eq;simpa using this
def PAr.lt{p:Array Nat}(h:PAr n p){i:Nat}(hi:i<n):p.getD i 0<n:=by
 have hs:=h.size;have hi':i<p.size:=by omega
 have:p[i]∈(List.range n).toArray:=h.mem_iff.mp (Array.getElem_mem hi');have e:p.getD i 0=p[i]:=by simp[Array.getD,hi']
 rw[e];simpa using this
def Ix{p:Array Nat}{i j:Nat}(hj:j<=p.size)(k:Nat):kv r (kas_rev p i j) k=if i<=k/\k<j then kv r p (i+j-1-k)else kv r p k:=by
 unfold kv kas_rev;simp only[Array.getD_eq_getD_getElem?];rw[getElem?_mirror_all hj];split<;>rfl
def PAr.rev{p:Array Nat}(h:PAr n p)(i j:Nat):PAr n (kas_rev p i j):=(mirror_perm _ _ _ _).trans h
def NX{p:Array Nat}{m q:Nat}(hj:m<=p.size)(hq:q+1<=m)(h:EqL r p m q)(k:Nat):kv r (kas_rev p (m-(q+1)) m) k=kv r p k:=by
 rw[Ix hj];split
 .next c=>rw[h _ (by omega) (by omega),h k c.1 c.2]
 .rfl
theorem MZ{p:Array Nat}(pa:PAr n p):∀(f m:Nat),1<=m->m+f<=n->STo r p m->PWp r n (kas_asc p f m) λm'=>m<=m'/\m'<=m+f/\STo r p m'/\(m'<m+f->kv r p m'<kv r p (m'-1))
 |0,m,h1,hn,hs=>⟨le_refl _,le_refl _,hs,λh=>by omega⟩
 |f+1,m,h1,hn,hs=>by
  refine⟨pa.lt (by omega),pa.lt (by omega),?_⟩;by_cases c:r (p.getD m 0)<r (p.getD (m-1) 0)
  .rw[decide_eq_true c];exact⟨le_refl _,by omega,hs,λ_=>c⟩
  .rw[decide_eq_false c];refine(MZ pa f (m+1) (by omega) (by omega) ?_).mono λm' h=>⟨by omega,by omega,h.2.2.1,λz=>h.2.2.2 (by omega)⟩
   intro i j hij hj;by_cases e:j<m
   .exact hs i j hij e
   .have:j=m:=by omega
    subst this;by_cases e2:i=j
    .subst e2;exact Int.le_refl _
    .have:=hs i (j-1) (by omega) (by omega);have:kv r p (j-1)<=kv r p j:=by unfold kv;omega
     omega
def IR{p:Array Nat}{m:Nat}(h1:1<=m)(h:DTo r p m)(c:kv r p m<=kv r p (m-1)):DTo r p (m+1):=by
 intro i j hij hj;by_cases e:j<m
 .exact h i j hij e
 .have:j=m:=by omega
  subst this;by_cases e2:i=j
  .subst e2;exact Int.le_refl _
  .have:=h i (j-1) (by omega) (by omega);omega
theorem HY:∀(f:Nat) (p:Array Nat) (m q:Nat),PAr n p->1<=m->q+1<=m->m+f<=n->DTo r p m->EqL r p m q ->
 PWp r n (kas_desc f p m q) λz=>PAr n z.1/\m<=z.2.1/\z.2.1<=m+f/\DTo r z.1 z.2.1/\EqL r z.1 z.2.1 z.2.2/\z.2.2+1<=z.2.1
 |0,p,m,q,pa,h1,hq,hn,hd,he=>⟨pa,le_refl _,le_refl _,hd,he,hq⟩
 |f+1,p,m,q,pa,h1,hq,hn,hd,he=>by
  refine⟨pa.lt (by omega),pa.lt (by omega),?_⟩;have sz:=pa.size;by_cases c:r (p.getD m 0)<r (p.getD (m-1) 0)
  .rw[decide_eq_true c];have c':kv r p m<=kv r p (m-1):=by unfold kv;omega
   dsimp only;rw[if_pos rfl];by_cases hq0:q>0
   .rw[if_pos hq0];have sm:=NX (r:=r) (p:=p) (m:=m) (q:=q) (by omega) hq he;refine(HY f _ (m+1) 0 (pa.rev _ _) (by omega) (by omega) (by omega) ?_ ?_).mono λz h=>⟨h.1,by omega,by omega,h.2.2.2⟩
    .have:=IR h1 hd c';intro i j a b;rw[sm,sm];exact this i j a b
    .intro k a b;have:k=m:=by omega
     subst this;rfl
   .rw[if_neg hq0];refine(HY f p (m+1) 0 pa (by omega) (by omega) (by omega) (IR h1 hd c') ?_).mono λz h=>⟨h.1,by omega,by omega,h.2.2.2⟩
    intro k a b;have:k=m:=by omega
    subst this;rfl
  .rw[decide_eq_false c];dsimp only;rw[if_neg Bool.false_ne_true];refine⟨pa.lt (by omega),pa.lt (by omega),?_⟩;by_cases d:r (p.getD (m-1) 0)<r (p.getD m 0)
   .rw[decide_eq_true d];exact⟨pa,le_refl _,by show m<=m+(f+1);omega,hd,he,hq⟩
   .rw[decide_eq_false d];dsimp only;rw[if_neg Bool.false_ne_true];have e:kv r p m=kv r p (m-1):=by unfold kv;omega
    refine(HY f p (m+1) (q+1) pa (by omega) (by omega) (by omega) (IR h1 hd (by omega)) ?_).mono λz h=>⟨h.1,by omega,by omega,h.2.2.2⟩
    intro k a b;by_cases e2:k=m
    .subst e2;rfl
    .have:=he k (by omega) (by omega);have e3:m+1-1=m:=rfl;rw[e3];omega
def Run(z:Nat×Array Nat)(r:Nat->Int)(n:Nat):Prop:=PAr n z.2/\1<=z.1/\z.1<=n/\STo r z.2 z.1
def Kw{p:Array Nat}{m:Nat}(pa:PAr n p)(h1:1<=m)(hn:m<=n)(hd:DTo r p m):PWp r n (kas_tail3 m n p) λz=>Run z r n:=by
 have sz:=pa.size;have st:STo r (kas_rev p 0 m) m:=by
  intro i j a b;rw[Ix (by omega),Ix (by omega),if_pos ⟨by omega,by omega⟩,if_pos ⟨by omega,by omega⟩];exact hd _ _ (by omega) (by omega)
 refine PWp.bind ((MZ (pa.rev 0 m) (n-m) m h1 (by omega) st).mono λm' h=>?_);exact⟨pa.rev 0 m,by show 1<=m';omega,by show m'<=n;omega,h.2.2.1⟩
def Hq{p:Array Nat}{m:Nat}(pa:PAr n p)(hn:m+1<=n)(hd:DTo r p (m+1)):PWp r n (kas_descPart m n p) λz=>Run z r n:=by
 refine PWp.bind ((HY (n-(m+1)) p (m+1) 0 pa (by omega) (by omega) (by omega) hd ?_).mono λz h=>?_)
 .intro k a b;have:k=m:=by omega
  subst this;rfl
 .obtain⟨a,b,c,d,e,g⟩:=h;have sz:=a.size;by_cases hq:z.2.2>0
  .rw[if_pos hq];have sm:=NX (r:=r) (p:=z.1) (m:=z.2.1) (q:=z.2.2) (by omega) g e;exact Kw (a.rev _ _) (by omega) (by omega) λi j x y=>by rw[sm,sm];exact d i j x y
  .rw[if_neg hq];exact Kw a (by omega) (by omega) d
def Sr(h1:1<=n):PWp r n (kas_count n (List.toArray (List.range n))) λz=>Run z r n:=by
 have pa:PAr n (List.range n).toArray:=.refl _;have sz:=pa.size;refine PWp.bind ((MZ pa (n-1) 1 (by omega) (by omega) λi j a b=>?_).mono λm h=>?_)
 .have:i=j:=by omega
  subst this;exact Int.le_refl _
 .obtain⟨a,b,c,d⟩:=h;by_cases e:(m==n)=true
  .rw[if_pos e];have:m=n:=by simpa using e
   exact⟨pa,by show 1<=m;omega,by show m<=n;omega,c⟩
  .rw[if_neg e];have hne:m≠n:=by simpa using e
   have dd:=d (by omega);by_cases h2:m>1
   .rw[if_pos h2];refine⟨pa.lt (by omega),pa.lt (by omega),?_⟩;by_cases g:r ((List.range n).toArray.getD 0 0)<r ((List.range n).toArray.getD (m-1) 0)
    .rw[decide_eq_true g];exact⟨pa,by show 1<=m;omega,by show m<=n;omega,c⟩
    .rw[decide_eq_false g];dsimp only;rw[if_neg Bool.false_ne_true];have g':kv r (List.range n).toArray (m-1)<=kv r (List.range n).toArray 0:=by unfold kv;omega
     have eq:∀k,k<m->kv r (List.range n).toArray k=kv r (List.range n).toArray 0:=λk hk=>by
      have x1:=c 0 k (by omega) hk;have x2:=c k (m-1) (by omega) (by omega);omega
     have rv:∀k,kv r (kas_rev (List.range n).toArray 0 m) k=kv r (List.range n).toArray k:=λk=>by
      rw[Ix (by omega)];split
      .next z=>rw[eq _ (by omega),eq k z.2]
      .rfl
     refine Hq (pa.rev 0 m) (by omega) λi j x y=>?_;rw[rv,rv];by_cases z:j<m
     .rw[eq i (by omega),eq j z];exact Int.le_refl _
     .have:j=m:=by omega
      subst this;by_cases z2:i=j
      .subst z2;exact Int.le_refl _
      .rw[eq i (by omega)];have:=eq (j-1) (by omega);omega
   .rw[if_neg h2];have:m=1:=by omega
    subst this;refine Hq pa (by omega) λi j x y=>?_;by_cases z:i=j
    .subst z;exact Int.le_refl _
    .have:i=0:=by omega
     have:j=1:=by omega
     subst i j;have:kv r (List.range n).toArray 1<kv r (List.range n).toArray 0:=dd;omega
theorem IF{p:Array Nat}{k:Nat}(pa:PAr n p)(hk:k<n)(hs:STo r p k):∀(f l q:Nat),l<=q->q<=k->q-l<=f->(∀i,i<l->kv r p i<=kv r p k)->(∀i,q<=i->i<k->kv r p k<kv r p i) ->
 PWp r n (kas_place p k f l q) λm=>m<=k/\(∀i,i<m->kv r p i<=kv r p k)/\∀i,m<=i->i<k->kv r p k<kv r p i
 |0,l,q,a,b,c,d,e=>⟨by omega,d,λi x y=>e i (by omega) y⟩
 |f+1,l,q,a,b,c,d,e=>by
  unfold kas_place;by_cases h:l>=q
  .rw[if_pos h];exact⟨by omega,d,λi x y=>e i (by omega) y⟩
  .rw[if_neg h];refine⟨pa.lt (by omega),pa.lt (by omega),?_⟩;by_cases g:r (p.getD k 0)<r (p.getD ((l+q)/2) 0)
   .rw[decide_eq_true g];dsimp only;rw[if_pos rfl];have g':kv r p k<kv r p ((l+q)/2):=g;refine IF pa hk hs f l ((l+q)/2) (by omega) (by omega) (by omega) d λi x y=>?_;have:=hs ((l+q)/2) i x y;omega
   .rw[decide_eq_false g];dsimp only;rw[if_neg Bool.false_ne_true];have g':kv r p ((l+q)/2)<=kv r p k:=by unfold kv;omega
    refine IF pa hk hs f ((l+q)/2+1) q (by omega) (by omega) (by omega) (λi x=>?_) e;have:=hs i ((l+q)/2) (by omega) (by omega);omega
def K1{p:Array Nat}{k d:Nat}(hk:k<p.size)(hd:d<=k)(i:Nat):kv r (bubble p k d) i=if i=k-d then kv r p k else if k-d<i/\i<=k then kv r p (i-1)else kv r p i:=by
 unfold kv;simp only[Array.getD_eq_getD_getElem?];rw[getElem?_bubble hk d hd];split
 .rfl
 .split<;>rfl
theorem Qe:∀(f:Nat) (p:Array Nat) (k:Nat),PAr n p->k+f=n->STo r p k->PWp r n (kas_bin f p k) λz=>PAr n z/\STo r z n
 | 0,p,k,pa,e,hs=>⟨pa,by
  have:k=n:=by omega
  subst this;exact hs⟩
 |f+1,p,k,pa,e,hs=>by
  have sz:=pa.size;refine PWp.bind ((IF pa (by omega) hs k 0 k (by omega) (by omega) (by omega) (λi h=>by omega) (λi a b=>by omega)).mono λm h=>?_);obtain⟨a,b,c⟩:=h;refine Qe f _ (k+1) ((bubble_perm _ _ _).trans pa) (by omega) λi j x y=>?_;rw[K1 (by omega) (by omega),K1 (by omega) (by omega)];have ek:k-(k-m)=m:=by omega
  rw[ek]
  repeat' split
  .exact Int.le_refl _
  .exact Int.le_of_lt (c _ (by omega) (by omega))
  .omega
  .exact b _ (by omega)
  .exact hs _ _ (by omega) (by omega)
  .omega
  .exact b _ (by omega)
  .exact hs _ _ (by omega) (by omega)
  .exact hs _ _ (by omega) (by omega)
def NA(h1:1<=n):PWp r n (kas_sort n) λp=>PAr n p/\STo r p n:=by
 refine PWp.bind ((Sr h1).mono λz h=>?_);obtain⟨a,b,c,d⟩:=h;by_cases e:z.1<n
 .rw[if_pos e];have:max z.1 1=z.1:=by omega
  rw[this];exact Qe _ _ _ a (by omega) d
 .rw[if_neg e];have:z.1=n:=by omega
  exact⟨a,this ▸ d⟩
end
def PairAt(h:Heap)(v:Value)(p:Int×Int):Prop:=∃(x:Addr) (o:Obj) (t u:Tok) (k:Nat),v=.ref x/\h.get? x=some o/\o.cls=.type "tuple"/\o.data=.seq #[.int p.1 t,.int p.2 u] k
def Aa(p:Int×Int):Int:=p.1*4000000000+p.2
def pok(p:Int×Int):Prop:=-1000000000<=p.1/\p.1<=1000000000/\-1000000000<=p.2/\p.2<=1000000000
section
variable{prog:Program}{w:World}{A:Around}{E:Value->Shared->Prop}{s:Shared}
def NW{x y:Value}{p q:Int×Int}{C:Bool->Shared->Prop}(hx:PairAt s.heap x p)(hy:PairAt s.heap y q)(op:pok p)(oq:pok q)(h:C (decide (Aa p<Aa q)) s):
 wpAny (model prog w) A (keyLt' (tuples' true) x y) C E s:=by
 obtain⟨a,o,t,u,k,rfl,ho,hc,hd⟩:=hx;obtain⟨a2,o2,t2,u2,k2,rfl,ho2,hc2,hd2⟩:=hy;obtain⟨p1,p2⟩:=p;obtain⟨q1,q2⟩:=q;unfold pok at op oq;unfold Aa at h;dsimp only at op oq h;refine kat_lt ho hd ho2 hd2 ?_;refine kat_cons (wpAny_eqBool_int ?_);by_cases e1:p1=q1
 .have b1:(p1==q1)=true:=by simp[e1]
  rw[b1];refine kat_yes (kat_cons (wpAny_eqBool_int ?_));by_cases e2:p2=q2
  .have b2:(p2==q2)=true:=by simp[e2]
   rw[b2];refine kat_yes (kat_nil ?_);have:decide (p1*4000000000+p2<q1*4000000000+q2)=false:=decide_eq_false (by omega);rw[this]at h;exact h
  .have b2:(p2==q2)=false:=by simp[e2]
   rw[b2];refine kat_no (kat_one _ _ (lt_int ?_));have:decide (p1*4000000000+p2<q1*4000000000+q2)=decide (p2<q2):=decide_eq_decide.mpr (by omega);rw[this]at h;exact h
 .have b1:(p1==q1)=false:=by simp[e1]
  rw[b1];refine kat_no (oneLt_int ?_);have:decide (p1*4000000000+p2<q1*4000000000+q2)=decide (p1<q1):=decide_eq_decide.mpr (by omega);rw[this]at h;exact h
theorem JJ{h:Heap}:∀{vs:List Value} {ps:List (Int×Int)},vs.length=ps.length->(∀(i:Nat) (v:Value) (p:Int×Int),vs[i]?=some v->ps[i]?=some p->PairAt h v p)->∃fs,KatTups h vs fs/\fs.length=vs.length/\∀f∈fs,∃i t,f=.int i t
 |[],[],_,_=>⟨[],.nil,rfl,λ_ z=>by cases z⟩
 |v::vs,p::ps,hl,hp=>by
  obtain⟨fs,a,b,c⟩:=JJ (vs:=vs) (ps:=ps) (by simpa using hl) λi v q e1 e2=>hp (i+1) v q (by simpa using e1) (by simpa using e2);obtain⟨x,o,t,u,k,rfl,ho,hc,hd⟩:=hp 0 v p rfl rfl;exact⟨.int p.1 t::fs,.cons ho hc hd rfl a,by simp[b],λf hf=>by
   rcases mem_cons.mp hf with rfl|hf
   .exact⟨_,_,rfl⟩
   .exact c f hf⟩
def EV(vs:List Value)(ps:List (Int×Int))(out:List Value):Prop:=∃zs:List (Value×(Int×Int)),zs.Perm (vs.zip ps)/\(zs.map λz=>Aa z.2).Pairwise (·<=·)/\out=zs.map (·.1)
def P6{vs:List Value}{ps:List (Int×Int)}(hl:vs.length=ps.length){p:Array Nat}(pa:PAr vs.length p)(hs:STo (λi=>Aa (ps.getD i (0,0))) p vs.length):EV vs ps (p.toList.map λi=>vs.getD i Value.none):=by
 have sz:=pa.size;refine⟨p.toList.map λi=>(vs.getD i Value.none,ps.getD i (0,0)),?_,?_,by rw[map_map];rfl⟩
 .have e:vs.zip ps=(List.range vs.length).map λi=>(vs.getD i Value.none,ps.getD i (0,0)):=by
   refine ext_getElem? λi=>?_;by_cases hi:i<vs.length
   .have hi2:i<ps.length:=by omega
    rw[(List.getElem?_zip_eq_some (z:=(vs[i],ps[i]))).mpr ⟨by simp[hi],by simp[hi2]⟩];simp[hi,hi2]
   .rw[List.getElem?_eq_none (by simp;omega),List.getElem?_eq_none (by simp;omega)]
  rw[e];have:=Array.perm_iff_toList_perm.mp pa;simpa using this.map _
 .rw[map_map,List.pairwise_iff_getElem];intro i j hi hj hij;simp only[length_map,Array.length_toList]at hi hj;have:=hs i j (by omega) (by omega);unfold kv at this;simpa [Array.getD,hi,hj]using this
def O4{a:Addr}{vs:List Value}{ps:List (Int×Int)}{n:Nat}{P:PySem.Fin->Shared->Prop}(ho:s.heap.get? a=some (seqObj "list" vs.toArray n))(hl:vs.length=ps.length)(h64:vs.length<64)(hok:∀p∈ps,pok p)
 (hp:∀(i:Nat) (v:Value) (p:Int×Int),vs[i]?=some v->ps[i]?=some p->PairAt (s.heap.update a (Obj.mapSeq λ_=>#[])) v p)
 (h:∀out:List Value,EV vs ps out->P (.done (.ret .none)) { s with heap:=sortedHeap s.heap a vs out.toArray }):
 wpAny (model prog w) A (Builtin.«list.sort» ⟨[.ref a],[]⟩) P E s:=by
 have ha:=Heap.lt_size ho;have line:vs.length<=sizeLine:=by rw[sizeLine_eq];omega
 obtain⟨e1,ho1⟩:∃e1,(s.heap.update a (Obj.mapSeq λ_=>#[])).get? a=some (seqObj "list" #[] e1):=⟨_,get?_update_seq ho _⟩
 rw[list_sort_plain];refine wpAny_bind (listItems_at ho rfl (wpAny_bind (listUpdate_at ho rfl (wpAny_bind (seqEpoch_at ho1 rfl (wpAny_bind (wpAny_newTuple (wpAny_bind (wpAny_newList (wpAny_holding ?_) (zero_le _))) line)))) (by rw[size_toArray];exact line) (zero_le _))));have grow:∀b o,(s.heap.update a (Obj.mapSeq λ_=>#[])).get? b=some o->(((s.heap.update a (Obj.mapSeq λ_=>#[])).push (seqObj "tuple" vs.toArray 0)).push (seqObj "list" #[] 0)).get? b=some o:=λb o e=>Heap.get?_push_of_some _ (Heap.get?_push_of_some _ e);have ho6:=grow _ _ ho1;generalize h6:((s.heap.update a (Obj.mapSeq λ_=>#[])).push (seqObj "tuple" vs.toArray 0)).push (seqObj "list" #[] 0)=hp6 at *;have done:∀out:List Value,EV vs ps out->P (.done (.ret .none)) { s with heap:=hp6.update a (Obj.mapSeq λ_=>out.toArray) }:=λout z=>by
  have:=h out z;unfold sortedHeap at this;rw[h6]at this;exact this
 show wpAny (model prog w) A _ P E { s with heap:=hp6 };dsimp only;have pairs6:∀(i:Nat) (v:Value) (p:Int×Int),vs[i]?=some v->ps[i]?=some p->PairAt hp6 v p:=λi v p x y=>by
  obtain⟨x',o,t,u,k,e,q,c,d⟩:=hp i v p x y;exact⟨x',o,t,u,k,e,grow _ _ q,c,d⟩
 by_cases h2:vs.toArray.size<2
 .rw[if_pos h2,if_pos h2];refine wpAny_bind (wpAny_pure ?_);rw[StateT.run_pure];refine wpAny_bind (wpAny_pure ?_);dsimp only;have hout:(arrOf (SortSt.mk' general' (vs.toArray.zip vs.toArray) #[] 7 none)).map (·.2)=vs.toArray:=by
   show(vs.toArray.zip vs.toArray).map (·.2)=vs.toArray;apply Array.toList_inj.mp;simp only[Array.toList_map,Array.toList_zip];exact map_snd_zip (le_refl _)
  rw[hout];refine wpAny_bind (seqEpoch_at ho6 rfl (wpAny_bind (listUpdate_at ho6 rfl ?_ (zero_le _) (by rw[size_toArray];omega))));simp only[bne_self_eq_false,Bool.false_eq_true,if_false];refine wpAny_pure (done vs ⟨vs.zip ps,.refl _,?_,?_⟩)
  .have hz:(vs.zip ps).length<2:=by simp at h2 ⊢;omega
   cases hh:vs.zip ps with
   |nil=>exact .nil
   |cons z r=>
    cases r with
    |nil=>exact List.pairwise_singleton _ _
    |cons y t=>rw[hh]at hz;exact absurd hz (by simp)
  .rw[List.map_fst_zip (by omega)]
 .rw[if_neg h2,if_neg h2];have h2':2<=vs.length:=by simp at h2;omega
  obtain⟨fs,t1,t2,t3⟩:=JJ hl pairs6;have tT:∀f∈fs,Looks (model prog w) hp6 (typeOf f) (Value.type "int"):=λf hf=>by
   obtain⟨i,t,rfl⟩:=t3 f hf;exact .of_pure rfl
  refine wpAny_bind (kat_kind (s:={ s with heap:=hp6 }) t1 (by omega) tT rfl ?_);have est:SortSt.mk' (tuples' true) (vs.toArray.zip vs.toArray) #[] 7 none=kas_st (tuples' true) (pairsOf vs) (List.toArray (List.range vs.length)):=by
   unfold kas_st;rw[<- pairsOf_size vs,kas_range];rfl
  have ask:(kas_sort vs.length).kasWp (kas_cmp prog w A (tuples' true) (pairsOf vs)) (λp s'=>s'={ s with heap:=hp6 }/\EV vs ps (p.toList.map λi=>vs.getD i Value.none)) { s with heap:=hp6 }:=by
   rw[<- kas_ask_eq];refine PWp.wp (n:=vs.length) (r:=λi=>Aa (ps.getD i (0,0))) (P:=λs'=>s'={ s with heap:=hp6 }) (λi j C s' hi hj e hC=>?_) ((NA (by omega)).mono λp z s' e=>⟨e,P6 hl z.1 z.2⟩) rfl;subst e;have pi:ps[i]?=some (ps.getD i (0,0)):=by simp[show i<ps.length by omega]
   have pj:ps[j]?=some (ps.getD j (0,0)):=by simp[show j<ps.length by omega]
   have vi:vs[i]?=some (vs.getD i Value.none):=by simp[hi]
   have vj:vs[j]?=some (vs.getD j Value.none):=by simp[hj]
   exact NW (s:={ s with heap:=hp6 }) (pairs6 i _ _ vi pi) (pairs6 j _ _ vj pj) (hok _ (mem_of_getElem? pi)) (hok _ (mem_of_getElem? pj)) (hC _ rfl)
  have run:=kas_runs (E:=E) (Q:=λ_ st' s'=>∃p:Array Nat,p.size=vs.length/\arrOf st'=p.map (kas_item (pairsOf vs))/\failedOf st'=none/\s'={ s with heap:=hp6 }/\EV vs ps (p.toList.map λi=>vs.getD i Value.none)) h2' h64 (λp st' s' x1 x2 x3 x4=>⟨p,x1,x2,x3,x4⟩) ask;rw[<- est]at run;refine wpAny_bind (wpAny_mono run ?_ λ_ _ e=>e);rintro⟨⟨⟩,st'⟩ s' ⟨p,hsz,har,hf,rfl,so⟩;dsimp only;have hout:(arrOf st').map (·.2)=(p.toList.map λi=>vs.getD i Value.none).toArray:=by
   rw[har];apply Array.toList_inj.mp;simp only[Array.toList_map,map_map];exact map_congr_left λi _=>congrArg Prod.snd (kas_item_eq vs i)
  rw[hout];refine wpAny_bind (seqEpoch_at ho6 rfl (wpAny_bind (listUpdate_at ho6 rfl ?_ (zero_le _) (by simp[hsz];omega))));rw[hf];simp only[bne_self_eq_false,Bool.false_eq_true,if_false];exact wpAny_pure (done _ so)
end
def PairAt.keep{h h':Heap}{v:Value}{p:Int×Int}(k:∀b o,h.get? b=some o->h'.get? b=some o)(q:PairAt h v p):PairAt h' v p:=by
 obtain⟨x,o,t,u,n,e,ho,c,d⟩:=q;exact⟨x,o,t,u,n,e,k _ _ ho,c,d⟩
section
variable{prog:Program}{w:World}{A:Around}{E:Value->Shared->Prop}{s:Shared}
def L7{l:Addr}{vs:List Value}{ps:List (Int×Int)}{Q:Value->Shared->Prop}(hl:s.heap.IsList l vs.toArray)(hlen:vs.length=ps.length)(h64:vs.length<64)(hok:∀p∈ps,pok p)
 (hp:∀(i:Nat) (v:Value) (p:Int×Int),vs[i]?=some v->ps[i]?=some p->PairAt s.heap v p)
 (h:∀out:List Value,EV vs ps out->Q (.ref (s.heap.objs.size+1)) { s with heap:=sortedAll s.heap vs out.toArray }):
 wpAny (model prog w) A (call (.builtin "sorted") [.ref l]) Q E s:=by
 have line:vs.length<=sizeLine:=by rw[sizeLine_eq];omega
 refine Calls.call_function_entry kind_sorted plain_sorted entry_sorted (args_sorted1 _) ?_;unfold Builtin.«sorted»;refine wpAny_bind (m:=checkCount "sorted" 1 1 _) (wpAny_pure (wpAny_bind (collect_list hl (wpAny_bind (wpAny_newList ?_ line)) line)));have sz:((s.heap.push (seqObj "list" #[] 0)).update s.heap.objs.size (Obj.mapSeq (·++vs.toArray))).objs.size=s.heap.objs.size+1:=by rw[Heap.size_update,size_push']
 have at1:(((s.heap.push (seqObj "list" #[] 0)).update s.heap.objs.size (Obj.mapSeq (·++vs.toArray))).push (seqObj "list" vs.toArray 0)).get? (s.heap.objs.size+1)=some (seqObj "list" vs.toArray 0):=by
  have:=Heap.get?_push_size ((s.heap.push (seqObj "list" #[] 0)).update s.heap.objs.size (Obj.mapSeq (·++vs.toArray))) (o:=seqObj "list" vs.toArray 0) rfl
  rwa [sz]at this
 have old:∀b o,s.heap.get? b=some o->((((s.heap.push (seqObj "list" #[] 0)).update s.heap.objs.size (Obj.mapSeq (·++vs.toArray))).push (seqObj "list" vs.toArray 0)).update (s.heap.objs.size+1) (Obj.mapSeq λ_=>#[])).get? b=some o:=λb o e=>by
  have lt:=Heap.lt_size e;rw[Heap.get?_update_ne _ _ _ _ (ne_of_lt (lt_succ_of_lt lt)),Heap.get?_push_ne _ _ _ (by rw[sz];exact ne_of_lt (lt_succ_of_lt lt)),Heap.get?_update_ne _ _ _ _ (ne_of_lt lt),Heap.get?_push_ne _ _ _ (ne_of_lt lt)];exact e
 show wpAny _ _ _ _ _ { s with heap:=((s.heap.push (seqObj "list" #[] 0)).update s.heap.objs.size (Obj.mapSeq (·++vs.toArray))).push (seqObj "list" vs.toArray 0) };rw[sz];refine wpAny_bind (wpAny_holding (wpAny_call_entry slot_list_sort ⟨_,at1,rfl⟩ entry_list_sort (O4 at1 hlen h64 hok (λi v p a b=>(hp i v p a b).keep old) λout z=>⟨_,rfl,?_⟩) (args_list_sort _)));exact wpAny_pure ⟨_,rfl,h out z⟩
end
section
variable(K:PySem.W.Frag){X:Cx}
def ID:List V->Hp->VK->Prop:=λxs H Q=>∃(a:Addr) (us:List V) (ps:List (Int×Int)),xs=[.ref a]/\SqL K H a us/\us.length=ps.length/\us.length<64/\(∀q∈ps,pok q)/\
 (∀(i:Nat) (u:V) (q:Int×Int),us[i]?=some u->ps[i]?=some q->∃x,u=.ref x/\SqT K H x [.int q.1,.int q.2])/\
 ∀(p:Addr) (zs:List (V×(Int×Int))),H p=none->zs.Perm (us.zip ps)->(zs.map λz=>Aa z.2).Pairwise (·<=·)->Q (.ref p) (upd H p (.lst (zs.map (·.1))))
def Fm:Value->V
 |.ref x=>.ref x
 |_=>.non
theorem Hw:∀{us:List V} {its:List Value} {i:Nat} {u:V},Vals us its->us[i]?=some u->∃v,its[i]?=some v/\RelV u v
 |_,_,_,_,.nil,h=>by simp at h
 |_::_,_::_,0,_,.cons r _,h=>by
  simp at h;subst h;exact⟨_,rfl,r⟩
 |_::_,_::_,i+1,_,.cons _ t,h=>Hw (i:=i) t (by simpa using h)
def MU(hK:X.K=K:=by rfl):CallR X (.builtin "sorted") (ID K):=by
 subst hK;intro pins s σ H xs us0 Q I r h;obtain⟨a,us,ps,rfl,hq,hlen,h64,hok,hpr,q⟩:=h;obtain⟨u,rfl,ru⟩:=By r;cases ru;obtain⟨its,rv,p,hz⟩:=I.list hq;have hl2:us.length=its.length:=rv.length;have point:∀(i:Nat) (v:Value) (q:Int×Int),its[i]?=some v->ps[i]?=some q->(∃x,us[i]?=some (.ref x)/\v=.ref x)/\PairAt s.heap v q:=by
  intro i v q e1 e2;have hi:i<us.length:=by rw[hl2];exact(List.getElem?_eq_some_iff.mp e1).1
  have eu:us[i]?=some us[i]:=by simp[hi]
  obtain⟨x,ex,sq⟩:=hpr i _ q eu e2;obtain⟨v',ev,rel⟩:=Hw rv eu;rw[e1]at ev;cases ev;rw[ex]at rel eu;have rel:v=Value.ref x:=rel;subst rel;refine⟨⟨x,eu,rfl⟩,?_⟩;obtain⟨jts,rj,⟨o,ho,hc,n,hd⟩,_⟩:=I.tuple sq;cases rj with
  |cons r1 t1=>
   cases t1 with
   |cons r2 t2=>
    cases t2;obtain⟨t,rfl⟩:=r1;obtain⟨t',rfl⟩:=r2;exact⟨x,o,t,t',n,rfl,ho,hc,hd⟩
 refine L7 (ps:=ps) p.isList (by omega) (by omega) hok (λi v q a b=>(point i v q a b).2) λout z=>?_;obtain⟨zs,pm,pw,rfl⟩:=z;obtain⟨e,he⟩:=sortedAll_at s.heap its (zs.map (·.1)).toArray;have mz:∀z∈zs,∃x,z.1=.ref x:=λz hz=>by
  have:=pm.mem_iff.mp hz;obtain⟨i,hi⟩:=mem_iff_getElem?.mp this;obtain⟨e1,e2⟩:=List.getElem?_zip_eq_some.mp hi;obtain⟨⟨x,_,ex⟩,_⟩:=point i _ _ e1 e2;exact⟨x,ex⟩
 have vz:∀{zs:List (Value×(Int×Int))},(∀z∈zs,∃x,z.1=.ref x)->Vals (zs.map λz=>Fm z.1) (zs.map (·.1)):=by
  intro zs
  induction zs with
  |nil=>intro _;exact .nil
  |cons z r ih=>
   intro h;obtain⟨x,ex⟩:=h z mem_cons_self;refine .cons ?_ (ih λy hy=>h y (mem_cons_of_mem _ hy));show RelV (Fm z.1) z.1;rw[ex];rfl
 have pm2:(zs.map λz=>(Fm z.1,z.2)).Perm (us.zip ps):=by
  have:=pm.map λz:Value×(Int×Int)=>(Fm z.1,z.2)
  have e:((its.zip ps).map λz:Value×(Int×Int)=>(Fm z.1,z.2))=us.zip ps:=by
   refine ext_getElem? λi=>?_;by_cases hi:i<us.length
   .have h1:i<its.length:=by omega
    have h2:i<ps.length:=by omega
    have e1:its[i]?=some its[i]:=by simp[h1]
    have e2:ps[i]?=some ps[i]:=by simp[h2]
    obtain⟨⟨x,ex,ev⟩,_⟩:=point i _ _ e1 e2;rw[List.getElem?_map,(List.getElem?_zip_eq_some (z:=(its[i],ps[i]))).mpr ⟨e1,e2⟩,(List.getElem?_zip_eq_some (z:=(V.ref x,ps[i]))).mpr ⟨ex,e2⟩,map_some,ev];rfl
   .rw[List.getElem?_eq_none (by simp;omega),List.getElem?_eq_none (by simp;omega)]
  rwa [e]at this
 have pw2:((zs.map λz=>(Fm z.1,z.2)).map λz:V×(Int×Int)=>Aa z.2).Pairwise (·<=·):=by rw[map_map];exact pw
 have fin:=q (s.heap.objs.size+1) _ (I.hok.fresh (le_succ _)) pm2 pw2;have em:(zs.map λz=>(Fm z.1,z.2)).map (·.1)=zs.map λz=>Fm z.1:=by rw[map_map];rfl
 rw[em]at fin;have zl:zs.length<64:=by rw[pm.length_eq];simp;omega
 refine⟨.ref (s.heap.objs.size+1),_,I.laid (a:=s.heap.objs.size+1) (o:=.lst (zs.map λz=>Fm z.1)) (t':=s.toks) (λb o hb=>sortedAll_old hb) (le_succ _) ⟨?_,_,e,vz mz,he⟩,rfl,fin⟩;rw[length_map];exact le_of_lt (Jp (by omega))
end
def B0(p:Int×Int):D:=.im (.tup [.int p.1,.int p.2])
def Cr:List D->Option (List (Int×Int))
 |[]=>some []
 |.im (.tup [.int a,.int b])::r=>(Cr r).map ((a,b)::·)
 |_=>none
def Gj:∀{ds:List D} {ps:List (Int×Int)},Cr ds=some ps->ds=ps.map B0:=by
 intro ds
 induction ds with
 |nil=>intro ps h;simp[Cr]at h;subst h;rfl
 |cons d r ih=>
  intro ps h;unfold Cr at h;split at h
  .next e=>cases e
  .next a b r' e=>
   cases e;obtain⟨qs,e1,rfl⟩:=c7 h;rw[ih e1];rfl
  .cases h
@[simp] theorem Iq(ps:List (Int×Int)):Cr (ps.map B0)=some ps:=by
 induction ps with
 |nil=>rfl
 |cons p r ih=>simp[Cr,B0]at ih ⊢;exact ih
def C7(ps:List (Int×Int)):List (Int×Int):=ps.mergeSort λa b=>decide (Aa a<=Aa b)
def Fi(ps:List (Int×Int)):(C7 ps).Perm ps:=mergeSort_perm ..
def GX(ps:List (Int×Int)):(C7 ps).Pairwise λa b=>Aa a<=Aa b:=by
 have:=pairwise_mergeSort (le:=λa b:Int×Int=>decide (Aa a<=Aa b)) (by intro a b c h1 h2;simp at *;omega) (by intro a b;simp;omega) ps;exact this.imp (by simp)
def SF{p q:Int×Int}(a:pok p)(b:pok q)(h:Aa p=Aa q):p=q:=by
 unfold pok at a b;unfold Aa at h;exact Prod.ext (by omega) (by omega)
open Classical in
def D7(m:MI):MA:=λls hd=>(m ls hd).bind λp=>(Cr p.1.1).bind λps=>if ps.length<64/\∀q∈ps,pok q then some ((C7 ps).map B0,p.2)else none
section
variable{K:PySem.W.Frag}{ρ:List Addr}{H:Hp}{hd:Hd}
def NI{p:Int×Int}{v:V}(h:RD K ρ H (B0 p) v):∃x,v=.ref x/\SqT K H x [.int p.1,.int p.2]:=by
 simp only[B0,RD,RI,RIs]at h;obtain⟨a,xs,rfl,q,x,r,rfl,rfl,y,r2,rfl,rfl,rfl⟩:=h;exact⟨a,rfl,q⟩
def OE{t:TE}{m:MI}(h:RRw K false t m):RN K (tCB (ID K) (B7 t Bv)) (D7 m):=by
 and_intros;obtain⟨⟨⟨d1,g1⟩,h1⟩,e1,hm⟩:=c5 hm;obtain⟨ps,e2,hm⟩:=c5 hm;split at hm
 .next c=>
  cases hm;refine h ρ σ H hd ls _ d1 g1 _ hR hL e1 λρ1 H1 a x1 R1 G1 S1=>?_;obtain⟨xs,q,r⟩:=S1 ρ1 H1 _ .refl R1 G1;have e2:Cr d1=some ps:=e2;rw[Gj e2]at r;have hl:xs.length=ps.length:=by simpa using r.len
  have each:∀(i:Nat) (u:V) (q:Int×Int),xs[i]?=some u->ps[i]?=some q->RD K ρ1 H1 (B0 q) u:=λi u q a b=>by
   obtain⟨x,e,z⟩:=r.get (i:=i) (d:=B0 q) (by simp[b]);rw[a]at e;cases e;exact z
  refine⟨a,xs,ps,rfl,q,hl,by rw[hl];exact c.1,c.2,λi u q a b=>NI (each i u q a b),λp zs hp pm pw=>?_⟩;have es:zs.map (·.2)=C7 ps:=by
   have pp:(zs.map (·.2)).Perm ps:=by
    have:=pm.map (λz:V×(Int×Int)=>z.2)
    rwa [map_snd_zip (by omega)]at this
   refine(pp.trans (Fi ps).symm).eq_of_pairwise (le:=λa b=>Aa a<=Aa b) (λx y hx hy l1 l2=>SF (c.2 _ (pp.mem_iff.mp hx)) (c.2 _ ((Fi ps).mem_iff.mp hy)) (Int.le_antisymm l1 l2)) ?_ (GX ps);rw[pairwise_map]at pw ⊢;exact pw
  obtain⟨R2,x2⟩:=R1.hid (ho:=.lst (zs.map (·.1))) hp;have all:∀z∈zs,RD K ρ1 H1 (B0 z.2) z.1:=λz hz=>by
   obtain⟨i,hi⟩:=mem_iff_getElem?.mp (pm.mem_iff.mp hz);obtain⟨a1,a2⟩:=List.getElem?_zip_eq_some.mp hi;exact each i _ _ a1 a2
  have rd:∀{zs:List (V×(Int×Int))},(∀z∈zs,RD K ρ1 H1 (B0 z.2) z.1)->RDs K ρ1 H1 ((zs.map (·.2)).map B0) (zs.map (·.1)):=by
   intro zs
   induction zs with
   |nil=>intro _;exact .nil
   |cons z r ih=>intro h;exact .cons (h z mem_cons_self) (ih λy hy=>h y (mem_cons_of_mem _ hy))
  have rz:=rd all;rw[es]at rz;exact hQ ρ1 _ p _ (x1.trans R1 x2) R2 (x1.none hR hp R1) (R1.out hp) AM (rz.ext R1 x2)
 .cases hm
open Classical in
def YV:D->List D->Hd->Option (D×Hd)
 |.mu n,[.im (.int i)],hd=>match hd[n]? with
  |some (.lst ds)=>if JT i then(ixN ds.length i).bind λk=>(ds[k]?).map λy=>(y,hd.set n (.lst (ds.eraseIdx k)))else none
  |_=>none
 |_,_,_=>none
end
section
variable(K:PySem.W.Frag){X:Cx}{e:Expr}{te:TE}{p pos:Pos}
def OL{mi:MI}(hm:X.mg "sorted"=none)(ha:QR K false X e te mi)(hg:Gl X "sorted":=by rfl)(he:starEach [e] X.env=[(false,eval e X.env)]:=by rfl)(hK:X.K=K:=by rfl):QN K X (.Call (.Name "sorted" p) [e] [] pos) (tCB (ID K) (B7 te Bv)) (D7 mi):=
 ⟨Fq (MU K hK) hg hm HE (Bi ha.p CI he) (by decide) (by decide) he rfl,OE ha.r⟩
end
section
variable{ls:Ls}{hd:Hd}
open Classical in
@[simp] theorem aT(k:Nat)(i:Int):YV (.mu k) [.im (.int i)] hd=match hd[k]? with
 |some (.lst ds)=>if JT i then(ixN ds.length i).bind λj=>(ds[j]?).map λy=>(y,hd.set k (.lst (ds.eraseIdx j)))else none
 |_=>none:=rfl
open Classical in
@[simp] theorem Zj(mi:MI):D7 mi ls hd=(mi ls hd).bind λp=>(Cr p.1.1).bind λps=>if ps.length<64/\∀q∈ps,pok q then some ((C7 ps).map B0,p.2)else none:=rfl
end
end L2
namespace L2
open PySem PySem.Spec PyProof.Rows
def WP{α:Type}(o:Option (α×Hd))(Q:α->Hd->Prop):Prop:=∃z h,o=some (z,h)/\Q z h
abbrev WS(m:MS)(ls:Ls)(hd:Hd)(Q:Fl->Hd->Prop):Prop:=WP (m ls hd) Q
abbrev WE(m:ME)(ls:Ls)(hd:Hd)(Q:D->Hd->Prop):Prop:=WP (m ls hd) Q
abbrev WT(m:MT)(ls:Ls)(hd:Hd)(Q:Bool->Hd->Prop):Prop:=WP (m ls hd) Q
abbrev WA(m:MA)(ls:Ls)(hd:Hd)(Q:List D->Hd->Prop):Prop:=WP (m ls hd) Q
abbrev WI(m:MI)(ls:Ls)(hd:Hd)(Q:List D×Gd->Hd->Prop):Prop:=WP (m ls hd) Q
abbrev WF(F:List D->Hd->Option (D×Hd))(ds:List D)(hd:Hd)(Q:D->Hd->Prop):Prop:=WP (F ds hd) Q
section
variable{α β:Type}{o:Option (α×Hd)}{Q:α->Hd->Prop}{R:β->Hd->Prop}{ls:Ls}{hd:Hd}{d e:D}
theorem WP.some{z:α}{h:Hd}(q:Q z h):WP (some (z,h)) Q:=⟨z,h,rfl,q⟩
def WP.mono{Q':α->Hd->Prop}(h:WP o Q)(k:∀z h,Q z h->Q' z h):WP o Q':=let ⟨z,x,e,q⟩:=h;⟨z,x,e,k z x q⟩
theorem WP.bind{f:α×Hd->Option (β×Hd)}(h:WP o λz x=>WP (f (z,x)) R):WP (o.bind f) R:=by
 obtain⟨z,x,e,q⟩:=h;rw[e];exact q
def WP.eq{z:α}{h:Hd}(e:o=Option.some (z,h))(q:Q z h):WP o Q:=⟨z,h,e,q⟩
end
section
variable{ls:Ls}{hd:Hd}{a b:MS}{ma mb mc:ME}{ta tb:MT}{m m1 m2:MA}{n:MG}{ns:MGs}{mi:MI}{d e:D}{i j:Nat}{QS:Fl->Hd->Prop}{QE:D->Hd->Prop}{QT:Bool->Hd->Prop}{QA:List D->Hd->Prop}{QO:Option Int->Hd->Prop}{QI:List D×Gd->Hd->Prop}
def T8(b:MS)(Q:Fl->Hd->Prop):Fl->Hd->Prop
 |.nx l,h=>WS b l h Q
 |f,h=>Q f h
def A8(h:WS a ls hd (T8 b QS)):WS (AD a b) ls hd QS:=by
 obtain⟨f,x,e,q⟩:=h;show WP (AD a b ls hd) QS;rw[QJ,e];cases f<;>first|exact q|exact⟨_,_,rfl,q⟩
def A6{l:Ls}{h:Hd}(q:WS b l h QS):T8 b QS (.nx l) h:=q
def AL(h:QS (.nx ls) hd):WS AY ls hd QS:=⟨_,_,rfl,h⟩
def AT(h:WE ma ls hd λd x=>QS (.rt d) x):WS (AR ma) ls hd QS:=WP.bind (h.mono λ_ _ q=>WP.some q)
def AO(h:WE ma ls hd λd x=>QS (.nx (ls.set i (some d))) x):WS (AQ i ma) ls hd QS:=by
 obtain⟨d,x,e,q⟩:=h;exact⟨_,_,by simp only[MD,e,bind_some,Nb,map_some],q⟩
def Kr(h:WE ma ls hd λd x=>∃l,n d ls x=some l/\QS (.nx l) x):WS (Gp ma n) ls hd QS:=by
 obtain⟨d,x,e,l,e2,q⟩:=h;exact⟨_,_,by simp only[MD,e,bind_some,e2,map_some],q⟩
def BS(h:WE ma ls hd λ_ x=>QS (.nx ls) x):WS (BU ma) ls hd QS:=WP.bind (h.mono λ_ _ q=>WP.some q)
def Yt(h:WT ta ls hd λc x=>if c=true then WS a ls x QS else WS b ls x QS):WS (Aj ta a b) ls hd QS:=by
 refine WP.bind (h.mono λc x q=>?_);dsimp only;cases c<;>simpa using q
def AN(h:WT ta ls hd λc x=>(c=true->WS a ls x QS)/\(c=false->WS b ls x QS)):WS (Aj ta a b) ls hd QS:=
 Yt (h.mono λc x q=>by cases c<;>simp_all)
def WL(n:MG)(b:MS)(g:Gd)(ds:List D)(ls:Ls)(hd:Hd)(Q:Fl->Hd->Prop):Prop:=WP (B8 n b g ds ls hd) Q
def BQ(h:WI mi ls hd λp x=>WL n b p.2 p.1 ls x QS):WS (Bp mi n b) ls hd QS:=WP.bind (h.mono λ_ _ q=>q)
def Yw(g:Gd)(P:Ls->Hd->Prop)(Q:Fl->Hd->Prop):Fl->Hd->Prop
 |.nx l,h=>GOk h g/\P l h
 |.ct l,h=>GOk h g/\P l h
 |.bk l,h=>Q (.nx l) h
 |.rt d,h=>Q (.rt d) h
theorem BD{g:Gd}(P:List D->Ls->Hd->Prop):∀{ds:List D} {ls:Ls} {hd:Hd},P ds ls hd ->
 (∀d r ls hd,P (d::r) ls hd->∃ls1,n d ls hd=some ls1/\WS b ls1 hd (Yw g (P r) QS))->(∀ls hd,P [] ls hd->QS (.nx ls) hd)->WL n b g ds ls hd QS
 |[],ls,hd,h,_,z=>⟨_,_,by unfold B8;rfl,z _ _ h⟩
 |d::r,ls,hd,h,k,z=>by
  obtain⟨ls1,e1,f,x,e2,q⟩:=k d r ls hd h;unfold WL;unfold B8;rw[e1,bind_some,e2,bind_some];cases f with
  |nx l=>exact(show GOk x g/\P r l x from q).1 |> λg1=>by dsimp only;rw[if_pos g1];exact BD P q.2 k z
  |ct l=>exact(show GOk x g/\P r l x from q).1 |> λg1=>by dsimp only;rw[if_pos g1];exact BD P q.2 k z
  |bk l=>exact⟨_,_,rfl,q⟩
  |rt l=>exact⟨_,_,rfl,q⟩
def A1(h:ls[i]?=some (some d))(q:QE d hd):WE (A0 i) ls hd QE:=⟨d,hd,by rw[QH,h],q⟩
def AG{i:I}(q:QE (.im i) hd):WE (mC i) ls hd QE:=⟨_,_,rfl,q⟩
def A7{f:D->D->Hd->Option (D×Hd)}(h:WE ma ls hd λd x=>WE mb ls x λe y=>WP (f d e y) QE):WE (mOp f ma mb) ls hd QE:=WP.bind (h.mono λ_ _ q=>WP.bind (q.mono λ_ _ q=>q))
def T5(h:WT ta ls hd λc x=>if c=true then WE ma ls x QE else WE mb ls x QE):WE (mIf ta ma mb) ls hd QE:=by
 refine WP.bind (h.mono λc x q=>?_);dsimp only;cases c<;>simpa using q
def W2(h:WT ta ls hd λc x=>(c=true->WE ma ls x QE)/\(c=false->WE mb ls x QE)):WE (mIf ta ma mb) ls hd QE:=
 T5 (h.mono λc x q=>by cases c<;>simp_all)
def B5(h:WA m ls hd λds x=>CF ds.length/\QE (AV ds) x):WE (Ad m) ls hd QE:=WP.bind (h.mono λds x q=>by dsimp only;rw[if_pos q.1];exact WP.some q.2)
def Ba(h:WA m ls hd λds x=>QE (.mu x.length) (x++[.lst ds])):WE (B3 m) ls hd QE:=WP.bind (h.mono λ_ _ q=>WP.some q)
def Bl{g:List D->Option D}(h:WA m ls hd λds x=>∃d,g ds=some d/\QE d x):WE (BB g m) ls hd QE:=by
 obtain⟨ds,x,e,d,e2,q⟩:=h;exact⟨d,x,by simp only[Yh,e,bind_some,e2,map_some],q⟩
def Oz(h:WA m ls hd λds x=>WE ma ls x λe y=>∃i d,e=.im (.int i)/\atI ds i=some d/\QE d y):WE (IK m ma) ls hd QE:=by
 obtain⟨ds,x,e,d,y,e2,i,z,rfl,e4,q⟩:=h;exact⟨z,y,by simp only[Yc,e,bind_some,e2,e4,map_some],q⟩
def B6{f:List D->Hd->Option (D×Hd)}(h:WA m ls hd λds x=>WP (f ds x) QE):WE (mCB f m) ls hd QE:=WP.bind (h.mono λ_ _ q=>q)
def IX{f:D->List D->Hd->Option (D×Hd)}(h:WE ma ls hd λd x=>(∃l,Ak x d=some l)/\WA m ls x λds y=>WP (f d ds y) QE):WE (mMt f ma m) ls hd QE:=by
 obtain⟨d,x,e,⟨l,hl⟩,q⟩:=h;unfold WE;rw[Zk,e,bind_some];dsimp only;rw[hl];exact WP.bind (q.mono λ_ _ q=>q)
def EY{F:List D->Hd->Option (D×Hd)}(h:WA m ls hd λds x=>WF F ds x QE):WE (CJ F m) ls hd QE:=WP.bind (h.mono λ_ _ q=>q)
def FQ(h:WE ma ls hd λd x=>∃i,d=.im (.int i)/\QE (.im (.int (-i))) x):WE (DZ ma) ls hd QE:=by
 obtain⟨d,x,e,i,rfl,q⟩:=h;exact⟨_,x,by simp only[Yb,e,bind_some],q⟩
def DV(h:WT (AF ma) ls hd λc x=>if c=true then WE mb ls x QE else QE (.im (.bl false)) x):WE (D0 ma mb) ls hd QE:=by
 refine WP.bind (h.mono λc x q=>?_);dsimp only;cases c
 .exact WP.some (by simpa using q)
 .simpa using q
def Oy(h:WT (AF ma) ls hd λc x=>if c=true then QE (.im (.bl true)) x else WE mb ls x QE):WE (IJ ma mb) ls hd QE:=by
 refine WP.bind (h.mono λc x q=>?_);dsimp only;cases c
 .simpa using q
 .exact WP.some (by simpa using q)
def JG(h:WT (AF ma) ls hd λc x=>QE (.im (.bl (!c))) x):WE (F6 ma) ls hd QE:=WP.bind (h.mono λ_ _ q=>WP.some q)
def AI(h:WE ma ls hd λd x=>∃b,d=.im (.bl b)/\QT b x):WT (AF ma) ls hd QT:=by
 obtain⟨d,x,e,b,rfl,q⟩:=h;exact⟨b,x,by simp only[Vl,e,bind_some],q⟩
def Af(h:WE ma ls hd λd x=>∃b,Cn x d=some b/\QT b x):WT (B2 ma) ls hd QT:=by
 obtain⟨d,x,e,b,e2,q⟩:=h;exact⟨b,x,by simp only[YY,e,bind_some,e2,map_some],q⟩
def BI(h:WT ta ls hd λc x=>QT (!c) x):WT (Bw ta) ls hd QT:=WP.bind (h.mono λ_ _ q=>WP.some q)
def Dw(h:WT ta ls hd λc x=>if c=true then WT tb ls x QT else QT false x):WT (Co ta tb) ls hd QT:=by
 refine WP.bind (h.mono λc x q=>?_);dsimp only;cases c
 .exact WP.some (by simpa using q)
 .simpa using q
def Cy(h:WT ta ls hd λc x=>if c=true then QT true x else WT tb ls x QT):WT (mOr ta tb) ls hd QT:=by
 refine WP.bind (h.mono λc x q=>?_);dsimp only;cases c
 .simpa using q
 .exact WP.some (by simpa using q)
def BH(h:QT true hd):WT BE ls hd QT:=⟨_,_,rfl,h⟩
def A4(h:QA [] hd):WA A5 ls hd QA:=⟨_,_,rfl,h⟩
def A3(h:WE ma ls hd λd x=>WA m ls x λds y=>QA (d::ds) y):WA (A2 ma m) ls hd QA:=WP.bind (h.mono λ_ _ q=>WP.bind (q.mono λ_ _ q=>WP.some q))
def DC(h:WA m ls hd λds x=>CF ds.length/\QA ds x):WA (CZ m) ls hd QA:=WP.bind (h.mono λds x q=>by dsimp only;rw[if_pos q.1];exact WP.some q.2)
def JF(h:WA m ls hd λds x=>∃k,ds=[.im (.int k)]/\JT k/\QI (Ar 0 k.toNat,[]) x):WI (DG m) ls hd QI:=by
 obtain⟨ds,x,e,k,rfl,c,q⟩:=h;exact⟨_,x,by simp only[Yd,e,bind_some,c,if_true],q⟩
def BG(h:WE ma ls hd λd x=>∃ds,AW d=some ds/\QI (ds,[]) x):WI (Ap ma) ls hd QI:=by
 obtain⟨d,x,e,ds,e2,q⟩:=h;exact⟨_,x,by simp only[QK,e,bind_some,e2,map_some],q⟩
def aB(h:WA m ls hd λds x=>QI (ds,[]) x):WI (EA m) ls hd QI:=by
 obtain⟨ds,x,e,q⟩:=h;exact⟨_,x,by simp only[Yg,e,map_some],q⟩
def Hv(h:WE ma ls hd λd x=>∃k ds,d=.mu k/\x[k]?=some (.lst ds)/\QI (ds,[(k,ds)]) x):WI (CS ma) ls hd QI:=by
 obtain⟨d,x,e,k,ds,rfl,e2,q⟩:=h;exact⟨_,x,by simp only[Ye,e,bind_some,e2],q⟩
def Ao{k:Nat}{ix:List Nat}(h:WI mi ls hd λp x=>CF p.1.length/\WP (Az n ta ma p.2 p.1 (EL k ix ls) x) QA):WA (Ac k ix mi n ta ma) ls hd QA:=WP.bind (h.mono λp x q=>by dsimp only;rw[if_pos q.1];exact q.2)
def Bk{i j:Int}(q:QE (.im (.int (i+j))) hd):WP (Aq (.im (.int i)) (.im (.int j)) hd) QE:=⟨_,_,by simp,q⟩
def CV{i j:Int}(q:QE (.im (.int (i-j))) hd):WP (BV (.im (.int i)) (.im (.int j)) hd) QE:=⟨_,_,by simp,q⟩
def Ks{i j:Int}(c:F4 i j)(q:QE (.im (.int (i*j))) hd):WP (El (.im (.int i)) (.im (.int j)) hd) QE:=⟨_,_,by simp[c],q⟩
def T4{i j:Int}(q:QE (.im (.bl (decide (i<j)))) hd):WP (gLt (.im (.int i)) (.im (.int j)) hd) QE:=⟨_,_,by simp,q⟩
def IW{i j:Int}(q:QE (.im (.bl (decide (i<=j)))) hd):WP (gLe (.im (.int i)) (.im (.int j)) hd) QE:=⟨_,_,by simp,q⟩
def Ex{i j:Int}(q:QE (.im (.bl (decide (j<i)))) hd):WP (gGt (.im (.int i)) (.im (.int j)) hd) QE:=⟨_,_,by simp,q⟩
def Yu{i j:Int}(q:QE (.im (.bl (decide (j<=i)))) hd):WP (gGe (.im (.int i)) (.im (.int j)) hd) QE:=⟨_,_,by simp,q⟩
def EX{i j:Int}(q:QE (.im (.bl (decide (i=j)))) hd):WP (gEq (.im (.int i)) (.im (.int j)) hd) QE:=⟨_,_,by simp,q⟩
def FP{i j:Int}(q:QE (.im (.bl (!decide (i=j)))) hd):WP (gNe (.im (.int i)) (.im (.int j)) hd) QE:=⟨_,_,by simp,q⟩
def Vz{i j:Str}(q:QE (.im (.bl (decide (i=j)))) hd):WP (gEq (.im (.str i)) (.im (.str j)) hd) QE:=⟨_,_,by simp,q⟩
def Ox{i j:Str}(q:QE (.im (.bl (!decide (i=j)))) hd):WP (gNe (.im (.str i)) (.im (.str j)) hd) QE:=⟨_,_,by simp,q⟩
def AH{i:Int}{ds:List D}(e1:Ax hd d=some ds)(e2:atI ds i=some e)(q:QE e hd):WP (gIx d (.im (.int i)) hd) QE:=⟨_,_,by rw[Zl,e1,bind_some,e2];rfl,q⟩
def Tl{i j:Int}(q:QE (.im (.int (max i j))) hd):WP (G8 [.im (.int i),.im (.int j)] hd) QE:=⟨_,_,rfl,by have:(if j>i then j else i)=max i j:=(by split<;>omega);rw[this];exact q⟩
def BC{tp:Bool}{g:List D->Option D}{ds:List D}{z:D}(e1:(if tp then Ax hd d else Ak hd d)=some ds)(e2:g ds=some z)(q:QE z hd):WP (f1 tp g [d] hd) QE:=⟨_,_,by rw[Zm,e1,bind_some,e2];rfl,q⟩
def GT{k:Nat}{x:D}{ds:List D}(e1:hd[k]?=some (.lst ds))(c:G7 ds.length)(q:QE (.im .non) (hd.set k (.lst (ds++[x])))):WP (Bj (.mu k) [x] hd) QE:=⟨_,_,by rw[Yj,e1];simp only[c,if_true],q⟩
def N2(h:WE mc ls hd λp x=>WE ma ls x λq y=>WE mb ls y λr z=>∃w i j ds,q=.mu w/\r=.im (.int i)/\z[w]?=some (.lst ds)/\ixN ds.length i=some j/\QS (.nx ls) (z.set w (.lst (ds.set j p)))):WS (Dk ma mb mc) ls hd QS:=by
 obtain⟨p,x,e1,q,y,e2,r,z,e3,w,i,j,ds,rfl,rfl,e5,c,qq⟩:=h;exact⟨_,_,by simp only[Vm,e1,bind_some,e2,e3,e5,c,map_some],qq⟩
def Ab{k n:Nat}{m:MS}{ds:List D}{Q:D->Hd->Prop}(hl:ds.length=k)(h:WS m (ds.map some++List.replicate (n-k) none) hd λf x=>match f with
 |.rt d=>Q d x
 |.nx _=>Q (.im .non) x
 | _=>False):WF (mkF k n m) ds hd Q:=by
 obtain⟨f,x,e,q⟩:=h;unfold WF mkF;rw[if_pos hl,e];cases f with
 |nx l=>exact⟨_,_,rfl,q⟩
 |rt l=>exact⟨_,_,rfl,q⟩
 |bk l=>exact q.elim
 |ct l=>exact q.elim
def AE{F:List D->Hd->Option (D×Hd)}(h:WA m ls hd λds x=>B4 0 ds=true/\WF F ds [] λd _=>∃i,d=.im i/\QE (.im i) x):WE (AA 0 F m) ls hd QE:=by
 obtain⟨ds,x,e,c,d,y,e2,i,rfl,q⟩:=h;exact⟨_,_,Qd e c e2,q⟩
end
structure Tap(T:Nat->MO->MO->Prop)(P:List D->Hd->Option (D×Hd)):Prop where
 cl:∀{k:Nat} {a b:MO},T k a b->clO 2 a=true/\clO 2 b=true
 le:∀{j k:Nat} {a b:MO},T k a b->j<=k->T j a b
 pick:∀{k:Nat} {a b:MO} {many:Int},T (k+1) a b->0<many->many<1073741824->∃r a' b',0<=r/\r<many/\P [.mu 1,.im (.int many)] [a,b]=some (.im (.int r),[a',b'])/\T k a' b'
section
variable{T:Nat->MO->MO->Prop}{P:List D->Hd->Option (D×Hd)}{a b:MO}{rest:Hd}{ls:Ls}{m:MA}{QE:D->Hd->Prop}{n c:Nat}
def Tap.draw(t:Tap T P)(hT:T (n+1) a b){many:Int}{hd:Hd}(e:m ls hd=some ([.mu 1,.im (.int many)],a::b::rest))(h0:0<many)(h1:many<1073741824)
 (k:∀r a' b',T n a' b'->0<=r->r<many->QE (.im (.int r)) (a'::b'::rest)):WE (AA 2 P m) ls hd QE:=by
 obtain⟨r,a',b',p1,p2,e2,hT'⟩:=t.pick hT h0 h1;refine⟨_,_,MY (w:=2) (ds:=[.mu 1,.im (.int many)]) (pre:=[a,b]) (pre':=[a',b']) (rest:=rest) (g:=[]) rfl rfl e (by simp) ?_ ?_ (by simpa using e2),k r a' b' hT' p1 p2⟩
 .simp[t.cl hT]
 .simp[t.cl hT']
end
mutual
theorem MP{v w:Nat}(h:v<=w):∀{d:D},clD v d=true->clD w d=true
 |.im i,_=>by simp
 |.mu n,c=>by simp at c ⊢;omega
 |.tm ds,c=>by rw[clD]at c ⊢;exact E6 h c
 |.ro ns,_=>by rw[clD]
 |.op _ _ ds,c=>by rw[clD]at c ⊢;exact E6 h c
 |.fv _ ds,c=>by rw[clD]at c ⊢;exact E6 h c
theorem E6{v w:Nat}(h:v<=w):∀{ds:List D},B4 v ds=true->B4 w ds=true
 |[],_=>by simp
 |d::ds,c=>by
  simp only[QY,Bool.and_eq_true]at c ⊢;exact⟨MP h c.1,E6 h c.2⟩
end
theorem K9{v w:Nat}(h:v<=w):∀{ds:List (Key×D)},FO v ds=true->FO w ds=true
 |[],_=>by simp[FO]
 |d::ds,c=>by
  simp only[FO,Bool.and_eq_true]at c ⊢;exact⟨MP h c.1,K9 h c.2⟩
def Sv{v w:Nat}(h:v<=w){o:MO}(c:clO v o=true):clO w o=true:=by
 cases o with
 |lst ds=>exact E6 h c
 |dic ds=>exact K9 h c
section
variable{T:Nat->MO->MO->Prop}{P:List D->Hd->Option (D×Hd)}{a b:MO}{rest:Hd}{ls:Ls}{m:MA}{QE:D->Hd->Prop}
def Tap.callX(t:Tap T P){n c:Nat}(hT:T (n+c) a b)(ex:Hd){w:Nat}{F:List D->Hd->Option (D×Hd)}{as:List D}{hd:Hd}{R:I->Prop}(e:m ls hd=some (.mu 1::as,a::b::(ex++rest)))(hw:w=ex.length+2)(ha:B4 w as=true)(hx:ex.all (clO w)=true)
 (hF:∀a b,T (n+c) a b->WF F (.mu 1::as) (a::b::ex) λd x=>∃i a' b' g,d=.im i/\R i/\T n a' b'/\x=a'::b'::(ex++g))
 (k:∀i a' b',T n a' b'->R i->QE (.im i) (a'::b'::(ex++rest))):WE (AA w F m) ls hd QE:=by
 subst hw;have hcl:∀o,clO 2 o=true->clO (ex.length+2) o=true:=λo h=>Sv (by omega) h;obtain⟨d,x,e2,i,a',b',g,rfl,hR,hT',rfl⟩:=hF a b hT;refine⟨_,_,MY (w:=ex.length+2) (ds:=.mu 1::as) (pre:=a::b::ex) (pre':=a'::b'::ex) (rest:=rest) (g:=g) rfl rfl e (by simp[ha]) ?_ ?_ e2,k i a' b' hT' hR⟩
 .simp[hcl _ (t.cl hT).1,hcl _ (t.cl hT).2];simpa using hx
 .simp[hcl _ (t.cl hT').1,hcl _ (t.cl hT').2];simpa using hx
def Tap.call(t:Tap T P){n c:Nat}(hT:T (n+c) a b){F:List D->Hd->Option (D×Hd)}{as:List D}{hd:Hd}{R:I->Prop}(e:m ls hd=some (.mu 1::as,a::b::rest))(ha:B4 2 as=true)
 (hF:∀a b,T (n+c) a b->WF F (.mu 1::as) [a,b] λd x=>∃i a' b' g,d=.im i/\R i/\T n a' b'/\x=a'::b'::g)
 (k:∀i a' b',T n a' b'->R i->QE (.im i) (a'::b'::rest)):WE (AA 2 F m) ls hd QE:=
 t.callX hT [] (w:=2) e rfl ha rfl hF k
end
end L2
namespace L2
open PySem PySem.Spec PyProof.Rows
section
variable{ls:Ls}{hd:Hd}{b:MS}{c:MT}{Q:Fl->Hd->Prop}{QE:D->Hd->Prop}
def Yv(P:Ls->Hd->Prop)(Q:Fl->Hd->Prop):Fl->Hd->Prop
 |.nx l,h=>P l h
 |.ct l,h=>P l h
 |.bk l,h=>Q (.nx l) h
 |.rt d,h=>Q (.rt d) h
def Ql(P:Nat->Ls->Hd->Prop){n:Nat}(h:P n ls hd)
 (k:∀n ls hd,P n ls hd->WT c ls hd λt x=>if t=true then WS b ls x (Yv (λl y=>∃m,m<n/\P m l y) Q)else Q (.nx ls) x):WS (Ei c b) ls hd Q:=by
 have go:∀n ls hd,P n ls hd->∃j r,BJ c b j ls hd=some r/\Q r.1 r.2:=by
  intro n
  induction n using Nat.strongRecOn with
  |ind n ih=>
   intro ls hd h;obtain⟨t,x,e1,q⟩:=k n ls hd h;cases t with
   |false=>
    rw[if_neg Bool.false_ne_true]at q;exact⟨1,(.nx ls,x),by unfold BJ;rw[e1];rfl,q⟩
   |true=>
    rw[if_pos rfl]at q;obtain⟨f,y,e2,q⟩:=q;cases f with
    |nx l=>
     obtain⟨m,hm,p⟩:=q;obtain⟨j,r,e3,q3⟩:=ih m hm l y p;exact⟨j+1,r,by unfold BJ;rw[e1,bind_some,if_pos rfl,e2];exact e3,q3⟩
    |ct l=>
     obtain⟨m,hm,p⟩:=q;obtain⟨j,r,e3,q3⟩:=ih m hm l y p;exact⟨j+1,r,by unfold BJ;rw[e1,bind_some,if_pos rfl,e2];exact e3,q3⟩
    |bk l=>exact⟨1,(.nx l,y),by unfold BJ;rw[e1,bind_some,if_pos rfl,e2];rfl,q⟩
    |rt d=>exact⟨1,(.rt d,y),by unfold BJ;rw[e1,bind_some,if_pos rfl,e2];rfl,q⟩
 obtain⟨j,⟨f,x⟩,e,q⟩:=go n ls hd h;exact⟨f,x,Q3 e,q⟩
end
end L2
namespace Bd
open PySem L2
@[reducible] def HR:MS:=(AD (AQ 2 (B3 (Ac 1 [] (Ap (A0 0)) (AB 0) BE (mC (.int 0)))))
 (AD (Bp (Ap (A0 1)) (B9 3 (AJ (AB 3) (AJ (AB 4) (AJ (AB 5) BA))))
  (Dk (A0 2) (A0 3) (A0 5)))
 (AR (mCB (f1 true C4) (A2 (A0 2) A5)))))
def F_ends_of:List D->Hd->Option (D×Hd):=mkF 2 6 HR
structure Tp where
 cells:List Int
 nx:Int
 lf:Int
 tn:Int
def Ke(t:Tp):List (Key×D):=[(.inr "cells",.mu 0),(.inr "next",.im (.int t.nx)),(.inr "left",.im (.int t.lf)),(.inr "turn",.im (.int t.tn))]
def tp(t:Tp):Hd:=[.lst (t.cells.map λi=>.im (.int i)),.dic (Ke t)]
@[simp] theorem bI(t:Tp):(tp t).length=2:=rfl
@[simp] theorem cU(t:Tp)(r:Hd):(tp t++r)[0]?=some (.lst (t.cells.map λi=>.im (.int i))):=rfl
@[simp] theorem cT(t:Tp)(r:Hd):(tp t++r)[1]?=some (.dic (Ke t)):=rfl
@[simp] theorem tp0(t:Tp):(tp t)[0]?=some (.lst (t.cells.map λi=>.im (.int i))):=rfl
@[simp] theorem tp1(t:Tp):(tp t)[1]?=some (.dic (Ke t)):=rfl
section
variable(t:Tp)(v:Int)
@[simp] theorem bJ:(Ke t).length=4:=rfl
end
theorem Eh:∀ns:List Int,I.pys (ns.map I.int)=ns.map PyData.int
 |[]=>by simp[I.pys]
 |n::ns=>by simp[I.pys,I.py,Eh ns]
def EM(ns:List Int):B1 (ns.map λi=>D.im (.int i))=some (ns.map I.int):=by
 have:(ns.map λi=>D.im (.int i))=(ns.map I.int).map D.im:=by rw[map_map];rfl
 rw[this];exact Qg _
def Vo(ns:List Int):PyData.eqv (.list (ns.map PyData.int)) (.list [])=decide (ns=[]):=by
 cases ns<;>simp[PyData.eqv,PyData.eqvAll]
def Se(ns:List Int):(PyData.list (ns.map PyData.int)).canLay0=true:=by simp[PyData.canLay0,Ht]
def Fb(ns:List Int)(hd:Hd)(neg:Bool):Jf neg (.list (ns.map PyData.int)) (.list []) hd=some (.im (.bl (if neg then !decide (ns=[])else decide (ns=[]))),hd):=by
 unfold Jf;rw[if_pos,Vo];refine⟨Se ns,by simp[PyData.canLay0,PyData.canLayAll0],?_⟩;have:(PyData.list []).depth<=1:=by simp[PyData.depth,PyData.depthAll]
 omega
def EH{x:Int}(m:Int)(h:0<m):0<=x%m/\x%m<m:=⟨Int.emod_nonneg _ (by omega),Int.emod_lt_of_pos _ h⟩
def Yl(hd:Hd)(neg:Bool):Jf neg (.list []) (.list []) hd=some (.im (.bl (if neg then false else true)),hd):=by
 have:=Fb [] hd neg;simpa using this
def Zr{xs:List Int}(h:xs≠[])(n:Int):∃c,atI (xs.map λi=>D.im (.int i)) (n%(xs.length:Int))=some (.im (.int c)):=by
 have hl:0<xs.length:=Db h;obtain⟨a,b⟩:=EH (x:=n) (xs.length:Int) (by omega);obtain⟨k,hk⟩:=Int.eq_ofNat_of_zero_le a;have hk':k<xs.length:=by omega
 exact⟨xs[k],GE hk (by simp[hk'])⟩
def po1:OM 10 18:=by unfold OM;decide
inductive Cost where
 |late (d:Int)|tardy (d w:Int)|miss (d w:Int)|ends (w:Int)|steps (rows:List (Int×Int))
def rowI(r:Int×Int):I:=.tup [.int r.1,.int r.2]
def Kq:Cost->I
 |.late d=>.tup [.str "late",.int d]
 |.tardy d w=>.tup [.str "tardy",.int d,.int w]
 |.miss d w=>.tup [.str "miss",.int d,.int w]
 |.ends w=>.tup [.str "ends",.int w]
 |.steps rows=>.tup [.str "steps",.tup (rows.map rowI)]
def N8(t:Int):List (Int×Int)->Int->Int
 |[],told=>told
 |(b,a)::r,told=>if t<b then told else N8 t r a
def Cost.at:Cost->Int->Int
 |.late d,t=>t-d
 |.tardy d w,t=>if t-d<=0 then 0 else w*(t-d)
 |.miss d w,t=>if t-d<=0 then 0 else w
 |.ends w,t=>w*t
 |.steps rows,t=>N8 t rows 0
def n1:¬ (("late":Str)="steps"):=by decide +kernel
def n2:¬ (("tardy":Str)="steps"):=by decide +kernel
def n3:¬ (("miss":Str)="steps"):=by decide +kernel
def n4:¬ (("ends":Str)="steps"):=by decide +kernel
def n5:¬ (("late":Str)="ends"):=by decide +kernel
def n7:¬ (("miss":Str)="ends"):=by decide +kernel
def n8:¬ (("tardy":Str)="late"):=by decide +kernel
def n10:¬ (("miss":Str)="tardy"):=by decide +kernel
@[simp high] theorem cS(t:Tp)(x:MO)(r:Hd):(tp t++(x::r))[2]?=some x:=rfl
@[simp high] theorem cR(t:Tp)(x y:MO)(r:Hd):(tp t++(x::y::r))[3]?=some y:=rfl
@[simp high] theorem cQ(t:Tp)(x y z:MO)(r:Hd):(tp t++(x::y::z::r))[4]?=some z:=rfl
@[simp high] theorem c9(t:Tp)(x y:MO)(r:Hd):(tp t++(x::r)).set 2 y=tp t++(y::r):=rfl
@[simp high] theorem c8(t:Tp)(x y z:MO)(r:Hd):(tp t++(x::y::r)).set 3 z=tp t++(x::z::r):=rfl
def E7(w:Nat)(ns:List Int):B4 w (ns.map λi=>D.im (.int i))=true:=by induction ns<;>simp_all [B4,clD]
structure Wk where
 len:Int
 com:Int
 cost:Cost
def Bu(w:Wk):I:=.tup [.int w.len,.int w.com,Kq w.cost]
abbrev Ag(ws:List Wk):I:=.tup (ws.map Bu)
end Bd
namespace L2
theorem ML{α:Type}{n:MG}{c:MT}{m:ME}{g:Gd}{hd:Hd}(hg:GOk hd g)(f:α->D)(k:α->Option D):∀{xs:List α} {ls:Ls} (P:Ls->Prop),P ls ->
 (∀x∈xs,∀ls,P ls->∃ls1,n (f x) ls hd=some ls1/\P ls1/\((k x=none/\c ls1 hd=some (false,hd))∨∃z,k x=some z/\c ls1 hd=some (true,hd)/\m ls1 hd=some (z,hd)))->Az n c m g (xs.map f) ls hd=some (xs.filterMap k,hd)
 |[],ls,P,h,_=>by unfold Az;rfl
 |x::r,ls,P,h,q=>by
  obtain⟨ls1,e1,p1,q1⟩:=q x mem_cons_self ls h;have ih:=ML hg f k (xs:=r) (ls:=ls1) P p1 λd hd ls hp=>q d (mem_cons_of_mem _ hd) ls hp;rw[map_cons];unfold Az;rcases q1 with⟨kn,c1⟩|⟨z,kz,c1,m1⟩
  .simp[e1,c1,hg,ih,kn]
  .simp[e1,c1,m1,hg,ih,kz]
def Ss{α:Type}{n:MG}{m:ME}{g:Gd}{hd:Hd}(hg:GOk hd g)(f:α->D)(k:α->D){xs:List α}{ls:Ls}(P:Ls->Prop)(h:P ls)
 (q:∀x∈xs,∀ls,P ls->∃ls1,n (f x) ls hd=some ls1/\P ls1/\m ls1 hd=some (k x,hd)):Az n BE m g (xs.map f) ls hd=some (xs.map k,hd):=by
 have:=ML (c:=BE) hg f (λx=>some (k x)) (xs:=xs) P h λx hx ls hp=>by
  obtain⟨ls1,e1,p1,e2⟩:=q x hx ls hp;exact⟨ls1,e1,p1,.inr ⟨_,rfl,rfl,e2⟩⟩
 rw[this];simp
end L2
namespace Bd
open PySem L2
abbrev Od(es:List Int):I:=.tup (es.map I.int)
def Vg(ns:List Int):(ns.map λi=>D.im (.int i))=(ns.map I.int).map D.im:=by rw[map_map];rfl
def OQ(ns:List Int):AV (ns.map λi=>D.im (.int i))=.im (Od ns):=by rw[Vg];exact C1 _
def Bb(p:Nat×Int×Int):I:=.tup [.int p.1,.int p.2.1,.int p.2.2]
def SV{α:Type}(ws:List α):ws.map (λ_=>D.im (.int 0))=(List.replicate ws.length 0).map λi=>D.im (.int i):=by induction ws<;>simp_all [replicate_succ]
def EJ(es:List Int):List (Nat×Int×Int)->List Int
 |[]=>es
 |p::r=>EJ (es.set p.1 p.2.2) r
theorem K7(w o:D):∀(ps:List (Nat×Int×Int)) (es:List Int) (a b c:Option D),(∀p∈ps,p.1<es.length)->∃a' b' c',B8 (B9 3 (AJ (AB 3) (AJ (AB 4) (AJ (AB 5) BA)))) (Dk (A0 2) (A0 3) (A0 5)) [] (ps.map λp=>.im (Bb p))
 [some w,some o,some (.mu 0),a,b,c] [.lst (es.map λi=>.im (.int i))]=some (.nx [some w,some o,some (.mu 0),a',b',c'],[.lst ((EJ es ps).map λi=>.im (.int i))])
 |[],es,a,b,c,_=>⟨a,b,c,Sc⟩
 |(k,x,y)::ps,es,a,b,c,h=>by
   obtain⟨a',b',c',q⟩:=K7 w o ps (es.set k y) (some (.im (.int k))) (some (.im (.int x))) (some (.im (.int y))) (λp hp=>by simpa using h p (mem_cons_of_mem _ hp));refine⟨a',b',c',?_⟩;have hk:k<es.length:=h _ mem_cons_self;have ix:ixN es.length (k:Int)=some k:=by unfold ixN;rw[if_pos (by omega),if_pos (by omega)];simp
   rw[show EJ es ((k,x,y)::ps)=EJ (es.set k y) ps from rfl,<- q,map_cons];refine Q4 (ls1:=[some w,some o,some (.mu 0),some (.im (.int k)),some (.im (.int x)),some (.im (.int y))]) (by simp[Bb]) ?_ (AK _);simp[ix]
def Om(ws:List Wk)(ps:List (Nat×Int×Int))(h:∀p∈ps,p.1<ws.length)(hl:ws.length<=1000):∃g,F_ends_of [.im (Ag ws),.im (.tup (ps.map Bb))] []=some (.im (Od (EJ (List.replicate ws.length 0) ps)),g):=by
 obtain⟨a',b',c',q⟩:=K7 (.im (Ag ws)) (.im (.tup (ps.map Bb))) ps (List.replicate ws.length 0) none none none (λp hp=>by simpa using h p hp);have hz:CF ws.length:=AZ (by omega);have hc:=Ss (hd:=[]) (n:=AB 0) (m:=mC (.int 0)) (AK []) (λw:Wk=>D.im (Bu w)) (λ_=>.im (.int 0)) (xs:=ws) (ls:=[none]) (λls=>ls.length=1) rfl λw hw ls hls=>by
  match ls,hls with
  |[a],_=>exact⟨[some (.im (Bu w))],rfl,rfl,rfl⟩
 have hr:=SV ws;have w1:(ws.map Bu).map D.im=ws.map λw=>D.im (Bu w):=by rw[map_map];rfl
 have p1:(ps.map Bb).map D.im=ps.map λp=>D.im (Bb p):=by rw[map_map];rfl
 rw[hr]at hc;refine⟨[.lst ((EJ (List.replicate ws.length 0) ps).map λi=>.im (.int i))],?_⟩;simp only[F_ends_of,mkF,HR,QJ,MD,YZ,Vn,QK,QH,Yi,map_cons,map_nil,length_cons,length_nil,cons_append,List.nil_append,List.replicate,Nat.reduceAdd,Nat.reduceSub,if_true,List.getElem?_cons_zero,List.getElem?_cons_succ,bind_some,W7,map_some,w1,p1,length_map,hz,EL,append_nil,hc,Nb,List.set_cons_succ,List.set_cons_zero];rw[q];simp[C4,OQ]
def Sq(ns:List Int)(lo hi:Option Int):∃cs:List Int,HB (ns.map λn=>.im (.int n)) lo hi=cs.map λn=>.im (.int n):=⟨(ns.drop _).take _,by unfold HB;rw[List.map_take,List.map_drop]⟩
abbrev YA(ks:List Nat):List D:=ks.map λk:Nat=>D.im (.int (k:Int))
def Fo(n:Nat):Ar 0 n=YA (List.range n):=by
 refine ext_getElem? λi=>?_;by_cases h:i<n
 .rw[Il h];simp[h]
 .rw[List.getElem?_eq_none (by simp;omega),List.getElem?_eq_none (by simp;omega)]
abbrev AU(xs:List Int):List D:=xs.map λx=>D.im (.int x)
def g0(hd:Hd)(x y:MO):(hd++[x,y])[hd.length]?=some x:=by simp
def g1(hd:Hd)(x y:MO):(hd++[x,y])[hd.length+1]?=some y:=by simp
def t0(hd:Hd)(x y z:MO):(hd++[x,y]).set hd.length z=hd++[z,y]:=by simp
def t1(hd:Hd)(x y z:MO):(hd++[x,y]).set (hd.length+1) z=hd++[x,z]:=by simp
end Bd
namespace L2
open PySem PySem.Spec PyProof.Rows
section
variable{ls:Ls}{hd:Hd}{QE:D->Hd->Prop}{QI:List D×Gd->Hd->Prop}{ma:ME}{n:MG}{ta:MT}{mi:MI}{m:MA}
def Aw{α:Type}{g:Gd}{QA:List D->Hd->Prop}(inj:α->D)(f:α->Option D)(L:D->Ls->Prop)(l0:Ls){xs:List α}{hd:Hd}(hg:GOk hd g)
 (k:∀x∈xs,∀ls,ls=l0∨(∃d,L d ls)->∃ls1,n (inj x) ls hd=some ls1/\L (inj x) ls1/\WT ta ls1 hd λc y=>y=hd/\if c=true then ∃z,f x=some z/\WE ma ls1 hd λe y=>y=hd/\e=z else f x=none)
 (q:QA (xs.filterMap f) hd):WP (Az n ta ma g (xs.map inj) l0 hd) QA:=by
 have go:∀(xs':List α) (ls:Ls),(∀x∈xs',x∈xs)->(ls=l0∨∃d,L d ls)->Az n ta ma g (xs'.map inj) ls hd=some (xs'.filterMap f,hd):=by
  intro xs'
  induction xs' with
  |nil=>intro ls _ _;unfold Az;rfl
  |cons x r ih=>
   intro ls hs hl;obtain⟨ls1,e1,L1,c,y,e2,rfl,q⟩:=k x (hs x mem_cons_self) ls hl;have ih:=ih ls1 (λz hz=>hs z (mem_cons_of_mem _ hz)) (.inr ⟨_,L1⟩);rw[map_cons];unfold Az;rw[e1,bind_some,e2,bind_some];cases c with
   |true=>
    rw[if_pos rfl]at q;obtain⟨z,ez,e,y,e3,rfl,rfl⟩:=q;rw[if_pos rfl,e3,bind_some];dsimp only;rw[if_pos hg,ih,filterMap_cons,ez];rfl
   |false=>
    rw[if_neg Bool.false_ne_true]at q;rw[if_neg Bool.false_ne_true];dsimp only;rw[if_pos hg,ih,filterMap_cons,q]
 exact⟨_,_,go xs l0 (λ_ h=>h) (.inl rfl),q⟩
end
section
variable{K:PySem.W.Frag}{ρ ρ':List Addr}{H H':Hp}{hd hd':Hd}
theorem RDs.rep{ds:List D}{xs:List V}(r:RDs K ρ H ds xs):∀n,RDs K ρ H (List.replicate n ds).flatten (List.replicate n xs).flatten
 |0=>by simp[RDs]
 |n+1=>by
  simp only[replicate_succ,flatten_cons];exact r.app (r.rep n)
end
abbrev blD(bs:List Bool):List D:=bs.map λb=>D.im (.bl b)
inductive Ty where
 |int|bool|str|tuple|list
 deriving DecidableEq
def Ty.nm:Ty->String
 |.int=>"int" | .bool=>"bool" | .str=>"str" | .tuple=>"tuple" | .list=>"list"
def IsT(K:PySem.W.Frag)(T:Ty)(H:Hp)(v:V)(b:Bool):Prop:=
 (v=.non/\b=false)∨(∃x,v=.bl x/\b=decide (T=.int∨T=.bool))∨(∃i,v=.int i/\b=decide (T=.int))∨(∃x,v=.str x/\b=decide (T=.str)) ∨
 (∃a xs,v=.ref a/\SqL K H a xs/\b=decide (T=.list))∨∃a xs,v=.ref a/\SqT K H a xs/\b=decide (T=.tuple)
section
variable{X:Cx}{pins:List (Addr×Obj)}{σ:St}{H:Hp}{s:Shared}{A:Around}{E:Value->Shared->Prop}{Q:Value->Shared->Prop}
def YN{T:Ty}{v:V}{u:Value}{b:Bool}(I:Inv X pins σ H s)(r:RelV v u)(h:IsT X.K T H v b)(q:∀tk,Q (.bool b) { s with toks:=tk }):wpAny (model X.prog X.w) A (call (.builtin "isinstance") [u,.type T.nm]) Q E s:=by
 have q0:=q s.toks;have q1:=q (s.toks+1);rcases h with⟨rfl,rfl⟩|⟨x,rfl,rfl⟩|⟨i,rfl,rfl⟩|⟨x,rfl,rfl⟩|⟨a,xs,rfl,hl,rfl⟩|⟨a,xs,rfl,ht,rfl⟩
 .cases(show u=Value.none from r);cases T
  .exact IsiPair.NoneType_int q1
  .exact IsiPair.NoneType_bool q1
  .exact IsiPair.NoneType_str q1
  .exact IsiPair.NoneType_tuple q1
  .exact IsiPair.NoneType_list q1
 .cases(show u=Value.bool x from r);cases T
  .first|exact IsiPair.bool_int q0|exact IsiPair.bool_int q1
  .first|exact IsiPair.bool_bool q0|exact IsiPair.bool_bool q1
  .exact IsiPair.bool_str q1
  .exact IsiPair.bool_tuple q1
  .exact IsiPair.bool_list q1
 .obtain⟨t,rfl⟩:=(show ∃t,u=Value.int i t from r)
  cases T
  .exact IsiPair.int_int q0
  .exact IsiPair.int_bool q1
  .exact IsiPair.int_str q1
  .exact IsiPair.int_tuple q1
  .exact IsiPair.int_list q1
 .obtain⟨t,rfl⟩:=(show ∃t,u=Value.str x t from r)
  cases T
  .exact IsiPair.str_int q1
  .exact IsiPair.str_bool q1
  .exact IsiPair.str_str q0
  .exact IsiPair.str_tuple q1
  .exact IsiPair.str_list q1
 .cases(show u=Value.ref a from r);obtain⟨its,_,⟨o,n,e,c,_,_⟩,_⟩:=I.list hl;cases T
  .exact IsiPair.list_int e c q1
  .exact IsiPair.list_bool e c q1
  .exact IsiPair.list_str e c q1
  .exact IsiPair.list_tuple e c q1
  .exact IsiPair.list_list e c q0
 .cases(show u=Value.ref a from r);obtain⟨its,_,⟨o,e,c,_⟩,_⟩:=I.tuple ht;cases T
  .exact IsiPair.tuple_int e c q1
  .exact IsiPair.tuple_bool e c q1
  .exact IsiPair.tuple_str e c q1
  .exact IsiPair.tuple_tuple e c q0
  .exact IsiPair.tuple_list e c q1
end
def R9(K:PySem.W.Frag)(T:Ty)(te:TE):TE:=λσ H Q=>te σ H λv H1=>∃b,IsT K T H1 v b/\Q (.bl b) H1
def Xq(K:PySem.W.Frag){X:Cx}(T:Ty){e:Expr}{te:TE}{x:Str}{p px pos:Pos}(hm:X.mg "isinstance"=none)(hmT:X.mg x=none)(hvT:bootBuiltins x=some (.type T.nm))(he:PE X e te)
 (hv:bootBuiltins "isinstance"=some (.builtin "isinstance")) (hK:X.K=K) (hg:Gl X "isinstance") (hgT:Gl X x) (hnT:x≠"__name__") (hdT:(x==("__debug__":Str))=false)
 (hs:starEach [e,.Name x px] X.env=[(false,eval e X.env),(false,eval (.Name x px) X.env)]) (hs2:starEach [.Name x px] X.env=[(false,eval (.Name x px) X.env)]):PE X (.Call (.Name "isinstance" p) [e,.Name x px] [] pos) (R9 K T te):=by
 subst hK;intro pins s σ H Q I h;refine wpAny_Call_Name_kw (Ca I hg hm hv ?_);have go:wpAny (model X.prog X.w) X.A (spliced (backTo pos (starEach [e,.Name x px] X.env))) (λvs s₁=>wpAny (model X.prog X.w) X.A (call (.builtin "isinstance") vs) (EP X pins σ Q) X.xe s₁) X.xe s:=by
  rw[hs];show wpAny _ _ (spliced ((false,eval e X.env)::backTo pos [(false,eval (.Name x px) X.env)])) _ _ s;refine Calls.spliced_cons (thn (he pins s σ H _ I h) λu s1 ⟨v,H1,I1,r1,b,ib,q1⟩=>?_);show wpAny _ _ (spliced ((false,eval (.Name x px) X.env)::backTo pos [])) _ _ s1;refine Calls.spliced_cons (Ca I1 hgT hmT hvT ?_ hnT hdT);refine Calls.spliced_nil ?_;exact YN I1 r1 ib λtk=>⟨.bl b,H1,I1.tok _,rfl,q1⟩
 exact PyProof.Rows.callWith_builtin1 go (by rw[hs,hs2]) (by rw[hs2];rfl)
section
variable{K:PySem.W.Frag}{ρ ρ':List Addr}{H H':Hp}{hd hd':Hd}
def isD(T:Ty)(hd:Hd):D->Option Bool
 |.im .non=>some false
 |.im (.bl _)=>some (decide (T=.int∨T=.bool))
 |.im (.int _)=>some (decide (T=.int))
 |.im (.str _)=>some (decide (T=.str))
 |.im (.tup _)=>some (decide (T=.tuple))
 |.tm _=>some (decide (T=.tuple))
 |.ro _=>some (decide (T=.list))
 |.op _ _ _=>none
 |.fv _ _=>none
 |.mu n=>match hd[n]? with
  |some (.lst _)=>some (decide (T=.list))
  |_=>none
def YO{T:Ty}{d:D}{v:V}{b:Bool}(hR:RH K ρ H hd)(h:RD K ρ H d v)(e:isD T hd d=some b):IsT K T H v b:=by
 cases d with
 |im i=>
  cases i with
  |non=>simp only[RD,RI]at h;subst h;simp only[isD,Option.some.injEq]at e;exact .inl ⟨rfl,e.symm⟩
  |bl c=>simp only[RD,RI]at h;subst h;simp only[isD,Option.some.injEq]at e;exact .inr (.inl ⟨c,rfl,e.symm⟩)
  |int c=>simp only[RD,RI]at h;subst h;simp only[isD,Option.some.injEq]at e;exact .inr (.inr (.inl ⟨c,rfl,e.symm⟩))
  |str c=>simp only[RD,RI]at h;subst h;simp only[isD,Option.some.injEq]at e;exact .inr (.inr (.inr (.inl ⟨c,rfl,e.symm⟩)))
  |tup is=>
   obtain⟨a,xs,rfl,q,r⟩:=h.tup (ds:=is.map .im) rfl;simp only[isD,Option.some.injEq]at e;exact .inr (.inr (.inr (.inr (.inr ⟨a,xs,rfl,q,e.symm⟩))))
 |tm ds=>
  obtain⟨a,xs,rfl,q,r⟩:=h.tup (ds:=ds) rfl;simp only[isD,Option.some.injEq]at e;exact .inr (.inr (.inr (.inr (.inr ⟨a,xs,rfl,q,e.symm⟩))))
 |ro ns=>
  obtain⟨a,xs,rfl,q,r⟩:=h.lst hR (hd:=hd) (ds:=ns.map λn=>.im (.int n)) rfl;simp only[isD,Option.some.injEq]at e;exact .inr (.inr (.inr (.inr (.inl ⟨a,xs,rfl,q,e.symm⟩))))
 |op _ _ _=>simp[isD]at e
 |fv _ _=>simp[isD]at e
 |mu n=>
  simp only[isD]at e;split at e
  .next q=>
   cases e;simp only[RD]at h;obtain⟨a,hn,rfl⟩:=h;obtain⟨xs,e1,e2⟩:=hR.lst hn q;exact .inr (.inr (.inr (.inr (.inl ⟨a,xs,rfl,SqL.of e1,rfl⟩))))
  .cases e
def Be(T:Ty)(ma:ME):ME:=λls hd=>(ma ls hd).bind λp=>(isD T p.2 p.1).map λb=>(.im (.bl b),p.2)
def Wn{T:Ty}{te:TE}{me:ME}(h:RE K te me):RE K (R9 K T te) (Be T me):=by
 and_intros;obtain⟨⟨d1,h1⟩,e1,hm⟩:=c5 hm;obtain⟨b,e2,e3⟩:=c7 hm;cases e3;exact h ρ σ H hd ls _ d1 _ hR hL e1 λρ1 H1 v x1 R1 r1=>⟨b,YO R1 r1 e2,hQ ρ1 H1 _ x1 R1 (by simp[RD,RI])⟩
def JD:∀T:Ty,bootBuiltins T.nm=some (.type T.nm)
 |.int=>by decide +kernel
 |.bool=>by decide +kernel
 |.str=>by decide +kernel
 |.tuple=>by decide +kernel
 |.list=>by decide +kernel
def Io(K:PySem.W.Frag){X:Cx}(T:Ty){e:Expr}{te:TE}{me:ME}{x:Str}{p px pos:Pos}(hm:X.mg "isinstance"=none)(hmT:X.mg x=none)(he:QE K X e te me)(hx:bootBuiltins x=some (.type T.nm):=by first|exact JD .int|exact JD .bool|exact JD .str|exact JD .tuple|exact JD .list)(hK:X.K=K:=by rfl)(hg:Gl X "isinstance":=by rfl)(hgT:Gl X x:=by rfl)
 (hnT:x≠"__name__":=by decide) (hdT:(x==("__debug__":Str))=false:=by decide)
 (hs:starEach [e,.Name x px] X.env=[(false,eval e X.env),(false,eval (.Name x px) X.env)]:=by rfl) (hs2:starEach [.Name x px] X.env=[(false,eval (.Name x px) X.env)]:=by rfl):QE K X (.Call (.Name "isinstance" p) [e,.Name x px] [] pos) (R9 K T te) (Be T me):=
 ⟨Xq K T hm hmT hx he.p Kd hK hg hgT hnT hdT hs hs2,Wn he.r⟩
def Fw(mo mi me:ME)(f:Int->Int->Int):MS:=λls hd=>(mo ls hd).bind λp=>(mi ls p.2).bind λq=>match p.1,q.1 with
 |.mu n,.im (.int i)=>match q.2[n]? with
  |some (.lst ds)=>(ixN ds.length i).bind λj=>match ds[j]? with
   |some (.im (.int x))=>(me ls q.2).bind λr=>match r.1,r.2[n]? with
    |.im (.int y),some (.lst ds')=>if ds'.length=ds.length then some (.nx ls,r.2.set n (.lst (ds'.set j (.im (.int (f x y))))))else none
    |_,_=>none
   |_=>none
  |_=>none
 |_,_=>none
theorem RDs.ints:∀{ns:List Int} {xs:List V},RDs K ρ H (ns.map λx=>D.im (.int x)) xs->xs=ns.map V.int
 |[],xs,h=>by simpa only[RDs,map_nil]using h
 |n::ns,xs,h=>by
  simp only[map_cons,RDs,RD,RI]at h;obtain⟨x,r,rfl,rfl,t⟩:=h;rw[RDs.ints t];rfl
def Pn(K:PySem.W.Frag){X:Cx}(hK:X.K=K:=by rfl):Yp X (JW K):=by
 subst hK;intro pins s σ H o i ov iv Q I ro ri h;obtain⟨p,xs,k,z,rfl,rfl,hq,he,q⟩:=h;cases ro;obtain⟨t,rfl⟩:=ri;obtain⟨its,r,pl,hz⟩:=I.list hq;obtain⟨j,h1,h2,h3,h4,h5⟩:=Jl he;obtain⟨w,ew,rw'⟩:=r.get h2;have hl:=r.length;have hn:=Fa;have fin:EP X pins σ Q w s:=⟨z,H,I,rw',q⟩
 by_cases h0:0<=k
 .have hj:k.toNat=j:=by
   rw[seqIndex_of h0 h5]at h1;exact Option.some.inj h1
  exact wpAny_getItem_list pl.isList h0 (by omega) (by rw[hj];simpa using ew) fin
 .have hj:(k+(its.toArray.size:Int)).toNat=j:=by
   rw[seqIndex_neg (by omega) h4]at h1;rw[size_toArray,<- hl];exact Option.some.inj h1
  exact wpAny_getItem_list_neg pl.isList (by omega) (by rw[size_toArray]<;>omega) (by omega) (by rw[hj];simpa using ew) fin
def Vk(x:Ext ρ H ρ' H'){n:Nat}{a:Addr}(h:ρ[n]?=some a):ρ'[n]?=some a:=by
 obtain⟨r,rfl,_⟩:=x.pre;rw[List.getElem?_append_left (List.getElem?_eq_some_iff.mp h).1];exact h
def U2{to ti te:TE}{mo mi me:ME}{f:Int->Int->Int}(ho:RE K to mo)(hi:RE K ti mi)(he:RE K te me):RS K (O0 to ti te (JW K) (ipI f) Im) (Fw mo mi me f):=by
 intro ρ σ H hd0 ls E fl hd' hR hL hm hQ;obtain⟨⟨d1,h1⟩,e1,hm⟩:=c5 hm;obtain⟨⟨d2,h2⟩,e2,hm⟩:=c5 hm;dsimp only at hm;split at hm
 .split at hm
  .next ds q=>
   obtain⟨j,e4,hm⟩:=c5 hm;split at hm
   .next x ex=>
    obtain⟨⟨d3,h3⟩,e3,hm⟩:=c5 hm;dsimp only at hm;split at hm
    .next y ds' q'=>
     split at hm
     .next el=>
      cases hm;refine ho ρ σ H hd0 ls _ _ h1 hR hL e1 λρ1 H1 v1 x1 R1 r1=>?_;refine hi ρ1 σ H1 h1 ls _ _ _ R1 (hL.ext hR x1) e2 λρ2 H2 v2 x2 R2 r2=>?_;have r1':=r1.ext R1 x2;simp only[RD]at r1';obtain⟨a,hn,rfl⟩:=r1';simp only[RD,RI]at r2;subst r2;obtain⟨xs,l1,l2⟩:=R2.lst hn q;obtain⟨w,ew,rw'⟩:=l2.get ex;simp only[RD,RI]at rw';subst rw';refine⟨a,xs,_,.int x,rfl,rfl,SqL.of l1,?_,?_⟩
      .unfold atI;rw[l2.len];rw[e4];exact ew
      refine he ρ2 σ H2 h2 ls _ _ h3 R2 (hL.ext hR (x1.trans R1 x2)) e3 λρ3 H3 v3 x3 R3 r3=>?_;simp only[RD,RI]at r3;subst r3;refine⟨x,y,rfl,rfl,?_⟩;have hn3:=Vk x3 hn;obtain⟨xs3,l3,l4⟩:=R3.lst hn3 q';obtain⟨R4,x4⟩:=R3.put hn3 (o:=.lst _) (ho:=.lst (xs3.set j (.int (f x y)))) ⟨_,rfl,l4.set j (d:=.im (.int (f x y))) (by simp[RD,RI])⟩;have x13:=(x1.trans R1 x2).trans R2 x3;exact⟨a,xs3,_,j,rfl,rfl,l3,by rw[l4.len,el];exact e4,hQ ρ3 _ (x13.trans R3 x4) R4 σ ((hL.ext hR x13).ext R3 x4)⟩
     .cases hm
    .cases hm
   .cases hm
  .cases hm
 .cases hm
def UZ(K:PySem.W.Frag){X:Cx}{o i e:Expr}{to ti te:TE}{mo mi me:ME}{op:Operator}{f:Int->Int->Int}{tpos pos:Pos}(ho:QE K X o to mo)(hi:QE K X i ti mi)(he:QE K X e te me)(hp:PIp X op (ipI f))(hK:X.K=K:=by rfl)
 (ha:∀ov iv new,augStore i ov iv new=(do holding [new,ov,iv] (setItem ov iv new);release [new,ov,iv] [];pure .next):=by intros;rfl):QS K X (.AugAssign (.Subscript o i tpos) op e pos) (O0 to ti te (JW K) (ipI f) Im) (Fw mo mi me f):=
 ⟨Uz ho.p hi.p (Pn K hK) he.p hp LD ha,U2 ho.r hi.r he.r⟩
end
section
variable{ls:Ls}{hd:Hd}{ma mo mi me:ME}{QE:D->Hd->Prop}{QS:Fl->Hd->Prop}
def BK{T:Ty}(h:WE ma ls hd λd x=>∃b,isD T x d=some b/\QE (.im (.bl b)) x):WE (Be T ma) ls hd QE:=by
 obtain⟨d,x,e,b,e2,q⟩:=h;exact⟨_,_,by simp only[Be,e,bind_some,e2,map_some],q⟩
end
structure EAt(h:Heap)(e it l:Addr)(i:Nat):Prop where
 e:∃old,IsEnum h e it i old
 r:h.IsListIter it l i
def Ite(K:PySem.W.Frag)(a:Addr):It:=
 ⟨λi H=>∃xs x,SqL K H a xs/\xs[i]?=some x,
  λi H x H'=>∃p v,H p=none/\H'=upd H p (.tup [.int (i:Int),v])/\x=.ref p/\∀xs,SqL K H a xs->xs[i]?=some v,
  λi H=>∃xs,SqL K H a xs/\xs.length<=i⟩
def P4{P:Program}{w:World}{K:PySem.W.Frag}{elts:List Expr}{kk:Nat}{tpos:Pos}{e it l:Addr}(ne:e≠it):Turn P w K (.Tuple elts kk tpos) (Ite K l) [e,it] e (λi h=>EAt h e it l i) where
 mem:=by simp
 obj:=λi h st c hc=>by
  obtain⟨⟨old,he⟩,hr⟩:=st;simp only[mem_cons,not_mem_nil,or_false]at hc;rcases hc with rfl|rfl
  .exact⟨_,he,λv z=>by cases(show Data.fields _=Data.cell v from z)⟩
  .obtain⟨o,q,_,d⟩:=hr;exact⟨o,q,λv z=>by rw[d]at z;cases z⟩
 keep:=λi h h' st k=>by
  obtain⟨⟨old,he⟩,o,q,r⟩:=st;exact⟨⟨old,k e (by simp) _ he⟩,o,k it (by simp) _ q,r⟩
 item:=by
  intro X hP hw hK hc i pins s σ H E I hf st hg;subst hP hw hK;obtain⟨xs,x,h1,hx⟩:=hg;obtain⟨its,r,pl,hz⟩:=I.list h1;obtain⟨u,hu,ru⟩:=r.get hx;obtain⟨⟨old,he⟩,hr⟩:=st;refine wpAny_pyNext_enum_item he hr pl.isList (x:=u) (by simpa using hu) ne λg ho hr' ht hsz kp=>⟨_,rfl,?_⟩
  refine wpAny_letOwnedTupleGo_enum ho λg' e' sb=>?_;have hle:e<s.heap.objs.size:=Heap.lt_size he;have kp2:∀c o,c∉[e,it]->s.heap.get? c=some o->g'.get? c=some o:=λc o nc q=>by
   simp only[mem_cons,not_mem_nil,or_false,not_or]at nc;exact sb.extBut _ _ nc.1 (kp c o nc.1 nc.2 q)
  have hT:s.heap.objs.size≠e:=ne_of_gt hle;have hpair:g'.get? s.heap.objs.size=some { cls:=.type "tuple",data:=.seq #[.int i s.toks,u] }:=sb.extBut _ _ hT ht;have fresh:H s.heap.objs.size=none:=I.hok.fresh (le_refl _);have I2:Inv X pins σ (upd H s.heap.objs.size (.tup [.int (i:Int),x])) { s with heap:=g',toks:=s.toks+1 }:=I.turnsL (tk:=s.toks+1) (o:=.tup [.int (i:Int),x]) kp2 hf (le_refl _)
   (show ObjOk X.prog X.w _ g' _ (.tup [.int (i:Int),x])from⟨by show 2<=sizeLine;decide,[.int i s.toks,u],.cons ⟨_,rfl⟩ (.cons ru .nil),⟨_,hpair,rfl,⟨_,rfl⟩,rfl⟩⟩)
  refine⟨.ref s.heap.objs.size,_,I2,rfl,⟨s.heap.objs.size,x,fresh,rfl,rfl,λxs' q=>by rw[I.list_inj q h1];exact hx⟩,⟨⟨u,?_⟩,?_⟩,λc hc=>?_⟩
  .have:=e';rw[show((i:Int)+1)=((i+1:Nat):Int) by omega]at this;exact this
  .exact hr'.extBut sb.extBut (Ne.symm ne)
  .have lt:c<s.heap.objs.size:=by
    simp only[mem_cons,not_mem_nil,or_false]at hc;rcases hc with rfl|rfl
    .exact hle
    .obtain⟨o,q,_⟩:=hr;exact Heap.lt_size q
   rw[AC (ne_of_lt lt)];exact(hf c hc).1
 done:=by
  intro X hP hw hK hc i pins s σ H E I hf st hg;subst hP hw hK;obtain⟨xs,h1,hend⟩:=hg;obtain⟨its,r,pl,hz⟩:=I.list h1;have l1':=r.length;obtain⟨⟨old,he⟩,hr⟩:=st;refine wpAny_pyNext_enum_end (show X.A.handled=none from I.ok.hd hc) he hr pl.isList (by simp;omega) λg x=>⟨rfl,?_⟩
  exact I.turns (tk:=s.toks) (λc o nc q=>by
   simp only[mem_cons,not_mem_nil,or_false,not_or]at nc;exact x c o nc.2 q) hf
 self:=λ_ _ _ _ _ st h=>by
  obtain⟨⟨old,he⟩,hr⟩:=st;exact wpAny_pyIter_enum he h
def Oh(K:PySem.W.Frag)(ta:TA):TI:=λσ H R=>ta σ H λvs H1=>∃a xs,vs=[.ref a]/\SqL K H1 a xs/\R (Ite K a) H1
def Dg:bootBuiltins "enumerate"=some (.type "enumerate"):=by decide +kernel
section
variable{X:Cx}
def V7(K:PySem.W.Frag){a:Expr}{ta:TA}{elts:List Expr}{kk:Nat}{tpos p pos:Pos}(hg:Gl X "enumerate")(hm:X.mg "enumerate"=none)(ha:PA X [a] ta)(hK:X.K=K:=by rfl)(hs:starEach [a] X.env=[(false,eval a X.env)]:=by rfl):
 PI X (.Tuple elts kk tpos) (.Call (.Name "enumerate" p) [a] [] pos) (Oh K ta):=by
 subst hK;intro pins s σ H R I h;refine Call_ (Ca I hg hm Dg (PyProof.Rows.callWith_type1 (thn (ha pos pins s σ H _ I h) λus s1 ⟨vs,H1,I1,r1,q1⟩=>?_) hs rfl));obtain⟨l,xs,e,c,q⟩:=q1;subst e;obtain⟨u,rfl,ru⟩:=r1.one;cases ru;obtain⟨its,r,pl,hz⟩:=I1.list c;refine call_enumerate_list pl.isList λg he hr hsz kp=>wpAny_pyIter_enum he ?_;refine⟨_,_,_,_,H1,rfl,I1.kept (t':=s1.toks) kp,P4 (ne_of_gt (lt_succ_self _)),⟨⟨_,he⟩,hr⟩,λc hc=>?_,q⟩;simp only[mem_cons,not_mem_nil,or_false]at hc;have le:s1.heap.objs.size<=c:=by
  rcases hc with rfl|rfl
  .exact le_add_right _ _
  .exact le_refl _
 exact I1.fpOk le (I1.hok.fresh le)
end
section
variable{K:PySem.W.Frag}
def BO(ma:MI):MI:=λls hd=>(ma ls hd).map λp=>((p.1.1.zipIdx.map λq=>AV [.im (.int (q.2:Int)),q.1],p.1.2),p.2)
def U9{ta:TE}{ma:MI}(ha:RRw K false ta ma):RIt K (Oh K (B7 ta Bv)) (BO ma):=by
 intro ρ σ H hd ls Q d g hd' hR hL hm hQ;obtain⟨⟨⟨d1,g1⟩,h1⟩,e1,e2⟩:=c7 hm;cases e2;refine ha ρ σ H hd ls _ d1 g1 h1 hR hL e1 λρ1 H1 a x1 R1 G1 S1=>?_;obtain⟨xs,c1,r1⟩:=S1 ρ1 H1 _ .refl R1 G1;refine⟨a,xs,rfl,c1,hQ ρ1 H1 _ x1 R1 G1 ?_⟩;intro ρ3 H3 hd3 x3 R3 G3 i;obtain⟨xs,c1,r1⟩:=S1 ρ3 H3 _ x3 R3 G3;have l1:=r1.len;refine⟨λhi=>?_,λhi=>⟨xs,c1,?_⟩⟩
 .have hi:i<d1.length:=by simpa using hi
  have i1:d1[i]?=some (d1[i]'hi):=List.getElem?_eq_getElem _;obtain⟨x,x4,x5⟩:=r1.get i1;refine⟨⟨xs,x,c1,x4⟩,λz H4 hz=>?_⟩;obtain⟨p,v,fp,rfl,rfl,hv⟩:=hz;have ev:=hv xs c1;rw[x4]at ev;cases ev;obtain⟨R4,x6⟩:=R3.hid (ho:=.tup [.int (i:Int),x]) fp;refine⟨ρ3,AV [.im (.int (i:Int)),d1[i]'hi],x6,rfl,R4,?_,Bn (SqT.of AM) (.cons (by simp[RD,RI]) (.cons (x5.ext R3 x6) .nil))⟩;simp[i1]
 .have hi:i=d1.length:=by simpa using hi
  omega
def Uj(K:PySem.W.Frag){X:Cx}{a:Expr}{ta:TE}{ma:MI}{elts:List Expr}{kk:Nat}{tpos p pos:Pos}(hm:X.mg "enumerate"=none)(ha:QR K false X a ta ma)(hg:Gl X "enumerate":=by rfl)(hK:X.K=K:=by rfl)(hs:starEach [a] X.env=[(false,eval a X.env)]:=by rfl):
 QI K X (.Tuple elts kk tpos) (.Call (.Name "enumerate" p) [a] [] pos) (Oh K (B7 ta Bv)) (BO ma):=⟨V7 K hg hm (Bi ha.p CI hs) hK hs,U9 ha.r⟩
def Bh{ma:MI}{ls:Ls}{hd:Hd}{QI:List D×Gd->Hd->Prop}(h:WI ma ls hd λp x=>QI (p.1.zipIdx.map λq=>AV [.im (.int (q.2:Int)),q.1],p.2) x):WI (BO ma) ls hd QI:=by
 obtain⟨p,x,e,q⟩:=h;exact⟨_,_,by simp only[BO,e,map_some],q⟩
end
section
variable{X:Cx}
def Vr{prog:Program}{w:World}{A:Around}{E:Value->Shared->Prop}{s:Shared}{t b:Addr}{vs ws:List Value}{Q:Value->Shared->Prop}(ht:IsTup s.heap t vs.toArray)(hb:IsTup s.heap b ws.toArray)(hv:vs=[])
 (h1:Q (.ref b) s):wpAny (model prog w) A (binaryOp .Add (.ref t) (.ref b)) Q E s:=by
 obtain⟨⟨cls,dd,data,sl⟩,ho,hc,n,hd⟩:=id ht;obtain⟨⟨cls2,dd2,data2,sl2⟩,ho2,hc2,n2,hd2⟩:=id hb;simp only at hc hd hc2 hd2;subst hc hd hc2 hd2;exact concat_meets ⟨_,ho,rfl⟩ ⟨_,ho2,rfl⟩ noFill_tuple_add seq_tuple_add PySem.F.slot_tuple_add PySem.F.entry_tuple_add (PySem.F.args_tuple_add_2 _ _)
  (tuple_addW0 t b vs.toArray ws.toArray n n2 dd dd2 sl sl2 (by simp[hv])) ⟨ho,ho2,h1⟩
def TU(K:PySem.W.Frag):R2:=λx y H Q=>∃a b ys,x=.ref a/\y=.ref b/\SqT K H a []/\SqT K H b ys/\Q (.ref b) H
def VM(K:PySem.W.Frag)(hK:X.K=K:=by rfl):OpR X (binaryOp .Add) (TU K):=by
 subst hK;intro pins s σ H x y v u Q I rx ry h;obtain⟨a,b,ys,rfl,rfl,ha,hb,q⟩:=h;cases rx;cases ry;obtain⟨its,r1,p1,_⟩:=I.tuple ha;obtain⟨its2,r2,p2,_⟩:=I.tuple hb;have:its=[]:=by cases r1;rfl
 exact Vr p1 p2 this ⟨.ref b,H,I,rfl,q⟩
def HV:D->D->Hd->Option (D×Hd):=λd e hd=>(AW d).bind λa=>(AW e).bind λb=>if a=[]then some (AV b,hd)else none
def UO{K:PySem.W.Frag}:RB K (TU K) HV:=by
 intro ρ H hd d e v u Q z hd' hR h1 h2 hf hQ;unfold HV at hf;obtain⟨a,e1,hf⟩:=c5 hf;obtain⟨b,e2,hf⟩:=c5 hf;split at hf
 .next c=>
  cases hf;subst c;obtain⟨p,xs,rfl,q1,r1⟩:=h1.tup e1;obtain⟨p2,ys,rfl,q2,r2⟩:=h2.tup e2;have:xs=[]:=by simpa [RDs]using r1
  subst this;exact⟨p,p2,ys,rfl,rfl,q1,q2,hQ ρ H _ .refl hR (Bn q2 r2)⟩
 .cases hf
end
section
variable{prog:Program}{w:World}{A:Around}{E:Value->Shared->Prop}{s:Shared}
def Hs{l:Addr}{vs:List Value}{Q:List Value->Shared->Prop}(hl:IsTup s.heap l vs.toArray)
 (h:Q vs { s with heap:=(s.heap.push (seqObj "list" #[] 0)).update s.heap.objs.size (Obj.mapSeq (·++vs.toArray)) }) (hsz:vs.length<=sizeLine:=by size_fits):
 wpAny (model prog w) A (collect (.ref l)) Q E s:=by
 obtain⟨o,ho,hc,n,hd⟩:=id hl;unfold collect;refine wpAny_bind (wpAny_runValue (codeAny_builtin entry_proto_collect' ?_));show wpAny _ _ (do again (.builtin "list.__iadd__" ⟨[<- newList [],.ref l],[]⟩)) _ _ s;refine wpAny_bind (wpAny_newList (wpAny_pure ⟨Code.quiet_builtin _ (by decide +kernel),codeAny_builtin entry_list_iadd' ?_⟩));show wpAny _ _ (Builtin.List.listExtendWith (.ref s.heap.objs.size) (.ref l) (.ref s.heap.objs.size)) _ _ { s with heap:=s.heap.push (seqObj "list" #[] 0) };unfold Builtin.List.listExtendWith;have ho':(s.heap.push (seqObj "list" #[] 0)).get? l=some o:=Heap.get?_push_of_some _ ho;refine wpAny_bind (wpAny_typeOf (T:="tuple") ⟨o,ho',hc⟩ ?_);have ht:(Value.type "tuple"==Value.type "tuple")=true:=by rfl
 rw[if_pos (by rw[ht];simp)];refine wpAny_bind (listItems_at ho' hd ?_);refine wpAny_bind (listItems_at (xs:=#[]) (n:=0) (Heap.get?_push_size _ rfl) rfl ?_);rw[if_neg (by simp)];refine wpAny_bind (listUpdate_at (xs:=#[]) (n:=0) (Heap.get?_push_size _ rfl) rfl ?_ (zero_le _) (by show(#[]++vs.toArray).size<=sizeLine+1;simp only[Array.size_append,size_toArray,length_nil];omega));refine wpAny_pure ?_;show wpAny (model prog w) A (do
  let o <- load s.heap.objs.size
  match o.data with
  |.seq xs _=>pure xs.toList
  | _=>unsupported "internal:collect") Q E { s with heap:=(s.heap.push (seqObj "list" #[] 0)).update s.heap.objs.size (Obj.mapSeq (·++vs.toArray)) }
 refine wpAny_bind (wpAny_load (get?_update_seq (Heap.get?_push_size _ rfl) _) ?_);show wpAny _ _ (pure ((#[]:Array Value)++vs.toArray).toList) Q E _;rw[show((#[]:Array Value)++vs.toArray).toList=vs by simp];exact wpAny_pure h
def L8{l:Addr}{vs:List Value}{ns:List Int}{Q:Value->Shared->Prop}(hl:IsTup s.heap l vs.toArray)(hI:IntsAre vs ns)(h64:vs.length<64)
 (h:∀(out:Array Value) (ns':List Int),IntsAre out.toList ns'->ns'.Perm ns->ns'.Pairwise (·<=·)->Q (.ref (s.heap.objs.size+1)) { s with heap:=sortedAll s.heap vs out }):
 wpAny (model prog w) A (call (.builtin "sorted") [.ref l]) Q E s:=by
 refine Calls.call_function_entry kind_sorted plain_sorted entry_sorted (args_sorted1 _) ?_;unfold Builtin.«sorted»;refine wpAny_bind (m:=checkCount "sorted" 1 1 _) (wpAny_pure ?_);refine wpAny_bind (Hs hl ?_);refine wpAny_bind (wpAny_newList ?_);have hsz:((s.heap.push (seqObj "list" #[] 0)).update s.heap.objs.size (Obj.mapSeq (·++vs.toArray))).objs.size=s.heap.objs.size+1:=by
  rw[Heap.size_update,size_push']
 have hoL:(((s.heap.push (seqObj "list" #[] 0)).update s.heap.objs.size (Obj.mapSeq (·++vs.toArray))).push (seqObj "list" vs.toArray 0)).get? (s.heap.objs.size+1)=some (seqObj "list" vs.toArray 0):=by
  rw[<- hsz];exact Heap.get?_push_size _ rfl
 show wpAny _ _ _ _ _ { s with heap:=((s.heap.push (seqObj "list" #[] 0)).update s.heap.objs.size (Obj.mapSeq (·++vs.toArray))).push (seqObj "list" vs.toArray 0) };rw[hsz];refine wpAny_bind (wpAny_holding (wpAny_call_entry slot_list_sort ⟨_,hoL,rfl⟩ entry_list_sort (list_sort_tree hoL hI h64 λout ns' a1 a2 a3=>⟨_,rfl,?_⟩) (args_list_sort _)));exact wpAny_pure ⟨_,rfl,h out ns' a1 a2 a3⟩
end
section
variable(K:PySem.W.Frag){X:Cx}
def IC:List V->Hp->VK->Prop:=λxs H Q=>∃(a:Addr) (ns:List Int),xs=[.ref a]/\SqT K H a (ns.map V.int)/\ns.length<64/\∀(p:Addr) (ns':List Int),H p=none->ns'.Perm ns->ns'.Pairwise (·<=·)->Q (.ref p) (upd H p (.lst (ns'.map V.int)))
def MR(hK:X.K=K:=by rfl):CallR X (.builtin "sorted") (IC K):=by
 subst hK;intro pins s σ H xs us Q I r h;obtain⟨a,ns,rfl,hq,h64,q⟩:=h;obtain⟨u,rfl,ru⟩:=By r;cases ru;obtain⟨its,rv,p,hz⟩:=I.tuple hq;have hlen:=rv.length;rw[length_map]at hlen;refine L8 p (Dd rv) (by omega) λout ns' a1 a2 a3=>?_;obtain⟨e,he⟩:=sortedAll_at s.heap its out;have hl':ns'.length=ns.length:=a2.length_eq;refine⟨.ref (s.heap.objs.size+1),_,I.laid (a:=s.heap.objs.size+1) (o:=.lst (ns'.map V.int)) (t':=s.toks) (λb o hb=>sortedAll_old hb) (le_succ _) ⟨?_,out.toList,e,N4 a1,he⟩,rfl,q _ _ (I.hok.fresh (le_succ _)) a2 a3⟩;rw[length_map,hl'];exact le_of_lt (Jp (by omega))
end
section
variable{K:PySem.W.Frag}
def OD{t:TE}{m:MI}(h:RRw K true t m):RN K (tCB (IC K) (B7 t Bv)) (DY m):=by
 and_intros;obtain⟨⟨⟨d1,g1⟩,h1⟩,e1,hm⟩:=c5 hm;obtain⟨ns,e2,hm⟩:=c5 hm;split at hm
 .next c=>
  cases hm;refine h ρ σ H hd ls _ d1 g1 _ hR hL e1 λρ1 H1 a x1 R1 G1 S1=>?_;obtain⟨xs,q,r⟩:=S1 ρ1 H1 _ .refl R1 G1;have e3:d1=ns.map λi=>.im (.int i):=Cf e2;rw[e3]at r;have:=ES r;subst this;refine⟨a,ns,rfl,q,c,λp ns' hp pm pw=>?_⟩;have:ns'=C0 ns:=JX (pm.trans (Bz ns).symm) pw (GY ns);subst this;obtain⟨R2,x2⟩:=R1.hid (ho:=.lst ((C0 ns).map V.int)) hp;exact hQ ρ1 _ p _ (x1.trans R1 x2) R2 (x1.none hR hp R1) (R1.out hp) AM ET
 .cases hm
def OK(K:PySem.W.Frag){X:Cx}{e:Expr}{te:TE}{mi:MI}{p pos:Pos}(hm:X.mg "sorted"=none)(ha:QR K true X e te mi)(hg:Gl X "sorted":=by rfl)(he:starEach [e] X.env=[(false,eval e X.env)]:=by rfl)(hK:X.K=K:=by rfl):QN K X (.Call (.Name "sorted" p) [e] [] pos) (tCB (IC K) (B7 te Bv)) (DY mi):=
 ⟨Fq (MR K hK) hg hm HE (Bi ha.p CI he) (by decide) (by decide) he rfl,OD ha.r⟩
end
end L2
namespace L2
abbrev FA:=G9 Aq HV
end L2
namespace L2
open PySem PySem.Spec PyProof.Rows PySem.W
inductive KeysOk(h:Heap):List Value->List Int->Prop
 |kI {ks:List Value} {kz:List Int}:IntsAre ks kz->KeysOk h ks kz
 |kP {ks:List Value} {ps:List (Int×Int)}:ks.length=ps.length->(∀(i:Nat) (v:Value) (p:Int×Int),ks[i]?=some v->ps[i]?=some p->PairAt h v p)->(∀p∈ps,pok p)->KeysOk h ks (ps.map Aa)
def KeysOk.len{h:Heap}{ks:List Value}{kz:List Int}(K:KeysOk h ks kz):kz.length=ks.length:=by
 cases K with
 |kI i=>have:=i.length;omega
 |kP hl _ _=>simp[hl]
theorem G0:∀{ks:List Value} {kz:List Int} {i:Nat},IntsAre ks kz->i<ks.length->∃t,ks.getD i .none=.int (kz.getD i 0) t
 |_,_,0,.cons ..,_=>⟨_,rfl⟩
 |_,_,i+1,.cons _ _ h,hi=>by
  obtain⟨t,e⟩:=G0 (i:=i) h (by simpa using hi);exact⟨t,by simpa using e⟩
section
variable{prog:Program}{w:World}{A:Around}{E:Value->Shared->Prop}{s:Shared}
def Sf{ks:List Value}{kz:List Int}(K:KeysOk s.heap ks kz)(h2:2<=ks.length){Q:SortKind->Shared->Prop}
 (h:∀κ,(∀(i j:Nat) (C:Bool->Shared->Prop),i<ks.length->j<ks.length->C (decide (kz.getD i 0<kz.getD j 0)) s->wpAny (model prog w) A (keyLt' κ (ks.getD i .none) (ks.getD j .none)) C (λ_ _=>False) s)->Q κ s):
 wpAny (model prog w) A (keyKind' ks.toArray) Q E s:=by
 cases K with
 |kI hk=>
  rw[ksk_kind (kz:=kz) (by simpa using hk) (by simpa using h2)];refine wpAny_pure (h _ λi j C hi hj hC=>?_);obtain⟨t,e1⟩:=G0 hk hi;obtain⟨u,e2⟩:=G0 hk hj;rw[e1,e2];exact kat_lt_int hC
 |@kP ps hl hp hok=>
  obtain⟨fs,t1,t2,t3⟩:=JJ hl hp;have tT:∀f∈fs,Looks (model prog w) s.heap (typeOf f) (Value.type "int"):=λf hf=>by
   obtain⟨i,t,rfl⟩:=t3 f hf;exact .of_pure rfl
  refine kat_kind t1 (by omega) tT rfl (h _ λi j C hi hj hC=>?_);have pi:ps[i]?=some (ps.getD i (0,0)):=by simp[show i<ps.length by omega]
  have pj:ps[j]?=some (ps.getD j (0,0)):=by simp[show j<ps.length by omega]
  have vi:ks[i]?=some (ks.getD i Value.none):=by simp[hi]
  have vj:ks[j]?=some (ks.getD j Value.none):=by simp[hj]
  have ei:(ps.map Aa).getD i 0=Aa (ps.getD i (0,0)):=by simp[show i<ps.length by omega]
  have ej:(ps.map Aa).getD j 0=Aa (ps.getD j (0,0)):=by simp[show j<ps.length by omega]
  rw[ei,ej]at hC;exact NW (hp i _ _ vi pi) (hp j _ _ vj pj) (hok _ (mem_of_getElem? pi)) (hok _ (mem_of_getElem? pj)) hC
def Va{vs:List Value}{kz:List Int}(hl:kz.length=vs.length){p:Array Nat}(pa:PAr vs.length p)(hs:STo (λi=>kz.getD i 0) p vs.length):KskOut false kz vs (p.toList.map λi=>vs.getD i Value.none):=by
 have sz:=pa.size;refine⟨p.toList.map λi=>(kz.getD i 0,vs.getD i Value.none),?_,by rw[map_map];rfl,?_⟩
 .have e:kz.zip vs=(List.range vs.length).map λi=>(kz.getD i 0,vs.getD i Value.none):=by
   refine ext_getElem? λi=>?_;by_cases hi:i<vs.length
   .have hi2:i<kz.length:=by omega
    rw[(List.getElem?_zip_eq_some (z:=(kz[i],vs[i]))).mpr ⟨by simp[hi2],by simp[hi]⟩];simp[hi,hi2]
   .rw[List.getElem?_eq_none (by simp;omega),List.getElem?_eq_none (by simp;omega)]
  rw[e];have:=Array.perm_iff_toList_perm.mp pa;simpa using this.map _
 .rw[pairwise_map,List.pairwise_iff_getElem];intro i j hi hj hij;simp only[Array.length_toList]at hi hj;have:=hs i j (by omega) (by omega);unfold kv at this;simpa [Array.getD,hi,hj]using this
def Vb{a kS:Addr}{e e1:Nat}{ks vs:List Value}{kz:List Int}{P:PySem.Fin->Shared->Prop}(nk:s.heap.get? kS=some (seqObj "list" ks.toArray e))(na:s.heap.get? a=some (seqObj "list" #[] e1))(hka:kS≠a)(K:KeysOk s.heap ks kz)(hl:ks.length=vs.length)(h64:vs.length<64)
 (h:∀out:List Value,KskOut false kz vs out->P (.done (.ret .none)) { s with heap:=(s.heap.update kS (Obj.mapSeq λ_=>#[])).update a (Obj.mapSeq λ_=>out.toArray) }):
 wpAny (model prog w) A (ksk_end a false vs.toArray e1 (.ref kS) ks.toArray) P E s:=by
 have hz:kz.length=vs.length:=by have:=K.len;omega
 have s1:=Heap.SameBut.update s.heap kS (Obj.mapSeq λ_=>(#[]:Array Value));have na1:(s.heap.update kS (Obj.mapSeq λ_=>(#[]:Array Value))).get? a=some (seqObj "list" #[] e1):=(s1.2 a hka.symm).trans na;have tail:∀(st:SortSt) (out:List Value),(arrOf st).map (·.2)=out.toArray->out.length=vs.length->failedOf st=none->KskOut false kz vs out->wpAny (model prog w) A (ksk_tail a false e1 (.ref kS) st) P E s:=by
  intro st out ho hlo hf so;unfold ksk_tail;dsimp only;refine wpAny_bind (listUpdate_at nk rfl ?_ (by simp[sizeLine_eq];omega) (zero_le _));refine wpAny_bind (wpAny_letGo ?_);refine wpAny_bind (seqEpoch_at na1 rfl ?_);simp only[Bool.false_eq_true,if_false];rw[ho];refine wpAny_bind (listUpdate_at na1 rfl ?_ (zero_le _) (by rw[size_toArray,sizeLine_eq];omega));rw[hf];simp only[bne_self_eq_false,Bool.false_eq_true,if_false];exact wpAny_pure (h out so)
 unfold ksk_end;simp only[Bool.false_eq_true,if_false];by_cases h2:vs.toArray.size<2
 .rw[if_pos h2,if_pos h2];refine wpAny_bind (wpAny_pure ?_);rw[StateT.run_pure];refine wpAny_bind (wpAny_pure ?_);dsimp only;refine tail _ vs ?_ rfl rfl ⟨kz.zip vs,.refl _,?_,?_⟩
  .show(ks.toArray.zip vs.toArray).map (·.2)=vs.toArray;apply Array.toList_inj.mp;simp only[Array.toList_map,Array.toList_zip];exact map_snd_zip (by omega)
  .exact(map_snd_zip (by omega)).symm
  .have hzl:(kz.zip vs).length<2:=by simp at h2 ⊢;omega
   cases hh:kz.zip vs with
   |nil=>exact .nil
   |cons z r=>
    cases r with
    |nil=>exact List.pairwise_singleton _ _
    |cons y t=>rw[hh]at hzl;exact absurd hzl (by simp)
 .rw[if_neg h2,if_neg h2];have h2':2<=vs.length:=by simp at h2;omega
  refine wpAny_bind (Sf K (by omega) λκ cmp=>?_);have hsz:(ks.toArray.zip vs.toArray).size=vs.length:=by simp[hl]
  have it:∀i,i<vs.length->kas_item (ks.toArray.zip vs.toArray) i=(ks.getD i .none,vs.getD i .none):=λi hi=>by
   unfold kas_item;have h1:i<ks.length:=by omega
   have h3:i<(ks.toArray.zip vs.toArray).size:=by omega
   have e:(ks.toArray.zip vs.toArray).getD i (Value.none,Value.none)=(ks.toArray.zip vs.toArray)[i]:=by simp only[Array.getD,h3,dite_true];rfl
   have e2:(ks.toArray.zip vs.toArray)[i]=(ks[i],vs[i]):=by rw[Array.getElem_zip];simp
   rw[e,e2];simp[h1,hi]
  have est:SortSt.mk' κ (ks.toArray.zip vs.toArray) #[] 7 none=kas_st κ (ks.toArray.zip vs.toArray) (List.toArray (List.range vs.length)):=by
   unfold kas_st;rw[<- hsz,kas_range]
  have ask:(kas_sort vs.length).kasWp (kas_cmp prog w A κ (ks.toArray.zip vs.toArray)) (λp s'=>s'=s/\PAr vs.length p/\STo (λi=>kz.getD i 0) p vs.length) s:=by
   refine PWp.wp (n:=vs.length) (r:=λi=>kz.getD i 0) (P:=λs'=>s'=s) (λi j C s' hi hj e hC=>?_) ((NA (by omega)).mono λp z s' e=>⟨e,z.1,z.2⟩) rfl;subst e;unfold kas_cmp;rw[it i hi,it j hj];exact cmp i j C (by omega) (by omega) (hC _ rfl)
  have run:=kas_runs (E:=E) (Q:=λ_ st' s'=>∃p:Array Nat,arrOf st'=p.map (kas_item (ks.toArray.zip vs.toArray))/\failedOf st'=none/\s'=s/\PAr vs.length p/\STo (λi=>kz.getD i 0) p vs.length) h2' h64 (λp st' s' x1 x2 x3 x4=>⟨p,x2,x3,x4⟩) ask;rw[<- est]at run;refine wpAny_bind (wpAny_mono run ?_ λ_ _ e=>e);rintro⟨⟨⟩,st'⟩ s' ⟨p,har,hf,rfl,pa,so⟩;dsimp only;refine tail st' (p.toList.map λi=>vs.getD i Value.none) ?_ ?_ hf (Va hz pa so)
  .rw[har];apply Array.toList_inj.mp;simp only[Array.toList_map,map_map,List.toList_toArray];refine map_congr_left λi hi=>?_;have hi':i<vs.length:=by
    have:=(Array.perm_iff_toList_perm.mp pa).mem_iff.mp hi;simpa using this
   exact congrArg Prod.snd (it i hi')
  .simp[pa.size]
end
def HQ(G:Hp->Prop)(tb:TE)(cap:St):List Int->Hp->(List V->Hp->Prop)->Prop
 |[],H,Q=>Q [] H
 |n::r,H,Q=>G H/\tb (some (.int n)::cap) H λk H1=>HQ G tb cap r H1 λks H2=>Q (k::ks) H2
def Hc(K:PySem.W.Frag)(H:Hp)(ks:List V)(kz:List Int):Prop:=ks=kz.map V.int∨∃ps:List (Int×Int),kz=ps.map Aa/\(∀p∈ps,pok p)/\ks.length=ps.length/\∀(i:Nat) (k:V) (p:Int×Int),ks[i]?=some k->ps[i]?=some p->∃x,k=.ref x/\SqT K H x [.int p.1,.int p.2]
def IV(kz ns ms:List Int):Prop:=∃zs:List (Int×Int),zs.Perm (kz.zip ns)/\zs.Pairwise (λa b=>a.1<=b.1)/\ms=zs.map (·.2)
def Do:Value->Int
 |.int n _=>n
 |_=>0
theorem M6:∀{vs:List Value} {ns:List Int},IntsAre vs ns->vs.map Do=ns
 |_,_,.nil=>rfl
 |_,_,.cons _ _ h=>by rw[map_cons,M6 h];rfl
theorem M7:∀{vs:List Value} {ns:List Int},IntsAre vs ns->∀v∈vs,∃t,v=.int (Do v) t
 |_,_,.nil,v,h=>by cases h
 |_,_,.cons _ _ h,v,hv=>by
  rcases mem_cons.mp hv with rfl|hv
  .exact⟨_,rfl⟩
  .exact M7 h v hv
theorem F9:∀{xs:List V} {vs:List Value} {ns:List Int},xs=ns.map V.int->Vals xs vs->IntsAre vs ns
 |_,_,[],e,h=>by subst e;cases h;exact .nil
 |_,_,n::r,e,h=>by
  subst e;cases h with
  |cons a b=>obtain⟨t,rfl⟩:=a;exact .cons n t (F9 rfl b)
theorem IY:∀{vs:List Value},(∀v∈vs,∃t,v=Value.int (Do v) t)->Vals ((vs.map Do).map V.int) vs
 |[],_=>.nil
 |v::r,h=>by
  refine .cons ?_ (IY λw hw=>h w (mem_cons_of_mem _ hw));obtain⟨t,e⟩:=h v mem_cons_self;exact⟨t,e⟩
def ZO{kz ns:List Int}{vs out:List Value}(hi:IntsAre vs ns)(so:KskOut false kz vs out):IV kz ns (out.map Do)/\∀v∈out,∃t,v=Value.int (Do v) t:=by
 obtain⟨zs,pm,rfl,pw⟩:=so;refine⟨⟨zs.map λz=>(z.1,Do z.2),?_,?_,by rw[map_map,map_map];rfl⟩,?_⟩
 .have:=pm.map λz:Int×Value=>(z.1,Do z.2)
  have e:((kz.zip vs).map λz:Int×Value=>(z.1,Do z.2))=kz.zip ns:=by
   rw[<- M6 hi,List.zip_map_right];rfl
  rwa [e]at this
 .rw[pairwise_map];exact pw.imp λh=>by simpa using h
 .intro v hv;obtain⟨z,hz,rfl⟩:=mem_map.mp hv;have:=pm.mem_iff.mp hz;exact M7 hi _ (of_mem_zip this).2
section
variable{X:Cx}{pins:List (Addr×Obj)}{σ:St}{H:Hp}{s:Shared}{a:Addr}
def Inv.adopt{o:HO}(I:Inv X pins σ H s)(f:FpOk X pins H a)(h0:X.s₀.heap.objs.size<=a)(new:ObjOk X.prog X.w (upd H a o) s.heap a o):Inv X pins σ (upd H a o) s:=by
 obtain⟨hn,hL,hfs,_,hc,hp⟩:=f;have nb:∀b u,H b=some u->b≠a:=λb u e=>AS e hn;have n0:∀b o,X.s₀.heap.get? b=some o->b≠a:=λb o e=>ne_of_lt (lt_of_lt_of_le (Heap.lt_size e) h0);refine⟨I.ok,I.os,I.bare,⟨I.base.keep,I.base.slot,λb o e n hx=>?_,I.base.there,λb xs e=>?_,λb o u e=>?_,λb ps e=>?_⟩,I.loc,I.cell,?_,λx c e=>?_,λp hp'=>?_,λb u e=>?_,I.len⟩
 .rw[AC (n0 b o e)];exact I.base.free b o e n hx
 .have:=I.base.tups b xs e;rw[AC (nb b _ this)];exact this
 .have:=I.base.frzs b o u e;rw[AC (nb b _ this)];exact this
 .obtain⟨m,e1⟩:=I.base.tbls b ps e;exact⟨m,by rw[AC (nb b _ e1)];exact e1⟩
 .rw[AC (λz=>hL z.symm)];exact I.free
 .rw[AC (hc x c e)];exact I.freeC x c e
 .obtain⟨q1,q2,q3⟩:=I.pin p hp';exact⟨q1,by rw[AC (hp p hp')];exact q2,q3⟩
 .by_cases z:b=a
  .subst z;rw[AM]at e;cases e;exact new
  .rw[AC z]at e;exact(I.hok b u e).stay (λ_ _ _ q=>q) (λd q=>by rw[AC (nb d _ q)];exact q) λd xs q=>by rw[AC (nb d _ q)];exact q
def VZ(I:Inv X pins σ H s){ks:List V}{kz:List Int}{us:List Value}(k:Hc X.K H ks kz)(r:Vals ks us):KeysOk s.heap us kz:=by
 rcases k with rfl|⟨ps,rfl,hok,hl,hp⟩
 .exact .kI (F9 rfl r)
 .refine .kP (by rw[<- r.length];exact hl) (λi v p e1 e2=>?_) hok;have hi:i<ks.length:=by rw[hl];exact(List.getElem?_eq_some_iff.mp e2).1
  have ek:ks[i]?=some ks[i]:=by simp[hi]
  obtain⟨x,ex,sq⟩:=hp i _ p ek e2;obtain⟨v',ev,rel⟩:=Hw r ek;rw[e1]at ev;cases ev;rw[ex]at rel;have rel:v=Value.ref x:=rel;subst rel;obtain⟨jts,rj,⟨o,ho,hc,n,hd⟩,_⟩:=I.tuple sq;cases rj with
  |cons r1 t1=>
   cases t1 with
   |cons r2 t2=>
    cases t2;obtain⟨t,rfl⟩:=r1;obtain⟨t',rfl⟩:=r2;exact⟨x,o,t,t',n,rfl,ho,hc,hd⟩
end
section
variable{X:Cx}{pins:List (Addr×Obj)}{σ:St}{H:Hp}{s:Shared}
def Inv.turn1{b:Addr}{o:Obj}{h':Heap}{t':Nat}(I:Inv X ((b,o)::pins) σ H s)(f:FpOk X pins H b)(hs:Heap.SameBut b s.heap h'):Inv X pins σ H { s with heap:=h',toks:=t' }:=by
 have J:Inv X pins σ H s:=I.pins_of λp hp=>I.pin p (mem_append_right _ (mem_cons_of_mem _ hp));obtain⟨hn,hL,_,h1,h2,h3⟩:=f;exact J.turned (λc u n e=>(hs.2 c n).trans e) hn hL h1 h2 h3
def FpOk.more{b c:Addr}{o:Obj}(f:FpOk X pins H b)(h:c≠b):FpOk X ((c,o)::pins) H b:=by
 obtain⟨a1,a2,a3,a4,a5,a6⟩:=f;refine⟨a1,a2,a3,a4,a5,λp hp=>?_⟩;rcases mem_append.mp hp with q|q
 .exact a6 p (mem_append_left _ q)
 .rcases mem_cons.mp q with rfl|q
  .exact h
  .exact a6 p (mem_append_right _ q)
def Inv.repin{b:Addr}{o:Obj}(I:Inv X pins σ H s)(f:FpOk X pins H b)(e:s.heap.get? b=some o)(hd:∀v,o.data≠.cell v):Inv X ((b,o)::pins) σ H s:=
 I.pins_of λp hp=>by
  rcases mem_cons.mp hp with rfl|hp
  .exact⟨e,f.1,f.2.1,f.2.2.1,hd⟩
  .exact I.pin p (mem_append_right _ hp)
def O2{l:Value}{f:Addr}{ns:List Int}{G:Hp->Prop}{tb:TE}{cap:St}{Q:VK}{E:Value->Shared->Prop}(I:Inv X pins σ H s)(h64:ns.length<64)
 (hcol:∀(Q:List Value->Shared->Prop) (E:Value->Shared->Prop),(∀(g:Heap) (tk:Nat) (vs:List Value),(∀b o,s.heap.get? b=some o->g.get? b=some o)->IntsAre vs ns->Q vs { s with heap:=g,toks:=tk })->wpAny (model X.prog X.w) X.A.in1 (collect l) Q E s)
 (turn:∀(pins':List (Addr×Obj)) (H1:Hp) (s1:Shared) (n:Int) (u:Value) (Q1:VK),(∀p∈pins,p∈pins')->Inv X pins' σ H1 s1->RelV (.int n) u->G H1->tb (some (.int n)::cap) H1 Q1->wpAny (model X.prog X.w) X.A.in1.in1 (call (.ref f) [u]) (EP X pins' σ Q1) (λ_ _=>False) s1)
 (h:HQ G tb cap ns H λks H3=>∃kz,Hc X.K H3 ks kz/\∀p ms,H3 p=none->IV kz ns ms->Q (.ref p) (upd H3 p (.lst (ms.map V.int)))):
 wpAny (model X.prog X.w) X.A (call (.builtin "sorted") [l] [(Str.ofString "key",.ref f)]) (EP X pins σ Q) E s:=by
 refine call_function_entry_kw kind_sorted plain_sorted entry_sorted (ksk_s1 _ _) ?_;unfold Builtin.«sorted»;refine wpAny_bind (m:=checkCount "sorted" 1 1 _) (wpAny_pure ?_);refine wpAny_bind (hcol _ _ λg tk vs keep0 hi=>?_)
 replace I:Inv X pins σ H { s with heap:=g,toks:=tk }:=I.kept (t':=tk) keep0
 clear hcol;generalize { s with heap:=g,toks:=tk }=s at I ⊢;clear keep0 g tk;have line:vs.length<=sizeLine:=by have:=hi.length;rw[sizeLine_eq];omega
 have h64:vs.length<64:=by have:=hi.length;omega
 refine wpAny_bind (wpAny_newList ?_ line);show wpAny _ _ _ _ _ { s with heap:=s.heap.push (seqObj "list" vs.toArray 0) };have hoL:(s.heap.push (seqObj "list" vs.toArray 0)).get? s.heap.objs.size=some (seqObj "list" vs.toArray 0):=Heap.get?_push_size _ rfl;have keep1:∀b o,s.heap.get? b=some o->(s.heap.push (seqObj "list" vs.toArray 0)).get? b=some o:=λb o q=>Heap.get?_push_of_some _ q;have sz1:(s.heap.push (seqObj "list" vs.toArray 0)).objs.size=s.heap.objs.size+1:=by rw[size_push']
 generalize s.heap.push (seqObj "list" vs.toArray 0)=h1 at hoL keep1 sz1 ⊢;have fa:∀H',H' s.heap.objs.size=none->FpOk X pins H' s.heap.objs.size:=λH' hn=>I.fpOk (le_refl _) hn;have fk:∀H',H' (s.heap.objs.size+2)=none->FpOk X pins H' (s.heap.objs.size+2):=λH' hn=>I.fpOk (by omega) hn;refine wpAny_bind (wpAny_holding (wpAny_call_entry_kw slot_list_sort ⟨_,hoL,rfl⟩ entry_list_sort ?_ (ksk_l1 _ _)));show wpAny (model X.prog X.w) X.A.in1.in1 (Builtin.«list.sort» ⟨[.ref (s.heap.objs.size)],[(Str.ofString "key",.ref f)]⟩) _ _ _;rw[ksk_t1];have u1:=Heap.SameBut.update h1 (s.heap.objs.size) (Obj.mapSeq λ_=>(#[]:Array Value));obtain⟨e1,ho1⟩:∃e1,(h1.update (s.heap.objs.size) (Obj.mapSeq λ_=>(#[]:Array Value))).get? (s.heap.objs.size)=some (seqObj "list" #[] e1):=⟨_,get?_update_seq hoL λ_=>#[]⟩
 have sz2:(h1.update (s.heap.objs.size) (Obj.mapSeq λ_=>(#[]:Array Value))).objs.size=s.heap.objs.size+1:=by rw[Heap.size_update,sz1]
 have keep2:∀b o,s.heap.get? b=some o->(h1.update (s.heap.objs.size) (Obj.mapSeq λ_=>(#[]:Array Value))).get? b=some o:=λb o q=>(u1.2 b (ne_of_lt (Heap.lt_size q))).trans (keep1 b o q);unfold ksk_tree;refine wpAny_bind (listItems_at hoL rfl ?_);refine wpAny_bind (listUpdate_at hoL rfl ?_ (by rw[size_toArray,sizeLine_eq];omega) (zero_le _));refine wpAny_bind (seqEpoch_at ho1 rfl ?_);generalize h1.update (s.heap.objs.size) (Obj.mapSeq λ_=>(#[]:Array Value))=h2 at ho1 sz2 keep2 ⊢;refine wpAny_bind (wpAny_newTuple ?_ (by show vs.length<=_;exact line));refine wpAny_bind (wpAny_newList ?_ (zero_le _));have sz3:(h2.push (seqObj "tuple" vs.toArray 0)).objs.size=s.heap.objs.size+2:=by rw[size_push',sz2]
 have okS:((h2.push (seqObj "tuple" vs.toArray 0)).push (seqObj "list" #[] 0)).get? (s.heap.objs.size+2)=some (seqObj "list" #[] 0):=by rw[<- sz3];exact Heap.get?_push_size _ rfl
 have oa4:((h2.push (seqObj "tuple" vs.toArray 0)).push (seqObj "list" #[] 0)).get? (s.heap.objs.size)=some (seqObj "list" #[] e1):=Heap.get?_push_of_some _ (Heap.get?_push_of_some _ ho1);have keep4:∀b o,s.heap.get? b=some o->((h2.push (seqObj "tuple" vs.toArray 0)).push (seqObj "list" #[] 0)).get? b=some o:=λb o q=>Heap.get?_push_of_some _ (Heap.get?_push_of_some _ (keep2 b o q));have ekS:∀o:Obj,Value.ref ((({ s with heap:=h2.push o }:Shared)).heap.objs.size)=Value.ref (h2.push o).objs.size:=λ_=>rfl;refine wpAny_holding ?_;have goal:∀kS:Addr,kS=s.heap.objs.size+2->wpAny (model X.prog X.w) X.A.in1.in1 (ksk_rest (s.heap.objs.size) (.ref f) false vs.toArray e1 (.ref kS)) (λfin s'=>∃v,fin=PySem.Fin.done (.ret v)/\wpAny (model X.prog X.w) X.A.in1 (ret (.ref (s.heap.objs.size))) (λfin s'=>∃v,fin=PySem.Fin.done (.ret v)/\EP X pins σ Q v s') E s') E { s with heap:=(h2.push (seqObj "tuple" vs.toArray 0)).push (seqObj "list" #[] 0) }:=by
  intro kS ek;rw[ek];have fresh0:H (s.heap.objs.size)=none/\H (s.heap.objs.size+2)=none:=⟨I.hok.fresh (by omega),I.hok.fresh (by omega)⟩
  have I4:Inv X pins σ H { s with heap:=(h2.push (seqObj "tuple" vs.toArray 0)).push (seqObj "list" #[] 0) }:=I.kept (t':=s.toks) keep4;have nak:s.heap.objs.size≠s.heap.objs.size+2:=by omega
  have I5:=(I4.repin (fk H fresh0.2) okS (λv z=>by cases z)).repin ((fa H fresh0.1).more nak.symm) oa4 (λv z=>by cases z);unfold ksk_rest;refine wpAny_bind (wpAny_rule ?_)
  first
   |rw[List.forIn_toArray]
   |(rw[<- Array.forIn_toList];simp only[List.toList_toArray])
   |rw[<- Array.forIn_toList]
  refine wpAny_bind (ksk_fold (λi s'=>∃(H':Hp) (kA:Array Value) (e:Nat) (ks:List V),Inv X ((s.heap.objs.size,seqObj "list" #[] e1)::(s.heap.objs.size+2,seqObj "list" kA e)::pins) σ H' s'/\Vals ks kA.toList/\kA.size=i /\
   HQ G tb cap (ns.drop i) H' λks' H3=>∃kz,Hc X.K H3 (ks++ks') kz/\∀p ms,H3 p=none->IV kz ns ms->Q (.ref p) (upd H3 p (.lst (ms.map V.int)))) vs 0 _ ⟨H,#[],0,[],I5,.nil,rfl,h⟩ ?step ?done)
  case step=>
   rintro j x s' hx ⟨H',kA,e,ks,J,rk,hsz,hgo⟩;simp only[Nat.zero_add]at hsz hgo ⊢;have hj:j<vs.length:=(List.getElem?_eq_some_iff.mp hx).1;have hjn:j<ns.length:=by have:=hi.length;omega
   have enx:ns[j]?=some ns[j]:=by simp[hjn]
   have edr:ns.drop j=ns[j]::ns.drop (j+1):=drop_eq_getElem_cons hjn;rw[edr]at hgo;obtain⟨hG,hgo⟩:=hgo;have rx:RelV (.int ns[j]) x:=by
    obtain⟨t,et⟩:=G0 hi hj;have:vs.getD j .none=x:=by simp[List.getD,hx]
    rw[this]at et;have:ns.getD j 0=ns[j]:=by simp[hjn]
    rw[this]at et;exact⟨t,et⟩
   refine wpAny_bind (wpAny_attempt (wpAny_mono (turn _ H' s' ns[j] x _ (λp hp=>mem_cons_of_mem _ (mem_cons_of_mem _ hp)) J rx hG hgo) (λv s'' he=>?_) λ_ _ hF=>hF.elim));obtain⟨k,H2,J2,r2,hgo2⟩:=he;dsimp only;have pk:=J2.pin (s.heap.objs.size+2,seqObj "list" kA e) (mem_append_right _ (mem_cons_of_mem _ mem_cons_self));have pa:=J2.pin (s.heap.objs.size,seqObj "list" #[] e1) (mem_append_right _ mem_cons_self);have u2:=Heap.SameBut.update s''.heap (s.heap.objs.size+2) (Obj.mapSeq (·.push v));obtain⟨c2,hc2⟩:∃c2,(s''.heap.update (s.heap.objs.size+2) (Obj.mapSeq (·.push v))).get? (s.heap.objs.size+2)=some (seqObj "list" (kA.push v) c2):=⟨_,get?_update_seq pk.1 (·.push v)⟩
   refine wpAny_bind (listUpdate_at pk.1 rfl ?_ (by rw[sizeLine_eq];omega) (le_trans (Nat.le_of_eq (Array.size_push ..)) (by rw[sizeLine_eq];omega)));have J3:Inv X ((s.heap.objs.size+2,seqObj "list" kA e)::pins) σ H2 s'':=J2.pins_of λp hp=>J2.pin p (mem_append_right _ (mem_cons_of_mem _ hp));have J4:Inv X pins σ H2 { s'' with heap:=s''.heap.update (s.heap.objs.size+2) (Obj.mapSeq (·.push v)) }:=J3.turn1 (t':=s''.toks) (fk H2 pk.2.1) u2;have oa:(s''.heap.update (s.heap.objs.size+2) (Obj.mapSeq (·.push v))).get? (s.heap.objs.size)=some (seqObj "list" #[] e1):=(u2.2 _ nak).trans pa.1;have J5:=(J4.repin (fk H2 pk.2.1) hc2 (λv z=>by cases z)).repin ((fa H2 pa.2.1).more nak.symm) oa (λv z=>by cases z);refine wpAny_pure ⟨rfl,H2,kA.push v,c2,ks++[k],J5,?_,by simp[hsz],?_⟩
   .rw[Array.toList_push];exact rk.append (.cons r2 .nil)
   .simpa [append_assoc]using hgo2
  case done=>
   rintro s' ⟨H',kA,e,ks,J,rk,hsz,hgo⟩;have hdr:ns.drop (0+vs.length)=[]:=List.drop_of_length_le (by have:=hi.length;omega);rw[hdr]at hgo;obtain⟨kz,kv,fin⟩:∃kz,Hc X.K H' (ks++[]) kz/\∀p ms,H' p=none->IV kz ns ms->Q (.ref p) (upd H' p (.lst (ms.map V.int))):=hgo;rw[append_nil]at kv;have pk:=J.pin (s.heap.objs.size+2,seqObj "list" kA e) (mem_append_right _ (mem_cons_of_mem _ mem_cons_self));have pa:=J.pin (s.heap.objs.size,seqObj "list" #[] e1) (mem_append_right _ mem_cons_self);refine wpAny_bind (listItems_at pk.1 rfl ?_);have ekA:kA=kA.toList.toArray:=by simp
   rw[ekA]at pk ⊢;have lk:kA.toList.length=vs.length:=by rw[Array.length_toList];omega
   refine Vb pk.1 pa.1 nak.symm (VZ J kv rk) lk h64 λout so=>⟨_,rfl,wpAny_pure ⟨_,rfl,?_⟩⟩
   obtain⟨on,oi⟩:=ZO hi so;have u5:=Heap.SameBut.update s'.heap (s.heap.objs.size+2) (Obj.mapSeq λ_=>(#[]:Array Value));have oa:(s'.heap.update (s.heap.objs.size+2) (Obj.mapSeq λ_=>(#[]:Array Value))).get? (s.heap.objs.size)=some (seqObj "list" #[] e1):=(u5.2 _ nak).trans pa.1;have u6:=Heap.SameBut.update (s'.heap.update (s.heap.objs.size+2) (Obj.mapSeq λ_=>(#[]:Array Value))) (s.heap.objs.size) (Obj.mapSeq λ_=>out.toArray);obtain⟨c6,hc6⟩:∃c6,((s'.heap.update (s.heap.objs.size+2) (Obj.mapSeq λ_=>(#[]:Array Value))).update (s.heap.objs.size) (Obj.mapSeq λ_=>out.toArray)).get? (s.heap.objs.size)=some (seqObj "list" out.toArray c6):=⟨_,get?_update_seq oa λ_=>out.toArray⟩
   have J3:Inv X ((s.heap.objs.size+2,seqObj "list" kA e)::pins) σ H' s':=J.pins_of λp hp=>J.pin p (mem_append_right _ (mem_cons_of_mem _ hp));have J4:Inv X pins σ H' { s' with heap:=s'.heap.update (s.heap.objs.size+2) (Obj.mapSeq λ_=>(#[]:Array Value)) }:=J3.turn1 (t':=s'.toks) (fk H' pk.2.1) u5;have J5:Inv X pins σ H' { s' with heap:=(s'.heap.update (s.heap.objs.size+2) (Obj.mapSeq λ_=>(#[]:Array Value))).update (s.heap.objs.size) (Obj.mapSeq λ_=>out.toArray) }:=(J4.repin (fa H' pa.2.1) oa (λv z=>by cases z)).turn1 (t':=s'.toks) (fa H' pa.2.1) u6;have lo:out.length<64:=by
    obtain⟨zs,pm,rfl,_⟩:=so;have:=pm.length_eq;simp at this ⊢;omega
   have J6:=J5.adopt (o:=.lst ((out.map Do).map V.int)) (fa H' pa.2.1) (I.sz) ⟨by simp[sizeLine_eq];omega,out,c6,IY oi,hc6⟩;exact⟨.ref _,_,J6,rfl,fin _ _ pa.2.1 on⟩
 exact goal _ sz3
end
def Src(K:PySem.W.Frag)(H:Hp)(a:Addr)(ns:List Int):Prop:=SqT K H a (ns.map V.int)∨∃n:Nat,n<64/\H a=some (.rng 0 n)/\ns=(List.range n).map λk:Nat=>(k:Int)
def IZ(K:PySem.W.Frag)(P:Addr)(q:Str)(pos:Pos)(ix:List Nat)(te tb:TE):TE:=λσ H Q=>te σ H λv H1=>∃(a:Addr) (ns:List Int) (ps:Array Value),v=.ref a/\Src K H1 a ns/\ns.length<64/\H1 P=some (.tbl ps)/\Dt H1 q pos ps /\
 ∀H2 c,TabStep P q pos H1 H2->H2 c=some (.ext (cdF c q))->HQ (λH=>H c=some (.ext (cdF c q))) tb (ix.map λi=>(σ[i]?).join) ns H2 λks H3=>∃kz,Hc K H3 ks kz/\∀p ms,H3 p=none->IV kz ns ms->Q (.ref p) (upd H3 p (.lst (ms.map V.int)))
def TabStep.rd{P:Addr}{q:Str}{pos:Pos}{H H':Hp}{ps:Array Value}(t:TabStep P q pos H H')(hP:H P=some (.tbl ps)){a:Addr}{xs:List V}(r:Rd H a (.tup xs)):Rd H' a (.tup xs):=by
 rcases t with rfl|⟨c,hc,_,rfl⟩
 .exact r
 .have ne:∀u,H a=some u->(∀ps,u≠.tbl ps)->upd (upd H P (.tbl #[rawInt pos.line,rawInt pos.col,.ref c])) c (.ext (cdF c q)) a=some u:=λu e n=>by
   rw[AC (AS e hc),AC (λz=>by subst z;rw[hP]at e;cases e;exact n _ rfl)];exact e
  rcases r with r|⟨o,r⟩
  .exact .inl (ne _ r λps z=>by cases z)
  .exact .inr ⟨o,ne _ r λps z=>by cases z⟩
def TabStep.sqt{K:PySem.W.Frag}{P:Addr}{q:Str}{pos:Pos}{H H':Hp}{ps:Array Value}(t:TabStep P q pos H H')(hP:H P=some (.tbl ps)){a:Addr}{xs:List V}(r:SqT K H a xs):SqT K H' a xs:=by
 rcases r with r|r
 .exact .inl (t.rd hP r)
 .exact .inr r
def TabStep.src{K:PySem.W.Frag}{P:Addr}{q:Str}{pos:Pos}{H H':Hp}{ps:Array Value}(t:TabStep P q pos H H')(hP:H P=some (.tbl ps)){a:Addr}{ns:List Int}(r:Src K H a ns):Src K H' a ns:=by
 rcases r with r|⟨n,h,e,z⟩
 .exact .inl (t.sqt hP r)
 .refine .inr ⟨n,h,?_,z⟩;rcases t with rfl|⟨c,hc,_,rfl⟩
  .exact e
  .rw[AC (AS e hc),AC (λz=>by subst z;rw[hP]at e;cases e)];exact e
def Oc{n:Nat}{acc:Array Value}(it:ItemsOf (λi v=>∃t,v=.int (0+i*1) t) acc n):IntsAre acc.toList ((List.range n).map λk:Nat=>(k:Int)):=by
 have:=Oa (lo:=0) it;have e:FS 0 n=((List.range n).map λk:Nat=>(k:Int)).map V.int:=by
  have:∀(lo:Nat) (n:Nat),FS (lo:Int) n=((List.range' lo n).map λk:Nat=>(k:Int)).map V.int:=by
   intro lo n
   induction n generalizing lo with
   |zero=>rfl
   |succ n ih=>rw[FS,List.range'_succ];simp only[map_cons];rw[<- ih (lo+1)];rfl
  rw[List.range_eq_range'];exact this 0 n
 rw[e]at this;exact F9 rfl this
section
variable{X:Cx}{c P:Addr}{scope:Scope}{fr:List Str}{ix:List Nat}{prm:Str}{params:Arguments}{body e:Expr}{p pos lpos kpos:Pos}{te tb:TE}
def SJ(LA:LamAt X c P)(S:CSc X scope fr ix)(L:LSc scope prm)(hr:Room 3 X.A)(hcm:X.calm=true)(hg:Gl X "sorted")(hm:X.mg "sorted"=none)
 (hbind:∀(cl:List (Str×Addr)) (pm cd ctv us:Value),bindArgs (kla_fn "<lambda>" (X.env.qual++"<lambda>") params body scope cl pm cd ctv) ⟨[us],[]⟩=pure [(prm,us)])
 (he:PE X e te) (hb:∀(f:Addr) (cd:Value) (s:Shared) (H:Hp),PE (lCx X X.A.in1.in1 (prm::fr) (X.env.qual++"<lambda>") scope f cd (AX X.env.cells scope.names []) s H) body tb)
 (hdef:defaultsOf params X.env=([],[]):=by rfl) (hs:starEach [e] X.env=[(false,eval e X.env)]:=by rfl):
 PE X (.Call (.Name "sorted" p) [e] [⟨some "key",.Lambda params body scope lpos,kpos⟩] pos) (IZ X.K P (X.env.qual++"<lambda>") lpos ix te tb):=by
 intro pins s σ H Q I h;have PAe:PA X [e] (B7 te Bv):=Bi he CI hs;refine wpAny_Call_Name_kw (Ca (u:=.builtin "sorted") I hg hm HE ?_);have pl:(backTo pos (starEach [e] X.env)).any (·.1)=false:=by rw[hs];rfl
 refine callWith_builtin_kwB pl rfl (evalArgs_kw2 (env:=X.env) (e:=e) (rest:=[]) (kws:=[⟨some "key",.Lambda params body scope lpos,kpos⟩]) rfl (thn (PAe pos pins s σ H (λvs H1=>match vs with
  |[v]=>∃(a:Addr) (ns:List Int) (ps:Array Value),v=.ref a/\Src X.K H1 a ns/\ns.length<64/\H1 P=some (.tbl ps)/\Dt H1 (X.env.qual++"<lambda>") lpos ps /\
   ∀H2 c,TabStep P (X.env.qual++"<lambda>") lpos H1 H2->H2 c=some (.ext (cdF c (X.env.qual++"<lambda>")))->HQ (λH=>H c=some (.ext (cdF c (X.env.qual++"<lambda>")))) tb (ix.map λi=>(σ[i]?).join) ns H2 λks H3=>∃kz,Hc X.K H3 ks kz/\∀p ms,H3 p=none->IV kz ns ms->Q (.ref p) (upd H3 p (.lst (ms.map V.int)))
  | _=>False) I h) λus s1 hq=>?_) hs)
 obtain⟨vs,H1,I1,r,q⟩:=hq
 match vs,q with
 |[v],q=>
 obtain⟨a,ns,ps,rfl,sq,h64,hP,hg1,go⟩:=q;obtain⟨u,rfl,ru⟩:=By r;cases ru;show wpAny _ _ (evalAll [(do let v <- eval (.Lambda params body scope lpos) X.env;standAt pos;pure v)]) _ _ s1;refine wpAny_evalAll_cons (wpAny_bind (IM S LA I1 hdef hP hg1 λf cd ctv H2 s2 I2 M=>wpAny_bind (wpAny_standAt (wpAny_pure (wpAny_evalAll_nil ?_)))));show wpAny _ _ (call (.builtin "sorted") [.ref a] [(Str.ofString "key",.ref f)]) _ _ s2;have sq2:=M.step.src hP sq;obtain⟨c',rfl,hc'⟩:=M.cdc;have ff:FpOk X pins H2 f:=I1.fpOk M.new M.fre;have I3:=I2.repin ff M.fn (λv z=>by cases z);refine wpAny_mono (O2 (pins:=(f,_)::pins) I3 h64 (λQ E hq=>?_) (λpins' H' s' n u Q1 sub J ru hG hq=>?_) (go H2 c' M.step hc')) (λv s' hv=>?_) λ_ _ z=>z
 .rcases sq2 with sq2|⟨n,hn,er,rfl⟩
  .obtain⟨its,rv,tp,_⟩:=I2.tuple sq2;have hi:IntsAre its ns:=F9 rfl rv;have hlen:its.length<=sizeLine:=by have:=hi.length;rw[sizeLine_eq];omega
   refine Hs tp (hq _ s2.toks its (λb o q=>?_) hi) hlen;have hlt:b<s2.heap.objs.size:=Heap.lt_size q;rw[Heap.get?_update_ne _ _ _ _ (ne_of_lt hlt),Heap.get?_push_ne _ _ _ (ne_of_lt hlt)];exact q
  .obtain⟨t,u,v,hr'⟩:∃t u v,s2.heap.get? a=some { cls:=.type "range",data:=.fields #[.int 0 t,.int n u,.int 1 v] }:=I2.hok a _ er;refine Ml (n:=n) (I2.ok.hd hcm) hr' (small_one (by omega) (by omega) (by omega) (by omega)) (by rw[Yz];omega) (by omega) λg tk acc kp it=>hq g tk _ kp (Oc it)
 .have pf:=J.pin (f,_) (mem_append_right _ (sub _ mem_cons_self));exact M0 (A:=X.A.in1.in1) (f:=f) S L J rfl hr.in1.in1 pf.1 (J.hok c' _ hG).1 (λus=>hbind _ _ _ _ us) (λs H=>hb f _ s H) ru hq
 .obtain⟨y,H',J,ry,qy⟩:=hv;exact⟨y,H',J.pins_of λp hp=>J.pin p (mem_append_right _ (mem_cons_of_mem _ hp)),ry,qy⟩
end
def Ha(K:PySem.W.Frag)(P:Addr)(q:Str)(pos:Pos):Prop:=∃p':Pos,(P,q,p')∈CY K/\((CY K).map (·.1)).Nodup/\p'.line=pos.line/\p'.col=pos.col
open Classical in
def E3(ds:List D):Option (List Int):=match Al ds with
 |some ns=>some ns
 |none=>match Cr ds with
  |some ps=>if ∀p∈ps,pok p then some (ps.map Aa)else none
  |none=>none
open Classical in
def EI(mb:ME)(cap:Ls)(hd:Hd):List Int->Option (List D)
 |[]=>some []
 |n::r=>match mb (some (.im (.int n))::cap) hd with
  |some (k,h)=>match EI mb cap hd r with
   |some ks=>if h=hd then some (k::ks)else none
   |none=>none
  |none=>none
theorem K3{mb:ME}{cap:Ls}{hd:Hd}:∀{ns:List Int} {ks:List D},EI mb cap hd ns=some ks->ks.length=ns.length
 |[],ks,e=>by cases e;rfl
 |n::r,ks,e=>by
  unfold EI at e;split at e
  .split at e
   .next ks' e2=>
    split at e
    .cases e;simp[K3 e2]
    .cases e
   .cases e
  .cases e
def OZ{ds:List D}{kz:List Int}(e:E3 ds=some kz):kz.length=ds.length:=by
 unfold E3 at e;split at e
 .next ns e6=>cases e;rw[Cf e6];simp
 .split at e
  .next ps e6=>
   split at e
   .cases e;rw[Gj e6];simp
   .cases e
  .cases e
def Ez(kz ns:List Int):List Int:=((kz.zip ns).mergeSort λa b=>decide (a.1<=b.1)).map (·.2)
def SN{kz ns ms:List Int}(nd:kz.Nodup)(hl:kz.length=ns.length)(o:IV kz ns ms):ms=Ez kz ns:=by
 obtain⟨zs,pm,pw,rfl⟩:=o;have pm2:((kz.zip ns).mergeSort λa b=>decide (a.1<=b.1)).Perm (kz.zip ns):=mergeSort_perm ..;have pw2:((kz.zip ns).mergeSort λa b=>decide (a.1<=b.1)).Pairwise λa b=>a.1<=b.1:=by
  have:=pairwise_mergeSort (le:=λa b:Int×Int=>decide (a.1<=b.1)) (by intro a b c h1 h2;simp at *;omega) (by intro a b;simp;omega) (kz.zip ns);exact this.imp (by simp)
 have inj:∀a∈kz.zip ns,∀b∈kz.zip ns,a.1=b.1->a=b:=by
  intro a ha b hb e;obtain⟨i,hi⟩:=mem_iff_getElem?.mp ha;obtain⟨j,hj⟩:=mem_iff_getElem?.mp hb;obtain⟨i1,i2⟩:=List.getElem?_zip_eq_some.mp hi;obtain⟨j1,j2⟩:=List.getElem?_zip_eq_some.mp hj;rw[e]at i1;have:i=j:=(List.getElem?_inj (List.getElem?_eq_some_iff.mp i1).1 nd).mp (i1.trans j1.symm);subst this;rw[i2]at j2;exact Prod.ext e (Option.some.inj j2)
 have:zs=(kz.zip ns).mergeSort λa b=>decide (a.1<=b.1):=
  (pm.trans pm2.symm).eq_of_pairwise (le:=λa b=>a.1<=b.1) (λa b ha hb h1 h2=>inj a (pm.mem_iff.mp ha) b (pm2.mem_iff.mp hb) (Int.le_antisymm h1 h2)) pw pw2
 rw[this];rfl
def Ko(m:MA):Ls->Hd->Option (List Int×Hd):=λls hd=>(m ls hd).bind λp=>match p.1 with
 |[.im (.int j)]=>if 0<=j/\j<64 then some ((List.range j.toNat).map λk:Nat=>(k:Int),p.2)else none
 |_=>none
open Classical in
def E1(src:Ls->Hd->Option (List Int×Hd))(ix:List Nat)(mb:ME):MA:=λls hd=>(src ls hd).bind λp=>(EI mb (ix.map λi=>(ls[i]?).join) p.2 p.1).bind λks=>(E3 ks).bind λkz=>
 if p.1.length<64/\kz.Nodup then some ((Ez kz p.1).map λi=>.im (.int i),p.2)else none
abbrev NV(m:MA)(ix:List Nat)(mb:ME):MA:=E1 (Ko m) ix mb
def Sz(K:PySem.W.Frag)(te:TE)(src:Ls->Hd->Option (List Int×Hd)):Prop:=∀(ρ:List Addr) (σ:St) (H:Hp) (hd:Hd) (ls:Ls) (Q:VK) (ns:List Int) (hd':Hd),RH K ρ H hd->RL K ρ H ls σ->src ls hd=some (ns,hd') ->
 (∀ρ1 H1 a,Ext ρ H ρ1 H1->RH K ρ1 H1 hd'->Src K H1 a ns->Q (.ref a) H1)->te σ H Q
section
variable{K:PySem.W.Frag}{ρ:List Addr}{H:Hp}{hd:Hd}
def Hy{P:Addr}{q:Str}{pos:Pos}{H2:Hp}{ps:Array Value}(R:RH K ρ H hd)(hP:H P=some (.tbl ps))(t:TabStep P q pos H H2)(TI:Ha K P q pos):RH K ρ H2 hd/\Ext ρ H ρ H2:=by
 rcases t with rfl|⟨c,hc,ncP,rfl⟩
 .exact⟨R,.refl⟩
 .obtain⟨p',et,nd,e1,e2⟩:=TI;have nP:∀b,b∈ρ->b≠P:=λb hb z=>by
   subst z;rcases R.mut hb with⟨y,w⟩|⟨y,w⟩<;>(rw[hP]at w;cases w)
  have nc:∀b u,H b=some u->b≠c:=λb u e=>AS e hc;have ex:Ext ρ H ρ (upd (upd H P (.tbl #[rawInt pos.line,rawInt pos.col,.ref c])) c (.ext (cdF c q))):=by
   refine⟨⟨[],by simp,by simp⟩,λb o e nb nt'=>?_,λb ps e=>?_⟩
   .rw[AC (nc b _ e),AC (λz=>by subst z;rw[hP]at e;cases e;exact nt' _ rfl)];exact e
   .by_cases z:b=P
    .subst z;exact⟨_,by rw[AC (nc _ _ hP),AM]⟩
    .exact⟨ps,by rw[AC (nc b _ e),AC z];exact e⟩
  refine⟨⟨R.len,R.nd,λx hx=>?_,λn o a h1 h2=>?_⟩,ex⟩
  .by_cases hxP:x.1=P
   .have ex:x=(P,q,p'):=by
     obtain⟨i,hi⟩:=mem_iff_getElem?.mp hx;obtain⟨j,hj⟩:=mem_iff_getElem?.mp et;have i1:((CY K).map (·.1))[i]?=some P:=by rw[List.getElem?_map,hi];simp[hxP]
     have j1:((CY K).map (·.1))[j]?=some P:=by rw[List.getElem?_map,hj];rfl
     have:i=j:=(List.getElem?_inj (List.getElem?_eq_some_iff.mp i1).1 nd).mp (i1.trans j1.symm);subst this;exact Option.some.inj (hi.symm.trans hj)
    subst ex;refine⟨#[rawInt pos.line,rawInt pos.col,.ref c],by rw[AC (nc _ _ hP),AM],.inr ⟨c,?_,AM⟩⟩;show #[rawInt pos.line,rawInt pos.col,Value.ref c]=#[rawInt p'.line,rawInt p'.col,Value.ref c];rw[e1,e2]
   .obtain⟨ps',hx1,hG⟩:=R.tabs x hx;refine⟨ps',by rw[AC (nc _ _ hx1),AC hxP];exact hx1,?_⟩;rcases hG with g|⟨c',g1,g2⟩
    .exact .inl g
    .exact .inr ⟨c',g1,by rw[AC (nc _ _ g2),AC (λz=>by subst z;rw[hP]at g2;cases g2)];exact g2⟩
  .obtain⟨ho,q1,q2⟩:=R.ob n o a h1 h2;exact⟨ho,by rw[AC (nc a _ q1),AC (nP a (mem_of_getElem? h2))];exact q1,by simpa using q2.mono (ex.grow R) []⟩
theorem NY{tb:TE}{mb:ME}{ix:List Nat}{q:Str}{c:Addr}(hb:RE K tb mb){ls:Ls}{σ:St}:∀{ns:List Int} {kds:List D} {ρ:List Addr} {H:Hp} {Q:List V->Hp->Prop},RH K ρ H hd->RL K ρ H ls σ->H c=some (.ext (cdF c q)) ->
 EI mb (ix.map λi=>(ls[i]?).join) hd ns=some kds->(∀ρ' H' ks,Ext ρ H ρ' H'->RH K ρ' H' hd->RDs K ρ' H' kds ks->Q ks H')->HQ (λH=>H c=some (.ext (cdF c q))) tb (ix.map λi=>(σ[i]?).join) ns H Q
 |[],kds,ρ,H,Q,R,L,hc,e,k=>by
  cases e;exact k ρ H [] .refl R (by simp[RDs])
 |n::r,kds,ρ,H,Q,R,L,hc,e,k=>by
  unfold EI at e;split at e
  .next kd h e1=>
   split at e
   .next ks e2=>
    split at e
    .next eh=>
     cases e;rw[eh]at e1;refine⟨hc,hb ρ _ H _ (some (.im (.int n))::ix.map λi=>(ls[i]?).join) _ kd _ R ⟨by simp,λi d ei=>?_⟩ e1 λρ1 H1 v1 x1 R1 r1=>?_⟩
     .cases i with
      |zero=>cases ei;exact⟨.int n,rfl,by simp[RD,RI]⟩
      |succ j=>
       have ei:(ix.map λi=>(ls[i]?).join)[j]?=some (some d):=ei;rw[List.getElem?_map]at ei;cases qj:ix[j]? with
       |none=>rw[qj]at ei;cases ei
       |some m=>
        rw[qj]at ei;have ei:(ls[m]?).join=some d:=Option.some.inj ei;have em:ls[m]?=some (some d):=by
         cases w:ls[m]? with
         |none=>rw[w]at ei;cases ei
         |some z=>rw[w]at ei;simpa using ei
        obtain⟨v,ev,rv⟩:=L.ob m d em;refine⟨v,?_,rv⟩;show(ix.map λi=>(σ[i]?).join)[j]?=some (some v);rw[List.getElem?_map,qj];simp[ev]
     .have oc:c∉ρ:=λm=>by rcases R.mut m with⟨y,w⟩|⟨y,w⟩<;>(rw[hc]at w;cases w)
      refine NY hb R1 (L.ext R x1) (x1.keep c _ hc oc nt) e2 λρ2 H2 ks2 x2 R2 r2=>?_;exact k ρ2 H2 (v1::ks2) (x1.trans R1 x2) R2 (.cons (r1.ext R1 x2) r2)
    .cases e
   .cases e
  .cases e
def Tv{t:TA}{m:MA}(h:RA K t m):Sz K (tCB Pf t) (Ko m):=by
 intro ρ σ H hd ls Q ns hd' hR hL hm k;obtain⟨⟨d1,h1⟩,e1,hm⟩:=c5 hm;dsimp only at hm;refine h ρ σ H hd ls _ d1 h1 hR hL e1 λρ1 H1 v x1 R1 r1=>?_;split at hm
 .next j=>
  split at hm
  .next c=>
   cases hm;simp only[RDs,RD,RI]at r1;obtain⟨x,r,rfl,rfl,rfl⟩:=r1;refine .inl ⟨j,rfl,λp hp=>?_⟩;obtain⟨R2,x2⟩:=R1.hid (ho:=.rng 0 j) hp;refine k ρ1 _ p (x1.trans R1 x2) R2 (.inr ⟨j.toNat,by omega,?_,rfl⟩);rw[AM,Int.toNat_of_nonneg c.1]
  .cases hm
 .cases hm
def Rb{te tb:TE}{src:Ls->Hd->Option (List Int×Hd)}{mb:ME}{P:Addr}{q:Str}{pos:Pos}{ix:List Nat}(hi:Sz K te src)(hb:RE K tb mb)(TI:Ha K P q pos):RN K (IZ K P q pos ix te tb) (E1 src ix mb):=by
 and_intros;obtain⟨⟨ns,h1⟩,e1,hm⟩:=c5 hm;obtain⟨kds,e4,hm⟩:=c5 hm;obtain⟨kz,e5,hm⟩:=c5 hm;dsimp only at hm e4;split at hm
 .next cc=>
  cases hm;refine hi ρ σ H hd ls _ ns _ hR hL e1 λρ1 H1 a x1 R1 sq=>?_;obtain⟨p',et,_,l1,l2⟩:=id TI;obtain⟨ps,hP,hG⟩:=R1.tabs (P,q,p') et;have hG':Dt H1 q pos ps:=by
   rcases hG with g|⟨c,g1,g2⟩
   .exact .inl g
   .refine .inr ⟨c,?_,g2⟩;rw[g1];show #[rawInt p'.line,rawInt p'.col,Value.ref c]=_;rw[l1,l2]
  refine⟨a,ns,ps,rfl,sq,cc.1,hP,hG',λH2 c step hc=>?_⟩;obtain⟨R2,x2⟩:=Hy R1 hP step TI;have x12:=x1.trans R1 x2;refine NY hb R2 (hL.ext hR x12) hc e4 λρ3 H3 ks x3 R3 r3=>?_;have x13:=x12.trans R2 x3;refine⟨kz,?_,λp ms hp out=>?_⟩
  .unfold E3 at e5;split at e5
   .next ns' e6=>
    cases e5;rw[Cf e6]at r3;exact .inl r3.ints
   .split at e5
    .next ps' e6=>
     split at e5
     .next ok=>
      cases e5;rw[Gj e6]at r3;refine .inr ⟨ps',rfl,ok,by have:=r3.len;simp at this;omega,λi k p ek ep=>?_⟩;obtain⟨w,ew,rw_⟩:=r3.get (i:=i) (d:=B0 p) (by rw[List.getElem?_map,ep];rfl);rw[ek]at ew;cases ew;exact NI rw_
     .cases e5
    .cases e5
  .have lz:kz.length=ns.length:=by
    rw[OZ e5,K3 e4]
   have:=SN cc.2 lz out;subst this;obtain⟨R4,x4⟩:=R3.hid (ho:=.lst ((Ez kz ns).map V.int)) hp;exact hQ ρ3 _ p _ (x13.trans R3 x4) R4 (x13.none hR hp R3) (R3.out hp) AM ET
 .cases hm
end
structure LamC(K:PySem.W.Frag)(mg:Str->Option Value)(base:Heap)(fd:FuncData)(c P:Addr)(q:Str)(pos:Pos):Prop where
 code:fd.code=.ref c
 hd:CodeHd base c P
 bl:base.BuiltinsAt mg P
 ti:Ha K P q pos
structure QSrc(K:PySem.W.Frag)(X:Cx)(e:Expr)(te:TE)(src:Ls->Hd->Option (List Int×Hd)):Prop where
 p:PE X e te
 r:Sz K te src
def Rs(K:PySem.W.Frag){X:Cx}{a:Expr}{t:TA}{m:MA}{p2 pos2:Pos}(hm2:X.mg "range"=none)(ha:QA K X [a] t m)(hg2:Gl X "range":=by rfl)(he2:starEach [a] X.env=[(false,eval a X.env)]:=by rfl):QSrc K X (.Call (.Name "range" p2) [a] [] pos2) (tCB Pf t) (Ko m):=
 ⟨F2 (call_rng1.or Qa) hg2 hm2 boot_range ha.p (by decide) (by decide) he2 rfl,Tv ha.r⟩
def Rx(K:PySem.W.Frag){src:Ls->Hd->Option (List Int×Hd)}{X:Cx}{c P:Addr}{scope:Scope}{fr:List Str}{ix:List Nat}{prm:Str}{params:Arguments}{body e:Expr}{p pos lpos kpos:Pos}{te tb:TE}{mb:ME}{k:Nat}(LA:LamAt X c P)(TI:Ha K P (X.env.qual++"<lambda>") lpos)(S:CSc X scope fr ix)(L:LSc scope prm)(hr:Room k X.A)(h3:3<=k)(hm:X.mg "sorted"=none)
 (he:QSrc K X e te src) (hb:∀(f:Addr) (cd:Value) (s:Shared) (H:Hp),QE K (lCx X X.A.in1.in1 (prm::fr) (X.env.qual++"<lambda>") scope f cd (AX X.env.cells scope.names []) s H) body tb mb)
 (hbind:∀(cl:List (Str×Addr)) (pm cd ctv us:Value),bindArgs (kla_fn "<lambda>" (X.env.qual++"<lambda>") params body scope cl pm cd ctv) ⟨[us],[]⟩=pure [(prm,us)])
 (hcm:X.calm=true:=by rfl) (hg:Gl X "sorted":=by rfl) (hdef:defaultsOf params X.env=([],[]):=by rfl) (hs:starEach [e] X.env=[(false,eval e X.env)]:=by rfl) (hK:X.K=K:=by rfl):
 QN K X (.Call (.Name "sorted" p) [e] [⟨some "key",.Lambda params body scope lpos,kpos⟩] pos) (IZ K P (X.env.qual++"<lambda>") lpos ix te tb) (E1 src ix mb):=by
 subst hK;exact⟨SJ LA S L (hr.mono h3) hcm hg hm hbind he.p (λf cd s H=>(hb f cd s H).p) hdef hs,Rb he.r (hb 0 .none X.s₀ X.H₀).r TI⟩
def SO{P:Program}{w:World}{K:PySem.W.Frag}{mg:Str->Option Value}{base:Heap}{x:Str}{st:Stmt}{f:Addr}{fd:FuncData}{N ps:List Str}{j:Nat}{m:MS}(DA:DefAt K mg x st f fd ps)(S:FnScope N ps (A9 st))
 (h:∀(cdv:Value) (A:Around) (outer:List Env) (s:Shared) (H:Hp) (E:XK),fd.code=cdv->Room j (A.deeper (envOfC x (A9 st) s.heap.objs.size f cdv))->∃t,QSs K (FN CX0 P w K mg base N x (A9 st) f cdv A outer s H E).nox (BM st) t m):
 FnOk P w K mg base CX0 (j+1) f fd ps (spF K ps.length (mkF ps.length N.length m)):=by
 obtain⟨F,hmg,bd⟩:=DA;obtain⟨⟨oc,od,kV,doc,pm,an,cdv,ct,osl,rfl,lk,hcd⟩,kp⟩:=F;refine Tf lk hcd S (λvs H Q E h=>h.1) λA outer s H vs Q E hr hs=>?_;obtain⟨t,q⟩:=h cdv A outer s H E rfl hr;exact⟨t,q.p.nox,N9 q.r hs⟩
def O5(g:Int->Int)(ns:List Int):(Ez (ns.map g) ns).Perm ns/\(Ez (ns.map g) ns).Pairwise λa b=>g a<=g b:=by
 have pm:(((ns.map g).zip ns).mergeSort λa b=>decide (a.1<=b.1)).Perm ((ns.map g).zip ns):=mergeSort_perm ..;have pw:(((ns.map g).zip ns).mergeSort λa b=>decide (a.1<=b.1)).Pairwise λa b=>a.1<=b.1:=by
  have:=pairwise_mergeSort (le:=λa b:Int×Int=>decide (a.1<=b.1)) (by intro a b c h1 h2;simp at *;omega) (by intro a b;simp;omega) ((ns.map g).zip ns);exact this.imp (by simp)
 have ez:(ns.map g).zip ns=ns.map λn=>(g n,n):=by
  clear pm pw
  induction ns with
  |nil=>rfl
  |cons n r ih=>simp[ih]
 have el:∀a∈(((ns.map g).zip ns).mergeSort λa b=>decide (a.1<=b.1)),a.1=g a.2:=λa ha=>by
  have:=pm.mem_iff.mp ha;rw[ez]at this;obtain⟨n,_,rfl⟩:=mem_map.mp this;rfl
 refine⟨?_,?_⟩
 .have:=pm.map (·.2);unfold Ez;refine this.trans ?_;rw[ez,map_map];have:((λx:Int×Int=>x.2) ∘ λn=>(g n,n))=id:=rfl;rw[this,map_id]
 .unfold Ez;rw[pairwise_map];exact pw.imp_of_mem λ{a b} ha hb h=>by rw[<- el a ha,<- el b hb];exact h
theorem K2{mb:ME}{cap:Ls}{hd:Hd}(kf:Int->D):∀{ns:List Int},(∀n∈ns,mb (some (.im (.int n))::cap) hd=some (kf n,hd))->EI mb cap hd ns=some (ns.map kf)
 |[],_=>rfl
 |n::r,h=>by
  unfold EI;rw[h n mem_cons_self,K2 kf λm hm=>h m (mem_cons_of_mem _ hm)];simp
def M2{ps:List (Int×Int)}(hne:ps≠[])(hok:∀p∈ps,pok p):E3 (ps.map B0)=some (ps.map Aa):=by
 unfold E3;have:Al (ps.map B0)=none:=by
  cases ps with
  |nil=>exact absurd rfl hne
  |cons p r=>rfl
 rw[this,Iq];simp only[if_pos hok]
def Pu{g:Int->Int}{ns:List Int}(nd:ns.Nodup)(h:∀a∈ns,∀b∈ns,g a=g b->a=b):(ns.map g).Nodup:=by
 rw[List.nodup_iff_pairwise_ne,pairwise_map];exact(List.nodup_iff_pairwise_ne.mp nd).imp_of_mem λ{a b} ha hb hne e=>hne (h a ha b hb e)
def Qq{src:Ls->Hd->Option (List Int×Hd)}{mb:ME}{ix:List Nat}{ls:Ls}{hd:Hd}{QA:List D->Hd->Prop}(h:∃ns x,src ls hd=some (ns,x)/\∃(kf:Int->Int×Int),ns.length<64/\ns.Nodup/\(∀n∈ns,pok (kf n))/\(∀a∈ns,∀b∈ns,Aa (kf a)=Aa (kf b)->a=b)/\
 (∀n∈ns,mb (some (.im (.int n))::ix.map λi=>(ls[i]?).join) x=some (B0 (kf n),x))/\∀ms:List Int,ms.Perm ns->ms.Pairwise (λa b=>Aa (kf a)<=Aa (kf b))->QA (ms.map λn=>.im (.int n)) x):WA (E1 src ix mb) ls hd QA:=by
 obtain⟨ns,x,e,kf,h64,nd,ok,inj,ek,q⟩:=h;have e2:=K2 (λn=>B0 (kf n)) ek;by_cases hne:ns=[]
 .subst hne;refine⟨[],x,?_,q [] (.refl _) .nil⟩;simp[E1,e,Al,EI,E3,Ez]
 .have e3:E3 (ns.map λn=>B0 (kf n))=some (ns.map λn=>Aa (kf n)):=by
   have:=M2 (ps:=ns.map kf) (by simpa using hne) (by simpa using ok);rw[map_map,map_map]at this;exact this
  have sp:=O5 (λn=>Aa (kf n)) ns;refine⟨_,x,?_,q _ sp.1 sp.2⟩;simp only[E1,e,bind_some,e2,e3,h64,Pu nd inj,and_self,if_true]
def P2{m:MA}{mb:ME}{ix:List Nat}{ls:Ls}{hd:Hd}{QA:List D->Hd->Prop}(h:WA m ls hd λds x=>∃n:Nat,ds=[.im (.int (n:Int))]/\n<64/\∃(kf:Int->Int×Int),(∀k,k<n->pok (kf k))/\(∀a,a<n->∀b,b<n->Aa (kf a)=Aa (kf b)->a=b)/\
 (∀k:Nat,k<n->mb (some (.im (.int k))::ix.map λi=>(ls[i]?).join) x=some (B0 (kf k),x))/\∀ms:List Int,ms.Perm ((List.range n).map λk:Nat=>(k:Int))->ms.Pairwise (λa b=>Aa (kf a)<=Aa (kf b))->QA (ms.map λn=>.im (.int n)) x):WA (NV m ix mb) ls hd QA:=by
 obtain⟨ds,x,e,n,rfl,hn,kf,ok,inj,ek,q⟩:=h;have mem:∀z∈(List.range n).map λk:Nat=>(k:Int),∃k:Nat,k<n/\z=k:=λz hz=>by
  obtain⟨k,hk,rfl⟩:=mem_map.mp hz;exact⟨k,by simpa using hk,rfl⟩
 refine Qq ⟨(List.range n).map λk:Nat=>(k:Int),x,?_,kf,by simpa using hn,?_,λz hz=>?_,λy hy z hz=>?_,λz hz=>?_,q⟩
 .have c:(0:Int)<=n/\(n:Int)<64:=by omega
  simp only[Ko,e,bind_some,if_pos c,toNat_natCast]
 .rw[List.nodup_iff_pairwise_ne,pairwise_map];exact(List.nodup_iff_pairwise_ne.mp nodup_range).imp λh=>by omega
 .obtain⟨k,hk,rfl⟩:=mem z hz;exact ok k hk
 .obtain⟨k,hk,rfl⟩:=mem y hy;obtain⟨l,hl,rfl⟩:=mem z hz;intro e;rw[inj k hk l hl e]
 .obtain⟨k,hk,rfl⟩:=mem z hz;exact ek k hk
end L2
namespace HT
open PySem PyProof.Rows
def noFill_tuple_mul:fillsNumberSlot (.type "tuple") "mul"=pure false:=
 PySem.fillsNumberSlot_seq (id:="tuple.__mul__") (r:=some (.builtin "tuple.__rmul__")) F.slot_tuple_mul.lookup (by decide +kernel) F.slot_tuple_rmul.lookup (by decide +kernel)
def repeat_tuple:seqRepeat? (.type "tuple")=pure (some (.builtin "tuple.__mul__")):=by
 unfold seqRepeat?;rw[PySem.seqSlot_of (T:="tuple") (name:="__mul__") (id:="tuple.__mul__") F.slot_tuple_mul.lookup (by decide +kernel),PySem.seqSlot_of (T:="tuple") (name:="__rmul__") (id:="tuple.__rmul__") F.slot_tuple_rmul.lookup (by decide +kernel)];rfl
def int_rmul_tuple(a:Int)(t:Tok)(l:Addr)(items:Array Value)(n:Nat)(dd:Option Addr)(sl:Array (Option Value)):
 Meets (Builtin.«int.__rmul__» ⟨[.int a t,.ref l],[]⟩) (λ_ R s=>s.heap.get? l=some { cls:=.type "tuple",dict:=dd,data:=.seq items n,slots:=sl }/\R (.ok (.ret Value.notImplemented)) s):=
 .of_wp λprog w A R s h=>by obtain⟨hp,g,d,tk,os⟩:=s;obtain⟨hl,h⟩:=h;wp_walk;exact⟨_,rfl,h⟩
def tuple_mul(l:Addr)(items:Array Value)(n:Nat)(dd:Option Addr)(sl:Array (Option Value))(k:Int)(t:Tok)(h0:items.isEmpty=false)(hk:0<=k/\k<=1000)(hs:items.size*k.toNat<=100000):
 Meets (Builtin.«tuple.__mul__» ⟨[.ref l,.int k t],[]⟩) (λ_ R s=>s.heap.get? l=some { cls:=.type "tuple",dict:=dd,data:=.seq items n,slots:=sl }/\(k=1->R (.ok (.ret (.ref l))) s)/\(k≠1->R (.ok (.ret (.ref s.heap.objs.size))) { s with heap:=s.heap.push { cls:=.type "tuple",data:=.seq ((List.replicate k.toNat items).foldl (·++·) #[]) } })):=
 .of_wp λprog w A R s h=>by
  obtain⟨hp,g,d,tk,os⟩:=s;obtain⟨hl,h1,h2⟩:=h;have f1:=AutoSeq1.idx_int;have f2:=AutoSeq1.sub_tuple_tuple
  wp_walk using wpAny_loadPart' hl
  have c1:¬ (decide (k < -2^63)||decide (k>=2^63))=true:=by simp;omega
  rw[if_neg c1]
  wp_walk using wpAny_loadPart' hl
  by_cases k1:k=1
  .rw[if_pos (by simp[k1])]
   wp_walk using wpAny_loadPart' hl
   exact⟨_,rfl,h1 k1⟩
  .rw[if_neg (by simp[h0,k1])];have h2:=h2 k1;by_cases k0:k=0
   .rw[if_pos (by simp[k0])]
    wp_walk using wpAny_loadPart' hl
    subst k0;exact⟨_,rfl,h2⟩
   .have c2:¬ ((items.size:Int)*k>(2^63-1)/8):=by
     have e:(items.size:Int)*k=((items.size*k.toNat:Nat):Int):=by rw[Int.natCast_mul,Int.toNat_of_nonneg hk.1]
     rw[e];omega
    have c3:¬ Builtin.Tuple.tupleTooMany ((items.size:Int)*k)=true:=by
     have e:(items.size:Int)*k=((items.size*k.toNat:Nat):Int):=by rw[Int.natCast_mul,Int.toNat_of_nonneg hk.1]
     unfold Builtin.Tuple.tupleTooMany;rw[e,sizeLine_eq,decide_eq_true_eq];omega
    rw[if_neg (by simp[h0];omega)];dsimp only;rw[if_neg c2,if_neg c3];have hz:(List.foldl (λx1 x2=>x1++x2) #[] (List.replicate k.toNat items)).size<=sizeLine:=by
     have:∀(m:Nat) (a:Array Value),(List.foldl (λx1 x2=>x1++x2) a (List.replicate m items)).size=a.size+items.size*m:=by
      intro m
      induction m with
      |zero=>intro a;simp
      |succ m ih=>intro a;rw[replicate_succ,List.foldl_cons,ih,Array.size_append,Nat.mul_succ];omega
     rw[this,sizeLine_eq];simp;omega
    unfold Builtin.Tuple.tupleExact;refine wpAny_bind (wpAny_newObj_type ?_ hz);exact wpAny_pure ⟨_,rfl,h2⟩
end HT
namespace L2
open PySem PySem.Spec PyProof.Rows
section
variable{X:Cx}
def OI(K:PySem.W.Frag):R2:=λx y H Q=>∃l k xs,x=.ref l/\y=.int k/\SqT K H l xs/\xs≠[]/\(0<=k/\k<=1000)/\xs.length*k.toNat<=100000/\(k=1->Q (.ref l) H)/\
 (k≠1->∀p,H p=none->Q (.ref p) (upd H p (.tup (List.replicate k.toNat xs).flatten)))
def VI(K:PySem.W.Frag)(hK:X.K=K:=by rfl):OpR X (binaryOp .Mult) (OI K):=by
 subst hK;intro pins s σ H x y v u Q I rx ry h;obtain⟨l,k,xs,rfl,rfl,hH,hne,hk,hz,q1,q2⟩:=h;cases rx;obtain⟨t,rfl⟩:=ry;obtain⟨its,r,p,_⟩:=I.tuple hH;obtain⟨⟨cls,dd,data,sl⟩,ho,hc,n,hd⟩:=id p;simp only at hc hd;subst hc hd;have ht:s.TypeIs (.ref l) "tuple":=⟨_,ho,rfl⟩
 have hn:its≠[]:=λz=>hne (r.nil_iff.mp z);have hl:its.length=xs.length:=r.length.symm;refine wpAny_binaryOp_repeat_ref (T:="tuple") (U:="int") (by decide) ht (λs'=>typeIs_int s' k t) HT.noFill_tuple_mul F.fills_int_mul F.slot_int_rmul HT.repeat_tuple F.slot_int_index.lookup
  (call_meets F.slot_int_rmul (typeIs_int s k t) F.entry_int_rmul (F.args_int_rmul_2 _ _) (HT.int_rmul_tuple k t l its.toArray n dd sl)
   ⟨ho,rfl,ht,call_meets F.slot_tuple_mul ht F.entry_tuple_mul (F.args_tuple_mul_2 _ _) (HT.tuple_mul l its.toArray n dd sl k t (by cases its with|nil=>exact absurd rfl hn|cons a r=>rfl) hk (by rw[size_toArray,hl];exact hz)) ⟨ho,λe=>?_,λe=>?_⟩⟩)
 .exact⟨.ref l,H,I,rfl,q1 e⟩
 .have f0:=K6 its k.toNat []
  rw[List.nil_append]at f0;rw[f0];refine⟨.ref s.heap.objs.size,_,I.laid (t':=s.toks) (o:=.tup (List.replicate k.toNat xs).flatten) (λb ob q=>Heap.get?_push_of_some _ q) (le_refl _) ?_,rfl,q2 e _ (I.hok.fresh (le_refl _))⟩;exact⟨by rw[VX,sizeLine_eq,Nat.mul_comm];omega,_,r.rep k.toNat,IsTupD.new _ _⟩
end
section
variable{K:PySem.W.Frag}
def HM(ma mb:ME):ME:=λls hd=>(ma ls hd).bind λp=>(mb ls p.2).bind λq=>match p.1,q.1 with
 |.im (.tup is),.im (.int k)=>if is≠[]/\(0<=k/\k<=1000)/\is.length*k.toNat<=100000 then some (.im (.tup (List.replicate k.toNat is).flatten),q.2)else none
 |_,_=>none
def UF{ta tb:TE}{ma mb:ME}(ha:RE K ta ma)(hb:RE K tb mb):RE K (tOp (OI K) ta tb) (HM ma mb):=by
 and_intros;obtain⟨⟨d1,h1⟩,e1,hm⟩:=c5 hm;obtain⟨⟨d2,h2⟩,e2,hm⟩:=c5 hm;dsimp only at hm;split at hm
 .next is k _=>
  split at hm
  .next c=>
   cases hm;refine ha ρ σ H hd ls _ _ h1 hR hL e1 λρ1 H1 v1 x1 R1 r1=>?_;refine hb ρ1 σ H1 h1 ls _ _ _ R1 (hL.ext hR x1) e2 λρ2 H2 v2 x2 R2 r2=>?_;simp only[RD,RI]at r2;subst r2;have r1:=r1.ext R1 x2;obtain⟨a,xs,rfl,sq,rs⟩:=r1.tup (ds:=is.map D.im) rfl;have hl:xs.length=is.length:=by have:=rs.len;simpa using this
   refine⟨a,k,xs,rfl,rfl,sq,λz=>c.1 (List.length_eq_zero_iff.mp (by rw[<- hl,z];rfl)),c.2.1,by rw[hl];exact c.2.2,λe=>?_,λe p hp=>?_⟩
   .subst e;refine hQ ρ2 H2 _ (x1.trans R1 x2) R2 ?_;simpa using r1
   .obtain⟨R3,x3⟩:=R2.hid (ho:=.tup (List.replicate k.toNat xs).flatten) hp;refine hQ ρ2 _ _ ((x1.trans R1 x2).trans R2 x3) R3 ?_;have e3:D.im (.tup (List.replicate k.toNat is).flatten)=AV ((List.replicate k.toNat is).flatten.map D.im):=(C1 _).symm;rw[e3];refine Bn (SqT.of AM) ?_;have:=((rs.rep k.toNat).ext R2 x3)
    have e4:(List.replicate k.toNat is).flatten.map D.im=(List.replicate k.toNat (is.map D.im)).flatten:=by rw[List.map_flatten,List.map_replicate]
    rw[e4];exact this
  .cases hm
 .cases hm
def Um(K:PySem.W.Frag){X:Cx}{a b:Expr}{ta tb:TE}{ma mb:ME}{pos:Pos}(ha:QE K X a ta ma)(hb:QE K X b tb mb)(hK:X.K=K:=by rfl):QE K X (.BinOp a .Mult b pos) (tOp (OI K) ta tb) (HM ma mb):=⟨ON (VI K hK) ha.p hb.p,UF ha.r hb.r⟩
def To{ma mb:ME}{ls:Ls}{hd:Hd}{QE:D->Hd->Prop}(h:WE ma ls hd λd x=>WE mb ls x λe y=>∃is k,d=.im (.tup is)/\e=.im (.int k)/\is≠[]/\(0<=k/\k<=1000)/\is.length*k.toNat<=100000/\QE (.im (.tup (List.replicate k.toNat is).flatten)) y):WE (HM ma mb) ls hd QE:=by
 obtain⟨d,x,e1,e,y,e2,is,k,rfl,rfl,c1,c2,c3,q⟩:=h;exact⟨_,_,by simp only[HM,e1,bind_some,e2];rw[if_pos ⟨c1,c2,c3⟩],q⟩
end
end L2
namespace HT
open PySem PyProof.Rows
open PySem.AutoSeq1 (wpAny_loadPart')
section
variable{prog:Program}{w:World}{A:Around}{E:Value->Shared->Prop}{s:Shared}
def drawsT(hh:A.handled=none)(it t:Addr)(hne:t≠it)(items:Array Value):
 Draws prog w A it [it,t] items.size (λi v=>items[i]?=some v) (λi h=>h.IsTupleIter it t i/\h.IsTuple t items) where
 live:=λ_ _ st=>let ⟨o,ho,_⟩:=st.1;⟨o,ho⟩
 frame:=λ_ _ _ st hk=>⟨let ⟨o,ho,r⟩:=st.1;⟨o,hk it (by simp) o ho,r⟩,let ⟨o,ho,r⟩:=st.2;⟨o,hk t (by simp) o ho,r⟩⟩
 item:=λi s Q E hi st hQ=>by
  refine L2.tup_next st.1 st.2 (x:=items[i]) (by simp[hi]) λh' hit' hs'=>?_;exact hQ _ h' s.toks (by simp[hi]) ⟨hit',st.2.extBut hs'.extBut hne⟩ hs'
 done:=λs Q E st hE=>L2.tup_stop hh st.1 st.2 (by simp) hE
end
def QL(l:Addr)(items:Array Value)(n:Nat)(dct:Option Addr)(sl:Array (Option Value)):
 Meets (Builtin.«enumerate.__new__» ⟨[.type "enumerate",.ref l],[]⟩) (λ_ R s=>s.heap.get? l=some { cls:=.type "tuple",dict:=dct,data:=.seq items n,slots:=sl } /\
  R (.ok (.ret (.ref (s.heap.push { cls:=.type "tuple_iterator",data:=.fields #[.ref l,.int 0 0] }).objs.size)))
   { s with heap:=(s.heap.push { cls:=.type "tuple_iterator",data:=.fields #[.ref l,.int 0 0] }).push { cls:=.type "enumerate",data:=.fields #[.none,.bool false,.ref s.heap.objs.size,rawInt 0,.none,.none] } }):=
 .of_wp λprog w A R s h=>by
  obtain⟨hp,g,d,tk,os⟩:=s;obtain⟨hl,h⟩:=h;have hsub:=sub_enumerate;have hL:Heap.IsTuple (Shared.heap ⟨hp,g,d,tk,os⟩) l items:=⟨_,hl,rfl,n,rfl⟩
  wp_walk using wpAny_loadPart' hl
  refine wpAny_stack_any λst=>wpAny_pure ?_;split
  .rename_i c _ _ _ _ _
   cases(c==Value.type "enumerate")
   .wp_walk using wpAny_loadPart' hl,wpAny_pyIter_tuple hL
    exact⟨_,rfl,h⟩
   .wp_walk using wpAny_loadPart' hl,wpAny_pyIter_tuple hL
    exact⟨_,rfl,h⟩
  .wp_walk using wpAny_loadPart' hl,wpAny_pyIter_tuple hL
   exact⟨_,rfl,h⟩
def call_enumT{prog:Program}{w:World}{A:Around}{E:Value->Shared->Prop}{s:Shared}{l:Addr}{items:Array Value}{Q:Value->Shared->Prop}(hL:IsTup s.heap l items)
 (h:∀h',IsEnum h' (s.heap.objs.size+1) s.heap.objs.size 0 .none->h'.IsTupleIter s.heap.objs.size l 0->h'.objs.size=s.heap.objs.size+2 ->
  (∀b o,s.heap.get? b=some o->h'.get? b=some o)->Q (.ref (s.heap.objs.size+1)) { s with heap:=h' }):
 wpAny (model prog w) A (call (.type "enumerate") [.ref l]) Q E s:=by
 obtain⟨⟨c,dct,dt,sl⟩,hl,hc,n,hd⟩:=hL
 replace hc:c=.type "tuple":=hc
 replace hd:dt=.seq items n:=hd
 subst hc hd;refine callType_new F.called_enumerate (by decide) (F.typeCall_enumerate_1 _) (F.newCall_enumerate_1 _) (λobj=>F.args_object_init_2 obj _) F.entry_enumerate_new
  (QL l items n dct sl) ⟨hl,?_⟩
 have hz:(s.heap.push { cls:=.type "tuple_iterator",data:=.fields #[.ref l,.int 0 0] }).objs.size=s.heap.objs.size+1:=Heap.size_push ..;show _/\_;rw[hz];have he:IsEnum ((s.heap.push { cls:=.type "tuple_iterator",data:=.fields #[.ref l,.int 0 0] }).push
  { cls:=.type "enumerate",data:=.fields #[.none,.bool false,.ref s.heap.objs.size,rawInt 0,.none,.none] }) (s.heap.objs.size+1) s.heap.objs.size 0 .none:=by
  have:=Heap.get?_push_size (s.heap.push { cls:=.type "tuple_iterator",data:=.fields #[.ref l,.int 0 0] })
   (o:={ cls:=.type "enumerate",data:=.fields #[.none,.bool false,.ref s.heap.objs.size,rawInt 0,.none,.none] }) rfl
  rw[hz]at this;exact this
 refine⟨⟨_,he,rfl⟩,h _ he ⟨_,Heap.get?_push_of_some _ (Heap.get?_push_size _ rfl),rfl,rfl⟩ (by rw[Heap.size_push,hz]) λb o x=>Heap.get?_push_of_some _ (Heap.get?_push_of_some _ x)⟩
end HT
namespace L2
open PySem PySem.Spec PyProof.Rows
structure ETt(h:Heap)(e it l:Addr)(i:Nat):Prop where
 e:∃old,IsEnum h e it i old
 r:h.IsTupleIter it l i
def ItT(K:PySem.W.Frag)(a:Addr):It:=
 ⟨λi H=>∃xs x,SqT K H a xs/\xs[i]?=some x,
  λi H x H'=>∃p v,H p=none/\H'=upd H p (.tup [.int (i:Int),v])/\x=.ref p/\∀xs,SqT K H a xs->xs[i]?=some v,
  λi H=>∃xs,SqT K H a xs/\xs.length=i⟩
def Nn{P:Program}{w:World}{K:PySem.W.Frag}{elts:List Expr}{kk:Nat}{tpos:Pos}{e it l:Addr}(ne:e≠it)(nl:l≠it)(nle:e≠l):Turn P w K (.Tuple elts kk tpos) (ItT K l) [e,it] e (λi h=>ETt h e it l i) where
 mem:=by simp
 obj:=λi h st c hc=>by
  obtain⟨⟨old,he⟩,hr⟩:=st;simp only[mem_cons,not_mem_nil,or_false]at hc;rcases hc with rfl|rfl
  .exact⟨_,he,λv z=>by cases(show Data.fields _=Data.cell v from z)⟩
  .obtain⟨o,q,_,d⟩:=hr;exact⟨o,q,λv z=>by rw[d]at z;cases z⟩
 keep:=λi h h' st k=>by
  obtain⟨⟨old,he⟩,o,q,r⟩:=st;exact⟨⟨old,k e (by simp) _ he⟩,o,k it (by simp) _ q,r⟩
 item:=by
  intro X hP hw hK hc i pins s σ H E I hf st hg;subst hP hw hK;obtain⟨xs,x,h1,hx⟩:=hg;obtain⟨its,r,pl,hz⟩:=I.tuple h1;obtain⟨u,hu,ru⟩:=r.get hx;obtain⟨⟨old,he⟩,hr⟩:=st;have hlt:i<its.toArray.size:=by
   have:=(List.getElem?_eq_some_iff.mp hu).1;simpa using this
  have hd:X.A.in1.handled=none:=I.ok.hd hc;refine wpAny_pyNext_enum_itemD (HT.drawsT hd it l nl its.toArray) he ⟨hr,pl⟩ hlt ne (by simp;exact⟨ne,nle⟩) λx' g tk hx' ho hr' ht hsz kp=>⟨_,rfl,?_⟩
  have ex:x'=u:=by
   have hx':its.toArray[i]?=some x':=hx';rw[List.getElem?_toArray,hu]at hx';exact(Option.some.inj hx').symm
  subst ex;refine wpAny_letOwnedTupleGo_enum ho λg' e' sb=>?_;have hle:e<s.heap.objs.size:=Heap.lt_size he;have kp2:∀c o,c∉[e,it]->s.heap.get? c=some o->g'.get? c=some o:=λc o nc q=>by
   simp only[mem_cons,not_mem_nil,or_false,not_or]at nc;exact sb.extBut _ _ nc.1 (kp c o nc.1 nc.2 q)
  have hT:s.heap.objs.size≠e:=ne_of_gt hle;have hpair:g'.get? s.heap.objs.size=some { cls:=.type "tuple",data:=.seq #[.int i tk,x'] }:=sb.extBut _ _ hT ht;have fresh:H s.heap.objs.size=none:=I.hok.fresh (le_refl _);have I2:Inv X pins σ (upd H s.heap.objs.size (.tup [.int (i:Int),x])) { s with heap:=g',toks:=tk+1 }:=I.turnsL (tk:=tk+1) (o:=.tup [.int (i:Int),x]) kp2 hf (le_refl _)
   (show ObjOk X.prog X.w _ g' _ (.tup [.int (i:Int),x])from⟨by show 2<=sizeLine;decide,[.int i tk,x'],.cons ⟨_,rfl⟩ (.cons ru .nil),⟨_,hpair,rfl,⟨_,rfl⟩,rfl⟩⟩)
  refine⟨.ref s.heap.objs.size,_,I2,rfl,⟨s.heap.objs.size,x,fresh,rfl,rfl,λxs' q=>by rw[I.tuple_inj q h1];exact hx⟩,⟨⟨x',?_⟩,?_⟩,λc hc=>?_⟩
  .have:=e';rw[show((i:Int)+1)=((i+1:Nat):Int) by omega]at this;exact this
  .exact hr'.1.extBut sb.extBut (Ne.symm ne)
  .have lt:c<s.heap.objs.size:=by
    simp only[mem_cons,not_mem_nil,or_false]at hc;rcases hc with rfl|rfl
    .exact hle
    .obtain⟨o,q,_⟩:=hr;exact Heap.lt_size q
   rw[AC (ne_of_lt lt)];exact(hf c hc).1
 done:=by
  intro X hP hw hK hc i pins s σ H E I hf st hg;subst hP hw hK;obtain⟨xs,h1,hend⟩:=hg;obtain⟨its,r,pl,hz⟩:=I.tuple h1;have l1':=r.length;obtain⟨⟨old,he⟩,hr⟩:=st;have hd:X.A.in1.handled=none:=I.ok.hd hc;have en:i=its.toArray.size:=by simp;omega
  subst en;refine wpAny_pyNext_enum_endD (HT.drawsT hd it l nl its.toArray) he ⟨hr,pl⟩ λg x=>⟨rfl,?_⟩
  exact I.turns (tk:=s.toks) (λc o nc q=>by
   simp only[mem_cons,not_mem_nil,or_false,not_or]at nc;exact x c o nc.2 q) hf
 self:=λ_ _ _ _ _ st h=>by
  obtain⟨⟨old,he⟩,hr⟩:=st;exact wpAny_pyIter_enum he h
def M8(K:PySem.W.Frag)(ta:TA):TI:=λσ H R=>ta σ H λvs H1=>∃a xs,vs=[.ref a]/\SqT K H1 a xs/\R (ItT K a) H1
def SG(K:PySem.W.Frag){X:Cx}{a:Expr}{ta:TA}{elts:List Expr}{kk:Nat}{tpos p pos:Pos}(hg:Gl X "enumerate")(hm:X.mg "enumerate"=none)(ha:PA X [a] ta)(hK:X.K=K:=by rfl)(hs:starEach [a] X.env=[(false,eval a X.env)]:=by rfl):
 PI X (.Tuple elts kk tpos) (.Call (.Name "enumerate" p) [a] [] pos) (M8 K ta):=by
 subst hK;intro pins s σ H R I h;refine Call_ (Ca I hg hm Dg (PyProof.Rows.callWith_type1 (thn (ha pos pins s σ H _ I h) λus s1 ⟨vs,H1,I1,r1,q1⟩=>?_) hs rfl));obtain⟨l,xs,e,c,q⟩:=q1;subst e;obtain⟨u,rfl,ru⟩:=r1.one;cases ru;obtain⟨its,r,pl,hz⟩:=I1.tuple c;have ll:l<s1.heap.objs.size:=by obtain⟨o,ho,_⟩:=pl;exact Heap.lt_size ho
 refine HT.call_enumT pl λg he hr hsz kp=>wpAny_pyIter_enum he ?_;refine⟨_,_,_,_,H1,rfl,I1.kept (t':=s1.toks) kp,Nn (ne_of_gt (lt_succ_self _)) (ne_of_lt ll) (ne_of_gt (lt_succ_of_lt ll)),⟨⟨_,he⟩,hr⟩,λc hc=>?_,q⟩;simp only[mem_cons,not_mem_nil,or_false]at hc;have le:s1.heap.objs.size<=c:=by
  rcases hc with rfl|rfl
  .exact le_add_right _ _
  .exact le_refl _
 exact I1.fpOk le (I1.hok.fresh le)
def Re{K:PySem.W.Frag}{ta:TE}{ma:MI}(ha:RRw K true ta ma):RIt K (M8 K (B7 ta Bv)) (BO ma):=by
 intro ρ σ H hd ls Q d g hd' hR hL hm hQ;obtain⟨⟨⟨d1,g1⟩,h1⟩,e1,e2⟩:=c7 hm;cases e2;refine ha ρ σ H hd ls _ d1 g1 h1 hR hL e1 λρ1 H1 a x1 R1 G1 S1=>?_;obtain⟨xs,c1,r1⟩:=S1 ρ1 H1 _ .refl R1 G1;refine⟨a,xs,rfl,c1,hQ ρ1 H1 _ x1 R1 G1 ?_⟩;intro ρ3 H3 hd3 x3 R3 G3 i;obtain⟨xs,c1,r1⟩:=S1 ρ3 H3 _ x3 R3 G3;have l1:=r1.len;refine⟨λhi=>?_,λhi=>⟨xs,c1,?_⟩⟩
 .have hi:i<d1.length:=by simpa using hi
  have i1:d1[i]?=some (d1[i]'hi):=List.getElem?_eq_getElem _;obtain⟨x,x4,x5⟩:=r1.get i1;refine⟨⟨xs,x,c1,x4⟩,λz H4 hz=>?_⟩;obtain⟨p,v,fp,rfl,rfl,hv⟩:=hz;have ev:=hv xs c1;rw[x4]at ev;cases ev;obtain⟨R4,x6⟩:=R3.hid (ho:=.tup [.int (i:Int),x]) fp;refine⟨ρ3,AV [.im (.int (i:Int)),d1[i]'hi],x6,rfl,R4,?_,Bn (SqT.of AM) (.cons (by simp[RD,RI]) (.cons (x5.ext R3 x6) .nil))⟩;simp[i1]
 .have hi:i=d1.length:=by simpa using hi
  omega
def Rz(K:PySem.W.Frag){X:Cx}{a:Expr}{ta:TE}{ma:MI}{elts:List Expr}{kk:Nat}{tpos p pos:Pos}(hm:X.mg "enumerate"=none)(ha:QR K true X a ta ma)(hg:Gl X "enumerate":=by rfl)(hK:X.K=K:=by rfl)(hs:starEach [a] X.env=[(false,eval a X.env)]:=by rfl):
 QI K X (.Tuple elts kk tpos) (.Call (.Name "enumerate" p) [a] [] pos) (M8 K (B7 ta Bv)) (BO ma):=⟨SG K hg hm (Bi ha.p CI hs) hK hs,Re ha.r⟩
end L2
namespace HS
open PySem PyProof.Rows
open PySem.AutoSeq1 (wpAny_loadPart')
open Sem (wp)
abbrev st(t:Tok):List (Str×Value):=[(Str.ofString "start",.int 1 t)]
section
variable{prog:Program}{w:World}{A:Around}{E:Value->Shared->Prop}{s:Shared}
def tcS(a b:Value):checkTypeCall "enumerate" ⟨[a],[(Str.ofString "start",b)]⟩=pure ():=by kernel_rfl
def ncS(a b:Value):checkBuiltinCall "enumerate.__new__" ⟨[.type "enumerate",a],[(Str.ofString "start",b)]⟩=pure ():=by kernel_rfl
def aiS(a b c:Value):argsOk "object.__init__" ⟨[a,b],[(Str.ofString "start",c)]⟩:=by
 unfold argsOk;rw[signature?_of (id:="object.__init__") (n:=['_','_','t','i','n','i','_','_']) (o:=['t','c','e','j','b','o']) (by kernel_rfl) F.owner_object];kernel_rfl
def QM(l:Addr)(items:Array Value)(n:Nat)(t:Tok)(dct:Option Addr)(sl:Array (Option Value)):
 Meets (Builtin.«enumerate.__new__» ⟨[.type "enumerate",.ref l],st t⟩) (λ_ R s=>s.heap.get? l=some { cls:=.type "list",dict:=dct,data:=.seq items n,slots:=sl } /\
  R (.ok (.ret (.ref (s.heap.push { cls:=.type "list_iterator",data:=.fields #[.ref l,.int 0 0] }).objs.size)))
   { s with heap:=(s.heap.push { cls:=.type "list_iterator",data:=.fields #[.ref l,.int 0 0] }).push { cls:=.type "enumerate",data:=.fields #[.none,.bool false,.ref s.heap.objs.size,rawInt 1,.none,.none] } }):=
 .of_wp λprog w A R s h=>by
  obtain⟨hp,g,d,tk,os⟩:=s;obtain⟨hl,h⟩:=h;have hsub:=sub_enumerate;have hL:Heap.IsList (Shared.heap ⟨hp,g,d,tk,os⟩) l items:=⟨_,hl,rfl,n,rfl⟩
  wp_walk using wpAny_loadPart' hl
  refine wpAny_stack_any λst=>wpAny_pure ?_;split
  .rename_i c _ _ _ _ _
   cases(c==Value.type "enumerate")
   .wp_walk using wpAny_loadPart' hl,wpAny_pyIter_list hL
    exact⟨_,rfl,h⟩
   .wp_walk using wpAny_loadPart' hl,wpAny_pyIter_list hL
    exact⟨_,rfl,h⟩
  .wp_walk using wpAny_loadPart' hl,wpAny_pyIter_list hL
   exact⟨_,rfl,h⟩
def aK{T id:String}{x a b:Value}(hl:typeLookup (.type T) "__init__"=pure (some (.builtin "object.__init__")))(hm:Bind.madeBy (.type T)=pure (some id))(hne:(some id != some "object.__new__")=true):
 Meets (Builtin.«object.__init__» ⟨[x,a],[(Str.ofString "start",b)]⟩) (λ_ R s=>s.TypeIs x T/\R (.ok (.ret .none)) s):=by
 refine Meets.of_wp λprog w A R s hs=>?_;obtain⟨hT,hq⟩:=hs
 repeat (any_goals (first|assumption|wp_step))
 exact⟨_,rfl,hq⟩
def call_enumS{l:Addr}{items:Array Value}{t:Tok}{Q:Value->Shared->Prop}(hL:s.heap.IsList l items)
 (h:∀h',IsEnum h' (s.heap.objs.size+1) s.heap.objs.size 1 .none->h'.IsListIter s.heap.objs.size l 0->h'.objs.size=s.heap.objs.size+2->(∀b o,s.heap.get? b=some o->h'.get? b=some o)->Q (.ref (s.heap.objs.size+1)) { s with heap:=h' }):
 wpAny (model prog w) A (call (.type "enumerate") [.ref l] (st t)) Q E s:=by
 obtain⟨⟨c,dct,dt,sl⟩,hl,hc,n,hd⟩:=hL
 replace hc:c=.type "list":=hc
 replace hd:dt=.seq items n:=hd
 subst hc hd;have ft:=F.called_enumerate;obtain⟨c,tl,hmro⟩:=ft.mro;have hmade:=ft.made;have hsub:=ft.sub;refine wpAny_call (codeAny_of_tree ?_);show wpAny _ _ (callAny (.type "enumerate") _) _ _ _;refine wpAny_pure ⟨Code.quiet_builtin _ (by decide +kernel),codeAny_builtin F.entry_type_call ?_⟩;rw[Around.under_plain (weight_type_call_type "enumerate" [.ref l] (st t)) (units_type_call_type "enumerate" [.ref l] (st t))];have h1:=ft.notType;have h2:=ft.canCreate;have hct:=tcS (.ref l) (.int 1 t);have hcn:=ncS (.ref l) (.int 1 t)
 repeat (any_goals (first|assumption|wp_step))
 refine codeAny_mono (codeAny_call_builtin ft.plain F.entry_enumerate_new (wpAny_of_eq hcn (QM l items n t dct sl prog w A.in1 (wants (λobj s₁=>s₁.TypeIs obj "enumerate"/\Q obj s₁) E) s ⟨hl,?_⟩))) λr s₁ hr=>?_
 .have hz:(s.heap.push { cls:=.type "list_iterator",data:=.fields #[.ref l,.int 0 0] }).objs.size=s.heap.objs.size+1:=Heap.size_push ..;show _/\_;rw[hz];have he:IsEnum ((s.heap.push { cls:=.type "list_iterator",data:=.fields #[.ref l,.int 0 0] }).push { cls:=.type "enumerate",data:=.fields #[.none,.bool false,.ref s.heap.objs.size,rawInt 1,.none,.none] }) (s.heap.objs.size+1) s.heap.objs.size 1 .none:=by
   have:=Heap.get?_push_size (s.heap.push { cls:=.type "list_iterator",data:=.fields #[.ref l,.int 0 0] }) (o:={ cls:=.type "enumerate",data:=.fields #[.none,.bool false,.ref s.heap.objs.size,rawInt 1,.none,.none] }) rfl;rw[hz]at this;exact this
  exact⟨⟨_,he,rfl⟩,h _ he ⟨_,Heap.get?_push_of_some _ (Heap.get?_push_size _ rfl),rfl,rfl⟩ (by rw[Heap.size_push,hz]) λb o x=>Heap.get?_push_of_some _ (Heap.get?_push_of_some _ x)⟩
 .cases r with
  |error e=>exact hr
  |ok fl=>
   cases fl with
   |ret obj=>
    obtain⟨hT,hq0⟩:=hr;have hli:=ft.init.lookup;have hbi:=ft.init.bind obj
    repeat (any_goals (first|assumption|wp_step))
    refine codeAny_mono (codeAny_call_builtin ft.init.plain F.entry_object_init (ft.init.check _ _ _ _ _ _ _ _ hT (aiS obj (.ref l) (.int 1 t)) (aK (x:=obj) (a:=.ref l) (b:=.int 1 t) hli hmade (by decide) prog w A.in1 (wants (λr s₂=>r=.none/\Q obj s₂) E) s₁ ⟨hT,rfl,hq0⟩))) λr₂ s₂ hr₂=>?_;cases r₂ with
    |error e=>exact hr₂
    |ok fl₂=>
     cases fl₂ with
     |ret r=>
      obtain⟨rfl,hq⟩:=hr₂
      repeat (any_goals (first|assumption|wp_step))
     |_=>exact hr₂.elim
   |_=>exact hr.elim
def shift{it:Addr}{fp:List Addr}{n:Nat}{P:Nat->Value->Prop}{St:Nat->Heap->Prop}(D:Draws prog w A it fp n P St):Draws prog w A it fp (n+1) (λj v=>P (j-1) v) (λj h=>1<=j/\St (j-1) h) where
 live:=λ_ _ z=>D.live _ _ z.2
 frame:=λ_ _ _ z hk=>⟨z.1,D.frame _ _ _ z.2 hk⟩
 item:=λi s Q E hi z hQ=>D.item (i-1) s Q E (by omega) z.2 λx h' tk p q b=>hQ x h' tk p ⟨by omega,by rw[show i+1-1=i-1+1 by have:=z.1;omega];exact q⟩ b
 done:=λs Q E z hE=>D.done s Q E z.2 hE
end
def callWith_typeK{M:Model}{A:Around}{E:Value->Shared->Prop}{s:Shared}{pos:Pos}{T:String}{args:List (Bool×Sem Value)}{kws:List (Option Str×Sem Value)}{Q:Value->Shared->Prop}(hp:args.any (·.1)=false)(hk:kws.any (·.1.isNone)=false)
 (h:wpAny M A (evalArgs (.type T) true args kws) (λa s₁=>wpAny M A (call (.type T) a.pos a.kw) Q E s₁) E s):wpAny M A (callWith pos (.type T) [] args kws) Q E s:=by
 unfold callWith;refine wpAny_bind (wpAny_holding (wpAny_mono h (λa s₁ h₁=>wpAny_bind (wpAny_standAt ?_)) λ_ _ x=>x));simp only[hp,hk,Bool.or_false];exact wpAny_bind (wpAny_pure (wpAny_bind (wpAny_mono h₁ (λr s₂ hr=>wpAny_bind (wpAny_holding (wpAny_point (wpAny_pure hr)))) λ_ _ x=>x)))
end HS
namespace L2
open PySem PySem.Spec PyProof.Rows
structure ESt(h:Heap)(e it l:Addr)(i:Nat):Prop where
 e:∃old,IsEnum h e it ((i+1:Nat):Int) old
 r:h.IsListIter it l i
def ItS(K:PySem.W.Frag)(a:Addr):It:=
 ⟨λi H=>∃xs x,SqL K H a xs/\xs[i]?=some x,
  λi H x H'=>∃p v,H p=none/\H'=upd H p (.tup [.int ((i:Int)+1),v])/\x=.ref p/\∀xs,SqL K H a xs->xs[i]?=some v,
  λi H=>∃xs,SqL K H a xs/\xs.length=i⟩
def No{P:Program}{w:World}{K:PySem.W.Frag}{elts:List Expr}{kk:Nat}{tpos:Pos}{e it l:Addr}(ne:e≠it)(nl:l≠it)(nle:e≠l):Turn P w K (.Tuple elts kk tpos) (ItS K l) [e,it] e (λi h=>ESt h e it l i) where
 mem:=by simp
 obj:=λi h st c hc=>by
  obtain⟨⟨old,he⟩,hr⟩:=st;simp only[mem_cons,not_mem_nil,or_false]at hc;rcases hc with rfl|rfl
  .exact⟨_,he,λv z=>by cases(show Data.fields _=Data.cell v from z)⟩
  .obtain⟨o,q,_,d⟩:=hr;exact⟨o,q,λv z=>by rw[d]at z;cases z⟩
 keep:=λi h h' st k=>by
  obtain⟨⟨old,he⟩,o,q,r⟩:=st;exact⟨⟨old,k e (by simp) _ he⟩,o,k it (by simp) _ q,r⟩
 item:=by
  intro X hP hw hK hc i pins s σ H E I hf st hg;subst hP hw hK;obtain⟨xs,x,h1,hx⟩:=hg;obtain⟨its,r,pl,hz⟩:=I.list h1;obtain⟨u,hu,ru⟩:=r.get hx;obtain⟨⟨old,he⟩,hr⟩:=st;have hd:X.A.in1.handled=none:=I.ok.hd hc;have hlt:i<its.toArray.size:=by
   have:=(List.getElem?_eq_some_iff.mp hu).1;simpa using this
  refine wpAny_pyNext_enum_itemD (HS.shift (Draws.list hd it l nl its.toArray)) he ⟨by omega,by simpa using hr,pl.isList⟩ (by omega) ne (by simp;exact⟨ne,nle⟩) λx' g tk hx' ho hr' ht hsz kp=>⟨_,rfl,?_⟩
  have ex:x'=u:=by
   have hx':its.toArray[i]?=some x':=hx';rw[List.getElem?_toArray,hu]at hx';exact(Option.some.inj hx').symm
  subst ex;refine wpAny_letOwnedTupleGo_enum ho λg' e' sb=>?_;have hle:e<s.heap.objs.size:=Heap.lt_size he;have kp2:∀c o,c∉[e,it]->s.heap.get? c=some o->g'.get? c=some o:=λc o nc q=>by
   simp only[mem_cons,not_mem_nil,or_false,not_or]at nc;exact sb.extBut _ _ nc.1 (kp c o nc.1 nc.2 q)
  have hT:s.heap.objs.size≠e:=ne_of_gt hle;have hpair:g'.get? s.heap.objs.size=some { cls:=.type "tuple",data:=.seq #[.int ((i+1:Nat):Int) tk,x'] }:=sb.extBut _ _ hT ht;have fresh:H s.heap.objs.size=none:=I.hok.fresh (le_refl _);have I2:Inv X pins σ (upd H s.heap.objs.size (.tup [.int ((i:Int)+1),x])) { s with heap:=g',toks:=tk+1 }:=I.turnsL (tk:=tk+1) (o:=.tup [.int ((i:Int)+1),x]) kp2 hf (le_refl _)
   (show ObjOk X.prog X.w _ g' _ (.tup [.int ((i:Int)+1),x])from⟨by show 2<=sizeLine;decide,[.int ((i+1:Nat):Int) tk,x'],.cons ⟨_,rfl⟩ (.cons ru .nil),⟨_,hpair,rfl,⟨_,rfl⟩,rfl⟩⟩)
  refine⟨.ref s.heap.objs.size,_,I2,rfl,⟨s.heap.objs.size,x,fresh,rfl,rfl,λxs' q=>by rw[I.list_inj q h1];exact hx⟩,⟨⟨x',?_⟩,?_⟩,λc hc=>?_⟩
  .have:=e';rw[show(((i+1:Nat):Int)+1)=((i+1+1:Nat):Int) by omega]at this;exact this
  .have q:=hr'.2.1;exact q.extBut sb.extBut (Ne.symm ne)
  .have lt:c<s.heap.objs.size:=by
    simp only[mem_cons,not_mem_nil,or_false]at hc;rcases hc with rfl|rfl
    .exact hle
    .obtain⟨o,q,_⟩:=hr;exact Heap.lt_size q
   rw[AC (ne_of_lt lt)];exact(hf c hc).1
 done:=by
  intro X hP hw hK hc i pins s σ H E I hf st hg;subst hP hw hK;obtain⟨xs,h1,hend⟩:=hg;obtain⟨its,r,pl,hz⟩:=I.list h1;have l1':=r.length;obtain⟨⟨old,he⟩,hr⟩:=st;have hd:X.A.in1.handled=none:=I.ok.hd hc;have en:i=its.toArray.size:=by simp;omega
  subst en;refine wpAny_pyNext_enum_endD (HS.shift (Draws.list hd it l nl its.toArray)) he ⟨by omega,by simpa using hr,pl.isList⟩ λg x=>⟨rfl,?_⟩
  exact I.turns (tk:=s.toks) (λc o nc q=>by
   simp only[mem_cons,not_mem_nil,or_false,not_or]at nc;exact x c o nc.2 q) hf
 self:=λ_ _ _ _ _ st h=>by
  obtain⟨⟨old,he⟩,hr⟩:=st;exact wpAny_pyIter_enum he h
def M9(K:PySem.W.Frag)(ta:TA):TI:=λσ H R=>ta σ H λvs H1=>∃a xs,vs=[.ref a]/\SqL K H1 a xs/\R (ItS K a) H1
def SH(K:PySem.W.Frag){X:Cx}{a:Expr}{ta:TA}{elts:List Expr}{kk:Nat}{j}{tpos p pos cp kp:Pos}(hg:Gl X "enumerate")(hm:X.mg "enumerate"=none)(ha:PA X [a] ta)(hK:X.K=K:=by rfl)(hs:starEach [a] X.env=[(false,eval a X.env)]:=by rfl):
 PI X (.Tuple elts kk tpos) (.Call (.Name "enumerate" p) [a] [⟨some "start",.Constant (.int 1) j cp,kp⟩] pos) (M9 K ta):=by
 subst hK;intro pins s σ H R I h;refine wpAny_Call_Name_kw (Ca I hg hm Dg ?_);have pl:(backTo pos (starEach [a] X.env)).any (·.1)=false:=by rw[hs];rfl
 refine HS.callWith_typeK pl rfl (evalArgs_kw2 (env:=X.env) (e:=a) (rest:=[]) (kws:=[⟨some "start",.Constant (.int 1) j cp,kp⟩]) rfl (thn (ha pos pins s σ H _ I h) λus s1 ⟨vs,H1,I1,r1,q1⟩=>?_) hs);obtain⟨l,xs,e,c,q⟩:=q1;subst e;obtain⟨u,rfl,ru⟩:=r1.one;cases ru;show wpAny _ _ (evalAll [(do let v <- eval (.Constant (.int 1) j cp) X.env;standAt pos;pure v)]) _ _ s1;refine wpAny_evalAll_cons (wpAny_bind (wpAny_Constant_int (wpAny_bind (wpAny_standAt (wpAny_pure (wpAny_evalAll_nil ?_))))));have I2:=I1.tok (s1.toks+1);obtain⟨its,r,pl,hz⟩:=I2.list c;have ll:l<s1.heap.objs.size:=by obtain⟨o,ho,_⟩:=pl.isList;exact Heap.lt_size ho
 refine HS.call_enumS pl.isList λg he hr hsz kp=>wpAny_pyIter_enum he ?_;refine⟨_,_,_,_,H1,rfl,I2.kept (t':=s1.toks+1) kp,No (ne_of_gt (lt_succ_self _)) (ne_of_lt ll) (ne_of_gt (lt_succ_of_lt ll)),⟨⟨_,he⟩,hr⟩,λc hc=>?_,q⟩;simp only[mem_cons,not_mem_nil,or_false]at hc;have le:s1.heap.objs.size<=c:=by
  rcases hc with rfl|rfl
  .exact le_add_right _ _
  .exact le_refl _
 exact I2.fpOk le (I2.hok.fresh le)
section
variable{K:PySem.W.Frag}
def FZ(ma:MI):MI:=λls hd=>(ma ls hd).map λp=>((p.1.1.zipIdx.map λq=>AV [.im (.int ((q.2:Int)+1)),q.1],p.1.2),p.2)
def Rf{ta:TE}{ma:MI}(ha:RRw K false ta ma):RIt K (M9 K (B7 ta Bv)) (FZ ma):=by
 intro ρ σ H hd ls Q d g hd' hR hL hm hQ;obtain⟨⟨⟨d1,g1⟩,h1⟩,e1,e2⟩:=c7 hm;cases e2;refine ha ρ σ H hd ls _ d1 g1 h1 hR hL e1 λρ1 H1 a x1 R1 G1 S1=>?_;obtain⟨xs,c1,r1⟩:=S1 ρ1 H1 _ .refl R1 G1;refine⟨a,xs,rfl,c1,hQ ρ1 H1 _ x1 R1 G1 ?_⟩;intro ρ3 H3 hd3 x3 R3 G3 i;obtain⟨xs,c1,r1⟩:=S1 ρ3 H3 _ x3 R3 G3;have l1:=r1.len;refine⟨λhi=>?_,λhi=>⟨xs,c1,?_⟩⟩
 .have hi:i<d1.length:=by simpa using hi
  have i1:d1[i]?=some (d1[i]'hi):=List.getElem?_eq_getElem _;obtain⟨x,x4,x5⟩:=r1.get i1;refine⟨⟨xs,x,c1,x4⟩,λz H4 hz=>?_⟩;obtain⟨p,v,fp,rfl,rfl,hv⟩:=hz;have ev:=hv xs c1;rw[x4]at ev;cases ev;obtain⟨R4,x6⟩:=R3.hid (ho:=.tup [.int ((i:Int)+1),x]) fp;refine⟨ρ3,AV [.im (.int ((i:Int)+1)),d1[i]'hi],x6,rfl,R4,?_,Bn (SqT.of AM) (.cons (by simp[RD,RI]) (.cons (x5.ext R3 x6) .nil))⟩;simp[i1]
 .have hi:i=d1.length:=by simpa using hi
  omega
def S3(K:PySem.W.Frag){X:Cx}{a:Expr}{ta:TE}{ma:MI}{elts:List Expr}{kk:Nat}{j}{tpos p pos cp kp:Pos}(hm:X.mg "enumerate"=none)(ha:QR K false X a ta ma)(hg:Gl X "enumerate":=by rfl)(hK:X.K=K:=by rfl)(hs:starEach [a] X.env=[(false,eval a X.env)]:=by rfl):
 QI K X (.Tuple elts kk tpos) (.Call (.Name "enumerate" p) [a] [⟨some "start",.Constant (.int 1) j cp,kp⟩] pos) (M9 K (B7 ta Bv)) (FZ ma):=⟨SH K hg hm (Bi ha.p CI hs) hK hs,Rf ha.r⟩
def Qm{ma:MI}{ls:Ls}{hd:Hd}{QI:List D×Gd->Hd->Prop}(h:WI ma ls hd λp x=>QI (p.1.zipIdx.map λq=>AV [.im (.int ((q.2:Int)+1)),q.1],p.2) x):WI (FZ ma) ls hd QI:=by
 obtain⟨p,x,e,q⟩:=h;exact⟨_,_,by simp only[FZ,e,map_some],q⟩
end
end L2
namespace L2
open PySem PySem.Spec PyProof.Rows PySem.W
def Inv.turnE{X:Cx}{pins:List (Addr×Obj)}{σ:St}{H:Hp}{s:Shared}{b:Addr}{o:Obj}{h':Heap}{t':Nat}(I:Inv X ((b,o)::pins) σ H s)(f:FpOk X pins H b)(hs:∀c u,c≠b->s.heap.get? c=some u->h'.get? c=some u):Inv X pins σ H { s with heap:=h',toks:=t' }:=by
 have J:Inv X pins σ H s:=I.pins_of λp hp=>I.pin p (mem_append_right _ (mem_cons_of_mem _ hp));obtain⟨hn,hL,_,h1,h2,h3⟩:=f;exact J.turned (λc u n e=>hs c u n e) hn hL h1 h2 h3
section
variable{K:PySem.W.Frag}{hd:Hd}
def PM{ρ:List Addr}{H:Hp}{ls:Ls}{σ:St}{ix:List Nat}{d:D}{v:V}(L:RL K ρ H ls σ)(r:RD K ρ H d v):RL K ρ H (some d::ix.map λi=>(ls[i]?).join) (some v::ix.map λi=>(σ[i]?).join):=by
 refine⟨by simp,λi d' ei=>?_⟩;cases i with
 |zero=>cases ei;exact⟨v,rfl,r⟩
 |succ j=>
  have ei:(ix.map λi=>(ls[i]?).join)[j]?=some (some d'):=ei;rw[List.getElem?_map]at ei;cases qj:ix[j]? with
  |none=>rw[qj]at ei;cases ei
  |some m=>
   rw[qj]at ei;have ei:(ls[m]?).join=some d':=Option.some.inj ei;have em:ls[m]?=some (some d'):=by
    cases w:ls[m]? with
    |none=>rw[w]at ei;cases ei
    |some z=>rw[w]at ei;simpa using ei
   obtain⟨v,ev,rv⟩:=L.ob m d' em;refine⟨v,?_,rv⟩;show(ix.map λi=>(σ[i]?).join)[j]?=some (some v);rw[List.getElem?_map,qj];simp[ev]
end
end L2
namespace L2
open PySem PySem.W
def tg1:Expr->List Str
 |.Name x _=>[x]
 |_=>[]
def tg2:Expr->List Str
 |.Tuple es _ _=>es.flatMap tg1
 |e=>tg1 e
def tgN:Expr->List Str
 |.Tuple es _ _=>es.flatMap tg2
 |e=>tg1 e
def frN(X:Cx)(ix:List Nat):List Str:=ix.filterMap λi=>X.N[i]?
def ndB:List Str->Bool
 |[]=>true
 |x::xs=>!xs.elem x&&ndB xs
theorem Gk:∀{l:List Str},ndB l=true->l.Nodup
 |[],_=>List.nodup_nil
 |x::xs,h=>by
  obtain⟨h1,h2⟩:=Bool.and_eq_true_iff.mp h;refine nodup_cons.mpr ⟨λhm=>?_,Gk h2⟩;rw[List.elem_eq_true_of_mem hm]at h1;cases h1
section
variable{K:PySem.W.Frag}{X:Cx}{elt tg iter tg' iter' e:Expr}{ifs ifs':List Expr}{scope:Scope}{pos spos py:Pos}{ix:List Nat}{wi wi':TI}{g g':TG}{tf tf':TT}{te tk tv:TE}{mi mi':MI}{n n':MG}{mf mf':MT}{me mk mv:ME}{k i:Nat}{x y:Str}
def qgA(hN:ndB X.N=true:=by kernel_rfl)(hi:X.N[i]?=some x:=by rfl)(hx:Loc X.env.scope x:=by first|exact Or.inl rfl|exact Or.inr rfl)(hf:X.fn x=true∨X.env.scope.names.lookup x=some .local:=by first|exact .inl rfl|exact .inr rfl):QG K X (.Name x pos) (Dp i) (AB i):=Ul K (Gk hN) hi hx hf
def qnA(hi:QI K X tg iter wi mi)(hg:∀s H ex,QG K (cCx X (tgN tg++frN X ix) scope s H ex) tg g n)(hf:∀s H ex,QF K (cCx X (tgN tg++frN X ix) scope s H ex) ifs tf mf)(he:∀s H ex,QE K (cCx X (tgN tg++frN X ix) scope s H ex) elt te me)
 (hc:X.calm=true:=by rfl) (S:CSc X scope (frN X ix) ix:=by exact⟨rfl,by decide +kernel,rfl,rfl,rfl,by decide +kernel⟩) (hs:∀x,foldedSetIterable iter X.env x=pure x:=by intro _;rfl) (hk:(tgN tg).length=k:=by rfl):
 QN K X (.ListComp elt [⟨tg,iter,ifs,0⟩] scope pos) (Fh k ix wi g tf te) (Ac k ix mi n mf me):=by
 subst hk;exact Ug K hc S hi hg hf he hs
def aJ(hi:QI K X tg iter wi mi)(hg:∀s H ex,QG K (cCx X (tgN tg++frN X ix) scope s H ex) tg g n)(hf:∀s H ex,QF K (cCx X (tgN tg++frN X ix) scope s H ex) ifs tf mf)(he:∀s H ex,QE K (cCx X (tgN tg++frN X ix) scope s H ex) elt te me)
 (hsw:swapsWith (.ListComp elt [⟨tg,iter,ifs,0⟩] scope pos) (some (.Name y py)) spos.line X.env=pure true:=by rfl) (hN:ndB X.N=true:=by kernel_rfl) (hiN:X.N[i]?=some y:=by rfl) (hy:X.env.scope.names.lookup y=some .local:=by rfl)
 (hc:X.calm=true:=by rfl) (S:CSc X scope (frN X ix) ix:=by exact⟨rfl,by decide +kernel,rfl,rfl,rfl,by decide +kernel⟩) (hs:∀x,foldedSetIterable iter X.env x=pure x:=by intro _;rfl) (hk:(tgN tg).length=k:=by rfl):
 QS K X (.Assign [.Name y py] (.ListComp elt [⟨tg,iter,ifs,0⟩] scope pos) spos) (Ed (Fh k ix wi g tf te) (Dp i)) (AQ i (B3 (Ac k ix mi n mf me))):=by
 subst hk;exact UW K (Gk hN) hiN hy hc S hi hg hf he hsw hs
def qsA{pos':Pos}(he:QE K X e te me)(hs:swapsWith e (some (.Name x pos')) pos.line X.env=pure false:=by rfl)(hN:ndB X.N=true:=by kernel_rfl)(hi:X.N[i]?=some x:=by rfl)(hx:Loc X.env.scope x:=by first|exact Or.inl rfl|exact Or.inr rfl)(hf:X.fn x=true∨X.env.scope.names.lookup x=some .local:=by first|exact .inl rfl|exact .inr rfl):
 QS K X (.Assign [.Name x pos'] e pos) (Ed te (Dp i)) (AQ i me):=X2 K (Gk hN) hi hx he hs hf
end
end L2
namespace L2
open PySem PySem.Spec PyProof.Rows PySem.W
abbrev Tb:=Addr×Str×Nat×Nat
def VT(ts:List Tb):Obj:={ cls:=.str "tables" 0,data:=.fields (ts.flatMap λt=>[.ref t.1,.str t.2.1 0,.int t.2.2.1 0,.int t.2.2.2 0]).toArray }
def BN(K:PySem.W.Frag)(ts:List Tb):PySem.W.Frag:=(K.filter λp=>!(ts.map (·.1)).contains p.1)++[(mainGlobals,VT ts)]
theorem P5:∀ts:List Tb,Kf (ts.flatMap λt=>[Value.ref t.1,.str t.2.1 0,.int t.2.2.1 0,.int t.2.2.2 0])=ts.map λt=>(t.1,t.2.1,⟨t.2.2.1,t.2.2.2,0,0⟩)
 |[]=>rfl
 |t::r=>by
  rw[List.flatMap_cons,map_cons,<- P5 r];rfl
def GV(K:PySem.W.Frag)(ts:List Tb):CY (BN K ts)=ts.map λt=>(t.1,t.2.1,⟨t.2.2.1,t.2.2.2,0,0⟩):=by
 unfold CY BN;rw[List.getLast?_concat];show Kf _=_;rw[<- P5 ts]
theorem FG{L:List Addr}{a:Addr}(ha:a∉L):∀K:PySem.W.Frag,(K.filter λp=>!L.contains p.1).lookup a=K.lookup a
 |[]=>rfl
 |(b,o)::r=>by
   have ih:=FG ha r;rw[filter_cons];by_cases hb:b∈L
   .have h1:(!L.contains (b,o).1)=false:=by simp[hb]
    have h2:(a==b)=false:=beq_eq_false_iff_ne.mpr λz=>ha (z ▸ hb);rw[if_neg (by rw[h1];decide),lookup_cons,h2,ih]
   .have h1:(!L.contains (b,o).1)=true:=by simp[hb]
    rw[if_pos h1,lookup_cons,lookup_cons,ih]
theorem Gq{L:List Addr}{P:Addr}(hP:P∈L):∀K:PySem.W.Frag,(K.filter λp=>!L.contains p.1).lookup P=none
 |[]=>rfl
 |(b,o)::r=>by
   have ih:=Gq hP r;rw[filter_cons];by_cases hb:b∈L
   .rw[if_neg (by simp[hb])];exact ih
   .have h2:(P==b)=false:=beq_eq_false_iff_ne.mpr λz=>hb (z ▸ hP);rw[if_pos (by simp[hb]),lookup_cons,h2];exact ih
section
variable{K:PySem.W.Frag}{ts:List Tb}
def Gn{a:Addr}{o:Obj}(ha:a∉ts.map (·.1))(e:K.lookup a=some o):(BN K ts).lookup a=some o:=by
 unfold BN;rw[lookup_append,FG ha,e];rfl
def VS{h:Heap}(X:K.In h){g:Obj}(hg:K.lookup mainGlobals=some g)(hP:mainGlobals∉ts.map (·.1)):(BN K ts).In h:=λa o e=>by
 unfold BN at e;rw[lookup_append]at e;by_cases ha:a∈ts.map (·.1)
 .rw[Gq ha,none_or]at e;have h2:(a==mainGlobals)=false:=beq_eq_false_iff_ne.mpr λz=>hP (z ▸ ha);rw[lookup_cons,h2]at e;cases e
 .rw[FG ha]at e;cases k:K.lookup a with
  |some o'=>rw[k]at e;cases e;exact X _ _ k
  |none=>
   rw[k,none_or,lookup_cons]at e;by_cases hm:a=mainGlobals
   .subst hm;rw[hg]at k;cases k
   .rw[beq_eq_false_iff_ne.mpr hm]at e;cases e
def VR(hM:mainGlobals∉ts.map (·.1)){P:Addr}(hP:P∈ts.map (·.1)):(BN K ts).lookup P=none:=by
 unfold BN;have h2:(P==mainGlobals)=false:=beq_eq_false_iff_ne.mpr λz=>hM (z ▸ hP);rw[lookup_append,Gq hP,none_or,lookup_cons,h2];rfl
def Fun.mark{x qual:Str}{st:Stmt}{f:Addr}{fd:FuncData}(D:Fun K x qual st f fd){h:Heap}(X:K.In h)(hP:∀P∈ts.map (·.1),h.get? P=some (tabObj #[])):Fun (BN K ts) x qual st f fd:=by
 have neP:∀a o,K.lookup a=some o->o≠tabObj #[]->a∉ts.map (·.1):=λa o e n z=>by
  have:=X _ _ e;rw[hP a z]at this;exact n (Option.some.inj this).symm
 obtain⟨⟨oc,od,kV,doc,pm,an,cdv,ct,osl,rfl,lk,hcd⟩,kp⟩:=D;have hf:f∉ts.map (·.1):=neP f _ lk (λz=>by cases z);refine⟨⟨oc,od,kV,doc,pm,an,cdv,ct,osl,rfl,Gn hf lk,?_⟩,?_⟩
 .unfold codeIn at hcd ⊢;split at hcd
  .next c0=>
   split at hcd
   .next vs sl k=>
    have hc:c0∉ts.map (·.1):=neP c0 _ k (λz=>by
     have:vs=#[]:=by injection z with _ _ z _;injection z
     rw[this]at hcd;cases hcd)
    simp only[Gn hc k];exact hcd
   .cases hcd
  .cases hcd
 .unfold keepIn;simp only[Gn hf lk]
end
def Z1{K:PySem.W.Frag}{H:Hp}{a:Addr}{xs:List V}(hS:SqL K H a xs)(hO:∀ys,H a≠some (.lst ys)):RoL K H a xs:=by
 rcases hS with(h|h)|h
 .exact absurd h (hO xs)
 .exact .inl h
 .exact .inr h
def Q5{Pg:Program}{w:World}{K:PySem.W.Frag}{mg mb:Str->Option Value}{k:Nat}{fa a:Addr}{fd:FuncData}{x:Str}{ts:List Tb}{s₁:Shared}{vs:List Value}{ns:List Int}{F:List D->Hd->Option (D×Hd)}
 (KX:K.In s₁.heap) (hns:s₁.heap.Ns mainGlobals mg) (hb:s₁.heap.Ns builtinsNs mb) (hbb:∀x:Str,x≠"__name__"->mb x=bootBuiltins x) (hlim:s₁.heap.NoLimit) (hg:s₁.gens=#[])
 (ha:s₁.heap.get? a=some { cls:=.type "list",data:=.seq vs.toArray }) (hi:IntsAre vs ns) (hl:ns.length<=sizeLine) (hr:Room k callerA)
 (hT:∀P∈ts.map (·.1),∃cc,s₁.heap.TableAt cc P #[]) (hPK:∀P∈ts.map (·.1),K.lookup P=none) (htab:CY K=ts.map λt=>(t.1,t.2.1,⟨t.2.2.1,t.2.2.2,0,0⟩))
 (Fn:∀base:Heap,K.In base->base.Ns mainGlobals mg->(∀b o,b∉ts.map (·.1)->b≠a->s₁.heap.get? b=some o->base.get? b=some o)->FnOk Pg w K mg base CX0 k fa fd [x] (spF K 1 F)) (hbind:∀(s:Shared) (u:Value),BindsTo s fd ⟨[u],[]⟩ [(x,u)])
 (hF:∃hd',F [.ro ns] []=some (.im (.bl true),hd')):
 codeAny (model Pg w) callerA (.call (.ref fa) ⟨[.ref a],[]⟩) (λr s'=>r=.ok (.ret (.bool true))/\OldK s₁.heap s'.heap/\s'.os=s₁.os/\AllBare s'.gens) s₁:=by
 have rv:=Jn hi;have lenV:=hi.length;have hP:∀P∈ts.map (·.1),s₁.heap.get? P=some (tabObj #[]):=λP h=>let ⟨cc,t⟩:=hT P h;t.2
 have haP:a∉ts.map (·.1):=λz=>by rw[hP a z]at ha;cases ha
 have core:∀H:Hp,(∀b,b∉ts.map (·.1)->H b=none∨∃o xs,H b=some (.frz o (.lst xs)))->(∀P∈ts.map (·.1),H P=some (.tbl #[]))->SqL K H a (ns.map V.int)->HOk Pg w H s₁.heap->(∀b,H b≠none->b=a∨b∈ts.map (·.1))->(H a≠none->K.lookup a=none) ->
  codeAny (model Pg w) callerA (.call (.ref fa) ⟨[.ref a],[]⟩) (λr s'=>r=.ok (.ret (.bool true))/\OldK s₁.heap s'.heap/\s'.os=s₁.os/\AllBare s'.gens) s₁:=by
  intro H hO hHP hS hok hA hK;have base_of:∀{b:Addr} {o:Obj},s₁.heap.get? b=some o->H b=none->(G4 s₁.heap H).get? b=some o:=λe n=>Sh e n;have noA:∀{b:Addr} {o:Obj} {es:Array DictEntry} {ep:Nat},s₁.heap.get? b=some o->o.data=.dict es ep->H b=none:=λ{b o es ep} e d=>by
   cases q:H b with
   |none=>rfl
   |some u=>
    rcases hA b (by rw[q];simp)with e'|e'
    .subst e';rw[ha]at e;cases e;have d':Data.seq vs.toArray _=Data.dict es ep:=d;cases d'
    .rw[hP b e']at e;cases e;cases d
  have nsK:∀{b:Addr} {m:Str->Option Value},s₁.heap.Ns b m->(G4 s₁.heap H).Ns b m:=λ{b m} ⟨o,es,ep,e,d,r⟩=>⟨o,es,ep,base_of e (noA e d),d,r⟩
  have hKb:K.In (G4 s₁.heap H):=λb o e=>base_of (KX b o e) (by
   cases q:H b with
   |none=>rfl
   |some u=>
    rcases hA b (by rw[q];simp)with e'|e'
    .subst e';rw[hK (by rw[q];simp)]at e;cases e
    .rw[hPK b e']at e;cases e)
  have hM:Mod K mg (G4 s₁.heap H):=⟨hKb,nsK hns,⟨mb,nsK hb,hbb⟩,let ⟨mc,h1,h2⟩:=hlim;⟨mc,nsK h1,h2⟩⟩
  have e0:Env0 Pg w K mg (G4 s₁.heap H) callerA [] s₁ H:=⟨rfl,hM,λb o e=>VO e,Nat.le_of_eq (QC _ _),trivial,λb hb=>absurd (show b∈([]:List Addr)from hb) (by simp),hok,.of_eq hg⟩
  have hsp:spF K 1 F [.ref a] H (λv _=>v=.bl true) λ_ _ _=>False:=by
   obtain⟨hd',e⟩:=hF;refine⟨rfl,[],[],[.ro ns],.im (.bl true),hd',⟨rfl,List.nodup_nil,λy hy=>?_,λn o a h=>by simp at h⟩,?_,e,λρ' H' v _ _ r=>?_⟩
   .rw[htab]at hy;obtain⟨t,ht,rfl⟩:=mem_map.mp hy;exact⟨#[],hHP t.1 (mem_map.mpr ⟨t,ht,rfl⟩),.inl rfl⟩
   .simp only[RDs,RD];refine⟨_,_,rfl,⟨a,rfl,Z1 hS λys z=>?_⟩,rfl⟩;rcases hO a haP with q|⟨o,ys,q⟩<;>(rw[q]at z;cases z)
   .simpa only[RD,RI]using r
  refine codeAny_mono ((Fn _ hKb (nsK hns) λb o n1 n2 e=>base_of e (by
   cases q:H b with
   |none=>rfl
   |some u=>
    rcases hA b (by rw[q];simp)with e'|e'
    .exact absurd e' n2
    .exact absurd e' n1)).run callerA [] s₁ H ⟨[.ref a],[]⟩ [.ref a] [.ref a] _ _ hr e0 (hbind s₁ (.ref a)) (.cons rfl .nil) hsp) λr s' h=>?_
  cases r with
  |error e=>exact h.elim
  |ok fl=>
   cases fl with
   |next=>exact False.elim h
   |brk=>exact False.elim h
   |cont=>exact False.elim h
   |ret u=>
    obtain⟨v,H',os,bare,un,hok',r',q⟩:=h;have q':v=.bl true:=q;subst q';obtain rfl:u=Value.bool true:=r';have keep:∀b o,b∉ts.map (·.1)->s₁.heap.get? b=some o->s'.heap.get? b=some o:=λb o nb e=>by
     cases q:H b with
     |none=>exact un.keep b o e q (by intro z;exact absurd (show b∈([]:List Addr)from z) (by simp)) (by simp)
     |some u=>
      rcases hO b nb with z|⟨ob,xs,z⟩
      .rw[q]at z;cases z
      .have z2:=un.frzs b ob _ z;obtain⟨e1,_⟩:=hok b _ z;obtain⟨e2,_⟩:=hok' b _ z2;rw[e]at e1;cases e1;exact e2
    refine⟨rfl,⟨λb o e=>?_,λb o e=>?_⟩,os,bare⟩
    .by_cases nb:b∈ts.map (·.1)
     .obtain⟨cc,tb⟩:=hT b nb;obtain⟨more,hm⟩:=un.tbls b #[] (hHP b nb);have hb':s'.heap.get? b=some (tabObj (#[]++more)):=hok' b _ hm;rw[hP b nb]at e;cases e;exact .inr (.inl ⟨tb.isCodeTable,rfl,#[],more,rfl,hb'⟩)
     .exact .inl (keep b o nb e)
    .by_cases nb:b∈ts.map (·.1)
     .obtain⟨more,hm⟩:=un.tbls b #[] (hHP b nb);exact⟨_,hok' b _ hm⟩
     .exact⟨o,keep b o nb e⟩
 cases hk:K.lookup a with
 |some o=>
  have e:=KX a o hk;rw[ha]at e;cases e;refine core (λb=>if b∈ts.map (·.1)then some (.tbl #[])else none) (λb nb=>.inl (if_neg nb)) (λP hp=>if_pos hp) (.inr ⟨_,vs.toArray,_,hk,rfl,rfl,rfl,by rw[size_toArray,lenV];exact hl,by simpa using rv⟩) (λb u z=>?_) (λb z=>?_) λz=>absurd (if_neg haP) z
  .by_cases hb:b∈ts.map (·.1)
   .have z':=(if_pos hb).symm.trans z;cases z';exact hP b hb
   .have z':=(if_neg hb).symm.trans z;cases z'
  .by_cases hb:b∈ts.map (·.1)
   .exact .inr hb
   .exact absurd (if_neg hb) z
 |none=>
  refine core (λb=>if b∈ts.map (·.1)then some (.tbl #[])else if b=a then some (.frz { cls:=.type "list",data:=.seq vs.toArray } (.lst (ns.map V.int)))else none) (λb nb=>?_) (λP hp=>if_pos hp) (.inl (.inr ⟨{ cls:=.type "list",data:=.seq vs.toArray },(if_neg haP).trans (if_pos rfl)⟩)) (λb u z=>?_) (λb z=>?_) λ_=>hk
  .rw[if_neg nb];by_cases hb:b=a
   .exact .inr ⟨_,_,if_pos hb⟩
   .exact .inl (if_neg hb)
  .by_cases hp:b∈ts.map (·.1)
   .have z':=(if_pos hp).symm.trans z;cases z';exact hP b hp
   .have z:=(if_neg hp).symm.trans z;by_cases hb:b=a
    .have z':=(if_pos hb).symm.trans z;cases z';subst hb;exact⟨ha,by rw[length_map];exact hl,vs,_,rv,ha⟩
    .have z':=(if_neg hb).symm.trans z;cases z'
  .by_cases hp:b∈ts.map (·.1)
   .exact .inr hp
   .by_cases hb:b=a
    .exact .inl hb
    .exact absurd ((if_neg hp).trans (if_neg hb)) z
def walkL{l:PySem.W.OpenLaw}{n k:Nat}{q:Program}{loose:List Str}{XP:(Str->Option Value)->Heap->Prop}{YP:World->Heap->Prop}{d:DefRec}{K:Params->PySem.W.Frag}{F:List D->Hd->Option (D×Hd)}(xs:List (Str×Str×Nat×Nat))
 (hn:l.most=some n) (hn2:n<=sizeLine) (hdf:d.params.defaults=[]) (hr:Room k callerA) (hdr:∀x∈xs,∃dr,(recsOf q).find? (λe=>e.name==x.1)=some dr)
 (hF:∀ns:List Int,∃hd',F [.ro ns] []=some (.im (.bl true),hd'))
 (hY:∀(w:World) (h:Heap),YP w h->(K w.params).In h)
 (G:∀(w:World) (mg:Str->Option Value) (fa:Addr) (h:Heap) (c P:Str->Addr),(K w.params).In h->h.Ns mainGlobals mg->mg d.name=some (.ref fa) ->
  (∀x∈xs,h.get? (P x.1)=some (tabObj #[])/\CodeHd h (c x.1) (P x.1)/\∃a o fd,mg x.1=some (.ref a)/\h.get? a=some o/\o.data=.func fd/\fd.code=.ref (c x.1)) ->
  (∃g,(K w.params).lookup mainGlobals=some g)/\∃fd:FuncData,(∀(s:Shared) (u:Value),BindsTo s fd ⟨[u],[]⟩ [("_law_script",u)])/\
   ∀base:Heap,(BN (K w.params) (xs.map λx=>(P x.1,x.2))).In base->base.Ns mainGlobals mg->(∀x∈xs,CodeHd base (c x.1) (P x.1))->(∀x∈xs,base.BuiltinsAt mg (P x.1))->FnOk l.prog w (BN (K w.params) (xs.map λx=>(P x.1,x.2))) mg base CX0 k fa fd ["_law_script"] (spF (BN (K w.params) (xs.map λx=>(P x.1,x.2))) 1 F)):
 PySem.W.WalkO q loose XP YP l.row.toRowW d [] (λf vs=>PySem.call f vs):=by
 refine Att.attach_call hn hdf λw s₀ s₁ mg mb fa o pm cd doc a vs ns Gr Y ho hd hcd hmg hobj hints hlen hg=>?_;have KX:=hY w _ Y;have each:∀x:Str,∃cp:Addr×Addr,(∃y∈xs,y.1=x)->(∃cc,s₁.heap.TableAt cc cp.2 #[])/\CodeHd s₁.heap cp.1 cp.2/\∃a o fd,mg x=some (.ref a)/\s₁.heap.get? a=some o/\o.data=.func fd/\fd.code=.ref cp.1:=by
  intro x;by_cases hx:∃y∈xs,y.1=x
  .obtain⟨y,hy,rfl⟩:=hx;obtain⟨dr,hdr⟩:=hdr y hy;have hnm:dr.name=y.1:=beq_iff_eq.mp (List.find?_some (p:=λe:DefRec=>e.name==y.1) hdr);obtain⟨a',o',fd',c,P,h1,h2,h3,h4,h5,h6⟩:=Gr.T.tab dr (List.mem_of_find?_eq_some hdr);rw[hnm]at h1;exact⟨(c,P),λ_=>⟨⟨_,h6⟩,CodeHd.of h5 h6,a',o',fd',h1,h2,h3,h4⟩⟩
  .exact⟨(0,0),λh=>absurd h hx⟩
 obtain⟨cp,hcp⟩:=Classical.skolem.mp each;have hcp:∀x∈xs,(∃cc,s₁.heap.TableAt cc (cp x.1).2 #[])/\CodeHd s₁.heap (cp x.1).1 (cp x.1).2/\∃a o fd,mg x.1=some (.ref a)/\s₁.heap.get? a=some o/\o.data=.func fd/\fd.code=.ref (cp x.1).1:=λx hx=>hcp x.1 ⟨x,hx,rfl⟩;have hts:∀P∈(xs.map λx=>((cp x.1).2,x.2)).map (·.1),∃x∈xs,P=(cp x.1).2:=λP hP=>by
  obtain⟨t,ht,rfl⟩:=mem_map.mp hP;obtain⟨x,hx,rfl⟩:=mem_map.mp ht;exact⟨x,hx,rfl⟩
 have hP:∀x∈xs,s₁.heap.get? (cp x.1).2=some (tabObj #[]):=λx hx=>by
  obtain⟨⟨cc,t⟩,_⟩:=hcp x hx;exact t.2
 have hmP:mainGlobals∉(xs.map λx=>((cp x.1).2,x.2)).map (·.1):=λz=>by
  obtain⟨x,hx,ez⟩:=hts _ z;obtain⟨o,es,ep,e,dd,_⟩:=Gr.T.g;rw[ez,hP x hx]at e;cases e;cases dd
 obtain⟨⟨g,hgl⟩,fd,hb,hFn⟩:=G w mg fa _ (λx=>(cp x).1) (λx=>(cp x).2) KX Gr.T.g hmg λx hx=>⟨hP x hx,(hcp x hx).2⟩
 refine Q5 (ts:=xs.map λx=>((cp x.1).2,x.2)) (K:=BN (K w.params) (xs.map λx=>((cp x.1).2,x.2))) (VS KX hgl hmP) Gr.T.g Gr.T.b Gr.T.builtins Gr.T.nolimit hg hobj hints (le_trans hlen hn2) hr (λP hp=>by obtain⟨x,hx,rfl⟩:=hts P hp;exact(hcp x hx).1) (λP hp=>VR hmP hp) (GV _ _) (λbase kb nb keep=>hFn base kb nb (λx hx=>?_) λx hx=>?_) hb (hF ns)
 .obtain⟨oc,vs',file,tf,flags,tg,inF,text,tt,e1,r1,r2,r3,r4,r5,r6,r7,r8,hne⟩:=(hcp x hx).2.1;have hn:(cp x.1).1∉(xs.map λx=>((cp x.1).2,x.2)).map (·.1):=λz=>by
   obtain⟨y,hy,ez⟩:=hts _ z;rw[ez,hP y hy]at e1;cases e1;cases r1
  exact⟨oc,vs',file,tf,flags,tg,inF,text,tt,keep (cp x.1).1 oc hn (λz=>by rw[z,hobj]at e1;cases e1;exact absurd (show Value.type "list"=Value.type "code" from r1) (by decide)) e1,r1,r2,r3,r4,r5,r6,r7,r8,hne⟩
 .obtain⟨bm,ob,b1,b2,b3,b4,b5,b6⟩:=Gr.T.bmain;have nP:∀y∈xs,bm≠(cp y.1).2:=λy hy z=>by rw[z,hP y hy]at b3;cases b3;cases b4
  have hn:bm∉(xs.map λx=>((cp x.1).2,x.2)).map (·.1):=λz=>by
   obtain⟨y,hy,ez⟩:=hts _ z;exact nP y hy ez
  refine⟨bm,ob,b1,b2,λz=>?_,nP x hx,keep bm ob hn (λz=>by rw[z,hobj]at b3;cases b3;exact absurd (show Value.type "list"=Value.type "module" from b4) (by decide)) b3,b4,b5,b6⟩;obtain⟨o,es,ep,e,dd,_⟩:=Gr.T.g;rw[<- z,b3]at e;cases e;rw[b6]at dd;cases dd
def Qt(o:Obj):Option Addr:=match o.data with
 | .fields vs=>(match (vs[11]?:Option Value)with
  |some (Value.ref P)=>some P
  | _=>none)
 |_=>none
def WB{K:PySem.W.Frag}{h:Heap}{c P p:Addr}{o:Obj}(X:K.In h)(hc:CodeHd h c P)(k:K.lookup c=some o)(e:Qt o=some p):P=p:=by
 obtain⟨o',vs,file,tf,flags,tg,inF,text,tt,e1,e2,e3,e4,_⟩:=hc;have:=X _ _ k;rw[e1]at this;cases this;simp only[Qt,e3,e4]at e;exact Option.some.inj e
end L2
namespace L2
open PySem PySem.W PyProof.Rows
abbrev FD:=List D->Hd->Option (D×Hd)
structure EnK where
 P:Program
 w:World
 K:PySem.W.Frag
 mg:Str->Option Value
 base:Heap
structure Df where
 x:Str
 st:Stmt
 ps:List Str
 k:Nat
 F:FD
def Dn(E:EnK)(e:Df):Prop:=∃f fd,DefAt E.K E.mg e.x e.st f fd e.ps
def Dl(E:EnK)(e:Df)(ps:Pos):Prop:=∃f fd c P,DefAt E.K E.mg e.x e.st f fd e.ps/\LamC E.K E.mg E.base fd c P ((e.x++".<locals>.")++"<lambda>") ps
def Kn(E:EnK)(e:Df):Prop:=∃f fd,DefAt E.K E.mg e.x e.st f fd e.ps/\FnOk E.P E.w E.K E.mg E.base CX0 e.k f fd e.ps (spF E.K e.ps.length e.F)/\∀ds hd z,e.F ds hd=some z->ds.length=e.ps.length
def okK{E:EnK}{x:Str}{st:Stmt}{ps N:List Str}{j k:Nat}{m:MS}{F:FD}(D:Dn E ⟨x,st,ps,k,F⟩)(S:FnScope N ps (A9 st))(hF:F=mkF ps.length N.length m)(hk:k=j+1)
 (h:∀(f:Addr) (cdv:Value) (A:Around) (outer:List Env) (s:Shared) (H:Hp) (Ek:XK),Room j (A.deeper (envOfC x (A9 st) s.heap.objs.size f cdv))->∃t,QSs E.K (FN CX0 E.P E.w E.K E.mg E.base N x (A9 st) f cdv A outer s H Ek).nox (BM st) t m):Kn E ⟨x,st,ps,k,F⟩:=by
 obtain⟨f,fd,D⟩:=D;subst hF;subst hk;exact⟨f,fd,D,VN D S (h f),NT⟩
def okL{E:EnK}{x:Str}{st:Stmt}{ps N:List Str}{j k:Nat}{m:MS}{F:FD}{pos:Pos}(D:Dl E ⟨x,st,ps,k,F⟩ pos)(S:FnScope N ps (A9 st))(hF:F=mkF ps.length N.length m)(hk:k=j+1)
 (h:∀(f c P:Addr) (fd:FuncData) (LC:LamC E.K E.mg E.base fd c P ((x++".<locals>.")++"<lambda>") pos) (cdv:Value) (A:Around) (outer:List Env) (s:Shared) (H:Hp) (Ek:XK),fd.code=cdv->Room j (A.deeper (envOfC x (A9 st) s.heap.objs.size f cdv))->∃t,QSs E.K (FN CX0 E.P E.w E.K E.mg E.base N x (A9 st) f cdv A outer s H Ek).nox (BM st) t m):Kn E ⟨x,st,ps,k,F⟩:=by
 obtain⟨f,fd,c,P,D,LC⟩:=D;subst hF;subst hk;exact⟨f,fd,D,SO D S (h f c P fd LC),NT⟩
def ok0{E:EnK}{x:Str}{st:Stmt}{ps:List Str}{k k':Nat}{F:FD}(D:Dn E ⟨x,st,ps,k',F⟩):Kn E ⟨x,st,ps,k,λ_ _=>none⟩:=by
 obtain⟨f,fd,D⟩:=D;refine⟨f,fd,D,⟨λvs H Q E h=>h.1,λA outer s H args us vs Q E hr e0 hb hv h=>?_⟩,λ_ _ _ h=>nomatch h⟩;obtain⟨_,_,_,_,_,_,_,_,e,_⟩:=h;cases e
section
variable{K:PySem.W.Frag}{X:Cx}{e:Expr}{es:List Expr}{t:TA}{m:MA}{x:Str}{j k:Nat}{ps:List Str}{F:FD}{st:Stmt}{p pos:Pos}
def qcW(w:Nat)(G:Kn ⟨X.prog,X.w,X.K,X.mg,X.base⟩ ⟨x,st,ps,j,F⟩)(hr:Room k X.A)(ha:QA K X (e::es) t m)
 (hjk:j<=k:=by first|decide|omega) (hg:Gl X x:=by rfl) (hdb:(x==("__debug__":Str))=false:=by decide) (he:starEach (e::es) X.env=(false,eval e X.env)::starEach es X.env:=by rfl) (hpl:(backTo pos (starEach es X.env)).any (·.1)=false:=by rfl) (hK:X.K=K:=by rfl):
 QE K X (.Call (.Name x p) (e::es) [] pos) (Ey (spF K ps.length F) [] E0 t) (AA w F m):=by
 subst hK;obtain⟨f,fd,D,G,l⟩:=G;exact S6 _ w G hr D ha l hjk hg hdb he hpl
def qcG(G:Kn ⟨X.prog,X.w,X.K,X.mg,X.base⟩ ⟨x,st,ps,j,F⟩)(hr:Room k X.A)(ha:QA K X (e::es) t m)
 (hjk:j<=k:=by first|decide|omega) (hg:Gl X x:=by rfl) (hdb:(x==("__debug__":Str))=false:=by decide) (he:starEach (e::es) X.env=(false,eval e X.env)::starEach es X.env:=by rfl) (hpl:(backTo pos (starEach es X.env)).any (·.1)=false:=by rfl) (hK:X.K=K:=by rfl):
 QE K X (.Call (.Name x p) (e::es) [] pos) (Ey (spF K ps.length F) [] E0 t) (CJ F m):=by
 subst hK;obtain⟨f,fd,D,G,l⟩:=G;exact S9 _ G hr D ha l hjk hg hdb he hpl
variable{c P:Addr}{scope:Scope}{ix:List Nat}{params:Arguments}{body:Expr}{lpos kpos:Pos}{te tb:TE}{mi mb:ME}{fd:FuncData}{cdv:Value}{q:Str}
def IE(a:Arguments):Str:=match a.args with
 |x::_=>x.arg
 |[]=>""
def X1{src:Ls->Hd->Option (List Int×Hd)}(LC:LamC X.K X.mg X.base fd c P q lpos)(hcd:fd.code=cdv)(hr:Room k X.A)(hm:X.mg "sorted"=none)(he:QSrc K X e te src)
 (hb:∀(f:Addr) (cd:Value) (s:Shared) (H:Hp),QE K (lCx X X.A.in1.in1 (IE params::frN X ix) (X.env.qual++"<lambda>") scope f cd (AX X.env.cells scope.names []) s H) body tb mb)
 (hcv:X.env.code=cdv:=by rfl) (hq:q=X.env.qual++"<lambda>":=by rfl) (S:CSc X scope (frN X ix) ix:=by exact⟨rfl,by decide +kernel,rfl,rfl,rfl,by decide +kernel⟩) (L:LSc scope (IE params):=by exact⟨rfl,rfl,rfl,rfl⟩) (h3:3<=k:=by decide)
 (hbind:∀(cl:List (Str×Addr)) (pm cd ctv us:Value),bindArgs (kla_fn "<lambda>" (X.env.qual++"<lambda>") params body scope cl pm cd ctv) ⟨[us],[]⟩=pure [(IE params,us)]:=by exact λ_ _ _ _ _=>rfl)
 (hcm:X.calm=true:=by rfl) (hg:Gl X "sorted":=by rfl) (hdef:defaultsOf params X.env=([],[]):=by rfl) (hs:starEach [e] X.env=[(false,eval e X.env)]:=by rfl) (hK:X.K=K:=by rfl):
 QN K X (.Call (.Name "sorted" p) [e] [⟨some "key",.Lambda params body scope lpos,kpos⟩] pos) (IZ K P (X.env.qual++"<lambda>") lpos ix te tb) (E1 src ix mb):=by
 subst hq;exact Rx K ⟨hcv.trans (hcd.symm.trans LC.code),LC.hd,LC.bl⟩ (hK ▸ LC.ti) S L hr h3 hm he hb hbind hcm hg hdef hs hK
end
def FnAt(K:PySem.W.Frag)(n:Str)(s:Stmt)(f:Addr)(cd:Value):Prop:=∃oc kV dc pm ct od an sl,PySem.W.nsIn K mainGlobals n=some (some (.ref f))/\K.lookup f=some ⟨oc,od,.func (PySem.W.fnOf n n (CO s) (BM s) (A9 s) .none kV dc pm an cd ct),sl⟩/\PySem.W.codeIn K cd n=true/\PySem.W.keepIn K (.ref f)=true
def Fe(K:PySem.W.Frag)(e:Df):Prop:=∃f cd,FnAt K e.x e.st f cd
def Fla(K:PySem.W.Frag)(e:Df)(p:Addr):Prop:=∃f ca ob,FnAt K e.x e.st f (.ref ca)/\K.lookup ca=some ob/\Qt ob=some p
abbrev Xs:=List (Str×Str×Nat×Nat)
def HX(xs:Xs)(mg:Str->Option Value)(h:Heap)(c P:Str->Addr):Prop:=∀x∈xs,h.get? (P x.1)=some (tabObj #[])/\CodeHd h (c x.1) (P x.1)/\∃a o fd,mg x.1=some (.ref a)/\h.get? a=some o/\o.data=.func fd/\fd.code=.ref (c x.1)
abbrev tbs(xs:Xs)(P:Str->Addr):List Tb:=xs.map λx=>(P x.1,x.2)
abbrev enM(l:PySem.W.OpenLaw)(w:World)(K:PySem.W.Frag)(xs:Xs)(P:Str->Addr)(mg:Str->Option Value)(base:Heap):EnK:=⟨l.prog,w,BN K (tbs xs P),mg,base⟩
def Bd(e:Df):Prop:=∀(kV doc pm:Value) (an:Option Addr) (cdv ct:Value) (us:List Value),us.length=e.ps.length->bindArgs (PySem.W.fnOf e.x e.x (CO e.st) (BM e.st) (A9 e.st) .none kV doc pm an cdv ct) ⟨us,[]⟩=pure (e.ps.zip us)
section
variable{K:PySem.W.Frag}{h:Heap}{mg:Str->Option Value}{xs:Xs}{c P:Str->Addr}(X:K.In h)(G:h.Ns mainGlobals mg)(hx:HX xs mg h c P)
include hx in
theorem aQ:∀P'∈(tbs xs P).map (·.1),h.get? P'=some (tabObj #[]):=λP' hp=>by
 obtain⟨t,ht,rfl⟩:=mem_map.mp hp;obtain⟨x,hxx,rfl⟩:=mem_map.mp ht;exact(hx x hxx).1
include X G hx in
theorem FnAt.def{e:Df}{f:Addr}{cd:Value}(H:FnAt K e.x e.st f cd)(b:Bd e):∃fd,DefAt (BN K (tbs xs P)) mg e.x e.st f fd e.ps/\fd.code=cd:=by
 obtain⟨oc,kV,dc,pm,ct,od,an,sl,a,l,cc,k⟩:=H;have F:=Fun.mark (ts:=tbs xs P) (YR (st:=e.st) l cc k) X (aQ hx);exact⟨_,⟨F,PySem.W.mg_of X G a,F.binds b⟩,rfl⟩
include X G hx in
theorem Fe.dn{e:Df}(H:Fe K e)(b:Bd e)(l:PySem.W.OpenLaw)(w:World)(base:Heap):Dn (enM l w K xs P mg base) e:=by
 obtain⟨f,cd,H⟩:=H;obtain⟨fd,D,_⟩:=H.def X G hx b;exact⟨f,fd,D⟩
include X G hx in
theorem Fla.code{e:Df}{p:Addr}(H:Fla K e p){q:Str}{i j:Nat}(hm:(e.x,q,i,j)∈xs):P e.x=p/\∃f,FnAt K e.x e.st f (.ref (c e.x)):=by
 obtain⟨f,ca,ob,⟨oc,kV,dc,pm,ct,od,an,sl,a,l,cc,k⟩,t,v⟩:=H;obtain⟨_,hh,a',ob',fd,h1,h2,h3,h4⟩:=hx _ hm;have e1:=h1.symm.trans (PySem.W.mg_of X G a);cases e1;have e2:=h2.symm.trans (X _ _ l);cases e2;cases h3;have e3:Value.ref ca=.ref (c e.x):=h4;cases e3;exact⟨WB X hh t v,f,⟨_,_,_,_,_,_,_,_,a,l,cc,k⟩⟩
include X G hx in
theorem Fla.dl{e:Df}{p:Addr}(H:Fla K e p)(b:Bd e){q:Str}{i j:Nat}(hm:(e.x,q,i,j)∈xs){i' j':Nat}(l:PySem.W.OpenLaw)(w:World){base:Heap}(hd:∀x∈xs,CodeHd base (c x.1) (P x.1))(bl:∀x∈xs,base.BuiltinsAt mg (P x.1))(nd:((CY (BN K (tbs xs P))).map (·.1)).Nodup)(hq:q=(e.x++".<locals>.")++"<lambda>"):
 Dl (enM l w K xs P mg base) e ⟨i,j,i',j'⟩:=by
 obtain⟨_,f,H⟩:=H.code X G hx hm;obtain⟨fd,D,e1⟩:=H.def X G hx b;subst hq;exact⟨f,fd,_,_,D,⟨e1,hd _ hm,bl _ hm,⟨i,j,0,0⟩,by rw[GV];exact mem_map.mpr ⟨(P e.x,_,i,j),mem_map.mpr ⟨_,hm,rfl⟩,rfl⟩,nd,rfl,rfl⟩⟩
def ZU{ps:List Addr}(h:(xs.map λx=>P x.1)=ps)(n:ps.Nodup):((CY (BN K (tbs xs P))).map (·.1)).Nodup:=by
 rw[GV,map_map,map_map];subst h;exact n
end
def Zs(K:PySem.W.Frag):Prop:=∀n∈(["list","tuple","len","range","repr","sum","min","max","abs","all","any","sorted","zip","isinstance","int","bool","str","set","enumerate","reversed","dict"]:List Str),PySem.W.nsIn K mainGlobals n=some none
def Zs.blt{K:PySem.W.Frag}(Z:Zs K){h:Heap}{mg:Str->Option Value}(X:K.In h)(G:h.Ns mainGlobals mg):BltA mg:=by
 constructor<;>exact PySem.W.mg_none_of X G (Z _ (by simp))
def bd1{e:Df}(hl:e.ps.length=1:=by rfl)(h:∀(kV doc pm:Value) (an:Option Addr) (cdv ct:Value) a,bindArgs (PySem.W.fnOf e.x e.x (CO e.st) (BM e.st) (A9 e.st) .none kV doc pm an cdv ct) ⟨[a],[]⟩=pure (e.ps.zip [a]):=by intros;rfl):Bd e:=λ_ _ _ _ _ _ us hu=>match us,hu.trans hl with|[_],_=>h ..
def bd2{e:Df}(hl:e.ps.length=2:=by rfl)(h:∀(kV doc pm:Value) (an:Option Addr) (cdv ct:Value) a b,bindArgs (PySem.W.fnOf e.x e.x (CO e.st) (BM e.st) (A9 e.st) .none kV doc pm an cdv ct) ⟨[a,b],[]⟩=pure (e.ps.zip [a,b]):=by intros;rfl):Bd e:=λ_ _ _ _ _ _ us hu=>match us,hu.trans hl with|[_,_],_=>h ..
def bd3{e:Df}(hl:e.ps.length=3:=by rfl)(h:∀(kV doc pm:Value) (an:Option Addr) (cdv ct:Value) a b c,bindArgs (PySem.W.fnOf e.x e.x (CO e.st) (BM e.st) (A9 e.st) .none kV doc pm an cdv ct) ⟨[a,b,c],[]⟩=pure (e.ps.zip [a,b,c]):=by intros;rfl):Bd e:=λ_ _ _ _ _ _ us hu=>match us,hu.trans hl with|[_,_,_],_=>h ..
def bd4{e:Df}(hl:e.ps.length=4:=by rfl)(h:∀(kV doc pm:Value) (an:Option Addr) (cdv ct:Value) a b c d,bindArgs (PySem.W.fnOf e.x e.x (CO e.st) (BM e.st) (A9 e.st) .none kV doc pm an cdv ct) ⟨[a,b,c,d],[]⟩=pure (e.ps.zip [a,b,c,d]):=by intros;rfl):Bd e:=λ_ _ _ _ _ _ us hu=>match us,hu.trans hl with|[_,_,_,_],_=>h ..
def An{N ps:List Str}{sc:Scope}(h:(decide (sc.kind=.function)&&!sc.isCoroutine&&!sc.isGenerator&&ndB N&&(N.take ps.length==ps)&&(ps.all λx=>sc.names.lookup x==some .local||sc.names.lookup x==some .cell)&&sc.names.all λy=>y.2 != .free)=true):FnScope N ps sc:=by
 simp only[Bool.and_eq_true,all_eq_true,Bool.or_eq_true,beq_iff_eq,decide_eq_true_eq,Bool.not_eq_true',bne_iff_ne]at h;obtain⟨⟨⟨⟨⟨⟨h1,h2⟩,h3⟩,h4⟩,h5⟩,h6⟩,h7⟩:=h;exact⟨h1,h2,h3,Gk h4,h5,h6,h7⟩
abbrev HG(l:PySem.W.OpenLaw)(w:World)(K:PySem.W.Frag)(xs:Xs)(mg:Str->Option Value)(c P:Str->Addr)(fa:Addr)(e:Df):Prop:=(∃g,K.lookup mainGlobals=some g)/\∃fd:FuncData,(∀(s:Shared) (v:Value),BindsTo s fd ⟨[v],[]⟩ [("_law_script",v)])/\∀base:Heap,(BN K (tbs xs P)).In base->base.Ns mainGlobals mg->(∀x∈xs,CodeHd base (c x.1) (P x.1))->(∀x∈xs,base.BuiltinsAt mg (P x.1))->FnOk l.prog w (BN K (tbs xs P)) mg base CX0 e.k fa fd ["_law_script"] (spF (BN K (tbs xs P)) 1 e.F)
def Si{l:PySem.W.OpenLaw}{w:World}{K:PySem.W.Frag}{h:Heap}{mg:Str->Option Value}{fa:Addr}{xs:Xs}{c P:Str->Addr}{e:Df}(X:K.In h)(G:h.Ns mainGlobals mg)(hfa:mg e.x=some (.ref fa))(hx:HX xs mg h c P)(H:Fe K e)(b:Bd e)(hps:e.ps=(["_law_script"]:List Str))
 (ok:∀base:Heap,(∀x∈xs,CodeHd base (c x.1) (P x.1))->(∀x∈xs,base.BuiltinsAt mg (P x.1))->Kn (enM l w K xs P mg base) e):
 HG l w K xs mg c P fa e:=by
 obtain⟨f,cd,H⟩:=H;obtain⟨fd,D,_⟩:=H.def X G hx b;obtain⟨oc,kV,dc,pm,ct,od,an,sl,a,lk,cc,k⟩:=H;have hg:∃g,K.lookup mainGlobals=some g:=by
  cases e:K.lookup mainGlobals with
  |some g=>exact⟨g,rfl⟩
  |none=>unfold PySem.W.nsIn at a;rw[e]at a;cases a
 have e1:=hfa.symm.trans D.mg;cases e1;refine⟨hg,fd,λs v=>?_,λbase _ _ hd bl=>?_⟩
 .obtain⟨⟨oc',od',kV',dc',pm',an',cd',ct',sl',rfl,_,_⟩,_⟩:=D.fn;have:=b kV' dc' pm' an' cd' ct' [v] (by rw[hps];rfl);rw[hps]at this;exact .of_eq this
 .obtain⟨f',fd',D',F',_⟩:=ok base hd bl;have e2:=D.mg.symm.trans D'.mg;cases e2;obtain⟨⟨oc',od',kV',dc',pm',an',cd',ct',sl',h1,h2,_⟩,_⟩:=D.fn;obtain⟨⟨oc2,od2,kV2,dc2,pm2,an2,cd2,ct2,sl2,h3,h4,_⟩,_⟩:=D'.fn;have e3:=h2.symm.trans h4;cases e3;rw[hps]at F';exact F'
end L2
namespace L2
open PySem PySem.Spec PyProof.Rows
section
variable(C:Addr)(f:Str)
def Ends.non(D:Ends):Ends:={ D with rt:=λ_ _=>False }
end
section
variable{C fI:Addr}{f:Str}{X:Cx}{st:Stmt}{rest:List Stmt}{t u:TS}{e:Expr}{es:List Expr}{te tb:TE}{pos:Pos}
def thx{α:Type}{M:Model}{A:Around}{m:Sem α}{P Q:α->Shared->Prop}{E E':Value->Shared->Prop}{s:Shared}(h:wpAny M A m P E s)(k:∀v s,P v s->Q v s)(j:∀e s,E e s->E' e s):wpAny M A m Q E' s:=wpAny_mono h k j
def aC(t:TS):TS:=λD σ H=>t D.non σ H
end
section
variable{X:Cx}{pins:List (Addr×Obj)}{σ:St}{H:Hp}{s:Shared}{C fI a dx:Addr}{f:Str}
def aL{dx:Option Addr}{tb:Value}{T:Addr}{h':Heap}(I:Inv X pins σ H s)(ha:H a=some (.ext (XO a C dx)))(hT:∀T,tb=.ref T->H T=none/\New X pins T)(N:Note (frs X.stack) a tb s.heap h')(ex:Exo h' a C dx (.ref T)):Inv X pins σ H { s with heap:=h' }:=by
 have na:∀b,H b=none->b≠a:=λb n z=>by rw[z,ha]at n;cases n
 have hok:=SQ I.hok N ex ha (λT e=>(hT T e).1) I.stkFree;have all:∀ch:List Addr,(∀b,.ref b=tb->b∈ch)->Un (frs X.stack) ch H H s.heap h':=λch hc=>
  ⟨λb o e n nf nc=>N.keep b o e (na b n) (λz=>nc (hc b z)) nf,λb o e n hf nc=>N.slot b o e hf,λ_ _ _ n _=>n,λb o e _=>N.there b o e,λ_ _ e=>e,λ_ _ _ e=>e,λb ps e=>⟨#[],by rw[e];simp⟩⟩
 by_cases q:∃T,tb=.ref T
 .obtain⟨T0,e⟩:=q;exact I.call' (s':={ s with heap:=h' }) (ch:=[T0]) rfl (all [T0] λb z=>by rw[e]at z;cases z;simp) hok I.bare λb hb=>by
   have:b=T0:=by simpa using hb
   subst this;exact(hT b e).2
 .exact I.call' (s':={ s with heap:=h' }) (ch:=[]) rfl (all [] λb z=>absurd ⟨b,z.symm⟩ q) hok I.bare λb hb=>absurd hb (by simp)
end
def aO(m:MS):MS:=λls hd=>(m ls hd).bind λp=>match p.1 with
 |.rt _=>none
 |fl=>some (fl,p.2)
section
variable{K:PySem.W.Frag}{C:Addr}{f:Str}{ρ ρ':List Addr}{H H':Hp}{hd hd':Hd}
def bM{t:TS}{m:MS}(h:RS K t m):RS K (aC t) (aO m):=by
 intro ρ σ H hd ls E fl hd' hR hL hm hQ;obtain⟨⟨fl1,h1⟩,e1,hm⟩:=c5 hm;refine h ρ σ H hd ls E.non fl1 h1 hR hL e1 λρ' H' x R=>?_;cases fl1 with
 |rt d=>cases hm
 |nx l=>cases hm;exact hQ ρ' H' x R
 |bk l=>cases hm;exact hQ ρ' H' x R
 |ct l=>cases hm;exact hQ ρ' H' x R
end
end L2
namespace L2
open PySem PySem.Spec PyProof.Rows PySem.W
def Le(K K':Frag):Prop:=∀a o,K.lookup a=some o->(∀vs,o.data≠.fields vs)->K'.lookup a=some o
end L2
namespace L2
open PySem PySem.Spec PyProof.Rows
abbrev Cx.en(X:Cx):EnK:=⟨X.prog,X.w,X.K,X.mg,X.base⟩
end L2
namespace L2
open PySem PySem.Spec PyProof.Rows PySem.W
def ltZ(p q:Int×Int):Bool:=decide (p.1<q.1∨p.1=q.1/\p.2<q.2)
def TPair(h:Heap)(a:Addr)(p:Int×Int):Prop:=∃(o:Obj) (n:Nat) (t u:Tok),h.get? a=some o/\o.cls=.type "tuple"/\o.data=.seq #[.int p.1 t,.int p.2 u] n
section
variable{prog:Program}{w:World}{A:Around}{E:Value->Shared->Prop}{s:Shared}{a b:Addr}{p q:Int×Int}
def TPair.typeIs(h:TPair s.heap a p):s.TypeIs (.ref a) "tuple":=let ⟨o,_,_,_,h1,h2,_⟩:=h;⟨o,h1,h2⟩
def Qs{P:PySem.Fin->Shared->Prop}(ha:TPair s.heap a p)(hb:TPair s.heap b q)(h:P (.done (.ret (.bool (ltZ p q)))) s):
 wpAny (model prog w) A (Builtin.«tuple.__lt__» ⟨[.ref a,.ref b],[]⟩) P E s:=by
 have hTb:=hb.typeIs;obtain⟨oa,na,t1,t2,hoa,_,hda⟩:=ha;obtain⟨ob,nb,u1,u2,hob,_,hdb⟩:=hb;show wpAny _ _ (isInstance (.ref b) (.type "tuple") >>= _) _ _ s;refine wpAny_bind (wpAny_isInstance hTb isSubtype_tuple_tuple ?_);simp only[Bool.not_true,Bool.false_eq_true,if_false];refine wpAny_bind (wpAny_tupleItemsOf hoa hda ?_);refine wpAny_bind (wpAny_tupleItemsOf hob hdb ?_);refine wpAny_bind ?_;have neq:∀(x y:Int) (t u:Tok),x≠y->P (.done (.ret (.bool (ltZ p q)))) s->decide (x<y)=ltZ p q->True:=λ_ _ _ _ _ _ _=>trivial;refine wpAny_forIn_list _
  (λrest r s'=>r.1=none/\s'=s/\(rest=[(.int p.1 t1,.int q.1 u1),(.int p.2 t2,.int q.2 u2)]∨rest=[(.int p.2 t2,.int q.2 u2)]/\p.1=q.1∨rest=[]/\p.1=q.1/\p.2=q.2))
  _ ?_ ?_ _ _ ⟨rfl,rfl,.inl rfl⟩
 .rintro⟨u,v⟩ rest r s' ⟨hr,rfl,hz⟩;rcases hz with hz|⟨hz,e1⟩|⟨hz,e1⟩
  .simp only[List.cons.injEq,Prod.mk.injEq]at hz;obtain⟨⟨rfl,rfl⟩,rfl⟩:=hz;refine wpAny_bind (wpAny_eqBool_int ?_);by_cases hk:p.1=q.1
   .rw[beq_iff_eq.mpr hk];simp only[Bool.not_true,Bool.false_eq_true,if_false];exact wpAny_pure ⟨rfl,rfl,.inr (.inl ⟨by trivial,hk⟩)⟩
   .rw[beq_eq_false_iff_ne.mpr hk];simp only[Bool.not_false,if_true];have hf:ltZ p q=decide (p.1<q.1):=by unfold ltZ;simp[hk]
    rw[hf]at h;refine wpAny_bind (wpAny_bind (wpAny_rule (wpAny_pure (wpAny_bind (richCompare_gives (op:=.Lt) (typeIs_int _ _ _) (typeIs_int _ _ _) F.slot_int_lt F.entry_int_lt (F.args_int_lt_2 _ _) (gives_int_lt _ _ _ _) (λx=>nomatch x) ?_)))));exact wpAny_pure (wpAny_pure h)
  .simp only[List.cons.injEq,Prod.mk.injEq]at hz;obtain⟨⟨rfl,rfl⟩,rfl⟩:=hz;refine wpAny_bind (wpAny_eqBool_int ?_);by_cases hk:p.2=q.2
   .rw[beq_iff_eq.mpr hk];simp only[Bool.not_true,Bool.false_eq_true,if_false];exact wpAny_pure ⟨rfl,rfl,.inr (.inr ⟨by trivial,e1,hk⟩)⟩
   .rw[beq_eq_false_iff_ne.mpr hk];simp only[Bool.not_false,if_true];have hf:ltZ p q=decide (p.2<q.2):=by unfold ltZ;simp[e1]
    rw[hf]at h;refine wpAny_bind (wpAny_bind (wpAny_rule (wpAny_pure (wpAny_bind (richCompare_gives (op:=.Lt) (typeIs_int _ _ _) (typeIs_int _ _ _) F.slot_int_lt F.entry_int_lt (F.args_int_lt_2 _ _) (gives_int_lt _ _ _ _) (λx=>nomatch x) ?_)))));exact wpAny_pure (wpAny_pure h)
  .cases hz
 .rintro⟨r1,r2⟩ s' ⟨hr,rfl,hz⟩;simp only at hr;subst hr;refine wpAny_pure ?_;rcases hz with hz|⟨hz,e1⟩|⟨hz,e1,e2⟩
  .cases hz
  .cases hz
  .have hf:ltZ p q=false:=by unfold ltZ;simp[e1,e2]
   rw[hf]at h;exact h
def Kv{Q:Value->Shared->Prop}(hu:A.units<cLine)(ha:TPair s.heap a p)(hb:TPair s.heap b q)(h:Q (.bool (ltZ p q)) s):wpAny (model prog w) A (richCompare .Lt (.ref a) (.ref b)) Q E s:=
 wpAny_richCompare_same_room (op:=.Lt) ha.typeIs hb.typeIs F.slot_tuple_lt
  (wpAny_call_entry F.slot_tuple_lt ha.typeIs F.entry_tuple_lt (Qs ha hb ⟨_,rfl,(λe=>nomatch e),h⟩) (F.args_tuple_lt_2 _ _)) hu
end
section
variable{M:Model}{A:Around}{E:Value->Shared->Prop}{s:Shared}{env:Env}
def MX{pos:Pos}{a:Addr}{e:Expr}{rest:List Expr}{Q:Value->Shared->Prop}
 (h:wpAny M A (spliced (backTo pos (starEach (e::rest) env))) (λvs s₁=>(∃(o:Obj) (fd:FuncData),s₁.heap.get? a=some o/\o.data=.func fd)/\wpAny M A (call (.ref a) vs) Q E s₁) E s)
 (he:starEach (e::rest) env=(false,eval e env)::starEach rest env:=by rfl):
 wpAny M A (callWith pos (.ref a) [] (backTo pos (starEach (e::rest) env)) []) Q E s:=by
 rw[he]at h ⊢;unfold callWith;refine wpAny_bind (wpAny_holding (wpAny_mono (Calls.evalArgs_plain (Q:=λx s₁=>(∃(o:Obj) (fd:FuncData),s₁.heap.get? a=some o/\o.data=.func fd)/\wpAny M A (call (.ref a) ([]++x.pos) x.kw) Q E s₁) (wpAny_mono h (λvs s₁ h₁=>h₁) λ_ _ x=>x)) (λx s₁ h₁=>wpAny_bind (wpAny_standAt ?_)) λ_ _ x=>x));obtain⟨⟨o,fd,g1,g2⟩,g3⟩:=h₁;have tail:∀{t:Sem Value},wpAny M A t Q E s₁->wpAny M A (t >>= λr=>holding [r] point >>= λ_=>pure r) Q E s₁:=
  λht=>wpAny_bind (wpAny_mono ht (λr s₂ hr=>wpAny_bind (wpAny_holding (wpAny_point (wpAny_pure hr)))) λ_ _ x=>x)
 cases hs:((backTo pos ((false,eval e env)::starEach rest env)).any (·.1)||([]:List (Option Str×Sem Value)).any (·.1.isNone))<;>refine wpAny_bind (m:=keeperOf (.ref a)) ?_<;>unfold keeperOf<;>refine wpAny_bind (wpAny_load g1 ?_)<;>rw[g2]<;>refine wpAny_pure ?_
 .first|refine wpAny_ite ?_|skip
  split<;>first|exact tail g3|exact tail (by unfold callMarked;exact Calls.wpAny_keep g3)
 .first|exact tail (by unfold callMarked;exact Calls.wpAny_keep g3)|exact tail g3
end
def Nv(P:Addr)(q:Str)(pos:Pos):TE:=λ_ H Q=>∃ps,H P=some (.tbl ps)/\Dt H q pos ps/\∀H2 c f,TabStep P q pos H H2->H2 c=some (.ext (cdF c q))->H2 f=none->Q (.ref f) (upd H2 f (.ext (fnF f c q)))
def Kz(tf:TE)(ta:TA):TE:=λσ H Q=>tf σ H λv H1=>∃f,v=.ref f/\ta σ H1 λvs H2=>∃c q x y,vs=[x,y]/\H2 f=some (.ext (fnF f c q))/\H2 c=some (.ext (cdF c q))/\Q y H2
section
variable{X:Cx}{c P:Addr}{scope:Scope}{fr:List Str}{ix:List Nat}{params:Arguments}{p1 p2:Str}{pp lpos:Pos}
def VC(LA:LamAt X c P)(S:CSc X scope fr ix)(hcl:AX X.env.cells scope.names []=[])(L:SndOk (X.env.qual++"<lambda>") params scope (.Name p2 pp) p1 p2)(hdef:defaultsOf params X.env=([],[]):=by rfl):
 PE X (.Lambda params (.Name p2 pp) scope lpos) (Nv P (X.env.qual++"<lambda>") lpos):=by
 intro pins s σ H Q I h;obtain⟨ps,hP,hg,go⟩:=h;refine IM S LA I hdef hP hg λf cd ctv H2 s2 I2 M=>?_;obtain⟨c',rfl,hc'⟩:=M.cdc;have ff:FpOk X pins H2 f:=I.fpOk M.new M.fre;have ho:=M.fn;rw[hcl]at ho;have J:=I2.adopt (o:=.ext (fnF f c' (X.env.qual++"<lambda>"))) ff (le_trans I.sz M.new) ⟨⟨_,_,_,_,_,_,_,ho,L⟩,⟨_,ho⟩,λh1 h2 q k=>by
  obtain⟨a1,a2,a3,a4,a5,a6,a7,g,z⟩:=q;exact⟨a1,a2,a3,a4,a5,a6,a7,k _ g,z⟩⟩
 exact⟨.ref f,_,J,rfl,go H2 c' f M.step hc' M.fre⟩
def SM{x:Str}{e:Expr}{es:List Expr}{tf:TE}{ta:TA}{p pos:Pos}(hr:Room 1 X.A)(hf:PE X (.Name x p) tf)(ha:PA X (e::es) ta)(he:starEach (e::es) X.env=(false,eval e X.env)::starEach es X.env:=by rfl):
 PE X (.Call (.Name x p) (e::es) [] pos) (Kz tf ta):=by
 intro pins s σ H Q I h;refine wpAny_Call_Name_kw (thn (hf pins s σ H _ I h) λu s1 hu=>?_);obtain⟨v,H1,I1,rv,q⟩:=hu;obtain⟨f,rfl,q⟩:=q;cases rv;refine MX (thn (ha pos pins s1 σ H1 _ I1 q) λus s2 hus=>?_) he;obtain⟨vs,H2,I2,r,c,q,x,y,rfl,g1,g2,hQ⟩:=hus;obtain⟨u0,u1,rfl,r0,r1⟩:∃u0 u1,us=[u0,u1]/\RelV x u0/\RelV y u1:=by
  cases r with
  |cons a b=>cases b with
   |cons a2 b2=>cases b2;exact⟨_,_,rfl,a,a2⟩
 obtain⟨params,scope,p1,p2,pos',pm,ctv,ho',S⟩:=(I2.hok f _ g1).1;refine⟨⟨_,_,ho',rfl⟩,?_⟩;exact wpAny_mono (RQ I2 rfl hr g1 g2 r0 r1 hQ) (λ_ _ z=>z) λ_ _ z=>z.elim
end
def Hb(K:PySem.W.Frag)(H:Hp)(k:V)(n:Int×Int):Prop:=∃a,k=.ref a/\SqT K H a [.int n.1,.int n.2]
def Fd(K:PySem.W.Frag)(src:Hp->List V->Prop)(G:Hp->Prop)(tb:TE)(cap:St):Nat->Nat->V->V->Int×Int->Hp->VK->Prop
 |0,j,b,_,_,H,Q=>(∃xs,src H xs/\xs.length=j)/\Q b H
 |m+1,j,b,kv,kb,H,Q=>∃xs x,src H xs/\xs[j]?=some x/\G H/\tb (some x::cap) H λk H1=>∃n:Int×Int,Hb K H1 k n/\Hb K H1 kv kb/\(if ltZ n kb=true then Fd K src G tb cap m (j+1) x k n H1 Q else Fd K src G tb cap m (j+1) b kv kb H1 Q)
def Jk(K:PySem.W.Frag)(src:Hp->List V->Prop)(G:Hp->Prop)(tb:TE)(cap:St)(m:Nat)(H:Hp)(Q:VK):Prop:=
 ∃xs x,src H xs/\xs[0]?=some x/\G H/\tb (some x::cap) H λk H1=>∃n:Int×Int,Hb K H1 k n/\Fd K src G tb cap m 1 x k n H1 Q
def HL{X:Cx}{pins:List (Addr×Obj)}{σ:St}{H:Hp}{s:Shared}{a:Addr}{n:Int×Int}(I:Inv X pins σ H s)(h:SqT X.K H a [.int n.1,.int n.2]):TPair s.heap a n:=by
 obtain⟨jts,rj,⟨o,ho,hc,m,hd⟩,_⟩:=I.tuple h;cases rj with
 |cons a1 b1=>cases b1 with
  |cons a2 b2=>
   cases b2;obtain⟨t,rfl⟩:=a1;obtain⟨u,rfl⟩:=a2;exact⟨o,m,t,u,ho,hc,hd⟩
section
variable{X:Cx}{pins:List (Addr×Obj)}{σ:St}{l f It S:Addr}{src:Hp->List V->Prop}{G:Hp->Prop}{tb:TE}{cap:St}{Q:VK}{E:Value->Shared->Prop}
def Px(hu:X.A.in1.units<cLine)(hh:X.A.handled=none)
 (hsrc:∀pins' H' s' xs,Inv X pins' σ H' s'->src H' xs->∃its:List Value,Vals xs its/\s'.heap.IsList l its.toArray) (hSI:S≠It) (n0:Nat) (hI0:∀H',H' It=none->FpOk X pins H' It) (hS0:∀H',H' S=none->FpOk X pins H' S)
 (turn:∀(pins':List (Addr×Obj)) (H1:Hp) (s1:Shared) (x:V) (u:Value) (Q1:VK),(∀p∈pins,p∈pins')->Inv X pins' σ H1 s1->RelV x u->G H1->tb (some x::cap) H1 Q1->wpAny (model X.prog X.w) X.A.in1 (call (.ref f) [u]) (EP X pins' σ Q1) (λ_ _=>False) s1):
 ∀(m:Nat) (j:Nat) (b:V) (vb:Value) (kv:V) (vk:Value) (kb:Int×Int) (c:Nat) (oI:Obj) (H:Hp) (s:Shared),Inv X ((S,seqObj "list" #[vb,vk] c)::(It,oI)::pins) σ H s->s.heap.IsListIter It l j->RelV b vb->RelV kv vk ->
   Fd X.K src G tb cap m j b kv kb H Q->codeAny (model X.prog X.w) X.A (.builtin "min.loop" ⟨[.ref It,.ref f,.ref S],[]⟩) (λr s'=>match r with|.ok (.ret v)=>EP X pins σ Q v s'|.ok _=>False|.error e=>E e s') s:=by
 have hname:(toString "min"++toString ".loop":String)="min.loop":=by decide
 intro m
 induction m with
 |zero=>
  intro j b vb kv vk kb c oI H s J hit rb rk0 hgo;obtain⟨⟨xs,hG,hje⟩,hQ⟩:=hgo;have nS:=J.pin (S,seqObj "list" #[vb,vk] c) (mem_append_right _ mem_cons_self);have nI:=J.pin (It,oI) (mem_append_right _ (mem_cons_of_mem _ mem_cons_self));refine codeAny_builtin PySem.F.entry_min_loop ?_;rw[Around.under_plainId PySem.F.plain_min_loop _];show wpAny _ X.A.in1 (seqItems? (.ref S) >>= _) _ _ _;refine wpAny_bind (wpAny_seqItems nS.1 rfl ?_);show wpAny _ X.A.in1 (tryCatch (pyNext (.ref It)) _ >>= _) _ _ _;obtain⟨its,hv,hil⟩:=hsrc _ _ _ _ J hG;have hlen:=hv.length;refine wpAny_bind (wpAny_tryCatch (wpAny_pyNext_list_end hh hit hil (by simp;omega) λh' hk'=>?_));have hS':=hk' S _ hSI nS.1;have s1:=Heap.SameBut.update h' S (Obj.mapSeq λ_=>(#[]:Array Value));show wpAny _ X.A.in1 (updateSeq S (λ_=>#[]) >>= _) _ _ _;refine wpAny_bind ?_;refine wpAny_updateSeq hS' rfl (wpAny_bind (wpAny_letGo (wpAny_pure ?_)));have J1:Inv X ((It,oI)::pins) σ H s:=J.pins_of λp hp=>J.pin p (mem_append_right _ (mem_cons_of_mem _ hp));have J2:Inv X pins σ H { s with heap:=h',toks:=s.toks }:=J1.turnE (hI0 H nI.2.1) λc u n e=>hk' c u n e;have J3:=(J2.repin (hS0 H nS.2.1) hS' (λv z=>by cases z)).turnE (t':=s.toks) (hS0 H nS.2.1) λc u n e=>(s1.2 c n).trans e;exact⟨b,H,J3,rb,hQ⟩
 |succ m ih=>
  intro j b vb kv vk kb c oI H s J hit rb rk0 hgo;obtain⟨xs,x,hsr,hxj,hG,hgo⟩:=hgo;obtain⟨its,hv,hil⟩:=hsrc _ _ _ _ J hsr;obtain⟨u,hu9,ru⟩:=hv.get hxj;have nS:=J.pin (S,seqObj "list" #[vb,vk] c) (mem_append_right _ mem_cons_self);have nI:=J.pin (It,oI) (mem_append_right _ (mem_cons_of_mem _ mem_cons_self));refine codeAny_builtin PySem.F.entry_min_loop ?_;rw[Around.under_plainId PySem.F.plain_min_loop _];show wpAny _ X.A.in1 (seqItems? (.ref S) >>= _) _ _ _;refine wpAny_bind (wpAny_seqItems nS.1 rfl ?_);show wpAny _ X.A.in1 (tryCatch (pyNext (.ref It)) _ >>= _) _ _ _;refine wpAny_bind (wpAny_tryCatch (wpAny_pyNext_list_item hit hil (x:=u) (by simpa using hu9) λh' hit' hs'=>?_));obtain⟨oI',hoI',hoc,hod⟩:=id hit';have hSh':h'.get? S=some (seqObj "list" #[vb,vk] c):=(hs'.2 S hSI).trans nS.1;have dI:∀v,oI'.data≠.cell v:=λv z=>by rw[hod]at z;cases z
  have J1:Inv X ((It,oI)::pins) σ H s:=J.pins_of λp hp=>J.pin p (mem_append_right _ (mem_cons_of_mem _ hp));have J2:Inv X pins σ H { s with heap:=h',toks:=s.toks }:=J1.turnE (hI0 H nI.2.1) λc u n e=>(hs'.2 c n).trans e;have J3:=(J2.repin (hI0 H nI.2.1) hoI' dI).repin ((hS0 H nS.2.1).more hSI.symm) hSh' (λv z=>by cases z);show wpAny _ X.A.in1 (tryCatch (holding [u] (call (.ref f) [u])) _ >>= _) _ _ _;refine wpAny_bind (wpAny_tryCatch (wpAny_holding (wpAny_mono (turn _ H _ x u _ (λp hp=>mem_cons_of_mem _ (mem_cons_of_mem _ hp)) J3 ru hG hgo) (λv s2 he=>?_) λ_ _ hF=>hF.elim)));obtain⟨k,H2,J4,rk,n,hn1,hn2,hgo2⟩:=he;obtain⟨ka,rfl,sqa⟩:=id hn1;obtain⟨kb',rfl,sqb⟩:=id hn2;cases rk;cases rk0;have nS2:=J4.pin (S,seqObj "list" #[vb,.ref kb'] c) (mem_append_right _ mem_cons_self);have nI2:=J4.pin (It,oI') (mem_append_right _ (mem_cons_of_mem _ mem_cons_self));show wpAny _ X.A.in1 (tryCatch (holding [u,.ref ka] (richCompare .Lt (.ref ka) (.ref kb') >>= _)) _ >>= _) _ _ _;refine wpAny_bind (wpAny_tryCatch (wpAny_holding (wpAny_bind (Kv hu (HL J4 sqa) (HL J4 sqb) ?_))));refine wpAny_bind (wpAny_holding (wpAny_truthy_bool ?_));refine wpAny_bind (wpAny_letGo (wpAny_pure ?_));by_cases hb':ltZ n kb=true
  .have s1:=Heap.SameBut.update s2.heap S (Obj.mapSeq λ_=>#[u,.ref ka]);obtain⟨c2,hc2⟩:∃c2,(s2.heap.update S (Obj.mapSeq λ_=>#[u,.ref ka])).get? S=some (seqObj "list" #[u,.ref ka] c2):=⟨_,get?_update_seq nS2.1 λ_=>#[u,.ref ka]⟩
   simp only[hb',if_true]at hgo2 ⊢;refine wpAny_bind ?_;refine wpAny_updateSeq nS2.1 rfl (wpAny_bind (wpAny_letGo ?_));rw[hname];have J5:Inv X ((S,seqObj "list" #[vb,.ref kb'] c)::pins) σ H2 s2:=J4.pins_of λp hp=>by
    rcases mem_cons.mp hp with rfl|hp
    .exact nS2
    .exact J4.pin p (mem_append_right _ (mem_cons_of_mem _ (mem_cons_of_mem _ hp)))
   have J6:Inv X pins σ H2 { s2 with heap:=s2.heap.update S (Obj.mapSeq λ_=>#[u,.ref ka]),toks:=s2.toks }:=J5.turnE (hS0 H2 nS2.2.1) λc u n e=>(s1.2 c n).trans e;have gI:(s2.heap.update S (Obj.mapSeq λ_=>#[u,.ref ka])).get? It=some oI':=(s1.2 It hSI.symm).trans nI2.1;have J7:=(J6.repin (hI0 H2 nI2.2.1) gI dI).repin ((hS0 H2 nS2.2.1).more hSI.symm) hc2 (λv z=>by cases z);exact wpAny_pure ⟨plainId_quiet PySem.F.plain_min_loop _,ih (j+1) x u (.ref ka) (.ref ka) n c2 oI' H2 _ J7 ⟨oI',gI,hoc,hod⟩ ru rfl hgo2⟩
  .simp only[hb',Bool.false_eq_true,if_false]at hgo2 ⊢;refine wpAny_bind (wpAny_letGo ?_);rw[hname];exact wpAny_pure ⟨plainId_quiet PySem.F.plain_min_loop _,ih (j+1) b vb (.ref kb') (.ref kb') kb c oI' H2 _ J4 ⟨oI',nI2.1,hoc,hod⟩ rb rfl hgo2⟩
def SU(hu:X.A.in1.units<cLine){H:Hp}{s:Shared}(hh:X.A.handled=none)(I:Inv X pins σ H s)(hsrc:∀pins' H' s' xs,Inv X pins' σ H' s'->src H' xs->∃its:List Value,Vals xs its/\s'.heap.IsList l its.toArray)
 (turn:∀(pins':List (Addr×Obj)) (H1:Hp) (s1:Shared) (x:V) (u:Value) (Q1:VK),(∀p∈pins,p∈pins')->Inv X pins' σ H1 s1->RelV x u->G H1->tb (some x::cap) H1 Q1->wpAny (model X.prog X.w) X.A.in1 (call (.ref f) [u]) (EP X pins' σ Q1) (λ_ _=>False) s1)
 {m:Nat} (h:Jk X.K src G tb cap m H Q):wpAny (model X.prog X.w) X.A (call (.builtin "min") [.ref l] [(Str.ofString "key",.ref f)]) (EP X pins σ Q) E s:=by
 have hname:(toString "min"++toString ".loop":String)="min.loop":=by decide
 obtain⟨xs,x,hsr,hx0,hG,hgo⟩:=h;obtain⟨_,_,hls⟩:=hsrc _ _ _ _ I hsr;refine kmk_tree PySem.F.kind_min PySem.F.plain_min PySem.F.entry_min (kmk_min_key _ _) ?_;show wpAny _ X.A.in1 (Builtin.Builtins.bindParams "min" ["key","default"] 0 ⟨[],[(Str.ofString "key",.ref f)]⟩ >>= _) _ _ s;refine wpAny_bind (wpAny_of_eq (show Builtin.Builtins.bindParams "min" ["key","default"] 0 ⟨[],[(Str.ofString "key",.ref f)]⟩=pure [some (.ref f),none]from rfl) ?_);refine wpAny_bind (wpAny_pure ?_);refine wpAny_bind (wpAny_pyIter_list hls ?_);refine wpAny_bind (wpAny_newList ?_ (zero_le _));rw[hname];have hS:(s.heap.push { cls:=.type "list_iterator",data:=.fields #[.ref l,.int 0 0] }).objs.size=s.heap.objs.size+1:=size_push' ..;rw[hS];have gI:((s.heap.push { cls:=.type "list_iterator",data:=.fields #[.ref l,.int 0 0] }).push (seqObj "list" #[] 0)).get? s.heap.objs.size=some { cls:=.type "list_iterator",data:=.fields #[.ref l,.int 0 0] }:=
  Heap.get?_push_of_some _ (Heap.get?_push_size _ rfl)
 have gS:((s.heap.push { cls:=.type "list_iterator",data:=.fields #[.ref l,.int 0 0] }).push (seqObj "list" #[] 0)).get? (s.heap.objs.size+1)=some (seqObj "list" #[] 0):=by rw[<- hS];exact Heap.get?_push_size _ rfl
 have kp:∀b o,s.heap.get? b=some o->((s.heap.push { cls:=.type "list_iterator",data:=.fields #[.ref l,.int 0 0] }).push (seqObj "list" #[] 0)).get? b=some o:=λb o e=>Heap.get?_push_of_some _ (Heap.get?_push_of_some _ e);have I1:Inv X pins σ H { s with heap:=(s.heap.push { cls:=.type "list_iterator",data:=.fields #[.ref l,.int 0 0] }).push (seqObj "list" #[] 0),toks:=s.toks }:=I.kept (t':=s.toks) kp;have hSI:s.heap.objs.size+1≠s.heap.objs.size:=ne_of_gt (lt_succ_self _);have hI0:∀H',H' s.heap.objs.size=none->FpOk X pins H' s.heap.objs.size:=λH' hn=>I.fpOk (le_refl _) hn;have hS0:∀H',H' (s.heap.objs.size+1)=none->FpOk X pins H' (s.heap.objs.size+1):=λH' hn=>I.fpOk (le_succ _) hn;have nI:H s.heap.objs.size=none:=I.hok.fresh (le_refl _);have nS:H (s.heap.objs.size+1)=none:=I.hok.fresh (le_succ _);generalize (s.heap.push { cls:=.type "list_iterator",data:=.fields #[.ref l,.int 0 0] }).push (seqObj "list" #[] 0)=h1 at gI gS I1 ⊢;refine wpAny_pure ⟨plainId_quiet PySem.F.plain_min_loop _,?_⟩;refine codeAny_builtin PySem.F.entry_min_loop ?_;rw[Around.under_plainId PySem.F.plain_min_loop _];show wpAny _ X.A.in1 (seqItems? (.ref (s.heap.objs.size+1)) >>= _) _ _ _;refine wpAny_bind (wpAny_seqItems gS rfl ?_);show wpAny _ X.A.in1 (tryCatch (pyNext (.ref s.heap.objs.size)) _ >>= _) _ _ _;obtain⟨its,hv,hil⟩:=hsrc _ _ _ _ I1 hsr;obtain⟨u,hu9,ru⟩:=hv.get hx0;refine wpAny_bind (wpAny_tryCatch (wpAny_pyNext_list_item (i:=0) ⟨_,gI,rfl,rfl⟩ hil (x:=u) (by simpa using hu9) λh' hit' hs'=>?_));obtain⟨oI',hoI',hoc,hod⟩:=id hit';have dI:∀v,oI'.data≠.cell v:=λv z=>by rw[hod]at z;cases z
 have hSh':h'.get? (s.heap.objs.size+1)=some (seqObj "list" #[] 0):=(hs'.2 _ hSI).trans gS;have J2:Inv X pins σ H { s with heap:=h',toks:=s.toks }:=(I1.repin (hI0 H nI) gI (λv z=>by cases z)).turnE (hI0 H nI) λc u n e=>(hs'.2 c n).trans e;have J3:=(J2.repin (hI0 H nI) hoI' dI).repin ((hS0 H nS).more hSI.symm) hSh' (λv z=>by cases z);show wpAny _ X.A.in1 (tryCatch (holding [u] (call (.ref f) [u])) _ >>= _) _ _ _;refine wpAny_bind (wpAny_tryCatch (wpAny_holding (wpAny_mono (turn _ H _ x u _ (λp hp=>mem_cons_of_mem _ (mem_cons_of_mem _ hp)) J3 ru hG hgo) (λv s2 he=>?_) λ_ _ hF=>hF.elim)));obtain⟨k,H2,J4,rk,n,hn1,hgo2⟩:=he;obtain⟨ka,rfl,sqa⟩:=id hn1;cases rk;have nS2:=J4.pin (s.heap.objs.size+1,seqObj "list" #[] 0) (mem_append_right _ mem_cons_self);have nI2:=J4.pin (s.heap.objs.size,oI') (mem_append_right _ (mem_cons_of_mem _ mem_cons_self));have s1:=Heap.SameBut.update s2.heap (s.heap.objs.size+1) (Obj.mapSeq λ_=>#[u,.ref ka]);obtain⟨c2,hc2⟩:∃c2,(s2.heap.update (s.heap.objs.size+1) (Obj.mapSeq λ_=>#[u,.ref ka])).get? (s.heap.objs.size+1)=some (seqObj "list" #[u,.ref ka] c2):=⟨_,get?_update_seq nS2.1 λ_=>#[u,.ref ka]⟩
 show wpAny _ X.A.in1 (updateSeq (s.heap.objs.size+1) (λ_=>#[u,.ref ka]) >>= _) _ _ _;refine wpAny_bind ?_;refine wpAny_updateSeq nS2.1 rfl ?_;rw[hname];have J5:Inv X ((s.heap.objs.size+1,seqObj "list" #[] 0)::pins) σ H2 s2:=J4.pins_of λp hp=>by
  rcases mem_cons.mp hp with rfl|hp
  .exact nS2
  .exact J4.pin p (mem_append_right _ (mem_cons_of_mem _ (mem_cons_of_mem _ hp)))
 have J6:Inv X pins σ H2 { s2 with heap:=s2.heap.update (s.heap.objs.size+1) (Obj.mapSeq λ_=>#[u,.ref ka]),toks:=s2.toks }:=J5.turnE (hS0 H2 nS2.2.1) λc u n e=>(s1.2 c n).trans e;have gI2:(s2.heap.update (s.heap.objs.size+1) (Obj.mapSeq λ_=>#[u,.ref ka])).get? s.heap.objs.size=some oI':=(s1.2 _ hSI.symm).trans nI2.1;have J7:=(J6.repin (hI0 H2 nI2.2.1) gI2 dI).repin ((hS0 H2 nS2.2.1).more hSI.symm) hc2 (λv z=>by cases z);exact wpAny_pure ⟨plainId_quiet PySem.F.plain_min_loop _,Px hu hh hsrc hSI 0 hI0 hS0 turn m 1 x u (.ref ka) (.ref ka) n c2 oI' H2 _ J7 ⟨oI',gI2,hoc,hod⟩ ru rfl hgo2⟩
end
def Nu(K:PySem.W.Frag)(P:Addr)(q:Str)(pos:Pos)(ix:List Nat)(te tb:TE):TE:=λσ H Q=>te σ H λv H1=>∃(a:Addr) (m:Nat) (ps:Array Value),v=.ref a/\H1 P=some (.tbl ps)/\Dt H1 q pos ps /\
 ∀H2 c,TabStep P q pos H1 H2->H2 c=some (.ext (cdF c q))->Jk K (λH xs=>SqL K H a xs) (λH=>H c=some (.ext (cdF c q))) tb (ix.map λi=>(σ[i]?).join) m H2 Q
section
variable{X:Cx}{c P:Addr}{scope:Scope}{fr:List Str}{ix:List Nat}{prm:Str}{params:Arguments}{body e:Expr}{p pos lpos kpos:Pos}{te tb:TE}
def VB(LA:LamAt X c P)(S:CSc X scope fr ix)(L:LSc scope prm)(hr:Room 3 X.A)(hcm:X.calm=true)(hg:Gl X "min")(hm:X.mg "min"=none)
 (hbind:∀(cl:List (Str×Addr)) (pm cd ctv us:Value),bindArgs (kla_fn "<lambda>" (X.env.qual++"<lambda>") params body scope cl pm cd ctv) ⟨[us],[]⟩=pure [(prm,us)])
 (he:PE X e te) (hb:∀(f:Addr) (cd:Value) (s:Shared) (H:Hp),PE (lCx X X.A.in1 (prm::fr) (X.env.qual++"<lambda>") scope f cd (AX X.env.cells scope.names []) s H) body tb)
 (hdef:defaultsOf params X.env=([],[]):=by rfl) (hs:starEach [e] X.env=[(false,eval e X.env)]:=by rfl):
 PE X (.Call (.Name "min" p) [e] [⟨some "key",.Lambda params body scope lpos,kpos⟩] pos) (Nu X.K P (X.env.qual++"<lambda>") lpos ix te tb):=by
 intro pins s σ H Q I h;have PAe:PA X [e] (B7 te Bv):=Bi he CI hs;refine wpAny_Call_Name_kw (Ca (u:=.builtin "min") I hg hm bt_min ?_);have pl:(backTo pos (starEach [e] X.env)).any (·.1)=false:=by rw[hs];rfl
 refine callWith_builtin_kwB pl rfl (evalArgs_kw2 (env:=X.env) (e:=e) (rest:=[]) (kws:=[⟨some "key",.Lambda params body scope lpos,kpos⟩]) rfl (thn (PAe pos pins s σ H (λvs H1=>match vs with
  |[v]=>∃(a:Addr) (m:Nat) (ps:Array Value),v=.ref a/\H1 P=some (.tbl ps)/\Dt H1 (X.env.qual++"<lambda>") lpos ps /\
   ∀H2 c,TabStep P (X.env.qual++"<lambda>") lpos H1 H2->H2 c=some (.ext (cdF c (X.env.qual++"<lambda>")))->Jk X.K (λH xs=>SqL X.K H a xs) (λH=>H c=some (.ext (cdF c (X.env.qual++"<lambda>")))) tb (ix.map λi=>(σ[i]?).join) m H2 Q
  | _=>False) I h) λus s1 hq=>?_) hs)
 obtain⟨vs,H1,I1,r,q⟩:=hq
 match vs,q with
 |[v],q=>
 obtain⟨a,m,ps,rfl,hP,hg1,go⟩:=q;obtain⟨u,rfl,ru⟩:=By r;cases ru;show wpAny _ _ (evalAll [(do let v <- eval (.Lambda params body scope lpos) X.env;standAt pos;pure v)]) _ _ s1;refine wpAny_evalAll_cons (wpAny_bind (IM S LA I1 hdef hP hg1 λf cd ctv H2 s2 I2 M=>wpAny_bind (wpAny_standAt (wpAny_pure (wpAny_evalAll_nil ?_)))));show wpAny _ _ (call (.builtin "min") [.ref a] [(Str.ofString "key",.ref f)]) _ _ s2;obtain⟨c',rfl,hc'⟩:=M.cdc;have go':=go H2 c' M.step hc';have ff:FpOk X pins H2 f:=I1.fpOk M.new M.fre;have I3:=I2.repin ff M.fn (λv z=>by cases z);refine wpAny_mono (SU hr.in1.units0 (pins:=(f,_)::pins) (I3.ok.hd hcm) I3 (λpins' H' s' xs J hG=>?_) (λpins' H' s' x u Q1 sub J ru hG hq=>?_) go') (λv s' hv=>?_) λ_ _ z=>z
 .obtain⟨its,rv,pl2,hz⟩:=J.list hG;exact⟨its,rv,pl2.isList⟩
 .have pf:=J.pin (f,_) (mem_append_right _ (sub _ mem_cons_self));exact M0 (A:=X.A.in1) (f:=f) S L J rfl (hr.in1.mono (by decide)) pf.1 (J.hok c' _ hG).1 (λus=>hbind _ _ _ _ us) (λs H=>hb f _ s H) ru hq
 .obtain⟨y,H',J,ry,qy⟩:=hv;exact⟨y,H',J.pins_of λp hp=>J.pin p (mem_append_right _ (mem_cons_of_mem _ hp)),ry,qy⟩
end
def Iw:ME:=λ_ hd=>some (.fv 0 [],hd)
def DI(mf:ME)(ma:MA):ME:=λls hd=>(mf ls hd).bind λp=>match p.1 with
 |.fv 0 []=>(ma ls p.2).bind λr=>match r.1 with
  |[_,e]=>some (e,r.2)
  |_=>none
 |_=>none
def UI{K:PySem.W.Frag}{P:Addr}{q:Str}{pos:Pos}(TI:Ha K P q pos):RE K (Nv P q pos) Iw:=by
 and_intros;cases hm;obtain⟨p',et,_,l1,l2⟩:=id TI;obtain⟨ps,hP,hG⟩:=hR.tabs (P,q,p') et;have hG':Dt H q pos ps:=by
  rcases hG with g|⟨c,g1,g2⟩
  .exact .inl g
  .refine .inr ⟨c,?_,g2⟩;rw[g1];show #[rawInt p'.line,rawInt p'.col,Value.ref c]=_;rw[l1,l2]
 refine⟨ps,hP,hG',λH2 c f step hc hf=>?_⟩;obtain⟨R2,x2⟩:=Hy hR hP step TI;obtain⟨R3,x3⟩:=R2.hid hf (ho:=.ext (fnF f c q));refine hQ ρ _ _ (x2.trans R2 x3) R3 ?_;simp only[RD,RDs];refine⟨f,[],rfl,⟨rfl,rfl,c,q,AM,?_⟩,rfl⟩;rw[AC (λz=>by subst z;rw[hf]at hc;cases hc)];exact hc
def Ri{K:PySem.W.Frag}{tf:TE}{ta:TA}{mf:ME}{ma:MA}(hf:RE K tf mf)(ha:RA K ta ma):RE K (Kz tf ta) (DI mf ma):=by
 and_intros;obtain⟨⟨d1,h1⟩,e1,hm⟩:=c5 hm;dsimp only at hm;split at hm
 .obtain⟨⟨ds,h2⟩,e2,hm⟩:=c5 hm;dsimp only at hm;split at hm
  .next d0 e=>
   cases hm;refine hf ρ σ H hd ls _ _ _ hR hL e1 λρ1 H1 v1 x1 R1 r1=>?_;simp only[RD,RDs]at r1;obtain⟨f,xs,rfl,⟨_,_,c,q,g1,g2⟩,_⟩:=r1;refine⟨f,rfl,ha ρ1 σ H1 _ ls _ _ _ R1 (hL.ext hR x1) e2 λρ2 H2 vs x2 R2 r2=>?_⟩;simp only[RDs]at r2;obtain⟨x,r,rfl,q1,y,r',rfl,q2,rfl⟩:=r2;exact⟨c,q,x,y,rfl,(x2.grow R1).keep _ _ trivial g1,(x2.grow R1).keep _ _ trivial g2,hQ ρ2 H2 y (x1.trans R1 x2) R2 q2⟩
  .cases hm
 .cases hm
def Fr{K:PySem.W.Frag}{ρ:List Addr}{H:Hp}{a b:Int}{k:V}(h:RD K ρ H (.im (.tup [.int a,.int b])) k):Hb K H k (a,b):=by
 simp only[RD,RI,RIs]at h;obtain⟨p,xs,rfl,sq,x,r,rfl,rfl,y,r',rfl,rfl,rfl⟩:=h;exact⟨p,rfl,sq⟩
open Classical in
def Fx(mb:ME)(cap:Ls)(hd:Hd):List D->Option (List (Int×Int))
 |[]=>some []
 |d::r=>match mb (some d::cap) hd with
  |some (.im (.tup [.int n,.int n2]),h)=>match Fx mb cap hd r with
   |some ks=>if h=hd then some ((n,n2)::ks)else none
   |none=>none
  |_=>none
def BL:List D->List (Int×Int)->D->Int×Int->D
 |x::r,n::ns,b,kb=>if ltZ n kb=true then BL r ns x n else BL r ns b kb
 |_,_,b,_=>b
def Ej(mi:ME)(ix:List Nat)(mb:ME):ME:=λls hd=>(mi ls hd).bind λp=>(Ak p.2 p.1).bind λds=>(Fx mb (ix.map λi=>(ls[i]?).join) p.2 ds).bind λkz=>match ds,kz with
 |d::r,n::ns=>some (BL r ns d n,p.2)
 |_,_=>none
section
variable{K:PySem.W.Frag}{hd:Hd}
theorem IT{tb:TE}{mb:ME}{ix:List Nat}{q:Str}{c a:Addr}{d1:D}{ds:List D}(hb:RE K tb mb){ls:Ls}{σ:St}(ev:Ak hd d1=some ds):∀(rs:List D) (ns:List (Int×Int)) (j:Nat) (bd:D) (bv kv:V) (kb:Int×Int) (ρ:List Addr) (H:Hp) (Q:VK),ds.drop j=rs->j<=ds.length ->
 Fx mb (ix.map λi=>(ls[i]?).join) hd rs=some ns->RH K ρ H hd->RL K ρ H ls σ->H c=some (.ext (cdF c q))->RD K ρ H d1 (.ref a)->RD K ρ H bd bv->RD K ρ H (.im (.tup [.int kb.1,.int kb.2])) kv ->
 (∀ρ' H' v,Ext ρ H ρ' H'->RH K ρ' H' hd->RD K ρ' H' (BL rs ns bd kb) v->Q v H') ->
 Fd K (λH xs=>SqL K H a xs) (λH=>H c=some (.ext (cdF c q))) tb (ix.map λi=>(σ[i]?).join) rs.length j bv kv kb H Q
 |[],ns,j,bd,bv,kv,kb,ρ,H,Q,hr,hj,e,R,L,hc,r1,rb,rkb,k=>by
  obtain⟨a',xs,ea,sq,rs⟩:=RD.lst R r1 ev;cases ea;have hl:=rs.len;have hd0:=congrArg List.length hr;simp at hd0;refine⟨⟨xs,sq,by omega⟩,k ρ H bv .refl R ?_⟩;cases e;exact rb
 |x::r,ns,j,bd,bv,kv,kb,ρ,H,Q,hr,hj,e,R,L,hc,r1,rb,rkb,k=>by
  obtain⟨a',xs,ea,sq,rs⟩:=RD.lst R r1 ev;cases ea;have hjl:j<ds.length:=by
   have:=congrArg List.length hr;simp at this;omega
  have hxj:ds[j]?=some x:=by
   rw[drop_eq_getElem_cons hjl]at hr;rw[List.getElem?_eq_getElem hjl,(List.cons.inj hr).1]
  have hr':ds.drop (j+1)=r:=by
   rw[drop_eq_getElem_cons hjl]at hr;exact(List.cons.inj hr).2
  obtain⟨v,hv,rv⟩:=rs.get hxj;unfold Fx at e;split at e
  .next n n2 h e1=>
   split at e
   .next ks e2=>
    split at e
    .next eh=>
     cases e;rw[eh]at e1;refine⟨xs,v,sq,hv,hc,hb ρ _ H _ _ _ (.im (.tup [.int n,.int n2])) _ R (PM L rv) e1 λρ1 H1 v1 x1 R1 rk=>?_⟩;have oc:c∉ρ:=λm=>by rcases R.mut m with⟨y,w⟩|⟨y,w⟩<;>(rw[hc]at w;cases w)
     have rkb1:=rkb.ext R x1;refine⟨(n,n2),Fr rk,Fr rkb1,?_⟩;by_cases hop:ltZ (n,n2) kb=true
     .rw[if_pos hop];refine IT hb ev r ks (j+1) x v v1 (n,n2) ρ1 H1 Q hr' hjl e2 R1 (L.ext R x1) (x1.keep c _ hc oc nt) (r1.ext R x1) (rv.ext R x1) rk λρ2 H2 w x2 R2 r2=>k ρ2 H2 w (x1.trans R1 x2) R2 ?_;rw[BL,if_pos hop];exact r2
     .rw[if_neg hop];refine IT hb ev r ks (j+1) bd bv kv kb ρ1 H1 Q hr' hjl e2 R1 (L.ext R x1) (x1.keep c _ hc oc nt) (r1.ext R x1) (rb.ext R x1) rkb1 λρ2 H2 w x2 R2 r2=>k ρ2 H2 w (x1.trans R1 x2) R2 ?_;rw[BL,if_neg hop];exact r2
    .cases e
   .cases e
  .cases e
def UH{te tb:TE}{mi mb:ME}{P:Addr}{q:Str}{pos:Pos}{ix:List Nat}(hi:RE K te mi)(hb:RE K tb mb)(TI:Ha K P q pos):RE K (Nu K P q pos ix te tb) (Ej mi ix mb):=by
 and_intros;obtain⟨⟨d1,h1⟩,e1,hm⟩:=c5 hm;obtain⟨ds,e2,hm⟩:=c5 hm;obtain⟨kz,e3,hm⟩:=c5 hm;dsimp only at hm e2 e3;split at hm
 .next x r n ns _=>
  cases hm;refine hi ρ σ H hd ls _ d1 _ hR hL e1 λρ1 H1 v1 x1 R1 r1=>?_;obtain⟨a,xs,rfl,sq,rs⟩:=RD.lst R1 r1 e2;obtain⟨p',et,_,l1,l2⟩:=id TI;obtain⟨ps,hP,hG⟩:=R1.tabs (P,q,p') et;have hG':Dt H1 q pos ps:=by
   rcases hG with g|⟨c,g1,g2⟩
   .exact .inl g
   .refine .inr ⟨c,?_,g2⟩;rw[g1];show #[rawInt p'.line,rawInt p'.col,Value.ref c]=_;rw[l1,l2]
  refine⟨a,r.length,ps,rfl,hP,hG',λH2 c step hc=>?_⟩;obtain⟨R2,x2⟩:=Hy R1 hP step TI;have x12:=x1.trans R1 x2;have L2':=hL.ext hR x12;have r2:=r1.ext R1 x2;obtain⟨a',xs,ea,sq,rs⟩:=RD.lst R2 r2 e2;cases ea;obtain⟨v,hv,rv⟩:=rs.get (i:=0) (d:=x) rfl;unfold Fx at e3;split at e3
  .next n' n2 h e4=>
   split at e3
   .next ks e5=>
    split at e3
    .next eh=>
     cases e3;rw[eh]at e4;refine⟨xs,v,sq,hv,hc,hb ρ1 _ H2 _ _ _ (.im (.tup [.int _,.int _])) _ R2 (PM L2' rv) e4 λρ3 H3 v3 x3 R3 rk=>?_⟩;have oc:c∉ρ1:=λm=>by rcases R2.mut m with⟨y,w⟩|⟨y,w⟩<;>(rw[hc]at w;cases w)
     refine⟨_,Fr rk,IT hb e2 r ns 1 x v v3 _ ρ3 H3 Q rfl (by simp) e5 R3 (L2'.ext R2 x3) (x3.keep c _ hc oc nt) (r2.ext R2 x3) (rv.ext R2 x3) rk λρ4 H4 w x4 R4 r4=>hQ ρ4 H4 w ((x12.trans R2 x3).trans R3 x4) R4 r4⟩
    .cases e3
   .cases e3
  .cases e3
 .cases hm
end
def S8(K:PySem.W.Frag){X:Cx}{x:Str}{e:Expr}{es:List Expr}{tf:TE}{ta:TA}{mf:ME}{ma:MA}{p pos:Pos}{k:Nat}(hr:Room k X.A)(hf:QE K X (.Name x p) tf mf)(ha:QA K X (e::es) ta ma)(hk:1<=k:=by decide)(he:starEach (e::es) X.env=(false,eval e X.env)::starEach es X.env:=by rfl):
 QE K X (.Call (.Name x p) (e::es) [] pos) (Kz tf ta) (DI mf ma):=⟨SM (hr.mono hk) hf.p ha.p he,Ri hf.r ha.r⟩
section
variable{K:PySem.W.Frag}{X:Cx}{c P:Addr}{fd:FuncData}{q:Str}{scope:Scope}{params:Arguments}{p2:Str}{pp p pos lpos kpos:Pos}{cdv:Value}{ix:List Nat}{body e:Expr}{te tb:TE}{mi mb:ME}{k:Nat}
def XB(LC:LamC X.K X.mg X.base fd c P q lpos)(hcd:fd.code=cdv)(hcv:X.env.code=cdv:=by rfl)(hq:q=X.env.qual++"<lambda>":=by rfl)(S:CSc X scope (frN X []) []:=by exact⟨rfl,by decide +kernel,rfl,rfl,rfl,by decide +kernel⟩)
 (L:SndOk q params scope (.Name p2 pp) (IE params) p2:=by exact⟨by decide,⟨rfl,rfl,rfl,rfl⟩,⟨rfl,rfl,rfl,rfl⟩,rfl,rfl,by decide,by decide,λ_ _ _ _ _ _=>rfl⟩)
 (hcl:AX X.env.cells scope.names []=[]:=by rfl) (hdef:defaultsOf params X.env=([],[]):=by rfl) (hK:X.K=K:=by rfl):QE K X (.Lambda params (.Name p2 pp) scope lpos) (Nv P (X.env.qual++"<lambda>") lpos) Iw:=by
 subst hq;subst hK;exact⟨VC ⟨hcv.trans (hcd.symm.trans LC.code),LC.hd,LC.bl⟩ S hcl L hdef,UI LC.ti⟩
def XA(LC:LamC X.K X.mg X.base fd c P q lpos)(hcd:fd.code=cdv)(hr:Room k X.A)(hm:X.mg "min"=none)(he:QE K X e te mi)
 (hb:∀(f:Addr) (cd:Value) (s:Shared) (H:Hp),QE K (lCx X X.A.in1 (IE params::frN X ix) (X.env.qual++"<lambda>") scope f cd (AX X.env.cells scope.names []) s H) body tb mb)
 (hcv:X.env.code=cdv:=by rfl) (hq:q=X.env.qual++"<lambda>":=by rfl) (S:CSc X scope (frN X ix) ix:=by exact⟨rfl,by decide +kernel,rfl,rfl,rfl,by decide +kernel⟩) (L:LSc scope (IE params):=by exact⟨rfl,rfl,rfl,rfl⟩) (h3:3<=k:=by decide)
 (hbind:∀(cl:List (Str×Addr)) (pm cd ctv us:Value),bindArgs (kla_fn "<lambda>" (X.env.qual++"<lambda>") params body scope cl pm cd ctv) ⟨[us],[]⟩=pure [(IE params,us)]:=by exact λ_ _ _ _ _=>rfl)
 (hcm:X.calm=true:=by rfl) (hg:Gl X "min":=by rfl) (hdef:defaultsOf params X.env=([],[]):=by rfl) (hs:starEach [e] X.env=[(false,eval e X.env)]:=by rfl) (hK:X.K=K:=by rfl):
 QE K X (.Call (.Name "min" p) [e] [⟨some "key",.Lambda params body scope lpos,kpos⟩] pos) (Nu K P (X.env.qual++"<lambda>") lpos ix te tb) (Ej mi ix mb):=by
 subst hq;subst hK;exact⟨VB ⟨hcv.trans (hcd.symm.trans LC.code),LC.hd,LC.bl⟩ S L (hr.mono h3) hcm hg hm hbind he.p (λf cd s H=>(hb f cd s H).p) hdef hs,UH he.r (hb 0 .none X.s₀ X.H₀).r LC.ti⟩
end
section
variable{ls:Ls}{hd:Hd}{Q:D->Hd->Prop}
def Tq(q:Q (.fv 0 []) hd):WE Iw ls hd Q:=⟨_,_,rfl,q⟩
def Qn{mf:ME}{ma:MA}(h:WE mf ls hd λd x=>d=.fv 0 []/\WA ma ls x λds y=>∃a b,ds=[a,b]/\Q b y):WE (DI mf ma) ls hd Q:=by
 obtain⟨d,x,e1,rfl,ds,y,e2,a,b,rfl,q⟩:=h;refine⟨_,_,?_,q⟩;simp only[DI,e1,bind_some,e2]
def Qp{mi mb:ME}{ix:List Nat}(h:WE mi ls hd λd x=>∃(e:D) (es:List D) (kf:D->Int×Int),Ak x d=some (e::es)/\(∀y∈e::es,mb (some y::ix.map λi=>(ls[i]?).join) x=some (.im (.tup [.int (kf y).1,.int (kf y).2]),x))/\Q (BL es (es.map kf) e (kf e)) x):WE (Ej mi ix mb) ls hd Q:=by
 obtain⟨d,x,e1,e,es,kf,e2,ek,q⟩:=h;have go:∀ys:List D,(∀y∈ys,mb (some y::ix.map λi=>(ls[i]?).join) x=some (.im (.tup [.int (kf y).1,.int (kf y).2]),x))->Fx mb (ix.map λi=>(ls[i]?).join) x ys=some (ys.map kf):=by
  intro ys
  induction ys with
  |nil=>intro _;rfl
  |cons y r ih=>
   intro h;unfold Fx;rw[h y mem_cons_self,ih λz hz=>h z (mem_cons_of_mem _ hz)];simp
 refine⟨_,x,?_,q⟩;simp only[Ej,e1,bind_some,e2,go _ ek,map_cons]
def leP(p q:Int×Int):Prop:=ltZ q p=false
def Sd(p:Int×Int):leP p p:=by unfold leP ltZ;simp
def K0{p q r:Int×Int}(h:leP p q)(h':leP q r):leP p r:=by
 unfold leP ltZ at *;simp only[decide_eq_false_iff_not,not_or,not_and,Int.not_lt]at *;omega
theorem FB(kf:D->Int×Int):∀(es:List D) (b:D),BL es (es.map kf) b (kf b)∈b::es/\∀y∈b::es,leP (kf (BL es (es.map kf) b (kf b))) (kf y)
 |[],b=>⟨mem_cons_self,λy hy=>by rw[mem_singleton]at hy;subst hy;exact Sd _⟩
 |e::es,b=>by
  rw[map_cons,BL];by_cases h:ltZ (kf e) (kf b)=true
  .rw[if_pos h];obtain⟨h1,h2⟩:=FB kf es e;refine⟨mem_cons_of_mem _ h1,λy hy=>?_⟩;rcases mem_cons.mp hy with rfl|hy
   .refine K0 (h2 e mem_cons_self) ?_;unfold leP ltZ at *;simp only[decide_eq_true_eq,decide_eq_false_iff_not,not_or,not_and,Int.not_lt]at *;omega
   .exact h2 y hy
  .rw[if_neg h];obtain⟨h1,h2⟩:=FB kf es b;refine⟨?_,λy hy=>?_⟩
   .rcases mem_cons.mp h1 with q|q
    .rw[q];exact mem_cons_self
    .exact mem_cons_of_mem _ (mem_cons_of_mem _ q)
   .rcases mem_cons.mp hy with rfl|hy
    .exact h2 y mem_cons_self
    .rcases mem_cons.mp hy with rfl|hy
     .refine K0 (h2 b mem_cons_self) ?_;unfold leP;simpa using h
     .exact h2 y (mem_cons_of_mem _ hy)
end
theorem M5:∀{bs:List Int} {us:List Value} {i:Nat} {v:Value},Vals (bs.map V.int) us->us[i]?=some v->∃b t,bs[i]?=some b/\v=.int b t
 |[],_,_,_,.nil,e=>by simp at e
 |b::bs,_,0,_,.cons r _,e=>by
  simp at e;subst e;obtain⟨t,rfl⟩:=r;exact⟨b,t,rfl,rfl⟩
 |b::bs,_,i+1,_,.cons _ t,e=>by
  obtain⟨c,t,h1,h2⟩:=M5 (i:=i) t (by simpa using e);exact⟨c,t,by simpa using h1,h2⟩
def TV(K:PySem.W.Frag):List V->Hp->VK->Prop:=λxs H Q=>∃(a:Addr) (bs:List Int),xs=[.ref a]/\SqL K H a (bs.map V.int)/\Q (.bl (bs.any λn=>n != 0)) H
theorem any_map(bs:List Int):((List.range bs.length).any λi=>((bs[i]?).getD 0) != 0)=bs.any λn=>n != 0:=by
 have:=LSm.range_any (bs.map λn=>n != 0);rw[length_map,List.any_map]at this;rw[show(id ∘ λn:Int=>n != 0)=λn:Int=>n != 0 from rfl]at this;rw[<- this,Bool.eq_iff_iff,List.any_eq_true,List.any_eq_true];constructor
 .rintro⟨i,hi,h⟩;have hi':i<bs.length:=by simpa using hi
  exact⟨i,hi,by simpa [hi']using h⟩
 .rintro⟨i,hi,h⟩;have hi':i<bs.length:=by simpa using hi
  exact⟨i,hi,by simpa [hi']using h⟩
def Ou(K:PySem.W.Frag){X:Cx}(hc:X.calm=true)(hK:X.K=K:=by rfl):CallR X (.builtin "any") (TV K):=by
 subst hK;intro pins s σ H xs us Q I r h;obtain⟨a,bs,rfl,hq,q⟩:=h;obtain⟨u,rfl,ru⟩:=By r;cases ru;obtain⟨its,rv,p,hz⟩:=I.list hq;have hl:=p.isList;have hlen:=rv.length;have hlt:a<s.heap.objs.size:=by obtain⟨_,e,_⟩:=hl;exact Heap.lt_size e
 refine call_any_walk (wpAny_pyIter_list hl ?_);refine⟨s.heap.objs.size,[s.heap.objs.size,a],[s.heap.objs.size],its.toArray.size,_,_,λi=>((bs[i]?).getD 0) != 0,rfl,Walks.list (A:=X.A.in1) (I.ok.hd hc) _ a (ne_of_lt hlt) its.toArray,
  ⟨⟨_,Heap.get?_push_size _ rfl,rfl,rfl⟩,hl.push _⟩,λi v s' Q' E' hP hQ=>?_,λh' tk hk=>?_⟩
 .obtain⟨b,t,e,rfl⟩:=M5 rv (by simpa using hP);simp only[e,getD_some]at hQ;exact P.truthy_int hQ
 .have e:((List.range its.toArray.size).any λi=>((bs[i]?).getD 0) != 0)=bs.any λn=>n != 0:=by
   rw[size_toArray,<- hlen,length_map];exact any_map bs
  rw[e];exact⟨.bl _,H,I.kept (LSm.kept_iter hk),rfl,q⟩
def Iy(ds:List D):Option D:=(Al ds).map λns=>.im (.bl (ns.any λn=>n != 0))
def UC{K:PySem.W.Frag}:RG K false (TV K) Iy:=by
 intro ρ H hd a xs ds Q z hR q r e hQ;obtain⟨ns,e1,rfl⟩:=c7 e;rw[Cf e1]at r;have:=ES r;subst this;rcases q with q|⟨q,_⟩
 .exact⟨a,ns,rfl,q,hQ H _ .refl hR (by simp[RD,RI])⟩
 .cases q
def Cu:List V->List (Int×Int)->V->Int×Int->V
 |x::r,n::ns,b,kb=>if ltZ n kb=true then Cu r ns x n else Cu r ns b kb
 |_,_,b,_=>b
def JE(K:PySem.W.Frag)(H:Hp):List V->List (Int×Int)->Prop
 |[],[]=>True
 |x::xs,n::ns=>Hb K H x n/\JE K H xs ns
 |_,_=>False
section
variable{X:Cx}{pins:List (Addr×Obj)}{σ:St}{l It S:Addr}{Q:VK}{E:Value->Shared->Prop}
def Pw(hu:X.A.in1.units<cLine)(hh:X.A.handled=none){H:Hp}{xs:List V}(hsq:SqL X.K H l xs)(hSI:S≠It)(hI0:H It=none->FpOk X pins H It)(hS0:H S=none->FpOk X pins H S):
 ∀(rs:List V) (ns:List (Int×Int)) (j:Nat) (b:V) (vb:Value) (kb:Int×Int) (c:Nat) (oI:Obj) (s:Shared),xs.drop j=rs->JE X.K H rs ns->Hb X.K H b kb->Inv X ((S,seqObj "list" #[vb,vb] c)::(It,oI)::pins) σ H s->s.heap.IsListIter It l j->RelV b vb ->
   Q (Cu rs ns b kb) H->codeAny (model X.prog X.w) X.A (.builtin "min.loop" ⟨[.ref It,.none,.ref S],[]⟩) (λr s'=>match r with|.ok (.ret v)=>EP X pins σ Q v s'|.ok _=>False|.error e=>E e s') s:=by
 have hname:(toString "min"++toString ".loop":String)="min.loop":=by decide
 intro rs
 induction rs with
 |nil=>
  intro ns j b vb kb c oI s hdr hp hpb J hit rb hQ;cases ns with
  |cons _ _=>exact hp.elim
  |nil=>
  have nS:=J.pin (S,seqObj "list" #[vb,vb] c) (mem_append_right _ mem_cons_self);have nI:=J.pin (It,oI) (mem_append_right _ (mem_cons_of_mem _ mem_cons_self));refine codeAny_builtin PySem.F.entry_min_loop ?_;rw[Around.under_plainId PySem.F.plain_min_loop _];show wpAny _ X.A.in1 (seqItems? (.ref S) >>= _) _ _ _;refine wpAny_bind (wpAny_seqItems nS.1 rfl ?_);show wpAny _ X.A.in1 (tryCatch (pyNext (.ref It)) _ >>= _) _ _ _;obtain⟨its,hv,pl,_⟩:=J.list hsq;have hil:=pl.isList;have hlen:=hv.length;have hle:xs.length<=j:=by simpa using hdr
  refine wpAny_bind (wpAny_tryCatch (wpAny_pyNext_list_end hh hit hil (by simp;omega) λh' hk'=>?_));have hS':=hk' S _ hSI nS.1;have s1:=Heap.SameBut.update h' S (Obj.mapSeq λ_=>(#[]:Array Value));show wpAny _ X.A.in1 (updateSeq S (λ_=>#[]) >>= _) _ _ _;refine wpAny_bind ?_;refine wpAny_updateSeq hS' rfl (wpAny_bind (wpAny_letGo (wpAny_pure ?_)));have J1:Inv X ((It,oI)::pins) σ H s:=J.pins_of λp hp=>J.pin p (mem_append_right _ (mem_cons_of_mem _ hp));have J2:Inv X pins σ H { s with heap:=h',toks:=s.toks }:=J1.turnE (hI0 nI.2.1) λc u n e=>hk' c u n e;have J3:=(J2.repin (hS0 nS.2.1) hS' (λv z=>by cases z)).turnE (t':=s.toks) (hS0 nS.2.1) λc u n e=>(s1.2 c n).trans e;exact⟨b,H,J3,rb,hQ⟩
 |cons x rs ih=>
  intro ns j b vb kb c oI s hdr hp hpb J hit rb hQ;cases ns with
  |nil=>exact hp.elim
  |cons n ns=>
  obtain⟨hpx,hp⟩:=hp;have hjl:j<xs.length:=Nat.lt_of_not_le λh=>by rw[List.drop_eq_nil_iff.mpr h]at hdr;cases hdr
  rw[drop_eq_getElem_cons hjl]at hdr;have hdr2:=(List.cons.inj hdr).2;obtain rfl:=(List.cons.inj hdr).1;obtain⟨its,hv,pl,_⟩:=J.list hsq;have hil:=pl.isList;obtain⟨u,hu9,ru⟩:=hv.get (List.getElem?_eq_getElem hjl);have nS:=J.pin (S,seqObj "list" #[vb,vb] c) (mem_append_right _ mem_cons_self);have nI:=J.pin (It,oI) (mem_append_right _ (mem_cons_of_mem _ mem_cons_self));refine codeAny_builtin PySem.F.entry_min_loop ?_;rw[Around.under_plainId PySem.F.plain_min_loop _];show wpAny _ X.A.in1 (seqItems? (.ref S) >>= _) _ _ _;refine wpAny_bind (wpAny_seqItems nS.1 rfl ?_);show wpAny _ X.A.in1 (tryCatch (pyNext (.ref It)) _ >>= _) _ _ _;refine wpAny_bind (wpAny_tryCatch (wpAny_pyNext_list_item hit hil (x:=u) (by simpa using hu9) λh' hit' hs'=>?_));obtain⟨oI',hoI',hoc,hod⟩:=id hit';have hSh':h'.get? S=some (seqObj "list" #[vb,vb] c):=(hs'.2 S hSI).trans nS.1;have dI:∀v,oI'.data≠.cell v:=λv z=>by rw[hod]at z;cases z
  have J1:Inv X ((It,oI)::pins) σ H s:=J.pins_of λp hp=>J.pin p (mem_append_right _ (mem_cons_of_mem _ hp));have J2:Inv X pins σ H { s with heap:=h',toks:=s.toks }:=J1.turnE (hI0 nI.2.1) λc u n e=>(hs'.2 c n).trans e;have J4:=(J2.repin (hI0 nI.2.1) hoI' dI).repin ((hS0 nS.2.1).more hSI.symm) hSh' (λv z=>by cases z);have hpb':=hpb;have hpx':=hpx;obtain⟨ka,ea,sqa⟩:=hpx;obtain⟨kb',rfl,sqb⟩:=hpb;rw[ea]at ru;cases ru;cases rb;show wpAny _ X.A.in1 (tryCatch (holding [.ref ka,.ref ka] (richCompare .Lt (.ref ka) (.ref kb') >>= _)) _ >>= _) _ _ _;refine wpAny_bind (wpAny_tryCatch (wpAny_holding (wpAny_bind (Kv hu (HL J4 sqa) (HL J4 sqb) ?_))));refine wpAny_bind (wpAny_holding (wpAny_truthy_bool ?_));refine wpAny_bind (wpAny_letGo (wpAny_pure ?_));by_cases hb':ltZ n kb=true
  .have s1:=Heap.SameBut.update h' S (Obj.mapSeq λ_=>#[.ref ka,.ref ka]);obtain⟨c2,hc2⟩:∃c2,(h'.update S (Obj.mapSeq λ_=>#[.ref ka,.ref ka])).get? S=some (seqObj "list" #[.ref ka,.ref ka] c2):=⟨_,get?_update_seq hSh' λ_=>#[.ref ka,.ref ka]⟩
   rw[Cu,if_pos hb']at hQ;simp only[hb',if_true];refine wpAny_bind ?_;refine wpAny_updateSeq hSh' rfl (wpAny_bind (wpAny_letGo ?_));rw[hname];have J3:=J2.repin (hS0 nS.2.1) hSh' (λv z=>by cases z);have J6:Inv X pins σ H { s with heap:=h'.update S (Obj.mapSeq λ_=>#[.ref ka,.ref ka]),toks:=s.toks }:=J3.turnE (hS0 nS.2.1) λc u n e=>(s1.2 c n).trans e;have gI:(h'.update S (Obj.mapSeq λ_=>#[.ref ka,.ref ka])).get? It=some oI':=(s1.2 It hSI.symm).trans hoI';have J7:=(J6.repin (hI0 nI.2.1) gI dI).repin ((hS0 nS.2.1).more hSI.symm) hc2 (λv z=>by cases z);exact wpAny_pure ⟨plainId_quiet PySem.F.plain_min_loop _,ih ns (j+1) _ (.ref ka) n c2 oI' _ hdr2 hp hpx' J7 ⟨oI',gI,hoc,hod⟩ (by rw[ea];rfl) hQ⟩
  .rw[Cu,if_neg hb']at hQ;simp only[hb',Bool.false_eq_true,if_false];refine wpAny_bind (wpAny_letGo ?_);rw[hname];exact wpAny_pure ⟨plainId_quiet PySem.F.plain_min_loop _,ih ns (j+1) _ (.ref kb') kb c oI' _ hdr2 hp hpb' J4 ⟨oI',hoI',hoc,hod⟩ rfl hQ⟩
def TM(K:PySem.W.Frag):List V->Hp->VK->Prop:=λvs H Q=>∃a x xs n ns,vs=[.ref a]/\SqL K H a (x::xs)/\JE K H (x::xs) (n::ns)/\Q (Cu xs ns x n) H
def Os(K:PySem.W.Frag){X:Cx}{k:Nat}(hr:Room k X.A)(hc:X.calm=true)(hK:X.K=K:=by rfl):CallR X (.builtin "min") (TM K):=by
 subst hK;intro pins s σ H vs us Q I r h;have hname:(toString "min"++toString ".loop":String)="min.loop":=by decide
 obtain⟨a,x,xs,n,ns,rfl,hsq,⟨hpx,hps⟩,q⟩:=h;obtain⟨w,rfl,rw'⟩:=By r;have hu:X.A.in1.units<cLine:=by have:=hr.un;show X.A.units+1<_;omega
 cases rw';have hh:=I.ok.hd hc;obtain⟨its,hv,pl,_⟩:=I.list hsq;have hls:=pl.isList;refine call_function_tree PySem.F.kind_min PySem.F.plain_min PySem.F.entry_min (PySem.F.args_min1 _) ?_;show wpAny _ X.A.in1 (Builtin.Builtins.bindParams "min" ["key","default"] 0 ⟨[],[]⟩ >>= _) _ _ s;refine wpAny_bind (wpAny_of_eq (show Builtin.Builtins.bindParams "min" ["key","default"] 0 ⟨[],[]⟩=pure [none,none]from rfl) ?_);refine wpAny_bind (wpAny_pure ?_);refine wpAny_bind (wpAny_pyIter_list hls ?_);refine wpAny_bind (wpAny_newList ?_ (zero_le _));rw[hname];have hS:(s.heap.push { cls:=.type "list_iterator",data:=.fields #[.ref a,.int 0 0] }).objs.size=s.heap.objs.size+1:=size_push' ..;rw[hS];have gI:((s.heap.push { cls:=.type "list_iterator",data:=.fields #[.ref a,.int 0 0] }).push (seqObj "list" #[] 0)).get? s.heap.objs.size=some { cls:=.type "list_iterator",data:=.fields #[.ref a,.int 0 0] }:=
  Heap.get?_push_of_some _ (Heap.get?_push_size _ rfl)
 have gS:((s.heap.push { cls:=.type "list_iterator",data:=.fields #[.ref a,.int 0 0] }).push (seqObj "list" #[] 0)).get? (s.heap.objs.size+1)=some (seqObj "list" #[] 0):=by rw[<- hS];exact Heap.get?_push_size _ rfl
 have kp:∀b o,s.heap.get? b=some o->((s.heap.push { cls:=.type "list_iterator",data:=.fields #[.ref a,.int 0 0] }).push (seqObj "list" #[] 0)).get? b=some o:=λb o e=>Heap.get?_push_of_some _ (Heap.get?_push_of_some _ e);have I1:Inv X pins σ H { s with heap:=(s.heap.push { cls:=.type "list_iterator",data:=.fields #[.ref a,.int 0 0] }).push (seqObj "list" #[] 0),toks:=s.toks }:=I.kept (t':=s.toks) kp;have hSI:s.heap.objs.size+1≠s.heap.objs.size:=ne_of_gt (lt_succ_self _);have nI:H s.heap.objs.size=none:=I.hok.fresh (le_refl _);have nS:H (s.heap.objs.size+1)=none:=I.hok.fresh (le_succ _);have hI0:FpOk X pins H s.heap.objs.size:=I.fpOk (le_refl _) nI;have hS0:FpOk X pins H (s.heap.objs.size+1):=I.fpOk (le_succ _) nS;generalize (s.heap.push { cls:=.type "list_iterator",data:=.fields #[.ref a,.int 0 0] }).push (seqObj "list" #[] 0)=h1 at gI gS I1 ⊢;refine wpAny_pure ⟨plainId_quiet PySem.F.plain_min_loop _,?_⟩;refine codeAny_builtin PySem.F.entry_min_loop ?_;rw[Around.under_plainId PySem.F.plain_min_loop _];show wpAny _ X.A.in1 (seqItems? (.ref (s.heap.objs.size+1)) >>= _) _ _ _;refine wpAny_bind (wpAny_seqItems gS rfl ?_);show wpAny _ X.A.in1 (tryCatch (pyNext (.ref s.heap.objs.size)) _ >>= _) _ _ _;obtain⟨its,hv,pl,_⟩:=I1.list hsq;have hil:=pl.isList;obtain⟨u,hu9,ru⟩:=hv.get (show(x::xs)[0]?=some x from rfl);refine wpAny_bind (wpAny_tryCatch (wpAny_pyNext_list_item (i:=0) ⟨_,gI,rfl,rfl⟩ hil (x:=u) (by simpa using hu9) λh' hit' hs'=>?_));obtain⟨oI',hoI',hoc,hod⟩:=id hit';have dI:∀v,oI'.data≠.cell v:=λv z=>by rw[hod]at z;cases z
 have hSh':h'.get? (s.heap.objs.size+1)=some (seqObj "list" #[] 0):=(hs'.2 _ hSI).trans gS;have J2:Inv X pins σ H { s with heap:=h',toks:=s.toks }:=(I1.repin hI0 gI (λv z=>by cases z)).turnE hI0 λc u n e=>(hs'.2 c n).trans e;have s1:=Heap.SameBut.update h' (s.heap.objs.size+1) (Obj.mapSeq λ_=>#[u,u]);obtain⟨c2,hc2⟩:∃c2,(h'.update (s.heap.objs.size+1) (Obj.mapSeq λ_=>#[u,u])).get? (s.heap.objs.size+1)=some (seqObj "list" #[u,u] c2):=⟨_,get?_update_seq hSh' λ_=>#[u,u]⟩
 show wpAny _ X.A.in1 (updateSeq (s.heap.objs.size+1) (λ_=>#[u,u]) >>= _) _ _ _;refine wpAny_bind ?_;refine wpAny_updateSeq hSh' rfl ?_;rw[hname];have J3:=J2.repin hS0 hSh' (λv z=>by cases z);have J6:Inv X pins σ H { s with heap:=h'.update (s.heap.objs.size+1) (Obj.mapSeq λ_=>#[u,u]),toks:=s.toks }:=J3.turnE hS0 λc u n e=>(s1.2 c n).trans e;have gI2:(h'.update (s.heap.objs.size+1) (Obj.mapSeq λ_=>#[u,u])).get? s.heap.objs.size=some oI':=(s1.2 _ hSI.symm).trans hoI';have J7:=(J6.repin hI0 gI2 dI).repin (hS0.more hSI.symm) hc2 (λv z=>by cases z);exact wpAny_pure ⟨plainId_quiet PySem.F.plain_min_loop _,Pw hu hh hsq hSI (λ_=>hI0) (λ_=>hS0) xs ns 1 x u n c2 oI' _ rfl hps hpx J7 ⟨oI',gI2,hoc,hod⟩ ru q⟩
end
def FW:List D->Option (List (Int×Int))
 |[]=>some []
 |.im (.tup [.int a,.int b])::r=>(FW r).map λns=>(a,b)::ns
 |_=>none
def Fy(ds:List D):Option D:=match ds,FW ds with
 |d::r,some (n::ns)=>some (BL r ns d n)
 |_,_=>none
section
variable{K:PySem.W.Frag}{ρ:List Addr}{H:Hp}
theorem Lc:∀{ds:List D} {xs:List V} {ns:List (Int×Int)},RDs K ρ H ds xs->FW ds=some ns->JE K H xs ns
 |[],xs,ns,r,e=>by
  cases e;have:xs=[]:=by simpa [RDs]using r
  subst this;trivial
 |d::ds,xs,ns,r,e=>by
  unfold FW at e;split at e
  .next h=>cases h
  .next a b r' h=>
   obtain⟨rfl,rfl⟩:=List.cons.inj h;obtain⟨ns',e1,rfl⟩:=c7 e;simp only[RDs]at r;obtain⟨x,xs',rfl,r1,r2⟩:=r;exact⟨Fr r1,Lc r2 e1⟩
  .cases e
theorem HH:∀{ds:List D} {xs:List V} (ns:List (Int×Int)) {d:D} {v:V} {k:Int×Int},RDs K ρ H ds xs->RD K ρ H d v->RD K ρ H (BL ds ns d k) (Cu xs ns v k)
 |[],xs,ns,d,v,k,r,rv=>by
  have:xs=[]:=by simpa [RDs]using r
  subst this;unfold BL Cu;exact rv
 |d0::ds,xs,ns,d,v,k,r,rv=>by
  simp only[RDs]at r;obtain⟨x,xs',rfl,r1,r2⟩:=r;cases ns with
  |nil=>unfold BL Cu;exact rv
  |cons n ns=>
   rw[BL,Cu];by_cases h:ltZ n k=true
   .rw[if_pos h,if_pos h];exact HH ns r2 r1
   .rw[if_neg h,if_neg h];exact HH ns r2 rv
end
def UB{K:PySem.W.Frag}:RG K false (TM K) Fy:=by
 intro ρ H hd a xs ds Q z hR q r e hQ;unfold Fy at e;split at e
 .next d r' n ns e1=>
  cases e;rcases q with q|⟨q,_⟩
  .have hp:=Lc r e1;have r0:=r;simp only[RDs]at r;obtain⟨x,xs',rfl,r1,r2⟩:=r;exact⟨a,x,xs',n,ns,rfl,q,hp,hQ H _ .refl hR (HH ns r2 r1)⟩
  .cases q
 .cases e
end L2
namespace Pl
open PySem L2 Bd
abbrev Pc:=Nat×Int×Int
def last:List Pc->Nat->Int->Int
 |[],_,v=>v
 |p::r,k,v=>last r k (if p.1=k then p.2.2 else v)
def dn:List Pc->Nat->Int
 |[],_=>0
 |p::r,k=>(if p.1=k then p.2.2-p.2.1 else 0)+dn r k
theorem K8:∀(ps:List Pc) (es:List Int) (k:Nat),(EJ es ps)[k]?=(es[k]?).map (last ps k)
 |[],es,k=>by
  show es[k]?=(es[k]?).map id;rw[Option.map_id_fun];rfl
 |p::r,es,k=>by
  rw[EJ,K8 r,List.getElem?_set];by_cases h:p.1=k
  .subst h;by_cases hk:p.1<es.length
   .simp[hk,last]
   .simp[hk]
  .simp only[h,if_false,last]
def ends_map{n:Nat}(ps:List Pc):EJ (List.replicate n 0) ps=(List.range n).map λk=>last ps k 0:=by
 refine ext_getElem? λi=>?_;rw[K8];by_cases hi:i<n
 .simp[hi]
 .simp[hi]
structure Ok(n:Nat)(c:Int)(ps:List Pc):Prop where
 ch:ps.Pairwise λp q=>p.2.2<=q.2.1
 ea:∀p∈ps,p.1<n/\c<=p.2.1/\p.2.1<p.2.2
section
variable{n:Nat}{c:Int}{l:Nat->Int}{ps:List Pc}
abbrev E(ps:List Pc)(k:Nat):Int:=last ps k 0
end
end Pl
namespace S7
abbrev sl(f:Nat->Nat)(S:List Nat):Nat:=(S.map f).sum
def LB(f:Nat->Nat)(A B:List Nat):sl f (A++B)=sl f A+sl f B:=by simp[sl,List.sum_append]
theorem O6{f g:Nat->Nat}:∀{S:List Nat},(∀i∈S,f i<=g i)->sl f S<=sl g S
 |[],_=>le_refl _
 |x::r,h=>by
  have h1:=h x (by simp);have ih:=O6 (S:=r) λi hi=>h i (by simp[hi]);simp only[sl,map_cons,sum_cons]at ih ⊢;omega
def Ib{f g:Nat->Nat}{S:List Nat}(h:∀i∈S,f i=g i):sl f S=sl g S:=by
 unfold sl;rw[map_congr_left h]
theorem JL{f:Nat->Nat}:∀{S:List Nat},sl f S=0->∀i∈S,f i=0
 |[],_,_,h=>by cases h
 |x::r,e,i,h=>by
  simp only[sl,map_cons,sum_cons]at e;rcases mem_cons.mp h with rfl|h
  .omega
  .exact JL (S:=r) (by simp only[sl];omega) i h
theorem GZ{f:Nat->Nat}:∀{S:List Nat},0<sl f S->∃i∈S,0<f i
 |[],h=>by simp[sl]at h
 |x::r,h=>by
  by_cases q:0<f x
  .exact⟨x,by simp,q⟩
  .simp only[sl,map_cons,sum_cons]at h;obtain⟨i,hi,z⟩:=GZ (S:=r) (f:=f) (by simp only[sl];omega);exact⟨i,by simp[hi],z⟩
theorem Fj(f:Nat->Nat){y:Nat}:∀{S:List Nat},y∈S->sl f S=f y+sl f (S.erase y)
 |x::r,h=>by
  by_cases q:x=y
  .subst q;simp[sl]
  .have hr:y∈r:=by
    rcases mem_cons.mp h with e|h
    .exact absurd e.symm q
    .exact h
   have ih:=Fj f hr;rw[List.erase_cons_tail (by simpa using q)];simp only[sl,map_cons,sum_cons]at ih ⊢;omega
def P7{f g:Nat->Nat}{k:Nat}(hk:0<f k)(hg:∀j,g j=if j=k then f j-1 else f j){S:List Nat}(nd:S.Nodup)(h:k∈S):sl g S+1=sl f S:=by
 rw[Fj f h,Fj g h];have:sl g (S.erase k)=sl f (S.erase k):=Ib λi hi=>by
  have hn:i≠k:=λe=>by subst e;exact(List.Nodup.not_mem_erase nd) hi
  rw[hg,if_neg hn]
 rw[this,hg k,if_pos rfl];omega
theorem Ir:∀{l L:List Nat},l.Nodup->(∀x∈l,x∈L)->l.length<=L.length
 |[],_,_,_=>by simp
 |x::r,L,nd,h=>by
  have hx:=h x (by simp);obtain⟨n1,n2⟩:=nodup_cons.mp nd;have ih:=Ir (L:=L.erase x) n2 λy hy=>(List.mem_erase_of_ne λe=>by subst e;exact n1 hy).mpr (h y (by simp[hy]));have e:=List.length_erase_of_mem hx;have:0<L.length:=List.length_pos_of_mem hx;simp only[length_cons];omega
variable(n:Nat)(ln cm:Nat->Nat)
structure Hist(G:Nat->Nat->Nat)(t:Nat):Prop where
 g0:∀j,G 0 j=ln j
 st:∀τ,τ<t->(∀j,j<n->cm j<=τ->G τ j=0)/\(∀j,G (τ+1) j=G τ j)∨∃k,k<n/\cm k<=τ/\0<G τ k/\(∀j,j<n->cm j<=τ->0<G τ j->G τ k<G τ j∨G τ k=G τ j/\k<=j)/\∀j,G (τ+1) j=if j=k then G τ j-1 else G τ j
def vr(S:List Nat):Nat->Nat
 |0=>sl ln (S.filter λi=>cm i==0)
 |τ+1=>(vr S τ-1)+sl ln (S.filter λi=>cm i==τ+1)
variable{n ln cm}
theorem Hist.full{G:Nat->Nat->Nat}{t:Nat}(H:Hist n ln cm G t):∀τ,τ<=t->∀j,τ<=cm j->G τ j=ln j
 |0,_,j,_=>H.g0 j
 |τ+1,h,j,hj=>by
  have ih:=H.full τ (by omega) j (by omega);rcases H.st τ (by omega)with⟨_,e⟩|⟨k,_,hk,_,_,e⟩
  .rw[e,ih]
  .rw[e,if_neg (λz=>by subst z;omega),ih]
def step{G:Nat->Nat->Nat}{t τ:Nat}(H:Hist n ln cm G t)(ht:τ<t){Y:List Nat}(nd:Y.Nodup)(hy:∀y∈Y,y<n/\cm y<=τ){V:Nat}(hV:sl (G τ) Y<=V):
 ∃Z:List Nat,Z.Nodup/\(∀y∈Z,y<n/\cm y<=τ)/\Z.length=Y.length/\sl (G (τ+1)) Z<=V-1:=by
 rcases H.st τ ht with⟨z,e⟩|⟨k,kn,hk,k0,kl,e⟩
 .refine⟨Y,nd,hy,rfl,?_⟩;have:sl (G (τ+1)) Y=sl (λ_=>0) Y:=Ib λi hi=>by rw[e];exact z i (hy i hi).1 (hy i hi).2
  rw[this];have:∀L:List Nat,sl (λ_=>0) L=0:=λL=>by induction L with
   |nil=>rfl
   |cons x r ih=>simpa [sl]using ih
  rw[this];omega
 .by_cases h0:sl (G τ) Y=0
  .refine⟨Y,nd,hy,rfl,?_⟩;have:sl (G (τ+1)) Y<=sl (G τ) Y:=O6 λi _=>by rw[e];split<;>omega
   omega
  .by_cases ky:k∈Y
   .have:=P7 k0 e nd ky;exact⟨Y,nd,hy,rfl,by omega⟩
   .obtain⟨y,yY,y0⟩:=GZ (f:=G τ) (S:=Y) (by omega);have h1:G τ k<=G τ y:=by have:=kl y (hy y yY).1 (hy y yY).2 y0;omega
    have h2:=Fj (G τ) yY;refine⟨k::Y.erase y,nodup_cons.mpr ⟨λh=>ky (List.mem_of_mem_erase h),nd.erase y⟩,λx hx=>?_,?_,?_⟩
    .rcases mem_cons.mp hx with rfl|h
     .exact⟨kn,hk⟩
     .exact hy x (List.mem_of_mem_erase h)
    .have:=List.length_erase_of_mem yY;have:0<Y.length:=List.length_pos_of_mem yY;simp only[length_cons];omega
    .have h3:sl (G (τ+1)) (Y.erase y)=sl (G τ) (Y.erase y):=Ib λi hi=>by rw[e,if_neg (λz=>by subst z;exact ky (List.mem_of_mem_erase hi))]
     show G (τ+1) k+sl (G (τ+1)) (Y.erase y)<=V-1;rw[h3,e,if_pos rfl];omega
def Vj(S:List Nat)(τ:Nat):(S.filter λi=>decide (cm i<=τ+1)).length=(S.filter λi=>decide (cm i<=τ)).length+(S.filter λi=>cm i==τ+1).length:=by
 induction S with
 |nil=>rfl
 |cons x r ih=>
  rw[filter_cons,filter_cons,filter_cons];by_cases h1:cm x<=τ
  .have h3:(cm x==τ+1)=false:=by simpa using (by omega:¬ cm x=τ+1)
   rw[decide_eq_true h1,decide_eq_true (by omega:cm x<=τ+1),h3];simp only[if_true,Bool.false_eq_true,if_false,length_cons];omega
  .by_cases h3:cm x=τ+1
   .rw[decide_eq_false h1,decide_eq_true (by omega:cm x<=τ+1),(by simpa using h3:(cm x==τ+1)=true)];simp only[if_true,Bool.false_eq_true,if_false,length_cons];omega
   .rw[decide_eq_false h1,decide_eq_false (by omega:¬ cm x<=τ+1),(by simpa using h3:(cm x==τ+1)=false)];simp only[Bool.false_eq_true,if_false];omega
def fc{p:Nat->Prop}[DecidablePred p]{S:List Nat}{c:Nat}(h:∀i,p i↔cm i=c):(S.filter λi=>decide (p i))=S.filter λi=>cm i==c:=List.filter_congr λi _=>by
 by_cases q:cm i=c
 .rw[decide_eq_true ((h i).mpr q),q];simp
 .rw[decide_eq_false λz=>q ((h i).mp z)];simp[q]
theorem main{G:Nat->Nat->Nat}{t:Nat}(H:Hist n ln cm G t){S:List Nat}(nd:S.Nodup)(hS:∀i∈S,i<n):∀τ,τ<=t->∃Y:List Nat,Y.Nodup/\(∀y∈Y,y<n/\cm y<=τ)/\Y.length=(S.filter λi=>decide (cm i<=τ)).length/\sl (G τ) Y<=vr ln cm S τ
 |0,_=>by
  refine⟨S.filter λi=>decide (cm i<=0),nd.filter _,λy hy=>?_,rfl,?_⟩
  .have:=mem_filter.mp hy;exact⟨hS y this.1,by simpa using this.2⟩
  .have e:(S.filter λi=>decide (cm i<=0))=S.filter λi=>cm i==0:=fc λi=>by omega
   rw[e,vr];exact Nat.le_of_eq (Ib λi _=>H.g0 i)
 |τ+1,h=>by
  obtain⟨Y,n1,n2,n3,n4⟩:=main H nd hS τ (by omega);obtain⟨Z,z1,z2,z3,z4⟩:=step H (by omega) n1 n2 n4;refine⟨Z++S.filter λi=>cm i==τ+1,?_,λy hy=>?_,?_,?_⟩
  .rw[nodup_append];refine⟨z1,nd.filter _,λa ha b hb e=>?_⟩;have h1:=(z2 a ha).2;have h2:cm b=τ+1:=by simpa using (mem_filter.mp hb).2
   subst e;omega
  .rcases mem_append.mp hy with q|q
   .have:=z2 y q;exact⟨this.1,by omega⟩
   .have:=mem_filter.mp q;have h2:cm y=τ+1:=by simpa using this.2
    exact⟨hS y this.1,by omega⟩
  .rw[length_append,z3,n3,Vj]
  .rw[LB,vr];have:sl (G (τ+1)) (S.filter λi=>cm i==τ+1)=sl ln (S.filter λi=>cm i==τ+1):=Ib λi hi=>by
    have h2:cm i=τ+1:=by simpa using (mem_filter.mp hi).2
    exact H.full (τ+1) h i (by omega)
   omega
def WG(S:List Nat)(τ c:Nat)(hc:c<=τ):sl ln (S.filter λi=>decide (c<=cm i/\cm i<=τ+1))=sl ln (S.filter λi=>decide (c<=cm i/\cm i<=τ))+sl ln (S.filter λi=>cm i==τ+1):=by
 induction S with
 |nil=>rfl
 |cons x r ih=>
  rw[filter_cons,filter_cons,filter_cons];by_cases h3:cm x=τ+1
  .rw[decide_eq_false (by omega:¬ (c<=cm x/\cm x<=τ)),decide_eq_true (by omega:c<=cm x/\cm x<=τ+1),(by simpa using h3:(cm x==τ+1)=true)];simp only[if_true,Bool.false_eq_true,if_false,sl,map_cons,sum_cons]at ih ⊢;omega
  .have h4:(cm x==τ+1)=false:=by simpa using h3
   by_cases h1:c<=cm x/\cm x<=τ
   .rw[h4,decide_eq_true h1,decide_eq_true (by omega:c<=cm x/\cm x<=τ+1)];simp only[if_true,Bool.false_eq_true,if_false,sl,map_cons,sum_cons]at ih ⊢;omega
   .rw[h4,decide_eq_false h1,decide_eq_false (by omega:¬ (c<=cm x/\cm x<=τ+1))];simp only[Bool.false_eq_true,if_false];exact ih
theorem Ym(S:List Nat):∀τ,vr ln cm S τ=0∨∃j∈S,cm j<=τ/\vr ln cm S τ+τ<=sl ln (S.filter λi=>decide (cm j<=cm i/\cm i<=τ))+cm j
 |0=>by
  by_cases h:vr ln cm S 0=0
  .exact .inl h
  .obtain⟨i,hi,_⟩:=GZ (f:=ln) (S:=S.filter λi=>cm i==0) (by rw[vr]at h;omega);obtain⟨h1,h2⟩:=mem_filter.mp hi;have h2:cm i=0:=by simpa using h2
   refine .inr ⟨i,h1,by omega,?_⟩;have e:(S.filter λx=>decide (cm i<=cm x/\cm x<=0))=S.filter λx=>cm x==0:=fc λx=>by omega
   rw[e,vr];omega
 |τ+1=>by
  by_cases h:vr ln cm S (τ+1)=0
  .exact .inl h
  .refine .inr ?_;rcases Ym S τ with z|⟨j,hj,hc,hb⟩
   .have e:vr ln cm S (τ+1)=sl ln (S.filter λi=>cm i==τ+1):=by rw[vr,z];omega
    obtain⟨i,hi,_⟩:=GZ (f:=ln) (S:=S.filter λi=>cm i==τ+1) (by omega);obtain⟨h1,h2⟩:=mem_filter.mp hi;have h2:cm i=τ+1:=by simpa using h2
    refine⟨i,h1,by omega,?_⟩;have e2:(S.filter λx=>decide (cm i<=cm x/\cm x<=τ+1))=S.filter λx=>cm x==τ+1:=fc λx=>by omega
    rw[e2,e];omega
   .by_cases v0:vr ln cm S τ=0
    .have e:vr ln cm S (τ+1)=sl ln (S.filter λi=>cm i==τ+1):=by rw[vr,v0];omega
     obtain⟨i,hi,_⟩:=GZ (f:=ln) (S:=S.filter λi=>cm i==τ+1) (by omega);obtain⟨h1,h2⟩:=mem_filter.mp hi;have h2:cm i=τ+1:=by simpa using h2
     refine⟨i,h1,by omega,?_⟩;have e2:(S.filter λx=>decide (cm i<=cm x/\cm x<=τ+1))=S.filter λx=>cm x==τ+1:=fc λx=>by omega
     rw[e2,e];omega
    .refine⟨j,hj,by omega,?_⟩;rw[WG S τ (cm j) hc,vr];omega
def Fit(ln cm:Nat->Nat)(S:List Nat)(t:Nat):Prop:=∀j∈S,sl ln (S.filter λi=>decide (cm j<=cm i))+cm j<=t
def Tr{S:List Nat}{t:Nat}(h:Fit ln cm S t):vr ln cm S t=0:=by
 rcases Ym (ln:=ln) (cm:=cm) S t with z|⟨j,hj,_,hb⟩
 .exact z
 .have h1:=h j hj;have:∀L:List Nat,sl ln (L.filter λi=>decide (cm j<=cm i/\cm i<=t))<=sl ln (L.filter λi=>decide (cm j<=cm i)):=λL=>by
   induction L with
   |nil=>exact le_refl _
   |cons x r ih=>
    simp only[filter_cons];by_cases h2:cm j<=cm x
    .rw[decide_eq_true h2];by_cases h3:cm x<=t
     .rw[decide_eq_true ⟨h2,h3⟩];simp only[if_true,sl,map_cons,sum_cons]at ih ⊢;omega
     .rw[decide_eq_false (λz=>h3 z.2)];simp only[if_true,Bool.false_eq_true,if_false,sl,map_cons,sum_cons]at ih ⊢;omega
    .rw[decide_eq_false h2,decide_eq_false (λz=>h2 z.1)];simpa using ih
  have:=this S;omega
def Vi{G:Nat->Nat->Nat}{t τ:Nat}(H:Hist n ln cm G t)(ht:τ<=t){S:List Nat}(nd:S.Nodup)(hS:∀i∈S,i<n)(l1:∀i∈S,1<=ln i)(F:Fit ln cm S τ):S.length<=((List.range n).filter λj=>decide (cm j<=τ/\G τ j=0)).length:=by
 obtain⟨Y,n1,n2,n3,n4⟩:=main H nd hS τ ht;rw[Tr F]at n4;have z:=JL (f:=G τ) (S:=Y) (by omega);have e:(S.filter λi=>decide (cm i<=τ))=S:=List.filter_eq_self.mpr λi hi=>by
  have:=F i hi;simp only[decide_eq_true_eq];omega
 rw[e]at n3;rw[<- n3];exact Ir n1 λy hy=>by simp[(n2 y hy).1,(n2 y hy).2,z y hy]
end S7
namespace L2
open PySem PySem.W PyProof.Rows
def feE{K:PySem.W.Frag}{e:Df}{n:Str}{s:Stmt}(h:Ea.Fe K n s)(hn:e.x=n:=by rfl)(hs:e.st=s:=by rfl):Fe K e:=by subst hn;subst hs;exact h
def flE{K:PySem.W.Frag}{e:Df}{n:Str}{s:Stmt}{p:Addr}(h:Ea.Fl K n s p)(hn:e.x=n:=by rfl)(hs:e.st=s:=by rfl):Fla K e p:=by subst hn;subst hs;exact h
def zsE{K:PySem.W.Frag}(h:Ea.Zs K):Zs K:=h
end L2
namespace T47
open PySem L2
abbrev Hk:Stmt:=top 5
def LJ:FnScope ["thing"] ["thing"] (A9 Hk):=An (by kernel_rfl)
@[reducible] def Mr:MS:=(AR (D0 (Be .int (A0 0)) (F6 (Be .bool (A0 0)))))
def Cv:FD:=mkF 1 1 Mr
abbrev Ds:Df:=⟨"is_number",Hk,["thing"],1,Cv⟩
abbrev GO:Stmt:=top 6
def JQ:FnScope ["many","thing"] ["many","thing"] (A9 GO):=An (by kernel_rfl)
@[reducible] def Ka:MS:=(AR (D0 (Be .tuple (A0 1)) (mOp gEq (mCB (f1 true Ay) (A2 (A0 1) A5)) (A0 0))))
def BZ:FD:=mkF 2 2 Ka
abbrev CL:Df:=⟨"is_tuple_of",GO,["many","thing"],1,BZ⟩
abbrev GJ:Stmt:=top 8
def JM:FnScope ["works","coming"] ["works"] (A9 GJ):=An (by kernel_rfl)
@[reducible] def KU:MS:=(AD (AQ 1 (mOp gIx (mOp gIx (A0 0) (mC (.int 0))) (mC (.int 1))))
 (AD (Aj (B2 (BB Jb (Ac 1 [1] (Ap (A0 0)) (AB 0) BE (mOp gEq (mOp gIx (A0 0) (mC (.int 1))) (A0 1)))))
  (AR (A0 1))
  AY)
 (AR (mC .non))))
def D4:FD:=mkF 1 2 KU
abbrev EB:Df:=⟨"same_coming",GJ,["works"],1,D4⟩
abbrev Ge:Stmt:=top 9
def KP:FnScope ["works","coming"] ["works"] (A9 Ge):=An (by kernel_rfl)
@[reducible] def Ln:MS:=(AD (AQ 1 (AA 0 D4 (A2 (A0 0) A5)))
 (AD (Aj (AF (Av false (A0 1)))
  Bc
  AY)
 (AR (A0 1))))
def DR:FD:=mkF 1 2 Ln
abbrev Er:Df:=⟨"one_coming",Ge,["works"],2,DR⟩
abbrev DE:Stmt:=top 10
def FR:FnScope ["works","word"] ["works","word"] (A9 DE):=An (by kernel_rfl)
@[reducible] def Fv:MS:=(Aj (B2 (BB Gs (Ac 1 [1] (Ap (A0 0)) (AB 0) BE (mOp gNe (mOp gIx (mOp gIx (A0 0) (mC (.int 2))) (mC (.int 0))) (A0 1)))))
 Bc
 AY)
def As:FD:=mkF 2 2 Fv
abbrev Bf:Df:=⟨"refuse_other_costs",DE,["works","word"],1,As⟩
abbrev Hh:Stmt:=top 11
def LG:FnScope ["work"] ["work"] (A9 Hh):=An (by kernel_rfl)
@[reducible] def Mo:MS:=(AR (mOp gIx (mOp gIx (A0 0) (mC (.int 2))) (DZ (mC (.int 1)))))
def Bg:FD:=mkF 1 1 Mo
abbrev Dq:Df:=⟨"weight_of",Hh,["work"],1,Bg⟩
abbrev Gc:Stmt:=top 12
def KO:FnScope ["works","weight"] ["works"] (A9 Gc):=An (by kernel_rfl)
@[reducible] def Lm:MS:=(AD (AQ 1 (AA 0 Bg (A2 (mOp gIx (A0 0) (mC (.int 0))) A5)))
 (AD (Aj (B2 (BB Gs (Ac 1 [1] (Ap (A0 0)) (AB 0) BE (mOp gNe (AA 0 Bg (A2 (A0 0) A5)) (A0 1)))))
  Bc
  AY)
 (AR (A0 1))))
def DQ:FD:=mkF 1 2 Lm
abbrev Ep:Df:=⟨"one_weight",Gc,["works"],2,DQ⟩
abbrev Ho:Stmt:=top 14
def LL:FnScope ["pieces","work","begin","end"] ["pieces","work","begin","end"] (A9 Ho):=An (by kernel_rfl)
@[reducible] def Mt:MS:=(Aj (Co (B2 (A0 0)) (Co (AF (mOp gEq (mOp gIx (mOp gIx (A0 0) (DZ (mC (.int 1)))) (mC (.int 0))) (A0 1))) (AF (mOp gEq (mOp gIx (mOp gIx (A0 0) (DZ (mC (.int 1)))) (mC (.int 2))) (A0 2)))))
 (Dk (A0 0) (DZ (mC (.int 1))) (Ad (A2 (A0 1) (A2 (mOp gIx (mOp gIx (A0 0) (DZ (mC (.int 1)))) (mC (.int 1))) (A2 (A0 3) A5)))))
 (BU (mMt Bj (A0 0) (A2 (Ad (A2 (A0 1) (A2 (A0 2) (A2 (A0 3) A5)))) A5))))
def Cw:FD:=mkF 4 4 Mt
abbrev FM:Df:=⟨"add_piece",Ho,["pieces","work","begin","end"],1,Cw⟩
abbrev GL:Stmt:=top 15
def JN:FnScope ["works","begins","rank","left","pieces","t","undone","work","stop"] ["works","begins","rank"] (A9 GL):=An (by kernel_rfl)
@[reducible] def KW:MS:=(AD (AQ 3 (B3 (Ac 1 [] (Ap (A0 0)) (AB 0) BE (mOp gIx (A0 0) (mC (.int 0))))))
 (AD (AQ 4 (B3 (CZ A5)))
 (AD (AQ 5 (mC (.int 0)))
 (AD (Ei (B2 (mCB (f1 false Iy) (A2 (A0 3) A5)))
  (AD (AQ 6 (B3 (Ac 1 [3] (DG (A2 (mCB (f1 true Ay) (A2 (A0 0) A5)) A5)) (AB 0) (AF (mOp gGt (mOp gIx (A0 1) (A0 0)) (mC (.int 0)))) (A0 0))))
 (AD (AQ 5 (mCB G8 (A2 (A0 5) (A2 (BB FI (Ac 1 [1] (CS (A0 6)) (AB 0) BE (mOp gIx (A0 1) (A0 0)))) A5))))
 (AD (AQ 7 (Ej (B3 (Ac 1 [1,5] (CS (A0 6)) (AB 0) (AF (mOp gLe (mOp gIx (A0 1) (A0 0)) (A0 2))) (A0 0))) [2,3] (Ad (A2 (DI (A0 1) (A2 (A0 0) (A2 (mOp gIx (A0 2) (A0 0)) A5))) (A2 (A0 0) A5)))))
 (AD (AQ 8 (BB FI (IL (B3 (CZ (A2 (mOp Aq (A0 5) (mOp gIx (A0 3) (A0 7))) A5))) (B3 (Ac 1 [1,5] (CS (A0 6)) (AB 0) (AF (mOp gGt (mOp gIx (A0 1) (A0 0)) (A0 2))) (mOp gIx (A0 1) (A0 0)))))))
 (AD (BU (CJ Cw (A2 (A0 4) (A2 (A0 7) (A2 (A0 5) (A2 (A0 8) A5))))))
 (AD (Fw (A0 3) (A0 7) (mOp BV (A0 8) (A0 5)) (λi j=>i-j))
 (AQ 5 (A0 8)))))))))
 (AR (mCB (f1 true C4) (A2 (A0 4) A5)))))))
def D5:FD:=mkF 3 9 KW
abbrev D1:Df:=⟨"ranked_plan",GL,["works","begins","rank"],4,D5⟩
abbrev GN:Stmt:=top 17
def JP:FnScope ["works","coming"] ["works"] (A9 GN):=An (by kernel_rfl)
@[reducible] def KZ:MS:=(AD (AQ 1 (AA 0 DR (A2 (A0 0) A5)))
 (AD (BU (AA 0 As (A2 (A0 0) (A2 (mC (.str "miss")) A5))))
 (AR (A0 1))))
def CM:FD:=mkF 1 2 KZ
abbrev D2:Df:=⟨"late_coming",GN,["works"],3,CM⟩
abbrev Ju:Stmt:=top 18
def OB:FnScope ["works"] ["works"] (A9 Ju):=An (by kernel_rfl)
@[reducible] def Q2:MS:=(AR (B3 (NV (A2 (mCB (f1 true Ay) (A2 (A0 0) A5)) A5) [0] (Ad (A2 (mOp gIx (mOp gIx (mOp gIx (A0 1) (A0 0)) (mC (.int 2))) (mC (.int 1))) (A2 (A0 0) A5))))))
def E8:FD:=mkF 1 1 Q2
abbrev E5:Df:=⟨"by_dues",Ju,["works"],4,E8⟩
abbrev GP:Stmt:=top 19
def JR:FnScope ["works"] ["works"] (A9 GP):=An (by kernel_rfl)
@[reducible] def Kb:MS:=(AR (BB Cd (Ac 1 [] (Ap (A0 0)) (AB 0) BE (AA 0 Bg (A2 (A0 0) A5)))))
def CN:FD:=mkF 1 1 Kb
abbrev D3:Df:=⟨"full_weight",GP,["works"],2,CN⟩
abbrev Jq:Stmt:=top 20
def O7:FnScope ["one","other"] ["one","other"] (A9 Jq):=An (by kernel_rfl)
@[reducible] def Py:MS:=(AR (IJ (Av false (A0 1)) (D0 (Av true (A0 0)) (mOp gLe (A0 0) (A0 1)))))
def Ci:FD:=mkF 2 2 Py
abbrev E4:Df:=⟨"no_more",Jq,["one","other"],1,Ci⟩
abbrev Gb:Stmt:=top 21
def KN:FnScope ["row","work","w","length","coming","word","due","weight","end"] ["row","work","w"] (A9 Gb):=An (by kernel_rfl)
@[reducible] def Ll:MS:=(AD (Gp (A0 1) (B9 3 (AJ (AB 3) (AJ (AB 4) (AJ (B9 3 (AJ (AB 5) (AJ (AB 6) (AJ (AB 7) BA)))) BA)))))
 (AD (Aj (mOr (AF (mOp gLt (A0 2) (A0 7))) (AF (Av false (mOp gIx (A0 0) (mOp BV (A0 2) (A0 7))))))
  (AR (mC .non))
  AY)
 (AD (AQ 8 (mOp Aq (mOp gIx (A0 0) (mOp BV (A0 2) (A0 7))) (A0 3)))
 (AR (mIf (AF (mOp gLe (A0 8) (A0 6))) (A0 8) (mC .non))))))
def Ch:FD:=mkF 3 9 Ll
abbrev DK:Df:=⟨"put_behind",Gb,["row","work","w"],1,Ch⟩
abbrev EF:Stmt:=top 22
def Ga:FnScope ["table"] ["table"] (A9 EF):=An (by kernel_rfl)
@[reducible] def Hg:MS:=(AR (BB Fz (Ac 2 [] (BO (Ap (mOp gIx (A0 0) (DZ (mC (.int 1)))))) (B9 2 (AJ (AB 0) (AJ (AB 1) BA))) (AF (Av true (A0 1))) (A0 0))))
def C3:FD:=mkF 1 1 Hg
abbrev Cp:Df:=⟨"greatest_weight",EF,["table"],1,C3⟩
abbrev F0:Stmt:=top 23
def I0:FnScope ["works","thing","path","many","k","row","w","entry"] ["works","thing","path"] (A9 F0):=An (by kernel_rfl)
@[reducible] def Iu:MS:=(AD (Aj (Bw (B2 (AA 0 BZ (A2 (mOp Aq (mCB (f1 true Ay) (A2 (A0 0) A5)) (mC (.int 1))) (A2 (A0 1) A5)))))
 Bc
 AY)
 (AD (AQ 3 (mOp Aq (AA 0 CN (A2 (A0 0) A5)) (mC (.int 1))))
 (Bp (BO (Ap (A0 1))) (B9 2 (AJ (AB 4) (AJ (AB 5) BA)))
  (AD (Aj (Bw (B2 (AA 0 BZ (A2 (A0 3) (A2 (A0 5) A5)))))
  Bc
  AY)
 (Bp (BO (Ap (A0 5))) (B9 2 (AJ (AB 6) (AJ (AB 7) BA)))
  (Aj (Co (AF (Av true (A0 7))) (Bw (B2 (AA 0 Cv (A2 (A0 7) A5)))))
  Bc
  AY))))))
def CT:FD:=mkF 3 8 Iu
abbrev DL:Df:=⟨"look_at_shape",F0,["works","thing","path"],3,CT⟩
abbrev GM:Stmt:=top 24
def JO:FnScope ["work","above","row","path","w","entry"] ["work","above","row","path"] (A9 GM):=An (by kernel_rfl)
@[reducible] def KY:MS:=(Bp (BO (Ap (A0 2))) (B9 2 (AJ (AB 4) (AJ (AB 5) BA)))
 (AD (Aj (Bw (B2 (AA 0 Ci (A2 (A0 5) (A2 (mOp gIx (A0 1) (A0 4)) A5)))))
 Bc
 AY)
 (Aj (Bw (B2 (AA 0 Ci (A2 (A0 5) (A2 (AA 0 Ch (A2 (A0 1) (A2 (A0 0) (A2 (A0 4) A5)))) A5)))))
  Bc
  AY)))
def D6:FD:=mkF 4 6 KY
abbrev EC:Df:=⟨"look_at_row",GM,["work","above","row","path"],2,D6⟩
abbrev Ef:Stmt:=top 25
def Hf:FnScope ["works","table","path","k","j"] ["works","table","path"] (A9 Ef):=An (by kernel_rfl)
@[reducible] def II:MS:=(AD (Aj (Bw (B2 (AA 0 Ci (A2 (mOp gIx (mOp gIx (A0 1) (mC (.int 0))) (mC (.int 0))) (A2 (AA 0 CM (A2 (A0 0) A5)) A5)))))
 Bc
 AY)
 (Bp (FZ (CS (AA 0 E8 (A2 (A0 0) A5)))) (B9 2 (AJ (AB 3) (AJ (AB 4) BA)))
  (BU (AA 0 D6 (A2 (mOp gIx (A0 0) (A0 4)) (A2 (mOp gIx (A0 1) (mOp BV (A0 3) (mC (.int 1)))) (A2 (mOp gIx (A0 1) (A0 3)) (A2 (mOp FA (A0 2) (Ad (A2 (A0 3) A5))) A5))))))))
def CG:FD:=mkF 3 5 II
abbrev D8:Df:=⟨"look_at_places",Ef,["works","table","path"],5,CG⟩
abbrev Ig:Stmt:=top 27
def Mi:FnScope ["above","work","row","w","kept","more"] ["above","work"] (A9 Ig):=An (by kernel_rfl)
@[reducible] def OT:MS:=(AD (AQ 2 (B3 (CZ A5)))
 (AD (Bp (BO (Ap (A0 0))) (B9 2 (AJ (AB 3) (AJ (AB 4) BA)))
  (AD (AQ 5 (AA 0 Ch (A2 (A0 0) (A2 (A0 1) (A2 (A0 3) A5)))))
 (BU (mMt Bj (A0 2) (A2 (mIf (B2 (AA 0 Ci (A2 (A0 4) (A2 (A0 5) A5)))) (A0 4) (A0 5)) A5)))))
 (AR (mCB (f1 true C4) (A2 (A0 2) A5)))))
def EN:FD:=mkF 2 6 OT
abbrev GB:Df:=⟨"next_row",Ig,["above","work"],2,EN⟩
abbrev Ie:Stmt:=top 28
def Mh:FnScope ["works","coming","rows","j"] ["works"] (A9 Ie):=An (by kernel_rfl)
@[reducible] def OS:MS:=(AD (AQ 1 (AA 0 CM (A2 (A0 0) A5)))
 (AD (AQ 2 (B3 (CZ (A2 (mOp Aq (Ad (A2 (A0 1) A5)) (HM (Ad (A2 (mC .non) A5)) (AA 0 CN (A2 (A0 0) A5)))) A5))))
 (AD (Bp (CS (AA 0 E8 (A2 (A0 0) A5))) (AB 3)
  (BU (mMt Bj (A0 2) (A2 (AA 0 EN (A2 (mOp gIx (A0 2) (DZ (mC (.int 1)))) (A2 (mOp gIx (A0 0) (A0 3)) A5))) A5))))
 (AR (mCB (f1 true C4) (A2 (A0 2) A5))))))
def DP:FD:=mkF 1 4 OS
abbrev GA:Df:=⟨"table_of",Ie,["works"],5,DP⟩
abbrev Jt:Stmt:=top 30
def OA:FnScope ["works","plan","ends","work","begin","end"] ["works","plan"] (A9 Jt):=An (by kernel_rfl)
@[reducible] def HR:MS:=(AD (AQ 2 (B3 (Ac 1 [] (Ap (A0 0)) (AB 0) BE (mC (.int 0)))))
 (AD (Bp (Ap (A0 1)) (B9 3 (AJ (AB 3) (AJ (AB 4) (AJ (AB 5) BA))))
  (Dk (A0 2) (A0 3) (A0 5)))
 (AR (mCB (f1 true C4) (A2 (A0 2) A5)))))
def F_ends_of:FD:=mkF 2 6 HR
abbrev HA:Df:=⟨"ends_of",Jt,["works","plan"],1,F_ends_of⟩
abbrev LM:Stmt:=top 32
def P9:FnScope ["works","t"] ["works","t"] (A9 LM):=An (by kernel_rfl)
@[reducible] def SW:MS:=(AR (BB C4 (Ac 3 [1] (Ap (A0 0)) (B9 3 (AJ (AB 0) (AJ (AB 1) (AJ (AB 2) BA)))) BE (Ad (A2 (A0 0) (A2 (mC (.int 0)) (A2 (Ad (A2 (mC (.str "miss")) (A2 (mOp BV (A0 3) (A0 1)) (A2 (mC (.int 1)) A5)))) A5)))))))
def Dh:FD:=mkF 2 2 SW
abbrev Eo:Df:=⟨"turned",LM,["works","t"],1,Dh⟩
abbrev Gh:Stmt:=top 33
def KS:FnScope ["works"] ["works"] (A9 Gh):=An (by kernel_rfl)
@[reducible] def Lv:MS:=(AD (BU (AA 0 As (A2 (A0 0) (A2 (mC (.str "ends")) A5))))
 (AR (AA 0 DQ (A2 (A0 0) A5))))
def Cj:FD:=mkF 1 1 Lv
abbrev DN:Df:=⟨"end_weight",Gh,["works"],3,Cj⟩
abbrev Hj:Stmt:=top 34
def LI:FnScope ["works"] ["works"] (A9 Hj):=An (by kernel_rfl)
@[reducible] def Mq:MS:=(AD (BU (AA 0 Cj (A2 (A0 0) A5)))
 (AR (CJ D5 (A2 (A0 0) (A2 (B3 (Ac 1 [] (Ap (A0 0)) (AB 0) BE (mOp gIx (A0 0) (mC (.int 1))))) (A2 Iw A5))))))
def CP:FD:=mkF 1 1 Mq
abbrev Dr:Df:=⟨"left_plan",Hj,["works"],5,CP⟩
abbrev Gg:Stmt:=top 35
def KR:FnScope ["works","ends"] ["works"] (A9 Gg):=An (by kernel_rfl)
@[reducible] def Lu:MS:=(AD (AQ 1 (B3 (DY (Ap (AA 0 F_ends_of (A2 (A0 0) (A2 (AA 0 CP (A2 (A0 0) A5)) A5)))))))
 (AR (BB C4 (Ac 1 [0] (CS (A0 1)) (AB 0) BE (Ad (A2 (A0 0) (A2 (AA 0 DP (A2 (AA 0 Dh (A2 (A0 1) (A2 (mOp BV (A0 0) (mC (.int 1))) A5))) A5)) A5)))))))
def DU:FD:=mkF 1 2 Lu
abbrev Et:Df:=⟨"ends_paper",Gg,["works"],6,DU⟩
abbrev D9:Stmt:=top 37
def FF:FnScope ["works","k","entry"] ["works","k","entry"] (A9 D9):=An (by kernel_rfl)
@[reducible] def FY:MS:=(AD (Aj (mOr (Bw (B2 (AA 0 BZ (A2 (mC (.int 2)) (A2 (A0 2) A5))))) (Bw (B2 (AA 0 Cv (A2 (mOp gIx (A0 2) (mC (.int 0))) A5)))))
 Bc
 AY)
 (BU (AA 0 CT (A2 (AA 0 Dh (A2 (A0 0) (A2 (mOp BV (mOp gIx (A0 2) (mC (.int 0))) (mC (.int 1))) A5))) (A2 (mOp gIx (A0 2) (mC (.int 1))) (A2 (Ad (A2 (A0 1) (A2 (mC (.int 1)) A5))) A5))))))
def BW:FD:=mkF 3 3 FY
abbrev C5:Df:=⟨"look_at_entry_shape",D9,["works","k","entry"],4,BW⟩
abbrev F1:Stmt:=top 38
def IA:FnScope ["works","k","entry","moment","table"] ["works","k","entry"] (A9 F1):=An (by kernel_rfl)
@[reducible] def Iv:MS:=(AD (Gp (A0 2) (B9 2 (AJ (AB 3) (AJ (AB 4) BA))))
 (AD (BU (AA 0 CG (A2 (AA 0 Dh (A2 (A0 0) (A2 (mOp BV (A0 3) (mC (.int 1))) A5))) (A2 (A0 4) (A2 (Ad (A2 (A0 1) (A2 (mC (.int 1)) A5))) A5)))))
 (Aj (AF (mOp gGt (AA 0 C3 (A2 (A0 4) A5)) (A0 1)))
  Bc
  AY)))
def CU:FD:=mkF 3 5 Iv
abbrev DM:Df:=⟨"look_at_entry",F1,["works","k","entry"],6,CU⟩
abbrev Hi:Stmt:=top 39
def LH:FnScope ["works","thing","weight","k","entry"] ["works","thing"] (A9 Hi):=An (by kernel_rfl)
@[reducible] def Mp:MS:=(AD (AQ 2 (AA 0 Cj (A2 (A0 0) A5)))
 (AD (Aj (Bw (B2 (AA 0 BZ (A2 (mCB (f1 true Ay) (A2 (A0 0) A5)) (A2 (A0 1) A5)))))
  Bc
  AY)
 (AD (Bp (BO (Ap (A0 1))) (B9 2 (AJ (AB 3) (AJ (AB 4) BA)))
  (BU (AA 0 BW (A2 (A0 0) (A2 (A0 3) (A2 (A0 4) A5))))))
 (AD (Bp (BO (Ap (A0 1))) (B9 2 (AJ (AB 3) (AJ (AB 4) BA)))
  (BU (AA 0 CU (A2 (A0 0) (A2 (A0 3) (A2 (A0 4) A5))))))
 (AR (mOp El (A0 2) (BB Cd (Ac 2 [] (Ap (A0 1)) (B9 2 (AJ (AB 0) (AJ (AB 1) BA))) BE (A0 0)))))))))
def Du:FD:=mkF 2 5 Mp
abbrev FK:Df:=⟨"lets_ends",Hi,["works","thing"],7,Du⟩
abbrev LN:Stmt:=top 41
def PB:FnScope ["_law_script"] ["_law_script"] (A9 LN):=An (by kernel_rfl)
@[reducible] def SX:MS:=(AR (Kl [((mC (.str "cells")),(B3 (Go (Lx (A0 0) HN (Kk (mC (.int 63))))))),((mC (.str "at")),(mC (.int 0))),((mC (.str "rest")),(mC (.int 0))),((mC (.str "count")),(mC (.int 0)))]))
def GG:FD:=mkF 1 1 SX
abbrev IN:Df:=⟨"_law_source",LN,["_law_script"],1,GG⟩
abbrev PJ:Stmt:=top 42
def Tx:FnScope ["_law_source_here","_law_many","_law_found","_law_cells","_law_cell","_law_mixed"] ["_law_source_here","_law_many"] (A9 PJ):=An (by kernel_rfl)
@[reducible] def YC:MS:=(AD (F7 (A0 0) (mC (.str "count")) (mOp Aq (mOp CD (A0 0) (mC (.str "count"))) (mC (.int 1))))
 (AD (Aj (AF (mOp gGt (mOp CD (A0 0) (mC (.str "rest"))) (mC (.int 0))))
  (AD (AQ 2 (mOp G5 (mOp CD (A0 0) (mC (.str "rest"))) (A0 1)))
 (AD (F7 (A0 0) (mC (.str "rest")) (mOp J8 (mOp CD (A0 0) (mC (.str "rest"))) (A0 1)))
 (AR (A0 2))))
  AY)
 (AD (AQ 3 (mOp CD (A0 0) (mC (.str "cells"))))
 (AD (AQ 4 (mIf (AF (DH true (A0 3) (CZ A5))) (mOp gIx (A0 3) (mOp G5 (mOp CD (A0 0) (mC (.str "at"))) (mCB (f1 true Ay) (A2 (A0 3) A5)))) (mC (.int 11))))
 (AD (F7 (A0 0) (mC (.str "at")) (mOp Aq (mOp CD (A0 0) (mC (.str "at"))) (mC (.int 1))))
 (AD (Aj (Co (AF (mOp gGe (A0 4) (mOp Sk (mC (.int 10)) (mC (.int 18))))) (AF (mOp gLe (mOp CD (A0 0) (mC (.str "at"))) (mCB (f1 true Ay) (A2 (A0 3) A5)))))
  (AD (F7 (A0 0) (mC (.str "rest")) (mOp J8 (A0 4) (A0 1)))
 (AR (mOp G5 (A0 4) (A0 1))))
  AY)
 (AD (AQ 5 (mOp Aq (mOp G5 (A0 4) (mC (.int 1073741827))) (mOp El (mC (.int 611953)) (mOp CD (A0 0) (mC (.str "count"))))))
 (AD (AQ 5 (mOp G5 (mOp Aq (mOp Aq (mOp El (A0 5) (A0 5)) (mOp El (mC (.int 3)) (mOp CD (A0 0) (mC (.str "count"))))) (mC (.int 7))) (mC (.int 2147483543))))
 (AD (AQ 5 (mOp G5 (mOp Aq (mOp Aq (mOp El (A0 5) (A0 5)) (mOp El (mC (.int 69069)) (mOp CD (A0 0) (mC (.str "count"))))) (mC (.int 1))) (mC (.int 2147483497))))
 (AR (mOp G5 (mOp J8 (A0 5) (mC (.int 256))) (A0 1))))))))))))
def BR:FD:=mkF 2 6 YC
abbrev MH:Df:=⟨"_law_pick",PJ,["_law_source_here","_law_many"],1,BR⟩
abbrev Hm:Stmt:=top 43
def LK:FnScope ["_law_source_here","_law_most","_law_many","_law_longest","_law_latest","_law_weight","_law_works","_law_k","_law_way","_law_work"] ["_law_source_here","_law_most"] (A9 Hm):=An (by kernel_rfl)
@[reducible] def Ms:MS:=(AD (AQ 2 (mOp Aq (mC (.int 1)) (AA 2 BR (A2 (A0 0) (A2 (A0 1) A5)))))
 (AD (AQ 3 (IK (CZ (A2 (mC (.int 20)) (A2 (mC (.int 6)) (A2 (mC (.int 2)) A5)))) (AA 2 BR (A2 (A0 0) (A2 (mC (.int 3)) A5)))))
 (AD (AQ 4 (IK (CZ (A2 (mC (.int 61)) (A2 (mC (.int 12)) (A2 (mC (.int 1)) A5)))) (AA 2 BR (A2 (A0 0) (A2 (mC (.int 3)) A5)))))
 (AD (AQ 5 (AA 2 BR (A2 (A0 0) (A2 (mC (.int 10)) A5))))
 (AD (AQ 6 (B3 (CZ A5)))
 (AD (Bp (DG (A2 (A0 2) A5)) (AB 7)
  (AD (AQ 8 (AA 2 BR (A2 (A0 0) (A2 (mC (.int 5)) A5))))
 (AD (AQ 9 (Ad (A2 (mOp Aq (mC (.int 1)) (AA 2 BR (A2 (A0 0) (A2 (A0 3) A5)))) (A2 (AA 2 BR (A2 (A0 0) (A2 (A0 4) A5))) (A2 (Ad (A2 (mC (.str "ends")) (A2 (A0 5) A5))) A5)))))
 (AD (Aj (Co (AF (mOp gEq (A0 8) (mC (.int 0)))) (AF (mOp gGt (A0 7) (mC (.int 0)))))
  (AQ 9 (mOp gIx (A0 6) (AA 2 BR (A2 (A0 0) (A2 (A0 7) A5)))))
  AY)
 (BU (mMt Bj (A0 6) (A2 (A0 9) A5)))))))
 (AR (mCB (f1 true C4) (A2 (A0 6) A5)))))))))
def Dv:FD:=mkF 2 10 Ms
abbrev FL:Df:=⟨"_law_end_works",Hm,["_law_source_here","_law_most"],2,Dv⟩
abbrev JS:Stmt:=top 44
def RX:FnScope ["_law_one","_law_due"] ["_law_one","_law_due"] (A9 JS):=An (by kernel_rfl)
@[reducible] def VW(Di:FD):MS:=(AD (Aj (AF (Av false (A0 1)))
 (AR (Av false (A0 0)))
 AY)
 (AD (Aj (B2 (Be .tuple (A0 1)))
  (AD (Aj (mOr (Bw (B2 (Be .tuple (A0 0)))) (AF (mOp gNe (mCB (f1 true Ay) (A2 (A0 0) A5)) (mCB (f1 true Ay) (A2 (A0 1) A5)))))
  (AR (mC (.bl false)))
  AY)
 (AR (BB Jb (Ac 2 [] (JZ (Ap (A0 0)) (Ap (A0 1))) (B9 2 (AJ (AB 0) (AJ (AB 1) BA))) BE (AA 0 Di (A2 (A0 0) (A2 (A0 1) A5)))))))
  AY)
 (AD (Aj (B2 (Be .str (A0 1)))
  (AR (D0 (Be .str (A0 0)) (mOp gEq (A0 0) (A0 1))))
  AY)
 (AR (D0 (Be .int (A0 0)) (D0 (F6 (Be .bool (A0 0))) (mOp gEq (A0 0) (A0 1))))))))
def Cm:Nat->FD
 |0=>λ_ _=>none
 |n+1=>mkF 2 2 (VW (Cm n))
abbrev Di:FD:=Cm 4
abbrev Jh:Df:=⟨"_law_alike",JS,["_law_one","_law_due"],4,Di⟩
abbrev Ih:Stmt:=top 45
def Mj:FnScope ["_law_works"] ["_law_works"] (A9 Ih):=An (by kernel_rfl)
@[reducible] def OU:MS:=(AR (B3 (Ac 1 [] (EA (D7 (EA (Ac 1 [0] (DG (A2 (mCB (f1 true Ay) (A2 (A0 0) A5)) A5)) (AB 0) BE (Ad (A2 (mOp gIx (mOp gIx (mOp gIx (A0 1) (A0 0)) (mC (.int 2))) (mC (.int 1))) (A2 (A0 0) A5))))))) (AB 0) BE (mOp gIx (A0 0) (mC (.int 1))))))
def EO:FD:=mkF 1 1 OU
abbrev GC:Df:=⟨"_law_by_dues",Ih,["_law_works"],1,EO⟩
abbrev Js:Stmt:=top 46
def O9:FnScope ["_law_above","_law_w","_law_work","_law_length","_law_coming","_law_cost","_law_entry"] ["_law_above","_law_w","_law_work"] (A9 Js):=An (by kernel_rfl)
@[reducible] def Q0:MS:=(AD (Gp (A0 2) (B9 3 (AJ (AB 3) (AJ (AB 4) (AJ (AB 5) BA)))))
 (AD (AQ 6 (mOp gIx (A0 0) (A0 1)))
 (AD (Aj (Co (AF (mOp gGe (A0 1) (mOp gIx (A0 5) (mC (.int 2))))) (Co (AF (Av true (mOp gIx (A0 0) (mOp BV (A0 1) (mOp gIx (A0 5) (mC (.int 2))))))) (AF (mOp gLe (mOp Aq (mOp gIx (A0 0) (mOp BV (A0 1) (mOp gIx (A0 5) (mC (.int 2))))) (A0 3)) (mOp gIx (A0 5) (mC (.int 1)))))))
  (Aj (mOr (AF (Av false (A0 6))) (AF (mOp gLt (mOp Aq (mOp gIx (A0 0) (mOp BV (A0 1) (mOp gIx (A0 5) (mC (.int 2))))) (A0 3)) (A0 6))))
  (AR (mOp Aq (mOp gIx (A0 0) (mOp BV (A0 1) (mOp gIx (A0 5) (mC (.int 2))))) (A0 3)))
  AY)
  AY)
 (AR (A0 6)))))
def FE:FD:=mkF 3 7 Q0
abbrev Gz:Df:=⟨"_law_highest",Js,["_law_above","_law_w","_law_work"],1,FE⟩
abbrev Ii:Stmt:=top 47
def Mk:FnScope ["_law_thing"] ["_law_thing"] (A9 Ii):=An (by kernel_rfl)
@[reducible] def OV:MS:=(AR (IJ (Av false (A0 0)) (D0 (Be .int (A0 0)) (F6 (Be .bool (A0 0))))))
def DT:FD:=mkF 1 1 OV
abbrev EK:Df:=⟨"_law_is_entry",Ii,["_law_thing"],1,DT⟩
abbrev NC:Stmt:=top 48
def RW:FnScope ["_law_works","_law_thing","_law_path","_law_full","_law_k","_law_row","_law_w","_law_entry"] ["_law_works","_law_thing","_law_path"] (A9 NC):=An (by kernel_rfl)
@[reducible] def VU:MS:=(AD (AQ 3 (BB Cd (Ac 1 [] (Ap (A0 0)) (AB 0) BE (mOp gIx (mOp gIx (A0 0) (mC (.int 2))) (mC (.int 2))))))
 (AD (Aj (mOr (Bw (B2 (Be .tuple (A0 1)))) (AF (mOp gNe (mCB (f1 true Ay) (A2 (A0 1) A5)) (mOp Aq (mCB (f1 true Ay) (A2 (A0 0) A5)) (mC (.int 1))))))
  (AR (A0 2))
  AY)
 (AD (Bp (BO (Ap (A0 1))) (B9 2 (AJ (AB 4) (AJ (AB 5) BA)))
  (AD (Aj (mOr (Bw (B2 (Be .tuple (A0 5)))) (AF (mOp gNe (mCB (f1 true Ay) (A2 (A0 5) A5)) (mOp Aq (A0 3) (mC (.int 1))))))
  (AR (mOp FA (A0 2) (Ad (A2 (A0 4) A5))))
  AY)
 (Bp (BO (Ap (A0 5))) (B9 2 (AJ (AB 6) (AJ (AB 7) BA)))
  (Aj (Bw (B2 (AA 0 DT (A2 (A0 7) A5))))
  (AR (mOp FA (A0 2) (Ad (A2 (A0 4) (A2 (A0 6) A5)))))
  AY))))
 (AR (mC .non)))))
def He:FD:=mkF 3 8 VU
abbrev Jg:Df:=⟨"_law_shape",NC,["_law_works","_law_thing","_law_path"],2,He⟩
abbrev LO:Stmt:=top 49
def PD:FnScope ["_law_works","_law_table","_law_path","_law_k","_law_number","_law_w","_law_entry","_law_above"] ["_law_works","_law_table","_law_path"] (A9 LO):=An (by kernel_rfl)
@[reducible] def SY:MS:=(AD (Aj (mOr (AF (Av false (mOp gIx (mOp gIx (A0 1) (mC (.int 0))) (mC (.int 0))))) (AF (mOp gGt (mOp gIx (mOp gIx (A0 1) (mC (.int 0))) (mC (.int 0))) (mOp gIx (mOp gIx (A0 0) (mC (.int 0))) (mC (.int 1))))))
 (AR (Ad (A2 (mOp FA (A0 2) (Ad (A2 (mC (.int 0)) (A2 (mC (.int 0)) A5)))) (A2 (mC (.str "begin")) A5))))
 AY)
 (AD (Bp (BO (CS (AA 0 EO (A2 (A0 0) A5)))) (B9 2 (AJ (AB 3) (AJ (AB 4) BA)))
  (Bp (BO (Ap (mOp gIx (A0 1) (mOp Aq (A0 3) (mC (.int 1)))))) (B9 2 (AJ (AB 5) (AJ (AB 6) BA)))
  (AD (AQ 7 (mOp gIx (mOp gIx (A0 1) (A0 3)) (A0 5)))
 (AD (Aj (Co (AF (Av true (A0 7))) (mOr (AF (Av false (A0 6))) (AF (mOp gGt (A0 6) (A0 7)))))
  (AR (Ad (A2 (mOp FA (A0 2) (Ad (A2 (mOp Aq (A0 3) (mC (.int 1))) (A2 (A0 5) A5)))) (A2 (mC (.str "kept")) A5))))
  AY)
 (AD (AQ 7 (AA 0 FE (A2 (mOp gIx (A0 1) (A0 3)) (A2 (A0 5) (A2 (mOp gIx (A0 0) (A0 4)) A5)))))
 (Aj (Co (AF (Av true (A0 7))) (mOr (AF (Av false (A0 6))) (AF (mOp gGt (A0 6) (A0 7)))))
  (AR (Ad (A2 (mOp FA (A0 2) (Ad (A2 (mOp Aq (A0 3) (mC (.int 1))) (A2 (A0 5) A5)))) (A2 (mC (.str "more")) A5))))
  AY))))))
 (AR (mC .non))))
def GH:FD:=mkF 3 8 SY
abbrev IP:Df:=⟨"_law_places",LO,["_law_works","_law_table","_law_path"],2,GH⟩
abbrev PK:Stmt:=top 50
def Tz:FnScope ["_law_table"] ["_law_table"] (A9 PK):=An (by kernel_rfl)
@[reducible] def YD:MS:=(AR (BB Fz (Ac 2 [] (BO (Ap (mOp gIx (A0 0) (DZ (mC (.int 1)))))) (B9 2 (AJ (AB 0) (AJ (AB 1) BA))) (AF (Av true (A0 1))) (A0 0))))
def Mg:FD:=mkF 1 1 YD
abbrev MJ:Df:=⟨"_law_last",PK,["_law_table"],1,Mg⟩
abbrev Jr:Stmt:=top 51
def O8:FnScope ["_law_works","_law_t"] ["_law_works","_law_t"] (A9 Jr):=An (by kernel_rfl)
@[reducible] def Pz:MS:=(AR (BB C4 (Ac 3 [1] (Ap (A0 0)) (B9 3 (AJ (AB 0) (AJ (AB 1) (AJ (AB 2) BA)))) BE (Ad (A2 (A0 0) (A2 (mC (.int 0)) (A2 (Ad (A2 (mC (.str "miss")) (A2 (mOp BV (A0 3) (A0 1)) (A2 (mC (.int 1)) A5)))) A5)))))))
def FC:FD:=mkF 2 2 Pz
abbrev Gy:Df:=⟨"_law_turned",Jr,["_law_works","_law_t"],1,FC⟩
abbrev Gf:Stmt:=top 52
def KQ:FnScope ["_law_works","_law_left","_law_ends","_law_day","_law_there","_law_k"] ["_law_works"] (A9 Gf):=An (by kernel_rfl)
@[reducible] def Lo:MS:=(AD (AQ 1 (B3 (Ac 1 [] (Ap (A0 0)) (AB 0) BE (mOp gIx (A0 0) (mC (.int 0))))))
 (AD (AQ 2 (B3 (CZ A5)))
 (AD (Bp (DG (A2 (mOp Aq (BB Fz (Ac 1 [] (Ap (A0 0)) (AB 0) BE (mOp gIx (A0 0) (mC (.int 1))))) (mCB (f1 true Cd) (A2 (A0 1) A5))) A5)) (AB 3)
  (AD (AQ 4 (B3 (Ac 1 [1,0,3] (DG (A2 (mCB (f1 true Ay) (A2 (A0 0) A5)) A5)) (AB 0) (Co (AF (mOp gGt (mOp gIx (A0 1) (A0 0)) (mC (.int 0)))) (AF (mOp gLe (mOp gIx (mOp gIx (A0 2) (A0 0)) (mC (.int 1))) (A0 3)))) (Ad (A2 (mOp gIx (A0 1) (A0 0)) (A2 (A0 0) A5))))))
 (Aj (AF (DH true (A0 4) (CZ A5)))
  (AD (AQ 5 (mOp gIx (mCB (f1 false Fy) (A2 (A0 4) A5)) (mC (.int 1))))
 (AD (Dk (A0 1) (A0 5) (mOp BV (mOp gIx (A0 1) (A0 5)) (mC (.int 1))))
 (Aj (AF (mOp gEq (mOp gIx (A0 1) (A0 5)) (mC (.int 0))))
  (BU (mMt Bj (A0 2) (A2 (mOp Aq (A0 3) (mC (.int 1))) A5)))
  AY)))
  AY)))
 (AR (A0 2)))))
def DS:FD:=mkF 1 6 Lo
abbrev Es:Df:=⟨"_law_least_left",Gf,["_law_works"],1,DS⟩
abbrev LP:Stmt:=top 53
def PH:FnScope ["_law_works","_law_thing","_law_k","_law_entry","_law_path","_law_moment","_law_table","_law_amiss"] ["_law_works","_law_thing"] (A9 LP):=An (by kernel_rfl)
@[reducible] def SZ:MS:=(AD (Aj (mOr (Bw (B2 (Be .tuple (A0 1)))) (AF (mOp gNe (mCB (f1 true Ay) (A2 (A0 1) A5)) (mCB (f1 true Ay) (A2 (A0 0) A5)))))
 (AR (Ad (A2 (mC (.str "no")) (A2 (Ad A5) (A2 (mC (.str "shape")) A5)))))
 AY)
 (AD (Bp (BO (Ap (A0 1))) (B9 2 (AJ (AB 2) (AJ (AB 3) BA)))
  (AD (Aj (mOr (Bw (B2 (Be .tuple (A0 3)))) (mOr (AF (mOp gNe (mCB (f1 true Ay) (A2 (A0 3) A5)) (mC (.int 2)))) (mOr (AF (Av false (mOp gIx (A0 3) (mC (.int 0))))) (Bw (B2 (AA 0 DT (A2 (mOp gIx (A0 3) (mC (.int 0))) A5)))))))
  (AR (Ad (A2 (mC (.str "no")) (A2 (Ad (A2 (A0 2) A5)) (A2 (mC (.str "shape")) A5)))))
  AY)
 (AD (AQ 4 (CJ He (A2 (AA 0 FC (A2 (A0 0) (A2 (mC (.int 0)) A5))) (A2 (mOp gIx (A0 3) (mC (.int 1))) (A2 (Ad (A2 (A0 2) (A2 (mC (.int 1)) A5))) A5)))))
 (Aj (AF (Av true (A0 4)))
  (AR (Ad (A2 (mC (.str "no")) (A2 (A0 4) (A2 (mC (.str "shape")) A5)))))
  AY))))
 (AD (Bp (BO (Ap (A0 1))) (B9 2 (AJ (AB 2) (AJ (B9 2 (AJ (AB 5) (AJ (AB 6) BA))) BA)))
  (AD (AQ 7 (AA 0 GH (A2 (AA 0 FC (A2 (A0 0) (A2 (mOp BV (A0 5) (mC (.int 1))) A5))) (A2 (A0 6) (A2 (Ad (A2 (A0 2) (A2 (mC (.int 1)) A5))) A5)))))
 (AD (Aj (AF (Av true (A0 7)))
  (AR (Ad (A2 (mC (.str "no")) (A2 (mOp gIx (A0 7) (mC (.int 0))) (A2 (mOp gIx (A0 7) (mC (.int 1))) A5)))))
  AY)
 (Aj (AF (mOp gGt (AA 0 Mg (A2 (A0 6) A5)) (A0 2)))
  (AR (Ad (A2 (mC (.str "no")) (A2 (Ad (A2 (A0 2) A5)) (A2 (mC (.str "many")) A5)))))
  AY))))
 (AR (Ad (A2 (mC (.str "told")) (A2 (mOp El (mOp gIx (mOp gIx (mOp gIx (A0 0) (mC (.int 0))) (mC (.int 2))) (mC (.int 1))) (BB Cd (Ac 1 [] (Ap (A0 1)) (AB 0) BE (mOp gIx (A0 0) (mC (.int 0)))))) A5)))))))
def GI:FD:=mkF 2 8 SZ
abbrev IQ:Df:=⟨"_law_judged",LP,["_law_works","_law_thing"],3,GI⟩
abbrev TB:Stmt:=top 54
def WH:FnScope ["_law_script","_law_source_here","_law_turn","_law_works","_law_due","_law_paper"] ["_law_script"] (A9 TB):=An (by kernel_rfl)
@[reducible] def ZW:MS:=(AD (AQ 1 (CJ GG (A2 (A0 0) A5)))
 (AD (Bp (DG (A2 (mC (.int 2)) A5)) (AB 2)
  (AD (AQ 3 (AA 2 Dv (A2 (A0 1) (A2 (mC (.int 8)) A5))))
 (AD (AQ 4 (mOp El (mOp gIx (mOp gIx (mOp gIx (A0 3) (mC (.int 0))) (mC (.int 2))) (mC (.int 1))) (mCB (f1 true Cd) (A2 (AA 0 DS (A2 (A0 3) A5)) A5))))
 (AD (AQ 5 (AA 0 DU (A2 (A0 3) A5)))
 (AD (Aj (Bw (B2 (AA 0 Di (A2 (CJ GI (A2 (A0 3) (A2 (A0 5) A5))) (A2 (Ad (A2 (mC (.str "told")) (A2 (A0 4) A5))) A5)))))
  (AR (mC (.bl false)))
  AY)
 (Aj (Bw (B2 (AA 0 Di (A2 (AA 0 Du (A2 (A0 3) (A2 (A0 5) A5))) (A2 (A0 4) A5)))))
  (AR (mC (.bl false)))
  AY))))))
 (AR (mC (.bl true)))))
def Rw:FD:=mkF 1 6 ZW
abbrev On:Df:=⟨"law",TB,["_law_script"],8,Rw⟩
set_option maxHeartbeats 0 in
def oks{E:EnK}(B:BltA E.mg):(Dn E Ds->Kn E Ds)/\
 (Dn E CL->Kn E CL)/\
 (Dn E EB->Kn E EB)/\
 (Dn E Er->Kn E EB->Kn E Er)/\
 (Dn E Bf->Kn E Bf)/\
 (Dn E Dq->Kn E Dq)/\
 (Dn E Ep->Kn E Dq->Kn E Ep)/\
 (Dn E FM->Kn E FM)/\
 (Dl E D1 ⟨52,62,52,93⟩->Kn E FM->Kn E D1)/\
 (Dn E D2->Kn E Er->Kn E Bf->Kn E D2)/\
 (Dl E E5 ⟨64,41,64,70⟩->Kn E E5)/\
 (Dn E D3->Kn E Dq->Kn E D3)/\
 (Dn E E4->Kn E E4)/\
 (Dn E DK->Kn E DK)/\
 (Dn E Cp->Kn E Cp)/\
 (Dn E DL->Kn E Ds->Kn E CL->Kn E D3->Kn E DL)/\
 (Dn E EC->Kn E E4->Kn E DK->Kn E EC)/\
 (Dn E D8->Kn E D2->Kn E E5->Kn E E4->Kn E EC->Kn E D8)/\
 (Dn E GB->Kn E E4->Kn E DK->Kn E GB)/\
 (Dn E GA->Kn E D2->Kn E E5->Kn E D3->Kn E GB->Kn E GA)/\
 (Dn E HA->Kn E HA)/\
 (Dn E Eo->Kn E Eo)/\
 (Dn E DN->Kn E Bf->Kn E Ep->Kn E DN)/\
 (Dl E Dr ⟨125,59,125,82⟩->Kn E D1->Kn E DN->Kn E Dr)/\
 (Dn E Et->Kn E GA->Kn E HA->Kn E Eo->Kn E Dr->Kn E Et)/\
 (Dn E C5->Kn E Ds->Kn E CL->Kn E DL->Kn E Eo->Kn E C5)/\
 (Dn E DM->Kn E Cp->Kn E D8->Kn E Eo->Kn E DM)/\
 (Dn E FK->Kn E CL->Kn E DN->Kn E C5->Kn E DM->Kn E FK)/\
 (Dn E IN->Kn E IN)/\
 (Dn E MH->Kn E MH)/\
 (Dn E FL->Kn E MH->Kn E FL)/\
 (Dn E Jh->Kn E Jh)/\
 (Dn E GC->Kn E GC)/\
 (Dn E Gz->Kn E Gz)/\
 (Dn E EK->Kn E EK)/\
 (Dn E Jg->Kn E EK->Kn E Jg)/\
 (Dn E IP->Kn E GC->Kn E Gz->Kn E IP)/\
 (Dn E MJ->Kn E MJ)/\
 (Dn E Gy->Kn E Gy)/\
 (Dn E Es->Kn E Es)/\
 (Dn E IQ->Kn E EK->Kn E Jg->Kn E IP->Kn E MJ->Kn E Gy->Kn E IQ)/\
 (Dn E On->Kn E Et->Kn E FK->Kn E IN->Kn E FL->Kn E Jh->Kn E Es->Kn E IQ->Kn E On):=by
 refine⟨λD=>okK D LJ rfl rfl λ_ _ _ _ _ _ _ hr=>?_,
  λD=>okK D JQ rfl rfl λ_ _ _ _ _ _ _ hr=>?_,
  λD=>okK D JM rfl rfl λ_ _ _ _ _ _ _ hr=>?_,
  λD _=>okK D KP rfl rfl λ_ _ _ _ _ _ _ hr=>?_,
  λD=>okK D FR rfl rfl λ_ _ _ _ _ _ _ hr=>?_,
  λD=>okK D LG rfl rfl λ_ _ _ _ _ _ _ hr=>?_,
  λD _=>okK D KO rfl rfl λ_ _ _ _ _ _ _ hr=>?_,
  λD=>okK D LL rfl rfl λ_ _ _ _ _ _ _ hr=>?_,
  λD _=>okL D JN rfl rfl λ_ _ _ _ LC _ _ _ _ _ _ hcd hr=>?_,
  λD _ _=>okK D JP rfl rfl λ_ _ _ _ _ _ _ hr=>?_,
  λD=>okL D OB rfl rfl λ_ _ _ _ LC _ _ _ _ _ _ hcd hr=>?_,
  λD _=>okK D JR rfl rfl λ_ _ _ _ _ _ _ hr=>?_,
  λD=>okK D O7 rfl rfl λ_ _ _ _ _ _ _ hr=>?_,
  λD=>okK D KN rfl rfl λ_ _ _ _ _ _ _ hr=>?_,
  λD=>okK D Ga rfl rfl λ_ _ _ _ _ _ _ hr=>?_,
  λD _ _ _=>okK D I0 rfl rfl λ_ _ _ _ _ _ _ hr=>?_,
  λD _ _=>okK D JO rfl rfl λ_ _ _ _ _ _ _ hr=>?_,
  λD _ _ _ _=>okK D Hf rfl rfl λ_ _ _ _ _ _ _ hr=>?_,
  λD _ _=>okK D Mi rfl rfl λ_ _ _ _ _ _ _ hr=>?_,
  λD _ _ _ _=>okK D Mh rfl rfl λ_ _ _ _ _ _ _ hr=>?_,
  λD=>okK D OA rfl rfl λ_ _ _ _ _ _ _ hr=>?_,
  λD=>okK D P9 rfl rfl λ_ _ _ _ _ _ _ hr=>?_,
  λD _ _=>okK D KS rfl rfl λ_ _ _ _ _ _ _ hr=>?_,
  λD _ _=>okL D LI rfl rfl λ_ _ _ _ LC _ _ _ _ _ _ hcd hr=>?_,
  λD _ _ _ _=>okK D KR rfl rfl λ_ _ _ _ _ _ _ hr=>?_,
  λD _ _ _ _=>okK D FF rfl rfl λ_ _ _ _ _ _ _ hr=>?_,
  λD _ _ _=>okK D IA rfl rfl λ_ _ _ _ _ _ _ hr=>?_,
  λD _ _ _ _=>okK D LH rfl rfl λ_ _ _ _ _ _ _ hr=>?_,
  λD=>okK D PB rfl rfl λ_ _ _ _ _ _ _ hr=>?_,
  λD=>okK D Tx rfl rfl λ_ _ _ _ _ _ _ hr=>?_,
  λD _=>okK D LK rfl rfl λ_ _ _ _ _ _ _ hr=>?_,
  λD=>Nat.rec (motive:=λn=>Kn E ⟨"_law_alike",JS,["_law_one","_law_due"],n,Cm n⟩) (ok0 D) (λn ih=>okK (j:=n) D RX rfl (by omega) λ_ _ _ _ _ _ _ hr=>?_) 4,
  λD=>okK D Mj rfl rfl λ_ _ _ _ _ _ _ hr=>?_,
  λD=>okK D O9 rfl rfl λ_ _ _ _ _ _ _ hr=>?_,
  λD=>okK D Mk rfl rfl λ_ _ _ _ _ _ _ hr=>?_,
  λD _=>okK D RW rfl rfl λ_ _ _ _ _ _ _ hr=>?_,
  λD _ _=>okK D PD rfl rfl λ_ _ _ _ _ _ _ hr=>?_,
  λD=>okK D Tz rfl rfl λ_ _ _ _ _ _ _ hr=>?_,
  λD=>okK D O8 rfl rfl λ_ _ _ _ _ _ _ hr=>?_,
  λD=>okK D KQ rfl rfl λ_ _ _ _ _ _ _ hr=>?_,
  λD _ _ _ _ _=>okK D PH rfl rfl λ_ _ _ _ _ _ _ hr=>?_,
  λD _ _ _ _ _ _ _=>okK D WH rfl rfl λ_ _ _ _ _ _ _ hr=>?_⟩
 all_goals (refine' ⟨_,_⟩;rotate_left;repeat' (first
  |((with_reducible show QE _ _ _ _ _);first|exact qv _ _|(first|exact XV _|exact XJ _|exact ZF _|exact XQ _)|((with_reducible show QE _ _ _ _ (mOp _ _ _));first|((with_reducible show QE _ _ _ _ (mOp gIx _ _));refine' ZC _ _ _)|((with_reducible show QE _ _ _ _ (mOp CD _ _));refine' Uq _ (Te hr) _ _)|((with_reducible show QE _ _ _ _ (mOp Aq _ _));refine' Fp _ ((Ps).or (Ld _)) (DX Pe NJ) _ _)|((with_reducible show QE _ _ _ _ (mOp BV _ _));refine' Fp _ Xx Wo _ _)|((with_reducible show QE _ _ _ _ (mOp El _ _));refine' Fp _ Y3 Wq _ _)|((with_reducible show QE _ _ _ _ (mOp G5 _ _));refine' Fp _ Y4 Wr _ _)|((with_reducible show QE _ _ _ _ (mOp J8 _ _));refine' Fp _ VJ UN _ _)|((with_reducible show QE _ _ _ _ (mOp Sk _ _));refine' Fp _ Xy Wp _ _)|((with_reducible show QE _ _ _ _ (mOp FA _ _));refine' Fp _ (((Ps).or (Ld _)).or (VM _)) (DX (DX Pe NJ) UO) _ _)|((with_reducible show QE _ _ _ _ (mOp gLe _ _));refine' LY _ Ta TJ _ _)|((with_reducible show QE _ _ _ _ (mOp gEq _ _));refine' LY _ ((Tc).or (NQ _ hr.units)) (DX Pb Pd) _ _)|((with_reducible show QE _ _ _ _ (mOp gNe _ _));refine' LY _ ((TZ).or (JY _ hr.units)) (DX PZ Pa) _ _))|refine' XI _ _|((with_reducible show QE _ _ _ _ (B3 _));refine' XR _ _)|refine' XS _ _|((with_reducible show QE _ _ _ _ (AA _ _ _));first|refine' qcW _ (by assumption) hr _|refine' qcW _ (by assumption) (hr.in1.deeper _) _)|((with_reducible show QE _ _ _ _ (CJ _ _));refine' qcG (by assumption) hr _)|((with_reducible show QE _ _ _ _ Iw);exact XB LC hcd)|((with_reducible show QE _ _ _ _ (DI _ _));refine' S8 _ (hr.in1.deeper _) _ _)|((with_reducible show QE _ _ _ _ (Ej _ _ _));refine' XA LC hcd hr B.min _ (λ_ _ _ _=>_))|((with_reducible show QE _ _ _ _ (BB _ _));first|((with_reducible show QE _ _ _ _ (BB Jb _));refine' Ip _ (KF _ rfl) PU B.all L2.bt_all _)|((with_reducible show QE _ _ _ _ (BB Gs _));refine' Ip _ (KD _ rfl) PR B.any L2.bt_any _)|((with_reducible show QE _ _ _ _ (BB Cd _));refine' Ip _ ((KA _ rfl).or (JB _ rfl)) PN B.sum L2.bt_sum _)|((with_reducible show QE _ _ _ _ (BB FI _));refine' Ip _ (KB _ rfl) PP B.min L2.bt_min _)|((with_reducible show QE _ _ _ _ (BB Fz _));refine' Ip _ ((KC _ rfl).or (JC _ rfl)) PQ B.max L2.bt_max _)|((with_reducible show QE _ _ _ _ (BB C4 _));refine' ZD _ (Hu _) LU B.tuple L2.bt_tuple _))|((with_reducible show QE _ _ _ _ (mCB _ _));first|((with_reducible show QE _ _ _ _ (mCB (f1 _ Jb) _));refine' EG _ (KF _ rfl) (Fk PU) B.all L2.bt_all _)|((with_reducible show QE _ _ _ _ (mCB (f1 _ Gs) _));refine' EG _ (KD _ rfl) (Fk PR) B.any L2.bt_any _)|((with_reducible show QE _ _ _ _ (mCB (f1 _ Cd) _));refine' EG _ ((KA _ rfl).or (JB _ rfl)) (Fk PN) B.sum L2.bt_sum _)|((with_reducible show QE _ _ _ _ (mCB (f1 _ Ay) _));refine' EG _ (Qc _) (Fk Wf) B.len L2.bt_len _)|((with_reducible show QE _ _ _ _ (mCB (f1 _ FI) _));refine' EG _ (KB _ rfl) (Fk PP) B.min L2.bt_min _)|((with_reducible show QE _ _ _ _ (mCB (f1 _ Fz) _));refine' EG _ ((KC _ rfl).or (JC _ rfl)) (Fk PQ) B.max L2.bt_max _)|((with_reducible show QE _ _ _ _ (mCB (f1 _ Iy) _));refine' EG _ (Ou _ rfl) (Fk UC) B.any L2.bt_any _)|((with_reducible show QE _ _ _ _ (mCB (f1 _ Fy) _));refine' EG _ (Os _ hr rfl) (Fk UB) B.min L2.bt_min _)|((with_reducible show QE _ _ _ _ (mCB G8 _));refine' EG _ (Qb rfl) UD B.max L2.bt_max _)|((with_reducible show QE _ _ _ _ (mCB (f1 _ C4) _));refine' ZE _ (Hu _) (Fk LU) B.tuple L2.bt_tuple _))|((with_reducible show QE _ _ _ _ (IK _ _));refine' XT _ _ _)|((with_reducible show QE _ _ _ _ (HM _ _));refine' Um _ _ _)|refine' S5 _ _ _ _|((with_reducible show QE _ _ _ _ (mMt _ _ _));first|((with_reducible show QE _ _ _ _ (mMt Bj _ _));refine' ZB _ PySem.F.slot_list_append PySem.F.type_list_append Jy PL _ _))|refine' Up _ _|((with_reducible show QE _ _ _ _ (Be _ _));first|((with_reducible show QE _ _ _ _ (Be .int _));refine' Io _ .int B.isinstance B.int _)|((with_reducible show QE _ _ _ _ (Be .bool _));refine' Io _ .bool B.isinstance B.bool _)|((with_reducible show QE _ _ _ _ (Be .str _));refine' Io _ .str B.isinstance B.str _)|((with_reducible show QE _ _ _ _ (Be .tuple _));refine' Io _ .tuple B.isinstance B.tuple _))|((with_reducible show QE _ _ _ _ (Av _ _));first|refine' XU _ _|refine' Uo _ _)|((with_reducible show QE _ _ _ _ (D0 _ _));refine' XW _ _ _)|((with_reducible show QE _ _ _ _ (IJ _ _));refine' ZA _ _ _)|((with_reducible show QE _ _ _ _ (F6 _));refine' XN _ _)|refine' XM _ _)
  |refine' Ur _ _ _|exact XX _
  |((with_reducible show QT _ _ _ _ _);first|((with_reducible show QT _ _ _ _ (AF (mOp _ _ _)));first|((with_reducible show QT _ _ _ _ (AF (mOp gLt _ _)));refine' FT _ ZP Z4 _ _)|((with_reducible show QT _ _ _ _ (AF (mOp gLe _ _)));refine' FT _ Ta TJ _ _)|((with_reducible show QT _ _ _ _ (AF (mOp gGt _ _)));refine' FT _ ZQ Z6 _ _)|((with_reducible show QT _ _ _ _ (AF (mOp gGe _ _)));refine' FT _ ZR Z7 _ _)|((with_reducible show QT _ _ _ _ (AF (mOp gEq _ _)));refine' FT _ ((Tc).or (NQ _ hr.units)) (DX Pb Pd) _ _)|((with_reducible show QT _ _ _ _ (AF (mOp gNe _ _)));refine' FT _ ((TZ).or (JY _ hr.units)) (DX PZ Pa) _ _))|refine' Wz _ _|((with_reducible show QT _ _ _ _ (B2 _));refine' Rq _ _)|((with_reducible show QT _ _ _ _ (Co _ _));refine' QW.toT _)|((with_reducible show QT _ _ _ _ (mOr _ _));refine' QW.toT _)|((with_reducible show QT _ _ _ _ (AF (Av _ _)));first|refine' X0 _ _|refine' US _ _)|((with_reducible show QT _ _ _ _ (AF (DH _ _ _)));refine' UT _ (Xz _ hr.units) _ _))
  |refine' UR _ _|refine' Ww _ _|refine' Wy _ _ _|refine' Z8 _ _ _
  |((with_reducible show QN _ _ _ _ _);first|((with_reducible show QN _ _ _ _ (E1 _ _ _));refine' X1 LC hcd hr B.sorted _ (λ_ _ _ _=>_))|refine' X8 _ _|((with_reducible show QN _ _ _ _ (Ac _ _ _ _ _ _));refine' qnA _ (λ_ _ _=>_) (λ_ _ _=>_) (λ_ _ _=>_))|((with_reducible show QN _ _ _ _ (IL _ _));refine' X9 _ _ _)|((with_reducible show QN _ _ _ _ (Lx _ _ _));refine' X7 _ _ _ _)|((with_reducible show QN _ _ _ _ (D7 _));refine' OL _ B.sorted _)|((with_reducible show QN _ _ _ _ (DY _));(refine' OK _ B.sorted _;rotate_left;refine' LX _ _))|((with_reducible show QN _ _ _ _ (Go _));refine' Ry _ B.list _))
  |((with_reducible show QI _ _ _ _ _ _);first|((with_reducible show QI _ _ _ _ _ (DG _));refine' Uh _ B.range _)|((with_reducible show QI _ _ _ _ _ (Ap _));refine' XD _ _)|((with_reducible show QI _ _ _ _ _ (CS _));refine' Ui _ _)|((with_reducible show QI _ _ _ _ _ (EA _));refine' XE _ _)|((with_reducible show QI _ _ _ _ _ (BO _));first|refine' Rz _ B.enumerate (LX _ _)|refine' Uj _ B.enumerate _)|((with_reducible show QI _ _ _ _ _ (FZ _));refine' S3 _ B.enumerate _)|((with_reducible show QI _ _ _ _ _ (JZ _ _));refine' XC _ B.zip _ _))
  |refine' Rs _ B.range _
  |((with_reducible show QR _ _ _ _ _ _);first|((with_reducible show QR _ _ _ _ _ (EA _));refine' X6 _ _)|((with_reducible show QR _ _ _ _ _ (CS _));refine' Uc _ _)|((with_reducible show QR _ _ _ _ _ (Ap _));refine' LX _ _))
  |exact qgA
  |refine' XF _ rfl _
  |exact Uk _|refine' S4 _ _ _
  |exact XH _|refine' XG _ _
  |exact Uf _|refine' Ue _ _
  |exact Ud _|refine' Rv _ _ _ _
  |((with_reducible show QSs _ _ _ _ _);first|((with_reducible show QSs _ _ _ _ (AD _ _));refine' Rr _ _ _)|(first|exact UV _|refine' UU _ _))
  |((with_reducible show QS _ _ _ _ _);first|((with_reducible show QS _ _ _ _ (AQ _ (B3 (Ac _ _ _ _ _ _))));first|refine' aJ _ (λ_ _ _=>_) (λ_ _ _=>_) (λ_ _ _=>_)|refine' qsA _)|((with_reducible show QS _ _ _ _ (AQ _ _));refine' qsA _)|refine' Z9 _ _ _ _|refine' X3 _ _|refine' X4 _ rfl _ _ _|refine' Ua _ _|((with_reducible show QS _ _ _ _ (F7 _ _ _));refine' Ub _ (Te hr) _ _ _)|((with_reducible show QS _ _ _ _ (Dk _ _ _));refine' UY _ _ _ _)|refine' X5 _ _ _|refine' Rt _ _ _|exact UX _|((with_reducible show QS _ _ _ _ Bc);exact Ru _)|((with_reducible show QS _ _ _ _ (Fw _ _ _ _));refine' UZ _ _ _ _ YQ))
  |((with_reducible show YXs _ _ _ _ _);first|((with_reducible show YXs _ _ _ _ (AD _ Bc));refine' yxs_cons _ yxs_never)|((with_reducible show YXs _ _ _ _ (AD _ _));refine' yxs_cons _ _)|(first|exact yxs_nil|refine' yxs_one _|exact yxs_never))
  |((with_reducible show YX _ _ _ _ _);first|refine' yx_if _ _ _|refine' yx_ret _|refine' yx_for _ _ _)
  |((with_reducible show YXE _ _ _ _ _);first|refine' yxe_tup _|refine' yxe_call _ (by assumption) hr _|refine' yxe_callG (by assumption) hr _|refine' yxe_ife _ _ _)
  | ((with_reducible show YXA _ _ _ _ _);first|refine' yxa_here _)))
open Bd
structure Sp where
 cells:List Int
 a:Int
 rs:Int
 cn:Int
def Bm(t:Sp):List (Key×D):=[(.inr "cells",.mu 0),(.inr "at",.im (.int t.a)),(.inr "rest",.im (.int t.rs)),(.inr "count",.im (.int t.cn))]
def sp(t:Sp):Hd:=[.lst (t.cells.map λi=>.im (.int i)),.dic (Bm t)]
@[simp] theorem sp0(t:Sp):(sp t)[0]?=some (.lst (t.cells.map λi=>.im (.int i))):=rfl
@[simp] theorem sp1(t:Sp):(sp t)[1]?=some (.dic (Bm t)):=rfl
@[simp] theorem cD(t t':Sp)(h:t'.cells=t.cells):(sp t).set 1 (.dic (Bm t'))=sp t':=by unfold sp;rw[h];rfl
def CA:(("cells":Str)="at")=False:=by simp[eq_iff_iff];decide
def Bt:(("cells":Str)="rest")=False:=by simp[eq_iff_iff];decide
def BY:(("cells":Str)="count")=False:=by simp[eq_iff_iff];decide
def CC:(("at":Str)="cells")=False:=by simp[eq_iff_iff];decide
def Cc:(("at":Str)="rest")=False:=by simp[eq_iff_iff];decide
def CB:(("at":Str)="count")=False:=by simp[eq_iff_iff];decide
def Br:(("rest":Str)="cells")=False:=by simp[eq_iff_iff];decide
def Cb:(("rest":Str)="at")=False:=by simp[eq_iff_iff];decide
def Bq:(("rest":Str)="count")=False:=by simp[eq_iff_iff];decide
def BX:(("count":Str)="cells")=False:=by simp[eq_iff_iff];decide
def C9:(("count":Str)="at")=False:=by simp[eq_iff_iff];decide
def Bs:(("count":Str)="rest")=False:=by simp[eq_iff_iff];decide
section
variable(t:Sp)(v:Int)
@[simp] theorem aF:CW (Bm t) (.inr "cells")=some (.mu 0):=by simp[CW,Bm]
@[simp] theorem cE:CW (Bm t) (.inr "at")=some (.im (.int t.a)):=by simp[CW,Bm,CA,Bt,BY,CC,Cc,CB,Br,Cb,Bq,BX,C9,Bs]
@[simp] theorem ah:CW (Bm t) (.inr "rest")=some (.im (.int t.rs)):=by simp[CW,Bm,CA,Bt,BY,CC,Cc,CB,Br,Cb,Bq,BX,C9,Bs]
@[simp] theorem aE:CW (Bm t) (.inr "count")=some (.im (.int t.cn)):=by simp[CW,Bm,CA,Bt,BY,CC,Cc,CB,Br,Cb,Bq,BX,C9,Bs]
@[simp] theorem bK:DF (Bm t) (.inr "at") (.im (.int v))=Bm { t with a:=v }:=by simp[DF,Bm,CA,Bt,BY,CC,Cc,CB,Br,Cb,Bq,BX,C9,Bs]
@[simp] theorem aD:DF (Bm t) (.inr "rest") (.im (.int v))=Bm { t with rs:=v }:=by simp[DF,Bm,CA,Bt,BY,CC,Cc,CB,Br,Cb,Bq,BX,C9,Bs]
@[simp] theorem Zx:DF (Bm t) (.inr "count") (.im (.int v))=Bm { t with cn:=v }:=by simp[DF,Bm,CA,Bt,BY,CC,Cc,CB,Br,Cb,Bq,BX,C9,Bs]
@[simp] theorem bL:(Bm t).length=4:=rfl
end
def o1:Cz 1073741827:=by unfold Cz;decide
def o2:Cz 2147483543:=by unfold Cz;decide
def o3:Cz 2147483497:=by unfold Cz;decide
def o4:Kp 256:=by unfold Kp;decide
def o5(j:Int):F4 611953 j:=DB (by decide) (by decide)
def o6(j:Int):F4 3 j:=DB (by decide) (by decide)
def o7(j:Int):F4 69069 j:=DB (by decide) (by decide)
def mx1(c n:Int):Int:=c%1073741827+611953*n
def mx2(x n:Int):Int:=(x*x+3*n+7)%2147483543
def mx3(x n:Int):Int:=(x*x+69069*n+1)%2147483497
def V3(τ:Sp)(many:Int)(h0:0<many)(h1:many<1073741824)(n0:0<=τ.cn)(n1:τ.cn<=100000):∃r τ',BR [.mu 1,.im (.int many)] (sp τ)=some (.im (.int r),sp τ')/\0<=r/\r<many/\τ'.cn=τ.cn+1:=by
 have hm:Cz many:=h0;have hv:Kp many:=⟨h0,h1⟩
 by_cases hl:τ.rs>0
 .refine⟨τ.rs%many,{ τ with cn:=τ.cn+1,rs:=τ.rs/many },?_,(EH many h0).1,(EH many h0).2,rfl⟩;simp[BR,mkF,hl,hm,hv]
 .have key:∀cell:Int,(if τ.cells=[]then cell=11 else atI (τ.cells.map λi=>D.im (.int i)) (τ.a%(τ.cells.length:Int))=some (.im (.int cell))) ->
   ∃r τ',BR [.mu 1,.im (.int many)] (sp τ)=some (.im (.int r),sp τ')/\0<=r/\r<many/\τ'.cn=τ.cn+1:=by
   intro cell hcell;have b1:=EH (x:=cell) 1073741827 (by decide);have b2:=EH (x:=mx1 cell (τ.cn+1)*mx1 cell (τ.cn+1)+3*(τ.cn+1)+7) 2147483543 (by decide);have c1:∀j,F4 (mx1 cell (τ.cn+1)) j:=λj=>DB (by unfold mx1;omega) (by unfold mx1;omega);have c2:∀j,F4 (mx2 (mx1 cell (τ.cn+1)) (τ.cn+1)) j:=λj=>DB (by unfold mx2;omega) (by unfold mx2;omega);by_cases hb:cell>=1000000000000000000/\τ.a+1<=(τ.cells.length:Int)
   .refine⟨cell%many,{ τ with cn:=τ.cn+1,a:=τ.a+1,rs:=cell/many },?_,(EH many h0).1,(EH many h0).2,rfl⟩;by_cases hc:τ.cells=[]
    .rw[if_pos hc]at hcell;subst hcell;omega
    .rw[if_neg hc]at hcell;have hl0:0<τ.cells.length:=Db hc;have hl0':Cz (τ.cells.length:Int):=by unfold Cz;omega
     simp[BR,mkF,hl,hm,hv,o1,o2,o3,o4,o5,o6,o7,po1,DH,pyD,EM,Eh,I.pys,Fb,hc,hcell,hl0',hb.1,hb.2,Ay]
   .refine⟨mx3 (mx2 (mx1 cell (τ.cn+1)) (τ.cn+1)) (τ.cn+1)/256%many,{ τ with cn:=τ.cn+1,a:=τ.a+1 },?_,(EH many h0).1,(EH many h0).2,rfl⟩;have hb':1000000000000000000<=cell->¬ τ.a+1<=(τ.cells.length:Int):=λa b=>hb ⟨a,b⟩;unfold mx1 at c1 c2;unfold mx2 at c2;unfold mx3 mx2 mx1;by_cases hc:τ.cells=[]
    .rw[if_pos hc]at hcell;subst hcell;simp only[Int.reduceMod]at c1 c2;simp[BR,mkF,hl,hm,hv,o1,o2,o3,o4,o5,o6,o7,po1,DH,pyD,EM,Eh,I.pys,Fb,Yl,hc,Ay,c1,c2]
    .rw[if_neg hc]at hcell;have hl0:0<τ.cells.length:=Db hc;have hl0':Cz (τ.cells.length:Int):=by unfold Cz;omega
     by_cases hd:1000000000000000000<=cell
     .simp[BR,mkF,hl,hm,hv,o1,o2,o3,o4,o5,o6,o7,po1,DH,pyD,EM,Eh,I.pys,Fb,hc,hcell,hl0',Ay,c1,c2,hd,hb' hd]
     .simp[BR,mkF,hl,hm,hv,o1,o2,o3,o4,o5,o6,o7,po1,DH,pyD,EM,Eh,I.pys,Fb,hc,hcell,hl0',Ay,c1,c2,hd]
  by_cases hc:τ.cells=[]
  .exact key 11 (by rw[if_pos hc])
  .obtain⟨c,e⟩:=Zr hc τ.a;exact key c (by rw[if_neg hc];exact e)
def T(k:Nat)(a b:MO):Prop:=∃τ:Sp,0<=τ.cn/\τ.cn+k<=100000/\sp τ=[a,b]
def tap:Tap T BR where
 cl:=by
  rintro k a b ⟨τ,_,_,e⟩;cases e;simp[clO,E7,Bm,FO,clD]
 le:=by
  rintro j k a b ⟨τ,h1,h2,e⟩ h;exact⟨τ,h1,by omega,e⟩
 pick:=by
  rintro k a b many ⟨τ,n0,n1,e⟩ h0 h1;obtain⟨r,τ',eq,p1,p2,c⟩:=V3 τ many h0 h1 n0 (by push_cast at n1;omega);refine⟨r,.lst (τ'.cells.map λi=>.im (.int i)),.dic (Bm τ'),p1,p2,?_,τ',by omega,by push_cast at n1;omega,rfl⟩;rw[<- e];exact eq
def RP(ns:List Int):WF GG [.ro ns] [] λd x=>d=.mu 1/\∃a b,T 90000 a b/\x=[a,b]:=by
 obtain⟨cs,e⟩:=Sq ns none (some 63);exact⟨.mu 1,_,by simp[GG,mkF,e,FX,DF,CA,Bt,BY,CC,Cc,CB,Br,Cb,Bq,BX,C9,Bs];rfl,rfl,_,_,⟨⟨cs,0,0,0⟩,(show(0:Int)<=0 by decide),(show(0:Int)+(90000:Nat)<=100000 by decide),rfl⟩,rfl⟩
structure EW(w:Int)(ws:List Wk):Prop where
 n1:1<=ws.length
 n8:ws.length<=8
 w0:0<=w/\w<=9
 ea:∀z∈ws,(1<=z.len/\z.len<=20)/\(0<=z.com/\z.com<=60)/\z.cost=.ends w
abbrev wkD(z:Wk):D:=.im (Bu z)
def Dx(ws:List Wk):(ws.map Bu).map D.im=ws.map wkD:=by simp
def at3{r:Int}(h0:0<=r)(h1:r<3)(x y z:D):∃d,(d=x∨d=y∨d=z)/\atI [x,y,z] r=some d:=by
 rcases(show r=0∨r=1∨r=2 by omega)with rfl|rfl|rfl
 .exact⟨x,.inl rfl,Ev _ _⟩
 .exact⟨y,.inr (.inl rfl),Cq _ _ _⟩
 .exact⟨z,.inr (.inr rfl),EE _ _ _ _⟩
abbrev Le(m lg lt w:Int)(z7 z8 z9:Option D):Ls:=[some (.mu 1),some (.im (.int 8)),some (.im (.int m)),some (.im (.int lg)),some (.im (.int lt)),some (.im (.int w)),some (.mu 2),z7,z8,z9]
inductive I_e(n k:Nat)(lg lt w:Int)(r:List D)(ls:Ls)(hd:Hd):Prop
 |mk (j:Nat) (ws:List Wk) (a b:MO) (z7 z8 z9:Option D) (h0:r=Ar (j:Int) (k-j)) (h1:j<=k) (h2:ws.length=j) (h3:∀z∈ws,(1<=z.len/\z.len<=20)/\(0<=z.com/\z.com<=60)/\z.cost=.ends w) (h4:ls=Le (k:Int) lg lt w z7 z8 z9) (h5:hd=[a,b,.lst (ws.map wkD)]) (h6:T (n+10*(k-j)) a b):I_e n k lg lt w r ls hd
inductive J_e(n k j:Nat)(lg lt w:Int)(z8:Option D)(ws:List Wk)(f:Fl)(x:Hd):Prop
 |mk (z:Wk) (a b:MO) (h0:f=.nx (Le (k:Int) lg lt w (some (.im (.int (j:Int)))) z8 (some (wkD z)))) (h1:x=[a,b,.lst (ws.map wkD)]) (h2:(1<=z.len/\z.len<=20)/\(0<=z.com/\z.com<=60)/\z.cost=.ends w) (h3:T (n+10*(k-(j+1))) a b):J_e n k j lg lt w z8 ws f x
def Mw(n:Nat):∀a b,T (n+100) a b->WF Dv [.mu 1,.im (.int 8)] [a,b] λd x=>∃i a' b' g,d=.im i/\(∃ws w,i=Ag ws/\EW w ws)/\T n a' b'/\x=a'::b'::g:=by
 intro a b hT;unfold Dv;refine Ab rfl ?_;refine A8 (AO (A7 (AG ?_)));refine tap.draw hT rfl (by first|decide|omega) (by first|decide|omega) λm a b hT pm qm=>?_;refine Bk (A6 (A8 (AO (Oz (DC (A3 (AG (A3 (AG (A3 (AG (A4 ⟨Em,?_⟩))))))))))));refine tap.draw hT rfl (by first|decide|omega) (by first|decide|omega) λr2 a b hT pr2 qr2=>?_;obtain⟨d2,hd2,ed2⟩:=at3 pr2 qr2 (.im (.int 20)) (.im (.int 6)) (.im (.int 2));refine⟨_,_,rfl,ed2,?_⟩;obtain⟨lg,rfl,hlg⟩:∃t,d2=.im (.int t)/\(2<=t/\t<=20):=by
  rcases hd2 with rfl|rfl|rfl<;>exact⟨_,rfl,by omega,by omega⟩
 refine A6 (A8 (AO (Oz (DC (A3 (AG (A3 (AG (A3 (AG (A4 ⟨Em,?_⟩)))))))))));refine tap.draw hT rfl (by first|decide|omega) (by first|decide|omega) λr3 a b hT pr3 qr3=>?_;obtain⟨d3,hd3,ed3⟩:=at3 pr3 qr3 (.im (.int 61)) (.im (.int 12)) (.im (.int 1));refine⟨_,_,rfl,ed3,?_⟩;obtain⟨lt,rfl,hlt⟩:∃t,d3=.im (.int t)/\(1<=t/\t<=61):=by
  rcases hd3 with rfl|rfl|rfl<;>exact⟨_,rfl,by omega,by omega⟩
 refine A6 (A8 (AO ?_));refine tap.draw hT rfl (by first|decide|omega) (by first|decide|omega) λw a b hT pw qw=>?_;refine A6 (A8 (AO (Ba (DC (A4 ⟨Gw,A6 (A8 (BQ (JF (A3 (A1 rfl (A4 ⟨_,rfl,?_⟩))))))⟩)))));refine⟨ER (by omega) (by omega),?_⟩;obtain⟨k,hk⟩:=Int.eq_ofNat_of_zero_le (show 0<=1+m by omega);rw[hk,toNat_natCast];change WP (B8 _ _ _ _ (Le (k:Int) lg lt w none none none) [a,b,.lst []]) _;have hT:T (n+10*(k-0)) a b:=tap.le hT (by omega);refine BD (I_e n k lg lt w) ⟨0,[],a,b,none,none,none,rfl,by omega,rfl,by simp,rfl,rfl,hT⟩ ?_ ?_
 .rintro d r ls hd ⟨j,ws,a,b,z7,z8,z9,er,hj,hl,hws,rfl,rfl,hT⟩;obtain⟨m',hm⟩:∃m,k-j=m+1:=by
   cases q:k-j with
   |zero=>rw[q]at er;cases er
   |succ m=>exact⟨m,rfl⟩
  rw[hm,Ar]at er;obtain⟨rfl,rfl⟩:=List.cons.inj er;have hT:T (n+10*(k-(j+1))+10) a b:=tap.le hT (by omega);refine⟨Le (k:Int) lg lt w (some (.im (.int (j:Int)))) z8 z9,rfl,?_⟩;refine A8 (AO ?_);refine tap.draw hT rfl (by first|decide|omega) (by first|decide|omega) λway a b hT pway qway=>?_;refine A6 (A8 (AO (B5 (A3 (A7 (AG ?_))))));refine tap.draw hT rfl (by first|decide|omega) (by first|decide|omega) λln a b hT pln qln=>?_;refine Bk (A3 ?_);refine tap.draw hT rfl (by first|decide|omega) (by first|decide|omega) λcm a b hT pcm qcm=>?_;refine A3 (B5 (A3 (AG (A3 (A1 rfl (A4 ⟨CK,A4 ⟨Em,A6 ?_⟩⟩))))));change WS _ (Le (k:Int) lg lt w (some (.im (.int (j:Int)))) (some (.im (.int way))) (some (wkD ⟨1+ln,cm,.ends w⟩))) [a,b,.lst (ws.map wkD)] _;refine A8 (WP.mono (Q:=J_e n k j lg lt w (some (.im (.int way))) ws) (AN (Dw (AI (A7 (A1 rfl (AG (EX ⟨_,rfl,?_⟩))))))) ?_)
  .have no:J_e n k j lg lt w (some (.im (.int way))) ws (.nx (Le (k:Int) lg lt w (some (.im (.int (j:Int)))) (some (.im (.int way))) (some (wkD ⟨1+ln,cm,.ends w⟩)))) [a,b,.lst (ws.map wkD)]:=⟨_,a,b,rfl,rfl,⟨⟨by show 1<=1+ln;omega,by show 1+ln<=20;omega⟩,⟨by show 0<=cm;omega,by show cm<=60;omega⟩,rfl⟩,tap.le hT (by omega)⟩
   by_cases h1:way=0
   .rw[if_pos (by simpa using h1)];refine AI (A7 (A1 rfl (AG (Ex ⟨_,rfl,λhc=>?_,λhc=>AL no⟩))));have hc:0<(j:Int):=by simpa using hc
    refine AO (A7 (A1 rfl ?_));refine tap.draw hT (many:=(j:Int)) (rest:=[.lst (ws.map wkD)]) (by simp) (by omega) (by omega) λr a b hT pr qr=>?_;obtain⟨i,hi⟩:=Int.eq_ofNat_of_zero_le pr;have hi':i<ws.length:=by omega
    exact AH (ds:=ws.map wkD) (e:=wkD ws[i]) rfl (GE hi (by simp[hi'])) ⟨ws[i],a,b,rfl,rfl,hws _ (List.getElem_mem hi'),tap.le hT (by omega)⟩
   .rw[if_neg (by simpa using h1)];exact⟨(λh=>by cases h),λ_=>AL no⟩
  rintro f x ⟨z,a,b,rfl,rfl,okz,hT⟩;refine A6 (BS (IX (A1 rfl ⟨⟨_,rfl⟩,A3 (A1 rfl (A4 (GT rfl (De (by simp;omega)) ?_)))⟩)));exact⟨AK _,j+1,ws++[z],a,b,_,_,_,by rw[show((j:Int)+1)=((j+1:Nat):Int) by omega,show m'=k-(j+1) by omega],by omega,by simp[hl],λy hy=>by rcases mem_append.mp hy with q|q;exact hws y q;rw[mem_singleton]at q;subst q;exact okz,rfl,by simp,hT⟩
 .rintro ls hd ⟨j,ws,a,b,z7,z8,z9,er,hj,hl,hws,rfl,rfl,hT⟩;have:j=k:=by
   cases q:k-j with
   |zero=>omega
   |succ m=>rw[q]at er;cases er
  subst this;refine A6 (AT (B6 (A3 (A1 rfl (A4 (BC (ds:=ws.map wkD) (z:=.im (Ag ws)) rfl ?_ ?_))))))
  .show some (AV (ws.map wkD))=_;rw[<- Dx,C1]
  .exact⟨_,a,b,_,rfl,⟨ws,w,rfl,⟨by omega,by omega,by omega,hws⟩⟩,tap.le hT (by omega),rfl⟩
def weight_w{z:Wk}{w:Int}(h:z.cost=.ends w):WF Bg [wkD z] [] λd x=>d=.im (.int w):=by
 unfold Bg;refine Ab rfl ?_;unfold wkD Bu;rw[h];refine AT (A7 (A7 (A1 rfl (AG (AH rfl (EE _ _ _ _) ?_)))));refine FQ (AG ⟨_,rfl,?_⟩);refine AH (ds:=[.im (.str "ends"),.im (.int w)]) (e:=.im (.int w)) rfl ?_ rfl;rfl
def refuse_w{w:Int}{ws:List Wk}(W:EW w ws):WF As [.im (Ag ws),.im (.str "ends")] [] λd x=>d=.im .non:=by
 have n8:=W.n8;unfold As;refine Ab rfl ?_;refine AN (Af (Bl (Ao (BG (A1 rfl ⟨_,rfl,?_⟩)))));rw[Dx];refine⟨AZ (by simp;omega),?_⟩;refine Aw wkD (λ_=>some (.im (.bl false))) (λ_ ls=>∃x,ls=[some x,some (.im (.str "ends"))]) _ (AK _) ?_ ?_
 .rintro z hz ls hls;refine⟨[some (wkD z),some (.im (.str "ends"))],by rcases hls with rfl|⟨_,x,rfl⟩<;>rfl,⟨_,rfl⟩,BH ⟨rfl,?_⟩⟩;rw[if_pos rfl];unfold wkD Bu;rw[(W.ea z hz).2.2];refine⟨_,rfl,A7 (A7 (A7 (A1 rfl (AG (AH rfl (EE _ _ _ _) (AG (AH (ds:=[.im (.str "ends"),.im (.int w)]) rfl (Ev _ _) (A1 rfl (Ox ⟨rfl,?_⟩)))))))))⟩;simp
 have e:(ws.filterMap λ_=>some (D.im (.bl false)))=blD (ws.map λ_=>false):=by simp[blD]
 rw[e];refine⟨_,by rw[Gs,GD];rfl,_,rfl,?_⟩;exact⟨(λh=>by simp at h),λ_=>AL rfl⟩
def ZS{w:Int}{ws:List Wk}(W:EW w ws):WF DQ [.im (Ag ws)] [] λd x=>d=.im (.int w):=by
 have n8:=W.n8;have n1:=W.n1;unfold DQ;refine Ab rfl ?_;have e0:atI ((ws.map Bu).map D.im) 0=some (wkD ws[0]):=GE (k:=0) rfl (by rw[List.getElem?_map,List.getElem?_map,List.getElem?_eq_getElem n1];rfl);refine A8 (AO (AE (A3 (A7 (A1 rfl (AG (AH rfl e0 (A4 ⟨by simp,(weight_w (W.ea _ (List.getElem_mem n1)).2.2).mono ?_⟩))))))));rintro d x rfl;refine⟨_,rfl,A6 ?_⟩;refine A8 (AN (Af (Bl (Ao (BG (A1 rfl ⟨_,rfl,?_⟩))))));rw[Dx];refine⟨AZ (by simp;omega),?_⟩;refine Aw wkD (λ_=>some (.im (.bl false))) (λ_ ls=>∃x,ls=[some x,some (.im (.int w))]) _ (AK _) ?_ ?_
 .rintro z hz ls hls;refine⟨[some (wkD z),some (.im (.int w))],by rcases hls with rfl|⟨_,x,rfl⟩<;>rfl,⟨_,rfl⟩,BH ⟨rfl,?_⟩⟩;rw[if_pos rfl];refine⟨_,rfl,A7 (AE (A3 (A1 rfl (A4 ⟨by simp,(weight_w (W.ea z hz).2.2).mono ?_⟩))))⟩;rintro d x rfl;refine⟨_,rfl,A1 rfl (FP ⟨rfl,?_⟩)⟩;simp
 have e:(ws.filterMap λ_=>some (D.im (.bl false)))=blD (ws.map λ_=>false):=by simp[blD]
 rw[e];refine⟨_,by rw[Gs,GD];rfl,_,rfl,?_⟩;exact⟨(λh=>by simp at h),λ_=>AL (A6 (AT (A1 rfl rfl)))⟩
def Gx{w:Int}{ws:List Wk}(W:EW w ws):WF Cj [.im (Ag ws)] [] λd x=>d=.im (.int w):=by
 unfold Cj;refine Ab rfl ?_;refine A8 (BS (AE (A3 (A1 rfl (A3 (AG (A4 ⟨by simp,(refuse_w W).mono ?_⟩)))))));rintro d x rfl;refine⟨_,rfl,A6 ?_⟩;refine AT (AE (A3 (A1 rfl (A4 ⟨by simp,(ZS W).mono ?_⟩))));rintro d x rfl;exact⟨_,rfl,rfl⟩
abbrev Pc:=Pl.Pc
abbrev pcD(P:List Pc):List D:=P.map λp=>.im (Bb p)
def Ew(P:List Pc)(k:Nat)(b e:Int):List Pc:=match P.getLast? with
 |some p=>if p.1=k/\p.2.2=b then P.dropLast++[(k,p.2.1,e)]else P++[(k,b,e)]
 |none=>P++[(k,b,e)]
def Pv(P:List Pc):P=[]∨∃P' p,P=P'++[p]:=by
 rcases List.eq_nil_or_concat P with h|⟨P',p,h⟩
 .exact .inl h
 .exact .inr ⟨P',p,by rw[h,List.concat_eq_append]⟩
def KL(P:List Pc)(p:Pc)(k:Nat)(b e:Int):Ew (P++[p]) k b e=if p.1=k/\p.2.2=b then P++[(k,p.2.1,e)]else P++[p]++[(k,b,e)]:=by
 unfold Ew;rw[List.getLast?_concat,List.dropLast_concat]
def N0{i:Nat}{P:List Pc}{hd:Hd}(eh:hd[i]?=some (.lst (pcD P)))(hl:P.length<=100)(k:Nat)(b e:Int):WF Cw [.mu i,.im (.int (k:Int)),.im (.int b),.im (.int e)] hd λd x=>d=.im .non/\x=hd.set i (.lst (pcD (Ew P k b e))):=by
 have tr:Cn hd (.mu i)=some (!(pcD P).isEmpty):=by simp only[Cn,eh]
 have sv:Ax hd (.mu i)=some (pcD P):=by simp[Ax,AW,Ak,eh]
 unfold Cw;refine Ab rfl ?_;refine AN (Dw (Af (A1 rfl ⟨_,tr,?_⟩)));have app:∀{Q:Fl->Hd->Prop},Q (.nx [some (.mu i),some (.im (.int (k:Int))),some (.im (.int b)),some (.im (.int e))]) (hd.set i (.lst (pcD (P++[(k,b,e)]))))->WS (BU (mMt Bj (A0 0) (A2 (Ad (A2 (A0 1) (A2 (A0 2) (A2 (A0 3) A5)))) A5))) [some (.mu i),some (.im (.int (k:Int))),some (.im (.int b)),some (.im (.int e))] hd Q:=λ{Q} q=>by
  refine BS (IX (A1 rfl ⟨⟨_,by rw[Ze,eh]⟩,A3 (B5 (A3 (A1 rfl (A3 (A1 rfl (A3 (A1 rfl (A4 ⟨Em,A4 ?_⟩))))))))⟩));refine GT eh (De (by simp;omega)) ?_;rw[show pcD (P++[(k,b,e)])=pcD P++[AV [.im (.int (k:Int)),.im (.int b),.im (.int e)]] by show(P++[_]).map _=_;rw[map_append];rfl]at q;exact q
 rcases Pv P with rfl|⟨P',p,rfl⟩
 .rw[if_neg (by simp)];exact⟨(λh=>by cases h),λ_=>app ⟨rfl,rfl⟩⟩
 .rw[if_pos (by simp)];rw[KL];have la:atI (pcD (P'++[p])) (-1)=some (.im (Bb p)):=by show atI ((P'++[p]).map _) (-1)=_;rw[map_append];exact IU _ _
  have gl:∀{j:Int} {v:D} {QE:D->Hd->Prop},atI [D.im (.int (p.1:Int)),.im (.int p.2.1),.im (.int p.2.2)] j=some v->QE v hd->WE (mOp gIx (mOp gIx (A0 0) (DZ (mC (.int 1)))) (mC (.int j))) [some (.mu i),some (.im (.int (k:Int))),some (.im (.int b)),some (.im (.int e))] hd QE:=λ{j v QE} ea q=>
   A7 (A7 (A1 rfl (FQ (AG ⟨_,rfl,AH (ds:=pcD (P'++[p])) sv la (AG (AH (ds:=[D.im (.int (p.1:Int)),.im (.int p.2.1),.im (.int p.2.2)]) rfl ea q))⟩))))
  refine Dw (AI (A7 (gl (Ev _ _) (A1 rfl (EX ⟨_,rfl,?_⟩)))));by_cases h1:p.1=k
  .rw[if_pos (by simp[h1])];refine AI (A7 (gl (EE _ _ _ _) (A1 rfl (EX ⟨_,rfl,λh2=>?_,λh2=>?_⟩))))
   .have h2:p.2.2=b:=by simpa using h2
    rw[if_pos ⟨h1,h2⟩];refine N2 (B5 (A3 (A1 rfl (A3 (gl (Cq _ _ _) (A3 (A1 rfl (A4 ⟨Em,A1 rfl (FQ (AG ⟨_,rfl,?_⟩))⟩))))))));refine⟨i,-1,P'.length,pcD (P'++[p]),rfl,rfl,eh,?_,?_⟩
    .unfold ixN;rw[if_neg (by decide),if_pos (by simp;omega)]
     congr 1
     simp;omega
    .refine⟨rfl,?_⟩;show hd.set i (.lst (((P'++[p]).map _).set P'.length _))=hd.set i (.lst ((P'++[_]).map _));rw[map_append,map_append];simp[AV,B1,Bb]
   .have h2:¬ p.2.2=b:=by simpa using h2
    rw[if_neg (λh=>h2 h.2)];exact app ⟨rfl,rfl⟩
  .rw[if_neg (by simp;omega),if_neg (λh=>h1 h.1)];exact⟨(λh=>by cases h),λ_=>app ⟨rfl,rfl⟩⟩
open PySem L2 Bd S7
theorem F8(p:Pc)(j:Nat):∀(P:List Pc) (v:Int),Pl.last (P++[p]) j v=if p.1=j then p.2.2 else Pl.last P j v
 |[],v=>by simp[Pl.last]
 |q::r,v=>by rw[cons_append,Pl.last,F8 p j r,Pl.last]
theorem HW(q:Pc)(j:Nat):∀P:List Pc,Pl.dn (P++[q]) j=Pl.dn P j+(if q.1=j then q.2.2-q.2.1 else 0)
 |[]=>by simp[Pl.dn]
 |p::r=>by rw[cons_append,Pl.dn,Pl.dn,HW q j r];omega
structure Pcs(n:Nat)(cm:Nat->Nat)(P:List Pc)(t:Nat):Prop where
 pc:∀p∈P,p.1<n/\(cm p.1:Int)<=p.2.1/\p.2.1<p.2.2/\p.2.2<=(t:Int)
 pw:P.Pairwise λp q=>p.2.2<=q.2.1
def Pcs.add{n:Nat}{cm:Nat->Nat}{P:List Pc}{t b e k:Nat}(h:Pcs n cm P t)(hk:k<n)(hc:cm k<=b)(tb:t<=b)(be:b<e):Pcs n cm (Ew P k (b:Int) (e:Int)) e/\(Ew P k b e).length<=P.length+1/\(∀j,Pl.dn (Ew P k b e) j=Pl.dn P j+if k=j then(e:Int)-b else 0)/\∀j,Pl.E (Ew P k b e) j=if k=j then(e:Int)else Pl.E P j:=by
 have plain:Pcs n cm (P++[(k,(b:Int),(e:Int))]) e/\(P++[(k,(b:Int),(e:Int))]).length<=P.length+1/\(∀j,Pl.dn (P++[(k,(b:Int),(e:Int))]) j=Pl.dn P j+if k=j then(e:Int)-b else 0)/\∀j,Pl.E (P++[(k,(b:Int),(e:Int))]) j=if k=j then(e:Int)else Pl.E P j:=by
  refine⟨⟨λp hp=>?_,?_⟩,by simp,λj=>HW _ _ _,λj=>F8 _ _ _ _⟩
  .rcases mem_append.mp hp with q|q
   .have:=h.pc p q;exact⟨this.1,this.2.1,this.2.2.1,by omega⟩
   .rw[mem_singleton]at q;subst q;exact⟨hk,by show(cm k:Int)<=(b:Int);omega,by show(b:Int)<(e:Int);omega,by show(e:Int)<=(e:Int);omega⟩
  .rw[List.pairwise_append];refine⟨h.pw,List.pairwise_singleton _ _,λp hp q hq=>?_⟩;rw[mem_singleton]at hq;subst hq;have:=(h.pc p hp).2.2.2;show p.2.2<=(b:Int);omega
 rcases Pv P with rfl|⟨P',p,rfl⟩
 .exact plain
 .rw[KL];by_cases c:p.1=k/\p.2.2=(b:Int)
  .rw[if_pos c];obtain⟨c1,c2⟩:=c;have hp:=h.pc p (by simp);refine⟨⟨λx hx=>?_,?_⟩,by simp,λj=>?_,λj=>?_⟩
   .rcases mem_append.mp hx with q|q
    .have:=h.pc x (by simp[q]);exact⟨this.1,this.2.1,this.2.2.1,by omega⟩
    .rw[mem_singleton]at q;subst q;rw[c1]at hp;exact⟨hk,hp.2.1,by show p.2.1<(e:Int);omega,by show(e:Int)<=(e:Int);omega⟩
   .have pw:=h.pw;rw[List.pairwise_append]at pw ⊢;refine⟨pw.1,List.pairwise_singleton _ _,λx hx q hq=>?_⟩;rw[mem_singleton]at hq;subst hq;exact pw.2.2 x hx p (by simp)
   .rw[HW,HW,c1];show Pl.dn P' j+(if k=j then(e:Int)-p.2.1 else 0)=_;split<;>omega
   .show Pl.last _ j 0=if k=j then(e:Int)else Pl.last _ j 0;rw[F8,F8,c1];show(if k=j then(e:Int)else _)=_;split<;>rfl
  .rw[if_neg c];exact plain
def MN{p q:Nat->Bool}:∀{L:List Nat},(∀i∈L,p i=true->q i=true)->L.countP p<=L.countP q:=λh=>List.countP_mono_left h
theorem MM{p q:Nat->Bool}:∀{L:List Nat},(∀i∈L,p i=true->q i=true)->(∃i∈L,q i=true/\p i=false)->L.countP p<L.countP q
 |[],_,h=>by obtain⟨_,h,_⟩:=h;cases h
 |x::r,h,⟨i,hi,h1,h2⟩=>by
  rw[List.countP_cons,List.countP_cons];rcases mem_cons.mp hi with rfl|hi
  .have:=MN (p:=p) (q:=q) (L:=r) λj hj=>h j (by simp[hj]);rw[h1,h2];simp;omega
  .have ih:=MM (p:=p) (q:=q) (L:=r) (λj hj=>h j (by simp[hj])) ⟨i,hi,h1,h2⟩;have hx:=h x (by simp);by_cases px:p x=true
   .rw[px,hx px];simp;omega
   .have px:p x=false:=by simpa using px
    rw[px];simp;split<;>omega
def mu(n:Nat)(cm lf:Nat->Nat)(t:Nat):Nat:=(List.range n).countP (λj=>decide (0<lf j))+(List.range n).countP (λj=>decide (0<lf j/\t<cm j))
structure St(n:Nat)(ln cm:Nat->Nat)(lf:Nat->Nat)(P:List Pc)(t:Nat)(G:Nat->Nat->Nat):Prop where
 H:Hist n ln cm G t
 gl:∀j,G t j=lf j
 ps:Pcs n cm P t
 dn:∀j,j<n->Pl.dn P j+(lf j:Int)=(ln j:Int)
 en:∀j,j<n->lf j=0->∀τ,τ<=t->(G τ j=0↔Pl.E P j<=(τ:Int))
structure Tn(n:Nat)(cm lf:Nat->Nat)(t t' k s:Nat):Prop where
 tt:t<=t'
 idle:t<t'->∀j,j<n->0<lf j->t'<=cm j
 kn:k<n
 k0:0<lf k
 kc:cm k<=t'
 km:∀j,j<n->0<lf j->cm j<=t'->lf k<lf j∨lf k=lf j/\k<=j
 s0:t'<s
 s1:s<=t'+lf k
 s2:∀j,j<n->0<lf j->t'<cm j->s<=cm j
 s3:s=t'+lf k∨∃j,j<n/\0<lf j/\t'<cm j/\s=cm j
theorem Sy{n:Nat}{ln cm:Nat->Nat}{G:Nat->Nat->Nat}{t:Nat}(H:Hist n ln cm G t)(j:Nat):∀d τ,τ+d<=t->G (τ+d) j<=G τ j
 |0,τ,_=>le_refl _
 |d+1,τ,h=>by
  have ih:=Sy H j d τ (by omega);rcases H.st (τ+d) (by omega)with⟨_,e⟩|⟨k,_,_,_,_,e⟩
  .have:=e j;rw[show τ+(d+1)=τ+d+1 by omega];omega
  .have:=e j;rw[show τ+(d+1)=τ+d+1 by omega,this];split<;>omega
def St.turn{n:Nat}{ln cm lf:Nat->Nat}{P:List Pc}{t:Nat}{G:Nat->Nat->Nat}(S:St n ln cm lf P t G){t' k s:Nat}(X:Tn n cm lf t t' k s):
 (∃G',St n ln cm (λj=>if j=k then lf j-(s-t')else lf j) (Ew P k (t':Int) (s:Int)) s G')/\(Ew P k (t':Int) (s:Int)).length<=P.length+1/\mu n cm (λj=>if j=k then lf j-(s-t')else lf j) s<mu n cm lf t:=by
 obtain⟨p1,p2,p3,p4⟩:=S.ps.add X.kn X.kc X.tt X.s0;have tt:=X.tt;have s0:=X.s0;have s1:=X.s1;have k0:=X.k0;refine⟨⟨λτ j=>if τ<=t then G τ j else if j=k then lf j-(τ-t')else lf j,?_⟩,p2,?_⟩
 .have gt:∀τ,t<=τ->∀j,(if τ<=t then G τ j else if j=k then lf j-(τ-t')else lf j)=if j=k then lf j-(τ-t')else lf j:=λτ h j=>by
   by_cases q:τ<=t
   .have:τ=t:=by omega
    subst this;rw[if_pos q,S.gl];split
    .omega
    .rfl
   .rw[if_neg q]
  have Hn:Hist n ln cm (λτ j=>if τ<=t then G τ j else if j=k then lf j-(τ-t')else lf j) s:=by
   refine⟨λj=>(if_pos (zero_le _)).trans (S.H.g0 j),λτ hτ=>?_⟩
   try dsimp only
   by_cases a1:τ<t
   .have e1:∀j,(if τ<=t then G τ j else if j=k then lf j-(τ-t')else lf j)=G τ j:=λj=>if_pos (by omega);have e2:∀j,(if τ+1<=t then G (τ+1) j else if j=k then lf j-(τ+1-t')else lf j)=G (τ+1) j:=λj=>if_pos (by omega);simp only[e1,e2];exact S.H.st τ a1
   .simp only[gt τ (by omega),gt (τ+1) (by omega)];by_cases a2:τ<t'
    .refine .inl ⟨λj hj hc=>?_,λj=>by split<;>omega⟩;have z:lf j=0:=by
      refine Classical.byContradiction λh0=>?_;have:=X.idle (by omega) j hj (by omega);omega
     split<;>omega
    .refine .inr ⟨k,X.kn,by have:=X.kc;omega,by rw[if_pos rfl];omega,λj hj hc h0=>?_,λj=>?_⟩
     .rw[if_pos rfl];by_cases q:j=k
      .subst q;rw[if_pos rfl];exact .inr ⟨rfl,le_refl _⟩
      .rw[if_neg q]at h0 ⊢;have:cm j<=t':=by
        refine Classical.byContradiction λh1=>?_;have:=X.s2 j hj h0 (by omega);omega
       have:=X.km j hj h0 this;omega
     .by_cases q:j=k
      .rw[if_pos q,if_pos q,if_pos q];omega
      .rw[if_neg q,if_neg q,if_neg q]
  refine⟨Hn,λj=>?_,p1,λj hj=>?_,λj hj h0 τ hτ=>?_⟩
  .rw[gt s (by omega)]
  .have h1:=S.dn j hj;have h2:=p3 j;by_cases q:j=k
   .subst q;rw[if_pos rfl]at h2 ⊢;omega
   .rw[if_neg (λe=>q e.symm)]at h2;rw[if_neg q];omega
  .have h2:=p4 j
   try dsimp only
   by_cases q:j=k
   .subst q;rw[if_pos rfl]at h0 h2;rw[h2];by_cases a1:τ<=t
    .rw[if_pos a1];have:=Sy S.H j (t-τ) τ (by omega);rw[show τ+(t-τ)=t by omega,S.gl]at this;constructor
     .intro z;omega
     .intro z;omega
    .rw[if_neg a1,if_pos rfl];constructor
     .intro z;omega
     .intro z;omega
   .rw[if_neg q]at h0;rw[if_neg (λe=>q e.symm)]at h2;rw[h2];by_cases a1:τ<=t
    .rw[if_pos a1];exact S.en j hj h0 τ a1
    .rw[if_neg a1,if_neg q];have:=(S.en j hj h0 t (le_refl _)).mp (by rw[S.gl];exact h0);constructor
     .intro _;omega
     .intro _;exact h0
 .unfold mu;dsimp only;have le1:(List.range n).countP (λj=>decide (0<if j=k then lf j-(s-t')else lf j))<=(List.range n).countP (λj=>decide (0<lf j)):=MN λi hi h=>by
   simp only[decide_eq_true_eq]at h ⊢;split at h<;>omega
  have le2:(List.range n).countP (λj=>decide ((0<if j=k then lf j-(s-t')else lf j)/\s<cm j))<=(List.range n).countP (λj=>decide (0<lf j/\t<cm j)):=MN λi hi h=>by
   simp only[decide_eq_true_eq]at h ⊢;refine⟨?_,by omega⟩;have:=h.1;split at this<;>omega
  rcases X.s3 with e|⟨j,jn,j0,jc,e⟩
  .have:(List.range n).countP (λj=>decide (0<if j=k then lf j-(s-t')else lf j))<(List.range n).countP (λj=>decide (0<lf j)):=by
    refine MM (λi hi h=>?_) ⟨k,by simpa using X.kn,by simpa using k0,?_⟩
    .simp only[decide_eq_true_eq]at h ⊢;split at h<;>omega
    .simp only[decide_eq_false_iff_not,if_true];omega
   omega
  .have:(List.range n).countP (λj=>decide ((0<if j=k then lf j-(s-t')else lf j)/\s<cm j))<(List.range n).countP (λj=>decide (0<lf j/\t<cm j)):=by
    refine MM (λi hi h=>?_) ⟨j,by simpa using jn,by simp only[decide_eq_true_eq];omega,?_⟩
    .simp only[decide_eq_true_eq]at h ⊢;refine⟨?_,by omega⟩;have:=h.1;split at this<;>omega
    .simp only[decide_eq_false_iff_not];omega
   omega
def St.start(n:Nat)(ln cm:Nat->Nat)(h:∀j,j<n->1<=ln j):St n ln cm ln [] 0 λ_ j=>ln j:=by
 refine⟨⟨λj=>rfl,λτ h=>by omega⟩,λj=>rfl,⟨by simp,List.Pairwise.nil⟩,λj hj=>by simp[Pl.dn],λj hj h0=>by have:=h j hj;omega⟩
open S7
def VQ{ns:List Int}(hne:ns≠[]):∃m,FI (AU ns)=some (.im (.int m))/\m∈ns/\∀x∈ns,m<=x:=by
 have e:Al (AU ns)=some ns:=by
  clear hne
  induction ns with
  |nil=>rfl
  |cons n r ih=>simp[AU]at ih ⊢
 obtain⟨m1,m2⟩:=Gm hne;exact⟨Ft ns,by unfold FI;rw[e];simp[hne],m1,m2⟩
def Tk{mo mi me:ME}{f:Int->Int->Int}{ls:Ls}{hd:Hd}{QS:Fl->Hd->Prop}(h:WE mo ls hd λd x=>WE mi ls x λi y=>∃n k ds j v,d=.mu n/\i=.im (.int k)/\y[n]?=some (.lst ds)/\ixN ds.length k=some j/\ds[j]?=some (.im (.int v))/\WE me ls y λr z=>∃u ds',r=.im (.int u)/\z[n]?=some (.lst ds')/\ds'.length=ds.length/\QS (.nx ls) (z.set n (.lst (ds'.set j (.im (.int (f v u))))))):WS (Fw mo mi me f) ls hd QS:=by
 obtain⟨d,x,e1,i,y,e2,n,k,ds,j,v,rfl,rfl,e3,e4,e5,r,z,e6,u,ds',rfl,e7,e8,q⟩:=h;refine⟨_,_,?_,q⟩;unfold Fw;simp only[e1,bind_some,e2,e3,e4,e5,e6,e7,e8,if_true]
def W3{ma mb:ME}{ls:Ls}{hd:Hd}{QA:List D->Hd->Prop}(h:WE ma ls hd λd x=>WE mb ls x λe y=>∃i j xs ys,d=.mu i/\e=.mu j/\y[i]?=some (.lst xs)/\y[j]?=some (.lst ys)/\CF (xs.length+ys.length)/\QA (xs++ys) y):WA (IL ma mb) ls hd QA:=by
 obtain⟨d,x,e1,e,y,e2,i,j,xs,ys,rfl,rfl,e3,e4,c,q⟩:=h;exact⟨_,_,by simp[IL,e1,e2,e3,e4,c],q⟩
def lnN(ws:List Wk)(k:Nat):Nat:=(((ws[k]?).map Wk.len).getD 0).toNat
def cmN(ws:List Wk)(k:Nat):Nat:=(((ws[k]?).map Wk.com).getD 0).toNat
def DJ{w:Int}{ws:List Wk}(W:EW w ws){k:Nat}(hk:k<ws.length):(ws[k].len)=(lnN ws k:Int)/\1<=lnN ws k/\lnN ws k<=20:=by
 have:=(W.ea _ (List.getElem_mem hk)).1;simp only[lnN,List.getElem?_eq_getElem hk,map_some,getD_some];omega
def Eu{w:Int}{ws:List Wk}(W:EW w ws){k:Nat}(hk:k<ws.length):(ws[k].com)=(cmN ws k:Int)/\cmN ws k<=60:=by
 have:=(W.ea _ (List.getElem_mem hk)).2.1;simp only[cmN,List.getElem?_eq_getElem hk,map_some,getD_some];omega
abbrev Au(n:Nat)(f:Nat->Nat):List D:=(List.range n).map λk=>D.im (.int (f k:Int))
def row_at{n:Nat}{f:Nat->Nat}{k:Nat}(hk:k<n):atI (Au n f) (k:Int)=some (.im (.int (f k:Int))):=GE rfl (by simp[hk])
def NE{n:Nat}{f:Nat->Nat}{k v:Nat}(hk:k<n):(Au n f).set k (.im (.int (v:Int)))=Au n λj=>if j=k then v else f j:=by
 refine ext_getElem? λi=>?_;by_cases hi:i<n
 .rw[List.getElem?_set];by_cases q:k=i
  .subst q;simp[hi]
  .rw[if_neg q];have q':¬ i=k:=λz=>q z.symm;simp[hi,q']
 .rw[List.getElem?_eq_none (by simp;omega),List.getElem?_eq_none (by simp;omega)]
def Je(p:Nat->Prop)[DecidablePred p](g:Nat->Nat)(L:List Nat):(L.filterMap λk=>if p k then some (D.im (.int (g k:Int)))else none)=((L.filter λk=>decide (p k)).map g).map λk:Nat=>D.im (.int (k:Int)):=by
 induction L with
 |nil=>rfl
 |cons x r ih=>
  rw[filterMap_cons,filter_cons];by_cases h:p x
  .rw[if_pos h,decide_eq_true h,if_pos rfl,ih];rfl
  .rw[if_neg h,decide_eq_false h,if_neg (by simp),ih]
def SS(L:List Nat):(L.map λk:Nat=>D.im (.int (k:Int)))=AU (L.map λk:Nat=>(k:Int)):=by simp[AU]
def NU{L:List Nat}(h:L≠[]):∃m:Nat,FI (L.map λk:Nat=>D.im (.int (k:Int)))=some (.im (.int (m:Int)))/\m∈L/\∀x∈L,m<=x:=by
 obtain⟨m,e,h1,h2⟩:=VQ (ns:=L.map λk:Nat=>(k:Int)) (by simpa using h);rw[<- SS]at e;obtain⟨k,hk,rfl⟩:=mem_map.mp h1;exact⟨k,e,hk,λx hx=>by have:=h2 (x:Int) (mem_map.mpr ⟨x,hx,rfl⟩);omega⟩
abbrev Lr(ws:List Wk)(t:Nat)(z6 z7 z8:Option D):Ls:=[some (.im (Ag ws)),some (.mu 0),some (.fv 0 []),some (.mu 1),some (.mu 2),some (.im (.int (t:Int))),z6,z7,z8]
abbrev Hr(ws:List Wk)(lf:Nat->Nat)(P:List Pc)(g:Hd):Hd:=.lst (Au ws.length (cmN ws))::.lst (Au ws.length lf)::.lst (pcD P)::g
inductive I_r(ws:List Wk)(m:Nat)(ls:Ls)(hd:Hd):Prop
 |mk (lf:Nat->Nat) (P:List Pc) (t:Nat) (G:Nat->Nat->Nat) (g:Hd) (z6 z7 z8:Option D) (em:m=mu ws.length (cmN ws) lf t) (el:ls=Lr ws t z6 z7 z8) (eh:hd=Hr ws lf P g) (S:St ws.length (lnN ws) (cmN ws) lf P t G) (pl:P.length+m<=16):I_r ws m ls hd
def Zh{ws:List Wk}{lf:Nat->Nat}{P:List Pc}{g:Hd}{k:Nat}(hk:k<ws.length):(Ad (A2 (DI (A0 1) (A2 (A0 0) (A2 (mOp gIx (A0 2) (A0 0)) A5))) (A2 (A0 0) A5))) [some (.im (.int (k:Int))),some (.fv 0 []),some (.mu 1)] (Hr ws lf P g)=some (.im (.tup [.int (lf k:Int),.int (k:Int)]),Hr ws lf P g):=by
 have w:WE (Ad (A2 (DI (A0 1) (A2 (A0 0) (A2 (mOp gIx (A0 2) (A0 0)) A5))) (A2 (A0 0) A5))) [some (.im (.int (k:Int))),some (.fv 0 []),some (.mu 1)] (Hr ws lf P g) λd x=>d=.im (.tup [.int (lf k:Int),.int (k:Int)])/\x=Hr ws lf P g:=by
  refine B5 (A3 (Qn (A1 rfl ⟨rfl,A3 (A1 rfl (A3 (A7 (A1 rfl (A1 rfl (AH (ds:=Au ws.length lf) rfl (row_at hk) (A4 ⟨_,_,rfl,A3 (A1 rfl (A4 ⟨CK,rfl,rfl⟩))⟩)))))))⟩)))
 obtain⟨d,x,e,rfl,rfl⟩:=w;exact e
def hnG{a b c:MO}{g:Hd}{x:MO}:(a::b::c::(g++[x]))[(a::b::c::g).length]?=some x:=by simp
def lvG{a b c:MO}{g:Hd}{ds:List D}:Ak (a::b::c::(g++[.lst ds])) (.mu (a::b::c::g).length)=some ds:=by simp[Ak]
abbrev Bo(L:List Nat):List D:=L.map λk:Nat=>D.im (.int (k:Int))
def kfL(lf:Nat->Nat):D->Int×Int
 |.im (.int k)=>((lf k.toNat:Int),k)
 |_=>(0,0)
abbrev ZX:MS:=(AD (AQ 6 (B3 (Ac 1 [3] (DG (A2 (mCB (f1 true Ay) (A2 (A0 0) A5)) A5)) (AB 0) (AF (mOp gGt (mOp gIx (A0 1) (A0 0)) (mC (.int 0)))) (A0 0))))
 (AD (AQ 5 (mCB G8 (A2 (A0 5) (A2 (BB FI (Ac 1 [1] (CS (A0 6)) (AB 0) BE (mOp gIx (A0 1) (A0 0)))) A5))))
 (AD (AQ 7 (Ej (B3 (Ac 1 [1,5] (CS (A0 6)) (AB 0) (AF (mOp gLe (mOp gIx (A0 1) (A0 0)) (A0 2))) (A0 0))) [2,3] (Ad (A2 (DI (A0 1) (A2 (A0 0) (A2 (mOp gIx (A0 2) (A0 0)) A5))) (A2 (A0 0) A5)))))
 (AD (AQ 8 (BB FI (IL (B3 (CZ (A2 (mOp Aq (A0 5) (mOp gIx (A0 3) (A0 7))) A5))) (B3 (Ac 1 [1,5] (CS (A0 6)) (AB 0) (AF (mOp gGt (mOp gIx (A0 1) (A0 0)) (A0 2))) (mOp gIx (A0 1) (A0 0)))))))
 (AD (BU (CJ Cw (A2 (A0 4) (A2 (A0 7) (A2 (A0 5) (A2 (A0 8) A5))))))
 (AD (Fw (A0 3) (A0 7) (mOp BV (A0 8) (A0 5)) (λi j=>i-j))
 (AQ 5 (A0 8))))))))
set_option maxHeartbeats 2000000 in
def W8{w:Int}{ws:List Wk}(W:EW w ws){lf:Nat->Nat}{P:List Pc}{t:Nat}{G:Nat->Nat->Nat}{g:Hd}{z6 z7 z8:Option D}(S:St ws.length (lnN ws) (cmN ws) lf P t G)(pl:P.length<=16)(some1:∃j,j<ws.length/\0<lf j){Q:Fl->Hd->Prop}
 (hQ:∀t' k s g z6 z7 z8,Tn ws.length (cmN ws) lf t t' k s->Q (.nx (Lr ws s z6 z7 z8)) (Hr ws (λj=>if j=k then lf j-(s-t')else lf j) (Ew P k (t':Int) (s:Int)) g)):WS ZX (Lr ws t z6 z7 z8) (Hr ws lf P g) Q:=by
 have n8:=W.n8;obtain⟨j0,j0n,j00⟩:=some1
 -- undone
 refine A8 (AO (Ba (Ao (JF (A3 (B6 (A3 (A1 rfl (A4 (BC (ds:=(ws.map Bu).map D.im) (z:=.im (.int (ws.length:Int))) rfl (by simp[Ay]) (A4 ⟨_,rfl,ER (by omega) (by omega),?_⟩)))))))))));rw[toNat_natCast,Fo];refine⟨AZ (by simp;omega),?_⟩;refine Aw (xs:=List.range ws.length) (λk:Nat=>D.im (.int (k:Int))) (λk=>if 0<lf k then some (.im (.int ((id k:Nat):Int)))else none) (λ_ ls=>∃x,ls=[some x,some (.mu 1)]) _ (AK _) ?_ ?_
 .rintro k hk ls hls;have hk:k<ws.length:=by simpa using hk
  refine⟨[some (.im (.int (k:Int))),some (.mu 1)],by rcases hls with rfl|⟨_,x,rfl⟩<;>rfl,⟨_,rfl⟩,?_⟩;refine AI (A7 (A7 (A1 rfl (A1 rfl (AH (ds:=Au ws.length lf) rfl (row_at hk) (AG (Ex ⟨_,rfl,rfl,?_⟩)))))));by_cases h:0<lf k
  .rw[if_pos (by simpa using h),if_pos h];exact⟨_,rfl,A1 rfl ⟨rfl,rfl⟩⟩
  .rw[if_neg (by simpa using h),if_neg h]
 rw[Je (λk=>0<lf k) id,map_id];refine A6 ?_;have hU:∀k,k∈(List.range ws.length).filter (λk=>decide (0<lf k))↔k<ws.length/\0<lf k:=λk=>by simp
 have lU:((List.range ws.length).filter λk=>decide (0<lf k)).length<=8:=by
  have:((List.range ws.length).filter λk=>decide (0<lf k)).length<=(List.range ws.length).length:=List.length_filter_le _ _;simp at this;omega
 generalize (List.range ws.length).filter (λk=>decide (0<lf k))=U at hU lU;have jU:j0∈U:=(hU j0).mpr ⟨j0n,j00⟩;have neU:U≠[]:=λh=>by rw[h]at jU;cases jU
 change WS _ (Lr ws t (some (.mu (Hr ws lf P g).length)) z7 z8) (Hr ws lf P (g++[.lst (Bo U)])) _
 -- t
 obtain⟨m,em,m1,m2⟩:=NU (L:=U.map (cmN ws)) (by simpa using neU);refine A8 (AO (B6 (A3 (A1 rfl (A3 (Bl (Ao (Hv (A1 rfl ⟨_,Bo U,rfl,hnG,AZ (by simp;omega),?_⟩)))))))));refine Aw (xs:=U) (λk:Nat=>D.im (.int (k:Int))) (λk=>some (.im (.int (cmN ws k:Int)))) (λ_ ls=>∃x,ls=[some x,some (.mu 0)]) _ (by intro p hp;rw[mem_singleton]at hp;subst hp;exact hnG) ?_ ?_
 .rintro k hk ls hls;refine⟨[some (.im (.int (k:Int))),some (.mu 0)],by rcases hls with rfl|⟨_,x,rfl⟩<;>rfl,⟨_,rfl⟩,BH ⟨rfl,?_⟩⟩;rw[if_pos rfl];exact⟨_,rfl,A7 (A1 rfl (A1 rfl (AH (ds:=Au ws.length (cmN ws)) rfl (row_at ((hU k).mp hk).1) ⟨rfl,rfl⟩)))⟩
 have e1:(U.filterMap λk=>some (D.im (.int (cmN ws k:Int))))=(U.map (cmN ws)).map λk:Nat=>D.im (.int (k:Int)):=by simp
 rw[e1];refine⟨_,em,A4 (Tl (A6 ?_))⟩;obtain⟨t',ht'⟩:∃t',t'=max t m:=⟨_,rfl⟩
 rw[show max (t:Int) (m:Int)=(t':Int) by omega];have mU:∃j,j<ws.length/\0<lf j/\cmN ws j=m:=by
  obtain⟨j,hj,e⟩:=mem_map.mp m1;exact⟨j,((hU j).mp hj).1,((hU j).mp hj).2,e⟩
 have mle:∀j,j<ws.length->0<lf j->m<=cmN ws j:=λj h1 h2=>m2 _ (mem_map.mpr ⟨j,(hU j).mpr ⟨h1,h2⟩,rfl⟩);generalize ea6:(Hr ws lf P g).length=a6;have ea6:a6=3+g.length:=by rw[<- ea6];simp;omega
 change WS _ (Lr ws t' (some (.mu a6)) z7 z8) _ _;have h6:∀(lf':Nat->Nat) (P':List Pc) (g':Hd),(Hr ws lf' P' (g++.lst (Bo U)::g'))[a6]?=some (.lst (Bo U)):=λlf' P' g'=>by rw[ea6,show 3+g.length=g.length+3 by omega];simp
 -- the work
 refine A8 (AO (Qp (Ba (Ao (Hv (A1 rfl ⟨_,Bo U,rfl,h6 lf P [],AZ (by simp;omega),?_⟩))))));refine Aw (xs:=U) (λk:Nat=>D.im (.int (k:Int))) (λk=>if cmN ws k<=t' then some (.im (.int ((id k:Nat):Int)))else none) (λ_ ls=>∃x,ls=[some x,some (.mu 0),some (.im (.int (t':Int)))]) _ (by intro p hp;rw[mem_singleton]at hp;subst hp;exact h6 lf P []) ?_ ?_
 .rintro k hk ls hls;refine⟨[some (.im (.int (k:Int))),some (.mu 0),some (.im (.int (t':Int)))],by rcases hls with rfl|⟨_,x,rfl⟩<;>rfl,⟨_,rfl⟩,?_⟩;refine AI (A7 (A7 (A1 rfl (A1 rfl (AH (ds:=Au ws.length (cmN ws)) rfl (row_at ((hU k).mp hk).1) (A1 rfl (IW ⟨_,rfl,rfl,?_⟩)))))));by_cases h:cmN ws k<=t'
  .rw[if_pos (by simpa using h),if_pos h];exact⟨_,rfl,A1 rfl ⟨rfl,rfl⟩⟩
  .rw[if_neg (by simpa using h),if_neg h]
 rw[Je (λk=>cmN ws k<=t') id,map_id];have hV:∀k,k∈U.filter (λk=>decide (cmN ws k<=t'))↔(k<ws.length/\0<lf k)/\cmN ws k<=t':=λk=>by rw[mem_filter,hU];simp
 have neV:U.filter (λk=>decide (cmN ws k<=t'))≠[]:=λh=>by
  obtain⟨j,h1,h2,h3⟩:=mU;have:=(hV j).mpr ⟨⟨h1,h2⟩,by omega⟩;rw[h]at this;cases this
 generalize U.filter (λk=>decide (cmN ws k<=t'))=V at hV neV;cases V with
 |nil=>exact absurd rfl neV
 |cons v0 vs=>
 obtain⟨g2,eg2⟩:∃g2,g2=g++[.lst (Bo U)]:=⟨_,rfl⟩
 rw[<- eg2];have h6':∀(lf':Nat->Nat) (P':List Pc) (g':Hd),(Hr ws lf' P' (g2++g'))[a6]?=some (.lst (Bo U)):=λlf' P' g'=>by rw[eg2,append_assoc];exact h6 lf' P' g'
 refine⟨D.im (.int (v0:Int)),Bo vs,kfL lf,lvG,λy hy=>?_,?_⟩
 .have hy:y∈Bo (v0::vs):=hy;obtain⟨k,hk,rfl⟩:=mem_map.mp hy;have:=Zh (ws:=ws) (lf:=lf) (P:=P) (g:=g2++[.lst (Bo (v0::vs))]) ((hV k).mp hk).1.1;simp only[kfL,toNat_natCast];exact this
 have bm:=FB (kfL lf) (Bo vs) (D.im (.int (v0:Int)));generalize BL (Bo vs) ((Bo vs).map (kfL lf)) (D.im (.int (v0:Int))) (kfL lf (D.im (.int (v0:Int))))=db at bm ⊢;obtain⟨b1,b2⟩:=bm;obtain⟨k,hk,rfl⟩:=mem_map.mp (show db∈Bo (v0::vs)from b1);have km:∀j∈v0::vs,lf k<lf j∨lf k=lf j/\k<=j:=λj hj=>by
  have:=b2 (D.im (.int (j:Int))) (show _∈Bo (v0::vs)from mem_map.mpr ⟨j,hj,rfl⟩);unfold leP ltZ at this;have:=of_decide_eq_false this;simp only[kfL,toNat_natCast]at this;omega
 obtain⟨⟨kn,k0⟩,kc⟩:=(hV k).mp hk;refine A6 ?_;change WS _ (Lr ws t' (some (.mu a6)) (some (.im (.int (k:Int)))) z8) (Hr ws lf P (g2++[.lst (Bo (v0::vs))])) _;generalize Bo (v0::vs)=vD;obtain⟨g3,eg3⟩:∃g3,g3=g2++[.lst vD]:=⟨_,rfl⟩
 rw[<- eg3];have h6a:∀(lf':Nat->Nat) (P':List Pc) (g':Hd),(Hr ws lf' P' (g3++g'))[a6]?=some (.lst (Bo U)):=λlf' P' g'=>by rw[eg3,append_assoc];exact h6' lf' P' _
 -- the stop
 refine A8 (AO (Bl (W3 (Ba (DC (A3 (A7 (A1 rfl (A7 (A1 rfl (A1 rfl (AH (ds:=Au ws.length lf) rfl (row_at kn) (Bk (A4 ⟨Gv,?_⟩))))))))))))));refine Ba (Ao (Hv (A1 rfl ⟨_,Bo U,rfl,h6a lf P _,AZ (by simp;omega),?_⟩)));refine Aw (xs:=U) (λk:Nat=>D.im (.int (k:Int))) (λk=>if t'<cmN ws k then some (.im (.int (cmN ws k:Int)))else none) (λ_ ls=>∃x,ls=[some x,some (.mu 0),some (.im (.int (t':Int)))]) _ (by intro p hp;rw[mem_singleton]at hp;subst hp;exact h6a lf P _) ?_ ?_
 .rintro j hj ls hls;refine⟨[some (.im (.int (j:Int))),some (.mu 0),some (.im (.int (t':Int)))],by rcases hls with rfl|⟨_,x,rfl⟩<;>rfl,⟨_,rfl⟩,?_⟩;refine AI (A7 (A7 (A1 rfl (A1 rfl (AH (ds:=Au ws.length (cmN ws)) rfl (row_at ((hU j).mp hj).1) (A1 rfl (Ex ⟨_,rfl,rfl,?_⟩)))))));by_cases h:t'<cmN ws j
  .rw[if_pos (by simpa using h),if_pos h];exact⟨_,rfl,A7 (A1 rfl (A1 rfl (AH (ds:=Au ws.length (cmN ws)) rfl (row_at ((hU j).mp hj).1) ⟨rfl,rfl⟩)))⟩
  .rw[if_neg (by simpa using h),if_neg h]
 rw[Je (λk=>t'<cmN ws k) (cmN ws)];have hB:∀x,x∈(U.filter λk=>decide (t'<cmN ws k)).map (cmN ws)↔∃j,j<ws.length/\0<lf j/\t'<cmN ws j/\cmN ws j=x:=λx=>by
  rw[mem_map];constructor
  .rintro⟨j,hj,e⟩;obtain⟨h1,h2⟩:=mem_filter.mp hj;exact⟨j,((hU j).mp h1).1,((hU j).mp h1).2,by simpa using h2,e⟩
  .rintro⟨j,h1,h2,h3,e⟩;exact⟨j,mem_filter.mpr ⟨(hU j).mpr ⟨h1,h2⟩,by simpa using h3⟩,e⟩
 have lB:((U.filter λk=>decide (t'<cmN ws k)).map (cmN ws)).length<=8:=by
  rw[length_map];exact le_trans (List.length_filter_le _ _) lU
 generalize (U.filter λk=>decide (t'<cmN ws k)).map (cmN ws)=B at hB lB;obtain⟨s,es,s1,s2⟩:=NU (L:=(t'+lf k)::B) (by simp);refine⟨_,_,[.im (.int ((t':Int)+(lf k:Int)))],Bo B,rfl,rfl,(by rw[List.getElem?_append_left (by simp)];simp),(by simp),AZ (by simp;omega),?_⟩;have ecat:[D.im (.int ((t':Int)+(lf k:Int)))]++Bo B=((t'+lf k)::B).map λk:Nat=>D.im (.int (k:Int)):=by simp
 rw[ecat];refine⟨_,es,A6 ?_⟩;have X:Tn ws.length (cmN ws) lf t t' k s:=by
  refine⟨by omega,λh j h1 h2=>by have:=mle j h1 h2;omega,kn,k0,kc,λj h1 h2 h3=>km j ((hV j).mpr ⟨⟨h1,h2⟩,h3⟩),?_,s2 _ (by simp),λj h1 h2 h3=>s2 _ (mem_cons_of_mem _ ((hB _).mpr ⟨j,h1,h2,h3,rfl⟩)),?_⟩
  .rcases mem_cons.mp s1 with e|e
   .omega
   .obtain⟨j,_,_,h3,e⟩:=(hB s).mp e;omega
  .rcases mem_cons.mp s1 with e|e
   .exact .inl e
   .obtain⟨j,h1,h2,h3,e⟩:=(hB s).mp e;exact .inr ⟨j,h1,h2,h3,e.symm⟩
 obtain⟨g4,eg4⟩:∃g4,g4=g3++[MO.lst [.im (.int ((t':Int)+(lf k:Int)))],.lst (Bo B)]:=⟨_,rfl⟩
 have eh:(Hr ws lf P g3++[MO.lst [.im (.int ((t':Int)+(lf k:Int)))]])++[MO.lst (Bo B)]=Hr ws lf P g4:=by rw[eg4];simp
 rw[eh];clear eh eg4;change WS _ (Lr ws t' (some (.mu a6)) (some (.im (.int (k:Int)))) (some (.im (.int (s:Int))))) (Hr ws lf P g4) _;refine A8 (BS (EY (A3 (A1 rfl (A3 (A1 rfl (A3 (A1 rfl (A3 (A1 rfl (A4 ((N0 (P:=P) (i:=2) rfl (by omega) k (t':Int) (s:Int)).mono ?_))))))))))));rintro d x ⟨rfl,rfl⟩;refine A6 ?_;change WS _ _ (Hr ws lf (Ew P k (t':Int) (s:Int)) g4) _;have ss:=X.s0;have s9:=X.s1;refine A8 (Tk (A1 rfl (A1 rfl ⟨1,(k:Int),Au ws.length lf,k,(lf k:Int),rfl,rfl,rfl,?_,?_,A7 (A1 rfl (A1 rfl (CV ⟨_,Au ws.length lf,rfl,rfl,rfl,A6 (AO (A1 rfl ?_))⟩)))⟩)))
 .unfold ixN;rw[if_pos (by omega),if_pos (by simp;omega)];simp
 .simp[kn]
 .have e9:(lf k:Int)-((s:Int)-(t':Int))=((lf k-(s-t'):Nat):Int):=by omega
  rw[e9,NE kn];have e8:Au ws.length (λj=>if j=k then lf k-(s-t')else lf j)=Au ws.length (λj=>if j=k then lf j-(s-t')else lf j):=by
   refine map_congr_left λj _=>?_;dsimp only;by_cases q:j=k
   .subst q;rfl
   .rw[if_neg q,if_neg q]
  rw[e8];exact hQ t' k s g4 _ _ _ X
structure Lp(ws:List Wk)(P:List Pc):Prop where
 ex:∃lf t G,St ws.length (lnN ws) (cmN ws) lf P t G/\∀j,j<ws.length->lf j=0
 le:P.length<=16
def ZV(n:Nat)(cm lf:Nat->Nat)(t:Nat):mu n cm lf t<=2*n:=by
 unfold mu;have h1:=List.countP_le_length (p:=λj=>decide (0<lf j)) (l:=List.range n);have h2:=List.countP_le_length (p:=λj=>decide (0<lf j/\t<cm j)) (l:=List.range n);simp only[length_range]at h1 h2;omega
def Vu(n:Nat)(lf:Nat->Nat):Iy (Au n lf)=some (.im (.bl (decide (∃j,j<n/\0<lf j)))):=by
 have e:Au n lf=((List.range n).map λk=>(lf k:Int)).map λi=>D.im (.int i):=by simp
 unfold Iy;rw[e,Ce,map_some]
 congr 3
 rw[Bool.eq_iff_iff];simp only[List.any_map,List.any_eq_true,List.mem_range,decide_eq_true_eq,Function.comp,bne_iff_ne];constructor
 .rintro⟨j,h1,h2⟩;exact⟨j,h1,by omega⟩
 .rintro⟨j,h1,h2⟩;exact⟨j,h1,by omega⟩
def Rk{w:Int}{ws:List Wk}(W:EW w ws):WF D5 [.im (Ag ws),.mu 0,.fv 0 []] [.lst (Au ws.length (cmN ws))] λd _=>∃P,d=.im (.tup (P.map Bb))/\Lp ws P:=by
 have n8:=W.n8;unfold D5;refine Ab rfl ?_;refine A8 (AO (Ba (Ao (BG (A1 rfl ⟨_,rfl,?_⟩)))));rw[Dx];refine⟨AZ (by simp;omega),?_⟩;refine Aw wkD (λz=>some (.im (.int z.len))) (λ_ ls=>∃x,ls=[some x]) _ (AK _) ?_ ?_
 .rintro z hz ls hls;refine⟨[some (wkD z)],by rcases hls with rfl|⟨_,x,rfl⟩<;>rfl,⟨_,rfl⟩,BH ⟨rfl,?_⟩⟩;rw[if_pos rfl];exact⟨_,rfl,A7 (A1 rfl (AG (AH rfl (Ev _ _) ⟨rfl,rfl⟩)))⟩
 have e0:(ws.filterMap λz=>some (D.im (.int z.len)))=Au ws.length (lnN ws):=by
  refine ext_getElem? λi=>?_;by_cases hi:i<ws.length
  .have:=(DJ W hi).1;simp[hi,this]
  .rw[List.getElem?_eq_none (by simp;omega),List.getElem?_eq_none (by simp;omega)]
 rw[e0];refine A6 (A8 (AO (Ba (DC (A4 ⟨Gw,A6 ?_⟩)))));refine A8 (AO (AG (A6 ?_)));change WS _ (Lr ws 0 none none none) (Hr ws (lnN ws) [] []) _;have m0:=ZV ws.length (cmN ws) (lnN ws) 0;refine A8 (Ql (I_r ws) (n:=mu ws.length (cmN ws) (lnN ws) 0) ⟨_,_,_,_,_,_,_,_,rfl,rfl,rfl,St.start _ _ _ λj hj=>(DJ W hj).2.1,by simp;omega⟩ ?_);rintro m ls hd ⟨lf,P,t,G,g,z6,z7,z8,em,rfl,rfl,S,pl⟩;refine Af (B6 (A3 (A1 rfl (A4 (BC (ds:=Au ws.length lf) rfl (Vu ws.length lf) ⟨_,rfl,?_⟩)))));by_cases h:∃j,j<ws.length/\0<lf j
 .rw[if_pos (by simpa using h)];refine W8 W S (by omega) h λt' k s g z6 z7 z8 X=>?_;obtain⟨⟨G',S'⟩,l',m'⟩:=S.turn X;exact⟨_,by rw[em];exact m',_,_,_,G',g,_,_,_,rfl,rfl,rfl,S',by omega⟩
 .rw[if_neg (by simpa using h)];refine A6 (AT (B6 (A3 (A1 rfl (A4 (BC (ds:=pcD P) (z:=.im (.tup (P.map Bb))) rfl ?_ ?_))))))
  .show some (AV (pcD P))=_;rw[show pcD P=(P.map Bb).map D.im by simp,C1]
  .exact⟨P,rfl,⟨lf,t,G,S,λj hj=>by
    refine Classical.byContradiction λq=>h ⟨j,hj,by omega⟩⟩,by omega⟩
def YH{w:Int}{ws:List Wk}(W:EW w ws):WF CP [.im (Ag ws)] [] λd _=>∃P,d=.im (.tup (P.map Bb))/\Lp ws P:=by
 have n8:=W.n8;unfold CP;refine Ab rfl ?_;refine A8 (BS (AE (A3 (A1 rfl (A4 ⟨by simp,(Gx W).mono ?_⟩)))));rintro d x rfl;refine⟨_,rfl,A6 ?_⟩;refine AT (EY (A3 (A1 rfl (A3 (Ba (Ao (BG (A1 rfl ⟨_,rfl,?_⟩))))))));rw[Dx];refine⟨AZ (by simp;omega),?_⟩;refine Aw wkD (λz=>some (.im (.int z.com))) (λ_ ls=>∃x,ls=[some x]) _ (AK _) ?_ ?_
 .rintro z hz ls hls;refine⟨[some (wkD z)],by rcases hls with rfl|⟨_,x,rfl⟩<;>rfl,⟨_,rfl⟩,BH ⟨rfl,?_⟩⟩;rw[if_pos rfl];exact⟨_,rfl,A7 (A1 rfl (AG (AH rfl (Cq _ _ _) ⟨rfl,rfl⟩)))⟩
 have e0:(ws.filterMap λz=>some (D.im (.int z.com)))=Au ws.length (cmN ws):=by
  refine ext_getElem? λi=>?_;by_cases hi:i<ws.length
  .have:=(Eu W hi).1;simp[hi,this]
  .rw[List.getElem?_eq_none (by simp;omega),List.getElem?_eq_none (by simp;omega)]
 rw[e0];exact A3 (Tq (A4 ((Rk W).mono λd x h=>h)))
end T47
namespace T47.Tb
open PySem L2 Bd
structure Wm where
 len:Int
 com:Int
 due:Int
 wt:Int
def wmI(w:Wm):I:=.tup [.int w.len,.int w.com,.tup [.str "miss",.int w.due,.int w.wt]]
abbrev wmD(w:Wm):D:=.im (wmI w)
abbrev wmsI(ws:List Wm):I:=.tup (ws.map wmI)
def Cg(ws:List Wm):(ws.map wmI).map D.im=ws.map wmD:=by rw[map_map];rfl
def okM(B c:Int)(w:Wm):Prop:=(1<=w.len/\w.len<=20)/\w.com=c/\(-B<=w.due/\w.due<=B)/\0<=w.wt/\w.wt<=9
def okMs(B c:Int)(ws:List Wm):Prop:=ws≠[]/\ws.length<=8/\(0<=c/\c<=60)/\∀w∈ws,okM B c w
def Gu(ns:List Int):Al (AU ns)=some ns:=by
 induction ns with
 |nil=>rfl
 |cons n r ih=>simp[AU]at ih ⊢
def Ff{ws:List Wm}{k:Nat}(hk:k<ws.length):atI (ws.map wmD) (k:Int)=some (wmD ws[k]):=GE rfl (by simp[hk])
def Su{B c:Int}{ws:List Wm}(ok:okMs B c ws):WF DR [.im (wmsI ws)] [] λd x=>d=.im (.int c):=by
 obtain⟨hne,hl8,hc,hws⟩:=ok;have hl0:0<ws.length:=Db hne;unfold DR;refine Ab rfl ?_;refine A8 (AO (AE (A3 (A1 rfl (A4 ⟨by simp,?_⟩)))));have e0:(ws[0]).com=c:=(hws _ (List.getElem_mem hl0)).2.1;have S:WF D4 [.im (wmsI ws)] [] λd x=>d=.im (.int c):=by
  unfold D4;refine Ab rfl ?_;refine A8 (AO (A7 (A7 (A1 rfl (AG (AH (by rw[Ee,Cg]) (Ff (k:=0) hl0) ?_))))));refine AG (AH (ds:=[.im (.int (ws[0]).len),.im (.int (ws[0]).com),.im (.tup [.str "miss",.int (ws[0]).due,.int (ws[0]).wt])]) rfl (Cq _ _ _) (A6 ?_));rw[e0];refine A8 (AN (Af (Bl (Ao (BG (A1 rfl ⟨_,rfl,?_⟩))))));rw[Cg];refine⟨AZ (by simp;omega),?_⟩;refine Aw wmD (λ_=>some (.im (.bl true))) (λ_ ls=>∃x,ls=[some x,some (.im (.int c))]) _ (AK _) ?_ ?_
  .rintro p hp ls hls;refine⟨[some (wmD p),some (.im (.int c))],by rcases hls with rfl|⟨_,x,rfl⟩<;>rfl,⟨_,rfl⟩,BH ⟨rfl,?_⟩⟩;rw[if_pos rfl];refine⟨_,rfl,A7 (A7 (A1 rfl (AG (AH (ds:=[.im (.int p.len),.im (.int p.com),.im (.tup [.str "miss",.int p.due,.int p.wt])]) rfl (Cq _ _ _) (A1 rfl (EX ⟨rfl,?_⟩))))))⟩;simp[(hws p hp).2.1]
  have e:(ws.filterMap λ_=>some (D.im (.bl true)))=blD (ws.map λ_=>true):=by simp[blD]
  rw[e];refine⟨_,by rw[Jb,GD];rfl,_,rfl,?_⟩;refine⟨λ_=>?_,(λh=>by simp at h)⟩;exact AT (A1 rfl rfl)
 refine S.mono ?_;rintro d x rfl;refine⟨_,rfl,A6 ?_⟩;refine A8 (AN (AI ?_));refine WP.eq (z:=.im (.bl false)) (h:=[]) (by simp[Av]) ⟨_,rfl,(λh=>by cases h),λ_=>AL (A6 ?_)⟩;exact AT (A1 rfl rfl)
def refuse_w{B c:Int}{ws:List Wm}(ok:okMs B c ws):WF As [.im (wmsI ws),.im (.str "miss")] [] λd x=>d=.im .non:=by
 have hl8:=ok.2.1;unfold As;refine Ab rfl ?_;refine AN (Af (Bl (Ao (BG (A1 rfl ⟨_,rfl,?_⟩)))));rw[Cg];refine⟨AZ (by simp;omega),?_⟩;refine Aw wmD (λ_=>some (.im (.bl false))) (λ_ ls=>∃x,ls=[some x,some (.im (.str "miss"))]) _ (AK _) ?_ ?_
 .rintro p hp ls hls;refine⟨[some (wmD p),some (.im (.str "miss"))],by rcases hls with rfl|⟨_,x,rfl⟩<;>rfl,⟨_,rfl⟩,BH ⟨rfl,?_⟩⟩;rw[if_pos rfl];refine⟨_,rfl,A7 (A7 (A7 (A1 rfl (AG (AH (ds:=[.im (.int p.len),.im (.int p.com),.im (.tup [.str "miss",.int p.due,.int p.wt])]) rfl (EE _ _ _ _) (AG (AH (ds:=[.im (.str "miss"),.im (.int p.due),.im (.int p.wt)]) rfl (Ev _ _) (A1 rfl (Ox ⟨rfl,?_⟩)))))))))⟩;simp
 have e:(ws.filterMap λ_=>some (D.im (.bl false)))=blD (ws.map λ_=>false):=by simp[blD]
 rw[e];refine⟨_,by rw[Gs,GD];rfl,_,rfl,?_⟩;exact⟨(λh=>by simp at h),λ_=>AL rfl⟩
def Q6{B c:Int}{ws:List Wm}(ok:okMs B c ws):WF CM [.im (wmsI ws)] [] λd x=>d=.im (.int c):=by
 unfold CM;refine Ab rfl ?_;refine A8 (AO (AE (A3 (A1 rfl (A4 ⟨by simp,(Su ok).mono ?_⟩)))));rintro d x rfl;refine⟨_,rfl,A6 ?_⟩;refine A8 (BS (AE (A3 (A1 rfl (A3 (AG (A4 ⟨by simp,(refuse_w ok).mono ?_⟩)))))));rintro d x rfl;exact⟨_,rfl,A6 (AT (A1 rfl rfl))⟩
def weight_w(p:Wm):WF Bg [wmD p] [] λd x=>d=.im (.int p.wt):=by
 unfold Bg;refine Ab rfl ?_;refine AT (A7 (A7 (A1 rfl (AG (AH (ds:=[.im (.int p.len),.im (.int p.com),.im (.tup [.str "miss",.int p.due,.int p.wt])]) rfl (EE _ _ _ _) ?_)))));refine FQ (AG ⟨_,rfl,?_⟩);refine AH (ds:=[.im (.str "miss"),.im (.int p.due),.im (.int p.wt)]) (e:=.im (.int p.wt)) rfl ?_ rfl;rfl
abbrev fullW(ws:List Wm):Int:=(ws.map Wm.wt).sum
def QD{B c:Int}{ws:List Wm}(ok:okMs B c ws):WF CN [.im (wmsI ws)] [] λd x=>d=.im (.int (fullW ws)):=by
 have hl8:=ok.2.1;unfold CN;refine Ab rfl ?_;refine AT (Bl (Ao (BG (A1 rfl ⟨_,rfl,?_⟩))));rw[Cg];refine⟨AZ (by simp;omega),?_⟩;refine Aw wmD (λw=>some (.im (.int w.wt))) (λ_ ls=>∃x,ls=[some x]) _ (AK _) ?_ ?_
 .rintro p hp ls hls;refine⟨[some (wmD p)],by rcases hls with rfl|⟨_,x,rfl⟩<;>rfl,⟨_,rfl⟩,BH ⟨rfl,?_⟩⟩;rw[if_pos rfl];refine⟨_,rfl,AE (A3 (A1 rfl (A4 ⟨by simp[wmI],(weight_w p).mono ?_⟩)))⟩;rintro d y rfl;exact⟨_,rfl,rfl,rfl⟩
 have e:(ws.filterMap λw=>some (D.im (.int w.wt)))=AU (ws.map Wm.wt):=by simp[AU]
 rw[e];exact⟨_,by unfold Cd;rw[Gu];rfl,rfl⟩
def dueOf(ws:List Wm)(k:Nat):Int:=(ws[k]?.map Wm.due).getD 0
def duePs(ws:List Wm):List (Int×Int):=(List.range ws.length).map λk:Nat=>(dueOf ws k,(k:Int))
def ordI(ws:List Wm):List Int:=(C7 (duePs ws)).map (·.2)
def MK{ws:List Wm}{k:Nat}(hk:k<ws.length):(ws[k]).due=dueOf ws k:=by simp[dueOf,hk]
def due_ok{B c:Int}{ws:List Wm}(ok:okMs B c ws)(hB:B<=2000){k:Nat}(hk:k<ws.length):pok (dueOf ws k,(k:Int)):=by
 have:=(ok.2.2.2 _ (List.getElem_mem hk)).2.2.1;rw[MK hk]at this;have:=ok.2.1;unfold pok;dsimp only;omega
def Pk{p q:Int×Int}(hp:pok p)(hq:pok q)(h:Aa p=Aa q):p=q:=by
 unfold pok at hp hq;unfold Aa at h;have:p.1=q.1:=by omega
 have:p.2=q.2:=by omega
 exact Prod.ext (by assumption) (by assumption)
def Xw{B c:Int}{ws:List Wm}(ok:okMs B c ws)(hB:B<=2000){ms:List Int}(pm:ms.Perm ((List.range ws.length).map λk:Nat=>(k:Int)))(pw:ms.Pairwise λa b=>Aa (dueOf ws a.toNat,a)<=Aa (dueOf ws b.toNat,b)):ms=ordI ws:=by
 have p1:(ms.map λn:Int=>(dueOf ws n.toNat,n)).Perm (duePs ws):=by
  have:=pm.map λn:Int=>(dueOf ws n.toNat,n)
  rw[map_map]at this;exact this
 have p2:(C7 (duePs ws)).Perm (duePs ws):=mergeSort_perm ..;have w2:(C7 (duePs ws)).Pairwise λa b=>Aa a<=Aa b:=by
  have:=pairwise_mergeSort (le:=λa b:Int×Int=>decide (Aa a<=Aa b)) (by intro a b c h1 h2;simp at *;omega) (by intro a b;simp;omega) (duePs ws);exact this.imp (by simp)
 have w1:(ms.map λn:Int=>(dueOf ws n.toNat,n)).Pairwise λa b=>Aa a<=Aa b:=pairwise_map.mpr pw;have okd:∀a∈duePs ws,pok a:=λa ha=>by
  obtain⟨k,hk,rfl⟩:=mem_map.mp ha;exact due_ok ok hB (by simpa using hk)
 have e:(ms.map λn:Int=>(dueOf ws n.toNat,n))=C7 (duePs ws):=(p1.trans p2.symm).eq_of_pairwise (le:=λa b=>Aa a<=Aa b) (λa b ha hb h1 h2=>Pk (okd a (p1.mem_iff.mp ha)) (okd b (p2.mem_iff.mp hb)) (Int.le_antisymm h1 h2)) w1 w2;unfold ordI;rw[<- e,map_map];have:((λx:Int×Int=>x.2) ∘ λn:Int=>(dueOf ws n.toNat,n))=id:=rfl;rw[this,map_id]
def KG{B c:Int}{ws:List Wm}(ok:okMs B c ws)(hB:B<=2000):WF E8 [.im (wmsI ws)] [] λd x=>d=.mu 0/\x=[.lst (AU (ordI ws))]:=by
 have hl8:=ok.2.1;unfold E8;refine Ab rfl ?_;refine AT (Ba (P2 (A3 (B6 (A3 (A1 rfl (A4 (BC rfl rfl (A4 ⟨ws.length,by simp,by omega,λn=>(dueOf ws n.toNat,n),λk hk=>due_ok ok hB hk,λa ha b hb e=>?_,λk hk=>?_,λms pm pw=>?_⟩)))))))))
 .have:=Pk (p:=(dueOf ws ((a:Int)).toNat,(a:Int))) (q:=(dueOf ws ((b:Int)).toNat,(b:Int))) (due_ok ok hB ha) (due_ok ok hB hb) e;have:=congrArg Prod.snd this;dsimp only at this;omega
 .have w:WE (Ad (A2 (mOp gIx (mOp gIx (mOp gIx (A0 1) (A0 0)) (mC (.int 2))) (mC (.int 1))) (A2 (A0 0) A5))) [some (.im (.int (k:Int))),some (.im (wmsI ws))] [] λd x=>d=B0 (dueOf ws k,(k:Int))/\x=[]:=by
   refine B5 (A3 (A7 (A7 (A7 (A1 rfl (A1 rfl (AH (by rw[Ee,Cg]) (Ff hk) (AG (AH (ds:=[.im (.int (ws[k]).len),.im (.int (ws[k]).com),.im (.tup [.str "miss",.int (ws[k]).due,.int (ws[k]).wt])]) rfl (EE _ _ _ _) (AG (AH (ds:=[.im (.str "miss"),.im (.int (ws[k]).due),.im (.int (ws[k]).wt)]) rfl (Cq _ _ _) (A3 (A1 rfl (A4 ⟨CK,?_,rfl⟩))))))))))))));rw[MK hk];rfl
  obtain⟨d,x,e,rfl,rfl⟩:=w;exact e
 .rw[Xw ok hB pm pw];exact⟨rfl,rfl⟩
def OY{B c:Int}{ws:List Wm}(ok:okMs B c ws)(hB:B<=2000):WF EO [.im (wmsI ws)] [] λd x=>d=.mu 0/\x=[.lst (AU (ordI ws))]:=by
 have hl8:=ok.2.1;unfold EO;refine Ab rfl ?_;refine AT (Ba (Ao (aB ?_)));have hs:WA (D7 (EA (Ac 1 [0] (DG (A2 (mCB (f1 true Ay) (A2 (A0 0) A5)) A5)) (AB 0) BE (Ad (A2 (mOp gIx (mOp gIx (mOp gIx (A0 1) (A0 0)) (mC (.int 2))) (mC (.int 1))) (A2 (A0 0) A5)))))) [some (.im (wmsI ws))] [] λds x=>ds=(C7 (duePs ws)).map B0/\x=[]:=by
  have h0:WA (Ac 1 [0] (DG (A2 (mCB (f1 true Ay) (A2 (A0 0) A5)) A5)) (AB 0) BE (Ad (A2 (mOp gIx (mOp gIx (mOp gIx (A0 1) (A0 0)) (mC (.int 2))) (mC (.int 1))) (A2 (A0 0) A5)))) [some (.im (wmsI ws))] [] λds x=>ds=(duePs ws).map B0/\x=[]:=by
   refine Ao (JF (A3 (B6 (A3 (A1 rfl (A4 (BC rfl rfl (A4 ⟨(ws.length:Int),by simp,ER (by omega) (by omega),?_⟩))))))));rw[toNat_natCast,Fo];refine⟨AZ (by simp[YA];omega),?_⟩;refine Aw (λk:Nat=>D.im (.int (k:Int))) (λk=>some (B0 (dueOf ws k,(k:Int)))) (λ_ ls=>∃x,ls=[some x,some (.im (wmsI ws))]) _ (AK _) ?_ ?_
   .rintro k hk ls hls;have hk:k<ws.length:=by simpa using hk
    refine⟨[some (.im (.int (k:Int))),some (.im (wmsI ws))],by rcases hls with rfl|⟨_,x,rfl⟩<;>rfl,⟨_,rfl⟩,BH ⟨rfl,?_⟩⟩;rw[if_pos rfl];refine⟨_,rfl,B5 (A3 (A7 (A7 (A7 (A1 rfl (A1 rfl (AH (by rw[Ee,Cg]) (Ff hk) (AG (AH (ds:=[.im (.int (ws[k]).len),.im (.int (ws[k]).com),.im (.tup [.str "miss",.int (ws[k]).due,.int (ws[k]).wt])]) rfl (EE _ _ _ _) (AG (AH (ds:=[.im (.str "miss"),.im (.int (ws[k]).due),.im (.int (ws[k]).wt)]) rfl (Cq _ _ _) (A3 (A1 rfl (A4 ⟨CK,rfl,?_⟩))))))))))))))⟩;rw[MK hk];rfl
   .simp[duePs]
  obtain⟨ds,x,e,rfl,rfl⟩:=h0;refine⟨_,_,?_,rfl,rfl⟩;have okd:∀a∈duePs ws,pok a:=λa ha=>by
   obtain⟨k,hk,rfl⟩:=mem_map.mp ha;exact due_ok ok hB (by simpa using hk)
  have hl:(duePs ws).length<64:=by simp[duePs];omega
  simp only[D7,EA,e,bind_some,map_some,Iq];rw[if_pos ⟨hl,okd⟩]
 refine WP.mono hs ?_;rintro ds x ⟨rfl,rfl⟩;refine⟨AZ (by simp[C7,List.length_mergeSort,duePs];omega),?_⟩;refine Aw B0 (λp=>some (.im (.int p.2))) (λ_ ls=>∃x,ls=[some x]) _ (AK _) ?_ ?_
 .rintro p hp ls hls;refine⟨[some (B0 p)],by rcases hls with rfl|⟨_,x,rfl⟩<;>rfl,⟨_,rfl⟩,BH ⟨rfl,?_⟩⟩;rw[if_pos rfl];exact⟨_,rfl,A7 (A1 rfl (AG (AH (ds:=[.im (.int p.1),.im (.int p.2)]) rfl (Cq _ _ _) ⟨rfl,rfl⟩)))⟩
 .refine⟨rfl,?_⟩;simp[ordI,AU]
end T47.Tb
namespace Lt
def IsMin(E:List Int)(o:Option Int):Prop:=(o=none/\E=[])∨∃m,o=some m/\m∈E/\∀e∈E,m<=e
def K5:IsMin [] none:=.inl ⟨rfl,rfl⟩
def cV(o:Option Int)(e:Int):Option Int:=match o with|none=>some e|some x=>if e<x then some e else some x
def comb(kept more:Option Int):Option Int:=match more with|none=>kept|some y=>match kept with|some x=>if x<=y then some x else some y|none=>some y
theorem IsMin.comb{A B:List Int}{o o':Option Int}(h:IsMin A o)(h':IsMin B o'):IsMin (A++B) (comb o o'):=by
 rcases h' with⟨rfl,rfl⟩|⟨y,rfl,hy,ly⟩
 .rw[append_nil];exact h
 .rcases h with⟨rfl,rfl⟩|⟨x,rfl,hx,lx⟩
  .exact .inr ⟨y,rfl,by simpa using hy,by simpa using ly⟩
  .unfold Lt.comb;dsimp only;split
   .exact .inr ⟨x,rfl,by simp[hx],λe he=>by rcases mem_append.mp he with q|q;exact lx e q;have:=ly e q;omega⟩
   .exact .inr ⟨y,rfl,by simp[hy],λe he=>by rcases mem_append.mp he with q|q;have:=lx e q;omega;exact ly e q⟩
def behind(l d:Int)(o:Option Int):Option Int:=match o with|none=>none|some x=>if x+l<=d then some (x+l)else none
theorem IsMin.behind{A:List Int}{o:Option Int}(l d:Int)(h:IsMin A o):IsMin ((A.map (·+l)).filter λe=>decide (e<=d)) (behind l d o):=by
 rcases h with⟨rfl,rfl⟩|⟨x,rfl,hx,lx⟩
 .exact K5
 .unfold Lt.behind;dsimp only;split
  .next q=>
   refine .inr ⟨x+l,rfl,mem_filter.mpr ⟨mem_map.mpr ⟨x,hx,rfl⟩,by simpa using q⟩,λe he=>?_⟩;obtain⟨z,hz,rfl⟩:=mem_map.mp (mem_filter.mp he).1;have:=lx z hz;omega
  .next q=>
   refine .inl ⟨rfl,List.filter_eq_nil_iff.mpr λe he=>?_⟩;obtain⟨z,hz,rfl⟩:=mem_map.mp he;have:=lx z hz;simp;omega
abbrev En:=Nat×Nat×Int
abbrev Wx:=Int×Int×Nat
def more(i:Nat)(w:Wx)(E:List En):List En:=(E.filter λe=>decide (e.2.2+w.1<=w.2.1)).map λe=>(i+1,e.2.1+w.2.2,e.2.2+w.1)
def Am(c:Int):List Wx->Nat->List En
 |_,0=>[(0,0,c)]
 |L,i+1=>Am c L i++(match L[i]? with|some w=>more i w (Am c L i)|none=>[])
def sel(w:Nat)(E:List En):List Int:=(E.filter λe=>decide (e.2.1=w)).map λe=>e.2.2
def NB(w:Nat)(E F:List En):sel w (E++F)=sel w E++sel w F:=by simp[sel]
def RV(i:Nat)(x:Wx)(w:Nat)(E:List En):sel w (more i x E)=if w<x.2.2 then []else((sel (w-x.2.2) E).map (·+x.1)).filter λe=>decide (e<=x.2.1):=by
 induction E with
 |nil=>simp[more,sel]
 |cons e r ih=>
  have em:more i x (e::r)=(if e.2.2+x.1<=x.2.1 then [(i+1,e.2.1+x.2.2,e.2.2+x.1)]else [])++more i x r:=by
   unfold more;rw[filter_cons];by_cases q:e.2.2+x.1<=x.2.1<;>simp[q]
  rw[em,NB,ih];by_cases hw:w<x.2.2
  .rw[if_pos hw,if_pos hw,append_nil];by_cases q:e.2.2+x.1<=x.2.1
   .have:¬ e.2.1+x.2.2=w:=by omega
    simp[q,sel,this]
   .simp[q,sel]
  .rw[if_neg hw,if_neg hw];have ec:sel (w-x.2.2) (e::r)=(if e.2.1=w-x.2.2 then [e.2.2]else [])++sel (w-x.2.2) r:=by
    unfold sel;rw[filter_cons];by_cases q:e.2.1=w-x.2.2<;>simp[q]
   rw[ec,map_append,List.filter_append]
   congr 1
   by_cases q1:e.2.2+x.1<=x.2.1
   .by_cases q2:e.2.1=w-x.2.2
    .have e3:w-x.2.2+x.2.2=w:=Nat.sub_add_cancel (Nat.le_of_not_lt hw);simp[q1,q2,sel,e3]
    .have:¬ e.2.1+x.2.2=w:=by omega
     simp[q1,q2,sel,this]
   .by_cases q2:e.2.1=w-x.2.2<;>simp[q1,q2,sel]
def Ai(x:Wx)(f:Nat->Option Int)(w:Nat):Option Int:=comb (f w) (if w<x.2.2 then none else behind x.1 x.2.1 (f (w-x.2.2)))
def next_min{c:Int}{L:List Wx}{i:Nat}{x:Wx}(hx:L[i]?=some x){f:Nat->Option Int}{w:Nat}(h:IsMin (sel w (Am c L i)) (f w))(h':¬ w<x.2.2->IsMin (sel (w-x.2.2) (Am c L i)) (f (w-x.2.2))):IsMin (sel w (Am c L (i+1))) (Ai x f w):=by
 have e:Am c L (i+1)=Am c L i++more i x (Am c L i):=by rw[Am,hx]
 rw[e,NB,RV];unfold Ai;refine h.comb ?_;by_cases q:w<x.2.2
 .rw[if_pos q,if_pos q];exact K5
 .rw[if_neg q,if_neg q];exact(h' q).behind _ _
end Lt
namespace T47.Tb
open PySem L2 Bd
abbrev enD(q:D×Nat):D:=AV [.im (.int (q.2:Int)),q.1]
open Lt (IsMin comb behind Ai sel Am Wx)
def N3{is js:List I}{hd:Hd}{QE:D->Hd->Prop}(h0:is≠[])(h1:is.length+js.length<=100)(q:QE (.im (.tup (is++js))) hd):WP (Aq (.im (.tup is)) (.im (.tup js)) hd) QE:=by
 have cat:Th (is.map D.im) (js.map D.im):=⟨by simpa using h0,AZ (by simp;omega)⟩
 refine WP.eq (z:=.im (.tup (is++js))) (h:=hd) ?_ q;show(match Jd (.im (.tup is)) (.im (.tup js)) hd with|some z=>some z|none=>G6 (.im (.tup is)) (.im (.tup js)) hd)=_;rw[show Jd (.im (.tup is)) (.im (.tup js)) hd=none from rfl];unfold G6;rw[show AW (.im (.tup is))=some (is.map D.im)from rfl,show AW (.im (.tup js))=some (js.map D.im)from rfl,bind_some,bind_some,if_pos cat,<- map_append,C1]
def Qo{w:Nat}{F:List D->Hd->Option (D×Hd)}{m:MA}{ls:Ls}{hd pre rest:Hd}{ds:List D}{QE:D->Hd->Prop}(e:m ls hd=some (ds,pre++rest))(hw:pre.length=w)(hc:B4 w ds=true)(hp:pre.all (clO w)=true)
 (hF:WF F ds pre λd x=>∃k es pre' g,d=.mu k/\w<=k/\x=pre'++g/\pre'.length=w/\pre'.all (clO w)=true/\x[k]?=some (.lst es)/\B4 w es=true/\QE (.mu (w+rest.length)) (pre'++rest++[.lst es])):WE (AA w F m) ls hd QE:=by
 subst hw;obtain⟨d,x,e2,k,es,pre',g,rfl,hk,rfl,lp,cp,e3,c3,q⟩:=hF;refine⟨_,_,?_,q⟩;have t1:(pre++rest).take pre.length=pre:=by simp
 have t2:(pre'++g).take pre.length=pre':=by rw[<- lp];simp
 have t3:¬ k<pre.length:=by omega
 simp only[AA,e,bind_some,t1,hc,hp,e2,fin,t2,cp,if_neg t3,e3,c3,if_true];simp
def GU{w:Nat}{F:List D->Hd->Option (D×Hd)}{m:MA}{ls:Ls}{hd:Hd}{QE:D->Hd->Prop}(h:WA m ls hd λds x=>∃pre rest,x=pre++rest/\pre.length=w/\B4 w ds=true/\pre.all (clO w)=true/\WF F ds pre λd x=>∃k es pre' g,d=.mu k/\w<=k/\x=pre'++g/\pre'.length=w/\pre'.all (clO w)=true/\x[k]?=some (.lst es)/\B4 w es=true/\QE (.mu (w+rest.length)) (pre'++rest++[.lst es])):WE (AA w F m) ls hd QE:=by
 obtain⟨ds,x,e,pre,rest,rfl,hw,hc,hp,hF⟩:=h;exact Qo e hw hc hp hF
def E9:Option Int->I|none=>.non|some x=>.int x
abbrev Ae(o:Option Int):D:=.im (E9 o)
def we_isN{neg:Bool}{ma:ME}{ls:Ls}{hd:Hd}{QE:D->Hd->Prop}(h:WE ma ls hd λd x=>∃o:Option Int,d=Ae o/\QE (.im (.bl (if o.isNone then !neg else neg))) x):WE (Av neg ma) ls hd QE:=by
 obtain⟨d,x,e,o,rfl,q⟩:=h;refine⟨_,x,?_,q⟩;simp only[Av,e,bind_some];cases o<;>rfl
def rowI(N:Nat)(f:Nat->Option Int):I:=.tup ((List.range N).map λw=>E9 (f w))
def row_at{N:Nat}{f:Nat->Option Int}{w:Nat}(hw:w<N):atI (((List.range N).map λw=>E9 (f w)).map D.im) (w:Int)=some (Ae (f w)):=GE rfl (by simp[hw])
def wx(p:Wm):Wx:=(p.len,p.due,p.wt.toNat)
def TW{B c:Int}{p:Wm}(ok:okM B c p){N:Nat}(f:Nat->Option Int){w:Nat}(hw:w<N):WF Ch [.im (rowI N f),wmD p,.im (.int (w:Int))] [] λd x=>d=Ae (if w<(wx p).2.2 then none else behind (wx p).1 (wx p).2.1 (f (w-(wx p).2.2))):=by
 have h0:=ok.2.2.2;unfold Ch;refine Ab rfl ?_;refine A8 (Kr (A1 rfl ⟨[some (.im (rowI N f)),some (wmD p),some (.im (.int (w:Int))),some (.im (.int p.len)),some (.im (.int p.com)),some (.im (.str "miss")),some (.im (.int p.due)),some (.im (.int p.wt)),none],rfl,A6 ?_⟩));refine A8 (AN (Cy (AI (A7 (A1 rfl (A1 rfl (T4 ⟨_,rfl,?_⟩)))))));by_cases q:w<(wx p).2.2
 .have q':(w:Int)<p.wt:=by unfold wx at q;dsimp only at q;omega
  rw[if_pos (by simpa using q'),if_pos q];exact⟨λ_=>AT (AG rfl),λh=>by cases h⟩
 .have q':¬ (w:Int)<p.wt:=by unfold wx at q;dsimp only at q;omega
  rw[if_neg (by simpa using q'),if_neg q];have ek:(w:Int)-p.wt=((w-(wx p).2.2:Nat):Int):=by unfold wx at q ⊢;dsimp only at q ⊢;omega
  have hk:w-(wx p).2.2<N:=by omega
  refine AI (we_isN (A7 (A1 rfl (A7 (A1 rfl (A1 rfl (CV ?_)))))));rw[ek];refine AH rfl (row_at hk) ⟨_,rfl,_,rfl,λh=>?_,λh=>AL (A6 ?_)⟩
  .have e:f (w-(wx p).2.2)=none:=by
    cases e:f (w-(wx p).2.2)with
    |none=>rfl
    |some x=>rw[e]at h;simp at h
   refine AT (AG ?_);rw[e];rfl
  .obtain⟨x,e⟩:∃x,f (w-(wx p).2.2)=some x:=by
    cases e:f (w-(wx p).2.2)with
    |none=>rw[e]at h;simp at h
    |some x=>exact⟨x,rfl⟩
   refine A8 (AO (A7 (A7 (A1 rfl (A7 (A1 rfl (A1 rfl (CV ?_))))))));rw[ek];refine AH rfl (row_at hk) ?_;rw[e];refine A1 rfl (Bk (A6 (AT (W2 (AI (A7 (A1 rfl (A1 rfl (IW ⟨_,rfl,λh=>?_,λh=>?_⟩)))))))))
   .have h:x+p.len<=p.due:=by simpa using h
    refine A1 rfl ?_;unfold behind wx;dsimp only;rw[if_pos h];rfl
   .have h:¬ x+p.len<=p.due:=by simpa using h
    refine AG ?_;unfold behind wx;dsimp only;rw[if_neg h];rfl
def nm(one other:Option Int):Bool:=match other with|none=>true|some y=>match one with|some x=>decide (x<=y)|none=>false
def Vq(a b:Option Int):comb a b=if nm a b=true then a else b:=by
 cases b with
 |none=>simp[comb,nm]
 |some y=>
  cases a with
  |none=>simp[comb,nm]
  |some x=>simp[comb,nm]
def F3(a b:Option Int):WF Ci [Ae a,Ae b] [] λd x=>d=.im (.bl (nm a b)):=by
 unfold Ci;refine Ab rfl ?_;refine AT (Oy (AI (we_isN (A1 rfl ⟨b,rfl,_,rfl,?_⟩))));cases b with
 |none=>rfl
 |some y=>
  rw[if_neg (by simp)];refine DV (AI (we_isN (A1 rfl ⟨a,rfl,_,rfl,?_⟩)));cases a with
  |none=>rfl
  |some x=>
   rw[if_pos (by simp)];exact A7 (A1 rfl (A1 rfl (IW rfl)))
inductive I_next_row_w(p:Wm)(N:Nat)(f:Nat->Option Int)(r:List D)(ls:Ls)(hd:Hd):Prop
 |mk (j:Nat) (z3 z4 z5:Option D) (h0:j<=N) (h1:r=(((List.range' j (N-j)).map λw=>Ae (f w)).zipIdx j).map enD) (h2:ls=[some (.im (rowI N f)),some (wmD p),some (.mu 0),z3,z4,z5]) (h3:hd=[.lst ((List.range j).map λw=>Ae (Ai (wx p) f w))]):I_next_row_w p N f r ls hd
def OP{B c:Int}{p:Wm}(ok:okM B c p){N:Nat}(hN:N<=100)(f:Nat->Option Int):WF EN [.im (rowI N f),wmD p] [] λd x=>d=.im (rowI N (Ai (wx p) f)):=by
 unfold EN;refine Ab rfl ?_;refine A8 (AO (Ba (DC (A4 ⟨Gw,A6 ?_⟩))));refine A8 (BQ (Bh (BG (A1 rfl ⟨((List.range N).map λw=>E9 (f w)).map D.im,rfl,?_⟩))));change WP (B8 _ _ _ (((((List.range N).map λw=>E9 (f w)).map D.im).zipIdx 0).map enD) [some (.im (rowI N f)),some (wmD p),some (.mu 0),none,none,none] [.lst []]) _;have e0:((List.range N).map λw=>E9 (f w)).map D.im=(List.range' 0 (N-0)).map λw=>Ae (f w):=by rw[map_map,List.range_eq_range',Nat.sub_zero];rfl
 rw[e0];refine BD (I_next_row_w p N f) ⟨0,none,none,none,by omega,rfl,rfl,rfl⟩ ?_ ?_
 .rintro d r ls hd ⟨j,z3,z4,z5,hj,er,rfl,rfl⟩;obtain⟨m,hm⟩:∃m,N-j=m+1:=by
   cases q:N-j with
   |zero=>rw[q]at er;cases er
   |succ m=>exact⟨m,rfl⟩
  rw[hm,List.range'_succ,map_cons,zipIdx_cons,map_cons]at er;obtain⟨rfl,rfl⟩:=List.cons.inj er;refine⟨[some (.im (rowI N f)),some (wmD p),some (.mu 0),some (.im (.int (j:Int))),some (Ae (f j)),z5],rfl,?_⟩;refine A8 (AO (AE (A3 (A1 rfl (A3 (A1 rfl (A3 (A1 rfl (A4 ⟨by simp[wmI,rowI],(TW ok f (by omega)).mono ?_⟩)))))))));rintro d x rfl;refine⟨_,rfl,A6 ?_⟩;refine BS (IX (A1 rfl ⟨⟨_,rfl⟩,A3 (T5 (Af (AE (A3 (A1 rfl (A3 (A1 rfl (A4 ⟨by simp,(F3 _ _).mono ?_⟩))))))))⟩));rintro d x rfl;refine⟨_,rfl,_,rfl,?_⟩;have fin:∀o:Option Int,o=Ai (wx p) f j->WA A5 [some (.im (rowI N f)),some (wmD p),some (.mu 0),some (.im (.int (j:Int))),some (Ae (f j)),some (Ae (if j<(wx p).2.2 then none else behind (wx p).1 (wx p).2.1 (f (j-(wx p).2.2))))] [.lst ((List.range j).map λw=>Ae (Ai (wx p) f w))] λds y=>WP (Bj (.mu 0) (Ae o::ds) y) λ_ x=>GOk x []/\I_next_row_w p N f ((((List.range' (j+1) m).map λw=>Ae (f w)).zipIdx (j+1)).map enD) [some (D.im (rowI N f)),some (wmD p),some (.mu 0),some (.im (.int (j:Int))),some (Ae (f j)),some (Ae (if j<(wx p).2.2 then none else behind (wx p).1 (wx p).2.1 (f (j-(wx p).2.2))))] x:=by
   rintro o rfl;refine A4 (GT rfl (De (by simp;omega)) ⟨AK _,j+1,_,_,_,by omega,by rw[show N-(j+1)=m by omega],rfl,?_⟩);rw[range_succ];simp
  have ec:Ai (wx p) f j=if nm (f j) (if j<(wx p).2.2 then none else behind (wx p).1 (wx p).2.1 (f (j-(wx p).2.2)))=true then f j else(if j<(wx p).2.2 then none else behind (wx p).1 (wx p).2.1 (f (j-(wx p).2.2))):=by
   unfold Ai;rw[Vq]
  by_cases q:nm (f j) (if j<(wx p).2.2 then none else behind (wx p).1 (wx p).2.1 (f (j-(wx p).2.2)))=true
  .rw[if_pos q]at ec ⊢;exact A1 rfl (fin _ ec.symm)
  .rw[if_neg q]at ec ⊢;exact A1 rfl (fin _ ec.symm)
 .rintro ls hd ⟨j,z3,z4,z5,hj,er,rfl,rfl⟩;have:j=N:=by
   cases q:N-j with
   |zero=>omega
   |succ m=>rw[q]at er;cases er
  subst this;refine A6 (AT (B6 (A3 (A1 rfl (A4 (BC rfl rfl ?_))))));have e2:((List.range j).map λw=>Ae (Ai (wx p) f w))=((List.range j).map λw=>E9 (Ai (wx p) f w)).map D.im:=by rw[map_map];rfl
  rw[e2,C1];rfl
end T47.Tb
namespace T47.Tb
open PySem L2 Bd
open Lt (IsMin comb behind Ai sel Am Wx)
def tabI(n N:Nat)(f:Nat->Nat->Option Int):I:=.tup ((List.range (n+1)).map λk=>rowI N (f k))
def wxs(ws:List Wm):List Wx:=(ordI ws).map λi=>(ws[i.toNat]?.map wx).getD (0,0,0)
def ord_perm(ws:List Wm):(ordI ws).Perm ((List.range ws.length).map λk:Nat=>(k:Int)):=by
 have p2:(C7 (duePs ws)).Perm (duePs ws):=mergeSort_perm ..;have:=p2.map (·.2);unfold ordI;refine this.trans ?_;unfold duePs;rw[map_map];exact .refl _
def ord_mem{ws:List Wm}{i:Int}(h:i∈ordI ws):∃k:Nat,k<ws.length/\i=k:=by
 obtain⟨k,hk,rfl⟩:=mem_map.mp ((ord_perm ws).mem_iff.mp h);exact⟨k,by simpa using hk,rfl⟩
def ord_len(ws:List Wm):(ordI ws).length=ws.length:=by simpa using (ord_perm ws).length_eq
def fT(c:Int)(L:List Wx):Nat->Nat->Option Int
 |0,w=>if w=0 then some c else none
 |k+1,w=>match L[k]? with|some x=>Ai x (fT c L k) w|none=>none
theorem fT_min(c:Int)(L:List Wx):∀k,k<=L.length->∀w,IsMin (sel w (Am c L k)) (fT c L k w)
 |0,_,w=>by
  unfold fT Am sel;by_cases h:w=0
  .subst h;exact .inr ⟨c,by simp,by simp,by simp⟩
  .have:¬ (0=w):=λz=>h z.symm;simp only[if_neg h];exact .inl ⟨rfl,by simp[this]⟩
 |k+1,hk,w=>by
  have hx:L[k]?=some L[k]:=by simp[Nat.lt_of_succ_le hk]
  have ih:=fT_min c L k (by omega);have e:fT c L (k+1) w=Ai L[k] (fT c L k) w:=by rw[fT,hx]
  rw[e];exact Lt.next_min hx (ih w) λ_=>ih _
def aG(c:Int)(m:Nat)(L:List Wx):[I.int c]++(List.replicate m [I.non]).flatten=(List.range (m+1)).map λw=>E9 (fT c L 0 w):=by
 have e1:(List.replicate m [I.non]).flatten=List.replicate m I.non:=by
  induction m with
  |zero=>rfl
  |succ m ih=>rw[replicate_succ,flatten_cons,ih,replicate_succ];rfl
 rw[e1];refine List.ext_getElem (by simp) λi h1 h2=>?_;simp only[List.getElem_map,List.getElem_range];cases i with
 |zero=>rfl
 |succ i=>
  simp[fT,E9]
def Vh{B c:Int}{ws:List Wm}(ok:okMs B c ws):0<=fullW ws/\fullW ws<=72:=by
 have:∀vs:List Wm,(∀w∈vs,okM B c w)->0<=fullW vs/\fullW vs<=9*vs.length:=by
  intro vs
  induction vs with
  |nil=>intro _;simp[fullW]
  |cons v r ih=>
   intro h;have:=ih λw hw=>h w (by simp[hw]);have:=(h v (by simp)).2.2.2;simp only[fullW,map_cons,sum_cons,length_cons]at *;omega
 have:=this ws ok.2.2.2;have:=ok.2.1;omega
inductive I_table_of_w(c:Int)(ws:List Wm)(r:List D)(ls:Ls)(hd:Hd):Prop
 |mk (dn rest:List Int) (z3:Option D) (h0:ordI ws=dn++rest) (h1:r=AU rest) (h2:ls=[some (.im (wmsI ws)),some (.im (.int c)),some (.mu 0),z3]) (h3:hd=[.lst ((List.range (dn.length+1)).map λk=>D.im (rowI ((fullW ws).toNat+1) (fT c (wxs ws) k))),.lst (AU (ordI ws))]):I_table_of_w c ws r ls hd
def table_of_w{B c:Int}{ws:List Wm}(ok:okMs B c ws)(hB:B<=2000):WF DP [.im (wmsI ws)] [] λd x=>d=.im (tabI ws.length ((fullW ws).toNat+1) (fT c (wxs ws))):=by
 have hl8:=ok.2.1;have hf:=Vh ok;unfold DP;refine Ab rfl ?_;refine A8 (AO (AE (A3 (A1 rfl (A4 ⟨by simp,(Q6 ok).mono ?_⟩)))));rintro d x rfl;refine⟨_,rfl,A6 ?_⟩;refine A8 (AO (Ba (DC (A3 (A7 (B5 (A3 (A1 rfl (A4 ⟨Gv,?_⟩)))))))));refine To (B5 (A3 (AG (A4 ⟨Gv,AE (A3 (A1 rfl (A4 ⟨by simp,(QD ok).mono ?_⟩)))⟩))));rintro d x rfl;refine⟨_,rfl,[.non],fullW ws,rfl,rfl,by simp,by omega,by simp;omega,?_⟩;rw[NS];refine N3 (by simp) (by simp;omega) ?_;rw[aG c _ (wxs ws)];refine A4 ⟨Gv,A6 ?_⟩;change WS _ [some (.im (wmsI ws)),some (.im (.int c)),some (.mu 0),none] [.lst [.im (rowI ((fullW ws).toNat+1) (fT c (wxs ws) 0))]] _;refine A8 (BQ (Hv (GU (A3 (A1 rfl (A4 ⟨[],[.lst [.im (rowI ((fullW ws).toNat+1) (fT c (wxs ws) 0))]],rfl,rfl,by simp,rfl,(KG ok hB).mono ?_⟩))))));rintro d x ⟨rfl,rfl⟩;refine⟨0,_,[],_,rfl,le_refl _,rfl,rfl,rfl,rfl,E7 _ _,1,AU (ordI ws),rfl,rfl,?_⟩;refine BD (I_table_of_w c ws) ⟨[],ordI ws,none,rfl,rfl,rfl,rfl⟩ ?_ ?_
 .rintro d r ls hd ⟨dn,rest,z3,e1,er,rfl,rfl⟩;cases rest with
  |nil=>cases er
  |cons i rest=>
   obtain⟨rfl,rfl⟩:=List.cons.inj er;obtain⟨k,hk,rfl⟩:=ord_mem (ws:=ws) (i:=i) (by rw[e1];simp);have hle:dn.length<ws.length:=by have:=ord_len ws;rw[e1]at this;simp at this;omega
   have ex:(wxs ws)[dn.length]?=some (wx ws[k]):=by
    unfold wxs;rw[e1,List.getElem?_map,List.getElem?_append_right (le_refl _)];simp[hk]
   refine⟨[some (.im (wmsI ws)),some (.im (.int c)),some (.mu 0),some (.im (.int (k:Int)))],rfl,?_⟩;refine BS (IX (A1 rfl ⟨⟨_,rfl⟩,A3 (AE (A3 (A7 (A1 rfl (FQ (AG ⟨_,rfl,AH rfl (e:=.im (rowI ((fullW ws).toNat+1) (fT c (wxs ws) dn.length))) ?_ (A3 (A7 (A1 rfl (A1 rfl (AH (by rw[Ee,Cg]) (Ff hk) (A4 ⟨by simp[wmI,rowI],(OP (ok.2.2.2 _ (List.getElem_mem hk)) (by omega) _).mono ?_⟩))))))⟩))))))⟩))
   .rw[range_succ,map_append];exact IU _ _
   rintro d x rfl;refine⟨_,rfl,A4 (GT rfl (De (by simp;omega)) ?_)⟩;refine⟨by intro q hq;rw[mem_singleton]at hq;subst hq;rfl,dn++[(k:Int)],rest,_,by rw[e1];simp,rfl,rfl,?_⟩;have e2:Ai (wx ws[k]) (fT c (wxs ws) dn.length)=fT c (wxs ws) (dn.length+1):=by
    funext w
    rw[fT,ex]
   rw[e2];simp only[length_append,length_cons,length_nil,Nat.zero_add];rw[range_succ (n:=dn.length+1),map_append];rfl
 .rintro ls hd ⟨dn,rest,z3,e1,er,rfl,rfl⟩;have:rest=[]:=by cases rest with
   |nil=>rfl
   |cons t r=>cases er
  subst this;rw[append_nil]at e1;have hle:dn.length=ws.length:=by rw[<- e1];exact ord_len ws
  refine A6 (AT (B6 (A3 (A1 rfl (A4 (BC rfl rfl ?_))))));have e2:((List.range (dn.length+1)).map λk=>D.im (rowI ((fullW ws).toNat+1) (fT c (wxs ws) k)))=((List.range (dn.length+1)).map λk=>rowI ((fullW ws).toNat+1) (fT c (wxs ws) k)).map D.im:=by rw[map_map];rfl
  rw[e2,C1,hle];rfl
def number_w(x:Int):WF Cv [.im (.int x)] [] λd _=>d=.im (.bl true):=by
 unfold Cv;refine Ab rfl ?_;refine AT (DV (AI (BK (A1 rfl ⟨true,rfl,_,rfl,?_⟩))));rw[if_pos rfl];exact JG (AI (BK (A1 rfl ⟨false,rfl,_,rfl,rfl⟩)))
def tuple_w{n:Int}{is:List I}(h:(is.length:Int)=n):WF BZ [.im (.int n),.im (.tup is)] [] λd _=>d=.im (.bl true):=by
 unfold BZ;refine Ab rfl ?_;refine AT (DV (AI (BK (A1 rfl ⟨true,rfl,_,rfl,?_⟩))));rw[if_pos rfl];refine A7 (B6 (A3 (A1 rfl (A4 (BC rfl rfl (A1 rfl (EX ?_)))))));simp[h]
inductive I_shape_w(pt:List I)(ws:List Wm)(n N:Nat)(f:Nat->Nat->Option Int)(r:List D)(ls:Ls)(hd:Hd):Prop
 |mk (dn rest:List Nat) (z4 z5 z6 z7:Option D) (h0:List.range (n+1)=dn++rest) (h1:r=((rest.map λk=>D.im (rowI N (f k))).zipIdx dn.length).map enD) (h2:ls=[some (.im (wmsI ws)),some (.im (tabI n N f)),some (.im (.tup pt)),some (.im (.int (N:Int))),z4,z5,z6,z7]) (h3:hd=[]):I_shape_w pt ws n N f r ls hd
def shape_w{pt:List I}{B c:Int}{ws:List Wm}(ok:okMs B c ws){n N:Nat}(hn:n=ws.length)(hN:(N:Int)=fullW ws+1)(f:Nat->Nat->Option Int):WF CT [.im (wmsI ws),.im (tabI n N f),.im (.tup pt)] [] λd x=>d=.im .non:=by
 unfold CT;refine Ab rfl ?_;refine A8 (AN (BI (Af (AE (A3 (A7 (B6 (A3 (A1 rfl (A4 (BC rfl rfl (AG (Bk (A3 (A1 rfl (A4 ⟨by simp,(tuple_w (by simp[hn])).mono ?_⟩))))))))))))))) );rintro d x rfl;refine⟨_,rfl,_,rfl,(λh=>by cases h),λ_=>AL (A6 ?_)⟩;refine A8 (AO (A7 (AE (A3 (A1 rfl (A4 ⟨by simp,(QD ok).mono ?_⟩))))));rintro d x rfl;refine⟨_,rfl,AG (Bk (A6 ?_))⟩;rw[<- hN];refine BQ (Bh (BG (A1 rfl ⟨(List.range (n+1)).map λk=>D.im (rowI N (f k)),by simp[tabI],?_⟩)));change WP (B8 _ _ _ ((((List.range (n+1)).map λk=>D.im (rowI N (f k))).zipIdx 0).map enD) [some (.im (wmsI ws)),some (.im (tabI n N f)),some (.im (.tup pt)),some (.im (.int (N:Int))),none,none,none,none] []) _;refine BD (I_shape_w pt ws n N f) ⟨[],_,none,none,none,none,rfl,rfl,rfl,rfl⟩ ?_ ?_
 .rintro d r ls hd ⟨dn,rest,z4,z5,z6,z7,e1,er,rfl,rfl⟩;cases rest with
  |nil=>cases er
  |cons k rest=>
   rw[map_cons,zipIdx_cons,map_cons]at er;obtain⟨rfl,rfl⟩:=List.cons.inj er;refine⟨[some (.im (wmsI ws)),some (.im (tabI n N f)),some (.im (.tup pt)),some (.im (.int (N:Int))),some (.im (.int (dn.length:Int))),some (.im (rowI N (f k))),z6,z7],rfl,?_⟩;refine A8 (AN (BI (Af (AE (A3 (A1 rfl (A3 (A1 rfl (A4 ⟨by simp[rowI],(tuple_w (by simp)).mono ?_⟩)))))))));rintro d x rfl;refine⟨_,rfl,_,rfl,(λh=>by cases h),λ_=>AL (A6 ?_)⟩;refine BQ (Bh (BG (A1 rfl ⟨(List.range N).map λw=>Ae (f k w),by simp[rowI],?_⟩)));change WP (B8 _ _ _ ((((List.range N).map λw=>Ae (f k w)).zipIdx 0).map enD) _ []) _;refine BD (λr ls hd=>∃(dn' rest':List Nat) (z6 z7:Option D),r=((rest'.map λw=>Ae (f k w)).zipIdx dn'.length).map enD/\ls=[some (.im (wmsI ws)),some (.im (tabI n N f)),some (.im (.tup pt)),some (.im (.int (N:Int))),some (.im (.int (dn.length:Int))),some (.im (rowI N (f k))),z6,z7]/\hd=[]) ⟨[],_,z6,z7,rfl,rfl,rfl⟩ ?_ ?_
   .rintro d r ls hd ⟨dn',rest',z6,z7,er,rfl,rfl⟩;cases rest' with
    |nil=>cases er
    |cons w rest'=>
     rw[map_cons,zipIdx_cons,map_cons]at er;obtain⟨rfl,rfl⟩:=List.cons.inj er;have fin:∀r',r'=((rest'.map λw=>Ae (f k w)).zipIdx (dn'.length+1)).map enD->∃(dn'' rest'':List Nat) (y6 y7:Option D),r'=((rest''.map λw=>Ae (f k w)).zipIdx dn''.length).map enD/\[some (D.im (wmsI ws)),some (.im (tabI n N f)),some (.im (.tup pt)),some (.im (.int (N:Int))),some (.im (.int (dn.length:Int))),some (.im (rowI N (f k))),some (.im (.int (dn'.length:Int))),some (Ae (f k w))]=[some (.im (wmsI ws)),some (.im (tabI n N f)),some (.im (.tup pt)),some (.im (.int (N:Int))),some (.im (.int (dn.length:Int))),some (.im (rowI N (f k))),y6,y7]/\([]:Hd)=[]:=λr' e=>⟨dn'++[w],rest',_,_,by rw[e];simp,rfl,rfl⟩
     refine⟨[some (.im (wmsI ws)),some (.im (tabI n N f)),some (.im (.tup pt)),some (.im (.int (N:Int))),some (.im (.int (dn.length:Int))),some (.im (rowI N (f k))),some (.im (.int (dn'.length:Int))),some (Ae (f k w))],rfl,?_⟩;refine AN (Dw (AI (we_isN (A1 rfl ⟨f k w,rfl,_,rfl,?_⟩))));cases hx:f k w with
     |none=>
      rw[if_neg (by simp)];rw[hx]at fin;exact⟨(λh=>by cases h),λ_=>AL ⟨AK _,fin _ rfl⟩⟩
     |some x=>
      rw[if_pos (by simp)];rw[hx]at fin;refine BI (Af (AE (A3 (A1 rfl (A4 ⟨by simp[E9],(number_w x).mono ?_⟩)))));rintro d x rfl;exact⟨_,rfl,_,rfl,(λh=>by cases h),λ_=>AL ⟨AK _,fin _ rfl⟩⟩
   .rintro ls hd ⟨dn',rest',z6,z7,er,rfl,rfl⟩;exact⟨AK _,dn++[k],rest,_,_,_,_,by rw[e1];simp,by simp,rfl,rfl⟩
 .rintro ls hd ⟨dn,rest,z4,z5,z6,z7,e1,er,rfl,rfl⟩;rfl
def Y9(a b:Option Int):nm (comb a b) a=true:=by
 cases a with
 |none=>cases b<;>rfl
 |some x=>cases b with
  |none=>simp[comb,nm]
  |some y=>
   by_cases h:x<=y
   .simp[comb,h,nm]
   .simp[comb,h,nm];omega
def aM(a b:Option Int):nm (comb a b) b=true:=by
 cases b with
 |none=>cases a<;>rfl
 |some y=>cases a with
  |none=>simp[comb,nm]
  |some x=>
   by_cases h:x<=y
   .simp[comb,h,nm]
   .simp[comb,h,nm]
inductive I_look_row_w(p:Wm)(N:Nat)(f:Nat->Option Int)(i:I)(r:List D)(ls:Ls)(hd:Hd):Prop
 |mk (j:Nat) (z4 z5:Option D) (h0:j<=N) (h1:r=(((List.range' j (N-j)).map λw=>Ae (Ai (wx p) f w)).zipIdx j).map enD) (h2:ls=[some (wmD p),some (.im (rowI N f)),some (.im (rowI N (Ai (wx p) f))),some (.im i),z4,z5]) (h3:hd=[]):I_look_row_w p N f i r ls hd
def OX{B c:Int}{p:Wm}(ok:okM B c p){N:Nat}(hN:N<=100)(f:Nat->Option Int){i:I}:WF D6 [wmD p,.im (rowI N f),.im (rowI N (Ai (wx p) f)),.im i] [] λd x=>d=.im .non:=by
 unfold D6;refine Ab rfl ?_;refine BQ (Bh (BG (A1 rfl ⟨(List.range' 0 (N-0)).map λw=>Ae (Ai (wx p) f w),by rw[Nat.sub_zero,<- List.range_eq_range'];simp[rowI],?_⟩)));change WP (B8 _ _ _ ((((List.range' 0 (N-0)).map λw=>Ae (Ai (wx p) f w)).zipIdx 0).map enD) [some (wmD p),some (.im (rowI N f)),some (.im (rowI N (Ai (wx p) f))),some (.im i),none,none] []) _;refine BD (I_look_row_w p N f i) ⟨0,none,none,by omega,rfl,rfl,rfl⟩ ?_ ?_
 .rintro d r ls hd ⟨j,z4,z5,hj,er,rfl,rfl⟩;obtain⟨m,hm⟩:∃m,N-j=m+1:=by
   cases q:N-j with
   |zero=>rw[q]at er;cases er
   |succ m=>exact⟨m,rfl⟩
  rw[hm,List.range'_succ,map_cons,zipIdx_cons,map_cons]at er;obtain⟨rfl,rfl⟩:=List.cons.inj er;refine⟨[some (wmD p),some (.im (rowI N f)),some (.im (rowI N (Ai (wx p) f))),some (.im i),some (.im (.int (j:Int))),some (Ae (Ai (wx p) f j))],rfl,?_⟩;refine A8 (AN (BI (Af (AE (A3 (A1 rfl (A3 (A7 (A1 rfl (A1 rfl (AH rfl (row_at (by omega)) (A4 ⟨by simp,(F3 _ _).mono ?_⟩))))))))))));rintro d x rfl;refine⟨_,rfl,_,rfl,(λh=>?_),λ_=>AL (A6 ?_)⟩
  .rw[Ai,Y9]at h;cases h
  refine AN (BI (Af (AE (A3 (A1 rfl (A3 (AE (A3 (A1 rfl (A3 (A1 rfl (A3 (A1 rfl (A4 ⟨by simp[wmI,rowI],(TW ok f (by omega)).mono ?_⟩))))))))))))));rintro d x rfl;refine⟨_,rfl,A4 ⟨by simp,(F3 _ _).mono ?_⟩⟩;rintro d x rfl;refine⟨_,rfl,_,rfl,(λh=>?_),λ_=>AL ⟨AK _,j+1,_,_,by omega,by rw[show N-(j+1)=m by omega],rfl,rfl⟩⟩;rw[Ai,aM]at h;cases h
 .rintro ls hd ⟨j,z4,z5,hj,er,rfl,rfl⟩;rfl
def Tm{is js:List I}{hd:Hd}{QE:D->Hd->Prop}(h1:is.length+js.length<=100)(q:QE (.im (.tup (is++js))) hd):WP (FA (.im (.tup is)) (.im (.tup js)) hd) QE:=by
 by_cases h0:is=[]
 .subst h0;refine WP.eq (z:=.im (.tup js)) (h:=hd) ?_ q;show(match Aq (.im (.tup [])) (.im (.tup js)) hd with|some z=>some z|none=>HV (.im (.tup [])) (.im (.tup js)) hd)=_;have e:Aq (.im (.tup [])) (.im (.tup js)) hd=none:=by
   show(match Jd (.im (.tup [])) (.im (.tup js)) hd with|some z=>some z|none=>G6 (.im (.tup [])) (.im (.tup js)) hd)=_;rw[show Jd (.im (.tup [])) (.im (.tup js)) hd=none from rfl];unfold G6;rw[show AW (.im (.tup []))=some []from rfl,show AW (.im (.tup js))=some (js.map D.im)from rfl,bind_some,bind_some,if_neg (λz=>z.1 rfl)]
  rw[e];unfold HV;rw[show AW (.im (.tup []))=some []from rfl,show AW (.im (.tup js))=some (js.map D.im)from rfl,bind_some,bind_some,if_pos rfl,C1]
 .obtain⟨d,x,e,q⟩:=N3 (QE:=QE) h0 h1 q;refine⟨d,x,?_,q⟩;show(match Aq (.im (.tup is)) (.im (.tup js)) hd with|some z=>some z|none=>HV (.im (.tup is)) (.im (.tup js)) hd)=_;rw[e]
def Ec{n N:Nat}{f:Nat->Nat->Option Int}{k:Nat}(hk:k<n+1):atI (((List.range (n+1)).map λk=>rowI N (f k)).map D.im) (k:Int)=some (.im (rowI N (f k))):=GE rfl (by simp[hk])
inductive I_places_w(pt:List I)(c:Int)(ws:List Wm)(N:Nat)(r:List D)(ls:Ls)(hd:Hd):Prop
 |mk (dn rest:List Int) (z3 z4:Option D) (h0:ordI ws=dn++rest) (h1:r=((AU rest).zipIdx dn.length).map (λq=>AV [.im (.int ((q.2:Int)+1)),q.1])) (h2:ls=[some (.im (wmsI ws)),some (.im (tabI ws.length N (fT c (wxs ws)))),some (.im (.tup pt)),z3,z4]) (h3:hd=[.lst (AU (ordI ws))]):I_places_w pt c ws N r ls hd
def places_w{pt:List I}(hpt:pt.length<=9){B c:Int}{ws:List Wm}(ok:okMs B c ws)(hB:B<=2000){N:Nat}(hN:N<=100)(h0:0<N):WF CG [.im (wmsI ws),.im (tabI ws.length N (fT c (wxs ws))),.im (.tup pt)] [] λd x=>d=.im .non:=by
 have hl8:=ok.2.1;unfold CG;refine Ab rfl ?_;refine A8 (AN (BI (Af (AE (A3 (A7 (A7 (A1 rfl (AG (AH rfl (Ec (k:=0) (by omega)) (AG (AH rfl (row_at (w:=0) h0) (A3 (AE (A3 (A1 rfl (A4 ⟨by simp,(Q6 ok).mono ?_⟩)))))))))))))))));rintro d x rfl;refine⟨_,rfl,A4 ⟨by simp,(F3 (fT c (wxs ws) 0 0) (some c)).mono ?_⟩⟩;rintro d x rfl;refine⟨_,rfl,_,rfl,(λh=>?_),λ_=>AL (A6 ?_)⟩
 .simp[fT,nm]at h
 refine BQ (Qm (Hv (GU (A3 (A1 rfl (A4 ⟨[],[],rfl,rfl,by simp,rfl,(KG ok hB).mono ?_⟩))))));rintro d x ⟨rfl,rfl⟩;refine⟨0,_,[],_,rfl,le_refl _,rfl,rfl,rfl,rfl,E7 _ _,0,AU (ordI ws),rfl,rfl,?_⟩;refine BD (I_places_w pt c ws N) ⟨[],ordI ws,none,none,rfl,rfl,rfl,rfl⟩ ?_ ?_
 .rintro d r ls hd ⟨dn,rest,z3,z4,e1,er,rfl,rfl⟩;cases rest with
  |nil=>cases er
  |cons i rest=>
   rw[show AU (i::rest)=.im (.int i)::AU rest from rfl,zipIdx_cons,map_cons]at er;obtain⟨rfl,rfl⟩:=List.cons.inj er;obtain⟨k,hk,rfl⟩:=ord_mem (ws:=ws) (i:=i) (by rw[e1];simp);have hle:dn.length<ws.length:=by have:=ord_len ws;rw[e1]at this;simp at this;omega
   have ex:(wxs ws)[dn.length]?=some (wx ws[k]):=by
    unfold wxs;rw[e1,List.getElem?_map,List.getElem?_append_right (le_refl _)];simp[hk]
   have e2:Ai (wx ws[k]) (fT c (wxs ws) dn.length)=fT c (wxs ws) (dn.length+1):=by
    funext w
    rw[fT,ex]
   refine⟨[some (.im (wmsI ws)),some (.im (tabI ws.length N (fT c (wxs ws)))),some (.im (.tup pt)),some (.im (.int ((dn.length:Int)+1))),some (.im (.int (k:Int)))],rfl,?_⟩;refine BS (AE (A3 (A7 (A1 rfl (A1 rfl (AH (by rw[Ee,Cg]) (Ff hk) (A3 (A7 (A1 rfl (A7 (A1 rfl (AG (CV ?_)))))))))))));rw[show(dn.length:Int)+1-1=(dn.length:Int) by omega];refine AH rfl (Ec (by omega)) (A3 (A7 (A1 rfl (A1 rfl ?_))));rw[show(dn.length:Int)+1=((dn.length+1:Nat):Int) by omega];refine AH rfl (Ec (by omega)) (A3 (A7 (A1 rfl (B5 (A3 (A1 rfl (A4 ⟨Gv,?_⟩)))))));rw[NS];refine Tm (by simp;omega) (A4 ⟨by simp[wmI,rowI],?_⟩);rw[<- e2];refine(OX (ok.2.2.2 _ (List.getElem_mem hk)) hN _).mono ?_;rintro d x rfl;exact⟨_,rfl,by intro q hq;rw[mem_singleton]at hq;subst hq;rfl,dn++[(k:Int)],rest,_,_,by rw[e1];simp,by simp,rfl,rfl⟩
 .rintro ls hd ⟨dn,rest,z3,z4,e1,er,rfl,rfl⟩;rfl
def greatest_w{n N m:Nat}{f:Nat->Nat->Option Int}(hN:N<=100)(hm:m<N)(h1:(f n m).isSome=true)(h2:∀w,(f n w).isSome=true->w<=m):WF C3 [.im (tabI n N f)] [] λd x=>d=.im (.int (m:Int)):=by
 unfold C3;refine Ab rfl ?_;refine AT (Bl (Ao (Bh (BG (A7 (A1 rfl (FQ (AG ⟨_,rfl,AH rfl (e:=.im (rowI N (f n))) ?_ ⟨(List.range N).map λw=>Ae (f n w),by simp[rowI],?_⟩⟩))))))))
 .rw[map_map,range_succ,map_append];exact IU _ _
 have ez:(((List.range N).map λw=>Ae (f n w)).zipIdx.map λq=>AV [.im (.int (q.2:Int)),q.1])=(List.range N).map λw:Nat=>D.im (.tup [.int (w:Int),E9 (f n w)]):=by
  refine List.ext_getElem (by simp) λi a b=>?_;simp
 rw[ez];refine⟨AZ (by simp;omega),?_⟩;refine Aw (λw:Nat=>D.im (.tup [.int (w:Int),E9 (f n w)])) (λw=>if(f n w).isSome=true then some (.im (.int (w:Int)))else none) (λ_ ls=>∃x y,ls=[some x,some y]) _ (AK _) ?_ ?_
 .rintro w hw ls hls;refine⟨[some (.im (.int (w:Int))),some (Ae (f n w))],by rcases hls with rfl|⟨_,x,y,rfl⟩<;>rfl,⟨_,_,rfl⟩,?_⟩;refine AI (we_isN (A1 rfl ⟨f n w,rfl,_,rfl,rfl,?_⟩));cases hx:f n w with
  |none=>
   rw[if_neg (by simp)];exact if_neg (by simp)
  |some x=>
   rw[if_pos (by simp)];exact⟨_,if_pos (by simp),A1 rfl ⟨rfl,rfl⟩⟩
 have ei:((List.range N).filterMap λw:Nat=>if(f n w).isSome=true then some (D.im (.int (w:Int)))else none)=AU (((List.range N).filter λw:Nat=>(f n w).isSome).map λw:Nat=>(w:Int)):=by
  generalize List.range N=L
  induction L with
  |nil=>rfl
  |cons x r ih=>
   rw[filterMap_cons,filter_cons];by_cases h:(f n x).isSome=true
   .simp[h,AU]at ih ⊢;exact ih
   .simp[h,AU]at ih ⊢;exact ih
 rw[ei];have hmm:(m:Int)∈((List.range N).filter λw:Nat=>(f n w).isSome).map λw:Nat=>(w:Int):=mem_map.mpr ⟨m,mem_filter.mpr ⟨by simpa using hm,h1⟩,rfl⟩;have hne:=List.ne_nil_of_mem hmm;refine⟨_,by unfold Fz;rw[Gu,bind_some,if_neg hne],?_⟩;have ms:=F5 hne;obtain⟨w,hw,ew⟩:=mem_map.mp ms.1;have h3:=ms.2 _ hmm;have h4:=h2 w (mem_filter.mp hw).2;have:Fu (((List.range N).filter λw:Nat=>(f n w).isSome).map λw:Nat=>(w:Int))=(m:Int):=by omega
 rw[this]
end T47.Tb
namespace T47
open PySem L2 Bd S7
def YU:F_ends_of=Bd.F_ends_of:=rfl
def Yk{ws:List Wk}{P:List Pl.Pc}(n8:ws.length<=8)(hP:∀p∈P,p.1<ws.length):WF F_ends_of [.im (Ag ws),.im (.tup (P.map Bb))] [] λd x=>d=.im (Od ((List.range ws.length).map (Pl.E P))):=by
 obtain⟨g,e⟩:=Om ws P hP (by omega);rw[Pl.ends_map]at e;exact WP.eq (YU ▸ e) rfl
def Zt{n:Nat}{ln cm:Nat->Nat}{G:Nat->Nat->Nat}{t:Nat}(H:Hist n ln cm G t){τ:Nat}(h:τ<=t)(j:Nat):G τ j<=ln j:=by
 have:=Sy H j τ 0 (by omega);rw[H.g0,Nat.zero_add]at this;exact this
theorem WD{n:Nat}{ln cm:Nat->Nat}{G:Nat->Nat->Nat}{t C:Nat}(H:Hist n ln cm G t)(hC:∀j,j<n->cm j<=C):∀d,C+d<=t->(∀j,j<n->G (C+d) j=0)∨sl (G (C+d)) (List.range n)+d<=sl ln (List.range n)
 |0,h=>.inr (by have:=O6 (S:=List.range n) λi _=>Zt H (τ:=C+0) h i;omega)
 |d+1,h=>by
  rcases H.st (C+d) (by omega)with⟨z,e⟩|⟨k,kn,kc,k0,kl,e⟩
  .exact .inl λj hj=>by rw[show C+(d+1)=C+d+1 by omega,e j];exact z j hj (by have:=hC j hj;omega)
  .rcases WD H hC d (by omega)with q|q
   .exact absurd (q k kn) (by omega)
   .refine .inr ?_;have:=P7 (f:=G (C+d)) (g:=G (C+d+1)) k0 e nodup_range (by simpa using kn);rw[show C+(d+1)=C+d+1 by omega];omega
def T9{n:Nat}{ln cm:Nat->Nat}{G:Nat->Nat->Nat}{t C:Nat}(H:Hist n ln cm G t)(hC:∀j,j<n->cm j<=C)(h:C+sl ln (List.range n)<=t):∀j,j<n->G (C+sl ln (List.range n)) j=0:=by
 rcases WD H hC _ h with q|q
 .exact q
 .have q:sl (G (C+sl ln (List.range n))) (List.range n)=0:=by omega
  exact λj hj=>JL q j (by simpa using hj)
def Yq{n:Nat}{ln cm lf:Nat->Nat}{P:List Pc}{t C:Nat}{G:Nat->Nat->Nat}(S:St n ln cm lf P t G)(z:∀j,j<n->lf j=0)(hC:∀j,j<n->cm j<=C){j:Nat}(hj:j<n):Pl.E P j<=((C+sl ln (List.range n):Nat):Int):=by
 by_cases h:C+sl ln (List.range n)<=t
 .exact(S.en j hj (z j hj) _ h).mp (T9 S.H hC h j hj)
 .have:=(S.en j hj (z j hj) t (le_refl _)).mp (by rw[S.gl];exact z j hj);omega
theorem Hz{f:Nat->Nat}{B:Nat}:∀{L:List Nat},(∀i∈L,f i<=B)->sl f L<=B*L.length
 |[],_=>by simp[sl]
 |x::r,h=>by
  have h1:=h x (by simp);have ih:=Hz (L:=r) λi hi=>h i (by simp[hi]);simp only[sl,map_cons,sum_cons,length_cons]at ih ⊢;rw[Nat.mul_succ];omega
def ag{w:Int}{ws:List Wk}(W:EW w ws){lf:Nat->Nat}{P:List Pc}{t:Nat}{G:Nat->Nat->Nat}(S:St ws.length (lnN ws) (cmN ws) lf P t G)(z:∀j,j<ws.length->lf j=0){j:Nat}(hj:j<ws.length):Pl.E P j<=220:=by
 have h1:=Yq S z (C:=60) (λj hj=>(Eu W hj).2) hj;have h2:=Hz (f:=lnN ws) (B:=20) (L:=List.range ws.length) λi hi=>(DJ W (by simpa using hi)).2.2;have:=W.n8;rw[length_range]at h2;omega
def Zw{w:Int}{ws:List Wk}(W:EW w ws){lf:Nat->Nat}{P:List Pc}{t:Nat}{G:Nat->Nat->Nat}(S:St ws.length (lnN ws) (cmN ws) lf P t G)(z:∀j,j<ws.length->lf j=0){j:Nat}(hj:j<ws.length):1<=Pl.E P j:=by
 refine Classical.byContradiction λq=>?_;have:=(S.en j hj (z j hj) 0 (zero_le _)).mpr (by omega);rw[S.H.g0]at this;have:=(DJ W hj).2.1;omega
def tw(t:Int)(ws:List Wk):List Tb.Wm:=ws.map λw=>⟨w.len,0,t-w.com,1⟩
def CH(t:Int)(ws:List Wk):(tw t ws).length=ws.length:=by simp[tw]
def HJ{w t:Int}{ws:List Wk}(W:EW w ws)(h0:-1000<=t)(h1:t<=1000):Tb.okMs 2000 0 (tw t ws):=by
 refine⟨λq=>?_,by rw[CH];exact W.n8,by omega,λw hw=>?_⟩
 .have e:=congrArg List.length q;rw[CH]at e;have:=W.n1;rw[e]at this;exact absurd this (by decide)
 .obtain⟨v,hv,rfl⟩:=mem_map.mp hw;obtain⟨g1,g2,_⟩:=W.ea v hv;exact⟨g1,rfl,by dsimp only;omega,by dsimp only;omega⟩
def JI(t:Int)(ws:List Wk):Tb.fullW (tw t ws)=(ws.length:Int):=by
 unfold Tb.fullW tw
 induction ws with
 |nil=>rfl
 |cons x r ih=>simp only[map_cons,sum_cons,length_cons]at ih ⊢;omega
def Fg{w t:Int}{ws:List Wk}(W:EW w ws):WF Dh [.im (Ag ws),.im (.int t)] [] λd x=>d=.im (Tb.wmsI (tw t ws)):=by
 have hl:=W.n8;unfold Dh;refine Ab rfl ?_;refine AT (Bl (Ao (BG (A1 rfl ⟨_,rfl,?_⟩))));rw[Dx];refine⟨AZ (by simp;omega),?_⟩;refine Aw wkD (λw=>some (Tb.wmD ⟨w.len,0,t-w.com,1⟩)) (λ_ ls=>∃x y z,ls=[some x,some y,some z,some (.im (.int t))]) _ (AK _) ?_ ?_
 .rintro w hw ls hls;refine⟨[some (.im (.int w.len)),some (.im (.int w.com)),some (.im (Kq w.cost)),some (.im (.int t))],by rcases hls with rfl|⟨_,x,y,z,rfl⟩<;>rfl,⟨_,_,_,rfl⟩,BH ⟨rfl,?_⟩⟩;rw[if_pos rfl];refine⟨_,rfl,B5 (A3 (A1 rfl (A3 (AG (A3 (B5 (A3 (AG (A3 (A7 (A1 rfl (A1 rfl (CV (A3 (AG (A4 ⟨Em,A4 ⟨Em,rfl,rfl⟩⟩))))))))))))))))⟩
 have e:(ws.filterMap λw=>some (Tb.wmD ⟨w.len,0,t-w.com,1⟩))=((tw t ws).map Tb.wmI).map D.im:=by simp[tw]
 rw[e];refine⟨_,rfl,?_⟩;rw[C1]
def Jz{w t:Int}{ws:List Wk}(W:EW w ws):WF FC [.im (Ag ws),.im (.int t)] [] λd x=>d=.im (Tb.wmsI (tw t ws)):=Fg W
open Lt (Wx En Am more sel IsMin)
def T3(ws:List Wk)(S:List Nat)(t:Int):Prop:=∀j∈S,(sl (lnN ws) (S.filter λi=>decide (cmN ws j<=cmN ws i)):Int)+(cmN ws j:Int)<=t
def YT(f:Nat->Nat)(p:Nat->Bool)(S:List Nat):sl f (S.filter p)<=sl f S:=by
 induction S with
 |nil=>exact le_refl _
 |cons x r ih=>
  rw[filter_cons];split
  .simp only[sl,map_cons,sum_cons]at ih ⊢;omega
  .simp only[sl,map_cons,sum_cons]at ih ⊢;omega
def O3{L:List Int}(hs:L.Pairwise (·<=·)){i:Nat}{e τ:Int}(h:L[i]?=some e)(lt:τ<e):L.countP (λx=>decide (x<=τ))<=i:=by
 obtain⟨hi,rfl⟩:=List.getElem?_eq_some_iff.mp h;have e1:L.countP (λx=>decide (x<=τ))=(L.take i).countP (λx=>decide (x<=τ))+(L.drop i).countP (λx=>decide (x<=τ)):=by rw[<- List.countP_append,take_append_drop]
 have e2:(L.drop i).countP (λx=>decide (x<=τ))=0:=by
  rw[List.countP_eq_zero];intro x hx;rw[drop_eq_getElem_cons hi]at hx;have pw:(L.drop i).Pairwise (·<=·):=hs.sublist (List.drop_sublist _ _);rw[drop_eq_getElem_cons hi]at pw;rcases mem_cons.mp hx with rfl|hx
  .simp;omega
  .have:=(List.pairwise_cons.mp pw).1 x hx;simp;omega
 have e3:=List.countP_le_length (p:=λx=>decide (x<=τ)) (l:=L.take i);rw[length_take]at e3;omega
def few{n:Nat}{E:Nat->Int}{i:Nat}{e:Int}{τ:Nat}{p:Nat->Bool}(h:(C0 ((List.range n).map E))[i]?=some e)(lt:(τ:Int)<e)(hp:∀j,j<n->p j=true->E j<=(τ:Int)):((List.range n).filter p).length<=i:=by
 have h1:=O3 (GY _) h lt;rw[(Bz _).countP_eq,List.countP_map]at h1;refine le_trans ?_ h1;rw[<- List.countP_eq_length_filter];exact List.countP_mono_left λj hj q=>by simpa using hp j (by simpa using hj) q
def Sn{w:Int}{ws:List Wk}(W:EW w ws){lf:Nat->Nat}{P:List Pc}{t:Nat}{G:Nat->Nat->Nat}(S0:St ws.length (lnN ws) (cmN ws) lf P t G)(z:∀j,j<ws.length->lf j=0){i:Nat}{e:Int}(h:(C0 ((List.range ws.length).map (Pl.E P)))[i]?=some e){S:List Nat}(nd:S.Nodup)(hS:∀i∈S,i<ws.length)(F:T3 ws S (e-1)):S.length<=i:=by
 by_cases q:S=[]
 .subst q;simp
 .obtain⟨j,hj⟩:=List.exists_mem_of_ne_nil _ q;have e1:=F j hj;have hm:e∈(List.range ws.length).map (Pl.E P):=(Bz _).mem_iff.mp (mem_of_getElem? h);obtain⟨k,hk,rfl⟩:=mem_map.mp hm;have hk:k<ws.length:=by simpa using hk
  have et:Pl.E P k<=(t:Int):=(S0.en k hk (z k hk) t (le_refl _)).mp (by rw[S0.gl,z k hk]);obtain⟨τ,eτ⟩:∃τ:Nat,Pl.E P k-1=(τ:Int):=⟨(Pl.E P k-1).toNat,by omega⟩
  have ht:τ<=t:=by omega
  refine le_trans (Vi S0.H ht nd hS (λi hi=>(DJ W (hS i hi)).2.1) λj hj=>?_) (few (τ:=τ) h (by omega) λj hj hp=>?_)
  .have:=F j hj;rw[eτ]at this;omega
  .have hp:cmN ws j<=τ/\G τ j=0:=by simpa using hp
   exact(S0.en j hj (z j hj) τ ht).mp hp.2
structure Fs(ws:List Wk)(T:Int)(dn:List Int)(m:Nat)(s:Int):Prop where
 ex:∃S:List Nat,S.Nodup/\(∀i∈S,(i:Int)∈dn)/\m=S.length/\s=(sl (lnN ws) S:Int)/\T3 ws S T
def Fs.add{ws:List Wk}{T:Int}{dn:List Int}{m:Nat}{s:Int}(h:Fs ws T dn m s){k:Nat}(nk:(k:Int)∉dn)(le:∀i:Nat,(i:Int)∈dn->cmN ws k<=cmN ws i)(c:s+(lnN ws k:Int)<=T-(cmN ws k:Int)):Fs ws T (dn++[(k:Int)]) (m+1) (s+(lnN ws k:Int)):=by
 obtain⟨S,n1,n2,rfl,rfl,n4⟩:=h;have kS:k∉S:=λz=>nk (n2 k z);have tot:sl (lnN ws) (S++[k])=sl (lnN ws) S+lnN ws k:=by rw[LB];simp[sl]
 refine⟨S++[k],?_,λi hi=>?_,by simp,by rw[tot];simp,λj hj=>?_⟩
 .rw[nodup_append];exact⟨n1,by simp,λa ha b hb e=>by rw[mem_singleton]at hb;subst hb;subst e;exact kS ha⟩
 .rcases mem_append.mp hi with q|q
  .simp[n2 i q]
  .rw[mem_singleton]at q;subst q;simp
 .by_cases e:cmN ws j=cmN ws k
  .have:=YT (lnN ws) (λi=>decide (cmN ws j<=cmN ws i)) (S++[k]);rw[tot]at this;omega
  .have jS:j∈S:=by
    rcases mem_append.mp hj with q|q
    .exact q
    .rw[mem_singleton]at q;subst q;exact absurd rfl e
   have h1:=le j (n2 j jS);have h2:=n4 j jS;rw[List.filter_append,LB];have:[k].filter (λi=>decide (cmN ws j<=cmN ws i))=[]:=by
    rw[filter_cons,decide_eq_false (by omega)];rfl
   rw[this];simpa [sl]using h2
def Fs.mono{ws:List Wk}{T:Int}{dn dn':List Int}{m:Nat}{s:Int}(h:Fs ws T dn m s)(hs:∀x∈dn,x∈dn'):Fs ws T dn' m s:=by
 obtain⟨S,n1,n2,n3⟩:=h;exact⟨S,n1,λi hi=>hs _ (n2 i hi),n3⟩
def T6{t:Int}{ws:List Wk}{k:Nat}(hk:k<ws.length):(tw t ws)[k]?=some ⟨ws[k].len,0,t-ws[k].com,1⟩:=by simp[tw,hk]
def QP{w t:Int}{ws:List Wk}(W:EW w ws){k:Nat}(hk:k<ws.length):Tb.dueOf (tw t ws) k=t-(cmN ws k:Int):=by
 unfold Tb.dueOf;rw[T6 hk,<- (Eu W hk).1];rfl
def Sm{B c:Int}{ws:List Tb.Wm}(ok:Tb.okMs B c ws)(hB:B<=2000):(Tb.ordI ws).Pairwise λa b=>Tb.dueOf ws a.toNat<=Tb.dueOf ws b.toNat:=by
 have w2:(C7 (Tb.duePs ws)).Pairwise λa b=>Aa a<=Aa b:=GX _;have p2:(C7 (Tb.duePs ws)).Perm (Tb.duePs ws):=Fi _;unfold Tb.ordI;rw[pairwise_map];refine w2.imp_of_mem λ{a b} ha hb hab=>?_
 have fa:∀a∈C7 (Tb.duePs ws),Tb.dueOf ws a.2.toNat=a.1/\pok a:=λa ha=>by
  obtain⟨k,hk,rfl⟩:=mem_map.mp (p2.mem_iff.mp ha);exact⟨rfl,Tb.due_ok ok hB (by simpa using hk)⟩
 obtain⟨e1,o1⟩:=fa a ha;obtain⟨e2,o2⟩:=fa b hb;rw[e1,e2];unfold Aa at hab;unfold pok at o1 o2;omega
def Xv(ws:List Tb.Wm):(Tb.ordI ws).Nodup:=by
 refine(Tb.ord_perm ws).nodup_iff.mpr (List.Pairwise.map _ (λa b h=>?_) nodup_range);omega
theorem MB{w T:Int}{ws:List Wk}(W:EW w ws)(h0:-1000<=T)(h1:T<=1000):∀i,i<=ws.length->∀e∈Am 0 (Tb.wxs (tw T ws)) i,Fs ws T ((Tb.ordI (tw T ws)).take i) e.2.1 e.2.2
 |0,_,e,he=>by
  simp only[Am,mem_singleton]at he;subst he;exact⟨[],by simp,by simp,rfl,rfl,λj hj=>by cases hj⟩
 |i+1,hi,e,he=>by
  have ih:=MB W h0 h1 i (by omega);have len:(Tb.ordI (tw T ws)).length=ws.length:=by rw[Tb.ord_len,CH]
  have hlt:i<(Tb.ordI (tw T ws)).length:=by omega
  obtain⟨k,hk,ek⟩:=Tb.ord_mem (ws:=tw T ws) (List.getElem_mem hlt);rw[CH]at hk;have et:(Tb.ordI (tw T ws)).take (i+1)=(Tb.ordI (tw T ws)).take i++[(k:Int)]:=by rw[List.take_succ_eq_append_getElem hlt,ek]
  have ed:Tb.ordI (tw T ws)=(Tb.ordI (tw T ws)).take i++(k:Int)::(Tb.ordI (tw T ws)).drop (i+1):=by
   rw[<- ek,<- drop_eq_getElem_cons hlt,take_append_drop]
  have ex:(Tb.wxs (tw T ws))[i]?=some ((lnN ws k:Int),T-(cmN ws k:Int),1):=by
   unfold Tb.wxs;rw[List.getElem?_map,List.getElem?_eq_getElem hlt,ek,map_some,toNat_natCast,T6 hk];show some (Tb.wx ⟨ws[k].len,0,T-ws[k].com,1⟩)=_;rw[(DJ W hk).1,(Eu W hk).1];rfl
  rw[Am,ex]at he;rcases mem_append.mp he with he|he
  .rw[et];exact(ih e he).mono λx hx=>mem_append_left _ hx
  .unfold more at he;obtain⟨e0,h2,rfl⟩:=mem_map.mp he;obtain⟨h2,h3⟩:=mem_filter.mp h2;have nd:=Xv (tw T ws);have ri:=Sm (HJ W h0 h1) (by decide);rw[ed]at nd ri;rw[et];refine(ih e0 h2).add (λz=>(nodup_append.mp nd).2.2 _ z _ (by simp) rfl) (λj hj=>?_) (by simpa using h3);have hj2:j<ws.length:=by
    obtain⟨k2,q1,q2⟩:=Tb.ord_mem (ws:=tw T ws) (List.mem_of_mem_take hj);rw[CH]at q1;omega
   have:=(List.pairwise_append.mp ri).2.2 _ hj (k:Int) (by simp);rw[toNat_natCast,toNat_natCast,QP W hj2,QP W hk]at this;omega
abbrev fN(t:Int)(ws:List Wk):Nat->Nat->Option Int:=Tb.fT 0 (Tb.wxs (tw t ws))
def N1(t:Int)(ws:List Wk):(Tb.wxs (tw t ws)).length=ws.length:=by unfold Tb.wxs;rw[length_map,Tb.ord_len,CH]
def MC{w T:Int}{ws:List Wk}(W:EW w ws)(h0:-1000<=T)(h1:T<=1000){m:Nat}(h:(fN T ws ws.length m).isSome=true):∃S:List Nat,S.Nodup/\(∀i∈S,i<ws.length)/\m=S.length/\T3 ws S T:=by
 have q:=Tb.fT_min 0 (Tb.wxs (tw T ws)) ws.length (by rw[N1];exact le_refl _) m;rcases q with⟨q,_⟩|⟨x,_,hx,_⟩
 .rw[show fN T ws ws.length m=none from q]at h;cases h
 .obtain⟨e,he,rfl⟩:=mem_map.mp hx;obtain⟨he,e2⟩:=mem_filter.mp he;obtain⟨S,n1,n2,n3,n4,n5⟩:=MB W h0 h1 _ (le_refl _) e he;refine⟨S,n1,λi hi=>?_,by rw[<- n3];exact(of_decide_eq_true e2).symm,n5⟩;obtain⟨k2,q1,q2⟩:=Tb.ord_mem (ws:=tw T ws) (List.mem_of_mem_take (n2 i hi));rw[CH]at q1;omega
def YW(T:Int)(ws:List Wk):(fN T ws ws.length 0).isSome=true:=by
 have q:=Tb.fT_min 0 (Tb.wxs (tw T ws)) ws.length (by rw[N1];exact le_refl _) 0;have mem:∀i,(0,0,(0:Int))∈Am 0 (Tb.wxs (tw T ws)) i:=λi=>by
  induction i with
  |zero=>simp[Am]
  |succ i ih=>rw[Am];exact mem_append_left _ ih
 rcases q with⟨_,q⟩|⟨x,q,_⟩
 .have:(0:Int)∈sel 0 (Am 0 (Tb.wxs (tw T ws)) ws.length):=mem_map.mpr ⟨_,mem_filter.mpr ⟨mem _,by simp⟩,rfl⟩;rw[q]at this;cases this
 .rw[show fN T ws ws.length 0=some x from q];rfl
theorem Ku(p:Nat->Bool):∀n,(∀w,p w=true->w<=n)->p 0=true->∃m,m<=n/\p m=true/\∀w,p w=true->w<=m
 |0,h,h0=>⟨0,le_refl _,h0,h⟩
 |n+1,h,h0=>by
  by_cases q:p (n+1)=true
  .exact⟨n+1,le_refl _,q,h⟩
  .obtain⟨m,h1,h2,h3⟩:=Ku p n (λw hw=>by
    have:=h w hw;by_cases e:w=n+1
    .subst e;exact absurd hw q
    .omega) h0
   exact⟨m,by omega,h2,h3⟩
theorem N6{f g:Nat->Int}{k:Nat}:∀{L:List Nat},L.Nodup->k∈L->(∀j∈L,j≠k->g j=f j)->(L.map g).sum=(L.map f).sum+(g k-f k)
 |x::r,nd,hk,h=>by
  obtain⟨n1,n2⟩:=nodup_cons.mp nd;simp only[map_cons,sum_cons];by_cases e:x=k
  .subst e;have:r.map g=r.map f:=map_congr_left λj hj=>h j (by simp[hj]) (λe=>by subst e;exact n1 hj);rw[this];omega
  .have hr:k∈r:=by
    rcases mem_cons.mp hk with q|q
    .exact absurd q.symm e
    .exact q
   have ih:=N6 n2 hr λj hj=>h j (by simp[hj]);have:=h x (by simp) e;omega
theorem N7(f:Nat->Nat):∀L:List Nat,(L.map λk=>(f k:Int)).sum=(sl f L:Int)
 |[]=>rfl
 |x::r=>by
  have:=N7 f r;simp only[sl,map_cons,sum_cons]at this ⊢;omega
abbrev pr7(γ:Nat->Nat)(k:Nat):D:=.im (.tup [.int (γ k:Int),.int (k:Int)])
def kf7:D->Int×Int
 |.im (.tup [.int a,.int b])=>(a,b)
 |_=>(0,0)
theorem Jv(γ:Nat->Nat):∀V:List Nat,FW (V.map (pr7 γ))=some ((V.map (pr7 γ)).map kf7)
 |[]=>rfl
 |k::V=>by
  rw[map_cons,FW,Jv γ V];rfl
def YB{γ:Nat->Nat}{V:List Nat}(ne:V≠[]):∃k∈V,Fy (V.map (pr7 γ))=some (pr7 γ k)/\∀j∈V,γ k<γ j∨γ k=γ j/\k<=j:=by
 cases V with
 |nil=>exact absurd rfl ne
 |cons v V=>
  obtain⟨b1,b2⟩:=FB kf7 (V.map (pr7 γ)) (pr7 γ v);have e:Fy ((v::V).map (pr7 γ))=some (BL (V.map (pr7 γ)) ((V.map (pr7 γ)).map kf7) (pr7 γ v) (kf7 (pr7 γ v))):=by
   unfold Fy;rw[Jv γ (v::V)];rfl
  generalize BL (V.map (pr7 γ)) ((V.map (pr7 γ)).map kf7) (pr7 γ v) (kf7 (pr7 γ v))=d at b1 b2 e;obtain⟨k,hk,rfl⟩:=mem_map.mp (show d∈(v::V).map (pr7 γ)from b1);refine⟨k,hk,e,λj hj=>?_⟩;have:=b2 (pr7 γ j) (show _∈(v::V).map (pr7 γ)from mem_map.mpr ⟨j,hj,rfl⟩);unfold leP ltZ at this;have:=of_decide_eq_false this;simp only[kf7]at this;omega
def YS(p:Nat->Prop)[DecidablePred p](γ:Nat->Nat)(L:List Nat):(L.filterMap λk=>if p k then some (pr7 γ k)else none)=(L.filter λk=>decide (p k)).map (pr7 γ):=by
 induction L with
 |nil=>rfl
 |cons x r ih=>
  rw[filterMap_cons,filter_cons];by_cases h:p x
  .rw[if_pos h,decide_eq_true h,if_pos rfl,ih];rfl
  .rw[if_neg h,decide_eq_false h,if_neg (by simp),ih]
theorem Ma(γ:Nat->Nat):∀V:List Nat,B1 (V.map (pr7 γ))=some (V.map λk=>I.tup [.int (γ k:Int),.int (k:Int)])
 |[]=>rfl
 |k::V=>by simp only[map_cons,B1,Ma γ V];rfl
theorem NN(γ:Nat->Nat):∀V:List Nat,PyData.canLayAll0 (I.pys (V.map λk=>I.tup [.int (γ k:Int),.int (k:Int)]))=true
 |[]=>by simp[I.pys,PyData.canLayAll0]
 |k::V=>by simp[I.pys,I.py,PyData.canLayAll0,PyData.canLay0,NN γ V]
def W1{ma:ME}{ls:Ls}{hd:Hd}{QE:D->Hd->Prop}(h:WE ma ls hd λd x=>∃a γ V,d=.mu a/\x[a]?=some (.lst (V.map (pr7 γ)))/\QE (.im (.bl (!decide (V=[])))) x):WE (DH true ma (CZ A5)) ls hd QE:=by
 obtain⟨d,x,e1,a,γ,V,rfl,e2,q⟩:=h;have e3:pyD x (.mu a)=some (.list (I.pys (V.map λk=>I.tup [.int (γ k:Int),.int (k:Int)]))):=by
  show(match x[a]? with|some (.lst ds)=>(B1 ds).map λis=>PyData.list (I.pys is)|_=>none)=_;rw[e2];show(B1 _).map _=_;rw[Ma,map_some]
 refine⟨_,x,?_,q⟩;unfold DH;rw[e1];have hq:WA (CZ A5) ls x λds y=>ds=[]/\y=x:=DC (A4 ⟨Gw,rfl,rfl⟩);obtain⟨_,_,e4,rfl,rfl⟩:=hq;simp only[bind_some,e4,e3,B1];unfold Jf;have l1:(PyData.list (I.pys (V.map λk=>I.tup [.int (γ k:Int),.int (k:Int)]))).canLay0=true:=by
  rw[PyData.canLay0];exact NN γ V
 rw[if_pos ⟨l1,by simp[I.pys,PyData.canLay0,PyData.canLayAll0],le_trans (Nat.min_le_right _ _) (by simp[I.pys,PyData.depth,PyData.depthAll])⟩];cases V with
 |nil=>simp[PyData.eqv,I.pys,PyData.eqvAll]
 |cons k V=>simp[PyData.eqv,I.pys,PyData.eqvAll]
def Hx(P:List Pc)(n:Nat)(γ:Nat->Nat):Int:=((List.range n).map λj=>if γ j=0 then Pl.E P j else 0).sum
abbrev Ly(ws:List Wk)(z3 z4 z5:Option D):Ls:=[some (.im (Ag ws)),some (.mu 0),some (.mu 1),z3,z4,z5]
inductive I_ly(ws:List Wk)(P:List Pc)(t N:Nat)(G:Nat->Nat->Nat)(r:List D)(ls:Ls)(hd:Hd):Prop
 |mk (τ:Nat) (ns:List Int) (g:Hd) (z3 z4 z5:Option D) (h0:τ<=N) (h1:r=Ar (τ:Int) (N-τ)) (h2:ls=Ly ws z3 z4 z5) (h3:hd=.lst (Au ws.length (G (min τ t)))::.lst (AU ns)::g) (h4:ns.sum=Hx P ws.length (G (min τ t))) (h5:ns.length<=τ):I_ly ws P t N G r ls hd
set_option maxHeartbeats 2000000 in
def Lz{w:Int}{ws:List Wk}(W:EW w ws){lf:Nat->Nat}{P:List Pc}{t:Nat}{G:Nat->Nat->Nat}(S:St ws.length (lnN ws) (cmN ws) lf P t G)(z:∀j,j<ws.length->lf j=0):
 WF DS [.im (Ag ws)] [] λd x=>∃k ns,d=.mu k/\x[k]?=some (.lst (AU ns))/\ns.sum=((List.range ws.length).map (Pl.E P)).sum:=by
 have n8:=W.n8;have n1:=W.n1;unfold DS;refine Ab rfl ?_;refine A8 (AO (Ba (Ao (BG (A1 rfl ⟨_,rfl,?_⟩)))));rw[Dx];refine⟨AZ (by simp;omega),?_⟩;refine Aw wkD (λz=>some (.im (.int z.len))) (λ_ ls=>∃x,ls=[some x]) _ (AK _) ?_ ?_
 .rintro z hz ls hls;refine⟨[some (wkD z)],by rcases hls with rfl|⟨_,x,rfl⟩<;>rfl,⟨_,rfl⟩,BH ⟨rfl,?_⟩⟩;rw[if_pos rfl];exact⟨_,rfl,A7 (A1 rfl (AG (AH rfl (Ev _ _) ⟨rfl,rfl⟩)))⟩
 have e0:(ws.filterMap λz=>some (D.im (.int z.len)))=Au ws.length (lnN ws):=by
  refine ext_getElem? λi=>?_;by_cases hi:i<ws.length
  .have:=(DJ W hi).1;simp[hi,this]
  .rw[List.getElem?_eq_none (by simp;omega),List.getElem?_eq_none (by simp;omega)]
 rw[e0];refine A6 (A8 (AO (Ba (DC (A4 ⟨Gw,A6 ?_⟩)))));refine A8 (BQ (JF (A3 (A7 (Bl (Ao (BG (A1 rfl ⟨_,rfl,?_⟩))))))));rw[Dx];refine⟨AZ (by simp;omega),?_⟩;refine Aw wkD (λz=>some (.im (.int z.com))) (λ_ ls=>∃x,ls=[some x]) _ (AK _) ?_ ?_
 .rintro z hz ls hls;refine⟨[some (wkD z)],by rcases hls with rfl|⟨_,x,rfl⟩<;>rfl,⟨_,rfl⟩,BH ⟨rfl,?_⟩⟩;rw[if_pos rfl];exact⟨_,rfl,A7 (A1 rfl (AG (AH rfl (Cq _ _ _) ⟨rfl,rfl⟩)))⟩
 have e1:(ws.filterMap λz=>some (D.im (.int z.com)))=AU ((List.range ws.length).map λk=>(cmN ws k:Int)):=by
  refine ext_getElem? λi=>?_;by_cases hi:i<ws.length
  .have:=(Eu W hi).1;simp[AU,hi,this]
  .rw[List.getElem?_eq_none (by simp;omega),List.getElem?_eq_none (by simp[AU];omega)]
 rw[e1];have ne:((List.range ws.length).map λk=>(cmN ws k:Int))≠[]:=by
  intro h;have e:=congrArg List.length h;rw[length_map,length_range,length_nil]at e;omega
 obtain⟨m1,m2⟩:=F5 ne;obtain⟨k9,hk9,ek9⟩:=mem_map.mp m1;have hk9:k9<ws.length:=by simpa using hk9
 have ec:Fz (AU ((List.range ws.length).map λk=>(cmN ws k:Int)))=some (.im (.int (cmN ws k9:Int))):=by
  unfold Fz;rw[show Al (AU ((List.range ws.length).map λk=>(cmN ws k:Int)))=some _ from Ce _,bind_some,if_neg ne,ek9]
 have hC:∀j,j<ws.length->cmN ws j<=cmN ws k9:=λj hj=>by
  have:=m2 _ (mem_map.mpr ⟨j,by simpa using hj,rfl⟩);rw[<- ek9]at this;omega
 have es:Cd (Au ws.length (lnN ws))=some (.im (.int (sl (lnN ws) (List.range ws.length):Int))):=by
  unfold Cd;rw[show Au ws.length (lnN ws)=((List.range ws.length).map λk=>(lnN ws k:Int)).map λi=>D.im (.int i) by simp,Ce,<- N7];rfl
 have b1:=(Eu W hk9).2;have b2:=Hz (f:=lnN ws) (B:=20) (L:=List.range ws.length) λi hi=>(DJ W (by simpa using hi)).2.2;rw[length_range]at b2;refine⟨_,ec,B6 (A3 (A1 rfl (A4 (BC (ds:=Au ws.length (lnN ws)) rfl es (Bk (A4 ⟨_,rfl,ER (by omega) (by omega),?_⟩))))))⟩;obtain⟨N,eN⟩:∃N,N=cmN ws k9+sl (lnN ws) (List.range ws.length):=⟨_,rfl⟩
 have eN2:(cmN ws k9:Int)+(sl (lnN ws) (List.range ws.length):Int)=(N:Int):=by omega
 rw[eN2];have g0:G (min 0 t)=lnN ws:=by rw[Nat.zero_min];exact funext S.H.g0
 change WP (B8 _ _ _ (Ar ((0:Nat):Int) (N:Int).toNat) _ _) _;have done:∀τ,t<=τ->∀j,j<ws.length->G (min τ t) j=0:=λτ h j hj=>by rw[Nat.min_eq_right h,S.gl];exact z j hj
 refine BD (I_ly ws P t N G) (.mk 0 [] [] none none none (by omega) (by rw[toNat_natCast];rfl) rfl (by rw[g0];rfl) ?_ (by simp)) ?_ ?_
 .rw[g0];unfold Hx;rw[show((List.range ws.length).map λj=>if lnN ws j=0 then Pl.E P j else 0)=(List.range ws.length).map λ_=>(0:Int)from map_congr_left λj hj=>if_neg (by have:=(DJ W (show j<ws.length by simpa using hj)).2.1;omega)]
  induction ws.length with
  |zero=>rfl
  |succ n ih=>rw[range_succ,map_append,List.sum_append,<- ih];rfl
 .intro d r ls hd hI;obtain⟨τ,ns,g,z3,z4,z5,hτ,er,rfl,rfl,hs,hl⟩:=hI;obtain⟨m,hm⟩:∃m,N-τ=m+1:=by
   cases q:N-τ with
   |zero=>rw[q]at er;cases er
   |succ m=>exact⟨m,rfl⟩
  rw[hm,Ar]at er;obtain⟨rfl,rfl⟩:=List.cons.inj er;have ej:((τ:Int)+1)=((τ+1:Nat):Int):=by omega
  have emj:m=N-(τ+1):=by omega
  generalize hγ:G (min τ t)=γ at hs;refine⟨Ly ws (some (.im (.int (τ:Int)))) z4 z5,rfl,?_⟩;refine A8 (AO (Ba (Ao (JF (A3 (B6 (A3 (A1 rfl (A4 (BC (ds:=(ws.map Bu).map D.im) (z:=.im (.int (ws.length:Int))) rfl (by simp[Ay]) (A4 ⟨_,rfl,ER (by omega) (by omega),?_⟩)))))))))));rw[toNat_natCast,Fo];refine⟨AZ (by simp;omega),?_⟩;refine Aw (xs:=List.range ws.length) (λk:Nat=>D.im (.int (k:Int))) (λk=>if 0<γ k/\cmN ws k<=τ then some (pr7 γ k)else none) (λ_ ls=>∃x,ls=[some x,some (.mu 0),some (.im (Ag ws)),some (.im (.int (τ:Int)))]) _ (AK _) ?_ ?_
  .rintro k hk ls hls;have hk:k<ws.length:=by simpa using hk
   refine⟨[some (.im (.int (k:Int))),some (.mu 0),some (.im (Ag ws)),some (.im (.int (τ:Int)))],by rcases hls with rfl|⟨_,x,rfl⟩<;>rfl,⟨_,rfl⟩,?_⟩;refine Dw (AI (A7 (A7 (A1 rfl (A1 rfl (AH (ds:=Au ws.length γ) rfl (row_at hk) (AG (Ex ⟨_,rfl,?_⟩))))))));by_cases h:0<γ k
   .rw[if_pos (by simpa using h)];refine AI (A7 (A7 (A7 (A1 rfl (A1 rfl (AH (ds:=(ws.map Bu).map D.im) rfl (GE rfl (by simp[hk]:((ws.map Bu).map D.im)[k]?=some (wkD ws[k]))) (AG (AH (ds:=[.im (.int (ws[k]).len),.im (.int (ws[k]).com),.im (Kq (ws[k]).cost)]) rfl (Cq _ _ _) (A1 rfl (IW ⟨_,rfl,rfl,?_⟩))))))))));rw[(Eu W hk).1];by_cases h2:cmN ws k<=τ
    .rw[if_pos (by simpa using h2),if_pos ⟨h,h2⟩];exact⟨_,rfl,B5 (A3 (A7 (A1 rfl (A1 rfl (AH (ds:=Au ws.length γ) rfl (row_at hk) (A3 (A1 rfl (A4 ⟨CK,rfl,rfl⟩))))))))⟩
    .rw[if_neg (by simpa using h2),if_neg λq=>h2 q.2]
   .rw[if_neg (by simpa using h)];refine⟨rfl,?_⟩;rw[if_neg (by simp),if_neg λq=>h q.1]
  rw[YS (λk=>0<γ k/\cmN ws k<=τ) γ];have hV:∀k,k∈(List.range ws.length).filter (λk=>decide (0<γ k/\cmN ws k<=τ))↔k<ws.length/\0<γ k/\cmN ws k<=τ:=λk=>by simp
  have lV:((List.range ws.length).filter λk=>decide (0<γ k/\cmN ws k<=τ)).length<=8:=by
   have:((List.range ws.length).filter λk=>decide (0<γ k/\cmN ws k<=τ)).length<=(List.range ws.length).length:=List.length_filter_le _ _;rw[length_range]at this;omega
  generalize (List.range ws.length).filter (λk=>decide (0<γ k/\cmN ws k<=τ))=V at hV lV;refine A6 (AN (AI (W1 (A1 rfl ⟨_,γ,V,rfl,by simp,_,rfl,λh=>?_,λh=>?_⟩))))
  .have neV:V≠[]:=by simpa using h
   obtain⟨k,kV,ek,km⟩:=YB (γ:=γ) neV;obtain⟨kn,k0,kc⟩:=(hV k).mp kV;have lt:τ<t:=by
    refine Classical.byContradiction λq=>?_;have:=done τ (by omega) k kn;rw[hγ]at this;omega
   rw[min_eq_left (by omega)]at hγ;have nx:G (min (τ+1) t)=λj=>if j=k then γ k-1 else γ j:=by
    rw[min_eq_left (by omega)];rcases S.H.st τ lt with⟨q,_⟩|⟨k',kn',kc',k0',kl,e⟩
    .have:=q k kn kc;rw[hγ]at this;omega
    .rw[hγ]at k0' kl e;have h1:=km k' ((hV k').mpr ⟨kn',k0',kc'⟩);have h2:=kl k kn kc k0;have:k'=k:=by omega
     subst this
     funext j
     rw[e j];by_cases q:j=k'
     .subst q;simp
     .simp[q]
   have hEk:γ k-1=0->Pl.E P k=(τ:Int)+1:=λq=>by
    have a1:=(S.en k kn (z k kn) (τ+1) (by omega)).mp (by rw[min_eq_left (by omega)]at nx;rw[nx];simp[q]);have a2:¬ Pl.E P k<=(τ:Int):=λr=>by
     have:=(S.en k kn (z k kn) τ (by omega)).mpr r;rw[hγ]at this;omega
    omega
   have upd:Hx P ws.length (λj=>if j=k then γ k-1 else γ j)=Hx P ws.length γ+if γ k-1=0 then Pl.E P k else 0:=by
    unfold Hx;rw[N6 (f:=λj=>if γ j=0 then Pl.E P j else 0) (k:=k) nodup_range (by simpa using kn) λj _ q=>by simp[q]];rw[if_neg (show ¬ γ k=0 by omega)];simp
   refine A8 (AO (A7 (B6 (A3 (A1 rfl (A4 (BC (ds:=V.map (pr7 γ)) (by simp[Ak]) ek (AG (AH (ds:=[.im (.int (γ k:Int)),.im (.int (k:Int))]) rfl (Cq _ _ _) (A6 ?_))))))))));have hix:ixN (Au ws.length γ).length (k:Int)=some k:=by unfold ixN;simp[kn]
   refine A8 (N2 (A7 (A7 (A1 rfl (A1 rfl (AH (ds:=Au ws.length γ) rfl (row_at kn) (AG (CV (A1 rfl (A1 rfl ⟨0,(k:Int),k,_,rfl,rfl,rfl,hix,A6 ?_⟩))))))))));rw[cons_append,cons_append,List.set_cons_zero,show(γ k:Int)-1=((γ k-1:Nat):Int) by omega,NE kn];have e9:(Au ws.length λj=>if j=k then γ k-1 else γ j)=Au ws.length (G (min (τ+1) t)):=by rw[nx]
   have nxk:G (min (τ+1) t) k=γ k-1:=by rw[nx];simp
   rw[e9];refine AN (AI (A7 (A7 (A1 rfl (A1 rfl (AH (ds:=Au ws.length (G (min (τ+1) t))) rfl (row_at kn) (AG (EX ⟨_,rfl,λh=>?_,λh=>?_⟩))))))))
   .have h0:γ k-1=0:=by rw[nxk]at h;have:=of_decide_eq_true h;omega
    refine BS (IX (A1 rfl ⟨⟨_,rfl⟩,A3 (A7 (A1 rfl (AG (Bk (A4 (GT rfl (De (by simp[AU];omega)) ?_))))))⟩));refine⟨AK _,.mk (τ+1) (ns++[(τ:Int)+1]) (g++[.lst (V.map (pr7 γ))]) _ _ _ (by omega) (by rw[ej,emj]) rfl (by simp[AU]) ?_ (by simp;omega)⟩;rw[List.sum_append,hs,nx,upd,if_pos h0,hEk h0];simp
   .have h0:¬ γ k-1=0:=λq=>by rw[nxk,q]at h;simp at h
    refine AL ⟨AK _,.mk (τ+1) ns _ _ _ _ (by omega) (by rw[ej,emj]) rfl rfl ?_ (by omega)⟩;rw[hs,nx,upd,if_neg h0];omega
  .have eV:V=[]:=by simpa using h
   refine AL ⟨AK _,.mk (τ+1) ns (g++[.lst (V.map (pr7 γ))]) _ _ _ (by omega) (by rw[ej,emj]) rfl ?_ ?_ (by omega)⟩
   all_goals
    have same:G (min (τ+1) t)=γ∨∀j,j<ws.length->G (min (τ+1) t) j=γ j:=by
     by_cases lt:τ<t
     .rw[min_eq_left (by omega)]at hγ;rw[min_eq_left (by omega)];rcases S.H.st τ lt with⟨_,e⟩|⟨k',kn',kc',k0',kl,e⟩
      .exact .inr λj _=>by rw[e j,hγ]
      .rw[hγ]at k0';have:=(hV k').mpr ⟨kn',k0',kc'⟩;rw[eV]at this;cases this
     .exact .inl (by rw[<- hγ,Nat.min_eq_right (by omega),Nat.min_eq_right (by omega)])
    have same:∀j,j<ws.length->G (min (τ+1) t) j=γ j:=same.elim (λe j _=>by rw[e]) id
   .have:Au ws.length (G (min (τ+1) t))=Au ws.length γ:=map_congr_left λj hj=>by rw[same j (by simpa using hj)]
    rw[this];rfl
   .rw[hs];unfold Hx;exact congrArg List.sum (map_congr_left λj hj=>by rw[same j (by simpa using hj)])
 .intro ls hd hI;obtain⟨τ,ns,g,z3,z4,z5,hτ,er,rfl,rfl,hs,hl⟩:=hI;have eτ:τ=N:=by
   cases q:N-τ with
   |zero=>omega
   |succ m=>rw[q,Ar]at er;cases er
  subst eτ;refine A6 (AT (A1 rfl ⟨1,ns,rfl,rfl,?_⟩));rw[hs];unfold Hx;refine congrArg List.sum (map_congr_left λj hj=>?_);have hj:j<ws.length:=by simpa using hj
  have:G (min τ t) j=0:=by
   by_cases h:t<=τ
   .exact done τ h j hj
   .rw[min_eq_left (by omega),eN];exact T9 S.H hC (by omega) j hj
  rw[if_pos this]
def P1{mi:MI}{ls:Ls}{hd:Hd}{QA:List D->Hd->Prop}(h:WI mi ls hd λp x=>∃ns:List Int,p.1=AU ns/\ns.length<64/\QA (AU (C0 ns)) x):WA (DY mi) ls hd QA:=by
 obtain⟨p,x,e,ns,e1,hl,q⟩:=h;refine⟨_,_,?_,q⟩;simp only[DY,e,bind_some,e1,show Al (AU ns)=some ns from Ce ns,hl,if_true]
abbrev DD(t:Int)(ws:List Wk):I:=Tb.tabI ws.length (ws.length+1) (fN t ws)
abbrev C2(ws:List Wk)(e:Int):I:=.tup [.int e,DD (e-1) ws]
abbrev La(ws:List Wk)(es:List Int):I:=.tup (es.map (C2 ws))
def Tt{w t:Int}{ws:List Wk}(W:EW w ws)(h0:-1000<=t)(h1:t<=1000):WF DP [.im (Tb.wmsI (tw t ws))] [] λd _=>d=.im (DD t ws):=by
 refine(Tb.table_of_w (HJ W h0 h1) (by decide)).mono ?_;rintro d x rfl;rw[CH,JI,toNat_natCast]
structure Pq(ws:List Wk)(es:List Int):Prop where
 ln:es.length=ws.length
 rg:∀e∈es,1<=e/\e<=220
 fw:∀k e,es[k]?=some e->∀m,(fN (e-1) ws ws.length m).isSome=true->m<=k
def MF{w:Int}{ws:List Wk}(W:EW w ws){P:List Pl.Pc}(hp:WF CP [.im (Ag ws)] [] λd _=>d=.im (.tup (P.map Bb)))(hP:∀p∈P,p.1<ws.length)(rg:∀j,j<ws.length->1<=Pl.E P j/\Pl.E P j<=220):WF DU [.im (Ag ws)] [] λd _=>d=.im (La ws (C0 ((List.range ws.length).map (Pl.E P)))):=by
 have n8:=W.n8;unfold DU;refine Ab rfl ?_;refine A8 (AO (Ba (P1 (BG (AE (A3 (A1 rfl (A3 (AE (A3 (A1 rfl (A4 ⟨by simp,hp.mono ?_⟩))))))))))));rintro d x rfl;refine⟨_,rfl,A4 ⟨by simp,(Yk n8 hP).mono ?_⟩⟩;rintro d x rfl;refine⟨_,rfl,_,rfl,(List.range ws.length).map (Pl.E P),by simp[AU],by simp;omega,A6 ?_⟩;have rg2:∀e∈C0 ((List.range ws.length).map (Pl.E P)),1<=e/\e<=220:=λe he=>by
  obtain⟨j,hj,rfl⟩:=mem_map.mp ((Bz _).mem_iff.mp he);exact rg j (by simpa using hj)
 have ln2:(C0 ((List.range ws.length).map (Pl.E P))).length=ws.length:=by rw[(Bz _).length_eq];simp
 generalize C0 ((List.range ws.length).map (Pl.E P))=es at rg2 ln2;refine AT (Bl (Ao (Hv (A1 rfl ⟨0,AU es,rfl,rfl,AZ (by simp[AU];omega),?_⟩))));refine Aw (xs:=es) (λe:Int=>D.im (.int e)) (λe=>some (.im (C2 ws e))) (λ_ ls=>∃x,ls=[some x,some (.im (Ag ws))]) _ (by intro p hp;rw[mem_singleton]at hp;subst hp;rfl) ?_ ?_
 .rintro e he ls hls;obtain⟨e1,e2⟩:=rg2 e he;refine⟨[some (.im (.int e)),some (.im (Ag ws))],by rcases hls with rfl|⟨_,x,rfl⟩<;>rfl,⟨_,rfl⟩,BH ⟨rfl,?_⟩⟩;rw[if_pos rfl];refine⟨_,rfl,B5 (A3 (A1 rfl (A3 (AE (A3 (AE (A3 (A1 rfl (A3 (A7 (A1 rfl (AG (CV (A4 ⟨by simp,(Fg W).mono ?_⟩))))))))))))))⟩;rintro d x rfl;refine⟨_,rfl,A4 ⟨by simp,(Tt W (by omega) (by omega)).mono ?_⟩⟩;rintro d x rfl;exact⟨_,rfl,A4 ⟨CK,rfl,rfl⟩⟩
 have e:(es.filterMap λe=>some (D.im (C2 ws e)))=(es.map (C2 ws)).map D.im:=by simp
 rw[e];refine⟨_,rfl,?_⟩;rw[C1]
def Mv{w:Int}{ws:List Wk}(W:EW w ws){e:Int}(h1:1<=e)(h2:e<=220)(k:Nat):WF BW [.im (Ag ws),.im (.int (k:Int)),.im (C2 ws e)] [] λd _=>d=.im .non:=by
 unfold BW;refine Ab rfl ?_;refine A8 (AN (Cy (BI (Af (AE (A3 (AG (A3 (A1 rfl (A4 ⟨by simp,(Tb.tuple_w (n:=2) (is:=[.int e,DD (e-1) ws]) rfl).mono ?_⟩))))))))));rintro d x rfl;refine⟨_,rfl,_,rfl,?_⟩;rw[if_neg (by simp)];refine BI (Af (AE (A3 (A7 (A1 rfl (AG (AH (ds:=[.im (.int e),.im (DD (e-1) ws)]) rfl (Ev _ _) (A4 ⟨by simp,(Tb.number_w e).mono ?_⟩))))))));rintro d x rfl;refine⟨_,rfl,_,rfl,(λh=>by cases h),λ_=>AL (A6 ?_)⟩;refine BS (AE (A3 (AE (A3 (A1 rfl (A3 (A7 (A7 (A1 rfl (AG (AH (ds:=[.im (.int e),.im (DD (e-1) ws)]) rfl (Ev _ _) (AG (CV (A4 ⟨by simp,(Fg W).mono ?_⟩))))))))))))));rintro d x rfl;refine⟨_,rfl,A3 (A7 (A1 rfl (AG (AH (ds:=[.im (.int e),.im (DD (e-1) ws)]) rfl (Cq _ _ _) (A3 (B5 (A3 (A1 rfl (A3 (AG (A4 ⟨CK,A4 ⟨by simp,?_⟩⟩)))))))))))⟩;refine(Tb.shape_w (pt:=[.int (k:Int),.int 1]) (HJ W (by omega) (by omega)) (n:=ws.length) (N:=ws.length+1) (CH _ _).symm (by rw[JI];omega) (fN (e-1) ws)).mono ?_;rintro d x rfl;exact⟨_,rfl,rfl⟩
def Zn{w:Int}{ws:List Wk}(W:EW w ws){e:Int}(h1:1<=e)(h2:e<=220){k:Nat}(hf:∀m,(fN (e-1) ws ws.length m).isSome=true->m<=k):WF CU [.im (Ag ws),.im (.int (k:Int)),.im (C2 ws e)] [] λd _=>d=.im .non:=by
 have n8:=W.n8;have ok:=HJ W (t:=e-1) (by omega) (by omega);obtain⟨m,hm,m1,m2⟩:=Ku (λm=>(fN (e-1) ws ws.length m).isSome) ws.length (λm hm=>by
  obtain⟨S,n1,n2,rfl,_⟩:=MC W (by omega) (by omega) hm;have:=Ir n1 (L:=List.range ws.length) λx hx=>by simpa using n2 x hx
  simpa using this) (YW _ _)
 have mk:=hf m m1;unfold CU;refine Ab rfl ?_;refine A8 (Kr (A1 rfl ⟨[some (.im (Ag ws)),some (.im (.int (k:Int))),some (.im (C2 ws e)),some (.im (.int e)),some (.im (DD (e-1) ws))],rfl,A6 ?_⟩));refine A8 (BS (AE (A3 (AE (A3 (A1 rfl (A3 (A7 (A1 rfl (AG (CV (A4 ⟨by simp,(Fg W).mono ?_⟩))))))))))));rintro d x rfl;refine⟨_,rfl,A3 (A1 rfl (A3 (B5 (A3 (A1 rfl (A3 (AG (A4 ⟨CK,A4 ⟨by simp,?_⟩⟩))))))))⟩;have q:=Tb.places_w (pt:=[.int (k:Int),.int 1]) (by simp) ok (by decide) (N:=ws.length+1) (by omega) (by omega);rw[CH]at q;refine q.mono ?_;rintro d x rfl;refine⟨_,rfl,A6 ?_⟩;refine AN (AI (A7 (AE (A3 (A1 rfl (A4 ⟨by simp,(Tb.greatest_w (n:=ws.length) (N:=ws.length+1) (m:=m) (f:=fN (e-1) ws) (by omega) (by omega) m1 m2).mono ?_⟩))))));rintro d x rfl;exact⟨_,rfl,A1 rfl (Ex ⟨_,rfl,(λh=>absurd h (by simp;omega)),λ_=>AL rfl⟩)⟩
abbrev Lq(ws:List Wk)(es:List Int)(w:Int)(z3 z4:Option D):Ls:=[some (.im (Ag ws)),some (.im (La ws es)),some (.im (.int w)),z3,z4]
abbrev enI(ws:List Wk)(q:Int×Nat):D:=AV [.im (.int (q.2:Int)),.im (C2 ws q.1)]
inductive I_lq(ws:List Wk)(es:List Int)(w:Int)(r:List D)(ls:Ls)(hd:Hd):Prop
 |mk (z3 z4:Option D) (h1:∀d∈r,∃(k:Nat) (e:Int),es[k]?=some e/\d=enI ws (e,k)) (h2:ls=Lq ws es w z3 z4) (h3:hd=[]):I_lq ws es w r ls hd
def J9{ws:List Wk}{es:List Int}:∀d∈((es.map (C2 ws)).map D.im).zipIdx.map λq=>AV [.im (.int (q.2:Int)),q.1],∃(k:Nat) (e:Int),es[k]?=some e/\d=enI ws (e,k):=λd hd=>by
 obtain⟨⟨x,i⟩,hq,rfl⟩:=mem_map.mp hd;have:=List.mem_zipIdx_iff_getElem?.mp hq;simp only[map_map,List.getElem?_map,map_eq_some_iff]at this;obtain⟨e,h1,rfl⟩:=this;exact⟨i,e,h1,rfl⟩
def Mu{w:Int}{ws:List Wk}(W:EW w ws){es:List Int}(Q:Pq ws es):WF Du [.im (Ag ws),.im (La ws es)] [] λd _=>d=.im (.int (w*es.sum)):=by
 have n8:=W.n8;have ln:=Q.ln;unfold Du;refine Ab rfl ?_;refine A8 (AO (AE (A3 (A1 rfl (A4 ⟨by simp,(Gx W).mono ?_⟩)))));rintro d x rfl;refine⟨_,rfl,A6 ?_⟩;refine A8 (AN (BI (Af (AE (A3 (B6 (A3 (A1 rfl (A4 (BC (ds:=(ws.map Bu).map D.im) (z:=.im (.int (ws.length:Int))) rfl (by simp[Ay]) (A3 (A1 rfl (A4 ⟨by simp,(Tb.tuple_w (n:=(ws.length:Int)) (is:=es.map (C2 ws)) (by simp[ln])).mono ?_⟩)))))))))))));rintro d x rfl;refine⟨_,rfl,_,rfl,(λh=>by cases h),λ_=>AL (A6 ?_)⟩;refine A8 (BQ (Bh (BG (A1 rfl ⟨_,rfl,?_⟩))));refine BD (I_lq ws es w) (.mk none none J9 rfl rfl) ?_ ?_
 .intro d r ls hd hI;obtain⟨z3,z4,hr,rfl,rfl⟩:=hI;obtain⟨k,e,he,rfl⟩:=hr d (by simp);obtain⟨e1,e2⟩:=Q.rg e (mem_of_getElem? he);refine⟨Lq ws es w (some (.im (.int (k:Int)))) (some (.im (C2 ws e))),rfl,?_⟩;refine BS (AE (A3 (A1 rfl (A3 (A1 rfl (A3 (A1 rfl (A4 ⟨by simp,(Mv W e1 e2 k).mono ?_⟩))))))));rintro d x rfl;exact⟨_,rfl,AK _,.mk _ _ (λd hd=>hr d (by simp[hd])) rfl rfl⟩
 intro ls hd hI;obtain⟨z3,z4,hr,rfl,rfl⟩:=hI;refine A6 (A8 (BQ (Bh (BG (A1 rfl ⟨_,rfl,?_⟩)))));refine BD (I_lq ws es w) (.mk _ _ J9 rfl rfl) ?_ ?_
 .intro d r ls hd hI;obtain⟨z3,z4,hr,rfl,rfl⟩:=hI;obtain⟨k,e,he,rfl⟩:=hr d (by simp);obtain⟨e1,e2⟩:=Q.rg e (mem_of_getElem? he);refine⟨Lq ws es w (some (.im (.int (k:Int)))) (some (.im (C2 ws e))),rfl,?_⟩;refine BS (AE (A3 (A1 rfl (A3 (A1 rfl (A3 (A1 rfl (A4 ⟨by simp,(Zn W e1 e2 (Q.fw k e he)).mono ?_⟩))))))));rintro d x rfl;exact⟨_,rfl,AK _,.mk _ _ (λd hd=>hr d (by simp[hd])) rfl rfl⟩
 intro ls hd hI;obtain⟨z3,z4,hr,rfl,rfl⟩:=hI;refine A6 (AT (A7 (A1 rfl (Bl (Ao (BG (A1 rfl ⟨_,rfl,AZ (by simp;omega),?_⟩)))))));rw[show(es.map (C2 ws)).map D.im=es.map λe=>D.im (C2 ws e) by simp];refine Aw (xs:=es) (λe=>D.im (C2 ws e)) (λe=>some (.im (.int e))) (λ_ ls=>∃x y,ls=[some x,some y]) _ (AK _) ?_ ?_
 .rintro e he ls hls;refine⟨[some (.im (.int e)),some (.im (DD (e-1) ws))],by rcases hls with rfl|⟨_,x,y,rfl⟩<;>rfl,⟨_,_,rfl⟩,BH ⟨rfl,?_⟩⟩;rw[if_pos rfl];exact⟨_,rfl,A1 rfl ⟨rfl,rfl⟩⟩
 have e9:(es.filterMap λe=>some (D.im (.int e)))=AU es:=by simp[AU]
 rw[e9];refine⟨.im (.int es.sum),by unfold Cd;rw[show Al (AU es)=some es from Ce es];rfl,Ks (DB ?_ ?_) rfl⟩
 .have:=W.w0;omega
 .have:=W.w0;omega
namespace Tb
open PySem L2 Bd
open Lt (IsMin comb behind Ai sel Am Wx)
def is_entry_w(o:Option Int):WF DT [Ae o] [] λd _=>d=.im (.bl true):=by
 unfold DT;refine Ab rfl ?_;refine AT (Oy (AI (we_isN (A1 rfl ⟨o,rfl,_,rfl,?_⟩))));cases o with
 |none=>rw[if_pos (by simp)]
 |some x=>
  rw[if_neg (by simp)];refine DV (AI (BK (A1 rfl ⟨true,rfl,_,rfl,?_⟩)));rw[if_pos rfl];exact JG (AI (BK (A1 rfl ⟨false,rfl,_,rfl,rfl⟩)))
abbrev Lh(ws:List Wm)(n N:Nat)(f:Nat->Nat->Option Int)(pt:List I)(z4 z5 z6 z7:Option D):Ls:=[some (.im (wmsI ws)),some (.im (tabI n N f)),some (.im (.tup pt)),some (.im (.int ((N:Int)-1))),z4,z5,z6,z7]
inductive I_sh(h:Hd)(ws:List Wm)(n N:Nat)(f:Nat->Nat->Option Int)(pt:List I)(r:List D)(ls:Ls)(hd:Hd):Prop
 |mk (z4 z5 z6 z7:Option D) (h1:∀d∈r,∃k:Nat,k<n+1/\d=AV [.im (.int (k:Int)),.im (rowI N (f k))]) (h2:ls=Lh ws n N f pt z4 z5 z6 z7) (h3:hd=h):I_sh h ws n N f pt r ls hd
inductive I_si(h:Hd)(ws:List Wm)(n N:Nat)(f:Nat->Nat->Option Int)(pt:List I)(z4 z5:Option D)(r:List D)(ls:Ls)(hd:Hd):Prop
 |mk (z6 z7:Option D) (h1:∀d∈r,∃(k:Nat) (o:Option Int),d=AV [.im (.int (k:Int)),Ae o]) (h2:ls=Lh ws n N f pt z4 z5 z6 z7) (h3:hd=h):I_si h ws n N f pt z4 z5 r ls hd
def lshape_w{h:Hd}{pt:List I}{B c:Int}{ws:List Wm}(ok:okMs B c ws){n N:Nat}(hn:n=ws.length)(hN:(N:Int)=fullW ws+1)(f:Nat->Nat->Option Int):WF He [.im (wmsI ws),.im (tabI n N f),.im (.tup pt)] h λd x=>d=.im .non/\x=h:=by
 have hl8:=ok.2.1;unfold He;refine Ab rfl ?_;refine A8 (AO (Bl (Ao (BG (A1 rfl ⟨_,rfl,?_⟩)))));rw[Cg];refine⟨AZ (by simp;omega),?_⟩;refine Aw wmD (λw=>some (.im (.int w.wt))) (λ_ ls=>∃x,ls=[some x]) _ (AK _) ?_ ?_
 .rintro p hp ls hls;refine⟨[some (wmD p)],by rcases hls with rfl|⟨_,x,rfl⟩<;>rfl,⟨_,rfl⟩,BH ⟨rfl,?_⟩⟩;rw[if_pos rfl];exact⟨_,rfl,A7 (A7 (A1 rfl (AG (AH (ds:=[.im (.int p.len),.im (.int p.com),.im (.tup [.str "miss",.int p.due,.int p.wt])]) rfl (EE _ _ _ _) (AG (AH (ds:=[.im (.str "miss"),.im (.int p.due),.im (.int p.wt)]) rfl (EE _ _ _ _) ⟨rfl,rfl⟩))))))⟩
 have e:(ws.filterMap λw=>some (D.im (.int w.wt)))=AU (ws.map Wm.wt):=by simp[AU]
 rw[e];have e2:Cd (AU (ws.map Wm.wt))=some (.im (.int ((N:Int)-1))):=by
  unfold Cd;rw[Gu];show some (D.im (.int (fullW ws)))=_;rw[show fullW ws=(N:Int)-1 by omega]
 refine⟨_,e2,A6 ?_⟩;refine A8 (AN (Cy (BI (Af (BK (A1 rfl ⟨true,rfl,_,rfl,?_⟩))))));rw[if_neg (by simp)];refine AI (A7 (B6 (A3 (A1 rfl (A4 (BC (ds:=(List.range (n+1)).map λk=>D.im (rowI N (f k))) (z:=.im (.int ((n+1:Nat):Int))) (by simp[tabI,Ax,AW]) (by simp[Ay]) (A7 (B6 (A3 (A1 rfl (A4 (BC (ds:=(ws.map wmI).map D.im) (z:=.im (.int (ws.length:Int))) rfl (by simp[Ay]) (AG (Bk (FP ⟨_,rfl,(λq=>absurd q (by simp[hn])),λ_=>AL (A6 ?_)⟩)))))))))))))));refine A8 (BQ (Bh (BG (A1 rfl ⟨(List.range (n+1)).map λk=>D.im (rowI N (f k)),by simp[tabI],?_⟩))));refine BD (I_sh h ws n N f pt) (.mk none none none none (λd hd=>?_) rfl rfl) ?_ ?_
 .obtain⟨⟨x,i⟩,hq,rfl⟩:=mem_map.mp hd;have:=List.mem_zipIdx_iff_getElem?.mp hq;simp only[List.getElem?_map,map_eq_some_iff]at this;obtain⟨j,h1,rfl⟩:=this;obtain⟨h2,h3⟩:=List.getElem?_eq_some_iff.mp h1;simp only[length_range]at h2;simp only[List.getElem_range]at h3;subst h3;exact⟨_,h2,rfl⟩
 .intro d r ls hd hI;obtain⟨z4,z5,z6,z7,hr,rfl,rfl⟩:=hI;obtain⟨k,hk,rfl⟩:=hr d (by simp);refine⟨Lh ws n N f pt (some (.im (.int (k:Int)))) (some (.im (rowI N (f k)))) z6 z7,rfl,?_⟩;refine A8 (AN (Cy (BI (Af (BK (A1 rfl ⟨true,rfl,_,rfl,?_⟩))))));rw[if_neg (by simp)];refine AI (A7 (B6 (A3 (A1 rfl (A4 (BC (ds:=(List.range N).map λw=>Ae (f k w)) (z:=.im (.int (N:Int))) (by simp[rowI,Ax,AW]) (by simp[Ay]) (A7 (A1 rfl (AG (Bk (FP ⟨_,rfl,(λq=>absurd q (by simp)),λ_=>AL (A6 ?_)⟩)))))))))));refine BQ (Bh (BG (A1 rfl ⟨(List.range N).map λw=>Ae (f k w),by simp[rowI],?_⟩)));refine BD (I_si hd ws n N f pt (some (.im (.int (k:Int)))) (some (.im (rowI N (f k))))) (.mk z6 z7 (λd hd=>?_) rfl rfl) ?_ ?_
  .obtain⟨⟨x,i⟩,hq,rfl⟩:=mem_map.mp hd;have:=List.mem_zipIdx_iff_getElem?.mp hq;simp only[List.getElem?_map,map_eq_some_iff]at this;obtain⟨j,h1,rfl⟩:=this;exact⟨_,_,rfl⟩
  .intro d r ls hd hI;obtain⟨z6,z7,hr2,rfl,rfl⟩:=hI;obtain⟨i,o,rfl⟩:=hr2 d (by simp);refine⟨Lh ws n N f pt (some (.im (.int (k:Int)))) (some (.im (rowI N (f k)))) (some (.im (.int (i:Int)))) (some (Ae o)),by cases o<;>rfl,?_⟩;refine AN (BI (Af (AE (A3 (A1 rfl (A4 ⟨by simp,(is_entry_w o).mono ?_⟩))))));rintro d x rfl;exact⟨_,rfl,_,rfl,(λq=>by cases q),λ_=>AL ⟨AK _,.mk _ _ (λd hd=>hr2 d (by simp[hd])) rfl rfl⟩⟩
  .intro ls hd hI;obtain⟨z6,z7,hr2,rfl,rfl⟩:=hI;exact⟨AK _,.mk _ _ _ _ (λd hd=>hr d (by simp[hd])) rfl rfl⟩
 .intro ls hd hI;obtain⟨z4,z5,z6,z7,hr,rfl,rfl⟩:=hI;exact A6 (AT (AG ⟨rfl,rfl⟩))
def QB{B c:Int}{p:Wm}(ok:okM B c p){N:Nat}(f:Nat->Option Int){w:Nat}(hw:w<N):WF FE [.im (rowI N f),.im (.int (w:Int)),wmD p] [] λd _=>d=Ae (Ai (wx p) f w):=by
 have h0:=ok.2.2.2;unfold FE;refine Ab rfl ?_;refine A8 (Kr (A1 rfl ⟨[some (.im (rowI N f)),some (.im (.int (w:Int))),some (wmD p),some (.im (.int p.len)),some (.im (.int p.com)),some (.im (.tup [.str "miss",.int p.due,.int p.wt])),none],rfl,A6 ?_⟩));refine A8 (AO (A7 (A1 rfl (A1 rfl (AH rfl (row_at hw) (A6 ?_))))));have cix:∀{QE:D->Hd->Prop} {ls:Ls} {hd:Hd},ls[5]?=some (some (D.im (.tup [.str "miss",.int p.due,.int p.wt])))->QE (.im (.int p.wt)) hd->WE (mOp gIx (A0 5) (mC (.int 2))) ls hd QE:=λh q=>A7 (A1 h (AG (AH (ds:=[.im (.str "miss"),.im (.int p.due),.im (.int p.wt)]) rfl (EE _ _ _ _) q)));refine A8 (AN (Dw (AI (A7 (A1 rfl (cix rfl (Yu ⟨_,rfl,?_⟩)))))));by_cases q:w<(wx p).2.2
 .have q':¬ p.wt<=(w:Int):=by unfold wx at q;dsimp only at q;omega
  rw[if_neg (by simpa using q')];refine⟨(λh=>absurd h (by simpa using q')),λ_=>AL (A6 (AT (A1 rfl ?_)))⟩;unfold Ai;rw[if_pos q];rfl
 .have q':p.wt<=(w:Int):=by unfold wx at q;dsimp only at q;omega
  rw[if_pos (by simpa using q')];have ek:(w:Int)-p.wt=((w-(wx p).2.2:Nat):Int):=by unfold wx at q ⊢;dsimp only at q ⊢;omega
  have hk:w-(wx p).2.2<N:=by omega
  have nx:Ai (wx p) f w=comb (f w) (behind p.len p.due (f (w-(wx p).2.2))):=by unfold Ai;rw[if_neg q];rfl
  have aix:∀{QE:D->Hd->Prop} {ls:Ls} {hd:Hd},ls[0]?=some (some (D.im (rowI N f)))->ls[1]?=some (some (D.im (.int (w:Int))))->ls[5]?=some (some (D.im (.tup [.str "miss",.int p.due,.int p.wt])))->QE (Ae (f (w-(wx p).2.2))) hd->WE (mOp gIx (A0 0) (mOp BV (A0 1) (mOp gIx (A0 5) (mC (.int 2))))) ls hd QE:=λa0 a1 a5 h=>A7 (A1 a0 (A7 (A1 a1 (cix a5 (CV (by rw[ek];exact AH rfl (row_at hk) h))))));refine Dw (AI (we_isN (aix rfl rfl rfl ⟨f (w-(wx p).2.2),rfl,_,rfl,?_⟩)));cases e:f (w-(wx p).2.2)with
  |none=>
   rw[if_neg (by simp)];refine⟨(λh=>by cases h),λ_=>AL (A6 (AT (A1 rfl ?_)))⟩;rw[nx,e];rfl
  |some x=>
   rw[if_pos (by simp)];rw[e]at aix;refine AI (A7 (A7 (aix rfl rfl rfl (A1 rfl (Bk (A7 (A1 rfl (AG (AH (ds:=[.im (.str "miss"),.im (.int p.due),.im (.int p.wt)]) rfl (Cq _ _ _) (IW ⟨_,rfl,λh=>?_,λh=>?_⟩))))))))))
   .have h:x+p.len<=p.due:=by simpa using h
    have eb:behind p.len p.due (some x)=some (x+p.len):=by unfold behind;dsimp only;rw[if_pos h]
    refine WP.mono (Q:=λfl y=>y=[]/\((∃y0,f w=some y0/\y0<=x+p.len/\fl=.nx [some (.im (rowI N f)),some (.im (.int (w:Int))),some (wmD p),some (.im (.int p.len)),some (.im (.int p.com)),some (.im (.tup [.str "miss",.int p.due,.int p.wt])),some (Ae (f w))])∨fl=.rt (Ae (Ai (wx p) f w)))) (AN (Cy (AI (we_isN (A1 rfl ⟨f w,rfl,_,rfl,?_⟩))))) ?_
    .cases e2:f w with
     |none=>
      rw[if_pos (by simp)];refine⟨λ_=>AT (A7 (aix rfl rfl rfl (A1 rfl (Bk ⟨rfl,.inr ?_⟩)))),λh=>by cases h⟩;rw[nx,e,eb,e2];rfl
     |some y=>
      rw[if_neg (by simp)];refine AI (A7 (A7 (aix rfl rfl rfl (A1 rfl (Bk (A1 rfl (T4 ⟨_,rfl,λh2=>?_,λh2=>?_⟩)))))))
      .have h2:x+p.len<y:=by simpa using h2
       refine AT (A7 (aix rfl rfl rfl (A1 rfl (Bk ⟨rfl,.inr ?_⟩))));rw[nx,e,eb,e2];unfold comb;dsimp only;rw[if_neg (by omega)];rfl
      .have h2:¬ x+p.len<y:=by simpa using h2
       exact AL ⟨rfl,.inl ⟨y,rfl,by omega,rfl⟩⟩
    .rintro fl y ⟨rfl,⟨y0,e2,le,rfl⟩|rfl⟩
     .refine A6 (AT (A1 rfl ?_));rw[nx,e,eb,e2];unfold comb;dsimp only;rw[if_pos le]
     .exact rfl
   .have h:¬ x+p.len<=p.due:=by simpa using h
    refine AL (A6 (AT (A1 rfl ?_)));have eb:behind p.len p.due (some x)=none:=by unfold behind;dsimp only;rw[if_neg h]
    rw[nx,e,eb];rfl
end Tb
namespace Tb
open PySem L2 Bd
open Lt (IsMin comb behind Ai sel Am Wx)
def llast_w{n N m:Nat}{f:Nat->Nat->Option Int}(hN:N<=100)(hm:m<N)(h1:(f n m).isSome=true)(h2:∀w,(f n w).isSome=true->w<=m):WF Mg [.im (tabI n N f)] [] λd x=>d=.im (.int (m:Int)):=greatest_w hN hm h1 h2
abbrev Lp7(ws:List Wm)(N:Nat)(L:List Wx)(pt:List I)(z3 z4 z5 z6 z7:Option D):Ls:=[some (.im (wmsI ws)),some (.im (tabI ws.length N (fT 0 L))),some (.im (.tup pt)),z3,z4,z5,z6,z7]
inductive I_po(ws:List Wm)(N:Nat)(pt:List I)(r:List D)(ls:Ls)(hd:Hd):Prop
 |mk (z3 z4 z5 z6 z7:Option D) (h1:∀d∈r,∃(k:Nat) (i:Int),(ordI ws)[k]?=some i/\d=AV [.im (.int (k:Int)),.im (.int i)]) (h2:ls=Lp7 ws N (wxs ws) pt z3 z4 z5 z6 z7) (h3:hd=[.lst (AU (ordI ws))]):I_po ws N pt r ls hd
inductive I_pi(ws:List Wm)(N:Nat)(pt:List I)(z3 z4:Option D)(g:Nat->Option Int)(r:List D)(ls:Ls)(hd:Hd):Prop
 |mk (z5 z6 z7:Option D) (h1:∀d∈r,∃w:Nat,w<N/\d=AV [.im (.int (w:Int)),Ae (g w)]) (h2:ls=Lp7 ws N (wxs ws) pt z3 z4 z5 z6 z7) (h3:hd=[.lst (AU (ordI ws))]):I_pi ws N pt z3 z4 g r ls hd
def VP(a:Option Int):nm a a=true:=by
 cases a with
 |none=>rfl
 |some x=>simp[nm]
def Td{ws:List Wm}{N:Nat}{L:List Wx}{pt:List I}{z3 z4 z5:Option D}{e a:Option Int}{hd:Hd}{QT:Bool->Hd->Prop}(h:nm e a=true)(q:QT false hd):
 WT (Co (AF (Av true (A0 7))) (mOr (AF (Av false (A0 6))) (AF (mOp gGt (A0 6) (A0 7))))) (Lp7 ws N L pt z3 z4 z5 (some (Ae e)) (some (Ae a))) hd QT:=by
 refine Dw (AI (we_isN (A1 rfl ⟨a,rfl,_,rfl,?_⟩)));cases a with
 |none=>rw[if_neg (by simp)];exact q
 |some y=>
  rw[if_pos (by simp)];refine Cy (AI (we_isN (A1 rfl ⟨e,rfl,_,rfl,?_⟩)));cases e with
  |none=>simp[nm]at h
  |some x=>
   rw[if_neg (by simp)];have h:x<=y:=by simpa [nm]using h
   refine AI (A7 (A1 rfl (A1 rfl (Ex ⟨_,rfl,?_⟩))));rw[decide_eq_false (by omega)];exact q
set_option maxHeartbeats 1000000 in
def lplaces_w{pt:List I}{B:Int}{ws:List Wm}(ok:okMs B 0 ws)(hB:B<=2000){N:Nat}(hN:N<=100)(h0:0<N):WF GH [.im (wmsI ws),.im (tabI ws.length N (fT 0 (wxs ws))),.im (.tup pt)] [] λd _=>d=.im .non:=by
 have hl8:=ok.2.1;have hl0:0<ws.length:=by
  cases q:ws with
  |nil=>exact absurd q ok.1
  |cons _ _=>simp
 have c0:(ws[0]).com=0:=(ok.2.2.2 _ (List.getElem_mem hl0)).2.1;unfold GH;refine Ab rfl ?_;have t00:∀{QE:D->Hd->Prop} {ls:Ls} {hd:Hd},ls[1]?=some (some (D.im (tabI ws.length N (fT 0 (wxs ws)))))->QE (Ae (some 0)) hd->WE (mOp gIx (mOp gIx (A0 1) (mC (.int 0))) (mC (.int 0))) ls hd QE:=λh q=>A7 (A7 (A1 h (AG (AH rfl (Ec (k:=0) (by omega)) (AG (AH rfl (row_at (w:=0) h0) q))))));refine A8 (AN (Cy (AI (we_isN (t00 rfl ⟨some 0,rfl,_,rfl,?_⟩)))));rw[if_neg (by simp)];refine AI (A7 (t00 rfl (A7 (A7 (A1 rfl (AG (AH (by rw[Ee,Cg]) (Ff (k:=0) hl0) (AG (AH (ds:=[.im (.int (ws[0]).len),.im (.int (ws[0]).com),.im (.tup [.str "miss",.int (ws[0]).due,.int (ws[0]).wt])]) rfl (Cq _ _ _) ?_)))))))));rw[c0];refine Ex ⟨_,rfl,(λh=>by simp at h),λ_=>AL (A6 ?_)⟩;refine A8 (BQ (Bh (Hv (GU (A3 (A1 rfl (A4 ⟨[],[],rfl,rfl,by simp,rfl,(OY ok hB).mono ?_⟩)))))));rintro d x ⟨rfl,rfl⟩;refine⟨0,_,[],_,rfl,le_refl _,rfl,rfl,rfl,rfl,E7 _ _,0,AU (ordI ws),rfl,rfl,?_⟩;have GK:GOk [MO.lst (AU (ordI ws))] [(0,AU (ordI ws))]:=by intro q hq;rw[mem_singleton]at hq;subst hq;rfl
 refine BD (I_po ws N pt) (.mk none none none none none (λd hd=>?_) rfl rfl) ?_ ?_
 .obtain⟨⟨x,i⟩,hq,rfl⟩:=mem_map.mp hd;have:=List.mem_zipIdx_iff_getElem?.mp hq;simp only[AU,List.getElem?_map,map_eq_some_iff]at this;obtain⟨j,h1,rfl⟩:=this;exact⟨_,_,h1,rfl⟩
 .intro d r ls hd hI;obtain⟨z3,z4,z5,z6,z7,hr,rfl,rfl⟩:=hI;obtain⟨k,i,hi,rfl⟩:=hr d (by simp);obtain⟨j,hj,rfl⟩:=ord_mem (mem_of_getElem? hi);have hk:k<ws.length:=by
   have:=(List.getElem?_eq_some_iff.mp hi).1;rw[ord_len]at this;exact this
  have ex:(wxs ws)[k]?=some (wx ws[j]):=by
   unfold wxs;rw[List.getElem?_map,hi];simp[hj]
  have e2:∀w,fT 0 (wxs ws) (k+1) w=Ai (wx ws[j]) (fT 0 (wxs ws) k) w:=λw=>by rw[fT,ex]
  refine⟨Lp7 ws N (wxs ws) pt (some (.im (.int (k:Int)))) (some (.im (.int (j:Int)))) z5 z6 z7,rfl,?_⟩;refine BQ (Bh (BG (A7 (A1 rfl (A7 (A1 rfl (AG (Bk ?_))))))));rw[show(k:Int)+1=((k+1:Nat):Int) by omega];refine AH rfl (Ec (by omega)) ⟨(List.range N).map λw=>Ae (fT 0 (wxs ws) (k+1) w),by simp[rowI],?_⟩;refine BD (I_pi ws N pt (some (.im (.int (k:Int)))) (some (.im (.int (j:Int)))) (fT 0 (wxs ws) (k+1))) (.mk z5 z6 z7 (λd hd=>?_) rfl rfl) ?_ ?_
  .obtain⟨⟨x,i⟩,hq,rfl⟩:=mem_map.mp hd;have:=List.mem_zipIdx_iff_getElem?.mp hq;simp only[List.getElem?_map,map_eq_some_iff]at this;obtain⟨j,h1,rfl⟩:=this;obtain⟨h2,h3⟩:=List.getElem?_eq_some_iff.mp h1;simp only[length_range]at h2;simp only[List.getElem_range]at h3;subst h3;exact⟨_,h2,rfl⟩
  .intro d r ls hd hI;obtain⟨z5,z6,z7,hr2,rfl,rfl⟩:=hI;obtain⟨w,hw,rfl⟩:=hr2 d (by simp);refine⟨Lp7 ws N (wxs ws) pt (some (.im (.int (k:Int)))) (some (.im (.int (j:Int)))) (some (.im (.int (w:Int)))) (some (Ae (fT 0 (wxs ws) (k+1) w))) z7,by cases(fT 0 (wxs ws) (k+1) w)<;>rfl,?_⟩;refine A8 (AO (A7 (A7 (A1 rfl (A1 rfl (AH rfl (Ec (by omega)) (A1 rfl (AH rfl (row_at hw) (A6 ?_)))))))));refine A8 (AN (Td (by rw[e2];exact Y9 _ _) ⟨(λh=>by cases h),λ_=>AL (A6 ?_)⟩));refine A8 (AO (AE (A3 (A7 (A1 rfl (A1 rfl (AH rfl (Ec (by omega)) (A3 (A1 rfl (A3 (A7 (A1 rfl (A1 rfl (AH (by rw[Ee,Cg]) (Ff hj) (A4 ⟨by simp[wmI],(QB (ok.2.2.2 _ (List.getElem_mem hj)) _ hw).mono ?_⟩)))))))))))))));rintro d x rfl;refine⟨_,rfl,A6 ?_⟩;refine AN (Td (a:=Ai (wx ws[j]) (fT 0 (wxs ws) k) w) (by rw[e2];exact VP _) ⟨(λh=>by cases h),λ_=>AL ?_⟩);exact⟨AK _,.mk _ _ _ (λd hd=>hr2 d (by simp[hd])) rfl rfl⟩
  .intro ls hd hI;obtain⟨z5,z6,z7,hr2,rfl,rfl⟩:=hI;exact⟨GK,.mk _ _ _ _ _ (λd hd=>hr d (by simp[hd])) rfl rfl⟩
 .intro ls hd hI;obtain⟨z3,z4,z5,z6,z7,hr,rfl,rfl⟩:=hI;exact A6 (AT (AG rfl))
end Tb
open S7
abbrev Lj(ws:List Wk)(es:List Int)(z2 z3 z4 z5 z6 z7:Option D):Ls:=[some (.im (Ag ws)),some (.im (La ws es)),z2,z3,z4,z5,z6,z7]
inductive I_lj(h:Hd)(ws:List Wk)(es:List Int)(r:List D)(ls:Ls)(hd:Hd):Prop
 |mk (z2 z3 z4 z5 z6 z7:Option D) (h1:∀d∈r,∃(k:Nat) (e:Int),es[k]?=some e/\d=enI ws (e,k)) (h2:ls=Lj ws es z2 z3 z4 z5 z6 z7) (h3:hd=h):I_lj h ws es r ls hd
def W4{w:Int}{ws:List Wk}(W:EW w ws){QE:D->Hd->Prop}{ls:Ls}{hd:Hd}{i:Nat}(h:ls[i]?=some (some (D.im (Ag ws))))(q:QE (.im (.int w)) hd):WE (mOp gIx (mOp gIx (mOp gIx (A0 i) (mC (.int 0))) (mC (.int 2))) (mC (.int 1))) ls hd QE:=by
 have n1:=W.n1;have h0:0<ws.length:=by omega
 have ec:(ws[0]).cost=.ends w:=(W.ea _ (List.getElem_mem h0)).2.2;refine A7 (A7 (A7 (A1 h (AG (AH (ds:=(ws.map Bu).map D.im) rfl (GE (k:=0) rfl (by simp[h0]:((ws.map Bu).map D.im)[0]?=some (wkD ws[0]))) (AG (AH (ds:=[.im (.int (ws[0]).len),.im (.int (ws[0]).com),.im (Kq (ws[0]).cost)]) rfl (EE _ _ _ _) (AG ?_))))))));rw[ec];exact AH (ds:=[.im (.str "ends"),.im (.int w)]) rfl (Cq _ _ _) q
def Sg{h:Hd}{w:Int}{ws:List Wk}(W:EW w ws){es:List Int}(Q:Pq ws es):WF GI [.im (Ag ws),.im (La ws es)] h λd x=>d=.im (.tup [.str "told",.int (w*es.sum)])/\x=h:=by
 have n8:=W.n8;have ln:=Q.ln;unfold GI;refine Ab rfl ?_;refine A8 (AN (Cy (BI (Af (BK (A1 rfl ⟨true,rfl,_,rfl,?_⟩))))));rw[if_neg (by simp)];refine AI (A7 (B6 (A3 (A1 rfl (A4 (BC (ds:=(es.map (C2 ws)).map D.im) (z:=.im (.int (es.length:Int))) rfl (by simp[Ay]) (B6 (A3 (A1 rfl (A4 (BC (ds:=(ws.map Bu).map D.im) (z:=.im (.int (ws.length:Int))) rfl (by simp[Ay]) (FP ⟨_,rfl,(λq=>absurd q (by simp[ln])),λ_=>AL (A6 ?_)⟩))))))))))));refine A8 (BQ (Bh (BG (A1 rfl ⟨_,rfl,?_⟩))));refine BD (I_lj h ws es) (.mk none none none none none none J9 rfl rfl) ?_ ?_
 .intro d r ls hd hI;obtain⟨z2,z3,z4,z5,z6,z7,hr,rfl,rfl⟩:=hI;obtain⟨k,e,he,rfl⟩:=hr d (by simp);obtain⟨e1,e2⟩:=Q.rg e (mem_of_getElem? he);refine⟨Lj ws es (some (.im (.int (k:Int)))) (some (.im (C2 ws e))) z4 z5 z6 z7,rfl,?_⟩;refine A8 (AN (Cy (BI (Af (BK (A1 rfl ⟨true,rfl,_,rfl,?_⟩))))));rw[if_neg (by simp)];refine Cy (AI (A7 (B6 (A3 (A1 rfl (A4 (BC (ds:=[.im (.int e),.im (DD (e-1) ws)]) (z:=.im (.int 2)) rfl rfl (AG (FP ⟨_,rfl,?_⟩)))))))));rw[if_neg (by simp)];refine Cy (AI (Tb.we_isN (A7 (A1 rfl (AG (AH (ds:=[.im (.int e),.im (DD (e-1) ws)]) rfl (Ev _ _) ⟨some e,rfl,_,rfl,?_⟩))))));rw[if_neg (by simp)];refine BI (Af (AE (A3 (A7 (A1 rfl (AG (AH (ds:=[.im (.int e),.im (DD (e-1) ws)]) rfl (Ev _ _) (A4 ⟨by simp,(Tb.is_entry_w (some e)).mono ?_⟩))))))));rintro d x rfl;refine⟨_,rfl,_,rfl,(λq=>by cases q),λ_=>AL (A6 ?_)⟩;refine A8 (AO (EY (A3 (AE (A3 (A1 rfl (A3 (AG (A4 ⟨by simp,(Jz W).mono ?_⟩)))))))));rintro d x rfl;refine⟨_,rfl,A3 (A7 (A1 rfl (AG (AH (ds:=[.im (.int e),.im (DD (e-1) ws)]) rfl (Cq _ _ _) (A3 (B5 (A3 (A1 rfl (A3 (AG (A4 ⟨CK,A4 ?_⟩)))))))))))⟩;refine(Tb.lshape_w (pt:=[.int (k:Int),.int 1]) (HJ W (t:=0) (by omega) (by omega)) (n:=ws.length) (N:=ws.length+1) (CH _ _).symm (by rw[JI];omega) (fN (e-1) ws)).mono ?_;rintro d x ⟨rfl,rfl⟩;refine A6 (AN (AI (Tb.we_isN (A1 rfl ⟨none,rfl,_,rfl,(λq=>by cases q),λ_=>AL ?_⟩))));exact⟨AK _,.mk _ _ _ _ _ _ (λd hd=>hr d (by simp[hd])) rfl rfl⟩
 intro ls hd hI;obtain⟨z2,z3,z4,z5,z6,z7,hr,rfl,rfl⟩:=hI;refine A6 (A8 (BQ (Bh (BG (A1 rfl ⟨_,rfl,?_⟩)))));refine BD (I_lj hd ws es) (.mk _ _ _ _ _ _ J9 rfl rfl) ?_ ?_
 .intro d r ls hd' hI;obtain⟨z2,z3,z4,z5,z6,z7,hr,rfl,rfl⟩:=hI;obtain⟨k,e,he,rfl⟩:=hr d (by simp);obtain⟨e1,e2⟩:=Q.rg e (mem_of_getElem? he);have ok:=HJ W (t:=e-1) (by omega) (by omega);obtain⟨m,hm,m1,m2⟩:=Ku (λm=>(fN (e-1) ws ws.length m).isSome) ws.length (λm hm=>by
   obtain⟨S,n1,n2,rfl,_⟩:=MC W (by omega) (by omega) hm;have:=Ir n1 (L:=List.range ws.length) λx hx=>by simpa using n2 x hx
   simpa using this) (YW _ _)
  have mk:=Q.fw k e he m m1;refine⟨Lj ws es (some (.im (.int (k:Int)))) z3 z4 (some (.im (.int e))) (some (.im (DD (e-1) ws))) z7,rfl,?_⟩;refine A8 (AO (AE (A3 (AE (A3 (A1 rfl (A3 (A7 (A1 rfl (AG (CV (A4 ⟨by simp,(Jz W).mono ?_⟩))))))))))));rintro d x rfl;refine⟨_,rfl,A3 (A1 rfl (A3 (B5 (A3 (A1 rfl (A3 (AG (A4 ⟨CK,A4 ⟨by simp,?_⟩⟩))))))))⟩;have q:=Tb.lplaces_w (pt:=[.int (k:Int),.int 1]) ok (by decide) (N:=ws.length+1) (by omega) (by omega);rw[CH]at q;refine q.mono ?_;rintro d x rfl;refine⟨_,rfl,A6 ?_⟩;refine A8 (AN (AI (Tb.we_isN (A1 rfl ⟨none,rfl,_,rfl,(λq=>by cases q),λ_=>AL (A6 ?_)⟩))));refine AN (AI (A7 (AE (A3 (A1 rfl (A4 ⟨by simp,(Tb.llast_w (n:=ws.length) (N:=ws.length+1) (m:=m) (f:=fN (e-1) ws) (by omega) (by omega) m1 m2).mono ?_⟩))))));rintro d x rfl;refine⟨_,rfl,A1 rfl (Ex ⟨_,rfl,(λh=>absurd h (by simp;omega)),λ_=>AL ?_⟩)⟩;exact⟨AK _,.mk _ _ _ _ _ _ (λd hd=>hr d (by simp[hd])) rfl rfl⟩
 intro ls hd' hI;obtain⟨z2,z3,z4,z5,z6,z7,hr,rfl,rfl⟩:=hI;refine A6 (AT (B5 (A3 (AG (A3 (A7 (W4 W rfl (Bl (Ao (BG (A1 rfl ⟨_,rfl,AZ (by simp;omega),?_⟩)))))))))));rw[show(es.map (C2 ws)).map D.im=es.map λe=>D.im (C2 ws e) by simp];refine Aw (xs:=es) (λe=>D.im (C2 ws e)) (λe=>some (.im (.int e))) (λ_ ls=>∃x,ls=[some x]) _ (AK _) ?_ ?_
 .rintro e he ls hls;refine⟨[some (.im (C2 ws e))],by rcases hls with rfl|⟨_,x,rfl⟩<;>rfl,⟨_,rfl⟩,BH ⟨rfl,?_⟩⟩;rw[if_pos rfl];exact⟨_,rfl,A7 (A1 rfl (AG (AH (ds:=[.im (.int e),.im (DD (e-1) ws)]) rfl (Ev _ _) ⟨rfl,rfl⟩)))⟩
 have e9:(es.filterMap λe=>some (D.im (.int e)))=AU es:=by simp[AU]
 rw[e9];refine⟨.im (.int es.sum),by unfold Cd;rw[show Al (AU es)=some es from Ce es];rfl,Ks (DB ?_ ?_) (A4 ⟨CK,rfl,rfl⟩)⟩
 .have:=W.w0;omega
 .have:=W.w0;omega
def P0{F:List D->Hd->Option (D×Hd)}{m:MA}{ls:Ls}{hd:Hd}{QE:D->Hd->Prop}(h:WA m ls hd λds rest=>B4 0 ds=true/\WF F ds [] λd x=>∃k es,d=.mu k/\x[k]?=some (.lst es)/\B4 0 es=true/\QE (.mu rest.length) (rest++[.lst es])):WE (AA 0 F m) ls hd QE:=by
 obtain⟨ds,rest,e,hc,d,x,e2,k,es,rfl,e3,c3,q⟩:=h;refine⟨_,_,?_,q⟩;have t3:¬ k<0:=by omega
 simp only[AA,e,bind_some,List.take_zero,hc,e2,fin,if_neg t3,e3,c3,if_true];simp
def W0{ma mb:MI}{ls:Ls}{hd:Hd}{QI:List D×Gd->Hd->Prop}(h:WI ma ls hd λp x=>WI mb ls x λq y=>GOk y p.2/\QI (List.zipWith (λx y=>AV [x,y]) p.1 q.1,p.2++q.2) y):WI (JZ ma mb) ls hd QI:=by
 obtain⟨p,x,e1,q,y,e2,g,k⟩:=h;exact⟨_,_,by simp only[JZ,e1,bind_some,e2,g,if_true],k⟩
def JH{neg:Bool}{ma:ME}{ls:Ls}{hd:Hd}{QE:D->Hd->Prop}(h:WE ma ls hd λd x=>∃i:I,d=.im i/\i≠.non/\QE (.im (.bl neg)) x):WE (Av neg ma) ls hd QE:=by
 obtain⟨d,x,e,i,rfl,hi,q⟩:=h;refine⟨_,x,?_,q⟩;simp only[Av,e,bind_some];cases i<;>first|rfl|exact absurd rfl hi
def ZH{L M:List Int}(h:L.Perm M):L.sum=M.sum:=by
 induction h with
 |nil=>rfl
 |cons x _ ih=>simp only[sum_cons,ih]
 |swap x y l=>simp only[sum_cons];omega
 |trans _ _ a b=>exact a.trans b
def Nh(k:Nat)(v:Int):WF (Cm (k+1)) [.im (.int v),.im (.int v)] [] λd _=>d=.im (.bl true):=by
 unfold Cm;refine Ab rfl ?_;refine A8 (AN (AI (JH (A1 rfl ⟨_,rfl,(λq=>by cases q),_,rfl,(λq=>by cases q),λ_=>AL (A6 ?_)⟩))));refine A8 (AN (Af (BK (A1 rfl ⟨false,rfl,_,rfl,(λq=>by cases q),λ_=>AL (A6 ?_)⟩))));refine A8 (AN (Af (BK (A1 rfl ⟨false,rfl,_,rfl,(λq=>by cases q),λ_=>AL (A6 ?_)⟩))));refine AT (DV (AI (BK (A1 rfl ⟨true,rfl,_,rfl,?_⟩))));rw[if_pos rfl];refine DV (AI (JG (AI (BK (A1 rfl ⟨false,rfl,_,rfl,_,rfl,?_⟩)))));rw[if_pos (by decide)];exact A7 (A1 rfl (A1 rfl (EX (by simp))))
def Vx(k:Nat)(s:Str):WF (Cm (k+1)) [.im (.str s),.im (.str s)] [] λd _=>d=.im (.bl true):=by
 unfold Cm;refine Ab rfl ?_;refine A8 (AN (AI (JH (A1 rfl ⟨_,rfl,(λq=>by cases q),_,rfl,(λq=>by cases q),λ_=>AL (A6 ?_)⟩))));refine A8 (AN (Af (BK (A1 rfl ⟨false,rfl,_,rfl,(λq=>by cases q),λ_=>AL (A6 ?_)⟩))));refine A8 (AN (Af (BK (A1 rfl ⟨true,rfl,_,rfl,(λ_=>?_),λq=>by cases q⟩))));refine AT (DV (AI (BK (A1 rfl ⟨true,rfl,_,rfl,?_⟩))));rw[if_pos rfl];refine A7 (A1 rfl (A1 rfl (Vz ?_)));rw[decide_eq_true rfl];rfl
def Vw(s:Str)(v:Int):WF Di [.im (.tup [.str s,.int v]),.im (.tup [.str s,.int v])] [] λd _=>d=.im (.bl true):=by
 show WF (Cm (3+1)) _ _ _;unfold Cm;refine Ab rfl ?_;refine A8 (AN (AI (JH (A1 rfl ⟨_,rfl,(λq=>by cases q),_,rfl,(λq=>by cases q),λ_=>AL (A6 ?_)⟩))));refine A8 (AN (Af (BK (A1 rfl ⟨true,rfl,_,rfl,(λ_=>?_),λq=>by cases q⟩))));refine A8 (AN (Cy (BI (Af (BK (A1 rfl ⟨true,rfl,_,rfl,?_⟩))))));rw[if_neg (by simp)];refine AI (A7 (B6 (A3 (A1 rfl (A4 (BC (ds:=[.im (.str s),.im (.int v)]) (z:=.im (.int 2)) rfl rfl (B6 (A3 (A1 rfl (A4 (BC (ds:=[.im (.str s),.im (.int v)]) (z:=.im (.int 2)) rfl rfl (FP ⟨_,rfl,(λq=>absurd q (by simp)),λ_=>AL (A6 ?_)⟩))))))))))));refine AT (Bl (Ao (W0 (BG (A1 rfl ⟨[.im (.str s),.im (.int v)],rfl,BG (A1 rfl ⟨[.im (.str s),.im (.int v)],rfl,AK _,AZ (by simp),?_⟩)⟩)))));refine Aw (xs:=[I.str s,I.int v]) (λi=>AV [.im i,.im i]) (λ_=>some (.im (.bl true))) (λ_ ls=>∃x y,ls=[some x,some y]) _ (AK _) ?_ ?_
 .intro i hi ls hls;refine⟨[some (.im i),some (.im i)],by rcases hls with rfl|⟨_,x,y,rfl⟩<;>rfl,⟨_,_,rfl⟩,BH ⟨rfl,?_⟩⟩;rw[if_pos rfl];refine⟨_,rfl,AE (A3 (A1 rfl (A3 (A1 rfl (A4 ⟨by simp,?_⟩)))))⟩;have h2:i=.str s∨i=.int v:=by simpa using hi
  rcases h2 with rfl|rfl
  .refine(Vx 2 s).mono ?_;rintro d x rfl;exact⟨_,rfl,rfl,rfl⟩
  .refine(Nh 2 v).mono ?_;rintro d x rfl;exact⟨_,rfl,rfl,rfl⟩
 exact⟨.im (.bl true),rfl,rfl⟩
abbrev Lw(ns:List Int)(z2 z3 z4 z5:Option D):Ls:=[some (.ro ns),some (.mu 1),z2,z3,z4,z5]
inductive I_law(ns:List Int)(r:List D)(ls:Ls)(hd:Hd):Prop
 |mk (j:Nat) (a b:MO) (g:Hd) (z2 z3 z4 z5:Option D) (h0:j<=2) (h1:r=Ar (j:Int) (2-j)) (h2:ls=Lw ns z2 z3 z4 z5) (h3:hd=a::b::g) (h4:T (200*(2-j)) a b):I_law ns r ls hd
set_option maxHeartbeats 1000000 in
def Zf(ns:List Int):WF Rw [.ro ns] [] λd x=>d=.im (.bl true):=by
 unfold Rw;refine Ab rfl ?_;refine A8 (AO (EY (A3 (A1 rfl (A4 ((RP ns).mono ?_))))));rintro d x ⟨rfl,a,b,hT,rfl⟩;refine A6 (A8 (BQ (JF (A3 (AG (A4 ⟨_,rfl,ER (by decide) (by decide),?_⟩))))));change WP (B8 _ _ _ (Ar 0 2) (Lw ns none none none none) [a,b]) _;refine BD (I_law ns) (.mk 0 a b [] none none none none (by omega) rfl rfl rfl (tap.le hT (by omega))) ?_ ?_
 .intro d r ls hd hI;obtain⟨j,a,b,g,z2,z3,z4,z5,hj,er,rfl,rfl,hT⟩:=hI;obtain⟨m,hm⟩:∃m,2-j=m+1:=by
   cases q:2-j with
   |zero=>rw[q]at er;cases er
   |succ m=>exact⟨m,rfl⟩
  rw[hm,Ar]at er;obtain⟨rfl,rfl⟩:=List.cons.inj er;have ej:((j:Int)+1)=((j+1:Nat):Int):=by omega
  have emj:m=2-(j+1):=by omega
  have hT:T (200*(2-(j+1))+100) a b:=tap.le hT (by omega);refine⟨Lw ns (some (.im (.int (j:Int)))) z3 z4 z5,rfl,?_⟩;refine A8 (AO ?_);refine tap.call hT (as:=[.im (.int 8)]) (rest:=g) rfl rfl (Mw _) ?_;rintro i a b hT ⟨ws,w,rfl,W⟩;have n8:=W.n8;obtain⟨dP,xP,eP,P,rfl,lp⟩:=YH W;obtain⟨⟨lf,t,G,S,z⟩,pl⟩:=lp;have hp:WF CP [.im (Ag ws)] [] λd _=>d=.im (.tup (P.map Bb)):=⟨_,_,eP,rfl⟩
  have hP:∀p∈P,p.1<ws.length:=λp hp=>(S.ps.pc p hp).1;have rg:∀j,j<ws.length->1<=Pl.E P j/\Pl.E P j<=220:=λj hj=>⟨Zw W S z hj,ag W S z hj⟩
  have es:(C0 ((List.range ws.length).map (Pl.E P))).sum=((List.range ws.length).map (Pl.E P)).sum:=ZH (Bz _);have Q:Pq ws (C0 ((List.range ws.length).map (Pl.E P))):=by
   have r2:∀e∈C0 ((List.range ws.length).map (Pl.E P)),1<=e/\e<=220:=λe he=>by
    obtain⟨j,hj,rfl⟩:=mem_map.mp ((Bz _).mem_iff.mp he);exact rg j (by simpa using hj)
   refine⟨by rw[(Bz _).length_eq];simp,r2,λk e he m hm=>?_⟩;have:=r2 e (mem_of_getElem? he);obtain⟨S',n1,n2,rfl,n5⟩:=MC W (by omega) (by omega) hm;exact Sn W S z he n1 n2 n5
  refine A6 (A8 (AO (A7 (W4 W rfl (B6 (A3 (P0 (A3 (A1 rfl (A4 ⟨by simp,(Lz W S z).mono ?_⟩))))))))));rintro d x ⟨k,ns',rfl,e1,hs⟩;rw[<- es]at hs;refine⟨k,AU ns',rfl,e1,E7 _ _,A4 (BC (ds:=AU ns') (z:=.im (.int ns'.sum)) (by simp[Ax,AW,Ak]) (by unfold Cd;rw[show Al (AU ns')=some ns' from Ce ns'];rfl) (Ks (DB (by have:=W.w0;omega) (by have:=W.w0;omega)) (A6 ?_)))⟩;rw[hs];clear hs e1;have pp:=MF W hp hP rg;generalize C0 ((List.range ws.length).map (Pl.E P))=es' at Q pp es;refine A8 (AO (AE (A3 (A1 rfl (A4 ⟨by simp,pp.mono ?_⟩)))));rintro d x rfl;refine⟨_,rfl,A6 ?_⟩;refine A8 (AN (BI (Af (AE (A3 (EY (A3 (A1 rfl (A3 (A1 rfl (A4 ((Sg W Q).mono ?_))))))))))));rintro d x ⟨rfl,rfl⟩;refine A3 (B5 (A3 (AG (A3 (A1 rfl (A4 ⟨CK,A4 ⟨by simp,?_⟩⟩))))));refine(Vw "told" (w*es'.sum)).mono ?_;rintro d x rfl;refine⟨_,rfl,_,rfl,(λq=>by cases q),λ_=>AL (A6 ?_)⟩;refine AN (BI (Af (AE (A3 (AE (A3 (A1 rfl (A3 (A1 rfl (A4 ⟨by simp,(Mu W Q).mono ?_⟩))))))))));rintro d x rfl;refine⟨_,rfl,A3 (A1 rfl (A4 ⟨by simp,?_⟩))⟩;refine(show WF Di _ _ _ from Nh 3 (w*es'.sum)).mono ?_;rintro d x rfl;refine⟨_,rfl,_,rfl,(λq=>by cases q),λ_=>AL ?_⟩;exact⟨AK _,.mk (j+1) a b (g++[.lst (AU ns')]) _ _ _ _ (by omega) (by rw[ej,emj]) rfl rfl hT⟩
 .intro ls hd hI;obtain⟨j,a,b,g,z2,z3,z4,z5,hj,er,rfl,rfl,hT⟩:=hI;exact A6 (AT (AG rfl))
def law_eq(ns:List Int):∃hd,Rw [.ro ns] []=some (.im (.bl true),hd):=by
 obtain⟨d,x,e,rfl⟩:=Zf ns;exact⟨x,e⟩
open PySem L2 PySem.W PyProof.Rows
abbrev xS:Xs:=[("by_dues",((("by_dues":Str)++".<locals>.")++"<lambda>"),64,41),("ranked_plan",((("ranked_plan":Str)++".<locals>.")++"<lambda>"),52,62),("left_plan",((("left_plan":Str)++".<locals>.")++"<lambda>"),125,59)]
def all_mk{l:PySem.W.OpenLaw}{w:World}{K:PySem.W.Frag}{h:Heap}{mg:Str->Option Value}{fa:Addr}{c P:Str->Addr}(X:K.In h)(G:h.Ns mainGlobals mg)(hfa:mg "law"=some (.ref fa))(hx:HX xS mg h c P)(F:Ow K):HG l w K xS mg c P fa On:=by
 obtain⟨Z,h0,h1,h2,h3,h4,h6,h7,h8,h9,h10,h11,h12,h13,h14,h16,h17,h19,h20,h21,h22,h23,h24,h25,h26,h27,h28,h29,h30,h31,h32,h33,h34,h35,h36,h37,h38,h39,h40,h41,p5,p15,p18,h5,h15,h18,tn⟩:=F;have B:=(zsE Z).blt X G;have nd:((CY (BN K (tbs xS P))).map (·.1)).Nodup:=ZU (ps:=[p5,p15,p18]) (by show [P "by_dues",P "ranked_plan",P "left_plan"]=_;rw[((flE (e:=E5) h5).code X G hx (.head _)).1,((flE (e:=D1) h15).code X G hx (.tail _ (.head _))).1,((flE (e:=Dr) h18).code X G hx (.tail _ (.tail _ (.head _)))).1]) tn;refine Si X G hfa hx (feE h0) bd1 rfl λbase hd bl=>?_;obtain⟨o_is_number,o_is_tuple_of,o_same_coming,o_one_coming,o_refuse_other_costs,o_weight_of,o_one_weight,o_add_piece,o_ranked_plan,o_late_coming,o_by_dues,o_full_weight,o_no_more,o_put_behind,o_greatest_weight,o_look_at_shape,o_look_at_row,o_look_at_places,o_next_row,o_table_of,o_ends_of,o_turned,o_end_weight,o_left_plan,o_ends_paper,o_look_at_entry_shape,o_look_at_entry,o_lets_ends,o_source,o_pick,o_end_works,o_alike,o_lby_dues,o_highest,o_is_entry,o_shape,o_places,o_last,o_lturned,o_least_left,o_judged,o_law⟩:=oks (E:=enM l w K xS P mg base) B;have g1:=o_same_coming ((feE h1).dn X G hx bd1 l w base);have g2:=o_one_coming ((feE h2).dn X G hx bd1 l w base) g1;have g3:=o_refuse_other_costs ((feE h3).dn X G hx bd2 l w base);have g4:=o_late_coming ((feE h4).dn X G hx bd1 l w base) g2 g3;have g5:=o_by_dues ((flE h5).dl X G hx bd1 (.head _) l w hd bl nd rfl);have g6:=o_weight_of ((feE h6).dn X G hx bd1 l w base);have g7:=o_full_weight ((feE h7).dn X G hx bd1 l w base) g6;have g8:=o_no_more ((feE h8).dn X G hx bd2 l w base);have g9:=o_put_behind ((feE h9).dn X G hx bd3 l w base);have g10:=o_next_row ((feE h10).dn X G hx bd2 l w base) g8 g9;have g11:=o_table_of ((feE h11).dn X G hx bd1 l w base) g4 g5 g7 g10;have g12:=o_ends_of ((feE h12).dn X G hx bd2 l w base);have g13:=o_turned ((feE h13).dn X G hx bd2 l w base);have g14:=o_add_piece ((feE h14).dn X G hx bd4 l w base);have g15:=o_ranked_plan ((flE h15).dl X G hx bd3 (.tail _ (.head _)) l w hd bl nd rfl) g14;have g16:=o_one_weight ((feE h16).dn X G hx bd1 l w base) g6;have g17:=o_end_weight ((feE h17).dn X G hx bd1 l w base) g3 g16;have g18:=o_left_plan ((flE h18).dl X G hx bd1 (.tail _ (.tail _ (.head _))) l w hd bl nd rfl) g15 g17;have g19:=o_ends_paper ((feE h19).dn X G hx bd1 l w base) g11 g12 g13 g18;have g20:=o_is_tuple_of ((feE h20).dn X G hx bd2 l w base);have g21:=o_is_number ((feE h21).dn X G hx bd1 l w base);have g22:=o_look_at_shape ((feE h22).dn X G hx bd3 l w base) g21 g20 g7;have g23:=o_look_at_entry_shape ((feE h23).dn X G hx bd3 l w base) g21 g20 g22 g13;have g24:=o_greatest_weight ((feE h24).dn X G hx bd1 l w base);have g25:=o_look_at_row ((feE h25).dn X G hx bd4 l w base) g8 g9;have g26:=o_look_at_places ((feE h26).dn X G hx bd3 l w base) g4 g5 g8 g25;have g27:=o_look_at_entry ((feE h27).dn X G hx bd3 l w base) g24 g26 g13;have g28:=o_lets_ends ((feE h28).dn X G hx bd2 l w base) g20 g17 g23 g27;have g29:=o_source ((feE h29).dn X G hx bd1 l w base);have g30:=o_pick ((feE h30).dn X G hx bd2 l w base);have g31:=o_end_works ((feE h31).dn X G hx bd2 l w base) g30;have g32:=o_alike ((feE h32).dn X G hx bd2 l w base);have g33:=o_least_left ((feE h33).dn X G hx bd1 l w base);have g34:=o_is_entry ((feE h34).dn X G hx bd1 l w base);have g35:=o_shape ((feE h35).dn X G hx bd3 l w base) g34;have g36:=o_lby_dues ((feE h36).dn X G hx bd1 l w base);have g37:=o_highest ((feE h37).dn X G hx bd3 l w base);have g38:=o_places ((feE h38).dn X G hx bd3 l w base) g36 g37;have g39:=o_last ((feE h39).dn X G hx bd1 l w base);have g40:=o_lturned ((feE h40).dn X G hx bd2 l w base);have g41:=o_judged ((feE h41).dn X G hx bd2 l w base) g34 g35 g38 g39 g40;exact o_law ((feE h0).dn X G hx bd1 l w base) g19 g28 g29 g31 g32 g33 g41
end T47
theorem PySem.Challenge.cw_benchdays_k47_ends_papers_told_holds : PySem.Challenge.rw_benchdays_k47_ends_papers_told.Holds := by
 refine T47.early λK F d hd hdf=>L2.walkL T47.xS (l:=PySem.Challenge.rw_benchdays_k47_ends_papers_told) (n:=63) (k:=8) (F:=T47.Rw) rfl (by decide) hdf ⟨rfl,by decide,by decide,rfl⟩ (by intro x hx;simp only[T47.xS,mem_cons,not_mem_nil,or_false]at hx;rcases hx with rfl|rfl|rfl<;>exact⟨_,rfl⟩) T47.law_eq (λw h Y=>Y) λw mg fa h c P X G hmg hx=>?_;rw[hd]at hmg;exact T47.all_mk X G hmg hx (F w)
