import PyProof.Rows.All
import Wide.All
import OpenK.AllK
import Wide.FinOn
import Lean
import PyProof.EqAt
import PyProof.EqKinds
import PyProof.TupleCall
import KE.KSortKey
import PyProof.ListMulRoad
import PyProof.Draws
import PyProof.EnumMake
import PyProof.ListNew
import KE.KRevIter
import KE.KMinKey
import PySem.Challenge.RW_benchdays_k15_whole_moved_by_days
set_option Elab.async false
set_option linter.all false
set_option maxRecDepth 100000
noncomputable section
open List(mem_filter filterMap_cons mem_cons_self mem_cons_of_mem mem_cons mem_append mem_append_left mem_filterMap mem_append_right size_toArray append_nil nodup_cons of_mem_zip length_take mem_of_getElem? length_append length_map length_drop any_cons map_nil map_cons find?_cons length_cons length_nil lookup_cons append_assoc lookup_append mem_map all_eq_true take_of_length_le mem_singleton reverse_cons nil_append mem_iff_getElem? cons_append map_map drop_eq_getElem_cons drop_length not_mem_nil length_eq_zero_iff ext_getElem? map_snd_zip map_congr_left pairwise_map set_cons_succ set_cons_zero map_take map_drop map_id pairwise_cons sum_cons filter_cons nodup_range length_range all_map map_append map_reverse)
open Option(isSome_iff_exists none_or map_some bind_some)
open Nat(lt_of_lt_of_le lt_irrefl ne_of_lt le_trans le_of_lt ne_of_gt le_refl lt_trans zero_le lt_succ_of_lt min_eq_left)
open Int(toNat_natCast)
theorem fK{α β:Type _}{o:Option α}{f:α->Option β}{b:β}(h:o.bind f=some b):∃a,o=some a/\f a=some b:=Option.bind_eq_some_iff.mp h
theorem fL{α β:Type _}{o:Option α}{f:α->β}{b:β}(h:o.map f=some b):∃a,o=some a/\f a=b:=Option.map_eq_some_iff.mp h
local macro_rules|`(tactic|trivial)=>`(tactic|first|exact Or.inl rfl|exact Or.inr rfl)
set_option compiler.extract_closed false
local macro_rules | `(tactic| omega) => `(tactic| first | lia | omega (config := {}))
namespace L2
open PySem PySem.Spec PyProof.Rows
abbrev Key:=Sum Int Str
def Ia:Key->Value->Bool
 |.inl k,v=>Value.isInt k v
 |.inr x,v=>Value.isStrOf x v
def ZH(w:World):Key->Int
 |.inl k=>hashInt k
 |.inr x=>hashStr w x
theorem C5:∀{k:Key} {v:Value},Ia k v=true->(∃i t,k=Sum.inl i/\v=Value.int i t)∨(∃x t,k=Sum.inr x/\v=Value.str x t)
 |.inl i,v,h=>by
  obtain⟨t,e⟩:=Value.isInt_shape (k:=i) (v:=v) h;exact .inl ⟨i,t,rfl,e⟩
 |.inr x,v,h=>by
  obtain⟨t,e⟩:=Value.isStrOf_shape (x:=x) (v:=v) h;exact .inr ⟨x,t,rfl,e⟩
theorem R9(i:Int)(t:Tok):Ia (.inl i) (.int i t)=true:=by simp[Ia,Value.isInt]
theorem R8(x:Str)(t:Tok):Ia (.inr x) (.str x t)=true:=by simp[Ia,Value.isStrOf]
theorem Xh(a b:Int):decide ((Sum.inl a:Key)=Sum.inl b)=(a==b):=by
 by_cases e:a=b
 .subst e;simp
 .have h:¬ (Sum.inl a:Key)=Sum.inl b:=λq=>e (Sum.inl.inj q);rw[decide_eq_false h];exact(beq_eq_false_iff_ne.mpr e).symm
theorem Xe(a b:Str):decide ((Sum.inr a:Key)=Sum.inr b)=decide (a=b):=by
 by_cases e:a=b
 .subst e;simp
 .have h:¬ (Sum.inr a:Key)=Sum.inr b:=λq=>e (Sum.inr.inj q);rw[decide_eq_false h,decide_eq_false e]
theorem Xg(a:Int)(b:Str):decide ((Sum.inl a:Key)=Sum.inr b)=false:=decide_eq_false (λq=>nomatch q)
theorem Xf(a:Str)(b:Int):decide ((Sum.inr a:Key)=Sum.inl b)=false:=decide_eq_false (λq=>nomatch q)
def Bq(prog:Program)(w:World):PySem.KeyKind prog w Key where
 is:=Ia
 hash:=ZH w
 inj:=λv a b ha hb=>by
  rcases C5 ha with⟨i,t,rfl,rfl⟩|⟨x,t,rfl,rfl⟩
  .rcases C5 hb with⟨j,u,rfl,e⟩|⟨y,u,rfl,e⟩
   .injection e with e1 _;rw[e1]
   .exact nomatch e
  .rcases C5 hb with⟨j,u,rfl,e⟩|⟨y,u,rfl,e⟩
   .exact nomatch e
   .injection e with e1 _;rw[e1]
 byValue:=λk v h=>by
  rcases C5 h with⟨i,t,rfl,rfl⟩|⟨x,t,rfl,rfl⟩<;>rfl
 pyHash:=λhv h=>by
  rcases C5 hv with⟨i,t,rfl,rfl⟩|⟨x,t,rfl,rfl⟩
  .exact wpAny_pyHash_int h
  .exact wpAny_pyHash_str h
 eqBool:=λhu hv h=>by
  rcases C5 hu with⟨i,t,rfl,rfl⟩|⟨x,t,rfl,rfl⟩
  .rcases C5 hv with⟨j,u,rfl,rfl⟩|⟨y,u,rfl,rfl⟩
   .rw[Xh]at h;exact wpAny_eqBool_int h
   .rw[Xg]at h;exact SeqAt.EqAt.int_str i t y u _ _ _ _ h
  .rcases C5 hv with⟨j,u,rfl,rfl⟩|⟨y,u,rfl,rfl⟩
   .rw[Xf]at h;exact SeqAt.EqAt.str_int x t j u _ _ _ _ h
   .rw[Xe]at h;exact wpAny_eqBool_str h
 «strs»:=λk x t v h=>by
  rcases C5 h with⟨i,u,rfl,e⟩|⟨y,u,rfl,e⟩
  .exact nomatch e
  .injection e with e1 _
   subst e1;cases v<;>rfl
theorem Nf(prog:Program)(w:World)(i:Int)(t:Tok):(Bq prog w).is (.inl i) (.int i t)=true:=R9 i t
theorem Nd(prog:Program)(w:World)(x:Str)(t:Tok):(Bq prog w).is (.inr x) (.str x t)=true:=R8 x t
inductive V where
 |non|bl (b:Bool)|int (i:Int)|str (x:Str)|byt (b:Array UInt8)|flt (b:UInt64)|ref (a:Addr)|ty (n:String)
 deriving DecidableEq
def RelV:V->Value->Prop
 |.non,u=>u=Value.none
 |.bl b,u=>u=Value.bool b
 |.int i,u=>∃t,u=Value.int i t
 |.str x,u=>∃t,u=Value.str x t
 |.byt b,u=>∃t,u=Value.bytes b t
 |.flt b,u=>∃t,u=Value.float b t
 |.ref a,u=>u=Value.ref a
 |.ty n,u=>u=Value.type n
abbrev Vals:List V->List Value->Prop:=Paired RelV
theorem Vals.length{xs:List V}{us:List Value}(r:Vals xs us):xs.length=us.length:=Paired.length r
theorem Vals.get:∀{xs:List V} {us:List Value} {i:Nat} {x:V},Vals xs us->xs[i]?=some x->∃u,us[i]?=some u/\RelV x u
 |_,_,_,_,.nil,e=>by simp at e
 |_,_,0,_,.cons r _,e=>by simp at e;subst e;exact⟨_,rfl,r⟩
 |_,_,i+1,x,.cons _ t,e=>by
  obtain⟨u,h1,h2⟩:=Vals.get (i:=i) (x:=x) t (by simpa using e);exact⟨u,by simpa using h1,h2⟩
theorem Vals.set{x:V}{u:Value}(r:RelV x u):∀{xs:List V} {us:List Value} (i:Nat),Vals xs us->Vals (xs.set i x) (us.set i u)
 |_,_,_,.nil=>.nil
 |_,_,0,.cons _ t=>.cons r t
 |_,_,i+1,.cons q t=>.cons q (Vals.set r i t)
theorem Vals.append:∀{xs ys:List V} {us ws:List Value},Vals xs us->Vals ys ws->Vals (xs++ys) (us++ws)
 |_,_,_,_,.nil,s=>s
 |_,_,_,_,.cons r t,s=>.cons r (Vals.append t s)
theorem Vals.take:∀{xs:List V} {us:List Value} (n:Nat),Vals xs us->Vals (xs.take n) (us.take n)
 |_,_,0,_=>.nil
 |_,_,_+1,.nil=>.nil
 |_,_,n+1,.cons r t=>.cons r (Vals.take n t)
theorem Vals.drop:∀{xs:List V} {us:List Value} (n:Nat),Vals xs us->Vals (xs.drop n) (us.drop n)
 |_,_,0,r=>r
 |_,_,_+1,.nil=>.nil
 |_,_,n+1,.cons _ t=>Vals.drop n t
def RelO:Option V->Option Value->Prop
 |some v,some u=>RelV v u
 |none,none=>True
 |_,_=>False
def KV{κ:Type}:List (κ×V)->List (κ×Value)->Prop:=Paired λ(p:κ×V) (q:κ×Value)=>p.1=q.1/\RelV p.2 q.2
def kV:Key->V
 |.inl i=>.int i
 |.inr x=>.str x
inductive HO where
 /-- a list -/
 |lst (xs:List V)
 /-- a tuple (never changes) -/
 |tup (xs:List V)
 /-- a dict whose keys are ints and texts;one whose keys are tuples of ints and texts (the empty one is both) -/
 |dK (kvs:List (Key×V))|dT (kvs:List (List Key×V))
 /-- a set of ints: its members,its size -/
 |set (S:Int->Bool) (n:Nat)
 /-- an instance of the class at C,its dict at dx,its attributes -/
 |ins (C dx:Addr) (fs:List (Str×V))
 /-- the dict of the instance at x -/
 |own (x:Addr)
 /-- the dict of an exception -/
 |xd (fs:List (Str×V))
 /-- a bound method,f of x -/
 |met (f x:Addr)
 /-- a range object lo,lo+1,.. below hi -/
 |rng (lo hi:Int)
 /-- a thing that is known to the object (the script;a dict while a loop walks it): read,never written while it is so -/
 |frz (o:Obj) (u:HO)
 /-- a code object's table -/
 |tbl (ps:Array Value)
 /-- any other thing,by what is true of its one object (a def of one's own: SetO a S n:=HO.ext λh=>..) -/
 |ext (φ:Heap->Prop)
abbrev Hp:=Addr->Option HO
def upd(H:Hp)(a:Addr)(o:HO):Hp:=λb=>if b=a then some o else H b
theorem Af{H:Hp}{a:Addr}{o:HO}:upd H a o a=some o:=by unfold upd;rw[if_pos rfl]
theorem AJ{H:Hp}{a b:Addr}{o:HO}(h:b≠a):upd H a o b=H b:=by unfold upd;rw[if_neg h]
theorem Yc{H:Hp}{a b:Addr}{o u:HO}(h:H a=some o)(h':H b=some u)(d:o≠u):a≠b:=by
 intro e;subst e;rw[h]at h';exact d (Option.some.inj h')
theorem Ak{H:Hp}{a b:Addr}{o:HO}(h:H a=some o)(h':H b=none):a≠b:=by
 intro e;subst e;rw[h]at h';cases h'
def IsTupD(h:Heap)(a:Addr)(items:Array Value):Prop:=∃o,h.get? a=some o/\o.cls=.type "tuple"/\(∃n,o.data=.seq items n)/\o.dict=none
theorem IsTupD.t{h:Heap}{a:Addr}{items:Array Value}(x:IsTupD h a items):IsTup h a items:=let ⟨o,e,c,d,_⟩:=x;⟨o,e,c,d⟩
theorem IsTupD.new(h:Heap)(items:Array Value):IsTupD (h.push { cls:=.type "tuple",data:=.seq items }) h.objs.size items:=⟨_,Heap.get?_push_size _ rfl,rfl,⟨_,rfl⟩,rfl⟩
section
variable(P:Program)(w:World)
def ObjOk(H:Hp)(h:Heap)(a:Addr):HO->Prop
 |.lst xs=>xs.length<=sizeLine/\∃(its:List Value) (n:Nat),Vals xs its/\h.get? a=some { cls:=.type "list",data:=.seq its.toArray n }
 |.tup xs=>xs.length<=sizeLine/\∃its:List Value,Vals xs its/\IsTupD h a its.toArray
 |.dK kvs=>kvs.length<=sizeLine/\(a==sysModules)=false/\∃vs,KV kvs vs/\h.DictOf (Bq P w) a vs
 |.dT kvs=>kvs.length<=sizeLine/\(a==sysModules)=false/\∃xs:List (List Key×Addr×Value),
  Paired (λ(p:List Key×V) (q:List Key×Addr×Value)=>p.1=q.1/\H q.2.1=some (.tup (p.1.map kV))/\RelV p.2 q.2.2) kvs xs /\
  ∃o es ep,h.get? a=some o/\o.ExactDict/\o.data=.dict es ep/\es.toList=xs.map (entryOfKey (tupleKind (Bq P w)))/\(xs.map (·.1)).Nodup
 |.set S n=>h.SetOf (intKind P w) a S n
 |.ins C dx fs=>H dx=some (.own a)/\fs.length<=1000/\dx≠a/\h.get? a=some (PySem.W.instObj C dx)/\
  ∃mA,h.Ns1 dx mA/\(∀f,RelO (fs.lookup f) (mA f))/\PySem.Within mA (fs.map (·.1))
 |.own _=>∃o,h.get? a=some o
 |.xd fs=>∃mA,h.Ns1 a mA/\∀f,RelO (fs.lookup f) (mA f)
 |.rng lo hi=>∃t u v,h.get? a=some { cls:=.type "range",data:=.fields #[.int lo t,.int hi u,.int 1 v] }
 |.frz o u=>h.get? a=some o/\ObjOk H h a u
 |.tbl ps=>h.get? a=some { cls:=.none,data:=.fields ps }
 |.met f x=>h.get? a=some (PySem.W.methodObj (.ref f) (.ref x))
 |.ext φ=>φ h/\(∃o,h.get? a=some o)/\∀h1 h2:Heap,φ h1->(∀o,h1.get? a=some o->h2.get? a=some o)->φ h2
def HOk(H:Hp)(h:Heap):Prop:=∀a o,H a=some o->ObjOk P w H h a o
end
section
variable{P:Program}{w:World}{H H':Hp}{h h':Heap}{a:Addr}{o:HO}
theorem ObjOk.lt(x:ObjOk P w H h a o):a<h.objs.size:=by
 cases o with
 |lst xs=>obtain⟨_,_,_,_,e⟩:=x;exact Heap.lt_size e
 |tup xs=>obtain⟨_,_,_,o,e,_⟩:=x;exact Heap.lt_size e
 |dK kvs=>obtain⟨_,_,_,_,o,_,_,e,_⟩:=x;exact Heap.lt_size e
 |dT kvs=>obtain⟨_,_,_,_,o,_,_,e,_⟩:=x;exact Heap.lt_size e
 |set S n=>obtain⟨o,_,_,_,e,_⟩:=x;exact Heap.lt_size e
 |ins C dx fs=>obtain⟨_,_,_,e,_⟩:=x;exact Heap.lt_size e
 |own y=>obtain⟨_,e⟩:=x;exact Heap.lt_size e
 |xd fs=>obtain⟨_,⟨_,_,_,e,_⟩,_⟩:=x;exact Heap.lt_size e
 |rng lo hi=>obtain⟨_,_,_,e⟩:=x;exact Heap.lt_size e
 |frz ob u=>obtain⟨e,_⟩:=x;exact Heap.lt_size e
 |tbl ps=>exact Heap.lt_size (show h.get? a=some _ from x)
 |met f y=>exact Heap.lt_size (show h.get? a=some _ from x)
 |ext φ=>obtain⟨_,⟨_,e⟩,_⟩:=x;exact Heap.lt_size e
theorem Paired.mapP{α β:Type}{F G:α->β->Prop}:∀{l₁:List α} {l₂:List β},Paired F l₁ l₂->(∀a b,F a b->G a b)->Paired G l₁ l₂
 |_,_,.nil,_=>.nil
 |_,_,.cons r t,f=>.cons (f _ _ r) (Paired.mapP t f)
theorem ObjOk.stay(x:ObjOk P w H h a o)(k:∀b u,(b=a∨H b=some (.own a))->h.get? b=some u->h'.get? b=some u)
 (ho:∀b,H b=some (.own a)->H' b=some (.own a)) (ht:∀b xs,H b=some (.tup xs)->H' b=some (.tup xs)):ObjOk P w H' h' a o:=by
 induction o with
 |lst xs=>obtain⟨z,its,n,r,e⟩:=x;exact⟨z,its,n,r,k _ _ (.inl rfl) e⟩
 |tup xs=>obtain⟨z,its,r,ob,e,c⟩:=x;exact⟨z,its,r,ob,k _ _ (.inl rfl) e,c⟩
 |dK kvs=>obtain⟨z,y,vs,r,ob,es,ep,e,c⟩:=x;exact⟨z,y,vs,r,ob,es,ep,k _ _ (.inl rfl) e,c⟩
 |dT kvs=>
  obtain⟨z,y,xs,r,ob,es,ep,e,c⟩:=x;exact⟨z,y,xs,Paired.mapP r λp q z=>⟨z.1,ht _ _ z.2.1,z.2.2⟩,ob,es,ep,k _ _ (.inl rfl) e,c⟩
 |set S n=>obtain⟨ob,es,ep,t,e,c⟩:=x;exact⟨ob,es,ep,t,k _ _ (.inl rfl) e,c⟩
 |ins C dx fs=>
  obtain⟨d,z,ne,e,mA,⟨od,es,ep,e2,c⟩,r⟩:=x;exact⟨ho _ d,z,ne,k _ _ (.inl rfl) e,mA,⟨od,es,ep,k _ _ (.inr d) e2,c⟩,r⟩
 |own y=>obtain⟨ob,e⟩:=x;exact⟨ob,k _ _ (.inl rfl) e⟩
 |xd fs=>obtain⟨mA,⟨od,es,ep,e,c⟩,r⟩:=x;exact⟨mA,⟨od,es,ep,k _ _ (.inl rfl) e,c⟩,r⟩
 |rng lo hi=>obtain⟨t,u,v,e⟩:=x;exact⟨t,u,v,k _ _ (.inl rfl) e⟩
 |frz ob u ih=>obtain⟨e,q⟩:=x;exact⟨k _ _ (.inl rfl) e,ih q⟩
 |tbl ps=>
  have e:h.get? a=some { cls:=.none,data:=.fields ps }:=x;show h'.get? a=some { cls:=.none,data:=.fields ps };exact k a _ (.inl rfl) e
 |met f y=>
  have e:h.get? a=some (PySem.W.methodObj (.ref f) (.ref y)):=x;show h'.get? a=some (PySem.W.methodObj (.ref f) (.ref y));exact k a _ (.inl rfl) e
 |ext φ=>obtain⟨p,⟨o,e⟩,st⟩:=x;exact⟨st _ _ p λo q=>k _ _ (.inl rfl) q,⟨o,k _ _ (.inl rfl) e⟩,st⟩
theorem HOk.lt(x:HOk P w H h)(e:H a=some o):a<h.objs.size:=(x a o e).lt
theorem HOk.fresh(x:HOk P w H h)(e:h.objs.size<=a):H a=none:=by
 cases q:H a with
 |none=>rfl
 |some u=>exact absurd (lt_of_lt_of_le (x.lt q) e) (lt_irrefl _)
theorem HOk.kept(x:HOk P w H h)(k:∀b u,h.get? b=some u->h'.get? b=some u):HOk P w H h':=λa o e=>
 (x a o e).stay (λb u _ q=>k b u q) (λ_ q=>q) λ_ _ q=>q
theorem HOk.laid(x:HOk P w H h)(k:∀b u,h.get? b=some u->h'.get? b=some u)(hp:h.objs.size<=a)(new:ObjOk P w (upd H a o) h' a o):HOk P w (upd H a o) h':=λb u e=>by
 have hn:=x.fresh hp;by_cases hb:b=a
 .subst hb;rw[Af]at e;cases e;exact new
 .rw[AJ hb]at e;exact(x b u e).stay (λc v _ q=>k c v q) (λc q=>by rw[AJ (Ak q hn)];exact q) λc xs q=>by rw[AJ (Ak q hn)];exact q
end
def Rd(H:Hp)(a:Addr)(u:HO):Prop:=H a=some u∨∃o,H a=some (.frz o u)
theorem Rd.ok{P:Program}{w:World}{H:Hp}{h:Heap}{a:Addr}{u:HO}(r:Rd H a u)(x:HOk P w H h):ObjOk P w H h a u:=by
 rcases r with r|⟨o,r⟩
 .exact x a u r
 .obtain⟨_,q⟩:=x a _ r;exact q
def Mut:Option HO->Prop
 |some (.lst _)=>True
 |some (.dK _)=>True
 |some (.dT _)=>True
 |some (.set _ _)=>True
 |some (.ins _ _ _)=>True
 |some (.ext _)=>True
 |_=>False
section
variable{P:Program}{w:World}{H:Hp}{h h':Heap}{x e:Addr}{o':HO}
theorem HOk.write(ok:HOk P w H h)(mu:Mut (H x))(he:e=x∨H e=some (.own x))(k:∀b u,b≠e->h.get? b=some u->h'.get? b=some u)(heo:∃u,h'.get? e=some u)
 (new:ObjOk P w (upd H x o') h' x o'):HOk P w (upd H x o') h':=λb u q=>by
 have nown:∀c y,H c=some (.own y)->c≠x:=λc y r z=>by subst z;rw[r]at mu;exact mu
 have ntup:∀c xs,H c=some (.tup xs)->c≠x:=λc xs r z=>by subst z;rw[r]at mu;exact mu
 by_cases hb:b=x
 .subst hb;rw[Af]at q;cases q;exact new
 .rw[AJ hb]at q;by_cases hbe:b=e
  .have q':H b=some (.own x):=by
    rcases he with z|z
    .exact absurd (hbe.trans z) hb
    .rw[hbe];exact z
   rw[q]at q';cases q';obtain⟨v,hv⟩:=heo;exact⟨v,by rw[hbe];exact hv⟩
  .refine(ok b u q).stay (λc v hc r=>k c v ?_ r) (λc r=>by rw[AJ (nown c b r)];exact r) λc xs r=>by rw[AJ (ntup c xs r)];exact r
   rcases hc with rfl|hc
   .exact hbe
   .rintro rfl;rcases he with z|z
    .exact nown c b hc z
    .rw[hc]at z;cases z;exact hb rfl
end
structure Un(fs ex:List Addr)(H H':Hp)(h h':Heap):Prop where
 keep:∀b o,h.get? b=some o->H b=none->b∉fs->b∉ex->h'.get? b=some o
 slot:∀b o,h.get? b=some o->H b=none->b∈fs->b∉ex->∃sl,h'.get? b=some { o with slots:=sl }
 free:∀b o,h.get? b=some o->H b=none->b∉ex->H' b=none
 there:∀b o,h.get? b=some o->b∉ex->∃o',h'.get? b=some o'
 tups:∀b xs,H b=some (.tup xs)->H' b=some (.tup xs)
 frzs:∀b o u,H b=some (.frz o u)->H' b=some (.frz o u)
 tbls:∀b ps,H b=some (.tbl ps)->∃more,H' b=some (.tbl (ps++more))
section
variable{fs fs' ex ex':List Addr}{H H1 H2:Hp}{h h1 h2 h':Heap}{a x e:Addr}{o:HO}
theorem Un.any(u:Un fs ex H H1 h h1){b:Addr}{ob:Obj}(q:h.get? b=some ob)(n:H b=none)(hx:b∉ex):∃sl,h1.get? b=some { ob with slots:=sl }:=by
 by_cases hb:b∈fs
 .exact u.slot b ob q n hb hx
 .exact⟨ob.slots,u.keep b ob q n hb hx⟩
theorem Un.kept(k:∀b u,h.get? b=some u->h'.get? b=some u):Un fs ex H H h h':=
 ⟨λb ob q _ _ _=>k b ob q,λb ob q _ _ _=>⟨ob.slots,k b ob q⟩,λ_ _ _ n _=>n,λb ob q _=>⟨ob,k b ob q⟩,λ_ _ q=>q,λ_ _ _ q=>q,λ_ ps q=>⟨#[],by rw[q];simp⟩⟩
theorem Un.refl:Un fs ex H H h h:=Un.kept λ_ _ q=>q
theorem Un.laid(k:∀b u,h.get? b=some u->h'.get? b=some u)(hp:h.objs.size<=a)(hn:H a=none):Un fs ex H (upd H a o) h h' where
 keep:=λb u q _ _ _=>k b u q
 slot:=λb u q _ _ _=>⟨u.slots,k b u q⟩
 free:=λb u q n _=>by rw[AJ (ne_of_lt (lt_of_lt_of_le (Heap.lt_size q) hp))];exact n
 there:=λb u q _=>⟨u,k b u q⟩
 tups:=λb xs q=>by rw[AJ (Ak q hn)];exact q
 frzs:=λb u xs q=>by rw[AJ (Ak q hn)];exact q
 tbls:=λb ps q=>⟨#[],by rw[AJ (Ak q hn),q];simp⟩
theorem Un.write(mu:Mut (H x))(he:e=x∨H e=some (.own x))(k:∀b u,b≠e->h.get? b=some u->h'.get? b=some u)(heo:∃u,h'.get? e=some u):Un fs ex H (upd H x o) h h':=by
 have hx:∀b,H b=none->b≠x:=λb n z=>by subst z;rw[n]at mu;exact mu
 have hb:∀b,H b=none->b≠e:=λb n z=>by
  subst z;rcases he with r|r
  .exact hx b n r
  .rw[n]at r;cases r
 have hm:∀b u,H b=some u->¬ Mut (some u)->b≠x:=λb u q nm z=>by subst z;rw[q]at mu;exact nm mu
 refine⟨λb u q n _ _=>k b u (hb b n) q,λb u q n _ _=>⟨u.slots,k b u (hb b n) q⟩,λb u q n _=>by rw[AJ (hx b n)];exact n,λb u q _=>?_,
  λb xs q=>by rw[AJ (hm b _ q λz=>z)];exact q,λb u xs q=>by rw[AJ (hm b _ q λz=>z)];exact q,λb ps q=>⟨#[],by rw[AJ (hm b _ q λz=>z),q];simp⟩⟩
 by_cases hbe:b=e
 .subst hbe;exact heo
 .exact⟨u,k b u hbe q⟩
end
def trk(h:Heap)(H:Hp):List Addr:=(List.range h.objs.size).filter λa=>(H a).isSome
def Gu(h:Heap)(H:Hp):Heap:=PySem.W.hideAll h (trk h H)
theorem RK(h:Heap)(H:Hp):(Gu h H).objs.size=h.objs.size:=PySem.W.hideAll_size _ _
theorem TK{h:Heap}{H:Hp}{b:Addr}{o:Obj}(e:h.get? b=some o)(n:H b=none):(Gu h H).get? b=some o:=
 PySem.W.hideAll_get _ e λhm=>by
  have q:(H b).isSome=true:=(mem_filter.mp hm).2;rw[n]at q;simp at q
theorem VX{h:Heap}{H:Hp}{b:Addr}{o:Obj}(e:(Gu h H).get? b=some o):h.get? b=some o/\H b=none:=by
 have e':h.get? b=some o:=PySem.W.of_hideAll (trk h H) e;refine⟨e',?_⟩;cases q:H b with
 |none=>rfl
 |some x=>
  have hm:b∈trk h H:=mem_filter.mpr ⟨List.mem_range.mpr (Heap.lt_size e'),by simp[q]⟩;have z:(Gu h H).get? b=none:=PySem.W.hideAll_none (trk h H) hm;rw[z]at e;cases e
def W4(g h:Heap)(L:Addr):List (Addr×Obj):=(List.range h.objs.size).filterMap λa=>if a=L∨(g.get? a).isSome=true then none else(h.get? a).map λo=>(a,o)
def rest(g h:Heap)(L d:Addr):List (Addr×Obj):=(W4 g h L).filter λp=>decide (p.1≠d)
structure Mod(K:PySem.W.Frag)(mg:Str->Option Value)(base:Heap):Prop where
 kin:K.In base
 glob:base.Ns mainGlobals mg
 blt:∃mb,base.Ns builtinsNs mb/\∀x:Str,x≠"__name__"->mb x=bootBuiltins x
 nolimit:base.NoLimit
structure Cx where
 prog:Program
 w:World
 K:PySem.W.Frag
 mg:Str->Option Value
 base:Heap
 A:Around
 N:List Str
 s₀:Shared
 H₀:Hp
 env:Env
 outer:List Env
 stack:List Env
 ex:List Addr
 fn:Str->Bool
 calm:Bool
 pn:List (Addr×Obj)
 xe:Value->Shared->Prop
def frs(l:List Env):List Addr:=l.filterMap (·.frame)
abbrev Cx.fs(X:Cx):List Addr:=frs X.outer
def Vis(sc:Scope)(x:Str):Prop:=sc.names.lookup x=some .local∨sc.names.lookup x=some .cell∨sc.names.lookup x=some .free
def Loc(sc:Scope)(x:Str):Prop:=sc.names.lookup x=some .local∨sc.names.lookup x=some .cell
def ZS(env:Env)(h:Heap)(m:Str->Option Value)(x:Str)(u:Value):Prop:=
 (env.kindOf x=some .local/\m x=some u)∨((env.kindOf x=some .cell∨env.kindOf x=some .free)/\∃c,env.cells.lookup x=some c/\h.IsCell c (some u))
structure Cx.Ok(X:Cx):Prop where
 mod:Mod X.K X.mg X.base
 kind:X.env.scope.kind=.function
 glob:X.env.globals=mainGlobals
 blt:X.env.builtins=builtinsNs
 above:X.s₀.heap.objs.size<=X.env.locals
 inj:∀x y c,X.env.cells.lookup x=some c->X.env.cells.lookup y=some c->x=y
 has:∀x,(X.env.kindOf x=some .cell∨X.env.kindOf x=some .free)->∃c,X.env.cells.lookup x=some c
 cab:∀x c,X.fn x=true->X.env.cells.lookup x=some c->X.s₀.heap.objs.size<=c
 hd:X.calm=true->X.A.handled=none
 frames:X.A.frames=some X.stack
 stk:X.stack=X.outer∨(X.stack=X.env::X.outer/\X.env.frame=some X.env.locals)
 exf:∀b∈X.ex,b≠X.env.locals/\∀x c,X.env.cells.lookup x=some c->c≠b
 bs:∀b o,X.base.get? b=some o->X.s₀.heap.get? b=some o/\X.H₀ b=none
 bsz:X.base.objs.size<=X.s₀.heap.objs.size
 noex:∀b o,X.base.get? b=some o->b∉X.ex
 exfs:∀b∈X.ex,b∉X.fs
 funs:X.s₀.heap.FunFrames X.base X.outer
 frf:∀b∈X.fs,X.H₀ b=none
structure Inv(X:Cx)(pins:List (Addr×Obj))(σ:List (Option V))(H:Hp)(s:Shared):Prop where
 ok:X.Ok
 os:s.os=X.s₀.os
 bare:AllBare s.gens
 base:Un X.fs X.ex X.H₀ H X.s₀.heap s.heap
 loc:∃m,s.heap.Ns X.env.locals m/\∀(i:Nat) (x:Str) (v:V),X.N[i]?=some x->σ[i]?=some (some v)->Vis X.env.scope x->∃u,RelV v u/\ZS X.env s.heap m x u
 cell:∀x c,X.env.cells.lookup x=some c->∃v,s.heap.IsCell c v
 free:H X.env.locals=none
 freeC:∀x c,X.env.cells.lookup x=some c->H c=none
 pin:∀p∈X.pn++pins,s.heap.get? p.1=some p.2/\H p.1=none/\p.1≠X.env.locals/\p.1∉X.fs/\∀v,p.2.data≠.cell v
 hok:HOk X.prog X.w H s.heap
 len:σ.length=X.N.length
section
variable{X:Cx}{pins:List (Addr×Obj)}{σ:List (Option V)}{H H':Hp}{s:Shared}{h':Heap}
theorem Cx.Ok.nofr(ok:X.Ok){b:Addr}{o:Obj}(e:X.base.get? b=some o):b∉X.fs:=λhb=>by
 have:=(ok.funs.mem hb).1;rw[e]at this;cases this
theorem Inv.bs(I:Inv X pins σ H s):∀b o,X.base.get? b=some o->s.heap.get? b=some o/\H b=none:=λb o e=>
 ⟨I.base.keep b o (I.ok.bs b o e).1 (I.ok.bs b o e).2 (I.ok.nofr e) (I.ok.noex b o e),I.base.free b o (I.ok.bs b o e).1 (I.ok.bs b o e).2 (I.ok.noex b o e)⟩
theorem Inv.bk(I:Inv X pins σ H s):∀b o,X.base.get? b=some o->s.heap.get? b=some o:=λb o e=>(I.bs b o e).1
theorem Inv.mod(I:Inv X pins σ H s):Mod X.K X.mg X.base:=I.ok.mod
theorem Inv.kIn(I:Inv X pins σ H s):X.K.In s.heap:=I.ok.mod.kin.keeps I.bk
theorem Inv.nolimit(I:Inv X pins σ H s):s.heap.NoLimit:=I.ok.mod.nolimit.keeps I.bk
theorem Inv.lt(I:Inv X pins σ H s):X.env.locals<s.heap.objs.size:=let ⟨_,hn,_⟩:=I.loc;hn.lt
theorem Inv.sz(I:Inv X pins σ H s):X.s₀.heap.objs.size<=s.heap.objs.size:=le_trans I.ok.above (le_of_lt I.lt)
theorem Inv.nofs(I:Inv X pins σ H s){a:Addr}(h:s.heap.objs.size<=a):a∉X.fs:=λhb=>by
 obtain⟨_,o,ho,_⟩:=I.ok.funs.mem hb;exact absurd (lt_of_lt_of_le (Heap.lt_size ho) (le_trans I.sz h)) (lt_irrefl _)
theorem Inv.cne(I:Inv X pins σ H s):∀x c,X.env.cells.lookup x=some c->c≠X.env.locals:=λx c e z=>by
 obtain⟨v,o,ho,hd⟩:=I.cell x c e;obtain⟨m,⟨o',es,ep,ho',hd',_⟩,_⟩:=I.loc;rw[z,ho']at ho;cases ho;rw[hd']at hd;cases hd
theorem Inv.funs(I:Inv X pins σ H s):s.heap.FunFrames X.base X.outer:=by
 have all:∀(l:List Env),(∀b∈frs l,b∈X.fs)->X.s₀.heap.FunFrames X.base l->s.heap.FunFrames X.base l:=by
  intro l
  induction l with
  |nil=>intro _ _;trivial
  |cons env r ih=>
   intro hs hl;obtain⟨hk,⟨L,o,hf,hn,ho,hd⟩,hr⟩:=hl;have hL:L∈X.fs:=hs L (by unfold frs;rw[filterMap_cons,hf];exact mem_cons_self);obtain⟨sl,e⟩:=I.base.slot L o ho (I.ok.frf L hL) hL λz=>I.ok.exfs L z hL;exact⟨hk,⟨L,_,hf,hn,e,hd⟩,ih (λb hb=>hs b (by unfold frs;rw[filterMap_cons,hf];exact mem_cons_of_mem _ hb)) hr⟩
 exact all X.outer (λ_ hb=>hb) I.ok.funs
theorem Inv.stack(I:Inv X pins σ H s):s.heap.FunFrames X.base X.stack:=by
 rcases I.ok.stk with e|⟨e,hf⟩
 .rw[e];exact I.funs
 .rw[e];obtain⟨m,hn,_⟩:=I.loc;refine .cons (by rw[I.ok.kind];decide) hf hn ?_ I.funs;exact Heap.get?_none_of_le (le_trans I.ok.bsz I.ok.above)
theorem Inv.stkSub(I:Inv X pins σ H s):∀b∈frs X.stack,b∈X.env.locals::X.fs:=λb hb=>by
 rcases I.ok.stk with e|⟨e,hf⟩
 .rw[e]at hb;exact mem_cons_of_mem _ hb
 .rw[e]at hb;unfold frs at hb;rw[filterMap_cons,hf]at hb;exact hb
theorem Inv.stkFree(I:Inv X pins σ H s):∀b∈frs X.stack,H b=none:=λb hb=>by
 rcases mem_cons.mp (I.stkSub b hb)with e|hb
 .rw[e];exact I.free
 .obtain⟨_,o,ho,_⟩:=I.ok.funs.mem hb;exact I.base.free b o ho (I.ok.frf b hb) λz=>I.ok.exfs b z hb
theorem Inv.step{g':Array GenState}{t':Nat}{d':Drawn}{ch:List Addr}(I:Inv X pins σ H s)
 (hch:∀b∈ch,(b∈X.ex∨X.s₀.heap.objs.size<=b)/\b≠X.env.locals/\(∀x c,X.env.cells.lookup x=some c->c≠b)/\∀p∈X.pn++pins,p.1≠b)
 (keep:∀b o,b≠X.env.locals->b∉X.fs->b∉ch->s.heap.get? b=some o->H b=none->h'.get? b=some o)
 (slot:∀b o,b≠X.env.locals->b∈X.fs->b∉ch->s.heap.get? b=some o->H b=none->∃sl,h'.get? b=some { o with slots:=sl }) (free:∀b o,b∉ch->s.heap.get? b=some o->H b=none->H' b=none)
 (there:∀b o,b∉ch->s.heap.get? b=some o->∃o',h'.get? b=some o')
 (tups:∀b xs,H b=some (.tup xs)->H' b=some (.tup xs)) (frzs:∀b o u,H b=some (.frz o u)->H' b=some (.frz o u)) (tbls:∀b ps,H b=some (.tbl ps)->∃more,H' b=some (.tbl (ps++more)))
 (ns:∀m,s.heap.Ns X.env.locals m->h'.Ns X.env.locals m) (hok:HOk X.prog X.w H' h') (hg:AllBare g'):
 Inv X pins σ H' { s with heap:=h',gens:=g',drawn:=d',toks:=t' }:=by
 have neL:∀b o,X.s₀.heap.get? b=some o->b≠X.env.locals:=λb o e=>ne_of_lt (lt_of_lt_of_le (Heap.lt_size e) I.ok.above);have neC:∀b o,X.s₀.heap.get? b=some o->b∉X.ex->b∉ch:=λb o e hx hb=>by
  rcases(hch b hb).1 with z|z
  .exact hx z
  .exact absurd (lt_of_lt_of_le (Heap.lt_size e) z) (lt_irrefl _)
 have cellK:∀x c,X.env.cells.lookup x=some c->∀v,s.heap.IsCell c v->h'.IsCell c v:=λx c e v ⟨o,ho,hd⟩=>by
  have nch:c∉ch:=λz=>(hch c z).2.2.1 x c e rfl;by_cases hc:c∈X.fs
  .obtain⟨sl,q⟩:=slot c o (I.cne x c e) hc nch ho (I.freeC x c e);exact⟨_,q,hd⟩
  .exact⟨o,keep c o (I.cne x c e) hc nch ho (I.freeC x c e),hd⟩
 refine⟨I.ok,I.os,hg,⟨λb o e n hb hx=>?_,λb o e n hb hx=>?_,λb o e n hx=>?_,λb o e hx=>?_,λb xs e=>tups b xs (I.base.tups b xs e),λb o xs e=>frzs b o xs (I.base.frzs b o xs e),λb ps e=>?_⟩,?_,λx c e=>?_,?_,λx c e=>?_,λp hp=>?_,hok,I.len⟩
 .exact keep b o (neL b o e) hb (neC b o e hx) (I.base.keep b o e n hb hx) (I.base.free b o e n hx)
 .obtain⟨sl,e1⟩:=I.base.slot b o e n hb hx;obtain⟨sl',e2⟩:=slot b _ (neL b o e) hb (neC b o e hx) e1 (I.base.free b o e n hx);exact⟨sl',e2⟩
 .obtain⟨o',e1⟩:=I.base.there b o e hx;exact free b o' (neC b o e hx) e1 (I.base.free b o e n hx)
 .obtain⟨o',e1⟩:=I.base.there b o e hx;exact there b o' (neC b o e hx) e1
 .obtain⟨m1,e1⟩:=I.base.tbls b ps e;obtain⟨m2,e2⟩:=tbls b _ e1;exact⟨m1++m2,by rw[e2,Array.append_assoc]⟩
 .obtain⟨m,hn,hl⟩:=I.loc;refine⟨m,ns m hn,λi x v e1 e2 e3=>?_⟩;obtain⟨u,r,l⟩:=hl i x v e1 e2 e3;refine⟨u,r,?_⟩;rcases l with l|⟨k,c,e,z⟩
  .exact .inl l
  .exact .inr ⟨k,c,e,cellK x c e _ z⟩
 .obtain⟨v,z⟩:=I.cell x c e;exact⟨v,cellK x c e v z⟩
 .obtain⟨m,⟨o,_,_,ho,_⟩,_⟩:=I.loc;exact free _ o (λz=>(hch _ z).2.1 rfl) ho I.free
 .obtain⟨v,o,ho,hd⟩:=I.cell x c e;exact free c o (λz=>(hch c z).2.2.1 x c e rfl) ho (I.freeC x c e)
 .obtain⟨e,n,ne,nf,d⟩:=I.pin p hp;have nch:p.1∉ch:=λz=>(hch p.1 z).2.2.2 p hp rfl;exact⟨keep p.1 p.2 ne nf nch e n,free p.1 p.2 nch e n,ne,nf,d⟩
theorem Inv.un{t':Nat}(I:Inv X pins σ H s)(u:Un X.fs [] H H' s.heap h')(hok:HOk X.prog X.w H' h'):Inv X pins σ H' { s with heap:=h',toks:=t' }:=by
 obtain⟨m,⟨o,es,ep,ho,r⟩,_⟩:=id I.loc;obtain⟨sl,hL⟩:=u.any ho I.free (by simp);exact I.step (g':=s.gens) (d':=s.drawn) (ch:=[]) (λ_ z=>nomatch z) (λb o _ hb _ e n=>u.keep b o e n hb (by simp)) (λb o _ hb _ e n=>u.slot b o e n hb (by simp)) (λb o _ e n=>u.free b o e n (by simp)) (λb o _ e=>u.there b o e (by simp)) u.tups u.frzs u.tbls (λm' hm=>by
  obtain⟨o',es',ep',ho',r'⟩:=hm;rw[ho]at ho';cases ho';exact⟨_,es',ep',hL,r'⟩) hok I.bare
theorem Inv.call{g':Array GenState}{t':Nat}{d':Drawn}{ch:List Addr}(I:Inv X pins σ H s)(u:Un (frs X.stack) ch H H' s.heap h')(hok:HOk X.prog X.w H' h')(hg:AllBare g')
 (hch:∀b∈ch,(b∈X.ex∨X.s₀.heap.objs.size<=b)/\b≠X.env.locals/\(∀x c,X.env.cells.lookup x=some c->c≠b)/\∀p∈X.pn++pins,p.1≠b):
 Inv X pins σ H' { s with heap:=h',gens:=g',drawn:=d',toks:=t' }:=by
 obtain⟨m,⟨o,es,ep,ho,r⟩,_⟩:=id I.loc;obtain⟨sl,hL⟩:=u.any ho I.free λz=>(hch _ z).2.1 rfl;exact I.step (ch:=ch) hch (λb o hL hb hc e n=>u.keep b o e n (λz=>(mem_cons.mp (I.stkSub b z)).elim hL hb) hc) (λb o _ _ hc e n=>u.any e n hc) (λb o hc e n=>u.free b o e n hc) (λb o hc e=>u.there b o e hc) u.tups u.frzs u.tbls (λm' hm=>by
  obtain⟨o',es',ep',ho',r'⟩:=hm;rw[ho]at ho';cases ho';exact⟨_,es',ep',hL,r'⟩) hok hg
theorem Inv.turned{t':Nat}{it:Addr}(I:Inv X pins σ H s)(k:∀b o,b≠it->s.heap.get? b=some o->h'.get? b=some o)(hn:H it=none)(hL:it≠X.env.locals)
 (h1:it∈X.ex∨X.s₀.heap.objs.size<=it) (h2:∀x c,X.env.cells.lookup x=some c->c≠it) (h3:∀p∈X.pn++pins,p.1≠it):Inv X pins σ H { s with heap:=h',toks:=t' }:=by
 have nit:∀b u,H b=some u->b≠it:=λb u e z=>by rw[z,hn]at e;cases e
 refine I.step (g':=s.gens) (d':=s.drawn) (ch:=[it]) (λb hb=>?_) (λb o _ _ hc e _=>k b o (λz=>hc (by simp[z])) e) (λb o _ _ hc e _=>⟨o.slots,k b o (λz=>hc (by simp[z])) e⟩) (λ_ _ _ _ n=>n)
  (λb o hc e=>⟨o,k b o (λz=>hc (by simp[z])) e⟩) (λ_ _ e=>e) (λ_ _ _ e=>e) (λb ps e=>⟨#[],by rw[e];simp⟩) (λm hm=>?_) (λb u e=>?_) I.bare
 .have e:b=it:=by simpa using hb
  subst e;exact⟨h1,hL,h2,h3⟩
 .obtain⟨o,es,ep,ho,r⟩:=hm;exact⟨o,es,ep,k _ o (Ne.symm hL) ho,r⟩
 .refine(I.hok b u e).stay (λc v hc q=>k c v ?_ q) (λ_ q=>q) λ_ _ q=>q;rcases hc with z|z
  .rw[z];exact nit b u e
  .exact nit c _ z
theorem Inv.tok(I:Inv X pins σ H s)(t:Nat):Inv X pins σ H { s with toks:=t }:=I.un (h':=s.heap) (t':=t) Un.refl I.hok
theorem Inv.kept{t':Nat}(I:Inv X pins σ H s)(k:∀b u,s.heap.get? b=some u->h'.get? b=some u):Inv X pins σ H { s with heap:=h',toks:=t' }:=I.un (Un.kept k) (I.hok.kept k)
theorem Inv.laid{a:Addr}{o:HO}{t':Nat}(I:Inv X pins σ H s)(k:∀b u,s.heap.get? b=some u->h'.get? b=some u)(hp:s.heap.objs.size<=a)(new:ObjOk X.prog X.w (upd H a o) h' a o):
 Inv X pins σ (upd H a o) { s with heap:=h',toks:=t' }:=I.un (Un.laid k hp (I.hok.fresh hp)) (I.hok.laid k hp new)
theorem Inv.write{x e:Addr}{o:HO}{t':Nat}(I:Inv X pins σ H s)(mu:Mut (H x))(he:e=x∨H e=some (.own x))(k:∀b u,b≠e->s.heap.get? b=some u->h'.get? b=some u)(heo:∃u,h'.get? e=some u)
 (new:ObjOk X.prog X.w (upd H x o) h' x o):Inv X pins σ (upd H x o) { s with heap:=h',toks:=t' }:=I.un (Un.write mu he k heo) (I.hok.write mu he k heo new)
theorem Inv.pins_of{pins':List (Addr×Obj)}(I:Inv X pins σ H s)(h:∀p∈pins',s.heap.get? p.1=some p.2/\H p.1=none/\p.1≠X.env.locals/\p.1∉X.fs/\∀v,p.2.data≠.cell v):Inv X pins' σ H s:=
 ⟨I.ok,I.os,I.bare,I.base,I.loc,I.cell,I.free,I.freeC,λp hp=>(mem_append.mp hp).elim (λz=>I.pin p (mem_append_left _ z)) (h p),I.hok,I.len⟩
theorem Mz{N:List Str}(hN:N.Nodup){i j:Nat}{x:Str}(a:N[i]?=some x)(b:N[j]?=some x):i=j:=by
 obtain⟨h1,e1⟩:=List.getElem?_eq_some_iff.mp a;obtain⟨h2,e2⟩:=List.getElem?_eq_some_iff.mp b;exact(List.getElem_inj hN).mp (e1.trans e2.symm)
theorem LL{M:Model}{A:Around}{E:Value->Shared->Prop}{i:Nat}{x:Str}{v:V}{u:Value}{Q:Unit->Shared->Prop}(I:Inv X pins σ H s)(hN:X.N.Nodup)(hi:X.N[i]?=some x)(hx:Loc X.env.scope x)(r:RelV v u)
 (h:∀s',Inv X pins (σ.set i (some v)) H s'->(∃a,Heap.SameBut a s.heap s'.heap/\(a=X.env.locals∨X.env.cells.lookup x=some a))->Q () s') (hf:X.fn x=true∨X.env.scope.names.lookup x=some .local:=by first|exact .inl rfl|exact .inr rfl|assumption):wpAny M A (storeName X.env x u) Q E s:=by
 obtain⟨m,hn,hl⟩:=id I.loc;have hcls:(X.env.scope.kind==.class||(X.env.scope.kind==.module&&X.env.locals != X.env.globals))=false:=by rw[I.ok.kind];rfl
 have hiσ:i<σ.length:=by rw[I.len];exact(List.getElem?_eq_some_iff.mp hi).1
 have cne:=I.cne;have tracked:∀{a:Addr} {h':Heap},(∃o,s.heap.get? a=some o/\H a=none)->Heap.SameBut a s.heap h'->HOk X.prog X.w H h':=λ{a h'} ha hs b ob e=>by
  obtain⟨_,_,hfree⟩:=ha;refine(I.hok b ob e).stay (λc w' hc q=>(hs.2 c ?_).trans q) (λ_ q=>q) λ_ _ q=>q;rintro rfl;rcases hc with rfl|hc
  .rw[hfree]at e;cases e
  .rw[hfree]at hc;cases hc
 rcases hx with hk|hk
 .refine wpAny_storeName_local hk hn (λh' hn' hs=>?_) hcls;obtain⟨oL,_,_,hoL,_⟩:=id hn;refine h _ ⟨I.ok,I.os,I.bare,⟨λb o e n hb hx=>?_,λb o e n hb hx=>?_,I.base.free,λb o e hx=>?_,I.base.tups,I.base.frzs,I.base.tbls⟩,⟨_,hn',λj y v' e1 e2 e3=>?_⟩,λy c e=>?_,I.free,I.freeC,λp hp=>?_,tracked ⟨oL,hoL,I.free⟩ hs,by simpa using I.len⟩ ⟨_,hs,.inl rfl⟩
  .exact(hs.2 b (ne_of_lt (lt_of_lt_of_le (Heap.lt_size e) I.ok.above))).trans (I.base.keep b o e n hb hx)
  .obtain⟨sl,e1⟩:=I.base.slot b o e n hb hx;exact⟨sl,(hs.2 b (ne_of_lt (lt_of_lt_of_le (Heap.lt_size e) I.ok.above))).trans e1⟩
  .obtain⟨o',e1⟩:=I.base.there b o e hx;exact⟨o',(hs.2 b (ne_of_lt (lt_of_lt_of_le (Heap.lt_size e) I.ok.above))).trans e1⟩
  .by_cases hj:j=i
   .subst hj;rw[hi]at e1;cases e1;rw[List.getElem?_set_self hiσ]at e2;cases e2;exact⟨u,r,.inl ⟨hk,by simp⟩⟩
   .rw[List.getElem?_set_ne (Ne.symm hj)]at e2;obtain⟨u',r',q⟩:=hl j y v' e1 e2 e3;refine⟨u',r',?_⟩;rcases q with⟨k,e⟩|⟨k,c,e,z⟩
    .refine .inl ⟨k,?_⟩;have:y≠x:=λe=>hj (Mz hN e1 (e ▸ hi));simp[this,e]
    .exact .inr ⟨k,c,e,z.sameBut hs (cne y c e)⟩
  .obtain⟨w',z⟩:=I.cell y c e;exact⟨w',z.sameBut hs (cne y c e)⟩
  .obtain⟨e,n,ne,nf,d⟩:=I.pin p hp;exact⟨(hs.2 p.1 ne).trans e,n,ne,nf,d⟩
 .have hfn:X.fn x=true:=by
   rcases hf with z|z
   .exact z
   .rw[z]at hk;cases hk
  obtain⟨c,hc⟩:=I.ok.has x (.inl hk);obtain⟨w',z⟩:=I.cell x c hc;refine wpAny_storeName_cell I.ok.kind hk hc z (λh' hc' hs=>?_);obtain⟨oc,hoc,hocd⟩:=id z;refine h { s with heap:=h' } ⟨I.ok,I.os,I.bare,⟨λb o e n hb hx=>?_,λb o e n hb hx=>?_,I.base.free,λb o e hx=>?_,I.base.tups,I.base.frzs,I.base.tbls⟩,⟨m,hn.sameBut hs (Ne.symm (cne x c hc)),λj y v' e1 e2 e3=>?_⟩,λy c' e=>?_,I.free,I.freeC,λp hp=>?_,tracked ⟨oc,hoc,I.freeC x c hc⟩ hs,by simpa using I.len⟩ ⟨c,hs,.inr hc⟩
  .exact(hs.2 b (ne_of_lt (lt_of_lt_of_le (Heap.lt_size e) (I.ok.cab x c hfn hc)))).trans (I.base.keep b o e n hb hx)
  .obtain⟨sl,e1⟩:=I.base.slot b o e n hb hx;exact⟨sl,(hs.2 b (ne_of_lt (lt_of_lt_of_le (Heap.lt_size e) (I.ok.cab x c hfn hc)))).trans e1⟩
  .obtain⟨o',e1⟩:=I.base.there b o e hx;exact⟨o',(hs.2 b (ne_of_lt (lt_of_lt_of_le (Heap.lt_size e) (I.ok.cab x c hfn hc)))).trans e1⟩
  .by_cases hj:j=i
   .subst hj;rw[hi]at e1;cases e1;rw[List.getElem?_set_self hiσ]at e2;cases e2;exact⟨u,r,.inr ⟨.inl hk,c,hc,hc'⟩⟩
   .rw[List.getElem?_set_ne (Ne.symm hj)]at e2;obtain⟨u',r',q⟩:=hl j y v' e1 e2 e3;refine⟨u',r',?_⟩;rcases q with q|⟨k,c',e,z'⟩
    .exact .inl q
    .refine .inr ⟨k,c',e,z'.sameBut hs ?_⟩;rintro rfl;exact hj (Mz hN e1 (I.ok.inj _ _ _ e hc ▸ hi))
  .by_cases hcc:c'=c
   .subst hcc;exact⟨_,hc'⟩
   .obtain⟨w2,z2⟩:=I.cell y c' e;exact⟨w2,z2.sameBut hs hcc⟩
  .obtain⟨e,n,ne,nf,d⟩:=I.pin p hp;refine⟨(hs.2 p.1 ?_).trans e,n,ne,nf,d⟩;intro q;rw[q,hoc]at e;have q':oc=p.2:=Option.some.inj e;exact d w' (by rw[<- q'];exact hocd)
theorem E7{M:Model}{A:Around}{E:Value->Shared->Prop}{i:Nat}{x:Str}{v:V}{u:Value}{Q:Unit->Shared->Prop}(I:Inv X pins σ H s)(hN:X.N.Nodup)(hi:X.N[i]?=some x)(hx:Loc X.env.scope x)(r:RelV v u)
 (h:∀s',Inv X pins (σ.set i (some v)) H s'->Q () s') (hf:X.fn x=true∨X.env.scope.names.lookup x=some .local:=by first|exact .inl rfl|exact .inr rfl|assumption):wpAny M A (storeName X.env x u) Q E s:=
 LL I hN hi hx r (λs' I' _=>h s' I') hf
theorem Inv.call'{s':Shared}{ch:List Addr}(I:Inv X pins σ H s)(ho:s'.os=s.os)(u:Un (frs X.stack) ch H H' s.heap s'.heap)(hok:HOk X.prog X.w H' s'.heap)(hg:AllBare s'.gens)
 (hch:∀b∈ch,(b∈X.ex∨X.s₀.heap.objs.size<=b)/\b≠X.env.locals/\(∀x c,X.env.cells.lookup x=some c->c≠b)/\∀p∈X.pn++pins,p.1≠b):Inv X pins σ H' s':=by
 obtain⟨h',g',d',t',o'⟩:=s';have e:o'=s.os:=ho;subst e;exact I.call (g':=g') (t':=t') (d':=d') u hok hg hch
end
abbrev XK:=Value->Option Addr->Hp->Prop
abbrev St:=List (Option V)
abbrev VK:=V->Hp->Prop
abbrev TE:=St->Hp->VK->Prop
abbrev TT:=St->Hp->(Bool->Hp->Prop)->Prop
abbrev TA:=St->Hp->(List V->Hp->Prop)->Prop
structure Ends where
 nx:St->Hp->Prop
 rt:VK
 bk:St->Hp->Prop:=λ_ _=>False
 ct:St->Hp->Prop:=λ_ _=>False
abbrev TS:=Ends->St->Hp->Prop
def EP(X:Cx)(pins:List (Addr×Obj))(σ:St)(Q:VK)(u:Value)(s':Shared):Prop:=∃v H',Inv X pins σ H' s'/\RelV v u/\Q v H'
def TP(X:Cx)(pins:List (Addr×Obj))(σ:St)(Q:Bool->Hp->Prop)(b:Bool)(s':Shared):Prop:=∃H',Inv X pins σ H' s'/\Q b H'
def AP(X:Cx)(pins:List (Addr×Obj))(σ:St)(Q:List V->Hp->Prop)(us:List Value)(s':Shared):Prop:=∃vs H',Inv X pins σ H' s'/\Vals vs us/\Q vs H'
def SP(X:Cx)(pins:List (Addr×Obj))(D:Ends)(f:Flow)(s':Shared):Prop:=
 match f with
 |.next=>∃σ' H',Inv X pins σ' H' s'/\D.nx σ' H'
 |.brk=>∃σ' H',Inv X pins σ' H' s'/\D.bk σ' H'
 |.cont=>∃σ' H',Inv X pins σ' H' s'/\D.ct σ' H'
 |.ret u=>∃v σ' H',Inv X pins σ' H' s'/\RelV v u/\D.rt v H'
def PE(X:Cx)(e:Expr)(t:TE):Prop:=
 ∀(pins:List (Addr×Obj)) (s:Shared) (σ:St) (H:Hp) (Q:VK),Inv X pins σ H s->t σ H Q->wpAny (model X.prog X.w) X.A (eval e X.env) (EP X pins σ Q) X.xe s
def PT(X:Cx)(e:Expr)(t:TT):Prop:=
 ∀(pins:List (Addr×Obj)) (s:Shared) (σ:St) (H:Hp) (Q:Bool->Hp->Prop),Inv X pins σ H s->t σ H Q->wpAny (model X.prog X.w) X.A (isTrue e X.env (eval e X.env)) (TP X pins σ Q) X.xe s
def PW(X:Cx)(e:Expr)(t:TT):Prop:=
 ∀(whole:Sem Value) (pins:List (Addr×Obj)) (s:Shared) (σ:St) (H:Hp) (Q:Bool->Hp->Prop),Inv X pins σ H s->t σ H Q->wpAny (model X.prog X.w) X.A (isTrue e X.env whole) (TP X pins σ Q) X.xe s
theorem PW.pt{X:Cx}{e:Expr}{t:TT}(h:PW X e t):PT X e t:=h _
def PA(X:Cx)(es:List Expr)(t:TA):Prop:=
 ∀(pos:Pos) (pins:List (Addr×Obj)) (s:Shared) (σ:St) (H:Hp) (Q:List V->Hp->Prop),Inv X pins σ H s->t σ H Q->wpAny (model X.prog X.w) X.A (spliced (backTo pos (starEach es X.env))) (AP X pins σ Q) X.xe s
def PS(X:Cx)(st:Stmt)(t:TS):Prop:=
 ∀(pins:List (Addr×Obj)) (s:Shared) (σ:St) (H:Hp) (D:Ends),Inv X pins σ H s->t D σ H->wpAny (model X.prog X.w) X.A (exec st X.env) (SP X pins D) X.xe s
def PSs(X:Cx)(st:List Stmt)(t:TS):Prop:=
 ∀(pins:List (Addr×Obj)) (s:Shared) (σ:St) (H:Hp) (D:Ends),Inv X pins σ H s->t D σ H->wpAny (model X.prog X.w) X.A (execs st X.env) (SP X pins D) X.xe s
theorem thn{α:Type}{t:Sem α}{Q Q':α->Shared->Prop}{M:Model}{A:Around}{E:Value->Shared->Prop}{s:Shared}(h:wpAny M A t Q E s)(hQ:∀a s,Q a s->Q' a s):wpAny M A t Q' E s:=wpAny_mono h hQ λ_ _ x=>x
section
variable{X:Cx}
theorem bin{a b:Expr}{ta tb:TE}(ha:PE X a ta)(hb:PE X b tb){pins:List (Addr×Obj)}{s:Shared}{σ:St}{H:Hp}{R:V->V->Hp->Prop}(I:Inv X pins σ H s)(h:ta σ H λx H1=>tb σ H1 λy H2=>R x y H2)
 {α:Type} {Q:α->Shared->Prop} {f:Value->Value->Sem α}
 (hf:∀v u s2 x y H2,Inv X pins σ H2 s2->RelV x v->RelV y u->R x y H2->wpAny (model X.prog X.w) X.A (f v u) Q X.xe s2):
 wpAny (model X.prog X.w) X.A (eval a X.env) (λv s₁=>wpAny (model X.prog X.w) X.A (eval b X.env) (λu s₂=>wpAny (model X.prog X.w) X.A (f v u) Q X.xe s₂) X.xe s₁) X.xe s:=by
 refine thn (ha pins s σ H _ I h) λv s1 ⟨x,H1,I1,r1,q1⟩=>?_;refine thn (hb pins s1 σ H1 _ I1 q1) λu s2 ⟨y,H2,I2,r2,q2⟩=>?_;exact hf v u s2 x y H2 I2 r1 r2 q2
def S8(i:Nat):TE:=λσ H Q=>∃v,σ[i]?=some (some v)/\Q v H
def tC(v:V):TE:=λ_ H Q=>Q v H
theorem XH{i:Nat}{x:Str}{pos:Pos}(hN:X.N[i]?=some x)(hv:Vis X.env.scope x)(hd:(x==("__debug__":Str))=false:=by decide)(hcd:(x==("__classdict__":Str))=false:=by decide):PE X (.Name x pos) (S8 i):=by
 intro pins s σ H Q I h;obtain⟨v,e,h⟩:=h;obtain⟨m,hn,hl⟩:=I.loc;obtain⟨u,r,l⟩:=hl i x v hN e hv;have fin:EP X pins σ Q u s:=⟨v,H,I,r,h⟩
 rcases l with⟨hk,hm⟩|⟨hk,c,hc,hcell⟩
 .exact wpAny_Name (wpAny_loadName_local I.ok.kind hk hn hm fin) hd
 .rcases hk with hk|hk
  .exact wpAny_Name (wpAny_loadName_cell I.ok.kind hk hc hcell fin) hd
  .exact wpAny_Name (wpAny_loadName_free I.ok.kind hk hc hcell fin hcd) hd
theorem XR{i j pos}:PE X (.Constant (.int i) j pos) (tC (.int i)):=λ_ _ _ H _ I h=>wpAny_Constant_int ⟨.int i,H,I.tok _,⟨_,rfl⟩,h⟩
theorem YX{b j pos}:PE X (.Constant (.bool b) j pos) (tC (.bl b)):=λ_ _ _ H _ I h=>Constant_bool ⟨.bl b,H,I,rfl,h⟩
theorem XJ{x j pos}:PE X (.Constant (.str x) j pos) (tC (.str x)):=λ_ _ _ H _ I h=>Calls.Constant_str ⟨.str x,H,I.tok _,⟨_,rfl⟩,h⟩
def Gl(X:Cx)(x:Str):Prop:=X.env.kindOf x=some .globalImplicit
theorem Vh{E:Value->Shared->Prop}{pins:List (Addr×Obj)}{s:Shared}{σ:St}{H:Hp}{x:Str}{u:Value}{pos:Pos}{Q:Value->Shared->Prop}(I:Inv X pins σ H s)(hg:Gl X x)(hm:X.mg x=some u)(h:Q u s)
 (hd:(x==("__debug__":Str))=false:=by decide):wpAny (model X.prog X.w) X.A (eval (.Name x pos) X.env) Q E s:=
 Calls.Name_function_global I.ok.kind hg (Calls.loadGlobal_global (by rw[I.ok.glob];exact I.mod.glob.keeps I.bk) hm h) hd
theorem FA{E:Value->Shared->Prop}{pins:List (Addr×Obj)}{s:Shared}{σ:St}{H:Hp}{x:Str}{u:Value}{pos:Pos}{Q:Value->Shared->Prop}(I:Inv X pins σ H s)(hg:Gl X x)(hm:X.mg x=none)(hv:bootBuiltins x=some u)(h:Q u s)
 (hn:x≠"__name__":=by decide) (hd:(x==("__debug__":Str))=false:=by decide):wpAny (model X.prog X.w) X.A (eval (.Name x pos) X.env) Q E s:=by
 obtain⟨mb,h1,h2⟩:=I.mod.blt;exact Calls.Name_function_global I.ok.kind hg (Calls.loadGlobal_builtin (by rw[I.ok.glob];exact I.mod.glob.keeps I.bk) hm (by rw[I.ok.blt];exact h1.keeps I.bk) ((h2 x hn).trans hv) h) hd
variable{a b:Expr}{ta tb:TE}{pos:Pos}
variable{tA tB':TT}{rest:List Expr}
def SI(t u:TT):TT:=λσ H Q=>t σ H λc H1=>if c=true then u σ H1 Q else Q false H1
def tOr(t u:TT):TT:=λσ H Q=>t σ H λc H1=>if c=true then Q true H1 else u σ H1 Q
def SD(t:TT):TT:=λσ H Q=>t σ H λc H1=>Q (!c) H1
theorem V4(ha:PT X a tA):PW X (.BoolOp .And [a] pos) tA:=by
 intro wh pins s σ H Q I h;refine isTrue_and (thn (ha pins s σ H Q I h) λc s1 e=>?_);cases c with
 |true=>exact isTrue_and_nil e
 |false=>exact e
theorem X3(ha:PT X a tA):PW X (.BoolOp .Or [a] pos) tA:=by
 intro wh pins s σ H Q I h;refine isTrue_or (thn (ha pins s σ H Q I h) λc s1 e=>?_);cases c with
 |false=>exact isTrue_or_nil e
 |true=>exact e
theorem X4(ha:PT X a tA)(hb:PW X (.BoolOp .And (b::rest) pos) tB'):PW X (.BoolOp .And (a::b::rest) pos) (SI tA tB'):=by
 intro wh pins s σ H Q I h;refine isTrue_and (thn (ha pins s σ H _ I h) λc s1 ⟨H1,I1,q1⟩=>?_);cases c with
 |true=>exact hb wh pins s1 σ H1 Q I1 q1
 |false=>exact⟨H1,I1,q1⟩
theorem YS(ha:PT X a tA)(hb:PW X (.BoolOp .Or (b::rest) pos) tB'):PW X (.BoolOp .Or (a::b::rest) pos) (tOr tA tB'):=by
 intro wh pins s σ H Q I h;refine isTrue_or (thn (ha pins s σ H _ I h) λc s1 ⟨H1,I1,q1⟩=>?_);cases c with
 |true=>exact⟨H1,I1,q1⟩
 |false=>exact hb wh pins s1 σ H1 Q I1 q1
theorem X5(ha:PT X a tA):PT X (.UnaryOp .Not a pos) (SD tA):=by
 intro pins s σ H Q I h;exact isTrue_not (ha pins s σ H (λc H1=>Q (!c) H1) I h)
def Oo(ta tb:TE):TE:=λσ H Q=>ta σ H λx H1=>∃c,x=.bl c/\if c=true then tb σ H1 Q else Q (.bl false) H1
def Oh(ta:TE):TE:=λσ H Q=>ta σ H λx H1=>∃c,x=.bl c/\Q (.bl (!c)) H1
theorem XM{op}{t:TE}(h:PE X a t):PE X (.BoolOp op [a] pos) t:=λpins s σ H Q I hw=>BoolOp_one (h pins s σ H Q I hw)
theorem XS(ha:PE X a ta)(hb:PE X (.BoolOp .And (b::rest) pos) tb):PE X (.BoolOp .And (a::b::rest) pos) (Oo ta tb):=by
 intro pins s σ H Q I h;refine BoolOp_and (thn (ha pins s σ H _ I h) λv s1 ⟨x,H1,I1,r1,q1⟩=>?_);obtain⟨c,rfl,q1⟩:=q1;cases r1;refine wpAny_truthy_bool ?_;cases c with
 |true=>exact hb pins s1 σ H1 Q I1 q1
 |false=>exact⟨.bl false,H1,I1,rfl,q1⟩
theorem XN(ha:PE X a ta):PE X (.UnaryOp .Not a pos) (Oh ta):=by
 intro pins s σ H Q I h;refine UnaryOp_ (thn (ha pins s σ H _ I h) λv s1 ⟨x,H1,I1,r1,q1⟩=>?_);obtain⟨c,rfl,q1⟩:=q1;cases r1;exact not_of (wpAny_truthy_bool ⟨.bl (!c),H1,I1,rfl,q1⟩)
def tIf(t:TT)(ta tb:TE):TE:=λσ H Q=>t σ H λc H1=>if c=true then ta σ H1 Q else tb σ H1 Q
theorem Sz{c:Expr}(hc:PT X c tA)(ha:PE X a ta)(hb:PE X b tb):PE X (.IfExp c a b pos) (tIf tA ta tb):=by
 intro pins s σ H Q I h;refine wpAny_IfExp (thn (hc pins s σ H _ I h) λd s1 ⟨H1,I1,q1⟩=>?_);cases d with
 |true=>exact ha pins s1 σ H1 Q I1 q1
 |false=>exact hb pins s1 σ H1 Q I1 q1
end
def SqL(K:PySem.W.Frag)(H:Hp)(a:Addr)(xs:List V):Prop:=
 Rd H a (.lst xs) ∨
  ∃(o:Obj) (its:Array Value) (n:Nat),K.lookup a=some o/\o.cls=.type "list"/\o.dict=none/\o.data=.seq its n/\its.size<=sizeLine/\Vals xs its.toList
def SqT(K:PySem.W.Frag)(H:Hp)(a:Addr)(xs:List V):Prop:=
 Rd H a (.tup xs) ∨
  ∃(o:Obj) (its:Array Value) (n:Nat),K.lookup a=some o/\o.cls=.type "tuple"/\o.dict=none/\o.data=.seq its n/\its.size<=sizeLine/\Vals xs its.toList
def ZQ:Value->Option V
 |.none=>some .non
 |.bool b=>some (.bl b)
 |.int i _=>some (.int i)
 |.str x _=>some (.str x)
 |.bytes b _=>some (.byt b)
 |.float b _=>some (.flt b)
 |.ref a=>some (.ref a)
 |.type n=>some (.ty n)
 |_=>none
theorem RelV.abs{x:V}{u:Value}(r:RelV x u):ZQ u=some x:=by
 cases x with
 |non=>cases r;rfl
 |bl _=>cases r;rfl
 |int _=>obtain⟨t,rfl⟩:=r;rfl
 |str _=>obtain⟨t,rfl⟩:=r;rfl
 |byt _=>obtain⟨t,rfl⟩:=r;rfl
 |flt _=>obtain⟨t,rfl⟩:=r;rfl
 |ref _=>cases r;rfl
 |ty _=>cases r;rfl
theorem RelV.inj{x y:V}{u:Value}(r:RelV x u)(q:RelV y u):x=y:=Option.some.inj (r.abs.symm.trans q.abs)
theorem Vals.inj:∀{xs ys:List V} {us:List Value},Vals xs us->Vals ys us->xs=ys
 |_,_,_,.nil,.nil=>rfl
 |_,_,_,.cons r t,.cons r' t'=>by rw[r.inj r',Vals.inj t t']
section
variable{X:Cx}{pins:List (Addr×Obj)}{σ:St}{H:Hp}{s:Shared}{a:Addr}{xs ys:List V}
theorem SqL.of{K:PySem.W.Frag}(h:H a=some (.lst xs)):SqL K H a xs:=.inl (.inl h)
theorem SqT.of{K:PySem.W.Frag}(h:H a=some (.tup xs)):SqT K H a xs:=.inl (.inl h)
theorem Inv.list(I:Inv X pins σ H s)(h:SqL X.K H a xs):∃its:List Value,Vals xs its/\PlainL s.heap a its.toArray/\xs.length<=sizeLine:=by
 rcases h with h|⟨o,its,n,hk,hc,hd,hs,hz,r⟩
 .obtain⟨z,its,n,r,e⟩:=h.ok I.hok;exact⟨its,r,⟨_,n,e,rfl,rfl,rfl⟩,z⟩
 .refine⟨its.toList,r,⟨o,n,I.kIn a o hk,hc,hd,by simpa using hs⟩,?_⟩;have e:=r.length;simp only[Array.length_toList]at e;omega
theorem Inv.tuple(I:Inv X pins σ H s)(h:SqT X.K H a xs):∃its:List Value,Vals xs its/\IsTup s.heap a its.toArray/\xs.length<=sizeLine:=by
 rcases h with h|⟨o,its,n,hk,hc,_,hs,hz,r⟩
 .obtain⟨z,its,r,p⟩:=h.ok I.hok;exact⟨its,r,p.t,z⟩
 .refine⟨its.toList,r,⟨o,I.kIn a o hk,hc,n,by simpa using hs⟩,?_⟩;have e:=r.length;simp only[Array.length_toList]at e;omega
theorem Inv.list_inj(I:Inv X pins σ H s)(h:SqL X.K H a xs)(h':SqL X.K H a ys):xs=ys:=by
 obtain⟨its,r,⟨o,n,e,_,_,d⟩,_⟩:=I.list h;obtain⟨its',r',⟨o',n',e',_,_,d'⟩,_⟩:=I.list h';rw[e]at e';cases e';rw[d]at d'
 injection d' with d1 _
 have:its=its':=by simpa using congrArg Array.toList d1
 subst this;exact r.inj r'
theorem Inv.tuple_inj(I:Inv X pins σ H s)(h:SqT X.K H a xs)(h':SqT X.K H a ys):xs=ys:=by
 obtain⟨its,r,⟨o,e,_,n,d⟩,_⟩:=I.tuple h;obtain⟨its',r',⟨o',e',_,n',d'⟩,_⟩:=I.tuple h';rw[e]at e';cases e';rw[d]at d'
 injection d' with d1 _
 have:its=its':=by simpa using congrArg Array.toList d1
 subst this;exact r.inj r'
end
abbrev Cx.wish(X:Cx)(E:Value->Shared->Prop):Cx:={ X with xe:=E }
abbrev Cx.nox(X:Cx):Cx:=X.wish λ_ _=>False
theorem Cx.Ok.wish{X:Cx}(ok:X.Ok)(E:Value->Shared->Prop):(X.wish E).Ok:=
 ⟨ok.mod,ok.kind,ok.glob,ok.blt,ok.above,ok.inj,ok.has,ok.cab,ok.hd,ok.frames,ok.stk,ok.exf,ok.bs,ok.bsz,ok.noex,ok.exfs,ok.funs,ok.frf⟩
theorem Cx.Ok.unwish{X:Cx}{E:Value->Shared->Prop}(ok:(X.wish E).Ok):X.Ok:=
 ⟨ok.mod,ok.kind,ok.glob,ok.blt,ok.above,ok.inj,ok.has,ok.cab,ok.hd,ok.frames,ok.stk,ok.exf,ok.bs,ok.bsz,ok.noex,ok.exfs,ok.funs,ok.frf⟩
section
variable{X:Cx}{pins:List (Addr×Obj)}{σ:St}{H:Hp}{s:Shared}{E:Value->Shared->Prop}
theorem Inv.wish(I:Inv X pins σ H s)(E:Value->Shared->Prop):Inv (X.wish E) pins σ H s:=⟨I.ok.wish E,I.os,I.bare,I.base,I.loc,I.cell,I.free,I.freeC,I.pin,I.hok,I.len⟩
theorem Inv.unwish(I:Inv (X.wish E) pins σ H s):Inv X pins σ H s:=⟨I.ok.unwish,I.os,I.bare,I.base,I.loc,I.cell,I.free,I.freeC,I.pin,I.hok,I.len⟩
theorem SP.unwish{D:Ends}{f:Flow}{s':Shared}(h:SP (X.wish E) pins D f s'):SP X pins D f s':=by
 cases f with
 |next=>obtain⟨σ',H',I,q⟩:=h;exact⟨σ',H',I.unwish,q⟩
 |brk=>obtain⟨σ',H',I,q⟩:=h;exact⟨σ',H',I.unwish,q⟩
 |cont=>obtain⟨σ',H',I,q⟩:=h;exact⟨σ',H',I.unwish,q⟩
 |ret u=>obtain⟨v,σ',H',I,r,q⟩:=h;exact⟨v,σ',H',I.unwish,r,q⟩
theorem PSs.nox{st:List Stmt}{t:TS}(h:PSs X.nox st t):PSs X st t:=λpins s σ H D I hw=>
 wpAny_mono (h pins s σ H D (I.wish _) hw) (λ_ _ q=>q.unwish) λ_ _ z=>False.elim z
end
section
variable{X:Cx}{st:Stmt}{rest:List Stmt}{t u:TS}{e:Expr}{te:TE}{pos:Pos}
def Oi:TS:=λD σ H=>D.nx σ H
def SA(t u:TS):TS:=λD σ H=>t { D with nx:=u D } σ H
theorem V6:PSs X [] Oi:=λ_ _ σ H _ I h=>wpAny_execs_nil ⟨σ,H,I,h⟩
theorem Sq(h1:PS X st t)(h2:PSs X rest u):PSs X (st::rest) (SA t u):=by
 intro pins s σ H D I h;refine wpAny_execs_cons (thn (h1 pins s σ H { D with nx:=u D } I h) λf s1 q=>?_);cases f with
 |next=>
  obtain⟨σ',H',I',q⟩:=q;exact h2 pins s1 σ' H' D I' q
 |ret v=>exact q
 |brk=>exact q
 |cont=>exact q
theorem V5(h1:PS X st t):PSs X [st] t:=by
 intro pins s σ H D I h;refine wpAny_execs_cons (thn (h1 pins s σ H D I h) λf s1 q=>?_);cases f with
 |next=>exact wpAny_execs_nil q
 |ret v=>exact q
 |brk=>exact q
 |cont=>exact q
theorem Inv.quiet{pins:List (Addr×Obj)}{σ:St}{H:Hp}{s:Shared}(I:Inv X pins σ H s):interactive X.env=false:=by simp[interactive,I.ok.kind]
def Oj(te:TE):TS:=λD σ H=>te σ H λ_ H1=>D.nx σ H1
theorem V9(he:PE X e te)(hs:swapsWith e none pos.line X.env=pure false:=by rfl):PS X (.Expr e pos) (Oj te):=by
 intro pins s σ H D I h;exact wpAny_Expr_any (thn (he pins s σ H _ I h) λv s1 ⟨x,H1,I1,r1,q1⟩=>⟨σ,H1,I1,q1⟩) I.quiet hs
def SB(te:TE):TS:=λD σ H=>te σ H D.rt
theorem X7(he:PE X e te):PS X (.Return (some e) pos) (SB te):=by
 intro pins s σ H D I h;exact wpAny_Return_some (thn (he pins s σ H _ I h) λv s1 ⟨x,H1,I1,r1,q1⟩=>⟨x,σ,H1,I1,r1,q1⟩)
def SG(c:TT)(t u:TS):TS:=λD σ H=>c σ H λb H1=>if b=true then t D σ H1 else u D σ H1
theorem YU{c:Expr}{a b:List Stmt}{tc:TT}(hc:PT X c tc)(ha:PSs X a t)(hb:PSs X b u):PS X (.If c a b pos) (SG tc t u):=by
 intro pins s σ H D I h;refine wpAny_If (thn (hc pins s σ H _ I h) λd s1 ⟨H1,I1,q1⟩=>?_);cases d with
 |true=>exact ha pins s1 σ H1 D I1 q1
 |false=>exact hb pins s1 σ H1 D I1 q1
def MQ:TS:=λ_ _ _=>False
theorem Sr:PS X st MQ:=λ_ _ _ _ _ _ h=>h.elim
end
abbrev TG:=V->St->Hp->(St->Hp->Prop)->Prop
abbrev TGs:=List V->St->Hp->(St->Hp->Prop)->Prop
def PG(X:Cx)(target:Expr)(t:TG):Prop:=
 ∀(pins:List (Addr×Obj)) (s:Shared) (σ:St) (H:Hp) (v:V) (u:Value) (Q:St->Hp->Prop),Inv X pins σ H s->RelV v u->t v σ H Q ->
   wpAny (model X.prog X.w) X.A (assign target X.env u) (λ_ s'=>∃σ' H',Inv X pins σ' H' s'/\Q σ' H') X.xe s
def PGs(X:Cx)(ts:List Expr)(t:TGs):Prop:=
 ∀(pins:List (Addr×Obj)) (s:Shared) (σ:St) (H:Hp) (vs:List V) (us:List Value) (Q:St->Hp->Prop),Inv X pins σ H s->Vals vs us->t vs σ H Q ->
   wpAny (model X.prog X.w) X.A (assignInOrder ((assignEach ts X.env).map (·.2)) us) (λ_ s'=>∃σ' H',Inv X pins σ' H' s'/\Q σ' H') X.xe s
abbrev NU:=V->V->V->Hp->(Hp->Prop)->Prop
def Ti(X:Cx)(t:NU):Prop:=
 ∀(pins:List (Addr×Obj)) (s:Shared) (σ:St) (H:Hp) (o i v:V) (ov iv u:Value) (Q:Hp->Prop),Inv X pins σ H s->RelV o ov->RelV i iv->RelV v u->t o i v H Q ->
   wpAny (model X.prog X.w) X.A (setItem ov iv u) (λ_ s'=>∃H',Inv X pins σ H' s'/\Q H') X.xe s
abbrev TIp:=V->V->Hp->VK->Prop
def PIp(X:Cx)(op:Operator)(t:TIp):Prop:=
 ∀(pins:List (Addr×Obj)) (s:Shared) (σ:St) (H:Hp) (x y:V) (v u:Value) (Q:VK),Inv X pins σ H s->RelV x v->RelV y u->t x y H Q ->
   wpAny (model X.prog X.w) X.A (inplaceOp op v u) (EP X pins σ Q) X.xe s
section
variable{X:Cx}{pos:Pos}
def Gv(i:Nat):TG:=λv σ H Q=>Q (σ.set i (some v)) H
theorem VN{i:Nat}{x:Str}(hN:X.N.Nodup)(hi:X.N[i]?=some x)(hx:Loc X.env.scope x)(hf:X.fn x=true∨X.env.scope.names.lookup x=some .local:=by first|exact .inl rfl|exact .inr rfl|assumption):PG X (.Name x pos) (Gv i):=by
 intro pins s σ H v u Q I r h;exact wpAny_assign_Name (E7 I hN hi hx r (λs' I'=>⟨_,H,I',h⟩) hf)
def TQ:TGs:=λvs σ H Q=>vs=[]/\Q σ H
def PX(t:TG)(u:TGs):TGs:=λvs σ H Q=>∃v r,vs=v::r/\t v σ H λσ' H'=>u r σ' H' Q
theorem VL:PGs X [] TQ:=by
 intro pins s σ H vs us Q I r h;obtain⟨e,h⟩:=h;subst e;cases r;exact assignInOrder_nil ⟨σ,H,I,h⟩
theorem Sx{e:Expr}{es:List Expr}{t:TG}{u:TGs}(h1:PG X e t)(h2:PGs X es u)
 (hs:(assignEach (e::es) X.env).map (·.2)=assign e X.env::(assignEach es X.env).map (·.2):=by rfl):PGs X (e::es) (PX t u):=by
 intro pins s σ H vs us Q I r h;obtain⟨v,vr,e1,h⟩:=h;subst e1;cases r with
 |cons r rr=>
  rw[hs];refine assignInOrder_cons (thn (h1 pins s σ H _ _ _ I r h) λ_ s1 ⟨σ1,H1,I1,q1⟩=>?_);exact h2 pins s1 σ1 H1 _ _ Q I1 rr q1
def PV(K:PySem.W.Frag)(n:Nat)(t:TGs):TG:=λv σ H Q=>∃a xs,v=.ref a/\SqT K H a xs/\xs.length=n/\t xs σ H Q
theorem XD{es:List Expr}{k:Nat}{t:TGs}{n:Nat}(hc:X.calm=true)(h:PGs X es t)
 (hn:(assignEach es X.env).length=n:=by rfl) (hst:(assignEach es X.env).findIdx? (·.1)=none:=by rfl):PG X (.Tuple es k pos) (PV X.K n t):=by
 intro pins s σ H v u Q I r hw;obtain⟨a,xs,e1,hq,hl,hw⟩:=hw;subst e1;cases r;obtain⟨its,rv,ht,hz⟩:=I.tuple hq;refine assign_Tuple_tuple (I.ok.hd hc) ht (by simp[hn,<- hl,rv.length]) hst λh' hx=>?_;have I1:Inv X pins σ H { s with heap:=h' }:=I.kept (t':=s.toks) λb o e=>hx b o (ne_of_lt (Heap.lt_size e)) e;exact h pins _ σ H xs _ Q I1 (by simpa using rv) hw
def TM(to ti:TE)(t:NU):TG:=λv σ H Q=>to σ H λo H1=>ti σ H1 λi H2=>t o i v H2 λH3=>Q σ H3
theorem XE{o i:Expr}{to ti:TE}{t:NU}(ho:PE X o to)(hi:PE X i ti)(hs:Ti X t)
 (ha:∀v,assign (.Subscript o i pos) X.env v=(do
  let ov <- holding [v] (eval o X.env)
  let iv <- holding [v,ov] (eval i X.env)
  standAt pos
  holding [v,ov,iv] (setItem ov iv v)
  release [v,ov,iv] []):=by intro _;rfl):PG X (.Subscript o i pos) (TM to ti t):=by
 intro pins s σ H v u Q I r h;rw[ha];refine wpAny_bind (wpAny_holding (thn (ho pins s σ H _ I h) λov s1 ⟨x,H1,I1,r1,q1⟩=>?_));refine wpAny_bind (wpAny_holding (thn (hi pins s1 σ H1 _ I1 q1) λiv s2 ⟨y,H2,I2,r2,q2⟩=>?_));refine wpAny_bind (wpAny_standAt (wpAny_bind (wpAny_holding (thn (hs pins s2 σ H2 x y v ov iv u _ I2 r1 r2 r q2) λ_ s3 ⟨H3,I3,q3⟩=>?_))));exact wpAny_release ⟨σ,H3,I3,q3⟩
def Gc(te:TE)(g:TG):TS:=λD σ H=>te σ H λx H1=>g x σ H1 D.nx
theorem Qf{tg e:Expr}{te:TE}{g:TG}(he:PE X e te)(hg:PG X tg g)(hs:swapsWithSole [tg] e pos.line X.env=pure false:=by rfl)(hw:swappedStores [tg] e X.env=pure none:=by rfl)
 (h1:(assignEach [tg] X.env).map (·.2)=[assign tg X.env]:=by rfl):PS X (.Assign [tg] e pos) (Gc te g):=by
 intro pins s σ H D I h;refine wpAny_Assign_stores (thn (he pins s σ H _ I h) λv s1 ⟨x,H1,I1,r1,q1⟩=>?_) hs hw;rw[h1];exact thn (hg pins s1 σ H1 x v _ I1 r1 q1) λ_ s2 q=>q
theorem X6{i:Nat}{x:Str}{e:Expr}{te:TE}{pos':Pos}(hN:X.N.Nodup)(hi:X.N[i]?=some x)(hx:Loc X.env.scope x)(he:PE X e te)(hs:swapsWith e (some (.Name x pos')) pos.line X.env=pure false:=by rfl)(hf:X.fn x=true∨X.env.scope.names.lookup x=some .local:=by first|exact .inl rfl|exact .inr rfl|assumption):
 PS X (.Assign [.Name x pos'] e pos) (Gc te (Gv i)):=by
 intro pins s σ H D I h;refine wpAny_Assign_Name (thn (he pins s σ H _ I h) λv s1 ⟨y,H1,I1,r1,q1⟩=>?_) hs;exact E7 I1 hN hi hx r1 (λs2 I2=>⟨_,H1,I2,q1⟩) hf
def SC(i j:Nat)(ta:TA):TS:=λD σ H=>ta σ H λvs H1=>∃v w,vs=[v,w]/\D.nx ((σ.set i (some v)).set j (some w)) H1
theorem X8{i j:Nat}{x y:Str}{a b:Expr}{ta:TA}{px py pt:Pos}{kt k2 pt2}(hc:X.calm=true)(hN:X.N.Nodup)(hi:X.N[i]?=some x)(hj:X.N[j]?=some y)(hij:i≠j)
 (hx:X.env.scope.names.lookup x=some .local) (hy:X.env.scope.names.lookup y=some .local) (ha:PA X [a,b] ta)
 (hw:swappedStores [.Tuple [.Name x px,.Name y py] kt pt] (.Tuple [a,b] k2 pt2) X.env=pure (some [x,y]))
 (hs:swapsWithSole [.Tuple [.Name x px,.Name y py] kt pt] (.Tuple [a,b] k2 pt2) pos.line X.env=pure false:=by rfl):
 PS X (.Assign [.Tuple [.Name x px,.Name y py] kt pt] (.Tuple [a,b] k2 pt2) pos) (SC i j ta):=by
 intro pins s σ H D I h;rw[exec_Assign_arm];refine wpAny_bind (wpAny_standAt ?_);rw[hs];refine wpAny_bind (wpAny_pure ?_);rw[if_neg (by decide)];refine wpAny_bind (Tuple_ (thn (ha _ pins s σ H _ I h) λus s1 ⟨vs,H1,I1,r1,q1⟩=>?_));obtain⟨v,w,e1,q1⟩:=q1;subst e1;obtain⟨u1,u2,rfl,rv,rw'⟩:∃u1 u2,us=[u1,u2]/\RelV v u1/\RelV w u2:=by
  cases r1 with
  |cons p q=>
   cases q with
   |cons p' q'=>
    cases q';exact⟨_,_,rfl,p,p'⟩
 refine wpAny_newObj_type ?_ (by show 2<=sizeLine;decide);have I2:Inv X pins σ H1 { s1 with heap:=s1.heap.push { cls:=.type "tuple",data:=.seq [u1,u2].toArray } }:=I1.kept (t':=s1.toks) λb o e=>Heap.get?_push_of_some _ e;rw[hw];refine wpAny_bind (wpAny_pure ?_);show wpAny (model X.prog X.w) X.A (do rule "assign.swapped-stores";let items <- unpackItems (.ref s1.heap.objs.size) 2 none;assignInOrder [λv=>bindName X.env y v,λv=>bindName X.env x v] items.reverse;pure Flow.next) _ _ _;refine wpAny_bind (wpAny_rule (wpAny_bind (unpackItems_tuple (items:=#[u1,u2]) (I.ok.hd hc) (IsTup.new s1.heap _) λh' hx'=>?_)));have I3:=I2.kept (h':=h') (t':=s1.toks) λb o e=>hx' b o (ne_of_lt (Heap.lt_size e)) e;show wpAny _ _ (assignInOrder [λv=>bindName X.env y v,λv=>bindName X.env x v] [u2,u1] >>= λ_=>pure Flow.next) _ _ _;refine wpAny_bind (assignInOrder_cons (wpAny_bindName (E7 I3 hN hj (.inl hy) rw' (λs2 I4=>?_) (.inr hy))));refine assignInOrder_cons (wpAny_bindName (E7 I4 hN hi (.inl hx) rv (λs3 I5=>assignInOrder_nil (wpAny_pure ?_)) (.inr hx)));rw[List.set_comm _ _ (Ne.symm hij)]at I5;exact⟨_,H1,I5,q1⟩
def On(to ti te:TE)(tget:V->V->Hp->VK->Prop)(tip:TIp)(tset:NU):TS:=λD σ H=>to σ H λo H1=>ti σ H1 λi H2=>tget o i H2 λx H3=>te σ H3 λy H4=>tip x y H4 λz H5=>tset o i z H5 λH6=>D.nx σ H6
def Y8(X:Cx)(t:V->V->Hp->VK->Prop):Prop:=
 ∀(pins:List (Addr×Obj)) (s:Shared) (σ:St) (H:Hp) (o i:V) (ov iv:Value) (Q:VK),Inv X pins σ H s->RelV o ov->RelV i iv->t o i H Q ->
   wpAny (model X.prog X.w) X.A (getItem ov iv) (EP X pins σ Q) X.xe s
theorem VB{o i e:Expr}{to ti te:TE}{tget:V->V->Hp->VK->Prop}{tip:TIp}{tset:NU}{op:Operator}{tpos:Pos}(ho:PE X o to)(hi:PE X i ti)(hg:Y8 X tget)(he:PE X e te)(hp:PIp X op tip)(hs:Ti X tset)
 (ha:∀ov iv new,augStore i ov iv new=(do holding [new,ov,iv] (setItem ov iv new);release [new,ov,iv] [];pure .next):=by intros;rfl):PS X (.AugAssign (.Subscript o i tpos) op e pos) (On to ti te tget tip tset):=by
 intro pins s σ H D I h;refine wpAny_AugAssign_SubscriptAny (thn (ho pins s σ H _ I h) λov s1 ⟨x1,H1,I1,r1,q1⟩=>?_) ha;refine thn (hi pins s1 σ H1 _ I1 q1) λiv s2 ⟨x2,H2,I2,r2,q2⟩=>?_;refine thn (hg pins s2 σ H2 x1 x2 ov iv _ I2 r1 r2 q2) λold s3 ⟨x3,H3,I3,r3,q3⟩=>?_;refine thn (he pins s3 σ H3 _ I3 q3) λv s4 ⟨x4,H4,I4,r4,q4⟩=>?_;refine thn (hp pins s4 σ H4 x3 x4 old v _ I4 r3 r4 q4) λnew s5 ⟨x5,H5,I5,r5,q5⟩=>?_;exact thn (hs pins s5 σ H5 x1 x2 x5 ov iv new _ I5 r1 r2 r5 q5) λ_ s6 ⟨H6,I6,q6⟩=>⟨σ,H6,I6,q6⟩
def ipI(f:Int->Int->Int):TIp:=λx y H Q=>∃i j,x=.int i/\y=.int j/\Q (.int (f i j)) H
theorem Xm:PIp X .Add (ipI λi j=>i+j):=by
 intro pins s σ H x y v u Q I r1 r2 h;obtain⟨i,j,e1,e2,q⟩:=h;subst e1;subst e2;obtain⟨t,rfl⟩:=r1;obtain⟨t',rfl⟩:=r2;exact iadd_int ⟨.int _,H,I.tok _,⟨_,rfl⟩,q⟩
end
structure It where
 go:Nat->Hp->Prop
 yld:Nat->Hp->V->Hp->Prop
 stop:Nat->Hp->Prop
def FpOk(X:Cx)(pins:List (Addr×Obj))(H:Hp)(b:Addr):Prop:=
 H b=none/\b≠X.env.locals/\b∉X.fs/\(b∈X.ex∨X.s₀.heap.objs.size<=b)/\(∀x c,X.env.cells.lookup x=some c->c≠b)/\∀p∈X.pn++pins,p.1≠b
theorem Inv.fpOk{X:Cx}{pins:List (Addr×Obj)}{σ:St}{H H':Hp}{s:Shared}{b:Addr}(I:Inv X pins σ H s)(hb:s.heap.objs.size<=b)(hn:H' b=none):FpOk X pins H' b:=by
 refine⟨hn,ne_of_gt (lt_of_lt_of_le I.lt hb),I.nofs hb,.inr (le_trans I.sz hb),λx c e z=>?_,λp hp z=>?_⟩
 .obtain⟨v,q⟩:=I.cell x c e;exact absurd (lt_of_lt_of_le q.lt (by rw[z];exact hb)) (lt_irrefl _)
 .exact absurd (lt_of_lt_of_le (Heap.lt_size (I.pin p hp).1) (by rw[z];exact hb)) (lt_irrefl _)
structure Turn(P:Program)(w:World)(K:PySem.W.Frag)(tg:Expr)(J:It)(fp:List Addr)(it:Addr)(tn:Nat->Heap->Prop):Prop where
 mem:it∈fp
 obj:∀i h,tn i h->∀b∈fp,∃o,h.get? b=some o/\∀v,o.data≠.cell v
 keep:∀i h h',tn i h->(∀b∈fp,∀o,h.get? b=some o->h'.get? b=some o)->tn i h'
 item:∀(X:Cx),X.prog=P->X.w=w->X.K=K->X.calm=true->∀(i:Nat) (pins:List (Addr×Obj)) (s:Shared) (σ:St) (H:Hp) (E:Value->Shared->Prop),Inv X pins σ H s->(∀b∈fp,FpOk X pins H b)->tn i s.heap->J.go i H ->
  wpAny (model P w) X.A (pyNext (.ref it)) (λr s1=>∃u,r=some u /\
   wpAny (model P w) X.A (letOwnedTupleGo tg (.ref it) u) (λ_ s2=>∃x H',Inv X pins σ H' s2/\RelV x u/\J.yld i H x H'/\tn (i+1) s2.heap/\∀b∈fp,H' b=none) E s1) E s
 done:∀(X:Cx),X.prog=P->X.w=w->X.K=K->X.calm=true->∀(i:Nat) (pins:List (Addr×Obj)) (s:Shared) (σ:St) (H:Hp) (E:Value->Shared->Prop),Inv X pins σ H s->(∀b∈fp,FpOk X pins H b)->tn i s.heap->J.stop i H ->
  wpAny (model P w) X.A (pyNext (.ref it)) (λr s1=>r=none/\Inv X pins σ H s1) E s
 self:∀(A:Around) (i:Nat) (s:Shared) (Q:Value->Shared->Prop) (E:Value->Shared->Prop),tn i s.heap->Q (.ref it) s->wpAny (model P w) A (pyIter (.ref it)) Q E s
abbrev TI:=St->Hp->(It->Hp->Prop)->Prop
def PIE(X:Cx)(pins:List (Addr×Obj))(σ:St)(tg:Expr)(R:It->Hp->Prop)(itv:Value)(s2:Shared):Prop:=
 ∃(it:Addr) (fp:List Addr) (tn:Nat->Heap->Prop) (J:It) (H':Hp),itv=.ref it/\Inv X pins σ H' s2/\Turn X.prog X.w X.K tg J fp it tn/\tn 0 s2.heap/\(∀b∈fp,FpOk X pins H' b)/\R J H'
def PI(X:Cx)(tg iter:Expr)(wi:TI):Prop:=
 ∀(pins:List (Addr×Obj)) (s:Shared) (σ:St) (H:Hp) (R:It->Hp->Prop),Inv X pins σ H s->wi σ H R ->
   wpAny (model X.prog X.w) X.A (eval iter X.env) (λv s1=>wpAny (model X.prog X.w) X.A (pyIter v) (PIE X pins σ tg R) X.xe s1) X.xe s
theorem PU{M:Model}{A:Around}{E:Value->Shared->Prop}{s:Shared}{tg:Expr}{it:Addr}{u:Value}{o:Obj}{n:String}{vs:Array Value}{Q:Unit->Shared->Prop}(ho:s.heap.get? it=some o)(hc:o.cls=.type n)(hd:o.data=.fields vs)
 (hn:["enumerate","zip","dict_itemiterator","dict_reverseitemiterator","odict_iterator","itertools.zip_longest","itertools.pairwise"].contains n=false) (hQ:Q () s):wpAny M A (letOwnedTupleGo tg (.ref it) u) Q E s:=by
 unfold letOwnedTupleGo;cases tg<;>first
  |exact wpAny_pure hQ
  | (cases u<;>first
   |exact wpAny_pure hQ
   | (refine wpAny_bind (wpAny_load ho ?_)
      rw[hc,hd];show wpAny M A (if(["enumerate","zip","dict_itemiterator","dict_reverseitemiterator","odict_iterator","itertools.zip_longest","itertools.pairwise"].contains n&&vs[0]?==some (rawInt _))=true then _ else _) Q E s;rw[if_neg (by intro h;rw[hn,Bool.false_and]at h;cases h)];exact wpAny_pure hQ))
def Itl(K:PySem.W.Frag)(a:Addr):It:=
 ⟨λi H=>∃xs x,SqL K H a xs/\xs[i]?=some x,λi H x H'=>H'=H/\∀xs,SqL K H a xs->xs[i]?=some x,λi H=>∃xs,SqL K H a xs/\xs.length<=i⟩
def Itt(K:PySem.W.Frag)(a:Addr):It:=
 ⟨λi H=>∃xs x,SqT K H a xs/\xs[i]?=some x,λi H x H'=>H'=H/\∀xs,SqT K H a xs->xs[i]?=some x,λi H=>∃xs,SqT K H a xs/\xs.length<=i⟩
def Itr(lo:Int)(n:Nat):It:=⟨λi _=>i<n,λi H x H'=>H'=H/\x=.int (lo+i),λi _=>n<=i⟩
theorem Q9{P:Program}{w:World}{K:PySem.W.Frag}{tg:Expr}(a it:Addr):Turn P w K tg (Itl K a) [it] it (λi h=>h.IsListIter it a i) where
 mem:=by simp
 obj:=λi h st b hb=>by
  have e:b=it:=by simpa using hb
  subst e;obtain⟨o,e,c,d⟩:=st;exact⟨o,e,λv z=>by rw[d]at z;cases z⟩
 keep:=λi h h' st k=>st.at λo e=>k it (by simp) o e
 item:=by
  intro X hP hw hK hc i pins s σ H E I hf st hg;subst hP hw hK;obtain⟨xs,x,hq,hx⟩:=hg;obtain⟨its,rv,p,hz⟩:=I.list hq;obtain⟨u,hu,ru⟩:=rv.get hx;obtain⟨f0,f1,f2,f3,f4,f5⟩:=hf it (by simp);refine wpAny_pyNext_list_item st p.isList (x:=u) (by simpa using hu) λh' st' sb=>?_;have I1:Inv X pins σ H { s with heap:=h' }:=I.turned (t':=s.toks) (λb o hb e=>(sb.2 b hb).trans e) f0 f1 f3 f4 f5;obtain⟨o,e,c,d⟩:=id st';exact⟨u,rfl,PU (s:={ s with heap:=h' }) e c d (by decide) ⟨x,H,I1,ru,⟨rfl,λys hy=>by rw[I.list_inj hy hq];exact hx⟩,st',λb hb=>(hf b hb).1⟩⟩
 done:=by
  intro X hP hw hK hc i pins s σ H E I hf st hg;subst hP hw hK;obtain⟨xs,hq,hx⟩:=hg;obtain⟨its,rv,p,hz⟩:=I.list hq;obtain⟨f0,f1,f2,f3,f4,f5⟩:=hf it (by simp);have hl:=rv.length;exact wpAny_pyNext_list_end (I.ok.hd hc) st p.isList (by simp;omega) λh' eb=>⟨rfl,I.turned (t':=s.toks) (λb o hb e=>eb b o hb e) f0 f1 f3 f4 f5⟩
 self:=λ_ _ _ _ _ st h=>wpAny_pyIter_listiter st h
theorem Ob{P:Program}{w:World}{K:PySem.W.Frag}{tg:Expr}(a it:Addr):Turn P w K tg (Itt K a) [it] it (λi h=>h.IsTupleIter it a i) where
 mem:=by simp
 obj:=λi h st b hb=>by
  have e:b=it:=by simpa using hb
  subst e;obtain⟨o,e,c,d⟩:=st;exact⟨o,e,λv z=>by rw[d]at z;cases z⟩
 keep:=λi h h' st k=>st.at λo e=>k it (by simp) o e
 item:=by
  intro X hP hw hK hc i pins s σ H E I hf st hg;subst hP hw hK;obtain⟨xs,x,hq,hx⟩:=hg;obtain⟨its,rv,p,hz⟩:=I.tuple hq;obtain⟨u,hu,ru⟩:=rv.get hx;obtain⟨f0,f1,f2,f3,f4,f5⟩:=hf it (by simp);refine wpAny_pyNext_tuple_item st (show s.heap.IsTuple a its.toArray from p) (x:=u) (by simpa using hu) λh' st' sb=>?_;have I1:Inv X pins σ H { s with heap:=h' }:=I.turned (t':=s.toks) (λb o hb e=>(sb.2 b hb).trans e) f0 f1 f3 f4 f5;obtain⟨o,e,c,d⟩:=id st';exact⟨u,rfl,PU (s:={ s with heap:=h' }) e c d (by decide) ⟨x,H,I1,ru,⟨rfl,λys hy=>by rw[I.tuple_inj hy hq];exact hx⟩,st',λb hb=>(hf b hb).1⟩⟩
 done:=by
  intro X hP hw hK hc i pins s σ H E I hf st hg;subst hP hw hK;obtain⟨xs,hq,hx⟩:=hg;obtain⟨its,rv,p,hz⟩:=I.tuple hq;obtain⟨f0,f1,f2,f3,f4,f5⟩:=hf it (by simp);have hl:=rv.length;exact wpAny_pyNext_tuple_end (I.ok.hd hc) st (show s.heap.IsTuple a its.toArray from p) (by simp;omega) λh' eb=>⟨rfl,I.turned (t':=s.toks) (λb o hb e=>eb b o hb e) f0 f1 f3 f4 f5⟩
 self:=λ_ _ _ _ _ st h=>wpAny_pyIter_tupleiter st h
theorem Oc{P:Program}{w:World}{K:PySem.W.Frag}{tg:Expr}(it:Addr)(lo:Int)(n:Nat):Turn P w K tg (Itr lo n) [it] it (λi h=>IsRangeIter h it (lo+(i:Nat)*1) ((n:Int)-(i:Nat)) 1) where
 mem:=by simp
 obj:=λi h st b hb=>by
  have e:b=it:=by simpa using hb
  subst e;exact⟨_,st,λv z=>by
   have z':Data.fields _=Data.cell v:=z;cases z'⟩
 keep:=λi h h' st k=>k it (by simp) _ st
 item:=by
  intro X hP hw hK hc i pins s σ H E I hf st hg;subst hP hw hK;obtain⟨f0,f1,f2,f3,f4,f5⟩:=hf it (by simp);have W:=Walks.range (prog:=X.prog) (w:=X.w) (I.ok.hd hc) it lo 1 n;refine W.item i s _ _ hg st λv h' tk hv st' kk=>?_;obtain⟨t,rfl⟩:=hv;have I1:Inv X pins σ H { s with heap:=h',toks:=tk }:=I.turned (λb o hb e=>kk b o (by simpa using hb) e) f0 f1 f3 f4 f5;refine⟨_,rfl,PU (s:={ s with heap:=h',toks:=tk }) (n:="range_iterator") st' rfl rfl (by decide) ⟨.int (lo+i),H,I1,⟨t,?_⟩,⟨rfl,rfl⟩,st',λb hb=>(hf b hb).1⟩⟩;rw[Int.mul_one]
 done:=by
  intro X hP hw hK hc i pins s σ H E I hf st hg;subst hP hw hK;obtain⟨f0,f1,f2,f3,f4,f5⟩:=hf it (by simp);exact wpAny_pyNext_range_end (I.ok.hd hc) st (by have:n<=i:=hg;omega) λh' eb=>⟨rfl,I.turned (t':=s.toks) (λb o hb e=>eb b o hb e) f0 f1 f3 f4 f5⟩
 self:=λ_ _ _ _ _ st h=>wpAny_pyIter_rangeiter st h
section
variable{X:Cx}{tg:Expr}
def M6(K:PySem.W.Frag)(tl:TE):TI:=λσ H R=>tl σ H λx H1=>∃a,x=.ref a/\(∃xs,SqL K H1 a xs)/\R (Itl K a) H1
def PP(K:PySem.W.Frag)(tl:TE):TI:=λσ H R=>tl σ H λx H1=>∃a,x=.ref a/\(∃xs,SqT K H1 a xs)/\R (Itt K a) H1
theorem VJ{l:Expr}{tl:TE}(hl:PE X l tl):PI X tg l (M6 X.K tl):=by
 intro pins s σ H R I h;refine thn (hl pins s σ H _ I h) λv s1 ⟨x,H1,I1,r1,q1⟩=>?_;obtain⟨a,e,⟨xs,hq⟩,q⟩:=q1;subst e;cases r1;obtain⟨its,rv,p,hz⟩:=I1.list hq;refine wpAny_pyIter_list p.isList ?_;refine⟨s1.heap.objs.size,[s1.heap.objs.size],_,_,H1,rfl,I1.kept (t':=s1.toks) λb o e=>Heap.get?_push_of_some _ e,Q9 a _,⟨_,Heap.get?_push_size _ rfl,rfl,rfl⟩,λb hb=>?_,q⟩;have e:b=s1.heap.objs.size:=by simpa using hb
 subst e;exact I1.fpOk (le_refl _) (I1.hok.fresh (le_refl _))
theorem XC{l:Expr}{tl:TE}(hl:PE X l tl):PI X tg l (PP X.K tl):=by
 intro pins s σ H R I h;refine thn (hl pins s σ H _ I h) λv s1 ⟨x,H1,I1,r1,q1⟩=>?_;obtain⟨a,e,⟨xs,hq⟩,q⟩:=q1;subst e;cases r1;obtain⟨its,rv,p,hz⟩:=I1.tuple hq;refine wpAny_pyIter_tuple (show s1.heap.IsTuple a its.toArray from p) ?_;refine⟨s1.heap.objs.size,[s1.heap.objs.size],_,_,H1,rfl,I1.kept (t':=s1.toks) λb o e=>Heap.get?_push_of_some _ e,Ob a _,⟨_,Heap.get?_push_size _ rfl,rfl,rfl⟩,λb hb=>?_,q⟩;have e:b=s1.heap.objs.size:=by simpa using hb
 subst e;exact I1.fpOk (le_refl _) (I1.hok.fresh (le_refl _))
theorem Mp{pins:List (Addr×Obj)}{σ:St}{H:Hp}{s:Shared}{R:It->Hp->Prop}{E:Value->Shared->Prop}{lo hi:Int}{t u v:Tok}{tk:Nat}(I:Inv X pins σ H s)(h1:-(2^62)<=lo)(h2:lo<2^62)(h3:-(2^62)<=hi)(h4:hi<2^62)
 (q:R (Itr lo (hi-lo).toNat) H):wpAny (model X.prog X.w) X.A (pyIter (.ref s.heap.objs.size)) (PIE X pins σ tg R) E { s with heap:=s.heap.push { cls:=.type "range",data:=.fields #[.int lo t,.int hi u,.int 1 v] },toks:=tk }:=by
 refine wpAny_pyIter_range (IsRange.new ..) (small_one h1 h2 h3 h4) ?_;have I1:Inv X pins σ H { s with heap:=s.heap.push { cls:=.type "range",data:=.fields #[.int lo t,.int hi u,.int 1 v] },toks:=tk }:=I.kept λb o e=>Heap.get?_push_of_some _ e;refine⟨(s.heap.push { cls:=.type "range",data:=.fields #[.int lo t,.int hi u,.int 1 v] }).objs.size,[(s.heap.push { cls:=.type "range",data:=.fields #[.int lo t,.int hi u,.int 1 v] }).objs.size],_,_,H,rfl,
  I1.kept (t':=tk) λb o e=>Heap.get?_push_of_some _ e,Oc _ lo (hi-lo).toNat,?_,λb hb=>?_,q⟩
 .have e1:lo+((0:Nat):Int)*1=lo:=by simp
  have e2:(((hi-lo).toNat:Nat):Int)-((0:Nat):Int)=Builtin.Range.rangeSize lo hi 1:=by rw[rangeSize_one];split<;>omega
  show IsRangeIter _ _ (lo+((0:Nat):Int)*1) ((((hi-lo).toNat:Nat):Int)-((0:Nat):Int)) 1;rw[e1,e2];exact Heap.get?_push_size _ rfl
 .have e:b=(s.heap.push { cls:=.type "range",data:=.fields #[.int lo t,.int hi u,.int 1 v] }).objs.size:=by simpa using hb
  subst e;exact I1.fpOk (le_refl _) (I1.hok.fresh (le_refl _))
def PR(ta:TA):TI:=λσ H R=>ta σ H λvs H1=>∃j:Int,vs=[.int j]/\-(2^62)<=j/\j<2^62/\R (Itr 0 j.toNat) H1
def PQ(ta:TA):TI:=λσ H R=>ta σ H λvs H1=>∃i j:Int,vs=[.int i,.int j]/\(-(2^62)<=i/\i<2^62/\-(2^62)<=j/\j<2^62)/\R (Itr i (j-i).toNat) H1
theorem Qj{a:Expr}{ta:TA}{p pos:Pos}(hg:Gl X "range")(hm:X.mg "range"=none)(ha:PA X [a] ta)(hs:starEach [a] X.env=[(false,eval a X.env)]:=by rfl):PI X tg (.Call (.Name "range" p) [a] [] pos) (PR ta):=by
 intro pins s σ H R I h;refine Call_ (FA I hg hm boot_range (PyProof.Rows.callWith_type1 (thn (ha pos pins s σ H _ I h) λus s1 ⟨vs,H1,I1,r1,q1⟩=>?_) hs rfl));obtain⟨j,e,q1,q2,q⟩:=q1;subst e;cases r1 with
 |cons r rr=>
  cases rr;obtain⟨t,rfl⟩:=r;exact call_range_1 (Mp I1 (by omega) (by omega) q1 q2 (by simpa using q))
theorem Qi{a b:Expr}{ta:TA}{p pos:Pos}(hg:Gl X "range")(hm:X.mg "range"=none)(ha:PA X [a,b] ta)(hs:starEach [a,b] X.env=[(false,eval a X.env),(false,eval b X.env)]:=by rfl)(hs2:starEach [b] X.env=[(false,eval b X.env)]:=by rfl):
 PI X tg (.Call (.Name "range" p) [a,b] [] pos) (PQ ta):=by
 intro pins s σ H R I h;refine Call_ (FA I hg hm boot_range (PyProof.Rows.callWith_type1 (thn (ha pos pins s σ H _ I h) λus s1 ⟨vs,H1,I1,r1,q1⟩=>?_) (by rw[hs,hs2]) (by rw[hs2];rfl)));obtain⟨i,j,e,⟨q1,q2,q3,q4⟩,q⟩:=q1;subst e;cases r1 with
 |cons r rr=>
  cases rr with
  |cons r' rr=>
   cases rr;obtain⟨t,rfl⟩:=r;obtain⟨t',rfl⟩:=r';exact call_range_2 (Mp I1 q1 q2 q3 q4 q)
def SH(wi:TI)(g:TG)(tb:TS):TS:=λD σ H=>wi σ H λJ H1=>∃W:Nat->Nat->St->Hp->Prop,(∃m,W 0 m σ H1)/\∀i m σ H,W i m σ H ->
 (J.stop i H/\D.nx σ H)∨(J.go i H/\∃N:St->Hp->Prop,(∀σ' H',N σ' H'->∃m',m'<m/\W (i+1) m' σ' H')/\∀x H',J.yld i H x H'->g x σ H' λσ2 H2=>tb { D with nx:=N,ct:=N,bk:=D.nx } σ2 H2)
def F5(fp:List Addr)(h:Heap):List (Addr×Obj):=fp.filterMap λb=>(h.get? b).map λo=>(b,o)
theorem C2{fp:List Addr}{h:Heap}{b:Addr}{o:Obj}(hb:b∈fp)(e:h.get? b=some o):(b,o)∈F5 fp h:=mem_filterMap.mpr ⟨b,hb,by rw[e];rfl⟩
theorem Qq{fp:List Addr}{h:Heap}{p:Addr×Obj}(hp:p∈F5 fp h):p.1∈fp/\h.get? p.1=some p.2:=by
 obtain⟨b,hb,e⟩:=mem_filterMap.mp hp;cases q:h.get? b with
 |none=>rw[q]at e;cases e
 |some o=>
  rw[q]at e;have e':(b,o)=p:=Option.some.inj e;subst e';exact⟨hb,q⟩
theorem Inv.pinned{pins:List (Addr×Obj)}{σ:St}{H:Hp}{s:Shared}{fp:List Addr}(I:Inv X pins σ H s)(hf:∀b∈fp,FpOk X pins H b)(ho:∀b∈fp,∃o,s.heap.get? b=some o/\∀v,o.data≠.cell v):Inv X (pins++F5 fp s.heap) σ H s:=
 I.pins_of λp hp=>(mem_append.mp hp).elim (λz=>I.pin p (mem_append_right _ z)) λz=>by
  obtain⟨hb,e⟩:=Qq z;obtain⟨f0,f1,f2,_⟩:=hf p.1 hb;obtain⟨o,e',d⟩:=ho p.1 hb;rw[e]at e';cases e';exact⟨e,f0,f1,f2,d⟩
theorem Inv.unpinned{pins pl:List (Addr×Obj)}{σ:St}{H:Hp}{s:Shared}(I:Inv X (pins++pl) σ H s):Inv X pins σ H s:=I.pins_of λp hp=>I.pin p (mem_append_right _ (mem_append_left _ hp))
theorem X9{iter:Expr}{body:List Stmt}{wi:TI}{g:TG}{tb:TS}{pos:Pos}(hp:PassesOwn (model X.prog X.w) X.A X.env X.xe)(hc:X.calm=true)(hi:PI X tg iter wi)(hg:PG X tg g)(hb:PSs X body tb)
 (hs:∀x,foldedSetIterable iter X.env x=pure x:=by intro _;rfl):PS X (.For tg iter body [] pos) (SH wi g tb):=by
 intro pins s σ H D I h;refine wpAny_For (thn (hi pins s σ H _ I h) λv s1 h1=>thn h1 λitv s2 h2=>?_) hs;obtain⟨it,fp,tn,J,H2,e,I2,T,st2,f2,W,⟨m0,w0⟩,turn⟩:=h2;subst e
 -- what stays true of the iterator's objects through the loop
 have stat:∀{H':Hp},(∀b∈fp,H' b=none)->∀b∈fp,FpOk X pins H' b:=λhn b hb=>⟨hn b hb,(f2 b hb).2⟩
 refine codeAny_forLoop_any (λn s'=>∃i σ' H',Inv X pins σ' H' s'/\tn i s'.heap/\(∀b∈fp,H' b=none)/\W i n σ' H') ?_ m0 ⟨0,σ,H2,I2,st2,λb hb=>(f2 b hb).1,w0⟩;rintro n s3 ⟨i,σ3,H3,I3,st3,fr3,w3⟩;rcases turn i n σ3 H3 w3 with⟨stop,qn⟩|⟨go,N,hN,step⟩
 .refine wpAny_passesOwn hp (thn (T.done X rfl rfl rfl hc i pins s3 σ3 H3 X.xe I3 (stat fr3) st3 stop) λr s4 ⟨hr,I4⟩=>?_);subst hr;exact wpAny_execs_nil ⟨σ3,H3,I4,qn⟩
 .refine wpAny_passesOwn hp (thn (T.item X rfl rfl rfl hc i pins s3 σ3 H3 X.xe I3 (stat fr3) st3 go) λr s4 ⟨u,hr,h4⟩=>?_);subst hr;refine wpAny_passesOwn hp (thn h4 λ_ s5 ⟨x,H5,I5,r5,y5,st5,fr5⟩=>?_);have I5':=I5.pinned (stat fr5) (T.obj _ _ st5);refine wpAny_passesOwn hp (thn (hg _ s5 σ3 H5 x u _ I5' r5 (step x H5 y5)) λ_ s6 ⟨σ6,H6,I6,q6⟩=>?_);refine wpAny_passesOwn hp (thn (hb _ s6 σ6 H6 _ I6 q6) λf s7 q7=>?_);have again:∀{σ7:St} {H7:Hp},Inv X (pins++F5 fp s5.heap) σ7 H7 s7->N σ7 H7->∃m,m<n/\∃i σ' H',Inv X pins σ' H' s7/\tn i s7.heap/\(∀b∈fp,H' b=none)/\W i m σ' H':=λ{σ7 H7} I7 n7=>by
   obtain⟨m',hm,w7⟩:=hN σ7 H7 n7;refine⟨m',hm,i+1,σ7,H7,I7.unpinned,T.keep _ _ _ st5 λb hb o e=>(I7.pin (b,o) (mem_append_right _ (mem_append_right _ (C2 hb e)))).1,λb hb=>?_,w7⟩;obtain⟨o,e,d⟩:=T.obj _ _ st5 b hb;exact(I7.pin (b,o) (mem_append_right _ (mem_append_right _ (C2 hb e)))).2.1
  cases f with
  |next=>obtain⟨σ7,H7,I7,n7⟩:=q7;exact again I7 n7
  |cont=>obtain⟨σ7,H7,I7,n7⟩:=q7;exact again I7 n7
  |brk=>obtain⟨σ7,H7,I7,q7⟩:=q7;exact⟨σ7,H7,I7.unpinned,q7⟩
  |ret v=>obtain⟨x7,σ7,H7,I7,r7,q7⟩:=q7;exact⟨x7,σ7,H7,I7.unpinned,r7,q7⟩
end
abbrev R2:=V->V->Hp->VK->Prop
def OpR(X:Cx)(f:Value->Value->Sem Value)(r:R2):Prop:=
 ∀(pins:List (Addr×Obj)) (s:Shared) (σ:St) (H:Hp) (x y:V) (v u:Value) (Q:VK),Inv X pins σ H s->RelV x v->RelV y u->r x y H Q ->
   wpAny (model X.prog X.w) X.A (f v u) (EP X pins σ Q) X.xe s
def UnR(X:Cx)(f:Value->Sem Value)(r:V->Hp->VK->Prop):Prop:=
 ∀(pins:List (Addr×Obj)) (s:Shared) (σ:St) (H:Hp) (x:V) (v:Value) (Q:VK),Inv X pins σ H s->RelV x v->r x H Q ->
   wpAny (model X.prog X.w) X.A (f v) (EP X pins σ Q) X.xe s
def CallR(X:Cx)(f:Value)(r:List V->Hp->VK->Prop):Prop:=
 ∀(pins:List (Addr×Obj)) (s:Shared) (σ:St) (H:Hp) (xs:List V) (us:List Value) (Q:VK),Inv X pins σ H s->Vals xs us->r xs H Q ->
   wpAny (model X.prog X.w) X.A (call f us) (EP X pins σ Q) X.xe s
def ZR(X:Cx)(r:V->Hp->(Bool->Hp->Prop)->Prop):Prop:=
 ∀(pins:List (Addr×Obj)) (s:Shared) (σ:St) (H:Hp) (x:V) (v:Value) (Q:Bool->Hp->Prop),Inv X pins σ H s->RelV x v->r x H Q ->
   wpAny (model X.prog X.w) X.A (truthy v) (TP X pins σ Q) X.xe s
def tOp(r:R2)(ta tb:TE):TE:=λσ H Q=>ta σ H λx H1=>tb σ H1 λy H2=>r x y H2 Q
def tUn(r:V->Hp->VK->Prop)(ta:TE):TE:=λσ H Q=>ta σ H λx H1=>r x H1 Q
def rI(C:Int->Int->Prop)(g:Int->Int->V):R2:=λx y H Q=>∃i j,x=.int i/\y=.int j/\C i j/\Q (g i j) H
def rI0(g:Int->Int->V):R2:=λx y H Q=>∃i j,x=.int i/\y=.int j/\Q (g i j) H
def rU(g:Int->V):V->Hp->VK->Prop:=λx H Q=>∃i,x=.int i/\Q (g i) H
section
variable{X:Cx}{a b c:Expr}{ta tb tc:TE}{pos:Pos}
theorem Tg(ha:PE X a ta)(hb:PE X b tb){pins:List (Addr×Obj)}{s:Shared}{σ:St}{H:Hp}{R:V->V->Hp->Prop}(I:Inv X pins σ H s)
 (h:ta σ H λx H1=>tb σ H1 λy H2=>R x y H2) {Q:Value->Shared->Prop} {f:Value->Value->Sem Value}
 (hf:∀v u s2 x y H2,Inv X pins σ H2 s2->RelV x v->RelV y u->R x y H2->wpAny (model X.prog X.w) X.A (f v u) Q X.xe s2):
 wpAny (model X.prog X.w) X.A (eval a X.env) (λv s₁=>wpAny (model X.prog X.w) X.A (eval b X.env) (λu s₂=>wpAny (model X.prog X.w) X.A (f v u) Q X.xe s₂) X.xe s₁) X.xe s:=by
 refine thn (ha pins s σ H _ I h) λv s1 ⟨x,H1,I1,r1,q1⟩=>?_;refine thn (hb pins s1 σ H1 _ I1 q1) λu s2 ⟨y,H2,I2,r2,q2⟩=>?_;exact hf v u s2 x y H2 I2 r1 r2 q2
theorem U1{op:Operator}{r:R2}(ho:OpR X (binaryOp op) r)(ha:PE X a ta)(hb:PE X b tb):PE X (.BinOp a op b pos) (tOp r ta tb):=by
 intro pins s σ H Q I h;exact wpAny_BinOp (Tg ha hb I h λv u s2 x y H2 I2 rx ry q=>ho pins s2 σ H2 x y v u Q I2 rx ry q)
theorem YV{op:UnaryOp}{r:V->Hp->VK->Prop}(ho:UnR X (unaryOp op) r)(ha:PE X a ta):PE X (.UnaryOp op a pos) (tUn r ta):=by
 intro pins s σ H Q I h;exact UnaryOp_ (thn (ha pins s σ H _ I h) λv s1 ⟨x,H1,I1,r1,q1⟩=>ho pins s1 σ H1 x v Q I1 r1 q1)
theorem opI{f:Value->Value->Sem Value}{C:Int->Int->Prop}{g:Int->Int->Int}
 (rule:∀(i j:Int) (t u:Tok) (s:Shared) (Q:Value->Shared->Prop) (E:Value->Shared->Prop),C i j->Q (.int (g i j) s.toks) { s with toks:=s.toks+1 }->wpAny (model X.prog X.w) X.A (f (.int i t) (.int j u)) Q E s):
 OpR X f (rI C λi j=>.int (g i j)):=by
 intro pins s σ H x y v u Q I rx ry h;obtain⟨i,j,rfl,rfl,hc,q⟩:=h;obtain⟨t,rfl⟩:=rx;obtain⟨t',rfl⟩:=ry;exact rule i j t t' s _ _ hc ⟨.int (g i j),H,I.tok _,⟨_,rfl⟩,q⟩
theorem XX{f:Value->Value->Sem Value}{g:Int->Int->Int}
 (rule:∀(i j:Int) (t u:Tok) (s:Shared) (Q:Value->Shared->Prop) (E:Value->Shared->Prop),Q (.int (g i j) s.toks) { s with toks:=s.toks+1 }->wpAny (model X.prog X.w) X.A (f (.int i t) (.int j u)) Q E s):
 OpR X f (rI0 λi j=>.int (g i j)):=by
 intro pins s σ H x y v u Q I rx ry h;obtain⟨i,j,rfl,rfl,q⟩:=h;obtain⟨t,rfl⟩:=rx;obtain⟨t',rfl⟩:=ry;exact rule i j t t' s _ _ ⟨.int (g i j),H,I.tok _,⟨_,rfl⟩,q⟩
theorem P9{f:Value->Value->Sem Value}{g:Int->Int->Bool}
 (rule:∀(i j:Int) (t u:Tok) (s:Shared) (Q:Value->Shared->Prop) (E:Value->Shared->Prop),Q (.bool (g i j)) s->wpAny (model X.prog X.w) X.A (f (.int i t) (.int j u)) Q E s):
 OpR X f (rI0 λi j=>.bl (g i j)):=by
 intro pins s σ H x y v u Q I rx ry h;obtain⟨i,j,rfl,rfl,q⟩:=h;obtain⟨t,rfl⟩:=rx;obtain⟨t',rfl⟩:=ry;exact rule i j t t' s _ _ ⟨.bl (g i j),H,I,rfl,q⟩
def YB(i j:Int):Prop:=0<j/\j<1073741824
def YA(i j:Int):Prop:=0<=j/\j<=1000000/\i.natAbs<2^64
def CMul(i j:Int):Prop:=(-(2^64)<i/\i<2^64)∨(-(2^64)<j/\j<2^64)
theorem CMul.ok{i j:Int}(h:CMul i j):IntMulOk i j:=by
 rcases h with⟨h1,h2⟩|⟨h1,h2⟩
 .exact .of_left (intBits_le_64 h1 h2)
 .exact .of_right (intBits_le_64 h1 h2)
theorem Ah:OpR X (binaryOp .Add) (rI0 λi j=>.int (i+j)):=XX λ_ _ _ _ _ _ _ q=>add_int q
theorem Ds:OpR X (binaryOp .Sub) (rI0 λi j=>.int (i-j)):=XX λ_ _ _ _ _ _ _ q=>sub_int q
theorem F7:OpR X (binaryOp .Mult) (rI CMul λi j=>.int (i*j)):=opI λ_ _ _ _ _ _ _ hc q=>mul_int q hc.ok
theorem Kq:OpR X (binaryOp .FloorDiv) (rI YB λi j=>.int (i/j)):=opI λi j _ _ _ _ _ hc q=>by
 have h1:(0:Int)<j:=hc.1;have h2:j<1073741824:=hc.2;exact floordiv_int (by omega) (by rw[Int.fdiv_eq_ediv_of_nonneg i (by omega)];exact q) (.inl (PyProof.noPylong_small (by omega)))
theorem EV:OpR X (binaryOp .Mod) (rI (λ_ j=>0<j) λi j=>.int (i%j)):=opI λi j _ _ _ _ _ hc q=>by
 have h1:(0:Int)<j:=hc;exact mod_int' (by omega) (by rw[Int.fmod_eq_emod_of_nonneg i (by omega)];exact q)
theorem XT:OpR X (binaryOp .Pow) (rI YA λi j=>.int (i^j.toNat)):=opI λ_ _ _ _ _ _ _ hc q=>pow_int_small hc.1 hc.2.1 hc.2.2 q
theorem unI{f:Value->Sem Value}{g:Int->Int}
 (rule:∀(i:Int) (t:Tok) (s:Shared) (Q:Value->Shared->Prop) (E:Value->Shared->Prop),Q (.int (g i) s.toks) { s with toks:=s.toks+1 }->wpAny (model X.prog X.w) X.A (f (.int i t)) Q E s):
 UnR X f (rU λi=>.int (g i)):=by
 intro pins s σ H x v Q I rx h;obtain⟨i,rfl,q⟩:=h;obtain⟨t,rfl⟩:=rx;exact rule i t s _ _ ⟨.int (g i),H,I.tok _,⟨_,rfl⟩,q⟩
theorem WH:UnR X (unaryOp .USub) (rU λi=>.int (-i)):=unI λ_ _ _ _ _ q=>neg_int q
end
def Ma:V->V->Bool
 |.non,.non=>true|.non,.int _=>true|.int _,.non=>true|.non,.bl _=>true|.bl _,.non=>true|.non,.str _=>true|.str _,.non=>true
 |.int _,.int _=>true|.bl _,.bl _=>true|.str _,.str _=>true|.byt _,.byt _=>true
 |.int _,.str _=>true|.str _,.int _=>true|.bl _,.str _=>true|.str _,.bl _=>true
 |_,_=>false
def rEq:R2:=λx y H Q=>Ma x y=true/\Q (.bl (decide (x=y))) H
def rNe:R2:=λx y H Q=>Ma x y=true/\Q (.bl (!decide (x=y))) H
theorem OP{i j:Int}:decide (V.int i=V.int j)=(i==j):=by
 rw[Bool.eq_iff_iff];simp
theorem Re{i j:Bool}:decide (V.bl i=V.bl j)=(i==j):=by
 rw[Bool.eq_iff_iff];simp
theorem OO{i j:Str}:decide (V.str i=V.str j)=(i==j):=by
 rw[Bool.eq_iff_iff];simp
theorem OQ{i j:Array UInt8}:decide (V.byt i=V.byt j)=(i.toList==j.toList):=by
 rw[Bool.eq_iff_iff];cases i;cases j;simp
section
variable{X:Cx}{a b c:Expr}{ta tb tc:TE}{pos:Pos}
theorem B4{pins:List (Addr×Obj)}{σ:St}{H:Hp}{s:Shared}{Q:VK}{k k':Bool}(I:Inv X pins σ H s)(q:Q (.bl k) H)(e:k=k'):EP X pins σ Q (.bool k') s:=by
 subst e;exact⟨.bl k,H,I,rfl,q⟩
theorem Bt:OpR X (compareOp .Eq) rEq:=by
 intro pins s σ H x y v u Q I rx ry h;obtain⟨hs,q⟩:=h;cases x with
 |non=>
  cases rx;cases y with
  |non=>cases ry;exact PySem.EqNone.eq_none_none (B4 I q (by simp))
  |bl j=>cases ry;exact PySem.EqNone.eq_none_bool (B4 I q (by simp))
  |int j=>obtain⟨t',rfl⟩:=ry;exact PySem.EqNone.eq_none_int (B4 I q (by simp))
  |str j=>obtain⟨t',rfl⟩:=ry;exact PySem.EqNone.eq_none_str (B4 I q (by simp))
  |_=>exact absurd (show false=true from hs) Bool.false_ne_true
 |bl i=>
  cases rx;cases y with
  |non=>cases ry;exact PySem.EqNone.eq_bool_none (B4 I q (by simp))
  |bl j=>cases ry;exact eq_bool (B4 I q Re)
  |str j=>obtain⟨t',rfl⟩:=ry;exact PySem.EqMixed.eq_bool_str (B4 I q (by simp))
  |_=>exact absurd (show false=true from hs) Bool.false_ne_true
 |int i=>
  obtain⟨t,rfl⟩:=rx;cases y with
  |non=>cases ry;exact PySem.EqNone.eq_int_none (B4 I q (by simp))
  |int j=>obtain⟨t',rfl⟩:=ry;exact eq_int (B4 I q OP)
  |str j=>obtain⟨t',rfl⟩:=ry;exact PySem.EqMixed.eq_int_str (B4 I q (by simp))
  |_=>exact absurd (show false=true from hs) Bool.false_ne_true
 |str i=>
  obtain⟨t,rfl⟩:=rx;cases y with
  |non=>cases ry;exact PySem.EqNone.eq_str_none (B4 I q (by simp))
  |bl j=>cases ry;exact PySem.EqMixed.eq_str_bool (B4 I q (by simp))
  |int j=>obtain⟨t',rfl⟩:=ry;exact PySem.EqMixed.eq_str_int (B4 I q (by simp))
  |str j=>obtain⟨t',rfl⟩:=ry;exact eq_str (B4 I q OO)
  |_=>exact absurd (show false=true from hs) Bool.false_ne_true
 |byt i=>
  obtain⟨t,rfl⟩:=rx;cases y with
  |byt j=>obtain⟨t',rfl⟩:=ry;exact PySem.W.eq_bytes (B4 I q OQ)
  |_=>exact absurd (show false=true from hs) Bool.false_ne_true
 |_=>cases y<;>exact absurd (show false=true from hs) Bool.false_ne_true
theorem K0:OpR X (compareOp .NotEq) rNe:=by
 intro pins s σ H x y v u Q I rx ry h;obtain⟨hs,q⟩:=h;cases x with
 |non=>
  cases rx;cases y with
  |non=>cases ry;exact PySem.EqNone.ne_none_none (B4 I q (by simp))
  |bl j=>cases ry;exact PySem.EqNone.ne_none_bool (B4 I q (by simp))
  |int j=>obtain⟨t',rfl⟩:=ry;exact PySem.EqNone.ne_none_int (B4 I q (by simp))
  |str j=>obtain⟨t',rfl⟩:=ry;exact PySem.EqNone.ne_none_str (B4 I q (by simp))
  |_=>exact absurd (show false=true from hs) Bool.false_ne_true
 |bl i=>
  cases rx;cases y with
  |non=>cases ry;exact PySem.EqNone.ne_bool_none (B4 I q (by simp))
  |bl j=>cases ry;exact ne_bool (B4 I q (congrArg not Re))
  |str j=>obtain⟨t',rfl⟩:=ry;exact PySem.EqMixed.ne_bool_str (B4 I q (by simp))
  |_=>exact absurd (show false=true from hs) Bool.false_ne_true
 |int i=>
  obtain⟨t,rfl⟩:=rx;cases y with
  |non=>cases ry;exact PySem.EqNone.ne_int_none (B4 I q (by simp))
  |int j=>obtain⟨t',rfl⟩:=ry;exact ne_int (B4 I q (congrArg not OP))
  |str j=>obtain⟨t',rfl⟩:=ry;exact PySem.EqMixed.ne_int_str (B4 I q (by simp))
  |_=>exact absurd (show false=true from hs) Bool.false_ne_true
 |str i=>
  obtain⟨t,rfl⟩:=rx;cases y with
  |non=>cases ry;exact PySem.EqNone.ne_str_none (B4 I q (by simp))
  |bl j=>cases ry;exact PySem.EqMixed.ne_str_bool (B4 I q (by simp))
  |int j=>obtain⟨t',rfl⟩:=ry;exact PySem.EqMixed.ne_str_int (B4 I q (by simp))
  |str j=>obtain⟨t',rfl⟩:=ry;exact ne_str (B4 I q (congrArg not OO))
  |_=>exact absurd (show false=true from hs) Bool.false_ne_true
 |byt i=>
  obtain⟨t,rfl⟩:=rx;cases y with
  |byt j=>obtain⟨t',rfl⟩:=ry;exact PySem.W.ne_bytes (B4 I q (congrArg not OQ))
  |_=>exact absurd (show false=true from hs) Bool.false_ne_true
 |_=>cases y<;>exact absurd (show false=true from hs) Bool.false_ne_true
theorem K1:OpR X (compareOp .Lt) (rI0 λi j=>.bl (decide (i<j))):=P9 λ_ _ _ _ _ _ _ q=>lt_int q
theorem IW:OpR X (compareOp .LtE) (rI0 λi j=>.bl (decide (i<=j))):=P9 λ_ _ _ _ _ _ _ q=>le_int q
theorem K2:OpR X (compareOp .Gt) (rI0 λi j=>.bl (decide (j<i))):=P9 λ_ _ _ _ _ _ _ q=>gt_int q
theorem U4:OpR X (compareOp .GtE) (rI0 λi j=>.bl (decide (j<=i))):=P9 λ_ _ _ _ _ _ _ q=>ge_int q
theorem OpR.or{f:Value->Value->Sem Value}{r r':R2}(h:OpR X f r)(h':OpR X f r'):OpR X f (λx y H Q=>r x y H Q∨r' x y H Q):=by
 intro pins s σ H x y v u Q I rx ry q;rcases q with q|q
 .exact h pins s σ H x y v u Q I rx ry q
 .exact h' pins s σ H x y v u Q I rx ry q
theorem GL(b:Expr){op:CmpOp}(h:op≠.In:=by decide)(h2:op≠.NotIn:=by decide):behindInMarks op b=false:=by
 have e1:(op==CmpOp.In)=false:=by cases op<;>first|rfl|exact absurd rfl h
 have e2:(op==CmpOp.NotIn)=false:=by cases op<;>first|rfl|exact absurd rfl h2
 cases b<;>simp[behindInMarks,e1,e2]
theorem O4{op:CmpOp}{r:R2}(ho:OpR X (compareOp op) r)(ha:PE X a ta)(hb:PE X b tb)(hm:behindInMarks op b=false):PE X (.Compare a [op] [b] pos) (tOp r ta tb):=by
 intro pins s σ H Q I h;exact wpAny_Compare1 (Tg ha hb I h λv u s2 x y H2 I2 rx ry q=>ho pins s2 σ H2 x y v u Q I2 rx ry q) hm
def IJ(t:TE):TT:=λσ H Q=>t σ H λx H'=>∃k,x=.bl k/\Q k H'
theorem IV{op:CmpOp}{r:R2}(ho:OpR X (compareOp op) r)(ha:PE X a ta)(hb:PE X b tb)(hm:behindInMarks op b=false):PT X (.Compare a [op] [b] pos) (IJ (tOp r ta tb)):=by
 intro pins s σ H Q I h;refine wpAny_isTrue_Compare1 (thn (ha pins s σ H _ I h) λv s1 ⟨x,H1,I1,r1,q1⟩=>thn (hb pins s1 σ H1 _ I1 q1) λu s2 ⟨y,H2,I2,r2,q2⟩=>
  thn (ho pins s2 σ H2 x y v u _ I2 r1 r2 q2) λc s3 ⟨z,H3,I3,r3,k,e,q3⟩=>?_) hm
 subst e;cases r3;exact wpAny_truthy_bool ⟨H3,I3,q3⟩
def NT(K:PySem.W.Frag)(x:V)(H:Hp)(k:Bool):Prop:=
 match x with
 |.non=>k=false
 |.bl b=>k=b
 |.int i=>k=(i != 0)
 |.str y=>y.length<=sizeLine/\k=((y.length:Int) != 0)
 |.byt y=>y.size<=sizeLine/\k=((y.size:Int) != 0)
 |.ref p=>(∃xs,SqL K H p xs/\k=!xs.isEmpty)∨(∃xs,SqT K H p xs/\k=!xs.isEmpty)∨∃kvs,H p=some (.dK kvs)/\k=!kvs.isEmpty
 |_=>False
theorem PL{κ:Type}{kvs:List (κ×V)}{vs:List (κ×Value)}(r:KV kvs vs):(!vs.isEmpty)=!kvs.isEmpty:=by
 cases r<;>rfl
theorem KF{xs:List V}{its:List Value}(r:Vals xs its):(!its.toArray.isEmpty)=!xs.isEmpty:=by
 cases r<;>simp
theorem GQ:(sizeLine:Nat)<2^63:=by rw[sizeLine_eq];decide
theorem WK:ZR X (λx H Q=>∃k,NT X.K x H k/\Q k H):=by
 intro pins s σ H x v Q I rx h;obtain⟨k,e,q⟩:=h;have hl:=GQ;have hs:sizeLine=16777216:=sizeLine_eq;cases x with
 |non=>
  cases rx;have e':k=false:=e;subst e';exact truthy_none ⟨H,I,q⟩
 |bl b=>
  cases rx;have e':k=b:=e;subst e';exact wpAny_truthy_bool ⟨H,I,q⟩
 |int i=>
  obtain⟨t,rfl⟩:=rx;have e':k=(i != 0):=e;subst e';exact PySem.P.truthy_int ⟨H,I,q⟩
 |str y=>
  obtain⟨t,rfl⟩:=rx;obtain⟨hy,e'⟩:y.length<=sizeLine/\k=((y.length:Int) != 0):=e;subst e';exact PySem.P.truthy_str (by omega) ⟨H,I.tok _,q⟩
 |byt y=>
  obtain⟨t,rfl⟩:=rx;obtain⟨hy,e'⟩:y.size<=sizeLine/\k=((y.size:Int) != 0):=e;subst e';exact PySem.W.truthy_bytes (by omega) ⟨H,I.tok _,q⟩
 |ref p=>
  cases rx;have e':(∃xs,SqL X.K H p xs/\k=!xs.isEmpty)∨(∃xs,SqT X.K H p xs/\k=!xs.isEmpty)∨∃kvs,H p=some (.dK kvs)/\k=!kvs.isEmpty:=e;rcases e' with⟨xs,hx,e'⟩|⟨xs,hx,e'⟩|⟨kvs,hx,e'⟩
  .subst e';obtain⟨its,r,pl,hz⟩:=I.list hx;have hlen:=r.length;exact wpAny_truthy_list pl.isList (by simp only[size_toArray];omega) ⟨H,I.tok _,by rw[KF r];exact q⟩
  .subst e';obtain⟨its,r,pl,hz⟩:=I.tuple hx;have hlen:=r.length;exact truthy_tuple pl (by simp only[size_toArray];omega) ⟨H,I.tok _,by rw[KF r];exact q⟩
  .subst e';obtain⟨hz,hS,vs,r,m⟩:kvs.length<=sizeLine/\(p==sysModules)=false/\∃vs,KV kvs vs/\s.heap.DictOf (Bq X.prog X.w) p vs:=I.hok p _ hx;have hlen:kvs.length=vs.length:=Paired.length r;exact wpAny_truthy_dict hS m (by omega) ⟨H,I.tok _,by rw[PL r];exact q⟩
 |_=>exact(show False from e).elim
theorem So(ha:PE X a ta)(he:∀whole,isTrue a X.env whole=(do let v <- whole;standAt a.pos;holding [v] (truthy v))):
 PT X a (λσ H Q=>ta σ H λx H'=>∃k,NT X.K x H' k/\Q k H'):=by
 intro pins s σ H Q I h;exact isTrue_plain (thn (ha pins s σ H _ I h) λv s1 ⟨x,H1,I1,r1,q1⟩=>WK pins s1 σ H1 x v Q I1 r1 q1) (he _)
theorem Co{x:V}{us:List Value}(r:Vals [x] us):∃u,us=[u]/\RelV x u:=by
 cases r with
 |cons r1 r2=>cases r2;exact⟨_,rfl,r1⟩
theorem Lv{x y:V}{us:List Value}(r:Vals [x,y] us):∃u w',us=[u,w']/\RelV x u/\RelV y w':=by
 cases r with
 |cons r1 r2=>
  cases r2 with
  |cons r3 r4=>cases r4;exact⟨_,_,rfl,r1,r3⟩
theorem Rp(hc:X.calm=true):CallR X (.builtin "max") (λxs H Q=>∃i j,xs=[.int i,.int j]/\Q (.int (if j>i then j else i)) H):=by
 intro pins s σ H xs us Q I r h;obtain⟨i,j,rfl,q⟩:=h;obtain⟨u,w',rfl,⟨t,rfl⟩,⟨t',rfl⟩⟩:=Lv r;refine max_two_ints (I.ok.hd hc) λh' tk k=>⟨_,H,I.kept k,?_,q⟩
 by_cases hj:j>i
 .rw[if_pos hj,if_pos hj];exact⟨_,rfl⟩
 .rw[if_neg hj,if_neg hj];exact⟨_,rfl⟩
theorem Ro(hc:X.calm=true):CallR X (.builtin "min") (λxs H Q=>∃i j,xs=[.int i,.int j]/\Q (.int (if j<i then j else i)) H):=by
 intro pins s σ H xs us Q I r h;obtain⟨i,j,rfl,q⟩:=h;obtain⟨u,w',rfl,⟨t,rfl⟩,⟨t',rfl⟩⟩:=Lv r;refine min_two_ints (I.ok.hd hc) λh' tk k=>⟨_,H,I.kept k,?_,q⟩
 by_cases hj:j<i
 .rw[if_pos hj,if_pos hj];exact⟨_,rfl⟩
 .rw[if_neg hj,if_neg hj];exact⟨_,rfl⟩
end
theorem RelO.some_of{v:V}{o:Option Value}(r:RelO (some v) o):∃u,o=some u/\RelV v u:=by
 cases o with
 |none=>exact(show False from r).elim
 |some u=>exact⟨u,rfl,r⟩
structure Room(k:Nat)(A:Around):Prop where
 hd:A.handled=none
 dp:A.depth+3*k+5<recursionLimit
 un:A.units+16*k+200<cLine
 gd:A.guards=some []
theorem Room.mono{j k:Nat}{A:Around}(r:Room k A)(h:j<=k):Room j A:=⟨r.hd,by have:=r.dp;omega,by have:=r.un;omega,r.gd⟩
theorem Room.deeper{k:Nat}{A:Around}(r:Room (k+1) A)(env:Env):Room k (A.deeper env):=
 ⟨r.hd,by have:=r.dp;show A.depth+1+3*k+5<_;omega,by have:=r.un;show A.units+3+16*k+200<_;omega,by first|exact r.gd|(simpa [Around.deeper,Around.under,Code.guards,Code.isGuard,pushGuards]using r.gd)⟩
theorem Room.in1{k:Nat}{A:Around}(r:Room (k+1) A):Room k A.in1:=
 ⟨r.hd,by have:=r.dp;show A.depth+3*k+5<_;omega,by have:=r.un;show A.units+1+16*k+200<_;omega,r.gd⟩
theorem Room.depth{k:Nat}{A:Around}(r:Room k A):A.depth<recursionLimit:=by have:=r.dp;omega
theorem Room.units{k:Nat}{A:Around}(r:Room k A):A.units+64<cLine:=by have:=r.un;omega
def E6:TA:=λ_ H Q=>Q [] H
def CP(ta:TE)(tr:TA):TA:=λσ H Q=>ta σ H λx H1=>tr σ H1 λxs H2=>Q (x::xs) H2
section
variable{X:Cx}{e:Expr}{es:List Expr}{te:TE}{t:TA}{pos:Pos}
theorem F6:PA X [] E6:=λ_ _ _ _ H Q I h=>Calls.spliced_nil ⟨[],H,I,.nil,h⟩
theorem Dd(ha:PE X e te)(hr:PA X es t)(hs:starEach (e::es) X.env=(false,eval e X.env)::starEach es X.env:=by rfl):PA X (e::es) (CP te t):=by
 intro pos pins s σ H Q I h;rw[hs];show wpAny _ _ (spliced ((false,eval e X.env)::backTo pos (starEach es X.env))) _ _ s;refine Calls.spliced_cons (thn (ha pins s σ H _ I h) λu s1 ⟨x,H1,I1,r1,q1⟩=>?_);exact thn (hr pos pins s1 σ H1 _ I1 q1) λus s2 ⟨xs,H2,I2,r2,q2⟩=>⟨x::xs,H2,I2,.cons r1 r2,q2⟩
def S9(t:TA):TE:=λσ H Q=>t σ H λxs H1=>xs.length<=sizeLine/\∀p,H1 p=none->Q (.ref p) (upd H1 p (.tup xs))
def SE(t:TA):TE:=λσ H Q=>t σ H λxs H1=>xs.length<=sizeLine/\∀p,H1 p=none->Q (.ref p) (upd H1 p (.lst xs))
theorem XI{x1}(h:PA X es t):PE X (.Tuple es x1 pos) (S9 t):=by
 intro pins s σ H Q I hq;refine wpAny_Tuple_spliced (thn (h pos pins s σ H _ I hq) λus s1 ⟨xs,H1,I1,r,z,q⟩=>⟨by rw[<- r.length];exact z,?_⟩);have hf:H1 s1.heap.objs.size=none:=I1.hok.fresh (le_refl _);refine⟨.ref s1.heap.objs.size,upd H1 s1.heap.objs.size (.tup xs),I1.laid (t':=s1.toks) (λb u e=>Heap.get?_push_of_some _ e) (le_refl _) ?_,rfl,q _ hf⟩;exact⟨z,us,r,⟨_,Heap.get?_push_size _ rfl,rfl,⟨_,rfl⟩,rfl⟩⟩
theorem XO(h:PA X es t):PE X (.List es pos) (SE t):=by
 intro pins s σ H Q I hq;refine wpAny_List_spliced (thn (h pos pins s σ H _ I hq) λus s1 ⟨xs,H1,I1,r,z,q⟩=>⟨by rw[<- r.length];exact z,?_⟩);have hf:H1 s1.heap.objs.size=none:=I1.hok.fresh (le_refl _);refine⟨.ref s1.heap.objs.size,upd H1 s1.heap.objs.size (.lst xs),I1.laid (t':=s1.toks) (λb u e=>Heap.get?_push_of_some _ e) (le_refl _) ?_,rfl,q _ hf⟩;exact⟨z,us,0,r,Heap.get?_push_size _ rfl⟩
end
abbrev Sp:=List V->Hp->VK->XK->Prop
abbrev CXT:=List Env->Hp->Shared->XK->Value->Shared->Prop
structure Env0(P:Program)(w:World)(K:PySem.W.Frag)(mg:Str->Option Value)(base:Heap)(A:Around)(outer:List Env)(s:Shared)(H:Hp):Prop where
 frames:A.frames=some outer
 mod:Mod K mg base
 bs:∀b o,base.get? b=some o->s.heap.get? b=some o/\H b=none
 bsz:base.objs.size<=s.heap.objs.size
 funs:s.heap.FunFrames base outer
 frf:∀b∈frs outer,H b=none
 hok:HOk P w H s.heap
 bare:AllBare s.gens
def CE(outer:List Env)(P:Program)(w:World)(H:Hp)(s:Shared)(Q:VK)(u:Value)(s':Shared):Prop:=
 ∃v H',s'.os=s.os/\AllBare s'.gens/\Un (frs outer) [] H H' s.heap s'.heap/\HOk P w H' s'.heap/\RelV v u/\Q v H'
def CR(CX:CXT)(outer:List Env)(P:Program)(w:World)(H:Hp)(s:Shared)(Q:VK)(E:XK)(r:Result)(s':Shared):Prop:=
 match r with
 |.ok (.ret u)=>CE outer P w H s Q u s'
 |.ok _=>False
 |.error e=>CX outer H s E e s'
structure FnOk(P:Program)(w:World)(K:PySem.W.Frag)(mg:Str->Option Value)(base:Heap)(CX:CXT)(k:Nat)(f:Addr)(fd:FuncData)(ps:List Str)(sp:Sp):Prop where
 len:∀vs H Q E,sp vs H Q E->vs.length=ps.length
 run:∀(A:Around) (outer:List Env) (s:Shared) (H:Hp) (args:Args) (us:List Value) (vs:List V) (Q:VK) (E:XK),Room k A->Env0 P w K mg base A outer s H->BindsTo s fd args (ps.zip us)->Vals vs us->sp vs H Q E ->
  codeAny (model P w) A (.call (.ref f) args) (CR CX outer P w H s Q E) s
theorem FnOk.mono{P:Program}{w:World}{K:PySem.W.Frag}{mg:Str->Option Value}{base:Heap}{CX:CXT}{j k:Nat}{f:Addr}{fd:FuncData}{ps:List Str}{sp:Sp}(F:FnOk P w K mg base CX j f fd ps sp)(h:j<=k):
 FnOk P w K mg base CX k f fd ps sp:=⟨F.len,λA outer s H args us vs Q E hr=>F.run A outer s H args us vs Q E (hr.mono h)⟩
section
variable{X:Cx}{pins:List (Addr×Obj)}{σ:St}{H:Hp}{s s':Shared}
theorem Inv.env0(I:Inv X pins σ H s):Env0 X.prog X.w X.K X.mg X.base X.A X.stack s H:=
 ⟨I.ok.frames,I.ok.mod,I.bs,le_trans I.ok.bsz I.sz,I.stack,I.stkFree,I.hok,I.bare⟩
theorem Inv.after{Q:VK}{u:Value}(I:Inv X pins σ H s)(h:CE X.stack X.prog X.w H s Q u s'):EP X pins σ Q u s':=by
 obtain⟨v,H',os,bare,un,hok,r,q⟩:=h;obtain⟨hh,g,d,t,os'⟩:=s';obtain rfl:os'=s.os:=os;exact⟨v,H',I.call (h':=hh) (g':=g) (d':=d) (t':=t) (ch:=[]) un hok bare (λb z=>absurd z (by simp)),r,q⟩
end
def IK(sp:Sp)(dvs:List V)(E:XK)(t:TA):TE:=λσ H Q=>t σ H λvs H1=>sp (vs++dvs) H1 Q E
def Binds(K:PySem.W.Frag)(fd:FuncData)(ps:List Str)(ds:List Value):Prop:=
 ∀(s:Shared) (us:List Value),K.In s.heap->(us++ds).length=ps.length->BindsTo s fd ⟨us,[]⟩ (ps.zip (us++ds))
theorem Binds.all{K:PySem.W.Frag}{fd:FuncData}{ps:List Str}(h:∀us:List Value,us.length=ps.length->bindArgs fd ⟨us,[]⟩=pure (ps.zip us)):Binds K fd ps []:=λs us _ hl=>by
 rw[append_nil]at hl ⊢;exact .of_eq (h us hl)
def NW(CX:CXT)(X:Cx)(E:XK):Prop:=∀(pins:List (Addr×Obj)) (σ:St) (H:Hp) (s:Shared) (e:Value) (s':Shared),Inv X pins σ H s->CX X.stack H s E e s'->X.xe e s'
section
variable{X:Cx}{CX:CXT}{k:Nat}{f C:Addr}{fd:FuncData}{ps:List Str}{sp:Sp}{dvs:List V}{ds:List Value}{E:XK}{x m:Str}{p pos apos:Pos}{e o:Expr}{es:List Expr}{ta:TE}{t:TA}
theorem WX{pins:List (Addr×Obj)}{σ:St}{H:Hp}{s:Shared}{Q:VK}{us:List Value}{vs:List V}(F:FnOk X.prog X.w X.K X.mg X.base CX k f fd ps sp)(hr:Room k X.A)(hb:Binds X.K fd ps ds)(hd:Vals dvs ds)(hx:NW CX X E)
 (I:Inv X pins σ H s) (r:Vals vs us) (h:sp (vs++dvs) H Q E):wpAny (model X.prog X.w) X.A (call (.ref f) us) (EP X pins σ Q) X.xe s:=by
 have r2:Vals (vs++dvs) (us++ds):=r.append hd;have hl:(us++ds).length=ps.length:=by rw[<- r2.length];exact F.len _ _ _ _ h
 refine wpAny_call (codeAny_mono (F.run X.A X.stack s H ⟨us,[]⟩ (us++ds) (vs++dvs) Q E hr I.env0 (hb s us I.kIn hl) r2 h) λr s' hq=>?_);cases r with
 |error e=>exact hx pins σ H s e s' I hq
 |ok fl=>
  cases fl with
  |ret u=>exact I.after hq
  |next=>exact False.elim hq
  |brk=>exact False.elim hq
  |cont=>exact False.elim hq
theorem VS(F:FnOk X.prog X.w X.K X.mg X.base CX k f fd ps sp)(hr:Room k X.A)(hg:Gl X x)(hm:X.mg x=some (.ref f))(hk:PySem.W.keepIn X.K (.ref f)=true)(hb:Binds X.K fd ps ds)(hd:Vals dvs ds)(hx:NW CX X E)
 (ha:PA X (e::es) t) (hdb:(x==("__debug__":Str))=false:=by decide) (he:starEach (e::es) X.env=(false,eval e X.env)::starEach es X.env:=by rfl) (hpl:(backTo pos (starEach es X.env)).any (·.1)=false:=by rfl):
 PE X (.Call (.Name x p) (e::es) [] pos) (IK sp dvs E t):=by
 intro pins s σ H Q I h;refine wpAny_Call_Name_kw (Vh I hg hm ?_ hdb);refine PySem.W.callWith_K (h₀:=X.base) I.ok.mod.kin hk (thn (ha pos pins s σ H _ I h) λus s1 ⟨vs,H1,I1,r,q⟩=>⟨I1.kIn,?_⟩) he hpl;exact WX F hr hb hd hx I1 r q
end
structure FnScope(N P:List Str)(sc:Scope):Prop where
 kind:sc.kind=.function
 co:sc.isCoroutine=false
 gen:sc.isGenerator=false
 nd:N.Nodup
 pre:N.take P.length=P
 par:∀x∈P,sc.names.lookup x=some .local∨sc.names.lookup x=some .cell
 nofree:∀y∈sc.names,y.2≠.free
theorem Lh{kindOf:Str->Option NameKind}{x:Str}:∀{binds:List (Str×Value)} {m:Str->Option Value},(∀v,(x,v)∉binds)->bindL kindOf binds m x=m x
 |[],_,_=>rfl
 |(n,v)::r,m,h=>by
   unfold bindL;rw[Lh λw hw=>h w (mem_cons_of_mem _ hw)];split
   .have:x≠n:=by rintro rfl;exact h v mem_cons_self
    simp[this]
   .rfl
theorem Lj{kindOf:Str->Option NameKind}{x:Str}:∀{binds:List (Str×Value)} {m:Str->Option Value},(∀v,(x,v)∉binds)->bindC kindOf binds m x=m x
 |[],_,_=>rfl
 |(n,v)::r,m,h=>by
   unfold bindC;rw[Lj λw hw=>h w (mem_cons_of_mem _ hw)];split
   .rfl
   .have:x≠n:=by rintro rfl;exact h v mem_cons_self
    simp[this]
theorem Li{kindOf:Str->Option NameKind}{x:Str}{v:Value}:∀{P:List Str} {vs:List Value} {i:Nat} {m:Str->Option Value},P.Nodup->P[i]?=some x->vs[i]?=some v->kindOf x=some .local ->
 bindL kindOf (P.zip vs) m x=some v
 |[],_,_,_,_,h,_,_=>by simp at h
 |_::_,[],_,_,_,_,h,_=>by simp at h
 |p::P,w::vs,0,m,nd,h1,h2,hk=>by
  simp at h1 h2;subst h1;subst h2;show bindL kindOf ((p,w)::P.zip vs) m p=_;unfold bindL;rw[Lh λv hv=>(nodup_cons.mp nd).1 (of_mem_zip hv).1,if_pos hk];simp
 |p::P,w::vs,i+1,m,nd,h1,h2,hk=>by
  show bindL kindOf ((p,w)::P.zip vs) m x=_;unfold bindL;exact Li (i:=i) (nodup_cons.mp nd).2 (by simpa using h1) (by simpa using h2) hk
theorem Lk{kindOf:Str->Option NameKind}{x:Str}{v:Value}:∀{P:List Str} {vs:List Value} {i:Nat} {m:Str->Option Value},P.Nodup->P[i]?=some x->vs[i]?=some v->kindOf x≠some .local ->
 bindC kindOf (P.zip vs) m x=some v
 |[],_,_,_,_,h,_,_=>by simp at h
 |_::_,[],_,_,_,_,h,_=>by simp at h
 |p::P,w::vs,0,m,nd,h1,h2,hk=>by
  simp at h1 h2;subst h1;subst h2;show bindC kindOf ((p,w)::P.zip vs) m p=_;unfold bindC;rw[Lj λv hv=>(nodup_cons.mp nd).1 (of_mem_zip hv).1,if_neg hk];simp
 |p::P,w::vs,i+1,m,nd,h1,h2,hk=>by
  show bindC kindOf ((p,w)::P.zip vs) m x=_;unfold bindC;exact Lk (i:=i) (nodup_cons.mp nd).2 (by simpa using h1) (by simpa using h2) hk
def E1(N:List Str)(vs:List V):St:=vs.map some++List.replicate (N.length-vs.length) none
def Hx(CX:CXT)(P:Program)(w:World)(K:PySem.W.Frag)(mg:Str->Option Value)(base:Heap)(N:List Str)(qual:Str)(scope:Scope)(f:Addr)(cd:Value)(A:Around)(outer:List Env)(s:Shared)(H:Hp)(E:XK):Cx where
 prog:=P
 w:=w
 K:=K
 mg:=mg
 base:=base
 A:=A.deeper (envOfC qual scope s.heap.objs.size f cd)
 N:=N
 s₀:=s
 H₀:=H
 env:=envOfC qual scope s.heap.objs.size f cd
 outer:=outer
 stack:=envOfC qual scope s.heap.objs.size f cd::outer
 ex:=[]
 calm:=true
 fn:=λ_=>true
 pn:=[]
 xe:=λe s'=>wpAny (model P w) (A.deeper (envOfC qual scope s.heap.objs.size f cd)) (leaving (envOfC qual scope s.heap.objs.size f cd) e) (λ_ s''=>CX outer H s E e s'') (λe' s''=>CX outer H s E e' s'') s'
theorem NN{sc:Scope}{n:Nat}{x:Str}(h:sc.names.lookup x=some .cell):∃c,(cellsFrom n sc.names []).lookup x=some c:=by
 have q:=PySem.W.cellsFrom_some sc.names n [] (.inl h);exact isSome_iff_exists.mp q
theorem RJ{CX:CXT}{P:Program}{w:World}{K:PySem.W.Frag}{mg:Str->Option Value}{base:Heap}{N ps:List Str}{qual:Str}{scope:Scope}{f:Addr}{cd:Value}{A:Around}{outer:List Env}{s s1:Shared}{H:Hp}{E:XK}{us:List Value}{vs:List V}
 (S:FnScope N ps scope) (hd:A.handled=none) (e0:Env0 P w K mg base A outer s H) (hl:vs.length=ps.length) (r:Vals vs us)
 (x:InCallC s s.heap.objs.size (bindL (envOfC qual scope s.heap.objs.size f cd).kindOf (ps.zip us) λ_=>none) (cellsFrom (s.heap.objs.size+1) scope.names []) (bindC (envOfC qual scope s.heap.objs.size f cd).kindOf (ps.zip us) λ_=>none) s1):
 Inv (Hx CX P w K mg base N qual scope f cd A outer s H E) [] (E1 N vs) H s1:=by
 have hpl:ps.length<=N.length:=by have:=congrArg List.length S.pre;rw[length_take]at this;omega
 obtain⟨h1,tk,rfl,hk⟩:=x.done;have noA:∀b:Addr,b∉(Hx CX P w K mg base N qual scope f cd A outer s H E).ex:=λb z=>absurd (show b∈([]:List Addr)from z) (by simp);refine⟨⟨e0.mod,S.kind,rfl,rfl,le_refl _,λy z c h1 h2=>?_,λy hy=>?_,λy c _ h=>?_,λ_=>hd,Around.frames_deeper e0.frames,.inr ⟨rfl,rfl⟩,λb z=>absurd z (noA b),e0.bs,e0.bsz,λb _ _=>noA b,λb z=>absurd z (noA b),e0.funs,e0.frf⟩,
  rfl,e0.bare,Un.kept hk,⟨_,x.toInCall.ns,λi y v h1 h2 h3=>?_⟩,λy c h=>⟨_,x.cell y c h⟩,e0.hok.fresh (le_refl _),λy c h=>?_,λp hp=>absurd (show p∈([]:List (Addr×Obj))from hp) (by simp),e0.hok.kept hk,?_⟩
 .exact name_of_addr x.apart (PySem.mem_of_lookup h1) (PySem.mem_of_lookup h2)
 .have hy:scope.names.lookup y=some .cell∨scope.names.lookup y=some .free:=hy;rcases hy with hy|hy
  .exact NN hy
  .exact absurd rfl (S.nofree _ (PySem.mem_of_lookup hy))
 .exact le_of_lt (x.above y c (PySem.mem_of_lookup h))
 .have hi:i<vs.length:=by
   unfold E1 at h2;by_cases hi:i<vs.length
   .exact hi
   .rw[List.getElem?_append_right (by simpa using hi)]at h2;rw[List.getElem?_replicate]at h2;split at h2<;>cases h2
  have ha:vs[i]?=some v:=by
   unfold E1 at h2;rw[List.getElem?_append_left (by simpa using hi),List.getElem?_map]at h2;cases e:vs[i]? with
   |none=>rw[e]at h2;cases h2
   |some a=>rw[e]at h2;cases h2;rfl
  obtain⟨u,hu,rv⟩:=r.get ha;have hp:ps[i]?=some y:=by
   rw[<- S.pre,List.getElem?_take_of_lt (by omega)];exact h1
  have ndP:ps.Nodup:=by rw[<- S.pre];exact S.nd.sublist (List.take_sublist _ _)
  refine⟨u,rv,?_⟩;rcases S.par y (mem_of_getElem? hp)with k|k
  .exact .inl ⟨k,Li ndP hp hu k⟩
  .obtain⟨c,e⟩:=NN (n:=s.heap.objs.size+1) k;refine .inr ⟨.inl k,c,e,?_⟩;have q:=x.cell y c e;rw[Lk ndP hp hu (by show scope.names.lookup y≠_;rw[k];decide)]at q;exact q
 .exact e0.hok.fresh (le_of_lt (x.above y c (PySem.mem_of_lookup h)))
 .unfold E1;show _=N.length;rw[length_append,length_map,List.length_replicate];omega
theorem U7{CX:CXT}{P:Program}{w:World}{K:PySem.W.Frag}{mg:Str->Option Value}{base:Heap}{k:Nat}{f:Addr}{name qual:Str}{params:Arguments}{body:List Stmt}{scope:Scope}{dV kV doc pm cdv ct oc:Value}{an od:Option Addr}
 {osl:Array (Option Value)} {N ps:List Str} {sp:Sp} (lk:K.lookup f=some ⟨oc,od,.func (PySem.W.fnOf name qual params body scope dV kV doc pm an cdv ct),osl⟩) (hcd:PySem.W.codeIn K cdv qual=true) (S:FnScope N ps scope)
 (len:∀vs H Q E,sp vs H Q E->vs.length=ps.length)
 (hbody:∀(A:Around) (outer:List Env) (s:Shared) (H:Hp) (vs:List V) (Q:VK) (E:XK),Room k (A.deeper (envOfC qual scope s.heap.objs.size f cdv))->sp vs H Q E ->
  ∃t,PSs (Hx CX P w K mg base N qual scope f cdv A outer s H E) body t/\t { nx:=λ_ H'=>Q .non H',rt:=Q } (E1 N vs) H):
 FnOk P w K mg base CX (k+1) f (PySem.W.fnOf name qual params body scope dV kV doc pm an cdv ct) ps sp:=by
 refine⟨len,λA outer s H args us vs Q E hr e0 hb r hsp=>?_⟩;have hl:=len _ _ _ _ hsp;have KX:K.In s.heap:=e0.mod.kin.keeps λb o e=>(e0.bs b o e).1;have lim:s.heap.NoLimit:=e0.mod.nolimit.keeps λb o e=>(e0.bs b o e).1;have hkind:∀y∈ps.zip us,scope.names.lookup y.1=some .local∨(scope.names.lookup y.1=some .cell/\((cellsFrom (s.heap.objs.size+1) scope.names []).lookup y.1).isSome=true):=λ⟨n,v⟩ hy=>by
  rcases S.par n (of_mem_zip hy).1 with q|q
  .exact .inl q
  .exact .inr ⟨q,PySem.W.cellsFrom_some _ _ _ (.inl q)⟩
 refine codeAny_call_function hr.depth (KX _ _ lk) rfl S.co S.gen rfl (PySem.W.codeRec_of KX hcd) (hb _ _ _ _ ?_);refine wpAny_newFunctionEnv_cells S.kind hkind λenv he s1 x=>?_;subst he;refine⟨lim.keeps x.toInCall.keep,codeAny_func ?_⟩;obtain⟨t,ht,hq⟩:=hbody A outer s H vs Q E (hr.deeper _) hsp;have I:Inv (Hx CX P w K mg base N qual scope f cdv A outer s H E) [] (E1 N vs) H s1:=RJ S hr.hd e0 hl r x;refine wpAny_mono (ht [] s1 (E1 N vs) H _ I hq) (λfl s' hs=>?_) λe s' hs=>hs;have fin:∀{σ':St} {H':Hp} {v:V} {u:Value},Inv (Hx CX P w K mg base N qual scope f cdv A outer s H E) [] σ' H' s'->RelV v u->Q v H'->CE outer P w H s Q u s':=
  λ{σ' H' v u} J rv q=>⟨v,H',J.os,J.bare,J.base,J.hok,rv,q⟩
 cases fl with
 |ret u=>
  obtain⟨v,σ',H',J,rv,q⟩:=hs;exact fin J rv q
 |next=>
  obtain⟨σ',H',J,q⟩:=hs;exact fin (v:=V.non) (u:=Value.none) J rfl q
 |brk=>
  obtain⟨_,_,_,q⟩:=hs;exact False.elim q
 |cont=>
  obtain⟨_,_,_,q⟩:=hs;exact False.elim q
section
variable{X:Cx}{x:Str}{p pos:Pos}{e:Expr}{es:List Expr}{t:TA}{id T:String}{r:List V->Hp->VK->Prop}
def tCB(r:List V->Hp->VK->Prop)(t:TA):TE:=λσ H Q=>t σ H λvs H1=>r vs H1 Q
theorem JG(hc:CallR X (.builtin id) r)(hg:Gl X x)(hm:X.mg x=none)(hv:bootBuiltins x=some (.builtin id))(ha:PA X (e::es) t)(hn:x≠"__name__":=by decide)(hdb:(x==("__debug__":Str))=false:=by decide)
 (he:starEach (e::es) X.env=(false,eval e X.env)::starEach es X.env:=by rfl) (hpl:(backTo pos (starEach es X.env)).any (·.1)=false:=by rfl):PE X (.Call (.Name x p) (e::es) [] pos) (tCB r t):=by
 intro pins s σ H Q I h;refine wpAny_Call_Name_kw (FA I hg hm hv ?_ hn hdb);exact PyProof.Rows.callWith_builtin1 (thn (ha pos pins s σ H _ I h) λus s1 ⟨vs,H1,I1,r1,q1⟩=>hc pins s1 σ H1 vs us Q I1 r1 q1) he hpl
theorem EG(hc:CallR X (.type T) r)(hg:Gl X x)(hm:X.mg x=none)(hv:bootBuiltins x=some (.type T))(ha:PA X (e::es) t)(hn:x≠"__name__":=by decide)(hdb:(x==("__debug__":Str))=false:=by decide)
 (he:starEach (e::es) X.env=(false,eval e X.env)::starEach es X.env:=by rfl) (hpl:(backTo pos (starEach es X.env)).any (·.1)=false:=by rfl):PE X (.Call (.Name x p) (e::es) [] pos) (tCB r t):=by
 intro pins s σ H Q I h;refine wpAny_Call_Name_kw (FA I hg hm hv ?_ hn hdb);exact PyProof.Rows.callWith_type1 (thn (ha pos pins s σ H _ I h) λus s1 ⟨vs,H1,I1,r1,q1⟩=>hc pins s1 σ H1 vs us Q I1 r1 q1) he hpl
end
end L2
namespace HT
open PySem PyProof.Rows
section
variable{prog:Program}{w:World}{A:Around}{E:Value->Shared->Prop}{s:Shared}
theorem cat_tup{t b:Addr}{vs ws:List Value}{Q:Value->Shared->Prop}(ht:IsTup s.heap t vs.toArray)(hb:IsTup s.heap b ws.toArray)(hv:vs≠[])
 (h1:ws=[]->Q (.ref t) s) (h2:ws≠[]->Q (.ref s.heap.objs.size) { s with heap:=s.heap.push { cls:=.type "tuple",data:=.seq (vs++ws).toArray } })
 (hsz:vs.length+ws.length<=sizeLine):wpAny (model prog w) A (binaryOp .Add (.ref t) (.ref b)) Q E s:=by
 obtain⟨⟨cls,dd,data,sl⟩,ho,hc,n,hd⟩:=id ht;obtain⟨⟨cls2,dd2,data2,sl2⟩,ho2,hc2,n2,hd2⟩:=id hb;simp only at hc hd hc2 hd2;subst hc hd hc2 hd2;have e:vs.toArray++ws.toArray=(vs++ws).toArray:=by simp
 by_cases hw:ws=[]
 .exact concat_meets ⟨_,ho,rfl⟩ ⟨_,ho2,rfl⟩ noFill_tuple_add seq_tuple_add PySem.F.slot_tuple_add PySem.F.entry_tuple_add (PySem.F.args_tuple_add_2 _ _)
   (tuple_addW1 t b vs.toArray ws.toArray n n2 dd dd2 sl sl2 (by simpa using hv) (by simp[hw])) ⟨ho,ho2,h1 hw⟩
 .refine concat_meets ⟨_,ho,rfl⟩ ⟨_,ho2,rfl⟩ noFill_tuple_add seq_tuple_add PySem.F.slot_tuple_add PySem.F.entry_tuple_add (PySem.F.args_tuple_add_2 _ _)
   (tuple_addW2 t b vs.toArray ws.toArray n n2 dd dd2 sl sl2 (by simpa using hv) (by simpa using hw) (by rw[size_toArray,size_toArray];exact hsz)) ⟨ho,ho2,?_⟩
  rw[e];exact h2 hw
def sIx(n d:Nat):Option Int->Nat
 |none=>d
 |some v=>if v<0 then(v+(n:Int)).toNat else min v.toNat n
theorem sIx_none(n d:Nat):sIx n d none=d:=rfl
theorem sIx_nat(n d k:Nat):sIx n d (some (k:Int))=min k n:=by
 show(if(k:Int)<0 then((k:Int)+(n:Int)).toNat else min (k:Int).toNat n)=min k n;rw[if_neg (by omega),toNat_natCast]
theorem WU(n d:Nat)(hd:d<=n)(o:Option Int):sIx n d o<=n:=by
 cases o with
 |none=>exact hd
 |some v=>
  show(if v<0 then(v+(n:Int)).toNat else min v.toNat n)<=n;by_cases hv:v<0
  .rw[if_pos hv];omega
  .rw[if_neg hv];exact Nat.min_le_right _ _
theorem OT(v:Int)(n d:Nat):(if v<0 then max (v+(n:Int)) 0 else min v (n:Int))=((sIx n d (some v):Nat):Int):=by
 show(if v<0 then max (v+(n:Int)) 0 else min v (n:Int))=(((if v<0 then(v+(n:Int)).toNat else min v.toNat n):Nat):Int);by_cases hv:v<0
 .simp only[if_pos hv];omega
 .simp only[if_neg hv];omega
theorem Pu(lo hi:Option Int)(n:Nat):Builtin.Slice.sliceAdjust lo hi 1 (n:Int)=(((sIx n 0 lo:Nat):Int),((sIx n n hi:Nat):Int)):=by
 have h1:¬ ((1:Int)<0):=by omega
 unfold Builtin.Slice.sliceAdjust;simp only[h1,if_false];refine Prod.ext ?_ ?_
 .cases lo with
  |none=>rfl
  |some v=>exact OT v n 0
 .cases hi with
  |none=>rfl
  |some v=>exact OT v n n
theorem P6(i j:Nat):Builtin.Slice.slicePlaces (i:Int) (j:Int) 1=j-i:=by
 unfold Builtin.Slice.slicePlaces;have h1:(1:Int)>0:=by omega
 simp only[h1,if_true,Int.ediv_one];split<;>omega
theorem Jf{v:Value}{o:Option Int}{Q:Option Int->Shared->Prop}(p:IsPart v o)(h:Q o s):wpAny (model prog w) A (Builtin.Slice.slicePartIndex v) Q E s:=by
 cases p with
 |none=>exact slicePart_none h
 |int i t=>exact slicePart_int h
theorem FZ{sl:Addr}{vl vu:Value}{lo hi:Option Int}{n:Nat}{Q:Int×Int×Nat->Shared->Prop}(hs:s.heap.IsSliceOf sl vl vu .none)(pl:IsPart vl lo)(pu:IsPart vu hi)
 (h:Q (((sIx n 0 lo:Nat):Int),1,sIx n n hi-sIx n 0 lo) s):wpAny (model prog w) A (Builtin.Slice.sliceApplied (.ref sl) (pure (n:Int))) Q E s:=by
 obtain⟨os,hos,hcs,hds⟩:=id hs;unfold Builtin.Slice.sliceApplied Builtin.Slice.sliceFields;refine wpAny_bind (wpAny_bind (wpAny_field hos hds (x:=vl) rfl (wpAny_bind (wpAny_field hos hds (x:=vu) rfl (wpAny_bind (wpAny_field hos hds (x:=.none) rfl (wpAny_pure ?_)))))));refine wpAny_bind (slicePart_none ?_);show wpAny _ _ (if((1:Int)==0)=true then _ else _) _ _ s;rw[if_neg (by decide)];refine wpAny_bind (Jf pl (wpAny_bind (Jf pu (wpAny_bind (wpAny_pure ?_)))));show wpAny _ _ (match Builtin.Slice.sliceAdjust lo hi 1 (n:Int)with|(lo,hi)=>pure (lo,(1:Int),Builtin.Slice.slicePlaces lo hi 1)) _ _ s;rw[Pu lo hi n];show wpAny _ _ (pure (((sIx n 0 lo:Nat):Int),(1:Int),Builtin.Slice.slicePlaces ((sIx n 0 lo:Nat):Int) ((sIx n n hi:Nat):Int) 1)) _ _ s;rw[P6];exact wpAny_pure h
theorem Sv(xs:Array Value)(i k:Nat):((List.range k).filterMap λ(m:Nat)=>xs[((i:Int)+(m:Int)*1).toNat]?).toArray=((xs.toList.drop i).take k).toArray:=by
 have e:(λ(m:Nat)=>xs[((i:Int)+(m:Int)*1).toNat]?)=λm=>xs[i+m]? := by
  funext m
  have:((i:Int)+(m:Int)*1).toNat=i+m:=by omega
  rw[this]
 rw[e];have:=pick_run xs i k;rw[List.filterMap_map]at this;have e2:((λx=>xs[x]?) ∘ λx=>i+x)=λm=>xs[i+m]? := rfl;rw[e2]at this;rw[this]
theorem getItem_tuple_cut{t sl:Addr}{items:Array Value}{vl vu:Value}{lo hi:Option Int}{Q:Value->Shared->Prop}(ht:IsTup s.heap t items)(hs:s.heap.IsSliceOf sl vl vu .none)(pl:IsPart vl lo)(pu:IsPart vu hi)
 (hw:¬ (sIx items.size 0 lo=0/\sIx items.size items.size hi=items.size))
 (h:Q (.ref s.heap.objs.size) { s with heap:=s.heap.push { cls:=.type "tuple",data:=.seq ((items.toList.drop (sIx items.size 0 lo)).take (sIx items.size items.size hi-sIx items.size 0 lo)).toArray } })
 (hsz:items.size<=sizeLine):wpAny (model prog w) A (getItem (.ref t) (.ref sl)) Q E s:=by
 have htake:sizeOk (.seq ((items.toList.drop (sIx items.size 0 lo)).take (sIx items.size items.size hi-sIx items.size 0 lo)).toArray):=by
  show((items.toList.drop (sIx items.size 0 lo)).take (sIx items.size items.size hi-sIx items.size 0 lo)).toArray.size<=sizeLine;rw[size_toArray,length_take,length_drop,Array.length_toList];omega
 have hj:sIx items.size items.size hi<=items.size:=WU _ _ (le_refl _) hi;obtain⟨os,hos,hcs,hds⟩:=id hs;have hTs:s.TypeIs (.ref sl) "slice":=⟨os,hos,hcs⟩
 unfold getItem
 try with_reducible refine wpAny_holding ?_
 first|refine wpAny_bind (wpAny_pure ?_)|skip
 refine wpAny_bind (wpAny_sequenceKey ht.typeIs (by decide) ?_);refine wpAny_bind (wpAny_callSpecial?_slot (name:=Str.ofString "__getitem__") ht.typeIs PyProof.Rows.slot_tuple_getitem
  (wpAny_call_entry PyProof.Rows.slot_tuple_getitem ht.typeIs entry_tuple_getitem ?_ (args_tuple_getitem _ _)))
 show wpAny _ _ (Builtin.Tuple.tupleItemsOf (.ref t) >>= _) _ _ s;refine wpAny_bind (tupleItemsOf_ ht ?_);refine wpAny_bind (wpAny_typeOf hTs ?_);rw[if_pos (by decide)];refine wpAny_bind (FZ hs pl pu ?_);have hno:¬ ((((sIx items.size 0 lo:Nat):Int)==0&&(1:Int)==1&&(sIx items.size items.size hi-sIx items.size 0 lo)==items.size)=true):=by
  intro q;rw[Bool.and_eq_true,Bool.and_eq_true]at q;have q1:((sIx items.size 0 lo:Nat):Int)=0:=eq_of_beq q.1.1;have q2:sIx items.size items.size hi-sIx items.size 0 lo=items.size:=eq_of_beq q.2;exact hw ⟨by omega,by omega⟩
 show wpAny _ _ (if(((sIx items.size 0 lo:Nat):Int)==0&&(1:Int)==1&&(sIx items.size items.size hi-sIx items.size 0 lo)==items.size)=true then _ else _) _ _ s;rw[if_neg hno,Sv]
 first
  |exact wpAny_bind (m:=Builtin.Tuple.tupleExact _) (wpAny_newObj_type (wpAny_pure ⟨_,rfl,wpAny_pure h⟩) htake)
  |exact wpAny_bind (m:=Builtin.Tuple.tupleExact _) (wpAny_newObj_type (wpAny_bind (wpAny_pure (wpAny_pure ⟨_,rfl,wpAny_pure h⟩))) htake)
  |exact wpAny_bind (wpAny_bind (m:=Builtin.Tuple.tupleExact _) (wpAny_newObj_type (wpAny_pure (wpAny_pure ⟨_,rfl,wpAny_pure h⟩)) htake))
  |exact wpAny_bind (wpAny_bind (m:=Builtin.Tuple.tupleExact _) (wpAny_newObj_type (wpAny_pure ⟨_,rfl,wpAny_pure h⟩) htake))
end
end HT
namespace L2
open PySem PySem.Spec PyProof.Rows
abbrev TO:=St->Hp->(Option Int->Hp->Prop)->Prop
def PO(X:Cx)(e:Option Expr)(t:TO):Prop:=
 ∀(pins:List (Addr×Obj)) (s:Shared) (σ:St) (H:Hp) (Q:Option Int->Hp->Prop),Inv X pins σ H s->t σ H Q ->
   wpAny (model X.prog X.w) X.A (evalPart e X.env) (λu s'=>∃o H',Inv X pins σ H' s'/\IsPart u o/\Q o H') X.xe s
def Kg:TO:=λ_ H Q=>Q none H
def Of(t:TE):TO:=λσ H Q=>t σ H λx H1=>∃i,x=.int i/\Q (some i) H1
section
variable{X:Cx}{e:Expr}{te:TE}{lo hi:Option Expr}{tl th:TO}{pos p2:Pos}
theorem VE:PO X none Kg:=by
 intro pins s σ H Q I h;rw[evalPart_none];exact wpAny_pure ⟨none,H,I,.none,h⟩
theorem VD(h:PE X e te):PO X (some e) (Of te):=by
 intro pins s σ H Q I hw;rw[evalPart_some];refine thn (h pins s σ H _ I hw) λu s1 ⟨x,H1,I1,r1,q1⟩=>?_;obtain⟨i,rfl,q⟩:=q1;obtain⟨t,rfl⟩:=r1;exact⟨some i,H1,I1,.int i t,q⟩
def SlR(X:Cx)(r:V->Option Int->Option Int->Hp->VK->Prop):Prop:=
 ∀(pins:List (Addr×Obj)) (s:Shared) (σ:St) (H:Hp) (x:V) (v vl vu:Value) (lo hi:Option Int) (sl:Addr) (Q:VK),Inv X pins σ H s->RelV x v->s.heap.IsSliceOf sl vl vu .none->IsPart vl lo->IsPart vu hi->r x lo hi H Q ->
   ∃T id,typeLookup (.type T) "__getitem__"=pure (some (.builtin id))/\s.TypeIs v T/\wpAny (model X.prog X.w) X.A (getItem v (.ref sl)) (EP X pins σ Q) X.xe s
def tSl(r:V->Option Int->Option Int->Hp->VK->Prop)(te:TE)(tl th:TO):TE:=λσ H Q=>te σ H λx H1=>tl σ H1 λl H2=>th σ H2 λu H3=>r x l u H3 Q
theorem JF{r:V->Option Int->Option Int->Hp->VK->Prop}(hr:SlR X r)(he:PE X e te)(hl:PO X lo tl)(hu:PO X hi th):PE X (.Subscript e (.Slice lo hi none p2) pos) (tSl r te tl th):=by
 intro pins s σ H Q I h;refine Subscript_ (thn (he pins s σ H _ I h) λv s1 ⟨x,H1,I1,r1,q1⟩=>?_);refine wpAny_Slice (thn (hl pins s1 σ H1 _ I1 q1) λvl s2 ⟨l,H2,I2,pl,q2⟩=>thn (hu pins s2 σ H2 _ I2 q2) λvu s3 ⟨u,H3,I3,pu,q3⟩=>?_);rw[evalPart_none];refine wpAny_pure ?_;have I4:Inv X pins σ H3 { s3 with heap:=s3.heap.push { cls:=.type "slice",data:=.fields #[vl,vu,.none] } }:=I3.kept (t':=s3.toks) λb ob q=>Heap.get?_push_of_some _ q;obtain⟨T,id,hT,ht,hg⟩:=hr pins { s3 with heap:=s3.heap.push { cls:=.type "slice",data:=.fields #[vl,vu,.none] } } σ H3 x v vl vu l u s3.heap.objs.size Q I4 r1 (Heap.IsSliceOf.new ..) pl pu q3;show wpAny (model X.prog X.w) X.A (subscriptTail e (.Slice lo hi none p2) v (.ref s3.heap.objs.size)) (EP X pins σ Q) X.xe { s3 with heap:=s3.heap.push { cls:=.type "slice",data:=.fields #[vl,vu,.none] } };exact tail_any (ops:=[.ref s3.heap.objs.size,v]) ht hT hg (by with_unfolding_all rfl)
def Fi(xs:List V)(lo hi:Option Int):List V:=(xs.drop (HT.sIx xs.length 0 lo)).take (HT.sIx xs.length xs.length hi-HT.sIx xs.length 0 lo)
theorem Ix(xs:List V)(lo hi:Option Int):(Fi xs lo hi).length<=xs.length:=by
 unfold Fi;rw[length_take,length_drop];omega
def Mr(K:PySem.W.Frag):V->Option Int->Option Int->Hp->VK->Prop:=λx lo hi H Q=>∃a xs,x=.ref a/\SqT K H a xs /\
 ¬ (HT.sIx xs.length 0 lo=0/\HT.sIx xs.length xs.length hi=xs.length)/\∀p,H p=none->Q (.ref p) (upd H p (.tup (Fi xs lo hi)))
theorem QK:SlR X (Mr X.K):=by
 intro pins s σ H x v vl vu lo hi sl Q I rx hs pl pu h;obtain⟨a,xs,rfl,hx,hw,q⟩:=h;cases rx;obtain⟨its,r,ht,hz⟩:=I.tuple hx;have hlen:its.toArray.size=xs.length:=by rw[size_toArray];exact r.length.symm
 refine⟨"tuple",_,PyProof.Rows.slot_tuple_getitem.lookup,ht.typeIs,?_⟩;refine HT.getItem_tuple_cut ht hs pl pu (by rw[hlen];exact hw) ?_ (by rw[hlen];exact hz);rw[hlen];refine⟨.ref s.heap.objs.size,_,I.laid (t':=s.toks) (o:=.tup (Fi xs lo hi)) (λb ob q=>Heap.get?_push_of_some _ q) (le_refl _) ?_,rfl,q _ (I.hok.fresh (le_refl _))⟩;exact⟨le_trans (Ix xs lo hi) hz,_,(r.drop (HT.sIx xs.length 0 lo)).take (HT.sIx xs.length xs.length hi-HT.sIx xs.length 0 lo),IsTupD.new _ _⟩
def P1(K:PySem.W.Frag):R2:=λx y H Q=>∃a b xs ys,x=.ref a/\y=.ref b/\SqT K H a xs/\SqT K H b ys/\xs≠[]/\xs.length+ys.length<=sizeLine /\
 (ys=[]->Q (.ref a) H)/\(ys≠[]->∀p,H p=none->Q (.ref p) (upd H p (.tup (xs++ys))))
theorem Vals.nil_iff{xs:List V}{us:List Value}(r:Vals xs us):us=[]↔xs=[]:=by
 cases r with
 |nil=>simp
 |cons _ _=>simp
theorem VU:OpR X (binaryOp .Add) (P1 X.K):=by
 intro pins s σ H x y v u Q I rx ry h;obtain⟨a,b,xs,ys,rfl,rfl,ha,hb,hx,hz,q1,q2⟩:=h;cases rx;cases ry;obtain⟨its,r1,p1,_⟩:=I.tuple ha;obtain⟨its2,r2,p2,_⟩:=I.tuple hb;refine HT.cat_tup p1 p2 (λz=>hx (r1.nil_iff.mp z)) (λz=>⟨.ref a,H,I,rfl,q1 (r2.nil_iff.mp z)⟩) (λz=>?_) (by rw[<- r1.length,<- r2.length];exact hz);refine⟨.ref s.heap.objs.size,_,I.laid (t':=s.toks) (o:=.tup (xs++ys)) (λb ob q=>Heap.get?_push_of_some _ q) (le_refl _) ?_,rfl,q2 (λw=>z (r2.nil_iff.mpr w)) _ (I.hok.fresh (le_refl _))⟩;exact⟨by rw[length_append];exact hz,_,r1.append r2,IsTupD.new _ _⟩
end
def ixN(n:Nat)(i:Int):Option Nat:=if 0<=i then(if i<n then some i.toNat else none)else if -(n:Int)<=i then some (i+n).toNat else none
def atI{α:Type}(xs:List α)(i:Int):Option α:=(ixN xs.length i).bind λj=>xs[j]?
theorem Ky{n:Nat}{i:Int}{j:Nat}(h:ixN n i=some j):seqIndex? i n=some j/\j<n/\-(n:Int)<=i/\i<n:=by
 unfold ixN at h;by_cases h0:0<=i
 .rw[if_pos h0]at h;by_cases h1:i<n
  .rw[if_pos h1]at h;have e:i.toNat=j:=Option.some.inj h;exact⟨by rw[seqIndex_of h0 h1,e],by omega,by omega,h1⟩
  .rw[if_neg h1]at h;cases h
 .rw[if_neg h0]at h;by_cases h1:-(n:Int)<=i
  .rw[if_pos h1]at h;have e:(i+n).toNat=j:=Option.some.inj h;exact⟨by rw[seqIndex_neg (by omega) h1,e],by omega,h1,by omega⟩
  .rw[if_neg h1]at h;cases h
theorem LF{α:Type}{xs:List α}{i:Int}{v:α}(h:atI xs i=some v):∃j,seqIndex? i xs.length=some j/\xs[j]?=some v/\j<xs.length/\-(xs.length:Int)<=i/\i<xs.length:=by
 unfold atI at h;cases e:ixN xs.length i with
 |none=>rw[e]at h;cases h
 |some j=>
  rw[e]at h;obtain⟨h1,h2,h3,h4⟩:=Ky e;exact⟨j,h1,h,h2,h3,h4⟩
theorem GW{α:Type}{xs:List α}{j:Nat}{v:α}(h:xs[j]?=some v):atI xs (j:Int)=some v:=by
 have hj:j<xs.length:=(List.getElem?_eq_some_iff.mp h).1;have e:ixN xs.length (j:Int)=some j:=by
  unfold ixN;rw[if_pos (by omega),if_pos (by omega)];simp
 unfold atI;rw[e];exact h
def LH(b:Expr):Prop:=∀o i,subscripted b false o i=operate [o,i] (getItem o i)
def IxR(X:Cx)(r:R2):Prop:=
 ∀(value slice:Expr) (pins:List (Addr×Obj)) (s:Shared) (σ:St) (H:Hp) (x y:V) (v u:Value) (Q:VK),Inv X pins σ H s->RelV x v->RelV y u->r x y H Q ->
   subscripted slice false v u=operate [v,u] (getItem v u)->wpAny (model X.prog X.w) X.A (subscriptTail value slice v u) (EP X pins σ Q) X.xe s
def MtR(X:Cx)(id:String)(r:V->List V->Hp->VK->Prop):Prop:=
 ∀(pins:List (Addr×Obj)) (s:Shared) (σ:St) (H:Hp) (x:V) (xs:List V) (v:Value) (us:List Value) (Q:VK),Inv X pins σ H s->RelV x v->Vals xs us->r x xs H Q ->
   wpAny (model X.prog X.w) X.A (call (.builtin id) (v::us)) (EP X pins σ Q) X.xe s
section
variable{X:Cx}{a b:Expr}{ta tb:TE}{pos:Pos}
theorem IxR.or{r r':R2}(h:IxR X r)(h':IxR X r'):IxR X (λx y H Q=>r x y H Q∨r' x y H Q):=by
 intro value slice pins s σ H x y v u Q I rx ry q hs;rcases q with q|q
 .exact h value slice pins s σ H x y v u Q I rx ry q hs
 .exact h' value slice pins s σ H x y v u Q I rx ry q hs
theorem U2{r:R2}(hr:IxR X r)(ha:PE X a ta)(hb:PE X b tb)(hs:LH b):PE X (.Subscript a b pos) (tOp r ta tb):=by
 intro pins s σ H Q I h;exact Subscript_ (Tg ha hb I h λv u s2 x y H2 I2 rx ry q=>hr a b pins s2 σ H2 x y v u Q I2 rx ry q (hs _ _))
def Kp(K:PySem.W.Frag):R2:=λx y H Q=>∃p xs i v,x=.ref p/\y=.int i/\SqL K H p xs/\atI xs i=some v/\Q v H
def Sh(K:PySem.W.Frag):R2:=λx y H Q=>∃p xs i v,x=.ref p/\y=.int i/\SqT K H p xs/\atI xs i=some v/\Q v H
theorem Vn:IxR X (Kp X.K):=by
 intro value slice pins s σ H x y v u Q I rx ry h hs;obtain⟨p,xs,i,z,rfl,rfl,hq,he,q⟩:=h;cases rx;obtain⟨t,rfl⟩:=ry;obtain⟨its,r,pl,hz⟩:=I.list hq;obtain⟨j,h1,h2,h3,h4,h5⟩:=LF he;obtain⟨w,ew,rw'⟩:=r.get h2;have hl:=r.length;have hn:=GQ;have fin:EP X pins σ Q w s:=⟨z,H,I,rw',q⟩
 by_cases h0:0<=i
 .have hj:i.toNat=j:=by
   rw[seqIndex_of h0 h5]at h1;exact Option.some.inj h1
  exact item_listR pl.isList h0 (by omega) (by rw[hj];simpa using ew) fin hs
 .have hj:(i+(its.toArray.size:Int)).toNat=j:=by
   rw[seqIndex_neg (by omega) h4]at h1;rw[size_toArray,<- hl];exact Option.some.inj h1
  exact subscriptTail_builtinR (x:=w) pl.isList.typeIs slot_list_getitem.lookup
   (wpAny_getItem_list_neg (Q:=λr s'=>r=w/\EP X pins σ Q r s') pl.isList (by omega) (by rw[size_toArray]<;>omega) (by omega) (by rw[hj];simpa using ew) ⟨rfl,fin⟩) hs
theorem Xj:IxR X (Sh X.K):=by
 intro value slice pins s σ H x y v u Q I rx ry h hs;obtain⟨p,xs,i,z,rfl,rfl,hq,he,q⟩:=h;cases rx;obtain⟨t,rfl⟩:=ry;obtain⟨its,r,pl,hz⟩:=I.tuple hq;obtain⟨j,h1,h2,h3,h4,h5⟩:=LF he;obtain⟨w,ew,rw'⟩:=r.get h2;have hl:=r.length;have hn:=GQ;have fin:EP X pins σ Q w s:=⟨z,H,I,rw',q⟩
 exact subscriptTail_builtinR (x:=w) pl.typeIs slot_tuple_getitem.lookup
  (getItem_tuple (j:=j) (Q:=λr s'=>r=w/\EP X pins σ Q r s') pl (by omega) (by omega) (by rw[size_toArray,<- hl];exact h1) (by simpa using ew) ⟨rfl,fin⟩) hs
theorem PC(its:List Value)(n j:Nat)(u:Value):Obj.mapSeq (·.setIfInBounds j u) { cls:=.type "list",data:=.seq its.toArray n }={ cls:=.type "list",data:=.seq (its.set j u).toArray n }:=by
 simp[Obj.mapSeq]
theorem Inv.lst{pins:List (Addr×Obj)}{σ:St}{H:Hp}{s:Shared}{p:Addr}{xs:List V}(I:Inv X pins σ H s)(h:H p=some (.lst xs)):
 ∃(its:List Value) (n:Nat),Vals xs its/\s.heap.get? p=some { cls:=.type "list",data:=.seq its.toArray n }/\xs.length<=sizeLine:=by
 obtain⟨z,its,n,r,e⟩:=I.hok p _ h;exact⟨its,n,r,e,z⟩
theorem Inv.lstUpd{pins:List (Addr×Obj)}{σ:St}{H:Hp}{s:Shared}{p:Addr}{xs ys:List V}{its its':List Value}{n n':Nat}{f:Obj->Obj}(I:Inv X pins σ H s)(h:H p=some (.lst xs))
 (ho:s.heap.get? p=some { cls:=.type "list",data:=.seq its.toArray n }) (hf:f { cls:=.type "list",data:=.seq its.toArray n }={ cls:=.type "list",data:=.seq its'.toArray n' }) (r:Vals ys its') (hz:ys.length<=sizeLine) (t:Nat):
 Inv X pins σ (upd H p (.lst ys)) { s with heap:=s.heap.update p f,toks:=t }:=by
 have e:(s.heap.update p f).get? p=some { cls:=.type "list",data:=.seq its'.toArray n' }:=by
  rw[Heap.get?_update_self f ho (by rw[hf]<;>rfl),hf]
 refine I.write (x:=p) (e:=p) (by rw[h];trivial) (.inl rfl) (λb u hb q=>(Heap.get?_update_other _ _ (Ne.symm hb)).trans q) ⟨_,e⟩ ?_;exact⟨hz,its',n',r,e⟩
def Js:V->V->V->Hp->(Hp->Prop)->Prop:=λo i v H Q=>∃p xs k j,o=.ref p/\i=.int k/\H p=some (.lst xs)/\ixN xs.length k=some j/\Q (upd H p (.lst (xs.set j v)))
theorem MZ:Ti X Js:=by
 intro pins s σ H o i v ov iv u Q I ro ri rv h;obtain⟨p,xs,k,j,rfl,rfl,hp,hj,q⟩:=h;cases ro;obtain⟨t,rfl⟩:=ri;obtain⟨its,n,r,ho,hz⟩:=I.lst hp;obtain⟨h1,h2,h3,h4⟩:=Ky hj;have hl:=r.length;have hn:=GQ;have I':Inv X pins σ (upd H p (.lst (xs.set j v))) { s with heap:=s.heap.update p (Obj.mapSeq (·.setIfInBounds j u)) }:=
  I.lstUpd hp ho (PC its n j u) (r.set rv j) (by rw[List.length_set];exact hz) s.toks
 by_cases h0:0<=k
 .have hk:k.toNat=j:=by
   rw[seqIndex_of h0 h4]at h1;exact Option.some.inj h1
  exact PySem.W.ki_setAt ho h0 (by omega) (by rw[size_toArray,<- hl];exact h4) (by rw[hk];exact⟨_,I',q⟩)
 .have hk:(k+(its.toArray.size:Int)).toNat=j:=by
   rw[seqIndex_neg (by omega) h3]at h1;rw[size_toArray,<- hl];exact Option.some.inj h1
  exact PySem.W.ki_setBack ho (by omega) (by rw[size_toArray,<- hl];exact h3) (by omega) (by rw[hk];exact⟨_,I',q⟩)
theorem MY(lo hi:Option Int)(n:Nat):(sliceBounds lo hi none n).1=((HT.sIx n 0 lo:Nat):Int)/\(sliceBounds lo hi none n).2.1=((HT.sIx n n hi:Nat):Int)/\(sliceBounds lo hi none n).2.2=1:=by
 refine⟨?_,?_,rfl⟩
 .cases lo with
  |none=>simp[sliceBounds,HT.sIx]
  |some i=>
   simp only[sliceBounds,HT.sIx,Option.getD_none,show(1:Int)>0 by decide,if_true];by_cases h:i<0
   .simp only[h,if_true]<;>omega
   .simp only[h,if_false]<;>omega
 .cases hi with
  |none=>simp[sliceBounds,HT.sIx]
  |some i=>
   simp only[sliceBounds,HT.sIx,Option.getD_none,show(1:Int)>0 by decide,if_true];by_cases h:i<0
   .simp only[h,if_true]<;>omega
   .simp only[h,if_false]<;>omega
theorem Lm(its:List Value)(lo hi:Option Int):slicePick its.toArray lo hi none=((its.drop (HT.sIx its.length 0 lo)).take (HT.sIx its.length its.length hi-HT.sIx its.length 0 lo)).toArray:=by
 obtain⟨h1,h2,h3⟩:=MY lo hi its.toArray.size;unfold slicePick;rw[h1,h2,h3];simp only[sliceRange_one,pick_run,size_toArray]<;>rfl
def Oz(K:PySem.W.Frag):V->Option Int->Option Int->Hp->VK->Prop:=λx lo hi H Q=>∃a xs,x=.ref a/\SqL K H a xs/\∀p,H p=none->Q (.ref p) (upd H p (.lst (Fi xs lo hi)))
theorem UV:SlR X (Oz X.K):=by
 intro pins s σ H x v vl vu lo hi sl Q I rx hs pl pu h;obtain⟨a,xs,rfl,hx,q⟩:=h;cases rx;obtain⟨its,r,ht,hz⟩:=I.list hx;have hlen:=r.length;refine⟨"list",_,slot_list_getitem.lookup,ht.isList.typeIs,?_⟩;refine wpAny_getItem_list_slice ht.isList hs pl pu .none (by simp) ?_ (by rw[size_toArray]<;>omega);rw[Lm,<- hlen];refine⟨.ref s.heap.objs.size,_,I.laid (t':=s.toks) (o:=.lst (Fi xs lo hi)) (λb ob q=>Heap.get?_push_of_some _ q) (le_refl _) ?_,rfl,q _ (I.hok.fresh (le_refl _))⟩;exact⟨le_trans (Ix xs lo hi) hz,_,0,(r.drop (HT.sIx xs.length 0 lo)).take (HT.sIx xs.length xs.length hi-HT.sIx xs.length 0 lo),Heap.get?_push_size _ rfl⟩
def Ey:V->Bool
 |.non=>true
 |.bl _=>true
 |.int _=>true
 |.str _=>true
 |_=>false
def eqV:V->V->Bool
 |.non,.non=>true
 |.bl a,.bl b=>a==b
 |.bl a,.int b=>(if a then 1 else 0)==b
 |.int a,.bl b=>a==(if b then 1 else 0)
 |.int a,.int b=>a==b
 |.str a,.str b=>a==b
 |_,_=>false
theorem Xy{A:Around}{s:Shared}{y x:V}{u v:Value}(ry:RelV y u)(rx:RelV x v)(fy:Ey y=true)(fx:Ey x=true):SeqAt.EqAt A s u v (eqV y x):=by
 cases y with
 |non=>
  cases ry;cases x with
  |non=>cases rx;exact SeqAt.EqAt.same _
  |bl b=>cases rx;exact SeqAt.EqAt.none_bool b
  |int b=>obtain⟨t,rfl⟩:=rx;exact SeqAt.EqAt.none_int b t
  |str b=>obtain⟨t,rfl⟩:=rx;exact SeqAt.EqAt.none_str b t
  |_=>exact absurd (show false=true from fx) Bool.false_ne_true
 |bl a=>
  cases ry;cases x with
  |non=>cases rx;exact SeqAt.EqAt.bool_none a
  |bl b=>cases rx;exact SeqAt.EqAt.bool_bool a b
  |int b=>obtain⟨t,rfl⟩:=rx;exact SeqAt.EqAt.bool_int a b t
  |str b=>obtain⟨t,rfl⟩:=rx;exact SeqAt.EqAt.bool_str a b t
  |_=>exact absurd (show false=true from fx) Bool.false_ne_true
 |int a=>
  obtain⟨t',rfl⟩:=ry;cases x with
  |non=>cases rx;exact SeqAt.EqAt.int_none a t'
  |bl b=>cases rx;exact SeqAt.EqAt.int_bool a t' b
  |int b=>obtain⟨t,rfl⟩:=rx;exact SeqAt.EqAt.int_int a t' b t
  |str b=>obtain⟨t,rfl⟩:=rx;exact SeqAt.EqAt.int_str a t' b t
  |_=>exact absurd (show false=true from fx) Bool.false_ne_true
 |str a=>
  obtain⟨t',rfl⟩:=ry;cases x with
  |non=>cases rx;exact SeqAt.EqAt.str_none a t'
  |bl b=>cases rx;exact SeqAt.EqAt.str_bool a t' b
  |int b=>obtain⟨t,rfl⟩:=rx;exact SeqAt.EqAt.str_int a t' b t
  |str b=>obtain⟨t,rfl⟩:=rx;exact SeqAt.EqAt.str_str a t' b t
  |_=>exact absurd (show false=true from fx) Bool.false_ne_true
 |_=>exact absurd (show false=true from fy) Bool.false_ne_true
def eqU(x:V)(u:Value):Bool:=match u with
 |.none=>eqV .non x
 |.bool b=>eqV (.bl b) x
 |.int i _=>eqV (.int i) x
 |.str z _=>eqV (.str z) x
 |_=>false
theorem RZ{x y:V}{u:Value}(r:RelV y u)(f:Ey y=true):eqU x u=eqV y x:=by
 cases y with
 |non=>cases r;rfl
 |bl b=>cases r;rfl
 |int i=>obtain⟨t,rfl⟩:=r;rfl
 |str z=>obtain⟨t,rfl⟩:=r;rfl
 |_=>exact absurd (show false=true from f) Bool.false_ne_true
theorem LG{x:V}:∀{xs:List V} {us:List Value},Vals xs us->xs.all Ey=true->us.any (eqU x)=xs.any λy=>eqV y x
 |_,_,.nil,_=>rfl
 |y::xs,u::us,.cons r t,f=>by
  rw[List.all_cons,Bool.and_eq_true]at f;rw[any_cons,any_cons,RZ r f.1,LG t f.2]
theorem JJ{A:Around}{s:Shared}{x:V}{v:Value}(rx:RelV x v)(fx:Ey x=true):∀{xs:List V} {us:List Value},Vals xs us->xs.all Ey=true->∀u∈us,SeqAt.EqAt A s u v (eqU x u)
 |_,_,.nil,_=>λu hu=>by cases hu
 |y::xs,u::us,.cons r t,f=>λu' hu=>by
  rw[List.all_cons,Bool.and_eq_true]at f;rcases mem_cons.mp hu with rfl|hu
  .rw[RZ r f.1];exact Xy r rx f.1 fx
  .exact JJ rx fx t f.2 u' hu
def inV(x:V)(xs:List V):Bool:=xs.any λy=>eqV y x
def rIn(K:PySem.W.Frag)(neg:Bool):R2:=λx y H Q=>∃p xs,y=.ref p/\(SqL K H p xs∨SqT K H p xs)/\Ey x=true/\xs.all Ey=true/\Q (.bl (if neg then !inV x xs else inV x xs)) H
theorem Qn:OpR X (compareOp .In) (rIn X.K false):=by
 intro pins s σ H x y v u Q I rx ry h;obtain⟨p,xs,rfl,hq,fx,fs,q⟩:=h;cases ry;rcases hq with hq|hq
 .obtain⟨its,r,pl,hz⟩:=I.list hq;refine SeqAt.in_listAt (eqU x) pl.isList (λw hw=>JJ rx fx r fs w (by simpa using hw)) ⟨.bl _,H,I,rfl,?_⟩;rw[show its.toArray.any (eqU x)=its.any (eqU x) by simp,LG r fs];exact q
 .obtain⟨its,r,pl,hz⟩:=I.tuple hq;refine SeqAt.in_tupleAt (eqU x) pl (λw hw=>JJ rx fx r fs w (by simpa using hw)) ⟨.bl _,H,I,rfl,?_⟩;rw[show its.toArray.any (eqU x)=its.any (eqU x) by simp,LG r fs];exact q
theorem NQ:CallR X (.builtin "len") (λxs H Q=>∃p ys,xs=[.ref p]/\(SqL X.K H p ys∨SqT X.K H p ys)/\Q (.int ys.length) H):=by
 intro pins s σ H xs us Q I r h;obtain⟨p,ys,rfl,hq,q⟩:=h;obtain⟨u,rfl,rx⟩:=Co r;cases rx;have hn:=GQ;rcases hq with hq|hq
 .obtain⟨its,r',pl,hz⟩:=I.list hq;have hlen:=r'.length;exact Calls.call_len_list pl.isList (by simp only[size_toArray]<;>omega) ⟨.int ys.length,H,I.tok _,⟨s.toks+1,by rw[size_toArray,hlen]⟩,q⟩
 .obtain⟨its,r',pl,hz⟩:=I.tuple hq;have hlen:=r'.length;exact len_tuple pl (by simp only[size_toArray]<;>omega) ⟨.int ys.length,H,I.tok _,⟨s.toks+1,by rw[size_toArray,hlen]⟩,q⟩
theorem CallR.or{f:Value}{r r':List V->Hp->VK->Prop}(h:CallR X f r)(h':CallR X f r'):CallR X f (λxs H Q=>r xs H Q∨r' xs H Q):=by
 intro pins s σ H xs us Q I rs q;rcases q with q|q
 .exact h pins s σ H xs us Q I rs q
 .exact h' pins s σ H xs us Q I rs q
theorem NP:CallR X (.type "list") (λxs H Q=>∃p ys,xs=[.ref p]/\(SqL X.K H p ys∨SqT X.K H p ys)/\∀l,H l=none->Q (.ref l) (upd H l (.lst ys))):=by
 intro pins s σ H xs us Q I r h;obtain⟨p,ys,rfl,hq,q⟩:=h;obtain⟨u,rfl,rx⟩:=Co r;cases rx;have fin:∀(its:List Value),Vals ys its->ys.length<=sizeLine->∀(h':Heap) (c':Nat),(∀b o',s.heap.get? b=some o'->h'.get? b=some o') ->
  h'.get? s.heap.objs.size=some { cls:=.type "list",dict:=none,data:=.seq its.toArray c',slots:=#[] }->EP X pins σ Q (.ref s.heap.objs.size) { s with heap:=h' }:=λits r' hz h' c' kp e=>
  ⟨.ref s.heap.objs.size,_,I.laid (t':=s.toks) kp (le_refl _) (show ObjOk X.prog X.w _ h' _ (.lst ys)from⟨hz,its,c',r',e⟩),rfl,q _ (I.hok.fresh (le_refl _))⟩
 rcases hq with hq|hq
 .obtain⟨its,r',pl,hz⟩:=I.list hq;have hlen:=r'.length;obtain⟨o,ho,hc,n,hd⟩:=pl.isList;exact call_list_seq p (.inl rfl) ho hc hd (λh' c' kp e=>fin its r' hz h' c' kp e) (by simp only[size_toArray]<;>omega)
 .obtain⟨its,r',pl,hz⟩:=I.tuple hq;have hlen:=r'.length;obtain⟨o,ho,hc,n,hd⟩:=pl;exact call_list_seq p (.inr rfl) ho hc hd (λh' c' kp e=>fin its r' hz h' c' kp e) (by simp only[size_toArray]<;>omega)
theorem Lp:CallR X (.type "tuple") (λxs H Q=>∃p ys,xs=[.ref p]/\((SqL X.K H p ys/\∀l,H l=none->Q (.ref l) (upd H l (.tup ys)))∨(SqT X.K H p ys/\Q (.ref p) H))):=by
 intro pins s σ H xs us Q I r h;obtain⟨p,ys,rfl,h⟩:=h;obtain⟨u,rfl,rx⟩:=Co r;cases rx;rcases h with⟨hq,q⟩|⟨hq,q⟩
 .obtain⟨its,r',pl,hz⟩:=I.list hq;have hlen:=r'.length;refine call_tuple_list pl.isList (λh' kp=>?_) (by simp only[size_toArray]<;>omega);have I1:Inv X pins σ H { s with heap:=h' }:=I.kept (t':=s.toks) kp;have I2:Inv X pins σ (upd H h'.objs.size (.tup ys)) { s with heap:=h'.push { cls:=.type "tuple",data:=.seq its.toArray } }:=
   I1.laid (t':=s.toks) (λb o e=>Heap.get?_push_of_some _ e) (le_refl _) (show ObjOk X.prog X.w _ _ _ (.tup ys)from⟨hz,its,r',IsTupD.new _ _⟩)
  exact⟨.ref h'.objs.size,_,I2,rfl,q _ (I1.hok.fresh (le_refl _))⟩
 .obtain⟨its,r',pl,hz⟩:=I.tuple hq;exact call_tuple_same pl ⟨.ref p,H,I,rfl,q⟩
def tyV(K:PySem.W.Frag)(T:String)(x:V)(H:Hp):Prop:=match x with
 |.str _=>T="str"
 |.int _=>T="int"
 |.ref p=>(T="list"/\∃xs,SqL K H p xs)∨(T="tuple"/\∃o,K.lookup p=some o/\o.cls=.type "tuple"/\o.dict=none) ∨
  (T="dict"/\((∃kvs,H p=some (.dK kvs))∨∃kvs,H p=some (.dT kvs)))∨(T="set"/\∃S n,H p=some (.set S n))
 |_=>False
theorem WJ{pins:List (Addr×Obj)}{σ:St}{H:Hp}{s:Shared}{T:String}{x:V}{v:Value}(I:Inv X pins σ H s)(r:RelV x v)(ty:tyV X.K T x H):
 s.TypeIs v T/\∀a,v=.ref a->∃ob,s.heap.get? a=some ob/\ob.dict=none:=by
 cases x with
 |str z=>
  obtain⟨t,rfl⟩:=r;cases(show T="str" from ty);exact⟨typeIs_str s z t,λ_ e=>nomatch e⟩
 |int i=>
  obtain⟨t,rfl⟩:=r;cases(show T="int" from ty);exact⟨typeIs_int s i t,λ_ e=>nomatch e⟩
 |ref p=>
  cases r;rcases ty with⟨rfl,xs,hq⟩|⟨rfl,o,hk,hc,hd⟩|⟨rfl,hk⟩|⟨rfl,S,n,hk⟩
  .obtain⟨its,_,pl,_⟩:=I.list hq;refine⟨pl.isList.typeIs,λa e=>?_⟩;cases e;obtain⟨o,n,e,c,hd,_⟩:=pl;exact⟨o,e,hd⟩
  .refine⟨⟨o,I.kIn p o hk,hc⟩,λa e=>?_⟩;cases e;exact⟨o,I.kIn _ o hk,hd⟩
  .have z:∃o,s.heap.get? p=some o/\o.ExactDict:=by
    rcases hk with⟨kvs,hk⟩|⟨kvs,hk⟩
    .obtain⟨_,_,_,_,o,_,_,e,ex,_⟩:=I.hok p _ hk;exact⟨o,e,ex⟩
    .obtain⟨_,_,_,_,o,_,_,e,ex,_⟩:=I.hok p _ hk;exact⟨o,e,ex⟩
   obtain⟨o,e,ex⟩:=z;refine⟨⟨o,e,ex.1⟩,λa e2=>?_⟩;cases e2;exact⟨o,e,ex.2.1⟩
  .obtain⟨o,_,_,_,e,ex,_⟩:=I.hok p _ hk;refine⟨⟨o,e,ex.1⟩,λa e2=>?_⟩;cases e2;exact⟨o,e,ex.2.1⟩
 |_=>exact False.elim ty
def tBM(K:PySem.W.Frag)(T:String)(r:V->List V->Hp->VK->Prop)(to:TE)(t:TA):TE:=λσ H Q=>to σ H λx H1=>tyV K T x H1/\t σ H1 λxs H2=>r x xs H2 Q
variable{o e:Expr}{es:List Expr}{to:TE}{t:TA}{name:Str}{apos cpos:Pos}{T id:String}{r:V->List V->Hp->VK->Prop}
theorem YW(pa:PlainAttrs T)(slot:Slot T name id)(hty:typeOf (.builtin id)=pure (.type "method_descriptor"))(hm:MtR X id r)(ho:PE X o to)(ha:PA X (e::es) t)
 (hbase:attributeBase o name X.env (eval o X.env)=eval o X.env:=by rfl)
 (hfew:((backTo cpos (starEach (e::es) X.env)).all (λx=>!x.1)&&(backToKw cpos (keywordEach [] X.env)).all (λx=>x.1.isSome)
  && decide ((e::es).length+([]:List Keyword).length+(if([]:List Keyword).isEmpty then 0 else 1)<30))=true:=by rfl)
 (hline:(apos.endLine==cpos.line)=true:=by rfl) (hs:starEach (e::es) X.env=(false,eval e X.env)::starEach es X.env:=by rfl) (hplain:(backTo cpos (starEach es X.env)).any (·.1)=false:=by rfl):
 PE X (.Call (.Attribute o name apos) (e::es) [] cpos) (tBM X.K T r to t):=by
 intro pins s σ H Q I h;refine wpAny_Call_method_late hbase hfew hline rfl (thn (ho pins s σ H _ I h) λv s1 ⟨x,H1,I1,r1,ty,q1⟩=>?_);obtain⟨h1,h2⟩:=WJ I1 r1 ty;refine⟨T,id,pa,slot,hty,h1,h2,?_⟩;have hA:=ha cpos pins s1 σ H1 _ I1 q1;rw[hs]at hA ⊢;refine Calls.callWith_builtin (by show(false||(backTo cpos (starEach es X.env)).any (·.1))=false;rw[hplain]<;>rfl) (Calls.evalArgs_plain ?_);exact thn hA λus s2 ⟨vs,H2,I2,r2,q2⟩=>hm pins s2 σ H2 x vs v us Q I2 r1 r2 q2
end
def MtM(X:Cx)(id:String)(r:V->List V->Hp->VK->Prop):Prop:=
 ∀(pins:List (Addr×Obj)) (s:Shared) (σ:St) (H:Hp) (x:V) (xs:List V) (v:Value) (us:List Value) (Q:VK),Inv X pins σ H s->RelV x v->Vals xs us->r x xs H Q ->
   wpAny (model X.prog X.w) X.A (call (.builtin id) (v::us)) (EP X pins σ Q) X.xe s
theorem Vals.one:∀{x:V} {us:List Value},Vals [x] us->∃u,us=[u]/\RelV x u
 |_,_,.cons r .nil=>⟨_,rfl,r⟩
theorem Vals.eraseIdx:∀{xs:List V} {us:List Value} (i:Nat),Vals xs us->Vals (xs.eraseIdx i) (us.eraseIdx i)
 |_,_,_,.nil=>.nil
 |_,_,0,.cons _ t=>t
 |_,_,i+1,.cons r t=>.cons r (Vals.eraseIdx i t)
theorem LS{α:Type}:∀(l:List α) (i:Nat),(l.eraseIdx i).length<=l.length
 |[],_=>le_refl _
 |_::_,0=>Nat.le_succ _
 |_::r,i+1=>Nat.succ_le_succ (LS r i)
section
variable{X:Cx}{pins:List (Addr×Obj)}{σ:St}{H:Hp}{s:Shared}{l b:Addr}{xs ys zs:List V}
theorem Inv.lset{its its':List Value}{n:Nat}{f:Array Value->Array Value}{t':Nat}(I:Inv X pins σ H s)(hH:H l=some (.lst xs))
 (e:s.heap.get? l=some { cls:=.type "list",data:=.seq its.toArray n }) (hf:f its.toArray=its'.toArray) (hv:Vals ys its') (hz:ys.length<=sizeLine):
 Inv X pins σ (upd H l (.lst ys)) { s with heap:=s.heap.update l (Obj.mapSeq f),toks:=t' }:=by
 have q:=PySem.IsL.update e f;rw[hf]at q;refine I.write (x:=l) (e:=l) (by rw[hH];exact trivial) (.inl rfl) (λb' u hb hu=>(Heap.get?_update_other s.heap (Obj.mapSeq f) (Ne.symm hb)).trans hu) ⟨_,q⟩ ?_;exact⟨hz,its',_,hv,q⟩
theorem Inv.lnew{its:List Value}{t':Nat}(I:Inv X pins σ H s)(hv:Vals ys its)(hz:ys.length<=sizeLine):
 Inv X pins σ (upd H s.heap.objs.size (.lst ys)) { s with heap:=s.heap.push { cls:=.type "list",data:=.seq its.toArray },toks:=t' }:=
 I.laid (λ_ _ q=>Heap.get?_push_of_some _ q) (le_refl _) ⟨hz,its,0,hv,Heap.get?_push_size _ rfl⟩
theorem Inv.fresh(I:Inv X pins σ H s):H s.heap.objs.size=none:=I.hok.fresh (le_refl _)
theorem Inv.lstM(I:Inv X pins σ H s)(hH:H l=some (.lst xs)):xs.length<=sizeLine/\∃(its:List Value) (n:Nat),Vals xs its/\xs.length=its.length/\s.heap.get? l=some { cls:=.type "list",data:=.seq its.toArray n }:=by
 obtain⟨z,its,n,r,e⟩:=I.hok l _ hH;exact⟨z,its,n,r,r.length,e⟩
theorem T3{n:Nat}(h:n<=sizeLine):Builtin.List.listTooLong n=false:=by
 unfold Builtin.List.listTooLong;exact decide_eq_false (by omega)
end
section
variable{X:Cx}
def Ny:V->List V->Hp->VK->Prop:=λx vs H Q=>∃l xs y,x=.ref l/\vs=[y]/\H l=some (.lst xs)/\xs.length<sizeLine/\Q .non (upd H l (.lst (xs++[y])))
theorem CQ:MtM X "list.append" Ny:=by
 intro pins s σ H x vs v us Q I rx rv h;obtain⟨l,xs,y,rfl,rfl,hH,hz,q⟩:=h;cases rx;obtain⟨u,rfl,ru⟩:=rv.one;obtain⟨z,its,n,r,hl,e⟩:=I.lstM hH;refine call_meets F.slot_list_append ⟨_,e,rfl⟩ F.entry_list_append (F.args_list_append_2 _ _) (PySem.list_append l its.toArray n u (by rw[size_toArray];omega)) ⟨e,?_⟩;refine⟨.non,_,I.lset (its':=its++[u]) hH e (by simp) (r.append (.cons ru .nil)) ?_,rfl,q⟩;rw[length_append,List.length_singleton];omega
def Uw:V->List V->Hp->VK->Prop:=λx vs H Q=>∃l b xs zs,x=.ref l/\vs=[.ref b]/\H l=some (.lst xs)/\H b=some (.lst zs)/\xs.length+zs.length<=sizeLine/\Q .non (upd H l (.lst (xs++zs)))
theorem Yz:MtM X "list.extend" Uw:=by
 intro pins s σ H x vs v us Q I rx rv h;obtain⟨l,b,xs,zs,rfl,rfl,hH,hB,hz,q⟩:=h;cases rx;obtain⟨u,rfl,ru⟩:=rv.one;cases ru;obtain⟨z,its,n,r,hl,e⟩:=I.lstM hH;obtain⟨z2,its2,n2,r2,hl2,e2⟩:=I.lstM hB;have hsz:its.toArray.size+its2.toArray.size<=sizeLine:=by rw[size_toArray,size_toArray];omega
 have hlong:¬ (!its.toArray.isEmpty&&Builtin.List.listTooLong (its.toArray.size+its2.toArray.size))=true:=by
  rw[T3 hsz,Bool.and_false];exact Bool.false_ne_true
 refine call_meets F.slot_list_extend ⟨_,e,rfl⟩ F.entry_list_extend (F.args_list_extend_2 _ _)
  (AutoSeq1.list_extend_list_list_0 l its.toArray n b its2.toArray n2 hlong (by rw[size_toArray];omega) (by omega)) ⟨e,e2,?_⟩
 refine⟨.non,_,I.lset (its':=its++its2) hH e (by simp) (r.append r2) ?_,rfl,q⟩;rw[length_append];omega
def Qa:V->List V->Hp->VK->Prop:=λx vs H Q=>∃l xs i k y,x=.ref l/\vs=[.int i]/\H l=some (.lst xs)/\-(2^63)<=i/\i<2^63/\seqIndex? i xs.length=some k/\xs[k]?=some y/\Q y (upd H l (.lst (xs.eraseIdx k)))
theorem T4:MtM X "list.pop" Qa:=by
 intro pins s σ H x vs v us Q I rx rv h;obtain⟨l,xs,i,k,y,rfl,rfl,hH,h1,h2,hk,hy,q⟩:=h;cases rx;obtain⟨u,rfl,ru⟩:=rv.one;obtain⟨t,rfl⟩:=ru;obtain⟨z,its,n,r,hl,e⟩:=I.lstM hH;obtain⟨w,hw,rw'⟩:=r.get hy;refine call_meets F.slot_list_pop ⟨_,e,rfl⟩ F.entry_list_pop (F.args_list_pop_2 _ _)
  (MeetsSeq.list_pop_at l its.toArray n i t k w (fitsIndex_both h1 h2) (by rw[size_toArray,<- hl];exact hk) (by rw[<- Array.getElem?_toList];exact hw) (by rw[size_toArray];omega)) ⟨e,?_⟩
 refine⟨y,_,I.lset (its':=its.eraseIdx k) hH e ?_ (r.eraseIdx k) ?_,rw',q⟩
 .show its.toArray.eraseIdxIfInBounds k=(its.eraseIdx k).toArray;rw[List.eraseIdxIfInBounds_toArray]
 .have:=LS xs k;omega
def Sj:R2:=λx y H Q=>∃l b xs zs,x=.ref l/\y=.ref b/\H l=some (.lst xs)/\H b=some (.lst zs)/\xs.length+zs.length<=sizeLine/\∀p,H p=none->Q (.ref p) (upd H p (.lst (xs++zs)))
theorem XW:OpR X (binaryOp .Add) Sj:=by
 intro pins s σ H x y v u Q I rx ry h;obtain⟨l,b,xs,zs,rfl,rfl,hH,hB,hz,q⟩:=h;cases rx;cases ry;obtain⟨z,its,n,r,hl,e⟩:=I.lstM hH;obtain⟨z2,its2,n2,r2,hl2,e2⟩:=I.lstM hB;refine PySem.P.add_list e e2 ?_ (by rw[size_toArray,size_toArray];omega);have ea:its.toArray++its2.toArray=(its++its2).toArray:=by simp
 rw[ea];exact⟨.ref _,_,I.lnew (t':=s.toks) (r.append r2) (by rw[length_append];omega),rfl,q _ I.fresh⟩
end
end L2
namespace Att
open PySem PySem.W PySem.Calls PyProof.Rows
theorem KG{P:Params}{h:Heap}:∀(ns:List Int) (vs:List Value),WellAll P h vs (ns.map WData.int)->IntsAre vs ns:=by
 intro ns
 induction ns with
 |nil=>
  intro vs w;rw[map_nil]at w;cases w;exact .nil
 |cons n ns ih=>
  intro vs w;rw[map_cons]at w;cases w with
  |cons a b=>
   cases a;exact .cons _ _ (ih _ b)
theorem QL{l:OpenLaw}{n:Nat}(hn:l.most=some n){P:Params}{h:Heap}{args:List WData}{vals:List Value}
 (hpre:l.row.toRowW.claim.pre args=true) (hwl:WellAll P h vals args):
 ∃a vs ns,vals=[Value.ref a]/\args=[WData.list (ns.map WData.int)]/\h.get? a=some { cls:=.type "list",data:=.seq vs.toArray }/\IntsAre vs ns/\ns.length<=n:=by
 have hsh:WShape.hasAll [] args [.list .int]=true:=(pre_splitW hpre).1;have hc:l.pre.holds [] { args:=args }=true:=(pre_splitW hpre).2;obtain⟨d,r,rfl,h1,h2⟩:=hasAllW_cons hsh;obtain rfl:=hasAllW_nil h2;obtain⟨xs,rfl,h3⟩:=hasW_list h1;obtain⟨ns,rfl⟩:=items_int h3;have hlen:ns.length<=n:=by
  unfold OpenLaw.pre at hc;have h4:(WTm.not (.lt (.lit (.int (n:Int))) (.len (.arg 0)))).holds [] { args:=[.list (ns.map .int)] }=true:=by
   have h4:=(holds_andW hc).1;rw[hn]at h4;exact h4
  have h5:=condW_of h4 (w_not (w_lt w_lit (w_len_list (w_arg rfl))));rw[length_map]at h5;refine Nat.le_of_not_lt λq=>?_;have q':(n:Int)<((ns.length:Nat):Int):=by omega
  first
   |(rw[decide_eq_true q']at h5;exact absurd h5 (by decide))
   |(simp at h5;omega)
 cases hwl with
 |cons w1 w2=>
  cases w2;cases w1 with
  |list ho hall=>exact⟨_,_,ns,rfl,rfl,ho,KG ns _ hall,hlen⟩
theorem Qg(l:OpenLaw)(args:List WData):l.row.toRowW.claim.post args (.bool true) args=true:=
 postW_of (r:=l.row.toRowW) (X:=(true==true))
  (show WShape.has [] (.bool true) .bool=true by first|rfl|decide|simp[WShape.has,WShape.arms,WShape.armsAll])
  (show(WTm.eq .res (.lit (.bool true))).value [] { args:=args,res:=some (.bool true),after:=args }=some (.bool (true==true))from w_eq_bool (w_res rfl) w_lit) rfl
theorem attach_call{l:OpenLaw}{n:Nat}{q:Program}{loose:List Str}{XP:(Str->Option Value)->Heap->Prop}{YP:World->Heap->Prop}{d:DefRec}
 (hn:l.most=some n) (hdf:d.params.defaults=[])
 (call:∀(w:World) (s₀ s₁:Shared) (mg mb:Str->Option Value) (fa:Addr) (o:Obj) (pm cd doc:Value) (a:Addr) (vs:List Value) (ns:List Int),
  Ground q loose [] XP w s₀ mg mb s₁.heap->YP w s₁.heap ->
  s₁.heap.get? fa=some o->o.data=.func (docDef d.name d.params d.body d.scope pm cd doc)->s₁.heap.CodeRec cd d.name->mg d.name=some (.ref fa) ->
  s₁.heap.get? a=some { cls:=.type "list",data:=.seq vs.toArray }->IntsAre vs ns->ns.length<=n->s₁.gens=#[] ->
  codeAny (model l.prog w) callerA (.call (.ref fa) ⟨[.ref a],[]⟩) (λr s'=>r=.ok (.ret (.bool true))/\OldK s₁.heap s'.heap/\s'.os=s₁.os/\AllBare s'.gens) s₁):
 WalkO q loose XP YP l.row.toRowW d [] (λf vs=>PySem.call f vs):=by
 intro w s₀ s₁ mg mb G Y fa o pm cd doc dV kV ho hd hcd hD hmg hg args vals as hpre hlay hrd hwl hlo;obtain rfl:dV=.none:=Dflts.none hD hdf;obtain rfl:kV=.none:=Dflts.noKw hD;obtain⟨a,vs,ns,rfl,rfl,hobj,hints,hlen⟩:=QL hn hpre hwl;refine enter_call (codeAny_mono (call w s₀ s₁ mg mb fa o pm cd doc a vs ns G Y ho (fd_plain hd) hcd hmg hobj hints hlen hg) λr s' hq=>?_);obtain⟨rfl,h2,h3,h4⟩:=hq;exact⟨.inl ⟨.bool true,.bool true,[],rfl,λ_=>rfl,.bool true,Qg l _,λ_=>⟨List.Pairwise.nil,λ_ hm=>(nomatch hm)⟩⟩,h2,h3,h4⟩
end Att
namespace L2
open PySem PySem.Spec PyProof.Rows
theorem LK:∀{vs:List Value} {ns:List Int},IntsAre vs ns->Vals (ns.map V.int) vs
 |_,_,.nil=>.nil
 |_,_,.cons n t h=>.cons ⟨t,rfl⟩ (LK h)
def DF(s:Stmt):Arguments:=match s with
 |.FunctionDef _ a _ _ _ _ _ _ _ _=>a
 |_=>{ posonlyargs:=[],args:=[],vararg:=none,kwonlyargs:=[],kw_defaults:=[],kwarg:=none,defaults:=[] }
def CD(s:Stmt):List Stmt:=match s with
 |.FunctionDef _ _ b _ _ _ _ _ _ _=>b
 |_=>[]
def AN(s:Stmt):Scope:=match s with
 |.FunctionDef _ _ _ _ _ _ sc _ _ _=>sc
 |_=>{ kind:=.function,names:=[],isGenerator:=false,isCoroutine:=false }
abbrev CX0:CXT:=λ_ _ _ _ _ _=>False
abbrev E0:XK:=λ_ _ _=>False
theorem YY{X:Cx}:NW CX0 X E0:=λ_ _ _ _ _ _ _ h=>h.elim
structure Fun(K:PySem.W.Frag)(x qual:Str)(st:Stmt)(f:Addr)(fd:FuncData):Prop where
 ex:∃(oc:Value) (od:Option Addr) (kV doc pm:Value) (an:Option Addr) (cdv ct:Value) (osl:Array (Option Value)),
  fd=PySem.W.fnOf x qual (DF st) (CD st) (AN st) .none kV doc pm an cdv ct/\K.lookup f=some ⟨oc,od,.func fd,osl⟩/\PySem.W.codeIn K cdv qual=true
 kp:PySem.W.keepIn K (.ref f)=true
section
variable{P:Program}{w:World}{K:PySem.W.Frag}{mg:Str->Option Value}{base:Heap}
theorem Fun.ok{x qual:Str}{st:Stmt}{f:Addr}{fd:FuncData}{N ps:List Str}{k:Nat}{sp:Sp}(F:Fun K x qual st f fd)(S:FnScope N ps (AN st))(len:∀vs H Q E,sp vs H Q E->vs.length=ps.length)
 (hbody:∀(cdv:Value) (A:Around) (outer:List Env) (s:Shared) (H:Hp) (vs:List V) (Q:VK) (E:XK),Room k (A.deeper (envOfC qual (AN st) s.heap.objs.size f cdv))->sp vs H Q E ->
  ∃t,PSs (Hx CX0 P w K mg base N qual (AN st) f cdv A outer s H E).nox (CD st) t/\t { nx:=λ_ H'=>Q .non H',rt:=Q } (E1 N vs) H):FnOk P w K mg base CX0 (k+1) f fd ps sp:=by
 obtain⟨oc,od,kV,doc,pm,an,cdv,ct,osl,rfl,lk,hcd⟩:=F.ex;refine U7 lk hcd S len λA outer s H vs Q E hr hsp=>?_;obtain⟨t,h,q⟩:=hbody cdv A outer s H vs Q E hr hsp;exact⟨t,h.nox,q⟩
theorem Fun.binds{x qual:Str}{st:Stmt}{f:Addr}{fd:FuncData}{ps:List Str}(F:Fun K x qual st f fd)
 (h:∀(kV doc pm:Value) (an:Option Addr) (cdv ct:Value) (us:List Value),us.length=ps.length->bindArgs (PySem.W.fnOf x qual (DF st) (CD st) (AN st) .none kV doc pm an cdv ct) ⟨us,[]⟩=pure (ps.zip us)):Binds K fd ps []:=by
 obtain⟨oc,od,kV,doc,pm,an,cdv,ct,osl,rfl,lk,hcd⟩:=F.ex;exact .all (h kV doc pm an cdv ct)
theorem NA{x qual:Str}{st:Stmt}{f:Addr}{oc:Value}{od an:Option Addr}{osl:Array (Option Value)}{kV doc pm cdv ct:Value}(l:K.lookup f=some ⟨oc,od,.func (PySem.W.fnOf x qual (DF st) (CD st) (AN st) .none kV doc pm an cdv ct),osl⟩)
 (c:PySem.W.codeIn K cdv qual=true) (k:PySem.W.keepIn K (.ref f)=true):Fun K x qual st f (PySem.W.fnOf x qual (DF st) (CD st) (AN st) .none kV doc pm an cdv ct):=⟨⟨oc,od,kV,doc,pm,an,cdv,ct,osl,rfl,l,c⟩,k⟩
end
theorem Ea{A:Around}{k:Nat}(hr:Room k A):A.units+1<cLine:=Nat.lt_of_le_of_lt (Nat.add_le_add_left (by decide:1<=64) _) hr.units
theorem QJ{n:Nat}(h:n<=1000):n<sizeLine:=Nat.lt_of_le_of_lt h (by decide)
section
variable{κ:Type}[DecidableEq κ]
def Ef(kvs:List (κ×V))(k:κ):Option V:=(kvs.find? λkv=>decide (kv.1=k)).map (·.2)
def Cr(kvs:List (κ×V))(k:κ)(v:V):List (κ×V):=
 if(kvs.any λkv=>decide (kv.1=k))=true then kvs.map (λkv=>if kv.1=k then(kv.1,v)else kv)else kvs++[(k,v)]
theorem FX{p:κ×V}{r:List (κ×V)}{k:κ}(e:p.1=k):Ef (p::r) k=some p.2:=by simp[Ef,find?_cons,e]
theorem FY{p:κ×V}{r:List (κ×V)}{k:κ}(e:¬ p.1=k):Ef (p::r) k=Ef r k:=by simp[Ef,find?_cons,e]
theorem ML(k:κ):∀kvs:List (κ×V),(kvs.any λkv=>decide (kv.1=k))=(Ef kvs k).isSome
 |[]=>rfl
 |p::r=>by
  rw[any_cons];by_cases e:p.1=k
  .simp only[FX e,decide_eq_true e,Bool.true_or,Option.isSome_some]
  .rw[FY e,decide_eq_false e,Bool.false_or];exact ML k r
theorem G4(kvs:List (κ×V))(k:κ)(v:V):(Cr kvs k v).length<=kvs.length+1:=by
 unfold Cr;split
 .rw[length_map];omega
 .rw[length_append,length_cons,length_nil];omega
theorem RelO.isSome_eq{o:Option V}{u:Option Value}(r:RelO o u):o.isSome=u.isSome:=by
 cases o with
 |none=>cases u with
  |none=>rfl
  |some _=>exact(show False from r).elim
 |some _=>cases u with
  |none=>exact(show False from r).elim
  |some _=>rfl
theorem KV.val{kvs:List (κ×V)}{vs:List (κ×Value)}(r:KV kvs vs)(k:κ):RelO (Ef kvs k) (valueAt vs k):=by
 unfold KV at r
 induction r with
 |nil=>exact True.intro
 |@cons p q ps qs h t ih=>
  obtain⟨h1,h2⟩:=h;by_cases e:p.1=k
  .have e':q.1=k:=h1.symm.trans e;have b:valueAt (q::qs) k=some q.2:=by simp[valueAt,find?_cons,e']
   rw[FX e,b];exact h2
  .have e':¬ q.1=k:=λz=>e (h1.trans z);have b:valueAt (q::qs) k=valueAt qs k:=by simp[valueAt,find?_cons,e']
   rw[FY e,b];exact ih
theorem KV.any{kvs:List (κ×V)}{vs:List (κ×Value)}(r:KV kvs vs)(k:κ):(kvs.any λkv=>decide (kv.1=k))=vs.any λkv=>decide (kv.1=k):=by
 unfold KV at r
 induction r with
 |nil=>rfl
 |cons h t ih=>rw[any_cons,any_cons,ih,h.1]
theorem KV.repl{kvs:List (κ×V)}{vs:List (κ×Value)}(r:KV kvs vs)(k:κ){y:V}{u:Value}(ry:RelV y u):
 KV (kvs.map λkv=>if kv.1=k then(kv.1,y)else kv) (vs.map λkv=>if kv.1=k then(kv.1,u)else kv):=by
 unfold KV at r ⊢
 induction r with
 |nil=>exact .nil
 |@cons p q ps qs h t ih=>
  rw[map_cons,map_cons];refine .cons ?_ ih;obtain⟨h1,h2⟩:=h;by_cases e:p.1=k
  .rw[if_pos e,if_pos (h1.symm.trans e)];exact⟨h1,ry⟩
  .rw[if_neg e,if_neg (λz=>e (h1.trans z))];exact⟨h1,h2⟩
theorem KV.put{kvs:List (κ×V)}{vs:List (κ×Value)}(r:KV kvs vs)(k:κ){y:V}{u:Value}(ry:RelV y u):KV (Cr kvs k y) (stored vs k u):=by
 unfold Cr stored;rw[r.any k];by_cases e:(vs.any λkv=>decide (kv.1=k))=true
 .rw[if_pos e,if_pos e];exact r.repl k ry
 .rw[if_neg e,if_neg e];exact Paired.snoc r ⟨rfl,ry⟩
theorem KV.length{kvs:List (κ×V)}{vs:List (κ×Value)}(r:KV kvs vs):kvs.length=vs.length:=Paired.length r
end
theorem M5{P:Program}{w:World}{k:Key}{u:Value}(r:RelV (kV k) u):(Bq P w).is k u=true:=by
 cases k with
 |inl i=>obtain⟨t,e⟩:=(show ∃t,u=Value.int i t from r);subst e;exact Nf P w i t
 |inr x=>obtain⟨t,e⟩:=(show ∃t,u=Value.str x t from r);subst e;exact Nd P w x t
theorem LX{P:Program}{w:World}:∀{ks:List Key} {us:List Value},Vals (ks.map kV) us->ItemsAre (Bq P w) ks us
 |[],_,r=>by rw[map_nil]at r;cases r;exact .nil
 |k::ks,_,r=>by
  rw[map_cons]at r;cases r with
  |cons h t=>exact .cons (M5 h) (LX t)
abbrev KT(H:Hp):List (List Key×V)->List (List Key×Addr×Value)->Prop:=Paired λp q=>p.1=q.1/\H q.2.1=some (.tup (p.1.map kV))/\RelV p.2 q.2.2
theorem KT.val{H:Hp}{kvs:List (List Key×V)}{xs:List (List Key×Addr×Value)}(r:KT H kvs xs)(k:List Key):RelO (Ef kvs k) ((atKey xs k).map (·.2)):=by
 induction r with
 |nil=>exact True.intro
 |@cons p q ps qs h t ih=>
  obtain⟨h1,_,h2⟩:=h;by_cases e:p.1=k
  .have e':q.1=k:=h1.symm.trans e;have b:atKey (q::qs) k=some q.2:=by simp[atKey,find?_cons,e']
   rw[FX e,b];exact h2
  .have e':¬ q.1=k:=λz=>e (h1.trans z);have b:atKey (q::qs) k=atKey qs k:=by simp[atKey,find?_cons,e']
   rw[FY e,b];exact ih
theorem KT.repl{H:Hp}{kvs:List (List Key×V)}{xs:List (List Key×Addr×Value)}(r:KT H kvs xs)(k:List Key){y:V}{u:Value}(ry:RelV y u):
 KT H (kvs.map λkv=>if kv.1=k then(kv.1,y)else kv) (xs.map (putAt k u)):=by
 induction r with
 |nil=>exact .nil
 |@cons p q ps qs h t ih=>
  rw[map_cons,map_cons];refine .cons ?_ ih;obtain⟨h1,h2,h3⟩:=h;unfold putAt;by_cases e:p.1=k
  .rw[if_pos e,if_pos (h1.symm.trans e)];exact⟨h1,h2,ry⟩
  .rw[if_neg e,if_neg (λz=>e (h1.trans z))];exact⟨h1,h2,h3⟩
theorem KT.put{H:Hp}{kvs:List (List Key×V)}{xs:List (List Key×Addr×Value)}(r:KT H kvs xs)(k:List Key){b:Addr}{y:V}{u:Value}(hb:H b=some (.tup (k.map kV)))(ry:RelV y u):
 KT H (Cr kvs k y) (storedH xs k b u):=by
 have e:(kvs.any λkv=>decide (kv.1=k))=(atKey xs k).isSome:=by
  rw[ML,(r.val k).isSome_eq,Option.isSome_map]
 unfold Cr storedH;rw[e];by_cases q:(atKey xs k).isSome=true
 .rw[if_pos q,if_pos q];exact r.repl k ry
 .rw[if_neg q,if_neg q];exact Paired.snoc r ⟨rfl,hb,ry⟩
theorem KT.keeps{H H':Hp}{kvs:List (List Key×V)}{xs:List (List Key×Addr×Value)}(r:KT H kvs xs)(ht:∀b ys,H b=some (.tup ys)->H' b=some (.tup ys)):KT H' kvs xs:=
 Paired.mapP r λ_ _ z=>⟨z.1,ht _ _ z.2.1,z.2.2⟩
section
variable{P:Program}{w:World}{H:Hp}{h:Heap}{a:Addr}
theorem Tr{u:HO}(ok:HOk P w H h)(e:Rd H a u):ObjOk P w H h a u:=e.ok ok
theorem Pf{kvs:List (Key×V)}(ok:HOk P w H h)(e:Rd H a (.dK kvs)):kvs.length<=sizeLine/\(a==sysModules)=false/\∃vs,KV kvs vs/\h.DictOf (Bq P w) a vs:=
 show ObjOk P w H h a (.dK kvs)from Tr ok e
theorem U9{kvs:List (Key×V)}(ok:HOk P w H h)(e:H a=some (.dK kvs)):kvs.length<=sizeLine/\(a==sysModules)=false/\∃vs,KV kvs vs/\h.DictOf (Bq P w) a vs:=Pf ok (.inl e)
theorem N5{ks:List Key}(ok:HOk P w H h)(e:H a=some (.tup (ks.map kV))):(tupleKind (Bq P w)).is h ks a:=by
 obtain⟨_,its,r,o,h1,h2,⟨n,h3⟩,_⟩:=(show ObjOk P w H h a (.tup (ks.map kV))from ok a _ e)
 exact⟨o,its.toArray,n,h1,h2,h3,by simpa using LX r⟩
theorem Pe{kvs:List (List Key×V)}(ok:HOk P w H h)(e:Rd H a (.dT kvs)):kvs.length<=sizeLine/\(a==sysModules)=false /\
 ∃xs,KT H kvs xs/\h.DictOfH (tupleKind (Bq P w)) a xs:=by
 obtain⟨z,y,xs,r,o,es,ep,h1,h2,h3,h4,h5⟩:=(show ObjOk P w H h a (.dT kvs)from Tr ok e)
 refine⟨z,y,xs,r,o,es,ep,h1,h2,h3,h4,λx hx=>?_,h5⟩;have all:∀{l:List (List Key×V)} {m:List (List Key×Addr×Value)},KT H l m->∀x∈m,(tupleKind (Bq P w)).is h x.1 x.2.1:=by
  intro l m q
  induction q with
  |nil=>intro x hx;exact nomatch hx
  |@cons p q ps qs hq t ih=>
   intro x hx;rcases mem_cons.mp hx with e|hx
   .subst e;exact N5 ok (by rw[<- hq.1];exact hq.2.1)
   .exact ih x hx
 exact all r x hx
theorem Yr{kvs:List (List Key×V)}(ok:HOk P w H h)(e:H a=some (.dT kvs)):kvs.length<=sizeLine/\(a==sysModules)=false /\
 ∃xs,KT H kvs xs/\h.DictOfH (tupleKind (Bq P w)) a xs:=Pe ok (.inl e)
end
def DGet(H:Hp)(a:Addr)(y:V)(r:Option V):Prop:=
 (∃kvs k,Rd H a (.dK kvs)/\y=kV k/\r=Ef kvs k)∨∃kvs k b,Rd H a (.dT kvs)/\y=.ref b/\H b=some (.tup (k.map kV))/\r=Ef kvs k
def DPut(H:Hp)(a:Addr)(y v:V)(H':Hp):Prop:=
 (∃kvs k,H a=some (.dK kvs)/\y=kV k/\kvs.length<sizeLine/\H'=upd H a (.dK (Cr kvs k v))) ∨
 ∃kvs k b,H a=some (.dT kvs)/\y=.ref b/\H b=some (.tup (k.map kV))/\kvs.length<sizeLine/\H'=upd H a (.dT (Cr kvs k v))
theorem DGet.k{H:Hp}{a:Addr}{kvs:List (Key×V)}{k:Key}(e:H a=some (.dK kvs)):DGet H a (kV k) (Ef kvs k):=.inl ⟨kvs,k,.inl e,rfl,rfl⟩
theorem DPut.k{H:Hp}{a:Addr}{kvs:List (Key×V)}{k:Key}{v:V}(e:H a=some (.dK kvs))(hl:kvs.length<sizeLine):DPut H a (kV k) v (upd H a (.dK (Cr kvs k v))):=.inl ⟨kvs,k,e,rfl,hl,rfl⟩
section
variable{X:Cx}{pins:List (Addr×Obj)}{σ:St}{H:Hp}{s:Shared}{a:Addr}{y v:V}{u r:Value}{o:Option V}{A:Around}{E:Value->Shared->Prop}
theorem Inv.big(I:Inv X pins σ H s):sysModules<s.heap.objs.size:=by
 have h:mainGlobals<s.heap.objs.size:=(I.mod.glob.keeps I.bk).lt;exact lt_trans (by decide) h
theorem Rg{Q:Value->Shared->Prop}(hu:A.units+1<cLine)(I:Inv X pins σ H s)(g:DGet H a y (some v))(ry:RelV y u)(h:∀w' s',Inv X pins σ H s'->RelV v w'->Q w' s'):
 wpAny (model X.prog X.w) A (getItem (.ref a) u) Q E s:=by
 rcases g with⟨kvs,k,e,ey,l⟩|⟨kvs,k,b,e,ey,eb,l⟩
 .subst ey;obtain⟨z,hd,vs,rel,dd⟩:=Pf I.hok e;obtain⟨w',hw,rw'⟩:=RelO.some_of (v:=v) (o:=valueAt vs k) (by rw[l];exact rel.val k);exact wpAny_getItem_of (M5 ry) dd.mapOf hw (h w' _ (I.tok _) rw')
 .subst ey;cases(show u=Value.ref b from ry);obtain⟨z,hd,xs,rel,dd⟩:=Pe I.hok e;obtain⟨w',hw,rw'⟩:=RelO.some_of (v:=v) (o:=(atKey xs k).map (·.2)) (by rw[l];exact rel.val k);obtain⟨p,hp,hp2⟩:=fL hw;refine wpAny_getItem_heap (tupleKind_room_in1 hu) (N5 I.hok eb) dd hp ?_;rw[hp2];exact h w' _ (I.tok _) rw'
theorem LB{h':Heap}{t':Nat}{ob:HO}(I:Inv X pins σ H s)(mu:Mut (H a))(hs:Heap.SameBut a s.heap h')(he:∃q,h'.get? a=some q)(new:ObjOk X.prog X.w (upd H a ob) h' a ob):
 Inv X pins σ (upd H a ob) { s with heap:=h',toks:=t' }:=
 I.write (x:=a) (e:=a) mu (.inl rfl) (λb q hb z=>(hs.2 b hb).trans z) he new
theorem Rc{P:Program}{w:World}{H':Hp}{h':Heap}{kvs:List (Key×V)}{vs:List (Key×Value)}(z:kvs.length<=sizeLine)(hd:(a==sysModules)=false)(rel:KV kvs vs)(dd:h'.DictOf (Bq P w) a vs):
 ObjOk P w H' h' a (.dK kvs):=⟨z,hd,vs,rel,dd⟩
theorem Rf{H':Hp}{Q:Unit->Shared->Prop}(hu:A.units+1<cLine)(I:Inv X pins σ H s)(g:DPut H a y v H')(ry:RelV y u)(rv:RelV v r)(h:∀s',Inv X pins σ H' s'->Q () s'):
 wpAny (model X.prog X.w) A (setItem (.ref a) u r) Q E s:=by
 rcases g with⟨kvs,k,e,ey,l,eH⟩|⟨kvs,k,b,e,ey,eb,l,eH⟩
 .subst ey eH;obtain⟨z,hd,vs,rel,dd⟩:=U9 I.hok e;have hz:vs.length<=sizeLine:=by rw[<- rel.length];exact z
  have hl:(Cr kvs k v).length<=sizeLine:=by have:=G4 kvs k v;omega
  refine wpAny_setItem_pairs (hsz:=hz) (M5 ry) dd λh' dd' hs=>h _ ?_;have he:∃q,h'.get? a=some q:=let ⟨q,_,_,hq,_⟩:=dd';⟨q,hq⟩
  exact LB I (by rw[e];exact True.intro) hs he (Rc hl hd (rel.put k rv) dd')
 .subst ey eH;cases(show u=Value.ref b from ry);obtain⟨z,hd,xs,rel,dd⟩:=Yr I.hok e;have hz:xs.length<=sizeLine:=by rw[<- Paired.length rel];exact z
  have hl:(Cr kvs k v).length<=sizeLine:=by have:=G4 kvs k v;omega
  refine wpAny_setItem_heap (hsz:=hz) (tupleKind_room_in1 hu) (N5 I.hok eb) dd λh' dd' hs=>h _ ?_;obtain⟨q,es,ep,hq,h2,h3,h4,_,h5⟩:=dd';refine LB I (by rw[e];exact True.intro) hs ⟨q,hq⟩ ⟨hl,hd,_,(rel.put k eb rv).keeps λc ys ec=>?_,q,es,ep,hq,h2,h3,h4,h5⟩;rw[AJ (Yc ec e (λz=>nomatch z))];exact ec
end
def Tj(i:Expr):Prop:=∀ov iv,subscripted i false ov iv=operate [ov,iv] (getItem ov iv)
theorem UR{prog:Program}{w:World}{A:Around}{E:Value->Shared->Prop}{s:Shared}{env:Env}{value slice:Expr}{pos:Pos}{T id:String}{Q:Value->Shared->Prop}
 (hl:typeLookup (.type T) "__getitem__"=pure (some (.builtin id))) (hs:Tj slice)
 (h:wpAny (model prog w) A (eval value env) (λo s₁=>wpAny (model prog w) A (eval slice env) (λi s₂=>s₂.TypeIs o T/\wpAny (model prog w) A (getItem o i) Q E s₂) E s₁) E s):
 wpAny (model prog w) A (eval (.Subscript value slice pos) env) Q E s:=by
 refine Subscript_ (wpAny_mono h (λo s₁ h₁=>wpAny_mono h₁ (λi s₂ h₂=>?_) λ_ _ x=>x) λ_ _ x=>x);obtain⟨hT,h₂⟩:=h₂;unfold subscriptTail;refine wpAny_bind ?_;rw[getitemInPython_of_ne hT.not_modules];refine wpAny_bind (wpAny_specialOf hT hl ?_);have fin:wpAny (model prog w) A (subscripted slice false o i) (λr s₃=>wpAny (model prog w) A (letTemporaryGo value o r >>= λ_=>pure r) Q E s₃) E s₂:=by
  rw[hs o i];exact wpAny_operating (wpAny_mono h₂ (λr s₃ h₃=>wpAny_bind (wpAny_letTemporaryGo (wpAny_pure h₃))) λ_ _ x=>x)
 first
  |exact wpAny_pure (wpAny_bind fin)
  |exact wpAny_bind (wpAny_pure (wpAny_bind fin))
  |exact wpAny_bind fin
theorem Ng{X:Cx}{pins:List (Addr×Obj)}{σ:St}{H:Hp}{s:Shared}{a:Addr}{y:V}{o:Option V}(I:Inv X pins σ H s)(g:DGet H a y o):s.TypeIs (.ref a) "dict":=by
 rcases g with⟨kvs,k,e,_,_⟩|⟨kvs,k,b,e,_,_,_⟩
 .obtain⟨_,_,vs,_,dd⟩:=Pf I.hok e;exact dd.typeIs
 .obtain⟨_,_,xs,_,dd⟩:=Pe I.hok e;exact dd.typeIs
def Om(td ty:TE):TE:=λσ H Q=>td σ H λx H1=>ty σ H1 λy H2=>∃a v,x=.ref a/\DGet H2 a y (some v)/\Q v H2
def Ou(td ty tv:TE):TS:=λD σ H=>tv σ H λv H1=>td σ H1 λx H2=>ty σ H2 λy H3=>∃a H4,x=.ref a/\DPut H3 a y v H4/\D.nx σ H4
section
variable{X:Cx}{o i e value:Expr}{pos pos' tpos:Pos}{td ty tv:TE}
theorem VQ(hu:X.A.units+1<cLine)(ho:PE X o td)(hi:PE X i ty)(hs:Tj i):PE X (.Subscript o i pos) (Om td ty):=by
 intro pins s σ H Q I h;refine UR PySem.F.slot_dict_getitem.lookup hs (thn (ho pins s σ H _ I h) λu s1 ⟨x,H1,I1,rx,q1⟩=>thn (hi pins s1 σ H1 _ I1 q1) λiv s2 ⟨y,H2,I2,ry,a,v,ex,g,q2⟩=>?_);subst ex;obtain rfl:u=Value.ref a:=rx;exact⟨Ng I2 g,Rg hu I2 g ry λw' s3 I3 rw'=>⟨v,H2,I3,rw',q2⟩⟩
theorem VA(hu:X.A.units+1<cLine)(ho:PE X o td)(hi:PE X i ty)(hv:PE X value tv)(hs:swapsWith value (some (.Subscript o i pos')) pos.line X.env=pure false):
 PS X (.Assign [.Subscript o i pos'] value pos) (Ou td ty tv):=by
 intro pins s σ H D I h;refine wpAny_Assign_Subscript (thn (hv pins s σ H _ I h) λr s1 ⟨v,H1,I1,rv,q1⟩=>thn (ho pins s1 σ H1 _ I1 q1) λu s2 ⟨x,H2,I2,rx,q2⟩=>thn (hi pins s2 σ H2 _ I2 q2) λiv s3 ⟨y,H3,I3,ry,a,H4,ex,g,q3⟩=>?_) hs;subst ex;obtain rfl:u=Value.ref a:=rx;exact Rf hu I3 g ry rv λs4 I4=>⟨σ,H4,I4,q3⟩
end
theorem TW{P:Program}{w:World}{H:Hp}(h:Heap)(hb:sysModules<h.objs.size):ObjOk P w H (h.push { cls:=.type "dict",data:=.dict #[] }) h.objs.size (.dK []):=
 ⟨zero_le _,beq_eq_false_iff_ne.mpr (Ne.symm (ne_of_lt hb)),[],.nil,Heap.DictOf.new h⟩
def HU:List (TE×TE)->St->Hp->(List (V×V)->Hp->Prop)->Prop
 |[],_,H,Q=>Q [] H
 |(tk,tv)::r,σ,H,Q=>tk σ H λx H1=>tv σ H1 λy H2=>HU r σ H2 λps H3=>Q ((x,y)::ps) H3
abbrev VV:List (V×V)->List (Value×Value)->Prop:=Paired λp q=>RelV p.1 q.1/\RelV p.2 q.2
def PPs(X:Cx)(pos:Pos)(keys:List (Option Expr))(values:List Expr)(trs:List (TE×TE)):Prop:=
 ∀(pins:List (Addr×Obj)) (s:Shared) (σ:St) (H:Hp) (Q:List (V×V)->Hp->Prop),Inv X pins σ H s->HU trs σ H Q ->
   wpAny (model X.prog X.w) X.A (evalPairs (pairTrees keys values X.env pos)) (λvs s'=>∃ps H',Inv X pins σ H' s'/\VV ps vs/\Q ps H') X.xe s
theorem VC{X:Cx}{pos:Pos}:PPs X pos [] [] []:=λpins s σ H Q I h=>pairTrees_nil_walk ⟨[],H,I,.nil,h⟩
theorem Ss{X:Cx}{pos:Pos}{k v:Expr}{ks:List (Option Expr)}{vs:List Expr}{tk tv:TE}{trs:List (TE×TE)}(hk:PE X k tk)(hv:PE X v tv)(hr:PPs X pos ks vs trs):
 PPs X pos (some k::ks) (v::vs) ((tk,tv)::trs):=λpins s σ H Q I h=>
 pairTrees_cons_walk (thn (hk pins s σ H _ I h) λu s1 ⟨x,H1,I1,rx,q1⟩=>thn (hv pins s1 σ H1 _ I1 q1) λw2 s2 ⟨y,H2,I2,ry,q2⟩=>
  thn (hr pins s2 σ H2 _ I2 q2) λws s3 ⟨ps,H3,I3,rel,q3⟩=>⟨(x,y)::ps,H3,I3,.cons ⟨rx,ry⟩ rel,q3⟩)
def F8(kvs more:List (Key×V)):List (Key×V):=more.foldl (λacc kv=>Cr acc kv.1 kv.2) kvs
theorem KV.merge:∀{more:List (Key×V)} {rs:List (Key×Value)} {kvs:List (Key×V)} {vs:List (Key×Value)},KV more rs->KV kvs vs->KV (F8 kvs more) (merged vs rs):=by
 intro more rs kvs vs r;unfold KV at r
 induction r generalizing kvs vs with
 |nil=>intro q;exact q
 |@cons p q ps qs h t ih=>
  intro r0;have e:KV (Cr kvs p.1 p.2) (stored vs q.1 q.2):=by
   have:=r0.put p.1 h.2;rw[<- h.1];exact this
  exact ih e
theorem HK:∀(more kvs:List (Key×V)),(F8 kvs more).length<=kvs.length+more.length
 |[],kvs=>by show kvs.length<=kvs.length+0;omega
 |p::r,kvs=>by
  have h1:=HK r (Cr kvs p.1 p.2);have h2:=G4 kvs p.1 p.2;show(F8 (Cr kvs p.1 p.2) r).length<=_;rw[length_cons];omega
theorem KQ{P:Program}{w:World}:∀{kvs:List (Key×V)} {ws:List (Value×Value)},VV (kvs.map λkv=>(kV kv.1,kv.2)) ws->∃rs,Carries (Bq P w) ws rs/\KV kvs rs
 |[],_,r=>by rw[map_nil]at r;cases r;exact⟨[],True.intro,.nil⟩
 |p::kvs,_,r=>by
  rw[map_cons]at r;cases r with
  |@cons a b as bs h t=>
   obtain⟨rs,c,q⟩:=KQ (P:=P) (w:=w) t;obtain⟨b1,b2⟩:=b;exact⟨(p.1,b2)::rs,⟨M5 h.1,rfl,c⟩,.cons ⟨rfl,h.2⟩ q⟩
def Ol(trs:List (TE×TE)):TE:=λσ H Q=>∀p,H p=none->HU trs σ (upd H p (.dK [])) λps H2=>H2 p=some (.dK [])/\∃kvs:List (Key×V),ps=kvs.map (λkv=>(kV kv.1,kv.2))/\kvs.length<=15/\Q (.ref p) (upd H2 p (.dK (F8 [] kvs)))
theorem VP{X:Cx}{pos:Pos}{keys:List (Option Expr)}{values:List Expr}{trs:List (TE×TE)}(h:PPs X pos keys values trs)(hall:keys.all (·.isSome)=true)(hl:keys.length=values.length)(h0:keys≠[])
 (h15:keys.length<=15):PE X (.Dict keys values pos) (Ol trs):=by
 intro pins s σ H Q I q;have hn:=I.hok.fresh (le_refl s.heap.objs.size);have I1:=I.laid (a:=s.heap.objs.size) (o:=.dK []) (h':=s.heap.push { cls:=.type "dict",data:=.dict #[] }) (t':=s.toks) (λ_ _ q=>Heap.get?_push_of_some _ q) (le_refl _) (TW s.heap I.big);refine wpAny_Dict_walk (knd:=Bq X.prog X.w) hall hl h0 h15 (thn (h pins _ σ _ _ I1 (q _ hn)) λws s2 ⟨ps,H2,I2,rel,e,kvs,ep,lk,q2⟩=>?_);subst ep;obtain⟨rs,c,rk⟩:=KQ (P:=X.prog) (w:=X.w) rel;obtain⟨z,hd,vs0,r0,dd⟩:=U9 I2.hok e;cases r0;refine⟨rs,c,dd,λh' dd' hs=>⟨.ref s.heap.objs.size,_,?_,rfl,q2⟩⟩;have hz:(F8 [] kvs).length<=sizeLine:=by
  have h1:=HK kvs [];rw[length_nil]at h1;rw[sizeLine_eq];omega
 have he:∃q,h'.get? s.heap.objs.size=some q:=let ⟨q,_,_,hq,_⟩:=dd';⟨q,hq⟩
 exact LB I2 (by rw[e];exact True.intro) hs he (Rc hz hd (rk.merge .nil) dd')
def Az(cells:List (Str×Addr)):List (Str×NameKind)->List (Str×Addr)->List (Str×Addr)
 |[],acc=>acc
 |(n,k)::r,acc=>if k==.free then Az cells r ((n,(cells.lookup n).getD 0)::acc)else Az cells r acc
theorem GU{env:Env}(f:Str×NameKind->List (Str×Addr)->Sem (ForInStep (List (Str×Addr))))
 (hf:∀name kind cs,f (name,kind) cs=if(kind==NameKind.free)=true then(do let a <- cellOf env name;pure (ForInStep.yield ((name,a)::cs)))else pure (ForInStep.yield cs)):
 ∀(names:List (Str×NameKind)) (acc:List (Str×Addr)),(∀y∈names,y.2=.free->∃c,env.cells.lookup y.1=some c)->forIn names acc f=pure (Az env.cells names acc)
 |[],acc,_=>rfl
 |(n,k)::r,acc,hy=>by
   rw[List.forIn_cons,hf];have ih:=λa=>GU f hf r a λz hz=>hy z (mem_cons_of_mem _ hz);by_cases hk:(k==NameKind.free)=true
   .obtain⟨c,hc⟩:=hy (n,k) mem_cons_self (by simpa using hk);have hc:env.cells.lookup n=some c:=hc;have e1:cellOf env n=pure c:=by unfold cellOf;rw[hc]
    rw[if_pos hk,e1];show forIn r ((n,c)::acc) f=_;have e2:Az env.cells ((n,k)::r) acc=Az env.cells r ((n,c)::acc):=by
     rw[Az,if_pos hk,hc];rfl
    rw[ih,e2]
   .rw[if_neg hk];show forIn r acc f=_;have e2:Az env.cells ((n,k)::r) acc=Az env.cells r acc:=by
     rw[Az,if_neg hk]
    rw[ih,e2]
theorem E5{scope:Scope}{env:Env}(h:∀y∈scope.names,y.2=.free->∃c,env.cells.lookup y.1=some c):closureFor scope env=pure (Az env.cells scope.names []):=by
 unfold closureFor;dsimp only;rw[GU _ (λname kind cs=>rfl) scope.names [] h];rfl
theorem Eb{cells:List (Str×Addr)}:∀{names:List (Str×NameKind)} {acc:List (Str×Addr)},(∀y∈names,y.2=.free->∃c,cells.lookup y.1=some c)->(∀x c,acc.lookup x=some c->cells.lookup x=some c) ->
 ∀x c,(Az cells names acc).lookup x=some c->cells.lookup x=some c
 |[],_,_,ha,x,c,e=>ha x c e
 |(n,k)::r,acc,hy,ha,x,c,e=>by
   unfold Az at e;have hr:∀y∈r,y.2=.free->∃c,cells.lookup y.1=some c:=λz hz=>hy z (mem_cons_of_mem _ hz);by_cases hk:(k==NameKind.free)=true
   .rw[if_pos hk]at e;refine Eb hr (λz d q=>?_) x c e;obtain⟨c0,hc0⟩:=hy (n,k) mem_cons_self (by simpa using hk);have hc0:cells.lookup n=some c0:=hc0;rw[lookup_cons]at q;by_cases hz:(z==n)=true
    .rw[hz,hc0]at q;have:z=n:=by simpa using hz
     subst this;simpa [hc0]using q
    .have hz':(z==n)=false:=by simpa using hz
     rw[hz']at q;exact ha z d q
   .rw[if_neg hk]at e;exact Eb hr ha x c e
theorem Dg{cells:List (Str×Addr)}:∀{names:List (Str×NameKind)} {acc:List (Str×Addr)} {x:Str},((acc.lookup x).isSome=true∨(x,NameKind.free)∈names)->((Az cells names acc).lookup x).isSome=true
 |[],_,_,h=>h.elim id λz=>by cases z
 |(n,k)::r,acc,x,h=>by
   unfold Az;by_cases hk:(k==NameKind.free)=true
   .rw[if_pos hk];refine Dg ?_;by_cases hx:(x==n)=true
    .exact .inl (by rw[lookup_cons,hx];rfl)
    .have hx':(x==n)=false:=by simpa using hx
     rcases h with h|h
     .exact .inl (by rw[lookup_cons,hx'];exact h)
     .rcases mem_cons.mp h with h|h
      .cases h;simp at hx
      .exact .inr h
   .rw[if_neg hk];refine Dg ?_;rcases h with h|h
    .exact .inl h
    .rcases mem_cons.mp h with h|h
     .cases h;simp at hk
     .exact .inr h
def DG:Nat->List (Str×NameKind)->List (Str×Addr)
 |_,[]=>[]
 |n,(x,k)::r=>if k==.cell then DG (n+1) r++[(x,n)]else DG n r
theorem CO:∀(names:List (Str×NameKind)) (n:Nat) (acc:List (Str×Addr)),cellsFrom n names acc=DG n names++acc
 |[],_,_=>rfl
 |(x,k)::r,n,acc=>by
   unfold cellsFrom DG;by_cases hk:(k==NameKind.cell)=true
   .rw[if_pos hk,if_pos hk,CO r (n+1),append_assoc];rfl
   .rw[if_neg hk,if_neg hk,CO r n]
theorem JH:∀(names:List (Str×NameKind)) (n:Nat) (x:Str) (c:Addr),(DG n names).lookup x=some c->(x,NameKind.cell)∈names
 |[],_,_,_,e=>by cases e
 |(y,k)::r,n,x,c,e=>by
   unfold DG at e;by_cases hk:(k==NameKind.cell)=true
   .rw[if_pos hk]at e;have hk':k=.cell:=by simpa using hk
    rw[lookup_append]at e;cases q:(DG (n+1) r).lookup x with
    |some d=>exact mem_cons_of_mem _ (JH r _ x d q)
    |none=>
     rw[q]at e;simp only[none_or,lookup_cons]at e;by_cases hx:(x==y)=true
     .have:x=y:=by simpa using hx
      subst this;subst hk';exact mem_cons_self
     .have hx':(x==y)=false:=by simpa using hx
      rw[hx']at e;cases e
   .rw[if_neg hk]at e;exact mem_cons_of_mem _ (JH r n x c e)
theorem JI:∀(names:List (Str×NameKind)) (n:Nat) (x:Str),(x,NameKind.cell)∈names->∃c,(DG n names).lookup x=some c
 |[],_,_,h=>by cases h
 |(y,k)::r,n,x,h=>by
   unfold DG;by_cases hk:(k==NameKind.cell)=true
   .rw[if_pos hk,lookup_append];rcases mem_cons.mp h with h|h
    .obtain⟨rfl,rfl⟩:=Prod.mk.inj h;cases q:(DG (n+1) r).lookup x with
     |some d=>exact⟨d,rfl⟩
     |none=>exact⟨n,by simp[lookup_cons]⟩
    .obtain⟨c,hc⟩:=JI r (n+1) x h;exact⟨c,by rw[hc];rfl⟩
   .rw[if_neg hk];rcases mem_cons.mp h with h|h
    .cases h;simp at hk
    .exact JI r n x h
def Pr(scope:Scope)(C:Addr)(env:Env):Env:=
 { scope:=relabel scope env,locals:=C,globals:=env.globals,cells:=cellsFrom (C+1) scope.names (Az env.cells scope.names []),qual:=env.qual,func:=none,code:=env.code,frame:=env.frame,builtins:=env.builtins }
theorem Ks{M:Model}{A:Around}{E:Value->Shared->Prop}{s:Shared}{scope:Scope}{cl:List (Str×Addr)}{env:Env}{Q:Env->Shared->Prop}
 (hQ:∀h',(∀b o,s.heap.get? b=some o->h'.get? b=some o)->h'.Ns s.heap.objs.size (λ_=>none)->(∀x c,(DG (s.heap.objs.size+1) scope.names).lookup x=some c->h'.IsCell c none/\s.heap.objs.size<c) ->
  ((DG (s.heap.objs.size+1) scope.names).Pairwise λx y=>x.2≠y.2) ->
  Q { scope:=scope,locals:=s.heap.objs.size,globals:=env.globals,cells:=cellsFrom (s.heap.objs.size+1) scope.names cl,qual:=env.qual,func:=none,code:=env.code,frame:=env.frame,builtins:=env.builtins } { s with heap:=h' }):
 wpAny M A (newFunctionEnv scope env.globals cl [] env.qual none .none (some env)) Q E s:=by
 simp only[newFunctionEnv,Option.isSome_some,if_true];refine wpAny_bind (wpAny_alloc ?_);refine wpAny_bind (wpAny_layCells _ (λname kind cells=>by cases hkc:kind==NameKind.cell<;>simp[hkc]) _ _ _ _ ?_);have ok:=cellsFrom_ok scope.names (s.heap.push { cls:=.type "dict",data:=.dict #[] }) (s.heap.objs.size+1) [] ⟨λ_ _ hm=>(nomatch hm),List.Pairwise.nil⟩ (by rw[Heap.size_push];exact le_refl _);rw[Heap.size_push,CO,append_nil]at ok;rw[show({ s with heap:=s.heap.push { cls:=.type "dict",data:=.dict #[] } }:Shared).heap.objs.size=s.heap.objs.size+1 from Heap.size_push ..];refine wpAny_bind (wpAny_pure (wpAny_pure ?_));exact hQ _ (λb o e=>pushCells_keeps _ _ b o (Heap.get?_push_of_some _ e)) ((Heap.Ns.new s.heap (.type "dict")).keeps (pushCells_keeps _ _)) (λx c hc=>⟨(ok.empty x c (mem_of_lookup hc)).1,(ok.empty x c (mem_of_lookup hc)).2⟩) ok.apart
theorem LP:∀{names:List (Str×NameKind)} {x:Str} {k k':NameKind},(names.map (·.1)).Nodup->(x,k)∈names->(x,k')∈names->k=k'
 |[],_,_,_,_,h,_=>by cases h
 |(y,q)::r,x,k,k',nd,h,h'=>by
   have nd:(y::r.map (·.1)).Nodup:=nd;obtain⟨n1,n2⟩:=nodup_cons.mp nd;have out:∀{z:NameKind},(y,z)∈r->False:=λm=>n1 (mem_map.mpr ⟨_,m,rfl⟩);rcases mem_cons.mp h with e|e<;>rcases mem_cons.mp h' with e'|e'
   .cases e;cases e';rfl
   .cases e;exact(out e').elim
   .cases e';exact(out e).elim
   .exact LP n2 e e'
theorem HH{env:Env}{x:Str}:∀{names:List (Str×NameKind)},names.lookup x=some .free ->
 (names.map λ(n,k)=>if(k==NameKind.free&&env.scope.kind==.function&&env.kindOf n==some .cell)then(n,NameKind.cell)else(n,k)).lookup x=some .cell ∨
 (names.map λ(n,k)=>if(k==NameKind.free&&env.scope.kind==.function&&env.kindOf n==some .cell)then(n,NameKind.cell)else(n,k)).lookup x=some .free
 |[],h=>by simp at h
 |(n,k)::r,h=>by
   have ih:=@HH env x r;show List.lookup x ((if(k==NameKind.free&&env.scope.kind==.function&&env.kindOf n==some .cell)=true then(n,NameKind.cell)else(n,k))::_)=_∨List.lookup x ((if(k==NameKind.free&&env.scope.kind==.function&&env.kindOf n==some .cell)=true then(n,NameKind.cell)else(n,k))::_)=_;cases hx:x==n with
   |true=>
    simp only[lookup_cons,hx]at h;cases h;by_cases hc:(NameKind.free==NameKind.free&&env.scope.kind==.function&&env.kindOf n==some .cell)=true
    .rw[if_pos hc];exact .inl (by simp only[lookup_cons,hx])
    .rw[if_neg hc];exact .inr (by simp only[lookup_cons,hx])
   |false=>
    simp only[lookup_cons,hx]at h;by_cases hc:(k==NameKind.free&&env.scope.kind==.function&&env.kindOf n==some .cell)=true
    .rw[if_pos hc];simp only[lookup_cons,hx];exact ih h
    .rw[if_neg hc];simp only[lookup_cons,hx];exact ih h
theorem HX{env:Env}{x:Str}:∀{names:List (Str×NameKind)},
 ((names.map λ(n,k)=>if(k==NameKind.free&&env.scope.kind==.function&&env.kindOf n==some .cell)then(n,NameKind.cell)else(n,k)).lookup x=some .cell ∨
 (names.map λ(n,k)=>if(k==NameKind.free&&env.scope.kind==.function&&env.kindOf n==some .cell)then(n,NameKind.cell)else(n,k)).lookup x=some .free) ->
 names.lookup x=some .cell∨names.lookup x=some .free
 |[],h=>by simp at h
 |(n,k)::r,h=>by
   have ih:=@HX env x r;have h:List.lookup x ((if(k==NameKind.free&&env.scope.kind==.function&&env.kindOf n==some .cell)=true then(n,NameKind.cell)else(n,k))::_)=_∨List.lookup x ((if(k==NameKind.free&&env.scope.kind==.function&&env.kindOf n==some .cell)=true then(n,NameKind.cell)else(n,k))::_)=_:=h;cases hx:x==n with
   |true=>
    by_cases hc:(k==NameKind.free&&env.scope.kind==.function&&env.kindOf n==some .cell)=true
    .have hk:k=.free:=by
      have:=(Bool.and_eq_true _ _ ▸ (Bool.and_eq_true _ _ ▸ hc).1:(k==NameKind.free)=true/\_).1;simpa using this
     exact .inr (by simp only[lookup_cons,hx,hk])
    .rw[if_neg hc]at h;simp only[lookup_cons,hx]at h ⊢;exact h
   |false=>
    simp only[lookup_cons,hx];refine ih ?_;by_cases hc:(k==NameKind.free&&env.scope.kind==.function&&env.kindOf n==some .cell)=true
    .rw[if_pos hc]at h;simp only[lookup_cons,hx]at h;exact h
    .rw[if_neg hc]at h;simp only[lookup_cons,hx]at h;exact h
def cCx(X:Cx)(N':List Str)(scope:Scope)(s:Shared)(H:Hp)(ex:List Addr):Cx:=
 { X with N:=N',s₀:=s,H₀:=H,env:=Pr scope s.heap.objs.size X.env,outer:=X.stack,ex:=ex,fn:=λx=>decide ((x,NameKind.cell)∈scope.names),pn:=[],xe:=λ_ _=>False }
structure CSc(X:Cx)(scope:Scope)(fr:List Str)(ix:List Nat):Prop where
 kind:scope.kind=.function
 nd:(scope.names.map (·.1)).Nodup
 free:(scope.names.all λy=>y.2 != .free||X.env.kindOf y.1==some .cell||X.env.kindOf y.1==some .free)=true
 frs:(fr.all λx=>scope.names.lookup x==some .free)=true
 ixs:fr.map some=ix.map λi=>X.N[i]?
 loc:(scope.names.all λy=>y.2 != .local||scope.names.lookup y.1==some .local)=true
def GA(n:Nat)(ix:List Nat)(σ:St):St:=List.replicate n none++ix.map λi=>(σ[i]?).join
section
variable{X:Cx}{scope:Scope}{fr loc:List Str}{ix:List Nat}{pins:List (Addr×Obj)}{σ:St}{H:Hp}{s:Shared}
theorem CSc.outer(S:CSc X scope fr ix){y:Str×NameKind}(hy:y∈scope.names)(e:y.2=.free):X.env.kindOf y.1=some .cell∨X.env.kindOf y.1=some .free:=by
 have h:=all_eq_true.mp S.free y hy;rw[e]at h;simpa using h
theorem CSc.clos(S:CSc X scope fr ix)(ok:X.Ok):∀y∈scope.names,y.2=.free->∃c,X.env.cells.lookup y.1=some c:=λy hy e=>ok.has y.1 (S.outer hy e)
theorem Dx(S:CSc X scope fr ix)(ok:X.Ok){n:Nat}{x:Str}{c:Addr}(e:(cellsFrom n scope.names (Az X.env.cells scope.names [])).lookup x=some c):
 (DG n scope.names).lookup x=some c∨X.env.cells.lookup x=some c:=by
 rw[CO,lookup_append]at e;cases q:(DG n scope.names).lookup x with
 |some d=>rw[q]at e;exact .inl e
 |none=>
  rw[q]at e;exact .inr (Eb (S.clos ok) (λ_ _ z=>by simp at z) x c e)
theorem JO(S:CSc X scope fr ix)(I:Inv X pins σ H s){ex:List Addr}(hex:∀b∈ex,FpOk X pins H b){h':Heap}(hk:∀b o,s.heap.get? b=some o->h'.get? b=some o)(hn:h'.Ns s.heap.objs.size λ_=>none)
 (ho:∀x c,(DG (s.heap.objs.size+1) scope.names).lookup x=some c->h'.IsCell c none/\s.heap.objs.size<c) (ha:(DG (s.heap.objs.size+1) scope.names).Pairwise λx y=>x.2≠y.2) (hlt:∀b∈ex,b<s.heap.objs.size):
 Inv (cCx X (loc++fr) scope s H ex) [] (GA loc.length ix σ) H { s with heap:=h' }:=by
 have old:∀x c,X.env.cells.lookup x=some c->c<s.heap.objs.size:=λx c e=>let ⟨v,z⟩:=I.cell x c e;z.lt
 have lenix:fr.length=ix.length:=by simpa using congrArg List.length S.ixs
 refine⟨⟨I.ok.mod,?_,I.ok.glob,I.ok.blt,le_refl _,?_,?_,?_,I.ok.hd,I.ok.frames,.inl rfl,?_,I.bs,le_trans I.ok.bsz I.sz,?_,?_,I.stack,I.stkFree⟩,rfl,I.bare,Un.kept hk,⟨_,hn,?_⟩,?_,I.hok.fresh (le_refl _),?_,?_,I.hok.kept hk,?_⟩
 .exact S.kind
 .intro x y c e1 e2;rcases Dx S I.ok e1 with a|a<;>rcases Dx S I.ok e2 with b|b
  .exact name_of_addr ha (PySem.mem_of_lookup a) (PySem.mem_of_lookup b)
  .exact absurd (lt_trans (ho x c a).2 (old y c b)) (lt_irrefl _)
  .exact absurd (lt_trans (ho y c b).2 (old x c a)) (lt_irrefl _)
  .exact I.ok.inj x y c a b
 .intro x hx;rcases HX hx with e|e
  .exact isSome_iff_exists.mp (PySem.W.cellsFrom_some _ _ _ (.inl e))
  .exact isSome_iff_exists.mp (PySem.W.cellsFrom_some _ _ _ (.inr (Dg (.inr (PySem.mem_of_lookup e)))))
 .intro x c hf e;have hf:(x,NameKind.cell)∈scope.names:=of_decide_eq_true hf;obtain⟨d,hd⟩:=JI scope.names (s.heap.objs.size+1) x hf;have e':(cellsFrom (s.heap.objs.size+1) scope.names (Az X.env.cells scope.names [])).lookup x=some c:=e;rw[CO,lookup_append,hd]at e';cases e';exact le_of_lt (ho x _ hd).2
 .intro b hb;refine⟨ne_of_lt (hlt b hb),λx c e z=>?_⟩;rcases Dx S I.ok e with a|a
  .exact absurd (lt_trans (ho x c a).2 (by rw[z];exact hlt b hb)) (lt_irrefl _)
  .exact(hex b hb).2.2.2.2.1 x c a z
 .intro b o e hb;rcases(hex b hb).2.2.2.1 with z|z
  .exact I.ok.noex b o e z
  .exact absurd (lt_of_lt_of_le (Heap.lt_size (I.ok.bs b o e).1) z) (lt_irrefl _)
 .intro b hb hf;rcases mem_cons.mp (I.stkSub b hf)with z|z
  .exact(hex b hb).2.1 z
  .exact(hex b hb).2.2.1 z
 .intro i x v e1 e2 e3;have e1:(loc++fr)[i]?=some x:=e1;unfold GA at e2;by_cases hi:i<loc.length
  .rw[List.getElem?_append_left (by simpa using hi),List.getElem?_replicate]at e2;split at e2<;>cases e2
  .have hi':loc.length<=i:=Nat.not_lt.mp hi;rw[List.getElem?_append_right (by simpa using hi')]at e2;rw[List.getElem?_append_right hi']at e1;rw[List.length_replicate,List.getElem?_map]at e2;generalize hj:i-loc.length=j at e1 e2;have e4:(fr.map some)[j]?=some (some x):=by rw[List.getElem?_map,e1];rfl
   rw[S.ixs,List.getElem?_map]at e4;cases q:ix[j]? with
   |none=>rw[q]at e2;cases e2
   |some k=>
    rw[q]at e2 e4;have e2:(σ[k]?).join=some v:=Option.some.inj e2;have e4:X.N[k]?=some x:=Option.some.inj e4;have e5:σ[k]?=some (some v):=by
     cases w:σ[k]? with
     |none=>rw[w]at e2;cases e2
     |some z=>rw[w]at e2;simpa using e2
    have hfx:=all_eq_true.mp S.frs x (mem_of_getElem? e1);have hfx:scope.names.lookup x=some .free:=by simpa using hfx
    have hmem:=PySem.mem_of_lookup hfx;have hout:=S.outer hmem rfl;obtain⟨m,hm,hl⟩:=I.loc;obtain⟨u,r,l⟩:=hl k x v e4 e5 (.inr hout);refine⟨u,r,.inr ⟨HH hfx,?_⟩⟩;rcases l with⟨kk,_⟩|⟨kk,c,ec,z⟩
    .rcases hout with w|w
     .rw[kk]at w;cases w
     .rw[kk]at w;cases w
    .have own0:(DG (s.heap.objs.size+1) scope.names).lookup x=none:=by
      cases w:(DG (s.heap.objs.size+1) scope.names).lookup x with
      |none=>rfl
      |some d=>exact absurd (LP S.nd (JH _ _ _ _ w) hmem) (by decide)
     have hc:(Az X.env.cells scope.names []).lookup x=some c:=by
      obtain⟨d,hd⟩:=isSome_iff_exists.mp (Dg (cells:=X.env.cells) (acc:=[]) (.inr hmem));have:=Eb (S.clos I.ok) (λ_ _ z=>by simp at z) x d hd;rw[ec]at this;cases this;exact hd
     refine⟨c,?_,z.keeps hk⟩;show(cellsFrom (s.heap.objs.size+1) scope.names (Az X.env.cells scope.names [])).lookup x=some c;rw[CO,lookup_append,own0,hc];rfl
 .intro x c e;rcases Dx S I.ok e with a|a
  .exact⟨_,(ho x c a).1⟩
  .obtain⟨v,z⟩:=I.cell x c a;exact⟨v,z.keeps hk⟩
 .intro x c e;rcases Dx S I.ok e with a|a
  .exact I.hok.fresh (le_of_lt (ho x c a).2)
  .exact I.freeC x c a
 .intro p hp;cases hp
 .unfold GA;show _=(loc++fr).length;simp[lenix]
end
section
variable{prog:Program}{w:World}{A:Around}{R:Result->Shared->Prop}{s:Shared}
theorem Hy{elt target iter:Expr}{ifs:List Expr}{scope:Scope}{pos:Pos}{it acc:Value}{env:Env}(I:Nat->Shared->Prop)
 (turn:∀n s,I n s->wpAny (model prog w) A (pyNext it) (λr s₁=>match r with
  |none=>R (.ok .next) s₁
  | some v=>wpAny (model prog w) A (letOwnedTupleGo target it v) (λ_ s₁=>wpAny (model prog w) A (assign target env v) (λ_ s₂=>
   wpAny (model prog w) A (forIn ifs true λc r=>if r=true then do let ok <- isTrue c env (eval c env);pure (ForInStep.yield ok)else pure (ForInStep.yield r)) (λok s₃=>
    if ok=true then wpAny (model prog w) A (eval elt env) (λx s₄=>
     wpAny (model prog w) A (call (.builtin "list.append") [acc,x]) (λ_ s₅=>∃m,m<n/\I m s₅) (λ_ _=>False) s₄) (λ_ _=>False) s₃
    else ∃m,m<n/\I m s₃) (λ_ _=>False) s₂) (λ_ _=>False) s₁) (λ_ _=>False) s₁) (λ_ _=>False) s)
 (n:Nat) (h:I n s):
 codeAny (model prog w) A (.compLoop (.ListComp elt [⟨target,iter,ifs,0⟩] scope pos) 0 it acc env) R s:=by
 refine codeAny_loop rfl I (λn s hI=>?_) n h;show wpAny _ A ((compTurn (.ListComp elt [⟨target,iter,ifs,0⟩] scope pos) 0 it acc env).onRaise (λx=>do noteFrame x env;theTreesLotGoes x)) _ _ s;refine wpAny_noted ?_;rw[compTurn_list];refine wpAny_bind (wpAny_standAt (wpAny_bind (wpAny_mono (turn n s hI) (λr s₁ h₁=>?_) λ_ _ h'=>h'.elim)));cases r with
 |none=>exact wpAny_pure h₁
 |some v=>
  refine wpAny_bind (wpAny_mono h₁ (λ_ s₁ h₁=>?_) λ_ _ h'=>h'.elim);refine wpAny_bind (wpAny_mono h₁ (λ_ s₂ h₂=>wpAny_bind (wpAny_mono h₂ (λok s₃ h₃=>?_) λ_ _ h'=>h'.elim)) λ_ _ h'=>h'.elim);cases ok with
  |false=>exact wpAny_pure ⟨rfl,h₃⟩
  |true=>
   exact wpAny_bind (wpAny_bind (wpAny_mono h₃ (λx s₄ h₄=>wpAny_bind (wpAny_mono h₄ (λ_ s₅ h₅=>wpAny_pure (wpAny_pure ⟨rfl,h₅⟩)) λ_ _ h'=>h'.elim)) λ_ _ h'=>h'.elim))
end
def PF(X:Cx)(ifs:List Expr)(t:TT):Prop:=
 ∀(pins:List (Addr×Obj)) (s:Shared) (σ:St) (H:Hp) (Q:Bool->Hp->Prop),Inv X pins σ H s->t σ H Q ->
   wpAny (model X.prog X.w) X.A (forIn ifs true λc r=>if r=true then do let ok <- isTrue c X.env (eval c X.env);pure (ForInStep.yield ok)else pure (ForInStep.yield r)) (TP X pins σ Q) X.xe s
def S7:TT:=λ_ H Q=>Q true H
theorem XG{X:Cx}:PF X [] S7:=λpins s σ H Q I h=>wpAny_tests_nil ⟨H,I,h⟩
theorem XF{X:Cx}{c:Expr}{t:TT}(h:PT X c t):PF X [c] t:=λpins s σ H Q I q=>wpAny_tests_one (h pins s σ H Q I q)
def UB(J:It)(D:Addr)(σ0:St)(H0:Hp)(g:TG)(tf:TT)(te:TE)(Q:VK):Prop:=∃W:Nat->Nat->St->List V->Hp->Prop,
 (∃m,W 0 m σ0 [] (upd H0 D (.lst [])))/\∀i m σ ys H,W i m σ ys H->H D=some (.lst ys)/\
  ((J.stop i H/\Q (.ref D) H)∨(J.go i H/\ys.length<sizeLine/\∃N:St->List V->Hp->Prop,(∀σ' ys' H',N σ' ys' H'->∃m',m'<m/\W (i+1) m' σ' ys' H')/\
    ∀x H',J.yld i H x H'->g x σ H' λσ2 H2=>tf σ2 H2 λb H3=>
     if b=true then te σ2 H3 λv H4=>H4 D=some (.lst ys)/\N σ2 (ys++[v]) (upd H4 D (.lst (ys++[v])))
     else N σ2 ys H3))
def Jd(n:Nat)(ix:List Nat)(wi:TI)(g:TG)(tf:TT)(te:TE):TE:=λσ H Q=>wi σ H λJ H1=>∀D,H1 D=none->UB J D (GA n ix σ) H1 g tf te Q
section
variable{X:Cx}
theorem NS{pins:List (Addr×Obj)}{σ:St}{H:Hp}{s:Shared}{D:Addr}{ys:List V}{x:V}{u:Value}{Q:Value->Shared->Prop}{E:Value->Shared->Prop}(I:Inv X pins σ H s)(hD:H D=some (.lst ys))(r:RelV x u)(hz:ys.length<sizeLine)
 (h:∀v s',Inv X pins σ (upd H D (.lst (ys++[x]))) s'->Q v s'):wpAny (model X.prog X.w) X.A (call (.builtin "list.append") [.ref D,u]) Q E s:=by
 have I':=I.wish λ_ _=>False;have q:=CQ (X:=X.wish λ_ _=>False) pins s σ H (.ref D) [x] (.ref D) [u] (λv H'=>H'=upd H D (.lst (ys++[x]))) I' rfl (.cons r .nil) ⟨D,ys,x,rfl,rfl,hD,hz,rfl⟩;refine wpAny_mono q (λv s' ⟨v',H',I2,_,e⟩=>?_) λ_ _ z=>False.elim z;subst e;exact h v s' I2.unwish
theorem VR{elt tg iter:Expr}{ifs:List Expr}{scope:Scope}{pos:Pos}{loc fr:List Str}{ix:List Nat}{wi:TI}{g:TG}{tf:TT}{te:TE}(hc:X.calm=true)(S:CSc X scope fr ix)(hi:PI X tg iter wi)
 (hg:∀s H ex,PG (cCx X (loc++fr) scope s H ex) tg g) (hf:∀s H ex,PF (cCx X (loc++fr) scope s H ex) ifs tf) (he:∀s H ex,PE (cCx X (loc++fr) scope s H ex) elt te)
 (hs:∀x,foldedSetIterable iter X.env x=pure x:=by intro _;rfl):PE X (.ListComp elt [⟨tg,iter,ifs,0⟩] scope pos) (Jd loc.length ix wi g tf te):=by
 intro pins s σ H Q I h;rw[eval_ListComp];have hnames:∀y∈scope.names,y.2=.local->scope.names.lookup y.1=some .local:=λy hy e=>by
  have:=all_eq_true.mp S.loc y hy;rw[e]at this;simpa using this
 refine wpAny_comprehension_free (use:=none) rfl hs (E5 (S.clos I.ok)) S.kind hnames (thn (hi pins s σ H _ I h) λv s1 h1=>thn h1 λitv s2 h2=>?_);obtain⟨it,fp,tn,J,H2,rfl,I2,T,st2,f2,hW⟩:=h2;refine wpAny_newObj_type ?_;have fresh2:H2 s2.heap.objs.size=none:=I2.hok.fresh (le_refl _);have I3:=I2.lnew (its:=[]) (ys:=[]) (t':=s2.toks) .nil (zero_le _);obtain⟨W,⟨m0,w0⟩,turn⟩:=hW s2.heap.objs.size fresh2;have lt2:∀b∈fp,b<s2.heap.objs.size:=λb hb=>let ⟨o,e,_⟩:=T.obj 0 _ st2 b hb;Heap.lt_size e
 have f3:∀b∈fp,FpOk X pins (upd H2 s2.heap.objs.size (.lst [])) b:=λb hb=>⟨by rw[AJ (ne_of_lt (lt2 b hb))];exact(f2 b hb).1,(f2 b hb).2⟩
 have lt3:∀b∈fp,b<(s2.heap.push { cls:=.type "list",data:=.seq ([]:List Value).toArray }).objs.size:=λb hb=>by rw[Heap.size_push];exact lt_succ_of_lt (lt2 b hb)
 generalize hs3:({ s2 with heap:=s2.heap.push { cls:=.type "list",data:=.seq ([]:List Value).toArray } }:Shared)=s3 at *;have lt3:∀b∈fp,b<s3.heap.objs.size:=by rw[<- hs3];exact lt3
 have st3:tn 0 s3.heap:=T.keep _ _ _ st2 λb hb o e=>by rw[<- hs3];exact Heap.get?_push_of_some _ e
 refine Ks λh' hk hn ho ha=>?_;have I4:=JO (loc:=loc) S I3 f3 hk hn ho ha lt3;have fpX:∀{H':Hp},(∀b∈fp,H' b=none)->∀b∈fp,FpOk (cCx X (loc++fr) scope s3 (upd H2 s2.heap.objs.size (.lst [])) fp) [] H' b:=λhn b hb=>
  ⟨hn b hb,(I4.ok.exf b hb).1,I4.ok.exfs b hb,.inl hb,(I4.ok.exf b hb).2,λp hp=>by cases hp⟩
 have loop:codeAny (model X.prog X.w) X.A (.compLoop (.ListComp elt [⟨tg,iter,ifs,0⟩] scope pos) 0 (.ref it) (.ref s2.heap.objs.size) (Pr scope s3.heap.objs.size X.env))
  (compPost (model X.prog X.w) X.A X.xe none (EP X pins σ Q) (.ref s2.heap.objs.size) s3.heap.objs.size) { s3 with heap:=h' }:=by
  refine Hy (λn s'=>∃i σ' ys H',Inv (cCx X (loc++fr) scope s3 (upd H2 s2.heap.objs.size (.lst [])) fp) [] σ' H' s'/\tn i s'.heap/\(∀b∈fp,H' b=none)/\W i n σ' ys H') ?_ m0
   ⟨0,_,[],_,I4,T.keep _ _ _ st3 λb hb o e=>hk b o e,λb hb=>(f3 b hb).1,w0⟩
  rintro n s5 ⟨i,σ5,ys,H5,I5,st5,fr5,w5⟩;obtain⟨hD,w5⟩:=turn i n σ5 ys H5 w5;rcases w5 with⟨stop,qn⟩|⟨go,hz,N,hN,step⟩
  .refine thn (T.done (cCx X (loc++fr) scope s3 (upd H2 s2.heap.objs.size (.lst [])) fp) rfl rfl rfl hc i [] s5 σ5 H5 _ I5 (fpX fr5) st5 stop) λr s6 ⟨hr,I6⟩=>?_;subst hr;obtain⟨m,hm,_⟩:=I6.loc;refine⟨m,hm,λh'' hs=>?_⟩;have neC:∀b o,s3.heap.get? b=some o->b≠s3.heap.objs.size:=λb o e=>ne_of_lt (Heap.lt_size e);have un:=I6.base;refine⟨.ref s2.heap.objs.size,H5,I3.call' (s':={ s6 with heap:=h'' }) (ch:=fp) I6.os ⟨λb o e n hb hx=>?_,λb o e n hb hx=>?_,un.free,λb o e hx=>?_,un.tups,un.frzs,un.tbls⟩ ?_ I6.bare ?_,rfl,qn⟩
   .exact(hs.2 b (neC b o e)).trans (un.keep b o e n hb hx)
   .obtain⟨sl,q⟩:=un.slot b o e n hb hx;exact⟨sl,(hs.2 b (neC b o e)).trans q⟩
   .obtain⟨o',q⟩:=un.there b o e hx;exact⟨o',(hs.2 b (neC b o e)).trans q⟩
   .intro b ob e;have hfree:H5 s3.heap.objs.size=none:=I6.free;refine(I6.hok b ob e).stay (λc w' hc q=>(hs.2 c ?_).trans q) (λ_ q=>q) λ_ _ q=>q;intro z;rcases hc with hc|hc
    .rw[<- hc,z,hfree]at e;cases e
    .rw[z,hfree]at hc;cases hc
   .intro b hb;obtain⟨_,a2,_,a4,a5,a6⟩:=f3 b hb;exact⟨a4,a2,a5,a6⟩
  .refine thn (T.item (cCx X (loc++fr) scope s3 (upd H2 s2.heap.objs.size (.lst [])) fp) rfl rfl rfl hc i [] s5 σ5 H5 _ I5 (fpX fr5) st5 go) λr s6 ⟨u,hr,h6⟩=>?_;subst hr;refine thn h6 λ_ s7 ⟨x,H7,I7,r7,y7,st7,fr7⟩=>?_;have I7':=I7.pinned (fpX fr7) (T.obj _ _ st7);have keepI:∀{σ8:St} {H8:Hp} {s8:Shared},Inv (cCx X (loc++fr) scope s3 (upd H2 s2.heap.objs.size (.lst [])) fp) ([]++F5 fp s7.heap) σ8 H8 s8->tn (i+1) s8.heap/\∀b∈fp,H8 b=none:=λ{σ8 H8 s8} I8=>by
    refine⟨T.keep _ _ _ st7 λb hb o e=>(I8.pin (b,o) (mem_append_right _ (mem_append_right _ (C2 hb e)))).1,λb hb=>?_⟩;obtain⟨o,e,d⟩:=T.obj _ _ st7 b hb;exact(I8.pin (b,o) (mem_append_right _ (mem_append_right _ (C2 hb e)))).2.1
   refine thn (hg s3 (upd H2 s2.heap.objs.size (.lst [])) fp _ s7 σ5 H7 x u _ I7' r7 (step x H7 y7)) λ_ s8 ⟨σ8,H8,I8,q8⟩=>?_;refine thn (hf s3 (upd H2 s2.heap.objs.size (.lst [])) fp _ s8 σ8 H8 _ I8 q8) λb s9 ⟨H9,I9,q9⟩=>?_;cases b with
   |false=>
    rw[if_neg Bool.false_ne_true]at q9 ⊢;obtain⟨m',hm,w9⟩:=hN _ _ _ q9;exact⟨m',hm,i+1,σ8,ys,H9,I9.unpinned,(keepI I9).1,(keepI I9).2,w9⟩
   |true=>
    rw[if_pos rfl]at q9 ⊢;refine thn (he s3 (upd H2 s2.heap.objs.size (.lst [])) fp _ s9 σ8 H9 _ I9 q9) λe10 s10 ⟨v10,H10,I10,r10,hD10,n10⟩=>?_;obtain⟨m',hm,w10⟩:=hN _ _ _ n10;refine NS (X:=cCx X (loc++fr) scope s3 (upd H2 s2.heap.objs.size (.lst [])) fp) I10 hD10 r10 hz λ_ s11 I11=>?_;exact⟨m',hm,i+1,σ8,_,_,I11.unpinned,(keepI I11).1,(keepI I11).2,w10⟩
 exact codeAny_compStart_list loop (T.self X.A 0 _ _ _ (T.keep _ _ _ st3 λb hb o e=>hk b o e) loop)
end
section
variable{X:Cx}
theorem Pk{elt tg iter:Expr}{ifs:List Expr}{scope:Scope}{pos:Pos}{loc fr:List Str}{ix:List Nat}{g:TG}{tf:TT}{te:TE}{pins:List (Addr×Obj)}{σ:St}{Q:VK}{it:Addr}{fp:List Addr}{tn:Nat->Heap->Prop}{J:It}{H2:Hp}{s2:Shared}{E:Value->Shared->Prop}
 {RR:Value->Addr->Result->Shared->Prop} (hc:X.calm=true) (S:CSc X scope fr ix)
 (hg:∀s H ex,PG (cCx X (loc++fr) scope s H ex) tg g) (hf:∀s H ex,PF (cCx X (loc++fr) scope s H ex) ifs tf) (he:∀s H ex,PE (cCx X (loc++fr) scope s H ex) elt te)
 (I2:Inv X pins σ H2 s2) (T:Turn X.prog X.w X.K tg J fp it tn) (st2:tn 0 s2.heap) (f2:∀b∈fp,FpOk X pins H2 b) (hW:∀D,H2 D=none->UB J D (GA loc.length ix σ) H2 g tf te Q)
 (hfin:∀(s3 s6:Shared) (H5:Hp) (σ5:St) (D:Addr),Inv X pins σ (upd H2 D (.lst [])) s3->Inv (cCx X (loc++fr) scope s3 (upd H2 D (.lst [])) fp) [] σ5 H5 s6->(∀b∈fp,FpOk X pins (upd H2 D (.lst [])) b)->Q (.ref D) H5->RR (.ref D) s3.heap.objs.size (.ok .next) s6):
 wpAny (model X.prog X.w) X.A (newList []) (λacc s₃=>wpAny (model X.prog X.w) X.A (newFunctionEnv scope X.env.globals (Az X.env.cells scope.names []) [] X.env.qual none .none (some X.env)) (λcenv s₄=>
  codeAny (model X.prog X.w) X.A (.compStart (.ListComp elt [⟨tg,iter,ifs,0⟩] scope pos) 0 (.ref it) acc { cenv with scope:=relabel scope X.env }) (RR acc cenv.locals) s₄) E s₃) E s2:=by
 refine wpAny_newObj_type ?_;have fresh2:H2 s2.heap.objs.size=none:=I2.hok.fresh (le_refl _);have I3:=I2.lnew (its:=[]) (ys:=[]) (t':=s2.toks) .nil (zero_le _);obtain⟨W,⟨m0,w0⟩,turn⟩:=hW s2.heap.objs.size fresh2;have lt2:∀b∈fp,b<s2.heap.objs.size:=λb hb=>let ⟨o,e,_⟩:=T.obj 0 _ st2 b hb;Heap.lt_size e
 have f3:∀b∈fp,FpOk X pins (upd H2 s2.heap.objs.size (.lst [])) b:=λb hb=>⟨by rw[AJ (ne_of_lt (lt2 b hb))];exact(f2 b hb).1,(f2 b hb).2⟩
 have lt3:∀b∈fp,b<(s2.heap.push { cls:=.type "list",data:=.seq ([]:List Value).toArray }).objs.size:=λb hb=>by rw[Heap.size_push];exact lt_succ_of_lt (lt2 b hb)
 generalize hs3:({ s2 with heap:=s2.heap.push { cls:=.type "list",data:=.seq ([]:List Value).toArray } }:Shared)=s3 at *;have lt3:∀b∈fp,b<s3.heap.objs.size:=by rw[<- hs3];exact lt3
 have st3:tn 0 s3.heap:=T.keep _ _ _ st2 λb hb o e=>by rw[<- hs3];exact Heap.get?_push_of_some _ e
 refine Ks λh' hk hn ho ha=>?_;have I4:=JO (loc:=loc) S I3 f3 hk hn ho ha lt3;have fpX:∀{H':Hp},(∀b∈fp,H' b=none)->∀b∈fp,FpOk (cCx X (loc++fr) scope s3 (upd H2 s2.heap.objs.size (.lst [])) fp) [] H' b:=λhn b hb=>
  ⟨hn b hb,(I4.ok.exf b hb).1,I4.ok.exfs b hb,.inl hb,(I4.ok.exf b hb).2,λp hp=>by cases hp⟩
 have loop:codeAny (model X.prog X.w) X.A (.compLoop (.ListComp elt [⟨tg,iter,ifs,0⟩] scope pos) 0 (.ref it) (.ref s2.heap.objs.size) (Pr scope s3.heap.objs.size X.env))
  (RR (.ref s2.heap.objs.size) s3.heap.objs.size) { s3 with heap:=h' }:=by
  refine Hy (λn s'=>∃i σ' ys H',Inv (cCx X (loc++fr) scope s3 (upd H2 s2.heap.objs.size (.lst [])) fp) [] σ' H' s'/\tn i s'.heap/\(∀b∈fp,H' b=none)/\W i n σ' ys H') ?_ m0
   ⟨0,_,[],_,I4,T.keep _ _ _ st3 λb hb o e=>hk b o e,λb hb=>(f3 b hb).1,w0⟩
  rintro n s5 ⟨i,σ5,ys,H5,I5,st5,fr5,w5⟩;obtain⟨hD,w5⟩:=turn i n σ5 ys H5 w5;rcases w5 with⟨stop,qn⟩|⟨go,hz,N,hN,step⟩
  .refine thn (T.done (cCx X (loc++fr) scope s3 (upd H2 s2.heap.objs.size (.lst [])) fp) rfl rfl rfl hc i [] s5 σ5 H5 _ I5 (fpX fr5) st5 stop) λr s6 ⟨hr,I6⟩=>?_;subst hr;exact hfin s3 s6 H5 σ5 s2.heap.objs.size I3 I6 f3 qn
  .refine thn (T.item (cCx X (loc++fr) scope s3 (upd H2 s2.heap.objs.size (.lst [])) fp) rfl rfl rfl hc i [] s5 σ5 H5 _ I5 (fpX fr5) st5 go) λr s6 ⟨u,hr,h6⟩=>?_;subst hr;refine thn h6 λ_ s7 ⟨x,H7,I7,r7,y7,st7,fr7⟩=>?_;have I7':=I7.pinned (fpX fr7) (T.obj _ _ st7);have keepI:∀{σ8:St} {H8:Hp} {s8:Shared},Inv (cCx X (loc++fr) scope s3 (upd H2 s2.heap.objs.size (.lst [])) fp) ([]++F5 fp s7.heap) σ8 H8 s8->tn (i+1) s8.heap/\∀b∈fp,H8 b=none:=λ{σ8 H8 s8} I8=>by
    refine⟨T.keep _ _ _ st7 λb hb o e=>(I8.pin (b,o) (mem_append_right _ (mem_append_right _ (C2 hb e)))).1,λb hb=>?_⟩;obtain⟨o,e,d⟩:=T.obj _ _ st7 b hb;exact(I8.pin (b,o) (mem_append_right _ (mem_append_right _ (C2 hb e)))).2.1
   refine thn (hg s3 (upd H2 s2.heap.objs.size (.lst [])) fp _ s7 σ5 H7 x u _ I7' r7 (step x H7 y7)) λ_ s8 ⟨σ8,H8,I8,q8⟩=>?_;refine thn (hf s3 (upd H2 s2.heap.objs.size (.lst [])) fp _ s8 σ8 H8 _ I8 q8) λb s9 ⟨H9,I9,q9⟩=>?_;cases b with
   |false=>
    rw[if_neg Bool.false_ne_true]at q9 ⊢;obtain⟨m',hm,w9⟩:=hN _ _ _ q9;exact⟨m',hm,i+1,σ8,ys,H9,I9.unpinned,(keepI I9).1,(keepI I9).2,w9⟩
   |true=>
    rw[if_pos rfl]at q9 ⊢;refine thn (he s3 (upd H2 s2.heap.objs.size (.lst [])) fp _ s9 σ8 H9 _ I9 q9) λe10 s10 ⟨v10,H10,I10,r10,hD10,n10⟩=>?_;obtain⟨m',hm,w10⟩:=hN _ _ _ n10;refine NS (X:=cCx X (loc++fr) scope s3 (upd H2 s2.heap.objs.size (.lst [])) fp) I10 hD10 r10 hz λ_ s11 I11=>?_;exact⟨m',hm,i+1,σ8,_,_,I11.unpinned,(keepI I11).1,(keepI I11).2,w10⟩
 exact codeAny_compStart_list loop (T.self X.A 0 _ _ _ (T.keep _ _ _ st3 λb hb o e=>hk b o e) loop)
theorem Iz{scope:Scope}{N':List Str}{fp:List Addr}{pins:List (Addr×Obj)}{σ σ5:St}{H3 H5:Hp}{s3 s6:Shared}{h'':Heap}(I3:Inv X pins σ H3 s3)(I6:Inv (cCx X N' scope s3 H3 fp) [] σ5 H5 s6)(f3:∀b∈fp,FpOk X pins H3 b)
 (hs:Heap.SameBut s3.heap.objs.size s6.heap h''):Inv X pins σ H5 { s6 with heap:=h'' }:=by
 have neC:∀b o,s3.heap.get? b=some o->b≠s3.heap.objs.size:=λb o e=>ne_of_lt (Heap.lt_size e);have un:=I6.base;refine I3.call' (s':={ s6 with heap:=h'' }) (ch:=fp) I6.os ⟨λb o e n hb hx=>?_,λb o e n hb hx=>?_,un.free,λb o e hx=>?_,un.tups,un.frzs,un.tbls⟩ ?_ I6.bare ?_
 .exact(hs.2 b (neC b o e)).trans (un.keep b o e n hb hx)
 .obtain⟨sl,q⟩:=un.slot b o e n hb hx;exact⟨sl,(hs.2 b (neC b o e)).trans q⟩
 .obtain⟨o',q⟩:=un.there b o e hx;exact⟨o',(hs.2 b (neC b o e)).trans q⟩
 .intro b ob e;have hfree:H5 s3.heap.objs.size=none:=I6.free;refine(I6.hok b ob e).stay (λc w' hc q=>(hs.2 c ?_).trans q) (λ_ q=>q) λ_ _ q=>q;intro z;rcases hc with hc|hc
  .rw[<- hc,z,hfree]at e;cases e
  .rw[z,hfree]at hc;cases hc
 .intro b hb;obtain⟨_,a2,_,a4,a5,a6⟩:=f3 b hb;exact⟨a4,a2,a5,a6⟩
theorem V7{i:Nat}{y:Str}{elt tg iter:Expr}{ifs:List Expr}{scope:Scope}{pos spos py:Pos}{loc fr:List Str}{ix:List Nat}{wi:TI}{g:TG}{tf:TT}{te:TE}(hN:X.N.Nodup)(hiN:X.N[i]?=some y)(hy:X.env.scope.names.lookup y=some .local)
 (hc:X.calm=true) (S:CSc X scope fr ix) (hi:PI X tg iter wi)
 (hg:∀s H ex,PG (cCx X (loc++fr) scope s H ex) tg g) (hf:∀s H ex,PF (cCx X (loc++fr) scope s H ex) ifs tf) (he:∀s H ex,PE (cCx X (loc++fr) scope s H ex) elt te)
 (hsw:swapsWith (.ListComp elt [⟨tg,iter,ifs,0⟩] scope pos) (some (.Name y py)) spos.line X.env=pure true:=by rfl) (hs:∀x,foldedSetIterable iter X.env x=pure x:=by intro _;rfl):
 PS X (.Assign [.Name y py] (.ListComp elt [⟨tg,iter,ifs,0⟩] scope pos) spos) (Gc (Jd loc.length ix wi g tf te) (Gv i)):=by
 intro pins s σ H D I h;have hnames:∀y∈scope.names,y.2=.local->scope.names.lookup y.1=some .local:=λy hy e=>by
  have:=all_eq_true.mp S.loc y hy;rw[e]at this;simpa using this
 rw[exec_Assign_Name_used _ _ _ _ hsw];refine wpAny_bind (wpAny_standAt (wpAny_bind ?_));show wpAny _ _ (do let _ <- comprehension (.ListComp elt [⟨tg,iter,ifs,0⟩] scope pos) scope X.env _ (newList []) false (eval iter X.env) (some (assign (.Name y py) X.env))) _ _ s;refine wpAny_bind (wpAny_mono (wpAny_comprehension_free (use:=some (assign (.Name y py) X.env)) (Q:=λ_ s'=>SP X pins D .next s') rfl hs (E5 (S.clos I.ok)) S.kind hnames
  (thn (hi pins s σ H _ I h) λv s1 h1=>thn h1 λitv s2 h2=>?_)) (λ_ s' hq=>wpAny_pure (wpAny_pure hq)) λ_ _ e=>e)
 obtain⟨it,fp,tn,J,H2,rfl,I2,T,st2,f2,hW⟩:=h2;refine Pk (RR:=λacc C=>compPost (model X.prog X.w) X.A X.xe (some (assign (.Name y py) X.env)) (λ_ s'=>SP X pins D .next s') acc C) hc S hg hf he I2 T st2 f2 hW λs3 s6 H5 σ5 L I3 I6 f3 q=>?_;have J6:Inv X pins σ H5 s6:=Iz (h'':=s6.heap) I3 I6 f3 (.refl ..);obtain⟨m,hm,_⟩:=I6.loc;have hm:s6.heap.Ns s3.heap.objs.size m:=hm;have hL:s3.heap.objs.size≠X.env.locals:=Ne.symm (ne_of_lt I3.lt);show wpAny _ _ (assign (.Name y py) X.env (.ref L)) _ _ s6;refine wpAny_assign_Name (LL (v:=.ref L) J6 hN hiN (.inl hy) rfl (λs7 I7 ⟨a,sb,ha⟩=>?_) (.inr hy));have hca:s3.heap.objs.size≠a:=by
  rcases ha with rfl|ha
  .exact hL
  .obtain⟨v,z⟩:=I3.cell y a ha;exact Ne.symm (ne_of_lt z.lt)
 refine⟨m,hm.sameBut sb hca,λh' hs'=>?_⟩;refine⟨_,H5,I7.turned (t':=s7.toks) (it:=s3.heap.objs.size) (λb o hb e=>(hs'.2 b hb).trans e) I6.free hL (.inr I3.sz) (λx c e z=>?_) (λp hp z=>?_),q⟩
 .obtain⟨v,w⟩:=I3.cell x c e;exact absurd w.lt (by rw[z];exact lt_irrefl _)
 .exact absurd (Heap.lt_size (I3.pin p hp).1) (by rw[z];exact lt_irrefl _)
end
mutual
def Rep(K:PySem.W.Frag)(H:Hp):PyData->V->Prop
 |.none,v=>v=.non
 |.bool b,v=>v=.bl b
 |.int i,v=>v=.int i
 |.str x,v=>v=.str x
 |.list ds,v=>∃a xs,v=.ref a/\SqL K H a xs/\Cz K H ds xs
 |.tuple ds,v=>∃a xs,v=.ref a/\SqT K H a xs/\Cz K H ds xs
 |.dict _,_=>False
def Cz(K:PySem.W.Frag)(H:Hp):List PyData->List V->Prop
 |[],xs=>xs=[]
 |d::ds,xs=>∃x r,xs=x::r/\Rep K H d x/\Cz K H ds r
end
section
variable{X:Cx}{pins:List (Addr×Obj)}{σ:St}{H:Hp}{s:Shared}
mutual
theorem EF(I:Inv X pins σ H s):∀(d:PyData) (v:V) (u:Value),Rep X.K H d v->RelV v u->∃as,Reads s.heap u d as
 |.none,v,u,h,r=>by
  have h:v=.non:=by simpa only[Rep]using h
  subst h;cases r;exact⟨_,.none⟩
 |.bool b,v,u,h,r=>by
  have h:v=.bl b:=by simpa only[Rep]using h
  subst h;cases r;exact⟨_,.bool b⟩
 |.int i,v,u,h,r=>by
  have h:v=.int i:=by simpa only[Rep]using h
  subst h;obtain⟨t,rfl⟩:=r;exact⟨_,.int i t⟩
 |.str x,v,u,h,r=>by
  have h:v=.str x:=by simpa only[Rep]using h
  subst h;obtain⟨t,rfl⟩:=r;exact⟨_,.str x t⟩
 |.list ds,v,u,h,r=>by
  have h:∃a xs,v=.ref a/\SqL X.K H a xs/\Cz X.K H ds xs:=by simpa only[Rep]using h
  obtain⟨a,xs,rfl,hq,ha⟩:=h;cases r;obtain⟨its,rv,⟨o,n,e,c,_,dd⟩,hz⟩:=I.list hq;obtain⟨as,q⟩:=Fb I ds xs its ha rv;exact⟨_,.list e c dd (by simpa using q)⟩
 |.tuple ds,v,u,h,r=>by
  have h:∃a xs,v=.ref a/\SqT X.K H a xs/\Cz X.K H ds xs:=by simpa only[Rep]using h
  obtain⟨a,xs,rfl,hq,ha⟩:=h;cases r;obtain⟨its,rv,⟨o,e,c,n,dd⟩,hz⟩:=I.tuple hq;obtain⟨as,q⟩:=Fb I ds xs its ha rv;exact⟨_,.tuple e c dd (by simpa using q)⟩
 |.dict _,v,u,h,r=>by
  have h:False:=by simpa only[Rep]using h
  exact h.elim
theorem Fb(I:Inv X pins σ H s):∀(ds:List PyData) (xs:List V) (us:List Value),Cz X.K H ds xs->Vals xs us->∃as,ReadsAll s.heap us ds as
 |[],xs,us,h,r=>by
  have h:xs=[]:=by simpa only[Cz]using h
  subst h;cases r;exact⟨_,.nil⟩
 |d::ds,xs,us,h,r=>by
  have h:∃x r,xs=x::r/\Rep X.K H d x/\Cz X.K H ds r:=by simpa only[Cz]using h
  obtain⟨x,rr,rfl,h1,h2⟩:=h;cases r with
  |cons r1 r2=>
   obtain⟨as,q1⟩:=EF I d _ _ h1 r1;obtain⟨bs,q2⟩:=Fb I ds _ _ h2 r2;exact⟨_,.cons q1 q2⟩
end
end
structure Grow(H H':Hp):Prop where
 tup:∀b xs,H b=some (.tup xs)->H' b=some (.tup xs)
 frz:∀b o u,H b=some (.frz o u)->H' b=some (.frz o u)
theorem Grow.refl{H:Hp}:Grow H H:=⟨λ_ _ h=>h,λ_ _ _ h=>h⟩
def Chg(H:Hp)(p:Addr):Prop:=(∀xs,H p≠some (.tup xs))/\∀o u,H p≠some (.frz o u)
theorem Grow.put{H H':Hp}{p:Addr}{o:HO}(a:Grow H H')(h:Chg H' p):Grow H (upd H' p o):=⟨λc xs e=>by
 have q:=a.tup c xs e;have n:c≠p:=λz=>h.1 xs (by rw[<- z];exact q);rw[AJ n];exact q,λc z u e=>by
 have q:=a.frz c z u e;have n:c≠p:=λw=>h.2 z u (by rw[<- w];exact q);rw[AJ n];exact q⟩
theorem Chg.lst{H:Hp}{p:Addr}{xs:List V}(h:H p=some (.lst xs)):Chg H p:=⟨(λ_ e=>by rw[h]at e;cases e),(λ_ _ e=>by rw[h]at e;cases e)⟩
theorem Grow.sq{K:PySem.W.Frag}{H H':Hp}{a:Addr}{xs:List V}(g:Grow H H')(h:SqT K H a xs):SqT K H' a xs:=by
 rcases h with(h|⟨o,h⟩)|h
 .exact .inl (.inl (g.tup _ _ h))
 .exact .inl (.inr ⟨o,g.frz _ _ _ h⟩)
 .exact .inr h
section
variable{X:Cx}
def P0(K:PySem.W.Frag):List V->Hp->VK->Prop:=λxs H Q=>∃x d,xs=[x]/\Rep K H d x/\d.showable=true/\d.hasDict=false/\isDisplay d=true/\d.depth<=30/\d.shown.length<=sizeLine/\Q (.str d.shown) H
theorem Po(hg:X.A.guards=some [])(hu:X.A.units+64<cLine):CallR X (.builtin "repr") (P0 X.K):=by
 intro pins s σ H xs us Q I r h;obtain⟨x,d,rfl,hr,hs,hd,hi,hdep,hsz,q⟩:=h;obtain⟨u,rfl,ru⟩:=Co r;obtain⟨as,hR⟩:=EF I d x u hr ru;obtain⟨a,rfl⟩:=isRef_of_reads hR hi;exact repr_of_reads' hR hs (PyData.noDict_hsm hd) hg (by omega) (λ_ _ e=>e) (λh' u tk hk=>⟨.str d.shown,H,I.kept hk,⟨_,rfl⟩,q⟩) hsz
def Sg(K:PySem.W.Frag):R2:=λx y H Q=>∃d e,Rep K H d x/\Rep K H e y/\d.canLay0=true/\e.canLay0=true/\min d.depth e.depth<=60/\Q (.bl (!PyData.eqv d e)) H
def Si(K:PySem.W.Frag):R2:=λx y H Q=>∃d e,Rep K H d x/\Rep K H e y/\d.canLay0=true/\e.canLay0=true/\min d.depth e.depth<=60/\Q (.bl (PyData.eqv d e)) H
theorem XU(hu:X.A.units+64<cLine):OpR X (compareOp .NotEq) (Sg X.K):=by
 intro pins s σ H x y v u Q I rx ry h;obtain⟨d,e,h1,h2,c1,c2,hm,q⟩:=h;obtain⟨as,q1⟩:=EF I d x v h1 rx;obtain⟨bs,q2⟩:=EF I e y u h2 ry;exact PySem.SeqAt.compareNe_reads q1 q2 c1 c2 (by omega) ⟨.bl _,H,I,rfl,q⟩
theorem XV(hu:X.A.units+64<cLine):OpR X (compareOp .Eq) (Si X.K):=by
 intro pins s σ H x y v u Q I rx ry h;obtain⟨d,e,h1,h2,c1,c2,hm,q⟩:=h;obtain⟨as,q1⟩:=EF I d x v h1 rx;obtain⟨bs,q2⟩:=EF I e y u h2 ry;exact PySem.SeqAt.compareEq_reads q1 q2 c1 c2 (by omega) ⟨.bl _,H,I,rfl,q⟩
theorem FT:∀{ns:List Int} {us:List Value},Vals (ns.map V.int) us->IntsAre us ns
 |[],_,.nil=>.nil
 |n::ns,_,.cons r t=>by obtain⟨k,rfl⟩:=r;exact .cons _ _ (FT t)
theorem Rm(hc:X.calm=true):CallR X (.builtin "sum") (λxs H Q=>∃(a:Addr) (ns:List Int),xs=[.ref a]/\SqL X.K H a (ns.map V.int)/\Q (.int ns.sum) H):=by
 intro pins s σ H xs us Q I r h;obtain⟨a,ns,rfl,hq,q⟩:=h;obtain⟨u,rfl,ru⟩:=Co r;cases ru;obtain⟨its,rv,p,hz⟩:=I.list hq;have hi:=FT rv;obtain⟨xs,hx⟩:=hi.allInts.items;have hl':s.heap.IsList a (intItems xs):=hx ▸ p.isList;refine sum_intListG (I.ok.hd hc) hl' λh' tk t' hk=>?_;have e1:ns=xs.toList.map (·.1):=by
  rw[<- nums_intItems,<- hx];exact(show numsOf its.toArray.toList=ns from hi.numsOf).symm
 have e2:preSum (numAt xs) xs.size=ns.sum:=by
  rw[preSum_eq,take_of_length_le (by simp),e1]
 rw[e2];exact⟨.int ns.sum,H,I.kept hk,⟨_,rfl⟩,q⟩
end
end L2
namespace L2
open PySem PySem.Spec PyProof.Rows
section
variable(K:PySem.W.Frag){X:Cx}
theorem N7(hK:X.K=K:=by rfl):IxR X (Kp K):=by subst hK;exact Vn
theorem OI(hK:X.K=K:=by rfl):IxR X (Sh K):=by subst hK;exact Xj
theorem SM(hK:X.K=K:=by rfl):SlR X (Oz K):=by subst hK;exact UV
theorem UT(hK:X.K=K:=by rfl):SlR X (Mr K):=by subst hK;exact QK
theorem My(hK:X.K=K:=by rfl):OpR X (compareOp .In) (rIn K false):=by subst hK;exact Qn
theorem BE(hu:X.A.units+64<cLine)(hK:X.K=K:=by rfl):OpR X (compareOp .Eq) (Si K):=by subst hK;exact XV hu
theorem FQ(hu:X.A.units+64<cLine)(hK:X.K=K:=by rfl):OpR X (compareOp .NotEq) (Sg K):=by subst hK;exact XU hu
theorem AR(hK:X.K=K:=by rfl):OpR X (binaryOp .Add) (P1 K):=by subst hK;exact VU
def Wy:List V->Hp->VK->Prop:=λxs H Q=>∃p ys,xs=[.ref p]/\(SqL K H p ys∨SqT K H p ys)/\Q (.int ys.length) H
theorem Bf(hK:X.K=K:=by rfl):CallR X (.builtin "len") (Wy K):=by subst hK;exact NQ
def Ko:List V->Hp->VK->Prop:=λxs H Q=>∃p ys,xs=[.ref p]/\(SqL K H p ys∨SqT K H p ys)/\∀l,H l=none->Q (.ref l) (upd H l (.lst ys))
theorem Pq(hK:X.K=K:=by rfl):CallR X (.type "list") (Ko K):=by subst hK;exact NP
def Mq:List V->Hp->VK->Prop:=λxs H Q=>∃p ys,xs=[.ref p]/\((SqL K H p ys/\∀l,H l=none->Q (.ref l) (upd H l (.tup ys)))∨(SqT K H p ys/\Q (.ref p) H))
theorem BJ(hK:X.K=K:=by rfl):CallR X (.type "tuple") (Mq K):=by subst hK;exact Lp
theorem CB(hg:X.A.guards=some [])(hu:X.A.units+64<cLine)(hK:X.K=K:=by rfl):CallR X (.builtin "repr") (P0 K):=by subst hK;exact Po hg hu
def Tv:List V->Hp->VK->Prop:=λxs H Q=>∃(a:Addr) (ns:List Int),xs=[.ref a]/\SqL K H a (ns.map V.int)/\Q (.int ns.sum) H
theorem Rn(hc:X.calm=true)(hK:X.K=K:=by rfl):CallR X (.builtin "sum") (Tv K):=by subst hK;exact Rm hc
theorem Sw{tg l:Expr}{tl:TE}(hl:PE X l tl)(hK:X.K=K:=by rfl):PI X tg l (M6 K tl):=by subst hK;exact VJ hl
theorem VI{tg l:Expr}{tl:TE}(hl:PE X l tl)(hK:X.K=K:=by rfl):PI X tg l (PP K tl):=by subst hK;exact XC hl
theorem VM{pos:Pos}{es:List Expr}{k:Nat}{t:TGs}{n:Nat}(hc:X.calm=true)(h:PGs X es t)(hK:X.K=K:=by rfl)
 (hn:(assignEach es X.env).length=n:=by rfl) (hst:(assignEach es X.env).findIdx? (·.1)=none:=by rfl):PG X (.Tuple es k pos) (PV K n t):=by
 subst hK;exact XD hc h hn hst
end
section
variable(K:PySem.W.Frag){X:Cx}
theorem Lg:∀{bs:List Bool} {us:List Value} {i:Nat} {v:Value},Vals (bs.map V.bl) us->us[i]?=some v->∃b,bs[i]?=some b/\v=.bool b
 |[],_,_,_,.nil,e=>by simp at e
 |b::bs,_,0,_,.cons r _,e=>by simp at e;subst e;exact⟨b,rfl,r⟩
 |b::bs,_,i+1,_,.cons _ t,e=>by
  obtain⟨c,h1,h2⟩:=Lg (i:=i) t (by simpa using e);exact⟨c,by simpa using h1,h2⟩
def Wz:List V->Hp->VK->Prop:=λxs H Q=>∃(a:Addr) (bs:List Bool),xs=[.ref a]/\SqL K H a (bs.map V.bl)/\Q (.bl (bs.all id)) H
theorem IA(hc:X.calm=true)(hK:X.K=K:=by rfl):CallR X (.builtin "all") (Wz K):=by
 subst hK;intro pins s σ H xs us Q I r h;obtain⟨a,bs,rfl,hq,q⟩:=h;obtain⟨u,rfl,ru⟩:=Co r;cases ru;obtain⟨its,rv,p,hz⟩:=I.list hq;have hl:=p.isList;have hlen:=rv.length;have hlt:a<s.heap.objs.size:=by obtain⟨_,e,_⟩:=hl;exact Heap.lt_size e
 refine call_all_walk (wpAny_pyIter_list hl ?_);refine⟨s.heap.objs.size,[s.heap.objs.size,a],[s.heap.objs.size],its.toArray.size,_,_,λi=>(bs[i]?).getD true,rfl,Walks.list (A:=X.A.in1) (I.ok.hd hc) _ a (ne_of_lt hlt) its.toArray,
  ⟨⟨_,Heap.get?_push_size _ rfl,rfl,rfl⟩,hl.push _⟩,λi v s' Q' E' hP hQ=>?_,λh' tk hk=>?_⟩
 .obtain⟨b,e,rfl⟩:=Lg rv (by simpa using hP);simp only[e,Option.getD_some]at hQ;exact wpAny_truthy_bool hQ
 .have e:((List.range its.toArray.size).all λi=>(bs[i]?).getD true)=bs.all id:=by
   rw[size_toArray,<- hlen,length_map];exact LSm.range_all bs
  rw[e];exact⟨.bl _,H,I.kept (LSm.kept_iter hk),rfl,q⟩
def Tz:List V->Hp->VK->Prop:=λxs H Q=>∃(a:Addr) (ns:List Int),xs=[.ref a]/\SqL K H a (ns.map V.int)/\0<ns.length/\∀M:Int,M∈ns->(∀x∈ns,x<=M)->Q (.int M) H
theorem Ld(hc:X.calm=true)(hK:X.K=K:=by rfl):CallR X (.builtin "max") (Tz K):=by
 subst hK;intro pins s σ H xs us Q I r h;obtain⟨a,ns,rfl,hq,hne,q⟩:=h;obtain⟨u,rfl,ru⟩:=Co r;cases ru;obtain⟨its,rv,p,hz⟩:=I.list hq;have hi:=FT rv;obtain⟨ys,e⟩:=hi.allInts.items;have hns:ns=ys.toList.map (·.1):=by
  rw[<- hi.numsOf,<- nums_intItems,<- e]
 have hsz:0<ys.size:=by
  have h3:=hne;rw[hns,length_map,Array.length_toList]at h3;exact h3
 have hl:=p.isList;rw[e]at hl;refine max_intList (I.ok.hd hc) hl hsz λv h' tk hv hk=>?_;obtain⟨t,rfl⟩:=intItems_at hv;obtain⟨h1,h2⟩:=argBest_gt (numAt ys) (ys.size-1);refine⟨.int _,H,I.kept hk,⟨t,rfl⟩,q _ ?_ λx hx=>?_⟩
 .rw[hns,numAt_eq];exact getD_mem (by rw[length_map,Array.length_toList];omega)
 .rw[hns]at hx;obtain⟨j,hj,rfl⟩:=mem_getD hx;rw[length_map,Array.length_toList]at hj;rw[<- numAt_eq];exact h2 j (by omega)
def Tw:List V->Hp->VK->Prop:=λxs H Q=>∃(a:Addr) (ns:List Int),xs=[.ref a]/\SqL K H a (ns.map V.int)/\0<ns.length/\∀M:Int,M∈ns->(∀x∈ns,M<=x)->Q (.int M) H
theorem I0(hc:X.calm=true)(hK:X.K=K:=by rfl):CallR X (.builtin "min") (Tw K):=by
 subst hK;intro pins s σ H xs us Q I r h;obtain⟨a,ns,rfl,hq,hne,q⟩:=h;obtain⟨u,rfl,ru⟩:=Co r;cases ru;obtain⟨its,rv,p,hz⟩:=I.list hq;have hi:=FT rv;obtain⟨ys,e⟩:=hi.allInts.items;have hns:ns=ys.toList.map (·.1):=by
  rw[<- hi.numsOf,<- nums_intItems,<- e]
 have hsz:0<ys.size:=by
  have h3:=hne;rw[hns,length_map,Array.length_toList]at h3;exact h3
 have hl:=p.isList;rw[e]at hl;refine min_intList (I.ok.hd hc) hl hsz λv h' tk hv hk=>?_;obtain⟨t,rfl⟩:=intItems_at hv;obtain⟨h1,h2⟩:=argBest_lt (numAt ys) (ys.size-1);refine⟨.int _,H,I.kept hk,⟨t,rfl⟩,q _ ?_ λx hx=>?_⟩
 .rw[hns,numAt_eq];exact getD_mem (by rw[length_map,Array.length_toList];omega)
 .rw[hns]at hx;obtain⟨j,hj,rfl⟩:=mem_getD hx;rw[length_map,Array.length_toList]at hj;rw[<- numAt_eq];exact h2 j (by omega)
end
section
variable{prog:Program}{w:World}{A:Around}{E:Value->Shared->Prop}{s:Shared}{l:Addr}{xs:Array (Int×Tok)}
theorem HL{Q:Value->Shared->Prop}(hl:s.heap.IsTuple l (intItems xs))
 (h:∀s₂:Shared,s₂={ s with heap:=s.heap.push { cls:=.type "tuple_iterator",data:=.fields #[.ref l,.int 0 0] } } ->
  (s₂.heap.IsTupleIter s.heap.objs.size l 0/\s₂.heap.IsTuple l (intItems xs))->(∀b∈[s.heap.objs.size,l],b<s₂.heap.objs.size)->l≠s.heap.objs.size->Q (.ref s.heap.objs.size) s₂):
 wpAny (model prog w) A (pyIter (.ref l)) Q E s:=by
 have hlt:l<s.heap.objs.size:=by obtain⟨_,e,_⟩:=hl;exact Heap.lt_size e
 refine wpAny_pyIter_tuple hl (h _ rfl ⟨⟨_,Heap.get?_push_size _ rfl,rfl,rfl⟩,hl.push _⟩ (λb hb=>?_) (ne_of_lt hlt));show b<(s.heap.push _).objs.size;rw[Heap.size_push];rcases mem_cons.mp hb with rfl|hb
 .exact Nat.lt_succ_self _
 .rcases mem_cons.mp hb with rfl|hb
  .exact lt_succ_of_lt hlt
  .cases hb
theorem LO{h':Heap}{o:Obj}(hk:∀b x,b∉[s.heap.objs.size]->(s.heap.push o).get? b=some x->h'.get? b=some x):∀b x,s.heap.get? b=some x->h'.get? b=some x:=
 λb x e=>hk b x (λhm=>by rw[mem_singleton.mp hm]at e;exact lt_irrefl _ (Heap.lt_size e)) (Heap.get?_push_of_some _ e)
theorem MU{Q:Value->Shared->Prop}(hh:A.handled=none)(hl:s.heap.IsTuple l (intItems xs))
 (h:∀h' tk t',(∀b o,s.heap.get? b=some o->h'.get? b=some o)->Q (.int (preSum (numAt xs) xs.size) t') { s with heap:=h',toks:=tk }):
 wpAny (model prog w) A (call (.builtin "sum") [.ref l]) Q E s:=by
 refine call_sum_walkG (HL hl λs₂ e st hfp hlI=>?_);subst e;refine⟨_,_,_,_,_,_,numAt xs,rfl,Walks.tuple (A:=A.in1) hh _ l hlI (intItems xs),st,hfp,(λ_ _=>intItems_at),λh' tk t' hk=>?_⟩;have:=h h' tk t' (LO hk);simpa [intItems]using this
theorem N0{Q:Value->Shared->Prop}(hh:A.handled=none)(hl:s.heap.IsTuple l (intItems xs))(hne:0<xs.size)
 (h:∀v h' tk,(intItems xs)[argBest (λi j=>decide (numAt xs i>numAt xs j)) (xs.size-1)]?=some v->(∀b o,s.heap.get? b=some o->h'.get? b=some o)->Q v { s with heap:=h',toks:=tk }):
 wpAny (model prog w) A (call (.builtin "max") [.ref l]) Q E s:=by
 refine call_max_walk (HL hl λs₂ e st hfp hlI=>?_);subst e;refine⟨_,_,_,_,_,_,_,rfl,Walks.tuple (A:=A.in1) hh _ l hlI (intItems xs),st,hfp,by simpa [intItems]using hne,CmpOf.ints_gt (numAt xs) (λ_ _=>intItems_at),λv h' tk hP hk=>?_⟩;exact h v h' tk (by simpa [intItems]using hP) (LO hk)
end
section
variable(K:PySem.W.Frag){X:Cx}
def Tu:List V->Hp->VK->Prop:=λxs H Q=>∃(a:Addr) (ns:List Int),xs=[.ref a]/\SqT K H a (ns.map V.int)/\Q (.int ns.sum) H
theorem Pn(hc:X.calm=true)(hK:X.K=K:=by rfl):CallR X (.builtin "sum") (Tu K):=by
 subst hK;intro pins s σ H xs us Q I r h;obtain⟨a,ns,rfl,hq,q⟩:=h;obtain⟨u,rfl,ru⟩:=Co r;cases ru;obtain⟨its,rv,p,hz⟩:=I.tuple hq;have hi:=FT rv;obtain⟨xs,hx⟩:=hi.allInts.items;have hl':s.heap.IsTuple a (intItems xs):=hx ▸ (show s.heap.IsTuple a its.toArray from p);refine MU (I.ok.hd hc) hl' λh' tk t' hk=>?_;have e1:ns=xs.toList.map (·.1):=by
  rw[<- nums_intItems,<- hx];exact(show numsOf its.toArray.toList=ns from hi.numsOf).symm
 have e2:preSum (numAt xs) xs.size=ns.sum:=by
  rw[preSum_eq,take_of_length_le (by simp),e1]
 rw[e2];exact⟨.int ns.sum,H,I.kept hk,⟨_,rfl⟩,q⟩
def Tx:List V->Hp->VK->Prop:=λxs H Q=>∃(a:Addr) (ns:List Int),xs=[.ref a]/\SqT K H a (ns.map V.int)/\0<ns.length/\∀M:Int,M∈ns->(∀x∈ns,x<=M)->Q (.int M) H
theorem KS(hc:X.calm=true)(hK:X.K=K:=by rfl):CallR X (.builtin "max") (Tx K):=by
 subst hK;intro pins s σ H xs us Q I r h;obtain⟨a,ns,rfl,hq,hne,q⟩:=h;obtain⟨u,rfl,ru⟩:=Co r;cases ru;obtain⟨its,rv,p,hz⟩:=I.tuple hq;have hi:=FT rv;obtain⟨ys,e⟩:=hi.allInts.items;have hns:ns=ys.toList.map (·.1):=by
  rw[<- hi.numsOf,<- nums_intItems,<- e]
 have hsz:0<ys.size:=by
  have h3:=hne;rw[hns,length_map,Array.length_toList]at h3;exact h3
 have hl:s.heap.IsTuple a (intItems ys):=e ▸ (show s.heap.IsTuple a its.toArray from p);refine N0 (I.ok.hd hc) hl hsz λv h' tk hv hk=>?_;obtain⟨t,rfl⟩:=intItems_at hv;obtain⟨h1,h2⟩:=argBest_gt (numAt ys) (ys.size-1);refine⟨.int _,H,I.kept hk,⟨t,rfl⟩,q _ ?_ λx hx=>?_⟩
 .rw[hns,numAt_eq];exact getD_mem (by rw[length_map,Array.length_toList];omega)
 .rw[hns]at hx;obtain⟨j,hj,rfl⟩:=mem_getD hx;rw[length_map,Array.length_toList]at hj;rw[<- numAt_eq];exact h2 j (by omega)
end
structure DefAt(K:PySem.W.Frag)(mg:Str->Option Value)(x:Str)(st:Stmt)(f:Addr)(fd:FuncData)(ps:List Str):Prop where
 fn:Fun K x x st f fd
 mg:mg x=some (.ref f)
 bd:Binds K fd ps []
theorem U3{X:Cx}{j k:Nat}{f:Addr}{fd:FuncData}{ps:List Str}{sp:Sp}{x:Str}{st:Stmt}{e:Expr}{es:List Expr}{t:TA}{p pos:Pos}(F:FnOk X.prog X.w X.K X.mg X.base CX0 j f fd ps sp)(hr:Room k X.A)(D:DefAt X.K X.mg x st f fd ps)(ha:PA X (e::es) t)
 (hjk:j<=k:=by decide) (hg:Gl X x:=by rfl) (hdb:(x==("__debug__":Str))=false:=by decide) (he:starEach (e::es) X.env=(false,eval e X.env)::starEach es X.env:=by rfl) (hpl:(backTo pos (starEach es X.env)).any (·.1)=false:=by rfl):
 PE X (.Call (.Name x p) (e::es) [] pos) (IK sp [] E0 t):=
 VS (F.mono hjk) hr hg D.mg D.fn.kp D.bd .nil YY ha hdb he hpl
def Og(i j k:Nat)(ta:TA):TS:=λD σ H=>ta σ H λvs H1=>∃v w z,vs=[v,w,z]/\D.nx (((σ.set k (some z)).set j (some w)).set i (some v)) H1
theorem V8{X:Cx}{i j k:Nat}{x y z:Str}{a b c:Expr}{ta:TA}{px py pz pt pos:Pos}{kt k2 pt2}(hc:X.calm=true)(hN:X.N.Nodup)(hi:X.N[i]?=some x)(hj:X.N[j]?=some y)(hk:X.N[k]?=some z)
 (hx:X.env.scope.names.lookup x=some .local) (hy:X.env.scope.names.lookup y=some .local) (hz:X.env.scope.names.lookup z=some .local) (ha:PA X [a,b,c] ta)
 (hw:swappedStores [.Tuple [.Name x px,.Name y py,.Name z pz] kt pt] (.Tuple [a,b,c] k2 pt2) X.env=pure (some [x,y,z]))
 (hs:swapsWithSole [.Tuple [.Name x px,.Name y py,.Name z pz] kt pt] (.Tuple [a,b,c] k2 pt2) pos.line X.env=pure false:=by rfl):
 PS X (.Assign [.Tuple [.Name x px,.Name y py,.Name z pz] kt pt] (.Tuple [a,b,c] k2 pt2) pos) (Og i j k ta):=by
 intro pins s σ H D I h;rw[exec_Assign_arm];refine wpAny_bind (wpAny_standAt ?_);rw[hs];refine wpAny_bind (wpAny_pure ?_);rw[if_neg (by decide)];refine wpAny_bind (Tuple_ (thn (ha _ pins s σ H _ I h) λus s1 ⟨vs,H1,I1,r1,q1⟩=>?_));obtain⟨v,w,q,e1,q1⟩:=q1;subst e1;obtain⟨u1,u2,u3,rfl,rv,rw',rq⟩:∃u1 u2 u3,us=[u1,u2,u3]/\RelV v u1/\RelV w u2/\RelV q u3:=by
  cases r1 with
  |cons p1 q1=>
   cases q1 with
   |cons p2 q2=>
    cases q2 with
    |cons p3 q3=>
     cases q3;exact⟨_,_,_,rfl,p1,p2,p3⟩
 refine wpAny_newObj_type ?_ (by show 3<=sizeLine;decide);have I2:Inv X pins σ H1 { s1 with heap:=s1.heap.push { cls:=.type "tuple",data:=.seq [u1,u2,u3].toArray } }:=I1.kept (t':=s1.toks) λb o e=>Heap.get?_push_of_some _ e;rw[hw];refine wpAny_bind (wpAny_pure ?_);show wpAny (model X.prog X.w) X.A (do rule "assign.swapped-stores";let items <- unpackItems (.ref s1.heap.objs.size) 3 none;assignInOrder [λv=>bindName X.env z v,λv=>bindName X.env y v,λv=>bindName X.env x v] items.reverse;pure Flow.next) _ _ _;refine wpAny_bind (wpAny_rule (wpAny_bind (unpackItems_tuple (items:=#[u1,u2,u3]) (I.ok.hd hc) (IsTup.new s1.heap _) λh' hx'=>?_)));have I3:=I2.kept (h':=h') (t':=s1.toks) λb o e=>hx' b o (ne_of_lt (Heap.lt_size e)) e;show wpAny _ _ (assignInOrder [λv=>bindName X.env z v,λv=>bindName X.env y v,λv=>bindName X.env x v] [u3,u2,u1] >>= λ_=>pure Flow.next) _ _ _;refine wpAny_bind (assignInOrder_cons (wpAny_bindName (E7 I3 hN hk (.inl hz) rq (λs2 I4=>?_) (.inr hz))));refine assignInOrder_cons (wpAny_bindName (E7 I4 hN hj (.inl hy) rw' (λs3 I5=>?_) (.inr hy)));refine assignInOrder_cons (wpAny_bindName (E7 I5 hN hi (.inl hx) rv (λs4 I6=>assignInOrder_nil (wpAny_pure ?_)) (.inr hx)));exact⟨_,H1,I6,q1⟩
theorem OV:bootBuiltins "list"=some (.type "list"):=by decide +kernel
theorem bt_tuple:bootBuiltins "tuple"=some (.type "tuple"):=by decide +kernel
theorem bt_len:bootBuiltins "len"=some (.builtin "len"):=by decide +kernel
theorem bt_repr:bootBuiltins "repr"=some (.builtin "repr"):=by decide +kernel
theorem bt_sum:bootBuiltins "sum"=some (.builtin "sum"):=by decide +kernel
theorem bt_min:bootBuiltins "min"=some (.builtin "min"):=by decide +kernel
theorem bt_max:bootBuiltins "max"=some (.builtin "max"):=by decide +kernel
theorem Lf:bootBuiltins "sorted"=some (.builtin "sorted"):=by decide +kernel
theorem bt_all:bootBuiltins "all"=some (.builtin "all"):=by decide +kernel
theorem Lq:bootBuiltins "isinstance"=some (.builtin "isinstance"):=by decide +kernel
theorem ne1:¬ (("cells":Str)="next"):=by decide +kernel
theorem ne2:¬ (("cells":Str)="left"):=by decide +kernel
theorem ne3:¬ (("cells":Str)="turn"):=by decide +kernel
theorem ne4:¬ (("next":Str)="left"):=by decide +kernel
theorem ne5:¬ (("next":Str)="turn"):=by decide +kernel
theorem ne6:¬ (("left":Str)="turn"):=by decide +kernel
theorem ZE:¬ (("left":Str)="next"):=by decide +kernel
theorem ZD:¬ (("turn":Str)="next"):=by decide +kernel
theorem ZC:¬ (("turn":Str)="left"):=by decide +kernel
mutual
theorem Iy:∀ns:List Int,PyData.canLayAll0 (ns.map PyData.int)=true
 |[]=>by simp[PyData.canLayAll0]
 |n::ns=>by simp[PyData.canLayAll0,PyData.canLay0,Iy ns]
end
end L2
namespace L2
open PySem PySem.Spec PyProof.Rows PySem.W
def lCx(X:Cx)(A:Around)(N':List Str)(qual:Str)(scope:Scope)(f:Addr)(cd:Value)(cl:List (Str×Addr))(s:Shared)(H:Hp):Cx:=
 { X with N:=N',s₀:=s,H₀:=H,A:=A.deeper (envX qual scope s.heap.objs.size f cd cl),env:=envX qual scope s.heap.objs.size f cd cl,outer:=X.stack,stack:=envX qual scope s.heap.objs.size f cd cl::X.stack,ex:=[],fn:=λ_=>false,calm:=true,pn:=[],xe:=λ_ _=>False }
structure LSc(scope:Scope)(p:Str):Prop where
 nocell:(scope.names.all λy=>y.2 != .cell)=true
 par:scope.names.lookup p=some .local
 co:scope.isCoroutine=false
 gen:scope.isGenerator=false
section
variable{X:Cx}{scope:Scope}{fr:List Str}{ix:List Nat}{pins:List (Addr×Obj)}{σ:St}{H:Hp}{s:Shared}{p:Str}
theorem LSc.ne(L:LSc scope p):∀y∈scope.names,y.2≠.cell:=λy hy e=>by
 have:=all_eq_true.mp L.nocell y hy;rw[e]at this
 revert this;decide
theorem Vq(S:CSc X scope fr ix)(L:LSc scope p)(I:Inv X pins σ H s){A:Around}(hf:A.frames=X.A.frames)(hh:A.handled=none){qual:Str}{f:Addr}{cd:Value}{h':Heap}{x:V}{u:Value}{t':Nat}
 (hk:∀b o,s.heap.get? b=some o->h'.get? b=some o) (hn:h'.Ns s.heap.objs.size λy=>if y=p then some u else none) (r:RelV x u):
 Inv (lCx X A (p::fr) qual scope f cd (Az X.env.cells scope.names []) s H) [] (some x::ix.map λi=>(σ[i]?).join) H { s with heap:=h',toks:=t' }:=by
 have lenix:fr.length=ix.length:=by simpa using congrArg List.length S.ixs
 have co:∀x c,(Az X.env.cells scope.names []).lookup x=some c->X.env.cells.lookup x=some c:=λx c e=>Eb (S.clos I.ok) (λ_ _ z=>by simp at z) x c e;refine⟨⟨I.ok.mod,S.kind,rfl,rfl,le_refl _,?_,?_,?_,λ_=>hh,Around.frames_deeper (hf.trans I.ok.frames),.inr ⟨rfl,rfl⟩,?_,I.bs,le_trans I.ok.bsz I.sz,?_,?_,I.stack,I.stkFree⟩,rfl,I.bare,Un.kept hk,⟨_,hn,?_⟩,?_,I.hok.fresh (le_refl _),?_,?_,I.hok.kept hk,?_⟩
 .intro x y c e1 e2;exact I.ok.inj x y c (co x c e1) (co y c e2)
 .intro x hx;rcases hx with e|e
  .exact absurd rfl (L.ne (x,.cell) (PySem.mem_of_lookup e))
  .exact isSome_iff_exists.mp (Dg (.inr (PySem.mem_of_lookup e)))
 .intro x c hf;cases hf
 .intro b hb;cases hb
 .intro b o e hb;cases hb
 .intro b hb;cases hb
 .intro i y v e1 e2 e3;cases i with
  |zero=>
   have e1:some p=some y:=e1;have e2:some (some x)=some (some v):=e2;cases e1;cases e2;exact⟨u,r,.inl ⟨L.par,if_pos rfl⟩⟩
  |succ j=>
   have e1:fr[j]?=some y:=e1;have e2:(ix.map λi=>(σ[i]?).join)[j]?=some (some v):=e2;rw[List.getElem?_map]at e2;have e4:(fr.map some)[j]?=some (some y):=by rw[List.getElem?_map,e1];rfl
   rw[S.ixs,List.getElem?_map]at e4;cases q:ix[j]? with
   |none=>rw[q]at e2;cases e2
   |some k=>
    rw[q]at e2 e4;have e2:(σ[k]?).join=some v:=Option.some.inj e2;have e4:X.N[k]?=some y:=Option.some.inj e4;have e5:σ[k]?=some (some v):=by
     cases w:σ[k]? with
     |none=>rw[w]at e2;cases e2
     |some z=>rw[w]at e2;simpa using e2
    have hfx:=all_eq_true.mp S.frs y (mem_of_getElem? e1);have hfx:scope.names.lookup y=some .free:=by simpa using hfx
    have hmem:=PySem.mem_of_lookup hfx;have hout:=S.outer hmem rfl;obtain⟨m,hm,hl⟩:=I.loc;obtain⟨u',r',l⟩:=hl k y v e4 e5 (.inr hout);refine⟨u',r',.inr ⟨.inr hfx,?_⟩⟩;rcases l with⟨kk,_⟩|⟨kk,c,ec,z⟩
    .rcases hout with w|w
     .rw[kk]at w;cases w
     .rw[kk]at w;cases w
    .obtain⟨d,hd⟩:=isSome_iff_exists.mp (Dg (cells:=X.env.cells) (acc:=[]) (.inr hmem));have:=co y d hd;rw[ec]at this;cases this;exact⟨c,hd,z.keeps hk⟩
 .intro x c e;obtain⟨v,z⟩:=I.cell x c (co x c e);exact⟨v,z.keeps hk⟩
 .intro x c e;exact I.freeC x c (co x c e)
 .intro p hp;cases hp
 .show(_::_:List (Option V)).length=(p::fr).length;simp[lenix]
theorem TB(S:CSc X scope fr ix)(L:LSc scope p)(I:Inv X pins σ H s){A:Around}(hf:A.frames=X.A.frames)(hr:Room 1 A){qual:Str}{f:Addr}{cd ctv pm:Value}{params:Arguments}{body:Expr}{x:V}{u:Value}{tb:TE}{Q:VK}
 (ho:s.heap.get? f=some { cls:=.type "function",data:=.func (kla_fn "<lambda>" qual params body scope (Az X.env.cells scope.names []) pm cd ctv) }) (hcd:s.heap.CodeRec cd qual)
 (hb:∀us:Value,bindArgs (kla_fn "<lambda>" qual params body scope (Az X.env.cells scope.names []) pm cd ctv) ⟨[us],[]⟩=pure [(p,us)])
 (he:∀(s:Shared) (H:Hp),PE (lCx X A (p::fr) qual scope f cd (Az X.env.cells scope.names []) s H) body tb) (r:RelV x u) (h:tb (some x::ix.map λi=>(σ[i]?).join) H Q):
 wpAny (model X.prog X.w) A (call (.ref f) [u]) (EP X pins σ Q) (λ_ _=>False) s:=by
 refine wpAny_call (codeAny_mono (R:=λres s'=>match res with|.ok (.ret u)=>EP X pins σ Q u s'|_=>False) (kla_callFunE hr.depth ho rfl L.co L.gen rfl hcd ?_) ?_)
 .rw[hb];refine wpAny_pure ?_;refine wpAny_newFunctionEnv L.ne (λy hy=>by rw[mem_singleton]at hy;subst hy;exact L.par) (λh' hns hsb=>⟨?_,?_⟩) S.kind
  .have hk:∀b o,s.heap.get? b=some o->h'.get? b=some o:=λb o e=>(hsb.2 b (ne_of_lt (Heap.lt_size e))).trans (Heap.get?_push_of_some _ e);exact I.nolimit.keeps hk
  .have hk:∀b o,s.heap.get? b=some o->h'.get? b=some o:=λb o e=>(hsb.2 b (ne_of_lt (Heap.lt_size e))).trans (Heap.get?_push_of_some _ e);have hns':h'.Ns s.heap.objs.size λy=>if y=p then some u else none:=by
    have e:(λy=>([(p,u)]:List (Str×Value)).reverse.lookup y)=λy=>if y=p then some u else none:=by
     funext y
     simp only[reverse_cons,List.reverse_nil,nil_append,lookup_cons,List.lookup_nil];by_cases hy:y=p
     .subst hy;simp
     .have hb':(y==p)=false:=beq_eq_false_iff_ne.mpr hy;simp[hb',hy]
    rw[<- e];exact hns
   have J:=Vq (t':=s.toks+1) (qual:=qual) (f:=f) (cd:=cd) S L I hf hr.hd hk hns' r;refine kla_codeExpr (wpAny_mono (he s H [] _ _ H Q J h) (λv s' hv=>?_) λ_ _ z=>z.elim);obtain⟨y,H',J',ry,q⟩:=hv;obtain⟨hh,g,d,t,os'⟩:=s';obtain rfl:os'=s.os:=J'.os;exact⟨y,H',I.call (h':=hh) (g':=g) (d':=d) (t':=t) (ch:=[]) J'.base J'.hok J'.bare (λb z=>absurd z (by simp)),ry,q⟩
 .intro res s' hq;cases res with
  |error e=>exact hq
  |ok fl=>
   cases fl with
   |ret u=>exact hq
   |next=>exact hq
   |brk=>exact hq
   |cont=>exact hq
end
def cdF(c:Addr)(q:Str):Heap->Prop:=λh=>h.CodeRec (.ref c) q
def KY(H:Hp)(q:Str)(pos:Pos)(ps:Array Value):Prop:=ps=#[]∨∃c,ps=#[rawInt pos.line,rawInt pos.col,.ref c]/\H c=some (.ext (cdF c q))
def TabStep(P:Addr)(q:Str)(pos:Pos)(H H':Hp):Prop:=H'=H∨∃c,H c=none/\c≠P/\H'=upd (upd H P (.tbl #[rawInt pos.line,rawInt pos.col,.ref c])) c (.ext (cdF c q))
structure LamAt(X:Cx)(c P:Addr):Prop where
 code:X.env.code=.ref c
 hd:CodeHd X.base c P
 bl:X.base.BuiltinsAt X.mg P
section
variable{X:Cx}{pins:List (Addr×Obj)}{σ:St}{H:Hp}{s:Shared}{c P:Addr}{scope:Scope}{fr:List Str}{ix:List Nat}
theorem Vp(I:Inv X pins σ H s){q:Str}{ps:Array Value}{ps':Array Value}(hP:H P=some (.tbl ps)){c':Addr}{h':Heap}{t':Nat}(hx:∀b o,b≠P->s.heap.get? b=some o->h'.get? b=some o)(hc:s.heap.objs.size<=c')
 (hrec:h'.CodeRec (.ref c') q) (htb:h'.get? P=some (tabObj (ps++ps'))):Inv X pins σ (upd (upd H P (.tbl (ps++ps'))) c' (.ext (cdF c' q))) { s with heap:=h',toks:=t' }:=by
 have hcn:H c'=none:=I.hok.fresh hc;have hPc:P≠c':=Ak hP hcn;have nP:∀b,H b=none->b≠P:=λb n z=>by subst z;rw[hP]at n;cases n
 have other:∀b,b≠P->b≠c'->upd (upd H P (.tbl (ps++ps'))) c' (.ext (cdF c' q)) b=H b:=λb h1 h2=>by rw[AJ h2,AJ h1]
 have ne':∀b u,H b=some u->b≠c':=λb u e=>Ak e hcn;refine I.un (h':=h') (t':=t') ⟨λb o e n _ _=>hx b o (nP b n) e,λb o e n _ _=>⟨o.slots,hx b o (nP b n) e⟩,λb o e n _=>?_,λb o e _=>?_,λb xs e=>?_,λb o u e=>?_,λb qs e=>?_⟩ λb u e=>?_
 .rw[other b (nP b n) (ne_of_lt (lt_of_lt_of_le (Heap.lt_size e) hc))];exact n
 .by_cases z:b=P
  .subst z;exact⟨_,htb⟩
  .exact⟨o,hx b o z e⟩
 .rw[other b (λz=>by subst z;rw[hP]at e;cases e) (ne' b _ e)];exact e
 .rw[other b (λz=>by subst z;rw[hP]at e;cases e) (ne' b _ e)];exact e
 .by_cases z:b=P
  .subst z;rw[hP]at e;cases e;exact⟨ps',by rw[AJ hPc,Af]⟩
  .exact⟨#[],by rw[other b z (ne' b _ e),e];simp⟩
 .by_cases z:b=c'
  .subst z;rw[Af]at e;cases e;obtain⟨c0,o,vs,t,e0,r⟩:=id hrec;cases e0;refine⟨hrec,⟨o,r.1⟩,λh1 h2 q1 k=>?_⟩;obtain⟨c1,o1,vs1,t1,e1,g1,r1⟩:=q1;cases e1;exact⟨_,o1,vs1,t1,rfl,k _ g1,r1⟩
  .by_cases z2:b=P
   .subst z2;rw[AJ hPc,Af]at e;cases e;exact htb
   .rw[other b z2 z]at e;refine(I.hok b u e).stay (λd v hd q=>hx d v ?_ q) (λd q=>?_) λd xs q=>?_
    .rcases hd with rfl|hd
     .exact z2
     .intro y;subst y;rw[hP]at hd;cases hd
    .rw[other d (λy=>by subst y;rw[hP]at q;cases q) (ne' d _ q)];exact q
    .rw[other d (λy=>by subst y;rw[hP]at q;cases q) (ne' d _ q)];exact q
structure Made(X:Cx)(scope:Scope)(params:Arguments)(body:Expr)(P:Addr)(q:Str)(pos:Pos)(s:Shared)(H H':Hp)(f:Addr)(cd ctv:Value)(s':Shared):Prop where
 fn:s'.heap.get? f=some { cls:=.type "function",data:=.func (kla_fn "<lambda>" q params body scope (Az X.env.cells scope.names []) ((X.mg "__name__").getD .none) cd ctv) }
 cdc:∃c,cd=.ref c/\H' c=some (.ext (cdF c q))
 step:TabStep P q pos H H'
 new:s.heap.objs.size<=f
 fre:H' f=none
theorem T9(S:CSc X scope fr ix)(LA:LamAt X c P)(I:Inv X pins σ H s){A:Around}{E:Value->Shared->Prop}{params:Arguments}{body:Expr}{pos:Pos}{ps:Array Value}{Q:Value->Shared->Prop}(hdef:defaultsOf params X.env=([],[]))
 (hP:H P=some (.tbl ps)) (hg:KY H (X.env.qual++"<lambda>") pos ps)
 (h:∀f cd ctv H' s',Inv X pins σ H' s'->Made X scope params body P (X.env.qual++"<lambda>") pos s H H' f cd ctv s'->Q (.ref f) s'):
 wpAny (model X.prog X.w) A (eval (.Lambda params body scope pos) X.env) Q E s:=by
 have hcl:closureFor scope X.env=pure (Az X.env.cells scope.names []):=E5 (S.clos I.ok);have hns:=I.mod.glob.keeps I.bk;have hb:=LA.bl.keeps I.bk;have hcd:=LA.hd.keeps I.bk;have hobj:s.heap.get? P=some (tabObj ps):=I.hok P _ hP;have hgP:mainGlobals≠P:=λz=>by
  obtain⟨o,es,ep,e,hd,_⟩:=hns;rw[z,hobj]at e;cases e;cases hd
 refine kla_eval hdef ?_;rcases hg with rfl|⟨c',rfl,hc'⟩
 .refine kla_makeFunction hcl I.ok.glob hns LA.code hcd hobj trivial rfl hgP hb λc' ctv h' tk hx hge hlt hrec htb=>?_;have hx':∀b o,b≠P->s.heap.get? b=some o->(h'.push (kla_obj "<lambda>" (X.env.qual++"<lambda>") params body scope (Az X.env.cells scope.names []) ((X.mg "__name__").getD .none) c' ctv)).get? b=some o:=λb o n e=>Heap.get?_push_of_some _ (hx b o n e);have J:=Vp (t':=tk) I hP hx' hge (hrec.push _) (Heap.get?_push_of_some _ htb);refine h _ _ ctv _ _ J ⟨Heap.get?_push_size _ rfl,⟨c',rfl,Af⟩,.inr ⟨c',I.hok.fresh hge,(Ak hP (I.hok.fresh hge)).symm,?_⟩,?_,?_⟩
  .simp
  .exact le_trans hge (le_of_lt hlt)
  .have hs:s.heap.objs.size<=h'.objs.size:=le_trans hge (le_of_lt hlt);rw[AJ (ne_of_gt hlt),AJ (ne_of_gt (lt_of_lt_of_le (Heap.lt_size hobj) hs))];exact I.hok.fresh hs
 .have hrec:s.heap.CodeRec (.ref c') (X.env.qual++"<lambda>"):=(I.hok c' _ hc').1;have hf:codeAmong pos (#[rawInt pos.line,rawInt pos.col,Value.ref c']:Array Value).toList=some (.ref c'):=by simp[codeAmong,rawInt]
  refine kla_makeFunctionHit hcl I.ok.glob hns LA.code hcd hobj (by simp[TriplesOk,rawInt]) hf hb λctv h' tk hk hsz=>?_;have hk':∀b o,s.heap.get? b=some o->(h'.push { cls:=.type "function",data:=.func (kla_fn "<lambda>" (X.env.qual++"<lambda>") params body scope (Az X.env.cells scope.names []) ((X.mg "__name__").getD .none) (.ref c') ctv) }).get? b=some o:=λb o e=>Heap.get?_push_of_some _ (hk b o e);exact h _ _ ctv _ _ (I.kept (t':=tk) hk') ⟨Heap.get?_push_size _ rfl,⟨c',rfl,hc'⟩,.inl rfl,hsz,I.hok.fresh hsz⟩
end
end L2
namespace L2
open PySem PySem.Spec PyProof.Rows
inductive I where
 |non|bl (b:Bool)|int (i:Int)|str (x:Str)|tup (ds:List I)
inductive D where
 |im (i:I)|mu (n:Nat)|tm (ds:List D)|ro (ns:List Int)
inductive MO where
 |lst (ds:List D)|dic (kvs:List (Key×D))
abbrev Hd:=List MO
abbrev Ls:=List (Option D)
def RoL(K:PySem.W.Frag)(H:Hp)(a:Addr)(xs:List V):Prop:=(∃o,H a=some (.frz o (.lst xs))) ∨
 ∃(o:Obj) (its:Array Value) (n:Nat),K.lookup a=some o/\o.cls=.type "list"/\o.dict=none/\o.data=.seq its n/\its.size<=sizeLine/\Vals xs its.toList
theorem RoL.sq{K:PySem.W.Frag}{H:Hp}{a:Addr}{xs:List V}(h:RoL K H a xs):SqL K H a xs:=by
 rcases h with⟨o,h⟩|h
 .exact .inl (.inr ⟨o,h⟩)
 .exact .inr h
theorem RoL.grow{K:PySem.W.Frag}{H H':Hp}{a:Addr}{xs:List V}(g:Grow H H')(h:RoL K H a xs):RoL K H' a xs:=by
 rcases h with⟨o,h⟩|h
 .exact .inl ⟨o,g.frz _ _ _ h⟩
 .exact .inr h
def CM(n:Nat):Prop:=n<=sizeLine
def E4(n:Nat):Prop:=n<sizeLine
def Es(i j:Int):Prop:=(-(2^64)<i/\i<2^64)∨(-(2^64)<j/\j<2^64)
def P4(i j:Int):Prop:=0<=j/\j<=1000000/\i.natAbs<2^64
def M7(j:Int):Prop:=0<j/\j<1073741824
def DK(j:Int):Prop:=0<j
def Fa(j:Int):Prop:=-(2^62)<=j/\j<2^62
def Mj(i j:Int):Prop:=(-(2^62)<=i/\i<2^62)/\-(2^62)<=j/\j<2^62
def Jn(j:Int):Prop:=j<2^24/\-(2^62)<=j
def To(i j:Int):Prop:=(-(2^62)<=i/\i<2^62)/\(-(2^62)<=j/\j<2^62)/\(j-i).toNat<=2^24
theorem Aq{n:Nat}(h:n<=1000000):CM n:=le_trans h (by rw[sizeLine_eq];decide)
theorem Ca{n:Nat}(h:n<1000000):E4 n:=lt_of_lt_of_le h (by rw[sizeLine_eq];decide)
theorem EH{i j:Int}(a:-1000000000000<=i)(b:i<=1000000000000):Es i j:=.inl ⟨by omega,by omega⟩
theorem DD{j:Int}(a:-1000000000000<=j)(b:j<=1000000000000):Fa j:=⟨by omega,by omega⟩
theorem Uh{i j:Int}(a:-1000000000000<=i)(b:i<=1000000000000)(c:-1000000000000<=j)(d:j<=1000000000000):Mj i j:=⟨⟨by omega,by omega⟩,by omega,by omega⟩
theorem Mi{j:Int}(a:-1000000000000<=j)(b:j<=1000000):Jn j:=⟨by omega,by omega⟩
section
variable(K:PySem.W.Frag)
mutual
def RI(H:Hp):I->V->Prop
 |.non,v=>v=.non
 |.bl b,v=>v=.bl b
 |.int i,v=>v=.int i
 |.str x,v=>v=.str x
 |.tup ds,v=>∃a xs,v=.ref a/\SqT K H a xs/\RIs H ds xs
def RIs(H:Hp):List I->List V->Prop
 |[],xs=>xs=[]
 |d::ds,xs=>∃x r,xs=x::r/\RI H d x/\RIs H ds r
end
mutual
def RD(ρ:List Addr)(H:Hp):D->V->Prop
 |.im i,v=>RI K H i v
 |.mu n,v=>∃a,ρ[n]?=some a/\v=.ref a
 |.tm ds,v=>∃a xs,v=.ref a/\SqT K H a xs/\RDs ρ H ds xs
 |.ro ns,v=>∃a,v=.ref a/\RoL K H a (ns.map V.int)
def RDs(ρ:List Addr)(H:Hp):List D->List V->Prop
 |[],xs=>xs=[]
 |d::ds,xs=>∃x r,xs=x::r/\RD ρ H d x/\RDs ρ H ds r
end
def RKs(ρ:List Addr)(H:Hp):List (Key×D)->List (Key×V)->Prop
 |[],xs=>xs=[]
 |d::ds,xs=>∃x r,xs=x::r/\x.1=d.1/\RD K ρ H d.2 x.2/\RKs ρ H ds r
def RC(ρ:List Addr)(H:Hp):MO->HO->Prop
 |.lst ds,o=>∃xs,o=.lst xs/\RDs K ρ H ds xs
 |.dic kvs,o=>∃kv,o=.dK kv/\RKs K ρ H kvs kv
def Lw:List Value->List (Addr×Str×Pos)
 |.ref P::.str q _::.int l _::.int c _::r=>(P,q,⟨l.toNat,c.toNat,0,0⟩)::Lw r
 |_=>[]
def YJ(o:Obj):List (Addr×Str×Pos):=match o.cls,o.data with
 |.str _ _,.fields vs=>Lw vs.toList
 |_,_=>[]
def EM(K:PySem.W.Frag):List (Addr×Str×Pos):=match K.getLast? with
 |some p=>YJ p.2
 |none=>[]
def TabsOk(K:PySem.W.Frag)(H:Hp):Prop:=∀x∈EM K,∃ps,H x.1=some (.tbl ps)/\KY H x.2.1 x.2.2 ps
structure RH(ρ:List Addr)(H:Hp)(hd:Hd):Prop where
 len:ρ.length=hd.length
 nd:ρ.Nodup
 tabs:TabsOk K H
 ob:∀(n:Nat) (o:MO) (a:Addr),hd[n]?=some o->ρ[n]?=some a->∃ho,H a=some ho/\RC K ρ H o ho
structure RL(ρ:List Addr)(H:Hp)(ls:Ls)(σ:St):Prop where
 len:ls.length=σ.length
 ob:∀(i:Nat) (d:D),ls[i]?=some (some d)->∃v,σ[i]?=some (some v)/\RD K ρ H d v
end
structure Ext(ρ:List Addr)(H:Hp)(ρ':List Addr)(H':Hp):Prop where
 pre:∃r,ρ'=ρ++r/\∀b∈r,H b=none
 keep:∀b o,H b=some o->b∉ρ->(∀ps,o≠.tbl ps)->H' b=some o
 tab:∀b ps,H b=some (.tbl ps)->∃ps',H' b=some (.tbl ps')
theorem nt{o:HO}(h:match o with|.tbl _=>False|_=>True:=by trivial):∀ps,o≠.tbl ps:=λps e=>by subst e;exact h
theorem TabsOk.upd{K:PySem.W.Frag}{H:Hp}(t:TabsOk K H){a:Addr}{ho:HO}(h1:∀ps,H a≠some (.tbl ps))(h2:∀φ,H a≠some (.ext φ)):TabsOk K (upd H a ho):=λx hx=>by
 obtain⟨ps,e,g⟩:=t x hx;have ne:x.1≠a:=λz=>h1 ps (by rw[<- z];exact e);refine⟨ps,by rw[AJ ne];exact e,?_⟩;rcases g with g|⟨c,g1,g2⟩
 .exact .inl g
 .have nc:c≠a:=λz=>h2 _ (by rw[<- z];exact g2);exact .inr ⟨c,g1,by rw[AJ nc];exact g2⟩
section
variable{K:PySem.W.Frag}{ρ ρ' ρ1 ρ2:List Addr}{H H' H1 H2:Hp}{hd hd' hd1:Hd}
mutual
theorem RI.grow(g:Grow H H'):∀{i:I} {v:V},RI K H i v->RI K H' i v
 |.non,v,h=>by simpa only[RI]using h
 |.bl b,v,h=>by simpa only[RI]using h
 |.int b,v,h=>by simpa only[RI]using h
 |.str b,v,h=>by simpa only[RI]using h
 |.tup ds,v,h=>by
  simp only[RI]at h ⊢;obtain⟨a,xs,e,q,r⟩:=h;exact⟨a,xs,e,g.sq q,RIs.grow g r⟩
theorem RIs.grow(g:Grow H H'):∀{i:List I} {v:List V},RIs K H i v->RIs K H' i v
 |[],v,h=>by simpa only[RIs]using h
 |d::ds,v,h=>by
  simp only[RIs]at h ⊢;obtain⟨x,r,e,q,z⟩:=h;exact⟨x,r,e,q.grow g,RIs.grow g z⟩
end
theorem RH.mut(h:RH K ρ H hd){a:Addr}(m:a∈ρ):(∃xs,H a=some (.lst xs))∨∃kv,H a=some (.dK kv):=by
 obtain⟨n,e⟩:=mem_iff_getElem?.mp m;have hn:n<hd.length:=by rw[<- h.len];exact(List.getElem?_eq_some_iff.mp e).1
 obtain⟨ho,e1,e2⟩:=h.ob n hd[n] a (by simp[hn]) e;cases q:hd[n]with
 |lst ds=>rw[q]at e2;obtain⟨xs,rfl,_⟩:=e2;exact .inl ⟨xs,e1⟩
 |dic ds=>rw[q]at e2;obtain⟨xs,rfl,_⟩:=e2;exact .inr ⟨xs,e1⟩
theorem RH.tup_out(h:RH K ρ H hd){a:Addr}{xs:List V}(e:H a=some (.tup xs)):a∉ρ:=λm=>by
 rcases h.mut m with⟨y,z⟩|⟨y,z⟩<;>(rw[e]at z;cases z)
theorem RH.frz_out(h:RH K ρ H hd){a:Addr}{o:Obj}{u:HO}(e:H a=some (.frz o u)):a∉ρ:=λm=>by
 rcases h.mut m with⟨y,z⟩|⟨y,z⟩<;>(rw[e]at z;cases z)
theorem Ext.grow(e:Ext ρ H ρ' H')(h:RH K ρ H hd):Grow H H':=⟨λb xs q=>e.keep b _ q (h.tup_out q) nt,λb o u q=>e.keep b _ q (h.frz_out q) nt⟩
theorem Ext.refl:Ext ρ H ρ H:=⟨⟨[],by simp,by simp⟩,λ_ _ h _ _=>h,λ_ ps h=>⟨ps,h⟩⟩
theorem Ext.trans(e:Ext ρ H ρ1 H1)(h0:RH K ρ1 H1 hd1)(e2:Ext ρ1 H1 ρ2 H2):Ext ρ H ρ2 H2:=by
 obtain⟨r1,rfl,f1⟩:=e.pre;obtain⟨r2,rfl,f2⟩:=e2.pre;refine⟨⟨r1++r2,by simp,λb m=>?_⟩,λb o q n t=>?_,λb ps q=>?_⟩
 .rcases mem_append.mp m with m|m
  .exact f1 b m
  .have z:=f2 b m;cases q:H b with
   |none=>rfl
   |some o=>
    by_cases n:b∈ρ
    .rcases h0.mut (mem_append_left r1 n)with⟨y,w⟩|⟨y,w⟩<;>(rw[z]at w;cases w)
    .by_cases t:∃ps,o=.tbl ps
     .obtain⟨ps,rfl⟩:=t;obtain⟨ps',this⟩:=e.tab b ps q;rw[z]at this;cases this
     .have:=e.keep b o q n λps y=>t ⟨ps,y⟩;rw[z]at this;cases this
 .refine e2.keep b o (e.keep b o q n t) (λm=>?_) t;rcases mem_append.mp m with m|m
  .exact n m
  .have:=f1 b m;rw[q]at this;cases this
 .obtain⟨ps',q'⟩:=e.tab b ps q;exact e2.tab b ps' q'
mutual
theorem RD.mono(g:Grow H H')(r:List Addr):∀{d:D} {v:V},RD K ρ H d v->RD K (ρ++r) H' d v
 |.im i,v,h=>by simp only[RD]at h ⊢;exact h.grow g
 |.mu n,v,h=>by
  simp only[RD]at h ⊢;obtain⟨a,e,q⟩:=h;exact⟨a,by rw[List.getElem?_append_left (List.getElem?_eq_some_iff.mp e).1];exact e,q⟩
 |.tm ds,v,h=>by
  simp only[RD]at h ⊢;obtain⟨a,xs,e,q,z⟩:=h;exact⟨a,xs,e,g.sq q,RDs.mono g r z⟩
 |.ro ns,v,h=>by
  simp only[RD]at h ⊢;obtain⟨a,e,q⟩:=h;exact⟨a,e,q.grow g⟩
theorem RDs.mono(g:Grow H H')(r:List Addr):∀{d:List D} {v:List V},RDs K ρ H d v->RDs K (ρ++r) H' d v
 |[],v,h=>by simpa only[RDs]using h
 |d::ds,v,h=>by
  simp only[RDs]at h ⊢;obtain⟨x,r',e,q,z⟩:=h;exact⟨x,r',e,q.mono g r,RDs.mono g r z⟩
end
theorem RKs.mono(g:Grow H H')(r:List Addr):∀{d:List (Key×D)} {v:List (Key×V)},RKs K ρ H d v->RKs K (ρ++r) H' d v
 |[],v,h=>by simpa only[RKs]using h
 |d::ds,v,h=>by
  simp only[RKs]at h ⊢;obtain⟨x,r',e,q1,q,z⟩:=h;exact⟨x,r',e,q1,q.mono g r,RKs.mono g r z⟩
theorem RC.mono(g:Grow H H')(r:List Addr){o:MO}{ho:HO}(h:RC K ρ H o ho):RC K (ρ++r) H' o ho:=by
 cases o with
 |lst ds=>obtain⟨xs,e,q⟩:=h;exact⟨xs,e,q.mono g r⟩
 |dic ds=>obtain⟨xs,e,q⟩:=h;exact⟨xs,e,q.mono g r⟩
theorem RD.ext(h:RH K ρ H hd)(e:Ext ρ H ρ' H'){d:D}{v:V}(q:RD K ρ H d v):RD K ρ' H' d v:=by
 obtain⟨r,rfl,_⟩:=e.pre;exact q.mono (e.grow h) r
theorem RDs.ext(h:RH K ρ H hd)(e:Ext ρ H ρ' H'){d:List D}{v:List V}(q:RDs K ρ H d v):RDs K ρ' H' d v:=by
 obtain⟨r,rfl,_⟩:=e.pre;exact q.mono (e.grow h) r
theorem RL.ext(h:RH K ρ H hd)(e:Ext ρ H ρ' H'){ls:Ls}{σ:St}(q:RL K ρ H ls σ):RL K ρ' H' ls σ:=
 ⟨q.len,λi d z=>let ⟨v,a,b⟩:=q.ob i d z;⟨v,a,b.ext h e⟩⟩
theorem RDs.len:∀{ds:List D} {xs:List V},RDs K ρ H ds xs->xs.length=ds.length
 |[],xs,h=>by simp only[RDs]at h;rw[h];rfl
 |d::ds,xs,h=>by
  simp only[RDs]at h;obtain⟨x,r,rfl,_,z⟩:=h;simp[RDs.len z]
theorem RDs.get:∀{ds:List D} {xs:List V} {i:Nat} {d:D},RDs K ρ H ds xs->ds[i]?=some d->∃x,xs[i]?=some x/\RD K ρ H d x
 |[],xs,i,d,h,e=>by simp at e
 |d::ds,xs,0,e,h,q=>by
  simp only[RDs]at h;obtain⟨x,r,rfl,z,_⟩:=h;simp at q;subst q;exact⟨x,rfl,z⟩
 |d::ds,xs,i+1,e,h,q=>by
  simp only[RDs]at h;obtain⟨x,r,rfl,_,z⟩:=h;obtain⟨y,a,b⟩:=RDs.get (i:=i) z (by simpa using q);exact⟨y,by simpa using a,b⟩
theorem RDs.nil:RDs K ρ H [] []:=by simp[RDs]
theorem RDs.cons{d:D}{v:V}{ds:List D}{vs:List V}(h:RD K ρ H d v)(t:RDs K ρ H ds vs):RDs K ρ H (d::ds) (v::vs):=by
 simp only[RDs];exact⟨v,vs,rfl,h,t⟩
theorem RDs.app:∀{ds es:List D} {xs ys:List V},RDs K ρ H ds xs->RDs K ρ H es ys->RDs K ρ H (ds++es) (xs++ys)
 |[],es,xs,ys,h,t=>by simp only[RDs]at h;subst h;simpa using t
 |d::ds,es,xs,ys,h,t=>by
  simp only[RDs]at h;obtain⟨x,r,rfl,z,q⟩:=h;simp only[cons_append];exact .cons z (q.app t)
theorem RDs.set:∀{ds:List D} {xs:List V} {d:D} {v:V} (i:Nat),RDs K ρ H ds xs->RD K ρ H d v->RDs K ρ H (ds.set i d) (xs.set i v)
 |[],xs,d,v,i,h,t=>by simp only[RDs]at h;subst h;simp[RDs]
 |d::ds,xs,e,v,0,h,t=>by
  simp only[RDs]at h;obtain⟨x,r,rfl,z,q⟩:=h;simpa using RDs.cons t q
 |d::ds,xs,e,v,i+1,h,t=>by
  simp only[RDs]at h;obtain⟨x,r,rfl,z,q⟩:=h;simpa using RDs.cons z (q.set i t)
theorem RDs.drop:∀{ds:List D} {xs:List V} (n:Nat),RDs K ρ H ds xs->RDs K ρ H (ds.drop n) (xs.drop n)
 |ds,xs,0,h=>by simpa using h
 |[],xs,n+1,h=>by simp only[RDs]at h;subst h;simp[RDs]
 |d::ds,xs,n+1,h=>by
  simp only[RDs]at h;obtain⟨x,r,rfl,z,q⟩:=h;simpa using q.drop n
theorem RDs.take:∀{ds:List D} {xs:List V} (n:Nat),RDs K ρ H ds xs->RDs K ρ H (ds.take n) (xs.take n)
 |ds,xs,0,h=>by simp[RDs]
 |[],xs,n+1,h=>by simp only[RDs]at h;subst h;simp[RDs]
 |d::ds,xs,n+1,h=>by
  simp only[RDs]at h;obtain⟨x,r,rfl,z,q⟩:=h;simpa using RDs.cons z (q.take n)
theorem RIs.ds:∀{is:List I} {xs:List V},RIs K H is xs->RDs K ρ H (is.map D.im) xs
 |[],xs,h=>by simpa only[RIs,RDs,map_nil]using h
 |i::is,xs,h=>by
  simp only[RIs]at h;obtain⟨x,r,rfl,z,q⟩:=h;exact .cons (by simpa only[RD]using z) q.ds
theorem RDs.is:∀{is:List I} {xs:List V},RDs K ρ H (is.map D.im) xs->RIs K H is xs
 |[],xs,h=>by simpa only[RIs,RDs,map_nil]using h
 |i::is,xs,h=>by
  simp only[map_cons,RDs]at h;obtain⟨x,r,rfl,z,q⟩:=h;simp only[RIs];exact⟨x,r,rfl,by simpa only[RD]using z,q.is⟩
theorem RH.new(h:RH K ρ H hd){a:Addr}(ha:H a=none){o:MO}{ho:HO}(c:RC K ρ H o ho):RH K (ρ++[a]) (upd H a ho) (hd++[o])/\Ext ρ H (ρ++[a]) (upd H a ho):=by
 have out:a∉ρ:=λm=>by rcases h.mut m with⟨y,z⟩|⟨y,z⟩<;>(rw[ha]at z;cases z)
 have ex:Ext ρ H (ρ++[a]) (upd H a ho):=⟨⟨[a],rfl,λb m=>by simp at m;subst m;exact ha⟩,λb o q n _=>by rw[AJ (Ak q ha)];exact q,λb ps q=>⟨ps,by rw[AJ (Ak q ha)];exact q⟩⟩
 refine⟨⟨by simp[h.len],?_,h.tabs.upd (by simp[ha]) (by simp[ha]),λn o' b e1 e2=>?_⟩,ex⟩
 .rw[List.nodup_append];refine⟨h.nd,by simp,λx hx y hy z=>?_⟩;simp at hy;subst hy;subst z;exact out hx
 .have gr:=ex.grow h;by_cases hn:n<ρ.length
  .rw[List.getElem?_append_left hn]at e2;rw[List.getElem?_append_left (by rw[<- h.len];exact hn)]at e1;obtain⟨ho',q1,q2⟩:=h.ob n o' b e1 e2;exact⟨ho',by rw[AJ (Ak q1 ha)];exact q1,q2.mono gr [a]⟩
  .have hn':n=ρ.length:=by
    have:=(List.getElem?_eq_some_iff.mp e2).1;simp at this;omega
   subst hn';simp at e2;rw[h.len]at e1;simp at e1;subst e1;subst e2;exact⟨ho,Af,c.mono gr [a]⟩
theorem RH.put(h:RH K ρ H hd){n:Nat}{a:Addr}(hn:ρ[n]?=some a){o:MO}{ho:HO}(c:RC K ρ H o ho):RH K ρ (upd H a ho) (hd.set n o)/\Ext ρ H ρ (upd H a ho):=by
 have ha:=h.mut (mem_of_getElem? hn);have n1:∀ps,H a≠some (.tbl ps):=λps e=>by rcases ha with⟨y,z⟩|⟨y,z⟩<;>(rw[e]at z;cases z)
 have n2:∀φ,H a≠some (.ext φ):=λps e=>by rcases ha with⟨y,z⟩|⟨y,z⟩<;>(rw[e]at z;cases z)
 have ex:Ext ρ H ρ (upd H a ho):=⟨⟨[],by simp,by simp⟩,λb o q m _=>by
  have:b≠a:=λz=>m (by rw[z];exact mem_of_getElem? hn);rw[AJ this];exact q,λb ps q=>⟨ps,(AJ (show b≠a from λz=>n1 ps (by rw[<- z];exact q))).trans q⟩⟩
 have gr:=ex.grow h;refine⟨⟨by simp[h.len],h.nd,h.tabs.upd n1 n2,λm o' b e1 e2=>?_⟩,ex⟩;have hm:m<hd.length:=by rw[<- h.len];exact(List.getElem?_eq_some_iff.mp e2).1
 by_cases hmn:m=n
 .subst hmn;rw[hn]at e2;cases e2;rw[List.getElem?_set_self hm]at e1;cases e1;exact⟨ho,Af,by simpa using c.mono gr []⟩
 .rw[List.getElem?_set_ne (λz=>hmn z.symm)]at e1;obtain⟨ho',q1,q2⟩:=h.ob m o' b e1 e2;have:b≠a:=λz=>by
   subst z;have l1:=(List.getElem?_eq_some_iff.mp e2).1;have l2:=(List.getElem?_eq_some_iff.mp hn).1;exact hmn ((List.getElem?_inj l1 h.nd).mp (e2.trans hn.symm))
  exact⟨ho',by rw[AJ this];exact q1,by simpa using q2.mono gr []⟩
theorem RH.lst(h:RH K ρ H hd){n:Nat}{a:Addr}{ds:List D}(hn:ρ[n]?=some a)(e:hd[n]?=some (.lst ds)):∃xs,H a=some (.lst xs)/\RDs K ρ H ds xs:=by
 obtain⟨ho,q,xs,rfl,r⟩:=h.ob n _ a e hn;exact⟨xs,q,r⟩
theorem RH.dic(h:RH K ρ H hd){n:Nat}{a:Addr}{ds:List (Key×D)}(hn:ρ[n]?=some a)(e:hd[n]?=some (.dic ds)):∃xs,H a=some (.dK xs)/\RKs K ρ H ds xs:=by
 obtain⟨ho,q,xs,rfl,r⟩:=h.ob n _ a e hn;exact⟨xs,q,r⟩
theorem RH.hid(h:RH K ρ H hd){a:Addr}(ha:H a=none){ho:HO}:RH K ρ (upd H a ho) hd/\Ext ρ H ρ (upd H a ho):=by
 have out:a∉ρ:=λm=>by rcases h.mut m with⟨y,z⟩|⟨y,z⟩<;>(rw[ha]at z;cases z)
 have ex:Ext ρ H ρ (upd H a ho):=⟨⟨[],by simp,by simp⟩,λb o q n _=>by rw[AJ (Ak q ha)];exact q,λb ps q=>⟨ps,by rw[AJ (Ak q ha)];exact q⟩⟩
 have gr:=ex.grow h;refine⟨⟨h.len,h.nd,h.tabs.upd (by simp[ha]) (by simp[ha]),λm o' b e1 e2=>?_⟩,ex⟩;obtain⟨ho',q1,q2⟩:=h.ob m o' b e1 e2;exact⟨ho',by rw[AJ (Ak q1 ha)];exact q1,by simpa using q2.mono gr []⟩
theorem RH.hput(h:RH K ρ H hd){a:Addr}(out:a∉ρ){xs:List V}{ho:HO}(hl:H a=some (.lst xs)):RH K ρ (upd H a ho) hd:=by
 have gr:Grow H (upd H a ho):=Grow.refl.put (.lst hl);refine⟨h.len,h.nd,h.tabs.upd (by simp[hl]) (by simp[hl]),λm o' b e1 e2=>?_⟩;obtain⟨ho',q1,q2⟩:=h.ob m o' b e1 e2;have:b≠a:=λz=>out (by rw[<- z];exact mem_of_getElem? e2);exact⟨ho',by rw[AJ this];exact q1,by simpa using q2.mono gr []⟩
end
end L2
namespace L2
open PySem PySem.Spec PyProof.Rows
abbrev ME:=Ls->Hd->Option (D×Hd)
abbrev MT:=Ls->Hd->Option (Bool×Hd)
abbrev MA:=Ls->Hd->Option (List D×Hd)
inductive Fl where
 |nx (ls:Ls)|rt (d:D)|bk (ls:Ls)|ct (ls:Ls)
abbrev MS:=Ls->Hd->Option (Fl×Hd)
section
variable(K:PySem.W.Frag)
def RE(t:TE)(m:ME):Prop:=∀(ρ:List Addr) (σ:St) (H:Hp) (hd:Hd) (ls:Ls) (Q:VK) (d:D) (hd':Hd),RH K ρ H hd->RL K ρ H ls σ->m ls hd=some (d,hd') ->
 (∀ρ' H' v,Ext ρ H ρ' H'->RH K ρ' H' hd'->RD K ρ' H' d v->Q v H')->t σ H Q
def RT(t:TT)(m:MT):Prop:=∀(ρ:List Addr) (σ:St) (H:Hp) (hd:Hd) (ls:Ls) (Q:Bool->Hp->Prop) (d:Bool) (hd':Hd),RH K ρ H hd->RL K ρ H ls σ->m ls hd=some (d,hd') ->
 (∀ρ' H',Ext ρ H ρ' H'->RH K ρ' H' hd'->Q d H')->t σ H Q
def RA(t:TA)(m:MA):Prop:=∀(ρ:List Addr) (σ:St) (H:Hp) (hd:Hd) (ls:Ls) (Q:List V->Hp->Prop) (d:List D) (hd':Hd),RH K ρ H hd->RL K ρ H ls σ->m ls hd=some (d,hd') ->
 (∀ρ' H' v,Ext ρ H ρ' H'->RH K ρ' H' hd'->RDs K ρ' H' d v->Q v H')->t σ H Q
def RN(t:TE)(m:MA):Prop:=∀(ρ:List Addr) (σ:St) (H:Hp) (hd:Hd) (ls:Ls) (Q:VK) (d:List D) (hd':Hd),RH K ρ H hd->RL K ρ H ls σ->m ls hd=some (d,hd') ->
 (∀ρ' H' a xs,Ext ρ H ρ' H'->RH K ρ' H' hd'->H a=none->a∉ρ'->H' a=some (.lst xs)->RDs K ρ' H' d xs->Q (.ref a) H')->t σ H Q
def Yy(E:Ends)(ρ:List Addr)(H:Hp):Fl->Prop
 |.nx ls=>∀σ,RL K ρ H ls σ->E.nx σ H
 |.bk ls=>∀σ,RL K ρ H ls σ->E.bk σ H
 |.ct ls=>∀σ,RL K ρ H ls σ->E.ct σ H
 |.rt d=>∀v,RD K ρ H d v->E.rt v H
def RS(t:TS)(m:MS):Prop:=∀(ρ:List Addr) (σ:St) (H:Hp) (hd:Hd) (ls:Ls) (E:Ends) (f:Fl) (hd':Hd),RH K ρ H hd->RL K ρ H ls σ->m ls hd=some (f,hd') ->
 (∀ρ' H',Ext ρ H ρ' H'->RH K ρ' H' hd'->Yy K E ρ' H' f)->t E σ H
def RB(r:R2)(f:D->D->Hd->Option (D×Hd)):Prop:=∀(ρ:List Addr) (H:Hp) (hd:Hd) (d e:D) (v u:V) (Q:VK) (z:D) (hd':Hd),RH K ρ H hd->RD K ρ H d v->RD K ρ H e u->f d e hd=some (z,hd') ->
 (∀ρ' H' w,Ext ρ H ρ' H'->RH K ρ' H' hd'->RD K ρ' H' z w->Q w H')->r v u H Q
def RF(r:List V->Hp->VK->Prop)(f:List D->Hd->Option (D×Hd)):Prop:=∀(ρ:List Addr) (H:Hp) (hd:Hd) (ds:List D) (vs:List V) (Q:VK) (z:D) (hd':Hd),RH K ρ H hd->RDs K ρ H ds vs->f ds hd=some (z,hd') ->
 (∀ρ' H' w,Ext ρ H ρ' H'->RH K ρ' H' hd'->RD K ρ' H' z w->Q w H')->r vs H Q
def RG(tp:Bool)(r:List V->Hp->VK->Prop)(g:List D->Option D):Prop:=∀(ρ:List Addr) (H:Hp) (hd:Hd) (a:Addr) (xs:List V) (ds:List D) (Q:VK) (z:D),RH K ρ H hd->(SqL K H a xs∨(tp=true/\SqT K H a xs))->RDs K ρ H ds xs->g ds=some z ->
 (∀H' w,Ext ρ H ρ H'->RH K ρ H' hd->RD K ρ H' z w->Q w H')->r [.ref a] H Q
end
structure QE(K:PySem.W.Frag)(X:Cx)(e:Expr)(t:TE)(m:ME):Prop where
 p:PE X e t
 r:RE K t m
structure QT(K:PySem.W.Frag)(X:Cx)(e:Expr)(t:TT)(m:MT):Prop where
 p:PT X e t
 r:RT K t m
structure QW(K:PySem.W.Frag)(X:Cx)(e:Expr)(t:TT)(m:MT):Prop where
 p:PW X e t
 r:RT K t m
structure QA(K:PySem.W.Frag)(X:Cx)(e:List Expr)(t:TA)(m:MA):Prop where
 p:PA X e t
 r:RA K t m
structure QN(K:PySem.W.Frag)(X:Cx)(e:Expr)(t:TE)(m:MA):Prop where
 p:PE X e t
 r:RN K t m
structure QS(K:PySem.W.Frag)(X:Cx)(e:Stmt)(t:TS)(m:MS):Prop where
 p:PS X e t
 r:RS K t m
structure QSs(K:PySem.W.Frag)(X:Cx)(e:List Stmt)(t:TS)(m:MS):Prop where
 p:PSs X e t
 r:RS K t m
def Ao:D->Option (List D)
 |.im (.tup is)=>some (is.map .im)
 |.tm ds=>some ds
 |_=>none
def Br(hd:Hd):D->Option (List D)
 |.mu n=>match hd[n]? with
  |some (.lst ds)=>some ds
  |_=>none
 |.ro ns=>some (ns.map λn=>.im (.int n))
 |_=>none
def BV(hd:Hd)(d:D):Option (List D):=match Ao d with
 |some ds=>some ds
 |none=>Br hd d
def Bv:List D->Option (List I)
 |[]=>some []
 |.im i::r=>(Bv r).map (i::·)
 |_::_=>none
def Av(ds:List D):D:=match Bv ds with
 |some is=>.im (.tup is)
 |none=>.tm ds
def BS:List D->Option (List Int)
 |[]=>some []
 |.im (.int i)::r=>(BS r).map (i::·)
 |_::_=>none
def Cw:List D->Option (List Bool)
 |[]=>some []
 |.im (.bl i)::r=>(Cw r).map (i::·)
 |_::_=>none
section
variable{K:PySem.W.Frag}{ρ ρ':List Addr}{H H':Hp}{hd hd':Hd}
theorem HG:∀{ds:List D} {is:List I},Bv ds=some is->ds=is.map .im
 |[],is,h=>by simp[Bv]at h;subst h;rfl
 |.im i::r,is,h=>by
  simp only[Bv,Option.map_eq_some_iff]at h;obtain⟨js,e,rfl⟩:=h;simp[HG e]
 |.mu _::_,is,h=>by simp[Bv]at h
 |.tm _::_,is,h=>by simp[Bv]at h
 |.ro _::_,is,h=>by simp[Bv]at h
theorem E9:∀{ds:List D} {is:List Int},BS ds=some is->ds=is.map λi=>.im (.int i)
 |[],is,h=>by simp[BS]at h;subst h;rfl
 |.im (.int i)::r,is,h=>by
  simp only[BS,Option.map_eq_some_iff]at h;obtain⟨js,e,rfl⟩:=h;simp[E9 e]
 |.im (.bl _)::_,is,h=>by simp[BS]at h
 |.im (.str _)::_,is,h=>by simp[BS]at h
 |.im .non::_,is,h=>by simp[BS]at h
 |.im (.tup _)::_,is,h=>by simp[BS]at h
 |.mu _::_,is,h=>by simp[BS]at h
 |.tm _::_,is,h=>by simp[BS]at h
 |.ro _::_,is,h=>by simp[BS]at h
theorem OW:∀{ds:List D} {is:List Bool},Cw ds=some is->ds=is.map λi=>.im (.bl i)
 |[],is,h=>by simp[Cw]at h;subst h;rfl
 |.im (.bl i)::r,is,h=>by
  simp only[Cw,Option.map_eq_some_iff]at h;obtain⟨js,e,rfl⟩:=h;simp[OW e]
 |.im (.int _)::_,is,h=>by simp[Cw]at h
 |.im (.str _)::_,is,h=>by simp[Cw]at h
 |.im .non::_,is,h=>by simp[Cw]at h
 |.im (.tup _)::_,is,h=>by simp[Cw]at h
 |.mu _::_,is,h=>by simp[Cw]at h
 |.tm _::_,is,h=>by simp[Cw]at h
 |.ro _::_,is,h=>by simp[Cw]at h
@[simp] theorem Rr(is:List I):Bv (is.map .im)=some is:=by induction is<;>simp_all [Bv]
@[simp] theorem FB(is:List Int):BS (is.map λi=>.im (.int i))=some is:=by induction is<;>simp_all [BS]
@[simp] theorem blsD_map(is:List Bool):Cw (is.map λi=>.im (.bl i))=some is:=by induction is<;>simp_all [Cw]
theorem IQ:∀{ns:List Int} {xs:List V},RDs K ρ H (ns.map λi=>.im (.int i)) xs->xs=ns.map V.int
 |[],xs,h=>by simpa [RDs]using h
 |n::ns,xs,h=>by
  simp only[map_cons,RDs,RD,RI]at h;obtain⟨x,r,rfl,rfl,z⟩:=h;rw[IQ z];rfl
theorem FS:∀{ns:List Int},RDs K ρ H (ns.map λi=>.im (.int i)) (ns.map V.int)
 |[]=>by simp[RDs]
 |n::ns=>by simp only[map_cons];exact .cons (by simp[RD,RI]) FS
theorem QY:∀{ns:List Bool} {xs:List V},RDs K ρ H (ns.map λi=>.im (.bl i)) xs->xs=ns.map V.bl
 |[],xs,h=>by simpa [RDs]using h
 |n::ns,xs,h=>by
  simp only[map_cons,RDs,RD,RI]at h;obtain⟨x,r,rfl,rfl,z⟩:=h;rw[QY z];rfl
theorem RD.tup{d:D}{v:V}{ds:List D}(h:RD K ρ H d v)(e:Ao d=some ds):∃a xs,v=.ref a/\SqT K H a xs/\RDs K ρ H ds xs:=by
 cases d with
 |im i=>
  cases i with
  |tup is=>
   simp only[Ao,Option.some.injEq]at e;subst e;simp only[RD,RI]at h;obtain⟨a,xs,rfl,q,r⟩:=h;exact⟨a,xs,rfl,q,r.ds⟩
  |_=>simp[Ao]at e
 |tm es=>
  simp only[Ao,Option.some.injEq]at e;subst e;simpa only[RD]using h
 |_=>simp[Ao]at e
theorem RD.lst{d:D}{v:V}{ds:List D}(hR:RH K ρ H hd)(h:RD K ρ H d v)(e:Br hd d=some ds):∃a xs,v=.ref a/\SqL K H a xs/\RDs K ρ H ds xs:=by
 cases d with
 |mu n=>
  simp only[Br]at e;simp only[RD]at h;obtain⟨a,hn,rfl⟩:=h;split at e
  .next q=>
   cases e;obtain⟨xs,e1,e2⟩:=hR.lst hn q;exact⟨a,xs,rfl,SqL.of e1,e2⟩
  .cases e
 |ro ns=>
  simp only[Br,Option.some.injEq]at e;subst e;simp only[RD]at h;obtain⟨a,rfl,q⟩:=h;exact⟨a,_,rfl,q.sq,FS⟩
 |_=>simp[Br]at e
theorem RD.seq{d:D}{v:V}{ds:List D}(hR:RH K ρ H hd)(h:RD K ρ H d v)(e:BV hd d=some ds):∃a xs,v=.ref a/\(SqL K H a xs∨SqT K H a xs)/\RDs K ρ H ds xs:=by
 unfold BV at e;split at e
 .next q=>
  cases e;obtain⟨a,xs,e1,e2,e3⟩:=h.tup q;exact⟨a,xs,e1,.inr e2,e3⟩
 .obtain⟨a,xs,e1,e2,e3⟩:=h.lst hR e;exact⟨a,xs,e1,.inl e2,e3⟩
theorem CF{ds:List D}{a:Addr}{xs:List V}(q:SqT K H a xs)(r:RDs K ρ H ds xs):RD K ρ H (Av ds) (.ref a):=by
 unfold Av;split
 .next e=>
  rw[HG e]at r;simp only[RD,RI];exact⟨a,xs,rfl,q,r.is⟩
 .simp only[RD];exact⟨a,xs,rfl,q,r⟩
def A0(i:Nat):ME:=λls hd=>match ls[i]? with
 |some (some d)=>some (d,hd)
 |_=>none
theorem Wo{i:Nat}:RE K (S8 i) (A0 i):=by
 intro ρ σ H hd ls Q d hd' hR hL hm hQ;unfold A0 at hm;split at hm
 .next e=>
  cases hm;obtain⟨v,e1,e2⟩:=hL.ob i _ e;exact⟨v,e1,hQ ρ H v .refl hR e2⟩
 .cases hm
def mC(i:I):ME:=λ_ hd=>some (.im i,hd)
theorem Se{v:V}{i:I}(h:∀H,RI K H i v):RE K (tC v) (mC i):=by
 intro ρ σ H hd ls Q d hd' hR hL hm hQ;cases hm;exact hQ ρ H v .refl hR (by simpa only[RD]using h H)
def mOp(f:D->D->Hd->Option (D×Hd))(ma mb:ME):ME:=λls hd=>(ma ls hd).bind λp=>(mb ls p.2).bind λq=>f p.1 q.1 q.2
theorem Lz{r:R2}{f:D->D->Hd->Option (D×Hd)}{ta tb:TE}{ma mb:ME}(hr:RB K r f)(ha:RE K ta ma)(hb:RE K tb mb):RE K (tOp r ta tb) (mOp f ma mb):=by
 intro ρ σ H hd ls Q d hd' hR hL hm hQ;obtain⟨⟨d1,h1⟩,e1,hm⟩:=fK hm;obtain⟨⟨d2,h2⟩,e2,hm⟩:=fK hm;refine ha ρ σ H hd ls _ d1 h1 hR hL e1 λρ1 H1 v1 x1 R1 r1=>?_;refine hb ρ1 σ H1 h1 ls _ d2 h2 R1 (hL.ext hR x1) e2 λρ2 H2 v2 x2 R2 r2=>?_;exact hr ρ2 H2 h2 d1 d2 v1 v2 Q d hd' R2 (r1.ext R1 x2) r2 hm λρ' H' w x3 R3 r3=>hQ ρ' H' w ((x1.trans R1 x2).trans R2 x3) R3 r3
def Gp(ta tb:MT):MT:=λls hd=>(ta ls hd).bind λp=>if p.1=true then tb ls p.2 else some (false,p.2)
def mOr(ta tb:MT):MT:=λls hd=>(ta ls hd).bind λp=>if p.1=true then some (true,p.2)else tb ls p.2
def Ei(ta:MT):MT:=λls hd=>(ta ls hd).bind λp=>some (!p.1,p.2)
theorem Wb{ta tb:TT}{ma mb:MT}(ha:RT K ta ma)(hb:RT K tb mb):RT K (SI ta tb) (Gp ma mb):=by
 intro ρ σ H hd ls Q d hd' hR hL hm hQ;obtain⟨⟨d1,h1⟩,e1,hm⟩:=fK hm;refine ha ρ σ H hd ls _ d1 h1 hR hL e1 λρ1 H1 x1 R1=>?_;cases d1 with
 |true=>
  rw[if_pos rfl]at hm ⊢;exact hb ρ1 σ H1 h1 ls Q d hd' R1 (hL.ext hR x1) hm λρ2 H2 x2 R2=>hQ ρ2 H2 (x1.trans R1 x2) R2
 |false=>
  rw[if_neg Bool.false_ne_true]at hm ⊢;cases hm;exact hQ ρ1 H1 x1 R1
theorem YL{ta tb:TT}{ma mb:MT}(ha:RT K ta ma)(hb:RT K tb mb):RT K (tOr ta tb) (mOr ma mb):=by
 intro ρ σ H hd ls Q d hd' hR hL hm hQ;obtain⟨⟨d1,h1⟩,e1,hm⟩:=fK hm;refine ha ρ σ H hd ls _ d1 h1 hR hL e1 λρ1 H1 x1 R1=>?_;cases d1 with
 |true=>
  rw[if_pos rfl]at hm ⊢;cases hm;exact hQ ρ1 H1 x1 R1
 |false=>
  rw[if_neg Bool.false_ne_true]at hm ⊢;exact hb ρ1 σ H1 h1 ls Q d hd' R1 (hL.ext hR x1) hm λρ2 H2 x2 R2=>hQ ρ2 H2 (x1.trans R1 x2) R2
theorem Wa{ta:TT}{ma:MT}(ha:RT K ta ma):RT K (SD ta) (Ei ma):=by
 intro ρ σ H hd ls Q d hd' hR hL hm hQ;obtain⟨⟨d1,h1⟩,e1,hm⟩:=fK hm;cases hm;exact ha ρ σ H hd ls _ d1 h1 hR hL e1 λρ1 H1 x1 R1=>hQ ρ1 H1 x1 R1
open Classical in
def EL(hd:Hd):D->Option Bool
 |.im .non=>some false
 |.im (.bl b)=>some b
 |.im (.int i)=>some (i != 0)
 |.im (.str x)=>if CM x.length then some ((x.length:Int) != 0)else none
 |.im (.tup is)=>some (!is.isEmpty)
 |.tm is=>some (!is.isEmpty)
 |.ro ns=>some (!ns.isEmpty)
 |.mu n=>match hd[n]? with
  |some (.lst ds)=>some (!ds.isEmpty)
  |some (.dic ds)=>some (!ds.isEmpty)
  |none=>none
theorem Du{α β:Type}{xs:List α}{ys:List β}(h:xs.length=ys.length):xs.isEmpty=ys.isEmpty:=by
 cases xs<;>cases ys<;>simp_all
theorem RKs.len:∀{ds:List (Key×D)} {xs:List (Key×V)},RKs K ρ H ds xs->xs.length=ds.length
 |[],xs,h=>by simp only[RKs]at h;rw[h];rfl
 |d::ds,xs,h=>by
  simp only[RKs]at h;obtain⟨x,r,rfl,_,_,z⟩:=h;simp[RKs.len z]
theorem UP{d:D}{v:V}{b:Bool}(hR:RH K ρ H hd)(h:RD K ρ H d v)(e:EL hd d=some b):NT K v H b:=by
 cases d with
 |im i=>
  cases i with
  |non=>simp only[RD,RI]at h;subst h;simp only[EL,Option.some.injEq]at e;subst e;exact rfl
  |bl c=>simp only[RD,RI]at h;subst h;simp only[EL,Option.some.injEq]at e;subst e;exact rfl
  |int c=>simp only[RD,RI]at h;subst h;simp only[EL,Option.some.injEq]at e;subst e;exact rfl
  |str c=>
   simp only[RD,RI]at h;subst h;simp only[EL]at e;split at e
   .next z=>cases e;exact⟨z,rfl⟩
   .cases e
  |tup is=>
   obtain⟨a,xs,rfl,q,r⟩:=h.tup (ds:=is.map .im) rfl;simp only[EL,Option.some.injEq]at e;subst e;exact .inr (.inl ⟨xs,q,by rw[Du (show xs.length=is.length by simpa using r.len)]⟩)
 |tm ds=>
  obtain⟨a,xs,rfl,q,r⟩:=h.tup (ds:=ds) rfl;simp only[EL,Option.some.injEq]at e;subst e;exact .inr (.inl ⟨xs,q,by rw[Du r.len]⟩)
 |ro ns=>
  obtain⟨a,xs,rfl,q,r⟩:=h.lst hR (hd:=hd) (ds:=ns.map λn=>.im (.int n)) rfl;simp only[EL,Option.some.injEq]at e;subst e;exact .inl ⟨xs,q,by rw[Du (show xs.length=ns.length by simpa using r.len)]⟩
 |mu n=>
  simp only[RD]at h;obtain⟨a,hn,rfl⟩:=h;simp only[EL]at e;split at e
  .next q=>
   cases e;obtain⟨xs,e1,e2⟩:=hR.lst hn q;exact .inl ⟨xs,SqL.of e1,by rw[Du e2.len]⟩
  .next q=>
   cases e;obtain⟨xs,e1,e2⟩:=hR.dic hn q;exact .inr (.inr ⟨xs,e1,by rw[Du e2.len]⟩)
  .cases e
def DH(ma:ME):MT:=λls hd=>(ma ls hd).bind λp=>(EL p.2 p.1).map (·,p.2)
theorem SQ{ta:TE}{ma:ME}(ha:RE K ta ma):RT K (λσ H Q=>ta σ H λx H'=>∃k,NT K x H' k/\Q k H') (DH ma):=by
 intro ρ σ H hd ls Q d hd' hR hL hm hQ;obtain⟨⟨d1,h1⟩,e1,hm⟩:=fK hm;obtain⟨b,e2,e3⟩:=fL hm;cases e3;exact ha ρ σ H hd ls _ d1 h1 hR hL e1 λρ1 H1 v x1 R1 r1=>⟨_,UP R1 r1 e2,hQ ρ1 H1 x1 R1⟩
def AU(ma:ME):MT:=λls hd=>(ma ls hd).bind λp=>match p.1 with
 |.im (.bl b)=>some (b,p.2)
 |_=>none
theorem FO{ta:TE}{ma:ME}(ha:RE K ta ma):RT K (IJ ta) (AU ma):=by
 intro ρ σ H hd ls Q d hd' hR hL hm hQ;obtain⟨⟨d1,h1⟩,e1,hm⟩:=fK hm;dsimp only at hm;split at hm
 .cases hm;exact ha ρ σ H hd ls _ _ _ hR hL e1 λρ1 H1 v x1 R1 r1=>⟨_,by simpa only[RD,RI]using r1,hQ ρ1 H1 x1 R1⟩
 .cases hm
def mIf(c:MT)(ma mb:ME):ME:=λls hd=>(c ls hd).bind λp=>if p.1=true then ma ls p.2 else mb ls p.2
theorem YQ{tc:TT}{c:MT}{ta tb:TE}{ma mb:ME}(hc:RT K tc c)(ha:RE K ta ma)(hb:RE K tb mb):RE K (tIf tc ta tb) (mIf c ma mb):=by
 intro ρ σ H hd ls Q d hd' hR hL hm hQ;obtain⟨⟨d1,h1⟩,e1,hm⟩:=fK hm;refine hc ρ σ H hd ls _ d1 h1 hR hL e1 λρ1 H1 x1 R1=>?_;cases d1 with
 |true=>
  rw[if_pos rfl]at hm ⊢;exact ha ρ1 σ H1 h1 ls Q d hd' R1 (hL.ext hR x1) hm λρ2 H2 v x2 R2 r2=>hQ ρ2 H2 v (x1.trans R1 x2) R2 r2
 |false=>
  rw[if_neg Bool.false_ne_true]at hm ⊢;exact hb ρ1 σ H1 h1 ls Q d hd' R1 (hL.ext hR x1) hm λρ2 H2 v x2 R2 r2=>hQ ρ2 H2 v (x1.trans R1 x2) R2 r2
def Eu(ma mb:ME):ME:=λls hd=>(AU ma ls hd).bind λp=>if p.1=true then mb ls p.2 else some (.im (.bl false),p.2)
def ZF(ma mb:ME):ME:=λls hd=>(AU ma ls hd).bind λp=>if p.1=true then some (.im (.bl true),p.2)else mb ls p.2
def K8(ma:ME):ME:=λls hd=>(AU ma ls hd).bind λp=>some (.im (.bl (!p.1)),p.2)
theorem Uu{ta tb:TE}{ma mb:ME}(ha:RE K ta ma)(hb:RE K tb mb):RE K (Oo ta tb) (Eu ma mb):=by
 intro ρ σ H hd ls Q d hd' hR hL hm hQ;obtain⟨⟨d1,h1⟩,e1,hm⟩:=fK hm;refine FO ha ρ σ H hd ls (λc H1=>if c=true then tb σ H1 Q else Q (.bl false) H1) d1 h1 hR hL e1 λρ1 H1 x1 R1=>?_;cases d1 with
 |true=>
  rw[if_pos rfl]at hm ⊢;exact hb ρ1 σ H1 h1 ls Q d hd' R1 (hL.ext hR x1) hm λρ2 H2 v x2 R2 r2=>hQ ρ2 H2 v (x1.trans R1 x2) R2 r2
 |false=>
  rw[if_neg Bool.false_ne_true]at hm ⊢;cases hm;exact hQ ρ1 H1 _ x1 R1 (by simp[RD,RI])
theorem Uq{ta:TE}{ma:ME}(ha:RE K ta ma):RE K (Oh ta) (K8 ma):=by
 intro ρ σ H hd ls Q d hd' hR hL hm hQ;obtain⟨⟨d1,h1⟩,e1,hm⟩:=fK hm;cases hm;exact FO ha ρ σ H hd ls (λc H1=>Q (.bl (!c)) H1) d1 h1 hR hL e1 λρ1 H1 x1 R1=>hQ ρ1 H1 _ x1 R1 (by simp[RD,RI])
def A4:MA:=λ_ hd=>some ([],hd)
def A1(ma:ME)(mr:MA):MA:=λls hd=>(ma ls hd).bind λp=>(mr ls p.2).bind λq=>some (p.1::q.1,q.2)
theorem Wx:RA K E6 A4:=by
 intro ρ σ H hd ls Q d hd' hR hL hm hQ;cases hm;exact hQ ρ H [] .refl hR .nil
theorem Uv{ta:TE}{tr:TA}{ma:ME}{mr:MA}(ha:RE K ta ma)(hr:RA K tr mr):RA K (CP ta tr) (A1 ma mr):=by
 intro ρ σ H hd ls Q d hd' hR hL hm hQ;obtain⟨⟨d1,h1⟩,e1,hm⟩:=fK hm;obtain⟨⟨d2,h2⟩,e2,hm⟩:=fK hm;cases hm;refine ha ρ σ H hd ls _ d1 h1 hR hL e1 λρ1 H1 v1 x1 R1 r1=>?_;exact hr ρ1 σ H1 h1 ls _ d2 _ R1 (hL.ext hR x1) e2 λρ2 H2 v2 x2 R2 r2=>hQ ρ2 H2 _ (x1.trans R1 x2) R2 (.cons (r1.ext R1 x2) r2)
open Classical in
def B2(ma:MA):ME:=λls hd=>(ma ls hd).bind λp=>if CM p.1.length then some (Av p.1,p.2)else none
theorem Wp{t:TA}{m:MA}(h:RA K t m):RE K (S9 t) (B2 m):=by
 intro ρ σ H hd ls Q d hd' hR hL hm hQ;obtain⟨⟨d1,h1⟩,e1,hm⟩:=fK hm;dsimp only at hm;split at hm
 .next z=>
  cases hm;refine h ρ σ H hd ls _ d1 _ hR hL e1 λρ1 H1 v1 x1 R1 r1=>⟨by rw[r1.len];exact z,λp hp=>?_⟩
  obtain⟨R2,x2⟩:=R1.hid (ho:=.tup v1) hp;exact hQ ρ1 _ _ (x1.trans R1 x2) R2 (CF (SqT.of Af) (r1.ext R1 x2))
 .cases hm
open Classical in
def BF(ma:MA):MA:=λls hd=>(ma ls hd).bind λp=>if CM p.1.length then some (p.1,p.2)else none
theorem RH.out(hR:RH K ρ H hd){a:Addr}(h:H a=none):a∉ρ:=λm=>by rcases hR.mut m with⟨y,z⟩|⟨y,z⟩<;>(rw[h]at z;cases z)
theorem Ext.none(e:Ext ρ H ρ' H')(hR:RH K ρ H hd){a:Addr}(h:H' a=none)(hR':RH K ρ' H' hd'):H a=none:=by
 cases q:H a with
 |none=>rfl
 |some o=>
  by_cases m:a∈ρ
  .obtain⟨r,rfl,_⟩:=e.pre;exact absurd (mem_append_left r m) (hR'.out h)
  .by_cases t:∃ps,o=.tbl ps
   .obtain⟨ps,rfl⟩:=t;obtain⟨ps',this⟩:=e.tab a ps q;rw[h]at this;cases this
   .rw[e.keep a o q m λps y=>t ⟨ps,y⟩]at h;cases h
theorem Wh{t:TA}{m:MA}(h:RA K t m):RN K (SE t) (BF m):=by
 intro ρ σ H hd ls Q d hd' hR hL hm hQ;obtain⟨⟨d1,h1⟩,e1,hm⟩:=fK hm;dsimp only at hm;split at hm
 .next z=>
  cases hm;refine h ρ σ H hd ls _ _ _ hR hL e1 λρ1 H1 v1 x1 R1 r1=>⟨by rw[r1.len];exact z,λp hp=>?_⟩
  obtain⟨R2,x2⟩:=R1.hid (ho:=.lst v1) hp;exact hQ ρ1 _ p v1 (x1.trans R1 x2) R2 (x1.none hR hp R1) (R1.out hp) Af (r1.ext R1 x2)
 .cases hm
def BN(ml:MA):ME:=λls hd=>(ml ls hd).bind λp=>some (.mu p.2.length,p.2++[.lst p.1])
theorem RH.name(hR:RH K ρ H hd){a:Addr}{xs:List V}{ds:List D}(out:a∉ρ)(e:H a=some (.lst xs))(r:RDs K ρ H ds xs):RH K (ρ++[a]) H (hd++[.lst ds]):=by
 have mono:∀{o:MO} {ho:HO},RC K ρ H o ho->RC K (ρ++[a]) H o ho:=λc=>c.mono Grow.refl [a];refine⟨by simp[hR.len],?_,hR.tabs,λn o' b e1 e2=>?_⟩
 .rw[List.nodup_append];refine⟨hR.nd,by simp,λx hx y hy z=>?_⟩;simp at hy;subst hy;subst z;exact out hx
 .by_cases hn:n<ρ.length
  .rw[List.getElem?_append_left hn]at e2;rw[List.getElem?_append_left (by rw[<- hR.len];exact hn)]at e1;obtain⟨ho',q1,q2⟩:=hR.ob n o' b e1 e2;exact⟨ho',q1,mono q2⟩
  .have hn':n=ρ.length:=by
    have:=(List.getElem?_eq_some_iff.mp e2).1;simp at this;omega
   subst hn';simp at e2;rw[hR.len]at e1;simp at e1;subst e1;subst e2;exact⟨_,e,mono ⟨xs,rfl,r⟩⟩
theorem Ext.name(e:Ext ρ H ρ' H'){a:Addr}(h:H a=Option.none):Ext ρ H (ρ'++[a]) H':=by
 obtain⟨r,rfl,f⟩:=e.pre;refine⟨⟨r++[a],by simp,λb m=>?_⟩,e.keep,e.tab⟩;rcases mem_append.mp m with m|m
 .exact f b m
 .simp at m;subst m;exact h
theorem QV{t:TE}{m:MA}(h:RN K t m):RE K t (BN m):=by
 intro ρ σ H hd ls Q d hd' hR hL hm hQ;obtain⟨⟨d1,h1⟩,e1,hm⟩:=fK hm;cases hm;refine h ρ σ H hd ls Q d1 h1 hR hL e1 λρ1 H1 a xs x1 R1 na oa ea r1=>?_;refine hQ (ρ1++[a]) H1 _ (x1.name na) (R1.name oa ea r1) ?_;simp only[RD];exact⟨a,by rw[<- R1.len];simp,rfl⟩
end
section
variable{K:PySem.W.Frag}{ρ ρ':List Addr}{H H':Hp}{hd hd':Hd}
def fI(g:Int->Int->Option I):D->D->Hd->Option (D×Hd)
 |.im (.int i),.im (.int j),hd=>(g i j).map (.im ·,hd)
 |_,_,_=>none
theorem Ox{C:Int->Int->Prop}{g:Int->Int->V}{f:Int->Int->Option I}(h:∀i j z,f i j=some z->C i j/\∀H,RI K H z (g i j)):RB K (rI C g) (fI f):=by
 intro ρ H hd d e v u Q z hd' hR h1 h2 hf hQ;unfold fI at hf;split at hf
 .simp only[RD,RI]at h1 h2;subst h1 h2;obtain⟨w,e1,e2⟩:=fL hf;cases e2;obtain⟨c,r⟩:=h _ _ _ e1;exact⟨_,_,rfl,rfl,c,hQ ρ H _ .refl hR (by simpa only[RD]using r H)⟩
 .cases hf
theorem IS{g:Int->Int->V}{f:Int->Int->I}(h:∀i j H,RI K H (f i j) (g i j)):RB K (rI0 g) (fI λi j=>some (f i j)):=by
 intro ρ H hd d e v u Q z hd' hR h1 h2 hf hQ;unfold fI at hf;split at hf
 .simp only[RD,RI]at h1 h2;subst h1 h2;cases hf;exact⟨_,_,rfl,rfl,hQ ρ H _ .refl hR (by simpa only[RD]using h _ _ H)⟩
 .cases hf
def HA(f g:D->D->Hd->Option (D×Hd)):D->D->Hd->Option (D×Hd):=λd e hd=>match f d e hd with
 |some z=>some z
 |none=>g d e hd
theorem AH{r r':R2}{f g:D->D->Hd->Option (D×Hd)}(h:RB K r f)(h':RB K r' g):RB K (λx y H Q=>r x y H Q∨r' x y H Q) (HA f g):=by
 intro ρ H hd d e v u Q z hd' hR h1 h2 hf hQ;unfold HA at hf;split at hf
 .next q=>cases hf;exact .inl (h ρ H hd d e v u Q z hd' hR h1 h2 q hQ)
 .exact .inr (h' ρ H hd d e v u Q z hd' hR h1 h2 hf hQ)
abbrev Gx:D->D->Hd->Option (D×Hd):=fI λi j=>some (.int (i+j))
abbrev CL:D->D->Hd->Option (D×Hd):=fI λi j=>some (.int (i-j))
theorem Ag:RB K (rI0 λi j=>.int (i+j)) Gx:=IS λ_ _ _=>by simp[RI]
theorem Dp:RB K (rI0 λi j=>.int (i-j)) CL:=IS λ_ _ _=>by simp[RI]
open Classical in
abbrev DS:D->D->Hd->Option (D×Hd):=fI λi j=>if Es i j then some (.int (i*j))else none
theorem F3:RB K (rI CMul λi j=>.int (i*j)) DS:=Ox λi j z h=>by
 split at h
 .next q=>cases h;exact⟨q,λ_=>by simp[RI]⟩
 .cases h
open Classical in
abbrev Cu:D->D->Hd->Option (D×Hd):=fI λi j=>if DK j then some (.int (i%j))else none
theorem ER:RB K (rI (λ_ j=>0<j) λi j=>.int (i%j)) Cu:=Ox λi j z h=>by
 split at h
 .next q=>cases h;exact⟨q,λ_=>by simp[RI]⟩
 .cases h
open Classical in
abbrev Gw:D->D->Hd->Option (D×Hd):=fI λi j=>if M7 j then some (.int (i/j))else none
theorem Kn:RB K (rI YB λi j=>.int (i/j)) Gw:=Ox λi j z h=>by
 split at h
 .next q=>cases h;exact⟨q,λ_=>by simp[RI]⟩
 .cases h
open Classical in
abbrev TN:D->D->Hd->Option (D×Hd):=fI λi j=>if P4 i j then some (.int (i^j.toNat))else none
theorem Ww:RB K (rI YA λi j=>.int (i^j.toNat)) TN:=Ox λi j z h=>by
 split at h
 .next q=>cases h;exact⟨q,λ_=>by simp[RI]⟩
 .cases h
abbrev gLt:D->D->Hd->Option (D×Hd):=fI λi j=>some (.bl (decide (i<j)))
abbrev gLe:D->D->Hd->Option (D×Hd):=fI λi j=>some (.bl (decide (i<=j)))
abbrev gGt:D->D->Hd->Option (D×Hd):=fI λi j=>some (.bl (decide (j<i)))
abbrev gGe:D->D->Hd->Option (D×Hd):=fI λi j=>some (.bl (decide (j<=i)))
theorem Jo:RB K (rI0 λi j=>.bl (decide (i<j))) gLt:=IS λ_ _ _=>by simp[RI]
theorem IR:RB K (rI0 λi j=>.bl (decide (i<=j))) gLe:=IS λ_ _ _=>by simp[RI]
theorem Jp:RB K (rI0 λi j=>.bl (decide (j<i))) gGt:=IS λ_ _ _=>by simp[RI]
theorem Tt:RB K (rI0 λi j=>.bl (decide (j<=i))) gGe:=IS λ_ _ _=>by simp[RI]
def scI:I->Option V
 |.non=>some .non
 |.bl b=>some (.bl b)
 |.int i=>some (.int i)
 |.str x=>some (.str x)
 |.tup _=>none
theorem Jh{i:I}{v w:V}(e:scI i=some w)(h:RI K H i v):v=w:=by
 cases i with
 |tup _=>simp[scI]at e
 |_=>simp only[scI,Option.some.injEq]at e;subst e;simpa only[RI]using h
def G5(neg:Bool):D->D->Hd->Option (D×Hd)
 |.im i,.im j,hd=>match scI i,scI j with
  |some x,some y=>if Ma x y=true then some (.im (.bl (if neg then !decide (x=y)else decide (x=y))),hd)else none
  |_,_=>none
 |_,_,_=>none
theorem BW:RB K rEq (G5 false):=by
 intro ρ H hd d e v u Q z hd' hR h1 h2 hf hQ;unfold G5 at hf;split at hf
 .split at hf
  .next x y e1 e2=>
   split at hf
   .next s=>
    cases hf;simp only[RD]at h1 h2;rw[Jh e1 h1,Jh e2 h2];exact⟨s,hQ ρ H _ .refl hR (by simp[RD,RI])⟩
   .cases hf
  .cases hf
 .cases hf
theorem HY:RB K rNe (G5 true):=by
 intro ρ H hd d e v u Q z hd' hR h1 h2 hf hQ;unfold G5 at hf;split at hf
 .split at hf
  .next x y e1 e2=>
   split at hf
   .next s=>
    cases hf;simp only[RD]at h1 h2;rw[Jh e1 h1,Jh e2 h2];exact⟨s,hQ ρ H _ .refl hR (by simp[RD,RI])⟩
   .cases hf
  .cases hf
 .cases hf
mutual
def I.py:I->PyData
 |.non=>.none
 |.bl b=>.bool b
 |.int i=>.int i
 |.str x=>.str x
 |.tup ds=>.tuple (I.pys ds)
def I.pys:List I->List PyData
 |[]=>[]
 |d::ds=>I.py d::I.pys ds
end
mutual
theorem RI.rep:∀{i:I} {v:V},RI K H i v->Rep K H i.py v
 |.non,v,h=>by simpa only[RI,I.py,Rep]using h
 |.bl _,v,h=>by simpa only[RI,I.py,Rep]using h
 |.int _,v,h=>by simpa only[RI,I.py,Rep]using h
 |.str _,v,h=>by simpa only[RI,I.py,Rep]using h
 |.tup ds,v,h=>by
  simp only[RI]at h;obtain⟨a,xs,e,q,r⟩:=h;simp only[I.py,Rep];exact⟨a,xs,e,q,RIs.rep r⟩
theorem RIs.rep:∀{i:List I} {v:List V},RIs K H i v->Cz K H (I.pys i) v
 |[],v,h=>by simpa only[RIs,I.pys,Cz]using h
 |d::ds,v,h=>by
  simp only[RIs]at h;obtain⟨x,r,e,q,z⟩:=h;simp only[I.pys,Cz];exact⟨x,r,e,q.rep,RIs.rep z⟩
end
def pyD(hd:Hd):D->Option PyData
 |.im i=>some i.py
 |.mu n=>match hd[n]? with
  |some (.lst ds)=>(Bv ds).map λis=>.list (I.pys is)
  |_=>none
 |.ro ns=>some (.list (I.pys (ns.map I.int)))
 |_=>none
theorem FP{d:D}{v:V}{p:PyData}(hR:RH K ρ H hd)(h:RD K ρ H d v)(e:pyD hd d=some p):Rep K H p v:=by
 cases d with
 |im i=>simp only[pyD,Option.some.injEq]at e;subst e;simp only[RD]at h;exact h.rep
 |mu n=>
  simp only[pyD]at e;simp only[RD]at h;obtain⟨a,hn,rfl⟩:=h;split at e
  .next q=>
   obtain⟨is,e1,rfl⟩:=fL e;obtain⟨xs,e2,e3⟩:=hR.lst hn q;rw[HG e1]at e3;simp only[Rep];exact⟨a,xs,rfl,SqL.of e2,e3.is.rep⟩
  .cases e
 |ro ns=>
  simp only[pyD,Option.some.injEq]at e;subst e;obtain⟨a,xs,rfl,q,r⟩:=h.lst hR (hd:=hd) (ds:=ns.map λn=>.im (.int n)) rfl;simp only[Rep];refine⟨a,xs,rfl,q,RIs.rep (RDs.is (ρ:=ρ) ?_)⟩;rw[map_map];exact r
 |tm _=>simp[pyD]at e
def L9(neg:Bool):D->D->Hd->Option (D×Hd):=λd e hd=>match pyD hd d,pyD hd e with
 |some x,some y=>if x.canLay0=true/\y.canLay0=true/\min x.depth y.depth<=60 then some (.im (.bl (if neg then !PyData.eqv x y else PyData.eqv x y)),hd)else none
 |_,_=>none
theorem BX:RB K (Si K) (L9 false):=by
 intro ρ H hd d e v u Q z hd' hR h1 h2 hf hQ;unfold L9 at hf;split at hf
 .next e1 e2=>
  split at hf
  .next c=>cases hf;exact⟨_,_,FP hR h1 e1,FP hR h2 e2,c.1,c.2.1,c.2.2,hQ ρ H _ .refl hR (by simp[RD,RI])⟩
  .cases hf
 .cases hf
theorem HZ:RB K (Sg K) (L9 true):=by
 intro ρ H hd d e v u Q z hd' hR h1 h2 hf hQ;unfold L9 at hf;split at hf
 .next e1 e2=>
  split at hf
  .next c=>cases hf;exact⟨_,_,FP hR h1 e1,FP hR h2 e2,c.1,c.2.1,c.2.2,hQ ρ H _ .refl hR (by simp[RD,RI])⟩
  .cases hf
 .cases hf
abbrev gEq:=HA (G5 false) (L9 false)
abbrev gNe:=HA (G5 true) (L9 true)
def gIx:D->D->Hd->Option (D×Hd)
 |d,.im (.int i),hd=>(BV hd d).bind λds=>(atI ds i).map (·,hd)
 |_,_,_=>none
theorem OX{α β:Type}{xs:List α}{ys:List β}{i:Int}{y:β}(h:xs.length=ys.length)(e:atI ys i=some y):∃(j:Nat),ys[j]?=some y/\∀x,xs[j]?=some x->atI xs i=some x:=by
 unfold atI at e;obtain⟨j,e1,e2⟩:=fK e;exact⟨j,e2,λx q=>by unfold atI;rw[h,e1];exact q⟩
def M1(K:PySem.W.Frag):R2:=λx y H Q=>Kp K x y H Q∨Sh K x y H Q
theorem YR:RB K (M1 K) gIx:=by
 intro ρ H hd d e v u Q z hd' hR h1 h2 hf hQ;unfold gIx at hf;split at hf
 .obtain⟨ds,e1,hf⟩:=fK hf;obtain⟨w,e2,e3⟩:=fL hf;cases e3;obtain⟨a,xs,rfl,q,r⟩:=h1.seq hR e1;simp only[RD,RI]at h2;subst h2;obtain⟨j,j1,j2⟩:=OX r.len e2;obtain⟨x,x1,x2⟩:=r.get j1;rcases q with q|q
  .exact .inl ⟨a,xs,_,x,rfl,rfl,q,j2 x x1,hQ ρ H x .refl hR x2⟩
  .exact .inr ⟨a,xs,_,x,rfl,rfl,q,j2 x x1,hQ ρ H x .refl hR x2⟩
 .cases hf
def Bm(xs:List D)(lo hi:Option Int):List D:=(xs.drop (HT.sIx xs.length 0 lo)).take (HT.sIx xs.length xs.length hi-HT.sIx xs.length 0 lo)
theorem LD{ds:List D}{xs:List V}{lo hi:Option Int}(r:RDs K ρ H ds xs):RDs K ρ H (Bm ds lo hi) (Fi xs lo hi):=by
 unfold Bm Fi;rw[r.len];exact(r.drop _).take _
abbrev MO1:=Ls->Hd->Option (Option Int×Hd)
def RO1(K:PySem.W.Frag)(t:TO)(m:MO1):Prop:=∀(ρ:List Addr) (σ:St) (H:Hp) (hd:Hd) (ls:Ls) (Q:Option Int->Hp->Prop) (d:Option Int) (hd':Hd),RH K ρ H hd->RL K ρ H ls σ->m ls hd=some (d,hd') ->
 (∀ρ' H',Ext ρ H ρ' H'->RH K ρ' H' hd'->Q d H')->t σ H Q
def BU:MO1:=λ_ hd=>some (none,hd)
def Bu(m:ME):MO1:=λls hd=>(m ls hd).bind λp=>match p.1 with
 |.im (.int i)=>some (some i,p.2)
 |_=>none
theorem Ug:RO1 K Kg BU:=by
 intro ρ σ H hd ls Q d hd' hR hL hm hQ;cases hm;exact hQ ρ H .refl hR
theorem Uf{t:TE}{m:ME}(h:RE K t m):RO1 K (Of t) (Bu m):=by
 intro ρ σ H hd ls Q d hd' hR hL hm hQ;obtain⟨⟨d1,h1⟩,e1,hm⟩:=fK hm;dsimp only at hm;split at hm
 .cases hm;exact h ρ σ H hd ls _ _ _ hR hL e1 λρ1 H1 v x1 R1 r1=>⟨_,by simpa only[RD,RI]using r1,hQ ρ1 H1 x1 R1⟩
 .cases hm
def E8(m:ME)(ml mh:MO1):ME:=λls hd=>(m ls hd).bind λp=>(ml ls p.2).bind λl=>(mh ls l.2).bind λh=>(Ao p.1).bind λds=>
 if ¬ (HT.sIx ds.length 0 l.1=0/\HT.sIx ds.length ds.length h.1=ds.length)then some (Av (Bm ds l.1 h.1),h.2)else none
theorem Wq{t:TE}{tl th:TO}{m:ME}{ml mh:MO1}(h:RE K t m)(hl:RO1 K tl ml)(hh:RO1 K th mh):RE K (tSl (Mr K) t tl th) (E8 m ml mh):=by
 intro ρ σ H hd ls Q d hd' hR hL hm hQ;obtain⟨⟨d1,h1⟩,e1,hm⟩:=fK hm;obtain⟨⟨d2,h2⟩,e2,hm⟩:=fK hm;obtain⟨⟨d3,h3⟩,e3,hm⟩:=fK hm;obtain⟨ds,e4,hm⟩:=fK hm;dsimp only at e2 e3 e4 hm;split at hm
 .next c=>
  cases hm;refine h ρ σ H hd ls _ d1 h1 hR hL e1 λρ1 H1 v1 x1 R1 r1=>?_;refine hl ρ1 σ H1 h1 ls _ d2 h2 R1 (hL.ext hR x1) e2 λρ2 H2 x2 R2=>?_;refine hh ρ2 σ H2 h2 ls _ d3 _ R2 (hL.ext hR (x1.trans R1 x2)) e3 λρ3 H3 x3 R3=>?_;obtain⟨a,xs,rfl,q,r⟩:=((r1.ext R1 x2).ext R2 x3).tup e4;refine⟨a,xs,rfl,q,by rw[r.len];exact c,λp hp=>?_⟩;obtain⟨R4,x4⟩:=R3.hid (ho:=.tup (Fi xs d2 d3)) hp;exact hQ ρ3 _ _ (((x1.trans R1 x2).trans R2 x3).trans R3 x4) R4 (CF (SqT.of Af) ((LD r).ext R3 x4))
 .cases hm
def JK(m:ME)(ml mh:MO1):MA:=λls hd=>(m ls hd).bind λp=>(ml ls p.2).bind λl=>(mh ls l.2).bind λh=>(Br h.2 p.1).bind λds=>some (Bm ds l.1 h.1,h.2)
theorem Wg{t:TE}{tl th:TO}{m:ME}{ml mh:MO1}(h:RE K t m)(hl:RO1 K tl ml)(hh:RO1 K th mh):RN K (tSl (Oz K) t tl th) (JK m ml mh):=by
 intro ρ σ H hd ls Q d hd' hR hL hm hQ;obtain⟨⟨d1,h1⟩,e1,hm⟩:=fK hm;obtain⟨⟨d2,h2⟩,e2,hm⟩:=fK hm;obtain⟨⟨d3,h3⟩,e3,hm⟩:=fK hm;obtain⟨ds,e4,hm⟩:=fK hm;dsimp only at e2 e3 e4 hm;cases hm;refine h ρ σ H hd ls _ d1 h1 hR hL e1 λρ1 H1 v1 x1 R1 r1=>?_;refine hl ρ1 σ H1 h1 ls _ d2 h2 R1 (hL.ext hR x1) e2 λρ2 H2 x2 R2=>?_;refine hh ρ2 σ H2 h2 ls _ d3 _ R2 (hL.ext hR (x1.trans R1 x2)) e3 λρ3 H3 x3 R3=>?_;obtain⟨a,xs,rfl,q,r⟩:=RD.lst R3 ((r1.ext R1 x2).ext R2 x3) e4;refine⟨a,xs,rfl,q,λp hp=>?_⟩;obtain⟨R4,x4⟩:=R3.hid (ho:=.lst (Fi xs d2 d3)) hp;have x123:=(x1.trans R1 x2).trans R2 x3;exact hQ ρ3 _ p _ (x123.trans R3 x4) R4 (x123.none hR hp R3) (R3.out hp) Af ((LD r).ext R3 x4)
def mCB(f:List D->Hd->Option (D×Hd))(ma:MA):ME:=λls hd=>(ma ls hd).bind λp=>f p.1 p.2
theorem Tq{r:List V->Hp->VK->Prop}{f:List D->Hd->Option (D×Hd)}{t:TA}{m:MA}(hr:RF K r f)(h:RA K t m):RE K (tCB r t) (mCB f m):=by
 intro ρ σ H hd ls Q d hd' hR hL hm hQ;obtain⟨⟨d1,h1⟩,e1,hm⟩:=fK hm;refine h ρ σ H hd ls _ d1 h1 hR hL e1 λρ1 H1 v1 x1 R1 r1=>?_;exact hr ρ1 H1 h1 d1 v1 Q d hd' R1 r1 hm λρ' H' w x2 R2 r2=>hQ ρ' H' w (x1.trans R1 x2) R2 r2
def f1(tp:Bool)(g:List D->Option D):List D->Hd->Option (D×Hd)
 |[d],hd=>((if tp then BV hd d else Br hd d)).bind λds=>(g ds).map (·,hd)
 |_,_=>none
theorem C9{tp:Bool}{r:List V->Hp->VK->Prop}{g:List D->Option D}(h:RG K tp r g):RF K r (f1 tp g):=by
 intro ρ H hd ds vs Q z hd' hR h1 hf hQ;unfold f1 at hf;split at hf
 .next d hd'=>
  obtain⟨es,e1,hf⟩:=fK hf;obtain⟨w,e2,e3⟩:=fL hf;cases e3;simp only[RDs]at h1;obtain⟨x,r,rfl,rx,rfl⟩:=h1;cases tp with
  |true=>
   rw[if_pos rfl]at e1;obtain⟨a,xs,rfl,q,rr⟩:=rx.seq hR e1;exact h ρ H hd a xs es Q z hR (q.imp id λq=>⟨rfl,q⟩) rr e2 λH' w x R r=>hQ ρ H' w x R r
  |false=>
   rw[if_neg Bool.false_ne_true]at e1;obtain⟨a,xs,rfl,q,rr⟩:=rx.lst hR e1;exact h ρ H hd a xs es Q z hR (.inl q) rr e2 λH' w x R r=>hQ ρ H' w x R r
 .cases hf
def Ct(g:List D->Option D)(ml:MA):ME:=λls hd=>(ml ls hd).bind λp=>(g p.1).map (·,p.2)
theorem QX{tp:Bool}{r:List V->Hp->VK->Prop}{g:List D->Option D}{t:TE}{m:MA}(hr:RG K tp r g)(h:RN K t m):RE K (tCB r (CP t E6)) (Ct g m):=by
 intro ρ σ H hd ls Q d hd' hR hL hm hQ;obtain⟨⟨d1,h1⟩,e1,hm⟩:=fK hm;obtain⟨w,e2,e3⟩:=fL hm;cases e3;refine h ρ σ H hd ls _ d1 _ hR hL e1 λρ1 H1 a xs x1 R1 na oa ea r1=>?_;exact hr ρ1 H1 _ a xs d1 Q d R1 (.inl (SqL.of ea)) r1 e2 λH' w x R r=>hQ ρ1 H' w (x1.trans R1 x) R r
def C1(ds:List D):Option D:=some (.im (.int ds.length))
theorem Ce:RG K true (Wy K) C1:=by
 intro ρ H hd a xs ds Q z hR q r e hQ;cases e;refine⟨a,xs,rfl,q.imp id λq=>q.2,?_⟩;rw[r.len];exact hQ H _ .refl hR (by simp[RD,RI])
def B9(ds:List D):Option D:=some (Av ds)
theorem Bk:RG K true (Mq K) B9:=by
 intro ρ H hd a xs ds Q z hR q r e hQ;cases e;refine⟨a,xs,rfl,?_⟩;rcases q with q|⟨_,q⟩
 .refine .inl ⟨q,λp hp=>?_⟩;obtain⟨R2,x2⟩:=hR.hid (ho:=.tup xs) hp;exact hQ _ _ x2 R2 (CF (SqT.of Af) (r.ext hR x2))
 .exact .inr ⟨q,hQ H _ .refl hR (CF q r)⟩
def PK(ds:List D):Option D:=(BS ds).map λns=>.im (.int ns.sum)
def ZA(K:PySem.W.Frag):List V->Hp->VK->Prop:=λxs H Q=>Tv K xs H Q∨Tu K xs H Q
theorem Wn:RG K true (ZA K) PK:=by
 intro ρ H hd a xs ds Q z hR q r e hQ;obtain⟨ns,e1,rfl⟩:=fL e;rw[E9 e1]at r;have:=IQ r;subst this;rcases q with q|⟨_,q⟩
 .exact .inl ⟨a,ns,rfl,q,hQ H _ .refl hR (by simp[RD,RI])⟩
 .exact .inr ⟨a,ns,rfl,q,hQ H _ .refl hR (by simp[RD,RI])⟩
def JN(ds:List D):Option D:=(Cw ds).map λbs=>.im (.bl (bs.all id))
theorem Mm:RG K false (Wz K) JN:=by
 intro ρ H hd a xs ds Q z hR q r e hQ;obtain⟨ns,e1,rfl⟩:=fL e;rw[OW e1]at r;have:=QY r;subst this;rcases q with q|⟨q,_⟩
 .exact⟨a,ns,rfl,q,hQ H _ .refl hR (by simp[RD,RI])⟩
 .cases q
def Cs:List Int->Int
 |[]=>0
 |[x]=>x
 |x::r=>if Cs r>x then Cs r else x
def FE:List Int->Int
 |[]=>0
 |[x]=>x
 |x::r=>if FE r<x then FE r else x
theorem Hi:∀{xs:List Int},xs≠[]->Cs xs∈xs/\∀x∈xs,x<=Cs xs
 |[],h=>absurd rfl h
 |[x],_=>by simp[Cs]
 |x::y::r,_=>by
  obtain⟨h1,h2⟩:=Hi (xs:=y::r) (by simp);rw[Cs];split
  .next h=>exact⟨mem_cons_of_mem _ h1,λz m=>by rcases mem_cons.mp m with rfl|m;omega;exact h2 z m⟩
  .next h=>exact⟨mem_cons_self,λz m=>by rcases mem_cons.mp m with rfl|m;omega;exact Int.le_trans (h2 z m) (by omega)⟩
  .simp
theorem Fs:∀{xs:List Int},xs≠[]->FE xs∈xs/\∀x∈xs,FE xs<=x
 |[],h=>absurd rfl h
 |[x],_=>by simp[FE]
 |x::y::r,_=>by
  obtain⟨h1,h2⟩:=Fs (xs:=y::r) (by simp);rw[FE];split
  .next h=>exact⟨mem_cons_of_mem _ h1,λz m=>by rcases mem_cons.mp m with rfl|m;omega;exact h2 z m⟩
  .next h=>exact⟨mem_cons_self,λz m=>by rcases mem_cons.mp m with rfl|m;omega;exact Int.le_trans (by omega) (h2 z m)⟩
  .simp
def Hs(ds:List D):Option D:=(BS ds).bind λns=>if ns=[]then none else some (.im (.int (Cs ns)))
def JM(ds:List D):Option D:=(BS ds).bind λns=>if ns=[]then none else some (.im (.int (FE ns)))
def ZB(K:PySem.W.Frag):List V->Hp->VK->Prop:=λxs H Q=>Tz K xs H Q∨Tx K xs H Q
theorem FR{α:Type}{xs:List α}(h:xs≠[]):0<xs.length:=by cases xs<;>simp_all
theorem QU:RG K true (ZB K) Hs:=by
 intro ρ H hd a xs ds Q z hR q r e hQ;obtain⟨ns,e1,e⟩:=fK e;split at e
 .cases e
 .next hn=>
  cases e;rw[E9 e1]at r;have:=IQ r;subst this;have u:∀M:Int,M∈ns->(∀x∈ns,x<=M)->M=Cs ns:=λM m1 m2=>by
   obtain⟨n1,n2⟩:=Hi hn;have:=n2 M m1;have:=m2 _ n1;omega
  rcases q with q|⟨_,q⟩
  .exact .inl ⟨a,ns,rfl,q,FR hn,λM m1 m2=>by rw[u M m1 m2];exact hQ H _ .refl hR (by simp[RD,RI])⟩
  .exact .inr ⟨a,ns,rfl,q,FR hn,λM m1 m2=>by rw[u M m1 m2];exact hQ H _ .refl hR (by simp[RD,RI])⟩
theorem Ml:RG K false (Tw K) JM:=by
 intro ρ H hd a xs ds Q z hR q r e hQ;obtain⟨ns,e1,e⟩:=fK e;split at e
 .cases e
 .next hn=>
  cases e;rw[E9 e1]at r;have:=IQ r;subst this;have u:∀M:Int,M∈ns->(∀x∈ns,M<=x)->M=FE ns:=λM m1 m2=>by
   obtain⟨n1,n2⟩:=Fs hn;have:=n2 M m1;have:=m2 _ n1;omega
  rcases q with q|⟨q,_⟩
  .exact⟨a,ns,rfl,q,FR hn,λM m1 m2=>by rw[u M m1 m2];exact hQ H _ .refl hR (by simp[RD,RI])⟩
  .cases q
def Gz:List D->Hd->Option (D×Hd)
 |[.im (.int i),.im (.int j)],hd=>some (.im (.int (if j>i then j else i)),hd)
 |_,_=>none
def Ih:List D->Hd->Option (D×Hd)
 |[.im (.int i),.im (.int j)],hd=>some (.im (.int (if j<i then j else i)),hd)
 |_,_=>none
theorem Uo:RF K (λxs H Q=>∃i j,xs=[.int i,.int j]/\Q (.int (if j>i then j else i)) H) Gz:=by
 intro ρ H hd ds vs Q z hd' hR h1 hf hQ;unfold Gz at hf;split at hf
 .cases hf;simp only[RDs,RD,RI]at h1;obtain⟨x,r,rfl,rfl,y,r2,rfl,rfl,rfl⟩:=h1;exact⟨_,_,rfl,hQ ρ H _ .refl hR (by simp[RD,RI])⟩
 .cases hf
theorem Um:RF K (λxs H Q=>∃i j,xs=[.int i,.int j]/\Q (.int (if j<i then j else i)) H) Ih:=by
 intro ρ H hd ds vs Q z hd' hR h1 hf hQ;unfold Ih at hf;split at hf
 .cases hf;simp only[RDs,RD,RI]at h1;obtain⟨x,r,rfl,rfl,y,r2,rfl,rfl,rfl⟩:=h1;exact⟨_,_,rfl,hQ ρ H _ .refl hR (by simp[RD,RI])⟩
 .cases hf
def ZI:List D->Hd->Option (D×Hd)
 |[.im (.int i)],hd=>some (.im (.int (if i<0 then -i else i)),hd)
 |_,_=>none
def Yh(ma:ME):MA:=λls hd=>(ma ls hd).bind λp=>(BV p.2 p.1).map (·,p.2)
def Hn(ml:MA):MA:=ml
theorem SW{t:TE}{m:MA}(h:RN K t m):RN K (tCB (Ko K) (CP t E6)) (Hn m):=by
 intro ρ σ H hd ls Q d hd' hR hL hm hQ;refine h ρ σ H hd ls _ d _ hR hL hm λρ1 H1 a xs x1 R1 na oa ea r1=>?_;refine⟨a,xs,rfl,.inl (SqL.of ea),λl hl=>?_⟩;obtain⟨R2,x2⟩:=R1.hid (ho:=.lst xs) hl;exact hQ ρ1 _ l xs (x1.trans R1 x2) R2 (x1.none hR hl R1) (R1.out hl) Af (r1.ext R1 x2)
def Dt(d:PyData):Prop:=d.showable=true/\d.hasDict=false/\isDisplay d=true/\d.depth<=30/\d.shown.length<=sizeLine
open Classical in
def Df:List D->Hd->Option (D×Hd)
 |[d],hd=>match pyD hd d with
  |some p=>if Dt p then some (.im (.str p.shown),hd)else none
  |none=>none
 |_,_=>none
theorem EE:RF K (P0 K) Df:=by
 intro ρ H hd ds vs Q z hd' hR h1 hf hQ;unfold Df at hf;split at hf
 .split at hf
  .next p e=>
   split at hf
   .next c=>
    cases hf;simp only[RDs]at h1;obtain⟨x,r,rfl,rx,rfl⟩:=h1;exact⟨x,p,rfl,FP hR rx e,c.1,c.2.1,c.2.2.1,c.2.2.2.1,c.2.2.2.2,hQ ρ H _ .refl hR (by simp[RD,RI])⟩
   .cases hf
  .cases hf
 .cases hf
def Ez:I->Option V
 |.non=>some .non
 |.bl b=>some (.bl b)
 |.int i=>some (.int i)
 |.str x=>some (.str x)
 |.tup _=>none
def CU:List D->Option (List V)
 |[]=>some []
 |.im i::r=>(Ez i).bind λv=>(CU r).map (v::·)
 |_::_=>none
theorem JQ{i:I}{v w:V}(e:Ez i=some w)(h:RI K H i v):v=w/\Ey w=true:=by
 cases i with
 |tup _=>simp[Ez]at e
 |_=>simp only[Ez,Option.some.injEq]at e;subst e;exact⟨by simpa only[RI]using h,rfl⟩
theorem Hu:∀{ds:List D} {vs ws:List V},CU ds=some ws->RDs K ρ H ds vs->vs=ws/\ws.all Ey=true
 |[],vs,ws,e,h=>by simp[CU]at e;subst e;simp only[RDs]at h;subst h;exact⟨rfl,rfl⟩
 |.im i::r,vs,ws,e,h=>by
  simp only[CU]at e;obtain⟨v,e1,e⟩:=fK e;obtain⟨us,e2,rfl⟩:=fL e;simp only[RDs,RD]at h;obtain⟨x,y,rfl,h1,h2⟩:=h;obtain⟨rfl,f1⟩:=JQ e1 h1;obtain⟨rfl,f2⟩:=Hu e2 h2;exact⟨rfl,by simp[f1,f2]⟩
 |.mu _::_,_,_,e,_=>by simp[CU]at e
 |.tm _::_,_,_,e,_=>by simp[CU]at e
 |.ro _::_,_,_,e,_=>by simp[CU]at e
def gIn(neg:Bool):D->D->Hd->Option (D×Hd)
 |.im i,e,hd=>(Ez i).bind λx=>(BV hd e).bind λds=>(CU ds).map λxs=>(.im (.bl (if neg then !inV x xs else inV x xs)),hd)
 |_,_,_=>none
theorem Ts{neg:Bool}:RB K (rIn K neg) (gIn neg):=by
 intro ρ H hd d e v u Q z hd' hR h1 h2 hf hQ;unfold gIn at hf;split at hf
 .obtain⟨x,e1,hf⟩:=fK hf;obtain⟨ds,e2,hf⟩:=fK hf;obtain⟨xs,e3,e4⟩:=fL hf;cases e4;simp only[RD]at h1;obtain⟨rfl,f1⟩:=JQ e1 h1;obtain⟨a,ys,rfl,q,r⟩:=h2.seq hR e2;obtain⟨rfl,f2⟩:=Hu e3 r;exact⟨a,ys,rfl,q,f1,f2,hQ ρ H _ .refl hR (by simp[RD,RI])⟩
 .cases hf
def mMt(f:D->List D->Hd->Option (D×Hd))(mo:ME)(ma:MA):ME:=λls hd=>(mo ls hd).bind λp=>match Br p.2 p.1 with
 |some _=>(ma ls p.2).bind λq=>f p.1 q.1 q.2
 |none=>none
def RM(K:PySem.W.Frag)(r:V->List V->Hp->VK->Prop)(f:D->List D->Hd->Option (D×Hd)):Prop:=∀(ρ:List Addr) (H:Hp) (hd:Hd) (d:D) (v:V) (ds:List D) (vs:List V) (Q:VK) (z:D) (hd':Hd),RH K ρ H hd->RD K ρ H d v->RDs K ρ H ds vs->f d ds hd=some (z,hd') ->
 (∀ρ' H' w,Ext ρ H ρ' H'->RH K ρ' H' hd'->RD K ρ' H' z w->Q w H')->r v vs H Q
theorem YO{r:V->List V->Hp->VK->Prop}{f:D->List D->Hd->Option (D×Hd)}{to:TE}{t:TA}{mo:ME}{ma:MA}(hr:RM K r f)(ho:RE K to mo)(ha:RA K t ma):RE K (tBM K "list" r to t) (mMt f mo ma):=by
 intro ρ σ H hd ls Q d hd' hR hL hm hQ;obtain⟨⟨d1,h1⟩,e1,hm⟩:=fK hm;dsimp only at hm;split at hm
 .next e=>
  obtain⟨⟨d2,h2⟩,e2,hm⟩:=fK hm;refine ho ρ σ H hd ls _ d1 h1 hR hL e1 λρ1 H1 v x1 R1 r1=>⟨?_,?_⟩
  .obtain⟨a,xs,rfl,q,_⟩:=r1.lst R1 e;exact .inl ⟨rfl,xs,q⟩
  .exact ha ρ1 σ H1 h1 ls _ d2 h2 R1 (hL.ext hR x1) e2 λρ2 H2 vs x2 R2 r2=>hr ρ2 H2 h2 d1 v d2 vs Q d hd' R2 (r1.ext R1 x2) r2 hm λρ' H' w x3 R3 r3=>hQ ρ' H' w ((x1.trans R1 x2).trans R2 x3) R3 r3
 .cases hm
open Classical in
def BH:D->List D->Hd->Option (D×Hd)
 |.mu n,[x],hd=>match hd[n]? with
  |some (.lst ds)=>if E4 ds.length then some (.im .non,hd.set n (.lst (ds++[x])))else none
  |_=>none
 |_,_,_=>none
theorem Ck:RM K Ny BH:=by
 intro ρ H hd d v ds vs Q z hd' hR h1 h2 hf hQ;unfold BH at hf;split at hf
 .split at hf
  .next q=>
   split at hf
   .next c=>
    cases hf;simp only[RD]at h1;obtain⟨a,hn,rfl⟩:=h1;simp only[RDs]at h2;obtain⟨x,r,rfl,rx,rfl⟩:=h2;obtain⟨xs,e1,e2⟩:=hR.lst hn q;obtain⟨R2,x2⟩:=hR.put hn (o:=.lst (_++[_])) (ho:=.lst (xs++[x])) ⟨_,rfl,e2.app (.cons rx .nil)⟩;exact⟨a,xs,x,rfl,rfl,e1,by rw[e2.len];exact c,hQ ρ _ _ x2 R2 (by simp[RD,RI])⟩
   .cases hf
  .cases hf
 .cases hf
end
end L2
namespace L2
open PySem PySem.Spec PyProof.Rows
section
variable{K:PySem.W.Frag}{ρ ρ':List Addr}{H H':Hp}{hd hd':Hd}
def Ap:MS:=λls hd=>some (.nx ls,hd)
theorem Ua:RS K Oi Ap:=by
 intro ρ σ H hd ls E f hd' hR hL hm hQ;cases hm;exact hQ ρ H .refl hR σ hL
def AA(a b:MS):MS:=λls hd=>(a ls hd).bind λp=>match p.1 with
 |.nx ls1=>b ls1 p.2
 |f=>some (f,p.2)
theorem Wc{t u:TS}{a b:MS}(ha:RS K t a)(hb:RS K u b):RS K (SA t u) (AA a b):=by
 intro ρ σ H hd ls E f hd' hR hL hm hQ;obtain⟨⟨f1,h1⟩,e1,hm⟩:=fK hm;refine ha ρ σ H hd ls { E with nx:=u E } f1 h1 hR hL e1 λρ1 H1 x1 R1=>?_;cases f1 with
 |nx ls1=>
  intro σ1 L1;exact hb ρ1 σ1 H1 h1 ls1 E f hd' R1 L1 hm λρ2 H2 x2 R2=>hQ ρ2 H2 (x1.trans R1 x2) R2
 |bk ls1=>cases hm;exact hQ ρ1 H1 x1 R1
 |ct ls1=>cases hm;exact hQ ρ1 H1 x1 R1
 |rt d=>cases hm;exact hQ ρ1 H1 x1 R1
def Xd:MS:=λls hd=>some (.bk ls,hd)
def Yj:MS:=λls hd=>some (.ct ls,hd)
def C4(m:ME):MS:=λls hd=>(m ls hd).bind λp=>some (.nx ls,p.2)
theorem Ud{t:TE}{m:ME}(h:RE K t m):RS K (Oj t) (C4 m):=by
 intro ρ σ H hd ls E f hd' hR hL hm hQ;obtain⟨⟨d1,h1⟩,e1,hm⟩:=fK hm;cases hm;exact h ρ σ H hd ls _ d1 _ hR hL e1 λρ1 H1 v x1 R1 r1=>hQ ρ1 H1 x1 R1 σ (hL.ext hR x1)
def Ac(m:ME):MS:=λls hd=>(m ls hd).bind λp=>some (.rt p.1,p.2)
theorem Wd{t:TE}{m:ME}(h:RE K t m):RS K (SB t) (Ac m):=by
 intro ρ σ H hd ls E f hd' hR hL hm hQ;obtain⟨⟨d1,h1⟩,e1,hm⟩:=fK hm;cases hm;exact h ρ σ H hd ls _ d1 _ hR hL e1 λρ1 H1 v x1 R1 r1=>hQ ρ1 H1 x1 R1 v r1
def Yg:MS:=λ_ hd=>some (.rt (.im .non),hd)
def Ay(c:MT)(a b:MS):MS:=λls hd=>(c ls hd).bind λp=>if p.1=true then a ls p.2 else b ls p.2
theorem YM{tc:TT}{t u:TS}{c:MT}{a b:MS}(hc:RT K tc c)(ha:RS K t a)(hb:RS K u b):RS K (SG tc t u) (Ay c a b):=by
 intro ρ σ H hd ls E f hd' hR hL hm hQ;obtain⟨⟨d1,h1⟩,e1,hm⟩:=fK hm;refine hc ρ σ H hd ls _ d1 h1 hR hL e1 λρ1 H1 x1 R1=>?_;cases d1 with
 |true=>
  rw[if_pos rfl]at hm ⊢;exact ha ρ1 σ H1 h1 ls E f hd' R1 (hL.ext hR x1) hm λρ2 H2 x2 R2=>hQ ρ2 H2 (x1.trans R1 x2) R2
 |false=>
  rw[if_neg Bool.false_ne_true]at hm ⊢;exact hb ρ1 σ H1 h1 ls E f hd' R1 (hL.ext hR x1) hm λρ2 H2 x2 R2=>hQ ρ2 H2 (x1.trans R1 x2) R2
def K9:MS:=λ_ _=>none
theorem SS:RS K MQ K9:=by
 intro ρ σ H hd ls E f hd' hR hL hm hQ;cases hm
abbrev MG:=D->Ls->Hd->Option Ls
abbrev MGs:=List D->Ls->Hd->Option Ls
def RGt(K:PySem.W.Frag)(t:TG)(m:MG):Prop:=∀(ρ:List Addr) (σ:St) (H:Hp) (hd:Hd) (ls ls':Ls) (d:D) (v:V) (Q:St->Hp->Prop),RH K ρ H hd->RL K ρ H ls σ->RD K ρ H d v->m d ls hd=some ls' ->
 (∀σ',RL K ρ H ls' σ'->Q σ' H)->t v σ H Q
def NV(K:PySem.W.Frag)(t:TGs)(m:MGs):Prop:=∀(ρ:List Addr) (σ:St) (H:Hp) (hd:Hd) (ls ls':Ls) (d:List D) (v:List V) (Q:St->Hp->Prop),RH K ρ H hd->RL K ρ H ls σ->RDs K ρ H d v->m d ls hd=some ls' ->
 (∀σ',RL K ρ H ls' σ'->Q σ' H)->t v σ H Q
theorem RL.set{ls:Ls}{σ:St}{d:D}{v:V}(h:RL K ρ H ls σ)(i:Nat)(r:RD K ρ H d v):RL K ρ H (ls.set i (some d)) (σ.set i (some v)):=by
 refine⟨by simp[h.len],λj e q=>?_⟩;by_cases hij:i=j
 .subst hij;have hl:i<ls.length:=by
   have:=(List.getElem?_eq_some_iff.mp q).1;simpa using this
  rw[List.getElem?_set_self hl]at q;cases q;exact⟨v,by rw[List.getElem?_set_self (by rw[<- h.len];exact hl)],r⟩
 .rw[List.getElem?_set_ne hij]at q;obtain⟨w,e1,e2⟩:=h.ob j e q;exact⟨w,by rw[List.getElem?_set_ne hij];exact e1,e2⟩
def AF(i:Nat):MG:=λd ls _=>some (ls.set i (some d))
theorem Kl{i:Nat}:RGt K (Gv i) (AF i):=by
 intro ρ σ H hd ls ls' d v Q hR hL hd hm hQ;cases hm;exact hQ _ (hL.set i hd)
def C0:MGs:=λds ls _=>match ds with
 |[]=>some ls
 |_=>none
def Ae(m:MG)(r:MGs):MGs:=λds ls hd=>match ds with
 |d::es=>(m d ls hd).bind λls1=>r es ls1 hd
 |[]=>none
theorem Ul:NV K TQ C0:=by
 intro ρ σ H hd ls ls' d v Q hR hL hd hm hQ;cases d with
 |nil=>
  simp only[RDs]at hd;subst hd;cases hm;exact⟨rfl,hQ _ hL⟩
 |cons a b=>cases hm
theorem SY{t:TG}{u:TGs}{m:MG}{r:MGs}(h:RGt K t m)(h':NV K u r):NV K (PX t u) (Ae m r):=by
 intro ρ σ H hd ls ls' d v Q hR hL hd hm hQ;cases d with
 |nil=>cases hm
 |cons a b=>
  simp only[RDs]at hd;obtain⟨x,y,rfl,h1,h2⟩:=hd;obtain⟨ls1,e1,e2⟩:=fK hm;exact⟨x,y,rfl,h ρ σ H _ ls ls1 a x _ hR hL h1 e1 λσ1 L1=>h' ρ σ1 H _ ls1 ls' b y Q hR L1 h2 e2 hQ⟩
def Bz(n:Nat)(r:MGs):MG:=λd ls hd=>(Ao d).bind λds=>if ds.length=n then r ds ls hd else none
theorem Wm{n:Nat}{u:TGs}{r:MGs}(h':NV K u r):RGt K (PV K n u) (Bz n r):=by
 intro ρ σ H hd ls ls' d v Q hR hL hd hm hQ;obtain⟨ds,e1,hm⟩:=fK hm;split at hm
 .next c=>
  obtain⟨a,xs,rfl,q,rr⟩:=hd.tup e1;exact⟨a,xs,rfl,q,by rw[rr.len];exact c,h' ρ σ H _ ls ls' ds xs Q hR hL rr hm hQ⟩
 .cases hm
def FG(m:ME)(g:MG):MS:=λls hd=>(m ls hd).bind λp=>(g p.1 ls p.2).map λls'=>(.nx ls',p.2)
theorem Mg{t:TE}{m:ME}{g:TG}{n:MG}(h:RE K t m)(hg:RGt K g n):RS K (Gc t g) (FG m n):=by
 intro ρ σ H hd ls E f hd' hR hL hm hQ;obtain⟨⟨d1,h1⟩,e1,hm⟩:=fK hm;obtain⟨ls',e2,e3⟩:=fL hm;cases e3;exact h ρ σ H hd ls _ d1 _ hR hL e1 λρ1 H1 v x1 R1 r1=>hg ρ1 σ H1 _ ls ls' d1 v _ R1 (hL.ext hR x1) r1 e2 λσ' L'=>hQ ρ1 H1 x1 R1 σ' L'
abbrev AO(i:Nat)(m:ME):MS:=FG m (AF i)
def Hm(ix:List Nat)(ma:MA):MS:=λls hd=>(ma ls hd).bind λp=>if p.1.length=ix.length then some (.nx ((ix.zip p.1).foldl (λl q=>l.set q.1 (some q.2)) ls),p.2)else none
theorem We{i j:Nat}{t:TA}{m:MA}(h:RA K t m):RS K (SC i j t) (Hm [i,j] m):=by
 intro ρ σ H hd ls E f hd' hR hL hm hQ;obtain⟨⟨d1,h1⟩,e1,hm⟩:=fK hm;dsimp only at hm;split at hm
 .next c=>
  cases hm;refine h ρ σ H hd ls _ d1 _ hR hL e1 λρ1 H1 v x1 R1 r1=>?_
  match d1,c,r1,hQ with
  |[a,b],_,r1,hQ=>
   simp only[RDs]at r1;obtain⟨x,r,rfl,ra,y,r2,rfl,rb,rfl⟩:=r1;exact⟨x,y,rfl,hQ ρ1 H1 x1 R1 _ (((hL.ext hR x1).set i ra).set j rb)⟩
 .cases hm
def K7(i j k:Nat)(ma:MA):MS:=Hm [k,j,i] (λls hd=>(ma ls hd).map λp=>(p.1.reverse,p.2))
theorem UZ{i j k:Nat}{t:TA}{m:MA}(h:RA K t m):RS K (Og i j k t) (K7 i j k m):=by
 intro ρ σ H hd ls E f hd' hR hL hm hQ;obtain⟨⟨d1,h1⟩,e1,hm⟩:=fK hm;obtain⟨⟨d2,h2⟩,e2,e3⟩:=fL e1;cases e3;dsimp only at hm;split at hm
 .next c=>
  cases hm;refine h ρ σ H hd ls _ d2 _ hR hL e2 λρ1 H1 v x1 R1 r1=>?_;have c:d2.length=3:=by simpa using c
  match d2,c,r1,hQ with
  |[a,b,e],_,r1,hQ=>
   simp only[RDs]at r1;obtain⟨x,r,rfl,ra,y,r2,rfl,rb,z,r3,rfl,rc,rfl⟩:=r1;exact⟨x,y,z,rfl,hQ ρ1 H1 x1 R1 _ ((((hL.ext hR x1).set k rc).set j rb).set i ra)⟩
 .cases hm
abbrev Gd:=List (Nat×List D)
abbrev MI:=Ls->Hd->Option ((List D×Gd)×Hd)
def GOk(hd:Hd)(g:Gd):Prop:=∀p∈g,hd[p.1]?=some (.lst p.2)
@[simp] theorem AV(hd:Hd):GOk hd []:=λp h=>by cases h
def KW(K:PySem.W.Frag)(ρ:List Addr)(H:Hp)(J:It)(ds:List D)(g:Gd):Prop:=∀(ρ2:List Addr) (H2:Hp) (hd2:Hd),Ext ρ H ρ2 H2->RH K ρ2 H2 hd2->GOk hd2 g ->
 ∀i:Nat,(i<ds.length->J.go i H2/\∀x H3,J.yld i H2 x H3->∃ρ3 d,Ext ρ2 H2 ρ3 H3/\ρ3=ρ2/\RH K ρ3 H3 hd2/\ds[i]?=some d/\RD K ρ3 H3 d x)/\(i=ds.length->J.stop i H2)
def RIt(K:PySem.W.Frag)(t:TI)(m:MI):Prop:=∀(ρ:List Addr) (σ:St) (H:Hp) (hd:Hd) (ls:Ls) (Q:It->Hp->Prop) (d:List D) (g:Gd) (hd':Hd),RH K ρ H hd->RL K ρ H ls σ->m ls hd=some ((d,g),hd') ->
 (∀ρ' H' J,Ext ρ H ρ' H'->RH K ρ' H' hd'->GOk hd' g->KW K ρ' H' J d g->Q J H')->t σ H Q
theorem OY{a:Addr}{xs:List V}{ds:List D}(hR:RH K ρ H hd)(q:SqT K H a xs)(r:RDs K ρ H ds xs)(g:Gd):KW K ρ H (Itt K a) ds g:=by
 intro ρ2 H2 hd2 x2 R2 _ i;have q2:=(x2.grow hR).sq q;have r2:=r.ext hR x2;have uniq:∀ys,SqT K H2 a ys->True:=λ_ _=>trivial;refine⟨λhi=>?_,λhi=>⟨xs,q2,by rw[r2.len,hi];exact le_refl _⟩⟩;have e:ds[i]?=some ds[i]:=by simp[hi]
 obtain⟨x,x1,x3⟩:=r2.get e;refine⟨⟨xs,x,q2,x1⟩,λy H3 ⟨e3,hy⟩=>?_⟩;subst e3;have:=hy xs q2;rw[x1]at this;cases this;exact⟨ρ2,_,.refl,rfl,R2,e,x3⟩
def BG(m:ME):MI:=λls hd=>(m ls hd).bind λp=>(Ao p.1).map λds=>((ds,[]),p.2)
theorem Wl{t:TE}{m:ME}(h:RE K t m):RIt K (PP K t) (BG m):=by
 intro ρ σ H hd ls Q d g hd' hR hL hm hQ;obtain⟨⟨d1,h1⟩,e1,hm⟩:=fK hm;obtain⟨ds,e2,e3⟩:=fL hm;cases e3;refine h ρ σ H hd ls _ d1 _ hR hL e1 λρ1 H1 v x1 R1 r1=>?_;obtain⟨a,xs,rfl,q,r⟩:=r1.tup e2;exact⟨a,rfl,⟨xs,q⟩,hQ ρ1 H1 _ x1 R1 (AV _) (OY R1 q r [])⟩
def EX(m:ME):MI:=λls hd=>(m ls hd).bind λp=>match p.1 with
 |.mu n=>match p.2[n]? with
  |some (.lst ds)=>some ((ds,[(n,ds)]),p.2)
  |_=>none
 |.ro ns=>some ((ns.map λn=>.im (.int n),[]),p.2)
 |_=>none
theorem Uk{t:TE}{m:ME}(h:RE K t m):RIt K (M6 K t) (EX m):=by
 intro ρ σ H hd ls Q d g hd' hR hL hm hQ;obtain⟨⟨d1,h1⟩,e1,hm⟩:=fK hm;dsimp only at hm;split at hm
 .next n=>
  split at hm
  .next ds q=>
   cases hm;refine h ρ σ H hd ls _ _ _ hR hL e1 λρ1 H1 v x1 R1 r1=>?_;simp only[RD]at r1;obtain⟨a,hn,rfl⟩:=r1;obtain⟨xs,e2,e3⟩:=R1.lst hn q;refine⟨a,rfl,⟨xs,SqL.of e2⟩,hQ ρ1 H1 _ x1 R1 (λp z=>by simp at z;subst z;exact q) ?_⟩;intro ρ2 H2 hd2 x2 R2 G2 i;have q2:=G2 (n,d) (by simp);have hn2:ρ2[n]?=some a:=by
    obtain⟨r,rfl,_⟩:=x2.pre;rw[List.getElem?_append_left (List.getElem?_eq_some_iff.mp hn).1];exact hn
   obtain⟨ys,e4,e5⟩:=R2.lst hn2 q2;refine⟨λhi=>?_,λhi=>⟨ys,SqL.of e4,by rw[e5.len,hi];exact le_refl _⟩⟩;have e:d[i]?=some d[i]:=by simp[hi]
   obtain⟨x,y1,y2⟩:=e5.get e;refine⟨⟨ys,x,SqL.of e4,y1⟩,λy H3 ⟨e6,hy⟩=>?_⟩;subst e6;have:=hy ys (SqL.of e4);rw[y1]at this;cases this;exact⟨ρ2,_,.refl,rfl,R2,e,y2⟩
  .cases hm
 .next ns=>
  cases hm;refine h ρ σ H hd ls _ _ _ hR hL e1 λρ1 H1 v x1 R1 r1=>?_;simp only[RD]at r1;obtain⟨a,rfl,q⟩:=r1;refine⟨a,rfl,⟨_,q.sq⟩,hQ ρ1 H1 _ x1 R1 (AV _) ?_⟩;intro ρ2 H2 hd2 x2 R2 G2 i;have q2:=(q.grow (x2.grow R1)).sq;have e5:RDs K ρ2 H2 (ns.map λn=>.im (.int n)) (ns.map V.int):=FS;refine⟨λhi=>?_,λhi=>⟨_,q2,by rw[e5.len,hi];exact le_refl _⟩⟩;have e:(ns.map λn=>D.im (.int n))[i]?=some ((ns.map λn=>D.im (.int n))[i]):=by simp[hi]
  obtain⟨x,y1,y2⟩:=e5.get e;refine⟨⟨_,x,q2,y1⟩,λy H3 ⟨e6,hy⟩=>?_⟩;subst e6;have:=hy _ q2;rw[y1]at this;cases this;exact⟨ρ2,_,.refl,rfl,R2,e,y2⟩
 .cases hm
def Xc(ml:MA):MI:=λls hd=>(ml ls hd).map λp=>((p.1,[]),p.2)
def An(lo:Int):Nat->List D
 |0=>[]
 |n+1=>.im (.int lo)::An (lo+1) n
@[simp] theorem FJ(lo:Int)(n:Nat):(An lo n).length=n:=by
 induction n generalizing lo with
 |zero=>rfl
 |succ n ih=>simp[An,ih]
theorem Jr{n:Nat}:∀{lo:Int} {i:Nat},i<n->(An lo n)[i]?=some (.im (.int (lo+i))):=by
 induction n with
 |zero=>intro lo i h;omega
 |succ n ih=>
  intro lo i h;cases i with
  |zero=>simp[An]
  |succ i=>
   simp only[An,List.getElem?_cons_succ];rw[ih (by omega)]
   congr 3
   push_cast
   omega
theorem JU{lo:Int}{n:Nat}{g:Gd}:KW K ρ H (Itr lo n) (An lo n) g:=by
 intro ρ2 H2 hd2 x2 R2 G2 i;refine⟨λhi=>?_,λhi=>by rw[hi,FJ];exact le_refl _⟩;rw[FJ]at hi;refine⟨hi,λx H3 ⟨e1,e2⟩=>?_⟩;subst e1 e2;exact⟨ρ2,_,.refl,rfl,R2,Jr hi,by simp[RD,RI]⟩
open Classical in
def DI(m:MA):MI:=λls hd=>(m ls hd).bind λp=>match p.1 with
 |[.im (.int j)]=>if Fa j then some ((An 0 j.toNat,[]),p.2)else none
 |_=>none
theorem Uj{t:TA}{m:MA}(h:RA K t m):RIt K (PR t) (DI m):=by
 intro ρ σ H hd ls Q d g hd' hR hL hm hQ;obtain⟨⟨d1,h1⟩,e1,hm⟩:=fK hm;dsimp only at hm;split at hm
 .next j=>
  split at hm
  .next c=>
   cases hm;refine h ρ σ H hd ls _ _ _ hR hL e1 λρ1 H1 v x1 R1 r1=>?_;simp only[RDs,RD,RI]at r1;obtain⟨x,r,rfl,rfl,rfl⟩:=r1;exact⟨j,rfl,c.1,c.2,hQ ρ1 H1 _ x1 R1 (AV _) JU⟩
  .cases hm
 .cases hm
open Classical in
def Fv(m:MA):MI:=λls hd=>(m ls hd).bind λp=>match p.1 with
 |[.im (.int i),.im (.int j)]=>if Mj i j then some ((An i (j-i).toNat,[]),p.2)else none
 |_=>none
theorem Ui{t:TA}{m:MA}(h:RA K t m):RIt K (PQ t) (Fv m):=by
 intro ρ σ H hd ls Q d g hd' hR hL hm hQ;obtain⟨⟨d1,h1⟩,e1,hm⟩:=fK hm;dsimp only at hm;split at hm
 .next i j=>
  split at hm
  .next c=>
   cases hm;refine h ρ σ H hd ls _ _ _ hR hL e1 λρ1 H1 v x1 R1 r1=>?_;simp only[RDs,RD,RI]at r1;obtain⟨x,r,rfl,rfl,y,r2,rfl,rfl,rfl⟩:=r1;exact⟨i,j,rfl,⟨c.1.1,c.1.2,c.2.1,c.2.2⟩,hQ ρ1 H1 _ x1 R1 (AV _) JU⟩
  .cases hm
 .cases hm
open Classical in
def BZ(n:MG)(b:MS)(g:Gd):List D->Ls->Hd->Option (Fl×Hd)
 |[],ls,hd=>some (.nx ls,hd)
 |d::r,ls,hd=>(n d ls hd).bind λls1=>(b ls1 hd).bind λp=>match p.1 with
  |.nx ls2=>if GOk p.2 g then BZ n b g r ls2 p.2 else none
  |.ct ls2=>if GOk p.2 g then BZ n b g r ls2 p.2 else none
  |.bk ls2=>some (.nx ls2,p.2)
  |.rt d=>some (.rt d,p.2)
def Bl(mi:MI)(n:MG)(b:MS):MS:=λls hd=>(mi ls hd).bind λp=>BZ n b p.1.2 p.1.1 ls p.2
theorem Wf{wi:TI}{g:TG}{tb:TS}{mi:MI}{n:MG}{b:MS}(hi:RIt K wi mi)(hg:RGt K g n)(hb:RS K tb b):RS K (SH wi g tb) (Bl mi n b):=by
 intro ρ σ H hd ls E f hd' hR hL hm hQ;obtain⟨⟨⟨ds,gd⟩,h1⟩,e1,hm⟩:=fK hm;refine hi ρ σ H hd ls _ ds gd h1 hR hL e1 λρ1 H1 J x1 R1 G1 Y=>?_;dsimp only at hm;refine⟨λi m σ2 H2=>m=ds.length-i/\i<=ds.length/\∃ρ2 ls2 hd2,Ext ρ1 H1 ρ2 H2/\RH K ρ2 H2 hd2/\RL K ρ2 H2 ls2 σ2/\GOk hd2 gd/\BZ n b gd (ds.drop i) ls2 hd2=some (f,hd'),
  ⟨ds.length,by simp,zero_le _,ρ1,ls,h1,.refl,R1,hL.ext hR x1,G1,by simpa using hm⟩,?_⟩
 rintro i m σ2 H2 ⟨rfl,hi,ρ2,ls2,hd2,x2,R2,L2',G2,hm2⟩;obtain⟨Y1,Y2⟩:=Y ρ2 H2 hd2 x2 R2 G2 i;by_cases hlt:i<ds.length
 .obtain⟨go,Y1⟩:=Y1 hlt;have ed:ds.drop i=ds[i]::ds.drop (i+1):=drop_eq_getElem_cons hlt;rw[ed]at hm2;unfold BZ at hm2;obtain⟨ls3,e3,hm2⟩:=fK hm2;obtain⟨⟨fl,hd4⟩,e4,hm2⟩:=fK hm2;refine .inr ⟨go,λσ' H'=>∃ρ2 ls2 hd2,Ext ρ1 H1 ρ2 H'/\RH K ρ2 H' hd2/\RL K ρ2 H' ls2 σ'/\GOk hd2 gd/\BZ n b gd (ds.drop (i+1)) ls2 hd2=some (f,hd'),λσ' H' z=>⟨ds.length-(i+1),by omega,rfl,hlt,z⟩,λx H3 y=>?_⟩;obtain⟨ρ3,d3,x3,rfl,R3,e5,r3⟩:=Y1 x H3 y;have e6:d3=ds[i]:=by
   have:ds[i]?=some ds[i]:=by simp[hlt]
   rw[this]at e5;exact(Option.some.inj e5).symm
  subst e6;refine hg ρ3 σ2 H3 hd2 ls2 ls3 _ x _ R3 (L2'.ext R2 x3) r3 e3 λσ4 L4=>?_;refine hb ρ3 σ4 H3 hd2 ls3 _ fl hd4 R3 L4 e4 λρ5 H5 x5 R5=>?_;have x15:=(x2.trans R2 x3).trans R3 x5;cases fl with
  |nx ls5=>
   intro σ5 L5;dsimp only at hm2;split at hm2
   .next c=>exact⟨ρ5,ls5,hd4,x15,R5,L5,c,hm2⟩
   .cases hm2
  |ct ls5=>
   intro σ5 L5;dsimp only at hm2;split at hm2
   .next c=>exact⟨ρ5,ls5,hd4,x15,R5,L5,c,hm2⟩
   .cases hm2
  |bk ls5=>
   intro σ5 L5;cases hm2;exact hQ ρ5 H5 (x1.trans R1 x15) R5 σ5 L5
  |rt d5=>
   intro v5 r5;cases hm2;exact hQ ρ5 H5 (x1.trans R1 x15) R5 v5 r5
 .have e:i=ds.length:=by omega
  subst e;rw[drop_length]at hm2;unfold BZ at hm2;cases hm2;exact .inl ⟨Y2 rfl,hQ ρ2 H2 (x1.trans R1 x2) R2 σ2 L2'⟩
open Classical in
def BL(n:MG)(c:MT)(m:ME)(g:Gd):List D->Ls->Hd->Option (List D×Hd)
 |[],_,hd=>some ([],hd)
 |d::r,ls,hd=>(n d ls hd).bind λls1=>(c ls1 hd).bind λp=>if p.1=true then(m ls1 p.2).bind λq=>if GOk q.2 g then(BL n c m g r ls1 q.2).map λz=>(q.1::z.1,z.2)else none else if GOk p.2 g then BL n c m g r ls1 p.2 else none
def Dh(k:Nat)(ix:List Nat)(ls:Ls):Ls:=List.replicate k none++ix.map λi=>(ls[i]?).join
open Classical in
def BA(k:Nat)(ix:List Nat)(mi:MI)(n:MG)(c:MT)(m:ME):MA:=λls hd=>(mi ls hd).bind λp=>if CM p.1.1.length then BL n c m p.1.2 p.1.1 (Dh k ix ls) p.2 else none
theorem OU{k:Nat}{ix:List Nat}{ls:Ls}{σ:St}(h:RL K ρ H ls σ):RL K ρ H (Dh k ix ls) (GA k ix σ):=by
 refine⟨by simp[Dh,GA],λi d e=>?_⟩;unfold Dh at e;unfold GA;by_cases hi:i<k
 .rw[List.getElem?_append_left (by simpa using hi),List.getElem?_replicate]at e;split at e<;>cases e
 .have hi':k<=i:=Nat.not_lt.mp hi;rw[List.getElem?_append_right (by simpa using hi'),List.length_replicate,List.getElem?_map]at e ⊢;cases q:ix[i-k]? with
  |none=>rw[q]at e;cases e
  |some j=>
   rw[q]at e;simp only[map_some,Option.some.injEq]at e ⊢;have e5:ls[j]?=some (some d):=by
    cases w:ls[j]? with
    |none=>rw[w]at e;cases e
    |some z=>rw[w]at e;simpa using e
   obtain⟨v,e6,e7⟩:=h.ob j d e5;exact⟨v,by rw[e6];rfl,e7⟩
theorem Nr{k:Nat}{ix:List Nat}{wi:TI}{g:TG}{tf:TT}{te:TE}{mi:MI}{n:MG}{c:MT}{m:ME}(hi:RIt K wi mi)(hg:RGt K g n)(hf:RT K tf c)(he:RE K te m):RN K (Jd k ix wi g tf te) (BA k ix mi n c m):=by
 intro ρ σ H hd ls Q out hd' hR hL hm hQ;obtain⟨⟨⟨ds,gd⟩,h1⟩,e1,hm⟩:=fK hm;dsimp only at hm;split at hm
 .next hlen=>
  have hlen:ds.length<=sizeLine:=hlen;refine hi ρ σ H hd ls _ ds gd h1 hR hL e1 λρ1 H1 J x1 R1 G1 Y=>?_;intro Da hDa;obtain⟨R1',x1'⟩:=R1.hid (ho:=.lst []) hDa;have oD:Da∉ρ1:=R1.out hDa;have nD:H Da=none:=x1.none hR hDa R1;refine⟨λi mm σ2 ys H2=>mm=ds.length-i/\i<=ds.length/\∃ρ2 ls2 hd2 es rest,Ext ρ1 (upd H1 Da (.lst ys)) ρ2 H2/\Ext ρ1 H1 ρ2 H2/\Da∉ρ2/\H2 Da=some (.lst ys)/\RH K ρ2 H2 hd2/\RL K ρ2 H2 ls2 σ2/\RDs K ρ2 H2 es ys/\es.length<=i/\GOk hd2 gd/\BL n c m gd (ds.drop i) ls2 hd2=some (rest,hd')/\out=es++rest,
   ⟨ds.length,by simp,zero_le _,ρ1,_,h1,[],out,.refl,x1',oD,Af,R1',(OU ((hL.ext hR x1).ext R1 x1')),.nil,le_refl _,G1,by simpa using hm,rfl⟩,?_⟩
  rintro i mm σ2 ys H2 ⟨rfl,hi,ρ2,ls2,hd2,es,rest,x2',x2,oD2,hD2,R2,L2',r2,hle,G2,hm2,rfl⟩;refine⟨hD2,?_⟩;obtain⟨Y1,Y2⟩:=Y ρ2 H2 hd2 x2 R2 G2 i;by_cases hlt:i<ds.length
  .obtain⟨go,Y1⟩:=Y1 hlt;have ed:ds.drop i=ds[i]::ds.drop (i+1):=drop_eq_getElem_cons hlt;rw[ed]at hm2;unfold BL at hm2;obtain⟨ls3,e3,hm2⟩:=fK hm2;obtain⟨⟨bb,hd4⟩,e4,hm2⟩:=fK hm2;refine .inr ⟨go,Nat.lt_of_le_of_lt (by rw[r2.len];exact hle) (by omega),λσ' ys' H'=>∃ρ2 ls2 hd2 es' rest',Ext ρ1 (upd H1 Da (.lst ys')) ρ2 H'/\Ext ρ1 H1 ρ2 H'/\Da∉ρ2/\H' Da=some (.lst ys')/\RH K ρ2 H' hd2/\RL K ρ2 H' ls2 σ'/\RDs K ρ2 H' es' ys'/\es'.length<=i+1/\GOk hd2 gd/\BL n c m gd (ds.drop (i+1)) ls2 hd2=some (rest',hd')/\es++rest=es'++rest',λσ' ys' H' z=>⟨ds.length-(i+1),by omega,rfl,hlt,z⟩,λx H3 y=>?_⟩;obtain⟨ρ3,d3,x3,rfl,R3,e5,r3⟩:=Y1 x H3 y;have e6:d3=ds[i]:=by
    have:ds[i]?=some ds[i]:=by simp[hlt]
    rw[this]at e5;exact(Option.some.inj e5).symm
   subst e6;refine hg ρ3 σ2 H3 hd2 ls2 ls3 _ x _ R3 (L2'.ext R2 x3) r3 e3 λσ4 L4=>?_;refine hf ρ3 σ4 H3 hd2 ls3 _ bb hd4 R3 L4 e4 λρ5 H5 x5 R5=>?_;have hD5:H5 Da=some (.lst ys):=x5.keep Da _ (x3.keep Da _ hD2 oD2 nt) oD2 nt;have out5:Da∉ρ5:=by
    obtain⟨r,rfl,fr⟩:=x5.pre;intro z;rcases mem_append.mp z with z|z
    .exact oD2 z
    .have:=fr _ z;rw[x3.keep Da _ hD2 oD2 nt]at this;cases this
   cases bb with
   |false=>
    rw[if_neg Bool.false_ne_true]at hm2 ⊢;have y25:=x3.trans R3 x5;split at hm2
    .next g5=>exact⟨ρ5,ls3,hd4,es,rest,x2'.trans R2 y25,(x2.trans R2 y25),out5,hD5,R5,L4.ext R3 x5,(r2.ext R2 y25),by omega,g5,hm2,rfl⟩
    .cases hm2
   |true=>
    rw[if_pos rfl]at hm2 ⊢;obtain⟨⟨z,hd6⟩,e6,hm2⟩:=fK hm2;obtain⟨g6,hm2⟩:GOk hd6 gd/\((BL n c m gd (ds.drop (i+1)) ls3 hd6).map λq=>(z::q.1,q.2))=some (rest,hd'):=by
     dsimp only at hm2;split at hm2
     .next g6=>exact⟨g6,hm2⟩
     .cases hm2
    obtain⟨⟨zs,hd7⟩,e7,e8⟩:=fL hm2;cases e8;refine he ρ5 σ4 H5 hd4 ls3 _ z hd6 R5 (L4.ext R3 x5) e6 λρ6 H6 v6 x6 R6 r6=>?_;have hD6:H6 Da=some (.lst ys):=x6.keep Da _ hD5 out5 nt;have out6:Da∉ρ6:=by
     obtain⟨r,rfl,fr⟩:=x6.pre;intro z;rcases mem_append.mp z with z|z
     .exact out5 z
     .have:=fr _ z;rw[hD5]at this;cases this
    refine⟨hD6,?_⟩;have y26:=(x3.trans R3 x5).trans R5 x6;have gr:Grow H6 (upd H6 Da (.lst (ys++[v6]))):=Grow.refl.put (.lst hD6);have R7:=R6.hput (ho:=.lst (ys++[v6])) out6 hD6;have x12:=x2.trans R2 y26;have ext7:Ext ρ1 H1 ρ6 (upd H6 Da (.lst (ys++[v6]))):=⟨x12.pre,λb o q nb t=>by
     have:b≠Da:=Ak q hDa;rw[AJ this];exact x12.keep b o q nb t,λb ps q=>by
     have:b≠Da:=Ak q hDa;rw[AJ this];exact x12.tab b ps q⟩
    have ext8:Ext ρ1 (upd H1 Da (.lst (ys++[v6]))) ρ6 (upd H6 Da (.lst (ys++[v6]))):=by
     obtain⟨r,er,fr⟩:=x12.pre;refine⟨⟨r,er,λb hb=>?_⟩,λb o q nb t=>?_,λb ps q=>?_⟩
     .have:b≠Da:=λz=>out6 (by rw[er,<- z];exact mem_append_right _ hb);rw[AJ this];exact fr b hb
     .by_cases hb:b=Da
      .subst hb;rw[Af]at q ⊢;exact q
      .rw[AJ hb]at q ⊢;exact x12.keep b o q nb t
     .by_cases hb:b=Da
      .subst hb;rw[Af]at q;cases q
      .rw[AJ hb]at q ⊢;exact x12.tab b ps q
    refine⟨ρ6,ls3,hd6,es++[z],zs,ext8,ext7,out6,Af,R7,?_,?_,by simp;omega,g6,e7,by simp⟩
    .have L6:=(L4.ext R3 x5).ext R5 x6;exact⟨L6.len,λi d e=>let ⟨v,a,b⟩:=L6.ob i d e;⟨v,a,by simpa using b.mono gr []⟩⟩
    .have:=((r2.ext R2 y26).app (.cons r6 .nil)).mono gr [];simpa using this
  .have e:i=ds.length:=by omega
   subst e;rw[drop_length]at hm2;unfold BL at hm2;cases hm2;refine .inl ⟨Y2 rfl,?_⟩;exact hQ ρ2 H2 Da ys (x1.trans R1 x2) R2 nD oD2 hD2 (by simpa using r2)
 .cases hm
end
mutual
def clD(w:Nat):D->Bool
 |.im _=>true
 |.mu n=>decide (n<w)
 |.tm ds=>B7 w ds
 |.ro _=>true
def B7(w:Nat):List D->Bool
 |[]=>true
 |d::ds=>clD w d&&B7 w ds
end
def G9(w:Nat):List (Key×D)->Bool
 |[]=>true
 |d::ds=>clD w d.2&&G9 w ds
def clO(w:Nat):MO->Bool
 |.lst ds=>B7 w ds
 |.dic ds=>G9 w ds
section
variable{K:PySem.W.Frag}{ρ ρ' ρ1:List Addr}{H H' H1:Hp}{hd hd' h1 h2:Hd}
@[simp] theorem ZP{w:Nat}(a b:List D):B7 w (a++b)=(B7 w a&&B7 w b):=by induction a<;>simp_all [B7,Bool.and_assoc]
mutual
theorem RD.take(w:Nat):∀{d:D} {v:V},RD K ρ H d v->clD w d=true->RD K (ρ.take w) H d v
 |.im i,v,h,_=>by simp only[RD]at h ⊢;exact h
 |.mu n,v,h,c=>by
  simp only[RD]at h ⊢;obtain⟨a,e,q⟩:=h;exact⟨a,by rw[List.getElem?_take_of_lt (by simpa [clD]using c)];exact e,q⟩
 |.tm ds,v,h,c=>by
  simp only[RD]at h ⊢;obtain⟨a,xs,e,q,z⟩:=h;exact⟨a,xs,e,q,RDs.take' w z (by simpa [clD]using c)⟩
 |.ro ns,v,h,c=>by simp only[RD]at h ⊢;exact h
theorem RDs.take'(w:Nat):∀{d:List D} {v:List V},RDs K ρ H d v->B7 w d=true->RDs K (ρ.take w) H d v
 |[],v,h,_=>by simpa only[RDs]using h
 |d::ds,v,h,c=>by
  simp only[RDs]at h ⊢;obtain⟨x,r',e,q,z⟩:=h;have c:clD w d=true/\B7 w ds=true:=by simpa [B7]using c
  exact⟨x,r',e,q.take w c.1,RDs.take' w z c.2⟩
end
theorem RKs.take(w:Nat):∀{d:List (Key×D)} {v:List (Key×V)},RKs K ρ H d v->G9 w d=true->RKs K (ρ.take w) H d v
 |[],v,h,_=>by simpa only[RKs]using h
 |d::ds,v,h,c=>by
  simp only[RKs]at h ⊢;obtain⟨x,r',e,q1,q,z⟩:=h;have c:clD w d.2=true/\G9 w ds=true:=by simpa [G9]using c
  exact⟨x,r',e,q1,q.take w c.1,RKs.take w z c.2⟩
theorem RC.take(w:Nat){o:MO}{ho:HO}(h:RC K ρ H o ho)(c:clO w o=true):RC K (ρ.take w) H o ho:=by
 cases o with
 |lst ds=>obtain⟨xs,e,q⟩:=h;exact⟨xs,e,q.take' w c⟩
 |dic ds=>obtain⟨xs,e,q⟩:=h;exact⟨xs,e,q.take w c⟩
theorem RH.take(h:RH K ρ H hd)(w:Nat)(c:(hd.take w).all (clO w)=true):RH K (ρ.take w) H (hd.take w):=by
 refine⟨by simp[h.len],h.nd.sublist (List.take_sublist _ _),h.tabs,λn o a e1 e2=>?_⟩;have co:=all_eq_true.mp c o (mem_of_getElem? e1);have hn:n<w:=by
  have:=(List.getElem?_eq_some_iff.mp e1).1;simp at this;omega
 rw[List.getElem?_take_of_lt hn]at e1 e2;obtain⟨ho,q1,q2⟩:=h.ob n o a e1 e2;exact⟨ho,q1,q2.take w co⟩
theorem RH.back(R1:RH K ρ1 H1 h1){w:Nat}(hw:w<=h1.length)(c1:(h1.take w).all (clO w)=true)(x:Ext (ρ1.take w) H1 ρ' H')(R':RH K ρ' H' h2)(c:(h2.take w).all (clO w)=true):
 RH K ρ1 H' (h2.take w++h1.drop w)/\Ext ρ1 H1 ρ1 H'/\ρ'.take w=ρ1.take w:=by
 obtain⟨r,rfl,fr⟩:=x.pre;have lw:(ρ1.take w).length=w:=by rw[length_take,R1.len];omega
 have l2:w<=h2.length:=by rw[<- R'.len];simp[lw]
 have tk:(ρ1.take w++r).take w=ρ1.take w:=by rw[List.take_append_of_le_length (by omega),List.take_take];simp
 refine⟨⟨?_,R1.nd,R'.tabs,λn o a e1 e2=>?_⟩,⟨⟨[],by simp,by simp⟩,λb o q nb t=>x.keep b o q (λm=>nb (List.mem_of_mem_take m)) t,x.tab⟩,tk⟩
 .rw[length_append,length_take,length_drop,R1.len];omega
 .by_cases hn:n<w
  .rw[List.getElem?_append_left (by rw[length_take];omega),List.getElem?_take_of_lt hn]at e1;have e3:(ρ1.take w++r)[n]?=some a:=by
    rw[List.getElem?_append_left (by omega),List.getElem?_take_of_lt hn];exact e2
   obtain⟨ho,q1,q2⟩:=R'.ob n o a e1 e3;have co:=all_eq_true.mp c o (by
    have:(h2.take w)[n]?=some o:=by rw[List.getElem?_take_of_lt hn];exact e1
    exact mem_of_getElem? this)
   have q3:=q2.take w co;rw[tk]at q3;have q4:=q3.mono (Grow.refl (H:=H')) (ρ1.drop w);rw[List.take_append_drop]at q4;exact⟨ho,q1,q4⟩
  .rw[List.getElem?_append_right (by rw[length_take];omega),length_take,List.getElem?_drop]at e1;have e1:h1[n]?=some o:=by
    have:w+(n-min w h2.length)=n:=by omega
    rw[this]at e1;exact e1
   obtain⟨ho,q1,q2⟩:=R1.ob n o a e1 e2;have out:a∉ρ1.take w:=λm=>by
    obtain⟨k,hk⟩:=mem_iff_getElem?.mp m;have kw:k<w:=by
     have:=(List.getElem?_eq_some_iff.mp hk).1;rw[lw]at this;exact this
    rw[List.getElem?_take_of_lt kw]at hk;have:=(List.getElem?_inj (List.getElem?_eq_some_iff.mp e2).1 R1.nd).mp (e2.trans hk.symm);omega
   have gr:=x.grow (R1.take w c1);exact⟨ho,x.keep a ho q1 out (λps z=>by rcases R1.mut (mem_of_getElem? e2)with⟨y,w⟩|⟨y,w⟩<;>(rw[q1,z]at w;cases w)),by simpa using q2.mono gr []⟩
def spF(K:PySem.W.Frag)(k:Nat)(F:List D->Hd->Option (D×Hd)):Sp:=λvs H Q _=>vs.length=k/\∃(ρ:List Addr) (hd:Hd) (ds:List D) (d:D) (hd':Hd),RH K ρ H hd/\RDs K ρ H ds vs/\F ds hd=some (d,hd')/\
 ∀ρ' H' v,Ext ρ H ρ' H'->RH K ρ' H' hd'->RD K ρ' H' d v->Q v H'
def mkF(k n:Nat)(m:MS):List D->Hd->Option (D×Hd):=λds hd=>if ds.length=k then(match m (ds.map some++List.replicate (n-k) none) hd with
 |some (.rt d,hd')=>some (d,hd')
 |some (.nx _,hd')=>some (.im .non,hd')
 | _=>none)else none
theorem Mk{N:List Str}:∀{ds:List D} {vs:List V},RDs K ρ H ds vs->RL K ρ H (ds.map some++List.replicate (N.length-ds.length) none) (E1 N vs):=by
 intro ds vs r;have hl:=r.len;refine⟨by simp[E1,hl],λi d e=>?_⟩;unfold E1;by_cases hi:i<ds.length
 .rw[List.getElem?_append_left (by simpa using hi),List.getElem?_map]at e;have e':ds[i]?=some d:=by
   cases q:ds[i]? with
   |none=>rw[q]at e;cases e
   |some z=>rw[q]at e;simpa using e
  obtain⟨x,x1,x2⟩:=r.get e';exact⟨x,by rw[List.getElem?_append_left (by rw[length_map,hl];exact hi),List.getElem?_map,x1];rfl,x2⟩
 .rw[List.getElem?_append_right (by simpa using Nat.not_lt.mp hi),List.getElem?_replicate]at e;split at e<;>cases e
theorem Nn{k:Nat}{N:List Str}{m:MS}{t:TS}(h:RS K t m){vs:List V}{H:Hp}{Q:VK}{E:XK}(s:spF K k (mkF k N.length m) vs H Q E):t { nx:=λ_ H'=>Q .non H',rt:=Q } (E1 N vs) H:=by
 obtain⟨hk,ρ,hd,ds,d,hd',hR,hr,hF,hQ⟩:=s;unfold mkF at hF;split at hF
 .next hl=>
  subst hl;split at hF
  .next q=>
   cases hF;exact h ρ _ H hd _ _ _ _ hR (Mk hr) q λρ' H' x R v r=>hQ ρ' H' v x R r
  .next q=>
   cases hF;exact h ρ _ H hd _ _ _ _ hR (Mk hr) q λρ' H' x R σ L=>hQ ρ' H' .non x R (by simp[RD,RI])
  .cases hF
 .cases hF
def GP(F:List D->Hd->Option (D×Hd))(ma:MA):ME:=λls hd=>(ma ls hd).bind λp=>F p.1 p.2
theorem Sd{k:Nat}{F:List D->Hd->Option (D×Hd)}{t:TA}{m:MA}(h:RA K t m)(hk:∀ds hd z,F ds hd=some z->ds.length=k):RE K (IK (spF K k F) [] E0 t) (GP F m):=by
 intro ρ σ H hd ls Q d hd' hR hL hm hQ;obtain⟨⟨d1,h1⟩,e1,hm⟩:=fK hm;refine h ρ σ H hd ls _ d1 h1 hR hL e1 λρ1 H1 v1 x1 R1 r1=>?_;rw[append_nil];exact⟨by rw[r1.len];exact hk _ _ _ hm,ρ1,h1,d1,d,hd',R1,r1,hm,λρ' H' w x2 R2 r2=>hQ ρ' H' w (x1.trans R1 x2) R2 r2⟩
theorem AI{k n:Nat}{m:MS}:∀ds hd z,mkF k n m ds hd=some z->ds.length=k:=λds hd z h=>by
 unfold mkF at h;split at h
 .next e=>exact e
 .cases h
def fin(w:Nat)(d:D)(h2 rest:Hd):Option (D×Hd):=if(h2.take w).all (clO w)=true then(match d with
 | .mu k=>if k<w then some (.mu k,h2.take w++rest)else(match h2[k]? with
  |some (.lst ds)=>if B7 w ds=true then some (.mu (w+rest.length),h2.take w++rest++[.lst ds])else none
  | _=>none)
 | d=>if clD w d=true then some (d,h2.take w++rest)else none)else none
def A9(w:Nat)(F:List D->Hd->Option (D×Hd))(ma:MA):ME:=λls hd=>(ma ls hd).bind λp=>
 if w<=p.2.length/\B7 w p.1=true/\(p.2.take w).all (clO w)=true then(F p.1 (p.2.take w)).bind λr=>fin w r.1 r.2 (p.2.drop w)else none
theorem Sc{w k:Nat}{F:List D->Hd->Option (D×Hd)}{t:TA}{m:MA}(h:RA K t m)(hk:∀ds hd z,F ds hd=some z->ds.length=k):RE K (IK (spF K k F) [] E0 t) (A9 w F m):=by
 intro ρ σ H hd ls Q d hd' hR hL hm hQ;obtain⟨⟨d1,h1⟩,e1,hm⟩:=fK hm;dsimp only at hm;split at hm
 .next c=>
  obtain⟨c0,c1,c2⟩:=c;obtain⟨⟨d2,h2⟩,e2,hm⟩:=fK hm;refine h ρ σ H hd ls _ d1 h1 hR hL e1 λρ1 H1 v1 x1 R1 r1=>?_;rw[append_nil];refine⟨by rw[r1.len];exact hk _ _ _ e2,ρ1.take w,h1.take w,d1,d2,h2,R1.take w c2,r1.take' w c1,e2,λρ' H' v x2 R2 r2=>?_⟩;unfold fin at hm;dsimp only at hm;split at hm
  .next c3=>
   obtain⟨R3,x3,tk⟩:=R1.back c0 c2 x2 R2 c3;have up:∀{d:D} {v:V},RD K ρ' H' d v->clD w d=true->RD K ρ1 H' d v:=λr c=>by
    have q:=r.take w c;rw[tk]at q;have q:=q.mono (Grow.refl (H:=H')) (ρ1.drop w);rw[List.take_append_drop]at q;exact q
   have ups:∀{d:List D} {v:List V},RDs K ρ' H' d v->B7 w d=true->RDs K ρ1 H' d v:=λr c=>by
    have q:=r.take' w c;rw[tk]at q;have q:=q.mono (Grow.refl (H:=H')) (ρ1.drop w);rw[List.take_append_drop]at q;exact q
   split at hm
   .next k'=>
    split at hm
    .next hk'=>
     cases hm;exact hQ ρ1 H' v (x1.trans R1 x3) R3 (up r2 (by simpa [clD]using hk'))
    .next hk'=>
     split at hm
     .next ds q=>
      split at hm
      .next c4=>
       cases hm;simp only[RD]at r2;obtain⟨a,ea,rfl⟩:=r2;obtain⟨xs,l1,l2⟩:=R2.lst ea q;have len3:=R3.len;have out:a∉ρ1:=λm=>by
        -- a is one of those made behind the first w
        obtain⟨r,er,fr⟩:=x2.pre;have lw:(ρ1.take w).length=w:=by rw[length_take,R1.len];omega
        have ma:a∈r:=by
         rw[er,List.getElem?_append_right (by rw[lw];omega)]at ea;exact mem_of_getElem? ea
        exact R1.out (fr a ma) m
       have na:H1 a=none:=by
        obtain⟨r,er,fr⟩:=x2.pre;have lw:(ρ1.take w).length=w:=by rw[length_take,R1.len];omega
        have ma:a∈r:=by
         rw[er,List.getElem?_append_right (by rw[lw];omega)]at ea;exact mem_of_getElem? ea
        exact fr a ma
       refine hQ (ρ1++[a]) H' _ (x1.trans R1 (x3.name na)) (R3.name out l1 (ups l2 c4)) ?_;simp only[RD];refine⟨a,?_,rfl⟩;have:w+(List.drop w h1).length=ρ1.length:=by rw[length_drop,R1.len];omega
       rw[this];simp
      .cases hm
     .cases hm
   .next d' nd=>
    split at hm
    .next c4=>cases hm;exact hQ ρ1 H' v (x1.trans R1 x3) R3 (up r2 c4)
    .cases hm
  .cases hm
 .cases hm
def DN(kvs:List (Key×D))(k:Key):Option D:=(kvs.find? λkv=>decide (kv.1=k)).map (·.2)
def EU(kvs:List (Key×D))(k:Key)(v:D):List (Key×D):=
 if(kvs.any λkv=>decide (kv.1=k))=true then kvs.map (λkv=>if kv.1=k then(kv.1,v)else kv)else kvs++[(k,v)]
theorem RKs.val:∀{kvs:List (Key×D)} {xs:List (Key×V)} {k:Key} {d:D},RKs K ρ H kvs xs->DN kvs k=some d->∃v,Ef xs k=some v/\RD K ρ H d v
 |[],xs,k,d,h,e=>by simp[DN]at e
 |p::kvs,xs,k,d,h,e=>by
  simp only[RKs]at h;obtain⟨x,r,rfl,e1,r1,r2⟩:=h;by_cases hk:p.1=k
  .rw[FX (e1.trans hk)];simp[DN,find?_cons,hk]at e;subst e;exact⟨_,rfl,r1⟩
  .rw[FY (by rw[e1];exact hk)];simp only[DN,find?_cons,hk,decide_false]at e;exact RKs.val r2 e
theorem RKs.valN:∀{kvs:List (Key×D)} {xs:List (Key×V)} {k:Key},RKs K ρ H kvs xs->(Ef xs k).isSome=(DN kvs k).isSome
 |[],xs,k,h=>by simp only[RKs]at h;subst h;rfl
 |p::kvs,xs,k,h=>by
  simp only[RKs]at h;obtain⟨x,r,rfl,e1,r1,r2⟩:=h;by_cases hk:p.1=k
  .rw[FX (e1.trans hk)];simp[DN,find?_cons,hk]
  .rw[FY (by rw[e1];exact hk)];simp only[DN,find?_cons,hk,decide_false];exact RKs.valN r2
theorem RKs.any:∀{kvs:List (Key×D)} {xs:List (Key×V)} {k:Key},RKs K ρ H kvs xs->(xs.any λkv=>decide (kv.1=k))=(kvs.any λkv=>decide (kv.1=k))
 |[],xs,k,h=>by simp only[RKs]at h;subst h;rfl
 |p::kvs,xs,k,h=>by
  simp only[RKs]at h;obtain⟨x,r,rfl,e1,r1,r2⟩:=h;simp only[any_cons,e1,RKs.any r2]
theorem RKs.upd:∀{kvs:List (Key×D)} {xs:List (Key×V)} {k:Key} {d:D} {v:V},RKs K ρ H kvs xs->RD K ρ H d v->RKs K ρ H (kvs.map (λkv=>if kv.1=k then(kv.1,d)else kv)) (xs.map (λkv=>if kv.1=k then(kv.1,v)else kv))
 |[],xs,k,d,v,h,_=>by simp only[RKs]at h;subst h;simp[RKs]
 |p::kvs,xs,k,d,v,h,q=>by
  simp only[RKs]at h;obtain⟨x,r,rfl,e1,r1,r2⟩:=h;simp only[map_cons,RKs];refine⟨_,_,rfl,?_,?_,RKs.upd r2 q⟩
  .rw[e1];split<;>simp[e1]
  .rw[e1];split
   .exact q
   .exact r1
theorem RKs.app:∀{kvs ks:List (Key×D)} {xs ys:List (Key×V)},RKs K ρ H kvs xs->RKs K ρ H ks ys->RKs K ρ H (kvs++ks) (xs++ys)
 |[],ks,xs,ys,h,t=>by simp only[RKs]at h;subst h;simpa using t
 |d::ds,ks,xs,ys,h,t=>by
  simp only[RKs]at h;obtain⟨x,r,rfl,e,z,q⟩:=h;simp only[cons_append,RKs];exact⟨_,_,rfl,e,z,q.app t⟩
theorem RKs.put{kvs:List (Key×D)}{xs:List (Key×V)}{k:Key}{d:D}{v:V}(h:RKs K ρ H kvs xs)(q:RD K ρ H d v):RKs K ρ H (EU kvs k d) (Cr xs k v):=by
 unfold EU Cr;rw[h.any];split
 .exact h.upd q
 .exact h.app (by simp only[RKs];exact⟨_,_,rfl,rfl,q,rfl⟩)
def Ej:D->Option Key
 |.im (.int i)=>some (.inl i)
 |.im (.str x)=>some (.inr x)
 |_=>none
theorem Kx{d:D}{v:V}{k:Key}(h:RD K ρ H d v)(e:Ej d=some k):v=kV k:=by
 cases d with
 |im i=>
  cases i with
  |int i=>simp only[Ej,Option.some.injEq]at e;subst e;simp only[RD,RI]at h;exact h
  |str i=>simp only[Ej,Option.some.injEq]at e;subst e;simp only[RD,RI]at h;exact h
  |_=>simp[Ej]at e
 |_=>simp[Ej]at e
def FU(hd:Hd):D->Option (List (Key×D))
 |.mu n=>match hd[n]? with
  |some (.dic kvs)=>some kvs
  |_=>none
 |_=>none
theorem RD.dic{d:D}{v:V}{kvs:List (Key×D)}(hR:RH K ρ H hd)(h:RD K ρ H d v)(e:FU hd d=some kvs):∃n a xs,d=.mu n/\v=.ref a/\ρ[n]?=some a/\H a=some (.dK xs)/\RKs K ρ H kvs xs:=by
 cases d with
 |mu n=>
  simp only[FU]at e;simp only[RD]at h;obtain⟨a,hn,rfl⟩:=h;split at e
  .next q=>
   cases e;obtain⟨xs,e1,e2⟩:=hR.dic hn q;exact⟨n,a,xs,rfl,rfl,hn,e1,e2⟩
  .cases e
 |_=>simp[FU]at e
def CT:D->D->Hd->Option (D×Hd):=λd e hd=>(FU hd d).bind λkvs=>(Ej e).bind λk=>(DN kvs k).map (·,hd)
theorem Ut{td ty:TE}{md my:ME}(hd:RE K td md)(hy:RE K ty my):RE K (Om td ty) (mOp CT md my):=by
 intro ρ σ H hd0 ls Q d hd' hR hL hm hQ;obtain⟨⟨d1,h1⟩,e1,hm⟩:=fK hm;obtain⟨⟨d2,h2⟩,e2,hm⟩:=fK hm;obtain⟨kvs,e3,hm⟩:=fK hm;obtain⟨k,e4,hm⟩:=fK hm;obtain⟨w,e5,e6⟩:=fL hm;cases e6;refine hd ρ σ H hd0 ls _ d1 h1 hR hL e1 λρ1 H1 v1 x1 R1 r1=>?_;refine hy ρ1 σ H1 h1 ls _ d2 _ R1 (hL.ext hR x1) e2 λρ2 H2 v2 x2 R2 r2=>?_;obtain⟨n,a,xs,rfl,rfl,hn,l1,l2⟩:=RD.dic R2 (r1.ext R1 x2) e3;have:=Kx r2 e4;subst this;obtain⟨v,v1,v2⟩:=l2.val e5;exact⟨a,v,rfl,v1 ▸ DGet.k l1,hQ ρ2 H2 v (x1.trans R1 x2) R2 v2⟩
open Classical in
def EY(md my mv:ME):MS:=λls hd=>(mv ls hd).bind λp=>(md ls p.2).bind λq=>(my ls q.2).bind λr=>(Ej r.1).bind λk=>match q.1 with
 |.mu n=>match r.2[n]? with
  |some (.dic kvs)=>if E4 kvs.length then some (.nx ls,r.2.set n (.dic (EU kvs k p.1)))else none
  |_=>none
 |_=>none
theorem Ue{td ty tv:TE}{md my mv:ME}(hd:RE K td md)(hy:RE K ty my)(hv:RE K tv mv):RS K (Ou td ty tv) (EY md my mv):=by
 intro ρ σ H hd0 ls E f hd' hR hL hm hQ;obtain⟨⟨d1,h1⟩,e1,hm⟩:=fK hm;obtain⟨⟨d2,h2⟩,e2,hm⟩:=fK hm;obtain⟨⟨d3,h3⟩,e3,hm⟩:=fK hm;obtain⟨k,e4,hm⟩:=fK hm;dsimp only at hm;split at hm
 .split at hm
  .next q=>
   split at hm
   .next c=>
    cases hm;refine hv ρ σ H hd0 ls _ d1 h1 hR hL e1 λρ1 H1 v1 x1 R1 r1=>?_;refine hd ρ1 σ H1 h1 ls _ _ h2 R1 (hL.ext hR x1) e2 λρ2 H2 v2 x2 R2 r2=>?_;refine hy ρ2 σ H2 h2 ls _ d3 _ R2 (hL.ext hR (x1.trans R1 x2)) e3 λρ3 H3 v3 x3 R3 r3=>?_;have r2:=r2.ext R2 x3;simp only[RD]at r2;obtain⟨a,hn,rfl⟩:=r2;obtain⟨xs,l1,l2⟩:=R3.dic hn q;have:=Kx r3 e4;subst this;obtain⟨R4,x4⟩:=R3.put hn (o:=.dic (EU _ k d1)) (ho:=.dK (Cr xs k v1)) ⟨_,rfl,l2.put ((r1.ext R1 x2).ext R2 x3)⟩;have x13:=(x1.trans R1 x2).trans R2 x3;exact⟨a,_,rfl,DPut.k l1 (by rw[l2.len];exact c),hQ ρ3 _ (x13.trans R3 x4) R4 σ ((hL.ext hR x13).ext R3 x4)⟩
   .cases hm
  .cases hm
 .cases hm
def F9:List (ME×ME)->Ls->Hd->Option (List (Key×D)×Hd)
 |[],_,hd=>some ([],hd)
 |(mk,mv)::r,ls,hd=>(mk ls hd).bind λp=>(mv ls p.2).bind λq=>(F9 r ls q.2).bind λz=>(Ej p.1).map λk=>((k,q.1)::z.1,z.2)
def GM(kvs more:List (Key×D)):List (Key×D):=more.foldl (λacc kv=>EU acc kv.1 kv.2) kvs
theorem RKs.merge:∀{more kvs:List (Key×D)} {ms xs:List (Key×V)},RKs K ρ H more ms->RKs K ρ H kvs xs->RKs K ρ H (GM kvs more) (F8 xs ms)
 |[],kvs,ms,xs,h,t=>by simp only[RKs]at h;subst h;exact t
 |d::ds,kvs,ms,xs,h,t=>by
  simp only[RKs]at h;obtain⟨x,r,rfl,e,z,q⟩:=h;show RKs K ρ H (GM (EU kvs d.1 d.2) ds) (F8 (Cr xs x.1 x.2) r);rw[e];exact q.merge (t.put z)
def RPs(K:PySem.W.Frag):List (TE×TE)->List (ME×ME)->Prop
 |[],[]=>True
 |t::ts,m::ms=>RE K t.1 m.1/\RE K t.2 m.2/\RPs K ts ms
 |_,_=>False
theorem Mx:∀{trs:List (TE×TE)} {ms:List (ME×ME)},RPs K trs ms->∀(ρ:List Addr) (σ:St) (H:Hp) (hd:Hd) (ls:Ls) (Q:List (V×V)->Hp->Prop) (kvs:List (Key×D)) (hd':Hd),RH K ρ H hd->RL K ρ H ls σ->F9 ms ls hd=some (kvs,hd') ->
 (∀ρ' H' xs,Ext ρ H ρ' H'->RH K ρ' H' hd'->RKs K ρ' H' kvs xs->Q (xs.map λkv=>(kV kv.1,kv.2)) H')->HU trs σ H Q
 |[],[],_,ρ,σ,H,hd,ls,Q,kvs,hd',hR,hL,hm,hQ=>by
  cases hm;exact hQ ρ H [] .refl hR (by simp[RKs])
 |(tk,tv)::ts,(mk,mv)::ms,⟨a,b,c⟩,ρ,σ,H,hd,ls,Q,kvs,hd',hR,hL,hm,hQ=>by
   unfold F9 at hm;obtain⟨⟨d1,h1⟩,e1,hm⟩:=fK hm;obtain⟨⟨d2,h2⟩,e2,hm⟩:=fK hm;obtain⟨⟨d3,h3⟩,e3,hm⟩:=fK hm;obtain⟨k,e4,e5⟩:=fL hm;cases e5;unfold HU;refine a ρ σ H hd ls _ d1 h1 hR hL e1 λρ1 H1 v1 x1 R1 r1=>?_;refine b ρ1 σ H1 h1 ls _ d2 h2 R1 (hL.ext hR x1) e2 λρ2 H2 v2 x2 R2 r2=>?_;refine Mx c ρ2 σ H2 h2 ls _ d3 _ R2 (hL.ext hR (x1.trans R1 x2)) e3 λρ3 H3 xs x3 R3 r3=>?_;have:=Kx r1 e4;subst this;exact hQ ρ3 H3 ((k,v2)::xs) ((x1.trans R1 x2).trans R2 x3) R3 (by simp only[RKs];exact⟨_,_,rfl,rfl,r2.ext R2 x3,r3⟩)
 |[],_::_,h,_,_,_,_,_,_,_,_,_,_,_,_=>h.elim
 |_::_,[],h,_,_,_,_,_,_,_,_,_,_,_,_=>h.elim
def KB(ms:List (ME×ME)):ME:=λls hd=>(F9 ms ls hd).bind λp=>if p.1.length<=15 then some (.mu p.2.length,p.2++[.dic (GM [] p.1)])else none
theorem RH.nameD(hR:RH K ρ H hd){a:Addr}{xs:List (Key×V)}{kvs:List (Key×D)}(out:a∉ρ){o:HO}(e:H a=some o)(ht:∀ys,o≠.tup ys)(hf:∀x u,o≠.frz x u)(r:RKs K ρ H kvs xs)(h1:∀ps,o≠.tbl ps:=by intro _ z;cases z)(h2:∀φ,o≠.ext φ:=by intro _ z;cases z):RH K (ρ++[a]) (upd H a (.dK xs)) (hd++[.dic kvs]):=by
 have gr:Grow H (upd H a (.dK xs)):=Grow.refl.put ⟨λys z=>ht ys (by rw[e]at z;exact Option.some.inj z),λx u z=>hf x u (by rw[e]at z;exact Option.some.inj z)⟩;refine⟨by simp[hR.len],?_,hR.tabs.upd (λps z=>h1 ps (Option.some.inj (e.symm.trans z))) (λps z=>h2 ps (Option.some.inj (e.symm.trans z))),λn o' b e1 e2=>?_⟩
 .rw[List.nodup_append];refine⟨hR.nd,by simp,λx hx y hy z=>?_⟩;simp at hy;subst hy;subst z;exact out hx
 .by_cases hn:n<ρ.length
  .rw[List.getElem?_append_left hn]at e2;rw[List.getElem?_append_left (by rw[<- hR.len];exact hn)]at e1;obtain⟨ho',q1,q2⟩:=hR.ob n o' b e1 e2;have:b≠a:=λz=>out (by rw[<- z];exact mem_of_getElem? e2);exact⟨ho',by rw[AJ this];exact q1,q2.mono gr [a]⟩
  .have hn':n=ρ.length:=by
    have:=(List.getElem?_eq_some_iff.mp e2).1;simp at this;omega
   subst hn';simp at e2;rw[hR.len]at e1;simp at e1;subst e1;subst e2;exact⟨_,Af,⟨xs,rfl,r.mono gr [_]⟩⟩
theorem Us{trs:List (TE×TE)}{ms:List (ME×ME)}(h:RPs K trs ms):RE K (Ol trs) (KB ms):=by
 intro ρ σ H hd ls Q d hd' hR hL hm hQ;obtain⟨⟨kvs,h1⟩,e1,hm⟩:=fK hm;dsimp only at hm;split at hm
 .next c=>
  cases hm;intro p hp;obtain⟨R0,x0⟩:=hR.hid (ho:=.dK []) hp;refine Mx h ρ σ _ hd ls _ kvs h1 R0 (hL.ext hR x0) e1 λρ1 H1 xs x1 R1 r1=>?_;have hp1:H1 p=some (.dK []):=x1.keep p _ Af (hR.out hp) nt;have op:p∉ρ1:=by
   obtain⟨r,rfl,fr⟩:=x1.pre;intro z;rcases mem_append.mp z with z|z
   .exact hR.out hp z
   .have:=fr _ z;rw[Af]at this;cases this
  refine⟨hp1,xs,rfl,by rw[r1.len];exact c,?_⟩;have mm:RKs K ρ1 H1 (GM [] kvs) (F8 [] xs):=r1.merge (by simp[RKs]);have R2:=R1.nameD op hp1 (λ_ z=>by cases z) (λ_ _ z=>by cases z) mm;have x01:=x0.trans R0 x1;refine hQ (ρ1++[p]) _ _ ?_ R2 ?_
  .obtain⟨r,er,fr⟩:=x01.pre;refine⟨⟨r++[p],by rw[er];simp,λb m=>?_⟩,λb o q nb t=>?_,λb ps q=>?_⟩
   .rcases mem_append.mp m with m|m
    .exact fr b m
    .simp at m;subst m;exact hp
   .have:b≠p:=Ak q hp;rw[AJ this];exact x01.keep b o q nb t
   .have:b≠p:=Ak q hp;rw[AJ this];exact x01.tab b ps q
  .simp only[RD];exact⟨p,by rw[<- R1.len];simp,rfl⟩
 .cases hm
def Fu(mo mi mv:ME):MS:=λls hd=>(mv ls hd).bind λp=>(mo ls p.2).bind λq=>(mi ls q.2).bind λr=>match q.1,r.1 with
 |.mu n,.im (.int i)=>match r.2[n]? with
  |some (.lst ds)=>(ixN ds.length i).map λj=>(.nx ls,r.2.set n (.lst (ds.set j p.1)))
  |_=>none
 |_,_=>none
theorem Ub{to ti tv:TE}{mo mi mv:ME}(ho:RE K to mo)(hi:RE K ti mi)(hv:RE K tv mv):RS K (Gc tv (TM to ti Js)) (Fu mo mi mv):=by
 intro ρ σ H hd0 ls E f hd' hR hL hm hQ;obtain⟨⟨d1,h1⟩,e1,hm⟩:=fK hm;obtain⟨⟨d2,h2⟩,e2,hm⟩:=fK hm;obtain⟨⟨d3,h3⟩,e3,hm⟩:=fK hm;dsimp only at hm;split at hm
 .split at hm
  .next q=>
   obtain⟨j,e4,e5⟩:=fL hm;cases e5;refine hv ρ σ H hd0 ls _ d1 h1 hR hL e1 λρ1 H1 v1 x1 R1 r1=>?_;refine ho ρ1 σ H1 h1 ls _ _ h2 R1 (hL.ext hR x1) e2 λρ2 H2 v2 x2 R2 r2=>?_;refine hi ρ2 σ H2 h2 ls _ _ _ R2 (hL.ext hR (x1.trans R1 x2)) e3 λρ3 H3 v3 x3 R3 r3=>?_;have r2:=r2.ext R2 x3;simp only[RD]at r2;obtain⟨a,hn,rfl⟩:=r2;simp only[RD,RI]at r3;subst r3;obtain⟨xs,l1,l2⟩:=R3.lst hn q;obtain⟨R4,x4⟩:=R3.put hn (o:=.lst _) (ho:=.lst (xs.set j v1)) ⟨_,rfl,l2.set j ((r1.ext R1 x2).ext R2 x3)⟩;have x13:=(x1.trans R1 x2).trans R2 x3;exact⟨a,xs,_,j,rfl,rfl,l1,by rw[l2.len];exact e4,hQ ρ3 _ (x13.trans R3 x4) R4 σ ((hL.ext hR x13).ext R3 x4)⟩
  .cases hm
 .cases hm
end
end L2
namespace L2
open PySem PySem.Spec PyProof.Rows
structure QG(K:PySem.W.Frag)(X:Cx)(e:Expr)(t:TG)(m:MG):Prop where
 p:PG X e t
 r:RGt K t m
structure QGs(K:PySem.W.Frag)(X:Cx)(e:List Expr)(t:TGs)(m:MGs):Prop where
 p:PGs X e t
 r:NV K t m
structure QI(K:PySem.W.Frag)(X:Cx)(tg e:Expr)(t:TI)(m:MI):Prop where
 p:PI X tg e t
 r:RIt K t m
structure QF(K:PySem.W.Frag)(X:Cx)(e:List Expr)(t:TT)(m:MT):Prop where
 p:PF X e t
 r:RT K t m
structure QO(K:PySem.W.Frag)(X:Cx)(e:Option Expr)(t:TO)(m:MO1):Prop where
 p:PO X e t
 r:RO1 K t m
structure QPs(K:PySem.W.Frag)(X:Cx)(pos:Pos)(keys:List (Option Expr))(values:List Expr)(t:List (TE×TE))(m:List (ME×ME)):Prop where
 p:PPs X pos keys values t
 r:RPs K t m
def Pm(a b:List D):Prop:=a≠[]/\CM (a.length+b.length)
open Classical in
def FL:D->D->Hd->Option (D×Hd):=λd e hd=>(Ao d).bind λa=>(Ao e).bind λb=>if Pm a b then some (Av (a++b),hd)else none
theorem Ab{K:PySem.W.Frag}:RB K (P1 K) FL:=by
 intro ρ H hd d e v u Q z hd' hR h1 h2 hf hQ;unfold FL at hf;obtain⟨a,e1,hf⟩:=fK hf;obtain⟨b,e2,hf⟩:=fK hf;split at hf
 .next c=>
  cases hf;obtain⟨p,xs,rfl,q1,r1⟩:=h1.tup e1;obtain⟨p2,ys,rfl,q2,r2⟩:=h2.tup e2;have l1:=r1.len;have l2:=r2.len;refine⟨p,p2,xs,ys,rfl,rfl,q1,q2,λz=>c.1 (by rw[z]at l1;simpa using l1.symm),by rw[l1,l2];exact c.2,λz=>?_,λ_ p3 hp=>?_⟩
  .have:b=[]:=by rw[z]at l2;simpa using l2.symm
   subst this;exact hQ ρ H _ .refl hR (by rw[append_nil];exact CF q1 r1)
  .obtain⟨R2,x2⟩:=hR.hid (ho:=.tup (xs++ys)) hp;exact hQ ρ _ _ x2 R2 (CF (SqT.of Af) ((r1.app r2).ext hR x2))
 .cases hf
abbrev AW:=HA Gx FL
def ZG(neg:Bool)(m:ME):ME:=λls hd=>(m ls hd).bind λp=>some (.im (.bl (match p.1 with
 |.im .non=>!neg
 | _=>neg)),p.2)
def Kw(m:ME):ME:=λls hd=>(m ls hd).bind λp=>match p.1 with
 |.im (.int i)=>some (.im (.int (-i)),p.2)
 |_=>none
theorem Ws{K:PySem.W.Frag}{t:TE}{m:ME}(h:RE K t m):RE K (tUn (rU λi=>.int (-i)) t) (Kw m):=by
 intro ρ σ H hd ls Q d hd' hR hL hm hQ;obtain⟨⟨d1,h1⟩,e1,hm⟩:=fK hm;dsimp only at hm;split at hm
 .cases hm;exact h ρ σ H hd ls _ _ _ hR hL e1 λρ1 H1 v x1 R1 r1=>⟨_,by simpa only[RD,RI]using r1,hQ ρ1 H1 _ x1 R1 (by simp[RD,RI])⟩
 .cases hm
def Bg:MT:=λ_ hd=>some (true,hd)
theorem WZ{K:PySem.W.Frag}:RT K S7 Bg:=by
 intro ρ σ H hd ls Q d hd' hR hL hm hQ;cases hm;exact hQ ρ H .refl hR
section
variable(K:PySem.W.Frag){X:Cx}{a b c e:Expr}{es:List Expr}{ta tb tc te:TE}{ma mb mc me:ME}{tA tB':TT}{nA nB:MT}{t:TA}{m:MA}{pos:Pos}{x:Str}
theorem qv(i:Nat){x:Str}{pos:Pos}(hN:X.N[i]?=some x:=by rfl)(hv:Vis X.env.scope x:=by first|exact Or.inl rfl|exact Or.inr (Or.inl rfl)|exact Or.inr (Or.inr rfl))(hd:(x==("__debug__":Str))=false:=by decide)
 (hcd:(x==("__classdict__":Str))=false:=by decide):QE K X (.Name x pos) (S8 i) (A0 i):=⟨XH hN hv hd hcd,Wo⟩
theorem A8{i:Int}{j pos}:QE K X (.Constant (.int i) j pos) (tC (.int i)) (mC (.int i)):=⟨XR,Se λ_=>by simp[RI]⟩
theorem Dc{i:Bool}{j pos}:QE K X (.Constant (.bool i) j pos) (tC (.bl i)) (mC (.bl i)):=⟨YX,Se λ_=>by simp[RI]⟩
theorem At{x:Str}{j pos}:QE K X (.Constant (.str x) j pos) (tC (.str x)) (mC (.str x)):=⟨XJ,Se λ_=>by simp[RI]⟩
theorem AQ{op:Operator}{r:R2}{f:D->D->Hd->Option (D×Hd)}(ho:OpR X (binaryOp op) r)(hr:RB K r f)(ha:QE K X a ta ma)(hb:QE K X b tb mb):QE K X (.BinOp a op b pos) (tOp r ta tb) (mOp f ma mb):=⟨U1 ho ha.p hb.p,Lz hr ha.r hb.r⟩
theorem Qe(ha:QE K X a ta ma):QE K X (.UnaryOp .USub a pos) (tUn (rU λi=>.int (-i)) ta) (Kw ma):=⟨YV WH ha.p,Ws ha.r⟩
theorem ET{op:CmpOp}{r:R2}{f:D->D->Hd->Option (D×Hd)}(ho:OpR X (compareOp op) r)(hr:RB K r f)(ha:QE K X a ta ma)(hb:QE K X b tb mb)(hm:behindInMarks op b=false:=by first|exact GL _|rfl):QE K X (.Compare a [op] [b] pos) (tOp r ta tb) (mOp f ma mb):=⟨O4 ho ha.p hb.p hm,Lz hr ha.r hb.r⟩
theorem Ar{op:CmpOp}{r:R2}{f:D->D->Hd->Option (D×Hd)}(ho:OpR X (compareOp op) r)(hr:RB K r f)(ha:QE K X a ta ma)(hb:QE K X b tb mb)(hm:behindInMarks op b=false:=by first|exact GL _|rfl):QT K X (.Compare a [op] [b] pos) (IJ (tOp r ta tb)) (AU (mOp f ma mb)):=⟨IV ho ha.p hb.p hm,FO (Lz hr ha.r hb.r)⟩
theorem CH(ha:QE K X a ta ma)(he:∀whole,isTrue a X.env whole=(do let v <- whole;standAt a.pos;holding [v] (truthy v)):=by intro _;rfl)(hK:X.K=K:=by rfl):
 QT K X a (λσ H Q=>ta σ H λx H'=>∃k,NT K x H' k/\Q k H') (DH ma):=by
 subst hK;exact⟨So ha.p he,SQ ha.r⟩
theorem ES(ha:QT K X a tA nA):QT K X (.UnaryOp .Not a pos) (SD tA) (Ei nA):=⟨X5 ha.p,Wa ha.r⟩
theorem GG(ha:QT K X a tA nA):QW K X (.BoolOp .And [a] pos) tA nA:=⟨V4 ha.p,ha.r⟩
theorem Ju(ha:QT K X a tA nA):QW K X (.BoolOp .Or [a] pos) tA nA:=⟨X3 ha.p,ha.r⟩
theorem Ha{rest:List Expr}(ha:QT K X a tA nA)(hb:QW K X (.BoolOp .And (b::rest) pos) tB' nB):QW K X (.BoolOp .And (a::b::rest) pos) (SI tA tB') (Gp nA nB):=⟨X4 ha.p hb.p,Wb ha.r hb.r⟩
theorem Jv{rest:List Expr}(ha:QT K X a tA nA)(hb:QW K X (.BoolOp .Or (b::rest) pos) tB' nB):QW K X (.BoolOp .Or (a::b::rest) pos) (tOr tA tB') (mOr nA nB):=⟨YS ha.p hb.p,YL ha.r hb.r⟩
theorem QW.toT{K:PySem.W.Frag}{X:Cx}{e:Expr}{t:TT}{m:MT}(h:QW K X e t m):QT K X e t m:=⟨h.p.pt,h.r⟩
theorem GI{op}(ha:QE K X a ta ma):QE K X (.BoolOp op [a] pos) ta ma:=⟨XM ha.p,ha.r⟩
theorem GJ{rest:List Expr}(ha:QE K X a ta ma)(hb:QE K X (.BoolOp .And (b::rest) pos) tb mb):QE K X (.BoolOp .And (a::b::rest) pos) (Oo ta tb) (Eu ma mb):=⟨XS ha.p hb.p,Uu ha.r hb.r⟩
theorem X2(ha:QE K X a ta ma):QE K X (.UnaryOp .Not a pos) (Oh ta) (K8 ma):=⟨XN ha.p,Uq ha.r⟩
theorem Fc(hc:QT K X c tA nA)(ha:QE K X a ta ma)(hb:QE K X b tb mb):QE K X (.IfExp c a b pos) (tIf tA ta tb) (mIf nA ma mb):=⟨Sz hc.p ha.p hb.p,YQ hc.r ha.r hb.r⟩
theorem A6:QA K X [] E6 A4:=⟨F6,Wx⟩
theorem A2(ha:QE K X e te me)(hr:QA K X es t m)(hs:starEach (e::es) X.env=(false,eval e X.env)::starEach es X.env:=by rfl):QA K X (e::es) (CP te t) (A1 me m):=⟨Dd ha.p hr.p hs,Uv ha.r hr.r⟩
theorem B6{x1}(h:QA K X es t m):QE K X (.Tuple es x1 pos) (S9 t) (B2 m):=⟨XI h.p,Wp h.r⟩
theorem BY(h:QA K X es t m):QN K X (.List es pos) (SE t) (BF m):=⟨XO h.p,Wh h.r⟩
theorem BR(h:QN K X e te m):QE K X e te (BN m):=⟨h.p,QV h.r⟩
theorem Ad(ha:QE K X a ta ma)(hb:QE K X b tb mb)(hs:LH b:=by exact λ_ _=>rfl)(hK:X.K=K:=by rfl):QE K X (.Subscript a b pos) (tOp (M1 K) ta tb) (mOp gIx ma mb):=⟨U2 ((N7 K hK).or (OI K hK)) ha.p hb.p hs,Lz YR ha.r hb.r⟩
theorem Eg(hu:X.A.units+1<cLine)(ha:QE K X a ta ma)(hb:QE K X b tb mb)(hs:Tj b:=by exact λ_ _=>rfl):QE K X (.Subscript a b pos) (Om ta tb) (mOp CT ma mb):=⟨VQ hu ha.p hb.p hs,Ut ha.r hb.r⟩
theorem C7:QO K X none Kg BU:=⟨VE,Ug⟩
theorem Bp(h:QE K X e te me):QO K X (some e) (Of te) (Bu me):=⟨VD h.p,Uf h.r⟩
theorem DP{lo hi:Option Expr}{tl th:TO}{ml mh:MO1}{p2:Pos}(h:QE K X e te me)(hl:QO K X lo tl ml)(hh:QO K X hi th mh)(hK:X.K=K:=by rfl):QE K X (.Subscript e (.Slice lo hi none p2) pos) (tSl (Mr K) te tl th) (E8 me ml mh):=⟨JF (UT K hK) h.p hl.p hh.p,Wq h.r hl.r hh.r⟩
theorem Qb{lo hi:Option Expr}{tl th:TO}{ml mh:MO1}{p2:Pos}(h:QE K X e te me)(hl:QO K X lo tl ml)(hh:QO K X hi th mh)(hK:X.K=K:=by rfl):QN K X (.Subscript e (.Slice lo hi none p2) pos) (tSl (Oz K) te tl th) (JK me ml mh):=⟨JF (SM K hK) h.p hl.p hh.p,Wg h.r hl.r hh.r⟩
theorem BM{id:String}{p:Pos}{r:List V->Hp->VK->Prop}{f:List D->Hd->Option (D×Hd)}(hc:CallR X (.builtin id) r)(hr:RF K r f)(hm:X.mg x=none)(hv:bootBuiltins x=some (.builtin id))(ha:QA K X (e::es) t m)(hg:Gl X x:=by rfl)(hn:x≠"__name__":=by decide)(hdb:(x==("__debug__":Str))=false:=by decide)
 (he:starEach (e::es) X.env=(false,eval e X.env)::starEach es X.env:=by rfl) (hpl:(backTo pos (starEach es X.env)).any (·.1)=false:=by rfl):QE K X (.Call (.Name x p) (e::es) [] pos) (tCB r t) (mCB f m):=⟨JG hc hg hm hv ha.p hn hdb he hpl,Tq hr ha.r⟩
theorem IU{id:String}{p:Pos}{r:List V->Hp->VK->Prop}{f:List D->Hd->Option (D×Hd)}(hc:CallR X (.type id) r)(hr:RF K r f)(hm:X.mg x=none)(hv:bootBuiltins x=some (.type id))(ha:QA K X (e::es) t m)(hg:Gl X x:=by rfl)(hn:x≠"__name__":=by decide)(hdb:(x==("__debug__":Str))=false:=by decide)
 (he:starEach (e::es) X.env=(false,eval e X.env)::starEach es X.env:=by rfl) (hpl:(backTo pos (starEach es X.env)).any (·.1)=false:=by rfl):QE K X (.Call (.Name x p) (e::es) [] pos) (tCB r t) (mCB f m):=⟨EG hc hg hm hv ha.p hn hdb he hpl,Tq hr ha.r⟩
theorem P3{id:String}{p:Pos}{r:List V->Hp->VK->Prop}{tp:Bool}{g:List D->Option D}(hc:CallR X (.builtin id) r)(hr:RG K tp r g)(hm:X.mg x=none)(hv:bootBuiltins x=some (.builtin id))(ha:QN K X e te m)(hg:Gl X x:=by rfl)(hn:x≠"__name__":=by decide)(hdb:(x==("__debug__":Str))=false:=by decide)
 (he:starEach [e] X.env=[(false,eval e X.env)]:=by rfl):QE K X (.Call (.Name x p) [e] [] pos) (tCB r (CP te E6)) (Ct g m):=⟨JG hc hg hm hv (Dd ha.p F6 he) hn hdb he rfl,QX hr ha.r⟩
theorem Fr{id:String}{p:Pos}{r:List V->Hp->VK->Prop}{tp:Bool}{g:List D->Option D}(hc:CallR X (.type id) r)(hr:RG K tp r g)(hm:X.mg x=none)(hv:bootBuiltins x=some (.type id))(ha:QN K X e te m)(hg:Gl X x:=by rfl)(hn:x≠"__name__":=by decide)(hdb:(x==("__debug__":Str))=false:=by decide)
 (he:starEach [e] X.env=[(false,eval e X.env)]:=by rfl):QE K X (.Call (.Name x p) [e] [] pos) (tCB r (CP te E6)) (Ct g m):=⟨EG hc hg hm hv (Dd ha.p F6 he) hn hdb he rfl,QX hr ha.r⟩
theorem Sm{p:Pos}(hm:X.mg "list"=none)(ha:QN K X e te m)(hg:Gl X "list":=by rfl)(he:starEach [e] X.env=[(false,eval e X.env)]:=by rfl)(hK:X.K=K:=by rfl):QN K X (.Call (.Name "list" p) [e] [] pos) (tCB (Ko K) (CP te E6)) (Hn m):=⟨EG (Pq K hK) hg hm OV (Dd ha.p F6 he) (by decide) (by decide) he rfl,SW ha.r⟩
theorem Er{id:String}{r:V->List V->Hp->VK->Prop}{f:D->List D->Hd->Option (D×Hd)}{name:Str}{apos cpos:Pos}{o:Expr}{to:TE}{mo:ME}(slot:Slot "list" name id)(hty:typeOf (.builtin id)=pure (.type "method_descriptor"))(hm:MtM X id r)(hr:RM K r f)(ho:QE K X o to mo)(ha:QA K X (e::es) t m)
 (hbase:attributeBase o name X.env (eval o X.env)=eval o X.env:=by rfl)
 (hfew:((backTo cpos (starEach (e::es) X.env)).all (λx=>!x.1)&&(backToKw cpos (keywordEach [] X.env)).all (λx=>x.1.isSome)
  && decide ((e::es).length+([]:List Keyword).length+(if([]:List Keyword).isEmpty then 0 else 1)<30))=true:=by rfl)
 (hline:(apos.endLine==cpos.line)=true:=by rfl) (hs:starEach (e::es) X.env=(false,eval e X.env)::starEach es X.env:=by rfl) (hplain:(backTo cpos (starEach es X.env)).any (·.1)=false:=by rfl) (hK:X.K=K:=by rfl):
 QE K X (.Call (.Attribute o name apos) (e::es) [] cpos) (tBM K "list" r to t) (mMt f mo m):=by
 subst hK;exact⟨YW PySem.F.plainAttrs_list slot hty hm ho.p ha.p hbase hfew hline hs hplain,YO hr ho.r ha.r⟩
theorem AB(w:Nat){j k:Nat}{f:Addr}{fd:FuncData}{ps:List Str}{n:Nat}{F:List D->Hd->Option (D×Hd)}{st:Stmt}{p:Pos}(G:FnOk X.prog X.w X.K X.mg X.base CX0 j f fd ps (spF K n F))(hr:Room k X.A)(DA:DefAt X.K X.mg x st f fd ps)(ha:QA K X (e::es) t m)(hF:∀ds hd z,F ds hd=some z->ds.length=n)
 (hjk:j<=k:=by decide) (hg:Gl X x:=by rfl) (hdb:(x==("__debug__":Str))=false:=by decide) (he:starEach (e::es) X.env=(false,eval e X.env)::starEach es X.env:=by rfl) (hpl:(backTo pos (starEach es X.env)).any (·.1)=false:=by rfl):
 QE K X (.Call (.Name x p) (e::es) [] pos) (IK (spF K n F) [] E0 t) (A9 w F m):=⟨U3 G hr DA ha.p hjk hg hdb he hpl,Sc ha.r hF⟩
theorem Mv{j k:Nat}{f:Addr}{fd:FuncData}{ps:List Str}{n:Nat}{F:List D->Hd->Option (D×Hd)}{st:Stmt}{p:Pos}(G:FnOk X.prog X.w X.K X.mg X.base CX0 j f fd ps (spF K n F))(hr:Room k X.A)(DA:DefAt X.K X.mg x st f fd ps)(ha:QA K X (e::es) t m)(hF:∀ds hd z,F ds hd=some z->ds.length=n)
 (hjk:j<=k:=by decide) (hg:Gl X x:=by rfl) (hdb:(x==("__debug__":Str))=false:=by decide) (he:starEach (e::es) X.env=(false,eval e X.env)::starEach es X.env:=by rfl) (hpl:(backTo pos (starEach es X.env)).any (·.1)=false:=by rfl):
 QE K X (.Call (.Name x p) (e::es) [] pos) (IK (spF K n F) [] E0 t) (GP F m):=⟨U3 G hr DA ha.p hjk hg hdb he hpl,Sd ha.r hF⟩
theorem V1{pos:Pos}:QPs K X pos [] [] [] []:=⟨VC,trivial⟩
theorem Gk{pos:Pos}{k v:Expr}{ks:List (Option Expr)}{vs:List Expr}{tk tv:TE}{mk mv:ME}{trs:List (TE×TE)}{ms:List (ME×ME)}(hk:QE K X k tk mk)(hv:QE K X v tv mv)(hr:QPs K X pos ks vs trs ms):QPs K X pos (some k::ks) (v::vs) ((tk,tv)::trs) ((mk,mv)::ms):=⟨Ss hk.p hv.p hr.p,hk.r,hv.r,hr.r⟩
theorem V3{pos:Pos}{keys:List (Option Expr)}{values:List Expr}{trs:List (TE×TE)}{ms:List (ME×ME)}(h:QPs K X pos keys values trs ms)(hall:keys.all (·.isSome)=true:=by rfl)(hl:keys.length=values.length:=by rfl)(h0:keys≠[]:=by simp)
 (h15:keys.length<=15:=by decide):QE K X (.Dict keys values pos) (Ol trs) (KB ms):=⟨VP h.p hall hl h0 h15,Us h.r⟩
theorem AD{i:Nat}(hN:X.N.Nodup)(hi:X.N[i]?=some x)(hx:Loc X.env.scope x)(hf:X.fn x=true∨X.env.scope.names.lookup x=some .local:=by first|exact .inl rfl|exact .inr rfl|assumption):QG K X (.Name x pos) (Gv i) (AF i):=⟨VN hN hi hx hf,Kl⟩
theorem Ba:QGs K X [] TQ C0:=⟨VL,Ul⟩
theorem AY{tg:TG}{tgs:TGs}{n:MG}{ns:MGs}(h1:QG K X e tg n)(h2:QGs K X es tgs ns)(hs:(assignEach (e::es) X.env).map (·.2)=assign e X.env::(assignEach es X.env).map (·.2):=by rfl):QGs K X (e::es) (PX tg tgs) (Ae n ns):=⟨Sx h1.p h2.p hs,SY h1.r h2.r⟩
theorem Bx{k n:Nat}{tgs:TGs}{ns:MGs}(hc:X.calm=true)(h:QGs K X es tgs ns)(hK:X.K=K:=by rfl)(hn:(assignEach es X.env).length=n:=by rfl)(hst:(assignEach es X.env).findIdx? (·.1)=none:=by rfl):QG K X (.Tuple es k pos) (PV K n tgs) (Bz n ns):=⟨VM K hc h.p hK hn hst,Wm h.r⟩
theorem B3{tg:Expr}(h:QE K X e te me)(hK:X.K=K:=by rfl):QI K X tg e (PP K te) (BG me):=⟨VI K h.p hK,Wl h.r⟩
theorem Db{tg:Expr}(h:QE K X e te me)(hK:X.K=K:=by rfl):QI K X tg e (M6 K te) (EX me):=⟨Sw K h.p hK,Uk h.r⟩
theorem DE{tg:Expr}{p:Pos}(hm:X.mg "range"=none)(ha:QA K X [a] t m)(hg:Gl X "range":=by rfl)(hs:starEach [a] X.env=[(false,eval a X.env)]:=by rfl):QI K X tg (.Call (.Name "range" p) [a] [] pos) (PR t) (DI m):=⟨Qj hg hm ha.p hs,Uj ha.r⟩
theorem V2{tg:Expr}{p:Pos}(hm:X.mg "range"=none)(ha:QA K X [a,b] t m)(hg:Gl X "range":=by rfl)(hs:starEach [a,b] X.env=[(false,eval a X.env),(false,eval b X.env)]:=by rfl)(hs2:starEach [b] X.env=[(false,eval b X.env)]:=by rfl):QI K X tg (.Call (.Name "range" p) [a,b] [] pos) (PQ t) (Fv m):=⟨Qi hg hm ha.p hs hs2,Ui ha.r⟩
theorem BK:QF K X [] S7 Bg:=⟨XG,WZ⟩
theorem Dq(h:QT K X c tA nA):QF K X [c] tA nA:=⟨XF h.p,h.r⟩
theorem B5{elt tg iter:Expr}{ifs:List Expr}{scope:Scope}{loc fr:List Str}{ix:List Nat}{wi:TI}{g:TG}{tf:TT}{te:TE}{mi:MI}{n:MG}{mf:MT}{mm:ME}(hc:X.calm=true)(S:CSc X scope fr ix)(hi:QI K X tg iter wi mi)
 (hg:∀s H ex,QG K (cCx X (loc++fr) scope s H ex) tg g n) (hf:∀s H ex,QF K (cCx X (loc++fr) scope s H ex) ifs tf mf) (he:∀s H ex,QE K (cCx X (loc++fr) scope s H ex) elt te mm)
 (hs:∀x,foldedSetIterable iter X.env x=pure x:=by intro _;rfl):QN K X (.ListComp elt [⟨tg,iter,ifs,0⟩] scope pos) (Jd loc.length ix wi g tf te) (BA loc.length ix mi n mf mm):=
 ⟨VR hc S hi.p (λs H ex=>(hg s H ex).p) (λs H ex=>(hf s H ex).p) (λs H ex=>(he s H ex).p) hs,Nr hi.r (hg X.s₀ X.H₀ []).r (hf X.s₀ X.H₀ []).r (he X.s₀ X.H₀ []).r⟩
theorem Au:QSs K X [] Oi Ap:=⟨V6,Ua⟩
theorem A7{st:Stmt}{rest:List Stmt}{u v:TS}{m1 m2:MS}(h1:QS K X st u m1)(h2:QSs K X rest v m2):QSs K X (st::rest) (SA u v) (AA m1 m2):=⟨Sq h1.p h2.p,Wc h1.r h2.r⟩
theorem AC{st:Stmt}{u:TS}{m1:MS}(h1:QS K X st u m1):QSs K X [st] u m1:=⟨V5 h1.p,h1.r⟩
theorem DZ(he:QE K X e te me)(hs:swapsWith e none pos.line X.env=pure false:=by rfl):QS K X (.Expr e pos) (Oj te) (C4 me):=⟨V9 he.p hs,Ud he.r⟩
theorem AZ(he:QE K X e te me):QS K X (.Return (some e) pos) (SB te) (Ac me):=⟨X7 he.p,Wd he.r⟩
theorem BI{a b:List Stmt}{u v:TS}{m1 m2:MS}(hc:QT K X c tA nA)(ha:QSs K X a u m1)(hb:QSs K X b v m2):QS K X (.If c a b pos) (SG tA u v) (Ay nA m1 m2):=⟨YU hc.p ha.p hb.p,YM hc.r ha.r hb.r⟩
theorem Mt{st:Stmt}:QS K X st MQ K9:=⟨Sr,SS⟩
theorem Hc{tg:Expr}{g:TG}{n:MG}(he:QE K X e te me)(hg:QG K X tg g n)(hs:swapsWithSole [tg] e pos.line X.env=pure false:=by rfl)(hw:swappedStores [tg] e X.env=pure none:=by rfl)
 (h1:(assignEach [tg] X.env).map (·.2)=[assign tg X.env]:=by rfl):QS K X (.Assign [tg] e pos) (Gc te g) (FG me n):=⟨Qf he.p hg.p hs hw h1,Mg he.r hg.r⟩
theorem AS{i:Nat}{pos':Pos}(hN:X.N.Nodup)(hi:X.N[i]?=some x)(hx:Loc X.env.scope x)(he:QE K X e te me)(hs:swapsWith e (some (.Name x pos')) pos.line X.env=pure false:=by rfl)(hf:X.fn x=true∨X.env.scope.names.lookup x=some .local:=by first|exact .inl rfl|exact .inr rfl|assumption):
 QS K X (.Assign [.Name x pos'] e pos) (Gc te (Gv i)) (AO i me):=⟨X6 hN hi hx he.p hs hf,Mg he.r Kl⟩
theorem DY{i:Nat}{y:Str}{elt tg iter:Expr}{ifs:List Expr}{scope:Scope}{spos py:Pos}{loc fr:List Str}{ix:List Nat}{wi:TI}{g:TG}{tf:TT}{te:TE}{mi:MI}{n:MG}{mf:MT}{mm:ME}(hN:X.N.Nodup)(hiN:X.N[i]?=some y)(hy:X.env.scope.names.lookup y=some .local)
 (hc:X.calm=true) (S:CSc X scope fr ix) (hi:QI K X tg iter wi mi)
 (hg:∀s H ex,QG K (cCx X (loc++fr) scope s H ex) tg g n) (hf:∀s H ex,QF K (cCx X (loc++fr) scope s H ex) ifs tf mf) (he:∀s H ex,QE K (cCx X (loc++fr) scope s H ex) elt te mm)
 (hsw:swapsWith (.ListComp elt [⟨tg,iter,ifs,0⟩] scope pos) (some (.Name y py)) spos.line X.env=pure true:=by rfl) (hs:∀x,foldedSetIterable iter X.env x=pure x:=by intro _;rfl):
 QS K X (.Assign [.Name y py] (.ListComp elt [⟨tg,iter,ifs,0⟩] scope pos) spos) (Gc (Jd loc.length ix wi g tf te) (Gv i)) (AO i (BN (BA loc.length ix mi n mf mm))):=
 ⟨V7 hN hiN hy hc S hi.p (λs H ex=>(hg s H ex).p) (λs H ex=>(hf s H ex).p) (λs H ex=>(he s H ex).p) hsw hs,Mg (QV (Nr hi.r (hg X.s₀ X.H₀ []).r (hf X.s₀ X.H₀ []).r (he X.s₀ X.H₀ []).r)) Kl⟩
theorem X0{i j:Nat}{x y:Str}{a b:Expr}{px py pt:Pos}{kt k2 pt2}(hc:X.calm=true)(hN:X.N.Nodup)(hi:X.N[i]?=some x)(hj:X.N[j]?=some y)(hij:i≠j)
 (hx:X.env.scope.names.lookup x=some .local) (hy:X.env.scope.names.lookup y=some .local) (ha:QA K X [a,b] t m)
 (hw:swappedStores [.Tuple [.Name x px,.Name y py] kt pt] (.Tuple [a,b] k2 pt2) X.env=pure (some [x,y]):=by rfl)
 (hs:swapsWithSole [.Tuple [.Name x px,.Name y py] kt pt] (.Tuple [a,b] k2 pt2) pos.line X.env=pure false:=by rfl):
 QS K X (.Assign [.Tuple [.Name x px,.Name y py] kt pt] (.Tuple [a,b] k2 pt2) pos) (SC i j t) (Hm [i,j] m):=⟨X8 hc hN hi hj hij hx hy ha.p hw,We ha.r⟩
theorem Uy{i j k:Nat}{x y z:Str}{a b c:Expr}{px py pz pt:Pos}{kt k2 pt2}(hc:X.calm=true)(hN:X.N.Nodup)(hi:X.N[i]?=some x)(hj:X.N[j]?=some y)(hk:X.N[k]?=some z)
 (hx:X.env.scope.names.lookup x=some .local) (hy:X.env.scope.names.lookup y=some .local) (hz:X.env.scope.names.lookup z=some .local) (ha:QA K X [a,b,c] t m)
 (hw:swappedStores [.Tuple [.Name x px,.Name y py,.Name z pz] kt pt] (.Tuple [a,b,c] k2 pt2) X.env=pure (some [x,y,z]):=by rfl)
 (hs:swapsWithSole [.Tuple [.Name x px,.Name y py,.Name z pz] kt pt] (.Tuple [a,b,c] k2 pt2) pos.line X.env=pure false:=by rfl):
 QS K X (.Assign [.Tuple [.Name x px,.Name y py,.Name z pz] kt pt] (.Tuple [a,b,c] k2 pt2) pos) (Og i j k t) (K7 i j k m):=⟨V8 hc hN hi hj hk hx hy hz ha.p hw hs,UZ ha.r⟩
theorem IT{o i value:Expr}{pos':Pos}{td ty tv:TE}{md my mv:ME}(hu:X.A.units+1<cLine)(ho:QE K X o td md)(hi:QE K X i ty my)(hv:QE K X value tv mv)(hs:swapsWith value (some (.Subscript o i pos')) pos.line X.env=pure false:=by rfl):
 QS K X (.Assign [.Subscript o i pos'] value pos) (Ou td ty tv) (EY md my mv):=⟨VA hu ho.p hi.p hv.p hs,Ue ho.r hi.r hv.r⟩
theorem O0{o i value:Expr}{pos':Pos}{to ti tv:TE}{mo mi mv:ME}(ho:QE K X o to mo)(hi:QE K X i ti mi)(hv:QE K X value tv mv)(hs:swapsWithSole [.Subscript o i pos'] value pos.line X.env=pure false:=by rfl)(hw:swappedStores [.Subscript o i pos'] value X.env=pure none:=by rfl)
 (h1:(assignEach [.Subscript o i pos'] X.env).map (·.2)=[assign (.Subscript o i pos') X.env]:=by rfl)
 (ha:∀v,assign (.Subscript o i pos') X.env v=(do
  let ov <- holding [v] (eval o X.env)
  let iv <- holding [v,ov] (eval i X.env)
  standAt pos'
  holding [v,ov,iv] (setItem ov iv v)
  release [v,ov,iv] []):=by intro _;rfl):QS K X (.Assign [.Subscript o i pos'] value pos) (Gc tv (TM to ti Js)) (Fu mo mi mv):=⟨Qf hv.p (XE ho.p hi.p MZ ha) hs hw h1,Ub ho.r hi.r hv.r⟩
theorem CA{tg iter:Expr}{body:List Stmt}{wi:TI}{g:TG}{tb:TS}{mi:MI}{n:MG}{mb:MS}(hc:X.calm=true)(hi:QI K X tg iter wi mi)(hg:QG K X tg g n)(hb:QSs K X body tb mb)(hp:PassesOwn (model X.prog X.w) X.A X.env X.xe:=by exact PassesOwn.never)
 (hs:∀x,foldedSetIterable iter X.env x=pure x:=by intro _;rfl):QS K X (.For tg iter body [] pos) (SH wi g tb) (Bl mi n mb):=⟨X9 hp hc hi.p hg.p hb.p hs,Wf hi.r hg.r hb.r⟩
end
theorem As{P:Program}{w:World}{K:PySem.W.Frag}{mg:Str->Option Value}{base:Heap}{x:Str}{st:Stmt}{f:Addr}{fd:FuncData}{N ps:List Str}{j:Nat}{m:MS}(DA:DefAt K mg x st f fd ps)(S:FnScope N ps (AN st))
 (h:∀(cdv:Value) (A:Around) (outer:List Env) (s:Shared) (H:Hp) (E:XK),Room j (A.deeper (envOfC x (AN st) s.heap.objs.size f cdv))->∃t,QSs K (Hx CX0 P w K mg base N x (AN st) f cdv A outer s H E).nox (CD st) t m):
 FnOk P w K mg base CX0 (j+1) f fd ps (spF K ps.length (mkF ps.length N.length m)):=by
 refine DA.fn.ok S (λvs H Q E h=>h.1) (λcdv A outer s H vs Q E hr hs=>?_);obtain⟨t,q⟩:=h cdv A outer s H E hr;exact⟨t,q.p,Nn q.r hs⟩
section
variable{X:Cx}{pins:List (Addr×Obj)}{σ:List (Option V)}{H H':Hp}{s:Shared}{h':Heap}
theorem Inv.turns{tk:Nat}{fp:List Addr}(I:Inv X pins σ H s)(k:∀b o,b∉fp->s.heap.get? b=some o->h'.get? b=some o)(hf:∀b∈fp,FpOk X pins H b):Inv X pins σ H { s with heap:=h',toks:=tk }:=by
 have out:∀b u,H b=some u->b∉fp:=λb u e z=>by rw[(hf b z).1]at e;cases e
 have hL:X.env.locals∉fp:=λz=>(hf _ z).2.1 rfl;refine I.step (g':=s.gens) (d':=s.drawn) (ch:=fp) (λb hb=>⟨(hf b hb).2.2.2.1,(hf b hb).2.1,(hf b hb).2.2.2.2.1,(hf b hb).2.2.2.2.2⟩) (λb o _ _ hc e _=>k b o hc e) (λb o _ _ hc e _=>⟨o.slots,k b o hc e⟩) (λ_ _ _ _ n=>n)
  (λb o hc e=>⟨o,k b o hc e⟩) (λ_ _ e=>e) (λ_ _ _ e=>e) (λb ps e=>⟨#[],by rw[e];simp⟩) (λm hm=>?_) (λb u e=>?_) I.bare
 .obtain⟨o,es,ep,ho,r⟩:=hm;exact⟨o,es,ep,k _ o hL ho,r⟩
 .refine(I.hok b u e).stay (λc v hc q=>k c v ?_ q) (λ_ q=>q) λ_ _ q=>q;rcases hc with z|z
  .rw[z];exact out b u e
  .exact out c _ z
end
theorem Inv.turnsL{X:Cx}{pins:List (Addr×Obj)}{σ:List (Option V)}{H:Hp}{s:Shared}{h':Heap}{tk:Nat}{fp:List Addr}{a:Addr}{o:HO}(I:Inv X pins σ H s)(k:∀b o,b∉fp->s.heap.get? b=some o->h'.get? b=some o)(hf:∀b∈fp,FpOk X pins H b)(ha:s.heap.objs.size<=a)(new:ObjOk X.prog X.w (upd H a o) h' a o):
 Inv X pins σ (upd H a o) { s with heap:=h',toks:=tk }:=by
 have out:∀b u,H b=some u->b∉fp:=λb u e z=>by rw[(hf b z).1]at e;cases e
 have hL:X.env.locals∉fp:=λz=>(hf _ z).2.1 rfl;have fr:H a=none:=I.hok.fresh ha;refine I.step (g':=s.gens) (d':=s.drawn) (ch:=fp) (λb hb=>⟨(hf b hb).2.2.2.1,(hf b hb).2.1,(hf b hb).2.2.2.2.1,(hf b hb).2.2.2.2.2⟩) (λb o _ _ hc e _=>k b o hc e) (λb o _ _ hc e _=>⟨o.slots,k b o hc e⟩)
  (λb o _ e n=>by rw[AJ (ne_of_lt (lt_of_lt_of_le (Heap.lt_size e) ha))];exact n) (λb o hc e=>⟨o,k b o hc e⟩) (λb xs e=>by rw[AJ (Ak e fr)];exact e) (λb o u e=>by rw[AJ (Ak e fr)];exact e)
  (λb ps e=>⟨#[],by rw[AJ (Ak e fr),e];simp⟩) (λm hm=>?_) (λb u e=>?_) I.bare
 .obtain⟨o,es,ep,ho,r⟩:=hm;exact⟨o,es,ep,k _ o hL ho,r⟩
 .by_cases hb:b=a
  .subst hb;rw[Af]at e;cases e;exact new
  .rw[AJ hb]at e;refine(I.hok b u e).stay (λc v hc q=>k c v ?_ q) (λc q=>by rw[AJ (Ak q fr)];exact q) λc xs q=>by rw[AJ (Ak q fr)];exact q
   rcases hc with z|z
   .rw[z];exact out b u e
   .exact out c _ z
def RowI(tp:Bool)(h:Heap)(it l:Addr)(k:Nat):Prop:=match tp with
 |true=>h.IsTupleIter it l k
 |false=>h.IsListIter it l k
def RowL(tp:Bool)(h:Heap)(l:Addr)(xs:Array Value):Prop:=match tp with
 |true=>h.IsTuple l xs
 |false=>h.IsList l xs
theorem RowI.at{tp:Bool}{h h':Heap}{it l:Addr}{k:Nat}(x:RowI tp h it l k)(e:∀o,h.get? it=some o->h'.get? it=some o):RowI tp h' it l k:=by
 cases tp with
 |true=>exact Heap.IsTupleIter.at x e
 |false=>exact Heap.IsListIter.at x e
theorem RowL.at{tp:Bool}{h h':Heap}{l:Addr}{xs:Array Value}(x:RowL tp h l xs)(e:∀o,h.get? l=some o->h'.get? l=some o):RowL tp h' l xs:=by
 cases tp with
 |true=>obtain⟨o,e1,r⟩:=(show h.IsTuple l xs from x);exact⟨o,e _ e1,r⟩
 |false=>obtain⟨o,e1,r⟩:=(show h.IsList l xs from x);exact⟨o,e _ e1,r⟩
theorem RowI.obj{tp:Bool}{h:Heap}{it l:Addr}{k:Nat}(x:RowI tp h it l k):∃o,h.get? it=some o/\o.data=.fields #[.ref l,.int k 0]:=by
 cases tp with
 |true=>obtain⟨o,e,_,d⟩:=(show h.IsTupleIter it l k from x);exact⟨o,e,d⟩
 |false=>obtain⟨o,e,_,d⟩:=(show h.IsListIter it l k from x);exact⟨o,e,d⟩
theorem RowL.obj{tp:Bool}{h:Heap}{l:Addr}{xs:Array Value}(x:RowL tp h l xs):∃o n,h.get? l=some o/\o.data=.seq xs n:=by
 cases tp with
 |true=>obtain⟨o,e,_,n,d⟩:=(show h.IsTuple l xs from x);exact⟨o,n,e,d⟩
 |false=>obtain⟨o,e,_,n,d⟩:=(show h.IsList l xs from x);exact⟨o,n,e,d⟩
section
variable{prog:Program}{w:World}{A:Around}{E:Value->Shared->Prop}{s:Shared}{it l:Addr}{k:Nat}{xs:Array Value}{x:Value}
theorem S4(hit:s.heap.IsTupleIter it l k)(hl:s.heap.IsTuple l xs)(hx:xs[k]?=some x){Q:Value->Shared->Prop}(hQ:∀g,g.IsTupleIter it l (k+1)->Heap.SameBut it s.heap g->Q x { s with heap:=g }):
 wpAny (model prog w) A (Builtin.SmallTypes.nextOf (.ref it)) Q E s:=by
 obtain⟨o,eo,ec,ed⟩:=id hit;obtain⟨ol,el,_,nl,edl⟩:=hl;unfold Builtin.SmallTypes.nextOf;refine wpAny_bind (wpAny_callSpecial?_slot (name:=Str.ofString "__next__") hit.typeIs PyProof.Rows.slot_tupleiter_next (wpAny_call_entry PyProof.Rows.slot_tupleiter_next hit.typeIs PyProof.Rows.entry_tupleiter_next ?_ (PyProof.Rows.args_tupleiter_next _)));show wpAny _ _ (field (.ref it) 0 >>= _) _ _ s;refine wpAny_bind (wpAny_field eo ed (x:=.ref l) rfl ?_);show wpAny _ _ (if(Value.ref l==Value.none)=true then _ else _) _ _ s;rw[if_neg (show ¬ (Value.ref l==Value.none)=true from Bool.false_ne_true)];show wpAny _ _ (field (.ref it) 1 >>= _) _ _ s;refine wpAny_bind (wpAny_field eo ed (x:=.int k 0) rfl ?_);show wpAny _ _ (seqItems? (.ref l) >>= _) _ _ s;refine wpAny_bind (wpAny_seqItems el edl ?_);simp only[toNat_natCast,hx];refine wpAny_bind (wpAny_setField eo ed (by simp) (wpAny_pure ⟨x,rfl,wpAny_pure (hQ _ ⟨_,Heap.get?_update_self _ eo (Obj.isFreed_of_fields (Obj.data_mapFields ed _)),(Obj.cls_mapFields ..).trans ec,?_⟩ (Heap.SameBut.update ..))⟩));rw[Obj.data_mapFields ed];simp[rawInt]
theorem S3(hh:A.handled=none)(hit:s.heap.IsTupleIter it l k)(hl:s.heap.IsTuple l xs)(hx:xs[k]?=none){Q:Value->Shared->Prop}(hE:∀g e,Heap.ExtBut it s.heap g->(∃o,g.get? e=some o/\o.cls=.type "StopIteration")->E (.ref e) { s with heap:=g }):
 wpAny (model prog w) A (Builtin.SmallTypes.nextOf (.ref it)) Q E s:=by
 obtain⟨o,eo,ec,ed⟩:=id hit;obtain⟨ol,el,_,nl,edl⟩:=hl;unfold Builtin.SmallTypes.nextOf;refine wpAny_bind (wpAny_callSpecial?_slot (name:=Str.ofString "__next__") hit.typeIs PyProof.Rows.slot_tupleiter_next (wpAny_call_entry PyProof.Rows.slot_tupleiter_next hit.typeIs PyProof.Rows.entry_tupleiter_next ?_ (PyProof.Rows.args_tupleiter_next _)));show wpAny _ _ (field (.ref it) 0 >>= _) _ _ s;refine wpAny_bind (wpAny_field eo ed (x:=.ref l) rfl ?_);show wpAny _ _ (if(Value.ref l==Value.none)=true then _ else _) _ _ s;rw[if_neg (show ¬ (Value.ref l==Value.none)=true from Bool.false_ne_true)];show wpAny _ _ (field (.ref it) 1 >>= _) _ _ s;refine wpAny_bind (wpAny_field eo ed (x:=.int k 0) rfl ?_);show wpAny _ _ (seqItems? (.ref l) >>= _) _ _ s;refine wpAny_bind (wpAny_seqItems el edl ?_);simp only[toNat_natCast,hx];refine wpAny_bind (wpAny_rule (wpAny_bind (wpAny_setField eo ed (by simp) ?_)));show wpAny _ _ (newExc (.type "StopIteration") [] >>= _) _ _ _;refine wpAny_bind ?_;simp only[newExc,newTuple];refine wpAny_bind (wpAny_newObj_type ?_ (by size_fits));refine wpAny_bind (m:=firstArgMember _ _) (wpAny_of_eq (a:=Value.none) (by first|rfl|(simp only[firstArgMember];rfl)) ?_);refine wpAny_newObj_type ?_ (by size_fits);simp only[raiseNew];refine wpAny_bind (wpAny_handled ?_)
 first|rw[show A.in1.handled=none from hh]|rw[hh]
 exact wpAny_bind (wpAny_pure (wpAny_throw (hE _ _ (((Heap.SameBut.update ..).extBut.push _).push _) ⟨_,Heap.get?_push_size _ rfl,rfl⟩)))
theorem JA{tp:Bool}(hit:RowI tp s.heap it l k)(hl:RowL tp s.heap l xs)(hx:xs[k]?=some x){Q:Value->Shared->Prop}(hQ:∀g,RowI tp g it l (k+1)->Heap.SameBut it s.heap g->Q x { s with heap:=g }):
 wpAny (model prog w) A (Builtin.SmallTypes.nextOf (.ref it)) Q E s:=by
 cases tp with
 |true=>exact S4 hit hl hx hQ
 |false=>exact wpAny_nextOf_list_item hit hl hx hQ
theorem Mh{tp:Bool}(hh:A.handled=none)(hit:RowI tp s.heap it l k)(hl:RowL tp s.heap l xs)(hx:xs[k]?=none){Q:Value->Shared->Prop}(hE:∀g e,Heap.ExtBut it s.heap g->(∃o,g.get? e=some o/\o.cls=.type "StopIteration")->E (.ref e) { s with heap:=g }):
 wpAny (model prog w) A (Builtin.SmallTypes.nextOf (.ref it)) Q E s:=by
 cases tp with
 |true=>exact S3 hh hit hl hx hE
 |false=>exact wpAny_nextOf_list_end hh hit hl hx hE
end
structure ZAt(t1 t2:Bool)(h:Heap)(z a b i1 i2 l1 l2:Addr)(f0:Value)(j k:Nat):Prop where
 z:IsZip h z a b f0
 p:IsPair h a (.ref i1) (.ref i2)
 o:∃u v,IsPair h b u v
 r1:RowI t1 h i1 l1 j
 r2:RowI t2 h i2 l2 k
structure ZNe(z a b i1 i2 l1 l2:Addr):Prop where
 az:a≠z
 bz:b≠z
 iz:i1≠z
 jz:i2≠z
 ab:a≠b
 ai:a≠i1
 aj:a≠i2
 bi:b≠i1
 bj:b≠i2
 ij:i1≠i2
 lz:l1≠z
 lb:l1≠b
 li:l1≠i1
 lj:l1≠i2
 mz:l2≠z
 mb:l2≠b
 mi:l2≠i1
 mj:l2≠i2
section
variable{prog:Program}{w:World}{A:Around}{E:Value->Shared->Prop}{s:Shared}{t1 t2:Bool}{z a b i1 i2 l1 l2:Addr}{j k:Nat}{xs ys:Array Value}{x y:Value}
abbrev Pv(z b i1 i2:Addr)(h h':Heap):Prop:=∀c o,c≠z->c≠b->c≠i1->c≠i2->h.get? c=some o->h'.get? c=some o
theorem Ru(N:ZNe z a b i1 i2 l1 l2)(Z:ZAt t1 t2 s.heap z a b i1 i2 l1 l2 .none j k)(hl1:RowL t1 s.heap l1 xs)(hl2:RowL t2 s.heap l2 ys)(hx:xs[j]?=some x)(hy:ys[k]?=some y){Q:Value->Shared->Prop}
 (hQ:∀g,ZAt t1 t2 g z a b i1 i2 l1 l2 (rawInt s.heap.objs.size) (j+1) (k+1)->IsPair g s.heap.objs.size x y->Pv z b i1 i2 s.heap g->Q (.ref s.heap.objs.size) { s with heap:=g }):
 wpAny (model prog w) A (Builtin.«zip.__next__» ⟨[.ref z],[]⟩) (λfin s'=>∃v,fin=.done (.ret v)/\Q v s') E s:=by
 obtain⟨hz,hp,⟨u,v,hb⟩,q1,q2⟩:=Z;show wpAny _ _ (field (.ref z) 2 >>= _) _ _ _;refine wpAny_bind (wpAny_field hz rfl (x:=.bool false) rfl ?_);show wpAny _ _ (field (.ref z) 3 >>= _) _ _ _;refine wpAny_bind (wpAny_field hz rfl (x:=.ref a) rfl (wpAny_bind (wpAny_seqItems hp rfl ?_)));show wpAny _ _ (Builtin.SmallTypes.ownedTupleIsFree (.ref z) >>= _) _ _ _;unfold Builtin.SmallTypes.ownedTupleIsFree;refine wpAny_bind (wpAny_bind (wpAny_field hz rfl (x:=.none) rfl (wpAny_pure ?_)));simp only[if_true];refine wpAny_bind (wpAny_rule (wpAny_bind (wpAny_field hz rfl (x:=.ref b) rfl ?_)));refine wpAny_bind (wpAny_setField_rec hz (by simp) λg1 z1 s1=>?_);have z1:IsZip g1 z a b .ellipsis:=z1;refine wpAny_bind ?_;simp only[List.zipIdx_cons,List.zipIdx_nil,List.forIn_cons,List.forIn_nil];refine wpAny_bind (wpAny_bind (wpAny_onRaise ?_));show wpAny _ _ (Builtin.SmallTypes.nextOf (.ref i1) >>= _) _ _ _;refine wpAny_bind (JA (s:={ s with heap:=g1 }) (q1.at λo e=>s1.extBut _ _ N.iz e) (hl1.at λo e=>s1.extBut _ _ N.lz e) hx λg2 r2 s2=>wpAny_pure ?_);have b2:IsPair g2 b u v:=s2.extBut _ _ N.bi (s1.extBut _ _ N.bz hb);refine wpAny_bind (wpAny_seqItems b2 rfl (wpAny_bind (wpAny_updateSeq_pair b2 λg3 b3 s3=>?_)));have b3:IsPair g3 b x v:=b3;refine wpAny_bind (wpAny_letGo (wpAny_pure (wpAny_bind (wpAny_bind (wpAny_onRaise ?_)))));show wpAny _ _ (Builtin.SmallTypes.nextOf (.ref i2) >>= _) _ _ _;have q3:RowI t2 g3 i2 l2 k:=q2.at λo e=>s3.extBut _ _ N.bj.symm (s2.extBut _ _ N.ij.symm (s1.extBut _ _ N.jz e));have m3:RowL t2 g3 l2 ys:=hl2.at λo e=>s3.extBut _ _ N.mb (s2.extBut _ _ N.mi (s1.extBut _ _ N.mz e));refine wpAny_bind (JA (s:={ s with heap:=g3 }) q3 m3 hy λg4 r4 s4=>wpAny_pure ?_);have b4:IsPair g4 b x v:=s4.extBut _ _ N.bj b3;refine wpAny_bind (wpAny_seqItems b4 rfl (wpAny_bind (wpAny_updateSeq_pair b4 λg5 b5 s5=>?_)));have b5:IsPair g5 b x y:=b5;refine wpAny_bind (wpAny_letGo (wpAny_pure (wpAny_pure (wpAny_bind (wpAny_seqItems b5 rfl (wpAny_bind (wpAny_newTuple ?_)))))));have sz:g5.objs.size=s.heap.objs.size:=by rw[s5.1,s4.1,s3.1,s2.1,s1.1]
 have z5:IsZip g5 z a b .ellipsis:=s5.extBut _ _ N.bz.symm (s4.extBut _ _ N.jz.symm (s3.extBut _ _ N.bz.symm (s2.extBut _ _ N.iz.symm z1)));have kp:Pv z b i1 i2 s.heap g5:=λc o c1 c2 c3 c4 e=>s5.extBut _ _ c2 (s4.extBut _ _ c4 (s3.extBut _ _ c2 (s2.extBut _ _ c3 (s1.extBut _ _ c1 e))));have w1:RowI t1 g5 i1 l1 (j+1):=r2.at λo e=>s5.extBut _ _ N.bi.symm (s4.extBut _ _ N.ij (s3.extBut _ _ N.bi.symm e));have w2:RowI t2 g5 i2 l2 (k+1):=r4.at λo e=>s5.extBut _ _ N.bj.symm e;have zlt:=Heap.lt_size z5;show wpAny _ _ (Builtin.SmallTypes.ownedTupleHandOut (.ref z) (.ref g5.objs.size) >>= _) _ _ _;unfold Builtin.SmallTypes.ownedTupleHandOut;have z6:IsZip (g5.push { cls:=.type "tuple",data:=.seq #[x,y] }) z a b .ellipsis:=Heap.get?_push_of_some _ z5;refine wpAny_bind (wpAny_bind (wpAny_setField_rec z6 (by simp) λg7 z7 s7=>?_));have z7:IsZip g7 z a b (rawInt g5.objs.size):=z7;refine wpAny_setField_rec z7 (by simp) λg8 z8 s8=>wpAny_pure ⟨_,rfl,?_⟩;have z8:IsZip g8 z a b (rawInt g5.objs.size):=z8;have up:∀c o,c≠z->g5.get? c=some o->g8.get? c=some o:=λc o c1 e=>s8.extBut _ _ c1 (s7.extBut _ _ c1 (Heap.get?_push_of_some _ e));have t8:IsPair g8 g5.objs.size x y:=s8.extBut _ _ (ne_of_gt zlt) (s7.extBut _ _ (ne_of_gt zlt) (Heap.get?_push_size _ rfl));show Q (.ref g5.objs.size) _;rw[sz]at z8 t8 ⊢;exact hQ g8 ⟨z8,up _ _ N.az (kp _ _ N.az N.ab N.ai N.aj hp),⟨_,_,up _ _ N.bz b5⟩,w1.at λo e=>up _ o N.iz e,w2.at λo e=>up _ o N.jz e⟩ t8 λc o c1 c2 c3 c4 e=>up c o c1 (kp c o c1 c2 c3 c4 e)
theorem Rt(hh:A.handled=none)(N:ZNe z a b i1 i2 l1 l2)(Z:ZAt t1 t2 s.heap z a b i1 i2 l1 l2 .none j k)(hl1:RowL t1 s.heap l1 xs)(hl2:RowL t2 s.heap l2 ys)(hend:xs[j]?=none∨ys[k]?=none){Q:Fin->Shared->Prop}
 (hE:∀g e,Pv z b i1 i2 s.heap g->(∃o,g.get? e=some o/\o.cls=.type "StopIteration")->E (.ref e) { s with heap:=g }):
 wpAny (model prog w) A (Builtin.«zip.__next__» ⟨[.ref z],[]⟩) Q E s:=by
 obtain⟨hz,hp,⟨u,v,hb⟩,q1,q2⟩:=Z;show wpAny _ _ (field (.ref z) 2 >>= _) _ _ _;refine wpAny_bind (wpAny_field hz rfl (x:=.bool false) rfl ?_);show wpAny _ _ (field (.ref z) 3 >>= _) _ _ _;refine wpAny_bind (wpAny_field hz rfl (x:=.ref a) rfl (wpAny_bind (wpAny_seqItems hp rfl ?_)));show wpAny _ _ (Builtin.SmallTypes.ownedTupleIsFree (.ref z) >>= _) _ _ _;unfold Builtin.SmallTypes.ownedTupleIsFree;refine wpAny_bind (wpAny_bind (wpAny_field hz rfl (x:=.none) rfl (wpAny_pure ?_)));simp only[if_true];refine wpAny_bind (wpAny_rule (wpAny_bind (wpAny_field hz rfl (x:=.ref b) rfl ?_)));refine wpAny_bind (wpAny_setField_rec hz (by simp) λg1 z1 s1=>?_);have z1:IsZip g1 z a b .ellipsis:=z1;refine wpAny_bind ?_;simp only[List.zipIdx_cons,List.zipIdx_nil,List.forIn_cons,List.forIn_nil];refine wpAny_bind (wpAny_bind (wpAny_onRaise ?_));show wpAny _ _ (Builtin.SmallTypes.nextOf (.ref i1) >>= _) _ _ _;have o1:RowI t1 g1 i1 l1 j:=q1.at λo e=>s1.extBut _ _ N.iz e;have m1:RowL t1 g1 l1 xs:=hl1.at λo e=>s1.extBut _ _ N.lz e;cases hx:xs[j]? with
 |none=>
  refine wpAny_bind (Mh (s:={ s with heap:=g1 }) hh o1 m1 hx λg2 e s2 he=>?_);obtain⟨oe,he1,he2⟩:=he;have z2:IsZip g2 z a b .ellipsis:=s2 _ _ N.iz.symm z1;have ne:e≠z:=λq=>by subst q;rw[z2]at he1;cases he1;simp at he2
  exact wpAny_setField_rec z2 (by simp) λg3 _ s3=>hE g3 e (λc o c1 _ c3 _ q=>s3.extBut _ _ c1 (s2 _ _ c3 (s1.extBut _ _ c1 q))) ⟨oe,s3.extBut _ _ ne he1,he2⟩
 |some x=>
  have hy:ys[k]?=none:=by
   rcases hend with q|q
   .rw[hx]at q;cases q
   .exact q
  refine wpAny_bind (JA (s:={ s with heap:=g1 }) o1 m1 hx λg2 r2 s2=>wpAny_pure ?_);have b2:IsPair g2 b u v:=s2.extBut _ _ N.bi (s1.extBut _ _ N.bz hb);refine wpAny_bind (wpAny_seqItems b2 rfl (wpAny_bind (wpAny_updateSeq_pair b2 λg3 b3 s3=>?_)));refine wpAny_bind (wpAny_letGo (wpAny_pure (wpAny_bind (wpAny_bind (wpAny_onRaise ?_)))));show wpAny _ _ (Builtin.SmallTypes.nextOf (.ref i2) >>= _) _ _ _;have q3:RowI t2 g3 i2 l2 k:=q2.at λo e=>s3.extBut _ _ N.bj.symm (s2.extBut _ _ N.ij.symm (s1.extBut _ _ N.jz e));have m3:RowL t2 g3 l2 ys:=hl2.at λo e=>s3.extBut _ _ N.mb (s2.extBut _ _ N.mi (s1.extBut _ _ N.mz e));refine wpAny_bind (Mh (s:={ s with heap:=g3 }) hh q3 m3 hy λg4 e s4 he=>?_);obtain⟨oe,he1,he2⟩:=he;have z4:IsZip g4 z a b .ellipsis:=s4 _ _ N.jz.symm (s3.extBut _ _ N.bz.symm (s2.extBut _ _ N.iz.symm z1));have ne:e≠z:=λq=>by subst q;rw[z4]at he1;cases he1;simp at he2
  exact wpAny_setField_rec z4 (by simp) λg5 _ s5=>hE g5 e (λc o c1 c2 c3 c4 q=>s5.extBut _ _ c1 (s4 _ _ c4 (s3.extBut _ _ c2 (s2.extBut _ _ c3 (s1.extBut _ _ c1 q))))) ⟨oe,s5.extBut _ _ ne he1,he2⟩
end
def SqS(K:PySem.W.Frag)(tp:Bool)(H:Hp)(a:Addr)(xs:List V):Prop:=match tp with
 |true=>SqT K H a xs
 |false=>SqL K H a xs
def Itz(K:PySem.W.Frag)(t1 t2:Bool)(a b:Addr):It:=
 ⟨λi H=>∃xs ys x y,SqS K t1 H a xs/\SqS K t2 H b ys/\xs[i]?=some x/\ys[i]?=some y,
  λi H x H'=>∃p u v,H p=none/\H'=upd H p (.tup [u,v])/\x=.ref p/\(∀xs,SqS K t1 H a xs->xs[i]?=some u)/\∀ys,SqS K t2 H b ys->ys[i]?=some v,
  λi H=>∃xs ys,SqS K t1 H a xs/\SqS K t2 H b ys/\(xs.length<=i∨ys.length<=i)⟩
section
variable{X:Cx}{pins:List (Addr×Obj)}{σ:List (Option V)}{H:Hp}{s:Shared}
theorem Inv.row{tp:Bool}{a:Addr}{xs:List V}(I:Inv X pins σ H s)(h:SqS X.K tp H a xs):∃its:List Value,Vals xs its/\RowL tp s.heap a its.toArray/\xs.length<=sizeLine:=by
 cases tp with
 |true=>obtain⟨its,r,p,z⟩:=I.tuple h;exact⟨its,r,(show s.heap.IsTuple a its.toArray from p),z⟩
 |false=>obtain⟨its,r,p,z⟩:=I.list h;exact⟨its,r,p.isList,z⟩
theorem Inv.row_inj{tp:Bool}{a:Addr}{xs ys:List V}(I:Inv X pins σ H s)(h:SqS X.K tp H a xs)(h':SqS X.K tp H a ys):xs=ys:=by
 cases tp with
 |true=>exact I.tuple_inj h h'
 |false=>exact I.list_inj h h'
end
theorem RowL.lt{tp:Bool}{h:Heap}{l:Addr}{xs:Array Value}(x:RowL tp h l xs):l<h.objs.size:=by
 obtain⟨o,n,e,_⟩:=x.obj;exact Heap.lt_size e
theorem W5{M:Model}{A:Around}{E:Value->Shared->Prop}{s:Shared}{elts:List Expr}{x1}{pos:Pos}{z a b T:Addr}{Q:Unit->Shared->Prop}(hz:IsZip s.heap z a b (rawInt T)){prog:Program}{w:World}
 (hQ:∀g,IsZip g z a b .none->Heap.SameBut z s.heap g->Q () { s with heap:=g }):wpAny (model prog w) A (letOwnedTupleGo (.Tuple elts x1 pos) (.ref z) (.ref T)) Q E s:=wpAny_letOwnedTupleGo_zip hz hQ
theorem S0{P:Program}{w:World}{K:PySem.W.Frag}{elts:List Expr}{kk:Nat}{tpos:Pos}{t1 t2:Bool}{z a b i1 i2 l1 l2:Addr}(N:ZNe z a b i1 i2 l1 l2):Turn P w K (.Tuple elts kk tpos) (Itz K t1 t2 l1 l2) [z,a,b,i1,i2] z (λi h=>ZAt t1 t2 h z a b i1 i2 l1 l2 .none i i) where
 mem:=by simp
 obj:=λi h st c hc=>by
  obtain⟨hz,hp,⟨u,v,hb⟩,q1,q2⟩:=st;simp only[mem_cons,not_mem_nil,or_false]at hc;rcases hc with rfl|rfl|rfl|rfl|rfl
  .exact⟨_,hz,λv z=>by cases(show Data.fields _=Data.cell v from z)⟩
  .exact⟨_,hp,λv z=>by cases(show Data.seq _ _=Data.cell v from z)⟩
  .exact⟨_,hb,λv z=>by cases(show Data.seq _ _=Data.cell v from z)⟩
  .obtain⟨o,e,d⟩:=q1.obj;exact⟨o,e,λv z=>by rw[d]at z;cases z⟩
  .obtain⟨o,e,d⟩:=q2.obj;exact⟨o,e,λv z=>by rw[d]at z;cases z⟩
 keep:=λi h h' st k=>by
  obtain⟨hz,hp,⟨u,v,hb⟩,q1,q2⟩:=st;exact⟨k z (by simp) _ hz,k a (by simp) _ hp,⟨u,v,k b (by simp) _ hb⟩,q1.at λo e=>k i1 (by simp) o e,q2.at λo e=>k i2 (by simp) o e⟩
 item:=by
  intro X hP hw hK hc i pins s σ H E I hf st hg;subst hP hw hK;obtain⟨xs,ys,x,y,h1,h2,hx,hy⟩:=hg;obtain⟨ix,rx,px,zx⟩:=I.row h1;obtain⟨iy,ry,py,zy⟩:=I.row h2;obtain⟨u,hu,ru⟩:=rx.get hx;obtain⟨v,hv,rv⟩:=ry.get hy;have hT:s.TypeIs (.ref z) "zip":=⟨_,st.z,rfl⟩
  unfold pyNext;refine wpAny_bind (wpAny_attempt (wpAny_callSpecial?_slot (name:=Str.ofString "__next__") hT F.slot_zip_next (wpAny_call_entry F.slot_zip_next hT F.entry_zip_next
   (Ru N st px py (x:=u) (y:=v) (by simpa using hu) (by simpa using hv) λg Z g5 kp=>wpAny_pure ⟨_,rfl,?_⟩) (F.args_zip_next_1 _))))
  refine W5 (M:=model X.prog X.w) (s:={ s with heap:=g }) Z.z λg' z' sb=>?_;have kp2:∀c o,c∉[z,a,b,i1,i2]->s.heap.get? c=some o->g'.get? c=some o:=λc o nc e=>by
   simp only[mem_cons,not_mem_nil,or_false,not_or]at nc;exact sb.extBut _ _ nc.1 (kp c o nc.1 nc.2.2.1 nc.2.2.2.1 nc.2.2.2.2 e)
  have hTz:s.heap.objs.size≠z:=ne_of_gt (Heap.lt_size st.z);have hpair:IsPair g' s.heap.objs.size u v:=sb.extBut _ _ hTz g5;have fresh:H s.heap.objs.size=none:=I.hok.fresh (le_refl _);have I2:Inv X pins σ (upd H s.heap.objs.size (.tup [x,y])) { s with heap:=g' }:=I.turnsL (tk:=s.toks) (o:=.tup [x,y]) kp2 hf (le_refl _)
   (show ObjOk X.prog X.w _ g' _ (.tup [x,y])from⟨by show 2<=sizeLine;decide,[u,v],.cons ru (.cons rv .nil),⟨_,hpair,rfl,⟨_,rfl⟩,rfl⟩⟩)
  refine⟨.ref s.heap.objs.size,_,I2,rfl,⟨_,x,y,fresh,rfl,rfl,λxs' q=>by rw[I.row_inj q h1];exact hx,λys' q=>by rw[I.row_inj q h2];exact hy⟩,⟨z',?_,?_,?_,?_⟩,λc hc=>?_⟩
  .exact sb.extBut _ _ N.az Z.p
  .obtain⟨p,q,e⟩:=Z.o;exact⟨p,q,sb.extBut _ _ N.bz e⟩
  .exact Z.r1.at λo e=>sb.extBut _ _ N.iz e
  .exact Z.r2.at λo e=>sb.extBut _ _ N.jz e
  .have lt:c<s.heap.objs.size:=by
    obtain⟨hz,hp,⟨u,v,hb⟩,q1,q2⟩:=st;simp only[mem_cons,not_mem_nil,or_false]at hc;rcases hc with rfl|rfl|rfl|rfl|rfl
    .exact Heap.lt_size hz
    .exact Heap.lt_size hp
    .exact Heap.lt_size hb
    .obtain⟨o,e,_⟩:=q1.obj;exact Heap.lt_size e
    .obtain⟨o,e,_⟩:=q2.obj;exact Heap.lt_size e
   rw[AJ (ne_of_lt lt)];exact(hf c hc).1
 done:=by
  intro X hP hw hK hc i pins s σ H E I hf st hg;subst hP hw hK;obtain⟨xs,ys,h1,h2,hend⟩:=hg;obtain⟨ix,rx,px,zx⟩:=I.row h1;obtain⟨iy,ry,py,zy⟩:=I.row h2;have l1':=rx.length;have l2':=ry.length;have hT:s.TypeIs (.ref z) "zip":=⟨_,st.z,rfl⟩
  unfold pyNext;refine wpAny_bind (wpAny_attempt (wpAny_callSpecial?_slot (name:=Str.ofString "__next__") hT F.slot_zip_next (wpAny_call_entry F.slot_zip_next hT F.entry_zip_next
   (Rt (A:=X.A.in1) (show X.A.in1.handled=none from I.ok.hd hc) N st px py (hend.imp (λq=>by simp;omega) λq=>by simp;omega) λg e kp he=>?_) (F.args_zip_next_1 _))))
  obtain⟨o,ho,hcl⟩:=he;refine wpAny_bind (wpAny_isInstance (T:="StopIteration") (b:=true) ⟨o,ho,hcl⟩ isSubtype_stop (wpAny_pure ⟨rfl,?_⟩));exact I.turns (tk:=s.toks) (λc o nc e=>by
   simp only[mem_cons,not_mem_nil,or_false,not_or]at nc;exact kp c o nc.1 nc.2.2.1 nc.2.2.2.1 nc.2.2.2.2 e) hf
 self:=λ_ _ _ _ _ st h=>wpAny_pyIter_zip st.z h
abbrev Ev(tp:Bool)(l:Addr):Obj:={ cls:=.type (match tp with|true=>"tuple_iterator" | false=>"list_iterator"),data:=.fields #[.ref l,.int 0 0] }
abbrev zh1(t1:Bool)(h:Heap)(l1:Addr):Heap:=h.push (Ev t1 l1)
abbrev zh2(t1 t2:Bool)(h:Heap)(l1 l2:Addr):Heap:=(zh1 t1 h l1).push (Ev t2 l2)
abbrev zh3(t1 t2:Bool)(h:Heap)(l1 l2:Addr):Heap:=(zh2 t1 t2 h l1 l2).push { cls:=.type "tuple",data:=.seq #[.ref h.objs.size,.ref (zh1 t1 h l1).objs.size] }
abbrev zh4(t1 t2:Bool)(h:Heap)(l1 l2:Addr):Heap:=(zh3 t1 t2 h l1 l2).push { cls:=.type "tuple",data:=.seq #[.none,.none] }
abbrev zh5(t1 t2:Bool)(h:Heap)(l1 l2:Addr):Heap:=(zh4 t1 t2 h l1 l2).push { cls:=.type "zip",data:=.fields #[.none,.bool false,.bool false,.ref (zh2 t1 t2 h l1 l2).objs.size,.ref (zh3 t1 t2 h l1 l2).objs.size] }
set_option maxHeartbeats 4000000 in
theorem Rv(t1 t2:Bool)(l1 l2:Addr)(xs ys:Array Value):
 Meets (Builtin.«zip.__new__» ⟨[.type "zip",.ref l1,.ref l2],[]⟩) (λ_ R s=>RowL t1 s.heap l1 xs/\RowL t2 s.heap l2 ys/\R (.ok (.ret (.ref (zh4 t1 t2 s.heap l1 l2).objs.size))) { s with heap:=zh5 t1 t2 s.heap l1 l2 }):=
 .of_wp λprog w A R s h=>by
  obtain⟨hp,g,d,tk,os⟩:=s;obtain⟨q1,q2,h⟩:=h;have hsub:=sub_zip;have q2':RowL t2 (hp.push (Ev t1 l1)) l2 ys:=q2.at λo e=>Heap.get?_push_of_some _ e;cases t1<;>cases t2
  .have p1:Heap.IsList (Shared.heap ⟨hp,g,d,tk,os⟩) l1 xs:=q1;have p2:Heap.IsList (Shared.heap ⟨hp.push (Ev false l1),g,d,tk,os⟩) l2 ys:=q2'
   wp_walk using wpAny_pyIter_list p1,wpAny_pyIter_list p2
   exact⟨_,rfl,h⟩
  .have p1:Heap.IsList (Shared.heap ⟨hp,g,d,tk,os⟩) l1 xs:=q1;have p2:Heap.IsTuple (Shared.heap ⟨hp.push (Ev false l1),g,d,tk,os⟩) l2 ys:=q2'
   wp_walk using wpAny_pyIter_list p1,wpAny_pyIter_tuple p2
   exact⟨_,rfl,h⟩
  .have p1:Heap.IsTuple (Shared.heap ⟨hp,g,d,tk,os⟩) l1 xs:=q1;have p2:Heap.IsList (Shared.heap ⟨hp.push (Ev true l1),g,d,tk,os⟩) l2 ys:=q2'
   wp_walk using wpAny_pyIter_tuple p1,wpAny_pyIter_list p2
   exact⟨_,rfl,h⟩
  .have p1:Heap.IsTuple (Shared.heap ⟨hp,g,d,tk,os⟩) l1 xs:=q1;have p2:Heap.IsTuple (Shared.heap ⟨hp.push (Ev true l1),g,d,tk,os⟩) l2 ys:=q2'
   wp_walk using wpAny_pyIter_tuple p1,wpAny_pyIter_tuple p2
   exact⟨_,rfl,h⟩
theorem UC{n l1 l2:Addr}(h1:l1<n)(h2:l2<n):ZNe (n+4) (n+2) (n+3) n (n+1) l1 l2:=by
 have k1:@LT.lt Nat _ l1 n:=h1;have k2:@LT.lt Nat _ l2 n:=h2;constructor<;>(intro z;have z:@Eq Nat _ _:=z;omega)
theorem Nq{tp:Bool}{h:Heap}{a l:Addr}(e:h.get? a=some (Ev tp l)):RowI tp h a l 0:=by
 cases tp with
 |true=>exact⟨_,e,rfl,rfl⟩
 |false=>exact⟨_,e,rfl,rfl⟩
section
variable{prog:Program}{w:World}{A:Around}{E:Value->Shared->Prop}{s:Shared}
theorem Rx{t1 t2:Bool}{l1 l2:Addr}{xs ys:Array Value}{Q:Value->Shared->Prop}(q1:RowL t1 s.heap l1 xs)(q2:RowL t2 s.heap l2 ys)
 (h:∀g,ZAt t1 t2 g (s.heap.objs.size+4) (s.heap.objs.size+2) (s.heap.objs.size+3) s.heap.objs.size (s.heap.objs.size+1) l1 l2 .none 0 0->(∀c o,s.heap.get? c=some o->g.get? c=some o)->Q (.ref (s.heap.objs.size+4)) { s with heap:=g }):
 wpAny (model prog w) A (call (.type "zip") [.ref l1,.ref l2]) Q E s:=by
 refine callType_new F.called_zip (by decide) (F.typeCall_zip_2 _ _) (F.newCall_zip_2 _ _) (λobj=>F.args_object_init_3 obj _ _) F.entry_zip_new (Rv t1 t2 l1 l2 xs ys) ⟨q1,q2,?_⟩;have n1:(zh1 t1 s.heap l1).objs.size=s.heap.objs.size+1:=Heap.size_push ..;have n2:(zh2 t1 t2 s.heap l1 l2).objs.size=s.heap.objs.size+2:=by rw[Heap.size_push,n1]
 have n3:(zh3 t1 t2 s.heap l1 l2).objs.size=s.heap.objs.size+3:=by rw[Heap.size_push,n2]
 have n4:(zh4 t1 t2 s.heap l1 l2).objs.size=s.heap.objs.size+4:=by rw[Heap.size_push,n3]
 have up:∀{g:Heap} {c:Addr} {o x:Obj},g.get? c=some o->(g.push x).get? c=some o:=λe=>Heap.get?_push_of_some _ e;have e5:(zh5 t1 t2 s.heap l1 l2).get? (zh4 t1 t2 s.heap l1 l2).objs.size=some _:=Heap.get?_push_size _ rfl;have e4:(zh5 t1 t2 s.heap l1 l2).get? (zh3 t1 t2 s.heap l1 l2).objs.size=some _:=up (Heap.get?_push_size _ rfl);have e3:(zh5 t1 t2 s.heap l1 l2).get? (zh2 t1 t2 s.heap l1 l2).objs.size=some _:=up (up (Heap.get?_push_size _ rfl));have e2:(zh5 t1 t2 s.heap l1 l2).get? (zh1 t1 s.heap l1).objs.size=some (Ev t2 l2):=up (up (up (Heap.get?_push_size _ (by cases t2<;>rfl))));have e1:(zh5 t1 t2 s.heap l1 l2).get? s.heap.objs.size=some (Ev t1 l1):=up (up (up (up (Heap.get?_push_size _ (by cases t1<;>rfl)))));show _/\_;rw[n2,n3,n4]at e5;rw[n1,n2]at e3;rw[n3]at e4;rw[n1]at e2;rw[n4];exact⟨⟨_,e5,rfl⟩,h _ ⟨e5,e3,⟨_,_,e4⟩,Nq e1,Nq e2⟩ λc o x=>up (up (up (up (up x))))⟩
end
def PN(K:PySem.W.Frag)(t1 t2:Bool)(ta:TA):TI:=λσ H R=>ta σ H λvs H1=>∃a b xs ys,vs=[.ref a,.ref b]/\SqS K t1 H1 a xs/\SqS K t2 H1 b ys/\R (Itz K t1 t2 a b) H1
section
variable{X:Cx}
theorem XB{t1 t2:Bool}{a b:Expr}{ta:TA}{elts:List Expr}{kk:Nat}{tpos p pos:Pos}(hg:Gl X "zip")(hm:X.mg "zip"=none)(ha:PA X [a,b] ta)(hs:starEach [a,b] X.env=[(false,eval a X.env),(false,eval b X.env)]:=by rfl)(hs2:starEach [b] X.env=[(false,eval b X.env)]:=by rfl):
 PI X (.Tuple elts kk tpos) (.Call (.Name "zip" p) [a,b] [] pos) (PN X.K t1 t2 ta):=by
 intro pins s σ H R I h;refine Call_ (FA I hg hm boot_zip (PyProof.Rows.callWith_type1 (thn (ha pos pins s σ H _ I h) λus s1 ⟨vs,H1,I1,r1,q1⟩=>?_) (by rw[hs,hs2]) (by rw[hs2];rfl)));obtain⟨l1,l2,xs,ys,e,c1,c2,q⟩:=q1;subst e;obtain⟨u,v,rfl,ru,rv⟩:=Lv r1;cases ru;cases rv;obtain⟨ix,rx,px,zx⟩:=I1.row c1;obtain⟨iy,ry,py,zy⟩:=I1.row c2;refine Rx px py λg Z kp=>wpAny_pyIter_zip Z.z ?_;refine⟨_,_,_,_,H1,rfl,I1.kept (t':=s1.toks) kp,S0 (UC px.lt py.lt),Z,λc hc=>?_,q⟩;simp only[mem_cons,not_mem_nil,or_false]at hc;have le:s1.heap.objs.size<=c:=by
  rcases hc with rfl|rfl|rfl|rfl|rfl
  .exact Nat.le_add_right _ _
  .exact Nat.le_add_right _ _
  .exact Nat.le_add_right _ _
  .exact le_refl _
  .exact Nat.le_add_right _ _
 exact I1.fpOk le (I1.hok.fresh le)
theorem VH(K:PySem.W.Frag){t1 t2:Bool}{a b:Expr}{ta:TA}{elts:List Expr}{kk:Nat}{tpos p pos:Pos}(hg:Gl X "zip")(hm:X.mg "zip"=none)(ha:PA X [a,b] ta)(hK:X.K=K:=by rfl)(hs:starEach [a,b] X.env=[(false,eval a X.env),(false,eval b X.env)]:=by rfl)(hs2:starEach [b] X.env=[(false,eval b X.env)]:=by rfl):
 PI X (.Tuple elts kk tpos) (.Call (.Name "zip" p) [a,b] [] pos) (PN K t1 t2 ta):=by subst hK;exact XB hg hm ha hs hs2
end
def Yx(K:PySem.W.Frag)(ρ:List Addr)(H:Hp)(tp:Bool)(a:Addr)(ds:List D)(g:Gd):Prop:=∀(ρ2:List Addr) (H2:Hp) (hd2:Hd),Ext ρ H ρ2 H2->RH K ρ2 H2 hd2->GOk hd2 g->∃xs,SqS K tp H2 a xs/\RDs K ρ2 H2 ds xs
def RRw(K:PySem.W.Frag)(tp:Bool)(t:TE)(m:MI):Prop:=∀(ρ:List Addr) (σ:St) (H:Hp) (hd:Hd) (ls:Ls) (Q:VK) (d:List D) (g:Gd) (hd':Hd),RH K ρ H hd->RL K ρ H ls σ->m ls hd=some ((d,g),hd') ->
 (∀ρ' H' a,Ext ρ H ρ' H'->RH K ρ' H' hd'->GOk hd' g->Yx K ρ' H' tp a d g->Q (.ref a) H')->t σ H Q
structure QR(K:PySem.W.Frag)(tp:Bool)(X:Cx)(e:Expr)(t:TE)(m:MI):Prop where
 p:PE X e t
 r:RRw K tp t m
section
variable{K:PySem.W.Frag}{ρ ρ':List Addr}{H H':Hp}{hd hd':Hd}
theorem WV{t:TE}{m:ME}(h:RE K t m):RRw K true t (BG m):=by
 intro ρ σ H hd ls Q d g hd' hR hL hm hQ;obtain⟨⟨d1,h1⟩,e1,hm⟩:=fK hm;obtain⟨ds,e2,e3⟩:=fL hm;cases e3;refine h ρ σ H hd ls _ d1 _ hR hL e1 λρ1 H1 v x1 R1 r1=>?_;obtain⟨a,xs,rfl,q,r⟩:=r1.tup e2;exact hQ ρ1 H1 a x1 R1 (AV _) λρ2 H2 hd2 x2 R2 _=>⟨xs,(x2.grow R1).sq q,r.ext R1 x2⟩
theorem UX{t:TE}{m:ME}(h:RE K t m):RRw K false t (EX m):=by
 intro ρ σ H hd ls Q d g hd' hR hL hm hQ;obtain⟨⟨d1,h1⟩,e1,hm⟩:=fK hm;dsimp only at hm;split at hm
 .next n=>
  split at hm
  .next ds q=>
   cases hm;refine h ρ σ H hd ls _ _ _ hR hL e1 λρ1 H1 v x1 R1 r1=>?_;simp only[RD]at r1;obtain⟨a,hn,rfl⟩:=r1;refine hQ ρ1 H1 a x1 R1 (λp z=>by simp at z;subst z;exact q) λρ2 H2 hd2 x2 R2 G2=>?_;have hn2:ρ2[n]?=some a:=by
    obtain⟨r,rfl,_⟩:=x2.pre;rw[List.getElem?_append_left (List.getElem?_eq_some_iff.mp hn).1];exact hn
   obtain⟨ys,e4,e5⟩:=R2.lst hn2 (G2 (n,d) (by simp));exact⟨ys,SqL.of e4,e5⟩
  .cases hm
 .next ns=>
  cases hm;refine h ρ σ H hd ls _ _ _ hR hL e1 λρ1 H1 v x1 R1 r1=>?_;simp only[RD]at r1;obtain⟨a,rfl,q⟩:=r1;exact hQ ρ1 H1 a x1 R1 (AV _) λρ2 H2 hd2 x2 R2 _=>⟨_,(q.grow (x2.grow R1)).sq,FS⟩
 .cases hm
open Classical in
def Hl(ma mb:MI):MI:=λls hd=>(ma ls hd).bind λp=>(mb ls p.2).bind λq=>if GOk q.2 p.1.2 then some ((List.zipWith (λx y=>Av [x,y]) p.1.1 q.1.1,p.1.2++q.1.2),q.2)else none
theorem Wj{t1 t2:Bool}{ta tb:TE}{ma mb:MI}(ha:RRw K t1 ta ma)(hb:RRw K t2 tb mb):RIt K (PN K t1 t2 (CP ta (CP tb E6))) (Hl ma mb):=by
 intro ρ σ H hd ls Q d g hd' hR hL hm hQ;obtain⟨⟨⟨d1,g1⟩,h1⟩,e1,hm⟩:=fK hm;obtain⟨⟨⟨d2,g2⟩,h2⟩,e2,hm⟩:=fK hm;dsimp only at hm;split at hm
 .next gk=>
  cases hm;refine ha ρ σ H hd ls _ d1 g1 h1 hR hL e1 λρ1 H1 a x1 R1 G1 S1=>?_;refine hb ρ1 σ H1 h1 ls _ d2 g2 _ R1 (hL.ext hR x1) e2 λρ2 H2 b x2 R2 G2 S2=>?_;obtain⟨xs,c1,r1⟩:=S1 ρ2 H2 _ x2 R2 gk;obtain⟨ys,c2,r2⟩:=S2 ρ2 H2 _ .refl R2 G2;refine⟨a,b,xs,ys,rfl,c1,c2,hQ ρ2 H2 _ (x1.trans R1 x2) R2 (λp hp=>(mem_append.mp hp).elim (gk p) (G2 p)) ?_⟩;intro ρ3 H3 hd3 x3 R3 G3 i;obtain⟨xs,c1,r1⟩:=S1 ρ3 H3 _ (x2.trans R2 x3) R3 λp hp=>G3 p (mem_append_left _ hp);obtain⟨ys,c2,r2⟩:=S2 ρ3 H3 _ x3 R3 λp hp=>G3 p (mem_append_right _ hp);have l1:=r1.len;have l2:=r2.len;refine⟨λhi=>?_,λhi=>⟨xs,ys,c1,c2,?_⟩⟩
  .simp only[List.length_zipWith]at hi;have i1:d1[i]?=some (d1[i]'(by omega)):=List.getElem?_eq_getElem _;have i2:d2[i]?=some (d2[i]'(by omega)):=List.getElem?_eq_getElem _;obtain⟨x,x4,x5⟩:=r1.get i1;obtain⟨y,y4,y5⟩:=r2.get i2;refine⟨⟨xs,ys,x,y,c1,c2,x4,y4⟩,λz H4 hz=>?_⟩;obtain⟨p,u,v,fp,rfl,rfl,hu,hv⟩:=hz;have eu:=hu xs c1;rw[x4]at eu;cases eu;have ev:=hv ys c2;rw[y4]at ev;cases ev;obtain⟨R4,x6⟩:=R3.hid (ho:=.tup [x,y]) fp;refine⟨ρ3,Av [d1[i]'(by omega),d2[i]'(by omega)],x6,rfl,R4,?_,CF (SqT.of Af) (.cons (x5.ext R3 x6) (.cons (y5.ext R3 x6) .nil))⟩;simp[List.getElem?_zipWith,i1,i2]
  .simp only[List.length_zipWith]at hi;omega
 .cases hm
end
section
variable(K:PySem.W.Frag){X:Cx}{a b e:Expr}{ta tb te:TE}{me:ME}{m:MA}
theorem Jw(h:QE K X e te me):QR K true X e te (BG me):=⟨h.p,WV h.r⟩
theorem V0(h:QE K X e te me):QR K false X e te (EX me):=⟨h.p,UX h.r⟩
theorem Qc{t1 t2:Bool}{ma mb:MI}{elts:List Expr}{kk:Nat}{tpos p pos:Pos}(hm:X.mg "zip"=none)(ha:QR K t1 X a ta ma)(hb:QR K t2 X b tb mb)(hg:Gl X "zip":=by rfl)(hK:X.K=K:=by rfl)(hs:starEach [a,b] X.env=[(false,eval a X.env),(false,eval b X.env)]:=by rfl)(hs2:starEach [b] X.env=[(false,eval b X.env)]:=by rfl):
 QI K X (.Tuple elts kk tpos) (.Call (.Name "zip" p) [a,b] [] pos) (PN K t1 t2 (CP ta (CP tb E6))) (Hl ma mb):=⟨VH K hg hm (Dd ha.p (Dd hb.p F6 hs2) (by rw[hs,hs2])) hK hs hs2,Wj ha.r hb.r⟩
end
section
variable{K:PySem.W.Frag}
def DQ(ml:MA)(mb:ME):ME:=λls hd=>(ml ls hd).bind λp=>(mb ls p.2).bind λq=>match q.1 with
 |.im (.int i)=>(atI p.1 i).map (·,q.2)
 |_=>none
theorem Wt{ta tb:TE}{ml:MA}{mb:ME}(ha:RN K ta ml)(hb:RE K tb mb):RE K (tOp (M1 K) ta tb) (DQ ml mb):=by
 intro ρ σ H hd ls Q d hd' hR hL hm hQ;obtain⟨⟨d1,h1⟩,e1,hm⟩:=fK hm;obtain⟨⟨d2,h2⟩,e2,hm⟩:=fK hm;dsimp only at hm;split at hm
 .obtain⟨w,e3,e4⟩:=fL hm;cases e4;refine ha ρ σ H hd ls _ d1 h1 hR hL e1 λρ1 H1 a xs x1 R1 na oa ea r1=>?_;refine hb ρ1 σ H1 h1 ls _ _ _ R1 (hL.ext hR x1) e2 λρ2 H2 v2 x2 R2 r2=>?_;simp only[RD,RI]at r2;subst r2;have r1':=r1.ext R1 x2;obtain⟨j,j1,j2⟩:=OX r1'.len e3;obtain⟨x,y1,y2⟩:=r1'.get j1;exact .inl ⟨a,xs,_,x,rfl,rfl,SqL.of (x2.keep a _ ea oa nt),j2 x y1,hQ ρ2 H2 x (x1.trans R1 x2) R2 y2⟩
 .cases hm
def G7(neg:Bool)(x y:PyData)(hd:Hd):Option (D×Hd):=if x.canLay0=true/\y.canLay0=true/\min x.depth y.depth<=60 then some (.im (.bl (if neg then !PyData.eqv x y else PyData.eqv x y)),hd)else none
def Cb(neg:Bool)(ma:ME)(ml:MA):ME:=λls hd=>(ma ls hd).bind λp=>(ml ls p.2).bind λq=>(pyD q.2 p.1).bind λx=>(Bv q.1).bind λis=>G7 neg x (.list (I.pys is)) q.2
def Et(neg:Bool)(ml mk:MA):ME:=λls hd=>(ml ls hd).bind λp=>(mk ls p.2).bind λq=>(Bv p.1).bind λis=>(Bv q.1).bind λjs=>G7 neg (.list (I.pys is)) (.list (I.pys js)) q.2
def rEN(K:PySem.W.Frag)(neg:Bool):R2:=λx y H Q=>∃d e,Rep K H d x/\Rep K H e y/\d.canLay0=true/\e.canLay0=true/\min d.depth e.depth<=60/\Q (.bl (if neg then !PyData.eqv d e else PyData.eqv d e)) H
theorem Km{ρ:List Addr}{H:Hp}{a:Addr}{xs:List V}{ds:List D}{is:List I}(ea:H a=some (.lst xs))(r:RDs K ρ H ds xs)(e:Bv ds=some is):Rep K H (.list (I.pys is)) (.ref a):=by
 rw[HG e]at r;simp only[Rep];exact⟨a,xs,rfl,SqL.of ea,r.is.rep⟩
theorem Ur{neg:Bool}{ta tb:TE}{ma:ME}{ml:MA}(ha:RE K ta ma)(hb:RN K tb ml):RE K (tOp (rEN K neg) ta tb) (Cb neg ma ml):=by
 intro ρ σ H hd ls Q d hd' hR hL hm hQ;obtain⟨⟨d1,h1⟩,e1,hm⟩:=fK hm;obtain⟨⟨d2,h2⟩,e2,hm⟩:=fK hm;obtain⟨x,e3,hm⟩:=fK hm;obtain⟨is,e4,hm⟩:=fK hm;unfold G7 at hm;split at hm
 .next c=>
  cases hm;refine ha ρ σ H hd ls _ d1 h1 hR hL e1 λρ1 H1 v x1 R1 r1=>?_;refine hb ρ1 σ H1 h1 ls _ d2 _ R1 (hL.ext hR x1) e2 λρ2 H2 a xs x2 R2 na oa ea r2=>?_;exact⟨_,_,FP R2 (r1.ext R1 x2) e3,Km ea r2 e4,c.1,c.2.1,c.2.2,hQ ρ2 H2 _ (x1.trans R1 x2) R2 (by simp[RD,RI])⟩
 .cases hm
theorem Nt{neg:Bool}{ta tb:TE}{ml mk:MA}(ha:RN K ta ml)(hb:RN K tb mk):RE K (tOp (rEN K neg) ta tb) (Et neg ml mk):=by
 intro ρ σ H hd ls Q d hd' hR hL hm hQ;obtain⟨⟨d1,h1⟩,e1,hm⟩:=fK hm;obtain⟨⟨d2,h2⟩,e2,hm⟩:=fK hm;obtain⟨is,e4,hm⟩:=fK hm;obtain⟨js,e3,hm⟩:=fK hm;unfold G7 at hm;split at hm
 .next c=>
  cases hm;refine ha ρ σ H hd ls _ d1 h1 hR hL e1 λρ1 H1 a xs x1 R1 na oa ea r1=>?_;refine hb ρ1 σ H1 h1 ls _ d2 _ R1 (hL.ext hR x1) e2 λρ2 H2 b ys x2 R2 nb ob eb r2=>?_;exact⟨_,_,Km (x2.keep a _ ea oa nt) (r1.ext R1 x2) e4,Km eb r2 e3,c.1,c.2.1,c.2.2,hQ ρ2 H2 _ (x1.trans R1 x2) R2 (by simp[RD,RI])⟩
 .cases hm
end
theorem Hg(K:PySem.W.Frag){X:Cx}(hu:X.A.units+64<cLine)(hK:X.K=K:=by rfl):OpR X (compareOp .Eq) (rEN K false):=BE K hu hK
theorem Jz(K:PySem.W.Frag){X:Cx}(hu:X.A.units+64<cLine)(hK:X.K=K:=by rfl):OpR X (compareOp .NotEq) (rEN K true):=FQ K hu hK
section
variable(K:PySem.W.Frag){X:Cx}{a b e:Expr}{ta tb te:TE}{ma mb me:ME}{m mk:MA}{pos:Pos}{op:CmpOp}{neg:Bool}
theorem He(ha:QN K X a ta m)(hb:QE K X b tb mb)(hs:LH b:=by exact λ_ _=>rfl)(hK:X.K=K:=by rfl):QE K X (.Subscript a b pos) (tOp (M1 K) ta tb) (DQ m mb):=⟨U2 ((N7 K hK).or (OI K hK)) ha.p hb.p hs,Wt ha.r hb.r⟩
theorem O2(ho:OpR X (compareOp op) (rEN K neg))(ha:QN K X a ta m)(hb:QN K X b tb mk)(hm:behindInMarks op b=false:=by first|exact GL _|rfl):QE K X (.Compare a [op] [b] pos) (tOp (rEN K neg) ta tb) (Et neg m mk):=⟨O4 ho ha.p hb.p hm,Nt ha.r hb.r⟩
theorem GH(ho:OpR X (compareOp op) (rEN K neg))(ha:QE K X a ta ma)(hb:QN K X b tb m)(hm:behindInMarks op b=false:=by first|exact GL _|rfl):QT K X (.Compare a [op] [b] pos) (IJ (tOp (rEN K neg) ta tb)) (AU (Cb neg ma m)):=⟨IV ho ha.p hb.p hm,FO (Ur ha.r hb.r)⟩
theorem Nz(ho:OpR X (compareOp op) (rEN K neg))(ha:QN K X a ta m)(hb:QN K X b tb mk)(hm:behindInMarks op b=false:=by first|exact GL _|rfl):QT K X (.Compare a [op] [b] pos) (IJ (tOp (rEN K neg) ta tb)) (AU (Et neg m mk)):=⟨IV ho ha.p hb.p hm,FO (Nt ha.r hb.r)⟩
end
def CG(lo:Int):Nat->List V
 |0=>[]
 |n+1=>.int lo::CG (lo+1) n
theorem Oy(lo:Int)(n:Nat):(CG lo n).length=n:=by
 induction n generalizing lo with
 |zero=>rfl
 |succ n ih=>simp[CG,ih]
theorem Mo{K:PySem.W.Frag}{ρ:List Addr}{H:Hp}(lo:Int)(n:Nat):RDs K ρ H (An lo n) (CG lo n):=by
 induction n generalizing lo with
 |zero=>simp[An,CG,RDs]
 |succ n ih=>exact .cons (by simp[RD,RI]) (ih _)
theorem Jq{lo:Int}:∀{n:Nat} {us:List Value},us.length=n->(∀(j:Nat) (v:Value),us[j]?=some v->∃t,v=.int (lo+j*1) t)->Vals (CG lo n) us
 |0,us,h,_=>by
  have:us=[]:=length_eq_zero_iff.mp h;subst this;exact .nil
 |n+1,[],h,_=>by simp at h
 |n+1,u::us,h,k=>by
  obtain⟨t,e⟩:=k 0 u rfl;refine .cons ⟨t,by rw[e];simp⟩ (Jq (by simpa using h) λj v q=>?_);obtain⟨t',e'⟩:=k (j+1) v (by simpa using q);exact⟨t',by rw[e'];congr 1;push_cast;omega⟩
section
variable{prog:Program}{w:World}{A:Around}{E:Value->Shared->Prop}{s:Shared}
theorem Nc{Q:List Value->Shared->Prop}{r:Addr}{a b c:Int}{t u v:Tok}{n:Nat}(hh:A.handled=none)(hr:IsRange s.heap r a b c t u v)(hsm:Builtin.Range.small a b c=true)(hn:Builtin.Range.rangeSize a b c=n)(hl:n<=2^24)
 (hQ:∀g tk (acc:Array Value),(∀b o,s.heap.get? b=some o->g.get? b=some o)->ItemsOf (λi v=>∃t,v=.int (a+i*c) t) acc n->Q acc.toList { s with heap:=g,toks:=tk }):
 wpAny (model prog w) A (collect (.ref r)) Q E s:=by
 unfold collect;refine wpAny_bind (wpAny_runValue (codeAny_builtin F.entry_proto_collect ?_));rw[Around.under_plainId F.plain_proto_collect _];show wpAny _ A.in1 (newList [] >>= λl=>again (.builtin "list.__iadd__" ⟨[l,.ref r],[]⟩)) _ _ s;refine wpAny_bind (wpAny_newObj_type (wpAny_pure ⟨plainId_quiet F.plain_list_iadd _,codeAny_builtin F.entry_list_iadd ?_⟩));rw[Around.under_plainId F.plain_list_iadd _];show wpAny _ A.in1 (Builtin.List.listExtendWith (.ref s.heap.objs.size) (.ref r) (.ref s.heap.objs.size)) _ _ _;have e0:(s.heap.push { cls:=.type "list",data:=.seq ([]:List Value).toArray }).get? s.heap.objs.size=some { cls:=.type "list",data:=.seq #[] 0 }:=Heap.get?_push_size _ rfl;have fin:∀g tk (acc:Array Value) c',(∀b o,b≠s.heap.objs.size->(s.heap.push { cls:=.type "list",data:=.seq ([]:List Value).toArray }).get? b=some o->g.get? b=some o)->g.get? s.heap.objs.size=some { cls:=.type "list",dict:=none,data:=.seq acc c',slots:=#[] }->ItemsOf (λi v=>∃t,v=.int (a+i*c) t) acc n ->
  wpAny (model prog w) A (load s.heap.objs.size >>= λo=>match o.data with|Data.seq xs epoch=>pure xs.toList|x=>unsupported "internal:collect") Q E { s with heap:=g,toks:=tk }:=λg tk acc c' kp eS it=>
  wpAny_bind (wpAny_load eS (wpAny_pure (hQ g tk acc (λb o q=>kp b o (ne_of_lt (Heap.lt_size q)) (Heap.get?_push_of_some _ q)) it)))
 refine wpAny_mono (wpAny_extend_range (A:=A) (R:=λr s'=>r=.ok (.ret (.ref s.heap.objs.size))/\∃g tk,s'={ s with heap:=g,toks:=tk }/\wpAny (model prog w) A (load s.heap.objs.size >>= λo=>match o.data with|Data.seq xs epoch=>pure xs.toList|x=>unsupported "internal:collect") Q E s')
  (s:={ s with heap:=s.heap.push { cls:=.type "list",data:=.seq ([]:List Value).toArray } }) hh (Heap.get?_push_of_some _ hr) hsm hn hl s.heap.objs.size (.ref s.heap.objs.size) 0 e0 λg tk acc c' kp eS it=>⟨rfl,g,tk,rfl,fin g tk acc c' kp eS it⟩) (λfn s' h=>?_) (λe s' h=>absurd h.1 (by simp))
 cases fn with
 |done f=>
  obtain⟨e,_,_,_,q⟩:=h;cases e;exact q
 |again c'=>exact⟨h.1,codeAny_mono h.2 λr s'' hr=>by obtain⟨rfl,_,_,_,q⟩:=hr;exact q⟩
end
def Nx:List V->Hp->VK->Prop:=λxs H Q=>∃j:Int,xs=[.int j]/\∀p,H p=none->Q (.ref p) (upd H p (.rng 0 j))
def Nw:List V->Hp->VK->Prop:=λxs H Q=>∃i j:Int,xs=[.int i,.int j]/\∀p,H p=none->Q (.ref p) (upd H p (.rng i j))
def Ms:List V->Hp->VK->Prop:=λxs H Q=>∃a lo hi,xs=[.ref a]/\H a=some (.rng lo hi)/\(-(2^62)<=lo/\lo<2^62/\-(2^62)<=hi/\hi<2^62)/\(hi-lo).toNat<=2^24/\∀p,H p=none->Q (.ref p) (upd H p (.lst (CG lo (hi-lo).toNat)))
section
variable{X:Cx}
theorem call_rng1:CallR X (.type "range") Nx:=by
 intro pins s σ H xs us Q I r h;obtain⟨j,rfl,q⟩:=h;obtain⟨u,rfl,t,rfl⟩:=Co r;exact call_range_1 ⟨.ref s.heap.objs.size,_,I.laid (a:=s.heap.objs.size) (o:=.rng 0 j) (λb o e=>Heap.get?_push_of_some _ e) (le_refl _) ⟨_,_,_,Heap.get?_push_size _ rfl⟩,rfl,q _ (I.hok.fresh (le_refl _))⟩
theorem Lc:CallR X (.type "range") Nw:=by
 intro pins s σ H xs us Q I r h;obtain⟨i,j,rfl,q⟩:=h;obtain⟨u,v,rfl,⟨t,rfl⟩,⟨t',rfl⟩⟩:=Lv r;exact call_range_2 ⟨.ref s.heap.objs.size,_,I.laid (a:=s.heap.objs.size) (o:=.rng i j) (λb o e=>Heap.get?_push_of_some _ e) (le_refl _) ⟨_,_,_,Heap.get?_push_size _ rfl⟩,rfl,q _ (I.hok.fresh (le_refl _))⟩
theorem Tn{lo hi:Int}:Builtin.Range.rangeSize lo hi 1=((hi-lo).toNat:Nat):=by rw[rangeSize_one];split<;>omega
theorem KD{lo:Int}{n:Nat}{acc:Array Value}(it:ItemsOf (λi v=>∃t,v=.int (lo+i*1) t) acc n):Vals (CG lo n) acc.toList:=Jq (by simpa using it.1) λj v q=>it.2 j v (by simpa using q)
theorem Pp(hc:X.calm=true):CallR X (.type "list") Ms:=by
 intro pins s σ H xs us Q I r h;obtain⟨a,lo,hi,rfl,ha,⟨b1,b2,b3,b4⟩,hz,q⟩:=h;obtain⟨u,rfl,ru⟩:=Co r;cases ru;obtain⟨t,u,v,hr⟩:∃t u v,s.heap.get? a=some { cls:=.type "range",data:=.fields #[.int lo t,.int hi u,.int 1 v] }:=I.hok a _ ha;refine call_list_range (I.ok.hd hc) hr (small_one b1 b2 b3 b4) Tn hz λg tk acc c' kp e it=>?_;exact⟨.ref s.heap.objs.size,_,I.laid (t':=tk) (o:=.lst _) kp (le_refl _) ⟨by rw[Oy,sizeLine_eq];omega,acc.toList,c',KD it,by simpa using e⟩,rfl,q _ (I.hok.fresh (le_refl _))⟩
end
section
variable{K:PySem.W.Frag}
open Classical in
def Go(m:MA):MA:=λls hd=>(m ls hd).bind λp=>match p.1 with
 |[.im (.int j)]=>if Jn j then some (An 0 j.toNat,p.2)else none
 |[.im (.int i),.im (.int j)]=>if To i j then some (An i (j-i).toNat,p.2)else none
 |_=>none
def Jt:List V->Hp->VK->Prop:=λxs H Q=>Nx xs H Q∨Nw xs H Q
theorem SV{t:TA}{m:MA}(h:RA K t m):RN K (tCB Ms (CP (tCB Jt t) E6)) (Go m):=by
 intro ρ σ H hd ls Q d hd' hR hL hm hQ;obtain⟨⟨d1,h1⟩,e1,hm⟩:=fK hm;dsimp only at hm;refine h ρ σ H hd ls _ d1 h1 hR hL e1 λρ1 H1 v x1 R1 r1=>?_;split at hm
 .next j=>
  split at hm
  .next c=>
   have c:j<2^24/\-(2^62)<=j:=c;cases hm;simp only[RDs,RD,RI]at r1;obtain⟨x,r,rfl,rfl,rfl⟩:=r1;refine .inl ⟨j,rfl,λp hp=>⟨p,0,j,rfl,Af,⟨by decide,by decide,c.2,by omega⟩,by omega,λl hl=>?_⟩⟩;obtain⟨R2,x2⟩:=R1.hid (ho:=.rng 0 j) hp;obtain⟨R3,x3⟩:=R2.hid (ho:=.lst (CG 0 (j-0).toNat)) hl;refine hQ ρ1 _ l (CG 0 (j-0).toNat) ((x1.trans R1 x2).trans R2 x3) R3 ((x1.trans R1 x2).none hR hl R2) (R2.out hl) Af ?_;rw[Int.sub_zero];exact Mo 0 _
  .cases hm
 .next i j=>
  split at hm
  .next c=>
   cases hm;simp only[RDs,RD,RI]at r1;obtain⟨x,r,rfl,rfl,y,r2,rfl,rfl,rfl⟩:=r1;refine .inr ⟨i,j,rfl,λp hp=>⟨p,i,j,rfl,Af,⟨c.1.1,c.1.2,c.2.1.1,c.2.1.2⟩,c.2.2,λl hl=>?_⟩⟩;obtain⟨R2,x2⟩:=R1.hid (ho:=.rng i j) hp;obtain⟨R3,x3⟩:=R2.hid (ho:=.lst (CG i (j-i).toNat)) hl;exact hQ ρ1 _ l (CG i (j-i).toNat) ((x1.trans R1 x2).trans R2 x3) R3 ((x1.trans R1 x2).none hR hl R2) (R2.out hl) Af (Mo i _)
  .cases hm
 .cases hm
def Ye(m:MA):ME:=λls hd=>(Go m ls hd).bind λp=>some (Av p.1,p.2)
def Tm(xs:List Int):List Int:=xs.mergeSort (λa b=>decide (a<=b))
def Ve(m:MI):MA:=λls hd=>(m ls hd).bind λp=>(BS p.1.1).bind λns=>if ns.length<64 then some ((Tm ns).map λi=>.im (.int i),p.2)else none
end
section
variable(K:PySem.W.Frag){X:Cx}{a b e:Expr}{ta tb te:TE}{me:ME}{m:MA}{t:TA}{p p2 pos pos2:Pos}{es:List Expr}
theorem Mu(hm:X.mg "list"=none)(hm2:X.mg "range"=none)(ha:QA K X (a::es) t m)(hc:X.calm=true:=by rfl)(hg:Gl X "list":=by rfl)(hg2:Gl X "range":=by rfl)(he2:starEach (a::es) X.env=(false,eval a X.env)::starEach es X.env:=by rfl)(hpl:(backTo pos2 (starEach es X.env)).any (·.1)=false:=by rfl)
 (he:starEach [.Call (.Name "range" p2) (a::es) [] pos2] X.env=[(false,eval (.Call (.Name "range" p2) (a::es) [] pos2) X.env)]:=by rfl):
 QN K X (.Call (.Name "list" p) [.Call (.Name "range" p2) (a::es) [] pos2] [] pos) (tCB Ms (CP (tCB Jt t) E6)) (Go m):=
 ⟨EG (Pp hc) hg hm OV (Dd (EG (call_rng1.or Lc) hg2 hm2 boot_range ha.p (by decide) (by decide) he2 hpl) F6 he) (by decide) (by decide) he rfl,SV ha.r⟩
end
end L2
namespace L2
structure BltA(mg:PySem.Str->Option PySem.Value):Prop where
 list:mg "list"=none
 tuple:mg "tuple"=none
 len:mg "len"=none
 range:mg "range"=none
 repr:mg "repr"=none
 sum:mg "sum"=none
 min:mg "min"=none
 max:mg "max"=none
 abs:mg "abs"=none
 all:mg "all"=none
 any:mg "any"=none
 sorted:mg "sorted"=none
 zip:mg "zip"=none
 isinstance:mg "isinstance"=none
 int:mg "int"=none
 bool:mg "bool"=none
 str:mg "str"=none
 set:mg "set"=none
 enumerate:mg "enumerate"=none
 reversed:mg "reversed"=none
 dict:mg "dict"=none
end L2
namespace L2
open PySem PySem.Spec PyProof.Rows
section
variable{ls:Ls}{hd:Hd}{a b c:MS}{ma mb mc:ME}{ta tb:MT}{m m1 m2:MA}{n:MG}{ns:MGs}{d e:D}
@[simp] theorem Cg:AA a b ls hd=(a ls hd).bind λp=>match p.1 with
 |.nx ls1=>b ls1 p.2
 |f=>some (f,p.2):=rfl
@[simp] theorem Vx:Ap ls hd=some (.nx ls,hd):=rfl
@[simp] theorem OM:C4 ma ls hd=(ma ls hd).bind λp=>some (.nx ls,p.2):=rfl
@[simp] theorem KK:Ac ma ls hd=(ma ls hd).bind λp=>some (.rt p.1,p.2):=rfl
@[simp] theorem ZZ:Yg ls hd=some (.rt (.im .non),hd):=rfl
@[simp] theorem ZN:Xd ls hd=some (.bk ls,hd):=rfl
@[simp] theorem Zk:Yj ls hd=some (.ct ls,hd):=rfl
@[simp] theorem KN:Ay ta a b ls hd=(ta ls hd).bind λp=>if p.1=true then a ls p.2 else b ls p.2:=rfl
@[simp] theorem CV:FG ma n ls hd=(ma ls hd).bind λp=>(n p.1 ls p.2).map λls'=>(.nx ls',p.2):=rfl
@[simp] theorem EJ(i:Nat):AF i d ls hd=some (ls.set i (some d)):=rfl
@[simp] theorem Zb(k:Nat):Bz k ns d ls hd=(Ao d).bind λds=>if ds.length=k then ns ds ls hd else none:=rfl
@[simp] theorem ZK(d:D)(ds:List D):Ae n ns (d::ds) ls hd=(n d ls hd).bind λls1=>ns ds ls1 hd:=rfl
@[simp] theorem Zd:C0 [] ls hd=some ls:=rfl
@[simp] theorem Xu(ix:List Nat):Hm ix m ls hd=(m ls hd).bind λp=>if p.1.length=ix.length then some (.nx ((ix.zip p.1).foldl (λl q=>l.set q.1 (some q.2)) ls),p.2)else none:=rfl
@[simp] theorem Za(i j k:Nat):K7 i j k m ls hd=Hm [k,j,i] (λls hd=>(m ls hd).map λp=>(p.1.reverse,p.2)) ls hd:=rfl
@[simp] theorem Cf(i:Nat):A0 i ls hd=match ls[i]? with
 |some (some d)=>some (d,hd)
 |_=>none:=rfl
@[simp] theorem JR(i:I):mC i ls hd=some (.im i,hd):=rfl
@[simp] theorem HB(f:D->D->Hd->Option (D×Hd)):mOp f ma mb ls hd=(ma ls hd).bind λp=>(mb ls p.2).bind λq=>f p.1 q.1 q.2:=rfl
@[simp] theorem Zt:Gp ta tb ls hd=(ta ls hd).bind λp=>if p.1=true then tb ls p.2 else some (false,p.2):=rfl
@[simp] theorem aF:mOr ta tb ls hd=(ta ls hd).bind λp=>if p.1=true then some (true,p.2)else tb ls p.2:=rfl
@[simp] theorem Zr:Ei ta ls hd=(ta ls hd).bind λp=>some (!p.1,p.2):=rfl
@[simp] theorem RP:DH ma ls hd=(ma ls hd).bind λp=>(EL p.2 p.1).map (·,p.2):=rfl
@[simp] theorem GT:AU ma ls hd=(ma ls hd).bind λp=>match p.1 with
 |.im (.bl b)=>some (b,p.2)
 |_=>none:=rfl
@[simp] theorem Yp:mIf ta ma mb ls hd=(ta ls hd).bind λp=>if p.1=true then ma ls p.2 else mb ls p.2:=rfl
@[simp] theorem Zl:Eu ma mb ls hd=(AU ma ls hd).bind λp=>if p.1=true then mb ls p.2 else some (.im (.bl false),p.2):=rfl
@[simp] theorem Zq:ZF ma mb ls hd=(AU ma ls hd).bind λp=>if p.1=true then some (.im (.bl true),p.2)else mb ls p.2:=rfl
@[simp] theorem Zc:K8 ma ls hd=(AU ma ls hd).bind λp=>some (.im (.bl (!p.1)),p.2):=rfl
@[simp] theorem FC:A4 ls hd=some ([],hd):=rfl
@[simp] theorem El:A1 ma m ls hd=(ma ls hd).bind λp=>(m ls p.2).bind λq=>some (p.1::q.1,q.2):=rfl
open Classical in
@[simp] theorem Xq:B2 m ls hd=(m ls hd).bind λp=>if CM p.1.length then some (Av p.1,p.2)else none:=rfl
open Classical in
@[simp] theorem NE:BF m ls hd=(m ls hd).bind λp=>if CM p.1.length then some (p.1,p.2)else none:=rfl
@[simp] theorem KL:BN m ls hd=(m ls hd).bind λp=>some (.mu p.2.length,p.2++[.lst p.1]):=rfl
@[simp] theorem Xv:Kw ma ls hd=(ma ls hd).bind λp=>match p.1 with
 |.im (.int i)=>some (.im (.int (-i)),p.2)
 |_=>none:=rfl
@[simp] theorem Zs(neg:Bool):ZG neg ma ls hd=(ma ls hd).bind λp=>some (.im (.bl (match p.1 with
 |.im .non=>!neg
 | _=>neg)),p.2):=rfl
@[simp] theorem Yq(g:Int->Int->Option I)(i j:Int):fI g (.im (.int i)) (.im (.int j)) hd=(g i j).map (.im ·,hd):=rfl
@[simp] theorem Ii(f g:D->D->Hd->Option (D×Hd)):HA f g d e hd=match f d e hd with
 |some z=>some z
 |none=>g d e hd:=rfl
@[simp] theorem Xx(neg:Bool)(i j:Int):G5 neg (.im (.int i)) (.im (.int j)) hd=some (.im (.bl (if neg then !decide (i=j)else decide (i=j))),hd):=by simp[G5,scI,Ma]
@[simp] theorem RY(neg:Bool)(i j:Str):G5 neg (.im (.str i)) (.im (.str j)) hd=some (.im (.bl (if neg then !decide (i=j)else decide (i=j))),hd):=by simp[G5,scI,Ma]
@[simp] theorem Pa(i:Int):gIx d (.im (.int i)) hd=(BV hd d).bind λds=>(atI ds i).map (·,hd):=rfl
@[simp] theorem Zj:CT d e hd=(FU hd d).bind λkvs=>(Ej e).bind λk=>(DN kvs k).map (·,hd):=rfl
@[simp] theorem U8(f:List D->Hd->Option (D×Hd)):mCB f m ls hd=(m ls hd).bind λp=>f p.1 p.2:=rfl
@[simp] theorem Pb(tp:Bool)(g:List D->Option D):f1 tp g [d] hd=((if tp then BV hd d else Br hd d)).bind λds=>(g ds).map (·,hd):=rfl
@[simp] theorem NF(g:List D->Option D):Ct g m ls hd=(m ls hd).bind λp=>(g p.1).map (·,p.2):=rfl
@[simp] theorem PZ(f:D->List D->Hd->Option (D×Hd)):mMt f ma m ls hd=(ma ls hd).bind λp=>match Br p.2 p.1 with
 |some _=>(m ls p.2).bind λq=>f p.1 q.1 q.2
 |none=>none:=rfl
@[simp] theorem Zf(i j:Int):Gz [.im (.int i),.im (.int j)] hd=some (.im (.int (if j>i then j else i)),hd):=rfl
@[simp] theorem Ze(i j:Int):Ih [.im (.int i),.im (.int j)] hd=some (.im (.int (if j<i then j else i)),hd):=rfl
@[simp] theorem Zu(i:Int):ZI [.im (.int i)] hd=some (.im (.int (if i<0 then -i else i)),hd):=rfl
@[simp] theorem RV:DQ m ma ls hd=(m ls hd).bind λp=>(ma ls p.2).bind λq=>match q.1 with
 |.im (.int i)=>(atI p.1 i).map (·,q.2)
 |_=>none:=rfl
@[simp] theorem KM:BG ma ls hd=(ma ls hd).bind λp=>(Ao p.1).map λds=>((ds,[]),p.2):=rfl
@[simp] theorem Xw:Xc m ls hd=(m ls hd).map λp=>((p.1,[]),p.2):=rfl
@[simp] theorem RX:EX ma ls hd=(ma ls hd).bind λp=>match p.1 with
 |.mu n=>match p.2[n]? with
  |some (.lst ds)=>some ((ds,[(n,ds)]),p.2)
  |_=>none
 |.ro ns=>some ((ns.map λn=>.im (.int n),[]),p.2)
 |_=>none:=rfl
open Classical in
@[simp] theorem RW:DI m ls hd=(m ls hd).bind λp=>match p.1 with
 |[.im (.int j)]=>if Fa j then some ((An 0 j.toNat,[]),p.2)else none
 |_=>none:=rfl
open Classical in
@[simp] theorem OL:Fv m ls hd=(m ls hd).bind λp=>match p.1 with
 |[.im (.int i),.im (.int j)]=>if Mj i j then some ((An i (j-i).toNat,[]),p.2)else none
 |_=>none:=rfl
@[simp] theorem KO(mi:MI):Bl mi n a ls hd=(mi ls hd).bind λp=>BZ n a p.1.2 p.1.1 ls p.2:=rfl
open Classical in
@[simp] theorem ON(k:Nat)(ix:List Nat)(mi:MI):BA k ix mi n ta ma ls hd=(mi ls hd).bind λp=>if CM p.1.1.length then BL n ta ma p.1.2 p.1.1 (Dh k ix ls) p.2 else none:=rfl
@[simp] theorem Zp:Bg ls hd=some (true,hd):=rfl
@[simp] theorem ZM(F:List D->Hd->Option (D×Hd)):GP F m ls hd=(m ls hd).bind λp=>F p.1 p.2:=rfl
@[simp] theorem RU:BU ls hd=some (none,hd):=rfl
@[simp] theorem OK:Bu ma ls hd=(ma ls hd).bind λp=>match p.1 with
 |.im (.int i)=>some (some i,p.2)
 |_=>none:=rfl
@[simp] theorem Zg:Yh ma ls hd=(ma ls hd).bind λp=>(BV p.2 p.1).map (·,p.2):=rfl
@[simp] theorem ZL:Hn m ls hd=m ls hd:=rfl
@[simp] theorem Xs(ml mh:MO1):JK ma ml mh ls hd=(ma ls hd).bind λp=>(ml ls p.2).bind λl=>(mh ls l.2).bind λh=>(Br h.2 p.1).bind λds=>some (Bm ds l.1 h.1,h.2):=rfl
@[simp] theorem Xr(ml mh:MO1):E8 ma ml mh ls hd=(ma ls hd).bind λp=>(ml ls p.2).bind λl=>(mh ls l.2).bind λh=>(Ao p.1).bind λds=>if ¬ (HT.sIx ds.length 0 l.1=0/\HT.sIx ds.length ds.length h.1=ds.length)then some (Av (Bm ds l.1 h.1),h.2)else none:=rfl
@[simp] theorem ZY:Ye m ls hd=(Go m ls hd).bind λp=>some (Av p.1,p.2):=rfl
open Classical in
@[simp] theorem RQ:Go m ls hd=(m ls hd).bind λp=>match p.1 with
 |[.im (.int j)]=>if Jn j then some (An 0 j.toNat,p.2)else none
 |[.im (.int i),.im (.int j)]=>if To i j then some (An i (j-i).toNat,p.2)else none
 |_=>none:=rfl
@[simp] theorem Z1(mi:MI):Ve mi ls hd=(mi ls hd).bind λp=>(BS p.1.1).bind λns=>if ns.length<64 then some ((Tm ns).map λi=>.im (.int i),p.2)else none:=rfl
@[simp] theorem Zi(ms:List (ME×ME)):KB ms ls hd=(F9 ms ls hd).bind λp=>if p.1.length<=15 then some (.mu p.2.length,p.2++[.dic (GM [] p.1)])else none:=rfl
@[simp] theorem Z2:F9 [] ls hd=some ([],hd):=rfl
@[simp] theorem ZJ(r:List (ME×ME)):F9 ((ma,mb)::r) ls hd=(ma ls hd).bind λp=>(mb ls p.2).bind λq=>(F9 r ls q.2).bind λz=>(Ej p.1).map λk=>((k,q.1)::z.1,z.2):=rfl
open Classical in
@[simp] theorem Zh:EY ma mb mc ls hd=(mc ls hd).bind λp=>(ma ls p.2).bind λq=>(mb ls q.2).bind λr=>(Ej r.1).bind λk=>match q.1 with
 |.mu n=>match r.2[n]? with
  |some (.dic kvs)=>if E4 kvs.length then some (.nx ls,r.2.set n (.dic (EU kvs k p.1)))else none
  |_=>none
 |_=>none:=rfl
@[simp] theorem Vy:Fu ma mb mc ls hd=(mc ls hd).bind λp=>(ma ls p.2).bind λq=>(mb ls q.2).bind λr=>match q.1,r.1 with
 |.mu n,.im (.int i)=>match r.2[n]? with
  |some (.lst ds)=>(ixN ds.length i).map λj=>(.nx ls,r.2.set n (.lst (ds.set j p.1)))
  |_=>none
 |_,_=>none:=rfl
@[simp] theorem MM(is:List I):Ao (.im (.tup is))=some (is.map .im):=rfl
@[simp] theorem Zz(ds:List D):Ao (.tm ds)=some ds:=rfl
@[simp] theorem a8(k:Nat):Ao (.mu k)=none:=rfl
@[simp] theorem a7(k:List Int):Ao (.ro k)=none:=rfl
@[simp] theorem DO(is:List I):BV hd (.im (.tup is))=some (is.map .im):=rfl
@[simp] theorem aA(ds:List D):BV hd (.tm ds)=some ds:=rfl
@[simp] theorem Tl(k:Nat):BV hd (.mu k)=Br hd (.mu k):=rfl
@[simp] theorem aB(k:List Int):BV hd (.ro k)=some (k.map λn=>.im (.int n)):=rfl
@[simp] theorem M3(k:Nat):Br hd (.mu k)=match hd[k]? with
 |some (.lst ds)=>some ds
 |_=>none:=rfl
@[simp] theorem aC(k:List Int):Br hd (.ro k)=some (k.map λn=>.im (.int n)):=rfl
@[simp] theorem aG(k:Nat):FU hd (.mu k)=match hd[k]? with
 |some (.dic ds)=>some ds
 |_=>none:=rfl
@[simp] theorem aE(i:Int):Ej (.im (.int i))=some (.inl i):=rfl
@[simp] theorem aD(i:Str):Ej (.im (.str i))=some (.inr i):=rfl
@[simp] theorem Zy:Bv []=some []:=rfl
@[simp] theorem aI(i:I)(r:List D):Bv (.im i::r)=(Bv r).map (i::·):=rfl
@[simp] theorem Zn:BS []=some []:=rfl
@[simp] theorem Zo(i:Int)(r:List D):BS (.im (.int i)::r)=(BS r).map (i::·):=rfl
@[simp] theorem Zx:Cw []=some []:=rfl
@[simp] theorem aH(i:Bool)(r:List D):Cw (.im (.bl i)::r)=(Cw r).map (i::·):=rfl
@[simp] theorem Ax(is:List I):Av (is.map .im)=.im (.tup is):=by simp[Av]
@[simp] theorem Z0:Av []=.im (.tup []):=rfl
@[simp] theorem O7(i:I):Av [.im i]=.im (.tup [i]):=rfl
@[simp] theorem O6(i j:I):Av [.im i,.im j]=.im (.tup [i,j]):=rfl
@[simp] theorem Eh(i j k:I):Av [.im i,.im j,.im k]=.im (.tup [i,j,k]):=rfl
@[simp] theorem ZW(i j k l:I):Av [.im i,.im j,.im k,.im l]=.im (.tup [i,j,k,l]):=rfl
@[simp] theorem Zw(w:Nat)(i:I):clD w (.im i)=true:=by simp[clD]
@[simp] theorem Zv(w n:Nat):clD w (.mu n)=decide (n<w):=by simp[clD]
@[simp] theorem ZO(w:Nat):B7 w []=true:=by simp[B7]
@[simp] theorem Rl(w:Nat)(d:D)(ds:List D):B7 w (d::ds)=(clD w d&&B7 w ds):=by simp[B7]
@[simp] theorem CN{α:Type}(x:α)(r:List α):atI (x::r) 0=some x:=GW (j:=0) rfl
@[simp] theorem Ec{α:Type}(x y:α)(r:List α):atI (x::y::r) 1=some y:=GW (j:=1) rfl
@[simp] theorem IB{α:Type}(x y z:α)(r:List α):atI (x::y::z::r) 2=some z:=GW (j:=2) rfl
theorem Fj{α:Type}{xs:List α}{i:Int}{k:Nat}{x:α}(hi:i=k)(h:xs[k]?=some x):atI xs i=some x:=by subst hi;exact GW h
@[simp] theorem ND:CM 0:=Aq (by decide)
@[simp] theorem NC:CM 1:=Aq (by decide)
@[simp] theorem Dv:CM 2:=Aq (by decide)
@[simp] theorem DT:CM 3:=Aq (by decide)
@[simp] theorem KJ:CM 4:=Aq (by decide)
@[simp] theorem Xn:CM 5:=Aq (by decide)
@[simp] theorem ZX:E4 4:=Ca (by decide)
open Classical in
@[simp] theorem NG(k:Nat)(x:D):BH (.mu k) [x] hd=match hd[k]? with
 |some (.lst ds)=>if E4 ds.length then some (.im .non,hd.set k (.lst (ds++[x])))else none
 |_=>none:=rfl
theorem FD{F:List D->Hd->Option (D×Hd)}{ds:List D}{hd1 h2:Hd}{i:I}(h1:m ls hd=some (ds,hd1))(hc:B7 0 ds=true)(hF:F ds []=some (.im i,h2)):A9 0 F m ls hd=some (.im i,hd1):=by
 simp[A9,h1,hc,hF,fin]
theorem HF{w:Nat}{F:List D->Hd->Option (D×Hd)}{ds:List D}{pre pre' rest g:Hd}{i:I}(hw:pre.length=w)(hw':pre'.length=w)(h1:m ls hd=some (ds,pre++rest))(hc:B7 w ds=true)(hp:pre.all (clO w)=true)(hp':pre'.all (clO w)=true)(hF:F ds pre=some (.im i,pre'++g)):A9 w F m ls hd=some (.im i,pre'++rest):=by
 subst hw;have e1:(pre++rest).take pre.length=pre:=by simp
 have e2:(pre'++g).take pre.length=pre':=by rw[<- hw'];simp
 simp only[A9,h1,bind_some,e1,hc,hp,hF,fin,e2,hp'];simp
end
theorem DR{n:MG}{b:MS}{g:Gd}{ls:Ls}{hd:Hd}:BZ n b g [] ls hd=some (.nx ls,hd):=by unfold BZ;rfl
theorem CS{n:MG}{b:MS}{g:Gd}{d:D}{r:List D}{ls ls1 ls2:Ls}{hd hd2:Hd}(h1:n d ls hd=some ls1)(h2:b ls1 hd=some (.nx ls2,hd2))(h3:GOk hd2 g):BZ n b g (d::r) ls hd=BZ n b g r ls2 hd2:=by
 conv=>lhs;unfold BZ
 simp[h1,h2,h3]
theorem T6{n:MG}{b:MS}{g:Gd}{d v:D}{r:List D}{ls ls1:Ls}{hd hd2:Hd}(h1:n d ls hd=some ls1)(h2:b ls1 hd=some (.rt v,hd2)):BZ n b g (d::r) ls hd=some (.rt v,hd2):=by
 conv=>lhs;unfold BZ
 simp[h1,h2]
abbrev LC2(elt tg iter:Expr)(ifs:List Expr)(tg2 iter2:Expr)(ifs2:List Expr)(scope:Scope)(pos:Pos):Expr:=.ListComp elt [⟨tg,iter,ifs,0⟩,⟨tg2,iter2,ifs2,0⟩] scope pos
theorem UO(elt tg iter:Expr)(ifs:List Expr)(tg2 iter2:Expr)(ifs2:List Expr)(scope:Scope)(pos:Pos)(it acc:Value)(env:Env):
 compTurn (LC2 elt tg iter ifs tg2 iter2 ifs2 scope pos) 0 it acc env=(do
  standAt iter.pos
  match <- pyNext it with
  |none=>pure (.done .next)
  |some v=>
   letOwnedTupleGo tg it v
   assign tg env v
   let mut ok:=true
   for c in ifs do
    if ok then ok <- isTrue c env (eval c env)
   if ok then
    let x <- eval iter2 env
    standAt iter2.pos
    let x <- foldedSetIterable iter2 env x
    let _ <- runOwn (.compStart (LC2 elt tg iter ifs tg2 iter2 ifs2 scope pos) 1 (<- holding [x] (pyIter x)) acc env) env
   again (.compLoop (LC2 elt tg iter ifs tg2 iter2 ifs2 scope pos) 0 it acc env)):=by rfl
theorem UN(elt tg iter:Expr)(ifs:List Expr)(tg2 iter2:Expr)(ifs2:List Expr)(scope:Scope)(pos:Pos)(it acc:Value)(env:Env):
 compTurn (LC2 elt tg iter ifs tg2 iter2 ifs2 scope pos) 1 it acc env=(do
  standAt iter2.pos
  match <- pyNext it with
  |none=>pure (.done .next)
  |some v=>
   letOwnedTupleGo tg2 it v
   assign tg2 env v
   let mut ok:=true
   for c in ifs2 do
    if ok then ok <- isTrue c env (eval c env)
   if ok then
    (do let _ <- call (.builtin "list.append") [acc,<- eval elt env])
   again (.compLoop (LC2 elt tg iter ifs tg2 iter2 ifs2 scope pos) 1 it acc env)):=by rfl
section
variable{prog:Program}{w:World}{A:Around}{R:Result->Shared->Prop}{s:Shared}{elt tg iter tg2 iter2:Expr}{ifs ifs2:List Expr}{scope:Scope}{pos:Pos}{it acc:Value}{env:Env}
theorem Vf(I:Nat->Shared->Prop)
 (turn:∀n s,I n s->wpAny (model prog w) A (pyNext it) (λr s₁=>match r with
  |none=>R (.ok .next) s₁
  | some v=>wpAny (model prog w) A (letOwnedTupleGo tg2 it v) (λ_ s₁=>wpAny (model prog w) A (assign tg2 env v) (λ_ s₂=>
   wpAny (model prog w) A (forIn ifs2 true λc r=>if r=true then do let ok <- isTrue c env (eval c env);pure (ForInStep.yield ok)else pure (ForInStep.yield r)) (λok s₃=>
    if ok=true then wpAny (model prog w) A (eval elt env) (λx s₄=>
     wpAny (model prog w) A (call (.builtin "list.append") [acc,x]) (λ_ s₅=>∃m,m<n/\I m s₅) (λ_ _=>False) s₄) (λ_ _=>False) s₃
    else ∃m,m<n/\I m s₃) (λ_ _=>False) s₂) (λ_ _=>False) s₁) (λ_ _=>False) s₁) (λ_ _=>False) s)
 (n:Nat) (h:I n s):codeAny (model prog w) A (.compLoop (LC2 elt tg iter ifs tg2 iter2 ifs2 scope pos) 1 it acc env) R s:=by
 refine codeAny_loop rfl I (λn s hI=>?_) n h;show wpAny _ A ((compTurn (LC2 elt tg iter ifs tg2 iter2 ifs2 scope pos) 1 it acc env).onRaise (λx=>do noteFrame x env;theTreesLotGoes x)) _ _ s;refine wpAny_noted ?_;rw[UN];refine wpAny_bind (wpAny_standAt (wpAny_bind (wpAny_mono (turn n s hI) (λr s₁ h₁=>?_) λ_ _ h'=>h'.elim)));cases r with
 |none=>exact wpAny_pure h₁
 |some v=>
  refine wpAny_bind (wpAny_mono h₁ (λ_ s₁ h₁=>?_) λ_ _ h'=>h'.elim);refine wpAny_bind (wpAny_mono h₁ (λ_ s₂ h₂=>wpAny_bind (wpAny_mono h₂ (λok s₃ h₃=>?_) λ_ _ h'=>h'.elim)) λ_ _ h'=>h'.elim);cases ok with
  |false=>exact wpAny_pure ⟨rfl,h₃⟩
  |true=>
   exact wpAny_bind (wpAny_bind (wpAny_mono h₃ (λx s₄ h₄=>wpAny_bind (wpAny_mono h₄ (λ_ s₅ h₅=>wpAny_pure (wpAny_pure ⟨rfl,h₅⟩)) λ_ _ h'=>h'.elim)) λ_ _ h'=>h'.elim))
theorem Vg(hs:∀x,foldedSetIterable iter2 env x=pure x)(I:Nat->Shared->Prop)
 (turn:∀n s,I n s->wpAny (model prog w) A (pyNext it) (λr s₁=>match r with
  |none=>R (.ok .next) s₁
  | some v=>wpAny (model prog w) A (letOwnedTupleGo tg it v) (λ_ s₁=>wpAny (model prog w) A (assign tg env v) (λ_ s₂=>
   wpAny (model prog w) A (forIn ifs true λc r=>if r=true then do let ok <- isTrue c env (eval c env);pure (ForInStep.yield ok)else pure (ForInStep.yield r)) (λok s₃=>
    if ok=true then wpAny (model prog w) A (eval iter2 env) (λx s₄=>wpAny (model prog w) A (pyIter x) (λit2 s₅=>
     codeAny (model prog w) A (.compStart (LC2 elt tg iter ifs tg2 iter2 ifs2 scope pos) 1 it2 acc env) (λr s₆=>r=.ok .next/\∃m,m<n/\I m s₆) s₅) (λ_ _=>False) s₄) (λ_ _=>False) s₃
    else ∃m,m<n/\I m s₃) (λ_ _=>False) s₂) (λ_ _=>False) s₁) (λ_ _=>False) s₁) (λ_ _=>False) s)
 (n:Nat) (h:I n s):codeAny (model prog w) A (.compLoop (LC2 elt tg iter ifs tg2 iter2 ifs2 scope pos) 0 it acc env) R s:=by
 refine codeAny_loop rfl I (λn s hI=>?_) n h;show wpAny _ A ((compTurn (LC2 elt tg iter ifs tg2 iter2 ifs2 scope pos) 0 it acc env).onRaise (λx=>do noteFrame x env;theTreesLotGoes x)) _ _ s;refine wpAny_noted ?_;rw[UO];refine wpAny_bind (wpAny_standAt (wpAny_bind (wpAny_mono (turn n s hI) (λr s₁ h₁=>?_) λ_ _ h'=>h'.elim)));cases r with
 |none=>exact wpAny_pure h₁
 |some v=>
  refine wpAny_bind (wpAny_mono h₁ (λ_ s₁ h₁=>?_) λ_ _ h'=>h'.elim);refine wpAny_bind (wpAny_mono h₁ (λ_ s₂ h₂=>wpAny_bind (wpAny_mono h₂ (λok s₃ h₃=>?_) λ_ _ h'=>h'.elim)) λ_ _ h'=>h'.elim);cases ok with
  |false=>exact wpAny_pure ⟨rfl,h₃⟩
  |true=>
   refine wpAny_bind (wpAny_mono h₃ (λx s₄ h₄=>wpAny_bind (wpAny_standAt ?_)) λ_ _ h'=>h'.elim);rw[hs];refine wpAny_bind (wpAny_pure (wpAny_bind (wpAny_holding (wpAny_mono h₄ (λit2 s₅ h₅=>wpAny_bind (wpAny_runOwn (codeAny_mono h₅ λr s₆ h₆=>?_))) λ_ _ h'=>h'.elim))));obtain⟨rfl,h₆⟩:=h₆;exact wpAny_pure ⟨rfl,h₆⟩
theorem SK(h0:codeAny (model prog w) A (.compLoop (LC2 elt tg iter ifs tg2 iter2 ifs2 scope pos) 1 it acc env) R s)
 (h:wpAny (model prog w) A (pyIter it) (λit' s'=>codeAny (model prog w) A (.compLoop (LC2 elt tg iter ifs tg2 iter2 ifs2 scope pos) 1 it' acc env) R s') (λ_ _=>False) s):
 codeAny (model prog w) A (.compStart (LC2 elt tg iter ifs tg2 iter2 ifs2 scope pos) 1 it acc env) R s:=by
 refine codeAny_of_tree ?_;show wpAny _ _ ((compStart (LC2 elt tg iter ifs tg2 iter2 ifs2 scope pos) 1 it acc env).onRaise (λx=>do noteFrame x env;standAt theWindowsPlace)) _ _ s;refine wpAny_notedAt ?_;unfold compStart;show wpAny _ _ (ask >>= _) _ _ s;refine wpAny_bind (wpAny_askSetting (wpAny_ite ?_));split
 .exact wpAny_bind (wpAny_pure (wpAny_pure (And.intro rfl h0)))
 .exact wpAny_bind (wpAny_rule (wpAny_bind (wpAny_standAt (wpAny_bind (wpAny_mono h (λit' s' h'=>wpAny_pure (And.intro rfl h')) λ_ _ x=>x.elim)))))
end
def Px(J:It)(D:Addr)(σ0:St)(H0:Hp)(g:TG)(tf:TT)(te:TE)(Q:St->Hp->Prop):Prop:=∃W:Nat->Nat->St->Hp->Prop,
 (∃m,W 0 m σ0 H0)/\∀i m σ H,W i m σ H ->
  ((J.stop i H/\Q σ H)∨(J.go i H/\∃N:St->Hp->Prop,(∀σ' H',N σ' H'->∃m',m'<m/\W (i+1) m' σ' H')/\
    ∀x H',J.yld i H x H'->g x σ H' λσ2 H2=>tf σ2 H2 λb H3=>
     if b=true then te σ2 H3 λv H4=>∃ys,H4 D=some (.lst ys)/\ys.length<sizeLine/\N σ2 (upd H4 D (.lst (ys++[v])))
     else N σ2 H3))
def Rs(J:It)(D:Addr)(σ0:St)(H0:Hp)(g:TG)(tf:TT)(wi2:TI)(g2:TG)(tf2:TT)(te:TE)(Q:VK):Prop:=∃W:Nat->Nat->St->Hp->Prop,
 (∃m,W 0 m σ0 (upd H0 D (.lst [])))/\∀i m σ H,W i m σ H ->
  ((J.stop i H/\Q (.ref D) H)∨(J.go i H/\∃N:St->Hp->Prop,(∀σ' H',N σ' H'->∃m',m'<m/\W (i+1) m' σ' H')/\
    ∀x H',J.yld i H x H'->g x σ H' λσ2 H2=>tf σ2 H2 λb H3=>
     if b=true then wi2 σ2 H3 λJ2 H4=>Px J2 D σ2 H4 g2 tf2 te N
     else N σ2 H3))
def MR(n:Nat)(ix:List Nat)(wi:TI)(g:TG)(tf:TT)(wi2:TI)(g2:TG)(tf2:TT)(te:TE):TE:=λσ H Q=>wi σ H λJ H1=>∀D,H1 D=none->Rs J D (GA n ix σ) H1 g tf wi2 g2 tf2 te Q
section
variable{X:Cx}
theorem Pj{elt tg iter tg2 iter2:Expr}{ifs ifs2:List Expr}{scope:Scope}{pos:Pos}{N':List Str}{s3:Shared}{H3:Hp}{fp3:List Addr}{g:TG}{tf:TT}{te:TE}{pins:List (Addr×Obj)}{σ:St}{H:Hp}{s:Shared}{D it:Addr}{fp:List Addr}{tn:Nat->Heap->Prop}{J:It}{Q:St->Hp->Prop}
 (hc:X.calm=true) (hg:PG (cCx X N' scope s3 H3 fp3) tg2 g) (hf:PF (cCx X N' scope s3 H3 fp3) ifs2 tf) (he:PE (cCx X N' scope s3 H3 fp3) elt te)
 (I:Inv (cCx X N' scope s3 H3 fp3) pins σ H s) (T:Turn X.prog X.w X.K tg2 J fp it tn) (st:tn 0 s.heap) (f2:∀b∈fp,FpOk (cCx X N' scope s3 H3 fp3) pins H b) (hW:Px J D σ H g tf te Q):
 codeAny (model X.prog X.w) X.A (.compStart (LC2 elt tg iter ifs tg2 iter2 ifs2 scope pos) 1 (.ref it) (.ref D) (cCx X N' scope s3 H3 fp3).env)
  (λr s'=>r=.ok .next/\∃σ' H',Inv (cCx X N' scope s3 H3 fp3) pins σ' H' s'/\Q σ' H') s:=by
 obtain⟨W,⟨m0,w0⟩,turn⟩:=hW;have fpX:∀{H':Hp},(∀b∈fp,H' b=none)->∀b∈fp,FpOk (cCx X N' scope s3 H3 fp3) pins H' b:=λhn b hb=>⟨hn b hb,(f2 b hb).2⟩
 have loop:codeAny (model X.prog X.w) X.A (.compLoop (LC2 elt tg iter ifs tg2 iter2 ifs2 scope pos) 1 (.ref it) (.ref D) (cCx X N' scope s3 H3 fp3).env)
  (λr s'=>r=.ok .next/\∃σ' H',Inv (cCx X N' scope s3 H3 fp3) pins σ' H' s'/\Q σ' H') s:=by
  refine Vf (λn s'=>∃i σ' H',Inv (cCx X N' scope s3 H3 fp3) pins σ' H' s'/\tn i s'.heap/\(∀b∈fp,H' b=none)/\W i n σ' H') ?_ m0
   ⟨0,_,_,I,st,λb hb=>(f2 b hb).1,w0⟩
  rintro n s5 ⟨i,σ5,H5,I5,st5,fr5,w5⟩;have w5:=turn i n σ5 H5 w5;rcases w5 with⟨stop,qn⟩|⟨go,N,hN,step⟩
  .refine thn (T.done (cCx X N' scope s3 H3 fp3) rfl rfl rfl hc i pins s5 σ5 H5 _ I5 (fpX fr5) st5 stop) λr s6 ⟨hr,I6⟩=>?_;subst hr;exact⟨rfl,σ5,H5,I6,qn⟩
  .refine thn (T.item (cCx X N' scope s3 H3 fp3) rfl rfl rfl hc i pins s5 σ5 H5 _ I5 (fpX fr5) st5 go) λr s6 ⟨u,hr,h6⟩=>?_;subst hr;refine thn h6 λ_ s7 ⟨x,H7,I7,r7,y7,st7,fr7⟩=>?_;have I7':=I7.pinned (fpX fr7) (T.obj _ _ st7);have keepI:∀{σ8:St} {H8:Hp} {s8:Shared},Inv (cCx X N' scope s3 H3 fp3) (pins++F5 fp s7.heap) σ8 H8 s8->tn (i+1) s8.heap/\∀b∈fp,H8 b=none:=λ{σ8 H8 s8} I8=>by
    refine⟨T.keep _ _ _ st7 λb hb o e=>(I8.pin (b,o) (mem_append_right _ (mem_append_right _ (C2 hb e)))).1,λb hb=>?_⟩;obtain⟨o,e,d⟩:=T.obj _ _ st7 b hb;exact(I8.pin (b,o) (mem_append_right _ (mem_append_right _ (C2 hb e)))).2.1
   refine thn (hg _ s7 σ5 H7 x u _ I7' r7 (step x H7 y7)) λ_ s8 ⟨σ8,H8,I8,q8⟩=>?_;refine thn (hf _ s8 σ8 H8 _ I8 q8) λb s9 ⟨H9,I9,q9⟩=>?_;cases b with
   |false=>
    rw[if_neg Bool.false_ne_true]at q9 ⊢;obtain⟨m',hm,w9⟩:=hN _ _ q9;exact⟨m',hm,i+1,σ8,H9,I9.unpinned,(keepI I9).1,(keepI I9).2,w9⟩
   |true=>
    rw[if_pos rfl]at q9 ⊢;refine thn (he _ s9 σ8 H9 _ I9 q9) λe10 s10 ⟨v10,H10,I10,r10,ys,hD10,hz,n10⟩=>?_;obtain⟨m',hm,w10⟩:=hN _ _ n10;refine NS (X:=cCx X N' scope s3 H3 fp3) I10 hD10 r10 hz λ_ s11 I11=>?_;exact⟨m',hm,i+1,σ8,_,I11.unpinned,(keepI I11).1,(keepI I11).2,w10⟩
 exact SK loop (T.self X.A 0 _ _ _ st loop)
theorem Nh{elt tg iter tg2 iter2:Expr}{ifs ifs2:List Expr}{scope:Scope}{pos:Pos}{loc fr:List Str}{ix:List Nat}{g g2:TG}{tf tf2:TT}{wi2:TI}{te:TE}{pins:List (Addr×Obj)}{σ:St}{Q:VK}{it:Addr}{fp:List Addr}{tn:Nat->Heap->Prop}{J:It}{H2:Hp}{s2:Shared}{E:Value->Shared->Prop}
 {RR:Value->Addr->Result->Shared->Prop} (hc:X.calm=true) (S:CSc X scope fr ix)
 (hg:∀s H ex,PG (cCx X (loc++fr) scope s H ex) tg g) (hf:∀s H ex,PF (cCx X (loc++fr) scope s H ex) ifs tf) (hi2:∀s H ex,PI (cCx X (loc++fr) scope s H ex) tg2 iter2 wi2) (hg2:∀s H ex,PG (cCx X (loc++fr) scope s H ex) tg2 g2) (hf2:∀s H ex,PF (cCx X (loc++fr) scope s H ex) ifs2 tf2) (he:∀s H ex,PE (cCx X (loc++fr) scope s H ex) elt te)
 (hs2:∀s H ex x,foldedSetIterable iter2 (cCx X (loc++fr) scope s H ex).env x=pure x)
 (I2:Inv X pins σ H2 s2) (T:Turn X.prog X.w X.K tg J fp it tn) (st2:tn 0 s2.heap) (f2:∀b∈fp,FpOk X pins H2 b) (hW:∀D,H2 D=none->Rs J D (GA loc.length ix σ) H2 g tf wi2 g2 tf2 te Q)
 (hfin:∀(s3 s6:Shared) (H5:Hp) (σ5:St) (D:Addr),Inv X pins σ (upd H2 D (.lst [])) s3->Inv (cCx X (loc++fr) scope s3 (upd H2 D (.lst [])) fp) [] σ5 H5 s6->(∀b∈fp,FpOk X pins (upd H2 D (.lst [])) b)->Q (.ref D) H5->RR (.ref D) s3.heap.objs.size (.ok .next) s6):
 wpAny (model X.prog X.w) X.A (newList []) (λacc s₃=>wpAny (model X.prog X.w) X.A (newFunctionEnv scope X.env.globals (Az X.env.cells scope.names []) [] X.env.qual none .none (some X.env)) (λcenv s₄=>
  codeAny (model X.prog X.w) X.A (.compStart (LC2 elt tg iter ifs tg2 iter2 ifs2 scope pos) 0 (.ref it) acc { cenv with scope:=relabel scope X.env }) (RR acc cenv.locals) s₄) E s₃) E s2:=by
 refine wpAny_newObj_type ?_;have fresh2:H2 s2.heap.objs.size=none:=I2.hok.fresh (le_refl _);have I3:=I2.lnew (its:=[]) (ys:=[]) (t':=s2.toks) .nil (zero_le _);obtain⟨W,⟨m0,w0⟩,turn⟩:=hW s2.heap.objs.size fresh2;have lt2:∀b∈fp,b<s2.heap.objs.size:=λb hb=>let ⟨o,e,_⟩:=T.obj 0 _ st2 b hb;Heap.lt_size e
 have f3:∀b∈fp,FpOk X pins (upd H2 s2.heap.objs.size (.lst [])) b:=λb hb=>⟨by rw[AJ (ne_of_lt (lt2 b hb))];exact(f2 b hb).1,(f2 b hb).2⟩
 have lt3:∀b∈fp,b<(s2.heap.push { cls:=.type "list",data:=.seq ([]:List Value).toArray }).objs.size:=λb hb=>by rw[Heap.size_push];exact lt_succ_of_lt (lt2 b hb)
 generalize hs3:({ s2 with heap:=s2.heap.push { cls:=.type "list",data:=.seq ([]:List Value).toArray } }:Shared)=s3 at *;have lt3:∀b∈fp,b<s3.heap.objs.size:=by rw[<- hs3];exact lt3
 have st3:tn 0 s3.heap:=T.keep _ _ _ st2 λb hb o e=>by rw[<- hs3];exact Heap.get?_push_of_some _ e
 refine Ks λh' hk hn ho ha=>?_;have I4:=JO (loc:=loc) S I3 f3 hk hn ho ha lt3;have fpX:∀{H':Hp},(∀b∈fp,H' b=none)->∀b∈fp,FpOk (cCx X (loc++fr) scope s3 (upd H2 s2.heap.objs.size (.lst [])) fp) [] H' b:=λhn b hb=>
  ⟨hn b hb,(I4.ok.exf b hb).1,I4.ok.exfs b hb,.inl hb,(I4.ok.exf b hb).2,λp hp=>by cases hp⟩
 have loop:codeAny (model X.prog X.w) X.A (.compLoop (LC2 elt tg iter ifs tg2 iter2 ifs2 scope pos) 0 (.ref it) (.ref s2.heap.objs.size) (Pr scope s3.heap.objs.size X.env))
  (RR (.ref s2.heap.objs.size) s3.heap.objs.size) { s3 with heap:=h' }:=by
  refine Vg (hs2 s3 (upd H2 s2.heap.objs.size (.lst [])) fp) (λn s'=>∃i σ' H',Inv (cCx X (loc++fr) scope s3 (upd H2 s2.heap.objs.size (.lst [])) fp) [] σ' H' s'/\tn i s'.heap/\(∀b∈fp,H' b=none)/\W i n σ' H') ?_ m0
   ⟨0,_,_,I4,T.keep _ _ _ st3 λb hb o e=>hk b o e,λb hb=>(f3 b hb).1,w0⟩
  rintro n s5 ⟨i,σ5,H5,I5,st5,fr5,w5⟩;have w5:=turn i n σ5 H5 w5;rcases w5 with⟨stop,qn⟩|⟨go,N,hN,step⟩
  .refine thn (T.done (cCx X (loc++fr) scope s3 (upd H2 s2.heap.objs.size (.lst [])) fp) rfl rfl rfl hc i [] s5 σ5 H5 _ I5 (fpX fr5) st5 stop) λr s6 ⟨hr,I6⟩=>?_;subst hr;exact hfin s3 s6 H5 σ5 s2.heap.objs.size I3 I6 f3 qn
  .refine thn (T.item (cCx X (loc++fr) scope s3 (upd H2 s2.heap.objs.size (.lst [])) fp) rfl rfl rfl hc i [] s5 σ5 H5 _ I5 (fpX fr5) st5 go) λr s6 ⟨u,hr,h6⟩=>?_;subst hr;refine thn h6 λ_ s7 ⟨x,H7,I7,r7,y7,st7,fr7⟩=>?_;have I7':=I7.pinned (fpX fr7) (T.obj _ _ st7);have keepI:∀{σ8:St} {H8:Hp} {s8:Shared},Inv (cCx X (loc++fr) scope s3 (upd H2 s2.heap.objs.size (.lst [])) fp) ([]++F5 fp s7.heap) σ8 H8 s8->tn (i+1) s8.heap/\∀b∈fp,H8 b=none:=λ{σ8 H8 s8} I8=>by
    refine⟨T.keep _ _ _ st7 λb hb o e=>(I8.pin (b,o) (mem_append_right _ (mem_append_right _ (C2 hb e)))).1,λb hb=>?_⟩;obtain⟨o,e,d⟩:=T.obj _ _ st7 b hb;exact(I8.pin (b,o) (mem_append_right _ (mem_append_right _ (C2 hb e)))).2.1
   refine thn (hg s3 (upd H2 s2.heap.objs.size (.lst [])) fp _ s7 σ5 H7 x u _ I7' r7 (step x H7 y7)) λ_ s8 ⟨σ8,H8,I8,q8⟩=>?_;refine thn (hf s3 (upd H2 s2.heap.objs.size (.lst [])) fp _ s8 σ8 H8 _ I8 q8) λb s9 ⟨H9,I9,q9⟩=>?_;cases b with
   |false=>
    rw[if_neg Bool.false_ne_true]at q9 ⊢;obtain⟨m',hm,w9⟩:=hN _ _ q9;exact⟨m',hm,i+1,σ8,H9,I9.unpinned,(keepI I9).1,(keepI I9).2,w9⟩
   |true=>
    rw[if_pos rfl]at q9 ⊢;refine thn (hi2 s3 (upd H2 s2.heap.objs.size (.lst [])) fp _ s9 σ8 H9 _ I9 q9) λv10 s10 h10=>thn h10 λit2 s11 h11=>?_;obtain⟨itb,fpb,tnb,Jb,Hb,rfl,Ib,Tb,stb,fb,hWb⟩:=h11;refine codeAny_mono (Pj hc (hg2 _ _ _) (hf2 _ _ _) (he _ _ _) Ib Tb stb fb hWb) λr s12 ⟨hr,σ12,H12,I12,n12⟩=>⟨hr,?_⟩
    obtain⟨m',hm,w12⟩:=hN _ _ n12;exact⟨m',hm,i+1,σ12,H12,I12.unpinned,(keepI I12).1,(keepI I12).2,w12⟩
 exact codeAny_compStart_list loop (T.self X.A 0 _ _ _ (T.keep _ _ _ st3 λb hb o e=>hk b o e) loop)
theorem T0{elt tg iter tg2 iter2:Expr}{ifs ifs2:List Expr}{scope:Scope}{pos:Pos}{loc fr:List Str}{ix:List Nat}{wi wi2:TI}{g g2:TG}{tf tf2:TT}{te:TE}(hc:X.calm=true)(S:CSc X scope fr ix)(hi:PI X tg iter wi)
 (hg:∀s H ex,PG (cCx X (loc++fr) scope s H ex) tg g) (hf:∀s H ex,PF (cCx X (loc++fr) scope s H ex) ifs tf) (hi2:∀s H ex,PI (cCx X (loc++fr) scope s H ex) tg2 iter2 wi2) (hg2:∀s H ex,PG (cCx X (loc++fr) scope s H ex) tg2 g2) (hf2:∀s H ex,PF (cCx X (loc++fr) scope s H ex) ifs2 tf2) (he:∀s H ex,PE (cCx X (loc++fr) scope s H ex) elt te)
 (hs:∀x,foldedSetIterable iter X.env x=pure x:=by intro _;rfl) (hs2:∀s H ex x,foldedSetIterable iter2 (cCx X (loc++fr) scope s H ex).env x=pure x:=by intro _ _ _ _;rfl):
 PE X (LC2 elt tg iter ifs tg2 iter2 ifs2 scope pos) (MR loc.length ix wi g tf wi2 g2 tf2 te):=by
 intro pins s σ H Q I h;rw[eval_ListComp];have hnames:∀y∈scope.names,y.2=.local->scope.names.lookup y.1=some .local:=λy hy e=>by
  have:=all_eq_true.mp S.loc y hy;rw[e]at this;simpa using this
 refine wpAny_comprehension_free (use:=none) rfl hs (E5 (S.clos I.ok)) S.kind hnames (thn (hi pins s σ H _ I h) λv s1 h1=>thn h1 λitv s2 h2=>?_);obtain⟨it,fp,tn,J,H2,rfl,I2,T,st2,f2,hW⟩:=h2;refine Nh (RR:=λacc C=>compPost (model X.prog X.w) X.A X.xe none (EP X pins σ Q) acc C) hc S hg hf hi2 hg2 hf2 he hs2 I2 T st2 f2 hW λs3 s6 H5 σ5 L I3 I6 f3 q=>?_;obtain⟨m,hm,_⟩:=I6.loc;exact⟨m,hm,λh'' hs'=>⟨.ref L,H5,Iz I3 I6 f3 hs',rfl,q⟩⟩
end
open Classical in
def mIn(k:Nat)(n:MG)(c:MT)(m:ME)(g:Gd):List D->Ls->Hd->Option (Ls×Hd)
 |[],ls,hd=>some (ls,hd)
 |d::r,ls,hd=>(n d ls hd).bind λls1=>(c ls1 hd).bind λp=>if p.1=true then(m ls1 p.2).bind λq=>(BH (.mu k) [q.1] q.2).bind λz=>if GOk z.2 g then mIn k n c m g r ls1 z.2 else none else if GOk p.2 g then mIn k n c m g r ls1 p.2 else none
open Classical in
def FF(k:Nat)(n:MG)(c:MT)(mi:MI)(n2:MG)(c2:MT)(m:ME)(g:Gd):List D->Ls->Hd->Option Hd
 |[],ls,hd=>some hd
 |d::r,ls,hd=>(n d ls hd).bind λls1=>(c ls1 hd).bind λp=>if p.1=true then(mi ls1 p.2).bind λq=>(mIn k n2 c2 m q.1.2 q.1.1 ls1 q.2).bind λz=>if GOk z.2 g then FF k n c mi n2 c2 m g r z.1 z.2 else none else if GOk p.2 g then FF k n c mi n2 c2 m g r ls1 p.2 else none
def Hq(j:Nat)(ix:List Nat)(mi:MI)(n:MG)(c:MT)(mi2:MI)(n2:MG)(c2:MT)(m:ME):ME:=λls hd=>(mi ls hd).bind λp=>(FF p.2.length n c mi2 n2 c2 m p.1.2 p.1.1 (Dh j ix ls) (p.2++[.lst []])).map λh=>(.mu p.2.length,h)
section
variable{K:PySem.W.Frag}{ρ:List Addr}{H:Hp}{hd:Hd}
theorem Vt{h:Hd}{g:Gd}(G:GOk h g)(r:Hd):GOk (h++r) g:=λp hp=>by
 have:=G p hp;have hl:p.1<h.length:=(List.getElem?_eq_some_iff.mp this).1;rw[List.getElem?_append_left hl];exact this
theorem Z9{g:TG}{tf:TT}{te:TE}{n:MG}{c:MT}{m:ME}(hg:RGt K g n)(hf:RT K tf c)(he:RE K te m){J:It}{ds:List D}{gd:Gd}{k:Nat}{Da:Addr}{ls ls':Ls}{hd':Hd}{σ:St}{Q:St->Hp->Prop}
 (hR:RH K ρ H hd) (hL:RL K ρ H ls σ) (G:GOk hd gd) (Y:KW K ρ H J ds gd) (hk:ρ[k]?=some Da) (hm:mIn k n c m gd ds ls hd=some (ls',hd'))
 (hQ:∀ρ' H' σ',Ext ρ H ρ' H'->RH K ρ' H' hd'->RL K ρ' H' ls' σ'->Q σ' H'):Px J Da σ H g tf te Q:=by
 refine⟨λi mm σ2 H2=>mm=ds.length-i/\i<=ds.length/\∃ρ2 ls2 hd2,Ext ρ H ρ2 H2/\RH K ρ2 H2 hd2/\RL K ρ2 H2 ls2 σ2/\GOk hd2 gd/\mIn k n c m gd (ds.drop i) ls2 hd2=some (ls',hd'),
  ⟨ds.length,by simp,zero_le _,ρ,ls,hd,.refl,hR,hL,G,by simpa using hm⟩,?_⟩
 rintro i mm σ2 H2 ⟨rfl,hi,ρ2,ls2,hd2,x2,R2,L2',G2,hm2⟩;obtain⟨Y1,Y2⟩:=Y ρ2 H2 hd2 x2 R2 G2 i;have hk2:ρ2[k]?=some Da:=by
  obtain⟨r,rfl,_⟩:=x2.pre;rw[List.getElem?_append_left (List.getElem?_eq_some_iff.mp hk).1];exact hk
 by_cases hlt:i<ds.length
 .obtain⟨go,Y1⟩:=Y1 hlt;have ed:ds.drop i=ds[i]::ds.drop (i+1):=drop_eq_getElem_cons hlt;rw[ed]at hm2;unfold mIn at hm2;obtain⟨ls3,e3,hm2⟩:=fK hm2;obtain⟨⟨bb,hd4⟩,e4,hm2⟩:=fK hm2;refine .inr ⟨go,λσ' H'=>∃ρ2 ls2 hd2,Ext ρ H ρ2 H'/\RH K ρ2 H' hd2/\RL K ρ2 H' ls2 σ'/\GOk hd2 gd/\mIn k n c m gd (ds.drop (i+1)) ls2 hd2=some (ls',hd'),λσ' H' z=>⟨ds.length-(i+1),by omega,rfl,hlt,z⟩,λx H3 y=>?_⟩;obtain⟨ρ3,d3,x3,rfl,R3,e5,r3⟩:=Y1 x H3 y;have e6:d3=ds[i]:=by
   have:ds[i]?=some ds[i]:=by simp[hlt]
   rw[this]at e5;exact(Option.some.inj e5).symm
  subst e6;refine hg ρ3 σ2 H3 hd2 ls2 ls3 _ x _ R3 (L2'.ext R2 x3) r3 e3 λσ4 L4=>?_;refine hf ρ3 σ4 H3 hd2 ls3 _ bb hd4 R3 L4 e4 λρ5 H5 x5 R5=>?_;have y25:=x3.trans R3 x5;cases bb with
  |false=>
   rw[if_neg Bool.false_ne_true]at hm2 ⊢;split at hm2
   .next g5=>exact⟨ρ5,ls3,hd4,x2.trans R2 y25,R5,L4.ext R3 x5,g5,hm2⟩
   .cases hm2
  |true=>
   rw[if_pos rfl]at hm2 ⊢;obtain⟨⟨z,hd6⟩,e6,hm2⟩:=fK hm2;obtain⟨⟨z7,hd7⟩,e7,hm2⟩:=fK hm2;refine he ρ5 σ4 H5 hd4 ls3 _ z hd6 R5 (L4.ext R3 x5) e6 λρ6 H6 v6 x6 R6 r6=>?_;have y26:=y25.trans R5 x6;have hk6:ρ6[k]?=some Da:=by
    obtain⟨r,rfl,_⟩:=y26.pre;rw[List.getElem?_append_left (List.getElem?_eq_some_iff.mp hk2).1];exact hk2
   unfold BH at e7;dsimp only at e7 hm2;split at e7
   .next es q=>
    split at e7
    .next c7=>
     cases e7;obtain⟨xs,e1,e2⟩:=R6.lst hk6 q;obtain⟨R7,x7⟩:=R6.put hk6 (o:=.lst (es++[z])) (ho:=.lst (xs++[v6])) ⟨_,rfl,e2.app (.cons r6 .nil)⟩;refine⟨xs,e1,by rw[e2.len];exact c7,?_⟩;split at hm2
     .next g7=>exact⟨ρ6,ls3,_,(x2.trans R2 y26).trans R6 x7,R7,((L4.ext R3 x5).ext R5 x6).ext R6 x7,g7,hm2⟩
     .cases hm2
    .cases e7
   .cases e7
 .have e:i=ds.length:=by omega
  subst e;rw[drop_length]at hm2;unfold mIn at hm2;cases hm2;exact .inl ⟨Y2 rfl,hQ ρ2 H2 σ2 x2 R2 L2'⟩
theorem Sb{j:Nat}{ix:List Nat}{wi wi2:TI}{g g2:TG}{tf tf2:TT}{te:TE}{mi mi2:MI}{n n2:MG}{c c2:MT}{m:ME}(hi:RIt K wi mi)(hg:RGt K g n)(hf:RT K tf c)(hi2:RIt K wi2 mi2)(hg2:RGt K g2 n2)(hf2:RT K tf2 c2)(he:RE K te m):RE K (MR j ix wi g tf wi2 g2 tf2 te) (Hq j ix mi n c mi2 n2 c2 m):=by
 intro ρ σ H hd ls Q out hd' hR hL hm hQ;obtain⟨⟨⟨ds,gd⟩,h1⟩,e1,hm⟩:=fK hm;obtain⟨hd2,hm,e2⟩:=fL hm;cases e2;dsimp only at hm;refine hi ρ σ H hd ls _ ds gd h1 hR hL e1 λρ1 H1 J x1 R1 G1 Y=>?_;intro Da hDa;obtain⟨R1',x1'⟩:=R1.new (o:=.lst []) (ho:=.lst []) hDa ⟨[],rfl,.nil⟩;have hk1:(ρ1++[Da])[h1.length]?=some Da:=by rw[<- R1.len];simp
 refine⟨λi mm σ2 H2=>mm=ds.length-i/\i<=ds.length/\∃ρ2 ls2 h2,Ext (ρ1++[Da]) (upd H1 Da (.lst [])) ρ2 H2/\RH K ρ2 H2 h2/\RL K ρ2 H2 ls2 σ2/\GOk h2 gd/\FF h1.length n c mi2 n2 c2 m gd (ds.drop i) ls2 h2=some hd',
  ⟨ds.length,by simp,zero_le _,_,_,_,.refl,R1',OU ((hL.ext hR x1).ext R1 x1'),Vt G1 _,by simpa using hm⟩,?_⟩
 rintro i mm σ2 H2 ⟨rfl,hi',ρ2,ls2,h2,x2,R2,L2',G2,hm2⟩;have x12:=x1'.trans R1' x2;obtain⟨Y1,Y2⟩:=Y ρ2 H2 h2 x12 R2 G2 i;have hk2:ρ2[h1.length]?=some Da:=by
  obtain⟨r,rfl,_⟩:=x2.pre;rw[List.getElem?_append_left (List.getElem?_eq_some_iff.mp hk1).1];exact hk1
 by_cases hlt:i<ds.length
 .obtain⟨go,Y1⟩:=Y1 hlt;have ed:ds.drop i=ds[i]::ds.drop (i+1):=drop_eq_getElem_cons hlt;rw[ed]at hm2;unfold FF at hm2;obtain⟨ls3,e3,hm2⟩:=fK hm2;obtain⟨⟨bb,hd4⟩,e4,hm2⟩:=fK hm2;refine .inr ⟨go,λσ' H'=>∃ρ2 ls2 h2,Ext (ρ1++[Da]) (upd H1 Da (.lst [])) ρ2 H'/\RH K ρ2 H' h2/\RL K ρ2 H' ls2 σ'/\GOk h2 gd/\FF h1.length n c mi2 n2 c2 m gd (ds.drop (i+1)) ls2 h2=some hd',λσ' H' z=>⟨ds.length-(i+1),by omega,rfl,hlt,z⟩,λx H3 y=>?_⟩;obtain⟨ρ3,d3,x3,rfl,R3,e5,r3⟩:=Y1 x H3 y;have e6:d3=ds[i]:=by
   have:ds[i]?=some ds[i]:=by simp[hlt]
   rw[this]at e5;exact(Option.some.inj e5).symm
  subst e6;refine hg ρ3 σ2 H3 h2 ls2 ls3 _ x _ R3 (L2'.ext R2 x3) r3 e3 λσ4 L4=>?_;refine hf ρ3 σ4 H3 h2 ls3 _ bb hd4 R3 L4 e4 λρ5 H5 x5 R5=>?_;have y25:=x3.trans R3 x5;cases bb with
  |false=>
   rw[if_neg Bool.false_ne_true]at hm2 ⊢;split at hm2
   .next g5=>exact⟨ρ5,ls3,hd4,x2.trans R2 y25,R5,L4.ext R3 x5,g5,hm2⟩
   .cases hm2
  |true=>
   rw[if_pos rfl]at hm2 ⊢;obtain⟨⟨⟨ds6,g6⟩,hd6⟩,e6,hm2⟩:=fK hm2;obtain⟨⟨ls7,hd7⟩,e7,hm2⟩:=fK hm2;refine hi2 ρ5 σ4 H5 hd4 ls3 _ ds6 g6 hd6 R5 (L4.ext R3 x5) e6 λρ6 H6 J6 x6 R6 G6 Y6=>?_;have y26:=y25.trans R5 x6;have hk6:ρ6[h1.length]?=some Da:=by
    obtain⟨r,rfl,_⟩:=y26.pre;rw[List.getElem?_append_left (List.getElem?_eq_some_iff.mp hk2).1];exact hk2
   refine Z9 hg2 hf2 he R6 ((L4.ext R3 x5).ext R5 x6) G6 Y6 hk6 e7 λρ7 H7 σ7 x7 R7 L7=>?_;dsimp only at hm2;split at hm2
   .next g7=>exact⟨ρ7,ls7,hd7,(x2.trans R2 y26).trans R6 x7,R7,L7,g7,hm2⟩
   .cases hm2
 .have e:i=ds.length:=by omega
  subst e;rw[drop_length]at hm2;unfold FF at hm2;cases hm2;refine .inl ⟨Y2 rfl,hQ ρ2 H2 _ (x1.trans R1 x12) R2 ?_⟩;simp only[RD];exact⟨Da,hk2,rfl⟩
end
theorem Sn(K:PySem.W.Frag){X:Cx}{elt tg iter tg2 iter2:Expr}{ifs ifs2:List Expr}{scope:Scope}{pos:Pos}{loc fr:List Str}{ix:List Nat}{wi wi2:TI}{g g2:TG}{tf tf2:TT}{te:TE}{mi mi2:MI}{n n2:MG}{mf mf2:MT}{mm:ME}(hc:X.calm=true)(S:CSc X scope fr ix)(hi:QI K X tg iter wi mi)
 (hg:∀s H ex,QG K (cCx X (loc++fr) scope s H ex) tg g n) (hf:∀s H ex,QF K (cCx X (loc++fr) scope s H ex) ifs tf mf) (hi2:∀s H ex,QI K (cCx X (loc++fr) scope s H ex) tg2 iter2 wi2 mi2) (hg2:∀s H ex,QG K (cCx X (loc++fr) scope s H ex) tg2 g2 n2) (hf2:∀s H ex,QF K (cCx X (loc++fr) scope s H ex) ifs2 tf2 mf2) (he:∀s H ex,QE K (cCx X (loc++fr) scope s H ex) elt te mm)
 (hs:∀x,foldedSetIterable iter X.env x=pure x:=by intro _;rfl) (hs2:∀s H ex x,foldedSetIterable iter2 (cCx X (loc++fr) scope s H ex).env x=pure x:=by intro _ _ _ _;rfl):
 QE K X (.ListComp elt [⟨tg,iter,ifs,0⟩,⟨tg2,iter2,ifs2,0⟩] scope pos) (MR loc.length ix wi g tf wi2 g2 tf2 te) (Hq loc.length ix mi n mf mi2 n2 mf2 mm):=
 ⟨T0 hc S hi.p (λs H ex=>(hg s H ex).p) (λs H ex=>(hf s H ex).p) (λs H ex=>(hi2 s H ex).p) (λs H ex=>(hg2 s H ex).p) (λs H ex=>(hf2 s H ex).p) (λs H ex=>(he s H ex).p) hs hs2,
  Sb hi.r (hg X.s₀ X.H₀ []).r (hf X.s₀ X.H₀ []).r (hi2 X.s₀ X.H₀ []).r (hg2 X.s₀ X.H₀ []).r (hf2 X.s₀ X.H₀ []).r (he X.s₀ X.H₀ []).r⟩
open Classical in
def N2(ma mb:ME):MA:=λls hd=>(ma ls hd).bind λp=>(mb ls p.2).bind λq=>match p.1,q.1 with
 |.mu i,.mu j=>match q.2[i]?,q.2[j]? with
  |some (.lst xs),some (.lst ys)=>if CM (xs.length+ys.length)then some (xs++ys,q.2)else none
  |_,_=>none
 |_,_=>none
theorem Wi{K:PySem.W.Frag}{ta tb:TE}{ma mb:ME}(ha:RE K ta ma)(hb:RE K tb mb):RN K (tOp Sj ta tb) (N2 ma mb):=by
 intro ρ σ H hd ls Q d hd' hR hL hm hQ;obtain⟨⟨d1,h1⟩,e1,hm⟩:=fK hm;obtain⟨⟨d2,h2⟩,e2,hm⟩:=fK hm;dsimp only at hm;split at hm
 .next i j=>
  split at hm
  .next xs ys q1 q2=>
   split at hm
   .next c=>
    cases hm;refine ha ρ σ H hd ls _ _ h1 hR hL e1 λρ1 H1 v x1 R1 r1=>?_;refine hb ρ1 σ H1 h1 ls _ _ _ R1 (hL.ext hR x1) e2 λρ2 H2 u x2 R2 r2=>?_;have r1':=r1.ext R1 x2;simp only[RD]at r1' r2;obtain⟨a,ka,rfl⟩:=r1';obtain⟨b,kb,rfl⟩:=r2;obtain⟨vs,f1,f2⟩:=R2.lst ka q1;obtain⟨us,f3,f4⟩:=R2.lst kb q2;refine⟨a,b,vs,us,rfl,rfl,f1,f3,by rw[f2.len,f4.len];exact c,λp hp=>?_⟩;obtain⟨R3,x3⟩:=R2.hid (ho:=.lst (vs++us)) hp;have x12:=x1.trans R1 x2;exact hQ ρ2 _ p _ (x12.trans R2 x3) R3 (x12.none hR hp R2) (R2.out hp) Af ((f2.app f4).ext R2 x3)
   .cases hm
  .cases hm
 .cases hm
theorem X1(K:PySem.W.Frag){X:Cx}{a b:Expr}{pos:Pos}{ta tb:TE}{ma mb:ME}(ha:QE K X a ta ma)(hb:QE K X b tb mb):QN K X (.BinOp a .Add b pos) (tOp Sj ta tb) (N2 ma mb):=⟨U1 XW ha.p hb.p,Wi ha.r hb.r⟩
@[simp] theorem TV(j:Nat)(ix:List Nat)(mi mi2:MI)(n n2:MG)(c c2:MT)(m:ME)(ls:Ls)(hd:Hd):Hq j ix mi n c mi2 n2 c2 m ls hd=(mi ls hd).bind λp=>(FF p.2.length n c mi2 n2 c2 m p.1.2 p.1.1 (Dh j ix ls) (p.2++[.lst []])).map λh=>(.mu p.2.length,h):=rfl
end L2
namespace L2
open PySem PySem.Spec PyProof.Rows PySem.W
section
variable(r:Nat->Int)(n:Nat)
def PWp{α:Type}:KasT α->(α->Prop)->Prop
 |.ret a,Q=>Q a
 |.ask i j k,Q=>i<n/\j<n/\PWp (k (decide (r i<r j))) Q
def kv(p:Array Nat)(i:Nat):Int:=r (p.getD i 0)
def STo(p:Array Nat)(m:Nat):Prop:=∀i j,i<=j->j<m->kv r p i<=kv r p j
def DTo(p:Array Nat)(m:Nat):Prop:=∀i j,i<=j->j<m->kv r p j<=kv r p i
def EqL(p:Array Nat)(m q:Nat):Prop:=∀k,m-(q+1)<=k->k<m->kv r p k=kv r p (m-1)
def PAr(p:Array Nat):Prop:=p.Perm (List.range n).toArray
end
section
variable{r:Nat->Int}{n:Nat}
theorem PWp.bind{α β:Type}{f:α->KasT β}{Q:β->Prop}:∀{t:KasT α},PWp r n t (λa=>PWp r n (f a) Q)->PWp r n (t.bind f) Q
 |.ret _,h=>h
 |.ask i j k,h=>⟨h.1,h.2.1,PWp.bind h.2.2⟩
theorem PWp.mono{α:Type}{Q Q':α->Prop}:∀{t:KasT α},PWp r n t Q->(∀a,Q a->Q' a)->PWp r n t Q'
 |.ret _,h,q=>q _ h
 |.ask i j k,h,q=>⟨h.1,h.2.1,PWp.mono h.2.2 q⟩
theorem PWp.wp{α:Type}{cmp:Nat->Nat->(Bool->Shared->Prop)->Shared->Prop}{P:Shared->Prop}{Q:α->Shared->Prop}(hc:∀i j C s,i<n->j<n->P s->(∀s',P s'->C (decide (r i<r j)) s')->cmp i j C s):∀{t:KasT α} {s:Shared},PWp r n t (λa=>∀s,P s->Q a s)->P s->t.kasWp cmp Q s
 |.ret _,s,h,p=>h s p
 |.ask i j k,s,h,p=>hc i j _ s h.1 h.2.1 p λs' p'=>PWp.wp hc h.2.2 p'
theorem PAr.size{p:Array Nat}(h:PAr n p):p.size=n:=by have:=h.size_eq;simpa using this
theorem PAr.lt{p:Array Nat}(h:PAr n p){i:Nat}(hi:i<n):p.getD i 0<n:=by
 have hs:=h.size;have hi':i<p.size:=by omega
 have:p[i]∈(List.range n).toArray:=h.mem_iff.mp (Array.getElem_mem hi');have e:p.getD i 0=p[i]:=by simp[Array.getD,hi']
 rw[e];simpa using this
theorem KC{p:Array Nat}{i j:Nat}(hj:j<=p.size)(k:Nat):kv r (kas_rev p i j) k=if i<=k/\k<j then kv r p (i+j-1-k)else kv r p k:=by
 unfold kv kas_rev;simp only[Array.getD_eq_getD_getElem?];rw[getElem?_mirror_all hj];split<;>rfl
theorem PAr.rev{p:Array Nat}(h:PAr n p)(i j:Nat):PAr n (kas_rev p i j):=(mirror_perm _ _ _ _).trans h
theorem OE{p:Array Nat}{m q:Nat}(hj:m<=p.size)(hq:q+1<=m)(h:EqL r p m q)(k:Nat):kv r (kas_rev p (m-(q+1)) m) k=kv r p k:=by
 rw[KC hj];split
 .next c=>rw[h _ (by omega) (by omega),h k c.1 c.2]
 .rfl
theorem NR{p:Array Nat}(pa:PAr n p):∀(f m:Nat),1<=m->m+f<=n->STo r p m->PWp r n (kas_asc p f m) λm'=>m<=m'/\m'<=m+f/\STo r p m'/\(m'<m+f->kv r p m'<kv r p (m'-1))
 |0,m,h1,hn,hs=>⟨le_refl _,le_refl _,hs,λh=>by omega⟩
 |f+1,m,h1,hn,hs=>by
  refine⟨pa.lt (by omega),pa.lt (by omega),?_⟩;by_cases c:r (p.getD m 0)<r (p.getD (m-1) 0)
  .rw[decide_eq_true c];exact⟨le_refl _,by omega,hs,λ_=>c⟩
  .rw[decide_eq_false c];refine(NR pa f (m+1) (by omega) (by omega) ?_).mono λm' h=>⟨by omega,by omega,h.2.2.1,λz=>h.2.2.2 (by omega)⟩
   intro i j hij hj;by_cases e:j<m
   .exact hs i j hij e
   .have:j=m:=by omega
    subst this;by_cases e2:i=j
    .subst e2;exact Int.le_refl _
    .have:=hs i (j-1) (by omega) (by omega);have:kv r p (j-1)<=kv r p j:=by unfold kv;omega
     omega
theorem JS{p:Array Nat}{m:Nat}(h1:1<=m)(h:DTo r p m)(c:kv r p m<=kv r p (m-1)):DTo r p (m+1):=by
 intro i j hij hj;by_cases e:j<m
 .exact h i j hij e
 .have:j=m:=by omega
  subst this;by_cases e2:i=j
  .subst e2;exact Int.le_refl _
  .have:=h i (j-1) (by omega) (by omega);omega
theorem Ik:∀(f:Nat) (p:Array Nat) (m q:Nat),PAr n p->1<=m->q+1<=m->m+f<=n->DTo r p m->EqL r p m q ->
 PWp r n (kas_desc f p m q) λz=>PAr n z.1/\m<=z.2.1/\z.2.1<=m+f/\DTo r z.1 z.2.1/\EqL r z.1 z.2.1 z.2.2/\z.2.2+1<=z.2.1
 |0,p,m,q,pa,h1,hq,hn,hd,he=>⟨pa,le_refl _,le_refl _,hd,he,hq⟩
 |f+1,p,m,q,pa,h1,hq,hn,hd,he=>by
  refine⟨pa.lt (by omega),pa.lt (by omega),?_⟩;have sz:=pa.size;by_cases c:r (p.getD m 0)<r (p.getD (m-1) 0)
  .rw[decide_eq_true c];have c':kv r p m<=kv r p (m-1):=by unfold kv;omega
   dsimp only;rw[if_pos rfl];by_cases hq0:q>0
   .rw[if_pos hq0];have sm:=OE (r:=r) (p:=p) (m:=m) (q:=q) (by omega) hq he;refine(Ik f _ (m+1) 0 (pa.rev _ _) (by omega) (by omega) (by omega) ?_ ?_).mono λz h=>⟨h.1,by omega,by omega,h.2.2.2⟩
    .have:=JS h1 hd c';intro i j a b;rw[sm,sm];exact this i j a b
    .intro k a b;have:k=m:=by omega
     subst this;rfl
   .rw[if_neg hq0];refine(Ik f p (m+1) 0 pa (by omega) (by omega) (by omega) (JS h1 hd c') ?_).mono λz h=>⟨h.1,by omega,by omega,h.2.2.2⟩
    intro k a b;have:k=m:=by omega
    subst this;rfl
  .rw[decide_eq_false c];dsimp only;rw[if_neg Bool.false_ne_true];refine⟨pa.lt (by omega),pa.lt (by omega),?_⟩;by_cases d:r (p.getD (m-1) 0)<r (p.getD m 0)
   .rw[decide_eq_true d];exact⟨pa,le_refl _,by show m<=m+(f+1);omega,hd,he,hq⟩
   .rw[decide_eq_false d];dsimp only;rw[if_neg Bool.false_ne_true];have e:kv r p m=kv r p (m-1):=by unfold kv;omega
    refine(Ik f p (m+1) (q+1) pa (by omega) (by omega) (by omega) (JS h1 hd (by omega)) ?_).mono λz h=>⟨h.1,by omega,by omega,h.2.2.2⟩
    intro k a b;by_cases e2:k=m
    .subst e2;rfl
    .have:=he k (by omega) (by omega);have e3:m+1-1=m:=rfl;rw[e3];omega
def Run(z:Nat×Array Nat)(r:Nat->Int)(n:Nat):Prop:=PAr n z.2/\1<=z.1/\z.1<=n/\STo r z.2 z.1
theorem MN{p:Array Nat}{m:Nat}(pa:PAr n p)(h1:1<=m)(hn:m<=n)(hd:DTo r p m):PWp r n (kas_tail3 m n p) λz=>Run z r n:=by
 have sz:=pa.size;have st:STo r (kas_rev p 0 m) m:=by
  intro i j a b;rw[KC (by omega),KC (by omega),if_pos ⟨by omega,by omega⟩,if_pos ⟨by omega,by omega⟩];exact hd _ _ (by omega) (by omega)
 refine PWp.bind ((NR (pa.rev 0 m) (n-m) m h1 (by omega) st).mono λm' h=>?_);exact⟨pa.rev 0 m,by show 1<=m';omega,by show m'<=n;omega,h.2.2.1⟩
theorem Iw{p:Array Nat}{m:Nat}(pa:PAr n p)(hn:m+1<=n)(hd:DTo r p (m+1)):PWp r n (kas_descPart m n p) λz=>Run z r n:=by
 refine PWp.bind ((Ik (n-(m+1)) p (m+1) 0 pa (by omega) (by omega) (by omega) hd ?_).mono λz h=>?_)
 .intro k a b;have:k=m:=by omega
  subst this;rfl
 .obtain⟨a,b,c,d,e,g⟩:=h;have sz:=a.size;by_cases hq:z.2.2>0
  .rw[if_pos hq];have sm:=OE (r:=r) (p:=z.1) (m:=z.2.1) (q:=z.2.2) (by omega) g e;exact MN (a.rev _ _) (by omega) (by omega) λi j x y=>by rw[sm,sm];exact d i j x y
  .rw[if_neg hq];exact MN a (by omega) (by omega) d
theorem Tc(h1:1<=n):PWp r n (kas_count n (List.toArray (List.range n))) λz=>Run z r n:=by
 have pa:PAr n (List.range n).toArray:=.refl _;have sz:=pa.size;refine PWp.bind ((NR pa (n-1) 1 (by omega) (by omega) λi j a b=>?_).mono λm h=>?_)
 .have:i=j:=by omega
  subst this;exact Int.le_refl _
 .obtain⟨a,b,c,d⟩:=h;by_cases e:(m==n)=true
  .rw[if_pos e];have:m=n:=by simpa using e
   exact⟨pa,by show 1<=m;omega,by show m<=n;omega,c⟩
  .rw[if_neg e];have hne:m≠n:=by simpa using e
   have dd:=d (by omega);by_cases h2:m>1
   .rw[if_pos h2];refine⟨pa.lt (by omega),pa.lt (by omega),?_⟩;by_cases g:r ((List.range n).toArray.getD 0 0)<r ((List.range n).toArray.getD (m-1) 0)
    .rw[decide_eq_true g];exact⟨pa,by show 1<=m;omega,by show m<=n;omega,c⟩
    .rw[decide_eq_false g];dsimp only;rw[if_neg Bool.false_ne_true];have g':kv r (List.range n).toArray (m-1)<=kv r (List.range n).toArray 0:=by unfold kv;omega
     have eq:∀k,k<m->kv r (List.range n).toArray k=kv r (List.range n).toArray 0:=λk hk=>by
      have x1:=c 0 k (by omega) hk;have x2:=c k (m-1) (by omega) (by omega);omega
     have rv:∀k,kv r (kas_rev (List.range n).toArray 0 m) k=kv r (List.range n).toArray k:=λk=>by
      rw[KC (by omega)];split
      .next z=>rw[eq _ (by omega),eq k z.2]
      .rfl
     refine Iw (pa.rev 0 m) (by omega) λi j x y=>?_;rw[rv,rv];by_cases z:j<m
     .rw[eq i (by omega),eq j z];exact Int.le_refl _
     .have:j=m:=by omega
      subst this;by_cases z2:i=j
      .subst z2;exact Int.le_refl _
      .rw[eq i (by omega)];have:=eq (j-1) (by omega);omega
   .rw[if_neg h2];have:m=1:=by omega
    subst this;refine Iw pa (by omega) λi j x y=>?_;by_cases z:i=j
    .subst z;exact Int.le_refl _
    .have:i=0:=by omega
     have:j=1:=by omega
     subst i j;have:kv r (List.range n).toArray 1<kv r (List.range n).toArray 0:=dd;omega
theorem JD{p:Array Nat}{k:Nat}(pa:PAr n p)(hk:k<n)(hs:STo r p k):∀(f l q:Nat),l<=q->q<=k->q-l<=f->(∀i,i<l->kv r p i<=kv r p k)->(∀i,q<=i->i<k->kv r p k<kv r p i) ->
 PWp r n (kas_place p k f l q) λm=>m<=k/\(∀i,i<m->kv r p i<=kv r p k)/\∀i,m<=i->i<k->kv r p k<kv r p i
 |0,l,q,a,b,c,d,e=>⟨by omega,d,λi x y=>e i (by omega) y⟩
 |f+1,l,q,a,b,c,d,e=>by
  unfold kas_place;by_cases h:l>=q
  .rw[if_pos h];exact⟨by omega,d,λi x y=>e i (by omega) y⟩
  .rw[if_neg h];refine⟨pa.lt (by omega),pa.lt (by omega),?_⟩;by_cases g:r (p.getD k 0)<r (p.getD ((l+q)/2) 0)
   .rw[decide_eq_true g];dsimp only;rw[if_pos rfl];have g':kv r p k<kv r p ((l+q)/2):=g;refine JD pa hk hs f l ((l+q)/2) (by omega) (by omega) (by omega) d λi x y=>?_;have:=hs ((l+q)/2) i x y;omega
   .rw[decide_eq_false g];dsimp only;rw[if_neg Bool.false_ne_true];have g':kv r p ((l+q)/2)<=kv r p k:=by unfold kv;omega
    refine JD pa hk hs f ((l+q)/2+1) q (by omega) (by omega) (by omega) (λi x=>?_) e;have:=hs i ((l+q)/2) (by omega) (by omega);omega
theorem LU{p:Array Nat}{k d:Nat}(hk:k<p.size)(hd:d<=k)(i:Nat):kv r (bubble p k d) i=if i=k-d then kv r p k else if k-d<i/\i<=k then kv r p (i-1)else kv r p i:=by
 unfold kv;simp only[Array.getD_eq_getD_getElem?];rw[getElem?_bubble hk d hd];split
 .rfl
 .split<;>rfl
theorem Rq:∀(f:Nat) (p:Array Nat) (k:Nat),PAr n p->k+f=n->STo r p k->PWp r n (kas_bin f p k) λz=>PAr n z/\STo r z n
 | 0,p,k,pa,e,hs=>⟨pa,by
  have:k=n:=by omega
  subst this;exact hs⟩
 |f+1,p,k,pa,e,hs=>by
  have sz:=pa.size;refine PWp.bind ((JD pa (by omega) hs k 0 k (by omega) (by omega) (by omega) (λi h=>by omega) (λi a b=>by omega)).mono λm h=>?_);obtain⟨a,b,c⟩:=h;refine Rq f _ (k+1) ((bubble_perm _ _ _).trans pa) (by omega) λi j x y=>?_;rw[LU (by omega) (by omega),LU (by omega) (by omega)];have ek:k-(k-m)=m:=by omega
  rw[ek]
  repeat' split
  .exact Int.le_refl _
  .exact Int.le_of_lt (c _ (by omega) (by omega))
  .omega
  .exact b _ (by omega)
  .exact hs _ _ (by omega) (by omega)
  .omega
  .exact b _ (by omega)
  .exact hs _ _ (by omega) (by omega)
  .exact hs _ _ (by omega) (by omega)
theorem No(h1:1<=n):PWp r n (kas_sort n) λp=>PAr n p/\STo r p n:=by
 refine PWp.bind ((Tc h1).mono λz h=>?_);obtain⟨a,b,c,d⟩:=h;by_cases e:z.1<n
 .rw[if_pos e];have:max z.1 1=z.1:=by omega
  rw[this];exact Rq _ _ _ a (by omega) d
 .rw[if_neg e];have:z.1=n:=by omega
  exact⟨a,this ▸ d⟩
end
def PairAt(h:Heap)(v:Value)(p:Int×Int):Prop:=∃(x:Addr) (o:Obj) (t u:Tok) (k:Nat),v=.ref x/\h.get? x=some o/\o.cls=.type "tuple"/\o.data=.seq #[.int p.1 t,.int p.2 u] k
def Bs(p:Int×Int):Int:=p.1*4000000000+p.2
def pok(p:Int×Int):Prop:=-1000000000<=p.1/\p.1<=1000000000/\-1000000000<=p.2/\p.2<=1000000000
section
variable{prog:Program}{w:World}{A:Around}{E:Value->Shared->Prop}{s:Shared}
theorem OC{x y:Value}{p q:Int×Int}{C:Bool->Shared->Prop}(hx:PairAt s.heap x p)(hy:PairAt s.heap y q)(op:pok p)(oq:pok q)(h:C (decide (Bs p<Bs q)) s):
 wpAny (model prog w) A (keyLt' (tuples' true) x y) C E s:=by
 obtain⟨a,o,t,u,k,rfl,ho,hc,hd⟩:=hx;obtain⟨a2,o2,t2,u2,k2,rfl,ho2,hc2,hd2⟩:=hy;obtain⟨p1,p2⟩:=p;obtain⟨q1,q2⟩:=q;unfold pok at op oq;unfold Bs at h;dsimp only at op oq h;refine kat_lt ho hd ho2 hd2 ?_;refine kat_cons (wpAny_eqBool_int ?_);by_cases e1:p1=q1
 .have b1:(p1==q1)=true:=by simp[e1]
  rw[b1];refine kat_yes (kat_cons (wpAny_eqBool_int ?_));by_cases e2:p2=q2
  .have b2:(p2==q2)=true:=by simp[e2]
   rw[b2];refine kat_yes (kat_nil ?_);have:decide (p1*4000000000+p2<q1*4000000000+q2)=false:=decide_eq_false (by omega);rw[this]at h;exact h
  .have b2:(p2==q2)=false:=by simp[e2]
   rw[b2];refine kat_no (kat_one _ _ (lt_int ?_));have:decide (p1*4000000000+p2<q1*4000000000+q2)=decide (p2<q2):=decide_eq_decide.mpr (by omega);rw[this]at h;exact h
 .have b1:(p1==q1)=false:=by simp[e1]
  rw[b1];refine kat_no (oneLt_int ?_);have:decide (p1*4000000000+p2<q1*4000000000+q2)=decide (p1<q1):=decide_eq_decide.mpr (by omega);rw[this]at h;exact h
theorem Kf{h:Heap}:∀{vs:List Value} {ps:List (Int×Int)},vs.length=ps.length->(∀(i:Nat) (v:Value) (p:Int×Int),vs[i]?=some v->ps[i]?=some p->PairAt h v p)->∃fs,KatTups h vs fs/\fs.length=vs.length/\∀f∈fs,∃i t,f=.int i t
 |[],[],_,_=>⟨[],.nil,rfl,λ_ z=>by cases z⟩
 |v::vs,p::ps,hl,hp=>by
  obtain⟨fs,a,b,c⟩:=Kf (vs:=vs) (ps:=ps) (by simpa using hl) λi v q e1 e2=>hp (i+1) v q (by simpa using e1) (by simpa using e2);obtain⟨x,o,t,u,k,rfl,ho,hc,hd⟩:=hp 0 v p rfl rfl;exact⟨.int p.1 t::fs,.cons ho hc hd rfl a,by simp[b],λf hf=>by
   rcases mem_cons.mp hf with rfl|hf
   .exact⟨_,_,rfl⟩
   .exact c f hf⟩
def FV(vs:List Value)(ps:List (Int×Int))(out:List Value):Prop:=∃zs:List (Value×(Int×Int)),zs.Perm (vs.zip ps)/\(zs.map λz=>Bs z.2).Pairwise (·<=·)/\out=zs.map (·.1)
theorem QH{vs:List Value}{ps:List (Int×Int)}(hl:vs.length=ps.length){p:Array Nat}(pa:PAr vs.length p)(hs:STo (λi=>Bs (ps.getD i (0,0))) p vs.length):FV vs ps (p.toList.map λi=>vs.getD i Value.none):=by
 have sz:=pa.size;refine⟨p.toList.map λi=>(vs.getD i Value.none,ps.getD i (0,0)),?_,?_,by rw[map_map];rfl⟩
 .have e:vs.zip ps=(List.range vs.length).map λi=>(vs.getD i Value.none,ps.getD i (0,0)):=by
   refine ext_getElem? λi=>?_;by_cases hi:i<vs.length
   .have hi2:i<ps.length:=by omega
    rw[(List.getElem?_zip_eq_some (z:=(vs[i],ps[i]))).mpr ⟨by simp[hi],by simp[hi2]⟩];simp[hi,hi2]
   .rw[List.getElem?_eq_none (by simp;omega),List.getElem?_eq_none (by simp;omega)]
  rw[e];have:=Array.perm_iff_toList_perm.mp pa;simpa using this.map _
 .rw[map_map,List.pairwise_iff_getElem];intro i j hi hj hij;simp only[length_map,Array.length_toList]at hi hj;have:=hs i j (by omega) (by omega);unfold kv at this;simpa [Array.getD,hi,hj]using this
theorem Oq{a:Addr}{vs:List Value}{ps:List (Int×Int)}{n:Nat}{P:PySem.Fin->Shared->Prop}(ho:s.heap.get? a=some (seqObj "list" vs.toArray n))(hl:vs.length=ps.length)(h64:vs.length<64)(hok:∀p∈ps,pok p)
 (hp:∀(i:Nat) (v:Value) (p:Int×Int),vs[i]?=some v->ps[i]?=some p->PairAt (s.heap.update a (Obj.mapSeq λ_=>#[])) v p)
 (h:∀out:List Value,FV vs ps out->P (.done (.ret .none)) { s with heap:=sortedHeap s.heap a vs out.toArray }):
 wpAny (model prog w) A (Builtin.«list.sort» ⟨[.ref a],[]⟩) P E s:=by
 have ha:=Heap.lt_size ho;have line:vs.length<=sizeLine:=by rw[sizeLine_eq];omega
 obtain⟨e1,ho1⟩:∃e1,(s.heap.update a (Obj.mapSeq λ_=>#[])).get? a=some (seqObj "list" #[] e1):=⟨_,get?_update_seq ho _⟩
 rw[list_sort_plain];refine wpAny_bind (listItems_at ho rfl (wpAny_bind (listUpdate_at ho rfl (wpAny_bind (seqEpoch_at ho1 rfl (wpAny_bind (wpAny_newTuple (wpAny_bind (wpAny_newList (wpAny_holding ?_) (zero_le _))) line)))) (by rw[size_toArray];exact line) (zero_le _))));have grow:∀b o,(s.heap.update a (Obj.mapSeq λ_=>#[])).get? b=some o->(((s.heap.update a (Obj.mapSeq λ_=>#[])).push (seqObj "tuple" vs.toArray 0)).push (seqObj "list" #[] 0)).get? b=some o:=λb o e=>Heap.get?_push_of_some _ (Heap.get?_push_of_some _ e);have ho6:=grow _ _ ho1;generalize h6:((s.heap.update a (Obj.mapSeq λ_=>#[])).push (seqObj "tuple" vs.toArray 0)).push (seqObj "list" #[] 0)=hp6 at *;have done:∀out:List Value,FV vs ps out->P (.done (.ret .none)) { s with heap:=hp6.update a (Obj.mapSeq λ_=>out.toArray) }:=λout z=>by
  have:=h out z;unfold sortedHeap at this;rw[h6]at this;exact this
 show wpAny (model prog w) A _ P E { s with heap:=hp6 };dsimp only;have pairs6:∀(i:Nat) (v:Value) (p:Int×Int),vs[i]?=some v->ps[i]?=some p->PairAt hp6 v p:=λi v p x y=>by
  obtain⟨x',o,t,u,k,e,q,c,d⟩:=hp i v p x y;exact⟨x',o,t,u,k,e,grow _ _ q,c,d⟩
 by_cases h2:vs.toArray.size<2
 .rw[if_pos h2,if_pos h2];refine wpAny_bind (wpAny_pure ?_);rw[StateT.run_pure];refine wpAny_bind (wpAny_pure ?_);dsimp only;have hout:(arrOf (SortSt.mk' general' (vs.toArray.zip vs.toArray) #[] 7 none)).map (·.2)=vs.toArray:=by
   show(vs.toArray.zip vs.toArray).map (·.2)=vs.toArray;apply Array.toList_inj.mp;simp only[Array.toList_map,Array.toList_zip];exact map_snd_zip (le_refl _)
  rw[hout];refine wpAny_bind (seqEpoch_at ho6 rfl (wpAny_bind (listUpdate_at ho6 rfl ?_ (zero_le _) (by rw[size_toArray];omega))));simp only[bne_self_eq_false,Bool.false_eq_true,if_false];refine wpAny_pure (done vs ⟨vs.zip ps,.refl _,?_,?_⟩)
  .have hz:(vs.zip ps).length<2:=by simp at h2 ⊢;omega
   cases hh:vs.zip ps with
   |nil=>exact .nil
   |cons z r=>
    cases r with
    |nil=>exact List.pairwise_singleton _ _
    |cons y t=>rw[hh]at hz;exact absurd hz (by simp)
  .rw[List.map_fst_zip (by omega)]
 .rw[if_neg h2,if_neg h2];have h2':2<=vs.length:=by simp at h2;omega
  obtain⟨fs,t1,t2,t3⟩:=Kf hl pairs6;have tT:∀f∈fs,Looks (model prog w) hp6 (typeOf f) (Value.type "int"):=λf hf=>by
   obtain⟨i,t,rfl⟩:=t3 f hf;exact .of_pure rfl
  refine wpAny_bind (kat_kind (s:={ s with heap:=hp6 }) t1 (by omega) tT rfl ?_);have est:SortSt.mk' (tuples' true) (vs.toArray.zip vs.toArray) #[] 7 none=kas_st (tuples' true) (pairsOf vs) (List.toArray (List.range vs.length)):=by
   unfold kas_st;rw[<- pairsOf_size vs,kas_range];rfl
  have ask:(kas_sort vs.length).kasWp (kas_cmp prog w A (tuples' true) (pairsOf vs)) (λp s'=>s'={ s with heap:=hp6 }/\FV vs ps (p.toList.map λi=>vs.getD i Value.none)) { s with heap:=hp6 }:=by
   rw[<- kas_ask_eq];refine PWp.wp (n:=vs.length) (r:=λi=>Bs (ps.getD i (0,0))) (P:=λs'=>s'={ s with heap:=hp6 }) (λi j C s' hi hj e hC=>?_) ((No (by omega)).mono λp z s' e=>⟨e,QH hl z.1 z.2⟩) rfl;subst e;have pi:ps[i]?=some (ps.getD i (0,0)):=by simp[show i<ps.length by omega]
   have pj:ps[j]?=some (ps.getD j (0,0)):=by simp[show j<ps.length by omega]
   have vi:vs[i]?=some (vs.getD i Value.none):=by simp[hi]
   have vj:vs[j]?=some (vs.getD j Value.none):=by simp[hj]
   exact OC (s:={ s with heap:=hp6 }) (pairs6 i _ _ vi pi) (pairs6 j _ _ vj pj) (hok _ (mem_of_getElem? pi)) (hok _ (mem_of_getElem? pj)) (hC _ rfl)
  have run:=kas_runs (E:=E) (Q:=λ_ st' s'=>∃p:Array Nat,p.size=vs.length/\arrOf st'=p.map (kas_item (pairsOf vs))/\failedOf st'=none/\s'={ s with heap:=hp6 }/\FV vs ps (p.toList.map λi=>vs.getD i Value.none)) h2' h64 (λp st' s' x1 x2 x3 x4=>⟨p,x1,x2,x3,x4⟩) ask;rw[<- est]at run;refine wpAny_bind (wpAny_mono run ?_ λ_ _ e=>e);rintro⟨⟨⟩,st'⟩ s' ⟨p,hsz,har,hf,rfl,so⟩;dsimp only;have hout:(arrOf st').map (·.2)=(p.toList.map λi=>vs.getD i Value.none).toArray:=by
   rw[har];apply Array.toList_inj.mp;simp only[Array.toList_map,map_map];exact map_congr_left λi _=>congrArg Prod.snd (kas_item_eq vs i)
  rw[hout];refine wpAny_bind (seqEpoch_at ho6 rfl (wpAny_bind (listUpdate_at ho6 rfl ?_ (zero_le _) (by simp[hsz];omega))));rw[hf];simp only[bne_self_eq_false,Bool.false_eq_true,if_false];exact wpAny_pure (done _ so)
end
theorem PairAt.keep{h h':Heap}{v:Value}{p:Int×Int}(k:∀b o,h.get? b=some o->h'.get? b=some o)(q:PairAt h v p):PairAt h' v p:=by
 obtain⟨x,o,t,u,n,e,ho,c,d⟩:=q;exact⟨x,o,t,u,n,e,k _ _ ho,c,d⟩
section
variable{prog:Program}{w:World}{A:Around}{E:Value->Shared->Prop}{s:Shared}
theorem MX{l:Addr}{vs:List Value}{ps:List (Int×Int)}{Q:Value->Shared->Prop}(hl:s.heap.IsList l vs.toArray)(hlen:vs.length=ps.length)(h64:vs.length<64)(hok:∀p∈ps,pok p)
 (hp:∀(i:Nat) (v:Value) (p:Int×Int),vs[i]?=some v->ps[i]?=some p->PairAt s.heap v p)
 (h:∀out:List Value,FV vs ps out->Q (.ref (s.heap.objs.size+1)) { s with heap:=sortedAll s.heap vs out.toArray }):
 wpAny (model prog w) A (call (.builtin "sorted") [.ref l]) Q E s:=by
 have line:vs.length<=sizeLine:=by rw[sizeLine_eq];omega
 refine Calls.call_function_entry kind_sorted plain_sorted entry_sorted (args_sorted1 _) ?_;unfold Builtin.«sorted»;refine wpAny_bind (m:=checkCount "sorted" 1 1 _) (wpAny_pure (wpAny_bind (collect_list hl (wpAny_bind (wpAny_newList ?_ line)) line)));have sz:((s.heap.push (seqObj "list" #[] 0)).update s.heap.objs.size (Obj.mapSeq (·++vs.toArray))).objs.size=s.heap.objs.size+1:=by rw[Heap.size_update,size_push']
 have at1:(((s.heap.push (seqObj "list" #[] 0)).update s.heap.objs.size (Obj.mapSeq (·++vs.toArray))).push (seqObj "list" vs.toArray 0)).get? (s.heap.objs.size+1)=some (seqObj "list" vs.toArray 0):=by
  have:=Heap.get?_push_size ((s.heap.push (seqObj "list" #[] 0)).update s.heap.objs.size (Obj.mapSeq (·++vs.toArray))) (o:=seqObj "list" vs.toArray 0) rfl
  rwa [sz]at this
 have old:∀b o,s.heap.get? b=some o->((((s.heap.push (seqObj "list" #[] 0)).update s.heap.objs.size (Obj.mapSeq (·++vs.toArray))).push (seqObj "list" vs.toArray 0)).update (s.heap.objs.size+1) (Obj.mapSeq λ_=>#[])).get? b=some o:=λb o e=>by
  have lt:=Heap.lt_size e;rw[Heap.get?_update_ne _ _ _ _ (ne_of_lt (lt_succ_of_lt lt)),Heap.get?_push_ne _ _ _ (by rw[sz];exact ne_of_lt (lt_succ_of_lt lt)),Heap.get?_update_ne _ _ _ _ (ne_of_lt lt),Heap.get?_push_ne _ _ _ (ne_of_lt lt)];exact e
 show wpAny _ _ _ _ _ { s with heap:=((s.heap.push (seqObj "list" #[] 0)).update s.heap.objs.size (Obj.mapSeq (·++vs.toArray))).push (seqObj "list" vs.toArray 0) };rw[sz];refine wpAny_bind (wpAny_holding (wpAny_call_entry slot_list_sort ⟨_,at1,rfl⟩ entry_list_sort (Oq at1 hlen h64 hok (λi v p a b=>(hp i v p a b).keep old) λout z=>⟨_,rfl,?_⟩) (args_list_sort _)));exact wpAny_pure ⟨_,rfl,h out z⟩
end
section
variable(K:PySem.W.Frag){X:Cx}
def JC:List V->Hp->VK->Prop:=λxs H Q=>∃(a:Addr) (us:List V) (ps:List (Int×Int)),xs=[.ref a]/\SqL K H a us/\us.length=ps.length/\us.length<64/\(∀q∈ps,pok q)/\
 (∀(i:Nat) (u:V) (q:Int×Int),us[i]?=some u->ps[i]?=some q->∃x,u=.ref x/\SqT K H x [.int q.1,.int q.2])/\
 ∀(p:Addr) (zs:List (V×(Int×Int))),H p=none->zs.Perm (us.zip ps)->(zs.map λz=>Bs z.2).Pairwise (·<=·)->Q (.ref p) (upd H p (.lst (zs.map (·.1))))
def Gh:Value->V
 |.ref x=>.ref x
 |_=>.non
theorem J1:∀{us:List V} {its:List Value} {i:Nat} {u:V},Vals us its->us[i]?=some u->∃v,its[i]?=some v/\RelV u v
 |_,_,_,_,.nil,h=>by simp at h
 |_::_,_::_,0,_,.cons r _,h=>by
  simp at h;subst h;exact⟨_,rfl,r⟩
 |_::_,_::_,i+1,_,.cons _ t,h=>J1 (i:=i) t (by simpa using h)
theorem NO(hK:X.K=K:=by rfl):CallR X (.builtin "sorted") (JC K):=by
 subst hK;intro pins s σ H xs us0 Q I r h;obtain⟨a,us,ps,rfl,hq,hlen,h64,hok,hpr,q⟩:=h;obtain⟨u,rfl,ru⟩:=Co r;cases ru;obtain⟨its,rv,p,hz⟩:=I.list hq;have hl2:us.length=its.length:=rv.length;have point:∀(i:Nat) (v:Value) (q:Int×Int),its[i]?=some v->ps[i]?=some q->(∃x,us[i]?=some (.ref x)/\v=.ref x)/\PairAt s.heap v q:=by
  intro i v q e1 e2;have hi:i<us.length:=by rw[hl2];exact(List.getElem?_eq_some_iff.mp e1).1
  have eu:us[i]?=some us[i]:=by simp[hi]
  obtain⟨x,ex,sq⟩:=hpr i _ q eu e2;obtain⟨v',ev,rel⟩:=J1 rv eu;rw[e1]at ev;cases ev;rw[ex]at rel eu;have rel:v=Value.ref x:=rel;subst rel;refine⟨⟨x,eu,rfl⟩,?_⟩;obtain⟨jts,rj,⟨o,ho,hc,n,hd⟩,_⟩:=I.tuple sq;cases rj with
  |cons r1 t1=>
   cases t1 with
   |cons r2 t2=>
    cases t2;obtain⟨t,rfl⟩:=r1;obtain⟨t',rfl⟩:=r2;exact⟨x,o,t,t',n,rfl,ho,hc,hd⟩
 refine MX (ps:=ps) p.isList (by omega) (by omega) hok (λi v q a b=>(point i v q a b).2) λout z=>?_;obtain⟨zs,pm,pw,rfl⟩:=z;obtain⟨e,he⟩:=sortedAll_at s.heap its (zs.map (·.1)).toArray;have mz:∀z∈zs,∃x,z.1=.ref x:=λz hz=>by
  have:=pm.mem_iff.mp hz;obtain⟨i,hi⟩:=mem_iff_getElem?.mp this;obtain⟨e1,e2⟩:=List.getElem?_zip_eq_some.mp hi;obtain⟨⟨x,_,ex⟩,_⟩:=point i _ _ e1 e2;exact⟨x,ex⟩
 have vz:∀{zs:List (Value×(Int×Int))},(∀z∈zs,∃x,z.1=.ref x)->Vals (zs.map λz=>Gh z.1) (zs.map (·.1)):=by
  intro zs
  induction zs with
  |nil=>intro _;exact .nil
  |cons z r ih=>
   intro h;obtain⟨x,ex⟩:=h z mem_cons_self;refine .cons ?_ (ih λy hy=>h y (mem_cons_of_mem _ hy));show RelV (Gh z.1) z.1;rw[ex];rfl
 have pm2:(zs.map λz=>(Gh z.1,z.2)).Perm (us.zip ps):=by
  have:=pm.map λz:Value×(Int×Int)=>(Gh z.1,z.2)
  have e:((its.zip ps).map λz:Value×(Int×Int)=>(Gh z.1,z.2))=us.zip ps:=by
   refine ext_getElem? λi=>?_;by_cases hi:i<us.length
   .have h1:i<its.length:=by omega
    have h2:i<ps.length:=by omega
    have e1:its[i]?=some its[i]:=by simp[h1]
    have e2:ps[i]?=some ps[i]:=by simp[h2]
    obtain⟨⟨x,ex,ev⟩,_⟩:=point i _ _ e1 e2;rw[List.getElem?_map,(List.getElem?_zip_eq_some (z:=(its[i],ps[i]))).mpr ⟨e1,e2⟩,(List.getElem?_zip_eq_some (z:=(V.ref x,ps[i]))).mpr ⟨ex,e2⟩,map_some,ev];rfl
   .rw[List.getElem?_eq_none (by simp;omega),List.getElem?_eq_none (by simp;omega)]
  rwa [e]at this
 have pw2:((zs.map λz=>(Gh z.1,z.2)).map λz:V×(Int×Int)=>Bs z.2).Pairwise (·<=·):=by rw[map_map];exact pw
 have fin:=q (s.heap.objs.size+1) _ (I.hok.fresh (Nat.le_succ _)) pm2 pw2;have em:(zs.map λz=>(Gh z.1,z.2)).map (·.1)=zs.map λz=>Gh z.1:=by rw[map_map];rfl
 rw[em]at fin;have zl:zs.length<64:=by rw[pm.length_eq];simp;omega
 refine⟨.ref (s.heap.objs.size+1),_,I.laid (a:=s.heap.objs.size+1) (o:=.lst (zs.map λz=>Gh z.1)) (t':=s.toks) (λb o hb=>sortedAll_old hb) (Nat.le_succ _) ⟨?_,_,e,vz mz,he⟩,rfl,fin⟩;rw[length_map];exact le_of_lt (QJ (by omega))
end
def Aw(p:Int×Int):D:=.im (.tup [.int p.1,.int p.2])
def Dr:List D->Option (List (Int×Int))
 |[]=>some []
 |.im (.tup [.int a,.int b])::r=>(Dr r).map ((a,b)::·)
 |_=>none
theorem Hf:∀{ds:List D} {ps:List (Int×Int)},Dr ds=some ps->ds=ps.map Aw:=by
 intro ds
 induction ds with
 |nil=>intro ps h;simp[Dr]at h;subst h;rfl
 |cons d r ih=>
  intro ps h;unfold Dr at h;split at h
  .next e=>cases e
  .next a b r' e=>
   cases e;obtain⟨qs,e1,rfl⟩:=fL h;rw[ih e1];rfl
  .cases h
@[simp] theorem P7(ps:List (Int×Int)):Dr (ps.map Aw)=some ps:=by
 induction ps with
 |nil=>rfl
 |cons p r ih=>simp[Dr,Aw]at ih ⊢;exact ih
def CJ(ps:List (Int×Int)):List (Int×Int):=ps.mergeSort λa b=>decide (Bs a<=Bs b)
theorem Ge(ps:List (Int×Int)):(CJ ps).Perm ps:=List.mergeSort_perm ..
theorem HV(ps:List (Int×Int)):(CJ ps).Pairwise λa b=>Bs a<=Bs b:=by
 have:=List.pairwise_mergeSort (le:=λa b:Int×Int=>decide (Bs a<=Bs b)) (by intro a b c h1 h2;simp at *;omega) (by intro a b;simp;omega) ps;exact this.imp (by simp)
theorem Su{p q:Int×Int}(a:pok p)(b:pok q)(h:Bs p=Bs q):p=q:=by
 unfold pok at a b;unfold Bs at h;exact Prod.ext (by omega) (by omega)
open Classical in
def Ff(m:MI):MA:=λls hd=>(m ls hd).bind λp=>(Dr p.1.1).bind λps=>if ps.length<64/\∀q∈ps,pok q then some ((CJ ps).map Aw,p.2)else none
section
variable{K:PySem.W.Frag}{ρ:List Addr}{H:Hp}{hd:Hd}
theorem Nu{p:Int×Int}{v:V}(h:RD K ρ H (Aw p) v):∃x,v=.ref x/\SqT K H x [.int p.1,.int p.2]:=by
 simp only[Aw,RD,RI,RIs]at h;obtain⟨a,xs,rfl,q,x,r,rfl,rfl,y,r2,rfl,rfl,rfl⟩:=h;exact⟨a,rfl,q⟩
theorem Ow{t:TE}{m:MI}(h:RRw K false t m):RN K (tCB (JC K) (CP t E6)) (Ff m):=by
 intro ρ σ H hd ls Q d hd' hR hL hm hQ;obtain⟨⟨⟨d1,g1⟩,h1⟩,e1,hm⟩:=fK hm;obtain⟨ps,e2,hm⟩:=fK hm;split at hm
 .next c=>
  cases hm;refine h ρ σ H hd ls _ d1 g1 _ hR hL e1 λρ1 H1 a x1 R1 G1 S1=>?_;obtain⟨xs,q,r⟩:=S1 ρ1 H1 _ .refl R1 G1;have e2:Dr d1=some ps:=e2;rw[Hf e2]at r;have hl:xs.length=ps.length:=by simpa using r.len
  have each:∀(i:Nat) (u:V) (q:Int×Int),xs[i]?=some u->ps[i]?=some q->RD K ρ1 H1 (Aw q) u:=λi u q a b=>by
   obtain⟨x,e,z⟩:=r.get (i:=i) (d:=Aw q) (by simp[b]);rw[a]at e;cases e;exact z
  refine⟨a,xs,ps,rfl,q,hl,by rw[hl];exact c.1,c.2,λi u q a b=>Nu (each i u q a b),λp zs hp pm pw=>?_⟩;have es:zs.map (·.2)=CJ ps:=by
   have pp:(zs.map (·.2)).Perm ps:=by
    have:=pm.map (λz:V×(Int×Int)=>z.2)
    rwa [map_snd_zip (by omega)]at this
   refine(pp.trans (Ge ps).symm).eq_of_pairwise (le:=λa b=>Bs a<=Bs b) (λx y hx hy l1 l2=>Su (c.2 _ (pp.mem_iff.mp hx)) (c.2 _ ((Ge ps).mem_iff.mp hy)) (Int.le_antisymm l1 l2)) ?_ (HV ps);rw[pairwise_map]at pw ⊢;exact pw
  obtain⟨R2,x2⟩:=R1.hid (ho:=.lst (zs.map (·.1))) hp;have all:∀z∈zs,RD K ρ1 H1 (Aw z.2) z.1:=λz hz=>by
   obtain⟨i,hi⟩:=mem_iff_getElem?.mp (pm.mem_iff.mp hz);obtain⟨a1,a2⟩:=List.getElem?_zip_eq_some.mp hi;exact each i _ _ a1 a2
  have rd:∀{zs:List (V×(Int×Int))},(∀z∈zs,RD K ρ1 H1 (Aw z.2) z.1)->RDs K ρ1 H1 ((zs.map (·.2)).map Aw) (zs.map (·.1)):=by
   intro zs
   induction zs with
   |nil=>intro _;exact .nil
   |cons z r ih=>intro h;exact .cons (h z mem_cons_self) (ih λy hy=>h y (mem_cons_of_mem _ hy))
  have rz:=rd all;rw[es]at rz;exact hQ ρ1 _ p _ (x1.trans R1 x2) R2 (x1.none hR hp R1) (R1.out hp) Af (rz.ext R1 x2)
 .cases hm
open Classical in
def Hw:D->List D->Hd->Option (D×Hd)
 |.mu n,[.im (.int i)],hd=>match hd[n]? with
  |some (.lst ds)=>if Fa i then(ixN ds.length i).bind λk=>(ds[k]?).map λy=>(y,hd.set n (.lst (ds.eraseIdx k)))else none
  |_=>none
 |_,_,_=>none
theorem RDs.erase:∀{ds:List D} {xs:List V} (k:Nat),RDs K ρ H ds xs->RDs K ρ H (ds.eraseIdx k) (xs.eraseIdx k)
 |[],_,_,h=>by simp only[RDs]at h;subst h;simp[RDs]
 |d::ds,_,0,h=>by simp only[RDs]at h;obtain⟨x,r,rfl,_,t⟩:=h;simpa using t
 |d::ds,_,k+1,h=>by
  simp only[RDs]at h;obtain⟨x,r,rfl,a,t⟩:=h;simpa using RDs.cons a (RDs.erase k t)
end
theorem SX{K:PySem.W.Frag}:RM K Qa Hw:=by
 intro ρ H hd d v ds vs Q z hd' hR h1 h2 hf hQ;unfold Hw at hf;split at hf
 .split at hf
  .next q=>
   split at hf
   .next c=>
    obtain⟨k,e0,hf⟩:=fK hf;obtain⟨y,e1,e3⟩:=fL hf;cases e3;simp only[RD]at h1;obtain⟨a,hn,rfl⟩:=h1;simp only[RDs,RD,RI]at h2;obtain⟨x,r,rfl,rfl,rfl⟩:=h2;obtain⟨xs,f1,f2⟩:=hR.lst hn q;obtain⟨x,x1,x3⟩:=f2.get e1;obtain⟨R2,x2⟩:=hR.put hn (o:=.lst _) (ho:=.lst (xs.eraseIdx k)) ⟨_,rfl,f2.erase k⟩;obtain⟨s1,s2,s3,s4⟩:=Ky e0;have sz:=f2.len;unfold Fa at c;exact⟨a,xs,_,k,x,rfl,rfl,f1,by omega,by omega,by rw[sz];exact s1,x1,hQ ρ _ _ x2 R2 (x3.ext hR x2)⟩
   .cases hf
  .cases hf
 .cases hf
section
variable(K:PySem.W.Frag){X:Cx}{e:Expr}{te:TE}{p pos:Pos}
theorem P2{mi:MI}(hm:X.mg "sorted"=none)(ha:QR K false X e te mi)(hg:Gl X "sorted":=by rfl)(he:starEach [e] X.env=[(false,eval e X.env)]:=by rfl)(hK:X.K=K:=by rfl):QN K X (.Call (.Name "sorted" p) [e] [] pos) (tCB (JC K) (CP te E6)) (Ff mi):=
 ⟨JG (NO K hK) hg hm Lf (Dd ha.p F6 he) (by decide) (by decide) he rfl,Ow ha.r⟩
end
section
variable{ls:Ls}{hd:Hd}
open Classical in
@[simp] theorem TU(k:Nat)(i:Int):Hw (.mu k) [.im (.int i)] hd=match hd[k]? with
 |some (.lst ds)=>if Fa i then(ixN ds.length i).bind λj=>(ds[j]?).map λy=>(y,hd.set k (.lst (ds.eraseIdx j)))else none
 |_=>none:=rfl
open Classical in
@[simp] theorem PY(mi:MI):Ff mi ls hd=(mi ls hd).bind λp=>(Dr p.1.1).bind λps=>if ps.length<64/\∀q∈ps,pok q then some ((CJ ps).map Aw,p.2)else none:=rfl
end
def Qm(p:Int×Int):I:=.tup [.int p.1,.int p.2]
end L2
namespace L2
open PySem PySem.Spec PyProof.Rows
def WP{α:Type}(o:Option (α×Hd))(Q:α->Hd->Prop):Prop:=∃z h,o=some (z,h)/\Q z h
abbrev WS(m:MS)(ls:Ls)(hd:Hd)(Q:Fl->Hd->Prop):Prop:=WP (m ls hd) Q
abbrev WE(m:ME)(ls:Ls)(hd:Hd)(Q:D->Hd->Prop):Prop:=WP (m ls hd) Q
abbrev WT(m:MT)(ls:Ls)(hd:Hd)(Q:Bool->Hd->Prop):Prop:=WP (m ls hd) Q
abbrev WA(m:MA)(ls:Ls)(hd:Hd)(Q:List D->Hd->Prop):Prop:=WP (m ls hd) Q
abbrev WO(m:MO1)(ls:Ls)(hd:Hd)(Q:Option Int->Hd->Prop):Prop:=WP (m ls hd) Q
abbrev WI(m:MI)(ls:Ls)(hd:Hd)(Q:List D×Gd->Hd->Prop):Prop:=WP (m ls hd) Q
abbrev WF(F:List D->Hd->Option (D×Hd))(ds:List D)(hd:Hd)(Q:D->Hd->Prop):Prop:=WP (F ds hd) Q
section
variable{α β:Type}{o:Option (α×Hd)}{Q:α->Hd->Prop}{R:β->Hd->Prop}{ls:Ls}{hd:Hd}{d e:D}
theorem WP.some{z:α}{h:Hd}(q:Q z h):WP (some (z,h)) Q:=⟨z,h,rfl,q⟩
theorem WP.mono{Q':α->Hd->Prop}(h:WP o Q)(k:∀z h,Q z h->Q' z h):WP o Q':=let ⟨z,x,e,q⟩:=h;⟨z,x,e,k z x q⟩
theorem WP.bind{f:α×Hd->Option (β×Hd)}(h:WP o λz x=>WP (f (z,x)) R):WP (o.bind f) R:=by
 obtain⟨z,x,e,q⟩:=h;rw[e];exact q
theorem WP.eq{z:α}{h:Hd}(e:o=Option.some (z,h))(q:Q z h):WP o Q:=⟨z,h,e,q⟩
end
section
variable{ls:Ls}{hd:Hd}{a b:MS}{ma mb mc:ME}{ta tb:MT}{m m1 m2:MA}{n:MG}{ns:MGs}{mi:MI}{d e:D}{i j:Nat}{QS:Fl->Hd->Prop}{QE:D->Hd->Prop}{QT:Bool->Hd->Prop}{QA:List D->Hd->Prop}{QO:Option Int->Hd->Prop}{QI:List D×Gd->Hd->Prop}
def Od(b:MS)(Q:Fl->Hd->Prop):Fl->Hd->Prop
 |.nx l,h=>WS b l h Q
 |f,h=>Q f h
theorem Aa(h:WS a ls hd (Od b QS)):WS (AA a b) ls hd QS:=by
 obtain⟨f,x,e,q⟩:=h;show WP (AA a b ls hd) QS;rw[Cg,e];cases f<;>first|exact q|exact⟨_,_,rfl,q⟩
theorem AK{l:Ls}{h:Hd}(q:WS b l h QS):Od b QS (.nx l) h:=q
theorem S5{h:Hd}(q:QS (.rt d) h):Od b QS (.rt d) h:=q
theorem BC(h:QS (.nx ls) hd):WS Ap ls hd QS:=⟨_,_,rfl,h⟩
theorem BB(h:WE ma ls hd λd x=>QS (.rt d) x):WS (Ac ma) ls hd QS:=WP.bind (h.mono λ_ _ q=>WP.some q)
theorem B0(h:WE ma ls hd λd x=>QS (.nx (ls.set i (some d))) x):WS (AO i ma) ls hd QS:=by
 obtain⟨d,x,e,q⟩:=h;exact⟨_,_,by simp only[CV,e,bind_some,EJ,map_some],q⟩
theorem JV(h:WE ma ls hd λd x=>∃l,n d ls x=some l/\QS (.nx l) x):WS (FG ma n) ls hd QS:=by
 obtain⟨d,x,e,l,e2,q⟩:=h;exact⟨_,_,by simp only[CV,e,bind_some,e2,map_some],q⟩
theorem Ka(h:WE ma ls hd λ_ x=>QS (.nx ls) x):WS (C4 ma) ls hd QS:=WP.bind (h.mono λ_ _ q=>WP.some q)
theorem YC(h:WT ta ls hd λc x=>if c=true then WS a ls x QS else WS b ls x QS):WS (Ay ta a b) ls hd QS:=by
 refine WP.bind (h.mono λc x q=>?_);dsimp only;cases c<;>simpa using q
theorem BD(h:WT ta ls hd λc x=>(c=true->WS a ls x QS)/\(c=false->WS b ls x QS)):WS (Ay ta a b) ls hd QS:=
 YC (h.mono λc x q=>by cases c<;>simp_all)
theorem W6{ix:List Nat}(h:WA m ls hd λds x=>ds.length=ix.length/\QS (.nx ((ix.zip ds).foldl (λl q=>l.set q.1 (some q.2)) ls)) x):WS (Hm ix m) ls hd QS:=by
 obtain⟨d,x,e,q,q2⟩:=h;exact⟨_,_,by simp only[Xu,e,bind_some,q,if_true],q2⟩
def WL(n:MG)(b:MS)(g:Gd)(ds:List D)(ls:Ls)(hd:Hd)(Q:Fl->Hd->Prop):Prop:=WP (BZ n b g ds ls hd) Q
theorem F1(h:WI mi ls hd λp x=>WL n b p.2 p.1 ls x QS):WS (Bl mi n b) ls hd QS:=WP.bind (h.mono λ_ _ q=>q)
def YG(g:Gd)(P:Ls->Hd->Prop)(Q:Fl->Hd->Prop):Fl->Hd->Prop
 |.nx l,h=>GOk h g/\P l h
 |.ct l,h=>GOk h g/\P l h
 |.bk l,h=>Q (.nx l) h
 |.rt d,h=>Q (.rt d) h
theorem Dl{g:Gd}(P:List D->Ls->Hd->Prop):∀{ds:List D} {ls:Ls} {hd:Hd},P ds ls hd ->
 (∀d r ls hd,P (d::r) ls hd->∃ls1,n d ls hd=some ls1/\WS b ls1 hd (YG g (P r) QS))->(∀ls hd,P [] ls hd->QS (.nx ls) hd)->WL n b g ds ls hd QS
 |[],ls,hd,h,_,z=>⟨_,_,by unfold BZ;rfl,z _ _ h⟩
 |d::r,ls,hd,h,k,z=>by
  obtain⟨ls1,e1,f,x,e2,q⟩:=k d r ls hd h;unfold WL;unfold BZ;rw[e1,bind_some,e2,bind_some];cases f with
  |nx l=>exact(show GOk x g/\P r l x from q).1 |> λg1=>by dsimp only;rw[if_pos g1];exact Dl P q.2 k z
  |ct l=>exact(show GOk x g/\P r l x from q).1 |> λg1=>by dsimp only;rw[if_pos g1];exact Dl P q.2 k z
  |bk l=>exact⟨_,_,rfl,q⟩
  |rt l=>exact⟨_,_,rfl,q⟩
theorem A3(h:ls[i]?=some (some d))(q:QE d hd):WE (A0 i) ls hd QE:=⟨d,hd,by rw[Cf,h],q⟩
theorem AX{i:I}(q:QE (.im i) hd):WE (mC i) ls hd QE:=⟨_,_,rfl,q⟩
theorem AE{f:D->D->Hd->Option (D×Hd)}(h:WE ma ls hd λd x=>WE mb ls x λe y=>WP (f d e y) QE):WE (mOp f ma mb) ls hd QE:=WP.bind (h.mono λ_ _ q=>WP.bind (q.mono λ_ _ q=>q))
theorem YE(h:WT ta ls hd λc x=>if c=true then WE ma ls x QE else WE mb ls x QE):WE (mIf ta ma mb) ls hd QE:=by
 refine WP.bind (h.mono λc x q=>?_);dsimp only;cases c<;>simpa using q
theorem WD(h:WT ta ls hd λc x=>(c=true->WE ma ls x QE)/\(c=false->WE mb ls x QE)):WE (mIf ta ma mb) ls hd QE:=
 YE (h.mono λc x q=>by cases c<;>simp_all)
theorem Bi(h:WA m ls hd λds x=>CM ds.length/\QE (Av ds) x):WE (B2 m) ls hd QE:=WP.bind (h.mono λds x q=>by dsimp only;rw[if_pos q.1];exact WP.some q.2)
theorem Cd(h:WA m ls hd λds x=>QE (.mu x.length) (x++[.lst ds])):WE (BN m) ls hd QE:=WP.bind (h.mono λ_ _ q=>WP.some q)
theorem Dm{g:List D->Option D}(h:WA m ls hd λds x=>∃d,g ds=some d/\QE d x):WE (Ct g m) ls hd QE:=by
 obtain⟨ds,x,e,d,e2,q⟩:=h;exact⟨d,x,by simp only[NF,e,bind_some,e2,map_some],q⟩
theorem Q6(h:WA m ls hd λds x=>WE ma ls x λe y=>∃i d,e=.im (.int i)/\atI ds i=some d/\QE d y):WE (DQ m ma) ls hd QE:=by
 obtain⟨ds,x,e,d,y,e2,i,z,rfl,e4,q⟩:=h;exact⟨z,y,by simp only[RV,e,bind_some,e2,e4,map_some],q⟩
theorem Bj{f:List D->Hd->Option (D×Hd)}(h:WA m ls hd λds x=>WP (f ds x) QE):WE (mCB f m) ls hd QE:=WP.bind (h.mono λ_ _ q=>q)
theorem Oa{f:D->List D->Hd->Option (D×Hd)}(h:WE ma ls hd λd x=>(∃l,Br x d=some l)/\WA m ls x λds y=>WP (f d ds y) QE):WE (mMt f ma m) ls hd QE:=by
 obtain⟨d,x,e,⟨l,hl⟩,q⟩:=h;unfold WE;rw[PZ,e,bind_some];dsimp only;rw[hl];exact WP.bind (q.mono λ_ _ q=>q)
theorem J0{F:List D->Hd->Option (D×Hd)}(h:WA m ls hd λds x=>WF F ds x QE):WE (GP F m) ls hd QE:=WP.bind (h.mono λ_ _ q=>q)
theorem Q5(h:WE ma ls hd λd x=>∃i,d=.im (.int i)/\QE (.im (.int (-i))) x):WE (Kw ma) ls hd QE:=by
 obtain⟨d,x,e,i,rfl,q⟩:=h;exact⟨_,x,by simp only[Xv,e,bind_some],q⟩
theorem FN(h:WT (AU ma) ls hd λc x=>if c=true then WE mb ls x QE else QE (.im (.bl false)) x):WE (Eu ma mb) ls hd QE:=by
 refine WP.bind (h.mono λc x q=>?_);dsimp only;cases c
 .exact WP.some (by simpa using q)
 .simpa using q
theorem UJ(h:WT (AU ma) ls hd λc x=>QE (.im (.bl (!c))) x):WE (K8 ma) ls hd QE:=WP.bind (h.mono λ_ _ q=>WP.some q)
theorem Al(h:WE ma ls hd λd x=>∃b,d=.im (.bl b)/\QT b x):WT (AU ma) ls hd QT:=by
 obtain⟨d,x,e,b,rfl,q⟩:=h;exact⟨b,x,by simp only[GT,e,bind_some],q⟩
theorem Dj(h:WE ma ls hd λd x=>∃b,EL x d=some b/\QT b x):WT (DH ma) ls hd QT:=by
 obtain⟨d,x,e,b,e2,q⟩:=h;exact⟨b,x,by simp only[RP,e,bind_some,e2,map_some],q⟩
theorem Dk(h:WT ta ls hd λc x=>QT (!c) x):WT (Ei ta) ls hd QT:=WP.bind (h.mono λ_ _ q=>WP.some q)
theorem HM(h:WT ta ls hd λc x=>if c=true then WT tb ls x QT else QT false x):WT (Gp ta tb) ls hd QT:=by
 refine WP.bind (h.mono λc x q=>?_);dsimp only;cases c
 .exact WP.some (by simpa using q)
 .simpa using q
theorem IF(h:WT ta ls hd λc x=>if c=true then QT true x else WT tb ls x QT):WT (mOr ta tb) ls hd QT:=by
 refine WP.bind (h.mono λc x q=>?_);dsimp only;cases c
 .simpa using q
 .exact WP.some (by simpa using q)
theorem Bw(h:QT true hd):WT Bg ls hd QT:=⟨_,_,rfl,h⟩
theorem AG(h:QA [] hd):WA A4 ls hd QA:=⟨_,_,rfl,h⟩
theorem A5(h:WE ma ls hd λd x=>WA m ls x λds y=>QA (d::ds) y):WA (A1 ma m) ls hd QA:=WP.bind (h.mono λ_ _ q=>WP.bind (q.mono λ_ _ q=>WP.some q))
theorem GD(h:WA m ls hd λds x=>CM ds.length/\QA ds x):WA (BF m) ls hd QA:=WP.bind (h.mono λds x q=>by dsimp only;rw[if_pos q.1];exact WP.some q.2)
theorem UM{k:Int}(e:m ls hd=some ([.im (.int k)],hd))(hk:Jn k)(q:QA (An 0 k.toNat) hd):WA (Go m) ls hd QA:=⟨_,_,by simp only[RQ,e,bind_some,hk,if_true],q⟩
theorem HP{ml mh:MO1}(h:WE ma ls hd λd x=>WO ml ls x λl y=>WO mh ls y λu z=>∃ds,Ao d=some ds/\¬ (HT.sIx ds.length 0 l=0/\HT.sIx ds.length ds.length u=ds.length)/\QE (Av (Bm ds l u)) z):WE (E8 ma ml mh) ls hd QE:=by
 obtain⟨d,x,e,l,y,e2,u,z,e3,ds,e4,c,q⟩:=h;exact⟨_,z,by simp only[Xr,e,bind_some,e2,e3,e4];rw[if_pos c],q⟩
theorem II(h:QO none hd):WO BU ls hd QO:=⟨_,_,rfl,h⟩
theorem EC(h:WE ma ls hd λd x=>∃i,d=.im (.int i)/\QO (some i) x):WO (Bu ma) ls hd QO:=by
 obtain⟨d,x,e,i,rfl,q⟩:=h;exact⟨_,x,by simp only[OK,e,bind_some],q⟩
theorem Kc(h:WA m ls hd λds x=>∃k,ds=[.im (.int k)]/\Fa k/\QI (An 0 k.toNat,[]) x):WI (DI m) ls hd QI:=by
 obtain⟨ds,x,e,k,rfl,c,q⟩:=h;exact⟨_,x,by simp only[RW,e,bind_some,c,if_true],q⟩
theorem YD(h:WA m ls hd λds x=>∃j k,ds=[.im (.int j),.im (.int k)]/\Mj j k/\QI (An j (k-j).toNat,[]) x):WI (Fv m) ls hd QI:=by
 obtain⟨ds,x,e,j,k,rfl,c,q⟩:=h;exact⟨_,x,by simp only[OL,e,bind_some,c,if_true],q⟩
theorem Cc(h:WE ma ls hd λd x=>∃ds,Ao d=some ds/\QI (ds,[]) x):WI (BG ma) ls hd QI:=by
 obtain⟨d,x,e,ds,e2,q⟩:=h;exact⟨_,x,by simp only[KM,e,bind_some,e2,map_some],q⟩
theorem Z3(h:WA m ls hd λds x=>QI (ds,[]) x):WI (Xc m) ls hd QI:=by
 obtain⟨ds,x,e,q⟩:=h;exact⟨_,x,by simp only[Xw,e,map_some],q⟩
theorem Kd(h:WE ma ls hd λd x=>∃k ds,d=.mu k/\x[k]?=some (.lst ds)/\QI (ds,[(k,ds)]) x):WI (EX ma) ls hd QI:=by
 obtain⟨d,x,e,k,ds,rfl,e2,q⟩:=h;exact⟨_,x,by simp only[RX,e,bind_some,e2],q⟩
theorem BT{k:Nat}{ix:List Nat}(h:WI mi ls hd λp x=>CM p.1.length/\WP (BL n ta ma p.2 p.1 (Dh k ix ls) x) QA):WA (BA k ix mi n ta ma) ls hd QA:=WP.bind (h.mono λp x q=>by dsimp only;rw[if_pos q.1];exact q.2)
theorem MJ{g:Gd}(P:List D->List D->Ls->Hd->Prop):∀{ds es:List D} {ls:Ls} {hd:Hd},P ds es ls hd ->
 (∀d r es ls hd,P (d::r) es ls hd->∃ls1,n d ls hd=some ls1/\WT ta ls1 hd λc x=>if c=true then WE ma ls1 x λz y=>GOk y g/\P r (es++[z]) ls1 y else GOk x g/\P r es ls1 x) ->
 WP (BL n ta ma g ds ls hd) λzs x=>∃ls',P [] (es++zs) ls' x
 |[],es,ls,hd,h,k=>⟨_,_,by unfold BL;rfl,ls,by simpa using h⟩
 |d::r,es,ls,hd,h,k=>by
  obtain⟨ls1,e1,c,x,e2,q⟩:=k d r es ls hd h;unfold BL;rw[e1,bind_some,e2,bind_some];cases c with
  |true=>
   rw[if_pos rfl]at q ⊢;obtain⟨z,y,e3,g3,p3⟩:=q;obtain⟨zs,y2,e4,ls',p4⟩:=MJ P p3 k;rw[e3,bind_some];dsimp only;rw[if_pos g3,e4];exact⟨z::zs,y2,rfl,ls',by simpa using p4⟩
  |false=>
   rw[if_neg Bool.false_ne_true]at q ⊢;dsimp only;rw[if_pos q.1];exact MJ P q.2 k
theorem Bb{i j:Int}(q:QE (.im (.int (i+j))) hd):WP (AW (.im (.int i)) (.im (.int j)) hd) QE:=⟨_,_,by simp,q⟩
theorem F2{i j:Int}(q:QE (.im (.int (i-j))) hd):WP (CL (.im (.int i)) (.im (.int j)) hd) QE:=⟨_,_,by simp,q⟩
theorem W8{i j:Int}(c:DK j)(q:QE (.im (.int (i%j))) hd):WP (Cu (.im (.int i)) (.im (.int j)) hd) QE:=⟨_,_,by simp[c],q⟩
theorem Lr{i j:Int}(q:QE (.im (.bl (decide (i<j)))) hd):WP (gLt (.im (.int i)) (.im (.int j)) hd) QE:=⟨_,_,by simp,q⟩
theorem JW{i j:Int}(q:QE (.im (.bl (decide (i<=j)))) hd):WP (gLe (.im (.int i)) (.im (.int j)) hd) QE:=⟨_,_,by simp,q⟩
theorem Lu{i j:Int}(q:QE (.im (.bl (decide (j<i)))) hd):WP (gGt (.im (.int i)) (.im (.int j)) hd) QE:=⟨_,_,by simp,q⟩
theorem Tk{i j:Int}(q:QE (.im (.bl (decide (j<=i)))) hd):WP (gGe (.im (.int i)) (.im (.int j)) hd) QE:=⟨_,_,by simp,q⟩
theorem GC{i j:Int}(q:QE (.im (.bl (decide (i=j)))) hd):WP (gEq (.im (.int i)) (.im (.int j)) hd) QE:=⟨_,_,by simp,q⟩
theorem W7{i j:Int}(q:QE (.im (.bl (!decide (i=j)))) hd):WP (gNe (.im (.int i)) (.im (.int j)) hd) QE:=⟨_,_,by simp,q⟩
theorem Cy{i j:Str}(q:QE (.im (.bl (decide (i=j)))) hd):WP (gEq (.im (.str i)) (.im (.str j)) hd) QE:=⟨_,_,by simp,q⟩
theorem GB{i j:Str}(q:QE (.im (.bl (!decide (i=j)))) hd):WP (gNe (.im (.str i)) (.im (.str j)) hd) QE:=⟨_,_,by simp,q⟩
theorem Ai{i:Int}{ds:List D}(e1:BV hd d=some ds)(e2:atI ds i=some e)(q:QE e hd):WP (gIx d (.im (.int i)) hd) QE:=⟨_,_,by rw[Pa,e1,bind_some,e2];rfl,q⟩
theorem UH{i j:Int}(q:QE (.im (.int (max i j))) hd):WP (Gz [.im (.int i),.im (.int j)] hd) QE:=⟨_,_,rfl,by have:(if j>i then j else i)=max i j:=(by split<;>omega);rw[this];exact q⟩
theorem UG{i j:Int}(q:QE (.im (.int (min i j))) hd):WP (Ih [.im (.int i),.im (.int j)] hd) QE:=⟨_,_,rfl,by have:(if j<i then j else i)=min i j:=(by split<;>omega);rw[this];exact q⟩
theorem DV{tp:Bool}{g:List D->Option D}{ds:List D}{z:D}(e1:(if tp then BV hd d else Br hd d)=some ds)(e2:g ds=some z)(q:QE z hd):WP (f1 tp g [d] hd) QE:=⟨_,_,by rw[Pb,e1,bind_some,e2];rfl,q⟩
theorem JX{k:Nat}{x:D}{ds:List D}(e1:hd[k]?=some (.lst ds))(c:E4 ds.length)(q:QE (.im .non) (hd.set k (.lst (ds++[x])))):WP (BH (.mu k) [x] hd) QE:=⟨_,_,by rw[NG,e1];simp only[c,if_true],q⟩
theorem Nl(h:WE mc ls hd λp x=>WE ma ls x λq y=>WE mb ls y λr z=>∃w i j ds,q=.mu w/\r=.im (.int i)/\z[w]?=some (.lst ds)/\ixN ds.length i=some j/\QS (.nx ls) (z.set w (.lst (ds.set j p)))):WS (Fu ma mb mc) ls hd QS:=by
 obtain⟨p,x,e1,q,y,e2,r,z,e3,w,i,j,ds,rfl,rfl,e5,c,qq⟩:=h;exact⟨_,_,by simp only[Vy,e1,bind_some,e2,e3,e5,c,map_some],qq⟩
theorem Bh{k n:Nat}{m:MS}{ds:List D}{Q:D->Hd->Prop}(hl:ds.length=k)(h:WS m (ds.map some++List.replicate (n-k) none) hd λf x=>match f with
 |.rt d=>Q d x
 |.nx _=>Q (.im .non) x
 | _=>False):WF (mkF k n m) ds hd Q:=by
 obtain⟨f,x,e,q⟩:=h;unfold WF mkF;rw[if_pos hl,e];cases f with
 |nx l=>exact⟨_,_,rfl,q⟩
 |rt l=>exact⟨_,_,rfl,q⟩
 |bk l=>exact q.elim
 |ct l=>exact q.elim
theorem Aj{F:List D->Hd->Option (D×Hd)}(h:WA m ls hd λds x=>B7 0 ds=true/\WF F ds [] λd _=>∃i,d=.im i/\QE (.im i) x):WE (A9 0 F m) ls hd QE:=by
 obtain⟨ds,x,e,c,d,y,e2,i,rfl,q⟩:=h;exact⟨_,_,FD e c e2,q⟩
end
structure Tap(T:Nat->MO->MO->Prop)(P:List D->Hd->Option (D×Hd)):Prop where
 cl:∀{k:Nat} {a b:MO},T k a b->clO 2 a=true/\clO 2 b=true
 le:∀{j k:Nat} {a b:MO},T k a b->j<=k->T j a b
 pick:∀{k:Nat} {a b:MO} {many:Int},T (k+1) a b->0<many->many<1073741824->∃r a' b',0<=r/\r<many/\P [.mu 1,.im (.int many)] [a,b]=some (.im (.int r),[a',b'])/\T k a' b'
section
variable{T:Nat->MO->MO->Prop}{P:List D->Hd->Option (D×Hd)}{a b:MO}{rest:Hd}{ls:Ls}{m:MA}{QE:D->Hd->Prop}{n c:Nat}
theorem Tap.draw(t:Tap T P)(hT:T (n+1) a b){many:Int}{hd:Hd}(e:m ls hd=some ([.mu 1,.im (.int many)],a::b::rest))(h0:0<many)(h1:many<1073741824)
 (k:∀r a' b',T n a' b'->0<=r->r<many->QE (.im (.int r)) (a'::b'::rest)):WE (A9 2 P m) ls hd QE:=by
 obtain⟨r,a',b',p1,p2,e2,hT'⟩:=t.pick hT h0 h1;refine⟨_,_,HF (w:=2) (ds:=[.mu 1,.im (.int many)]) (pre:=[a,b]) (pre':=[a',b']) (rest:=rest) (g:=[]) rfl rfl e (by simp) ?_ ?_ (by simpa using e2),k r a' b' hT' p1 p2⟩
 .simp[t.cl hT]
 .simp[t.cl hT']
end
section
variable{K:PySem.W.Frag}{ρ ρ':List Addr}{H H':Hp}{hd hd':Hd}
def Ga(w:Nat)(ls:Ls):Ls:=ls.map λo=>match o with
 |some d=>if clD w d=true then some d else none
 |none=>none
def Gb(w:Nat):Fl->Option Fl
 |.nx ls=>some (.nx (Ga w ls))
 |.bk ls=>some (.bk (Ga w ls))
 |.ct ls=>some (.ct (Ga w ls))
 |.rt d=>if clD w d=true then some (.rt d)else none
def K5(w:Nat)(m:MS):MS:=λls hd=>if hd.length<=w then(m ls hd).bind λp=>if(p.2.take w).all (clO w)=true then(Gb w p.1).map λf=>(f,p.2.take w)else none else none
theorem RL.trim{ls:Ls}{σ:St}(h:RL K ρ H ls σ)(w:Nat):RL K (ρ.take w) H (Ga w ls) σ:=by
 refine⟨by simp[Ga,h.len],λi d e=>?_⟩;unfold Ga at e;rw[List.getElem?_map]at e;cases q:ls[i]? with
 |none=>rw[q]at e;cases e
 |some o=>
  rw[q]at e;cases o with
  |none=>simp at e
  |some z=>
   simp only[map_some,Option.some.injEq]at e;split at e
   .next c=>
    cases e;obtain⟨v,e1,e2⟩:=h.ob i _ q;exact⟨v,e1,e2.take w c⟩
   .cases e
theorem Ext.trim(x:Ext ρ H ρ' H'){w:Nat}(h:ρ.length<=w):Ext ρ H (ρ'.take w) H':=by
 obtain⟨r,rfl,fr⟩:=x.pre;refine⟨⟨r.take (w-ρ.length),?_,λb hb=>fr b (List.mem_of_mem_take hb)⟩,x.keep,x.tab⟩;rw[List.take_append,take_of_length_le h]
theorem UY{t:TS}{m:MS}(w:Nat)(h:RS K t m):RS K t (K5 w m):=by
 intro ρ σ H hd ls E f hd' hR hL hm hQ;unfold K5 at hm;split at hm
 .next hw=>
  obtain⟨⟨f1,h1⟩,e1,hm⟩:=fK hm;dsimp only at hm;split at hm
  .next c=>
   obtain⟨f2,e2,e3⟩:=fL hm;cases e3;refine h ρ σ H hd ls E f1 h1 hR hL e1 λρ1 H1 x1 R1=>?_;have q:=hQ (ρ1.take w) H1 (x1.trim (by rw[hR.len];exact hw)) (R1.take w c);cases f1 with
   |nx l=>simp only[Gb,Option.some.injEq]at e2;subst e2;exact λσ' L=>q σ' (L.trim w)
   |bk l=>simp only[Gb,Option.some.injEq]at e2;subst e2;exact λσ' L=>q σ' (L.trim w)
   |ct l=>simp only[Gb,Option.some.injEq]at e2;subst e2;exact λσ' L=>q σ' (L.trim w)
   |rt d=>
    simp only[Gb]at e2;split at e2
    .next c2=>cases e2;exact λv r=>q v (r.take w c2)
    .cases e2
  .cases hm
 .cases hm
theorem UD{w:Nat}{m:MS}{ls:Ls}{Q:Fl->Hd->Prop}(hw:hd.length<=w)(h:WS m ls hd λf x=>(x.take w).all (clO w)=true/\∃f',Gb w f=some f'/\Q f' (x.take w)):WS (K5 w m) ls hd Q:=by
 obtain⟨f,x,e,c,f',e2,q⟩:=h;exact⟨f',x.take w,by unfold K5;rw[if_pos hw,e,bind_some];dsimp only;rw[if_pos c,e2];rfl,q⟩
def Fe(m:MS):MS:=λls hd=>K5 hd.length m ls hd
theorem SR{t:TS}{m:MS}(h:RS K t m):RS K t (Fe m):=λρ σ H hd ls E f hd' hR hL hm hQ=>UY hd.length h ρ σ H hd ls E f hd' hR hL hm hQ
theorem Fq(K:PySem.W.Frag){X:Cx}{st:List Stmt}{t:TS}{m:MS}(h:QSs K X st t m):QSs K X st t (Fe m):=⟨h.p,SR h.r⟩
theorem GZ{m:MS}{ls:Ls}{Q:Fl->Hd->Prop}(h:WS m ls hd λf x=>(x.take hd.length).all (clO hd.length)=true/\∃f',Gb hd.length f=some f'/\Q f' (x.take hd.length)):WS (Fe m) ls hd Q:=UD (le_refl _) h
def Yi:ME:=λ_ hd=>some (.mu hd.length,hd++[.dic []])
theorem UL{ls:Ls}{Q:D->Hd->Prop}(q:Q (.mu hd.length) (hd++[.dic []])):WE Yi ls hd Q:=⟨_,_,rfl,q⟩
end
mutual
theorem NM{v w:Nat}(h:v<=w):∀{d:D},clD v d=true->clD w d=true
 |.im i,_=>by simp
 |.mu n,c=>by simp at c ⊢;omega
 |.tm ds,c=>by rw[clD]at c ⊢;exact Hz h c
 |.ro ns,_=>by rw[clD]
theorem Hz{v w:Nat}(h:v<=w):∀{ds:List D},B7 v ds=true->B7 w ds=true
 |[],_=>by simp
 |d::ds,c=>by
  simp only[Rl,Bool.and_eq_true]at c ⊢;exact⟨NM h c.1,Hz h c.2⟩
end
theorem Lb{v w:Nat}(h:v<=w):∀{ds:List (Key×D)},G9 v ds=true->G9 w ds=true
 |[],_=>by simp[G9]
 |d::ds,c=>by
  simp only[G9,Bool.and_eq_true]at c ⊢;exact⟨NM h c.1,Lb h c.2⟩
theorem Cv{v w:Nat}(h:v<=w){o:MO}(c:clO v o=true):clO w o=true:=by
 cases o with
 |lst ds=>exact Hz h c
 |dic ds=>exact Lb h c
section
variable{T:Nat->MO->MO->Prop}{P:List D->Hd->Option (D×Hd)}{a b:MO}{rest:Hd}{ls:Ls}{m:MA}{QE:D->Hd->Prop}
theorem Tap.callX(t:Tap T P){n c:Nat}(hT:T (n+c) a b)(ex:Hd){w:Nat}{F:List D->Hd->Option (D×Hd)}{as:List D}{hd:Hd}{R:I->Prop}(e:m ls hd=some (.mu 1::as,a::b::(ex++rest)))(hw:w=ex.length+2)(ha:B7 w as=true)(hx:ex.all (clO w)=true)
 (hF:∀a b,T (n+c) a b->WF F (.mu 1::as) (a::b::ex) λd x=>∃i a' b' g,d=.im i/\R i/\T n a' b'/\x=a'::b'::(ex++g))
 (k:∀i a' b',T n a' b'->R i->QE (.im i) (a'::b'::(ex++rest))):WE (A9 w F m) ls hd QE:=by
 subst hw;have hcl:∀o,clO 2 o=true->clO (ex.length+2) o=true:=λo h=>Cv (by omega) h;obtain⟨d,x,e2,i,a',b',g,rfl,hR,hT',rfl⟩:=hF a b hT;refine⟨_,_,HF (w:=ex.length+2) (ds:=.mu 1::as) (pre:=a::b::ex) (pre':=a'::b'::ex) (rest:=rest) (g:=g) rfl rfl e (by simp[ha]) ?_ ?_ e2,k i a' b' hT' hR⟩
 .simp[hcl _ (t.cl hT).1,hcl _ (t.cl hT).2];simpa using hx
 .simp[hcl _ (t.cl hT').1,hcl _ (t.cl hT').2];simpa using hx
theorem Tap.call(t:Tap T P){n c:Nat}(hT:T (n+c) a b){F:List D->Hd->Option (D×Hd)}{as:List D}{hd:Hd}{R:I->Prop}(e:m ls hd=some (.mu 1::as,a::b::rest))(ha:B7 2 as=true)
 (hF:∀a b,T (n+c) a b->WF F (.mu 1::as) [a,b] λd x=>∃i a' b' g,d=.im i/\R i/\T n a' b'/\x=a'::b'::g)
 (k:∀i a' b',T n a' b'->R i->QE (.im i) (a'::b'::rest)):WE (A9 2 F m) ls hd QE:=
 t.callX hT [] (w:=2) e rfl ha rfl hF k
end
end L2
namespace Bd
open PySem L2
@[reducible] def c9:MS:=(AA (AO 2 (mC (.int 0)))
 (AA (Bl (BG (A0 0)) (Bz 2 (Ae (AF 3) (Ae (AF 4) C0)))
  (AA (Ay (AU (mOp gGt (A0 3) (A0 1)))
  (Ac (A0 2))
  Ap)
 (AO 2 (A0 4))))
 (Ac (A0 2))))
def aU:List D->Hd->Option (D×Hd):=mkF 2 5 c9
@[reducible] def cE:MS:=(AA (AO 2 (mOp gIx (A0 0) (mC (.int 0))))
 (AA (Ay (AU (mOp gEq (A0 2) (mC (.str "steps"))))
  (Ac (A9 0 aU (A1 (mOp gIx (A0 0) (mC (.int 1))) (A1 (A0 1) A4))))
  Ap)
 (AA (Ay (AU (mOp gEq (A0 2) (mC (.str "ends"))))
  (Ac (mOp DS (mOp gIx (A0 0) (mC (.int 1))) (A0 1)))
  Ap)
 (AA (AO 3 (mOp CL (A0 1) (mOp gIx (A0 0) (mC (.int 1)))))
 (AA (Ay (AU (mOp gEq (A0 2) (mC (.str "late"))))
  (Ac (A0 3))
  Ap)
 (AA (Ay (AU (mOp gLe (A0 3) (mC (.int 0))))
  (Ac (mC (.int 0)))
  Ap)
 (AA (Ay (AU (mOp gEq (A0 2) (mC (.str "tardy"))))
  (Ac (mOp DS (mOp gIx (A0 0) (mC (.int 2))) (A0 3)))
  Ap)
 (Ac (mOp gIx (A0 0) (mC (.int 2)))))))))))
def aN:List D->Hd->Option (D×Hd):=mkF 2 4 cE
@[reducible] def bQ:MS:=(Ac (Ct B9 (BA 2 [] (Hl (BG (A0 0)) (BG (A0 1))) (Bz 2 (Ae (AF 0) (Ae (AF 1) C0))) Bg (A9 0 aN (A1 (mOp gIx (A0 0) (mC (.int 2))) (A1 (A0 1) A4))))))
def F_costs_of:List D->Hd->Option (D×Hd):=mkF 2 2 bQ
@[reducible] def cB:MS:=(AA (AO 3 (A9 0 F_costs_of (A1 (A0 0) (A1 (A0 1) A4))))
 (AA (Ay (AU (mOp gEq (A0 2) (mC (.str "greatest"))))
  (Ac (mCB (f1 true Hs) (A1 (A0 3) A4)))
  Ap)
 (Ac (mCB (f1 true PK) (A1 (A0 3) A4)))))
def F_worth:List D->Hd->Option (D×Hd):=mkF 3 4 cB
@[reducible] def cy:MS:=(AA (AO 2 (BN (BF A4)))
 (AA (AO 3 (mC (.int 0)))
 (AA (Bl (BG (A0 1)) (AF 4)
  (AA (FG (mOp gIx (A0 0) (A0 4)) (Bz 3 (Ae (AF 5) (Ae (AF 6) (Ae (AF 7) C0)))))
 (AA (AO 8 (mCB Gz (A1 (A0 6) (A1 (A0 3) A4))))
 (AA (AO 3 (mOp AW (A0 8) (A0 5)))
 (C4 (mMt BH (A0 2) (A1 (B2 (A1 (A0 4) (A1 (A0 8) (A1 (A0 3) A4)))) A4)))))))
 (Ac (mCB (f1 true B9) (A1 (A0 2) A4))))))
def F_run:List D->Hd->Option (D×Hd):=mkF 2 9 cy
@[reducible] def bo:MS:=(AA (AO 2 (BN (BA 1 [] (BG (A0 0)) (AF 0) Bg (mC (.int 0)))))
 (AA (Bl (BG (A0 1)) (Bz 3 (Ae (AF 3) (Ae (AF 4) (Ae (AF 5) C0))))
  (Fu (A0 2) (A0 3) (A0 5)))
 (Ac (mCB (f1 true B9) (A1 (A0 2) A4)))))
def F_ends_of:List D->Hd->Option (D×Hd):=mkF 2 6 bo
@[reducible] def cz:MS:=(Ac (KB [((mC (.str "cells")),(BN (Hn (JK (A0 0) BU (Bu (mC (.int 63))))))),((mC (.str "next")),(mC (.int 0))),((mC (.str "left")),(mC (.int 0))),((mC (.str "turn")),(mC (.int 0)))]))
def F_tape:List D->Hd->Option (D×Hd):=mkF 1 1 cz
@[reducible] def dA:MS:=(AA (EY (A0 0) (mC (.str "turn")) (mOp AW (mOp CT (A0 0) (mC (.str "turn"))) (mC (.int 1))))
 (AA (Ay (AU (mOp gGt (mOp CT (A0 0) (mC (.str "left"))) (mC (.int 0))))
  (AA (AO 2 (mOp Cu (mOp CT (A0 0) (mC (.str "left"))) (A0 1)))
 (AA (EY (A0 0) (mC (.str "left")) (mOp Gw (mOp CT (A0 0) (mC (.str "left"))) (A0 1)))
 (Ac (A0 2))))
  Ap)
 (AA (K7 3 4 5 (A1 (mOp CT (A0 0) (mC (.str "cells"))) (A1 (mOp CT (A0 0) (mC (.str "next"))) (A1 (mOp CT (A0 0) (mC (.str "turn"))) A4))))
 (AA (AO 6 (mIf (AU (Cb true (A0 3) (BF A4))) (mOp gIx (A0 3) (mOp Cu (A0 4) (mCB (f1 true C1) (A1 (A0 3) A4)))) (mC (.int 23))))
 (AA (EY (A0 0) (mC (.str "next")) (mOp AW (A0 4) (mC (.int 1))))
 (AA (Ay (Gp (AU (mOp gGe (A0 6) (mOp TN (mC (.int 10)) (mC (.int 18))))) (AU (mOp gLt (A0 4) (mCB (f1 true C1) (A1 (A0 3) A4)))))
  (AA (EY (A0 0) (mC (.str "left")) (mOp Gw (A0 6) (A0 1)))
 (Ac (mOp Cu (A0 6) (A0 1))))
  Ap)
 (AA (AO 7 (mOp Cu (mOp AW (mOp AW (mOp Cu (A0 6) (mC (.int 2147483587))) (mOp DS (mC (.int 104729)) (A0 5))) (mC (.int 17))) (mC (.int 2147483629))))
 (AA (AO 7 (mOp Cu (mOp AW (mOp DS (A0 7) (A0 7)) (mOp DS (mC (.int 48271)) (A0 5))) (mC (.int 2147483647))))
 (AA (AO 7 (mOp Cu (mOp AW (mOp AW (mOp DS (A0 7) (A0 7)) (mOp DS (mC (.int 7919)) (A0 7))) (A0 5)) (mC (.int 2147483629))))
 (Ac (mOp Cu (mOp Gw (A0 7) (mC (.int 128))) (A0 1))))))))))))
def F_pick:List D->Hd->Option (D×Hd):=mkF 2 8 dA
@[reducible] def bR:MS:=(AA (AO 2 (mIf (AU (mOp gEq (A9 2 F_pick (A1 (A0 0) (A1 (mC (.int 4)) A4))) (mC (.int 0)))) (mOp CL (A9 2 F_pick (A1 (A0 0) (A1 (mC (.int 500)) A4))) (mC (.int 99))) (mOp CL (A9 2 F_pick (A1 (A0 0) (A1 (mC (.int 40)) A4))) (mC (.int 5)))))
 (AA (AO 3 (A9 2 F_pick (A1 (A0 0) (A1 (mC (.int 10)) A4))))
 (AA (Ay (AU (mOp gLt (A0 1) (mC (.int 4))))
  (Ac (DQ (BF (A1 (B2 (A1 (mC (.str "late")) (A1 (A0 2) A4))) (A1 (B2 (A1 (mC (.str "tardy")) (A1 (A0 2) (A1 (A0 3) A4)))) (A1 (B2 (A1 (mC (.str "miss")) (A1 (A0 2) (A1 (A0 3) A4)))) (A1 (B2 (A1 (mC (.str "ends")) (A1 (A0 3) A4))) A4))))) (A0 1)))
  Ap)
 (AA (Hm [4,5] (A1 (mCB Ih (A1 (A0 2) (A1 (mC (.int 200)) A4))) (A1 (mC (.int 0)) A4)))
 (AA (AO 6 (BN (BF A4)))
 (AA (Bl (DI (A1 (mOp AW (mC (.int 1)) (A9 2 F_pick (A1 (A0 0) (A1 (mC (.int 5)) A4)))) A4)) (AF 7)
  (AA (AO 4 (mOp AW (mOp AW (A0 4) (mC (.int 1))) (A9 2 F_pick (A1 (A0 0) (A1 (mC (.int 40)) A4)))))
 (AA (AO 5 (mOp AW (A0 5) (A9 2 F_pick (A1 (A0 0) (A1 (mC (.int 20)) A4)))))
 (C4 (mMt BH (A0 6) (A1 (B2 (A1 (A0 4) (A1 (A0 5) A4))) A4))))))
 (Ac (B2 (A1 (mC (.str "steps")) (A1 (mCB (f1 true B9) (A1 (A0 6) A4)) A4))))))))))
def F_cost:List D->Hd->Option (D×Hd):=mkF 2 8 bR
@[reducible] def ck:MS:=(AA (AO 3 (mOp DS (A9 2 F_pick (A1 (A0 0) (A1 (mC (.int 61)) A4))) (A9 2 F_pick (A1 (A0 0) (A1 (mC (.int 2)) A4)))))
 (AA (AO 4 (DQ (BF (A1 (mC (.int 3)) (A1 (mC (.int 20)) A4))) (A9 2 F_pick (A1 (A0 0) (A1 (mC (.int 2)) A4)))))
 (AA (AO 5 (BN (BF A4)))
 (AA (Bl (DI (A1 (A0 1) A4)) (AF 6)
  (AA (AO 7 (mIf (DH (A0 2)) (A0 3) (A9 2 F_pick (A1 (A0 0) (A1 (DQ (BF (A1 (mC (.int 8)) (A1 (mC (.int 61)) A4))) (A9 2 F_pick (A1 (A0 0) (A1 (mC (.int 2)) A4)))) A4)))))
 (C4 (mMt BH (A0 5) (A1 (B2 (A1 (mOp AW (mC (.int 1)) (A9 2 F_pick (A1 (A0 0) (A1 (A0 4) A4)))) (A1 (A0 7) (A1 (A9 2 F_cost (A1 (A0 0) (A1 (A9 2 F_pick (A1 (A0 0) (A1 (mC (.int 5)) A4))) A4))) A4)))) A4)))))
 (Ac (mCB (f1 true B9) (A1 (A0 5) A4)))))))
def F_works:List D->Hd->Option (D×Hd):=mkF 3 8 ck
structure Tp where
 cells:List Int
 nx:Int
 lf:Int
 tn:Int
def Bc(t:Tp):List (Key×D):=[(.inr "cells",.mu 0),(.inr "next",.im (.int t.nx)),(.inr "left",.im (.int t.lf)),(.inr "turn",.im (.int t.tn))]
def tp(t:Tp):Hd:=[.lst (t.cells.map λi=>.im (.int i)),.dic (Bc t)]
@[simp] theorem QB(t:Tp):(tp t).length=2:=rfl
@[simp] theorem aK(t:Tp)(r:Hd):(tp t++r)[0]?=some (.lst (t.cells.map λi=>.im (.int i))):=rfl
@[simp] theorem aJ(t:Tp)(r:Hd):(tp t++r)[1]?=some (.dic (Bc t)):=rfl
@[simp] theorem tp0(t:Tp):(tp t)[0]?=some (.lst (t.cells.map λi=>.im (.int i))):=rfl
@[simp] theorem tp1(t:Tp):(tp t)[1]?=some (.dic (Bc t)):=rfl
@[simp] theorem a9(t t':Tp)(h:t'.cells=t.cells):(tp t).set 1 (.dic (Bc t'))=tp t':=by unfold tp;rw[h];rfl
section
variable(t:Tp)(v:Int)
@[simp] theorem Z8:DN (Bc t) (.inr "cells")=some (.mu 0):=by simp[DN,Bc]
@[simp] theorem ZU:DN (Bc t) (.inr "next")=some (.im (.int t.nx)):=by simp[DN,Bc,ne1]
@[simp] theorem ZV:DN (Bc t) (.inr "left")=some (.im (.int t.lf)):=by simp[DN,Bc,ne2,ne4]
@[simp] theorem ZT:DN (Bc t) (.inr "turn")=some (.im (.int t.tn)):=by simp[DN,Bc,ne3,ne5,ne6]
@[simp] theorem Z6:EU (Bc t) (.inr "next") (.im (.int v))=Bc { t with nx:=v }:=by simp[EU,Bc,ne1,ZE,ZD]
@[simp] theorem Z7:EU (Bc t) (.inr "left") (.im (.int v))=Bc { t with lf:=v }:=by simp[EU,Bc,ne2,ne4,ZC]
@[simp] theorem Z5:EU (Bc t) (.inr "turn") (.im (.int v))=Bc { t with tn:=v }:=by simp[EU,Bc,ne3,ne5,ne6]
@[simp] theorem Zm:(Bc t).length=4:=rfl
end
theorem Cq:∀ns:List Int,I.pys (ns.map I.int)=ns.map PyData.int
 |[]=>by simp[I.pys]
 |n::ns=>by simp[I.pys,I.py,Cq ns]
theorem CY(ns:List Int):Bv (ns.map λi=>D.im (.int i))=some (ns.map I.int):=by
 have:(ns.map λi=>D.im (.int i))=(ns.map I.int).map D.im:=by rw[map_map];rfl
 rw[this];exact Rr _
theorem Vz(ns:List Int):PyData.eqv (.list (ns.map PyData.int)) (.list [])=decide (ns=[]):=by
 cases ns<;>simp[PyData.eqv,PyData.eqvAll]
theorem T7(ns:List Int):(PyData.list (ns.map PyData.int)).canLay0=true:=by simp[PyData.canLay0,Iy]
theorem Em(ns:List Int)(hd:Hd)(neg:Bool):G7 neg (.list (ns.map PyData.int)) (.list []) hd=some (.im (.bl (if neg then !decide (ns=[])else decide (ns=[]))),hd):=by
 unfold G7;rw[if_pos,Vz];refine⟨T7 ns,by simp[PyData.canLay0,PyData.canLayAll0],?_⟩;have:(PyData.list []).depth<=1:=by simp[PyData.depth,PyData.depthAll]
 omega
theorem FK{x:Int}(m:Int)(h:0<m):0<=x%m/\x%m<m:=⟨Int.emod_nonneg _ (by omega),Int.emod_lt_of_pos _ h⟩
def Gm(cell turn:Int):Int:=(cell%2147483587+104729*turn+17)%2147483629
def Ku(x turn:Int):Int:=(x*x+48271*turn)%2147483647
def Xb(x turn:Int):Int:=(x*x+7919*x+turn)%2147483629
theorem Y7(hd:Hd)(neg:Bool):G7 neg (.list []) (.list []) hd=some (.im (.bl (if neg then false else true)),hd):=by
 have:=Em [] hd neg;simpa using this
theorem Yu{xs:List Int}(h:xs≠[])(n:Int):∃c,atI (xs.map λi=>D.im (.int i)) (n%(xs.length:Int))=some (.im (.int c)):=by
 have hl:0<xs.length:=FR h;obtain⟨a,b⟩:=FK (x:=n) (xs.length:Int) (by omega);obtain⟨k,hk⟩:=Int.eq_ofNat_of_zero_le a;have hk':k<xs.length:=by omega
 exact⟨xs[k],Fj hk (by simp[hk'])⟩
theorem mk1(j:Int):Es 104729 j:=EH (by decide) (by decide)
theorem mk2(j:Int):Es 48271 j:=EH (by decide) (by decide)
theorem mk3(j:Int):Es 7919 j:=EH (by decide) (by decide)
theorem mo1:DK 2147483587:=by unfold DK;decide
theorem mo2:DK 2147483629:=by unfold DK;decide
theorem mo3:DK 2147483647:=by unfold DK;decide
theorem di1:M7 128:=by unfold M7;decide
theorem po1:P4 10 18:=by unfold P4;decide
theorem VG(τ:Tp)(many:Int)(h0:0<many)(h1:many<1073741824):∃r τ',F_pick [.mu 1,.im (.int many)] (tp τ)=some (.im (.int r),tp τ')/\0<=r/\r<many/\τ'.cells=τ.cells:=by
 have hm:DK many:=h0;have hv:M7 many:=⟨h0,h1⟩
 by_cases hl:τ.lf>0
 .refine⟨τ.lf%many,{ τ with tn:=τ.tn+1,lf:=τ.lf/many },?_,(FK many h0).1,(FK many h0).2,rfl⟩;simp[F_pick,mkF,hl,hm,hv]
 .have key:∀cell:Int,(if τ.cells=[]then cell=23 else atI (τ.cells.map λi=>D.im (.int i)) (τ.nx%(τ.cells.length:Int))=some (.im (.int cell))) ->
   ∃r τ',F_pick [.mu 1,.im (.int many)] (tp τ)=some (.im (.int r),tp τ')/\0<=r/\r<many/\τ'.cells=τ.cells:=by
   intro cell hcell;have b1:=FK (x:=cell%2147483587+104729*(τ.tn+1)+17) 2147483629 (by decide);have b2:=FK (x:=Gm cell (τ.tn+1)*Gm cell (τ.tn+1)+48271*(τ.tn+1)) 2147483647 (by decide);have c1:∀j,Es (Gm cell (τ.tn+1)) j:=λj=>EH (by unfold Gm;omega) (by unfold Gm;omega);have c2:∀j,Es (Ku (Gm cell (τ.tn+1)) (τ.tn+1)) j:=λj=>EH (by unfold Ku;omega) (by unfold Ku;omega);by_cases hb:cell>=1000000000000000000/\τ.nx<(τ.cells.length:Int)
   .refine⟨cell%many,{ τ with tn:=τ.tn+1,nx:=τ.nx+1,lf:=cell/many },?_,(FK many h0).1,(FK many h0).2,rfl⟩;by_cases hc:τ.cells=[]
    .rw[if_pos hc]at hcell;subst hcell;omega
    .rw[if_neg hc]at hcell;have hl0:0<τ.cells.length:=FR hc;have hl0':DK (τ.cells.length:Int):=by unfold DK;omega
     simp[F_pick,mkF,hl,hm,hv,mk1,mk2,mk3,mo1,mo2,mo3,di1,po1,Cb,pyD,CY,Cq,I.pys,Em,hc,hcell,hl0',hb.1,hb.2,C1]
   .refine⟨Xb (Ku (Gm cell (τ.tn+1)) (τ.tn+1)) (τ.tn+1)/128%many,{ τ with tn:=τ.tn+1,nx:=τ.nx+1 },?_,(FK many h0).1,(FK many h0).2,rfl⟩;have hb':1000000000000000000<=cell->¬ τ.nx<(τ.cells.length:Int):=λa b=>hb ⟨a,b⟩;unfold Gm at c1 c2;unfold Ku at c2;unfold Xb Ku Gm;by_cases hc:τ.cells=[]
    .rw[if_pos hc]at hcell;subst hcell;simp only[Int.reduceMod]at c1 c2;simp[F_pick,mkF,hl,hm,hv,mk1,mk2,mk3,mo1,mo2,mo3,di1,po1,Cb,pyD,CY,Cq,I.pys,Em,Y7,hc,C1,c1,c2]
    .rw[if_neg hc]at hcell;have hl0:0<τ.cells.length:=FR hc;have hl0':DK (τ.cells.length:Int):=by unfold DK;omega
     by_cases hd:1000000000000000000<=cell
     .simp[F_pick,mkF,hl,hm,hv,mk1,mk2,mk3,mo1,mo2,mo3,di1,po1,Cb,pyD,CY,Cq,I.pys,Em,hc,hcell,hl0',C1,c1,c2,hd,hb' hd]
     .simp[F_pick,mkF,hl,hm,hv,mk1,mk2,mk3,mo1,mo2,mo3,di1,po1,Cb,pyD,CY,Cq,I.pys,Em,hc,hcell,hl0',C1,c1,c2,hd]
  by_cases hc:τ.cells=[]
  .exact key 23 (by rw[if_pos hc])
  .obtain⟨c,e⟩:=Yu hc τ.nx;exact key c (by rw[if_neg hc];exact e)
inductive Cost where
 |late (d:Int)|tardy (d w:Int)|miss (d w:Int)|ends (w:Int)|steps (rows:List (Int×Int))
def C8(r:Int×Int):I:=.tup [.int r.1,.int r.2]
def BP:Cost->I
 |.late d=>.tup [.str "late",.int d]
 |.tardy d w=>.tup [.str "tardy",.int d,.int w]
 |.miss d w=>.tup [.str "miss",.int d,.int w]
 |.ends w=>.tup [.str "ends",.int w]
 |.steps rows=>.tup [.str "steps",.tup (rows.map C8)]
def Bo(t:Int):List (Int×Int)->Int->Int
 |[],told=>told
 |(b,a)::r,told=>if t<b then told else Bo t r a
def Cost.at:Cost->Int->Int
 |.late d,t=>t-d
 |.tardy d w,t=>if t-d<=0 then 0 else w*(t-d)
 |.miss d w,t=>if t-d<=0 then 0 else w
 |.ends w,t=>w*t
 |.steps rows,t=>Bo t rows 0
def Cost.wok:Cost->Prop
 |.tardy _ w=>0<=w/\w<=1000000
 |.miss _ w=>0<=w/\w<=1000000
 |.ends w=>0<=w/\w<=1000000
 |_=>True
theorem n1:¬ (("late":Str)="steps"):=by decide +kernel
theorem n2:¬ (("tardy":Str)="steps"):=by decide +kernel
theorem n3:¬ (("miss":Str)="steps"):=by decide +kernel
theorem n4:¬ (("ends":Str)="steps"):=by decide +kernel
theorem n5:¬ (("late":Str)="ends"):=by decide +kernel
theorem n6:¬ (("tardy":Str)="ends"):=by decide +kernel
theorem n7:¬ (("miss":Str)="ends"):=by decide +kernel
theorem n8:¬ (("tardy":Str)="late"):=by decide +kernel
theorem n9:¬ (("miss":Str)="late"):=by decide +kernel
theorem n10:¬ (("miss":Str)="tardy"):=by decide +kernel
theorem n12:¬ (("steps":Str)="late"):=by decide +kernel
theorem Je(t:Int)(z:D)(hd:Hd):∀(rows:List (Int×Int)) (told:Int) (x y:Option D),∃fl x' y',BZ (Bz 2 (Ae (AF 3) (Ae (AF 4) C0))) (AA (Ay (AU (mOp gGt (A0 3) (A0 1))) (Ac (A0 2)) Ap) (AO 2 (A0 4))) [] ((rows.map C8).map .im)
 [some z,some (.im (.int t)),some (.im (.int told)),x,y] hd=some (fl,hd)/\(fl=.rt (.im (.int (Bo t rows told)))∨fl=.nx [some z,some (.im (.int t)),some (.im (.int (Bo t rows told))),x',y'])
 |[],told,x,y=>⟨_,x,y,DR,.inr rfl⟩
 |(b,a)::rows,told,x,y=>by
   by_cases h:t<b
   .refine⟨_,x,y,T6 (ls1:=[some z,some (.im (.int t)),some (.im (.int told)),some (.im (.int b)),some (.im (.int a))]) (by simp[C8]) (v:=.im (.int told)) (hd2:=hd) ?_,.inl ?_⟩
    .simp[h]
    .simp[Bo,h]
   .obtain⟨fl,x',y',e,q⟩:=Je t z hd rows a (some (.im (.int b))) (some (.im (.int a)));refine⟨fl,x',y',?_,?_⟩
    .rw[<- e];refine CS (ls1:=[some z,some (.im (.int t)),some (.im (.int told)),some (.im (.int b)),some (.im (.int a))]) (by simp[C8]) ?_ (AV _);simp[h]
    .simpa [Bo,h]using q
theorem NZ(rows:List (Int×Int))(t:Int):aU [.im (.tup (rows.map C8)),.im (.int t)] []=some (.im (.int (Bo t rows 0)),[]):=by
 obtain⟨fl,x',y',e,q⟩:=Je t (.im (.tup (rows.map C8))) [] rows 0 none none;rcases q with rfl|rfl
 .simp[aU,mkF]at e ⊢;simp[e]
 .simp[aU,mkF]at e ⊢;simp[e]
theorem Pi(c:Cost)(t:Int)(h:c.wok):aN [.im (BP c),.im (.int t)] []=some (.im (.int (c.at t)),[]):=by
 cases c with
 |late d=>simp[aN,mkF,BP,n1,n5,Cost.at]
 |tardy d w=>
  have b1:∀j,Es w j:=λj=>EH (by obtain⟨a,b⟩:=h;omega) (by obtain⟨a,b⟩:=h;omega);by_cases q:t-d<=0
  .simp[aN,mkF,BP,n2,n6,n8,Cost.at,q]
  .simp[aN,mkF,BP,n2,n6,n8,Cost.at,q,b1]
 |miss d w=>
  by_cases q:t-d<=0
  .simp[aN,mkF,BP,n3,n7,n9,Cost.at,q]
  .simp[aN,mkF,BP,n3,n7,n9,n10,Cost.at,q]
 |ends w=>
  have b1:∀j,Es w j:=λj=>EH (by obtain⟨a,b⟩:=h;omega) (by obtain⟨a,b⟩:=h;omega);simp[aN,mkF,BP,n4,Cost.at,b1]
 |steps rows=>
  have:=FD (m:=A1 (mOp gIx (A0 0) (mC (.int 1))) (A1 (A0 1) A4)) (ls:=[some (.im (BP (.steps rows))),some (.im (.int t)),some (.im (.str "steps")),none]) (hd:=[]) (hd1:=[]) (F:=aU) (ds:=[.im (.tup (rows.map C8)),.im (.int t)]) (by simp[BP]) (by simp) (NZ rows t);simp[BP]at this;simp[aN,mkF,BP,Cost.at,this]
@[simp high] theorem Z4(t:Tp)(x:MO)(r:Hd):(tp t++(x::r))[2]?=some x:=rfl
@[simp high] theorem WN(t:Tp)(x y:MO)(r:Hd):(tp t++(x::y::r))[3]?=some y:=rfl
@[simp high] theorem WM(t:Tp)(x y z:MO)(r:Hd):(tp t++(x::y::z::r))[4]?=some z:=rfl
@[simp high] theorem YI(t:Tp)(x y:MO)(r:Hd):(tp t++(x::r)).set 2 y=tp t++(y::r):=rfl
@[simp high] theorem YH(t:Tp)(x y z:MO)(r:Hd):(tp t++(x::y::r)).set 3 z=tp t++(x::z::r):=rfl
theorem Cm(w:Nat)(ns:List Int):B7 w (ns.map λi=>D.im (.int i))=true:=by induction ns<;>simp_all [B7,clD]
@[simp] theorem Jc(t:Tp):(tp t).all (clO 2)=true:=by simp[tp,clO,Cm,Bc,G9,clD]
structure Drawn(τ:Tp)(many:Int)(r:Int)(τ':Tp):Prop where
 lo:0<=r
 hi:r<many
 cl:τ'.cells=τ.cells
 eq:F_pick [.mu 1,.im (.int many)] (tp τ)=some (.im (.int r),tp τ')
theorem Drawn.gen{τ τ':Tp}{many r:Int}(h:Drawn τ many r τ'){ls:Ls}{hd rest:Hd}{m:MA}(e:m ls hd=some ([.mu 1,.im (.int many)],tp τ++rest)):A9 2 F_pick m ls hd=some (.im (.int r),tp τ'++rest):=
 HF (w:=2) (ds:=[.mu 1,.im (.int many)]) (pre:=tp τ) (pre':=tp τ') (rest:=rest) (g:=[]) rfl rfl e (by simp) (Jc _) (Jc _) (by rw[append_nil];exact h.eq)
theorem Drawn.genN{τ τ':Tp}{many r:Int}(h:Drawn τ many r τ'){ls:Ls}{hd:Hd}{m:MA}(e:m ls hd=some ([.mu 1,.im (.int many)],tp τ)):A9 2 F_pick m ls hd=some (.im (.int r),tp τ'):=by
 have:=h.gen (rest:=[]) (e:=by rw[append_nil];exact e)
 rwa [append_nil]at this
theorem Drawn.c{τ τ':Tp}{many r:Int}(h:Drawn τ many r τ')(ls:Ls)(rest:Hd)(i:Nat)(hi:ls[i]?=some (some (.mu 1))):A9 2 F_pick (A1 (A0 i) (A1 (mC (.int many)) A4)) ls (tp τ++rest)=some (.im (.int r),tp τ'++rest):=h.gen (by simp[hi])
theorem Drawn.cN{τ τ':Tp}{many r:Int}(h:Drawn τ many r τ')(ls:Ls)(i:Nat)(hi:ls[i]?=some (some (.mu 1))):A9 2 F_pick (A1 (A0 i) (A1 (mC (.int many)) A4)) ls (tp τ)=some (.im (.int r),tp τ'):=h.genN (by simp[hi])
theorem Drawn.v{τ τ':Tp}{many r:Int}(h:Drawn τ many r τ')(ls:Ls)(rest:Hd)(i j:Nat)(hi:ls[i]?=some (some (.mu 1)))(hj:ls[j]?=some (some (.im (.int many)))):A9 2 F_pick (A1 (A0 i) (A1 (A0 j) A4)) ls (tp τ++rest)=some (.im (.int r),tp τ'++rest):=h.gen (by simp[hi,hj])
theorem draw(τ:Tp)(many:Int)(h0:0<many)(h1:many<1073741824):∃r τ',Drawn τ many r τ':=by
 obtain⟨r,τ',e,a,b,c⟩:=VG τ many h0 h1;exact⟨r,τ',a,b,c,e⟩
def RowsOk(lo bot:Int):List (Int×Int)->Prop
 |[]=>True
 |(b,a)::r=>lo<b/\b<=lo+40/\bot<=a/\a<=bot+19/\RowsOk b a r
def Cost.ok:Cost->Prop
 |.late d=>-99<=d/\d<=400
 |.tardy d w=>(-99<=d/\d<=400)/\0<=w/\w<=9
 |.miss d w=>(-99<=d/\d<=400)/\0<=w/\w<=9
 |.ends w=>0<=w/\w<=9
 |.steps rows=>rows≠[]/\rows.length<=5/\∃lo,-99<=lo/\lo<=200/\RowsOk lo 0 rows
theorem Cost.ok.wok{c:Cost}(h:c.ok):c.wok:=by
 cases c<;>simp only[Cost.ok,Cost.wok]at *<;>omega
theorem RowsOk.snoc:∀{rows:List (Int×Int)} {lo bot b a:Int},RowsOk lo bot rows->(rows.getLastD (lo,bot)).1<b->b<=(rows.getLastD (lo,bot)).1+40->(rows.getLastD (lo,bot)).2<=a->a<=(rows.getLastD (lo,bot)).2+19->RowsOk lo bot (rows++[(b,a)])
 |[],lo,bot,b,a,h,h1,h2,h3,h4=>⟨h1,h2,h3,h4,trivial⟩
 |(x,y)::r,lo,bot,b,a,⟨p1,p2,p3,p4,p5⟩,h1,h2,h3,h4=>by
   have e:((x,y)::r).getLastD (lo,bot)=r.getLastD (x,y):=by cases r<;>rfl
   rw[e]at h1 h2 h3 h4;exact⟨p1,p2,p3,p4,RowsOk.snoc p5 h1 h2 h3 h4⟩
abbrev Td:MS:=(AA (AO 4 (mOp AW (mOp AW (A0 4) (mC (.int 1))) (A9 2 F_pick (A1 (A0 0) (A1 (mC (.int 40)) A4)))))
 (AA (AO 5 (mOp AW (A0 5) (A9 2 F_pick (A1 (A0 0) (A1 (mC (.int 20)) A4)))))
 (C4 (mMt BH (A0 6) (A1 (B2 (A1 (A0 4) (A1 (A0 5) A4))) A4)))))
theorem La(w way due wt:D)(lo:Int):∀(k:Nat) (τ:Tp) (rows:List (Int×Int)) (z:Option D) (ds:List D),ds.length=k->rows.length+k<=5->RowsOk lo 0 rows->∃τ' rows' s t z',BZ (AF 7) Td [] ds
 [some (.mu 1),some way,some due,some wt,some (.im (.int (rows.getLastD (lo,0)).1)),some (.im (.int (rows.getLastD (lo,0)).2)),some (.mu 2),z] (tp τ++[.lst ((rows.map C8).map .im)]) =
 some (.nx [some (.mu 1),some way,some due,some wt,s,t,some (.mu 2),z'],tp τ'++[.lst ((rows'.map C8).map .im)])/\rows'.length=rows.length+k/\RowsOk lo 0 rows'/\τ'.cells=τ.cells
 |0,τ,rows,z,ds,hk,hr,hR=>by
  have:ds=[]:=length_eq_zero_iff.mp hk;subst this;exact⟨τ,rows,_,_,z,DR,rfl,hR,rfl⟩
 |k+1,τ,rows,z,[],hk,hr,hR=>by simp at hk
 |k+1,τ,rows,z,d::ds,hk,hr,hR=>by
  obtain⟨r1,τ1,d1⟩:=draw τ 40 (by decide) (by decide);obtain⟨r2,τ2,d2⟩:=draw τ1 20 (by decide) (by decide);have a1:=d1.lo;have b1:=d1.hi;have c1:=d1.cl;have a2:=d2.lo;have b2:=d2.hi;have c2:=d2.cl;have e1:=d1.c;have e2:=d2.c;have hl:E4 rows.length:=Ca (by omega);have lst:(rows++[((rows.getLastD (lo,0)).1+1+r1,(rows.getLastD (lo,0)).2+r2)]).getLastD (lo,0)=((rows.getLastD (lo,0)).1+1+r1,(rows.getLastD (lo,0)).2+r2):=by simp
  obtain⟨τ',rows',s,t,z',e,l,R,c⟩:=La w way due wt lo k τ2 (rows++[((rows.getLastD (lo,0)).1+1+r1,(rows.getLastD (lo,0)).2+r2)]) (some d) ds (by simpa using hk) (by simp;omega) (hR.snoc (by omega) (by omega) (by omega) (by omega));refine⟨τ',rows',s,t,z',?_,by rw[l];simp;omega,R,by rw[c,c2,c1]⟩;rw[<- e,lst];refine CS (ls1:=[some (.mu 1),some way,some due,some wt,some (.im (.int (rows.getLastD (lo,0)).1)),some (.im (.int (rows.getLastD (lo,0)).2)),some (.mu 2),some d]) rfl ?_ (AV _);have q:(tp τ2++[MO.lst ((rows.map C8).map D.im)])[2]?=some (.lst ((rows.map C8).map D.im)):=rfl;have q2:∀x,(tp τ2++[MO.lst ((rows.map C8).map D.im)]).set 2 x=tp τ2++[x]:=λ_=>rfl;simp[e1,e2,hl,C8]
theorem Rk(τ:Tp)(way:Int)(h0:0<=way)(h4:way<5):∃c τ' g,F_cost [.mu 1,.im (.int way)] (tp τ)=some (.im (BP c),tp τ'++g)/\c.ok/\τ'.cells=τ.cells:=by
 obtain⟨r1,τ1,d1'⟩:=draw τ 4 (by decide) (by decide);have a1:=d1'.lo;have b1:=d1'.hi;have c1:=d1'.cl;have e1:=d1'.cN;have key:∀(due:Int) (τ2:Tp),-99<=due->due<=400->τ2.cells=τ.cells ->
  (∀(ls:Ls),ls[0]?=some (some (.mu 1))->mIf (AU (mOp gEq (A9 2 F_pick (A1 (A0 0) (A1 (mC (.int 4)) A4))) (mC (.int 0)))) (mOp CL (A9 2 F_pick (A1 (A0 0) (A1 (mC (.int 500)) A4))) (mC (.int 99))) (mOp CL (A9 2 F_pick (A1 (A0 0) (A1 (mC (.int 40)) A4))) (mC (.int 5))) ls (tp τ)=some (.im (.int due),tp τ2)) ->
  ∃c τ' g,F_cost [.mu 1,.im (.int way)] (tp τ)=some (.im (BP c),tp τ'++g)/\c.ok/\τ'.cells=τ.cells:=by
  intro due τ2 d1 d2 hc hE;obtain⟨r3,τ3,d3'⟩:=draw τ2 10 (by decide) (by decide);have a3:=d3'.lo;have b3:=d3'.hi;have c3:=d3'.cl;have e3:=d3'.cN;have hE:=hE [some (.mu 1),some (.im (.int way)),none,none,none,none,none,none] rfl;have cases4:way=0∨way=1∨way=2∨way=3∨way=4:=by omega
  have e0:∀(x y z u:D),atI [x,y,z,u] 3=some u:=λx y z u=>GW (j:=3) rfl;rcases cases4 with rfl|rfl|rfl|rfl|rfl
  .refine⟨.late due,τ3,[],?_,⟨d1,d2⟩,by rw[c3,hc]⟩;simp only[F_cost,mkF,bR,Cg,CV,map_cons,map_nil,length_cons,length_nil,cons_append,nil_append,List.replicate,Nat.reduceAdd,Nat.reduceSub,if_true]at hE ⊢;rw[hE];simp[e3,BP]
  .refine⟨.tardy due r3,τ3,[],?_,⟨⟨d1,d2⟩,by omega,by omega⟩,by rw[c3,hc]⟩;simp only[F_cost,mkF,bR,Cg,CV,map_cons,map_nil,length_cons,length_nil,cons_append,nil_append,List.replicate,Nat.reduceAdd,Nat.reduceSub,if_true]at hE ⊢;rw[hE];simp[e3,BP]
  .refine⟨.miss due r3,τ3,[],?_,⟨⟨d1,d2⟩,by omega,by omega⟩,by rw[c3,hc]⟩;simp only[F_cost,mkF,bR,Cg,CV,map_cons,map_nil,length_cons,length_nil,cons_append,nil_append,List.replicate,Nat.reduceAdd,Nat.reduceSub,if_true]at hE ⊢;rw[hE];simp[e3,BP]
  .refine⟨.ends r3,τ3,[],?_,⟨by omega,by omega⟩,by rw[c3,hc]⟩;simp only[F_cost,mkF,bR,Cg,CV,map_cons,map_nil,length_cons,length_nil,cons_append,nil_append,List.replicate,Nat.reduceAdd,Nat.reduceSub,if_true]at hE ⊢;rw[hE];simp[e3,BP,e0]
  .obtain⟨r4,τ4,d4'⟩:=draw τ3 5 (by decide) (by decide);have a4:=d4'.lo;have b4:=d4'.hi;have c4:=d4'.cl;have e4:=d4'.c;obtain⟨τ',rows',s,t,z',e,l,R,c⟩:=La (.im .non) (.im (.int 4)) (.im (.int due)) (.im (.int r3)) (if 200<due then 200 else due) (1+r4).toNat τ4 [] none (An 0 (1+r4).toNat) (FJ _ _) (by simp;omega) trivial;refine⟨.steps rows',τ',[.lst ((rows'.map C8).map .im)],?_,⟨?_,by simp at l;omega,_,?_,?_,R⟩,by rw[c,c4,c3,hc]⟩
   .simp only[F_cost,mkF,bR,Cg,CV,map_cons,map_nil,length_cons,length_nil,cons_append,nil_append,List.replicate,Nat.reduceAdd,Nat.reduceSub,if_true]at hE ⊢;rw[hE];have q:(tp τ'++[MO.lst ((rows'.map C8).map D.im)])[2]?=some (.lst ((rows'.map C8).map D.im)):=rfl;have bd:Fa (1+r4):=DD (by omega) (by omega);have nil0:tp τ3++[MO.lst ([]:List D)]=tp τ3++[.lst ((([]:List (Int×Int)).map C8).map .im)]:=rfl;have e':=e;simp only[List.getLastD_nil,map_nil]at e';have e'':(D.im ∘ C8)=λr=>D.im (C8 r):=rfl;simp only[map_map]at e';have tt:Av (List.map (D.im ∘ C8) rows')=.im (.tup (rows'.map C8)):=by rw[<- map_map];exact Ax _
    simp[e3,e4,bd,e',B9,BP,tt]
   .intro z;rw[z]at l;simp at l;omega
   .split<;>omega
   .split<;>omega
 by_cases h:r1=0
 .obtain⟨r2,τ2,d2'⟩:=draw τ1 500 (by decide) (by decide);have a2:=d2'.lo;have b2:=d2'.hi;have c2:=d2'.cl;have e2:=d2'.cN;exact key (r2-99) τ2 (by omega) (by omega) (by rw[c2,c1]) λls hls=>by simp[e1,e2,hls,h]
 .obtain⟨r2,τ2,d2'⟩:=draw τ1 40 (by decide) (by decide);have a2:=d2'.lo;have b2:=d2'.hi;have c2:=d2'.cl;have e2:=d2'.cN;exact key (r2-5) τ2 (by omega) (by omega) (by rw[c2,c1]) λls hls=>by simp[e1,e2,hls,h]
structure Wk where
 len:Int
 com:Int
 cost:Cost
def AT(w:Wk):I:=.tup [.int w.len,.int w.com,BP w.cost]
structure Wk.ok(w:Wk):Prop where
 l1:1<=w.len
 l2:w.len<=20
 c1:0<=w.com
 c2:w.com<=60
 co:w.cost.ok
abbrev AM(ws:List Wk):I:=.tup (ws.map AT)
structure DrawnI(F:List D->Hd->Option (D×Hd))(τ:Tp)(as:List D)(i:I)(τ':Tp):Prop where
 cl:τ'.cells=τ.cells
 eq:∃g,F (.mu 1::as) (tp τ)=some (.im i,tp τ'++g)
theorem DrawnI.gen{F:List D->Hd->Option (D×Hd)}{τ τ':Tp}{as:List D}{i:I}(h:DrawnI F τ as i τ'){ls:Ls}{hd rest:Hd}{m:MA}(e:m ls hd=some (.mu 1::as,tp τ++rest))(ha:B7 2 as=true):A9 2 F m ls hd=some (.im i,tp τ'++rest):=by
 obtain⟨g,q⟩:=h.eq;exact HF (w:=2) (ds:=.mu 1::as) (pre:=tp τ) (pre':=tp τ') (rest:=rest) (g:=g) rfl rfl e (by simp[ha]) (Jc _) (Jc _) q
theorem NI(τ:Tp)(way:Int)(h0:0<=way)(h4:way<5):∃c τ',c.ok/\DrawnI F_cost τ [.im (.int way)] (BP c) τ':=by
 obtain⟨c,τ',g,e,a,b⟩:=Rk τ way h0 h4;exact⟨c,τ',a,b,g,e⟩
abbrev LJ:MS:=(AA (AO 7 (mIf (DH (A0 2)) (A0 3) (A9 2 F_pick (A1 (A0 0) (A1 (DQ (BF (A1 (mC (.int 8)) (A1 (mC (.int 61)) A4))) (A9 2 F_pick (A1 (A0 0) (A1 (mC (.int 2)) A4)))) A4)))))
 (C4 (mMt BH (A0 5) (A1 (B2 (A1 (mOp AW (mC (.int 1)) (A9 2 F_pick (A1 (A0 0) (A1 (A0 4) A4)))) (A1 (A0 7) (A1 (A9 2 F_cost (A1 (A0 0) (A1 (A9 2 F_pick (A1 (A0 0) (A1 (mC (.int 5)) A4))) A4))) A4)))) A4))))
theorem Ni(alike:Bool)(begin_:Int)(hb:0<=begin_/\begin_<=60)(τ:Tp):∃com τ',(0<=com/\com<=60)/\(alike=true->com=begin_)/\τ'.cells=τ.cells/\∀(ls:Ls) (rest:Hd),ls[0]?=some (some (.mu 1))->ls[2]?=some (some (.im (.bl alike)))->ls[3]?=some (some (.im (.int begin_))) ->
 mIf (DH (A0 2)) (A0 3) (A9 2 F_pick (A1 (A0 0) (A1 (DQ (BF (A1 (mC (.int 8)) (A1 (mC (.int 61)) A4))) (A9 2 F_pick (A1 (A0 0) (A1 (mC (.int 2)) A4)))) A4))) ls (tp τ++rest)=some (.im (.int com),tp τ'++rest):=by
 cases alike with
 |true=>exact⟨begin_,τ,hb,λ_=>rfl,rfl,λls rest h0 h2 h3=>by simp[h2,h3,EL]⟩
 |false=>
  obtain⟨r1,τ1,d1⟩:=draw τ 2 (by decide) (by decide);have e1:=d1.c;have a1:=d1.lo;have b1:=d1.hi;have hx:∃x:Int,(x=8∨x=61)/\atI [D.im (.int 8),D.im (.int 61)] r1=some (.im (.int x)):=by
   have:r1=0∨r1=1:=by omega
   rcases this with rfl|rfl
   .exact⟨8,.inl rfl,CN _ _⟩
   .exact⟨61,.inr rfl,Ec _ _ _⟩
  obtain⟨x,hx1,hx2⟩:=hx;obtain⟨r2,τ2,d2⟩:=draw τ1 x (by omega) (by omega);have a2:=d2.lo;have b2:=d2.hi;refine⟨r2,τ2,by omega,(λh=>by cases h),by rw[d2.cl,d1.cl],λls rest h0 h2 h3=>?_⟩;simp only[Yp,RP,Cf,h2,bind_some,EL,map_some,Bool.false_eq_true,if_false];exact d2.gen (by simp[h0,e1,hx2])
theorem JY(alike:Bool)(begin_ wide:Int)(many:D)(hb:0<=begin_/\begin_<=60)(hw:0<wide/\wide<=20):∀(k:Nat) (τ:Tp) (ws:List Wk) (z z2:Option D) (ds:List D),ds.length=k->ws.length+k<=1000->(∀w∈ws,w.ok/\(alike=true->w.com=begin_))->∃(τ':Tp) (ws':List Wk) (z' z2':Option D),BZ (AF 6) LJ [] ds
 [some (.mu 1),some many,some (.im (.bl alike)),some (.im (.int begin_)),some (.im (.int wide)),some (.mu 2),z,z2] (tp τ++[.lst (ws.map λw=>.im (AT w))]) =
 some (.nx [some (.mu 1),some many,some (.im (.bl alike)),some (.im (.int begin_)),some (.im (.int wide)),some (.mu 2),z',z2'],tp τ'++[.lst (ws'.map λw=>.im (AT w))])/\ws'.length=ws.length+k/\(∀w∈ws',w.ok/\(alike=true->w.com=begin_))/\τ'.cells=τ.cells
 |0,τ,ws,z,z2,ds,hk,hr,hR=>by
  have:ds=[]:=length_eq_zero_iff.mp hk;subst this;exact⟨τ,ws,z,z2,DR,rfl,hR,rfl⟩
 |k+1,τ,ws,z,z2,[],hk,hr,hR=>by simp at hk
 |k+1,τ,ws,z,z2,d::ds,hk,hr,hR=>by
  obtain⟨com,τ1,hc,hal,c1,e1⟩:=Ni alike begin_ hb τ;obtain⟨r2,τ2,d2⟩:=draw τ1 wide hw.1 (by omega);have e2:=d2.v;have a2:=d2.lo;have b2:=d2.hi;obtain⟨r3,τ3,d3⟩:=draw τ2 5 (by decide) (by decide);have e3:=d3.c;obtain⟨co,τ4,hco,d4⟩:=NI τ3 r3 d3.lo d3.hi;have hl:E4 ws.length:=Ca (by omega);obtain⟨τ',ws',z',z2',e,l,R,c⟩:=JY alike begin_ wide many hb hw k τ4 (ws++[⟨1+r2,com,co⟩]) (some d) (some (.im (.int com))) ds (by simpa using hk) (by simp;omega) (by
   intro w hw';rcases mem_append.mp hw' with h|h
   .exact hR w h
   .simp at h;subst h;exact⟨⟨by simp;omega,by simp;omega,hc.1,hc.2,hco⟩,hal⟩)
  refine⟨τ',ws',z',z2',?_,by rw[l];simp;omega,R,by rw[c,d4.cl,d3.cl,d2.cl,c1]⟩;rw[<- e];refine CS (ls1:=[some (.mu 1),some many,some (.im (.bl alike)),some (.im (.int begin_)),some (.im (.int wide)),some (.mu 2),some d,z2]) rfl ?_ (AV _);have f1:=e1 [some (.mu 1),some many,some (.im (.bl alike)),some (.im (.int begin_)),some (.im (.int wide)),some (.mu 2),some d,z2] [.lst (ws.map λw=>.im (AT w))] rfl rfl rfl;have f4:=d4.gen (ls:=[some (.mu 1),some many,some (.im (.bl alike)),some (.im (.int begin_)),some (.im (.int wide)),some (.mu 2),some d,some (.im (.int com))]) (hd:=tp τ2++[.lst (ws.map λw=>.im (AT w))]) (rest:=[.lst (ws.map λw=>.im (AT w))]) (m:=A1 (A0 0) (A1 (A9 2 F_pick (A1 (A0 0) (A1 (mC (.int 5)) A4))) A4)) (by simp[e3]) (by simp);simp only[LJ,Cg,CV,f1,bind_some,EJ,map_some];simp[e2,f4,hl];simp[AT]
theorem OZ(τ:Tp)(many:Int)(alike:Bool)(h0:0<=many)(h8:many<=100):∃(ws:List Wk) (τ':Tp),(ws.length=many.toNat/\(∀w∈ws,w.ok)/\(alike=true->∃b,∀w∈ws,w.com=b))/\DrawnI F_works τ [.im (.int many),.im (.bl alike)] (AM ws) τ':=by
 obtain⟨r1,τ1,d1⟩:=draw τ 61 (by decide) (by decide);obtain⟨r2,τ2,d2⟩:=draw τ1 2 (by decide) (by decide);obtain⟨r3,τ3,d3⟩:=draw τ2 2 (by decide) (by decide);have e1:=d1.cN;have e2:=d2.cN;have e3:=d3.cN;have a1:=d1.lo;have b1:=d1.hi;have a2:=d2.lo;have b2:=d2.hi;have a3:=d3.lo;have b3:=d3.hi;have hx:∃x:Int,(x=3∨x=20)/\atI [D.im (.int 3),D.im (.int 20)] r3=some (.im (.int x)):=by
  have:r3=0∨r3=1:=by omega
  rcases this with rfl|rfl
  .exact⟨3,.inl rfl,CN _ _⟩
  .exact⟨20,.inr rfl,Ec _ _ _⟩
 obtain⟨x,hx1,hx2⟩:=hx;have hb:0<=r1*r2/\r1*r2<=60:=by
  have:r2=0∨r2=1:=by omega
  rcases this with rfl|rfl<;>omega
 obtain⟨τ',ws',z',z2',e,l,R,c⟩:=JY alike (r1*r2) x (.im (.int many)) hb (by omega) many.toNat τ3 [] none none (An 0 many.toNat) (FJ _ _) (by simp;omega) (by simp);refine⟨ws',τ',⟨by simpa using l,λw hw=>(R w hw).1,λha=>⟨r1*r2,λw hw=>(R w hw).2 ha⟩⟩,by rw[c,d3.cl,d2.cl,d1.cl],[.lst (ws'.map λw=>.im (AT w))],?_⟩;have bm:∀j,Es r1 j:=λj=>EH (by omega) (by omega);have bd:Fa many:=DD (by omega) (by omega);have tt:Av (ws'.map λw=>D.im (AT w))=.im (AM ws'):=by
  have:(ws'.map λw=>D.im (AT w))=(ws'.map AT).map D.im:=by rw[map_map];rfl
  rw[this];exact Ax _
 simp only[map_nil]at e;simp[F_works,mkF,e1,e2,e3,bm,hx2,bd,e,B9,tt]
end Bd
namespace L2
theorem NK{α:Type}{n:MG}{c:MT}{m:ME}{g:Gd}{hd:Hd}(hg:GOk hd g)(f:α->D)(k:α->Option D):∀{xs:List α} {ls:Ls} (P:Ls->Prop),P ls ->
 (∀x∈xs,∀ls,P ls->∃ls1,n (f x) ls hd=some ls1/\P ls1/\((k x=none/\c ls1 hd=some (false,hd))∨∃z,k x=some z/\c ls1 hd=some (true,hd)/\m ls1 hd=some (z,hd)))->BL n c m g (xs.map f) ls hd=some (xs.filterMap k,hd)
 |[],ls,P,h,_=>by unfold BL;rfl
 |x::r,ls,P,h,q=>by
  obtain⟨ls1,e1,p1,q1⟩:=q x mem_cons_self ls h;have ih:=NK hg f k (xs:=r) (ls:=ls1) P p1 λd hd ls hp=>q d (mem_cons_of_mem _ hd) ls hp;rw[map_cons];unfold BL;rcases q1 with⟨kn,c1⟩|⟨z,kz,c1,m1⟩
  .simp[e1,c1,hg,ih,kn]
  .simp[e1,c1,m1,hg,ih,kz]
theorem NL{α:Type}{n:MG}{m:ME}{g:Gd}{hd:Hd}(hg:GOk hd g)(f:α->D)(k:α->D){xs:List α}{ls:Ls}(P:Ls->Prop)(h:P ls)
 (q:∀x∈xs,∀ls,P ls->∃ls1,n (f x) ls hd=some ls1/\P ls1/\m ls1 hd=some (k x,hd)):BL n Bg m g (xs.map f) ls hd=some (xs.map k,hd):=by
 have:=NK (c:=Bg) hg f (λx=>some (k x)) (xs:=xs) P h λx hx ls hp=>by
  obtain⟨ls1,e1,p1,e2⟩:=q x hx ls hp;exact⟨ls1,e1,p1,.inr ⟨_,rfl,rfl,e2⟩⟩
 rw[this];simp
end L2
namespace Bd
open PySem L2
abbrev B8(es:List Int):I:=.tup (es.map I.int)
def CW(ws:List Wk)(es:List Int):List Int:=List.zipWith (λw e=>w.cost.at e) ws es
theorem Py(ws:List Wk)(es:List Int):List.zipWith (λx y=>Av [x,y]) ((ws.map AT).map D.im) ((es.map I.int).map D.im)=(List.zip ws es).map λp=>D.im (.tup [AT p.1,.int p.2]):=by
 induction ws generalizing es with
 |nil=>simp
 |cons w ws ih=>
  cases es with
  |nil=>simp
  |cons e es=>simp only[map_cons,List.zipWith_cons_cons,List.zip_cons_cons,O6,ih]
theorem Ph(ws:List Wk)(es:List Int):(List.zip ws es).map (λp=>p.1.cost.at p.2)=CW ws es:=by
 unfold CW;rw[List.zip_eq_zipWith,List.map_zipWith]
theorem L8(ns:List Int):(ns.map λi=>D.im (.int i))=(ns.map I.int).map D.im:=by rw[map_map];rfl
theorem K3(ns:List Int):Av (ns.map λi=>D.im (.int i))=.im (B8 ns):=by rw[L8];exact Ax _
theorem G8(ws:List Wk)(es:List Int)(h:∀w∈ws,w.cost.wok)(hl:ws.length<=1000):F_costs_of [.im (AM ws),.im (B8 es)] []=some (.im (B8 (CW ws es)),[]):=by
 have hz:CM (List.zip ws es).length:=Aq (by simp;omega);have hc:=NL (hd:=[]) (n:=Bz 2 (Ae (AF 0) (Ae (AF 1) C0))) (m:=A9 0 aN (A1 (mOp gIx (A0 0) (mC (.int 2))) (A1 (A0 1) A4))) (AV []) (λp:Wk×Int=>D.im (.tup [AT p.1,.int p.2])) (λp=>.im (.int (p.1.cost.at p.2))) (xs:=List.zip ws es) (ls:=[none,none]) (λls=>ls.length=2) rfl λp hp ls hls=>by
  match ls,hls with
  |[a,b],_=>
   refine⟨[some (.im (AT p.1)),some (.im (.int p.2))],by simp,rfl,?_⟩;exact FD (ds:=[.im (BP p.1.cost),.im (.int p.2)]) (by simp[AT]) (by simp) (Pi p.1.cost p.2 (h p.1 (of_mem_zip hp).1))
 have hi:List.map (λp:Wk×Int=>D.im (.int (p.1.cost.at p.2))) (List.zip ws es)=(CW ws es).map λi=>D.im (.int i):=by rw[<- Ph,map_map];rfl
 have gk:GOk [] []:=AV [];simp only[F_costs_of,mkF,bQ,KK,NF,ON,Hl,KM,Cf,map_cons,map_nil,length_cons,length_nil,cons_append,nil_append,List.replicate,Nat.reduceAdd,Nat.reduceSub,if_true,List.getElem?_cons_zero,List.getElem?_cons_succ,bind_some,MM,map_some,gk,Py,length_map,hz,Dh,append_nil];rw[hc,hi];simp[B9,K3]
theorem Q2(ws:List Wk)(es:List Int)(h:∀w∈ws,w.cost.wok)(hl:ws.length<=1000)(hne:CW ws es≠[]):F_worth [.im (AM ws),.im (B8 es),.im (.str "greatest")] []=some (.im (.int (Cs (CW ws es))),[]):=by
 have e:=FD (m:=A1 (A0 0) (A1 (A0 1) A4)) (ls:=[some (.im (AM ws)),some (.im (B8 es)),some (.im (.str "greatest")),none]) (hd:=[]) (F:=F_costs_of) (ds:=[.im (AM ws),.im (B8 es)]) (hd1:=[]) (by simp) (by simp) (G8 ws es h hl);have k:(BS ((CW ws es).map I.int |>.map D.im))=some (CW ws es):=by rw[<- L8];exact FB _
 simp only[F_worth,mkF,cB,Cg,CV,map_cons,map_nil,length_cons,length_nil,cons_append,nil_append,List.replicate,Nat.reduceAdd,Nat.reduceSub,if_true];rw[e];simp only[bind_some,EJ,map_some,set_cons_succ,set_cons_zero,KN,GT,HB,Cf,List.getElem?_cons_zero,List.getElem?_cons_succ,JR,Ii,RY,if_true,decide_true,KK,U8,El,FC,Pb,DO,Hs,k,hne,if_false,Bool.false_eq_true]
theorem Yn:¬ (("sum":Str)="greatest"):=by decide +kernel
theorem Q0(ws:List Wk)(es:List Int)(h:∀w∈ws,w.cost.wok)(hl:ws.length<=1000):F_worth [.im (AM ws),.im (B8 es),.im (.str "sum")] []=some (.im (.int (CW ws es).sum),[]):=by
 have e:=FD (m:=A1 (A0 0) (A1 (A0 1) A4)) (ls:=[some (.im (AM ws)),some (.im (B8 es)),some (.im (.str "sum")),none]) (hd:=[]) (F:=F_costs_of) (ds:=[.im (AM ws),.im (B8 es)]) (hd1:=[]) (by simp) (by simp) (G8 ws es h hl);have k:(BS ((CW ws es).map I.int |>.map D.im))=some (CW ws es):=by rw[<- L8];exact FB _
 simp only[F_worth,mkF,cB,Cg,CV,map_cons,map_nil,length_cons,length_nil,cons_append,nil_append,List.replicate,Nat.reduceAdd,Nat.reduceSub,if_true];rw[e];simp only[bind_some,EJ,map_some,set_cons_succ,set_cons_zero,KN,GT,HB,Cf,List.getElem?_cons_zero,List.getElem?_cons_succ,JR,Ii,RY,if_true,Yn,decide_false,Vx,KK,U8,El,FC,Pb,DO,PK,k,if_false,Bool.false_eq_true]
def AL(p:Nat×Int×Int):I:=.tup [.int p.1,.int p.2.1,.int p.2.2]
def BQ(ws:List Wk):List Nat->Int->List (Nat×Int×Int)
 |[],_=>[]
 |k::r,e=>match ws[k]? with
  |some w=>(k,(if e>w.com then e else w.com),(if e>w.com then e else w.com)+w.len)::BQ ws r ((if e>w.com then e else w.com)+w.len)
  |none=>[]
abbrev De(ks:List Nat):I:=.tup (ks.map λk:Nat=>.int k)
theorem T5{α:Type}(ws:List α):ws.map (λ_=>D.im (.int 0))=(List.replicate ws.length 0).map λi=>D.im (.int i):=by induction ws<;>simp_all [List.replicate_succ]
abbrev Np:MS:=(AA (FG (mOp gIx (A0 0) (A0 4)) (Bz 3 (Ae (AF 5) (Ae (AF 6) (Ae (AF 7) C0)))))
 (AA (AO 8 (mCB Gz (A1 (A0 6) (A1 (A0 3) A4))))
 (AA (AO 3 (mOp AW (A0 8) (A0 5)))
 (C4 (mMt BH (A0 2) (A1 (B2 (A1 (A0 4) (A1 (A0 8) (A1 (A0 3) A4)))) A4))))))
theorem Me(ws:List Wk)(o:D):∀(ks:List Nat) (e:Int) (ps:List (Nat×Int×Int)) (a b c d f:Option D),(∀k∈ks,k<ws.length)->ps.length+ks.length<=1000->∃e' a' b' c' d' f',BZ (AF 4) Np [] (ks.map λk:Nat=>.im (.int k))
 [some (.im (AM ws)),some o,some (.mu 0),some (.im (.int e)),a,b,c,d,f] [.lst (ps.map λp=>.im (AL p))]=some (.nx [some (.im (AM ws)),some o,some (.mu 0),e',a',b',c',d',f'],[.lst ((ps++BQ ws ks e).map λp=>.im (AL p))])
 |[],e,ps,a,b,c,d,f,_,_=>⟨_,a,b,c,d,f,by simp[BQ,DR];rfl⟩
 |k::ks,e,ps,a,b,c,d,f,h,hl=>by
  have hk:=h k mem_cons_self;have hw:ws[k]?=some ws[k]:=by simp[hk]
  generalize ws[k]=w at hw;obtain⟨e',a',b',c',d',f',q⟩:=Me ws o ks ((if e>w.com then e else w.com)+w.len) (ps++[(k,(if e>w.com then e else w.com),(if e>w.com then e else w.com)+w.len)]) (some (.im (.int k))) (some (.im (.int w.len))) (some (.im (.int w.com))) (some (.im (BP w.cost))) (some (.im (.int (if e>w.com then e else w.com)))) (λk hk=>h k (mem_cons_of_mem _ hk)) (by simp at hl ⊢;omega);refine⟨e',a',b',c',d',f',?_⟩;have hp:E4 ps.length:=Ca (by simp at hl;omega);have at1:atI ((ws.map AT).map D.im) (k:Int)=some (.im (AT w)):=Fj rfl (by simp[hw]);rw[show BQ ws (k::ks) e=(k,(if e>w.com then e else w.com),(if e>w.com then e else w.com)+w.len)::BQ ws ks ((if e>w.com then e else w.com)+w.len) by rw[BQ,hw]];rw[append_assoc]at q;rw[List.singleton_append]at q;rw[<- q,map_cons];refine CS (ls1:=[some (.im (AM ws)),some o,some (.mu 0),some (.im (.int e)),some (.im (.int k)),b,c,d,f]) rfl ?_ (AV _);simp only[Np,Cg,CV,HB,Cf,List.getElem?_cons_zero,List.getElem?_cons_succ,bind_some,Pa,DO,at1,map_some];simp[AT,hp,AL]
theorem WY(ws:List Wk)(ks:List Nat)(h:∀k∈ks,k<ws.length)(hl:ks.length<=1000):∃g,F_run [.im (AM ws),.im (De ks)] []=some (.im (.tup ((BQ ws ks 0).map AL)),g):=by
 obtain⟨e',a',b',c',d',f',q⟩:=Me ws (.im (De ks)) ks 0 [] none none none none none h (by simpa using hl);have tt:∀ps:List (Nat×Int×Int),Av (ps.map λp=>D.im (AL p))=.im (.tup (ps.map AL)):=λps=>by
  have:(ps.map λp=>D.im (AL p))=(ps.map AL).map D.im:=by rw[map_map];rfl
  rw[this];exact Ax _
 have kk:(ks.map λk:Nat=>I.int k).map D.im=ks.map λk:Nat=>D.im (.int k):=by rw[map_map];rfl
 simp only[map_nil,nil_append]at q;refine⟨[.lst ((BQ ws ks 0).map λp=>.im (AL p))],?_⟩;simp only[F_run,mkF,cy,Cg,CV,KL,NE,FC,JR,KO,KM,Cf,map_cons,map_nil,length_cons,length_nil,cons_append,nil_append,List.replicate,Nat.reduceAdd,Nat.reduceSub,if_true,bind_some,ND,EJ,map_some,set_cons_succ,set_cons_zero,List.getElem?_cons_zero,List.getElem?_cons_succ,MM,kk];rw[q];simp[B9,tt]
def FM(es:List Int):List (Nat×Int×Int)->List Int
 |[]=>es
 |p::r=>FM (es.set p.1 p.2.2) r
theorem LY(w o:D):∀(ps:List (Nat×Int×Int)) (es:List Int) (a b c:Option D),(∀p∈ps,p.1<es.length)->∃a' b' c',BZ (Bz 3 (Ae (AF 3) (Ae (AF 4) (Ae (AF 5) C0)))) (Fu (A0 2) (A0 3) (A0 5)) [] (ps.map λp=>.im (AL p))
 [some w,some o,some (.mu 0),a,b,c] [.lst (es.map λi=>.im (.int i))]=some (.nx [some w,some o,some (.mu 0),a',b',c'],[.lst ((FM es ps).map λi=>.im (.int i))])
 |[],es,a,b,c,_=>⟨a,b,c,DR⟩
 |(k,x,y)::ps,es,a,b,c,h=>by
   obtain⟨a',b',c',q⟩:=LY w o ps (es.set k y) (some (.im (.int k))) (some (.im (.int x))) (some (.im (.int y))) (λp hp=>by simpa using h p (mem_cons_of_mem _ hp));refine⟨a',b',c',?_⟩;have hk:k<es.length:=h _ mem_cons_self;have ix:ixN es.length (k:Int)=some k:=by unfold ixN;rw[if_pos (by omega),if_pos (by omega)];simp
   rw[show FM es ((k,x,y)::ps)=FM (es.set k y) ps from rfl,<- q,map_cons];refine CS (ls1:=[some w,some o,some (.mu 0),some (.im (.int k)),some (.im (.int x)),some (.im (.int y))]) (by simp[AL]) ?_ (AV _);simp[ix]
theorem Pd(ws:List Wk)(ps:List (Nat×Int×Int))(h:∀p∈ps,p.1<ws.length)(hl:ws.length<=1000):∃g,F_ends_of [.im (AM ws),.im (.tup (ps.map AL))] []=some (.im (B8 (FM (List.replicate ws.length 0) ps)),g):=by
 obtain⟨a',b',c',q⟩:=LY (.im (AM ws)) (.im (.tup (ps.map AL))) ps (List.replicate ws.length 0) none none none (λp hp=>by simpa using h p hp);have hz:CM ws.length:=Aq (by omega);have hc:=NL (hd:=[]) (n:=AF 0) (m:=mC (.int 0)) (AV []) (λw:Wk=>D.im (AT w)) (λ_=>.im (.int 0)) (xs:=ws) (ls:=[none]) (λls=>ls.length=1) rfl λw hw ls hls=>by
  match ls,hls with
  |[a],_=>exact⟨[some (.im (AT w))],rfl,rfl,rfl⟩
 have hr:=T5 ws;have w1:(ws.map AT).map D.im=ws.map λw=>D.im (AT w):=by rw[map_map];rfl
 have p1:(ps.map AL).map D.im=ps.map λp=>D.im (AL p):=by rw[map_map];rfl
 rw[hr]at hc;refine⟨[.lst ((FM (List.replicate ws.length 0) ps).map λi=>.im (.int i))],?_⟩;simp only[F_ends_of,mkF,bo,Cg,CV,KL,ON,KM,Cf,KO,map_cons,map_nil,length_cons,length_nil,cons_append,nil_append,List.replicate,Nat.reduceAdd,Nat.reduceSub,if_true,List.getElem?_cons_zero,List.getElem?_cons_succ,bind_some,MM,map_some,w1,p1,length_map,hz,Dh,append_nil,hc,EJ,set_cons_succ,set_cons_zero];rw[q];simp[B9,K3]
end Bd
namespace L2
open PySem PySem.Spec PyProof.Rows
structure OkP(w dp:Nat)(d:PyData):Prop where
 sh:d.showable=true
 lay:d.canLay0=true
 it:d.intsShort 13=true
 dp:d.depth<=dp
 wt:d.weight<=w
structure OkPs(w dp n:Nat)(ds:List PyData):Prop where
 sh:PyData.showableAll ds=true
 lay:PyData.canLayAll0 ds=true
 it:PyData.intsShortAll 13 ds=true
 dp:PyData.depthAll ds<=dp
 wt:PyData.weightAll ds<=n*(w+1)
def sm(i:Int):Prop:=-1000000000<=i/\i<=1000000000
theorem OkP.int{i:Int}(h:sm i):OkP 40 0 (.int i):=by
 have h1:i.natAbs<10^10:=by obtain⟨a,b⟩:=h;omega
 have h0:i.natAbs<2^38:=by obtain⟨a,b⟩:=h;omega
 have lg:i.natAbs.log2<38:=by
  by_cases z:i.natAbs=0
  .rw[z];decide
  .exact(Nat.log2_lt z).mpr h0
 refine⟨?_,by simp[PyData.canLay0],?_,by simp[PyData.depth],?_⟩
 .simp only[PyData.showable];exact decide_eq_true (by omega)
 .simp only[PyData.intsShort,PyData.shown];refine decide_eq_true ?_;have h2:=int_text_length_le10 (a:=i) (k:=10) (by decide) h1;rw[PySem.ofString_length];omega
 .simp only[PyData.weight];split<;>omega
theorem OkP.mono{w w' dp dp':Nat}{d:PyData}(h:OkP w dp d)(a:w<=w')(b:dp<=dp'):OkP w' dp' d:=⟨h.sh,h.lay,h.it,le_trans h.dp b,le_trans h.wt a⟩
theorem OkPs.nil{w dp:Nat}:OkPs w dp 0 []:=⟨by simp[PyData.showableAll],by simp[PyData.canLayAll0],by simp[PyData.intsShortAll],by simp[PyData.depthAll],by simp[PyData.weightAll]⟩
theorem OkPs.cons{w dp n:Nat}{d:PyData}{ds:List PyData}(h:OkP w dp d)(t:OkPs w dp n ds):OkPs w dp (n+1) (d::ds):=by
 refine⟨by simp[PyData.showableAll,h.sh,t.sh],by simp[PyData.canLayAll0,h.lay,t.lay],by simp[PyData.intsShortAll,h.it,t.it],?_,?_⟩
 .simp only[PyData.depthAll];exact Nat.max_le.mpr ⟨h.dp,t.dp⟩
 .simp only[PyData.weightAll];have:=h.wt;have:=t.wt;rw[Nat.add_mul];omega
theorem OkPs.tup{w dp n:Nat}{ds:List PyData}(t:OkPs w dp n ds):OkP (n*(w+1)) (dp+1) (.tuple ds):=by
 refine⟨?_,?_,?_,?_,?_⟩
 .rw[PyData.showable];exact t.sh
 .rw[PyData.canLay0];exact t.lay
 .rw[PyData.intsShort];exact t.it
 .rw[PyData.depth];have:=t.dp;omega
 .rw[PyData.weight];exact t.wt
theorem OkP.repr{w dp:Nat}{d:PyData}(h:OkP w dp d)(hd:isDisplay d=true)(h1:dp<=30)(h2:w<=2^20):Dt d:=by
 have hl:d.layable0=true:=by
  unfold PyData.layable0;rw[h.lay,decide_eq_true (show d.depth<=64 by have:=h.dp;omega),decide_eq_true (show d.weight<=2^20 by have:=h.wt;omega)];rfl
 exact⟨h.sh,PyData.hasDict_of_canLay d h.lay,hd,le_trans h.dp h1,le_trans (PyProof.Rows.shown_le13 hl h.it) (by decide)⟩
theorem Qo{w dp:Nat}:∀{is:List I},(∀i∈is,OkP w dp i.py)->OkPs w dp is.length (I.pys is)
 |[],_=>by simp only[I.pys];exact OkPs.nil
 |i::is,h=>by simp only[I.pys,length_cons];exact(Qo λj hj=>h j (mem_cons_of_mem _ hj)).cons (h i mem_cons_self)
theorem Kr{w dp:Nat}{is:List I}(h:∀i∈is,OkP w dp i.py):OkP (is.length*(w+1)) (dp+1) (I.py (.tup is)):=by
 rw[I.py];exact(Qo h).tup
theorem IX{i:Int}(h:sm i):OkP 40 0 (I.py (.int i)):=by rw[I.py];exact .int h
end L2
namespace Bd
open PySem L2
theorem TY(ns:List Int)(lo hi:Option Int):∃cs:List Int,Bm (ns.map λn=>.im (.int n)) lo hi=cs.map λn=>.im (.int n):=⟨(ns.drop _).take _,by unfold Bm;rw[map_take,map_drop]⟩
theorem UQ(ns:List Int):∃τ,F_tape [.ro ns] []=some (.mu 1,tp τ):=by
 obtain⟨cs,e⟩:=TY ns none (some 63);refine⟨⟨cs,0,0,0⟩,?_⟩;simp[F_tape,mkF,e,GM,EU,ne1,ne2,ne3,ne4,ne5,ne6,tp,Bc]
abbrev JE:MS:=(C4 (mMt BH (A0 3) (A1 (mMt Hw (A0 2) (A1 (A9 2 F_pick (A1 (A0 0) (A1 (mCB (f1 true C1) (A1 (A0 2) A4)) A4))) A4)) A4)))
abbrev FW:MS:=(Ay (AU (mOp gEq (A9 2 F_pick (A1 (A0 0) (A1 (A0 5) A4))) (mC (.int 0))))
 (C4 (mMt BH (A0 6) (A1 (B2 (A1 (mOp gIx (A0 3) (A0 7)) (A1 (mOp gIx (A0 3) (A0 8)) A4))) A4)))
 Ap)
@[reducible] def cC:MS:=(AA (AO 2 (BN (Go (A1 (A0 1) A4))))
 (AA (AO 3 (BN (BF A4)))
 (AA (Bl (DI (A1 (A0 1) A4)) (AF 4) JE)
 (AA (AO 5 (DQ (BF (A1 (mC (.int 2)) (A1 (mC (.int 3)) (A1 (mC (.int 6)) A4)))) (A9 2 F_pick (A1 (A0 0) (A1 (mC (.int 3)) A4)))))
 (AA (AO 6 (BN (BF A4)))
 (AA (Bl (DI (A1 (A0 1) A4)) (AF 7)
  (Bl (Fv (A1 (mOp AW (A0 7) (mC (.int 1))) (A1 (A0 1) A4))) (AF 8) FW))
 (Ac (Ct B9 (JK (BN (Ff (EX (A0 6)))) BU (Bu (mC (.int 16))))))))))))
def F_wishes:List D->Hd->Option (D×Hd):=mkF 2 9 cC
abbrev Am(ks:List Nat):List D:=ks.map λk:Nat=>D.im (.int (k:Int))
theorem Kz{n:Nat}{i:Int}(a:0<=i)(b:i<n):ixN n i=some i.toNat:=by unfold ixN;rw[if_pos a,if_pos b]
theorem Jy:∀{a:List Nat} {k x:Nat},a[k]?=some x->(x::a.eraseIdx k).Perm a
 |[],k,x,h=>by simp at h
 |y::r,0,x,h=>by simp at h;subst h;exact .refl _
 |y::r,k+1,x,h=>by
  have ih:=Jy (a:=r) (k:=k) (x:=x) (by simpa using h);exact(List.Perm.swap y x _).trans (ih.cons y)
theorem erase_map{α β:Type}(f:α->β):∀(l:List α) (k:Nat),(l.map f).eraseIdx k=(l.eraseIdx k).map f
 |[],k=>rfl
 |y::r,0=>rfl
 |y::r,k+1=>by simp[erase_map f r k]
theorem Ql{a b:List Nat}{k x:Nat}(h:a[k]?=some x):(b++[x]++a.eraseIdx k).Perm (b++a):=by
 rw[append_assoc];exact List.Perm.append_left b (Jy h)
theorem LN(s1 s4' s5 s6 s7 s8:Option D):∀(ds:List D) (τ:Tp) (left seq:List Nat) (z:Option D),left.length=ds.length->seq.length+ds.length<=1000->∃(τ':Tp) (seq':List Nat) (z':Option D),
 BZ (AF 4) JE [] ds [some (.mu 1),s1,some (.mu 2),some (.mu 3),z,s5,s6,s7,s8] (tp τ++[.lst (Am left),.lst (Am seq)]) =
  some (.nx [some (.mu 1),s1,some (.mu 2),some (.mu 3),z',s5,s6,s7,s8],tp τ'++[.lst [],.lst (Am seq')])/\seq'.Perm (seq++left)
 |[],τ,left,seq,z,hl,_=>by
  have:left=[]:=length_eq_zero_iff.mp hl;subst this;exact⟨τ,seq,z,DR,by simp⟩
 |d::ds,τ,left,seq,z,hl,hs=>by
  simp only[length_cons]at hl hs;obtain⟨r,τ1,d1⟩:=draw τ (left.length:Int) (by omega) (by omega);have a1:=d1.lo;have b1:=d1.hi;have hr:r.toNat<left.length:=by omega
  have e1:left[r.toNat]?=some left[r.toNat]:=by simp[hr]
  obtain⟨τ',seq',z',q,pm⟩:=LN s1 s4' s5 s6 s7 s8 ds τ1 (left.eraseIdx r.toNat) (seq++[left[r.toNat]]) (some d) (by rw[List.length_eraseIdx,if_pos hr];omega) (by simp;omega);refine⟨τ',seq',z',?_,pm.trans (Ql e1)⟩;rw[<- q];refine CS (ls1:=[some (.mu 1),s1,some (.mu 2),some (.mu 3),some d,s5,s6,s7,s8]) rfl ?_ (AV _);have ge:=d1.gen (ls:=[some (.mu 1),s1,some (.mu 2),some (.mu 3),some d,s5,s6,s7,s8]) (hd:=tp τ++[.lst (Am left),.lst (Am seq)]) (rest:=[.lst (Am left),.lst (Am seq)]) (m:=A1 (A0 0) (A1 (mCB (f1 true C1) (A1 (A0 2) A4)) A4)) (by simp[C1]);have rg:Fa r:=DD (by omega) (by omega);have ix:ixN left.length r=some r.toNat:=Kz a1 (by omega);have hf:E4 seq.length:=Ca (by omega);have er:(Am left).eraseIdx r.toNat=Am (left.eraseIdx r.toNat):=erase_map _ _ _;simp only[JE,OM,PZ,Cf,List.getElem?_cons_zero,List.getElem?_cons_succ,bind_some,M3,Z4,WN,El,ge,FC,TU,rg,if_true,length_map,ix,List.getElem?_map,e1,map_some,er,YI,NG,hf,YH];simp
def P8(p:Int×Int):I:=.tup [.int p.1,.int p.2]
def Along(seq:List Nat)(ps:List (Int×Int)):Prop:=∀p∈ps,∃i j a b:Nat,i<j/\seq[i]?=some a/\seq[j]?=some b/\p=((a:Int),(b:Int))
theorem Qt{seq:List Nat}{i a:Nat}(h:seq[i]?=some a):atI (Am seq) (i:Int)=some (.im (.int (a:Int))):=Fj rfl (by simp[h])
theorem HN(seq:List Nat)(dense:Int)(hd:0<dense/\dense<=100)(s1 z4:Option D)(i:Nat):∀(k j:Nat) (τ:Tp) (ps:List (Int×Int)) (z:Option D),i<j->j+k<=seq.length->ps.length+k<=1000->Along seq ps->∃(τ':Tp) (ps':List (Int×Int)) (z':Option D),
 BZ (AF 8) FW [] (An (j:Int) k) [some (.mu 1),s1,some (.mu 2),some (.mu 3),z4,some (.im (.int dense)),some (.mu 4),some (.im (.int (i:Int))),z] (tp τ++[.lst [],.lst (Am seq),.lst (ps.map Aw)]) =
  some (.nx [some (.mu 1),s1,some (.mu 2),some (.mu 3),z4,some (.im (.int dense)),some (.mu 4),some (.im (.int (i:Int))),z'],tp τ'++[.lst [],.lst (Am seq),.lst (ps'.map Aw)])/\ps'.length<=ps.length+k/\Along seq ps'
 |0,j,τ,ps,z,_,_,_,ho=>⟨τ,ps,z,DR,le_refl _,ho⟩
 |k+1,j,τ,ps,z,hij,hj,hl,ho=>by
  obtain⟨r,τ1,d1⟩:=draw τ dense hd.1 (by omega);have e1:=d1.v;have hj1:j<seq.length:=by omega
  have hi1:i<seq.length:=by omega
  have sj:seq[j]?=some seq[j]:=by simp[hj1]
  have si:seq[i]?=some seq[i]:=by simp[hi1]
  have ai:=Qt si;have aj:=Qt sj;have ej:((j:Int)+1)=((j+1:Nat):Int):=by omega
  have hf:E4 ps.length:=Ca (by omega);by_cases h:r=0
  .obtain⟨τ',ps',z',q,l,o⟩:=HN seq dense hd s1 z4 i k (j+1) τ1 (ps++[((seq[i]:Int),(seq[j]:Int))]) (some (.im (.int (j:Int)))) (by omega) (by omega) (by simp;omega) (by
    intro p hp;rcases mem_append.mp hp with hp|hp
    .exact ho p hp
    .simp at hp;exact⟨i,j,_,_,hij,si,sj,hp⟩)
   refine⟨τ',ps',z',?_,by simp at l;omega,o⟩;rw[<- q,An,ej];refine CS (ls1:=[some (.mu 1),s1,some (.mu 2),some (.mu 3),z4,some (.im (.int dense)),some (.mu 4),some (.im (.int (i:Int))),some (.im (.int (j:Int)))]) rfl ?_ (AV _);simp only[FW,KN,GT,HB];rw[e1 _ _ _ _ rfl rfl];simp only[bind_some,JR,Ii,Xx,h,decide_true,Bool.false_eq_true,if_false,if_true,OM,PZ,Cf,List.getElem?_cons_zero,List.getElem?_cons_succ,M3,WM,El,Xq,HB,Pa,Tl,WN,ai,aj,map_some,FC,length_cons,length_nil,Nat.reduceAdd,Dv,O6,NG,length_map,hf];simp[Aw,tp]
  .obtain⟨τ',ps',z',q,l,o⟩:=HN seq dense hd s1 z4 i k (j+1) τ1 ps (some (.im (.int (j:Int)))) (by omega) (by omega) (by omega) ho;refine⟨τ',ps',z',?_,by omega,o⟩;rw[<- q,An,ej];refine CS (ls1:=[some (.mu 1),s1,some (.mu 2),some (.mu 3),z4,some (.im (.int dense)),some (.mu 4),some (.im (.int (i:Int))),some (.im (.int (j:Int)))]) rfl ?_ (AV _);simp only[FW,KN,GT,HB];rw[e1 _ _ _ _ rfl rfl];simp[h]
theorem Iq(seq:List Nat)(hn:seq.length<=8)(dense:Int)(hd:0<dense/\dense<=100)(z4:Option D):∀(k i:Nat) (τ:Tp) (ps:List (Int×Int)) (z7 z8:Option D),i+k=seq.length->ps.length<=7*i->Along seq ps->∃(τ':Tp) (ps':List (Int×Int)) (z7' z8':Option D),
 BZ (AF 7) (Bl (Fv (A1 (mOp AW (A0 7) (mC (.int 1))) (A1 (A0 1) A4))) (AF 8) FW) [] (An (i:Int) k) [some (.mu 1),some (.im (.int (seq.length:Int))),some (.mu 2),some (.mu 3),z4,some (.im (.int dense)),some (.mu 4),z7,z8] (tp τ++[.lst [],.lst (Am seq),.lst (ps.map Aw)]) =
  some (.nx [some (.mu 1),some (.im (.int (seq.length:Int))),some (.mu 2),some (.mu 3),z4,some (.im (.int dense)),some (.mu 4),z7',z8'],tp τ'++[.lst [],.lst (Am seq),.lst (ps'.map Aw)])/\ps'.length<=7*seq.length/\Along seq ps'
 |0,i,τ,ps,z7,z8,hi,hl,ho=>⟨τ,ps,z7,z8,DR,by omega,ho⟩
 |k+1,i,τ,ps,z7,z8,hi,hl,ho=>by
  obtain⟨τ1,ps1,y8,q1,l1,o1⟩:=HN seq dense hd (some (.im (.int (seq.length:Int)))) z4 i (seq.length-(i+1)) (i+1) τ ps z8 (by omega) (by omega) (by omega) ho;obtain⟨τ',ps',x7,x8,q,l,o⟩:=Iq seq hn dense hd z4 k (i+1) τ1 ps1 (some (.im (.int (i:Int)))) y8 (by omega) (by omega) o1;refine⟨τ',ps',x7,x8,?_,l,o⟩;have ei:((i:Int)+1)=((i+1:Nat):Int):=by omega
  rw[<- q,An,ei];refine CS (ls1:=[some (.mu 1),some (.im (.int (seq.length:Int))),some (.mu 2),some (.mu 3),z4,some (.im (.int dense)),some (.mu 4),some (.im (.int (i:Int))),z8]) rfl ?_ (AV _);have rg:Mj ((i+1:Nat):Int) (seq.length:Int):=Uh (by omega) (by omega) (by omega) (by omega);have en:((seq.length:Int)-((i+1:Nat):Int)).toNat=seq.length-(i+1):=by omega
  have e0:(Fv (A1 (mOp AW (A0 7) (mC (.int 1))) (A1 (A0 1) A4))) [some (.mu 1),some (.im (.int (seq.length:Int))),some (.mu 2),some (.mu 3),z4,some (.im (.int dense)),some (.mu 4),some (.im (.int (i:Int))),z8] (tp τ++[.lst [],.lst (Am seq),.lst (ps.map Aw)])=some ((An ((i+1:Nat):Int) (seq.length-(i+1)),[]),tp τ++[.lst [],.lst (Am seq),.lst (ps.map Aw)]):=by
   simp only[OL,El,HB,Cf,List.getElem?_cons_zero,List.getElem?_cons_succ,bind_some,JR,AW,Ii,Gx,Yq,map_some,FC,ei,rg,if_true,en]
  rw[KO,e0];exact q1
theorem TX(xs:List D)(k:Nat):Bm xs none (some (k:Int))=xs.take k:=by
 unfold Bm;rw[HT.sIx_none,HT.sIx_nat,Nat.sub_zero,List.drop_zero];by_cases h:k<=xs.length
 .rw[min_eq_left h]
 .rw[Nat.min_eq_right (by omega),List.take_length,take_of_length_le (by omega)]
theorem Gj(n:Nat):An 0 n=Am (List.range n):=by
 refine ext_getElem? λi=>?_;by_cases h:i<n
 .rw[Jr h];simp[h]
 .rw[List.getElem?_eq_none (by simp;omega),List.getElem?_eq_none (by simp;omega)]
theorem Along.pok{seq:List Nat}{n:Nat}(hp:seq.Perm (List.range n))(hn:n<=1000){ps:List (Int×Int)}(h:Along seq ps):∀p∈ps,pok p:=by
 intro p hp';obtain⟨i,j,a,b,_,ea,eb,rfl⟩:=h p hp';have ha:a<n:=by simpa using hp.mem_iff.mp (mem_of_getElem? ea)
 have hb:b<n:=by simpa using hp.mem_iff.mp (mem_of_getElem? eb)
 exact⟨by show -1000000000<=(a:Int);omega,by show(a:Int)<=1000000000;omega,by show -1000000000<=(b:Int);omega,by show(b:Int)<=1000000000;omega⟩
theorem NY(τ:Tp)(n:Nat)(hn:n<=8):∃(seq:List Nat) (ps:List (Int×Int)) (τ':Tp) (g:Hd),seq.Perm (List.range n)/\Along seq ps/\ps.length<=16/\ps.Pairwise (λa b=>Bs a<=Bs b)/\F_wishes [.mu 1,.im (.int (n:Int))] (tp τ)=some (.im (.tup (ps.map P8)),tp τ'++g):=by
 obtain⟨τ1,seq,z4,q1,pm⟩:=LN (some (.im (.int (n:Int)))) none none none none none (An 0 n) τ (List.range n) [] none (by simp) (by simp;omega);simp only[nil_append]at pm;have sl:seq.length=n:=by simpa using pm.length_eq
 obtain⟨r,τ2,d2⟩:=draw τ1 3 (by decide) (by decide);have e2:=d2.c;have a2:=d2.lo;have b2:=d2.hi;have hx:∃x:Int,(0<x/\x<=100)/\atI [D.im (.int 2),.im (.int 3),.im (.int 6)] r=some (.im (.int x)):=by
  have:r=0∨r=1∨r=2:=by omega
  rcases this with rfl|rfl|rfl
  .exact⟨2,by omega,CN _ _⟩
  .exact⟨3,by omega,Ec _ _ _⟩
  .exact⟨6,by omega,IB _ _ _ _⟩
 obtain⟨dense,hd,hx⟩:=hx;obtain⟨τ3,ps,z7,z8,q3,l3,o3⟩:=Iq seq (by omega) dense hd z4 n 0 τ2 [] none none (by omega) (by simp) (λp h=>by cases h);have pk:=o3.pok pm (by omega);have sub:((CJ ps).take 16).Sublist (CJ ps):=List.take_sublist _ _;refine⟨seq,(CJ ps).take 16,τ3,[.lst [],.lst (Am seq),.lst (ps.map Aw),.lst ((CJ ps).map Aw)],pm,λp h=>o3 p ((Ge ps).mem_iff.mp (sub.subset h)),by simp;omega,(HV ps).sublist sub,?_⟩;have rgl:Jn (n:Int):=Mi (by omega) (by omega);have rg:Fa (n:Int):=DD (by omega) (by omega);have c64:ps.length<64/\∀q∈ps,pok q:=⟨by omega,pk⟩
 have cut:=TX ((CJ ps).map Aw) 16;have mk:Av (((CJ ps).map Aw).take 16)=.im (.tup (((CJ ps).take 16).map P8)):=by
  have:((CJ ps).map Aw).take 16=(((CJ ps).take 16).map P8).map D.im:=by rw[<- map_take,map_map];rfl
  rw[this,Ax]
 rw[sl]at q3;rw[show((0:Nat):Int)=0 from rfl]at q3;simp only[map_nil]at q1 q3;rw[<- Gj]at q1;have cut':Bm ((CJ ps).map Aw) none (some 16)=((CJ ps).map Aw).take 16:=cut;have tp5:(tp τ3++[MO.lst [],MO.lst (Am seq),MO.lst (ps.map Aw),MO.lst ((CJ ps).map Aw)])[5]?=some (.lst ((CJ ps).map Aw)):=rfl;simp only[F_wishes,mkF,cC,Cg,CV,KL,RQ,El,FC,Cf,map_cons,map_nil,length_cons,length_nil,cons_append,nil_append,List.replicate,Nat.reduceAdd,Nat.reduceSub,if_true,List.getElem?_cons_zero,List.getElem?_cons_succ,bind_some,rgl,toNat_natCast,EJ,map_some,set_cons_succ,set_cons_zero,QB,NE,ND,length_append,append_assoc,KO,RW,rg,q1];rw[RV];simp only[NE,El,JR,FC,bind_some,length_cons,length_nil,Nat.reduceAdd,DT,if_true];rw[e2 _ _ _ rfl];simp only[bind_some,hx,map_some,EJ,set_cons_succ,set_cons_zero,append_assoc,cons_append,nil_append,QB,length_append,length_cons,length_nil,Nat.reduceAdd,rg,if_true,toNat_natCast,q3,KK,NF,Xs,KL,PY,RX,Cf,List.getElem?_cons_zero,List.getElem?_cons_succ,WM,P7,if_pos c64,RU,OK,JR,M3,tp5,cut',B9,mk]
abbrev intD(xs:List Int):List D:=xs.map λx=>D.im (.int x)
theorem RO(xs:List Int):CU (intD xs)=some (xs.map V.int):=by
 induction xs with
 |nil=>rfl
 |cons x r ih=>simp[CU,Ez]at ih ⊢;exact ih
theorem TJ(x:Int)(xs:List Int):inV (.int x) (xs.map V.int)=decide (x∈xs):=by
 unfold inV
 induction xs with
 |nil=>simp
 |cons y r ih=>
  simp only[map_cons,any_cons,ih,mem_cons];have:eqV (V.int y) (V.int x)=decide (x=y):=by
   unfold eqV;by_cases h:x=y
   .subst h;simp
   .have h':¬ y=x:=λz=>h z.symm;simp[h,h']
  rw[this,Bool.decide_or]
theorem in_ints{hd:Hd}{d:D}{xs:List Int}(x:Int)(neg:Bool)(h:BV hd d=some (intD xs)):gIn neg (.im (.int x)) d hd=some (.im (.bl (if neg then !decide (x∈xs)else decide (x∈xs))),hd):=by
 simp only[gIn,Ez,bind_some,h,RO,map_some,TJ]
theorem g1(hd:Hd)(x y:MO):(hd++[x,y])[hd.length+1]?=some y:=by simp
theorem t1(hd:Hd)(x y z:MO):(hd++[x,y]).set (hd.length+1) z=hd++[x,z]:=by simp
end Bd
namespace L2
open PySem PySem.Spec PyProof.Rows
section
variable{ls:Ls}{hd:Hd}{QE:D->Hd->Prop}{QI:List D×Gd->Hd->Prop}{ma:ME}{n:MG}{ta:MT}{mi:MI}{m:MA}
theorem W9{d:D}{xs:List Int}{x:Int}{neg:Bool}(e1:BV hd d=some (Bd.intD xs))(q:QE (.im (.bl (if neg then !decide (x∈xs)else decide (x∈xs)))) hd):WP (gIn neg (.im (.int x)) d hd) QE:=WP.eq (Bd.in_ints x neg e1) q
theorem YF{g:Gd}{QA:List D->Hd->Prop}(P:List D->List D->Ls->Hd->Prop){ds:List D}{ls:Ls}{hd:Hd}(h:P ds [] ls hd)
 (k:∀d r es ls hd,P (d::r) es ls hd->∃ls1,n d ls hd=some ls1/\WT ta ls1 hd λc x=>if c=true then WE ma ls1 x λz y=>GOk y g/\P r (es++[z]) ls1 y else GOk x g/\P r es ls1 x)
 (z:∀es ls hd,P [] es ls hd->QA es hd):WP (BL n ta ma g ds ls hd) QA:=
 (MJ P h k).mono λzs x ⟨ls',q⟩=>z zs ls' x (by simpa using q)
theorem Be{α:Type}{g:Gd}{QA:List D->Hd->Prop}(inj:α->D)(f:α->Option D)(L:D->Ls->Prop)(l0:Ls){xs:List α}{hd:Hd}(hg:GOk hd g)
 (k:∀x∈xs,∀ls,ls=l0∨(∃d,L d ls)->∃ls1,n (inj x) ls hd=some ls1/\L (inj x) ls1/\WT ta ls1 hd λc y=>y=hd/\if c=true then ∃z,f x=some z/\WE ma ls1 hd λe y=>y=hd/\e=z else f x=none)
 (q:QA (xs.filterMap f) hd):WP (BL n ta ma g (xs.map inj) l0 hd) QA:=by
 have go:∀(xs':List α) (ls:Ls),(∀x∈xs',x∈xs)->(ls=l0∨∃d,L d ls)->BL n ta ma g (xs'.map inj) ls hd=some (xs'.filterMap f,hd):=by
  intro xs'
  induction xs' with
  |nil=>intro ls _ _;unfold BL;rfl
  |cons x r ih=>
   intro ls hs hl;obtain⟨ls1,e1,L1,c,y,e2,rfl,q⟩:=k x (hs x mem_cons_self) ls hl;have ih:=ih ls1 (λz hz=>hs z (mem_cons_of_mem _ hz)) (.inr ⟨_,L1⟩);rw[map_cons];unfold BL;rw[e1,bind_some,e2,bind_some];cases c with
   |true=>
    rw[if_pos rfl]at q;obtain⟨z,ez,e,y,e3,rfl,rfl⟩:=q;rw[if_pos rfl,e3,bind_some];dsimp only;rw[if_pos hg,ih,filterMap_cons,ez];rfl
   |false=>
    rw[if_neg Bool.false_ne_true]at q;rw[if_neg Bool.false_ne_true];dsimp only;rw[if_pos hg,ih,filterMap_cons,q]
 exact⟨_,_,go xs l0 (λ_ h=>h) (.inl rfl),q⟩
end
section
variable{K:PySem.W.Frag}{ρ ρ':List Addr}{H H':Hp}{hd hd':Hd}
def N1(neg:Bool)(ma:ME)(ml:MA):ME:=λls hd=>(ma ls hd).bind λp=>(ml ls p.2).bind λq=>match p.1 with
 |.im i=>(Ez i).bind λx=>(CU q.1).map λxs=>(.im (.bl (if neg then !inV x xs else inV x xs)),q.2)
 |_=>none
theorem Wv{neg:Bool}{ta tb:TE}{ma:ME}{ml:MA}(ha:RE K ta ma)(hb:RN K tb ml):RE K (tOp (rIn K neg) ta tb) (N1 neg ma ml):=by
 intro ρ σ H hd ls Q d hd' hR hL hm hQ;obtain⟨⟨d1,h1⟩,e1,hm⟩:=fK hm;obtain⟨⟨d2,h2⟩,e2,hm⟩:=fK hm;dsimp only at hm;split at hm
 .obtain⟨x,e3,hm⟩:=fK hm;obtain⟨xs,e4,e5⟩:=fL hm;cases e5;refine ha ρ σ H hd ls _ _ h1 hR hL e1 λρ1 H1 v1 x1 R1 r1=>?_;refine hb ρ1 σ H1 h1 ls _ d2 _ R1 (hL.ext hR x1) e2 λρ2 H2 a ys x2 R2 na oa ea r2=>?_;have r1:=r1.ext R1 x2;simp only[RD]at r1;obtain⟨rfl,f1⟩:=JQ e3 r1;obtain⟨rfl,f2⟩:=Hu e4 r2;exact⟨a,ys,rfl,.inl (SqL.of ea),f1,f2,hQ ρ2 H2 _ (x1.trans R1 x2) R2 (by simp[RD,RI])⟩
 .cases hm
theorem Ux(K:PySem.W.Frag){X:Cx}{a b:Expr}{ta tb:TE}{ma:ME}{ml:MA}{pos:Pos}{op:CmpOp}{neg:Bool}(ho:OpR X (compareOp op) (rIn K neg))(ha:QE K X a ta ma)(hb:QN K X b tb ml)(hm:behindInMarks op b=false:=by first|exact GL _|rfl):QT K X (.Compare a [op] [b] pos) (IJ (tOp (rIn K neg) ta tb)) (AU (N1 neg ma ml)):=⟨IV ho ha.p hb.p hm,FO (Wv ha.r hb.r)⟩
end
section
variable{ls:Ls}{hd:Hd}{ma mb:ME}{m ml:MA}{QE:D->Hd->Prop}{QA:List D->Hd->Prop}
theorem WC{neg:Bool}(h:WE ma ls hd λd x=>WA ml ls x λds y=>∃i v vs,d=.im i/\Ez i=some v/\CU ds=some vs/\QE (.im (.bl (if neg then !inV v vs else inV v vs))) y):WE (N1 neg ma ml) ls hd QE:=by
 obtain⟨d,x,e1,ds,y,e2,i,v,vs,rfl,e3,e4,q⟩:=h;exact⟨_,_,by simp only[N1,e1,bind_some,e2,e3,e4,map_some],q⟩
end
section
variable{ls:Ls}{hd:Hd}{ma:ME}{n n2:MG}{c c2:MT}{mi mi2:MI}{QE:D->Hd->Prop}
theorem Ke{k:Nat}{g:Gd}{Q:Ls->Hd->Prop}(P:List D->Ls->Hd->Prop):∀{ds:List D} {ls:Ls} {hd:Hd},P ds ls hd ->
 (∀d r ls hd,P (d::r) ls hd->∃ls1,n2 d ls hd=some ls1/\WT c2 ls1 hd λt x=>if t=true then WE ma ls1 x λz y=>WP (BH (.mu k) [z] y) λ_ u=>GOk u g/\P r ls1 u else GOk x g/\P r ls1 x) ->
 (∀ls hd,P [] ls hd->Q ls hd)->∃l h,mIn k n2 c2 ma g ds ls hd=some (l,h)/\Q l h
 |[],ls,hd,h,_,z=>⟨_,_,by unfold mIn;rfl,z _ _ h⟩
 |d::r,ls,hd,h,s,z=>by
  obtain⟨ls1,e1,t,x,e2,q⟩:=s d r ls hd h;unfold mIn;rw[e1,bind_some,e2,bind_some];cases t with
  |true=>
   rw[if_pos rfl]at q ⊢;obtain⟨z',y,e3,w,u,e4,g4,p4⟩:=q;rw[e3,bind_some,e4,bind_some];dsimp only;rw[if_pos g4];exact Ke P p4 s z
  |false=>
   rw[if_neg Bool.false_ne_true]at q ⊢;dsimp only;rw[if_pos q.1];exact Ke P q.2 s z
theorem Kb{k:Nat}{g:Gd}{Q:Hd->Prop}(P:List D->Ls->Hd->Prop):∀{ds:List D} {ls:Ls} {hd:Hd},P ds ls hd ->
 (∀d r ls hd,P (d::r) ls hd->∃ls1,n d ls hd=some ls1/\WT c ls1 hd λt x=>if t=true then WI mi2 ls1 x λp y=>∃l h,mIn k n2 c2 ma p.2 p.1 ls1 y=some (l,h)/\GOk h g/\P r l h else GOk x g/\P r ls1 x) ->
 (∀ls hd,P [] ls hd->Q hd)->∃h,FF k n c mi2 n2 c2 ma g ds ls hd=some h/\Q h
 |[],ls,hd,h,_,z=>⟨_,by unfold FF;rfl,z _ _ h⟩
 |d::r,ls,hd,h,s,z=>by
  obtain⟨ls1,e1,t,x,e2,q⟩:=s d r ls hd h;unfold FF;rw[e1,bind_some,e2,bind_some];cases t with
  |true=>
   rw[if_pos rfl]at q ⊢;obtain⟨p,y,e3,l,h,e4,g4,p4⟩:=q;rw[e3,bind_some];dsimp only;rw[e4,bind_some];dsimp only;rw[if_pos g4];exact Kb P p4 s z
  |false=>
   rw[if_neg Bool.false_ne_true]at q ⊢;dsimp only;rw[if_pos q.1];exact Kb P q.2 s z
theorem Rz{j:Nat}{ix:List Nat}(h:WI mi ls hd λp x=>∃y,FF x.length n c mi2 n2 c2 ma p.2 p.1 (Dh j ix ls) (x++[.lst []])=some y/\QE (.mu x.length) y):WE (Hq j ix mi n c mi2 n2 c2 ma) ls hd QE:=by
 obtain⟨p,x,e,y,e2,q⟩:=h;exact⟨_,_,by rw[TV,e,bind_some];dsimp only;rw[e2];rfl,q⟩
end
abbrev blD(bs:List Bool):List D:=bs.map λb=>D.im (.bl b)
inductive Ty where
 |int|bool|str|tuple|list
 deriving DecidableEq
def Ty.nm:Ty->String
 |.int=>"int" | .bool=>"bool" | .str=>"str" | .tuple=>"tuple" | .list=>"list"
def IsT(K:PySem.W.Frag)(T:Ty)(H:Hp)(v:V)(b:Bool):Prop:=
 (v=.non/\b=false)∨(∃x,v=.bl x/\b=decide (T=.int∨T=.bool))∨(∃i,v=.int i/\b=decide (T=.int))∨(∃x,v=.str x/\b=decide (T=.str)) ∨
 (∃a xs,v=.ref a/\SqL K H a xs/\b=decide (T=.list))∨∃a xs,v=.ref a/\SqT K H a xs/\b=decide (T=.tuple)
section
variable{X:Cx}{pins:List (Addr×Obj)}{σ:St}{H:Hp}{s:Shared}{A:Around}{E:Value->Shared->Prop}{Q:Value->Shared->Prop}
theorem Xk{T:Ty}{v:V}{u:Value}{b:Bool}(I:Inv X pins σ H s)(r:RelV v u)(h:IsT X.K T H v b)(q:∀tk,Q (.bool b) { s with toks:=tk }):wpAny (model X.prog X.w) A (call (.builtin "isinstance") [u,.type T.nm]) Q E s:=by
 have q0:=q s.toks;have q1:=q (s.toks+1);rcases h with⟨rfl,rfl⟩|⟨x,rfl,rfl⟩|⟨i,rfl,rfl⟩|⟨x,rfl,rfl⟩|⟨a,xs,rfl,hl,rfl⟩|⟨a,xs,rfl,ht,rfl⟩
 .cases(show u=Value.none from r);cases T
  .exact IsiPair.NoneType_int q1
  .exact IsiPair.NoneType_bool q1
  .exact IsiPair.NoneType_str q1
  .exact IsiPair.NoneType_tuple q1
  .exact IsiPair.NoneType_list q1
 .cases(show u=Value.bool x from r);cases T
  .first|exact IsiPair.bool_int q0|exact IsiPair.bool_int q1
  .first|exact IsiPair.bool_bool q0|exact IsiPair.bool_bool q1
  .exact IsiPair.bool_str q1
  .exact IsiPair.bool_tuple q1
  .exact IsiPair.bool_list q1
 .obtain⟨t,rfl⟩:=(show ∃t,u=Value.int i t from r)
  cases T
  .exact IsiPair.int_int q0
  .exact IsiPair.int_bool q1
  .exact IsiPair.int_str q1
  .exact IsiPair.int_tuple q1
  .exact IsiPair.int_list q1
 .obtain⟨t,rfl⟩:=(show ∃t,u=Value.str x t from r)
  cases T
  .exact IsiPair.str_int q1
  .exact IsiPair.str_bool q1
  .exact IsiPair.str_str q0
  .exact IsiPair.str_tuple q1
  .exact IsiPair.str_list q1
 .cases(show u=Value.ref a from r);obtain⟨its,_,⟨o,n,e,c,_,_⟩,_⟩:=I.list hl;cases T
  .exact IsiPair.list_int e c q1
  .exact IsiPair.list_bool e c q1
  .exact IsiPair.list_str e c q1
  .exact IsiPair.list_tuple e c q1
  .exact IsiPair.list_list e c q0
 .cases(show u=Value.ref a from r);obtain⟨its,_,⟨o,e,c,_⟩,_⟩:=I.tuple ht;cases T
  .exact IsiPair.tuple_int e c q1
  .exact IsiPair.tuple_bool e c q1
  .exact IsiPair.tuple_str e c q1
  .exact IsiPair.tuple_tuple e c q0
  .exact IsiPair.tuple_list e c q1
end
def SF(K:PySem.W.Frag)(T:Ty)(te:TE):TE:=λσ H Q=>te σ H λv H1=>∃b,IsT K T H1 v b/\Q (.bl b) H1
theorem XQ(K:PySem.W.Frag){X:Cx}(T:Ty){e:Expr}{te:TE}{x:Str}{p px pos:Pos}(hm:X.mg "isinstance"=none)(hmT:X.mg x=none)(hvT:bootBuiltins x=some (.type T.nm))(he:PE X e te)
 (hv:bootBuiltins "isinstance"=some (.builtin "isinstance")) (hK:X.K=K) (hg:Gl X "isinstance") (hgT:Gl X x) (hnT:x≠"__name__") (hdT:(x==("__debug__":Str))=false)
 (hs:starEach [e,.Name x px] X.env=[(false,eval e X.env),(false,eval (.Name x px) X.env)]) (hs2:starEach [.Name x px] X.env=[(false,eval (.Name x px) X.env)]):PE X (.Call (.Name "isinstance" p) [e,.Name x px] [] pos) (SF K T te):=by
 subst hK;intro pins s σ H Q I h;refine wpAny_Call_Name_kw (FA I hg hm hv ?_);have go:wpAny (model X.prog X.w) X.A (spliced (backTo pos (starEach [e,.Name x px] X.env))) (λvs s₁=>wpAny (model X.prog X.w) X.A (call (.builtin "isinstance") vs) (EP X pins σ Q) X.xe s₁) X.xe s:=by
  rw[hs];show wpAny _ _ (spliced ((false,eval e X.env)::backTo pos [(false,eval (.Name x px) X.env)])) _ _ s;refine Calls.spliced_cons (thn (he pins s σ H _ I h) λu s1 ⟨v,H1,I1,r1,b,ib,q1⟩=>?_);show wpAny _ _ (spliced ((false,eval (.Name x px) X.env)::backTo pos [])) _ _ s1;refine Calls.spliced_cons (FA I1 hgT hmT hvT ?_ hnT hdT);refine Calls.spliced_nil ?_;exact Xk I1 r1 ib λtk=>⟨.bl b,H1,I1.tok _,rfl,q1⟩
 exact PyProof.Rows.callWith_builtin1 go (by rw[hs,hs2]) (by rw[hs2];rfl)
section
variable{K:PySem.W.Frag}{ρ ρ':List Addr}{H H':Hp}{hd hd':Hd}
def isD(T:Ty)(hd:Hd):D->Option Bool
 |.im .non=>some false
 |.im (.bl _)=>some (decide (T=.int∨T=.bool))
 |.im (.int _)=>some (decide (T=.int))
 |.im (.str _)=>some (decide (T=.str))
 |.im (.tup _)=>some (decide (T=.tuple))
 |.tm _=>some (decide (T=.tuple))
 |.ro _=>some (decide (T=.list))
 |.mu n=>match hd[n]? with
  |some (.lst _)=>some (decide (T=.list))
  |_=>none
theorem Xl{T:Ty}{d:D}{v:V}{b:Bool}(hR:RH K ρ H hd)(h:RD K ρ H d v)(e:isD T hd d=some b):IsT K T H v b:=by
 cases d with
 |im i=>
  cases i with
  |non=>simp only[RD,RI]at h;subst h;simp only[isD,Option.some.injEq]at e;exact .inl ⟨rfl,e.symm⟩
  |bl c=>simp only[RD,RI]at h;subst h;simp only[isD,Option.some.injEq]at e;exact .inr (.inl ⟨c,rfl,e.symm⟩)
  |int c=>simp only[RD,RI]at h;subst h;simp only[isD,Option.some.injEq]at e;exact .inr (.inr (.inl ⟨c,rfl,e.symm⟩))
  |str c=>simp only[RD,RI]at h;subst h;simp only[isD,Option.some.injEq]at e;exact .inr (.inr (.inr (.inl ⟨c,rfl,e.symm⟩)))
  |tup is=>
   obtain⟨a,xs,rfl,q,r⟩:=h.tup (ds:=is.map .im) rfl;simp only[isD,Option.some.injEq]at e;exact .inr (.inr (.inr (.inr (.inr ⟨a,xs,rfl,q,e.symm⟩))))
 |tm ds=>
  obtain⟨a,xs,rfl,q,r⟩:=h.tup (ds:=ds) rfl;simp only[isD,Option.some.injEq]at e;exact .inr (.inr (.inr (.inr (.inr ⟨a,xs,rfl,q,e.symm⟩))))
 |ro ns=>
  obtain⟨a,xs,rfl,q,r⟩:=h.lst hR (hd:=hd) (ds:=ns.map λn=>.im (.int n)) rfl;simp only[isD,Option.some.injEq]at e;exact .inr (.inr (.inr (.inr (.inl ⟨a,xs,rfl,q,e.symm⟩))))
 |mu n=>
  simp only[isD]at e;split at e
  .next q=>
   cases e;simp only[RD]at h;obtain⟨a,hn,rfl⟩:=h;obtain⟨xs,e1,e2⟩:=hR.lst hn q;exact .inr (.inr (.inr (.inr (.inl ⟨a,xs,rfl,SqL.of e1,rfl⟩))))
  .cases e
def Ho(T:Ty)(ma:ME):ME:=λls hd=>(ma ls hd).bind λp=>(isD T p.2 p.1).map λb=>(.im (.bl b),p.2)
theorem Wu{T:Ty}{te:TE}{me:ME}(h:RE K te me):RE K (SF K T te) (Ho T me):=by
 intro ρ σ H hd ls Q d hd' hR hL hm hQ;obtain⟨⟨d1,h1⟩,e1,hm⟩:=fK hm;obtain⟨b,e2,e3⟩:=fL hm;cases e3;exact h ρ σ H hd ls _ d1 _ hR hL e1 λρ1 H1 v x1 R1 r1=>⟨b,Xl R1 r1 e2,hQ ρ1 H1 _ x1 R1 (by simp[RD,RI])⟩
theorem KU:∀T:Ty,bootBuiltins T.nm=some (.type T.nm)
 |.int=>by decide +kernel
 |.bool=>by decide +kernel
 |.str=>by decide +kernel
 |.tuple=>by decide +kernel
 |.list=>by decide +kernel
theorem Jx(K:PySem.W.Frag){X:Cx}(T:Ty){e:Expr}{te:TE}{me:ME}{x:Str}{p px pos:Pos}(hm:X.mg "isinstance"=none)(hmT:X.mg x=none)(he:QE K X e te me)(hx:bootBuiltins x=some (.type T.nm):=by first|exact KU .int|exact KU .bool|exact KU .str|exact KU .tuple|exact KU .list)(hK:X.K=K:=by rfl)(hg:Gl X "isinstance":=by rfl)(hgT:Gl X x:=by rfl)
 (hnT:x≠"__name__":=by decide) (hdT:(x==("__debug__":Str))=false:=by decide)
 (hs:starEach [e,.Name x px] X.env=[(false,eval e X.env),(false,eval (.Name x px) X.env)]:=by rfl) (hs2:starEach [.Name x px] X.env=[(false,eval (.Name x px) X.env)]:=by rfl):QE K X (.Call (.Name "isinstance" p) [e,.Name x px] [] pos) (SF K T te) (Ho T me):=
 ⟨XQ K T hm hmT hx he.p Lq hK hg hgT hnT hdT hs hs2,Wu he.r⟩
def KA(mo mi me:ME)(f:Int->Int->Int):MS:=λls hd=>(mo ls hd).bind λp=>(mi ls p.2).bind λq=>match p.1,q.1 with
 |.mu n,.im (.int i)=>match q.2[n]? with
  |some (.lst ds)=>(ixN ds.length i).bind λj=>match ds[j]? with
   |some (.im (.int x))=>(me ls q.2).bind λr=>match r.1,r.2[n]? with
    |.im (.int y),some (.lst ds')=>if ds'.length=ds.length then some (.nx ls,r.2.set n (.lst (ds'.set j (.im (.int (f x y))))))else none
    |_,_=>none
   |_=>none
  |_=>none
 |_,_=>none
def Nv:V->List V->Hp->VK->Prop:=λx vs H Q=>∃(l:Addr) (ns:List Int) (i:Int) (k:Nat),x=.ref l/\vs=[.int i]/\H l=some (.lst (ns.map V.int))/\ns[k]?=some i/\(∀m,m<k->ns[m]?≠some i)/\Q .non (upd H l (.lst ((ns.eraseIdx k).map V.int)))
theorem Qu{X:Cx}:MtM X "list.remove" Nv:=by
 intro pins s σ H x vs v us Q I rx rv h;obtain⟨l,ns,i,k,rfl,rfl,hH,hk,hno,q⟩:=h;cases rx;obtain⟨u,rfl,ru⟩:=rv.one;obtain⟨t,rfl⟩:=ru;obtain⟨z,its,n,r,hl,e⟩:=I.lstM hH;have hkn:=(List.getElem?_eq_some_iff.mp hk).1;have li:its.length=ns.length:=by rw[<- hl];simp
 have itsI:∀(m:Nat) (hm:m<its.toArray.size),∃t,its.toArray[m]=.int (ns.getD m 0) t:=by
  intro m hm;have hm':m<ns.length:=by simpa [li]using hm
  have e1:(ns.map V.int)[m]?=some (.int (ns.getD m 0)):=by simp[hm']
  obtain⟨w,hw,rw'⟩:=r.get e1;obtain⟨t,rfl⟩:=rw';refine⟨t,?_⟩;have:=hw;simp only[List.getElem_toArray];exact(List.getElem?_eq_some_iff.mp hw).2
 refine call_meets F.slot_list_remove ⟨_,e,rfl⟩ F.entry_list_remove (F.args_list_remove_2 _ _)
  (PySem.MeetsSeq.list_remove l its.toArray n (.int i t) (λy=>match y with|.int a _=>a==i|_=>false) ?_ k ?_ ?_ ?_ ?_) ⟨e,?_⟩
 .intro y hy;obtain⟨m,hm,rfl⟩:=Array.mem_iff_getElem.mp hy;obtain⟨t',e'⟩:=itsI m hm;rw[e'];exact PySem.MeetsSeq.EqGives.int _ _ _ _
 .rw[size_toArray,li];exact hkn
 .obtain⟨t',e'⟩:=itsI k (by rw[size_toArray,li];exact hkn);rw[e'];have:ns.getD k 0=i:=by simp[hkn];exact(List.getElem?_eq_some_iff.mp hk).2
  rw[this];exact beq_self_eq_true i
 .intro m hm hmk;obtain⟨t',e'⟩:=itsI m hm;rw[e'];have hm':m<ns.length:=by simpa [li]using hm
  have:=hno m hmk;have:ns.getD m 0≠i:=λz=>this (by rw[<- z];simp[hm']);simpa using this
 .rw[size_toArray];omega
 .have ev:Vals ((ns.eraseIdx k).map V.int) (its.eraseIdx k):=by
   have:=r.eraseIdx k
   rwa [show(ns.map V.int).eraseIdx k=(ns.eraseIdx k).map V.int from Bd.erase_map _ _ _]at this
  refine⟨.non,_,I.lset (its':=its.eraseIdx k) hH e ?_ ev ?_,rfl,q⟩
  .show its.toArray.eraseIdxIfInBounds k=(its.eraseIdx k).toArray;rw[List.eraseIdxIfInBounds_toArray]
  .rw[length_map];have:=List.length_eraseIdx_le ns k;rw[length_map]at z;omega
open Classical in
def Ig:D->List D->Hd->Option (D×Hd)
 |.mu n,[.im (.int i)],hd=>match hd[n]? with
  |some (.lst ds)=>(BS ds).bind λns=>if i∈ns then some (.im .non,hd.set n (.lst ((ns.eraseIdx (ns.idxOf i)).map λx=>.im (.int x))))else none
  |_=>none
 |_,_,_=>none
theorem RDs.ints:∀{ns:List Int} {xs:List V},RDs K ρ H (ns.map λx=>D.im (.int x)) xs->xs=ns.map V.int
 |[],xs,h=>by simpa only[RDs,map_nil]using h
 |n::ns,xs,h=>by
  simp only[map_cons,RDs,RD,RI]at h;obtain⟨x,r,rfl,rfl,t⟩:=h;rw[RDs.ints t];rfl
theorem QQ:RM K Nv Ig:=by
 intro ρ H hd d v ds vs Q z hd' hR h1 h2 hf hQ;unfold Ig at hf;split at hf
 .next n i=>
  split at hf
  .next es q=>
   obtain⟨ns,e0,hf⟩:=fK hf;split at hf
   .next c=>
    cases hf;simp only[RD]at h1;obtain⟨a,hn,rfl⟩:=h1;simp only[RDs,RD,RI]at h2;obtain⟨x,r,rfl,rfl,rfl⟩:=h2;obtain⟨xs,f1,f2⟩:=hR.lst hn q;rw[E9 e0]at f2;have ex:=f2.ints;subst ex;have hk:ns.idxOf i<ns.length:=List.idxOf_lt_length_iff.mpr c;have e1:ns[ns.idxOf i]?=some i:=by simp[hk]
    obtain⟨R2,x2⟩:=hR.put hn (o:=.lst ((ns.eraseIdx (ns.idxOf i)).map λx=>.im (.int x))) (ho:=.lst ((ns.eraseIdx (ns.idxOf i)).map V.int)) ⟨_,rfl,FS⟩;refine⟨a,ns,i,ns.idxOf i,rfl,rfl,f1,e1,λm hm e=>?_,hQ ρ _ _ x2 R2 (by simp[RD,RI])⟩;obtain⟨hm',e'⟩:=List.getElem?_eq_some_iff.mp e;have h4:ns.idxOf i<=m:=by
     have:∀(L:List Int) (m:Nat) (h:m<L.length),L[m]=i->L.idxOf i<=m:=by
      intro L
      induction L with
      |nil=>intro m h;simp at h
      |cons y r ih=>
       intro m h e;rw[List.idxOf_cons];by_cases hy:y=i
       .simp[hy]
       .have hy':(y==i)=false:=by simpa using hy
        rw[hy'];cases m with
        |zero=>exact absurd e hy
        |succ m=>exact Nat.succ_le_succ (ih m (by simpa using h) (by simpa using e))
     exact this ns m hm' e'
    omega
   .cases hf
  .cases hf
 .cases hf
theorem Qk(K:PySem.W.Frag){X:Cx}(hK:X.K=K:=by rfl):Y8 X (Kp K):=by
 subst hK;intro pins s σ H o i ov iv Q I ro ri h;obtain⟨p,xs,k,z,rfl,rfl,hq,he,q⟩:=h;cases ro;obtain⟨t,rfl⟩:=ri;obtain⟨its,r,pl,hz⟩:=I.list hq;obtain⟨j,h1,h2,h3,h4,h5⟩:=LF he;obtain⟨w,ew,rw'⟩:=r.get h2;have hl:=r.length;have hn:=GQ;have fin:EP X pins σ Q w s:=⟨z,H,I,rw',q⟩
 by_cases h0:0<=k
 .have hj:k.toNat=j:=by
   rw[seqIndex_of h0 h5]at h1;exact Option.some.inj h1
  exact wpAny_getItem_list pl.isList h0 (by omega) (by rw[hj];simpa using ew) fin
 .have hj:(k+(its.toArray.size:Int)).toNat=j:=by
   rw[seqIndex_neg (by omega) h4]at h1;rw[size_toArray,<- hl];exact Option.some.inj h1
  exact wpAny_getItem_list_neg pl.isList (by omega) (by rw[size_toArray]<;>omega) (by omega) (by rw[hj];simpa using ew) fin
theorem Vw(x:Ext ρ H ρ' H'){n:Nat}{a:Addr}(h:ρ[n]?=some a):ρ'[n]?=some a:=by
 obtain⟨r,rfl,_⟩:=x.pre;rw[List.getElem?_append_left (List.getElem?_eq_some_iff.mp h).1];exact h
theorem Uc{to ti te:TE}{mo mi me:ME}{f:Int->Int->Int}(ho:RE K to mo)(hi:RE K ti mi)(he:RE K te me):RS K (On to ti te (Kp K) (ipI f) Js) (KA mo mi me f):=by
 intro ρ σ H hd0 ls E fl hd' hR hL hm hQ;obtain⟨⟨d1,h1⟩,e1,hm⟩:=fK hm;obtain⟨⟨d2,h2⟩,e2,hm⟩:=fK hm;dsimp only at hm;split at hm
 .split at hm
  .next ds q=>
   obtain⟨j,e4,hm⟩:=fK hm;split at hm
   .next x ex=>
    obtain⟨⟨d3,h3⟩,e3,hm⟩:=fK hm;dsimp only at hm;split at hm
    .next y ds' q'=>
     split at hm
     .next el=>
      cases hm;refine ho ρ σ H hd0 ls _ _ h1 hR hL e1 λρ1 H1 v1 x1 R1 r1=>?_;refine hi ρ1 σ H1 h1 ls _ _ _ R1 (hL.ext hR x1) e2 λρ2 H2 v2 x2 R2 r2=>?_;have r1':=r1.ext R1 x2;simp only[RD]at r1';obtain⟨a,hn,rfl⟩:=r1';simp only[RD,RI]at r2;subst r2;obtain⟨xs,l1,l2⟩:=R2.lst hn q;obtain⟨w,ew,rw'⟩:=l2.get ex;simp only[RD,RI]at rw';subst rw';refine⟨a,xs,_,.int x,rfl,rfl,SqL.of l1,?_,?_⟩
      .unfold atI;rw[l2.len];rw[e4];exact ew
      refine he ρ2 σ H2 h2 ls _ _ h3 R2 (hL.ext hR (x1.trans R1 x2)) e3 λρ3 H3 v3 x3 R3 r3=>?_;simp only[RD,RI]at r3;subst r3;refine⟨x,y,rfl,rfl,?_⟩;have hn3:=Vw x3 hn;obtain⟨xs3,l3,l4⟩:=R3.lst hn3 q';obtain⟨R4,x4⟩:=R3.put hn3 (o:=.lst _) (ho:=.lst (xs3.set j (.int (f x y)))) ⟨_,rfl,l4.set j (d:=.im (.int (f x y))) (by simp[RD,RI])⟩;have x13:=(x1.trans R1 x2).trans R2 x3;exact⟨a,xs3,_,j,rfl,rfl,l3,by rw[l4.len,el];exact e4,hQ ρ3 _ (x13.trans R3 x4) R4 σ ((hL.ext hR x13).ext R3 x4)⟩
     .cases hm
    .cases hm
   .cases hm
  .cases hm
 .cases hm
theorem Uz(K:PySem.W.Frag){X:Cx}{o i e:Expr}{to ti te:TE}{mo mi me:ME}{op:Operator}{f:Int->Int->Int}{tpos pos:Pos}(ho:QE K X o to mo)(hi:QE K X i ti mi)(he:QE K X e te me)(hp:PIp X op (ipI f))(hK:X.K=K:=by rfl)
 (ha:∀ov iv new,augStore i ov iv new=(do holding [new,ov,iv] (setItem ov iv new);release [new,ov,iv] [];pure .next):=by intros;rfl):QS K X (.AugAssign (.Subscript o i tpos) op e pos) (On to ti te (Kp K) (ipI f) Js) (KA mo mi me f):=
 ⟨VB ho.p hi.p (Qk K hK) he.p hp MZ ha,Uc ho.r hi.r he.r⟩
end
section
variable{ls:Ls}{hd:Hd}{ma mo mi me:ME}{QE:D->Hd->Prop}{QS:Fl->Hd->Prop}
theorem JZ{T:Ty}(h:WE ma ls hd λd x=>∃b,isD T x d=some b/\QE (.im (.bl b)) x):WE (Ho T ma) ls hd QE:=by
 obtain⟨d,x,e,b,e2,q⟩:=h;exact⟨_,_,by simp only[Ho,e,bind_some,e2,map_some],q⟩
theorem Pz{k:Nat}{i:Int}{ns:List Int}(e1:hd[k]?=some (.lst (ns.map λx=>.im (.int x))))(c:i∈ns)(q:QE (.im .non) (hd.set k (.lst ((ns.eraseIdx (ns.idxOf i)).map λx=>.im (.int x))))):WP (Ig (.mu k) [.im (.int i)] hd) QE:=by
 refine⟨_,_,?_,q⟩;show(match hd[k]? with
  |some (.lst ds)=>(BS ds).bind λns=>open Classical in if i∈ns then some (D.im .non,hd.set k (.lst ((ns.eraseIdx (ns.idxOf i)).map λx=>.im (.int x))))else none
  | _=>none)=_
 rw[e1];simp[c]
end
end L2
namespace HT
open PySem PySem.Spec PyProof.Rows
section
variable{prog:Program}{w:World}{A:Around}{E:Value->Shared->Prop}{s:Shared}
theorem getItem_tuple_whole{t sl:Addr}{items:Array Value}{vl vu:Value}{lo hi:Option Int}{Q:Value->Shared->Prop}(ht:IsTup s.heap t items)(hs:s.heap.IsSliceOf sl vl vu .none)(pl:IsPart vl lo)(pu:IsPart vu hi)
 (hw:sIx items.size 0 lo=0/\sIx items.size items.size hi=items.size) (h:Q (.ref t) s):wpAny (model prog w) A (getItem (.ref t) (.ref sl)) Q E s:=by
 obtain⟨os,hos,hcs,hds⟩:=id hs;have hTs:s.TypeIs (.ref sl) "slice":=⟨os,hos,hcs⟩
 unfold getItem
 try with_reducible refine wpAny_holding ?_
 first|refine wpAny_bind (wpAny_pure ?_)|skip
 refine wpAny_bind (wpAny_sequenceKey ht.typeIs (by decide) ?_);refine wpAny_bind (wpAny_callSpecial?_slot (name:=Str.ofString "__getitem__") ht.typeIs PyProof.Rows.slot_tuple_getitem
  (wpAny_call_entry PyProof.Rows.slot_tuple_getitem ht.typeIs entry_tuple_getitem ?_ (args_tuple_getitem _ _)))
 show wpAny _ _ (Builtin.Tuple.tupleItemsOf (.ref t) >>= _) _ _ s;refine wpAny_bind (tupleItemsOf_ ht ?_);refine wpAny_bind (wpAny_typeOf hTs ?_);rw[if_pos (by decide)];refine wpAny_bind (FZ hs pl pu ?_);have hno:(((sIx items.size 0 lo:Nat):Int)==0&&(1:Int)==1&&(sIx items.size items.size hi-sIx items.size 0 lo)==items.size)=true:=by
  rw[hw.1,hw.2];simp
 show wpAny _ _ (if(((sIx items.size 0 lo:Nat):Int)==0&&(1:Int)==1&&(sIx items.size items.size hi-sIx items.size 0 lo)==items.size)=true then _ else _) _ _ s;rw[if_pos hno];refine wpAny_bind ?_;unfold Builtin.Tuple.tupleIsExact;refine wpAny_bind (wpAny_typeOf ht.typeIs (wpAny_pure ?_));rw[if_pos (by decide)];exact wpAny_bind (wpAny_rule (wpAny_pure ⟨_,rfl,wpAny_pure h⟩))
end
end HT
namespace L2
open PySem PySem.Spec PyProof.Rows
section
variable{X:Cx}
def Sf(K:PySem.W.Frag):V->Option Int->Option Int->Hp->VK->Prop:=λx lo hi H Q=>Mr K x lo hi H Q∨∃a xs,x=.ref a/\SqT K H a xs/\(HT.sIx xs.length 0 lo=0/\HT.sIx xs.length xs.length hi=xs.length)/\Q (.ref a) H
theorem UU(K:PySem.W.Frag)(hK:X.K=K:=by rfl):SlR X (Sf K):=by
 subst hK;intro pins s σ H x v vl vu lo hi sl Q I rx hs pl pu h;rcases h with h|⟨a,xs,rfl,hx,hw,q⟩
 .exact QK pins s σ H x v vl vu lo hi sl Q I rx hs pl pu h
 cases rx;obtain⟨its,r,ht,hz⟩:=I.tuple hx;have hlen:its.toArray.size=xs.length:=by rw[size_toArray];exact r.length.symm
 refine⟨"tuple",_,PyProof.Rows.slot_tuple_getitem.lookup,ht.typeIs,?_⟩;exact HT.getItem_tuple_whole ht hs pl pu (by rw[hlen];exact hw) ⟨.ref a,H,I,rfl,q⟩
end
section
variable{K:PySem.W.Frag}{ρ ρ':List Addr}{H H':Hp}{hd hd':Hd}
def Kv(m:ME)(ml mh:MO1):ME:=λls hd=>(m ls hd).bind λp=>(ml ls p.2).bind λl=>(mh ls l.2).bind λh=>(Ao p.1).map λds=>(Av (Bm ds l.1 h.1),h.2)
theorem Wr{t:TE}{tl th:TO}{m:ME}{ml mh:MO1}(h:RE K t m)(hl:RO1 K tl ml)(hh:RO1 K th mh):RE K (tSl (Sf K) t tl th) (Kv m ml mh):=by
 intro ρ σ H hd ls Q d hd' hR hL hm hQ;obtain⟨⟨d1,h1⟩,e1,hm⟩:=fK hm;obtain⟨⟨d2,h2⟩,e2,hm⟩:=fK hm;obtain⟨⟨d3,h3⟩,e3,hm⟩:=fK hm;obtain⟨ds,e4,e5⟩:=fL hm;cases e5;dsimp only at e2 e3 e4;refine h ρ σ H hd ls _ d1 h1 hR hL e1 λρ1 H1 v1 x1 R1 r1=>?_;refine hl ρ1 σ H1 h1 ls _ d2 h2 R1 (hL.ext hR x1) e2 λρ2 H2 x2 R2=>?_;refine hh ρ2 σ H2 h2 ls _ d3 _ R2 (hL.ext hR (x1.trans R1 x2)) e3 λρ3 H3 x3 R3=>?_;obtain⟨a,xs,rfl,q,r⟩:=((r1.ext R1 x2).ext R2 x3).tup e4;by_cases c:HT.sIx ds.length 0 d2=0/\HT.sIx ds.length ds.length d3=ds.length
 .refine .inr ⟨a,xs,rfl,q,by rw[r.len];exact c,?_⟩;have e6:Bm ds d2 d3=ds:=by unfold Bm;rw[c.1,c.2];simp
  rw[e6]at hQ;exact hQ ρ3 _ _ ((x1.trans R1 x2).trans R2 x3) R3 (CF q r)
 .refine .inl ⟨a,xs,rfl,q,by rw[r.len];exact c,λp hp=>?_⟩;obtain⟨R4,x4⟩:=R3.hid (ho:=.tup (Fi xs d2 d3)) hp;exact hQ ρ3 _ _ (((x1.trans R1 x2).trans R2 x3).trans R3 x4) R4 (CF (SqT.of Af) ((LD r).ext R3 x4))
theorem Qd(K:PySem.W.Frag){X:Cx}{e:Expr}{te:TE}{me:ME}{lo hi:Option Expr}{tl th:TO}{ml mh:MO1}{p2 pos:Pos}(h:QE K X e te me)(hl:QO K X lo tl ml)(hh:QO K X hi th mh)(hK:X.K=K:=by rfl):QE K X (.Subscript e (.Slice lo hi none p2) pos) (tSl (Sf K) te tl th) (Kv me ml mh):=⟨JF (UU K hK) h.p hl.p hh.p,Wr h.r hl.r hh.r⟩
theorem Q3{ma:ME}{ls:Ls}{QE:D->Hd->Prop}{ml mh:MO1}(h:WE ma ls hd λd x=>WO ml ls x λl y=>WO mh ls y λu z=>∃ds,Ao d=some ds/\QE (Av (Bm ds l u)) z):WE (Kv ma ml mh) ls hd QE:=by
 obtain⟨d,x,e1,l,y,e2,u,z,e3,ds,e4,q⟩:=h;exact⟨_,_,by simp only[Kv,e1,bind_some,e2,e3,e4,map_some],q⟩
end
section
variable{X:Cx}
theorem W3{prog:Program}{w:World}{A:Around}{E:Value->Shared->Prop}{s:Shared}{t b:Addr}{vs ws:List Value}{Q:Value->Shared->Prop}(ht:IsTup s.heap t vs.toArray)(hb:IsTup s.heap b ws.toArray)(hv:vs=[])
 (h1:Q (.ref b) s):wpAny (model prog w) A (binaryOp .Add (.ref t) (.ref b)) Q E s:=by
 obtain⟨⟨cls,dd,data,sl⟩,ho,hc,n,hd⟩:=id ht;obtain⟨⟨cls2,dd2,data2,sl2⟩,ho2,hc2,n2,hd2⟩:=id hb;simp only at hc hd hc2 hd2;subst hc hd hc2 hd2;exact concat_meets ⟨_,ho,rfl⟩ ⟨_,ho2,rfl⟩ noFill_tuple_add seq_tuple_add PySem.F.slot_tuple_add PySem.F.entry_tuple_add (PySem.F.args_tuple_add_2 _ _)
  (tuple_addW0 t b vs.toArray ws.toArray n n2 dd dd2 sl sl2 (by simp[hv])) ⟨ho,ho2,h1⟩
def U0(K:PySem.W.Frag):R2:=λx y H Q=>∃a b ys,x=.ref a/\y=.ref b/\SqT K H a []/\SqT K H b ys/\Q (.ref b) H
theorem GK(K:PySem.W.Frag)(hK:X.K=K:=by rfl):OpR X (binaryOp .Add) (U0 K):=by
 subst hK;intro pins s σ H x y v u Q I rx ry h;obtain⟨a,b,ys,rfl,rfl,ha,hb,q⟩:=h;cases rx;cases ry;obtain⟨its,r1,p1,_⟩:=I.tuple ha;obtain⟨its2,r2,p2,_⟩:=I.tuple hb;have:its=[]:=by cases r1;rfl
 exact W3 p1 p2 this ⟨.ref b,H,I,rfl,q⟩
def Ie:D->D->Hd->Option (D×Hd):=λd e hd=>(Ao d).bind λa=>(Ao e).bind λb=>if a=[]then some (Av b,hd)else none
theorem GF{K:PySem.W.Frag}:RB K (U0 K) Ie:=by
 intro ρ H hd d e v u Q z hd' hR h1 h2 hf hQ;unfold Ie at hf;obtain⟨a,e1,hf⟩:=fK hf;obtain⟨b,e2,hf⟩:=fK hf;split at hf
 .next c=>
  cases hf;subst c;obtain⟨p,xs,rfl,q1,r1⟩:=h1.tup e1;obtain⟨p2,ys,rfl,q2,r2⟩:=h2.tup e2;have:xs=[]:=by simpa [RDs]using r1
  subst this;exact⟨p,p2,ys,rfl,rfl,q1,q2,hQ ρ H _ .refl hR (CF q2 r2)⟩
 .cases hf
end
section
variable{prog:Program}{w:World}{A:Around}{E:Value->Shared->Prop}{s:Shared}
theorem Nj{l:Addr}{vs:List Value}{Q:List Value->Shared->Prop}(hl:IsTup s.heap l vs.toArray)
 (h:Q vs { s with heap:=(s.heap.push (seqObj "list" #[] 0)).update s.heap.objs.size (Obj.mapSeq (·++vs.toArray)) }) (hsz:vs.length<=sizeLine:=by size_fits):
 wpAny (model prog w) A (collect (.ref l)) Q E s:=by
 obtain⟨o,ho,hc,n,hd⟩:=id hl;unfold collect;refine wpAny_bind (wpAny_runValue (codeAny_builtin entry_proto_collect' ?_));show wpAny _ _ (do again (.builtin "list.__iadd__" ⟨[<- newList [],.ref l],[]⟩)) _ _ s;refine wpAny_bind (wpAny_newList (wpAny_pure ⟨Code.quiet_builtin _ (by decide +kernel),codeAny_builtin entry_list_iadd' ?_⟩));show wpAny _ _ (Builtin.List.listExtendWith (.ref s.heap.objs.size) (.ref l) (.ref s.heap.objs.size)) _ _ { s with heap:=s.heap.push (seqObj "list" #[] 0) };unfold Builtin.List.listExtendWith;have ho':(s.heap.push (seqObj "list" #[] 0)).get? l=some o:=Heap.get?_push_of_some _ ho;refine wpAny_bind (wpAny_typeOf (T:="tuple") ⟨o,ho',hc⟩ ?_);have ht:(Value.type "tuple"==Value.type "tuple")=true:=by rfl
 rw[if_pos (by rw[ht];simp)];refine wpAny_bind (listItems_at ho' hd ?_);refine wpAny_bind (listItems_at (xs:=#[]) (n:=0) (Heap.get?_push_size _ rfl) rfl ?_);rw[if_neg (by simp)];refine wpAny_bind (listUpdate_at (xs:=#[]) (n:=0) (Heap.get?_push_size _ rfl) rfl ?_ (zero_le _) (by show(#[]++vs.toArray).size<=sizeLine+1;simp only[Array.size_append,size_toArray,length_nil];omega));refine wpAny_pure ?_;show wpAny (model prog w) A (do
  let o <- load s.heap.objs.size
  match o.data with
  |.seq xs _=>pure xs.toList
  | _=>unsupported "internal:collect") Q E { s with heap:=(s.heap.push (seqObj "list" #[] 0)).update s.heap.objs.size (Obj.mapSeq (·++vs.toArray)) }
 refine wpAny_bind (wpAny_load (get?_update_seq (Heap.get?_push_size _ rfl) _) ?_);show wpAny _ _ (pure ((#[]:Array Value)++vs.toArray).toList) Q E _;rw[show((#[]:Array Value)++vs.toArray).toList=vs by simp];exact wpAny_pure h
end
end L2
namespace L2
abbrev KI:=HA AW Ie
end L2
namespace L2
open PySem PySem.Spec PyProof.Rows PySem.W
inductive KeysOk(h:Heap):List Value->List Int->Prop
 |kI {ks:List Value} {kz:List Int}:IntsAre ks kz->KeysOk h ks kz
 |kP {ks:List Value} {ps:List (Int×Int)}:ks.length=ps.length->(∀(i:Nat) (v:Value) (p:Int×Int),ks[i]?=some v->ps[i]?=some p->PairAt h v p)->(∀p∈ps,pok p)->KeysOk h ks (ps.map Bs)
theorem KeysOk.len{h:Heap}{ks:List Value}{kz:List Int}(K:KeysOk h ks kz):kz.length=ks.length:=by
 cases K with
 |kI i=>have:=i.length;omega
 |kP hl _ _=>simp[hl]
theorem Gs:∀{ks:List Value} {kz:List Int} {i:Nat},IntsAre ks kz->i<ks.length->∃t,ks.getD i .none=.int (kz.getD i 0) t
 |_,_,0,.cons ..,_=>⟨_,rfl⟩
 |_,_,i+1,.cons _ _ h,hi=>by
  obtain⟨t,e⟩:=Gs (i:=i) h (by simpa using hi);exact⟨t,by simpa using e⟩
section
variable{prog:Program}{w:World}{A:Around}{E:Value->Shared->Prop}{s:Shared}
theorem TC{ks:List Value}{kz:List Int}(K:KeysOk s.heap ks kz)(h2:2<=ks.length){Q:SortKind->Shared->Prop}
 (h:∀κ,(∀(i j:Nat) (C:Bool->Shared->Prop),i<ks.length->j<ks.length->C (decide (kz.getD i 0<kz.getD j 0)) s->wpAny (model prog w) A (keyLt' κ (ks.getD i .none) (ks.getD j .none)) C (λ_ _=>False) s)->Q κ s):
 wpAny (model prog w) A (keyKind' ks.toArray) Q E s:=by
 cases K with
 |kI hk=>
  rw[ksk_kind (kz:=kz) (by simpa using hk) (by simpa using h2)];refine wpAny_pure (h _ λi j C hi hj hC=>?_);obtain⟨t,e1⟩:=Gs hk hi;obtain⟨u,e2⟩:=Gs hk hj;rw[e1,e2];exact kat_lt_int hC
 |@kP ps hl hp hok=>
  obtain⟨fs,t1,t2,t3⟩:=Kf hl hp;have tT:∀f∈fs,Looks (model prog w) s.heap (typeOf f) (Value.type "int"):=λf hf=>by
   obtain⟨i,t,rfl⟩:=t3 f hf;exact .of_pure rfl
  refine kat_kind t1 (by omega) tT rfl (h _ λi j C hi hj hC=>?_);have pi:ps[i]?=some (ps.getD i (0,0)):=by simp[show i<ps.length by omega]
  have pj:ps[j]?=some (ps.getD j (0,0)):=by simp[show j<ps.length by omega]
  have vi:ks[i]?=some (ks.getD i Value.none):=by simp[hi]
  have vj:ks[j]?=some (ks.getD j Value.none):=by simp[hj]
  have ei:(ps.map Bs).getD i 0=Bs (ps.getD i (0,0)):=by simp[show i<ps.length by omega]
  have ej:(ps.map Bs).getD j 0=Bs (ps.getD j (0,0)):=by simp[show j<ps.length by omega]
  rw[ei,ej]at hC;exact OC (hp i _ _ vi pi) (hp j _ _ vj pj) (hok _ (mem_of_getElem? pi)) (hok _ (mem_of_getElem? pj)) hC
theorem Vj{vs:List Value}{kz:List Int}(hl:kz.length=vs.length){p:Array Nat}(pa:PAr vs.length p)(hs:STo (λi=>kz.getD i 0) p vs.length):KskOut false kz vs (p.toList.map λi=>vs.getD i Value.none):=by
 have sz:=pa.size;refine⟨p.toList.map λi=>(kz.getD i 0,vs.getD i Value.none),?_,by rw[map_map];rfl,?_⟩
 .have e:kz.zip vs=(List.range vs.length).map λi=>(kz.getD i 0,vs.getD i Value.none):=by
   refine ext_getElem? λi=>?_;by_cases hi:i<vs.length
   .have hi2:i<kz.length:=by omega
    rw[(List.getElem?_zip_eq_some (z:=(kz[i],vs[i]))).mpr ⟨by simp[hi2],by simp[hi]⟩];simp[hi,hi2]
   .rw[List.getElem?_eq_none (by simp;omega),List.getElem?_eq_none (by simp;omega)]
  rw[e];have:=Array.perm_iff_toList_perm.mp pa;simpa using this.map _
 .rw[pairwise_map,List.pairwise_iff_getElem];intro i j hi hj hij;simp only[Array.length_toList]at hi hj;have:=hs i j (by omega) (by omega);unfold kv at this;simpa [Array.getD,hi,hj]using this
theorem Vk{a kS:Addr}{e e1:Nat}{ks vs:List Value}{kz:List Int}{P:PySem.Fin->Shared->Prop}(nk:s.heap.get? kS=some (seqObj "list" ks.toArray e))(na:s.heap.get? a=some (seqObj "list" #[] e1))(hka:kS≠a)(K:KeysOk s.heap ks kz)(hl:ks.length=vs.length)(h64:vs.length<64)
 (h:∀out:List Value,KskOut false kz vs out->P (.done (.ret .none)) { s with heap:=(s.heap.update kS (Obj.mapSeq λ_=>#[])).update a (Obj.mapSeq λ_=>out.toArray) }):
 wpAny (model prog w) A (ksk_end a false vs.toArray e1 (.ref kS) ks.toArray) P E s:=by
 have hz:kz.length=vs.length:=by have:=K.len;omega
 have s1:=Heap.SameBut.update s.heap kS (Obj.mapSeq λ_=>(#[]:Array Value));have na1:(s.heap.update kS (Obj.mapSeq λ_=>(#[]:Array Value))).get? a=some (seqObj "list" #[] e1):=(s1.2 a hka.symm).trans na;have tail:∀(st:SortSt) (out:List Value),(arrOf st).map (·.2)=out.toArray->out.length=vs.length->failedOf st=none->KskOut false kz vs out->wpAny (model prog w) A (ksk_tail a false e1 (.ref kS) st) P E s:=by
  intro st out ho hlo hf so;unfold ksk_tail;dsimp only;refine wpAny_bind (listUpdate_at nk rfl ?_ (by simp[sizeLine_eq];omega) (zero_le _));refine wpAny_bind (wpAny_letGo ?_);refine wpAny_bind (seqEpoch_at na1 rfl ?_);simp only[Bool.false_eq_true,if_false];rw[ho];refine wpAny_bind (listUpdate_at na1 rfl ?_ (zero_le _) (by rw[size_toArray,sizeLine_eq];omega));rw[hf];simp only[bne_self_eq_false,Bool.false_eq_true,if_false];exact wpAny_pure (h out so)
 unfold ksk_end;simp only[Bool.false_eq_true,if_false];by_cases h2:vs.toArray.size<2
 .rw[if_pos h2,if_pos h2];refine wpAny_bind (wpAny_pure ?_);rw[StateT.run_pure];refine wpAny_bind (wpAny_pure ?_);dsimp only;refine tail _ vs ?_ rfl rfl ⟨kz.zip vs,.refl _,?_,?_⟩
  .show(ks.toArray.zip vs.toArray).map (·.2)=vs.toArray;apply Array.toList_inj.mp;simp only[Array.toList_map,Array.toList_zip];exact map_snd_zip (by omega)
  .exact(map_snd_zip (by omega)).symm
  .have hzl:(kz.zip vs).length<2:=by simp at h2 ⊢;omega
   cases hh:kz.zip vs with
   |nil=>exact .nil
   |cons z r=>
    cases r with
    |nil=>exact List.pairwise_singleton _ _
    |cons y t=>rw[hh]at hzl;exact absurd hzl (by simp)
 .rw[if_neg h2,if_neg h2];have h2':2<=vs.length:=by simp at h2;omega
  refine wpAny_bind (TC K (by omega) λκ cmp=>?_);have hsz:(ks.toArray.zip vs.toArray).size=vs.length:=by simp[hl]
  have it:∀i,i<vs.length->kas_item (ks.toArray.zip vs.toArray) i=(ks.getD i .none,vs.getD i .none):=λi hi=>by
   unfold kas_item;have h1:i<ks.length:=by omega
   have h3:i<(ks.toArray.zip vs.toArray).size:=by omega
   have e:(ks.toArray.zip vs.toArray).getD i (Value.none,Value.none)=(ks.toArray.zip vs.toArray)[i]:=by simp only[Array.getD,h3,dite_true];rfl
   have e2:(ks.toArray.zip vs.toArray)[i]=(ks[i],vs[i]):=by rw[Array.getElem_zip];simp
   rw[e,e2];simp[h1,hi]
  have est:SortSt.mk' κ (ks.toArray.zip vs.toArray) #[] 7 none=kas_st κ (ks.toArray.zip vs.toArray) (List.toArray (List.range vs.length)):=by
   unfold kas_st;rw[<- hsz,kas_range]
  have ask:(kas_sort vs.length).kasWp (kas_cmp prog w A κ (ks.toArray.zip vs.toArray)) (λp s'=>s'=s/\PAr vs.length p/\STo (λi=>kz.getD i 0) p vs.length) s:=by
   refine PWp.wp (n:=vs.length) (r:=λi=>kz.getD i 0) (P:=λs'=>s'=s) (λi j C s' hi hj e hC=>?_) ((No (by omega)).mono λp z s' e=>⟨e,z.1,z.2⟩) rfl;subst e;unfold kas_cmp;rw[it i hi,it j hj];exact cmp i j C (by omega) (by omega) (hC _ rfl)
  have run:=kas_runs (E:=E) (Q:=λ_ st' s'=>∃p:Array Nat,arrOf st'=p.map (kas_item (ks.toArray.zip vs.toArray))/\failedOf st'=none/\s'=s/\PAr vs.length p/\STo (λi=>kz.getD i 0) p vs.length) h2' h64 (λp st' s' x1 x2 x3 x4=>⟨p,x2,x3,x4⟩) ask;rw[<- est]at run;refine wpAny_bind (wpAny_mono run ?_ λ_ _ e=>e);rintro⟨⟨⟩,st'⟩ s' ⟨p,har,hf,rfl,pa,so⟩;dsimp only;refine tail st' (p.toList.map λi=>vs.getD i Value.none) ?_ ?_ hf (Vj hz pa so)
  .rw[har];apply Array.toList_inj.mp;simp only[Array.toList_map,map_map,List.toList_toArray];refine map_congr_left λi hi=>?_;have hi':i<vs.length:=by
    have:=(Array.perm_iff_toList_perm.mp pa).mem_iff.mp hi;simpa using this
   exact congrArg Prod.snd (it i hi')
  .simp[pa.size]
end
def Ic(G:Hp->Prop)(tb:TE)(cap:St):List Int->Hp->(List V->Hp->Prop)->Prop
 |[],H,Q=>Q [] H
 |n::r,H,Q=>G H/\tb (some (.int n)::cap) H λk H1=>Ic G tb cap r H1 λks H2=>Q (k::ks) H2
def Io(K:PySem.W.Frag)(H:Hp)(ks:List V)(kz:List Int):Prop:=ks=kz.map V.int∨∃ps:List (Int×Int),kz=ps.map Bs/\(∀p∈ps,pok p)/\ks.length=ps.length/\∀(i:Nat) (k:V) (p:Int×Int),ks[i]?=some k->ps[i]?=some p->∃x,k=.ref x/\SqT K H x [.int p.1,.int p.2]
def JT(kz ns ms:List Int):Prop:=∃zs:List (Int×Int),zs.Perm (kz.zip ns)/\zs.Pairwise (λa b=>a.1<=b.1)/\ms=zs.map (·.2)
def Ex:Value->Int
 |.int n _=>n
 |_=>0
theorem N8:∀{vs:List Value} {ns:List Int},IntsAre vs ns->vs.map Ex=ns
 |_,_,.nil=>rfl
 |_,_,.cons _ _ h=>by rw[map_cons,N8 h];rfl
theorem N9:∀{vs:List Value} {ns:List Int},IntsAre vs ns->∀v∈vs,∃t,v=.int (Ex v) t
 |_,_,.nil,v,h=>by cases h
 |_,_,.cons _ _ h,v,hv=>by
  rcases mem_cons.mp hv with rfl|hv
  .exact⟨_,rfl⟩
  .exact N9 h v hv
theorem Fy:∀{xs:List V} {vs:List Value} {ns:List Int},xs=ns.map V.int->Vals xs vs->IntsAre vs ns
 |_,_,[],e,h=>by subst e;cases h;exact .nil
 |_,_,n::r,e,h=>by
  subst e;cases h with
  |cons a b=>obtain⟨t,rfl⟩:=a;exact .cons n t (Fy rfl b)
theorem Ja:∀{vs:List Value},(∀v∈vs,∃t,v=Value.int (Ex v) t)->Vals ((vs.map Ex).map V.int) vs
 |[],_=>.nil
 |v::r,h=>by
  refine .cons ?_ (Ja λw hw=>h w (mem_cons_of_mem _ hw));obtain⟨t,e⟩:=h v mem_cons_self;exact⟨t,e⟩
theorem YZ{kz ns:List Int}{vs out:List Value}(hi:IntsAre vs ns)(so:KskOut false kz vs out):JT kz ns (out.map Ex)/\∀v∈out,∃t,v=Value.int (Ex v) t:=by
 obtain⟨zs,pm,rfl,pw⟩:=so;refine⟨⟨zs.map λz=>(z.1,Ex z.2),?_,?_,by rw[map_map,map_map];rfl⟩,?_⟩
 .have:=pm.map λz:Int×Value=>(z.1,Ex z.2)
  have e:((kz.zip vs).map λz:Int×Value=>(z.1,Ex z.2))=kz.zip ns:=by
   rw[<- N8 hi,List.zip_map_right];rfl
  rwa [e]at this
 .rw[pairwise_map];exact pw.imp λh=>by simpa using h
 .intro v hv;obtain⟨z,hz,rfl⟩:=mem_map.mp hv;have:=pm.mem_iff.mp hz;exact N9 hi _ (of_mem_zip this).2
section
variable{X:Cx}{pins:List (Addr×Obj)}{σ:St}{H:Hp}{s:Shared}{a:Addr}
theorem Inv.adopt{o:HO}(I:Inv X pins σ H s)(f:FpOk X pins H a)(h0:X.s₀.heap.objs.size<=a)(new:ObjOk X.prog X.w (upd H a o) s.heap a o):Inv X pins σ (upd H a o) s:=by
 obtain⟨hn,hL,hfs,_,hc,hp⟩:=f;have nb:∀b u,H b=some u->b≠a:=λb u e=>Ak e hn;have n0:∀b o,X.s₀.heap.get? b=some o->b≠a:=λb o e=>ne_of_lt (lt_of_lt_of_le (Heap.lt_size e) h0);refine⟨I.ok,I.os,I.bare,⟨I.base.keep,I.base.slot,λb o e n hx=>?_,I.base.there,λb xs e=>?_,λb o u e=>?_,λb ps e=>?_⟩,I.loc,I.cell,?_,λx c e=>?_,λp hp'=>?_,λb u e=>?_,I.len⟩
 .rw[AJ (n0 b o e)];exact I.base.free b o e n hx
 .have:=I.base.tups b xs e;rw[AJ (nb b _ this)];exact this
 .have:=I.base.frzs b o u e;rw[AJ (nb b _ this)];exact this
 .obtain⟨m,e1⟩:=I.base.tbls b ps e;exact⟨m,by rw[AJ (nb b _ e1)];exact e1⟩
 .rw[AJ (λz=>hL z.symm)];exact I.free
 .rw[AJ (hc x c e)];exact I.freeC x c e
 .obtain⟨q1,q2,q3⟩:=I.pin p hp';exact⟨q1,by rw[AJ (hp p hp')];exact q2,q3⟩
 .by_cases z:b=a
  .subst z;rw[Af]at e;cases e;exact new
  .rw[AJ z]at e;exact(I.hok b u e).stay (λ_ _ _ q=>q) (λd q=>by rw[AJ (nb d _ q)];exact q) λd xs q=>by rw[AJ (nb d _ q)];exact q
theorem Vi(I:Inv X pins σ H s){ks:List V}{kz:List Int}{us:List Value}(k:Io X.K H ks kz)(r:Vals ks us):KeysOk s.heap us kz:=by
 rcases k with rfl|⟨ps,rfl,hok,hl,hp⟩
 .exact .kI (Fy rfl r)
 .refine .kP (by rw[<- r.length];exact hl) (λi v p e1 e2=>?_) hok;have hi:i<ks.length:=by rw[hl];exact(List.getElem?_eq_some_iff.mp e2).1
  have ek:ks[i]?=some ks[i]:=by simp[hi]
  obtain⟨x,ex,sq⟩:=hp i _ p ek e2;obtain⟨v',ev,rel⟩:=J1 r ek;rw[e1]at ev;cases ev;rw[ex]at rel;have rel:v=Value.ref x:=rel;subst rel;obtain⟨jts,rj,⟨o,ho,hc,n,hd⟩,_⟩:=I.tuple sq;cases rj with
  |cons r1 t1=>
   cases t1 with
   |cons r2 t2=>
    cases t2;obtain⟨t,rfl⟩:=r1;obtain⟨t',rfl⟩:=r2;exact⟨x,o,t,t',n,rfl,ho,hc,hd⟩
end
section
variable{X:Cx}{pins:List (Addr×Obj)}{σ:St}{H:Hp}{s:Shared}
theorem Inv.turn1{b:Addr}{o:Obj}{h':Heap}{t':Nat}(I:Inv X ((b,o)::pins) σ H s)(f:FpOk X pins H b)(hs:Heap.SameBut b s.heap h'):Inv X pins σ H { s with heap:=h',toks:=t' }:=by
 have J:Inv X pins σ H s:=I.pins_of λp hp=>I.pin p (mem_append_right _ (mem_cons_of_mem _ hp));obtain⟨hn,hL,_,h1,h2,h3⟩:=f;exact J.turned (λc u n e=>(hs.2 c n).trans e) hn hL h1 h2 h3
theorem FpOk.more{b c:Addr}{o:Obj}(f:FpOk X pins H b)(h:c≠b):FpOk X ((c,o)::pins) H b:=by
 obtain⟨a1,a2,a3,a4,a5,a6⟩:=f;refine⟨a1,a2,a3,a4,a5,λp hp=>?_⟩;rcases mem_append.mp hp with q|q
 .exact a6 p (mem_append_left _ q)
 .rcases mem_cons.mp q with rfl|q
  .exact h
  .exact a6 p (mem_append_right _ q)
theorem Inv.repin{b:Addr}{o:Obj}(I:Inv X pins σ H s)(f:FpOk X pins H b)(e:s.heap.get? b=some o)(hd:∀v,o.data≠.cell v):Inv X ((b,o)::pins) σ H s:=
 I.pins_of λp hp=>by
  rcases mem_cons.mp hp with rfl|hp
  .exact⟨e,f.1,f.2.1,f.2.2.1,hd⟩
  .exact I.pin p (mem_append_right _ hp)
theorem Op{l:Value}{f:Addr}{ns:List Int}{G:Hp->Prop}{tb:TE}{cap:St}{Q:VK}{E:Value->Shared->Prop}(I:Inv X pins σ H s)(h64:ns.length<64)
 (hcol:∀(Q:List Value->Shared->Prop) (E:Value->Shared->Prop),(∀(g:Heap) (tk:Nat) (vs:List Value),(∀b o,s.heap.get? b=some o->g.get? b=some o)->IntsAre vs ns->Q vs { s with heap:=g,toks:=tk })->wpAny (model X.prog X.w) X.A.in1 (collect l) Q E s)
 (turn:∀(pins':List (Addr×Obj)) (H1:Hp) (s1:Shared) (n:Int) (u:Value) (Q1:VK),(∀p∈pins,p∈pins')->Inv X pins' σ H1 s1->RelV (.int n) u->G H1->tb (some (.int n)::cap) H1 Q1->wpAny (model X.prog X.w) X.A.in1.in1 (call (.ref f) [u]) (EP X pins' σ Q1) (λ_ _=>False) s1)
 (h:Ic G tb cap ns H λks H3=>∃kz,Io X.K H3 ks kz/\∀p ms,H3 p=none->JT kz ns ms->Q (.ref p) (upd H3 p (.lst (ms.map V.int)))):
 wpAny (model X.prog X.w) X.A (call (.builtin "sorted") [l] [(Str.ofString "key",.ref f)]) (EP X pins σ Q) E s:=by
 refine call_function_entry_kw kind_sorted plain_sorted entry_sorted (ksk_s1 _ _) ?_;unfold Builtin.«sorted»;refine wpAny_bind (m:=checkCount "sorted" 1 1 _) (wpAny_pure ?_);refine wpAny_bind (hcol _ _ λg tk vs keep0 hi=>?_)
 replace I:Inv X pins σ H { s with heap:=g,toks:=tk }:=I.kept (t':=tk) keep0
 clear hcol;generalize { s with heap:=g,toks:=tk }=s at I ⊢;clear keep0 g tk;have line:vs.length<=sizeLine:=by have:=hi.length;rw[sizeLine_eq];omega
 have h64:vs.length<64:=by have:=hi.length;omega
 refine wpAny_bind (wpAny_newList ?_ line);show wpAny _ _ _ _ _ { s with heap:=s.heap.push (seqObj "list" vs.toArray 0) };have hoL:(s.heap.push (seqObj "list" vs.toArray 0)).get? s.heap.objs.size=some (seqObj "list" vs.toArray 0):=Heap.get?_push_size _ rfl;have keep1:∀b o,s.heap.get? b=some o->(s.heap.push (seqObj "list" vs.toArray 0)).get? b=some o:=λb o q=>Heap.get?_push_of_some _ q;have sz1:(s.heap.push (seqObj "list" vs.toArray 0)).objs.size=s.heap.objs.size+1:=by rw[size_push']
 generalize s.heap.push (seqObj "list" vs.toArray 0)=h1 at hoL keep1 sz1 ⊢;have fa:∀H',H' s.heap.objs.size=none->FpOk X pins H' s.heap.objs.size:=λH' hn=>I.fpOk (le_refl _) hn;have fk:∀H',H' (s.heap.objs.size+2)=none->FpOk X pins H' (s.heap.objs.size+2):=λH' hn=>I.fpOk (by omega) hn;refine wpAny_bind (wpAny_holding (wpAny_call_entry_kw slot_list_sort ⟨_,hoL,rfl⟩ entry_list_sort ?_ (ksk_l1 _ _)));show wpAny (model X.prog X.w) X.A.in1.in1 (Builtin.«list.sort» ⟨[.ref (s.heap.objs.size)],[(Str.ofString "key",.ref f)]⟩) _ _ _;rw[ksk_t1];have u1:=Heap.SameBut.update h1 (s.heap.objs.size) (Obj.mapSeq λ_=>(#[]:Array Value));obtain⟨e1,ho1⟩:∃e1,(h1.update (s.heap.objs.size) (Obj.mapSeq λ_=>(#[]:Array Value))).get? (s.heap.objs.size)=some (seqObj "list" #[] e1):=⟨_,get?_update_seq hoL λ_=>#[]⟩
 have sz2:(h1.update (s.heap.objs.size) (Obj.mapSeq λ_=>(#[]:Array Value))).objs.size=s.heap.objs.size+1:=by rw[Heap.size_update,sz1]
 have keep2:∀b o,s.heap.get? b=some o->(h1.update (s.heap.objs.size) (Obj.mapSeq λ_=>(#[]:Array Value))).get? b=some o:=λb o q=>(u1.2 b (ne_of_lt (Heap.lt_size q))).trans (keep1 b o q);unfold ksk_tree;refine wpAny_bind (listItems_at hoL rfl ?_);refine wpAny_bind (listUpdate_at hoL rfl ?_ (by rw[size_toArray,sizeLine_eq];omega) (zero_le _));refine wpAny_bind (seqEpoch_at ho1 rfl ?_);generalize h1.update (s.heap.objs.size) (Obj.mapSeq λ_=>(#[]:Array Value))=h2 at ho1 sz2 keep2 ⊢;refine wpAny_bind (wpAny_newTuple ?_ (by show vs.length<=_;exact line));refine wpAny_bind (wpAny_newList ?_ (zero_le _));have sz3:(h2.push (seqObj "tuple" vs.toArray 0)).objs.size=s.heap.objs.size+2:=by rw[size_push',sz2]
 have okS:((h2.push (seqObj "tuple" vs.toArray 0)).push (seqObj "list" #[] 0)).get? (s.heap.objs.size+2)=some (seqObj "list" #[] 0):=by rw[<- sz3];exact Heap.get?_push_size _ rfl
 have oa4:((h2.push (seqObj "tuple" vs.toArray 0)).push (seqObj "list" #[] 0)).get? (s.heap.objs.size)=some (seqObj "list" #[] e1):=Heap.get?_push_of_some _ (Heap.get?_push_of_some _ ho1);have keep4:∀b o,s.heap.get? b=some o->((h2.push (seqObj "tuple" vs.toArray 0)).push (seqObj "list" #[] 0)).get? b=some o:=λb o q=>Heap.get?_push_of_some _ (Heap.get?_push_of_some _ (keep2 b o q));have ekS:∀o:Obj,Value.ref ((({ s with heap:=h2.push o }:Shared)).heap.objs.size)=Value.ref (h2.push o).objs.size:=λ_=>rfl;refine wpAny_holding ?_;have goal:∀kS:Addr,kS=s.heap.objs.size+2->wpAny (model X.prog X.w) X.A.in1.in1 (ksk_rest (s.heap.objs.size) (.ref f) false vs.toArray e1 (.ref kS)) (λfin s'=>∃v,fin=PySem.Fin.done (.ret v)/\wpAny (model X.prog X.w) X.A.in1 (ret (.ref (s.heap.objs.size))) (λfin s'=>∃v,fin=PySem.Fin.done (.ret v)/\EP X pins σ Q v s') E s') E { s with heap:=(h2.push (seqObj "tuple" vs.toArray 0)).push (seqObj "list" #[] 0) }:=by
  intro kS ek;rw[ek];have fresh0:H (s.heap.objs.size)=none/\H (s.heap.objs.size+2)=none:=⟨I.hok.fresh (by omega),I.hok.fresh (by omega)⟩
  have I4:Inv X pins σ H { s with heap:=(h2.push (seqObj "tuple" vs.toArray 0)).push (seqObj "list" #[] 0) }:=I.kept (t':=s.toks) keep4;have nak:s.heap.objs.size≠s.heap.objs.size+2:=by omega
  have I5:=(I4.repin (fk H fresh0.2) okS (λv z=>by cases z)).repin ((fa H fresh0.1).more nak.symm) oa4 (λv z=>by cases z);unfold ksk_rest;refine wpAny_bind (wpAny_rule ?_)
  first
   |rw[List.forIn_toArray]
   |(rw[<- Array.forIn_toList];simp only[List.toList_toArray])
   |rw[<- Array.forIn_toList]
  refine wpAny_bind (ksk_fold (λi s'=>∃(H':Hp) (kA:Array Value) (e:Nat) (ks:List V),Inv X ((s.heap.objs.size,seqObj "list" #[] e1)::(s.heap.objs.size+2,seqObj "list" kA e)::pins) σ H' s'/\Vals ks kA.toList/\kA.size=i /\
   Ic G tb cap (ns.drop i) H' λks' H3=>∃kz,Io X.K H3 (ks++ks') kz/\∀p ms,H3 p=none->JT kz ns ms->Q (.ref p) (upd H3 p (.lst (ms.map V.int)))) vs 0 _ ⟨H,#[],0,[],I5,.nil,rfl,h⟩ ?step ?done)
  case step=>
   rintro j x s' hx ⟨H',kA,e,ks,J,rk,hsz,hgo⟩;simp only[Nat.zero_add]at hsz hgo ⊢;have hj:j<vs.length:=(List.getElem?_eq_some_iff.mp hx).1;have hjn:j<ns.length:=by have:=hi.length;omega
   have enx:ns[j]?=some ns[j]:=by simp[hjn]
   have edr:ns.drop j=ns[j]::ns.drop (j+1):=drop_eq_getElem_cons hjn;rw[edr]at hgo;obtain⟨hG,hgo⟩:=hgo;have rx:RelV (.int ns[j]) x:=by
    obtain⟨t,et⟩:=Gs hi hj;have:vs.getD j .none=x:=by simp[List.getD,hx]
    rw[this]at et;have:ns.getD j 0=ns[j]:=by simp[hjn]
    rw[this]at et;exact⟨t,et⟩
   refine wpAny_bind (wpAny_attempt (wpAny_mono (turn _ H' s' ns[j] x _ (λp hp=>mem_cons_of_mem _ (mem_cons_of_mem _ hp)) J rx hG hgo) (λv s'' he=>?_) λ_ _ hF=>hF.elim));obtain⟨k,H2,J2,r2,hgo2⟩:=he;dsimp only;have pk:=J2.pin (s.heap.objs.size+2,seqObj "list" kA e) (mem_append_right _ (mem_cons_of_mem _ mem_cons_self));have pa:=J2.pin (s.heap.objs.size,seqObj "list" #[] e1) (mem_append_right _ mem_cons_self);have u2:=Heap.SameBut.update s''.heap (s.heap.objs.size+2) (Obj.mapSeq (·.push v));obtain⟨c2,hc2⟩:∃c2,(s''.heap.update (s.heap.objs.size+2) (Obj.mapSeq (·.push v))).get? (s.heap.objs.size+2)=some (seqObj "list" (kA.push v) c2):=⟨_,get?_update_seq pk.1 (·.push v)⟩
   refine wpAny_bind (listUpdate_at pk.1 rfl ?_ (by rw[sizeLine_eq];omega) (le_trans (Nat.le_of_eq (Array.size_push ..)) (by rw[sizeLine_eq];omega)));have J3:Inv X ((s.heap.objs.size+2,seqObj "list" kA e)::pins) σ H2 s'':=J2.pins_of λp hp=>J2.pin p (mem_append_right _ (mem_cons_of_mem _ hp));have J4:Inv X pins σ H2 { s'' with heap:=s''.heap.update (s.heap.objs.size+2) (Obj.mapSeq (·.push v)) }:=J3.turn1 (t':=s''.toks) (fk H2 pk.2.1) u2;have oa:(s''.heap.update (s.heap.objs.size+2) (Obj.mapSeq (·.push v))).get? (s.heap.objs.size)=some (seqObj "list" #[] e1):=(u2.2 _ nak).trans pa.1;have J5:=(J4.repin (fk H2 pk.2.1) hc2 (λv z=>by cases z)).repin ((fa H2 pa.2.1).more nak.symm) oa (λv z=>by cases z);refine wpAny_pure ⟨rfl,H2,kA.push v,c2,ks++[k],J5,?_,by simp[hsz],?_⟩
   .rw[Array.toList_push];exact rk.append (.cons r2 .nil)
   .simpa [append_assoc]using hgo2
  case done=>
   rintro s' ⟨H',kA,e,ks,J,rk,hsz,hgo⟩;have hdr:ns.drop (0+vs.length)=[]:=List.drop_of_length_le (by have:=hi.length;omega);rw[hdr]at hgo;obtain⟨kz,kv,fin⟩:∃kz,Io X.K H' (ks++[]) kz/\∀p ms,H' p=none->JT kz ns ms->Q (.ref p) (upd H' p (.lst (ms.map V.int))):=hgo;rw[append_nil]at kv;have pk:=J.pin (s.heap.objs.size+2,seqObj "list" kA e) (mem_append_right _ (mem_cons_of_mem _ mem_cons_self));have pa:=J.pin (s.heap.objs.size,seqObj "list" #[] e1) (mem_append_right _ mem_cons_self);refine wpAny_bind (listItems_at pk.1 rfl ?_);have ekA:kA=kA.toList.toArray:=by simp
   rw[ekA]at pk ⊢;have lk:kA.toList.length=vs.length:=by rw[Array.length_toList];omega
   refine Vk pk.1 pa.1 nak.symm (Vi J kv rk) lk h64 λout so=>⟨_,rfl,wpAny_pure ⟨_,rfl,?_⟩⟩
   obtain⟨on,oi⟩:=YZ hi so;have u5:=Heap.SameBut.update s'.heap (s.heap.objs.size+2) (Obj.mapSeq λ_=>(#[]:Array Value));have oa:(s'.heap.update (s.heap.objs.size+2) (Obj.mapSeq λ_=>(#[]:Array Value))).get? (s.heap.objs.size)=some (seqObj "list" #[] e1):=(u5.2 _ nak).trans pa.1;have u6:=Heap.SameBut.update (s'.heap.update (s.heap.objs.size+2) (Obj.mapSeq λ_=>(#[]:Array Value))) (s.heap.objs.size) (Obj.mapSeq λ_=>out.toArray);obtain⟨c6,hc6⟩:∃c6,((s'.heap.update (s.heap.objs.size+2) (Obj.mapSeq λ_=>(#[]:Array Value))).update (s.heap.objs.size) (Obj.mapSeq λ_=>out.toArray)).get? (s.heap.objs.size)=some (seqObj "list" out.toArray c6):=⟨_,get?_update_seq oa λ_=>out.toArray⟩
   have J3:Inv X ((s.heap.objs.size+2,seqObj "list" kA e)::pins) σ H' s':=J.pins_of λp hp=>J.pin p (mem_append_right _ (mem_cons_of_mem _ hp));have J4:Inv X pins σ H' { s' with heap:=s'.heap.update (s.heap.objs.size+2) (Obj.mapSeq λ_=>(#[]:Array Value)) }:=J3.turn1 (t':=s'.toks) (fk H' pk.2.1) u5;have J5:Inv X pins σ H' { s' with heap:=(s'.heap.update (s.heap.objs.size+2) (Obj.mapSeq λ_=>(#[]:Array Value))).update (s.heap.objs.size) (Obj.mapSeq λ_=>out.toArray) }:=(J4.repin (fa H' pa.2.1) oa (λv z=>by cases z)).turn1 (t':=s'.toks) (fa H' pa.2.1) u6;have lo:out.length<64:=by
    obtain⟨zs,pm,rfl,_⟩:=so;have:=pm.length_eq;simp at this ⊢;omega
   have J6:=J5.adopt (o:=.lst ((out.map Ex).map V.int)) (fa H' pa.2.1) (I.sz) ⟨by simp[sizeLine_eq];omega,out,c6,Ja oi,hc6⟩;exact⟨.ref _,_,J6,rfl,fin _ _ pa.2.1 on⟩
 exact goal _ sz3
end
def Src(K:PySem.W.Frag)(H:Hp)(a:Addr)(ns:List Int):Prop:=SqT K H a (ns.map V.int)∨∃n:Nat,n<64/\H a=some (.rng 0 n)/\ns=(List.range n).map λk:Nat=>(k:Int)
def MP(K:PySem.W.Frag)(P:Addr)(q:Str)(pos:Pos)(ix:List Nat)(te tb:TE):TE:=λσ H Q=>te σ H λv H1=>∃(a:Addr) (ns:List Int) (ps:Array Value),v=.ref a/\Src K H1 a ns/\ns.length<64/\H1 P=some (.tbl ps)/\KY H1 q pos ps /\
 ∀H2 c,TabStep P q pos H1 H2->H2 c=some (.ext (cdF c q))->Ic (λH=>H c=some (.ext (cdF c q))) tb (ix.map λi=>(σ[i]?).join) ns H2 λks H3=>∃kz,Io K H3 ks kz/\∀p ms,H3 p=none->JT kz ns ms->Q (.ref p) (upd H3 p (.lst (ms.map V.int)))
theorem TabStep.rd{P:Addr}{q:Str}{pos:Pos}{H H':Hp}{ps:Array Value}(t:TabStep P q pos H H')(hP:H P=some (.tbl ps)){a:Addr}{xs:List V}(r:Rd H a (.tup xs)):Rd H' a (.tup xs):=by
 rcases t with rfl|⟨c,hc,_,rfl⟩
 .exact r
 .have ne:∀u,H a=some u->(∀ps,u≠.tbl ps)->upd (upd H P (.tbl #[rawInt pos.line,rawInt pos.col,.ref c])) c (.ext (cdF c q)) a=some u:=λu e n=>by
   rw[AJ (Ak e hc),AJ (λz=>by subst z;rw[hP]at e;cases e;exact n _ rfl)];exact e
  rcases r with r|⟨o,r⟩
  .exact .inl (ne _ r λps z=>by cases z)
  .exact .inr ⟨o,ne _ r λps z=>by cases z⟩
theorem TabStep.sqt{K:PySem.W.Frag}{P:Addr}{q:Str}{pos:Pos}{H H':Hp}{ps:Array Value}(t:TabStep P q pos H H')(hP:H P=some (.tbl ps)){a:Addr}{xs:List V}(r:SqT K H a xs):SqT K H' a xs:=by
 rcases r with r|r
 .exact .inl (t.rd hP r)
 .exact .inr r
theorem TabStep.src{K:PySem.W.Frag}{P:Addr}{q:Str}{pos:Pos}{H H':Hp}{ps:Array Value}(t:TabStep P q pos H H')(hP:H P=some (.tbl ps)){a:Addr}{ns:List Int}(r:Src K H a ns):Src K H' a ns:=by
 rcases r with r|⟨n,h,e,z⟩
 .exact .inl (t.sqt hP r)
 .refine .inr ⟨n,h,?_,z⟩;rcases t with rfl|⟨c,hc,_,rfl⟩
  .exact e
  .rw[AJ (Ak e hc),AJ (λz=>by subst z;rw[hP]at e;cases e)];exact e
theorem PM{n:Nat}{acc:Array Value}(it:ItemsOf (λi v=>∃t,v=.int (0+i*1) t) acc n):IntsAre acc.toList ((List.range n).map λk:Nat=>(k:Int)):=by
 have:=KD (lo:=0) it;have e:CG 0 n=((List.range n).map λk:Nat=>(k:Int)).map V.int:=by
  have:∀(lo:Nat) (n:Nat),CG (lo:Int) n=((List.range' lo n).map λk:Nat=>(k:Int)).map V.int:=by
   intro lo n
   induction n generalizing lo with
   |zero=>rfl
   |succ n ih=>rw[CG,List.range'_succ];simp only[map_cons];rw[<- ih (lo+1)];rfl
  rw[List.range_eq_range'];exact this 0 n
 rw[e]at this;exact Fy rfl this
section
variable{X:Cx}{c P:Addr}{scope:Scope}{fr:List Str}{ix:List Nat}{prm:Str}{params:Arguments}{body e:Expr}{p pos lpos kpos:Pos}{te tb:TE}
theorem Sy(LA:LamAt X c P)(S:CSc X scope fr ix)(L:LSc scope prm)(hr:Room 3 X.A)(hcm:X.calm=true)(hg:Gl X "sorted")(hm:X.mg "sorted"=none)
 (hbind:∀(cl:List (Str×Addr)) (pm cd ctv us:Value),bindArgs (kla_fn "<lambda>" (X.env.qual++"<lambda>") params body scope cl pm cd ctv) ⟨[us],[]⟩=pure [(prm,us)])
 (he:PE X e te) (hb:∀(f:Addr) (cd:Value) (s:Shared) (H:Hp),PE (lCx X X.A.in1.in1 (prm::fr) (X.env.qual++"<lambda>") scope f cd (Az X.env.cells scope.names []) s H) body tb)
 (hdef:defaultsOf params X.env=([],[]):=by rfl) (hs:starEach [e] X.env=[(false,eval e X.env)]:=by rfl):
 PE X (.Call (.Name "sorted" p) [e] [⟨some "key",.Lambda params body scope lpos,kpos⟩] pos) (MP X.K P (X.env.qual++"<lambda>") lpos ix te tb):=by
 intro pins s σ H Q I h;have PAe:PA X [e] (CP te E6):=Dd he F6 hs;refine wpAny_Call_Name_kw (FA (u:=.builtin "sorted") I hg hm Lf ?_);have pl:(backTo pos (starEach [e] X.env)).any (·.1)=false:=by rw[hs];rfl
 refine callWith_builtin_kwB pl rfl (evalArgs_kw2 (env:=X.env) (e:=e) (rest:=[]) (kws:=[⟨some "key",.Lambda params body scope lpos,kpos⟩]) rfl (thn (PAe pos pins s σ H (λvs H1=>match vs with
  |[v]=>∃(a:Addr) (ns:List Int) (ps:Array Value),v=.ref a/\Src X.K H1 a ns/\ns.length<64/\H1 P=some (.tbl ps)/\KY H1 (X.env.qual++"<lambda>") lpos ps /\
   ∀H2 c,TabStep P (X.env.qual++"<lambda>") lpos H1 H2->H2 c=some (.ext (cdF c (X.env.qual++"<lambda>")))->Ic (λH=>H c=some (.ext (cdF c (X.env.qual++"<lambda>")))) tb (ix.map λi=>(σ[i]?).join) ns H2 λks H3=>∃kz,Io X.K H3 ks kz/\∀p ms,H3 p=none->JT kz ns ms->Q (.ref p) (upd H3 p (.lst (ms.map V.int)))
  | _=>False) I h) λus s1 hq=>?_) hs)
 obtain⟨vs,H1,I1,r,q⟩:=hq
 match vs,q with
 |[v],q=>
 obtain⟨a,ns,ps,rfl,sq,h64,hP,hg1,go⟩:=q;obtain⟨u,rfl,ru⟩:=Co r;cases ru;show wpAny _ _ (evalAll [(do let v <- eval (.Lambda params body scope lpos) X.env;standAt pos;pure v)]) _ _ s1;refine wpAny_evalAll_cons (wpAny_bind (T9 S LA I1 hdef hP hg1 λf cd ctv H2 s2 I2 M=>wpAny_bind (wpAny_standAt (wpAny_pure (wpAny_evalAll_nil ?_)))));show wpAny _ _ (call (.builtin "sorted") [.ref a] [(Str.ofString "key",.ref f)]) _ _ s2;have sq2:=M.step.src hP sq;obtain⟨c',rfl,hc'⟩:=M.cdc;have ff:FpOk X pins H2 f:=I1.fpOk M.new M.fre;have I3:=I2.repin ff M.fn (λv z=>by cases z);refine wpAny_mono (Op (pins:=(f,_)::pins) I3 h64 (λQ E hq=>?_) (λpins' H' s' n u Q1 sub J ru hG hq=>?_) (go H2 c' M.step hc')) (λv s' hv=>?_) λ_ _ z=>z
 .rcases sq2 with sq2|⟨n,hn,er,rfl⟩
  .obtain⟨its,rv,tp,_⟩:=I2.tuple sq2;have hi:IntsAre its ns:=Fy rfl rv;have hlen:its.length<=sizeLine:=by have:=hi.length;rw[sizeLine_eq];omega
   refine Nj tp (hq _ s2.toks its (λb o q=>?_) hi) hlen;have hlt:b<s2.heap.objs.size:=Heap.lt_size q;rw[Heap.get?_update_ne _ _ _ _ (ne_of_lt hlt),Heap.get?_push_ne _ _ _ (ne_of_lt hlt)];exact q
  .obtain⟨t,u,v,hr'⟩:∃t u v,s2.heap.get? a=some { cls:=.type "range",data:=.fields #[.int 0 t,.int n u,.int 1 v] }:=I2.hok a _ er;refine Nc (n:=n) (I2.ok.hd hcm) hr' (small_one (by omega) (by omega) (by omega) (by omega)) (by rw[Tn];omega) (by omega) λg tk acc kp it=>hq g tk _ kp (PM it)
 .have pf:=J.pin (f,_) (mem_append_right _ (sub _ mem_cons_self));exact TB (A:=X.A.in1.in1) (f:=f) S L J rfl hr.in1.in1 pf.1 (J.hok c' _ hG).1 (λus=>hbind _ _ _ _ us) (λs H=>hb f _ s H) ru hq
 .obtain⟨y,H',J,ry,qy⟩:=hv;exact⟨y,H',J.pins_of λp hp=>J.pin p (mem_append_right _ (mem_cons_of_mem _ hp)),ry,qy⟩
end
def M9(K:PySem.W.Frag)(P:Addr)(q:Str)(pos:Pos):Prop:=∃p':Pos,(P,q,p')∈EM K/\((EM K).map (·.1)).Nodup/\p'.line=pos.line/\p'.col=pos.col
open Classical in
def GS(ds:List D):Option (List Int):=match BS ds with
 |some ns=>some ns
 |none=>match Dr ds with
  |some ps=>if ∀p∈ps,pok p then some (ps.map Bs)else none
  |none=>none
open Classical in
def Fw(mb:ME)(cap:Ls)(hd:Hd):List Int->Option (List D)
 |[]=>some []
 |n::r=>match mb (some (.im (.int n))::cap) hd with
  |some (k,h)=>match Fw mb cap hd r with
   |some ks=>if h=hd then some (k::ks)else none
   |none=>none
  |none=>none
theorem LW{mb:ME}{cap:Ls}{hd:Hd}:∀{ns:List Int} {ks:List D},Fw mb cap hd ns=some ks->ks.length=ns.length
 |[],ks,e=>by cases e;rfl
 |n::r,ks,e=>by
  unfold Fw at e;split at e
  .split at e
   .next ks' e2=>
    split at e
    .cases e;simp[LW e2]
    .cases e
   .cases e
  .cases e
theorem PJ{ds:List D}{kz:List Int}(e:GS ds=some kz):kz.length=ds.length:=by
 unfold GS at e;split at e
 .next ns e6=>cases e;rw[E9 e6];simp
 .split at e
  .next ps e6=>
   split at e
   .cases e;rw[Hf e6];simp
   .cases e
  .cases e
def Fm(kz ns:List Int):List Int:=((kz.zip ns).mergeSort λa b=>decide (a.1<=b.1)).map (·.2)
theorem T1{kz ns ms:List Int}(nd:kz.Nodup)(hl:kz.length=ns.length)(o:JT kz ns ms):ms=Fm kz ns:=by
 obtain⟨zs,pm,pw,rfl⟩:=o;have pm2:((kz.zip ns).mergeSort λa b=>decide (a.1<=b.1)).Perm (kz.zip ns):=List.mergeSort_perm ..;have pw2:((kz.zip ns).mergeSort λa b=>decide (a.1<=b.1)).Pairwise λa b=>a.1<=b.1:=by
  have:=List.pairwise_mergeSort (le:=λa b:Int×Int=>decide (a.1<=b.1)) (by intro a b c h1 h2;simp at *;omega) (by intro a b;simp;omega) (kz.zip ns);exact this.imp (by simp)
 have inj:∀a∈kz.zip ns,∀b∈kz.zip ns,a.1=b.1->a=b:=by
  intro a ha b hb e;obtain⟨i,hi⟩:=mem_iff_getElem?.mp ha;obtain⟨j,hj⟩:=mem_iff_getElem?.mp hb;obtain⟨i1,i2⟩:=List.getElem?_zip_eq_some.mp hi;obtain⟨j1,j2⟩:=List.getElem?_zip_eq_some.mp hj;rw[e]at i1;have:i=j:=(List.getElem?_inj (List.getElem?_eq_some_iff.mp i1).1 nd).mp (i1.trans j1.symm);subst this;rw[i2]at j2;exact Prod.ext e (Option.some.inj j2)
 have:zs=(kz.zip ns).mergeSort λa b=>decide (a.1<=b.1):=
  (pm.trans pm2.symm).eq_of_pairwise (le:=λa b=>a.1<=b.1) (λa b ha hb h1 h2=>inj a (pm.mem_iff.mp ha) b (pm2.mem_iff.mp hb) (Int.le_antisymm h1 h2)) pw pw2
 rw[this];rfl
def KH(m:MA):Ls->Hd->Option (List Int×Hd):=λls hd=>(m ls hd).bind λp=>match p.1 with
 |[.im (.int j)]=>if 0<=j/\j<64 then some ((List.range j.toNat).map λk:Nat=>(k:Int),p.2)else none
 |_=>none
open Classical in
def K6(src:Ls->Hd->Option (List Int×Hd))(ix:List Nat)(mb:ME):MA:=λls hd=>(src ls hd).bind λp=>(Fw mb (ix.map λi=>(ls[i]?).join) p.2 p.1).bind λks=>(GS ks).bind λkz=>
 if p.1.length<64/\kz.Nodup then some ((Fm kz p.1).map λi=>.im (.int i),p.2)else none
abbrev OB(m:MA)(ix:List Nat)(mb:ME):MA:=K6 (KH m) ix mb
def Th(K:PySem.W.Frag)(te:TE)(src:Ls->Hd->Option (List Int×Hd)):Prop:=∀(ρ:List Addr) (σ:St) (H:Hp) (hd:Hd) (ls:Ls) (Q:VK) (ns:List Int) (hd':Hd),RH K ρ H hd->RL K ρ H ls σ->src ls hd=some (ns,hd') ->
 (∀ρ1 H1 a,Ext ρ H ρ1 H1->RH K ρ1 H1 hd'->Src K H1 a ns->Q (.ref a) H1)->te σ H Q
section
variable{K:PySem.W.Frag}{ρ:List Addr}{H:Hp}{hd:Hd}
theorem S6{P:Addr}{q:Str}{pos:Pos}{H2:Hp}{ps:Array Value}(R:RH K ρ H hd)(hP:H P=some (.tbl ps))(t:TabStep P q pos H H2)(TI:M9 K P q pos):RH K ρ H2 hd/\Ext ρ H ρ H2:=by
 rcases t with rfl|⟨c,hc,ncP,rfl⟩
 .exact⟨R,.refl⟩
 .obtain⟨p',et,nd,e1,e2⟩:=TI;have nP:∀b,b∈ρ->b≠P:=λb hb z=>by
   subst z;rcases R.mut hb with⟨y,w⟩|⟨y,w⟩<;>(rw[hP]at w;cases w)
  have nc:∀b u,H b=some u->b≠c:=λb u e=>Ak e hc;have ex:Ext ρ H ρ (upd (upd H P (.tbl #[rawInt pos.line,rawInt pos.col,.ref c])) c (.ext (cdF c q))):=by
   refine⟨⟨[],by simp,by simp⟩,λb o e nb nt'=>?_,λb ps e=>?_⟩
   .rw[AJ (nc b _ e),AJ (λz=>by subst z;rw[hP]at e;cases e;exact nt' _ rfl)];exact e
   .by_cases z:b=P
    .subst z;exact⟨_,by rw[AJ (nc _ _ hP),Af]⟩
    .exact⟨ps,by rw[AJ (nc b _ e),AJ z];exact e⟩
  refine⟨⟨R.len,R.nd,λx hx=>?_,λn o a h1 h2=>?_⟩,ex⟩
  .by_cases hxP:x.1=P
   .have ex:x=(P,q,p'):=by
     obtain⟨i,hi⟩:=mem_iff_getElem?.mp hx;obtain⟨j,hj⟩:=mem_iff_getElem?.mp et;have i1:((EM K).map (·.1))[i]?=some P:=by rw[List.getElem?_map,hi];simp[hxP]
     have j1:((EM K).map (·.1))[j]?=some P:=by rw[List.getElem?_map,hj];rfl
     have:i=j:=(List.getElem?_inj (List.getElem?_eq_some_iff.mp i1).1 nd).mp (i1.trans j1.symm);subst this;exact Option.some.inj (hi.symm.trans hj)
    subst ex;refine⟨#[rawInt pos.line,rawInt pos.col,.ref c],by rw[AJ (nc _ _ hP),Af],.inr ⟨c,?_,Af⟩⟩;show #[rawInt pos.line,rawInt pos.col,Value.ref c]=#[rawInt p'.line,rawInt p'.col,Value.ref c];rw[e1,e2]
   .obtain⟨ps',hx1,hG⟩:=R.tabs x hx;refine⟨ps',by rw[AJ (nc _ _ hx1),AJ hxP];exact hx1,?_⟩;rcases hG with g|⟨c',g1,g2⟩
    .exact .inl g
    .exact .inr ⟨c',g1,by rw[AJ (nc _ _ g2),AJ (λz=>by subst z;rw[hP]at g2;cases g2)];exact g2⟩
  .obtain⟨ho,q1,q2⟩:=R.ob n o a h1 h2;exact⟨ho,by rw[AJ (nc a _ q1),AJ (nP a (mem_of_getElem? h2))];exact q1,by simpa using q2.mono (ex.grow R) []⟩
theorem OG{tb:TE}{mb:ME}{ix:List Nat}{q:Str}{c:Addr}(hb:RE K tb mb){ls:Ls}{σ:St}:∀{ns:List Int} {kds:List D} {ρ:List Addr} {H:Hp} {Q:List V->Hp->Prop},RH K ρ H hd->RL K ρ H ls σ->H c=some (.ext (cdF c q)) ->
 Fw mb (ix.map λi=>(ls[i]?).join) hd ns=some kds->(∀ρ' H' ks,Ext ρ H ρ' H'->RH K ρ' H' hd->RDs K ρ' H' kds ks->Q ks H')->Ic (λH=>H c=some (.ext (cdF c q))) tb (ix.map λi=>(σ[i]?).join) ns H Q
 |[],kds,ρ,H,Q,R,L,hc,e,k=>by
  cases e;exact k ρ H [] .refl R (by simp[RDs])
 |n::r,kds,ρ,H,Q,R,L,hc,e,k=>by
  unfold Fw at e;split at e
  .next kd h e1=>
   split at e
   .next ks e2=>
    split at e
    .next eh=>
     cases e;rw[eh]at e1;refine⟨hc,hb ρ _ H _ (some (.im (.int n))::ix.map λi=>(ls[i]?).join) _ kd _ R ⟨by simp,λi d ei=>?_⟩ e1 λρ1 H1 v1 x1 R1 r1=>?_⟩
     .cases i with
      |zero=>cases ei;exact⟨.int n,rfl,by simp[RD,RI]⟩
      |succ j=>
       have ei:(ix.map λi=>(ls[i]?).join)[j]?=some (some d):=ei;rw[List.getElem?_map]at ei;cases qj:ix[j]? with
       |none=>rw[qj]at ei;cases ei
       |some m=>
        rw[qj]at ei;have ei:(ls[m]?).join=some d:=Option.some.inj ei;have em:ls[m]?=some (some d):=by
         cases w:ls[m]? with
         |none=>rw[w]at ei;cases ei
         |some z=>rw[w]at ei;simpa using ei
        obtain⟨v,ev,rv⟩:=L.ob m d em;refine⟨v,?_,rv⟩;show(ix.map λi=>(σ[i]?).join)[j]?=some (some v);rw[List.getElem?_map,qj];simp[ev]
     .have oc:c∉ρ:=λm=>by rcases R.mut m with⟨y,w⟩|⟨y,w⟩<;>(rw[hc]at w;cases w)
      refine OG hb R1 (L.ext R x1) (x1.keep c _ hc oc nt) e2 λρ2 H2 ks2 x2 R2 r2=>?_;exact k ρ2 H2 (v1::ks2) (x1.trans R1 x2) R2 (.cons (r1.ext R1 x2) r2)
    .cases e
   .cases e
  .cases e
theorem US{t:TA}{m:MA}(h:RA K t m):Th K (tCB Jt t) (KH m):=by
 intro ρ σ H hd ls Q ns hd' hR hL hm k;obtain⟨⟨d1,h1⟩,e1,hm⟩:=fK hm;dsimp only at hm;refine h ρ σ H hd ls _ d1 h1 hR hL e1 λρ1 H1 v x1 R1 r1=>?_;split at hm
 .next j=>
  split at hm
  .next c=>
   cases hm;simp only[RDs,RD,RI]at r1;obtain⟨x,r,rfl,rfl,rfl⟩:=r1;refine .inl ⟨j,rfl,λp hp=>?_⟩;obtain⟨R2,x2⟩:=R1.hid (ho:=.rng 0 j) hp;refine k ρ1 _ p (x1.trans R1 x2) R2 (.inr ⟨j.toNat,by omega,?_,rfl⟩);rw[Af,Int.toNat_of_nonneg c.1]
  .cases hm
 .cases hm
theorem SU{te tb:TE}{src:Ls->Hd->Option (List Int×Hd)}{mb:ME}{P:Addr}{q:Str}{pos:Pos}{ix:List Nat}(hi:Th K te src)(hb:RE K tb mb)(TI:M9 K P q pos):RN K (MP K P q pos ix te tb) (K6 src ix mb):=by
 intro ρ σ H hd ls Q d hd' hR hL hm hQ;obtain⟨⟨ns,h1⟩,e1,hm⟩:=fK hm;obtain⟨kds,e4,hm⟩:=fK hm;obtain⟨kz,e5,hm⟩:=fK hm;dsimp only at hm e4;split at hm
 .next cc=>
  cases hm;refine hi ρ σ H hd ls _ ns _ hR hL e1 λρ1 H1 a x1 R1 sq=>?_;obtain⟨p',et,_,l1,l2⟩:=id TI;obtain⟨ps,hP,hG⟩:=R1.tabs (P,q,p') et;have hG':KY H1 q pos ps:=by
   rcases hG with g|⟨c,g1,g2⟩
   .exact .inl g
   .refine .inr ⟨c,?_,g2⟩;rw[g1];show #[rawInt p'.line,rawInt p'.col,Value.ref c]=_;rw[l1,l2]
  refine⟨a,ns,ps,rfl,sq,cc.1,hP,hG',λH2 c step hc=>?_⟩;obtain⟨R2,x2⟩:=S6 R1 hP step TI;have x12:=x1.trans R1 x2;refine OG hb R2 (hL.ext hR x12) hc e4 λρ3 H3 ks x3 R3 r3=>?_;have x13:=x12.trans R2 x3;refine⟨kz,?_,λp ms hp out=>?_⟩
  .unfold GS at e5;split at e5
   .next ns' e6=>
    cases e5;rw[E9 e6]at r3;exact .inl r3.ints
   .split at e5
    .next ps' e6=>
     split at e5
     .next ok=>
      cases e5;rw[Hf e6]at r3;refine .inr ⟨ps',rfl,ok,by have:=r3.len;simp at this;omega,λi k p ek ep=>?_⟩;obtain⟨w,ew,rw_⟩:=r3.get (i:=i) (d:=Aw p) (by rw[List.getElem?_map,ep];rfl);rw[ek]at ew;cases ew;exact Nu rw_
     .cases e5
    .cases e5
  .have lz:kz.length=ns.length:=by
    rw[PJ e5,LW e4]
   have:=T1 cc.2 lz out;subst this;obtain⟨R4,x4⟩:=R3.hid (ho:=.lst ((Fm kz ns).map V.int)) hp;exact hQ ρ3 _ p _ (x13.trans R3 x4) R4 (x13.none hR hp R3) (R3.out hp) Af FS
 .cases hm
end
structure LamC(K:PySem.W.Frag)(mg:Str->Option Value)(base:Heap)(fd:FuncData)(c P:Addr)(q:Str)(pos:Pos):Prop where
 code:fd.code=.ref c
 hd:CodeHd base c P
 bl:base.BuiltinsAt mg P
 ti:M9 K P q pos
structure QSrc(K:PySem.W.Frag)(X:Cx)(e:Expr)(te:TE)(src:Ls->Hd->Option (List Int×Hd)):Prop where
 p:PE X e te
 r:Th K te src
theorem Sk(K:PySem.W.Frag){X:Cx}{a:Expr}{t:TA}{m:MA}{p2 pos2:Pos}(hm2:X.mg "range"=none)(ha:QA K X [a] t m)(hg2:Gl X "range":=by rfl)(he2:starEach [a] X.env=[(false,eval a X.env)]:=by rfl):QSrc K X (.Call (.Name "range" p2) [a] [] pos2) (tCB Jt t) (KH m):=
 ⟨EG (call_rng1.or Lc) hg2 hm2 boot_range ha.p (by decide) (by decide) he2 rfl,US ha.r⟩
theorem Sl(K:PySem.W.Frag){src:Ls->Hd->Option (List Int×Hd)}{X:Cx}{c P:Addr}{scope:Scope}{fr:List Str}{ix:List Nat}{prm:Str}{params:Arguments}{body e:Expr}{p pos lpos kpos:Pos}{te tb:TE}{mb:ME}{k:Nat}(LA:LamAt X c P)(TI:M9 K P (X.env.qual++"<lambda>") lpos)(S:CSc X scope fr ix)(L:LSc scope prm)(hr:Room k X.A)(h3:3<=k)(hm:X.mg "sorted"=none)
 (he:QSrc K X e te src) (hb:∀(f:Addr) (cd:Value) (s:Shared) (H:Hp),QE K (lCx X X.A.in1.in1 (prm::fr) (X.env.qual++"<lambda>") scope f cd (Az X.env.cells scope.names []) s H) body tb mb)
 (hbind:∀(cl:List (Str×Addr)) (pm cd ctv us:Value),bindArgs (kla_fn "<lambda>" (X.env.qual++"<lambda>") params body scope cl pm cd ctv) ⟨[us],[]⟩=pure [(prm,us)])
 (hcm:X.calm=true:=by rfl) (hg:Gl X "sorted":=by rfl) (hdef:defaultsOf params X.env=([],[]):=by rfl) (hs:starEach [e] X.env=[(false,eval e X.env)]:=by rfl) (hK:X.K=K:=by rfl):
 QN K X (.Call (.Name "sorted" p) [e] [⟨some "key",.Lambda params body scope lpos,kpos⟩] pos) (MP K P (X.env.qual++"<lambda>") lpos ix te tb) (K6 src ix mb):=by
 subst hK;exact⟨Sy LA S L (hr.mono h3) hcm hg hm hbind he.p (λf cd s H=>(hb f cd s H).p) hdef hs,SU he.r (hb 0 .none X.s₀ X.H₀).r TI⟩
theorem T2{P:Program}{w:World}{K:PySem.W.Frag}{mg:Str->Option Value}{base:Heap}{x:Str}{st:Stmt}{f:Addr}{fd:FuncData}{N ps:List Str}{j:Nat}{m:MS}(DA:DefAt K mg x st f fd ps)(S:FnScope N ps (AN st))
 (h:∀(cdv:Value) (A:Around) (outer:List Env) (s:Shared) (H:Hp) (E:XK),fd.code=cdv->Room j (A.deeper (envOfC x (AN st) s.heap.objs.size f cdv))->∃t,QSs K (Hx CX0 P w K mg base N x (AN st) f cdv A outer s H E).nox (CD st) t m):
 FnOk P w K mg base CX0 (j+1) f fd ps (spF K ps.length (mkF ps.length N.length m)):=by
 obtain⟨F,hmg,bd⟩:=DA;obtain⟨⟨oc,od,kV,doc,pm,an,cdv,ct,osl,rfl,lk,hcd⟩,kp⟩:=F;refine U7 lk hcd S (λvs H Q E h=>h.1) λA outer s H vs Q E hr hs=>?_;obtain⟨t,q⟩:=h cdv A outer s H E rfl hr;exact⟨t,q.p.nox,Nn q.r hs⟩
theorem Os(g:Int->Int)(ns:List Int):(Fm (ns.map g) ns).Perm ns/\(Fm (ns.map g) ns).Pairwise λa b=>g a<=g b:=by
 have pm:(((ns.map g).zip ns).mergeSort λa b=>decide (a.1<=b.1)).Perm ((ns.map g).zip ns):=List.mergeSort_perm ..;have pw:(((ns.map g).zip ns).mergeSort λa b=>decide (a.1<=b.1)).Pairwise λa b=>a.1<=b.1:=by
  have:=List.pairwise_mergeSort (le:=λa b:Int×Int=>decide (a.1<=b.1)) (by intro a b c h1 h2;simp at *;omega) (by intro a b;simp;omega) ((ns.map g).zip ns);exact this.imp (by simp)
 have ez:(ns.map g).zip ns=ns.map λn=>(g n,n):=by
  clear pm pw
  induction ns with
  |nil=>rfl
  |cons n r ih=>simp[ih]
 have el:∀a∈(((ns.map g).zip ns).mergeSort λa b=>decide (a.1<=b.1)),a.1=g a.2:=λa ha=>by
  have:=pm.mem_iff.mp ha;rw[ez]at this;obtain⟨n,_,rfl⟩:=mem_map.mp this;rfl
 refine⟨?_,?_⟩
 .have:=pm.map (·.2);unfold Fm;refine this.trans ?_;rw[ez,map_map];have:((λx:Int×Int=>x.2) ∘ λn=>(g n,n))=id:=rfl;rw[this,map_id]
 .unfold Fm;rw[pairwise_map];exact pw.imp_of_mem λ{a b} ha hb h=>by rw[<- el a ha,<- el b hb];exact h
theorem LV{mb:ME}{cap:Ls}{hd:Hd}(kf:Int->D):∀{ns:List Int},(∀n∈ns,mb (some (.im (.int n))::cap) hd=some (kf n,hd))->Fw mb cap hd ns=some (ns.map kf)
 |[],_=>rfl
 |n::r,h=>by
  unfold Fw;rw[h n mem_cons_self,LV kf λm hm=>h m (mem_cons_of_mem _ hm)];simp
theorem Qr{g:Int->Int}{ns:List Int}(nd:ns.Nodup)(h:∀a∈ns,∀b∈ns,g a=g b->a=b):(ns.map g).Nodup:=by
 rw[List.nodup_iff_pairwise_ne,pairwise_map];exact(List.nodup_iff_pairwise_ne.mp nd).imp_of_mem λ{a b} ha hb hne e=>hne (h a ha b hb e)
end L2
namespace HS
open PySem PyProof.Rows
open PySem.AutoSeq1 (wpAny_loadPart')
open Sem (wp)
abbrev st(t:Tok):List (Str×Value):=[(Str.ofString "start",.int 1 t)]
end HS
namespace L2
open PySem PySem.Spec PyProof.Rows
theorem pick_all:∀L:List Value,(List.range L.length).filterMap (λi=>L[i]?)=L
 |[]=>rfl
 |x::r=>by
  rw[length_cons,List.range_succ_eq_map,filterMap_cons];simp only[List.getElem?_cons_zero,List.filterMap_map]
  congr 1
  have:=pick_all r;simpa [Function.comp_def]using this
theorem MK:∀{xs:List V} {us:List Value},Vals xs us->Vals xs.reverse us.reverse
 |_,_,.nil=>.nil
 |_,_,.cons r t=>by
  rw[reverse_cons,reverse_cons];exact Vals.append (MK t) (.cons r .nil)
section
variable{K:PySem.W.Frag}{ρ:List Addr}{H:Hp}
theorem RDs.rev:∀{ds:List D} {xs:List V},RDs K ρ H ds xs->RDs K ρ H ds.reverse xs.reverse
 |[],xs,h=>by simp only[RDs]at h;subst h;simp[RDs]
 |d::ds,xs,h=>by
  simp only[RDs]at h;obtain⟨x,r,rfl,rx,h⟩:=h;rw[reverse_cons,reverse_cons];exact(RDs.rev h).app (.cons rx .nil)
variable{X:Cx}{e stp:Expr}{te ts:TE}{m:MA}{ms:ME}{pos p2:Pos}
end
end L2
namespace HT
open PySem PySem.Spec PyProof.Rows
section
variable{prog:Program}{w:World}{A:Around}{E:Value->Shared->Prop}{s:Shared}
theorem Pt(n:Nat):Builtin.Slice.sliceAdjust none none (-1) (n:Int)=((n:Int)-1,-1):=by
 unfold Builtin.Slice.sliceAdjust;simp
theorem P5(n:Nat):Builtin.Slice.slicePlaces ((n:Int)-1) (-1) (-1)=n:=by
 unfold Builtin.Slice.slicePlaces;simp
 try omega
theorem J7{sl:Addr}{n:Nat}{t:Tok}{Q:Int×Int×Nat->Shared->Prop}(hs:s.heap.IsSliceOf sl .none .none (.int (-1) t))(h:Q ((n:Int)-1,-1,n) s):wpAny (model prog w) A (Builtin.Slice.sliceApplied (.ref sl) (pure (n:Int))) Q E s:=by
 obtain⟨os,hos,hcs,hds⟩:=id hs;unfold Builtin.Slice.sliceApplied Builtin.Slice.sliceFields;refine wpAny_bind (wpAny_bind (wpAny_field hos hds (x:=.none) rfl (wpAny_bind (wpAny_field hos hds (x:=.none) rfl (wpAny_bind (wpAny_field hos hds (x:=.int (-1) t) rfl (wpAny_pure ?_)))))));refine wpAny_bind (slicePart_int ?_);show wpAny _ _ (if((-1:Int)==0)=true then _ else _) _ _ s;rw[if_neg (by decide)];refine wpAny_bind (slicePart_none (wpAny_bind (slicePart_none (wpAny_bind (wpAny_pure ?_)))));show wpAny _ _ (match Builtin.Slice.sliceAdjust none none (-1) (n:Int)with|(lo,hi)=>pure (lo,(-1:Int),Builtin.Slice.slicePlaces lo hi (-1))) _ _ s;rw[Pt n];show wpAny _ _ (pure ((n:Int)-1,(-1:Int),Builtin.Slice.slicePlaces ((n:Int)-1) (-1) (-1))) _ _ s;rw[P5];exact wpAny_pure h
theorem NB{α β:Type}{f g:α->Option β}:∀{l:List α},(∀x∈l,f x=g x)->l.filterMap f=l.filterMap g
 |[],_=>rfl
 |x::l,h=>by rw[filterMap_cons,filterMap_cons,h x mem_cons_self,NB λy hy=>h y (mem_cons_of_mem _ hy)]
theorem Qh(xs:Array Value):((List.range xs.size).filterMap λ(m:Nat)=>xs[((xs.size:Int)-1+(m:Int)*(-1)).toNat]?).toArray=xs.toList.reverse.toArray:=by
 congr 1
 have e:(List.range xs.size).filterMap (λ(m:Nat)=>xs[((xs.size:Int)-1+(m:Int)*(-1)).toNat]?)=(List.range xs.toList.reverse.length).filterMap λi=>xs.toList.reverse[i]? := by
  rw[List.length_reverse,Array.length_toList];refine NB λm hm=>?_;have hm:m<xs.size:=by simpa using hm
  rw[List.getElem?_reverse (by simpa using hm)];simp only[Array.length_toList,Array.getElem?_toList]
  congr 1
  omega
 rw[e];exact L2.pick_all _
theorem getItem_tuple_rev{t sl:Addr}{items:Array Value}{k:Tok}{Q:Value->Shared->Prop}(ht:IsTup s.heap t items)(hs:s.heap.IsSliceOf sl .none .none (.int (-1) k))(h:Q (.ref s.heap.objs.size) { s with heap:=s.heap.push { cls:=.type "tuple",data:=.seq items.toList.reverse.toArray } })(hsz:items.size<=sizeLine):wpAny (model prog w) A (getItem (.ref t) (.ref sl)) Q E s:=by
 have hsize:sizeOk (.seq items.toList.reverse.toArray):=by
  show items.toList.reverse.toArray.size<=sizeLine;simpa using hsz
 obtain⟨os,hos,hcs,hds⟩:=id hs;have hTs:s.TypeIs (.ref sl) "slice":=⟨os,hos,hcs⟩
 unfold getItem
 try with_reducible refine wpAny_holding ?_
 first|refine wpAny_bind (wpAny_pure ?_)|skip
 refine wpAny_bind (wpAny_sequenceKey ht.typeIs (by decide) ?_);refine wpAny_bind (wpAny_callSpecial?_slot (name:=Str.ofString "__getitem__") ht.typeIs PyProof.Rows.slot_tuple_getitem
  (wpAny_call_entry PyProof.Rows.slot_tuple_getitem ht.typeIs entry_tuple_getitem ?_ (args_tuple_getitem _ _)))
 show wpAny _ _ (Builtin.Tuple.tupleItemsOf (.ref t) >>= _) _ _ s;refine wpAny_bind (tupleItemsOf_ ht ?_);refine wpAny_bind (wpAny_typeOf hTs ?_);rw[if_pos (by decide)];refine wpAny_bind (J7 hs ?_);show wpAny _ _ (if((((items.size:Int)-1)==0&&(-1:Int)==1&&items.size==items.size)=true)then _ else _) _ _ s;rw[if_neg (by simp),Qh]
 first
  |exact wpAny_bind (m:=Builtin.Tuple.tupleExact _) (wpAny_newObj_type (wpAny_pure ⟨_,rfl,wpAny_pure h⟩) hsize)
  |exact wpAny_bind (m:=Builtin.Tuple.tupleExact _) (wpAny_newObj_type (wpAny_bind (wpAny_pure (wpAny_pure ⟨_,rfl,wpAny_pure h⟩))) hsize)
  |exact wpAny_bind (wpAny_bind (m:=Builtin.Tuple.tupleExact _) (wpAny_newObj_type (wpAny_pure (wpAny_pure ⟨_,rfl,wpAny_pure h⟩)) hsize))
  |exact wpAny_bind (wpAny_bind (m:=Builtin.Tuple.tupleExact _) (wpAny_newObj_type (wpAny_pure ⟨_,rfl,wpAny_pure h⟩) hsize))
end
end HT
namespace L2
open PySem PySem.Spec PyProof.Rows
section
variable{X:Cx}{e stp:Expr}{te ts:TE}{pos p2:Pos}
def Oe(K:PySem.W.Frag)(te ts:TE):TE:=λσ H Q=>te σ H λx H1=>ts σ H1 λy H2=>y=.int (-1)/\∃a xs,x=.ref a/\SqT K H2 a xs/\∀p,H2 p=none->Q (.ref p) (upd H2 p (.tup xs.reverse))
theorem VO(he:PE X e te)(hs:PE X stp ts):PE X (.Subscript e (.Slice none none (some stp) p2) pos) (Oe X.K te ts):=by
 intro pins s σ H Q I h;refine Subscript_ (thn (he pins s σ H _ I h) λv s1 ⟨x,H1,I1,r1,q1⟩=>?_);refine wpAny_Slice ?_;rw[evalPart_none];refine wpAny_pure (wpAny_pure ?_);rw[evalPart_some];refine thn (hs pins s1 σ H1 _ I1 q1) λvs s3 ⟨y,H3,I3,r3,q3⟩=>?_;obtain⟨rfl,a,xs,rfl,hx,q⟩:=q3;obtain⟨t,rfl⟩:=r3;cases r1;have I4:Inv X pins σ H3 { s3 with heap:=s3.heap.push { cls:=.type "slice",data:=.fields #[.none,.none,.int (-1) t] } }:=I3.kept (t':=s3.toks) λb ob q=>Heap.get?_push_of_some _ q;obtain⟨its,r,ht,hz⟩:=I4.tuple hx;have hlen:=r.length;have hg:wpAny (model X.prog X.w) X.A (getItem (.ref a) (.ref s3.heap.objs.size)) (EP X pins σ Q) X.xe { s3 with heap:=s3.heap.push { cls:=.type "slice",data:=.fields #[.none,.none,.int (-1) t] } }:=by
  refine HT.getItem_tuple_rev ht (Heap.IsSliceOf.new ..) ?_ (by rw[size_toArray]<;>omega);refine⟨.ref _,_,I4.laid (t':=s3.toks) (o:=.tup xs.reverse) (λb ob q=>Heap.get?_push_of_some _ q) (le_refl _) ?_,rfl,q _ (I4.hok.fresh (le_refl _))⟩;exact⟨by rw[List.length_reverse];exact hz,its.reverse,MK r,IsTupD.new _ _⟩
 show wpAny (model X.prog X.w) X.A (subscriptTail e (.Slice none none (some stp) p2) (.ref a) (.ref s3.heap.objs.size)) (EP X pins σ Q) X.xe { s3 with heap:=s3.heap.push { cls:=.type "slice",data:=.fields #[.none,.none,.int (-1) t] } };exact tail_any (ops:=[.ref a,.ref s3.heap.objs.size]) ht.typeIs PyProof.Rows.slot_tuple_getitem.lookup hg (by with_unfolding_all rfl)
end
section
variable{K:PySem.W.Frag}{X:Cx}{e stp:Expr}{te ts:TE}{m ms:ME}{pos p2:Pos}
def IY(m ms:ME):ME:=λls hd=>(m ls hd).bind λp=>(ms ls p.2).bind λq=>match q.1 with
 |.im (.int i)=>if i=-1 then(Ao p.1).map λds=>(Av ds.reverse,q.2)else none
 |_=>none
theorem Up(h:RE K te m)(hs:RE K ts ms):RE K (Oe K te ts) (IY m ms):=by
 intro ρ σ H hd ls Q d hd' hR hL hm hQ;obtain⟨⟨d1,h1⟩,e1,hm⟩:=fK hm;obtain⟨⟨d2,h2⟩,e2,hm⟩:=fK hm;dsimp only at e2 hm;split at hm
 .split at hm
  .next hi=>
   obtain⟨ds,e3,e4⟩:=fL hm;cases e4;subst hi;refine h ρ σ H hd ls _ d1 h1 hR hL e1 λρ1 H1 v1 x1 R1 r1=>?_;refine hs ρ1 σ H1 h1 ls _ _ _ R1 (hL.ext hR x1) e2 λρ2 H2 v x2 R2 r2=>?_;simp only[RD,RI]at r2;obtain⟨a,xs,rfl,q,r⟩:=(r1.ext R1 x2).tup e3;refine⟨r2,a,xs,rfl,q,λp hp=>?_⟩;obtain⟨R3,x3⟩:=R2.hid (ho:=.tup xs.reverse) hp;exact hQ ρ2 _ _ ((x1.trans R1 x2).trans R2 x3) R3 (CF (SqT.of Af) ((RDs.rev r).ext R2 x3))
  .cases hm
 .cases hm
theorem O1(h:QE K X e te m)(hs:QE K X stp ts ms)(hK:X.K=K:=by rfl):QE K X (.Subscript e (.Slice none none (some stp) p2) pos) (Oe K te ts) (IY m ms):=by
 subst hK;exact⟨VO h.p hs.p,Up h.r hs.r⟩
theorem Nm{ls:Ls}{hd:Hd}{Q:D->Hd->Prop}(h:WE m ls hd λd x=>WE ms ls x λi y=>i=.im (.int (-1))/\∃ds,Ao d=some ds/\Q (Av ds.reverse) y):WE (IY m ms) ls hd Q:=by
 obtain⟨d,x,e1,i,y,e2,rfl,ds,e3,q⟩:=h;exact⟨_,_,by simp only[IY,e1,e2,bind_some,if_true,e3,map_some],q⟩
end
end L2
namespace L2
open PySem PySem.Spec PyProof.Rows PySem.W
def QZ:List V->Hp->VK->Prop:=λxs H Q=>∃k,xs=[.bl k]/\Q (.str (if k then "True" else "False":Str)) H
theorem KR{X:Cx}:CallR X (.builtin "repr") QZ:=by
 intro pins s σ H xs us Q I r h;obtain⟨k,rfl,q⟩:=h;obtain⟨u,rfl,ru⟩:=Co r;cases ru;exact PySem.P.repr_of_bool ⟨.str (if k then "True" else "False":Str),H,I.tok _,⟨_,rfl⟩,q⟩
def Hv:List D->Hd->Option (D×Hd)
 |[.im (.bl k)],hd=>some (.im (.str (if k then "True" else "False":Str)),hd)
 |_,_=>none
theorem Mn{K:PySem.W.Frag}:RF K QZ Hv:=by
 intro ρ H hd ds vs Q z hd' hR h1 hf hQ;unfold Hv at hf;split at hf
 .cases hf;simp only[RDs,RD,RI]at h1;obtain⟨x,r,rfl,rfl,rfl⟩:=h1;exact⟨_,rfl,hQ ρ H _ .refl hR (by simp[RD,RI])⟩
 .cases hf
theorem MB{hd:Hd}{QE:D->Hd->Prop}{k:Bool}(q:QE (.im (.str (if k then "True" else "False":Str))) hd):WP (Hv [.im (.bl k)] hd) QE:=⟨_,_,rfl,q⟩
end L2
namespace Rw
open PySem L2 Bd
theorem pairs_im(ps:List (Int×Int)):(ps.map Qm).map D.im=ps.map Aw:=by rw[map_map];rfl
end Rw
namespace L2
open PySem PySem.Spec PyProof.Rows
section
variable{hd:Hd}{QE:D->Hd->Prop}{d:D}
theorem UF{p:PyData}(e:pyD hd d=some p)(ok:Dt p)(q:QE (.im (.str p.shown)) hd):WP (Df [d] hd) QE:=⟨_,_,by simp[Df,e,ok],q⟩
theorem DL{i:I}(ok:Dt i.py)(q:QE (.im (.str i.py.shown)) hd):WP (Df [.im i] hd) QE:=UF rfl ok q
end
end L2
namespace Pl
open PySem L2 Bd
abbrev Pc:=Nat×Int×Int
def last:List Pc->Nat->Int->Int
 |[],_,v=>v
 |p::r,k,v=>last r k (if p.1=k then p.2.2 else v)
def dn:List Pc->Nat->Int
 |[],_=>0
 |p::r,k=>(if p.1=k then p.2.2-p.2.1 else 0)+dn r k
theorem LZ:∀(ps:List Pc) (es:List Int) (k:Nat),(FM es ps)[k]?=(es[k]?).map (last ps k)
 |[],es,k=>by
  show es[k]?=(es[k]?).map id;rw[Option.map_id_fun];rfl
 |p::r,es,k=>by
  rw[FM,LZ r,List.getElem?_set];by_cases h:p.1=k
  .subst h;by_cases hk:p.1<es.length
   .simp[hk,last]
   .simp[hk]
  .simp only[h,if_false,last]
theorem ends_map{n:Nat}(ps:List Pc):FM (List.replicate n 0) ps=(List.range n).map λk=>last ps k 0:=by
 refine ext_getElem? λi=>?_;rw[LZ];by_cases hi:i<n
 .simp[hi]
 .simp[hi]
theorem OD{k:Nat}{v:Int}:∀{ps:List Pc},(∀p∈ps,p.1≠k)->last ps k v=v
 |[],_=>rfl
 |p::r,h=>by
  rw[last,if_neg (h p mem_cons_self)];exact OD λq hq=>h q (mem_cons_of_mem _ hq)
theorem last_in{k:Nat}:∀{ps:List Pc} {v:Int},(∃p∈ps,p.1=k)->∃p∈ps,p.1=k/\last ps k v=p.2.2
 |[],v,h=>by obtain⟨p,hp,_⟩:=h;cases hp
 |p::r,v,h=>by
  rw[last];by_cases q:∃p∈r,p.1=k
  .obtain⟨z,h1,h2,h3⟩:=last_in (v:=if p.1=k then p.2.2 else v) q;exact⟨z,mem_cons_of_mem _ h1,h2,h3⟩
  .have hp:p.1=k:=by
    obtain⟨z,hz,e⟩:=h;rcases mem_cons.mp hz with rfl|hz
    .exact e
    .exact absurd ⟨z,hz,e⟩ q
   refine⟨p,mem_cons_self,hp,?_⟩;rw[if_pos hp];exact OD λz hz e=>q ⟨z,hz,e⟩
structure Ok(n:Nat)(c:Int)(ps:List Pc):Prop where
 ch:ps.Pairwise λp q=>p.2.2<=q.2.1
 ea:∀p∈ps,p.1<n/\c<=p.2.1/\p.2.1<p.2.2
theorem Ok.tail{n:Nat}{c:Int}{p:Pc}{r:List Pc}(h:Ok n c (p::r)):Ok n c r:=⟨(pairwise_cons.mp h.ch).2,λq hq=>h.ea q (mem_cons_of_mem _ hq)⟩
theorem tri{n:Nat}{c:Int}:∀{ps:List Pc},Ok n c ps->∀p∈ps,∀q∈ps,p=q∨p.2.2<=q.2.1∨q.2.2<=p.2.1
 |[],_,p,hp,_,_=>by cases hp
 |y::r,O,p,hp,q,hq=>by
  have h:=(pairwise_cons.mp O.ch).1;rcases mem_cons.mp hp with e1|h1
  .rcases mem_cons.mp hq with e2|h2
   .exact .inl (e1.trans e2.symm)
   .rw[e1];exact .inr (.inl (h q h2))
  .rcases mem_cons.mp hq with e2|h2
   .rw[e2];exact .inr (.inr (h p h1))
   .exact tri O.tail p h1 q h2
structure Full(n:Nat)(c:Int)(l:Nat->Int)(ps:List Pc):Prop where
 ok:Ok n c ps
 l1:∀k,k<n->1<=l k
 all:∀k,k<n->dn ps k=l k
theorem dn_no{k:Nat}:∀{ps:List Pc},(∀p∈ps,p.1≠k)->dn ps k=0
 |[],_=>rfl
 |p::r,h=>by
  rw[dn,if_neg (h p mem_cons_self),dn_no λq hq=>h q (mem_cons_of_mem _ hq)];rfl
section
variable{n:Nat}{c:Int}{l:Nat->Int}{ps:List Pc}
theorem Full.has(F:Full n c l ps){k:Nat}(hk:k<n):∃p∈ps,p.1=k:=by
 refine Classical.byContradiction λh=>?_;have:=dn_no (k:=k) (ps:=ps) λp hp e=>h ⟨p,hp,e⟩;have h1:=F.all k hk;have h2:=F.l1 k hk;omega
abbrev E(ps:List Pc)(k:Nat):Int:=last ps k 0
theorem Full.inj(F:Full n c l ps){j k:Nat}(hj:j<n)(hk:k<n)(e:E ps j=E ps k):j=k:=by
 obtain⟨p,p1,p2,p3⟩:=last_in (v:=0) (F.has hj);obtain⟨q,q1,q2,q3⟩:=last_in (v:=0) (F.has hk);have a:=(F.ok.ea p p1).2.2;have b:=(F.ok.ea q q1).2.2;rcases tri F.ok p p1 q q1 with h|h|h
 .rw[<- p2,<- q2,h]
 .simp only[E]at e;omega
 .simp only[E]at e;omega
theorem Full.c_le(F:Full n c l ps){k:Nat}(hk:k<n):c<E ps k:=by
 obtain⟨p,p1,p2,p3⟩:=last_in (v:=0) (F.has hk);have a:=F.ok.ea p p1;simp only[E];omega
theorem sum_ite(a:Nat)(x:Int):∀{S:List Nat},S.Nodup->(S.map λj=>if a=j then x else 0).sum=if a∈S then x else 0
 |[],_=>by simp
 |y::r,nd=>by
  obtain⟨h1,h2⟩:=nodup_cons.mp nd;rw[map_cons,sum_cons,sum_ite a x h2];by_cases e:a=y
  .subst e;simp[h1]
  .simp[e]
theorem sum_add(f g:Nat->Int):∀S:List Nat,(S.map λj=>f j+g j).sum=(S.map f).sum+(S.map g).sum
 |[]=>by simp
 |y::r=>by simp only[map_cons,sum_cons,sum_add f g r];omega
end
end Pl
namespace L2
open PySem PySem.Spec PyProof.Rows PySem.W
abbrev Tb:=Addr×Str×Nat×Nat
def Vd(ts:List Tb):Obj:={ cls:=.str "tables" 0,data:=.fields (ts.flatMap λt=>[.ref t.1,.str t.2.1 0,.int t.2.2.1 0,.int t.2.2.2 0]).toArray }
def C3(K:PySem.W.Frag)(ts:List Tb):PySem.W.Frag:=(K.filter λp=>!(ts.map (·.1)).contains p.1)++[(mainGlobals,Vd ts)]
theorem QD:∀ts:List Tb,Lw (ts.flatMap λt=>[Value.ref t.1,.str t.2.1 0,.int t.2.2.1 0,.int t.2.2.2 0])=ts.map λt=>(t.1,t.2.1,⟨t.2.2.1,t.2.2.2,0,0⟩)
 |[]=>rfl
 |t::r=>by
  rw[List.flatMap_cons,map_cons,<- QD r];rfl
theorem HQ(K:PySem.W.Frag)(ts:List Tb):EM (C3 K ts)=ts.map λt=>(t.1,t.2.1,⟨t.2.2.1,t.2.2.2,0,0⟩):=by
 unfold EM C3;rw[List.getLast?_concat];show Lw _=_;rw[<- QD ts]
theorem G0{L:List Addr}{a:Addr}(ha:a∉L):∀K:PySem.W.Frag,(K.filter λp=>!L.contains p.1).lookup a=K.lookup a
 |[]=>rfl
 |(b,o)::r=>by
   have ih:=G0 ha r;rw[filter_cons];by_cases hb:b∈L
   .have h1:(!L.contains (b,o).1)=false:=by simp[hb]
    have h2:(a==b)=false:=beq_eq_false_iff_ne.mpr λz=>ha (z ▸ hb);rw[if_neg (by rw[h1];decide),lookup_cons,h2,ih]
   .have h1:(!L.contains (b,o).1)=true:=by simp[hb]
    rw[if_pos h1,lookup_cons,lookup_cons,ih]
theorem Hr{L:List Addr}{P:Addr}(hP:P∈L):∀K:PySem.W.Frag,(K.filter λp=>!L.contains p.1).lookup P=none
 |[]=>rfl
 |(b,o)::r=>by
   have ih:=Hr hP r;rw[filter_cons];by_cases hb:b∈L
   .rw[if_neg (by simp[hb])];exact ih
   .have h2:(P==b)=false:=beq_eq_false_iff_ne.mpr λz=>hb (z ▸ hP);rw[if_pos (by simp[hb]),lookup_cons,h2];exact ih
section
variable{K:PySem.W.Frag}{ts:List Tb}
theorem Hj{a:Addr}{o:Obj}(ha:a∉ts.map (·.1))(e:K.lookup a=some o):(C3 K ts).lookup a=some o:=by
 unfold C3;rw[lookup_append,G0 ha,e];rfl
theorem Vc{h:Heap}(X:K.In h){g:Obj}(hg:K.lookup mainGlobals=some g)(hP:mainGlobals∉ts.map (·.1)):(C3 K ts).In h:=λa o e=>by
 unfold C3 at e;rw[lookup_append]at e;by_cases ha:a∈ts.map (·.1)
 .rw[Hr ha,none_or]at e;have h2:(a==mainGlobals)=false:=beq_eq_false_iff_ne.mpr λz=>hP (z ▸ ha);rw[lookup_cons,h2]at e;cases e
 .rw[G0 ha]at e;cases k:K.lookup a with
  |some o'=>rw[k]at e;cases e;exact X _ _ k
  |none=>
   rw[k,none_or,lookup_cons]at e;by_cases hm:a=mainGlobals
   .subst hm;rw[hg]at k;cases k
   .rw[beq_eq_false_iff_ne.mpr hm]at e;cases e
theorem Vb(hM:mainGlobals∉ts.map (·.1)){P:Addr}(hP:P∈ts.map (·.1)):(C3 K ts).lookup P=none:=by
 unfold C3;have h2:(P==mainGlobals)=false:=beq_eq_false_iff_ne.mpr λz=>hM (z ▸ hP);rw[lookup_append,Hr hP,none_or,lookup_cons,h2];rfl
theorem Fun.mark{x qual:Str}{st:Stmt}{f:Addr}{fd:FuncData}(D:Fun K x qual st f fd){h:Heap}(X:K.In h)(hP:∀P∈ts.map (·.1),h.get? P=some (tabObj #[])):Fun (C3 K ts) x qual st f fd:=by
 have neP:∀a o,K.lookup a=some o->o≠tabObj #[]->a∉ts.map (·.1):=λa o e n z=>by
  have:=X _ _ e;rw[hP a z]at this;exact n (Option.some.inj this).symm
 obtain⟨⟨oc,od,kV,doc,pm,an,cdv,ct,osl,rfl,lk,hcd⟩,kp⟩:=D;have hf:f∉ts.map (·.1):=neP f _ lk (λz=>by cases z);refine⟨⟨oc,od,kV,doc,pm,an,cdv,ct,osl,rfl,Hj hf lk,?_⟩,?_⟩
 .unfold codeIn at hcd ⊢;split at hcd
  .next c0=>
   split at hcd
   .next vs sl k=>
    have hc:c0∉ts.map (·.1):=neP c0 _ k (λz=>by
     have:vs=#[]:=by injection z with _ _ z _;injection z
     rw[this]at hcd;cases hcd)
    simp only[Hj hc k];exact hcd
   .cases hcd
  .cases hcd
 .unfold keepIn;simp only[Hj hf lk]
end
theorem YN{K:PySem.W.Frag}{H:Hp}{a:Addr}{xs:List V}(hS:SqL K H a xs)(hO:∀ys,H a≠some (.lst ys)):RoL K H a xs:=by
 rcases hS with(h|h)|h
 .exact absurd h (hO xs)
 .exact .inl h
 .exact .inr h
theorem Qz{Pg:Program}{w:World}{K:PySem.W.Frag}{mg mb:Str->Option Value}{k:Nat}{fa a:Addr}{fd:FuncData}{x:Str}{ts:List Tb}{s₁:Shared}{vs:List Value}{ns:List Int}{F:List D->Hd->Option (D×Hd)}
 (KX:K.In s₁.heap) (hns:s₁.heap.Ns mainGlobals mg) (hb:s₁.heap.Ns builtinsNs mb) (hbb:∀x:Str,x≠"__name__"->mb x=bootBuiltins x) (hlim:s₁.heap.NoLimit) (hg:s₁.gens=#[])
 (ha:s₁.heap.get? a=some { cls:=.type "list",data:=.seq vs.toArray }) (hi:IntsAre vs ns) (hl:ns.length<=sizeLine) (hr:Room k callerA)
 (hT:∀P∈ts.map (·.1),∃cc,s₁.heap.TableAt cc P #[]) (hPK:∀P∈ts.map (·.1),K.lookup P=none) (htab:EM K=ts.map λt=>(t.1,t.2.1,⟨t.2.2.1,t.2.2.2,0,0⟩))
 (Fn:∀base:Heap,K.In base->base.Ns mainGlobals mg->(∀b o,b∉ts.map (·.1)->b≠a->s₁.heap.get? b=some o->base.get? b=some o)->FnOk Pg w K mg base CX0 k fa fd [x] (spF K 1 F)) (hbind:∀(s:Shared) (u:Value),BindsTo s fd ⟨[u],[]⟩ [(x,u)])
 (hF:∃hd',F [.ro ns] []=some (.im (.bl true),hd')):
 codeAny (model Pg w) callerA (.call (.ref fa) ⟨[.ref a],[]⟩) (λr s'=>r=.ok (.ret (.bool true))/\OldK s₁.heap s'.heap/\s'.os=s₁.os/\AllBare s'.gens) s₁:=by
 have rv:=LK hi;have lenV:=hi.length;have hP:∀P∈ts.map (·.1),s₁.heap.get? P=some (tabObj #[]):=λP h=>let ⟨cc,t⟩:=hT P h;t.2
 have haP:a∉ts.map (·.1):=λz=>by rw[hP a z]at ha;cases ha
 have core:∀H:Hp,(∀b,b∉ts.map (·.1)->H b=none∨∃o xs,H b=some (.frz o (.lst xs)))->(∀P∈ts.map (·.1),H P=some (.tbl #[]))->SqL K H a (ns.map V.int)->HOk Pg w H s₁.heap->(∀b,H b≠none->b=a∨b∈ts.map (·.1))->(H a≠none->K.lookup a=none) ->
  codeAny (model Pg w) callerA (.call (.ref fa) ⟨[.ref a],[]⟩) (λr s'=>r=.ok (.ret (.bool true))/\OldK s₁.heap s'.heap/\s'.os=s₁.os/\AllBare s'.gens) s₁:=by
  intro H hO hHP hS hok hA hK;have base_of:∀{b:Addr} {o:Obj},s₁.heap.get? b=some o->H b=none->(Gu s₁.heap H).get? b=some o:=λe n=>TK e n;have noA:∀{b:Addr} {o:Obj} {es:Array DictEntry} {ep:Nat},s₁.heap.get? b=some o->o.data=.dict es ep->H b=none:=λ{b o es ep} e d=>by
   cases q:H b with
   |none=>rfl
   |some u=>
    rcases hA b (by rw[q];simp)with e'|e'
    .subst e';rw[ha]at e;cases e;have d':Data.seq vs.toArray _=Data.dict es ep:=d;cases d'
    .rw[hP b e']at e;cases e;cases d
  have nsK:∀{b:Addr} {m:Str->Option Value},s₁.heap.Ns b m->(Gu s₁.heap H).Ns b m:=λ{b m} ⟨o,es,ep,e,d,r⟩=>⟨o,es,ep,base_of e (noA e d),d,r⟩
  have hKb:K.In (Gu s₁.heap H):=λb o e=>base_of (KX b o e) (by
   cases q:H b with
   |none=>rfl
   |some u=>
    rcases hA b (by rw[q];simp)with e'|e'
    .subst e';rw[hK (by rw[q];simp)]at e;cases e
    .rw[hPK b e']at e;cases e)
  have hM:Mod K mg (Gu s₁.heap H):=⟨hKb,nsK hns,⟨mb,nsK hb,hbb⟩,let ⟨mc,h1,h2⟩:=hlim;⟨mc,nsK h1,h2⟩⟩
  have e0:Env0 Pg w K mg (Gu s₁.heap H) callerA [] s₁ H:=⟨rfl,hM,λb o e=>VX e,Nat.le_of_eq (RK _ _),trivial,λb hb=>absurd (show b∈([]:List Addr)from hb) (by simp),hok,.of_eq hg⟩
  have hsp:spF K 1 F [.ref a] H (λv _=>v=.bl true) λ_ _ _=>False:=by
   obtain⟨hd',e⟩:=hF;refine⟨rfl,[],[],[.ro ns],.im (.bl true),hd',⟨rfl,List.nodup_nil,λy hy=>?_,λn o a h=>by simp at h⟩,?_,e,λρ' H' v _ _ r=>?_⟩
   .rw[htab]at hy;obtain⟨t,ht,rfl⟩:=mem_map.mp hy;exact⟨#[],hHP t.1 (mem_map.mpr ⟨t,ht,rfl⟩),.inl rfl⟩
   .simp only[RDs,RD];refine⟨_,_,rfl,⟨a,rfl,YN hS λys z=>?_⟩,rfl⟩;rcases hO a haP with q|⟨o,ys,q⟩<;>(rw[q]at z;cases z)
   .simpa only[RD,RI]using r
  refine codeAny_mono ((Fn _ hKb (nsK hns) λb o n1 n2 e=>base_of e (by
   cases q:H b with
   |none=>rfl
   |some u=>
    rcases hA b (by rw[q];simp)with e'|e'
    .exact absurd e' n2
    .exact absurd e' n1)).run callerA [] s₁ H ⟨[.ref a],[]⟩ [.ref a] [.ref a] _ _ hr e0 (hbind s₁ (.ref a)) (.cons rfl .nil) hsp) λr s' h=>?_
  cases r with
  |error e=>exact h.elim
  |ok fl=>
   cases fl with
   |next=>exact False.elim h
   |brk=>exact False.elim h
   |cont=>exact False.elim h
   |ret u=>
    obtain⟨v,H',os,bare,un,hok',r',q⟩:=h;have q':v=.bl true:=q;subst q';obtain rfl:u=Value.bool true:=r';have keep:∀b o,b∉ts.map (·.1)->s₁.heap.get? b=some o->s'.heap.get? b=some o:=λb o nb e=>by
     cases q:H b with
     |none=>exact un.keep b o e q (by intro z;exact absurd (show b∈([]:List Addr)from z) (by simp)) (by simp)
     |some u=>
      rcases hO b nb with z|⟨ob,xs,z⟩
      .rw[q]at z;cases z
      .have z2:=un.frzs b ob _ z;obtain⟨e1,_⟩:=hok b _ z;obtain⟨e2,_⟩:=hok' b _ z2;rw[e]at e1;cases e1;exact e2
    refine⟨rfl,⟨λb o e=>?_,λb o e=>?_⟩,os,bare⟩
    .by_cases nb:b∈ts.map (·.1)
     .obtain⟨cc,tb⟩:=hT b nb;obtain⟨more,hm⟩:=un.tbls b #[] (hHP b nb);have hb':s'.heap.get? b=some (tabObj (#[]++more)):=hok' b _ hm;rw[hP b nb]at e;cases e;exact .inr (.inl ⟨tb.isCodeTable,rfl,#[],more,rfl,hb'⟩)
     .exact .inl (keep b o nb e)
    .by_cases nb:b∈ts.map (·.1)
     .obtain⟨more,hm⟩:=un.tbls b #[] (hHP b nb);exact⟨_,hok' b _ hm⟩
     .exact⟨o,keep b o nb e⟩
 cases hk:K.lookup a with
 |some o=>
  have e:=KX a o hk;rw[ha]at e;cases e;refine core (λb=>if b∈ts.map (·.1)then some (.tbl #[])else none) (λb nb=>.inl (if_neg nb)) (λP hp=>if_pos hp) (.inr ⟨_,vs.toArray,_,hk,rfl,rfl,rfl,by rw[size_toArray,lenV];exact hl,by simpa using rv⟩) (λb u z=>?_) (λb z=>?_) λz=>absurd (if_neg haP) z
  .by_cases hb:b∈ts.map (·.1)
   .have z':=(if_pos hb).symm.trans z;cases z';exact hP b hb
   .have z':=(if_neg hb).symm.trans z;cases z'
  .by_cases hb:b∈ts.map (·.1)
   .exact .inr hb
   .exact absurd (if_neg hb) z
 |none=>
  refine core (λb=>if b∈ts.map (·.1)then some (.tbl #[])else if b=a then some (.frz { cls:=.type "list",data:=.seq vs.toArray } (.lst (ns.map V.int)))else none) (λb nb=>?_) (λP hp=>if_pos hp) (.inl (.inr ⟨{ cls:=.type "list",data:=.seq vs.toArray },(if_neg haP).trans (if_pos rfl)⟩)) (λb u z=>?_) (λb z=>?_) λ_=>hk
  .rw[if_neg nb];by_cases hb:b=a
   .exact .inr ⟨_,_,if_pos hb⟩
   .exact .inl (if_neg hb)
  .by_cases hp:b∈ts.map (·.1)
   .have z':=(if_pos hp).symm.trans z;cases z';exact hP b hp
   .have z:=(if_neg hp).symm.trans z;by_cases hb:b=a
    .have z':=(if_pos hb).symm.trans z;cases z';subst hb;exact⟨ha,by rw[length_map];exact hl,vs,_,rv,ha⟩
    .have z':=(if_neg hb).symm.trans z;cases z'
  .by_cases hp:b∈ts.map (·.1)
   .exact .inr hp
   .by_cases hb:b=a
    .exact .inl hb
    .exact absurd ((if_neg hp).trans (if_neg hb)) z
theorem walkL{l:PySem.W.OpenLaw}{n k:Nat}{q:Program}{loose:List Str}{XP:(Str->Option Value)->Heap->Prop}{YP:World->Heap->Prop}{d:DefRec}{K:Params->PySem.W.Frag}{F:List D->Hd->Option (D×Hd)}(xs:List (Str×Str×Nat×Nat))
 (hn:l.most=some n) (hn2:n<=sizeLine) (hdf:d.params.defaults=[]) (hr:Room k callerA) (hdr:∀x∈xs,∃dr,(recsOf q).find? (λe=>e.name==x.1)=some dr)
 (hF:∀ns:List Int,∃hd',F [.ro ns] []=some (.im (.bl true),hd'))
 (hY:∀(w:World) (h:Heap),YP w h->(K w.params).In h)
 (G:∀(w:World) (mg:Str->Option Value) (fa:Addr) (h:Heap) (c P:Str->Addr),(K w.params).In h->h.Ns mainGlobals mg->mg d.name=some (.ref fa) ->
  (∀x∈xs,h.get? (P x.1)=some (tabObj #[])/\CodeHd h (c x.1) (P x.1)/\∃a o fd,mg x.1=some (.ref a)/\h.get? a=some o/\o.data=.func fd/\fd.code=.ref (c x.1)) ->
  (∃g,(K w.params).lookup mainGlobals=some g)/\∃fd:FuncData,(∀(s:Shared) (u:Value),BindsTo s fd ⟨[u],[]⟩ [("_law_script",u)])/\
   ∀base:Heap,(C3 (K w.params) (xs.map λx=>(P x.1,x.2))).In base->base.Ns mainGlobals mg->(∀x∈xs,CodeHd base (c x.1) (P x.1))->(∀x∈xs,base.BuiltinsAt mg (P x.1))->FnOk l.prog w (C3 (K w.params) (xs.map λx=>(P x.1,x.2))) mg base CX0 k fa fd ["_law_script"] (spF (C3 (K w.params) (xs.map λx=>(P x.1,x.2))) 1 F)):
 PySem.W.WalkO q loose XP YP l.row.toRowW d [] (λf vs=>PySem.call f vs):=by
 refine Att.attach_call hn hdf λw s₀ s₁ mg mb fa o pm cd doc a vs ns Gr Y ho hd hcd hmg hobj hints hlen hg=>?_;have KX:=hY w _ Y;have each:∀x:Str,∃cp:Addr×Addr,(∃y∈xs,y.1=x)->(∃cc,s₁.heap.TableAt cc cp.2 #[])/\CodeHd s₁.heap cp.1 cp.2/\∃a o fd,mg x=some (.ref a)/\s₁.heap.get? a=some o/\o.data=.func fd/\fd.code=.ref cp.1:=by
  intro x;by_cases hx:∃y∈xs,y.1=x
  .obtain⟨y,hy,rfl⟩:=hx;obtain⟨dr,hdr⟩:=hdr y hy;have hnm:dr.name=y.1:=beq_iff_eq.mp (List.find?_some (p:=λe:DefRec=>e.name==y.1) hdr);obtain⟨a',o',fd',c,P,h1,h2,h3,h4,h5,h6⟩:=Gr.T.tab dr (List.mem_of_find?_eq_some hdr);rw[hnm]at h1;exact⟨(c,P),λ_=>⟨⟨_,h6⟩,CodeHd.of h5 h6,a',o',fd',h1,h2,h3,h4⟩⟩
  .exact⟨(0,0),λh=>absurd h hx⟩
 obtain⟨cp,hcp⟩:=Classical.skolem.mp each;have hcp:∀x∈xs,(∃cc,s₁.heap.TableAt cc (cp x.1).2 #[])/\CodeHd s₁.heap (cp x.1).1 (cp x.1).2/\∃a o fd,mg x.1=some (.ref a)/\s₁.heap.get? a=some o/\o.data=.func fd/\fd.code=.ref (cp x.1).1:=λx hx=>hcp x.1 ⟨x,hx,rfl⟩;have hts:∀P∈(xs.map λx=>((cp x.1).2,x.2)).map (·.1),∃x∈xs,P=(cp x.1).2:=λP hP=>by
  obtain⟨t,ht,rfl⟩:=mem_map.mp hP;obtain⟨x,hx,rfl⟩:=mem_map.mp ht;exact⟨x,hx,rfl⟩
 have hP:∀x∈xs,s₁.heap.get? (cp x.1).2=some (tabObj #[]):=λx hx=>by
  obtain⟨⟨cc,t⟩,_⟩:=hcp x hx;exact t.2
 have hmP:mainGlobals∉(xs.map λx=>((cp x.1).2,x.2)).map (·.1):=λz=>by
  obtain⟨x,hx,ez⟩:=hts _ z;obtain⟨o,es,ep,e,dd,_⟩:=Gr.T.g;rw[ez,hP x hx]at e;cases e;cases dd
 obtain⟨⟨g,hgl⟩,fd,hb,hFn⟩:=G w mg fa _ (λx=>(cp x).1) (λx=>(cp x).2) KX Gr.T.g hmg λx hx=>⟨hP x hx,(hcp x hx).2⟩
 refine Qz (ts:=xs.map λx=>((cp x.1).2,x.2)) (K:=C3 (K w.params) (xs.map λx=>((cp x.1).2,x.2))) (Vc KX hgl hmP) Gr.T.g Gr.T.b Gr.T.builtins Gr.T.nolimit hg hobj hints (le_trans hlen hn2) hr (λP hp=>by obtain⟨x,hx,rfl⟩:=hts P hp;exact(hcp x hx).1) (λP hp=>Vb hmP hp) (HQ _ _) (λbase kb nb keep=>hFn base kb nb (λx hx=>?_) λx hx=>?_) hb (hF ns)
 .obtain⟨oc,vs',file,tf,flags,tg,inF,text,tt,e1,r1,r2,r3,r4,r5,r6,r7,r8,hne⟩:=(hcp x hx).2.1;have hn:(cp x.1).1∉(xs.map λx=>((cp x.1).2,x.2)).map (·.1):=λz=>by
   obtain⟨y,hy,ez⟩:=hts _ z;rw[ez,hP y hy]at e1;cases e1;cases r1
  exact⟨oc,vs',file,tf,flags,tg,inF,text,tt,keep (cp x.1).1 oc hn (λz=>by rw[z,hobj]at e1;cases e1;exact absurd (show Value.type "list"=Value.type "code" from r1) (by decide)) e1,r1,r2,r3,r4,r5,r6,r7,r8,hne⟩
 .obtain⟨bm,ob,b1,b2,b3,b4,b5,b6⟩:=Gr.T.bmain;have nP:∀y∈xs,bm≠(cp y.1).2:=λy hy z=>by rw[z,hP y hy]at b3;cases b3;cases b4
  have hn:bm∉(xs.map λx=>((cp x.1).2,x.2)).map (·.1):=λz=>by
   obtain⟨y,hy,ez⟩:=hts _ z;exact nP y hy ez
  refine⟨bm,ob,b1,b2,λz=>?_,nP x hx,keep bm ob hn (λz=>by rw[z,hobj]at b3;cases b3;exact absurd (show Value.type "list"=Value.type "module" from b4) (by decide)) b3,b4,b5,b6⟩;obtain⟨o,es,ep,e,dd,_⟩:=Gr.T.g;rw[<- z,b3]at e;cases e;rw[b6]at dd;cases dd
end L2
namespace L2
open PySem PySem.W PyProof.Rows
def Fx(K:PySem.W.Frag)(n:Str)(s:Stmt)(f:Addr)(oc kV dc pm cd ct:Value)(od an:Option Addr)(sl:Array (Option Value)):Prop:=PySem.W.nsIn K mainGlobals n=some (some (.ref f))/\K.lookup f=some ⟨oc,od,.func (PySem.W.fnOf n n (DF s) (CD s) (AN s) .none kV dc pm an cd ct),sl⟩/\PySem.W.codeIn K cd n=true/\PySem.W.keepIn K (.ref f)=true
theorem B1{K:PySem.W.Frag}{n:Str}{s:Stmt}{f:Addr}{oc kV dc pm cd ct:Value}{od an:Option Addr}{sl:Array (Option Value)}(H:Fx K n s f oc kV dc pm cd ct od an sl){h:Heap}{mg:Str->Option Value}(X:K.In h)(G:h.Ns mainGlobals mg){ts:List Tb}(hP:∀P∈ts.map (·.1),h.get? P=some (tabObj #[])){ps:List Str}
 (b:∀(kV doc pm:Value) (an:Option Addr) (cdv ct:Value) (us:List Value),us.length=ps.length->bindArgs (PySem.W.fnOf n n (DF s) (CD s) (AN s) .none kV doc pm an cdv ct) ⟨us,[]⟩=pure (ps.zip us)):∃fd,DefAt (C3 K ts) mg n s f fd ps:=by
 obtain⟨a,l,c,k⟩:=H;have F:=Fun.mark (ts:=ts) (NA (st:=s) l c k) X hP;exact⟨_,F,PySem.W.mg_of X G a,F.binds b⟩
end L2
namespace T15
open PySem L2
def top(i:Nat):Stmt:=PySem.Challenge.pw_benchdays_k15_whole_moved_by_days.main.body.getD i (.Pass ⟨0,0,0,0⟩)
abbrev Do:Stmt:=top 1
theorem Md:FnScope ["thing"] ["thing"] (AN Do):=⟨rfl,rfl,rfl,by decide +kernel,rfl,by decide +kernel,by decide +kernel⟩
@[reducible] def Iu:MS:=(Ac (Eu (Ho .int (A0 0)) (K8 (Ho .bool (A0 0)))))
def CC:List D->Hd->Option (D×Hd):=mkF 1 1 Iu
abbrev Cp:Stmt:=top 2
theorem Ip:FnScope ["least","thing"] ["least","thing"] (AN Cp):=⟨rfl,rfl,rfl,by decide +kernel,rfl,by decide +kernel,by decide +kernel⟩
@[reducible] def Fd:MS:=(Ac (Eu (A9 0 CC (A1 (A0 1) A4)) (mOp gGe (A0 1) (A0 0))))
def CI:List D->Hd->Option (D×Hd):=mkF 2 2 Fd
abbrev CK:Stmt:=top 3
theorem Gf:FnScope ["many","thing"] ["many","thing"] (AN CK):=⟨rfl,rfl,rfl,by decide +kernel,rfl,by decide +kernel,by decide +kernel⟩
@[reducible] def Ee:MS:=(Ac (Eu (A9 0 CI (A1 (mC (.int 0)) (A1 (A0 1) A4))) (mOp gLt (A0 1) (A0 0))))
def By:List D->Hd->Option (D×Hd):=mkF 2 2 Ee
abbrev E3:Stmt:=top 4
theorem Kj:FnScope ["many","thing"] ["many","thing"] (AN E3):=⟨rfl,rfl,rfl,by decide +kernel,rfl,by decide +kernel,by decide +kernel⟩
@[reducible] def HJ:MS:=(Ac (Eu (Ho .tuple (A0 1)) (mOp gEq (mCB (f1 true C1) (A1 (A0 1) A4)) (A0 0))))
def DC:List D->Hd->Option (D×Hd):=mkF 2 2 HJ
abbrev Lx:Stmt:=top 6
theorem bS:FnScope ["works","order","pieces","end","work","length","coming","cost","begin"] ["works","order"] (AN Lx):=⟨rfl,rfl,rfl,by decide +kernel,rfl,by decide +kernel,by decide +kernel⟩
@[reducible] def cy:MS:=(AA (AO 2 (BN (BF A4)))
 (AA (AO 3 (mC (.int 0)))
 (AA (Bl (BG (A0 1)) (AF 4)
  (AA (FG (mOp gIx (A0 0) (A0 4)) (Bz 3 (Ae (AF 5) (Ae (AF 6) (Ae (AF 7) C0)))))
 (AA (AO 8 (mCB Gz (A1 (A0 6) (A1 (A0 3) A4))))
 (AA (AO 3 (mOp AW (A0 8) (A0 5)))
 (C4 (mMt BH (A0 2) (A1 (B2 (A1 (A0 4) (A1 (A0 8) (A1 (A0 3) A4)))) A4)))))))
 (Ac (mCB (f1 true B9) (A1 (A0 2) A4))))))
def F_run:List D->Hd->Option (D×Hd):=mkF 2 9 cy
abbrev FH:Stmt:=top 11
theorem bA:FnScope ["rows","t","told","begin","amount"] ["rows","t"] (AN FH):=⟨rfl,rfl,rfl,by decide +kernel,rfl,by decide +kernel,by decide +kernel⟩
@[reducible] def c9:MS:=(AA (AO 2 (mC (.int 0)))
 (AA (Bl (BG (A0 0)) (Bz 2 (Ae (AF 3) (Ae (AF 4) C0)))
  (AA (Ay (AU (mOp gGt (A0 3) (A0 1)))
  (Ac (A0 2))
  Ap)
 (AO 2 (A0 4))))
 (Ac (A0 2))))
def aU:List D->Hd->Option (D×Hd):=mkF 2 5 c9
abbrev Fp:Stmt:=top 12
theorem cR:FnScope ["cost","t","word","above"] ["cost","t"] (AN Fp):=⟨rfl,rfl,rfl,by decide +kernel,rfl,by decide +kernel,by decide +kernel⟩
@[reducible] def cE:MS:=(AA (AO 2 (mOp gIx (A0 0) (mC (.int 0))))
 (AA (Ay (AU (mOp gEq (A0 2) (mC (.str "steps"))))
  (Ac (A9 0 aU (A1 (mOp gIx (A0 0) (mC (.int 1))) (A1 (A0 1) A4))))
  Ap)
 (AA (Ay (AU (mOp gEq (A0 2) (mC (.str "ends"))))
  (Ac (mOp DS (mOp gIx (A0 0) (mC (.int 1))) (A0 1)))
  Ap)
 (AA (AO 3 (mOp CL (A0 1) (mOp gIx (A0 0) (mC (.int 1)))))
 (AA (Ay (AU (mOp gEq (A0 2) (mC (.str "late"))))
  (Ac (A0 3))
  Ap)
 (AA (Ay (AU (mOp gLe (A0 3) (mC (.int 0))))
  (Ac (mC (.int 0)))
  Ap)
 (AA (Ay (AU (mOp gEq (A0 2) (mC (.str "tardy"))))
  (Ac (mOp DS (mOp gIx (A0 0) (mC (.int 2))) (A0 3)))
  Ap)
 (Ac (mOp gIx (A0 0) (mC (.int 2)))))))))))
def aN:List D->Hd->Option (D×Hd):=mkF 2 4 cE
abbrev Ep:Stmt:=top 13
theorem Mc:FnScope ["cost","days"] ["cost","days"] (AN Ep):=⟨rfl,rfl,rfl,by decide +kernel,rfl,by decide +kernel,by decide +kernel⟩
@[reducible] def Is:MS:=(AA (Ay (mOr (AU (mOp gEq (mOp gIx (A0 0) (mC (.int 0))) (mC (.str "ends")))) (AU (mOp gEq (mOp gIx (A0 0) (mC (.int 0))) (mC (.str "steps")))))
 K9
 Ap)
 (Ac (mOp AW (B2 (A1 (mOp gIx (A0 0) (mC (.int 0))) (A1 (mOp AW (mOp gIx (A0 0) (mC (.int 1))) (A0 1)) A4))) (E8 (A0 0) (Bu (mC (.int 2))) BU))))
def Dz:List D->Hd->Option (D×Hd):=mkF 2 2 Is
abbrev EO:Stmt:=top 14
theorem Lo:FnScope ["cost","days"] ["cost","days"] (AN EO):=⟨rfl,rfl,rfl,by decide +kernel,rfl,by decide +kernel,by decide +kernel⟩
@[reducible] def Hk:MS:=(AA (Ay (AU (mOp gEq (mOp gIx (A0 0) (mC (.int 0))) (mC (.str "ends"))))
 K9
 Ap)
 (AA (Ay (AU (mOp gEq (mOp gIx (A0 0) (mC (.int 0))) (mC (.str "steps"))))
  (Ac (B2 (A1 (mC (.str "steps")) (A1 (Ct B9 (BA 2 [1] (BG (mOp gIx (A0 0) (mC (.int 1)))) (Bz 2 (Ae (AF 0) (Ae (AF 1) C0))) Bg (B2 (A1 (mOp AW (A0 0) (A0 2)) (A1 (A0 1) A4))))) A4))))
  Ap)
 (Ac (A9 0 Dz (A1 (A0 0) (A1 (A0 1) A4))))))
def Bn:List D->Hd->Option (D×Hd):=mkF 2 2 Hk
abbrev FI:Stmt:=top 16
theorem bg:FnScope ["works","thing","work","begin","end"] ["works","thing"] (AN FI):=⟨rfl,rfl,rfl,by decide +kernel,rfl,by decide +kernel,by decide +kernel⟩
@[reducible] def K4:MS:=(AA (Ay (Ei (DH (A9 0 DC (A1 (mC (.int 3)) (A1 (A0 1) A4)))))
 (Ac (mC (.bl false)))
 Ap)
 (AA (FG (A0 1) (Bz 3 (Ae (AF 2) (Ae (AF 3) (Ae (AF 4) C0)))))
 (AA (Ay (mOr (Ei (DH (A9 0 By (A1 (mCB (f1 true C1) (A1 (A0 0) A4)) (A1 (A0 2) A4))))) (mOr (Ei (DH (A9 0 CC (A1 (A0 3) A4)))) (Ei (DH (A9 0 CC (A1 (A0 4) A4))))))
  (Ac (mC (.bl false)))
  Ap)
 (Ac (Eu (mOp gLe (mOp gIx (mOp gIx (A0 0) (A0 2)) (mC (.int 1))) (A0 3)) (mOp gLt (A0 3) (A0 4)))))))
def Ed:List D->Hd->Option (D×Hd):=mkF 2 5 K4
abbrev DJ:Stmt:=top 17
theorem J8:FnScope ["pieces"] ["pieces"] (AN DJ):=⟨rfl,rfl,rfl,by decide +kernel,rfl,by decide +kernel,by decide +kernel⟩
@[reducible] def Ft:MS:=(Ac (Ct JN (BA 2 [] (Hl (BG (A0 0)) (BG (Kv (A0 0) (Bu (mC (.int 1))) BU))) (Bz 2 (Ae (AF 0) (Ae (AF 1) C0))) Bg (mOp gLe (mOp gIx (A0 0) (mC (.int 2))) (mOp gIx (A0 1) (mC (.int 1)))))))
def CZ:List D->Hd->Option (D×Hd):=mkF 1 1 Ft
abbrev DW:Stmt:=top 18
theorem aT:FnScope ["works","pieces","done","work","begin","end"] ["works","pieces"] (AN DW):=⟨rfl,rfl,rfl,by decide +kernel,rfl,by decide +kernel,by decide +kernel⟩
@[reducible] def GN:MS:=(AA (AO 2 (BN (BA 1 [] (BG (A0 0)) (AF 0) Bg (mC (.int 0)))))
 (AA (Bl (BG (A0 1)) (Bz 3 (Ae (AF 3) (Ae (AF 4) (Ae (AF 5) C0))))
  (KA (A0 2) (A0 3) (mOp CL (A0 5) (A0 4)) (λi j=>i+j)))
 (Ac (A0 2))))
def Ch:List D->Hd->Option (D×Hd):=mkF 2 6 GN
abbrev DX:Stmt:=top 19
theorem Jg:FnScope ["wishes","pieces","ends"] ["wishes","pieces","ends"] (AN DX):=⟨rfl,rfl,rfl,by decide +kernel,rfl,by decide +kernel,by decide +kernel⟩
@[reducible] def GO:MS:=(Ac (mCB (f1 false JN) (A1 (Hq 5 [1,2] (BG (A0 0)) (Bz 2 (Ae (AF 0) (Ae (AF 1) C0))) Bg (BG (A0 5)) (Bz 3 (Ae (AF 2) (Ae (AF 3) (Ae (AF 4) C0)))) (AU (mOp gEq (A0 2) (A0 1))) (mOp gLe (mOp gIx (A0 6) (A0 0)) (A0 3))) A4)))
def Ci:List D->Hd->Option (D×Hd):=mkF 3 3 GO
abbrev ED:Stmt:=top 21
theorem b9:FnScope ["works","plan","ends","work","begin","end"] ["works","plan"] (AN ED):=⟨rfl,rfl,rfl,by decide +kernel,rfl,by decide +kernel,by decide +kernel⟩
@[reducible] def bo:MS:=(AA (AO 2 (BN (BA 1 [] (BG (A0 0)) (AF 0) Bg (mC (.int 0)))))
 (AA (Bl (BG (A0 1)) (Bz 3 (Ae (AF 3) (Ae (AF 4) (Ae (AF 5) C0))))
  (Fu (A0 2) (A0 3) (A0 5)))
 (Ac (mCB (f1 true B9) (A1 (A0 2) A4)))))
def F_ends_of:List D->Hd->Option (D×Hd):=mkF 2 6 bo
abbrev Fo:Stmt:=top 20
theorem Ot:FnScope ["works","wishes","thing"] ["works","wishes","thing"] (AN Fo):=⟨rfl,rfl,rfl,by decide +kernel,rfl,by decide +kernel,by decide +kernel⟩
@[reducible] def LQ:MS:=(AA (Ay (mOr (Ei (DH (Ho .tuple (A0 2)))) (Ei (DH (Ct JN (BA 1 [0] (BG (A0 2)) (AF 0) Bg (A9 0 Ed (A1 (A0 1) (A1 (A0 0) A4))))))))
 (Ac (mC (.bl false)))
 Ap)
 (AA (Ay (Ei (DH (A9 0 CZ (A1 (A0 2) A4))))
  (Ac (mC (.bl false)))
  Ap)
 (AA (Ay (AU (Cb true (A9 0 Ch (A1 (A0 0) (A1 (A0 2) A4))) (BA 1 [] (BG (A0 0)) (AF 0) Bg (mOp gIx (A0 0) (mC (.int 0))))))
  (Ac (mC (.bl false)))
  Ap)
 (Ac (A9 0 Ci (A1 (A0 1) (A1 (A0 2) (A1 (A9 0 F_ends_of (A1 (A0 0) (A1 (A0 2) A4))) A4))))))))
def DU:List D->Hd->Option (D×Hd):=mkF 3 3 LQ
abbrev C6:Stmt:=top 22
theorem dB:FnScope ["works","plan","ends"] ["works","plan"] (AN C6):=⟨rfl,rfl,rfl,by decide +kernel,rfl,by decide +kernel,by decide +kernel⟩
@[reducible] def LR:MS:=(AA (AO 2 (A9 0 F_ends_of (A1 (A0 0) (A1 (A0 1) A4))))
 (Ac (Ct B9 (OB (A1 (mCB (f1 true C1) (A1 (A0 0) A4)) A4) [2] (mOp gIx (A0 1) (A0 0))))))
def EK:List D->Hd->Option (D×Hd):=mkF 2 3 LR
abbrev EQ:Stmt:=top 24
theorem Nb:FnScope ["works","ends"] ["works","ends"] (AN EQ):=⟨rfl,rfl,rfl,by decide +kernel,rfl,by decide +kernel,by decide +kernel⟩
@[reducible] def bQ:MS:=(Ac (Ct B9 (BA 2 [] (Hl (BG (A0 0)) (BG (A0 1))) (Bz 2 (Ae (AF 0) (Ae (AF 1) C0))) Bg (A9 0 aN (A1 (mOp gIx (A0 0) (mC (.int 2))) (A1 (A0 1) A4))))))
def F_costs_of:List D->Hd->Option (D×Hd):=mkF 2 2 bQ
abbrev IL:Stmt:=top 25
theorem dY:FnScope ["works","ends","question","costs"] ["works","ends","question"] (AN IL):=⟨rfl,rfl,rfl,by decide +kernel,rfl,by decide +kernel,by decide +kernel⟩
@[reducible] def cB:MS:=(AA (AO 3 (A9 0 F_costs_of (A1 (A0 0) (A1 (A0 1) A4))))
 (AA (Ay (AU (mOp gEq (A0 2) (mC (.str "greatest"))))
  (Ac (mCB (f1 true Hs) (A1 (A0 3) A4)))
  Ap)
 (Ac (mCB (f1 true PK) (A1 (A0 3) A4)))))
def F_worth:List D->Hd->Option (D×Hd):=mkF 3 4 cB
abbrev En:Stmt:=top 27
theorem Mb:FnScope ["works","j","work"] ["works","j","work"] (AN En):=⟨rfl,rfl,rfl,by decide +kernel,rfl,by decide +kernel,by decide +kernel⟩
@[reducible] def Ir:MS:=(Ac (mOp AW (mOp KI (E8 (A0 0) BU (Bu (A0 1))) (B2 (A1 (A0 2) A4))) (E8 (A0 0) (Bu (mOp AW (A0 1) (mC (.int 1)))) BU)))
def Dy:List D->Hd->Option (D×Hd):=mkF 3 3 Ir
abbrev E2:Stmt:=top 28
theorem Ki:FnScope ["works","j","number"] ["works","j","number"] (AN E2):=⟨rfl,rfl,rfl,by decide +kernel,rfl,by decide +kernel,by decide +kernel⟩
@[reducible] def HI:MS:=(Ac (A9 0 Dy (A1 (A0 0) (A1 (A0 1) (A1 (B2 (A1 (mOp gIx (mOp gIx (A0 0) (A0 1)) (mC (.int 0))) (A1 (A0 2) (A1 (mOp gIx (mOp gIx (A0 0) (A0 1)) (mC (.int 2))) A4)))) A4)))))
def DB:List D->Hd->Option (D×Hd):=mkF 3 3 HI
abbrev Ji:Stmt:=top 30
theorem UW:FnScope ["_law_script"] ["_law_script"] (AN Ji):=⟨rfl,rfl,rfl,by decide +kernel,rfl,by decide +kernel,by decide +kernel⟩
@[reducible] def cz:MS:=(Ac (KB [((mC (.str "cells")),(BN (Hn (JK (A0 0) BU (Bu (mC (.int 63))))))),((mC (.str "next")),(mC (.int 0))),((mC (.str "left")),(mC (.int 0))),((mC (.str "turn")),(mC (.int 0)))]))
def F_tape:List D->Hd->Option (D×Hd):=mkF 1 1 cz
abbrev Dn:Stmt:=top 31
theorem bZ:FnScope ["_law_tape_here","_law_many","_law_found","_law_cells","_law_at","_law_turn","_law_cell","_law_mixed"] ["_law_tape_here","_law_many"] (AN Dn):=⟨rfl,rfl,rfl,by decide +kernel,rfl,by decide +kernel,by decide +kernel⟩
@[reducible] def dA:MS:=(AA (EY (A0 0) (mC (.str "turn")) (mOp AW (mOp CT (A0 0) (mC (.str "turn"))) (mC (.int 1))))
 (AA (Ay (AU (mOp gGt (mOp CT (A0 0) (mC (.str "left"))) (mC (.int 0))))
  (AA (AO 2 (mOp Cu (mOp CT (A0 0) (mC (.str "left"))) (A0 1)))
 (AA (EY (A0 0) (mC (.str "left")) (mOp Gw (mOp CT (A0 0) (mC (.str "left"))) (A0 1)))
 (Ac (A0 2))))
  Ap)
 (AA (K7 3 4 5 (A1 (mOp CT (A0 0) (mC (.str "cells"))) (A1 (mOp CT (A0 0) (mC (.str "next"))) (A1 (mOp CT (A0 0) (mC (.str "turn"))) A4))))
 (AA (AO 6 (mIf (AU (Cb true (A0 3) (BF A4))) (mOp gIx (A0 3) (mOp Cu (A0 4) (mCB (f1 true C1) (A1 (A0 3) A4)))) (mC (.int 23))))
 (AA (EY (A0 0) (mC (.str "next")) (mOp AW (A0 4) (mC (.int 1))))
 (AA (Ay (Gp (AU (mOp gGe (A0 6) (mOp TN (mC (.int 10)) (mC (.int 18))))) (AU (mOp gLt (A0 4) (mCB (f1 true C1) (A1 (A0 3) A4)))))
  (AA (EY (A0 0) (mC (.str "left")) (mOp Gw (A0 6) (A0 1)))
 (Ac (mOp Cu (A0 6) (A0 1))))
  Ap)
 (AA (AO 7 (mOp Cu (mOp AW (mOp AW (mOp Cu (A0 6) (mC (.int 2147483587))) (mOp DS (mC (.int 104729)) (A0 5))) (mC (.int 17))) (mC (.int 2147483629))))
 (AA (AO 7 (mOp Cu (mOp AW (mOp DS (A0 7) (A0 7)) (mOp DS (mC (.int 48271)) (A0 5))) (mC (.int 2147483647))))
 (AA (AO 7 (mOp Cu (mOp AW (mOp AW (mOp DS (A0 7) (A0 7)) (mOp DS (mC (.int 7919)) (A0 7))) (A0 5)) (mC (.int 2147483629))))
 (Ac (mOp Cu (mOp Gw (A0 7) (mC (.int 128))) (A0 1))))))))))))
def F_pick:List D->Hd->Option (D×Hd):=mkF 2 8 dA
abbrev HW:Stmt:=top 32
theorem bJ:FnScope ["_law_tape_here","_law_way","_law_due","_law_weight","_law_start","_law_told","_law_rows","_law_k"] ["_law_tape_here","_law_way"] (AN HW):=⟨rfl,rfl,rfl,by decide +kernel,rfl,by decide +kernel,by decide +kernel⟩
@[reducible] def bR:MS:=(AA (AO 2 (mIf (AU (mOp gEq (A9 2 F_pick (A1 (A0 0) (A1 (mC (.int 4)) A4))) (mC (.int 0)))) (mOp CL (A9 2 F_pick (A1 (A0 0) (A1 (mC (.int 500)) A4))) (mC (.int 99))) (mOp CL (A9 2 F_pick (A1 (A0 0) (A1 (mC (.int 40)) A4))) (mC (.int 5)))))
 (AA (AO 3 (A9 2 F_pick (A1 (A0 0) (A1 (mC (.int 10)) A4))))
 (AA (Ay (AU (mOp gLt (A0 1) (mC (.int 4))))
  (Ac (DQ (BF (A1 (B2 (A1 (mC (.str "late")) (A1 (A0 2) A4))) (A1 (B2 (A1 (mC (.str "tardy")) (A1 (A0 2) (A1 (A0 3) A4)))) (A1 (B2 (A1 (mC (.str "miss")) (A1 (A0 2) (A1 (A0 3) A4)))) (A1 (B2 (A1 (mC (.str "ends")) (A1 (A0 3) A4))) A4))))) (A0 1)))
  Ap)
 (AA (Hm [4,5] (A1 (mCB Ih (A1 (A0 2) (A1 (mC (.int 200)) A4))) (A1 (mC (.int 0)) A4)))
 (AA (AO 6 (BN (BF A4)))
 (AA (Bl (DI (A1 (mOp AW (mC (.int 1)) (A9 2 F_pick (A1 (A0 0) (A1 (mC (.int 5)) A4)))) A4)) (AF 7)
  (AA (AO 4 (mOp AW (mOp AW (A0 4) (mC (.int 1))) (A9 2 F_pick (A1 (A0 0) (A1 (mC (.int 40)) A4)))))
 (AA (AO 5 (mOp AW (A0 5) (A9 2 F_pick (A1 (A0 0) (A1 (mC (.int 20)) A4)))))
 (C4 (mMt BH (A0 6) (A1 (B2 (A1 (A0 4) (A1 (A0 5) A4))) A4))))))
 (Ac (B2 (A1 (mC (.str "steps")) (A1 (mCB (f1 true B9) (A1 (A0 6) A4)) A4))))))))))
def F_cost:List D->Hd->Option (D×Hd):=mkF 2 8 bR
abbrev IM:Stmt:=top 33
theorem ba:FnScope ["_law_tape_here","_law_many","_law_alike","_law_begin","_law_wide","_law_found","_law_k","_law_coming"] ["_law_tape_here","_law_many","_law_alike"] (AN IM):=⟨rfl,rfl,rfl,by decide +kernel,rfl,by decide +kernel,by decide +kernel⟩
@[reducible] def ck:MS:=(AA (AO 3 (mOp DS (A9 2 F_pick (A1 (A0 0) (A1 (mC (.int 61)) A4))) (A9 2 F_pick (A1 (A0 0) (A1 (mC (.int 2)) A4)))))
 (AA (AO 4 (DQ (BF (A1 (mC (.int 3)) (A1 (mC (.int 20)) A4))) (A9 2 F_pick (A1 (A0 0) (A1 (mC (.int 2)) A4)))))
 (AA (AO 5 (BN (BF A4)))
 (AA (Bl (DI (A1 (A0 1) A4)) (AF 6)
  (AA (AO 7 (mIf (DH (A0 2)) (A0 3) (A9 2 F_pick (A1 (A0 0) (A1 (DQ (BF (A1 (mC (.int 8)) (A1 (mC (.int 61)) A4))) (A9 2 F_pick (A1 (A0 0) (A1 (mC (.int 2)) A4)))) A4)))))
 (C4 (mMt BH (A0 5) (A1 (B2 (A1 (mOp AW (mC (.int 1)) (A9 2 F_pick (A1 (A0 0) (A1 (A0 4) A4)))) (A1 (A0 7) (A1 (A9 2 F_cost (A1 (A0 0) (A1 (A9 2 F_pick (A1 (A0 0) (A1 (mC (.int 5)) A4))) A4))) A4)))) A4)))))
 (Ac (mCB (f1 true B9) (A1 (A0 5) A4)))))))
def F_works:List D->Hd->Option (D×Hd):=mkF 3 8 ck
abbrev Gg:Stmt:=top 34
theorem aq:FnScope ["_law_tape_here","_law_many","_law_left","_law_seq","_law_k","_law_dense","_law_found","_law_i","_law_j"] ["_law_tape_here","_law_many"] (AN Gg):=⟨rfl,rfl,rfl,by decide +kernel,rfl,by decide +kernel,by decide +kernel⟩
@[reducible] def cC:MS:=(AA (AO 2 (BN (Go (A1 (A0 1) A4))))
 (AA (AO 3 (BN (BF A4)))
 (AA (Bl (DI (A1 (A0 1) A4)) (AF 4)
  (C4 (mMt BH (A0 3) (A1 (mMt Hw (A0 2) (A1 (A9 2 F_pick (A1 (A0 0) (A1 (mCB (f1 true C1) (A1 (A0 2) A4)) A4))) A4)) A4))))
 (AA (AO 5 (DQ (BF (A1 (mC (.int 2)) (A1 (mC (.int 3)) (A1 (mC (.int 6)) A4)))) (A9 2 F_pick (A1 (A0 0) (A1 (mC (.int 3)) A4)))))
 (AA (AO 6 (BN (BF A4)))
 (AA (Bl (DI (A1 (A0 1) A4)) (AF 7)
  (Bl (Fv (A1 (mOp AW (A0 7) (mC (.int 1))) (A1 (A0 1) A4))) (AF 8)
  (Ay (AU (mOp gEq (A9 2 F_pick (A1 (A0 0) (A1 (A0 5) A4))) (mC (.int 0))))
  (C4 (mMt BH (A0 6) (A1 (B2 (A1 (mOp gIx (A0 3) (A0 7)) (A1 (mOp gIx (A0 3) (A0 8)) A4))) A4)))
  Ap)))
 (Ac (Ct B9 (JK (BN (Ff (EX (A0 6)))) BU (Bu (mC (.int 16))))))))))))
def F_wishes:List D->Hd->Option (D×Hd):=mkF 2 9 cC
abbrev IN:Stmt:=top 35
theorem bH:FnScope ["_law_tape_here","_law_many","_law_wishes_here","_law_left","_law_found","_law_k","_law_some","_law_one"] ["_law_tape_here","_law_many","_law_wishes_here"] (AN IN):=⟨rfl,rfl,rfl,by decide +kernel,rfl,by decide +kernel,by decide +kernel⟩
@[reducible] def O8:MS:=(AA (AO 3 (BN (Go (A1 (A0 1) A4))))
 (AA (AO 4 (BN (BF A4)))
 (AA (Bl (DI (A1 (A0 1) A4)) (AF 5)
  (Fe (AA (AO 6 (BN (BA 1 [2,3] (EX (A0 3)) (AF 0) (AU (Et false (BA 2 [0,2] (BG (A0 1)) (Bz 2 (Ae (AF 0) (Ae (AF 1) C0))) (Gp (AU (mOp gEq (A0 1) (A0 2))) (AU (mOp (gIn false) (A0 0) (A0 3)))) (A0 0)) (BF A4))) (A0 0))))
 (AA (AO 7 (mOp gIx (A0 6) (A9 2 F_pick (A1 (A0 0) (A1 (mCB (f1 true C1) (A1 (A0 6) A4)) A4)))))
 (AA (C4 (mMt Ig (A0 3) (A1 (A0 7) A4)))
 (C4 (mMt BH (A0 4) (A1 (A0 7) A4))))))))
 (Ac (mCB (f1 true B9) (A1 (A0 4) A4))))))
def GX:List D->Hd->Option (D×Hd):=mkF 3 8 O8
abbrev Ly:Stmt:=top 36
theorem dZ:FnScope ["_law_works_here","_law_wishes_here","_law_left","_law_work","_law_firsts"] ["_law_works_here","_law_wishes_here","_law_left","_law_work"] (AN Ly):=⟨rfl,rfl,rfl,by decide +kernel,rfl,by decide +kernel,by decide +kernel⟩
@[reducible] def U5:MS:=(AA (AO 4 (BN (BA 2 [3] (BG (A0 1)) (Bz 2 (Ae (AF 0) (Ae (AF 1) C0))) (AU (mOp gEq (A0 1) (A0 2))) (A0 0))))
 (Ac (Eu (mOp gGt (mOp gIx (A0 2) (A0 3)) (mC (.int 0))) (Et false (BA 1 [2] (EX (A0 4)) (AF 0) (AU (mOp gGt (mOp gIx (A0 1) (A0 0)) (mC (.int 0)))) (A0 0)) (BF A4)))))
def KZ:List D->Hd->Option (D×Hd):=mkF 4 5 U5
abbrev Jk:Stmt:=top 37
theorem aO:FnScope ["_law_tape_here","_law_works_here","_law_wishes_here","_law_left","_law_found","_law_now","_law_gaps","_law_turn","_law_some","_law_work","_law_here","_law_days"] ["_law_tape_here","_law_works_here","_law_wishes_here"] (AN Jk):=⟨rfl,rfl,rfl,by decide +kernel,rfl,by decide +kernel,by decide +kernel⟩
@[reducible] def Qx:MS:=(AA (AO 3 (BN (BA 1 [] (BG (A0 1)) (AF 0) Bg (mOp gIx (A0 0) (mC (.int 0))))))
 (AA (AO 4 (BN (BF A4)))
 (AA (FG (B2 (A1 (mC (.int 0)) (A1 (mC (.int 4)) A4))) (Bz 2 (Ae (AF 5) (Ae (AF 6) C0))))
 (AA (Bl (DI (A1 (mC (.int 60)) A4)) (AF 7)
  (Fe (AA (AO 8 (BN (BF A4)))
 (AA (Bl (DI (A1 (mCB (f1 true C1) (A1 (A0 1) A4)) A4)) (AF 9)
  (Fe (Ay (DH (GP KZ (A1 (A0 1) (A1 (A0 2) (A1 (A0 3) (A1 (A0 9) A4))))))
  (C4 (mMt BH (A0 8) (A1 (A0 9) A4)))
  Ap)))
 (AA (AO 10 (BN (BA 1 [1,5] (EX (A0 8)) (AF 0) (AU (mOp gLe (mOp gIx (mOp gIx (A0 1) (A0 0)) (mC (.int 1))) (A0 2))) (A0 0))))
 (Ay (Gp (AU (Cb false (A0 10) (BF A4))) (AU (Cb true (A0 8) (BF A4))))
  (AO 5 (Ct JM (BA 1 [1] (EX (A0 8)) (AF 0) Bg (mOp gIx (mOp gIx (A0 1) (A0 0)) (mC (.int 1))))))
  (Ay (AU (Cb true (A0 10) (BF A4)))
  (AA (AO 9 (mOp gIx (A0 10) (A9 2 F_pick (A1 (A0 0) (A1 (mCB (f1 true C1) (A1 (A0 10) A4)) A4)))))
 (AA (AO 11 (mOp gIx (A0 3) (A0 9)))
 (AA (Ay (AU (mOp gLt (mCB (f1 true C1) (A1 (A0 4) A4)) (mC (.int 30))))
  (AO 11 (mOp AW (mC (.int 1)) (A9 2 F_pick (A1 (A0 0) (A1 (A0 11) A4)))))
  Ap)
 (AA (C4 (mMt BH (A0 4) (A1 (B2 (A1 (A0 9) (A1 (A0 5) (A1 (mOp AW (A0 5) (A0 11)) A4)))) A4)))
 (AA (Fu (A0 3) (A0 9) (mOp CL (mOp gIx (A0 3) (A0 9)) (A0 11)))
 (AA (AO 5 (mOp AW (A0 5) (A0 11)))
 (Ay (Gp (AU (mOp gGt (A0 6) (mC (.int 0)))) (AU (mOp gEq (A9 2 F_pick (A1 (A0 0) (A1 (mC (.int 6)) A4))) (mC (.int 0)))))
  (AA (AO 6 (mOp CL (A0 6) (mC (.int 1))))
 (AO 5 (mOp AW (mOp AW (A0 5) (mC (.int 1))) (A9 2 F_pick (A1 (A0 0) (A1 (mC (.int 4)) A4))))))
  Ap)))))))
  Ap)))))))
 (Ac (mCB (f1 true B9) (A1 (A0 4) A4)))))))
def ID:List D->Hd->Option (D×Hd):=mkF 3 12 Qx
abbrev GE:Stmt:=top 38
theorem SN:FnScope ["_law_plan_here","_law_days"] ["_law_plan_here","_law_days"] (AN GE):=⟨rfl,rfl,rfl,by decide +kernel,rfl,by decide +kernel,by decide +kernel⟩
@[reducible] def OA:MS:=(Ac (Ct B9 (BA 3 [1] (BG (A0 0)) (Bz 3 (Ae (AF 0) (Ae (AF 1) (Ae (AF 2) C0)))) Bg (B2 (A1 (A0 0) (A1 (mOp AW (A0 1) (A0 3)) (A1 (mOp AW (A0 2) (A0 3)) A4)))))))
def Di:List D->Hd->Option (D×Hd):=mkF 2 2 OA
abbrev IP:Stmt:=top 39
theorem bc:FnScope ["_law_works_here","_law_days","_law_found","_law_j","_law_costs"] ["_law_works_here","_law_days"] (AN IP):=⟨rfl,rfl,rfl,by decide +kernel,rfl,by decide +kernel,by decide +kernel⟩
@[reducible] def O9:MS:=(AA (AO 2 (A0 0))
 (AA (Bl (DI (A1 (mCB (f1 true C1) (A1 (A0 0) A4)) A4)) (AF 3)
  (AO 2 (A9 0 DB (A1 (A0 2) (A1 (A0 3) (A1 (mOp AW (mOp gIx (mOp gIx (A0 0) (A0 3)) (mC (.int 1))) (A0 1)) A4))))))
 (AA (AO 4 (BN (BA 1 [1] (BG (A0 0)) (AF 0) Bg (mIf (AU (mOp gEq (mOp gIx (mOp gIx (A0 0) (mC (.int 2))) (mC (.int 0))) (mC (.str "ends")))) (mOp gIx (A0 0) (mC (.int 2))) (A9 0 Bn (A1 (mOp gIx (A0 0) (mC (.int 2))) (A1 (A0 1) A4)))))))
 (Ac (Ct B9 (BA 1 [2,4] (DI (A1 (mCB (f1 true C1) (A1 (A0 0) A4)) A4)) (AF 0) Bg (B2 (A1 (mOp gIx (mOp gIx (A0 1) (A0 0)) (mC (.int 0))) (A1 (mOp gIx (mOp gIx (A0 1) (A0 0)) (mC (.int 1))) (A1 (mOp gIx (A0 2) (A0 0)) A4))))))))))
def GY:List D->Hd->Option (D×Hd):=mkF 2 5 O9
abbrev Jl:Stmt:=top 40
theorem bK:FnScope ["_law_tape_here","_law_plan_here","_law_at","_law_work","_law_start","_law_end","_law_some","_law_found"] ["_law_tape_here","_law_plan_here"] (AN Jl):=⟨rfl,rfl,rfl,by decide +kernel,rfl,by decide +kernel,by decide +kernel⟩
@[reducible] def Qy:MS:=(AA (AO 2 (A9 2 F_pick (A1 (A0 0) (A1 (mCB (f1 true C1) (A1 (A0 1) A4)) A4))))
 (AA (FG (mOp gIx (A0 1) (A0 2)) (Bz 3 (Ae (AF 3) (Ae (AF 4) (Ae (AF 5) C0)))))
 (AA (AO 6 (BN (BF (A1 (B2 (A1 (A0 3) (A1 (mOp CL (A0 4) (mC (.int 1))) (A1 (mOp CL (A0 5) (mC (.int 1))) A4)))) (A1 (B2 (A1 (A0 3) (A1 (mOp AW (A0 4) (mC (.int 1))) (A1 (mOp AW (A0 5) (mC (.int 1))) A4)))) (A1 (B2 (A1 (A0 3) (A1 (A0 4) (A1 (mOp AW (A0 5) (mC (.int 1))) A4)))) (A1 (B2 (A1 (A0 3) (A1 (mOp AW (A0 4) (mC (.int 1))) (A1 (A0 5) A4)))) A4)))))))
 (AA (AO 7 (BN (BA 1 [1,2] (EX (A0 6)) (AF 0) Bg (mOp AW (mOp KI (E8 (A0 1) BU (Bu (A0 2))) (B2 (A1 (A0 0) A4))) (E8 (A0 1) (Bu (mOp AW (A0 2) (mC (.int 1)))) BU)))))
 (Ac (BN (N2 (A0 7) (BN (BF (A1 (mOp KI (E8 (A0 1) BU (Bu (A0 2))) (E8 (A0 1) (Bu (mOp AW (A0 2) (mC (.int 1)))) BU)) (A1 (mOp AW (mOp KI (E8 (A0 1) BU (Bu (A0 2))) (IY (Kv (A0 1) (Bu (A0 2)) (Bu (mOp AW (A0 2) (mC (.int 2))))) (Kw (mC (.int 1))))) (E8 (A0 1) (Bu (mOp AW (A0 2) (mC (.int 2)))) BU)) (A1 (A0 1) (A1 (IY (A0 1) (Kw (mC (.int 1)))) A4)))))))))))))
def IE:List D->Hd->Option (D×Hd):=mkF 2 8 Qy
abbrev Jj:Stmt:=top 41
theorem dJ:FnScope ["_law_works_here","_law_others","_law_plan_here","_law_days","_law_ends","_law_theirs"] ["_law_works_here","_law_others","_law_plan_here","_law_days"] (AN Jj):=⟨rfl,rfl,rfl,by decide +kernel,rfl,by decide +kernel,by decide +kernel⟩
@[reducible] def Qw:MS:=(AA (FG (B2 (A1 (A9 0 F_ends_of (A1 (A0 0) (A1 (A0 2) A4))) (A1 (A9 0 F_ends_of (A1 (A0 1) (A1 (A9 0 Di (A1 (A0 2) (A1 (A0 3) A4))) A4))) A4))) (Bz 2 (Ae (AF 4) (Ae (AF 5) C0))))
 (AA (Ay (AU (mOp gNe (mCB Df (A1 (A0 5) A4)) (mCB Df (A1 (Ct B9 (BA 1 [3] (BG (A0 4)) (AF 0) Bg (mOp AW (A0 0) (A0 1)))) A4))))
  (Ac (mC (.bl false)))
  Ap)
 (AA (Ay (AU (mOp gNe (mCB Df (A1 (A9 0 EK (A1 (A0 1) (A1 (A9 0 Di (A1 (A0 2) (A1 (A0 3) A4))) A4))) A4)) (mCB Df (A1 (A9 0 EK (A1 (A0 0) (A1 (A0 2) A4))) A4))))
  (Ac (mC (.bl false)))
  Ap)
 (AA (Ay (AU (N1 false (mC (.str "ends")) (BA 1 [] (BG (A0 0)) (AF 0) Bg (mOp gIx (mOp gIx (A0 0) (mC (.int 2))) (mC (.int 0))))))
  (Ac (mC (.bl true)))
  Ap)
 (AA (Ay (AU (mOp gNe (mCB Df (A1 (A9 0 F_costs_of (A1 (A0 1) (A1 (A0 5) A4))) A4)) (mCB Df (A1 (A9 0 F_costs_of (A1 (A0 0) (A1 (A0 4) A4))) A4))))
  (Ac (mC (.bl false)))
  Ap)
 (Ac (Et false (BA 1 [0,4] (BG (B2 (A1 (mC (.str "greatest")) (A1 (mC (.str "sum")) A4)))) (AF 0) Bg (A9 0 F_worth (A1 (A0 1) (A1 (A0 2) (A1 (A0 0) A4))))) (BA 1 [1,5] (BG (B2 (A1 (mC (.str "greatest")) (A1 (mC (.str "sum")) A4)))) (AF 0) Bg (A9 0 F_worth (A1 (A0 1) (A1 (A0 2) (A1 (A0 0) A4))))))))))))
def IC:List D->Hd->Option (D×Hd):=mkF 4 6 Qw
abbrev Eo:Stmt:=top 42
theorem aY:FnScope ["_law_script","_law_tape_here","_law_k","_law_many","_law_works_here","_law_wishes_here","_law_comings","_law_days","_law_others","_law_order_here","_law_plan_here","_law_thing","_law_one"] ["_law_script"] (AN Eo):=⟨rfl,rfl,rfl,by decide +kernel,rfl,by decide +kernel,by decide +kernel⟩
@[reducible] def U6:MS:=(AA (AO 1 (GP F_tape (A1 (A0 0) A4)))
 (AA (Bl (DI (A1 (mC (.int 4)) A4)) (AF 2)
  (Fe (AA (AO 3 (mOp AW (mC (.int 1)) (A9 2 F_pick (A1 (A0 1) (A1 (mC (.int 8)) A4)))))
 (AA (AO 4 (A9 2 F_works (A1 (A0 1) (A1 (A0 3) (A1 (mOp gEq (A0 2) (mC (.int 0))) A4)))))
 (AA (Ay (AU (mOp gEq (mOp Cu (A0 2) (mC (.int 2))) (mC (.int 0))))
  (AO 4 (Ct B9 (BA 1 [1] (BG (A0 4)) (AF 0) Bg (B2 (A1 (mOp gIx (A0 0) (mC (.int 0))) (A1 (mOp gIx (A0 0) (mC (.int 1))) (A1 (A9 2 F_cost (A1 (A0 1) (A1 (DQ (BF (A1 (mC (.int 0)) (A1 (mC (.int 1)) (A1 (mC (.int 2)) (A1 (mC (.int 4)) A4))))) (A9 2 F_pick (A1 (A0 1) (A1 (mC (.int 4)) A4)))) A4))) A4)))))))
  Ap)
 (AA (AO 5 (A9 2 F_wishes (A1 (A0 1) (A1 (A0 3) A4))))
 (AA (AO 6 (BN (BA 1 [] (BG (A0 4)) (AF 0) Bg (mOp gIx (A0 0) (mC (.int 1))))))
 (AA (AO 7 (mOp CL (A9 2 F_pick (A1 (A0 1) (A1 (mOp AW (mOp CL (mC (.int 61)) (mCB (f1 true Hs) (A1 (A0 6) A4))) (mCB (f1 false JM) (A1 (A0 6) A4))) A4))) (mCB (f1 false JM) (A1 (A0 6) A4))))
 (AA (AO 8 (A9 0 GY (A1 (A0 4) (A1 (A0 7) A4))))
 (AA (AO 9 (A9 2 GX (A1 (A0 1) (A1 (A0 3) (A1 (A0 5) A4)))))
 (AA (AO 10 (A9 2 ID (A1 (A0 1) (A1 (A0 4) (A1 (A0 5) A4)))))
 (AA (Ay (AU (mOp gNe (mCB Df (A1 (A9 0 F_run (A1 (A0 8) (A1 (A0 9) A4))) A4)) (mCB Df (A1 (A9 0 Di (A1 (A9 0 F_run (A1 (A0 4) (A1 (A0 9) A4))) (A1 (A0 7) A4))) A4))))
  (Ac (mC (.bl false)))
  Ap)
 (AA (Bl (EX (A9 2 IE (A1 (A0 1) (A1 (A0 10) A4)))) (AF 11)
  (Ay (AU (mOp gNe (mCB Hv (A1 (A9 0 DU (A1 (A0 8) (A1 (A0 5) (A1 (A9 0 Di (A1 (A0 11) (A1 (A0 7) A4))) A4)))) A4)) (mCB Hv (A1 (A9 0 DU (A1 (A0 4) (A1 (A0 5) (A1 (A0 11) A4)))) A4))))
  (Ac (mC (.bl false)))
  Ap))
 (Bl (BG (B2 (A1 (A0 10) (A1 (A9 0 F_run (A1 (A0 4) (A1 (A0 9) A4))) A4)))) (AF 12)
  (Ay (mOr (Ei (DH (A9 0 DU (A1 (A0 4) (A1 (A0 5) (A1 (A0 12) A4)))))) (Ei (DH (A9 0 IC (A1 (A0 4) (A1 (A0 8) (A1 (A0 12) (A1 (A0 7) A4))))))))
  (Ac (mC (.bl false)))
  Ap)))))))))))))))
 (Ac (mC (.bl true)))))
def cn:List D->Hd->Option (D×Hd):=mkF 1 13 U6
section
variable{P:Program}{w:World}{K:PySem.W.Frag}{mg:Str->Option Value}{base:Heap}
theorem da{aV:Addr}{aW:FuncData}(DA:DefAt K mg "is_number" Do aV aW ["thing"]) (B:BltA mg):FnOk P w K mg base CX0 1 aV aW ["thing"] (spF K 1 CC):=by
 refine As (N:=["thing"]) (m:=Iu) DA Md λcdv A outer s H E hr=>?_;exact⟨_,(AC K (AZ K (GJ K (Jx K .int B.isinstance B.int (qv K 0)) (GI K (X2 K (Jx K .bool B.isinstance B.bool (qv K 0)))))))⟩
theorem cr{aZ aV:Addr}{aa aW:FuncData}(DA:DefAt K mg "is_number_from" Cp aZ aa ["least","thing"])(bh:DefAt K mg "is_number" Do aV aW ["thing"])(ag:FnOk P w K mg base CX0 1 aV aW ["thing"] (spF K 1 CC))(B:BltA mg):FnOk P w K mg base CX0 2 aZ aa ["least","thing"] (spF K 2 CI):=by
 refine As (N:=["least","thing"]) (m:=Fd) DA Ip λcdv A outer s H E hr=>?_;exact⟨_,(AC K (AZ K (GJ K (AB K 0 ag hr bh (A2 K (qv K 1) (A6 K)) AI) (GI K (ET K U4 Tt (qv K 1) (qv K 0))))))⟩
theorem cS{aP aZ:Addr}{aQ aa:FuncData}(DA:DefAt K mg "is_number_of_work" CK aP aQ ["many","thing"])(cu:DefAt K mg "is_number_from" Cp aZ aa ["least","thing"])(bI:FnOk P w K mg base CX0 2 aZ aa ["least","thing"] (spF K 2 CI))(B:BltA mg):FnOk P w K mg base CX0 3 aP aQ ["many","thing"] (spF K 2 By):=by
 refine As (N:=["many","thing"]) (m:=Ee) DA Gf λcdv A outer s H E hr=>?_;exact⟨_,(AC K (AZ K (GJ K (AB K 0 bI hr cu (A2 K (A8 K) (A2 K (qv K 1) (A6 K))) AI) (GI K (ET K K1 Jo (qv K 1) (qv K 0))))))⟩
theorem dL{au:Addr}{av:FuncData}(DA:DefAt K mg "is_tuple_of" E3 au av ["many","thing"]) (B:BltA mg):FnOk P w K mg base CX0 1 au av ["many","thing"] (spF K 2 DC):=by
 refine As (N:=["many","thing"]) (m:=HJ) DA Kj λcdv A outer s H E hr=>?_;exact⟨_,(AC K (AZ K (GJ K (Jx K .tuple B.isinstance B.tuple (qv K 1)) (GI K (ET K ((Bt).or (BE K hr.units)) (AH BW BX) (BM K (Bf K) (C9 Ce) B.len L2.bt_len (A2 K (qv K 1) (A6 K))) (qv K 0))))))⟩
theorem fA{Gy:Addr}{dC:FuncData}(DA:DefAt K mg "run" Lx Gy dC ["works","order"]) (B:BltA mg):FnOk P w K mg base CX0 1 Gy dC ["works","order"] (spF K 2 F_run):=by
 refine As (N:=["works","order","pieces","end","work","length","coming","cost","begin"]) (m:=cy) DA bS λcdv A outer s H E hr=>?_;exact⟨_,(A7 K (AS K (i:=2) bS.nd rfl (by trivial) (BR K (BY K (A6 K))))
  (A7 K (AS K (i:=3) bS.nd rfl (by trivial) (A8 K))
  (A7 K (CA K rfl (B3 K (qv K 1)) (AD K (i:=4) bS.nd rfl (by trivial))
   (A7 K (Hc K (Ad K (qv K 0) (qv K 4)) (Bx K (n:=3) rfl (AY K (AD K (i:=5) bS.nd rfl (by trivial)) (AY K (AD K (i:=6) bS.nd rfl (by trivial)) (AY K (AD K (i:=7) bS.nd rfl (by trivial)) (Ba K))))))
  (A7 K (AS K (i:=8) bS.nd rfl (by trivial) (BM K (Rp rfl) Uo B.max L2.bt_max (A2 K (qv K 6) (A2 K (qv K 3) (A6 K)))))
  (A7 K (AS K (i:=3) bS.nd rfl (by trivial) (AQ K ((Ah).or (AR K)) (AH Ag Ab) (qv K 8) (qv K 5)))
  (AC K (DZ K (Er K PySem.F.slot_list_append PySem.F.type_list_append CQ Ck (qv K 2) (A2 K (B6 K (A2 K (qv K 4) (A2 K (qv K 8) (A2 K (qv K 3) (A6 K))))) (A6 K)))))))))
  (AC K (AZ K (IU K (BJ K) (C9 Bk) B.tuple L2.bt_tuple (A2 K (qv K 2) (A6 K))))))))⟩
theorem dk{bT:Addr}{bU:FuncData}(DA:DefAt K mg "steps_at" FH bT bU ["rows","t"]) (B:BltA mg):FnOk P w K mg base CX0 1 bT bU ["rows","t"] (spF K 2 aU):=by
 refine As (N:=["rows","t","told","begin","amount"]) (m:=c9) DA bA λcdv A outer s H E hr=>?_;exact⟨_,(A7 K (AS K (i:=2) bA.nd rfl (by trivial) (A8 K))
  (A7 K (CA K rfl (B3 K (qv K 0)) (Bx K (n:=2) rfl (AY K (AD K (i:=3) bA.nd rfl (by trivial)) (AY K (AD K (i:=4) bA.nd rfl (by trivial)) (Ba K))))
   (A7 K (BI K (Ar K K2 Jp (qv K 3) (qv K 1))
   (AC K (AZ K (qv K 2)))
   (Au K))
  (AC K (AS K (i:=2) bA.nd rfl (by trivial) (qv K 4)))))
  (AC K (AZ K (qv K 2)))))⟩
theorem dw{bp bT:Addr}{bq bU:FuncData}(DA:DefAt K mg "cost_at" Fp bp bq ["cost","t"])(dy:DefAt K mg "steps_at" FH bT bU ["rows","t"])(cT:FnOk P w K mg base CX0 1 bT bU ["rows","t"] (spF K 2 aU))(B:BltA mg):FnOk P w K mg base CX0 2 bp bq ["cost","t"] (spF K 2 aN):=by
 refine As (N:=["cost","t","word","above"]) (m:=cE) DA cR λcdv A outer s H E hr=>?_;exact⟨_,(A7 K (AS K (i:=2) cR.nd rfl (by trivial) (Ad K (qv K 0) (A8 K)))
  (A7 K (BI K (Ar K ((Bt).or (BE K hr.units)) (AH BW BX) (qv K 2) (At K))
   (AC K (AZ K (AB K 0 cT hr dy (A2 K (Ad K (qv K 0) (A8 K)) (A2 K (qv K 1) (A6 K))) AI)))
   (Au K))
  (A7 K (BI K (Ar K ((Bt).or (BE K hr.units)) (AH BW BX) (qv K 2) (At K))
   (AC K (AZ K (AQ K F7 F3 (Ad K (qv K 0) (A8 K)) (qv K 1))))
   (Au K))
  (A7 K (AS K (i:=3) cR.nd rfl (by trivial) (AQ K Ds Dp (qv K 1) (Ad K (qv K 0) (A8 K))))
  (A7 K (BI K (Ar K ((Bt).or (BE K hr.units)) (AH BW BX) (qv K 2) (At K))
   (AC K (AZ K (qv K 3)))
   (Au K))
  (A7 K (BI K (Ar K IW IR (qv K 3) (A8 K))
   (AC K (AZ K (A8 K)))
   (Au K))
  (A7 K (BI K (Ar K ((Bt).or (BE K hr.units)) (AH BW BX) (qv K 2) (At K))
   (AC K (AZ K (AQ K F7 F3 (Ad K (qv K 0) (A8 K)) (qv K 3))))
   (Au K))
  (AC K (AZ K (Ad K (qv K 0) (A8 K)))))))))))⟩
theorem db{bB:Addr}{bD:FuncData}(DA:DefAt K mg "later_due" Ep bB bD ["cost","days"]) (B:BltA mg):FnOk P w K mg base CX0 1 bB bD ["cost","days"] (spF K 2 Dz):=by
 refine As (N:=["cost","days"]) (m:=Is) DA Mc λcdv A outer s H E hr=>?_;exact⟨_,(A7 K (BI K (QW.toT (Jv K (Ar K ((Bt).or (BE K hr.units)) (AH BW BX) (Ad K (qv K 0) (A8 K)) (At K)) (Ju K (Ar K ((Bt).or (BE K hr.units)) (AH BW BX) (Ad K (qv K 0) (A8 K)) (At K)))))
  (AC K (Mt K))
  (Au K))
  (AC K (AZ K (AQ K ((Ah).or (AR K)) (AH Ag Ab) (B6 K (A2 K (Ad K (qv K 0) (A8 K)) (A2 K (AQ K ((Ah).or (AR K)) (AH Ag Ab) (Ad K (qv K 0) (A8 K)) (qv K 1)) (A6 K)))) (DP K (qv K 0) (Bp K (A8 K)) (C7 K))))))⟩
theorem dU{b0 bB:Addr}{b7 bD:FuncData}(DA:DefAt K mg "moved_cost" EO b0 b7 ["cost","days"])(dl:DefAt K mg "later_due" Ep bB bD ["cost","days"])(cG:FnOk P w K mg base CX0 1 bB bD ["cost","days"] (spF K 2 Dz))(B:BltA mg):FnOk P w K mg base CX0 2 b0 b7 ["cost","days"] (spF K 2 Bn):=by
 refine As (N:=["cost","days"]) (m:=Hk) DA Lo λcdv A outer s H E hr=>?_;exact⟨_,(A7 K (BI K (Ar K ((Bt).or (BE K hr.units)) (AH BW BX) (Ad K (qv K 0) (A8 K)) (At K))
  (AC K (Mt K))
  (Au K))
  (A7 K (BI K (Ar K ((Bt).or (BE K hr.units)) (AH BW BX) (Ad K (qv K 0) (A8 K)) (At K))
   (AC K (AZ K (B6 K (A2 K (At K) (A2 K (Fr K (BJ K) Bk B.tuple L2.bt_tuple (B5 K (loc:=["begin","amount"]) (fr:=["days"]) (ix:=[1]) rfl ⟨rfl,by decide +kernel,rfl,rfl,rfl,by decide +kernel⟩ (B3 K (Ad K (qv K 0) (A8 K))) (λ_ _ _=>(Bx K (n:=2) rfl (AY K (AD K (i:=0) (show(["begin","amount","days"]:List Str).Nodup from by decide +kernel) rfl (by trivial)) (AY K (AD K (i:=1) (show(["begin","amount","days"]:List Str).Nodup from by decide +kernel) rfl (by trivial)) (Ba K))))) (λ_ _ _=>(BK K)) (λ_ _ _=>(B6 K (A2 K (AQ K ((Ah).or (AR K)) (AH Ag Ab) (qv K 0) (qv K 2)) (A2 K (qv K 1) (A6 K))))))) (A6 K))))))
   (Au K))
  (AC K (AZ K (AB K 0 cG hr dl (A2 K (qv K 0) (A2 K (qv K 1) (A6 K))) AI)))))⟩
theorem dm{bV aV aP au:Addr}{bW aW aQ av:FuncData}(DA:DefAt K mg "is_piece" FI bV bW ["works","thing"])(bh:DefAt K mg "is_number" Do aV aW ["thing"])(ag:FnOk P w K mg base CX0 1 aV aW ["thing"] (spF K 1 CC))(cV:DefAt K mg "is_number_of_work" CK aP aQ ["many","thing"])(ay:FnOk P w K mg base CX0 3 aP aQ ["many","thing"] (spF K 2 By))(dW:DefAt K mg "is_tuple_of" E3 au av ["many","thing"])(c5:FnOk P w K mg base CX0 1 au av ["many","thing"] (spF K 2 DC))(B:BltA mg):FnOk P w K mg base CX0 4 bV bW ["works","thing"] (spF K 2 Ed):=by
 refine As (N:=["works","thing","work","begin","end"]) (m:=K4) DA bg λcdv A outer s H E hr=>?_;exact⟨_,(A7 K (BI K (ES K (CH K (AB K 0 c5 hr dW (A2 K (A8 K) (A2 K (qv K 1) (A6 K))) AI)))
  (AC K (AZ K (Dc K)))
  (Au K))
  (A7 K (Hc K (qv K 1) (Bx K (n:=3) rfl (AY K (AD K (i:=2) bg.nd rfl (by trivial)) (AY K (AD K (i:=3) bg.nd rfl (by trivial)) (AY K (AD K (i:=4) bg.nd rfl (by trivial)) (Ba K))))))
  (A7 K (BI K (QW.toT (Jv K (ES K (CH K (AB K 0 ay hr cV (A2 K (BM K (Bf K) (C9 Ce) B.len L2.bt_len (A2 K (qv K 0) (A6 K))) (A2 K (qv K 2) (A6 K))) AI))) (Jv K (ES K (CH K (AB K 0 ag hr bh (A2 K (qv K 3) (A6 K)) AI))) (Ju K (ES K (CH K (AB K 0 ag hr bh (A2 K (qv K 4) (A6 K)) AI)))))))
   (AC K (AZ K (Dc K)))
   (Au K))
  (AC K (AZ K (GJ K (ET K IW IR (Ad K (Ad K (qv K 0) (qv K 2)) (A8 K)) (qv K 3)) (GI K (ET K K1 Jo (qv K 3) (qv K 4)))))))))⟩
theorem cv{ac:Addr}{ad:FuncData}(DA:DefAt K mg "one_at_a_time" DJ ac ad ["pieces"]) (B:BltA mg):FnOk P w K mg base CX0 1 ac ad ["pieces"] (spF K 1 CZ):=by
 refine As (N:=["pieces"]) (m:=Ft) DA J8 λcdv A outer s H E hr=>?_;exact⟨_,(AC K (AZ K (P3 K (IA K rfl) Mm B.all L2.bt_all (B5 K (loc:=["one","other"]) (fr:=[]) (ix:=[]) rfl ⟨rfl,by decide +kernel,rfl,rfl,rfl,by decide +kernel⟩ (Qc K B.zip (Jw K (qv K 0)) (Jw K (Qd K (qv K 0) (Bp K (A8 K)) (C7 K)))) (λ_ _ _=>(Bx K (n:=2) rfl (AY K (AD K (i:=0) (show(["one","other"]:List Str).Nodup from by decide +kernel) rfl (by trivial)) (AY K (AD K (i:=1) (show(["one","other"]:List Str).Nodup from by decide +kernel) rfl (by trivial)) (Ba K))))) (λ_ _ _=>(BK K)) (λ_ _ _=>(ET K IW IR (Ad K (qv K 0) (A8 K)) (Ad K (qv K 1) (A8 K))))))))⟩
theorem dD{ah:Addr}{am:FuncData}(DA:DefAt K mg "lengths_done" DW ah am ["works","pieces"]) (B:BltA mg):FnOk P w K mg base CX0 1 ah am ["works","pieces"] (spF K 2 Ch):=by
 refine As (N:=["works","pieces","done","work","begin","end"]) (m:=GN) DA aT λcdv A outer s H E hr=>?_;exact⟨_,(A7 K (by first|exact DY K (i:=2) (loc:=["work"]) (fr:=[]) (ix:=[]) aT.nd rfl rfl rfl ⟨rfl,by decide +kernel,rfl,rfl,rfl,by decide +kernel⟩ (B3 K (qv K 0)) (λ_ _ _=>(AD K (i:=0) (show(["work"]:List Str).Nodup from by decide +kernel) rfl (by trivial))) (λ_ _ _=>(BK K)) (λ_ _ _=>(A8 K))|exact AS K (i:=2) aT.nd rfl (by trivial) (BR K (B5 K (loc:=["work"]) (fr:=[]) (ix:=[]) rfl ⟨rfl,by decide +kernel,rfl,rfl,rfl,by decide +kernel⟩ (B3 K (qv K 0)) (λ_ _ _=>(AD K (i:=0) (show(["work"]:List Str).Nodup from by decide +kernel) rfl (by trivial))) (λ_ _ _=>(BK K)) (λ_ _ _=>(A8 K)))))
  (A7 K (CA K rfl (B3 K (qv K 1)) (Bx K (n:=3) rfl (AY K (AD K (i:=3) aT.nd rfl (by trivial)) (AY K (AD K (i:=4) aT.nd rfl (by trivial)) (AY K (AD K (i:=5) aT.nd rfl (by trivial)) (Ba K)))))
   (AC K (Uz K (qv K 2) (qv K 3) (AQ K Ds Dp (qv K 5) (qv K 4)) Xm)))
  (AC K (AZ K (qv K 2)))))⟩
theorem dE{ao:Addr}{ap:FuncData}(DA:DefAt K mg "keeps_wishes" DX ao ap ["wishes","pieces","ends"]) (B:BltA mg):FnOk P w K mg base CX0 1 ao ap ["wishes","pieces","ends"] (spF K 3 Ci):=by
 refine As (N:=["wishes","pieces","ends"]) (m:=GO) DA Jg λcdv A outer s H E hr=>?_;exact⟨_,(AC K (AZ K (BM K (IA K rfl) (C9 Mm) B.all L2.bt_all (A2 K (Sn K (loc:=["a","b","work","begin","end"]) (fr:=["pieces","ends"]) (ix:=[1,2]) rfl ⟨rfl,by decide +kernel,rfl,rfl,rfl,by decide +kernel⟩ (B3 K (qv K 0)) (λ_ _ _=>(Bx K (n:=2) rfl (AY K (AD K (i:=0) (show(["a","b","work","begin","end","pieces","ends"]:List Str).Nodup from by decide +kernel) rfl (by trivial)) (AY K (AD K (i:=1) (show(["a","b","work","begin","end","pieces","ends"]:List Str).Nodup from by decide +kernel) rfl (by trivial)) (Ba K))))) (λ_ _ _=>(BK K)) (λ_ _ _=>(B3 K (qv K 5))) (λ_ _ _=>(Bx K (n:=3) rfl (AY K (AD K (i:=2) (show(["a","b","work","begin","end","pieces","ends"]:List Str).Nodup from by decide +kernel) rfl (by trivial)) (AY K (AD K (i:=3) (show(["a","b","work","begin","end","pieces","ends"]:List Str).Nodup from by decide +kernel) rfl (by trivial)) (AY K (AD K (i:=4) (show(["a","b","work","begin","end","pieces","ends"]:List Str).Nodup from by decide +kernel) rfl (by trivial)) (Ba K)))))) (λ_ _ _=>(Dq K (Ar K ((Bt).or (BE K hr.units)) (AH BW BX) (qv K 2) (qv K 1)))) (λ_ _ _=>(ET K IW IR (Ad K (qv K 6) (qv K 0)) (qv K 3)))) (A6 K)))))⟩
theorem dz{aR:Addr}{aS:FuncData}(DA:DefAt K mg "ends_of" ED aR aS ["works","plan"]) (B:BltA mg):FnOk P w K mg base CX0 1 aR aS ["works","plan"] (spF K 2 F_ends_of):=by
 refine As (N:=["works","plan","ends","work","begin","end"]) (m:=bo) DA b9 λcdv A outer s H E hr=>?_;exact⟨_,(A7 K (by first|exact DY K (i:=2) (loc:=["work"]) (fr:=[]) (ix:=[]) b9.nd rfl rfl rfl ⟨rfl,by decide +kernel,rfl,rfl,rfl,by decide +kernel⟩ (B3 K (qv K 0)) (λ_ _ _=>(AD K (i:=0) (show(["work"]:List Str).Nodup from by decide +kernel) rfl (by trivial))) (λ_ _ _=>(BK K)) (λ_ _ _=>(A8 K))|exact AS K (i:=2) b9.nd rfl (by trivial) (BR K (B5 K (loc:=["work"]) (fr:=[]) (ix:=[]) rfl ⟨rfl,by decide +kernel,rfl,rfl,rfl,by decide +kernel⟩ (B3 K (qv K 0)) (λ_ _ _=>(AD K (i:=0) (show(["work"]:List Str).Nodup from by decide +kernel) rfl (by trivial))) (λ_ _ _=>(BK K)) (λ_ _ _=>(A8 K)))))
  (A7 K (CA K rfl (B3 K (qv K 1)) (Bx K (n:=3) rfl (AY K (AD K (i:=3) b9.nd rfl (by trivial)) (AY K (AD K (i:=4) b9.nd rfl (by trivial)) (AY K (AD K (i:=5) b9.nd rfl (by trivial)) (Ba K)))))
   (AC K (O0 K (qv K 2) (qv K 3) (qv K 5))))
  (AC K (AZ K (IU K (BJ K) (C9 Bk) B.tuple L2.bt_tuple (A2 K (qv K 2) (A6 K)))))))⟩
theorem e9{br bV ac ah ao aR:Addr}{bt bW ad am ap aS:FuncData}(DA:DefAt K mg "is_plan" Fo br bt ["works","wishes","thing"])(eA:DefAt K mg "is_piece" FI bV bW ["works","thing"])(cU:FnOk P w K mg base CX0 4 bV bW ["works","thing"] (spF K 2 Ed))(dF:DefAt K mg "one_at_a_time" DJ ac ad ["pieces"])(bX:FnOk P w K mg base CX0 1 ac ad ["pieces"] (spF K 1 CZ))(dM:DefAt K mg "lengths_done" DW ah am ["works","pieces"])(be:FnOk P w K mg base CX0 1 ah am ["works","pieces"] (spF K 2 Ch))(dN:DefAt K mg "keeps_wishes" DX ao ap ["wishes","pieces","ends"])(bf:FnOk P w K mg base CX0 1 ao ap ["wishes","pieces","ends"] (spF K 3 Ci))(bL:DefAt K mg "ends_of" ED aR aS ["works","plan"])(aX:FnOk P w K mg base CX0 1 aR aS ["works","plan"] (spF K 2 F_ends_of))(B:BltA mg):FnOk P w K mg base CX0 5 br bt ["works","wishes","thing"] (spF K 3 DU):=by
 refine As (N:=["works","wishes","thing"]) (m:=LQ) DA Ot λcdv A outer s H E hr=>?_;exact⟨_,(A7 K (BI K (QW.toT (Jv K (ES K (CH K (Jx K .tuple B.isinstance B.tuple (qv K 2)))) (Ju K (ES K (CH K (P3 K (IA K rfl) Mm B.all L2.bt_all (B5 K (loc:=["piece"]) (fr:=["works"]) (ix:=[0]) rfl ⟨rfl,by decide +kernel,rfl,rfl,rfl,by decide +kernel⟩ (B3 K (qv K 2)) (λ_ _ _=>(AD K (i:=0) (show(["piece","works"]:List Str).Nodup from by decide +kernel) rfl (by trivial))) (λ_ _ _=>(BK K)) (λ_ _ _=>(AB K 0 cU hr eA (A2 K (qv K 1) (A2 K (qv K 0) (A6 K))) AI)))))))))
  (AC K (AZ K (Dc K)))
  (Au K))
  (A7 K (BI K (ES K (CH K (AB K 0 bX hr dF (A2 K (qv K 2) (A6 K)) AI)))
   (AC K (AZ K (Dc K)))
   (Au K))
  (A7 K (BI K (GH K (Jz K hr.units) (AB K 0 be hr dM (A2 K (qv K 0) (A2 K (qv K 2) (A6 K))) AI) (B5 K (loc:=["work"]) (fr:=[]) (ix:=[]) rfl ⟨rfl,by decide +kernel,rfl,rfl,rfl,by decide +kernel⟩ (B3 K (qv K 0)) (λ_ _ _=>(AD K (i:=0) (show(["work"]:List Str).Nodup from by decide +kernel) rfl (by trivial))) (λ_ _ _=>(BK K)) (λ_ _ _=>(Ad K (qv K 0) (A8 K)))))
   (AC K (AZ K (Dc K)))
   (Au K))
  (AC K (AZ K (AB K 0 bf hr dN (A2 K (qv K 1) (A2 K (qv K 2) (A2 K (AB K 0 aX hr bL (A2 K (qv K 0) (A2 K (qv K 2) (A6 K))) AI) (A6 K)))) AI))))))⟩
theorem eB{bu aR:Addr}{bM aS:FuncData}(DA:DefAt K mg "by_ends" C6 bu bM ["works","plan"])(bL:DefAt K mg "ends_of" ED aR aS ["works","plan"])(aX:FnOk P w K mg base CX0 1 aR aS ["works","plan"] (spF K 2 F_ends_of)){c_by_ends P_by_ends:Addr}(LC:LamC K mg base bM c_by_ends P_by_ends ((("by_ends":Str)++".<locals>.")++"<lambda>") ⟨91,47,91,70⟩)(B:BltA mg):FnOk P w K mg base CX0 4 bu bM ["works","plan"] (spF K 2 EK):=by
 refine T2 (N:=["works","plan","ends"]) (m:=LR) DA dB λcdv A outer s H E hcd hr=>?_;exact⟨_,(A7 K (AS K (i:=2) dB.nd rfl (by trivial) (AB K 0 aX hr bL (A2 K (qv K 0) (A2 K (qv K 1) (A6 K))) AI))
  (AC K (AZ K (Fr K (BJ K) Bk B.tuple L2.bt_tuple (Sl K (prm:="work") (fr:=["ends"]) (ix:=[2]) ⟨hcd.symm.trans LC.code,LC.hd,LC.bl⟩ LC.ti ⟨rfl,by decide +kernel,rfl,rfl,rfl,by decide +kernel⟩ ⟨rfl,rfl,rfl,rfl⟩ hr (by decide) B.sorted (Sk K B.range (A2 K (BM K (Bf K) (C9 Ce) B.len L2.bt_len (A2 K (qv K 0) (A6 K))) (A6 K))) (λ_ _ _ _=>(Ad K (qv K 1) (qv K 0))) (λ_ _ _ _ _=>rfl))))))⟩
theorem dq{ae bp:Addr}{af bq:FuncData}(DA:DefAt K mg "costs_of" EQ ae af ["works","ends"])(eG:DefAt K mg "cost_at" Fp bp bq ["cost","t"])(cW:FnOk P w K mg base CX0 2 bp bq ["cost","t"] (spF K 2 aN))(B:BltA mg):FnOk P w K mg base CX0 3 ae af ["works","ends"] (spF K 2 F_costs_of):=by
 refine As (N:=["works","ends"]) (m:=bQ) DA Nb λcdv A outer s H E hr=>?_;exact⟨_,(AC K (AZ K (Fr K (BJ K) Bk B.tuple L2.bt_tuple (B5 K (loc:=["work","end"]) (fr:=[]) (ix:=[]) rfl ⟨rfl,by decide +kernel,rfl,rfl,rfl,by decide +kernel⟩ (Qc K B.zip (Jw K (qv K 0)) (Jw K (qv K 1))) (λ_ _ _=>(Bx K (n:=2) rfl (AY K (AD K (i:=0) (show(["work","end"]:List Str).Nodup from by decide +kernel) rfl (by trivial)) (AY K (AD K (i:=1) (show(["work","end"]:List Str).Nodup from by decide +kernel) rfl (by trivial)) (Ba K))))) (λ_ _ _=>(BK K)) (λ_ _ _=>(AB K 0 cW hr eG (A2 K (Ad K (qv K 0) (A8 K)) (A2 K (qv K 1) (A6 K))) AI))))))⟩
theorem eJ{EI ae:Addr}{cI af:FuncData}(DA:DefAt K mg "worth" IL EI cI ["works","ends","question"])(cA:DefAt K mg "costs_of" EQ ae af ["works","ends"])(ar:FnOk P w K mg base CX0 3 ae af ["works","ends"] (spF K 2 F_costs_of))(B:BltA mg):FnOk P w K mg base CX0 4 EI cI ["works","ends","question"] (spF K 3 F_worth):=by
 refine As (N:=["works","ends","question","costs"]) (m:=cB) DA dY λcdv A outer s H E hr=>?_;exact⟨_,(A7 K (AS K (i:=3) dY.nd rfl (by trivial) (AB K 0 ar hr cA (A2 K (qv K 0) (A2 K (qv K 1) (A6 K))) AI))
  (A7 K (BI K (Ar K ((Bt).or (BE K hr.units)) (AH BW BX) (qv K 2) (At K))
   (AC K (AZ K (BM K ((Ld K rfl).or (KS K rfl)) (C9 QU) B.max L2.bt_max (A2 K (qv K 3) (A6 K)))))
   (Au K))
  (AC K (AZ K (BM K ((Rn K rfl).or (Pn K rfl)) (C9 Wn) B.sum L2.bt_sum (A2 K (qv K 3) (A6 K)))))))⟩
theorem de{bF:Addr}{bG:FuncData}(DA:DefAt K mg "with_work" En bF bG ["works","j","work"]) (B:BltA mg):FnOk P w K mg base CX0 1 bF bG ["works","j","work"] (spF K 3 Dy):=by
 refine As (N:=["works","j","work"]) (m:=Ir) DA Mb λcdv A outer s H E hr=>?_;exact⟨_,(AC K (AZ K (AQ K ((Ah).or (AR K)) (AH Ag Ab) (AQ K (((Ah).or (AR K)).or (GK K)) (AH (AH Ag Ab) GF) (DP K (qv K 0) (C7 K) (Bp K (qv K 1))) (B6 K (A2 K (qv K 2) (A6 K)))) (DP K (qv K 0) (Bp K (AQ K ((Ah).or (AR K)) (AH Ag Ab) (qv K 1) (A8 K))) (C7 K)))))⟩
theorem dO{aw bF:Addr}{ax bG:FuncData}(DA:DefAt K mg "with_coming" E2 aw ax ["works","j","number"])(dt:DefAt K mg "with_work" En bF bG ["works","j","work"])(cH:FnOk P w K mg base CX0 1 bF bG ["works","j","work"] (spF K 3 Dy))(B:BltA mg):FnOk P w K mg base CX0 2 aw ax ["works","j","number"] (spF K 3 DB):=by
 refine As (N:=["works","j","number"]) (m:=HI) DA Ki λcdv A outer s H E hr=>?_;exact⟨_,(AC K (AZ K (AB K 0 cH hr dt (A2 K (qv K 0) (A2 K (qv K 1) (A2 K (B6 K (A2 K (Ad K (Ad K (qv K 0) (qv K 1)) (A8 K)) (A2 K (qv K 2) (A2 K (Ad K (Ad K (qv K 0) (qv K 1)) (A8 K)) (A6 K))))) (A6 K)))) AI)))⟩
theorem eR{Fh:Addr}{cX:FuncData}(DA:DefAt K mg "_law_tape" Ji Fh cX ["_law_script"]) (B:BltA mg):FnOk P w K mg base CX0 1 Fh cX ["_law_script"] (spF K 1 F_tape):=by
 refine As (N:=["_law_script"]) (m:=cz) DA UW λcdv A outer s H E hr=>?_;exact⟨_,(AC K (AZ K (V3 K (Gk K (At K) (BR K (Sm K B.list (Qb K (qv K 0) (C7 K) (Bp K (A8 K))))) (Gk K (At K) (A8 K) (Gk K (At K) (A8 K) (Gk K (At K) (A8 K) (V1 K))))))))⟩
theorem eT{BO:Addr}{aM:FuncData}(DA:DefAt K mg "_law_pick" Dn BO aM ["_law_tape_here","_law_many"]) (B:BltA mg):FnOk P w K mg base CX0 1 BO aM ["_law_tape_here","_law_many"] (spF K 2 F_pick):=by
 refine As (N:=["_law_tape_here","_law_many","_law_found","_law_cells","_law_at","_law_turn","_law_cell","_law_mixed"]) (m:=dA) DA bZ λcdv A outer s H E hr=>?_;exact⟨_,(A7 K (IT K (Ea hr) (qv K 0) (At K) (AQ K ((Ah).or (AR K)) (AH Ag Ab) (Eg K (Ea hr) (qv K 0) (At K)) (A8 K)))
  (A7 K (BI K (Ar K K2 Jp (Eg K (Ea hr) (qv K 0) (At K)) (A8 K))
   (A7 K (AS K (i:=2) bZ.nd rfl (by trivial) (AQ K EV ER (Eg K (Ea hr) (qv K 0) (At K)) (qv K 1)))
  (A7 K (IT K (Ea hr) (qv K 0) (At K) (AQ K Kq Kn (Eg K (Ea hr) (qv K 0) (At K)) (qv K 1)))
  (AC K (AZ K (qv K 2)))))
   (Au K))
  (A7 K (Uy K (i:=3) (j:=4) (k:=5) rfl bZ.nd rfl rfl rfl rfl rfl rfl (A2 K (Eg K (Ea hr) (qv K 0) (At K)) (A2 K (Eg K (Ea hr) (qv K 0) (At K)) (A2 K (Eg K (Ea hr) (qv K 0) (At K)) (A6 K)))))
  (A7 K (AS K (i:=6) bZ.nd rfl (by trivial) (Fc K (GH K (Jz K hr.units) (qv K 3) (BY K (A6 K))) (Ad K (qv K 3) (AQ K EV ER (qv K 4) (BM K (Bf K) (C9 Ce) B.len L2.bt_len (A2 K (qv K 3) (A6 K))))) (A8 K)))
  (A7 K (IT K (Ea hr) (qv K 0) (At K) (AQ K ((Ah).or (AR K)) (AH Ag Ab) (qv K 4) (A8 K)))
  (A7 K (BI K (QW.toT (Ha K (Ar K U4 Tt (qv K 6) (AQ K XT Ww (A8 K) (A8 K))) (GG K (Ar K K1 Jo (qv K 4) (BM K (Bf K) (C9 Ce) B.len L2.bt_len (A2 K (qv K 3) (A6 K)))))))
   (A7 K (IT K (Ea hr) (qv K 0) (At K) (AQ K Kq Kn (qv K 6) (qv K 1)))
  (AC K (AZ K (AQ K EV ER (qv K 6) (qv K 1)))))
   (Au K))
  (A7 K (AS K (i:=7) bZ.nd rfl (by trivial) (AQ K EV ER (AQ K ((Ah).or (AR K)) (AH Ag Ab) (AQ K ((Ah).or (AR K)) (AH Ag Ab) (AQ K EV ER (qv K 6) (A8 K)) (AQ K F7 F3 (A8 K) (qv K 5))) (A8 K)) (A8 K)))
  (A7 K (AS K (i:=7) bZ.nd rfl (by trivial) (AQ K EV ER (AQ K ((Ah).or (AR K)) (AH Ag Ab) (AQ K F7 F3 (qv K 7) (qv K 7)) (AQ K F7 F3 (A8 K) (qv K 5))) (A8 K)))
  (A7 K (AS K (i:=7) bZ.nd rfl (by trivial) (AQ K EV ER (AQ K ((Ah).or (AR K)) (AH Ag Ab) (AQ K ((Ah).or (AR K)) (AH Ag Ab) (AQ K F7 F3 (qv K 7) (qv K 7)) (AQ K F7 F3 (A8 K) (qv K 7))) (qv K 5)) (A8 K)))
  (AC K (AZ K (AQ K EV ER (AQ K Kq Kn (qv K 7) (A8 K)) (qv K 1)))))))))))))⟩
theorem eU{Dw BO:Addr}{bv aM:FuncData}(DA:DefAt K mg "_law_cost" HW Dw bv ["_law_tape_here","_law_way"])(aL:DefAt K mg "_law_pick" Dn BO aM ["_law_tape_here","_law_many"])(HR:FnOk P w K mg base CX0 1 BO aM ["_law_tape_here","_law_many"] (spF K 2 F_pick))(B:BltA mg):FnOk P w K mg base CX0 2 Dw bv ["_law_tape_here","_law_way"] (spF K 2 F_cost):=by
 refine As (N:=["_law_tape_here","_law_way","_law_due","_law_weight","_law_start","_law_told","_law_rows","_law_k"]) (m:=bR) DA bJ λcdv A outer s H E hr=>?_;exact⟨_,(A7 K (AS K (i:=2) bJ.nd rfl (by trivial) (Fc K (Ar K ((Bt).or (BE K hr.units)) (AH BW BX) (AB K 2 HR hr aL (A2 K (qv K 0) (A2 K (A8 K) (A6 K))) AI) (A8 K)) (AQ K Ds Dp (AB K 2 HR hr aL (A2 K (qv K 0) (A2 K (A8 K) (A6 K))) AI) (A8 K)) (AQ K Ds Dp (AB K 2 HR hr aL (A2 K (qv K 0) (A2 K (A8 K) (A6 K))) AI) (A8 K))))
  (A7 K (AS K (i:=3) bJ.nd rfl (by trivial) (AB K 2 HR hr aL (A2 K (qv K 0) (A2 K (A8 K) (A6 K))) AI))
  (A7 K (BI K (Ar K K1 Jo (qv K 1) (A8 K))
   (AC K (AZ K (He K (BY K (A2 K (B6 K (A2 K (At K) (A2 K (qv K 2) (A6 K)))) (A2 K (B6 K (A2 K (At K) (A2 K (qv K 2) (A2 K (qv K 3) (A6 K))))) (A2 K (B6 K (A2 K (At K) (A2 K (qv K 2) (A2 K (qv K 3) (A6 K))))) (A2 K (B6 K (A2 K (At K) (A2 K (qv K 3) (A6 K)))) (A6 K)))))) (qv K 1))))
   (Au K))
  (A7 K (X0 K (i:=4) (j:=5) rfl bJ.nd rfl rfl (by decide) rfl rfl (A2 K (BM K (Ro rfl) Um B.min L2.bt_min (A2 K (qv K 2) (A2 K (A8 K) (A6 K)))) (A2 K (A8 K) (A6 K))))
  (A7 K (AS K (i:=6) bJ.nd rfl (by trivial) (BR K (BY K (A6 K))))
  (A7 K (CA K rfl (DE K B.range (A2 K (AQ K ((Ah).or (AR K)) (AH Ag Ab) (A8 K) (AB K 2 HR hr aL (A2 K (qv K 0) (A2 K (A8 K) (A6 K))) AI)) (A6 K))) (AD K (i:=7) bJ.nd rfl (by trivial))
   (A7 K (AS K (i:=4) bJ.nd rfl (by trivial) (AQ K ((Ah).or (AR K)) (AH Ag Ab) (AQ K ((Ah).or (AR K)) (AH Ag Ab) (qv K 4) (A8 K)) (AB K 2 HR hr aL (A2 K (qv K 0) (A2 K (A8 K) (A6 K))) AI)))
  (A7 K (AS K (i:=5) bJ.nd rfl (by trivial) (AQ K ((Ah).or (AR K)) (AH Ag Ab) (qv K 5) (AB K 2 HR hr aL (A2 K (qv K 0) (A2 K (A8 K) (A6 K))) AI)))
  (AC K (DZ K (Er K PySem.F.slot_list_append PySem.F.type_list_append CQ Ck (qv K 6) (A2 K (B6 K (A2 K (qv K 4) (A2 K (qv K 5) (A6 K)))) (A6 K))))))))
  (AC K (AZ K (B6 K (A2 K (At K) (A2 K (IU K (BJ K) (C9 Bk) B.tuple L2.bt_tuple (A2 K (qv K 6) (A6 K))) (A6 K))))))))))))⟩
theorem eK{Ek BO Dw:Addr}{cJ aM bv:FuncData}(DA:DefAt K mg "_law_works" IM Ek cJ ["_law_tape_here","_law_many","_law_alike"])(aL:DefAt K mg "_law_pick" Dn BO aM ["_law_tape_here","_law_many"])(HR:FnOk P w K mg base CX0 1 BO aM ["_law_tape_here","_law_many"] (spF K 2 F_pick))(df:DefAt K mg "_law_cost" HW Dw bv ["_law_tape_here","_law_way"])(cK:FnOk P w K mg base CX0 2 Dw bv ["_law_tape_here","_law_way"] (spF K 2 F_cost))(B:BltA mg):FnOk P w K mg base CX0 3 Ek cJ ["_law_tape_here","_law_many","_law_alike"] (spF K 3 F_works):=by
 refine As (N:=["_law_tape_here","_law_many","_law_alike","_law_begin","_law_wide","_law_found","_law_k","_law_coming"]) (m:=ck) DA ba λcdv A outer s H E hr=>?_;exact⟨_,(A7 K (AS K (i:=3) ba.nd rfl (by trivial) (AQ K F7 F3 (AB K 2 HR hr aL (A2 K (qv K 0) (A2 K (A8 K) (A6 K))) AI) (AB K 2 HR hr aL (A2 K (qv K 0) (A2 K (A8 K) (A6 K))) AI)))
  (A7 K (AS K (i:=4) ba.nd rfl (by trivial) (He K (BY K (A2 K (A8 K) (A2 K (A8 K) (A6 K)))) (AB K 2 HR hr aL (A2 K (qv K 0) (A2 K (A8 K) (A6 K))) AI)))
  (A7 K (AS K (i:=5) ba.nd rfl (by trivial) (BR K (BY K (A6 K))))
  (A7 K (CA K rfl (DE K B.range (A2 K (qv K 1) (A6 K))) (AD K (i:=6) ba.nd rfl (by trivial))
   (A7 K (AS K (i:=7) ba.nd rfl (by trivial) (Fc K (CH K (qv K 2)) (qv K 3) (AB K 2 HR hr aL (A2 K (qv K 0) (A2 K (He K (BY K (A2 K (A8 K) (A2 K (A8 K) (A6 K)))) (AB K 2 HR hr aL (A2 K (qv K 0) (A2 K (A8 K) (A6 K))) AI)) (A6 K))) AI)))
  (AC K (DZ K (Er K PySem.F.slot_list_append PySem.F.type_list_append CQ Ck (qv K 5) (A2 K (B6 K (A2 K (AQ K ((Ah).or (AR K)) (AH Ag Ab) (A8 K) (AB K 2 HR hr aL (A2 K (qv K 0) (A2 K (qv K 4) (A6 K))) AI)) (A2 K (qv K 7) (A2 K (AB K 2 cK hr df (A2 K (qv K 0) (A2 K (AB K 2 HR hr aL (A2 K (qv K 0) (A2 K (A8 K) (A6 K))) AI) (A6 K))) AI) (A6 K))))) (A6 K)))))))
  (AC K (AZ K (IU K (BJ K) (C9 Bk) B.tuple L2.bt_tuple (A2 K (qv K 5) (A6 K)))))))))⟩
theorem eI{EA BO:Addr}{cD aM:FuncData}(DA:DefAt K mg "_law_wishes" Gg EA cD ["_law_tape_here","_law_many"])(aL:DefAt K mg "_law_pick" Dn BO aM ["_law_tape_here","_law_many"])(HR:FnOk P w K mg base CX0 1 BO aM ["_law_tape_here","_law_many"] (spF K 2 F_pick))(B:BltA mg):FnOk P w K mg base CX0 2 EA cD ["_law_tape_here","_law_many"] (spF K 2 F_wishes):=by
 refine As (N:=["_law_tape_here","_law_many","_law_left","_law_seq","_law_k","_law_dense","_law_found","_law_i","_law_j"]) (m:=cC) DA aq λcdv A outer s H E hr=>?_;exact⟨_,(A7 K (AS K (i:=2) aq.nd rfl (by trivial) (BR K (Mu K B.list B.range (A2 K (qv K 1) (A6 K)))))
  (A7 K (AS K (i:=3) aq.nd rfl (by trivial) (BR K (BY K (A6 K))))
  (A7 K (CA K rfl (DE K B.range (A2 K (qv K 1) (A6 K))) (AD K (i:=4) aq.nd rfl (by trivial))
   (AC K (DZ K (Er K PySem.F.slot_list_append PySem.F.type_list_append CQ Ck (qv K 3) (A2 K (Er K PySem.F.slot_list_pop PySem.F.type_list_pop T4 SX (qv K 2) (A2 K (AB K 2 HR hr aL (A2 K (qv K 0) (A2 K (BM K (Bf K) (C9 Ce) B.len L2.bt_len (A2 K (qv K 2) (A6 K))) (A6 K))) AI) (A6 K))) (A6 K))))))
  (A7 K (AS K (i:=5) aq.nd rfl (by trivial) (He K (BY K (A2 K (A8 K) (A2 K (A8 K) (A2 K (A8 K) (A6 K))))) (AB K 2 HR hr aL (A2 K (qv K 0) (A2 K (A8 K) (A6 K))) AI)))
  (A7 K (AS K (i:=6) aq.nd rfl (by trivial) (BR K (BY K (A6 K))))
  (A7 K (CA K rfl (DE K B.range (A2 K (qv K 1) (A6 K))) (AD K (i:=7) aq.nd rfl (by trivial))
   (AC K (CA K rfl (V2 K B.range (A2 K (AQ K ((Ah).or (AR K)) (AH Ag Ab) (qv K 7) (A8 K)) (A2 K (qv K 1) (A6 K)))) (AD K (i:=8) aq.nd rfl (by trivial))
   (AC K (BI K (Ar K ((Bt).or (BE K hr.units)) (AH BW BX) (AB K 2 HR hr aL (A2 K (qv K 0) (A2 K (qv K 5) (A6 K))) AI) (A8 K))
   (AC K (DZ K (Er K PySem.F.slot_list_append PySem.F.type_list_append CQ Ck (qv K 6) (A2 K (B6 K (A2 K (Ad K (qv K 3) (qv K 7)) (A2 K (Ad K (qv K 3) (qv K 8)) (A6 K)))) (A6 K)))))
   (Au K))))))
  (AC K (AZ K (Fr K (BJ K) Bk B.tuple L2.bt_tuple (Qb K (BR K (P2 K B.sorted (V0 K (qv K 6)))) (C7 K) (Bp K (A8 K))))))))))))⟩
theorem eL{cL BO:Addr}{cM aM:FuncData}(DA:DefAt K mg "_law_order" IN cL cM ["_law_tape_here","_law_many","_law_wishes_here"])(aL:DefAt K mg "_law_pick" Dn BO aM ["_law_tape_here","_law_many"])(HR:FnOk P w K mg base CX0 1 BO aM ["_law_tape_here","_law_many"] (spF K 2 F_pick))(B:BltA mg):FnOk P w K mg base CX0 2 cL cM ["_law_tape_here","_law_many","_law_wishes_here"] (spF K 3 GX):=by
 refine As (N:=["_law_tape_here","_law_many","_law_wishes_here","_law_left","_law_found","_law_k","_law_some","_law_one"]) (m:=O8) DA bH λcdv A outer s H E hr=>?_;exact⟨_,(A7 K (AS K (i:=3) bH.nd rfl (by trivial) (BR K (Mu K B.list B.range (A2 K (qv K 1) (A6 K)))))
  (A7 K (AS K (i:=4) bH.nd rfl (by trivial) (BR K (BY K (A6 K))))
  (A7 K (CA K rfl (DE K B.range (A2 K (qv K 1) (A6 K))) (AD K (i:=5) bH.nd rfl (by trivial))
   (Fq K (A7 K (by first|exact DY K (i:=6) (loc:=["_law_b"]) (fr:=["_law_wishes_here","_law_left"]) (ix:=[2,3]) bH.nd rfl rfl rfl ⟨rfl,by decide +kernel,rfl,rfl,rfl,by decide +kernel⟩ (Db K (qv K 3)) (λ_ _ _=>(AD K (i:=0) (show(["_law_b","_law_wishes_here","_law_left"]:List Str).Nodup from by decide +kernel) rfl (by trivial))) (λ_ _ _=>(Dq K (Nz K (Hg K hr.units) (B5 K (loc:=["_law_a","_law_after"]) (fr:=["_law_b","_law_left"]) (ix:=[0,2]) rfl ⟨rfl,by decide +kernel,rfl,rfl,rfl,by decide +kernel⟩ (B3 K (qv K 1)) (λ_ _ _=>(Bx K (n:=2) rfl (AY K (AD K (i:=0) (show(["_law_a","_law_after","_law_b","_law_left"]:List Str).Nodup from by decide +kernel) rfl (by trivial)) (AY K (AD K (i:=1) (show(["_law_a","_law_after","_law_b","_law_left"]:List Str).Nodup from by decide +kernel) rfl (by trivial)) (Ba K))))) (λ_ _ _=>(Dq K (QW.toT (Ha K (Ar K ((Bt).or (BE K hr.units)) (AH BW BX) (qv K 1) (qv K 2)) (GG K (Ar K (My K) Ts (qv K 0) (qv K 3))))))) (λ_ _ _=>(qv K 0))) (BY K (A6 K))))) (λ_ _ _=>(qv K 0))|exact AS K (i:=6) bH.nd rfl (by trivial) (BR K (B5 K (loc:=["_law_b"]) (fr:=["_law_wishes_here","_law_left"]) (ix:=[2,3]) rfl ⟨rfl,by decide +kernel,rfl,rfl,rfl,by decide +kernel⟩ (Db K (qv K 3)) (λ_ _ _=>(AD K (i:=0) (show(["_law_b","_law_wishes_here","_law_left"]:List Str).Nodup from by decide +kernel) rfl (by trivial))) (λ_ _ _=>(Dq K (Nz K (Hg K hr.units) (B5 K (loc:=["_law_a","_law_after"]) (fr:=["_law_b","_law_left"]) (ix:=[0,2]) rfl ⟨rfl,by decide +kernel,rfl,rfl,rfl,by decide +kernel⟩ (B3 K (qv K 1)) (λ_ _ _=>(Bx K (n:=2) rfl (AY K (AD K (i:=0) (show(["_law_a","_law_after","_law_b","_law_left"]:List Str).Nodup from by decide +kernel) rfl (by trivial)) (AY K (AD K (i:=1) (show(["_law_a","_law_after","_law_b","_law_left"]:List Str).Nodup from by decide +kernel) rfl (by trivial)) (Ba K))))) (λ_ _ _=>(Dq K (QW.toT (Ha K (Ar K ((Bt).or (BE K hr.units)) (AH BW BX) (qv K 1) (qv K 2)) (GG K (Ar K (My K) Ts (qv K 0) (qv K 3))))))) (λ_ _ _=>(qv K 0))) (BY K (A6 K))))) (λ_ _ _=>(qv K 0)))))
  (A7 K (AS K (i:=7) bH.nd rfl (by trivial) (Ad K (qv K 6) (AB K 2 HR hr aL (A2 K (qv K 0) (A2 K (BM K (Bf K) (C9 Ce) B.len L2.bt_len (A2 K (qv K 6) (A6 K))) (A6 K))) AI)))
  (A7 K (DZ K (Er K PySem.F.slot_list_remove PySem.F.type_list_remove Qu QQ (qv K 3) (A2 K (qv K 7) (A6 K))))
  (AC K (DZ K (Er K PySem.F.slot_list_append PySem.F.type_list_append CQ Ck (qv K 4) (A2 K (qv K 7) (A6 K))))))))))
  (AC K (AZ K (IU K (BJ K) (C9 Bk) B.tuple L2.bt_tuple (A2 K (qv K 4) (A6 K))))))))⟩
theorem fB{dG:Addr}{dH:FuncData}(DA:DefAt K mg "_law_may" Ly dG dH ["_law_works_here","_law_wishes_here","_law_left","_law_work"]) (B:BltA mg):FnOk P w K mg base CX0 1 dG dH ["_law_works_here","_law_wishes_here","_law_left","_law_work"] (spF K 4 KZ):=by
 refine As (N:=["_law_works_here","_law_wishes_here","_law_left","_law_work","_law_firsts"]) (m:=U5) DA dZ λcdv A outer s H E hr=>?_;exact⟨_,(A7 K (by first|exact DY K (i:=4) (loc:=["_law_a","_law_after"]) (fr:=["_law_work"]) (ix:=[3]) dZ.nd rfl rfl rfl ⟨rfl,by decide +kernel,rfl,rfl,rfl,by decide +kernel⟩ (B3 K (qv K 1)) (λ_ _ _=>(Bx K (n:=2) rfl (AY K (AD K (i:=0) (show(["_law_a","_law_after","_law_work"]:List Str).Nodup from by decide +kernel) rfl (by trivial)) (AY K (AD K (i:=1) (show(["_law_a","_law_after","_law_work"]:List Str).Nodup from by decide +kernel) rfl (by trivial)) (Ba K))))) (λ_ _ _=>(Dq K (Ar K ((Bt).or (BE K hr.units)) (AH BW BX) (qv K 1) (qv K 2)))) (λ_ _ _=>(qv K 0))|exact AS K (i:=4) dZ.nd rfl (by trivial) (BR K (B5 K (loc:=["_law_a","_law_after"]) (fr:=["_law_work"]) (ix:=[3]) rfl ⟨rfl,by decide +kernel,rfl,rfl,rfl,by decide +kernel⟩ (B3 K (qv K 1)) (λ_ _ _=>(Bx K (n:=2) rfl (AY K (AD K (i:=0) (show(["_law_a","_law_after","_law_work"]:List Str).Nodup from by decide +kernel) rfl (by trivial)) (AY K (AD K (i:=1) (show(["_law_a","_law_after","_law_work"]:List Str).Nodup from by decide +kernel) rfl (by trivial)) (Ba K))))) (λ_ _ _=>(Dq K (Ar K ((Bt).or (BE K hr.units)) (AH BW BX) (qv K 1) (qv K 2)))) (λ_ _ _=>(qv K 0)))))
  (AC K (AZ K (GJ K (ET K K2 Jp (Ad K (qv K 2) (qv K 3)) (A8 K)) (GI K (O2 K (Hg K hr.units) (B5 K (loc:=["_law_a"]) (fr:=["_law_left"]) (ix:=[2]) rfl ⟨rfl,by decide +kernel,rfl,rfl,rfl,by decide +kernel⟩ (Db K (qv K 4)) (λ_ _ _=>(AD K (i:=0) (show(["_law_a","_law_left"]:List Str).Nodup from by decide +kernel) rfl (by trivial))) (λ_ _ _=>(Dq K (Ar K K2 Jp (Ad K (qv K 1) (qv K 0)) (A8 K)))) (λ_ _ _=>(qv K 0))) (BY K (A6 K))))))))⟩
theorem eV{cY BO dG:Addr}{cZ aM dH:FuncData}(DA:DefAt K mg "_law_plan" Jk cY cZ ["_law_tape_here","_law_works_here","_law_wishes_here"])(aL:DefAt K mg "_law_pick" Dn BO aM ["_law_tape_here","_law_many"])(HR:FnOk P w K mg base CX0 1 BO aM ["_law_tape_here","_law_many"] (spF K 2 F_pick))(fH:DefAt K mg "_law_may" Ly dG dH ["_law_works_here","_law_wishes_here","_law_left","_law_work"])(eC:FnOk P w K mg base CX0 1 dG dH ["_law_works_here","_law_wishes_here","_law_left","_law_work"] (spF K 4 KZ))(B:BltA mg):FnOk P w K mg base CX0 2 cY cZ ["_law_tape_here","_law_works_here","_law_wishes_here"] (spF K 3 ID):=by
 refine As (N:=["_law_tape_here","_law_works_here","_law_wishes_here","_law_left","_law_found","_law_now","_law_gaps","_law_turn","_law_some","_law_work","_law_here","_law_days"]) (m:=Qx) DA aO λcdv A outer s H E hr=>?_;exact⟨_,(A7 K (by first|exact DY K (i:=3) (loc:=["_law_work"]) (fr:=[]) (ix:=[]) aO.nd rfl rfl rfl ⟨rfl,by decide +kernel,rfl,rfl,rfl,by decide +kernel⟩ (B3 K (qv K 1)) (λ_ _ _=>(AD K (i:=0) (show(["_law_work"]:List Str).Nodup from by decide +kernel) rfl (by trivial))) (λ_ _ _=>(BK K)) (λ_ _ _=>(Ad K (qv K 0) (A8 K)))|exact AS K (i:=3) aO.nd rfl (by trivial) (BR K (B5 K (loc:=["_law_work"]) (fr:=[]) (ix:=[]) rfl ⟨rfl,by decide +kernel,rfl,rfl,rfl,by decide +kernel⟩ (B3 K (qv K 1)) (λ_ _ _=>(AD K (i:=0) (show(["_law_work"]:List Str).Nodup from by decide +kernel) rfl (by trivial))) (λ_ _ _=>(BK K)) (λ_ _ _=>(Ad K (qv K 0) (A8 K))))))
  (A7 K (AS K (i:=4) aO.nd rfl (by trivial) (BR K (BY K (A6 K))))
  (A7 K (Hc K (B6 K (A2 K (A8 K) (A2 K (A8 K) (A6 K)))) (Bx K (n:=2) rfl (AY K (AD K (i:=5) aO.nd rfl (by trivial)) (AY K (AD K (i:=6) aO.nd rfl (by trivial)) (Ba K)))))
  (A7 K (CA K rfl (DE K B.range (A2 K (A8 K) (A6 K))) (AD K (i:=7) aO.nd rfl (by trivial))
   (Fq K (A7 K (AS K (i:=8) aO.nd rfl (by trivial) (BR K (BY K (A6 K))))
  (A7 K (CA K rfl (DE K B.range (A2 K (BM K (Bf K) (C9 Ce) B.len L2.bt_len (A2 K (qv K 1) (A6 K))) (A6 K))) (AD K (i:=9) aO.nd rfl (by trivial))
   (Fq K (AC K (BI K (CH K (Mv K eC hr fH (A2 K (qv K 1) (A2 K (qv K 2) (A2 K (qv K 3) (A2 K (qv K 9) (A6 K))))) AI))
   (AC K (DZ K (Er K PySem.F.slot_list_append PySem.F.type_list_append CQ Ck (qv K 8) (A2 K (qv K 9) (A6 K)))))
   (Au K)))))
  (A7 K (by first|exact DY K (i:=10) (loc:=["_law_work"]) (fr:=["_law_works_here","_law_now"]) (ix:=[1,5]) aO.nd rfl rfl rfl ⟨rfl,by decide +kernel,rfl,rfl,rfl,by decide +kernel⟩ (Db K (qv K 8)) (λ_ _ _=>(AD K (i:=0) (show(["_law_work","_law_works_here","_law_now"]:List Str).Nodup from by decide +kernel) rfl (by trivial))) (λ_ _ _=>(Dq K (Ar K IW IR (Ad K (Ad K (qv K 1) (qv K 0)) (A8 K)) (qv K 2)))) (λ_ _ _=>(qv K 0))|exact AS K (i:=10) aO.nd rfl (by trivial) (BR K (B5 K (loc:=["_law_work"]) (fr:=["_law_works_here","_law_now"]) (ix:=[1,5]) rfl ⟨rfl,by decide +kernel,rfl,rfl,rfl,by decide +kernel⟩ (Db K (qv K 8)) (λ_ _ _=>(AD K (i:=0) (show(["_law_work","_law_works_here","_law_now"]:List Str).Nodup from by decide +kernel) rfl (by trivial))) (λ_ _ _=>(Dq K (Ar K IW IR (Ad K (Ad K (qv K 1) (qv K 0)) (A8 K)) (qv K 2)))) (λ_ _ _=>(qv K 0)))))
  (AC K (BI K (QW.toT (Ha K (GH K (Hg K hr.units) (qv K 10) (BY K (A6 K))) (GG K (GH K (Jz K hr.units) (qv K 8) (BY K (A6 K))))))
   (AC K (AS K (i:=5) aO.nd rfl (by trivial) (P3 K (I0 K rfl) Ml B.min L2.bt_min (B5 K (loc:=["_law_work"]) (fr:=["_law_works_here"]) (ix:=[1]) rfl ⟨rfl,by decide +kernel,rfl,rfl,rfl,by decide +kernel⟩ (Db K (qv K 8)) (λ_ _ _=>(AD K (i:=0) (show(["_law_work","_law_works_here"]:List Str).Nodup from by decide +kernel) rfl (by trivial))) (λ_ _ _=>(BK K)) (λ_ _ _=>(Ad K (Ad K (qv K 1) (qv K 0)) (A8 K)))))))
   (AC K (BI K (GH K (Jz K hr.units) (qv K 10) (BY K (A6 K)))
   (A7 K (AS K (i:=9) aO.nd rfl (by trivial) (Ad K (qv K 10) (AB K 2 HR hr aL (A2 K (qv K 0) (A2 K (BM K (Bf K) (C9 Ce) B.len L2.bt_len (A2 K (qv K 10) (A6 K))) (A6 K))) AI)))
  (A7 K (AS K (i:=11) aO.nd rfl (by trivial) (Ad K (qv K 3) (qv K 9)))
  (A7 K (BI K (Ar K K1 Jo (BM K (Bf K) (C9 Ce) B.len L2.bt_len (A2 K (qv K 4) (A6 K))) (A8 K))
   (AC K (AS K (i:=11) aO.nd rfl (by trivial) (AQ K ((Ah).or (AR K)) (AH Ag Ab) (A8 K) (AB K 2 HR hr aL (A2 K (qv K 0) (A2 K (qv K 11) (A6 K))) AI))))
   (Au K))
  (A7 K (DZ K (Er K PySem.F.slot_list_append PySem.F.type_list_append CQ Ck (qv K 4) (A2 K (B6 K (A2 K (qv K 9) (A2 K (qv K 5) (A2 K (AQ K ((Ah).or (AR K)) (AH Ag Ab) (qv K 5) (qv K 11)) (A6 K))))) (A6 K))))
  (A7 K (O0 K (qv K 3) (qv K 9) (AQ K Ds Dp (Ad K (qv K 3) (qv K 9)) (qv K 11)))
  (A7 K (AS K (i:=5) aO.nd rfl (by trivial) (AQ K ((Ah).or (AR K)) (AH Ag Ab) (qv K 5) (qv K 11)))
  (AC K (BI K (QW.toT (Ha K (Ar K K2 Jp (qv K 6) (A8 K)) (GG K (Ar K ((Bt).or (BE K hr.units)) (AH BW BX) (AB K 2 HR hr aL (A2 K (qv K 0) (A2 K (A8 K) (A6 K))) AI) (A8 K)))))
   (A7 K (AS K (i:=6) aO.nd rfl (by trivial) (AQ K Ds Dp (qv K 6) (A8 K)))
  (AC K (AS K (i:=5) aO.nd rfl (by trivial) (AQ K ((Ah).or (AR K)) (AH Ag Ab) (AQ K ((Ah).or (AR K)) (AH Ag Ab) (qv K 5) (A8 K)) (AB K 2 HR hr aL (A2 K (qv K 0) (A2 K (A8 K) (A6 K))) AI)))))
   (Au K)))))))))
   (Au K))))))))))
  (AC K (AZ K (IU K (BJ K) (C9 Bk) B.tuple L2.bt_tuple (A2 K (qv K 4) (A6 K)))))))))⟩
theorem eM{bN:Addr}{bO:FuncData}(DA:DefAt K mg "_law_later" GE bN bO ["_law_plan_here","_law_days"]) (B:BltA mg):FnOk P w K mg base CX0 1 bN bO ["_law_plan_here","_law_days"] (spF K 2 Di):=by
 refine As (N:=["_law_plan_here","_law_days"]) (m:=OA) DA SN λcdv A outer s H E hr=>?_;exact⟨_,(AC K (AZ K (Fr K (BJ K) Bk B.tuple L2.bt_tuple (B5 K (loc:=["_law_work","_law_start","_law_end"]) (fr:=["_law_days"]) (ix:=[1]) rfl ⟨rfl,by decide +kernel,rfl,rfl,rfl,by decide +kernel⟩ (B3 K (qv K 0)) (λ_ _ _=>(Bx K (n:=3) rfl (AY K (AD K (i:=0) (show(["_law_work","_law_start","_law_end","_law_days"]:List Str).Nodup from by decide +kernel) rfl (by trivial)) (AY K (AD K (i:=1) (show(["_law_work","_law_start","_law_end","_law_days"]:List Str).Nodup from by decide +kernel) rfl (by trivial)) (AY K (AD K (i:=2) (show(["_law_work","_law_start","_law_end","_law_days"]:List Str).Nodup from by decide +kernel) rfl (by trivial)) (Ba K)))))) (λ_ _ _=>(BK K)) (λ_ _ _=>(B6 K (A2 K (qv K 0) (A2 K (AQ K ((Ah).or (AR K)) (AH Ag Ab) (qv K 1) (qv K 3)) (A2 K (AQ K ((Ah).or (AR K)) (AH Ag Ab) (qv K 2) (qv K 3)) (A6 K))))))))))⟩
theorem eN{cO b0 aw:Addr}{cP b7 ax:FuncData}(DA:DefAt K mg "_law_moved" IP cO cP ["_law_works_here","_law_days"])(cb:DefAt K mg "moved_cost" EO b0 b7 ["cost","days"])(bY:FnOk P w K mg base CX0 2 b0 b7 ["cost","days"] (spF K 2 Bn))(dX:DefAt K mg "with_coming" E2 aw ax ["works","j","number"])(c8:FnOk P w K mg base CX0 2 aw ax ["works","j","number"] (spF K 3 DB))(B:BltA mg):FnOk P w K mg base CX0 3 cO cP ["_law_works_here","_law_days"] (spF K 2 GY):=by
 refine As (N:=["_law_works_here","_law_days","_law_found","_law_j","_law_costs"]) (m:=O9) DA bc λcdv A outer s H E hr=>?_;exact⟨_,(A7 K (AS K (i:=2) bc.nd rfl (by trivial) (qv K 0))
  (A7 K (CA K rfl (DE K B.range (A2 K (BM K (Bf K) (C9 Ce) B.len L2.bt_len (A2 K (qv K 0) (A6 K))) (A6 K))) (AD K (i:=3) bc.nd rfl (by trivial))
   (AC K (AS K (i:=2) bc.nd rfl (by trivial) (AB K 0 c8 hr dX (A2 K (qv K 2) (A2 K (qv K 3) (A2 K (AQ K ((Ah).or (AR K)) (AH Ag Ab) (Ad K (Ad K (qv K 0) (qv K 3)) (A8 K)) (qv K 1)) (A6 K)))) AI))))
  (A7 K (by first|exact DY K (i:=4) (loc:=["_law_work"]) (fr:=["_law_days"]) (ix:=[1]) bc.nd rfl rfl rfl ⟨rfl,by decide +kernel,rfl,rfl,rfl,by decide +kernel⟩ (B3 K (qv K 0)) (λ_ _ _=>(AD K (i:=0) (show(["_law_work","_law_days"]:List Str).Nodup from by decide +kernel) rfl (by trivial))) (λ_ _ _=>(BK K)) (λ_ _ _=>(Fc K (Ar K ((Bt).or (BE K hr.units)) (AH BW BX) (Ad K (Ad K (qv K 0) (A8 K)) (A8 K)) (At K)) (Ad K (qv K 0) (A8 K)) (AB K 0 bY hr cb (A2 K (Ad K (qv K 0) (A8 K)) (A2 K (qv K 1) (A6 K))) AI)))|exact AS K (i:=4) bc.nd rfl (by trivial) (BR K (B5 K (loc:=["_law_work"]) (fr:=["_law_days"]) (ix:=[1]) rfl ⟨rfl,by decide +kernel,rfl,rfl,rfl,by decide +kernel⟩ (B3 K (qv K 0)) (λ_ _ _=>(AD K (i:=0) (show(["_law_work","_law_days"]:List Str).Nodup from by decide +kernel) rfl (by trivial))) (λ_ _ _=>(BK K)) (λ_ _ _=>(Fc K (Ar K ((Bt).or (BE K hr.units)) (AH BW BX) (Ad K (Ad K (qv K 0) (A8 K)) (A8 K)) (At K)) (Ad K (qv K 0) (A8 K)) (AB K 0 bY hr cb (A2 K (Ad K (qv K 0) (A8 K)) (A2 K (qv K 1) (A6 K))) AI))))))
  (AC K (AZ K (Fr K (BJ K) Bk B.tuple L2.bt_tuple (B5 K (loc:=["_law_j"]) (fr:=["_law_found","_law_costs"]) (ix:=[2,4]) rfl ⟨rfl,by decide +kernel,rfl,rfl,rfl,by decide +kernel⟩ (DE K B.range (A2 K (BM K (Bf K) (C9 Ce) B.len L2.bt_len (A2 K (qv K 0) (A6 K))) (A6 K))) (λ_ _ _=>(AD K (i:=0) (show(["_law_j","_law_found","_law_costs"]:List Str).Nodup from by decide +kernel) rfl (by trivial))) (λ_ _ _=>(BK K)) (λ_ _ _=>(B6 K (A2 K (Ad K (Ad K (qv K 1) (qv K 0)) (A8 K)) (A2 K (Ad K (Ad K (qv K 1) (qv K 0)) (A8 K)) (A2 K (Ad K (qv K 2) (qv K 0)) (A6 K)))))))))))))⟩
theorem eW{ce BO:Addr}{cf aM:FuncData}(DA:DefAt K mg "_law_near" Jl ce cf ["_law_tape_here","_law_plan_here"])(aL:DefAt K mg "_law_pick" Dn BO aM ["_law_tape_here","_law_many"])(HR:FnOk P w K mg base CX0 1 BO aM ["_law_tape_here","_law_many"] (spF K 2 F_pick))(B:BltA mg):FnOk P w K mg base CX0 2 ce cf ["_law_tape_here","_law_plan_here"] (spF K 2 IE):=by
 refine As (N:=["_law_tape_here","_law_plan_here","_law_at","_law_work","_law_start","_law_end","_law_some","_law_found"]) (m:=Qy) DA bK λcdv A outer s H E hr=>?_;exact⟨_,(A7 K (AS K (i:=2) bK.nd rfl (by trivial) (AB K 2 HR hr aL (A2 K (qv K 0) (A2 K (BM K (Bf K) (C9 Ce) B.len L2.bt_len (A2 K (qv K 1) (A6 K))) (A6 K))) AI))
  (A7 K (Hc K (Ad K (qv K 1) (qv K 2)) (Bx K (n:=3) rfl (AY K (AD K (i:=3) bK.nd rfl (by trivial)) (AY K (AD K (i:=4) bK.nd rfl (by trivial)) (AY K (AD K (i:=5) bK.nd rfl (by trivial)) (Ba K))))))
  (A7 K (AS K (i:=6) bK.nd rfl (by trivial) (BR K (BY K (A2 K (B6 K (A2 K (qv K 3) (A2 K (AQ K Ds Dp (qv K 4) (A8 K)) (A2 K (AQ K Ds Dp (qv K 5) (A8 K)) (A6 K))))) (A2 K (B6 K (A2 K (qv K 3) (A2 K (AQ K ((Ah).or (AR K)) (AH Ag Ab) (qv K 4) (A8 K)) (A2 K (AQ K ((Ah).or (AR K)) (AH Ag Ab) (qv K 5) (A8 K)) (A6 K))))) (A2 K (B6 K (A2 K (qv K 3) (A2 K (qv K 4) (A2 K (AQ K ((Ah).or (AR K)) (AH Ag Ab) (qv K 5) (A8 K)) (A6 K))))) (A2 K (B6 K (A2 K (qv K 3) (A2 K (AQ K ((Ah).or (AR K)) (AH Ag Ab) (qv K 4) (A8 K)) (A2 K (qv K 5) (A6 K))))) (A6 K))))))))
  (A7 K (by first|exact DY K (i:=7) (loc:=["_law_one"]) (fr:=["_law_plan_here","_law_at"]) (ix:=[1,2]) bK.nd rfl rfl rfl ⟨rfl,by decide +kernel,rfl,rfl,rfl,by decide +kernel⟩ (Db K (qv K 6)) (λ_ _ _=>(AD K (i:=0) (show(["_law_one","_law_plan_here","_law_at"]:List Str).Nodup from by decide +kernel) rfl (by trivial))) (λ_ _ _=>(BK K)) (λ_ _ _=>(AQ K ((Ah).or (AR K)) (AH Ag Ab) (AQ K (((Ah).or (AR K)).or (GK K)) (AH (AH Ag Ab) GF) (DP K (qv K 1) (C7 K) (Bp K (qv K 2))) (B6 K (A2 K (qv K 0) (A6 K)))) (DP K (qv K 1) (Bp K (AQ K ((Ah).or (AR K)) (AH Ag Ab) (qv K 2) (A8 K))) (C7 K))))|exact AS K (i:=7) bK.nd rfl (by trivial) (BR K (B5 K (loc:=["_law_one"]) (fr:=["_law_plan_here","_law_at"]) (ix:=[1,2]) rfl ⟨rfl,by decide +kernel,rfl,rfl,rfl,by decide +kernel⟩ (Db K (qv K 6)) (λ_ _ _=>(AD K (i:=0) (show(["_law_one","_law_plan_here","_law_at"]:List Str).Nodup from by decide +kernel) rfl (by trivial))) (λ_ _ _=>(BK K)) (λ_ _ _=>(AQ K ((Ah).or (AR K)) (AH Ag Ab) (AQ K (((Ah).or (AR K)).or (GK K)) (AH (AH Ag Ab) GF) (DP K (qv K 1) (C7 K) (Bp K (qv K 2))) (B6 K (A2 K (qv K 0) (A6 K)))) (DP K (qv K 1) (Bp K (AQ K ((Ah).or (AR K)) (AH Ag Ab) (qv K 2) (A8 K))) (C7 K)))))))
  (AC K (AZ K (BR K (X1 K (qv K 7) (BR K (BY K (A2 K (AQ K (((Ah).or (AR K)).or (GK K)) (AH (AH Ag Ab) GF) (DP K (qv K 1) (C7 K) (Bp K (qv K 2))) (DP K (qv K 1) (Bp K (AQ K ((Ah).or (AR K)) (AH Ag Ab) (qv K 2) (A8 K))) (C7 K))) (A2 K (AQ K ((Ah).or (AR K)) (AH Ag Ab) (AQ K (((Ah).or (AR K)).or (GK K)) (AH (AH Ag Ab) GF) (DP K (qv K 1) (C7 K) (Bp K (qv K 2))) (O1 (Qd K (qv K 1) (Bp K (qv K 2)) (Bp K (AQ K ((Ah).or (AR K)) (AH Ag Ab) (qv K 2) (A8 K)))) (Qe K (A8 K)))) (DP K (qv K 1) (Bp K (AQ K ((Ah).or (AR K)) (AH Ag Ab) (qv K 2) (A8 K))) (C7 K))) (A2 K (qv K 1) (A2 K (O1 (qv K 1) (Qe K (A8 K))) (A6 K)))))))))))))))⟩
theorem eX{cg aR bu ae EI bN:Addr}{ci aS bM af cI bO:FuncData}(DA:DefAt K mg "_law_same" Jj cg ci ["_law_works_here","_law_others","_law_plan_here","_law_days"])(bL:DefAt K mg "ends_of" ED aR aS ["works","plan"])(aX:FnOk P w K mg base CX0 1 aR aS ["works","plan"] (spF K 2 F_ends_of))(dS:DefAt K mg "by_ends" C6 bu bM ["works","plan"])(cF:FnOk P w K mg base CX0 4 bu bM ["works","plan"] (spF K 2 EK))(cA:DefAt K mg "costs_of" EQ ae af ["works","ends"])(ar:FnOk P w K mg base CX0 3 ae af ["works","ends"] (spF K 2 F_costs_of))(dv:DefAt K mg "worth" IL EI cI ["works","ends","question"])(cq:FnOk P w K mg base CX0 4 EI cI ["works","ends","question"] (spF K 3 F_worth))(cQ:DefAt K mg "_law_later" GE bN bO ["_law_plan_here","_law_days"])(bP:FnOk P w K mg base CX0 1 bN bO ["_law_plan_here","_law_days"] (spF K 2 Di))(B:BltA mg):FnOk P w K mg base CX0 5 cg ci ["_law_works_here","_law_others","_law_plan_here","_law_days"] (spF K 4 IC):=by
 refine As (N:=["_law_works_here","_law_others","_law_plan_here","_law_days","_law_ends","_law_theirs"]) (m:=Qw) DA dJ λcdv A outer s H E hr=>?_;exact⟨_,(A7 K (Hc K (B6 K (A2 K (AB K 0 aX hr bL (A2 K (qv K 0) (A2 K (qv K 2) (A6 K))) AI) (A2 K (AB K 0 aX hr bL (A2 K (qv K 1) (A2 K (AB K 0 bP hr cQ (A2 K (qv K 2) (A2 K (qv K 3) (A6 K))) AI) (A6 K))) AI) (A6 K)))) (Bx K (n:=2) rfl (AY K (AD K (i:=4) dJ.nd rfl (by trivial)) (AY K (AD K (i:=5) dJ.nd rfl (by trivial)) (Ba K)))))
  (A7 K (BI K (Ar K ((K0).or (FQ K hr.units)) (AH HY HZ) (BM K (CB K hr.gd hr.units) EE B.repr L2.bt_repr (A2 K (qv K 5) (A6 K))) (BM K (CB K hr.gd hr.units) EE B.repr L2.bt_repr (A2 K (Fr K (BJ K) Bk B.tuple L2.bt_tuple (B5 K (loc:=["_law_end"]) (fr:=["_law_days"]) (ix:=[3]) rfl ⟨rfl,by decide +kernel,rfl,rfl,rfl,by decide +kernel⟩ (B3 K (qv K 4)) (λ_ _ _=>(AD K (i:=0) (show(["_law_end","_law_days"]:List Str).Nodup from by decide +kernel) rfl (by trivial))) (λ_ _ _=>(BK K)) (λ_ _ _=>(AQ K ((Ah).or (AR K)) (AH Ag Ab) (qv K 0) (qv K 1))))) (A6 K))))
   (AC K (AZ K (Dc K)))
   (Au K))
  (A7 K (BI K (Ar K ((K0).or (FQ K hr.units)) (AH HY HZ) (BM K (CB K hr.gd hr.units) EE B.repr L2.bt_repr (A2 K (AB K 0 cF hr dS (A2 K (qv K 1) (A2 K (AB K 0 bP hr cQ (A2 K (qv K 2) (A2 K (qv K 3) (A6 K))) AI) (A6 K))) AI) (A6 K))) (BM K (CB K hr.gd hr.units) EE B.repr L2.bt_repr (A2 K (AB K 0 cF hr dS (A2 K (qv K 0) (A2 K (qv K 2) (A6 K))) AI) (A6 K))))
   (AC K (AZ K (Dc K)))
   (Au K))
  (A7 K (BI K (Ux K (My K) (At K) (B5 K (loc:=["_law_work"]) (fr:=[]) (ix:=[]) rfl ⟨rfl,by decide +kernel,rfl,rfl,rfl,by decide +kernel⟩ (B3 K (qv K 0)) (λ_ _ _=>(AD K (i:=0) (show(["_law_work"]:List Str).Nodup from by decide +kernel) rfl (by trivial))) (λ_ _ _=>(BK K)) (λ_ _ _=>(Ad K (Ad K (qv K 0) (A8 K)) (A8 K)))))
   (AC K (AZ K (Dc K)))
   (Au K))
  (A7 K (BI K (Ar K ((K0).or (FQ K hr.units)) (AH HY HZ) (BM K (CB K hr.gd hr.units) EE B.repr L2.bt_repr (A2 K (AB K 0 ar hr cA (A2 K (qv K 1) (A2 K (qv K 5) (A6 K))) AI) (A6 K))) (BM K (CB K hr.gd hr.units) EE B.repr L2.bt_repr (A2 K (AB K 0 ar hr cA (A2 K (qv K 0) (A2 K (qv K 4) (A6 K))) AI) (A6 K))))
   (AC K (AZ K (Dc K)))
   (Au K))
  (AC K (AZ K (O2 K (Hg K hr.units) (B5 K (loc:=["_law_one"]) (fr:=["_law_works_here","_law_ends"]) (ix:=[0,4]) rfl ⟨rfl,by decide +kernel,rfl,rfl,rfl,by decide +kernel⟩ (B3 K (B6 K (A2 K (At K) (A2 K (At K) (A6 K))))) (λ_ _ _=>(AD K (i:=0) (show(["_law_one","_law_works_here","_law_ends"]:List Str).Nodup from by decide +kernel) rfl (by trivial))) (λ_ _ _=>(BK K)) (λ_ _ _=>(AB K 0 cq hr dv (A2 K (qv K 1) (A2 K (qv K 2) (A2 K (qv K 0) (A6 K)))) AI))) (B5 K (loc:=["_law_one"]) (fr:=["_law_others","_law_theirs"]) (ix:=[1,5]) rfl ⟨rfl,by decide +kernel,rfl,rfl,rfl,by decide +kernel⟩ (B3 K (B6 K (A2 K (At K) (A2 K (At K) (A6 K))))) (λ_ _ _=>(AD K (i:=0) (show(["_law_one","_law_others","_law_theirs"]:List Str).Nodup from by decide +kernel) rfl (by trivial))) (λ_ _ _=>(BK K)) (λ_ _ _=>(AB K 0 cq hr dv (A2 K (qv K 1) (A2 K (qv K 2) (A2 K (qv K 0) (A6 K)))) AI)))))))))))⟩
theorem fC{eP Gy br Fh BO Dw Ek EA cL cY bN cO ce cg:Addr}{eQ dC bt cX aM bv cJ cD cM cZ bO cP cf ci:FuncData}(DA:DefAt K mg "law" Eo eP eQ ["_law_script"])(eD:DefAt K mg "run" Lx Gy dC ["works","order"])(dI:FnOk P w K mg base CX0 1 Gy dC ["works","order"] (spF K 2 F_run))(cj:DefAt K mg "is_plan" Fo br bt ["works","wishes","thing"])(bw:FnOk P w K mg base CX0 5 br bt ["works","wishes","thing"] (spF K 3 DU))(fD:DefAt K mg "_law_tape" Ji Fh cX ["_law_script"])(dg:FnOk P w K mg base CX0 1 Fh cX ["_law_script"] (spF K 1 F_tape))(aL:DefAt K mg "_law_pick" Dn BO aM ["_law_tape_here","_law_many"])(HR:FnOk P w K mg base CX0 1 BO aM ["_law_tape_here","_law_many"] (spF K 2 F_pick))(df:DefAt K mg "_law_cost" HW Dw bv ["_law_tape_here","_law_way"])(cK:FnOk P w K mg base CX0 2 Dw bv ["_law_tape_here","_law_way"] (spF K 2 F_cost))(eY:DefAt K mg "_law_works" IM Ek cJ ["_law_tape_here","_law_many","_law_alike"])(dP:FnOk P w K mg base CX0 3 Ek cJ ["_law_tape_here","_law_many","_law_alike"] (spF K 3 F_works))(eO:DefAt K mg "_law_wishes" Gg EA cD ["_law_tape_here","_law_many"])(cx:FnOk P w K mg base CX0 2 EA cD ["_law_tape_here","_law_many"] (spF K 2 F_wishes))(eZ:DefAt K mg "_law_order" IN cL cM ["_law_tape_here","_law_many","_law_wishes_here"])(dQ:FnOk P w K mg base CX0 2 cL cM ["_law_tape_here","_law_many","_law_wishes_here"] (spF K 3 GX))(fE:DefAt K mg "_law_plan" Jk cY cZ ["_law_tape_here","_law_works_here","_law_wishes_here"])(dh:FnOk P w K mg base CX0 2 cY cZ ["_law_tape_here","_law_works_here","_law_wishes_here"] (spF K 3 ID))(cQ:DefAt K mg "_law_later" GE bN bO ["_law_plan_here","_law_days"])(bP:FnOk P w K mg base CX0 1 bN bO ["_law_plan_here","_law_days"] (spF K 2 Di))(eg:DefAt K mg "_law_moved" IP cO cP ["_law_works_here","_law_days"])(dR:FnOk P w K mg base CX0 3 cO cP ["_law_works_here","_law_days"] (spF K 2 GY))(fF:DefAt K mg "_law_near" Jl ce cf ["_law_tape_here","_law_plan_here"])(di:FnOk P w K mg base CX0 2 ce cf ["_law_tape_here","_law_plan_here"] (spF K 2 IE))(fG:DefAt K mg "_law_same" Jj cg ci ["_law_works_here","_law_others","_law_plan_here","_law_days"])(dj:FnOk P w K mg base CX0 5 cg ci ["_law_works_here","_law_others","_law_plan_here","_law_days"] (spF K 4 IC))(B:BltA mg):FnOk P w K mg base CX0 6 eP eQ ["_law_script"] (spF K 1 cn):=by
 refine As (N:=["_law_script","_law_tape_here","_law_k","_law_many","_law_works_here","_law_wishes_here","_law_comings","_law_days","_law_others","_law_order_here","_law_plan_here","_law_thing","_law_one"]) (m:=U6) DA aY λcdv A outer s H E hr=>?_;exact⟨_,(A7 K (AS K (i:=1) aY.nd rfl (by trivial) (Mv K dg hr fD (A2 K (qv K 0) (A6 K)) AI))
  (A7 K (CA K rfl (DE K B.range (A2 K (A8 K) (A6 K))) (AD K (i:=2) aY.nd rfl (by trivial))
   (Fq K (A7 K (AS K (i:=3) aY.nd rfl (by trivial) (AQ K ((Ah).or (AR K)) (AH Ag Ab) (A8 K) (AB K 2 HR hr aL (A2 K (qv K 1) (A2 K (A8 K) (A6 K))) AI)))
  (A7 K (AS K (i:=4) aY.nd rfl (by trivial) (AB K 2 dP hr eY (A2 K (qv K 1) (A2 K (qv K 3) (A2 K (ET K ((Bt).or (BE K hr.units)) (AH BW BX) (qv K 2) (A8 K)) (A6 K)))) AI))
  (A7 K (BI K (Ar K ((Bt).or (BE K hr.units)) (AH BW BX) (AQ K EV ER (qv K 2) (A8 K)) (A8 K))
   (AC K (AS K (i:=4) aY.nd rfl (by trivial) (Fr K (BJ K) Bk B.tuple L2.bt_tuple (B5 K (loc:=["_law_work"]) (fr:=["_law_tape_here"]) (ix:=[1]) rfl ⟨rfl,by decide +kernel,rfl,rfl,rfl,by decide +kernel⟩ (B3 K (qv K 4)) (λ_ _ _=>(AD K (i:=0) (show(["_law_work","_law_tape_here"]:List Str).Nodup from by decide +kernel) rfl (by trivial))) (λ_ _ _=>(BK K)) (λ_ _ _=>(B6 K (A2 K (Ad K (qv K 0) (A8 K)) (A2 K (Ad K (qv K 0) (A8 K)) (A2 K (AB K 2 cK hr df (A2 K (qv K 1) (A2 K (He K (BY K (A2 K (A8 K) (A2 K (A8 K) (A2 K (A8 K) (A2 K (A8 K) (A6 K)))))) (AB K 2 HR hr aL (A2 K (qv K 1) (A2 K (A8 K) (A6 K))) AI)) (A6 K))) AI) (A6 K))))))))))
   (Au K))
  (A7 K (AS K (i:=5) aY.nd rfl (by trivial) (AB K 2 cx hr eO (A2 K (qv K 1) (A2 K (qv K 3) (A6 K))) AI))
  (A7 K (by first|exact DY K (i:=6) (loc:=["_law_work"]) (fr:=[]) (ix:=[]) aY.nd rfl rfl rfl ⟨rfl,by decide +kernel,rfl,rfl,rfl,by decide +kernel⟩ (B3 K (qv K 4)) (λ_ _ _=>(AD K (i:=0) (show(["_law_work"]:List Str).Nodup from by decide +kernel) rfl (by trivial))) (λ_ _ _=>(BK K)) (λ_ _ _=>(Ad K (qv K 0) (A8 K)))|exact AS K (i:=6) aY.nd rfl (by trivial) (BR K (B5 K (loc:=["_law_work"]) (fr:=[]) (ix:=[]) rfl ⟨rfl,by decide +kernel,rfl,rfl,rfl,by decide +kernel⟩ (B3 K (qv K 4)) (λ_ _ _=>(AD K (i:=0) (show(["_law_work"]:List Str).Nodup from by decide +kernel) rfl (by trivial))) (λ_ _ _=>(BK K)) (λ_ _ _=>(Ad K (qv K 0) (A8 K))))))
  (A7 K (AS K (i:=7) aY.nd rfl (by trivial) (AQ K Ds Dp (AB K 2 HR hr aL (A2 K (qv K 1) (A2 K (AQ K ((Ah).or (AR K)) (AH Ag Ab) (AQ K Ds Dp (A8 K) (BM K ((Ld K rfl).or (KS K rfl)) (C9 QU) B.max L2.bt_max (A2 K (qv K 6) (A6 K)))) (BM K (I0 K rfl) (C9 Ml) B.min L2.bt_min (A2 K (qv K 6) (A6 K)))) (A6 K))) AI) (BM K (I0 K rfl) (C9 Ml) B.min L2.bt_min (A2 K (qv K 6) (A6 K)))))
  (A7 K (AS K (i:=8) aY.nd rfl (by trivial) (AB K 0 dR hr eg (A2 K (qv K 4) (A2 K (qv K 7) (A6 K))) AI))
  (A7 K (AS K (i:=9) aY.nd rfl (by trivial) (AB K 2 dQ hr eZ (A2 K (qv K 1) (A2 K (qv K 3) (A2 K (qv K 5) (A6 K)))) AI))
  (A7 K (AS K (i:=10) aY.nd rfl (by trivial) (AB K 2 dh hr fE (A2 K (qv K 1) (A2 K (qv K 4) (A2 K (qv K 5) (A6 K)))) AI))
  (A7 K (BI K (Ar K ((K0).or (FQ K hr.units)) (AH HY HZ) (BM K (CB K hr.gd hr.units) EE B.repr L2.bt_repr (A2 K (AB K 0 dI hr eD (A2 K (qv K 8) (A2 K (qv K 9) (A6 K))) AI) (A6 K))) (BM K (CB K hr.gd hr.units) EE B.repr L2.bt_repr (A2 K (AB K 0 bP hr cQ (A2 K (AB K 0 dI hr eD (A2 K (qv K 4) (A2 K (qv K 9) (A6 K))) AI) (A2 K (qv K 7) (A6 K))) AI) (A6 K))))
   (AC K (AZ K (Dc K)))
   (Au K))
  (A7 K (CA K rfl (Db K (AB K 2 di hr fF (A2 K (qv K 1) (A2 K (qv K 10) (A6 K))) AI)) (AD K (i:=11) aY.nd rfl (by trivial))
   (AC K (BI K (Ar K ((K0).or (FQ K hr.units)) (AH HY HZ) (BM K KR Mn B.repr L2.bt_repr (A2 K (AB K 0 bw hr cj (A2 K (qv K 8) (A2 K (qv K 5) (A2 K (AB K 0 bP hr cQ (A2 K (qv K 11) (A2 K (qv K 7) (A6 K))) AI) (A6 K)))) AI) (A6 K))) (BM K KR Mn B.repr L2.bt_repr (A2 K (AB K 0 bw hr cj (A2 K (qv K 4) (A2 K (qv K 5) (A2 K (qv K 11) (A6 K)))) AI) (A6 K))))
   (AC K (AZ K (Dc K)))
   (Au K))))
  (AC K (CA K rfl (B3 K (B6 K (A2 K (qv K 10) (A2 K (AB K 0 dI hr eD (A2 K (qv K 4) (A2 K (qv K 9) (A6 K))) AI) (A6 K))))) (AD K (i:=12) aY.nd rfl (by trivial))
   (AC K (BI K (QW.toT (Jv K (ES K (CH K (AB K 0 bw hr cj (A2 K (qv K 4) (A2 K (qv K 5) (A2 K (qv K 12) (A6 K)))) AI))) (Ju K (ES K (CH K (AB K 0 dj hr fG (A2 K (qv K 4) (A2 K (qv K 8) (A2 K (qv K 12) (A2 K (qv K 7) (A6 K))))) AI))))))
   (AC K (AZ K (Dc K)))
   (Au K))))))))))))))))))
  (AC K (AZ K (Dc K)))))⟩
end
open Bd
theorem BO:F_pick=Bd.F_pick:=rfl
theorem Fh:F_tape=Bd.F_tape:=rfl
theorem EA:F_wishes=Bd.F_wishes:=rfl
theorem Ek:F_works=Bd.F_works:=rfl
theorem Gy:F_run=Bd.F_run:=rfl
theorem Xp:F_ends_of=Bd.F_ends_of:=rfl
theorem Vv:F_costs_of=Bd.F_costs_of:=rfl
def T(_:Nat)(a b:MO):Prop:=∃τ:Tp,tp τ=[a,b]
theorem tap:Tap T F_pick where
 cl:=by
  rintro k a b ⟨τ,e⟩;have:=Jc τ;rw[e]at this;simpa using this
 le:=λh _=>h
 pick:=by
  rintro k a b many ⟨τ,e⟩ h0 h1;obtain⟨r,τ',d⟩:=draw τ many h0 h1;refine⟨r,.lst (τ'.cells.map λi=>.im (.int i)),.dic (Bc τ'),d.lo,d.hi,?_,τ',rfl⟩;rw[<- e,BO];exact d.eq
abbrev wI(ps:List (Int×Int)):I:=.tup (ps.map Qm)
theorem MH{neg:Bool}{ml:MA}{ls:Ls}{hd:Hd}{QE:D->Hd->Prop}(h:WA ml ls hd λds x=>∃ns:List Int,ds=intD ns/\QE (.im (.bl (if neg then !decide (ns=[])else decide (ns=[])))) x):WE (Et neg ml (BF A4)) ls hd QE:=by
 obtain⟨ds,x,e,ns,rfl,q⟩:=h;refine⟨_,x,?_,q⟩;unfold Et;rw[e];simp[CY,Cq,I.pys,Em]
theorem DM{neg:Bool}{ma:ME}{ls:Ls}{hd:Hd}{QE:D->Hd->Prop}(h:WE ma ls hd λd x=>∃ns:List Int,pyD x d=some (.list (ns.map PyData.int))/\QE (.im (.bl (if neg then !decide (ns=[])else decide (ns=[])))) x):WE (Cb neg ma (BF A4)) ls hd QE:=by
 obtain⟨d,x,e,ns,e2,q⟩:=h;refine⟨_,x,?_,q⟩;unfold Cb;rw[e];simp[e2,I.pys,Em]
theorem VY(ks:List Nat):(ks.map λk:Nat=>I.int (k:Int)).map D.im=Am ks:=by simp[Am]
theorem O5(ks:List Nat):Av (Am ks)=.im (De ks):=by rw[<- VY,Ax]
theorem Kt(L:List Nat):Am L=intD (L.map λk:Nat=>(k:Int)):=by simp[Am,intD]
theorem Xo(p:Nat->Prop)[DecidablePred p](L:List Nat):(L.filterMap λa=>if p a then some (D.im (.int (a:Int)))else none)=Am (L.filter λa=>decide (p a)):=by
 induction L with
 |nil=>rfl
 |cons x r ih=>
  rw[filterMap_cons,filter_cons];by_cases h:p x
  .simp[h,ih,Am]
  .simp[h,ih,Am]
theorem Il(w:Nat)(ks:List Nat):B7 w (Am ks)=true:=by rw[Kt];exact Cm w _
theorem Im(n:Nat)(ds:List D):clO n (.lst ds)=B7 n ds:=rfl
theorem GV{α:Type}(n:Nat)(f:α->I)(l:List α):B7 n (l.map λx=>D.im (f x))=true:=by induction l<;>simp_all
theorem O3{hd:Hd}{k:Nat}{ns:List Int}(e:hd[k]?=some (.lst (intD ns))):pyD hd (.mu k)=some (.list (ns.map PyData.int)):=by
 show(match hd[k]? with|some (.lst ds)=>(Bv ds).map λis=>PyData.list (I.pys is)|_=>none)=_;rw[e];show(Bv (ns.map λi=>D.im (.int i))).map _=_;rw[CY,map_some,Cq]
structure Wsh(n:Nat)(ps:List (Int×Int)):Prop where
 len:ps.length<=16
 al:∃seq:List Nat,seq.Perm (List.range n)/\Along seq ps
theorem Wsh.nats{n:Nat}{ps:List (Int×Int)}(h:Wsh n ps):∀p∈ps,∃a b:Nat,p=((a:Int),(b:Int))/\a<n/\b<n:=λp hp=>by
 obtain⟨seq,pm,al⟩:=h.al;obtain⟨i,j,a,b,_,e1,e2,e⟩:=al p hp;exact⟨a,b,e,by simpa using pm.mem_iff.mp (mem_of_getElem? e1),by simpa using pm.mem_iff.mp (mem_of_getElem? e2)⟩
theorem Ry{n:Nat}(hn:n<=8):∀a b,T 0 a b->WF F_wishes [.mu 1,.im (.int (n:Int))] [a,b] λd x=>∃i a' b' g,d=.im i/\(∃ps,i=wI ps/\Wsh n ps)/\T 0 a' b'/\x=a'::b'::g:=by
 rintro a b ⟨τ,e⟩;obtain⟨seq,ps,τ',g,pm,al,l,_,q⟩:=NY τ n hn;rw[EA,<- e];exact WP.eq q ⟨_,_,_,g,rfl,⟨ps,rfl,l,seq,pm,al⟩,⟨τ',rfl⟩,rfl⟩
theorem UI{n:Nat}(hn:n<=8)(al:Bool):∀a b,T 0 a b->WF F_works [.mu 1,.im (.int (n:Int)),.im (.bl al)] [a,b] λd x=>∃i a' b' g,d=.im i/\(∃ws,i=AM ws/\ws.length=n/\∀w∈ws,w.ok)/\T 0 a' b'/\x=a'::b'::g:=by
 rintro a b ⟨τ,e⟩;obtain⟨ws,τ',⟨l,ok,_⟩,q⟩:=OZ τ (n:Int) al (by omega) (by omega);obtain⟨g,q⟩:=q.eq;rw[Ek,<- e];exact WP.eq q ⟨_,_,_,g,rfl,⟨ws,rfl,by simpa using l,ok⟩,⟨τ',rfl⟩,rfl⟩
def lf(left:List Int)(k:Nat):Int:=left[k]?.getD 0
theorem M4{left:List Int}{k:Nat}(hk:k<left.length):atI (intD left) (k:Int)=some (.im (.int (lf left k))):=Fj rfl (by simp[intD,lf,hk])
def fi(W:List (Int×Int))(k:Nat):List Int:=W.filterMap λp=>if p.2=(k:Int)then some p.1 else none
def Gn(W:List (Int×Int))(left:List Int)(k:Nat):Bool:=decide (0<lf left k)&&decide (((fi W k).filter λa=>decide (0<lf left a.toNat))=[])
theorem fi_mem{W:List (Int×Int)}{k:Nat}{a:Int}:a∈fi W k↔(a,(k:Int))∈W:=by
 unfold fi;rw[mem_filterMap];constructor
 .rintro⟨p,hp,e⟩;split at e
  .next c=>cases e;rw[<- c];exact hp
  .cases e
 .intro h;exact⟨_,h,if_pos rfl⟩
theorem may_iff{W:List (Int×Int)}{left:List Int}{k:Nat}:Gn W left k=true↔0<lf left k/\∀a:Int,(a,(k:Int))∈W->lf left a.toNat<=0:=by
 unfold Gn;rw[Bool.and_eq_true,decide_eq_true_eq,decide_eq_true_eq,List.filter_eq_nil_iff];refine and_congr_right λ_=>⟨λh a ha=>?_,λh a ha=>?_⟩
 .have:=h a (fi_mem.mpr ha);simp at this;omega
 .have:=h a (fi_mem.mp ha);simp;omega
theorem Yo(p:Int->Prop)[DecidablePred p](L:List Int):(L.filterMap λa=>if p a then some (D.im (.int a))else none)=intD (L.filter λa=>decide (p a)):=by
 induction L with
 |nil=>rfl
 |cons x r ih=>
  rw[filterMap_cons,filter_cons];by_cases h:p x
  .simp[h,ih,intD]
  .simp[h,ih,intD]
theorem Yd{ws:List Wk}{W:List (Int×Int)}{left:List Int}{k:Nat}{hd:Hd}(hW:Wsh left.length W)(hk:k<left.length)(e:hd[2]?=some (.lst (intD left))):
 WF KZ [.im (AM ws),.im (wI W),.mu 2,.im (.int (k:Int))] hd λd x=>d=.im (.bl (Gn W left k))/\∃g,x=hd++g:=by
 have hl:=hW.len;unfold KZ;refine Bh rfl ?_;refine Aa (B0 (Cd (BT (Cc (A3 rfl ⟨_,rfl,?_⟩)))));rw[Rw.pairs_im];refine⟨Aq (by simp;omega),?_⟩;refine Be (λp:Int×Int=>Aw p) (λp=>if p.2=(k:Int)then some (.im (.int p.1))else none) (λ_ ls=>∃x1 x2,ls=[some x1,some x2,some (.im (.int (k:Int)))]) _ (AV _) ?_ ?_
 .rintro p hp ls hls;refine⟨[some (.im (.int p.1)),some (.im (.int p.2)),some (.im (.int (k:Int)))],by rcases hls with rfl|⟨_,x,y,rfl⟩<;>rfl,⟨_,_,rfl⟩,Al (AE (A3 rfl (A3 rfl (GC ⟨_,rfl,rfl,?_⟩))))⟩;by_cases h:p.2=(k:Int)
  .rw[if_pos (by simpa using h)];exact⟨_,if_pos h,A3 rfl ⟨rfl,rfl⟩⟩
  .rw[if_neg (by simpa using h)];exact if_neg h
 have e1:(W.filterMap λp=>if p.2=(k:Int)then some (D.im (.int p.1))else none)=intD (fi W k):=by
  unfold fi intD;rw[List.map_filterMap]
  congr 1
  funext p
  split<;>rfl
 rw[e1];refine AK ?_;change WS _ [some (.im (AM ws)),some (.im (wI W)),some (.mu 2),some (.im (.int (k:Int))),some (.mu hd.length)] (hd++[.lst (intD (fi W k))]) _;have h2:2<hd.length:=(List.getElem?_eq_some_iff.mp e).1;obtain⟨H,hH⟩:∃H,H=hd++[MO.lst (intD (fi W k))]:=⟨_,rfl⟩
 rw[<- hH];have e2:H[2]?=some (.lst (intD left)):=by rw[hH,List.getElem?_append_left h2];exact e
 have e3:H[hd.length]?=some (.lst (intD (fi W k))):=by rw[hH,List.getElem?_append_right (le_refl _),Nat.sub_self];rfl
 have fl:(fi W k).length<=16:=le_trans (List.length_filterMap_le _ _) hl;refine BB (FN (Al (AE (AE (A3 rfl (A3 rfl (Ai (ds:=intD left) (by simp[BV,e2]) (M4 hk) (AX (Lu ⟨_,rfl,?_⟩)))))))));by_cases c:0<lf left k
 .rw[if_pos (by simpa using c)];refine MH (BT (Kd (A3 rfl ⟨hd.length,intD (fi W k),rfl,e3,Aq (by simp[intD];omega),?_⟩)));refine Be (λa:Int=>D.im (.int a)) (λa=>if 0<lf left a.toNat then some (.im (.int a))else none) (λ_ ls=>∃x,ls=[some x,some (.mu 2)]) _ (by intro q hq;rw[mem_singleton]at hq;subst hq;exact e3) ?_ ?_
  .rintro a ha ls hls;obtain⟨a,b,ep,h1,_⟩:=hW.nats _ (fi_mem.mp ha);obtain⟨rfl,_⟩:=Prod.mk.inj ep;refine⟨[some (.im (.int (a:Int))),some (.mu 2)],by rcases hls with rfl|⟨_,x,rfl⟩<;>rfl,⟨_,rfl⟩,Al (AE (AE (A3 rfl (A3 rfl (Ai (ds:=intD left) (by simp[BV,e2]) (M4 h1) (AX (Lu ⟨_,rfl,rfl,?_⟩)))))))⟩;by_cases h:0<lf left a
   .rw[if_pos (by simpa using h)];exact⟨_,if_pos (by simpa using h),A3 rfl ⟨rfl,rfl⟩⟩
   .rw[if_neg (by simpa using h)];exact if_neg (by simpa using h)
  .rw[Yo λa=>0<lf left a.toNat];refine⟨_,rfl,?_,_,hH⟩;simp[Gn,c]
 .rw[if_neg (by simpa using c)];exact⟨by simp[Gn,c],_,hH⟩
abbrev pcD(P:List Pl.Pc):List D:=P.map λp=>.im (AL p)
theorem Xa(P:List Pl.Pc):Av (pcD P)=.im (.tup (P.map AL)):=by
 have:pcD P=(P.map AL).map D.im:=by simp[pcD]
 rw[this,Ax]
theorem EB{ws:List Wk}{k:Nat}(hk:k<ws.length):atI ((ws.map AT).map D.im) (k:Int)=some (.im (AT ws[k])):=Fj rfl (by simp[hk])
def ln(ws:List Wk)(k:Nat):Int:=((ws[k]?).map Wk.len).getD 0
theorem PH{ws:List Wk}{k:Nat}(hk:k<ws.length):(ws[k]).len=ln ws k:=by simp[ln,hk]
structure Ew(ws:List Wk):Prop where
 n1:1<=ws.length
 n8:ws.length<=8
 ok:∀w∈ws,w.ok
def cm(ws:List Wk)(k:Nat):Int:=((ws[k]?).map Wk.com).getD 0
theorem HE{ws:List Wk}{k:Nat}(hk:k<ws.length):(ws[k]).com=cm ws k:=by simp[cm,hk]
section
variable{ws:List Wk}{W:List (Int×Int)}
theorem Ew.l1(E:Ew ws){k:Nat}(hk:k<ws.length):1<=ln ws k:=by
 rw[<- PH hk];exact(E.ok _ (List.getElem_mem hk)).l1
theorem Ew.l2(E:Ew ws){k:Nat}(hk:k<ws.length):ln ws k<=20:=by
 rw[<- PH hk];exact(E.ok _ (List.getElem_mem hk)).l2
theorem GR{left:List Int}{k j:Nat}{v:Int}(hk:k<left.length):lf (left.set k v) j=if j=k then v else lf left j:=by
 unfold lf;rw[List.getElem?_set];by_cases h:k=j
 .subst h;simp[hk]
 .have:¬ j=k:=λz=>h z.symm;simp[h,this]
theorem Ij(q:Pl.Pc)(j:Nat):∀P:List Pl.Pc,Pl.dn (P++[q]) j=Pl.dn P j+(if q.1=j then q.2.2-q.2.1 else 0)
 |[]=>by simp[Pl.dn]
 |p::r=>by rw[cons_append,Pl.dn,Pl.dn,Ij q j r];omega
def cnt(n:Nat)(left:List Int):Int:=((List.range n).map λk=>if 0<lf left k then(1:Int)else 0).sum
theorem EN{f g:Nat->Int}:∀{S:List Nat},(∀j∈S,f j<=g j)->(S.map f).sum<=(S.map g).sum
 |[],_=>by simp
 |x::r,h=>by
  have:=EN (S:=r) λj hj=>h j (mem_cons_of_mem _ hj);have:=h x mem_cons_self;simp only[map_cons,sum_cons];omega
theorem Kh{n k:Nat}(hk:k<n):((List.range n).map λj=>if k=j then(1:Int)else 0).sum=1:=by
 rw[Pl.sum_ite k 1 nodup_range,if_pos (by simpa using hk)]
theorem OS{n:Nat}{left:List Int}{k:Nat}(hk:k<n)(h:0<lf left k):1<=cnt n left:=by
 rw[<- Kh hk];refine EN λj _=>?_;by_cases e:k=j
 .subst e;simp[h]
 .rw[if_neg e];split<;>omega
theorem Y5{n:Nat}(left:List Int):cnt n left<=n:=by
 have:=EN (f:=λk=>if 0<lf left k then(1:Int)else 0) (g:=λ_=>1) (S:=List.range n) λj _=>by split<;>omega
 have e:((List.range n).map λ_=>(1:Int)).sum=n:=by
  rw[List.map_const',length_range]
  induction n with
  |zero=>rfl
  |succ m ih=>simp[List.replicate_succ];omega
 rw[e]at this;exact this
theorem Te{n:Nat}{left:List Int}{k:Nat}{v:Int}(hk:k<left.length)(h:v<=lf left k):cnt n (left.set k v)<=cnt n left:=by
 refine EN λj _=>?_;rw[GR hk];by_cases e:j=k
 .subst e;rw[if_pos rfl];split<;>split<;>omega
 .rw[if_neg e];exact Int.le_refl _
theorem W2{n:Nat}{left:List Int}{k:Nat}(hn:k<n)(hk:k<left.length)(h:0<lf left k):cnt n (left.set k 0)+1<=cnt n left:=by
 rw[<- Kh hn];unfold cnt;rw[<- Pl.sum_add];refine EN λj _=>?_;rw[GR hk];by_cases e:j=k
 .subst e;simp[h]
 .have:¬ k=j:=λz=>e z.symm;rw[if_neg e,if_neg this];omega
structure Pst(ws:List Wk)(W:List (Int×Int))(left:List Int)(P:List Pl.Pc)(now:Int):Prop where
 ll:left.length=ws.length
 lv:∀k,k<ws.length->lf left k=ln ws k-Pl.dn P k
 l0:∀k,k<ws.length->0<=lf left k
 ok:Pl.Ok ws.length 0 P
 n0:0<=now
 le:∀p∈P,p.2.2<=now
 wi:∀a b:Nat,((a:Int),(b:Int))∈W->∀p∈P,p.1=b->lf left a=0/\∀q∈P,q.1=a->q.2.2<=p.2.1
 cc:∀p∈P,cm ws p.1<=p.2.1
theorem Pst.later{left:List Int}{P:List Pl.Pc}{now now':Int}(S:Pst ws W left P now)(h:now<=now'):Pst ws W left P now':=
 ⟨S.ll,S.lv,S.l0,S.ok,Int.le_trans S.n0 h,λp hp=>Int.le_trans (S.le p hp) h,S.wi,S.cc⟩
theorem Pst.step{left:List Int}{P:List Pl.Pc}{now:Int}(S:Pst ws W left P now)(hW:Wsh ws.length W){k:Nat}{days:Int}(hk:k<ws.length)(h1:1<=days)(h2:days<=lf left k)(hm:∀a:Int,(a,(k:Int))∈W->lf left a.toNat<=0)(hc:cm ws k<=now):
 Pst ws W (left.set k (lf left k-days)) (P++[(k,now,now+days)]) (now+days):=by
 have hl:k<left.length:=by rw[S.ll];exact hk
 refine⟨by rw[List.length_set];exact S.ll,λj hj=>?_,λj hj=>?_,⟨?_,λp hp=>?_⟩,by have:=S.n0;omega,λp hp=>?_,λa b hab p hp e=>?_,λp hp=>?_⟩
 .rw[GR hl,Ij];have:=S.lv j hj;by_cases q:j=k
  .subst q;simp only[if_true];omega
  .have q2:¬ k=j:=λz=>q z.symm;simp only[q,q2,if_false];omega
 .rw[GR hl];split
  .omega
  .exact S.l0 j hj
 .rw[List.pairwise_append];refine⟨S.ok.ch,by simp,λp hp q hq=>?_⟩;rw[mem_singleton]at hq;subst hq;exact S.le p hp
 .rcases mem_append.mp hp with h|h
  .exact S.ok.ea p h
  .rw[mem_singleton]at h;subst h;exact⟨hk,S.n0,by show now<now+days;omega⟩
 .rcases mem_append.mp hp with h|h
  .have:=S.le p h;omega
  .rw[mem_singleton]at h;subst h;exact Int.le_refl _
 .obtain⟨a',b',ep,ha,hb⟩:=hW.nats _ hab;have ak:lf left a=0->a≠k:=λz q=>by rw[q]at z;omega
  rcases mem_append.mp hp with h|h
  .obtain⟨z1,z2⟩:=S.wi a b hab p h e;have hne:=ak z1;refine⟨by rw[GR hl,if_neg hne];exact z1,λq hq eq=>?_⟩;rcases mem_append.mp hq with g|g
   .exact z2 q g eq
   .rw[mem_singleton]at g;subst g;exact absurd eq.symm hne
  .rw[mem_singleton]at h;subst h;have e:k=b:=e;subst e;have z0:=hm (a:Int) hab;rw[toNat_natCast]at z0;have haw:a<ws.length:=by
    have:=(Prod.mk.inj ep).1;omega
   have z1:lf left a=0:=Int.le_antisymm z0 (S.l0 a haw);have hne:=ak z1;refine⟨by rw[GR hl,if_neg hne];exact z1,λq hq eq=>?_⟩;rcases mem_append.mp hq with g|g
   .exact S.le q g
   .rw[mem_singleton]at g;subst g;exact absurd eq.symm hne
 .rcases mem_append.mp hp with h|h
  .exact S.cc p h
  .rw[mem_singleton]at h;subst h;exact hc
theorem JL:∀{seq L:List Nat},(∀x∈L,x∈seq)->L≠[]->∃(x j:Nat),x∈L/\seq[j]?=some x/\∀(y i:Nat),y∈L->seq[i]?=some y->j<=i
 |[],L,hs,hne=>by
  obtain⟨x,hx⟩:=List.exists_mem_of_ne_nil L hne;simpa using hs x hx
 |s::r,L,hs,hne=>by
  by_cases h:s∈L
  .exact⟨s,0,h,rfl,λy i _ _=>by omega⟩
  .have hs':∀x∈L,x∈r:=λx hx=>by
    rcases mem_cons.mp (hs x hx)with rfl|q
    .exact absurd hx h
    .exact q
   obtain⟨x,j,hx,e,m⟩:=JL hs' hne;refine⟨x,j+1,hx,by simpa using e,λy i hy he=>?_⟩;cases i with
   |zero=>simp at he;subst he;exact absurd hy h
   |succ i=>have:=m y i hy (by simpa using he);omega
theorem SL{n:Nat}(hW:Wsh n W){left:List Int}{k:Nat}(hk:k<n)(h:0<lf left k):∃x,x<n/\Gn W left x=true:=by
 obtain⟨seq,pm,al⟩:=hW.al;have nd:seq.Nodup:=pm.nodup_iff.mpr nodup_range;obtain⟨x,j,hx,ex,mx⟩:=JL (seq:=seq) (L:=(List.range n).filter λk=>decide (0<lf left k)) (λx hx=>pm.mem_iff.mpr (mem_filter.mp hx).1) (List.ne_nil_of_mem (mem_filter.mpr ⟨by simpa using hk,by simpa using h⟩));obtain⟨h1,h2⟩:=mem_filter.mp hx;refine⟨x,by simpa using h1,may_iff.mpr ⟨by simpa using h2,λa ha=>?_⟩⟩;obtain⟨i',j',a',b',hij,ea,eb,e⟩:=al _ ha;obtain⟨e1,e2⟩:=Prod.mk.inj e;have e2:x=b':=by omega
 subst e2 e1;rw[toNat_natCast];refine Classical.byContradiction λq=>?_;have g:=mx a' i' (mem_filter.mpr ⟨by simpa using pm.mem_iff.mp (mem_of_getElem? ea),by simp;omega⟩) ea;have l1:=(List.getElem?_eq_some_iff.mp ex).1;have:j=j':=(List.getElem?_inj l1 nd).mp (by rw[ex,eb]);omega
theorem WQ{n:Nat}(hW:Wsh n W){left:List Int}(h:((List.range n).filter (Gn W left))=[]):cnt n left<=0:=by
 have e:(List.range n).map (λk=>if 0<lf left k then(1:Int)else 0)=(List.range n).map λ_=>0:=by
  refine map_congr_left λk hk=>?_;refine if_neg λq=>?_;obtain⟨x,hx,hm⟩:=SL hW (by simpa using hk) q;exact List.filter_eq_nil_iff.mp h x (by simpa using hx) hm
 unfold cnt;rw[e];have:∀S:List Nat,(S.map λ_=>(0:Int)).sum=0:=λS=>by induction S<;>simp_all
 rw[this];exact Int.le_refl _
end
theorem OF{ns:List Int}(h:ns≠[]):JM (intD ns)=some (.im (.int (FE ns))):=by unfold JM;rw[show BS (intD ns)=some ns from FB ns];simp[h]
theorem Vr(ks:List Nat)(g:Nat->Int):(ks.filterMap λk=>some (D.im (.int (g k))))=intD (ks.map g):=by simp[intD]
abbrev Hh(n:Nat)(W:List (Int×Int))(left:List Int)(j:Nat):List Nat:=(List.range j).filter (Gn W left)
inductive I_so(ws:List Wk)(W:List (Int×Int))(left:List Int)(H:Hd)(now gaps:Int)(r:List D)(ls:Ls)(hd:Hd):Prop
 |mk (j:Nat) (z7 z9 z10 z11:Option D) (h0:r=An (j:Int) (ws.length-j)) (h1:j<=ws.length) (h2:ls=[some (.mu 1),some (.im (AM ws)),some (.im (wI W)),some (.mu 2),some (.mu 3),some (.im (.int now)),some (.im (.int gaps)),z7,some (.mu 4),z9,z10,z11]) (h3:hd=H++[.lst (Am (Hh ws.length W left j))]):I_so ws W left H now gaps r ls hd
def jl(ws:List Wk)(now:Int):Int:=((List.range ws.length).map λk=>if now<cm ws k then(1:Int)else 0).sum
def mu(ws:List Wk)(left:List Int)(P:List Pl.Pc)(now:Int):Int:=(if P.length<30 then 30-(P.length:Int)else 0)+cnt ws.length left+jl ws now
inductive I_pl(ws:List Wk)(W:List (Int×Int))(r:List D)(ls:Ls)(hd:Hd):Prop
 |mk (left:List Int) (P:List Pl.Pc) (now gaps:Int) (a b:MO) (z7 z8 z9 z10 z11:Option D)
  (h1:ls=[some (.mu 1),some (.im (AM ws)),some (.im (wI W)),some (.mu 2),some (.mu 3),some (.im (.int now)),some (.im (.int gaps)),z7,z8,z9,z10,z11]) (h2:hd=[a,b,.lst (intD left),.lst (pcD P)]) (h3:T 0 a b) (h4:Pst ws W left P now)
  (h5:cnt ws.length left<=0∨mu ws left P now<=r.length) (h6:P.length+r.length<=60) (h7:now+30*(r.length:Int)<=1860):I_pl ws W r ls hd
section
variable{ws:List Wk}{W:List (Int×Int)}
theorem SJ(E:Ew ws):Pst ws W (ws.map Wk.len) [] 0:=by
 refine⟨by simp,λk hk=>?_,λk hk=>?_,⟨.nil,(by intro p hp;cases hp)⟩,Int.le_refl _,(by intro p hp;cases hp),(by intro a b _ p hp;cases hp),(by intro p hp;cases hp)⟩
 .simp[lf,ln,Pl.dn]
 .have:=E.l1 hk;have e:lf (ws.map Wk.len) k=ln ws k:=by simp[lf,ln]
  omega
theorem Gi{n j:Nat}{d:D}{r:List D}(h:d::r=An (j:Int) (n-j)):j<n/\d=.im (.int (j:Int))/\r=An ((j+1:Nat):Int) (n-(j+1)):=by
 cases q:n-j with
 |zero=>rw[q]at h;cases h
 |succ m=>
  rw[q,An]at h;obtain⟨h1,h2⟩:=List.cons.inj h;have em:m=n-(j+1):=by omega
  exact⟨by omega,h1,by rw[h2,em];rfl⟩
theorem LM{n j:Nat}(h:([]:List D)=An (j:Int) (n-j))(hj:j<=n):j=n:=by
 cases q:n-j with
 |zero=>omega
 |succ m=>rw[q,An]at h;cases h
theorem Mw(left:List Int)(k:Nat)(v:Int):(intD left).set k (.im (.int v))=intD (left.set k v):=by simp[intD,List.map_set]
theorem Yl(now:Int):jl ws now<=ws.length:=by
 have:=EN (f:=λk=>if now<cm ws k then(1:Int)else 0) (g:=λ_=>1) (S:=List.range ws.length) λj _=>by split<;>omega
 have e:∀n:Nat,((List.range n).map λ_=>(1:Int)).sum=n:=λn=>by
  rw[List.map_const',length_range]
  induction n with
  |zero=>rfl
  |succ m ih=>simp[List.replicate_succ];omega
 rw[e]at this;exact this
theorem Ym(now:Int):0<=jl ws now:=by
 have:=EN (f:=λ_=>0) (g:=λk=>if now<cm ws k then(1:Int)else 0) (S:=List.range ws.length) λj _=>by split<;>omega
 have e:∀S:List Nat,(S.map λ_=>(0:Int)).sum=0:=λS=>by induction S<;>simp_all
 rw[e]at this;exact this
theorem Vm{now now':Int}(h:now<=now'):jl ws now'<=jl ws now:=by
 refine EN λj _=>?_;split<;>split<;>omega
theorem Xi{now:Int}{k:Nat}(hk:k<ws.length)(h:now<cm ws k):jl ws (cm ws k)+1<=jl ws now:=by
 rw[<- Kh hk];unfold jl;rw[<- Pl.sum_add];refine EN λj _=>?_;by_cases e:k=j
 .subst e;simp[h]
 .rw[if_neg e];split<;>split<;>omega
theorem VZ{left:List Int}{P:List Pl.Pc}{q:Pl.Pc}{now now' days:Int}{k:Nat}(hn:k<ws.length)(hl:k<left.length)(hnow:now<=now')(d1:1<=days)(d2:days<=lf left k)(d3:P.length<30∨days=lf left k):mu ws (left.set k (lf left k-days)) (P++[q]) now'+1<=mu ws left P now:=by
 unfold mu;rw[length_append,List.length_singleton];have hj:=Vm (ws:=ws) hnow;rcases d3 with h|h
 .have:=Te (n:=ws.length) (v:=lf left k-days) hl (by omega);rw[if_pos h];split<;>omega
 .rw[h,Int.sub_self];have:=W2 hn hl (by omega);split<;>split<;>omega
theorem Ys{n:Nat}{left:List Int}(h:cnt n left<=0){k:Nat}(hk:k<n):lf left k<=0:=by
 refine Classical.byContradiction λq=>?_;have:=OS hk (show 0<lf left k by omega);omega
theorem Vu{left:List Int}{P:List Pl.Pc}{now:Int}(E:Ew ws)(S:Pst ws W left P now)(h:cnt ws.length left<=0):Pl.Full ws.length 0 (ln ws) P/\∀a b:Nat,a<ws.length->((a:Int),(b:Int))∈W->∀p∈P,p.1=b->Pl.E P a<=p.2.1:=by
 have F:Pl.Full ws.length 0 (ln ws) P:=⟨S.ok,λk hk=>E.l1 hk,λk hk=>by
  have h1:=S.lv k hk;have h2:=S.l0 k hk;have h3:=Ys h hk;omega⟩
 refine⟨F,λa b ha hab p hp e=>?_⟩;obtain⟨q,q1,q2,q3⟩:=Pl.last_in (v:=0) (F.has ha);have:=(S.wi a b hab p hp e).2 q q1 q2;simp only[Pl.E];omega
set_option maxHeartbeats 2000000 in
theorem XA(E:Ew ws)(hW:Wsh ws.length W):∀a b,T 0 a b->WF ID [.mu 1,.im (AM ws),.im (wI W)] [a,b] λd x=>∃i a' b' g,d=.im i/\(∃P:List Pl.Pc,i=.tup (P.map AL)/\P.length<=60/\(∀p∈P,p.2.2<=1860)/\(∀p∈P,cm ws p.1<=p.2.1)/\Pl.Full ws.length 0 (ln ws) P/\∀a b:Nat,((a:Int),(b:Int))∈W->∀p∈P,p.1=b->Pl.E P a<=p.2.1)/\T 0 a' b'/\x=a'::b'::g:=by
 intro a b hT;have n8:=E.n8;unfold ID;refine Bh rfl ?_;refine Aa (B0 (Cd (BT (Cc (A3 rfl ⟨_,rfl,Aq (by simp;omega),?_⟩)))));rw[show(ws.map AT).map D.im=ws.map λw=>D.im (AT w) by simp];refine Be (λw=>D.im (AT w)) (λw:Wk=>some (.im (.int w.len))) (λ_ ls=>∃x,ls=[some x]) _ (AV _) ?_ ?_
 .rintro w hw ls hls;refine⟨[some (.im (AT w))],by rcases hls with rfl|⟨_,x,rfl⟩<;>rfl,⟨_,rfl⟩,Bw ⟨rfl,?_⟩⟩;rw[if_pos rfl];exact⟨_,rfl,AE (A3 rfl (AX (Ai rfl (CN _ _) ⟨rfl,rfl⟩)))⟩
 have e0:(ws.filterMap λw=>some (D.im (.int w.len)))=intD (ws.map Wk.len):=by simp[intD]
 rw[e0];refine AK (Aa (B0 (Cd (GD (AG ⟨Aq (by simp),AK ?_⟩)))));refine Aa (JV (Bi (A5 (AX (A5 (AX (AG ⟨Dv,_,rfl,AK ?_⟩)))))));change WS _ [some (.mu 1),some (.im (AM ws)),some (.im (wI W)),some (.mu 2),some (.mu 3),some (.im (.int 0)),some (.im (.int 4)),none,none,none,none,none] [a,b,.lst (intD (ws.map Wk.len)),.lst (pcD [])] _;refine Aa (F1 (Kc (A5 (AX (AG ⟨_,rfl,DD (by decide) (by decide),?_⟩)))));refine Dl (I_pl ws W) ⟨ws.map Wk.len,[],0,4,a,b,none,none,none,none,none,rfl,rfl,hT,SJ E,?_,by simp,by simp⟩ ?_ ?_
 .right
  have:=Y5 (n:=ws.length) (ws.map Wk.len);have:=Yl (ws:=ws) 0;have lr:((An 0 (Int.toNat 60)).length:Int)=60:=by simp
  rw[lr];unfold mu;split<;>simp at *<;>omega
 .rintro t r ls hd ⟨left,P,now,gaps,a,b,z7,z8,z9,z10,z11,rfl,rfl,hT,S,hmu,hlen,hnow⟩;refine⟨_,rfl,?_⟩;dsimp only[set_cons_zero,set_cons_succ];simp only[length_cons]at hmu hlen hnow;refine GZ ?_;refine Aa (B0 (Cd (GD (AG ⟨Aq (by simp),AK ?_⟩))));have ca:=tap.cl hT;have ll:=S.ll;have hWl:Wsh left.length W:=by rw[ll];exact hW
  refine Aa (F1 (Kc (A5 (Bj (A5 (A3 rfl (AG (DV rfl rfl ?_))))))));have eln:(((ws.map AT).map D.im).length:Int)=(ws.length:Int):=by simp
  rw[eln];refine AG ⟨_,rfl,DD (by omega) (by omega),?_⟩;rw[toNat_natCast];change WL _ _ _ _ [some (.mu 1),some (.im (AM ws)),some (.im (wI W)),some (.mu 2),some (.mu 3),some (.im (.int now)),some (.im (.int gaps)),some t,some (.mu 4),z9,z10,z11] [a,b,.lst (intD left),.lst (pcD P),.lst []] _;refine Dl (I_so ws W left [a,b,.lst (intD left),.lst (pcD P)] now gaps) ⟨0,some t,z9,z10,z11,rfl,by omega,rfl,rfl⟩ ?_ ?_
  .rintro d r' ls hd ⟨j,z7,z9,z10,z11,er,hj,rfl,rfl⟩;obtain⟨hjn,rfl,rfl⟩:=Gi er;refine⟨_,rfl,?_⟩;dsimp only[set_cons_zero,set_cons_succ,cons_append,nil_append];refine GZ (BD (Dj (J0 (A5 (A3 rfl (A5 (A3 rfl (A5 (A3 rfl (A5 (A3 rfl (AG ((Yd (ws:=ws) hWl (by omega:j<left.length) rfl).mono ?_)))))))))))));rintro d x ⟨rfl,g,rfl⟩;have fl:(Hh ws.length W left j).length<=j:=le_trans (List.length_filter_le _ _) (by simp);have c5a:=Cv (w:=5) (by omega) ca.1;have c5b:=Cv (w:=5) (by omega) ca.2;refine⟨_,rfl,λhm=>?_,λhm=>BC ?_⟩
   .refine Ka (Oa (A3 rfl ⟨⟨_,rfl⟩,A5 (A3 rfl (AG (JX rfl (Ca (by simp;omega)) ?_)))⟩));refine⟨?_,_,rfl,AV _,j+1,_,_,_,_,rfl,by omega,rfl,?_⟩
    .simp[c5a,c5b,Im,GV,Cm,Il,intD]
    .simp[Hh,List.range_succ,hm]
   .refine⟨?_,_,rfl,AV _,j+1,_,_,_,_,rfl,by omega,rfl,?_⟩
    .simp[c5a,c5b,Im,GV,Cm,Il,intD]
    .simp[Hh,List.range_succ,hm]
  .rintro ls hd ⟨j,z7,z9,z10,z11,er,hj,rfl,rfl⟩;have:=LM er hj;subst this;clear er hj;refine AK ?_;have hL:∀k∈Hh ws.length W left ws.length,k<ws.length/\Gn W left k=true:=λk hk=>by
    obtain⟨h1,h2⟩:=mem_filter.mp hk;exact⟨by simpa using h1,h2⟩
   have hL0:Hh ws.length W left ws.length=[]->cnt ws.length left<=0:=WQ hW;have fl:(Hh ws.length W left ws.length).length<=ws.length:=le_trans (List.length_filter_le _ _) (by simp);generalize Hh ws.length W left ws.length=L at hL hL0 fl;dsimp only[cons_append,nil_append];have c4a:=Cv (w:=4) (by omega) ca.1;have c4b:=Cv (w:=4) (by omega) ca.2;have pyL:∀{hd:Hd} {k:Nat} {M:List Nat},hd[k]?=some (.lst (Am M))->pyD hd (.mu k)=some (.list ((M.map λk:Nat=>(k:Int)).map PyData.int)):=λ{hd k M} e=>O3 (by rw[<- Kt];exact e)
   refine Aa (B0 (Cd (BT (Kd (A3 rfl ⟨4,Am L,rfl,rfl,Aq (by simp;omega),?_⟩)))));refine Be (λk:Nat=>D.im (.int (k:Int))) (λk=>if cm ws k<=now then some (.im (.int (k:Int)))else none) (λ_ ls=>∃x,ls=[some x,some (.im (AM ws)),some (.im (.int now))]) _ (by intro q hq;rw[mem_singleton]at hq;subst hq;rfl) ?_ ?_
   .rintro k hk ls hls;have hkn:=(hL k hk).1;refine⟨[some (.im (.int (k:Int))),some (.im (AM ws)),some (.im (.int now))],by rcases hls with rfl|⟨_,x,rfl⟩<;>rfl,⟨_,rfl⟩,Al (AE (AE (AE (A3 rfl (A3 rfl (Ai (by rw[DO]) (EB hkn) (AX (Ai rfl (Ec _ _ _) ?_))))))))⟩;rw[HE hkn];refine A3 rfl (JW ⟨_,rfl,rfl,?_⟩);by_cases h:cm ws k<=now
    .rw[if_pos (by simpa using h)];exact⟨_,if_pos h,A3 rfl ⟨rfl,rfl⟩⟩
    .rw[if_neg (by simpa using h)];exact if_neg h
   rw[Xo λk=>cm ws k<=now];refine AK ?_;obtain⟨M,hM⟩:∃M,M=L.filter λk=>decide (cm ws k<=now):=⟨_,rfl⟩
   rw[<- hM];have hML:∀k∈M,k∈L:=λk hk=>by rw[hM]at hk;exact(mem_filter.mp hk).1
   have flM:M.length<=L.length:=by rw[hM];exact List.length_filter_le _ _
   by_cases hne:L=[]
   .have hM0:M=[]:=by rw[hM,hne];rfl
    rw[hM0];refine BD (HM (Al (DM (A3 rfl ⟨_,pyL (M:=[]) rfl,_,rfl,?_⟩))));rw[if_pos (by simp)];refine Al (DM (A3 rfl ⟨_,pyL (M:=L) rfl,_,rfl,λh=>?_,λ_=>?_⟩))
    .rw[hne]at h;simp at h
    refine BD (Al (DM (A3 rfl ⟨_,pyL (M:=[]) rfl,_,rfl,λh=>?_,λ_=>BC ?_⟩)))
    .simp at h
    refine⟨?_,_,rfl,AV _,left,P,now,gaps,a,b,_,_,_,_,_,rfl,rfl,hT,S,.inl (hL0 hne),by omega,by omega⟩;simp[c4a,c4b,Im,GV,Cm,intD]
   have L0:=List.length_pos_iff.mpr hne;have hmu:mu ws left P now<=((r.length+1:Nat):Int):=by
    rcases hmu with h|h
    .obtain⟨k,hk⟩:=List.exists_mem_of_ne_nil L hne;have:=OS (hL k hk).1 (may_iff.mp (hL k hk).2).1;omega
    .exact h
   by_cases hMn:M≠[]
   .have M0:=List.length_pos_iff.mpr hMn;refine BD (HM (Al (DM (A3 rfl ⟨_,pyL (M:=M) rfl,_,rfl,?_⟩))));rw[if_neg (by simpa using hMn)];refine⟨(λh=>by cases h),λ_=>?_⟩;refine BD (Al (DM (A3 rfl ⟨_,pyL (M:=M) rfl,_,rfl,λ_=>?_,λh=>?_⟩)))
    rotate_left
    .exact absurd (by simpa using h) hMn
    refine Aa (B0 (AE (A3 rfl (tap.draw (n:=0) (many:=(M.length:Int)) (rest:=[.lst (intD left),.lst (pcD P),.lst (Am L),.lst (Am M)]) hT (by simp[C1]) (by omega) (by omega) λs a b hT ps qs=>?_))));have hs:s.toNat<M.length:=by omega
    obtain⟨hk,hm⟩:=hL M[s.toNat] (hML _ (List.getElem_mem hs));refine Ai (ds:=Am M) rfl (Fj (k:=s.toNat) (x:=.im (.int (M[s.toNat]:Int))) (by omega) (by simp[Am,hs])) (AK ?_);have hkc:cm ws M[s.toNat]<=now:=by
     have h1:M[s.toNat]∈L.filter λk=>decide (cm ws k<=now):=by rw[<- hM];exact List.getElem_mem hs
     simpa using (mem_filter.mp h1).2
    generalize M[s.toNat]=k at hk hm hkc;obtain⟨m1,m2⟩:=may_iff.mp hm;have hkl:k<left.length:=by omega
    have u20:lf left k<=20:=by
     have h1:=S.lv k hk;have h2:=E.l2 hk;have h3:0<=Pl.dn P k:=by
      have:∀(Q:List Pl.Pc),(∀p∈Q,p.2.1<p.2.2)->0<=Pl.dn Q k:=by
       intro Q
       induction Q with
       |nil=>intro _;exact Int.le_refl _
       |cons p Q ih=>
        intro h;have h1:=ih λq hq=>h q (mem_cons_of_mem _ hq);have h2:=h p mem_cons_self;rw[Pl.dn];split<;>omega
      exact this P λp hp=>(S.ok.ea p hp).2.2
     omega
    refine Aa (B0 (AE (A3 rfl (A3 rfl (Ai (ds:=intD left) rfl (M4 hkl) (AK ?_))))));change WS _ [some (.mu 1),some (.im (AM ws)),some (.im (wI W)),some (.mu 2),some (.mu 3),some (.im (.int now)),some (.im (.int gaps)),z7,some (.mu 4),some (.im (.int (k:Int))),some (.mu 5),some (.im (.int (lf left k)))] [a,b,.lst (intD left),.lst (pcD P),.lst (Am L),.lst (Am M)] _;refine Aa (WP.mono (Q:=λf x=>∃days a b,f=Fl.nx [some (.mu 1),some (.im (AM ws)),some (.im (wI W)),some (.mu 2),some (.mu 3),some (.im (.int now)),some (.im (.int gaps)),z7,some (.mu 4),some (.im (.int (k:Int))),some (.mu 5),some (.im (.int days))]/\x=[a,b,.lst (intD left),.lst (pcD P),.lst (Am L),.lst (Am M)]/\T 0 a b/\1<=days/\days<=lf left k/\(P.length<30∨days=lf left k)) ?_ ?_)
    .refine BD (Al (AE (Bj (A5 (A3 rfl (AG (DV rfl rfl (AX (Lr ⟨_,rfl,λh=>?_,λh=>BC ?_⟩)))))))))
     .refine B0 (AE (AX (tap.draw (n:=0) (many:=lf left k) (rest:=[.lst (intD left),.lst (pcD P),.lst (Am L),.lst (Am M)]) hT rfl (by omega) (by omega) λs a b hT ps qs=>Bb ?_)));refine⟨1+s,a,b,rfl,rfl,hT,by omega,by omega,.inl ?_⟩;have:=of_decide_eq_true h;simp at this;omega
     .exact⟨lf left k,a,b,rfl,rfl,hT,by omega,Int.le_refl _,.inr rfl⟩
    rintro f x ⟨days,a,b,rfl,rfl,hT,d1,d2,d3⟩;refine AK ?_;refine Aa (Ka (Oa (A3 rfl ⟨⟨_,rfl⟩,A5 (Bi (A5 (A3 rfl (A5 (A3 rfl (A5 (AE (A3 rfl (A3 rfl (Bb (AG ⟨DT,AG (JX rfl (Ca (by simp;omega)) (AK ?_))⟩)))))))))))⟩)));refine Aa (Nl (AE (AE (A3 rfl (A3 rfl (Ai (ds:=intD left) rfl (M4 hkl) (A3 rfl (F2 (A3 rfl (A3 rfl ⟨2,(k:Int),k,intD left,rfl,rfl,rfl,Kz (n:=(intD left).length) (by omega) (by simp[intD];omega),AK ?_⟩))))))))));rw[Mw];refine Aa (B0 (AE (A3 rfl (A3 rfl (Bb (AK ?_))))));have ep:pcD P++[Av [D.im (.int (k:Int)),.im (.int now),.im (.int (now+days))]]=pcD (P++[(k,now,now+days)]):=by
     simp[pcD,AL,Av,Bv]
    have S':=S.step hW hk d1 d2 m2 hkc;have fin:∀now',now+days<=now'->Pst ws W (left.set k (lf left k-days)) (P++[(k,now,now+days)]) now'/\mu ws (left.set k (lf left k-days)) (P++[(k,now,now+days)]) now'<=r.length:=λnow' h=>by
     have:=VZ (ws:=ws) (q:=(k,now,now+days)) (now:=now) (now':=now') hk hkl (by omega) d1 d2 d3;exact⟨S'.later h,by omega⟩
    have pl:(P++[(k,now,now+days)]).length+r.length<=60:=by simp;omega
    have done_:∀(a b:MO),T 0 a b->∀now',now+days<=now'->now'<=now+days+5->∀gaps',([a,b,MO.lst (intD (left.set k (lf left k-days))),.lst (pcD P++[Av [D.im (.int (k:Int)),.im (.int now),.im (.int (now+days))]])].all (clO 4)=true)/\I_pl ws W r [some (.mu 1),some (.im (AM ws)),some (.im (wI W)),some (.mu 2),some (.mu 3),some (.im (.int now')),some (.im (.int gaps')),Ga 4 [z7] |>.headD none,none,some (.im (.int (k:Int))),none,some (.im (.int days))] [a,b,MO.lst (intD (left.set k (lf left k-days))),.lst (pcD P++[Av [D.im (.int (k:Int)),.im (.int now),.im (.int (now+days))]])]:=by
     intro a b hT now' h h' gaps';have ca:=tap.cl hT;obtain⟨f1,f2⟩:=fin now' h;rw[ep];refine⟨?_,_,_,now',gaps',a,b,_,_,_,_,_,rfl,rfl,hT,f1,.inr f2,pl,by omega⟩;have c3:B7 4 (intD (left.set k (lf left k-days)))=true:=Cm 4 _;have c4:B7 4 (pcD (P++[(k,now,now+days)]))=true:=GV 4 AL _;show(clO 4 a&&(clO 4 b&&(B7 4 (intD (left.set k (lf left k-days)))&&(B7 4 (pcD (P++[(k,now,now+days)]))&&true))))=true;rw[Cv (w:=4) (by omega) ca.1,Cv (w:=4) (by omega) ca.2,c3,c4];rfl
    refine BD (HM (Al (AE (A3 rfl (AX (Lu ⟨_,rfl,?_⟩))))));by_cases hg:0<gaps
    .rw[if_pos (by simpa using hg)];refine Al (AE (tap.draw (n:=0) (many:=6) (rest:=[.lst (intD (left.set k (lf left k-days))),.lst (pcD P++[Av [D.im (.int (k:Int)),.im (.int now),.im (.int (now+days))]]),.lst (Am L),.lst (Am M)]) hT rfl (by decide) (by decide) λs a b hT ps qs=>AX (GC ⟨_,rfl,λh=>?_,λh=>BC ?_⟩)))
     .refine Aa (B0 (AE (A3 rfl (AX (F2 (AK ?_))))));refine B0 (AE (AE (A3 rfl (AX (Bb (tap.draw (n:=0) (many:=4) (rest:=[.lst (intD (left.set k (lf left k-days))),.lst (pcD P++[Av [D.im (.int (k:Int)),.im (.int now),.im (.int (now+days))]]),.lst (Am L),.lst (Am M)]) hT rfl (by decide) (by decide) λs a b hT ps qs=>Bb ?_))))));obtain⟨q1,q2⟩:=done_ a b hT (now+days+1+s) (by omega) (by omega) (gaps-1);exact⟨q1,_,rfl,AV _,q2⟩
     .obtain⟨q1,q2⟩:=done_ a b hT (now+days) (by omega) (by omega) gaps;exact⟨q1,_,rfl,AV _,q2⟩
    .rw[if_neg (by simpa using hg)];refine⟨(λh=>by cases h),λ_=>BC ?_⟩;obtain⟨q1,q2⟩:=done_ a b hT (now+days) (by omega) (by omega) gaps;exact⟨q1,_,rfl,AV _,q2⟩
   .have hM0:M=[]:=Classical.byContradiction hMn;rw[hM0];have far:∀k∈L,now<cm ws k:=λk hk=>by
     rw[hM]at hM0;have:=List.filter_eq_nil_iff.mp hM0 k hk;simp at this;omega
    refine BD (HM (Al (DM (A3 rfl ⟨_,pyL (M:=[]) rfl,_,rfl,?_⟩))));rw[if_pos (by simp)];refine Al (DM (A3 rfl ⟨_,pyL (M:=L) rfl,_,rfl,λ_=>?_,λh=>?_⟩))
    rotate_left
    .exact absurd (by simpa using h) hne
    refine B0 (Dm (BT (Kd (A3 rfl ⟨4,Am L,rfl,rfl,Aq (by simp;omega),?_⟩))));refine Be (λk:Nat=>D.im (.int (k:Int))) (λk=>some (.im (.int (cm ws k)))) (λ_ ls=>∃x,ls=[some x,some (.im (AM ws))]) _ (by intro q hq;rw[mem_singleton]at hq;subst hq;rfl) ?_ ?_
    .rintro k hk ls hls;have hkn:=(hL k hk).1;refine⟨[some (.im (.int (k:Int))),some (.im (AM ws))],by rcases hls with rfl|⟨_,x,rfl⟩<;>rfl,⟨_,rfl⟩,Bw ⟨rfl,?_⟩⟩;rw[if_pos rfl];refine⟨_,rfl,AE (AE (A3 rfl (A3 rfl (Ai (by rw[DO]) (EB hkn) (AX (Ai rfl (Ec _ _ _) ?_))))))⟩;rw[HE hkn];exact⟨rfl,rfl⟩
    rw[Vr L (cm ws)];obtain⟨k,hk,ek⟩:=mem_map.mp (Fs (xs:=L.map (cm ws)) (by simpa using hne)).1;refine⟨_,OF (by simpa using hne),?_⟩;rw[<- ek];have hf:=far k hk;refine⟨?_,_,rfl,AV _,left,P,cm ws k,gaps,a,b,_,_,_,_,_,rfl,rfl,hT,S.later (by omega),.inr ?_,by omega,?_⟩
    .simp[c4a,c4b,Im,GV,Cm,intD]
    .have:=Xi (hL k hk).1 hf;unfold mu at hmu ⊢;omega
    .have h1:=(E.ok _ (List.getElem_mem (hL k hk).1)).c2;rw[HE (hL k hk).1]at h1;omega
 .rintro ls hd ⟨left,P,now,gaps,a,b,z7,z8,z9,z10,z11,rfl,rfl,hT,S,hmu,hlen,hnow⟩;have h0:cnt ws.length left<=0:=by
   rcases hmu with h|h
   .exact h
   .simp only[length_nil]at h;have:=Ym (ws:=ws) now;unfold mu at h;split at h<;>omega
  obtain⟨F,w⟩:=Vu E S h0;refine AK (BB (Bj (A5 (A3 rfl (AG (DV rfl rfl ?_))))));rw[Xa];refine⟨_,a,b,_,rfl,⟨P,rfl,by omega,λp hp=>?_,S.cc,F,λa b hab p hp e=>?_⟩,hT,rfl⟩
  .have:=S.le p hp;simp only[length_nil]at hnow;omega
  .obtain⟨a',b',ep,ha,_⟩:=hW.nats _ hab;have:=(Prod.mk.inj ep).1;exact w a b (by omega) hab p hp e
end
theorem L3(i:Int):WF CC [.im (.int i)] [] λd x=>d=.im (.bl true):=by
 unfold CC;refine Bh rfl ?_;refine BB (FN (Al (JZ (A3 rfl ⟨_,rfl,_,rfl,?_⟩))));rw[if_pos (by decide)];exact UJ (Al (JZ (A3 rfl ⟨_,rfl,_,rfl,rfl⟩)))
theorem M2(P:List Pl.Pc):(P.map AL).map D.im=pcD P:=by simp[pcD]
theorem Iv:∀ns:List Int,PyData.eqvAll (ns.map PyData.int) (ns.map PyData.int)=true
 |[]=>by simp[PyData.eqvAll]
 |n::r=>by simp[PyData.eqvAll,PyData.eqv,Iv r]
theorem HC:∀ns:List Int,PyData.depthAll (ns.map PyData.int)=0
 |[]=>by simp[PyData.depthAll]
 |n::r=>by simp[PyData.depthAll,PyData.depth,HC r]
theorem Gq(ns:List Int):(PyData.list (ns.map PyData.int)).canLay0=true:=by
 rw[PyData.canLay0]
 induction ns with
 |nil=>rfl
 |cons x r ih=>simp[PyData.canLayAll0,PyData.canLay0]at ih ⊢;try exact ih
theorem Tf(ns:List Int)(hd:Hd)(neg:Bool):G7 neg (.list (ns.map PyData.int)) (.list (ns.map PyData.int)) hd=some (.im (.bl (!neg)),hd):=by
 unfold G7;rw[if_pos]
 .simp[PyData.eqv,Iv]
 .refine⟨Gq ns,Gq ns,?_⟩;simp[PyData.depth,HC]
theorem Q4{neg:Bool}{ma ml:MA}{ls:Ls}{hd:Hd}{QE:D->Hd->Prop}{ns:List Int}(h:WA ma ls hd λes x=>es=intD ns/\WA ml ls x λds y=>ds=intD ns/\QE (.im (.bl (!neg))) y):WE (Et neg ma ml) ls hd QE:=by
 obtain⟨es,x,e1,rfl,ds,y,e2,rfl,q⟩:=h;refine⟨_,y,?_,q⟩;unfold Et;rw[e1];simp only[bind_some,e2];simp only[intD,CY,bind_some,Cq,Tf]
section
variable{ws:List Wk}
theorem KP{P:List Pl.Pc}(n8:ws.length<=8)(hP:∀p∈P,p.1<ws.length):WF F_ends_of [.im (AM ws),.im (.tup (P.map AL))] [] λd x=>d=.im (B8 ((List.range ws.length).map (Pl.E P))):=by
 obtain⟨g,e⟩:=Pd ws P hP (by omega);rw[Pl.ends_map]at e;exact WP.eq (Xp ▸ e) rfl
end
theorem Q8{m:MA}{mb:ME}{ix:List Nat}{ls:Ls}{hd:Hd}{QA:List D->Hd->Prop}(h:WA m ls hd λds x=>∃n:Nat,ds=[.im (.int (n:Int))]/\n<64/\∃kf:Nat->Int,(∀a b,a<n->b<n->kf a=kf b->a=b)/\
 (∀k:Nat,k<n->mb (some (.im (.int (k:Int)))::ix.map λi=>(ls[i]?).join) x=some (.im (.int (kf k)),x))/\∀o:List Nat,o.Perm (List.range n)->o.Pairwise (λa b=>kf a<kf b)->QA (Am o) x):WA (OB m ix mb) ls hd QA:=by
 obtain⟨ds,x,e,n,rfl,hn,kf,inj,ek,q⟩:=h;obtain⟨ns,hns⟩:∃ns,ns=(List.range n).map λk:Nat=>(k:Int):=⟨_,rfl⟩
 have mem:∀z∈ns,∃k:Nat,k<n/\z=k:=λz hz=>by
  rw[hns]at hz;obtain⟨k,hk,rfl⟩:=mem_map.mp hz;exact⟨k,by simpa using hk,rfl⟩
 have e2:=LV (mb:=mb) (cap:=ix.map λi=>(ls[i]?).join) (hd:=x) (ns:=ns) (λz=>D.im (.int (kf z.toNat))) λz hz=>by
  obtain⟨k,hk,rfl⟩:=mem z hz;exact ek k hk
 have e3:GS (ns.map λz=>D.im (.int (kf z.toNat)))=some (ns.map λz=>kf z.toNat):=by
  unfold GS;have:BS (ns.map λz=>D.im (.int (kf z.toNat)))=some (ns.map λz=>kf z.toNat):=by
   have:=FB (ns.map λz=>kf z.toNat);rw[map_map]at this;exact this
  rw[this]
 have nd:ns.Nodup:=by
  rw[hns,List.nodup_iff_pairwise_ne,pairwise_map];exact(List.nodup_iff_pairwise_ne.mp nodup_range).imp λh=>by omega
 have nk:=Qr (g:=λz=>kf z.toNat) nd λa ha b hb e=>by
  obtain⟨i,hi,rfl⟩:=mem a ha;obtain⟨j,hj,rfl⟩:=mem b hb;rw[inj i j hi hj (by simpa using e)]
 obtain⟨pm,pw⟩:=Os (λz=>kf z.toNat) ns;generalize hms:Fm (ns.map λz=>kf z.toNat) ns=ms at pm pw;have em:ms=(ms.map Int.toNat).map λk:Nat=>(k:Int):=by
  rw[map_map];have:ms.map id=ms.map ((λk:Nat=>(k:Int)) ∘ Int.toNat):=map_congr_left λz hz=>by
   obtain⟨k,hk,rfl⟩:=mem z (pm.mem_iff.mp hz);simp
  rw[<- this,map_id]
 have pm2:(ms.map Int.toNat).Perm (List.range n):=by
  have:=pm.map Int.toNat
  rw[hns,map_map]at this;have e:(List.range n).map (Int.toNat ∘ λk:Nat=>(k:Int))=List.range n:=by
   have:(Int.toNat ∘ λk:Nat=>(k:Int))=id:=by funext k;simp
   rw[this,map_id]
  rw[e]at this;exact this
 have nd2:(ms.map Int.toNat).Nodup:=pm2.nodup_iff.mpr nodup_range;have pw2:(ms.map Int.toNat).Pairwise λa b=>kf a<kf b:=by
  have h1:(ms.map Int.toNat).Pairwise λa b=>kf a<=kf b:=pairwise_map.mpr pw;refine(h1.and (List.nodup_iff_pairwise_ne.mp nd2)).imp_of_mem λ{a b} ha hb h=>?_
  have hne:kf a≠kf b:=λz=>h.2 (inj a b (by simpa using pm2.mem_iff.mp ha) (by simpa using pm2.mem_iff.mp hb) z);have:=h.1;omega
 refine⟨Am (ms.map Int.toNat),x,?_,q _ pm2 pw2⟩;have c:(0:Int)<=n/\(n:Int)<64:=by omega
 have e1:KH m ls hd=some (ns,x):=by
  simp only[KH,e,bind_some,if_pos c,toNat_natCast,hns]
 have hl:ns.length<64:=by rw[hns];simpa using hn
 simp only[K6,e1,bind_some,e2,e3,hl,nk,and_self,if_true,hms];rw[Kt,<- em]
section
variable{ws:List Wk}
theorem Le(n8:ws.length<=8){P:List Pl.Pc}(hP:∀p∈P,p.1<ws.length)(inj:∀i j,i<ws.length->j<ws.length->Pl.E P i=Pl.E P j->i=j):
 WF EK [.im (AM ws),.im (.tup (P.map AL))] [] λd x=>∃o:List Nat,d=.im (De o)/\o.Perm (List.range ws.length)/\o.Pairwise λi j=>Pl.E P i<Pl.E P j:=by
 unfold EK;refine Bh rfl ?_;refine Aa (B0 (Aj (A5 (A3 rfl (A5 (A3 rfl (AG ⟨by simp,(KP n8 hP).mono ?_⟩)))))));rintro d x rfl;refine⟨_,rfl,AK ?_⟩;refine BB (Dm (Q8 (A5 (Bj (A5 (A3 rfl (AG (DV rfl rfl (AG ⟨ws.length,by simp,by omega,Pl.E P,inj,λk hk=>?_,λo pm pw=>⟨_,rfl,o,O5 o,pm,pw⟩⟩)))))))));have w:WE (mOp gIx (A0 1) (A0 0)) [some (.im (.int (k:Int))),some (.im (B8 ((List.range ws.length).map (Pl.E P))))] [] λd x=>d=.im (.int (Pl.E P k))/\x=[]:=
  AE (A3 rfl (A3 rfl (Ai (e:=.im (.int (Pl.E P k))) rfl (Fj rfl (by simp[hk])) ⟨rfl,rfl⟩)))
 obtain⟨d,x,e,rfl,rfl⟩:=w;exact e
end
section
variable{ws:List Wk}
theorem Cj{k:Nat}{r:List Nat}{t:Int}(hk:k<ws.length):BQ ws (k::r) t=(k,max t (cm ws k),max t (cm ws k)+ln ws k)::BQ ws r (max t (cm ws k)+ln ws k):=by
 have h:(if t>cm ws k then t else cm ws k)=max t (cm ws k):=by split<;>omega
 rw[BQ,List.getElem?_eq_getElem hk];simp only[HE hk,PH hk,h]
theorem J9:∀{ks:List Nat} {t:Int},(∀k∈ks,k<ws.length)->∀p∈BQ ws ks t,p.1∈ks
 |[],t,_,p,h=>by simp[BQ]at h
 |k::ks,t,hk,p,h=>by
  rw[Cj (hk k (by simp))]at h;rcases mem_cons.mp h with rfl|h
  .simp
  .exact mem_cons_of_mem _ (J9 (λj hj=>hk j (mem_cons_of_mem _ hj)) p h)
theorem WW{o:List Nat}(pm:o.Perm (List.range ws.length)):∀p∈BQ ws o 0,p.1<ws.length:=λp hp=>by
 have hn:∀j∈o,j<ws.length:=λj hj=>by simpa using pm.mem_iff.mp hj
 exact hn _ (J9 hn p hp)
def cst(ws:List Wk)(k:Nat):Cost:=((ws[k]?).map Wk.cost).getD (.late 0)
theorem Ri{k:Nat}(hk:k<ws.length):(ws[k]).cost=cst ws k:=by simp[cst,hk]
theorem Y0(E:Ew ws){k:Nat}(hk:k<ws.length):(cst ws k).ok:=by
 rw[<- Ri hk];exact(E.ok ws[k] (List.getElem_mem hk)).co
theorem HD(g:Nat->Int):CW ws ((List.range ws.length).map g)=(List.range ws.length).map λk=>(cst ws k).at (g k):=by
 refine ext_getElem? λi=>?_;unfold CW;rw[List.getElem?_zipWith];by_cases hi:i<ws.length
 .simp[hi,cst]
 .simp[hi]
end
theorem TH{l i:Int}(h:l<=i):WF CI [.im (.int l),.im (.int i)] [] λd x=>d=.im (.bl true):=by
 unfold CI;refine Bh rfl ?_;refine BB (FN (Al (Aj (A5 (A3 rfl (AG ⟨by simp,(L3 i).mono ?_⟩))))));rintro d x rfl;refine⟨_,rfl,_,rfl,?_⟩;rw[if_pos rfl];refine AE (A3 rfl (A3 rfl (Tk ?_)));simp[h]
theorem TD{m i:Int}(h:0<=i)(h2:i<m):WF By [.im (.int m),.im (.int i)] [] λd x=>d=.im (.bl true):=by
 unfold By;refine Bh rfl ?_;refine BB (FN (Al (Aj (A5 (AX (A5 (A3 rfl (AG ⟨by simp,(TH h).mono ?_⟩))))))));rintro d x rfl;refine⟨_,rfl,_,rfl,?_⟩;rw[if_pos rfl];refine AE (A3 rfl (A3 rfl (Lr ?_)));simp[h2]
theorem Vo(a b c:I):WF DC [.im (.int 3),.im (.tup [a,b,c])] [] λd x=>d=.im (.bl true):=by
 unfold DC;refine Bh rfl ?_;refine BB (FN (Al (JZ (A3 rfl ⟨_,rfl,_,rfl,?_⟩))));rw[if_pos (by decide)];exact AE (Bj (A5 (A3 rfl (AG (DV rfl rfl (A3 rfl (GC rfl)))))))
section
variable{ws:List Wk}
abbrev Fz(ws:List Wk)(p:Pl.Pc):Prop:=cm ws p.1<=p.2.1/\p.2.1<p.2.2
theorem VF{p:Pl.Pc}(h1:p.1<ws.length):WF Ed [.im (AM ws),.im (AL p)] [] λd x=>d=.im (.bl (decide (Fz ws p))):=by
 obtain⟨k,b,e⟩:=p;dsimp only at h1;unfold Ed;refine Bh rfl ?_;refine Aa (BD (Dk (Dj (Aj (A5 (AX (A5 (A3 rfl (AG ⟨by simp[AL],(Vo (.int k) (.int b) (.int e)).mono ?_⟩)))))))));rintro d x rfl;refine⟨_,rfl,_,rfl,(λh=>by cases h),λ_=>BC (AK ?_)⟩;refine Aa (JV (A3 rfl ⟨[some (.im (AM ws)),some (.im (AL (k,b,e))),some (.im (.int (k:Int))),some (.im (.int b)),some (.im (.int e))],rfl,AK ?_⟩));refine Aa (BD (IF (Dk (Dj (Aj (A5 (Bj (A5 (A3 rfl (AG (DV (z:=.im (.int (ws.length:Int))) rfl (by simp[C1]) (A5 (A3 rfl (AG ⟨by simp,(TD (m:=(ws.length:Int)) (i:=(k:Int)) (by omega) (by omega)).mono ?_⟩))))))))))))));rintro d x rfl;refine⟨_,rfl,_,rfl,?_⟩;rw[if_neg (by simp)];refine IF (Dk (Dj (Aj (A5 (A3 rfl (AG ⟨by simp,(L3 b).mono ?_⟩))))));rintro d x rfl;refine⟨_,rfl,_,rfl,?_⟩;rw[if_neg (by simp)];refine Dk (Dj (Aj (A5 (A3 rfl (AG ⟨by simp,(L3 e).mono ?_⟩)))));rintro d x rfl;refine⟨_,rfl,_,rfl,(λh=>by cases h),λ_=>BC (AK ?_)⟩;refine BB (FN (Al (AE (AE (AE (A3 rfl (A3 rfl (Ai (by rw[DO]) (EB h1) (AX (Ai rfl (Ec _ _ _) ?_))))))))));rw[HE h1];refine A3 rfl (JW ⟨_,rfl,?_⟩);by_cases h2:cm ws k<=b
 .rw[if_pos (by simpa using h2)];refine AE (A3 rfl (A3 rfl (Lr ?_)));simp[Fz,h2]
 .rw[if_neg (by simpa using h2)];simp[Fz,h2]
theorem WB{ma mb:MI}{ls:Ls}{hd:Hd}{QI:List D×Gd->Hd->Prop}(h:WI ma ls hd λp x=>WI mb ls x λq y=>GOk y p.2/\QI (List.zipWith (λx y=>Av [x,y]) p.1 q.1,p.2++q.2) y):WI (Hl ma mb) ls hd QI:=by
 obtain⟨p,x,e1,q,y,e2,g,k⟩:=h;exact⟨_,_,by simp only[Hl,e1,bind_some,e2,g,if_true],k⟩
abbrev Fk(P:List Pl.Pc):Prop:=∀x∈P.zip P.tail,x.1.2.2<=x.2.2.1
theorem blsD_map(bs:List Bool):Cw (blD bs)=some bs:=by
 induction bs with
 |nil=>rfl
 |cons b r ih=>simp[blD]at ih ⊢
theorem OH(bs:List Bool):JN (blD bs)=some (.im (.bl (bs.all id))):=by rw[JN,blsD_map];rfl
theorem Yb{P:List Pl.Pc}(hl:P.length<=62):WF CZ [.im (.tup (P.map AL))] [] λd x=>d=.im (.bl (decide (Fk P))):=by
 unfold CZ;refine Bh rfl ?_;have ct:Bm ((P.map AL).map D.im) (some 1) none=(P.tail.map AL).map D.im:=by
  cases P with
  |nil=>rfl
  |cons p r=>
   simp[Bm,HT.sIx];exact take_of_length_le (by simp)
 refine BB (Dm (BT (WB (Cc (A3 rfl ⟨_,rfl,Cc (Q3 (A3 rfl (EC (AX ⟨_,rfl,II ⟨_,rfl,?_⟩⟩))))⟩)))));rw[ct,Ax];refine⟨_,rfl,AV _,?_⟩;have ez:List.zipWith (λx y=>Av [x,y]) ((P.map AL).map D.im) ((P.tail.map AL).map D.im)=(P.zip P.tail).map λq:Pl.Pc×Pl.Pc=>D.im (.tup [AL q.1,AL q.2]):=by
  rw[List.zipWith_map,List.zipWith_map,List.zip,List.map_zipWith];rfl
 dsimp only;rw[ez];refine⟨Aq (by simp;omega),?_⟩;refine Be (λq:Pl.Pc×Pl.Pc=>D.im (.tup [AL q.1,AL q.2])) (λq=>some (.im (.bl (decide (q.1.2.2<=q.2.2.1))))) (λ_ ls=>∃x y,ls=[some x,some y]) _ (AV _) ?_ ?_
 .rintro q hq ls hls;refine⟨[some (.im (AL q.1)),some (.im (AL q.2))],by rcases hls with rfl|⟨_,x,y,rfl⟩<;>rfl,⟨_,_,rfl⟩,Bw ⟨rfl,?_⟩⟩;rw[if_pos rfl];exact⟨_,rfl,AE (AE (A3 rfl (AX (Ai rfl (IB _ _ _ _) (AE (A3 rfl (AX (Ai rfl (Ec _ _ _) (JW ⟨rfl,rfl⟩)))))))))⟩
 have e:((P.zip P.tail).filterMap λq:Pl.Pc×Pl.Pc=>some (D.im (.bl (decide (q.1.2.2<=q.2.2.1)))))=blD ((P.zip P.tail).map λq=>decide (q.1.2.2<=q.2.2.1)):=by simp[blD]
 rw[e];refine⟨_,OH _,?_⟩
 congr 3
 rw[Bool.eq_iff_iff,decide_eq_true_iff,all_map,all_eq_true];simp[Fk]
abbrev dnL(n:Nat)(P:List Pl.Pc):List Int:=(List.range n).map (Pl.dn P)
theorem W0{n:Nat}{P:List Pl.Pc}{q:Pl.Pc}:(dnL n P).set q.1 (Pl.dn P q.1+(q.2.2-q.2.1))=dnL n (P++[q]):=by
 refine ext_getElem? λi=>?_;rw[List.getElem?_set];by_cases h:q.1=i
 .subst h;by_cases hk:q.1<n
  .simp[dnL,hk,Ij]
  .simp[dnL,hk]
 .by_cases hk:i<n
  .simp[dnL,hk,Ij,h]
  .simp[dnL,hk,h]
theorem UE{mo mi me:ME}{f:Int->Int->Int}{ls:Ls}{hd:Hd}{QS:Fl->Hd->Prop}(h:WE mo ls hd λd x=>WE mi ls x λi y=>∃n k ds j v,d=.mu n/\i=.im (.int k)/\y[n]?=some (.lst ds)/\ixN ds.length k=some j/\ds[j]?=some (.im (.int v))/\WE me ls y λr z=>∃u ds',r=.im (.int u)/\z[n]?=some (.lst ds')/\ds'.length=ds.length/\QS (.nx ls) (z.set n (.lst (ds'.set j (.im (.int (f v u))))))):WS (KA mo mi me f) ls hd QS:=by
 obtain⟨d,x,e1,i,y,e2,n,k,ds,j,v,rfl,rfl,e3,e4,e5,r,z,e6,u,ds',rfl,e7,e8,q⟩:=h;refine⟨_,_,?_,q⟩;unfold KA;simp only[e1,bind_some,e2,e3,e4,e5,e6,e7,e8,if_true]
inductive I_dn(ws:List Wk)(P:List Pl.Pc)(r:List D)(ls:Ls)(hd:Hd):Prop
 |mk (d0 rest:List Pl.Pc) (z3 z4 z5:Option D) (h0:P=d0++rest) (h1:r=pcD rest) (h2:ls=[some (.im (AM ws)),some (.im (.tup (P.map AL))),some (.mu 0),z3,z4,z5]) (h3:hd=[.lst (intD (dnL ws.length d0))]):I_dn ws P r ls hd
theorem Xz(n8:ws.length<=8){P:List Pl.Pc}(hP:∀p∈P,p.1<ws.length):WF Ch [.im (AM ws),.im (.tup (P.map AL))] [] λd x=>d=.mu 0/\x=[.lst (intD (dnL ws.length P))]:=by
 unfold Ch;refine Bh rfl ?_;refine Aa (B0 (Cd (BT (Cc (A3 rfl ⟨_,rfl,Aq (by simp;omega),?_⟩)))));rw[show(ws.map AT).map D.im=ws.map λw=>D.im (AT w) by simp];refine Be (λw=>D.im (AT w)) (λw:Wk=>some (.im (.int 0))) (λ_ ls=>∃x,ls=[some x]) _ (AV _) ?_ ?_
 .rintro w hw ls hls;refine⟨[some (.im (AT w))],by rcases hls with rfl|⟨_,x,rfl⟩<;>rfl,⟨_,rfl⟩,Bw ⟨rfl,?_⟩⟩;rw[if_pos rfl];exact⟨_,rfl,AX ⟨rfl,rfl⟩⟩
 have e0:(ws.filterMap λ_=>some (D.im (.int 0)))=intD (dnL ws.length []):=by
  refine ext_getElem? λi=>?_;by_cases hi:i<ws.length
  .simp[intD,dnL,hi,Pl.dn]
  .simp[intD,dnL,hi]
 rw[e0];refine AK (Aa (F1 (Cc (A3 rfl ⟨_,rfl,?_⟩))));rw[M2];refine Dl (I_dn ws P) ⟨[],P,none,none,none,rfl,rfl,rfl,rfl⟩ ?_ ?_
 .rintro d r ls hd ⟨d0,rest,z3,z4,z5,e1,er,rfl,rfl⟩;cases rest with
  |nil=>cases er
  |cons p rest=>
   obtain⟨rfl,rfl⟩:=List.cons.inj er;have hp:=hP p (by rw[e1];simp);obtain⟨k,b,e⟩:=p;dsimp only at hp;refine⟨[some (.im (AM ws)),some (.im (.tup (P.map AL))),some (.mu 0),some (.im (.int (k:Int))),some (.im (.int b)),some (.im (.int e))],rfl,?_⟩;refine UE (A3 rfl (A3 rfl ⟨0,(k:Int),intD (dnL ws.length d0),k,Pl.dn d0 k,rfl,rfl,rfl,?_,?_,?_⟩))
   .have:=Kz (n:=(intD (dnL ws.length d0)).length) (i:=(k:Int)) (by omega) (by simp[intD,dnL];omega);simpa using this
   .simp[intD,dnL,hp]
   refine AE (A3 rfl (A3 rfl (F2 ⟨_,_,rfl,rfl,rfl,AV _,d0++[(k,b,e)],rest,_,_,_,by rw[e1];simp,rfl,rfl,?_⟩)));rw[set_cons_zero,Mw];have:=W0 (n:=ws.length) (P:=d0) (q:=(k,b,e));dsimp only at this;rw[this]
 .rintro ls hd ⟨d0,rest,z3,z4,z5,e1,er,rfl,rfl⟩;have:rest=[]:=by cases rest with
   |nil=>rfl
   |cons t r=>cases er
  subst this;rw[append_nil]at e1;subst e1;exact AK (BB (A3 rfl ⟨rfl,rfl⟩))
end
def NX(W:List (Int×Int))(P:List Pl.Pc):Prop:=∀q∈W,∀p∈P,(p.1:Int)=q.2->Pl.E P q.1.toNat<=p.2.1
inductive I_k1(W:List (Int×Int))(P:List Pl.Pc)(es:List Int)(r:List D)(ls:Ls)(hd:Hd):Prop
 |mk (d0 rest:List (Int×Int)) (z0 z1 z2 z3 z4:Option D) (bs:List Bool) (h0:W=d0++rest) (h1:r=rest.map Aw) (h2:ls=[z0,z1,z2,z3,z4,some (.im (.tup (P.map AL))),some (.im (B8 es))]) (h3:hd=[.lst (blD bs)]) (h4:bs.length<=62*d0.length) (h5:bs.all id=true↔∀q∈d0,∀p∈P,(p.1:Int)=q.2->Pl.E P q.1.toNat<=p.2.1):I_k1 W P es r ls hd
inductive I_k2(P:List Pl.Pc)(es:List Int)(a b:Nat)(bs:List Bool)(r:List D)(ls:Ls)(hd:Hd):Prop
 |mk (d0 rest:List Pl.Pc) (z2 z3 z4:Option D) (cs:List Bool) (h0:P=d0++rest) (h1:r=pcD rest) (h2:ls=[some (.im (.int (a:Int))),some (.im (.int (b:Int))),z2,z3,z4,some (.im (.tup (P.map AL))),some (.im (B8 es))]) (h3:hd=[.lst (blD cs)]) (h4:cs.length<=bs.length+d0.length) (h5:cs.all id=true↔bs.all id=true/\∀p∈d0,(p.1:Int)=(b:Int)->Pl.E P a<=p.2.1):I_k2 P es a b bs r ls hd
section
variable{ws:List Wk}
theorem Vl{W:List (Int×Int)}{P:List Pl.Pc}{n:Nat}(hW:Wsh n W)(hl:P.length<=62):
 WF Ci [.im (wI W),.im (.tup (P.map AL)),.im (B8 ((List.range n).map (Pl.E P)))] [] λd x=>∃b:Bool,d=.im (.bl b)/\(b=true↔NX W P):=by
 have h16:=hW.len;obtain⟨es,hes⟩:∃es,es=(List.range n).map (Pl.E P):=⟨_,rfl⟩
 rw[<- hes];unfold Ci;refine Bh rfl ?_;refine BB (Bj (A5 (Rz (Cc (A3 rfl ⟨_,rfl,?_⟩)))));rw[Rw.pairs_im];refine Kb (I_k1 W P es) ⟨[],W,none,none,none,none,none,[],rfl,rfl,rfl,rfl,by simp,by simp⟩ ?_ ?_
 .rintro d r ls hd ⟨d0,rest,z0,z1,z2,z3,z4,bs,e1,er,rfl,rfl,lb,hb⟩;cases rest with
  |nil=>cases er
  |cons u rest=>
   obtain⟨rfl,rfl⟩:=List.cons.inj er;obtain⟨a,b,rfl,ha,hbn⟩:=hW.nats u (by rw[e1];simp);have l1:=congrArg List.length e1;simp only[length_append,length_cons]at l1;refine⟨[some (.im (.int (a:Int))),some (.im (.int (b:Int))),z2,z3,z4,some (.im (.tup (P.map AL))),some (.im (B8 es))],rfl,Bw ?_⟩;rw[if_pos rfl];refine Cc (A3 rfl ⟨_,rfl,?_⟩);rw[M2];refine Ke (I_k2 P es a b bs) ⟨[],P,_,_,_,bs,rfl,rfl,rfl,rfl,by simp,by simp⟩ ?_ ?_
   .rintro d r ls hd ⟨d1,r2,y2,y3,y4,cs,e2,er,rfl,rfl,lc,hc⟩;cases r2 with
    |nil=>cases er
    |cons p r2=>
     obtain⟨rfl,rfl⟩:=List.cons.inj er;have l2:=congrArg List.length e2;simp only[length_append,length_cons]at l2;obtain⟨k,x,y⟩:=p;refine⟨[some (.im (.int (a:Int))),some (.im (.int (b:Int))),some (.im (.int (k:Int))),some (.im (.int x)),some (.im (.int y)),some (.im (.tup (P.map AL))),some (.im (B8 es))],rfl,Al (AE (A3 rfl (A3 rfl (GC ⟨_,rfl,?_⟩))))⟩;by_cases hk:(k:Int)=(b:Int)
     .rw[if_pos (by simpa using hk)];refine AE (AE (A3 rfl (A3 rfl (Ai (e:=.im (.int (Pl.E P a))) rfl (Fj rfl (by simp[hes,ha])) (A3 rfl (JW (JX rfl (Ca (by rw[length_map];omega)) ?_)))))));refine⟨AV _,d1++[(k,x,y)],r2,_,_,_,cs++[decide (Pl.E P a<=x)],by rw[e2];simp,rfl,rfl,by simp[blD],by simp;omega,?_⟩;rw[List.all_append,Bool.and_eq_true,hc];constructor
      .rintro⟨⟨h1,h2⟩,h3⟩;refine⟨h1,λp hp ep=>?_⟩;rcases mem_append.mp hp with q|q
       .exact h2 p q ep
       .rw[mem_singleton]at q;subst q;simpa using h3
      .rintro⟨h1,h2⟩;refine⟨⟨h1,λp hp ep=>h2 p (mem_append_left _ hp) ep⟩,?_⟩;have:=h2 (k,x,y) (by simp) hk;simpa using this
     .rw[if_neg (by simpa using hk)];refine⟨AV _,d1++[(k,x,y)],r2,_,_,_,cs,by rw[e2];simp,rfl,rfl,rfl,by simp;omega,hc.trans ?_⟩;refine and_congr_right λ_=>⟨λh p hp ep=>?_,λh p hp ep=>h p (mem_append_left _ hp) ep⟩
      rcases mem_append.mp hp with q|q
      .exact h p q ep
      .rw[mem_singleton]at q;subst q;exact absurd ep hk
   .rintro ls hd ⟨d1,r2,y2,y3,y4,cs,e2,er,rfl,rfl,lc,hc⟩;have:r2=[]:=by cases r2 with
     |nil=>rfl
     |cons _ _=>cases er
    subst this;rw[append_nil]at e2;subst e2;refine⟨AV _,d0++[((a:Int),(b:Int))],rest,_,_,_,_,_,cs,by rw[e1];simp,rfl,rfl,rfl,by simp;omega,hc.trans ?_⟩;rw[hb];constructor
    .rintro⟨h1,h2⟩ q hq p hp ep;rcases mem_append.mp hq with z|z
     .exact h1 q z p hp ep
     .rw[mem_singleton]at z;subst z;simpa using h2 p hp ep
    .intro h;refine⟨λq hq=>h q (mem_append_left _ hq),λp hp ep=>?_⟩;have:=h ((a:Int),(b:Int)) (by simp) p hp ep;simpa using this
 .rintro ls hd ⟨d0,rest,z0,z1,z2,z3,z4,bs,e1,er,rfl,rfl,lb,hb⟩;have:rest=[]:=by cases rest with
   |nil=>rfl
   |cons _ _=>cases er
  subst this;rw[append_nil]at e1;subst e1;refine AG (DV rfl (by rw[JN,show Cw (blD _)=some _ from blsD_map _];rfl) ⟨_,rfl,hb⟩)
theorem NH:∀as bs:List Int,PyData.eqvAll (as.map PyData.int) (bs.map PyData.int)=decide (as=bs)
 |[],[]=>by simp[PyData.eqvAll]
 |[],b::r=>by simp[PyData.eqvAll]
 |a::r,[]=>by simp[PyData.eqvAll]
 |a::r,b::s=>by
  have ih:=NH r s;simp only[map_cons,PyData.eqvAll,PyData.eqv,ih];by_cases h:a=b
  .subst h;simp
  .simp[h]
theorem UK{ma:ME}{ml:MA}{ls:Ls}{hd:Hd}{QE:D->Hd->Prop}(h:WE ma ls hd λd x=>WA ml ls x λds y=>∃as bs:List Int,pyD y d=some (.list (as.map PyData.int))/\ds=intD bs/\QE (.im (.bl (!decide (as=bs)))) y):WE (Cb true ma ml) ls hd QE:=by
 obtain⟨d,x,e1,ds,y,e2,as,bs,e3,rfl,q⟩:=h;refine⟨_,y,?_,q⟩;unfold Cb;rw[e1];simp only[bind_some,e2,e3];simp only[intD,CY,bind_some,Cq];unfold G7;rw[if_pos ⟨Gq as,Gq bs,by simp[PyData.depth,HC]⟩];simp[PyData.eqv,NH]
theorem Q7{F:List D->Hd->Option (D×Hd)}{m:MA}{ls:Ls}{hd:Hd}{QE:D->Hd->Prop}(h:WA m ls hd λds rest=>B7 0 ds=true/\WF F ds [] λd x=>∃k es,d=.mu k/\x[k]?=some (.lst es)/\B7 0 es=true/\QE (.mu rest.length) (rest++[.lst es])):WE (A9 0 F m) ls hd QE:=by
 obtain⟨ds,rest,e,hc,d,x,e2,k,es,rfl,e3,c3,q⟩:=h;refine⟨_,_,?_,q⟩;have t3:¬ k<0:=by omega
 simp only[A9,e,bind_some,List.take_zero,hc,e2,fin,if_neg t3,e3,c3,if_true];simp
structure IsPl(ws:List Wk)(W:List (Int×Int))(P:List Pl.Pc):Prop where
 pc:∀p∈P,Fz ws p
 zp:Fk P
 dn:∀k,k<ws.length->Pl.dn P k=ln ws k
 kp:NX W P
theorem Ht(n8:ws.length<=8){P:List Pl.Pc}(hP:∀p∈P,p.1<ws.length)(hl:P.length<=62){W:List (Int×Int)}(hW:Wsh ws.length W):
 WF DU [.im (AM ws),.im (wI W),.im (.tup (P.map AL))] [] λd x=>∃b:Bool,d=.im (.bl b)/\(b=true↔IsPl ws W P):=by
 unfold DU;refine Bh rfl ?_;refine Aa (BD (IF (Dk (Dj (JZ (A3 rfl ⟨_,rfl,_,rfl,?_⟩))))));rw[if_neg (by decide)];refine Dk (Dj (Dm (BT (Cc (A3 rfl ⟨_,rfl,Aq (by simp;omega),?_⟩)))));rw[M2];refine Be (λp=>D.im (AL p)) (λp=>some (.im (.bl (decide (Fz ws p))))) (λ_ ls=>∃x,ls=[some x,some (.im (AM ws))]) _ (AV _) ?_ ?_
 .rintro p hp ls hls;refine⟨[some (.im (AL p)),some (.im (AM ws))],by rcases hls with rfl|⟨_,x,rfl⟩<;>rfl,⟨_,rfl⟩,Bw ⟨rfl,?_⟩⟩;rw[if_pos rfl];refine⟨_,rfl,Aj (A5 (A3 rfl (A5 (A3 rfl (AG ⟨by simp,(VF (hP p hp)).mono ?_⟩)))))⟩;rintro d x rfl;exact⟨_,rfl,rfl,rfl⟩
 have e:(P.filterMap λp=>some (D.im (.bl (decide (Fz ws p)))))=blD (P.map λp=>decide (Fz ws p)):=by simp[blD]
 rw[e];refine⟨_,OH _,_,rfl,λh=>?_,λh=>BC (AK ?_)⟩
 .refine BB (AX ⟨_,rfl,(λz=>by cases z),λI=>?_⟩);rw[Bool.not_eq_true',all_map,List.all_eq_false]at h;obtain⟨p,hp,q⟩:=h;exact absurd (decide_eq_true (I.pc p hp)) q
 have hpc:∀p∈P,Fz ws p:=λp hp=>by
  rw[Bool.not_eq_false',all_map,all_eq_true]at h;exact of_decide_eq_true (h p hp)
 refine Aa (BD (Dk (Dj (Aj (A5 (A3 rfl (AG ⟨by simp,(Yb hl).mono ?_⟩)))))));rintro d x rfl;refine⟨_,rfl,_,rfl,λh=>?_,λh=>BC (AK ?_)⟩
 .refine BB (AX ⟨_,rfl,(λz=>by cases z),λI=>?_⟩);rw[decide_eq_true I.zp]at h;cases h
 have hz:Fk P:=by
  by_cases q:Fk P
  .exact q
  .rw[decide_eq_false q]at h;cases h
 refine Aa (BD (Al (UK (Q7 (A5 (A3 rfl (A5 (A3 rfl (AG ⟨by simp,(Xz n8 hP).mono ?_⟩)))))))));rintro d x ⟨rfl,rfl⟩;refine⟨0,_,rfl,rfl,Cm _ _,?_⟩;refine BT (Cc (A3 rfl ⟨_,rfl,Aq (by simp;omega),?_⟩));rw[show(ws.map AT).map D.im=ws.map λw=>D.im (AT w) by simp];refine Be (λw=>D.im (AT w)) (λw:Wk=>some (.im (.int w.len))) (λ_ ls=>∃x,ls=[some x]) _ (AV _) ?_ ?_
 .rintro w hw ls hls;refine⟨[some (.im (AT w))],by rcases hls with rfl|⟨_,x,rfl⟩<;>rfl,⟨_,rfl⟩,Bw ⟨rfl,?_⟩⟩;rw[if_pos rfl];exact⟨_,rfl,AE (A3 rfl (AX (Ai rfl (CN _ _) ⟨rfl,rfl⟩)))⟩
 have el:ws.map Wk.len=(List.range ws.length).map (ln ws):=by
  refine ext_getElem? λi=>?_;by_cases hi:i<ws.length
  .simp[hi,ln]
  .simp[hi]
 have e0:(ws.filterMap λw=>some (D.im (.int w.len)))=intD ((List.range ws.length).map (ln ws)):=by rw[<- el];simp[intD]
 rw[e0];have eqd:dnL ws.length P=(List.range ws.length).map (ln ws)↔∀k,k<ws.length->Pl.dn P k=ln ws k:=by
  unfold dnL;rw[List.map_inj_left];simp
 refine⟨_,_,O3 rfl,rfl,_,rfl,λh=>?_,λh=>BC (AK ?_)⟩
 .refine BB (AX ⟨_,rfl,(λz=>by cases z),λI=>?_⟩);rw[decide_eq_true (eqd.mpr I.dn)]at h;cases h
 have hd:∀k,k<ws.length->Pl.dn P k=ln ws k:=by
  refine eqd.mp ?_;by_cases q:dnL ws.length P=(List.range ws.length).map (ln ws)
  .exact q
  .rw[decide_eq_false q]at h;cases h
 refine BB (Aj (A5 (A3 rfl (A5 (A3 rfl (A5 (Aj (A5 (A3 rfl (A5 (A3 rfl (AG ⟨by simp,(KP n8 hP).mono ?_⟩))))))))))));rintro d x rfl;refine⟨_,rfl,AG ⟨by simp,(Vl hW hl).mono ?_⟩⟩;rintro d x ⟨b,rfl,hb⟩;exact⟨_,rfl,_,rfl,hb.trans ⟨λk=>⟨hpc,hz,hd,k⟩,λI=>I.kp⟩⟩
end
theorem se1:¬ (("steps":Str)="ends"):=by decide +kernel
theorem le1:¬ (("late":Str)="ends"):=by decide +kernel
theorem te1:¬ (("tardy":Str)="ends"):=by decide +kernel
theorem me1:¬ (("miss":Str)="ends"):=by decide +kernel
theorem T8{w:Str}{due d:Int}{rest:List I}(h1:¬ w="ends")(h2:¬ w="steps")(hl:rest.length<=1):WF Dz [.im (.tup (.str w::.int due::rest)),.im (.int d)] [] λr x=>r=.im (.tup (.str w::.int (due+d)::rest)):=by
 unfold Dz;refine Bh rfl ?_;refine Aa (BD (IF (Al (AE (AE (A3 rfl (AX (Ai rfl (CN _ _) (AX (Cy ⟨_,rfl,?_⟩))))))))));rw[if_neg (by simpa using h1)];refine Al (AE (AE (A3 rfl (AX (Ai rfl (CN _ _) (AX (Cy ⟨_,rfl,?_⟩)))))));refine⟨(λq=>absurd (of_decide_eq_true q) h2),λ_=>BC (AK ?_)⟩;refine BB (AE (Bi (A5 (AE (A3 rfl (AX (Ai rfl (CN _ _) ?_)))))));refine A5 (AE (AE (A3 rfl (AX (Ai rfl (Ec _ _ _) (A3 rfl (Bb (AG ⟨Dv,?_⟩))))))));refine HP (A3 rfl (EC (AX ⟨_,rfl,II ⟨_,rfl,?_,?_⟩⟩)))
 .rintro⟨q,_⟩;simp[HT.sIx]at q
 have ct:Bm ((I.str w::.int due::rest).map D.im) (some 2) none=rest.map D.im:=by
  simp[Bm,HT.sIx];exact take_of_length_le (by simp)
 rw[ct,Ax];have cat:Pm [D.im (.str w),D.im (.int (due+d))] (rest.map D.im):=⟨by simp,Aq (by simp;omega)⟩
 refine WP.eq (z:=.im (.tup (.str w::.int (due+d)::rest))) (h:=[]) ?_ rfl;show(match Gx (.im (.tup [.str w,.int (due+d)])) (.im (.tup rest)) []with|some z=>some z|none=>FL (.im (.tup [.str w,.int (due+d)])) (.im (.tup rest)) [])=_;rw[show Gx (.im (.tup [.str w,.int (due+d)])) (.im (.tup rest)) []=none from rfl];unfold FL;rw[show Ao (.im (.tup [.str w,.int (due+d)]))=some [D.im (.str w),D.im (.int (due+d))]from rfl,show Ao (.im (.tup rest))=some (rest.map D.im)from rfl,bind_some,bind_some,if_pos cat];have:([D.im (.str w),D.im (.int (due+d))]++rest.map D.im)=(I.str w::.int (due+d)::rest).map D.im:=rfl;rw[this,Ax]
def EW(d:Int):Cost->Cost
 |.late x=>.late (x+d)
 |.tardy x w=>.tardy (x+d) w
 |.miss x w=>.miss (x+d) w
 |.ends w=>.ends w
 |.steps rows=>.steps (rows.map λq=>(q.1+d,q.2))
theorem PB{rows:List (Int×Int)}(d:Int)(hl:rows.length<=5):WF Bn [.im (BP (.steps rows)),.im (.int d)] [] λr x=>r=.im (BP (EW d (.steps rows))):=by
 unfold Bn;refine Bh rfl ?_;refine Aa (BD (Al (AE (AE (A3 rfl (AX (Ai rfl (CN _ _) (AX (Cy ⟨_,rfl,(λq=>absurd (of_decide_eq_true q) se1),λ_=>BC (AK ?_)⟩)))))))));refine Aa (BD (Al (AE (AE (A3 rfl (AX (Ai rfl (CN _ _) (AX (Cy ⟨_,rfl,λ_=>?_,(λq=>absurd rfl (of_decide_eq_false q))⟩)))))))));refine BB (Bi (A5 (AX (A5 (Dm (BT (Cc (AE (A3 rfl (AX (Ai rfl (Ec _ _ _) ⟨_,rfl,?_⟩)))))))))));rw[show(rows.map C8).map D.im=rows.map Aw by simp[C8,Aw]];refine⟨Aq (by simp;omega),?_⟩;refine Be Aw (λq=>some (Aw (q.1+d,q.2))) (λ_ ls=>∃x y,ls=[some x,some y,some (.im (.int d))]) _ (AV _) ?_ ?_
 .rintro q hq ls hls;refine⟨[some (.im (.int q.1)),some (.im (.int q.2)),some (.im (.int d))],by rcases hls with rfl|⟨_,x,y,rfl⟩<;>rfl,⟨_,_,rfl⟩,Bw ⟨rfl,?_⟩⟩;rw[if_pos rfl];exact⟨_,rfl,Bi (A5 (AE (A3 rfl (A3 rfl (Bb (A5 (A3 rfl (AG ⟨Dv,rfl,rfl⟩))))))))⟩
 have e:(rows.filterMap λq=>some (Aw (q.1+d,q.2)))=((rows.map λq=>(q.1+d,q.2)).map C8).map D.im:=by simp[Aw,C8]
 rw[e];refine⟨_,rfl,AG ⟨Dv,?_⟩⟩;rw[Ax];rfl
theorem Va{c:Cost}(h:c.ok)(hne:∀w,c≠.ends w)(d:Int):WF Bn [.im (BP c),.im (.int d)] [] λr x=>r=.im (BP (EW d c)):=by
 have go:∀(w:Str) (due:Int) (rest:List I),¬ w="ends"->¬ w="steps"->rest.length<=1->WF Bn [.im (.tup (.str w::.int due::rest)),.im (.int d)] [] λr x=>r=.im (.tup (.str w::.int (due+d)::rest)):=by
  intro w due rest q1 q2 q3;unfold Bn;refine Bh rfl ?_;refine Aa (BD (Al (AE (AE (A3 rfl (AX (Ai rfl (CN _ _) (AX (Cy ⟨_,rfl,(λq=>absurd (of_decide_eq_true q) q1),λ_=>BC (AK ?_)⟩)))))))));refine Aa (BD (Al (AE (AE (A3 rfl (AX (Ai rfl (CN _ _) (AX (Cy ⟨_,rfl,(λq=>absurd (of_decide_eq_true q) q2),λ_=>BC (AK ?_)⟩)))))))));refine BB (Aj (A5 (A3 rfl (A5 (A3 rfl (AG ⟨by simp,(T8 q1 q2 q3).mono ?_⟩))))));rintro r x rfl;exact⟨_,rfl,rfl⟩
 cases c with
 |late x=>exact go "late" x [] le1 n1 (by simp)
 |tardy x w=>exact go "tardy" x [.int w] te1 n2 (by simp)
 |miss x w=>exact go "miss" x [.int w] me1 n3 (by simp)
 |ends w=>exact absurd rfl (hne w)
 |steps rows=>exact PB d h.2.1
theorem VW{es:List Int}(h:∀e∈es,-1000000<=e/\e<=1000000)(hl:es.length<=8):OkP 400 1 (I.py (B8 es)):=by
 refine(Kr (w:=40) (dp:=0) (is:=es.map I.int) λi hi=>?_).mono (by rw[length_map];omega) (by omega);obtain⟨k,h1,rfl⟩:=mem_map.mp hi;have:=h k h1;exact IX ⟨by omega,by omega⟩
theorem JB{es:List Int}(h:∀e∈es,-1000000<=e/\e<=1000000)(hl:es.length<=8):Dt (I.py (B8 es)):=OkP.repr (VW h hl) (by rw[I.py];rfl) (by omega) (by omega)
theorem Qs(o:List Nat):De o=B8 (o.map λk:Nat=>(k:Int)):=by simp[De,B8]
theorem SZ{o:List Nat}(hk:∀k∈o,k<100)(hl:o.length<=8):Dt (I.py (De o)):=by
 rw[Qs];refine JB (λe he=>?_) (by simpa using hl);obtain⟨k,h1,rfl⟩:=mem_map.mp he;have:=hk k h1;omega
theorem Qp{P:List Pl.Pc}(hl:P.length<=60)(h:∀p∈P,p.1<100/\0<=p.2.1/\p.2.1<=10000/\0<=p.2.2/\p.2.2<=10000):OkP 20000 4 (I.py (.tup (P.map AL))):=by
 refine(Kr (w:=123) (dp:=1) (is:=P.map AL) λi hi=>?_).mono (by rw[length_map];omega) (by omega);obtain⟨p,hp,rfl⟩:=mem_map.mp hi;obtain⟨h1,h2,h3,h4,h5⟩:=h p hp;refine(Kr (is:=[.int (p.1:Int),.int p.2.1,.int p.2.2]) (w:=40) (dp:=0) λi hi=>?_).mono (by simp) (by omega);simp only[mem_cons,not_mem_nil,or_false]at hi;rcases hi with rfl|rfl|rfl
 .exact IX ⟨by omega,by omega⟩
 .exact IX ⟨by omega,by omega⟩
 .exact IX ⟨by omega,by omega⟩
theorem MW(t:Int):∀{rows:List (Int×Int)} {lo x:Int} (n:Nat),rows.length<=n->RowsOk lo x rows->x<=Bo t rows x/\Bo t rows x<=x+19*n
 |[],_,x,n,_,_=>by show x<=x/\x<=x+19*n;omega
 |(b,a)::r,lo,x,n,hn,h=>by
   obtain⟨_,_,h3,h4,h5⟩:=h;simp only[length_cons]at hn;obtain⟨m,rfl⟩:∃m,n=m+1:=⟨n-1,by omega⟩
   have:=MW t m (by omega) h5;unfold Bo;split<;>omega
theorem Yw{c:Cost}(h:c.ok){t:Int}(ht:-10000<=t/\t<=10000):-1000000<=c.at t/\c.at t<=1000000:=by
 cases c with
 |late d=>obtain⟨a,b⟩:=h;show -1000000<=t-d/\t-d<=1000000;omega
 |tardy d w=>
  obtain⟨⟨a,b⟩,w0,w9⟩:=h;show -1000000<=(if t-d<=0 then 0 else w*(t-d))/\(if t-d<=0 then 0 else w*(t-d))<=1000000;split
  .omega
  .have p1:0<=w*(t-d):=Int.mul_nonneg w0 (by omega);have p2:w*(t-d)<=9*(t-d):=Int.mul_le_mul_of_nonneg_right w9 (by omega);omega
 |miss d w=>
  obtain⟨_,w0,w9⟩:=h;show -1000000<=(if t-d<=0 then 0 else w)/\(if t-d<=0 then 0 else w)<=1000000;split<;>omega
 |ends w=>
  obtain⟨w0,w9⟩:=h;show -1000000<=w*t/\w*t<=1000000;by_cases z:0<=t
  .have p1:0<=w*t:=Int.mul_nonneg w0 z;have p2:w*t<=9*t:=Int.mul_le_mul_of_nonneg_right w9 z;omega
  .have p1:0<=w*(-t):=Int.mul_nonneg w0 (by omega);have p2:w*(-t)<=9*(-t):=Int.mul_le_mul_of_nonneg_right w9 (by omega);rw[Int.mul_neg]at p1 p2;omega
 |steps rows=>
  obtain⟨_,l,lo,_,_,h⟩:=h;have:=MW t 5 l h;show -1000000<=Bo t rows 0/\Bo t rows 0<=1000000;omega
theorem Rh{xs:List I}{j:Nat}(h:j<=xs.length):Bm (xs.map D.im) none (some (j:Int))=(xs.take j).map D.im:=by
 unfold Bm;rw[HT.sIx_none,HT.sIx_nat,length_map,min_eq_left h,List.drop_zero,Nat.sub_zero,map_take]
theorem TZ{xs:List I}{j:Nat}(h:j<=xs.length):Bm (xs.map D.im) (some (j:Int)) none=(xs.drop j).map D.im:=by
 unfold Bm;rw[HT.sIx_none,HT.sIx_nat,length_map,min_eq_left h,map_drop];exact take_of_length_le (by simp)
theorem IH{is js:List I}{hd:Hd}{QE:D->Hd->Prop}(h0:is≠[])(h1:is.length+js.length<=100)(q:QE (.im (.tup (is++js))) hd):WP (AW (.im (.tup is)) (.im (.tup js)) hd) QE:=by
 refine WP.eq ?_ q;have cat:Pm (is.map D.im) (js.map D.im):=⟨by simpa using h0,Aq (by simp;omega)⟩
 show(match Gx (.im (.tup is)) (.im (.tup js)) hd with|some z=>some z|none=>FL (.im (.tup is)) (.im (.tup js)) hd)=_;rw[show Gx (.im (.tup is)) (.im (.tup js)) hd=none from rfl];unfold FL;rw[show Ao (.im (.tup is))=some (is.map D.im)from rfl,show Ao (.im (.tup js))=some (js.map D.im)from rfl,bind_some,bind_some,if_pos cat,<- map_append,Ax]
theorem IG{is js:List I}{hd:Hd}{QE:D->Hd->Prop}(h1:is.length+js.length<=100)(q:QE (.im (.tup (is++js))) hd):WP (KI (.im (.tup is)) (.im (.tup js)) hd) QE:=by
 by_cases h0:is=[]
 .subst h0;refine WP.eq (z:=.im (.tup js)) (h:=hd) ?_ q;show(match AW (.im (.tup [])) (.im (.tup js)) hd with|some z=>some z|none=>Ie (.im (.tup [])) (.im (.tup js)) hd)=_;have e:AW (.im (.tup [])) (.im (.tup js)) hd=none:=by
   show(match Gx (.im (.tup [])) (.im (.tup js)) hd with|some z=>some z|none=>FL (.im (.tup [])) (.im (.tup js)) hd)=_;rw[show Gx (.im (.tup [])) (.im (.tup js)) hd=none from rfl];unfold FL;rw[show Ao (.im (.tup []))=some []from rfl,show Ao (.im (.tup js))=some (js.map D.im)from rfl,bind_some,bind_some,if_neg (λz=>z.1 rfl)]
  rw[e];unfold Ie;rw[show Ao (.im (.tup []))=some []from rfl,show Ao (.im (.tup js))=some (js.map D.im)from rfl,bind_some,bind_some,if_pos rfl,Ax]
 .obtain⟨d,x,e,q⟩:=IH (QE:=QE) h0 h1 q;refine⟨d,x,?_,q⟩;show(match AW (.im (.tup is)) (.im (.tup js)) hd with|some z=>some z|none=>Ie (.im (.tup is)) (.im (.tup js)) hd)=_;rw[e]
theorem YT{xs:List I}{j:Nat}{y:I}(hj:j<xs.length)(hl:xs.length<=60):WF Dy [.im (.tup xs),.im (.int (j:Int)),.im y] [] λd x=>d=.im (.tup (xs.set j y)):=by
 unfold Dy;refine Bh rfl ?_;refine BB (AE (AE (HP (A3 rfl (II (EC (A3 rfl ⟨_,rfl,_,rfl,?_,?_⟩)))))))
 .rintro⟨_,q⟩;rw[HT.sIx_nat,length_map]at q;omega
 rw[Rh (by omega),Ax];refine Bi (A5 (A3 rfl (AG ⟨NC,?_⟩)));rw[O7];refine IG (by simp;omega) ?_;refine HP (A3 rfl (EC (AE (A3 rfl (AX (Bb ⟨_,rfl,II ⟨_,rfl,?_,?_⟩⟩))))))
 .rintro⟨q,_⟩;rw[show((j:Int)+1)=((j+1:Nat):Int) by omega,HT.sIx_nat,length_map]at q;omega
 rw[show((j:Int)+1)=((j+1:Nat):Int) by omega,TZ (by omega),Ax];refine IH (by simp) (by simp;omega) ?_;have:xs.take j++[y]++xs.drop (j+1)=xs.set j y:=by
  rw[List.set_eq_take_append_cons_drop,if_pos hj];simp
 rw[this]
def mv(d:Int)(w:Wk):Wk:=⟨w.len,w.com+d,EW d w.cost⟩
def mc(d:Int)(w:Wk):Wk:=⟨w.len,w.com+d,w.cost⟩
section
variable{ws:List Wk}
theorem Ll{k:Nat}{c:Int}(hk:k<ws.length)(n8:ws.length<=8):WF DB [.im (AM ws),.im (.int (k:Int)),.im (.int c)] [] λd x=>d=.im (AM (ws.set k ⟨(ws[k]).len,c,(ws[k]).cost⟩)):=by
 unfold DB;refine Bh rfl ?_;refine BB (Aj (A5 (A3 rfl (A5 (A3 rfl (A5 (Bi (A5 (AE (AE (A3 rfl (A3 rfl (Ai (by rw[DO]) (EB hk) (AX (Ai rfl (CN _ _) ?_)))))))))))))));refine A5 (A3 rfl (A5 (AE (AE (A3 rfl (A3 rfl (Ai (by rw[DO]) (EB hk) (AX (Ai rfl (IB _ _ _ _) (AG ⟨DT,?_⟩))))))))));rw[Eh];refine AG ⟨by simp,(YT (xs:=ws.map AT) (j:=k) (by simpa using hk) (by simp;omega)).mono ?_⟩;rintro d x rfl;refine⟨_,rfl,?_⟩;show D.im (.tup ((ws.map AT).set k (AT ⟨(ws[k]).len,c,(ws[k]).cost⟩)))=_;rw[<- List.map_set]
abbrev Fg(ws:List Wk)(d:Int)(j:Nat):List Wk:=(ws.take j).map (mc d)++ws.drop j
theorem JP(d:Int)(j:Nat):(Fg ws d j).length=ws.length:=by simp;omega
theorem Vs{d:Int}{j:Nat}(hj:j<ws.length):(Fg ws d j)[j]'(by rw[JP];exact hj)=ws[j]:=by
 simp[Fg,List.getElem_append_right,min_eq_left (le_of_lt hj)]
theorem TL{d:Int}{j:Nat}(hj:j<ws.length):(Fg ws d j).set j (mc d ws[j])=Fg ws d (j+1):=by
 unfold Fg;have hl:((ws.take j).map (mc d)).length=j:=by simp;omega
 rw[List.set_append_right _ _ (by omega),hl,Nat.sub_self,drop_eq_getElem_cons hj,set_cons_zero,List.take_succ_eq_append_getElem hj,map_append,append_assoc];rfl
inductive I_mv(ws:List Wk)(d:Int)(r:List D)(ls:Ls)(hd:Hd):Prop
 |mk (j:Nat) (z3:Option D) (h0:r=An (j:Int) (ws.length-j)) (h1:j<=ws.length) (h2:ls=[some (.im (AM ws)),some (.im (.int d)),some (.im (AM (Fg ws d j))),z3,none]) (h3:hd=[]):I_mv ws d r ls hd
theorem Qv(E:Ew ws)(d:Int):WF GY [.im (AM ws),.im (.int d)] [] λr x=>r=.im (AM (ws.map (mv d))):=by
 have n8:=E.n8;have eln:(((ws.map AT).map D.im).length:Int)=(ws.length:Int):=by simp
 unfold GY;refine Bh rfl ?_;refine Aa (B0 (A3 rfl (AK ?_)));refine Aa (F1 (Kc (A5 (Bj (A5 (A3 rfl (AG (DV rfl rfl ?_))))))));rw[eln];refine AG ⟨_,rfl,DD (by omega) (by omega),?_⟩;rw[toNat_natCast];refine Dl (I_mv ws d) ⟨0,none,rfl,by omega,by simp[Fg],rfl⟩ ?_ ?_
 .rintro t r ls hd ⟨j,z3,er,hj,rfl,rfl⟩;obtain⟨hjn,rfl,rfl⟩:=Gi er;refine⟨_,rfl,?_⟩;dsimp only[set_cons_zero,set_cons_succ];have hjh:j<(Fg ws d j).length:=by rw[JP];exact hjn
  refine B0 (Aj (A5 (A3 rfl (A5 (A3 rfl (A5 (AE (AE (AE (A3 rfl (A3 rfl (Ai (by rw[DO]) (EB hjn) (AX (Ai rfl (Ec _ _ _) (A3 rfl (Bb (AG ⟨by simp,(Ll hjh (by rw[JP];exact n8)).mono ?_⟩)))))))))))))))));rintro q x rfl;refine⟨_,rfl,AV _,j+1,some (.im (.int (j:Int))),rfl,by omega,?_,rfl⟩;rw[Vs hjn];have:=TL (d:=d) hjn;unfold mc at this;rw[<- this];rfl
 .rintro ls hd ⟨j,z3,er,hj,rfl,rfl⟩;have:=LM er hj;subst this;refine AK ?_;have eh:Fg ws d ws.length=ws.map (mc d):=by simp[Fg]
  rw[eh];refine Aa (B0 (Cd (BT (Cc (A3 rfl ⟨_,rfl,Aq (by simp;omega),?_⟩)))));rw[show(ws.map AT).map D.im=ws.map λw=>D.im (AT w) by simp];refine Be (λw=>D.im (AT w)) (λw:Wk=>some (.im (BP (EW d w.cost)))) (λ_ ls=>∃x,ls=[some x,some (.im (.int d))]) _ (AV _) ?_ ?_
  .rintro w hw ls hls;refine⟨[some (.im (AT w)),some (.im (.int d))],by rcases hls with rfl|⟨_,x,rfl⟩<;>rfl,⟨_,rfl⟩,Bw ⟨rfl,?_⟩⟩;rw[if_pos rfl];have hco:=(E.ok w hw).co;refine⟨_,rfl,WD (Al (AE (AE (AE (A3 rfl (AX (Ai rfl (IB _ _ _ _) (AX ?_))))))))⟩;have mvw:∀{QE:D->Hd->Prop},(∀v,w.cost≠.ends v)->QE (.im (BP (EW d w.cost))) []->WE (A9 0 Bn (A1 (mOp gIx (A0 0) (mC (.int 2))) (A1 (A0 1) A4))) [some (.im (AT w)),some (.im (.int d))] [] QE:=λhne q=>
    Aj (A5 (AE (A3 rfl (AX (Ai rfl (IB _ _ _ _) (A5 (A3 rfl (AG ⟨by simp,(Va hco hne d).mono (by rintro r x rfl;exact⟨_,rfl,q⟩)⟩))))))))
   cases hc:w.cost with
   |late a=>rw[hc]at mvw;exact Ai rfl (CN _ _) (AX (Cy ⟨_,rfl,(λq=>absurd (of_decide_eq_true q) le1),λ_=>mvw (λv z=>by cases z) ⟨rfl,rfl⟩⟩))
   |tardy a b=>rw[hc]at mvw;exact Ai rfl (CN _ _) (AX (Cy ⟨_,rfl,(λq=>absurd (of_decide_eq_true q) te1),λ_=>mvw (λv z=>by cases z) ⟨rfl,rfl⟩⟩))
   |miss a b=>rw[hc]at mvw;exact Ai rfl (CN _ _) (AX (Cy ⟨_,rfl,(λq=>absurd (of_decide_eq_true q) me1),λ_=>mvw (λv z=>by cases z) ⟨rfl,rfl⟩⟩))
   |ends b=>exact Ai rfl (CN _ _) (AX (Cy ⟨_,rfl,(λ_=>AE (A3 rfl (AX (Ai rfl (IB _ _ _ _) ⟨rfl,by rw[hc];rfl⟩)))),λq=>absurd rfl (of_decide_eq_false q)⟩))
   |steps rows=>rw[hc]at mvw;exact Ai rfl (CN _ _) (AX (Cy ⟨_,rfl,(λq=>absurd (of_decide_eq_true q) se1),λ_=>mvw (λv z=>by cases z) ⟨rfl,rfl⟩⟩))
  refine AK ?_;refine BB (Dm (BT (Kc (A5 (Bj (A5 (A3 rfl (AG (DV rfl rfl ?_)))))))));rw[eln];refine AG ⟨_,rfl,DD (by omega) (by omega),Aq (by simp;omega),?_⟩;rw[toNat_natCast,Gj];refine Be (λk:Nat=>D.im (.int (k:Int))) (λk=>(ws[k]?).map λw=>D.im (AT (mv d w))) (λ_ ls=>∃x,ls=[some x,some (.im (AM (ws.map (mc d)))),some (.mu 0)]) _ (AV _) ?_ ?_
  .rintro k hk ls hls;have hkn:k<ws.length:=by simpa using hk
   have hkm:k<(ws.map (mc d)).length:=by simpa using hkn
   refine⟨[some (.im (.int (k:Int))),some (.im (AM (ws.map (mc d)))),some (.mu 0)],by rcases hls with rfl|⟨_,x,rfl⟩<;>rfl,⟨_,rfl⟩,Bw ⟨rfl,?_⟩⟩;rw[if_pos rfl];refine⟨D.im (AT (mv d ws[k])),by simp[hkn],Bi (A5 (AE (AE (A3 rfl (A3 rfl (Ai (by rw[DO]) (EB hkm) (AX (Ai rfl (CN _ _) ?_))))))))⟩;refine A5 (AE (AE (A3 rfl (A3 rfl (Ai (by rw[DO]) (EB hkm) (AX (Ai rfl (Ec _ _ _) ?_)))))));refine A5 (AE (A3 rfl (A3 rfl (Ai (e:=.im (BP (EW d (ws[k]).cost))) rfl (Fj rfl (by simp[hkn])) (AG ⟨DT,rfl,?_⟩)))));rw[Eh];simp[mv,mc,AT]
  have e:((List.range ws.length).filterMap λk=>(ws[k]?).map λw=>D.im (AT (mv d w)))=((ws.map (mv d)).map AT).map D.im:=by
   refine ext_getElem? λi=>?_;have:∀(n:Nat),n<=ws.length->((List.range n).filterMap λk=>(ws[k]?).map λw=>D.im (AT (mv d w)))=((ws.take n).map λw=>D.im (AT (mv d w))):=by
    intro n
    induction n with
    |zero=>intro _;rfl
    |succ m ih=>
     intro hm;rw[List.range_succ,List.filterMap_append,ih (by omega),List.take_succ_eq_append_getElem (by omega:m<ws.length),map_append]
     congr 1
     simp[show m<ws.length by omega]
   rw[this _ (le_refl _),List.take_length];simp;rfl
  rw[e];exact⟨_,rfl,by rw[Ax]⟩
end
local macro_rules | `(tactic| sizeOf_list_dec) => `(tactic| first | (with_reducible refine AK ?_; try dsimp only [set_cons_zero, set_cons_succ, map_cons, map_nil, cons_append, nil_append, List.replicate, Nat.reduceSub, Int.reduceToNat]) | with_reducible refine S5 ?_ | with_reducible refine Aa ?_ | with_reducible refine B0 ?_ | with_reducible refine BB ?_ | with_reducible refine Ka ?_ | with_reducible refine BC ?_ | with_reducible refine BD ?_ | with_reducible refine W6 ?_ | with_reducible refine Nl ?_ | with_reducible refine F1 ?_ | with_reducible refine A3 (d := _) rfl ?_ | with_reducible refine AX ?_ | with_reducible refine AE ?_ | with_reducible refine Bi ?_ | with_reducible refine Cd ?_ | with_reducible refine Dm ?_ | with_reducible refine Q6 ?_ | with_reducible refine Bj ?_ | with_reducible refine Oa ?_ | with_reducible refine J0 ?_ | with_reducible refine UL ?_ | with_reducible refine Al ?_ | with_reducible refine Dk ?_ | with_reducible refine HM ?_ | with_reducible refine IF ?_ | with_reducible refine Bw ?_ | with_reducible refine AG ?_ | with_reducible refine A5 ?_ | with_reducible refine GD ?_ | with_reducible refine BT ?_ | with_reducible refine Kc ?_ | with_reducible refine YD ?_ | with_reducible refine Cc ?_ | with_reducible refine Z3 ?_ | with_reducible refine Kd ?_ | with_reducible refine Bb ?_ | with_reducible refine F2 ?_ | with_reducible refine Lr ?_ | with_reducible refine JW ?_ | with_reducible refine Lu ?_ | with_reducible refine Tk ?_ | with_reducible refine GC ?_ | with_reducible refine W7 ?_ | with_reducible refine Cy ?_ | with_reducible refine GB ?_ | with_reducible refine UH ?_ | with_reducible refine UG ?_ | with_reducible refine ⟨_, rfl, ?_⟩ | refine Ai rfl (CN _ _) ?_ | refine Ai rfl (Ec _ _ _) ?_ | refine Ai rfl (IB _ _ _ _) ?_ | refine ⟨_, _, _, _, rfl, rfl, rfl, rfl, ?_⟩ | refine ⟨⟨_, rfl⟩, ?_⟩ | refine ⟨Dv, ?_⟩ | refine ⟨DT, ?_⟩ | refine ⟨KJ, ?_⟩ | refine ⟨Xn, ?_⟩ | refine ⟨ND, ?_⟩ | refine ⟨NC, ?_⟩ | with_reducible refine DM ?_)
def Pw(ps:List (Int×Int))(ks:List Nat):Prop:=∀(a b j:Nat),((a:Int),(b:Int))∈ps->ks[j]?=some b->∃i,i<j/\ks[i]?=some a
abbrev cs(L:List Nat):List Int:=L.map λk:Nat=>(k:Int)
theorem Rj(L:List Nat)(x:Nat):((x:Int)∈cs L)↔x∈L:=by
 constructor
 .intro h;obtain⟨k,hk,e⟩:=mem_map.mp h;have:k=x:=by omega
  rw[<- this];exact hk
 .intro h;exact mem_map.mpr ⟨x,h,rfl⟩
theorem Ta(L:List Nat):Am L=intD (cs L):=by simp[Am,intD,cs]
theorem NJ(x:Nat):∀L:List Nat,(cs L).eraseIdx ((cs L).idxOf (x:Int))=cs (L.erase x)
 |[]=>rfl
 |y::r=>by
  simp only[cs,map_cons];rw[List.idxOf_cons];by_cases h:y=x
  .subst h;simp
  .have h1:((y:Int)==(x:Int))=false:=by simp;omega
   have h2:(y==x)=false:=by simpa using h
   rw[h1,List.erase_cons,h2];simp only[cond_false,List.eraseIdx_cons_succ,Bool.false_eq_true,if_false,map_cons];have:=NJ x r;simp only[cs]at this;rw[this]
def EZ(ps:List (Int×Int))(L:List Nat)(b:Nat):List Int:=ps.filterMap λp=>if p.2=(b:Int)/\p.1∈cs L then some p.1 else none
theorem inWay_nil{ps:List (Int×Int)}{L:List Nat}{b:Nat}:EZ ps L b=[]↔∀a:Nat,((a:Int),(b:Int))∈ps->a∉L:=by
 constructor
 .intro h a ha hm;have:(a:Int)∈EZ ps L b:=by
   unfold EZ;refine mem_filterMap.mpr ⟨_,ha,?_⟩;rw[if_pos ⟨rfl,(Rj L a).mpr hm⟩]
  rw[h]at this;simp at this
 .intro h;refine List.eq_nil_iff_forall_not_mem.mpr λy hy=>?_;unfold EZ at hy;obtain⟨p,hp,e⟩:=mem_filterMap.mp hy;split at e
  .next c=>
   obtain⟨k,hk,e2⟩:=mem_map.mp c.2;refine h k ?_ hk;rw[show((k:Int),(b:Int))=p from by rw[<- c.1];exact Prod.ext e2 rfl];exact hp
  .cases e
theorem VT{n:Nat}(hn:n<=8){seq:List Nat}{ps:List (Int×Int)}(hs:seq.Perm (List.range n))(al:Along seq ps)(hl:ps.length<=16):∀a b,T 0 a b->WF GX [.mu 1,.im (.int (n:Int)),.im (wI ps)] [a,b] λd x=>∃i a' b' g,d=.im i/\(∃ks,i=De ks/\ks.Perm (List.range n)/\Pw ps ks)/\T 0 a' b'/\x=a'::b'::g:=by
 intro a b hT;unfold GX;refine Bh rfl ?_
 repeat sizeOf_list_dec
 refine UM (k:=(n:Int)) (by simp) (Mi (by omega) (by omega)) ?_;rw[toNat_natCast,Gj]
 repeat sizeOf_list_dec
 refine⟨DD (by omega) (by omega),?_⟩;refine Dl (λr ls hd=>∃(F L:List Nat) (j:Nat) (a b:MO) (z5 z6 z7:Option D),r=An (j:Int) (n-j)/\F.length=j/\(F++L).Perm (List.range n)/\Pw ps F/\ls=[some (.mu 1),some (.im (.int (n:Int))),some (.im (wI ps)),some (.mu 2),some (.mu 3),z5,z6,z7]/\hd=[a,b,.lst (Am L),.lst (Am F)]/\T 0 a b) ?_ ?_ ?_
 .exact⟨[],List.range n,0,a,b,none,none,none,by simp,rfl,by simp,λa b j _ h=>by simp at h,rfl,rfl,hT⟩
 .rintro d r ls hd ⟨F,L,j,a,b,z5,z6,z7,er,hF,pm,rs,rfl,rfl,hT⟩;obtain⟨m,hm⟩:∃m,n-j=m+1:=by
   cases q:n-j with
   |zero=>rw[q]at er;cases er
   |succ m=>exact⟨m,rfl⟩
  rw[hm,An]at er;obtain⟨rfl,rfl⟩:=List.cons.inj er;have ej:((j:Int)+1)=((j+1:Nat):Int):=by omega
  have em:m=n-(j+1):=by omega
  have pl:=pm.length_eq;simp only[length_append,length_range]at pl;have Ln:L≠[]:=by intro h;rw[h]at pl;simp at pl;omega
  refine⟨_,rfl,?_⟩;dsimp only[set_cons_zero,set_cons_succ];refine GZ ?_
  repeat sizeOf_list_dec
  refine⟨_,_,rfl,rfl,Aq (by simp;omega),?_⟩;refine Be (λk:Nat=>D.im (.int (k:Int))) (λx=>if EZ ps L x=[]then some (.im (.int (x:Int)))else none) (λ_ ls=>∃x,ls=[some x,some (.im (wI ps)),some (.mu 2)]) _ (by intro p hp;simp at hp;subst hp;rfl) ?_ ?_
  .rintro x hx ls hls;refine⟨[some (.im (.int (x:Int))),some (.im (wI ps)),some (.mu 2)],by rcases hls with rfl|⟨_,x,rfl⟩<;>rfl,⟨_,rfl⟩,?_⟩;refine Al (MH ?_)
   repeat sizeOf_list_dec
   refine⟨Aq (by simp;omega),?_⟩;rw[Rw.pairs_im];refine Be (λp:Int×Int=>Aw p) (λp=>if p.2=(x:Int)/\p.1∈cs L then some (.im (.int p.1))else none) (λ_ ls=>∃x1 x2,ls=[some x1,some x2,some (.im (.int (x:Int))),some (.mu 2)]) _ (AV _) ?_ ?_
   .rintro p hp ls hls;refine⟨[some (.im (.int p.1)),some (.im (.int p.2)),some (.im (.int (x:Int))),some (.mu 2)],by rcases hls with rfl|⟨_,x,y,rfl⟩<;>rfl,⟨_,_,rfl⟩,?_⟩
    repeat sizeOf_list_dec
    by_cases h1:p.2=(x:Int)
    .rw[if_pos (by simpa using h1)]
     repeat sizeOf_list_dec
     refine W9 (xs:=cs L) (by rw[Tl,M3,<- Ta];rfl) ?_
     repeat sizeOf_list_dec
     refine⟨rfl,?_⟩;by_cases h2:p.1∈cs L
     .rw[if_pos (by simpa using h2)];exact⟨_,if_pos ⟨h1,h2⟩,A3 rfl ⟨rfl,rfl⟩⟩
     .rw[if_neg (by simpa using h2)];exact if_neg λh=>h2 h.2
    .rw[if_neg (by simpa using h1)];refine⟨rfl,?_⟩;rw[if_neg Bool.false_ne_true];exact if_neg λh=>h1 h.1
   have e1:(ps.filterMap λp=>if p.2=(x:Int)/\p.1∈cs L then some (D.im (.int p.1))else none)=intD (EZ ps L x):=by
    unfold EZ intD;rw[List.map_filterMap]
    congr 1
    funext p
    split<;>rfl
   rw[e1];refine⟨_,rfl,_,rfl,rfl,?_⟩;by_cases h:EZ ps L x=[]
   .rw[if_pos (by simpa using h)];exact⟨_,if_pos h,A3 rfl ⟨rfl,rfl⟩⟩
   .rw[if_neg (by simpa using h)];exact if_neg h
  rw[Xo (λx=>EZ ps L x=[])];obtain⟨C,hC⟩:∃C,C=L.filter λa=>decide (EZ ps L a=[]):=⟨_,rfl⟩
  rw[<- hC];have Cn:C≠[]:=by
   obtain⟨x,jx,hx,ex,mx⟩:=JL (seq:=seq) (L:=L) (λx hx=>hs.mem_iff.mpr (pm.mem_iff.mp (mem_append_right _ hx))) Ln;have:x∈C:=by
    rw[hC,mem_filter];refine⟨hx,?_⟩;simp only[decide_eq_true_eq];refine inWay_nil.mpr λa ha hm=>?_;obtain⟨i',j',a',b',hij,ea,eb,e⟩:=al _ ha;have ea':a=a':=by have:=congrArg Prod.fst e;simp at this;omega
    have eb':x=b':=by have:=congrArg Prod.snd e;simp at this;omega
    subst ea' eb';have h1:=mx a i' hm ea;have nd:seq.Nodup:=hs.nodup_iff.mpr nodup_range;have h2:jx=j':=by
     have l1:=(List.getElem?_eq_some_iff.mp ex).1;exact(List.getElem?_inj l1 nd).mp (by rw[ex,eb])
    omega
   intro h;rw[h]at this;simp at this
  have Cl:0<C.length:=List.length_pos_iff.mpr Cn;have Cl2:C.length<=L.length:=by rw[hC];exact List.length_filter_le _ _
  repeat sizeOf_list_dec
  refine tap.draw (n:=0) (many:=(C.length:Int)) (rest:=[.lst (Am L),.lst (Am F),.lst (Am C)]) hT (by simp[C1]) (by omega) (by omega) λr1 a b hT pr1 qr1=>?_;obtain⟨u,hu⟩:∃u:Nat,r1=(u:Int):=⟨r1.toNat,by omega⟩
  subst hu;have hu:u<C.length:=by omega
  refine Ai (ds:=Am C) rfl (Fj rfl (x:=.im (.int (C[u]:Int))) (by simp[Am,hu])) ?_;generalize hx:C[u]=x;have hxC:x∈C:=hx ▸ List.getElem_mem hu;have hxL:x∈L:=by rw[hC]at hxC;exact(mem_filter.mp hxC).1
  have hxW:EZ ps L x=[]:=by rw[hC]at hxC;simpa using (mem_filter.mp hxC).2
  repeat sizeOf_list_dec
  refine Pz (ns:=cs L) (by rw[show(cs L).map (λx=>D.im (.int x))=Am L from(Ta L).symm];rfl) ((Rj L x).mpr hxL) ?_;rw[NJ,show(cs (L.erase x)).map (λx=>D.im (.int x))=Am (L.erase x)from(Ta _).symm]
  repeat sizeOf_list_dec
  refine JX (ds:=Am F) rfl (Ca (by simp;omega)) ?_;have ca:=tap.cl hT;refine⟨?_,_,rfl,AV _,F++[x],L.erase x,j+1,a,b,_,_,_,by rw[ej,em],by simp[hF],?_,?_,rfl,?_,hT⟩
  .have c1:=Cv (show 2<=4 by omega) ca.1;have c2:=Cv (show 2<=4 by omega) ca.2;have c3:=Il 4 (L.erase x);have c4:B7 4 (Am F++[D.im (.int (x:Int))])=true:=by have:=Il 4 (F++[x]);simpa [Am]using this
   show(clO 4 a&&(clO 4 b&&(B7 4 (Am (L.erase x))&&(B7 4 (Am F++[D.im (.int (x:Int))])&&true))))=true;rw[c1,c2,c3,c4];rfl
  .have:=(List.perm_cons_erase hxL).symm;rw[append_assoc];exact((List.Perm.refl F).append this).trans pm
  .intro p q k hp hk;by_cases hkF:k<F.length
   .rw[List.getElem?_append_left hkF]at hk;obtain⟨i,hi,e⟩:=rs p q k hp hk;exact⟨i,hi,by rw[List.getElem?_append_left (by omega)];exact e⟩
   .have hk':k=F.length:=by
     have:=(List.getElem?_eq_some_iff.mp hk).1;simp at this;omega
    subst hk';rw[List.getElem?_append_right (by omega)]at hk;simp at hk;subst hk;have nL:=inWay_nil.mp hxW p hp;obtain⟨i',j',a',b',hij,ea,eb,e⟩:=al _ hp;have ea':p=a':=by have:=congrArg Prod.fst e;simp at this;omega
    subst ea';have pin:p∈F++L:=pm.mem_iff.mpr (hs.mem_iff.mp (mem_of_getElem? ea));have pF:p∈F:=by
     rcases mem_append.mp pin with h|h
     .exact h
     .exact absurd h nL
    obtain⟨i,hi,e⟩:=List.mem_iff_getElem.mp pF;exact⟨i,hi,by rw[List.getElem?_append_left hi,List.getElem?_eq_getElem hi,e]⟩
  .simp[Am]
 .rintro ls hd ⟨F,L,j,a,b,z5,z6,z7,er,hF,pm,rs,rfl,rfl,hT⟩;have hj:n-j=0:=by
   cases q:n-j with
   |zero=>rfl
   |succ m=>rw[q]at er;cases er
  have pl:=pm.length_eq;simp only[length_append,length_range]at pl;have hL:L=[]:=length_eq_zero_iff.mp (by omega);subst hL;simp only[append_nil]at pm
  repeat sizeOf_list_dec
  refine DV rfl rfl ?_;rw[O5];exact⟨_,a,b,_,rfl,⟨F,rfl,pm,rs⟩,hT,rfl⟩
abbrev sp(d:Int)(p:Pl.Pc):Pl.Pc:=(p.1,p.2.1+d,p.2.2+d)
abbrev sft(d:Int)(P:List Pl.Pc):List Pl.Pc:=P.map (sp d)
theorem IZ{P:List Pl.Pc}(d:Int)(hl:P.length<=62):WF Di [.im (.tup (P.map AL)),.im (.int d)] [] λr x=>r=.im (.tup ((sft d P).map AL)):=by
 unfold Di;refine Bh rfl ?_;refine BB (Dm (BT (Cc (A3 rfl ⟨_,rfl,Aq (by simp;omega),?_⟩))));rw[M2];refine Be (λp=>D.im (AL p)) (λp=>some (D.im (AL (sp d p)))) (λ_ ls=>∃x y z,ls=[some x,some y,some z,some (.im (.int d))]) _ (AV _) ?_ ?_
 .rintro⟨k,b,e⟩ hp ls hls;refine⟨[some (.im (.int (k:Int))),some (.im (.int b)),some (.im (.int e)),some (.im (.int d))],by rcases hls with rfl|⟨_,x,y,z,rfl⟩<;>rfl,⟨_,_,_,rfl⟩,Bw ⟨rfl,?_⟩⟩;rw[if_pos rfl];exact⟨_,rfl,Bi (A5 (A3 rfl (A5 (AE (A3 rfl (A3 rfl (Bb (A5 (AE (A3 rfl (A3 rfl (Bb (AG ⟨DT,rfl,rfl⟩)))))))))))))⟩
 have e:(P.filterMap λp=>some (D.im (AL (sp d p))))=((sft d P).map AL).map D.im:=by simp[sft]
 rw[e];exact⟨_,rfl,by rw[Ax]⟩
theorem Ra(d:Int)(k:Nat):∀P:List Pl.Pc,Pl.dn (sft d P) k=Pl.dn P k
 |[]=>rfl
 |p::r=>by
  show(if p.1=k then(p.2.2+d)-(p.2.1+d)else 0)+Pl.dn (sft d r) k=_;rw[Ra d k r,Pl.dn];split<;>omega
theorem N3(d:Int)(k:Nat):∀(P:List Pl.Pc) (v:Int),Pl.last (sft d P) k (v+d)=Pl.last P k v+d
 |[],v=>rfl
 |p::r,v=>by
  show Pl.last (sft d r) k (if p.1=k then p.2.2+d else v+d)=Pl.last r k (if p.1=k then p.2.2 else v)+d;rw[<- N3 d k r]
  congr 1
  split<;>rfl
theorem N4{k:Nat}:∀{P:List Pl.Pc},(∃p∈P,p.1=k)->∀v w:Int,Pl.last P k v=Pl.last P k w
 |[],h,_,_=>by obtain⟨p,hp,_⟩:=h;cases hp
 |p::r,h,v,w=>by
  show Pl.last r k (if p.1=k then p.2.2 else v)=Pl.last r k (if p.1=k then p.2.2 else w);by_cases e:p.1=k
  .rw[if_pos e,if_pos e]
  .rw[if_neg e,if_neg e];refine N4 ?_ v w;obtain⟨q,hq,eq⟩:=h;rcases mem_cons.mp hq with rfl|hq
   .exact absurd eq e
   .exact⟨q,hq,eq⟩
theorem UA{d:Int}{k:Nat}{P:List Pl.Pc}(h:∃p∈P,p.1=k):Pl.E (sft d P) k=Pl.E P k+d:=by
 show Pl.last (sft d P) k 0=Pl.last P k 0+d;rw[<- N3];refine N4 ?_ _ _;obtain⟨p,hp,e⟩:=h;exact⟨sp d p,mem_map.mpr ⟨p,hp,rfl⟩,e⟩
theorem Rb{k:Nat}:∀{P:List Pl.Pc},Pl.dn P k≠0->∃p∈P,p.1=k
 |[],h=>absurd rfl h
 |p::r,h=>by
  by_cases e:p.1=k
  .exact⟨p,by simp,e⟩
  .rw[Pl.dn,if_neg e,Int.zero_add]at h;obtain⟨q,hq,eq⟩:=Rb h;exact⟨q,by simp[hq],eq⟩
section
variable{ws:List Wk}
theorem M8{d:Int}{k:Nat}(hk:k<ws.length):cm (ws.map (mv d)) k=cm ws k+d:=by simp[cm,hk,mv]
theorem PD(d:Int)(k:Nat):ln (ws.map (mv d)) k=ln ws k:=by
 unfold ln;rw[List.getElem?_map];cases ws[k]?<;>rfl
theorem Nk(d:Int)(P:List Pl.Pc):Fk (sft d P)↔Fk P:=by
 unfold Fk;rw[show(sft d P).tail=sft d P.tail by simp[sft],show(sft d P).zip (sft d P.tail)=(P.zip P.tail).map (Prod.map (sp d) (sp d))from(List.zip_map ..)];constructor
 .intro h x hx;have:x.1.2.2+d<=x.2.2.1+d:=h _ (mem_map.mpr ⟨x,hx,rfl⟩);omega
 .intro h x hx;obtain⟨y,hy,rfl⟩:=mem_map.mp hx;have:=h y hy;show y.1.2.2+d<=y.2.2.1+d;omega
theorem N6{d:Int}{W:List (Int×Int)}{P:List Pl.Pc}{n:Nat}(hW:Wsh n W)(hh:∀k,k<n->∃p∈P,p.1=k):NX W (sft d P)↔NX W P:=by
 unfold NX;have ee:∀q∈W,Pl.E (sft d P) q.1.toNat=Pl.E P q.1.toNat+d:=λq hq=>by
  obtain⟨a,b,rfl,ha,_⟩:=hW.nats q hq;exact UA (hh _ (by simpa using ha))
 constructor
 .intro h q hq p hp e;have:=h q hq (sp d p) (mem_map.mpr ⟨p,hp,rfl⟩) e;rw[ee q hq]at this;have:Pl.E P q.1.toNat+d<=p.2.1+d:=this;omega
 .intro h q hq p hp e;obtain⟨p',hp',rfl⟩:=mem_map.mp hp;have:=h q hq p' hp' e;rw[ee q hq];show _<=p'.2.1+d;omega
theorem TF(E:Ew ws){d:Int}{W:List (Int×Int)}(hW:Wsh ws.length W){P:List Pl.Pc}(hP:∀p∈P,p.1<ws.length):IsPl (ws.map (mv d)) W (sft d P)↔IsPl ws W P:=by
 have hd:(∀k,k<(ws.map (mv d)).length->Pl.dn (sft d P) k=ln (ws.map (mv d)) k)↔∀k,k<ws.length->Pl.dn P k=ln ws k:=by
  simp only[Ra,PD,length_map]
 have hh:(∀k,k<ws.length->Pl.dn P k=ln ws k)->∀k,k<ws.length->∃p∈P,p.1=k:=λh k hk=>Rb (by rw[h k hk];have:=E.l1 hk;omega);have hpc:(∀p∈sft d P,Fz (ws.map (mv d)) p)↔∀p∈P,Fz ws p:=by
  constructor
  .intro h p hp;obtain⟨h1,h2⟩:=h (sp d p) (mem_map.mpr ⟨p,hp,rfl⟩);rw[M8 (hP p hp)]at h1;exact⟨by have:cm ws p.1+d<=p.2.1+d:=h1;omega,by have:p.2.1+d<p.2.2+d:=h2;omega⟩
  .intro h q hq;obtain⟨p,hp,rfl⟩:=mem_map.mp hq;obtain⟨h1,h2⟩:=h p hp;refine⟨?_,by show p.2.1+d<p.2.2+d;omega⟩;rw[M8 (hP p hp)];show cm ws p.1+d<=p.2.1+d;omega
 constructor
 .rintro⟨h1,h2,h3,h4⟩;exact⟨hpc.mp h1,(Nk d P).mp h2,hd.mp h3,(N6 hW (hh (hd.mp h3))).mp h4⟩
 .rintro⟨h1,h2,h3,h4⟩;exact⟨hpc.mpr h1,(Nk d P).mpr h2,hd.mpr h3,(N6 hW (hh h3)).mpr h4⟩
theorem QM{d:Int}:∀{o:List Nat} {t:Int},(∀k∈o,k<ws.length)->BQ (ws.map (mv d)) o (t+d)=sft d (BQ ws o t)
 |[],t,_=>rfl
 |k::r,t,h=>by
  have hk:=h k (by simp);rw[Cj hk,Cj (by simpa using hk),M8 hk,PD];have e1:max (t+d) (cm ws k+d)=max t (cm ws k)+d:=by omega
  rw[e1,show max t (cm ws k)+d+ln ws k=max t (cm ws k)+ln ws k+d by omega,QM λj hj=>h j (by simp[hj])];rfl
theorem YK{d:Int}{o:List Nat}(h:∀k∈o,k<ws.length)(hc:∀k∈o,0<=cm ws k/\0<=cm ws k+d):BQ (ws.map (mv d)) o 0=sft d (BQ ws o 0):=by
 rw[<- QM h];cases o with
 |nil=>rfl
 |cons k r=>
  have hk:=h k (by simp);have:=hc k (by simp);rw[Cj (by simpa using hk),Cj (by simpa using hk),M8 hk,PD];rw[show max 0 (cm ws k+d)=max (0+d) (cm ws k+d) by omega]
theorem Na{f g:Nat->Int}{o o':List Nat}(pm:o.Perm o')(h1:o.Pairwise λi j=>f i<f j)(h2:o'.Pairwise λi j=>g i<g j)(e:∀i∈o,∀j∈o,f i<f j->g i<g j):o=o':=by
 have h3:o.Pairwise λi j=>g i<g j:=h1.imp_of_mem λ{i j} hi hj q=>e i hi j hj q
 exact List.Perm.eq_of_pairwise (λa b _ _ q1 q2=>by omega) h3 h2 pm
end
theorem QC{a b:MO}{rest:Hd}{ls:Ls}{m:MA}{QE:D->Hd->Prop}(hT:T 0 a b){F:List D->Hd->Option (D×Hd)}{as:List D}{hd:Hd}{R:List D->Prop}(e:m ls hd=some (.mu 1::as,a::b::rest))(ha:B7 2 as=true)
 (hF:∀a b,T 0 a b->WF F (.mu 1::as) [a,b] λd x=>∃k es a' b' g,d=.mu k/\2<=k/\x=a'::b'::g/\x[k]?=some (.lst es)/\B7 2 es=true/\T 0 a' b'/\R es)
 (q:∀es a' b',T 0 a' b'->R es->QE (.mu (2+rest.length)) (a'::b'::rest++[.lst es])):WE (A9 2 F m) ls hd QE:=by
 obtain⟨d,x,e2,k,es,a',b',g,rfl,hk,rfl,e3,c3,hT',hR⟩:=hF a b hT;refine⟨_,_,?_,q es a' b' hT' hR⟩;have t3:¬ k<2:=by omega
 have h1:=tap.cl hT;have h2:=tap.cl hT';simp[A9,e,ha,h1,e2,fin,h2,t3,e3,c3]
theorem W1{xs:List I}{j:Nat}(h:j<=xs.length):Bm (xs.map D.im) (some (j:Int)) (some ((j:Int)+2))=((xs.drop j).take 2).map D.im:=by
 unfold Bm;rw[show((j:Int)+2)=((j+2:Nat):Int) by omega,HT.sIx_nat,HT.sIx_nat,length_map,min_eq_left h,map_take,map_drop];have hl:((xs.map D.im).drop j).length=xs.length-j:=by simp
 by_cases c:j+2<=xs.length
 .rw[min_eq_left c,show j+2-j=2 by omega]
 .rw[Nat.min_eq_right (by omega),take_of_length_le (by omega),take_of_length_le (by omega)]
theorem WG{ma mb:ME}{ls:Ls}{hd:Hd}{QA:List D->Hd->Prop}(h:WE ma ls hd λd x=>WE mb ls x λe y=>∃i j xs ys,d=.mu i/\e=.mu j/\y[i]?=some (.lst xs)/\y[j]?=some (.lst ys)/\CM (xs.length+ys.length)/\QA (xs++ys) y):WA (N2 ma mb) ls hd QA:=by
 obtain⟨d,x,e1,e,y,e2,i,j,xs,ys,rfl,rfl,e3,e4,c,q⟩:=h;exact⟨_,_,by simp only[N2,e1,bind_some,e2,e3,e4,c,if_true],q⟩
abbrev plD(Q:List Pl.Pc):D:=.im (.tup (Q.map AL))
theorem Yt(w:Nat)(L:List (List Pl.Pc)):B7 w (L.map plD)=true:=GV w (λQ:List Pl.Pc=>I.tup (Q.map AL)) L
def Y9(n:Nat)(es:List D):Prop:=∃Ps:List (List Pl.Pc),es=Ps.map plD/\Ps.length<=8/\∀Q∈Ps,Q.length<=62/\∀p∈Q,p.1<n
set_option maxHeartbeats 1000000 in
theorem XY{n:Nat}{P:List Pl.Pc}(hne:P≠[])(hl:P.length<=60)(hP:∀p∈P,p.1<n):∀a b,T 0 a b->WF IE [.mu 1,plD P] [a,b] λd x=>∃k es a' b' g,d=.mu k/\2<=k/\x=a'::b'::g/\x[k]?=some (.lst es)/\B7 2 es=true/\T 0 a' b'/\Y9 n es:=by
 intro a b hT;have l0:0<P.length:=List.length_pos_iff.mpr hne;unfold IE;refine Bh rfl ?_;refine Aa (B0 (tap.draw (n:=0) (many:=(P.length:Int)) (rest:=[]) hT (by simp[C1]) (by omega) (by omega) λr a b hT pr qr=>AK ?_));obtain⟨u,rfl⟩:∃u:Nat,r=(u:Int):=⟨r.toNat,by omega⟩
 have hu:u<P.length:=by omega
 have hum:u<(P.map AL).length:=by simpa using hu
 obtain⟨k,s,e,hp⟩:∃k s e,P[u]=(k,s,e):=⟨_,_,_,rfl⟩
 have hk:k<n:=by have:=hP P[u] (List.getElem_mem hu);rw[hp]at this;exact this
 refine Aa (JV (AE (A3 rfl (A3 rfl (Ai (ds:=(P.map AL).map D.im) (e:=.im (AL (k,s,e))) rfl (Fj rfl (by simp[hu,hp])) ⟨_,rfl,AK ?_⟩)))));refine Aa (B0 (Cd (GD (A5 (Bi (A5 (A3 rfl (A5 (AE (A3 rfl (AX (F2 (A5 (AE (A3 rfl (AX (F2 (AG ⟨DT,?_⟩))))))))))))))))));refine A5 (Bi (A5 (A3 rfl (A5 (AE (A3 rfl (AX (Bb (A5 (AE (A3 rfl (AX (Bb (AG ⟨DT,?_⟩))))))))))))));refine A5 (Bi (A5 (A3 rfl (A5 (A3 rfl (A5 (AE (A3 rfl (AX (Bb (AG ⟨DT,?_⟩)))))))))));refine A5 (Bi (A5 (A3 rfl (A5 (AE (A3 rfl (AX (Bb (A5 (A3 rfl (AG ⟨DT,AG ⟨KJ,AK ?_⟩⟩)))))))))));rw[Eh,Eh,Eh,Eh];change WS _ [some (.mu 1),some (plD P),some (.im (.int (u:Int))),some (.im (.int (k:Int))),some (.im (.int s)),some (.im (.int e)),some (.mu 2),none] [a,b,.lst ([(k,s-1,e-1),(k,s+1,e+1),(k,s,e+1),(k,s+1,e)].map λp:Pl.Pc=>D.im (AL p))] _;have h4:∀p∈([(k,s-1,e-1),(k,s+1,e+1),(k,s,e+1),(k,s+1,e)]:List Pl.Pc),p.1<n:=by simp[hk]
 have l4:([(k,s-1,e-1),(k,s+1,e+1),(k,s,e+1),(k,s+1,e)]:List Pl.Pc).length=4:=rfl;generalize ([(k,s-1,e-1),(k,s+1,e+1),(k,s,e+1),(k,s+1,e)]:List Pl.Pc)=F4 at h4 l4;have sl1:∀{ls:Ls} {i j:Nat} {hd:Hd} {QE:D->Hd->Prop},ls[i]?=some (some (plD P))->ls[j]?=some (some (.im (.int (u:Int))))->QE (plD (P.take u)) hd->WE (E8 (A0 i) BU (Bu (A0 j))) ls hd QE:=λ{ls i j hd QE} e1 e2 q=>by
  refine HP (A3 e1 (II (EC (A3 e2 ⟨_,rfl,_,rfl,?_,?_⟩))))
  .rintro⟨_,z⟩;rw[HT.sIx_nat,length_map]at z;omega
  rw[Rh (by omega),Ax,<- map_take];exact q
 have sl2:∀(c:Nat) {ls:Ls} {i j:Nat} {hd:Hd} {QE:D->Hd->Prop},1<=c->ls[i]?=some (some (plD P))->ls[j]?=some (some (.im (.int (u:Int))))->QE (plD (P.drop (u+c))) hd->WE (E8 (A0 i) (Bu (mOp AW (A0 j) (mC (.int (c:Int))))) BU) ls hd QE:=λc {ls i j hd QE} hc e1 e2 q=>by
  refine HP (A3 e1 (EC (AE (A3 e2 (AX (Bb ⟨_,rfl,II ⟨_,rfl,?_,?_⟩⟩))))))
  .rintro⟨z,_⟩;rw[show((u:Int)+(c:Int))=((u+c:Nat):Int) by omega,HT.sIx_nat,length_map]at z;omega
  have:Bm ((P.map AL).map D.im) (some ((u:Int)+(c:Int))) none=((P.drop (u+c)).map AL).map D.im:=by
   rw[show((u:Int)+(c:Int))=((u+c:Nat):Int) by omega];unfold Bm;rw[HT.sIx_none,HT.sIx_nat,length_map,length_map,map_drop,map_drop];by_cases z:u+c<=P.length
   .rw[min_eq_left z];exact take_of_length_le (by simp)
   .rw[Nat.min_eq_right (by omega),List.drop_of_length_le (by simp),List.drop_of_length_le (by simp;omega),List.take_nil]
  rw[this,Ax];exact q
 refine Aa (B0 (Cd (BT (Kd (A3 rfl ⟨2,_,rfl,rfl,Aq (by simp;omega),?_⟩)))));refine Be (λp:Pl.Pc=>D.im (AL p)) (λp=>some (plD (P.take u++[p]++P.drop (u+1)))) (λ_ ls=>∃x,ls=[some x,some (plD P),some (.im (.int (u:Int)))]) _ (by intro q hq;rw[mem_singleton]at hq;subst hq;rfl) ?_ ?_
 .rintro p hp' ls hls;refine⟨[some (.im (AL p)),some (plD P),some (.im (.int (u:Int)))],by rcases hls with rfl|⟨_,x,rfl⟩<;>rfl,⟨_,rfl⟩,Bw ⟨rfl,?_⟩⟩;rw[if_pos rfl];refine⟨_,rfl,AE (AE (sl1 rfl rfl (Bi (A5 (A3 rfl (AG ⟨NC,?_⟩))))))⟩;rw[O7];refine IG (by simp;omega) (sl2 1 (by omega) rfl rfl (IH (by simp) (by simp;omega) ⟨rfl,?_⟩));simp[plD]
 have e4:(F4.filterMap λp=>some (plD (P.take u++[p]++P.drop (u+1))))=(F4.map λp=>P.take u++[p]++P.drop (u+1)).map plD:=by simp
 rw[e4];refine AK ?_;change WS _ [some (.mu 1),some (plD P),some (.im (.int (u:Int))),some (.im (.int (k:Int))),some (.im (.int s)),some (.im (.int e)),some (.mu 2),some (.mu 3)] [a,b,.lst (F4.map λp:Pl.Pc=>D.im (AL p)),.lst ((F4.map λp=>P.take u++[p]++P.drop (u+1)).map plD)] _;refine BB (Cd (WG (A3 rfl (Cd (GD (A5 (AE (sl1 rfl rfl (sl2 1 (by omega) rfl rfl (IG (by simp;omega) ?_))))))))));rw[<- map_append];refine A5 (AE (AE (sl1 rfl rfl (Nm (Q3 (A3 rfl (EC (A3 rfl ⟨_,rfl,EC (AE (A3 rfl (AX (Bb ⟨_,rfl,_,rfl,?_⟩))))⟩))))))));have cm2:Bm ((P.map AL).map D.im) (some (u:Int)) (some ((u:Int)+2))=(((P.drop u).take 2).map AL).map D.im:=by
  rw[W1 (by omega)];simp only[map_take,map_drop]
 rw[cm2,Ax];refine Q5 (AX ⟨_,rfl,rfl,_,rfl,?_⟩);rw[<- map_reverse,<- map_reverse,Ax];refine IG (by simp;omega) ?_;rw[<- map_append];refine sl2 2 (by omega) rfl rfl (IH ?_ (by simp;omega) ?_)
 .have:(P.drop u).take 2≠[]:=by
   intro z;have:=congrArg List.length z;simp at this;omega
  simp[this];intro _;exact hu
 rw[<- map_append];refine A5 (A3 rfl (A5 (Nm (A3 rfl (Q5 (AX ⟨_,rfl,rfl,_,rfl,?_⟩))))));rw[<- map_reverse,<- map_reverse,Ax];refine AG ⟨KJ,3,4,_,_,rfl,rfl,rfl,rfl,Aq (by simp;omega),5,_,a,b,_,rfl,by omega,rfl,rfl,?_,hT,(F4.map λp=>P.take u++[p]++P.drop (u+1))++[P.take u++P.drop (u+1),P.take u++((P.drop u).take 2).reverse++P.drop (u+2),P,P.reverse],by simp[plD],by simp[l4],λQ hQ=>?_⟩
 .have:=Yt 2 ((F4.map λp=>P.take u++[p]++P.drop (u+1))++[P.take u++P.drop (u+1),P.take u++((P.drop u).take 2).reverse++P.drop (u+2),P,P.reverse]);simpa [plD]using this
 have tk:∀p∈P.take u,p.1<n:=λp h=>hP p (List.mem_of_mem_take h);have dr:∀j,∀p∈P.drop j,p.1<n:=λj p h=>hP p (List.mem_of_mem_drop h);rcases mem_append.mp hQ with z|z
 .obtain⟨p,hp',rfl⟩:=mem_map.mp z;refine⟨by simp;omega,λq hq=>?_⟩;rcases mem_append.mp hq with y|y
  .rcases mem_append.mp y with y|y
   .exact tk q y
   .rw[mem_singleton]at y;subst y;exact h4 q hp'
  .exact dr _ q y
 .simp only[mem_cons,not_mem_nil,or_false]at z;rcases z with rfl|rfl|rfl|rfl
  .refine⟨by simp;omega,λq hq=>?_⟩;rcases mem_append.mp hq with y|y
   .exact tk q y
   .exact dr _ q y
  .refine⟨by simp;omega,λq hq=>?_⟩;rcases mem_append.mp hq with y|y
   .rcases mem_append.mp y with y|y
    .exact tk q y
    .exact dr u q (List.mem_of_mem_take (List.mem_reverse.mp y))
   .exact dr _ q y
  .exact⟨by omega,hP⟩
  .exact⟨by simp;omega,λq hq=>hP q (List.mem_reverse.mp hq)⟩
theorem MV{d t:Int}:∀{rows:List (Int×Int)} {x:Int},Bo (t+d) (rows.map λq=>(q.1+d,q.2)) x=Bo t rows x
 |[],x=>rfl
 |(b,a)::r,x=>by
   show(if t+d<b+d then x else Bo (t+d) (r.map λq=>(q.1+d,q.2)) a)=if t<b then x else Bo t r a
   rw[MV];by_cases h:t<b
   .rw[if_pos h,if_pos (by omega)]
   .rw[if_neg h,if_neg (by omega)]
theorem Yv{d t:Int}{c:Cost}(h:∀w,c≠.ends w):(EW d c).at (t+d)=c.at t:=by
 cases c with
 |late x=>show t+d-(x+d)=t-x;omega
 |tardy x w=>
  show(if t+d-(x+d)<=0 then 0 else w*(t+d-(x+d)))=if t-x<=0 then 0 else w*(t-x)
  rw[show t+d-(x+d)=t-x by omega]
 |miss x w=>
  show(if t+d-(x+d)<=0 then 0 else w)=if t-x<=0 then 0 else w
  rw[show t+d-(x+d)=t-x by omega]
 |ends w=>exact absurd rfl (h w)
 |steps rows=>exact MV
theorem XZ{d:Int}{c:Cost}(h:c.wok):(EW d c).wok:=by cases c<;>exact h
section
variable{ws:List Wk}
theorem Y3{d:Int}{k:Nat}(hk:k<ws.length):cst (ws.map (mv d)) k=EW d (cst ws k):=by simp[cst,hk,mv]
theorem MF(E:Ew ws):∀w∈ws,w.cost.wok:=λw hw=>(E.ok w hw).co.wok
theorem OR(n8:ws.length<=8)(hw:∀w∈ws,w.cost.wok)(g:Nat->Int):WF F_costs_of [.im (AM ws),.im (B8 ((List.range ws.length).map g))] [] λd x=>d=.im (B8 ((List.range ws.length).map λk=>(cst ws k).at (g k))):=by
 have e:F_costs_of [.im (AM ws),.im (B8 ((List.range ws.length).map g))] []=some (.im (B8 ((List.range ws.length).map λk=>(cst ws k).at (g k))),[]):=by
  rw[Vv,G8 ws _ hw (by omega),HD]
 exact WP.eq e rfl
theorem EI:F_worth=Bd.F_worth:=rfl
theorem MD:¬ (("sum":Str)="greatest"):=by decide +kernel
theorem MC(n1:1<=ws.length)(n8:ws.length<=8)(hw:∀w∈ws,w.cost.wok)(g:Nat->Int){i j:Nat}{ls:Ls}{hd:Hd}(e1:ls[i]?=some (some (.im (AM ws))))(e2:ls[j]?=some (some (.im (B8 ((List.range ws.length).map g))))){QA:List D->Hd->Prop}
 (q:QA (intD [Cs ((List.range ws.length).map λk=>(cst ws k).at (g k)),((List.range ws.length).map λk=>(cst ws k).at (g k)).sum]) hd):
 WA (BA 1 [i,j] (BG (B2 (A1 (mC (.str "greatest")) (A1 (mC (.str "sum")) A4)))) (AF 0) Bg (A9 0 F_worth (A1 (A0 1) (A1 (A0 2) (A1 (A0 0) A4))))) ls hd QA:=by
 have ne:CW ws ((List.range ws.length).map g)≠[]:=by
  rw[HD];intro z;have:=congrArg List.length z;simp at this;subst this;simp at n1
 refine BT (Cc (Bi (A5 (AX (A5 (AX (AG ⟨Dv,_,rfl,Dv,?_⟩)))))));refine Be (xs:=[("greatest":Str),"sum"]) (λs:Str=>D.im (.str s)) (λs=>some (.im (.int (if s="greatest" then Cs ((List.range ws.length).map λk=>(cst ws k).at (g k))else((List.range ws.length).map λk=>(cst ws k).at (g k)).sum)))) (λ_ ls=>∃x,ls=[some x,some (.im (AM ws)),some (.im (B8 ((List.range ws.length).map g)))]) _ (AV _) ?_ ?_
 .rintro s hs ls' hls;refine⟨[some (.im (.str s)),some (.im (AM ws)),some (.im (B8 ((List.range ws.length).map g)))],by rcases hls with rfl|⟨_,x,rfl⟩<;>first|rfl|simp[AF,Dh,e1,e2],⟨_,rfl⟩,Bw ⟨rfl,?_⟩⟩;rw[if_pos rfl];refine⟨_,rfl,Aj (A5 (A3 rfl (A5 (A3 rfl (A5 (A3 rfl (AG ⟨by simp,?_⟩)))))))⟩;simp only[mem_cons,not_mem_nil,or_false]at hs;rcases hs with rfl|rfl
  .refine WP.eq (z:=.im (.int (Cs ((List.range ws.length).map λk=>(cst ws k).at (g k))))) (h:=[]) ?_ ⟨_,rfl,rfl,by rw[if_pos rfl]⟩;rw[EI,Q2 ws _ hw (by omega) ne,HD]
  .refine WP.eq (z:=.im (.int ((List.range ws.length).map λk=>(cst ws k).at (g k)).sum)) (h:=[]) ?_ ⟨_,rfl,rfl,by rw[if_neg MD]⟩;rw[EI,Q0 ws _ hw (by omega),HD]
 have:([("greatest":Str),"sum"].filterMap λs:Str=>some (D.im (.int (if s="greatest" then Cs ((List.range ws.length).map λk=>(cst ws k).at (g k))else((List.range ws.length).map λk=>(cst ws k).at (g k)).sum))))=intD [Cs ((List.range ws.length).map λk=>(cst ws k).at (g k)),((List.range ws.length).map λk=>(cst ws k).at (g k)).sum]:=by
  simp[intD,MD]
 rw[this];exact q
theorem WR(E:Ew ws){P:List Pl.Pc}(hP:∀p∈P,p.1<ws.length)(hl:P.length<=62)(hh:∀k,k<ws.length->∃p∈P,p.1=k)(inj:∀i j,i<ws.length->j<ws.length->Pl.E P i=Pl.E P j->i=j)(hb:∀k,k<ws.length->-5000<=Pl.E P k/\Pl.E P k<=5000){d:Int}(hd:-100<=d/\d<=100):
 WF IC [.im (AM ws),.im (AM (ws.map (mv d))),plD P,.im (.int d)] [] λr x=>r=.im (.bl true):=by
 have n8:=E.n8;have n1:=E.n1;have lm:(ws.map (mv d)).length=ws.length:=by simp
 have hP':∀p∈sft d P,p.1<(ws.map (mv d)).length:=λp hp=>by
  obtain⟨q,hq,rfl⟩:=mem_map.mp hp;rw[lm];exact hP q hq
 have eE:∀k,k<ws.length->Pl.E (sft d P) k=Pl.E P k+d:=λk hk=>UA (hh k hk);have eth:(List.range (ws.map (mv d)).length).map (Pl.E (sft d P))=(List.range ws.length).map λk=>Pl.E P k+d:=by
  rw[lm];exact map_congr_left λk hk=>eE k (by simpa using hk)
 have inj':∀i j,i<(ws.map (mv d)).length->j<(ws.map (mv d)).length->Pl.E (sft d P) i=Pl.E (sft d P) j->i=j:=λi j hi hj e=>by
  rw[lm]at hi hj;rw[eE i hi,eE j hj]at e;exact inj i j hi hj (by omega)
 have bE:∀e∈(List.range ws.length).map λk=>Pl.E P k+d,-1000000<=e/\e<=1000000:=λe he=>by
  obtain⟨k,hk,rfl⟩:=mem_map.mp he;have:=hb k (by simpa using hk);omega
 have rE:Dt (I.py (B8 ((List.range ws.length).map λk=>Pl.E P k+d))):=JB bE (by simpa using n8);unfold IC;refine Bh rfl ?_;refine Aa (JV (Bi (A5 (Aj (A5 (A3 rfl (A5 (A3 rfl (AG ⟨by simp,(KP n8 hP).mono ?_⟩)))))))));rintro r x rfl;refine⟨_,rfl,A5 (Aj (A5 (A3 rfl (A5 (Aj (A5 (A3 rfl (A5 (A3 rfl (AG ⟨by simp,(IZ d hl).mono ?_⟩))))))))))⟩;rintro r x rfl;refine⟨_,rfl,AG ⟨by simp,(KP (by rw[lm];exact n8) hP').mono ?_⟩⟩;rintro r x rfl;refine⟨_,rfl,AG ⟨Dv,?_⟩⟩;rw[eth];refine⟨[some (.im (AM ws)),some (.im (AM (ws.map (mv d)))),some (plD P),some (.im (.int d)),some (.im (B8 ((List.range ws.length).map (Pl.E P)))),some (.im (B8 ((List.range ws.length).map λk=>Pl.E P k+d)))],rfl,AK ?_⟩;refine Aa (BD (Al (AE (Bj (A5 (A3 rfl (AG (DL rE ?_))))))));refine Bj (A5 (Dm (BT (Cc (A3 rfl ⟨_,rfl,Aq (by simp;omega),?_⟩)))));rw[show(((List.range ws.length).map (Pl.E P)).map I.int).map D.im=(List.range ws.length).map λk=>D.im (.int (Pl.E P k)) by simp];refine Be (λk:Nat=>D.im (.int (Pl.E P k))) (λk=>some (.im (.int (Pl.E P k+d)))) (λ_ ls=>∃x,ls=[some x,some (.im (.int d))]) _ (AV _) ?_ ?_
 .rintro k hk ls hls;refine⟨[some (.im (.int (Pl.E P k))),some (.im (.int d))],by rcases hls with rfl|⟨_,x,rfl⟩<;>rfl,⟨_,rfl⟩,Bw ⟨rfl,?_⟩⟩;rw[if_pos rfl];exact⟨_,rfl,AE (A3 rfl (A3 rfl (Bb ⟨rfl,rfl⟩)))⟩
 refine⟨_,rfl,AG ?_⟩;rw[show((List.range ws.length).filterMap λk=>some (D.im (.int (Pl.E P k+d))))=(((List.range ws.length).map λk=>Pl.E P k+d).map I.int).map D.im by simp,Ax];refine DL rE (GB ⟨_,rfl,(λh=>by rw[Bool.not_eq_true',decide_eq_false_iff_not]at h;exact absurd rfl h),λ_=>BC (AK ?_)⟩);refine Aa (BD (Al (AE (Bj (A5 (Aj (A5 (A3 rfl (A5 (Aj (A5 (A3 rfl (A5 (A3 rfl (AG ⟨by simp,(IZ d hl).mono ?_⟩)))))))))))))));rintro r x rfl;refine⟨_,rfl,AG ⟨by simp,(Le (by rw[lm];exact n8) hP' inj').mono ?_⟩⟩;rintro r x ⟨o',rfl,pm',pw'⟩;rw[lm]at pm';have rO:Dt (I.py (De o')):=SZ (λk hk=>by have:=pm'.mem_iff.mp hk;simp at this;omega) (by have:=pm'.length_eq;simp at this;omega);refine⟨_,rfl,AG (DL rO ?_)⟩;refine Bj (A5 (Aj (A5 (A3 rfl (A5 (A3 rfl (AG ⟨by simp,(Le n8 hP inj).mono ?_⟩)))))));rintro r x ⟨o,rfl,pm,pw⟩;have eo:o=o':=Na (pm.trans pm'.symm) pw pw' λi hi j hj q=>by
  have h1:i<ws.length:=by simpa using pm.mem_iff.mp hi
  have h2:j<ws.length:=by simpa using pm.mem_iff.mp hj
  rw[eE i h1,eE j h2];omega
 subst eo;refine⟨_,rfl,AG (DL rO (GB ⟨_,rfl,(λh=>by simp at h),λ_=>BC (AK ?_)⟩))⟩;refine Aa (BD (Al (WC (AX (BT (Cc (A3 rfl ⟨_,rfl,Aq (by simp;omega),?_⟩)))))));rw[show(ws.map AT).map D.im=ws.map λw=>D.im (AT w) by simp]
 let wd:Cost->Str:=λc=>match c with|.late _=>"late" | .tardy _ _=>"tardy" | .miss _ _=>"miss" | .ends _=>"ends" | .steps _=>"steps"
 refine Be (λw=>D.im (AT w)) (λw:Wk=>some (.im (.str (wd w.cost)))) (λ_ ls=>∃x,ls=[some x]) _ (AV _) ?_ ?_
 .rintro w hw ls hls;refine⟨[some (.im (AT w))],by rcases hls with rfl|⟨_,x,rfl⟩<;>rfl,⟨_,rfl⟩,Bw ⟨rfl,?_⟩⟩;rw[if_pos rfl];refine⟨_,rfl,AE (AE (A3 rfl (AX (Ai rfl (IB _ _ _ _) (AX ?_)))))⟩;cases w.cost<;>exact Ai rfl (CN _ _) ⟨rfl,rfl⟩
 have fl:∀L:List Wk,CU (L.filterMap λw:Wk=>some (D.im (.str (wd w.cost))))=some (L.map λw=>V.str (wd w.cost)):=by
  intro L
  induction L with
  |nil=>rfl
  |cons w r ih=>simp only[filterMap_cons,CU,Ez,ih,map_some,bind_some,map_cons]
 refine⟨_,.str "ends",_,rfl,rfl,fl ws,_,rfl,λ_=>BB (AX rfl),λh=>BC (AK ?_)⟩;have hne:∀w∈ws,∀v,w.cost≠.ends v:=λw hw v z=>by
  have h:inV (.str "ends") (ws.map λw=>V.str (wd w.cost))=false:=h;unfold inV at h;rw[List.any_eq_false]at h;refine h (.str (wd w.cost)) (mem_map.mpr ⟨w,hw,rfl⟩) ?_;rw[z];show eqV (V.str "ends") (V.str "ends")=true
  decide +kernel
 have hcn:∀k,k<ws.length->∀v,cst ws k≠.ends v:=λk hk v=>by
  rw[<- Ri hk];exact hne _ (List.getElem_mem hk) v
 have ec:((List.range (ws.map (mv d)).length).map λk=>(cst (ws.map (mv d)) k).at (Pl.E P k+d))=(List.range ws.length).map λk=>(cst ws k).at (Pl.E P k):=by
  rw[lm];refine map_congr_left λk hk=>?_;have hk:k<ws.length:=by simpa using hk
  rw[Y3 hk];exact Yv (hcn k hk)
 have hw':∀w∈ws.map (mv d),w.cost.wok:=λw hw=>by
  obtain⟨v,hv,rfl⟩:=mem_map.mp hw;exact XZ (MF E v hv)
 have bC:∀e∈(List.range ws.length).map λk=>(cst ws k).at (Pl.E P k),-1000000<=e/\e<=1000000:=λe he=>by
  obtain⟨k,hk,rfl⟩:=mem_map.mp he;have hk:k<ws.length:=by simpa using hk
  have:=hb k hk;exact Yw (Y0 E hk) ⟨by omega,by omega⟩
 have rC:Dt (I.py (B8 ((List.range ws.length).map λk=>(cst ws k).at (Pl.E P k)))):=JB bC (by simpa using n8);have cw:=OR (ws:=ws.map (mv d)) (by rw[lm];exact n8) hw' (λk=>Pl.E P k+d);rw[ec]at cw;rw[lm]at cw;refine Aa (BD (Al (AE (Bj (A5 (Aj (A5 (A3 rfl (A5 (A3 rfl (AG ⟨by simp,cw.mono ?_⟩)))))))))));rintro r x rfl;refine⟨_,rfl,AG (DL rC ?_)⟩;refine Bj (A5 (Aj (A5 (A3 rfl (A5 (A3 rfl (AG ⟨by simp,(OR n8 (MF E) (Pl.E P)).mono ?_⟩)))))));rintro r x rfl;refine⟨_,rfl,AG (DL rC (GB ⟨_,rfl,(λh=>by simp at h),λ_=>BC (AK ?_)⟩))⟩;have w2:=λ{QA:List D->Hd->Prop}=>MC (ws:=ws.map (mv d)) (by rw[lm];exact n1) (by rw[lm];exact n8) hw' (λk=>Pl.E P k+d) (i:=1) (j:=5) (ls:=[some (.im (AM ws)),some (.im (AM (ws.map (mv d)))),some (plD P),some (.im (.int d)),some (.im (B8 ((List.range ws.length).map (Pl.E P)))),some (.im (B8 ((List.range ws.length).map λk=>Pl.E P k+d)))]) (hd:=[]) rfl (by rw[lm];rfl) (QA:=QA)
 rw[ec]at w2;refine BB (Q4 (ns:=[Cs ((List.range ws.length).map λk=>(cst ws k).at (Pl.E P k)),((List.range ws.length).map λk=>(cst ws k).at (Pl.E P k)).sum]) (MC n1 n8 (MF E) (Pl.E P) rfl rfl ⟨rfl,w2 ⟨rfl,rfl⟩⟩))
end
section
variable{ws:List Wk}
theorem Ov(n8:ws.length<=8){o:List Nat}(pm:o.Perm (List.range ws.length)):WF F_run [.im (AM ws),.im (De o)] [] λd x=>d=.im (.tup ((BQ ws o 0).map AL)):=by
 have hn:∀j∈o,j<ws.length:=λj hj=>by simpa using pm.mem_iff.mp hj
 obtain⟨g,e⟩:=WY ws o hn (by have:o.length=ws.length:=(by simpa using pm.length_eq);omega);exact WP.eq (Gy ▸ e) rfl
theorem Kk:∀{o:List Nat} {t:Int},(∀k∈o,k<ws.length)->(BQ ws o t).map (·.1)=o
 |[],t,_=>rfl
 |k::r,t,h=>by rw[Cj (h k (by simp)),map_cons,Kk λj hj=>h j (by simp[hj])]
theorem Jm(E:Ew ws):∀{o:List Nat} {t:Int},(∀k∈o,k<ws.length)->(BQ ws o t).Pairwise (λp q=>p.2.2<=q.2.1)/\∀p∈BQ ws o t,t<=p.2.1/\cm ws p.1<=p.2.1/\p.2.1<p.2.2/\p.2.2<=max t 60+20*o.length
 |[],t,_=>⟨.nil,by intro p hp;cases hp⟩
 |k::r,t,h=>by
  have hk:=h k (by simp);have l1:=E.l1 hk;have l2:=E.l2 hk;have c2:cm ws k<=60:=by rw[<- HE hk];exact(E.ok _ (List.getElem_mem hk)).c2
  obtain⟨h1,h2⟩:=Jm E (o:=r) (t:=max t (cm ws k)+ln ws k) λj hj=>h j (by simp[hj]);rw[Cj hk];refine⟨pairwise_cons.mpr ⟨λq hq=>(h2 q hq).1,h1⟩,λp hp=>?_⟩;rw[length_cons]
  push_cast
  rcases mem_cons.mp hp with rfl|hp
  .dsimp only;refine⟨by omega,by omega,by omega,by omega⟩
  .obtain⟨g1,g2,g3,g4⟩:=h2 p hp;exact⟨by omega,g2,g3,by omega⟩
theorem QP(E:Ew ws):∀{o:List Nat} {t:Int},(∀k∈o,k<ws.length)->o.Nodup->∀k∈o,Pl.dn (BQ ws o t) k=ln ws k
 |[],t,_,_,k,hk=>by cases hk
 |j::r,t,h,nd,k,hk=>by
  obtain⟨n1,n2⟩:=nodup_cons.mp nd;have hr:∀i∈r,i<ws.length:=λi hi=>h i (by simp[hi]);rw[Cj (h j (by simp)),Pl.dn];by_cases e:j=k
  .subst e;rw[if_pos rfl,Pl.dn_no λp hp q=>n1 (by rw[<- q];exact J9 hr p hp)];dsimp only;omega
  .rw[if_neg e,QP E hr n2 k (by rcases mem_cons.mp hk with q|q;exact absurd q.symm e;exact q)];omega
theorem Mf(E:Ew ws){o:List Nat}(pm:o.Perm (List.range ws.length)):Pl.Full ws.length 0 (ln ws) (BQ ws o 0):=by
 have hn:∀j∈o,j<ws.length:=λj hj=>by simpa using pm.mem_iff.mp hj
 obtain⟨h1,h2⟩:=Jm E (o:=o) (t:=0) hn;exact⟨⟨h1,λp hp=>⟨WW pm p hp,(h2 p hp).1,(h2 p hp).2.2.1⟩⟩,λk hk=>E.l1 hk,λk hk=>QP E hn (pm.nodup_iff.mpr nodup_range) k (pm.mem_iff.mpr (by simpa using hk))⟩
theorem SO(E:Ew ws){o:List Nat}(pm:o.Perm (List.range ws.length)){W:List (Int×Int)}(hW:Wsh ws.length W)(rs:Pw W o):∀a b:Nat,((a:Int),(b:Int))∈W->∀p∈BQ ws o 0,p.1=b->Pl.E (BQ ws o 0) a<=p.2.1:=by
 intro a b hab p hp e;have hn:∀j∈o,j<ws.length:=λj hj=>by simpa using pm.mem_iff.mp hj
 have nd:o.Nodup:=pm.nodup_iff.mpr nodup_range;have F:=Mf E pm;have ef:=Kk (ws:=ws) (t:=0) hn;obtain⟨a',b',ep,ha,_⟩:=hW.nats _ hab;have haw:a<ws.length:=by have:=(Prod.mk.inj ep).1;omega
 have at_:∀{j:Nat} {q:Pl.Pc},(BQ ws o 0)[j]?=some q->o[j]?=some q.1:=λ{j q} h=>by
  rw[<- ef,List.getElem?_map,h];rfl
 obtain⟨j,hj⟩:=mem_iff_getElem?.mp hp;have oj:=at_ hj;rw[e]at oj;obtain⟨i,hij,oi⟩:=rs a b j hab oj;obtain⟨q,q1,q2,q3⟩:=Pl.last_in (v:=0) (F.has haw);obtain⟨i',hi'⟩:=mem_iff_getElem?.mp q1;have oi':=at_ hi';rw[q2]at oi';have ei:i'=i:=(List.getElem?_inj (List.getElem?_eq_some_iff.mp oi').1 nd).mp (by rw[oi',oi]);subst ei;have:=List.pairwise_iff_getElem.mp F.ok.ch i' j (List.getElem?_eq_some_iff.mp hi').1 (List.getElem?_eq_some_iff.mp hj).1 hij;rw[(List.getElem?_eq_some_iff.mp hi').2,(List.getElem?_eq_some_iff.mp hj).2]at this;show Pl.last _ a 0<=_;omega
theorem LI{R:Pl.Pc->Pl.Pc->Prop}:∀{P:List Pl.Pc},P.Pairwise R->∀x∈P.zip P.tail,R x.1 x.2
 |[],_,x,hx=>by simp at hx
 |[p],_,x,hx=>by simp at hx
 |p::q::r,h,x,hx=>by
  rw[pairwise_cons]at h;simp only[List.tail_cons,List.zip_cons_cons,mem_cons]at hx;rcases hx with rfl|hx
  .exact h.1 q (by simp)
  .exact LI h.2 x (by simpa using hx)
structure Fine(ws:List Wk)(W:List (Int×Int))(P:List Pl.Pc):Prop where
 hP:∀p∈P,p.1<ws.length
 hl:P.length<=60
 pl:IsPl ws W P
 hh:∀k,k<ws.length->∃p∈P,p.1=k
 inj:∀i j,i<ws.length->j<ws.length->Pl.E P i=Pl.E P j->i=j
 hb:∀k,k<ws.length->-5000<=Pl.E P k/\Pl.E P k<=5000
theorem OJ{W:List (Int×Int)}(hW:Wsh ws.length W){P:List Pl.Pc}(F:Pl.Full ws.length 0 (ln ws) P)(hl:P.length<=60)(cc:∀p∈P,cm ws p.1<=p.2.1)(hb:∀p∈P,p.2.2<=1860)(kp:∀a b:Nat,((a:Int),(b:Int))∈W->∀p∈P,p.1=b->Pl.E P a<=p.2.1):Fine ws W P where
 hP p hp:=(F.ok.ea p hp).1
 hl:=hl
 pl:=⟨λp hp=>⟨cc p hp,(F.ok.ea p hp).2.2⟩,LI F.ok.ch,F.all,λq hq p hp e=>by
  obtain⟨a,b,rfl,_,_⟩:=hW.nats q hq;have:=kp a b hq p hp (by have e:(p.1:Int)=(b:Int):=e;omega);simpa using this⟩
 hh k hk:=F.has hk
 inj i j hi hj e:=F.inj hi hj e
 hb k hk:=by
  have h1:=F.c_le hk;obtain⟨q,q1,q2,q3⟩:=Pl.last_in (v:=0) (F.has hk);have h2:=hb q q1;show -5000<=Pl.last P k 0/\Pl.last P k 0<=5000;have h1:0<Pl.last P k 0:=h1;omega
theorem TR(E:Ew ws){o:List Nat}(pm:o.Perm (List.range ws.length)){W:List (Int×Int)}(hW:Wsh ws.length W)(rs:Pw W o):Fine ws W (BQ ws o 0):=by
 have hn:∀j∈o,j<ws.length:=λj hj=>by simpa using pm.mem_iff.mp hj
 have n8:=E.n8;have ol:o.length=ws.length:=by simpa using pm.length_eq
 have rl:(BQ ws o 0).length=o.length:=by rw[<- length_map (f:=(·.1)),Kk hn]
 obtain⟨_,h2⟩:=Jm E (o:=o) (t:=0) hn;refine OJ hW (Mf E pm) (by omega) (λp hp=>(h2 p hp).2.1) (λp hp=>?_) (SO E pm hW rs);have:=(h2 p hp).2.2.2;omega
end
theorem Dw:F_cost=Bd.F_cost:=rfl
theorem Y4{way:Int}(h0:0<=way)(h4:way<5):∀a b,T 0 a b->WF F_cost [.mu 1,.im (.int way)] [a,b] λd x=>∃i a' b' g,d=.im i/\(∃c:Cost,i=BP c/\c.ok)/\T 0 a' b'/\x=a'::b'::g:=by
 rintro a b ⟨τ,e⟩;obtain⟨c,τ',hc,q⟩:=NI τ way h0 h4;obtain⟨g,q⟩:=q.eq;rw[Dw,<- e];exact WP.eq q ⟨_,_,_,g,rfl,⟨c,rfl,hc⟩,⟨τ',rfl⟩,rfl⟩
theorem at4{r:Int}(h0:0<=r)(h1:r<4):∃way:Int,0<=way/\way<5/\atI [D.im (.int 0),.im (.int 1),.im (.int 2),.im (.int 4)] r=some (.im (.int way)):=by
 have:r=0∨r=1∨r=2∨r=3:=by omega
 rcases this with rfl|rfl|rfl|rfl
 .exact⟨0,by omega,by omega,rfl⟩
 .exact⟨1,by omega,by omega,rfl⟩
 .exact⟨2,by omega,by omega,rfl⟩
 .exact⟨4,by omega,by omega,rfl⟩
inductive I_rc(ws:List Wk)(r es:List D)(ls:Ls)(hd:Hd):Prop
 |mk (dn rest new:List Wk) (a b:MO) (z:Option D) (h0:ws=dn++rest) (h1:r=rest.map λw=>D.im (AT w)) (h2:es=new.map λw=>D.im (AT w)) (h3:new.length=dn.length) (h4:∀w∈new,w.ok) (h5:ls=[z,some (.mu 1)]) (h6:hd=[a,b]) (h7:T 0 a b):I_rc ws r es ls hd
theorem Sa{ws:List Wk}(n8:ws.length<=8)(hok:∀w∈ws,w.ok){a b:MO}(hT:T 0 a b){ls:Ls}(l1:ls[1]?=some (some (.mu 1)))(l4:ls[4]?=some (some (.im (AM ws)))){Q:D->Hd->Prop}(q:∀(ws':List Wk) a b,ws'.length=ws.length->(∀w∈ws',w.ok)->T 0 a b->Q (.im (AM ws')) [a,b]):
 WE (Ct B9 (BA 1 [1] (BG (A0 4)) (AF 0) Bg (B2 (A1 (mOp gIx (A0 0) (mC (.int 0))) (A1 (mOp gIx (A0 0) (mC (.int 1))) (A1 (A9 2 F_cost (A1 (A0 1) (A1 (DQ (BF (A1 (mC (.int 0)) (A1 (mC (.int 1)) (A1 (mC (.int 2)) (A1 (mC (.int 4)) A4))))) (A9 2 F_pick (A1 (A0 1) (A1 (mC (.int 4)) A4)))) A4))) A4)))))) ls [a,b] Q:=by
 refine Dm (BT (Cc (A3 l4 ⟨_,rfl,Aq (by simp;omega),?_⟩)));rw[show(ws.map AT).map D.im=ws.map λw=>D.im (AT w) by simp];refine YF (I_rc ws) ⟨[],ws,[],a,b,none,rfl,rfl,rfl,rfl,by simp,by simp[Dh,l1],rfl,hT⟩ ?_ ?_
 .rintro d r es ls hd ⟨dn,rest,new,a,b,z,e0,er,rfl,hl,hn,rfl,rfl,hT⟩;cases rest with
  |nil=>cases er
  |cons w rest=>
   obtain⟨rfl,rfl⟩:=List.cons.inj er;have hw:=hok w (by rw[e0];simp);refine⟨[some (.im (AT w)),some (.mu 1)],rfl,Bw ?_⟩;rw[if_pos rfl];refine Bi (A5 (AE (A3 rfl (AX (Ai rfl (CN _ _) (A5 (AE (A3 rfl (AX (Ai rfl (Ec _ _ _) (A5 ?_)))))))))));have wa:WA (A1 (A0 1) (A1 (DQ (BF (A1 (mC (.int 0)) (A1 (mC (.int 1)) (A1 (mC (.int 2)) (A1 (mC (.int 4)) A4))))) (A9 2 F_pick (A1 (A0 1) (A1 (mC (.int 4)) A4)))) A4)) [some (.im (AT w)),some (.mu 1)] [a,b] λds x=>∃way a' b',ds=[.mu 1,.im (.int way)]/\0<=way/\way<5/\x=[a',b']/\T 0 a' b':=by
    refine A5 (A3 rfl (A5 (Q6 (GD (A5 (AX (A5 (AX (A5 (AX (A5 (AX (AG ⟨KJ,?_⟩)))))))))))));refine tap.draw (n:=0) (rest:=[]) hT rfl (by decide) (by decide) λs a b hT ps qs=>?_;obtain⟨way,h1,h2,h3⟩:=at4 ps qs;exact⟨_,_,rfl,h3,AG ⟨way,a,b,rfl,h1,h2,rfl,hT⟩⟩
   obtain⟨_,_,ea,way,a',b',rfl,w0,w5,rfl,hT'⟩:=wa;refine tap.call (n:=0) (c:=0) hT' (as:=[.im (.int way)]) (rest:=[]) ea rfl (Y4 w0 w5) ?_;rintro i a b hT ⟨c,rfl,hc⟩;refine AG ⟨DT,?_⟩;rw[Eh];refine⟨AV _,dn++[w],rest,new++[⟨w.len,w.com,c⟩],a,b,_,by rw[e0];simp,rfl,by simp[AT],by simp[hl],λv hv=>?_,rfl,rfl,hT⟩;rcases mem_append.mp hv with y|y
   .exact hn v y
   .rw[mem_singleton]at y;subst y;exact⟨hw.l1,hw.l2,hw.c1,hw.c2,hc⟩
 rintro es ls hd ⟨dn,rest,new,a,b,z,e0,er,rfl,hl,hn,rfl,rfl,hT⟩;have:rest=[]:=by cases rest with
  |nil=>rfl
  |cons t r=>cases er
 subst this;rw[append_nil]at e0;refine⟨_,rfl,?_⟩;rw[show(new.map λw=>D.im (AT w))=(new.map AT).map D.im by simp,Ax];exact q new a b (by rw[e0];exact hl) hn hT
inductive I_nr(H:Hd)(L:Option D->Ls)(Ps:List (List Pl.Pc))(r:List D)(ls:Ls)(hd:Hd):Prop
 |mk (dn rest:List (List Pl.Pc)) (z:Option D) (h0:Ps=dn++rest) (h1:r=rest.map plD) (h2:ls=L z) (h3:hd=H):I_nr H L Ps r ls hd
inductive I_law(ns:List Int)(r:List D)(ls:Ls)(hd:Hd):Prop
 |mk (j:Nat) (a b:MO) (z2 z3 z4 z5 z6 z7 z8 z9 z10 z11 z12:Option D) (h0:r=An (j:Int) (4-j)) (hj:j<=4) (h1:ls=[some (.ro ns),some (.mu 1),z2,z3,z4,z5,z6,z7,z8,z9,z10,z11,z12]) (h2:hd=[a,b]) (h3:T 0 a b):I_law ns r ls hd
set_option maxHeartbeats 4000000 in
theorem Yk(ns:List Int):WF cn [.ro ns] [] λd x=>d=.im (.bl true):=by
 unfold cn;refine Bh rfl ?_;obtain⟨τ,et⟩:=UQ ns;refine Aa (B0 (J0 (A5 (A3 rfl (AG (WP.eq (Fh ▸ et) (AK ?_)))))));refine Aa (F1 (Kc (A5 (AX (AG ⟨_,rfl,DD (by decide) (by decide),?_⟩)))));refine Dl (I_law ns) ⟨0,_,_,none,none,none,none,none,none,none,none,none,none,none,rfl,by omega,rfl,rfl,τ,rfl⟩ ?_ ?_
 .rintro t r ls hd ⟨j,a,b,z2,z3,z4,z5,z6,z7,z8,z9,z10,z11,z12,er,hj,rfl,rfl,hT⟩;obtain⟨hj4,rfl,rfl⟩:=Gi er;refine⟨_,rfl,?_⟩;dsimp only[set_cons_zero,set_cons_succ];refine GZ ?_;refine Aa (B0 (AE (AX (tap.draw (n:=0) (many:=8) (rest:=[]) hT rfl (by decide) (by decide) λs a b hT ps qs=>Bb (AK ?_)))));obtain⟨n,hn⟩:∃n:Nat,1+s=(n:Int):=⟨(1+s).toNat,by omega⟩
  rw[hn];refine Aa (B0 ?_);refine tap.call (n:=0) (c:=0) hT (as:=[.im (.int (n:Int)),.im (.bl (decide ((j:Int)=0)))]) (rest:=[]) (by simp) rfl (UI (by omega) _) ?_;rintro i a b hT ⟨ws0,rfl,hl0,hok0⟩;refine AK ?_;dsimp only[set_cons_zero,set_cons_succ];refine Aa (WP.mono (Q:=λf x=>∃(ws:List Wk) (a b:MO),f=Fl.nx [some (.ro ns),some (.mu 1),some (.im (.int (j:Int))),some (.im (.int (n:Int))),some (.im (AM ws)),z5,z6,z7,z8,z9,z10,z11,z12]/\x=[a,b]/\ws.length=n/\(∀w∈ws,w.ok)/\T 0 a b) ?_ ?_)
  .refine BD (Al (AE (AE (A3 rfl (AX (W8 (by unfold DK;decide) (AX (GC ⟨_,rfl,λ_=>?_,λ_=>BC ?_⟩))))))))
   .refine B0 (Sa (by omega) hok0 hT rfl rfl λws' a b hl hok hT=>?_);exact⟨ws',a,b,rfl,rfl,by rw[hl,hl0],hok,hT⟩
   .exact⟨ws0,a,b,rfl,rfl,hl0,hok0,hT⟩
  rintro f x ⟨ws,a,b,rfl,rfl,hl,hok,hT⟩;have E:Ew ws:=⟨by omega,by omega,hok⟩
  have n8:=E.n8;have n1:=E.n1;clear hl0 hok0 hok;rw[<- hl];refine AK (Aa (B0 ?_));refine tap.call (n:=0) (c:=0) hT (as:=[.im (.int (ws.length:Int))]) (rest:=[]) (by simp) rfl (Ry n8) ?_;rintro i a b hT ⟨W,rfl,hW⟩;refine AK ?_;refine Aa (B0 (Cd (BT (Cc (A3 rfl ⟨_,rfl,Aq (by simp;omega),?_⟩)))));rw[show(ws.map AT).map D.im=ws.map λw=>D.im (AT w) by simp];refine Be (λw=>D.im (AT w)) (λw:Wk=>some (.im (.int w.com))) (λ_ ls=>∃x,ls=[some x]) _ (AV _) ?_ ?_
  .rintro w hw ls hls;refine⟨[some (.im (AT w))],by rcases hls with rfl|⟨_,x,rfl⟩<;>rfl,⟨_,rfl⟩,Bw ⟨rfl,?_⟩⟩;rw[if_pos rfl];exact⟨_,rfl,AE (A3 rfl (AX (Ai rfl (Ec _ _ _) ⟨rfl,rfl⟩)))⟩
  rw[show(ws.filterMap λw=>some (D.im (.int w.com)))=intD (ws.map Wk.com) by simp[intD]];refine AK ?_;have cne:ws.map Wk.com≠[]:=by
   intro z;have:=congrArg List.length z;simp at this;subst this;simp at n1
  have mxs:=Hi cne;have mns:=Fs cne;obtain⟨wx,hwx,ex⟩:=mem_map.mp mxs.1;obtain⟨wn,hwn,en⟩:=mem_map.mp mns.1;have bx:=(E.ok wx hwx).c2;have bn:=(E.ok wn hwn).c1;have mm:FE (ws.map Wk.com)<=Cs (ws.map Wk.com):=mxs.2 _ mns.1;have hcom:∀k,k<ws.length->FE (ws.map Wk.com)<=cm ws k/\cm ws k<=Cs (ws.map Wk.com):=λk hk=>by
   have hm:(ws[k]).com∈ws.map Wk.com:=mem_map.mpr ⟨_,List.getElem_mem hk,rfl⟩;rw[<- HE hk];exact⟨mns.2 _ hm,mxs.2 _ hm⟩
  have kmx:Hs (intD (ws.map Wk.com))=some (.im (.int (Cs (ws.map Wk.com)))):=by unfold Hs;rw[show BS (intD (ws.map Wk.com))=some (ws.map Wk.com)from FB _];simp[cne]
  have kmn:=OF cne;rw[ex]at bx;rw[en]at bn;generalize Cs (ws.map Wk.com)=mx at bx mm hcom kmx;generalize FE (ws.map Wk.com)=mn at bn mm hcom kmn;clear mxs mns ex en hwx hwn;have wa:WA (A1 (A0 1) (A1 (mOp AW (mOp CL (mC (.int 61)) (mCB (f1 true Hs) (A1 (A0 6) A4))) (mCB (f1 false JM) (A1 (A0 6) A4))) A4)) [some (.ro ns),some (.mu 1),some (.im (.int (j:Int))),some (.im (.int (ws.length:Int))),some (.im (AM ws)),some (.im (wI W)),some (.mu 2),z7,z8,z9,z10,z11,z12] [a,b,.lst (intD (ws.map Wk.com))] λds x=>ds=[.mu 1,.im (.int (61-mx+mn))]/\x=[a,b,.lst (intD (ws.map Wk.com))]:=by
   exact A5 (A3 rfl (A5 (AE (AE (AX (Bj (A5 (A3 rfl (AG (DV rfl kmx (F2 (Bj (A5 (A3 rfl (AG (DV rfl kmn (Bb (AG ⟨rfl,rfl⟩))))))))))))))))))
  obtain⟨_,_,ea,rfl,rfl⟩:=wa;refine Aa (B0 (AE (tap.draw (n:=0) (rest:=[.lst (intD (ws.map Wk.com))]) hT ea (by omega) (by omega) λs2 a b hT ps2 qs2=>Bj (A5 (A3 rfl (AG (DV rfl kmn (F2 (AK ?_)))))))));obtain⟨d,hd⟩:∃d,d=s2-mn:=⟨_,rfl⟩
  rw[<- hd];have hd1:-100<=d/\d<=100:=by omega
  have hcd:∀k,k<ws.length->0<=cm ws k/\0<=cm ws k+d/\cm ws k+d<=60:=λk hk=>by
   have:=hcom k hk;omega
  refine Aa (B0 (Aj (A5 (A3 rfl (A5 (A3 rfl (AG ⟨by simp,(Qv E d).mono ?_⟩)))))));rintro q x rfl;refine⟨_,rfl,AK (Aa (B0 ?_))⟩;obtain⟨seq,pms,al⟩:=hW.al;refine tap.call (n:=0) (c:=0) hT (as:=[.im (.int (ws.length:Int)),.im (wI W)]) (rest:=[.lst (intD (ws.map Wk.com))]) (by simp) (by simp) (VT n8 pms al hW.len) ?_;rintro i a b hT ⟨o,rfl,pm,rs⟩;refine AK (Aa (B0 ?_));refine tap.call (n:=0) (c:=0) hT (as:=[.im (AM ws),.im (wI W)]) (rest:=[.lst (intD (ws.map Wk.com))]) (by simp) (by simp) (XA E hW) ?_;rintro i a b hT ⟨P,rfl,hPl,hP2,cc,F,hK⟩;have fP:=OJ hW F hPl cc hP2 hK;have fR:=TR E pm hW rs;clear F hK cc hP2;refine AK ?_;change WS _ [some (.ro ns),some (.mu 1),some (.im (.int (j:Int))),some (.im (.int (ws.length:Int))),some (.im (AM ws)),some (.im (wI W)),some (.mu 2),some (.im (.int d)),some (.im (AM (ws.map (mv d)))),some (.im (De o)),some (plD P),z11,z12] [a,b,.lst (intD (ws.map Wk.com))] _;have lm:(ws.map (mv d)).length=ws.length:=by simp
  have hn':∀k∈o,k<ws.length:=λk hk=>by simpa using pm.mem_iff.mp hk
  have er0:BQ (ws.map (mv d)) o 0=sft d (BQ ws o 0):=YK hn' λk hk=>⟨(hcd k (hn' k hk)).1,(hcd k (hn' k hk)).2.1⟩
  obtain⟨_,rb⟩:=Jm E (o:=o) (t:=0) hn';have ol:o.length=ws.length:=by simpa using pm.length_eq
  have okp:∀p∈sft d (BQ ws o 0),p.1<100/\0<=p.2.1/\p.2.1<=10000/\0<=p.2.2/\p.2.2<=10000:=λp hp=>by
   obtain⟨q,hq,rfl⟩:=mem_map.mp hp;have h1:=rb q hq;have h2:=fR.hP q hq;have h3:=hcd q.1 h2;dsimp only;omega
  have rR:Dt (I.py (.tup ((sft d (BQ ws o 0)).map AL))):=OkP.repr (Qp (by rw[length_map];exact fR.hl) okp) (by rw[I.py];rfl) (by omega) (by omega);refine Aa (BD (Al (AE (Bj (A5 (Aj (A5 (A3 rfl (A5 (A3 rfl (AG ⟨by simp,(Ov (ws:=ws.map (mv d)) (by rw[lm];exact n8) (by rw[lm];exact pm)).mono ?_⟩)))))))))));rintro q x rfl;rw[er0];refine⟨_,rfl,AG (DL rR ?_)⟩;refine Bj (A5 (Aj (A5 (Aj (A5 (A3 rfl (A5 (A3 rfl (AG ⟨by simp,(Ov n8 pm).mono ?_⟩)))))))));rintro q x rfl;refine⟨_,rfl,A5 (A3 rfl (AG ⟨by simp,(IZ d (by have:=fR.hl;omega)).mono ?_⟩))⟩;rintro q x rfl;refine⟨_,rfl,AG (DL rR (GB ⟨_,rfl,(λh=>by simp at h),λ_=>BC (AK ?_)⟩))⟩;have hPne:P≠[]:=by
   obtain⟨p,hp,_⟩:=fP.hh 0 (by omega);exact List.ne_nil_of_mem hp
  refine Aa (F1 (Kd (QC hT (as:=[plD P]) (rest:=[.lst (intD (ws.map Wk.com))]) (R:=Y9 ws.length) (by simp) (by simp) (XY hPne fP.hl fP.hP) ?_)));rintro es a b hT ⟨Ps,rfl,hPs,hQ⟩;refine⟨3,_,rfl,rfl,?_⟩;have hW':Wsh (ws.map (mv d)).length W:=by rw[lm];exact hW
  refine Dl (I_nr [a,b,.lst (intD (ws.map Wk.com)),.lst (Ps.map plD)] (λz=>[some (.ro ns),some (.mu 1),some (.im (.int (j:Int))),some (.im (.int (ws.length:Int))),some (.im (AM ws)),some (.im (wI W)),some (.mu 2),some (.im (.int d)),some (.im (AM (ws.map (mv d)))),some (.im (De o)),some (plD P),z,z12]) Ps) ⟨[],Ps,z11,rfl,rfl,rfl,rfl⟩ ?_ ?_
  .rintro q r' ls hd' ⟨dn,rest,z,e0,er,rfl,rfl⟩;cases rest with
   |nil=>cases er
   |cons Q rest=>
    obtain⟨rfl,rfl⟩:=List.cons.inj er;obtain⟨lQ,hQP⟩:=hQ Q (by rw[e0];simp);have hQS:∀p∈sft d Q,p.1<(ws.map (mv d)).length:=λp hp=>by
     obtain⟨q,hq,rfl⟩:=mem_map.mp hp;rw[lm];exact hQP q hq
    refine⟨_,rfl,?_⟩;dsimp only[set_cons_zero,set_cons_succ];refine BD (Al (AE (Bj (A5 (Aj (A5 (A3 rfl (A5 (A3 rfl (A5 (Aj (A5 (A3 rfl (A5 (A3 rfl (AG ⟨by simp,(IZ d lQ).mono ?_⟩))))))))))))))));rintro q x rfl;refine⟨_,rfl,AG ⟨by simp,(Ht (ws:=ws.map (mv d)) (by rw[lm];exact n8) hQS (by rw[length_map];exact lQ) hW').mono ?_⟩⟩;rintro q x ⟨b1,rfl,hb1⟩;refine⟨_,rfl,AG (MB ?_)⟩;refine Bj (A5 (Aj (A5 (A3 rfl (A5 (A3 rfl (A5 (A3 rfl (AG ⟨by simp,(Ht n8 hQP lQ hW).mono ?_⟩)))))))));rintro q x ⟨b2,rfl,hb2⟩;have eb:b1=b2:=by rw[Bool.eq_iff_iff,hb1,hb2];exact TF E hW hQP
    subst eb;refine⟨_,rfl,AG (MB (GB ⟨_,rfl,(λh=>by simp at h),λ_=>BC ?_⟩))⟩;refine⟨λp hp=>?_,dn++[Q],rest,_,by rw[e0];simp,rfl,rfl,rfl⟩;rw[mem_singleton]at hp;subst hp;rfl
  .rintro ls hd' ⟨dn,rest,z,e0,er,rfl,rfl⟩;refine AK ?_;refine F1 (Cc (Bi (A5 (A3 rfl (A5 (Aj (A5 (A3 rfl (A5 (A3 rfl (AG ⟨by simp,(Ov n8 pm).mono ?_⟩)))))))))));rintro q x rfl;refine⟨_,rfl,AG ⟨Dv,[plD P,plD (BQ ws o 0)],rfl,?_⟩⟩;have hF:∀Q∈[P,BQ ws o 0],Fine ws W Q:=λQ hQ=>by
    simp only[mem_cons,not_mem_nil,or_false]at hQ;rcases hQ with rfl|rfl
    .exact fP
    .exact fR
   refine Dl (I_nr [a,b,.lst (intD (ws.map Wk.com)),.lst (Ps.map plD)] (λy=>[some (.ro ns),some (.mu 1),some (.im (.int (j:Int))),some (.im (.int (ws.length:Int))),some (.im (AM ws)),some (.im (wI W)),some (.mu 2),some (.im (.int d)),some (.im (AM (ws.map (mv d)))),some (.im (De o)),some (plD P),z,y]) [P,BQ ws o 0]) ⟨[],[P,BQ ws o 0],z12,rfl,rfl,rfl,rfl⟩ ?_ ?_
   .rintro q r' ls hd' ⟨dn,rest,y,e0,er,rfl,rfl⟩;cases rest with
    |nil=>cases er
    |cons Q rest=>
     obtain⟨rfl,rfl⟩:=List.cons.inj er;have fQ:=hF Q (by rw[e0];simp);have lQ:Q.length<=62:=by have:=fQ.hl;omega
     refine⟨_,rfl,?_⟩;dsimp only[set_cons_zero,set_cons_succ];refine BD (IF (Dk (Dj (Aj (A5 (A3 rfl (A5 (A3 rfl (A5 (A3 rfl (AG ⟨by simp,(Ht n8 fQ.hP lQ hW).mono ?_⟩)))))))))));rintro q x ⟨b1,rfl,hb1⟩;have:b1=true:=hb1.mpr fQ.pl;subst this;refine⟨_,rfl,_,rfl,?_⟩;rw[if_neg (by simp)];refine Dk (Dj (Aj (A5 (A3 rfl (A5 (A3 rfl (A5 (A3 rfl (A5 (A3 rfl (AG ⟨by simp,(WR E fQ.hP lQ fQ.hh fQ.inj fQ.hb hd1).mono ?_⟩)))))))))));rintro q x rfl;refine⟨_,rfl,_,rfl,(λh=>by cases h),λ_=>BC ?_⟩;exact⟨AV _,dn++[Q],rest,_,by rw[e0];simp,rfl,rfl,rfl⟩
   .rintro ls hd' ⟨dn,rest,y,e0,er,rfl,rfl⟩;have ca:=tap.cl hT;exact⟨by simp[ca.1,ca.2],_,rfl,AV _,j+1,a,b,_,_,_,_,_,_,_,_,_,_,_,rfl,by omega,rfl,rfl,hT⟩
 .rintro ls hd ⟨j,a,b,z2,z3,z4,z5,z6,z7,z8,z9,z10,z11,z12,er,hj,rfl,rfl,hT⟩;exact AK (BB (AX rfl))
theorem law_eq(ns:List Int):∃hd,cn [.ro ns] []=some (.im (.bl true),hd):=by
 obtain⟨d,x,e,rfl⟩:=Yk ns;exact⟨x,e⟩
open PySem L2 PySem.W PyProof.Rows
abbrev b8:Str×Str×Nat×Nat:=("by_ends",((("by_ends":Str)++".<locals>.")++"<lambda>"),91,47)
abbrev xS:List (Str×Str×Nat×Nat):=[b8]
abbrev tS(P:Str->Addr):List Tb:=xS.map λx=>(P x.1,x.2)
set_option maxHeartbeats 4000000 in
theorem all_mk{l:PySem.W.OpenLaw}{w:World}{K:PySem.W.Frag}{h:Heap}{mg:Str->Option Value}{fa f0 f1 f2 f3 f4 f5 f6 f7 f8 f9 f10 f11 f12 f13 f14 f15 f16 f17 f18 f19 f20 f21 f22 f23 f24 f25 f26 f27 f28 f29 f30 f31 f32:Addr}(X:K.In h)(G:h.Ns mainGlobals mg){c P:Str->Addr}(hfa:mg "law"=some (.ref fa))(hx:∀x∈xS,h.get? (P x.1)=some (tabObj #[])/\CodeHd h (c x.1) (P x.1)/\∃a o fd,mg x.1=some (.ref a)/\h.get? a=some o/\o.data=.func fd/\fd.code=.ref (c x.1))
 {od0 an0 od1 an1 od2 an2 od3 an3 od4 an4 od5 an5 od6 an6 od7 an7 od8 an8 od9 an9 od10 an10 od11 an11 od12 an12 od13 an13 od14 an14 od15 an15 od16 an16 od17 an17 od18 an18 od19 an19 od20 an20 od21 an21 od22 an22 od23 an23 od24 an24 od25 an25 od26 an26 od27 an27 od28 an28 od29 an29 od30 an30 od31 an31 od32 an32:Option Addr} {sl0 sl1 sl2 sl3 sl4 sl5 sl6 sl7 sl8 sl9 sl10 sl11 sl12 sl13 sl14 sl15 sl16 sl17 sl18 sl19 sl20 sl21 sl22 sl23 sl24 sl25 sl26 sl27 sl28 sl29 sl30 sl31 sl32:Array (Option Value)} {oc0 kV0 dc0 pm0 cd0 ct0 oc1 kV1 dc1 pm1 cd1 ct1 oc2 kV2 dc2 pm2 cd2 ct2 oc3 kV3 dc3 pm3 cd3 ct3 oc4 kV4 dc4 pm4 cd4 ct4 oc5 kV5 dc5 pm5 cd5 ct5 oc6 kV6 dc6 pm6 cd6 ct6 oc7 kV7 dc7 pm7 cd7 ct7 oc8 kV8 dc8 pm8 cd8 ct8 oc9 kV9 dc9 pm9 cd9 ct9 oc10 kV10 dc10 pm10 cd10 ct10 oc11 kV11 dc11 pm11 cd11 ct11 oc12 kV12 dc12 pm12 cd12 ct12 oc13 kV13 dc13 pm13 cd13 ct13 oc14 kV14 dc14 pm14 cd14 ct14 oc15 kV15 dc15 pm15 cd15 ct15 oc16 kV16 dc16 pm16 cd16 ct16 oc17 kV17 dc17 pm17 cd17 ct17 oc18 kV18 dc18 pm18 cd18 ct18 oc19 kV19 dc19 pm19 cd19 ct19 oc20 kV20 dc20 pm20 cd20 ct20 oc21 kV21 dc21 pm21 cd21 ct21 oc22 kV22 dc22 pm22 cd22 ct22 oc23 kV23 dc23 pm23 cd23 ct23 oc24 kV24 dc24 pm24 cd24 ct24 oc25 kV25 dc25 pm25 cd25 ct25 oc26 kV26 dc26 pm26 cd26 ct26 oc27 kV27 dc27 pm27 cd27 ct27 oc28 kV28 dc28 pm28 cd28 ct28 oc29 kV29 dc29 pm29 cd29 ct29 oc30 kV30 dc30 pm30 cd30 ct30 oc31 kV31 dc31 pm31 cd31 ct31 oc32 kV32 dc32 pm32 cd32 ct32:Value}
  (a0:PySem.W.nsIn K mainGlobals "law"=some (some (.ref f0))) (l0:K.lookup f0=some ⟨oc0,od0,.func (PySem.W.fnOf "law" "law" (DF Eo) (CD Eo) (AN Eo) .none kV0 dc0 pm0 an0 cd0 ct0),sl0⟩) (c0:PySem.W.codeIn K cd0 "law"=true) (k0:PySem.W.keepIn K (.ref f0)=true)
 (h1:Fx K "run" Lx f1 oc1 kV1 dc1 pm1 cd1 ct1 od1 an1 sl1)
 (h2:Fx K "is_number" Do f2 oc2 kV2 dc2 pm2 cd2 ct2 od2 an2 sl2)
 (h3:Fx K "is_number_from" Cp f3 oc3 kV3 dc3 pm3 cd3 ct3 od3 an3 sl3)
 (h4:Fx K "is_number_of_work" CK f4 oc4 kV4 dc4 pm4 cd4 ct4 od4 an4 sl4)
 (h5:Fx K "is_tuple_of" E3 f5 oc5 kV5 dc5 pm5 cd5 ct5 od5 an5 sl5)
 (h6:Fx K "is_piece" FI f6 oc6 kV6 dc6 pm6 cd6 ct6 od6 an6 sl6)
 (h7:Fx K "one_at_a_time" DJ f7 oc7 kV7 dc7 pm7 cd7 ct7 od7 an7 sl7)
 (h8:Fx K "lengths_done" DW f8 oc8 kV8 dc8 pm8 cd8 ct8 od8 an8 sl8)
 (h9:Fx K "keeps_wishes" DX f9 oc9 kV9 dc9 pm9 cd9 ct9 od9 an9 sl9)
 (h10:Fx K "ends_of" ED f10 oc10 kV10 dc10 pm10 cd10 ct10 od10 an10 sl10)
 (h11:Fx K "is_plan" Fo f11 oc11 kV11 dc11 pm11 cd11 ct11 od11 an11 sl11)
 (h12:Fx K "_law_tape" Ji f12 oc12 kV12 dc12 pm12 cd12 ct12 od12 an12 sl12)
 (h13:Fx K "_law_pick" Dn f13 oc13 kV13 dc13 pm13 cd13 ct13 od13 an13 sl13)
 (h14:Fx K "_law_cost" HW f14 oc14 kV14 dc14 pm14 cd14 ct14 od14 an14 sl14)
 (h15:Fx K "_law_works" IM f15 oc15 kV15 dc15 pm15 cd15 ct15 od15 an15 sl15)
 (h16:Fx K "_law_wishes" Gg f16 oc16 kV16 dc16 pm16 cd16 ct16 od16 an16 sl16)
 (h17:Fx K "_law_order" IN f17 oc17 kV17 dc17 pm17 cd17 ct17 od17 an17 sl17)
 (h18:Fx K "_law_may" Ly f18 oc18 kV18 dc18 pm18 cd18 ct18 od18 an18 sl18)
 (h19:Fx K "_law_plan" Jk f19 oc19 kV19 dc19 pm19 cd19 ct19 od19 an19 sl19)
 (h20:Fx K "_law_later" GE f20 oc20 kV20 dc20 pm20 cd20 ct20 od20 an20 sl20)
 (h21:Fx K "later_due" Ep f21 oc21 kV21 dc21 pm21 cd21 ct21 od21 an21 sl21)
 (h22:Fx K "moved_cost" EO f22 oc22 kV22 dc22 pm22 cd22 ct22 od22 an22 sl22)
 (h23:Fx K "with_work" En f23 oc23 kV23 dc23 pm23 cd23 ct23 od23 an23 sl23)
 (h24:Fx K "with_coming" E2 f24 oc24 kV24 dc24 pm24 cd24 ct24 od24 an24 sl24)
 (h25:Fx K "_law_moved" IP f25 oc25 kV25 dc25 pm25 cd25 ct25 od25 an25 sl25)
 (h26:Fx K "_law_near" Jl f26 oc26 kV26 dc26 pm26 cd26 ct26 od26 an26 sl26)
 (a27:PySem.W.nsIn K mainGlobals "by_ends"=some (some (.ref f27))) (l27:K.lookup f27=some ⟨oc27,od27,.func (PySem.W.fnOf "by_ends" "by_ends" (DF C6) (CD C6) (AN C6) .none kV27 dc27 pm27 an27 cd27 ct27),sl27⟩) (c27:PySem.W.codeIn K cd27 "by_ends"=true) (k27:PySem.W.keepIn K (.ref f27)=true)
 (h28:Fx K "steps_at" FH f28 oc28 kV28 dc28 pm28 cd28 ct28 od28 an28 sl28)
 (h29:Fx K "cost_at" Fp f29 oc29 kV29 dc29 pm29 cd29 ct29 od29 an29 sl29)
 (h30:Fx K "costs_of" EQ f30 oc30 kV30 dc30 pm30 cd30 ct30 od30 an30 sl30)
 (h31:Fx K "worth" IL f31 oc31 kV31 dc31 pm31 cd31 ct31 od31 an31 sl31)
 (h32:Fx K "_law_same" Jj f32 oc32 kV32 dc32 pm32 cd32 ct32 od32 an32 sl32)
 (z_list:PySem.W.nsIn K mainGlobals "list"=some none)
 (z_tuple:PySem.W.nsIn K mainGlobals "tuple"=some none)
 (z_len:PySem.W.nsIn K mainGlobals "len"=some none)
 (z_range:PySem.W.nsIn K mainGlobals "range"=some none)
 (z_repr:PySem.W.nsIn K mainGlobals "repr"=some none)
 (z_sum:PySem.W.nsIn K mainGlobals "sum"=some none)
 (z_min:PySem.W.nsIn K mainGlobals "min"=some none)
 (z_max:PySem.W.nsIn K mainGlobals "max"=some none)
 (z_abs:PySem.W.nsIn K mainGlobals "abs"=some none)
 (z_all:PySem.W.nsIn K mainGlobals "all"=some none)
 (z_any:PySem.W.nsIn K mainGlobals "any"=some none)
 (z_sorted:PySem.W.nsIn K mainGlobals "sorted"=some none)
 (z_zip:PySem.W.nsIn K mainGlobals "zip"=some none)
 (z_isinstance:PySem.W.nsIn K mainGlobals "isinstance"=some none)
 (z_int:PySem.W.nsIn K mainGlobals "int"=some none)
 (z_bool:PySem.W.nsIn K mainGlobals "bool"=some none)
 (z_str:PySem.W.nsIn K mainGlobals "str"=some none)
 (z_set:PySem.W.nsIn K mainGlobals "set"=some none)
 (z_enumerate:PySem.W.nsIn K mainGlobals "enumerate"=some none)
 (z_reversed:PySem.W.nsIn K mainGlobals "reversed"=some none)
 (z_dict:PySem.W.nsIn K mainGlobals "dict"=some none):
 (∃g,K.lookup mainGlobals=some g)/\∃fd:FuncData,(∀(s:Shared) (v:Value),BindsTo s fd ⟨[v],[]⟩ [("_law_script",v)])/\∀base:Heap,(C3 K (tS P)).In base->base.Ns mainGlobals mg->(∀x∈xS,CodeHd base (c x.1) (P x.1))->(∀x∈xS,base.BuiltinsAt mg (P x.1))->FnOk l.prog w (C3 K (tS P)) mg base CX0 6 fa fd ["_law_script"] (spF (C3 K (tS P)) 1 cn):=by
 have hP:∀P'∈(tS P).map (·.1),h.get? P'=some (tabObj #[]):=λP' hp=>by
  obtain⟨t,ht,rfl⟩:=mem_map.mp hp;obtain⟨x,hxx,rfl⟩:=mem_map.mp ht;exact(hx x hxx).1
 have e:=hfa.symm.trans (PySem.W.mg_of X G a0);cases e;have F0:=Fun.mark (ts:=tS P) (NA (st:=Eo) l0 c0 k0) X hP;have D0:DefAt (C3 K (tS P)) mg "law" Eo _ _ ["_law_script"]:=⟨F0,PySem.W.mg_of X G a0,F0.binds (ps:=["_law_script"]) λ_ _ _ _ _ _ us hl=>match us,hl with|[_],_=>rfl⟩
 obtain⟨d1,D1⟩:=B1 (ts:=tS P) h1 X G hP (ps:=["works","order"]) λ_ _ _ _ _ _ us hl=>match us,hl with|[_,_],_=>rfl
 obtain⟨d2,D2⟩:=B1 (ts:=tS P) h2 X G hP (ps:=["thing"]) λ_ _ _ _ _ _ us hl=>match us,hl with|[_],_=>rfl
 obtain⟨d3,D3⟩:=B1 (ts:=tS P) h3 X G hP (ps:=["least","thing"]) λ_ _ _ _ _ _ us hl=>match us,hl with|[_,_],_=>rfl
 obtain⟨d4,D4⟩:=B1 (ts:=tS P) h4 X G hP (ps:=["many","thing"]) λ_ _ _ _ _ _ us hl=>match us,hl with|[_,_],_=>rfl
 obtain⟨d5,D5⟩:=B1 (ts:=tS P) h5 X G hP (ps:=["many","thing"]) λ_ _ _ _ _ _ us hl=>match us,hl with|[_,_],_=>rfl
 obtain⟨d6,D6⟩:=B1 (ts:=tS P) h6 X G hP (ps:=["works","thing"]) λ_ _ _ _ _ _ us hl=>match us,hl with|[_,_],_=>rfl
 obtain⟨d7,D7⟩:=B1 (ts:=tS P) h7 X G hP (ps:=["pieces"]) λ_ _ _ _ _ _ us hl=>match us,hl with|[_],_=>rfl
 obtain⟨d8,D8⟩:=B1 (ts:=tS P) h8 X G hP (ps:=["works","pieces"]) λ_ _ _ _ _ _ us hl=>match us,hl with|[_,_],_=>rfl
 obtain⟨d9,D9⟩:=B1 (ts:=tS P) h9 X G hP (ps:=["wishes","pieces","ends"]) λ_ _ _ _ _ _ us hl=>match us,hl with|[_,_,_],_=>rfl
 obtain⟨d10,D10⟩:=B1 (ts:=tS P) h10 X G hP (ps:=["works","plan"]) λ_ _ _ _ _ _ us hl=>match us,hl with|[_,_],_=>rfl
 obtain⟨d11,D11⟩:=B1 (ts:=tS P) h11 X G hP (ps:=["works","wishes","thing"]) λ_ _ _ _ _ _ us hl=>match us,hl with|[_,_,_],_=>rfl
 obtain⟨d12,D12⟩:=B1 (ts:=tS P) h12 X G hP (ps:=["_law_script"]) λ_ _ _ _ _ _ us hl=>match us,hl with|[_],_=>rfl
 obtain⟨d13,D13⟩:=B1 (ts:=tS P) h13 X G hP (ps:=["_law_tape_here","_law_many"]) λ_ _ _ _ _ _ us hl=>match us,hl with|[_,_],_=>rfl
 obtain⟨d14,D14⟩:=B1 (ts:=tS P) h14 X G hP (ps:=["_law_tape_here","_law_way"]) λ_ _ _ _ _ _ us hl=>match us,hl with|[_,_],_=>rfl
 obtain⟨d15,D15⟩:=B1 (ts:=tS P) h15 X G hP (ps:=["_law_tape_here","_law_many","_law_alike"]) λ_ _ _ _ _ _ us hl=>match us,hl with|[_,_,_],_=>rfl
 obtain⟨d16,D16⟩:=B1 (ts:=tS P) h16 X G hP (ps:=["_law_tape_here","_law_many"]) λ_ _ _ _ _ _ us hl=>match us,hl with|[_,_],_=>rfl
 obtain⟨d17,D17⟩:=B1 (ts:=tS P) h17 X G hP (ps:=["_law_tape_here","_law_many","_law_wishes_here"]) λ_ _ _ _ _ _ us hl=>match us,hl with|[_,_,_],_=>rfl
 obtain⟨d18,D18⟩:=B1 (ts:=tS P) h18 X G hP (ps:=["_law_works_here","_law_wishes_here","_law_left","_law_work"]) λ_ _ _ _ _ _ us hl=>match us,hl with|[_,_,_,_],_=>rfl
 obtain⟨d19,D19⟩:=B1 (ts:=tS P) h19 X G hP (ps:=["_law_tape_here","_law_works_here","_law_wishes_here"]) λ_ _ _ _ _ _ us hl=>match us,hl with|[_,_,_],_=>rfl
 obtain⟨d20,D20⟩:=B1 (ts:=tS P) h20 X G hP (ps:=["_law_plan_here","_law_days"]) λ_ _ _ _ _ _ us hl=>match us,hl with|[_,_],_=>rfl
 obtain⟨d21,D21⟩:=B1 (ts:=tS P) h21 X G hP (ps:=["cost","days"]) λ_ _ _ _ _ _ us hl=>match us,hl with|[_,_],_=>rfl
 obtain⟨d22,D22⟩:=B1 (ts:=tS P) h22 X G hP (ps:=["cost","days"]) λ_ _ _ _ _ _ us hl=>match us,hl with|[_,_],_=>rfl
 obtain⟨d23,D23⟩:=B1 (ts:=tS P) h23 X G hP (ps:=["works","j","work"]) λ_ _ _ _ _ _ us hl=>match us,hl with|[_,_,_],_=>rfl
 obtain⟨d24,D24⟩:=B1 (ts:=tS P) h24 X G hP (ps:=["works","j","number"]) λ_ _ _ _ _ _ us hl=>match us,hl with|[_,_,_],_=>rfl
 obtain⟨d25,D25⟩:=B1 (ts:=tS P) h25 X G hP (ps:=["_law_works_here","_law_days"]) λ_ _ _ _ _ _ us hl=>match us,hl with|[_,_],_=>rfl
 obtain⟨d26,D26⟩:=B1 (ts:=tS P) h26 X G hP (ps:=["_law_tape_here","_law_plan_here"]) λ_ _ _ _ _ _ us hl=>match us,hl with|[_,_],_=>rfl
 have F27:=Fun.mark (ts:=tS P) (NA (st:=C6) l27 c27 k27) X hP;have D27:DefAt (C3 K (tS P)) mg "by_ends" C6 _ _ ["works","plan"]:=⟨F27,PySem.W.mg_of X G a27,F27.binds (ps:=["works","plan"]) λ_ _ _ _ _ _ us hl=>match us,hl with|[_,_],_=>rfl⟩
 obtain⟨d28,D28⟩:=B1 (ts:=tS P) h28 X G hP (ps:=["rows","t"]) λ_ _ _ _ _ _ us hl=>match us,hl with|[_,_],_=>rfl
 obtain⟨d29,D29⟩:=B1 (ts:=tS P) h29 X G hP (ps:=["cost","t"]) λ_ _ _ _ _ _ us hl=>match us,hl with|[_,_],_=>rfl
 obtain⟨d30,D30⟩:=B1 (ts:=tS P) h30 X G hP (ps:=["works","ends"]) λ_ _ _ _ _ _ us hl=>match us,hl with|[_,_],_=>rfl
 obtain⟨d31,D31⟩:=B1 (ts:=tS P) h31 X G hP (ps:=["works","ends","question"]) λ_ _ _ _ _ _ us hl=>match us,hl with|[_,_,_],_=>rfl
 obtain⟨d32,D32⟩:=B1 (ts:=tS P) h32 X G hP (ps:=["_law_works_here","_law_others","_law_plan_here","_law_days"]) λ_ _ _ _ _ _ us hl=>match us,hl with|[_,_,_,_],_=>rfl
 have B:BltA mg:=⟨PySem.W.mg_none_of X G z_list,PySem.W.mg_none_of X G z_tuple,PySem.W.mg_none_of X G z_len,PySem.W.mg_none_of X G z_range,PySem.W.mg_none_of X G z_repr,PySem.W.mg_none_of X G z_sum,PySem.W.mg_none_of X G z_min,PySem.W.mg_none_of X G z_max,PySem.W.mg_none_of X G z_abs,PySem.W.mg_none_of X G z_all,PySem.W.mg_none_of X G z_any,PySem.W.mg_none_of X G z_sorted,PySem.W.mg_none_of X G z_zip,PySem.W.mg_none_of X G z_isinstance,PySem.W.mg_none_of X G z_int,PySem.W.mg_none_of X G z_bool,PySem.W.mg_none_of X G z_str,PySem.W.mg_none_of X G z_set,PySem.W.mg_none_of X G z_enumerate,PySem.W.mg_none_of X G z_reversed,PySem.W.mg_none_of X G z_dict⟩
 have du:(cd27:Value)=.ref (c "by_ends"):=by
  obtain⟨_,_,a,ob,fd,h1,h2,h3,h4⟩:=hx _ (show b8∈xS by simp[xS]);have e1:=h1.symm.trans (PySem.W.mg_of X G a27);cases e1;have e2:=h2.symm.trans (X _ _ l27);cases e2;cases h3;exact h4
 have nd:((EM (C3 K (tS P))).map (·.1)).Nodup:=by rw[HQ];simp
 have hg:∃g,K.lookup mainGlobals=some g:=by
  cases e:K.lookup mainGlobals with
  |some g=>exact⟨g,rfl⟩
  |none=>have z:=a0;unfold PySem.W.nsIn at z;rw[e]at z;cases z
 refine⟨hg,PySem.W.fnOf "law" "law" (DF Eo) (CD Eo) (AN Eo) .none kV0 dc0 pm0 an0 cd0 ct0,λs v=>.of_eq rfl,λbase _ _ hd bl=>?_⟩;have eF:LamC (C3 K (tS P)) mg base (PySem.W.fnOf "by_ends" "by_ends" (DF C6) (CD C6) (AN C6) .none kV27 dc27 pm27 an27 cd27 ct27) (c "by_ends") (P "by_ends") ((("by_ends":Str)++".<locals>.")++"<lambda>") ⟨91,47,91,70⟩:=⟨du,hd _ (show b8∈xS by simp[xS]),bl _ (show b8∈xS by simp[xS]),⟨91,47,0,0⟩,by rw[HQ];exact mem_map.mpr ⟨(P b8.1,b8.2),mem_map.mpr ⟨b8,by simp[xS],rfl⟩,rfl⟩,nd,rfl,rfl⟩
 have dI:=T15.fA (P:=l.prog) (w:=w) (base:=base) D1  B;have ag:=T15.da (P:=l.prog) (w:=w) (base:=base) D2  B;have bI:=T15.cr (P:=l.prog) (w:=w) (base:=base) D3 D2 ag B;have ay:=T15.cS (P:=l.prog) (w:=w) (base:=base) D4 D3 bI B;have c5:=T15.dL (P:=l.prog) (w:=w) (base:=base) D5  B;have cU:=T15.dm (P:=l.prog) (w:=w) (base:=base) D6 D2 ag D4 ay D5 c5 B;have bX:=T15.cv (P:=l.prog) (w:=w) (base:=base) D7  B;have be:=T15.dD (P:=l.prog) (w:=w) (base:=base) D8  B;have bf:=T15.dE (P:=l.prog) (w:=w) (base:=base) D9  B;have aX:=T15.dz (P:=l.prog) (w:=w) (base:=base) D10  B;have bw:=T15.e9 (P:=l.prog) (w:=w) (base:=base) D11 D6 cU D7 bX D8 be D9 bf D10 aX B;have dg:=T15.eR (P:=l.prog) (w:=w) (base:=base) D12  B;have HR:=T15.eT (P:=l.prog) (w:=w) (base:=base) D13  B;have cK:=T15.eU (P:=l.prog) (w:=w) (base:=base) D14 D13 HR B;have dP:=T15.eK (P:=l.prog) (w:=w) (base:=base) D15 D13 HR D14 cK B;have cx:=T15.eI (P:=l.prog) (w:=w) (base:=base) D16 D13 HR B;have dQ:=T15.eL (P:=l.prog) (w:=w) (base:=base) D17 D13 HR B;have eC:=T15.fB (P:=l.prog) (w:=w) (base:=base) D18  B;have dh:=T15.eV (P:=l.prog) (w:=w) (base:=base) D19 D13 HR D18 eC B;have bP:=T15.eM (P:=l.prog) (w:=w) (base:=base) D20  B;have cG:=T15.db (P:=l.prog) (w:=w) (base:=base) D21  B;have bY:=T15.dU (P:=l.prog) (w:=w) (base:=base) D22 D21 cG B;have cH:=T15.de (P:=l.prog) (w:=w) (base:=base) D23  B;have c8:=T15.dO (P:=l.prog) (w:=w) (base:=base) D24 D23 cH B;have dR:=T15.eN (P:=l.prog) (w:=w) (base:=base) D25 D22 bY D24 c8 B;have di:=T15.eW (P:=l.prog) (w:=w) (base:=base) D26 D13 HR B;have cF:=T15.eB (P:=l.prog) (w:=w) (base:=base) D27 D10 aX eF B;have cT:=T15.dk (P:=l.prog) (w:=w) (base:=base) D28  B;have cW:=T15.dw (P:=l.prog) (w:=w) (base:=base) D29 D28 cT B;have ar:=T15.dq (P:=l.prog) (w:=w) (base:=base) D30 D29 cW B;have cq:=T15.eJ (P:=l.prog) (w:=w) (base:=base) D31 D30 ar B;have dj:=T15.eX (P:=l.prog) (w:=w) (base:=base) D32 D10 aX D27 cF D30 ar D31 cq D20 bP B;have fJ:=T15.fC (P:=l.prog) (w:=w) (base:=base) D0 D1 dI D11 bw D12 dg D13 HR D14 cK D15 dP D16 cx D17 dQ D19 dh D20 bP D25 dR D26 di D32 dj B;exact fJ
end T15
def T15.vw:PySem.Program:={ PySem.Challenge.pw_benchdays_k15_whole_moved_by_days with main:={ PySem.Challenge.pw_benchdays_k15_whole_moved_by_days.main with body:=[T15.top 1,T15.top 2,T15.top 3,T15.top 4,T15.top 6,T15.top 8,T15.top 9,T15.top 11,T15.top 12,T15.top 13,T15.top 14,T15.top 16,T15.top 17,T15.top 18,T15.top 19,T15.top 20,T15.top 21,T15.top 22,T15.top 24,T15.top 25,T15.top 27,T15.top 28,T15.top 30,T15.top 31,T15.top 32,T15.top 33,T15.top 34,T15.top 35,T15.top 36,T15.top 37,T15.top 38,T15.top 39,T15.top 40,T15.top 41,T15.top 42] } }
open PySem PySem.W PyProof.Rows
local macro_rules | `(tactic| o_head $H) => `(tactic| (refine holds_open (r := PySem.Challenge.rw_benchdays_k15_whole_moved_by_days.row) (q := T15.vw) (loose := []) (Xt := λ s => xlAt T15.vw [] s && recOk (RowW.records (OpenRow.toRowW PySem.Challenge.rw_benchdays_k15_whole_moved_by_days.row)) s) (XP := XL T15.vw []) (Yf := Hook.obs $H) (Ya := Hook.val $H) (YP := Hook.says $H) (N := 100000) ?hl (Hook.of $H) (Hook.keeps $H) (λ s e => xl_of s (Bool.and_eq_true_iff.mp e).1) XL.keeps (by rfl) (by rfl) (by rfl) (λ s e => recFacts_of (Bool.and_eq_true_iff.mp e).2) (by rfl) (by first | assumption | decide +kernel) (by decide +kernel) ⟨rfl, rfl, rfl, rfl, rfl, by decide +kernel⟩ ?hw ?hc; (case hl => exact λ w => by kernel_rfl)))
set_option maxRecDepth 100000 in
set_option maxHeartbeats 0 in
theorem PySem.Challenge.cw_benchdays_k15_whole_moved_by_days_holds : PySem.Challenge.rw_benchdays_k15_whole_moved_by_days.Holds := by
 w_on;o_law;k_head;(case hw=>w_witness2)
 k_fill
 refine L2.walkL T15.xS (l:=PySem.Challenge.rw_benchdays_k15_whole_moved_by_days) (n:=63) (k:=6) (F:=T15.cn) rfl (by decide) rfl ⟨rfl,by decide,by decide,rfl⟩ (by intro x hx;simp only[T15.xS,mem_cons,not_mem_nil,or_false]at hx;subst hx;exact⟨_,rfl⟩) T15.law_eq (λw h Y=>PySem.W.km_in_of Y) ?F
 case F=>
  intro w mg fa h c P KX G hmg hx;refine' T15.all_mk KX G hmg hx ?a0 ?l0 ?c0 ?k0 ?h1 ?h2 ?h3 ?h4 ?h5 ?h6 ?h7 ?h8 ?h9 ?h10 ?h11 ?h12 ?h13 ?h14 ?h15 ?h16 ?h17 ?h18 ?h19 ?h20 ?h21 ?h22 ?h23 ?h24 ?h25 ?h26 ?a27 ?l27 ?c27 ?k27 ?h28 ?h29 ?h30 ?h31 ?h32 ?z_list ?z_tuple ?z_len ?z_range ?z_repr ?z_sum ?z_min ?z_max ?z_abs ?z_all ?z_any ?z_sorted ?z_zip ?z_isinstance ?z_int ?z_bool ?z_str ?z_set ?z_enumerate ?z_reversed ?z_dict
  case a0|l0|c0|k0=>k_is
  case h1|h2|h3|h4|h5|h6|h7|h8|h9|h10|h11|h12|h13|h14|h15|h16|h17|h18|h19|h20|h21|h22|h23|h24|h25|h26=>(refine' ⟨?a,?l,?c,?k⟩;case a|l|c|k=>k_is)
  case a27|l27|c27|k27=>k_is
  case h28|h29|h30|h31|h32=>(refine' ⟨?a,?l,?c,?k⟩;case a|l|c|k=>k_is)
  case z_list|z_tuple|z_len|z_range|z_repr|z_sum|z_min|z_max|z_abs|z_all|z_any|z_sorted|z_zip|z_isinstance|z_int|z_bool|z_str|z_set|z_enumerate|z_reversed|z_dict=>k_is
