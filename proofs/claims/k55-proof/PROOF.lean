import PyProof.Rows.All
import Wide.All
import OpenK.AllK
import Wide.FinOn
import Lean
import PyProof.EqAt
import PyProof.EqKinds
import PyProof.TupleCall
import KE.KSortKey
import PyProof.ListMulRoad
import PyProof.Draws
import PyProof.EnumMake
import PyProof.ListNew
import KE.KRevIter
import KE.KMinKey
import PySem.Challenge.RW_benchdays_k55_ratios_told
set_option Elab.async false
set_option linter.all false
set_option maxRecDepth 100000
set_option compiler.extract_closed false
local macro_rules | `(tactic| omega) => `(tactic| first | lia | omega (config := {}))
namespace L2
open PySem PySem.Spec PyProof.Rows
noncomputable abbrev Key:=Sum Int Str
noncomputable def Oz:Key->Value->Bool
  | .inl k,v=>Value.isInt k v
  | .inr x,v=>Value.isStrOf x v
noncomputable def Ui(w:World):Key->Int
  | .inl k=>hashInt k
  | .inr x=>hashStr w x
theorem BM:∀ {k:Key} {v:Value},Oz k v=true->(∃ i t,k=Sum.inl i/\v=Value.int i t) ∨ (∃ x t,k=Sum.inr x/\v=Value.str x t)
  | .inl i,v,h=>by
    obtain⟨t,e⟩:=Value.isInt_shape (k:=i) (v:=v) h
    exact .inl ⟨i,t,rfl,e⟩
  | .inr x,v,h=>by
    obtain⟨t,e⟩:=Value.isStrOf_shape (x:=x) (v:=v) h
    exact .inr ⟨x,t,rfl,e⟩
theorem T6(a b:Int):decide ((Sum.inl a:Key)=Sum.inl b)=(a == b):=by
  by_cases e:a=b
  . subst e;simp
  . have h:¬ (Sum.inl a:Key)=Sum.inl b:=λ q=>e (Sum.inl.inj q)
    rw[decide_eq_false h]
    exact(beq_eq_false_iff_ne.mpr e).symm
theorem T3(a b:Str):decide ((Sum.inr a:Key)=Sum.inr b)=decide (a=b):=by
  by_cases e:a=b
  . subst e;simp
  . have h:¬ (Sum.inr a:Key)=Sum.inr b:=λ q=>e (Sum.inr.inj q)
    rw[decide_eq_false h,decide_eq_false e]
theorem T5(a:Int)(b:Str):decide ((Sum.inl a:Key)=Sum.inr b)=false:=decide_eq_false (λ q=>nomatch q)
theorem T4(a:Str)(b:Int):decide ((Sum.inr a:Key)=Sum.inl b)=false:=decide_eq_false (λ q=>nomatch q)
noncomputable def Hl(prog:Program)(w:World):PySem.KeyKind prog w Key where
  is:=Oz
  hash:=Ui w
  inj:=λ v a b ha hb=>by
    rcases BM ha with⟨i,t,rfl,rfl⟩|⟨x,t,rfl,rfl⟩
    . rcases BM hb with⟨j,u,rfl,e⟩|⟨y,u,rfl,e⟩
      . injection e with e1 _;rw[e1]
      . exact nomatch e
    . rcases BM hb with⟨j,u,rfl,e⟩|⟨y,u,rfl,e⟩
      . exact nomatch e
      . injection e with e1 _;rw[e1]
  byValue:=λ k v h=>by
    rcases BM h with⟨i,t,rfl,rfl⟩|⟨x,t,rfl,rfl⟩ <;> rfl
  pyHash:=λ hv h=>by
    rcases BM hv with⟨i,t,rfl,rfl⟩|⟨x,t,rfl,rfl⟩
    . exact wpAny_pyHash_int h
    . exact wpAny_pyHash_str h
  eqBool:=λ hu hv h=>by
    rcases BM hu with⟨i,t,rfl,rfl⟩|⟨x,t,rfl,rfl⟩
    . rcases BM hv with⟨j,u,rfl,rfl⟩|⟨y,u,rfl,rfl⟩
      . rw[T6]at h;exact wpAny_eqBool_int h
      . rw[T5]at h;exact SeqAt.EqAt.int_str i t y u _ _ _ _ h
    . rcases BM hv with⟨j,u,rfl,rfl⟩|⟨y,u,rfl,rfl⟩
      . rw[T4]at h;exact SeqAt.EqAt.str_int x t j u _ _ _ _ h
      . rw[T3]at h;exact wpAny_eqBool_str h
  «strs»:=λ k x t v h=>by
    rcases BM h with⟨i,u,rfl,e⟩|⟨y,u,rfl,e⟩
    . exact nomatch e
    . injection e with e1 _
      subst e1
      cases v <;> rfl
end L2
namespace L2
open PySem PySem.Spec PyProof.Rows
inductive V where
  | non|bl (b:Bool)|int (i:Int)|str (x:Str)|byt (b:Array UInt8)|flt (b:UInt64)|ref (a:Addr)|ty (n:String)
  deriving DecidableEq
noncomputable def RelV:V->Value->Prop
  | .non,u=>u=Value.none
  | .bl b,u=>u=Value.bool b
  | .int i,u=>∃ t,u=Value.int i t
  | .str x,u=>∃ t,u=Value.str x t
  | .byt b,u=>∃ t,u=Value.bytes b t
  | .flt b,u=>∃ t,u=Value.float b t
  | .ref a,u=>u=Value.ref a
  | .ty n,u=>u=Value.type n
noncomputable abbrev Vals:List V->List Value->Prop:=Paired RelV
theorem Vals.length{xs:List V}{us:List Value}(r:Vals xs us):xs.length=us.length:=Paired.length r
theorem Vals.get:∀ {xs:List V} {us:List Value} {i:Nat} {x:V},Vals xs us->xs[i]? = some x->∃ u,us[i]? = some u/\RelV x u
  | _,_,_,_,.nil,e=>by simp at e
  | _,_,0,_,.cons r _,e=>by simp at e;subst e;exact⟨_,rfl,r⟩
  | _,_,i + 1,x,.cons _ t,e=>by
    obtain⟨u,h1,h2⟩:=Vals.get (i:=i) (x:=x) t (by simpa using e)
    exact⟨u,by simpa using h1,h2⟩
theorem Vals.set{x:V}{u:Value}(r:RelV x u):∀ {xs:List V} {us:List Value} (i:Nat),Vals xs us->Vals (xs.set i x) (us.set i u)
  | _,_,_,.nil=>.nil
  | _,_,0,.cons _ t=>.cons r t
  | _,_,i + 1,.cons q t=>.cons q (Vals.set r i t)
theorem Vals.append:∀ {xs ys:List V} {us ws:List Value},Vals xs us->Vals ys ws->Vals (xs ++ ys) (us ++ ws)
  | _,_,_,_,.nil,s=>s
  | _,_,_,_,.cons r t,s=>.cons r (Vals.append t s)
theorem Vals.take:∀ {xs:List V} {us:List Value} (n:Nat),Vals xs us->Vals (xs.take n) (us.take n)
  | _,_,0,_=>.nil
  | _,_,_ + 1,.nil=>.nil
  | _,_,n + 1,.cons r t=>.cons r (Vals.take n t)
theorem Vals.drop:∀ {xs:List V} {us:List Value} (n:Nat),Vals xs us->Vals (xs.drop n) (us.drop n)
  | _,_,0,r=>r
  | _,_,_ + 1,.nil=>.nil
  | _,_,n + 1,.cons _ t=>Vals.drop n t
noncomputable def RelO:Option V->Option Value->Prop
  | some v,some u=>RelV v u
  | none,none=>True
  | _,_=>False
noncomputable def KV{κ:Type}:List (κ × V)->List (κ × Value)->Prop:=Paired λ(p:κ × V) (q:κ × Value)=>p.1=q.1/\RelV p.2 q.2
noncomputable def kV:Key->V
  | .inl i=>.int i
  | .inr x=>.str x
inductive HO where
  /-- a list -/
  | lst (xs:List V)
  /-- a tuple (never changes) -/
  | tup (xs:List V)
  /-- a dict whose keys are ints and texts;one whose keys are tuples of ints and texts (the empty one is both) -/
  | dK (kvs:List (Key × V))|dT (kvs:List (List Key × V))
  /-- a set of ints: its members,its size -/
  | set (S:Int->Bool) (n:Nat)
  /-- an instance of the class at C,its dict at dx,its attributes -/
  | ins (C dx:Addr) (fs:List (Str × V))
  /-- the dict of the instance at x -/
  | own (x:Addr)
  /-- the dict of an exception -/
  | xd (fs:List (Str × V))
  /-- a bound method,f of x -/
  | met (f x:Addr)
  /-- a range object lo,lo + 1,.. below hi -/
  | rng (lo hi:Int)
  /-- a thing that is known to the object (the script;a dict while a loop walks it): read,never written while it is so -/
  | frz (o:Obj) (u:HO)
  /-- a code object's table -/
  | tbl (ps:Array Value)
  /-- any other thing,by what is true of its one object (a def of one's own: SetO a S n:=HO.ext λ h=>..) -/
  | ext (φ:Heap->Prop)
noncomputable abbrev Hp:=Addr->Option HO
noncomputable def upd(H:Hp)(a:Addr)(o:HO):Hp:=λ b=>if b=a then some o else H b
theorem AQ{H:Hp}{a:Addr}{o:HO}:upd H a o a=some o:=by unfold upd;rw[if_pos rfl]
theorem AF{H:Hp}{a b:Addr}{o:HO}(h:b ≠ a):upd H a o b=H b:=by unfold upd;rw[if_neg h]
theorem AZ{H:Hp}{a b:Addr}{o:HO}(h:H a=some o)(h':H b=none):a ≠ b:=by
  intro e;subst e;rw[h]at h';cases h'
noncomputable def IsTupD(h:Heap)(a:Addr)(items:Array Value):Prop:=∃ o,h.get? a=some o/\o.cls=.type "tuple"/\(∃ n,o.data=.seq items n)/\o.dict=none
theorem IsTupD.t{h:Heap}{a:Addr}{items:Array Value}(x:IsTupD h a items):IsTup h a items:=let ⟨o,e,c,d,_⟩:=x;⟨o,e,c,d⟩
theorem IsTupD.new(h:Heap)(items:Array Value):IsTupD (h.push { cls:=.type "tuple",data:=.seq items }) h.objs.size items:=⟨_,Heap.get?_push_size _ rfl,rfl,⟨_,rfl⟩,rfl⟩
section
variable(P:Program)(w:World)
noncomputable def ObjOk(H:Hp)(h:Heap)(a:Addr):HO->Prop
  | .lst xs=>xs.length <= sizeLine/\∃ (its:List Value) (n:Nat),Vals xs its/\h.get? a=some { cls:=.type "list",data:=.seq its.toArray n }
  | .tup xs=>xs.length <= sizeLine/\∃ its:List Value,Vals xs its/\IsTupD h a its.toArray
  | .dK kvs=>kvs.length <= sizeLine/\(a == sysModules)=false/\∃ vs,KV kvs vs/\h.DictOf (Hl P w) a vs
  | .dT kvs=>kvs.length <= sizeLine/\(a == sysModules)=false/\∃ xs:List (List Key × Addr × Value),
      Paired (λ(p:List Key × V) (q:List Key × Addr × Value)=>p.1=q.1/\H q.2.1=some (.tup (p.1.map kV))/\RelV p.2 q.2.2) kvs xs /\
      ∃ o es ep,h.get? a=some o/\o.ExactDict/\o.data=.dict es ep/\es.toList=xs.map (entryOfKey (tupleKind (Hl P w)))/\(xs.map (·.1)).Nodup
  | .set S n=>h.SetOf (intKind P w) a S n
  | .ins C dx fs=>H dx=some (.own a)/\fs.length <= 1000/\dx ≠ a/\h.get? a=some (PySem.W.instObj C dx) /\
      ∃ mA,h.Ns1 dx mA/\(∀ f,RelO (fs.lookup f) (mA f))/\PySem.Within mA (fs.map (·.1))
  | .own _=>∃ o,h.get? a=some o
  | .xd fs=>∃ mA,h.Ns1 a mA/\∀ f,RelO (fs.lookup f) (mA f)
  | .rng lo hi=>∃ t u v,h.get? a=some { cls:=.type "range",data:=.fields #[.int lo t,.int hi u,.int 1 v] }
  | .frz o u=>h.get? a=some o/\ObjOk H h a u
  | .tbl ps=>h.get? a=some { cls:=.none,data:=.fields ps }
  | .met f x=>h.get? a=some (PySem.W.methodObj (.ref f) (.ref x))
  | .ext φ=>φ h/\(∃ o,h.get? a=some o)/\∀ h1 h2:Heap,φ h1->(∀ o,h1.get? a=some o->h2.get? a=some o)->φ h2
noncomputable def HOk(H:Hp)(h:Heap):Prop:=∀ a o,H a=some o->ObjOk P w H h a o
end
section
variable{P:Program}{w:World}{H H':Hp}{h h':Heap}{a:Addr}{o:HO}
theorem ObjOk.lt(x:ObjOk P w H h a o):a < h.objs.size:=by
  cases o with
  | lst xs=>obtain⟨_,_,_,_,e⟩:=x;exact Heap.lt_size e
  | tup xs=>obtain⟨_,_,_,o,e,_⟩:=x;exact Heap.lt_size e
  | dK kvs=>obtain⟨_,_,_,_,o,_,_,e,_⟩:=x;exact Heap.lt_size e
  | dT kvs=>obtain⟨_,_,_,_,o,_,_,e,_⟩:=x;exact Heap.lt_size e
  | set S n=>obtain⟨o,_,_,_,e,_⟩:=x;exact Heap.lt_size e
  | ins C dx fs=>obtain⟨_,_,_,e,_⟩:=x;exact Heap.lt_size e
  | own y=>obtain⟨_,e⟩:=x;exact Heap.lt_size e
  | xd fs=>obtain⟨_,⟨_,_,_,e,_⟩,_⟩:=x;exact Heap.lt_size e
  | rng lo hi=>obtain⟨_,_,_,e⟩:=x;exact Heap.lt_size e
  | frz ob u=>obtain⟨e,_⟩:=x;exact Heap.lt_size e
  | tbl ps=>exact Heap.lt_size (show h.get? a=some _ from x)
  | met f y=>exact Heap.lt_size (show h.get? a=some _ from x)
  | ext φ=>obtain⟨_,⟨_,e⟩,_⟩:=x;exact Heap.lt_size e
theorem Paired.mapP{α β:Type}{F G:α->β->Prop}:∀ {l₁:List α} {l₂:List β},Paired F l₁ l₂->(∀ a b,F a b->G a b)->Paired G l₁ l₂
  | _,_,.nil,_=>.nil
  | _,_,.cons r t,f=>.cons (f _ _ r) (Paired.mapP t f)
theorem ObjOk.stay(x:ObjOk P w H h a o)(k:∀ b u,(b=a ∨ H b=some (.own a))->h.get? b=some u->h'.get? b=some u)
    (ho:∀ b,H b=some (.own a)->H' b=some (.own a)) (ht:∀ b xs,H b=some (.tup xs)->H' b=some (.tup xs)):ObjOk P w H' h' a o:=by
  induction o with
  | lst xs=>obtain⟨z,its,n,r,e⟩:=x;exact⟨z,its,n,r,k _ _ (.inl rfl) e⟩
  | tup xs=>obtain⟨z,its,r,ob,e,c⟩:=x;exact⟨z,its,r,ob,k _ _ (.inl rfl) e,c⟩
  | dK kvs=>obtain⟨z,y,vs,r,ob,es,ep,e,c⟩:=x;exact⟨z,y,vs,r,ob,es,ep,k _ _ (.inl rfl) e,c⟩
  | dT kvs=>
    obtain⟨z,y,xs,r,ob,es,ep,e,c⟩:=x
    exact⟨z,y,xs,Paired.mapP r λ p q z=>⟨z.1,ht _ _ z.2.1,z.2.2⟩,ob,es,ep,k _ _ (.inl rfl) e,c⟩
  | set S n=>obtain⟨ob,es,ep,t,e,c⟩:=x;exact⟨ob,es,ep,t,k _ _ (.inl rfl) e,c⟩
  | ins C dx fs=>
    obtain⟨d,z,ne,e,mA,⟨od,es,ep,e2,c⟩,r⟩:=x
    exact⟨ho _ d,z,ne,k _ _ (.inl rfl) e,mA,⟨od,es,ep,k _ _ (.inr d) e2,c⟩,r⟩
  | own y=>obtain⟨ob,e⟩:=x;exact⟨ob,k _ _ (.inl rfl) e⟩
  | xd fs=>obtain⟨mA,⟨od,es,ep,e,c⟩,r⟩:=x;exact⟨mA,⟨od,es,ep,k _ _ (.inl rfl) e,c⟩,r⟩
  | rng lo hi=>obtain⟨t,u,v,e⟩:=x;exact⟨t,u,v,k _ _ (.inl rfl) e⟩
  | frz ob u ih=>obtain⟨e,q⟩:=x;exact⟨k _ _ (.inl rfl) e,ih q⟩
  | tbl ps=>
    have e:h.get? a=some { cls:=.none,data:=.fields ps }:=x
    show h'.get? a=some { cls:=.none,data:=.fields ps }
    exact k a _ (.inl rfl) e
  | met f y=>
    have e:h.get? a=some (PySem.W.methodObj (.ref f) (.ref y)):=x
    show h'.get? a=some (PySem.W.methodObj (.ref f) (.ref y))
    exact k a _ (.inl rfl) e
  | ext φ=>obtain⟨p,⟨o,e⟩,st⟩:=x;exact⟨st _ _ p λ o q=>k _ _ (.inl rfl) q,⟨o,k _ _ (.inl rfl) e⟩,st⟩
theorem HOk.lt(x:HOk P w H h)(e:H a=some o):a < h.objs.size:=(x a o e).lt
theorem HOk.fresh(x:HOk P w H h)(e:h.objs.size <= a):H a=none:=by
  cases q:H a with
  | none=>rfl
  | some u=>exact absurd (Nat.lt_of_lt_of_le (x.lt q) e) (Nat.lt_irrefl _)
theorem HOk.kept(x:HOk P w H h)(k:∀ b u,h.get? b=some u->h'.get? b=some u):HOk P w H h':=λ a o e=>
  (x a o e).stay (λ b u _ q=>k b u q) (λ _ q=>q) λ _ _ q=>q
theorem HOk.laid(x:HOk P w H h)(k:∀ b u,h.get? b=some u->h'.get? b=some u)(hp:h.objs.size <= a)(new:ObjOk P w (upd H a o) h' a o):HOk P w (upd H a o) h':=λ b u e=>by
  have hn:=x.fresh hp
  by_cases hb:b=a
  . subst hb;rw[AQ]at e;cases e;exact new
  . rw[AF hb]at e
    exact(x b u e).stay (λ c v _ q=>k c v q) (λ c q=>by rw[AF (AZ q hn)];exact q) λ c xs q=>by rw[AF (AZ q hn)];exact q
end
noncomputable def Rd(H:Hp)(a:Addr)(u:HO):Prop:=H a=some u ∨ ∃ o,H a=some (.frz o u)
theorem Rd.ok{P:Program}{w:World}{H:Hp}{h:Heap}{a:Addr}{u:HO}(r:Rd H a u)(x:HOk P w H h):ObjOk P w H h a u:=by
  rcases r with r|⟨o,r⟩
  . exact x a u r
  . obtain⟨_,q⟩:=x a _ r
    exact q
noncomputable def Mut:Option HO->Prop
  | some (.lst _)=>True
  | some (.dK _)=>True
  | some (.dT _)=>True
  | some (.set _ _)=>True
  | some (.ins _ _ _)=>True
  | some (.ext _)=>True
  | _=>False
section
variable{P:Program}{w:World}{H:Hp}{h h':Heap}{x e:Addr}{o':HO}
theorem HOk.write(ok:HOk P w H h)(mu:Mut (H x))(he:e=x ∨ H e=some (.own x))(k:∀ b u,b ≠ e->h.get? b=some u->h'.get? b=some u)(heo:∃ u,h'.get? e=some u)
    (new:ObjOk P w (upd H x o') h' x o'):HOk P w (upd H x o') h':=λ b u q=>by
  have nown:∀ c y,H c=some (.own y)->c ≠ x:=λ c y r z=>by subst z;rw[r]at mu;exact mu
  have ntup:∀ c xs,H c=some (.tup xs)->c ≠ x:=λ c xs r z=>by subst z;rw[r]at mu;exact mu
  by_cases hb:b=x
  . subst hb;rw[AQ]at q;cases q;exact new
  . rw[AF hb]at q
    by_cases hbe:b=e
    . have q':H b=some (.own x):=by
        rcases he with z|z
        . exact absurd (hbe.trans z) hb
        . rw[hbe];exact z
      rw[q]at q';cases q'
      obtain⟨v,hv⟩:=heo
      exact⟨v,by rw[hbe];exact hv⟩
    . refine(ok b u q).stay (λ c v hc r=>k c v ?_ r) (λ c r=>by rw[AF (nown c b r)];exact r) λ c xs r=>by rw[AF (ntup c xs r)];exact r
      rcases hc with rfl|hc
      . exact hbe
      . rintro rfl
        rcases he with z|z
        . exact nown c b hc z
        . rw[hc]at z;cases z;exact hb rfl
end
structure Un(fs ex:List Addr)(H H':Hp)(h h':Heap):Prop where
  keep:∀ b o,h.get? b=some o->H b=none->b ∉ fs->b ∉ ex->h'.get? b=some o
  slot:∀ b o,h.get? b=some o->H b=none->b ∈ fs->b ∉ ex->∃ sl,h'.get? b=some { o with slots:=sl }
  free:∀ b o,h.get? b=some o->H b=none->b ∉ ex->H' b=none
  there:∀ b o,h.get? b=some o->b ∉ ex->∃ o',h'.get? b=some o'
  tups:∀ b xs,H b=some (.tup xs)->H' b=some (.tup xs)
  frzs:∀ b o u,H b=some (.frz o u)->H' b=some (.frz o u)
  tbls:∀ b ps,H b=some (.tbl ps)->∃ more,H' b=some (.tbl (ps ++ more))
section
variable{fs fs' ex ex':List Addr}{H H1 H2:Hp}{h h1 h2 h':Heap}{a x e:Addr}{o:HO}
theorem Un.any(u:Un fs ex H H1 h h1){b:Addr}{ob:Obj}(q:h.get? b=some ob)(n:H b=none)(hx:b ∉ ex):∃ sl,h1.get? b=some { ob with slots:=sl }:=by
  by_cases hb:b ∈ fs
  . exact u.slot b ob q n hb hx
  . exact⟨ob.slots,u.keep b ob q n hb hx⟩
theorem Un.kept(k:∀ b u,h.get? b=some u->h'.get? b=some u):Un fs ex H H h h':=
  ⟨λ b ob q _ _ _=>k b ob q,λ b ob q _ _ _=>⟨ob.slots,k b ob q⟩,λ _ _ _ n _=>n,λ b ob q _=>⟨ob,k b ob q⟩,λ _ _ q=>q,λ _ _ _ q=>q,λ _ ps q=>⟨#[],by rw[q];simp⟩⟩
theorem Un.refl:Un fs ex H H h h:=Un.kept λ _ _ q=>q
theorem Un.laid(k:∀ b u,h.get? b=some u->h'.get? b=some u)(hp:h.objs.size <= a)(hn:H a=none):Un fs ex H (upd H a o) h h' where
  keep:=λ b u q _ _ _=>k b u q
  slot:=λ b u q _ _ _=>⟨u.slots,k b u q⟩
  free:=λ b u q n _=>by rw[AF (Nat.ne_of_lt (Nat.lt_of_lt_of_le (Heap.lt_size q) hp))];exact n
  there:=λ b u q _=>⟨u,k b u q⟩
  tups:=λ b xs q=>by rw[AF (AZ q hn)];exact q
  frzs:=λ b u xs q=>by rw[AF (AZ q hn)];exact q
  tbls:=λ b ps q=>⟨#[],by rw[AF (AZ q hn),q];simp⟩
theorem Un.write(mu:Mut (H x))(he:e=x ∨ H e=some (.own x))(k:∀ b u,b ≠ e->h.get? b=some u->h'.get? b=some u)(heo:∃ u,h'.get? e=some u):Un fs ex H (upd H x o) h h':=by
  have hx:∀ b,H b=none->b ≠ x:=λ b n z=>by subst z;rw[n]at mu;exact mu
  have hb:∀ b,H b=none->b ≠ e:=λ b n z=>by
    subst z
    rcases he with r|r
    . exact hx b n r
    . rw[n]at r;cases r
  have hm:∀ b u,H b=some u->¬ Mut (some u)->b ≠ x:=λ b u q nm z=>by subst z;rw[q]at mu;exact nm mu
  refine⟨λ b u q n _ _=>k b u (hb b n) q,λ b u q n _ _=>⟨u.slots,k b u (hb b n) q⟩,λ b u q n _=>by rw[AF (hx b n)];exact n,λ b u q _=>?_,
    λ b xs q=>by rw[AF (hm b _ q λ z=>z)];exact q,λ b u xs q=>by rw[AF (hm b _ q λ z=>z)];exact q,λ b ps q=>⟨#[],by rw[AF (hm b _ q λ z=>z),q];simp⟩⟩
  by_cases hbe:b=e
  . subst hbe;exact heo
  . exact⟨u,k b u hbe q⟩
end
noncomputable def trk(h:Heap)(H:Hp):List Addr:=(List.range h.objs.size).filter λ a=>(H a).isSome
noncomputable def FK(h:Heap)(H:Hp):Heap:=PySem.W.hideAll h (trk h H)
theorem Mn(h:Heap)(H:Hp):(FK h H).objs.size=h.objs.size:=PySem.W.hideAll_size _ _
theorem OI{h:Heap}{H:Hp}{b:Addr}{o:Obj}(e:h.get? b=some o)(n:H b=none):(FK h H).get? b=some o:=
  PySem.W.hideAll_get _ e λ hm=>by
    have q:(H b).isSome=true:=(List.mem_filter.mp hm).2
    rw[n]at q;simp at q
theorem Qf{h:Heap}{H:Hp}{b:Addr}{o:Obj}(e:(FK h H).get? b=some o):h.get? b=some o/\H b=none:=by
  have e':h.get? b=some o:=PySem.W.of_hideAll (trk h H) e
  refine⟨e',?_⟩
  cases q:H b with
  | none=>rfl
  | some x=>
    have hm:b ∈ trk h H:=List.mem_filter.mpr ⟨List.mem_range.mpr (Heap.lt_size e'),by simp[q]⟩
    have z:(FK h H).get? b=none:=PySem.W.hideAll_none (trk h H) hm
    rw[z]at e;cases e
noncomputable def RU(g h:Heap)(L:Addr):List (Addr × Obj):=(List.range h.objs.size).filterMap λ a=>if a=L ∨ (g.get? a).isSome=true then none else(h.get? a).map λ o=>(a,o)
noncomputable def rest(g h:Heap)(L d:Addr):List (Addr × Obj):=(RU g h L).filter λ p=>decide (p.1 ≠ d)
end L2
namespace L2
open PySem PySem.Spec PyProof.Rows
structure Mod(K:PySem.W.Frag)(mg:Str->Option Value)(base:Heap):Prop where
  kin:K.In base
  glob:base.Ns mainGlobals mg
  blt:∃ mb,base.Ns builtinsNs mb/\∀ x:Str,x ≠ "__name__"->mb x=bootBuiltins x
  nolimit:base.NoLimit
structure Cx where
  prog:Program
  w:World
  K:PySem.W.Frag
  mg:Str->Option Value
  base:Heap
  A:Around
  N:List Str
  s₀:Shared
  H₀:Hp
  env:Env
  outer:List Env
  stack:List Env
  ex:List Addr
  fn:Str->Bool
  calm:Bool
  pn:List (Addr × Obj)
  xe:Value->Shared->Prop
noncomputable def frs(l:List Env):List Addr:=l.filterMap (·.frame)
noncomputable abbrev Cx.fs(X:Cx):List Addr:=frs X.outer
noncomputable def Vis(sc:Scope)(x:Str):Prop:=sc.names.lookup x=some .local ∨ sc.names.lookup x=some .cell ∨ sc.names.lookup x=some .free
noncomputable def Loc(sc:Scope)(x:Str):Prop:=sc.names.lookup x=some .local ∨ sc.names.lookup x=some .cell
noncomputable def Uv(env:Env)(h:Heap)(m:Str->Option Value)(x:Str)(u:Value):Prop:=
  (env.kindOf x=some .local/\m x=some u) ∨ ((env.kindOf x=some .cell ∨ env.kindOf x=some .free)/\∃ c,env.cells.lookup x=some c/\h.IsCell c (some u))
structure Cx.Ok(X:Cx):Prop where
  mod:Mod X.K X.mg X.base
  kind:X.env.scope.kind=.function
  glob:X.env.globals=mainGlobals
  blt:X.env.builtins=builtinsNs
  above:X.s₀.heap.objs.size <= X.env.locals
  inj:∀ x y c,X.env.cells.lookup x=some c->X.env.cells.lookup y=some c->x=y
  has:∀ x,(X.env.kindOf x=some .cell ∨ X.env.kindOf x=some .free)->∃ c,X.env.cells.lookup x=some c
  cab:∀ x c,X.fn x=true->X.env.cells.lookup x=some c->X.s₀.heap.objs.size <= c
  hd:X.calm=true->X.A.handled=none
  frames:X.A.frames=some X.stack
  stk:X.stack=X.outer ∨ (X.stack=X.env :: X.outer/\X.env.frame=some X.env.locals)
  exf:∀ b ∈ X.ex,b ≠ X.env.locals/\∀ x c,X.env.cells.lookup x=some c->c ≠ b
  bs:∀ b o,X.base.get? b=some o->X.s₀.heap.get? b=some o/\X.H₀ b=none
  bsz:X.base.objs.size <= X.s₀.heap.objs.size
  noex:∀ b o,X.base.get? b=some o->b ∉ X.ex
  exfs:∀ b ∈ X.ex,b ∉ X.fs
  funs:X.s₀.heap.FunFrames X.base X.outer
  frf:∀ b ∈ X.fs,X.H₀ b=none
structure Inv(X:Cx)(pins:List (Addr × Obj))(σ:List (Option V))(H:Hp)(s:Shared):Prop where
  ok:X.Ok
  os:s.os=X.s₀.os
  bare:AllBare s.gens
  base:Un X.fs X.ex X.H₀ H X.s₀.heap s.heap
  loc:∃ m,s.heap.Ns X.env.locals m/\∀ (i:Nat) (x:Str) (v:V),X.N[i]? = some x->σ[i]? = some (some v)->Vis X.env.scope x->∃ u,RelV v u/\Uv X.env s.heap m x u
  cell:∀ x c,X.env.cells.lookup x=some c->∃ v,s.heap.IsCell c v
  free:H X.env.locals=none
  freeC:∀ x c,X.env.cells.lookup x=some c->H c=none
  pin:∀ p ∈ X.pn ++ pins,s.heap.get? p.1=some p.2/\H p.1=none/\p.1 ≠ X.env.locals/\p.1 ∉ X.fs/\∀ v,p.2.data ≠ .cell v
  hok:HOk X.prog X.w H s.heap
  len:σ.length=X.N.length
section
variable{X:Cx}{pins:List (Addr × Obj)}{σ:List (Option V)}{H H':Hp}{s:Shared}{h':Heap}
theorem Cx.Ok.nofr(ok:X.Ok){b:Addr}{o:Obj}(e:X.base.get? b=some o):b ∉ X.fs:=λ hb=>by
  have:=(ok.funs.mem hb).1
  rw[e]at this;cases this
theorem Inv.bs(I:Inv X pins σ H s):∀ b o,X.base.get? b=some o->s.heap.get? b=some o/\H b=none:=λ b o e=>
  ⟨I.base.keep b o (I.ok.bs b o e).1 (I.ok.bs b o e).2 (I.ok.nofr e) (I.ok.noex b o e),I.base.free b o (I.ok.bs b o e).1 (I.ok.bs b o e).2 (I.ok.noex b o e)⟩
theorem Inv.bk(I:Inv X pins σ H s):∀ b o,X.base.get? b=some o->s.heap.get? b=some o:=λ b o e=>(I.bs b o e).1
theorem Inv.mod(I:Inv X pins σ H s):Mod X.K X.mg X.base:=I.ok.mod
theorem Inv.kIn(I:Inv X pins σ H s):X.K.In s.heap:=I.ok.mod.kin.keeps I.bk
theorem Inv.fr(I:Inv X pins σ H s):∃ m,Fr X.base X.env.locals s.heap m:=
  let ⟨m,hn,_⟩:=I.loc
  ⟨m,hn,I.bk,Nat.le_trans I.ok.bsz I.ok.above⟩
theorem Inv.lt(I:Inv X pins σ H s):X.env.locals < s.heap.objs.size:=let ⟨_,hn,_⟩:=I.loc;hn.lt
theorem Inv.sz(I:Inv X pins σ H s):X.s₀.heap.objs.size <= s.heap.objs.size:=Nat.le_trans I.ok.above (Nat.le_of_lt I.lt)
theorem Inv.nofs(I:Inv X pins σ H s){a:Addr}(h:s.heap.objs.size <= a):a ∉ X.fs:=λ hb=>by
  obtain⟨_,o,ho,_⟩:=I.ok.funs.mem hb
  exact absurd (Nat.lt_of_lt_of_le (Heap.lt_size ho) (Nat.le_trans I.sz h)) (Nat.lt_irrefl _)
theorem Inv.cne(I:Inv X pins σ H s):∀ x c,X.env.cells.lookup x=some c->c ≠ X.env.locals:=λ x c e z=>by
  obtain⟨v,o,ho,hd⟩:=I.cell x c e
  obtain⟨m,⟨o',es,ep,ho',hd',_⟩,_⟩:=I.loc
  rw[z,ho']at ho;cases ho;rw[hd']at hd;cases hd
theorem Inv.funs(I:Inv X pins σ H s):s.heap.FunFrames X.base X.outer:=by
  have all:∀ (l:List Env),(∀ b ∈ frs l,b ∈ X.fs)->X.s₀.heap.FunFrames X.base l->s.heap.FunFrames X.base l:=by
    intro l
    induction l with
    | nil=>intro _ _;trivial
    | cons env r ih=>
      intro hs hl
      obtain⟨hk,⟨L,o,hf,hn,ho,hd⟩,hr⟩:=hl
      have hL:L ∈ X.fs:=hs L (by unfold frs;rw[List.filterMap_cons,hf];exact List.mem_cons_self)
      obtain⟨sl,e⟩:=I.base.slot L o ho (I.ok.frf L hL) hL λ z=>I.ok.exfs L z hL
      exact⟨hk,⟨L,_,hf,hn,e,hd⟩,ih (λ b hb=>hs b (by unfold frs;rw[List.filterMap_cons,hf];exact List.mem_cons_of_mem _ hb)) hr⟩
  exact all X.outer (λ _ hb=>hb) I.ok.funs
theorem Inv.stack(I:Inv X pins σ H s):s.heap.FunFrames X.base X.stack:=by
  rcases I.ok.stk with e|⟨e,hf⟩
  . rw[e];exact I.funs
  . rw[e]
    obtain⟨m,hn,_⟩:=I.loc
    refine .cons (by rw[I.ok.kind];decide) hf hn ?_ I.funs
    exact Heap.get?_none_of_le (Nat.le_trans I.ok.bsz I.ok.above)
theorem Inv.stkSub(I:Inv X pins σ H s):∀ b ∈ frs X.stack,b ∈ X.env.locals :: X.fs:=λ b hb=>by
  rcases I.ok.stk with e|⟨e,hf⟩
  . rw[e]at hb;exact List.mem_cons_of_mem _ hb
  . rw[e]at hb
    unfold frs at hb
    rw[List.filterMap_cons,hf]at hb
    exact hb
theorem Inv.stkFree(I:Inv X pins σ H s):∀ b ∈ frs X.stack,H b=none:=λ b hb=>by
  rcases List.mem_cons.mp (I.stkSub b hb)with e|hb
  . rw[e];exact I.free
  . obtain⟨_,o,ho,_⟩:=I.ok.funs.mem hb
    exact I.base.free b o ho (I.ok.frf b hb) λ z=>I.ok.exfs b z hb
theorem Inv.step{g':Array GenState}{t':Nat}{d':Drawn}{ch:List Addr}(I:Inv X pins σ H s)
    (hch:∀ b ∈ ch,(b ∈ X.ex ∨ X.s₀.heap.objs.size <= b)/\b ≠ X.env.locals/\(∀ x c,X.env.cells.lookup x=some c->c ≠ b)/\∀ p ∈ X.pn ++ pins,p.1 ≠ b)
    (keep:∀ b o,b ≠ X.env.locals->b ∉ X.fs->b ∉ ch->s.heap.get? b=some o->H b=none->h'.get? b=some o)
    (slot:∀ b o,b ≠ X.env.locals->b ∈ X.fs->b ∉ ch->s.heap.get? b=some o->H b=none->∃ sl,h'.get? b=some { o with slots:=sl }) (free:∀ b o,b ∉ ch->s.heap.get? b=some o->H b=none->H' b=none)
    (there:∀ b o,b ∉ ch->s.heap.get? b=some o->∃ o',h'.get? b=some o')
    (tups:∀ b xs,H b=some (.tup xs)->H' b=some (.tup xs)) (frzs:∀ b o u,H b=some (.frz o u)->H' b=some (.frz o u)) (tbls:∀ b ps,H b=some (.tbl ps)->∃ more,H' b=some (.tbl (ps ++ more)))
    (ns:∀ m,s.heap.Ns X.env.locals m->h'.Ns X.env.locals m) (hok:HOk X.prog X.w H' h') (hg:AllBare g') :
    Inv X pins σ H' { s with heap:=h',gens:=g',drawn:=d',toks:=t' }:=by
  have neL:∀ b o,X.s₀.heap.get? b=some o->b ≠ X.env.locals:=λ b o e=>Nat.ne_of_lt (Nat.lt_of_lt_of_le (Heap.lt_size e) I.ok.above)
  have neC:∀ b o,X.s₀.heap.get? b=some o->b ∉ X.ex->b ∉ ch:=λ b o e hx hb=>by
    rcases(hch b hb).1 with z|z
    . exact hx z
    . exact absurd (Nat.lt_of_lt_of_le (Heap.lt_size e) z) (Nat.lt_irrefl _)
  have cellK:∀ x c,X.env.cells.lookup x=some c->∀ v,s.heap.IsCell c v->h'.IsCell c v:=λ x c e v ⟨o,ho,hd⟩=>by
    have nch:c ∉ ch:=λ z=>(hch c z).2.2.1 x c e rfl
    by_cases hc:c ∈ X.fs
    . obtain⟨sl,q⟩:=slot c o (I.cne x c e) hc nch ho (I.freeC x c e)
      exact⟨_,q,hd⟩
    . exact⟨o,keep c o (I.cne x c e) hc nch ho (I.freeC x c e),hd⟩
  refine⟨I.ok,I.os,hg,⟨λ b o e n hb hx=>?_,λ b o e n hb hx=>?_,λ b o e n hx=>?_,λ b o e hx=>?_,λ b xs e=>tups b xs (I.base.tups b xs e),λ b o xs e=>frzs b o xs (I.base.frzs b o xs e),λ b ps e=>?_⟩,?_,λ x c e=>?_,?_,λ x c e=>?_,λ p hp=>?_,hok,I.len⟩
  . exact keep b o (neL b o e) hb (neC b o e hx) (I.base.keep b o e n hb hx) (I.base.free b o e n hx)
  . obtain⟨sl,e1⟩:=I.base.slot b o e n hb hx
    obtain⟨sl',e2⟩:=slot b _ (neL b o e) hb (neC b o e hx) e1 (I.base.free b o e n hx)
    exact⟨sl',e2⟩
  . obtain⟨o',e1⟩:=I.base.there b o e hx
    exact free b o' (neC b o e hx) e1 (I.base.free b o e n hx)
  . obtain⟨o',e1⟩:=I.base.there b o e hx
    exact there b o' (neC b o e hx) e1
  . obtain⟨m1,e1⟩:=I.base.tbls b ps e
    obtain⟨m2,e2⟩:=tbls b _ e1
    exact⟨m1 ++ m2,by rw[e2,Array.append_assoc]⟩
  . obtain⟨m,hn,hl⟩:=I.loc
    refine⟨m,ns m hn,λ i x v e1 e2 e3=>?_⟩
    obtain⟨u,r,l⟩:=hl i x v e1 e2 e3
    refine⟨u,r,?_⟩
    rcases l with l|⟨k,c,e,z⟩
    . exact .inl l
    . exact .inr ⟨k,c,e,cellK x c e _ z⟩
  . obtain⟨v,z⟩:=I.cell x c e
    exact⟨v,cellK x c e v z⟩
  . obtain⟨m,⟨o,_,_,ho,_⟩,_⟩:=I.loc
    exact free _ o (λ z=>(hch _ z).2.1 rfl) ho I.free
  . obtain⟨v,o,ho,hd⟩:=I.cell x c e
    exact free c o (λ z=>(hch c z).2.2.1 x c e rfl) ho (I.freeC x c e)
  . obtain⟨e,n,ne,nf,d⟩:=I.pin p hp
    have nch:p.1 ∉ ch:=λ z=>(hch p.1 z).2.2.2 p hp rfl
    exact⟨keep p.1 p.2 ne nf nch e n,free p.1 p.2 nch e n,ne,nf,d⟩
theorem Inv.un{t':Nat}(I:Inv X pins σ H s)(u:Un X.fs [] H H' s.heap h')(hok:HOk X.prog X.w H' h'):Inv X pins σ H' { s with heap:=h',toks:=t' }:=by
  obtain⟨m,⟨o,es,ep,ho,r⟩,_⟩:=id I.loc
  obtain⟨sl,hL⟩:=u.any ho I.free (by simp)
  exact I.step (g':=s.gens) (d':=s.drawn) (ch:=[]) (λ _ z=>nomatch z) (λ b o _ hb _ e n=>u.keep b o e n hb (by simp)) (λ b o _ hb _ e n=>u.slot b o e n hb (by simp)) (λ b o _ e n=>u.free b o e n (by simp)) (λ b o _ e=>u.there b o e (by simp)) u.tups u.frzs u.tbls (λ m' hm=>by
    obtain⟨o',es',ep',ho',r'⟩:=hm
    rw[ho]at ho';cases ho'
    exact⟨_,es',ep',hL,r'⟩) hok I.bare
theorem Inv.call{g':Array GenState}{t':Nat}{d':Drawn}{ch:List Addr}(I:Inv X pins σ H s)(u:Un (frs X.stack) ch H H' s.heap h')(hok:HOk X.prog X.w H' h')(hg:AllBare g')
    (hch:∀ b ∈ ch,(b ∈ X.ex ∨ X.s₀.heap.objs.size <= b)/\b ≠ X.env.locals/\(∀ x c,X.env.cells.lookup x=some c->c ≠ b)/\∀ p ∈ X.pn ++ pins,p.1 ≠ b) :
    Inv X pins σ H' { s with heap:=h',gens:=g',drawn:=d',toks:=t' }:=by
  obtain⟨m,⟨o,es,ep,ho,r⟩,_⟩:=id I.loc
  obtain⟨sl,hL⟩:=u.any ho I.free λ z=>(hch _ z).2.1 rfl
  exact I.step (ch:=ch) hch (λ b o hL hb hc e n=>u.keep b o e n (λ z=>(List.mem_cons.mp (I.stkSub b z)).elim hL hb) hc) (λ b o _ _ hc e n=>u.any e n hc) (λ b o hc e n=>u.free b o e n hc) (λ b o hc e=>u.there b o e hc) u.tups u.frzs u.tbls (λ m' hm=>by
    obtain⟨o',es',ep',ho',r'⟩:=hm
    rw[ho]at ho';cases ho'
    exact⟨_,es',ep',hL,r'⟩) hok hg
theorem Inv.turned{t':Nat}{it:Addr}(I:Inv X pins σ H s)(k:∀ b o,b ≠ it->s.heap.get? b=some o->h'.get? b=some o)(hn:H it=none)(hL:it ≠ X.env.locals)
    (h1:it ∈ X.ex ∨ X.s₀.heap.objs.size <= it) (h2:∀ x c,X.env.cells.lookup x=some c->c ≠ it) (h3:∀ p ∈ X.pn ++ pins,p.1 ≠ it):Inv X pins σ H { s with heap:=h',toks:=t' }:=by
  have nit:∀ b u,H b=some u->b ≠ it:=λ b u e z=>by rw[z,hn]at e;cases e
  refine I.step (g':=s.gens) (d':=s.drawn) (ch:=[it]) (λ b hb=>?_) (λ b o _ _ hc e _=>k b o (λ z=>hc (by simp[z])) e) (λ b o _ _ hc e _=>⟨o.slots,k b o (λ z=>hc (by simp[z])) e⟩) (λ _ _ _ _ n=>n)
    (λ b o hc e=>⟨o,k b o (λ z=>hc (by simp[z])) e⟩) (λ _ _ e=>e) (λ _ _ _ e=>e) (λ b ps e=>⟨#[],by rw[e];simp⟩) (λ m hm=>?_) (λ b u e=>?_) I.bare
  . have e:b=it:=by simpa using hb
    subst e
    exact⟨h1,hL,h2,h3⟩
  . obtain⟨o,es,ep,ho,r⟩:=hm
    exact⟨o,es,ep,k _ o (Ne.symm hL) ho,r⟩
  . refine(I.hok b u e).stay (λ c v hc q=>k c v ?_ q) (λ _ q=>q) λ _ _ q=>q
    rcases hc with z|z
    . rw[z];exact nit b u e
    . exact nit c _ z
theorem Inv.tok(I:Inv X pins σ H s)(t:Nat):Inv X pins σ H { s with toks:=t }:=I.un (h':=s.heap) (t':=t) Un.refl I.hok
theorem Inv.kept{t':Nat}(I:Inv X pins σ H s)(k:∀ b u,s.heap.get? b=some u->h'.get? b=some u):Inv X pins σ H { s with heap:=h',toks:=t' }:=I.un (Un.kept k) (I.hok.kept k)
theorem Inv.laid{a:Addr}{o:HO}{t':Nat}(I:Inv X pins σ H s)(k:∀ b u,s.heap.get? b=some u->h'.get? b=some u)(hp:s.heap.objs.size <= a)(new:ObjOk X.prog X.w (upd H a o) h' a o) :
    Inv X pins σ (upd H a o) { s with heap:=h',toks:=t' }:=I.un (Un.laid k hp (I.hok.fresh hp)) (I.hok.laid k hp new)
theorem Inv.write{x e:Addr}{o:HO}{t':Nat}(I:Inv X pins σ H s)(mu:Mut (H x))(he:e=x ∨ H e=some (.own x))(k:∀ b u,b ≠ e->s.heap.get? b=some u->h'.get? b=some u)(heo:∃ u,h'.get? e=some u)
    (new:ObjOk X.prog X.w (upd H x o) h' x o):Inv X pins σ (upd H x o) { s with heap:=h',toks:=t' }:=I.un (Un.write mu he k heo) (I.hok.write mu he k heo new)
theorem Inv.weak{σ':List (Option V)}(I:Inv X pins σ H s)(hl:σ'.length=σ.length)(w:∀ (i:Nat) v,σ'[i]? = some (some v)->σ[i]? = some (some v)):Inv X pins σ' H s:=
  ⟨I.ok,I.os,I.bare,I.base,let ⟨m,hn,hl'⟩:=I.loc;⟨m,hn,λ i x v e1 e2 e3=>hl' i x v e1 (w i v e2) e3⟩,I.cell,I.free,I.freeC,I.pin,I.hok,hl.trans I.len⟩
theorem Inv.pins_of{pins':List (Addr × Obj)}(I:Inv X pins σ H s)(h:∀ p ∈ pins',s.heap.get? p.1=some p.2/\H p.1=none/\p.1 ≠ X.env.locals/\p.1 ∉ X.fs/\∀ v,p.2.data ≠ .cell v):Inv X pins' σ H s:=
  ⟨I.ok,I.os,I.bare,I.base,I.loc,I.cell,I.free,I.freeC,λ p hp=>(List.mem_append.mp hp).elim (λ z=>I.pin p (List.mem_append_left _ z)) (h p),I.hok,I.len⟩
theorem GV{N:List Str}(hN:N.Nodup){i j:Nat}{x:Str}(a:N[i]? = some x)(b:N[j]? = some x):i=j:=by
  obtain⟨h1,e1⟩:=List.getElem?_eq_some_iff.mp a
  obtain⟨h2,e2⟩:=List.getElem?_eq_some_iff.mp b
  exact(List.getElem_inj hN).mp (e1.trans e2.symm)
theorem M2{M:Model}{A:Around}{E:Value->Shared->Prop}{i:Nat}{x:Str}{v:V}{u:Value}{Q:Unit->Shared->Prop}(I:Inv X pins σ H s)(hN:X.N.Nodup)(hi:X.N[i]? = some x)(hx:Loc X.env.scope x)(r:RelV v u)
    (h:∀ s',Inv X pins (σ.set i (some v)) H s'->(∃ a,Heap.SameBut a s.heap s'.heap/\(a=X.env.locals ∨ X.env.cells.lookup x=some a))->Q () s') (hf:X.fn x=true ∨ X.env.scope.names.lookup x=some .local:=by first|exact .inl rfl|exact .inr rfl|assumption):wpAny M A (storeName X.env x u) Q E s:=by
  obtain⟨m,hn,hl⟩:=id I.loc
  have hcls:(X.env.scope.kind == .class || (X.env.scope.kind == .module && X.env.locals != X.env.globals))=false:=by rw[I.ok.kind];rfl
  have hiσ:i < σ.length:=by rw[I.len];exact(List.getElem?_eq_some_iff.mp hi).1
  have cne:=I.cne
  have tracked:∀ {a:Addr} {h':Heap},(∃ o,s.heap.get? a=some o/\H a=none)->Heap.SameBut a s.heap h'->HOk X.prog X.w H h':=λ {a h'} ha hs b ob e=>by
    obtain⟨_,_,hfree⟩:=ha
    refine(I.hok b ob e).stay (λ c w' hc q=>(hs.2 c ?_).trans q) (λ _ q=>q) λ _ _ q=>q
    rintro rfl
    rcases hc with rfl|hc
    . rw[hfree]at e;cases e
    . rw[hfree]at hc;cases hc
  rcases hx with hk|hk
  . refine wpAny_storeName_local hk hn (λ h' hn' hs=>?_) hcls
    obtain⟨oL,_,_,hoL,_⟩:=id hn
    refine h _ ⟨I.ok,I.os,I.bare,⟨λ b o e n hb hx=>?_,λ b o e n hb hx=>?_,I.base.free,λ b o e hx=>?_,I.base.tups,I.base.frzs,I.base.tbls⟩,⟨_,hn',λ j y v' e1 e2 e3=>?_⟩,λ y c e=>?_,I.free,I.freeC,λ p hp=>?_,tracked ⟨oL,hoL,I.free⟩ hs,by simpa using I.len⟩ ⟨_,hs,.inl rfl⟩
    . exact(hs.2 b (Nat.ne_of_lt (Nat.lt_of_lt_of_le (Heap.lt_size e) I.ok.above))).trans (I.base.keep b o e n hb hx)
    . obtain⟨sl,e1⟩:=I.base.slot b o e n hb hx
      exact⟨sl,(hs.2 b (Nat.ne_of_lt (Nat.lt_of_lt_of_le (Heap.lt_size e) I.ok.above))).trans e1⟩
    . obtain⟨o',e1⟩:=I.base.there b o e hx
      exact⟨o',(hs.2 b (Nat.ne_of_lt (Nat.lt_of_lt_of_le (Heap.lt_size e) I.ok.above))).trans e1⟩
    . by_cases hj:j=i
      . subst hj
        rw[hi]at e1;cases e1
        rw[List.getElem?_set_self hiσ]at e2
        cases e2
        exact⟨u,r,.inl ⟨hk,by simp⟩⟩
      . rw[List.getElem?_set_ne (Ne.symm hj)]at e2
        obtain⟨u',r',q⟩:=hl j y v' e1 e2 e3
        refine⟨u',r',?_⟩
        rcases q with⟨k,e⟩|⟨k,c,e,z⟩
        . refine .inl ⟨k,?_⟩
          have:y ≠ x:=λ e=>hj (GV hN e1 (e ▸ hi))
          simp[this,e]
        . exact .inr ⟨k,c,e,z.sameBut hs (cne y c e)⟩
    . obtain⟨w',z⟩:=I.cell y c e
      exact⟨w',z.sameBut hs (cne y c e)⟩
    . obtain⟨e,n,ne,nf,d⟩:=I.pin p hp
      exact⟨(hs.2 p.1 ne).trans e,n,ne,nf,d⟩
  . have hfn:X.fn x=true:=by
      rcases hf with z|z
      . exact z
      . rw[z]at hk;cases hk
    obtain⟨c,hc⟩:=I.ok.has x (.inl hk)
    obtain⟨w',z⟩:=I.cell x c hc
    refine wpAny_storeName_cell I.ok.kind hk hc z (λ h' hc' hs=>?_)
    obtain⟨oc,hoc,hocd⟩:=id z
    refine h { s with heap:=h' } ⟨I.ok,I.os,I.bare,⟨λ b o e n hb hx=>?_,λ b o e n hb hx=>?_,I.base.free,λ b o e hx=>?_,I.base.tups,I.base.frzs,I.base.tbls⟩,⟨m,hn.sameBut hs (Ne.symm (cne x c hc)),λ j y v' e1 e2 e3=>?_⟩,λ y c' e=>?_,I.free,I.freeC,λ p hp=>?_,tracked ⟨oc,hoc,I.freeC x c hc⟩ hs,by simpa using I.len⟩ ⟨c,hs,.inr hc⟩
    . exact(hs.2 b (Nat.ne_of_lt (Nat.lt_of_lt_of_le (Heap.lt_size e) (I.ok.cab x c hfn hc)))).trans (I.base.keep b o e n hb hx)
    . obtain⟨sl,e1⟩:=I.base.slot b o e n hb hx
      exact⟨sl,(hs.2 b (Nat.ne_of_lt (Nat.lt_of_lt_of_le (Heap.lt_size e) (I.ok.cab x c hfn hc)))).trans e1⟩
    . obtain⟨o',e1⟩:=I.base.there b o e hx
      exact⟨o',(hs.2 b (Nat.ne_of_lt (Nat.lt_of_lt_of_le (Heap.lt_size e) (I.ok.cab x c hfn hc)))).trans e1⟩
    . by_cases hj:j=i
      . subst hj
        rw[hi]at e1;cases e1
        rw[List.getElem?_set_self hiσ]at e2
        cases e2
        exact⟨u,r,.inr ⟨.inl hk,c,hc,hc'⟩⟩
      . rw[List.getElem?_set_ne (Ne.symm hj)]at e2
        obtain⟨u',r',q⟩:=hl j y v' e1 e2 e3
        refine⟨u',r',?_⟩
        rcases q with q|⟨k,c',e,z'⟩
        . exact .inl q
        . refine .inr ⟨k,c',e,z'.sameBut hs ?_⟩
          rintro rfl
          exact hj (GV hN e1 (I.ok.inj _ _ _ e hc ▸ hi))
    . by_cases hcc:c'=c
      . subst hcc;exact⟨_,hc'⟩
      . obtain⟨w2,z2⟩:=I.cell y c' e
        exact⟨w2,z2.sameBut hs hcc⟩
    . obtain⟨e,n,ne,nf,d⟩:=I.pin p hp
      refine⟨(hs.2 p.1 ?_).trans e,n,ne,nf,d⟩
      intro q
      rw[q,hoc]at e
      have q':oc=p.2:=Option.some.inj e
      exact d w' (by rw[<- q'];exact hocd)
theorem By{M:Model}{A:Around}{E:Value->Shared->Prop}{i:Nat}{x:Str}{v:V}{u:Value}{Q:Unit->Shared->Prop}(I:Inv X pins σ H s)(hN:X.N.Nodup)(hi:X.N[i]? = some x)(hx:Loc X.env.scope x)(r:RelV v u)
    (h:∀ s',Inv X pins (σ.set i (some v)) H s'->Q () s') (hf:X.fn x=true ∨ X.env.scope.names.lookup x=some .local:=by first|exact .inl rfl|exact .inr rfl|assumption):wpAny M A (storeName X.env x u) Q E s:=
  M2 I hN hi hx r (λ s' I' _=>h s' I') hf
theorem Inv.call'{s':Shared}{ch:List Addr}(I:Inv X pins σ H s)(ho:s'.os=s.os)(u:Un (frs X.stack) ch H H' s.heap s'.heap)(hok:HOk X.prog X.w H' s'.heap)(hg:AllBare s'.gens)
    (hch:∀ b ∈ ch,(b ∈ X.ex ∨ X.s₀.heap.objs.size <= b)/\b ≠ X.env.locals/\(∀ x c,X.env.cells.lookup x=some c->c ≠ b)/\∀ p ∈ X.pn ++ pins,p.1 ≠ b):Inv X pins σ H' s':=by
  obtain⟨h',g',d',t',o'⟩:=s'
  have e:o'=s.os:=ho
  subst e
  exact I.call (g':=g') (t':=t') (d':=d') u hok hg hch
end
noncomputable abbrev XK:=Value->Option Addr->Hp->Prop
noncomputable abbrev St:=List (Option V)
noncomputable abbrev VK:=V->Hp->Prop
noncomputable abbrev TE:=St->Hp->VK->Prop
noncomputable abbrev TT:=St->Hp->(Bool->Hp->Prop)->Prop
noncomputable abbrev TA:=St->Hp->(List V->Hp->Prop)->Prop
structure Ends where
  nx:St->Hp->Prop
  rt:VK
  bk:St->Hp->Prop:=λ _ _=>False
  ct:St->Hp->Prop:=λ _ _=>False
noncomputable abbrev TS:=Ends->St->Hp->Prop
noncomputable def EP(X:Cx)(pins:List (Addr × Obj))(σ:St)(Q:VK)(u:Value)(s':Shared):Prop:=∃ v H',Inv X pins σ H' s'/\RelV v u/\Q v H'
noncomputable def TP(X:Cx)(pins:List (Addr × Obj))(σ:St)(Q:Bool->Hp->Prop)(b:Bool)(s':Shared):Prop:=∃ H',Inv X pins σ H' s'/\Q b H'
noncomputable def AP(X:Cx)(pins:List (Addr × Obj))(σ:St)(Q:List V->Hp->Prop)(us:List Value)(s':Shared):Prop:=∃ vs H',Inv X pins σ H' s'/\Vals vs us/\Q vs H'
noncomputable def SP(X:Cx)(pins:List (Addr × Obj))(D:Ends)(f:Flow)(s':Shared):Prop:=
  match f with
  | .next=>∃ σ' H',Inv X pins σ' H' s'/\D.nx σ' H'
  | .brk=>∃ σ' H',Inv X pins σ' H' s'/\D.bk σ' H'
  | .cont=>∃ σ' H',Inv X pins σ' H' s'/\D.ct σ' H'
  | .ret u=>∃ v σ' H',Inv X pins σ' H' s'/\RelV v u/\D.rt v H'
noncomputable def PE(X:Cx)(e:Expr)(t:TE):Prop:=
  ∀ (pins:List (Addr × Obj)) (s:Shared) (σ:St) (H:Hp) (Q:VK),Inv X pins σ H s->t σ H Q->wpAny (model X.prog X.w) X.A (eval e X.env) (EP X pins σ Q) X.xe s
noncomputable def PT(X:Cx)(e:Expr)(t:TT):Prop:=
  ∀ (pins:List (Addr × Obj)) (s:Shared) (σ:St) (H:Hp) (Q:Bool->Hp->Prop),Inv X pins σ H s->t σ H Q->wpAny (model X.prog X.w) X.A (isTrue e X.env (eval e X.env)) (TP X pins σ Q) X.xe s
noncomputable def PW(X:Cx)(e:Expr)(t:TT):Prop:=
  ∀ (whole:Sem Value) (pins:List (Addr × Obj)) (s:Shared) (σ:St) (H:Hp) (Q:Bool->Hp->Prop),Inv X pins σ H s->t σ H Q->wpAny (model X.prog X.w) X.A (isTrue e X.env whole) (TP X pins σ Q) X.xe s
theorem PW.pt{X:Cx}{e:Expr}{t:TT}(h:PW X e t):PT X e t:=h _
noncomputable def PA(X:Cx)(es:List Expr)(t:TA):Prop:=
  ∀ (pos:Pos) (pins:List (Addr × Obj)) (s:Shared) (σ:St) (H:Hp) (Q:List V->Hp->Prop),Inv X pins σ H s->t σ H Q->wpAny (model X.prog X.w) X.A (spliced (backTo pos (starEach es X.env))) (AP X pins σ Q) X.xe s
noncomputable def PS(X:Cx)(st:Stmt)(t:TS):Prop:=
  ∀ (pins:List (Addr × Obj)) (s:Shared) (σ:St) (H:Hp) (D:Ends),Inv X pins σ H s->t D σ H->wpAny (model X.prog X.w) X.A (exec st X.env) (SP X pins D) X.xe s
noncomputable def PSs(X:Cx)(st:List Stmt)(t:TS):Prop:=
  ∀ (pins:List (Addr × Obj)) (s:Shared) (σ:St) (H:Hp) (D:Ends),Inv X pins σ H s->t D σ H->wpAny (model X.prog X.w) X.A (execs st X.env) (SP X pins D) X.xe s
theorem thn{α:Type}{t:Sem α}{Q Q':α->Shared->Prop}{M:Model}{A:Around}{E:Value->Shared->Prop}{s:Shared}(h:wpAny M A t Q E s)(hQ:∀ a s,Q a s->Q' a s):wpAny M A t Q' E s:=wpAny_mono h hQ λ _ _ x=>x
end L2
namespace L2
open PySem PySem.Spec PyProof.Rows
section
variable{X:Cx}
theorem bin{a b:Expr}{ta tb:TE}(ha:PE X a ta)(hb:PE X b tb){pins:List (Addr × Obj)}{s:Shared}{σ:St}{H:Hp}{R:V->V->Hp->Prop}(I:Inv X pins σ H s)(h:ta σ H λ x H1=>tb σ H1 λ y H2=>R x y H2)
    {α:Type} {Q:α->Shared->Prop} {f:Value->Value->Sem α}
    (hf:∀ v u s2 x y H2,Inv X pins σ H2 s2->RelV x v->RelV y u->R x y H2->wpAny (model X.prog X.w) X.A (f v u) Q X.xe s2) :
    wpAny (model X.prog X.w) X.A (eval a X.env) (λ v s₁=>wpAny (model X.prog X.w) X.A (eval b X.env) (λ u s₂=>wpAny (model X.prog X.w) X.A (f v u) Q X.xe s₂) X.xe s₁) X.xe s:=by
  refine thn (ha pins s σ H _ I h) λ v s1 ⟨x,H1,I1,r1,q1⟩=>?_
  refine thn (hb pins s1 σ H1 _ I1 q1) λ u s2 ⟨y,H2,I2,r2,q2⟩=>?_
  exact hf v u s2 x y H2 I2 r1 r2 q2
noncomputable def Ks(i:Nat):TE:=λ σ H Q=>∃ v,σ[i]? = some (some v)/\Q v H
noncomputable def tC(v:V):TE:=λ _ H Q=>Q v H
theorem Ek{i:Nat}{x:Str}{pos:Pos}(hN:X.N[i]? = some x)(hv:Vis X.env.scope x)(hd:(x == ("__debug__":Str))=false:=by decide)(hcd:(x == ("__classdict__":Str))=false:=by decide):PE X (.Name x pos) (Ks i):=by
  intro pins s σ H Q I h
  obtain⟨v,e,h⟩:=h
  obtain⟨m,hn,hl⟩:=I.loc
  obtain⟨u,r,l⟩:=hl i x v hN e hv
  have fin:EP X pins σ Q u s:=⟨v,H,I,r,h⟩
  rcases l with⟨hk,hm⟩|⟨hk,c,hc,hcell⟩
  . exact wpAny_Name (wpAny_loadName_local I.ok.kind hk hn hm fin) hd
  . rcases hk with hk|hk
    . exact wpAny_Name (wpAny_loadName_cell I.ok.kind hk hc hcell fin) hd
    . exact wpAny_Name (wpAny_loadName_free I.ok.kind hk hc hcell fin hcd) hd
theorem Sj{i j pos}:PE X (.Constant (.int i) j pos) (tC (.int i)):=λ _ _ _ H _ I h=>wpAny_Constant_int ⟨.int i,H,I.tok _,⟨_,rfl⟩,h⟩
theorem U3{b j pos}:PE X (.Constant (.bool b) j pos) (tC (.bl b)):=λ _ _ _ H _ I h=>Constant_bool ⟨.bl b,H,I,rfl,h⟩
theorem Sh{j pos}:PE X (.Constant .none j pos) (tC .non):=λ _ _ _ H _ I h=>Constant_none ⟨.non,H,I,rfl,h⟩
theorem MW{x j pos}:PE X (.Constant (.str x) j pos) (tC (.str x)):=λ _ _ _ H _ I h=>Calls.Constant_str ⟨.str x,H,I.tok _,⟨_,rfl⟩,h⟩
noncomputable def Gl(X:Cx)(x:Str):Prop:=X.env.kindOf x=some .globalImplicit
theorem Et{E:Value->Shared->Prop}{pins:List (Addr × Obj)}{s:Shared}{σ:St}{H:Hp}{x:Str}{u:Value}{pos:Pos}{Q:Value->Shared->Prop}(I:Inv X pins σ H s)(hg:Gl X x)(hm:X.mg x=some u)(h:Q u s)
    (hd:(x == ("__debug__":Str))=false:=by decide):wpAny (model X.prog X.w) X.A (eval (.Name x pos) X.env) Q E s:=
  Calls.Name_function_global I.ok.kind hg (Calls.loadGlobal_global (by rw[I.ok.glob];exact I.mod.glob.keeps I.bk) hm h) hd
theorem Eu{E:Value->Shared->Prop}{pins:List (Addr × Obj)}{s:Shared}{σ:St}{H:Hp}{x:Str}{u:Value}{pos:Pos}{Q:Value->Shared->Prop}(I:Inv X pins σ H s)(hg:Gl X x)(hm:X.mg x=none)(hv:bootBuiltins x=some u)(h:Q u s)
    (hn:x ≠ "__name__":=by decide) (hd:(x == ("__debug__":Str))=false:=by decide):wpAny (model X.prog X.w) X.A (eval (.Name x pos) X.env) Q E s:=by
  obtain⟨mb,h1,h2⟩:=I.mod.blt
  exact Calls.Name_function_global I.ok.kind hg (Calls.loadGlobal_builtin (by rw[I.ok.glob];exact I.mod.glob.keeps I.bk) hm (by rw[I.ok.blt];exact h1.keeps I.bk) ((h2 x hn).trans hv) h) hd
theorem KN{x:Str}{v:V}{u:Value}{pos:Pos}(hg:Gl X x)(hm:X.mg x=some u)(r:RelV v u)(hd:(x == ("__debug__":Str))=false:=by decide):PE X (.Name x pos) (tC v):=
  λ _ _ _ H _ I h=>Et I hg hm ⟨v,H,I,r,h⟩ hd
variable{a b:Expr}{ta tb:TE}{pos:Pos}
noncomputable def PC(X:Cx)(op:CmpOp)(a b:Expr)(t:TE):Prop:=
  ∀ (pins:List (Addr × Obj)) (s:Shared) (σ:St) (H:Hp) (Q:VK),Inv X pins σ H s->t σ H Q ->
    wpAny (model X.prog X.w) X.A (eval a X.env) (λ v s₁=>wpAny (model X.prog X.w) X.A (eval b X.env) (λ u s₂=>wpAny (model X.prog X.w) X.A (compareOp op v u) (EP X pins σ Q) X.xe s₂) X.xe s₁) X.xe s
theorem O9(b:Expr){op:CmpOp}(h:op ≠ .In)(h2:op ≠ .NotIn):behindInMarks op b=false:=by
  have e1:(op == CmpOp.In)=false:=by cases op <;> first|rfl|exact absurd rfl h
  have e2:(op == CmpOp.NotIn)=false:=by cases op <;> first|rfl|exact absurd rfl h2
  cases b <;> simp[behindInMarks,e1,e2]
noncomputable def NO(ta:TE):TE:=λ σ H Q=>ta σ H λ x H1=>Q (.bl (decide (x=.non))) H1
theorem RelV.none_iff{x:V}{v:Value}(r:RelV x v):(v == Value.none)=decide (x=.non):=by
  cases x with
  | non=>cases r;rfl
  | bl _=>cases r;rfl
  | int _=>obtain⟨t,rfl⟩:=r;rfl
  | str _=>obtain⟨t,rfl⟩:=r;rfl
  | byt _=>obtain⟨t,rfl⟩:=r;rfl
  | flt _=>obtain⟨t,rfl⟩:=r;rfl
  | ref _=>cases r;rfl
  | ty _=>cases r;rfl
theorem Sl{j pos'}(ha:PE X a ta):PC X .Is a (.Constant .none j pos') (NO ta):=by
  intro pins s σ H Q I h
  refine thn (ha pins s σ H _ I h) λ v s1 ⟨x,H1,I1,r1,q1⟩=>?_
  exact Constant_none (is_none_gen ⟨.bl _,H1,I1,by rw[r1.none_iff];rfl,q1⟩)
noncomputable def tB(t:TE):TT:=λ σ H Q=>t σ H λ x H1=>∃ c,x=.bl c/\Q c H1
theorem SV{op:CmpOp}{t:TE}(h:PC X op a b t)(h1:behindInMarks op b=false:=by first|exact O9 _ (by decide) (by decide)|rfl):PT X (.Compare a [op] [b] pos) (tB t):=by
  intro pins s σ H Q I hw
  refine wpAny_isTrue_Compare1 (thn (h pins s σ H _ I hw) λ v s1 h1=>thn h1 λ u s2 h2=>thn h2 λ c s3 ⟨x,H1,I1,r1,q1⟩=>?_) h1
  obtain⟨d,rfl,q⟩:=q1
  cases r1
  exact wpAny_truthy_bool ⟨H1,I1,q⟩
theorem JP{e:Expr}{t:TE}(h:PE X e t)(he:∀ whole,isTrue e X.env whole=(do let v <- whole;standAt e.pos;holding [v] (truthy v)):=by intro _;rfl):PT X e (tB t):=by
  intro pins s σ H Q I hw
  refine isTrue_plain (thn (h pins s σ H _ I hw) λ v s1 ⟨x,H1,I1,r1,q1⟩=>?_) (he _)
  obtain⟨d,rfl,q⟩:=q1
  cases r1
  exact wpAny_truthy_bool ⟨H1,I1,q⟩
variable{tA tB':TT}{rest:List Expr}
noncomputable def NQ(t u:TT):TT:=λ σ H Q=>t σ H λ c H1=>if c=true then u σ H1 Q else Q false H1
noncomputable def NM(t:TT):TT:=λ σ H Q=>t σ H λ c H1=>Q (!c) H1
theorem KM(ha:PT X a tA):PW X (.BoolOp .And [a] pos) tA:=by
  intro wh pins s σ H Q I h
  refine isTrue_and (thn (ha pins s σ H Q I h) λ c s1 e=>?_)
  cases c with
  | true=>exact isTrue_and_nil e
  | false=>exact e
theorem JO(ha:PT X a tA)(hb:PW X (.BoolOp .And (b :: rest) pos) tB'):PW X (.BoolOp .And (a :: b :: rest) pos) (NQ tA tB'):=by
  intro wh pins s σ H Q I h
  refine isTrue_and (thn (ha pins s σ H _ I h) λ c s1 ⟨H1,I1,q1⟩=>?_)
  cases c with
  | true=>exact hb wh pins s1 σ H1 Q I1 q1
  | false=>exact⟨H1,I1,q1⟩
theorem MQ(ha:PT X a tA):PT X (.UnaryOp .Not a pos) (NM tA):=by
  intro pins s σ H Q I h
  exact isTrue_not (ha pins s σ H (λ c H1=>Q (!c) H1) I h)
noncomputable def Kz(ta tb:TE):TE:=λ σ H Q=>ta σ H λ x H1=>∃ c,x=.bl c/\if c=true then tb σ H1 Q else Q (.bl false) H1
noncomputable def NL(ta tb:TE):TE:=λ σ H Q=>ta σ H λ x H1=>∃ c,x=.bl c/\if c=true then Q (.bl true) H1 else tb σ H1 Q
theorem Sg{op}{t:TE}(h:PE X a t):PE X (.BoolOp op [a] pos) t:=λ pins s σ H Q I hw=>BoolOp_one (h pins s σ H Q I hw)
theorem Sk(ha:PE X a ta)(hb:PE X (.BoolOp .And (b :: rest) pos) tb):PE X (.BoolOp .And (a :: b :: rest) pos) (Kz ta tb):=by
  intro pins s σ H Q I h
  refine BoolOp_and (thn (ha pins s σ H _ I h) λ v s1 ⟨x,H1,I1,r1,q1⟩=>?_)
  obtain⟨c,rfl,q1⟩:=q1
  cases r1
  refine wpAny_truthy_bool ?_
  cases c with
  | true=>exact hb pins s1 σ H1 Q I1 q1
  | false=>exact⟨.bl false,H1,I1,rfl,q1⟩
theorem U1(ha:PE X a ta)(hb:PE X (.BoolOp .Or (b :: rest) pos) tb):PE X (.BoolOp .Or (a :: b :: rest) pos) (NL ta tb):=by
  intro pins s σ H Q I h
  refine BoolOp_or (thn (ha pins s σ H _ I h) λ v s1 ⟨x,H1,I1,r1,q1⟩=>?_)
  obtain⟨c,rfl,q1⟩:=q1
  cases r1
  refine wpAny_truthy_bool ?_
  cases c with
  | false=>exact hb pins s1 σ H1 Q I1 q1
  | true=>exact⟨.bl true,H1,I1,rfl,q1⟩
noncomputable def tIf(t:TT)(ta tb:TE):TE:=λ σ H Q=>t σ H λ c H1=>if c=true then ta σ H1 Q else tb σ H1 Q
theorem O5{c:Expr}(hc:PT X c tA)(ha:PE X a ta)(hb:PE X b tb):PE X (.IfExp c a b pos) (tIf tA ta tb):=by
  intro pins s σ H Q I h
  refine wpAny_IfExp (thn (hc pins s σ H _ I h) λ d s1 ⟨H1,I1,q1⟩=>?_)
  cases d with
  | true=>exact ha pins s1 σ H1 Q I1 q1
  | false=>exact hb pins s1 σ H1 Q I1 q1
end
end L2
namespace L2
open PySem PySem.Spec PyProof.Rows
noncomputable def SqL(K:PySem.W.Frag)(H:Hp)(a:Addr)(xs:List V):Prop:=
  Rd H a (.lst xs) ∨
    ∃ (o:Obj) (its:Array Value) (n:Nat),K.lookup a=some o/\o.cls=.type "list"/\o.dict=none/\o.data=.seq its n/\its.size <= sizeLine/\Vals xs its.toList
noncomputable def SqT(K:PySem.W.Frag)(H:Hp)(a:Addr)(xs:List V):Prop:=
  Rd H a (.tup xs) ∨
    ∃ (o:Obj) (its:Array Value) (n:Nat),K.lookup a=some o/\o.cls=.type "tuple"/\o.dict=none/\o.data=.seq its n/\its.size <= sizeLine/\Vals xs its.toList
noncomputable def Ut:Value->Option V
  | .none=>some .non
  | .bool b=>some (.bl b)
  | .int i _=>some (.int i)
  | .str x _=>some (.str x)
  | .bytes b _=>some (.byt b)
  | .float b _=>some (.flt b)
  | .ref a=>some (.ref a)
  | .type n=>some (.ty n)
  | _=>none
theorem RelV.abs{x:V}{u:Value}(r:RelV x u):Ut u=some x:=by
  cases x with
  | non=>cases r;rfl
  | bl _=>cases r;rfl
  | int _=>obtain⟨t,rfl⟩:=r;rfl
  | str _=>obtain⟨t,rfl⟩:=r;rfl
  | byt _=>obtain⟨t,rfl⟩:=r;rfl
  | flt _=>obtain⟨t,rfl⟩:=r;rfl
  | ref _=>cases r;rfl
  | ty _=>cases r;rfl
theorem RelV.inj{x y:V}{u:Value}(r:RelV x u)(q:RelV y u):x=y:=Option.some.inj (r.abs.symm.trans q.abs)
theorem Vals.inj:∀ {xs ys:List V} {us:List Value},Vals xs us->Vals ys us->xs=ys
  | _,_,_,.nil,.nil=>rfl
  | _,_,_,.cons r t,.cons r' t'=>by rw[r.inj r',Vals.inj t t']
section
variable{X:Cx}{pins:List (Addr × Obj)}{σ:St}{H:Hp}{s:Shared}{a:Addr}{xs ys:List V}
theorem SqL.of{K:PySem.W.Frag}(h:H a=some (.lst xs)):SqL K H a xs:=.inl (.inl h)
theorem SqT.of{K:PySem.W.Frag}(h:H a=some (.tup xs)):SqT K H a xs:=.inl (.inl h)
theorem Inv.list(I:Inv X pins σ H s)(h:SqL X.K H a xs):∃ its:List Value,Vals xs its/\PlainL s.heap a its.toArray/\xs.length <= sizeLine:=by
  rcases h with h|⟨o,its,n,hk,hc,hd,hs,hz,r⟩
  . obtain⟨z,its,n,r,e⟩:=h.ok I.hok
    exact⟨its,r,⟨_,n,e,rfl,rfl,rfl⟩,z⟩
  . refine⟨its.toList,r,⟨o,n,I.kIn a o hk,hc,hd,by simpa using hs⟩,?_⟩
    have e:=r.length
    simp only[Array.length_toList]at e
    omega
theorem Inv.tuple(I:Inv X pins σ H s)(h:SqT X.K H a xs):∃ its:List Value,Vals xs its/\IsTup s.heap a its.toArray/\xs.length <= sizeLine:=by
  rcases h with h|⟨o,its,n,hk,hc,_,hs,hz,r⟩
  . obtain⟨z,its,r,p⟩:=h.ok I.hok
    exact⟨its,r,p.t,z⟩
  . refine⟨its.toList,r,⟨o,I.kIn a o hk,hc,n,by simpa using hs⟩,?_⟩
    have e:=r.length
    simp only[Array.length_toList]at e
    omega
theorem Inv.list_inj(I:Inv X pins σ H s)(h:SqL X.K H a xs)(h':SqL X.K H a ys):xs=ys:=by
  obtain⟨its,r,⟨o,n,e,_,_,d⟩,_⟩:=I.list h
  obtain⟨its',r',⟨o',n',e',_,_,d'⟩,_⟩:=I.list h'
  rw[e]at e';cases e'
  rw[d]at d'
  injection d' with d1 _
  have:its=its':=by simpa using congrArg Array.toList d1
  subst this
  exact r.inj r'
theorem Inv.tuple_inj(I:Inv X pins σ H s)(h:SqT X.K H a xs)(h':SqT X.K H a ys):xs=ys:=by
  obtain⟨its,r,⟨o,e,_,n,d⟩,_⟩:=I.tuple h
  obtain⟨its',r',⟨o',e',_,n',d'⟩,_⟩:=I.tuple h'
  rw[e]at e';cases e'
  rw[d]at d'
  injection d' with d1 _
  have:its=its':=by simpa using congrArg Array.toList d1
  subst this
  exact r.inj r'
end
noncomputable abbrev Cx.wish(X:Cx)(E:Value->Shared->Prop):Cx:={ X with xe:=E }
noncomputable abbrev Cx.nox(X:Cx):Cx:=X.wish λ _ _=>False
theorem Cx.Ok.wish{X:Cx}(ok:X.Ok)(E:Value->Shared->Prop):(X.wish E).Ok:=
  ⟨ok.mod,ok.kind,ok.glob,ok.blt,ok.above,ok.inj,ok.has,ok.cab,ok.hd,ok.frames,ok.stk,ok.exf,ok.bs,ok.bsz,ok.noex,ok.exfs,ok.funs,ok.frf⟩
theorem Cx.Ok.unwish{X:Cx}{E:Value->Shared->Prop}(ok:(X.wish E).Ok):X.Ok:=
  ⟨ok.mod,ok.kind,ok.glob,ok.blt,ok.above,ok.inj,ok.has,ok.cab,ok.hd,ok.frames,ok.stk,ok.exf,ok.bs,ok.bsz,ok.noex,ok.exfs,ok.funs,ok.frf⟩
section
variable{X:Cx}{pins:List (Addr × Obj)}{σ:St}{H:Hp}{s:Shared}{E:Value->Shared->Prop}
theorem Inv.wish(I:Inv X pins σ H s)(E:Value->Shared->Prop):Inv (X.wish E) pins σ H s:=⟨I.ok.wish E,I.os,I.bare,I.base,I.loc,I.cell,I.free,I.freeC,I.pin,I.hok,I.len⟩
theorem Inv.unwish(I:Inv (X.wish E) pins σ H s):Inv X pins σ H s:=⟨I.ok.unwish,I.os,I.bare,I.base,I.loc,I.cell,I.free,I.freeC,I.pin,I.hok,I.len⟩
theorem SP.unwish{D:Ends}{f:Flow}{s':Shared}(h:SP (X.wish E) pins D f s'):SP X pins D f s':=by
  cases f with
  | next=>obtain⟨σ',H',I,q⟩:=h;exact⟨σ',H',I.unwish,q⟩
  | brk=>obtain⟨σ',H',I,q⟩:=h;exact⟨σ',H',I.unwish,q⟩
  | cont=>obtain⟨σ',H',I,q⟩:=h;exact⟨σ',H',I.unwish,q⟩
  | ret u=>obtain⟨v,σ',H',I,r,q⟩:=h;exact⟨v,σ',H',I.unwish,r,q⟩
theorem PSs.nox{st:List Stmt}{t:TS}(h:PSs X.nox st t):PSs X st t:=λ pins s σ H D I hw=>
  wpAny_mono (h pins s σ H D (I.wish _) hw) (λ _ _ q=>q.unwish) λ _ _ z=>False.elim z
end
section
variable{X:Cx}{st:Stmt}{rest:List Stmt}{t u:TS}{e:Expr}{te:TE}{pos:Pos}
noncomputable def Ia:TS:=λ D σ H=>D.nx σ H
noncomputable def J0(t u:TS):TS:=λ D σ H=>t { D with nx:=u D } σ H
theorem Hi:PSs X [] Ia:=λ _ _ σ H _ I h=>wpAny_execs_nil ⟨σ,H,I,h⟩
theorem JQ(h1:PS X st t)(h2:PSs X rest u):PSs X (st :: rest) (J0 t u):=by
  intro pins s σ H D I h
  refine wpAny_execs_cons (thn (h1 pins s σ H { D with nx:=u D } I h) λ f s1 q=>?_)
  cases f with
  | next=>
    obtain⟨σ',H',I',q⟩:=q
    exact h2 pins s1 σ' H' D I' q
  | ret v=>exact q
  | brk=>exact q
  | cont=>exact q
theorem GB(h1:PS X st t):PSs X [st] t:=by
  intro pins s σ H D I h
  refine wpAny_execs_cons (thn (h1 pins s σ H D I h) λ f s1 q=>?_)
  cases f with
  | next=>exact wpAny_execs_nil q
  | ret v=>exact q
  | brk=>exact q
  | cont=>exact q
theorem Inv.quiet{pins:List (Addr × Obj)}{σ:St}{H:Hp}{s:Shared}(I:Inv X pins σ H s):interactive X.env=false:=by simp[interactive,I.ok.kind]
noncomputable def Kx(te:TE):TS:=λ D σ H=>te σ H λ _ H1=>D.nx σ H1
theorem Q9(he:PE X e te)(hs:swapsWith e none pos.line X.env=pure false:=by rfl):PS X (.Expr e pos) (Kx te):=by
  intro pins s σ H D I h
  exact wpAny_Expr_any (thn (he pins s σ H _ I h) λ v s1 ⟨x,H1,I1,r1,q1⟩=>⟨σ,H1,I1,q1⟩) I.quiet hs
noncomputable def GP(te:TE):TS:=λ D σ H=>te σ H D.rt
theorem SX(he:PE X e te):PS X (.Return (some e) pos) (GP te):=by
  intro pins s σ H D I h
  exact wpAny_Return_some (thn (he pins s σ H _ I h) λ v s1 ⟨x,H1,I1,r1,q1⟩=>⟨x,σ,H1,I1,r1,q1⟩)
noncomputable def J2(c:TT)(t u:TS):TS:=λ D σ H=>c σ H λ b H1=>if b=true then t D σ H1 else u D σ H1
theorem Os{c:Expr}{a b:List Stmt}{tc:TT}(hc:PT X c tc)(ha:PSs X a t)(hb:PSs X b u):PS X (.If c a b pos) (J2 tc t u):=by
  intro pins s σ H D I h
  refine wpAny_If (thn (hc pins s σ H _ I h) λ d s1 ⟨H1,I1,q1⟩=>?_)
  cases d with
  | true=>exact ha pins s1 σ H1 D I1 q1
  | false=>exact hb pins s1 σ H1 D I1 q1
noncomputable def Go:TS:=λ _ _ _=>False
theorem O1:PS X st Go:=λ _ _ _ _ _ _ h=>h.elim
end
noncomputable abbrev TG:=V->St->Hp->(St->Hp->Prop)->Prop
noncomputable abbrev TGs:=List V->St->Hp->(St->Hp->Prop)->Prop
noncomputable def PG(X:Cx)(target:Expr)(t:TG):Prop:=
  ∀ (pins:List (Addr × Obj)) (s:Shared) (σ:St) (H:Hp) (v:V) (u:Value) (Q:St->Hp->Prop),Inv X pins σ H s->RelV v u->t v σ H Q ->
    wpAny (model X.prog X.w) X.A (assign target X.env u) (λ _ s'=>∃ σ' H',Inv X pins σ' H' s'/\Q σ' H') X.xe s
noncomputable def PGs(X:Cx)(ts:List Expr)(t:TGs):Prop:=
  ∀ (pins:List (Addr × Obj)) (s:Shared) (σ:St) (H:Hp) (vs:List V) (us:List Value) (Q:St->Hp->Prop),Inv X pins σ H s->Vals vs us->t vs σ H Q ->
    wpAny (model X.prog X.w) X.A (assignInOrder ((assignEach ts X.env).map (·.2)) us) (λ _ s'=>∃ σ' H',Inv X pins σ' H' s'/\Q σ' H') X.xe s
noncomputable abbrev OW:=V->V->V->Hp->(Hp->Prop)->Prop
noncomputable def Te(X:Cx)(t:OW):Prop:=
  ∀ (pins:List (Addr × Obj)) (s:Shared) (σ:St) (H:Hp) (o i v:V) (ov iv u:Value) (Q:Hp->Prop),Inv X pins σ H s->RelV o ov->RelV i iv->RelV v u->t o i v H Q ->
    wpAny (model X.prog X.w) X.A (setItem ov iv u) (λ _ s'=>∃ H',Inv X pins σ H' s'/\Q H') X.xe s
section
variable{X:Cx}{pos:Pos}
noncomputable def HM(i:Nat):TG:=λ v σ H Q=>Q (σ.set i (some v)) H
theorem QP{i:Nat}{x:Str}(hN:X.N.Nodup)(hi:X.N[i]? = some x)(hx:Loc X.env.scope x)(hf:X.fn x=true ∨ X.env.scope.names.lookup x=some .local:=by first|exact .inl rfl|exact .inr rfl|assumption):PG X (.Name x pos) (HM i):=by
  intro pins s σ H v u Q I r h
  exact wpAny_assign_Name (By I hN hi hx r (λ s' I'=>⟨_,H,I',h⟩) hf)
noncomputable def OK:TGs:=λ vs σ H Q=>vs=[]/\Q σ H
noncomputable def Lb(t:TG)(u:TGs):TGs:=λ vs σ H Q=>∃ v r,vs=v :: r/\t v σ H λ σ' H'=>u r σ' H' Q
theorem QL:PGs X [] OK:=by
  intro pins s σ H vs us Q I r h
  obtain⟨e,h⟩:=h
  subst e
  cases r
  exact assignInOrder_nil ⟨σ,H,I,h⟩
theorem O4{e:Expr}{es:List Expr}{t:TG}{u:TGs}(h1:PG X e t)(h2:PGs X es u)
    (hs:(assignEach (e :: es) X.env).map (·.2)=assign e X.env :: (assignEach es X.env).map (·.2):=by rfl):PGs X (e :: es) (Lb t u):=by
  intro pins s σ H vs us Q I r h
  obtain⟨v,vr,e1,h⟩:=h
  subst e1
  cases r with
  | cons r rr=>
    rw[hs]
    refine assignInOrder_cons (thn (h1 pins s σ H _ _ _ I r h) λ _ s1 ⟨σ1,H1,I1,q1⟩=>?_)
    exact h2 pins s1 σ1 H1 _ _ Q I1 rr q1
noncomputable def La(K:PySem.W.Frag)(n:Nat)(t:TGs):TG:=λ v σ H Q=>∃ a xs,v=.ref a/\SqT K H a xs/\xs.length=n/\t xs σ H Q
theorem Sc{es:List Expr}{k:Nat}{t:TGs}{n:Nat}(hc:X.calm=true)(h:PGs X es t)
    (hn:(assignEach es X.env).length=n:=by rfl) (hst:(assignEach es X.env).findIdx? (·.1)=none:=by rfl):PG X (.Tuple es k pos) (La X.K n t):=by
  intro pins s σ H v u Q I r hw
  obtain⟨a,xs,e1,hq,hl,hw⟩:=hw
  subst e1
  cases r
  obtain⟨its,rv,ht,hz⟩:=I.tuple hq
  refine assign_Tuple_tuple (I.ok.hd hc) ht (by simp[hn,<- hl,rv.length]) hst λ h' hx=>?_
  have I1:Inv X pins σ H { s with heap:=h' }:=I.kept (t':=s.toks) λ b o e=>hx b o (Nat.ne_of_lt (Heap.lt_size e)) e
  exact h pins _ σ H xs _ Q I1 (by simpa using rv) hw
noncomputable def OJ(to ti:TE)(t:OW):TG:=λ v σ H Q=>to σ H λ o H1=>ti σ H1 λ i H2=>t o i v H2 λ H3=>Q σ H3
theorem Sd{o i:Expr}{to ti:TE}{t:OW}(ho:PE X o to)(hi:PE X i ti)(hs:Te X t)
    (ha:∀ v,assign (.Subscript o i pos) X.env v=(do
      let ov <- holding [v] (eval o X.env)
      let iv <- holding [v,ov] (eval i X.env)
      standAt pos
      holding [v,ov,iv] (setItem ov iv v)
      release [v,ov,iv] []):=by intro _;rfl):PG X (.Subscript o i pos) (OJ to ti t):=by
  intro pins s σ H v u Q I r h
  rw[ha]
  refine wpAny_bind (wpAny_holding (thn (ho pins s σ H _ I h) λ ov s1 ⟨x,H1,I1,r1,q1⟩=>?_))
  refine wpAny_bind (wpAny_holding (thn (hi pins s1 σ H1 _ I1 q1) λ iv s2 ⟨y,H2,I2,r2,q2⟩=>?_))
  refine wpAny_bind (wpAny_standAt (wpAny_bind (wpAny_holding (thn (hs pins s2 σ H2 x y v ov iv u _ I2 r1 r2 r q2) λ _ s3 ⟨H3,I3,q3⟩=>?_))))
  exact wpAny_release ⟨σ,H3,I3,q3⟩
noncomputable def GQ(te:TE)(g:TG):TS:=λ D σ H=>te σ H λ x H1=>g x σ H1 D.nx
theorem MR{tg e:Expr}{te:TE}{g:TG}(he:PE X e te)(hg:PG X tg g)(hs:swapsWithSole [tg] e pos.line X.env=pure false:=by rfl)(hw:swappedStores [tg] e X.env=pure none:=by rfl)
    (h1:(assignEach [tg] X.env).map (·.2)=[assign tg X.env]:=by rfl):PS X (.Assign [tg] e pos) (GQ te g):=by
  intro pins s σ H D I h
  refine wpAny_Assign_stores (thn (he pins s σ H _ I h) λ v s1 ⟨x,H1,I1,r1,q1⟩=>?_) hs hw
  rw[h1]
  exact thn (hg pins s1 σ H1 x v _ I1 r1 q1) λ _ s2 q=>q
theorem JR{i:Nat}{x:Str}{e:Expr}{te:TE}{pos':Pos}(hN:X.N.Nodup)(hi:X.N[i]? = some x)(hx:Loc X.env.scope x)(he:PE X e te)(hs:swapsWith e (some (.Name x pos')) pos.line X.env=pure false:=by rfl)(hf:X.fn x=true ∨ X.env.scope.names.lookup x=some .local:=by first|exact .inl rfl|exact .inr rfl|assumption) :
    PS X (.Assign [.Name x pos'] e pos) (GQ te (HM i)):=by
  intro pins s σ H D I h
  refine wpAny_Assign_Name (thn (he pins s σ H _ I h) λ v s1 ⟨y,H1,I1,r1,q1⟩=>?_) hs
  exact By I1 hN hi hx r1 (λ s2 I2=>⟨_,H1,I2,q1⟩) hf
noncomputable def NK(i j:Nat)(ta:TA):TS:=λ D σ H=>ta σ H λ vs H1=>∃ v w,vs=[v,w]/\D.nx ((σ.set i (some v)).set j (some w)) H1
theorem SY{i j:Nat}{x y:Str}{a b:Expr}{ta:TA}{px py pt:Pos}{kt k2 pt2}(hc:X.calm=true)(hN:X.N.Nodup)(hi:X.N[i]? = some x)(hj:X.N[j]? = some y)(hij:i ≠ j)
    (hx:X.env.scope.names.lookup x=some .local) (hy:X.env.scope.names.lookup y=some .local) (ha:PA X [a,b] ta)
    (hw:swappedStores [.Tuple [.Name x px,.Name y py] kt pt] (.Tuple [a,b] k2 pt2) X.env=pure (some [x,y]))
    (hs:swapsWithSole [.Tuple [.Name x px,.Name y py] kt pt] (.Tuple [a,b] k2 pt2) pos.line X.env=pure false:=by rfl) :
    PS X (.Assign [.Tuple [.Name x px,.Name y py] kt pt] (.Tuple [a,b] k2 pt2) pos) (NK i j ta):=by
  intro pins s σ H D I h
  rw[exec_Assign_arm]
  refine wpAny_bind (wpAny_standAt ?_)
  rw[hs]
  refine wpAny_bind (wpAny_pure ?_)
  rw[if_neg (by decide)]
  refine wpAny_bind (Tuple_ (thn (ha _ pins s σ H _ I h) λ us s1 ⟨vs,H1,I1,r1,q1⟩=>?_))
  obtain⟨v,w,e1,q1⟩:=q1
  subst e1
  obtain⟨u1,u2,rfl,rv,rw'⟩:∃ u1 u2,us=[u1,u2]/\RelV v u1/\RelV w u2:=by
    cases r1 with
    | cons p q=>
      cases q with
      | cons p' q'=>
        cases q'
        exact⟨_,_,rfl,p,p'⟩
  refine wpAny_newObj_type ?_ (by show 2 <= sizeLine;decide)
  have I2:Inv X pins σ H1 { s1 with heap:=s1.heap.push { cls:=.type "tuple",data:=.seq [u1,u2].toArray } }:=I1.kept (t':=s1.toks) λ b o e=>Heap.get?_push_of_some _ e
  rw[hw]
  refine wpAny_bind (wpAny_pure ?_)
  show wpAny (model X.prog X.w) X.A (do rule "assign.swapped-stores";let items <- unpackItems (.ref s1.heap.objs.size) 2 none;assignInOrder [λ v=>bindName X.env y v,λ v=>bindName X.env x v] items.reverse;pure Flow.next) _ _ _
  refine wpAny_bind (wpAny_rule (wpAny_bind (unpackItems_tuple (items:=#[u1,u2]) (I.ok.hd hc) (IsTup.new s1.heap _) λ h' hx'=>?_)))
  have I3:=I2.kept (h':=h') (t':=s1.toks) λ b o e=>hx' b o (Nat.ne_of_lt (Heap.lt_size e)) e
  show wpAny _ _ (assignInOrder [λ v=>bindName X.env y v,λ v=>bindName X.env x v] [u2,u1] >>= λ _=>pure Flow.next) _ _ _
  refine wpAny_bind (assignInOrder_cons (wpAny_bindName (By I3 hN hj (.inl hy) rw' (λ s2 I4=>?_) (.inr hy))))
  refine assignInOrder_cons (wpAny_bindName (By I4 hN hi (.inl hx) rv (λ s3 I5=>assignInOrder_nil (wpAny_pure ?_)) (.inr hx)))
  rw[List.set_comm _ _ (Ne.symm hij)]at I5
  exact⟨_,H1,I5,q1⟩
end
section
variable{X:Cx}{pos:Pos}
noncomputable def Iz(c:TT)(tb:TS):TS:=λ D σ H=>∃ W:Nat->St->Hp->Prop,(∃ m,W m σ H)/\∀ m σ H,W m σ H ->
  c σ H λ b H1=>if b=true then ∃ N:St->Hp->Prop,(∀ σ' H',N σ' H'->∃ m',m' < m/\W m' σ' H')/\tb { D with nx:=N,ct:=N,bk:=D.nx } σ H1 else D.nx σ H1
theorem O0{c:Expr}{body:List Stmt}{tc:TT}{tb:TS}(hp:PassesOwn (model X.prog X.w) X.A X.env X.xe)(hc:PT X c tc)(hb:PSs X body tb):PS X (.While c body [] pos) (Iz tc tb):=by
  intro pins s σ H D I h
  obtain⟨W,⟨m0,w0⟩,turn⟩:=h
  refine wpAny_While (codeAny_whileLoop (λ n s'=>∃ σ' H',Inv X pins σ' H' s'/\W n σ' H') ?_ m0 ⟨σ,H,I,w0⟩)
  rintro n s1 ⟨σ1,H1,I1,w1⟩
  refine wpAny_passesOwn hp (thn (hc pins s1 σ1 H1 _ I1 (turn n σ1 H1 w1)) λ b s2 ⟨H2,I2,q2⟩=>?_)
  cases b with
  | true=>
    obtain⟨N,hN,q2⟩:=q2
    rw[if_pos rfl]
    refine wpAny_passesOwn hp (thn (hb pins s2 σ1 H2 _ I2 q2) λ f s3 q3=>?_)
    cases f with
    | next=>
      obtain⟨σ3,H3,I3,n3⟩:=q3
      obtain⟨m',hm,w3⟩:=hN σ3 H3 n3
      exact⟨m',hm,σ3,H3,I3,w3⟩
    | cont=>
      obtain⟨σ3,H3,I3,n3⟩:=q3
      obtain⟨m',hm,w3⟩:=hN σ3 H3 n3
      exact⟨m',hm,σ3,H3,I3,w3⟩
    | brk=>exact q3
    | ret v=>exact q3
  | false=>
    rw[if_neg Bool.false_ne_true]
    exact wpAny_execs_nil ⟨σ1,H2,I2,q2⟩
end
structure It where
  go:Nat->Hp->Prop
  yld:Nat->Hp->V->Hp->Prop
  stop:Nat->Hp->Prop
noncomputable def EH(X:Cx)(pins:List (Addr × Obj))(H:Hp)(b:Addr):Prop:=
  H b=none/\b ≠ X.env.locals/\b ∉ X.fs/\(b ∈ X.ex ∨ X.s₀.heap.objs.size <= b)/\(∀ x c,X.env.cells.lookup x=some c->c ≠ b)/\∀ p ∈ X.pn ++ pins,p.1 ≠ b
theorem Inv.fpOk{X:Cx}{pins:List (Addr × Obj)}{σ:St}{H H':Hp}{s:Shared}{b:Addr}(I:Inv X pins σ H s)(hb:s.heap.objs.size <= b)(hn:H' b=none):EH X pins H' b:=by
  refine⟨hn,Nat.ne_of_gt (Nat.lt_of_lt_of_le I.lt hb),I.nofs hb,.inr (Nat.le_trans I.sz hb),λ x c e z=>?_,λ p hp z=>?_⟩
  . obtain⟨v,q⟩:=I.cell x c e
    exact absurd (Nat.lt_of_lt_of_le q.lt (by rw[z];exact hb)) (Nat.lt_irrefl _)
  . exact absurd (Nat.lt_of_lt_of_le (Heap.lt_size (I.pin p hp).1) (by rw[z];exact hb)) (Nat.lt_irrefl _)
structure Turn(P:Program)(w:World)(K:PySem.W.Frag)(tg:Expr)(J:It)(fp:List Addr)(it:Addr)(tn:Nat->Heap->Prop):Prop where
  mem:it ∈ fp
  obj:∀ i h,tn i h->∀ b ∈ fp,∃ o,h.get? b=some o/\∀ v,o.data ≠ .cell v
  keep:∀ i h h',tn i h->(∀ b ∈ fp,∀ o,h.get? b=some o->h'.get? b=some o)->tn i h'
  item:∀ (X:Cx),X.prog=P->X.w=w->X.K=K->X.calm=true->∀ (i:Nat) (pins:List (Addr × Obj)) (s:Shared) (σ:St) (H:Hp) (E:Value->Shared->Prop),Inv X pins σ H s->(∀ b ∈ fp,EH X pins H b)->tn i s.heap->J.go i H ->
    wpAny (model P w) X.A (pyNext (.ref it)) (λ r s1=>∃ u,r=some u /\
      wpAny (model P w) X.A (letOwnedTupleGo tg (.ref it) u) (λ _ s2=>∃ x H',Inv X pins σ H' s2/\RelV x u/\J.yld i H x H'/\tn (i + 1) s2.heap/\∀ b ∈ fp,H' b=none) E s1) E s
  done:∀ (X:Cx),X.prog=P->X.w=w->X.K=K->X.calm=true->∀ (i:Nat) (pins:List (Addr × Obj)) (s:Shared) (σ:St) (H:Hp) (E:Value->Shared->Prop),Inv X pins σ H s->(∀ b ∈ fp,EH X pins H b)->tn i s.heap->J.stop i H ->
    wpAny (model P w) X.A (pyNext (.ref it)) (λ r s1=>r=none/\Inv X pins σ H s1) E s
  self:∀ (A:Around) (i:Nat) (s:Shared) (Q:Value->Shared->Prop) (E:Value->Shared->Prop),tn i s.heap->Q (.ref it) s->wpAny (model P w) A (pyIter (.ref it)) Q E s
noncomputable abbrev TI:=St->Hp->(It->Hp->Prop)->Prop
noncomputable def PIE(X:Cx)(pins:List (Addr × Obj))(σ:St)(tg:Expr)(R:It->Hp->Prop)(itv:Value)(s2:Shared):Prop:=
  ∃ (it:Addr) (fp:List Addr) (tn:Nat->Heap->Prop) (J:It) (H':Hp),itv=.ref it/\Inv X pins σ H' s2/\Turn X.prog X.w X.K tg J fp it tn/\tn 0 s2.heap/\(∀ b ∈ fp,EH X pins H' b)/\R J H'
noncomputable def PI(X:Cx)(tg iter:Expr)(wi:TI):Prop:=
  ∀ (pins:List (Addr × Obj)) (s:Shared) (σ:St) (H:Hp) (R:It->Hp->Prop),Inv X pins σ H s->wi σ H R ->
    wpAny (model X.prog X.w) X.A (eval iter X.env) (λ v s1=>wpAny (model X.prog X.w) X.A (pyIter v) (PIE X pins σ tg R) X.xe s1) X.xe s
theorem LZ{M:Model}{A:Around}{E:Value->Shared->Prop}{s:Shared}{tg:Expr}{it:Addr}{u:Value}{o:Obj}{n:String}{vs:Array Value}{Q:Unit->Shared->Prop}(ho:s.heap.get? it=some o)(hc:o.cls=.type n)(hd:o.data=.fields vs)
    (hn:["enumerate","zip","dict_itemiterator","dict_reverseitemiterator","odict_iterator","itertools.zip_longest","itertools.pairwise"].contains n=false) (hQ:Q () s):wpAny M A (letOwnedTupleGo tg (.ref it) u) Q E s:=by
  unfold letOwnedTupleGo
  cases tg <;> first
    | exact wpAny_pure hQ
    | (cases u <;> first
        | exact wpAny_pure hQ
        | (refine wpAny_bind (wpAny_load ho ?_)
           rw[hc,hd]
           show wpAny M A (if(["enumerate","zip","dict_itemiterator","dict_reverseitemiterator","odict_iterator","itertools.zip_longest","itertools.pairwise"].contains n && vs[0]? == some (rawInt _))=true then _ else _) Q E s
           rw[if_neg (by intro h;rw[hn,Bool.false_and]at h;cases h)]
           exact wpAny_pure hQ))
noncomputable def Itl(K:PySem.W.Frag)(a:Addr):It:=
  ⟨λ i H=>∃ xs x,SqL K H a xs/\xs[i]? = some x,λ i H x H'=>H'=H/\∀ xs,SqL K H a xs->xs[i]? = some x,λ i H=>∃ xs,SqL K H a xs/\xs.length <= i⟩
noncomputable def Itt(K:PySem.W.Frag)(a:Addr):It:=
  ⟨λ i H=>∃ xs x,SqT K H a xs/\xs[i]? = some x,λ i H x H'=>H'=H/\∀ xs,SqT K H a xs->xs[i]? = some x,λ i H=>∃ xs,SqT K H a xs/\xs.length <= i⟩
noncomputable def Itr(lo:Int)(n:Nat):It:=⟨λ i _=>i < n,λ i H x H'=>H'=H/\x=.int (lo + i),λ i _=>n <= i⟩
theorem Lx{P:Program}{w:World}{K:PySem.W.Frag}{tg:Expr}(a it:Addr):Turn P w K tg (Itl K a) [it] it (λ i h=>h.IsListIter it a i) where
  mem:=by simp
  obj:=λ i h st b hb=>by
    have e:b=it:=by simpa using hb
    subst e
    obtain⟨o,e,c,d⟩:=st
    exact⟨o,e,λ v z=>by rw[d]at z;cases z⟩
  keep:=λ i h h' st k=>st.at λ o e=>k it (by simp) o e
  item:=by
    intro X hP hw hK hc i pins s σ H E I hf st hg
    subst hP hw hK
    obtain⟨xs,x,hq,hx⟩:=hg
    obtain⟨its,rv,p,hz⟩:=I.list hq
    obtain⟨u,hu,ru⟩:=rv.get hx
    obtain⟨f0,f1,f2,f3,f4,f5⟩:=hf it (by simp)
    refine wpAny_pyNext_list_item st p.isList (x:=u) (by simpa using hu) λ h' st' sb=>?_
    have I1:Inv X pins σ H { s with heap:=h' }:=I.turned (t':=s.toks) (λ b o hb e=>(sb.2 b hb).trans e) f0 f1 f3 f4 f5
    obtain⟨o,e,c,d⟩:=id st'
    exact⟨u,rfl,LZ (s:={ s with heap:=h' }) e c d (by decide) ⟨x,H,I1,ru,⟨rfl,λ ys hy=>by rw[I.list_inj hy hq];exact hx⟩,st',λ b hb=>(hf b hb).1⟩⟩
  done:=by
    intro X hP hw hK hc i pins s σ H E I hf st hg
    subst hP hw hK
    obtain⟨xs,hq,hx⟩:=hg
    obtain⟨its,rv,p,hz⟩:=I.list hq
    obtain⟨f0,f1,f2,f3,f4,f5⟩:=hf it (by simp)
    have hl:=rv.length
    exact wpAny_pyNext_list_end (I.ok.hd hc) st p.isList (by simp;omega) λ h' eb=>⟨rfl,I.turned (t':=s.toks) (λ b o hb e=>eb b o hb e) f0 f1 f3 f4 f5⟩
  self:=λ _ _ _ _ _ st h=>wpAny_pyIter_listiter st h
theorem Kp{P:Program}{w:World}{K:PySem.W.Frag}{tg:Expr}(a it:Addr):Turn P w K tg (Itt K a) [it] it (λ i h=>h.IsTupleIter it a i) where
  mem:=by simp
  obj:=λ i h st b hb=>by
    have e:b=it:=by simpa using hb
    subst e
    obtain⟨o,e,c,d⟩:=st
    exact⟨o,e,λ v z=>by rw[d]at z;cases z⟩
  keep:=λ i h h' st k=>st.at λ o e=>k it (by simp) o e
  item:=by
    intro X hP hw hK hc i pins s σ H E I hf st hg
    subst hP hw hK
    obtain⟨xs,x,hq,hx⟩:=hg
    obtain⟨its,rv,p,hz⟩:=I.tuple hq
    obtain⟨u,hu,ru⟩:=rv.get hx
    obtain⟨f0,f1,f2,f3,f4,f5⟩:=hf it (by simp)
    refine wpAny_pyNext_tuple_item st (show s.heap.IsTuple a its.toArray from p) (x:=u) (by simpa using hu) λ h' st' sb=>?_
    have I1:Inv X pins σ H { s with heap:=h' }:=I.turned (t':=s.toks) (λ b o hb e=>(sb.2 b hb).trans e) f0 f1 f3 f4 f5
    obtain⟨o,e,c,d⟩:=id st'
    exact⟨u,rfl,LZ (s:={ s with heap:=h' }) e c d (by decide) ⟨x,H,I1,ru,⟨rfl,λ ys hy=>by rw[I.tuple_inj hy hq];exact hx⟩,st',λ b hb=>(hf b hb).1⟩⟩
  done:=by
    intro X hP hw hK hc i pins s σ H E I hf st hg
    subst hP hw hK
    obtain⟨xs,hq,hx⟩:=hg
    obtain⟨its,rv,p,hz⟩:=I.tuple hq
    obtain⟨f0,f1,f2,f3,f4,f5⟩:=hf it (by simp)
    have hl:=rv.length
    exact wpAny_pyNext_tuple_end (I.ok.hd hc) st (show s.heap.IsTuple a its.toArray from p) (by simp;omega) λ h' eb=>⟨rfl,I.turned (t':=s.toks) (λ b o hb e=>eb b o hb e) f0 f1 f3 f4 f5⟩
  self:=λ _ _ _ _ _ st h=>wpAny_pyIter_tupleiter st h
theorem Kq{P:Program}{w:World}{K:PySem.W.Frag}{tg:Expr}(it:Addr)(lo:Int)(n:Nat):Turn P w K tg (Itr lo n) [it] it (λ i h=>IsRangeIter h it (lo + (i:Nat) * 1) ((n:Int) - (i:Nat)) 1) where
  mem:=by simp
  obj:=λ i h st b hb=>by
    have e:b=it:=by simpa using hb
    subst e
    exact⟨_,st,λ v z=>by
      have z':Data.fields _=Data.cell v:=z
      cases z'⟩
  keep:=λ i h h' st k=>k it (by simp) _ st
  item:=by
    intro X hP hw hK hc i pins s σ H E I hf st hg
    subst hP hw hK
    obtain⟨f0,f1,f2,f3,f4,f5⟩:=hf it (by simp)
    have W:=Walks.range (prog:=X.prog) (w:=X.w) (I.ok.hd hc) it lo 1 n
    refine W.item i s _ _ hg st λ v h' tk hv st' kk=>?_
    obtain⟨t,rfl⟩:=hv
    have I1:Inv X pins σ H { s with heap:=h',toks:=tk }:=I.turned (λ b o hb e=>kk b o (by simpa using hb) e) f0 f1 f3 f4 f5
    refine⟨_,rfl,LZ (s:={ s with heap:=h',toks:=tk }) (n:="range_iterator") st' rfl rfl (by decide) ⟨.int (lo + i),H,I1,⟨t,?_⟩,⟨rfl,rfl⟩,st',λ b hb=>(hf b hb).1⟩⟩
    rw[Int.mul_one]
  done:=by
    intro X hP hw hK hc i pins s σ H E I hf st hg
    subst hP hw hK
    obtain⟨f0,f1,f2,f3,f4,f5⟩:=hf it (by simp)
    exact wpAny_pyNext_range_end (I.ok.hd hc) st (by have:n <= i:=hg;omega) λ h' eb=>⟨rfl,I.turned (t':=s.toks) (λ b o hb e=>eb b o hb e) f0 f1 f3 f4 f5⟩
  self:=λ _ _ _ _ _ st h=>wpAny_pyIter_rangeiter st h
end L2
namespace L2
open PySem PySem.Spec PyProof.Rows
section
variable{X:Cx}{tg:Expr}
noncomputable def GG(K:PySem.W.Frag)(tl:TE):TI:=λ σ H R=>tl σ H λ x H1=>∃ a,x=.ref a/\(∃ xs,SqL K H1 a xs)/\R (Itl K a) H1
noncomputable def LW(K:PySem.W.Frag)(tl:TE):TI:=λ σ H R=>tl σ H λ x H1=>∃ a,x=.ref a/\(∃ xs,SqT K H1 a xs)/\R (Itt K a) H1
theorem QJ{l:Expr}{tl:TE}(hl:PE X l tl):PI X tg l (GG X.K tl):=by
  intro pins s σ H R I h
  refine thn (hl pins s σ H _ I h) λ v s1 ⟨x,H1,I1,r1,q1⟩=>?_
  obtain⟨a,e,⟨xs,hq⟩,q⟩:=q1
  subst e
  cases r1
  obtain⟨its,rv,p,hz⟩:=I1.list hq
  refine wpAny_pyIter_list p.isList ?_
  refine⟨s1.heap.objs.size,[s1.heap.objs.size],_,_,H1,rfl,I1.kept (t':=s1.toks) λ b o e=>Heap.get?_push_of_some _ e,Lx a _,⟨_,Heap.get?_push_size _ rfl,rfl,rfl⟩,λ b hb=>?_,q⟩
  have e:b=s1.heap.objs.size:=by simpa using hb
  subst e
  exact I1.fpOk (Nat.le_refl _) (I1.hok.fresh (Nat.le_refl _))
theorem Sb{l:Expr}{tl:TE}(hl:PE X l tl):PI X tg l (LW X.K tl):=by
  intro pins s σ H R I h
  refine thn (hl pins s σ H _ I h) λ v s1 ⟨x,H1,I1,r1,q1⟩=>?_
  obtain⟨a,e,⟨xs,hq⟩,q⟩:=q1
  subst e
  cases r1
  obtain⟨its,rv,p,hz⟩:=I1.tuple hq
  refine wpAny_pyIter_tuple (show s1.heap.IsTuple a its.toArray from p) ?_
  refine⟨s1.heap.objs.size,[s1.heap.objs.size],_,_,H1,rfl,I1.kept (t':=s1.toks) λ b o e=>Heap.get?_push_of_some _ e,Kp a _,⟨_,Heap.get?_push_size _ rfl,rfl,rfl⟩,λ b hb=>?_,q⟩
  have e:b=s1.heap.objs.size:=by simpa using hb
  subst e
  exact I1.fpOk (Nat.le_refl _) (I1.hok.fresh (Nat.le_refl _))
theorem Ng{pins:List (Addr × Obj)}{σ:St}{H:Hp}{s:Shared}{R:It->Hp->Prop}{E:Value->Shared->Prop}{lo hi:Int}{t u v:Tok}{tk:Nat}(I:Inv X pins σ H s)(h1:-(2 ^ 62) <= lo)(h2:lo < 2 ^ 62)(h3:-(2 ^ 62) <= hi)(h4:hi < 2 ^ 62)
    (q:R (Itr lo (hi - lo).toNat) H):wpAny (model X.prog X.w) X.A (pyIter (.ref s.heap.objs.size)) (PIE X pins σ tg R) E { s with heap:=s.heap.push { cls:=.type "range",data:=.fields #[.int lo t,.int hi u,.int 1 v] },toks:=tk }:=by
  refine wpAny_pyIter_range (IsRange.new ..) (small_one h1 h2 h3 h4) ?_
  have I1:Inv X pins σ H { s with heap:=s.heap.push { cls:=.type "range",data:=.fields #[.int lo t,.int hi u,.int 1 v] },toks:=tk }:=I.kept λ b o e=>Heap.get?_push_of_some _ e
  refine⟨(s.heap.push { cls:=.type "range",data:=.fields #[.int lo t,.int hi u,.int 1 v] }).objs.size,[(s.heap.push { cls:=.type "range",data:=.fields #[.int lo t,.int hi u,.int 1 v] }).objs.size],_,_,H,rfl,
    I1.kept (t':=tk) λ b o e=>Heap.get?_push_of_some _ e,Kq _ lo (hi - lo).toNat,?_,λ b hb=>?_,q⟩
  . have e1:lo + ((0:Nat):Int) * 1=lo:=by simp
    have e2:(((hi - lo).toNat:Nat):Int) - ((0:Nat):Int)=Builtin.Range.rangeSize lo hi 1:=by rw[rangeSize_one];split <;> omega
    show IsRangeIter _ _ (lo + ((0:Nat):Int) * 1) ((((hi - lo).toNat:Nat):Int) - ((0:Nat):Int)) 1
    rw[e1,e2]
    exact Heap.get?_push_size _ rfl
  . have e:b=(s.heap.push { cls:=.type "range",data:=.fields #[.int lo t,.int hi u,.int 1 v] }).objs.size:=by simpa using hb
    subst e
    exact I1.fpOk (Nat.le_refl _) (I1.hok.fresh (Nat.le_refl _))
noncomputable def LX(ta:TA):TI:=λ σ H R=>ta σ H λ vs H1=>∃ j:Int,vs=[.int j]/\-(2 ^ 62) <= j/\j < 2 ^ 62/\R (Itr 0 j.toNat) H1
theorem MV{a:Expr}{ta:TA}{p pos:Pos}(hg:Gl X "range")(hm:X.mg "range"=none)(ha:PA X [a] ta)(hs:starEach [a] X.env=[(false,eval a X.env)]:=by rfl):PI X tg (.Call (.Name "range" p) [a] [] pos) (LX ta):=by
  intro pins s σ H R I h
  refine Call_ (Eu I hg hm boot_range (PyProof.Rows.callWith_type1 (thn (ha pos pins s σ H _ I h) λ us s1 ⟨vs,H1,I1,r1,q1⟩=>?_) hs rfl))
  obtain⟨j,e,q1,q2,q⟩:=q1
  subst e
  cases r1 with
  | cons r rr=>
    cases rr
    obtain⟨t,rfl⟩:=r
    exact call_range_1 (Ng I1 (by omega) (by omega) q1 q2 (by simpa using q))
noncomputable def NP(wi:TI)(g:TG)(tb:TS):TS:=λ D σ H=>wi σ H λ J H1=>∃ W:Nat->Nat->St->Hp->Prop,(∃ m,W 0 m σ H1)/\∀ i m σ H,W i m σ H ->
  (J.stop i H/\D.nx σ H) ∨ (J.go i H/\∃ N:St->Hp->Prop,(∀ σ' H',N σ' H'->∃ m',m' < m/\W (i + 1) m' σ' H')/\∀ x H',J.yld i H x H'->g x σ H' λ σ2 H2=>tb { D with nx:=N,ct:=N,bk:=D.nx } σ2 H2)
noncomputable def Fg(fp:List Addr)(h:Heap):List (Addr × Obj):=fp.filterMap λ b=>(h.get? b).map λ o=>(b,o)
theorem Dp{fp:List Addr}{h:Heap}{b:Addr}{o:Obj}(hb:b ∈ fp)(e:h.get? b=some o):(b,o) ∈ Fg fp h:=List.mem_filterMap.mpr ⟨b,hb,by rw[e];rfl⟩
theorem Mb{fp:List Addr}{h:Heap}{p:Addr × Obj}(hp:p ∈ Fg fp h):p.1 ∈ fp/\h.get? p.1=some p.2:=by
  obtain⟨b,hb,e⟩:=List.mem_filterMap.mp hp
  cases q:h.get? b with
  | none=>rw[q]at e;cases e
  | some o=>
    rw[q]at e
    have e':(b,o)=p:=Option.some.inj e
    subst e'
    exact⟨hb,q⟩
theorem Inv.pinned{pins:List (Addr × Obj)}{σ:St}{H:Hp}{s:Shared}{fp:List Addr}(I:Inv X pins σ H s)(hf:∀ b ∈ fp,EH X pins H b)(ho:∀ b ∈ fp,∃ o,s.heap.get? b=some o/\∀ v,o.data ≠ .cell v):Inv X (pins ++ Fg fp s.heap) σ H s:=
  I.pins_of λ p hp=>(List.mem_append.mp hp).elim (λ z=>I.pin p (List.mem_append_right _ z)) λ z=>by
    obtain⟨hb,e⟩:=Mb z
    obtain⟨f0,f1,f2,_⟩:=hf p.1 hb
    obtain⟨o,e',d⟩:=ho p.1 hb
    rw[e]at e';cases e'
    exact⟨e,f0,f1,f2,d⟩
theorem Inv.unpinned{pins pl:List (Addr × Obj)}{σ:St}{H:Hp}{s:Shared}(I:Inv X (pins ++ pl) σ H s):Inv X pins σ H s:=I.pins_of λ p hp=>I.pin p (List.mem_append_right _ (List.mem_append_left _ hp))
theorem SZ{iter:Expr}{body:List Stmt}{wi:TI}{g:TG}{tb:TS}{pos:Pos}(hp:PassesOwn (model X.prog X.w) X.A X.env X.xe)(hc:X.calm=true)(hi:PI X tg iter wi)(hg:PG X tg g)(hb:PSs X body tb)
    (hs:∀ x,foldedSetIterable iter X.env x=pure x:=by intro _;rfl):PS X (.For tg iter body [] pos) (NP wi g tb):=by
  intro pins s σ H D I h
  refine wpAny_For (thn (hi pins s σ H _ I h) λ v s1 h1=>thn h1 λ itv s2 h2=>?_) hs
  obtain⟨it,fp,tn,J,H2,e,I2,T,st2,f2,W,⟨m0,w0⟩,turn⟩:=h2
  subst e
  -- what stays true of the iterator's objects through the loop
  have stat:∀ {H':Hp},(∀ b ∈ fp,H' b=none)->∀ b ∈ fp,EH X pins H' b:=λ hn b hb=>⟨hn b hb,(f2 b hb).2⟩
  refine codeAny_forLoop_any (λ n s'=>∃ i σ' H',Inv X pins σ' H' s'/\tn i s'.heap/\(∀ b ∈ fp,H' b=none)/\W i n σ' H') ?_ m0 ⟨0,σ,H2,I2,st2,λ b hb=>(f2 b hb).1,w0⟩
  rintro n s3 ⟨i,σ3,H3,I3,st3,fr3,w3⟩
  rcases turn i n σ3 H3 w3 with⟨stop,qn⟩|⟨go,N,hN,step⟩
  . refine wpAny_passesOwn hp (thn (T.done X rfl rfl rfl hc i pins s3 σ3 H3 X.xe I3 (stat fr3) st3 stop) λ r s4 ⟨hr,I4⟩=>?_)
    subst hr
    exact wpAny_execs_nil ⟨σ3,H3,I4,qn⟩
  . refine wpAny_passesOwn hp (thn (T.item X rfl rfl rfl hc i pins s3 σ3 H3 X.xe I3 (stat fr3) st3 go) λ r s4 ⟨u,hr,h4⟩=>?_)
    subst hr
    refine wpAny_passesOwn hp (thn h4 λ _ s5 ⟨x,H5,I5,r5,y5,st5,fr5⟩=>?_)
    have I5':=I5.pinned (stat fr5) (T.obj _ _ st5)
    refine wpAny_passesOwn hp (thn (hg _ s5 σ3 H5 x u _ I5' r5 (step x H5 y5)) λ _ s6 ⟨σ6,H6,I6,q6⟩=>?_)
    refine wpAny_passesOwn hp (thn (hb _ s6 σ6 H6 _ I6 q6) λ f s7 q7=>?_)
    have again:∀ {σ7:St} {H7:Hp},Inv X (pins ++ Fg fp s5.heap) σ7 H7 s7->N σ7 H7->∃ m,m < n/\∃ i σ' H',Inv X pins σ' H' s7/\tn i s7.heap/\(∀ b ∈ fp,H' b=none)/\W i m σ' H':=λ {σ7 H7} I7 n7=>by
      obtain⟨m',hm,w7⟩:=hN σ7 H7 n7
      refine⟨m',hm,i + 1,σ7,H7,I7.unpinned,T.keep _ _ _ st5 λ b hb o e=>(I7.pin (b,o) (List.mem_append_right _ (List.mem_append_right _ (Dp hb e)))).1,λ b hb=>?_,w7⟩
      obtain⟨o,e,d⟩:=T.obj _ _ st5 b hb
      exact(I7.pin (b,o) (List.mem_append_right _ (List.mem_append_right _ (Dp hb e)))).2.1
    cases f with
    | next=>obtain⟨σ7,H7,I7,n7⟩:=q7;exact again I7 n7
    | cont=>obtain⟨σ7,H7,I7,n7⟩:=q7;exact again I7 n7
    | brk=>obtain⟨σ7,H7,I7,q7⟩:=q7;exact⟨σ7,H7,I7.unpinned,q7⟩
    | ret v=>obtain⟨x7,σ7,H7,I7,r7,q7⟩:=q7;exact⟨x7,σ7,H7,I7.unpinned,r7,q7⟩
end
end L2
namespace L2
open PySem PySem.Spec PyProof.Rows
noncomputable abbrev R2:=V->V->Hp->VK->Prop
noncomputable def OpR(X:Cx)(f:Value->Value->Sem Value)(r:R2):Prop:=
  ∀ (pins:List (Addr × Obj)) (s:Shared) (σ:St) (H:Hp) (x y:V) (v u:Value) (Q:VK),Inv X pins σ H s->RelV x v->RelV y u->r x y H Q ->
    wpAny (model X.prog X.w) X.A (f v u) (EP X pins σ Q) X.xe s
noncomputable def UnR(X:Cx)(f:Value->Sem Value)(r:V->Hp->VK->Prop):Prop:=
  ∀ (pins:List (Addr × Obj)) (s:Shared) (σ:St) (H:Hp) (x:V) (v:Value) (Q:VK),Inv X pins σ H s->RelV x v->r x H Q ->
    wpAny (model X.prog X.w) X.A (f v) (EP X pins σ Q) X.xe s
noncomputable def CallR(X:Cx)(f:Value)(r:List V->Hp->VK->Prop):Prop:=
  ∀ (pins:List (Addr × Obj)) (s:Shared) (σ:St) (H:Hp) (xs:List V) (us:List Value) (Q:VK),Inv X pins σ H s->Vals xs us->r xs H Q ->
    wpAny (model X.prog X.w) X.A (call f us) (EP X pins σ Q) X.xe s
noncomputable def Uu(X:Cx)(r:V->Hp->(Bool->Hp->Prop)->Prop):Prop:=
  ∀ (pins:List (Addr × Obj)) (s:Shared) (σ:St) (H:Hp) (x:V) (v:Value) (Q:Bool->Hp->Prop),Inv X pins σ H s->RelV x v->r x H Q ->
    wpAny (model X.prog X.w) X.A (truthy v) (TP X pins σ Q) X.xe s
noncomputable def tOp(r:R2)(ta tb:TE):TE:=λ σ H Q=>ta σ H λ x H1=>tb σ H1 λ y H2=>r x y H2 Q
noncomputable def tUn(r:V->Hp->VK->Prop)(ta:TE):TE:=λ σ H Q=>ta σ H λ x H1=>r x H1 Q
noncomputable def rI(C:Int->Int->Prop)(g:Int->Int->V):R2:=λ x y H Q=>∃ i j,x=.int i/\y=.int j/\C i j/\Q (g i j) H
noncomputable def rI0(g:Int->Int->V):R2:=λ x y H Q=>∃ i j,x=.int i/\y=.int j/\Q (g i j) H
noncomputable def rU(g:Int->V):V->Hp->VK->Prop:=λ x H Q=>∃ i,x=.int i/\Q (g i) H
section
variable{X:Cx}{a b c:Expr}{ta tb tc:TE}{pos:Pos}
theorem OU(ha:PE X a ta)(hb:PE X b tb){pins:List (Addr × Obj)}{s:Shared}{σ:St}{H:Hp}{R:V->V->Hp->Prop}(I:Inv X pins σ H s)
    (h:ta σ H λ x H1=>tb σ H1 λ y H2=>R x y H2) {Q:Value->Shared->Prop} {f:Value->Value->Sem Value}
    (hf:∀ v u s2 x y H2,Inv X pins σ H2 s2->RelV x v->RelV y u->R x y H2->wpAny (model X.prog X.w) X.A (f v u) Q X.xe s2) :
    wpAny (model X.prog X.w) X.A (eval a X.env) (λ v s₁=>wpAny (model X.prog X.w) X.A (eval b X.env) (λ u s₂=>wpAny (model X.prog X.w) X.A (f v u) Q X.xe s₂) X.xe s₁) X.xe s:=by
  refine thn (ha pins s σ H _ I h) λ v s1 ⟨x,H1,I1,r1,q1⟩=>?_
  refine thn (hb pins s1 σ H1 _ I1 q1) λ u s2 ⟨y,H2,I2,r2,q2⟩=>?_
  exact hf v u s2 x y H2 I2 r1 r2 q2
theorem Ot{op:Operator}{r:R2}(ho:OpR X (binaryOp op) r)(ha:PE X a ta)(hb:PE X b tb):PE X (.BinOp a op b pos) (tOp r ta tb):=by
  intro pins s σ H Q I h
  exact wpAny_BinOp (OU ha hb I h λ v u s2 x y H2 I2 rx ry q=>ho pins s2 σ H2 x y v u Q I2 rx ry q)
theorem U0{op:UnaryOp}{r:V->Hp->VK->Prop}(ho:UnR X (unaryOp op) r)(ha:PE X a ta):PE X (.UnaryOp op a pos) (tUn r ta):=by
  intro pins s σ H Q I h
  exact UnaryOp_ (thn (ha pins s σ H _ I h) λ v s1 ⟨x,H1,I1,r1,q1⟩=>ho pins s1 σ H1 x v Q I1 r1 q1)
theorem opI{f:Value->Value->Sem Value}{C:Int->Int->Prop}{g:Int->Int->Int}
    (rule:∀ (i j:Int) (t u:Tok) (s:Shared) (Q:Value->Shared->Prop) (E:Value->Shared->Prop),C i j->Q (.int (g i j) s.toks) { s with toks:=s.toks + 1 }->wpAny (model X.prog X.w) X.A (f (.int i t) (.int j u)) Q E s) :
    OpR X f (rI C λ i j=>.int (g i j)):=by
  intro pins s σ H x y v u Q I rx ry h
  obtain⟨i,j,rfl,rfl,hc,q⟩:=h
  obtain⟨t,rfl⟩:=rx
  obtain⟨t',rfl⟩:=ry
  exact rule i j t t' s _ _ hc ⟨.int (g i j),H,I.tok _,⟨_,rfl⟩,q⟩
theorem Sv{f:Value->Value->Sem Value}{g:Int->Int->Int}
    (rule:∀ (i j:Int) (t u:Tok) (s:Shared) (Q:Value->Shared->Prop) (E:Value->Shared->Prop),Q (.int (g i j) s.toks) { s with toks:=s.toks + 1 }->wpAny (model X.prog X.w) X.A (f (.int i t) (.int j u)) Q E s) :
    OpR X f (rI0 λ i j=>.int (g i j)):=by
  intro pins s σ H x y v u Q I rx ry h
  obtain⟨i,j,rfl,rfl,q⟩:=h
  obtain⟨t,rfl⟩:=rx
  obtain⟨t',rfl⟩:=ry
  exact rule i j t t' s _ _ ⟨.int (g i j),H,I.tok _,⟨_,rfl⟩,q⟩
theorem LM{f:Value->Value->Sem Value}{g:Int->Int->Bool}
    (rule:∀ (i j:Int) (t u:Tok) (s:Shared) (Q:Value->Shared->Prop) (E:Value->Shared->Prop),Q (.bool (g i j)) s->wpAny (model X.prog X.w) X.A (f (.int i t) (.int j u)) Q E s) :
    OpR X f (rI0 λ i j=>.bl (g i j)):=by
  intro pins s σ H x y v u Q I rx ry h
  obtain⟨i,j,rfl,rfl,q⟩:=h
  obtain⟨t,rfl⟩:=rx
  obtain⟨t',rfl⟩:=ry
  exact rule i j t t' s _ _ ⟨.bl (g i j),H,I,rfl,q⟩
noncomputable def Tg(i j:Int):Prop:=0 < j/\j < 1073741824
noncomputable def Tf(i j:Int):Prop:=0 <= j/\j <= 1000000/\i.natAbs < 2 ^ 64
noncomputable def CMul(i j:Int):Prop:=(-(2 ^ 64) < i/\i < 2 ^ 64) ∨ (-(2 ^ 64) < j/\j < 2 ^ 64)
theorem CMul.ok{i j:Int}(h:CMul i j):IntMulOk i j:=by
  rcases h with⟨h1,h2⟩|⟨h1,h2⟩
  . exact .of_left (intBits_le_64 h1 h2)
  . exact .of_right (intBits_le_64 h1 h2)
theorem At:OpR X (binaryOp .Add) (rI0 λ i j=>.int (i + j)):=Sv λ _ _ _ _ _ _ _ q=>add_int q
theorem MX:OpR X (binaryOp .Sub) (rI0 λ i j=>.int (i - j)):=Sv λ _ _ _ _ _ _ _ q=>sub_int q
theorem Bs:OpR X (binaryOp .Mult) (rI CMul λ i j=>.int (i * j)):=opI λ _ _ _ _ _ _ _ hc q=>mul_int q hc.ok
theorem En:OpR X (binaryOp .FloorDiv) (rI Tg λ i j=>.int (i / j)):=opI λ i j _ _ _ _ _ hc q=>by
  have h1:(0:Int) < j:=hc.1
  have h2:j < 1073741824:=hc.2
  exact floordiv_int (by omega) (by rw[Int.fdiv_eq_ediv_of_nonneg i (by omega)];exact q) (.inl (PyProof.noPylong_small (by omega)))
theorem CT:OpR X (binaryOp .Mod) (rI (λ _ j=>0 < j) λ i j=>.int (i % j)):=opI λ i j _ _ _ _ _ hc q=>by
  have h1:(0:Int) < j:=hc
  exact mod_int' (by omega) (by rw[Int.fmod_eq_emod_of_nonneg i (by omega)];exact q)
theorem So:OpR X (binaryOp .Pow) (rI Tf λ i j=>.int (i ^ j.toNat)):=opI λ _ _ _ _ _ _ _ hc q=>pow_int_small hc.1 hc.2.1 hc.2.2 q
theorem unI{f:Value->Sem Value}{g:Int->Int}
    (rule:∀ (i:Int) (t:Tok) (s:Shared) (Q:Value->Shared->Prop) (E:Value->Shared->Prop),Q (.int (g i) s.toks) { s with toks:=s.toks + 1 }->wpAny (model X.prog X.w) X.A (f (.int i t)) Q E s) :
    UnR X f (rU λ i=>.int (g i)):=by
  intro pins s σ H x v Q I rx h
  obtain⟨i,rfl,q⟩:=h
  obtain⟨t,rfl⟩:=rx
  exact rule i t s _ _ ⟨.int (g i),H,I.tok _,⟨_,rfl⟩,q⟩
theorem Rc:UnR X (unaryOp .USub) (rU λ i=>.int (-i)):=unI λ _ _ _ _ _ q=>neg_int q
end
noncomputable def J5:V->V->Bool
  | .non,.non=>true | .non,.int _=>true | .int _,.non=>true | .non,.bl _=>true | .bl _,.non=>true | .non,.str _=>true | .str _,.non=>true
  | .int _,.int _=>true | .bl _,.bl _=>true | .str _,.str _=>true | .byt _,.byt _=>true
  | .int _,.str _=>true | .str _,.int _=>true | .bl _,.str _=>true | .str _,.bl _=>true
  | _,_=>false
noncomputable def rEq:R2:=λ x y H Q=>J5 x y=true/\Q (.bl (decide (x=y))) H
noncomputable def rNe:R2:=λ x y H Q=>J5 x y=true/\Q (.bl (!decide (x=y))) H
theorem Ka{i j:Int}:decide (V.int i=V.int j)=(i == j):=by
  rw[Bool.eq_iff_iff]
  simp
theorem Mz{i j:Bool}:decide (V.bl i=V.bl j)=(i == j):=by
  rw[Bool.eq_iff_iff]
  simp
theorem KZ{i j:Str}:decide (V.str i=V.str j)=(i == j):=by
  rw[Bool.eq_iff_iff]
  simp
theorem Kb{i j:Array UInt8}:decide (V.byt i=V.byt j)=(i.toList == j.toList):=by
  rw[Bool.eq_iff_iff]
  cases i
  cases j
  simp
section
variable{X:Cx}{a b c:Expr}{ta tb tc:TE}{pos:Pos}
theorem Ag{pins:List (Addr × Obj)}{σ:St}{H:Hp}{s:Shared}{Q:VK}{k k':Bool}(I:Inv X pins σ H s)(q:Q (.bl k) H)(e:k=k'):EP X pins σ Q (.bool k') s:=by
  subst e
  exact⟨.bl k,H,I,rfl,q⟩
theorem GC:OpR X (compareOp .Eq) rEq:=by
  intro pins s σ H x y v u Q I rx ry h
  obtain⟨hs,q⟩:=h
  cases x with
  | non=>
    cases rx
    cases y with
    | non=>cases ry;exact PySem.EqNone.eq_none_none (Ag I q (by simp))
    | bl j=>cases ry;exact PySem.EqNone.eq_none_bool (Ag I q (by simp))
    | int j=>obtain⟨t',rfl⟩:=ry;exact PySem.EqNone.eq_none_int (Ag I q (by simp))
    | str j=>obtain⟨t',rfl⟩:=ry;exact PySem.EqNone.eq_none_str (Ag I q (by simp))
    | _=>exact absurd (show false=true from hs) Bool.false_ne_true
  | bl i=>
    cases rx
    cases y with
    | non=>cases ry;exact PySem.EqNone.eq_bool_none (Ag I q (by simp))
    | bl j=>cases ry;exact eq_bool (Ag I q Mz)
    | str j=>obtain⟨t',rfl⟩:=ry;exact PySem.EqMixed.eq_bool_str (Ag I q (by simp))
    | _=>exact absurd (show false=true from hs) Bool.false_ne_true
  | int i=>
    obtain⟨t,rfl⟩:=rx
    cases y with
    | non=>cases ry;exact PySem.EqNone.eq_int_none (Ag I q (by simp))
    | int j=>obtain⟨t',rfl⟩:=ry;exact eq_int (Ag I q Ka)
    | str j=>obtain⟨t',rfl⟩:=ry;exact PySem.EqMixed.eq_int_str (Ag I q (by simp))
    | _=>exact absurd (show false=true from hs) Bool.false_ne_true
  | str i=>
    obtain⟨t,rfl⟩:=rx
    cases y with
    | non=>cases ry;exact PySem.EqNone.eq_str_none (Ag I q (by simp))
    | bl j=>cases ry;exact PySem.EqMixed.eq_str_bool (Ag I q (by simp))
    | int j=>obtain⟨t',rfl⟩:=ry;exact PySem.EqMixed.eq_str_int (Ag I q (by simp))
    | str j=>obtain⟨t',rfl⟩:=ry;exact eq_str (Ag I q KZ)
    | _=>exact absurd (show false=true from hs) Bool.false_ne_true
  | byt i=>
    obtain⟨t,rfl⟩:=rx
    cases y with
    | byt j=>obtain⟨t',rfl⟩:=ry;exact PySem.W.eq_bytes (Ag I q Kb)
    | _=>exact absurd (show false=true from hs) Bool.false_ne_true
  | _=>cases y <;> exact absurd (show false=true from hs) Bool.false_ne_true
theorem Ih:OpR X (compareOp .NotEq) rNe:=by
  intro pins s σ H x y v u Q I rx ry h
  obtain⟨hs,q⟩:=h
  cases x with
  | non=>
    cases rx
    cases y with
    | non=>cases ry;exact PySem.EqNone.ne_none_none (Ag I q (by simp))
    | bl j=>cases ry;exact PySem.EqNone.ne_none_bool (Ag I q (by simp))
    | int j=>obtain⟨t',rfl⟩:=ry;exact PySem.EqNone.ne_none_int (Ag I q (by simp))
    | str j=>obtain⟨t',rfl⟩:=ry;exact PySem.EqNone.ne_none_str (Ag I q (by simp))
    | _=>exact absurd (show false=true from hs) Bool.false_ne_true
  | bl i=>
    cases rx
    cases y with
    | non=>cases ry;exact PySem.EqNone.ne_bool_none (Ag I q (by simp))
    | bl j=>cases ry;exact ne_bool (Ag I q (congrArg not Mz))
    | str j=>obtain⟨t',rfl⟩:=ry;exact PySem.EqMixed.ne_bool_str (Ag I q (by simp))
    | _=>exact absurd (show false=true from hs) Bool.false_ne_true
  | int i=>
    obtain⟨t,rfl⟩:=rx
    cases y with
    | non=>cases ry;exact PySem.EqNone.ne_int_none (Ag I q (by simp))
    | int j=>obtain⟨t',rfl⟩:=ry;exact ne_int (Ag I q (congrArg not Ka))
    | str j=>obtain⟨t',rfl⟩:=ry;exact PySem.EqMixed.ne_int_str (Ag I q (by simp))
    | _=>exact absurd (show false=true from hs) Bool.false_ne_true
  | str i=>
    obtain⟨t,rfl⟩:=rx
    cases y with
    | non=>cases ry;exact PySem.EqNone.ne_str_none (Ag I q (by simp))
    | bl j=>cases ry;exact PySem.EqMixed.ne_str_bool (Ag I q (by simp))
    | int j=>obtain⟨t',rfl⟩:=ry;exact PySem.EqMixed.ne_str_int (Ag I q (by simp))
    | str j=>obtain⟨t',rfl⟩:=ry;exact ne_str (Ag I q (congrArg not KZ))
    | _=>exact absurd (show false=true from hs) Bool.false_ne_true
  | byt i=>
    obtain⟨t,rfl⟩:=rx
    cases y with
    | byt j=>obtain⟨t',rfl⟩:=ry;exact PySem.W.ne_bytes (Ag I q (congrArg not Kb))
    | _=>exact absurd (show false=true from hs) Bool.false_ne_true
  | _=>cases y <;> exact absurd (show false=true from hs) Bool.false_ne_true
theorem HB:OpR X (compareOp .Lt) (rI0 λ i j=>.bl (decide (i < j))):=LM λ _ _ _ _ _ _ _ q=>lt_int q
theorem U5:OpR X (compareOp .LtE) (rI0 λ i j=>.bl (decide (i <= j))):=LM λ _ _ _ _ _ _ _ q=>le_int q
theorem Ii:OpR X (compareOp .Gt) (rI0 λ i j=>.bl (decide (j < i))):=LM λ _ _ _ _ _ _ _ q=>gt_int q
theorem U6:OpR X (compareOp .GtE) (rI0 λ i j=>.bl (decide (j <= i))):=LM λ _ _ _ _ _ _ _ q=>ge_int q
theorem OpR.or{f:Value->Value->Sem Value}{r r':R2}(h:OpR X f r)(h':OpR X f r'):OpR X f (λ x y H Q=>r x y H Q ∨ r' x y H Q):=by
  intro pins s σ H x y v u Q I rx ry q
  rcases q with q|q
  . exact h pins s σ H x y v u Q I rx ry q
  . exact h' pins s σ H x y v u Q I rx ry q
theorem HC(b:Expr){op:CmpOp}(h:op ≠ .In:=by decide)(h2:op ≠ .NotIn:=by decide):behindInMarks op b=false:=by
  have e1:(op == CmpOp.In)=false:=by cases op <;> first|rfl|exact absurd rfl h
  have e2:(op == CmpOp.NotIn)=false:=by cases op <;> first|rfl|exact absurd rfl h2
  cases b <;> simp[behindInMarks,e1,e2]
theorem QY{op:CmpOp}{r:R2}(ho:OpR X (compareOp op) r)(ha:PE X a ta)(hb:PE X b tb)(hm:behindInMarks op b=false):PE X (.Compare a [op] [b] pos) (tOp r ta tb):=by
  intro pins s σ H Q I h
  exact wpAny_Compare1 (OU ha hb I h λ v u s2 x y H2 I2 rx ry q=>ho pins s2 σ H2 x y v u Q I2 rx ry q) hm
noncomputable def Gm(t:TE):TT:=λ σ H Q=>t σ H λ x H'=>∃ k,x=.bl k/\Q k H'
theorem Hh{op:CmpOp}{r:R2}(ho:OpR X (compareOp op) r)(ha:PE X a ta)(hb:PE X b tb)(hm:behindInMarks op b=false):PT X (.Compare a [op] [b] pos) (Gm (tOp r ta tb)):=by
  intro pins s σ H Q I h
  refine wpAny_isTrue_Compare1 (thn (ha pins s σ H _ I h) λ v s1 ⟨x,H1,I1,r1,q1⟩=>thn (hb pins s1 σ H1 _ I1 q1) λ u s2 ⟨y,H2,I2,r2,q2⟩=>
    thn (ho pins s2 σ H2 x y v u _ I2 r1 r2 q2) λ c s3 ⟨z,H3,I3,r3,k,e,q3⟩=>?_) hm
  subst e
  cases r3
  exact wpAny_truthy_bool ⟨H3,I3,q3⟩
noncomputable def Jx(K:PySem.W.Frag)(x:V)(H:Hp)(k:Bool):Prop:=
  match x with
  | .non=>k=false
  | .bl b=>k=b
  | .int i=>k=(i != 0)
  | .str y=>y.length <= sizeLine/\k=((y.length:Int) != 0)
  | .byt y=>y.size <= sizeLine/\k=((y.size:Int) != 0)
  | .ref p=>(∃ xs,SqL K H p xs/\k=!xs.isEmpty) ∨ (∃ xs,SqT K H p xs/\k=!xs.isEmpty) ∨ ∃ kvs,H p=some (.dK kvs)/\k=!kvs.isEmpty
  | _=>False
theorem LU{κ:Type}{kvs:List (κ × V)}{vs:List (κ × Value)}(r:KV kvs vs):(!vs.isEmpty)=!kvs.isEmpty:=by
  cases r <;> rfl
theorem HK{xs:List V}{its:List Value}(r:Vals xs its):(!its.toArray.isEmpty)=!xs.isEmpty:=by
  cases r <;> simp
theorem Es:(sizeLine:Nat) < 2 ^ 63:=by rw[sizeLine_eq];decide
theorem Rf:Uu X (λ x H Q=>∃ k,Jx X.K x H k/\Q k H):=by
  intro pins s σ H x v Q I rx h
  obtain⟨k,e,q⟩:=h
  have hl:=Es
  have hs:sizeLine=16777216:=sizeLine_eq
  cases x with
  | non=>
    cases rx
    have e':k=false:=e
    subst e'
    exact truthy_none ⟨H,I,q⟩
  | bl b=>
    cases rx
    have e':k=b:=e
    subst e'
    exact wpAny_truthy_bool ⟨H,I,q⟩
  | int i=>
    obtain⟨t,rfl⟩:=rx
    have e':k=(i != 0):=e
    subst e'
    exact PySem.P.truthy_int ⟨H,I,q⟩
  | str y=>
    obtain⟨t,rfl⟩:=rx
    obtain⟨hy,e'⟩:y.length <= sizeLine/\k=((y.length:Int) != 0):=e
    subst e'
    exact PySem.P.truthy_str (by omega) ⟨H,I.tok _,q⟩
  | byt y=>
    obtain⟨t,rfl⟩:=rx
    obtain⟨hy,e'⟩:y.size <= sizeLine/\k=((y.size:Int) != 0):=e
    subst e'
    exact PySem.W.truthy_bytes (by omega) ⟨H,I.tok _,q⟩
  | ref p=>
    cases rx
    have e':(∃ xs,SqL X.K H p xs/\k=!xs.isEmpty) ∨ (∃ xs,SqT X.K H p xs/\k=!xs.isEmpty) ∨ ∃ kvs,H p=some (.dK kvs)/\k=!kvs.isEmpty:=e
    rcases e' with⟨xs,hx,e'⟩|⟨xs,hx,e'⟩|⟨kvs,hx,e'⟩
    . subst e'
      obtain⟨its,r,pl,hz⟩:=I.list hx
      have hlen:=r.length
      exact wpAny_truthy_list pl.isList (by simp only[List.size_toArray];omega) ⟨H,I.tok _,by rw[HK r];exact q⟩
    . subst e'
      obtain⟨its,r,pl,hz⟩:=I.tuple hx
      have hlen:=r.length
      exact truthy_tuple pl (by simp only[List.size_toArray];omega) ⟨H,I.tok _,by rw[HK r];exact q⟩
    . subst e'
      obtain⟨hz,hS,vs,r,m⟩:kvs.length <= sizeLine/\(p == sysModules)=false/\∃ vs,KV kvs vs/\s.heap.DictOf (Hl X.prog X.w) p vs:=I.hok p _ hx
      have hlen:kvs.length=vs.length:=Paired.length r
      exact wpAny_truthy_dict hS m (by omega) ⟨H,I.tok _,by rw[LU r];exact q⟩
  | _=>exact(show False from e).elim
theorem Nz(ha:PE X a ta)(he:∀ whole,isTrue a X.env whole=(do let v <- whole;standAt a.pos;holding [v] (truthy v))) :
    PT X a (λ σ H Q=>ta σ H λ x H'=>∃ k,Jx X.K x H' k/\Q k H'):=by
  intro pins s σ H Q I h
  exact isTrue_plain (thn (ha pins s σ H _ I h) λ v s1 ⟨x,H1,I1,r1,q1⟩=>Rf pins s1 σ H1 x v Q I1 r1 q1) (he _)
theorem CG{x:V}{us:List Value}(r:Vals [x] us):∃ u,us=[u]/\RelV x u:=by
  cases r with
  | cons r1 r2=>cases r2;exact⟨_,rfl,r1⟩
theorem Oc{x y:V}{us:List Value}(r:Vals [x,y] us):∃ u w',us=[u,w']/\RelV x u/\RelV y w':=by
  cases r with
  | cons r1 r2=>
    cases r2 with
    | cons r3 r4=>cases r4;exact⟨_,_,rfl,r1,r3⟩
theorem OS:CallR X (.builtin "abs") (λ xs H Q=>∃ i,xs=[.int i]/\Q (.int (if i < 0 then -i else i)) H):=by
  intro pins s σ H xs us Q I r h
  obtain⟨i,rfl,q⟩:=h
  obtain⟨u,rfl,t,rfl⟩:=CG r
  exact call_abs_int λ u tk=>⟨.int (if i < 0 then -i else i),H,I.tok _,⟨_,rfl⟩,q⟩
theorem N7(hc:X.calm=true):CallR X (.builtin "min") (λ xs H Q=>∃ i j,xs=[.int i,.int j]/\Q (.int (if j < i then j else i)) H):=by
  intro pins s σ H xs us Q I r h
  obtain⟨i,j,rfl,q⟩:=h
  obtain⟨u,w',rfl,⟨t,rfl⟩,⟨t',rfl⟩⟩:=Oc r
  refine min_two_ints (I.ok.hd hc) λ h' tk k=>⟨_,H,I.kept k,?_,q⟩
  by_cases hj:j < i
  . rw[if_pos hj,if_pos hj];exact⟨_,rfl⟩
  . rw[if_neg hj,if_neg hj];exact⟨_,rfl⟩
theorem N9:CallR X (.type "int") (λ xs H Q=>(∃ i,xs=[.int i]/\Q (.int i) H) ∨ ∃ k,xs=[.bl k]/\Q (.int (if k then 1 else 0)) H):=by
  intro pins s σ H xs us Q I r h
  rcases h with⟨i,rfl,q⟩|⟨k,rfl,q⟩
  . obtain⟨u,rfl,t,rfl⟩:=CG r
    exact call_int_int ⟨.int i,H,I,⟨_,rfl⟩,q⟩
  . obtain⟨u,rfl,r1⟩:=CG r
    cases r1
    exact call_int_bool ⟨.int (if k then 1 else 0),H,I.tok _,⟨_,rfl⟩,q⟩
end
end L2
namespace L2
open PySem PySem.Spec PyProof.Rows
theorem IG{h:Heap}{dx:Addr}{mA:Str->Option Value}(n:h.Ns1 dx mA):∃ od,h.get? dx=some od/\∀ name,PySem.W.lookIn name od=some (mA name):=by
  obtain⟨o,es,ep,ho,hd,hk,_,hm⟩:=n
  refine⟨o,ho,λ name=>?_⟩
  have e:=hm name
  unfold nsFind findBy at e
  rw[<- Array.find?_toList]at e
  unfold PySem.W.lookIn
  rw[hd]
  dsimp only
  split
  . rename_i y q
    rw[q]at e
    exact congrArg some e
  . rename_i q
    rw[q]at e
    have a:es.toList.any (·.refKey)=false:=by
      rw[List.any_eq_false]
      intro y hy
      obtain⟨z,t,hkey⟩:=hk y (Array.mem_toList_iff.mp hy)
      simp[DictEntry.refKey,hkey]
    have a':¬ es.toList.any (·.refKey)=true:=by rw[a];exact Bool.false_ne_true
    rw[if_neg a']
    exact congrArg some e
section
variable{prog:Program}{w:World}{A:Around}{E:Value->Shared->Prop}{s:Shared}{K:PySem.W.Frag}{x dx C f:Addr}{mA:Str->Option Value}{name:Str}{v:Value}
end
theorem RelO.some_of{v:V}{o:Option Value}(r:RelO (some v) o):∃ u,o=some u/\RelV v u:=by
  cases o with
  | none=>exact(show False from r).elim
  | some u=>exact⟨u,rfl,r⟩
theorem Mo{v:V}{u:Value}(r:RelV v u):PySem.W.handedIn u=true:=by
  cases v with
  | non=>cases(show u=Value.none from r);rfl
  | bl b=>cases(show u=Value.bool b from r);rfl
  | int i=>obtain⟨t,e⟩:=(show ∃ t,u=Value.int i t from r);cases e;rfl
  | str x=>obtain⟨t,e⟩:=(show ∃ t,u=Value.str x t from r);cases e;rfl
  | byt b=>obtain⟨t,e⟩:=(show ∃ t,u=Value.bytes b t from r);cases e;rfl
  | flt b=>obtain⟨t,e⟩:=(show ∃ t,u=Value.float b t from r);cases e;rfl
  | ref a=>cases(show u=Value.ref a from r);rfl
  | ty n=>cases(show u=Value.type n from r);rfl
section
variable{P:Program}{w:World}{H H':Hp}{h h':Heap}{a C dx:Addr}{fs fs':List (Str × V)}
end
noncomputable def Df(K:PySem.W.Frag)(C:Addr)(f:Str):Prop:=PySem.W.findIn K (.ref C) f=some none
section
variable{X:Cx}{pins:List (Addr × Obj)}{σ:St}{H:Hp}{s:Shared}{a C dx:Addr}{fs:List (Str × V)}{f:Str}{v:V}{A:Around}{E:Value->Shared->Prop}
theorem RQ{prog:Program}{w:World}{env:Env}{e:Expr}{f:Str}{pos:Pos}{s:Shared}{Q:Value->Shared->Prop}(hb:attributeBase e f env (eval e env)=eval e env)
    (h:wpAny (model prog w) A (eval e env) (λ o s₁=>wpAny (model prog w) A (getAttr o f true) Q E s₁) E s):wpAny (model prog w) A (eval (.Attribute e f pos) env) Q E s:=
  Attribute_any_ h (by rw[arm_eval_Attribute,hb])
end
section
variable{X:Cx}{o e value:Expr}{f:Str}{pos pos' tpos:Pos}{ta tv:TE}
end
section
variable{X:Cx}{pins:List (Addr × Obj)}{σ:St}{H:Hp}{s:Shared}{A:Around}{E:Value->Shared->Prop}{Q:Value->Shared->Prop}{c:Value}{b:Bool}
end
end L2
namespace L2
open PySem PySem.Spec PyProof.Rows
structure Room(k:Nat)(A:Around):Prop where
  hd:A.handled=none
  dp:A.depth + 3 * k + 5 < recursionLimit
  un:A.units + 16 * k + 200 < cLine
  gd:A.guards=some []
theorem Room.mono{j k:Nat}{A:Around}(r:Room k A)(h:j <= k):Room j A:=⟨r.hd,by have:=r.dp;omega,by have:=r.un;omega,r.gd⟩
theorem Room.deeper{k:Nat}{A:Around}(r:Room (k + 1) A)(env:Env):Room k (A.deeper env):=
  ⟨r.hd,by have:=r.dp;show A.depth + 1 + 3 * k + 5 < _;omega,by have:=r.un;show A.units + 3 + 16 * k + 200 < _;omega,by first|exact r.gd|(simpa [Around.deeper,Around.under,Code.guards,Code.isGuard,pushGuards]using r.gd)⟩
theorem LP{A:Around}{C:Addr}{us:List Value}{kw:List (Str × Value)}:(A.under (.builtin "type.__call__" ⟨.ref C :: us,kw⟩)).depth=A.depth + 1:=by
  first|rfl|simp[Around.under,Code.weight,Code.isCreation,Code.isGuard,Code.isCaller,Code.frames,Code.isFrame,guardIds]
theorem LO{A:Around}{C:Addr}{us:List Value}{kw:List (Str × Value)}:(A.under (.builtin "type.__call__" ⟨.ref C :: us,kw⟩)).units=A.units + 1:=by
  first|rfl|simp[Around.under,Code.cUnits,Code.frames,Code.isFrame]
theorem Room.make{k:Nat}{A:Around}(r:Room (k + 1) A)(C:Addr)(us:List Value)(kw:List (Str × Value)):Room k (A.under (.builtin "type.__call__" ⟨.ref C :: us,kw⟩)):=
  ⟨r.hd,by have:=r.dp;rw[LP];omega,by have:=r.un;rw[LO];omega,by first|exact r.gd|(simpa [Around.under,Code.guards,Code.isGuard,guardIds,pushGuards]using r.gd)⟩
theorem Room.depth{k:Nat}{A:Around}(r:Room k A):A.depth < recursionLimit:=by have:=r.dp;omega
theorem Room.units{k:Nat}{A:Around}(r:Room k A):A.units + 64 < cLine:=by have:=r.un;omega
noncomputable def Ca:TA:=λ _ H Q=>Q [] H
noncomputable def Bx(ta:TE)(tr:TA):TA:=λ σ H Q=>ta σ H λ x H1=>tr σ H1 λ xs H2=>Q (x :: xs) H2
section
variable{X:Cx}{e:Expr}{es:List Expr}{te:TE}{t:TA}{pos:Pos}
theorem Br:PA X [] Ca:=λ _ _ _ _ H Q I h=>Calls.spliced_nil ⟨[],H,I,.nil,h⟩
theorem An(ha:PE X e te)(hr:PA X es t)(hs:starEach (e :: es) X.env=(false,eval e X.env) :: starEach es X.env:=by rfl):PA X (e :: es) (Bx te t):=by
  intro pos pins s σ H Q I h
  rw[hs]
  show wpAny _ _ (spliced ((false,eval e X.env) :: backTo pos (starEach es X.env))) _ _ s
  refine Calls.spliced_cons (thn (ha pins s σ H _ I h) λ u s1 ⟨x,H1,I1,r1,q1⟩=>?_)
  exact thn (hr pos pins s1 σ H1 _ I1 q1) λ us s2 ⟨xs,H2,I2,r2,q2⟩=>⟨x :: xs,H2,I2,.cons r1 r2,q2⟩
noncomputable def NI(t:TA):TE:=λ σ H Q=>t σ H λ xs H1=>xs.length <= sizeLine/\∀ p,H1 p=none->Q (.ref p) (upd H1 p (.tup xs))
noncomputable def NN(t:TA):TE:=λ σ H Q=>t σ H λ xs H1=>xs.length <= sizeLine/\∀ p,H1 p=none->Q (.ref p) (upd H1 p (.lst xs))
theorem JT{x1}(h:PA X es t):PE X (.Tuple es x1 pos) (NI t):=by
  intro pins s σ H Q I hq
  refine wpAny_Tuple_spliced (thn (h pos pins s σ H _ I hq) λ us s1 ⟨xs,H1,I1,r,z,q⟩=>⟨by rw[<- r.length];exact z,?_⟩)
  have hf:H1 s1.heap.objs.size=none:=I1.hok.fresh (Nat.le_refl _)
  refine⟨.ref s1.heap.objs.size,upd H1 s1.heap.objs.size (.tup xs),I1.laid (t':=s1.toks) (λ b u e=>Heap.get?_push_of_some _ e) (Nat.le_refl _) ?_,rfl,q _ hf⟩
  exact⟨z,us,r,⟨_,Heap.get?_push_size _ rfl,rfl,⟨_,rfl⟩,rfl⟩⟩
theorem Si(h:PA X es t):PE X (.List es pos) (NN t):=by
  intro pins s σ H Q I hq
  refine wpAny_List_spliced (thn (h pos pins s σ H _ I hq) λ us s1 ⟨xs,H1,I1,r,z,q⟩=>⟨by rw[<- r.length];exact z,?_⟩)
  have hf:H1 s1.heap.objs.size=none:=I1.hok.fresh (Nat.le_refl _)
  refine⟨.ref s1.heap.objs.size,upd H1 s1.heap.objs.size (.lst xs),I1.laid (t':=s1.toks) (λ b u e=>Heap.get?_push_of_some _ e) (Nat.le_refl _) ?_,rfl,q _ hf⟩
  exact⟨z,us,0,r,Heap.get?_push_size _ rfl⟩
end
noncomputable abbrev Sp:=List V->Hp->VK->XK->Prop
noncomputable abbrev CXT:=List Env->Hp->Shared->XK->Value->Shared->Prop
structure Env0(P:Program)(w:World)(K:PySem.W.Frag)(mg:Str->Option Value)(base:Heap)(A:Around)(outer:List Env)(s:Shared)(H:Hp):Prop where
  frames:A.frames=some outer
  mod:Mod K mg base
  bs:∀ b o,base.get? b=some o->s.heap.get? b=some o/\H b=none
  bsz:base.objs.size <= s.heap.objs.size
  funs:s.heap.FunFrames base outer
  frf:∀ b ∈ frs outer,H b=none
  hok:HOk P w H s.heap
  bare:AllBare s.gens
noncomputable def CE(outer:List Env)(P:Program)(w:World)(H:Hp)(s:Shared)(Q:VK)(u:Value)(s':Shared):Prop:=
  ∃ v H',s'.os=s.os/\AllBare s'.gens/\Un (frs outer) [] H H' s.heap s'.heap/\HOk P w H' s'.heap/\RelV v u/\Q v H'
noncomputable def CR(CX:CXT)(outer:List Env)(P:Program)(w:World)(H:Hp)(s:Shared)(Q:VK)(E:XK)(r:Result)(s':Shared):Prop:=
  match r with
  | .ok (.ret u)=>CE outer P w H s Q u s'
  | .ok _=>False
  | .error e=>CX outer H s E e s'
structure FnOk(P:Program)(w:World)(K:PySem.W.Frag)(mg:Str->Option Value)(base:Heap)(CX:CXT)(k:Nat)(f:Addr)(fd:FuncData)(ps:List Str)(sp:Sp):Prop where
  len:∀ vs H Q E,sp vs H Q E->vs.length=ps.length
  run:∀ (A:Around) (outer:List Env) (s:Shared) (H:Hp) (args:Args) (us:List Value) (vs:List V) (Q:VK) (E:XK),Room k A->Env0 P w K mg base A outer s H->BindsTo s fd args (ps.zip us)->Vals vs us->sp vs H Q E ->
    codeAny (model P w) A (.call (.ref f) args) (CR CX outer P w H s Q E) s
theorem FnOk.mono{P:Program}{w:World}{K:PySem.W.Frag}{mg:Str->Option Value}{base:Heap}{CX:CXT}{j k:Nat}{f:Addr}{fd:FuncData}{ps:List Str}{sp:Sp}(F:FnOk P w K mg base CX j f fd ps sp)(h:j <= k) :
    FnOk P w K mg base CX k f fd ps sp:=⟨F.len,λ A outer s H args us vs Q E hr=>F.run A outer s H args us vs Q E (hr.mono h)⟩
theorem Env0.make{P:Program}{w:World}{K:PySem.W.Frag}{mg:Str->Option Value}{base:Heap}{A:Around}{outer:List Env}{s:Shared}{H:Hp}(e:Env0 P w K mg base A outer s H)(C:Addr)(us:List Value)(kw:List (Str × Value)) :
    Env0 P w K mg base (A.under (.builtin "type.__call__" ⟨.ref C :: us,kw⟩)) outer s H:=⟨by first|exact e.frames|(simpa [Around.under,Code.envs,Code.isFrame,pushEnvs]using e.frames),e.mod,e.bs,e.bsz,e.funs,e.frf,e.hok,e.bare⟩
section
variable{X:Cx}{pins:List (Addr × Obj)}{σ:St}{H:Hp}{s s':Shared}
theorem Inv.env0(I:Inv X pins σ H s):Env0 X.prog X.w X.K X.mg X.base X.A X.stack s H:=
  ⟨I.ok.frames,I.ok.mod,I.bs,Nat.le_trans I.ok.bsz I.sz,I.stack,I.stkFree,I.hok,I.bare⟩
theorem Inv.after{Q:VK}{u:Value}(I:Inv X pins σ H s)(h:CE X.stack X.prog X.w H s Q u s'):EP X pins σ Q u s':=by
  obtain⟨v,H',os,bare,un,hok,r,q⟩:=h
  obtain⟨hh,g,d,t,os'⟩:=s'
  obtain rfl:os'=s.os:=os
  exact⟨v,H',I.call (h':=hh) (g':=g) (d':=d) (t':=t) (ch:=[]) un hok bare (λ b z=>absurd z (by simp)),r,q⟩
end
noncomputable def EK(sp:Sp)(dvs:List V)(E:XK)(t:TA):TE:=λ σ H Q=>t σ H λ vs H1=>sp (vs ++ dvs) H1 Q E
noncomputable def Binds(K:PySem.W.Frag)(fd:FuncData)(ps:List Str)(ds:List Value):Prop:=
  ∀ (s:Shared) (us:List Value),K.In s.heap->(us ++ ds).length=ps.length->BindsTo s fd ⟨us,[]⟩ (ps.zip (us ++ ds))
theorem Binds.all{K:PySem.W.Frag}{fd:FuncData}{ps:List Str}(h:∀ us:List Value,us.length=ps.length->bindArgs fd ⟨us,[]⟩=pure (ps.zip us)):Binds K fd ps []:=λ s us _ hl=>by
  rw[List.append_nil]at hl ⊢
  exact .of_eq (h us hl)
noncomputable def Jz(CX:CXT)(X:Cx)(E:XK):Prop:=∀ (pins:List (Addr × Obj)) (σ:St) (H:Hp) (s:Shared) (e:Value) (s':Shared),Inv X pins σ H s->CX X.stack H s E e s'->X.xe e s'
section
variable{X:Cx}{CX:CXT}{k:Nat}{f C:Addr}{fd:FuncData}{ps:List Str}{sp:Sp}{dvs:List V}{ds:List Value}{E:XK}{x m:Str}{p pos apos:Pos}{e o:Expr}{es:List Expr}{ta:TE}{t:TA}
theorem Rm{pins:List (Addr × Obj)}{σ:St}{H:Hp}{s:Shared}{Q:VK}{us:List Value}{vs:List V}(F:FnOk X.prog X.w X.K X.mg X.base CX k f fd ps sp)(hr:Room k X.A)(hb:Binds X.K fd ps ds)(hd:Vals dvs ds)(hx:Jz CX X E)
    (I:Inv X pins σ H s) (r:Vals vs us) (h:sp (vs ++ dvs) H Q E):wpAny (model X.prog X.w) X.A (call (.ref f) us) (EP X pins σ Q) X.xe s:=by
  have r2:Vals (vs ++ dvs) (us ++ ds):=r.append hd
  have hl:(us ++ ds).length=ps.length:=by rw[<- r2.length];exact F.len _ _ _ _ h
  refine wpAny_call (codeAny_mono (F.run X.A X.stack s H ⟨us,[]⟩ (us ++ ds) (vs ++ dvs) Q E hr I.env0 (hb s us I.kIn hl) r2 h) λ r s' hq=>?_)
  cases r with
  | error e=>exact hx pins σ H s e s' I hq
  | ok fl=>
    cases fl with
    | ret u=>exact I.after hq
    | next=>exact False.elim hq
    | brk=>exact False.elim hq
    | cont=>exact False.elim hq
theorem QZ(F:FnOk X.prog X.w X.K X.mg X.base CX k f fd ps sp)(hr:Room k X.A)(hg:Gl X x)(hm:X.mg x=some (.ref f))(hk:PySem.W.keepIn X.K (.ref f)=true)(hb:Binds X.K fd ps ds)(hd:Vals dvs ds)(hx:Jz CX X E)
    (ha:PA X (e :: es) t) (hdb:(x == ("__debug__":Str))=false:=by decide) (he:starEach (e :: es) X.env=(false,eval e X.env) :: starEach es X.env:=by rfl) (hpl:(backTo pos (starEach es X.env)).any (·.1)=false:=by rfl) :
    PE X (.Call (.Name x p) (e :: es) [] pos) (EK sp dvs E t):=by
  intro pins s σ H Q I h
  refine wpAny_Call_Name_kw (Et I hg hm ?_ hdb)
  refine PySem.W.callWith_K (h₀:=X.base) I.ok.mod.kin hk (thn (ha pos pins s σ H _ I h) λ us s1 ⟨vs,H1,I1,r,q⟩=>⟨I1.kIn,?_⟩) he hpl
  exact Rm F hr hb hd hx I1 r q
end
section
variable{X:Cx}{CX:CXT}{k:Nat}{f C:Addr}{fd:FuncData}{ps ks:List Str}{sp:Sp}{E:XK}{x m:Str}{p pos apos kpos:Pos}{e o:Expr}{es:List Expr}{kws:List Keyword}{te ta:TE}{t tk:TA}{nm:Option Str}
variable{g:List Value->List Value->List Value}{gV:List V->List V->List V}
end
structure FnScope(N P:List Str)(sc:Scope):Prop where
  kind:sc.kind=.function
  co:sc.isCoroutine=false
  gen:sc.isGenerator=false
  nd:N.Nodup
  pre:N.take P.length=P
  par:∀ x ∈ P,sc.names.lookup x=some .local ∨ sc.names.lookup x=some .cell
  nofree:∀ y ∈ sc.names,y.2 ≠ .free
theorem IN{kindOf:Str->Option NameKind}{x:Str}:∀ {binds:List (Str × Value)} {m:Str->Option Value},(∀ v,(x,v) ∉ binds)->bindL kindOf binds m x=m x
  | [],_,_=>rfl
  | (n,v) :: r,m,h=>by
    unfold bindL
    rw[IN λ w hw=>h w (List.mem_cons_of_mem _ hw)]
    split
    . have:x ≠ n:=by rintro rfl;exact h v List.mem_cons_self
      simp[this]
    . rfl
theorem IQ{kindOf:Str->Option NameKind}{x:Str}:∀ {binds:List (Str × Value)} {m:Str->Option Value},(∀ v,(x,v) ∉ binds)->bindC kindOf binds m x=m x
  | [],_,_=>rfl
  | (n,v) :: r,m,h=>by
    unfold bindC
    rw[IQ λ w hw=>h w (List.mem_cons_of_mem _ hw)]
    split
    . rfl
    . have:x ≠ n:=by rintro rfl;exact h v List.mem_cons_self
      simp[this]
theorem IP{kindOf:Str->Option NameKind}{x:Str}{v:Value}:∀ {P:List Str} {vs:List Value} {i:Nat} {m:Str->Option Value},P.Nodup->P[i]? = some x->vs[i]? = some v->kindOf x=some .local ->
    bindL kindOf (P.zip vs) m x=some v
  | [],_,_,_,_,h,_,_=>by simp at h
  | _ :: _,[],_,_,_,_,h,_=>by simp at h
  | p :: P,w :: vs,0,m,nd,h1,h2,hk=>by
    simp at h1 h2;subst h1;subst h2
    show bindL kindOf ((p,w) :: P.zip vs) m p=_
    unfold bindL
    rw[IN λ v hv=>(List.nodup_cons.mp nd).1 (List.of_mem_zip hv).1,if_pos hk]
    simp
  | p :: P,w :: vs,i + 1,m,nd,h1,h2,hk=>by
    show bindL kindOf ((p,w) :: P.zip vs) m x=_
    unfold bindL
    exact IP (i:=i) (List.nodup_cons.mp nd).2 (by simpa using h1) (by simpa using h2) hk
theorem IR{kindOf:Str->Option NameKind}{x:Str}{v:Value}:∀ {P:List Str} {vs:List Value} {i:Nat} {m:Str->Option Value},P.Nodup->P[i]? = some x->vs[i]? = some v->kindOf x ≠ some .local ->
    bindC kindOf (P.zip vs) m x=some v
  | [],_,_,_,_,h,_,_=>by simp at h
  | _ :: _,[],_,_,_,_,h,_=>by simp at h
  | p :: P,w :: vs,0,m,nd,h1,h2,hk=>by
    simp at h1 h2;subst h1;subst h2
    show bindC kindOf ((p,w) :: P.zip vs) m p=_
    unfold bindC
    rw[IQ λ v hv=>(List.nodup_cons.mp nd).1 (List.of_mem_zip hv).1,if_neg hk]
    simp
  | p :: P,w :: vs,i + 1,m,nd,h1,h2,hk=>by
    show bindC kindOf ((p,w) :: P.zip vs) m x=_
    unfold bindC
    exact IR (i:=i) (List.nodup_cons.mp nd).2 (by simpa using h1) (by simpa using h2) hk
noncomputable def CH(N:List Str)(vs:List V):St:=vs.map some ++ List.replicate (N.length - vs.length) none
noncomputable def EF(CX:CXT)(P:Program)(w:World)(K:PySem.W.Frag)(mg:Str->Option Value)(base:Heap)(N:List Str)(qual:Str)(scope:Scope)(f:Addr)(cd:Value)(A:Around)(outer:List Env)(s:Shared)(H:Hp)(E:XK):Cx where
  prog:=P
  w:=w
  K:=K
  mg:=mg
  base:=base
  A:=A.deeper (envOfC qual scope s.heap.objs.size f cd)
  N:=N
  s₀:=s
  H₀:=H
  env:=envOfC qual scope s.heap.objs.size f cd
  outer:=outer
  stack:=envOfC qual scope s.heap.objs.size f cd :: outer
  ex:=[]
  calm:=true
  fn:=λ _=>true
  pn:=[]
  xe:=λ e s'=>wpAny (model P w) (A.deeper (envOfC qual scope s.heap.objs.size f cd)) (leaving (envOfC qual scope s.heap.objs.size f cd) e) (λ _ s''=>CX outer H s E e s'') (λ e' s''=>CX outer H s E e' s'') s'
theorem Jr{sc:Scope}{n:Nat}{x:Str}(h:sc.names.lookup x=some .cell):∃ c,(cellsFrom n sc.names []).lookup x=some c:=by
  have q:=PySem.W.cellsFrom_some sc.names n [] (.inl h)
  exact Option.isSome_iff_exists.mp q
theorem Mm{CX:CXT}{P:Program}{w:World}{K:PySem.W.Frag}{mg:Str->Option Value}{base:Heap}{N ps:List Str}{qual:Str}{scope:Scope}{f:Addr}{cd:Value}{A:Around}{outer:List Env}{s s1:Shared}{H:Hp}{E:XK}{us:List Value}{vs:List V}
    (S:FnScope N ps scope) (hd:A.handled=none) (e0:Env0 P w K mg base A outer s H) (hl:vs.length=ps.length) (r:Vals vs us)
    (x:InCallC s s.heap.objs.size (bindL (envOfC qual scope s.heap.objs.size f cd).kindOf (ps.zip us) λ _=>none) (cellsFrom (s.heap.objs.size + 1) scope.names []) (bindC (envOfC qual scope s.heap.objs.size f cd).kindOf (ps.zip us) λ _=>none) s1) :
    Inv (EF CX P w K mg base N qual scope f cd A outer s H E) [] (CH N vs) H s1:=by
  have hpl:ps.length <= N.length:=by have:=congrArg List.length S.pre;rw[List.length_take]at this;omega
  obtain⟨h1,tk,rfl,hk⟩:=x.done
  have noA:∀ b:Addr,b ∉ (EF CX P w K mg base N qual scope f cd A outer s H E).ex:=λ b z=>absurd (show b ∈ ([]:List Addr)from z) (by simp)
  refine⟨⟨e0.mod,S.kind,rfl,rfl,Nat.le_refl _,λ y z c h1 h2=>?_,λ y hy=>?_,λ y c _ h=>?_,λ _=>hd,Around.frames_deeper e0.frames,.inr ⟨rfl,rfl⟩,λ b z=>absurd z (noA b),e0.bs,e0.bsz,λ b _ _=>noA b,λ b z=>absurd z (noA b),e0.funs,e0.frf⟩,
    rfl,e0.bare,Un.kept hk,⟨_,x.toInCall.ns,λ i y v h1 h2 h3=>?_⟩,λ y c h=>⟨_,x.cell y c h⟩,e0.hok.fresh (Nat.le_refl _),λ y c h=>?_,λ p hp=>absurd (show p ∈ ([]:List (Addr × Obj))from hp) (by simp),e0.hok.kept hk,?_⟩
  . exact name_of_addr x.apart (PySem.mem_of_lookup h1) (PySem.mem_of_lookup h2)
  . have hy:scope.names.lookup y=some .cell ∨ scope.names.lookup y=some .free:=hy
    rcases hy with hy|hy
    . exact Jr hy
    . exact absurd rfl (S.nofree _ (PySem.mem_of_lookup hy))
  . exact Nat.le_of_lt (x.above y c (PySem.mem_of_lookup h))
  . have hi:i < vs.length:=by
      unfold CH at h2
      by_cases hi:i < vs.length
      . exact hi
      . rw[List.getElem?_append_right (by simpa using hi)]at h2
        rw[List.getElem?_replicate]at h2
        split at h2 <;> cases h2
    have ha:vs[i]? = some v:=by
      unfold CH at h2
      rw[List.getElem?_append_left (by simpa using hi),List.getElem?_map]at h2
      cases e:vs[i]? with
      | none=>rw[e]at h2;cases h2
      | some a=>rw[e]at h2;cases h2;rfl
    obtain⟨u,hu,rv⟩:=r.get ha
    have hp:ps[i]? = some y:=by
      rw[<- S.pre,List.getElem?_take_of_lt (by omega)];exact h1
    have ndP:ps.Nodup:=by rw[<- S.pre];exact S.nd.sublist (List.take_sublist _ _)
    refine⟨u,rv,?_⟩
    rcases S.par y (List.mem_of_getElem? hp)with k|k
    . exact .inl ⟨k,IP ndP hp hu k⟩
    . obtain⟨c,e⟩:=Jr (n:=s.heap.objs.size + 1) k
      refine .inr ⟨.inl k,c,e,?_⟩
      have q:=x.cell y c e
      rw[IR ndP hp hu (by show scope.names.lookup y ≠ _;rw[k];decide)]at q
      exact q
  . exact e0.hok.fresh (Nat.le_of_lt (x.above y c (PySem.mem_of_lookup h)))
  . unfold CH
    show _=N.length
    rw[List.length_append,List.length_map,List.length_replicate]
    omega
theorem P0{CX:CXT}{P:Program}{w:World}{K:PySem.W.Frag}{mg:Str->Option Value}{base:Heap}{k:Nat}{f:Addr}{name qual:Str}{params:Arguments}{body:List Stmt}{scope:Scope}{dV kV doc pm cdv ct oc:Value}{an od:Option Addr}
    {osl:Array (Option Value)} {N ps:List Str} {sp:Sp} (lk:K.lookup f=some ⟨oc,od,.func (PySem.W.fnOf name qual params body scope dV kV doc pm an cdv ct),osl⟩) (hcd:PySem.W.codeIn K cdv qual=true) (S:FnScope N ps scope)
    (len:∀ vs H Q E,sp vs H Q E->vs.length=ps.length)
    (hbody:∀ (A:Around) (outer:List Env) (s:Shared) (H:Hp) (vs:List V) (Q:VK) (E:XK),Room k (A.deeper (envOfC qual scope s.heap.objs.size f cdv))->sp vs H Q E ->
      ∃ t,PSs (EF CX P w K mg base N qual scope f cdv A outer s H E) body t/\t { nx:=λ _ H'=>Q .non H',rt:=Q } (CH N vs) H) :
    FnOk P w K mg base CX (k + 1) f (PySem.W.fnOf name qual params body scope dV kV doc pm an cdv ct) ps sp:=by
  refine⟨len,λ A outer s H args us vs Q E hr e0 hb r hsp=>?_⟩
  have hl:=len _ _ _ _ hsp
  have KX:K.In s.heap:=e0.mod.kin.keeps λ b o e=>(e0.bs b o e).1
  have lim:s.heap.NoLimit:=e0.mod.nolimit.keeps λ b o e=>(e0.bs b o e).1
  have hkind:∀ y ∈ ps.zip us,scope.names.lookup y.1=some .local ∨ (scope.names.lookup y.1=some .cell/\((cellsFrom (s.heap.objs.size + 1) scope.names []).lookup y.1).isSome=true):=λ⟨n,v⟩ hy=>by
    rcases S.par n (List.of_mem_zip hy).1 with q|q
    . exact .inl q
    . exact .inr ⟨q,PySem.W.cellsFrom_some _ _ _ (.inl q)⟩
  refine codeAny_call_function hr.depth (KX _ _ lk) rfl S.co S.gen rfl (PySem.W.codeRec_of KX hcd) (hb _ _ _ _ ?_)
  refine wpAny_newFunctionEnv_cells S.kind hkind λ env he s1 x=>?_
  subst he
  refine⟨lim.keeps x.toInCall.keep,codeAny_func ?_⟩
  obtain⟨t,ht,hq⟩:=hbody A outer s H vs Q E (hr.deeper _) hsp
  have I:Inv (EF CX P w K mg base N qual scope f cdv A outer s H E) [] (CH N vs) H s1:=Mm S hr.hd e0 hl r x
  refine wpAny_mono (ht [] s1 (CH N vs) H _ I hq) (λ fl s' hs=>?_) λ e s' hs=>hs
  have fin:∀ {σ':St} {H':Hp} {v:V} {u:Value},Inv (EF CX P w K mg base N qual scope f cdv A outer s H E) [] σ' H' s'->RelV v u->Q v H'->CE outer P w H s Q u s':=
    λ {σ' H' v u} J rv q=>⟨v,H',J.os,J.bare,J.base,J.hok,rv,q⟩
  cases fl with
  | ret u=>
    obtain⟨v,σ',H',J,rv,q⟩:=hs
    exact fin J rv q
  | next=>
    obtain⟨σ',H',J,q⟩:=hs
    exact fin (v:=V.non) (u:=Value.none) J rfl q
  | brk=>
    obtain⟨_,_,_,q⟩:=hs
    exact False.elim q
  | cont=>
    obtain⟨_,_,_,q⟩:=hs
    exact False.elim q
end L2
namespace L2
open PySem PySem.Spec PyProof.Rows
section
variable{X:Cx}{x:Str}{p pos:Pos}{e:Expr}{es:List Expr}{t:TA}{id T:String}{r:List V->Hp->VK->Prop}
noncomputable def tCB(r:List V->Hp->VK->Prop)(t:TA):TE:=λ σ H Q=>t σ H λ vs H1=>r vs H1 Q
theorem DC(hc:CallR X (.builtin id) r)(hg:Gl X x)(hm:X.mg x=none)(hv:bootBuiltins x=some (.builtin id))(ha:PA X (e :: es) t)(hn:x ≠ "__name__":=by decide)(hdb:(x == ("__debug__":Str))=false:=by decide)
    (he:starEach (e :: es) X.env=(false,eval e X.env) :: starEach es X.env:=by rfl) (hpl:(backTo pos (starEach es X.env)).any (·.1)=false:=by rfl):PE X (.Call (.Name x p) (e :: es) [] pos) (tCB r t):=by
  intro pins s σ H Q I h
  refine wpAny_Call_Name_kw (Eu I hg hm hv ?_ hn hdb)
  exact PyProof.Rows.callWith_builtin1 (thn (ha pos pins s σ H _ I h) λ us s1 ⟨vs,H1,I1,r1,q1⟩=>hc pins s1 σ H1 vs us Q I1 r1 q1) he hpl
theorem Fh(hc:CallR X (.type T) r)(hg:Gl X x)(hm:X.mg x=none)(hv:bootBuiltins x=some (.type T))(ha:PA X (e :: es) t)(hn:x ≠ "__name__":=by decide)(hdb:(x == ("__debug__":Str))=false:=by decide)
    (he:starEach (e :: es) X.env=(false,eval e X.env) :: starEach es X.env:=by rfl) (hpl:(backTo pos (starEach es X.env)).any (·.1)=false:=by rfl):PE X (.Call (.Name x p) (e :: es) [] pos) (tCB r t):=by
  intro pins s σ H Q I h
  refine wpAny_Call_Name_kw (Eu I hg hm hv ?_ hn hdb)
  exact PyProof.Rows.callWith_type1 (thn (ha pos pins s σ H _ I h) λ us s1 ⟨vs,H1,I1,r1,q1⟩=>hc pins s1 σ H1 vs us Q I1 r1 q1) he hpl
end
end L2
namespace HT
open PySem PyProof.Rows
section
open PySem.SeqAt
open PySem.AutoSeq1 (wpAny_loadPart')
open PySem.MeetsSeq PySem.MeetsSeq2 PySem.MeetsSeq3
end
section
variable{prog:Program}{w:World}{A:Around}{E:Value->Shared->Prop}{s:Shared}
theorem cat_tup{t b:Addr}{vs ws:List Value}{Q:Value->Shared->Prop}(ht:IsTup s.heap t vs.toArray)(hb:IsTup s.heap b ws.toArray)(hv:vs ≠ [])
    (h1:ws=[]->Q (.ref t) s) (h2:ws ≠ []->Q (.ref s.heap.objs.size) { s with heap:=s.heap.push { cls:=.type "tuple",data:=.seq (vs ++ ws).toArray } })
    (hsz:vs.length + ws.length <= sizeLine):wpAny (model prog w) A (binaryOp .Add (.ref t) (.ref b)) Q E s:=by
  obtain⟨⟨cls,dd,data,sl⟩,ho,hc,n,hd⟩:=id ht
  obtain⟨⟨cls2,dd2,data2,sl2⟩,ho2,hc2,n2,hd2⟩:=id hb
  simp only at hc hd hc2 hd2
  subst hc hd hc2 hd2
  have e:vs.toArray ++ ws.toArray=(vs ++ ws).toArray:=by simp
  by_cases hw:ws=[]
  . exact concat_meets ⟨_,ho,rfl⟩ ⟨_,ho2,rfl⟩ noFill_tuple_add seq_tuple_add PySem.F.slot_tuple_add PySem.F.entry_tuple_add (PySem.F.args_tuple_add_2 _ _)
      (tuple_addW1 t b vs.toArray ws.toArray n n2 dd dd2 sl sl2 (by simpa using hv) (by simp[hw])) ⟨ho,ho2,h1 hw⟩
  . refine concat_meets ⟨_,ho,rfl⟩ ⟨_,ho2,rfl⟩ noFill_tuple_add seq_tuple_add PySem.F.slot_tuple_add PySem.F.entry_tuple_add (PySem.F.args_tuple_add_2 _ _)
      (tuple_addW2 t b vs.toArray ws.toArray n n2 dd dd2 sl sl2 (by simpa using hv) (by simpa using hw) (by rw[List.size_toArray,List.size_toArray];exact hsz)) ⟨ho,ho2,?_⟩
    rw[e]
    exact h2 hw
noncomputable def sIx(n d:Nat):Option Int->Nat
  | none=>d
  | some v=>if v < 0 then(v + (n:Int)).toNat else min v.toNat n
theorem sIx_none(n d:Nat):sIx n d none=d:=rfl
theorem sIx_nat(n d k:Nat):sIx n d (some (k:Int))=min k n:=by
  show(if(k:Int) < 0 then((k:Int) + (n:Int)).toNat else min (k:Int).toNat n)=min k n
  rw[if_neg (by omega),Int.toNat_natCast]
theorem Rk(n d:Nat)(hd:d <= n)(o:Option Int):sIx n d o <= n:=by
  cases o with
  | none=>exact hd
  | some v=>
    show(if v < 0 then(v + (n:Int)).toNat else min v.toNat n) <= n
    by_cases hv:v < 0
    . rw[if_pos hv];omega
    . rw[if_neg hv];exact Nat.min_le_right _ _
theorem Kf(v:Int)(n d:Nat):(if v < 0 then max (v + (n:Int)) 0 else min v (n:Int))=((sIx n d (some v):Nat):Int):=by
  show(if v < 0 then max (v + (n:Int)) 0 else min v (n:Int))=(((if v < 0 then(v + (n:Int)).toNat else min v.toNat n):Nat):Int)
  by_cases hv:v < 0
  . simp only[if_pos hv];omega
  . simp only[if_neg hv];omega
theorem Li(lo hi:Option Int)(n:Nat):Builtin.Slice.sliceAdjust lo hi 1 (n:Int)=(((sIx n 0 lo:Nat):Int),((sIx n n hi:Nat):Int)):=by
  have h1:¬ ((1:Int) < 0):=by omega
  unfold Builtin.Slice.sliceAdjust
  simp only[h1,if_false]
  refine Prod.ext ?_ ?_
  . cases lo with
    | none=>rfl
    | some v=>exact Kf v n 0
  . cases hi with
    | none=>rfl
    | some v=>exact Kf v n n
theorem LL(i j:Nat):Builtin.Slice.slicePlaces (i:Int) (j:Int) 1=j - i:=by
  unfold Builtin.Slice.slicePlaces
  have h1:(1:Int) > 0:=by omega
  simp only[h1,if_true,Int.ediv_one]
  split <;> omega
theorem Gp{v:Value}{o:Option Int}{Q:Option Int->Shared->Prop}(p:IsPart v o)(h:Q o s):wpAny (model prog w) A (Builtin.Slice.slicePartIndex v) Q E s:=by
  cases p with
  | none=>exact slicePart_none h
  | int i t=>exact slicePart_int h
theorem GR{sl:Addr}{vl vu:Value}{lo hi:Option Int}{n:Nat}{Q:Int × Int × Nat->Shared->Prop}(hs:s.heap.IsSliceOf sl vl vu .none)(pl:IsPart vl lo)(pu:IsPart vu hi)
    (h:Q (((sIx n 0 lo:Nat):Int),1,sIx n n hi - sIx n 0 lo) s):wpAny (model prog w) A (Builtin.Slice.sliceApplied (.ref sl) (pure (n:Int))) Q E s:=by
  obtain⟨os,hos,hcs,hds⟩:=id hs
  unfold Builtin.Slice.sliceApplied Builtin.Slice.sliceFields
  refine wpAny_bind (wpAny_bind (wpAny_field hos hds (x:=vl) rfl (wpAny_bind (wpAny_field hos hds (x:=vu) rfl (wpAny_bind (wpAny_field hos hds (x:=.none) rfl (wpAny_pure ?_)))))))
  refine wpAny_bind (slicePart_none ?_)
  show wpAny _ _ (if((1:Int) == 0)=true then _ else _) _ _ s
  rw[if_neg (by decide)]
  refine wpAny_bind (Gp pl (wpAny_bind (Gp pu (wpAny_bind (wpAny_pure ?_)))))
  show wpAny _ _ (match Builtin.Slice.sliceAdjust lo hi 1 (n:Int)with|(lo,hi)=>pure (lo,(1:Int),Builtin.Slice.slicePlaces lo hi 1)) _ _ s
  rw[Li lo hi n]
  show wpAny _ _ (pure (((sIx n 0 lo:Nat):Int),(1:Int),Builtin.Slice.slicePlaces ((sIx n 0 lo:Nat):Int) ((sIx n n hi:Nat):Int) 1)) _ _ s
  rw[LL]
  exact wpAny_pure h
theorem O2(xs:Array Value)(i k:Nat):((List.range k).filterMap λ(m:Nat)=>xs[((i:Int) + (m:Int) * 1).toNat]?).toArray=((xs.toList.drop i).take k).toArray:=by
  have e:(λ(m:Nat)=>xs[((i:Int) + (m:Int) * 1).toNat]?)=λ m=>xs[i + m]? := by
    funext m
    have:((i:Int) + (m:Int) * 1).toNat=i + m:=by omega
    rw[this]
  rw[e]
  have:=pick_run xs i k
  rw[List.filterMap_map]at this
  have e2:((λ x=>xs[x]?) ∘ λ x=>i + x)=λ m=>xs[i + m]? := rfl
  rw[e2]at this
  rw[this]
theorem getItem_tuple_cut{t sl:Addr}{items:Array Value}{vl vu:Value}{lo hi:Option Int}{Q:Value->Shared->Prop}(ht:IsTup s.heap t items)(hs:s.heap.IsSliceOf sl vl vu .none)(pl:IsPart vl lo)(pu:IsPart vu hi)
    (hw:¬ (sIx items.size 0 lo=0/\sIx items.size items.size hi=items.size))
    (h:Q (.ref s.heap.objs.size) { s with heap:=s.heap.push { cls:=.type "tuple",data:=.seq ((items.toList.drop (sIx items.size 0 lo)).take (sIx items.size items.size hi - sIx items.size 0 lo)).toArray } })
    (hsz:items.size <= sizeLine):wpAny (model prog w) A (getItem (.ref t) (.ref sl)) Q E s:=by
  have htake:sizeOk (.seq ((items.toList.drop (sIx items.size 0 lo)).take (sIx items.size items.size hi - sIx items.size 0 lo)).toArray):=by
    show((items.toList.drop (sIx items.size 0 lo)).take (sIx items.size items.size hi - sIx items.size 0 lo)).toArray.size <= sizeLine
    rw[List.size_toArray,List.length_take,List.length_drop,Array.length_toList]
    omega
  have hj:sIx items.size items.size hi <= items.size:=Rk _ _ (Nat.le_refl _) hi
  obtain⟨os,hos,hcs,hds⟩:=id hs
  have hTs:s.TypeIs (.ref sl) "slice":=⟨os,hos,hcs⟩
  unfold getItem
  try with_reducible refine wpAny_holding ?_
  first|refine wpAny_bind (wpAny_pure ?_)|skip
  refine wpAny_bind (wpAny_sequenceKey ht.typeIs (by decide) ?_)
  refine wpAny_bind (wpAny_callSpecial?_slot (name:=Str.ofString "__getitem__") ht.typeIs PyProof.Rows.slot_tuple_getitem
    (wpAny_call_entry PyProof.Rows.slot_tuple_getitem ht.typeIs entry_tuple_getitem ?_ (args_tuple_getitem _ _)))
  show wpAny _ _ (Builtin.Tuple.tupleItemsOf (.ref t) >>= _) _ _ s
  refine wpAny_bind (tupleItemsOf_ ht ?_)
  refine wpAny_bind (wpAny_typeOf hTs ?_)
  rw[if_pos (by decide)]
  refine wpAny_bind (GR hs pl pu ?_)
  have hno:¬ ((((sIx items.size 0 lo:Nat):Int) == 0 && (1:Int) == 1 && (sIx items.size items.size hi - sIx items.size 0 lo) == items.size)=true):=by
    intro q
    rw[Bool.and_eq_true,Bool.and_eq_true]at q
    have q1:((sIx items.size 0 lo:Nat):Int)=0:=eq_of_beq q.1.1
    have q2:sIx items.size items.size hi - sIx items.size 0 lo=items.size:=eq_of_beq q.2
    exact hw ⟨by omega,by omega⟩
  show wpAny _ _ (if(((sIx items.size 0 lo:Nat):Int) == 0 && (1:Int) == 1 && (sIx items.size items.size hi - sIx items.size 0 lo) == items.size)=true then _ else _) _ _ s
  rw[if_neg hno,O2]
  first
    | exact wpAny_bind (m:=Builtin.Tuple.tupleExact _) (wpAny_newObj_type (wpAny_pure ⟨_,rfl,wpAny_pure h⟩) htake)
    | exact wpAny_bind (m:=Builtin.Tuple.tupleExact _) (wpAny_newObj_type (wpAny_bind (wpAny_pure (wpAny_pure ⟨_,rfl,wpAny_pure h⟩))) htake)
    | exact wpAny_bind (wpAny_bind (m:=Builtin.Tuple.tupleExact _) (wpAny_newObj_type (wpAny_pure (wpAny_pure ⟨_,rfl,wpAny_pure h⟩)) htake))
    | exact wpAny_bind (wpAny_bind (m:=Builtin.Tuple.tupleExact _) (wpAny_newObj_type (wpAny_pure ⟨_,rfl,wpAny_pure h⟩) htake))
end
end HT
namespace L2
open PySem PySem.Spec PyProof.Rows
noncomputable abbrev TO:=St->Hp->(Option Int->Hp->Prop)->Prop
noncomputable def PO(X:Cx)(e:Option Expr)(t:TO):Prop:=
  ∀ (pins:List (Addr × Obj)) (s:Shared) (σ:St) (H:Hp) (Q:Option Int->Hp->Prop),Inv X pins σ H s->t σ H Q ->
    wpAny (model X.prog X.w) X.A (evalPart e X.env) (λ u s'=>∃ o H',Inv X pins σ H' s'/\IsPart u o/\Q o H') X.xe s
noncomputable def Hc:TO:=λ _ H Q=>Q none H
noncomputable def Kv(t:TE):TO:=λ σ H Q=>t σ H λ x H1=>∃ i,x=.int i/\Q (some i) H1
theorem LV{ns:List Int}:∀ {us:List Value},Vals (ns.map V.int) us->IntsAre us ns:=by
  induction ns with
  | nil=>intro us r;rw[List.map_nil]at r;cases r;exact .nil
  | cons n ns ih=>
    intro us r
    rw[List.map_cons]at r
    cases r with
    | cons r1 r2=>
      obtain⟨t,e⟩:=r1
      subst e
      exact .cons n t (ih r2)
section
variable{X:Cx}{e:Expr}{te:TE}{lo hi:Option Expr}{tl th:TO}{pos p2:Pos}
theorem QC:PO X none Hc:=by
  intro pins s σ H Q I h
  rw[evalPart_none]
  exact wpAny_pure ⟨none,H,I,.none,h⟩
theorem QB(h:PE X e te):PO X (some e) (Kv te):=by
  intro pins s σ H Q I hw
  rw[evalPart_some]
  refine thn (h pins s σ H _ I hw) λ u s1 ⟨x,H1,I1,r1,q1⟩=>?_
  obtain⟨i,rfl,q⟩:=q1
  obtain⟨t,rfl⟩:=r1
  exact⟨some i,H1,I1,.int i t,q⟩
noncomputable def SlR(X:Cx)(r:V->Option Int->Option Int->Hp->VK->Prop):Prop:=
  ∀ (pins:List (Addr × Obj)) (s:Shared) (σ:St) (H:Hp) (x:V) (v vl vu:Value) (lo hi:Option Int) (sl:Addr) (Q:VK),Inv X pins σ H s->RelV x v->s.heap.IsSliceOf sl vl vu .none->IsPart vl lo->IsPart vu hi->r x lo hi H Q ->
    ∃ T id,typeLookup (.type T) "__getitem__"=pure (some (.builtin id))/\s.TypeIs v T/\wpAny (model X.prog X.w) X.A (getItem v (.ref sl)) (EP X pins σ Q) X.xe s
noncomputable def tSl(r:V->Option Int->Option Int->Hp->VK->Prop)(te:TE)(tl th:TO):TE:=λ σ H Q=>te σ H λ x H1=>tl σ H1 λ l H2=>th σ H2 λ u H3=>r x l u H3 Q
theorem JU{r:V->Option Int->Option Int->Hp->VK->Prop}(hr:SlR X r)(he:PE X e te)(hl:PO X lo tl)(hu:PO X hi th):PE X (.Subscript e (.Slice lo hi none p2) pos) (tSl r te tl th):=by
  intro pins s σ H Q I h
  refine Subscript_ (thn (he pins s σ H _ I h) λ v s1 ⟨x,H1,I1,r1,q1⟩=>?_)
  refine wpAny_Slice (thn (hl pins s1 σ H1 _ I1 q1) λ vl s2 ⟨l,H2,I2,pl,q2⟩=>thn (hu pins s2 σ H2 _ I2 q2) λ vu s3 ⟨u,H3,I3,pu,q3⟩=>?_)
  rw[evalPart_none]
  refine wpAny_pure ?_
  have I4:Inv X pins σ H3 { s3 with heap:=s3.heap.push { cls:=.type "slice",data:=.fields #[vl,vu,.none] } }:=I3.kept (t':=s3.toks) λ b ob q=>Heap.get?_push_of_some _ q
  obtain⟨T,id,hT,ht,hg⟩:=hr pins { s3 with heap:=s3.heap.push { cls:=.type "slice",data:=.fields #[vl,vu,.none] } } σ H3 x v vl vu l u s3.heap.objs.size Q I4 r1 (Heap.IsSliceOf.new ..) pl pu q3
  show wpAny (model X.prog X.w) X.A (subscriptTail e (.Slice lo hi none p2) v (.ref s3.heap.objs.size)) (EP X pins σ Q) X.xe { s3 with heap:=s3.heap.push { cls:=.type "slice",data:=.fields #[vl,vu,.none] } }
  exact tail_any (ops:=[.ref s3.heap.objs.size,v]) ht hT hg (by with_unfolding_all rfl)
noncomputable def EY(xs:List V)(lo hi:Option Int):List V:=(xs.drop (HT.sIx xs.length 0 lo)).take (HT.sIx xs.length xs.length hi - HT.sIx xs.length 0 lo)
theorem GM(xs:List V)(lo hi:Option Int):(EY xs lo hi).length <= xs.length:=by
  unfold EY
  rw[List.length_take,List.length_drop]
  omega
noncomputable def LD(K:PySem.W.Frag):V->Option Int->Option Int->Hp->VK->Prop:=λ x lo hi H Q=>∃ a xs,x=.ref a/\SqT K H a xs /\
  ¬ (HT.sIx xs.length 0 lo=0/\HT.sIx xs.length xs.length hi=xs.length)/\∀ p,H p=none->Q (.ref p) (upd H p (.tup (EY xs lo hi)))
theorem Rj:SlR X (LD X.K):=by
  intro pins s σ H x v vl vu lo hi sl Q I rx hs pl pu h
  obtain⟨a,xs,rfl,hx,hw,q⟩:=h
  cases rx
  obtain⟨its,r,ht,hz⟩:=I.tuple hx
  have hlen:its.toArray.size=xs.length:=by rw[List.size_toArray];exact r.length.symm
  refine⟨"tuple",_,PyProof.Rows.slot_tuple_getitem.lookup,ht.typeIs,?_⟩
  refine HT.getItem_tuple_cut ht hs pl pu (by rw[hlen];exact hw) ?_ (by rw[hlen];exact hz)
  rw[hlen]
  refine⟨.ref s.heap.objs.size,_,I.laid (t':=s.toks) (o:=.tup (EY xs lo hi)) (λ b ob q=>Heap.get?_push_of_some _ q) (Nat.le_refl _) ?_,rfl,q _ (I.hok.fresh (Nat.le_refl _))⟩
  exact⟨Nat.le_trans (GM xs lo hi) hz,_,(r.drop (HT.sIx xs.length 0 lo)).take (HT.sIx xs.length xs.length hi - HT.sIx xs.length 0 lo),IsTupD.new _ _⟩
noncomputable def LI(K:PySem.W.Frag):R2:=λ x y H Q=>∃ a b xs ys,x=.ref a/\y=.ref b/\SqT K H a xs/\SqT K H b ys/\xs ≠ []/\xs.length + ys.length <= sizeLine /\
  (ys=[]->Q (.ref a) H)/\(ys ≠ []->∀ p,H p=none->Q (.ref p) (upd H p (.tup (xs ++ ys))))
theorem Vals.nil_iff{xs:List V}{us:List Value}(r:Vals xs us):us=[] ↔ xs=[]:=by
  cases r with
  | nil=>simp
  | cons _ _=>simp
theorem Qc:OpR X (binaryOp .Add) (LI X.K):=by
  intro pins s σ H x y v u Q I rx ry h
  obtain⟨a,b,xs,ys,rfl,rfl,ha,hb,hx,hz,q1,q2⟩:=h
  cases rx
  cases ry
  obtain⟨its,r1,p1,_⟩:=I.tuple ha
  obtain⟨its2,r2,p2,_⟩:=I.tuple hb
  refine HT.cat_tup p1 p2 (λ z=>hx (r1.nil_iff.mp z)) (λ z=>⟨.ref a,H,I,rfl,q1 (r2.nil_iff.mp z)⟩) (λ z=>?_) (by rw[<- r1.length,<- r2.length];exact hz)
  refine⟨.ref s.heap.objs.size,_,I.laid (t':=s.toks) (o:=.tup (xs ++ ys)) (λ b ob q=>Heap.get?_push_of_some _ q) (Nat.le_refl _) ?_,rfl,q2 (λ w=>z (r2.nil_iff.mpr w)) _ (I.hok.fresh (Nat.le_refl _))⟩
  exact⟨by rw[List.length_append];exact hz,_,r1.append r2,IsTupD.new _ _⟩
end
end L2
namespace L2
open PySem PySem.Spec PyProof.Rows
noncomputable def ixN(n:Nat)(i:Int):Option Nat:=if 0 <= i then(if i < n then some i.toNat else none)else if -(n:Int) <= i then some (i + n).toNat else none
noncomputable def atI{α:Type}(xs:List α)(i:Int):Option α:=(ixN xs.length i).bind λ j=>xs[j]?
theorem KT{n:Nat}{i:Int}{j:Nat}(h:ixN n i=some j):seqIndex? i n=some j/\j < n/\-(n:Int) <= i/\i < n:=by
  unfold ixN at h
  by_cases h0:0 <= i
  . rw[if_pos h0]at h
    by_cases h1:i < n
    . rw[if_pos h1]at h
      have e:i.toNat=j:=Option.some.inj h
      exact⟨by rw[seqIndex_of h0 h1,e],by omega,by omega,h1⟩
    . rw[if_neg h1]at h;cases h
  . rw[if_neg h0]at h
    by_cases h1:-(n:Int) <= i
    . rw[if_pos h1]at h
      have e:(i + n).toNat=j:=Option.some.inj h
      exact⟨by rw[seqIndex_neg (by omega) h1,e],by omega,h1,by omega⟩
    . rw[if_neg h1]at h;cases h
theorem Kh{α:Type}{xs:List α}{i:Int}{v:α}(h:atI xs i=some v):∃ j,seqIndex? i xs.length=some j/\xs[j]? = some v/\j < xs.length/\-(xs.length:Int) <= i/\i < xs.length:=by
  unfold atI at h
  cases e:ixN xs.length i with
  | none=>rw[e]at h;cases h
  | some j=>
    rw[e]at h
    obtain⟨h1,h2,h3,h4⟩:=KT e
    exact⟨j,h1,h,h2,h3,h4⟩
theorem Bh{α:Type}{xs:List α}{j:Nat}{v:α}(h:xs[j]? = some v):atI xs (j:Int)=some v:=by
  have hj:j < xs.length:=(List.getElem?_eq_some_iff.mp h).1
  have e:ixN xs.length (j:Int)=some j:=by
    unfold ixN
    rw[if_pos (by omega),if_pos (by omega)];simp
  unfold atI;rw[e];exact h
noncomputable def Hz(b:Expr):Prop:=∀ o i,subscripted b false o i=operate [o,i] (getItem o i)
noncomputable def IxR(X:Cx)(r:R2):Prop:=
  ∀ (value slice:Expr) (pins:List (Addr × Obj)) (s:Shared) (σ:St) (H:Hp) (x y:V) (v u:Value) (Q:VK),Inv X pins σ H s->RelV x v->RelV y u->r x y H Q ->
    subscripted slice false v u=operate [v,u] (getItem v u)->wpAny (model X.prog X.w) X.A (subscriptTail value slice v u) (EP X pins σ Q) X.xe s
noncomputable def MtR(X:Cx)(id:String)(r:V->List V->Hp->VK->Prop):Prop:=
  ∀ (pins:List (Addr × Obj)) (s:Shared) (σ:St) (H:Hp) (x:V) (xs:List V) (v:Value) (us:List Value) (Q:VK),Inv X pins σ H s->RelV x v->Vals xs us->r x xs H Q ->
    wpAny (model X.prog X.w) X.A (call (.builtin id) (v :: us)) (EP X pins σ Q) X.xe s
section
variable{X:Cx}{a b:Expr}{ta tb:TE}{pos:Pos}
theorem IxR.or{r r':R2}(h:IxR X r)(h':IxR X r'):IxR X (λ x y H Q=>r x y H Q ∨ r' x y H Q):=by
  intro value slice pins s σ H x y v u Q I rx ry q hs
  rcases q with q|q
  . exact h value slice pins s σ H x y v u Q I rx ry q hs
  . exact h' value slice pins s σ H x y v u Q I rx ry q hs
theorem Ou{r:R2}(hr:IxR X r)(ha:PE X a ta)(hb:PE X b tb)(hs:Hz b):PE X (.Subscript a b pos) (tOp r ta tb):=by
  intro pins s σ H Q I h
  exact Subscript_ (OU ha hb I h λ v u s2 x y H2 I2 rx ry q=>hr a b pins s2 σ H2 x y v u Q I2 rx ry q (hs _ _))
noncomputable def Nk(K:PySem.W.Frag):R2:=λ x y H Q=>∃ p xs i v,x=.ref p/\y=.int i/\SqL K H p xs/\atI xs i=some v/\Q v H
noncomputable def Nj(K:PySem.W.Frag):R2:=λ x y H Q=>∃ p xs i v,x=.ref p/\y=.int i/\SqT K H p xs/\atI xs i=some v/\Q v H
theorem Qo:IxR X (Nk X.K):=by
  intro value slice pins s σ H x y v u Q I rx ry h hs
  obtain⟨p,xs,i,z,rfl,rfl,hq,he,q⟩:=h
  cases rx
  obtain⟨t,rfl⟩:=ry
  obtain⟨its,r,pl,hz⟩:=I.list hq
  obtain⟨j,h1,h2,h3,h4,h5⟩:=Kh he
  obtain⟨w,ew,rw'⟩:=r.get h2
  have hl:=r.length
  have hn:=Es
  have fin:EP X pins σ Q w s:=⟨z,H,I,rw',q⟩
  by_cases h0:0 <= i
  . have hj:i.toNat=j:=by
      rw[seqIndex_of h0 h5]at h1
      exact Option.some.inj h1
    exact item_listR pl.isList h0 (by omega) (by rw[hj];simpa using ew) fin hs
  . have hj:(i + (its.toArray.size:Int)).toNat=j:=by
      rw[seqIndex_neg (by omega) h4]at h1
      rw[List.size_toArray,<- hl]
      exact Option.some.inj h1
    exact subscriptTail_builtinR (x:=w) pl.isList.typeIs slot_list_getitem.lookup
      (wpAny_getItem_list_neg (Q:=λ r s'=>r=w/\EP X pins σ Q r s') pl.isList (by omega) (by rw[List.size_toArray] <;> omega) (by omega) (by rw[hj];simpa using ew) ⟨rfl,fin⟩) hs
theorem T7:IxR X (Nj X.K):=by
  intro value slice pins s σ H x y v u Q I rx ry h hs
  obtain⟨p,xs,i,z,rfl,rfl,hq,he,q⟩:=h
  cases rx
  obtain⟨t,rfl⟩:=ry
  obtain⟨its,r,pl,hz⟩:=I.tuple hq
  obtain⟨j,h1,h2,h3,h4,h5⟩:=Kh he
  obtain⟨w,ew,rw'⟩:=r.get h2
  have hl:=r.length
  have hn:=Es
  have fin:EP X pins σ Q w s:=⟨z,H,I,rw',q⟩
  exact subscriptTail_builtinR (x:=w) pl.typeIs slot_tuple_getitem.lookup
    (getItem_tuple (j:=j) (Q:=λ r s'=>r=w/\EP X pins σ Q r s') pl (by omega) (by omega) (by rw[List.size_toArray,<- hl];exact h1) (by simpa using ew) ⟨rfl,fin⟩) hs
theorem LN(its:List Value)(n j:Nat)(u:Value):Obj.mapSeq (·.setIfInBounds j u) { cls:=.type "list",data:=.seq its.toArray n }={ cls:=.type "list",data:=.seq (its.set j u).toArray n }:=by
  simp[Obj.mapSeq]
theorem Inv.lst{pins:List (Addr × Obj)}{σ:St}{H:Hp}{s:Shared}{p:Addr}{xs:List V}(I:Inv X pins σ H s)(h:H p=some (.lst xs)) :
    ∃ (its:List Value) (n:Nat),Vals xs its/\s.heap.get? p=some { cls:=.type "list",data:=.seq its.toArray n }/\xs.length <= sizeLine:=by
  obtain⟨z,its,n,r,e⟩:=I.hok p _ h
  exact⟨its,n,r,e,z⟩
theorem Inv.lstUpd{pins:List (Addr × Obj)}{σ:St}{H:Hp}{s:Shared}{p:Addr}{xs ys:List V}{its its':List Value}{n n':Nat}{f:Obj->Obj}(I:Inv X pins σ H s)(h:H p=some (.lst xs))
    (ho:s.heap.get? p=some { cls:=.type "list",data:=.seq its.toArray n }) (hf:f { cls:=.type "list",data:=.seq its.toArray n }={ cls:=.type "list",data:=.seq its'.toArray n' }) (r:Vals ys its') (hz:ys.length <= sizeLine) (t:Nat) :
    Inv X pins σ (upd H p (.lst ys)) { s with heap:=s.heap.update p f,toks:=t }:=by
  have e:(s.heap.update p f).get? p=some { cls:=.type "list",data:=.seq its'.toArray n' }:=by
    rw[Heap.get?_update_self f ho (by rw[hf] <;> rfl),hf]
  refine I.write (x:=p) (e:=p) (by rw[h];trivial) (.inl rfl) (λ b u hb q=>(Heap.get?_update_other _ _ (Ne.symm hb)).trans q) ⟨_,e⟩ ?_
  exact⟨hz,its',n',r,e⟩
noncomputable def LG:V->V->V->Hp->(Hp->Prop)->Prop:=λ o i v H Q=>∃ p xs k j,o=.ref p/\i=.int k/\H p=some (.lst xs)/\ixN xs.length k=some j/\Q (upd H p (.lst (xs.set j v)))
theorem NS:Te X LG:=by
  intro pins s σ H o i v ov iv u Q I ro ri rv h
  obtain⟨p,xs,k,j,rfl,rfl,hp,hj,q⟩:=h
  cases ro
  obtain⟨t,rfl⟩:=ri
  obtain⟨its,n,r,ho,hz⟩:=I.lst hp
  obtain⟨h1,h2,h3,h4⟩:=KT hj
  have hl:=r.length
  have hn:=Es
  have I':Inv X pins σ (upd H p (.lst (xs.set j v))) { s with heap:=s.heap.update p (Obj.mapSeq (·.setIfInBounds j u)) }:=
    I.lstUpd hp ho (LN its n j u) (r.set rv j) (by rw[List.length_set];exact hz) s.toks
  by_cases h0:0 <= k
  . have hk:k.toNat=j:=by
      rw[seqIndex_of h0 h4]at h1
      exact Option.some.inj h1
    exact PySem.W.ki_setAt ho h0 (by omega) (by rw[List.size_toArray,<- hl];exact h4) (by rw[hk];exact⟨_,I',q⟩)
  . have hk:(k + (its.toArray.size:Int)).toNat=j:=by
      rw[seqIndex_neg (by omega) h3]at h1
      rw[List.size_toArray,<- hl]
      exact Option.some.inj h1
    exact PySem.W.ki_setBack ho (by omega) (by rw[List.size_toArray,<- hl];exact h3) (by omega) (by rw[hk];exact⟨_,I',q⟩)
theorem J4(lo hi:Option Int)(n:Nat):(sliceBounds lo hi none n).1=((HT.sIx n 0 lo:Nat):Int)/\(sliceBounds lo hi none n).2.1=((HT.sIx n n hi:Nat):Int)/\(sliceBounds lo hi none n).2.2=1:=by
  refine⟨?_,?_,rfl⟩
  . cases lo with
    | none=>simp[sliceBounds,HT.sIx]
    | some i=>
      simp only[sliceBounds,HT.sIx,Option.getD_none,show(1:Int) > 0 by decide,if_true]
      by_cases h:i < 0
      . simp only[h,if_true] <;> omega
      . simp only[h,if_false] <;> omega
  . cases hi with
    | none=>simp[sliceBounds,HT.sIx]
    | some i=>
      simp only[sliceBounds,HT.sIx,Option.getD_none,show(1:Int) > 0 by decide,if_true]
      by_cases h:i < 0
      . simp only[h,if_true] <;> omega
      . simp only[h,if_false] <;> omega
theorem IS(its:List Value)(lo hi:Option Int):slicePick its.toArray lo hi none=((its.drop (HT.sIx its.length 0 lo)).take (HT.sIx its.length its.length hi - HT.sIx its.length 0 lo)).toArray:=by
  obtain⟨h1,h2,h3⟩:=J4 lo hi its.toArray.size
  unfold slicePick
  rw[h1,h2,h3]
  simp only[sliceRange_one,pick_run,List.size_toArray] <;> rfl
noncomputable def LF(K:PySem.W.Frag):V->Option Int->Option Int->Hp->VK->Prop:=λ x lo hi H Q=>∃ a xs,x=.ref a/\SqL K H a xs/\∀ p,H p=none->Q (.ref p) (upd H p (.lst (EY xs lo hi)))
theorem PP:SlR X (LF X.K):=by
  intro pins s σ H x v vl vu lo hi sl Q I rx hs pl pu h
  obtain⟨a,xs,rfl,hx,q⟩:=h
  cases rx
  obtain⟨its,r,ht,hz⟩:=I.list hx
  have hlen:=r.length
  refine⟨"list",_,slot_list_getitem.lookup,ht.isList.typeIs,?_⟩
  refine wpAny_getItem_list_slice ht.isList hs pl pu .none (by simp) ?_ (by rw[List.size_toArray] <;> omega)
  rw[IS,<- hlen]
  refine⟨.ref s.heap.objs.size,_,I.laid (t':=s.toks) (o:=.lst (EY xs lo hi)) (λ b ob q=>Heap.get?_push_of_some _ q) (Nat.le_refl _) ?_,rfl,q _ (I.hok.fresh (Nat.le_refl _))⟩
  exact⟨Nat.le_trans (GM xs lo hi) hz,_,0,(r.drop (HT.sIx xs.length 0 lo)).take (HT.sIx xs.length xs.length hi - HT.sIx xs.length 0 lo),Heap.get?_push_size _ rfl⟩
noncomputable def DN:V->Bool
  | .non=>true
  | .bl _=>true
  | .int _=>true
  | .str _=>true
  | _=>false
noncomputable def eqV:V->V->Bool
  | .non,.non=>true
  | .bl a,.bl b=>a == b
  | .bl a,.int b=>(if a then 1 else 0) == b
  | .int a,.bl b=>a == (if b then 1 else 0)
  | .int a,.int b=>a == b
  | .str a,.str b=>a == b
  | _,_=>false
theorem TW{A:Around}{s:Shared}{y x:V}{u v:Value}(ry:RelV y u)(rx:RelV x v)(fy:DN y=true)(fx:DN x=true):SeqAt.EqAt A s u v (eqV y x):=by
  cases y with
  | non=>
    cases ry
    cases x with
    | non=>cases rx;exact SeqAt.EqAt.same _
    | bl b=>cases rx;exact SeqAt.EqAt.none_bool b
    | int b=>obtain⟨t,rfl⟩:=rx;exact SeqAt.EqAt.none_int b t
    | str b=>obtain⟨t,rfl⟩:=rx;exact SeqAt.EqAt.none_str b t
    | _=>exact absurd (show false=true from fx) Bool.false_ne_true
  | bl a=>
    cases ry
    cases x with
    | non=>cases rx;exact SeqAt.EqAt.bool_none a
    | bl b=>cases rx;exact SeqAt.EqAt.bool_bool a b
    | int b=>obtain⟨t,rfl⟩:=rx;exact SeqAt.EqAt.bool_int a b t
    | str b=>obtain⟨t,rfl⟩:=rx;exact SeqAt.EqAt.bool_str a b t
    | _=>exact absurd (show false=true from fx) Bool.false_ne_true
  | int a=>
    obtain⟨t',rfl⟩:=ry
    cases x with
    | non=>cases rx;exact SeqAt.EqAt.int_none a t'
    | bl b=>cases rx;exact SeqAt.EqAt.int_bool a t' b
    | int b=>obtain⟨t,rfl⟩:=rx;exact SeqAt.EqAt.int_int a t' b t
    | str b=>obtain⟨t,rfl⟩:=rx;exact SeqAt.EqAt.int_str a t' b t
    | _=>exact absurd (show false=true from fx) Bool.false_ne_true
  | str a=>
    obtain⟨t',rfl⟩:=ry
    cases x with
    | non=>cases rx;exact SeqAt.EqAt.str_none a t'
    | bl b=>cases rx;exact SeqAt.EqAt.str_bool a t' b
    | int b=>obtain⟨t,rfl⟩:=rx;exact SeqAt.EqAt.str_int a t' b t
    | str b=>obtain⟨t,rfl⟩:=rx;exact SeqAt.EqAt.str_str a t' b t
    | _=>exact absurd (show false=true from fx) Bool.false_ne_true
  | _=>exact absurd (show false=true from fy) Bool.false_ne_true
noncomputable def eqU(x:V)(u:Value):Bool:=match u with
  | .none=>eqV .non x
  | .bool b=>eqV (.bl b) x
  | .int i _=>eqV (.int i) x
  | .str z _=>eqV (.str z) x
  | _=>false
theorem Mu{x y:V}{u:Value}(r:RelV y u)(f:DN y=true):eqU x u=eqV y x:=by
  cases y with
  | non=>cases r;rfl
  | bl b=>cases r;rfl
  | int i=>obtain⟨t,rfl⟩:=r;rfl
  | str z=>obtain⟨t,rfl⟩:=r;rfl
  | _=>exact absurd (show false=true from f) Bool.false_ne_true
theorem Hy{x:V}:∀ {xs:List V} {us:List Value},Vals xs us->xs.all DN=true->us.any (eqU x)=xs.any λ y=>eqV y x
  | _,_,.nil,_=>rfl
  | y :: xs,u :: us,.cons r t,f=>by
    rw[List.all_cons,Bool.and_eq_true]at f
    rw[List.any_cons,List.any_cons,Mu r f.1,Hy t f.2]
theorem GX{A:Around}{s:Shared}{x:V}{v:Value}(rx:RelV x v)(fx:DN x=true):∀ {xs:List V} {us:List Value},Vals xs us->xs.all DN=true->∀ u ∈ us,SeqAt.EqAt A s u v (eqU x u)
  | _,_,.nil,_=>λ u hu=>by cases hu
  | y :: xs,u :: us,.cons r t,f=>λ u' hu=>by
    rw[List.all_cons,Bool.and_eq_true]at f
    rcases List.mem_cons.mp hu with rfl|hu
    . rw[Mu r f.1];exact TW r rx f.1 fx
    . exact GX rx fx t f.2 u' hu
noncomputable def inV(x:V)(xs:List V):Bool:=xs.any λ y=>eqV y x
noncomputable def rIn(K:PySem.W.Frag)(neg:Bool):R2:=λ x y H Q=>∃ p xs,y=.ref p/\(SqL K H p xs ∨ SqT K H p xs)/\DN x=true/\xs.all DN=true/\Q (.bl (if neg then !inV x xs else inV x xs)) H
theorem MY:OpR X (compareOp .In) (rIn X.K false):=by
  intro pins s σ H x y v u Q I rx ry h
  obtain⟨p,xs,rfl,hq,fx,fs,q⟩:=h
  cases ry
  rcases hq with hq|hq
  . obtain⟨its,r,pl,hz⟩:=I.list hq
    refine SeqAt.in_listAt (eqU x) pl.isList (λ w hw=>GX rx fx r fs w (by simpa using hw)) ⟨.bl _,H,I,rfl,?_⟩
    rw[show its.toArray.any (eqU x)=its.any (eqU x) by simp,Hy r fs]
    exact q
  . obtain⟨its,r,pl,hz⟩:=I.tuple hq
    refine SeqAt.in_tupleAt (eqU x) pl (λ w hw=>GX rx fx r fs w (by simpa using hw)) ⟨.bl _,H,I,rfl,?_⟩
    rw[show its.toArray.any (eqU x)=its.any (eqU x) by simp,Hy r fs]
    exact q
theorem Jt:CallR X (.builtin "len") (λ xs H Q=>∃ p ys,xs=[.ref p]/\(SqL X.K H p ys ∨ SqT X.K H p ys)/\Q (.int ys.length) H):=by
  intro pins s σ H xs us Q I r h
  obtain⟨p,ys,rfl,hq,q⟩:=h
  obtain⟨u,rfl,rx⟩:=CG r
  cases rx
  have hn:=Es
  rcases hq with hq|hq
  . obtain⟨its,r',pl,hz⟩:=I.list hq
    have hlen:=r'.length
    exact Calls.call_len_list pl.isList (by simp only[List.size_toArray] <;> omega) ⟨.int ys.length,H,I.tok _,⟨s.toks + 1,by rw[List.size_toArray,hlen]⟩,q⟩
  . obtain⟨its,r',pl,hz⟩:=I.tuple hq
    have hlen:=r'.length
    exact len_tuple pl (by simp only[List.size_toArray] <;> omega) ⟨.int ys.length,H,I.tok _,⟨s.toks + 1,by rw[List.size_toArray,hlen]⟩,q⟩
theorem CallR.or{f:Value}{r r':List V->Hp->VK->Prop}(h:CallR X f r)(h':CallR X f r'):CallR X f (λ xs H Q=>r xs H Q ∨ r' xs H Q):=by
  intro pins s σ H xs us Q I rs q
  rcases q with q|q
  . exact h pins s σ H xs us Q I rs q
  . exact h' pins s σ H xs us Q I rs q
theorem Js:CallR X (.type "list") (λ xs H Q=>∃ p ys,xs=[.ref p]/\(SqL X.K H p ys ∨ SqT X.K H p ys)/\∀ l,H l=none->Q (.ref l) (upd H l (.lst ys))):=by
  intro pins s σ H xs us Q I r h
  obtain⟨p,ys,rfl,hq,q⟩:=h
  obtain⟨u,rfl,rx⟩:=CG r
  cases rx
  have fin:∀ (its:List Value),Vals ys its->ys.length <= sizeLine->∀ (h':Heap) (c':Nat),(∀ b o',s.heap.get? b=some o'->h'.get? b=some o') ->
      h'.get? s.heap.objs.size=some { cls:=.type "list",dict:=none,data:=.seq its.toArray c',slots:=#[] }->EP X pins σ Q (.ref s.heap.objs.size) { s with heap:=h' }:=λ its r' hz h' c' kp e=>
    ⟨.ref s.heap.objs.size,_,I.laid (t':=s.toks) kp (Nat.le_refl _) (show ObjOk X.prog X.w _ h' _ (.lst ys)from⟨hz,its,c',r',e⟩),rfl,q _ (I.hok.fresh (Nat.le_refl _))⟩
  rcases hq with hq|hq
  . obtain⟨its,r',pl,hz⟩:=I.list hq
    have hlen:=r'.length
    obtain⟨o,ho,hc,n,hd⟩:=pl.isList
    exact call_list_seq p (.inl rfl) ho hc hd (λ h' c' kp e=>fin its r' hz h' c' kp e) (by simp only[List.size_toArray] <;> omega)
  . obtain⟨its,r',pl,hz⟩:=I.tuple hq
    have hlen:=r'.length
    obtain⟨o,ho,hc,n,hd⟩:=pl
    exact call_list_seq p (.inr rfl) ho hc hd (λ h' c' kp e=>fin its r' hz h' c' kp e) (by simp only[List.size_toArray] <;> omega)
theorem IV:CallR X (.type "tuple") (λ xs H Q=>∃ p ys,xs=[.ref p]/\((SqL X.K H p ys/\∀ l,H l=none->Q (.ref l) (upd H l (.tup ys))) ∨ (SqT X.K H p ys/\Q (.ref p) H))):=by
  intro pins s σ H xs us Q I r h
  obtain⟨p,ys,rfl,h⟩:=h
  obtain⟨u,rfl,rx⟩:=CG r
  cases rx
  rcases h with⟨hq,q⟩|⟨hq,q⟩
  . obtain⟨its,r',pl,hz⟩:=I.list hq
    have hlen:=r'.length
    refine call_tuple_list pl.isList (λ h' kp=>?_) (by simp only[List.size_toArray] <;> omega)
    have I1:Inv X pins σ H { s with heap:=h' }:=I.kept (t':=s.toks) kp
    have I2:Inv X pins σ (upd H h'.objs.size (.tup ys)) { s with heap:=h'.push { cls:=.type "tuple",data:=.seq its.toArray } }:=
      I1.laid (t':=s.toks) (λ b o e=>Heap.get?_push_of_some _ e) (Nat.le_refl _) (show ObjOk X.prog X.w _ _ _ (.tup ys)from⟨hz,its,r',IsTupD.new _ _⟩)
    exact⟨.ref h'.objs.size,_,I2,rfl,q _ (I1.hok.fresh (Nat.le_refl _))⟩
  . obtain⟨its,r',pl,hz⟩:=I.tuple hq
    exact call_tuple_same pl ⟨.ref p,H,I,rfl,q⟩
noncomputable def tyV(K:PySem.W.Frag)(T:String)(x:V)(H:Hp):Prop:=match x with
  | .str _=>T="str"
  | .int _=>T="int"
  | .ref p=>(T="list"/\∃ xs,SqL K H p xs) ∨ (T="tuple"/\∃ o,K.lookup p=some o/\o.cls=.type "tuple"/\o.dict=none) ∨
      (T="dict"/\((∃ kvs,H p=some (.dK kvs)) ∨ ∃ kvs,H p=some (.dT kvs))) ∨ (T="set"/\∃ S n,H p=some (.set S n))
  | _=>False
theorem Re{pins:List (Addr × Obj)}{σ:St}{H:Hp}{s:Shared}{T:String}{x:V}{v:Value}(I:Inv X pins σ H s)(r:RelV x v)(ty:tyV X.K T x H) :
    s.TypeIs v T/\∀ a,v=.ref a->∃ ob,s.heap.get? a=some ob/\ob.dict=none:=by
  cases x with
  | str z=>
    obtain⟨t,rfl⟩:=r
    cases(show T="str" from ty)
    exact⟨typeIs_str s z t,λ _ e=>nomatch e⟩
  | int i=>
    obtain⟨t,rfl⟩:=r
    cases(show T="int" from ty)
    exact⟨typeIs_int s i t,λ _ e=>nomatch e⟩
  | ref p=>
    cases r
    rcases ty with⟨rfl,xs,hq⟩|⟨rfl,o,hk,hc,hd⟩|⟨rfl,hk⟩|⟨rfl,S,n,hk⟩
    . obtain⟨its,_,pl,_⟩:=I.list hq
      refine⟨pl.isList.typeIs,λ a e=>?_⟩
      cases e
      obtain⟨o,n,e,c,hd,_⟩:=pl
      exact⟨o,e,hd⟩
    . refine⟨⟨o,I.kIn p o hk,hc⟩,λ a e=>?_⟩
      cases e
      exact⟨o,I.kIn _ o hk,hd⟩
    . have z:∃ o,s.heap.get? p=some o/\o.ExactDict:=by
        rcases hk with⟨kvs,hk⟩|⟨kvs,hk⟩
        . obtain⟨_,_,_,_,o,_,_,e,ex,_⟩:=I.hok p _ hk
          exact⟨o,e,ex⟩
        . obtain⟨_,_,_,_,o,_,_,e,ex,_⟩:=I.hok p _ hk
          exact⟨o,e,ex⟩
      obtain⟨o,e,ex⟩:=z
      refine⟨⟨o,e,ex.1⟩,λ a e2=>?_⟩
      cases e2
      exact⟨o,e,ex.2.1⟩
    . obtain⟨o,_,_,_,e,ex,_⟩:=I.hok p _ hk
      refine⟨⟨o,e,ex.1⟩,λ a e2=>?_⟩
      cases e2
      exact⟨o,e,ex.2.1⟩
  | _=>exact False.elim ty
noncomputable def tBM(K:PySem.W.Frag)(T:String)(r:V->List V->Hp->VK->Prop)(to:TE)(t:TA):TE:=λ σ H Q=>to σ H λ x H1=>tyV K T x H1/\t σ H1 λ xs H2=>r x xs H2 Q
variable{o e:Expr}{es:List Expr}{to:TE}{t:TA}{name:Str}{apos cpos:Pos}{T id:String}{r:V->List V->Hp->VK->Prop}
theorem U2(pa:PlainAttrs T)(slot:Slot T name id)(hty:typeOf (.builtin id)=pure (.type "method_descriptor"))(hm:MtR X id r)(ho:PE X o to)(ha:PA X (e :: es) t)
    (hbase:attributeBase o name X.env (eval o X.env)=eval o X.env:=by rfl)
    (hfew:((backTo cpos (starEach (e :: es) X.env)).all (λ x=>!x.1) && (backToKw cpos (keywordEach [] X.env)).all (λ x=>x.1.isSome)
      && decide ((e :: es).length + ([]:List Keyword).length + (if([]:List Keyword).isEmpty then 0 else 1) < 30))=true:=by rfl)
    (hline:(apos.endLine == cpos.line)=true:=by rfl) (hs:starEach (e :: es) X.env=(false,eval e X.env) :: starEach es X.env:=by rfl) (hplain:(backTo cpos (starEach es X.env)).any (·.1)=false:=by rfl) :
    PE X (.Call (.Attribute o name apos) (e :: es) [] cpos) (tBM X.K T r to t):=by
  intro pins s σ H Q I h
  refine wpAny_Call_method_late hbase hfew hline rfl (thn (ho pins s σ H _ I h) λ v s1 ⟨x,H1,I1,r1,ty,q1⟩=>?_)
  obtain⟨h1,h2⟩:=Re I1 r1 ty
  refine⟨T,id,pa,slot,hty,h1,h2,?_⟩
  have hA:=ha cpos pins s1 σ H1 _ I1 q1
  rw[hs]at hA ⊢
  refine Calls.callWith_builtin (by show(false || (backTo cpos (starEach es X.env)).any (·.1))=false;rw[hplain] <;> rfl) (Calls.evalArgs_plain ?_)
  exact thn hA λ us s2 ⟨vs,H2,I2,r2,q2⟩=>hm pins s2 σ H2 x vs v us Q I2 r1 r2 q2
end
end L2
namespace L2
open PySem PySem.Spec PyProof.Rows
noncomputable def MtM(X:Cx)(id:String)(r:V->List V->Hp->VK->Prop):Prop:=
  ∀ (pins:List (Addr × Obj)) (s:Shared) (σ:St) (H:Hp) (x:V) (xs:List V) (v:Value) (us:List Value) (Q:VK),Inv X pins σ H s->RelV x v->Vals xs us->r x xs H Q ->
    wpAny (model X.prog X.w) X.A (call (.builtin id) (v :: us)) (EP X pins σ Q) X.xe s
theorem Vals.one:∀ {x:V} {us:List Value},Vals [x] us->∃ u,us=[u]/\RelV x u
  | _,_,.cons r .nil=>⟨_,rfl,r⟩
theorem Vals.rep{xs:List V}{us:List Value}(h:Vals xs us):∀ k:Nat,Vals (List.replicate k xs).flatten (List.replicate k us).flatten
  | 0=>.nil
  | k + 1=>by
    rw[List.replicate_succ,List.replicate_succ,List.flatten_cons,List.flatten_cons]
    exact Vals.append h (Vals.rep h k)
theorem II(its:List Value):∀ (k:Nat) (acc:List Value),
    List.foldl (λ x1 x2=>x1 ++ x2) acc.toArray (List.replicate k its.toArray)=(acc ++ (List.replicate k its).flatten).toArray
  | 0,acc=>by simp
  | k + 1,acc=>by
    have e:acc.toArray ++ its.toArray=(acc ++ its).toArray:=by simp
    have e2:(acc ++ its) ++ (List.replicate k its).flatten=acc ++ (List.replicate (k + 1) its).flatten:=by
      rw[List.replicate_succ,List.flatten_cons,List.append_assoc]
    rw[<- e2,<- II its k (acc ++ its),<- e,List.replicate_succ,List.foldl_cons]
section
variable{X:Cx}{pins:List (Addr × Obj)}{σ:St}{H:Hp}{s:Shared}{l b:Addr}{xs ys zs:List V}
theorem Inv.lset{its its':List Value}{n:Nat}{f:Array Value->Array Value}{t':Nat}(I:Inv X pins σ H s)(hH:H l=some (.lst xs))
    (e:s.heap.get? l=some { cls:=.type "list",data:=.seq its.toArray n }) (hf:f its.toArray=its'.toArray) (hv:Vals ys its') (hz:ys.length <= sizeLine) :
    Inv X pins σ (upd H l (.lst ys)) { s with heap:=s.heap.update l (Obj.mapSeq f),toks:=t' }:=by
  have q:=PySem.IsL.update e f
  rw[hf]at q
  refine I.write (x:=l) (e:=l) (by rw[hH];exact trivial) (.inl rfl) (λ b' u hb hu=>(Heap.get?_update_other s.heap (Obj.mapSeq f) (Ne.symm hb)).trans hu) ⟨_,q⟩ ?_
  exact⟨hz,its',_,hv,q⟩
theorem Inv.lnew{its:List Value}{t':Nat}(I:Inv X pins σ H s)(hv:Vals ys its)(hz:ys.length <= sizeLine) :
    Inv X pins σ (upd H s.heap.objs.size (.lst ys)) { s with heap:=s.heap.push { cls:=.type "list",data:=.seq its.toArray },toks:=t' }:=
  I.laid (λ _ _ q=>Heap.get?_push_of_some _ q) (Nat.le_refl _) ⟨hz,its,0,hv,Heap.get?_push_size _ rfl⟩
theorem Inv.fresh(I:Inv X pins σ H s):H s.heap.objs.size=none:=I.hok.fresh (Nat.le_refl _)
theorem Inv.lstM(I:Inv X pins σ H s)(hH:H l=some (.lst xs)):xs.length <= sizeLine/\∃ (its:List Value) (n:Nat),Vals xs its/\xs.length=its.length/\s.heap.get? l=some { cls:=.type "list",data:=.seq its.toArray n }:=by
  obtain⟨z,its,n,r,e⟩:=I.hok l _ hH
  exact⟨z,its,n,r,r.length,e⟩
theorem O8{n:Nat}(h:n <= sizeLine):Builtin.List.listTooLong n=false:=by
  unfold Builtin.List.listTooLong
  exact decide_eq_false (by omega)
end
section
variable{X:Cx}
noncomputable def KI:V->List V->Hp->VK->Prop:=λ x vs H Q=>∃ l xs y,x=.ref l/\vs=[y]/\H l=some (.lst xs)/\xs.length < sizeLine/\Q .non (upd H l (.lst (xs ++ [y])))
theorem EO:MtM X "list.append" KI:=by
  intro pins s σ H x vs v us Q I rx rv h
  obtain⟨l,xs,y,rfl,rfl,hH,hz,q⟩:=h
  cases rx
  obtain⟨u,rfl,ru⟩:=rv.one
  obtain⟨z,its,n,r,hl,e⟩:=I.lstM hH
  refine call_meets F.slot_list_append ⟨_,e,rfl⟩ F.entry_list_append (F.args_list_append_2 _ _) (PySem.list_append l its.toArray n u (by rw[List.size_toArray];omega)) ⟨e,?_⟩
  refine⟨.non,_,I.lset (its':=its ++ [u]) hH e (by simp) (r.append (.cons ru .nil)) ?_,rfl,q⟩
  rw[List.length_append,List.length_singleton]
  omega
noncomputable def Nh:R2:=λ x y H Q=>∃ l k xs,x=.ref l/\y=.int k/\H l=some (.lst xs)/\-(2 ^ 63) <= k/\k < 2 ^ 63/\xs.length * k.toNat <= sizeLine /\
  ∀ p,H p=none->Q (.ref p) (upd H p (.lst (List.replicate k.toNat xs).flatten))
theorem Qm{α:Type}(xs:List α)(k:Nat):(List.replicate k xs).flatten.length=k * xs.length:=by
  induction k with
  | zero=>simp
  | succ k ih=>rw[List.replicate_succ,List.flatten_cons,List.length_append,ih,Nat.succ_mul,Nat.add_comm]
theorem Sn:OpR X (binaryOp .Mult) Nh:=by
  intro pins s σ H x y v u Q I rx ry h
  obtain⟨l,k,xs,rfl,rfl,hH,h1,h2,hz,q⟩:=h
  cases rx
  obtain⟨t,rfl⟩:=ry
  obtain⟨z,its,n,r,hl,e⟩:=I.lstM hH
  have hlen:its.toArray.size * k.toNat <= sizeLine:=by rw[List.size_toArray,<- hl];exact hz
  have hcap:¬ its.toArray.size * k.toNat > (2 ^ 63 - 1) / 8:=by
    have:(sizeLine:Nat) <= (2 ^ 63 - 1) / 8:=by decide
    omega
  have hfit:¬ (!Builtin.List.listFitsIndex k)=true:=by
    rw[fitsIndex_both h1 h2]
    exact Bool.false_ne_true
  have hlong:¬ Builtin.List.listTooLong (its.toArray.size * k.toNat)=true:=by
    rw[O8 hlen]
    exact Bool.false_ne_true
  have hnew:List.foldl (λ x1 x2=>x1 ++ x2) #[] (List.replicate (if its.toArray.isEmpty=true then 0 else k.toNat) its.toArray)=(List.replicate k.toNat its).flatten.toArray:=by
    have f0:∀ m:Nat,List.foldl (λ x1 x2=>x1 ++ x2) #[] (List.replicate m its.toArray)=(List.replicate m its).flatten.toArray:=λ m=>by
      have:=II its m []
      rw[List.nil_append]at this
      exact this
    rw[f0]
    cases its with
    | nil=>simp
    | cons a r'=>rw[if_neg (by simp)]
  refine wpAny_binaryOp_repeat_ref (T:="list") (U:="int") (by decide) ⟨_,e,rfl⟩ (λ s'=>typeIs_int s' k t) noFill_list_mul F.fills_int_mul F.slot_int_rmul repeat_list F.slot_int_index.lookup
    (call_meets F.slot_int_rmul (typeIs_int s k t) F.entry_int_rmul (F.args_int_rmul_2 _ _) (int___rmul___int_list k t l its.toArray n)
      ⟨e,rfl,⟨_,e,rfl⟩,call_meets F.slot_list_mul ⟨_,e,rfl⟩ F.entry_list_mul (F.args_list_mul_2 _ _) (AutoListH.list___mul___list_int_3 l its.toArray n k t hfit hcap hlong) ⟨e,?_⟩⟩)
  rw[hnew]
  exact⟨.ref _,_,I.lnew (t':=s.toks) (r.rep k.toNat) (by rw[Qm,Nat.mul_comm];exact hz),rfl,q _ I.fresh⟩
end
section
variable{prog:Program}{w:World}{A:Around}{E:Value->Shared->Prop}{s:Shared}
end
section
variable{X:Cx}
end
end L2
namespace Att
open PySem PySem.W PySem.Calls PyProof.Rows
theorem HL{P:Params}{h:Heap}:∀ (ns:List Int) (vs:List Value),WellAll P h vs (ns.map WData.int)->IntsAre vs ns:=by
  intro ns
  induction ns with
  | nil=>
    intro vs w
    rw[List.map_nil]at w
    cases w
    exact .nil
  | cons n ns ih=>
    intro vs w
    rw[List.map_cons]at w
    cases w with
    | cons a b=>
      cases a
      exact .cons _ _ (ih _ b)
theorem M3{l:OpenLaw}{n:Nat}(hn:l.most=some n){P:Params}{h:Heap}{args:List WData}{vals:List Value}
    (hpre:l.row.toRowW.claim.pre args=true) (hwl:WellAll P h vals args) :
    ∃ a vs ns,vals=[Value.ref a]/\args=[WData.list (ns.map WData.int)]/\h.get? a=some { cls:=.type "list",data:=.seq vs.toArray }/\IntsAre vs ns/\ns.length <= n:=by
  have hsh:WShape.hasAll [] args [.list .int]=true:=(pre_splitW hpre).1
  have hc:l.pre.holds [] { args:=args }=true:=(pre_splitW hpre).2
  obtain⟨d,r,rfl,h1,h2⟩:=hasAllW_cons hsh
  obtain rfl:=hasAllW_nil h2
  obtain⟨xs,rfl,h3⟩:=hasW_list h1
  obtain⟨ns,rfl⟩:=items_int h3
  have hlen:ns.length <= n:=by
    unfold OpenLaw.pre at hc
    have h4:(WTm.not (.lt (.lit (.int (n:Int))) (.len (.arg 0)))).holds [] { args:=[.list (ns.map .int)] }=true:=by
      have h4:=(holds_andW hc).1
      rw[hn]at h4
      exact h4
    have h5:=condW_of h4 (w_not (w_lt w_lit (w_len_list (w_arg rfl))))
    rw[List.length_map]at h5
    refine Nat.le_of_not_lt λ q=>?_
    have q':(n:Int) < ((ns.length:Nat):Int):=by omega
    first
      | (rw[decide_eq_true q']at h5;exact absurd h5 (by decide))
      | (simp at h5;omega)
  cases hwl with
  | cons w1 w2=>
    cases w2
    cases w1 with
    | list ho hall=>exact⟨_,_,ns,rfl,rfl,ho,HL ns _ hall,hlen⟩
theorem MU(l:OpenLaw)(args:List WData):l.row.toRowW.claim.post args (.bool true) args=true:=
  postW_of (r:=l.row.toRowW) (X:=(true == true))
    (show WShape.has [] (.bool true) .bool=true by first|rfl|decide|simp[WShape.has,WShape.arms,WShape.armsAll])
    (show(WTm.eq .res (.lit (.bool true))).value [] { args:=args,res:=some (.bool true),after:=args }=some (.bool (true == true))from w_eq_bool (w_res rfl) w_lit) rfl
theorem attach_call{l:OpenLaw}{n:Nat}{q:Program}{loose:List Str}{XP:(Str->Option Value)->Heap->Prop}{YP:World->Heap->Prop}{d:DefRec}
    (hn:l.most=some n) (hdf:d.params.defaults=[])
    (call:∀ (w:World) (s₀ s₁:Shared) (mg mb:Str->Option Value) (fa:Addr) (o:Obj) (pm cd doc:Value) (a:Addr) (vs:List Value) (ns:List Int),
      Ground q loose [] XP w s₀ mg mb s₁.heap->YP w s₁.heap ->
      s₁.heap.get? fa=some o->o.data=.func (docDef d.name d.params d.body d.scope pm cd doc)->s₁.heap.CodeRec cd d.name->mg d.name=some (.ref fa) ->
      s₁.heap.get? a=some { cls:=.type "list",data:=.seq vs.toArray }->IntsAre vs ns->ns.length <= n->s₁.gens=#[] ->
      codeAny (model l.prog w) callerA (.call (.ref fa) ⟨[.ref a],[]⟩) (λ r s'=>r=.ok (.ret (.bool true))/\OldK s₁.heap s'.heap/\s'.os=s₁.os/\AllBare s'.gens) s₁) :
    WalkO q loose XP YP l.row.toRowW d [] (λ f vs=>PySem.call f vs):=by
  intro w s₀ s₁ mg mb G Y fa o pm cd doc dV kV ho hd hcd hD hmg hg args vals as hpre hlay hrd hwl hlo
  obtain rfl:dV=.none:=Dflts.none hD hdf
  obtain rfl:kV=.none:=Dflts.noKw hD
  obtain⟨a,vs,ns,rfl,rfl,hobj,hints,hlen⟩:=M3 hn hpre hwl
  refine enter_call (codeAny_mono (call w s₀ s₁ mg mb fa o pm cd doc a vs ns G Y ho (fd_plain hd) hcd hmg hobj hints hlen hg) λ r s' hq=>?_)
  obtain⟨rfl,h2,h3,h4⟩:=hq
  exact⟨.inl ⟨.bool true,.bool true,[],rfl,λ _=>rfl,.bool true,MU l _,λ _=>⟨List.Pairwise.nil,λ _ hm=>(nomatch hm)⟩⟩,h2,h3,h4⟩
section
variable{prog:Program}{w:World}{A:Around}{E:Value->Shared->Prop}{s:Shared}{K:Frag}
end
end Att
namespace L2
open PySem PySem.Spec PyProof.Rows
theorem I0:∀ {vs:List Value} {ns:List Int},IntsAre vs ns->Vals (ns.map V.int) vs
  | _,_,.nil=>.nil
  | _,_,.cons n t h=>.cons ⟨t,rfl⟩ (I0 h)
end L2
namespace L2
open PySem PySem.Spec PyProof.Rows
end L2
namespace L2
open PySem PySem.Spec PyProof.Rows
noncomputable def Qq(s:Stmt)(j:Nat):Stmt:=match s with
  | .ClassDef _ _ _ body _ _ _ _ _ _ _=>body.getD j (.Pass ⟨0,0,0,0⟩)
  | _=>.Pass ⟨0,0,0,0⟩
noncomputable def Ad(s:Stmt):Arguments:=match s with
  | .FunctionDef _ a _ _ _ _ _ _ _ _=>a
  | _=>{ posonlyargs:=[],args:=[],vararg:=none,kwonlyargs:=[],kw_defaults:=[],kwarg:=none,defaults:=[] }
noncomputable def AT(s:Stmt):List Stmt:=match s with
  | .FunctionDef _ _ b _ _ _ _ _ _ _=>b
  | _=>[]
noncomputable def A9(s:Stmt):Scope:=match s with
  | .FunctionDef _ _ _ _ _ _ sc _ _ _=>sc
  | _=>{ kind:=.function,names:=[],isGenerator:=false,isCoroutine:=false }
noncomputable abbrev CX0:CXT:=λ _ _ _ _ _ _=>False
noncomputable abbrev E0:XK:=λ _ _ _=>False
theorem U4{X:Cx}:Jz CX0 X E0:=λ _ _ _ _ _ _ _ h=>h.elim
structure Fun(K:PySem.W.Frag)(x qual:Str)(st:Stmt)(f:Addr)(fd:FuncData):Prop where
  ex:∃ (oc:Value) (od:Option Addr) (kV doc pm:Value) (an:Option Addr) (cdv ct:Value) (osl:Array (Option Value)),
    fd=PySem.W.fnOf x qual (Ad st) (AT st) (A9 st) .none kV doc pm an cdv ct/\K.lookup f=some ⟨oc,od,.func fd,osl⟩/\PySem.W.codeIn K cdv qual=true
  kp:PySem.W.keepIn K (.ref f)=true
section
variable{P:Program}{w:World}{K:PySem.W.Frag}{mg:Str->Option Value}{base:Heap}
theorem Fun.ok{x qual:Str}{st:Stmt}{f:Addr}{fd:FuncData}{N ps:List Str}{k:Nat}{sp:Sp}(F:Fun K x qual st f fd)(S:FnScope N ps (A9 st))(len:∀ vs H Q E,sp vs H Q E->vs.length=ps.length)
    (hbody:∀ (cdv:Value) (A:Around) (outer:List Env) (s:Shared) (H:Hp) (vs:List V) (Q:VK) (E:XK),Room k (A.deeper (envOfC qual (A9 st) s.heap.objs.size f cdv))->sp vs H Q E ->
      ∃ t,PSs (EF CX0 P w K mg base N qual (A9 st) f cdv A outer s H E).nox (AT st) t/\t { nx:=λ _ H'=>Q .non H',rt:=Q } (CH N vs) H):FnOk P w K mg base CX0 (k + 1) f fd ps sp:=by
  obtain⟨oc,od,kV,doc,pm,an,cdv,ct,osl,rfl,lk,hcd⟩:=F.ex
  refine P0 lk hcd S len λ A outer s H vs Q E hr hsp=>?_
  obtain⟨t,h,q⟩:=hbody cdv A outer s H vs Q E hr hsp
  exact⟨t,h.nox,q⟩
theorem Fun.binds{x qual:Str}{st:Stmt}{f:Addr}{fd:FuncData}{ps:List Str}(F:Fun K x qual st f fd)
    (h:∀ (kV doc pm:Value) (an:Option Addr) (cdv ct:Value) (us:List Value),us.length=ps.length->bindArgs (PySem.W.fnOf x qual (Ad st) (AT st) (A9 st) .none kV doc pm an cdv ct) ⟨us,[]⟩=pure (ps.zip us)):Binds K fd ps []:=by
  obtain⟨oc,od,kV,doc,pm,an,cdv,ct,osl,rfl,lk,hcd⟩:=F.ex
  exact .all (h kV doc pm an cdv ct)
theorem B4{x qual:Str}{st:Stmt}{f:Addr}{oc:Value}{od an:Option Addr}{osl:Array (Option Value)}{kV doc pm cdv ct:Value}(l:K.lookup f=some ⟨oc,od,.func (PySem.W.fnOf x qual (Ad st) (AT st) (A9 st) .none kV doc pm an cdv ct),osl⟩)
    (c:PySem.W.codeIn K cdv qual=true) (k:PySem.W.keepIn K (.ref f)=true):Fun K x qual st f (PySem.W.fnOf x qual (Ad st) (AT st) (A9 st) .none kV doc pm an cdv ct):=⟨⟨oc,od,kV,doc,pm,an,cdv,ct,osl,rfl,l,c⟩,k⟩
end
section
variable{X:Cx}
end
theorem OF{A B:Prop}(h:A):if true=true then A else B:=by
  rw[if_pos rfl]
  exact h
end L2
namespace L2
open PySem PySem.Spec PyProof.Rows
section
variable{κ:Type}[DecidableEq κ]
end
section
variable{P:Program}{w:World}{H:Hp}{h:Heap}{a:Addr}
end
section
variable{X:Cx}{pins:List (Addr × Obj)}{σ:St}{H:Hp}{s:Shared}{a:Addr}{y v:V}{u r:Value}{o:Option V}{A:Around}{E:Value->Shared->Prop}
end
section
variable{X:Cx}{pins:List (Addr × Obj)}{σ:St}{H:Hp}{s:Shared}{a:Addr}{kvs:List (Key × V)}{k:Key}{u:Value}{A:Around}{E:Value->Shared->Prop}
end
section
variable{X:Cx}{o i e value:Expr}{pos pos' tpos:Pos}{td ty tv:TE}
end
section
variable{X:Cx}{pos:Pos}
end
section
variable{X:Cx}{pins:List (Addr × Obj)}{σ:St}{H:Hp}{s:Shared}{a:Addr}{y d:V}{u r:Value}{o:Option V}{A:Around}{E:Value->Shared->Prop}
end
section
variable{X:Cx}{o e f:Expr}{apos cpos:Pos}{td ty tx:TE}
end
section
variable{X:Cx}{pins:List (Addr × Obj)}{σ:St}{H:Hp}{s:Shared}{a:Addr}{kvs:List (Key × V)}{A:Around}{E:Value->Shared->Prop}
end
section
variable{X:Cx}{pins:List (Addr × Obj)}{σ:St}{H:Hp}{s:Shared}{a:Addr}{y:V}{u:Value}{A:Around}{E:Value->Shared->Prop}
end
end L2
namespace L2
open PySem PySem.Spec PyProof.Rows
section
variable{X:Cx}
end
section
variable{κ:Type}[DecidableEq κ]
end
end L2
namespace L2
open PySem PySem.Spec PyProof.Rows
noncomputable def BH(cells:List (Str × Addr)):List (Str × NameKind)->List (Str × Addr)->List (Str × Addr)
  | [],acc=>acc
  | (n,k) :: r,acc=>if k == .free then BH cells r ((n,(cells.lookup n).getD 0) :: acc)else BH cells r acc
theorem Ex{env:Env}(f:Str × NameKind->List (Str × Addr)->Sem (ForInStep (List (Str × Addr))))
    (hf:∀ name kind cs,f (name,kind) cs=if(kind == NameKind.free)=true then(do let a <- cellOf env name;pure (ForInStep.yield ((name,a) :: cs)))else pure (ForInStep.yield cs)) :
    ∀ (names:List (Str × NameKind)) (acc:List (Str × Addr)),(∀ y ∈ names,y.2=.free->∃ c,env.cells.lookup y.1=some c)->forIn names acc f=pure (BH env.cells names acc)
  | [],acc,_=>rfl
  | (n,k) :: r,acc,hy=>by
    rw[List.forIn_cons,hf]
    have ih:=λ a=>Ex f hf r a λ z hz=>hy z (List.mem_cons_of_mem _ hz)
    by_cases hk:(k == NameKind.free)=true
    . obtain⟨c,hc⟩:=hy (n,k) List.mem_cons_self (by simpa using hk)
      have hc:env.cells.lookup n=some c:=hc
      have e1:cellOf env n=pure c:=by unfold cellOf;rw[hc]
      rw[if_pos hk,e1]
      show forIn r ((n,c) :: acc) f=_
      have e2:BH env.cells ((n,k) :: r) acc=BH env.cells r ((n,c) :: acc):=by
        rw[BH,if_pos hk,hc]
        rfl
      rw[ih,e2]
    . rw[if_neg hk]
      show forIn r acc f=_
      have e2:BH env.cells ((n,k) :: r) acc=BH env.cells r acc:=by
        rw[BH,if_neg hk]
      rw[ih,e2]
theorem IU{scope:Scope}{env:Env}(h:∀ y ∈ scope.names,y.2=.free->∃ c,env.cells.lookup y.1=some c):closureFor scope env=pure (BH env.cells scope.names []):=by
  unfold closureFor
  dsimp only
  rw[Ex _ (λ name kind cs=>rfl) scope.names [] h]
  rfl
theorem Ds{cells:List (Str × Addr)}:∀ {names:List (Str × NameKind)} {acc:List (Str × Addr)},(∀ y ∈ names,y.2=.free->∃ c,cells.lookup y.1=some c)->(∀ x c,acc.lookup x=some c->cells.lookup x=some c) ->
    ∀ x c,(BH cells names acc).lookup x=some c->cells.lookup x=some c
  | [],_,_,ha,x,c,e=>ha x c e
  | (n,k) :: r,acc,hy,ha,x,c,e=>by
    unfold BH at e
    have hr:∀ y ∈ r,y.2=.free->∃ c,cells.lookup y.1=some c:=λ z hz=>hy z (List.mem_cons_of_mem _ hz)
    by_cases hk:(k == NameKind.free)=true
    . rw[if_pos hk]at e
      refine Ds hr (λ z d q=>?_) x c e
      obtain⟨c0,hc0⟩:=hy (n,k) List.mem_cons_self (by simpa using hk)
      have hc0:cells.lookup n=some c0:=hc0
      rw[List.lookup_cons]at q
      by_cases hz:(z == n)=true
      . rw[hz,hc0]at q
        have:z=n:=by simpa using hz
        subst this
        simpa [hc0]using q
      . have hz':(z == n)=false:=by simpa using hz
        rw[hz']at q
        exact ha z d q
    . rw[if_neg hk]at e
      exact Ds hr ha x c e
theorem Dt{cells:List (Str × Addr)}:∀ {names:List (Str × NameKind)} {acc:List (Str × Addr)} {x:Str},((acc.lookup x).isSome=true ∨ (x,NameKind.free) ∈ names)->((BH cells names acc).lookup x).isSome=true
  | [],_,_,h=>h.elim id λ z=>by cases z
  | (n,k) :: r,acc,x,h=>by
    unfold BH
    by_cases hk:(k == NameKind.free)=true
    . rw[if_pos hk]
      refine Dt ?_
      by_cases hx:(x == n)=true
      . exact .inl (by rw[List.lookup_cons,hx];rfl)
      . have hx':(x == n)=false:=by simpa using hx
        rcases h with h|h
        . exact .inl (by rw[List.lookup_cons,hx'];exact h)
        . rcases List.mem_cons.mp h with h|h
          . cases h;simp at hx
          . exact .inr h
    . rw[if_neg hk]
      refine Dt ?_
      rcases h with h|h
      . exact .inl h
      . rcases List.mem_cons.mp h with h|h
        . cases h;simp at hk
        . exact .inr h
noncomputable def C5:Nat->List (Str × NameKind)->List (Str × Addr)
  | _,[]=>[]
  | n,(x,k) :: r=>if k == .cell then C5 (n + 1) r ++ [(x,n)]else C5 n r
theorem Bg:∀ (names:List (Str × NameKind)) (n:Nat) (acc:List (Str × Addr)),cellsFrom n names acc=C5 n names ++ acc
  | [],_,_=>rfl
  | (x,k) :: r,n,acc=>by
    unfold cellsFrom C5
    by_cases hk:(k == NameKind.cell)=true
    . rw[if_pos hk,if_pos hk,Bg r (n + 1),List.append_assoc];rfl
    . rw[if_neg hk,if_neg hk,Bg r n]
theorem GT:∀ (names:List (Str × NameKind)) (n:Nat) (x:Str) (c:Addr),(C5 n names).lookup x=some c->(x,NameKind.cell) ∈ names
  | [],_,_,_,e=>by cases e
  | (y,k) :: r,n,x,c,e=>by
    unfold C5 at e
    by_cases hk:(k == NameKind.cell)=true
    . rw[if_pos hk]at e
      have hk':k=.cell:=by simpa using hk
      rw[List.lookup_append]at e
      cases q:(C5 (n + 1) r).lookup x with
      | some d=>exact List.mem_cons_of_mem _ (GT r _ x d q)
      | none=>
        rw[q]at e
        simp only[Option.none_or,List.lookup_cons]at e
        by_cases hx:(x == y)=true
        . have:x=y:=by simpa using hx
          subst this;subst hk'
          exact List.mem_cons_self
        . have hx':(x == y)=false:=by simpa using hx
          rw[hx']at e;cases e
    . rw[if_neg hk]at e
      exact List.mem_cons_of_mem _ (GT r n x c e)
theorem GU:∀ (names:List (Str × NameKind)) (n:Nat) (x:Str),(x,NameKind.cell) ∈ names->∃ c,(C5 n names).lookup x=some c
  | [],_,_,h=>by cases h
  | (y,k) :: r,n,x,h=>by
    unfold C5
    by_cases hk:(k == NameKind.cell)=true
    . rw[if_pos hk,List.lookup_append]
      rcases List.mem_cons.mp h with h|h
      . obtain⟨rfl,rfl⟩:=Prod.mk.inj h
        cases q:(C5 (n + 1) r).lookup x with
        | some d=>exact⟨d,rfl⟩
        | none=>exact⟨n,by simp[List.lookup_cons]⟩
      . obtain⟨c,hc⟩:=GU r (n + 1) x h
        exact⟨c,by rw[hc];rfl⟩
    . rw[if_neg hk]
      rcases List.mem_cons.mp h with h|h
      . cases h;simp at hk
      . exact GU r n x h
noncomputable def Tc(scope:Scope)(C:Addr)(env:Env):Env:=
  { scope:=relabel scope env,locals:=C,globals:=env.globals,cells:=cellsFrom (C + 1) scope.names (BH env.cells scope.names []),qual:=env.qual,func:=none,code:=env.code,frame:=env.frame,builtins:=env.builtins }
theorem Qg{M:Model}{A:Around}{E:Value->Shared->Prop}{s:Shared}{scope:Scope}{cl:List (Str × Addr)}{env:Env}{Q:Env->Shared->Prop}
    (hQ:∀ h',(∀ b o,s.heap.get? b=some o->h'.get? b=some o)->h'.Ns s.heap.objs.size (λ _=>none)->(∀ x c,(C5 (s.heap.objs.size + 1) scope.names).lookup x=some c->h'.IsCell c none/\s.heap.objs.size < c) ->
      ((C5 (s.heap.objs.size + 1) scope.names).Pairwise λ x y=>x.2 ≠ y.2) ->
      Q { scope:=scope,locals:=s.heap.objs.size,globals:=env.globals,cells:=cellsFrom (s.heap.objs.size + 1) scope.names cl,qual:=env.qual,func:=none,code:=env.code,frame:=env.frame,builtins:=env.builtins } { s with heap:=h' }) :
    wpAny M A (newFunctionEnv scope env.globals cl [] env.qual none .none (some env)) Q E s:=by
  simp only[newFunctionEnv,Option.isSome_some,if_true]
  refine wpAny_bind (wpAny_alloc ?_)
  refine wpAny_bind (wpAny_layCells _ (λ name kind cells=>by cases hkc:kind == NameKind.cell <;> simp[hkc]) _ _ _ _ ?_)
  have ok:=cellsFrom_ok scope.names (s.heap.push { cls:=.type "dict",data:=.dict #[] }) (s.heap.objs.size + 1) [] ⟨λ _ _ hm=>(nomatch hm),List.Pairwise.nil⟩ (by rw[Heap.size_push];exact Nat.le_refl _)
  rw[Heap.size_push,Bg,List.append_nil]at ok
  rw[show({ s with heap:=s.heap.push { cls:=.type "dict",data:=.dict #[] } }:Shared).heap.objs.size=s.heap.objs.size + 1 from Heap.size_push ..]
  refine wpAny_bind (wpAny_pure (wpAny_pure ?_))
  exact hQ _ (λ b o e=>pushCells_keeps _ _ b o (Heap.get?_push_of_some _ e)) ((Heap.Ns.new s.heap (.type "dict")).keeps (pushCells_keeps _ _)) (λ x c hc=>⟨(ok.empty x c (mem_of_lookup hc)).1,(ok.empty x c (mem_of_lookup hc)).2⟩) ok.apart
end L2
namespace L2
open PySem PySem.Spec PyProof.Rows
theorem ID:∀ {names:List (Str × NameKind)} {x:Str} {k k':NameKind},(names.map (·.1)).Nodup->(x,k) ∈ names->(x,k') ∈ names->k=k'
  | [],_,_,_,_,h,_=>by cases h
  | (y,q) :: r,x,k,k',nd,h,h'=>by
    have nd:(y :: r.map (·.1)).Nodup:=nd
    obtain⟨n1,n2⟩:=List.nodup_cons.mp nd
    have out:∀ {z:NameKind},(y,z) ∈ r->False:=λ m=>n1 (List.mem_map.mpr ⟨_,m,rfl⟩)
    rcases List.mem_cons.mp h with e|e <;> rcases List.mem_cons.mp h' with e'|e'
    . cases e;cases e';rfl
    . cases e;exact(out e').elim
    . cases e';exact(out e).elim
    . exact ID n2 e e'
theorem FV{env:Env}{x:Str}:∀ {names:List (Str × NameKind)},names.lookup x=some .free ->
    (names.map λ(n,k)=>if(k == NameKind.free && env.scope.kind == .function && env.kindOf n == some .cell)then(n,NameKind.cell)else(n,k)).lookup x=some .cell ∨
    (names.map λ(n,k)=>if(k == NameKind.free && env.scope.kind == .function && env.kindOf n == some .cell)then(n,NameKind.cell)else(n,k)).lookup x=some .free
  | [],h=>by simp at h
  | (n,k) :: r,h=>by
    have ih:=@FV env x r
    show List.lookup x ((if(k == NameKind.free && env.scope.kind == .function && env.kindOf n == some .cell)=true then(n,NameKind.cell)else(n,k)) :: _)=_ ∨ List.lookup x ((if(k == NameKind.free && env.scope.kind == .function && env.kindOf n == some .cell)=true then(n,NameKind.cell)else(n,k)) :: _)=_
    cases hx:x == n with
    | true=>
      simp only[List.lookup_cons,hx]at h
      cases h
      by_cases hc:(NameKind.free == NameKind.free && env.scope.kind == .function && env.kindOf n == some .cell)=true
      . rw[if_pos hc];exact .inl (by simp only[List.lookup_cons,hx])
      . rw[if_neg hc];exact .inr (by simp only[List.lookup_cons,hx])
    | false=>
      simp only[List.lookup_cons,hx]at h
      by_cases hc:(k == NameKind.free && env.scope.kind == .function && env.kindOf n == some .cell)=true
      . rw[if_pos hc];simp only[List.lookup_cons,hx];exact ih h
      . rw[if_neg hc];simp only[List.lookup_cons,hx];exact ih h
theorem Fe{env:Env}{x:Str}:∀ {names:List (Str × NameKind)},
    ((names.map λ(n,k)=>if(k == NameKind.free && env.scope.kind == .function && env.kindOf n == some .cell)then(n,NameKind.cell)else(n,k)).lookup x=some .cell ∨
    (names.map λ(n,k)=>if(k == NameKind.free && env.scope.kind == .function && env.kindOf n == some .cell)then(n,NameKind.cell)else(n,k)).lookup x=some .free) ->
    names.lookup x=some .cell ∨ names.lookup x=some .free
  | [],h=>by simp at h
  | (n,k) :: r,h=>by
    have ih:=@Fe env x r
    have h:List.lookup x ((if(k == NameKind.free && env.scope.kind == .function && env.kindOf n == some .cell)=true then(n,NameKind.cell)else(n,k)) :: _)=_ ∨ List.lookup x ((if(k == NameKind.free && env.scope.kind == .function && env.kindOf n == some .cell)=true then(n,NameKind.cell)else(n,k)) :: _)=_:=h
    cases hx:x == n with
    | true=>
      by_cases hc:(k == NameKind.free && env.scope.kind == .function && env.kindOf n == some .cell)=true
      . have hk:k=.free:=by
          have:=(Bool.and_eq_true _ _ ▸ (Bool.and_eq_true _ _ ▸ hc).1:(k == NameKind.free)=true/\_).1
          simpa using this
        exact .inr (by simp only[List.lookup_cons,hx,hk])
      . rw[if_neg hc]at h
        simp only[List.lookup_cons,hx]at h ⊢
        exact h
    | false=>
      simp only[List.lookup_cons,hx]
      refine ih ?_
      by_cases hc:(k == NameKind.free && env.scope.kind == .function && env.kindOf n == some .cell)=true
      . rw[if_pos hc]at h;simp only[List.lookup_cons,hx]at h;exact h
      . rw[if_neg hc]at h;simp only[List.lookup_cons,hx]at h;exact h
noncomputable def cCx(X:Cx)(N':List Str)(scope:Scope)(s:Shared)(H:Hp)(ex:List Addr):Cx:=
  { X with N:=N',s₀:=s,H₀:=H,env:=Tc scope s.heap.objs.size X.env,outer:=X.stack,ex:=ex,fn:=λ x=>decide ((x,NameKind.cell) ∈ scope.names),pn:=[],xe:=λ _ _=>False }
structure CSc(X:Cx)(scope:Scope)(fr:List Str)(ix:List Nat):Prop where
  kind:scope.kind=.function
  nd:(scope.names.map (·.1)).Nodup
  free:(scope.names.all λ y=>y.2 != .free || X.env.kindOf y.1 == some .cell || X.env.kindOf y.1 == some .free)=true
  frs:(fr.all λ x=>scope.names.lookup x == some .free)=true
  ixs:fr.map some=ix.map λ i=>X.N[i]?
  loc:(scope.names.all λ y=>y.2 != .local || scope.names.lookup y.1 == some .local)=true
noncomputable def Gc(n:Nat)(ix:List Nat)(σ:St):St:=List.replicate n none ++ ix.map λ i=>(σ[i]?).join
section
variable{X:Cx}{scope:Scope}{fr loc:List Str}{ix:List Nat}{pins:List (Addr × Obj)}{σ:St}{H:Hp}{s:Shared}
theorem CSc.outer(S:CSc X scope fr ix){y:Str × NameKind}(hy:y ∈ scope.names)(e:y.2=.free):X.env.kindOf y.1=some .cell ∨ X.env.kindOf y.1=some .free:=by
  have h:=List.all_eq_true.mp S.free y hy
  rw[e]at h
  simpa using h
theorem CSc.clos(S:CSc X scope fr ix)(ok:X.Ok):∀ y ∈ scope.names,y.2=.free->∃ c,X.env.cells.lookup y.1=some c:=λ y hy e=>ok.has y.1 (S.outer hy e)
theorem CW(S:CSc X scope fr ix)(ok:X.Ok){n:Nat}{x:Str}{c:Addr}(e:(cellsFrom n scope.names (BH X.env.cells scope.names [])).lookup x=some c) :
    (C5 n scope.names).lookup x=some c ∨ X.env.cells.lookup x=some c:=by
  rw[Bg,List.lookup_append]at e
  cases q:(C5 n scope.names).lookup x with
  | some d=>rw[q]at e;exact .inl e
  | none=>
    rw[q]at e
    exact .inr (Ds (S.clos ok) (λ _ _ z=>by simp at z) x c e)
theorem OG(S:CSc X scope fr ix)(I:Inv X pins σ H s){ex:List Addr}(hex:∀ b ∈ ex,EH X pins H b){h':Heap}(hk:∀ b o,s.heap.get? b=some o->h'.get? b=some o)(hn:h'.Ns s.heap.objs.size λ _=>none)
    (ho:∀ x c,(C5 (s.heap.objs.size + 1) scope.names).lookup x=some c->h'.IsCell c none/\s.heap.objs.size < c) (ha:(C5 (s.heap.objs.size + 1) scope.names).Pairwise λ x y=>x.2 ≠ y.2) (hlt:∀ b ∈ ex,b < s.heap.objs.size) :
    Inv (cCx X (loc ++ fr) scope s H ex) [] (Gc loc.length ix σ) H { s with heap:=h' }:=by
  have old:∀ x c,X.env.cells.lookup x=some c->c < s.heap.objs.size:=λ x c e=>let ⟨v,z⟩:=I.cell x c e;z.lt
  have lenix:fr.length=ix.length:=by simpa using congrArg List.length S.ixs
  refine⟨⟨I.ok.mod,?_,I.ok.glob,I.ok.blt,Nat.le_refl _,?_,?_,?_,I.ok.hd,I.ok.frames,.inl rfl,?_,I.bs,Nat.le_trans I.ok.bsz I.sz,?_,?_,I.stack,I.stkFree⟩,rfl,I.bare,Un.kept hk,⟨_,hn,?_⟩,?_,I.hok.fresh (Nat.le_refl _),?_,?_,I.hok.kept hk,?_⟩
  . exact S.kind
  . intro x y c e1 e2
    rcases CW S I.ok e1 with a|a <;> rcases CW S I.ok e2 with b|b
    . exact name_of_addr ha (PySem.mem_of_lookup a) (PySem.mem_of_lookup b)
    . exact absurd (Nat.lt_trans (ho x c a).2 (old y c b)) (Nat.lt_irrefl _)
    . exact absurd (Nat.lt_trans (ho y c b).2 (old x c a)) (Nat.lt_irrefl _)
    . exact I.ok.inj x y c a b
  . intro x hx
    rcases Fe hx with e|e
    . exact Option.isSome_iff_exists.mp (PySem.W.cellsFrom_some _ _ _ (.inl e))
    . exact Option.isSome_iff_exists.mp (PySem.W.cellsFrom_some _ _ _ (.inr (Dt (.inr (PySem.mem_of_lookup e)))))
  . intro x c hf e
    have hf:(x,NameKind.cell) ∈ scope.names:=of_decide_eq_true hf
    obtain⟨d,hd⟩:=GU scope.names (s.heap.objs.size + 1) x hf
    have e':(cellsFrom (s.heap.objs.size + 1) scope.names (BH X.env.cells scope.names [])).lookup x=some c:=e
    rw[Bg,List.lookup_append,hd]at e'
    cases e'
    exact Nat.le_of_lt (ho x _ hd).2
  . intro b hb
    refine⟨Nat.ne_of_lt (hlt b hb),λ x c e z=>?_⟩
    rcases CW S I.ok e with a|a
    . exact absurd (Nat.lt_trans (ho x c a).2 (by rw[z];exact hlt b hb)) (Nat.lt_irrefl _)
    . exact(hex b hb).2.2.2.2.1 x c a z
  . intro b o e hb
    rcases(hex b hb).2.2.2.1 with z|z
    . exact I.ok.noex b o e z
    . exact absurd (Nat.lt_of_lt_of_le (Heap.lt_size (I.ok.bs b o e).1) z) (Nat.lt_irrefl _)
  . intro b hb hf
    rcases List.mem_cons.mp (I.stkSub b hf)with z|z
    . exact(hex b hb).2.1 z
    . exact(hex b hb).2.2.1 z
  . intro i x v e1 e2 e3
    have e1:(loc ++ fr)[i]? = some x:=e1
    unfold Gc at e2
    by_cases hi:i < loc.length
    . rw[List.getElem?_append_left (by simpa using hi),List.getElem?_replicate]at e2
      split at e2 <;> cases e2
    . have hi':loc.length <= i:=Nat.not_lt.mp hi
      rw[List.getElem?_append_right (by simpa using hi')]at e2
      rw[List.getElem?_append_right hi']at e1
      rw[List.length_replicate,List.getElem?_map]at e2
      generalize hj:i - loc.length=j at e1 e2
      have e4:(fr.map some)[j]? = some (some x):=by rw[List.getElem?_map,e1];rfl
      rw[S.ixs,List.getElem?_map]at e4
      cases q:ix[j]? with
      | none=>rw[q]at e2;cases e2
      | some k=>
        rw[q]at e2 e4
        have e2:(σ[k]?).join=some v:=Option.some.inj e2
        have e4:X.N[k]? = some x:=Option.some.inj e4
        have e5:σ[k]? = some (some v):=by
          cases w:σ[k]? with
          | none=>rw[w]at e2;cases e2
          | some z=>rw[w]at e2;simpa using e2
        have hfx:=List.all_eq_true.mp S.frs x (List.mem_of_getElem? e1)
        have hfx:scope.names.lookup x=some .free:=by simpa using hfx
        have hmem:=PySem.mem_of_lookup hfx
        have hout:=S.outer hmem rfl
        obtain⟨m,hm,hl⟩:=I.loc
        obtain⟨u,r,l⟩:=hl k x v e4 e5 (.inr hout)
        refine⟨u,r,.inr ⟨FV hfx,?_⟩⟩
        rcases l with⟨kk,_⟩|⟨kk,c,ec,z⟩
        . rcases hout with w|w
          . rw[kk]at w;cases w
          . rw[kk]at w;cases w
        . have own0:(C5 (s.heap.objs.size + 1) scope.names).lookup x=none:=by
            cases w:(C5 (s.heap.objs.size + 1) scope.names).lookup x with
            | none=>rfl
            | some d=>exact absurd (ID S.nd (GT _ _ _ _ w) hmem) (by decide)
          have hc:(BH X.env.cells scope.names []).lookup x=some c:=by
            obtain⟨d,hd⟩:=Option.isSome_iff_exists.mp (Dt (cells:=X.env.cells) (acc:=[]) (.inr hmem))
            have:=Ds (S.clos I.ok) (λ _ _ z=>by simp at z) x d hd
            rw[ec]at this;cases this
            exact hd
          refine⟨c,?_,z.keeps hk⟩
          show(cellsFrom (s.heap.objs.size + 1) scope.names (BH X.env.cells scope.names [])).lookup x=some c
          rw[Bg,List.lookup_append,own0,hc]
          rfl
  . intro x c e
    rcases CW S I.ok e with a|a
    . exact⟨_,(ho x c a).1⟩
    . obtain⟨v,z⟩:=I.cell x c a
      exact⟨v,z.keeps hk⟩
  . intro x c e
    rcases CW S I.ok e with a|a
    . exact I.hok.fresh (Nat.le_of_lt (ho x c a).2)
    . exact I.freeC x c a
  . intro p hp
    cases hp
  . unfold Gc
    show _=(loc ++ fr).length
    simp[lenix]
end
end L2
namespace L2
open PySem PySem.Spec PyProof.Rows
section
variable{prog:Program}{w:World}{A:Around}{R:Result->Shared->Prop}{s:Shared}
theorem Jp{elt target iter:Expr}{ifs:List Expr}{scope:Scope}{pos:Pos}{it acc:Value}{env:Env}(I:Nat->Shared->Prop)
    (turn:∀ n s,I n s->wpAny (model prog w) A (pyNext it) (λ r s₁=>match r with
      | none=>R (.ok .next) s₁
      | some v=>wpAny (model prog w) A (letOwnedTupleGo target it v) (λ _ s₁=>wpAny (model prog w) A (assign target env v) (λ _ s₂=>
          wpAny (model prog w) A (forIn ifs true λ c r=>if r=true then do let ok <- isTrue c env (eval c env);pure (ForInStep.yield ok)else pure (ForInStep.yield r)) (λ ok s₃=>
            if ok=true then wpAny (model prog w) A (eval elt env) (λ x s₄=>
              wpAny (model prog w) A (call (.builtin "list.append") [acc,x]) (λ _ s₅=>∃ m,m < n/\I m s₅) (λ _ _=>False) s₄) (λ _ _=>False) s₃
            else ∃ m,m < n/\I m s₃) (λ _ _=>False) s₂) (λ _ _=>False) s₁) (λ _ _=>False) s₁) (λ _ _=>False) s)
    (n:Nat) (h:I n s) :
    codeAny (model prog w) A (.compLoop (.ListComp elt [⟨target,iter,ifs,0⟩] scope pos) 0 it acc env) R s:=by
  refine codeAny_loop rfl I (λ n s hI=>?_) n h
  show wpAny _ A ((compTurn (.ListComp elt [⟨target,iter,ifs,0⟩] scope pos) 0 it acc env).onRaise (λ x=>do noteFrame x env;theTreesLotGoes x)) _ _ s
  refine wpAny_noted ?_
  rw[compTurn_list]
  refine wpAny_bind (wpAny_standAt (wpAny_bind (wpAny_mono (turn n s hI) (λ r s₁ h₁=>?_) λ _ _ h'=>h'.elim)))
  cases r with
  | none=>exact wpAny_pure h₁
  | some v=>
    refine wpAny_bind (wpAny_mono h₁ (λ _ s₁ h₁=>?_) λ _ _ h'=>h'.elim)
    refine wpAny_bind (wpAny_mono h₁ (λ _ s₂ h₂=>wpAny_bind (wpAny_mono h₂ (λ ok s₃ h₃=>?_) λ _ _ h'=>h'.elim)) λ _ _ h'=>h'.elim)
    cases ok with
    | false=>exact wpAny_pure ⟨rfl,h₃⟩
    | true=>
      exact wpAny_bind (wpAny_bind (wpAny_mono h₃ (λ x s₄ h₄=>wpAny_bind (wpAny_mono h₄ (λ _ s₅ h₅=>wpAny_pure (wpAny_pure ⟨rfl,h₅⟩)) λ _ _ h'=>h'.elim)) λ _ _ h'=>h'.elim))
end
noncomputable def PF(X:Cx)(ifs:List Expr)(t:TT):Prop:=
  ∀ (pins:List (Addr × Obj)) (s:Shared) (σ:St) (H:Hp) (Q:Bool->Hp->Prop),Inv X pins σ H s->t σ H Q ->
    wpAny (model X.prog X.w) X.A (forIn ifs true λ c r=>if r=true then do let ok <- isTrue c X.env (eval c X.env);pure (ForInStep.yield ok)else pure (ForInStep.yield r)) (TP X pins σ Q) X.xe s
noncomputable def NH:TT:=λ _ H Q=>Q true H
theorem Sf{X:Cx}:PF X [] NH:=λ pins s σ H Q I h=>wpAny_tests_nil ⟨H,I,h⟩
theorem Se{X:Cx}{c:Expr}{t:TT}(h:PT X c t):PF X [c] t:=λ pins s σ H Q I q=>wpAny_tests_one (h pins s σ H Q I q)
noncomputable def UW(J:It)(D:Addr)(σ0:St)(H0:Hp)(g:TG)(tf:TT)(te:TE)(Q:VK):Prop:=∃ W:Nat->Nat->St->List V->Hp->Prop,
  (∃ m,W 0 m σ0 [] (upd H0 D (.lst [])))/\∀ i m σ ys H,W i m σ ys H->H D=some (.lst ys) /\
    ((J.stop i H/\Q (.ref D) H) ∨ (J.go i H/\ys.length < sizeLine/\∃ N:St->List V->Hp->Prop,(∀ σ' ys' H',N σ' ys' H'->∃ m',m' < m/\W (i + 1) m' σ' ys' H') /\
      ∀ x H',J.yld i H x H'->g x σ H' λ σ2 H2=>tf σ2 H2 λ b H3=>
        if b=true then te σ2 H3 λ v H4=>H4 D=some (.lst ys)/\N σ2 (ys ++ [v]) (upd H4 D (.lst (ys ++ [v])))
        else N σ2 ys H3))
noncomputable def Ky(n:Nat)(ix:List Nat)(wi:TI)(g:TG)(tf:TT)(te:TE):TE:=λ σ H Q=>wi σ H λ J H1=>∀ D,H1 D=none->UW J D (Gc n ix σ) H1 g tf te Q
section
variable{X:Cx}
theorem Td{pins:List (Addr × Obj)}{σ:St}{H:Hp}{s:Shared}{D:Addr}{ys:List V}{x:V}{u:Value}{Q:Value->Shared->Prop}{E:Value->Shared->Prop}(I:Inv X pins σ H s)(hD:H D=some (.lst ys))(r:RelV x u)(hz:ys.length < sizeLine)
    (h:∀ v s',Inv X pins σ (upd H D (.lst (ys ++ [x]))) s'->Q v s'):wpAny (model X.prog X.w) X.A (call (.builtin "list.append") [.ref D,u]) Q E s:=by
  have I':=I.wish λ _ _=>False
  have q:=EO (X:=X.wish λ _ _=>False) pins s σ H (.ref D) [x] (.ref D) [u] (λ v H'=>H'=upd H D (.lst (ys ++ [x]))) I' rfl (.cons r .nil) ⟨D,ys,x,rfl,rfl,hD,hz,rfl⟩
  refine wpAny_mono q (λ v s' ⟨v',H',I2,_,e⟩=>?_) λ _ _ z=>False.elim z
  subst e
  exact h v s' I2.unwish
theorem QV{elt tg iter:Expr}{ifs:List Expr}{scope:Scope}{pos:Pos}{loc fr:List Str}{ix:List Nat}{wi:TI}{g:TG}{tf:TT}{te:TE}(hc:X.calm=true)(S:CSc X scope fr ix)(hi:PI X tg iter wi)
    (hg:∀ s H ex,PG (cCx X (loc ++ fr) scope s H ex) tg g) (hf:∀ s H ex,PF (cCx X (loc ++ fr) scope s H ex) ifs tf) (he:∀ s H ex,PE (cCx X (loc ++ fr) scope s H ex) elt te)
    (hs:∀ x,foldedSetIterable iter X.env x=pure x:=by intro _;rfl):PE X (.ListComp elt [⟨tg,iter,ifs,0⟩] scope pos) (Ky loc.length ix wi g tf te):=by
  intro pins s σ H Q I h
  rw[eval_ListComp]
  have hnames:∀ y ∈ scope.names,y.2=.local->scope.names.lookup y.1=some .local:=λ y hy e=>by
    have:=List.all_eq_true.mp S.loc y hy
    rw[e]at this
    simpa using this
  refine wpAny_comprehension_free (use:=none) rfl hs (IU (S.clos I.ok)) S.kind hnames (thn (hi pins s σ H _ I h) λ v s1 h1=>thn h1 λ itv s2 h2=>?_)
  obtain⟨it,fp,tn,J,H2,rfl,I2,T,st2,f2,hW⟩:=h2
  refine wpAny_newObj_type ?_
  have fresh2:H2 s2.heap.objs.size=none:=I2.hok.fresh (Nat.le_refl _)
  have I3:=I2.lnew (its:=[]) (ys:=[]) (t':=s2.toks) .nil (Nat.zero_le _)
  obtain⟨W,⟨m0,w0⟩,turn⟩:=hW s2.heap.objs.size fresh2
  have lt2:∀ b ∈ fp,b < s2.heap.objs.size:=λ b hb=>let ⟨o,e,_⟩:=T.obj 0 _ st2 b hb;Heap.lt_size e
  have f3:∀ b ∈ fp,EH X pins (upd H2 s2.heap.objs.size (.lst [])) b:=λ b hb=>⟨by rw[AF (Nat.ne_of_lt (lt2 b hb))];exact(f2 b hb).1,(f2 b hb).2⟩
  have lt3:∀ b ∈ fp,b < (s2.heap.push { cls:=.type "list",data:=.seq ([]:List Value).toArray }).objs.size:=λ b hb=>by rw[Heap.size_push];exact Nat.lt_succ_of_lt (lt2 b hb)
  generalize hs3:({ s2 with heap:=s2.heap.push { cls:=.type "list",data:=.seq ([]:List Value).toArray } }:Shared)=s3 at *
  have lt3:∀ b ∈ fp,b < s3.heap.objs.size:=by rw[<- hs3];exact lt3
  have st3:tn 0 s3.heap:=T.keep _ _ _ st2 λ b hb o e=>by rw[<- hs3];exact Heap.get?_push_of_some _ e
  refine Qg λ h' hk hn ho ha=>?_
  have I4:=OG (loc:=loc) S I3 f3 hk hn ho ha lt3
  have fpX:∀ {H':Hp},(∀ b ∈ fp,H' b=none)->∀ b ∈ fp,EH (cCx X (loc ++ fr) scope s3 (upd H2 s2.heap.objs.size (.lst [])) fp) [] H' b:=λ hn b hb=>
    ⟨hn b hb,(I4.ok.exf b hb).1,I4.ok.exfs b hb,.inl hb,(I4.ok.exf b hb).2,λ p hp=>by cases hp⟩
  have loop:codeAny (model X.prog X.w) X.A (.compLoop (.ListComp elt [⟨tg,iter,ifs,0⟩] scope pos) 0 (.ref it) (.ref s2.heap.objs.size) (Tc scope s3.heap.objs.size X.env))
      (compPost (model X.prog X.w) X.A X.xe none (EP X pins σ Q) (.ref s2.heap.objs.size) s3.heap.objs.size) { s3 with heap:=h' }:=by
    refine Jp (λ n s'=>∃ i σ' ys H',Inv (cCx X (loc ++ fr) scope s3 (upd H2 s2.heap.objs.size (.lst [])) fp) [] σ' H' s'/\tn i s'.heap/\(∀ b ∈ fp,H' b=none)/\W i n σ' ys H') ?_ m0
      ⟨0,_,[],_,I4,T.keep _ _ _ st3 λ b hb o e=>hk b o e,λ b hb=>(f3 b hb).1,w0⟩
    rintro n s5 ⟨i,σ5,ys,H5,I5,st5,fr5,w5⟩
    obtain⟨hD,w5⟩:=turn i n σ5 ys H5 w5
    rcases w5 with⟨stop,qn⟩|⟨go,hz,N,hN,step⟩
    . refine thn (T.done (cCx X (loc ++ fr) scope s3 (upd H2 s2.heap.objs.size (.lst [])) fp) rfl rfl rfl hc i [] s5 σ5 H5 _ I5 (fpX fr5) st5 stop) λ r s6 ⟨hr,I6⟩=>?_
      subst hr
      obtain⟨m,hm,_⟩:=I6.loc
      refine⟨m,hm,λ h'' hs=>?_⟩
      have neC:∀ b o,s3.heap.get? b=some o->b ≠ s3.heap.objs.size:=λ b o e=>Nat.ne_of_lt (Heap.lt_size e)
      have un:=I6.base
      refine⟨.ref s2.heap.objs.size,H5,I3.call' (s':={ s6 with heap:=h'' }) (ch:=fp) I6.os ⟨λ b o e n hb hx=>?_,λ b o e n hb hx=>?_,un.free,λ b o e hx=>?_,un.tups,un.frzs,un.tbls⟩ ?_ I6.bare ?_,rfl,qn⟩
      . exact(hs.2 b (neC b o e)).trans (un.keep b o e n hb hx)
      . obtain⟨sl,q⟩:=un.slot b o e n hb hx
        exact⟨sl,(hs.2 b (neC b o e)).trans q⟩
      . obtain⟨o',q⟩:=un.there b o e hx
        exact⟨o',(hs.2 b (neC b o e)).trans q⟩
      . intro b ob e
        have hfree:H5 s3.heap.objs.size=none:=I6.free
        refine(I6.hok b ob e).stay (λ c w' hc q=>(hs.2 c ?_).trans q) (λ _ q=>q) λ _ _ q=>q
        intro z
        rcases hc with hc|hc
        . rw[<- hc,z,hfree]at e;cases e
        . rw[z,hfree]at hc;cases hc
      . intro b hb
        obtain⟨_,a2,_,a4,a5,a6⟩:=f3 b hb
        exact⟨a4,a2,a5,a6⟩
    . refine thn (T.item (cCx X (loc ++ fr) scope s3 (upd H2 s2.heap.objs.size (.lst [])) fp) rfl rfl rfl hc i [] s5 σ5 H5 _ I5 (fpX fr5) st5 go) λ r s6 ⟨u,hr,h6⟩=>?_
      subst hr
      refine thn h6 λ _ s7 ⟨x,H7,I7,r7,y7,st7,fr7⟩=>?_
      have I7':=I7.pinned (fpX fr7) (T.obj _ _ st7)
      have keepI:∀ {σ8:St} {H8:Hp} {s8:Shared},Inv (cCx X (loc ++ fr) scope s3 (upd H2 s2.heap.objs.size (.lst [])) fp) ([] ++ Fg fp s7.heap) σ8 H8 s8->tn (i + 1) s8.heap/\∀ b ∈ fp,H8 b=none:=λ {σ8 H8 s8} I8=>by
        refine⟨T.keep _ _ _ st7 λ b hb o e=>(I8.pin (b,o) (List.mem_append_right _ (List.mem_append_right _ (Dp hb e)))).1,λ b hb=>?_⟩
        obtain⟨o,e,d⟩:=T.obj _ _ st7 b hb
        exact(I8.pin (b,o) (List.mem_append_right _ (List.mem_append_right _ (Dp hb e)))).2.1
      refine thn (hg s3 (upd H2 s2.heap.objs.size (.lst [])) fp _ s7 σ5 H7 x u _ I7' r7 (step x H7 y7)) λ _ s8 ⟨σ8,H8,I8,q8⟩=>?_
      refine thn (hf s3 (upd H2 s2.heap.objs.size (.lst [])) fp _ s8 σ8 H8 _ I8 q8) λ b s9 ⟨H9,I9,q9⟩=>?_
      cases b with
      | false=>
        rw[if_neg Bool.false_ne_true]at q9 ⊢
        obtain⟨m',hm,w9⟩:=hN _ _ _ q9
        exact⟨m',hm,i + 1,σ8,ys,H9,I9.unpinned,(keepI I9).1,(keepI I9).2,w9⟩
      | true=>
        rw[if_pos rfl]at q9 ⊢
        refine thn (he s3 (upd H2 s2.heap.objs.size (.lst [])) fp _ s9 σ8 H9 _ I9 q9) λ e10 s10 ⟨v10,H10,I10,r10,hD10,n10⟩=>?_
        obtain⟨m',hm,w10⟩:=hN _ _ _ n10
        refine Td (X:=cCx X (loc ++ fr) scope s3 (upd H2 s2.heap.objs.size (.lst [])) fp) I10 hD10 r10 hz λ _ s11 I11=>?_
        exact⟨m',hm,i + 1,σ8,_,_,I11.unpinned,(keepI I11).1,(keepI I11).2,w10⟩
  exact codeAny_compStart_list loop (T.self X.A 0 _ _ _ (T.keep _ _ _ st3 λ b hb o e=>hk b o e) loop)
end
end L2
namespace L2
open PySem PySem.Spec PyProof.Rows
section
variable{X:Cx}
end
end L2
namespace L2
open PySem PySem.Spec PyProof.Rows
mutual
noncomputable def Rep(K:PySem.W.Frag)(H:Hp):PyData->V->Prop
  | .none,v=>v=.non
  | .bool b,v=>v=.bl b
  | .int i,v=>v=.int i
  | .str x,v=>v=.str x
  | .list ds,v=>∃ a xs,v=.ref a/\SqL K H a xs/\C3 K H ds xs
  | .tuple ds,v=>∃ a xs,v=.ref a/\SqT K H a xs/\C3 K H ds xs
  | .dict _,_=>False
noncomputable def C3(K:PySem.W.Frag)(H:Hp):List PyData->List V->Prop
  | [],xs=>xs=[]
  | d :: ds,xs=>∃ x r,xs=x :: r/\Rep K H d x/\C3 K H ds r
end
section
variable{X:Cx}{pins:List (Addr × Obj)}{σ:St}{H:Hp}{s:Shared}
mutual
theorem Cg(I:Inv X pins σ H s):∀ (d:PyData) (v:V) (u:Value),Rep X.K H d v->RelV v u->∃ as,Reads s.heap u d as
  | .none,v,u,h,r=>by
    have h:v=.non:=by simpa only[Rep]using h
    subst h;cases r;exact⟨_,.none⟩
  | .bool b,v,u,h,r=>by
    have h:v=.bl b:=by simpa only[Rep]using h
    subst h;cases r;exact⟨_,.bool b⟩
  | .int i,v,u,h,r=>by
    have h:v=.int i:=by simpa only[Rep]using h
    subst h;obtain⟨t,rfl⟩:=r;exact⟨_,.int i t⟩
  | .str x,v,u,h,r=>by
    have h:v=.str x:=by simpa only[Rep]using h
    subst h;obtain⟨t,rfl⟩:=r;exact⟨_,.str x t⟩
  | .list ds,v,u,h,r=>by
    have h:∃ a xs,v=.ref a/\SqL X.K H a xs/\C3 X.K H ds xs:=by simpa only[Rep]using h
    obtain⟨a,xs,rfl,hq,ha⟩:=h
    cases r
    obtain⟨its,rv,⟨o,n,e,c,_,dd⟩,hz⟩:=I.list hq
    obtain⟨as,q⟩:=E4 I ds xs its ha rv
    exact⟨_,.list e c dd (by simpa using q)⟩
  | .tuple ds,v,u,h,r=>by
    have h:∃ a xs,v=.ref a/\SqT X.K H a xs/\C3 X.K H ds xs:=by simpa only[Rep]using h
    obtain⟨a,xs,rfl,hq,ha⟩:=h
    cases r
    obtain⟨its,rv,⟨o,e,c,n,dd⟩,hz⟩:=I.tuple hq
    obtain⟨as,q⟩:=E4 I ds xs its ha rv
    exact⟨_,.tuple e c dd (by simpa using q)⟩
  | .dict _,v,u,h,r=>by
    have h:False:=by simpa only[Rep]using h
    exact h.elim
theorem E4(I:Inv X pins σ H s):∀ (ds:List PyData) (xs:List V) (us:List Value),C3 X.K H ds xs->Vals xs us->∃ as,ReadsAll s.heap us ds as
  | [],xs,us,h,r=>by
    have h:xs=[]:=by simpa only[C3]using h
    subst h;cases r;exact⟨_,.nil⟩
  | d :: ds,xs,us,h,r=>by
    have h:∃ x r,xs=x :: r/\Rep X.K H d x/\C3 X.K H ds r:=by simpa only[C3]using h
    obtain⟨x,rr,rfl,h1,h2⟩:=h
    cases r with
    | cons r1 r2=>
      obtain⟨as,q1⟩:=Cg I d _ _ h1 r1
      obtain⟨bs,q2⟩:=E4 I ds _ _ h2 r2
      exact⟨_,.cons q1 q2⟩
end
end
structure Grow(H H':Hp):Prop where
  tup:∀ b xs,H b=some (.tup xs)->H' b=some (.tup xs)
  frz:∀ b o u,H b=some (.frz o u)->H' b=some (.frz o u)
theorem Grow.refl{H:Hp}:Grow H H:=⟨λ _ _ h=>h,λ _ _ _ h=>h⟩
noncomputable def Chg(H:Hp)(p:Addr):Prop:=(∀ xs,H p ≠ some (.tup xs))/\∀ o u,H p ≠ some (.frz o u)
theorem Grow.put{H H':Hp}{p:Addr}{o:HO}(a:Grow H H')(h:Chg H' p):Grow H (upd H' p o):=⟨λ c xs e=>by
  have q:=a.tup c xs e
  have n:c ≠ p:=λ z=>h.1 xs (by rw[<- z];exact q)
  rw[AF n];exact q,λ c z u e=>by
  have q:=a.frz c z u e
  have n:c ≠ p:=λ w=>h.2 z u (by rw[<- w];exact q)
  rw[AF n];exact q⟩
theorem Chg.lst{H:Hp}{p:Addr}{xs:List V}(h:H p=some (.lst xs)):Chg H p:=⟨(λ _ e=>by rw[h]at e;cases e),(λ _ _ e=>by rw[h]at e;cases e)⟩
theorem Grow.sq{K:PySem.W.Frag}{H H':Hp}{a:Addr}{xs:List V}(g:Grow H H')(h:SqT K H a xs):SqT K H' a xs:=by
  rcases h with(h|⟨o,h⟩)|h
  . exact .inl (.inl (g.tup _ _ h))
  . exact .inl (.inr ⟨o,g.frz _ _ _ h⟩)
  . exact .inr h
section
variable{X:Cx}
noncomputable def LH(K:PySem.W.Frag):List V->Hp->VK->Prop:=λ xs H Q=>∃ x d,xs=[x]/\Rep K H d x/\d.showable=true/\d.hasDict=false/\isDisplay d=true/\d.depth <= 30/\d.shown.length <= sizeLine/\Q (.str d.shown) H
theorem Lg(hg:X.A.guards=some [])(hu:X.A.units + 64 < cLine):CallR X (.builtin "repr") (LH X.K):=by
  intro pins s σ H xs us Q I r h
  obtain⟨x,d,rfl,hr,hs,hd,hi,hdep,hsz,q⟩:=h
  obtain⟨u,rfl,ru⟩:=CG r
  obtain⟨as,hR⟩:=Cg I d x u hr ru
  obtain⟨a,rfl⟩:=isRef_of_reads hR hi
  exact repr_of_reads' hR hs (PyData.noDict_hsm hd) hg (by omega) (λ _ _ e=>e) (λ h' u tk hk=>⟨.str d.shown,H,I.kept hk,⟨_,rfl⟩,q⟩) hsz
noncomputable def Ni(K:PySem.W.Frag):R2:=λ x y H Q=>∃ d e,Rep K H d x/\Rep K H e y/\d.canLay0=true/\e.canLay0=true/\min d.depth e.depth <= 60/\Q (.bl (!PyData.eqv d e)) H
noncomputable def Nm(K:PySem.W.Frag):R2:=λ x y H Q=>∃ d e,Rep K H d x/\Rep K H e y/\d.canLay0=true/\e.canLay0=true/\min d.depth e.depth <= 60/\Q (.bl (PyData.eqv d e)) H
theorem Sr(hu:X.A.units + 64 < cLine):OpR X (compareOp .NotEq) (Ni X.K):=by
  intro pins s σ H x y v u Q I rx ry h
  obtain⟨d,e,h1,h2,c1,c2,hm,q⟩:=h
  obtain⟨as,q1⟩:=Cg I d x v h1 rx
  obtain⟨bs,q2⟩:=Cg I e y u h2 ry
  exact PySem.SeqAt.compareNe_reads q1 q2 c1 c2 (by omega) ⟨.bl _,H,I,rfl,q⟩
theorem Su(hu:X.A.units + 64 < cLine):OpR X (compareOp .Eq) (Nm X.K):=by
  intro pins s σ H x y v u Q I rx ry h
  obtain⟨d,e,h1,h2,c1,c2,hm,q⟩:=h
  obtain⟨as,q1⟩:=Cg I d x v h1 rx
  obtain⟨bs,q2⟩:=Cg I e y u h2 ry
  exact PySem.SeqAt.compareEq_reads q1 q2 c1 c2 (by omega) ⟨.bl _,H,I,rfl,q⟩
theorem Hr:∀ {ns:List Int} {us:List Value},Vals (ns.map V.int) us->IntsAre us ns
  | [],_,.nil=>.nil
  | n :: ns,_,.cons r t=>by obtain⟨k,rfl⟩:=r;exact .cons _ _ (Hr t)
theorem N5(hc:X.calm=true):CallR X (.builtin "sum") (λ xs H Q=>∃ (a:Addr) (ns:List Int),xs=[.ref a]/\SqL X.K H a (ns.map V.int)/\Q (.int ns.sum) H):=by
  intro pins s σ H xs us Q I r h
  obtain⟨a,ns,rfl,hq,q⟩:=h
  obtain⟨u,rfl,ru⟩:=CG r
  cases ru
  obtain⟨its,rv,p,hz⟩:=I.list hq
  have hi:=Hr rv
  obtain⟨xs,hx⟩:=hi.allInts.items
  have hl':s.heap.IsList a (intItems xs):=hx ▸ p.isList
  refine sum_intListG (I.ok.hd hc) hl' λ h' tk t' hk=>?_
  have e1:ns=xs.toList.map (·.1):=by
    rw[<- nums_intItems,<- hx]
    exact(show numsOf its.toArray.toList=ns from hi.numsOf).symm
  have e2:preSum (numAt xs) xs.size=ns.sum:=by
    rw[preSum_eq,List.take_of_length_le (by simp),e1]
  rw[e2]
  exact⟨.int ns.sum,H,I.kept hk,⟨_,rfl⟩,q⟩
end
end L2
namespace L2
open PySem PySem.Spec PyProof.Rows
section
variable(K:PySem.W.Frag){X:Cx}
theorem Jg(hK:X.K=K:=by rfl):IxR X (Nk K):=by subst hK;exact Qo
theorem KS(hK:X.K=K:=by rfl):IxR X (Nj K):=by subst hK;exact T7
theorem NR(hK:X.K=K:=by rfl):SlR X (LF K):=by subst hK;exact PP
theorem PN(hK:X.K=K:=by rfl):SlR X (LD K):=by subst hK;exact Rj
theorem Ss(hK:X.K=K:=by rfl):OpR X (compareOp .In) (rIn K false):=by subst hK;exact MY
theorem Dx(hu:X.A.units + 64 < cLine)(hK:X.K=K:=by rfl):OpR X (compareOp .Eq) (Nm K):=by subst hK;exact Su hu
theorem Em(hu:X.A.units + 64 < cLine)(hK:X.K=K:=by rfl):OpR X (compareOp .NotEq) (Ni K):=by subst hK;exact Sr hu
theorem AW(hK:X.K=K:=by rfl):OpR X (binaryOp .Add) (LI K):=by subst hK;exact Qc
noncomputable def SI:List V->Hp->VK->Prop:=λ xs H Q=>∃ p ys,xs=[.ref p]/\(SqL K H p ys ∨ SqT K H p ys)/\Q (.int ys.length) H
theorem CD(hK:X.K=K:=by rfl):CallR X (.builtin "len") (SI K):=by subst hK;exact Jt
noncomputable def Hf:List V->Hp->VK->Prop:=λ xs H Q=>∃ p ys,xs=[.ref p]/\(SqL K H p ys ∨ SqT K H p ys)/\∀ l,H l=none->Q (.ref l) (upd H l (.lst ys))
theorem Lh(hK:X.K=K:=by rfl):CallR X (.type "list") (Hf K):=by subst hK;exact Js
noncomputable def JF:List V->Hp->VK->Prop:=λ xs H Q=>∃ p ys,xs=[.ref p]/\((SqL K H p ys/\∀ l,H l=none->Q (.ref l) (upd H l (.tup ys))) ∨ (SqT K H p ys/\Q (.ref p) H))
theorem DO(hK:X.K=K:=by rfl):CallR X (.type "tuple") (JF K):=by subst hK;exact IV
theorem GO(hg:X.A.guards=some [])(hu:X.A.units + 64 < cLine)(hK:X.K=K:=by rfl):CallR X (.builtin "repr") (LH K):=by subst hK;exact Lg hg hu
noncomputable def On:List V->Hp->VK->Prop:=λ xs H Q=>∃ (a:Addr) (ns:List Int),xs=[.ref a]/\SqL K H a (ns.map V.int)/\Q (.int ns.sum) H
theorem IL(hc:X.calm=true)(hK:X.K=K:=by rfl):CallR X (.builtin "sum") (On K):=by subst hK;exact N5 hc
theorem JS{tg l:Expr}{tl:TE}(hl:PE X l tl)(hK:X.K=K:=by rfl):PI X tg l (GG K tl):=by subst hK;exact QJ hl
theorem QH{tg l:Expr}{tl:TE}(hl:PE X l tl)(hK:X.K=K:=by rfl):PI X tg l (LW K tl):=by subst hK;exact Sb hl
theorem QM{pos:Pos}{es:List Expr}{k:Nat}{t:TGs}{n:Nat}(hc:X.calm=true)(h:PGs X es t)(hK:X.K=K:=by rfl)
    (hn:(assignEach es X.env).length=n:=by rfl) (hst:(assignEach es X.env).findIdx? (·.1)=none:=by rfl):PG X (.Tuple es k pos) (La K n t):=by
  subst hK
  exact Sc hc h hn hst
end
section
variable(K:PySem.W.Frag){X:Cx}
end
end L2
namespace L2
open PySem PySem.Spec PyProof.Rows
section
variable(K:PySem.W.Frag){X:Cx}
theorem Fx:∀ {bs:List Bool} {us:List Value} {i:Nat} {v:Value},Vals (bs.map V.bl) us->us[i]? = some v->∃ b,bs[i]? = some b/\v=.bool b
  | [],_,_,_,.nil,e=>by simp at e
  | b :: bs,_,0,_,.cons r _,e=>by simp at e;subst e;exact⟨b,rfl,r⟩
  | b :: bs,_,i + 1,_,.cons _ t,e=>by
    obtain⟨c,h1,h2⟩:=Fx (i:=i) t (by simpa using e)
    exact⟨c,by simpa using h1,h2⟩
noncomputable def SK:List V->Hp->VK->Prop:=λ xs H Q=>∃ (a:Addr) (bs:List Bool),xs=[.ref a]/\SqL K H a (bs.map V.bl)/\Q (.bl (bs.all id)) H
noncomputable def SJ:List V->Hp->VK->Prop:=λ xs H Q=>∃ (a:Addr) (bs:List Bool),xs=[.ref a]/\SqL K H a (bs.map V.bl)/\Q (.bl (bs.any id)) H
theorem NA(hc:X.calm=true)(hK:X.K=K:=by rfl):CallR X (.builtin "all") (SK K):=by
  subst hK
  intro pins s σ H xs us Q I r h
  obtain⟨a,bs,rfl,hq,q⟩:=h
  obtain⟨u,rfl,ru⟩:=CG r
  cases ru
  obtain⟨its,rv,p,hz⟩:=I.list hq
  have hl:=p.isList
  have hlen:=rv.length
  have hlt:a < s.heap.objs.size:=by obtain⟨_,e,_⟩:=hl;exact Heap.lt_size e
  refine call_all_walk (wpAny_pyIter_list hl ?_)
  refine⟨s.heap.objs.size,[s.heap.objs.size,a],[s.heap.objs.size],its.toArray.size,_,_,λ i=>(bs[i]?).getD true,rfl,Walks.list (A:=X.A.in1) (I.ok.hd hc) _ a (Nat.ne_of_lt hlt) its.toArray,
    ⟨⟨_,Heap.get?_push_size _ rfl,rfl,rfl⟩,hl.push _⟩,λ i v s' Q' E' hP hQ=>?_,λ h' tk hk=>?_⟩
  . obtain⟨b,e,rfl⟩:=Fx rv (by simpa using hP)
    simp only[e,Option.getD_some]at hQ
    exact wpAny_truthy_bool hQ
  . have e:((List.range its.toArray.size).all λ i=>(bs[i]?).getD true)=bs.all id:=by
      rw[List.size_toArray,<- hlen,List.length_map];exact LSm.range_all bs
    rw[e]
    exact⟨.bl _,H,I.kept (LSm.kept_iter hk),rfl,q⟩
theorem IM(hc:X.calm=true)(hK:X.K=K:=by rfl):CallR X (.builtin "any") (SJ K):=by
  subst hK
  intro pins s σ H xs us Q I r h
  obtain⟨a,bs,rfl,hq,q⟩:=h
  obtain⟨u,rfl,ru⟩:=CG r
  cases ru
  obtain⟨its,rv,p,hz⟩:=I.list hq
  have hl:=p.isList
  have hlen:=rv.length
  have hlt:a < s.heap.objs.size:=by obtain⟨_,e,_⟩:=hl;exact Heap.lt_size e
  refine call_any_walk (wpAny_pyIter_list hl ?_)
  refine⟨s.heap.objs.size,[s.heap.objs.size,a],[s.heap.objs.size],its.toArray.size,_,_,λ i=>(bs[i]?).getD false,rfl,Walks.list (A:=X.A.in1) (I.ok.hd hc) _ a (Nat.ne_of_lt hlt) its.toArray,
    ⟨⟨_,Heap.get?_push_size _ rfl,rfl,rfl⟩,hl.push _⟩,λ i v s' Q' E' hP hQ=>?_,λ h' tk hk=>?_⟩
  . obtain⟨b,e,rfl⟩:=Fx rv (by simpa using hP)
    simp only[e,Option.getD_some]at hQ
    exact wpAny_truthy_bool hQ
  . have e:((List.range its.toArray.size).any λ i=>(bs[i]?).getD false)=bs.any id:=by
      rw[List.size_toArray,<- hlen,List.length_map];exact LSm.range_any bs
    rw[e]
    exact⟨.bl _,H,I.kept (LSm.kept_iter hk),rfl,q⟩
end
end L2
namespace L2
open PySem PySem.Spec PyProof.Rows
section
variable{prog:Program}{w:World}{A:Around}{E:Value->Shared->Prop}{s:Shared}{l:Addr}{xs:Array (Int × Tok)}
theorem IT{Q:Value->Shared->Prop}(hl:s.heap.IsTuple l (intItems xs))
    (h:∀ s₂:Shared,s₂={ s with heap:=s.heap.push { cls:=.type "tuple_iterator",data:=.fields #[.ref l,.int 0 0] } } ->
      (s₂.heap.IsTupleIter s.heap.objs.size l 0/\s₂.heap.IsTuple l (intItems xs))->(∀ b ∈ [s.heap.objs.size,l],b < s₂.heap.objs.size)->l ≠ s.heap.objs.size->Q (.ref s.heap.objs.size) s₂) :
    wpAny (model prog w) A (pyIter (.ref l)) Q E s:=by
  have hlt:l < s.heap.objs.size:=by obtain⟨_,e,_⟩:=hl;exact Heap.lt_size e
  refine wpAny_pyIter_tuple hl (h _ rfl ⟨⟨_,Heap.get?_push_size _ rfl,rfl,rfl⟩,hl.push _⟩ (λ b hb=>?_) (Nat.ne_of_lt hlt))
  show b < (s.heap.push _).objs.size
  rw[Heap.size_push]
  rcases List.mem_cons.mp hb with rfl|hb
  . exact Nat.lt_succ_self _
  . rcases List.mem_cons.mp hb with rfl|hb
    . exact Nat.lt_succ_of_lt hlt
    . cases hb
theorem MZ{h':Heap}{o:Obj}(hk:∀ b x,b ∉ [s.heap.objs.size]->(s.heap.push o).get? b=some x->h'.get? b=some x):∀ b x,s.heap.get? b=some x->h'.get? b=some x:=
  λ b x e=>hk b x (λ hm=>by rw[List.mem_singleton.mp hm]at e;exact Nat.lt_irrefl _ (Heap.lt_size e)) (Heap.get?_push_of_some _ e)
theorem J3{Q:Value->Shared->Prop}(hh:A.handled=none)(hl:s.heap.IsTuple l (intItems xs))
    (h:∀ h' tk t',(∀ b o,s.heap.get? b=some o->h'.get? b=some o)->Q (.int (preSum (numAt xs) xs.size) t') { s with heap:=h',toks:=tk }) :
    wpAny (model prog w) A (call (.builtin "sum") [.ref l]) Q E s:=by
  refine call_sum_walkG (IT hl λ s₂ e st hfp hlI=>?_)
  subst e
  refine⟨_,_,_,_,_,_,numAt xs,rfl,Walks.tuple (A:=A.in1) hh _ l hlI (intItems xs),st,hfp,(λ _ _=>intItems_at),λ h' tk t' hk=>?_⟩
  have:=h h' tk t' (MZ hk)
  simpa [intItems]using this
end
section
variable(K:PySem.W.Frag){X:Cx}
noncomputable def Om:List V->Hp->VK->Prop:=λ xs H Q=>∃ (a:Addr) (ns:List Int),xs=[.ref a]/\SqT K H a (ns.map V.int)/\Q (.int ns.sum) H
theorem HV(hc:X.calm=true)(hK:X.K=K:=by rfl):CallR X (.builtin "sum") (Om K):=by
  subst hK
  intro pins s σ H xs us Q I r h
  obtain⟨a,ns,rfl,hq,q⟩:=h
  obtain⟨u,rfl,ru⟩:=CG r
  cases ru
  obtain⟨its,rv,p,hz⟩:=I.tuple hq
  have hi:=Hr rv
  obtain⟨xs,hx⟩:=hi.allInts.items
  have hl':s.heap.IsTuple a (intItems xs):=hx ▸ (show s.heap.IsTuple a its.toArray from p)
  refine J3 (I.ok.hd hc) hl' λ h' tk t' hk=>?_
  have e1:ns=xs.toList.map (·.1):=by
    rw[<- nums_intItems,<- hx]
    exact(show numsOf its.toArray.toList=ns from hi.numsOf).symm
  have e2:preSum (numAt xs) xs.size=ns.sum:=by
    rw[preSum_eq,List.take_of_length_le (by simp),e1]
  rw[e2]
  exact⟨.int ns.sum,H,I.kept hk,⟨_,rfl⟩,q⟩
end
end L2
namespace L2
open PySem PySem.Spec PyProof.Rows
structure DefAt(K:PySem.W.Frag)(mg:Str->Option Value)(x:Str)(st:Stmt)(f:Addr)(fd:FuncData)(ps:List Str):Prop where
  fn:Fun K x x st f fd
  mg:mg x=some (.ref f)
  bd:Binds K fd ps []
theorem Ov{X:Cx}{j k:Nat}{f:Addr}{fd:FuncData}{ps:List Str}{sp:Sp}{x:Str}{st:Stmt}{e:Expr}{es:List Expr}{t:TA}{p pos:Pos}(F:FnOk X.prog X.w X.K X.mg X.base CX0 j f fd ps sp)(hr:Room k X.A)(D:DefAt X.K X.mg x st f fd ps)(ha:PA X (e :: es) t)
    (hjk:j <= k:=by decide) (hg:Gl X x:=by rfl) (hdb:(x == ("__debug__":Str))=false:=by decide) (he:starEach (e :: es) X.env=(false,eval e X.env) :: starEach es X.env:=by rfl) (hpl:(backTo pos (starEach es X.env)).any (·.1)=false:=by rfl) :
    PE X (.Call (.Name x p) (e :: es) [] pos) (EK sp [] E0 t):=
  QZ (F.mono hjk) hr hg D.mg D.fn.kp D.bd .nil U4 ha hdb he hpl
noncomputable def Kw(i j k:Nat)(ta:TA):TS:=λ D σ H=>ta σ H λ vs H1=>∃ v w z,vs=[v,w,z]/\D.nx (((σ.set k (some z)).set j (some w)).set i (some v)) H1
theorem Q8{X:Cx}{i j k:Nat}{x y z:Str}{a b c:Expr}{ta:TA}{px py pz pt pos:Pos}{kt k2 pt2}(hc:X.calm=true)(hN:X.N.Nodup)(hi:X.N[i]? = some x)(hj:X.N[j]? = some y)(hk:X.N[k]? = some z)
    (hx:X.env.scope.names.lookup x=some .local) (hy:X.env.scope.names.lookup y=some .local) (hz:X.env.scope.names.lookup z=some .local) (ha:PA X [a,b,c] ta)
    (hw:swappedStores [.Tuple [.Name x px,.Name y py,.Name z pz] kt pt] (.Tuple [a,b,c] k2 pt2) X.env=pure (some [x,y,z]))
    (hs:swapsWithSole [.Tuple [.Name x px,.Name y py,.Name z pz] kt pt] (.Tuple [a,b,c] k2 pt2) pos.line X.env=pure false:=by rfl) :
    PS X (.Assign [.Tuple [.Name x px,.Name y py,.Name z pz] kt pt] (.Tuple [a,b,c] k2 pt2) pos) (Kw i j k ta):=by
  intro pins s σ H D I h
  rw[exec_Assign_arm]
  refine wpAny_bind (wpAny_standAt ?_)
  rw[hs]
  refine wpAny_bind (wpAny_pure ?_)
  rw[if_neg (by decide)]
  refine wpAny_bind (Tuple_ (thn (ha _ pins s σ H _ I h) λ us s1 ⟨vs,H1,I1,r1,q1⟩=>?_))
  obtain⟨v,w,q,e1,q1⟩:=q1
  subst e1
  obtain⟨u1,u2,u3,rfl,rv,rw',rq⟩:∃ u1 u2 u3,us=[u1,u2,u3]/\RelV v u1/\RelV w u2/\RelV q u3:=by
    cases r1 with
    | cons p1 q1=>
      cases q1 with
      | cons p2 q2=>
        cases q2 with
        | cons p3 q3=>
          cases q3
          exact⟨_,_,_,rfl,p1,p2,p3⟩
  refine wpAny_newObj_type ?_ (by show 3 <= sizeLine;decide)
  have I2:Inv X pins σ H1 { s1 with heap:=s1.heap.push { cls:=.type "tuple",data:=.seq [u1,u2,u3].toArray } }:=I1.kept (t':=s1.toks) λ b o e=>Heap.get?_push_of_some _ e
  rw[hw]
  refine wpAny_bind (wpAny_pure ?_)
  show wpAny (model X.prog X.w) X.A (do rule "assign.swapped-stores";let items <- unpackItems (.ref s1.heap.objs.size) 3 none;assignInOrder [λ v=>bindName X.env z v,λ v=>bindName X.env y v,λ v=>bindName X.env x v] items.reverse;pure Flow.next) _ _ _
  refine wpAny_bind (wpAny_rule (wpAny_bind (unpackItems_tuple (items:=#[u1,u2,u3]) (I.ok.hd hc) (IsTup.new s1.heap _) λ h' hx'=>?_)))
  have I3:=I2.kept (h':=h') (t':=s1.toks) λ b o e=>hx' b o (Nat.ne_of_lt (Heap.lt_size e)) e
  show wpAny _ _ (assignInOrder [λ v=>bindName X.env z v,λ v=>bindName X.env y v,λ v=>bindName X.env x v] [u3,u2,u1] >>= λ _=>pure Flow.next) _ _ _
  refine wpAny_bind (assignInOrder_cons (wpAny_bindName (By I3 hN hk (.inl hz) rq (λ s2 I4=>?_) (.inr hz))))
  refine assignInOrder_cons (wpAny_bindName (By I4 hN hj (.inl hy) rw' (λ s3 I5=>?_) (.inr hy)))
  refine assignInOrder_cons (wpAny_bindName (By I5 hN hi (.inl hx) rv (λ s4 I6=>assignInOrder_nil (wpAny_pure ?_)) (.inr hx)))
  exact⟨_,H1,I6,q1⟩
theorem RO:bootBuiltins "list"=some (.type "list"):=by decide +kernel
theorem bt_tuple:bootBuiltins "tuple"=some (.type "tuple"):=by decide +kernel
theorem bt_int:bootBuiltins "int"=some (.type "int"):=by decide +kernel
theorem bt_len:bootBuiltins "len"=some (.builtin "len"):=by decide +kernel
theorem bt_repr:bootBuiltins "repr"=some (.builtin "repr"):=by decide +kernel
theorem bt_sum:bootBuiltins "sum"=some (.builtin "sum"):=by decide +kernel
theorem bt_min:bootBuiltins "min"=some (.builtin "min"):=by decide +kernel
theorem bt_abs:bootBuiltins "abs"=some (.builtin "abs"):=by decide +kernel
theorem bt_all:bootBuiltins "all"=some (.builtin "all"):=by decide +kernel
theorem bt_any:bootBuiltins "any"=some (.builtin "any"):=by decide +kernel
section
variable(c:Addr)(n l u v:Int)
end
mutual
theorem GN:∀ ns:List Int,PyData.canLayAll0 (ns.map PyData.int)=true
  | []=>by simp[PyData.canLayAll0]
  | n :: ns=>by simp[PyData.canLayAll0,PyData.canLay0,GN ns]
end
end L2
namespace L2
open PySem PySem.Spec PyProof.Rows PySem.W
section
variable{X:Cx}{scope:Scope}{fr:List Str}{ix:List Nat}{pins:List (Addr × Obj)}{σ:St}{H:Hp}{s:Shared}{p:Str}
end
end L2
namespace L2
open PySem PySem.Spec PyProof.Rows PySem.W
noncomputable def cdF(c:Addr)(q:Str):Heap->Prop:=λ h=>h.CodeRec (.ref c) q
noncomputable def UV(H:Hp)(q:Str)(pos:Pos)(ps:Array Value):Prop:=ps=#[] ∨ ∃ c,ps=#[rawInt pos.line,rawInt pos.col,.ref c]/\H c=some (.ext (cdF c q))
section
variable{X:Cx}{pins:List (Addr × Obj)}{σ:St}{H:Hp}{s:Shared}{c P:Addr}{scope:Scope}{fr:List Str}{ix:List Nat}
end
end L2
namespace L2
open PySem PySem.Spec PyProof.Rows
inductive I where
  | non|bl (b:Bool)|int (i:Int)|str (x:Str)|tup (ds:List I)
inductive D where
  | im (i:I)|mu (n:Nat)|tm (ds:List D)|ro (ns:List Int)
inductive MO where
  | lst (ds:List D)|dic (kvs:List (Key × D))
noncomputable abbrev Hd:=List MO
noncomputable abbrev Ls:=List (Option D)
noncomputable def RoL(K:PySem.W.Frag)(H:Hp)(a:Addr)(xs:List V):Prop:=(∃ o,H a=some (.frz o (.lst xs))) ∨
  ∃ (o:Obj) (its:Array Value) (n:Nat),K.lookup a=some o/\o.cls=.type "list"/\o.dict=none/\o.data=.seq its n/\its.size <= sizeLine/\Vals xs its.toList
theorem RoL.sq{K:PySem.W.Frag}{H:Hp}{a:Addr}{xs:List V}(h:RoL K H a xs):SqL K H a xs:=by
  rcases h with⟨o,h⟩|h
  . exact .inl (.inr ⟨o,h⟩)
  . exact .inr h
theorem RoL.grow{K:PySem.W.Frag}{H H':Hp}{a:Addr}{xs:List V}(g:Grow H H')(h:RoL K H a xs):RoL K H' a xs:=by
  rcases h with⟨o,h⟩|h
  . exact .inl ⟨o,g.frz _ _ _ h⟩
  . exact .inr h
noncomputable def Bv(n:Nat):Prop:=n <= sizeLine
noncomputable def ER(n:Nat):Prop:=n < sizeLine
noncomputable def CJ(i j:Int):Prop:=(-(2 ^ 64) < i/\i < 2 ^ 64) ∨ (-(2 ^ 64) < j/\j < 2 ^ 64)
noncomputable def LK(i j:Int):Prop:=0 <= j/\j <= 1000000/\i.natAbs < 2 ^ 64
noncomputable def GJ(j:Int):Prop:=0 < j/\j < 1073741824
noncomputable def BZ(j:Int):Prop:=0 < j
noncomputable def He(j:Int):Prop:=-(2 ^ 62) <= j/\j < 2 ^ 62
noncomputable def NX(i j:Int):Prop:=(-(2 ^ 62) <= i/\i < 2 ^ 62)/\-(2 ^ 62) <= j/\j < 2 ^ 62
noncomputable def Oj(j:Int):Prop:=j < 2 ^ 24/\-(2 ^ 62) <= j
noncomputable def Oi(i j:Int):Prop:=(-(2 ^ 62) <= i/\i < 2 ^ 62)/\(-(2 ^ 62) <= j/\j < 2 ^ 62)/\(j - i).toNat <= 2 ^ 24
theorem B2{n:Nat}(h:n <= 1000000):Bv n:=Nat.le_trans h (by rw[sizeLine_eq];decide)
theorem FO{n:Nat}(h:n < 1000000):ER n:=Nat.lt_of_lt_of_le h (by rw[sizeLine_eq];decide)
theorem C4{i j:Int}(a:-1000000000000 <= i)(b:i <= 1000000000000):CJ i j:=.inl ⟨by omega,by omega⟩
theorem G6{j:Int}(a:-1000000000000 <= j)(b:j <= 1000000000000):He j:=⟨by omega,by omega⟩
section
variable(K:PySem.W.Frag)
mutual
noncomputable def RI(H:Hp):I->V->Prop
  | .non,v=>v=.non
  | .bl b,v=>v=.bl b
  | .int i,v=>v=.int i
  | .str x,v=>v=.str x
  | .tup ds,v=>∃ a xs,v=.ref a/\SqT K H a xs/\RIs H ds xs
noncomputable def RIs(H:Hp):List I->List V->Prop
  | [],xs=>xs=[]
  | d :: ds,xs=>∃ x r,xs=x :: r/\RI H d x/\RIs H ds r
end
mutual
noncomputable def RD(ρ:List Addr)(H:Hp):D->V->Prop
  | .im i,v=>RI K H i v
  | .mu n,v=>∃ a,ρ[n]? = some a/\v=.ref a
  | .tm ds,v=>∃ a xs,v=.ref a/\SqT K H a xs/\RDs ρ H ds xs
  | .ro ns,v=>∃ a,v=.ref a/\RoL K H a (ns.map V.int)
noncomputable def RDs(ρ:List Addr)(H:Hp):List D->List V->Prop
  | [],xs=>xs=[]
  | d :: ds,xs=>∃ x r,xs=x :: r/\RD ρ H d x/\RDs ρ H ds r
end
noncomputable def RKs(ρ:List Addr)(H:Hp):List (Key × D)->List (Key × V)->Prop
  | [],xs=>xs=[]
  | d :: ds,xs=>∃ x r,xs=x :: r/\x.1=d.1/\RD K ρ H d.2 x.2/\RKs ρ H ds r
noncomputable def RC(ρ:List Addr)(H:Hp):MO->HO->Prop
  | .lst ds,o=>∃ xs,o=.lst xs/\RDs K ρ H ds xs
  | .dic kvs,o=>∃ kv,o=.dK kv/\RKs K ρ H kvs kv
noncomputable def IZ:List Value->List (Addr × Str × Pos)
  | .ref P :: .str q _ :: .int l _ :: .int c _ :: r=>(P,q,⟨l.toNat,c.toNat,0,0⟩) :: IZ r
  | _=>[]
noncomputable def Tm(o:Obj):List (Addr × Str × Pos):=match o.cls,o.data with
  | .str _ _,.fields vs=>IZ vs.toList
  | _,_=>[]
noncomputable def Fc(K:PySem.W.Frag):List (Addr × Str × Pos):=match K.getLast? with
  | some p=>Tm p.2
  | none=>[]
noncomputable def TabsOk(K:PySem.W.Frag)(H:Hp):Prop:=∀ x ∈ Fc K,∃ ps,H x.1=some (.tbl ps)/\UV H x.2.1 x.2.2 ps
structure RH(ρ:List Addr)(H:Hp)(hd:Hd):Prop where
  len:ρ.length=hd.length
  nd:ρ.Nodup
  tabs:TabsOk K H
  ob:∀ (n:Nat) (o:MO) (a:Addr),hd[n]? = some o->ρ[n]? = some a->∃ ho,H a=some ho/\RC K ρ H o ho
structure RL(ρ:List Addr)(H:Hp)(ls:Ls)(σ:St):Prop where
  len:ls.length=σ.length
  ob:∀ (i:Nat) (d:D),ls[i]? = some (some d)->∃ v,σ[i]? = some (some v)/\RD K ρ H d v
end
structure Ext(ρ:List Addr)(H:Hp)(ρ':List Addr)(H':Hp):Prop where
  pre:∃ r,ρ'=ρ ++ r/\∀ b ∈ r,H b=none
  keep:∀ b o,H b=some o->b ∉ ρ->(∀ ps,o ≠ .tbl ps)->H' b=some o
  tab:∀ b ps,H b=some (.tbl ps)->∃ ps',H' b=some (.tbl ps')
theorem nt{o:HO}(h:match o with | .tbl _=>False|_=>True:=by trivial):∀ ps,o ≠ .tbl ps:=λ ps e=>by subst e;exact h
theorem TabsOk.upd{K:PySem.W.Frag}{H:Hp}(t:TabsOk K H){a:Addr}{ho:HO}(h1:∀ ps,H a ≠ some (.tbl ps))(h2:∀ φ,H a ≠ some (.ext φ)):TabsOk K (upd H a ho):=λ x hx=>by
  obtain⟨ps,e,g⟩:=t x hx
  have ne:x.1 ≠ a:=λ z=>h1 ps (by rw[<- z];exact e)
  refine⟨ps,by rw[AF ne];exact e,?_⟩
  rcases g with g|⟨c,g1,g2⟩
  . exact .inl g
  . have nc:c ≠ a:=λ z=>h2 _ (by rw[<- z];exact g2)
    exact .inr ⟨c,g1,by rw[AF nc];exact g2⟩
section
variable{K:PySem.W.Frag}{ρ ρ' ρ1 ρ2:List Addr}{H H' H1 H2:Hp}{hd hd' hd1:Hd}
mutual
theorem RI.grow(g:Grow H H'):∀ {i:I} {v:V},RI K H i v->RI K H' i v
  | .non,v,h=>by simpa only[RI]using h
  | .bl b,v,h=>by simpa only[RI]using h
  | .int b,v,h=>by simpa only[RI]using h
  | .str b,v,h=>by simpa only[RI]using h
  | .tup ds,v,h=>by
    simp only[RI]at h ⊢
    obtain⟨a,xs,e,q,r⟩:=h
    exact⟨a,xs,e,g.sq q,RIs.grow g r⟩
theorem RIs.grow(g:Grow H H'):∀ {i:List I} {v:List V},RIs K H i v->RIs K H' i v
  | [],v,h=>by simpa only[RIs]using h
  | d :: ds,v,h=>by
    simp only[RIs]at h ⊢
    obtain⟨x,r,e,q,z⟩:=h
    exact⟨x,r,e,q.grow g,RIs.grow g z⟩
end
theorem RH.mut(h:RH K ρ H hd){a:Addr}(m:a ∈ ρ):(∃ xs,H a=some (.lst xs)) ∨ ∃ kv,H a=some (.dK kv):=by
  obtain⟨n,e⟩:=List.mem_iff_getElem?.mp m
  have hn:n < hd.length:=by rw[<- h.len];exact(List.getElem?_eq_some_iff.mp e).1
  obtain⟨ho,e1,e2⟩:=h.ob n hd[n] a (by simp[hn]) e
  cases q:hd[n]with
  | lst ds=>rw[q]at e2;obtain⟨xs,rfl,_⟩:=e2;exact .inl ⟨xs,e1⟩
  | dic ds=>rw[q]at e2;obtain⟨xs,rfl,_⟩:=e2;exact .inr ⟨xs,e1⟩
theorem RH.tup_out(h:RH K ρ H hd){a:Addr}{xs:List V}(e:H a=some (.tup xs)):a ∉ ρ:=λ m=>by
  rcases h.mut m with⟨y,z⟩|⟨y,z⟩ <;> (rw[e]at z;cases z)
theorem RH.frz_out(h:RH K ρ H hd){a:Addr}{o:Obj}{u:HO}(e:H a=some (.frz o u)):a ∉ ρ:=λ m=>by
  rcases h.mut m with⟨y,z⟩|⟨y,z⟩ <;> (rw[e]at z;cases z)
theorem Ext.grow(e:Ext ρ H ρ' H')(h:RH K ρ H hd):Grow H H':=⟨λ b xs q=>e.keep b _ q (h.tup_out q) nt,λ b o u q=>e.keep b _ q (h.frz_out q) nt⟩
theorem Ext.refl:Ext ρ H ρ H:=⟨⟨[],by simp,by simp⟩,λ _ _ h _ _=>h,λ _ ps h=>⟨ps,h⟩⟩
theorem Ext.trans(e:Ext ρ H ρ1 H1)(h0:RH K ρ1 H1 hd1)(e2:Ext ρ1 H1 ρ2 H2):Ext ρ H ρ2 H2:=by
  obtain⟨r1,rfl,f1⟩:=e.pre
  obtain⟨r2,rfl,f2⟩:=e2.pre
  refine⟨⟨r1 ++ r2,by simp,λ b m=>?_⟩,λ b o q n t=>?_,λ b ps q=>?_⟩
  . rcases List.mem_append.mp m with m|m
    . exact f1 b m
    . have z:=f2 b m
      cases q:H b with
      | none=>rfl
      | some o=>
        by_cases n:b ∈ ρ
        . rcases h0.mut (List.mem_append_left r1 n)with⟨y,w⟩|⟨y,w⟩ <;> (rw[z]at w;cases w)
        . by_cases t:∃ ps,o=.tbl ps
          . obtain⟨ps,rfl⟩:=t
            obtain⟨ps',this⟩:=e.tab b ps q
            rw[z]at this;cases this
          . have:=e.keep b o q n λ ps y=>t ⟨ps,y⟩
            rw[z]at this;cases this
  . refine e2.keep b o (e.keep b o q n t) (λ m=>?_) t
    rcases List.mem_append.mp m with m|m
    . exact n m
    . have:=f1 b m;rw[q]at this;cases this
  . obtain⟨ps',q'⟩:=e.tab b ps q
    exact e2.tab b ps' q'
mutual
theorem RD.mono(g:Grow H H')(r:List Addr):∀ {d:D} {v:V},RD K ρ H d v->RD K (ρ ++ r) H' d v
  | .im i,v,h=>by simp only[RD]at h ⊢;exact h.grow g
  | .mu n,v,h=>by
    simp only[RD]at h ⊢
    obtain⟨a,e,q⟩:=h
    exact⟨a,by rw[List.getElem?_append_left (List.getElem?_eq_some_iff.mp e).1];exact e,q⟩
  | .tm ds,v,h=>by
    simp only[RD]at h ⊢
    obtain⟨a,xs,e,q,z⟩:=h
    exact⟨a,xs,e,g.sq q,RDs.mono g r z⟩
  | .ro ns,v,h=>by
    simp only[RD]at h ⊢
    obtain⟨a,e,q⟩:=h
    exact⟨a,e,q.grow g⟩
theorem RDs.mono(g:Grow H H')(r:List Addr):∀ {d:List D} {v:List V},RDs K ρ H d v->RDs K (ρ ++ r) H' d v
  | [],v,h=>by simpa only[RDs]using h
  | d :: ds,v,h=>by
    simp only[RDs]at h ⊢
    obtain⟨x,r',e,q,z⟩:=h
    exact⟨x,r',e,q.mono g r,RDs.mono g r z⟩
end
theorem RKs.mono(g:Grow H H')(r:List Addr):∀ {d:List (Key × D)} {v:List (Key × V)},RKs K ρ H d v->RKs K (ρ ++ r) H' d v
  | [],v,h=>by simpa only[RKs]using h
  | d :: ds,v,h=>by
    simp only[RKs]at h ⊢
    obtain⟨x,r',e,q1,q,z⟩:=h
    exact⟨x,r',e,q1,q.mono g r,RKs.mono g r z⟩
theorem RC.mono(g:Grow H H')(r:List Addr){o:MO}{ho:HO}(h:RC K ρ H o ho):RC K (ρ ++ r) H' o ho:=by
  cases o with
  | lst ds=>obtain⟨xs,e,q⟩:=h;exact⟨xs,e,q.mono g r⟩
  | dic ds=>obtain⟨xs,e,q⟩:=h;exact⟨xs,e,q.mono g r⟩
theorem RD.ext(h:RH K ρ H hd)(e:Ext ρ H ρ' H'){d:D}{v:V}(q:RD K ρ H d v):RD K ρ' H' d v:=by
  obtain⟨r,rfl,_⟩:=e.pre
  exact q.mono (e.grow h) r
theorem RDs.ext(h:RH K ρ H hd)(e:Ext ρ H ρ' H'){d:List D}{v:List V}(q:RDs K ρ H d v):RDs K ρ' H' d v:=by
  obtain⟨r,rfl,_⟩:=e.pre
  exact q.mono (e.grow h) r
theorem RL.ext(h:RH K ρ H hd)(e:Ext ρ H ρ' H'){ls:Ls}{σ:St}(q:RL K ρ H ls σ):RL K ρ' H' ls σ:=
  ⟨q.len,λ i d z=>let ⟨v,a,b⟩:=q.ob i d z;⟨v,a,b.ext h e⟩⟩
theorem RDs.len:∀ {ds:List D} {xs:List V},RDs K ρ H ds xs->xs.length=ds.length
  | [],xs,h=>by simp only[RDs]at h;rw[h];rfl
  | d :: ds,xs,h=>by
    simp only[RDs]at h
    obtain⟨x,r,rfl,_,z⟩:=h
    simp[RDs.len z]
theorem RDs.get:∀ {ds:List D} {xs:List V} {i:Nat} {d:D},RDs K ρ H ds xs->ds[i]? = some d->∃ x,xs[i]? = some x/\RD K ρ H d x
  | [],xs,i,d,h,e=>by simp at e
  | d :: ds,xs,0,e,h,q=>by
    simp only[RDs]at h
    obtain⟨x,r,rfl,z,_⟩:=h
    simp at q;subst q
    exact⟨x,rfl,z⟩
  | d :: ds,xs,i + 1,e,h,q=>by
    simp only[RDs]at h
    obtain⟨x,r,rfl,_,z⟩:=h
    obtain⟨y,a,b⟩:=RDs.get (i:=i) z (by simpa using q)
    exact⟨y,by simpa using a,b⟩
theorem RDs.nil:RDs K ρ H [] []:=by simp[RDs]
theorem RDs.cons{d:D}{v:V}{ds:List D}{vs:List V}(h:RD K ρ H d v)(t:RDs K ρ H ds vs):RDs K ρ H (d :: ds) (v :: vs):=by
  simp only[RDs];exact⟨v,vs,rfl,h,t⟩
theorem RDs.app:∀ {ds es:List D} {xs ys:List V},RDs K ρ H ds xs->RDs K ρ H es ys->RDs K ρ H (ds ++ es) (xs ++ ys)
  | [],es,xs,ys,h,t=>by simp only[RDs]at h;subst h;simpa using t
  | d :: ds,es,xs,ys,h,t=>by
    simp only[RDs]at h
    obtain⟨x,r,rfl,z,q⟩:=h
    simp only[List.cons_append]
    exact .cons z (q.app t)
theorem RDs.set:∀ {ds:List D} {xs:List V} {d:D} {v:V} (i:Nat),RDs K ρ H ds xs->RD K ρ H d v->RDs K ρ H (ds.set i d) (xs.set i v)
  | [],xs,d,v,i,h,t=>by simp only[RDs]at h;subst h;simp[RDs]
  | d :: ds,xs,e,v,0,h,t=>by
    simp only[RDs]at h
    obtain⟨x,r,rfl,z,q⟩:=h
    simpa using RDs.cons t q
  | d :: ds,xs,e,v,i + 1,h,t=>by
    simp only[RDs]at h
    obtain⟨x,r,rfl,z,q⟩:=h
    simpa using RDs.cons z (q.set i t)
theorem RDs.drop:∀ {ds:List D} {xs:List V} (n:Nat),RDs K ρ H ds xs->RDs K ρ H (ds.drop n) (xs.drop n)
  | ds,xs,0,h=>by simpa using h
  | [],xs,n + 1,h=>by simp only[RDs]at h;subst h;simp[RDs]
  | d :: ds,xs,n + 1,h=>by
    simp only[RDs]at h
    obtain⟨x,r,rfl,z,q⟩:=h
    simpa using q.drop n
theorem RDs.take:∀ {ds:List D} {xs:List V} (n:Nat),RDs K ρ H ds xs->RDs K ρ H (ds.take n) (xs.take n)
  | ds,xs,0,h=>by simp[RDs]
  | [],xs,n + 1,h=>by simp only[RDs]at h;subst h;simp[RDs]
  | d :: ds,xs,n + 1,h=>by
    simp only[RDs]at h
    obtain⟨x,r,rfl,z,q⟩:=h
    simpa using RDs.cons z (q.take n)
theorem RIs.ds:∀ {is:List I} {xs:List V},RIs K H is xs->RDs K ρ H (is.map D.im) xs
  | [],xs,h=>by simpa only[RIs,RDs,List.map_nil]using h
  | i :: is,xs,h=>by
    simp only[RIs]at h
    obtain⟨x,r,rfl,z,q⟩:=h
    exact .cons (by simpa only[RD]using z) q.ds
theorem RDs.is:∀ {is:List I} {xs:List V},RDs K ρ H (is.map D.im) xs->RIs K H is xs
  | [],xs,h=>by simpa only[RIs,RDs,List.map_nil]using h
  | i :: is,xs,h=>by
    simp only[List.map_cons,RDs]at h
    obtain⟨x,r,rfl,z,q⟩:=h
    simp only[RIs]
    exact⟨x,r,rfl,by simpa only[RD]using z,q.is⟩
theorem RH.put(h:RH K ρ H hd){n:Nat}{a:Addr}(hn:ρ[n]? = some a){o:MO}{ho:HO}(c:RC K ρ H o ho):RH K ρ (upd H a ho) (hd.set n o)/\Ext ρ H ρ (upd H a ho):=by
  have ha:=h.mut (List.mem_of_getElem? hn)
  have n1:∀ ps,H a ≠ some (.tbl ps):=λ ps e=>by rcases ha with⟨y,z⟩|⟨y,z⟩ <;> (rw[e]at z;cases z)
  have n2:∀ φ,H a ≠ some (.ext φ):=λ ps e=>by rcases ha with⟨y,z⟩|⟨y,z⟩ <;> (rw[e]at z;cases z)
  have ex:Ext ρ H ρ (upd H a ho):=⟨⟨[],by simp,by simp⟩,λ b o q m _=>by
    have:b ≠ a:=λ z=>m (by rw[z];exact List.mem_of_getElem? hn)
    rw[AF this];exact q,λ b ps q=>⟨ps,(AF (show b ≠ a from λ z=>n1 ps (by rw[<- z];exact q))).trans q⟩⟩
  have gr:=ex.grow h
  refine⟨⟨by simp[h.len],h.nd,h.tabs.upd n1 n2,λ m o' b e1 e2=>?_⟩,ex⟩
  have hm:m < hd.length:=by rw[<- h.len];exact(List.getElem?_eq_some_iff.mp e2).1
  by_cases hmn:m=n
  . subst hmn
    rw[hn]at e2;cases e2
    rw[List.getElem?_set_self hm]at e1
    cases e1
    exact⟨ho,AQ,by simpa using c.mono gr []⟩
  . rw[List.getElem?_set_ne (λ z=>hmn z.symm)]at e1
    obtain⟨ho',q1,q2⟩:=h.ob m o' b e1 e2
    have:b ≠ a:=λ z=>by
      subst z
      have l1:=(List.getElem?_eq_some_iff.mp e2).1
      have l2:=(List.getElem?_eq_some_iff.mp hn).1
      exact hmn ((List.getElem?_inj l1 h.nd).mp (e2.trans hn.symm))
    exact⟨ho',by rw[AF this];exact q1,by simpa using q2.mono gr []⟩
theorem RH.lst(h:RH K ρ H hd){n:Nat}{a:Addr}{ds:List D}(hn:ρ[n]? = some a)(e:hd[n]? = some (.lst ds)):∃ xs,H a=some (.lst xs)/\RDs K ρ H ds xs:=by
  obtain⟨ho,q,xs,rfl,r⟩:=h.ob n _ a e hn
  exact⟨xs,q,r⟩
theorem RH.dic(h:RH K ρ H hd){n:Nat}{a:Addr}{ds:List (Key × D)}(hn:ρ[n]? = some a)(e:hd[n]? = some (.dic ds)):∃ xs,H a=some (.dK xs)/\RKs K ρ H ds xs:=by
  obtain⟨ho,q,xs,rfl,r⟩:=h.ob n _ a e hn
  exact⟨xs,q,r⟩
theorem RH.hid(h:RH K ρ H hd){a:Addr}(ha:H a=none){ho:HO}:RH K ρ (upd H a ho) hd/\Ext ρ H ρ (upd H a ho):=by
  have out:a ∉ ρ:=λ m=>by rcases h.mut m with⟨y,z⟩|⟨y,z⟩ <;> (rw[ha]at z;cases z)
  have ex:Ext ρ H ρ (upd H a ho):=⟨⟨[],by simp,by simp⟩,λ b o q n _=>by rw[AF (AZ q ha)];exact q,λ b ps q=>⟨ps,by rw[AF (AZ q ha)];exact q⟩⟩
  have gr:=ex.grow h
  refine⟨⟨h.len,h.nd,h.tabs.upd (by simp[ha]) (by simp[ha]),λ m o' b e1 e2=>?_⟩,ex⟩
  obtain⟨ho',q1,q2⟩:=h.ob m o' b e1 e2
  exact⟨ho',by rw[AF (AZ q1 ha)];exact q1,by simpa using q2.mono gr []⟩
theorem RH.hput(h:RH K ρ H hd){a:Addr}(out:a ∉ ρ){xs:List V}{ho:HO}(hl:H a=some (.lst xs)):RH K ρ (upd H a ho) hd:=by
  have gr:Grow H (upd H a ho):=Grow.refl.put (.lst hl)
  refine⟨h.len,h.nd,h.tabs.upd (by simp[hl]) (by simp[hl]),λ m o' b e1 e2=>?_⟩
  obtain⟨ho',q1,q2⟩:=h.ob m o' b e1 e2
  have:b ≠ a:=λ z=>out (by rw[<- z];exact List.mem_of_getElem? e2)
  exact⟨ho',by rw[AF this];exact q1,by simpa using q2.mono gr []⟩
end
end L2
namespace L2
open PySem PySem.Spec PyProof.Rows
noncomputable abbrev ME:=Ls->Hd->Option (D × Hd)
noncomputable abbrev MT:=Ls->Hd->Option (Bool × Hd)
noncomputable abbrev MA:=Ls->Hd->Option (List D × Hd)
inductive Fl where
  | nx (ls:Ls)|rt (d:D)|bk (ls:Ls)|ct (ls:Ls)
noncomputable abbrev MS:=Ls->Hd->Option (Fl × Hd)
section
variable(K:PySem.W.Frag)
noncomputable def RE(t:TE)(m:ME):Prop:=∀ (ρ:List Addr) (σ:St) (H:Hp) (hd:Hd) (ls:Ls) (Q:VK) (d:D) (hd':Hd),RH K ρ H hd->RL K ρ H ls σ->m ls hd=some (d,hd') ->
  (∀ ρ' H' v,Ext ρ H ρ' H'->RH K ρ' H' hd'->RD K ρ' H' d v->Q v H')->t σ H Q
noncomputable def RT(t:TT)(m:MT):Prop:=∀ (ρ:List Addr) (σ:St) (H:Hp) (hd:Hd) (ls:Ls) (Q:Bool->Hp->Prop) (d:Bool) (hd':Hd),RH K ρ H hd->RL K ρ H ls σ->m ls hd=some (d,hd') ->
  (∀ ρ' H',Ext ρ H ρ' H'->RH K ρ' H' hd'->Q d H')->t σ H Q
noncomputable def RA(t:TA)(m:MA):Prop:=∀ (ρ:List Addr) (σ:St) (H:Hp) (hd:Hd) (ls:Ls) (Q:List V->Hp->Prop) (d:List D) (hd':Hd),RH K ρ H hd->RL K ρ H ls σ->m ls hd=some (d,hd') ->
  (∀ ρ' H' v,Ext ρ H ρ' H'->RH K ρ' H' hd'->RDs K ρ' H' d v->Q v H')->t σ H Q
noncomputable def RN(t:TE)(m:MA):Prop:=∀ (ρ:List Addr) (σ:St) (H:Hp) (hd:Hd) (ls:Ls) (Q:VK) (d:List D) (hd':Hd),RH K ρ H hd->RL K ρ H ls σ->m ls hd=some (d,hd') ->
  (∀ ρ' H' a xs,Ext ρ H ρ' H'->RH K ρ' H' hd'->H a=none->a ∉ ρ'->H' a=some (.lst xs)->RDs K ρ' H' d xs->Q (.ref a) H')->t σ H Q
noncomputable def UU(E:Ends)(ρ:List Addr)(H:Hp):Fl->Prop
  | .nx ls=>∀ σ,RL K ρ H ls σ->E.nx σ H
  | .bk ls=>∀ σ,RL K ρ H ls σ->E.bk σ H
  | .ct ls=>∀ σ,RL K ρ H ls σ->E.ct σ H
  | .rt d=>∀ v,RD K ρ H d v->E.rt v H
noncomputable def RS(t:TS)(m:MS):Prop:=∀ (ρ:List Addr) (σ:St) (H:Hp) (hd:Hd) (ls:Ls) (E:Ends) (f:Fl) (hd':Hd),RH K ρ H hd->RL K ρ H ls σ->m ls hd=some (f,hd') ->
  (∀ ρ' H',Ext ρ H ρ' H'->RH K ρ' H' hd'->UU K E ρ' H' f)->t E σ H
noncomputable def RB(r:R2)(f:D->D->Hd->Option (D × Hd)):Prop:=∀ (ρ:List Addr) (H:Hp) (hd:Hd) (d e:D) (v u:V) (Q:VK) (z:D) (hd':Hd),RH K ρ H hd->RD K ρ H d v->RD K ρ H e u->f d e hd=some (z,hd') ->
  (∀ ρ' H' w,Ext ρ H ρ' H'->RH K ρ' H' hd'->RD K ρ' H' z w->Q w H')->r v u H Q
noncomputable def RF(r:List V->Hp->VK->Prop)(f:List D->Hd->Option (D × Hd)):Prop:=∀ (ρ:List Addr) (H:Hp) (hd:Hd) (ds:List D) (vs:List V) (Q:VK) (z:D) (hd':Hd),RH K ρ H hd->RDs K ρ H ds vs->f ds hd=some (z,hd') ->
  (∀ ρ' H' w,Ext ρ H ρ' H'->RH K ρ' H' hd'->RD K ρ' H' z w->Q w H')->r vs H Q
noncomputable def RG(tp:Bool)(r:List V->Hp->VK->Prop)(g:List D->Option D):Prop:=∀ (ρ:List Addr) (H:Hp) (hd:Hd) (a:Addr) (xs:List V) (ds:List D) (Q:VK) (z:D),RH K ρ H hd->(SqL K H a xs ∨ (tp=true/\SqT K H a xs))->RDs K ρ H ds xs->g ds=some z ->
  (∀ H' w,Ext ρ H ρ H'->RH K ρ H' hd->RD K ρ H' z w->Q w H')->r [.ref a] H Q
end
structure QE(K:PySem.W.Frag)(X:Cx)(e:Expr)(t:TE)(m:ME):Prop where
  p:PE X e t
  r:RE K t m
structure QT(K:PySem.W.Frag)(X:Cx)(e:Expr)(t:TT)(m:MT):Prop where
  p:PT X e t
  r:RT K t m
structure QW(K:PySem.W.Frag)(X:Cx)(e:Expr)(t:TT)(m:MT):Prop where
  p:PW X e t
  r:RT K t m
structure QA(K:PySem.W.Frag)(X:Cx)(e:List Expr)(t:TA)(m:MA):Prop where
  p:PA X e t
  r:RA K t m
structure QN(K:PySem.W.Frag)(X:Cx)(e:Expr)(t:TE)(m:MA):Prop where
  p:PE X e t
  r:RN K t m
structure QS(K:PySem.W.Frag)(X:Cx)(e:Stmt)(t:TS)(m:MS):Prop where
  p:PS X e t
  r:RS K t m
structure QSs(K:PySem.W.Frag)(X:Cx)(e:List Stmt)(t:TS)(m:MS):Prop where
  p:PSs X e t
  r:RS K t m
noncomputable def AY:D->Option (List D)
  | .im (.tup is)=>some (is.map .im)
  | .tm ds=>some ds
  | _=>none
noncomputable def B6(hd:Hd):D->Option (List D)
  | .mu n=>match hd[n]? with
    | some (.lst ds)=>some ds
    | _=>none
  | .ro ns=>some (ns.map λ n=>.im (.int n))
  | _=>none
noncomputable def BI(hd:Hd)(d:D):Option (List D):=match AY d with
  | some ds=>some ds
  | none=>B6 hd d
noncomputable def BS:List D->Option (List I)
  | []=>some []
  | .im i :: r=>(BS r).map (i :: ·)
  | _ :: _=>none
noncomputable def B0(ds:List D):D:=match BS ds with
  | some is=>.im (.tup is)
  | none=>.tm ds
noncomputable def BN:List D->Option (List Int)
  | []=>some []
  | .im (.int i) :: r=>(BN r).map (i :: ·)
  | _ :: _=>none
noncomputable def C7:List D->Option (List Bool)
  | []=>some []
  | .im (.bl i) :: r=>(C7 r).map (i :: ·)
  | _ :: _=>none
section
variable{K:PySem.W.Frag}{ρ ρ':List Addr}{H H':Hp}{hd hd':Hd}
theorem FU:∀ {ds:List D} {is:List I},BS ds=some is->ds=is.map .im
  | [],is,h=>by simp[BS]at h;subst h;rfl
  | .im i :: r,is,h=>by
    simp only[BS,Option.map_eq_some_iff]at h
    obtain⟨js,e,rfl⟩:=h
    simp[FU e]
  | .mu _ :: _,is,h=>by simp[BS]at h
  | .tm _ :: _,is,h=>by simp[BS]at h
  | .ro _ :: _,is,h=>by simp[BS]at h
theorem Ga:∀ {ds:List D} {is:List Int},BN ds=some is->ds=is.map λ i=>.im (.int i)
  | [],is,h=>by simp[BN]at h;subst h;rfl
  | .im (.int i) :: r,is,h=>by
    simp only[BN,Option.map_eq_some_iff]at h
    obtain⟨js,e,rfl⟩:=h
    simp[Ga e]
  | .im (.bl _) :: _,is,h=>by simp[BN]at h
  | .im (.str _) :: _,is,h=>by simp[BN]at h
  | .im .non :: _,is,h=>by simp[BN]at h
  | .im (.tup _) :: _,is,h=>by simp[BN]at h
  | .mu _ :: _,is,h=>by simp[BN]at h
  | .tm _ :: _,is,h=>by simp[BN]at h
  | .ro _ :: _,is,h=>by simp[BN]at h
theorem Hw:∀ {ds:List D} {is:List Bool},C7 ds=some is->ds=is.map λ i=>.im (.bl i)
  | [],is,h=>by simp[C7]at h;subst h;rfl
  | .im (.bl i) :: r,is,h=>by
    simp only[C7,Option.map_eq_some_iff]at h
    obtain⟨js,e,rfl⟩:=h
    simp[Hw e]
  | .im (.int _) :: _,is,h=>by simp[C7]at h
  | .im (.str _) :: _,is,h=>by simp[C7]at h
  | .im .non :: _,is,h=>by simp[C7]at h
  | .im (.tup _) :: _,is,h=>by simp[C7]at h
  | .mu _ :: _,is,h=>by simp[C7]at h
  | .tm _ :: _,is,h=>by simp[C7]at h
  | .ro _ :: _,is,h=>by simp[C7]at h
@[simp] theorem NC(is:List I):BS (is.map .im)=some is:=by induction is <;> simp_all [BS]
@[simp] theorem IH(is:List Int):BN (is.map λ i=>.im (.int i))=some is:=by induction is <;> simp_all [BN]
@[simp] theorem FS(is:List Bool):C7 (is.map λ i=>.im (.bl i))=some is:=by induction is <;> simp_all [C7]
theorem KF:∀ {ns:List Int} {xs:List V},RDs K ρ H (ns.map λ i=>.im (.int i)) xs->xs=ns.map V.int
  | [],xs,h=>by simpa [RDs]using h
  | n :: ns,xs,h=>by
    simp only[List.map_cons,RDs,RD,RI]at h
    obtain⟨x,r,rfl,rfl,z⟩:=h
    rw[KF z];rfl
theorem GF:∀ {ns:List Int},RDs K ρ H (ns.map λ i=>.im (.int i)) (ns.map V.int)
  | []=>by simp[RDs]
  | n :: ns=>by simp only[List.map_cons];exact .cons (by simp[RD,RI]) GF
theorem JE:∀ {ns:List Bool} {xs:List V},RDs K ρ H (ns.map λ i=>.im (.bl i)) xs->xs=ns.map V.bl
  | [],xs,h=>by simpa [RDs]using h
  | n :: ns,xs,h=>by
    simp only[List.map_cons,RDs,RD,RI]at h
    obtain⟨x,r,rfl,rfl,z⟩:=h
    rw[JE z];rfl
theorem RD.tup{d:D}{v:V}{ds:List D}(h:RD K ρ H d v)(e:AY d=some ds):∃ a xs,v=.ref a/\SqT K H a xs/\RDs K ρ H ds xs:=by
  cases d with
  | im i=>
    cases i with
    | tup is=>
      simp only[AY,Option.some.injEq]at e
      subst e
      simp only[RD,RI]at h
      obtain⟨a,xs,rfl,q,r⟩:=h
      exact⟨a,xs,rfl,q,r.ds⟩
    | _=>simp[AY]at e
  | tm es=>
    simp only[AY,Option.some.injEq]at e
    subst e
    simpa only[RD]using h
  | _=>simp[AY]at e
theorem RD.lst{d:D}{v:V}{ds:List D}(hR:RH K ρ H hd)(h:RD K ρ H d v)(e:B6 hd d=some ds):∃ a xs,v=.ref a/\SqL K H a xs/\RDs K ρ H ds xs:=by
  cases d with
  | mu n=>
    simp only[B6]at e
    simp only[RD]at h
    obtain⟨a,hn,rfl⟩:=h
    split at e
    . next q=>
      cases e
      obtain⟨xs,e1,e2⟩:=hR.lst hn q
      exact⟨a,xs,rfl,SqL.of e1,e2⟩
    . cases e
  | ro ns=>
    simp only[B6,Option.some.injEq]at e
    subst e
    simp only[RD]at h
    obtain⟨a,rfl,q⟩:=h
    exact⟨a,_,rfl,q.sq,GF⟩
  | _=>simp[B6]at e
theorem RD.seq{d:D}{v:V}{ds:List D}(hR:RH K ρ H hd)(h:RD K ρ H d v)(e:BI hd d=some ds):∃ a xs,v=.ref a/\(SqL K H a xs ∨ SqT K H a xs)/\RDs K ρ H ds xs:=by
  unfold BI at e
  split at e
  . next q=>
    cases e
    obtain⟨a,xs,e1,e2,e3⟩:=h.tup q
    exact⟨a,xs,e1,.inr e2,e3⟩
  . obtain⟨a,xs,e1,e2,e3⟩:=h.lst hR e
    exact⟨a,xs,e1,.inl e2,e3⟩
theorem Bz{ds:List D}{a:Addr}{xs:List V}(q:SqT K H a xs)(r:RDs K ρ H ds xs):RD K ρ H (B0 ds) (.ref a):=by
  unfold B0
  split
  . next e=>
    rw[FU e]at r
    simp only[RD,RI]
    exact⟨a,xs,rfl,q,r.is⟩
  . simp only[RD]
    exact⟨a,xs,rfl,q,r⟩
noncomputable def A2(i:Nat):ME:=λ ls hd=>match ls[i]? with
  | some (some d)=>some (d,hd)
  | _=>none
theorem S5{i:Nat}:RE K (Ks i) (A2 i):=by
  intro ρ σ H hd ls Q d hd' hR hL hm hQ
  unfold A2 at hm
  split at hm
  . next e=>
    cases hm
    obtain⟨v,e1,e2⟩:=hL.ob i _ e
    exact⟨v,e1,hQ ρ H v .refl hR e2⟩
  . cases hm
noncomputable def mC(i:I):ME:=λ _ hd=>some (.im i,hd)
theorem L9{v:V}{i:I}(h:∀ H,RI K H i v):RE K (tC v) (mC i):=by
  intro ρ σ H hd ls Q d hd' hR hL hm hQ
  cases hm
  exact hQ ρ H v .refl hR (by simpa only[RD]using h H)
noncomputable def mOp(f:D->D->Hd->Option (D × Hd))(ma mb:ME):ME:=λ ls hd=>(ma ls hd).bind λ p=>(mb ls p.2).bind λ q=>f p.1 q.1 q.2
theorem Ib{r:R2}{f:D->D->Hd->Option (D × Hd)}{ta tb:TE}{ma mb:ME}(hr:RB K r f)(ha:RE K ta ma)(hb:RE K tb mb):RE K (tOp r ta tb) (mOp f ma mb):=by
  intro ρ σ H hd ls Q d hd' hR hL hm hQ
  obtain⟨⟨d1,h1⟩,e1,hm⟩:=Option.bind_eq_some_iff.mp hm
  obtain⟨⟨d2,h2⟩,e2,hm⟩:=Option.bind_eq_some_iff.mp hm
  refine ha ρ σ H hd ls _ d1 h1 hR hL e1 λ ρ1 H1 v1 x1 R1 r1=>?_
  refine hb ρ1 σ H1 h1 ls _ d2 h2 R1 (hL.ext hR x1) e2 λ ρ2 H2 v2 x2 R2 r2=>?_
  exact hr ρ2 H2 h2 d1 d2 v1 v2 Q d hd' R2 (r1.ext R1 x2) r2 hm λ ρ' H' w x3 R3 r3=>hQ ρ' H' w ((x1.trans R1 x2).trans R2 x3) R3 r3
noncomputable def Fq(ta tb:MT):MT:=λ ls hd=>(ta ls hd).bind λ p=>if p.1=true then tb ls p.2 else some (false,p.2)
noncomputable def mOr(ta tb:MT):MT:=λ ls hd=>(ta ls hd).bind λ p=>if p.1=true then some (true,p.2)else tb ls p.2
noncomputable def Jb(ta:MT):MT:=λ ls hd=>(ta ls hd).bind λ p=>some (!p.1,p.2)
theorem Rp{ta tb:TT}{ma mb:MT}(ha:RT K ta ma)(hb:RT K tb mb):RT K (NQ ta tb) (Fq ma mb):=by
  intro ρ σ H hd ls Q d hd' hR hL hm hQ
  obtain⟨⟨d1,h1⟩,e1,hm⟩:=Option.bind_eq_some_iff.mp hm
  refine ha ρ σ H hd ls _ d1 h1 hR hL e1 λ ρ1 H1 x1 R1=>?_
  cases d1 with
  | true=>
    rw[if_pos rfl]at hm ⊢
    exact hb ρ1 σ H1 h1 ls Q d hd' R1 (hL.ext hR x1) hm λ ρ2 H2 x2 R2=>hQ ρ2 H2 (x1.trans R1 x2) R2
  | false=>
    rw[if_neg Bool.false_ne_true]at hm ⊢
    cases hm
    exact hQ ρ1 H1 x1 R1
theorem Ro{ta:TT}{ma:MT}(ha:RT K ta ma):RT K (NM ta) (Jb ma):=by
  intro ρ σ H hd ls Q d hd' hR hL hm hQ
  obtain⟨⟨d1,h1⟩,e1,hm⟩:=Option.bind_eq_some_iff.mp hm
  cases hm
  exact ha ρ σ H hd ls _ d1 h1 hR hL e1 λ ρ1 H1 x1 R1=>hQ ρ1 H1 x1 R1
open Classical in
noncomputable def Di(hd:Hd):D->Option Bool
  | .im .non=>some false
  | .im (.bl b)=>some b
  | .im (.int i)=>some (i != 0)
  | .im (.str x)=>if Bv x.length then some ((x.length:Int) != 0)else none
  | .im (.tup is)=>some (!is.isEmpty)
  | .tm is=>some (!is.isEmpty)
  | .ro ns=>some (!ns.isEmpty)
  | .mu n=>match hd[n]? with
    | some (.lst ds)=>some (!ds.isEmpty)
    | some (.dic ds)=>some (!ds.isEmpty)
    | none=>none
theorem CV{α β:Type}{xs:List α}{ys:List β}(h:xs.length=ys.length):xs.isEmpty=ys.isEmpty:=by
  cases xs <;> cases ys <;> simp_all
theorem RKs.len:∀ {ds:List (Key × D)} {xs:List (Key × V)},RKs K ρ H ds xs->xs.length=ds.length
  | [],xs,h=>by simp only[RKs]at h;rw[h];rfl
  | d :: ds,xs,h=>by
    simp only[RKs]at h
    obtain⟨x,r,rfl,_,_,z⟩:=h
    simp[RKs.len z]
theorem PK{d:D}{v:V}{b:Bool}(hR:RH K ρ H hd)(h:RD K ρ H d v)(e:Di hd d=some b):Jx K v H b:=by
  cases d with
  | im i=>
    cases i with
    | non=>simp only[RD,RI]at h;subst h;simp only[Di,Option.some.injEq]at e;subst e;exact rfl
    | bl c=>simp only[RD,RI]at h;subst h;simp only[Di,Option.some.injEq]at e;subst e;exact rfl
    | int c=>simp only[RD,RI]at h;subst h;simp only[Di,Option.some.injEq]at e;subst e;exact rfl
    | str c=>
      simp only[RD,RI]at h;subst h;simp only[Di]at e
      split at e
      . next z=>cases e;exact⟨z,rfl⟩
      . cases e
    | tup is=>
      obtain⟨a,xs,rfl,q,r⟩:=h.tup (ds:=is.map .im) rfl
      simp only[Di,Option.some.injEq]at e;subst e
      exact .inr (.inl ⟨xs,q,by rw[CV (show xs.length=is.length by simpa using r.len)]⟩)
  | tm ds=>
    obtain⟨a,xs,rfl,q,r⟩:=h.tup (ds:=ds) rfl
    simp only[Di,Option.some.injEq]at e;subst e
    exact .inr (.inl ⟨xs,q,by rw[CV r.len]⟩)
  | ro ns=>
    obtain⟨a,xs,rfl,q,r⟩:=h.lst hR (hd:=hd) (ds:=ns.map λ n=>.im (.int n)) rfl
    simp only[Di,Option.some.injEq]at e;subst e
    exact .inl ⟨xs,q,by rw[CV (show xs.length=ns.length by simpa using r.len)]⟩
  | mu n=>
    simp only[RD]at h
    obtain⟨a,hn,rfl⟩:=h
    simp only[Di]at e
    split at e
    . next q=>
      cases e
      obtain⟨xs,e1,e2⟩:=hR.lst hn q
      exact .inl ⟨xs,SqL.of e1,by rw[CV e2.len]⟩
    . next q=>
      cases e
      obtain⟨xs,e1,e2⟩:=hR.dic hn q
      exact .inr (.inr ⟨xs,e1,by rw[CV e2.len]⟩)
    . cases e
noncomputable def Dk(ma:ME):MT:=λ ls hd=>(ma ls hd).bind λ p=>(Di p.2 p.1).map (·,p.2)
theorem NT{ta:TE}{ma:ME}(ha:RE K ta ma):RT K (λ σ H Q=>ta σ H λ x H'=>∃ k,Jx K x H' k/\Q k H') (Dk ma):=by
  intro ρ σ H hd ls Q d hd' hR hL hm hQ
  obtain⟨⟨d1,h1⟩,e1,hm⟩:=Option.bind_eq_some_iff.mp hm
  obtain⟨b,e2,e3⟩:=Option.map_eq_some_iff.mp hm
  cases e3
  exact ha ρ σ H hd ls _ d1 h1 hR hL e1 λ ρ1 H1 v x1 R1 r1=>⟨_,PK R1 r1 e2,hQ ρ1 H1 x1 R1⟩
noncomputable def Aj(ma:ME):MT:=λ ls hd=>(ma ls hd).bind λ p=>match p.1 with
  | .im (.bl b)=>some (b,p.2)
  | _=>none
theorem Dv{ta:TE}{ma:ME}(ha:RE K ta ma):RT K (Gm ta) (Aj ma):=by
  intro ρ σ H hd ls Q d hd' hR hL hm hQ
  obtain⟨⟨d1,h1⟩,e1,hm⟩:=Option.bind_eq_some_iff.mp hm
  dsimp only at hm
  split at hm
  . cases hm
    exact ha ρ σ H hd ls _ _ _ hR hL e1 λ ρ1 H1 v x1 R1 r1=>⟨_,by simpa only[RD,RI]using r1,hQ ρ1 H1 x1 R1⟩
  . cases hm
theorem Ud{ta:TE}{ma:ME}(ha:RE K ta ma):RT K (tB ta) (Aj ma):=Dv ha
noncomputable def mIf(c:MT)(ma mb:ME):ME:=λ ls hd=>(c ls hd).bind λ p=>if p.1=true then ma ls p.2 else mb ls p.2
theorem Ts{tc:TT}{c:MT}{ta tb:TE}{ma mb:ME}(hc:RT K tc c)(ha:RE K ta ma)(hb:RE K tb mb):RE K (tIf tc ta tb) (mIf c ma mb):=by
  intro ρ σ H hd ls Q d hd' hR hL hm hQ
  obtain⟨⟨d1,h1⟩,e1,hm⟩:=Option.bind_eq_some_iff.mp hm
  refine hc ρ σ H hd ls _ d1 h1 hR hL e1 λ ρ1 H1 x1 R1=>?_
  cases d1 with
  | true=>
    rw[if_pos rfl]at hm ⊢
    exact ha ρ1 σ H1 h1 ls Q d hd' R1 (hL.ext hR x1) hm λ ρ2 H2 v x2 R2 r2=>hQ ρ2 H2 v (x1.trans R1 x2) R2 r2
  | false=>
    rw[if_neg Bool.false_ne_true]at hm ⊢
    exact hb ρ1 σ H1 h1 ls Q d hd' R1 (hL.ext hR x1) hm λ ρ2 H2 v x2 R2 r2=>hQ ρ2 H2 v (x1.trans R1 x2) R2 r2
noncomputable def FJ(ma mb:ME):ME:=λ ls hd=>(Aj ma ls hd).bind λ p=>if p.1=true then mb ls p.2 else some (.im (.bl false),p.2)
noncomputable def Ja(ma mb:ME):ME:=λ ls hd=>(Aj ma ls hd).bind λ p=>if p.1=true then some (.im (.bl true),p.2)else mb ls p.2
noncomputable def UB(ma:ME):ME:=λ ls hd=>(Aj ma ls hd).bind λ p=>some (.im (.bl (!p.1)),p.2)
theorem Ps{ta tb:TE}{ma mb:ME}(ha:RE K ta ma)(hb:RE K tb mb):RE K (Kz ta tb) (FJ ma mb):=by
  intro ρ σ H hd ls Q d hd' hR hL hm hQ
  obtain⟨⟨d1,h1⟩,e1,hm⟩:=Option.bind_eq_some_iff.mp hm
  refine Dv ha ρ σ H hd ls (λ c H1=>if c=true then tb σ H1 Q else Q (.bl false) H1) d1 h1 hR hL e1 λ ρ1 H1 x1 R1=>?_
  cases d1 with
  | true=>
    rw[if_pos rfl]at hm ⊢
    exact hb ρ1 σ H1 h1 ls Q d hd' R1 (hL.ext hR x1) hm λ ρ2 H2 v x2 R2 r2=>hQ ρ2 H2 v (x1.trans R1 x2) R2 r2
  | false=>
    rw[if_neg Bool.false_ne_true]at hm ⊢
    cases hm
    exact hQ ρ1 H1 _ x1 R1 (by simp[RD,RI])
theorem S8{ta tb:TE}{ma mb:ME}(ha:RE K ta ma)(hb:RE K tb mb):RE K (NL ta tb) (Ja ma mb):=by
  intro ρ σ H hd ls Q d hd' hR hL hm hQ
  obtain⟨⟨d1,h1⟩,e1,hm⟩:=Option.bind_eq_some_iff.mp hm
  refine Dv ha ρ σ H hd ls (λ c H1=>if c=true then Q (.bl true) H1 else tb σ H1 Q) d1 h1 hR hL e1 λ ρ1 H1 x1 R1=>?_
  cases d1 with
  | true=>
    rw[if_pos rfl]at hm ⊢
    cases hm
    exact hQ ρ1 H1 _ x1 R1 (by simp[RD,RI])
  | false=>
    rw[if_neg Bool.false_ne_true]at hm ⊢
    exact hb ρ1 σ H1 h1 ls Q d hd' R1 (hL.ext hR x1) hm λ ρ2 H2 v x2 R2 r2=>hQ ρ2 H2 v (x1.trans R1 x2) R2 r2
noncomputable def A7:MA:=λ _ hd=>some ([],hd)
noncomputable def A1(ma:ME)(mr:MA):MA:=λ ls hd=>(ma ls hd).bind λ p=>(mr ls p.2).bind λ q=>some (p.1 :: q.1,q.2)
theorem SH:RA K Ca A7:=by
  intro ρ σ H hd ls Q d hd' hR hL hm hQ
  cases hm
  exact hQ ρ H [] .refl hR .nil
theorem Pu{ta:TE}{tr:TA}{ma:ME}{mr:MA}(ha:RE K ta ma)(hr:RA K tr mr):RA K (Bx ta tr) (A1 ma mr):=by
  intro ρ σ H hd ls Q d hd' hR hL hm hQ
  obtain⟨⟨d1,h1⟩,e1,hm⟩:=Option.bind_eq_some_iff.mp hm
  obtain⟨⟨d2,h2⟩,e2,hm⟩:=Option.bind_eq_some_iff.mp hm
  cases hm
  refine ha ρ σ H hd ls _ d1 h1 hR hL e1 λ ρ1 H1 v1 x1 R1 r1=>?_
  exact hr ρ1 σ H1 h1 ls _ d2 _ R1 (hL.ext hR x1) e2 λ ρ2 H2 v2 x2 R2 r2=>hQ ρ2 H2 _ (x1.trans R1 x2) R2 (.cons (r1.ext R1 x2) r2)
open Classical in
noncomputable def Av(ma:MA):ME:=λ ls hd=>(ma ls hd).bind λ p=>if Bv p.1.length then some (B0 p.1,p.2)else none
theorem S6{t:TA}{m:MA}(h:RA K t m):RE K (NI t) (Av m):=by
  intro ρ σ H hd ls Q d hd' hR hL hm hQ
  obtain⟨⟨d1,h1⟩,e1,hm⟩:=Option.bind_eq_some_iff.mp hm
  dsimp only at hm
  split at hm
  . next z=>
    cases hm
    refine h ρ σ H hd ls _ d1 _ hR hL e1 λ ρ1 H1 v1 x1 R1 r1=>⟨by rw[r1.len];exact z,λ p hp=>?_⟩
    obtain⟨R2,x2⟩:=R1.hid (ho:=.tup v1) hp
    exact hQ ρ1 _ _ (x1.trans R1 x2) R2 (Bz (SqT.of AQ) (r1.ext R1 x2))
  . cases hm
open Classical in
noncomputable def CN(ma:MA):MA:=λ ls hd=>(ma ls hd).bind λ p=>if Bv p.1.length then some (p.1,p.2)else none
theorem RH.out(hR:RH K ρ H hd){a:Addr}(h:H a=none):a ∉ ρ:=λ m=>by rcases hR.mut m with⟨y,z⟩|⟨y,z⟩ <;> (rw[h]at z;cases z)
theorem Ext.none(e:Ext ρ H ρ' H')(hR:RH K ρ H hd){a:Addr}(h:H' a=none)(hR':RH K ρ' H' hd'):H a=none:=by
  cases q:H a with
  | none=>rfl
  | some o=>
    by_cases m:a ∈ ρ
    . obtain⟨r,rfl,_⟩:=e.pre
      exact absurd (List.mem_append_left r m) (hR'.out h)
    . by_cases t:∃ ps,o=.tbl ps
      . obtain⟨ps,rfl⟩:=t
        obtain⟨ps',this⟩:=e.tab a ps q
        rw[h]at this;cases this
      . rw[e.keep a o q m λ ps y=>t ⟨ps,y⟩]at h;cases h
theorem Rx{t:TA}{m:MA}(h:RA K t m):RN K (NN t) (CN m):=by
  intro ρ σ H hd ls Q d hd' hR hL hm hQ
  obtain⟨⟨d1,h1⟩,e1,hm⟩:=Option.bind_eq_some_iff.mp hm
  dsimp only at hm
  split at hm
  . next z=>
    cases hm
    refine h ρ σ H hd ls _ _ _ hR hL e1 λ ρ1 H1 v1 x1 R1 r1=>⟨by rw[r1.len];exact z,λ p hp=>?_⟩
    obtain⟨R2,x2⟩:=R1.hid (ho:=.lst v1) hp
    exact hQ ρ1 _ p v1 (x1.trans R1 x2) R2 (x1.none hR hp R1) (R1.out hp) AQ (r1.ext R1 x2)
  . cases hm
noncomputable def DF(ml:MA):ME:=λ ls hd=>(ml ls hd).bind λ p=>some (.mu p.2.length,p.2 ++ [.lst p.1])
theorem RH.name(hR:RH K ρ H hd){a:Addr}{xs:List V}{ds:List D}(out:a ∉ ρ)(e:H a=some (.lst xs))(r:RDs K ρ H ds xs):RH K (ρ ++ [a]) H (hd ++ [.lst ds]):=by
  have mono:∀ {o:MO} {ho:HO},RC K ρ H o ho->RC K (ρ ++ [a]) H o ho:=λ c=>c.mono Grow.refl [a]
  refine⟨by simp[hR.len],?_,hR.tabs,λ n o' b e1 e2=>?_⟩
  . rw[List.nodup_append]
    refine⟨hR.nd,by simp,λ x hx y hy z=>?_⟩
    simp at hy;subst hy;subst z;exact out hx
  . by_cases hn:n < ρ.length
    . rw[List.getElem?_append_left hn]at e2
      rw[List.getElem?_append_left (by rw[<- hR.len];exact hn)]at e1
      obtain⟨ho',q1,q2⟩:=hR.ob n o' b e1 e2
      exact⟨ho',q1,mono q2⟩
    . have hn':n=ρ.length:=by
        have:=(List.getElem?_eq_some_iff.mp e2).1
        simp at this;omega
      subst hn'
      simp at e2
      rw[hR.len]at e1
      simp at e1
      subst e1;subst e2
      exact⟨_,e,mono ⟨xs,rfl,r⟩⟩
theorem Ext.name(e:Ext ρ H ρ' H'){a:Addr}(h:H a=Option.none):Ext ρ H (ρ' ++ [a]) H':=by
  obtain⟨r,rfl,f⟩:=e.pre
  refine⟨⟨r ++ [a],by simp,λ b m=>?_⟩,e.keep,e.tab⟩
  rcases List.mem_append.mp m with m|m
  . exact f b m
  . simp at m;subst m;exact h
theorem S9{t:TE}{m:MA}(h:RN K t m):RE K t (DF m):=by
  intro ρ σ H hd ls Q d hd' hR hL hm hQ
  obtain⟨⟨d1,h1⟩,e1,hm⟩:=Option.bind_eq_some_iff.mp hm
  cases hm
  refine h ρ σ H hd ls Q d1 h1 hR hL e1 λ ρ1 H1 a xs x1 R1 na oa ea r1=>?_
  refine hQ (ρ1 ++ [a]) H1 _ (x1.name na) (R1.name oa ea r1) ?_
  simp only[RD]
  exact⟨a,by rw[<- R1.len];simp,rfl⟩
end
end L2
namespace L2
open PySem PySem.Spec PyProof.Rows
section
variable{K:PySem.W.Frag}{ρ ρ':List Addr}{H H':Hp}{hd hd':Hd}
noncomputable def fI(g:Int->Int->Option I):D->D->Hd->Option (D × Hd)
  | .im (.int i),.im (.int j),hd=>(g i j).map (.im ·,hd)
  | _,_,_=>none
theorem LA{C:Int->Int->Prop}{g:Int->Int->V}{f:Int->Int->Option I}(h:∀ i j z,f i j=some z->C i j/\∀ H,RI K H z (g i j)):RB K (rI C g) (fI f):=by
  intro ρ H hd d e v u Q z hd' hR h1 h2 hf hQ
  unfold fI at hf
  split at hf
  . simp only[RD,RI]at h1 h2
    subst h1 h2
    obtain⟨w,e1,e2⟩:=Option.map_eq_some_iff.mp hf
    cases e2
    obtain⟨c,r⟩:=h _ _ _ e1
    exact⟨_,_,rfl,rfl,c,hQ ρ H _ .refl hR (by simpa only[RD]using r H)⟩
  . cases hf
theorem G7{g:Int->Int->V}{f:Int->Int->I}(h:∀ i j H,RI K H (f i j) (g i j)):RB K (rI0 g) (fI λ i j=>some (f i j)):=by
  intro ρ H hd d e v u Q z hd' hR h1 h2 hf hQ
  unfold fI at hf
  split at hf
  . simp only[RD,RI]at h1 h2
    subst h1 h2
    cases hf
    exact⟨_,_,rfl,rfl,hQ ρ H _ .refl hR (by simpa only[RD]using h _ _ H)⟩
  . cases hf
noncomputable def FQ(f g:D->D->Hd->Option (D × Hd)):D->D->Hd->Option (D × Hd):=λ d e hd=>match f d e hd with
  | some z=>some z
  | none=>g d e hd
theorem AM{r r':R2}{f g:D->D->Hd->Option (D × Hd)}(h:RB K r f)(h':RB K r' g):RB K (λ x y H Q=>r x y H Q ∨ r' x y H Q) (FQ f g):=by
  intro ρ H hd d e v u Q z hd' hR h1 h2 hf hQ
  unfold FQ at hf
  split at hf
  . next q=>cases hf;exact .inl (h ρ H hd d e v u Q z hd' hR h1 h2 q hQ)
  . exact .inr (h' ρ H hd d e v u Q z hd' hR h1 h2 hf hQ)
noncomputable abbrev Ht:D->D->Hd->Option (D × Hd):=fI λ i j=>some (.int (i + j))
noncomputable abbrev Ij:D->D->Hd->Option (D × Hd):=fI λ i j=>some (.int (i - j))
theorem Aq:RB K (rI0 λ i j=>.int (i + j)) Ht:=G7 λ _ _ _=>by simp[RI]
theorem MC:RB K (rI0 λ i j=>.int (i - j)) Ij:=G7 λ _ _ _=>by simp[RI]
open Classical in
noncomputable abbrev BW:D->D->Hd->Option (D × Hd):=fI λ i j=>if CJ i j then some (.int (i * j))else none
theorem Bp:RB K (rI CMul λ i j=>.int (i * j)) BW:=LA λ i j z h=>by
  split at h
  . next q=>cases h;exact⟨q,λ _=>by simp[RI]⟩
  . cases h
open Classical in
noncomputable abbrev Dm:D->D->Hd->Option (D × Hd):=fI λ i j=>if BZ j then some (.int (i % j))else none
theorem CP:RB K (rI (λ _ j=>0 < j) λ i j=>.int (i % j)) Dm:=LA λ i j z h=>by
  split at h
  . next q=>cases h;exact⟨q,λ _=>by simp[RI]⟩
  . cases h
open Classical in
noncomputable abbrev FL:D->D->Hd->Option (D × Hd):=fI λ i j=>if GJ j then some (.int (i / j))else none
theorem Ee:RB K (rI Tg λ i j=>.int (i / j)) FL:=LA λ i j z h=>by
  split at h
  . next q=>cases h;exact⟨q,λ _=>by simp[RI]⟩
  . cases h
open Classical in
noncomputable abbrev T9:D->D->Hd->Option (D × Hd):=fI λ i j=>if LK i j then some (.int (i ^ j.toNat))else none
theorem SG:RB K (rI Tf λ i j=>.int (i ^ j.toNat)) T9:=LA λ i j z h=>by
  split at h
  . next q=>cases h;exact⟨q,λ _=>by simp[RI]⟩
  . cases h
noncomputable abbrev gLt:D->D->Hd->Option (D × Hd):=fI λ i j=>some (.bl (decide (i < j)))
noncomputable abbrev gLe:D->D->Hd->Option (D × Hd):=fI λ i j=>some (.bl (decide (i <= j)))
noncomputable abbrev gGt:D->D->Hd->Option (D × Hd):=fI λ i j=>some (.bl (decide (j < i)))
noncomputable abbrev gGe:D->D->Hd->Option (D × Hd):=fI λ i j=>some (.bl (decide (j <= i)))
theorem Gv:RB K (rI0 λ i j=>.bl (decide (i < j))) gLt:=G7 λ _ _ _=>by simp[RI]
theorem Tt:RB K (rI0 λ i j=>.bl (decide (i <= j))) gLe:=G7 λ _ _ _=>by simp[RI]
theorem Ic:RB K (rI0 λ i j=>.bl (decide (j < i))) gGt:=G7 λ _ _ _=>by simp[RI]
theorem Tv:RB K (rI0 λ i j=>.bl (decide (j <= i))) gGe:=G7 λ _ _ _=>by simp[RI]
noncomputable def scI:I->Option V
  | .non=>some .non
  | .bl b=>some (.bl b)
  | .int i=>some (.int i)
  | .str x=>some (.str x)
  | .tup _=>none
theorem Gq{i:I}{v w:V}(e:scI i=some w)(h:RI K H i v):v=w:=by
  cases i with
  | tup _=>simp[scI]at e
  | _=>simp only[scI,Option.some.injEq]at e;subst e;simpa only[RI]using h
noncomputable def EW(neg:Bool):D->D->Hd->Option (D × Hd)
  | .im i,.im j,hd=>match scI i,scI j with
    | some x,some y=>if J5 x y=true then some (.im (.bl (if neg then !decide (x=y)else decide (x=y))),hd)else none
    | _,_=>none
  | _,_,_=>none
theorem Ef:RB K rEq (EW false):=by
  intro ρ H hd d e v u Q z hd' hR h1 h2 hf hQ
  unfold EW at hf
  split at hf
  . split at hf
    . next x y e1 e2=>
      split at hf
      . next s=>
        cases hf
        simp only[RD]at h1 h2
        rw[Gq e1 h1,Gq e2 h2]
        exact⟨s,hQ ρ H _ .refl hR (by simp[RD,RI])⟩
      . cases hf
    . cases hf
  . cases hf
theorem Gs:RB K rNe (EW true):=by
  intro ρ H hd d e v u Q z hd' hR h1 h2 hf hQ
  unfold EW at hf
  split at hf
  . split at hf
    . next x y e1 e2=>
      split at hf
      . next s=>
        cases hf
        simp only[RD]at h1 h2
        rw[Gq e1 h1,Gq e2 h2]
        exact⟨s,hQ ρ H _ .refl hR (by simp[RD,RI])⟩
      . cases hf
    . cases hf
  . cases hf
mutual
noncomputable def I.py:I->PyData
  | .non=>.none
  | .bl b=>.bool b
  | .int i=>.int i
  | .str x=>.str x
  | .tup ds=>.tuple (I.pys ds)
noncomputable def I.pys:List I->List PyData
  | []=>[]
  | d :: ds=>I.py d :: I.pys ds
end
mutual
theorem RI.rep:∀ {i:I} {v:V},RI K H i v->Rep K H i.py v
  | .non,v,h=>by simpa only[RI,I.py,Rep]using h
  | .bl _,v,h=>by simpa only[RI,I.py,Rep]using h
  | .int _,v,h=>by simpa only[RI,I.py,Rep]using h
  | .str _,v,h=>by simpa only[RI,I.py,Rep]using h
  | .tup ds,v,h=>by
    simp only[RI]at h
    obtain⟨a,xs,e,q,r⟩:=h
    simp only[I.py,Rep]
    exact⟨a,xs,e,q,RIs.rep r⟩
theorem RIs.rep:∀ {i:List I} {v:List V},RIs K H i v->C3 K H (I.pys i) v
  | [],v,h=>by simpa only[RIs,I.pys,C3]using h
  | d :: ds,v,h=>by
    simp only[RIs]at h
    obtain⟨x,r,e,q,z⟩:=h
    simp only[I.pys,C3]
    exact⟨x,r,e,q.rep,RIs.rep z⟩
end
noncomputable def pyD(hd:Hd):D->Option PyData
  | .im i=>some i.py
  | .mu n=>match hd[n]? with
    | some (.lst ds)=>(BS ds).map λ is=>.list (I.pys is)
    | _=>none
  | .ro ns=>some (.list (I.pys (ns.map I.int)))
  | _=>none
theorem Dw{d:D}{v:V}{p:PyData}(hR:RH K ρ H hd)(h:RD K ρ H d v)(e:pyD hd d=some p):Rep K H p v:=by
  cases d with
  | im i=>simp only[pyD,Option.some.injEq]at e;subst e;simp only[RD]at h;exact h.rep
  | mu n=>
    simp only[pyD]at e
    simp only[RD]at h
    obtain⟨a,hn,rfl⟩:=h
    split at e
    . next q=>
      obtain⟨is,e1,rfl⟩:=Option.map_eq_some_iff.mp e
      obtain⟨xs,e2,e3⟩:=hR.lst hn q
      rw[FU e1]at e3
      simp only[Rep]
      exact⟨a,xs,rfl,SqL.of e2,e3.is.rep⟩
    . cases e
  | ro ns=>
    simp only[pyD,Option.some.injEq]at e;subst e
    obtain⟨a,xs,rfl,q,r⟩:=h.lst hR (hd:=hd) (ds:=ns.map λ n=>.im (.int n)) rfl
    simp only[Rep]
    refine⟨a,xs,rfl,q,RIs.rep (RDs.is (ρ:=ρ) ?_)⟩
    rw[List.map_map]
    exact r
  | tm _=>simp[pyD]at e
noncomputable def Hs(neg:Bool):D->D->Hd->Option (D × Hd):=λ d e hd=>match pyD hd d,pyD hd e with
  | some x,some y=>if x.canLay0=true/\y.canLay0=true/\min x.depth y.depth <= 60 then some (.im (.bl (if neg then !PyData.eqv x y else PyData.eqv x y)),hd)else none
  | _,_=>none
theorem Eg:RB K (Nm K) (Hs false):=by
  intro ρ H hd d e v u Q z hd' hR h1 h2 hf hQ
  unfold Hs at hf
  split at hf
  . next e1 e2=>
    split at hf
    . next c=>cases hf;exact⟨_,_,Dw hR h1 e1,Dw hR h2 e2,c.1,c.2.1,c.2.2,hQ ρ H _ .refl hR (by simp[RD,RI])⟩
    . cases hf
  . cases hf
theorem Gu:RB K (Ni K) (Hs true):=by
  intro ρ H hd d e v u Q z hd' hR h1 h2 hf hQ
  unfold Hs at hf
  split at hf
  . next e1 e2=>
    split at hf
    . next c=>cases hf;exact⟨_,_,Dw hR h1 e1,Dw hR h2 e2,c.1,c.2.1,c.2.2,hQ ρ H _ .refl hR (by simp[RD,RI])⟩
    . cases hf
  . cases hf
noncomputable abbrev gEq:=FQ (EW false) (Hs false)
noncomputable abbrev gNe:=FQ (EW true) (Hs true)
noncomputable def gIx:D->D->Hd->Option (D × Hd)
  | d,.im (.int i),hd=>(BI hd d).bind λ ds=>(atI ds i).map (·,hd)
  | _,_,_=>none
theorem Kg{α β:Type}{xs:List α}{ys:List β}{i:Int}{y:β}(h:xs.length=ys.length)(e:atI ys i=some y):∃ (j:Nat),ys[j]? = some y/\∀ x,xs[j]? = some x->atI xs i=some x:=by
  unfold atI at e
  obtain⟨j,e1,e2⟩:=Option.bind_eq_some_iff.mp e
  exact⟨j,e2,λ x q=>by unfold atI;rw[h,e1];exact q⟩
noncomputable def Ie(K:PySem.W.Frag):R2:=λ x y H Q=>Nk K x y H Q ∨ Nj K x y H Q
theorem Tu:RB K (Ie K) gIx:=by
  intro ρ H hd d e v u Q z hd' hR h1 h2 hf hQ
  unfold gIx at hf
  split at hf
  . obtain⟨ds,e1,hf⟩:=Option.bind_eq_some_iff.mp hf
    obtain⟨w,e2,e3⟩:=Option.map_eq_some_iff.mp hf
    cases e3
    obtain⟨a,xs,rfl,q,r⟩:=h1.seq hR e1
    simp only[RD,RI]at h2
    subst h2
    obtain⟨j,j1,j2⟩:=Kg r.len e2
    obtain⟨x,x1,x2⟩:=r.get j1
    rcases q with q|q
    . exact .inl ⟨a,xs,_,x,rfl,rfl,q,j2 x x1,hQ ρ H x .refl hR x2⟩
    . exact .inr ⟨a,xs,_,x,rfl,rfl,q,j2 x x1,hQ ρ H x .refl hR x2⟩
  . cases hf
noncomputable def EG(xs:List D)(lo hi:Option Int):List D:=(xs.drop (HT.sIx xs.length 0 lo)).take (HT.sIx xs.length xs.length hi - HT.sIx xs.length 0 lo)
theorem Kc{ds:List D}{xs:List V}{lo hi:Option Int}(r:RDs K ρ H ds xs):RDs K ρ H (EG ds lo hi) (EY xs lo hi):=by
  unfold EG EY
  rw[r.len]
  exact(r.drop _).take _
noncomputable abbrev MO1:=Ls->Hd->Option (Option Int × Hd)
noncomputable def RO1(K:PySem.W.Frag)(t:TO)(m:MO1):Prop:=∀ (ρ:List Addr) (σ:St) (H:Hp) (hd:Hd) (ls:Ls) (Q:Option Int->Hp->Prop) (d:Option Int) (hd':Hd),RH K ρ H hd->RL K ρ H ls σ->m ls hd=some (d,hd') ->
  (∀ ρ' H',Ext ρ H ρ' H'->RH K ρ' H' hd'->Q d H')->t σ H Q
noncomputable def Bu:MO1:=λ _ hd=>some (none,hd)
noncomputable def Cs(m:ME):MO1:=λ ls hd=>(m ls hd).bind λ p=>match p.1 with
  | .im (.int i)=>some (some i,p.2)
  | _=>none
theorem Pi:RO1 K Hc Bu:=by
  intro ρ σ H hd ls Q d hd' hR hL hm hQ
  cases hm
  exact hQ ρ H .refl hR
theorem Ph{t:TE}{m:ME}(h:RE K t m):RO1 K (Kv t) (Cs m):=by
  intro ρ σ H hd ls Q d hd' hR hL hm hQ
  obtain⟨⟨d1,h1⟩,e1,hm⟩:=Option.bind_eq_some_iff.mp hm
  dsimp only at hm
  split at hm
  . cases hm
    exact h ρ σ H hd ls _ _ _ hR hL e1 λ ρ1 H1 v x1 R1 r1=>⟨_,by simpa only[RD,RI]using r1,hQ ρ1 H1 x1 R1⟩
  . cases hm
noncomputable def EU(m:ME)(ml mh:MO1):ME:=λ ls hd=>(m ls hd).bind λ p=>(ml ls p.2).bind λ l=>(mh ls l.2).bind λ h=>(AY p.1).bind λ ds=>
  if ¬ (HT.sIx ds.length 0 l.1=0/\HT.sIx ds.length ds.length h.1=ds.length)then some (B0 (EG ds l.1 h.1),h.2)else none
theorem S7{t:TE}{tl th:TO}{m:ME}{ml mh:MO1}(h:RE K t m)(hl:RO1 K tl ml)(hh:RO1 K th mh):RE K (tSl (LD K) t tl th) (EU m ml mh):=by
  intro ρ σ H hd ls Q d hd' hR hL hm hQ
  obtain⟨⟨d1,h1⟩,e1,hm⟩:=Option.bind_eq_some_iff.mp hm
  obtain⟨⟨d2,h2⟩,e2,hm⟩:=Option.bind_eq_some_iff.mp hm
  obtain⟨⟨d3,h3⟩,e3,hm⟩:=Option.bind_eq_some_iff.mp hm
  obtain⟨ds,e4,hm⟩:=Option.bind_eq_some_iff.mp hm
  dsimp only at e2 e3 e4 hm
  split at hm
  . next c=>
    cases hm
    refine h ρ σ H hd ls _ d1 h1 hR hL e1 λ ρ1 H1 v1 x1 R1 r1=>?_
    refine hl ρ1 σ H1 h1 ls _ d2 h2 R1 (hL.ext hR x1) e2 λ ρ2 H2 x2 R2=>?_
    refine hh ρ2 σ H2 h2 ls _ d3 _ R2 (hL.ext hR (x1.trans R1 x2)) e3 λ ρ3 H3 x3 R3=>?_
    obtain⟨a,xs,rfl,q,r⟩:=((r1.ext R1 x2).ext R2 x3).tup e4
    refine⟨a,xs,rfl,q,by rw[r.len];exact c,λ p hp=>?_⟩
    obtain⟨R4,x4⟩:=R3.hid (ho:=.tup (EY xs d2 d3)) hp
    exact hQ ρ3 _ _ (((x1.trans R1 x2).trans R2 x3).trans R3 x4) R4 (Bz (SqT.of AQ) ((Kc r).ext R3 x4))
  . cases hm
noncomputable def LQ(m:ME)(ml mh:MO1):MA:=λ ls hd=>(m ls hd).bind λ p=>(ml ls p.2).bind λ l=>(mh ls l.2).bind λ h=>(B6 h.2 p.1).bind λ ds=>some (EG ds l.1 h.1,h.2)
theorem Ru{t:TE}{tl th:TO}{m:ME}{ml mh:MO1}(h:RE K t m)(hl:RO1 K tl ml)(hh:RO1 K th mh):RN K (tSl (LF K) t tl th) (LQ m ml mh):=by
  intro ρ σ H hd ls Q d hd' hR hL hm hQ
  obtain⟨⟨d1,h1⟩,e1,hm⟩:=Option.bind_eq_some_iff.mp hm
  obtain⟨⟨d2,h2⟩,e2,hm⟩:=Option.bind_eq_some_iff.mp hm
  obtain⟨⟨d3,h3⟩,e3,hm⟩:=Option.bind_eq_some_iff.mp hm
  obtain⟨ds,e4,hm⟩:=Option.bind_eq_some_iff.mp hm
  dsimp only at e2 e3 e4 hm
  cases hm
  refine h ρ σ H hd ls _ d1 h1 hR hL e1 λ ρ1 H1 v1 x1 R1 r1=>?_
  refine hl ρ1 σ H1 h1 ls _ d2 h2 R1 (hL.ext hR x1) e2 λ ρ2 H2 x2 R2=>?_
  refine hh ρ2 σ H2 h2 ls _ d3 _ R2 (hL.ext hR (x1.trans R1 x2)) e3 λ ρ3 H3 x3 R3=>?_
  obtain⟨a,xs,rfl,q,r⟩:=RD.lst R3 ((r1.ext R1 x2).ext R2 x3) e4
  refine⟨a,xs,rfl,q,λ p hp=>?_⟩
  obtain⟨R4,x4⟩:=R3.hid (ho:=.lst (EY xs d2 d3)) hp
  have x123:=(x1.trans R1 x2).trans R2 x3
  exact hQ ρ3 _ p _ (x123.trans R3 x4) R4 (x123.none hR hp R3) (R3.out hp) AQ ((Kc r).ext R3 x4)
noncomputable def mCB(f:List D->Hd->Option (D × Hd))(ma:MA):ME:=λ ls hd=>(ma ls hd).bind λ p=>f p.1 p.2
theorem Ol{r:List V->Hp->VK->Prop}{f:List D->Hd->Option (D × Hd)}{t:TA}{m:MA}(hr:RF K r f)(h:RA K t m):RE K (tCB r t) (mCB f m):=by
  intro ρ σ H hd ls Q d hd' hR hL hm hQ
  obtain⟨⟨d1,h1⟩,e1,hm⟩:=Option.bind_eq_some_iff.mp hm
  refine h ρ σ H hd ls _ d1 h1 hR hL e1 λ ρ1 H1 v1 x1 R1 r1=>?_
  exact hr ρ1 H1 h1 d1 v1 Q d hd' R1 r1 hm λ ρ' H' w x2 R2 r2=>hQ ρ' H' w (x1.trans R1 x2) R2 r2
noncomputable def f1(tp:Bool)(g:List D->Option D):List D->Hd->Option (D × Hd)
  | [d],hd=>((if tp then BI hd d else B6 hd d)).bind λ ds=>(g ds).map (·,hd)
  | _,_=>none
theorem ET{tp:Bool}{r:List V->Hp->VK->Prop}{g:List D->Option D}(h:RG K tp r g):RF K r (f1 tp g):=by
  intro ρ H hd ds vs Q z hd' hR h1 hf hQ
  unfold f1 at hf
  split at hf
  . next d hd'=>
    obtain⟨es,e1,hf⟩:=Option.bind_eq_some_iff.mp hf
    obtain⟨w,e2,e3⟩:=Option.map_eq_some_iff.mp hf
    cases e3
    simp only[RDs]at h1
    obtain⟨x,r,rfl,rx,rfl⟩:=h1
    cases tp with
    | true=>
      rw[if_pos rfl]at e1
      obtain⟨a,xs,rfl,q,rr⟩:=rx.seq hR e1
      exact h ρ H hd a xs es Q z hR (q.imp id λ q=>⟨rfl,q⟩) rr e2 λ H' w x R r=>hQ ρ H' w x R r
    | false=>
      rw[if_neg Bool.false_ne_true]at e1
      obtain⟨a,xs,rfl,q,rr⟩:=rx.lst hR e1
      exact h ρ H hd a xs es Q z hR (.inl q) rr e2 λ H' w x R r=>hQ ρ H' w x R r
  . cases hf
noncomputable def EE(g:List D->Option D)(ml:MA):ME:=λ ls hd=>(ml ls hd).bind λ p=>(g p.1).map (·,p.2)
theorem SE{tp:Bool}{r:List V->Hp->VK->Prop}{g:List D->Option D}{t:TE}{m:MA}(hr:RG K tp r g)(h:RN K t m):RE K (tCB r (Bx t Ca)) (EE g m):=by
  intro ρ σ H hd ls Q d hd' hR hL hm hQ
  obtain⟨⟨d1,h1⟩,e1,hm⟩:=Option.bind_eq_some_iff.mp hm
  obtain⟨w,e2,e3⟩:=Option.map_eq_some_iff.mp hm
  cases e3
  refine h ρ σ H hd ls _ d1 _ hR hL e1 λ ρ1 H1 a xs x1 R1 na oa ea r1=>?_
  exact hr ρ1 H1 _ a xs d1 Q d R1 (.inl (SqL.of ea)) r1 e2 λ H' w x R r=>hQ ρ1 H' w (x1.trans R1 x) R r
noncomputable def CO(ds:List D):Option D:=some (.im (.int ds.length))
theorem E3:RG K true (SI K) CO:=by
  intro ρ H hd a xs ds Q z hR q r e hQ
  cases e
  refine⟨a,xs,rfl,q.imp id λ q=>q.2,?_⟩
  rw[r.len]
  exact hQ H _ .refl hR (by simp[RD,RI])
noncomputable def Cu(ds:List D):Option D:=some (B0 ds)
theorem FE:RG K true (JF K) Cu:=by
  intro ρ H hd a xs ds Q z hR q r e hQ
  cases e
  refine⟨a,xs,rfl,?_⟩
  rcases q with q|⟨_,q⟩
  . refine .inl ⟨q,λ p hp=>?_⟩
    obtain⟨R2,x2⟩:=hR.hid (ho:=.tup xs) hp
    exact hQ _ _ x2 R2 (Bz (SqT.of AQ) (r.ext hR x2))
  . exact .inr ⟨q,hQ H _ .refl hR (Bz q r)⟩
noncomputable def Jf(ds:List D):Option D:=(BN ds).map λ ns=>.im (.int ns.sum)
noncomputable def Uf(K:PySem.W.Frag):List V->Hp->VK->Prop:=λ xs H Q=>On K xs H Q ∨ Om K xs H Q
theorem M8:RG K true (Uf K) Jf:=by
  intro ρ H hd a xs ds Q z hR q r e hQ
  obtain⟨ns,e1,rfl⟩:=Option.map_eq_some_iff.mp e
  rw[Ga e1]at r
  have:=KF r
  subst this
  rcases q with q|⟨_,q⟩
  . exact .inl ⟨a,ns,rfl,q,hQ H _ .refl hR (by simp[RD,RI])⟩
  . exact .inr ⟨a,ns,rfl,q,hQ H _ .refl hR (by simp[RD,RI])⟩
noncomputable def LS(ds:List D):Option D:=(C7 ds).map λ bs=>.im (.bl (bs.all id))
noncomputable def Hq(ds:List D):Option D:=(C7 ds).map λ bs=>.im (.bl (bs.any id))
theorem S2:RG K false (SK K) LS:=by
  intro ρ H hd a xs ds Q z hR q r e hQ
  obtain⟨ns,e1,rfl⟩:=Option.map_eq_some_iff.mp e
  rw[Hw e1]at r
  have:=JE r
  subst this
  rcases q with q|⟨q,_⟩
  . exact⟨a,ns,rfl,q,hQ H _ .refl hR (by simp[RD,RI])⟩
  . cases q
theorem M9:RG K false (SJ K) Hq:=by
  intro ρ H hd a xs ds Q z hR q r e hQ
  obtain⟨ns,e1,rfl⟩:=Option.map_eq_some_iff.mp e
  rw[Hw e1]at r
  have:=JE r
  subst this
  rcases q with q|⟨q,_⟩
  . exact⟨a,ns,rfl,q,hQ H _ .refl hR (by simp[RD,RI])⟩
  . cases q
theorem Ho{α:Type}{xs:List α}(h:xs ≠ []):0 < xs.length:=by cases xs <;> simp_all
noncomputable def P1:List D->Hd->Option (D × Hd)
  | [.im (.int i),.im (.int j)],hd=>some (.im (.int (if j > i then j else i)),hd)
  | _,_=>none
noncomputable def HP:List D->Hd->Option (D × Hd)
  | [.im (.int i),.im (.int j)],hd=>some (.im (.int (if j < i then j else i)),hd)
  | _,_=>none
theorem Po:RF K (λ xs H Q=>∃ i j,xs=[.int i,.int j]/\Q (.int (if j < i then j else i)) H) HP:=by
  intro ρ H hd ds vs Q z hd' hR h1 hf hQ
  unfold HP at hf
  split at hf
  . cases hf
    simp only[RDs,RD,RI]at h1
    obtain⟨x,r,rfl,rfl,y,r2,rfl,rfl,rfl⟩:=h1
    exact⟨_,_,rfl,hQ ρ H _ .refl hR (by simp[RD,RI])⟩
  . cases hf
noncomputable def Jj:List D->Hd->Option (D × Hd)
  | [.im (.int i)],hd=>some (.im (.int (if i < 0 then -i else i)),hd)
  | _,_=>none
theorem S4:RF K (λ xs H Q=>∃ i,xs=[.int i]/\Q (.int (if i < 0 then -i else i)) H) Jj:=by
  intro ρ H hd ds vs Q z hd' hR h1 hf hQ
  unfold Jj at hf
  split at hf
  . cases hf
    simp only[RDs,RD,RI]at h1
    obtain⟨x,r,rfl,rfl,rfl⟩:=h1
    exact⟨_,rfl,hQ ρ H _ .refl hR (by simp[RD,RI])⟩
  . cases hf
noncomputable def UC(ma:ME):MA:=λ ls hd=>(ma ls hd).bind λ p=>(BI p.2 p.1).map (·,p.2)
noncomputable def HI(ml:MA):MA:=ml
theorem NY{t:TE}{m:MA}(h:RN K t m):RN K (tCB (Hf K) (Bx t Ca)) (HI m):=by
  intro ρ σ H hd ls Q d hd' hR hL hm hQ
  refine h ρ σ H hd ls _ d _ hR hL hm λ ρ1 H1 a xs x1 R1 na oa ea r1=>?_
  refine⟨a,xs,rfl,.inl (SqL.of ea),λ l hl=>?_⟩
  obtain⟨R2,x2⟩:=R1.hid (ho:=.lst xs) hl
  exact hQ ρ1 _ l xs (x1.trans R1 x2) R2 (x1.none hR hl R1) (R1.out hl) AQ (r1.ext R1 x2)
noncomputable def EA(d:PyData):Prop:=d.showable=true/\d.hasDict=false/\isDisplay d=true/\d.depth <= 30/\d.shown.length <= sizeLine
open Classical in
noncomputable def FP:List D->Hd->Option (D × Hd)
  | [d],hd=>match pyD hd d with
    | some p=>if EA p then some (.im (.str p.shown),hd)else none
    | none=>none
  | _,_=>none
theorem KC:RF K (LH K) FP:=by
  intro ρ H hd ds vs Q z hd' hR h1 hf hQ
  unfold FP at hf
  split at hf
  . split at hf
    . next p e=>
      split at hf
      . next c=>
        cases hf
        simp only[RDs]at h1
        obtain⟨x,r,rfl,rx,rfl⟩:=h1
        exact⟨x,p,rfl,Dw hR rx e,c.1,c.2.1,c.2.2.1,c.2.2.2.1,c.2.2.2.2,hQ ρ H _ .refl hR (by simp[RD,RI])⟩
      . cases hf
    . cases hf
  . cases hf
noncomputable def FN:I->Option V
  | .non=>some .non
  | .bl b=>some (.bl b)
  | .int i=>some (.int i)
  | .str x=>some (.str x)
  | .tup _=>none
noncomputable def CC:List D->Option (List V)
  | []=>some []
  | .im i :: r=>(FN i).bind λ v=>(CC r).map (v :: ·)
  | _ :: _=>none
theorem Ji{i:I}{v w:V}(e:FN i=some w)(h:RI K H i v):v=w/\DN w=true:=by
  cases i with
  | tup _=>simp[FN]at e
  | _=>simp only[FN,Option.some.injEq]at e;subst e;exact⟨by simpa only[RI]using h,rfl⟩
theorem IJ:∀ {ds:List D} {vs ws:List V},CC ds=some ws->RDs K ρ H ds vs->vs=ws/\ws.all DN=true
  | [],vs,ws,e,h=>by simp[CC]at e;subst e;simp only[RDs]at h;subst h;exact⟨rfl,rfl⟩
  | .im i :: r,vs,ws,e,h=>by
    simp only[CC]at e
    obtain⟨v,e1,e⟩:=Option.bind_eq_some_iff.mp e
    obtain⟨us,e2,rfl⟩:=Option.map_eq_some_iff.mp e
    simp only[RDs,RD]at h
    obtain⟨x,y,rfl,h1,h2⟩:=h
    obtain⟨rfl,f1⟩:=Ji e1 h1
    obtain⟨rfl,f2⟩:=IJ e2 h2
    exact⟨rfl,by simp[f1,f2]⟩
  | .mu _ :: _,_,_,e,_=>by simp[CC]at e
  | .tm _ :: _,_,_,e,_=>by simp[CC]at e
  | .ro _ :: _,_,_,e,_=>by simp[CC]at e
noncomputable def mMt(f:D->List D->Hd->Option (D × Hd))(mo:ME)(ma:MA):ME:=λ ls hd=>(mo ls hd).bind λ p=>match B6 p.2 p.1 with
  | some _=>(ma ls p.2).bind λ q=>f p.1 q.1 q.2
  | none=>none
noncomputable def RM(K:PySem.W.Frag)(r:V->List V->Hp->VK->Prop)(f:D->List D->Hd->Option (D × Hd)):Prop:=∀ (ρ:List Addr) (H:Hp) (hd:Hd) (d:D) (v:V) (ds:List D) (vs:List V) (Q:VK) (z:D) (hd':Hd),RH K ρ H hd->RD K ρ H d v->RDs K ρ H ds vs->f d ds hd=some (z,hd') ->
  (∀ ρ' H' w,Ext ρ H ρ' H'->RH K ρ' H' hd'->RD K ρ' H' z w->Q w H')->r v vs H Q
theorem Tr{r:V->List V->Hp->VK->Prop}{f:D->List D->Hd->Option (D × Hd)}{to:TE}{t:TA}{mo:ME}{ma:MA}(hr:RM K r f)(ho:RE K to mo)(ha:RA K t ma):RE K (tBM K "list" r to t) (mMt f mo ma):=by
  intro ρ σ H hd ls Q d hd' hR hL hm hQ
  obtain⟨⟨d1,h1⟩,e1,hm⟩:=Option.bind_eq_some_iff.mp hm
  dsimp only at hm
  split at hm
  . next e=>
    obtain⟨⟨d2,h2⟩,e2,hm⟩:=Option.bind_eq_some_iff.mp hm
    refine ho ρ σ H hd ls _ d1 h1 hR hL e1 λ ρ1 H1 v x1 R1 r1=>⟨?_,?_⟩
    . obtain⟨a,xs,rfl,q,_⟩:=r1.lst R1 e
      exact .inl ⟨rfl,xs,q⟩
    . exact ha ρ1 σ H1 h1 ls _ d2 h2 R1 (hL.ext hR x1) e2 λ ρ2 H2 vs x2 R2 r2=>hr ρ2 H2 h2 d1 v d2 vs Q d hd' R2 (r1.ext R1 x2) r2 hm λ ρ' H' w x3 R3 r3=>hQ ρ' H' w ((x1.trans R1 x2).trans R2 x3) R3 r3
  . cases hm
open Classical in
noncomputable def Bf:D->List D->Hd->Option (D × Hd)
  | .mu n,[x],hd=>match hd[n]? with
    | some (.lst ds)=>if ER ds.length then some (.im .non,hd.set n (.lst (ds ++ [x])))else none
    | _=>none
  | _,_,_=>none
theorem Fd:RM K KI Bf:=by
  intro ρ H hd d v ds vs Q z hd' hR h1 h2 hf hQ
  unfold Bf at hf
  split at hf
  . split at hf
    . next q=>
      split at hf
      . next c=>
        cases hf
        simp only[RD]at h1
        obtain⟨a,hn,rfl⟩:=h1
        simp only[RDs]at h2
        obtain⟨x,r,rfl,rx,rfl⟩:=h2
        obtain⟨xs,e1,e2⟩:=hR.lst hn q
        obtain⟨R2,x2⟩:=hR.put hn (o:=.lst (_ ++ [_])) (ho:=.lst (xs ++ [x])) ⟨_,rfl,e2.app (.cons rx .nil)⟩
        exact⟨a,xs,x,rfl,rfl,e1,by rw[e2.len];exact c,hQ ρ _ _ x2 R2 (by simp[RD,RI])⟩
      . cases hf
    . cases hf
  . cases hf
end
end L2
namespace L2
open PySem PySem.Spec PyProof.Rows
section
variable{K:PySem.W.Frag}{ρ ρ':List Addr}{H H':Hp}{hd hd':Hd}
noncomputable def BQ:MS:=λ ls hd=>some (.nx ls,hd)
theorem KA:RS K Ia BQ:=by
  intro ρ σ H hd ls E f hd' hR hL hm hQ
  cases hm
  exact hQ ρ H .refl hR σ hL
noncomputable def AG(a b:MS):MS:=λ ls hd=>(a ls hd).bind λ p=>match p.1 with
  | .nx ls1=>b ls1 p.2
  | f=>some (f,p.2)
theorem M5{t u:TS}{a b:MS}(ha:RS K t a)(hb:RS K u b):RS K (J0 t u) (AG a b):=by
  intro ρ σ H hd ls E f hd' hR hL hm hQ
  obtain⟨⟨f1,h1⟩,e1,hm⟩:=Option.bind_eq_some_iff.mp hm
  refine ha ρ σ H hd ls { E with nx:=u E } f1 h1 hR hL e1 λ ρ1 H1 x1 R1=>?_
  cases f1 with
  | nx ls1=>
    intro σ1 L1
    exact hb ρ1 σ1 H1 h1 ls1 E f hd' R1 L1 hm λ ρ2 H2 x2 R2=>hQ ρ2 H2 (x1.trans R1 x2) R2
  | bk ls1=>cases hm;exact hQ ρ1 H1 x1 R1
  | ct ls1=>cases hm;exact hQ ρ1 H1 x1 R1
  | rt d=>cases hm;exact hQ ρ1 H1 x1 R1
noncomputable def Sz:MS:=λ ls hd=>some (.bk ls,hd)
noncomputable def UG:MS:=λ ls hd=>some (.ct ls,hd)
noncomputable def Ba(m:ME):MS:=λ ls hd=>(m ls hd).bind λ p=>some (.nx ls,p.2)
theorem Pe{t:TE}{m:ME}(h:RE K t m):RS K (Kx t) (Ba m):=by
  intro ρ σ H hd ls E f hd' hR hL hm hQ
  obtain⟨⟨d1,h1⟩,e1,hm⟩:=Option.bind_eq_some_iff.mp hm
  cases hm
  exact h ρ σ H hd ls _ d1 _ hR hL e1 λ ρ1 H1 v x1 R1 r1=>hQ ρ1 H1 x1 R1 σ (hL.ext hR x1)
noncomputable def Ab(m:ME):MS:=λ ls hd=>(m ls hd).bind λ p=>some (.rt p.1,p.2)
theorem J8{t:TE}{m:ME}(h:RE K t m):RS K (GP t) (Ab m):=by
  intro ρ σ H hd ls E f hd' hR hL hm hQ
  obtain⟨⟨d1,h1⟩,e1,hm⟩:=Option.bind_eq_some_iff.mp hm
  cases hm
  exact h ρ σ H hd ls _ d1 _ hR hL e1 λ ρ1 H1 v x1 R1 r1=>hQ ρ1 H1 x1 R1 v r1
noncomputable def UA:MS:=λ _ hd=>some (.rt (.im .non),hd)
noncomputable def BR(c:MT)(a b:MS):MS:=λ ls hd=>(c ls hd).bind λ p=>if p.1=true then a ls p.2 else b ls p.2
theorem Og{tc:TT}{t u:TS}{c:MT}{a b:MS}(hc:RT K tc c)(ha:RS K t a)(hb:RS K u b):RS K (J2 tc t u) (BR c a b):=by
  intro ρ σ H hd ls E f hd' hR hL hm hQ
  obtain⟨⟨d1,h1⟩,e1,hm⟩:=Option.bind_eq_some_iff.mp hm
  refine hc ρ σ H hd ls _ d1 h1 hR hL e1 λ ρ1 H1 x1 R1=>?_
  cases d1 with
  | true=>
    rw[if_pos rfl]at hm ⊢
    exact ha ρ1 σ H1 h1 ls E f hd' R1 (hL.ext hR x1) hm λ ρ2 H2 x2 R2=>hQ ρ2 H2 (x1.trans R1 x2) R2
  | false=>
    rw[if_neg Bool.false_ne_true]at hm ⊢
    exact hb ρ1 σ H1 h1 ls E f hd' R1 (hL.ext hR x1) hm λ ρ2 H2 x2 R2=>hQ ρ2 H2 (x1.trans R1 x2) R2
noncomputable def CU:MS:=λ _ _=>none
theorem JA:RS K Go CU:=by
  intro ρ σ H hd ls E f hd' hR hL hm hQ
  cases hm
noncomputable abbrev MG:=D->Ls->Hd->Option Ls
noncomputable abbrev MGs:=List D->Ls->Hd->Option Ls
noncomputable def RGt(K:PySem.W.Frag)(t:TG)(m:MG):Prop:=∀ (ρ:List Addr) (σ:St) (H:Hp) (hd:Hd) (ls ls':Ls) (d:D) (v:V) (Q:St->Hp->Prop),RH K ρ H hd->RL K ρ H ls σ->RD K ρ H d v->m d ls hd=some ls' ->
  (∀ σ',RL K ρ H ls' σ'->Q σ' H)->t v σ H Q
noncomputable def Jy(K:PySem.W.Frag)(t:TGs)(m:MGs):Prop:=∀ (ρ:List Addr) (σ:St) (H:Hp) (hd:Hd) (ls ls':Ls) (d:List D) (v:List V) (Q:St->Hp->Prop),RH K ρ H hd->RL K ρ H ls σ->RDs K ρ H d v->m d ls hd=some ls' ->
  (∀ σ',RL K ρ H ls' σ'->Q σ' H)->t v σ H Q
theorem RL.set{ls:Ls}{σ:St}{d:D}{v:V}(h:RL K ρ H ls σ)(i:Nat)(r:RD K ρ H d v):RL K ρ H (ls.set i (some d)) (σ.set i (some v)):=by
  refine⟨by simp[h.len],λ j e q=>?_⟩
  by_cases hij:i=j
  . subst hij
    have hl:i < ls.length:=by
      have:=(List.getElem?_eq_some_iff.mp q).1
      simpa using this
    rw[List.getElem?_set_self hl]at q
    cases q
    exact⟨v,by rw[List.getElem?_set_self (by rw[<- h.len];exact hl)],r⟩
  . rw[List.getElem?_set_ne hij]at q
    obtain⟨w,e1,e2⟩:=h.ob j e q
    exact⟨w,by rw[List.getElem?_set_ne hij];exact e1,e2⟩
noncomputable def AS(i:Nat):MG:=λ d ls _=>some (ls.set i (some d))
theorem KB{i:Nat}:RGt K (HM i) (AS i):=by
  intro ρ σ H hd ls ls' d v Q hR hL hd hm hQ
  cases hm
  exact hQ _ (hL.set i hd)
noncomputable def DE:MGs:=λ ds ls _=>match ds with
  | []=>some ls
  | _=>none
noncomputable def Aw(m:MG)(r:MGs):MGs:=λ ds ls hd=>match ds with
  | d :: es=>(m d ls hd).bind λ ls1=>r es ls1 hd
  | []=>none
theorem Pn:Jy K OK DE:=by
  intro ρ σ H hd ls ls' d v Q hR hL hd hm hQ
  cases d with
  | nil=>
    simp only[RDs]at hd;subst hd
    cases hm
    exact⟨rfl,hQ _ hL⟩
  | cons a b=>cases hm
theorem Na{t:TG}{u:TGs}{m:MG}{r:MGs}(h:RGt K t m)(h':Jy K u r):Jy K (Lb t u) (Aw m r):=by
  intro ρ σ H hd ls ls' d v Q hR hL hd hm hQ
  cases d with
  | nil=>cases hm
  | cons a b=>
    simp only[RDs]at hd
    obtain⟨x,y,rfl,h1,h2⟩:=hd
    obtain⟨ls1,e1,e2⟩:=Option.bind_eq_some_iff.mp hm
    exact⟨x,y,rfl,h ρ σ H _ ls ls1 a x _ hR hL h1 e1 λ σ1 L1=>h' ρ σ1 H _ ls1 ls' b y Q hR L1 h2 e2 hQ⟩
noncomputable def DD(n:Nat)(r:MGs):MG:=λ d ls hd=>(AY d).bind λ ds=>if ds.length=n then r ds ls hd else none
theorem S0{n:Nat}{u:TGs}{r:MGs}(h':Jy K u r):RGt K (La K n u) (DD n r):=by
  intro ρ σ H hd ls ls' d v Q hR hL hd hm hQ
  obtain⟨ds,e1,hm⟩:=Option.bind_eq_some_iff.mp hm
  split at hm
  . next c=>
    obtain⟨a,xs,rfl,q,rr⟩:=hd.tup e1
    exact⟨a,xs,rfl,q,by rw[rr.len];exact c,h' ρ σ H _ ls ls' ds xs Q hR hL rr hm hQ⟩
  . cases hm
noncomputable def Fp(m:ME)(g:MG):MS:=λ ls hd=>(m ls hd).bind λ p=>(g p.1 ls p.2).map λ ls'=>(.nx ls',p.2)
theorem M6{t:TE}{m:ME}{g:TG}{n:MG}(h:RE K t m)(hg:RGt K g n):RS K (GQ t g) (Fp m n):=by
  intro ρ σ H hd ls E f hd' hR hL hm hQ
  obtain⟨⟨d1,h1⟩,e1,hm⟩:=Option.bind_eq_some_iff.mp hm
  obtain⟨ls',e2,e3⟩:=Option.map_eq_some_iff.mp hm
  cases e3
  exact h ρ σ H hd ls _ d1 _ hR hL e1 λ ρ1 H1 v x1 R1 r1=>hg ρ1 σ H1 _ ls ls' d1 v _ R1 (hL.ext hR x1) r1 e2 λ σ' L'=>hQ ρ1 H1 x1 R1 σ' L'
noncomputable abbrev Ao(i:Nat)(m:ME):MS:=Fp m (AS i)
noncomputable def C0(ix:List Nat)(ma:MA):MS:=λ ls hd=>(ma ls hd).bind λ p=>if p.1.length=ix.length then some (.nx ((ix.zip p.1).foldl (λ l q=>l.set q.1 (some q.2)) ls),p.2)else none
theorem Rr{i j:Nat}{t:TA}{m:MA}(h:RA K t m):RS K (NK i j t) (C0 [i,j] m):=by
  intro ρ σ H hd ls E f hd' hR hL hm hQ
  obtain⟨⟨d1,h1⟩,e1,hm⟩:=Option.bind_eq_some_iff.mp hm
  dsimp only at hm
  split at hm
  . next c=>
    cases hm
    refine h ρ σ H hd ls _ d1 _ hR hL e1 λ ρ1 H1 v x1 R1 r1=>?_
    match d1,c,r1,hQ with
    | [a,b],_,r1,hQ=>
      simp only[RDs]at r1
      obtain⟨x,r,rfl,ra,y,r2,rfl,rb,rfl⟩:=r1
      exact⟨x,y,rfl,hQ ρ1 H1 x1 R1 _ (((hL.ext hR x1).set i ra).set j rb)⟩
  . cases hm
noncomputable def GE(i j k:Nat)(ma:MA):MS:=C0 [k,j,i] (λ ls hd=>(ma ls hd).map λ p=>(p.1.reverse,p.2))
theorem Pc{i j k:Nat}{t:TA}{m:MA}(h:RA K t m):RS K (Kw i j k t) (GE i j k m):=by
  intro ρ σ H hd ls E f hd' hR hL hm hQ
  obtain⟨⟨d1,h1⟩,e1,hm⟩:=Option.bind_eq_some_iff.mp hm
  obtain⟨⟨d2,h2⟩,e2,e3⟩:=Option.map_eq_some_iff.mp e1
  cases e3
  dsimp only at hm
  split at hm
  . next c=>
    cases hm
    refine h ρ σ H hd ls _ d2 _ hR hL e2 λ ρ1 H1 v x1 R1 r1=>?_
    have c:d2.length=3:=by simpa using c
    match d2,c,r1,hQ with
    | [a,b,e],_,r1,hQ=>
      simp only[RDs]at r1
      obtain⟨x,r,rfl,ra,y,r2,rfl,rb,z,r3,rfl,rc,rfl⟩:=r1
      exact⟨x,y,z,rfl,hQ ρ1 H1 x1 R1 _ ((((hL.ext hR x1).set k rc).set j rb).set i ra)⟩
  . cases hm
noncomputable abbrev Gd:=List (Nat × List D)
noncomputable abbrev MI:=Ls->Hd->Option ((List D × Gd) × Hd)
noncomputable def GOk(hd:Hd)(g:Gd):Prop:=∀ p ∈ g,hd[p.1]? = some (.lst p.2)
@[simp] theorem Ap(hd:Hd):GOk hd []:=λ p h=>by cases h
noncomputable def Jw(K:PySem.W.Frag)(ρ:List Addr)(H:Hp)(J:It)(ds:List D)(g:Gd):Prop:=∀ (ρ2:List Addr) (H2:Hp) (hd2:Hd),Ext ρ H ρ2 H2->RH K ρ2 H2 hd2->GOk hd2 g ->
  ∀ i:Nat,(i < ds.length->J.go i H2/\∀ x H3,J.yld i H2 x H3->∃ ρ3 d,Ext ρ2 H2 ρ3 H3/\ρ3=ρ2/\RH K ρ3 H3 hd2/\ds[i]? = some d/\RD K ρ3 H3 d x)/\(i=ds.length->J.stop i H2)
noncomputable def RIt(K:PySem.W.Frag)(t:TI)(m:MI):Prop:=∀ (ρ:List Addr) (σ:St) (H:Hp) (hd:Hd) (ls:Ls) (Q:It->Hp->Prop) (d:List D) (g:Gd) (hd':Hd),RH K ρ H hd->RL K ρ H ls σ->m ls hd=some ((d,g),hd') ->
  (∀ ρ' H' J,Ext ρ H ρ' H'->RH K ρ' H' hd'->GOk hd' g->Jw K ρ' H' J d g->Q J H')->t σ H Q
theorem Kj{a:Addr}{xs:List V}{ds:List D}(hR:RH K ρ H hd)(q:SqT K H a xs)(r:RDs K ρ H ds xs)(g:Gd):Jw K ρ H (Itt K a) ds g:=by
  intro ρ2 H2 hd2 x2 R2 _ i
  have q2:=(x2.grow hR).sq q
  have r2:=r.ext hR x2
  have uniq:∀ ys,SqT K H2 a ys->True:=λ _ _=>trivial
  refine⟨λ hi=>?_,λ hi=>⟨xs,q2,by rw[r2.len,hi];exact Nat.le_refl _⟩⟩
  have e:ds[i]? = some ds[i]:=by simp[hi]
  obtain⟨x,x1,x3⟩:=r2.get e
  refine⟨⟨xs,x,q2,x1⟩,λ y H3 ⟨e3,hy⟩=>?_⟩
  subst e3
  have:=hy xs q2
  rw[x1]at this
  cases this
  exact⟨ρ2,_,.refl,rfl,R2,e,x3⟩
noncomputable def C6(m:ME):MI:=λ ls hd=>(m ls hd).bind λ p=>(AY p.1).map λ ds=>((ds,[]),p.2)
theorem Ry{t:TE}{m:ME}(h:RE K t m):RIt K (LW K t) (C6 m):=by
  intro ρ σ H hd ls Q d g hd' hR hL hm hQ
  obtain⟨⟨d1,h1⟩,e1,hm⟩:=Option.bind_eq_some_iff.mp hm
  obtain⟨ds,e2,e3⟩:=Option.map_eq_some_iff.mp hm
  cases e3
  refine h ρ σ H hd ls _ d1 _ hR hL e1 λ ρ1 H1 v x1 R1 r1=>?_
  obtain⟨a,xs,rfl,q,r⟩:=r1.tup e2
  exact⟨a,rfl,⟨xs,q⟩,hQ ρ1 H1 _ x1 R1 (Ap _) (Kj R1 q r [])⟩
noncomputable def Fm(m:ME):MI:=λ ls hd=>(m ls hd).bind λ p=>match p.1 with
  | .mu n=>match p.2[n]? with
    | some (.lst ds)=>some ((ds,[(n,ds)]),p.2)
    | _=>none
  | .ro ns=>some ((ns.map λ n=>.im (.int n),[]),p.2)
  | _=>none
theorem Pl{t:TE}{m:ME}(h:RE K t m):RIt K (GG K t) (Fm m):=by
  intro ρ σ H hd ls Q d g hd' hR hL hm hQ
  obtain⟨⟨d1,h1⟩,e1,hm⟩:=Option.bind_eq_some_iff.mp hm
  dsimp only at hm
  split at hm
  . next n=>
    split at hm
    . next ds q=>
      cases hm
      refine h ρ σ H hd ls _ _ _ hR hL e1 λ ρ1 H1 v x1 R1 r1=>?_
      simp only[RD]at r1
      obtain⟨a,hn,rfl⟩:=r1
      obtain⟨xs,e2,e3⟩:=R1.lst hn q
      refine⟨a,rfl,⟨xs,SqL.of e2⟩,hQ ρ1 H1 _ x1 R1 (λ p z=>by simp at z;subst z;exact q) ?_⟩
      intro ρ2 H2 hd2 x2 R2 G2 i
      have q2:=G2 (n,d) (by simp)
      have hn2:ρ2[n]? = some a:=by
        obtain⟨r,rfl,_⟩:=x2.pre
        rw[List.getElem?_append_left (List.getElem?_eq_some_iff.mp hn).1];exact hn
      obtain⟨ys,e4,e5⟩:=R2.lst hn2 q2
      refine⟨λ hi=>?_,λ hi=>⟨ys,SqL.of e4,by rw[e5.len,hi];exact Nat.le_refl _⟩⟩
      have e:d[i]? = some d[i]:=by simp[hi]
      obtain⟨x,y1,y2⟩:=e5.get e
      refine⟨⟨ys,x,SqL.of e4,y1⟩,λ y H3 ⟨e6,hy⟩=>?_⟩
      subst e6
      have:=hy ys (SqL.of e4)
      rw[y1]at this
      cases this
      exact⟨ρ2,_,.refl,rfl,R2,e,y2⟩
    . cases hm
  . next ns=>
    cases hm
    refine h ρ σ H hd ls _ _ _ hR hL e1 λ ρ1 H1 v x1 R1 r1=>?_
    simp only[RD]at r1
    obtain⟨a,rfl,q⟩:=r1
    refine⟨a,rfl,⟨_,q.sq⟩,hQ ρ1 H1 _ x1 R1 (Ap _) ?_⟩
    intro ρ2 H2 hd2 x2 R2 G2 i
    have q2:=(q.grow (x2.grow R1)).sq
    have e5:RDs K ρ2 H2 (ns.map λ n=>.im (.int n)) (ns.map V.int):=GF
    refine⟨λ hi=>?_,λ hi=>⟨_,q2,by rw[e5.len,hi];exact Nat.le_refl _⟩⟩
    have e:(ns.map λ n=>D.im (.int n))[i]? = some ((ns.map λ n=>D.im (.int n))[i]):=by simp[hi]
    obtain⟨x,y1,y2⟩:=e5.get e
    refine⟨⟨_,x,q2,y1⟩,λ y H3 ⟨e6,hy⟩=>?_⟩
    subst e6
    have:=hy _ q2
    rw[y1]at this
    cases this
    exact⟨ρ2,_,.refl,rfl,R2,e,y2⟩
  . cases hm
noncomputable def Jc(ml:MA):MI:=λ ls hd=>(ml ls hd).map λ p=>((p.1,[]),p.2)
theorem Rz{t:TE}{m:MA}(h:RN K t m):RIt K (GG K t) (Jc m):=by
  intro ρ σ H hd ls Q d g hd' hR hL hm hQ
  obtain⟨⟨d1,h1⟩,e1,e3⟩:=Option.map_eq_some_iff.mp hm
  obtain⟨⟨rfl,rfl⟩,rfl⟩:=Prod.mk.inj e3 |>.imp Prod.mk.inj id
  clear e3 hm
  refine h ρ σ H hd ls _ _ _ hR hL e1 λ ρ1 H1 a xs x1 R1 na oa ea r1=>?_
  refine⟨a,rfl,⟨xs,SqL.of ea⟩,hQ ρ1 H1 _ x1 R1 (Ap _) ?_⟩
  intro ρ2 H2 hd2 x2 R2 G2 i
  have q2:SqL K H2 a xs:=SqL.of (x2.keep a _ ea oa nt)
  have r2:=r1.ext R1 x2
  refine⟨λ hi=>?_,λ hi=>⟨xs,q2,by rw[r2.len,hi];exact Nat.le_refl _⟩⟩
  have hi:i < d1.length:=hi
  have e:d1[i]? = some d1[i]:=by simp[hi]
  obtain⟨x,y1,y2⟩:=r2.get e
  refine⟨⟨xs,x,q2,y1⟩,λ y H3 ⟨e6,hy⟩=>?_⟩
  subst e6
  have:=hy xs q2
  rw[y1]at this
  cases this
  exact⟨ρ2,_,.refl,rfl,R2,e,y2⟩
noncomputable def Ar(lo:Int):Nat->List D
  | 0=>[]
  | n + 1=>.im (.int lo) :: Ar (lo + 1) n
@[simp] theorem Gw(lo:Int)(n:Nat):(Ar lo n).length=n:=by
  induction n generalizing lo with
  | zero=>rfl
  | succ n ih=>simp[Ar,ih]
theorem Gx{n:Nat}:∀ {lo:Int} {i:Nat},i < n->(Ar lo n)[i]? = some (.im (.int (lo + i))):=by
  induction n with
  | zero=>intro lo i h;omega
  | succ n ih=>
    intro lo i h
    cases i with
    | zero=>simp[Ar]
    | succ i=>
      simp only[Ar,List.getElem?_cons_succ]
      rw[ih (by omega)]
      congr 3
      push_cast
      omega
theorem Kk{lo:Int}{n:Nat}{g:Gd}:Jw K ρ H (Itr lo n) (Ar lo n) g:=by
  intro ρ2 H2 hd2 x2 R2 G2 i
  refine⟨λ hi=>?_,λ hi=>by rw[hi,Gw];exact Nat.le_refl _⟩
  rw[Gw]at hi
  refine⟨hi,λ x H3 ⟨e1,e2⟩=>?_⟩
  subst e1 e2
  exact⟨ρ2,_,.refl,rfl,R2,Gx hi,by simp[RD,RI]⟩
open Classical in
noncomputable def FG(m:MA):MI:=λ ls hd=>(m ls hd).bind λ p=>match p.1 with
  | [.im (.int j)]=>if He j then some ((Ar 0 j.toNat,[]),p.2)else none
  | _=>none
theorem Pk{t:TA}{m:MA}(h:RA K t m):RIt K (LX t) (FG m):=by
  intro ρ σ H hd ls Q d g hd' hR hL hm hQ
  obtain⟨⟨d1,h1⟩,e1,hm⟩:=Option.bind_eq_some_iff.mp hm
  dsimp only at hm
  split at hm
  . next j=>
    split at hm
    . next c=>
      cases hm
      refine h ρ σ H hd ls _ _ _ hR hL e1 λ ρ1 H1 v x1 R1 r1=>?_
      simp only[RDs,RD,RI]at r1
      obtain⟨x,r,rfl,rfl,rfl⟩:=r1
      exact⟨j,rfl,c.1,c.2,hQ ρ1 H1 _ x1 R1 (Ap _) Kk⟩
    . cases hm
  . cases hm
open Classical in
noncomputable def Oy(m:MA):MI:=λ ls hd=>(m ls hd).bind λ p=>match p.1 with
  | [.im (.int i),.im (.int j)]=>if NX i j then some ((Ar i (j - i).toNat,[]),p.2)else none
  | _=>none
open Classical in
noncomputable def Ct(n:MG)(b:MS)(g:Gd):List D->Ls->Hd->Option (Fl × Hd)
  | [],ls,hd=>some (.nx ls,hd)
  | d :: r,ls,hd=>(n d ls hd).bind λ ls1=>(b ls1 hd).bind λ p=>match p.1 with
    | .nx ls2=>if GOk p.2 g then Ct n b g r ls2 p.2 else none
    | .ct ls2=>if GOk p.2 g then Ct n b g r ls2 p.2 else none
    | .bk ls2=>some (.nx ls2,p.2)
    | .rt d=>some (.rt d,p.2)
noncomputable def Dl(mi:MI)(n:MG)(b:MS):MS:=λ ls hd=>(mi ls hd).bind λ p=>Ct n b p.1.2 p.1.1 ls p.2
theorem Rt{wi:TI}{g:TG}{tb:TS}{mi:MI}{n:MG}{b:MS}(hi:RIt K wi mi)(hg:RGt K g n)(hb:RS K tb b):RS K (NP wi g tb) (Dl mi n b):=by
  intro ρ σ H hd ls E f hd' hR hL hm hQ
  obtain⟨⟨⟨ds,gd⟩,h1⟩,e1,hm⟩:=Option.bind_eq_some_iff.mp hm
  refine hi ρ σ H hd ls _ ds gd h1 hR hL e1 λ ρ1 H1 J x1 R1 G1 Y=>?_
  dsimp only at hm
  refine⟨λ i m σ2 H2=>m=ds.length - i/\i <= ds.length/\∃ ρ2 ls2 hd2,Ext ρ1 H1 ρ2 H2/\RH K ρ2 H2 hd2/\RL K ρ2 H2 ls2 σ2/\GOk hd2 gd/\Ct n b gd (ds.drop i) ls2 hd2=some (f,hd'),
    ⟨ds.length,by simp,Nat.zero_le _,ρ1,ls,h1,.refl,R1,hL.ext hR x1,G1,by simpa using hm⟩,?_⟩
  rintro i m σ2 H2 ⟨rfl,hi,ρ2,ls2,hd2,x2,R2,L2',G2,hm2⟩
  obtain⟨Y1,Y2⟩:=Y ρ2 H2 hd2 x2 R2 G2 i
  by_cases hlt:i < ds.length
  . obtain⟨go,Y1⟩:=Y1 hlt
    have ed:ds.drop i=ds[i] :: ds.drop (i + 1):=List.drop_eq_getElem_cons hlt
    rw[ed]at hm2
    unfold Ct at hm2
    obtain⟨ls3,e3,hm2⟩:=Option.bind_eq_some_iff.mp hm2
    obtain⟨⟨fl,hd4⟩,e4,hm2⟩:=Option.bind_eq_some_iff.mp hm2
    refine .inr ⟨go,λ σ' H'=>∃ ρ2 ls2 hd2,Ext ρ1 H1 ρ2 H'/\RH K ρ2 H' hd2/\RL K ρ2 H' ls2 σ'/\GOk hd2 gd/\Ct n b gd (ds.drop (i + 1)) ls2 hd2=some (f,hd'),λ σ' H' z=>⟨ds.length - (i + 1),by omega,rfl,hlt,z⟩,λ x H3 y=>?_⟩
    obtain⟨ρ3,d3,x3,rfl,R3,e5,r3⟩:=Y1 x H3 y
    have e6:d3=ds[i]:=by
      have:ds[i]? = some ds[i]:=by simp[hlt]
      rw[this]at e5;exact(Option.some.inj e5).symm
    subst e6
    refine hg ρ3 σ2 H3 hd2 ls2 ls3 _ x _ R3 (L2'.ext R2 x3) r3 e3 λ σ4 L4=>?_
    refine hb ρ3 σ4 H3 hd2 ls3 _ fl hd4 R3 L4 e4 λ ρ5 H5 x5 R5=>?_
    have x15:=(x2.trans R2 x3).trans R3 x5
    cases fl with
    | nx ls5=>
      intro σ5 L5
      dsimp only at hm2
      split at hm2
      . next c=>exact⟨ρ5,ls5,hd4,x15,R5,L5,c,hm2⟩
      . cases hm2
    | ct ls5=>
      intro σ5 L5
      dsimp only at hm2
      split at hm2
      . next c=>exact⟨ρ5,ls5,hd4,x15,R5,L5,c,hm2⟩
      . cases hm2
    | bk ls5=>
      intro σ5 L5
      cases hm2
      exact hQ ρ5 H5 (x1.trans R1 x15) R5 σ5 L5
    | rt d5=>
      intro v5 r5
      cases hm2
      exact hQ ρ5 H5 (x1.trans R1 x15) R5 v5 r5
  . have e:i=ds.length:=by omega
    subst e
    rw[List.drop_length]at hm2
    unfold Ct at hm2
    cases hm2
    exact .inl ⟨Y2 rfl,hQ ρ2 H2 (x1.trans R1 x2) R2 σ2 L2'⟩
open Classical in
noncomputable def B5(n:MG)(c:MT)(m:ME)(g:Gd):List D->Ls->Hd->Option (List D × Hd)
  | [],_,hd=>some ([],hd)
  | d :: r,ls,hd=>(n d ls hd).bind λ ls1=>(c ls1 hd).bind λ p=>if p.1=true then(m ls1 p.2).bind λ q=>if GOk q.2 g then(B5 n c m g r ls1 q.2).map λ z=>(q.1 :: z.1,z.2)else none else if GOk p.2 g then B5 n c m g r ls1 p.2 else none
noncomputable def ES(k:Nat)(ix:List Nat)(ls:Ls):Ls:=List.replicate k none ++ ix.map λ i=>(ls[i]?).join
open Classical in
noncomputable def Bn(k:Nat)(ix:List Nat)(mi:MI)(n:MG)(c:MT)(m:ME):MA:=λ ls hd=>(mi ls hd).bind λ p=>if Bv p.1.1.length then B5 n c m p.1.2 p.1.1 (ES k ix ls) p.2 else none
theorem RK{k:Nat}{ix:List Nat}{ls:Ls}{σ:St}(h:RL K ρ H ls σ):RL K ρ H (ES k ix ls) (Gc k ix σ):=by
  refine⟨by simp[ES,Gc],λ i d e=>?_⟩
  unfold ES at e
  unfold Gc
  by_cases hi:i < k
  . rw[List.getElem?_append_left (by simpa using hi),List.getElem?_replicate]at e
    split at e <;> cases e
  . have hi':k <= i:=Nat.not_lt.mp hi
    rw[List.getElem?_append_right (by simpa using hi'),List.length_replicate,List.getElem?_map]at e ⊢
    cases q:ix[i - k]? with
    | none=>rw[q]at e;cases e
    | some j=>
      rw[q]at e
      simp only[Option.map_some,Option.some.injEq]at e ⊢
      have e5:ls[j]? = some (some d):=by
        cases w:ls[j]? with
        | none=>rw[w]at e;cases e
        | some z=>rw[w]at e;simpa using e
      obtain⟨v,e6,e7⟩:=h.ob j d e5
      exact⟨v,by rw[e6];rfl,e7⟩
theorem Pj{k:Nat}{ix:List Nat}{wi:TI}{g:TG}{tf:TT}{te:TE}{mi:MI}{n:MG}{c:MT}{m:ME}(hi:RIt K wi mi)(hg:RGt K g n)(hf:RT K tf c)(he:RE K te m):RN K (Ky k ix wi g tf te) (Bn k ix mi n c m):=by
  intro ρ σ H hd ls Q out hd' hR hL hm hQ
  obtain⟨⟨⟨ds,gd⟩,h1⟩,e1,hm⟩:=Option.bind_eq_some_iff.mp hm
  dsimp only at hm
  split at hm
  . next hlen=>
    have hlen:ds.length <= sizeLine:=hlen
    refine hi ρ σ H hd ls _ ds gd h1 hR hL e1 λ ρ1 H1 J x1 R1 G1 Y=>?_
    intro Da hDa
    obtain⟨R1',x1'⟩:=R1.hid (ho:=.lst []) hDa
    have oD:Da ∉ ρ1:=R1.out hDa
    have nD:H Da=none:=x1.none hR hDa R1
    refine⟨λ i mm σ2 ys H2=>mm=ds.length - i/\i <= ds.length/\∃ ρ2 ls2 hd2 es rest,Ext ρ1 (upd H1 Da (.lst ys)) ρ2 H2/\Ext ρ1 H1 ρ2 H2/\Da ∉ ρ2/\H2 Da=some (.lst ys)/\RH K ρ2 H2 hd2/\RL K ρ2 H2 ls2 σ2/\RDs K ρ2 H2 es ys/\es.length <= i/\GOk hd2 gd/\B5 n c m gd (ds.drop i) ls2 hd2=some (rest,hd')/\out=es ++ rest,
      ⟨ds.length,by simp,Nat.zero_le _,ρ1,_,h1,[],out,.refl,x1',oD,AQ,R1',(RK ((hL.ext hR x1).ext R1 x1')),.nil,Nat.le_refl _,G1,by simpa using hm,rfl⟩,?_⟩
    rintro i mm σ2 ys H2 ⟨rfl,hi,ρ2,ls2,hd2,es,rest,x2',x2,oD2,hD2,R2,L2',r2,hle,G2,hm2,rfl⟩
    refine⟨hD2,?_⟩
    obtain⟨Y1,Y2⟩:=Y ρ2 H2 hd2 x2 R2 G2 i
    by_cases hlt:i < ds.length
    . obtain⟨go,Y1⟩:=Y1 hlt
      have ed:ds.drop i=ds[i] :: ds.drop (i + 1):=List.drop_eq_getElem_cons hlt
      rw[ed]at hm2
      unfold B5 at hm2
      obtain⟨ls3,e3,hm2⟩:=Option.bind_eq_some_iff.mp hm2
      obtain⟨⟨bb,hd4⟩,e4,hm2⟩:=Option.bind_eq_some_iff.mp hm2
      refine .inr ⟨go,Nat.lt_of_le_of_lt (by rw[r2.len];exact hle) (by omega),λ σ' ys' H'=>∃ ρ2 ls2 hd2 es' rest',Ext ρ1 (upd H1 Da (.lst ys')) ρ2 H'/\Ext ρ1 H1 ρ2 H'/\Da ∉ ρ2/\H' Da=some (.lst ys')/\RH K ρ2 H' hd2/\RL K ρ2 H' ls2 σ'/\RDs K ρ2 H' es' ys'/\es'.length <= i + 1/\GOk hd2 gd/\B5 n c m gd (ds.drop (i + 1)) ls2 hd2=some (rest',hd')/\es ++ rest=es' ++ rest',λ σ' ys' H' z=>⟨ds.length - (i + 1),by omega,rfl,hlt,z⟩,λ x H3 y=>?_⟩
      obtain⟨ρ3,d3,x3,rfl,R3,e5,r3⟩:=Y1 x H3 y
      have e6:d3=ds[i]:=by
        have:ds[i]? = some ds[i]:=by simp[hlt]
        rw[this]at e5;exact(Option.some.inj e5).symm
      subst e6
      refine hg ρ3 σ2 H3 hd2 ls2 ls3 _ x _ R3 (L2'.ext R2 x3) r3 e3 λ σ4 L4=>?_
      refine hf ρ3 σ4 H3 hd2 ls3 _ bb hd4 R3 L4 e4 λ ρ5 H5 x5 R5=>?_
      have hD5:H5 Da=some (.lst ys):=x5.keep Da _ (x3.keep Da _ hD2 oD2 nt) oD2 nt
      have out5:Da ∉ ρ5:=by
        obtain⟨r,rfl,fr⟩:=x5.pre
        intro z
        rcases List.mem_append.mp z with z|z
        . exact oD2 z
        . have:=fr _ z
          rw[x3.keep Da _ hD2 oD2 nt]at this;cases this
      cases bb with
      | false=>
        rw[if_neg Bool.false_ne_true]at hm2 ⊢
        have y25:=x3.trans R3 x5
        split at hm2
        . next g5=>exact⟨ρ5,ls3,hd4,es,rest,x2'.trans R2 y25,(x2.trans R2 y25),out5,hD5,R5,L4.ext R3 x5,(r2.ext R2 y25),by omega,g5,hm2,rfl⟩
        . cases hm2
      | true=>
        rw[if_pos rfl]at hm2 ⊢
        obtain⟨⟨z,hd6⟩,e6,hm2⟩:=Option.bind_eq_some_iff.mp hm2
        obtain⟨g6,hm2⟩:GOk hd6 gd/\((B5 n c m gd (ds.drop (i + 1)) ls3 hd6).map λ q=>(z :: q.1,q.2))=some (rest,hd'):=by
          dsimp only at hm2
          split at hm2
          . next g6=>exact⟨g6,hm2⟩
          . cases hm2
        obtain⟨⟨zs,hd7⟩,e7,e8⟩:=Option.map_eq_some_iff.mp hm2
        cases e8
        refine he ρ5 σ4 H5 hd4 ls3 _ z hd6 R5 (L4.ext R3 x5) e6 λ ρ6 H6 v6 x6 R6 r6=>?_
        have hD6:H6 Da=some (.lst ys):=x6.keep Da _ hD5 out5 nt
        have out6:Da ∉ ρ6:=by
          obtain⟨r,rfl,fr⟩:=x6.pre
          intro z
          rcases List.mem_append.mp z with z|z
          . exact out5 z
          . have:=fr _ z
            rw[hD5]at this;cases this
        refine⟨hD6,?_⟩
        have y26:=(x3.trans R3 x5).trans R5 x6
        have gr:Grow H6 (upd H6 Da (.lst (ys ++ [v6]))):=Grow.refl.put (.lst hD6)
        have R7:=R6.hput (ho:=.lst (ys ++ [v6])) out6 hD6
        have x12:=x2.trans R2 y26
        have ext7:Ext ρ1 H1 ρ6 (upd H6 Da (.lst (ys ++ [v6]))):=⟨x12.pre,λ b o q nb t=>by
          have:b ≠ Da:=AZ q hDa
          rw[AF this];exact x12.keep b o q nb t,λ b ps q=>by
          have:b ≠ Da:=AZ q hDa
          rw[AF this];exact x12.tab b ps q⟩
        have ext8:Ext ρ1 (upd H1 Da (.lst (ys ++ [v6]))) ρ6 (upd H6 Da (.lst (ys ++ [v6]))):=by
          obtain⟨r,er,fr⟩:=x12.pre
          refine⟨⟨r,er,λ b hb=>?_⟩,λ b o q nb t=>?_,λ b ps q=>?_⟩
          . have:b ≠ Da:=λ z=>out6 (by rw[er,<- z];exact List.mem_append_right _ hb)
            rw[AF this];exact fr b hb
          . by_cases hb:b=Da
            . subst hb;rw[AQ]at q ⊢;exact q
            . rw[AF hb]at q ⊢;exact x12.keep b o q nb t
          . by_cases hb:b=Da
            . subst hb;rw[AQ]at q;cases q
            . rw[AF hb]at q ⊢;exact x12.tab b ps q
        refine⟨ρ6,ls3,hd6,es ++ [z],zs,ext8,ext7,out6,AQ,R7,?_,?_,by simp;omega,g6,e7,by simp⟩
        . have L6:=(L4.ext R3 x5).ext R5 x6
          exact⟨L6.len,λ i d e=>let ⟨v,a,b⟩:=L6.ob i d e;⟨v,a,by simpa using b.mono gr []⟩⟩
        . have:=((r2.ext R2 y26).app (.cons r6 .nil)).mono gr []
          simpa using this
    . have e:i=ds.length:=by omega
      subst e
      rw[List.drop_length]at hm2
      unfold B5 at hm2
      cases hm2
      refine .inl ⟨Y2 rfl,?_⟩
      exact hQ ρ2 H2 Da ys (x1.trans R1 x2) R2 nD oD2 hD2 (by simpa using r2)
  . cases hm
end
end L2
namespace L2
open PySem PySem.Spec PyProof.Rows
mutual
noncomputable def clD(w:Nat):D->Bool
  | .im _=>true
  | .mu n=>decide (n < w)
  | .tm ds=>BO w ds
  | .ro _=>true
noncomputable def BO(w:Nat):List D->Bool
  | []=>true
  | d :: ds=>clD w d && BO w ds
end
noncomputable def FR(w:Nat):List (Key × D)->Bool
  | []=>true
  | d :: ds=>clD w d.2 && FR w ds
noncomputable def clO(w:Nat):MO->Bool
  | .lst ds=>BO w ds
  | .dic ds=>FR w ds
section
variable{K:PySem.W.Frag}{ρ ρ' ρ1:List Addr}{H H' H1:Hp}{hd hd' h1 h2:Hd}
mutual
theorem RD.take(w:Nat):∀ {d:D} {v:V},RD K ρ H d v->clD w d=true->RD K (ρ.take w) H d v
  | .im i,v,h,_=>by simp only[RD]at h ⊢;exact h
  | .mu n,v,h,c=>by
    simp only[RD]at h ⊢
    obtain⟨a,e,q⟩:=h
    exact⟨a,by rw[List.getElem?_take_of_lt (by simpa [clD]using c)];exact e,q⟩
  | .tm ds,v,h,c=>by
    simp only[RD]at h ⊢
    obtain⟨a,xs,e,q,z⟩:=h
    exact⟨a,xs,e,q,RDs.take' w z (by simpa [clD]using c)⟩
  | .ro ns,v,h,c=>by simp only[RD]at h ⊢;exact h
theorem RDs.take'(w:Nat):∀ {d:List D} {v:List V},RDs K ρ H d v->BO w d=true->RDs K (ρ.take w) H d v
  | [],v,h,_=>by simpa only[RDs]using h
  | d :: ds,v,h,c=>by
    simp only[RDs]at h ⊢
    obtain⟨x,r',e,q,z⟩:=h
    have c:clD w d=true/\BO w ds=true:=by simpa [BO]using c
    exact⟨x,r',e,q.take w c.1,RDs.take' w z c.2⟩
end
theorem RKs.take(w:Nat):∀ {d:List (Key × D)} {v:List (Key × V)},RKs K ρ H d v->FR w d=true->RKs K (ρ.take w) H d v
  | [],v,h,_=>by simpa only[RKs]using h
  | d :: ds,v,h,c=>by
    simp only[RKs]at h ⊢
    obtain⟨x,r',e,q1,q,z⟩:=h
    have c:clD w d.2=true/\FR w ds=true:=by simpa [FR]using c
    exact⟨x,r',e,q1,q.take w c.1,RKs.take w z c.2⟩
theorem RC.take(w:Nat){o:MO}{ho:HO}(h:RC K ρ H o ho)(c:clO w o=true):RC K (ρ.take w) H o ho:=by
  cases o with
  | lst ds=>obtain⟨xs,e,q⟩:=h;exact⟨xs,e,q.take' w c⟩
  | dic ds=>obtain⟨xs,e,q⟩:=h;exact⟨xs,e,q.take w c⟩
theorem RH.take(h:RH K ρ H hd)(w:Nat)(c:(hd.take w).all (clO w)=true):RH K (ρ.take w) H (hd.take w):=by
  refine⟨by simp[h.len],h.nd.sublist (List.take_sublist _ _),h.tabs,λ n o a e1 e2=>?_⟩
  have co:=List.all_eq_true.mp c o (List.mem_of_getElem? e1)
  have hn:n < w:=by
    have:=(List.getElem?_eq_some_iff.mp e1).1
    simp at this;omega
  rw[List.getElem?_take_of_lt hn]at e1 e2
  obtain⟨ho,q1,q2⟩:=h.ob n o a e1 e2
  exact⟨ho,q1,q2.take w co⟩
theorem RH.back(R1:RH K ρ1 H1 h1){w:Nat}(hw:w <= h1.length)(c1:(h1.take w).all (clO w)=true)(x:Ext (ρ1.take w) H1 ρ' H')(R':RH K ρ' H' h2)(c:(h2.take w).all (clO w)=true) :
    RH K ρ1 H' (h2.take w ++ h1.drop w)/\Ext ρ1 H1 ρ1 H'/\ρ'.take w=ρ1.take w:=by
  obtain⟨r,rfl,fr⟩:=x.pre
  have lw:(ρ1.take w).length=w:=by rw[List.length_take,R1.len];omega
  have l2:w <= h2.length:=by rw[<- R'.len];simp[lw]
  have tk:(ρ1.take w ++ r).take w=ρ1.take w:=by rw[List.take_append_of_le_length (by omega),List.take_take];simp
  refine⟨⟨?_,R1.nd,R'.tabs,λ n o a e1 e2=>?_⟩,⟨⟨[],by simp,by simp⟩,λ b o q nb t=>x.keep b o q (λ m=>nb (List.mem_of_mem_take m)) t,x.tab⟩,tk⟩
  . rw[List.length_append,List.length_take,List.length_drop,R1.len];omega
  . by_cases hn:n < w
    . rw[List.getElem?_append_left (by rw[List.length_take];omega),List.getElem?_take_of_lt hn]at e1
      have e3:(ρ1.take w ++ r)[n]? = some a:=by
        rw[List.getElem?_append_left (by omega),List.getElem?_take_of_lt hn];exact e2
      obtain⟨ho,q1,q2⟩:=R'.ob n o a e1 e3
      have co:=List.all_eq_true.mp c o (by
        have:(h2.take w)[n]? = some o:=by rw[List.getElem?_take_of_lt hn];exact e1
        exact List.mem_of_getElem? this)
      have q3:=q2.take w co
      rw[tk]at q3
      have q4:=q3.mono (Grow.refl (H:=H')) (ρ1.drop w)
      rw[List.take_append_drop]at q4
      exact⟨ho,q1,q4⟩
    . rw[List.getElem?_append_right (by rw[List.length_take];omega),List.length_take,List.getElem?_drop]at e1
      have e1:h1[n]? = some o:=by
        have:w + (n - min w h2.length)=n:=by omega
        rw[this]at e1;exact e1
      obtain⟨ho,q1,q2⟩:=R1.ob n o a e1 e2
      have out:a ∉ ρ1.take w:=λ m=>by
        obtain⟨k,hk⟩:=List.mem_iff_getElem?.mp m
        have kw:k < w:=by
          have:=(List.getElem?_eq_some_iff.mp hk).1
          rw[lw]at this;exact this
        rw[List.getElem?_take_of_lt kw]at hk
        have:=(List.getElem?_inj (List.getElem?_eq_some_iff.mp e2).1 R1.nd).mp (e2.trans hk.symm)
        omega
      have gr:=x.grow (R1.take w c1)
      exact⟨ho,x.keep a ho q1 out (λ ps z=>by rcases R1.mut (List.mem_of_getElem? e2)with⟨y,w⟩|⟨y,w⟩ <;> (rw[q1,z]at w;cases w)),by simpa using q2.mono gr []⟩
noncomputable def spF(K:PySem.W.Frag)(k:Nat)(F:List D->Hd->Option (D × Hd)):Sp:=λ vs H Q _=>vs.length=k/\∃ (ρ:List Addr) (hd:Hd) (ds:List D) (d:D) (hd':Hd),RH K ρ H hd/\RDs K ρ H ds vs/\F ds hd=some (d,hd') /\
  ∀ ρ' H' v,Ext ρ H ρ' H'->RH K ρ' H' hd'->RD K ρ' H' d v->Q v H'
noncomputable def mkF(k n:Nat)(m:MS):List D->Hd->Option (D × Hd):=λ ds hd=>if ds.length=k then(match m (ds.map some ++ List.replicate (n - k) none) hd with
  | some (.rt d,hd')=>some (d,hd')
  | some (.nx _,hd')=>some (.im .non,hd')
  | _=>none)else none
theorem GS{N:List Str}:∀ {ds:List D} {vs:List V},RDs K ρ H ds vs->RL K ρ H (ds.map some ++ List.replicate (N.length - ds.length) none) (CH N vs):=by
  intro ds vs r
  have hl:=r.len
  refine⟨by simp[CH,hl],λ i d e=>?_⟩
  unfold CH
  by_cases hi:i < ds.length
  . rw[List.getElem?_append_left (by simpa using hi),List.getElem?_map]at e
    have e':ds[i]? = some d:=by
      cases q:ds[i]? with
      | none=>rw[q]at e;cases e
      | some z=>rw[q]at e;simpa using e
    obtain⟨x,x1,x2⟩:=r.get e'
    exact⟨x,by rw[List.getElem?_append_left (by rw[List.length_map,hl];exact hi),List.getElem?_map,x1];rfl,x2⟩
  . rw[List.getElem?_append_right (by simpa using Nat.not_lt.mp hi),List.getElem?_replicate]at e
    split at e <;> cases e
theorem PM{k:Nat}{N:List Str}{m:MS}{t:TS}(h:RS K t m){vs:List V}{H:Hp}{Q:VK}{E:XK}(s:spF K k (mkF k N.length m) vs H Q E):t { nx:=λ _ H'=>Q .non H',rt:=Q } (CH N vs) H:=by
  obtain⟨hk,ρ,hd,ds,d,hd',hR,hr,hF,hQ⟩:=s
  unfold mkF at hF
  split at hF
  . next hl=>
    subst hl
    split at hF
    . next q=>
      cases hF
      exact h ρ _ H hd _ _ _ _ hR (GS hr) q λ ρ' H' x R v r=>hQ ρ' H' v x R r
    . next q=>
      cases hF
      exact h ρ _ H hd _ _ _ _ hR (GS hr) q λ ρ' H' x R σ L=>hQ ρ' H' .non x R (by simp[RD,RI])
    . cases hF
  . cases hF
noncomputable def Er(F:List D->Hd->Option (D × Hd))(ma:MA):ME:=λ ls hd=>(ma ls hd).bind λ p=>F p.1 p.2
theorem Nd{k:Nat}{F:List D->Hd->Option (D × Hd)}{t:TA}{m:MA}(h:RA K t m)(hk:∀ ds hd z,F ds hd=some z->ds.length=k):RE K (EK (spF K k F) [] E0 t) (Er F m):=by
  intro ρ σ H hd ls Q d hd' hR hL hm hQ
  obtain⟨⟨d1,h1⟩,e1,hm⟩:=Option.bind_eq_some_iff.mp hm
  refine h ρ σ H hd ls _ d1 h1 hR hL e1 λ ρ1 H1 v1 x1 R1 r1=>?_
  rw[List.append_nil]
  exact⟨by rw[r1.len];exact hk _ _ _ hm,ρ1,h1,d1,d,hd',R1,r1,hm,λ ρ' H' w x2 R2 r2=>hQ ρ' H' w (x1.trans R1 x2) R2 r2⟩
theorem AI{k n:Nat}{m:MS}:∀ ds hd z,mkF k n m ds hd=some z->ds.length=k:=λ ds hd z h=>by
  unfold mkF at h
  split at h
  . next e=>exact e
  . cases h
noncomputable def fin(w:Nat)(d:D)(h2 rest:Hd):Option (D × Hd):=if(h2.take w).all (clO w)=true then(match d with
    | .mu k=>if k < w then some (.mu k,h2.take w ++ rest)else(match h2[k]? with
      | some (.lst ds)=>if BO w ds=true then some (.mu (w + rest.length),h2.take w ++ rest ++ [.lst ds])else none
      | _=>none)
    | d=>if clD w d=true then some (d,h2.take w ++ rest)else none)else none
noncomputable def AC(w:Nat)(F:List D->Hd->Option (D × Hd))(ma:MA):ME:=λ ls hd=>(ma ls hd).bind λ p=>
  if w <= p.2.length/\BO w p.1=true/\(p.2.take w).all (clO w)=true then(F p.1 (p.2.take w)).bind λ r=>fin w r.1 r.2 (p.2.drop w)else none
theorem JD{w k:Nat}{F:List D->Hd->Option (D × Hd)}{t:TA}{m:MA}(h:RA K t m)(hk:∀ ds hd z,F ds hd=some z->ds.length=k):RE K (EK (spF K k F) [] E0 t) (AC w F m):=by
  intro ρ σ H hd ls Q d hd' hR hL hm hQ
  obtain⟨⟨d1,h1⟩,e1,hm⟩:=Option.bind_eq_some_iff.mp hm
  dsimp only at hm
  split at hm
  . next c=>
    obtain⟨c0,c1,c2⟩:=c
    obtain⟨⟨d2,h2⟩,e2,hm⟩:=Option.bind_eq_some_iff.mp hm
    refine h ρ σ H hd ls _ d1 h1 hR hL e1 λ ρ1 H1 v1 x1 R1 r1=>?_
    rw[List.append_nil]
    refine⟨by rw[r1.len];exact hk _ _ _ e2,ρ1.take w,h1.take w,d1,d2,h2,R1.take w c2,r1.take' w c1,e2,λ ρ' H' v x2 R2 r2=>?_⟩
    unfold fin at hm
    dsimp only at hm
    split at hm
    . next c3=>
      obtain⟨R3,x3,tk⟩:=R1.back c0 c2 x2 R2 c3
      have up:∀ {d:D} {v:V},RD K ρ' H' d v->clD w d=true->RD K ρ1 H' d v:=λ r c=>by
        have q:=r.take w c
        rw[tk]at q
        have q:=q.mono (Grow.refl (H:=H')) (ρ1.drop w)
        rw[List.take_append_drop]at q
        exact q
      have ups:∀ {d:List D} {v:List V},RDs K ρ' H' d v->BO w d=true->RDs K ρ1 H' d v:=λ r c=>by
        have q:=r.take' w c
        rw[tk]at q
        have q:=q.mono (Grow.refl (H:=H')) (ρ1.drop w)
        rw[List.take_append_drop]at q
        exact q
      split at hm
      . next k'=>
        split at hm
        . next hk'=>
          cases hm
          exact hQ ρ1 H' v (x1.trans R1 x3) R3 (up r2 (by simpa [clD]using hk'))
        . next hk'=>
          split at hm
          . next ds q=>
            split at hm
            . next c4=>
              cases hm
              simp only[RD]at r2
              obtain⟨a,ea,rfl⟩:=r2
              obtain⟨xs,l1,l2⟩:=R2.lst ea q
              have len3:=R3.len
              have out:a ∉ ρ1:=λ m=>by
                -- a is one of those made behind the first w
                obtain⟨r,er,fr⟩:=x2.pre
                have lw:(ρ1.take w).length=w:=by rw[List.length_take,R1.len];omega
                have ma:a ∈ r:=by
                  rw[er,List.getElem?_append_right (by rw[lw];omega)]at ea
                  exact List.mem_of_getElem? ea
                exact R1.out (fr a ma) m
              have na:H1 a=none:=by
                obtain⟨r,er,fr⟩:=x2.pre
                have lw:(ρ1.take w).length=w:=by rw[List.length_take,R1.len];omega
                have ma:a ∈ r:=by
                  rw[er,List.getElem?_append_right (by rw[lw];omega)]at ea
                  exact List.mem_of_getElem? ea
                exact fr a ma
              refine hQ (ρ1 ++ [a]) H' _ (x1.trans R1 (x3.name na)) (R3.name out l1 (ups l2 c4)) ?_
              simp only[RD]
              refine⟨a,?_,rfl⟩
              have:w + (List.drop w h1).length=ρ1.length:=by rw[List.length_drop,R1.len];omega
              rw[this];simp
            . cases hm
          . cases hm
      . next d' nd=>
        split at hm
        . next c4=>cases hm;exact hQ ρ1 H' v (x1.trans R1 x3) R3 (up r2 c4)
        . cases hm
    . cases hm
  . cases hm
noncomputable def BL(c:MT)(b:MS):Nat->Ls->Hd->Option (Fl × Hd)
  | 0,_,_=>none
  | k + 1,ls,hd=>(c ls hd).bind λ p=>if p.1=true then(b ls p.2).bind λ q=>(match q.1 with
      | .nx ls2=>BL c b k ls2 q.2
      | .ct ls2=>BL c b k ls2 q.2
      | .bk ls2=>some (.nx ls2,q.2)
      | .rt d=>some (.rt d,q.2))else some (.nx ls,p.2)
open Classical in
noncomputable def EC(c:MT)(b:MS):MS:=λ ls hd=>if h:∃ r k,BL c b k ls hd=some r then some h.choose else none
theorem DJ{c:MT}{b:MS}:∀ {k j:Nat} {ls:Ls} {hd:Hd} {r:Fl × Hd},BL c b k ls hd=some r->k <= j->BL c b j ls hd=some r
  | 0,_,_,_,_,h,_=>by cases h
  | k + 1,0,_,_,_,_,hj=>by omega
  | k + 1,j + 1,ls,hd,r,h,hj=>by
    unfold BL at h ⊢
    obtain⟨p,e1,h⟩:=Option.bind_eq_some_iff.mp h
    rw[e1]
    show(if p.1=true then _ else _)=_
    split at h
    . next c=>
      rw[if_pos c]
      obtain⟨q,e2,h⟩:=Option.bind_eq_some_iff.mp h
      rw[e2]
      obtain⟨f,hd2⟩:=q
      cases f with
      | nx ls2=>exact DJ h (by omega)
      | ct ls2=>exact DJ h (by omega)
      | bk ls2=>exact h
      | rt d=>exact h
    . next c=>rw[if_neg c];exact h
theorem Mj{c:MT}{b:MS}{k:Nat}{ls:Ls}{hd:Hd}{r:Fl × Hd}(h:BL c b k ls hd=some r):EC c b ls hd=some r:=by
  unfold EC
  have ex:∃ r k,BL c b k ls hd=some r:=⟨r,k,h⟩
  rw[dif_pos ex]
  obtain⟨j,e⟩:=ex.choose_spec
  have e1:=DJ e (Nat.le_max_left j k)
  have e2:=DJ h (Nat.le_max_right j k)
  rw[e1]at e2
  exact e2
theorem NU{tc:TT}{tb:TS}{c:MT}{b:MS}(hc:RT K tc c)(hb:RS K tb b):RS K (Iz tc tb) (EC c b):=by
  intro ρ σ H hd ls E f hd' hR hL hm hQ
  obtain⟨k,hk⟩:∃ k,BL c b k ls hd=some (f,hd'):=by
    unfold EC at hm
    split at hm
    . next ex=>
      obtain⟨j,e⟩:=ex.choose_spec
      exact⟨j,by rw[e];exact hm⟩
    . cases hm
  refine⟨λ m σ2 H2=>∃ ρ2 ls2 hd2,Ext ρ H ρ2 H2/\RH K ρ2 H2 hd2/\RL K ρ2 H2 ls2 σ2/\BL c b m ls2 hd2=some (f,hd'),⟨k,ρ,ls,hd,.refl,hR,hL,hk⟩,?_⟩
  rintro m σ2 H2 ⟨ρ2,ls2,hd2,x2,R2,L2',hm2⟩
  cases m with
  | zero=>cases hm2
  | succ m=>
    unfold BL at hm2
    obtain⟨⟨bb,hd3⟩,e1,hm2⟩:=Option.bind_eq_some_iff.mp hm2
    refine hc ρ2 σ2 H2 hd2 ls2 _ bb hd3 R2 L2' e1 λ ρ3 H3 x3 R3=>?_
    cases bb with
    | false=>
      rw[if_neg Bool.false_ne_true]at hm2 ⊢
      cases hm2
      exact hQ ρ3 H3 (x2.trans R2 x3) R3 σ2 (L2'.ext R2 x3)
    | true=>
      rw[if_pos rfl]at hm2 ⊢
      obtain⟨⟨fl,hd4⟩,e2,hm2⟩:=Option.bind_eq_some_iff.mp hm2
      refine⟨λ σ' H'=>∃ ρ2 ls2 hd2,Ext ρ H ρ2 H'/\RH K ρ2 H' hd2/\RL K ρ2 H' ls2 σ'/\BL c b m ls2 hd2=some (f,hd'),λ σ' H' z=>⟨m,Nat.lt_succ_self m,z⟩,?_⟩
      refine hb ρ3 σ2 H3 hd3 ls2 _ fl hd4 R3 (L2'.ext R2 x3) e2 λ ρ5 H5 x5 R5=>?_
      have x15:=(x2.trans R2 x3).trans R3 x5
      cases fl with
      | nx ls5=>intro σ5 L5;exact⟨ρ5,ls5,hd4,x15,R5,L5,hm2⟩
      | ct ls5=>intro σ5 L5;exact⟨ρ5,ls5,hd4,x15,R5,L5,hm2⟩
      | bk ls5=>intro σ5 L5;cases hm2;exact hQ ρ5 H5 x15 R5 σ5 L5
      | rt d5=>intro v5 r5;cases hm2;exact hQ ρ5 H5 x15 R5 v5 r5
noncomputable def Rb(kvs:List (Key × D))(k:Key):Option D:=(kvs.find? λ kv=>decide (kv.1=k)).map (·.2)
noncomputable def Ny(kvs:List (Key × D))(k:Key)(v:D):List (Key × D):=
  if(kvs.any λ kv=>decide (kv.1=k))=true then kvs.map (λ kv=>if kv.1=k then(kv.1,v)else kv)else kvs ++ [(k,v)]
noncomputable def Fu:D->Option Key
  | .im (.int i)=>some (.inl i)
  | .im (.str x)=>some (.inr x)
  | _=>none
noncomputable def Hv(hd:Hd):D->Option (List (Key × D))
  | .mu n=>match hd[n]? with
    | some (.dic kvs)=>some kvs
    | _=>none
  | _=>none
noncomputable def UK:D->D->Hd->Option (D × Hd):=λ d e hd=>(Hv hd d).bind λ kvs=>(Fu e).bind λ k=>(Rb kvs k).map (·,hd)
open Classical in
noncomputable def UE(md my mv:ME):MS:=λ ls hd=>(mv ls hd).bind λ p=>(md ls p.2).bind λ q=>(my ls q.2).bind λ r=>(Fu r.1).bind λ k=>match q.1 with
  | .mu n=>match r.2[n]? with
    | some (.dic kvs)=>if ER kvs.length then some (.nx ls,r.2.set n (.dic (Ny kvs k p.1)))else none
    | _=>none
  | _=>none
noncomputable def Ep:List (ME × ME)->Ls->Hd->Option (List (Key × D) × Hd)
  | [],_,hd=>some ([],hd)
  | (mk,mv) :: r,ls,hd=>(mk ls hd).bind λ p=>(mv ls p.2).bind λ q=>(Ep r ls q.2).bind λ z=>(Fu p.1).map λ k=>((k,q.1) :: z.1,z.2)
noncomputable def Md(kvs more:List (Key × D)):List (Key × D):=more.foldl (λ acc kv=>Ny acc kv.1 kv.2) kvs
noncomputable def UD(ms:List (ME × ME)):ME:=λ ls hd=>(Ep ms ls hd).bind λ p=>if p.1.length <= 15 then some (.mu p.2.length,p.2 ++ [.dic (Md [] p.1)])else none
noncomputable def Dq(mo mi mv:ME):MS:=λ ls hd=>(mv ls hd).bind λ p=>(mo ls p.2).bind λ q=>(mi ls q.2).bind λ r=>match q.1,r.1 with
  | .mu n,.im (.int i)=>match r.2[n]? with
    | some (.lst ds)=>(ixN ds.length i).map λ j=>(.nx ls,r.2.set n (.lst (ds.set j p.1)))
    | _=>none
  | _,_=>none
theorem Pd{to ti tv:TE}{mo mi mv:ME}(ho:RE K to mo)(hi:RE K ti mi)(hv:RE K tv mv):RS K (GQ tv (OJ to ti LG)) (Dq mo mi mv):=by
  intro ρ σ H hd0 ls E f hd' hR hL hm hQ
  obtain⟨⟨d1,h1⟩,e1,hm⟩:=Option.bind_eq_some_iff.mp hm
  obtain⟨⟨d2,h2⟩,e2,hm⟩:=Option.bind_eq_some_iff.mp hm
  obtain⟨⟨d3,h3⟩,e3,hm⟩:=Option.bind_eq_some_iff.mp hm
  dsimp only at hm
  split at hm
  . split at hm
    . next q=>
      obtain⟨j,e4,e5⟩:=Option.map_eq_some_iff.mp hm
      cases e5
      refine hv ρ σ H hd0 ls _ d1 h1 hR hL e1 λ ρ1 H1 v1 x1 R1 r1=>?_
      refine ho ρ1 σ H1 h1 ls _ _ h2 R1 (hL.ext hR x1) e2 λ ρ2 H2 v2 x2 R2 r2=>?_
      refine hi ρ2 σ H2 h2 ls _ _ _ R2 (hL.ext hR (x1.trans R1 x2)) e3 λ ρ3 H3 v3 x3 R3 r3=>?_
      have r2:=r2.ext R2 x3
      simp only[RD]at r2
      obtain⟨a,hn,rfl⟩:=r2
      simp only[RD,RI]at r3
      subst r3
      obtain⟨xs,l1,l2⟩:=R3.lst hn q
      obtain⟨R4,x4⟩:=R3.put hn (o:=.lst _) (ho:=.lst (xs.set j v1)) ⟨_,rfl,l2.set j ((r1.ext R1 x2).ext R2 x3)⟩
      have x13:=(x1.trans R1 x2).trans R2 x3
      exact⟨a,xs,_,j,rfl,rfl,l1,by rw[l2.len];exact e4,hQ ρ3 _ (x13.trans R3 x4) R4 σ ((hL.ext hR x13).ext R3 x4)⟩
    . cases hm
  . cases hm
end
end L2
namespace L2
open PySem PySem.Spec PyProof.Rows
structure QG(K:PySem.W.Frag)(X:Cx)(e:Expr)(t:TG)(m:MG):Prop where
  p:PG X e t
  r:RGt K t m
structure QGs(K:PySem.W.Frag)(X:Cx)(e:List Expr)(t:TGs)(m:MGs):Prop where
  p:PGs X e t
  r:Jy K t m
structure QI(K:PySem.W.Frag)(X:Cx)(tg e:Expr)(t:TI)(m:MI):Prop where
  p:PI X tg e t
  r:RIt K t m
structure QF(K:PySem.W.Frag)(X:Cx)(e:List Expr)(t:TT)(m:MT):Prop where
  p:PF X e t
  r:RT K t m
structure QO(K:PySem.W.Frag)(X:Cx)(e:Option Expr)(t:TO)(m:MO1):Prop where
  p:PO X e t
  r:RO1 K t m
noncomputable def P4(a b:List D):Prop:=a ≠ []/\Bv (a.length + b.length)
open Classical in
noncomputable def FM:D->D->Hd->Option (D × Hd):=λ d e hd=>(AY d).bind λ a=>(AY e).bind λ b=>if P4 a b then some (B0 (a ++ b),hd)else none
theorem Ae{K:PySem.W.Frag}:RB K (LI K) FM:=by
  intro ρ H hd d e v u Q z hd' hR h1 h2 hf hQ
  unfold FM at hf
  obtain⟨a,e1,hf⟩:=Option.bind_eq_some_iff.mp hf
  obtain⟨b,e2,hf⟩:=Option.bind_eq_some_iff.mp hf
  split at hf
  . next c=>
    cases hf
    obtain⟨p,xs,rfl,q1,r1⟩:=h1.tup e1
    obtain⟨p2,ys,rfl,q2,r2⟩:=h2.tup e2
    have l1:=r1.len;have l2:=r2.len
    refine⟨p,p2,xs,ys,rfl,rfl,q1,q2,λ z=>c.1 (by rw[z]at l1;simpa using l1.symm),by rw[l1,l2];exact c.2,λ z=>?_,λ _ p3 hp=>?_⟩
    . have:b=[]:=by rw[z]at l2;simpa using l2.symm
      subst this
      exact hQ ρ H _ .refl hR (by rw[List.append_nil];exact Bz q1 r1)
    . obtain⟨R2,x2⟩:=hR.hid (ho:=.tup (xs ++ ys)) hp
      exact hQ ρ _ _ x2 R2 (Bz (SqT.of AQ) ((r1.app r2).ext hR x2))
  . cases hf
noncomputable abbrev Ah:=FQ Ht FM
noncomputable def Fo(neg:Bool)(m:ME):ME:=λ ls hd=>(m ls hd).bind λ p=>some (.im (.bl (match p.1 with
  | .im .non=>!neg
  | _=>neg)),p.2)
theorem Uh{K:PySem.W.Frag}{ρ:List Addr}{H:Hp}{d:D}{v:V}(h:RD K ρ H d v):decide (v=.non)=(match d with | .im .non=>true|_=>false):=by
  cases d with
  | im i=>
    cases i with
    | non=>simp only[RD,RI]at h;subst h;rfl
    | tup is=>simp only[RD,RI]at h;obtain⟨a,xs,rfl,_⟩:=h;rfl
    | _=>simp only[RD,RI]at h;subst h;rfl
  | mu n=>simp only[RD]at h;obtain⟨a,_,rfl⟩:=h;rfl
  | tm ds=>simp only[RD]at h;obtain⟨a,xs,rfl,_⟩:=h;rfl
  | ro ns=>simp only[RD]at h;obtain⟨a,rfl,_⟩:=h;rfl
theorem SC{K:PySem.W.Frag}{t:TE}{m:ME}(h:RE K t m):RE K (NO t) (Fo false m):=by
  intro ρ σ H hd ls Q d hd' hR hL hm hQ
  obtain⟨⟨d1,h1⟩,e1,hm⟩:=Option.bind_eq_some_iff.mp hm
  cases hm
  refine h ρ σ H hd ls _ d1 _ hR hL e1 λ ρ1 H1 v x1 R1 r1=>?_
  rw[Uh r1]
  refine hQ ρ1 H1 _ x1 R1 ?_
  simp only[RD,RI]
  cases d1 with
  | im i=>cases i <;> rfl
  | _=>rfl
noncomputable def GY(m:ME):ME:=λ ls hd=>(m ls hd).bind λ p=>match p.1 with
  | .im (.int i)=>some (.im (.int (-i)),p.2)
  | _=>none
theorem SA{K:PySem.W.Frag}{t:TE}{m:ME}(h:RE K t m):RE K (tUn (rU λ i=>.int (-i)) t) (GY m):=by
  intro ρ σ H hd ls Q d hd' hR hL hm hQ
  obtain⟨⟨d1,h1⟩,e1,hm⟩:=Option.bind_eq_some_iff.mp hm
  dsimp only at hm
  split at hm
  . cases hm
    exact h ρ σ H hd ls _ _ _ hR hL e1 λ ρ1 H1 v x1 R1 r1=>⟨_,by simpa only[RD,RI]using r1,hQ ρ1 H1 _ x1 R1 (by simp[RD,RI])⟩
  . cases hm
noncomputable def Cb:MT:=λ _ hd=>some (true,hd)
theorem Rn{K:PySem.W.Frag}:RT K NH Cb:=by
  intro ρ σ H hd ls Q d hd' hR hL hm hQ
  cases hm
  exact hQ ρ H .refl hR
section
variable(K:PySem.W.Frag){X:Cx}{a b c e:Expr}{es:List Expr}{ta tb tc te:TE}{ma mb mc me:ME}{tA tB':TT}{nA nB:MT}{t:TA}{m:MA}{pos:Pos}{x:Str}
theorem qv(i:Nat){x:Str}{pos:Pos}(hN:X.N[i]? = some x:=by rfl)(hv:Vis X.env.scope x:=by first|exact Or.inl rfl|exact Or.inr (Or.inl rfl)|exact Or.inr (Or.inr rfl))(hd:(x == ("__debug__":Str))=false:=by decide)
    (hcd:(x == ("__classdict__":Str))=false:=by decide):QE K X (.Name x pos) (Ks i) (A2 i):=⟨Ek hN hv hd hcd,S5⟩
theorem A5{i:Int}{j pos}:QE K X (.Constant (.int i) j pos) (tC (.int i)) (mC (.int i)):=⟨Sj,L9 λ _=>by simp[RI]⟩
theorem LJ{i:Bool}{j pos}:QE K X (.Constant (.bool i) j pos) (tC (.bl i)) (mC (.bl i)):=⟨U3,L9 λ _=>by simp[RI]⟩
theorem SS{j pos}:QE K X (.Constant .none j pos) (tC .non) (mC .non):=⟨Sh,L9 λ _=>by simp[RI]⟩
theorem BG{x:Str}{j pos}:QE K X (.Constant (.str x) j pos) (tC (.str x)) (mC (.str x)):=⟨MW,L9 λ _=>by simp[RI]⟩
theorem AK{op:Operator}{r:R2}{f:D->D->Hd->Option (D × Hd)}(ho:OpR X (binaryOp op) r)(hr:RB K r f)(ha:QE K X a ta ma)(hb:QE K X b tb mb):QE K X (.BinOp a op b pos) (tOp r ta tb) (mOp f ma mb):=⟨Ot ho ha.p hb.p,Ib hr ha.r hb.r⟩
theorem JL(ha:QE K X a ta ma):QE K X (.UnaryOp .USub a pos) (tUn (rU λ i=>.int (-i)) ta) (GY ma):=⟨U0 Rc ha.p,SA ha.r⟩
theorem CS{op:CmpOp}{r:R2}{f:D->D->Hd->Option (D × Hd)}(ho:OpR X (compareOp op) r)(hr:RB K r f)(ha:QE K X a ta ma)(hb:QE K X b tb mb)(hm:behindInMarks op b=false:=by first|exact HC _|rfl):QE K X (.Compare a [op] [b] pos) (tOp r ta tb) (mOp f ma mb):=⟨QY ho ha.p hb.p hm,Ib hr ha.r hb.r⟩
theorem CA{op:CmpOp}{r:R2}{f:D->D->Hd->Option (D × Hd)}(ho:OpR X (compareOp op) r)(hr:RB K r f)(ha:QE K X a ta ma)(hb:QE K X b tb mb)(hm:behindInMarks op b=false:=by first|exact HC _|rfl):QT K X (.Compare a [op] [b] pos) (Gm (tOp r ta tb)) (Aj (mOp f ma mb)):=⟨Hh ho ha.p hb.p hm,Dv (Ib hr ha.r hb.r)⟩
theorem MJ{j pos'}(ha:QE K X a ta ma):QT K X (.Compare a [.Is] [.Constant .none j pos'] pos) (tB (NO ta)) (Aj (Fo false ma)):=⟨SV (Sl ha.p),Ud (SC ha.r)⟩
theorem E6(ha:QE K X a ta ma)(he:∀ whole,isTrue a X.env whole=(do let v <- whole;standAt a.pos;holding [v] (truthy v)):=by intro _;rfl)(hK:X.K=K:=by rfl) :
    QT K X a (λ σ H Q=>ta σ H λ x H'=>∃ k,Jx K x H' k/\Q k H') (Dk ma):=by
  subst hK
  exact⟨Nz ha.p he,NT ha.r⟩
theorem SL(ha:QT K X a tA nA):QT K X (.UnaryOp .Not a pos) (NM tA) (Jb nA):=⟨MQ ha.p,Ro ha.r⟩
theorem Hg(ha:QT K X a tA nA):QW K X (.BoolOp .And [a] pos) tA nA:=⟨KM ha.p,ha.r⟩
theorem JG{rest:List Expr}(ha:QT K X a tA nA)(hb:QW K X (.BoolOp .And (b :: rest) pos) tB' nB):QW K X (.BoolOp .And (a :: b :: rest) pos) (NQ tA tB') (Fq nA nB):=⟨JO ha.p hb.p,Rp ha.r hb.r⟩
theorem QW.toT{K:PySem.W.Frag}{X:Cx}{e:Expr}{t:TT}{m:MT}(h:QW K X e t m):QT K X e t m:=⟨h.p.pt,h.r⟩
theorem JK{op}(ha:QE K X a ta ma):QE K X (.BoolOp op [a] pos) ta ma:=⟨Sg ha.p,ha.r⟩
theorem MN{rest:List Expr}(ha:QE K X a ta ma)(hb:QE K X (.BoolOp .And (b :: rest) pos) tb mb):QE K X (.BoolOp .And (a :: b :: rest) pos) (Kz ta tb) (FJ ma mb):=⟨Sk ha.p hb.p,Ps ha.r hb.r⟩
theorem Tw{rest:List Expr}(ha:QE K X a ta ma)(hb:QE K X (.BoolOp .Or (b :: rest) pos) tb mb):QE K X (.BoolOp .Or (a :: b :: rest) pos) (NL ta tb) (Ja ma mb):=⟨U1 ha.p hb.p,S8 ha.r hb.r⟩
theorem JM(hc:QT K X c tA nA)(ha:QE K X a ta ma)(hb:QE K X b tb mb):QE K X (.IfExp c a b pos) (tIf tA ta tb) (mIf nA ma mb):=⟨O5 hc.p ha.p hb.p,Ts hc.r ha.r hb.r⟩
theorem A6:QA K X [] Ca A7:=⟨Br,SH⟩
theorem A0(ha:QE K X e te me)(hr:QA K X es t m)(hs:starEach (e :: es) X.env=(false,eval e X.env) :: starEach es X.env:=by rfl):QA K X (e :: es) (Bx te t) (A1 me m):=⟨An ha.p hr.p hs,Pu ha.r hr.r⟩
theorem Az{x1}(h:QA K X es t m):QE K X (.Tuple es x1 pos) (NI t) (Av m):=⟨JT h.p,S6 h.r⟩
theorem CQ(h:QA K X es t m):QN K X (.List es pos) (NN t) (CN m):=⟨Si h.p,Rx h.r⟩
theorem DZ(h:QN K X e te m):QE K X e te (DF m):=⟨h.p,S9 h.r⟩
theorem AO(ha:QE K X a ta ma)(hb:QE K X b tb mb)(hs:Hz b:=by exact λ _ _=>rfl)(hK:X.K=K:=by rfl):QE K X (.Subscript a b pos) (tOp (Ie K) ta tb) (mOp gIx ma mb):=⟨Ou ((Jg K hK).or (KS K hK)) ha.p hb.p hs,Ib Tu ha.r hb.r⟩
theorem Ej:QO K X none Hc Bu:=⟨QC,Pi⟩
theorem Ei(h:QE K X e te me):QO K X (some e) (Kv te) (Cs me):=⟨QB h.p,Ph h.r⟩
theorem Gz{lo hi:Option Expr}{tl th:TO}{ml mh:MO1}{p2:Pos}(h:QE K X e te me)(hl:QO K X lo tl ml)(hh:QO K X hi th mh)(hK:X.K=K:=by rfl):QE K X (.Subscript e (.Slice lo hi none p2) pos) (tSl (LD K) te tl th) (EU me ml mh):=⟨JU (PN K hK) h.p hl.p hh.p,S7 h.r hl.r hh.r⟩
theorem SN{lo hi:Option Expr}{tl th:TO}{ml mh:MO1}{p2:Pos}(h:QE K X e te me)(hl:QO K X lo tl ml)(hh:QO K X hi th mh)(hK:X.K=K:=by rfl):QN K X (.Subscript e (.Slice lo hi none p2) pos) (tSl (LF K) te tl th) (LQ me ml mh):=⟨JU (NR K hK) h.p hl.p hh.p,Ru h.r hl.r hh.r⟩
theorem DL{id:String}{p:Pos}{r:List V->Hp->VK->Prop}{f:List D->Hd->Option (D × Hd)}(hc:CallR X (.builtin id) r)(hr:RF K r f)(hm:X.mg x=none)(hv:bootBuiltins x=some (.builtin id))(ha:QA K X (e :: es) t m)(hg:Gl X x:=by rfl)(hn:x ≠ "__name__":=by decide)(hdb:(x == ("__debug__":Str))=false:=by decide)
    (he:starEach (e :: es) X.env=(false,eval e X.env) :: starEach es X.env:=by rfl) (hpl:(backTo pos (starEach es X.env)).any (·.1)=false:=by rfl):QE K X (.Call (.Name x p) (e :: es) [] pos) (tCB r t) (mCB f m):=⟨DC hc hg hm hv ha.p hn hdb he hpl,Ol hr ha.r⟩
theorem HA{id:String}{p:Pos}{r:List V->Hp->VK->Prop}{f:List D->Hd->Option (D × Hd)}(hc:CallR X (.type id) r)(hr:RF K r f)(hm:X.mg x=none)(hv:bootBuiltins x=some (.type id))(ha:QA K X (e :: es) t m)(hg:Gl X x:=by rfl)(hn:x ≠ "__name__":=by decide)(hdb:(x == ("__debug__":Str))=false:=by decide)
    (he:starEach (e :: es) X.env=(false,eval e X.env) :: starEach es X.env:=by rfl) (hpl:(backTo pos (starEach es X.env)).any (·.1)=false:=by rfl):QE K X (.Call (.Name x p) (e :: es) [] pos) (tCB r t) (mCB f m):=⟨Fh hc hg hm hv ha.p hn hdb he hpl,Ol hr ha.r⟩
theorem GA{id:String}{p:Pos}{r:List V->Hp->VK->Prop}{tp:Bool}{g:List D->Option D}(hc:CallR X (.builtin id) r)(hr:RG K tp r g)(hm:X.mg x=none)(hv:bootBuiltins x=some (.builtin id))(ha:QN K X e te m)(hg:Gl X x:=by rfl)(hn:x ≠ "__name__":=by decide)(hdb:(x == ("__debug__":Str))=false:=by decide)
    (he:starEach [e] X.env=[(false,eval e X.env)]:=by rfl):QE K X (.Call (.Name x p) [e] [] pos) (tCB r (Bx te Ca)) (EE g m):=⟨DC hc hg hm hv (An ha.p Br he) hn hdb he rfl,SE hr ha.r⟩
theorem Nq{p:Pos}(hm:X.mg "list"=none)(ha:QN K X e te m)(hg:Gl X "list":=by rfl)(he:starEach [e] X.env=[(false,eval e X.env)]:=by rfl)(hK:X.K=K:=by rfl):QN K X (.Call (.Name "list" p) [e] [] pos) (tCB (Hf K) (Bx te Ca)) (HI m):=⟨Fh (Lh K hK) hg hm RO (An ha.p Br he) (by decide) (by decide) he rfl,NY ha.r⟩
theorem Ig{id:String}{r:V->List V->Hp->VK->Prop}{f:D->List D->Hd->Option (D × Hd)}{name:Str}{apos cpos:Pos}{o:Expr}{to:TE}{mo:ME}(slot:Slot "list" name id)(hty:typeOf (.builtin id)=pure (.type "method_descriptor"))(hm:MtM X id r)(hr:RM K r f)(ho:QE K X o to mo)(ha:QA K X (e :: es) t m)
    (hbase:attributeBase o name X.env (eval o X.env)=eval o X.env:=by rfl)
    (hfew:((backTo cpos (starEach (e :: es) X.env)).all (λ x=>!x.1) && (backToKw cpos (keywordEach [] X.env)).all (λ x=>x.1.isSome)
      && decide ((e :: es).length + ([]:List Keyword).length + (if([]:List Keyword).isEmpty then 0 else 1) < 30))=true:=by rfl)
    (hline:(apos.endLine == cpos.line)=true:=by rfl) (hs:starEach (e :: es) X.env=(false,eval e X.env) :: starEach es X.env:=by rfl) (hplain:(backTo cpos (starEach es X.env)).any (·.1)=false:=by rfl) (hK:X.K=K:=by rfl) :
    QE K X (.Call (.Attribute o name apos) (e :: es) [] cpos) (tBM K "list" r to t) (mMt f mo m):=by
  subst hK
  exact⟨U2 PySem.F.plainAttrs_list slot hty hm ho.p ha.p hbase hfew hline hs hplain,Tr hr ho.r ha.r⟩
theorem AE(w:Nat){j k:Nat}{f:Addr}{fd:FuncData}{ps:List Str}{n:Nat}{F:List D->Hd->Option (D × Hd)}{st:Stmt}{p:Pos}(G:FnOk X.prog X.w X.K X.mg X.base CX0 j f fd ps (spF K n F))(hr:Room k X.A)(DA:DefAt X.K X.mg x st f fd ps)(ha:QA K X (e :: es) t m)(hF:∀ ds hd z,F ds hd=some z->ds.length=n)
    (hjk:j <= k:=by decide) (hg:Gl X x:=by rfl) (hdb:(x == ("__debug__":Str))=false:=by decide) (he:starEach (e :: es) X.env=(false,eval e X.env) :: starEach es X.env:=by rfl) (hpl:(backTo pos (starEach es X.env)).any (·.1)=false:=by rfl) :
    QE K X (.Call (.Name x p) (e :: es) [] pos) (EK (spF K n F) [] E0 t) (AC w F m):=⟨Ov G hr DA ha.p hjk hg hdb he hpl,JD ha.r hF⟩
theorem JN{j k:Nat}{f:Addr}{fd:FuncData}{ps:List Str}{n:Nat}{F:List D->Hd->Option (D × Hd)}{st:Stmt}{p:Pos}(G:FnOk X.prog X.w X.K X.mg X.base CX0 j f fd ps (spF K n F))(hr:Room k X.A)(DA:DefAt X.K X.mg x st f fd ps)(ha:QA K X (e :: es) t m)(hF:∀ ds hd z,F ds hd=some z->ds.length=n)
    (hjk:j <= k:=by decide) (hg:Gl X x:=by rfl) (hdb:(x == ("__debug__":Str))=false:=by decide) (he:starEach (e :: es) X.env=(false,eval e X.env) :: starEach es X.env:=by rfl) (hpl:(backTo pos (starEach es X.env)).any (·.1)=false:=by rfl) :
    QE K X (.Call (.Name x p) (e :: es) [] pos) (EK (spF K n F) [] E0 t) (Er F m):=⟨Ov G hr DA ha.p hjk hg hdb he hpl,Nd ha.r hF⟩
theorem AR{i:Nat}(hN:X.N.Nodup)(hi:X.N[i]? = some x)(hx:Loc X.env.scope x)(hf:X.fn x=true ∨ X.env.scope.names.lookup x=some .local:=by first|exact .inl rfl|exact .inr rfl|assumption):QG K X (.Name x pos) (HM i) (AS i):=⟨QP hN hi hx hf,KB⟩
theorem Ci:QGs K X [] OK DE:=⟨QL,Pn⟩
theorem Al{tg:TG}{tgs:TGs}{n:MG}{ns:MGs}(h1:QG K X e tg n)(h2:QGs K X es tgs ns)(hs:(assignEach (e :: es) X.env).map (·.2)=assign e X.env :: (assignEach es X.env).map (·.2):=by rfl):QGs K X (e :: es) (Lb tg tgs) (Aw n ns):=⟨O4 h1.p h2.p hs,Na h1.r h2.r⟩
theorem DX{k n:Nat}{tgs:TGs}{ns:MGs}(hc:X.calm=true)(h:QGs K X es tgs ns)(hK:X.K=K:=by rfl)(hn:(assignEach es X.env).length=n:=by rfl)(hst:(assignEach es X.env).findIdx? (·.1)=none:=by rfl):QG K X (.Tuple es k pos) (La K n tgs) (DD n ns):=⟨QM K hc h.p hK hn hst,S0 h.r⟩
theorem E8{tg:Expr}(h:QE K X e te me)(hK:X.K=K:=by rfl):QI K X tg e (LW K te) (C6 me):=⟨QH K h.p hK,Ry h.r⟩
theorem Q1{tg:Expr}(h:QE K X e te me)(hK:X.K=K:=by rfl):QI K X tg e (GG K te) (Fm me):=⟨JS K h.p hK,Pl h.r⟩
theorem SQ{tg:Expr}(h:QN K X e te m)(hK:X.K=K:=by rfl):QI K X tg e (GG K te) (Jc m):=⟨JS K h.p hK,Rz h.r⟩
theorem G9{tg:Expr}{p:Pos}(hm:X.mg "range"=none)(ha:QA K X [a] t m)(hg:Gl X "range":=by rfl)(hs:starEach [a] X.env=[(false,eval a X.env)]:=by rfl):QI K X tg (.Call (.Name "range" p) [a] [] pos) (LX t) (FG m):=⟨MV hg hm ha.p hs,Pk ha.r⟩
theorem DY:QF K X [] NH Cb:=⟨Sf,Rn⟩
theorem SR(h:QT K X c tA nA):QF K X [c] tA nA:=⟨Se h.p,h.r⟩
theorem CI{elt tg iter:Expr}{ifs:List Expr}{scope:Scope}{loc fr:List Str}{ix:List Nat}{wi:TI}{g:TG}{tf:TT}{te:TE}{mi:MI}{n:MG}{mf:MT}{mm:ME}(hc:X.calm=true)(S:CSc X scope fr ix)(hi:QI K X tg iter wi mi)
    (hg:∀ s H ex,QG K (cCx X (loc ++ fr) scope s H ex) tg g n) (hf:∀ s H ex,QF K (cCx X (loc ++ fr) scope s H ex) ifs tf mf) (he:∀ s H ex,QE K (cCx X (loc ++ fr) scope s H ex) elt te mm)
    (hs:∀ x,foldedSetIterable iter X.env x=pure x:=by intro _;rfl):QN K X (.ListComp elt [⟨tg,iter,ifs,0⟩] scope pos) (Ky loc.length ix wi g tf te) (Bn loc.length ix mi n mf mm):=
  ⟨QV hc S hi.p (λ s H ex=>(hg s H ex).p) (λ s H ex=>(hf s H ex).p) (λ s H ex=>(he s H ex).p) hs,Pj hi.r (hg X.s₀ X.H₀ []).r (hf X.s₀ X.H₀ []).r (he X.s₀ X.H₀ []).r⟩
theorem Bq:QSs K X [] Ia BQ:=⟨Hi,KA⟩
theorem AA{st:Stmt}{rest:List Stmt}{u v:TS}{m1 m2:MS}(h1:QS K X st u m1)(h2:QSs K X rest v m2):QSs K X (st :: rest) (J0 u v) (AG m1 m2):=⟨JQ h1.p h2.p,M5 h1.r h2.r⟩
theorem AJ{st:Stmt}{u:TS}{m1:MS}(h1:QS K X st u m1):QSs K X [st] u m1:=⟨GB h1.p,h1.r⟩
theorem Ch(he:QE K X e te me)(hs:swapsWith e none pos.line X.env=pure false:=by rfl):QS K X (.Expr e pos) (Kx te) (Ba me):=⟨Q9 he.p hs,Pe he.r⟩
theorem As(he:QE K X e te me):QS K X (.Return (some e) pos) (GP te) (Ab me):=⟨SX he.p,J8 he.r⟩
theorem Cp{a b:List Stmt}{u v:TS}{m1 m2:MS}(hc:QT K X c tA nA)(ha:QSs K X a u m1)(hb:QSs K X b v m2):QS K X (.If c a b pos) (J2 tA u v) (BR nA m1 m2):=⟨Os hc.p ha.p hb.p,Og hc.r ha.r hb.r⟩
theorem JH{st:Stmt}:QS K X st Go CU:=⟨O1,JA⟩
theorem JI{tg:Expr}{g:TG}{n:MG}(he:QE K X e te me)(hg:QG K X tg g n)(hs:swapsWithSole [tg] e pos.line X.env=pure false:=by rfl)(hw:swappedStores [tg] e X.env=pure none:=by rfl)
    (h1:(assignEach [tg] X.env).map (·.2)=[assign tg X.env]:=by rfl):QS K X (.Assign [tg] e pos) (GQ te g) (Fp me n):=⟨MR he.p hg.p hs hw h1,M6 he.r hg.r⟩
theorem Ac{i:Nat}{pos':Pos}(hN:X.N.Nodup)(hi:X.N[i]? = some x)(hx:Loc X.env.scope x)(he:QE K X e te me)(hs:swapsWith e (some (.Name x pos')) pos.line X.env=pure false:=by rfl)(hf:X.fn x=true ∨ X.env.scope.names.lookup x=some .local:=by first|exact .inl rfl|exact .inr rfl|assumption) :
    QS K X (.Assign [.Name x pos'] e pos) (GQ te (HM i)) (Ao i me):=⟨JR hN hi hx he.p hs hf,M6 he.r KB⟩
theorem DW{i j:Nat}{x y:Str}{a b:Expr}{px py pt:Pos}{kt k2 pt2}(hc:X.calm=true)(hN:X.N.Nodup)(hi:X.N[i]? = some x)(hj:X.N[j]? = some y)(hij:i ≠ j)
    (hx:X.env.scope.names.lookup x=some .local) (hy:X.env.scope.names.lookup y=some .local) (ha:QA K X [a,b] t m)
    (hw:swappedStores [.Tuple [.Name x px,.Name y py] kt pt] (.Tuple [a,b] k2 pt2) X.env=pure (some [x,y]):=by rfl)
    (hs:swapsWithSole [.Tuple [.Name x px,.Name y py] kt pt] (.Tuple [a,b] k2 pt2) pos.line X.env=pure false:=by rfl) :
    QS K X (.Assign [.Tuple [.Name x px,.Name y py] kt pt] (.Tuple [a,b] k2 pt2) pos) (NK i j t) (C0 [i,j] m):=⟨SY hc hN hi hj hij hx hy ha.p hw,Rr ha.r⟩
theorem Pz{i j k:Nat}{x y z:Str}{a b c:Expr}{px py pz pt:Pos}{kt k2 pt2}(hc:X.calm=true)(hN:X.N.Nodup)(hi:X.N[i]? = some x)(hj:X.N[j]? = some y)(hk:X.N[k]? = some z)
    (hx:X.env.scope.names.lookup x=some .local) (hy:X.env.scope.names.lookup y=some .local) (hz:X.env.scope.names.lookup z=some .local) (ha:QA K X [a,b,c] t m)
    (hw:swappedStores [.Tuple [.Name x px,.Name y py,.Name z pz] kt pt] (.Tuple [a,b,c] k2 pt2) X.env=pure (some [x,y,z]):=by rfl)
    (hs:swapsWithSole [.Tuple [.Name x px,.Name y py,.Name z pz] kt pt] (.Tuple [a,b,c] k2 pt2) pos.line X.env=pure false:=by rfl) :
    QS K X (.Assign [.Tuple [.Name x px,.Name y py,.Name z pz] kt pt] (.Tuple [a,b,c] k2 pt2) pos) (Kw i j k t) (GE i j k m):=⟨Q8 hc hN hi hj hk hx hy hz ha.p hw hs,Pc ha.r⟩
theorem Eh{o i value:Expr}{pos':Pos}{to ti tv:TE}{mo mi mv:ME}(ho:QE K X o to mo)(hi:QE K X i ti mi)(hv:QE K X value tv mv)(hs:swapsWithSole [.Subscript o i pos'] value pos.line X.env=pure false:=by rfl)(hw:swappedStores [.Subscript o i pos'] value X.env=pure none:=by rfl)
    (h1:(assignEach [.Subscript o i pos'] X.env).map (·.2)=[assign (.Subscript o i pos') X.env]:=by rfl)
    (ha:∀ v,assign (.Subscript o i pos') X.env v=(do
      let ov <- holding [v] (eval o X.env)
      let iv <- holding [v,ov] (eval i X.env)
      standAt pos'
      holding [v,ov,iv] (setItem ov iv v)
      release [v,ov,iv] []):=by intro _;rfl):QS K X (.Assign [.Subscript o i pos'] value pos) (GQ tv (OJ to ti LG)) (Dq mo mi mv):=⟨MR hv.p (Sd ho.p hi.p NS ha) hs hw h1,Pd ho.r hi.r hv.r⟩
theorem E7{tg iter:Expr}{body:List Stmt}{wi:TI}{g:TG}{tb:TS}{mi:MI}{n:MG}{mb:MS}(hc:X.calm=true)(hi:QI K X tg iter wi mi)(hg:QG K X tg g n)(hb:QSs K X body tb mb)(hp:PassesOwn (model X.prog X.w) X.A X.env X.xe:=by exact PassesOwn.never)
    (hs:∀ x,foldedSetIterable iter X.env x=pure x:=by intro _;rfl):QS K X (.For tg iter body [] pos) (NP wi g tb) (Dl mi n mb):=⟨SZ hp hc hi.p hg.p hb.p hs,Rt hi.r hg.r hb.r⟩
theorem Np{body:List Stmt}{tb:TS}{mb:MS}(hc:QT K X c tA nA)(hb:QSs K X body tb mb)(hp:PassesOwn (model X.prog X.w) X.A X.env X.xe:=by exact PassesOwn.never):QS K X (.While c body [] pos) (Iz tA tb) (EC nA mb):=⟨O0 hp hc.p hb.p,NU hc.r hb.r⟩
end
theorem Ax{P:Program}{w:World}{K:PySem.W.Frag}{mg:Str->Option Value}{base:Heap}{x:Str}{st:Stmt}{f:Addr}{fd:FuncData}{N ps:List Str}{j:Nat}{m:MS}(DA:DefAt K mg x st f fd ps)(S:FnScope N ps (A9 st))
    (h:∀ (cdv:Value) (A:Around) (outer:List Env) (s:Shared) (H:Hp) (E:XK),Room j (A.deeper (envOfC x (A9 st) s.heap.objs.size f cdv))->∃ t,QSs K (EF CX0 P w K mg base N x (A9 st) f cdv A outer s H E).nox (AT st) t m) :
    FnOk P w K mg base CX0 (j + 1) f fd ps (spF K ps.length (mkF ps.length N.length m)):=by
  refine DA.fn.ok S (λ vs H Q E h=>h.1) (λ cdv A outer s H vs Q E hr hs=>?_)
  obtain⟨t,q⟩:=h cdv A outer s H E hr
  exact⟨t,q.p,PM q.r hs⟩
end L2
namespace L2
open PySem PySem.Spec PyProof.Rows
section
variable{X:Cx}{pins:List (Addr × Obj)}{σ:List (Option V)}{H H':Hp}{s:Shared}{h':Heap}
theorem Inv.turns{tk:Nat}{fp:List Addr}(I:Inv X pins σ H s)(k:∀ b o,b ∉ fp->s.heap.get? b=some o->h'.get? b=some o)(hf:∀ b ∈ fp,EH X pins H b):Inv X pins σ H { s with heap:=h',toks:=tk }:=by
  have out:∀ b u,H b=some u->b ∉ fp:=λ b u e z=>by rw[(hf b z).1]at e;cases e
  have hL:X.env.locals ∉ fp:=λ z=>(hf _ z).2.1 rfl
  refine I.step (g':=s.gens) (d':=s.drawn) (ch:=fp) (λ b hb=>⟨(hf b hb).2.2.2.1,(hf b hb).2.1,(hf b hb).2.2.2.2.1,(hf b hb).2.2.2.2.2⟩) (λ b o _ _ hc e _=>k b o hc e) (λ b o _ _ hc e _=>⟨o.slots,k b o hc e⟩) (λ _ _ _ _ n=>n)
    (λ b o hc e=>⟨o,k b o hc e⟩) (λ _ _ e=>e) (λ _ _ _ e=>e) (λ b ps e=>⟨#[],by rw[e];simp⟩) (λ m hm=>?_) (λ b u e=>?_) I.bare
  . obtain⟨o,es,ep,ho,r⟩:=hm
    exact⟨o,es,ep,k _ o hL ho,r⟩
  . refine(I.hok b u e).stay (λ c v hc q=>k c v ?_ q) (λ _ q=>q) λ _ _ q=>q
    rcases hc with z|z
    . rw[z];exact out b u e
    . exact out c _ z
end
theorem Inv.turnsL{X:Cx}{pins:List (Addr × Obj)}{σ:List (Option V)}{H:Hp}{s:Shared}{h':Heap}{tk:Nat}{fp:List Addr}{a:Addr}{o:HO}(I:Inv X pins σ H s)(k:∀ b o,b ∉ fp->s.heap.get? b=some o->h'.get? b=some o)(hf:∀ b ∈ fp,EH X pins H b)(ha:s.heap.objs.size <= a)(new:ObjOk X.prog X.w (upd H a o) h' a o) :
    Inv X pins σ (upd H a o) { s with heap:=h',toks:=tk }:=by
  have out:∀ b u,H b=some u->b ∉ fp:=λ b u e z=>by rw[(hf b z).1]at e;cases e
  have hL:X.env.locals ∉ fp:=λ z=>(hf _ z).2.1 rfl
  have fr:H a=none:=I.hok.fresh ha
  refine I.step (g':=s.gens) (d':=s.drawn) (ch:=fp) (λ b hb=>⟨(hf b hb).2.2.2.1,(hf b hb).2.1,(hf b hb).2.2.2.2.1,(hf b hb).2.2.2.2.2⟩) (λ b o _ _ hc e _=>k b o hc e) (λ b o _ _ hc e _=>⟨o.slots,k b o hc e⟩)
    (λ b o _ e n=>by rw[AF (Nat.ne_of_lt (Nat.lt_of_lt_of_le (Heap.lt_size e) ha))];exact n) (λ b o hc e=>⟨o,k b o hc e⟩) (λ b xs e=>by rw[AF (AZ e fr)];exact e) (λ b o u e=>by rw[AF (AZ e fr)];exact e)
    (λ b ps e=>⟨#[],by rw[AF (AZ e fr),e];simp⟩) (λ m hm=>?_) (λ b u e=>?_) I.bare
  . obtain⟨o,es,ep,ho,r⟩:=hm
    exact⟨o,es,ep,k _ o hL ho,r⟩
  . by_cases hb:b=a
    . subst hb;rw[AQ]at e;cases e;exact new
    . rw[AF hb]at e
      refine(I.hok b u e).stay (λ c v hc q=>k c v ?_ q) (λ c q=>by rw[AF (AZ q fr)];exact q) λ c xs q=>by rw[AF (AZ q fr)];exact q
      rcases hc with z|z
      . rw[z];exact out b u e
      . exact out c _ z
noncomputable def Wf(tp:Bool)(h:Heap)(it l:Addr)(k:Nat):Prop:=match tp with
  | true=>h.IsTupleIter it l k
  | false=>h.IsListIter it l k
section
variable{prog:Program}{w:World}{A:Around}{E:Value->Shared->Prop}{s:Shared}{it l:Addr}{k:Nat}{xs:Array Value}{x:Value}
end
section
variable{prog:Program}{w:World}{A:Around}{E:Value->Shared->Prop}{s:Shared}{t1 t2:Bool}{z a b i1 i2 l1 l2:Addr}{j k:Nat}{xs ys:Array Value}{x y:Value}
end
noncomputable def SqS(K:PySem.W.Frag)(tp:Bool)(H:Hp)(a:Addr)(xs:List V):Prop:=match tp with
  | true=>SqT K H a xs
  | false=>SqL K H a xs
section
variable{X:Cx}{pins:List (Addr × Obj)}{σ:List (Option V)}{H:Hp}{s:Shared}
end
end L2
namespace L2
open PySem PySem.Spec PyProof.Rows
section
variable{prog:Program}{w:World}{A:Around}{E:Value->Shared->Prop}{s:Shared}
end
section
variable{X:Cx}
end
noncomputable def UT(K:PySem.W.Frag)(ρ:List Addr)(H:Hp)(tp:Bool)(a:Addr)(ds:List D)(g:Gd):Prop:=∀ (ρ2:List Addr) (H2:Hp) (hd2:Hd),Ext ρ H ρ2 H2->RH K ρ2 H2 hd2->GOk hd2 g->∃ xs,SqS K tp H2 a xs/\RDs K ρ2 H2 ds xs
noncomputable def RRw(K:PySem.W.Frag)(tp:Bool)(t:TE)(m:MI):Prop:=∀ (ρ:List Addr) (σ:St) (H:Hp) (hd:Hd) (ls:Ls) (Q:VK) (d:List D) (g:Gd) (hd':Hd),RH K ρ H hd->RL K ρ H ls σ->m ls hd=some ((d,g),hd') ->
  (∀ ρ' H' a,Ext ρ H ρ' H'->RH K ρ' H' hd'->GOk hd' g->UT K ρ' H' tp a d g->Q (.ref a) H')->t σ H Q
structure QR(K:PySem.W.Frag)(tp:Bool)(X:Cx)(e:Expr)(t:TE)(m:MI):Prop where
  p:PE X e t
  r:RRw K tp t m
section
variable{K:PySem.W.Frag}{ρ ρ':List Addr}{H H':Hp}{hd hd':Hd}
theorem Rl{t:TE}{m:ME}(h:RE K t m):RRw K true t (C6 m):=by
  intro ρ σ H hd ls Q d g hd' hR hL hm hQ
  obtain⟨⟨d1,h1⟩,e1,hm⟩:=Option.bind_eq_some_iff.mp hm
  obtain⟨ds,e2,e3⟩:=Option.map_eq_some_iff.mp hm
  cases e3
  refine h ρ σ H hd ls _ d1 _ hR hL e1 λ ρ1 H1 v x1 R1 r1=>?_
  obtain⟨a,xs,rfl,q,r⟩:=r1.tup e2
  exact hQ ρ1 H1 a x1 R1 (Ap _) λ ρ2 H2 hd2 x2 R2 _=>⟨xs,(x2.grow R1).sq q,r.ext R1 x2⟩
theorem Pa{t:TE}{m:ME}(h:RE K t m):RRw K false t (Fm m):=by
  intro ρ σ H hd ls Q d g hd' hR hL hm hQ
  obtain⟨⟨d1,h1⟩,e1,hm⟩:=Option.bind_eq_some_iff.mp hm
  dsimp only at hm
  split at hm
  . next n=>
    split at hm
    . next ds q=>
      cases hm
      refine h ρ σ H hd ls _ _ _ hR hL e1 λ ρ1 H1 v x1 R1 r1=>?_
      simp only[RD]at r1
      obtain⟨a,hn,rfl⟩:=r1
      refine hQ ρ1 H1 a x1 R1 (λ p z=>by simp at z;subst z;exact q) λ ρ2 H2 hd2 x2 R2 G2=>?_
      have hn2:ρ2[n]? = some a:=by
        obtain⟨r,rfl,_⟩:=x2.pre
        rw[List.getElem?_append_left (List.getElem?_eq_some_iff.mp hn).1];exact hn
      obtain⟨ys,e4,e5⟩:=R2.lst hn2 (G2 (n,d) (by simp))
      exact⟨ys,SqL.of e4,e5⟩
    . cases hm
  . next ns=>
    cases hm
    refine h ρ σ H hd ls _ _ _ hR hL e1 λ ρ1 H1 v x1 R1 r1=>?_
    simp only[RD]at r1
    obtain⟨a,rfl,q⟩:=r1
    exact hQ ρ1 H1 a x1 R1 (Ap _) λ ρ2 H2 hd2 x2 R2 _=>⟨_,(q.grow (x2.grow R1)).sq,GF⟩
  . cases hm
end
section
variable(K:PySem.W.Frag){X:Cx}{a b e:Expr}{ta tb te:TE}{me:ME}{m:MA}
theorem MK(h:QE K X e te me):QR K true X e te (C6 me):=⟨h.p,Rl h.r⟩
theorem Q0(h:QE K X e te me):QR K false X e te (Fm me):=⟨h.p,Pa h.r⟩
end
section
variable{K:PySem.W.Frag}
noncomputable def GZ(ml:MA)(mb:ME):ME:=λ ls hd=>(ml ls hd).bind λ p=>(mb ls p.2).bind λ q=>match q.1 with
  | .im (.int i)=>(atI p.1 i).map (·,q.2)
  | _=>none
theorem SB{ta tb:TE}{ml:MA}{mb:ME}(ha:RN K ta ml)(hb:RE K tb mb):RE K (tOp (Ie K) ta tb) (GZ ml mb):=by
  intro ρ σ H hd ls Q d hd' hR hL hm hQ
  obtain⟨⟨d1,h1⟩,e1,hm⟩:=Option.bind_eq_some_iff.mp hm
  obtain⟨⟨d2,h2⟩,e2,hm⟩:=Option.bind_eq_some_iff.mp hm
  dsimp only at hm
  split at hm
  . obtain⟨w,e3,e4⟩:=Option.map_eq_some_iff.mp hm
    cases e4
    refine ha ρ σ H hd ls _ d1 h1 hR hL e1 λ ρ1 H1 a xs x1 R1 na oa ea r1=>?_
    refine hb ρ1 σ H1 h1 ls _ _ _ R1 (hL.ext hR x1) e2 λ ρ2 H2 v2 x2 R2 r2=>?_
    simp only[RD,RI]at r2
    subst r2
    have r1':=r1.ext R1 x2
    obtain⟨j,j1,j2⟩:=Kg r1'.len e3
    obtain⟨x,y1,y2⟩:=r1'.get j1
    exact .inl ⟨a,xs,_,x,rfl,rfl,SqL.of (x2.keep a _ ea oa nt),j2 x y1,hQ ρ2 H2 x (x1.trans R1 x2) R2 y2⟩
  . cases hm
noncomputable def Jm(neg:Bool)(x y:PyData)(hd:Hd):Option (D × Hd):=if x.canLay0=true/\y.canLay0=true/\min x.depth y.depth <= 60 then some (.im (.bl (if neg then !PyData.eqv x y else PyData.eqv x y)),hd)else none
noncomputable def FH(neg:Bool)(ma:ME)(ml:MA):ME:=λ ls hd=>(ma ls hd).bind λ p=>(ml ls p.2).bind λ q=>(pyD q.2 p.1).bind λ x=>(BS q.1).bind λ is=>Jm neg x (.list (I.pys is)) q.2
noncomputable def rEN(K:PySem.W.Frag)(neg:Bool):R2:=λ x y H Q=>∃ d e,Rep K H d x/\Rep K H e y/\d.canLay0=true/\e.canLay0=true/\min d.depth e.depth <= 60/\Q (.bl (if neg then !PyData.eqv d e else PyData.eqv d e)) H
theorem Pp{ρ:List Addr}{H:Hp}{a:Addr}{xs:List V}{ds:List D}{is:List I}(ea:H a=some (.lst xs))(r:RDs K ρ H ds xs)(e:BS ds=some is):Rep K H (.list (I.pys is)) (.ref a):=by
  rw[FU e]at r
  simp only[Rep]
  exact⟨a,xs,rfl,SqL.of ea,r.is.rep⟩
theorem Pr{neg:Bool}{ta tb:TE}{ma:ME}{ml:MA}(ha:RE K ta ma)(hb:RN K tb ml):RE K (tOp (rEN K neg) ta tb) (FH neg ma ml):=by
  intro ρ σ H hd ls Q d hd' hR hL hm hQ
  obtain⟨⟨d1,h1⟩,e1,hm⟩:=Option.bind_eq_some_iff.mp hm
  obtain⟨⟨d2,h2⟩,e2,hm⟩:=Option.bind_eq_some_iff.mp hm
  obtain⟨x,e3,hm⟩:=Option.bind_eq_some_iff.mp hm
  obtain⟨is,e4,hm⟩:=Option.bind_eq_some_iff.mp hm
  unfold Jm at hm
  split at hm
  . next c=>
    cases hm
    refine ha ρ σ H hd ls _ d1 h1 hR hL e1 λ ρ1 H1 v x1 R1 r1=>?_
    refine hb ρ1 σ H1 h1 ls _ d2 _ R1 (hL.ext hR x1) e2 λ ρ2 H2 a xs x2 R2 na oa ea r2=>?_
    exact⟨_,_,Dw R2 (r1.ext R1 x2) e3,Pp ea r2 e4,c.1,c.2.1,c.2.2,hQ ρ2 H2 _ (x1.trans R1 x2) R2 (by simp[RD,RI])⟩
  . cases hm
end
theorem Sq(K:PySem.W.Frag){X:Cx}(hu:X.A.units + 64 < cLine)(hK:X.K=K:=by rfl):OpR X (compareOp .NotEq) (rEN K true):=Em K hu hK
section
variable(K:PySem.W.Frag){X:Cx}{a b e:Expr}{ta tb te:TE}{ma mb me:ME}{m mk:MA}{pos:Pos}{op:CmpOp}{neg:Bool}
theorem MM(ha:QN K X a ta m)(hb:QE K X b tb mb)(hs:Hz b:=by exact λ _ _=>rfl)(hK:X.K=K:=by rfl):QE K X (.Subscript a b pos) (tOp (Ie K) ta tb) (GZ m mb):=⟨Ou ((Jg K hK).or (KS K hK)) ha.p hb.p hs,SB ha.r hb.r⟩
theorem Py(ho:OpR X (compareOp op) (rEN K neg))(ha:QE K X a ta ma)(hb:QN K X b tb m)(hm:behindInMarks op b=false:=by first|exact HC _|rfl):QT K X (.Compare a [op] [b] pos) (Gm (tOp (rEN K neg) ta tb)) (Aj (FH neg ma m)):=⟨Hh ho ha.p hb.p hm,Dv (Pr ha.r hb.r)⟩
end
end L2
namespace L2
open PySem PySem.Spec PyProof.Rows
section
variable{prog:Program}{w:World}{A:Around}{E:Value->Shared->Prop}{s:Shared}
end
section
variable{X:Cx}
end
section
variable{K:PySem.W.Frag}
open Classical in
noncomputable def OC(m:MA):MA:=λ ls hd=>(m ls hd).bind λ p=>match p.1 with
  | [.im (.int j)]=>if Oj j then some (Ar 0 j.toNat,p.2)else none
  | [.im (.int i),.im (.int j)]=>if Oi i j then some (Ar i (j - i).toNat,p.2)else none
  | _=>none
noncomputable def U9(m:MA):ME:=λ ls hd=>(OC m ls hd).bind λ p=>some (B0 p.1,p.2)
noncomputable def Of(xs:List Int):List Int:=xs.mergeSort (λ a b=>decide (a <= b))
noncomputable def Ql(m:MI):MA:=λ ls hd=>(m ls hd).bind λ p=>(BN p.1.1).bind λ ns=>if ns.length < 64 then some ((Of ns).map λ i=>.im (.int i),p.2)else none
end
section
variable(K:PySem.W.Frag){X:Cx}{a b e:Expr}{ta tb te:TE}{me:ME}{m:MA}{t:TA}{p p2 pos pos2:Pos}{es:List Expr}
end
end L2
namespace L2
structure BltA(mg:PySem.Str->Option PySem.Value):Prop where
  list:mg "list"=none
  tuple:mg "tuple"=none
  len:mg "len"=none
  range:mg "range"=none
  repr:mg "repr"=none
  sum:mg "sum"=none
  min:mg "min"=none
  max:mg "max"=none
  abs:mg "abs"=none
  all:mg "all"=none
  any:mg "any"=none
  sorted:mg "sorted"=none
  zip:mg "zip"=none
  isinstance:mg "isinstance"=none
  int:mg "int"=none
  bool:mg "bool"=none
  str:mg "str"=none
  set:mg "set"=none
  enumerate:mg "enumerate"=none
  reversed:mg "reversed"=none
  dict:mg "dict"=none
end L2
namespace L2
open PySem PySem.Spec PyProof.Rows
section
variable{ls:Ls}{hd:Hd}{a b c:MS}{ma mb mc:ME}{ta tb:MT}{m m1 m2:MA}{n:MG}{ns:MGs}{d e:D}
@[simp] theorem TH:AG a b ls hd=(a ls hd).bind λ p=>match p.1 with
  | .nx ls1=>b ls1 p.2
  | f=>some (f,p.2):=rfl
@[simp] theorem V6:BQ ls hd=some (.nx ls,hd):=rfl
@[simp] theorem VB:Ba ma ls hd=(ma ls hd).bind λ p=>some (.nx ls,p.2):=rfl
@[simp] theorem VY:Ab ma ls hd=(ma ls hd).bind λ p=>some (.rt p.1,p.2):=rfl
@[simp] theorem V1:UA ls hd=some (.rt (.im .non),hd):=rfl
@[simp] theorem Uq:Sz ls hd=some (.bk ls,hd):=rfl
@[simp] theorem VF:UG ls hd=some (.ct ls,hd):=rfl
@[simp] theorem Vf:BR ta a b ls hd=(ta ls hd).bind λ p=>if p.1=true then a ls p.2 else b ls p.2:=rfl
@[simp] theorem Jl:Fp ma n ls hd=(ma ls hd).bind λ p=>(n p.1 ls p.2).map λ ls'=>(.nx ls',p.2):=rfl
@[simp] theorem Qv(i:Nat):AS i d ls hd=some (ls.set i (some d)):=rfl
@[simp] theorem V3(k:Nat):DD k ns d ls hd=(AY d).bind λ ds=>if ds.length=k then ns ds ls hd else none:=rfl
@[simp] theorem Ul(d:D)(ds:List D):Aw n ns (d :: ds) ls hd=(n d ls hd).bind λ ls1=>ns ds ls1 hd:=rfl
@[simp] theorem V5:DE [] ls hd=some ls:=rfl
@[simp] theorem TJ(ix:List Nat):C0 ix m ls hd=(m ls hd).bind λ p=>if p.1.length=ix.length then some (.nx ((ix.zip p.1).foldl (λ l q=>l.set q.1 (some q.2)) ls),p.2)else none:=rfl
@[simp] theorem V2(i j k:Nat):GE i j k m ls hd=C0 [k,j,i] (λ ls hd=>(m ls hd).map λ p=>(p.1.reverse,p.2)) ls hd:=rfl
@[simp] theorem TC(i:Nat):A2 i ls hd=match ls[i]? with
  | some (some d)=>some (d,hd)
  | _=>none:=rfl
@[simp] theorem We(i:I):mC i ls hd=some (.im i,hd):=rfl
@[simp] theorem W8(f:D->D->Hd->Option (D × Hd)):mOp f ma mb ls hd=(ma ls hd).bind λ p=>(mb ls p.2).bind λ q=>f p.1 q.1 q.2:=rfl
@[simp] theorem Vj:Fq ta tb ls hd=(ta ls hd).bind λ p=>if p.1=true then tb ls p.2 else some (false,p.2):=rfl
@[simp] theorem W7:mOr ta tb ls hd=(ta ls hd).bind λ p=>if p.1=true then some (true,p.2)else tb ls p.2:=rfl
@[simp] theorem Va:Jb ta ls hd=(ta ls hd).bind λ p=>some (!p.1,p.2):=rfl
@[simp] theorem TD:Dk ma ls hd=(ma ls hd).bind λ p=>(Di p.2 p.1).map (·,p.2):=rfl
@[simp] theorem Qt:Aj ma ls hd=(ma ls hd).bind λ p=>match p.1 with
  | .im (.bl b)=>some (b,p.2)
  | _=>none:=rfl
@[simp] theorem W9:mIf ta ma mb ls hd=(ta ls hd).bind λ p=>if p.1=true then ma ls p.2 else mb ls p.2:=rfl
@[simp] theorem VI:FJ ma mb ls hd=(Aj ma ls hd).bind λ p=>if p.1=true then mb ls p.2 else some (.im (.bl false),p.2):=rfl
@[simp] theorem VZ:Ja ma mb ls hd=(Aj ma ls hd).bind λ p=>if p.1=true then some (.im (.bl true),p.2)else mb ls p.2:=rfl
@[simp] theorem V4:UB ma ls hd=(Aj ma ls hd).bind λ p=>some (.im (.bl (!p.1)),p.2):=rfl
@[simp] theorem Vb:A7 ls hd=some ([],hd):=rfl
@[simp] theorem VG:A1 ma m ls hd=(ma ls hd).bind λ p=>(m ls p.2).bind λ q=>some (p.1 :: q.1,q.2):=rfl
open Classical in
@[simp] theorem VV:Av m ls hd=(m ls hd).bind λ p=>if Bv p.1.length then some (B0 p.1,p.2)else none:=rfl
open Classical in
@[simp] theorem Vd:CN m ls hd=(m ls hd).bind λ p=>if Bv p.1.length then some (p.1,p.2)else none:=rfl
@[simp] theorem Vc:DF m ls hd=(m ls hd).bind λ p=>some (.mu p.2.length,p.2 ++ [.lst p.1]):=rfl
@[simp] theorem TK:GY ma ls hd=(ma ls hd).bind λ p=>match p.1 with
  | .im (.int i)=>some (.im (.int (-i)),p.2)
  | _=>none:=rfl
@[simp] theorem Ve(neg:Bool):Fo neg ma ls hd=(ma ls hd).bind λ p=>some (.im (.bl (match p.1 with
  | .im .non=>!neg
  | _=>neg)),p.2):=rfl
@[simp] theorem WB(g:Int->Int->Option I)(i j:Int):fI g (.im (.int i)) (.im (.int j)) hd=(g i j).map (.im ·,hd):=rfl
@[simp] theorem VA(f g:D->D->Hd->Option (D × Hd)):FQ f g d e hd=match f d e hd with
  | some z=>some z
  | none=>g d e hd:=rfl
@[simp] theorem Vi(neg:Bool)(i j:Int):EW neg (.im (.int i)) (.im (.int j)) hd=some (.im (.bl (if neg then !decide (i=j)else decide (i=j))),hd):=by simp[EW,scI,J5]
@[simp] theorem Vh(neg:Bool)(i j:Str):EW neg (.im (.str i)) (.im (.str j)) hd=some (.im (.bl (if neg then !decide (i=j)else decide (i=j))),hd):=by simp[EW,scI,J5]
@[simp] theorem UO(i:Int):gIx d (.im (.int i)) hd=(BI hd d).bind λ ds=>(atI ds i).map (·,hd):=rfl
@[simp] theorem VE:UK d e hd=(Hv hd d).bind λ kvs=>(Fu e).bind λ k=>(Rb kvs k).map (·,hd):=rfl
@[simp] theorem WC(f:List D->Hd->Option (D × Hd)):mCB f m ls hd=(m ls hd).bind λ p=>f p.1 p.2:=rfl
@[simp] theorem UP(tp:Bool)(g:List D->Option D):f1 tp g [d] hd=((if tp then BI hd d else B6 hd d)).bind λ ds=>(g ds).map (·,hd):=rfl
@[simp] theorem TU(g:List D->Option D):EE g m ls hd=(m ls hd).bind λ p=>(g p.1).map (·,p.2):=rfl
@[simp] theorem UN(f:D->List D->Hd->Option (D × Hd)):mMt f ma m ls hd=(ma ls hd).bind λ p=>match B6 p.2 p.1 with
  | some _=>(m ls p.2).bind λ q=>f p.1 q.1 q.2
  | none=>none:=rfl
@[simp] theorem V8(i j:Int):P1 [.im (.int i),.im (.int j)] hd=some (.im (.int (if j > i then j else i)),hd):=rfl
@[simp] theorem V7(i j:Int):HP [.im (.int i),.im (.int j)] hd=some (.im (.int (if j < i then j else i)),hd):=rfl
@[simp] theorem Vk(i:Int):Jj [.im (.int i)] hd=some (.im (.int (if i < 0 then -i else i)),hd):=rfl
@[simp] theorem TL:GZ m ma ls hd=(m ls hd).bind λ p=>(ma ls p.2).bind λ q=>match q.1 with
  | .im (.int i)=>(atI p.1 i).map (·,q.2)
  | _=>none:=rfl
@[simp] theorem TM:C6 ma ls hd=(ma ls hd).bind λ p=>(AY p.1).map λ ds=>((ds,[]),p.2):=rfl
@[simp] theorem TR:Jc m ls hd=(m ls hd).map λ p=>((p.1,[]),p.2):=rfl
@[simp] theorem TQ:Fm ma ls hd=(ma ls hd).bind λ p=>match p.1 with
  | .mu n=>match p.2[n]? with
    | some (.lst ds)=>some ((ds,[(n,ds)]),p.2)
    | _=>none
  | .ro ns=>some ((ns.map λ n=>.im (.int n),[]),p.2)
  | _=>none:=rfl
open Classical in
@[simp] theorem TN:FG m ls hd=(m ls hd).bind λ p=>match p.1 with
  | [.im (.int j)]=>if He j then some ((Ar 0 j.toNat,[]),p.2)else none
  | _=>none:=rfl
open Classical in
@[simp] theorem Qx:Oy m ls hd=(m ls hd).bind λ p=>match p.1 with
  | [.im (.int i),.im (.int j)]=>if NX i j then some ((Ar i (j - i).toNat,[]),p.2)else none
  | _=>none:=rfl
@[simp] theorem Vg(mi:MI):Dl mi n a ls hd=(mi ls hd).bind λ p=>Ct n a p.1.2 p.1.1 ls p.2:=rfl
open Classical in
@[simp] theorem VH(k:Nat)(ix:List Nat)(mi:MI):Bn k ix mi n ta ma ls hd=(mi ls hd).bind λ p=>if Bv p.1.1.length then B5 n ta ma p.1.2 p.1.1 (ES k ix ls) p.2 else none:=rfl
@[simp] theorem VU:Cb ls hd=some (true,hd):=rfl
@[simp] theorem Up(F:List D->Hd->Option (D × Hd)):Er F m ls hd=(m ls hd).bind λ p=>F p.1 p.2:=rfl
@[simp] theorem Ua:Bu ls hd=some (none,hd):=rfl
@[simp] theorem Qu:Cs ma ls hd=(ma ls hd).bind λ p=>match p.1 with
  | .im (.int i)=>some (some i,p.2)
  | _=>none:=rfl
@[simp] theorem V9:UC ma ls hd=(ma ls hd).bind λ p=>(BI p.2 p.1).map (·,p.2):=rfl
@[simp] theorem Um:HI m ls hd=m ls hd:=rfl
@[simp] theorem VW(ml mh:MO1):LQ ma ml mh ls hd=(ma ls hd).bind λ p=>(ml ls p.2).bind λ l=>(mh ls l.2).bind λ h=>(B6 h.2 p.1).bind λ ds=>some (EG ds l.1 h.1,h.2):=rfl
@[simp] theorem TF(ml mh:MO1):EU ma ml mh ls hd=(ma ls hd).bind λ p=>(ml ls p.2).bind λ l=>(mh ls l.2).bind λ h=>(AY p.1).bind λ ds=>if ¬ (HT.sIx ds.length 0 l.1=0/\HT.sIx ds.length ds.length h.1=ds.length)then some (B0 (EG ds l.1 h.1),h.2)else none:=rfl
@[simp] theorem V0:U9 m ls hd=(OC m ls hd).bind λ p=>some (B0 p.1,p.2):=rfl
open Classical in
@[simp] theorem VX:OC m ls hd=(m ls hd).bind λ p=>match p.1 with
  | [.im (.int j)]=>if Oj j then some (Ar 0 j.toNat,p.2)else none
  | [.im (.int i),.im (.int j)]=>if Oi i j then some (Ar i (j - i).toNat,p.2)else none
  | _=>none:=rfl
@[simp] theorem UY(mi:MI):Ql mi ls hd=(mi ls hd).bind λ p=>(BN p.1.1).bind λ ns=>if ns.length < 64 then some ((Of ns).map λ i=>.im (.int i),p.2)else none:=rfl
@[simp] theorem VD(ms:List (ME × ME)):UD ms ls hd=(Ep ms ls hd).bind λ p=>if p.1.length <= 15 then some (.mu p.2.length,p.2 ++ [.dic (Md [] p.1)])else none:=rfl
@[simp] theorem UZ:Ep [] ls hd=some ([],hd):=rfl
@[simp] theorem Uk(r:List (ME × ME)):Ep ((ma,mb) :: r) ls hd=(ma ls hd).bind λ p=>(mb ls p.2).bind λ q=>(Ep r ls q.2).bind λ z=>(Fu p.1).map λ k=>((k,q.1) :: z.1,z.2):=rfl
open Classical in
@[simp] theorem VC:UE ma mb mc ls hd=(mc ls hd).bind λ p=>(ma ls p.2).bind λ q=>(mb ls q.2).bind λ r=>(Fu r.1).bind λ k=>match q.1 with
  | .mu n=>match r.2[n]? with
    | some (.dic kvs)=>if ER kvs.length then some (.nx ls,r.2.set n (.dic (Ny kvs k p.1)))else none
    | _=>none
  | _=>none:=rfl
@[simp] theorem Qw:Dq ma mb mc ls hd=(mc ls hd).bind λ p=>(ma ls p.2).bind λ q=>(mb ls q.2).bind λ r=>match q.1,r.1 with
  | .mu n,.im (.int i)=>match r.2[n]? with
    | some (.lst ds)=>(ixN ds.length i).map λ j=>(.nx ls,r.2.set n (.lst (ds.set j p.1)))
    | _=>none
  | _,_=>none:=rfl
@[simp] theorem VJ(is:List I):AY (.im (.tup is))=some (is.map .im):=rfl
@[simp] theorem Vp(ds:List D):AY (.tm ds)=some ds:=rfl
@[simp] theorem Vr(k:Nat):AY (.mu k)=none:=rfl
@[simp] theorem Vq(k:List Int):AY (.ro k)=none:=rfl
@[simp] theorem VR(is:List I):BI hd (.im (.tup is))=some (is.map .im):=rfl
@[simp] theorem Vx(ds:List D):BI hd (.tm ds)=some ds:=rfl
@[simp] theorem Vz(k:Nat):BI hd (.mu k)=B6 hd (.mu k):=rfl
@[simp] theorem Vy(k:List Int):BI hd (.ro k)=some (k.map λ n=>.im (.int n)):=rfl
@[simp] theorem W4(k:Nat):B6 hd (.mu k)=match hd[k]? with
    | some (.lst ds)=>some ds
    | _=>none:=rfl
@[simp] theorem W0(k:List Int):B6 hd (.ro k)=some (k.map λ n=>.im (.int n)):=rfl
@[simp] theorem WD(k:Nat):Hv hd (.mu k)=match hd[k]? with
    | some (.dic ds)=>some ds
    | _=>none:=rfl
@[simp] theorem W6(i:Int):Fu (.im (.int i))=some (.inl i):=rfl
@[simp] theorem W5(i:Str):Fu (.im (.str i))=some (.inr i):=rfl
@[simp] theorem Vo:BS []=some []:=rfl
@[simp] theorem WH(i:I)(r:List D):BS (.im i :: r)=(BS r).map (i :: ·):=rfl
@[simp] theorem VS:BN []=some []:=rfl
@[simp] theorem VT(i:Int)(r:List D):BN (.im (.int i) :: r)=(BN r).map (i :: ·):=rfl
@[simp] theorem Vn:C7 []=some []:=rfl
@[simp] theorem WG(i:Bool)(r:List D):C7 (.im (.bl i) :: r)=(C7 r).map (i :: ·):=rfl
@[simp] theorem CB(is:List I):B0 (is.map .im)=.im (.tup is):=by simp[B0]
@[simp] theorem UX:B0 []=.im (.tup []):=rfl
@[simp] theorem Uz(i:I):B0 [.im i]=.im (.tup [i]):=rfl
@[simp] theorem Uy(i j:I):B0 [.im i,.im j]=.im (.tup [i,j]):=rfl
@[simp] theorem Ux(i j k:I):B0 [.im i,.im j,.im k]=.im (.tup [i,j,k]):=rfl
@[simp] theorem Uw(i j k l:I):B0 [.im i,.im j,.im k,.im l]=.im (.tup [i,j,k,l]):=rfl
@[simp] theorem Vm(w:Nat)(i:I):clD w (.im i)=true:=by simp[clD]
@[simp] theorem Vl(w n:Nat):clD w (.mu n)=decide (n < w):=by simp[clD]
@[simp] theorem Ur(w:Nat):BO w []=true:=by simp[BO]
@[simp] theorem N3(w:Nat)(d:D)(ds:List D):BO w (d :: ds)=(clD w d && BO w ds):=by simp[BO]
@[simp] theorem Cy{α:Type}(x:α)(r:List α):atI (x :: r) 0=some x:=Bh (j:=0) rfl
@[simp] theorem Cw{α:Type}(x y:α)(r:List α):atI (x :: y :: r) 1=some y:=Bh (j:=1) rfl
@[simp] theorem FT{α:Type}(x y z:α)(r:List α):atI (x :: y :: z :: r) 2=some z:=Bh (j:=2) rfl
theorem Hx{α:Type}{xs:List α}{i:Int}{k:Nat}{x:α}(hi:i=k)(h:xs[k]? = some x):atI xs i=some x:=by subst hi;exact Bh h
@[simp] theorem HN:Bv 0:=B2 (by decide)
@[simp] theorem Dd:Bv 1:=B2 (by decide)
@[simp] theorem Cv:Bv 2:=B2 (by decide)
@[simp] theorem Dc:Bv 3:=B2 (by decide)
@[simp] theorem Mr:Bv 4:=B2 (by decide)
@[simp] theorem Mq:Bv 5:=B2 (by decide)
open Classical in
@[simp] theorem TV(k:Nat)(x:D):Bf (.mu k) [x] hd=match hd[k]? with
    | some (.lst ds)=>if ER ds.length then some (.im .non,hd.set k (.lst (ds ++ [x])))else none
    | _=>none:=rfl
theorem NB{F:List D->Hd->Option (D × Hd)}{ds:List D}{hd1 h2:Hd}{i:I}(h1:m ls hd=some (ds,hd1))(hc:BO 0 ds=true)(hF:F ds []=some (.im i,h2)):AC 0 F m ls hd=some (.im i,hd1):=by
  simp[AC,h1,hc,hF,fin]
theorem Jv{w:Nat}{F:List D->Hd->Option (D × Hd)}{ds:List D}{pre pre' rest g:Hd}{i:I}(hw:pre.length=w)(hw':pre'.length=w)(h1:m ls hd=some (ds,pre ++ rest))(hc:BO w ds=true)(hp:pre.all (clO w)=true)(hp':pre'.all (clO w)=true)(hF:F ds pre=some (.im i,pre' ++ g)):AC w F m ls hd=some (.im i,pre' ++ rest):=by
  subst hw
  have e1:(pre ++ rest).take pre.length=pre:=by simp
  have e2:(pre' ++ g).take pre.length=pre':=by rw[<- hw'];simp
  simp only[AC,h1,Option.bind_some,e1,hc,hp,hF,fin,e2,hp']
  simp
end
end L2
namespace L2
open PySem PySem.Spec PyProof.Rows
section
variable{prog:Program}{w:World}{A:Around}{R:Result->Shared->Prop}{s:Shared}{elt tg iter tg2 iter2:Expr}{ifs ifs2:List Expr}{scope:Scope}{pos:Pos}{it acc:Value}{env:Env}
end
end L2
namespace L2
open PySem PySem.Spec PyProof.Rows
section
variable{X:Cx}
end
end L2
namespace L2
open PySem PySem.Spec PyProof.Rows
open Classical in
noncomputable def mIn(k:Nat)(n:MG)(c:MT)(m:ME)(g:Gd):List D->Ls->Hd->Option (Ls × Hd)
  | [],ls,hd=>some (ls,hd)
  | d :: r,ls,hd=>(n d ls hd).bind λ ls1=>(c ls1 hd).bind λ p=>if p.1=true then(m ls1 p.2).bind λ q=>(Bf (.mu k) [q.1] q.2).bind λ z=>if GOk z.2 g then mIn k n c m g r ls1 z.2 else none else if GOk p.2 g then mIn k n c m g r ls1 p.2 else none
open Classical in
noncomputable def LR(k:Nat)(n:MG)(c:MT)(mi:MI)(n2:MG)(c2:MT)(m:ME)(g:Gd):List D->Ls->Hd->Option Hd
  | [],ls,hd=>some hd
  | d :: r,ls,hd=>(n d ls hd).bind λ ls1=>(c ls1 hd).bind λ p=>if p.1=true then(mi ls1 p.2).bind λ q=>(mIn k n2 c2 m q.1.2 q.1.1 ls1 q.2).bind λ z=>if GOk z.2 g then LR k n c mi n2 c2 m g r z.1 z.2 else none else if GOk p.2 g then LR k n c mi n2 c2 m g r ls1 p.2 else none
noncomputable def Sy(j:Nat)(ix:List Nat)(mi:MI)(n:MG)(c:MT)(mi2:MI)(n2:MG)(c2:MT)(m:ME):ME:=λ ls hd=>(mi ls hd).bind λ p=>(LR p.2.length n c mi2 n2 c2 m p.1.2 p.1.1 (ES j ix ls) (p.2 ++ [.lst []])).map λ h=>(.mu p.2.length,h)
section
variable{K:PySem.W.Frag}{ρ:List Addr}{H:Hp}{hd:Hd}
end
end L2
namespace L2
open PySem PySem.Spec PyProof.Rows
@[simp] theorem Uo(j:Nat)(ix:List Nat)(mi mi2:MI)(n n2:MG)(c c2:MT)(m:ME)(ls:Ls)(hd:Hd):Sy j ix mi n c mi2 n2 c2 m ls hd=(mi ls hd).bind λ p=>(LR p.2.length n c mi2 n2 c2 m p.1.2 p.1.1 (ES j ix ls) (p.2 ++ [.lst []])).map λ h=>(.mu p.2.length,h):=rfl
end L2
namespace L2
open PySem PySem.Spec PyProof.Rows PySem.W
section
variable(r:Nat->Int)(n:Nat)
noncomputable def kv(p:Array Nat)(i:Nat):Int:=r (p.getD i 0)
end
section
variable{r:Nat->Int}{n:Nat}
end
end L2
namespace L2
open PySem PySem.Spec PyProof.Rows PySem.W
noncomputable def Sa(p:Int × Int):Int:=p.1 * 4000000000 + p.2
noncomputable def pok(p:Int × Int):Prop:=-1000000000 <= p.1/\p.1 <= 1000000000/\-1000000000 <= p.2/\p.2 <= 1000000000
section
variable{prog:Program}{w:World}{A:Around}{E:Value->Shared->Prop}{s:Shared}
end
end L2
namespace L2
open PySem PySem.Spec PyProof.Rows PySem.W
section
variable{prog:Program}{w:World}{A:Around}{E:Value->Shared->Prop}{s:Shared}
end
section
variable(K:PySem.W.Frag){X:Cx}
end
noncomputable def DM(p:Int × Int):D:=.im (.tup [.int p.1,.int p.2])
noncomputable def JV:List D->Option (List (Int × Int))
  | []=>some []
  | .im (.tup [.int a,.int b]) :: r=>(JV r).map ((a,b) :: ·)
  | _=>none
noncomputable def Oe(ps:List (Int × Int)):List (Int × Int):=ps.mergeSort λ a b=>decide (Sa a <= Sa b)
open Classical in
noncomputable def OB(m:MI):MA:=λ ls hd=>(m ls hd).bind λ p=>(JV p.1.1).bind λ ps=>if ps.length < 64/\∀ q ∈ ps,pok q then some ((Oe ps).map DM,p.2)else none
section
variable{K:PySem.W.Frag}{ρ:List Addr}{H:Hp}{hd:Hd}
open Classical in
noncomputable def TB:D->List D->Hd->Option (D × Hd)
  | .mu n,[.im (.int i)],hd=>match hd[n]? with
    | some (.lst ds)=>if He i then(ixN ds.length i).bind λ k=>(ds[k]?).map λ y=>(y,hd.set n (.lst (ds.eraseIdx k)))else none
    | _=>none
  | _,_,_=>none
end
end L2
namespace L2
open PySem PySem.Spec PyProof.Rows PySem.W
section
variable(K:PySem.W.Frag){X:Cx}{e:Expr}{te:TE}{p pos:Pos}
end
section
variable{ls:Ls}{hd:Hd}
open Classical in
@[simp] theorem Uj(k:Nat)(i:Int):TB (.mu k) [.im (.int i)] hd=match hd[k]? with
    | some (.lst ds)=>if He i then(ixN ds.length i).bind λ j=>(ds[j]?).map λ y=>(y,hd.set k (.lst (ds.eraseIdx j)))else none
    | _=>none:=rfl
open Classical in
@[simp] theorem UM(mi:MI):OB mi ls hd=(mi ls hd).bind λ p=>(JV p.1.1).bind λ ps=>if ps.length < 64/\∀ q ∈ ps,pok q then some ((Oe ps).map DM,p.2)else none:=rfl
end
end L2
namespace L2
open PySem PySem.Spec PyProof.Rows PySem.W
section
variable{m:ME}{ls:Ls}{hd hd':Hd}
end
end L2
namespace L2
open PySem PySem.Spec PyProof.Rows PySem.W
end L2
namespace L2
open PySem PySem.Spec PyProof.Rows
section
variable{prog:Program}{w:World}{A:Around}{R:Result->Shared->Prop}{s:Shared}
end
section
variable{X:Cx}
end
end L2
namespace L2
open PySem PySem.Spec PyProof.Rows
section
variable{K:PySem.W.Frag}{ρ ρ':List Addr}{H H':Hp}{hd hd':Hd}
noncomputable def Od(t:TE):TE:=tCB (λ xs H Q=>∃ a S n,xs=[V.ref a]/\H a=some (.set S n)/\Q (.int n) H) (Bx t Ca)
theorem N8{X:Cx}:CallR X (.builtin "len") (λ xs H Q=>∃ a S n,xs=[V.ref a]/\H a=some (.set S n)/\Q (.int n) H):=by
  intro pins s σ H xs us Q I r h
  obtain⟨a,S,n,rfl,ha,q⟩:=h
  obtain⟨u,rfl,ru⟩:=CG r
  cases ru
  obtain⟨o,es,ep,t,ho,hex,hd,_,_,hb,hf,rfl⟩:=I.hok a _ ha
  exact call_len_set ho hex hd hf (Int.lt_of_lt_of_le (Int.ofNat_lt.mpr hb) (by decide)) ⟨.int es.size,H,I.tok _,⟨_,rfl⟩,q⟩
theorem QU{X:Cx}{e:Expr}{te:TE}{p pos:Pos}(hm:X.mg "len"=none)(ha:PE X e te)(hg:Gl X "len":=by rfl)
    (he:starEach [e] X.env=[(false,eval e X.env)]:=by rfl):PE X (.Call (.Name "len" p) [e] [] pos) (Od te):=by
  exact DC (X:=X) (x:="len") (p:=p) (pos:=pos) N8 hg hm L2.bt_len (An ha Br he) (by decide) (by decide) he (by rfl)
variable(K:PySem.W.Frag){X:Cx}
variable{a b:Expr}{ta tb:TE}{ma mb:ME}{pos:Pos}
end
end L2
namespace L2
open PySem PySem.Spec PyProof.Rows
noncomputable def WP{α:Type}(o:Option (α × Hd))(Q:α->Hd->Prop):Prop:=∃ z h,o=some (z,h)/\Q z h
noncomputable abbrev WS(m:MS)(ls:Ls)(hd:Hd)(Q:Fl->Hd->Prop):Prop:=WP (m ls hd) Q
noncomputable abbrev WE(m:ME)(ls:Ls)(hd:Hd)(Q:D->Hd->Prop):Prop:=WP (m ls hd) Q
noncomputable abbrev WT(m:MT)(ls:Ls)(hd:Hd)(Q:Bool->Hd->Prop):Prop:=WP (m ls hd) Q
noncomputable abbrev WA(m:MA)(ls:Ls)(hd:Hd)(Q:List D->Hd->Prop):Prop:=WP (m ls hd) Q
noncomputable abbrev WO(m:MO1)(ls:Ls)(hd:Hd)(Q:Option Int->Hd->Prop):Prop:=WP (m ls hd) Q
noncomputable abbrev WI(m:MI)(ls:Ls)(hd:Hd)(Q:List D × Gd->Hd->Prop):Prop:=WP (m ls hd) Q
noncomputable abbrev WF(F:List D->Hd->Option (D × Hd))(ds:List D)(hd:Hd)(Q:D->Hd->Prop):Prop:=WP (F ds hd) Q
section
variable{α β:Type}{o:Option (α × Hd)}{Q:α->Hd->Prop}{R:β->Hd->Prop}{ls:Ls}{hd:Hd}{d e:D}
theorem WP.some{z:α}{h:Hd}(q:Q z h):WP (some (z,h)) Q:=⟨z,h,rfl,q⟩
theorem WP.mono{Q':α->Hd->Prop}(h:WP o Q)(k:∀ z h,Q z h->Q' z h):WP o Q':=let ⟨z,x,e,q⟩:=h;⟨z,x,e,k z x q⟩
theorem WP.bind{f:α × Hd->Option (β × Hd)}(h:WP o λ z x=>WP (f (z,x)) R):WP (o.bind f) R:=by
  obtain⟨z,x,e,q⟩:=h
  rw[e];exact q
theorem WP.eq{z:α}{h:Hd}(e:o=Option.some (z,h))(q:Q z h):WP o Q:=⟨z,h,e,q⟩
end
section
variable{ls:Ls}{hd:Hd}{a b:MS}{ma mb mc:ME}{ta tb:MT}{m m1 m2:MA}{n:MG}{ns:MGs}{mi:MI}{d e:D}{i j:Nat}{QS:Fl->Hd->Prop}{QE:D->Hd->Prop}{QT:Bool->Hd->Prop}{QA:List D->Hd->Prop}{QO:Option Int->Hd->Prop}{QI:List D × Gd->Hd->Prop}
noncomputable def EJ(b:MS)(Q:Fl->Hd->Prop):Fl->Hd->Prop
  | .nx l,h=>WS b l h Q
  | f,h=>Q f h
theorem AH(h:WS a ls hd (EJ b QS)):WS (AG a b) ls hd QS:=by
  obtain⟨f,x,e,q⟩:=h
  show WP (AG a b ls hd) QS
  rw[TH,e]
  cases f <;> first|exact q|exact⟨_,_,rfl,q⟩
theorem A8{l:Ls}{h:Hd}(q:WS b l h QS):EJ b QS (.nx l) h:=q
theorem Ix{h:Hd}(q:QS (.rt d) h):EJ b QS (.rt d) h:=q
theorem BD(h:QS (.nx ls) hd):WS BQ ls hd QS:=⟨_,_,rfl,h⟩
theorem Ai(h:WE ma ls hd λ d x=>QS (.rt d) x):WS (Ab ma) ls hd QS:=WP.bind (h.mono λ _ _ q=>WP.some q)
theorem Au(h:WE ma ls hd λ d x=>QS (.nx (ls.set i (some d))) x):WS (Ao i ma) ls hd QS:=by
  obtain⟨d,x,e,q⟩:=h
  exact⟨_,_,by simp only[Jl,e,Option.bind_some,Qv,Option.map_some],q⟩
theorem Im(h:WE ma ls hd λ d x=>∃ l,n d ls x=some l/\QS (.nx l) x):WS (Fp ma n) ls hd QS:=by
  obtain⟨d,x,e,l,e2,q⟩:=h
  exact⟨_,_,by simp only[Jl,e,Option.bind_some,e2,Option.map_some],q⟩
theorem DB(h:WE ma ls hd λ _ x=>QS (.nx ls) x):WS (Ba ma) ls hd QS:=WP.bind (h.mono λ _ _ q=>WP.some q)
theorem Th(h:WT ta ls hd λ c x=>if c=true then WS a ls x QS else WS b ls x QS):WS (BR ta a b) ls hd QS:=by
  refine WP.bind (h.mono λ c x q=>?_)
  dsimp only
  cases c <;> simpa using q
theorem BV(h:WT ta ls hd λ c x=>(c=true->WS a ls x QS)/\(c=false->WS b ls x QS)):WS (BR ta a b) ls hd QS:=
  Th (h.mono λ c x q=>by cases c <;> simp_all)
theorem Eb{ix:List Nat}(h:WA m ls hd λ ds x=>ds.length=ix.length/\QS (.nx ((ix.zip ds).foldl (λ l q=>l.set q.1 (some q.2)) ls)) x):WS (C0 ix m) ls hd QS:=by
  obtain⟨d,x,e,q,q2⟩:=h
  exact⟨_,_,by simp only[TJ,e,Option.bind_some,q,if_true],q2⟩
noncomputable def WL(n:MG)(b:MS)(g:Gd)(ds:List D)(ls:Ls)(hd:Hd)(Q:Fl->Hd->Prop):Prop:=WP (Ct n b g ds ls hd) Q
theorem DQ(h:WI mi ls hd λ p x=>WL n b p.2 p.1 ls x QS):WS (Dl mi n b) ls hd QS:=WP.bind (h.mono λ _ _ q=>q)
noncomputable def IX(g:Gd)(P:Ls->Hd->Prop)(Q:Fl->Hd->Prop):Fl->Hd->Prop
  | .nx l,h=>GOk h g/\P l h
  | .ct l,h=>GOk h g/\P l h
  | .bk l,h=>Q (.nx l) h
  | .rt d,h=>Q (.rt d) h
theorem Cm{g:Gd}(P:List D->Ls->Hd->Prop):∀ {ds:List D} {ls:Ls} {hd:Hd},P ds ls hd ->
    (∀ d r ls hd,P (d :: r) ls hd->∃ ls1,n d ls hd=some ls1/\WS b ls1 hd (IX g (P r) QS))->(∀ ls hd,P [] ls hd->QS (.nx ls) hd)->WL n b g ds ls hd QS
  | [],ls,hd,h,_,z=>⟨_,_,by unfold Ct;rfl,z _ _ h⟩
  | d :: r,ls,hd,h,k,z=>by
    obtain⟨ls1,e1,f,x,e2,q⟩:=k d r ls hd h
    unfold WL
    unfold Ct
    rw[e1,Option.bind_some,e2,Option.bind_some]
    cases f with
    | nx l=>exact(show GOk x g/\P r l x from q).1 |> λ g1=>by dsimp only;rw[if_pos g1];exact Cm P q.2 k z
    | ct l=>exact(show GOk x g/\P r l x from q).1 |> λ g1=>by dsimp only;rw[if_pos g1];exact Cm P q.2 k z
    | bk l=>exact⟨_,_,rfl,q⟩
    | rt l=>exact⟨_,_,rfl,q⟩
theorem A4(h:ls[i]? = some (some d))(q:QE d hd):WE (A2 i) ls hd QE:=⟨d,hd,by rw[TC,h],q⟩
theorem AL{i:I}(q:QE (.im i) hd):WE (mC i) ls hd QE:=⟨_,_,rfl,q⟩
theorem AD{f:D->D->Hd->Option (D × Hd)}(h:WE ma ls hd λ d x=>WE mb ls x λ e y=>WP (f d e y) QE):WE (mOp f ma mb) ls hd QE:=WP.bind (h.mono λ _ _ q=>WP.bind (q.mono λ _ _ q=>q))
theorem Ti(h:WT ta ls hd λ c x=>if c=true then WE ma ls x QE else WE mb ls x QE):WE (mIf ta ma mb) ls hd QE:=by
  refine WP.bind (h.mono λ c x q=>?_)
  dsimp only
  cases c <;> simpa using q
theorem RZ(h:WT ta ls hd λ c x=>(c=true->WE ma ls x QE)/\(c=false->WE mb ls x QE)):WE (mIf ta ma mb) ls hd QE:=
  Ti (h.mono λ c x q=>by cases c <;> simp_all)
theorem BF(h:WA m ls hd λ ds x=>Bv ds.length/\QE (B0 ds) x):WE (Av m) ls hd QE:=WP.bind (h.mono λ ds x q=>by dsimp only;rw[if_pos q.1];exact WP.some q.2)
theorem E1(h:WA m ls hd λ ds x=>QE (.mu x.length) (x ++ [.lst ds])):WE (DF m) ls hd QE:=WP.bind (h.mono λ _ _ q=>WP.some q)
theorem Cn{g:List D->Option D}(h:WA m ls hd λ ds x=>∃ d,g ds=some d/\QE d x):WE (EE g m) ls hd QE:=by
  obtain⟨ds,x,e,d,e2,q⟩:=h
  exact⟨d,x,by simp only[TU,e,Option.bind_some,e2,Option.map_some],q⟩
theorem Lv(h:WA m ls hd λ ds x=>WE ma ls x λ e y=>∃ i d,e=.im (.int i)/\atI ds i=some d/\QE d y):WE (GZ m ma) ls hd QE:=by
  obtain⟨ds,x,e,d,y,e2,i,z,rfl,e4,q⟩:=h
  exact⟨z,y,by simp only[TL,e,Option.bind_some,e2,e4,Option.map_some],q⟩
theorem CF{f:List D->Hd->Option (D × Hd)}(h:WA m ls hd λ ds x=>WP (f ds x) QE):WE (mCB f m) ls hd QE:=WP.bind (h.mono λ _ _ q=>q)
theorem Gj{f:D->List D->Hd->Option (D × Hd)}(h:WE ma ls hd λ d x=>(∃ l,B6 x d=some l)/\WA m ls x λ ds y=>WP (f d ds y) QE):WE (mMt f ma m) ls hd QE:=by
  obtain⟨d,x,e,⟨l,hl⟩,q⟩:=h
  unfold WE
  rw[UN,e,Option.bind_some]
  dsimp only
  rw[hl]
  exact WP.bind (q.mono λ _ _ q=>q)
theorem FC{F:List D->Hd->Option (D × Hd)}(h:WA m ls hd λ ds x=>WF F ds x QE):WE (Er F m) ls hd QE:=WP.bind (h.mono λ _ _ q=>q)
theorem RX(h:WE ma ls hd λ d x=>∃ i,d=.im (.int i)/\QE (.im (.int (-i))) x):WE (GY ma) ls hd QE:=by
  obtain⟨d,x,e,i,rfl,q⟩:=h
  exact⟨_,x,by simp only[TK,e,Option.bind_some],q⟩
theorem K6(h:WT (Aj ma) ls hd λ c x=>if c=true then WE mb ls x QE else QE (.im (.bl false)) x):WE (FJ ma mb) ls hd QE:=by
  refine WP.bind (h.mono λ c x q=>?_)
  dsimp only
  cases c
  . exact WP.some (by simpa using q)
  . simpa using q
theorem RW(h:WT (Aj ma) ls hd λ c x=>if c=true then QE (.im (.bl true)) x else WE mb ls x QE):WE (Ja ma mb) ls hd QE:=by
  refine WP.bind (h.mono λ c x q=>?_)
  dsimp only
  cases c
  . simpa using q
  . exact WP.some (by simpa using q)
theorem Bo(h:WE ma ls hd λ d x=>∃ b,d=.im (.bl b)/\QT b x):WT (Aj ma) ls hd QT:=by
  obtain⟨d,x,e,b,rfl,q⟩:=h
  exact⟨b,x,by simp only[Qt,e,Option.bind_some],q⟩
theorem EZ(h:WE ma ls hd λ d x=>∃ b,Di x d=some b/\QT b x):WT (Dk ma) ls hd QT:=by
  obtain⟨d,x,e,b,e2,q⟩:=h
  exact⟨b,x,by simp only[TD,e,Option.bind_some,e2,Option.map_some],q⟩
theorem Ik(h:WT ta ls hd λ c x=>QT (!c) x):WT (Jb ta) ls hd QT:=WP.bind (h.mono λ _ _ q=>WP.some q)
theorem Lk(h:WT ta ls hd λ c x=>if c=true then WT tb ls x QT else QT false x):WT (Fq ta tb) ls hd QT:=by
  refine WP.bind (h.mono λ c x q=>?_)
  dsimp only
  cases c
  . exact WP.some (by simpa using q)
  . simpa using q
theorem OX(h:WT ta ls hd λ c x=>if c=true then QT true x else WT tb ls x QT):WT (mOr ta tb) ls hd QT:=by
  refine WP.bind (h.mono λ c x q=>?_)
  dsimp only
  cases c
  . simpa using q
  . exact WP.some (by simpa using q)
theorem C8(h:QT true hd):WT Cb ls hd QT:=⟨_,_,rfl,h⟩
theorem AB(h:QA [] hd):WA A7 ls hd QA:=⟨_,_,rfl,h⟩
theorem A3(h:WE ma ls hd λ d x=>WA m ls x λ ds y=>QA (d :: ds) y):WA (A1 ma m) ls hd QA:=WP.bind (h.mono λ _ _ q=>WP.bind (q.mono λ _ _ q=>WP.some q))
theorem E2(h:WA m ls hd λ ds x=>Bv ds.length/\QA ds x):WA (CN m) ls hd QA:=WP.bind (h.mono λ ds x q=>by dsimp only;rw[if_pos q.1];exact WP.some q.2)
theorem Lq{ml mh:MO1}(h:WE ma ls hd λ d x=>WO ml ls x λ l y=>WO mh ls y λ u z=>∃ ds,AY d=some ds/\¬ (HT.sIx ds.length 0 l=0/\HT.sIx ds.length ds.length u=ds.length)/\QE (B0 (EG ds l u)) z):WE (EU ma ml mh) ls hd QE:=by
  obtain⟨d,x,e,l,y,e2,u,z,e3,ds,e4,c,q⟩:=h
  exact⟨_,z,by simp only[TF,e,Option.bind_some,e2,e3,e4];rw[if_pos c],q⟩
theorem Oa(h:QO none hd):WO Bu ls hd QO:=⟨_,_,rfl,h⟩
theorem K4(h:WE ma ls hd λ d x=>∃ i,d=.im (.int i)/\QO (some i) x):WO (Cs ma) ls hd QO:=by
  obtain⟨d,x,e,i,rfl,q⟩:=h
  exact⟨_,x,by simp only[Qu,e,Option.bind_some],q⟩
theorem Iu(h:WA m ls hd λ ds x=>∃ k,ds=[.im (.int k)]/\He k/\QI (Ar 0 k.toNat,[]) x):WI (FG m) ls hd QI:=by
  obtain⟨ds,x,e,k,rfl,c,q⟩:=h
  exact⟨_,x,by simp only[TN,e,Option.bind_some,c,if_true],q⟩
theorem Ob(h:WA m ls hd λ ds x=>∃ j k,ds=[.im (.int j),.im (.int k)]/\NX j k/\QI (Ar j (k - j).toNat,[]) x):WI (Oy m) ls hd QI:=by
  obtain⟨ds,x,e,j,k,rfl,c,q⟩:=h
  exact⟨_,x,by simp only[Qx,e,Option.bind_some,c,if_true],q⟩
theorem Dh(h:WE ma ls hd λ d x=>∃ ds,AY d=some ds/\QI (ds,[]) x):WI (C6 ma) ls hd QI:=by
  obtain⟨d,x,e,ds,e2,q⟩:=h
  exact⟨_,x,by simp only[TM,e,Option.bind_some,e2,Option.map_some],q⟩
theorem NF(h:WA m ls hd λ ds x=>QI (ds,[]) x):WI (Jc m) ls hd QI:=by
  obtain⟨ds,x,e,q⟩:=h
  exact⟨_,x,by simp only[TR,e,Option.map_some],q⟩
theorem Km(h:WE ma ls hd λ d x=>∃ k ds,d=.mu k/\x[k]? = some (.lst ds)/\QI (ds,[(k,ds)]) x):WI (Fm ma) ls hd QI:=by
  obtain⟨d,x,e,k,ds,rfl,e2,q⟩:=h
  exact⟨_,x,by simp only[TQ,e,Option.bind_some,e2],q⟩
theorem Be{k:Nat}{ix:List Nat}(h:WI mi ls hd λ p x=>Bv p.1.length/\WP (B5 n ta ma p.2 p.1 (ES k ix ls) x) QA):WA (Bn k ix mi n ta ma) ls hd QA:=WP.bind (h.mono λ p x q=>by dsimp only;rw[if_pos q.1];exact q.2)
theorem Iv{g:Gd}(P:List D->List D->Ls->Hd->Prop):∀ {ds es:List D} {ls:Ls} {hd:Hd},P ds es ls hd ->
    (∀ d r es ls hd,P (d :: r) es ls hd->∃ ls1,n d ls hd=some ls1/\WT ta ls1 hd λ c x=>if c=true then WE ma ls1 x λ z y=>GOk y g/\P r (es ++ [z]) ls1 y else GOk x g/\P r es ls1 x) ->
    WP (B5 n ta ma g ds ls hd) λ zs x=>∃ ls',P [] (es ++ zs) ls' x
  | [],es,ls,hd,h,k=>⟨_,_,by unfold B5;rfl,ls,by simpa using h⟩
  | d :: r,es,ls,hd,h,k=>by
    obtain⟨ls1,e1,c,x,e2,q⟩:=k d r es ls hd h
    unfold B5
    rw[e1,Option.bind_some,e2,Option.bind_some]
    cases c with
    | true=>
      rw[if_pos rfl]at q ⊢
      obtain⟨z,y,e3,g3,p3⟩:=q
      obtain⟨zs,y2,e4,ls',p4⟩:=Iv P p3 k
      rw[e3,Option.bind_some]
      dsimp only
      rw[if_pos g3,e4]
      exact⟨z :: zs,y2,rfl,ls',by simpa using p4⟩
    | false=>
      rw[if_neg Bool.false_ne_true]at q ⊢
      dsimp only
      rw[if_pos q.1]
      exact Iv P q.2 k
theorem Bj{i j:Int}(q:QE (.im (.int (i + j))) hd):WP (Ah (.im (.int i)) (.im (.int j)) hd) QE:=⟨_,_,by simp,q⟩
theorem Gf{i j:Int}(q:QE (.im (.int (i - j))) hd):WP (Ij (.im (.int i)) (.im (.int j)) hd) QE:=⟨_,_,by simp,q⟩
theorem DR{i j:Int}(c:CJ i j)(q:QE (.im (.int (i * j))) hd):WP (BW (.im (.int i)) (.im (.int j)) hd) QE:=⟨_,_,by simp[c],q⟩
theorem Ln{i j:Int}(c:BZ j)(q:QE (.im (.int (i % j))) hd):WP (Dm (.im (.int i)) (.im (.int j)) hd) QE:=⟨_,_,by simp[c],q⟩
theorem K2{i j:Int}(c:GJ j)(q:QE (.im (.int (i / j))) hd):WP (FL (.im (.int i)) (.im (.int j)) hd) QE:=⟨_,_,by simp[c],q⟩
theorem Gg{i j:Int}(q:QE (.im (.bl (decide (i < j)))) hd):WP (gLt (.im (.int i)) (.im (.int j)) hd) QE:=⟨_,_,by simp,q⟩
theorem OY{i j:Int}(q:QE (.im (.bl (decide (i <= j)))) hd):WP (gLe (.im (.int i)) (.im (.int j)) hd) QE:=⟨_,_,by simp,q⟩
theorem IW{i j:Int}(q:QE (.im (.bl (decide (j < i)))) hd):WP (gGt (.im (.int i)) (.im (.int j)) hd) QE:=⟨_,_,by simp,q⟩
theorem OZ{i j:Int}(q:QE (.im (.bl (decide (j <= i)))) hd):WP (gGe (.im (.int i)) (.im (.int j)) hd) QE:=⟨_,_,by simp,q⟩
theorem Fb{i j:Int}(q:QE (.im (.bl (decide (i=j)))) hd):WP (gEq (.im (.int i)) (.im (.int j)) hd) QE:=⟨_,_,by simp,q⟩
theorem Lm{i j:Int}(q:QE (.im (.bl (!decide (i=j)))) hd):WP (gNe (.im (.int i)) (.im (.int j)) hd) QE:=⟨_,_,by simp,q⟩
theorem Ip{i j:Str}(q:QE (.im (.bl (decide (i=j)))) hd):WP (gEq (.im (.str i)) (.im (.str j)) hd) QE:=⟨_,_,by simp,q⟩
theorem Fa{i j:Str}(q:QE (.im (.bl (!decide (i=j)))) hd):WP (gNe (.im (.str i)) (.im (.str j)) hd) QE:=⟨_,_,by simp,q⟩
theorem AX{i:Int}{ds:List D}(e1:BI hd d=some ds)(e2:atI ds i=some e)(q:QE e hd):WP (gIx d (.im (.int i)) hd) QE:=⟨_,_,by rw[UO,e1,Option.bind_some,e2];rfl,q⟩
theorem K1{i j:Int}(q:QE (.im (.int (max i j))) hd):WP (P1 [.im (.int i),.im (.int j)] hd) QE:=⟨_,_,rfl,by have:(if j > i then j else i)=max i j:=(by split <;> omega);rw[this];exact q⟩
theorem HY{i j:Int}(q:QE (.im (.int (min i j))) hd):WP (HP [.im (.int i),.im (.int j)] hd) QE:=⟨_,_,rfl,by have:(if j < i then j else i)=min i j:=(by split <;> omega);rw[this];exact q⟩
theorem EI{tp:Bool}{g:List D->Option D}{ds:List D}{z:D}(e1:(if tp then BI hd d else B6 hd d)=some ds)(e2:g ds=some z)(q:QE z hd):WP (f1 tp g [d] hd) QE:=⟨_,_,by rw[UP,e1,Option.bind_some,e2];rfl,q⟩
theorem Iq{k:Nat}{x:D}{ds:List D}(e1:hd[k]? = some (.lst ds))(c:ER ds.length)(q:QE (.im .non) (hd.set k (.lst (ds ++ [x])))):WP (Bf (.mu k) [x] hd) QE:=⟨_,_,by rw[TV,e1];simp only[c,if_true],q⟩
theorem HX(h:WE mc ls hd λ p x=>WE ma ls x λ q y=>WE mb ls y λ r z=>∃ w i j ds,q=.mu w/\r=.im (.int i)/\z[w]? = some (.lst ds)/\ixN ds.length i=some j/\QS (.nx ls) (z.set w (.lst (ds.set j p)))):WS (Dq ma mb mc) ls hd QS:=by
  obtain⟨p,x,e1,q,y,e2,r,z,e3,w,i,j,ds,rfl,rfl,e5,c,qq⟩:=h
  exact⟨_,_,by simp only[Qw,e1,Option.bind_some,e2,e3,e5,c,Option.map_some],qq⟩
theorem BE{k n:Nat}{m:MS}{ds:List D}{Q:D->Hd->Prop}(hl:ds.length=k)(h:WS m (ds.map some ++ List.replicate (n - k) none) hd λ f x=>match f with
    | .rt d=>Q d x
    | .nx _=>Q (.im .non) x
    | _=>False):WF (mkF k n m) ds hd Q:=by
  obtain⟨f,x,e,q⟩:=h
  unfold WF mkF
  rw[if_pos hl,e]
  cases f with
  | nx l=>exact⟨_,_,rfl,q⟩
  | rt l=>exact⟨_,_,rfl,q⟩
  | bk l=>exact q.elim
  | ct l=>exact q.elim
theorem Am{F:List D->Hd->Option (D × Hd)}(h:WA m ls hd λ ds x=>BO 0 ds=true/\WF F ds [] λ d _=>∃ i,d=.im i/\QE (.im i) x):WE (AC 0 F m) ls hd QE:=by
  obtain⟨ds,x,e,c,d,y,e2,i,rfl,q⟩:=h
  exact⟨_,_,NB e c e2,q⟩
end
structure Tap(T:Nat->MO->MO->Prop)(P:List D->Hd->Option (D × Hd)):Prop where
  cl:∀ {k:Nat} {a b:MO},T k a b->clO 2 a=true/\clO 2 b=true
  le:∀ {j k:Nat} {a b:MO},T k a b->j <= k->T j a b
  pick:∀ {k:Nat} {a b:MO} {many:Int},T (k + 1) a b->0 < many->many < 1073741824->∃ r a' b',0 <= r/\r < many/\P [.mu 1,.im (.int many)] [a,b]=some (.im (.int r),[a',b'])/\T k a' b'
section
variable{T:Nat->MO->MO->Prop}{P:List D->Hd->Option (D × Hd)}{a b:MO}{rest:Hd}{ls:Ls}{m:MA}{QE:D->Hd->Prop}{n c:Nat}
theorem Tap.draw(t:Tap T P)(hT:T (n + 1) a b){many:Int}{hd:Hd}(e:m ls hd=some ([.mu 1,.im (.int many)],a :: b :: rest))(h0:0 < many)(h1:many < 1073741824)
    (k:∀ r a' b',T n a' b'->0 <= r->r < many->QE (.im (.int r)) (a' :: b' :: rest)):WE (AC 2 P m) ls hd QE:=by
  obtain⟨r,a',b',p1,p2,e2,hT'⟩:=t.pick hT h0 h1
  refine⟨_,_,Jv (w:=2) (ds:=[.mu 1,.im (.int many)]) (pre:=[a,b]) (pre':=[a',b']) (rest:=rest) (g:=[]) rfl rfl e (by simp) ?_ ?_ (by simpa using e2),k r a' b' hT' p1 p2⟩
  . simp[t.cl hT]
  . simp[t.cl hT']
end
end L2
namespace L2
open PySem PySem.Spec PyProof.Rows
section
variable{K:PySem.W.Frag}{ρ ρ':List Addr}{H H':Hp}{hd hd':Hd}
noncomputable def G5(w:Nat)(ls:Ls):Ls:=ls.map λ o=>match o with
  | some d=>if clD w d=true then some d else none
  | none=>none
noncomputable def FD(w:Nat):Fl->Option Fl
  | .nx ls=>some (.nx (G5 w ls))
  | .bk ls=>some (.bk (G5 w ls))
  | .ct ls=>some (.ct (G5 w ls))
  | .rt d=>if clD w d=true then some (.rt d)else none
noncomputable def HG(w:Nat)(m:MS):MS:=λ ls hd=>if hd.length <= w then(m ls hd).bind λ p=>if(p.2.take w).all (clO w)=true then(FD w p.1).map λ f=>(f,p.2.take w)else none else none
theorem RL.trim{ls:Ls}{σ:St}(h:RL K ρ H ls σ)(w:Nat):RL K (ρ.take w) H (G5 w ls) σ:=by
  refine⟨by simp[G5,h.len],λ i d e=>?_⟩
  unfold G5 at e
  rw[List.getElem?_map]at e
  cases q:ls[i]? with
  | none=>rw[q]at e;cases e
  | some o=>
    rw[q]at e
    cases o with
    | none=>simp at e
    | some z=>
      simp only[Option.map_some,Option.some.injEq]at e
      split at e
      . next c=>
        cases e
        obtain⟨v,e1,e2⟩:=h.ob i _ q
        exact⟨v,e1,e2.take w c⟩
      . cases e
theorem Ext.trim(x:Ext ρ H ρ' H'){w:Nat}(h:ρ.length <= w):Ext ρ H (ρ'.take w) H':=by
  obtain⟨r,rfl,fr⟩:=x.pre
  refine⟨⟨r.take (w - ρ.length),?_,λ b hb=>fr b (List.mem_of_mem_take hb)⟩,x.keep,x.tab⟩
  rw[List.take_append,List.take_of_length_le h]
theorem Pb{t:TS}{m:MS}(w:Nat)(h:RS K t m):RS K t (HG w m):=by
  intro ρ σ H hd ls E f hd' hR hL hm hQ
  unfold HG at hm
  split at hm
  . next hw=>
    obtain⟨⟨f1,h1⟩,e1,hm⟩:=Option.bind_eq_some_iff.mp hm
    dsimp only at hm
    split at hm
    . next c=>
      obtain⟨f2,e2,e3⟩:=Option.map_eq_some_iff.mp hm
      cases e3
      refine h ρ σ H hd ls E f1 h1 hR hL e1 λ ρ1 H1 x1 R1=>?_
      have q:=hQ (ρ1.take w) H1 (x1.trim (by rw[hR.len];exact hw)) (R1.take w c)
      cases f1 with
      | nx l=>simp only[FD,Option.some.injEq]at e2;subst e2;exact λ σ' L=>q σ' (L.trim w)
      | bk l=>simp only[FD,Option.some.injEq]at e2;subst e2;exact λ σ' L=>q σ' (L.trim w)
      | ct l=>simp only[FD,Option.some.injEq]at e2;subst e2;exact λ σ' L=>q σ' (L.trim w)
      | rt d=>
        simp only[FD]at e2
        split at e2
        . next c2=>cases e2;exact λ v r=>q v (r.take w c2)
        . cases e2
    . cases hm
  . cases hm
theorem P7{w:Nat}{m:MS}{ls:Ls}{Q:Fl->Hd->Prop}(hw:hd.length <= w)(h:WS m ls hd λ f x=>(x.take w).all (clO w)=true/\∃ f',FD w f=some f'/\Q f' (x.take w)):WS (HG w m) ls hd Q:=by
  obtain⟨f,x,e,c,f',e2,q⟩:=h
  exact⟨f',x.take w,by unfold HG;rw[if_pos hw,e,Option.bind_some];dsimp only;rw[if_pos c,e2];rfl,q⟩
noncomputable def Fk(m:MS):MS:=λ ls hd=>HG hd.length m ls hd
theorem NV{t:TS}{m:MS}(h:RS K t m):RS K t (Fk m):=λ ρ σ H hd ls E f hd' hR hL hm hQ=>Pb hd.length h ρ σ H hd ls E f hd' hR hL hm hQ
theorem IC(K:PySem.W.Frag){X:Cx}{st:List Stmt}{t:TS}{m:MS}(h:QSs K X st t m):QSs K X st t (Fk m):=⟨h.p,NV h.r⟩
theorem Il{m:MS}{ls:Ls}{Q:Fl->Hd->Prop}(h:WS m ls hd λ f x=>(x.take hd.length).all (clO hd.length)=true/\∃ f',FD hd.length f=some f'/\Q f' (x.take hd.length)):WS (Fk m) ls hd Q:=P7 (Nat.le_refl _) h
noncomputable def UF:ME:=λ _ hd=>some (.mu hd.length,hd ++ [.dic []])
theorem K5{ls:Ls}{Q:D->Hd->Prop}(q:Q (.mu hd.length) (hd ++ [.dic []])):WE UF ls hd Q:=⟨_,_,rfl,q⟩
end
mutual
theorem Jq{v w:Nat}(h:v <= w):∀ {d:D},clD v d=true->clD w d=true
  | .im i,_=>by simp
  | .mu n,c=>by simp at c ⊢;omega
  | .tm ds,c=>by rw[clD]at c ⊢;exact Fw h c
  | .ro ns,_=>by rw[clD]
theorem Fw{v w:Nat}(h:v <= w):∀ {ds:List D},BO v ds=true->BO w ds=true
  | [],_=>by simp
  | d :: ds,c=>by
    simp only[N3,Bool.and_eq_true]at c ⊢
    exact⟨Jq h c.1,Fw h c.2⟩
end
theorem IK{v w:Nat}(h:v <= w):∀ {ds:List (Key × D)},FR v ds=true->FR w ds=true
  | [],_=>by simp[FR]
  | d :: ds,c=>by
    simp only[FR,Bool.and_eq_true]at c ⊢
    exact⟨Jq h c.1,IK h c.2⟩
theorem OP{v w:Nat}(h:v <= w){o:MO}(c:clO v o=true):clO w o=true:=by
  cases o with
  | lst ds=>exact Fw h c
  | dic ds=>exact IK h c
section
variable{T:Nat->MO->MO->Prop}{P:List D->Hd->Option (D × Hd)}{a b:MO}{rest:Hd}{ls:Ls}{m:MA}{QE:D->Hd->Prop}
theorem Tap.callX(t:Tap T P){n c:Nat}(hT:T (n + c) a b)(ex:Hd){w:Nat}{F:List D->Hd->Option (D × Hd)}{as:List D}{hd:Hd}{R:I->Prop}(e:m ls hd=some (.mu 1 :: as,a :: b :: (ex ++ rest)))(hw:w=ex.length + 2)(ha:BO w as=true)(hx:ex.all (clO w)=true)
    (hF:∀ a b,T (n + c) a b->WF F (.mu 1 :: as) (a :: b :: ex) λ d x=>∃ i a' b' g,d=.im i/\R i/\T n a' b'/\x=a' :: b' :: (ex ++ g))
    (k:∀ i a' b',T n a' b'->R i->QE (.im i) (a' :: b' :: (ex ++ rest))):WE (AC w F m) ls hd QE:=by
  subst hw
  have hcl:∀ o,clO 2 o=true->clO (ex.length + 2) o=true:=λ o h=>OP (by omega) h
  obtain⟨d,x,e2,i,a',b',g,rfl,hR,hT',rfl⟩:=hF a b hT
  refine⟨_,_,Jv (w:=ex.length + 2) (ds:=.mu 1 :: as) (pre:=a :: b :: ex) (pre':=a' :: b' :: ex) (rest:=rest) (g:=g) rfl rfl e (by simp[ha]) ?_ ?_ e2,k i a' b' hT' hR⟩
  . simp[hcl _ (t.cl hT).1,hcl _ (t.cl hT).2];simpa using hx
  . simp[hcl _ (t.cl hT').1,hcl _ (t.cl hT').2];simpa using hx
theorem Tap.call(t:Tap T P){n c:Nat}(hT:T (n + c) a b){F:List D->Hd->Option (D × Hd)}{as:List D}{hd:Hd}{R:I->Prop}(e:m ls hd=some (.mu 1 :: as,a :: b :: rest))(ha:BO 2 as=true)
    (hF:∀ a b,T (n + c) a b->WF F (.mu 1 :: as) [a,b] λ d x=>∃ i a' b' g,d=.im i/\R i/\T n a' b'/\x=a' :: b' :: g)
    (k:∀ i a' b',T n a' b'->R i->QE (.im i) (a' :: b' :: rest)):WE (AC 2 F m) ls hd QE:=
  t.callX hT [] (w:=2) e rfl ha rfl hF k
end
end L2
namespace L2
open PySem PySem.Spec PyProof.Rows
section
variable{ls:Ls}{hd:Hd}{b:MS}{c:MT}{Q:Fl->Hd->Prop}{QE:D->Hd->Prop}
noncomputable def Tk(P:Ls->Hd->Prop)(Q:Fl->Hd->Prop):Fl->Hd->Prop
  | .nx l,h=>P l h
  | .ct l,h=>P l h
  | .bk l,h=>Q (.nx l) h
  | .rt d,h=>Q (.rt d) h
theorem NE(P:Nat->Ls->Hd->Prop){n:Nat}(h:P n ls hd)
    (k:∀ n ls hd,P n ls hd->WT c ls hd λ t x=>if t=true then WS b ls x (Tk (λ l y=>∃ m,m < n/\P m l y) Q)else Q (.nx ls) x):WS (EC c b) ls hd Q:=by
  have go:∀ n ls hd,P n ls hd->∃ j r,BL c b j ls hd=some r/\Q r.1 r.2:=by
    intro n
    induction n using Nat.strongRecOn with
    | ind n ih=>
      intro ls hd h
      obtain⟨t,x,e1,q⟩:=k n ls hd h
      cases t with
      | false=>
        rw[if_neg Bool.false_ne_true]at q
        exact⟨1,(.nx ls,x),by unfold BL;rw[e1];rfl,q⟩
      | true=>
        rw[if_pos rfl]at q
        obtain⟨f,y,e2,q⟩:=q
        cases f with
        | nx l=>
          obtain⟨m,hm,p⟩:=q
          obtain⟨j,r,e3,q3⟩:=ih m hm l y p
          exact⟨j + 1,r,by unfold BL;rw[e1,Option.bind_some,if_pos rfl,e2];exact e3,q3⟩
        | ct l=>
          obtain⟨m,hm,p⟩:=q
          obtain⟨j,r,e3,q3⟩:=ih m hm l y p
          exact⟨j + 1,r,by unfold BL;rw[e1,Option.bind_some,if_pos rfl,e2];exact e3,q3⟩
        | bk l=>exact⟨1,(.nx l,y),by unfold BL;rw[e1,Option.bind_some,if_pos rfl,e2];rfl,q⟩
        | rt d=>exact⟨1,(.rt d,y),by unfold BL;rw[e1,Option.bind_some,if_pos rfl,e2];rfl,q⟩
  obtain⟨j,⟨f,x⟩,e,q⟩:=go n ls hd h
  exact⟨f,x,Mj e,q⟩
end
end L2
namespace Bd
open PySem L2
end Bd
namespace Bd
open PySem L2
structure Tp where
  cells:List Int
  nx:Int
  lf:Int
  tn:Int
noncomputable def IY(t:Tp):List (Key × D):=[(.inr "cells",.mu 0),(.inr "next",.im (.int t.nx)),(.inr "left",.im (.int t.lf)),(.inr "turn",.im (.int t.tn))]
noncomputable def tp(t:Tp):Hd:=[.lst (t.cells.map λ i=>.im (.int i)),.dic (IY t)]
@[simp] theorem VO(t:Tp):(tp t).length=2:=rfl
@[simp] theorem WV(t:Tp)(r:Hd):(tp t ++ r)[0]? = some (.lst (t.cells.map λ i=>.im (.int i))):=rfl
@[simp] theorem WU(t:Tp)(r:Hd):(tp t ++ r)[1]? = some (.dic (IY t)):=rfl
@[simp] theorem tp0(t:Tp):(tp t)[0]? = some (.lst (t.cells.map λ i=>.im (.int i))):=rfl
@[simp] theorem tp1(t:Tp):(tp t)[1]? = some (.dic (IY t)):=rfl
section
variable(t:Tp)(v:Int)
@[simp] theorem VQ:(IY t).length=4:=rfl
end
theorem E9:∀ ns:List Int,I.pys (ns.map I.int)=ns.map PyData.int
  | []=>by simp[I.pys]
  | n :: ns=>by simp[I.pys,I.py,E9 ns]
theorem Du(ns:List Int):BS (ns.map λ i=>D.im (.int i))=some (ns.map I.int):=by
  have:(ns.map λ i=>D.im (.int i))=(ns.map I.int).map D.im:=by rw[List.map_map];rfl
  rw[this];exact NC _
theorem Qy(ns:List Int):PyData.eqv (.list (ns.map PyData.int)) (.list [])=decide (ns=[]):=by
  cases ns <;> simp[PyData.eqv,PyData.eqvAll]
theorem OE(ns:List Int):(PyData.list (ns.map PyData.int)).canLay0=true:=by simp[PyData.canLay0,GN]
theorem Ew(ns:List Int)(hd:Hd)(neg:Bool):Jm neg (.list (ns.map PyData.int)) (.list []) hd=some (.im (.bl (if neg then !decide (ns=[])else decide (ns=[]))),hd):=by
  unfold Jm
  rw[if_pos,Qy]
  refine⟨OE ns,by simp[PyData.canLay0,PyData.canLayAll0],?_⟩
  have:(PyData.list []).depth <= 1:=by simp[PyData.depth,PyData.depthAll]
  omega
end Bd
namespace Bd
open PySem L2
theorem Do{x:Int}(m:Int)(h:0 < m):0 <= x % m/\x % m < m:=⟨Int.emod_nonneg _ (by omega),Int.emod_lt_of_pos _ h⟩
theorem TZ(hd:Hd)(neg:Bool):Jm neg (.list []) (.list []) hd=some (.im (.bl (if neg then false else true)),hd):=by
  have:=Ew [] hd neg
  simpa using this
theorem UR{xs:List Int}(h:xs ≠ [])(n:Int):∃ c,atI (xs.map λ i=>D.im (.int i)) (n % (xs.length:Int))=some (.im (.int c)):=by
  have hl:0 < xs.length:=Ho h
  obtain⟨a,b⟩:=Do (x:=n) (xs.length:Int) (by omega)
  obtain⟨k,hk⟩:=Int.eq_ofNat_of_zero_le a
  have hk':k < xs.length:=by omega
  exact⟨xs[k],Hx hk (by simp[hk'])⟩
theorem po1:LK 10 18:=by unfold LK;decide
end Bd
namespace Bd
open PySem L2
inductive Cost where
  | late (d:Int)|tardy (d w:Int)|miss (d w:Int)|ends (w:Int)|steps (rows:List (Int × Int))
noncomputable def L7(r:Int × Int):I:=.tup [.int r.1,.int r.2]
noncomputable def CK:Cost->I
  | .late d=>.tup [.str "late",.int d]
  | .tardy d w=>.tup [.str "tardy",.int d,.int w]
  | .miss d w=>.tup [.str "miss",.int d,.int w]
  | .ends w=>.tup [.str "ends",.int w]
  | .steps rows=>.tup [.str "steps",.tup (rows.map L7)]
noncomputable def K8(t:Int):List (Int × Int)->Int->Int
  | [],told=>told
  | (b,a) :: r,told=>if t < b then told else K8 t r a
noncomputable def Cost.at:Cost->Int->Int
  | .late d,t=>t - d
  | .tardy d w,t=>if t - d <= 0 then 0 else w * (t - d)
  | .miss d w,t=>if t - d <= 0 then 0 else w
  | .ends w,t=>w * t
  | .steps rows,t=>K8 t rows 0
theorem n1:¬ (("late":Str)="steps"):=by decide +kernel
theorem n2:¬ (("tardy":Str)="steps"):=by decide +kernel
theorem n3:¬ (("miss":Str)="steps"):=by decide +kernel
theorem n5:¬ (("late":Str)="ends"):=by decide +kernel
theorem n6:¬ (("tardy":Str)="ends"):=by decide +kernel
theorem n7:¬ (("miss":Str)="ends"):=by decide +kernel
theorem n8:¬ (("tardy":Str)="late"):=by decide +kernel
theorem n10:¬ (("miss":Str)="tardy"):=by decide +kernel
theorem n11:¬ (("steps":Str)="ends"):=by decide +kernel
end Bd
namespace Bd
open PySem L2
@[simp high] theorem WR(t:Tp)(x:MO)(r:Hd):(tp t ++ (x :: r))[2]? = some x:=rfl
@[simp high] theorem WQ(t:Tp)(x y:MO)(r:Hd):(tp t ++ (x :: y :: r))[3]? = some y:=rfl
@[simp high] theorem WN(t:Tp)(x y z:MO)(r:Hd):(tp t ++ (x :: y :: z :: r))[4]? = some z:=rfl
@[simp high] theorem Vt(t:Tp)(x y:MO)(r:Hd):(tp t ++ (x :: r)).set 2 y=tp t ++ (y :: r):=rfl
@[simp high] theorem Vs(t:Tp)(x y z:MO)(r:Hd):(tp t ++ (x :: y :: r)).set 3 z=tp t ++ (x :: z :: r):=rfl
theorem N2(w:Nat)(ns:List Int):BO w (ns.map λ i=>D.im (.int i))=true:=by induction ns <;> simp_all [BO,clD]
end Bd
namespace Bd
open PySem L2
structure Wk where
  len:Int
  com:Int
  cost:Cost
noncomputable def B9(w:Wk):I:=.tup [.int w.len,.int w.com,CK w.cost]
noncomputable abbrev AU(ws:List Wk):I:=.tup (ws.map B9)
end Bd
namespace L2
end L2
namespace Bd
open PySem L2
noncomputable abbrev EN(ks:List Nat):I:=.tup (ks.map λ k:Nat=>.int k)
end Bd
namespace L2
open PySem PySem.Spec PyProof.Rows
structure OkP(w dp:Nat)(d:PyData):Prop where
  sh:d.showable=true
  lay:d.canLay0=true
  it:d.intsShort 13=true
  dp:d.depth <= dp
  wt:d.weight <= w
structure OkPs(w dp n:Nat)(ds:List PyData):Prop where
  sh:PyData.showableAll ds=true
  lay:PyData.canLayAll0 ds=true
  it:PyData.intsShortAll 13 ds=true
  dp:PyData.depthAll ds <= dp
  wt:PyData.weightAll ds <= n * (w + 1)
noncomputable def sm(i:Int):Prop:=-1000000000 <= i/\i <= 1000000000
theorem OkP.int{i:Int}(h:sm i):OkP 40 0 (.int i):=by
  have h1:i.natAbs < 10 ^ 10:=by obtain⟨a,b⟩:=h;omega
  have h0:i.natAbs < 2 ^ 38:=by obtain⟨a,b⟩:=h;omega
  have lg:i.natAbs.log2 < 38:=by
    by_cases z:i.natAbs=0
    . rw[z];decide
    . exact(Nat.log2_lt z).mpr h0
  refine⟨?_,by simp[PyData.canLay0],?_,by simp[PyData.depth],?_⟩
  . simp only[PyData.showable];exact decide_eq_true (by omega)
  . simp only[PyData.intsShort,PyData.shown]
    refine decide_eq_true ?_
    have h2:=int_text_length_le10 (a:=i) (k:=10) (by decide) h1
    rw[PySem.ofString_length]
    omega
  . simp only[PyData.weight]
    split <;> omega
theorem OkP.mono{w w' dp dp':Nat}{d:PyData}(h:OkP w dp d)(a:w <= w')(b:dp <= dp'):OkP w' dp' d:=⟨h.sh,h.lay,h.it,Nat.le_trans h.dp b,Nat.le_trans h.wt a⟩
theorem OkPs.nil{w dp:Nat}:OkPs w dp 0 []:=⟨by simp[PyData.showableAll],by simp[PyData.canLayAll0],by simp[PyData.intsShortAll],by simp[PyData.depthAll],by simp[PyData.weightAll]⟩
theorem OkPs.cons{w dp n:Nat}{d:PyData}{ds:List PyData}(h:OkP w dp d)(t:OkPs w dp n ds):OkPs w dp (n + 1) (d :: ds):=by
  refine⟨by simp[PyData.showableAll,h.sh,t.sh],by simp[PyData.canLayAll0,h.lay,t.lay],by simp[PyData.intsShortAll,h.it,t.it],?_,?_⟩
  . simp only[PyData.depthAll];exact Nat.max_le.mpr ⟨h.dp,t.dp⟩
  . simp only[PyData.weightAll]
    have:=h.wt;have:=t.wt
    rw[Nat.add_mul];omega
theorem OkPs.tup{w dp n:Nat}{ds:List PyData}(t:OkPs w dp n ds):OkP (n * (w + 1)) (dp + 1) (.tuple ds):=by
  refine⟨?_,?_,?_,?_,?_⟩
  . rw[PyData.showable];exact t.sh
  . rw[PyData.canLay0];exact t.lay
  . rw[PyData.intsShort];exact t.it
  . rw[PyData.depth];have:=t.dp;omega
  . rw[PyData.weight];exact t.wt
theorem OkP.repr{w dp:Nat}{d:PyData}(h:OkP w dp d)(hd:isDisplay d=true)(h1:dp <= 30)(h2:w <= 2 ^ 20):EA d:=by
  have hl:d.layable0=true:=by
    unfold PyData.layable0
    rw[h.lay,decide_eq_true (show d.depth <= 64 by have:=h.dp;omega),decide_eq_true (show d.weight <= 2 ^ 20 by have:=h.wt;omega)]
    rfl
  exact⟨h.sh,PyData.hasDict_of_canLay d h.lay,hd,Nat.le_trans h.dp h1,Nat.le_trans (PyProof.Rows.shown_le13 hl h.it) (by decide)⟩
theorem Ma{w dp:Nat}:∀ {is:List I},(∀ i ∈ is,OkP w dp i.py)->OkPs w dp is.length (I.pys is)
  | [],_=>by simp only[I.pys];exact OkPs.nil
  | i :: is,h=>by simp only[I.pys,List.length_cons];exact(Ma λ j hj=>h j (List.mem_cons_of_mem _ hj)).cons (h i List.mem_cons_self)
theorem Hj{w dp:Nat}{is:List I}(h:∀ i ∈ is,OkP w dp i.py):OkP (is.length * (w + 1)) (dp + 1) (I.py (.tup is)):=by
  rw[I.py];exact(Ma h).tup
theorem Qe{i:Int}(h:sm i):OkP 40 0 (I.py (.int i)):=by rw[I.py];exact .int h
end L2
namespace Bd
open PySem L2
end Bd
namespace Bd
open PySem L2
theorem ON(ns:List Int)(lo hi:Option Int):∃ cs:List Int,EG (ns.map λ n=>.im (.int n)) lo hi=cs.map λ n=>.im (.int n):=⟨(ns.drop _).take _,by unfold EG;rw[List.map_take,List.map_drop]⟩
end Bd
namespace Bd
open PySem L2
noncomputable abbrev Cq(ks:List Nat):List D:=ks.map λ k:Nat=>D.im (.int (k:Int))
theorem Qp{n:Nat}{i:Int}(a:0 <= i)(b:i < n):ixN n i=some i.toNat:=by unfold ixN;rw[if_pos a,if_pos b]
end Bd
namespace Bd
open PySem L2
end Bd
namespace Bd
open PySem L2
theorem LB(n:Nat):Ar 0 n=Cq (List.range n):=by
  refine List.ext_getElem? λ i=>?_
  by_cases h:i < n
  . rw[Gx h];simp[h]
  . rw[List.getElem?_eq_none (by simp;omega),List.getElem?_eq_none (by simp;omega)]
end Bd
namespace Bd
open PySem L2
theorem g1(hd:Hd)(x y:MO):(hd ++ [x,y])[hd.length + 1]? = some y:=by simp
theorem t0(hd:Hd)(x y z:MO):(hd ++ [x,y]).set hd.length z=hd ++ [z,y]:=by simp
theorem t1(hd:Hd)(x y z:MO):(hd ++ [x,y]).set (hd.length + 1) z=hd ++ [x,z]:=by simp
end Bd
namespace L2
open PySem PySem.Spec PyProof.Rows
section
variable{ls:Ls}{hd:Hd}{QE:D->Hd->Prop}{QI:List D × Gd->Hd->Prop}{ma:ME}{n:MG}{ta:MT}{mi:MI}{m:MA}
theorem Tj{g:Gd}{QA:List D->Hd->Prop}(P:List D->List D->Ls->Hd->Prop){ds:List D}{ls:Ls}{hd:Hd}(h:P ds [] ls hd)
    (k:∀ d r es ls hd,P (d :: r) es ls hd->∃ ls1,n d ls hd=some ls1/\WT ta ls1 hd λ c x=>if c=true then WE ma ls1 x λ z y=>GOk y g/\P r (es ++ [z]) ls1 y else GOk x g/\P r es ls1 x)
    (z:∀ es ls hd,P [] es ls hd->QA es hd):WP (B5 n ta ma g ds ls hd) QA:=
  (Iv P h k).mono λ zs x ⟨ls',q⟩=>z zs ls' x (by simpa using q)
theorem Co{α:Type}{g:Gd}{QA:List D->Hd->Prop}(inj:α->D)(f:α->Option D)(L:D->Ls->Prop)(l0:Ls){xs:List α}{hd:Hd}(hg:GOk hd g)
    (k:∀ x ∈ xs,∀ ls,ls=l0 ∨ (∃ d,L d ls)->∃ ls1,n (inj x) ls hd=some ls1/\L (inj x) ls1/\WT ta ls1 hd λ c y=>y=hd/\if c=true then ∃ z,f x=some z/\WE ma ls1 hd λ e y=>y=hd/\e=z else f x=none)
    (q:QA (xs.filterMap f) hd):WP (B5 n ta ma g (xs.map inj) l0 hd) QA:=by
  have go:∀ (xs':List α) (ls:Ls),(∀ x ∈ xs',x ∈ xs)->(ls=l0 ∨ ∃ d,L d ls)->B5 n ta ma g (xs'.map inj) ls hd=some (xs'.filterMap f,hd):=by
    intro xs'
    induction xs' with
    | nil=>intro ls _ _;unfold B5;rfl
    | cons x r ih=>
      intro ls hs hl
      obtain⟨ls1,e1,L1,c,y,e2,rfl,q⟩:=k x (hs x List.mem_cons_self) ls hl
      have ih:=ih ls1 (λ z hz=>hs z (List.mem_cons_of_mem _ hz)) (.inr ⟨_,L1⟩)
      rw[List.map_cons]
      unfold B5
      rw[e1,Option.bind_some,e2,Option.bind_some]
      cases c with
      | true=>
        rw[if_pos rfl]at q
        obtain⟨z,ez,e,y,e3,rfl,rfl⟩:=q
        rw[if_pos rfl,e3,Option.bind_some]
        dsimp only
        rw[if_pos hg,ih,List.filterMap_cons,ez]
        rfl
      | false=>
        rw[if_neg Bool.false_ne_true]at q
        rw[if_neg Bool.false_ne_true]
        dsimp only
        rw[if_pos hg,ih,List.filterMap_cons,q]
  exact⟨_,_,go xs l0 (λ _ h=>h) (.inl rfl),q⟩
end
end L2
namespace L2
open PySem PySem.Spec PyProof.Rows
section
variable{K:PySem.W.Frag}{ρ ρ':List Addr}{H H':Hp}{hd hd':Hd}
noncomputable def Hn(neg:Bool)(ma:ME)(ml:MA):ME:=λ ls hd=>(ma ls hd).bind λ p=>(ml ls p.2).bind λ q=>match p.1 with
  | .im i=>(FN i).bind λ x=>(CC q.1).map λ xs=>(.im (.bl (if neg then !inV x xs else inV x xs)),q.2)
  | _=>none
theorem SD{neg:Bool}{ta tb:TE}{ma:ME}{ml:MA}(ha:RE K ta ma)(hb:RN K tb ml):RE K (tOp (rIn K neg) ta tb) (Hn neg ma ml):=by
  intro ρ σ H hd ls Q d hd' hR hL hm hQ
  obtain⟨⟨d1,h1⟩,e1,hm⟩:=Option.bind_eq_some_iff.mp hm
  obtain⟨⟨d2,h2⟩,e2,hm⟩:=Option.bind_eq_some_iff.mp hm
  dsimp only at hm
  split at hm
  . obtain⟨x,e3,hm⟩:=Option.bind_eq_some_iff.mp hm
    obtain⟨xs,e4,e5⟩:=Option.map_eq_some_iff.mp hm
    cases e5
    refine ha ρ σ H hd ls _ _ h1 hR hL e1 λ ρ1 H1 v1 x1 R1 r1=>?_
    refine hb ρ1 σ H1 h1 ls _ d2 _ R1 (hL.ext hR x1) e2 λ ρ2 H2 a ys x2 R2 na oa ea r2=>?_
    have r1:=r1.ext R1 x2
    simp only[RD]at r1
    obtain⟨rfl,f1⟩:=Ji e3 r1
    obtain⟨rfl,f2⟩:=IJ e4 r2
    exact⟨a,ys,rfl,.inl (SqL.of ea),f1,f2,hQ ρ2 H2 _ (x1.trans R1 x2) R2 (by simp[RD,RI])⟩
  . cases hm
theorem Px(K:PySem.W.Frag){X:Cx}{a b:Expr}{ta tb:TE}{ma:ME}{ml:MA}{pos:Pos}{op:CmpOp}{neg:Bool}(ho:OpR X (compareOp op) (rIn K neg))(ha:QE K X a ta ma)(hb:QN K X b tb ml)(hm:behindInMarks op b=false:=by first|exact HC _|rfl):QT K X (.Compare a [op] [b] pos) (Gm (tOp (rIn K neg) ta tb)) (Aj (Hn neg ma ml)):=⟨Hh ho ha.p hb.p hm,Dv (SD ha.r hb.r)⟩
open Classical in
noncomputable def JZ(ml:MA)(mb:ME):MA:=λ ls hd=>(ml ls hd).bind λ p=>(mb ls p.2).bind λ q=>match q.1 with
  | .im (.int k)=>if(0 <= k/\k <= 1000)/\Bv (p.1.length * k.toNat)then some ((List.replicate k.toNat p.1).flatten,q.2)else none
  | _=>none
theorem RDs.rep{ds:List D}{xs:List V}(r:RDs K ρ H ds xs):∀ n,RDs K ρ H (List.replicate n ds).flatten (List.replicate n xs).flatten
  | 0=>by simp[RDs]
  | n + 1=>by
    simp only[List.replicate_succ,List.flatten_cons]
    exact r.app (r.rep n)
theorem Rv{ta tb:TE}{ml:MA}{mb:ME}(ha:RN K ta ml)(hb:RE K tb mb):RN K (tOp Nh ta tb) (JZ ml mb):=by
  intro ρ σ H hd ls Q d hd' hR hL hm hQ
  obtain⟨⟨d1,h1⟩,e1,hm⟩:=Option.bind_eq_some_iff.mp hm
  obtain⟨⟨d2,h2⟩,e2,hm⟩:=Option.bind_eq_some_iff.mp hm
  dsimp only at hm
  split at hm
  . next k=>
    split at hm
    . next c=>
      cases hm
      refine ha ρ σ H hd ls _ d1 h1 hR hL e1 λ ρ1 H1 a xs x1 R1 na oa ea r1=>?_
      refine hb ρ1 σ H1 h1 ls _ _ _ R1 (hL.ext hR x1) e2 λ ρ2 H2 v2 x2 R2 r2=>?_
      simp only[RD,RI]at r2
      subst r2
      have ea2:=x2.keep a _ ea oa nt
      refine⟨a,k,xs,rfl,rfl,ea2,by omega,by omega,by rw[r1.len];exact c.2,λ p hp=>?_⟩
      obtain⟨R3,x3⟩:=R2.hid (ho:=.lst (List.replicate k.toNat xs).flatten) hp
      have x12:=x1.trans R1 x2
      exact hQ ρ2 _ p _ (x12.trans R2 x3) R3 (x12.none hR hp R2) (R2.out hp) AQ (((r1.ext R1 x2).rep k.toNat).ext R2 x3)
    . cases hm
  . cases hm
theorem SO(K:PySem.W.Frag){X:Cx}{a b:Expr}{ta tb:TE}{ml:MA}{mb:ME}{pos:Pos}(ha:QN K X a ta ml)(hb:QE K X b tb mb):QN K X (.BinOp a .Mult b pos) (tOp Nh ta tb) (JZ ml mb):=⟨Ot Sn ha.p hb.p,Rv ha.r hb.r⟩
end
section
variable{ls:Ls}{hd:Hd}{ma mb:ME}{m ml:MA}{QE:D->Hd->Prop}{QA:List D->Hd->Prop}
theorem RY{neg:Bool}(h:WE ma ls hd λ d x=>WA ml ls x λ ds y=>∃ i v vs,d=.im i/\FN i=some v/\CC ds=some vs/\QE (.im (.bl (if neg then !inV v vs else inV v vs))) y):WE (Hn neg ma ml) ls hd QE:=by
  obtain⟨d,x,e1,ds,y,e2,i,v,vs,rfl,e3,e4,q⟩:=h
  exact⟨_,_,by simp only[Hn,e1,Option.bind_some,e2,e3,e4,Option.map_some],q⟩
end
end L2
namespace L2
open PySem PySem.Spec PyProof.Rows
section
variable{ls:Ls}{hd:Hd}{ma:ME}{n n2:MG}{c c2:MT}{mi mi2:MI}{QE:D->Hd->Prop}
end
noncomputable abbrev blD(bs:List Bool):List D:=bs.map λ b=>D.im (.bl b)
end L2
namespace L2
open PySem PySem.Spec PyProof.Rows
section
variable{X:Cx}{pins:List (Addr × Obj)}{σ:St}{H:Hp}{s:Shared}{A:Around}{E:Value->Shared->Prop}{Q:Value->Shared->Prop}
end
section
variable{K:PySem.W.Frag}{ρ ρ':List Addr}{H H':Hp}{hd hd':Hd}
theorem RDs.ints:∀ {ns:List Int} {xs:List V},RDs K ρ H (ns.map λ x=>D.im (.int x)) xs->xs=ns.map V.int
  | [],xs,h=>by simpa only[RDs,List.map_nil]using h
  | n :: ns,xs,h=>by
    simp only[List.map_cons,RDs,RD,RI]at h
    obtain⟨x,r,rfl,rfl,t⟩:=h
    rw[RDs.ints t];rfl
end
section
variable{ls:Ls}{hd:Hd}{ma mo mi me:ME}{QE:D->Hd->Prop}{QS:Fl->Hd->Prop}
end
end L2
namespace L2
open PySem PySem.Spec PyProof.Rows
section
variable{X:Cx}{a:Expr}{ta:TE}
end
section
variable(K:PySem.W.Frag){X:Cx}{a:Expr}{ta:TE}{ma:ME}{b:Bool}{j:_}{pos pos':Pos}
end
end L2
namespace L2
open PySem PySem.Spec PyProof.Rows
structure EAt(h:Heap)(e it l:Addr)(i:Nat):Prop where
  e:∃ old,IsEnum h e it i old
  r:h.IsListIter it l i
noncomputable def Ite(K:PySem.W.Frag)(a:Addr):It:=
  ⟨λ i H=>∃ xs x,SqL K H a xs/\xs[i]? = some x,
   λ i H x H'=>∃ p v,H p=none/\H'=upd H p (.tup [.int (i:Int),v])/\x=.ref p/\∀ xs,SqL K H a xs->xs[i]? = some v,
   λ i H=>∃ xs,SqL K H a xs/\xs.length <= i⟩
theorem Ly{P:Program}{w:World}{K:PySem.W.Frag}{elts:List Expr}{kk:Nat}{tpos:Pos}{e it l:Addr}(ne:e ≠ it):Turn P w K (.Tuple elts kk tpos) (Ite K l) [e,it] e (λ i h=>EAt h e it l i) where
  mem:=by simp
  obj:=λ i h st c hc=>by
    obtain⟨⟨old,he⟩,hr⟩:=st
    simp only[List.mem_cons,List.not_mem_nil,or_false]at hc
    rcases hc with rfl|rfl
    . exact⟨_,he,λ v z=>by cases(show Data.fields _=Data.cell v from z)⟩
    . obtain⟨o,q,_,d⟩:=hr;exact⟨o,q,λ v z=>by rw[d]at z;cases z⟩
  keep:=λ i h h' st k=>by
    obtain⟨⟨old,he⟩,o,q,r⟩:=st
    exact⟨⟨old,k e (by simp) _ he⟩,o,k it (by simp) _ q,r⟩
  item:=by
    intro X hP hw hK hc i pins s σ H E I hf st hg
    subst hP hw hK
    obtain⟨xs,x,h1,hx⟩:=hg
    obtain⟨its,r,pl,hz⟩:=I.list h1
    obtain⟨u,hu,ru⟩:=r.get hx
    obtain⟨⟨old,he⟩,hr⟩:=st
    refine wpAny_pyNext_enum_item he hr pl.isList (x:=u) (by simpa using hu) ne λ g ho hr' ht hsz kp=>⟨_,rfl,?_⟩
    refine wpAny_letOwnedTupleGo_enum ho λ g' e' sb=>?_
    have hle:e < s.heap.objs.size:=Heap.lt_size he
    have kp2:∀ c o,c ∉ [e,it]->s.heap.get? c=some o->g'.get? c=some o:=λ c o nc q=>by
      simp only[List.mem_cons,List.not_mem_nil,or_false,not_or]at nc
      exact sb.extBut _ _ nc.1 (kp c o nc.1 nc.2 q)
    have hT:s.heap.objs.size ≠ e:=Nat.ne_of_gt hle
    have hpair:g'.get? s.heap.objs.size=some { cls:=.type "tuple",data:=.seq #[.int i s.toks,u] }:=sb.extBut _ _ hT ht
    have fresh:H s.heap.objs.size=none:=I.hok.fresh (Nat.le_refl _)
    have I2:Inv X pins σ (upd H s.heap.objs.size (.tup [.int (i:Int),x])) { s with heap:=g',toks:=s.toks + 1 }:=I.turnsL (tk:=s.toks + 1) (o:=.tup [.int (i:Int),x]) kp2 hf (Nat.le_refl _)
      (show ObjOk X.prog X.w _ g' _ (.tup [.int (i:Int),x])from⟨by show 2 <= sizeLine;decide,[.int i s.toks,u],.cons ⟨_,rfl⟩ (.cons ru .nil),⟨_,hpair,rfl,⟨_,rfl⟩,rfl⟩⟩)
    refine⟨.ref s.heap.objs.size,_,I2,rfl,⟨s.heap.objs.size,x,fresh,rfl,rfl,λ xs' q=>by rw[I.list_inj q h1];exact hx⟩,⟨⟨u,?_⟩,?_⟩,λ c hc=>?_⟩
    . have:=e'
      rw[show((i:Int) + 1)=((i + 1:Nat):Int) by omega]at this
      exact this
    . exact hr'.extBut sb.extBut (Ne.symm ne)
    . have lt:c < s.heap.objs.size:=by
        simp only[List.mem_cons,List.not_mem_nil,or_false]at hc
        rcases hc with rfl|rfl
        . exact hle
        . obtain⟨o,q,_⟩:=hr;exact Heap.lt_size q
      rw[AF (Nat.ne_of_lt lt)]
      exact(hf c hc).1
  done:=by
    intro X hP hw hK hc i pins s σ H E I hf st hg
    subst hP hw hK
    obtain⟨xs,h1,hend⟩:=hg
    obtain⟨its,r,pl,hz⟩:=I.list h1
    have l1':=r.length
    obtain⟨⟨old,he⟩,hr⟩:=st
    refine wpAny_pyNext_enum_end (show X.A.handled=none from I.ok.hd hc) he hr pl.isList (by simp;omega) λ g x=>⟨rfl,?_⟩
    exact I.turns (tk:=s.toks) (λ c o nc q=>by
      simp only[List.mem_cons,List.not_mem_nil,or_false,not_or]at nc
      exact x c o nc.2 q) hf
  self:=λ _ _ _ _ _ st h=>by
    obtain⟨⟨old,he⟩,hr⟩:=st
    exact wpAny_pyIter_enum he h
noncomputable def LY(K:PySem.W.Frag)(ta:TA):TI:=λ σ H R=>ta σ H λ vs H1=>∃ a xs,vs=[.ref a]/\SqL K H1 a xs/\R (Ite K a) H1
theorem Ey:bootBuiltins "enumerate"=some (.type "enumerate"):=by decide +kernel
section
variable{X:Cx}
theorem QK(K:PySem.W.Frag){a:Expr}{ta:TA}{elts:List Expr}{kk:Nat}{tpos p pos:Pos}(hg:Gl X "enumerate")(hm:X.mg "enumerate"=none)(ha:PA X [a] ta)(hK:X.K=K:=by rfl)(hs:starEach [a] X.env=[(false,eval a X.env)]:=by rfl) :
    PI X (.Tuple elts kk tpos) (.Call (.Name "enumerate" p) [a] [] pos) (LY K ta):=by
  subst hK
  intro pins s σ H R I h
  refine Call_ (Eu I hg hm Ey (PyProof.Rows.callWith_type1 (thn (ha pos pins s σ H _ I h) λ us s1 ⟨vs,H1,I1,r1,q1⟩=>?_) hs rfl))
  obtain⟨l,xs,e,c,q⟩:=q1
  subst e
  obtain⟨u,rfl,ru⟩:=r1.one
  cases ru
  obtain⟨its,r,pl,hz⟩:=I1.list c
  refine call_enumerate_list pl.isList λ g he hr hsz kp=>wpAny_pyIter_enum he ?_
  refine⟨_,_,_,_,H1,rfl,I1.kept (t':=s1.toks) kp,Ly (Nat.ne_of_gt (Nat.lt_succ_self _)),⟨⟨_,he⟩,hr⟩,λ c hc=>?_,q⟩
  simp only[List.mem_cons,List.not_mem_nil,or_false]at hc
  have le:s1.heap.objs.size <= c:=by
    rcases hc with rfl|rfl
    . exact Nat.le_add_right _ _
    . exact Nat.le_refl _
  exact I1.fpOk le (I1.hok.fresh le)
end
section
variable{K:PySem.W.Frag}
noncomputable def Dr(ma:MI):MI:=λ ls hd=>(ma ls hd).map λ p=>((p.1.1.zipIdx.map λ q=>B0 [.im (.int (q.2:Int)),q.1],p.1.2),p.2)
theorem Pm{ta:TE}{ma:MI}(ha:RRw K false ta ma):RIt K (LY K (Bx ta Ca)) (Dr ma):=by
  intro ρ σ H hd ls Q d g hd' hR hL hm hQ
  obtain⟨⟨⟨d1,g1⟩,h1⟩,e1,e2⟩:=Option.map_eq_some_iff.mp hm
  cases e2
  refine ha ρ σ H hd ls _ d1 g1 h1 hR hL e1 λ ρ1 H1 a x1 R1 G1 S1=>?_
  obtain⟨xs,c1,r1⟩:=S1 ρ1 H1 _ .refl R1 G1
  refine⟨a,xs,rfl,c1,hQ ρ1 H1 _ x1 R1 G1 ?_⟩
  intro ρ3 H3 hd3 x3 R3 G3 i
  obtain⟨xs,c1,r1⟩:=S1 ρ3 H3 _ x3 R3 G3
  have l1:=r1.len
  refine⟨λ hi=>?_,λ hi=>⟨xs,c1,?_⟩⟩
  . have hi:i < d1.length:=by simpa using hi
    have i1:d1[i]? = some (d1[i]'hi):=List.getElem?_eq_getElem _
    obtain⟨x,x4,x5⟩:=r1.get i1
    refine⟨⟨xs,x,c1,x4⟩,λ z H4 hz=>?_⟩
    obtain⟨p,v,fp,rfl,rfl,hv⟩:=hz
    have ev:=hv xs c1;rw[x4]at ev;cases ev
    obtain⟨R4,x6⟩:=R3.hid (ho:=.tup [.int (i:Int),x]) fp
    refine⟨ρ3,B0 [.im (.int (i:Int)),d1[i]'hi],x6,rfl,R4,?_,Bz (SqT.of AQ) (.cons (by simp[RD,RI]) (.cons (x5.ext R3 x6) .nil))⟩
    simp[i1]
  . have hi:i=d1.length:=by simpa using hi
    omega
theorem Q2(K:PySem.W.Frag){X:Cx}{a:Expr}{ta:TE}{ma:MI}{elts:List Expr}{kk:Nat}{tpos p pos:Pos}(hm:X.mg "enumerate"=none)(ha:QR K false X a ta ma)(hg:Gl X "enumerate":=by rfl)(hK:X.K=K:=by rfl)(hs:starEach [a] X.env=[(false,eval a X.env)]:=by rfl) :
    QI K X (.Tuple elts kk tpos) (.Call (.Name "enumerate" p) [a] [] pos) (LY K (Bx ta Ca)) (Dr ma):=⟨QK K hg hm (An ha.p Br hs) hK hs,Pm ha.r⟩
theorem Hb{ma:MI}{ls:Ls}{hd:Hd}{QI:List D × Gd->Hd->Prop}(h:WI ma ls hd λ p x=>QI (p.1.zipIdx.map λ q=>B0 [.im (.int (q.2:Int)),q.1],p.2) x):WI (Dr ma) ls hd QI:=by
  obtain⟨p,x,e,q⟩:=h
  exact⟨_,_,by simp only[Dr,e,Option.map_some],q⟩
end
noncomputable def KH:V->List V->Hp->VK->Prop:=λ x vs H Q=>∃ (l:Addr) (xs:List V) (i:Int) (k:Nat) (y:V),x=.ref l/\vs=[.int i,y]/\i=(k:Int)/\H l=some (.lst xs)/\k <= xs.length/\xs.length < sizeLine/\Q .non (upd H l (.lst (xs.take k ++ y :: xs.drop k)))
theorem Mc{X:Cx}:MtM X "list.insert" KH:=by
  intro pins s σ H x vs v us Q I rx rv h
  obtain⟨l,xs,i,k,y,rfl,rfl,hi,hH,hk,hz,q⟩:=h
  cases rx
  obtain⟨u,w,rfl,ru,rw'⟩:=Oc rv
  obtain⟨t,rfl⟩:=ru
  obtain⟨z,its,n,r,hl,e⟩:=I.lstM hH
  have h1:its.toArray.size <= sizeLine:=by rw[List.size_toArray,<- hl];exact z
  have hkl:k <= its.length:=by rw[<- hl];exact hk
  have hf:¬ (!Builtin.List.listFitsIndex i)=true:=by
    have h3:=Es
    have h4:=Nat.lt_of_le_of_lt hk hz
    rw[fitsIndex_both (k:=i) (by omega) (by omega)];decide
  have M:=AutoSeq1.list_insert_list_int_val_1 l its.toArray n i t w hf
  have M:=M h1
  refine call_meets F.slot_list_insert ⟨_,e,rfl⟩ F.entry_list_insert (F.args_list_insert_3 _ _ _) M ⟨e,?_⟩
  . refine⟨.non,_,I.lset (its':=its.take k ++ w :: its.drop k) hH e ?_ ((r.take k).append (.cons rw' (r.drop k))) ?_,rfl,q⟩
    . show((its.toArray.extract 0 (if i < 0 then(i + (its.toArray.size:Int)).toNat else min i.toNat its.toArray.size)).push w ++ its.toArray.extract (if i < 0 then(i + (its.toArray.size:Int)).toNat else min i.toNat its.toArray.size))=_
      have e1:(if i < 0 then(i + (its.toArray.size:Int)).toNat else min i.toNat its.toArray.size)=k:=by
        rw[if_neg (by omega),hi,Int.toNat_natCast,List.size_toArray];omega
      rw[e1]
      apply Array.ext'
      simp[List.extract_eq_drop_take]
      try exact List.take_of_length_le (by simp)
    . rw[List.length_append,List.length_take,List.length_cons,List.length_drop]
      have:=Nat.succ_le_of_lt hz
      rw[Nat.min_eq_left hk]
      omega
open Classical in
noncomputable def Ev:D->List D->Hd->Option (D × Hd)
  | .mu n,[.im (.int i),y],hd=>match hd[n]? with
    | some (.lst ds)=>if 0 <= i/\i <= ds.length/\ER ds.length then some (.im .non,hd.set n (.lst (ds.take i.toNat ++ y :: ds.drop i.toNat)))else none
    | _=>none
  | _,_,_=>none
section
variable{K:PySem.W.Frag}{ρ ρ':List Addr}{H H':Hp}{hd hd':Hd}
theorem RDs.takeD:∀ {ds:List D} {xs:List V} (k:Nat),RDs K ρ H ds xs->RDs K ρ H (ds.take k) (xs.take k)
  | [],xs,k,h=>by simp only[RDs]at h;subst h;simp[RDs]
  | d :: ds,xs,0,h=>by simp[RDs]
  | d :: ds,xs,k + 1,h=>by
    simp only[RDs]at h
    obtain⟨x,r,rfl,h1,h2⟩:=h
    simp only[List.take_succ_cons,RDs]
    exact⟨x,_,rfl,h1,RDs.takeD k h2⟩
theorem RDs.dropD:∀ {ds:List D} {xs:List V} (k:Nat),RDs K ρ H ds xs->RDs K ρ H (ds.drop k) (xs.drop k)
  | [],xs,k,h=>by simp only[RDs]at h;subst h;simp[RDs]
  | d :: ds,xs,0,h=>by simpa using h
  | d :: ds,xs,k + 1,h=>by
    simp only[RDs]at h
    obtain⟨x,r,rfl,h1,h2⟩:=h
    simp only[List.drop_succ_cons]
    exact RDs.dropD k h2
theorem M7:RM K KH Ev:=by
  intro ρ H hd d v ds vs Q z hd' hR h1 h2 hf hQ
  unfold Ev at hf
  split at hf
  . next n i y=>
    split at hf
    . next es q=>
      split at hf
      . next c=>
        cases hf
        simp only[RD]at h1
        obtain⟨a,hn,rfl⟩:=h1
        simp only[RDs,RD,RI]at h2
        obtain⟨x,r,rfl,rfl,y',r',rfl,hy,rfl⟩:=h2
        obtain⟨xs,f1,f2⟩:=hR.lst hn q
        have l:=f2.len
        obtain⟨R2,x2⟩:=hR.put hn (o:=.lst (es.take i.toNat ++ y :: es.drop i.toNat)) (ho:=.lst (xs.take i.toNat ++ y' :: xs.drop i.toNat)) ⟨_,rfl,(RDs.takeD _ f2).app (.cons hy (RDs.dropD _ f2))⟩
        exact⟨a,xs,i,i.toNat,y',rfl,rfl,by omega,f1,by omega,by rw[l];exact c.2.2,hQ ρ _ _ x2 R2 (by simp[RD,RI])⟩
      . cases hf
    . cases hf
  . cases hf
end
theorem Lo{hd:Hd}{k:Nat}{i:Int}{y:D}{ds:List D}{QE:D->Hd->Prop}(e1:hd[k]? = some (.lst ds))(c1:0 <= i)(c2:i <= ds.length)(c3:ER ds.length)(q:QE (.im .non) (hd.set k (.lst (ds.take i.toNat ++ y :: ds.drop i.toNat)))):WP (Ev (.mu k) [.im (.int i),y] hd) QE:=by
  refine⟨_,_,?_,q⟩
  simp only[Ev,e1,c1,c2,c3,and_self,if_true]
end L2
namespace HT
open PySem PySem.Spec PyProof.Rows
section
variable{prog:Program}{w:World}{A:Around}{E:Value->Shared->Prop}{s:Shared}
end
end HT
namespace L2
open PySem PySem.Spec PyProof.Rows
section
variable{X:Cx}
end
section
variable{K:PySem.W.Frag}{ρ ρ':List Addr}{H H':Hp}{hd hd':Hd}
end
section
variable{X:Cx}
theorem RJ{prog:Program}{w:World}{A:Around}{E:Value->Shared->Prop}{s:Shared}{t b:Addr}{vs ws:List Value}{Q:Value->Shared->Prop}(ht:IsTup s.heap t vs.toArray)(hb:IsTup s.heap b ws.toArray)(hv:vs=[])
    (h1:Q (.ref b) s):wpAny (model prog w) A (binaryOp .Add (.ref t) (.ref b)) Q E s:=by
  obtain⟨⟨cls,dd,data,sl⟩,ho,hc,n,hd⟩:=id ht
  obtain⟨⟨cls2,dd2,data2,sl2⟩,ho2,hc2,n2,hd2⟩:=id hb
  simp only at hc hd hc2 hd2
  subst hc hd hc2 hd2
  exact concat_meets ⟨_,ho,rfl⟩ ⟨_,ho2,rfl⟩ noFill_tuple_add seq_tuple_add PySem.F.slot_tuple_add PySem.F.entry_tuple_add (PySem.F.args_tuple_add_2 _ _)
      (tuple_addW0 t b vs.toArray ws.toArray n n2 dd dd2 sl sl2 (by simp[hv])) ⟨ho,ho2,h1⟩
noncomputable def Op(K:PySem.W.Frag):R2:=λ x y H Q=>∃ a b ys,x=.ref a/\y=.ref b/\SqT K H a []/\SqT K H b ys/\Q (.ref b) H
theorem KO(K:PySem.W.Frag)(hK:X.K=K:=by rfl):OpR X (binaryOp .Add) (Op K):=by
  subst hK
  intro pins s σ H x y v u Q I rx ry h
  obtain⟨a,b,ys,rfl,rfl,ha,hb,q⟩:=h
  cases rx
  cases ry
  obtain⟨its,r1,p1,_⟩:=I.tuple ha
  obtain⟨its2,r2,p2,_⟩:=I.tuple hb
  have:its=[]:=by cases r1;rfl
  exact RJ p1 p2 this ⟨.ref b,H,I,rfl,q⟩
noncomputable def GH:D->D->Hd->Option (D × Hd):=λ d e hd=>(AY d).bind λ a=>(AY e).bind λ b=>if a=[]then some (B0 b,hd)else none
theorem KG{K:PySem.W.Frag}:RB K (Op K) GH:=by
  intro ρ H hd d e v u Q z hd' hR h1 h2 hf hQ
  unfold GH at hf
  obtain⟨a,e1,hf⟩:=Option.bind_eq_some_iff.mp hf
  obtain⟨b,e2,hf⟩:=Option.bind_eq_some_iff.mp hf
  split at hf
  . next c=>
    cases hf
    subst c
    obtain⟨p,xs,rfl,q1,r1⟩:=h1.tup e1
    obtain⟨p2,ys,rfl,q2,r2⟩:=h2.tup e2
    have:xs=[]:=by simpa [RDs]using r1
    subst this
    exact⟨p,p2,ys,rfl,rfl,q1,q2,hQ ρ H _ .refl hR (Bz q2 r2)⟩
  . cases hf
end
section
variable{X:Cx}
end
end L2
namespace L2
open PySem PySem.Spec PyProof.Rows
section
variable{prog:Program}{w:World}{A:Around}{E:Value->Shared->Prop}{s:Shared}
end
end L2
namespace L2
open PySem PySem.Spec PyProof.Rows
section
variable(K:PySem.W.Frag){X:Cx}
end
section
variable{K:PySem.W.Frag}
end
end L2
namespace L2
noncomputable abbrev Lc:=FQ Ah GH
end L2
namespace L2
open PySem PySem.Spec PyProof.Rows
section
variable{K:PySem.W.Frag}{ρ ρ':List Addr}{H H':Hp}{hd hd':Hd}
noncomputable def Lf:List D->Hd->Option (D × Hd)
  | [.im (.int i)],hd=>some (.im (.int i),hd)
  | [.im (.bl b)],hd=>some (.im (.int (if b then 1 else 0)),hd)
  | _,_=>none
theorem S3:RF K (λ xs H Q=>(∃ i,xs=[.int i]/\Q (.int i) H) ∨ ∃ k,xs=[.bl k]/\Q (.int (if k then 1 else 0)) H) Lf:=by
  intro ρ H hd ds vs Q z hd' hR h1 hf hQ
  unfold Lf at hf
  split at hf
  . cases hf
    simp only[RDs,RD,RI]at h1
    obtain⟨x,r,rfl,rfl,rfl⟩:=h1
    exact .inl ⟨_,rfl,hQ ρ H _ .refl hR (by simp[RD,RI])⟩
  . cases hf
    simp only[RDs,RD,RI]at h1
    obtain⟨x,r,rfl,rfl,rfl⟩:=h1
    exact .inr ⟨_,rfl,hQ ρ H _ .refl hR (by simp[RD,RI])⟩
  . cases hf
end
section
variable{hd:Hd}{QE:D->Hd->Prop}
theorem HZ{b:Bool}(q:QE (.im (.int (if b then 1 else 0))) hd):WP (Lf [.im (.bl b)] hd) QE:=⟨_,_,rfl,q⟩
end
end L2
namespace L2
open PySem PySem.Spec PyProof.Rows PySem.W
section
variable{prog:Program}{w:World}{A:Around}{E:Value->Shared->Prop}{s:Shared}
end
end L2
namespace L2
open PySem PySem.Spec PyProof.Rows PySem.W
section
variable{X:Cx}{pins:List (Addr × Obj)}{σ:St}{H:Hp}{s:Shared}{a:Addr}
end
end L2
namespace L2
open PySem PySem.Spec PyProof.Rows PySem.W
section
variable{X:Cx}{pins:List (Addr × Obj)}{σ:St}{H:Hp}{s:Shared}
end
end L2
namespace L2
open PySem PySem.Spec PyProof.Rows PySem.W
section
variable{X:Cx}{c P:Addr}{scope:Scope}{fr:List Str}{ix:List Nat}{prm:Str}{params:Arguments}{body e:Expr}{p pos lpos kpos:Pos}{te tb:TE}
end
end L2
namespace L2
open PySem PySem.Spec PyProof.Rows PySem.W
section
variable{K:PySem.W.Frag}{ρ:List Addr}{H:Hp}{hd:Hd}
end
end L2
namespace L2
open PySem PySem.Spec PyProof.Rows PySem.W
end L2
namespace HT
open PySem PyProof.Rows
end HT
namespace L2
open PySem PySem.Spec PyProof.Rows
section
variable{X:Cx}
end
section
variable{K:PySem.W.Frag}
end
end L2
namespace HT
open PySem PyProof.Rows
open PySem.AutoSeq1 (wpAny_loadPart')
section
variable{prog:Program}{w:World}{A:Around}{E:Value->Shared->Prop}{s:Shared}
theorem HD{it t:Addr}{i:Nat}{items:Array Value}{x:Value}{Q:Value->Shared->Prop}(hit:s.heap.IsTupleIter it t i)(ht:s.heap.IsTuple t items)(hx:items[i]? = some x)
    (hQ:∀ h',h'.IsTupleIter it t (i + 1)->Heap.SameBut it s.heap h'->Q x { s with heap:=h' }):wpAny (model prog w) A (Builtin.SmallTypes.nextOf (.ref it)) Q E s:=by
  obtain⟨o,ho,hc,hd⟩:=id hit
  obtain⟨ol,hol,_,nl,hdl⟩:=ht
  unfold Builtin.SmallTypes.nextOf
  refine wpAny_bind (wpAny_callSpecial?_slot (name:=Str.ofString "__next__") hit.typeIs F.slot_tuple_iterator_next
    (wpAny_call_entry F.slot_tuple_iterator_next hit.typeIs F.entry_tuple_iterator_next ?_ (F.args_tuple_iterator_next_1 _)))
  show wpAny _ _ (field (.ref it) 0 >>= _) _ _ s
  refine wpAny_bind (wpAny_field ho hd (x:=.ref t) rfl ?_)
  show wpAny _ _ (if(Value.ref t == Value.none)=true then _ else _) _ _ s
  rw[if_neg (show ¬ ((Value.ref t == Value.none)=true)from Bool.false_ne_true)]
  show wpAny _ _ (field (.ref it) 1 >>= _) _ _ s
  refine wpAny_bind (wpAny_field ho hd (x:=.int i 0) rfl ?_)
  show wpAny _ _ (seqItems? (.ref t) >>= _) _ _ s
  refine wpAny_bind (wpAny_seqItems hol hdl ?_)
  simp only[Int.toNat_natCast,hx]
  refine wpAny_bind (wpAny_setField ho hd (by simp) (wpAny_pure ⟨x,rfl,wpAny_pure (hQ _ ?_ (Heap.SameBut.update ..))⟩))
  exact⟨_,Heap.get?_update_self _ ho (Obj.isFreed_of_fields (Obj.data_mapFields hd _)),(Obj.cls_mapFields ..).trans hc,by rw[Obj.data_mapFields hd];simp[rawInt]⟩
theorem Hk{it t:Addr}{i:Nat}{items:Array Value}{Q:Value->Shared->Prop}(hh:A.handled=none)(hit:s.heap.IsTupleIter it t i)(ht:s.heap.IsTuple t items)(hx:items[i]? = none)
    (hE:∀ h' e,Heap.ExtBut it s.heap h'->(∃ o,h'.get? e=some o/\o.cls=.type "StopIteration")->E (.ref e) { s with heap:=h' }):wpAny (model prog w) A (Builtin.SmallTypes.nextOf (.ref it)) Q E s:=by
  obtain⟨o,ho,hc,hd⟩:=id hit
  obtain⟨ol,hol,_,nl,hdl⟩:=ht
  unfold Builtin.SmallTypes.nextOf
  refine wpAny_bind (wpAny_callSpecial?_slot (name:=Str.ofString "__next__") hit.typeIs F.slot_tuple_iterator_next
    (wpAny_call_entry F.slot_tuple_iterator_next hit.typeIs F.entry_tuple_iterator_next ?_ (F.args_tuple_iterator_next_1 _)))
  show wpAny _ _ (field (.ref it) 0 >>= _) _ _ s
  refine wpAny_bind (wpAny_field ho hd (x:=.ref t) rfl ?_)
  show wpAny _ _ (if(Value.ref t == Value.none)=true then _ else _) _ _ s
  rw[if_neg (show ¬ ((Value.ref t == Value.none)=true)from Bool.false_ne_true)]
  show wpAny _ _ (field (.ref it) 1 >>= _) _ _ s
  refine wpAny_bind (wpAny_field ho hd (x:=.int i 0) rfl ?_)
  show wpAny _ _ (seqItems? (.ref t) >>= _) _ _ s
  refine wpAny_bind (wpAny_seqItems hol hdl ?_)
  simp only[Int.toNat_natCast,hx]
  refine wpAny_bind (wpAny_rule (wpAny_bind (wpAny_setField ho hd (by simp) ?_)))
  show wpAny _ _ (newExc (.type "StopIteration") [] >>= _) _ _ _
  refine wpAny_bind ?_
  simp only[newExc,newTuple]
  refine wpAny_bind (wpAny_newObj_type ?_ (by size_fits))
  refine wpAny_bind (m:=firstArgMember _ _) (wpAny_of_eq (a:=Value.none) (by first|rfl|(simp only[firstArgMember];rfl)) ?_)
  refine wpAny_newObj_type ?_ (by size_fits)
  simp only[raiseNew]
  refine wpAny_bind (wpAny_handled ?_)
  first|rw[show A.in1.handled=none from hh]|rw[hh]
  refine wpAny_bind (wpAny_pure (wpAny_throw ?_))
  exact hE _ _ (((Heap.SameBut.update ..).extBut.push _).push _) ⟨_,Heap.get?_push_size _ rfl,rfl⟩
theorem drawsT(hh:A.handled=none)(it t:Addr)(hne:t ≠ it)(items:Array Value) :
    Draws prog w A it [it,t] items.size (λ i v=>items[i]? = some v) (λ i h=>h.IsTupleIter it t i/\h.IsTuple t items) where
  live:=λ _ _ st=>let ⟨o,ho,_⟩:=st.1;⟨o,ho⟩
  frame:=λ _ _ _ st hk=>⟨let ⟨o,ho,r⟩:=st.1;⟨o,hk it (by simp) o ho,r⟩,let ⟨o,ho,r⟩:=st.2;⟨o,hk t (by simp) o ho,r⟩⟩
  item:=λ i s Q E hi st hQ=>by
    refine HD st.1 st.2 (x:=items[i]) (by simp[hi]) λ h' hit' hs'=>?_
    exact hQ _ h' s.toks (by simp[hi]) ⟨hit',st.2.extBut hs'.extBut hne⟩ hs'
  done:=λ s Q E st hE=>Hk hh st.1 st.2 (by simp) hE
end
theorem Mv(l:Addr)(items:Array Value)(n:Nat)(dct:Option Addr)(sl:Array (Option Value)) :
    Meets (Builtin.«enumerate.__new__» ⟨[.type "enumerate",.ref l],[]⟩) (λ _ R s=>s.heap.get? l=some { cls:=.type "tuple",dict:=dct,data:=.seq items n,slots:=sl } /\
      R (.ok (.ret (.ref (s.heap.push { cls:=.type "tuple_iterator",data:=.fields #[.ref l,.int 0 0] }).objs.size)))
        { s with heap:=(s.heap.push { cls:=.type "tuple_iterator",data:=.fields #[.ref l,.int 0 0] }).push { cls:=.type "enumerate",data:=.fields #[.none,.bool false,.ref s.heap.objs.size,rawInt 0,.none,.none] } }):=
  .of_wp λ prog w A R s h=>by
    obtain⟨hp,g,d,tk,os⟩:=s;obtain⟨hl,h⟩:=h
    have hsub:=sub_enumerate
    have hL:Heap.IsTuple (Shared.heap ⟨hp,g,d,tk,os⟩) l items:=⟨_,hl,rfl,n,rfl⟩
    wp_walk using wpAny_loadPart' hl
    refine wpAny_stack_any λ st=>wpAny_pure ?_
    split
    . rename_i c _ _ _ _ _
      cases(c == Value.type "enumerate")
      . wp_walk using wpAny_loadPart' hl,wpAny_pyIter_tuple hL
        exact⟨_,rfl,h⟩
      . wp_walk using wpAny_loadPart' hl,wpAny_pyIter_tuple hL
        exact⟨_,rfl,h⟩
    . wp_walk using wpAny_loadPart' hl,wpAny_pyIter_tuple hL
      exact⟨_,rfl,h⟩
theorem call_enumT{prog:Program}{w:World}{A:Around}{E:Value->Shared->Prop}{s:Shared}{l:Addr}{items:Array Value}{Q:Value->Shared->Prop}(hL:IsTup s.heap l items)
    (h:∀ h',IsEnum h' (s.heap.objs.size + 1) s.heap.objs.size 0 .none->h'.IsTupleIter s.heap.objs.size l 0->h'.objs.size=s.heap.objs.size + 2 ->
      (∀ b o,s.heap.get? b=some o->h'.get? b=some o)->Q (.ref (s.heap.objs.size + 1)) { s with heap:=h' }) :
    wpAny (model prog w) A (call (.type "enumerate") [.ref l]) Q E s:=by
  obtain⟨⟨c,dct,dt,sl⟩,hl,hc,n,hd⟩:=hL
  replace hc:c=.type "tuple":=hc
  replace hd:dt=.seq items n:=hd
  subst hc hd
  refine callType_new F.called_enumerate (by decide) (F.typeCall_enumerate_1 _) (F.newCall_enumerate_1 _) (λ obj=>F.args_object_init_2 obj _) F.entry_enumerate_new
    (Mv l items n dct sl) ⟨hl,?_⟩
  have hz:(s.heap.push { cls:=.type "tuple_iterator",data:=.fields #[.ref l,.int 0 0] }).objs.size=s.heap.objs.size + 1:=Heap.size_push ..
  show _/\_
  rw[hz]
  have he:IsEnum ((s.heap.push { cls:=.type "tuple_iterator",data:=.fields #[.ref l,.int 0 0] }).push
      { cls:=.type "enumerate",data:=.fields #[.none,.bool false,.ref s.heap.objs.size,rawInt 0,.none,.none] }) (s.heap.objs.size + 1) s.heap.objs.size 0 .none:=by
    have:=Heap.get?_push_size (s.heap.push { cls:=.type "tuple_iterator",data:=.fields #[.ref l,.int 0 0] })
      (o:={ cls:=.type "enumerate",data:=.fields #[.none,.bool false,.ref s.heap.objs.size,rawInt 0,.none,.none] }) rfl
    rw[hz]at this;exact this
  refine⟨⟨_,he,rfl⟩,h _ he ⟨_,Heap.get?_push_of_some _ (Heap.get?_push_size _ rfl),rfl,rfl⟩ (by rw[Heap.size_push,hz]) λ b o x=>Heap.get?_push_of_some _ (Heap.get?_push_of_some _ x)⟩
end HT
namespace L2
open PySem PySem.Spec PyProof.Rows
structure ETt(h:Heap)(e it l:Addr)(i:Nat):Prop where
  e:∃ old,IsEnum h e it i old
  r:h.IsTupleIter it l i
noncomputable def ItT(K:PySem.W.Frag)(a:Addr):It:=
  ⟨λ i H=>∃ xs x,SqT K H a xs/\xs[i]? = some x,
   λ i H x H'=>∃ p v,H p=none/\H'=upd H p (.tup [.int (i:Int),v])/\x=.ref p/\∀ xs,SqT K H a xs->xs[i]? = some v,
   λ i H=>∃ xs,SqT K H a xs/\xs.length=i⟩
theorem Kr{P:Program}{w:World}{K:PySem.W.Frag}{elts:List Expr}{kk:Nat}{tpos:Pos}{e it l:Addr}(ne:e ≠ it)(nl:l ≠ it)(nle:e ≠ l):Turn P w K (.Tuple elts kk tpos) (ItT K l) [e,it] e (λ i h=>ETt h e it l i) where
  mem:=by simp
  obj:=λ i h st c hc=>by
    obtain⟨⟨old,he⟩,hr⟩:=st
    simp only[List.mem_cons,List.not_mem_nil,or_false]at hc
    rcases hc with rfl|rfl
    . exact⟨_,he,λ v z=>by cases(show Data.fields _=Data.cell v from z)⟩
    . obtain⟨o,q,_,d⟩:=hr;exact⟨o,q,λ v z=>by rw[d]at z;cases z⟩
  keep:=λ i h h' st k=>by
    obtain⟨⟨old,he⟩,o,q,r⟩:=st
    exact⟨⟨old,k e (by simp) _ he⟩,o,k it (by simp) _ q,r⟩
  item:=by
    intro X hP hw hK hc i pins s σ H E I hf st hg
    subst hP hw hK
    obtain⟨xs,x,h1,hx⟩:=hg
    obtain⟨its,r,pl,hz⟩:=I.tuple h1
    obtain⟨u,hu,ru⟩:=r.get hx
    obtain⟨⟨old,he⟩,hr⟩:=st
    have hlt:i < its.toArray.size:=by
      have:=(List.getElem?_eq_some_iff.mp hu).1
      simpa using this
    have hd:X.A.in1.handled=none:=I.ok.hd hc
    refine wpAny_pyNext_enum_itemD (HT.drawsT hd it l nl its.toArray) he ⟨hr,pl⟩ hlt ne (by simp;exact⟨ne,nle⟩) λ x' g tk hx' ho hr' ht hsz kp=>⟨_,rfl,?_⟩
    have ex:x'=u:=by
      have hx':its.toArray[i]? = some x':=hx'
      rw[List.getElem?_toArray,hu]at hx'
      exact(Option.some.inj hx').symm
    subst ex
    refine wpAny_letOwnedTupleGo_enum ho λ g' e' sb=>?_
    have hle:e < s.heap.objs.size:=Heap.lt_size he
    have kp2:∀ c o,c ∉ [e,it]->s.heap.get? c=some o->g'.get? c=some o:=λ c o nc q=>by
      simp only[List.mem_cons,List.not_mem_nil,or_false,not_or]at nc
      exact sb.extBut _ _ nc.1 (kp c o nc.1 nc.2 q)
    have hT:s.heap.objs.size ≠ e:=Nat.ne_of_gt hle
    have hpair:g'.get? s.heap.objs.size=some { cls:=.type "tuple",data:=.seq #[.int i tk,x'] }:=sb.extBut _ _ hT ht
    have fresh:H s.heap.objs.size=none:=I.hok.fresh (Nat.le_refl _)
    have I2:Inv X pins σ (upd H s.heap.objs.size (.tup [.int (i:Int),x])) { s with heap:=g',toks:=tk + 1 }:=I.turnsL (tk:=tk + 1) (o:=.tup [.int (i:Int),x]) kp2 hf (Nat.le_refl _)
      (show ObjOk X.prog X.w _ g' _ (.tup [.int (i:Int),x])from⟨by show 2 <= sizeLine;decide,[.int i tk,x'],.cons ⟨_,rfl⟩ (.cons ru .nil),⟨_,hpair,rfl,⟨_,rfl⟩,rfl⟩⟩)
    refine⟨.ref s.heap.objs.size,_,I2,rfl,⟨s.heap.objs.size,x,fresh,rfl,rfl,λ xs' q=>by rw[I.tuple_inj q h1];exact hx⟩,⟨⟨x',?_⟩,?_⟩,λ c hc=>?_⟩
    . have:=e'
      rw[show((i:Int) + 1)=((i + 1:Nat):Int) by omega]at this
      exact this
    . exact hr'.1.extBut sb.extBut (Ne.symm ne)
    . have lt:c < s.heap.objs.size:=by
        simp only[List.mem_cons,List.not_mem_nil,or_false]at hc
        rcases hc with rfl|rfl
        . exact hle
        . obtain⟨o,q,_⟩:=hr;exact Heap.lt_size q
      rw[AF (Nat.ne_of_lt lt)]
      exact(hf c hc).1
  done:=by
    intro X hP hw hK hc i pins s σ H E I hf st hg
    subst hP hw hK
    obtain⟨xs,h1,hend⟩:=hg
    obtain⟨its,r,pl,hz⟩:=I.tuple h1
    have l1':=r.length
    obtain⟨⟨old,he⟩,hr⟩:=st
    have hd:X.A.in1.handled=none:=I.ok.hd hc
    have en:i=its.toArray.size:=by simp;omega
    subst en
    refine wpAny_pyNext_enum_endD (HT.drawsT hd it l nl its.toArray) he ⟨hr,pl⟩ λ g x=>⟨rfl,?_⟩
    exact I.turns (tk:=s.toks) (λ c o nc q=>by
      simp only[List.mem_cons,List.not_mem_nil,or_false,not_or]at nc
      exact x c o nc.2 q) hf
  self:=λ _ _ _ _ _ st h=>by
    obtain⟨⟨old,he⟩,hr⟩:=st
    exact wpAny_pyIter_enum he h
noncomputable def Jh(K:PySem.W.Frag)(ta:TA):TI:=λ σ H R=>ta σ H λ vs H1=>∃ a xs,vs=[.ref a]/\SqT K H1 a xs/\R (ItT K a) H1
theorem O3(K:PySem.W.Frag){X:Cx}{a:Expr}{ta:TA}{elts:List Expr}{kk:Nat}{tpos p pos:Pos}(hg:Gl X "enumerate")(hm:X.mg "enumerate"=none)(ha:PA X [a] ta)(hK:X.K=K:=by rfl)(hs:starEach [a] X.env=[(false,eval a X.env)]:=by rfl) :
    PI X (.Tuple elts kk tpos) (.Call (.Name "enumerate" p) [a] [] pos) (Jh K ta):=by
  subst hK
  intro pins s σ H R I h
  refine Call_ (Eu I hg hm Ey (PyProof.Rows.callWith_type1 (thn (ha pos pins s σ H _ I h) λ us s1 ⟨vs,H1,I1,r1,q1⟩=>?_) hs rfl))
  obtain⟨l,xs,e,c,q⟩:=q1
  subst e
  obtain⟨u,rfl,ru⟩:=r1.one
  cases ru
  obtain⟨its,r,pl,hz⟩:=I1.tuple c
  have ll:l < s1.heap.objs.size:=by obtain⟨o,ho,_⟩:=pl;exact Heap.lt_size ho
  refine HT.call_enumT pl λ g he hr hsz kp=>wpAny_pyIter_enum he ?_
  refine⟨_,_,_,_,H1,rfl,I1.kept (t':=s1.toks) kp,Kr (Nat.ne_of_gt (Nat.lt_succ_self _)) (Nat.ne_of_lt ll) (Nat.ne_of_gt (Nat.lt_succ_of_lt ll)),⟨⟨_,he⟩,hr⟩,λ c hc=>?_,q⟩
  simp only[List.mem_cons,List.not_mem_nil,or_false]at hc
  have le:s1.heap.objs.size <= c:=by
    rcases hc with rfl|rfl
    . exact Nat.le_add_right _ _
    . exact Nat.le_refl _
  exact I1.fpOk le (I1.hok.fresh le)
theorem NZ{K:PySem.W.Frag}{ta:TE}{ma:MI}(ha:RRw K true ta ma):RIt K (Jh K (Bx ta Ca)) (Dr ma):=by
  intro ρ σ H hd ls Q d g hd' hR hL hm hQ
  obtain⟨⟨⟨d1,g1⟩,h1⟩,e1,e2⟩:=Option.map_eq_some_iff.mp hm
  cases e2
  refine ha ρ σ H hd ls _ d1 g1 h1 hR hL e1 λ ρ1 H1 a x1 R1 G1 S1=>?_
  obtain⟨xs,c1,r1⟩:=S1 ρ1 H1 _ .refl R1 G1
  refine⟨a,xs,rfl,c1,hQ ρ1 H1 _ x1 R1 G1 ?_⟩
  intro ρ3 H3 hd3 x3 R3 G3 i
  obtain⟨xs,c1,r1⟩:=S1 ρ3 H3 _ x3 R3 G3
  have l1:=r1.len
  refine⟨λ hi=>?_,λ hi=>⟨xs,c1,?_⟩⟩
  . have hi:i < d1.length:=by simpa using hi
    have i1:d1[i]? = some (d1[i]'hi):=List.getElem?_eq_getElem _
    obtain⟨x,x4,x5⟩:=r1.get i1
    refine⟨⟨xs,x,c1,x4⟩,λ z H4 hz=>?_⟩
    obtain⟨p,v,fp,rfl,rfl,hv⟩:=hz
    have ev:=hv xs c1;rw[x4]at ev;cases ev
    obtain⟨R4,x6⟩:=R3.hid (ho:=.tup [.int (i:Int),x]) fp
    refine⟨ρ3,B0 [.im (.int (i:Int)),d1[i]'hi],x6,rfl,R4,?_,Bz (SqT.of AQ) (.cons (by simp[RD,RI]) (.cons (x5.ext R3 x6) .nil))⟩
    simp[i1]
  . have hi:i=d1.length:=by simpa using hi
    omega
theorem JJ(K:PySem.W.Frag){X:Cx}{a:Expr}{ta:TE}{ma:MI}{elts:List Expr}{kk:Nat}{tpos p pos:Pos}(hm:X.mg "enumerate"=none)(ha:QR K true X a ta ma)(hg:Gl X "enumerate":=by rfl)(hK:X.K=K:=by rfl)(hs:starEach [a] X.env=[(false,eval a X.env)]:=by rfl) :
    QI K X (.Tuple elts kk tpos) (.Call (.Name "enumerate" p) [a] [] pos) (Jh K (Bx ta Ca)) (Dr ma):=⟨O3 K hg hm (An ha.p Br hs) hK hs,NZ ha.r⟩
end L2
namespace HS
open PySem PyProof.Rows
open PySem.AutoSeq1 (wpAny_loadPart')
open Sem (wp)
noncomputable abbrev st(t:Tok):List (Str × Value):=[(Str.ofString "start",.int 1 t)]
section
variable{prog:Program}{w:World}{A:Around}{E:Value->Shared->Prop}{s:Shared}
end
end HS
namespace L2
open PySem PySem.Spec PyProof.Rows
section
variable{K:PySem.W.Frag}
end
end L2
namespace HR
open PySem PyProof.Rows
open Sem (wp)
section
variable{prog:Program}{w:World}{A:Around}{E:Value->Shared->Prop}{s:Shared}
end
section
variable{prog:Program}{w:World}{A:Around}{R:Result->Shared->Prop}
end
section
variable{prog:Program}{w:World}{A:Around}{R:Result->Shared->Prop}{s:Shared}
end
section
variable{prog:Program}{w:World}{A:Around}{E:Value->Shared->Prop}{s:Shared}
end
end HR
namespace L2
open PySem PySem.Spec PyProof.Rows
section
variable{K:PySem.W.Frag}
end
end L2
namespace L2
open PySem PySem.Spec PyProof.Rows PySem.W
section
variable{X:Cx}{pins:List (Addr × Obj)}{σ:St}{l f It S:Addr}{src:Hp->List V->Prop}{G:Hp->Prop}{tb:TE}{cap:St}{Q:VK}{E:Value->Shared->Prop}
end
end L2
namespace L2
open PySem PySem.Spec PyProof.Rows PySem.W
section
variable{X:Cx}{c P:Addr}{scope:Scope}{fr:List Str}{ix:List Nat}{prm:Str}{params:Arguments}{body e:Expr}{p pos lpos kpos:Pos}{te tb:TE}
end
end L2
namespace L2
open PySem PySem.Spec PyProof.Rows PySem.W
section
variable{K:PySem.W.Frag}{hd:Hd}
end
end L2
namespace L2
open PySem PySem.Spec PyProof.Rows PySem.W
section
variable{X:Cx}{pins:List (Addr × Obj)}{σ:St}{l f It S:Addr}{src:Hp->List V->Prop}{G:Hp->Prop}{tb:TE}{cap:St}{Q:VK}{E:Value->Shared->Prop}
end
section
variable{X:Cx}{c P:Addr}{scope:Scope}{fr:List Str}{ix:List Nat}{prm:Str}{params:Arguments}{body e:Expr}{p pos lpos kpos:Pos}{te tb:TE}
end
section
variable{K:PySem.W.Frag}{hd:Hd}
end
end L2
namespace L2
open PySem PySem.Spec PyProof.Rows PySem.W
section
variable{K:PySem.W.Frag}{hd:Hd}
end
section
variable{X:Cx}{pins:List (Addr × Obj)}{σ:St}{l f It S:Addr}{src:Hp->List V->Prop}{G:Hp->Prop}{tb:TE}{cap:St}{Q:VK}{E:Value->Shared->Prop}
end
section
variable{X:Cx}{c P:Addr}{scope:Scope}{fr:List Str}{ix:List Nat}{prm:Str}{params:Arguments}{body e:Expr}{p pos lpos kpos:Pos}{te tb:TE}
end
section
variable{K:PySem.W.Frag}{hd:Hd}
end
end L2
namespace L2
open PySem PySem.Spec PyProof.Rows PySem.W
end L2
namespace L2
open PySem PySem.Spec PyProof.Rows
section
variable{X:Cx}{pos p2:Pos}
end
end L2
namespace L2
open PySem PySem.Spec PyProof.Rows
section
variable{K:PySem.W.Frag}
variable{X:Cx}{pos:Pos}
end
end L2
namespace L2
open PySem PySem.Spec PyProof.Rows
section
variable{X:Cx}{e stp:Expr}{te ts:TE}{pos p2:Pos}
end
end L2
namespace L2
open PySem PySem.Spec PyProof.Rows
section
variable{K:PySem.W.Frag}{ρ:List Addr}{H:Hp}
variable{X:Cx}{e stp:Expr}{te ts:TE}{m:MA}{ms:ME}{pos p2:Pos}
end
end L2
namespace L2
open PySem PySem.Spec PyProof.Rows
section
variable{K:PySem.W.Frag}
end
end L2
namespace HT
open PySem PySem.Spec PyProof.Rows
section
variable{prog:Program}{w:World}{A:Around}{E:Value->Shared->Prop}{s:Shared}
end
end HT
namespace L2
open PySem PySem.Spec PyProof.Rows
section
variable{X:Cx}{e stp:Expr}{te ts:TE}{pos p2:Pos}
end
section
variable{K:PySem.W.Frag}{X:Cx}{e stp:Expr}{te ts:TE}{m ms:ME}{pos p2:Pos}
end
end L2
namespace L2
open PySem PySem.Spec PyProof.Rows
section
variable{K:PySem.W.Frag}
end
end L2
namespace L2
open PySem PySem.Spec PyProof.Rows
end L2
namespace L2
open PySem PySem.Spec PyProof.Rows
noncomputable def dkL(ns:List Int):List Int:=ns.foldl step_dedup []
theorem LC:∀ ns:List Int,(List.range ns.length).map (λ i=>ns.getD i 0)=ns:=λ ns=>by
  apply List.ext_getElem
  . simp
  . intro i h1 h2
    simp at h1
    simp[h1]
theorem OL(ns:List Int):firstMet (λ i=>ns.getD i 0) ns.length=dkL ns:=by
  unfold firstMet dkL
  rw[LC]
noncomputable def Oo:List V->Hp->VK->Prop:=λ xs H Q=>∃ (a:Addr) (ns:List Int),xs=[.ref a]/\H a=some (.lst (ns.map V.int))/\ns.length <= 1000/\∀ p,H p=none->Q (.ref p) (upd H p (.set (λ k=>(dkL ns).any (· == k)) (dkL ns).length))
theorem OT:bootBuiltins "set"=some (.type "set"):=by decide +kernel
theorem N6{X:Cx}(hc:X.calm=true):CallR X (.type "set") Oo:=by
  intro pins s σ H xs us Q I r h
  obtain⟨a,ns,rfl,ha,hl,q⟩:=h
  obtain⟨u,rfl,ru⟩:=CG r
  cases ru
  obtain⟨_,its,n,r1,e⟩:=(show ObjOk X.prog X.w H s.heap a (.lst (ns.map V.int))from I.hok a _ ha)
  have i1:IntsAre its.toArray.toList ns:=LV r1
  have ln:its.length=ns.length:=by have:=r1.length;simpa using this.symm
  refine PySem.call_set_list (I.ok.hd hc) ⟨_,e,rfl,n,rfl⟩ i1 (by show its.toArray.size + 1 < scanBound;rw[List.size_toArray,ln];exact Nat.lt_of_le_of_lt (by omega:ns.length + 1 <= 1001) (by decide)) λ h' tk hS k=>?_
  have z:its.toArray.size=ns.length:=by rw[List.size_toArray,ln]
  rw[z,OL]at hS
  have ke:∀ b o,s.heap.get? b=some o->h'.get? b=some o:=λ b o e=>k b o (Heap.lt_size e) e
  exact⟨.ref s.heap.objs.size,_,I.laid (a:=s.heap.objs.size) (o:=.set (λ k=>(dkL ns).any (· == k)) (dkL ns).length) (t':=tk) ke (Nat.le_refl _) hS,rfl,q _ (I.hok.fresh (Nat.le_refl _))⟩
noncomputable def K7(t:TE):TE:=Od (tCB Oo (Bx t Ca))
noncomputable def Dy(m:MA):ME:=λ ls hd=>(m ls hd).bind λ p=>match BN p.1 with
  | some ns=>if ns.length <= 1000 then some (.im (.int (dkL ns).length),p.2)else none
  | none=>none
theorem MB{K:PySem.W.Frag}{t:TE}{m:MA}(h:RN K t m):RE K (K7 t) (Dy m):=by
  intro ρ σ H hd ls Q d hd' hR hL hm hQ
  obtain⟨⟨ds,h1⟩,e1,hm⟩:=Option.bind_eq_some_iff.mp hm
  dsimp only at hm
  split at hm
  . next ns en=>
    split at hm
    . next hl=>
      cases hm
      refine h ρ σ H hd ls _ ds hd' hR hL e1 λ ρ1 H1 a xs x1 R1 na oa ea r=>?_
      have ex:xs=ns.map V.int:=by
        rw[Ga en]at r
        exact RDs.ints r
      subst ex
      refine⟨a,ns,rfl,ea,hl,λ p np=>?_⟩
      obtain⟨R2,x2⟩:=R1.hid np (ho:=.set (λ k=>(dkL ns).any (· == k)) (dkL ns).length)
      exact⟨p,_,_,rfl,AQ,hQ ρ1 _ _ (x1.trans R1 x2) R2 (by simp[RD,RI])⟩
    . cases hm
  . cases hm
theorem ML(K:PySem.W.Frag){X:Cx}{e:Expr}{te:TE}{m:MA}{p p1 pos pos1:Pos}(hm:X.mg "len"=none)(hs:X.mg "set"=none)(h:QN K X e te m)(hc:X.calm=true:=by rfl)(hg:Gl X "len":=by rfl)(hg2:Gl X "set":=by rfl)
    (he:starEach [e] X.env=(false,eval e X.env) :: starEach [] X.env:=by rfl) (he2:starEach [.Call (.Name "set" p1) [e] [] pos1] X.env=[(false,eval (.Call (.Name "set" p1) [e] [] pos1) X.env)]:=by rfl) :
    QE K X (.Call (.Name "len" p) [.Call (.Name "set" p1) [e] [] pos1] [] pos) (K7 te) (Dy m):=
  ⟨QU hm (Fh (N6 hc) hg2 hs OT (An h.p Br he) (by decide) (by decide) he (by rfl)) hg he2,MB h.r⟩
theorem Lu{m:MA}{ls:Ls}{hd:Hd}{QE:D->Hd->Prop}(h:WA m ls hd λ ds x=>∃ ns:List Int,ds=ns.map (λ i=>D.im (.int i))/\ns.length <= 1000/\QE (.im (.int (dkL ns).length)) x):WE (Dy m) ls hd QE:=by
  obtain⟨ds,x,e,ns,rfl,hl,q⟩:=h
  refine⟨_,x,?_,q⟩
  unfold Dy
  rw[e]
  dsimp only[Option.bind_some]
  rw[IH]
  dsimp only
  rw[if_pos hl]
theorem Mx{x:Int}:∀ (ns:List Int),(∀ n ∈ ns,n=x)->ns.foldl step_dedup [x]=[x]
  | [],_=>rfl
  | n :: ns,h=>by
    rw[List.foldl_cons,h n (by simp)]
    have:step_dedup [x] x=[x]:=by unfold step_dedup;rw[if_pos (by simp)]
    rw[this];exact Mx ns λ m hm=>h m (by simp[hm])
theorem KY:∀ (ns l:List Int),l.length <= (ns.foldl step_dedup l).length
  | [],l=>Nat.le_refl _
  | n :: ns,l=>by
    rw[List.foldl_cons]
    refine Nat.le_trans ?_ (KY ns _)
    unfold step_dedup;split <;> simp
theorem Mw{x:Int}:∀ (ns:List Int),(∃ n ∈ ns,n ≠ x)->2 <= (ns.foldl step_dedup [x]).length
  | [],h=>by obtain⟨n,hn,_⟩:=h;cases hn
  | n :: ns,h=>by
    rw[List.foldl_cons]
    by_cases e:n=x
    . subst e
      have:step_dedup [n] n=[n]:=by unfold step_dedup;rw[if_pos (by simp)]
      rw[this]
      refine Mw ns ?_
      obtain⟨m,hm,ne⟩:=h
      rcases List.mem_cons.mp hm with rfl|hm
      . exact absurd rfl ne
      . exact⟨m,hm,ne⟩
    . have:step_dedup [x] n=[x,n]:=by unfold step_dedup;rw[if_neg (by simpa using λ z:x=n=>e z.symm)];rfl
      rw[this]
      exact KY ns [x,n]
theorem UQ(x:Int)(ns:List Int):1 < ((dkL (x :: ns)).length:Int) ↔ ¬ ∀ n ∈ ns,n=x:=by
  have e:dkL (x :: ns)=ns.foldl step_dedup [x]:=by
    unfold dkL;rw[List.foldl_cons]
    have:step_dedup [] x=[x]:=by unfold step_dedup;rw[if_neg (by simp)];rfl
    rw[this]
  rw[e]
  constructor
  . intro h q
    rw[Mx ns q]at h
    simp at h
  . intro h
    have:2 <= (ns.foldl step_dedup [x]).length:=Mw ns (by
      apply Classical.byContradiction
      intro z
      exact h λ n hn=>Classical.byContradiction λ ne=>z ⟨n,hn,ne⟩)
    omega
end L2
namespace L2
open PySem PySem.Spec PyProof.Rows
section
variable{prog:Program}{w:World}{A:Around}{E:Value->Shared->Prop}{R:Result->Shared->Prop}{h:Heap}{g:Array GenState}{d:Drawn}{t:Nat}{os:OsState}
variable{nm q:Str}{C N:Addr}{bs bm:List Value}{hdct:Bool}{sn:List Str}{sub:List Value}{ab:Bool}{col:Option Bool}{dd:Option Addr}{k0 k1 k2 k3 k5:Option Value}
noncomputable abbrev FA(C t:Addr):Obj:={ cls:=.ref C,data:=.fields #[.ref t,.none,.none,.none,.bool false,.none] }
theorem Qs{rest:List Value}(hC:h.get? C=some (excClassObj nm q C N bs bm hdct sn sub ab col dd k0 k1 k2 k3 k5 "ValueError.__new__"))(b1:(Value.ref C :: bm).contains (.type "ValueError")=true)
    (b2:(Value.ref C :: bm).contains (.type "AttributeError")=false) (b3:(Value.ref C :: bm).contains (.type "NameError")=false) (hrest:rest.length <= sizeLine)
    (hq:R (.ok (.ret (.ref (h.objs.size + 1)))) ⟨(h.push { cls:=.type "tuple",data:=.seq rest.toArray }).push (FA C h.objs.size),g,d,t,os⟩) :
    codeAny (model prog w) A (.builtin "ValueError.__new__" ⟨.ref C :: rest,[]⟩) R ⟨h,g,d,t,os⟩:=by
  have F0:=F.excBase_ValueError
  have en:=F0.ends
  refine codeAny_builtinAt F0.entry (PySem.wpAt_bind ?_)
  show PySem.wpAt _ _ _ (stack >>= _) _ _ _
  refine PySem.wpAt_bind (PySem.wpAt_stack λ p0 below0=>PySem.wpAt_of_wpAny ?_)
  wp_walk;refine PySem.wpAt_of_wpAny ?_;rw[F0.owner]
  repeat (first|with_reducible refine wpAny_madeHere_exc F0.canon hC ?_|with_reducible refine wpAny_loadPart_at hC ?_|(with_reducible refine wpAny_isSubtype_exc hC ?_;first|rw[b1]|rw[b2]|rw[b3])|wp_step)
  show R _ _;rw[Heap.size_push];exact hq
theorem N4{M:Model}{rest:List Value}{Q:Unit->Shared->Prop}(hC:h.get? C=some (excClassObj nm q C N bs bm hdct sn sub ab col dd k0 k1 k2 k3 k5 "ValueError.__new__"))(b1:bm.contains (.type "ValueError")=true)
    (hq:Q () ⟨h,g,d,t,os⟩):wpAny M A (checkBuiltinCall "ValueError.__new__" ⟨.ref C :: rest,[]⟩) Q E ⟨h,g,d,t,os⟩:=
  wpAny_check_new_subU F.excBase_ValueError b1 .base hC hq
theorem OA{rest:List Value}:Heap.MadeExcOf h ((h.push { cls:=.type "tuple",data:=.seq rest.toArray }).push (FA C h.objs.size)) (h.objs.size + 1) (.ref C) rest:=by
  refine⟨λ b o e=>Heap.get?_push_of_some _ (Heap.get?_push_of_some _ e),Heap.get?_none_of_le (Nat.le_succ _),h.objs.size,?_,Heap.get?_none_of_le (Nat.le_refl _),Heap.get?_push_of_some _ (Heap.get?_push_at rfl rfl)⟩
  exact Heap.get?_push_at (by rw[Heap.size_push]) rfl
theorem OR{K:PySem.W.Frag}{fI:Addr}{rest:List Value}{Q:Value->Shared->Prop}(X:K.In h)(hC:h.get? C=some (excClassObj nm q C N bs bm hdct sn sub ab col dd k0 k1 k2 k3 k5 "ValueError.__new__"))(b1:bm.contains (.type "ValueError")=true)
    (b2:bm.contains (.type "AttributeError")=false) (b3:bm.contains (.type "NameError")=false) (hi:PySem.W.findIn K (.ref C) "__init__"=some (some (.ref fI))) (hf:PySem.W.typeIn K (.ref fI)=some (.type "function")) (hrest:rest.length <= sizeLine)
    (hq:wpAny (model prog w) (A.under (.builtin "type.__call__" ⟨.ref C :: rest,[]⟩)) (call (.ref fI) (.ref (h.objs.size + 1) :: rest)) (λ r s'=>r=.none/\Q (.ref (h.objs.size + 1)) s') E ⟨(h.push { cls:=.type "tuple",data:=.seq rest.toArray }).push (FA C h.objs.size),g,d,t,os⟩) :
    wpAny (model prog w) A (call (.ref C) rest) Q E ⟨h,g,d,t,os⟩:=by
  have f1:=tc_lookup
  have f2:=tc_bind (.ref C)
  have hT:(⟨h,g,d,t,os⟩:Shared).TypeIs (.ref C) "type":=⟨_,hC,rfl⟩
  have c1:(Value.ref C :: bm).contains (.type "ValueError")=true:=by rw[List.contains_cons,b1,Bool.or_true]
  have c2:(Value.ref C :: bm).contains (.type "AttributeError")=false:=by rw[List.contains_cons,b2];rfl
  have c3:(Value.ref C :: bm).contains (.type "NameError")=false:=by rw[List.contains_cons,b3];rfl
  have m0:Heap.MadeExcOf h ((h.push { cls:=.type "tuple",data:=.seq rest.toArray }).push (FA C h.objs.size)) (h.objs.size + 1) (.ref C) rest:=OA
  have X1:=X.keeps m0.keeps
  have hC1:=m0.keeps _ _ hC
  have e1:((h.push { cls:=.type "tuple",data:=.seq rest.toArray }).push (FA C h.objs.size)).get? (h.objs.size + 1)=some { cls:=.ref C,data:=.fields #[.ref h.objs.size,.none,.none,.none,.bool false,.none] }:=Heap.get?_push_at (by rw[Heap.size_push]) rfl
  have cc:(Value.ref C :: bm).contains (.ref C)=true:=by simp
  refine wpAny_call (codeAny_of_tree ?_)
  show wpAny _ _ (callAny (.ref C) _) _ _ _
  repeat (any_goals (first|assumption|with_reducible refine wpAny_loadPart_at hC ?_|wp_step))
  refine⟨rfl,codeAny_call_builtin_at (Code.quiet_builtin _ (by decide +kernel)) entry_typeCall (wpAny_check_type_call_sub hC ?_)⟩
  repeat (first|with_reducible refine wpAny_loadPart_at hC ?_|with_reducible refine wpAny_madeBy_exc hC ?_|wp_step)
  refine codeAny_call_builtin_code (Code.quiet_builtin _ F.excBase_ValueError.quiet) (N4 hC b1 (Qs hC c1 c2 c3 hrest ?_))
  show wpAny _ _ _ _ _ _
  unfold isInstance
  repeat (first|with_reducible refine wpAny_loadPart_at e1 ?_|(refine wpAny_isSubtype_exc hC1 ?_;rw[cc])|wp_step)
  show wpAny _ _ (typeLookup (.ref C) _) _ _ _
  refine PySem.W.Looks.at (PySem.W.looks_findIn X1 hi) (wpAny_holding (wpAny_bind (PySem.W.Looks.at (PySem.W.bind_fn X1 _ hf) (wpAny_bind (wpAny_mono hq (λ r s' hr=>?_) λ _ _ x=>x)))))
  obtain⟨rfl,z⟩:=hr
  wp_walk
  exact z
end
end L2
namespace L2
open PySem PySem.Spec PyProof.Rows
open Builtin Builtin.ObjectAttr
inductive OverV:List Value->Prop
  | base:OverV [.type "ValueError",.type "Exception",.type "BaseException",.type "object"]
  | own {c:Addr} {l:List Value}:OverV l->OverV (.ref c :: l)
theorem OverV.sa(self:Value){l:List Value}(h:OverV l):refuseLoop self "__setattr__" l=pure ():=by
  induction h with
  | base=>exact PySem.F.store_ValueError.passes self
  | own _ ih=>rw[refuseLoop_ref];exact ih
theorem OverV.has{l:List Value}(h:OverV l){x:String}(e:[Value.type "ValueError",.type "Exception",.type "BaseException",.type "object"].contains (.type x)=true):l.contains (.type x)=true:=by
  induction h with
  | base=>exact e
  | own _ ih=>rw[List.contains_cons,ih,Bool.or_true]
theorem OverV.not{l:List Value}(h:OverV l){x:String}(e:[Value.type "ValueError",.type "Exception",.type "BaseException",.type "object"].contains (.type x)=false):l.contains (.type x)=false:=by
  induction h with
  | base=>exact e
  | own _ ih=>rw[List.contains_cons,ih];rfl
structure XC(K:PySem.W.Frag)(C fI:Addr):Prop where
  at_:∃ nm q N bs bm sn sub ab col dd k0 k1 k2 k3 k5,K.lookup C=some (excClassObj nm q C N bs bm true sn sub ab col dd k0 k1 k2 k3 k5 "ValueError.__new__")/\OverV bm
  init:PySem.W.findIn K (.ref C) "__init__"=some (some (.ref fI))
  fn:PySem.W.isFn K (.ref fI)=true
  kp:PySem.W.keepIn K (.ref C)=true
  sa:PySem.W.findIn K (.ref C) "__setattr__"=some (some (.builtin "object.__setattr__"))
  ga:PySem.W.findIn K (.ref C) "__getattribute__"=some (some (.builtin "BaseException.__getattribute__"))
  gx:PySem.W.findIn K (.ref C) "__getattr__"=some none
section
variable{prog:Program}{w:World}{A:Around}{E:Value->Shared->Prop}{s:Shared}{K:PySem.W.Frag}{C fI x:Addr}{name:Str}{v:Value}
theorem XC.cls(c:XC K C fI):∃ cd,PySem.W.clsIn K C=some cd/\OverV cd.mro/\cd.hasDict=true:=by
  obtain⟨nm,q,N,bs,bm,sn,sub,ab,col,dd,k0,k1,k2,k3,k5,e,o⟩:=c.at_
  exact⟨_,by unfold PySem.W.clsIn;rw[e],.own o,rfl⟩
theorem PU{sl:Array (Option Value)}{vs:Array Value}{Q:Unit->Shared->Prop}(X:K.In s.heap)(c:XC K C fI)(hx:s.heap.get? x=some ⟨.ref C,none,.fields vs,sl⟩)(na:PySem.W.findIn K (.ref C) name=some none)
    (h:∀ h',h'.get? x=some ⟨.ref C,some s.heap.objs.size,.fields vs,sl⟩->h'.Ns1 s.heap.objs.size (λ y=>if y=name then some v else none)->(∀ b o,b ≠ x->s.heap.get? b=some o->h'.get? b=some o)->Q () { s with heap:=h',toks:=s.toks + 2 }) :
    wpAny (model prog w) A (setAttr (.ref x) name v) Q E s:=by
  have SF:=PySem.F.store_object
  have I:PySem.W.InstAt s.heap x ⟨.ref C,none,.fields vs,sl⟩ C none:=⟨hx,rfl,rfl,True.intro⟩
  obtain⟨cd,hc,ov,hd⟩:=c.cls
  have ne:cd.mro.isEmpty=false:=by cases q:cd.mro with|nil=>rw[q]at ov;cases ov|cons _ _=>rfl
  have sub:PySem.W.Looks (model prog w) s.heap (isInstance (.ref x) (.type "object")) true:=
    I.type.andThen (PySem.W.looks_mroIn X (by unfold PySem.W.mroIn;rw[hc,Option.bind_some,if_neg (by rw[ne];decide),ov.has (by decide +kernel)]))
  have hm:PySem.W.Looks (model prog w) s.heap (mroOf (.ref C)) cd.mro:=(PySem.W.looks_clsIn X hc).andThen .now
  refine PySem.W.set_plain X I c.sa (codeAny_call_builtin SF.slot.plain SF.entry (@PySem.W.check_slot (model prog w) _ _ _ "object.__setattr__" "object" "__setattr__" (.ref x) [.str name s.toks,v] [] _ SF.kind SF.split sub (SF.args (.ref x) (.str name s.toks) v) ?_))
  rw[PySem.W.osa_eq,refuse_eq]
  refine wpAny_bind (wpAny_bind (I.type.here (s:={ s with toks:=s.toks + 1 }) (wpAny_bind (hm.here (s:={ s with toks:=s.toks + 1 }) ?_))))
  rw[ov.sa]
  refine wpAny_pure (wpAny_bind (I.type.here (s:={ s with toks:=s.toks + 1 }) (wpAny_bind ((PySem.W.looks_findIn X na).here (s:={ s with toks:=s.toks + 1 }) (wpAny_bind (wpAny_pure ?_))))))
  have hxs:x ≠ s.heap.objs.size:=Nat.ne_of_lt (Heap.lt_size hx)
  have hx1:(s.heap.push { cls:=.type "dict",data:=.dict #[] }).get? x=some ⟨.ref C,none,.fields vs,sl⟩:=Heap.get?_push_of_some _ hx
  refine wpAny_bind (wpAny_pure (wpAny_bind (wpAny_bind (wpAny_loadPart hx (wpAny_bind (PySem.W.Looks.here (s:={ s with toks:=s.toks + 1 }) (PySem.W.looks_clsIn X hc) ?_))))))
  rw[hd]
  show wpAny _ _ (do let d <- alloc { cls:=.type "dict",data:=.dict #[] };update x λ o=>{ cls:=o.cls,dict:=some d,data:=o.data,slots:=o.slots };dictMade (.ref C) x d) _ _ _
  refine wpAny_bind (wpAny_alloc' (wpAny_bind (wpAny_update' hx1 ?_)))
  generalize hh:((s.heap.push { cls:=.type "dict",data:=.dict #[] }).update x λ o=>{ cls:=o.cls,dict:=some s.heap.objs.size,data:=o.data,slots:=o.slots })=h2
  have g1:h2.get? s.heap.objs.size=some { cls:=.type "dict",data:=.dict #[] }:=by rw[<- hh];exact(Heap.get?_update_ne _ _ _ _ hxs.symm).trans (Heap.get?_push_at rfl rfl)
  have g2:h2.get? x=some ⟨.ref C,some s.heap.objs.size,.fields vs,sl⟩:=by rw[<- hh];exact Heap.get?_update_self _ hx1 rfl
  have g3:∀ b o,b ≠ x->s.heap.get? b=some o->h2.get? b=some o:=λ b o n e=>by rw[<- hh];exact(Heap.get?_update_ne _ _ _ _ n).trans (Heap.get?_push_of_some _ e)
  have hnd:h2.Ns s.heap.objs.size (λ _=>none):=⟨_,#[],_,g1,rfl,λ e he=>absurd he (by simp),λ _=>rfl⟩
  refine wpAny_pure ?_
  show wpAny _ _ (storeInDict s.heap.objs.size (.str name s.toks) name v) _ _ _
  unfold storeInDict newKeyGuard
  refine wpAny_bind (wpAny_pure (wpAny_bind (wpAny_nsSet1 (Heap.Ns1.of_empty hnd) λ h' hn' hs=>?_)))
  obtain⟨oD,esD,epD,hoD,hdD,hcD⟩:=hn'.count (Within.cons name v Within.nil)
  refine wpAny_bind (wpAny_lookBehind hoD (by rw[hdD];exact pastItsLine_dict (Nat.le_trans hcD (by rw[List.length_cons,List.length_nil,sizeLine_eq];omega))) ?_)
  exact wpAny_pure (h h' ((hs.2 x hxs).trans g2) hn' λ b o n e=>(hs.2 b (Nat.ne_of_lt (Heap.lt_size e))).trans (g3 b o n e))
end
end L2
namespace L2
open PySem PySem.Spec PyProof.Rows
open Builtin Builtin.ObjectAttr
section
variable{prog:Program}{w:World}{A:Around}{E:Value->Shared->Prop}{s:Shared}{K:PySem.W.Frag}{C fI x dx:Addr}{name:Str}{v:Value}{mA:Str->Option Value}
theorem Qr{sl:Array (Option Value)}{vs:Array Value}{expr:Bool}{Q:Value->Shared->Prop}(X:K.In s.heap)(c:XC K C fI)(hx:s.heap.get? x=some ⟨.ref C,some dx,.fields vs,sl⟩)(hn:s.heap.Ns1 dx mA)(na:PySem.W.findIn K (.ref C) name=some none)(hv:mA name=some v)
    (hh:PySem.W.handedIn v=true) (h:Q v { s with toks:=s.toks + 1 }):wpAny (model prog w) A (getAttr (.ref x) name expr) Q E s:=by
  obtain⟨od,ho,hl⟩:=IG hn
  obtain⟨hp,g,d,t,os⟩:=s
  have I:PySem.W.InstAt hp x ⟨.ref C,some dx,.fields vs,sl⟩ C (some od):=⟨hx,rfl,rfl,ho⟩
  obtain⟨cd,hc,ov,hd⟩:=c.cls
  have hhd:PySem.W.hasDictIn K C=true:=by unfold PySem.W.hasDictIn;rw[hc];exact hd
  have L0:PySem.W.Looks (model prog w) hp (typeOf (.ref x)) (.ref C):=I.type
  have L1:PySem.W.Looks (model prog w) hp (find (.ref x) (.ref C) name) (.value v):=PySem.W.looks_find X I (PySem.W.findObj_own hhd na rfl (by rw[hl,hv]))
  have L2:PySem.W.Looks (model prog w) hp (typeLookup (.ref C) "__getattribute__") (some (.builtin "BaseException.__getattribute__")):=PySem.W.looks_findIn X c.ga
  have L3:PySem.W.Looks (model prog w) hp (hookBefore (.ref C)) none:=PySem.W.looks_hook X c.gx
  have ne:cd.mro.isEmpty=false:=by cases q:cd.mro with|nil=>rw[q]at ov;cases ov|cons _ _=>rfl
  have sub:PySem.W.Looks (model prog w) hp (isInstance (.ref x) (.type "BaseException")) true:=
    I.type.andThen (PySem.W.looks_mroIn X (by unfold PySem.W.mroIn;rw[hc,Option.bind_some,if_neg (by rw[ne];decide),ov.has (by decide +kernel)]))
  have hx2:(Value.builtin "BaseException.__getattribute__" == Value.builtin "object.__getattribute__")=false:=by decide +kernel
  have hx1:(onTheHeap (Value.ref C) && Value.builtin "BaseException.__getattribute__" == Value.builtin "object.__getattribute__")=false:=by rw[hx2];rfl
  unfold getAttr getAttrBy
  refine wpAny_bind (wpAny_mkText (wpAny_holding (wpAny_bind (L0.at (wpAny_bind (L2.at ?_))))))
  dsimp only
  rw[if_neg (by rw[hx1];exact Bool.false_ne_true)]
  unfold getAttrByItsOwn
  refine wpAny_bind (L3.at (wpAny_bind (wpAny_attempt (wpAny_holding ?_))))
  have hx0:(expr && onTheHeap (Value.builtin "BaseException.__getattribute__"))=false:=by cases expr <;> rfl
  have FB:=F.attrBase_ValueError
  have hk:builtinKind "BaseException.__getattribute__"=some .slot:=by decide +kernel
  have hs:splitId "BaseException.__getattribute__"=some ("BaseException","__getattribute__"):=by decide +kernel
  unfold callGetattribute boundAndCalled
  rw[if_neg (by rw[hx0];exact Bool.false_ne_true),FB.ga.bind]
  refine wpAny_bind (wpAny_pure (wpAny_call (codeAny_call_builtin FB.ga.plain F.entry_bexc_ga (@PySem.W.check_slot (model prog w) _ _ _ "BaseException.__getattribute__" "BaseException" "__getattribute__" (.ref x) [.str name t] [] _ hk hs sub (F.args_bexc_ga _ _) ?_))))
  refine wpAny_bind (wpAny_pure (wpAny_bind (wpAny_pure (wpAny_bind (L0.at (wpAny_bind (L1.at ?_)))))))
  refine wpAny_pure ?_
  show wpAny _ _ (handedOut v) _ _ _
  rw[PySem.W.handedOut_of hh];exact wpAny_pure h
theorem MD{M:Model}{env:Env}{xe:Expr}{pos:Pos}{Q:Flow->Shared->Prop}(hh:A.handled=none)(c:XC K C fI)
    (h:wpAny M A (eval xe env) (λ v s1=>∃ e t dx sl,v=.ref e/\K.In s1.heap/\s1.heap.get? e=some ⟨.ref C,some dx,.fields #[.ref t,.none,.none,.none,.bool false,.none],sl⟩/\E (.ref e) s1) E s) :
    wpAny M A (exec (.Raise (some xe) none pos) env) Q E s:=by
  obtain⟨nm,q,N,bs,bm,sn,sub,ab,col,dd,k0,k1,k2,k3,k5,lk,ov⟩:=c.at_
  have cb:(Value.ref C :: bm).contains (.type "BaseException")=true:=(OverV.own ov).has (by decide +kernel)
  rw[arm_exec_Raise]
  refine wpAny_bind (wpAny_standAt ?_)
  show wpAny _ _ (raiseStmt env (some (do let v <- eval xe env;standAt pos;pure v)) none) _ _ _
  unfold raiseStmt
  refine wpAny_bind (wpAny_bind (wpAny_mono h (λ v s1 h1=>?_) λ _ _ z=>z))
  obtain⟨e,t,dx,sl,rfl,X,he,hE⟩:=h1
  have hC:=X _ _ lk
  refine wpAny_bind (wpAny_standAt (wpAny_pure ?_))
  obtain⟨hp,g,d,tk,os⟩:=s1
  repeat (first|with_reducible refine wpAny_loadPart_at he ?_|with_reducible refine wpAny_loadPart_at hC ?_|(with_reducible refine wpAny_isSubtype_exc hC ?_;rw[cb])|wp_step)
  exact wpAny_raiseNew_none hh hE
end
end L2
namespace L2
open PySem PySem.Spec PyProof.Rows
noncomputable def Exo(h:Heap)(a C dx:Addr)(tb:Value):Prop:=∃ vs sl,h.get? a=some ⟨.ref C,some dx,.fields vs,sl⟩/\vs[1]? = some tb
noncomputable def Trc(h:Heap)(T:Addr):Prop:=∃ oT ts,h.get? T=some oT/\oT.data=.fields ts/\ts[3]? = some Value.none
noncomputable def OV(h:Heap)(a:Addr)(tb:Value):Prop:=tb=.none ∨ ∃ T,tb=.ref T/\T ≠ a/\Trc h T
structure Note(fs:List Addr)(a:Addr)(tb:Value)(h h':Heap):Prop where
  keep:∀ b o,h.get? b=some o->b ≠ a->.ref b ≠ tb->b ∉ fs->h'.get? b=some o
  slot:∀ b o,h.get? b=some o->b ∈ fs->∃ sl,h'.get? b=some { o with slots:=sl }
  there:∀ b o,h.get? b=some o->∃ o',h'.get? b=some o'
section
variable{M:Model}{A:Around}{E:Value->Shared->Prop}{s:Shared}{base:Heap}{env:Env}{outer:List Env}{L a C dx:Addr}{tb:Value}
theorem JX{Q:Unit->Shared->Prop}(hfr:A.frames=some (env :: outer))(hl:s.heap.FunFrames base (env :: outer))(hf:env.frame=some L)(he:Exo s.heap a C dx tb)(ht:OV s.heap a tb)
    (h:∀ h' T,s.heap.objs.size <= T->T ≠ a->Exo h' a C dx (.ref T)->Trc h' T->Note (frs (env :: outer)) a tb s.heap h'->Q () { s with heap:=h' }) :
    wpAny M A (noteFrame (.ref a) env) (λ _ s2=>wpAny M A (setFlight (.ref a) none) Q E s2) E s:=by
  obtain⟨vs,sl,ha,h1⟩:=he
  have sz:1 < vs.size:=(Array.getElem?_eq_some_iff.mp h1).1
  have frF:∀ b ∈ frs (env :: outer),∃ o,s.heap.get? b=some o/\∀ vs,o.data ≠ .fields vs:=λ b hb=>(hl.mem hb).2
  have naF:a ∉ frs (env :: outer):=λ hb=>by
    obtain⟨o,e,n⟩:=frF a hb
    rw[ha]at e;cases e;exact n vs rfl
  -- the entry that is made,over a heap h0 that differs from s.heap at the head alone
  have main:∀ (h0:Heap) (hadNext:Bool),h0.objs.size=s.heap.objs.size->h0.get? a=some ⟨.ref C,some dx,.fields vs,sl⟩->(∀ b o,s.heap.get? b=some o->.ref b ≠ tb->h0.get? b=some o)->(∀ b o,s.heap.get? b=some o->∃ o',h0.get? b=some o')->h0.FunFrames base (env :: outer) ->
      wpAny M A (do let f <- frameOf env;let pl <- entryPlaceOf L hadNext;let b <- EntryCells.newEntry tb f .none (rawInt L) .none pl;setField (.ref a) 1 b) (λ _ s2=>wpAny M A (setFlight (.ref a) none) Q E s2) E { s with heap:=h0 }:=by
    intro h0 hadNext hz ha0 k0 t0 hl0
    refine wpAny_bind (wpAny_frameOf_fun (s:={ s with heap:=h0 }) hfr hl0 hf λ h1' hs1=>?_)
    refine wpAny_bind (wpAny_entryPlaceOf λ pl hpl=>?_)
    unfold EntryCells.newEntry newFields
    refine wpAny_bind (wpAny_newObj_type ?_ (hpl.sizeOk5 _ _ _ _ _))
    generalize hob:({ cls:=.type "traceback",dict:=none,data:=.fields ([tb,.ref L,.none,rawInt L,.none] ++ (if pl.isEmpty then List.replicate 6 Value.none else pl)).toArray }:Obj)=ob
    have hobd:ob.data=.fields ([tb,.ref L,.none,rawInt L,.none] ++ (if pl.isEmpty then List.replicate 6 Value.none else pl)).toArray:=by rw[<- hob]
    have z1:h1'.objs.size=s.heap.objs.size:=hs1.1.trans hz
    have ha1:h1'.get? a=some ⟨.ref C,some dx,.fields vs,sl⟩:=(hs1.2.1 a naF).trans ha0
    have ha2:=Heap.get?_push_of_some (h:=h1') ob ha1
    have nT:h1'.objs.size ≠ a:=Nat.ne_of_gt (Heap.lt_size ha1)
    refine wpAny_setField ha2 rfl sz ?_
    have ha3:=Heap.get?_update_self (Obj.mapFields (·.setIfInBounds 1 (Value.ref h1'.objs.size))) ha2 (Obj.isFreed_of_fields (Obj.data_mapFields rfl _))
    have hT3:=(Heap.get?_update_other (h1'.push ob) (Obj.mapFields (·.setIfInBounds 1 (Value.ref h1'.objs.size))) (Ne.symm nT)).trans (Heap.get?_push_size h1' (by rw[<- hob];rfl))
    unfold setFlight
    refine wpAny_bind (wpAny_field ha3 (Obj.data_mapFields rfl _) (x:=.ref h1'.objs.size) (by simp[sz]) ?_)
    rw[if_pos (show(Value.ref h1'.objs.size != Value.none)=true from by simp)]
    have three:3 < ([tb,.ref L,.none,rawInt L,.none] ++ (if pl.isEmpty then List.replicate 6 Value.none else pl)).toArray.size:=by simp only[List.size_toArray,List.length_append,List.length_cons,List.length_nil];omega
    refine wpAny_setField hT3 hobd three (h _ h1'.objs.size (Nat.le_of_eq z1.symm) nT ?_ ?_ ?_)
    . exact⟨_,sl,(Heap.get?_update_other _ _ nT).trans ha3,by simp[sz]⟩
    . exact⟨_,_,Heap.get?_update_self _ hT3 (Obj.isFreed_of_fields (Obj.data_mapFields hobd _)),Obj.data_mapFields hobd _,by simp only[Array.getElem?_setIfInBounds_self,three,if_true];rfl⟩
    . have up:∀ b o,h1'.get? b=some o->b ≠ a->(((h1'.push ob).update a (Obj.mapFields (·.setIfInBounds 1 (Value.ref h1'.objs.size)))).update h1'.objs.size (Obj.mapFields (·.setIfInBounds 3 ((none:Option Addr).elim Value.none λ f=>rawInt f)))).get? b=some o:=λ b o e n=>by
        rw[Heap.get?_update_other _ _ (Nat.ne_of_gt (Heap.lt_size e)),Heap.get?_update_other _ _ (Ne.symm n)]
        exact Heap.get?_push_of_some _ e
      refine⟨λ b o e n1 n2 n3=>up b o ((hs1.2.1 b n3).trans (k0 b o e n2)) n1,λ b o e hb=>?_,λ b o e=>?_⟩
      . obtain⟨o',e',n⟩:=frF b hb
        rw[e]at e';cases e'
        have hbt:.ref b ≠ tb:=by
          rcases ht with rfl|⟨T,rfl,_,oT,ts,eT,dT,_⟩
          . exact λ q=>by cases q
          . intro q;cases q;rw[e]at eT;cases eT;exact n ts dT
        obtain⟨sl',e1⟩:=hs1.2.2 b o (k0 b o e hbt)
        exact⟨sl',up b _ e1 λ q=>naF (q ▸ hb)⟩
      . by_cases q:b=a
        . subst q;exact⟨_,(Heap.get?_update_other _ _ nT).trans ha3⟩
        . obtain⟨o0,e0⟩:=t0 b o e
          obtain⟨sl',e1⟩:=hs1.2.2 b o0 e0
          exact⟨_,up b _ e1 q⟩
  unfold noteFrame
  simp only[hf]
  refine wpAny_bind (wpAny_field ha rfl h1 ?_)
  rcases ht with rfl|⟨T,rfl,nTa,oT,ts,eT,dT,e3⟩
  . rw[if_neg (by decide)]
    exact main s.heap _ rfl ha (λ b o e _=>e) (λ b o e=>⟨o,e⟩) hl
  . rw[if_pos (show(Value.ref T != Value.none)=true from by simp)]
    refine wpAny_bind (wpAny_field eT dT e3 ?_)
    rw[if_neg (show ¬ ((Value.none == rawInt L)=true)from by simp[rawInt])]
    refine wpAny_bind (wpAny_setField eT dT (Array.getElem?_eq_some_iff.mp e3).1 ?_)
    have oth:∀ b,b ≠ T->(s.heap.update T (Obj.mapFields (·.setIfInBounds 3 Value.none))).get? b=s.heap.get? b:=λ b n=>Heap.get?_update_other _ _ (Ne.symm n)
    refine main _ _ (by simp) ((oth a (Ne.symm nTa)).trans ha) (λ b o e n=>(oth b λ q=>n (by rw[q])).trans e) (λ b o e=>?_) (hl.of_keeps λ b o e n=>⟨o,(oth b λ q=>?_).trans e,rfl⟩)
    . by_cases q:b=T
      . subst q;exact⟨_,Heap.get?_update_self _ eT (Obj.isFreed_of_fields (Obj.data_mapFields dT _))⟩
      . exact⟨o,(oth b q).trans e⟩
    . subst q;rw[eT]at e;cases e;exact n ts dT
theorem Mk{Q:Unit->Shared->Prop}(hfr:A.frames=some (env :: outer))(hl:s.heap.FunFrames base (env :: outer))(hf:env.frame=some L)(he:Exo s.heap a C dx tb)(ht:OV s.heap a tb)
    (h:∀ h' T,s.heap.objs.size <= T->T ≠ a->Exo h' a C dx (.ref T)->Trc h' T->Note (frs (env :: outer)) a tb s.heap h'->Q () { s with heap:=h' }):wpAny M A (leaving env (.ref a)) Q E s:=by
  unfold leaving
  exact wpAny_bind (JX hfr hl hf he ht h)
end
end L2
namespace L2
open PySem PySem.Spec PyProof.Rows
open Builtin Builtin.ObjectAttr
section
variable{prog:Program}{w:World}{A:Around}{E:Value->Shared->Prop}{s:Shared}{K:PySem.W.Frag}{C fI x dx:Addr}{mA:Str->Option Value}
structure XI(K:PySem.W.Frag)(C:Addr):Prop where
  ca:PySem.W.findIn K (.ref C) "__class__"=some (some (.builtin "object.__class__"))
  gd:PySem.W.specialIn K (.builtin "object.__class__") "__get__"=some (some (.builtin "getset_descriptor.__get__"))
  tk:PySem.W.takesIn K (.builtin "object.__class__")=some true
  mo:PySem.W.mroIn K C (.type "object")=some true
theorem N1{sl:Array (Option Value)}{vs:Array Value}{od:Obj}{Q:Option Value->Shared->Prop}(X:K.In s.heap)(c:XC K C fI)(i:XI K C)(I:PySem.W.InstAt s.heap x ⟨.ref C,some dx,.fields vs,sl⟩ C (some od))
    (h:Q (some (.ref C)) { s with toks:=s.toks + 1 }):wpAny (model prog w) A (getAttr? (.ref x) "__class__") Q E s:=by
  obtain⟨hp,g,d,t,os⟩:=s
  obtain⟨cd,hc,ov,hd⟩:=c.cls
  have L0:PySem.W.Looks (model prog w) hp (typeOf (.ref x)) (.ref C):=I.type
  have L1:PySem.W.Looks (model prog w) hp (find (.ref x) (.ref C) "__class__") (.bind (.builtin "getset_descriptor.__get__") (.builtin "object.__class__")):=
    PySem.W.looks_find X I (PySem.W.findObj_data (by rw[hc];rfl) i.ca i.gd i.tk)
  have L2:PySem.W.Looks (model prog w) hp (typeLookup (.ref C) "__getattribute__") (some (.builtin "BaseException.__getattribute__")):=PySem.W.looks_findIn X c.ga
  have L3:PySem.W.Looks (model prog w) hp (hookBefore (.ref C)) none:=PySem.W.looks_hook X c.gx
  have ne:cd.mro.isEmpty=false:=by cases q:cd.mro with|nil=>rw[q]at ov;cases ov|cons _ _=>rfl
  have sub:PySem.W.Looks (model prog w) hp (isInstance (.ref x) (.type "BaseException")) true:=
    I.type.andThen (PySem.W.looks_mroIn X (by unfold PySem.W.mroIn;rw[hc,Option.bind_some,if_neg (by rw[ne];decide),ov.has (by decide +kernel)]))
  have hx2:(Value.builtin "BaseException.__getattribute__" == Value.builtin "object.__getattribute__")=false:=by decide +kernel
  have hx1:(onTheHeap (Value.ref C) && Value.builtin "BaseException.__getattribute__" == Value.builtin "object.__getattribute__")=false:=by rw[hx2];rfl
  have FB:=F.attrBase_ValueError
  have hk:builtinKind "BaseException.__getattribute__"=some .slot:=by decide +kernel
  have hs:splitId "BaseException.__getattribute__"=some ("BaseException","__getattribute__"):=by decide +kernel
  unfold getAttr? getAttrBy? getAttrBy
  refine wpAny_bind (wpAny_mkText (wpAny_bind (wpAny_attempt (wpAny_holding (wpAny_bind (L0.at (wpAny_bind (L2.at ?_))))))))
  dsimp only
  rw[if_neg (by rw[hx1];exact Bool.false_ne_true)]
  unfold getAttrByItsOwn
  refine wpAny_bind (L3.at (wpAny_bind (wpAny_attempt (wpAny_holding ?_))))
  unfold callGetattribute boundAndCalled
  rw[if_neg (by exact Bool.false_ne_true),FB.ga.bind]
  refine wpAny_bind (wpAny_pure (wpAny_call (codeAny_call_builtin FB.ga.plain F.entry_bexc_ga (@PySem.W.check_slot (model prog w) _ _ _ "BaseException.__getattribute__" "BaseException" "__getattribute__" (.ref x) [.str "__class__" t] [] _ hk hs sub (F.args_bexc_ga _ _) ?_))))
  refine wpAny_bind (wpAny_pure (wpAny_bind (wpAny_pure (wpAny_bind (L0.at (wpAny_bind (L1.at ?_)))))))
  show wpAny _ _ (bindTo _ _ _ _) _ _ _
  unfold bindTo
  refine wpAny_bind (wpAny_holding (wpAny_call (PySem.W.class_get (s:=⟨hp,g,d,t + 1,os⟩) (od:=some od) X I i.mo ?_)))
  refine wpAny_pure ?_
  show wpAny _ _ (handedOut (.ref C)) _ _ _
  rw[PySem.W.handedOut_of rfl]
  exact wpAny_pure (wpAny_pure h)
theorem Je(c:XC K C fI)(i:XI K C):PySem.W.KitX K (.ref x) (.ref C) (λ h=>∃ dx vs sl od,PySem.W.InstAt h x ⟨.ref C,some dx,.fields vs,sl⟩ C (some od)) where
  ty:=λ _ _ _ ⟨_,_,_,_,I⟩=>I.type
  it:=λ _ _ X _=>by
    obtain⟨nm,q,N,bs,bm,sn,sub,ab,col,dd,k0,k1,k2,k3,k5,lk,ov⟩:=c.at_
    intro A' Q' E' s' k q'
    unfold isType loadHead
    exact wpAny_bind (wpAny_loadPart (k _ _ (X _ _ lk)) (wpAny_pure q'))
  ne:=λ h tp dd its n sl X htp=>by
    obtain⟨nm,q,N,bs,bm,sn,sub,ab,col,dd',k0,k1,k2,k3,k5,lk,ov⟩:=c.at_
    refine Bool.eq_false_iff.mpr λ q'=>?_
    have e:C=tp:=Value.ref.inj (beq_iff_eq.mp q')
    subst e
    have z:=(X _ _ lk).symm.trans htp
    exact absurd (congrArg Obj.data (Option.some.inj z)) (by intro q;cases q)
  ca:=λ X ⟨_,_,_,_,I⟩ k=>N1 X c i I k
end
noncomputable def X0(a C t:Addr)(h:Heap):Prop:=h.get? a=some (FA C t)
noncomputable def X1(a C dx t:Addr)(h:Heap):Prop:=h.get? a=some ⟨.ref C,some dx,.fields #[.ref t,.none,.none,.none,.bool false,.none],#[]⟩
noncomputable def XO(a C dx:Addr)(h:Heap):Prop:=∃ tb,Exo h a C dx tb
noncomputable def New(X:Cx)(pins:List (Addr × Obj))(b:Addr):Prop:=(b ∈ X.ex ∨ X.s₀.heap.objs.size <= b)/\b ≠ X.env.locals/\(∀ x c,X.env.cells.lookup x=some c->c ≠ b)/\∀ p ∈ X.pn ++ pins,p.1 ≠ b
theorem Inv.new{X:Cx}{pins:List (Addr × Obj)}{σ:St}{H:Hp}{s:Shared}(I:Inv X pins σ H s){b:Addr}(h:s.heap.objs.size <= b):New X pins b:=by
  refine⟨.inr (Nat.le_trans I.sz h),Nat.ne_of_gt (Nat.lt_of_lt_of_le I.lt h),λ x c e=>?_,λ p hp=>?_⟩
  . obtain⟨v,o,ho,_⟩:=I.cell x c e
    exact Nat.ne_of_lt (Nat.lt_of_lt_of_le (Heap.lt_size ho) h)
  . exact Nat.ne_of_lt (Nat.lt_of_lt_of_le (Heap.lt_size (I.pin p hp).1) h)
section
variable(C:Addr)(f:Str)
noncomputable def XEP(X:Cx)(pins:List (Addr × Obj))(Q:VK)(e:Value)(s':Shared):Prop:=∃ a dx tb v σ' H',e=.ref a/\Inv X pins σ' H' s'/\Exo s'.heap a C dx tb/\OV s'.heap a tb/\H' a=some (.ext (XO a C dx)) /\
  (∀ T,tb=.ref T->H' T=none/\New X pins T)/\H' dx=some (.xd [(f,v)])/\Q v H'
noncomputable def CXN(P:Program)(w:World):CXT:=λ outer H s E e s'=>∃ a dx T H',e=.ref a/\s'.os=s.os/\AllBare s'.gens/\Un (frs outer) [] H H' s.heap s'.heap/\HOk P w H' s'.heap/\Exo s'.heap a C dx (.ref T)/\T ≠ a/\Trc s'.heap T /\
  H' T=none/\s.heap.objs.size <= T/\H' a=some (.ext (XO a C dx))/\E (.ref C) (some dx) H'
end
section
variable{C:Addr}{f:Str}{X:Cx}{pins:List (Addr × Obj)}{σ:St}{H:Hp}{s s':Shared}{Q:VK}{e:Value}
theorem JW{P:Program}{w:World}{fs:List Addr}{a dx T:Addr}{tb:Value}{h h':Heap}(hok:HOk P w H h)(N:Note fs a tb h h')(hx:Exo h' a C dx (.ref T))(ha:H a=some (.ext (XO a C dx)))(hT:∀ T,tb=.ref T->H T=none)(hf:∀ b ∈ fs,H b=none):HOk P w H h':=by
  have k:∀ b o u,H b=some o->b ≠ a->h.get? b=some u->h'.get? b=some u:=λ b o u q n e=>N.keep b u e n (λ z=>by rw[hT b z.symm]at q;cases q) λ z=>by rw[hf b z]at q;cases q
  intro b o q
  by_cases n:b=a
  . subst n
    rw[ha]at q;cases q
    obtain⟨vs,sl,e1,e2⟩:=id hx
    refine⟨⟨_,hx⟩,⟨_,e1⟩,λ h1 h2 ⟨tb,vs,sl,e,z⟩ k=>⟨tb,vs,sl,k _ e,z⟩⟩
  . refine(hok b o q).stay (λ c u hc e=>?_) (λ _ z=>z) λ _ _ z=>z
    rcases hc with rfl|hc
    . exact k c o u q n e
    . exact k c _ u hc (λ z=>by subst z;rw[ha]at hc;cases hc) e
theorem ND{P:Program}{w:World}{K:PySem.W.Frag}{mg:Str->Option Value}{base:Heap}{N:List Str}{qual:Str}{scope:Scope}{fa:Addr}{cd:Value}{A:Around}{outer:List Env}{E:XK}{CX:CXT}{M:Model}{E':Value->Shared->Prop}
    (h:XEP C f (EF CX P w K mg base N qual scope fa cd A outer s H E).nox pins Q e s') (hq:∀ v dx H',Q v H'->H' dx=some (.xd [(f,v)])->E (.ref C) (some dx) H') :
    wpAny M (A.deeper (envOfC qual scope s.heap.objs.size fa cd)) (leaving (envOfC qual scope s.heap.objs.size fa cd) e) (λ _ s''=>CXN C P w outer H s E e s'') E' s':=by
  obtain⟨a,dx,tb,v,σ',H',rfl,I,ex,ht,ha,hT,hd,q⟩:=h
  have fr:=I.ok.frames
  refine Mk (base:=base) (L:=s.heap.objs.size) fr I.stack rfl ex ht λ h' T z nT ex' tr Nt=>?_
  have hfs:∀ b ∈ frs (envOfC qual scope s.heap.objs.size fa cd :: outer),H' b=none:=I.stkFree
  have hok':=JW I.hok Nt ex' ha (λ T e=>(hT T e).1) hfs
  have nx:∀ b,b ∉ (EF CX P w K mg base N qual scope fa cd A outer s H E).nox.ex:=λ b z=>absurd (show b ∈ ([]:List Addr)from z) (by simp)
  have u:=I.base
  have out:∀ b o,s.heap.get? b=some o->H b=none->b ≠ a/\.ref b ≠ tb/\b ≠ s.heap.objs.size:=λ b o e n=>by
    have n':H' b=none:=u.free b o e n (nx b)
    refine⟨(λ z=>by subst z;rw[ha]at n';cases n'),λ z=>?_,Nat.ne_of_lt (Heap.lt_size e)⟩
    rcases(hT b z.symm).2.1 with y|y
    . exact absurd y (nx b)
    . exact absurd (Nat.lt_of_lt_of_le (Heap.lt_size e) y) (Nat.lt_irrefl _)
  have inF:∀ b,b ∈ frs (envOfC qual scope s.heap.objs.size fa cd :: outer)->b=s.heap.objs.size ∨ b ∈ frs outer:=λ b hb=>by
    have:frs (envOfC qual scope s.heap.objs.size fa cd :: outer)=s.heap.objs.size :: frs outer:=rfl
    rw[this]at hb;exact List.mem_cons.mp hb
  refine⟨a,dx,T,H',rfl,I.os,I.bare,⟨λ b o e n nf _=>?_,λ b o e n hf _=>?_,λ b o e n _=>u.free b o e n (nx b),λ b o e _=>?_,u.tups,u.frzs,u.tbls⟩,hok',ex',nT,tr,I.hok.fresh z,Nat.le_trans I.sz z,ha,hq v dx H' q hd⟩
  . obtain⟨n1,n2,n3⟩:=out b o e n
    exact Nt.keep b o (u.keep b o e n nf (nx b)) n1 n2 λ hb=>(inF b hb).elim n3 nf
  . obtain⟨sl,e1⟩:=u.slot b o e n hf (nx b)
    obtain⟨sl',e2⟩:=Nt.slot b _ e1 (by
      show b ∈ s.heap.objs.size :: frs outer
      exact List.mem_cons_of_mem _ hf)
    exact⟨sl',e2⟩
  . obtain⟨o',e1⟩:=u.there b o e (nx b)
    exact Nt.there b o' e1
theorem Lj{E:XK}(I:Inv X pins σ H s)(h:CXN C X.prog X.w X.stack H s E e s')(hq:∀ dx H',E (.ref C) (some dx) H'->∃ v,H' dx=some (.xd [(f,v)])/\Q v H'):XEP C f X pins Q e s':=by
  obtain⟨a,dx,T,H',rfl,os,bare,un,hok,ex,nT,tr,hT,z,ha,q⟩:=h
  obtain⟨v,hd,q'⟩:=hq dx H' q
  exact⟨a,dx,.ref T,v,σ,H',rfl,I.call' (ch:=[]) os un hok bare (λ b z=>absurd z (by simp)),ex,.inr ⟨T,rfl,nT,tr⟩,ha,λ T' e=>by cases e;exact⟨hT,I.new z⟩,hd,q'⟩
end
end L2
namespace L2
open PySem PySem.Spec PyProof.Rows
section
variable{X:Cx}{C fI:Addr}{f:Str}{pos pos':Pos}{value o e:Expr}{ta tv te:TE}
noncomputable def To(K:PySem.W.Frag)(ta tv:TE)(f:Str):TS:=λ D σ H=>tv σ H λ y H1=>ta σ H1 λ x H2=>∃ a C t fI,x=.ref a/\H2 a=some (.ext (X0 a C t))/\XC K C fI/\Df K C f /\
  ∀ dx,H2 dx=none->dx ≠ a->D.nx σ (upd (upd H2 dx (.xd [(f,y)])) a (.ext (X1 a C dx t)))
theorem Mt{P:Program}{w:World}{H:Hp}{h:Heap}{a:Addr}{o:Obj}(e:h.get? a=some o):ObjOk P w H h a (.ext λ h=>h.get? a=some o):=⟨e,⟨_,e⟩,λ _ _ x k=>k _ x⟩
theorem Q6(ha:PE X o ta)(hv:PE X value tv)(hs:swapsWith value (some (.Attribute o f pos')) pos.line X.env=pure false):PS X (.Assign [.Attribute o f pos'] value pos) (To X.K ta tv f):=by
  intro pins s σ H D I h
  refine plainObj_wpAny_Assign_Attribute (thn (hv pins s σ H _ I h) λ uv s1 ⟨y,H1,I1,ry,q⟩=>thn (ha pins s1 σ H1 _ I1 q) λ ov s2 ⟨x,H2,I2,rx,a,C,t,fI,ex,ea,c,n,q2⟩=>?_) hs
  subst ex
  obtain rfl:ov=Value.ref a:=rx
  obtain⟨x0,_⟩:=(show ObjOk X.prog X.w H2 s2.heap a (.ext (X0 a C t))from I2.hok a _ ea)
  have hx:s2.heap.get? a=some ⟨.ref C,none,.fields #[.ref t,.none,.none,.none,.bool false,.none],#[]⟩:=x0
  refine PU I2.kIn c hx n λ h' e1 e2 k=>⟨σ,_,?_,q2 s2.heap.objs.size (I2.hok.fresh (Nat.le_refl _)) (Nat.ne_of_gt (Heap.lt_size hx))⟩
  have nd:H2 s2.heap.objs.size=none:=I2.hok.fresh (Nat.le_refl _)
  have nda:s2.heap.objs.size ≠ a:=Nat.ne_of_gt (Heap.lt_size hx)
  have old:∀ b u,H2 b=some u->b ≠ a->(upd (upd H2 s2.heap.objs.size (.xd [(f,y)])) a (.ext (X1 a C s2.heap.objs.size t))) b=some u:=λ b u q n=>by
    rw[AF n,AF (AZ q nd)];exact q
  have non:∀ b o,s2.heap.get? b=some o->H2 b=none->(upd (upd H2 s2.heap.objs.size (.xd [(f,y)])) a (.ext (X1 a C s2.heap.objs.size t))) b=none/\b ≠ a:=λ b o q n=>by
    have n1:b ≠ a:=λ z=>by rw[z,ea]at n;cases n
    exact⟨by rw[AF n1,AF (Nat.ne_of_lt (Heap.lt_size q))];exact n,n1⟩
  refine I2.un ⟨λ b o q n _ _=>k b o (non b o q n).2 q,λ b o q n _ _=>⟨o.slots,k b o (non b o q n).2 q⟩,λ b o q n _=>(non b o q n).1,λ b o q _=>?_,λ b xs q=>old b _ q (λ z=>by rw[z,ea]at q;cases q),λ b o u q=>old b _ q (λ z=>by rw[z,ea]at q;cases q),
    λ b ps q=>⟨#[],by rw[old b _ q (λ z=>by rw[z,ea]at q;cases q)];simp⟩⟩ λ b u q=>?_
  . by_cases z:b=a
    . subst z;exact⟨_,e1⟩
    . exact⟨o,k b o z q⟩
  . by_cases z:b=a
    . subst z
      rw[AQ]at q;cases q
      exact Mt e1
    . rw[AF z]at q
      by_cases z':b=s2.heap.objs.size
      . subst z'
        rw[AQ]at q;cases q
        refine⟨_,e2,λ g=>?_⟩
        show RelO (List.lookup g [(f,y)]) (if g=f then some uv else none)
        by_cases gz:g=f
        . subst gz;rw[if_pos rfl,List.lookup_cons_self];exact ry
        . have g':(g == f)=false:=by simpa using gz
          rw[if_neg gz];unfold List.lookup;rw[g'];exact True.intro
      . rw[AF z']at q
        refine(I2.hok b u q).stay (λ c v hc r=>k c v ?_ r) (λ c r=>old c _ r ?_) λ c xs r=>old c _ r ?_
        . rcases hc with rfl|hc
          . exact z
          . intro zz;rw[zz,ea]at hc;cases hc
        . intro zz;rw[zz,ea]at r;cases r
        . intro zz;rw[zz,ea]at r;cases r
noncomputable def spI(C:Addr)(f:Str):Sp:=λ vs H Q _=>∃ a v t,vs=[.ref a,v]/\H a=some (.ext (X0 a C t))/\∀ dx,H dx=none->dx ≠ a->Q .non (upd (upd H dx (.xd [(f,v)])) a (.ext (X1 a C dx t)))
end
theorem Qd{P:Program}{w:World}{K:PySem.W.Frag}{mg:Str->Option Value}{base:Heap}{qual:Str}{st:Stmt}{C fI fa:Addr}{fd:FuncData}{f:Str}{p1 p2 p3 p4:Pos}{pw:Str}(F:Fun K "__init__" qual st fa fd)(S:FnScope ["self",pw] ["self",pw] (A9 st))
    (hb:AT st=[.Assign [.Attribute (.Name "self" p1) f p2] (.Name pw p3) p4]) (c:XC K C fI) (n:Df K C f) (hs:∀ cdv A outer s H E,swapsWith (.Name pw p3) (some (.Attribute (.Name "self" p1) f p2)) p4.line (EF CX0 P w K mg base ["self",pw] qual (A9 st) fa cdv A outer s H E).env=pure false)
    (v0:Vis (A9 st) "self") (v1:Vis (A9 st) pw) (d1:(pw == ("__debug__":Str))=false) (d2:(pw == ("__classdict__":Str))=false):FnOk P w K mg base CX0 1 fa fd ["self",pw] (spI C f):=by
  refine F.ok (N:=["self",pw]) S (λ vs H Q E h=>?_) λ cdv A outer s H vs Q E hr hsp=>?_
  . obtain⟨a,v,t,rfl,_⟩:=h;rfl
  . rw[hb]
    refine⟨_,GB (Q6 (Ek (i:=0) rfl v0 (by decide) (by decide)) (Ek (i:=1) rfl v1 d1 d2) (hs cdv A outer s H E)),?_⟩
    obtain⟨a,v,t,rfl,ha,q⟩:=hsp
    exact⟨v,rfl,.ref a,rfl,a,C,t,fI,rfl,ha,c,n,q⟩
end L2
namespace L2
open PySem PySem.Spec PyProof.Rows
section
variable(C:Addr)(f:Str)
noncomputable def Ends.non(D:Ends):Ends:={ D with rt:=λ _ _=>False }
noncomputable def PX(X:Cx)(st:Stmt)(t:TS):Prop:=
  ∀ (pins:List (Addr × Obj)) (s:Shared) (σ:St) (H:Hp) (D:Ends),Inv X pins σ H s->t D σ H->wpAny (model X.prog X.w) X.A (exec st X.env) (SP X pins D.non) (XEP C f X pins D.rt) s
noncomputable def PXs(X:Cx)(st:List Stmt)(t:TS):Prop:=
  ∀ (pins:List (Addr × Obj)) (s:Shared) (σ:St) (H:Hp) (D:Ends),Inv X pins σ H s->t D σ H->wpAny (model X.prog X.w) X.A (execs st X.env) (SP X pins D.non) (XEP C f X pins D.rt) s
noncomputable def PXE(X:Cx)(e:Expr)(t:TE):Prop:=
  ∀ (pins:List (Addr × Obj)) (s:Shared) (σ:St) (H:Hp) (Q:VK),Inv X pins σ H s->t σ H Q->wpAny (model X.prog X.w) X.A (eval e X.env) (λ _ _=>False) (XEP C f X pins Q) s
noncomputable def PXA(X:Cx)(es:List Expr)(t:TE):Prop:=
  ∀ (pos:Pos) (pins:List (Addr × Obj)) (s:Shared) (σ:St) (H:Hp) (Q:VK),Inv X pins σ H s->t σ H Q->wpAny (model X.prog X.w) X.A (spliced (backTo pos (starEach es X.env))) (λ _ _=>False) (XEP C f X pins Q) s
end
section
variable{C fI:Addr}{f:Str}{X:Cx}{st:Stmt}{rest:List Stmt}{t u:TS}{e:Expr}{es:List Expr}{te tb:TE}{pos:Pos}
theorem thx{α:Type}{M:Model}{A:Around}{m:Sem α}{P Q:α->Shared->Prop}{E E':Value->Shared->Prop}{s:Shared}(h:wpAny M A m P E s)(k:∀ v s,P v s->Q v s)(j:∀ e s,E e s->E' e s):wpAny M A m Q E' s:=wpAny_mono h k j
noncomputable def J1(t:TS):TS:=λ D σ H=>t D.non σ H
theorem KL(h:PS X.nox st t):PX C f X st (J1 t):=λ pins s σ H D I q=>thx (h pins s σ H D.non (I.wish _) q) (λ _ _ z=>z.unwish) λ _ _ z=>z.elim
theorem Nr(h:PSs X.nox rest t):PXs C f X rest (J1 t):=λ pins s σ H D I q=>thx (h pins s σ H D.non (I.wish _) q) (λ _ _ z=>z.unwish) λ _ _ z=>z.elim
theorem Nu(h1:PX C f X st t)(h2:PXs C f X rest u):PXs C f X (st :: rest) (J0 t u):=by
  intro pins s σ H D I h
  refine wpAny_execs_cons (thx (h1 pins s σ H { D with nx:=u D } I h) (λ fl s1 q=>?_) λ _ _ z=>z)
  cases fl with
  | next=>
    obtain⟨σ',H',I',q⟩:=q
    exact h2 pins s1 σ' H' D I' q
  | ret v=>exact q
  | brk=>exact q
  | cont=>exact q
theorem Q3(h1:PX C f X st t):PXs C f X [st] t:=by
  intro pins s σ H D I h
  refine wpAny_execs_cons (thx (h1 pins s σ H D I h) (λ fl s1 q=>?_) λ _ _ z=>z)
  cases fl with
  | next=>exact wpAny_execs_nil q
  | ret v=>exact q
  | brk=>exact q
  | cont=>exact q
theorem Tx{c:Expr}{a b:List Stmt}{tc:TT}(hc:PT X.nox c tc)(ha:PXs C f X a t)(hb:PXs C f X b u):PX C f X (.If c a b pos) (J2 tc t u):=by
  intro pins s σ H D I h
  refine wpAny_If (thx (hc pins s σ H _ (I.wish _) h) (λ d s1 ⟨H1,I1,q1⟩=>?_) λ _ _ z=>z.elim)
  cases d with
  | true=>exact ha pins s1 σ H1 D I1.unwish q1
  | false=>exact hb pins s1 σ H1 D I1.unwish q1
theorem Q5(he:PXE C f X e te)(hs:swapsWith e none pos.line X.env=pure false:=by rfl):PX C f X (.Expr e pos) (GP te):=λ pins s σ H D I h=>
  wpAny_Expr_any (thx (he pins s σ H _ I h) (λ _ _ z=>z.elim) λ _ _ z=>z) I.quiet hs
theorem SU{x:Str}{pos':Pos}(he:PXE C f X e te)(hs:swapsWith e (some (.Name x pos')) pos.line X.env=pure false:=by rfl):PX C f X (.Assign [.Name x pos'] e pos) (GP te):=λ pins s σ H D I h=>
  wpAny_Assign_Name (thx (he pins s σ H _ I h) (λ _ _ z=>z.elim) λ _ _ z=>z) hs
theorem Nw(he:PXE C f X e te)(hs:starEach (e :: es) X.env=(false,eval e X.env) :: starEach es X.env:=by rfl):PXA C f X (e :: es) te:=by
  intro pos pins s σ H Q I h
  rw[hs]
  show wpAny _ _ (spliced ((false,eval e X.env) :: backTo pos (starEach es X.env))) _ _ s
  exact Calls.spliced_cons (thx (he pins s σ H _ I h) (λ _ _ z=>z.elim) λ _ _ z=>z)
noncomputable def Ku(ta te:TE):TE:=λ σ H Q=>ta σ H λ _ H1=>te σ H1 Q
theorem MP(ha:PE X.nox e tb)(hr:PXA C f X es te)(hs:starEach (e :: es) X.env=(false,eval e X.env) :: starEach es X.env:=by rfl):PXA C f X (e :: es) (Ku tb te):=by
  intro pos pins s σ H Q I h
  rw[hs]
  show wpAny _ _ (spliced ((false,eval e X.env) :: backTo pos (starEach es X.env))) _ _ s
  refine Calls.spliced_cons (thx (ha pins s σ H _ (I.wish _) h) (λ u s1 ⟨x,H1,I1,r1,q1⟩=>?_) λ _ _ z=>z.elim)
  exact thx (hr pos pins s1 σ H1 Q I1.unwish q1) (λ _ _ z=>z.elim) λ _ _ z=>z
theorem Q4{x1}(h:PXA C f X es te):PXE C f X (.Tuple es x1 pos) te:=λ pins s σ H Q I hq=>
  wpAny_Tuple_spliced (thx (h pos pins s σ H Q I hq) (λ _ _ z=>z.elim) λ _ _ z=>z)
noncomputable def Gn(C:Addr)(f:Str)(te:TE):TS:=λ D σ H=>te σ H λ v H1=>∀ a dx,H1 a=none->H1 dx=none->dx ≠ a->D.rt v (upd (upd H1 dx (.xd [(f,v)])) a (.ext (XO a C dx)))
theorem Nx{x pw:Str}{p p1:Pos}{k:Nat}{fd:FuncData}(c:XC X.K C fI)(F:FnOk X.prog X.w X.K X.mg X.base CX0 k fI fd ["self",pw] (spI C f))(hr:Room (k + 1) X.A)(hb:Binds X.K fd ["self",pw] [])(hcalm:X.calm=true)(hg:Gl X x)(hm:X.mg x=some (.ref C))(he:PE X.nox e te)
    (hdb:(x == ("__debug__":Str))=false:=by decide) (hst:starEach [e] X.env=(false,eval e X.env) :: starEach [] X.env:=by rfl) (hpl:(backTo p1 (starEach [] X.env)).any (·.1)=false:=by rfl) :
    PX C f X (.Raise (some (.Call (.Name x p) [e] [] p1)) none pos) (Gn C f te):=by
  intro pins s σ H D I h
  refine MD (I.ok.hd hcalm) c (wpAny_Call_Name_kw (Et I hg hm ?_ hdb))
  have pa:PA X.nox [e] (Bx te Ca):=An he Br hst
  let W:V->Hp->Prop:=λ v H1=>∀ a dx,H1 a=none->H1 dx=none->dx ≠ a->D.rt v (upd (upd H1 dx (.xd [(f,v)])) a (.ext (XO a C dx)))
  have h':(Bx te Ca) σ H λ vs H1=>match vs with | [v]=>W v H1|_=>False:=h
  refine PySem.W.callWith_K (h₀:=X.base) I.ok.mod.kin c.kp (thx (pa p1 pins s σ H _ (I.wish _) h') (λ us s1 ⟨vs,H1,I1',r,q⟩=>⟨I1'.kIn,?_⟩) λ _ _ z=>z.elim) hst hpl
  have I1:=I1'.unwish
  match vs,r,q with
  | [v],.cons (b:=u) rv .nil,q=>
  obtain⟨nm,qn,N,bs,bm,sn,sub,ab,col,dd,k0,k1,k2,k3,k5,lk,ov⟩:=c.at_
  obtain⟨hh,g,d,tk,os⟩:=s1
  refine OR I1.kIn (I1.kIn _ _ lk) (ov.has (by decide +kernel)) (ov.not (by decide +kernel)) (ov.not (by decide +kernel)) c.init (beq_iff_eq.mp c.fn) (by show 1 <= sizeLine;decide) ?_
  have ke:∀ b o,hh.get? b=some o->((hh.push { cls:=.type "tuple",data:=.seq [u].toArray }).push (FA C hh.objs.size)).get? b=some o:=λ b o e=>Heap.get?_push_of_some _ (Heap.get?_push_of_some _ e)
  have ea:((hh.push { cls:=.type "tuple",data:=.seq [u].toArray }).push (FA C hh.objs.size)).get? (hh.objs.size + 1)=some (FA C hh.objs.size):=Heap.get?_push_at (by rw[Heap.size_push]) rfl
  have na:H1 (hh.objs.size + 1)=none:=I1.hok.fresh (Nat.le_succ _)
  have I2:=I1.laid (a:=hh.objs.size + 1) (o:=.ext (X0 (hh.objs.size + 1) C hh.objs.size)) (t':=tk) ke (Nat.le_succ _) (Mt ea)
  refine wpAny_call (codeAny_mono (F.run _ X.stack _ _ ⟨[.ref (hh.objs.size + 1),u],[]⟩ [.ref (hh.objs.size + 1),u] [.ref (hh.objs.size + 1),v]
    (λ z H2=>z=.non/\∃ dx,H2=upd (upd (upd H1 (hh.objs.size + 1) (.ext (X0 (hh.objs.size + 1) C hh.objs.size))) dx (.xd [(f,v)])) (hh.objs.size + 1) (.ext (X1 (hh.objs.size + 1) C dx hh.objs.size))/\H1 dx=none/\dx ≠ hh.objs.size + 1) (λ _ _ _=>False)
    (hr.make C [u] []) (I2.env0.make C [u] []) (by have:=hb ⟨_,g,d,tk,os⟩ [.ref (hh.objs.size + 1),u] I2.kIn rfl;simpa using this) (.cons rfl (.cons rv .nil)) ?_) λ res s' hq=>?_)
  . refine⟨_,v,hh.objs.size,rfl,AQ,λ dx n1 n2=>⟨rfl,dx,rfl,by rw[AF n2]at n1;exact n1,n2⟩⟩
  . cases res with
    | error x=>exact hq.elim
    | ok fl=>
      cases fl with
      | next=>exact hq.elim
      | brk=>exact hq.elim
      | cont=>exact hq.elim
      | ret rv'=>
        obtain⟨z,H3,I3,rz,ez,dx,eH,nd,ne⟩:=I2.after hq
        subst ez
        have hA:H3 (hh.objs.size + 1)=some (.ext (X1 (hh.objs.size + 1) C dx hh.objs.size)):=by rw[eH];exact AQ
        obtain⟨x1,_⟩:=(show ObjOk X.prog X.w H3 s'.heap (hh.objs.size + 1) (.ext (X1 (hh.objs.size + 1) C dx hh.objs.size))from I3.hok _ _ hA)
        have x1:s'.heap.get? (hh.objs.size + 1)=some ⟨.ref C,some dx,.fields #[.ref hh.objs.size,.none,.none,.none,.bool false,.none],#[]⟩:=x1
        refine⟨rz,hh.objs.size + 1,hh.objs.size,dx,#[],rfl,I3.kIn,x1,hh.objs.size + 1,dx,.none,v,σ,upd H3 (hh.objs.size + 1) (.ext (XO (hh.objs.size + 1) C dx)),rfl,?_,⟨_,_,x1,rfl⟩,.inl rfl,AQ,(λ T e=>by cases e),?_,?_⟩
        . exact I3.write (x:=hh.objs.size + 1) (e:=hh.objs.size + 1) (t':=s'.toks) (by rw[hA];exact True.intro) (.inl rfl) (λ _ _ _ e=>e) ⟨_,x1⟩ ⟨⟨_,_,_,x1,rfl⟩,⟨_,x1⟩,λ h1 h2 ⟨tb,vs,sl,e,z⟩ k=>⟨tb,vs,sl,k _ e,z⟩⟩
        . rw[AF ne,eH,AF ne,AQ]
        . have e2:upd H3 (hh.objs.size + 1) (.ext (XO (hh.objs.size + 1) C dx))=upd (upd H1 dx (.xd [(f,v)])) (hh.objs.size + 1) (.ext (XO (hh.objs.size + 1) C dx)):=by
            rw[eH];funext b;unfold upd;by_cases z1:b=hh.objs.size + 1
            . simp only[if_pos z1]
            . simp only[if_neg z1]
          rw[e2]
          exact q _ dx na nd ne
end
end L2
namespace L2
open PySem PySem.Spec PyProof.Rows
section
variable{X:Cx}{pins:List (Addr × Obj)}{σ:St}{H:Hp}{s:Shared}{C fI a dx:Addr}{f:Str}
theorem Lw{M:Model}{A:Around}{E:Value->Shared->Prop}{i:Nat}{x:Str}{v:V}{Q:Unit->Shared->Prop}(I:Inv X pins σ H s)(hN:X.N.Nodup)(hi:X.N[i]? = some x)(hk:X.env.scope.names.lookup x=some .local)(hv:σ[i]? = some (some v))
    (h:∀ s',Inv X pins (σ.set i none) H s'->Q () s'):wpAny M A (unbindName X.env x) Q E s:=by
  obtain⟨m,hn,hl⟩:=id I.loc
  have hcls:(X.env.scope.kind == .class || (X.env.scope.kind == .module && X.env.locals != X.env.globals))=false:=by rw[I.ok.kind];rfl
  have hiσ:i < σ.length:=by rw[I.len];exact(List.getElem?_eq_some_iff.mp hi).1
  obtain⟨u,_,lk⟩:=hl i x v hi hv (.inl hk)
  have mu:m x=some u:=by
    rcases lk with⟨_,e⟩|⟨k,_⟩
    . exact e
    . rcases k with k|k <;> (have k':X.env.scope.names.lookup x=_:=k;rw[hk]at k';cases k')
  refine wpAny_unbindName_local hk hn mu hcls λ h' u' hn' hs=>?_
  obtain⟨oL,_,_,hoL,_⟩:=id hn
  have low:∀ b o,X.s₀.heap.get? b=some o->b ≠ X.env.locals:=λ b o e=>Nat.ne_of_lt (Nat.lt_of_lt_of_le (Heap.lt_size e) I.ok.above)
  refine h _ ⟨I.ok,I.os,I.bare,⟨λ b o e n hb hx=>(hs.2 b (low b o e)).trans (I.base.keep b o e n hb hx),λ b o e n hb hx=>?_,I.base.free,λ b o e hx=>?_,I.base.tups,I.base.frzs,I.base.tbls⟩,⟨_,hn',λ j y v' e1 e2 e3=>?_⟩,λ y c e=>?_,I.free,I.freeC,λ p hp=>?_,λ b ob e=>?_,by simpa using I.len⟩
  . obtain⟨sl,e1⟩:=I.base.slot b o e n hb hx
    exact⟨sl,(hs.2 b (low b o e)).trans e1⟩
  . obtain⟨o',e1⟩:=I.base.there b o e hx
    exact⟨o',(hs.2 b (low b o e)).trans e1⟩
  . by_cases hj:j=i
    . subst hj
      rw[List.getElem?_set_self hiσ]at e2
      cases e2
    . rw[List.getElem?_set_ne (Ne.symm hj)]at e2
      obtain⟨u',r',q⟩:=hl j y v' e1 e2 e3
      refine⟨u',r',?_⟩
      rcases q with⟨k,e⟩|⟨k,c,e,z⟩
      . refine .inl ⟨k,?_⟩
        have:y ≠ x:=λ e=>hj (GV hN e1 (e ▸ hi))
        simp[this,e]
      . exact .inr ⟨k,c,e,z.sameBut hs (I.cne y c e)⟩
  . obtain⟨w',z⟩:=I.cell y c e
    exact⟨w',z.sameBut hs (I.cne y c e)⟩
  . obtain⟨e,n,ne,nf,d⟩:=I.pin p hp
    exact⟨(hs.2 p.1 ne).trans e,n,ne,nf,d⟩
  . refine(I.hok b ob e).stay (λ c w' hc q=>(hs.2 c ?_).trans q) (λ _ q=>q) λ _ _ q=>q
    rintro rfl
    rcases hc with z|hc
    . rw[<- z,I.free]at e;cases e
    . rw[I.free]at hc;cases hc
theorem O7{tb:Value}{T:Addr}{h':Heap}(I:Inv X pins σ H s)(ha:H a=some (.ext (XO a C dx)))(hT:∀ T,tb=.ref T->H T=none/\New X pins T)(N:Note (frs X.stack) a tb s.heap h')(ex:Exo h' a C dx (.ref T)):Inv X pins σ H { s with heap:=h' }:=by
  have na:∀ b,H b=none->b ≠ a:=λ b n z=>by rw[z,ha]at n;cases n
  have hok:=JW I.hok N ex ha (λ T e=>(hT T e).1) I.stkFree
  have all:∀ ch:List Addr,(∀ b,.ref b=tb->b ∈ ch)->Un (frs X.stack) ch H H s.heap h':=λ ch hc=>
    ⟨λ b o e n nf nc=>N.keep b o e (na b n) (λ z=>nc (hc b z)) nf,λ b o e n hf nc=>N.slot b o e hf,λ _ _ _ n _=>n,λ b o e _=>N.there b o e,λ _ _ e=>e,λ _ _ _ e=>e,λ b ps e=>⟨#[],by rw[e];simp⟩⟩
  by_cases q:∃ T,tb=.ref T
  . obtain⟨T0,e⟩:=q
    exact I.call' (s':={ s with heap:=h' }) (ch:=[T0]) rfl (all [T0] λ b z=>by rw[e]at z;cases z;simp) hok I.bare λ b hb=>by
      have:b=T0:=by simpa using hb
      subst this
      exact(hT b e).2
  . exact I.call' (s':={ s with heap:=h' }) (ch:=[]) rfl (all [] λ b z=>absurd ⟨b,z.symm⟩ q) hok I.bare λ b hb=>absurd hb (by simp)
noncomputable abbrev Cx.hand(X:Cx)(e:Value):Cx:={ X with A:=X.A.mark (some e),calm:=false,xe:=λ _ _=>False }
theorem Inv.hand(I:Inv X pins σ H s)(e:Value):Inv (X.hand e) pins σ H s:=
  ⟨⟨I.ok.mod,I.ok.kind,I.ok.glob,I.ok.blt,I.ok.above,I.ok.inj,I.ok.has,I.ok.cab,(λ h=>by cases h),I.ok.frames,I.ok.stk,I.ok.exf,I.ok.bs,I.ok.bsz,I.ok.noex,I.ok.exfs,I.ok.funs,I.ok.frf⟩,I.os,I.bare,I.base,I.loc,I.cell,I.free,I.freeC,I.pin,I.hok,I.len⟩
theorem Inv.unhand{e:Value}(I:Inv (X.hand e) pins σ H s)(hd:X.calm=true->X.A.handled=none):Inv X pins σ H s:=
  ⟨⟨I.ok.mod,I.ok.kind,I.ok.glob,I.ok.blt,I.ok.above,I.ok.inj,I.ok.has,I.ok.cab,hd,I.ok.frames,I.ok.stk,I.ok.exf,I.ok.bs,I.ok.bsz,I.ok.noex,I.ok.exfs,I.ok.funs,I.ok.frf⟩,I.os,I.bare,I.base,I.loc,I.cell,I.free,I.freeC,I.pin,I.hok,I.len⟩
theorem Jk{P:Program}{w:World}{h:Heap}{v:V}(hok:HOk P w H h)(ha:H a=some (.ext (XO a C dx)))(hd:H dx=some (.xd [(f,v)])):∃ dx vs sl od,PySem.W.InstAt h a ⟨.ref C,some dx,.fields vs,sl⟩ C (some od):=by
  obtain⟨⟨tb,vs,sl,e,_⟩,_⟩:=(show ObjOk P w H h a (.ext (XO a C dx))from hok a _ ha)
  obtain⟨mA,n,r⟩:=(show ObjOk P w H h dx (.xd [(f,v)])from hok dx _ hd)
  obtain⟨od,ho,hl⟩:=IG n
  exact⟨dx,vs,sl,od,e,rfl,rfl,ho⟩
noncomputable def Nl(K:PySem.W.Frag)(C:Addr)(f:Str)(b:Bool)(c:V):List V->Hp->VK->Prop:=λ vs H Q=>∃ a dx v,vs=[.ref a,c]/\H a=some (.ext (XO a C dx))/\H dx=some (.xd [(f,v)])/\Q (.bl b) H
theorem Ju{b:Bool}{c:V}{u:Value}(xc:XC X.K C fI)(xi:XI X.K C)(hu:∀ u',RelV c u'->u'=u)(hk:PySem.W.kitOne X.K (.ref C) u=some b):CallR X (.builtin "isinstance") (Nl X.K C f b c):=by
  intro pins s σ H xs us Q I r h
  obtain⟨a,dx,v,rfl,ha,hd,q⟩:=h
  match us,r with
  | [u1,u2],.cons r1 (.cons r2 .nil)=>
  obtain rfl:u1=.ref a:=r1
  obtain rfl:=hu u2 r2
  exact PySem.W.kia_one (Je xc xi) I.kIn (Jk I.hok ha hd) hk (by intro z;cases z) λ tk=>⟨.bl b,H,I.tok tk,rfl,q⟩
noncomputable def Ug(K:PySem.W.Frag)(C:Addr)(f:Str)(b:Bool)(cs:List Addr):List V->Hp->VK->Prop:=λ vs H Q=>∃ a dx v tp,vs=[.ref a,.ref tp]/\H a=some (.ext (XO a C dx))/\H dx=some (.xd [(f,v)])/\H tp=some (.tup (cs.map V.ref))/\Q (.bl b) H
theorem KD:∀ {cs:List Addr} {us:List Value},Vals (cs.map V.ref) us->us=cs.map Value.ref
  | [],_,.nil=>rfl
  | c :: cs,_,.cons r t=>by rw[KD t];rw[show _=Value.ref c from r];rfl
theorem OQ{b:Bool}{cs:List Addr}(xc:XC X.K C fI)(xi:XI X.K C)(hk:PySem.W.kitAny X.K (.ref C) (cs.map Value.ref)=some b):CallR X (.builtin "isinstance") (Ug X.K C f b cs):=by
  intro pins s σ H xs us Q I r h
  obtain⟨a,dx,v,tp,rfl,ha,hd,ht,q⟩:=h
  match us,r with
  | [u1,u2],.cons r1 (.cons r2 .nil)=>
  obtain rfl:u1=.ref a:=r1
  obtain rfl:u2=.ref tp:=r2
  obtain⟨_,its,r3,ob,e,hc,⟨n,hd'⟩,_⟩:=(show ObjOk X.prog X.w H s.heap tp (.tup (cs.map V.ref))from I.hok tp _ ht)
  obtain rfl:=KD r3
  obtain⟨oc,od,odt,osl⟩:=ob
  subst hc hd'
  exact PySem.W.kia_tup (Je xc xi) I.kIn (Jk I.hok ha hd) e hk (by intro z;cases z) λ tk=>⟨.bl b,H,I.tok tk,rfl,q⟩
noncomputable def Tn(C:Addr)(ta:TE)(f:Str):TE:=λ σ H Q=>ta σ H λ x H1=>∃ a dx v,x=.ref a/\H1 a=some (.ext (XO a C dx))/\H1 dx=some (.xd [(f,v)])/\Q v H1
theorem QQ{e:Expr}{ta:TE}{pos:Pos}(xc:XC X.K C fI)(n:Df X.K C f)(he:PE X e ta)(hb:attributeBase e f X.env (eval e X.env)=eval e X.env):PE X (.Attribute e f pos) (Tn C ta f):=by
  intro pins s σ H Q I h
  refine RQ hb (thn (he pins s σ H _ I h) λ u s1 ⟨x,H1,I1,rx,a,dx,v,ex,ha,hd,q⟩=>?_)
  subst ex
  obtain rfl:u=Value.ref a:=rx
  obtain⟨⟨tb,vs,sl,e1,_⟩,_⟩:=(show ObjOk X.prog X.w H1 s1.heap a (.ext (XO a C dx))from I1.hok a _ ha)
  obtain⟨mA,ns,r⟩:=(show ObjOk X.prog X.w H1 s1.heap dx (.xd [(f,v)])from I1.hok dx _ hd)
  obtain⟨u',hu,ru⟩:=RelO.some_of (v:=v) (o:=mA f) (by have:=r f;rw[List.lookup_cons_self]at this;exact this)
  exact Qr I1.kIn xc e1 ns n hu (Mo ru) ⟨v,H1,I1.tok _,ru,q⟩
end
end L2
namespace L2
open PySem PySem.Spec PyProof.Rows
section
variable{X:Cx}{C fI:Addr}{f:Str}
noncomputable def Ub(C:Addr)(f:Str)(i k:Nat)(th:TS)(D:Ends):VK:=λ v H'=>∀ a dx,H' a=some (.ext (XO a C dx))->H' dx=some (.xd [(f,v)])->th ⟨λ σ2 H2=>D.nx (σ2.set i none) H2,λ _ _=>False,λ _ _=>False,λ _ _=>False⟩ ((List.replicate k none).set i (some (.ref a))) H'
noncomputable def NJ(C:Addr)(f:Str)(i:Nat)(tb tx th:TS):TS:=λ D σ H=>tb D σ H ∨ tx ⟨λ _ _=>False,Ub C f i σ.length th D,λ _ _=>False,λ _ _=>False⟩ σ H
theorem SW{i:Nat}{B:Addr}{xB n:Str}{pB ph pos:Pos}{body suite:List Stmt}{b0:Stmt}{tb tx th:TS}(hst:X.stack=X.env :: X.outer/\X.env.frame=some X.env.locals)(hb:PSs X.nox body tb)(hx:PXs C f X body tx)(hg:Gl X xB)(hm:X.mg xB=some (.ref B))
    (hB:PySem.W.exmOne X.K (.ref C) (.ref B)=some true) (hN:X.N.Nodup) (hi:X.N[i]? = some n) (hl:X.env.scope.names.lookup n=some .local) (hh:∀ a,PSs (X.hand (.ref a)) (b0 :: suite) th) (hdb:(xB == ("__debug__":Str))=false:=by decide) :
    PS X (.Try body [.ExceptHandler (some (.Name xB pB)) (some n) (b0 :: suite) ph] [] [] pos) (NJ C f i tb tx th):=by
  intro pins s σ H D I h
  refine wpAny_Try_except ?_
  rcases h with h|h
  . refine thx (hb pins s σ H D (I.wish _) h) (λ fl s1 q=>?_) λ _ _ z=>z.elim
    have q:=q.unwish
    cases fl with
    | next=>exact wpAny_execs_nil q
    | ret v=>exact q
    | brk=>exact q
    | cont=>exact q
  . refine thx (hx pins s σ H _ I h) (λ fl s1 q=>?_) λ e s1 q=>?_
    . cases fl with
      | next=>obtain⟨_,_,_,z⟩:=q;exact z.elim
      | ret v=>obtain⟨_,_,_,_,_,z⟩:=q;exact z.elim
      | brk=>obtain⟨_,_,_,z⟩:=q;exact z.elim
      | cont=>obtain⟨_,_,_,z⟩:=q;exact z.elim
    . obtain⟨a,dx,tb',v,σ',H',rfl,I1,ex,ht,ha,hT,hd,q⟩:=q
      have fr:X.A.frames=some (X.env :: X.outer):=by rw[<- hst.1];exact I1.ok.frames
      have fl0:s1.heap.FunFrames X.base (X.env :: X.outer):=by rw[<- hst.1];exact I1.stack
      refine JX (base:=X.base) fr fl0 hst.2 ex ht λ h' T z nT ex' tr N=>?_
      have I2:Inv X pins σ' H' { s1 with heap:=h' }:=O7 I1 ha hT (by rw[hst.1];exact N) ex'
      have LT:PySem.W.Looks (model X.prog X.w) h' (typeOf (.ref a)) (.ref C):=by
        obtain⟨vs,sl,e,_⟩:=ex'
        exact(PySem.W.Looks.ld e).andThen .now
      refine wpAny_handleBy_cons (codeAny_handlers_test (Et (X:=X.hand (.ref a)) (I2.hand _) hg hm ?_ hdb)) (by intro q;cases q)
      refine PySem.W.Looks.here (s:={ s1 with heap:=h' }) (PySem.W.exm_one I2.kIn LT hB) ?_
      refine codeAny_handlers_suite_as ?_
      obtain⟨vs,sl,ea,e1⟩:=id ex'
      obtain⟨oT,ts,eT,dT,e3⟩:=tr
      refine wpAny_setFlight_none (s:={ s1 with heap:=h' }) ea rfl e1 eT dT (Array.getElem?_eq_some_iff.mp e3).1 ?_
      have nw:=I1.new z
      have I3:=I2.turned (it:=T) (t':=s1.toks) (h':=h'.update T (Obj.mapFields (·.setIfInBounds 3 Value.none))) (λ b o n e=>(Heap.get?_update_other _ _ (Ne.symm n)).trans e) (I1.hok.fresh z) nw.2.1 nw.1 nw.2.2.1 nw.2.2.2
      have I3':=I3.weak (σ':=List.replicate σ.length none) (by rw[List.length_replicate,I.len,I3.len]) λ i v e=>by
        rw[List.getElem?_replicate]at e;split at e <;> cases e
      refine By (v:=.ref a) I3' hN hi (.inl hl) rfl (λ s4 I4=>?_) (.inr hl)
      refine thx (hh a pins s4 _ H' _ (I4.hand _) (q a dx ha hd)) (λ fl s5 q5=>?_) λ _ _ z=>z.elim
      cases fl with
      | next=>
        obtain⟨σ2,H2,I5,q6⟩:=q5
        have I5:=I5.unhand I.ok.hd
        show wpAny _ _ (do bindName X.env n .none;unbindBehindTheSuite X.env n ph) _ _ _
        refine wpAny_bind (wpAny_bindName (By (v:=.non) I5 hN hi (.inl hl) rfl (λ s6 I6=>?_) (.inr hl)))
        unfold unbindBehindTheSuite
        have li:i < σ2.length:=by rw[I5.len];exact(List.getElem?_eq_some_iff.mp hi).1
        refine wpAny_onRaise (Lw (v:=.non) I6 hN hi hl (List.getElem?_set_self li) λ s7 I7=>?_)
        rw[List.set_set]at I7
        exact⟨_,_,I7,q6⟩
      | ret v=>obtain⟨_,_,_,_,_,z⟩:=q5;exact z.elim
      | brk=>obtain⟨_,_,_,z⟩:=q5;exact z.elim
      | cont=>obtain⟨_,_,_,z⟩:=q5;exact z.elim
end
end L2
namespace L2
open PySem PySem.Spec PyProof.Rows
theorem Ge:bootBuiltins "isinstance"=some (.builtin "isinstance"):=by decide +kernel
theorem RP:bootBuiltins "ValueError"=some (.type "ValueError"):=by decide +kernel
section
variable{X:Cx}{C fI:Addr}{f:Str}
theorem Tz{pos:Pos}(hg:Gl X "ValueError")(hm:X.mg "ValueError"=none):PE X (.Name "ValueError" pos) (tC (.ty "ValueError")):=λ pins s σ H Q I h=>
  Eu I hg hm RP ⟨.ty "ValueError",H,I,rfl,h⟩
noncomputable def Kt(C:Addr)(f:Str)(cs:List Addr)(ie is ifd:Nat):TS:=λ D σ H=>∃ a dx v,σ[ie]? = some (some (.ref a))/\is < σ.length/\ie ≠ is/\H a=some (.ext (XO a C dx))/\H dx=some (.xd [(f,v)]) /\
  ∀ t1 t2,H t1=none->H t2=none->t2 ≠ t1->D.nx ((σ.set is (some (.bl false))).set ifd (some (.ref t2))) (upd (upd H t1 (.tup (cs.map V.ref))) t2 (.tup [.str "no",v]))
theorem Q7{ie is ifd:Nat}{n xs xf xN:Str}{es:List Expr}{cs:List Addr}{tt:TA}{p1 p2 p3 p4 p5 p6 p7 p8 p9 p10 p11 p12 p13 p14 p15 p16 p17 p18 p19 p20 p21 pN pA pI:Pos}{k1 k2 k3}(xc:XC X.K C fI)(xi:XI X.K C)(na:Df X.K C f)(gI:Gl X "isinstance")(hI:X.mg "isinstance"=none)(gV:Gl X "ValueError")(hV:X.mg "ValueError"=none)(gN:Gl X xN)(hmN:X.mg xN=some (.ref C))
    (hes:PA X es tt) (htt:∀ σ H (Q:List V->Hp->Prop),Q (cs.map V.ref) H->tt σ H Q) (hcs:cs.length <= 1000) (hk7:PySem.W.kitAny X.K (.ref C) (cs.map Value.ref)=some false) (hkV:PySem.W.kitOne X.K (.ref C) (.type "ValueError")=some true) (hN:X.N.Nodup)
    (i1:X.N[ie]? = some n) (i2:X.N[is]? = some xs) (i3:X.N[ifd]? = some xf) (l1:X.env.scope.names.lookup n=some .local) (l2:X.env.scope.names.lookup xs=some .local) (l3:X.env.scope.names.lookup xf=some .local) (dn:(n == ("__debug__":Str))=false) (dn2:(n == ("__classdict__":Str))=false) (ds:(xs == ("__debug__":Str))=false) (ds2:(xs == ("__classdict__":Str))=false)
    (dN:(xN == ("__debug__":Str))=false) (hba:attributeBase (.Name n p19) f X.env (eval (.Name n p19) X.env)=eval (.Name n p19) X.env)
    (sw1:swapsWith (.Call (.Name "isinstance" p2) [.Name n p3,.Tuple es k1 p4] [] p5) (some (.Name xs p1)) p6.line X.env=pure false) (sw2:swapsWith (.Tuple [.Constant (.str "no") k2 p18,.Attribute (.Name n p19) f p20] k3 p21) (some (.Name xf p17)) p16.line X.env=pure false)
    (st1:starEach [.Name n p3,.Tuple es k1 p4] X.env=(false,eval (.Name n p3) X.env) :: starEach [.Tuple es k1 p4] X.env) (st2:starEach [.Tuple es k1 p4] X.env=(false,eval (.Tuple es k1 p4) X.env) :: starEach [] X.env) :
    PSs X [.Assign [.Name xs p1] (.Call (.Name "isinstance" p2) [.Name n p3,.Tuple es k1 p4] [] p5) p6,
      .If (.BoolOp .And [.Call (.Name "isinstance" p7) [.Name n p8,.Name xN p9] [] p10,.Call (.Name "isinstance" p11) [.Name n p12,.Name "ValueError" p13] [] p14,.UnaryOp .Not (.Name xs p15) pN] pA) [.Assign [.Name xf p17] (.Tuple [.Constant (.str "no") k2 p18,.Attribute (.Name n p19) f p20] k3 p21) p16] [] pI] (Kt C f cs ie is ifd):=by
  have e1:=JR (pos:=p6) (pos':=p1) (i:=is) hN i2 (.inl l2) (DC (p:=p2) (pos:=p5) (OQ (f:=f) xc xi hk7) gI hI Ge (An (Ek (i:=ie) (pos:=p3) i1 (.inl l1) dn dn2) (An (JT (pos:=p4) (x1:=k1) hes) Br st2) st1) (by decide) (by decide) st1) sw1 (.inr l2)
  have cN:CallR X (.builtin "isinstance") (Nl X.K C f true (.ref C)):=Ju xc xi (u:=.ref C) (λ u' r=>r) (by unfold PySem.W.kitOne;rw[if_pos (by simp)])
  have cV:CallR X (.builtin "isinstance") (Nl X.K C f true (.ty "ValueError")):=Ju xc xi (u:=.type "ValueError") (λ u' r=>r) hkV
  have vn:∀ p,PE X (.Name n p) (Ks ie):=λ p=>Ek i1 (.inl l1) dn dn2
  have c1:=JP (DC (p:=p7) (pos:=p10) cN gI hI Ge (An (vn p8) (An (KN (v:=.ref C) (pos:=p9) gN hmN rfl dN) Br)))
  have c2:=JP (DC (p:=p11) (pos:=p14) cV gI hI Ge (An (vn p12) (An (Tz (pos:=p13) gV hV) Br)))
  have c3:=MQ (pos:=pN) (JP (Ek (i:=is) (pos:=p15) i2 (.inl l2) ds ds2))
  have e2:=Os (pos:=pI) (JO (pos:=pA) c1 (JO c2 (KM c3))).pt (GB (JR (pos:=p16) (pos':=p17) (i:=ifd) hN i3 (.inl l3) (JT (pos:=p21) (x1:=k3) (An (MW (j:=k2) (pos:=p18)) (An (QQ (pos:=p20) xc na (vn p19) hba) Br))) sw2 (.inr l3))) Hi
  intro pins s σ H D I h
  refine JQ e1 (GB e2) pins s σ H D I ?_
  obtain⟨a,dx,v,q1,q2,q3,ha,hd,q⟩:=h
  have s1:∀ x:Option V,(σ.set is x)[ie]? = some (some (.ref a)):=λ x=>by rw[List.getElem?_set_ne (Ne.symm q3)];exact q1
  refine⟨.ref a,q1,?_⟩
  refine htt _ _ _ ⟨by rw[List.length_map];exact Nat.le_trans hcs (by decide),λ t1 n1=>⟨a,dx,v,t1,rfl,?_,?_,AQ,?_⟩⟩
  . rw[AF (AZ ha n1)];exact ha
  . rw[AF (AZ hd n1)];exact hd
  have ha':upd H t1 (.tup (cs.map V.ref)) a=some (.ext (XO a C dx)):=by rw[AF (AZ ha n1)];exact ha
  have hd':upd H t1 (.tup (cs.map V.ref)) dx=some (.xd [(f,v)]):=by rw[AF (AZ hd n1)];exact hd
  refine⟨_,s1 _,a,dx,v,rfl,ha',hd',true,rfl,?_⟩
  refine OF ?_
  refine⟨_,s1 _,a,dx,v,rfl,ha',hd',true,rfl,?_⟩
  refine OF ?_
  refine⟨.bl false,List.getElem?_set_self q2,false,rfl,?_⟩

  refine OF ?_
  refine⟨_,s1 _,a,dx,v,rfl,ha',hd',by show 2 <= sizeLine;decide,λ t2 n2=>?_⟩
  have ne:t2 ≠ t1:=λ z=>by rw[z,AQ]at n2;cases n2
  exact q t1 t2 n1 (by rw[AF ne]at n2;exact n2) ne
end
end L2
namespace L2
open PySem PySem.Spec PyProof.Rows
noncomputable def tX(f:Str)(tc:TE):TE:=λ σ H Q=>tc σ H λ v H'=>∀ dx,H' dx=some (.xd [(f,v)])->Q v H'
noncomputable def ED(m:MS):MS:=λ ls hd=>(m ls hd).bind λ p=>match p.1 with
  | .rt _=>none
  | fl=>some (fl,p.2)
noncomputable def HH(ma me:ME):ME:=λ ls hd=>(ma ls hd).bind λ p=>me ls p.2
noncomputable def mkX(k n:Nat)(m:MS):List D->Hd->Option (D × Hd):=λ ds hd=>if ds.length=k then(match m (ds.map some ++ List.replicate (n - k) none) hd with
  | some (.rt d,hd')=>some (d,hd')
  | _=>none)else none
theorem GD{k n:Nat}{m:MS}:∀ ds hd z,mkX k n m ds hd=some z->ds.length=k:=λ ds hd z h=>by
  unfold mkX at h
  split at h
  . next e=>exact e
  . cases h
noncomputable def Fj(ie is ifd:Nat)(mb mx:MS):MS:=λ ls hd=>match mb ls hd with
  | some r=>some r
  | none=>if ie < ls.length/\is < ls.length/\ifd < ls.length then(match mx ls hd with
    | some (.rt (.im w),hd')=>some (.nx ((List.replicate ls.length none).set ifd (some (.im (.tup [.str "no",w])))),hd')
    | _=>none)else none
section
variable{K:PySem.W.Frag}{C:Addr}{f:Str}{ρ ρ':List Addr}{H H':Hp}{hd hd':Hd}
theorem Ue{tc:TE}{m:ME}(h:RE K tc m):RE K (tX f tc) m:=λ ρ σ H hd ls Q d hd' hR hL hm hQ=>h ρ σ H hd ls _ d hd' hR hL hm λ ρ' H' v x R r dx _=>hQ ρ' H' v x R r
theorem Pq{ta te:TE}{ma me:ME}(ha:RE K ta ma)(he:RE K te me):RE K (Ku ta te) (HH ma me):=by
  intro ρ σ H hd ls Q d hd' hR hL hm hQ
  obtain⟨⟨d1,h1⟩,e1,hm⟩:=Option.bind_eq_some_iff.mp hm
  refine ha ρ σ H hd ls _ d1 h1 hR hL e1 λ ρ1 H1 v1 x1 R1 _=>?_
  exact he ρ1 σ H1 h1 ls Q d hd' R1 (RL.ext hR x1 hL) hm λ ρ2 H2 v2 x2 R2 r2=>hQ ρ2 H2 v2 (x1.trans R1 x2) R2 r2
theorem J9{t:TS}{m:MS}(h:RS K t m):RS K (J1 t) (ED m):=by
  intro ρ σ H hd ls E fl hd' hR hL hm hQ
  obtain⟨⟨fl1,h1⟩,e1,hm⟩:=Option.bind_eq_some_iff.mp hm
  refine h ρ σ H hd ls E.non fl1 h1 hR hL e1 λ ρ' H' x R=>?_
  cases fl1 with
  | rt d=>cases hm
  | nx l=>cases hm;exact hQ ρ' H' x R
  | bk l=>cases hm;exact hQ ρ' H' x R
  | ct l=>cases hm;exact hQ ρ' H' x R
theorem NW{te:TE}{me:ME}(h:RE K te me):RS K (Gn C f te) (Ab me):=by
  intro ρ σ H hd ls E fl hd' hR hL hm hQ
  obtain⟨⟨d1,h1⟩,e1,hm⟩:=Option.bind_eq_some_iff.mp hm
  cases hm
  refine h ρ σ H hd ls _ d1 h1 hR hL e1 λ ρ1 H1 v x1 R1 r1 a dx na nd ne=>?_
  obtain⟨R2,x2⟩:=R1.hid nd (ho:=.xd [(f,v)])
  obtain⟨R3,x3⟩:=R2.hid (a:=a) (by rw[AF (Ne.symm ne)];exact na) (ho:=.ext (XO a C dx))
  exact hQ ρ1 _ ((x1.trans R1 x2).trans R2 x3) R3 v ((r1.ext R1 x2).ext R2 x3)
theorem Rq{ie is ifd:Nat}{cs:List Addr}{tb tx:TS}{mb mx:MS}(hb:RS K tb mb)(hx:RS K tx mx)(n1:ie ≠ is)(n2:ie ≠ ifd)(n3:is ≠ ifd):RS K (NJ C f ie tb tx (Kt C f cs ie is ifd)) (Fj ie is ifd mb mx):=by
  intro ρ σ H hd ls E fl hd' hR hL hm hQ
  unfold Fj at hm
  split at hm
  . next r e=>
    cases hm
    exact .inl (hb ρ σ H hd ls E fl hd' hR hL e hQ)
  . split at hm
    . next c=>
      split at hm
      . next w h1 e=>
        cases hm
        refine .inr (hx ρ σ H hd ls _ (.rt (.im w)) hd' hR hL e λ ρ1 H1 x1 R1 v r1 a dx ha hd1=>?_)
        have ll:=hL.len
        refine⟨a,dx,v,List.getElem?_set_self (by rw[List.length_replicate,<- ll];exact c.1),by rw[List.length_set,List.length_replicate,<- ll];exact c.2.1,n1,ha,hd1,λ t1 t2 m1 m2 ne=>?_⟩
        obtain⟨R2,x2⟩:=R1.hid m1 (ho:=.tup (cs.map V.ref))
        have m2':upd H1 t1 (.tup (cs.map V.ref)) t2=none:=by rw[AF ne];exact m2
        obtain⟨R3,x3⟩:=R2.hid m2' (ho:=.tup [.str "no",v])
        refine hQ ρ1 _ ((x1.trans R1 x2).trans R2 x3) R3 _ ⟨by simp[ll],λ i d e=>?_⟩
        have li:i < ls.length:=by have:=(List.getElem?_eq_some_iff.mp e).1;simpa using this
        by_cases z:i=ifd
        . subst z
          rw[List.getElem?_set_self (by simpa using li)]at e
          cases e
          refine⟨.ref t2,?_,?_⟩
          . rw[List.getElem?_set_ne n2,List.getElem?_set_self (by simp[<- ll];exact li)]
          . have r2:=(r1.ext R1 x2).ext R2 x3
            simp only[RD,RI]at r2 ⊢
            refine⟨t2,[.str "no",v],rfl,.of AQ,?_⟩
            simp only[RIs]
            exact⟨_,_,rfl,by simp only[RI],_,_,rfl,r2,rfl⟩
        . rw[List.getElem?_set_ne (Ne.symm z),List.getElem?_replicate,if_pos li]at e
          cases e
      . cases hm
    . cases hm
theorem spF.mono{k:Nat}{F:List D->Hd->Option (D × Hd)}{vs:List V}{Q Q':VK}{E E':XK}(h:spF K k F vs H Q E)(k':∀ v H',Q v H'->Q' v H'):spF K k F vs H Q' E':=
  let ⟨a,ρ,hd,ds,d,hd',b,c,e,q⟩:=h;⟨a,ρ,hd,ds,d,hd',b,c,e,λ ρ' H' v x R r=>k' _ _ (q ρ' H' v x R r)⟩
end
noncomputable def spX(C:Addr)(f:Str)(K:PySem.W.Frag)(k:Nat)(F:List D->Hd->Option (D × Hd)):Sp:=λ vs H _ E=>spF K k F vs H (λ v H'=>∀ dx,H' dx=some (.xd [(f,v)])->E (.ref C) (some dx) H') E0
section
variable(C:Addr)(f:Str)(K:PySem.W.Frag)(X:Cx)
structure QX(e:Stmt)(t:TS)(m:MS):Prop where
  p:PX C f X e t
  r:RS K t m
structure QXs(e:List Stmt)(t:TS)(m:MS):Prop where
  p:PXs C f X e t
  r:RS K t m
structure QXE(e:Expr)(t:TE)(m:ME):Prop where
  p:PXE C f X e t
  r:RE K t m
structure QXA(e:List Expr)(t:TE)(m:ME):Prop where
  p:PXA C f X e t
  r:RE K t m
end
section
variable{C fI:Addr}{f:Str}{K:PySem.W.Frag}{X:Cx}{st:Stmt}{rest:List Stmt}{t u:TS}{m m1 m2:MS}{e:Expr}{es:List Expr}{te tb:TE}{me mb:ME}{pos:Pos}
theorem Pw(h:QS K X.nox st t m):QX C f K X st (J1 t) (ED m):=⟨KL h.p,J9 h.r⟩
theorem E5(h1:QX C f K X st t m1)(h2:QXs C f K X rest u m2):QXs C f K X (st :: rest) (J0 t u) (AG m1 m2):=⟨Nu h1.p h2.p,M5 h1.r h2.r⟩
theorem G8(h1:QX C f K X st t m1):QXs C f K X [st] t m1:=⟨Q3 h1.p,h1.r⟩
theorem KJ:QXs C f K X [] (J1 Ia) (ED BQ):=⟨Nr Hi,J9 KA⟩
theorem Oq{c:Expr}{a b:List Stmt}{tc:TT}{mc:MT}(hc:QT K X.nox c tc mc)(ha:QXs C f K X a t m1)(hb:QXs C f K X b u m2):QX C f K X (.If c a b pos) (J2 tc t u) (BR mc m1 m2):=⟨Tx hc.p ha.p hb.p,Og hc.r ha.r hb.r⟩
theorem KK(he:QXE C f K X e te me)(hs:swapsWith e none pos.line X.env=pure false:=by rfl):QX C f K X (.Expr e pos) (GP te) (Ab me):=⟨Q5 he.p hs,J8 he.r⟩
theorem MH{x:Str}{pos':Pos}(he:QXE C f K X e te me)(hs:swapsWith e (some (.Name x pos')) pos.line X.env=pure false:=by rfl):QX C f K X (.Assign [.Name x pos'] e pos) (GP te) (Ab me):=⟨SU he.p hs,J8 he.r⟩
theorem Nn(he:QXE C f K X e te me)(hs:starEach (e :: es) X.env=(false,eval e X.env) :: starEach es X.env:=by rfl):QXA C f K X (e :: es) te me:=⟨Nw he.p hs,he.r⟩
theorem MF(ha:QE K X.nox e tb mb)(hr:QXA C f K X es te me)(hs:starEach (e :: es) X.env=(false,eval e X.env) :: starEach es X.env:=by rfl):QXA C f K X (e :: es) (Ku tb te) (HH mb me):=⟨MP ha.p hr.p hs,Pq ha.r hr.r⟩
theorem Pv{x1}(h:QXA C f K X es te me):QXE C f K X (.Tuple es x1 pos) te me:=⟨Q4 h.p,h.r⟩
theorem Nv{j k n:Nat}{fa:Addr}{fd:FuncData}{ps:List Str}{F:List D->Hd->Option (D × Hd)}{st:Stmt}{x:Str}{p:Pos}{ta:TA}(G:FnOk X.prog X.w X.K X.mg X.base (CXN C X.prog X.w) j fa fd ps (spX C f K n F))(hr:Room k X.A)(DA:DefAt X.K X.mg x st fa fd ps)(ha:PA X.nox (e :: es) ta)
    (hjk:j <= k:=by decide) (hg:Gl X x:=by rfl) (hdb:(x == ("__debug__":Str))=false:=by decide) (he:starEach (e :: es) X.env=(false,eval e X.env) :: starEach es X.env:=by rfl) (hpl:(backTo pos (starEach es X.env)).any (·.1)=false:=by rfl) :
    PXE C f X (.Call (.Name x p) (e :: es) [] pos) (tX f (EK (spF K n F) [] E0 ta)):=by
  intro pins s σ H Q I h
  refine wpAny_Call_Name_kw (Et I hg DA.mg ?_ hdb)
  refine PySem.W.callWith_K (h₀:=X.base) I.ok.mod.kin DA.fn.kp (thx (ha pos pins s σ H _ (I.wish _) h) (λ us s1 ⟨vs,H1,I1',r,q⟩=>⟨I1'.kIn,?_⟩) λ _ _ z=>z.elim) he hpl
  have I1:=I1'.unwish
  dsimp only at q
  rw[List.append_nil]at q
  have q2:spX C f K n F vs H1 (λ _ _=>False) (λ c dx H'=>∃ d v,dx=some d/\H' d=some (.xd [(f,v)])/\Q v H'):=q.mono λ v H' z dx hd=>⟨dx,v,rfl,hd,z dx hd⟩
  have hl:us.length=ps.length:=by rw[<- r.length];exact G.len _ _ _ _ q2
  refine wpAny_call (codeAny_mono (G.run X.A X.stack s1 H1 ⟨us,[]⟩ us vs _ _ (hr.mono hjk) I1.env0 (by have:=DA.bd s1 us I1.kIn (by simpa using hl);simpa using this) r q2) λ res s' hq=>?_)
  cases res with
  | error x=>
    have hq:CXN C X.prog X.w X.stack H1 s1 (λ c dx H'=>∃ d v,dx=some d/\H' d=some (.xd [(f,v)])/\Q v H') x s':=hq
    refine Lj I1 hq λ dx H' ⟨d,v,e1,e2,e3⟩=>?_
    cases e1
    exact⟨v,e2,e3⟩
  | ok fl=>
    cases fl with
    | ret u=>obtain⟨_,_,_,_,_,_,_,z⟩:=hq;exact z.elim
    | next=>exact hq.elim
    | brk=>exact hq.elim
    | cont=>exact hq.elim
theorem EM(w:Nat){j k n:Nat}{fa:Addr}{fd:FuncData}{ps:List Str}{F:List D->Hd->Option (D × Hd)}{st:Stmt}{x:Str}{p:Pos}{ta:TA}{ma:MA}(G:FnOk X.prog X.w X.K X.mg X.base (CXN C X.prog X.w) j fa fd ps (spX C f K n F))(hr:Room k X.A)(DA:DefAt X.K X.mg x st fa fd ps)(ha:QA K X.nox (e :: es) ta ma)(hF:∀ ds hd z,F ds hd=some z->ds.length=n)
    (hjk:j <= k:=by decide) (hg:Gl X x:=by rfl) (hdb:(x == ("__debug__":Str))=false:=by decide) (he:starEach (e :: es) X.env=(false,eval e X.env) :: starEach es X.env:=by rfl) (hpl:(backTo pos (starEach es X.env)).any (·.1)=false:=by rfl) :
    QXE C f K X (.Call (.Name x p) (e :: es) [] pos) (tX f (EK (spF K n F) [] E0 ta)) (AC w F ma):=⟨Nv G hr DA ha.p hjk hg hdb he hpl,Ue (JD ha.r hF)⟩
theorem okX{P:Program}{w:World}{mg:Str->Option Value}{base:Heap}{x:Str}{fa:Addr}{fd:FuncData}{N ps:List Str}{j:Nat}(DA:DefAt K mg x st fa fd ps)(S:FnScope N ps (A9 st))
    (h:∀ (cdv:Value) (A:Around) (outer:List Env) (s:Shared) (H:Hp) (E:XK),Room j (A.deeper (envOfC x (A9 st) s.heap.objs.size fa cdv))->∃ t,QXs C f K (EF (CXN C P w) P w K mg base N x (A9 st) fa cdv A outer s H E) (AT st) t m) :
    FnOk P w K mg base (CXN C P w) (j + 1) fa fd ps (spX C f K ps.length (mkX ps.length N.length m)):=by
  obtain⟨F,hmg,bd⟩:=DA
  obtain⟨⟨oc,od,kV,doc,pm,an,cdv,ct,osl,rfl,lk,hcd⟩,kp⟩:=F
  refine P0 lk hcd S (λ vs H Q E h=>h.1) λ A outer s H vs Q E hr hs=>?_
  obtain⟨t,q⟩:=h cdv A outer s H E hr
  refine⟨λ _ σ H'=>t ⟨λ _ _=>False,λ v H'=>∀ dx,H' dx=some (.xd [(f,v)])->E (.ref C) (some dx) H',λ _ _=>False,λ _ _=>False⟩ σ H',λ pins s1 σ1 H1 D I h1=>?_,?_⟩
  . refine thx (q.p pins s1 σ1 H1 _ I h1) (λ fl s2 z=>?_) λ e s2 z=>?_
    . cases fl with
      | next=>obtain⟨_,_,_,z⟩:=z;exact z.elim
      | ret v=>obtain⟨_,_,_,_,_,z⟩:=z;exact z.elim
      | brk=>obtain⟨_,_,_,z⟩:=z;exact z.elim
      | cont=>obtain⟨_,_,_,z⟩:=z;exact z.elim
    . obtain⟨a,dx,tb,v,σ',H',e0,I',r⟩:=z
      exact ND (pins:=pins) ⟨a,dx,tb,v,σ',H',e0,I'.wish _,r⟩ λ v dx H' z hd=>z dx hd
  . obtain⟨hk,ρ,hd,ds,d,hd',hR,hr',hF,hQ⟩:=hs
    unfold mkX at hF
    split at hF
    . next hl=>
      split at hF
      . next d1 h2 e1=>
        cases hF
        rw[<- hl]at e1
        exact q.r ρ _ H hd _ _ (.rt d) hd' hR (GS hr') e1 λ ρ' H' x R v r=>hQ ρ' H' v x R r
      . cases hF
    . cases hF
theorem No{x pw:Str}{p p1:Pos}{k j:Nat}{fd:FuncData}(c:XC X.K C fI)(F:FnOk X.prog X.w X.K X.mg X.base CX0 k fI fd ["self",pw] (spI C f))(hr:Room j X.A)(hb:Binds X.K fd ["self",pw] [])(hm:X.mg x=some (.ref C))(he:QE K X.nox e te me)(hjk:k + 1 <= j:=by decide)(hcalm:X.calm=true:=by rfl)(hg:Gl X x:=by rfl)
    (hdb:(x == ("__debug__":Str))=false:=by decide) (hst:starEach [e] X.env=(false,eval e X.env) :: starEach [] X.env:=by rfl) (hpl:(backTo p1 (starEach [] X.env)).any (·.1)=false:=by rfl) :
    QX C f K X (.Raise (some (.Call (.Name x p) [e] [] p1)) none pos) (Gn C f te) (Ab me):=⟨Nx c F (hr.mono hjk) hb hcalm hg hm he.p hdb hst hpl,NW he.r⟩
end
end L2
namespace L2
open PySem PySem.Spec PyProof.Rows PySem.W
noncomputable abbrev Tb:=Addr × Str × Nat × Nat
noncomputable def Qk(ts:List Tb):Obj:={ cls:=.str "tables" 0,data:=.fields (ts.flatMap λ t=>[.ref t.1,.str t.2.1 0,.int t.2.2.1 0,.int t.2.2.2 0]).toArray }
noncomputable def Aa(K:PySem.W.Frag)(ts:List Tb):PySem.W.Frag:=(K.filter λ p=>!(ts.map (·.1)).contains p.1) ++ [(mainGlobals,Qk ts)]
theorem M1:∀ ts:List Tb,IZ (ts.flatMap λ t=>[Value.ref t.1,.str t.2.1 0,.int t.2.2.1 0,.int t.2.2.2 0])=ts.map λ t=>(t.1,t.2.1,⟨t.2.2.1,t.2.2.2,0,0⟩)
  | []=>rfl
  | t :: r=>by
    rw[List.flatMap_cons,List.map_cons,<- M1 r]
    rfl
theorem IA(K:PySem.W.Frag)(ts:List Tb):Fc (Aa K ts)=ts.map λ t=>(t.1,t.2.1,⟨t.2.2.1,t.2.2.2,0,0⟩):=by
  unfold Fc Aa
  rw[List.getLast?_concat]
  show IZ _=_
  rw[<- M1 ts]
theorem EV{L:List Addr}{a:Addr}(ha:a ∉ L):∀ K:PySem.W.Frag,(K.filter λ p=>!L.contains p.1).lookup a=K.lookup a
  | []=>rfl
  | (b,o) :: r=>by
    have ih:=EV ha r
    rw[List.filter_cons]
    by_cases hb:b ∈ L
    . have h1:(!L.contains (b,o).1)=false:=by simp[hb]
      have h2:(a == b)=false:=beq_eq_false_iff_ne.mpr λ z=>ha (z ▸ hb)
      rw[if_neg (by rw[h1];decide),List.lookup_cons,h2,ih]
    . have h1:(!L.contains (b,o).1)=true:=by simp[hb]
      rw[if_pos h1,List.lookup_cons,List.lookup_cons,ih]
theorem Ft{L:List Addr}{P:Addr}(hP:P ∈ L):∀ K:PySem.W.Frag,(K.filter λ p=>!L.contains p.1).lookup P=none
  | []=>rfl
  | (b,o) :: r=>by
    have ih:=Ft hP r
    rw[List.filter_cons]
    by_cases hb:b ∈ L
    . rw[if_neg (by simp[hb])];exact ih
    . have h2:(P == b)=false:=beq_eq_false_iff_ne.mpr λ z=>hb (z ▸ hP)
      rw[if_pos (by simp[hb]),List.lookup_cons,h2];exact ih
section
variable{K:PySem.W.Frag}{ts:List Tb}
theorem EQ{a:Addr}{o:Obj}(ha:a ∉ ts.map (·.1))(e:K.lookup a=some o):(Aa K ts).lookup a=some o:=by
  unfold Aa
  rw[List.lookup_append,EV ha,e];rfl
theorem Qj{h:Heap}(X:K.In h){g:Obj}(hg:K.lookup mainGlobals=some g)(hP:mainGlobals ∉ ts.map (·.1)):(Aa K ts).In h:=λ a o e=>by
  unfold Aa at e
  rw[List.lookup_append]at e
  by_cases ha:a ∈ ts.map (·.1)
  . rw[Ft ha,Option.none_or]at e
    have h2:(a == mainGlobals)=false:=beq_eq_false_iff_ne.mpr λ z=>hP (z ▸ ha)
    rw[List.lookup_cons,h2]at e;cases e
  . rw[EV ha]at e
    cases k:K.lookup a with
    | some o'=>rw[k]at e;cases e;exact X _ _ k
    | none=>
      rw[k,Option.none_or,List.lookup_cons]at e
      by_cases hm:a=mainGlobals
      . subst hm;rw[hg]at k;cases k
      . rw[beq_eq_false_iff_ne.mpr hm]at e;cases e
theorem Qh(hM:mainGlobals ∉ ts.map (·.1)){P:Addr}(hP:P ∈ ts.map (·.1)):(Aa K ts).lookup P=none:=by
  unfold Aa
  have h2:(P == mainGlobals)=false:=beq_eq_false_iff_ne.mpr λ z=>hM (z ▸ hP)
  rw[List.lookup_append,Ft hP,Option.none_or,List.lookup_cons,h2]
  rfl
theorem Fun.mark{x qual:Str}{st:Stmt}{f:Addr}{fd:FuncData}(D:Fun K x qual st f fd){h:Heap}(X:K.In h)(hP:∀ P ∈ ts.map (·.1),h.get? P=some (tabObj #[])):Fun (Aa K ts) x qual st f fd:=by
  have neP:∀ a o,K.lookup a=some o->o ≠ tabObj #[]->a ∉ ts.map (·.1):=λ a o e n z=>by
    have:=X _ _ e
    rw[hP a z]at this;exact n (Option.some.inj this).symm
  obtain⟨⟨oc,od,kV,doc,pm,an,cdv,ct,osl,rfl,lk,hcd⟩,kp⟩:=D
  have hf:f ∉ ts.map (·.1):=neP f _ lk (λ z=>by cases z)
  refine⟨⟨oc,od,kV,doc,pm,an,cdv,ct,osl,rfl,EQ hf lk,?_⟩,?_⟩
  . unfold codeIn at hcd ⊢
    split at hcd
    . next c0=>
      split at hcd
      . next vs sl k=>
        have hc:c0 ∉ ts.map (·.1):=neP c0 _ k (λ z=>by
          have:vs=#[]:=by injection z with _ _ z _;injection z
          rw[this]at hcd;cases hcd)
        simp only[EQ hc k]
        exact hcd
      . cases hcd
    . cases hcd
  . unfold keepIn
    simp only[EQ hf lk]
end
theorem Tq{K:PySem.W.Frag}{H:Hp}{a:Addr}{xs:List V}(hS:SqL K H a xs)(hO:∀ ys,H a ≠ some (.lst ys)):RoL K H a xs:=by
  rcases hS with(h|h)|h
  . exact absurd h (hO xs)
  . exact .inl h
  . exact .inr h
theorem Ml{Pg:Program}{w:World}{K:PySem.W.Frag}{mg mb:Str->Option Value}{k:Nat}{fa a:Addr}{fd:FuncData}{x:Str}{ts:List Tb}{s₁:Shared}{vs:List Value}{ns:List Int}{F:List D->Hd->Option (D × Hd)}
    (KX:K.In s₁.heap) (hns:s₁.heap.Ns mainGlobals mg) (hb:s₁.heap.Ns builtinsNs mb) (hbb:∀ x:Str,x ≠ "__name__"->mb x=bootBuiltins x) (hlim:s₁.heap.NoLimit) (hg:s₁.gens=#[])
    (ha:s₁.heap.get? a=some { cls:=.type "list",data:=.seq vs.toArray }) (hi:IntsAre vs ns) (hl:ns.length <= sizeLine) (hr:Room k callerA)
    (hT:∀ P ∈ ts.map (·.1),∃ cc,s₁.heap.TableAt cc P #[]) (hPK:∀ P ∈ ts.map (·.1),K.lookup P=none) (htab:Fc K=ts.map λ t=>(t.1,t.2.1,⟨t.2.2.1,t.2.2.2,0,0⟩))
    (Fn:∀ base:Heap,K.In base->base.Ns mainGlobals mg->(∀ b o,b ∉ ts.map (·.1)->b ≠ a->s₁.heap.get? b=some o->base.get? b=some o)->FnOk Pg w K mg base CX0 k fa fd [x] (spF K 1 F)) (hbind:∀ (s:Shared) (u:Value),BindsTo s fd ⟨[u],[]⟩ [(x,u)])
    (hF:∃ hd',F [.ro ns] []=some (.im (.bl true),hd')) :
    codeAny (model Pg w) callerA (.call (.ref fa) ⟨[.ref a],[]⟩) (λ r s'=>r=.ok (.ret (.bool true))/\OldK s₁.heap s'.heap/\s'.os=s₁.os/\AllBare s'.gens) s₁:=by
  have rv:=I0 hi
  have lenV:=hi.length
  have hP:∀ P ∈ ts.map (·.1),s₁.heap.get? P=some (tabObj #[]):=λ P h=>let ⟨cc,t⟩:=hT P h;t.2
  have haP:a ∉ ts.map (·.1):=λ z=>by rw[hP a z]at ha;cases ha
  have core:∀ H:Hp,(∀ b,b ∉ ts.map (·.1)->H b=none ∨ ∃ o xs,H b=some (.frz o (.lst xs)))->(∀ P ∈ ts.map (·.1),H P=some (.tbl #[]))->SqL K H a (ns.map V.int)->HOk Pg w H s₁.heap->(∀ b,H b ≠ none->b=a ∨ b ∈ ts.map (·.1))->(H a ≠ none->K.lookup a=none) ->
      codeAny (model Pg w) callerA (.call (.ref fa) ⟨[.ref a],[]⟩) (λ r s'=>r=.ok (.ret (.bool true))/\OldK s₁.heap s'.heap/\s'.os=s₁.os/\AllBare s'.gens) s₁:=by
    intro H hO hHP hS hok hA hK
    have base_of:∀ {b:Addr} {o:Obj},s₁.heap.get? b=some o->H b=none->(FK s₁.heap H).get? b=some o:=λ e n=>OI e n
    have noA:∀ {b:Addr} {o:Obj} {es:Array DictEntry} {ep:Nat},s₁.heap.get? b=some o->o.data=.dict es ep->H b=none:=λ {b o es ep} e d=>by
      cases q:H b with
      | none=>rfl
      | some u=>
        rcases hA b (by rw[q];simp)with e'|e'
        . subst e'
          rw[ha]at e;cases e
          have d':Data.seq vs.toArray _=Data.dict es ep:=d
          cases d'
        . rw[hP b e']at e;cases e
          cases d
    have nsK:∀ {b:Addr} {m:Str->Option Value},s₁.heap.Ns b m->(FK s₁.heap H).Ns b m:=λ {b m} ⟨o,es,ep,e,d,r⟩=>⟨o,es,ep,base_of e (noA e d),d,r⟩
    have hKb:K.In (FK s₁.heap H):=λ b o e=>base_of (KX b o e) (by
      cases q:H b with
      | none=>rfl
      | some u=>
        rcases hA b (by rw[q];simp)with e'|e'
        . subst e'
          rw[hK (by rw[q];simp)]at e;cases e
        . rw[hPK b e']at e;cases e)
    have hM:Mod K mg (FK s₁.heap H):=⟨hKb,nsK hns,⟨mb,nsK hb,hbb⟩,let ⟨mc,h1,h2⟩:=hlim;⟨mc,nsK h1,h2⟩⟩
    have e0:Env0 Pg w K mg (FK s₁.heap H) callerA [] s₁ H:=⟨rfl,hM,λ b o e=>Qf e,Nat.le_of_eq (Mn _ _),trivial,λ b hb=>absurd (show b ∈ ([]:List Addr)from hb) (by simp),hok,.of_eq hg⟩
    have hsp:spF K 1 F [.ref a] H (λ v _=>v=.bl true) λ _ _ _=>False:=by
      obtain⟨hd',e⟩:=hF
      refine⟨rfl,[],[],[.ro ns],.im (.bl true),hd',⟨rfl,List.nodup_nil,λ y hy=>?_,λ n o a h=>by simp at h⟩,?_,e,λ ρ' H' v _ _ r=>?_⟩
      . rw[htab]at hy
        obtain⟨t,ht,rfl⟩:=List.mem_map.mp hy
        exact⟨#[],hHP t.1 (List.mem_map.mpr ⟨t,ht,rfl⟩),.inl rfl⟩
      . simp only[RDs,RD]
        refine⟨_,_,rfl,⟨a,rfl,Tq hS λ ys z=>?_⟩,rfl⟩
        rcases hO a haP with q|⟨o,ys,q⟩ <;> (rw[q]at z;cases z)
      . simpa only[RD,RI]using r
    refine codeAny_mono ((Fn _ hKb (nsK hns) λ b o n1 n2 e=>base_of e (by
      cases q:H b with
      | none=>rfl
      | some u=>
                  rcases hA b (by rw[q];simp)with e'|e'
                  . exact absurd e' n2
                  . exact absurd e' n1)).run callerA [] s₁ H ⟨[.ref a],[]⟩ [.ref a] [.ref a] _ _ hr e0 (hbind s₁ (.ref a)) (.cons rfl .nil) hsp) λ r s' h=>?_
    cases r with
    | error e=>exact h.elim
    | ok fl=>
      cases fl with
      | next=>exact False.elim h
      | brk=>exact False.elim h
      | cont=>exact False.elim h
      | ret u=>
        obtain⟨v,H',os,bare,un,hok',r',q⟩:=h
        have q':v=.bl true:=q
        subst q'
        obtain rfl:u=Value.bool true:=r'
        have keep:∀ b o,b ∉ ts.map (·.1)->s₁.heap.get? b=some o->s'.heap.get? b=some o:=λ b o nb e=>by
          cases q:H b with
          | none=>exact un.keep b o e q (by intro z;exact absurd (show b ∈ ([]:List Addr)from z) (by simp)) (by simp)
          | some u=>
            rcases hO b nb with z|⟨ob,xs,z⟩
            . rw[q]at z;cases z
            . have z2:=un.frzs b ob _ z
              obtain⟨e1,_⟩:=hok b _ z
              obtain⟨e2,_⟩:=hok' b _ z2
              rw[e]at e1;cases e1
              exact e2
        refine⟨rfl,⟨λ b o e=>?_,λ b o e=>?_⟩,os,bare⟩
        . by_cases nb:b ∈ ts.map (·.1)
          . obtain⟨cc,tb⟩:=hT b nb
            obtain⟨more,hm⟩:=un.tbls b #[] (hHP b nb)
            have hb':s'.heap.get? b=some (tabObj (#[] ++ more)):=hok' b _ hm
            rw[hP b nb]at e;cases e
            exact .inr (.inl ⟨tb.isCodeTable,rfl,#[],more,rfl,hb'⟩)
          . exact .inl (keep b o nb e)
        . by_cases nb:b ∈ ts.map (·.1)
          . obtain⟨more,hm⟩:=un.tbls b #[] (hHP b nb)
            exact⟨_,hok' b _ hm⟩
          . exact⟨o,keep b o nb e⟩
  cases hk:K.lookup a with
  | some o=>
    have e:=KX a o hk
    rw[ha]at e
    cases e
    refine core (λ b=>if b ∈ ts.map (·.1)then some (.tbl #[])else none) (λ b nb=>.inl (if_neg nb)) (λ P hp=>if_pos hp) (.inr ⟨_,vs.toArray,_,hk,rfl,rfl,rfl,by rw[List.size_toArray,lenV];exact hl,by simpa using rv⟩) (λ b u z=>?_) (λ b z=>?_) λ z=>absurd (if_neg haP) z
    . by_cases hb:b ∈ ts.map (·.1)
      . have z':=(if_pos hb).symm.trans z
        cases z'
        exact hP b hb
      . have z':=(if_neg hb).symm.trans z
        cases z'
    . by_cases hb:b ∈ ts.map (·.1)
      . exact .inr hb
      . exact absurd (if_neg hb) z
  | none=>
    refine core (λ b=>if b ∈ ts.map (·.1)then some (.tbl #[])else if b=a then some (.frz { cls:=.type "list",data:=.seq vs.toArray } (.lst (ns.map V.int)))else none) (λ b nb=>?_) (λ P hp=>if_pos hp) (.inl (.inr ⟨{ cls:=.type "list",data:=.seq vs.toArray },(if_neg haP).trans (if_pos rfl)⟩)) (λ b u z=>?_) (λ b z=>?_) λ _=>hk
    . rw[if_neg nb]
      by_cases hb:b=a
      . exact .inr ⟨_,_,if_pos hb⟩
      . exact .inl (if_neg hb)
    . by_cases hp:b ∈ ts.map (·.1)
      . have z':=(if_pos hp).symm.trans z
        cases z'
        exact hP b hp
      . have z:=(if_neg hp).symm.trans z
        by_cases hb:b=a
        . have z':=(if_pos hb).symm.trans z
          cases z'
          subst hb
          exact⟨ha,by rw[List.length_map];exact hl,vs,_,rv,ha⟩
        . have z':=(if_neg hb).symm.trans z
          cases z'
    . by_cases hp:b ∈ ts.map (·.1)
      . exact .inr hp
      . by_cases hb:b=a
        . exact .inl hb
        . exact absurd ((if_neg hp).trans (if_neg hb)) z
theorem walkL{l:PySem.W.OpenLaw}{n k:Nat}{q:Program}{loose:List Str}{XP:(Str->Option Value)->Heap->Prop}{YP:World->Heap->Prop}{d:DefRec}{K:Params->PySem.W.Frag}{F:List D->Hd->Option (D × Hd)}(xs:List (Str × Str × Nat × Nat))
    (hn:l.most=some n) (hn2:n <= sizeLine) (hdf:d.params.defaults=[]) (hr:Room k callerA) (hdr:∀ x ∈ xs,∃ dr,(recsOf q).find? (λ e=>e.name == x.1)=some dr)
    (hF:∀ ns:List Int,∃ hd',F [.ro ns] []=some (.im (.bl true),hd'))
    (hY:∀ (w:World) (h:Heap),YP w h->(K w.params).In h)
    (G:∀ (w:World) (mg:Str->Option Value) (fa:Addr) (h:Heap) (c P:Str->Addr),(K w.params).In h->h.Ns mainGlobals mg->mg d.name=some (.ref fa) ->
      (∀ x ∈ xs,h.get? (P x.1)=some (tabObj #[])/\CodeHd h (c x.1) (P x.1)/\∃ a o fd,mg x.1=some (.ref a)/\h.get? a=some o/\o.data=.func fd/\fd.code=.ref (c x.1)) ->
      (∃ g,(K w.params).lookup mainGlobals=some g)/\∃ fd:FuncData,(∀ (s:Shared) (u:Value),BindsTo s fd ⟨[u],[]⟩ [("_law_script",u)]) /\
        ∀ base:Heap,(Aa (K w.params) (xs.map λ x=>(P x.1,x.2))).In base->base.Ns mainGlobals mg->(∀ x ∈ xs,CodeHd base (c x.1) (P x.1))->(∀ x ∈ xs,base.BuiltinsAt mg (P x.1))->FnOk l.prog w (Aa (K w.params) (xs.map λ x=>(P x.1,x.2))) mg base CX0 k fa fd ["_law_script"] (spF (Aa (K w.params) (xs.map λ x=>(P x.1,x.2))) 1 F)) :
    PySem.W.WalkO q loose XP YP l.row.toRowW d [] (λ f vs=>PySem.call f vs):=by
  refine Att.attach_call hn hdf λ w s₀ s₁ mg mb fa o pm cd doc a vs ns Gr Y ho hd hcd hmg hobj hints hlen hg=>?_
  have KX:=hY w _ Y
  have each:∀ x:Str,∃ cp:Addr × Addr,(∃ y ∈ xs,y.1=x)->(∃ cc,s₁.heap.TableAt cc cp.2 #[])/\CodeHd s₁.heap cp.1 cp.2/\∃ a o fd,mg x=some (.ref a)/\s₁.heap.get? a=some o/\o.data=.func fd/\fd.code=.ref cp.1:=by
    intro x
    by_cases hx:∃ y ∈ xs,y.1=x
    . obtain⟨y,hy,rfl⟩:=hx
      obtain⟨dr,hdr⟩:=hdr y hy
      have hnm:dr.name=y.1:=beq_iff_eq.mp (List.find?_some (p:=λ e:DefRec=>e.name == y.1) hdr)
      obtain⟨a',o',fd',c,P,h1,h2,h3,h4,h5,h6⟩:=Gr.T.tab dr (List.mem_of_find?_eq_some hdr)
      rw[hnm]at h1
      exact⟨(c,P),λ _=>⟨⟨_,h6⟩,CodeHd.of h5 h6,a',o',fd',h1,h2,h3,h4⟩⟩
    . exact⟨(0,0),λ h=>absurd h hx⟩
  obtain⟨cp,hcp⟩:=Classical.skolem.mp each
  have hcp:∀ x ∈ xs,(∃ cc,s₁.heap.TableAt cc (cp x.1).2 #[])/\CodeHd s₁.heap (cp x.1).1 (cp x.1).2/\∃ a o fd,mg x.1=some (.ref a)/\s₁.heap.get? a=some o/\o.data=.func fd/\fd.code=.ref (cp x.1).1:=λ x hx=>hcp x.1 ⟨x,hx,rfl⟩
  have hts:∀ P ∈ (xs.map λ x=>((cp x.1).2,x.2)).map (·.1),∃ x ∈ xs,P=(cp x.1).2:=λ P hP=>by
    obtain⟨t,ht,rfl⟩:=List.mem_map.mp hP
    obtain⟨x,hx,rfl⟩:=List.mem_map.mp ht
    exact⟨x,hx,rfl⟩
  have hP:∀ x ∈ xs,s₁.heap.get? (cp x.1).2=some (tabObj #[]):=λ x hx=>by
    obtain⟨⟨cc,t⟩,_⟩:=hcp x hx;exact t.2
  have hmP:mainGlobals ∉ (xs.map λ x=>((cp x.1).2,x.2)).map (·.1):=λ z=>by
    obtain⟨x,hx,ez⟩:=hts _ z
    obtain⟨o,es,ep,e,dd,_⟩:=Gr.T.g
    rw[ez,hP x hx]at e;cases e;cases dd
  obtain⟨⟨g,hgl⟩,fd,hb,hFn⟩:=G w mg fa _ (λ x=>(cp x).1) (λ x=>(cp x).2) KX Gr.T.g hmg λ x hx=>⟨hP x hx,(hcp x hx).2⟩
  refine Ml (ts:=xs.map λ x=>((cp x.1).2,x.2)) (K:=Aa (K w.params) (xs.map λ x=>((cp x.1).2,x.2))) (Qj KX hgl hmP) Gr.T.g Gr.T.b Gr.T.builtins Gr.T.nolimit hg hobj hints (Nat.le_trans hlen hn2) hr (λ P hp=>by obtain⟨x,hx,rfl⟩:=hts P hp;exact(hcp x hx).1) (λ P hp=>Qh hmP hp) (IA _ _) (λ base kb nb keep=>hFn base kb nb (λ x hx=>?_) λ x hx=>?_) hb (hF ns)
  . obtain⟨oc,vs',file,tf,flags,tg,inF,text,tt,e1,r1,r2,r3,r4,r5,r6,r7,r8,hne⟩:=(hcp x hx).2.1
    have hn:(cp x.1).1 ∉ (xs.map λ x=>((cp x.1).2,x.2)).map (·.1):=λ z=>by
      obtain⟨y,hy,ez⟩:=hts _ z
      rw[ez,hP y hy]at e1;cases e1;cases r1
    exact⟨oc,vs',file,tf,flags,tg,inF,text,tt,keep (cp x.1).1 oc hn (λ z=>by rw[z,hobj]at e1;cases e1;exact absurd (show Value.type "list"=Value.type "code" from r1) (by decide)) e1,r1,r2,r3,r4,r5,r6,r7,r8,hne⟩
  . obtain⟨bm,ob,b1,b2,b3,b4,b5,b6⟩:=Gr.T.bmain
    have nP:∀ y ∈ xs,bm ≠ (cp y.1).2:=λ y hy z=>by rw[z,hP y hy]at b3;cases b3;cases b4
    have hn:bm ∉ (xs.map λ x=>((cp x.1).2,x.2)).map (·.1):=λ z=>by
      obtain⟨y,hy,ez⟩:=hts _ z
      exact nP y hy ez
    refine⟨bm,ob,b1,b2,λ z=>?_,nP x hx,keep bm ob hn (λ z=>by rw[z,hobj]at b3;cases b3;exact absurd (show Value.type "list"=Value.type "module" from b4) (by decide)) b3,b4,b5,b6⟩
    obtain⟨o,es,ep,e,dd,_⟩:=Gr.T.g
    rw[<- z,b3]at e;cases e;rw[b6]at dd;cases dd
end L2
namespace L2
open PySem PySem.Spec PyProof.Rows PySem.W
noncomputable def Le(K K':Frag):Prop:=∀ a o,K.lookup a=some o->(∀ vs,o.data ≠ .fields vs)->K'.lookup a=some o
theorem Qi{K:Frag}{ts:List Tb}{h:Heap}(X:K.In h)(hP:∀ P ∈ ts.map (·.1),h.get? P=some (tabObj #[])):Le K (Aa K ts):=λ a o e n=>EQ (λ z=>by
  have:=X _ _ e
  rw[hP a z]at this
  cases this
  exact n _ rfl) e
section
variable{K K':Frag}(L:Le K K')
include L
theorem Le.ns{a:Addr}{n:Str}{r:Option Value}(e:nsIn K a n=some r):nsIn K' a n=some r:=by
  unfold nsIn at e ⊢
  split at e
  . next c d es k sl ho=>rw[L a _ ho (λ vs q=>by cases q)];exact e
  . cases e
theorem Le.own{n:Str}{c:Value}{r:Option Value}(e:ownIn K n c=some r):ownIn K' n c=some r:=by
  cases c with
  | ref a=>
    simp only[ownIn]at e ⊢
    split at e
    . next c d cd sl ho=>rw[L a _ ho (λ vs q=>by cases q)];exact L.ns e
    . cases e
  | _=>exact e
theorem Le.along{n:Str}:∀ {l:List Value} {r:Option Value},alongIn K n l=some r->alongIn K' n l=some r
  | [],_,e=>e
  | c :: l,r,e=>by
    simp only[alongIn]at e ⊢
    split at e
    . next v q=>rw[L.own q];exact e
    . next q=>rw[L.own q];exact Le.along e
    . cases e
theorem Le.find{t:Value}{n:Str}{r:Option Value}(e:findIn K t n=some r):findIn K' t n=some r:=by
  cases t with
  | ref a=>
    simp only[findIn]at e ⊢
    split at e
    . next c d cd sl ho=>rw[L a _ ho (λ vs q=>by cases q)];exact L.along e
    . cases e
  | _=>exact e
theorem Le.cls{C:Addr}{cd:ClassData}(e:clsIn K C=some cd):clsIn K' C=some cd:=by
  unfold clsIn at e ⊢
  split at e
  . next c d cd sl ho=>rw[L C _ ho (λ vs q=>by cases q)];exact e
  . cases e
theorem Le.mro{C:Addr}{b:Value}{r:Bool}(e:mroIn K C b=some r):mroIn K' C b=some r:=by
  obtain⟨cd,a,e⟩:=Option.bind_eq_some_iff.mp e
  unfold mroIn;rw[L.cls a];exact e
theorem Le.sub{t b:Value}{r:Bool}(e:subIn K t b=some r):subIn K' t b=some r:=by
  cases t with
  | ref a=>exact L.mro e
  | _=>exact e
theorem Le.typeC{C:Addr}{t:Value}(c:(clsIn K C).isSome=true)(e:typeIn K (.ref C)=some t):typeIn K' (.ref C)=some t:=by
  simp only[typeIn]at e ⊢
  unfold clsIn at c
  split at c
  . next x d cd sl ho=>rw[ho]at e;rw[L C _ ho (λ vs q=>by cases q)];exact e
  . cases c
theorem Le.kitCls{t c:Value}{r:Bool}(e:kitCls K t c=some r):kitCls K' t c=some r:=by
  unfold PySem.W.kitCls at e ⊢
  split at e
  . next C=>
    split at e
    . next q=>
      have q1:(clsIn K C).isSome=true:=by cases z:(clsIn K C).isSome <;> simp[z]at q ⊢
      have q2:typeIn K (.ref C)=some (.type "type"):=by rw[q1]at q;simpa using q
      obtain⟨cd,hc⟩:=Option.isSome_iff_exists.mp q1
      rw[if_pos (by rw[L.cls hc,L.typeC q1 q2];rfl)]
      exact L.sub e
    . cases e
  . next T=>
    split at e
    . next q=>rw[if_pos q];exact L.sub e
    . cases e
  . cases e
theorem Le.kitOne{t c:Value}{r:Bool}(e:kitOne K t c=some r):kitOne K' t c=some r:=by
  unfold PySem.W.kitOne at e ⊢
  split at e
  . next q=>rw[if_pos q];exact e
  . next q=>rw[if_neg q];exact L.kitCls e
theorem Le.kitAny{t:Value}:∀ {cs:List Value} {r:Bool},kitAny K t cs=some r->kitAny K' t cs=some r
  | [],_,e=>e
  | c :: cs,r,e=>by
    simp only[PySem.W.kitAny]at e ⊢
    split at e
    . next q=>rw[L.kitOne q];exact e
    . next q=>rw[L.kitOne q];exact Le.kitAny e
    . cases e
theorem Le.exm{t c:Value}{r:Bool}(e:exmOne K t c=some r):exmOne K' t c=some r:=by
  unfold PySem.W.exmOne at e ⊢
  split at e
  . next q=>
    rw[if_pos (by rw[L.sub (beq_iff_eq.mp q)];rfl)]
    exact L.kitCls e
  . cases e
theorem Le.noAttr{C:Addr}{f:Str}(e:Df K C f):Df K' C f:=L.find e
theorem Le.xi{C:Addr}(i:XI K C):XI K' C:=⟨L.find i.ca,i.gd,i.tk,L.mro i.mo⟩
theorem Le.xc{C fI:Addr}(hf:∃ o fd,K.lookup fI=some o/\o.data=.func fd)(c:XC K C fI):XC K' C fI:=by
  obtain⟨nm,q,N,bs,bm,sn,sub,ab,col,dd,k0,k1,k2,k3,k5,lk,ov⟩:=c.at_
  have lk':=L C _ lk (λ vs q=>by cases q)
  obtain⟨o,fd,e,d⟩:=hf
  have e':=L fI o e (λ vs q=>by rw[d]at q;cases q)
  refine⟨⟨nm,q,N,bs,bm,sn,sub,ab,col,dd,k0,k1,k2,k3,k5,lk',ov⟩,L.find c.init,?_,?_,L.find c.sa,L.find c.ga,L.find c.gx⟩
  . have:=c.fn
    unfold PySem.W.isFn PySem.W.typeIn at this ⊢
    dsimp only at this ⊢
    rw[e]at this;rw[e'];exact this
  . have:=c.kp
    unfold PySem.W.keepIn at this ⊢
    dsimp only at this ⊢
    rw[lk]at this;rw[lk']
    dsimp only at this ⊢
    unfold PySem.W.specialIn PySem.W.typeIn at this ⊢
    dsimp only at this ⊢
    rw[lk]at this;rw[lk'];exact this
end
end L2
namespace L2
open PySem PySem.Spec PyProof.Rows
structure Dj(m mn:MS):Prop where
  rt:∀ ls hd d x,m ls hd=some (.rt d,x)->mn ls hd=none
  nx:∀ ls hd fl x,m ls hd=some (fl,x)->(∀ d,fl ≠ .rt d)->mn ls hd=some (fl,x)
noncomputable def DjE(m mn:ME):Prop:=∀ ls hd z,m ls hd=some z->mn ls hd=none
noncomputable def DjA(m:ME)(mn:MA):Prop:=∀ ls hd z,m ls hd=some z->mn ls hd=none
noncomputable def DjF(X F:List D->Hd->Option (D × Hd)):Prop:=∀ ds hd z,X ds hd=some z->F ds hd=none
section
variable{m mn m1 n1 m2 n2:MS}{me mf:ME}{i:Nat}
theorem dj_norm:Dj (ED m) m:=by
  constructor
  . intro ls hd d x e
    obtain⟨⟨fl,y⟩,e1,e2⟩:=Option.bind_eq_some_iff.mp e
    cases fl <;> cases e2
  . intro ls hd fl x e n
    obtain⟨⟨fl1,y⟩,e1,e2⟩:=Option.bind_eq_some_iff.mp e
    cases fl1 <;> cases e2 <;> exact e1
theorem Fv(a:Dj m1 n1)(b:Dj m2 n2):Dj (AG m1 m2) (AG n1 n2):=by
  constructor
  . intro ls hd d x e
    obtain⟨⟨fl,y⟩,e1,e2⟩:=Option.bind_eq_some_iff.mp e
    unfold AG
    cases fl with
    | rt d1=>rw[a.rt _ _ _ _ e1];rfl
    | nx l=>rw[a.nx _ _ _ _ e1 (λ d q=>by cases q)];exact b.rt _ _ _ _ e2
    | bk l=>cases e2
    | ct l=>cases e2
  . intro ls hd fl x e n
    obtain⟨⟨fl1,y⟩,e1,e2⟩:=Option.bind_eq_some_iff.mp e
    unfold AG
    cases fl1 with
    | rt d1=>cases e2;exact absurd rfl (n d1)
    | nx l=>rw[a.nx _ _ _ _ e1 (λ d q=>by cases q)];exact b.nx _ _ _ _ e2 n
    | bk l=>cases e2;rw[a.nx _ _ _ _ e1 (λ d q=>by cases q)];rfl
    | ct l=>cases e2;rw[a.nx _ _ _ _ e1 (λ d q=>by cases q)];rfl
theorem P3{c:MT}(a:Dj m1 n1)(b:Dj m2 n2):Dj (BR c m1 m2) (BR c n1 n2):=by
  constructor
  . intro ls hd d x e
    obtain⟨⟨q,y⟩,e1,e2⟩:=Option.bind_eq_some_iff.mp e
    unfold BR;rw[e1]
    dsimp only[Option.bind_some]at e2 ⊢
    cases q
    . exact b.rt _ _ _ _ e2
    . exact a.rt _ _ _ _ e2
  . intro ls hd fl x e n
    obtain⟨⟨q,y⟩,e1,e2⟩:=Option.bind_eq_some_iff.mp e
    unfold BR;rw[e1]
    dsimp only[Option.bind_some]at e2 ⊢
    cases q
    . exact b.nx _ _ _ _ e2 n
    . exact a.nx _ _ _ _ e2 n
theorem JC{ls:Ls}{hd:Hd}{fl:Fl}{x:Hd}(e:Ab me ls hd=some (fl,x))(n:∀ d,fl ≠ .rt d):False:=by
  obtain⟨⟨d,y⟩,e1,e2⟩:=Option.bind_eq_some_iff.mp e
  cases e2;exact n d rfl
theorem Jo:Dj (Ab me) CU:=⟨λ _ _ _ _ _=>rfl,λ _ _ _ _ e n=>(JC e n).elim⟩
theorem JB{ls:Ls}{hd:Hd}{d:D}{x:Hd}(e:Ab me ls hd=some (.rt d,x)):∃ z,me ls hd=some z:=by
  obtain⟨z,e1,e2⟩:=Option.bind_eq_some_iff.mp e
  exact⟨z,e1⟩
theorem GI(h:DjE me mf):Dj (Ab me) (Ba mf):=⟨λ ls hd d x e=>by obtain⟨z,q⟩:=JB e;unfold Ba;rw[h _ _ _ q];rfl,λ _ _ _ _ e n=>(JC e n).elim⟩
theorem Jn(h:DjE me mf):Dj (Ab me) (Ao i mf):=⟨λ ls hd d x e=>by obtain⟨z,q⟩:=JB e;simp only[Jl,h _ _ _ q,Option.bind_none],λ _ _ _ _ e n=>(JC e n).elim⟩
theorem Cc{w:Nat}{X F:List D->Hd->Option (D × Hd)}{ma:MA}(h:DjF X F):DjE (AC w X ma) (AC w F ma):=by
  intro ls hd z e
  obtain⟨p,e1,e2⟩:=Option.bind_eq_some_iff.mp e
  unfold AC;rw[e1]
  dsimp only[Option.bind_some]at e2 ⊢
  split at e2
  . next c=>
    obtain⟨r,e3,_⟩:=Option.bind_eq_some_iff.mp e2
    rw[if_pos c,h _ _ _ e3];rfl
  . cases e2
theorem OM{mr:MA}(h:DjE me mf):DjA me (A1 mf mr):=λ ls hd z e=>by unfold A1;rw[h _ _ _ e];rfl
theorem My{ma:ME}{mr:MA}(h:DjA me mr):DjA (HH ma me) (A1 ma mr):=λ ls hd z e=>by
  obtain⟨p,e1,e2⟩:=Option.bind_eq_some_iff.mp e
  unfold A1;rw[e1]
  show(mr ls p.2).bind _=none
  rw[h _ _ _ e2];rfl
theorem R8{mr:MA}(h:DjA me mr):DjE me (Av mr):=λ ls hd z e=>by unfold Av;rw[h _ _ _ e];rfl
theorem HQ{k n:Nat}(h:Dj m mn):DjF (mkX k n m) (mkF k n mn):=by
  intro ds hd z e
  unfold mkX at e
  unfold mkF
  split at e
  . next c=>
    rw[if_pos c]
    split at e
    . next d x q=>rw[h.rt _ _ _ _ q]
    . cases e
  . cases e
theorem Ll{ls:Ls}{hd:Hd}{Q:Fl->Hd->Prop}(h:WS m ls hd λ fl x=>(∀ d,fl ≠ .rt d)/\Q fl x):WS (ED m) ls hd Q:=by
  obtain⟨fl,x,e,n,q⟩:=h
  refine⟨fl,x,?_,q⟩
  unfold ED;rw[e]
  cases fl with
  | rt d=>exact absurd rfl (n d)
  | _=>rfl
theorem PH{ma:ME}{ls:Ls}{hd:Hd}{Q:D->Hd->Prop}(h:WE ma ls hd λ _ x=>WE me ls x Q):WE (HH ma me) ls hd Q:=WP.bind h
theorem Gi{k n:Nat}{ds:List D}{hd:Hd}{Q:D->Hd->Prop}(hl:ds.length=k)(h:WS m (ds.map some ++ List.replicate (n - k) none) hd λ f x=>∃ d,f=.rt d/\Q d x):WF (mkX k n m) ds hd Q:=by
  obtain⟨f,x,e,d,rfl,q⟩:=h
  refine⟨d,x,?_,q⟩
  unfold mkX;rw[if_pos hl,e]
theorem P6{ie is ifd:Nat}{mb mx:MS}{ls:Ls}{hd:Hd}{Q:Fl->Hd->Prop}(h:WS mb ls hd Q):WS (Fj ie is ifd mb mx) ls hd Q:=by
  obtain⟨fl,x,e,q⟩:=h
  refine⟨fl,x,?_,q⟩
  unfold Fj;rw[e]
theorem P5{ie is ifd:Nat}{mb mx:MS}{ls:Ls}{hd:Hd}{Q:Fl->Hd->Prop}(dj:Dj mx mb)(l:ie < ls.length/\is < ls.length/\ifd < ls.length)
    (h:WS mx ls hd λ fl x=>∃ w,fl=.rt (.im w)/\Q (.nx ((List.replicate ls.length none).set ifd (some (.im (.tup [.str "no",w]))))) x):WS (Fj ie is ifd mb mx) ls hd Q:=by
  obtain⟨fl,x,e,w,rfl,q⟩:=h
  refine⟨_,x,?_,q⟩
  unfold Fj;rw[dj.rt _ _ _ _ e,if_pos l,e]
end
structure ExcW(P:Program)(w:World)(K:PySem.W.Frag)(mg:Str->Option Value)(base:Heap)(C B fI c1 c2 c3 c4 c5 c6 c7:Addr)(fdI:FuncData):Prop where
  xc:XC K C fI
  xi:XI K C
  na:Df K C "word"
  mgC:mg "NoRule"=some (.ref C)
  mgB:mg "BenchError"=some (.ref B)
  ve:mg "ValueError"=none
  exm:PySem.W.exmOne K (.ref C) (.ref B)=some true
  kv:PySem.W.kitOne K (.ref C) (.type "ValueError")=some true
  k7:PySem.W.kitAny K (.ref C) ([c1,c2,c3,c4,c5,c6,c7].map Value.ref)=some false
  m1:mg "NoBack"=some (.ref c1)
  m2:mg "NoPaper"=some (.ref c2)
  m3:mg "NoRow"=some (.ref c3)
  m4:mg "NoText"=some (.ref c4)
  m5:mg "NoWish"=some (.ref c5)
  m6:mg "NoWork"=some (.ref c6)
  m7:mg "TooMany"=some (.ref c7)
  ini:FnOk P w K mg base CX0 1 fI fdI ["self","word"] (spI C "word")
  bd:Binds K fdI ["self","word"] []
section
variable{K:PySem.W.Frag}{X:Cx}{C B fI c1 c2 c3 c4 c5 c6 c7:Addr}{fdI:FuncData}
theorem IB{p p1 pos:Pos}{j:Nat}{e:Expr}{te:TE}{me:ME}(E:ExcW X.prog X.w X.K X.mg X.base C B fI c1 c2 c3 c4 c5 c6 c7 fdI)(hr:Room j X.A)(he:QE K X.nox e te me)(hjk:2 <= j:=by decide)(hcalm:X.calm=true:=by rfl)(hg:Gl X "NoRule":=by rfl)
    (hst:starEach [e] X.env=(false,eval e X.env) :: starEach [] X.env:=by rfl) (hpl:(backTo p1 (starEach [] X.env)).any (·.1)=false:=by rfl) :
    QX C "word" K X (.Raise (some (.Call (.Name "NoRule" p) [e] [] p1)) none pos) (Gn C "word" te) (Ab me):=No E.xc E.ini hr E.bd E.mgC he hjk hcalm hg (by decide) hst hpl
theorem SM{ie is ifd:Nat}{n xs xf:Str}{body:List Stmt}{tb tx:TS}{mb mx:MS}{p1 p2 p3 p4 p5 p6 p7 p8 p9 p10 p11 p12 p13 p14 p15 p16 p17 p18 p19 p20 p21 pN pA pI q1 q2 q3 q4 q5 q6 q7 pB ph pos:Pos}{k1 k2 k3}(E:ExcW X.prog X.w X.K X.mg X.base C B fI c1 c2 c3 c4 c5 c6 c7 fdI)(bI:X.mg "isinstance"=none)
    (hb:QSs K X.nox body tb mb) (hx:QXs C "word" K X body tx mx) (n1:ie ≠ is) (n2:ie ≠ ifd) (n3:is ≠ ifd) (hN:X.N.Nodup)
    (i1:X.N[ie]? = some n) (i2:X.N[is]? = some xs) (i3:X.N[ifd]? = some xf) (l1:X.env.scope.names.lookup n=some .local:=by rfl) (l2:X.env.scope.names.lookup xs=some .local:=by rfl) (l3:X.env.scope.names.lookup xf=some .local:=by rfl) (hst:X.stack=X.env :: X.outer/\X.env.frame=some X.env.locals:=by exact⟨rfl,rfl⟩)
    (gB:Gl X "BenchError":=by rfl) (gI:Gl X "isinstance":=by rfl) (gV:Gl X "ValueError":=by rfl) (gN:Gl X "NoRule":=by rfl) (g1:Gl X "NoBack":=by rfl) (g2:Gl X "NoPaper":=by rfl) (g3:Gl X "NoRow":=by rfl) (g4:Gl X "NoText":=by rfl) (g5:Gl X "NoWish":=by rfl) (g6:Gl X "NoWork":=by rfl) (g7:Gl X "TooMany":=by rfl)
    (dn:(n == ("__debug__":Str))=false:=by decide) (dn2:(n == ("__classdict__":Str))=false:=by decide) (ds:(xs == ("__debug__":Str))=false:=by decide) (ds2:(xs == ("__classdict__":Str))=false:=by decide)
    (hba:attributeBase (.Name n p19) "word" X.env (eval (.Name n p19) X.env)=eval (.Name n p19) X.env:=by rfl)
    (sw1:swapsWith (.Call (.Name "isinstance" p2) [.Name n p3,.Tuple [.Name "NoBack" q1,.Name "NoPaper" q2,.Name "NoRow" q3,.Name "NoText" q4,.Name "NoWish" q5,.Name "NoWork" q6,.Name "TooMany" q7] k1 p4] [] p5) (some (.Name xs p1)) p6.line X.env=pure false:=by rfl) (sw2:swapsWith (.Tuple [.Constant (.str "no") k2 p18,.Attribute (.Name n p19) "word" p20] k3 p21) (some (.Name xf p17)) p16.line X.env=pure false:=by rfl) :
    QS K X (.Try body [.ExceptHandler (some (.Name "BenchError" pB)) (some n) [.Assign [.Name xs p1] (.Call (.Name "isinstance" p2) [.Name n p3,.Tuple [.Name "NoBack" q1,.Name "NoPaper" q2,.Name "NoRow" q3,.Name "NoText" q4,.Name "NoWish" q5,.Name "NoWork" q6,.Name "TooMany" q7] k1 p4] [] p5) p6,
      .If (.BoolOp .And [.Call (.Name "isinstance" p7) [.Name n p8,.Name "NoRule" p9] [] p10,.Call (.Name "isinstance" p11) [.Name n p12,.Name "ValueError" p13] [] p14,.UnaryOp .Not (.Name xs p15) pN] pA) [.Assign [.Name xf p17] (.Tuple [.Constant (.str "no") k2 p18,.Attribute (.Name n p19) "word" p20] k3 p21) p16] [] pI] ph] [] [] pos)
      (NJ C "word" ie tb tx (Kt C "word" [c1,c2,c3,c4,c5,c6,c7] ie is ifd)) (Fj ie is ifd mb mx):=by
  refine⟨SW hst hb.p hx.p gB E.mgB E.exm hN i1 l1 (λ a=>?_),Rq hb.r hx.r n1 n2 n3⟩
  have pg:∀ {x:Str} {c:Addr} {q:Pos},Gl X x->X.mg x=some (.ref c)->(x == ("__debug__":Str))=false->PE (X.hand (.ref a)) (.Name x q) (tC (.ref c)):=λ g m d=>KN (X:=X.hand (.ref a)) (v:=.ref _) g m rfl d
  exact Q7 (X:=X.hand (.ref a)) (cs:=[c1,c2,c3,c4,c5,c6,c7]) E.xc E.xi E.na gI bI gV E.ve gN E.mgC
    (An (pg g1 E.m1 (by decide)) (An (pg g2 E.m2 (by decide)) (An (pg g3 E.m3 (by decide)) (An (pg g4 E.m4 (by decide)) (An (pg g5 E.m5 (by decide)) (An (pg g6 E.m6 (by decide)) (An (pg g7 E.m7 (by decide)) Br)))))))
    (λ σ H Q h=>h) (by show 7 <= 1000;decide) E.k7 E.kv hN i1 i2 i3 l1 l2 l3 dn dn2 ds ds2 (by decide) hba sw1 sw2 rfl rfl
end
end L2
namespace L2
open PySem PySem.Spec PyProof.Rows
noncomputable def Uc(tn tx:TS):TS:=λ D σ H=>tn D.non σ H ∨ tx D σ H
noncomputable def DG(mn mx:MS):MS:=λ ls hd=>match ED mn ls hd with
  | some r=>some r
  | none=>mx ls hd
section
variable{C:Addr}{f:Str}{K:PySem.W.Frag}{X:Cx}{st:Stmt}{tn tx:TS}{mn mx:MS}
theorem Gy(h:QS K X.nox st tn mn)(hx:QX C f K X st tx mx):QX C f K X st (Uc tn tx) (DG mn mx):=by
  constructor
  . intro pins s σ H D I q
    rcases q with q|q
    . exact KL h.p pins s σ H D I q
    . exact hx.p pins s σ H D I q
  . intro ρ σ H hd ls E fl hd' hR hL hm hQ
    unfold DG at hm
    split at hm
    . next r e=>cases hm;exact .inl (J9 h.r ρ σ H hd ls E fl hd' hR hL e hQ)
    . exact .inr (hx.r ρ σ H hd ls E fl hd' hR hL hm hQ)
theorem HU(d:Dj mx mn):Dj (DG mn mx) mn:=by
  constructor
  . intro ls hd d' x e
    unfold DG at e
    split at e
    . next r q=>cases e;exact dj_norm.rt _ _ _ _ q
    . exact d.rt _ _ _ _ e
  . intro ls hd fl x e n
    unfold DG at e
    split at e
    . next r q=>cases e;exact dj_norm.nx _ _ _ _ q n
    . exact d.nx _ _ _ _ e n
theorem P9{ls:Ls}{hd:Hd}{Q:Fl->Hd->Prop}(h:WS mn ls hd λ fl x=>(∀ d,fl ≠ .rt d)/\Q fl x):WS (DG mn mx) ls hd Q:=by
  obtain⟨fl,x,e,q⟩:=Ll h
  exact⟨fl,x,by unfold DG;rw[e],q⟩
theorem G4{ls:Ls}{hd:Hd}{Q:Fl->Hd->Prop}(d:Dj mx mn)(h:WS mx ls hd λ fl x=>∃ d,fl=.rt d/\Q fl x):WS (DG mn mx) ls hd Q:=by
  obtain⟨fl,x,e,d',rfl,q⟩:=h
  have z:=d.rt _ _ _ _ e
  refine⟨_,x,?_,q⟩
  unfold DG ED;rw[z];exact e
theorem Ff{rest:List Stmt}:QXs C f K X rest Go CU:=⟨λ _ _ _ _ _ _ h=>h.elim,JA⟩
theorem Gb:Dj CU mn:=⟨(λ _ _ _ _ e=>nomatch e),(λ _ _ _ _ e=>nomatch e)⟩
end
end L2
namespace T55
open PySem L2
noncomputable def top(i:Nat):Stmt:=PySem.Challenge.pw_benchdays_k55_ratios_told.main.body.getD i (.Pass ⟨0,0,0,0⟩)
noncomputable abbrev B1:Stmt:=top 1
theorem sc_common_divisor:FnScope ["one","other"] ["one","other"] (A9 B1):=⟨rfl,rfl,rfl,by decide +kernel,rfl,by decide +kernel,by decide +kernel⟩
@[reducible] noncomputable def EB:MS:=(AG (Ao 0 (mCB Jj (A1 (A2 0) A7)))
    (AG (EC (Aj (mOp gNe (A2 1) (mC (.int 0))))
      (C0 [0,1] (A1 (A2 1) (A1 (mOp Dm (A2 0) (A2 1)) A7))))
    (Ab (A2 0))))
noncomputable def BX:List D->Hd->Option (D × Hd):=mkF 2 2 EB
noncomputable abbrev Bk:Stmt:=top 2
theorem sc_fraction:FnScope ["top","bottom","shared"] ["top","bottom"] (A9 Bk):=⟨rfl,rfl,rfl,by decide +kernel,rfl,by decide +kernel,by decide +kernel⟩
@[reducible] noncomputable def HF:MS:=(AG (BR (Aj (mOp gLt (A2 1) (mC (.int 0))))
      (C0 [0,1] (A1 (GY (A2 0)) (A1 (GY (A2 1)) A7)))
      BQ)
    (AG (Ao 2 (AC 0 BX (A1 (A2 0) (A1 (A2 1) A7))))
    (Ab (Av (A1 (mOp FL (A2 0) (A2 2)) (A1 (mOp FL (A2 1) (A2 2)) A7))))))
noncomputable def Cz:List D->Hd->Option (D × Hd):=mkF 2 3 HF
noncomputable abbrev DU:Stmt:=top 3
theorem PY:FnScope ["one","other"] ["one","other"] (A9 DU):=⟨rfl,rfl,rfl,by decide +kernel,rfl,by decide +kernel,by decide +kernel⟩
@[reducible] noncomputable def Mh:MS:=(Ab (mOp gLt (mOp BW (mOp gIx (A2 0) (mC (.int 0))) (mOp gIx (A2 1) (mC (.int 1)))) (mOp BW (mOp gIx (A2 1) (mC (.int 0))) (mOp gIx (A2 0) (mC (.int 1))))))
noncomputable def Fz:List D->Hd->Option (D × Hd):=mkF 2 2 Mh
noncomputable abbrev Bm:Stmt:=top 4
theorem sc_falling:FnScope ["ratios","row","k","ratio"] ["ratios"] (A9 Bm):=⟨rfl,rfl,rfl,by decide +kernel,rfl,by decide +kernel,by decide +kernel⟩
@[reducible] noncomputable def IE:MS:=(AG (Ao 1 (DF (CN A7)))
    (AG (Dl (Dr (Fm (A2 0))) (DD 2 (Aw (AS 2) (Aw (AS 3) DE)))
      (Ba (mMt Ev (A2 1) (A1 (EE CO (Bn 1 [0,3] (Fm (A2 1)) (AS 0) (Jb (Dk (AC 0 Fz (A1 (mOp gIx (A2 1) (A2 0)) (A1 (A2 2) A7))))) (A2 0))) (A1 (A2 2) A7)))))
    (Ab (A2 1))))
noncomputable def Cl:List D->Hd->Option (D × Hd):=mkF 1 4 IE
noncomputable abbrev BU:Stmt:=top 16
theorem J7:FnScope ["works","some"] ["works","some"] (A9 BU):=⟨rfl,rfl,rfl,by decide +kernel,rfl,by decide +kernel,by decide +kernel⟩
@[reducible] noncomputable def GL:MS:=(Ab (EE Jf (Bn 1 [0] (C6 (A2 1)) (AS 0) Cb (mOp gIx (mOp gIx (A2 1) (A2 0)) (mC (.int 0))))))
noncomputable def CZ:List D->Hd->Option (D × Hd):=mkF 2 2 GL
noncomputable abbrev BA:Stmt:=top 17
theorem sc_same_coming:FnScope ["works","coming"] ["works"] (A9 BA):=⟨rfl,rfl,rfl,by decide +kernel,rfl,by decide +kernel,by decide +kernel⟩
@[reducible] noncomputable def FX:MS:=(AG (Ao 1 (mOp gIx (mOp gIx (A2 0) (mC (.int 0))) (mC (.int 1))))
    (AG (BR (Dk (EE LS (Bn 1 [1] (C6 (A2 0)) (AS 0) Cb (mOp gEq (mOp gIx (A2 0) (mC (.int 1))) (A2 1)))))
      (Ab (A2 1))
      BQ)
    (Ab (mC .non))))
noncomputable def BC:List D->Hd->Option (D × Hd):=mkF 1 2 FX
noncomputable abbrev B7:Stmt:=top 18
theorem sc_one_coming:FnScope ["works","coming"] ["works"] (A9 B7):=⟨rfl,rfl,rfl,by decide +kernel,rfl,by decide +kernel,by decide +kernel⟩
@[reducible] noncomputable def Fi:MS:=(AG (Ao 1 (AC 0 BC (A1 (A2 0) A7)))
    (AG (BR (Aj (Fo false (A2 1)))
      CU
      BQ)
    (Ab (A2 1))))
noncomputable def B8:List D->Hd->Option (D × Hd):=mkF 1 2 Fi
@[reducible] noncomputable def FW:MS:=(AG (ED (Ao 1 (AC 0 BC (A1 (A2 0) A7))))
    (AG (BR (Aj (Fo false (A2 1)))
      (Ab (mC (.str "coming")))
      (ED BQ)) CU))
noncomputable def Bw:List D->Hd->Option (D × Hd):=mkX 1 2 FW
theorem FZ:DjF Bw B8:=HQ (Fv dj_norm (Fv (P3 Jo dj_norm) Gb))
noncomputable abbrev AV:Stmt:=top 19
theorem Cd:FnScope ["works","word"] ["works","word"] (A9 AV):=⟨rfl,rfl,rfl,by decide +kernel,rfl,by decide +kernel,by decide +kernel⟩
@[reducible] noncomputable def Cr:MS:=(BR (Dk (EE Hq (Bn 1 [1] (C6 (A2 0)) (AS 0) Cb (mOp gNe (mOp gIx (mOp gIx (A2 0) (mC (.int 2))) (mC (.int 0))) (A2 1)))))
      CU
      BQ)
noncomputable def Ak:List D->Hd->Option (D × Hd):=mkF 2 2 Cr
@[reducible] noncomputable def Cj:MS:=(BR (Dk (EE Hq (Bn 1 [1] (C6 (A2 0)) (AS 0) Cb (mOp gNe (mOp gIx (mOp gIx (A2 0) (mC (.int 2))) (mC (.int 0))) (A2 1)))))
      (Ab (A2 1))
      (ED BQ))
noncomputable def B3:List D->Hd->Option (D × Hd):=mkX 2 2 Cj
theorem Ck:DjF B3 Ak:=HQ (P3 Jo dj_norm)
noncomputable abbrev BT:Stmt:=top 20
theorem J6:FnScope ["work"] ["work"] (A9 BT):=⟨rfl,rfl,rfl,by decide +kernel,rfl,by decide +kernel,by decide +kernel⟩
@[reducible] noncomputable def GK:MS:=(Ab (mOp gIx (mOp gIx (A2 0) (mC (.int 2))) (GY (mC (.int 1)))))
noncomputable def CY:List D->Hd->Option (D × Hd):=mkF 1 1 GK
noncomputable abbrev Af:Stmt:=top 22
theorem sc_weighted_coming:FnScope ["works","coming"] ["works"] (A9 Af):=⟨rfl,rfl,rfl,by decide +kernel,rfl,by decide +kernel,by decide +kernel⟩
@[reducible] noncomputable def Dn:MS:=(AG (Ao 1 (AC 0 B8 (A1 (A2 0) A7)))
    (AG (Ba (AC 0 Ak (A1 (A2 0) (A1 (mC (.str "ends")) A7))))
    (Ab (A2 1))))
noncomputable def Ay:List D->Hd->Option (D × Hd):=mkF 1 2 Dn
@[reducible] noncomputable def Db:MS:=(AG (DG (Ao 1 (AC 0 B8 (A1 (A2 0) A7))) (Ab (AC 0 Bw (A1 (A2 0) A7))))
    (AG (DG (Ba (AC 0 Ak (A1 (A2 0) (A1 (mC (.str "ends")) A7)))) (Ab (AC 0 B3 (A1 (A2 0) (A1 (mC (.str "ends")) A7))))) CU))
noncomputable def BJ:List D->Hd->Option (D × Hd):=mkX 1 2 Db
theorem De:DjF BJ Ay:=HQ (Fv (HU (Jn (Cc FZ))) (Fv (HU (GI (Cc Ck))) Gb))
noncomputable abbrev BP:Stmt:=top 23
theorem K0:FnScope ["works","some"] ["works","some"] (A9 BP):=⟨rfl,rfl,rfl,by decide +kernel,rfl,by decide +kernel,by decide +kernel⟩
@[reducible] noncomputable def HE:MS:=(Ab (AC 0 Cz (A1 (EE Jf (Bn 1 [0] (C6 (A2 1)) (AS 0) Cb (AC 0 CY (A1 (mOp gIx (A2 1) (A2 0)) A7)))) (A1 (AC 0 CZ (A1 (A2 0) (A1 (A2 1) A7))) A7))))
noncomputable def CL:List D->Hd->Option (D × Hd):=mkF 2 2 HE
noncomputable abbrev BB:Stmt:=top 24
theorem Ec:FnScope ["works"] ["works"] (A9 BB):=⟨rfl,rfl,rfl,by decide +kernel,rfl,by decide +kernel,by decide +kernel⟩
@[reducible] noncomputable def FY:MS:=(AG (Ba (AC 0 Ay (A1 (A2 0) A7)))
    (Ab (mCB (f1 true Cu) (A1 (Er Cl (A1 (DF (Bn 1 [0] (FG (A1 (mCB (f1 true CO) (A1 (A2 0) A7)) A7)) (AS 0) Cb (AC 0 CL (A1 (A2 1) (A1 (Av (A1 (A2 0) A7)) A7))))) A7)) A7))))
noncomputable def BK:List D->Hd->Option (D × Hd):=mkF 1 1 FY
@[reducible] noncomputable def Eo:MS:=(AG (DG (Ba (AC 0 Ay (A1 (A2 0) A7))) (Ab (AC 0 BJ (A1 (A2 0) A7)))) CU)
noncomputable def Bi:List D->Hd->Option (D × Hd):=mkX 1 1 Eo
theorem Hu:DjF Bi BK:=HQ (Fv (HU (GI (Cc De))) Gb)
noncomputable abbrev DT:Stmt:=top 26
theorem PV:FnScope ["_law_script"] ["_law_script"] (A9 DT):=⟨rfl,rfl,rfl,by decide +kernel,rfl,by decide +kernel,by decide +kernel⟩
@[reducible] noncomputable def Mf:MS:=(Ab (DF (CN (A1 (DF (HI (LQ (A2 0) Bu (Cs (mC (.int 63)))))) (A1 (mC (.int 0)) (A1 (mC (.int 0)) (A1 (mC (.int 0)) A7)))))))
noncomputable def Fy:List D->Hd->Option (D × Hd):=mkF 1 1 Mf
noncomputable abbrev C2:Stmt:=top 27
theorem sc_pick:FnScope ["_law_tape_here","_law_many","_law_found","_law_at","_law_cell","_law_mixed"] ["_law_tape_here","_law_many"] (A9 C2):=⟨rfl,rfl,rfl,by decide +kernel,rfl,by decide +kernel,by decide +kernel⟩
@[reducible] noncomputable def Mg:MS:=(AG (Dq (A2 0) (mC (.int 3)) (mOp Ah (mOp gIx (A2 0) (mC (.int 3))) (mC (.int 1))))
    (AG (BR (Aj (mOp gGt (mOp gIx (A2 0) (mC (.int 2))) (mC (.int 0))))
      (AG (Ao 2 (mOp Dm (mOp gIx (A2 0) (mC (.int 2))) (A2 1)))
    (AG (Dq (A2 0) (mC (.int 2)) (mOp FL (mOp gIx (A2 0) (mC (.int 2))) (A2 1)))
    (Ab (A2 2))))
      BQ)
    (AG (Ao 3 (mOp gIx (A2 0) (mC (.int 1))))
    (AG (Dq (A2 0) (mC (.int 1)) (mOp Ah (A2 3) (mC (.int 1))))
    (AG (Ao 4 (mIf (Aj (FH true (mOp gIx (A2 0) (mC (.int 0))) (CN A7))) (mOp gIx (mOp gIx (A2 0) (mC (.int 0))) (mOp Dm (A2 3) (mCB (f1 true CO) (A1 (mOp gIx (A2 0) (mC (.int 0))) A7)))) (mC (.int 6))))
    (AG (BR (Fq (Aj (mOp gGe (A2 4) (mOp T9 (mC (.int 10)) (mC (.int 18))))) (Aj (mOp gLt (A2 3) (mCB (f1 true CO) (A1 (mOp gIx (A2 0) (mC (.int 0))) A7)))))
      (AG (Dq (A2 0) (mC (.int 2)) (mOp FL (A2 4) (A2 1)))
    (Ab (mOp Dm (A2 4) (A2 1))))
      BQ)
    (AG (Ao 5 (mOp Dm (mOp Ah (mOp Ah (mOp Dm (A2 4) (mC (.int 2147483647))) (mOp BW (mC (.int 40503)) (mOp gIx (A2 0) (mC (.int 3))))) (mC (.int 11))) (mC (.int 2147483629))))
    (AG (Ao 5 (mOp Dm (mOp Ah (mOp Ah (mOp BW (A2 5) (A2 5)) (mOp BW (mC (.int 25717)) (mOp gIx (A2 0) (mC (.int 3))))) (mC (.int 3))) (mC (.int 2147483587))))
    (AG (Ao 5 (mOp Dm (mOp Ah (mOp Ah (mOp BW (A2 5) (A2 5)) (mOp BW (mC (.int 16807)) (A2 5))) (mC (.int 1))) (mC (.int 2147483579))))
    (Ab (mOp Dm (mOp FL (A2 5) (mC (.int 256))) (A2 1))))))))))))
noncomputable def AN:List D->Hd->Option (D × Hd):=mkF 2 6 Mg
noncomputable abbrev Ce:Stmt:=top 28
theorem sc_works:FnScope ["_law_tape_here","_law_many","_law_long","_law_heavy","_law_low","_law_coming","_law_found","_law_j","_law_length","_law_weight","_law_one","_law_small","_law_by"] ["_law_tape_here","_law_many"] (A9 Ce):=⟨rfl,rfl,rfl,by decide +kernel,rfl,by decide +kernel,by decide +kernel⟩
@[reducible] noncomputable def KQ:MS:=(AG (Fp (GZ (CN (A1 (Av (A1 (mC (.int 20)) (A1 (mC (.int 10)) (A1 (mC (.int 0)) A7)))) (A1 (Av (A1 (mC (.int 3)) (A1 (mC (.int 3)) (A1 (mC (.int 0)) A7)))) (A1 (Av (A1 (mC (.int 20)) (A1 (mC (.int 2)) (A1 (mC (.int 0)) A7)))) (A1 (Av (A1 (mC (.int 1000000)) (A1 (mC (.int 1000001)) (A1 (mC (.int 0)) A7)))) A7))))) (AC 2 AN (A1 (A2 0) (A1 (mC (.int 4)) A7)))) (DD 3 (Aw (AS 2) (Aw (AS 3) (Aw (AS 4) DE)))))
    (AG (BR (Fq (Aj (mOp gEq (A2 2) (mC (.int 1000000)))) (Aj (mOp gEq (AC 2 AN (A1 (A2 0) (A1 (mC (.int 2)) A7))) (mC (.int 0)))))
      (Fp (Av (A1 (mC (.int 8)) (A1 (mC (.int 9)) (A1 (mC (.int 999992)) A7)))) (DD 3 (Aw (AS 2) (Aw (AS 3) (Aw (AS 4) DE)))))
      BQ)
    (AG (Ao 5 (GZ (CN (A1 (mC (.int 0)) (A1 (AC 2 AN (A1 (A2 0) (A1 (mC (.int 61)) A7))) A7))) (AC 2 AN (A1 (A2 0) (A1 (mC (.int 2)) A7)))))
    (AG (Ao 6 (DF (CN A7)))
    (AG (Dl (FG (A1 (A2 1) A7)) (AS 7)
      (AG (C0 [8,9] (A1 (mOp Ah (mOp Ah (mC (.int 1)) (A2 4)) (AC 2 AN (A1 (A2 0) (A1 (A2 2) A7)))) (A1 (mOp Ah (A2 4) (AC 2 AN (A1 (A2 0) (A1 (A2 3) A7)))) A7)))
    (AG (BR (Fq (Aj (mOp gGt (A2 7) (mC (.int 0)))) (Aj (mOp gEq (AC 2 AN (A1 (A2 0) (A1 (mC (.int 3)) A7))) (mC (.int 0)))))
      (AG (Ao 10 (mOp gIx (A2 6) (AC 2 AN (A1 (A2 0) (A1 (A2 7) A7)))))
    (AG (Ao 11 (FJ (mOp gLe (mOp BW (mOp gIx (A2 10) (mC (.int 0))) (mC (.int 3))) (A2 2)) (mOp gLt (mOp BW (mOp gIx (mOp gIx (A2 10) (mC (.int 2))) (mC (.int 1))) (mC (.int 3))) (A2 3))))
    (AG (Ao 12 (mIf (Dk (A2 11)) (mOp Ah (mC (.int 1)) (AC 2 AN (A1 (A2 0) (A1 (mC (.int 3)) A7)))) (mC (.int 1))))
    (C0 [8,9] (A1 (mOp BW (mOp gIx (A2 10) (mC (.int 0))) (A2 12)) (A1 (mOp BW (mOp gIx (mOp gIx (A2 10) (mC (.int 2))) (mC (.int 1))) (A2 12)) A7))))))
      BQ)
    (Ba (mMt Bf (A2 6) (A1 (Av (A1 (A2 8) (A1 (A2 5) (A1 (Av (A1 (mC (.str "ends")) (A1 (A2 9) A7))) A7)))) A7))))))
    (Ab (mCB (f1 true Cu) (A1 (A2 6) A7))))))))
noncomputable def Dz:List D->Hd->Option (D × Hd):=mkF 2 13 KQ
noncomputable abbrev DV:Stmt:=top 29
theorem sc_cost:FnScope ["_law_tape_here","_law_due_here","_law_weight","_law_at","_law_told_here","_law_rows","_law_k","_law_costs"] ["_law_tape_here"] (A9 DV):=⟨rfl,rfl,rfl,by decide +kernel,rfl,by decide +kernel,by decide +kernel⟩
@[reducible] noncomputable def Mi:MS:=(AG (C0 [1,2] (A1 (mOp Ij (AC 2 AN (A1 (A2 0) (A1 (mC (.int 500)) A7))) (mC (.int 99))) (A1 (AC 2 AN (A1 (A2 0) (A1 (mC (.int 10)) A7))) A7)))
    (AG (GE 3 4 5 (A1 (mCB HP (A1 (A2 1) (A1 (mC (.int 300)) A7))) (A1 (mC (.int 0)) (A1 (DF (CN A7)) A7))))
    (AG (Dl (FG (A1 (mOp Ah (mC (.int 1)) (AC 2 AN (A1 (A2 0) (A1 (mC (.int 5)) A7)))) A7)) (AS 6)
      (AG (Ao 3 (mOp Ah (mOp Ah (A2 3) (mC (.int 1))) (AC 2 AN (A1 (A2 0) (A1 (mC (.int 20)) A7)))))
    (AG (Ao 4 (mOp Ah (A2 4) (AC 2 AN (A1 (A2 0) (A1 (mC (.int 20)) A7)))))
    (Ba (mMt Bf (A2 5) (A1 (Av (A1 (A2 3) (A1 (A2 4) A7))) A7))))))
    (AG (Ao 7 (DF (CN (A1 (Av (A1 (mC (.str "late")) (A1 (A2 1) A7))) (A1 (Av (A1 (mC (.str "tardy")) (A1 (A2 1) (A1 (A2 2) A7)))) (A1 (Av (A1 (mC (.str "miss")) (A1 (A2 1) (A1 (A2 2) A7)))) A7))))))
    (AG (Ba (mMt Bf (A2 7) (A1 (Av (A1 (mC (.str "steps")) (A1 (mCB (f1 true Cu) (A1 (A2 5) A7)) A7))) A7)))
    (Ab (mOp gIx (A2 7) (AC 2 AN (A1 (A2 0) (A1 (mC (.int 4)) A7))))))))))
noncomputable def G0:List D->Hd->Option (D × Hd):=mkF 1 8 Mi
noncomputable abbrev C9:Stmt:=top 30
theorem sc_unlike:FnScope ["_law_tape_here","_law_works_here","_law_at","_law_by","_law_length","_law_coming","_law_cost_here"] ["_law_tape_here","_law_works_here"] (A9 C9):=⟨rfl,rfl,rfl,by decide +kernel,rfl,by decide +kernel,by decide +kernel⟩
@[reducible] noncomputable def JY:MS:=(AG (C0 [2,3] (A1 (AC 2 AN (A1 (A2 0) (A1 (mCB (f1 true CO) (A1 (A2 1) A7)) A7))) (A1 (mOp Ah (mC (.int 1)) (AC 2 AN (A1 (A2 0) (A1 (mC (.int 5)) A7)))) A7)))
    (AG (Fp (mOp gIx (A2 1) (A2 2)) (DD 3 (Aw (AS 4) (Aw (AS 5) (Aw (AS 6) DE)))))
    (Ab (mOp Ah (mOp Lc (EU (A2 1) Bu (Cs (A2 2))) (Av (A1 (Av (A1 (A2 4) (A1 (mOp Dm (mOp Ah (A2 5) (A2 3)) (mC (.int 61))) (A1 (A2 6) A7)))) A7))) (EU (A2 1) (Cs (mOp Ah (A2 2) (mC (.int 1)))) Bu)))))
noncomputable def DI:List D->Hd->Option (D × Hd):=mkF 2 7 JY
noncomputable abbrev Cf:Stmt:=top 31
theorem sc_other:FnScope ["_law_tape_here","_law_works_here","_law_at","_law_cost_here","_law_one"] ["_law_tape_here","_law_works_here"] (A9 Cf):=⟨rfl,rfl,rfl,by decide +kernel,rfl,by decide +kernel,by decide +kernel⟩
@[reducible] noncomputable def KR:MS:=(AG (C0 [2,3] (A1 (AC 2 AN (A1 (A2 0) (A1 (mCB (f1 true CO) (A1 (A2 1) A7)) A7))) (A1 (AC 2 G0 (A1 (A2 0) A7)) A7)))
    (AG (Ao 4 (Av (A1 (mOp gIx (mOp gIx (A2 1) (A2 2)) (mC (.int 0))) (A1 (mOp gIx (mOp gIx (A2 1) (A2 2)) (mC (.int 1))) (A1 (A2 3) A7)))))
    (Ab (mOp Ah (mOp Lc (EU (A2 1) Bu (Cs (A2 2))) (Av (A1 (A2 4) A7))) (EU (A2 1) (Cs (mOp Ah (A2 2) (mC (.int 1)))) Bu)))))
noncomputable def Ez:List D->Hd->Option (D × Hd):=mkF 2 5 KR
noncomputable abbrev EL:Stmt:=top 32
theorem sc_due:FnScope ["_law_works_here","_law_due_here","_law_j","_law_one","_law_at","_law_i","_law_other_here","_law_side"] ["_law_works_here"] (A9 EL):=⟨rfl,rfl,rfl,by decide +kernel,rfl,by decide +kernel,by decide +kernel⟩
@[reducible] noncomputable def Ox:MS:=(AG (BR (Aj (mOp gGt (Dy (Bn 3 [] (C6 (A2 0)) (DD 3 (Aw (AS 0) (Aw (AS 1) (Aw (AS 2) DE)))) Cb (A2 1))) (mC (.int 1))))
      (Ab (Av (A1 (mC (.str "no")) (A1 (mC (.str "coming")) A7))))
      BQ)
    (AG (BR (Aj (Hn false (mC (.bl false)) (Bn 3 [] (C6 (A2 0)) (DD 3 (Aw (AS 0) (Aw (AS 1) (Aw (AS 2) DE)))) Cb (mOp gEq (mOp gIx (A2 2) (mC (.int 0))) (mC (.str "ends"))))))
      (Ab (Av (A1 (mC (.str "no")) (A1 (mC (.str "ends")) A7))))
      BQ)
    (AG (Ao 1 (DF (JZ (CN (A1 (mC (.int 0)) A7)) (mCB (f1 true CO) (A1 (A2 0) A7)))))
    (AG (Dl (Dr (C6 (A2 0))) (DD 2 (Aw (AS 2) (Aw (AS 3) DE)))
      (AG (Ao 4 (mC (.int 0)))
    (AG (Dl (Dr (C6 (A2 0))) (DD 2 (Aw (AS 5) (Aw (AS 6) DE)))
      (AG (Ao 7 (mOp Ij (mOp BW (mOp gIx (mOp gIx (A2 6) (mC (.int 2))) (mC (.int 1))) (mOp gIx (A2 3) (mC (.int 0)))) (mOp BW (mOp gIx (mOp gIx (A2 3) (mC (.int 2))) (mC (.int 1))) (mOp gIx (A2 6) (mC (.int 0))))))
    (Ao 4 (mOp Ah (A2 4) (mCB Lf (A1 (Ja (mOp gGt (A2 7) (mC (.int 0))) (FJ (mOp gEq (A2 7) (mC (.int 0))) (mOp gLt (A2 5) (A2 2)))) A7))))))
    (Dq (A2 1) (A2 4) (A2 2)))))
    (Ab (Av (A1 (mC (.str "told")) (A1 (mCB (f1 true Cu) (A1 (A2 1) A7)) A7))))))))
noncomputable def DP:List D->Hd->Option (D × Hd):=mkF 1 8 Ox
noncomputable abbrev DS:Stmt:=top 33
theorem sc_told:FnScope ["_law_works_here","_law_found","e","_law_strange"] ["_law_works_here"] (A9 DS):=⟨rfl,rfl,rfl,by decide +kernel,rfl,by decide +kernel,by decide +kernel⟩
@[reducible] noncomputable def Me:MS:=(AG (Ao 1 (Av (A1 (mC (.str "other")) A7)))
    (AG (Fj 2 3 1 (Ao 1 (Av (A1 (mC (.str "told")) (A1 (AC 0 BK (A1 (A2 0) A7)) A7))))
      (DG (Ao 1 (Av (A1 (mC (.str "told")) (A1 (AC 0 BK (A1 (A2 0) A7)) A7)))) (Ab (HH (mC (.str "told")) (AC 0 Bi (A1 (A2 0) A7))))))
    (Ab (A2 1))))
noncomputable def Dg:List D->Hd->Option (D × Hd):=mkF 1 4 Me
noncomputable abbrev DK:Stmt:=top 34
theorem sc_law:FnScope ["_law_script","_law_tape_here","_law_turn","_law_works_here","_law_unlike_here","_law_other_here","_law_thing"] ["_law_script"] (A9 DK):=⟨rfl,rfl,rfl,by decide +kernel,rfl,by decide +kernel,by decide +kernel⟩
@[reducible] noncomputable def Ow:MS:=(AG (Ao 1 (Er Fy (A1 (A2 0) A7)))
    (AG (Dl (FG (A1 (mC (.int 3)) A7)) (AS 2)
      (Fk (AG (Ao 3 (AC 2 Dz (A1 (A2 1) (A1 (mOp Ah (mC (.int 1)) (AC 2 AN (A1 (A2 1) (A1 (mC (.int 8)) A7)))) A7))))
    (AG (C0 [4,5] (A1 (AC 2 DI (A1 (A2 1) (A1 (A2 3) A7))) (A1 (AC 2 Ez (A1 (A2 1) (A1 (A2 3) A7))) A7)))
    (Dl (Jc (CN (A1 (A2 3) (A1 (A2 4) (A1 (A2 5) (A1 (AC 2 DI (A1 (A2 1) (A1 (A2 5) A7))) (A1 (A2 3) A7))))))) (AS 6)
      (Fk (BR (Aj (mOp gNe (mCB FP (A1 (AC 0 Dg (A1 (A2 6) A7)) A7)) (mCB FP (A1 (AC 0 DP (A1 (A2 6) A7)) A7))))
      (Ab (mC (.bl false)))
      BQ)))))))
    (Ab (mC (.bl true)))))
noncomputable def F_law:List D->Hd->Option (D × Hd):=mkF 1 7 Ow
section
variable{P:Program}{w:World}{K:PySem.W.Frag}{mg:Str->Option Value}{base:Heap}
theorem ok_common_divisor{f_common_divisor:Addr}{d_common_divisor:FuncData}(DA:DefAt K mg "common_divisor" B1 f_common_divisor d_common_divisor ["one","other"]) (B:BltA mg):FnOk P w K mg base CX0 1 f_common_divisor d_common_divisor ["one","other"] (spF K 2 BX):=by
  refine Ax (N:=["one","other"]) (m:=EB) DA sc_common_divisor λ cdv A outer s H E hr=>?_
  exact⟨_,(AA K (Ac K (i:=0) sc_common_divisor.nd rfl (by first|exact Or.inl rfl|exact Or.inr rfl) (DL K OS S4 B.abs L2.bt_abs (A0 K (qv K 0) (A6 K))))
    (AA K (Np K (CA K ((Ih).or (Em K hr.units)) (AM Gs Gu) (qv K 1) (A5 K))
      (AJ K (DW K (i:=0) (j:=1) rfl sc_common_divisor.nd rfl rfl (by decide) rfl rfl (A0 K (qv K 1) (A0 K (AK K CT CP (qv K 0) (qv K 1)) (A6 K))))))
    (AJ K (As K (qv K 0)))))⟩
theorem ok_fraction{f_fraction f_common_divisor:Addr}{d_fraction d_common_divisor:FuncData}(DA:DefAt K mg "fraction" Bk f_fraction d_fraction ["top","bottom"])(D_common_divisor:DefAt K mg "common_divisor" B1 f_common_divisor d_common_divisor ["one","other"])(G_common_divisor:FnOk P w K mg base CX0 1 f_common_divisor d_common_divisor ["one","other"] (spF K 2 BX))(B:BltA mg):FnOk P w K mg base CX0 2 f_fraction d_fraction ["top","bottom"] (spF K 2 Cz):=by
  refine Ax (N:=["top","bottom","shared"]) (m:=HF) DA sc_fraction λ cdv A outer s H E hr=>?_
  exact⟨_,(AA K (Cp K (CA K HB Gv (qv K 1) (A5 K))
      (AJ K (DW K (i:=0) (j:=1) rfl sc_fraction.nd rfl rfl (by decide) rfl rfl (A0 K (JL K (qv K 0)) (A0 K (JL K (qv K 1)) (A6 K)))))
      (Bq K))
    (AA K (Ac K (i:=2) sc_fraction.nd rfl (by first|exact Or.inl rfl|exact Or.inr rfl) (AE K 0 G_common_divisor hr D_common_divisor (A0 K (qv K 0) (A0 K (qv K 1) (A6 K))) AI))
    (AJ K (As K (Az K (A0 K (AK K En Ee (qv K 0) (qv K 2)) (A0 K (AK K En Ee (qv K 1) (qv K 2)) (A6 K))))))))⟩
theorem ok_less{f_less:Addr}{d_less:FuncData}(DA:DefAt K mg "less" DU f_less d_less ["one","other"]) (B:BltA mg):FnOk P w K mg base CX0 1 f_less d_less ["one","other"] (spF K 2 Fz):=by
  refine Ax (N:=["one","other"]) (m:=Mh) DA PY λ cdv A outer s H E hr=>?_
  exact⟨_,(AJ K (As K (CS K HB Gv (AK K Bs Bp (AO K (qv K 0) (A5 K)) (AO K (qv K 1) (A5 K))) (AK K Bs Bp (AO K (qv K 1) (A5 K)) (AO K (qv K 0) (A5 K))))))⟩
theorem ok_falling{f_falling f_less:Addr}{d_falling d_less:FuncData}(DA:DefAt K mg "falling" Bm f_falling d_falling ["ratios"])(D_less:DefAt K mg "less" DU f_less d_less ["one","other"])(G_less:FnOk P w K mg base CX0 1 f_less d_less ["one","other"] (spF K 2 Fz))(B:BltA mg):FnOk P w K mg base CX0 2 f_falling d_falling ["ratios"] (spF K 1 Cl):=by
  refine Ax (N:=["ratios","row","k","ratio"]) (m:=IE) DA sc_falling λ cdv A outer s H E hr=>?_
  exact⟨_,(AA K (Ac K (i:=1) sc_falling.nd rfl (by first|exact Or.inl rfl|exact Or.inr rfl) (DZ K (CQ K (A6 K))))
    (AA K (E7 K rfl (Q2 K B.enumerate (Q0 K (qv K 0))) (DX K (n:=2) rfl (Al K (AR K (i:=2) sc_falling.nd rfl (by first|exact Or.inl rfl|exact Or.inr rfl)) (Al K (AR K (i:=3) sc_falling.nd rfl (by first|exact Or.inl rfl|exact Or.inr rfl)) (Ci K))))
      (AJ K (Ch K (Ig K PySem.F.slot_list_insert PySem.F.type_list_insert Mc M7 (qv K 1) (A0 K (GA K (CD K) E3 B.len L2.bt_len (CI K (loc:=["j"]) (fr:=["ratios","ratio"]) (ix:=[0,3]) rfl ⟨rfl,by decide +kernel,rfl,rfl,rfl,by decide +kernel⟩ (Q1 K (qv K 1)) (λ _ _ _=>(AR K (i:=0) (show(["j","ratios","ratio"]:List Str).Nodup from by decide +kernel) rfl (by first|exact Or.inl rfl|exact Or.inr rfl))) (λ _ _ _=>(SR K (SL K (E6 K (AE K 0 G_less hr D_less (A0 K (AO K (qv K 1) (qv K 0)) (A0 K (qv K 2) (A6 K))) AI))))) (λ _ _ _=>(qv K 0)))) (A0 K (qv K 2) (A6 K)))))))
    (AJ K (As K (qv K 1)))))⟩
theorem ok_length_of{f_length_of:Addr}{d_length_of:FuncData}(DA:DefAt K mg "length_of" BU f_length_of d_length_of ["works","some"]) (B:BltA mg):FnOk P w K mg base CX0 1 f_length_of d_length_of ["works","some"] (spF K 2 CZ):=by
  refine Ax (N:=["works","some"]) (m:=GL) DA J7 λ cdv A outer s H E hr=>?_
  exact⟨_,(AJ K (As K (GA K ((IL K rfl).or (HV K rfl)) M8 B.sum L2.bt_sum (CI K (loc:=["j"]) (fr:=["works"]) (ix:=[0]) rfl ⟨rfl,by decide +kernel,rfl,rfl,rfl,by decide +kernel⟩ (E8 K (qv K 1)) (λ _ _ _=>(AR K (i:=0) (show(["j","works"]:List Str).Nodup from by decide +kernel) rfl (by first|exact Or.inl rfl|exact Or.inr rfl))) (λ _ _ _=>(DY K)) (λ _ _ _=>(AO K (AO K (qv K 1) (qv K 0)) (A5 K)))))))⟩
theorem ok_same_coming{f_same_coming:Addr}{d_same_coming:FuncData}(DA:DefAt K mg "same_coming" BA f_same_coming d_same_coming ["works"]) (B:BltA mg):FnOk P w K mg base CX0 1 f_same_coming d_same_coming ["works"] (spF K 1 BC):=by
  refine Ax (N:=["works","coming"]) (m:=FX) DA sc_same_coming λ cdv A outer s H E hr=>?_
  exact⟨_,(AA K (Ac K (i:=1) sc_same_coming.nd rfl (by first|exact Or.inl rfl|exact Or.inr rfl) (AO K (AO K (qv K 0) (A5 K)) (A5 K)))
    (AA K (Cp K (E6 K (GA K (NA K rfl) S2 B.all L2.bt_all (CI K (loc:=["work"]) (fr:=["coming"]) (ix:=[1]) rfl ⟨rfl,by decide +kernel,rfl,rfl,rfl,by decide +kernel⟩ (E8 K (qv K 0)) (λ _ _ _=>(AR K (i:=0) (show(["work","coming"]:List Str).Nodup from by decide +kernel) rfl (by first|exact Or.inl rfl|exact Or.inr rfl))) (λ _ _ _=>(DY K)) (λ _ _ _=>(CS K ((GC).or (Dx K hr.units)) (AM Ef Eg) (AO K (qv K 0) (A5 K)) (qv K 1))))))
      (AJ K (As K (qv K 1)))
      (Bq K))
    (AJ K (As K (SS K)))))⟩
theorem okx_one_coming{f_one_coming f_same_coming:Addr}{d_one_coming d_same_coming:FuncData}(DA:DefAt K mg "one_coming" B7 f_one_coming d_one_coming ["works"])(D_same_coming:DefAt K mg "same_coming" BA f_same_coming d_same_coming ["works"])(G_same_coming:FnOk P w K mg base CX0 1 f_same_coming d_same_coming ["works"] (spF K 1 BC)){C Bc fI c1 c2 c3 c4 c5 c6 c7:Addr}{fdI:FuncData}(EX:ExcW P w K mg base C Bc fI c1 c2 c3 c4 c5 c6 c7 fdI) (B:BltA mg):FnOk P w K mg base (CXN C P w) 3 f_one_coming d_one_coming ["works"] (spX C "word" K 1 Bw):=by
  refine okX (N:=["works","coming"]) (m:=FW) DA sc_one_coming λ cdv A outer s H E hr=>?_
  exact⟨_,(E5 (Pw (Ac K (i:=1) sc_one_coming.nd rfl (by first|exact Or.inl rfl|exact Or.inr rfl) (AE K 0 G_same_coming hr D_same_coming (A0 K (qv K 0) (A6 K)) AI)))
    (E5 (Oq (MJ K (qv K 1))
      (G8 (IB EX hr (BG K)))
      KJ) Ff))⟩
theorem ok_one_coming{f_one_coming f_same_coming:Addr}{d_one_coming d_same_coming:FuncData}(DA:DefAt K mg "one_coming" B7 f_one_coming d_one_coming ["works"])(D_same_coming:DefAt K mg "same_coming" BA f_same_coming d_same_coming ["works"])(G_same_coming:FnOk P w K mg base CX0 1 f_same_coming d_same_coming ["works"] (spF K 1 BC))(B:BltA mg):FnOk P w K mg base CX0 2 f_one_coming d_one_coming ["works"] (spF K 1 B8):=by
  refine Ax (N:=["works","coming"]) (m:=Fi) DA sc_one_coming λ cdv A outer s H E hr=>?_
  exact⟨_,(AA K (Ac K (i:=1) sc_one_coming.nd rfl (by first|exact Or.inl rfl|exact Or.inr rfl) (AE K 0 G_same_coming hr D_same_coming (A0 K (qv K 0) (A6 K)) AI))
    (AA K (Cp K (MJ K (qv K 1))
      (AJ K (JH K))
      (Bq K))
    (AJ K (As K (qv K 1)))))⟩
theorem okx_refuse_other_costs{f_refuse_other_costs:Addr}{d_refuse_other_costs:FuncData}(DA:DefAt K mg "refuse_other_costs" AV f_refuse_other_costs d_refuse_other_costs ["works","word"]) {C Bc fI c1 c2 c3 c4 c5 c6 c7:Addr}{fdI:FuncData}(EX:ExcW P w K mg base C Bc fI c1 c2 c3 c4 c5 c6 c7 fdI) (B:BltA mg):FnOk P w K mg base (CXN C P w) 3 f_refuse_other_costs d_refuse_other_costs ["works","word"] (spX C "word" K 2 B3):=by
  refine okX (N:=["works","word"]) (m:=Cj) DA Cd λ cdv A outer s H E hr=>?_
  exact⟨_,(G8 (Oq (E6 K (GA K (IM K rfl) M9 B.any L2.bt_any (CI K (loc:=["work"]) (fr:=["word"]) (ix:=[1]) rfl ⟨rfl,by decide +kernel,rfl,rfl,rfl,by decide +kernel⟩ (E8 K (qv K 0)) (λ _ _ _=>(AR K (i:=0) (show(["work","word"]:List Str).Nodup from by decide +kernel) rfl (by first|exact Or.inl rfl|exact Or.inr rfl))) (λ _ _ _=>(DY K)) (λ _ _ _=>(CS K ((Ih).or (Em K hr.units)) (AM Gs Gu) (AO K (AO K (qv K 0) (A5 K)) (A5 K)) (qv K 1))))))
      (G8 (IB EX hr (qv K 1)))
      KJ))⟩
theorem ok_refuse_other_costs{f_refuse_other_costs:Addr}{d_refuse_other_costs:FuncData}(DA:DefAt K mg "refuse_other_costs" AV f_refuse_other_costs d_refuse_other_costs ["works","word"]) (B:BltA mg):FnOk P w K mg base CX0 1 f_refuse_other_costs d_refuse_other_costs ["works","word"] (spF K 2 Ak):=by
  refine Ax (N:=["works","word"]) (m:=Cr) DA Cd λ cdv A outer s H E hr=>?_
  exact⟨_,(AJ K (Cp K (E6 K (GA K (IM K rfl) M9 B.any L2.bt_any (CI K (loc:=["work"]) (fr:=["word"]) (ix:=[1]) rfl ⟨rfl,by decide +kernel,rfl,rfl,rfl,by decide +kernel⟩ (E8 K (qv K 0)) (λ _ _ _=>(AR K (i:=0) (show(["work","word"]:List Str).Nodup from by decide +kernel) rfl (by first|exact Or.inl rfl|exact Or.inr rfl))) (λ _ _ _=>(DY K)) (λ _ _ _=>(CS K ((Ih).or (Em K hr.units)) (AM Gs Gu) (AO K (AO K (qv K 0) (A5 K)) (A5 K)) (qv K 1))))))
      (AJ K (JH K))
      (Bq K)))⟩
theorem ok_weight_of{f_weight_of:Addr}{d_weight_of:FuncData}(DA:DefAt K mg "weight_of" BT f_weight_of d_weight_of ["work"]) (B:BltA mg):FnOk P w K mg base CX0 1 f_weight_of d_weight_of ["work"] (spF K 1 CY):=by
  refine Ax (N:=["work"]) (m:=GK) DA J6 λ cdv A outer s H E hr=>?_
  exact⟨_,(AJ K (As K (AO K (AO K (qv K 0) (A5 K)) (JL K (A5 K)))))⟩
theorem okx_weighted_coming{f_weighted_coming f_one_coming f_refuse_other_costs:Addr}{d_weighted_coming d_one_coming d_refuse_other_costs:FuncData}(DA:DefAt K mg "weighted_coming" Af f_weighted_coming d_weighted_coming ["works"])(D_one_coming:DefAt K mg "one_coming" B7 f_one_coming d_one_coming ["works"])(G_one_coming:FnOk P w K mg base CX0 2 f_one_coming d_one_coming ["works"] (spF K 1 B8))(D_refuse_other_costs:DefAt K mg "refuse_other_costs" AV f_refuse_other_costs d_refuse_other_costs ["works","word"])(G_refuse_other_costs:FnOk P w K mg base CX0 1 f_refuse_other_costs d_refuse_other_costs ["works","word"] (spF K 2 Ak)){C Bc fI c1 c2 c3 c4 c5 c6 c7:Addr}{fdI:FuncData}(EX:ExcW P w K mg base C Bc fI c1 c2 c3 c4 c5 c6 c7 fdI)(GX_one_coming:FnOk P w K mg base (CXN C P w) 3 f_one_coming d_one_coming ["works"] (spX C "word" K 1 Bw))(GX_refuse_other_costs:FnOk P w K mg base (CXN C P w) 3 f_refuse_other_costs d_refuse_other_costs ["works","word"] (spX C "word" K 2 B3))(B:BltA mg):FnOk P w K mg base (CXN C P w) 4 f_weighted_coming d_weighted_coming ["works"] (spX C "word" K 1 BJ):=by
  refine okX (N:=["works","coming"]) (m:=Db) DA sc_weighted_coming λ cdv A outer s H E hr=>?_
  exact⟨_,(E5 (Gy (Ac K (i:=1) sc_weighted_coming.nd rfl (by first|exact Or.inl rfl|exact Or.inr rfl) (AE K 0 G_one_coming hr D_one_coming (A0 K (qv K 0) (A6 K)) AI)) (MH (EM 0 GX_one_coming hr D_one_coming (A0 K (qv K 0) (A6 K)) GD)))
    (E5 (Gy (Ch K (AE K 0 G_refuse_other_costs hr D_refuse_other_costs (A0 K (qv K 0) (A0 K (BG K) (A6 K))) AI)) (KK (EM 0 GX_refuse_other_costs hr D_refuse_other_costs (A0 K (qv K 0) (A0 K (BG K) (A6 K))) GD))) Ff))⟩
theorem ok_weighted_coming{f_weighted_coming f_one_coming f_refuse_other_costs:Addr}{d_weighted_coming d_one_coming d_refuse_other_costs:FuncData}(DA:DefAt K mg "weighted_coming" Af f_weighted_coming d_weighted_coming ["works"])(D_one_coming:DefAt K mg "one_coming" B7 f_one_coming d_one_coming ["works"])(G_one_coming:FnOk P w K mg base CX0 2 f_one_coming d_one_coming ["works"] (spF K 1 B8))(D_refuse_other_costs:DefAt K mg "refuse_other_costs" AV f_refuse_other_costs d_refuse_other_costs ["works","word"])(G_refuse_other_costs:FnOk P w K mg base CX0 1 f_refuse_other_costs d_refuse_other_costs ["works","word"] (spF K 2 Ak))(B:BltA mg):FnOk P w K mg base CX0 3 f_weighted_coming d_weighted_coming ["works"] (spF K 1 Ay):=by
  refine Ax (N:=["works","coming"]) (m:=Dn) DA sc_weighted_coming λ cdv A outer s H E hr=>?_
  exact⟨_,(AA K (Ac K (i:=1) sc_weighted_coming.nd rfl (by first|exact Or.inl rfl|exact Or.inr rfl) (AE K 0 G_one_coming hr D_one_coming (A0 K (qv K 0) (A6 K)) AI))
    (AA K (Ch K (AE K 0 G_refuse_other_costs hr D_refuse_other_costs (A0 K (qv K 0) (A0 K (BG K) (A6 K))) AI))
    (AJ K (As K (qv K 1)))))⟩
theorem ok_ratio_of{f_ratio_of f_fraction f_length_of f_weight_of:Addr}{d_ratio_of d_fraction d_length_of d_weight_of:FuncData}(DA:DefAt K mg "ratio_of" BP f_ratio_of d_ratio_of ["works","some"])(D_fraction:DefAt K mg "fraction" Bk f_fraction d_fraction ["top","bottom"])(G_fraction:FnOk P w K mg base CX0 2 f_fraction d_fraction ["top","bottom"] (spF K 2 Cz))(D_length_of:DefAt K mg "length_of" BU f_length_of d_length_of ["works","some"])(G_length_of:FnOk P w K mg base CX0 1 f_length_of d_length_of ["works","some"] (spF K 2 CZ))(D_weight_of:DefAt K mg "weight_of" BT f_weight_of d_weight_of ["work"])(G_weight_of:FnOk P w K mg base CX0 1 f_weight_of d_weight_of ["work"] (spF K 1 CY))(B:BltA mg):FnOk P w K mg base CX0 3 f_ratio_of d_ratio_of ["works","some"] (spF K 2 CL):=by
  refine Ax (N:=["works","some"]) (m:=HE) DA K0 λ cdv A outer s H E hr=>?_
  exact⟨_,(AJ K (As K (AE K 0 G_fraction hr D_fraction (A0 K (GA K ((IL K rfl).or (HV K rfl)) M8 B.sum L2.bt_sum (CI K (loc:=["j"]) (fr:=["works"]) (ix:=[0]) rfl ⟨rfl,by decide +kernel,rfl,rfl,rfl,by decide +kernel⟩ (E8 K (qv K 1)) (λ _ _ _=>(AR K (i:=0) (show(["j","works"]:List Str).Nodup from by decide +kernel) rfl (by first|exact Or.inl rfl|exact Or.inr rfl))) (λ _ _ _=>(DY K)) (λ _ _ _=>(AE K 0 G_weight_of hr D_weight_of (A0 K (AO K (qv K 1) (qv K 0)) (A6 K)) AI)))) (A0 K (AE K 0 G_length_of hr D_length_of (A0 K (qv K 0) (A0 K (qv K 1) (A6 K))) AI) (A6 K))) AI)))⟩
theorem okx_ratio_order{f_ratio_order f_falling f_weighted_coming f_ratio_of:Addr}{d_ratio_order d_falling d_weighted_coming d_ratio_of:FuncData}(DA:DefAt K mg "ratio_order" BB f_ratio_order d_ratio_order ["works"])(D_falling:DefAt K mg "falling" Bm f_falling d_falling ["ratios"])(G_falling:FnOk P w K mg base CX0 2 f_falling d_falling ["ratios"] (spF K 1 Cl))(D_weighted_coming:DefAt K mg "weighted_coming" Af f_weighted_coming d_weighted_coming ["works"])(G_weighted_coming:FnOk P w K mg base CX0 3 f_weighted_coming d_weighted_coming ["works"] (spF K 1 Ay))(D_ratio_of:DefAt K mg "ratio_of" BP f_ratio_of d_ratio_of ["works","some"])(G_ratio_of:FnOk P w K mg base CX0 3 f_ratio_of d_ratio_of ["works","some"] (spF K 2 CL)){C Bc fI c1 c2 c3 c4 c5 c6 c7:Addr}{fdI:FuncData}(EX:ExcW P w K mg base C Bc fI c1 c2 c3 c4 c5 c6 c7 fdI)(GX_weighted_coming:FnOk P w K mg base (CXN C P w) 4 f_weighted_coming d_weighted_coming ["works"] (spX C "word" K 1 BJ))(B:BltA mg):FnOk P w K mg base (CXN C P w) 5 f_ratio_order d_ratio_order ["works"] (spX C "word" K 1 Bi):=by
  refine okX (N:=["works"]) (m:=Eo) DA Ec λ cdv A outer s H E hr=>?_
  exact⟨_,(E5 (Gy (Ch K (AE K 0 G_weighted_coming hr D_weighted_coming (A0 K (qv K 0) (A6 K)) AI)) (KK (EM 0 GX_weighted_coming hr D_weighted_coming (A0 K (qv K 0) (A6 K)) GD))) Ff)⟩
theorem ok_ratio_order{f_ratio_order f_falling f_weighted_coming f_ratio_of:Addr}{d_ratio_order d_falling d_weighted_coming d_ratio_of:FuncData}(DA:DefAt K mg "ratio_order" BB f_ratio_order d_ratio_order ["works"])(D_falling:DefAt K mg "falling" Bm f_falling d_falling ["ratios"])(G_falling:FnOk P w K mg base CX0 2 f_falling d_falling ["ratios"] (spF K 1 Cl))(D_weighted_coming:DefAt K mg "weighted_coming" Af f_weighted_coming d_weighted_coming ["works"])(G_weighted_coming:FnOk P w K mg base CX0 3 f_weighted_coming d_weighted_coming ["works"] (spF K 1 Ay))(D_ratio_of:DefAt K mg "ratio_of" BP f_ratio_of d_ratio_of ["works","some"])(G_ratio_of:FnOk P w K mg base CX0 3 f_ratio_of d_ratio_of ["works","some"] (spF K 2 CL))(B:BltA mg):FnOk P w K mg base CX0 4 f_ratio_order d_ratio_order ["works"] (spF K 1 BK):=by
  refine Ax (N:=["works"]) (m:=FY) DA Ec λ cdv A outer s H E hr=>?_
  exact⟨_,(AA K (Ch K (AE K 0 G_weighted_coming hr D_weighted_coming (A0 K (qv K 0) (A6 K)) AI))
    (AJ K (As K (HA K (DO K) (ET FE) B.tuple L2.bt_tuple (A0 K (JN K G_falling hr D_falling (A0 K (DZ K (CI K (loc:=["j"]) (fr:=["works"]) (ix:=[0]) rfl ⟨rfl,by decide +kernel,rfl,rfl,rfl,by decide +kernel⟩ (G9 K B.range (A0 K (DL K (CD K) (ET E3) B.len L2.bt_len (A0 K (qv K 0) (A6 K))) (A6 K))) (λ _ _ _=>(AR K (i:=0) (show(["j","works"]:List Str).Nodup from by decide +kernel) rfl (by first|exact Or.inl rfl|exact Or.inr rfl))) (λ _ _ _=>(DY K)) (λ _ _ _=>(AE K 0 G_ratio_of hr D_ratio_of (A0 K (qv K 1) (A0 K (Az K (A0 K (qv K 0) (A6 K))) (A6 K))) AI)))) (A6 K)) AI) (A6 K))))))⟩
theorem ok_tape{f_tape:Addr}{d_tape:FuncData}(DA:DefAt K mg "_law_tape" DT f_tape d_tape ["_law_script"]) (B:BltA mg):FnOk P w K mg base CX0 1 f_tape d_tape ["_law_script"] (spF K 1 Fy):=by
  refine Ax (N:=["_law_script"]) (m:=Mf) DA PV λ cdv A outer s H E hr=>?_
  exact⟨_,(AJ K (As K (DZ K (CQ K (A0 K (DZ K (Nq K B.list (SN K (qv K 0) (Ej K) (Ei K (A5 K))))) (A0 K (A5 K) (A0 K (A5 K) (A0 K (A5 K) (A6 K)))))))))⟩
theorem ok_pick{f_pick:Addr}{d_pick:FuncData}(DA:DefAt K mg "_law_pick" C2 f_pick d_pick ["_law_tape_here","_law_many"]) (B:BltA mg):FnOk P w K mg base CX0 1 f_pick d_pick ["_law_tape_here","_law_many"] (spF K 2 AN):=by
  refine Ax (N:=["_law_tape_here","_law_many","_law_found","_law_at","_law_cell","_law_mixed"]) (m:=Mg) DA sc_pick λ cdv A outer s H E hr=>?_
  exact⟨_,(AA K (Eh K (qv K 0) (A5 K) (AK K ((At).or (AW K)) (AM Aq Ae) (AO K (qv K 0) (A5 K)) (A5 K)))
    (AA K (Cp K (CA K Ii Ic (AO K (qv K 0) (A5 K)) (A5 K))
      (AA K (Ac K (i:=2) sc_pick.nd rfl (by first|exact Or.inl rfl|exact Or.inr rfl) (AK K CT CP (AO K (qv K 0) (A5 K)) (qv K 1)))
    (AA K (Eh K (qv K 0) (A5 K) (AK K En Ee (AO K (qv K 0) (A5 K)) (qv K 1)))
    (AJ K (As K (qv K 2)))))
      (Bq K))
    (AA K (Ac K (i:=3) sc_pick.nd rfl (by first|exact Or.inl rfl|exact Or.inr rfl) (AO K (qv K 0) (A5 K)))
    (AA K (Eh K (qv K 0) (A5 K) (AK K ((At).or (AW K)) (AM Aq Ae) (qv K 3) (A5 K)))
    (AA K (Ac K (i:=4) sc_pick.nd rfl (by first|exact Or.inl rfl|exact Or.inr rfl) (JM K (Py K (Sq K hr.units) (AO K (qv K 0) (A5 K)) (CQ K (A6 K))) (AO K (AO K (qv K 0) (A5 K)) (AK K CT CP (qv K 3) (DL K (CD K) (ET E3) B.len L2.bt_len (A0 K (AO K (qv K 0) (A5 K)) (A6 K))))) (A5 K)))
    (AA K (Cp K (QW.toT (JG K (CA K U6 Tv (qv K 4) (AK K So SG (A5 K) (A5 K))) (Hg K (CA K HB Gv (qv K 3) (DL K (CD K) (ET E3) B.len L2.bt_len (A0 K (AO K (qv K 0) (A5 K)) (A6 K)))))))
      (AA K (Eh K (qv K 0) (A5 K) (AK K En Ee (qv K 4) (qv K 1)))
    (AJ K (As K (AK K CT CP (qv K 4) (qv K 1)))))
      (Bq K))
    (AA K (Ac K (i:=5) sc_pick.nd rfl (by first|exact Or.inl rfl|exact Or.inr rfl) (AK K CT CP (AK K ((At).or (AW K)) (AM Aq Ae) (AK K ((At).or (AW K)) (AM Aq Ae) (AK K CT CP (qv K 4) (A5 K)) (AK K Bs Bp (A5 K) (AO K (qv K 0) (A5 K)))) (A5 K)) (A5 K)))
    (AA K (Ac K (i:=5) sc_pick.nd rfl (by first|exact Or.inl rfl|exact Or.inr rfl) (AK K CT CP (AK K ((At).or (AW K)) (AM Aq Ae) (AK K ((At).or (AW K)) (AM Aq Ae) (AK K Bs Bp (qv K 5) (qv K 5)) (AK K Bs Bp (A5 K) (AO K (qv K 0) (A5 K)))) (A5 K)) (A5 K)))
    (AA K (Ac K (i:=5) sc_pick.nd rfl (by first|exact Or.inl rfl|exact Or.inr rfl) (AK K CT CP (AK K ((At).or (AW K)) (AM Aq Ae) (AK K ((At).or (AW K)) (AM Aq Ae) (AK K Bs Bp (qv K 5) (qv K 5)) (AK K Bs Bp (A5 K) (qv K 5))) (A5 K)) (A5 K)))
    (AJ K (As K (AK K CT CP (AK K En Ee (qv K 5) (A5 K)) (qv K 1)))))))))))))⟩
theorem ok_works{f_works f_pick:Addr}{d_works d_pick:FuncData}(DA:DefAt K mg "_law_works" Ce f_works d_works ["_law_tape_here","_law_many"])(D_pick:DefAt K mg "_law_pick" C2 f_pick d_pick ["_law_tape_here","_law_many"])(G_pick:FnOk P w K mg base CX0 1 f_pick d_pick ["_law_tape_here","_law_many"] (spF K 2 AN))(B:BltA mg):FnOk P w K mg base CX0 2 f_works d_works ["_law_tape_here","_law_many"] (spF K 2 Dz):=by
  refine Ax (N:=["_law_tape_here","_law_many","_law_long","_law_heavy","_law_low","_law_coming","_law_found","_law_j","_law_length","_law_weight","_law_one","_law_small","_law_by"]) (m:=KQ) DA sc_works λ cdv A outer s H E hr=>?_
  exact⟨_,(AA K (JI K (MM K (CQ K (A0 K (Az K (A0 K (A5 K) (A0 K (A5 K) (A0 K (A5 K) (A6 K))))) (A0 K (Az K (A0 K (A5 K) (A0 K (A5 K) (A0 K (A5 K) (A6 K))))) (A0 K (Az K (A0 K (A5 K) (A0 K (A5 K) (A0 K (A5 K) (A6 K))))) (A0 K (Az K (A0 K (A5 K) (A0 K (A5 K) (A0 K (A5 K) (A6 K))))) (A6 K)))))) (AE K 2 G_pick hr D_pick (A0 K (qv K 0) (A0 K (A5 K) (A6 K))) AI)) (DX K (n:=3) rfl (Al K (AR K (i:=2) sc_works.nd rfl (by first|exact Or.inl rfl|exact Or.inr rfl)) (Al K (AR K (i:=3) sc_works.nd rfl (by first|exact Or.inl rfl|exact Or.inr rfl)) (Al K (AR K (i:=4) sc_works.nd rfl (by first|exact Or.inl rfl|exact Or.inr rfl)) (Ci K))))))
    (AA K (Cp K (QW.toT (JG K (CA K ((GC).or (Dx K hr.units)) (AM Ef Eg) (qv K 2) (A5 K)) (Hg K (CA K ((GC).or (Dx K hr.units)) (AM Ef Eg) (AE K 2 G_pick hr D_pick (A0 K (qv K 0) (A0 K (A5 K) (A6 K))) AI) (A5 K)))))
      (AJ K (JI K (Az K (A0 K (A5 K) (A0 K (A5 K) (A0 K (A5 K) (A6 K))))) (DX K (n:=3) rfl (Al K (AR K (i:=2) sc_works.nd rfl (by first|exact Or.inl rfl|exact Or.inr rfl)) (Al K (AR K (i:=3) sc_works.nd rfl (by first|exact Or.inl rfl|exact Or.inr rfl)) (Al K (AR K (i:=4) sc_works.nd rfl (by first|exact Or.inl rfl|exact Or.inr rfl)) (Ci K)))))))
      (Bq K))
    (AA K (Ac K (i:=5) sc_works.nd rfl (by first|exact Or.inl rfl|exact Or.inr rfl) (MM K (CQ K (A0 K (A5 K) (A0 K (AE K 2 G_pick hr D_pick (A0 K (qv K 0) (A0 K (A5 K) (A6 K))) AI) (A6 K)))) (AE K 2 G_pick hr D_pick (A0 K (qv K 0) (A0 K (A5 K) (A6 K))) AI)))
    (AA K (Ac K (i:=6) sc_works.nd rfl (by first|exact Or.inl rfl|exact Or.inr rfl) (DZ K (CQ K (A6 K))))
    (AA K (E7 K rfl (G9 K B.range (A0 K (qv K 1) (A6 K))) (AR K (i:=7) sc_works.nd rfl (by first|exact Or.inl rfl|exact Or.inr rfl))
      (AA K (DW K (i:=8) (j:=9) rfl sc_works.nd rfl rfl (by decide) rfl rfl (A0 K (AK K ((At).or (AW K)) (AM Aq Ae) (AK K ((At).or (AW K)) (AM Aq Ae) (A5 K) (qv K 4)) (AE K 2 G_pick hr D_pick (A0 K (qv K 0) (A0 K (qv K 2) (A6 K))) AI)) (A0 K (AK K ((At).or (AW K)) (AM Aq Ae) (qv K 4) (AE K 2 G_pick hr D_pick (A0 K (qv K 0) (A0 K (qv K 3) (A6 K))) AI)) (A6 K))))
    (AA K (Cp K (QW.toT (JG K (CA K Ii Ic (qv K 7) (A5 K)) (Hg K (CA K ((GC).or (Dx K hr.units)) (AM Ef Eg) (AE K 2 G_pick hr D_pick (A0 K (qv K 0) (A0 K (A5 K) (A6 K))) AI) (A5 K)))))
      (AA K (Ac K (i:=10) sc_works.nd rfl (by first|exact Or.inl rfl|exact Or.inr rfl) (AO K (qv K 6) (AE K 2 G_pick hr D_pick (A0 K (qv K 0) (A0 K (qv K 7) (A6 K))) AI)))
    (AA K (Ac K (i:=11) sc_works.nd rfl (by first|exact Or.inl rfl|exact Or.inr rfl) (MN K (CS K U5 Tt (AK K Bs Bp (AO K (qv K 10) (A5 K)) (A5 K)) (qv K 2)) (JK K (CS K HB Gv (AK K Bs Bp (AO K (AO K (qv K 10) (A5 K)) (A5 K)) (A5 K)) (qv K 3)))))
    (AA K (Ac K (i:=12) sc_works.nd rfl (by first|exact Or.inl rfl|exact Or.inr rfl) (JM K (E6 K (qv K 11)) (AK K ((At).or (AW K)) (AM Aq Ae) (A5 K) (AE K 2 G_pick hr D_pick (A0 K (qv K 0) (A0 K (A5 K) (A6 K))) AI)) (A5 K)))
    (AJ K (DW K (i:=8) (j:=9) rfl sc_works.nd rfl rfl (by decide) rfl rfl (A0 K (AK K Bs Bp (AO K (qv K 10) (A5 K)) (qv K 12)) (A0 K (AK K Bs Bp (AO K (AO K (qv K 10) (A5 K)) (A5 K)) (qv K 12)) (A6 K))))))))
      (Bq K))
    (AJ K (Ch K (Ig K PySem.F.slot_list_append PySem.F.type_list_append EO Fd (qv K 6) (A0 K (Az K (A0 K (qv K 8) (A0 K (qv K 5) (A0 K (Az K (A0 K (BG K) (A0 K (qv K 9) (A6 K)))) (A6 K))))) (A6 K))))))))
    (AJ K (As K (HA K (DO K) (ET FE) B.tuple L2.bt_tuple (A0 K (qv K 6) (A6 K))))))))))⟩
theorem ok_cost{f_cost f_pick:Addr}{d_cost d_pick:FuncData}(DA:DefAt K mg "_law_cost" DV f_cost d_cost ["_law_tape_here"])(D_pick:DefAt K mg "_law_pick" C2 f_pick d_pick ["_law_tape_here","_law_many"])(G_pick:FnOk P w K mg base CX0 1 f_pick d_pick ["_law_tape_here","_law_many"] (spF K 2 AN))(B:BltA mg):FnOk P w K mg base CX0 2 f_cost d_cost ["_law_tape_here"] (spF K 1 G0):=by
  refine Ax (N:=["_law_tape_here","_law_due_here","_law_weight","_law_at","_law_told_here","_law_rows","_law_k","_law_costs"]) (m:=Mi) DA sc_cost λ cdv A outer s H E hr=>?_
  exact⟨_,(AA K (DW K (i:=1) (j:=2) rfl sc_cost.nd rfl rfl (by decide) rfl rfl (A0 K (AK K MX MC (AE K 2 G_pick hr D_pick (A0 K (qv K 0) (A0 K (A5 K) (A6 K))) AI) (A5 K)) (A0 K (AE K 2 G_pick hr D_pick (A0 K (qv K 0) (A0 K (A5 K) (A6 K))) AI) (A6 K))))
    (AA K (Pz K (i:=3) (j:=4) (k:=5) rfl sc_cost.nd rfl rfl rfl rfl rfl rfl (A0 K (DL K (N7 rfl) Po B.min L2.bt_min (A0 K (qv K 1) (A0 K (A5 K) (A6 K)))) (A0 K (A5 K) (A0 K (DZ K (CQ K (A6 K))) (A6 K)))))
    (AA K (E7 K rfl (G9 K B.range (A0 K (AK K ((At).or (AW K)) (AM Aq Ae) (A5 K) (AE K 2 G_pick hr D_pick (A0 K (qv K 0) (A0 K (A5 K) (A6 K))) AI)) (A6 K))) (AR K (i:=6) sc_cost.nd rfl (by first|exact Or.inl rfl|exact Or.inr rfl))
      (AA K (Ac K (i:=3) sc_cost.nd rfl (by first|exact Or.inl rfl|exact Or.inr rfl) (AK K ((At).or (AW K)) (AM Aq Ae) (AK K ((At).or (AW K)) (AM Aq Ae) (qv K 3) (A5 K)) (AE K 2 G_pick hr D_pick (A0 K (qv K 0) (A0 K (A5 K) (A6 K))) AI)))
    (AA K (Ac K (i:=4) sc_cost.nd rfl (by first|exact Or.inl rfl|exact Or.inr rfl) (AK K ((At).or (AW K)) (AM Aq Ae) (qv K 4) (AE K 2 G_pick hr D_pick (A0 K (qv K 0) (A0 K (A5 K) (A6 K))) AI)))
    (AJ K (Ch K (Ig K PySem.F.slot_list_append PySem.F.type_list_append EO Fd (qv K 5) (A0 K (Az K (A0 K (qv K 3) (A0 K (qv K 4) (A6 K)))) (A6 K))))))))
    (AA K (Ac K (i:=7) sc_cost.nd rfl (by first|exact Or.inl rfl|exact Or.inr rfl) (DZ K (CQ K (A0 K (Az K (A0 K (BG K) (A0 K (qv K 1) (A6 K)))) (A0 K (Az K (A0 K (BG K) (A0 K (qv K 1) (A0 K (qv K 2) (A6 K))))) (A0 K (Az K (A0 K (BG K) (A0 K (qv K 1) (A0 K (qv K 2) (A6 K))))) (A6 K)))))))
    (AA K (Ch K (Ig K PySem.F.slot_list_append PySem.F.type_list_append EO Fd (qv K 7) (A0 K (Az K (A0 K (BG K) (A0 K (HA K (DO K) (ET FE) B.tuple L2.bt_tuple (A0 K (qv K 5) (A6 K))) (A6 K)))) (A6 K))))
    (AJ K (As K (AO K (qv K 7) (AE K 2 G_pick hr D_pick (A0 K (qv K 0) (A0 K (A5 K) (A6 K))) AI)))))))))⟩
theorem ok_unlike{f_unlike f_pick:Addr}{d_unlike d_pick:FuncData}(DA:DefAt K mg "_law_unlike" C9 f_unlike d_unlike ["_law_tape_here","_law_works_here"])(D_pick:DefAt K mg "_law_pick" C2 f_pick d_pick ["_law_tape_here","_law_many"])(G_pick:FnOk P w K mg base CX0 1 f_pick d_pick ["_law_tape_here","_law_many"] (spF K 2 AN))(B:BltA mg):FnOk P w K mg base CX0 2 f_unlike d_unlike ["_law_tape_here","_law_works_here"] (spF K 2 DI):=by
  refine Ax (N:=["_law_tape_here","_law_works_here","_law_at","_law_by","_law_length","_law_coming","_law_cost_here"]) (m:=JY) DA sc_unlike λ cdv A outer s H E hr=>?_
  exact⟨_,(AA K (DW K (i:=2) (j:=3) rfl sc_unlike.nd rfl rfl (by decide) rfl rfl (A0 K (AE K 2 G_pick hr D_pick (A0 K (qv K 0) (A0 K (DL K (CD K) (ET E3) B.len L2.bt_len (A0 K (qv K 1) (A6 K))) (A6 K))) AI) (A0 K (AK K ((At).or (AW K)) (AM Aq Ae) (A5 K) (AE K 2 G_pick hr D_pick (A0 K (qv K 0) (A0 K (A5 K) (A6 K))) AI)) (A6 K))))
    (AA K (JI K (AO K (qv K 1) (qv K 2)) (DX K (n:=3) rfl (Al K (AR K (i:=4) sc_unlike.nd rfl (by first|exact Or.inl rfl|exact Or.inr rfl)) (Al K (AR K (i:=5) sc_unlike.nd rfl (by first|exact Or.inl rfl|exact Or.inr rfl)) (Al K (AR K (i:=6) sc_unlike.nd rfl (by first|exact Or.inl rfl|exact Or.inr rfl)) (Ci K))))))
    (AJ K (As K (AK K ((At).or (AW K)) (AM Aq Ae) (AK K (((At).or (AW K)).or (KO K)) (AM (AM Aq Ae) KG) (Gz K (qv K 1) (Ej K) (Ei K (qv K 2))) (Az K (A0 K (Az K (A0 K (qv K 4) (A0 K (AK K CT CP (AK K ((At).or (AW K)) (AM Aq Ae) (qv K 5) (qv K 3)) (A5 K)) (A0 K (qv K 6) (A6 K))))) (A6 K)))) (Gz K (qv K 1) (Ei K (AK K ((At).or (AW K)) (AM Aq Ae) (qv K 2) (A5 K))) (Ej K)))))))⟩
theorem ok_other{f_other f_pick f_cost:Addr}{d_other d_pick d_cost:FuncData}(DA:DefAt K mg "_law_other" Cf f_other d_other ["_law_tape_here","_law_works_here"])(D_pick:DefAt K mg "_law_pick" C2 f_pick d_pick ["_law_tape_here","_law_many"])(G_pick:FnOk P w K mg base CX0 1 f_pick d_pick ["_law_tape_here","_law_many"] (spF K 2 AN))(D_cost:DefAt K mg "_law_cost" DV f_cost d_cost ["_law_tape_here"])(G_cost:FnOk P w K mg base CX0 2 f_cost d_cost ["_law_tape_here"] (spF K 1 G0))(B:BltA mg):FnOk P w K mg base CX0 3 f_other d_other ["_law_tape_here","_law_works_here"] (spF K 2 Ez):=by
  refine Ax (N:=["_law_tape_here","_law_works_here","_law_at","_law_cost_here","_law_one"]) (m:=KR) DA sc_other λ cdv A outer s H E hr=>?_
  exact⟨_,(AA K (DW K (i:=2) (j:=3) rfl sc_other.nd rfl rfl (by decide) rfl rfl (A0 K (AE K 2 G_pick hr D_pick (A0 K (qv K 0) (A0 K (DL K (CD K) (ET E3) B.len L2.bt_len (A0 K (qv K 1) (A6 K))) (A6 K))) AI) (A0 K (AE K 2 G_cost hr D_cost (A0 K (qv K 0) (A6 K)) AI) (A6 K))))
    (AA K (Ac K (i:=4) sc_other.nd rfl (by first|exact Or.inl rfl|exact Or.inr rfl) (Az K (A0 K (AO K (AO K (qv K 1) (qv K 2)) (A5 K)) (A0 K (AO K (AO K (qv K 1) (qv K 2)) (A5 K)) (A0 K (qv K 3) (A6 K))))))
    (AJ K (As K (AK K ((At).or (AW K)) (AM Aq Ae) (AK K (((At).or (AW K)).or (KO K)) (AM (AM Aq Ae) KG) (Gz K (qv K 1) (Ej K) (Ei K (qv K 2))) (Az K (A0 K (qv K 4) (A6 K)))) (Gz K (qv K 1) (Ei K (AK K ((At).or (AW K)) (AM Aq Ae) (qv K 2) (A5 K))) (Ej K)))))))⟩
theorem ok_due{f_due:Addr}{d_due:FuncData}(DA:DefAt K mg "_law_due" EL f_due d_due ["_law_works_here"]) (B:BltA mg):FnOk P w K mg base CX0 1 f_due d_due ["_law_works_here"] (spF K 1 DP):=by
  refine Ax (N:=["_law_works_here","_law_due_here","_law_j","_law_one","_law_at","_law_i","_law_other_here","_law_side"]) (m:=Ox) DA sc_due λ cdv A outer s H E hr=>?_
  exact⟨_,(AA K (Cp K (CA K Ii Ic (ML K B.len B.set (CI K (loc:=["_law_length","_law_coming","_law_cost_here"]) (fr:=[]) (ix:=[]) rfl ⟨rfl,by decide +kernel,rfl,rfl,rfl,by decide +kernel⟩ (E8 K (qv K 0)) (λ _ _ _=>(DX K (n:=3) rfl (Al K (AR K (i:=0) (show(["_law_length","_law_coming","_law_cost_here"]:List Str).Nodup from by decide +kernel) rfl (by first|exact Or.inl rfl|exact Or.inr rfl)) (Al K (AR K (i:=1) (show(["_law_length","_law_coming","_law_cost_here"]:List Str).Nodup from by decide +kernel) rfl (by first|exact Or.inl rfl|exact Or.inr rfl)) (Al K (AR K (i:=2) (show(["_law_length","_law_coming","_law_cost_here"]:List Str).Nodup from by decide +kernel) rfl (by first|exact Or.inl rfl|exact Or.inr rfl)) (Ci K)))))) (λ _ _ _=>(DY K)) (λ _ _ _=>(qv K 1)))) (A5 K))
      (AJ K (As K (Az K (A0 K (BG K) (A0 K (BG K) (A6 K))))))
      (Bq K))
    (AA K (Cp K (Px K (Ss K) (LJ K) (CI K (loc:=["_law_length","_law_coming","_law_cost_here"]) (fr:=[]) (ix:=[]) rfl ⟨rfl,by decide +kernel,rfl,rfl,rfl,by decide +kernel⟩ (E8 K (qv K 0)) (λ _ _ _=>(DX K (n:=3) rfl (Al K (AR K (i:=0) (show(["_law_length","_law_coming","_law_cost_here"]:List Str).Nodup from by decide +kernel) rfl (by first|exact Or.inl rfl|exact Or.inr rfl)) (Al K (AR K (i:=1) (show(["_law_length","_law_coming","_law_cost_here"]:List Str).Nodup from by decide +kernel) rfl (by first|exact Or.inl rfl|exact Or.inr rfl)) (Al K (AR K (i:=2) (show(["_law_length","_law_coming","_law_cost_here"]:List Str).Nodup from by decide +kernel) rfl (by first|exact Or.inl rfl|exact Or.inr rfl)) (Ci K)))))) (λ _ _ _=>(DY K)) (λ _ _ _=>(CS K ((GC).or (Dx K hr.units)) (AM Ef Eg) (AO K (qv K 2) (A5 K)) (BG K)))))
      (AJ K (As K (Az K (A0 K (BG K) (A0 K (BG K) (A6 K))))))
      (Bq K))
    (AA K (Ac K (i:=1) sc_due.nd rfl (by first|exact Or.inl rfl|exact Or.inr rfl) (DZ K (SO K (CQ K (A0 K (A5 K) (A6 K))) (DL K (CD K) (ET E3) B.len L2.bt_len (A0 K (qv K 0) (A6 K))))))
    (AA K (E7 K rfl (JJ K B.enumerate (MK K (qv K 0))) (DX K (n:=2) rfl (Al K (AR K (i:=2) sc_due.nd rfl (by first|exact Or.inl rfl|exact Or.inr rfl)) (Al K (AR K (i:=3) sc_due.nd rfl (by first|exact Or.inl rfl|exact Or.inr rfl)) (Ci K))))
      (AA K (Ac K (i:=4) sc_due.nd rfl (by first|exact Or.inl rfl|exact Or.inr rfl) (A5 K))
    (AA K (E7 K rfl (JJ K B.enumerate (MK K (qv K 0))) (DX K (n:=2) rfl (Al K (AR K (i:=5) sc_due.nd rfl (by first|exact Or.inl rfl|exact Or.inr rfl)) (Al K (AR K (i:=6) sc_due.nd rfl (by first|exact Or.inl rfl|exact Or.inr rfl)) (Ci K))))
      (AA K (Ac K (i:=7) sc_due.nd rfl (by first|exact Or.inl rfl|exact Or.inr rfl) (AK K MX MC (AK K Bs Bp (AO K (AO K (qv K 6) (A5 K)) (A5 K)) (AO K (qv K 3) (A5 K))) (AK K Bs Bp (AO K (AO K (qv K 3) (A5 K)) (A5 K)) (AO K (qv K 6) (A5 K)))))
    (AJ K (Ac K (i:=4) sc_due.nd rfl (by first|exact Or.inl rfl|exact Or.inr rfl) (AK K ((At).or (AW K)) (AM Aq Ae) (qv K 4) (HA K N9 S3 B.int L2.bt_int (A0 K (Tw K (CS K Ii Ic (qv K 7) (A5 K)) (JK K (MN K (CS K ((GC).or (Dx K hr.units)) (AM Ef Eg) (qv K 7) (A5 K)) (JK K (CS K HB Gv (qv K 5) (qv K 2)))))) (A6 K))))))))
    (AJ K (Eh K (qv K 1) (qv K 4) (qv K 2))))))
    (AJ K (As K (Az K (A0 K (BG K) (A0 K (HA K (DO K) (ET FE) B.tuple L2.bt_tuple (A0 K (qv K 1) (A6 K))) (A6 K))))))))))⟩
theorem ok_told{f_told f_ratio_order:Addr}{d_told d_ratio_order:FuncData}(DA:DefAt K mg "_law_told" DS f_told d_told ["_law_works_here"])(D_ratio_order:DefAt K mg "ratio_order" BB f_ratio_order d_ratio_order ["works"])(G_ratio_order:FnOk P w K mg base CX0 4 f_ratio_order d_ratio_order ["works"] (spF K 1 BK)){C Bc fI c1 c2 c3 c4 c5 c6 c7:Addr}{fdI:FuncData}(EX:ExcW P w K mg base C Bc fI c1 c2 c3 c4 c5 c6 c7 fdI)(GX_ratio_order:FnOk P w K mg base (CXN C P w) 5 f_ratio_order d_ratio_order ["works"] (spX C "word" K 1 Bi))(B:BltA mg):FnOk P w K mg base CX0 6 f_told d_told ["_law_works_here"] (spF K 1 Dg):=by
  refine Ax (N:=["_law_works_here","_law_found","e","_law_strange"]) (m:=Me) DA sc_told λ cdv A outer s H E hr=>?_
  exact⟨_,(AA K (Ac K (i:=1) sc_told.nd rfl (by first|exact Or.inl rfl|exact Or.inr rfl) (Az K (A0 K (BG K) (A6 K))))
    (AA K (SM (ie:=2) (is:=3) (ifd:=1) EX B.isinstance (AJ K (Ac K (i:=1) sc_told.nd rfl (by first|exact Or.inl rfl|exact Or.inr rfl) (Az K (A0 K (BG K) (A0 K (AE K 0 G_ratio_order hr D_ratio_order (A0 K (qv K 0) (A6 K)) AI) (A6 K))))))
      (G8 (Gy (Ac K (i:=1) sc_told.nd rfl (by first|exact Or.inl rfl|exact Or.inr rfl) (Az K (A0 K (BG K) (A0 K (AE K 0 G_ratio_order hr D_ratio_order (A0 K (qv K 0) (A6 K)) AI) (A6 K))))) (MH (Pv (MF (BG K) (Nn (EM 0 GX_ratio_order hr D_ratio_order (A0 K (qv K 0) (A6 K)) GD))))))) (by decide) (by decide) (by decide) sc_told.nd rfl rfl rfl)
    (AJ K (As K (qv K 1)))))⟩
theorem ok_law{f_law f_tape f_pick f_works f_unlike f_other f_due f_told:Addr}{d_law d_tape d_pick d_works d_unlike d_other d_due d_told:FuncData}(DA:DefAt K mg "law" DK f_law d_law ["_law_script"])(D_tape:DefAt K mg "_law_tape" DT f_tape d_tape ["_law_script"])(G_tape:FnOk P w K mg base CX0 1 f_tape d_tape ["_law_script"] (spF K 1 Fy))(D_pick:DefAt K mg "_law_pick" C2 f_pick d_pick ["_law_tape_here","_law_many"])(G_pick:FnOk P w K mg base CX0 1 f_pick d_pick ["_law_tape_here","_law_many"] (spF K 2 AN))(D_works:DefAt K mg "_law_works" Ce f_works d_works ["_law_tape_here","_law_many"])(G_works:FnOk P w K mg base CX0 2 f_works d_works ["_law_tape_here","_law_many"] (spF K 2 Dz))(D_unlike:DefAt K mg "_law_unlike" C9 f_unlike d_unlike ["_law_tape_here","_law_works_here"])(G_unlike:FnOk P w K mg base CX0 2 f_unlike d_unlike ["_law_tape_here","_law_works_here"] (spF K 2 DI))(D_other:DefAt K mg "_law_other" Cf f_other d_other ["_law_tape_here","_law_works_here"])(G_other:FnOk P w K mg base CX0 3 f_other d_other ["_law_tape_here","_law_works_here"] (spF K 2 Ez))(D_due:DefAt K mg "_law_due" EL f_due d_due ["_law_works_here"])(G_due:FnOk P w K mg base CX0 1 f_due d_due ["_law_works_here"] (spF K 1 DP))(D_told:DefAt K mg "_law_told" DS f_told d_told ["_law_works_here"])(G_told:FnOk P w K mg base CX0 6 f_told d_told ["_law_works_here"] (spF K 1 Dg))(B:BltA mg):FnOk P w K mg base CX0 7 f_law d_law ["_law_script"] (spF K 1 F_law):=by
  refine Ax (N:=["_law_script","_law_tape_here","_law_turn","_law_works_here","_law_unlike_here","_law_other_here","_law_thing"]) (m:=Ow) DA sc_law λ cdv A outer s H E hr=>?_
  exact⟨_,(AA K (Ac K (i:=1) sc_law.nd rfl (by first|exact Or.inl rfl|exact Or.inr rfl) (JN K G_tape hr D_tape (A0 K (qv K 0) (A6 K)) AI))
    (AA K (E7 K rfl (G9 K B.range (A0 K (A5 K) (A6 K))) (AR K (i:=2) sc_law.nd rfl (by first|exact Or.inl rfl|exact Or.inr rfl))
      (IC K (AA K (Ac K (i:=3) sc_law.nd rfl (by first|exact Or.inl rfl|exact Or.inr rfl) (AE K 2 G_works hr D_works (A0 K (qv K 1) (A0 K (AK K ((At).or (AW K)) (AM Aq Ae) (A5 K) (AE K 2 G_pick hr D_pick (A0 K (qv K 1) (A0 K (A5 K) (A6 K))) AI)) (A6 K))) AI))
    (AA K (DW K (i:=4) (j:=5) rfl sc_law.nd rfl rfl (by decide) rfl rfl (A0 K (AE K 2 G_unlike hr D_unlike (A0 K (qv K 1) (A0 K (qv K 3) (A6 K))) AI) (A0 K (AE K 2 G_other hr D_other (A0 K (qv K 1) (A0 K (qv K 3) (A6 K))) AI) (A6 K))))
    (AJ K (E7 K rfl (SQ K (CQ K (A0 K (qv K 3) (A0 K (qv K 4) (A0 K (qv K 5) (A0 K (AE K 2 G_unlike hr D_unlike (A0 K (qv K 1) (A0 K (qv K 5) (A6 K))) AI) (A0 K (qv K 3) (A6 K)))))))) (AR K (i:=6) sc_law.nd rfl (by first|exact Or.inl rfl|exact Or.inr rfl))
      (IC K (AJ K (Cp K (CA K ((Ih).or (Em K hr.units)) (AM Gs Gu) (DL K (GO K hr.gd hr.units) KC B.repr L2.bt_repr (A0 K (AE K 0 G_told hr D_told (A0 K (qv K 6) (A6 K)) AI) (A6 K))) (DL K (GO K hr.gd hr.units) KC B.repr L2.bt_repr (A0 K (AE K 0 G_due hr D_due (A0 K (qv K 6) (A6 K)) AI) (A6 K))))
      (AJ K (As K (LJ K)))
      (Bq K))))))))))
    (AJ K (As K (LJ K)))))⟩
noncomputable abbrev Ed:Stmt:=Qq (top 8) 0
theorem PZ:FnScope ["self","word"] ["self","word"] (A9 Ed):=⟨rfl,rfl,rfl,by decide +kernel,rfl,by decide +kernel,by decide +kernel⟩
theorem ok_ini{C fI fa:Addr}{fd:FuncData}(F:Fun K "__init__" "NoRule.__init__" Ed fa fd)(c:XC K C fI)(n:Df K C "word"):FnOk P w K mg base CX0 1 fa fd ["self","word"] (spI C "word"):=Qd F PZ rfl c n (λ _ _ _ _ _ _=>rfl) (Or.inl rfl) (Or.inl rfl) (by decide) (by decide)
end
end T55
namespace Bd
open PySem L2
end Bd
namespace Rw
open PySem L2 Bd
end Rw
namespace L2
open PySem PySem.Spec PyProof.Rows
section
variable{hd:Hd}{QE:D->Hd->Prop}{d:D}
theorem PB{p:PyData}(e:pyD hd d=some p)(ok:EA p)(q:QE (.im (.str p.shown)) hd):WP (FP [d] hd) QE:=⟨_,_,by simp[FP,e,ok],q⟩
theorem Io{i:I}(ok:EA i.py)(q:QE (.im (.str i.py.shown)) hd):WP (FP [.im i] hd) QE:=PB rfl ok q
end
end L2
namespace Bt
open PySem L2 Bd
noncomputable def BY(t:Tp):List D:=[.mu 0,.im (.int t.nx),.im (.int t.lf),.im (.int t.tn)]
noncomputable def tl(t:Tp):Hd:=[.lst (t.cells.map λ i=>.im (.int i)),.lst (BY t)]
@[simp] theorem VP(t:Tp):(tl t).length=2:=rfl
@[simp] theorem WZ(t:Tp)(r:Hd):(tl t ++ r)[0]? = some (.lst (t.cells.map λ i=>.im (.int i))):=rfl
@[simp] theorem WY(t:Tp)(r:Hd):(tl t ++ r)[1]? = some (.lst (BY t)):=rfl
@[simp] theorem tl0(t:Tp):(tl t)[0]? = some (.lst (t.cells.map λ i=>.im (.int i))):=rfl
@[simp] theorem tl1(t:Tp):(tl t)[1]? = some (.lst (BY t)):=rfl
@[simp] theorem tln(t:Tp):(BY t).length=4:=rfl
section
variable(t:Tp)(v:Int)
@[simp] theorem Wd:atI (BY t) 0=some (.mu 0):=Bh (j:=0) rfl
@[simp] theorem Wc:atI (BY t) 1=some (.im (.int t.nx)):=Bh (j:=1) rfl
@[simp] theorem Wb:atI (BY t) 2=some (.im (.int t.lf)):=Bh (j:=2) rfl
@[simp] theorem Wa:atI (BY t) 3=some (.im (.int t.tn)):=Bh (j:=3) rfl
@[simp] theorem WM:ixN 4 1=some 1:=rfl
@[simp] theorem WK:ixN 4 2=some 2:=rfl
@[simp] theorem WJ:ixN 4 3=some 3:=rfl
@[simp] theorem VN:(BY t).set 1 (.im (.int v))=BY { t with nx:=v }:=rfl
@[simp] theorem VM:(BY t).set 2 (.im (.int v))=BY { t with lf:=v }:=rfl
@[simp] theorem VL:(BY t).set 3 (.im (.int v))=BY { t with tn:=v }:=rfl
end
@[simp] theorem Vu(t t':Tp)(h:t'.cells=t.cells):(tl t).set 1 (.lst (BY t'))=tl t':=by unfold tl;rw[h];rfl
@[simp high] theorem WX(t:Tp)(x:MO)(r:Hd):(tl t ++ (x :: r))[2]? = some x:=rfl
@[simp high] theorem WW(t:Tp)(x y:MO)(r:Hd):(tl t ++ (x :: y :: r))[3]? = some y:=rfl
@[simp high] theorem Vw(t:Tp)(x y:MO)(r:Hd):(tl t ++ (x :: r)).set 2 y=tl t ++ (y :: r):=rfl
@[simp high] theorem Vv(t:Tp)(x y z:MO)(r:Hd):(tl t ++ (x :: y :: r)).set 3 z=tl t ++ (x :: z :: r):=rfl
@[simp] theorem Tl(t:Tp):(tl t).all (clO 2)=true:=by simp[tl,clO,N2,BY,clD,BO]
structure DrawL(P:List D->Hd->Option (D × Hd))(τ:Tp)(many:Int)(r:Int)(τ':Tp):Prop where
  lo:0 <= r
  hi:r < many
  eq:P [.mu 1,.im (.int many)] (tl τ)=some (.im (.int r),tl τ')
section
variable{P:List D->Hd->Option (D × Hd)}{τ τ':Tp}{many r:Int}
end
end Bt
namespace Fs
noncomputable def Sm(f:Nat->Int)(B:List Nat):Int:=(B.map f).sum
theorem Rh(f:Nat->Int):Sm f []=0:=rfl
theorem K9(f:Nat->Int)(x:Nat)(B:List Nat):Sm f (x :: B)=f x + Sm f B:=by simp[Sm]
theorem rtr{a b c d e f:Int}(hd:0 < d)(hb:0 <= b)(hf:0 <= f)(h1:c * b <= a * d)(h2:e * d <= c * f):e * b <= a * f:=by
  have k1:c * b * f <= a * d * f:=Int.mul_le_mul_of_nonneg_right h1 hf
  have k2:e * d * b <= c * f * b:=Int.mul_le_mul_of_nonneg_right h2 hb
  have e1:c * b * f=c * f * b:=by rw[Int.mul_assoc,Int.mul_comm b f,<- Int.mul_assoc]
  have e2:a * d * f=a * f * d:=by rw[Int.mul_assoc,Int.mul_comm d f,<- Int.mul_assoc]
  have e3:e * d * b=e * b * d:=by rw[Int.mul_assoc,Int.mul_comm d b,<- Int.mul_assoc]
  exact Int.le_of_mul_le_mul_right (by omega:e * b * d <= a * f * d) hd
variable(up:Nat->Option Nat)(pos:Nat->Nat)(l w:Nat->Int)
noncomputable abbrev Lt(A B:List Nat):Prop:=Sm w A * Sm l B < Sm w B * Sm l A
variable{up pos l w}
section
variable(hup:∀ v u,up v=some u->pos u < pos v)(hl:∀ v,0 < l v)
include hup in
include hup in
include hl in
include hup hl in
end
end Fs
namespace T55
open PySem L2 Bd Bt
local macro_rules | `(tactic| sizeOf_list_dec) => `(tactic| first | (with_reducible refine A8 ?_; try dsimp only [List.set_cons_zero, List.set_cons_succ, List.map_cons, List.map_nil, List.cons_append, List.nil_append, List.replicate, Nat.reduceSub, Int.reduceToNat]) | with_reducible refine Ix ?_ | with_reducible refine AH ?_ | with_reducible refine Au ?_ | with_reducible refine Ai ?_ | with_reducible refine DB ?_ | with_reducible refine BD ?_ | with_reducible refine BV ?_ | with_reducible refine Eb ?_ | with_reducible refine HX ?_ | with_reducible refine DQ ?_ | with_reducible refine A4 (d := _) rfl ?_ | with_reducible refine AL ?_ | with_reducible refine AD ?_ | with_reducible refine BF ?_ | with_reducible refine E1 ?_ | with_reducible refine Cn ?_ | with_reducible refine Lv ?_ | with_reducible refine CF ?_ | with_reducible refine Gj ?_ | with_reducible refine FC ?_ | with_reducible refine K5 ?_ | with_reducible refine Bo ?_ | with_reducible refine Ik ?_ | with_reducible refine Lk ?_ | with_reducible refine OX ?_ | with_reducible refine C8 ?_ | with_reducible refine AB ?_ | with_reducible refine A3 ?_ | with_reducible refine E2 ?_ | with_reducible refine Be ?_ | with_reducible refine Iu ?_ | with_reducible refine Ob ?_ | with_reducible refine Dh ?_ | with_reducible refine NF ?_ | with_reducible refine Km ?_ | with_reducible refine Bj ?_ | with_reducible refine Gf ?_ | with_reducible refine Gg ?_ | with_reducible refine OY ?_ | with_reducible refine IW ?_ | with_reducible refine OZ ?_ | with_reducible refine Fb ?_ | with_reducible refine Lm ?_ | with_reducible refine Ip ?_ | with_reducible refine Fa ?_ | with_reducible refine K1 ?_ | with_reducible refine HY ?_ | with_reducible refine ⟨_, rfl, ?_⟩ | refine AX rfl (Cy _ _) ?_ | refine AX rfl (Cw _ _ _) ?_ | refine AX rfl (FT _ _ _ _) ?_ | refine ⟨_, _, _, _, rfl, rfl, rfl, rfl, ?_⟩ | refine ⟨⟨_, rfl⟩, ?_⟩ | refine ⟨Cv, ?_⟩ | refine ⟨Dc, ?_⟩ | refine ⟨Mr, ?_⟩ | refine ⟨Mq, ?_⟩ | refine ⟨HN, ?_⟩ | refine ⟨Dd, ?_⟩ | with_reducible refine we_nilEN ?_)
noncomputable def FF(cell turn:Int):Int:=(cell % 2147483647 + 40503 * turn + 11) % 2147483629
noncomputable def Hm(x turn:Int):Int:=(x * x + 25717 * turn + 3) % 2147483587
noncomputable def Sx(x:Int):Int:=(x * x + 16807 * x + 1) % 2147483579
theorem mk1(j:Int):CJ 40503 j:=C4 (by decide) (by decide)
theorem mk2(j:Int):CJ 25717 j:=C4 (by decide) (by decide)
theorem mk3(j:Int):CJ 16807 j:=C4 (by decide) (by decide)
theorem mo1:BZ 2147483587:=by unfold BZ;decide
theorem mo2:BZ 2147483629:=by unfold BZ;decide
theorem mo3:BZ 2147483647:=by unfold BZ;decide
theorem mo4:BZ 2147483579:=by unfold BZ;decide
theorem di1:GJ 256:=by unfold GJ;decide
theorem QD(τ:Tp)(many:Int)(h0:0 < many)(h1:many < 1073741824):∃ r τ',DrawL AN τ many r τ':=by
  have hm:BZ many:=h0
  have hv:GJ many:=⟨h0,h1⟩
  by_cases hl:τ.lf > 0
  . refine⟨τ.lf % many,{ τ with tn:=τ.tn + 1,lf:=τ.lf / many },(Do many h0).1,(Do many h0).2,?_⟩
    simp[AN,mkF,hl,hm,hv]
  . have key:∀ cell:Int,(if τ.cells=[]then cell=6 else atI (τ.cells.map λ i=>D.im (.int i)) (τ.nx % (τ.cells.length:Int))=some (.im (.int cell))) ->
        ∃ r τ',DrawL AN τ many r τ':=by
      intro cell hcell
      have b1:=Do (x:=cell % 2147483647 + 40503 * (τ.tn + 1) + 11) 2147483629 (by decide)
      have b2:=Do (x:=FF cell (τ.tn + 1) * FF cell (τ.tn + 1) + 25717 * (τ.tn + 1) + 3) 2147483587 (by decide)
      have c1:∀ j,CJ (FF cell (τ.tn + 1)) j:=λ j=>C4 (by unfold FF;omega) (by unfold FF;omega)
      have c2:∀ j,CJ (Hm (FF cell (τ.tn + 1)) (τ.tn + 1)) j:=λ j=>C4 (by unfold Hm;omega) (by unfold Hm;omega)
      by_cases hb:cell >= 1000000000000000000/\τ.nx < (τ.cells.length:Int)
      . refine⟨cell % many,{ τ with tn:=τ.tn + 1,nx:=τ.nx + 1,lf:=cell / many },(Do many h0).1,(Do many h0).2,?_⟩
        by_cases hc:τ.cells=[]
        . rw[if_pos hc]at hcell;subst hcell;omega
        . rw[if_neg hc]at hcell
          have hl0:0 < τ.cells.length:=Ho hc
          have hl0':BZ (τ.cells.length:Int):=by unfold BZ;omega
          simp[AN,mkF,hl,hm,hv,mk1,mk2,mk3,mo1,mo2,mo3,mo4,di1,po1,FH,pyD,Du,E9,I.pys,Ew,hc,hcell,hl0',hb.1,hb.2,CO]
      . refine⟨Sx (Hm (FF cell (τ.tn + 1)) (τ.tn + 1)) / 256 % many,{ τ with tn:=τ.tn + 1,nx:=τ.nx + 1 },(Do many h0).1,(Do many h0).2,?_⟩
        have hb':1000000000000000000 <= cell->¬ τ.nx < (τ.cells.length:Int):=λ a b=>hb ⟨a,b⟩
        unfold FF at c1 c2
        unfold Hm at c2
        unfold Sx Hm FF
        by_cases hc:τ.cells=[]
        . rw[if_pos hc]at hcell;subst hcell
          simp only[Int.reduceMod]at c1 c2
          simp[AN,mkF,hl,hm,hv,mk1,mk2,mk3,mo1,mo2,mo3,mo4,di1,po1,FH,pyD,Du,E9,I.pys,Ew,TZ,hc,CO,c1,c2]
        . rw[if_neg hc]at hcell
          have hl0:0 < τ.cells.length:=Ho hc
          have hl0':BZ (τ.cells.length:Int):=by unfold BZ;omega
          by_cases hd:1000000000000000000 <= cell
          . simp[AN,mkF,hl,hm,hv,mk1,mk2,mk3,mo1,mo2,mo3,mo4,di1,po1,FH,pyD,Du,E9,I.pys,Ew,hc,hcell,hl0',CO,c1,c2,hd,hb' hd]
          . simp[AN,mkF,hl,hm,hv,mk1,mk2,mk3,mo1,mo2,mo3,mo4,di1,po1,FH,pyD,Du,E9,I.pys,Ew,hc,hcell,hl0',CO,c1,c2,hd]
    by_cases hc:τ.cells=[]
    . exact key 6 (by rw[if_pos hc])
    . obtain⟨c,e⟩:=UR hc τ.nx
      exact key c (by rw[if_neg hc];exact e)
theorem PL(ns:List Int):∃ τ,Fy [.ro ns] []=some (.mu 1,tl τ):=by
  obtain⟨cs,e⟩:=ON ns none (some 63)
  refine⟨⟨cs,0,0,0⟩,?_⟩
  simp[Fy,mkF,e,tl,BY]
noncomputable def T(_:Nat)(a b:MO):Prop:=∃ τ:Tp,tl τ=[a,b]
theorem tap:Tap T AN where
  cl:=by
    rintro k a b ⟨τ,e⟩
    have:=Tl τ
    rw[e]at this
    simpa using this
  le:=λ h _=>h
  pick:=by
    rintro k a b many ⟨τ,e⟩ h0 h1
    obtain⟨r,τ',d⟩:=QD τ many h0 h1
    refine⟨r,.lst (τ'.cells.map λ i=>.im (.int i)),.lst (BY τ'),d.lo,d.hi,?_,τ',rfl⟩
    rw[<- e]
    exact d.eq
noncomputable abbrev wk(c:Int)(p:Int × Int):Wk:=⟨p.1,c,.ends p.2⟩
noncomputable abbrev Bb(c:Int)(ws:List (Int × Int)):I:=AU (ws.map (wk c))
structure WOk(c:Int)(ws:List (Int × Int)):Prop where
  c0:0 <= c
  c1:c <= 60
  n1:1 <= ws.length
  n8:ws.length <= 8
  each:∀ p ∈ ws,1 <= p.1/\p.1 <= 1000000/\0 <= p.2/\p.2 <= 1000000
noncomputable abbrev wkD(c:Int)(p:Int × Int):D:=.im (B9 (wk c p))
theorem Sw(c:Int)(ws:List (Int × Int)):B0 (ws.map (wkD c))=.im (Bb c ws):=by
  have:ws.map (wkD c)=((ws.map (wk c)).map B9).map D.im:=by simp
  rw[this,CB]
set_option maxHeartbeats 2000000 in
theorem PD{n:Nat}(h1:1 <= n)(hn:n <= 8):∀ a b,T 0 a b->WF Dz [.mu 1,.im (.int (n:Int))] [a,b] λ d x=>∃ i a' b' g,d=.im i/\(∃ c ws,i=Bb c ws/\ws.length=n/\WOk c ws)/\T 0 a' b'/\x=a' :: b' :: g:=by
  intro a b hT
  unfold Dz
  refine BE rfl ?_
  refine AH (Im ?_)
  repeat sizeOf_list_dec
  refine tap.draw (n:=0) (rest:=[]) hT rfl (by decide) (by decide) λ r1 a b hT pr1 qr1=>?_
  have key:∀ (Q:Fl->Hd->Prop),(∀ c ws a' b' g,ws.length=n->WOk c ws->T 0 a' b'->Q (.rt (.im (Bb c ws))) (a' :: b' :: g))->∀ (lg hv lw:Int),0 < lg->lg <= 1000000->0 < hv->hv <= 1000001->0 <= lw->lw + lg <= 1000000->lw + hv <= 1000001->∀ a b,T 0 a b->WS (AG (Ao 5 (GZ (CN (A1 (mC (.int 0)) (A1 (AC 2 AN (A1 (A2 0) (A1 (mC (.int 61)) A7))) A7))) (AC 2 AN (A1 (A2 0) (A1 (mC (.int 2)) A7)))))
    (AG (Ao 6 (DF (CN A7)))
    (AG (Dl (FG (A1 (A2 1) A7)) (AS 7)
      (AG (C0 [8,9] (A1 (mOp Ah (mOp Ah (mC (.int 1)) (A2 4)) (AC 2 AN (A1 (A2 0) (A1 (A2 2) A7)))) (A1 (mOp Ah (A2 4) (AC 2 AN (A1 (A2 0) (A1 (A2 3) A7)))) A7)))
    (AG (BR (Fq (Aj (mOp gGt (A2 7) (mC (.int 0)))) (Aj (mOp gEq (AC 2 AN (A1 (A2 0) (A1 (mC (.int 3)) A7))) (mC (.int 0)))))
      (AG (Ao 10 (mOp gIx (A2 6) (AC 2 AN (A1 (A2 0) (A1 (A2 7) A7)))))
    (AG (Ao 11 (FJ (mOp gLe (mOp BW (mOp gIx (A2 10) (mC (.int 0))) (mC (.int 3))) (A2 2)) (mOp gLt (mOp BW (mOp gIx (mOp gIx (A2 10) (mC (.int 2))) (mC (.int 1))) (mC (.int 3))) (A2 3))))
    (AG (Ao 12 (mIf (Dk (A2 11)) (mOp Ah (mC (.int 1)) (AC 2 AN (A1 (A2 0) (A1 (mC (.int 3)) A7)))) (mC (.int 1))))
    (C0 [8,9] (A1 (mOp BW (mOp gIx (A2 10) (mC (.int 0))) (A2 12)) (A1 (mOp BW (mOp gIx (mOp gIx (A2 10) (mC (.int 2))) (mC (.int 1))) (A2 12)) A7))))))
      BQ)
    (Ba (mMt Bf (A2 6) (A1 (Av (A1 (A2 8) (A1 (A2 5) (A1 (Av (A1 (mC (.str "ends")) (A1 (A2 9) A7))) A7)))) A7))))))
    (Ab (mCB (f1 true Cu) (A1 (A2 6) A7)))))) [some (.mu 1),some (.im (.int (n:Int))),some (.im (.int lg)),some (.im (.int hv)),some (.im (.int lw)),none,none,none,none,none,none,none,none] [a,b] Q:=by
    intro Q hQ lg hv lw g1 g2 g3 g4 g5 g6 g7 a b hT
    repeat sizeOf_list_dec
    refine tap.draw (n:=0) hT rfl (by first|decide|omega) (by first|decide|omega) λ r2 a b hT pr2 qr2=>?_
    repeat sizeOf_list_dec
    refine tap.draw (n:=0) hT rfl (by first|decide|omega) (by first|decide|omega) λ r3 a b hT pr3 qr3=>?_
    obtain⟨c,hc,hc0,hc1⟩:∃ c:Int,atI [D.im (.int 0),D.im (.int r2)] r3=some (D.im (.int c))/\0 <= c/\c <= 60:=by
      rcases(show r3=0 ∨ r3=1 by omega)with rfl|rfl
      . exact⟨0,Cy _ _,by omega,by omega⟩
      . exact⟨r2,Cw _ _ _,by omega,by omega⟩
    refine⟨_,_,rfl,hc,?_⟩
    repeat sizeOf_list_dec
    refine⟨G6 (by omega) (by omega),?_⟩
    rw[Int.toNat_natCast]
    refine Cm (λ r ls hd=>∃ (ws:List (Int × Int)) (j:Nat) (a b:MO) (z7 z8 z9 z10 z11 z12:Option D),r=Ar (j:Int) (n - j)/\j <= n/\ws.length=j/\(∀ p ∈ ws,1 <= p.1/\p.1 <= 1000000/\0 <= p.2/\p.2 <= 1000000)/\ls=[some (.mu 1),some (.im (.int (n:Int))),some (.im (.int lg)),some (.im (.int hv)),some (.im (.int lw)),some (.im (.int c)),some (.mu 2),z7,z8,z9,z10,z11,z12]/\hd=[a,b,.lst (ws.map (wkD c))]/\T 0 a b) ?_ ?_ ?_
    . exact⟨[],0,a,b,none,none,none,none,none,none,rfl,by omega,rfl,by simp,rfl,rfl,hT⟩
    . rintro d r ls hd ⟨ws,j,a,b,z7,z8,z9,z10,z11,z12,er,hj,lw',hw,rfl,rfl,hT⟩
      obtain⟨m,hm⟩:∃ m,n - j=m + 1:=by
        cases q:n - j with
        | zero=>rw[q]at er;cases er
        | succ m=>exact⟨m,rfl⟩
      rw[hm,Ar]at er
      obtain⟨rfl,rfl⟩:=List.cons.inj er
      have ej:((j:Int) + 1)=((j + 1:Nat):Int):=by omega
      have em:m=n - (j + 1):=by omega
      refine⟨_,rfl,?_⟩
      dsimp only[List.set_cons_zero,List.set_cons_succ]
      repeat sizeOf_list_dec
      refine tap.draw (n:=0) hT rfl (by first|decide|omega) (by first|decide|omega) λ r4 a b hT pr4 qr4=>?_
      repeat sizeOf_list_dec
      refine tap.draw (n:=0) hT rfl (by first|decide|omega) (by first|decide|omega) λ r5 a b hT pr5 qr5=>?_
      repeat sizeOf_list_dec
      have fin:∀ (x y:Int) a b (z10 z11 z12:Option D),1 <= x->x <= 1000000->0 <= y->y <= 1000000->T 0 a b->WS (Ba (mMt Bf (A2 6) (A1 (Av (A1 (A2 8) (A1 (A2 5) (A1 (Av (A1 (mC (.str "ends")) (A1 (A2 9) A7))) A7)))) A7))) [some (.mu 1),some (.im (.int (n:Int))),some (.im (.int lg)),some (.im (.int hv)),some (.im (.int lw)),some (.im (.int c)),some (.mu 2),some (.im (.int (j:Int))),some (.im (.int x)),some (.im (.int y)),z10,z11,z12] [a,b,.lst (ws.map (wkD c))] (IX [] (λ ls hd=>∃ (ws:List (Int × Int)) (j':Nat) (a b:MO) (z7 z8 z9 z10 z11 z12:Option D),Ar ((j:Int) + 1) m=Ar (j':Int) (n - j')/\j' <= n/\ws.length=j'/\(∀ p ∈ ws,1 <= p.1/\p.1 <= 1000000/\0 <= p.2/\p.2 <= 1000000)/\ls=[some (.mu 1),some (.im (.int (n:Int))),some (.im (.int lg)),some (.im (.int hv)),some (.im (.int lw)),some (.im (.int c)),some (.mu 2),z7,z8,z9,z10,z11,z12]/\hd=[a,b,.lst (ws.map (wkD c))]/\T 0 a b) (EJ (Ab (mCB (f1 true Cu) (A1 (A2 6) A7))) Q)):=by
        intro x y a b z10 z11 z12 k1 k2 k3 k4 hT
        repeat sizeOf_list_dec
        refine Iq rfl (FO (by simp;omega)) ?_
        refine⟨Ap _,ws ++ [(x,y)],j + 1,a,b,_,_,_,_,_,_,by rw[ej,em],by omega,by simp[lw'],?_,rfl,?_,hT⟩
        . intro p hp
          rcases List.mem_append.mp hp with h|h
          . exact hw p h
          . simp at h;subst h;exact⟨k1,k2,k3,k4⟩
        . simp[wkD,B9,CK,B0,BS]
      refine⟨rfl,A8 ?_⟩
      change WS _ [some (.mu 1),some (.im (.int (n:Int))),some (.im (.int lg)),some (.im (.int hv)),some (.im (.int lw)),some (.im (.int c)),some (.mu 2),some (.im (.int (j:Int))),some (.im (.int (1 + lw + r4))),some (.im (.int (lw + r5))),z10,z11,z12] _ _
      repeat sizeOf_list_dec
      by_cases hj0:(0:Int) < (j:Int)
      . rw[if_pos (by simpa using hj0)]
        repeat sizeOf_list_dec
        refine tap.draw (n:=0) hT rfl (by first|decide|omega) (by first|decide|omega) λ r6 a b hT pr6 qr6=>?_
        repeat sizeOf_list_dec
        refine⟨λ _=>?_,λ _=>BD (A8 (fin _ _ a b _ _ _ (by omega) (by omega) (by omega) (by omega) hT))⟩
        repeat sizeOf_list_dec
        refine tap.draw (n:=0) (many:=(j:Int)) (rest:=[.lst (ws.map (wkD c))]) hT rfl (by omega) (by omega) λ r7 a b hT pr7 qr7=>?_
        obtain⟨u,rfl⟩:∃ u:Nat,r7=(u:Int):=⟨r7.toNat,by omega⟩
        have hu:u < ws.length:=by omega
        have hp:=hw ws[u] (List.getElem_mem hu)
        generalize hpu:ws[u]=p at hp
        obtain⟨x,y⟩:=p
        dsimp only at hp
        refine AX (ds:=ws.map (wkD c)) (e:=wkD c (x,y)) rfl (Hx rfl (by simp[hu,hpu])) ?_
        repeat sizeOf_list_dec
        have mx:∀ i,CJ x i:=λ i=>C4 (by omega) (by omega)
        have my:∀ i,CJ y i:=λ i=>C4 (by omega) (by omega)
        refine K6 (Bo ?_)
        repeat sizeOf_list_dec
        refine DR (mx _) ?_
        repeat sizeOf_list_dec
        have tail:∀ (sm:Bool) a b,T 0 a b->(sm=true->x * 3 <= lg/\y * 3 < hv)->WS (AG (Ao 12 (mIf (Dk (A2 11)) (mOp Ah (mC (.int 1)) (AC 2 AN (A1 (A2 0) (A1 (mC (.int 3)) A7)))) (mC (.int 1))))
            (C0 [8,9] (A1 (mOp BW (mOp gIx (A2 10) (mC (.int 0))) (A2 12)) (A1 (mOp BW (mOp gIx (mOp gIx (A2 10) (mC (.int 2))) (mC (.int 1))) (A2 12)) A7)))) [some (.mu 1),some (.im (.int (n:Int))),some (.im (.int lg)),some (.im (.int hv)),some (.im (.int lw)),some (.im (.int c)),some (.mu 2),some (.im (.int (j:Int))),some (.im (.int (1 + lw + r4))),some (.im (.int (lw + r5))),some (wkD c (x,y)),some (.im (.bl sm)),z12] [a,b,.lst (ws.map (wkD c))] (λ f hd=>EJ (Ba (mMt Bf (A2 6) (A1 (Av (A1 (A2 8) (A1 (A2 5) (A1 (Av (A1 (mC (.str "ends")) (A1 (A2 9) A7))) A7)))) A7))) (IX [] (λ ls hd=>∃ (ws:List (Int × Int)) (j':Nat) (a b:MO) (z7 z8 z9 z10 z11 z12:Option D),Ar ((j:Int) + 1) m=Ar (j':Int) (n - j')/\j' <= n/\ws.length=j'/\(∀ p ∈ ws,1 <= p.1/\p.1 <= 1000000/\0 <= p.2/\p.2 <= 1000000)/\ls=[some (.mu 1),some (.im (.int (n:Int))),some (.im (.int lg)),some (.im (.int hv)),some (.im (.int lw)),some (.im (.int c)),some (.mu 2),z7,z8,z9,z10,z11,z12]/\hd=[a,b,.lst (ws.map (wkD c))]/\T 0 a b) (EJ (Ab (mCB (f1 true Cu) (A1 (A2 6) A7))) Q)) f hd):=by
          intro sm a b hT hsm
          have step:∀ (v:Int) a b,T 0 a b->1 <= v->v <= 3->(v=1 ∨ (x * 3 <= lg/\y * 3 < hv))->WS (C0 [8,9] (A1 (mOp BW (mOp gIx (A2 10) (mC (.int 0))) (A2 12)) (A1 (mOp BW (mOp gIx (mOp gIx (A2 10) (mC (.int 2))) (mC (.int 1))) (A2 12)) A7))) [some (.mu 1),some (.im (.int (n:Int))),some (.im (.int lg)),some (.im (.int hv)),some (.im (.int lw)),some (.im (.int c)),some (.mu 2),some (.im (.int (j:Int))),some (.im (.int (1 + lw + r4))),some (.im (.int (lw + r5))),some (wkD c (x,y)),some (.im (.bl sm)),some (.im (.int v))] [a,b,.lst (ws.map (wkD c))] (λ f hd=>EJ (Ba (mMt Bf (A2 6) (A1 (Av (A1 (A2 8) (A1 (A2 5) (A1 (Av (A1 (mC (.str "ends")) (A1 (A2 9) A7))) A7)))) A7))) (IX [] (λ ls hd=>∃ (ws:List (Int × Int)) (j':Nat) (a b:MO) (z7 z8 z9 z10 z11 z12:Option D),Ar ((j:Int) + 1) m=Ar (j':Int) (n - j')/\j' <= n/\ws.length=j'/\(∀ p ∈ ws,1 <= p.1/\p.1 <= 1000000/\0 <= p.2/\p.2 <= 1000000)/\ls=[some (.mu 1),some (.im (.int (n:Int))),some (.im (.int lg)),some (.im (.int hv)),some (.im (.int lw)),some (.im (.int c)),some (.mu 2),z7,z8,z9,z10,z11,z12]/\hd=[a,b,.lst (ws.map (wkD c))]/\T 0 a b) (EJ (Ab (mCB (f1 true Cu) (A1 (A2 6) A7))) Q)) f hd):=by
            intro v a b hT v1 v3 hv'
            repeat sizeOf_list_dec
            refine DR (mx _) ?_
            repeat sizeOf_list_dec
            refine DR (my _) ?_
            repeat sizeOf_list_dec
            refine⟨rfl,A8 ?_⟩
            have bx:1 <= x * v/\x * v <= 1000000/\0 <= y * v/\y * v <= 1000000:=by
              rcases(show v=1 ∨ v=2 ∨ v=3 by omega)with rfl|rfl|rfl
              . omega
              . rcases hv' with h|h
                . omega
                . omega
              . rcases hv' with h|h
                . omega
                . omega
            exact fin (x * v) (y * v) a b _ _ _ bx.1 bx.2.1 bx.2.2.1 bx.2.2.2 hT
          refine AH (Au (RZ (EZ (A4 rfl ⟨_,rfl,?_⟩))))
          refine⟨λ h=>?_,λ h=>AL (A8 (step 1 a b hT (by omega) (by omega) (.inl rfl)))⟩
          repeat sizeOf_list_dec
          refine tap.draw (n:=0) hT rfl (by decide) (by decide) λ r8 a b hT pr8 qr8=>?_
          exact Bj (A8 (step (1 + r8) a b hT (by omega) (by omega) (.inr (hsm h))))
        by_cases hs1:x * 3 <= lg
        . rw[if_pos (by simpa using hs1)]
          refine AD (AD (AD (AD (A4 rfl (AL (AX rfl (FT _ _ _ _) ?_))))))
          refine AL (AX rfl (Cw _ _ _) (AL (DR (my _) (A4 rfl (Gg (A8 (tail _ a b hT λ h=>⟨hs1,by simpa using h⟩)))))))
        . rw[if_neg (by simpa using hs1)]
          exact A8 (tail false a b hT λ h=>by cases h)
      . rw[if_neg (by simpa using hj0)]
        exact⟨(λ h=>by cases h),λ _=>BD (A8 (fin _ _ a b _ _ _ (by omega) (by omega) (by omega) (by omega) hT))⟩
    . rintro ls hd ⟨ws,j,a,b,z7,z8,z9,z10,z11,z12,er,hj,lw',hw,rfl,rfl,hT⟩
      have hj':j=n:=by
        cases q:n - j with
        | zero=>omega
        | succ m=>rw[q]at er;cases er
      repeat sizeOf_list_dec
      refine EI rfl rfl ?_
      rw[Sw]
      exact hQ c ws a b _ (by omega) ⟨hc0,hc1,by omega,by omega,hw⟩ hT
  have CH:∀ (lg hv lw:Int),0 < lg->lg <= 1000000->0 < hv->hv <= 1000001->0 <= lw->lw + lg <= 1000000->lw + hv <= 1000001->True:=λ _ _ _ _ _ _ _ _ _ _=>trivial
  rcases(show r1=0 ∨ r1=1 ∨ r1=2 ∨ r1=3 by omega)with rfl|rfl|rfl|rfl
  . refine⟨_,_,rfl,Cy _ _,⟨[some (.mu 1),some (.im (.int (n:Int))),some (.im (.int 20)),some (.im (.int 10)),some (.im (.int 0)),none,none,none,none,none,none,none,none],rfl,A8 ?_⟩⟩
    repeat sizeOf_list_dec
    rw[if_neg (by decide)]
    refine⟨(λ h=>by cases h),λ _=>BD (A8 (key _ ?_ 20 10 0 (by omega) (by omega) (by omega) (by omega) (by omega) (by omega) (by omega) a b hT))⟩
    exact λ c ws a' b' g e1 e2 e3=>⟨_,a',b',g,rfl,⟨c,ws,rfl,e1,e2⟩,e3,rfl⟩
  . refine⟨_,_,rfl,Cw _ _ _,⟨[some (.mu 1),some (.im (.int (n:Int))),some (.im (.int 3)),some (.im (.int 3)),some (.im (.int 0)),none,none,none,none,none,none,none,none],rfl,A8 ?_⟩⟩
    repeat sizeOf_list_dec
    rw[if_neg (by decide)]
    refine⟨(λ h=>by cases h),λ _=>BD (A8 (key _ ?_ 3 3 0 (by omega) (by omega) (by omega) (by omega) (by omega) (by omega) (by omega) a b hT))⟩
    exact λ c ws a' b' g e1 e2 e3=>⟨_,a',b',g,rfl,⟨c,ws,rfl,e1,e2⟩,e3,rfl⟩
  . refine⟨_,_,rfl,FT _ _ _ _,⟨[some (.mu 1),some (.im (.int (n:Int))),some (.im (.int 20)),some (.im (.int 2)),some (.im (.int 0)),none,none,none,none,none,none,none,none],rfl,A8 ?_⟩⟩
    repeat sizeOf_list_dec
    rw[if_neg (by decide)]
    refine⟨(λ h=>by cases h),λ _=>BD (A8 (key _ ?_ 20 2 0 (by omega) (by omega) (by omega) (by omega) (by omega) (by omega) (by omega) a b hT))⟩
    exact λ c ws a' b' g e1 e2 e3=>⟨_,a',b',g,rfl,⟨c,ws,rfl,e1,e2⟩,e3,rfl⟩
  . refine⟨_,_,rfl,Hx (k:=3) rfl rfl,⟨[some (.mu 1),some (.im (.int (n:Int))),some (.im (.int 1000000)),some (.im (.int 1000001)),some (.im (.int 0)),none,none,none,none,none,none,none,none],rfl,A8 ?_⟩⟩
    repeat sizeOf_list_dec
    rw[if_pos (by decide)]
    repeat sizeOf_list_dec
    refine tap.draw (n:=0) hT rfl (by decide) (by decide) λ r8 a b hT pr8 qr8=>?_
    repeat sizeOf_list_dec
    refine⟨λ h=>?_,λ _=>BD (A8 (key _ ?_ 1000000 1000001 0 (by omega) (by omega) (by omega) (by omega) (by omega) (by omega) (by omega) a b hT))⟩
    . refine Im (BF (A3 (AL (A3 (AL (A3 (AL (AB ⟨Dc,?_⟩))))))))
      refine⟨[some (.mu 1),some (.im (.int (n:Int))),some (.im (.int 8)),some (.im (.int 9)),some (.im (.int 999992)),none,none,none,none,none,none,none,none],rfl,A8 (key _ ?_ 8 9 999992 (by omega) (by omega) (by omega) (by omega) (by omega) (by omega) (by omega) a b hT)⟩
      exact λ c ws a' b' g e1 e2 e3=>⟨_,a',b',g,rfl,⟨c,ws,rfl,e1,e2⟩,e3,rfl⟩
    . exact λ c ws a' b' g e1 e2 e3=>⟨_,a',b',g,rfl,⟨c,ws,rfl,e1,e2⟩,e3,rfl⟩
open PySem L2 Bd Bt Fs
noncomputable def lf(ws:List (Int × Int))(k:Nat):Int:=((ws[k]?).map (·.1)).getD 1
noncomputable def wf(ws:List (Int × Int))(k:Nat):Int:=((ws[k]?).map (·.2)).getD 0
theorem Ir{c:Int}{ws:List (Int × Int)}{k:Nat}(hk:k < ws.length):atI (((ws.map (wk c)).map B9).map D.im) (k:Int)=some (wkD c (lf ws k,wf ws k)):=Hx rfl (by simp[hk,lf,wf])
theorem HJ{c:Int}{ws:List (Int × Int)}(W:WOk c ws){k:Nat}(hk:k < ws.length):1 <= lf ws k/\lf ws k <= 1000000/\0 <= wf ws k/\wf ws k <= 1000000:=by
  have:=W.each ws[k] (List.getElem_mem hk)
  simp[lf,wf,hk];omega
structure Bl(n:Nat)(B:List Nat):Prop where
  ne:B ≠ []
  le:B.length <= 8
  lt:∀ k ∈ B,k < n
theorem Ri{c:Int}{ws:List (Int × Int)}(W:WOk c ws):∀ (B:List Nat),(∀ k ∈ B,k < ws.length)->(B.length:Int) <= Sm (lf ws) B/\Sm (lf ws) B <= 1000000 * B.length/\0 <= Sm (wf ws) B/\Sm (wf ws) B <= 1000000 * B.length
  | [],_=>by simp[Rh]
  | x :: r,h=>by
    have ih:=Ri W r λ k hk=>h k (by simp[hk])
    have:=HJ W (h x (by simp))
    rw[K9,K9]
    simp only[List.length_cons]
    omega
theorem Us{c:Int}{ws:List (Int × Int)}(W:WOk c ws){B:List Nat}(b:Bl ws.length B):1 <= Sm (lf ws) B/\Sm (lf ws) B <= 8000000/\0 <= Sm (wf ws) B/\Sm (wf ws) B <= 8000000:=by
  have:=Ri W B b.lt
  have:=b.le
  have:1 <= B.length:=List.length_pos_iff.mpr b.ne
  omega
theorem UJ{a b:Nat}(hb:0 < b):WF BX [.im (.int (a:Int)),.im (.int (b:Int))] [] λ d x=>d=.im (.int (Nat.gcd a b:Nat)):=by
  unfold BX
  refine BE rfl ?_
  repeat sizeOf_list_dec
  refine WP.eq (z:=.im (.int (a:Int))) (h:=[]) (by simp[Jj];omega) ?_
  refine A8 ?_
  change WS _ [some (.im (.int (a:Int))),some (.im (.int (b:Int)))] _ _
  refine AH (NE (λ m ls hd=>∃ x y:Nat,m=y/\Nat.gcd x y=Nat.gcd a b/\ls=[some (.im (.int (x:Int))),some (.im (.int (y:Int)))]/\hd=[]) (n:=b) ⟨a,b,rfl,rfl,rfl,rfl⟩ ?_)
  rintro m ls hd ⟨x,y,rfl,hg,rfl,rfl⟩
  repeat sizeOf_list_dec
  by_cases hy:m=0
  . subst hy
    rw[if_neg (by simp)]
    repeat sizeOf_list_dec
    show D.im (.int (x:Int))=_
    rw[<- hg,Nat.gcd_zero_right]
  . rw[if_pos (by simp;omega)]
    repeat sizeOf_list_dec
    refine Ln (show BZ (m:Int) by unfold BZ;omega) ?_
    repeat sizeOf_list_dec
    refine⟨rfl,?_⟩
    exact⟨x % m,Nat.mod_lt _ (by omega),m,x % m,rfl,by rw[<- hg,Nat.gcd_comm x m,Nat.gcd_rec m x,Nat.gcd_comm],by simp,rfl⟩
theorem Ld{a b:Nat}(hb:0 < b)(hB:b <= 100000000):WF Cz [.im (.int (a:Int)),.im (.int (b:Int))] [] λ d x=>∃ s p q:Nat,0 < s/\a=p * s/\b=q * s/\d=.im (.tup [.int (p:Int),.int (q:Int)]):=by
  have hs:0 < Nat.gcd a b:=Nat.gcd_pos_of_pos_right _ hb
  have hs2:Nat.gcd a b <= b:=Nat.gcd_le_right _ hb
  obtain⟨p,hp⟩:=Nat.gcd_dvd_left a b
  obtain⟨q,hq⟩:=Nat.gcd_dvd_right a b
  unfold Cz
  refine BE rfl ?_
  repeat sizeOf_list_dec
  refine⟨(λ h=>by simp at h;omega),λ _=>BD (A8 ?_)⟩
  refine AH (Au (Am ?_))
  repeat sizeOf_list_dec
  refine⟨by simp,(UJ hb).mono ?_⟩
  rintro d x rfl
  refine⟨_,rfl,?_⟩
  have dv:GJ ((Nat.gcd a b:Nat):Int):=⟨by omega,by omega⟩
  repeat sizeOf_list_dec
  refine K2 dv ?_
  repeat sizeOf_list_dec
  refine K2 dv ?_
  repeat sizeOf_list_dec
  refine⟨Nat.gcd a b,p,q,hs,by rw[Nat.mul_comm];exact hp,by rw[Nat.mul_comm];exact hq,?_⟩
  have e1:(a:Int) / ((Nat.gcd a b:Nat):Int)=(p:Int):=by
    have:a / Nat.gcd a b=p:=Nat.div_eq_of_eq_mul_right hs hp
    rw[<- this];rfl
  have e2:(b:Int) / ((Nat.gcd a b:Nat):Int)=(q:Int):=by
    have:b / Nat.gcd a b=q:=Nat.div_eq_of_eq_mul_right hs hq
    rw[<- this];rfl
  rw[e1,e2]
  rfl
structure Rat'(w l:Int)(r:Int × Int):Prop where
  ex:∃ s p q:Nat,0 < s/\w=((p * s:Nat):Int)/\l=((q * s:Nat):Int)/\r=((p:Int),(q:Int))
theorem Nf{w l w' l':Int}{r r':Int × Int}(h:Rat' w l r)(h':Rat' w' l' r'):(r.1 * r'.2 < r'.1 * r.2) ↔ w * l' < w' * l:=by
  obtain⟨s,p,q,hs,rfl,rfl,rfl⟩:=h.ex
  obtain⟨s',p',q',hs',rfl,rfl,rfl⟩:=h'.ex
  dsimp only
  have e1:((p * s:Nat):Int) * ((q' * s':Nat):Int)=(p * q':Int) * ((s * s':Nat):Int):=by
    push_cast;rw[Int.mul_assoc,Int.mul_assoc,Int.mul_left_comm (s:Int)]
  have e2:((p' * s':Nat):Int) * ((q * s:Nat):Int)=(p' * q:Int) * ((s * s':Nat):Int):=by
    push_cast;rw[Int.mul_assoc,Int.mul_assoc,Int.mul_left_comm (s':Int),Int.mul_comm (s':Int) (s:Int)]
  rw[e1,e2]
  have hp:(0:Int) < ((s * s':Nat):Int):=by have:=Nat.mul_pos hs hs';omega
  constructor
  . intro h;exact Int.mul_lt_mul_of_pos_right h hp
  . intro h;exact Int.lt_of_mul_lt_mul_right h (Int.le_of_lt hp)
noncomputable abbrev CM(r:Int × Int):D:=DM r
theorem T1{r r':Int × Int}(b1:∀ j,CJ r.1 j)(b2:∀ j,CJ r'.1 j):WF Fz [CM r,CM r'] [] λ d x=>d=.im (.bl (decide (r.1 * r'.2 < r'.1 * r.2))):=by
  unfold Fz
  refine BE rfl ?_
  refine Ai (AD (AD (AD (A4 rfl (AL (AX rfl (Cy _ _) ?_))))))
  refine AD (A4 rfl (AL (AX rfl (Cw _ _ _) (DR (b1 _) ?_))))
  refine AD (AD (A4 rfl (AL (AX rfl (Cy _ _) ?_))))
  refine AD (A4 rfl (AL (AX rfl (Cw _ _ _) (DR (b2 _) (Gg ?_)))))
  rfl
theorem pre{p:Nat->Prop}[DecidablePred p]:∀ {row:List Nat},row.Pairwise (λ x y=>p y->p x)->(∀ x ∈ row.take (row.filter λ x=>decide (p x)).length,p x)/\∀ x ∈ row.drop (row.filter λ x=>decide (p x)).length,¬ p x
  | [],_=>by simp
  | x :: r,h=>by
    rw[List.pairwise_cons]at h
    by_cases hx:p x
    . have ih:=pre h.2
      rw[List.filter_cons,if_pos (by simpa using hx)]
      simp only[List.length_cons,List.take_succ_cons,List.drop_succ_cons]
      refine⟨λ y hy=>?_,ih.2⟩
      rcases List.mem_cons.mp hy with rfl|hy
      . exact hx
      . exact ih.1 y hy
    . have hn:∀ y ∈ r,¬ p y:=λ y hy q=>hx (h.1 y hy q)
      have:((x :: r).filter λ x=>decide (p x))=[]:=by
        refine List.filter_eq_nil_iff.mpr λ y hy=>?_
        rcases List.mem_cons.mp hy with rfl|hy
        . simpa using hx
        . simpa using hn y hy
      rw[this]
      refine⟨by simp,λ y hy=>?_⟩
      have hy:y ∈ x :: r:=by simpa using hy
      rcases List.mem_cons.mp hy with rfl|hy
      . exact hx
      . exact hn y hy
structure Rs(n:Nat)(fl fw:Nat->Int):Prop where
  n8:n <= 8
  b:∀ k,k < n->1 <= fl k/\fl k <= 8000000/\0 <= fw k/\fw k <= 8000000
section
variable{n:Nat}{fl fw:Nat->Int}
noncomputable abbrev le(fl fw:Nat->Int)(x y:Nat):Prop:=fw y * fl x <= fw x * fl y
noncomputable abbrev lE(fl fw:Nat->Int)(x y:Nat):Prop:=le fl fw x y/\(le fl fw y x->x < y)
theorem T8(W:Rs n fl fw){row:List Nat}{k:Nat}(hk:k < n)(pm:row.Perm (List.range k))(pw:row.Pairwise (lE fl fw)) :
    (row.take (row.filter λ x=>decide (le fl fw x k)).length ++ k :: row.drop (row.filter λ x=>decide (le fl fw x k)).length).Perm (List.range (k + 1))/\(row.take (row.filter λ x=>decide (le fl fw x k)).length ++ k :: row.drop (row.filter λ x=>decide (le fl fw x k)).length).Pairwise (lE fl fw):=by
  have hin:∀ x ∈ row,x < k:=λ x hx=>by simpa using pm.mem_iff.mp hx
  have P:=pre (p:=λ x=>le fl fw x k) (row:=row) (List.Pairwise.imp_of_mem (λ {x y} hx hy h q=>by
    have b1:=W.b x (by have:=hin x hx;omega);have b2:=W.b y (by have:=hin y hy;omega);have b3:=W.b k hk
    exact rtr (by omega) (by omega) (by omega) h.1 q) pw)
  generalize (row.filter λ x=>decide (le fl fw x k)).length=p at *
  constructor
  . have h1:(row.take p ++ k :: row.drop p).Perm (k :: row):=by
      have:=List.perm_middle (a:=k) (l₁:=row.take p) (l₂:=row.drop p)
      rwa [List.take_append_drop]at this
    refine h1.trans ?_
    rw[List.range_succ]
    exact((List.Perm.cons k pm).trans (List.perm_append_singleton k _).symm)
  . have hs:(row.take p ++ row.drop p).Pairwise (lE fl fw):=by rw[List.take_append_drop];exact pw
    rw[List.pairwise_append]at hs ⊢
    refine⟨hs.1,List.pairwise_cons.mpr ⟨λ y hy=>?_,hs.2.1⟩,λ x hx y hy=>?_⟩
    . have:=P.2 y hy
      refine⟨?_,λ q=>absurd q this⟩
      unfold le at this ⊢
      omega
    . rcases List.mem_cons.mp hy with rfl|hy
      . exact⟨P.1 x hx,λ _=>hin x (List.mem_of_mem_take hx)⟩
      . exact hs.2.2 x hx y hy
theorem UL(p:Nat->Prop)[DecidablePred p](L:List Nat):(L.filterMap λ a=>if p a then some (D.im (.int (a:Int)))else none).length=(L.filter λ a=>decide (p a)).length:=by
  induction L with
  | nil=>rfl
  | cons x r ih=>
    rw[List.filterMap_cons,List.filter_cons]
    by_cases h:p x
    . simp[h,ih]
    . simp[h,ih]
theorem sv{hd:Hd}{m:Nat}{ds:List D}(e:hd[m]? = some (.lst ds)):BI hd (.mu m)=some ds:=by simp[BI,AY,B6,e]
theorem hl{hd g:Hd}{m:Nat}{o:MO}(e:hd[m]? = some o):(hd ++ g)[m]? = some o:=by rw[List.getElem?_append_left (List.getElem?_eq_some_iff.mp e).1];exact e
theorem hn{hd g:Hd}{o:MO}:(hd ++ o :: g)[hd.length]? = some o:=by simp
inductive IF(rs:List (Int × Int))(E:List D)(m:Nat)(hd0:Hd)(fl fw:Nat->Int):List D->Ls->Hd->Prop
  | mk (row:List Nat) (j:Nat) (z2 z3:Option D) (hj:j <= E.length) (pm:row.Perm (List.range j)) (pw:row.Pairwise (lE fl fw)):IF rs E m hd0 fl fw (E.drop j) [some (.mu m),some (.mu hd0.length),z2,z3] (hd0 ++ [.lst (Cq row)])
theorem Ms(W:Rs n fl fw){rs:List (Int × Int)}(hr:rs.length=n)(R:∀ k,(hk:k < rs.length)->Rat' (fw k) (fl k) rs[k]){hd:Hd}{m:Nat}(em:hd[m]? = some (.lst (rs.map CM))) :
    WF Cl [.mu m] hd λ d x=>∃ row:List Nat,d=.mu hd.length/\x=hd ++ [.lst (Cq row)]/\row.Perm (List.range n)/\row.Pairwise (lE fl fw):=by
  have n8:=W.n8
  have rb:∀ k (hk:k < rs.length) j,CJ rs[k].1 j:=λ k hk j=>by
    obtain⟨s,p,q,hs,e1,e2,e3⟩:=(R k hk).ex
    have b:=W.b k (by omega)
    have h2:p <= p * s:=Nat.le_mul_of_pos_right _ hs
    rw[e3]
    exact C4 (by dsimp only;omega) (by dsimp only;omega)
  unfold Cl
  refine BE rfl ?_
  refine AH (Au (E1 (E2 (AB ⟨HN,A8 ?_⟩))))
  refine AH (DQ (Hb (Km (A4 rfl ⟨m,_,rfl,hl em,?_⟩))))
  dsimp only
  generalize hE:((rs.map CM).zipIdx.map λ q=>B0 [.im (.int (q.2:Int)),q.1])=E
  have El:E.length=rs.length:=by rw[<- hE];simp
  have Ea:∀ j (hj:j < E.length),E[j]=.im (.tup [.int (j:Int),.tup [.int rs[j].1,.int rs[j].2]]):=by
    intro j hj
    subst hE
    simp[CM,DM,B0,BS]
  have gk:∀ row:List Nat,GOk (hd ++ [.lst (Cq row)]) [(m,rs.map CM)]:=λ row p hp=>by simp at hp;subst hp;exact hl em
  refine Cm (IF rs E m hd fl fw) (.mk [] 0 none none (by omega) (by simp) (by simp)) ?_ ?_
  . intro d r ls hd' hI
    generalize er:d :: r=er' at hI
    cases hI with
    | mk row j z2 z3 hj pm pw=>
    have hj':j < E.length:=by
      rcases Nat.lt_or_ge j E.length with h|h
      . exact h
      . rw[List.drop_eq_nil_of_le h]at er;cases er
    rw[List.drop_eq_getElem_cons hj',Ea j hj']at er
    obtain⟨rfl,rfl⟩:=List.cons.inj er
    have hjr:j < rs.length:=by omega
    have rl:row.length=j:=by simpa using pm.length_eq
    have hin:∀ x ∈ row,x < j:=λ x hx=>by simpa using pm.mem_iff.mp hx
    refine⟨[some (.mu m),some (.mu hd.length),some (.im (.int (j:Int))),some (CM rs[j])],rfl,?_⟩
    refine DB (Gj (A4 rfl ⟨⟨Cq row,by simp[B6]⟩,A3 (Cn (Be (Km (A4 rfl ⟨hd.length,_,rfl,hn,?_⟩))))⟩))
    refine⟨B2 (by simp;omega),?_⟩
    refine Co (λ k:Nat=>D.im (.int (k:Int))) (λ x=>if le fl fw x j then some (.im (.int (x:Int)))else none) (λ _ ls=>∃ x,ls=[some x,some (.mu m),some (CM rs[j])]) _ (by intro p hp;simp at hp;subst hp;exact hn) ?_ ?_
    . rintro x hx ls hls
      have hxr:x < rs.length:=by have:=hin x hx;omega
      refine⟨[some (.im (.int (x:Int))),some (.mu m),some (CM rs[j])],by rcases hls with rfl|⟨_,x,rfl⟩ <;> rfl,⟨_,rfl⟩,?_⟩
      refine Ik (EZ (Am (A3 (AD (A4 rfl (A4 rfl (AX (ds:=rs.map CM) (e:=CM rs[x]) (sv (hl em)) (Hx rfl (by simp[hxr])) ?_)))))))
      refine A3 (A4 rfl (AB ⟨by simp[CM,DM],(T1 (rb x hxr) (rb j hjr)).mono ?_⟩))
      rintro d y rfl
      refine⟨_,rfl,_,rfl,rfl,?_⟩
      have q:=Nf (R x hxr) (R j hjr)
      have q2:¬ (fw x * fl j < fw j * fl x) ↔ le fl fw x j:=by unfold le;omega
      by_cases h:le fl fw x j
      . rw[if_pos (by simp;have:=q2.mpr h;have:=mt q.mp this;omega)]
        exact⟨_,if_pos h,A4 rfl ⟨rfl,rfl⟩⟩
      . rw[if_neg (by simp;have:=mt q2.mp h;have:=q.mpr (by omega);omega)]
        exact if_neg h
    refine⟨_,rfl,?_⟩
    rw[UL]
    refine A3 (A4 rfl (AB ?_))
    have ff:=List.length_filter_le (λ x=>decide (le fl fw x j)) row
    refine Lo (ds:=Cq row) hn (by omega) (by simp;omega) (FO (by simp;omega)) ?_
    obtain⟨a1,a2⟩:=T8 W (by omega) pm pw
    refine⟨?_,?_⟩
    . intro p hp;simp at hp;subst hp
      rw[List.set_append_right _ _ (Nat.le_refl _)]
      exact hl em
    . have e2:(hd ++ [MO.lst (Cq row)]).set hd.length (.lst ((Cq row).take (((row.filter λ a=>decide (le fl fw a j)).length:Int)).toNat ++ D.im (.int (j:Int)) :: (Cq row).drop (((row.filter λ a=>decide (le fl fw a j)).length:Int)).toNat))=hd ++ [.lst (Cq (row.take (row.filter λ x=>decide (le fl fw x j)).length ++ j :: row.drop (row.filter λ x=>decide (le fl fw x j)).length))]:=by
        simp[Cq]
      rw[e2]
      exact .mk _ (j + 1) _ _ (by omega) a1 a2
  . intro ls hd' hI
    generalize er:([]:List D)=er' at hI
    cases hI with
    | mk row j z2 z3 hj pm pw=>
    have hj':j=n:=by
      rcases Nat.lt_or_ge j E.length with h|h
      . rw[List.drop_eq_getElem_cons h]at er;cases er
      . omega
    subst hj'
    refine A8 (Ai (A4 rfl ?_))
    exact⟨row,rfl,rfl,pm,pw⟩
end
theorem Gh(c:Int)(ws:List (Int × Int)):((ws.map (wk c)).map B9).map D.im=ws.map (wkD c):=by simp
theorem OO{c:Int}{ws:List (Int × Int)}(W:WOk c ws):WF B8 [.im (Bb c ws)] [] λ d x=>d=.im (.int c):=by
  have n1:=W.n1;have n8:=W.n8
  unfold B8
  refine BE rfl ?_
  refine AH (Au (Am (A3 (A4 rfl (AB ⟨by simp,?_⟩)))))
  have S:WF BC [.im (Bb c ws)] [] λ d x=>d=.im (.int c):=by
    unfold BC
    refine BE rfl ?_
    refine AH (Au (AD (AD (A4 rfl (AL (AX rfl (Ir (k:=0) (by omega)) ?_))))))
    refine AL (AX rfl (Cw _ _ _) (A8 ?_))
    refine AH (BV (EZ (Cn (Be (Dh (A4 rfl ⟨_,rfl,?_⟩))))))
    rw[Gh]
    refine⟨B2 (by simp;omega),?_⟩
    refine Co (wkD c) (λ _=>some (.im (.bl true))) (λ _ ls=>∃ x,ls=[some x,some (.im (.int c))]) _ (Ap _) ?_ ?_
    . rintro p hp ls hls
      refine⟨[some (wkD c p),some (.im (.int c))],by rcases hls with rfl|⟨_,x,rfl⟩ <;> rfl,⟨_,rfl⟩,C8 ⟨rfl,?_⟩⟩
      rw[if_pos rfl]
      refine⟨_,rfl,AD (AD (A4 rfl (AL (AX rfl (Cw _ _ _) (A4 rfl (Fb ⟨rfl,?_⟩))))))⟩
      simp
    have e:(ws.filterMap λ _=>some (D.im (.bl true)))=blD (ws.map λ _=>true):=by simp[blD]
    rw[e]
    refine⟨_,by rw[LS,FS];rfl,_,rfl,?_⟩
    refine⟨λ _=>?_,(λ h=>by simp at h)⟩
    exact Ai (A4 rfl rfl)
  refine S.mono ?_
  rintro d x rfl
  refine⟨_,rfl,A8 ?_⟩
  refine AH (BV (Bo ?_))
  refine WP.eq (z:=.im (.bl false)) (h:=[]) (by simp[Fo]) ⟨_,rfl,(λ h=>by cases h),λ _=>BD (A8 ?_)⟩
  exact Ai (A4 rfl rfl)
theorem Nc{c:Int}{ws:List (Int × Int)}(W:WOk c ws):WF Ak [.im (Bb c ws),.im (.str "ends")] [] λ d x=>d=.im .non:=by
  have n8:=W.n8
  unfold Ak
  refine BE rfl ?_
  refine BV (EZ (Cn (Be (Dh (A4 rfl ⟨_,rfl,?_⟩)))))
  rw[Gh]
  refine⟨B2 (by simp;omega),?_⟩
  refine Co (wkD c) (λ _=>some (.im (.bl false))) (λ _ ls=>∃ x,ls=[some x,some (.im (.str "ends"))]) _ (Ap _) ?_ ?_
  . rintro p hp ls hls
    refine⟨[some (wkD c p),some (.im (.str "ends"))],by rcases hls with rfl|⟨_,x,rfl⟩ <;> rfl,⟨_,rfl⟩,C8 ⟨rfl,?_⟩⟩
    rw[if_pos rfl]
    refine⟨_,rfl,AD (AD (AD (A4 rfl (AL (AX rfl (FT _ _ _ _) (AL (AX rfl (Cy _ _) (A4 rfl (Fa ⟨rfl,?_⟩)))))))))⟩
    simp
  have e:(ws.filterMap λ _=>some (D.im (.bl false)))=blD (ws.map λ _=>false):=by simp[blD]
  rw[e]
  refine⟨_,by rw[Hq,FS];rfl,_,rfl,?_⟩
  exact⟨(λ h=>by simp at h),λ _=>BD rfl⟩
theorem Ko{c:Int}{ws:List (Int × Int)}(W:WOk c ws):WF Ay [.im (Bb c ws)] [] λ d x=>d=.im (.int c):=by
  unfold Ay
  refine BE rfl ?_
  refine AH (Au (Am (A3 (A4 rfl (AB ⟨by simp,(OO W).mono ?_⟩)))))
  rintro d x rfl
  refine⟨_,rfl,A8 ?_⟩
  refine AH (DB (Am (A3 (A4 rfl (A3 (AL (AB ⟨by simp,(Nc W).mono ?_⟩)))))))
  rintro d x rfl
  exact⟨_,rfl,A8 (Ai (A4 rfl rfl))⟩
theorem NG(c:Int)(p:Int × Int):WF CY [wkD c p] [] λ d x=>d=.im (.int p.2):=by
  unfold CY
  refine BE rfl ?_
  refine Ai (AD (AD (A4 rfl (AL (AX rfl (FT _ _ _ _) ?_)))))
  refine RX (AL ⟨_,rfl,?_⟩)
  refine AX (ds:=[.im (.str "ends"),.im (.int p.2)]) (e:=.im (.int p.2)) rfl ?_ rfl
  rfl
theorem Jd(f:Nat->Int)(B:List Nat):Jf (B.map λ k=>D.im (.int (f k)))=some (.im (.int (Sm f B))):=by
  have:(B.map λ k=>D.im (.int (f k)))=(B.map f).map λ i=>D.im (.int i):=by simp
  rw[this]
  unfold Jf
  rw[IH]
  rfl
theorem KP(B:List Nat):(B.map λ k:Nat=>I.int (k:Int)).map D.im=B.map λ k:Nat=>D.im (.int (k:Int)):=by simp
theorem KU(f:Nat->D)(B:List Nat):(B.filterMap λ k=>some (f k))=B.map f:=by simp
theorem OD{c:Int}{ws:List (Int × Int)}(W:WOk c ws){B:List Nat}(b:Bl ws.length B):WF CZ [.im (Bb c ws),.im (EN B)] [] λ d x=>d=.im (.int (Sm (lf ws) B)):=by
  have:=b.le
  unfold CZ
  refine BE rfl ?_
  refine Ai (Cn (Be (Dh (A4 rfl ⟨_,rfl,?_⟩))))
  rw[KP]
  refine⟨B2 (by simp;omega),?_⟩
  refine Co (xs:=B) (λ k:Nat=>D.im (.int (k:Int))) (λ k=>some (.im (.int (lf ws k)))) (λ _ ls=>∃ x,ls=[some x,some (.im (Bb c ws))]) _ (Ap _) ?_ ?_
  . rintro x hx ls hls
    refine⟨[some (.im (.int (x:Int))),some (.im (Bb c ws))],by rcases hls with rfl|⟨_,x,rfl⟩ <;> rfl,⟨_,rfl⟩,C8 ⟨rfl,?_⟩⟩
    rw[if_pos rfl]
    exact⟨_,rfl,AD (AD (A4 rfl (A4 rfl (AX rfl (Ir (b.lt x hx)) (AL (AX rfl (Cy _ _) ⟨rfl,rfl⟩))))))⟩
  . rw[KU]
    exact⟨_,Jd _ _,rfl⟩
theorem Pt{c:Int}{ws:List (Int × Int)}(W:WOk c ws){B:List Nat}(b:Bl ws.length B):WF CL [.im (Bb c ws),.im (EN B)] [] λ d x=>∃ r,d=CM r/\Rat' (Sm (wf ws) B) (Sm (lf ws) B) r:=by
  have bb:=Us W b;have:=b.le
  unfold CL
  refine BE rfl ?_
  refine Ai (Am (A3 (Cn (Be (Dh (A4 rfl ⟨_,rfl,?_⟩))))))
  rw[KP]
  refine⟨B2 (by simp;omega),?_⟩
  refine Co (xs:=B) (λ k:Nat=>D.im (.int (k:Int))) (λ k=>some (.im (.int (wf ws k)))) (λ _ ls=>∃ x,ls=[some x,some (.im (Bb c ws))]) _ (Ap _) ?_ ?_
  . rintro x hx ls hls
    refine⟨[some (.im (.int (x:Int))),some (.im (Bb c ws))],by rcases hls with rfl|⟨_,x,rfl⟩ <;> rfl,⟨_,rfl⟩,C8 ⟨rfl,?_⟩⟩
    rw[if_pos rfl]
    refine⟨_,rfl,Am (A3 (AD (A4 rfl (A4 rfl (AX rfl (Ir (b.lt x hx)) (AB ⟨by simp[wkD,B9],(NG c _).mono ?_⟩))))))⟩
    rintro d y rfl
    exact⟨_,rfl,rfl,rfl⟩
  rw[KU]
  refine⟨_,Jd _ _,?_⟩
  refine A3 (Am (A3 (A4 rfl (A3 (A4 rfl (AB ⟨by simp,(OD W b).mono ?_⟩))))))
  rintro d x rfl
  refine⟨_,rfl,AB ⟨by simp,?_⟩⟩
  obtain⟨wn,hwn⟩:∃ wn:Nat,Sm (wf ws) B=(wn:Int):=⟨(Sm (wf ws) B).toNat,by omega⟩
  obtain⟨ln,hln⟩:∃ ln:Nat,Sm (lf ws) B=(ln:Int):=⟨(Sm (lf ws) B).toNat,by omega⟩
  rw[hwn,hln]
  refine(Ld (a:=wn) (b:=ln) (by omega) (by omega)).mono ?_
  rintro d x ⟨s,p,q,hs,e1,e2,rfl⟩
  exact⟨_,rfl,((p:Int),(q:Int)),rfl,⟨s,p,q,hs,by rw[e1],by rw[e2],rfl⟩⟩
noncomputable def wd:Cost->Str
  | .late _=>"late"
  | .tardy _ _=>"tardy"
  | .miss _ _=>"miss"
  | .ends _=>"ends"
  | .steps _=>"steps"
theorem Kd(c:Cost):∃ is,CK c=.tup (.str (wd c) :: is):=by cases c <;> exact⟨_,rfl⟩
theorem PJ(c:Cost):wd c="ends" ↔ ∃ x,c=.ends x:=by
  cases c with
  | ends x=>exact⟨λ _=>⟨x,rfl⟩,λ _=>rfl⟩
  | late d=>exact⟨λ q=>absurd q n5,λ⟨x,q⟩=>nomatch q⟩
  | tardy d w=>exact⟨λ q=>absurd q n6,λ⟨x,q⟩=>nomatch q⟩
  | miss d w=>exact⟨λ q=>absurd q n7,λ⟨x,q⟩=>nomatch q⟩
  | steps r=>exact⟨λ q=>absurd q n11,λ⟨x,q⟩=>nomatch q⟩
structure GW(ws:List Wk):Prop where
  n1:1 <= ws.length
  n8:ws.length <= 8
  each:∀ w ∈ ws,1 <= w.len/\w.len <= 1000000/\0 <= w.com/\w.com <= 60/\∀ x,w.cost=.ends x->0 <= x/\x <= 1000000
noncomputable def c0(ws:List Wk):Int:=(ws.head?.map Wk.com).getD 0
noncomputable def same(ws:List Wk):Prop:=∀ w ∈ ws,w.com=c0 ws
noncomputable instance (ws:List Wk):Decidable (same ws):=inferInstanceAs (Decidable (∀ w ∈ ws,w.com=c0 ws))
noncomputable def DH(ws:List Wk):Prop:=∀ w ∈ ws,wd w.cost="ends"
noncomputable instance (ws:List Wk):Decidable (DH ws):=inferInstanceAs (Decidable (∀ w ∈ ws,wd w.cost="ends"))
noncomputable abbrev wD(w:Wk):D:=.im (B9 w)
theorem Gk(ws:List Wk):(ws.map B9).map D.im=ws.map wD:=by simp
theorem RR{α:Type}(p:α->Prop)[DecidablePred p](l:List α):(l.map λ x=>decide (p x)).all id=decide (∀ x ∈ l,p x):=by
  induction l with
  | nil=>simp
  | cons a r ih=>simp[ih]
theorem Ki{α:Type}(p:α->Prop)[DecidablePred p](l:List α):(l.map λ x=>!decide (p x)).any id=!decide (∀ x ∈ l,p x):=by
  induction l with
  | nil=>simp
  | cons a r ih=>simp[ih]
theorem M4{ws:List Wk}(W:GW ws):WF BC [.im (AU ws)] [] λ d x=>d=if same ws then .im (.int (c0 ws))else .im .non:=by
  have n1:=W.n1;have n8:=W.n8
  unfold BC
  refine BE rfl ?_
  match ws,W with
  | w :: r,W=>
  refine AH (Au (AD (AD (A4 rfl (AL (AX rfl (Cy _ _) ?_))))))
  refine AL (AX rfl (Cw _ _ _) (A8 ?_))
  refine AH (BV (EZ (Cn (Be (Dh (A4 rfl ⟨_,rfl,?_⟩))))))
  rw[Gk]
  refine⟨B2 (by simp at n8 ⊢;omega),?_⟩
  refine Co wD (λ z=>some (.im (.bl (decide (z.com=w.com))))) (λ _ ls=>∃ x,ls=[some x,some (.im (.int w.com))]) _ (Ap _) ?_ ?_
  . rintro p hp ls hls
    refine⟨[some (wD p),some (.im (.int w.com))],by rcases hls with rfl|⟨_,x,rfl⟩ <;> rfl,⟨_,rfl⟩,C8 ⟨rfl,?_⟩⟩
    rw[if_pos rfl]
    exact⟨_,rfl,AD (AD (A4 rfl (AL (AX rfl (Cw _ _ _) (A4 rfl (Fb ⟨rfl,rfl⟩))))))⟩
  have e:((w :: r).filterMap λ z=>some (D.im (.bl (decide (z.com=w.com)))))=blD ((w :: r).map λ z=>decide (z.com=w.com)):=by simp[blD]
  rw[e]
  refine⟨_,by rw[LS,FS];rfl,_,rfl,?_⟩
  rw[RR (λ z:Wk=>z.com=w.com)]
  refine⟨λ h=>?_,λ h=>BD (A8 ?_)⟩
  . have:same (w :: r):=of_decide_eq_true h
    rw[if_pos this]
    exact Ai (A4 rfl rfl)
  . have:¬ same (w :: r):=of_decide_eq_false h
    rw[if_neg this]
    exact Ai (AL rfl)
theorem U8{ws:List Wk}(W:GW ws)(h:same ws):WF B8 [.im (AU ws)] [] λ d x=>d=.im (.int (c0 ws)):=by
  unfold B8
  refine BE rfl ?_
  refine AH (Au (Am (A3 (A4 rfl (AB ⟨by simp,(M4 W).mono ?_⟩)))))
  rintro d x rfl
  rw[if_pos h]
  refine⟨_,rfl,A8 ?_⟩
  refine AH (BV (Bo ?_))
  refine WP.eq (z:=.im (.bl false)) (h:=[]) (by simp[Fo]) ⟨_,rfl,(λ h=>by cases h),λ _=>BD (A8 ?_)⟩
  exact Ai (A4 rfl rfl)
theorem U7{ws:List Wk}(W:GW ws)(h:¬ same ws):WF Bw [.im (AU ws)] [] λ d x=>d=.im (.str "coming"):=by
  unfold Bw
  refine Gi rfl ?_
  refine AH (Ll (Au (Am (A3 (A4 rfl (AB ⟨by simp,(M4 W).mono ?_⟩))))))
  rintro d x rfl
  rw[if_neg h]
  refine⟨_,rfl,(λ d q=>nomatch q),A8 ?_⟩
  refine AH (BV (Bo ?_))
  refine WP.eq (z:=.im (.bl true)) (h:=[]) (by simp[Fo]) ⟨_,rfl,λ _=>?_,(λ h=>by cases h)⟩
  exact Ai (AL ⟨_,rfl,rfl⟩)
theorem L8{ws:List Wk}(W:GW ws){ls:Ls}(e0:ls=[some (.im (AU ws)),some (.im (.str "ends"))]){QT:Bool->Hd->Prop}(q:QT (!decide (DH ws)) []) :
    WT (Dk (EE Hq (Bn 1 [1] (C6 (A2 0)) (AS 0) Cb (mOp gNe (mOp gIx (mOp gIx (A2 0) (mC (.int 2))) (mC (.int 0))) (A2 1))))) ls [] QT:=by
  have n8:=W.n8
  subst e0
  refine EZ (Cn (Be (Dh (A4 rfl ⟨_,rfl,?_⟩))))
  rw[Gk]
  refine⟨B2 (by simp;omega),?_⟩
  refine Co wD (λ z=>some (.im (.bl (!decide (wd z.cost="ends"))))) (λ _ ls=>∃ x,ls=[some x,some (.im (.str "ends"))]) _ (Ap _) ?_ ?_
  . rintro p hp ls hls
    refine⟨[some (wD p),some (.im (.str "ends"))],by rcases hls with rfl|⟨_,x,rfl⟩ <;> rfl,⟨_,rfl⟩,C8 ⟨rfl,?_⟩⟩
    rw[if_pos rfl]
    obtain⟨is,ei⟩:=Kd p.cost
    refine⟨_,rfl,AD (AD (AD (A4 rfl (AL (AX rfl (FT _ _ _ _) (AL ?_))))))⟩
    show WP (gIx (.im (CK p.cost)) (.im (.int 0)) []) _
    rw[ei]
    exact AX rfl (Cy _ _) (A4 rfl (Fa ⟨rfl,rfl⟩))
  have e:(ws.filterMap λ z=>some (D.im (.bl (!decide (wd z.cost="ends")))))=blD (ws.map λ z=>!decide (wd z.cost="ends")):=by simp[blD]
  rw[e]
  refine⟨_,by rw[Hq,FS];rfl,_,rfl,?_⟩
  rw[Ki (λ z:Wk=>wd z.cost="ends")]
  exact q
theorem Nb{ws:List Wk}(W:GW ws)(h:¬ DH ws):WF B3 [.im (AU ws),.im (.str "ends")] [] λ d x=>d=.im (.str "ends"):=by
  unfold B3
  refine Gi rfl ?_
  refine BV (L8 W rfl ?_)
  rw[decide_eq_false h]
  exact⟨λ _=>Ai (A4 rfl ⟨_,rfl,rfl⟩),(λ h=>by cases h)⟩
noncomputable def C1(ws:List Wk):Str:=if same ws then "ends" else "coming"
theorem Kn{ws:List Wk}(W:GW ws)(h:¬ (same ws/\DH ws)):WF BJ [.im (AU ws)] [] λ d x=>d=.im (.str (C1 ws)):=by
  unfold BJ
  refine Gi rfl ?_
  by_cases s:same ws
  . have a:¬ DH ws:=λ a=>h ⟨s,a⟩
    refine AH (P9 (Au (Am (A3 (A4 rfl (AB ⟨by simp,(U8 W s).mono ?_⟩))))))
    rintro d x rfl
    refine⟨_,rfl,(λ d q=>nomatch q),A8 ?_⟩
    refine AH (G4 (GI (Cc Ck)) (Ai (Am (A3 (A4 rfl (A3 (AL (AB ⟨by simp,(Nb W a).mono ?_⟩))))))))
    rintro d x rfl
    refine⟨_,rfl,_,rfl,_,rfl,?_⟩
    unfold C1;rw[if_pos s]
  . refine AH (G4 (Jn (Cc FZ)) (Ai (Am (A3 (A4 rfl (AB ⟨by simp,(U7 W s).mono ?_⟩))))))
    rintro d x rfl
    refine⟨_,rfl,_,rfl,_,rfl,?_⟩
    unfold C1;rw[if_neg s]
theorem O6{ws:List Wk}(W:GW ws)(s:same ws)(a:DH ws):∃ ps:List (Int × Int),ws=ps.map (wk (c0 ws))/\WOk (c0 ws) ps:=by
  have go:∀ l:List Wk,(∀ w ∈ l,w.com=c0 ws/\wd w.cost="ends"/\1 <= w.len/\w.len <= 1000000/\∀ x,w.cost=.ends x->0 <= x/\x <= 1000000)->∃ ps:List (Int × Int),l=ps.map (wk (c0 ws))/\∀ p ∈ ps,1 <= p.1/\p.1 <= 1000000/\0 <= p.2/\p.2 <= 1000000:=by
    intro l
    induction l with
    | nil=>intro _;exact⟨[],rfl,by simp⟩
    | cons w r ih=>
      intro h
      obtain⟨ps,e,b⟩:=ih λ z hz=>h z (by simp[hz])
      obtain⟨h1,h2,h3,h4,h5⟩:=h w (by simp)
      obtain⟨x,hx⟩:=(PJ _).mp h2
      have:=h5 x hx
      refine⟨(w.len,x) :: ps,?_,?_⟩
      . rw[List.map_cons,e]
        congr 1
        cases w;simp_all
      . intro p hp
        rcases List.mem_cons.mp hp with rfl|hp
        . exact⟨h3,h4,this.1,this.2⟩
        . exact b p hp
  obtain⟨ps,e,b⟩:=go ws λ w hw=>⟨s w hw,a w hw,(W.each w hw).1,(W.each w hw).2.1,(W.each w hw).2.2.2.2⟩
  refine⟨ps,e,?_⟩
  have l:ps.length=ws.length:=by rw[e];simp
  match hh:ws,W with
  | w :: r,W=>exact⟨(W.each w (by simp)).2.2.1,(W.each w (by simp)).2.2.2.1,by rw[l];exact W.n1,by rw[l];exact W.n8,b⟩
theorem Qb{c:Int}{ws:List (Int × Int)}(W:WOk c ws):WF BK [.im (Bb c ws)] [] λ d x=>∃ row:List Nat,d=.im (EN row)/\row.Perm (List.range ws.length)/\row.Pairwise (lE (lf ws) (wf ws)):=by
  have n8:=W.n8
  unfold BK
  refine BE rfl ?_
  refine AH (DB (Am (A3 (A4 rfl (AB ⟨by simp,(Ko W).mono ?_⟩)))))
  rintro d x rfl
  refine⟨_,rfl,A8 ?_⟩
  refine Ai (CF (A3 (FC (A3 (E1 (Be (Iu (A3 (CF (A3 (A4 rfl (AB ?_))))))))))))
  refine EI (ds:=((ws.map (wk c)).map B9).map D.im) (z:=.im (.int (ws.length:Int))) rfl (by simp[CO]) ?_
  refine AB ⟨_,rfl,G6 (by omega) (by omega),B2 (by simp;omega),?_⟩
  rw[Int.toNat_natCast,LB]
  refine Tj (λ r es ls hd=>∃ (dn rest:List Nat) (rs:List (Int × Int)) (z:Option D),List.range ws.length=dn ++ rest/\r=Cq rest/\es=rs.map CM/\rs.length=dn.length/\(∀ k (hk:k < rs.length),Rat' (wf ws k) (lf ws k) rs[k])/\ls=[z,some (.im (Bb c ws))]/\hd=[]) ⟨[],List.range ws.length,[],none,rfl,rfl,rfl,rfl,by intro k hk;simp at hk,rfl,rfl⟩ ?_ ?_
  . rintro d r es ls hd ⟨dn,rest,rs,z,e1,e2,rfl,hl,R,rfl,rfl⟩
    cases rest with
    | nil=>cases e2
    | cons u rest=>
      obtain⟨rfl,rfl⟩:=List.cons.inj e2
      have hu:u=dn.length:=by
        have:=congrArg (λ l:List Nat=>l[dn.length]?) e1
        simp at this
        have h2:dn.length < ws.length:=by have:=congrArg List.length e1;simp at this;omega
        rw[List.getElem?_range h2]at this
        simpa using this.symm
      have hk:u < ws.length:=by have:=congrArg List.length e1;simp at this;omega
      refine⟨[some (.im (.int (u:Int))),some (.im (Bb c ws))],rfl,C8 ?_⟩
      rw[if_pos rfl]
      refine Am (A3 (A4 rfl (A3 (BF (A3 (A4 rfl (AB ⟨Dd,AB ⟨by simp,(Pt W (B:=[u]) ⟨by simp,by simp,by simpa using hk⟩).mono ?_⟩⟩)))))))
      rintro d x ⟨r,rfl,hr⟩
      have hr:Rat' (wf ws u) (lf ws u) r:=by simpa [Sm]using hr
      refine⟨_,rfl,Ap _,dn ++ [u],rest,rs ++ [r],_,by rw[e1];simp,rfl,by simp[CM,DM],by simp[hl],?_,rfl,rfl⟩
      intro k hk'
      rcases Nat.lt_or_ge k rs.length with h|h
      . rw[List.getElem_append_left h];exact R k h
      . have:k=u:=by simp at hk';omega
        subst this
        rw[List.getElem_append_right h]
        simpa using hr
  rintro es ls hd ⟨dn,rest,rs,z,e1,e2,rfl,hl,R,rfl,rfl⟩
  have:rest=[]:=by cases rest with
    | nil=>rfl
    | cons _ _=>cases e2
  subst this
  have hl':rs.length=ws.length:=by have:=congrArg List.length e1;simp at this;omega
  have Z:Rs ws.length (lf ws) (wf ws):=⟨W.n8,λ k hk=>by have:=HJ W hk;omega⟩
  refine AB ((Ms Z hl' R (hd:=[.lst (rs.map CM)]) (m:=0) rfl).mono ?_)
  rintro d x ⟨row,rfl,rfl,pm,pw⟩
  refine AB (EI (ds:=Cq row) rfl rfl ?_)
  refine⟨row,?_,pm,pw⟩
  rw[<- CB]
  simp[Cq]
  rfl
theorem T2(fl fw:Nat->Int)(x:Nat):¬ lE fl fw x x:=λ h=>Nat.lt_irrefl _ (h.2 h.1)
theorem Qn{fl fw:Nat->Int}{x y:Nat}(h:lE fl fw x y):¬ lE fl fw y x:=λ g=>by
  have a:=h.2 g.1
  have b:=g.2 h.1
  omega
noncomputable instance (fl fw:Nat->Int) (x y:Nat):Decidable (lE fl fw x y):=inferInstanceAs (Decidable (_/\_))
theorem Ke{fl fw:Nat->Int}:∀ {row:List Nat},row.Pairwise (lE fl fw)->∀ (p:Nat) (hp:p < row.length),(row.filter λ i=>decide (lE fl fw i row[p])).length=p
  | [],_,p,hp=>absurd hp (by simp)
  | x :: r,h,0,hp=>by
    have h1:=List.pairwise_cons.mp h
    have e:((x :: r).filter λ i=>decide (lE fl fw i x))=[]:=by
      refine List.filter_eq_nil_iff.mpr λ i hi=>?_
      rcases List.mem_cons.mp hi with rfl|hi
      . simpa using T2 fl fw i
      . simpa using Qn (h1.1 i hi)
    show((x :: r).filter λ i=>decide (lE fl fw i x)).length=0
    rw[e];rfl
  | x :: r,h,p + 1,hp=>by
    have h1:=List.pairwise_cons.mp h
    have hp':p < r.length:=by simpa using hp
    have ih:=Ke h1.2 p hp'
    show((x :: r).filter λ i=>decide (lE fl fw i r[p])).length=p + 1
    rw[List.filter_cons,if_pos (decide_eq_true (h1.1 _ (List.getElem_mem hp'))),List.length_cons,ih]
theorem N0{fl fw:Nat->Int}{n:Nat}{row:List Nat}(pm:row.Perm (List.range n))(pw:row.Pairwise (lE fl fw))(p:Nat)(hp:p < row.length):((List.range n).filter λ i=>decide (lE fl fw i row[p])).length=p:=by
  exact(pm.filter _).length_eq.symm.trans (Ke pw p hp)
theorem Rg{ws:List Wk}(W:GW ws)(s:same ws)(a:DH ws){ps:List (Int × Int)}(e:ws=ps.map (wk (c0 ws)))(P:WOk (c0 ws) ps):WF Dg [.im (AU ws)] [] λ d x=>∃ row:List Nat,d=.im (.tup [.str "told",EN row])/\row.Perm (List.range ps.length)/\row.Pairwise (lE (lf ps) (wf ps)):=by
  unfold Dg
  refine BE rfl ?_
  refine AH (Au (BF (A3 (AL (AB ⟨Dd,A8 ?_⟩)))))
  have ow:WF BK [.im (AU ws)] [] λ d x=>∃ row:List Nat,d=.im (EN row)/\row.Perm (List.range ps.length)/\row.Pairwise (lE (lf ps) (wf ps)):=by
    have:=Qb P
    rw[Bb,<- e]at this
    exact this
  refine AH (P6 (Au (BF (A3 (AL (A3 (Am (A3 (A4 rfl (AB ⟨by simp,ow.mono ?_⟩))))))))))
  rintro d x ⟨row,rfl,pm,pw⟩
  exact⟨_,rfl,AB ⟨Cv,A8 (Ai (A4 rfl ⟨row,rfl,pm,pw⟩))⟩⟩
theorem Lz{ws:List Wk}(W:GW ws)(h:¬ (same ws/\DH ws)):WF Dg [.im (AU ws)] [] λ d x=>d=.im (.tup [.str "no",.str (C1 ws)]):=by
  unfold Dg
  refine BE rfl ?_
  refine AH (Au (BF (A3 (AL (AB ⟨Dd,A8 ?_⟩)))))
  change WS _ [some (.im (AU ws)),some (.im (.tup [.str "other"])),none,none] _ _
  have xw:WF Bi [.im (AU ws)] [] λ d x=>d=.im (.str (C1 ws)):=by
    unfold Bi
    refine Gi rfl ?_
    refine AH (G4 (GI (Cc De)) (Ai (Am (A3 (A4 rfl (AB ⟨by simp,(Kn W h).mono ?_⟩))))))
    rintro d x rfl
    exact⟨_,rfl,_,rfl,_,rfl,rfl⟩
  have d0:=Jn (i:=1) (R8 (My (ma:=mC (.str "told")) (OM (mr:=A7) (Cc (w:=0) (ma:=A1 (A2 0) A7) Hu))))
  refine AH (P5 (HU d0) ⟨by show 2 < 4;decide,by show 3 < 4;decide,by show 1 < 4;decide⟩ (G4 d0 (Ai (PH (AL (Am (A3 (A4 rfl (AB ⟨by simp,xw.mono ?_⟩)))))))))
  rintro d x rfl
  exact⟨_,rfl,_,rfl,_,rfl,A8 (Ai (A4 rfl rfl))⟩
theorem Ra{ml:MA}{mb:ME}{ls:Ls}{hd:Hd}{QA:List D->Hd->Prop}(h:WA ml ls hd λ ds x=>WE mb ls x λ e y=>∃ k,e=.im (.int k)/\(0 <= k/\k <= 1000)/\Bv (ds.length * k.toNat)/\QA (List.replicate k.toNat ds).flatten y):WA (JZ ml mb) ls hd QA:=by
  obtain⟨ds,x,e1,d,y,e2,k,rfl,h1,h2,q⟩:=h
  exact⟨_,_,by simp only[JZ,e1,Option.bind_some,e2,h1,h2,and_self,if_true],q⟩
theorem R9(ws:List Wk):(ws.filterMap λ z=>some (D.im (.int z.com)))=(ws.map Wk.com).map (λ i=>D.im (.int i)):=by simp
theorem Iy{ws:List Wk}(W:GW ws){ls:Ls}(e0:ls=[some (.im (AU ws)),none,none,none,none,none,none,none]){QT:Bool->Hd->Prop}(q:QT (!decide (same ws)) []) :
    WT (Aj (mOp gGt (Dy (Bn 3 [] (C6 (A2 0)) (DD 3 (Aw (AS 0) (Aw (AS 1) (Aw (AS 2) DE)))) Cb (A2 1))) (mC (.int 1)))) ls [] QT:=by
  have n8:=W.n8
  subst e0
  refine Bo (AD (Lu (Be (Dh (A4 rfl ⟨_,rfl,?_⟩)))))
  rw[Gk]
  refine⟨B2 (by simp;omega),?_⟩
  refine Co wD (λ z=>some (.im (.int z.com))) (λ _ ls=>∃ x y z,ls=[some x,some y,some z]) _ (Ap _) ?_ ?_
  . rintro p hp ls hls
    refine⟨[some (.im (.int p.len)),some (.im (.int p.com)),some (.im (CK p.cost))],by rcases hls with rfl|⟨_,x,y,z,rfl⟩ <;> rfl,⟨_,_,_,rfl⟩,C8 ⟨rfl,?_⟩⟩
    rw[if_pos rfl]
    exact⟨_,rfl,A4 rfl ⟨rfl,rfl⟩⟩
  rw[R9]
  refine⟨_,rfl,by simp;omega,AL (IW ⟨_,rfl,?_⟩)⟩
  have:decide (1 < ((dkL (ws.map Wk.com)).length:Int))=!decide (same ws):=by
    match ws,W with
    | w :: r,W=>
    rw[List.map_cons,decide_eq_decide.mpr (UQ w.com (r.map Wk.com)),decide_not]
    congr 1
    refine decide_eq_decide.mpr ?_
    simp[same,c0]
  rw[this]
  exact q
theorem OH(bs:List Bool):∃ vs,CC (blD bs)=some vs/\inV (.bl false) vs=bs.any (!·):=by
  induction bs with
  | nil=>exact⟨[],rfl,rfl⟩
  | cons b r ih=>
    obtain⟨vs,e,h⟩:=ih
    refine⟨.bl b :: vs,?_,?_⟩
    . show((FN (.bl b)).bind λ v=>(CC (blD r)).map (v :: ·))=_
      rw[e];rfl
    . unfold inV at h ⊢
      rw[List.any_cons,h,List.any_cons]
      congr 1
      cases b <;> rfl
theorem M0{ws:List Wk}(W:GW ws){ls:Ls}(e0:ls=[some (.im (AU ws)),none,none,none,none,none,none,none]){QT:Bool->Hd->Prop}(q:QT (!decide (DH ws)) []) :
    WT (Aj (Hn false (mC (.bl false)) (Bn 3 [] (C6 (A2 0)) (DD 3 (Aw (AS 0) (Aw (AS 1) (Aw (AS 2) DE)))) Cb (mOp gEq (mOp gIx (A2 2) (mC (.int 0))) (mC (.str "ends")))))) ls [] QT:=by
  have n8:=W.n8
  subst e0
  refine Bo (RY (AL (Be (Dh (A4 rfl ⟨_,rfl,?_⟩)))))
  rw[Gk]
  refine⟨B2 (by simp;omega),?_⟩
  refine Co wD (λ z=>some (.im (.bl (decide (wd z.cost="ends"))))) (λ _ ls=>∃ x y z,ls=[some x,some y,some z]) _ (Ap _) ?_ ?_
  . rintro p hp ls hls
    refine⟨[some (.im (.int p.len)),some (.im (.int p.com)),some (.im (CK p.cost))],by rcases hls with rfl|⟨_,x,y,z,rfl⟩ <;> rfl,⟨_,_,_,rfl⟩,C8 ⟨rfl,?_⟩⟩
    rw[if_pos rfl]
    obtain⟨is,ei⟩:=Kd p.cost
    rw[ei]
    exact⟨_,rfl,AD (AD (A4 rfl (AL (AX rfl (Cy _ _) (AL (Ip ⟨rfl,rfl⟩))))))⟩
  have e:(ws.filterMap λ z=>some (D.im (.bl (decide (wd z.cost="ends")))))=blD (ws.map λ z=>decide (wd z.cost="ends")):=by simp[blD]
  rw[e]
  obtain⟨vs,ev,h⟩:=OH (ws.map λ z=>decide (wd z.cost="ends"))
  refine⟨_,_,vs,rfl,rfl,ev,_,rfl,?_⟩
  have:inV (.bl false) vs=!decide (DH ws):=by
    rw[h,List.any_map]
    have:=Ki (λ z:Wk=>wd z.cost="ends") ws
    rw[List.any_map]at this
    exact this
  rw[if_neg (by decide),this]
  exact q
theorem R0{ws:List Wk}(W:GW ws)(h:¬ same ws):WF DP [.im (AU ws)] [] λ d x=>d=.im (.tup [.str "no",.str (C1 ws)]):=by
  unfold DP
  refine BE rfl ?_
  refine AH (BV (Iy W rfl ?_))
  rw[decide_eq_false h]
  refine⟨λ _=>Ai (BF (A3 (AL (A3 (AL (AB ⟨Cv,?_⟩)))))),(λ h=>by cases h)⟩
  show _=_
  unfold C1;rw[if_neg h];rfl
theorem Qz{ws:List Wk}(W:GW ws)(s:same ws)(h:¬ DH ws):WF DP [.im (AU ws)] [] λ d x=>d=.im (.tup [.str "no",.str (C1 ws)]):=by
  unfold DP
  refine BE rfl ?_
  refine AH (BV (Iy W rfl ?_))
  rw[decide_eq_true s]
  refine⟨(λ h=>by cases h),λ _=>BD (A8 ?_)⟩
  refine AH (BV (M0 W rfl ?_))
  rw[decide_eq_false h]
  refine⟨λ _=>Ai (BF (A3 (AL (A3 (AL (AB ⟨Cv,?_⟩)))))),(λ h=>by cases h)⟩
  show _=_
  unfold C1;rw[if_pos s];rfl
theorem KW(c:Int)(ps:List (Int × Int)):((ps.map (wkD c)).zipIdx.map λ q=>B0 [.im (.int (q.2:Int)),q.1])=(List.range ps.length).map λ k:Nat=>D.im (.tup [.int (k:Int),B9 (wk c (lf ps k,wf ps k))]):=by
  refine List.ext_getElem (by simp) λ i h1 h2=>?_
  have hi:i < ps.length:=by simpa using h1
  simp only[List.getElem_map,List.getElem_zipIdx,List.getElem_range,lf,wf,List.getElem?_eq_getElem hi,Option.map_some,Option.getD_some,Nat.zero_add]
  rfl
theorem PR{row:List Nat}(nd:row.Nodup){p:Nat}(hp:p < row.length)(dn:List Nat):(row.map λ v:Nat=>D.im (.int (if v ∈ dn then(v:Int)else 0))).set p (.im (.int (row[p]:Int)))=row.map λ v:Nat=>D.im (.int (if v ∈ dn ++ [row[p]]then(v:Int)else 0)):=by
  refine List.ext_getElem (by simp) λ i h1 h2=>?_
  rw[List.getElem_set]
  by_cases q:p=i
  . subst q;simp
  . rw[if_neg q]
    have hi:i < row.length:=by simpa using h2
    have:row[i] ≠ row[p]:=λ e=>q ((List.getElem_inj nd).mp e).symm
    simp[this]
theorem gen{r:List Nat}{f:Nat->D}(h:[]=r.map f):r=[]:=by cases r with
  | nil=>rfl
  | cons _ _=>cases h
theorem PQ{fl fw:Nat->Int}{i j:Nat}:(decide (fw i * fl j - fw j * fl i > 0) || (decide (fw i * fl j - fw j * fl i=0) && decide ((i:Int) < (j:Int))))=decide (lE fl fw i j):=by
  rw[Bool.eq_iff_iff,Bool.or_eq_true,Bool.and_eq_true,decide_eq_true_eq,decide_eq_true_eq,decide_eq_true_eq,decide_eq_true_eq]
  show _ ↔ (fw j * fl i <= fw i * fl j/\(fw i * fl j <= fw j * fl i->i < j))
  generalize fw i * fl j=A
  generalize fw j * fl i=B
  omega
theorem TX{c:Int}{ps:List (Int × Int)}(G:GW (ps.map (wk c)))(s:same (ps.map (wk c)))(a:DH (ps.map (wk c)))(W:WOk c ps){row:List Nat}(pm:row.Perm (List.range ps.length))(pw:row.Pairwise (lE (lf ps) (wf ps))):WF DP [.im (Bb c ps)] [] λ d x=>d=.im (.tup [.str "told",EN row]):=by
  have n8:=W.n8
  have lr:row.length=ps.length:=by simpa using pm.length_eq
  have nd:row.Nodup:=pm.nodup_iff.mpr List.nodup_range
  unfold DP
  refine BE rfl ?_
  refine AH (BV (Iy G rfl ?_))
  rw[decide_eq_true s]
  refine⟨(λ h=>by cases h),λ _=>BD (A8 ?_)⟩
  refine AH (BV (M0 G rfl ?_))
  rw[decide_eq_true a]
  refine⟨(λ h=>by cases h),λ _=>BD (A8 ?_)⟩
  refine AH (Au (E1 (Ra (E2 (A3 (AL (AB ⟨Dd,CF (A3 (A4 rfl (AB ?_)))⟩)))))))
  refine EI (ds:=((ps.map (wk c)).map B9).map D.im) (z:=.im (.int (ps.length:Int))) rfl (by simp[CO]) ?_
  refine⟨_,rfl,⟨by omega,by omega⟩,B2 (by simp;omega),A8 ?_⟩
  have e0:(List.replicate (ps.length:Int).toNat [D.im (.int 0)]).flatten=row.map λ v:Nat=>D.im (.int (if v ∈ ([]:List Nat)then(v:Int)else 0)):=by
    rw[Int.toNat_natCast]
    refine List.ext_getElem (by simp[lr]) λ i h1 h2=>?_
    simp
  rw[e0]
  refine AH (DQ (Hb (Dh (A4 rfl ⟨_,rfl,?_⟩))))
  dsimp only
  rw[Gh,KW]
  refine Cm (λ r ls hd=>∃ (dn rest:List Nat) (z2 z3 z4 z5 z6 z7:Option D),List.range ps.length=dn ++ rest/\r=(rest.map λ k:Nat=>D.im (.tup [.int (k:Int),B9 (wk c (lf ps k,wf ps k))]))/\ls=[some (.im (Bb c ps)),some (.mu 0),z2,z3,z4,z5,z6,z7]/\hd=[.lst (row.map λ v:Nat=>D.im (.int (if v ∈ dn then(v:Int)else 0)))]) ⟨[],_,_,_,_,_,_,_,rfl,rfl,rfl,rfl⟩ ?_ ?_
  . rintro d r ls hd ⟨dn,rest,z2,z3,z4,z5,z6,z7,e1,er,rfl,rfl⟩
    cases rest with
    | nil=>cases er
    | cons j rest=>
    obtain⟨rfl,rfl⟩:=List.cons.inj er
    have hj:j < ps.length:=by
      have:j ∈ List.range ps.length:=by rw[e1];simp
      simpa using this
    refine⟨[some (.im (Bb c ps)),some (.mu 0),some (.im (.int (j:Int))),some (wkD c (lf ps j,wf ps j)),z4,z5,z6,z7],rfl,?_⟩
    refine AH (Au (AL (A8 ?_)))
    refine AH (DQ (Hb (Dh (A4 rfl ⟨_,rfl,?_⟩))))
    dsimp only
    rw[Gh,KW]
    refine Cm (λ r ls hd=>∃ (dm rem:List Nat) (z5 z6 z7:Option D),List.range ps.length=dm ++ rem/\r=(rem.map λ k:Nat=>D.im (.tup [.int (k:Int),B9 (wk c (lf ps k,wf ps k))]))/\ls=[some (.im (Bb c ps)),some (.mu 0),some (.im (.int (j:Int))),some (wkD c (lf ps j,wf ps j)),some (.im (.int ((dm.filter λ i=>decide (lE (lf ps) (wf ps) i j)).length:Int))),z5,z6,z7]/\hd=[.lst (row.map λ v:Nat=>D.im (.int (if v ∈ dn then(v:Int)else 0)))]) ⟨[],_,_,_,_,rfl,rfl,rfl,rfl⟩ ?_ ?_
    . rintro d r ls hd ⟨dm,rem,z5,z6,z7,e2,er,rfl,rfl⟩
      cases rem with
      | nil=>cases er
      | cons i rem=>
      obtain⟨rfl,rfl⟩:=List.cons.inj er
      have hi:i < ps.length:=by
        have:i ∈ List.range ps.length:=by rw[e2];simp
        simpa using this
      have bi:=HJ W hi
      have bj:=HJ W hj
      refine⟨[some (.im (Bb c ps)),some (.mu 0),some (.im (.int (j:Int))),some (wkD c (lf ps j,wf ps j)),some (.im (.int ((dm.filter λ i=>decide (lE (lf ps) (wf ps) i j)).length:Int))),some (.im (.int (i:Int))),some (wkD c (lf ps i,wf ps i)),z7],rfl,?_⟩
      refine AH (Au (AD (AD (AD (AD (A4 rfl (AL (AX rfl (FT _ _ _ _) (AL (AX rfl (Cw _ _ _) (AD (A4 rfl (AL (AX rfl (Cy _ _) ?_))))))))))))))
      refine DR (C4 (by omega) (by omega)) ?_
      refine AD (AD (AD (A4 rfl (AL (AX rfl (FT _ _ _ _) (AL (AX rfl (Cw _ _ _) (AD (A4 rfl (AL (AX rfl (Cy _ _) ?_)))))))))))
      refine DR (C4 (by omega) (by omega)) (Gf (A8 ?_))
      refine Au (AD (A4 rfl (CF (A3 ?_))))
      have fin:∀ b:Bool,b=decide (lE (lf ps) (wf ps) i j)->(((dm ++ [i]).filter λ i=>decide (lE (lf ps) (wf ps) i j)).length:Int)=((dm.filter λ i=>decide (lE (lf ps) (wf ps) i j)).length:Int) + (if b then 1 else 0):=by
        rintro b rfl
        rw[List.filter_append,List.length_append]
        by_cases h:lE (lf ps) (wf ps) i j
        . rw[decide_eq_true h,List.filter_cons,if_pos (decide_eq_true h)];simp
        . rw[decide_eq_false h,List.filter_cons,if_neg (by simpa using h)];simp
      have sl:=PQ (fl:=lf ps) (fw:=wf ps) (i:=i) (j:=j)
      refine RW (Bo (AD (A4 rfl (AL (IW ⟨_,rfl,?_⟩)))))
      by_cases h:wf ps i * lf ps j - wf ps j * lf ps i > 0
      . rw[decide_eq_true h,Bool.true_or]at sl
        rw[if_pos (by simpa using h)]
        exact AB (HZ (Bj ⟨Ap _,dm ++ [i],rem,_,_,_,by rw[e2];simp,rfl,by rw[fin _ sl];rfl,rfl⟩))
      . rw[decide_eq_false h,Bool.false_or]at sl
        rw[if_neg (by simpa using h)]
        refine K6 (Bo (AD (A4 rfl (AL (Fb ⟨_,rfl,?_⟩)))))
        by_cases g:wf ps i * lf ps j - wf ps j * lf ps i=0
        . rw[decide_eq_true g,Bool.true_and]at sl
          rw[if_pos (by simpa using g)]
          exact AD (A4 rfl (A4 rfl (Gg (AB (HZ (Bj ⟨Ap _,dm ++ [i],rem,_,_,_,by rw[e2];simp,rfl,by rw[fin _ sl];rfl,rfl⟩))))))
        . rw[decide_eq_false g,Bool.false_and]at sl
          rw[if_neg (by simpa using g)]
          exact AB (HZ (Bj ⟨Ap _,dm ++ [i],rem,_,_,_,by rw[e2];simp,rfl,by rw[fin _ sl];rfl,rfl⟩))
    . rintro ls hd ⟨dm,rem,z5,z6,z7,e2,er,rfl,rfl⟩
      have:=gen er
      subst this
      rw[List.append_nil]at e2
      subst e2
      obtain⟨p,hp,ep⟩:=List.mem_iff_getElem.mp (pm.mem_iff.mpr (by simpa using hj:j ∈ List.range ps.length))
      have cr:=N0 pm pw p hp
      rw[ep]at cr
      rw[cr]
      refine A8 (HX (A4 rfl (A4 rfl (A4 rfl ⟨0,(p:Int),p,_,rfl,rfl,rfl,Qp (by omega) (by simpa using hp),Ap _,dn ++ [j],rest,_,_,_,_,_,_,by rw[e1];simp,rfl,rfl,?_⟩))))
      have:=PR nd hp dn
      rw[ep]at this
      rw[<- this];rfl
  . rintro ls hd ⟨dn,rest,z2,z3,z4,z5,z6,z7,e1,er,rfl,rfl⟩
    have:=gen er
    subst this
    rw[List.append_nil]at e1
    refine A8 (Ai (BF (A3 (AL (A3 (CF (A3 (A4 rfl (AB (EI rfl rfl (AB ⟨Cv,?_⟩)))))))))))
    have e:(row.map λ v:Nat=>D.im (.int (if v ∈ dn then(v:Int)else 0)))=(row.map λ v:Nat=>I.int (v:Int)).map D.im:=by
      rw[List.map_map]
      refine List.map_congr_left λ v hv=>?_
      have:v ∈ dn:=by rw[<- e1];exact pm.mem_iff.mp hv
      simp[this]
    rw[e,CB]
    rfl
theorem Ha{is js:List I}{hd:Hd}{QE:D->Hd->Prop}(h0:is ≠ [])(h1:is.length + js.length <= 100)(q:QE (.im (.tup (is ++ js))) hd):WP (Ah (.im (.tup is)) (.im (.tup js)) hd) QE:=by
  have cat:P4 (is.map D.im) (js.map D.im):=⟨by simpa using h0,B2 (by simp;omega)⟩
  refine WP.eq (z:=.im (.tup (is ++ js))) (h:=hd) ?_ q
  show(match Ht (.im (.tup is)) (.im (.tup js)) hd with|some z=>some z|none=>FM (.im (.tup is)) (.im (.tup js)) hd)=_
  rw[show Ht (.im (.tup is)) (.im (.tup js)) hd=none from rfl]
  unfold FM
  rw[show AY (.im (.tup is))=some (is.map D.im)from rfl,show AY (.im (.tup js))=some (js.map D.im)from rfl,Option.bind_some,Option.bind_some,if_pos cat,<- List.map_append,CB]
theorem K3{is js:List I}{hd:Hd}{QE:D->Hd->Prop}(h1:is.length + js.length <= 100)(q:QE (.im (.tup (is ++ js))) hd):WP (Lc (.im (.tup is)) (.im (.tup js)) hd) QE:=by
  by_cases h0:is=[]
  . subst h0
    refine WP.eq (z:=.im (.tup js)) (h:=hd) ?_ q
    show(match Ah (.im (.tup [])) (.im (.tup js)) hd with|some z=>some z|none=>GH (.im (.tup [])) (.im (.tup js)) hd)=_
    have e:Ah (.im (.tup [])) (.im (.tup js)) hd=none:=by
      show(match Ht (.im (.tup [])) (.im (.tup js)) hd with|some z=>some z|none=>FM (.im (.tup [])) (.im (.tup js)) hd)=_
      rw[show Ht (.im (.tup [])) (.im (.tup js)) hd=none from rfl]
      unfold FM
      rw[show AY (.im (.tup []))=some []from rfl,show AY (.im (.tup js))=some (js.map D.im)from rfl,Option.bind_some,Option.bind_some,if_neg (λ z=>z.1 rfl)]
    rw[e]
    unfold GH
    rw[show AY (.im (.tup []))=some []from rfl,show AY (.im (.tup js))=some (js.map D.im)from rfl,Option.bind_some,Option.bind_some,if_pos rfl,CB]
  . obtain⟨d,x,e,q⟩:=Ha (QE:=QE) h0 h1 q
    refine⟨d,x,?_,q⟩
    show(match Ah (.im (.tup is)) (.im (.tup js)) hd with|some z=>some z|none=>GH (.im (.tup is)) (.im (.tup js)) hd)=_
    rw[e]
theorem P8{i j k:Nat}{m:MA}{ls:Ls}{hd:Hd}{QS:Fl->Hd->Prop}(h:WA m ls hd λ ds x=>∃ d1 d2 d3,ds=[d1,d2,d3]/\QS (.nx (((ls.set k (some d3)).set j (some d2)).set i (some d1))) x):WS (GE i j k m) ls hd QS:=by
  obtain⟨ds,x,e,d1,d2,d3,rfl,q⟩:=h
  exact⟨_,_,by simp[GE,C0,e],q⟩
theorem HW{F:List D->Hd->Option (D × Hd)}{m:MA}{ls:Ls}{hd:Hd}{QE:D->Hd->Prop}(h:WA m ls hd λ ds x=>∃ (a b:MO) (rest:Hd) (as:List D) (R:I->Prop),x=a :: b :: rest/\ds=.mu 1 :: as/\T 0 a b/\BO 2 as=true/\(∀ a b,T 0 a b->WF F (.mu 1 :: as) [a,b] λ d x=>∃ i a' b' g,d=.im i/\R i/\T 0 a' b'/\x=a' :: b' :: g)/\∀ i a' b',T 0 a' b'->R i->QE (.im i) (a' :: b' :: rest)):WE (AC 2 F m) ls hd QE:=by
  obtain⟨ds,x,e,a,b,rest,as,R,rfl,rfl,hT,hc,hF,k⟩:=h
  exact tap.call (n:=0) (c:=0) hT e hc hF k
theorem P2{m:MA}{ls:Ls}{hd:Hd}{QE:D->Hd->Prop}(h:WA m ls hd λ ds x=>∃ (a b:MO) (rest:Hd) (many:Int),x=a :: b :: rest/\ds=[.mu 1,.im (.int many)]/\T 0 a b/\0 < many/\many < 1073741824/\∀ r a' b',T 0 a' b'->0 <= r->r < many->QE (.im (.int r)) (a' :: b' :: rest)):WE (AC 2 AN m) ls hd QE:=by
  obtain⟨ds,x,e,a,b,rest,many,rfl,rfl,hT,h0,h1,k⟩:=h
  exact tap.draw (n:=0) hT e h0 h1 k
theorem at4{r:Int}(h0:0 <= r)(h1:r < 4)(x y z w:D):∃ d,(d=x ∨ d=y ∨ d=z ∨ d=w)/\atI [x,y,z,w] r=some d:=by
  have:r=0 ∨ r=1 ∨ r=2 ∨ r=3:=by omega
  rcases this with rfl|rfl|rfl|rfl
  . exact⟨x,.inl rfl,Bh (j:=0) rfl⟩
  . exact⟨y,.inr (.inl rfl),Bh (j:=1) rfl⟩
  . exact⟨z,.inr (.inr (.inl rfl)),Bh (j:=2) rfl⟩
  . exact⟨w,.inr (.inr (.inr rfl)),Bh (j:=3) rfl⟩
theorem TY:∀ a b,T 0 a b->WF G0 [.mu 1] [a,b] λ d x=>∃ i a' b' g,d=.im i/\(∃ c:Cost,i=CK c/\∀ x,c ≠ .ends x)/\T 0 a' b'/\x=a' :: b' :: g:=by
  intro a b hT
  unfold G0
  refine BE rfl ?_
  refine AH (Eb (A3 (AD ?_)))
  refine tap.draw (n:=0) hT rfl (by decide) (by decide) λ due a b hT d1 d2=>AL (Gf (A3 ?_))
  refine tap.draw (n:=0) hT rfl (by decide) (by decide) λ wt a b hT p1 q1=>AB ⟨rfl,A8 ?_⟩
  generalize ed:due - 99=du
  change WS _ [some (.mu 1),some (.im (.int du)),some (.im (.int wt)),none,none,none,none,none] _ _
  refine AH (P8 (A3 (CF (A3 (A4 rfl (A3 (AL (AB (HY (A3 (AL (A3 (E1 (E2 (AB ⟨HN,AB ⟨_,_,_,rfl,A8 ?_⟩⟩)))))))))))))))
  change WS _ [some (.mu 1),some (.im (.int du)),some (.im (.int wt)),some (.im (.int (min du 300))),some (.im (.int 0)),some (.mu 2),none,none] _ _
  refine AH (DQ (Iu (A3 (AD (AL ?_)))))
  refine tap.draw (n:=0) hT rfl (by decide) (by decide) λ r1 a b hT p2 q2=>Bj (AB ⟨_,rfl,G6 (by omega) (by omega),?_⟩)
  refine Cm (λ r ls hd=>∃ (rows:List (Int × Int)) (s h:Int) (a b:MO) (z:Option D),ls=[some (.mu 1),some (.im (.int du)),some (.im (.int wt)),some (.im (.int s)),some (.im (.int h)),some (.mu 2),z,none]/\hd=[a,b,.lst (rows.map DM)]/\T 0 a b/\rows.length + r.length <= 5) ?_ ?_ ?_
  . refine⟨[],_,_,a,b,none,rfl,rfl,hT,?_⟩
    simp;omega
  . rintro d r ls hd ⟨rows,s,h,a,b,z,rfl,rfl,hT,hl⟩
    simp only[List.length_cons]at hl
    refine⟨_,rfl,?_⟩
    refine AH (Au (AD (AD (A4 rfl (AL (Bj ?_))))))
    refine tap.draw (n:=0) hT rfl (by decide) (by decide) λ r3 a b hT p3 q3=>Bj (A8 ?_)
    refine AH (Au (AD (A4 rfl ?_)))
    refine tap.draw (n:=0) hT rfl (by decide) (by decide) λ r4 a b hT p4 q4=>Bj (A8 ?_)
    refine DB (Gj (A4 rfl ⟨⟨_,rfl⟩,A3 (BF (A3 (A4 rfl (A3 (A4 rfl (AB ⟨Cv,AB (Iq rfl (FO (by simp;omega)) ?_)⟩))))))⟩))
    exact⟨Ap _,rows ++ [(s + 1 + r3,h + r4)],_,_,a,b,_,rfl,by simp[DM],hT,by simp;omega⟩
  . rintro ls hd ⟨rows,s,h,a,b,z,rfl,rfl,hT,hl⟩
    refine A8 (AH (Au (E1 (E2 (A3 (BF (A3 (AL (A3 (A4 rfl (AB ⟨Cv,A3 ?_⟩)))))))))))
    refine BF (A3 (AL (A3 (A4 rfl (A3 (A4 rfl (AB ⟨Dc,A3 ?_⟩)))))))
    refine BF (A3 (AL (A3 (A4 rfl (A3 (A4 rfl (AB ⟨Dc,AB ⟨Dc,A8 ?_⟩⟩)))))))
    have e:rows.map DM=(rows.map L7).map D.im:=by simp[DM,L7]
    refine AH (DB (Gj (A4 rfl ⟨⟨_,rfl⟩,A3 (BF (A3 (AL (A3 (CF (A3 (A4 rfl (AB (EI (z:=.im (.tup (rows.map L7))) rfl (by rw[e];exact congrArg some (CB _)) (AB ⟨Cv,AB (Iq rfl (FO (by simp)) (A8 ?_))⟩))))))))))⟩)))
    refine Ai (AD (A4 rfl ?_))
    refine tap.draw (n:=0) hT rfl (by decide) (by decide) λ r5 a b hT p5 q5=>?_
    obtain⟨d,hd,ed⟩:=at4 p5 q5 (.im (CK (.late du))) (.im (CK (.tardy du wt))) (.im (CK (.miss du wt))) (.im (CK (.steps rows)))
    refine AX rfl ed ?_
    rcases hd with rfl|rfl|rfl|rfl
    . exact⟨_,a,b,_,rfl,⟨_,rfl,λ x q=>nomatch q⟩,hT,rfl⟩
    . exact⟨_,a,b,_,rfl,⟨_,rfl,λ x q=>nomatch q⟩,hT,rfl⟩
    . exact⟨_,a,b,_,rfl,⟨_,rfl,λ x q=>nomatch q⟩,hT,rfl⟩
    . exact⟨_,a,b,_,rfl,⟨_,rfl,λ x q=>nomatch q⟩,hT,rfl⟩
theorem Lr{ws:List Wk}(n8:ws.length <= 8){k:Nat}(hk:k < ws.length){ls:Ls}{hd:Hd}(h1:ls[1]? = some (some (.im (AU ws))))(h2:ls[2]? = some (some (.im (.int (k:Int))))){QE:D->Hd->Prop}(q:QE (.im (.tup ((ws.take k).map B9))) hd):WE (EU (A2 1) Bu (Cs (A2 2))) ls hd QE:=by
  refine Lq (A4 h1 (Oa (K4 (A4 h2 ⟨_,rfl,_,rfl,?_,?_⟩))))
  . rw[HT.sIx_nat]
    simp only[List.length_map]
    omega
  . rw[EG,HT.sIx_nat,HT.sIx_none,List.drop_zero,Nat.sub_zero]
    simp only[List.length_map]
    rw[Nat.min_eq_left (by omega),<- List.map_take,<- List.map_take,CB]
    exact q
theorem Lp{ws:List Wk}(n8:ws.length <= 8){k:Nat}(hk:k < ws.length){ls:Ls}{hd:Hd}(h1:ls[1]? = some (some (.im (AU ws))))(h2:ls[2]? = some (some (.im (.int (k:Int))))){QE:D->Hd->Prop}(q:QE (.im (.tup ((ws.drop (k + 1)).map B9))) hd):WE (EU (A2 1) (Cs (mOp Ah (A2 2) (mC (.int 1)))) Bu) ls hd QE:=by
  refine Lq (A4 h1 (K4 (AD (A4 h2 (AL (Bj ⟨_,rfl,Oa ⟨_,rfl,?_,?_⟩⟩))))))
  . rw[show(k:Int) + 1=((k + 1:Nat):Int) by simp,HT.sIx_nat]
    simp only[List.length_map]
    omega
  . rw[EG,show(k:Int) + 1=((k + 1:Nat):Int) by simp,HT.sIx_nat,HT.sIx_none]
    simp only[List.length_map]
    rw[Nat.min_eq_left (by omega),<- List.map_drop,<- List.map_drop,<- List.map_take,<- List.map_take,List.take_of_length_le (by simp),CB]
    exact q
theorem Mp{ws:List Wk}(W:GW ws){k:Nat}(hk:k < ws.length){w:Wk}(hw:1 <= w.len/\w.len <= 1000000/\0 <= w.com/\w.com <= 60/\∀ x,w.cost=.ends x->0 <= x/\x <= 1000000):GW (ws.take k ++ w :: ws.drop (k + 1)):=by
  have n8:=W.n8
  refine⟨by simp;omega,by simp;omega,λ z hz=>?_⟩
  rcases List.mem_append.mp hz with h|h
  . exact W.each z (List.mem_of_mem_take h)
  . rcases List.mem_cons.mp h with rfl|h
    . exact hw
    . exact W.each z (List.mem_of_mem_drop h)
theorem Kl{ws:List Wk}{k:Nat}(hk:k < ws.length):atI ((ws.map B9).map D.im) (k:Int)=some (wD ws[k]):=Hx rfl (by simp[hk])
theorem Ta{ws:List Wk}(k:Nat)(w:Wk):((ws.take k).map B9 ++ [B9 w]) ++ (ws.drop (k + 1)).map B9=(ws.take k ++ w :: ws.drop (k + 1)).map B9:=by simp
theorem Iw{ws:List Wk}(W:GW ws):∀ a b,T 0 a b->WF DI [.mu 1,.im (AU ws)] [a,b] λ d x=>∃ i a' b' g,d=.im i/\(∃ ws',i=AU ws'/\GW ws')/\T 0 a' b'/\x=a' :: b' :: g:=by
  intro a b hT
  have n1:=W.n1;have n8:=W.n8
  unfold DI
  refine BE rfl ?_
  refine AH (Eb (A3 (P2 (A3 (A4 rfl (A3 (CF (A3 (A4 rfl (AB ?_))))))))))
  refine EI (ds:=(ws.map B9).map D.im) (z:=.im (.int (ws.length:Int))) rfl (by simp[CO]) ?_
  refine AB ⟨a,b,[],_,rfl,rfl,hT,by omega,by omega,λ r a b hT r1 r2=>A3 (AD (AL ?_))⟩
  refine tap.draw (n:=0) hT rfl (by decide) (by decide) λ by_ a b hT b1 b2=>Bj (AB ⟨rfl,A8 ?_⟩)
  obtain⟨k,rfl⟩:∃ k:Nat,r=(k:Int):=⟨r.toNat,by omega⟩
  have hk:k < ws.length:=by omega
  change WS _ [some (.mu 1),some (.im (AU ws)),some (.im (.int (k:Int))),some (.im (.int (1 + by_))),none,none,none] _ _
  have hw:=W.each _ (List.getElem_mem hk)
  refine AH (Im (AD (A4 rfl (A4 rfl (AX rfl (Kl hk) ⟨[some (.mu 1),some (.im (AU ws)),some (.im (.int (k:Int))),some (.im (.int (1 + by_))),some (.im (.int ws[k].len)),some (.im (.int ws[k].com)),some (.im (CK ws[k].cost))],rfl,A8 ?_⟩)))))
  refine Ai (AD (AD (Lr n8 hk rfl rfl (BF (A3 (BF (A3 (A4 rfl (A3 (AD (AD (A4 rfl (A4 rfl (Bj (AL ?_)))))))))))))))
  refine Ln (by unfold BZ;decide) (A3 (A4 rfl (AB ⟨Dc,AB ⟨Dd,?_⟩⟩)))
  refine K3 (js:=[B9 ⟨ws[k].len,(ws[k].com + (1 + by_)) % 61,ws[k].cost⟩]) (by simp;omega) (Lp n8 hk rfl rfl ?_)
  refine Ha (by simp) (by simp;omega) ?_
  rw[Ta]
  refine⟨_,a,b,[],rfl,⟨_,rfl,Mp W hk ⟨hw.1,hw.2.1,?_,?_,hw.2.2.2.2⟩⟩,hT,rfl⟩
  . show 0 <= (ws[k].com + (1 + by_)) % 61;omega
  . show(ws[k].com + (1 + by_)) % 61 <= 60;omega
theorem Qa{ws:List Wk}(W:GW ws):∀ a b,T 0 a b->WF Ez [.mu 1,.im (AU ws)] [a,b] λ d x=>∃ i a' b' g,d=.im i/\(∃ ws',i=AU ws'/\GW ws')/\T 0 a' b'/\x=a' :: b' :: g:=by
  intro a b hT
  have n1:=W.n1;have n8:=W.n8
  unfold Ez
  refine BE rfl ?_
  refine AH (Eb (A3 (P2 (A3 (A4 rfl (A3 (CF (A3 (A4 rfl (AB ?_))))))))))
  refine EI (ds:=(ws.map B9).map D.im) (z:=.im (.int (ws.length:Int))) rfl (by simp[CO]) ?_
  refine AB ⟨a,b,[],_,rfl,rfl,hT,by omega,by omega,λ r a b hT r1 r2=>A3 ?_⟩
  refine tap.call (n:=0) (c:=0) hT (as:=[]) (rest:=[]) rfl rfl TY ?_
  rintro i a b hT ⟨cc,rfl,nE⟩
  refine AB ⟨rfl,A8 ?_⟩
  obtain⟨k,rfl⟩:∃ k:Nat,r=(k:Int):=⟨r.toNat,by omega⟩
  have hk:k < ws.length:=by omega
  change WS _ [some (.mu 1),some (.im (AU ws)),some (.im (.int (k:Int))),some (.im (CK cc)),none] _ _
  have hw:=W.each _ (List.getElem_mem hk)
  refine AH (Au (BF (A3 (AD (AD (A4 rfl (A4 rfl (AX rfl (Kl hk) (AL (AX rfl (Cy _ _) (A3 ?_)))))))))))
  refine AD (AD (A4 rfl (A4 rfl (AX rfl (Kl hk) (AL (AX rfl (Cw _ _ _) (A3 (A4 rfl (AB ⟨Dc,A8 ?_⟩)))))))))
  refine Ai (AD (AD (Lr n8 hk rfl rfl (BF (A3 (A4 rfl (AB ⟨Dd,?_⟩)))))))
  refine K3 (js:=[B9 ⟨ws[k].len,ws[k].com,cc⟩]) (by simp;omega) (Lp n8 hk rfl rfl ?_)
  refine Ha (by simp) (by simp;omega) ?_
  rw[Ta]
  exact⟨_,a,b,[],rfl,⟨_,rfl,Mp W hk ⟨hw.1,hw.2.1,hw.2.2.1,hw.2.2.2.1,λ x q=>absurd q (nE x)⟩⟩,hT,rfl⟩
theorem okS{x:Str}(h:x="told" ∨ x="no" ∨ x="coming" ∨ x="ends"):OkP 40 0 (I.py (.str x)):=by
  rw[I.py]
  rcases h with rfl|rfl|rfl|rfl <;> exact⟨by decide +kernel,by decide +kernel,by decide +kernel,by decide +kernel,by decide +kernel⟩
theorem Pf{row:List Nat}(hk:∀ k ∈ row,k < 100)(hl:row.length <= 8):EA (I.py (.tup [.str "told",EN row])):=by
  refine((Hj (w:=1263) (dp:=3) (is:=[.str "told",EN row]) λ i hi=>?_).mono (w':=3000) (by simp) (Nat.le_refl 4)).repr rfl (by omega) (by omega)
  simp only[List.mem_cons,List.not_mem_nil,or_false]at hi
  rcases hi with rfl|rfl
  . exact(okS (by simp)).mono (by omega) (by omega)
  . refine(Hj (w:=40) (dp:=0) (is:=row.map λ k:Nat=>I.int (k:Int)) λ i hi=>?_).mono (by rw[List.length_map];omega) (by omega)
    obtain⟨k,h1,rfl⟩:=List.mem_map.mp hi
    have:=hk k h1
    exact Qe ⟨by omega,by omega⟩
theorem Oh(ws:List Wk):EA (I.py (.tup [.str "no",.str (C1 ws)])):=by
  refine((Hj (w:=1263) (dp:=3) (is:=[.str "no",.str (C1 ws)]) λ i hi=>?_).mono (w':=3000) (by simp) (Nat.le_refl 4)).repr rfl (by omega) (by omega)
  simp only[List.mem_cons,List.not_mem_nil,or_false]at hi
  rcases hi with rfl|rfl
  . exact(okS (by simp)).mono (by omega) (by omega)
  . refine(okS ?_).mono (by omega) (by omega)
    unfold C1;split <;> simp
theorem US{ws:List Wk}(W:GW ws):∃ i:I,EA i.py/\(WF Dg [.im (AU ws)] [] λ d x=>d=.im i)/\WF DP [.im (AU ws)] [] λ d x=>d=.im i:=by
  by_cases s:same ws
  . by_cases a:DH ws
    . obtain⟨ps,e,P⟩:=O6 W s a
      obtain⟨d,x,ev,row,rfl,pm,pw⟩:=Rg W s a e P
      have lr:row.length=ps.length:=by simpa using pm.length_eq
      have n8:=P.n8
      refine⟨_,Pf (λ k hk=>?_) (by omega),⟨_,_,ev,rfl⟩,?_⟩
      . have:k < ps.length:=by simpa using pm.mem_iff.mp hk
        omega
      . generalize c0 ws=c at e P
        subst e
        exact TX W s a P pm pw
    . exact⟨_,Oh ws,Lz W (λ h=>a h.2),Qz W s a⟩
  . exact⟨_,Oh ws,Lz W (λ h=>s h.1),R0 W s⟩
theorem UI{c:Int}{ps:List (Int × Int)}(P:WOk c ps):GW (ps.map (wk c)):=by
  refine⟨by simpa using P.n1,by simpa using P.n8,λ w hw=>?_⟩
  obtain⟨p,hp,rfl⟩:=List.mem_map.mp hw
  have:=P.each p hp
  refine⟨this.1,this.2.1,P.c0,P.c1,λ x q=>?_⟩
  cases q
  exact⟨this.2.2.1,this.2.2.2⟩
theorem RV{n:Nat}(h1:1 <= n)(hn:n <= 8):∀ a b,T 0 a b->WF Dz [.mu 1,.im (.int (n:Int))] [a,b] λ d x=>∃ i a' b' g,d=.im i/\(∃ ws,i=AU ws/\GW ws)/\T 0 a' b'/\x=a' :: b' :: g:=λ a b hT=>(PD h1 hn a b hT).mono (by
  rintro d x ⟨i,a',b',g,rfl,⟨c,ps,rfl,_,P⟩,hT,rfl⟩
  exact⟨_,a',b',g,rfl,⟨_,rfl,UI P⟩,hT,rfl⟩)
theorem UH(ns:List Int):WF F_law [.ro ns] [] λ d x=>d=.im (.bl true):=by
  unfold F_law
  refine BE rfl ?_
  obtain⟨τ,q⟩:=PL ns
  refine AH (Au (FC (A3 (A4 rfl (AB (WP.eq q (A8 ?_)))))))
  refine AH (DQ (Iu (A3 (AL (AB ⟨_,rfl,G6 (by decide) (by decide),?_⟩)))))
  refine Cm (λ r ls hd=>∃ (a b:MO) (z2 z3 z4 z5 z6:Option D),ls=[some (.ro ns),some (.mu 1),z2,z3,z4,z5,z6]/\hd=[a,b]/\T 0 a b) ⟨_,_,none,none,none,none,none,rfl,rfl,⟨τ,rfl⟩⟩ ?_ ?_
  . rintro d r ls hd ⟨a,b,z2,z3,z4,z5,z6,rfl,rfl,hT⟩
    refine⟨[some (.ro ns),some (.mu 1),some d,z3,z4,z5,z6],rfl,?_⟩
    generalize some d=z2
    refine Il (AH (Au (HW (A3 (A4 rfl (A3 (AD (AL ?_))))))))
    refine tap.draw (n:=0) hT rfl (by decide) (by decide) λ r1 a b hT pr1 qr1=>?_
    refine Bj (AB ?_)
    obtain⟨n,hn',hn1,hn8⟩:∃ n:Nat,1 + r1=(n:Int)/\1 <= n/\n <= 8:=⟨(1 + r1).toNat,by omega,by omega,by omega⟩
    rw[hn']
    refine⟨a,b,[],_,_,rfl,rfl,hT,by simp,RV hn1 hn8,?_⟩
    rintro i a b hT ⟨ws,rfl,W⟩
    refine A8 (AH (Eb (A3 (HW (A3 (A4 rfl (A3 (A4 rfl (AB ?_)))))))))
    refine⟨a,b,[],_,_,rfl,rfl,hT,by simp,Iw W,?_⟩
    rintro i a b hT ⟨ws1,rfl,W1⟩
    refine A3 (HW (A3 (A4 rfl (A3 (A4 rfl (AB ?_))))))
    refine⟨a,b,[],_,_,rfl,rfl,hT,by simp,Qa W,?_⟩
    rintro i a b hT ⟨ws2,rfl,W2⟩
    refine AB ⟨rfl,A8 ?_⟩
    change WS _ [some (.ro ns),some (.mu 1),z2,some (.im (AU ws)),some (.im (AU ws1)),some (.im (AU ws2)),z6] _ _
    refine DQ (NF (E2 (A3 (A4 rfl (A3 (A4 rfl (A3 (A4 rfl (A3 ?_)))))))))
    refine HW (A3 (A4 rfl (A3 (A4 rfl (AB ?_)))))
    refine⟨a,b,[],_,_,rfl,rfl,hT,by simp,Iw W2,?_⟩
    rintro i a b hT ⟨ws3,rfl,W3⟩
    refine A3 (A4 rfl (AB ⟨B2 (by simp),?_⟩))
    refine Cm (λ r ls hd=>∃ (z2 z6:Option D),ls=[some (.ro ns),some (.mu 1),z2,some (.im (AU ws)),some (.im (AU ws1)),some (.im (AU ws2)),z6]/\hd=[a,b]/\∀ d ∈ r,∃ vs,d=.im (AU vs)/\GW vs) ⟨_,_,rfl,rfl,λ d hd=>?_⟩ ?_ ?_
    . simp only[List.mem_cons,List.not_mem_nil,or_false]at hd
      rcases hd with rfl|rfl|rfl|rfl|rfl
      . exact⟨_,rfl,W⟩
      . exact⟨_,rfl,W1⟩
      . exact⟨_,rfl,W2⟩
      . exact⟨_,rfl,W3⟩
      . exact⟨_,rfl,W⟩
    . rintro d r ls hd ⟨z2,z6,rfl,rfl,hall⟩
      obtain⟨vs,rfl,V⟩:=hall d (by simp)
      have hall:∀ d ∈ r,∃ vs,d=.im (AU vs)/\GW vs:=λ d hd=>hall d (by simp[hd])
      refine⟨_,rfl,?_⟩
      obtain⟨i,ok,h1,h2⟩:=US V
      refine Il (BV (Bo (AD (CF (A3 (Am (A3 (A4 rfl (AB ⟨by simp,h1.mono ?_⟩)))))))))
      rintro d x rfl
      refine⟨_,rfl,AB (Io ok (CF (A3 (Am (A3 (A4 rfl (AB ⟨by simp,h2.mono ?_⟩)))))))⟩
      rintro d x rfl
      refine⟨_,rfl,AB (Io ok (Fa ⟨_,rfl,(λ q=>by simp at q),λ _=>BD ?_⟩))⟩
      have ca:=tap.cl hT
      exact⟨by simp[ca.1,ca.2],_,rfl,Ap _,_,_,rfl,rfl,hall⟩
    . rintro ls hd ⟨z2,z6,rfl,rfl,_⟩
      have ca:=tap.cl hT
      exact⟨by simp[ca.1,ca.2],_,rfl,Ap _,a,b,_,_,_,_,_,rfl,rfl,hT⟩
  . rintro ls hd ⟨a,b,z2,z3,z4,z5,z6,rfl,rfl,hT⟩
    exact A8 (Ai (AL rfl))
theorem law_eq(ns:List Int):∃ hd,F_law [.ro ns] []=some (.im (.bl true),hd):=by
  obtain⟨d,x,e,rfl⟩:=UH ns
  exact⟨x,e⟩
open PySem L2 PySem.W PyProof.Rows
noncomputable abbrev xS:List (Str × Str × Nat × Nat):=[]
noncomputable abbrev tS(P:Str->Addr):List Tb:=xS.map λ x=>(P x.1,x.2)
set_option maxHeartbeats 4000000 in
theorem all_mk{l:PySem.W.OpenLaw}{w:World}{K:PySem.W.Frag}{h:Heap}{mg:Str->Option Value}{fa f0 f1 f2 f3 f4 f5 f6 f7 f8 f9 f10 f11 f12 f13 f14 f15 f16 f17 f18 f19 f20:Addr}(X:K.In h)(G:h.Ns mainGlobals mg){c P:Str->Addr}(hfa:mg "law"=some (.ref fa))(hx:∀ x ∈ xS,h.get? (P x.1)=some (tabObj #[])/\CodeHd h (c x.1) (P x.1)/\∃ a o fd,mg x.1=some (.ref a)/\h.get? a=some o/\o.data=.func fd/\fd.code=.ref (c x.1))
    {od0 an0 od1 an1 od2 an2 od3 an3 od4 an4 od5 an5 od6 an6 od7 an7 od8 an8 od9 an9 od10 an10 od11 an11 od12 an12 od13 an13 od14 an14 od15 an15 od16 an16 od17 an17 od18 an18 od19 an19 od20 an20:Option Addr} {sl0 sl1 sl2 sl3 sl4 sl5 sl6 sl7 sl8 sl9 sl10 sl11 sl12 sl13 sl14 sl15 sl16 sl17 sl18 sl19 sl20:Array (Option Value)} {oc0 kV0 dc0 pm0 cd0 ct0 oc1 kV1 dc1 pm1 cd1 ct1 oc2 kV2 dc2 pm2 cd2 ct2 oc3 kV3 dc3 pm3 cd3 ct3 oc4 kV4 dc4 pm4 cd4 ct4 oc5 kV5 dc5 pm5 cd5 ct5 oc6 kV6 dc6 pm6 cd6 ct6 oc7 kV7 dc7 pm7 cd7 ct7 oc8 kV8 dc8 pm8 cd8 ct8 oc9 kV9 dc9 pm9 cd9 ct9 oc10 kV10 dc10 pm10 cd10 ct10 oc11 kV11 dc11 pm11 cd11 ct11 oc12 kV12 dc12 pm12 cd12 ct12 oc13 kV13 dc13 pm13 cd13 ct13 oc14 kV14 dc14 pm14 cd14 ct14 oc15 kV15 dc15 pm15 cd15 ct15 oc16 kV16 dc16 pm16 cd16 ct16 oc17 kV17 dc17 pm17 cd17 ct17 oc18 kV18 dc18 pm18 cd18 ct18 oc19 kV19 dc19 pm19 cd19 ct19 oc20 kV20 dc20 pm20 cd20 ct20:Value}
     {C Bc fI cx1 cx2 cx3 cx4 cx5 cx6 cx7 nX:Addr} {nmX qX:Str} {bsX bmX subX:List Value} {snX:List Str} {abX:Bool} {colX:Option Bool} {ddX odI anI:Option Addr} {e0 e1 e2 e3 e5:Option Value} {slI:Array (Option Value)} {ocI kVI dcI pmI cdI ctI:Value} (a0:PySem.W.nsIn K mainGlobals "law"=some (some (.ref f0))) (l0:K.lookup f0=some ⟨oc0,od0,.func (PySem.W.fnOf "law" "law" (Ad DK) (AT DK) (A9 DK) .none kV0 dc0 pm0 an0 cd0 ct0),sl0⟩) (c0:PySem.W.codeIn K cd0 "law"=true) (k0:PySem.W.keepIn K (.ref f0)=true)
    (a1:PySem.W.nsIn K mainGlobals "_law_tape"=some (some (.ref f1))) (l1:K.lookup f1=some ⟨oc1,od1,.func (PySem.W.fnOf "_law_tape" "_law_tape" (Ad DT) (AT DT) (A9 DT) .none kV1 dc1 pm1 an1 cd1 ct1),sl1⟩) (c1:PySem.W.codeIn K cd1 "_law_tape"=true) (k1:PySem.W.keepIn K (.ref f1)=true)
    (a2:PySem.W.nsIn K mainGlobals "_law_pick"=some (some (.ref f2))) (l2:K.lookup f2=some ⟨oc2,od2,.func (PySem.W.fnOf "_law_pick" "_law_pick" (Ad C2) (AT C2) (A9 C2) .none kV2 dc2 pm2 an2 cd2 ct2),sl2⟩) (c2:PySem.W.codeIn K cd2 "_law_pick"=true) (k2:PySem.W.keepIn K (.ref f2)=true)
    (a3:PySem.W.nsIn K mainGlobals "_law_works"=some (some (.ref f3))) (l3:K.lookup f3=some ⟨oc3,od3,.func (PySem.W.fnOf "_law_works" "_law_works" (Ad Ce) (AT Ce) (A9 Ce) .none kV3 dc3 pm3 an3 cd3 ct3),sl3⟩) (c3:PySem.W.codeIn K cd3 "_law_works"=true) (k3:PySem.W.keepIn K (.ref f3)=true)
    (a4:PySem.W.nsIn K mainGlobals "_law_unlike"=some (some (.ref f4))) (l4:K.lookup f4=some ⟨oc4,od4,.func (PySem.W.fnOf "_law_unlike" "_law_unlike" (Ad C9) (AT C9) (A9 C9) .none kV4 dc4 pm4 an4 cd4 ct4),sl4⟩) (c4:PySem.W.codeIn K cd4 "_law_unlike"=true) (k4:PySem.W.keepIn K (.ref f4)=true)
    (a5:PySem.W.nsIn K mainGlobals "_law_cost"=some (some (.ref f5))) (l5:K.lookup f5=some ⟨oc5,od5,.func (PySem.W.fnOf "_law_cost" "_law_cost" (Ad DV) (AT DV) (A9 DV) .none kV5 dc5 pm5 an5 cd5 ct5),sl5⟩) (c5:PySem.W.codeIn K cd5 "_law_cost"=true) (k5:PySem.W.keepIn K (.ref f5)=true)
    (a6:PySem.W.nsIn K mainGlobals "_law_other"=some (some (.ref f6))) (l6:K.lookup f6=some ⟨oc6,od6,.func (PySem.W.fnOf "_law_other" "_law_other" (Ad Cf) (AT Cf) (A9 Cf) .none kV6 dc6 pm6 an6 cd6 ct6),sl6⟩) (c6:PySem.W.codeIn K cd6 "_law_other"=true) (k6:PySem.W.keepIn K (.ref f6)=true)
    (a7:PySem.W.nsIn K mainGlobals "_law_due"=some (some (.ref f7))) (l7:K.lookup f7=some ⟨oc7,od7,.func (PySem.W.fnOf "_law_due" "_law_due" (Ad EL) (AT EL) (A9 EL) .none kV7 dc7 pm7 an7 cd7 ct7),sl7⟩) (c7:PySem.W.codeIn K cd7 "_law_due"=true) (k7:PySem.W.keepIn K (.ref f7)=true)
    (a8:PySem.W.nsIn K mainGlobals "less"=some (some (.ref f8))) (l8:K.lookup f8=some ⟨oc8,od8,.func (PySem.W.fnOf "less" "less" (Ad DU) (AT DU) (A9 DU) .none kV8 dc8 pm8 an8 cd8 ct8),sl8⟩) (c8:PySem.W.codeIn K cd8 "less"=true) (k8:PySem.W.keepIn K (.ref f8)=true)
    (a9:PySem.W.nsIn K mainGlobals "falling"=some (some (.ref f9))) (l9:K.lookup f9=some ⟨oc9,od9,.func (PySem.W.fnOf "falling" "falling" (Ad Bm) (AT Bm) (A9 Bm) .none kV9 dc9 pm9 an9 cd9 ct9),sl9⟩) (c9:PySem.W.codeIn K cd9 "falling"=true) (k9:PySem.W.keepIn K (.ref f9)=true)
    (a10:PySem.W.nsIn K mainGlobals "same_coming"=some (some (.ref f10))) (l10:K.lookup f10=some ⟨oc10,od10,.func (PySem.W.fnOf "same_coming" "same_coming" (Ad BA) (AT BA) (A9 BA) .none kV10 dc10 pm10 an10 cd10 ct10),sl10⟩) (c10:PySem.W.codeIn K cd10 "same_coming"=true) (k10:PySem.W.keepIn K (.ref f10)=true)
    (a11:PySem.W.nsIn K mainGlobals "one_coming"=some (some (.ref f11))) (l11:K.lookup f11=some ⟨oc11,od11,.func (PySem.W.fnOf "one_coming" "one_coming" (Ad B7) (AT B7) (A9 B7) .none kV11 dc11 pm11 an11 cd11 ct11),sl11⟩) (c11:PySem.W.codeIn K cd11 "one_coming"=true) (k11:PySem.W.keepIn K (.ref f11)=true)
    (a12:PySem.W.nsIn K mainGlobals "refuse_other_costs"=some (some (.ref f12))) (l12:K.lookup f12=some ⟨oc12,od12,.func (PySem.W.fnOf "refuse_other_costs" "refuse_other_costs" (Ad AV) (AT AV) (A9 AV) .none kV12 dc12 pm12 an12 cd12 ct12),sl12⟩) (c12:PySem.W.codeIn K cd12 "refuse_other_costs"=true) (k12:PySem.W.keepIn K (.ref f12)=true)
    (a13:PySem.W.nsIn K mainGlobals "weighted_coming"=some (some (.ref f13))) (l13:K.lookup f13=some ⟨oc13,od13,.func (PySem.W.fnOf "weighted_coming" "weighted_coming" (Ad Af) (AT Af) (A9 Af) .none kV13 dc13 pm13 an13 cd13 ct13),sl13⟩) (c13:PySem.W.codeIn K cd13 "weighted_coming"=true) (k13:PySem.W.keepIn K (.ref f13)=true)
    (a14:PySem.W.nsIn K mainGlobals "common_divisor"=some (some (.ref f14))) (l14:K.lookup f14=some ⟨oc14,od14,.func (PySem.W.fnOf "common_divisor" "common_divisor" (Ad B1) (AT B1) (A9 B1) .none kV14 dc14 pm14 an14 cd14 ct14),sl14⟩) (c14:PySem.W.codeIn K cd14 "common_divisor"=true) (k14:PySem.W.keepIn K (.ref f14)=true)
    (a15:PySem.W.nsIn K mainGlobals "fraction"=some (some (.ref f15))) (l15:K.lookup f15=some ⟨oc15,od15,.func (PySem.W.fnOf "fraction" "fraction" (Ad Bk) (AT Bk) (A9 Bk) .none kV15 dc15 pm15 an15 cd15 ct15),sl15⟩) (c15:PySem.W.codeIn K cd15 "fraction"=true) (k15:PySem.W.keepIn K (.ref f15)=true)
    (a16:PySem.W.nsIn K mainGlobals "length_of"=some (some (.ref f16))) (l16:K.lookup f16=some ⟨oc16,od16,.func (PySem.W.fnOf "length_of" "length_of" (Ad BU) (AT BU) (A9 BU) .none kV16 dc16 pm16 an16 cd16 ct16),sl16⟩) (c16:PySem.W.codeIn K cd16 "length_of"=true) (k16:PySem.W.keepIn K (.ref f16)=true)
    (a17:PySem.W.nsIn K mainGlobals "weight_of"=some (some (.ref f17))) (l17:K.lookup f17=some ⟨oc17,od17,.func (PySem.W.fnOf "weight_of" "weight_of" (Ad BT) (AT BT) (A9 BT) .none kV17 dc17 pm17 an17 cd17 ct17),sl17⟩) (c17:PySem.W.codeIn K cd17 "weight_of"=true) (k17:PySem.W.keepIn K (.ref f17)=true)
    (a18:PySem.W.nsIn K mainGlobals "ratio_of"=some (some (.ref f18))) (l18:K.lookup f18=some ⟨oc18,od18,.func (PySem.W.fnOf "ratio_of" "ratio_of" (Ad BP) (AT BP) (A9 BP) .none kV18 dc18 pm18 an18 cd18 ct18),sl18⟩) (c18:PySem.W.codeIn K cd18 "ratio_of"=true) (k18:PySem.W.keepIn K (.ref f18)=true)
    (a19:PySem.W.nsIn K mainGlobals "ratio_order"=some (some (.ref f19))) (l19:K.lookup f19=some ⟨oc19,od19,.func (PySem.W.fnOf "ratio_order" "ratio_order" (Ad BB) (AT BB) (A9 BB) .none kV19 dc19 pm19 an19 cd19 ct19),sl19⟩) (c19:PySem.W.codeIn K cd19 "ratio_order"=true) (k19:PySem.W.keepIn K (.ref f19)=true)
    (a20:PySem.W.nsIn K mainGlobals "_law_told"=some (some (.ref f20))) (l20:K.lookup f20=some ⟨oc20,od20,.func (PySem.W.fnOf "_law_told" "_law_told" (Ad DS) (AT DS) (A9 DS) .none kV20 dc20 pm20 an20 cd20 ct20),sl20⟩) (c20:PySem.W.codeIn K cd20 "_law_told"=true) (k20:PySem.W.keepIn K (.ref f20)=true)
    (z_list:PySem.W.nsIn K mainGlobals "list"=some none)
    (z_tuple:PySem.W.nsIn K mainGlobals "tuple"=some none)
    (z_len:PySem.W.nsIn K mainGlobals "len"=some none)
    (z_range:PySem.W.nsIn K mainGlobals "range"=some none)
    (z_repr:PySem.W.nsIn K mainGlobals "repr"=some none)
    (z_sum:PySem.W.nsIn K mainGlobals "sum"=some none)
    (z_min:PySem.W.nsIn K mainGlobals "min"=some none)
    (z_max:PySem.W.nsIn K mainGlobals "max"=some none)
    (z_abs:PySem.W.nsIn K mainGlobals "abs"=some none)
    (z_all:PySem.W.nsIn K mainGlobals "all"=some none)
    (z_any:PySem.W.nsIn K mainGlobals "any"=some none)
    (z_sorted:PySem.W.nsIn K mainGlobals "sorted"=some none)
    (z_zip:PySem.W.nsIn K mainGlobals "zip"=some none)
    (z_isinstance:PySem.W.nsIn K mainGlobals "isinstance"=some none)
    (z_int:PySem.W.nsIn K mainGlobals "int"=some none)
    (z_bool:PySem.W.nsIn K mainGlobals "bool"=some none)
    (z_str:PySem.W.nsIn K mainGlobals "str"=some none)
    (z_set:PySem.W.nsIn K mainGlobals "set"=some none)
    (z_enumerate:PySem.W.nsIn K mainGlobals "enumerate"=some none)
    (z_reversed:PySem.W.nsIn K mainGlobals "reversed"=some none)
    (z_dict:PySem.W.nsIn K mainGlobals "dict"=some none)
    (xC:PySem.W.nsIn K mainGlobals "NoRule"=some (some (.ref C)))
    (xB:PySem.W.nsIn K mainGlobals "BenchError"=some (some (.ref Bc)))
    (x1:PySem.W.nsIn K mainGlobals "NoBack"=some (some (.ref cx1)))
    (x2:PySem.W.nsIn K mainGlobals "NoPaper"=some (some (.ref cx2)))
    (x3:PySem.W.nsIn K mainGlobals "NoRow"=some (some (.ref cx3)))
    (x4:PySem.W.nsIn K mainGlobals "NoText"=some (some (.ref cx4)))
    (x5:PySem.W.nsIn K mainGlobals "NoWish"=some (some (.ref cx5)))
    (x6:PySem.W.nsIn K mainGlobals "NoWork"=some (some (.ref cx6)))
    (x7:PySem.W.nsIn K mainGlobals "TooMany"=some (some (.ref cx7)))
    (xV:PySem.W.nsIn K mainGlobals "ValueError"=some none)
    (fi:PySem.W.findIn K (.ref C) "__init__"=some (some (.ref fI)))
    (ki:PySem.W.keepIn K (.ref fI)=true)
    (fn:PySem.W.isFn K (.ref fI)=true)
    (kp:PySem.W.keepIn K (.ref C)=true)
    (sa:PySem.W.findIn K (.ref C) "__setattr__"=some (some (.builtin "object.__setattr__")))
    (ga:PySem.W.findIn K (.ref C) "__getattribute__"=some (some (.builtin "BaseException.__getattribute__")))
    (gx:PySem.W.findIn K (.ref C) "__getattr__"=some none)
    (na:PySem.W.findIn K (.ref C) "word"=some none)
    (ca:PySem.W.findIn K (.ref C) "__class__"=some (some (.builtin "object.__class__")))
    (gd:PySem.W.specialIn K (.builtin "object.__class__") "__get__"=some (some (.builtin "getset_descriptor.__get__")))
    (tk:PySem.W.takesIn K (.builtin "object.__class__")=some true)
    (mo:PySem.W.mroIn K C (.type "object")=some true)
    (lC:K.lookup C=some (excClassObj nmX qX C nX bsX bmX true snX subX abX colX ddX e0 e1 e2 e3 e5 "ValueError.__new__"))
    (ov:OverV bmX)
    (li:K.lookup fI=some ⟨ocI,odI,.func (PySem.W.fnOf "__init__" "NoRule.__init__" (Ad Ed) (AT Ed) (A9 Ed) .none kVI dcI pmI anI cdI ctI),slI⟩)
    (ci:PySem.W.codeIn K cdI "NoRule.__init__"=true)
    (kx1:PySem.W.exmOne K (.ref C) (.ref Bc)=some true)
    (kx2:PySem.W.kitOne K (.ref C) (.type "ValueError")=some true)
    (kx3:PySem.W.kitAny K (.ref C) ([cx1,cx2,cx3,cx4,cx5,cx6,cx7].map Value.ref)=some false) :
    (∃ g,K.lookup mainGlobals=some g)/\∃ fd:FuncData,(∀ (s:Shared) (v:Value),BindsTo s fd ⟨[v],[]⟩ [("_law_script",v)])/\∀ base:Heap,(Aa K (tS P)).In base->base.Ns mainGlobals mg->(∀ x ∈ xS,CodeHd base (c x.1) (P x.1))->(∀ x ∈ xS,base.BuiltinsAt mg (P x.1))->FnOk l.prog w (Aa K (tS P)) mg base CX0 7 fa fd ["_law_script"] (spF (Aa K (tS P)) 1 F_law):=by
  have hP:∀ P' ∈ (tS P).map (·.1),h.get? P'=some (tabObj #[]):=λ P' hp=>by
    obtain⟨t,ht,rfl⟩:=List.mem_map.mp hp
    obtain⟨x,hxx,rfl⟩:=List.mem_map.mp ht
    exact(hx x hxx).1
  have e:=hfa.symm.trans (PySem.W.mg_of X G a0)
  cases e
  have F0:=Fun.mark (ts:=tS P) (B4 (st:=DK) l0 c0 k0) X hP
  have D0:DefAt (Aa K (tS P)) mg "law" DK _ _ ["_law_script"]:=⟨F0,PySem.W.mg_of X G a0,F0.binds (ps:=["_law_script"]) λ _ _ _ _ _ _ us hl=>match us,hl with | [_],_=>rfl⟩
  have F1:=Fun.mark (ts:=tS P) (B4 (st:=DT) l1 c1 k1) X hP
  have D1:DefAt (Aa K (tS P)) mg "_law_tape" DT _ _ ["_law_script"]:=⟨F1,PySem.W.mg_of X G a1,F1.binds (ps:=["_law_script"]) λ _ _ _ _ _ _ us hl=>match us,hl with | [_],_=>rfl⟩
  have F2:=Fun.mark (ts:=tS P) (B4 (st:=C2) l2 c2 k2) X hP
  have D2:DefAt (Aa K (tS P)) mg "_law_pick" C2 _ _ ["_law_tape_here","_law_many"]:=⟨F2,PySem.W.mg_of X G a2,F2.binds (ps:=["_law_tape_here","_law_many"]) λ _ _ _ _ _ _ us hl=>match us,hl with | [_,_],_=>rfl⟩
  have F3:=Fun.mark (ts:=tS P) (B4 (st:=Ce) l3 c3 k3) X hP
  have D3:DefAt (Aa K (tS P)) mg "_law_works" Ce _ _ ["_law_tape_here","_law_many"]:=⟨F3,PySem.W.mg_of X G a3,F3.binds (ps:=["_law_tape_here","_law_many"]) λ _ _ _ _ _ _ us hl=>match us,hl with | [_,_],_=>rfl⟩
  have F4:=Fun.mark (ts:=tS P) (B4 (st:=C9) l4 c4 k4) X hP
  have D4:DefAt (Aa K (tS P)) mg "_law_unlike" C9 _ _ ["_law_tape_here","_law_works_here"]:=⟨F4,PySem.W.mg_of X G a4,F4.binds (ps:=["_law_tape_here","_law_works_here"]) λ _ _ _ _ _ _ us hl=>match us,hl with | [_,_],_=>rfl⟩
  have F5:=Fun.mark (ts:=tS P) (B4 (st:=DV) l5 c5 k5) X hP
  have D5:DefAt (Aa K (tS P)) mg "_law_cost" DV _ _ ["_law_tape_here"]:=⟨F5,PySem.W.mg_of X G a5,F5.binds (ps:=["_law_tape_here"]) λ _ _ _ _ _ _ us hl=>match us,hl with | [_],_=>rfl⟩
  have F6:=Fun.mark (ts:=tS P) (B4 (st:=Cf) l6 c6 k6) X hP
  have D6:DefAt (Aa K (tS P)) mg "_law_other" Cf _ _ ["_law_tape_here","_law_works_here"]:=⟨F6,PySem.W.mg_of X G a6,F6.binds (ps:=["_law_tape_here","_law_works_here"]) λ _ _ _ _ _ _ us hl=>match us,hl with | [_,_],_=>rfl⟩
  have F7:=Fun.mark (ts:=tS P) (B4 (st:=EL) l7 c7 k7) X hP
  have D7:DefAt (Aa K (tS P)) mg "_law_due" EL _ _ ["_law_works_here"]:=⟨F7,PySem.W.mg_of X G a7,F7.binds (ps:=["_law_works_here"]) λ _ _ _ _ _ _ us hl=>match us,hl with | [_],_=>rfl⟩
  have F8:=Fun.mark (ts:=tS P) (B4 (st:=DU) l8 c8 k8) X hP
  have D8:DefAt (Aa K (tS P)) mg "less" DU _ _ ["one","other"]:=⟨F8,PySem.W.mg_of X G a8,F8.binds (ps:=["one","other"]) λ _ _ _ _ _ _ us hl=>match us,hl with | [_,_],_=>rfl⟩
  have F9:=Fun.mark (ts:=tS P) (B4 (st:=Bm) l9 c9 k9) X hP
  have D9:DefAt (Aa K (tS P)) mg "falling" Bm _ _ ["ratios"]:=⟨F9,PySem.W.mg_of X G a9,F9.binds (ps:=["ratios"]) λ _ _ _ _ _ _ us hl=>match us,hl with | [_],_=>rfl⟩
  have F10:=Fun.mark (ts:=tS P) (B4 (st:=BA) l10 c10 k10) X hP
  have D10:DefAt (Aa K (tS P)) mg "same_coming" BA _ _ ["works"]:=⟨F10,PySem.W.mg_of X G a10,F10.binds (ps:=["works"]) λ _ _ _ _ _ _ us hl=>match us,hl with | [_],_=>rfl⟩
  have F11:=Fun.mark (ts:=tS P) (B4 (st:=B7) l11 c11 k11) X hP
  have D11:DefAt (Aa K (tS P)) mg "one_coming" B7 _ _ ["works"]:=⟨F11,PySem.W.mg_of X G a11,F11.binds (ps:=["works"]) λ _ _ _ _ _ _ us hl=>match us,hl with | [_],_=>rfl⟩
  have F12:=Fun.mark (ts:=tS P) (B4 (st:=AV) l12 c12 k12) X hP
  have D12:DefAt (Aa K (tS P)) mg "refuse_other_costs" AV _ _ ["works","word"]:=⟨F12,PySem.W.mg_of X G a12,F12.binds (ps:=["works","word"]) λ _ _ _ _ _ _ us hl=>match us,hl with | [_,_],_=>rfl⟩
  have F13:=Fun.mark (ts:=tS P) (B4 (st:=Af) l13 c13 k13) X hP
  have D13:DefAt (Aa K (tS P)) mg "weighted_coming" Af _ _ ["works"]:=⟨F13,PySem.W.mg_of X G a13,F13.binds (ps:=["works"]) λ _ _ _ _ _ _ us hl=>match us,hl with | [_],_=>rfl⟩
  have F14:=Fun.mark (ts:=tS P) (B4 (st:=B1) l14 c14 k14) X hP
  have D14:DefAt (Aa K (tS P)) mg "common_divisor" B1 _ _ ["one","other"]:=⟨F14,PySem.W.mg_of X G a14,F14.binds (ps:=["one","other"]) λ _ _ _ _ _ _ us hl=>match us,hl with | [_,_],_=>rfl⟩
  have F15:=Fun.mark (ts:=tS P) (B4 (st:=Bk) l15 c15 k15) X hP
  have D15:DefAt (Aa K (tS P)) mg "fraction" Bk _ _ ["top","bottom"]:=⟨F15,PySem.W.mg_of X G a15,F15.binds (ps:=["top","bottom"]) λ _ _ _ _ _ _ us hl=>match us,hl with | [_,_],_=>rfl⟩
  have F16:=Fun.mark (ts:=tS P) (B4 (st:=BU) l16 c16 k16) X hP
  have D16:DefAt (Aa K (tS P)) mg "length_of" BU _ _ ["works","some"]:=⟨F16,PySem.W.mg_of X G a16,F16.binds (ps:=["works","some"]) λ _ _ _ _ _ _ us hl=>match us,hl with | [_,_],_=>rfl⟩
  have F17:=Fun.mark (ts:=tS P) (B4 (st:=BT) l17 c17 k17) X hP
  have D17:DefAt (Aa K (tS P)) mg "weight_of" BT _ _ ["work"]:=⟨F17,PySem.W.mg_of X G a17,F17.binds (ps:=["work"]) λ _ _ _ _ _ _ us hl=>match us,hl with | [_],_=>rfl⟩
  have F18:=Fun.mark (ts:=tS P) (B4 (st:=BP) l18 c18 k18) X hP
  have D18:DefAt (Aa K (tS P)) mg "ratio_of" BP _ _ ["works","some"]:=⟨F18,PySem.W.mg_of X G a18,F18.binds (ps:=["works","some"]) λ _ _ _ _ _ _ us hl=>match us,hl with | [_,_],_=>rfl⟩
  have F19:=Fun.mark (ts:=tS P) (B4 (st:=BB) l19 c19 k19) X hP
  have D19:DefAt (Aa K (tS P)) mg "ratio_order" BB _ _ ["works"]:=⟨F19,PySem.W.mg_of X G a19,F19.binds (ps:=["works"]) λ _ _ _ _ _ _ us hl=>match us,hl with | [_],_=>rfl⟩
  have F20:=Fun.mark (ts:=tS P) (B4 (st:=DS) l20 c20 k20) X hP
  have D20:DefAt (Aa K (tS P)) mg "_law_told" DS _ _ ["_law_works_here"]:=⟨F20,PySem.W.mg_of X G a20,F20.binds (ps:=["_law_works_here"]) λ _ _ _ _ _ _ us hl=>match us,hl with | [_],_=>rfl⟩
  have B:BltA mg:=⟨PySem.W.mg_none_of X G z_list,PySem.W.mg_none_of X G z_tuple,PySem.W.mg_none_of X G z_len,PySem.W.mg_none_of X G z_range,PySem.W.mg_none_of X G z_repr,PySem.W.mg_none_of X G z_sum,PySem.W.mg_none_of X G z_min,PySem.W.mg_none_of X G z_max,PySem.W.mg_none_of X G z_abs,PySem.W.mg_none_of X G z_all,PySem.W.mg_none_of X G z_any,PySem.W.mg_none_of X G z_sorted,PySem.W.mg_none_of X G z_zip,PySem.W.mg_none_of X G z_isinstance,PySem.W.mg_none_of X G z_int,PySem.W.mg_none_of X G z_bool,PySem.W.mg_none_of X G z_str,PySem.W.mg_none_of X G z_set,PySem.W.mg_none_of X G z_enumerate,PySem.W.mg_none_of X G z_reversed,PySem.W.mg_none_of X G z_dict⟩
  have LE:=Qi (ts:=tS P) X hP
  have xc:XC (Aa K (tS P)) C fI:=LE.xc ⟨_,_,li,rfl⟩ ⟨⟨_,_,_,_,_,_,_,_,_,_,_,_,_,_,_,lC,ov⟩,fi,fn,kp,sa,ga,gx⟩
  have FI:=Fun.mark (ts:=tS P) (B4 (st:=Ed) li ci ki) X hP
  have bI:=FI.binds (ps:=["self","word"]) λ _ _ _ _ _ _ us hl=>match us,hl with | [_,_],_=>rfl

  have nd:((Fc (Aa K (tS P))).map (·.1)).Nodup:=by rw[IA];simp
  have hg:∃ g,K.lookup mainGlobals=some g:=by
    cases e:K.lookup mainGlobals with
    | some g=>exact⟨g,rfl⟩
    | none=>have z:=a0;unfold PySem.W.nsIn at z;rw[e]at z;cases z
  refine⟨hg,PySem.W.fnOf "law" "law" (Ad DK) (AT DK) (A9 DK) .none kV0 dc0 pm0 an0 cd0 ct0,λ s v=>.of_eq rfl,λ base _ _ hd bl=>?_⟩

  have EX:ExcW l.prog w (Aa K (tS P)) mg base C Bc fI cx1 cx2 cx3 cx4 cx5 cx6 cx7 _:=⟨xc,LE.xi ⟨ca,gd,tk,mo⟩,LE.noAttr na,PySem.W.mg_of X G xC,PySem.W.mg_of X G xB,PySem.W.mg_none_of X G xV,LE.exm kx1,LE.kitOne kx2,LE.kitAny kx3,PySem.W.mg_of X G x1,PySem.W.mg_of X G x2,PySem.W.mg_of X G x3,PySem.W.mg_of X G x4,PySem.W.mg_of X G x5,PySem.W.mg_of X G x6,PySem.W.mg_of X G x7,T55.ok_ini FI xc (LE.noAttr na),bI⟩
  have G_tape:=T55.ok_tape (P:=l.prog) (w:=w) (base:=base) D1  B
  have G_pick:=T55.ok_pick (P:=l.prog) (w:=w) (base:=base) D2  B
  have G_works:=T55.ok_works (P:=l.prog) (w:=w) (base:=base) D3 D2 G_pick B
  have G_unlike:=T55.ok_unlike (P:=l.prog) (w:=w) (base:=base) D4 D2 G_pick B
  have G_cost:=T55.ok_cost (P:=l.prog) (w:=w) (base:=base) D5 D2 G_pick B
  have G_other:=T55.ok_other (P:=l.prog) (w:=w) (base:=base) D6 D2 G_pick D5 G_cost B
  have G_due:=T55.ok_due (P:=l.prog) (w:=w) (base:=base) D7  B
  have G_less:=T55.ok_less (P:=l.prog) (w:=w) (base:=base) D8  B
  have G_falling:=T55.ok_falling (P:=l.prog) (w:=w) (base:=base) D9 D8 G_less B
  have G_same_coming:=T55.ok_same_coming (P:=l.prog) (w:=w) (base:=base) D10  B
  have G_one_coming:=T55.ok_one_coming (P:=l.prog) (w:=w) (base:=base) D11 D10 G_same_coming B
  have GX_one_coming:=T55.okx_one_coming (P:=l.prog) (w:=w) (base:=base) D11 D10 G_same_coming EX  B
  have G_refuse_other_costs:=T55.ok_refuse_other_costs (P:=l.prog) (w:=w) (base:=base) D12  B
  have GX_refuse_other_costs:=T55.okx_refuse_other_costs (P:=l.prog) (w:=w) (base:=base) D12  EX  B
  have G_weighted_coming:=T55.ok_weighted_coming (P:=l.prog) (w:=w) (base:=base) D13 D11 G_one_coming D12 G_refuse_other_costs B
  have GX_weighted_coming:=T55.okx_weighted_coming (P:=l.prog) (w:=w) (base:=base) D13 D11 G_one_coming D12 G_refuse_other_costs EX GX_one_coming GX_refuse_other_costs B
  have G_common_divisor:=T55.ok_common_divisor (P:=l.prog) (w:=w) (base:=base) D14  B
  have G_fraction:=T55.ok_fraction (P:=l.prog) (w:=w) (base:=base) D15 D14 G_common_divisor B
  have G_length_of:=T55.ok_length_of (P:=l.prog) (w:=w) (base:=base) D16  B
  have G_weight_of:=T55.ok_weight_of (P:=l.prog) (w:=w) (base:=base) D17  B
  have G_ratio_of:=T55.ok_ratio_of (P:=l.prog) (w:=w) (base:=base) D18 D15 G_fraction D16 G_length_of D17 G_weight_of B
  have G_ratio_order:=T55.ok_ratio_order (P:=l.prog) (w:=w) (base:=base) D19 D9 G_falling D13 G_weighted_coming D18 G_ratio_of B
  have GX_ratio_order:=T55.okx_ratio_order (P:=l.prog) (w:=w) (base:=base) D19 D9 G_falling D13 G_weighted_coming D18 G_ratio_of EX GX_weighted_coming B
  have G_told:=T55.ok_told (P:=l.prog) (w:=w) (base:=base) D20 D19 G_ratio_order EX GX_ratio_order B
  have G_law:=T55.ok_law (P:=l.prog) (w:=w) (base:=base) D0 D1 G_tape D2 G_pick D3 G_works D4 G_unlike D6 G_other D7 G_due D20 G_told B
  exact G_law
end T55
open PySem PySem.W PyProof.Rows
set_option maxRecDepth 100000 in
set_option maxHeartbeats 0 in
theorem PySem.W.Fast.te1707097288564184313:True:=trivial
set_option maxHeartbeats 4000000 in
theorem PySem.Challenge.cw_benchdays_k55_ratios_told_holds : PySem.Challenge.rw_benchdays_k55_ratios_told.Holds := by
  w_on;o_law;k_head;(case hw=>w_witness2)
  k_fill
  refine L2.walkL T55.xS (l:=PySem.Challenge.rw_benchdays_k55_ratios_told) (n:=63) (k:=7) (F:=T55.F_law) rfl (by decide) rfl ⟨rfl,by decide,by decide,rfl⟩ (by intro x hx;cases hx) T55.law_eq (λ w h Y=>PySem.W.kIn_of Y) ?F
  case F=>
    intro w mg fa h c P KX G hmg hx
    refine' T55.all_mk KX G hmg hx ?a0 ?l0 ?c0 ?k0 ?a1 ?l1 ?c1 ?k1 ?a2 ?l2 ?c2 ?k2 ?a3 ?l3 ?c3 ?k3 ?a4 ?l4 ?c4 ?k4 ?a5 ?l5 ?c5 ?k5 ?a6 ?l6 ?c6 ?k6 ?a7 ?l7 ?c7 ?k7 ?a8 ?l8 ?c8 ?k8 ?a9 ?l9 ?c9 ?k9 ?a10 ?l10 ?c10 ?k10 ?a11 ?l11 ?c11 ?k11 ?a12 ?l12 ?c12 ?k12 ?a13 ?l13 ?c13 ?k13 ?a14 ?l14 ?c14 ?k14 ?a15 ?l15 ?c15 ?k15 ?a16 ?l16 ?c16 ?k16 ?a17 ?l17 ?c17 ?k17 ?a18 ?l18 ?c18 ?k18 ?a19 ?l19 ?c19 ?k19 ?a20 ?l20 ?c20 ?k20 ?z_list ?z_tuple ?z_len ?z_range ?z_repr ?z_sum ?z_min ?z_max ?z_abs ?z_all ?z_any ?z_sorted ?z_zip ?z_isinstance ?z_int ?z_bool ?z_str ?z_set ?z_enumerate ?z_reversed ?z_dict ?xC ?xB ?x1 ?x2 ?x3 ?x4 ?x5 ?x6 ?x7 ?xV ?fi ?ki ?fn ?kp ?sa ?ga ?gx ?na ?ca ?gd ?tk ?mo ?lC ?ov ?li ?ci ?kx1 ?kx2 ?kx3
    (case a0=>k_is)
    (case l0=>k_is)
    (case c0=>k_is)
    (case k0=>k_is)
    (case a1=>k_is)
    (case l1=>k_is)
    (case c1=>k_is)
    (case k1=>k_is)
    (case a2=>k_is)
    (case l2=>k_is)
    (case c2=>k_is)
    (case k2=>k_is)
    (case a3=>k_is)
    (case l3=>k_is)
    (case c3=>k_is)
    (case k3=>k_is)
    (case a4=>k_is)
    (case l4=>k_is)
    (case c4=>k_is)
    (case k4=>k_is)
    (case a5=>k_is)
    (case l5=>k_is)
    (case c5=>k_is)
    (case k5=>k_is)
    (case a6=>k_is)
    (case l6=>k_is)
    (case c6=>k_is)
    (case k6=>k_is)
    (case a7=>k_is)
    (case l7=>k_is)
    (case c7=>k_is)
    (case k7=>k_is)
    (case a8=>k_is)
    (case l8=>k_is)
    (case c8=>k_is)
    (case k8=>k_is)
    (case a9=>k_is)
    (case l9=>k_is)
    (case c9=>k_is)
    (case k9=>k_is)
    (case a10=>k_is)
    (case l10=>k_is)
    (case c10=>k_is)
    (case k10=>k_is)
    (case a11=>k_is)
    (case l11=>k_is)
    (case c11=>k_is)
    (case k11=>k_is)
    (case a12=>k_is)
    (case l12=>k_is)
    (case c12=>k_is)
    (case k12=>k_is)
    (case a13=>k_is)
    (case l13=>k_is)
    (case c13=>k_is)
    (case k13=>k_is)
    (case a14=>k_is)
    (case l14=>k_is)
    (case c14=>k_is)
    (case k14=>k_is)
    (case a15=>k_is)
    (case l15=>k_is)
    (case c15=>k_is)
    (case k15=>k_is)
    (case a16=>k_is)
    (case l16=>k_is)
    (case c16=>k_is)
    (case k16=>k_is)
    (case a17=>k_is)
    (case l17=>k_is)
    (case c17=>k_is)
    (case k17=>k_is)
    (case a18=>k_is)
    (case l18=>k_is)
    (case c18=>k_is)
    (case k18=>k_is)
    (case a19=>k_is)
    (case l19=>k_is)
    (case c19=>k_is)
    (case k19=>k_is)
    (case a20=>k_is)
    (case l20=>k_is)
    (case c20=>k_is)
    (case k20=>k_is)
    (case z_list=>k_is)
    (case z_tuple=>k_is)
    (case z_len=>k_is)
    (case z_range=>k_is)
    (case z_repr=>k_is)
    (case z_sum=>k_is)
    (case z_min=>k_is)
    (case z_max=>k_is)
    (case z_abs=>k_is)
    (case z_all=>k_is)
    (case z_any=>k_is)
    (case z_sorted=>k_is)
    (case z_zip=>k_is)
    (case z_isinstance=>k_is)
    (case z_int=>k_is)
    (case z_bool=>k_is)
    (case z_str=>k_is)
    (case z_set=>k_is)
    (case z_enumerate=>k_is)
    (case z_reversed=>k_is)
    (case z_dict=>k_is)
    (case xC=>k_is)
    (case xB=>k_is)
    (case x1=>k_is)
    (case x2=>k_is)
    (case x3=>k_is)
    (case x4=>k_is)
    (case x5=>k_is)
    (case x6=>k_is)
    (case x7=>k_is)
    (case xV=>k_is)
    (case fi=>k_is)
    (case ki=>k_is)
    (case fn=>k_is)
    (case kp=>k_is)
    (case sa=>k_is)
    (case ga=>k_is)
    (case gx=>k_is)
    (case na=>k_is)
    (case ca=>k_is)
    (case gd=>k_is)
    (case tk=>k_is)
    (case mo=>k_is)
    (case lC=>k_is)
    (case ov=>exact .own .base)
    (case li=>k_is)
    (case ci=>k_is)
    (case kx1=>kernel_rfl)
    (case kx2=>kernel_rfl)
    (case kx3=>kernel_rfl)
