import PyProof.Rows.All
import Wide.All
import OpenK.AllK
import Wide.FinOn
import Lean
import PyProof.EqAt
import PyProof.EqKinds
import PyProof.TupleCall
import KE.KSortKey
import PyProof.ListMulRoad
import PyProof.Draws
import PyProof.EnumMake
import PyProof.ListNew
import KE.KRevIter
import KE.KMinKey
import PySem.Challenge.RW_benchdays_k56_pair_sums
set_option Elab.async false
set_option linter.all false
set_option maxRecDepth 100000
set_option compiler.extract_closed false
local macro_rules | `(tactic| omega) => `(tactic| first | lia | omega (config := {}))
namespace L2
open PySem PySem.Spec PyProof.Rows
noncomputable abbrev Key:=Sum Int Str
noncomputable def Of:Key->Value->Bool
  | .inl k,v=>Value.isInt k v
  | .inr x,v=>Value.isStrOf x v
noncomputable def Ua(w:World):Key->Int
  | .inl k=>hashInt k
  | .inr x=>hashStr w x
theorem BL:∀ {k:Key} {v:Value},Of k v=true->(∃ i t,k=Sum.inl i/\v=Value.int i t) ∨ (∃ x t,k=Sum.inr x/\v=Value.str x t)
  | .inl i,v,h=>by
    obtain⟨t,e⟩:=Value.isInt_shape (k:=i) (v:=v) h
    exact .inl ⟨i,t,rfl,e⟩
  | .inr x,v,h=>by
    obtain⟨t,e⟩:=Value.isStrOf_shape (x:=x) (v:=v) h
    exact .inr ⟨x,t,rfl,e⟩
theorem Su(a b:Int):decide ((Sum.inl a:Key)=Sum.inl b)=(a == b):=by
  by_cases e:a=b
  . subst e;simp
  . have h:¬ (Sum.inl a:Key)=Sum.inl b:=λ q=>e (Sum.inl.inj q)
    rw[decide_eq_false h]
    exact(beq_eq_false_iff_ne.mpr e).symm
theorem Sq(a b:Str):decide ((Sum.inr a:Key)=Sum.inr b)=decide (a=b):=by
  by_cases e:a=b
  . subst e;simp
  . have h:¬ (Sum.inr a:Key)=Sum.inr b:=λ q=>e (Sum.inr.inj q)
    rw[decide_eq_false h,decide_eq_false e]
theorem Ss(a:Int)(b:Str):decide ((Sum.inl a:Key)=Sum.inr b)=false:=decide_eq_false (λ q=>nomatch q)
theorem Sr(a:Str)(b:Int):decide ((Sum.inr a:Key)=Sum.inl b)=false:=decide_eq_false (λ q=>nomatch q)
noncomputable def HN(prog:Program)(w:World):PySem.KeyKind prog w Key where
  is:=Of
  hash:=Ua w
  inj:=λ v a b ha hb=>by
    rcases BL ha with⟨i,t,rfl,rfl⟩|⟨x,t,rfl,rfl⟩
    . rcases BL hb with⟨j,u,rfl,e⟩|⟨y,u,rfl,e⟩
      . injection e with e1 _;rw[e1]
      . exact nomatch e
    . rcases BL hb with⟨j,u,rfl,e⟩|⟨y,u,rfl,e⟩
      . exact nomatch e
      . injection e with e1 _;rw[e1]
  byValue:=λ k v h=>by
    rcases BL h with⟨i,t,rfl,rfl⟩|⟨x,t,rfl,rfl⟩ <;> rfl
  pyHash:=λ hv h=>by
    rcases BL hv with⟨i,t,rfl,rfl⟩|⟨x,t,rfl,rfl⟩
    . exact wpAny_pyHash_int h
    . exact wpAny_pyHash_str h
  eqBool:=λ hu hv h=>by
    rcases BL hu with⟨i,t,rfl,rfl⟩|⟨x,t,rfl,rfl⟩
    . rcases BL hv with⟨j,u,rfl,rfl⟩|⟨y,u,rfl,rfl⟩
      . rw[Su]at h;exact wpAny_eqBool_int h
      . rw[Ss]at h;exact SeqAt.EqAt.int_str i t y u _ _ _ _ h
    . rcases BL hv with⟨j,u,rfl,rfl⟩|⟨y,u,rfl,rfl⟩
      . rw[Sr]at h;exact SeqAt.EqAt.str_int x t j u _ _ _ _ h
      . rw[Sq]at h;exact wpAny_eqBool_str h
  «strs»:=λ k x t v h=>by
    rcases BL h with⟨i,u,rfl,e⟩|⟨y,u,rfl,e⟩
    . exact nomatch e
    . injection e with e1 _
      subst e1
      cases v <;> rfl
end L2
namespace L2
open PySem PySem.Spec PyProof.Rows
inductive V where
  | non|bl (b:Bool)|int (i:Int)|str (x:Str)|byt (b:Array UInt8)|flt (b:UInt64)|ref (a:Addr)|ty (n:String)
  deriving DecidableEq
noncomputable def RelV:V->Value->Prop
  | .non,u=>u=Value.none
  | .bl b,u=>u=Value.bool b
  | .int i,u=>∃ t,u=Value.int i t
  | .str x,u=>∃ t,u=Value.str x t
  | .byt b,u=>∃ t,u=Value.bytes b t
  | .flt b,u=>∃ t,u=Value.float b t
  | .ref a,u=>u=Value.ref a
  | .ty n,u=>u=Value.type n
noncomputable abbrev Vals:List V->List Value->Prop:=Paired RelV
theorem Vals.length{xs:List V}{us:List Value}(r:Vals xs us):xs.length=us.length:=Paired.length r
theorem Vals.get:∀ {xs:List V} {us:List Value} {i:Nat} {x:V},Vals xs us->xs[i]? = some x->∃ u,us[i]? = some u/\RelV x u
  | _,_,_,_,.nil,e=>by simp at e
  | _,_,0,_,.cons r _,e=>by simp at e;subst e;exact⟨_,rfl,r⟩
  | _,_,i + 1,x,.cons _ t,e=>by
    obtain⟨u,h1,h2⟩:=Vals.get (i:=i) (x:=x) t (by simpa using e)
    exact⟨u,by simpa using h1,h2⟩
theorem Vals.set{x:V}{u:Value}(r:RelV x u):∀ {xs:List V} {us:List Value} (i:Nat),Vals xs us->Vals (xs.set i x) (us.set i u)
  | _,_,_,.nil=>.nil
  | _,_,0,.cons _ t=>.cons r t
  | _,_,i + 1,.cons q t=>.cons q (Vals.set r i t)
theorem Vals.append:∀ {xs ys:List V} {us ws:List Value},Vals xs us->Vals ys ws->Vals (xs ++ ys) (us ++ ws)
  | _,_,_,_,.nil,s=>s
  | _,_,_,_,.cons r t,s=>.cons r (Vals.append t s)
theorem Vals.take:∀ {xs:List V} {us:List Value} (n:Nat),Vals xs us->Vals (xs.take n) (us.take n)
  | _,_,0,_=>.nil
  | _,_,_ + 1,.nil=>.nil
  | _,_,n + 1,.cons r t=>.cons r (Vals.take n t)
theorem Vals.drop:∀ {xs:List V} {us:List Value} (n:Nat),Vals xs us->Vals (xs.drop n) (us.drop n)
  | _,_,0,r=>r
  | _,_,_ + 1,.nil=>.nil
  | _,_,n + 1,.cons _ t=>Vals.drop n t
noncomputable def RelO:Option V->Option Value->Prop
  | some v,some u=>RelV v u
  | none,none=>True
  | _,_=>False
noncomputable def KV{κ:Type}:List (κ × V)->List (κ × Value)->Prop:=Paired λ(p:κ × V) (q:κ × Value)=>p.1=q.1/\RelV p.2 q.2
noncomputable def kV:Key->V
  | .inl i=>.int i
  | .inr x=>.str x
inductive HO where
  /-- a list -/
  | lst (xs:List V)
  /-- a tuple (never changes) -/
  | tup (xs:List V)
  /-- a dict whose keys are ints and texts;one whose keys are tuples of ints and texts (the empty one is both) -/
  | dK (kvs:List (Key × V))|dT (kvs:List (List Key × V))
  /-- a set of ints: its members,its size -/
  | set (S:Int->Bool) (n:Nat)
  /-- an instance of the class at C,its dict at dx,its attributes -/
  | ins (C dx:Addr) (fs:List (Str × V))
  /-- the dict of the instance at x -/
  | own (x:Addr)
  /-- the dict of an exception -/
  | xd (fs:List (Str × V))
  /-- a bound method,f of x -/
  | met (f x:Addr)
  /-- a range object lo,lo + 1,.. below hi -/
  | rng (lo hi:Int)
  /-- a thing that is known to the object (the script;a dict while a loop walks it): read,never written while it is so -/
  | frz (o:Obj) (u:HO)
  /-- a code object's table -/
  | tbl (ps:Array Value)
  /-- any other thing,by what is true of its one object (a def of one's own: SetO a S n:=HO.ext λ h=>..) -/
  | ext (φ:Heap->Prop)
noncomputable abbrev Hp:=Addr->Option HO
noncomputable def upd(H:Hp)(a:Addr)(o:HO):Hp:=λ b=>if b=a then some o else H b
theorem AT{H:Hp}{a:Addr}{o:HO}:upd H a o a=some o:=by unfold upd;rw[if_pos rfl]
theorem AE{H:Hp}{a b:Addr}{o:HO}(h:b ≠ a):upd H a o b=H b:=by unfold upd;rw[if_neg h]
theorem AS{H:Hp}{a b:Addr}{o:HO}(h:H a=some o)(h':H b=none):a ≠ b:=by
  intro e;subst e;rw[h]at h';cases h'
noncomputable def IsTupD(h:Heap)(a:Addr)(items:Array Value):Prop:=∃ o,h.get? a=some o/\o.cls=.type "tuple"/\(∃ n,o.data=.seq items n)/\o.dict=none
theorem IsTupD.t{h:Heap}{a:Addr}{items:Array Value}(x:IsTupD h a items):IsTup h a items:=let ⟨o,e,c,d,_⟩:=x;⟨o,e,c,d⟩
theorem IsTupD.new(h:Heap)(items:Array Value):IsTupD (h.push { cls:=.type "tuple",data:=.seq items }) h.objs.size items:=⟨_,Heap.get?_push_size _ rfl,rfl,⟨_,rfl⟩,rfl⟩
section
variable(P:Program)(w:World)
noncomputable def ObjOk(H:Hp)(h:Heap)(a:Addr):HO->Prop
  | .lst xs=>xs.length <= sizeLine/\∃ (its:List Value) (n:Nat),Vals xs its/\h.get? a=some { cls:=.type "list",data:=.seq its.toArray n }
  | .tup xs=>xs.length <= sizeLine/\∃ its:List Value,Vals xs its/\IsTupD h a its.toArray
  | .dK kvs=>kvs.length <= sizeLine/\(a == sysModules)=false/\∃ vs,KV kvs vs/\h.DictOf (HN P w) a vs
  | .dT kvs=>kvs.length <= sizeLine/\(a == sysModules)=false/\∃ xs:List (List Key × Addr × Value),
      Paired (λ(p:List Key × V) (q:List Key × Addr × Value)=>p.1=q.1/\H q.2.1=some (.tup (p.1.map kV))/\RelV p.2 q.2.2) kvs xs /\
      ∃ o es ep,h.get? a=some o/\o.ExactDict/\o.data=.dict es ep/\es.toList=xs.map (entryOfKey (tupleKind (HN P w)))/\(xs.map (·.1)).Nodup
  | .set S n=>h.SetOf (intKind P w) a S n
  | .ins C dx fs=>H dx=some (.own a)/\fs.length <= 1000/\dx ≠ a/\h.get? a=some (PySem.W.instObj C dx) /\
      ∃ mA,h.Ns1 dx mA/\(∀ f,RelO (fs.lookup f) (mA f))/\PySem.Within mA (fs.map (·.1))
  | .own _=>∃ o,h.get? a=some o
  | .xd fs=>∃ mA,h.Ns1 a mA/\∀ f,RelO (fs.lookup f) (mA f)
  | .rng lo hi=>∃ t u v,h.get? a=some { cls:=.type "range",data:=.fields #[.int lo t,.int hi u,.int 1 v] }
  | .frz o u=>h.get? a=some o/\ObjOk H h a u
  | .tbl ps=>h.get? a=some { cls:=.none,data:=.fields ps }
  | .met f x=>h.get? a=some (PySem.W.methodObj (.ref f) (.ref x))
  | .ext φ=>φ h/\(∃ o,h.get? a=some o)/\∀ h1 h2:Heap,φ h1->(∀ o,h1.get? a=some o->h2.get? a=some o)->φ h2
noncomputable def HOk(H:Hp)(h:Heap):Prop:=∀ a o,H a=some o->ObjOk P w H h a o
end
section
variable{P:Program}{w:World}{H H':Hp}{h h':Heap}{a:Addr}{o:HO}
theorem ObjOk.lt(x:ObjOk P w H h a o):a < h.objs.size:=by
  cases o with
  | lst xs=>obtain⟨_,_,_,_,e⟩:=x;exact Heap.lt_size e
  | tup xs=>obtain⟨_,_,_,o,e,_⟩:=x;exact Heap.lt_size e
  | dK kvs=>obtain⟨_,_,_,_,o,_,_,e,_⟩:=x;exact Heap.lt_size e
  | dT kvs=>obtain⟨_,_,_,_,o,_,_,e,_⟩:=x;exact Heap.lt_size e
  | set S n=>obtain⟨o,_,_,_,e,_⟩:=x;exact Heap.lt_size e
  | ins C dx fs=>obtain⟨_,_,_,e,_⟩:=x;exact Heap.lt_size e
  | own y=>obtain⟨_,e⟩:=x;exact Heap.lt_size e
  | xd fs=>obtain⟨_,⟨_,_,_,e,_⟩,_⟩:=x;exact Heap.lt_size e
  | rng lo hi=>obtain⟨_,_,_,e⟩:=x;exact Heap.lt_size e
  | frz ob u=>obtain⟨e,_⟩:=x;exact Heap.lt_size e
  | tbl ps=>exact Heap.lt_size (show h.get? a=some _ from x)
  | met f y=>exact Heap.lt_size (show h.get? a=some _ from x)
  | ext φ=>obtain⟨_,⟨_,e⟩,_⟩:=x;exact Heap.lt_size e
theorem Paired.mapP{α β:Type}{F G:α->β->Prop}:∀ {l₁:List α} {l₂:List β},Paired F l₁ l₂->(∀ a b,F a b->G a b)->Paired G l₁ l₂
  | _,_,.nil,_=>.nil
  | _,_,.cons r t,f=>.cons (f _ _ r) (Paired.mapP t f)
theorem ObjOk.stay(x:ObjOk P w H h a o)(k:∀ b u,(b=a ∨ H b=some (.own a))->h.get? b=some u->h'.get? b=some u)
    (ho:∀ b,H b=some (.own a)->H' b=some (.own a)) (ht:∀ b xs,H b=some (.tup xs)->H' b=some (.tup xs)):ObjOk P w H' h' a o:=by
  induction o with
  | lst xs=>obtain⟨z,its,n,r,e⟩:=x;exact⟨z,its,n,r,k _ _ (.inl rfl) e⟩
  | tup xs=>obtain⟨z,its,r,ob,e,c⟩:=x;exact⟨z,its,r,ob,k _ _ (.inl rfl) e,c⟩
  | dK kvs=>obtain⟨z,y,vs,r,ob,es,ep,e,c⟩:=x;exact⟨z,y,vs,r,ob,es,ep,k _ _ (.inl rfl) e,c⟩
  | dT kvs=>
    obtain⟨z,y,xs,r,ob,es,ep,e,c⟩:=x
    exact⟨z,y,xs,Paired.mapP r λ p q z=>⟨z.1,ht _ _ z.2.1,z.2.2⟩,ob,es,ep,k _ _ (.inl rfl) e,c⟩
  | set S n=>obtain⟨ob,es,ep,t,e,c⟩:=x;exact⟨ob,es,ep,t,k _ _ (.inl rfl) e,c⟩
  | ins C dx fs=>
    obtain⟨d,z,ne,e,mA,⟨od,es,ep,e2,c⟩,r⟩:=x
    exact⟨ho _ d,z,ne,k _ _ (.inl rfl) e,mA,⟨od,es,ep,k _ _ (.inr d) e2,c⟩,r⟩
  | own y=>obtain⟨ob,e⟩:=x;exact⟨ob,k _ _ (.inl rfl) e⟩
  | xd fs=>obtain⟨mA,⟨od,es,ep,e,c⟩,r⟩:=x;exact⟨mA,⟨od,es,ep,k _ _ (.inl rfl) e,c⟩,r⟩
  | rng lo hi=>obtain⟨t,u,v,e⟩:=x;exact⟨t,u,v,k _ _ (.inl rfl) e⟩
  | frz ob u ih=>obtain⟨e,q⟩:=x;exact⟨k _ _ (.inl rfl) e,ih q⟩
  | tbl ps=>
    have e:h.get? a=some { cls:=.none,data:=.fields ps }:=x
    show h'.get? a=some { cls:=.none,data:=.fields ps }
    exact k a _ (.inl rfl) e
  | met f y=>
    have e:h.get? a=some (PySem.W.methodObj (.ref f) (.ref y)):=x
    show h'.get? a=some (PySem.W.methodObj (.ref f) (.ref y))
    exact k a _ (.inl rfl) e
  | ext φ=>obtain⟨p,⟨o,e⟩,st⟩:=x;exact⟨st _ _ p λ o q=>k _ _ (.inl rfl) q,⟨o,k _ _ (.inl rfl) e⟩,st⟩
theorem HOk.lt(x:HOk P w H h)(e:H a=some o):a < h.objs.size:=(x a o e).lt
theorem HOk.fresh(x:HOk P w H h)(e:h.objs.size <= a):H a=none:=by
  cases q:H a with
  | none=>rfl
  | some u=>exact absurd (Nat.lt_of_lt_of_le (x.lt q) e) (Nat.lt_irrefl _)
theorem HOk.kept(x:HOk P w H h)(k:∀ b u,h.get? b=some u->h'.get? b=some u):HOk P w H h':=λ a o e=>
  (x a o e).stay (λ b u _ q=>k b u q) (λ _ q=>q) λ _ _ q=>q
theorem HOk.laid(x:HOk P w H h)(k:∀ b u,h.get? b=some u->h'.get? b=some u)(hp:h.objs.size <= a)(new:ObjOk P w (upd H a o) h' a o):HOk P w (upd H a o) h':=λ b u e=>by
  have hn:=x.fresh hp
  by_cases hb:b=a
  . subst hb;rw[AT]at e;cases e;exact new
  . rw[AE hb]at e
    exact(x b u e).stay (λ c v _ q=>k c v q) (λ c q=>by rw[AE (AS q hn)];exact q) λ c xs q=>by rw[AE (AS q hn)];exact q
end
noncomputable def Rd(H:Hp)(a:Addr)(u:HO):Prop:=H a=some u ∨ ∃ o,H a=some (.frz o u)
theorem Rd.ok{P:Program}{w:World}{H:Hp}{h:Heap}{a:Addr}{u:HO}(r:Rd H a u)(x:HOk P w H h):ObjOk P w H h a u:=by
  rcases r with r|⟨o,r⟩
  . exact x a u r
  . obtain⟨_,q⟩:=x a _ r
    exact q
noncomputable def Mut:Option HO->Prop
  | some (.lst _)=>True
  | some (.dK _)=>True
  | some (.dT _)=>True
  | some (.set _ _)=>True
  | some (.ins _ _ _)=>True
  | some (.ext _)=>True
  | _=>False
section
variable{P:Program}{w:World}{H:Hp}{h h':Heap}{x e:Addr}{o':HO}
theorem HOk.write(ok:HOk P w H h)(mu:Mut (H x))(he:e=x ∨ H e=some (.own x))(k:∀ b u,b ≠ e->h.get? b=some u->h'.get? b=some u)(heo:∃ u,h'.get? e=some u)
    (new:ObjOk P w (upd H x o') h' x o'):HOk P w (upd H x o') h':=λ b u q=>by
  have nown:∀ c y,H c=some (.own y)->c ≠ x:=λ c y r z=>by subst z;rw[r]at mu;exact mu
  have ntup:∀ c xs,H c=some (.tup xs)->c ≠ x:=λ c xs r z=>by subst z;rw[r]at mu;exact mu
  by_cases hb:b=x
  . subst hb;rw[AT]at q;cases q;exact new
  . rw[AE hb]at q
    by_cases hbe:b=e
    . have q':H b=some (.own x):=by
        rcases he with z|z
        . exact absurd (hbe.trans z) hb
        . rw[hbe];exact z
      rw[q]at q';cases q'
      obtain⟨v,hv⟩:=heo
      exact⟨v,by rw[hbe];exact hv⟩
    . refine(ok b u q).stay (λ c v hc r=>k c v ?_ r) (λ c r=>by rw[AE (nown c b r)];exact r) λ c xs r=>by rw[AE (ntup c xs r)];exact r
      rcases hc with rfl|hc
      . exact hbe
      . rintro rfl
        rcases he with z|z
        . exact nown c b hc z
        . rw[hc]at z;cases z;exact hb rfl
end
structure Un(fs ex:List Addr)(H H':Hp)(h h':Heap):Prop where
  keep:∀ b o,h.get? b=some o->H b=none->b ∉ fs->b ∉ ex->h'.get? b=some o
  slot:∀ b o,h.get? b=some o->H b=none->b ∈ fs->b ∉ ex->∃ sl,h'.get? b=some { o with slots:=sl }
  free:∀ b o,h.get? b=some o->H b=none->b ∉ ex->H' b=none
  there:∀ b o,h.get? b=some o->b ∉ ex->∃ o',h'.get? b=some o'
  tups:∀ b xs,H b=some (.tup xs)->H' b=some (.tup xs)
  frzs:∀ b o u,H b=some (.frz o u)->H' b=some (.frz o u)
  tbls:∀ b ps,H b=some (.tbl ps)->∃ more,H' b=some (.tbl (ps ++ more))
section
variable{fs fs' ex ex':List Addr}{H H1 H2:Hp}{h h1 h2 h':Heap}{a x e:Addr}{o:HO}
theorem Un.any(u:Un fs ex H H1 h h1){b:Addr}{ob:Obj}(q:h.get? b=some ob)(n:H b=none)(hx:b ∉ ex):∃ sl,h1.get? b=some { ob with slots:=sl }:=by
  by_cases hb:b ∈ fs
  . exact u.slot b ob q n hb hx
  . exact⟨ob.slots,u.keep b ob q n hb hx⟩
theorem Un.kept(k:∀ b u,h.get? b=some u->h'.get? b=some u):Un fs ex H H h h':=
  ⟨λ b ob q _ _ _=>k b ob q,λ b ob q _ _ _=>⟨ob.slots,k b ob q⟩,λ _ _ _ n _=>n,λ b ob q _=>⟨ob,k b ob q⟩,λ _ _ q=>q,λ _ _ _ q=>q,λ _ ps q=>⟨#[],by rw[q];simp⟩⟩
theorem Un.refl:Un fs ex H H h h:=Un.kept λ _ _ q=>q
theorem Un.laid(k:∀ b u,h.get? b=some u->h'.get? b=some u)(hp:h.objs.size <= a)(hn:H a=none):Un fs ex H (upd H a o) h h' where
  keep:=λ b u q _ _ _=>k b u q
  slot:=λ b u q _ _ _=>⟨u.slots,k b u q⟩
  free:=λ b u q n _=>by rw[AE (Nat.ne_of_lt (Nat.lt_of_lt_of_le (Heap.lt_size q) hp))];exact n
  there:=λ b u q _=>⟨u,k b u q⟩
  tups:=λ b xs q=>by rw[AE (AS q hn)];exact q
  frzs:=λ b u xs q=>by rw[AE (AS q hn)];exact q
  tbls:=λ b ps q=>⟨#[],by rw[AE (AS q hn),q];simp⟩
theorem Un.write(mu:Mut (H x))(he:e=x ∨ H e=some (.own x))(k:∀ b u,b ≠ e->h.get? b=some u->h'.get? b=some u)(heo:∃ u,h'.get? e=some u):Un fs ex H (upd H x o) h h':=by
  have hx:∀ b,H b=none->b ≠ x:=λ b n z=>by subst z;rw[n]at mu;exact mu
  have hb:∀ b,H b=none->b ≠ e:=λ b n z=>by
    subst z
    rcases he with r|r
    . exact hx b n r
    . rw[n]at r;cases r
  have hm:∀ b u,H b=some u->¬ Mut (some u)->b ≠ x:=λ b u q nm z=>by subst z;rw[q]at mu;exact nm mu
  refine⟨λ b u q n _ _=>k b u (hb b n) q,λ b u q n _ _=>⟨u.slots,k b u (hb b n) q⟩,λ b u q n _=>by rw[AE (hx b n)];exact n,λ b u q _=>?_,
    λ b xs q=>by rw[AE (hm b _ q λ z=>z)];exact q,λ b u xs q=>by rw[AE (hm b _ q λ z=>z)];exact q,λ b ps q=>⟨#[],by rw[AE (hm b _ q λ z=>z),q];simp⟩⟩
  by_cases hbe:b=e
  . subst hbe;exact heo
  . exact⟨u,k b u hbe q⟩
end
noncomputable def trk(h:Heap)(H:Hp):List Addr:=(List.range h.objs.size).filter λ a=>(H a).isSome
noncomputable def Ei(h:Heap)(H:Hp):Heap:=PySem.W.hideAll h (trk h H)
theorem MN(h:Heap)(H:Hp):(Ei h H).objs.size=h.objs.size:=PySem.W.hideAll_size _ _
theorem Nw{h:Heap}{H:Hp}{b:Addr}{o:Obj}(e:h.get? b=some o)(n:H b=none):(Ei h H).get? b=some o:=
  PySem.W.hideAll_get _ e λ hm=>by
    have q:(H b).isSome=true:=(List.mem_filter.mp hm).2
    rw[n]at q;simp at q
theorem QK{h:Heap}{H:Hp}{b:Addr}{o:Obj}(e:(Ei h H).get? b=some o):h.get? b=some o/\H b=none:=by
  have e':h.get? b=some o:=PySem.W.of_hideAll (trk h H) e
  refine⟨e',?_⟩
  cases q:H b with
  | none=>rfl
  | some x=>
    have hm:b ∈ trk h H:=List.mem_filter.mpr ⟨List.mem_range.mpr (Heap.lt_size e'),by simp[q]⟩
    have z:(Ei h H).get? b=none:=PySem.W.hideAll_none (trk h H) hm
    rw[z]at e;cases e
noncomputable def Qv(g h:Heap)(L:Addr):List (Addr × Obj):=(List.range h.objs.size).filterMap λ a=>if a=L ∨ (g.get? a).isSome=true then none else(h.get? a).map λ o=>(a,o)
noncomputable def rest(g h:Heap)(L d:Addr):List (Addr × Obj):=(Qv g h L).filter λ p=>decide (p.1 ≠ d)
end L2
namespace L2
open PySem PySem.Spec PyProof.Rows
structure Mod(K:PySem.W.Frag)(mg:Str->Option Value)(base:Heap):Prop where
  kin:K.In base
  glob:base.Ns mainGlobals mg
  blt:∃ mb,base.Ns builtinsNs mb/\∀ x:Str,x ≠ "__name__"->mb x=bootBuiltins x
  nolimit:base.NoLimit
structure Cx where
  prog:Program
  w:World
  K:PySem.W.Frag
  mg:Str->Option Value
  base:Heap
  A:Around
  N:List Str
  s₀:Shared
  H₀:Hp
  env:Env
  outer:List Env
  stack:List Env
  ex:List Addr
  fn:Str->Bool
  calm:Bool
  pn:List (Addr × Obj)
  xe:Value->Shared->Prop
noncomputable def frs(l:List Env):List Addr:=l.filterMap (·.frame)
noncomputable abbrev Cx.fs(X:Cx):List Addr:=frs X.outer
noncomputable def Vis(sc:Scope)(x:Str):Prop:=sc.names.lookup x=some .local ∨ sc.names.lookup x=some .cell ∨ sc.names.lookup x=some .free
noncomputable def Loc(sc:Scope)(x:Str):Prop:=sc.names.lookup x=some .local ∨ sc.names.lookup x=some .cell
noncomputable def Ul(env:Env)(h:Heap)(m:Str->Option Value)(x:Str)(u:Value):Prop:=
  (env.kindOf x=some .local/\m x=some u) ∨ ((env.kindOf x=some .cell ∨ env.kindOf x=some .free)/\∃ c,env.cells.lookup x=some c/\h.IsCell c (some u))
structure Cx.Ok(X:Cx):Prop where
  mod:Mod X.K X.mg X.base
  kind:X.env.scope.kind=.function
  glob:X.env.globals=mainGlobals
  blt:X.env.builtins=builtinsNs
  above:X.s₀.heap.objs.size <= X.env.locals
  inj:∀ x y c,X.env.cells.lookup x=some c->X.env.cells.lookup y=some c->x=y
  has:∀ x,(X.env.kindOf x=some .cell ∨ X.env.kindOf x=some .free)->∃ c,X.env.cells.lookup x=some c
  cab:∀ x c,X.fn x=true->X.env.cells.lookup x=some c->X.s₀.heap.objs.size <= c
  hd:X.calm=true->X.A.handled=none
  frames:X.A.frames=some X.stack
  stk:X.stack=X.outer ∨ (X.stack=X.env :: X.outer/\X.env.frame=some X.env.locals)
  exf:∀ b ∈ X.ex,b ≠ X.env.locals/\∀ x c,X.env.cells.lookup x=some c->c ≠ b
  bs:∀ b o,X.base.get? b=some o->X.s₀.heap.get? b=some o/\X.H₀ b=none
  bsz:X.base.objs.size <= X.s₀.heap.objs.size
  noex:∀ b o,X.base.get? b=some o->b ∉ X.ex
  exfs:∀ b ∈ X.ex,b ∉ X.fs
  funs:X.s₀.heap.FunFrames X.base X.outer
  frf:∀ b ∈ X.fs,X.H₀ b=none
structure Inv(X:Cx)(pins:List (Addr × Obj))(σ:List (Option V))(H:Hp)(s:Shared):Prop where
  ok:X.Ok
  os:s.os=X.s₀.os
  bare:AllBare s.gens
  base:Un X.fs X.ex X.H₀ H X.s₀.heap s.heap
  loc:∃ m,s.heap.Ns X.env.locals m/\∀ (i:Nat) (x:Str) (v:V),X.N[i]? = some x->σ[i]? = some (some v)->Vis X.env.scope x->∃ u,RelV v u/\Ul X.env s.heap m x u
  cell:∀ x c,X.env.cells.lookup x=some c->∃ v,s.heap.IsCell c v
  free:H X.env.locals=none
  freeC:∀ x c,X.env.cells.lookup x=some c->H c=none
  pin:∀ p ∈ X.pn ++ pins,s.heap.get? p.1=some p.2/\H p.1=none/\p.1 ≠ X.env.locals/\p.1 ∉ X.fs/\∀ v,p.2.data ≠ .cell v
  hok:HOk X.prog X.w H s.heap
  len:σ.length=X.N.length
section
variable{X:Cx}{pins:List (Addr × Obj)}{σ:List (Option V)}{H H':Hp}{s:Shared}{h':Heap}
theorem Cx.Ok.nofr(ok:X.Ok){b:Addr}{o:Obj}(e:X.base.get? b=some o):b ∉ X.fs:=λ hb=>by
  have:=(ok.funs.mem hb).1
  rw[e]at this;cases this
theorem Inv.bs(I:Inv X pins σ H s):∀ b o,X.base.get? b=some o->s.heap.get? b=some o/\H b=none:=λ b o e=>
  ⟨I.base.keep b o (I.ok.bs b o e).1 (I.ok.bs b o e).2 (I.ok.nofr e) (I.ok.noex b o e),I.base.free b o (I.ok.bs b o e).1 (I.ok.bs b o e).2 (I.ok.noex b o e)⟩
theorem Inv.bk(I:Inv X pins σ H s):∀ b o,X.base.get? b=some o->s.heap.get? b=some o:=λ b o e=>(I.bs b o e).1
theorem Inv.mod(I:Inv X pins σ H s):Mod X.K X.mg X.base:=I.ok.mod
theorem Inv.kIn(I:Inv X pins σ H s):X.K.In s.heap:=I.ok.mod.kin.keeps I.bk
theorem Inv.fr(I:Inv X pins σ H s):∃ m,Fr X.base X.env.locals s.heap m:=
  let ⟨m,hn,_⟩:=I.loc
  ⟨m,hn,I.bk,Nat.le_trans I.ok.bsz I.ok.above⟩
theorem Inv.lt(I:Inv X pins σ H s):X.env.locals < s.heap.objs.size:=let ⟨_,hn,_⟩:=I.loc;hn.lt
theorem Inv.sz(I:Inv X pins σ H s):X.s₀.heap.objs.size <= s.heap.objs.size:=Nat.le_trans I.ok.above (Nat.le_of_lt I.lt)
theorem Inv.nofs(I:Inv X pins σ H s){a:Addr}(h:s.heap.objs.size <= a):a ∉ X.fs:=λ hb=>by
  obtain⟨_,o,ho,_⟩:=I.ok.funs.mem hb
  exact absurd (Nat.lt_of_lt_of_le (Heap.lt_size ho) (Nat.le_trans I.sz h)) (Nat.lt_irrefl _)
theorem Inv.cne(I:Inv X pins σ H s):∀ x c,X.env.cells.lookup x=some c->c ≠ X.env.locals:=λ x c e z=>by
  obtain⟨v,o,ho,hd⟩:=I.cell x c e
  obtain⟨m,⟨o',es,ep,ho',hd',_⟩,_⟩:=I.loc
  rw[z,ho']at ho;cases ho;rw[hd']at hd;cases hd
theorem Inv.funs(I:Inv X pins σ H s):s.heap.FunFrames X.base X.outer:=by
  have all:∀ (l:List Env),(∀ b ∈ frs l,b ∈ X.fs)->X.s₀.heap.FunFrames X.base l->s.heap.FunFrames X.base l:=by
    intro l
    induction l with
    | nil=>intro _ _;trivial
    | cons env r ih=>
      intro hs hl
      obtain⟨hk,⟨L,o,hf,hn,ho,hd⟩,hr⟩:=hl
      have hL:L ∈ X.fs:=hs L (by unfold frs;rw[List.filterMap_cons,hf];exact List.mem_cons_self)
      obtain⟨sl,e⟩:=I.base.slot L o ho (I.ok.frf L hL) hL λ z=>I.ok.exfs L z hL
      exact⟨hk,⟨L,_,hf,hn,e,hd⟩,ih (λ b hb=>hs b (by unfold frs;rw[List.filterMap_cons,hf];exact List.mem_cons_of_mem _ hb)) hr⟩
  exact all X.outer (λ _ hb=>hb) I.ok.funs
theorem Inv.stack(I:Inv X pins σ H s):s.heap.FunFrames X.base X.stack:=by
  rcases I.ok.stk with e|⟨e,hf⟩
  . rw[e];exact I.funs
  . rw[e]
    obtain⟨m,hn,_⟩:=I.loc
    refine .cons (by rw[I.ok.kind];decide) hf hn ?_ I.funs
    exact Heap.get?_none_of_le (Nat.le_trans I.ok.bsz I.ok.above)
theorem Inv.stkSub(I:Inv X pins σ H s):∀ b ∈ frs X.stack,b ∈ X.env.locals :: X.fs:=λ b hb=>by
  rcases I.ok.stk with e|⟨e,hf⟩
  . rw[e]at hb;exact List.mem_cons_of_mem _ hb
  . rw[e]at hb
    unfold frs at hb
    rw[List.filterMap_cons,hf]at hb
    exact hb
theorem Inv.stkFree(I:Inv X pins σ H s):∀ b ∈ frs X.stack,H b=none:=λ b hb=>by
  rcases List.mem_cons.mp (I.stkSub b hb)with e|hb
  . rw[e];exact I.free
  . obtain⟨_,o,ho,_⟩:=I.ok.funs.mem hb
    exact I.base.free b o ho (I.ok.frf b hb) λ z=>I.ok.exfs b z hb
theorem Inv.step{g':Array GenState}{t':Nat}{d':Drawn}{ch:List Addr}(I:Inv X pins σ H s)
    (hch:∀ b ∈ ch,(b ∈ X.ex ∨ X.s₀.heap.objs.size <= b)/\b ≠ X.env.locals/\(∀ x c,X.env.cells.lookup x=some c->c ≠ b)/\∀ p ∈ X.pn ++ pins,p.1 ≠ b)
    (keep:∀ b o,b ≠ X.env.locals->b ∉ X.fs->b ∉ ch->s.heap.get? b=some o->H b=none->h'.get? b=some o)
    (slot:∀ b o,b ≠ X.env.locals->b ∈ X.fs->b ∉ ch->s.heap.get? b=some o->H b=none->∃ sl,h'.get? b=some { o with slots:=sl }) (free:∀ b o,b ∉ ch->s.heap.get? b=some o->H b=none->H' b=none)
    (there:∀ b o,b ∉ ch->s.heap.get? b=some o->∃ o',h'.get? b=some o')
    (tups:∀ b xs,H b=some (.tup xs)->H' b=some (.tup xs)) (frzs:∀ b o u,H b=some (.frz o u)->H' b=some (.frz o u)) (tbls:∀ b ps,H b=some (.tbl ps)->∃ more,H' b=some (.tbl (ps ++ more)))
    (ns:∀ m,s.heap.Ns X.env.locals m->h'.Ns X.env.locals m) (hok:HOk X.prog X.w H' h') (hg:AllBare g') :
    Inv X pins σ H' { s with heap:=h',gens:=g',drawn:=d',toks:=t' }:=by
  have neL:∀ b o,X.s₀.heap.get? b=some o->b ≠ X.env.locals:=λ b o e=>Nat.ne_of_lt (Nat.lt_of_lt_of_le (Heap.lt_size e) I.ok.above)
  have neC:∀ b o,X.s₀.heap.get? b=some o->b ∉ X.ex->b ∉ ch:=λ b o e hx hb=>by
    rcases(hch b hb).1 with z|z
    . exact hx z
    . exact absurd (Nat.lt_of_lt_of_le (Heap.lt_size e) z) (Nat.lt_irrefl _)
  have cellK:∀ x c,X.env.cells.lookup x=some c->∀ v,s.heap.IsCell c v->h'.IsCell c v:=λ x c e v ⟨o,ho,hd⟩=>by
    have nch:c ∉ ch:=λ z=>(hch c z).2.2.1 x c e rfl
    by_cases hc:c ∈ X.fs
    . obtain⟨sl,q⟩:=slot c o (I.cne x c e) hc nch ho (I.freeC x c e)
      exact⟨_,q,hd⟩
    . exact⟨o,keep c o (I.cne x c e) hc nch ho (I.freeC x c e),hd⟩
  refine⟨I.ok,I.os,hg,⟨λ b o e n hb hx=>?_,λ b o e n hb hx=>?_,λ b o e n hx=>?_,λ b o e hx=>?_,λ b xs e=>tups b xs (I.base.tups b xs e),λ b o xs e=>frzs b o xs (I.base.frzs b o xs e),λ b ps e=>?_⟩,?_,λ x c e=>?_,?_,λ x c e=>?_,λ p hp=>?_,hok,I.len⟩
  . exact keep b o (neL b o e) hb (neC b o e hx) (I.base.keep b o e n hb hx) (I.base.free b o e n hx)
  . obtain⟨sl,e1⟩:=I.base.slot b o e n hb hx
    obtain⟨sl',e2⟩:=slot b _ (neL b o e) hb (neC b o e hx) e1 (I.base.free b o e n hx)
    exact⟨sl',e2⟩
  . obtain⟨o',e1⟩:=I.base.there b o e hx
    exact free b o' (neC b o e hx) e1 (I.base.free b o e n hx)
  . obtain⟨o',e1⟩:=I.base.there b o e hx
    exact there b o' (neC b o e hx) e1
  . obtain⟨m1,e1⟩:=I.base.tbls b ps e
    obtain⟨m2,e2⟩:=tbls b _ e1
    exact⟨m1 ++ m2,by rw[e2,Array.append_assoc]⟩
  . obtain⟨m,hn,hl⟩:=I.loc
    refine⟨m,ns m hn,λ i x v e1 e2 e3=>?_⟩
    obtain⟨u,r,l⟩:=hl i x v e1 e2 e3
    refine⟨u,r,?_⟩
    rcases l with l|⟨k,c,e,z⟩
    . exact .inl l
    . exact .inr ⟨k,c,e,cellK x c e _ z⟩
  . obtain⟨v,z⟩:=I.cell x c e
    exact⟨v,cellK x c e v z⟩
  . obtain⟨m,⟨o,_,_,ho,_⟩,_⟩:=I.loc
    exact free _ o (λ z=>(hch _ z).2.1 rfl) ho I.free
  . obtain⟨v,o,ho,hd⟩:=I.cell x c e
    exact free c o (λ z=>(hch c z).2.2.1 x c e rfl) ho (I.freeC x c e)
  . obtain⟨e,n,ne,nf,d⟩:=I.pin p hp
    have nch:p.1 ∉ ch:=λ z=>(hch p.1 z).2.2.2 p hp rfl
    exact⟨keep p.1 p.2 ne nf nch e n,free p.1 p.2 nch e n,ne,nf,d⟩
theorem Inv.un{t':Nat}(I:Inv X pins σ H s)(u:Un X.fs [] H H' s.heap h')(hok:HOk X.prog X.w H' h'):Inv X pins σ H' { s with heap:=h',toks:=t' }:=by
  obtain⟨m,⟨o,es,ep,ho,r⟩,_⟩:=id I.loc
  obtain⟨sl,hL⟩:=u.any ho I.free (by simp)
  exact I.step (g':=s.gens) (d':=s.drawn) (ch:=[]) (λ _ z=>nomatch z) (λ b o _ hb _ e n=>u.keep b o e n hb (by simp)) (λ b o _ hb _ e n=>u.slot b o e n hb (by simp)) (λ b o _ e n=>u.free b o e n (by simp)) (λ b o _ e=>u.there b o e (by simp)) u.tups u.frzs u.tbls (λ m' hm=>by
    obtain⟨o',es',ep',ho',r'⟩:=hm
    rw[ho]at ho';cases ho'
    exact⟨_,es',ep',hL,r'⟩) hok I.bare
theorem Inv.call{g':Array GenState}{t':Nat}{d':Drawn}{ch:List Addr}(I:Inv X pins σ H s)(u:Un (frs X.stack) ch H H' s.heap h')(hok:HOk X.prog X.w H' h')(hg:AllBare g')
    (hch:∀ b ∈ ch,(b ∈ X.ex ∨ X.s₀.heap.objs.size <= b)/\b ≠ X.env.locals/\(∀ x c,X.env.cells.lookup x=some c->c ≠ b)/\∀ p ∈ X.pn ++ pins,p.1 ≠ b) :
    Inv X pins σ H' { s with heap:=h',gens:=g',drawn:=d',toks:=t' }:=by
  obtain⟨m,⟨o,es,ep,ho,r⟩,_⟩:=id I.loc
  obtain⟨sl,hL⟩:=u.any ho I.free λ z=>(hch _ z).2.1 rfl
  exact I.step (ch:=ch) hch (λ b o hL hb hc e n=>u.keep b o e n (λ z=>(List.mem_cons.mp (I.stkSub b z)).elim hL hb) hc) (λ b o _ _ hc e n=>u.any e n hc) (λ b o hc e n=>u.free b o e n hc) (λ b o hc e=>u.there b o e hc) u.tups u.frzs u.tbls (λ m' hm=>by
    obtain⟨o',es',ep',ho',r'⟩:=hm
    rw[ho]at ho';cases ho'
    exact⟨_,es',ep',hL,r'⟩) hok hg
theorem Inv.turned{t':Nat}{it:Addr}(I:Inv X pins σ H s)(k:∀ b o,b ≠ it->s.heap.get? b=some o->h'.get? b=some o)(hn:H it=none)(hL:it ≠ X.env.locals)
    (h1:it ∈ X.ex ∨ X.s₀.heap.objs.size <= it) (h2:∀ x c,X.env.cells.lookup x=some c->c ≠ it) (h3:∀ p ∈ X.pn ++ pins,p.1 ≠ it):Inv X pins σ H { s with heap:=h',toks:=t' }:=by
  have nit:∀ b u,H b=some u->b ≠ it:=λ b u e z=>by rw[z,hn]at e;cases e
  refine I.step (g':=s.gens) (d':=s.drawn) (ch:=[it]) (λ b hb=>?_) (λ b o _ _ hc e _=>k b o (λ z=>hc (by simp[z])) e) (λ b o _ _ hc e _=>⟨o.slots,k b o (λ z=>hc (by simp[z])) e⟩) (λ _ _ _ _ n=>n)
    (λ b o hc e=>⟨o,k b o (λ z=>hc (by simp[z])) e⟩) (λ _ _ e=>e) (λ _ _ _ e=>e) (λ b ps e=>⟨#[],by rw[e];simp⟩) (λ m hm=>?_) (λ b u e=>?_) I.bare
  . have e:b=it:=by simpa using hb
    subst e
    exact⟨h1,hL,h2,h3⟩
  . obtain⟨o,es,ep,ho,r⟩:=hm
    exact⟨o,es,ep,k _ o (Ne.symm hL) ho,r⟩
  . refine(I.hok b u e).stay (λ c v hc q=>k c v ?_ q) (λ _ q=>q) λ _ _ q=>q
    rcases hc with z|z
    . rw[z];exact nit b u e
    . exact nit c _ z
theorem Inv.tok(I:Inv X pins σ H s)(t:Nat):Inv X pins σ H { s with toks:=t }:=I.un (h':=s.heap) (t':=t) Un.refl I.hok
theorem Inv.kept{t':Nat}(I:Inv X pins σ H s)(k:∀ b u,s.heap.get? b=some u->h'.get? b=some u):Inv X pins σ H { s with heap:=h',toks:=t' }:=I.un (Un.kept k) (I.hok.kept k)
theorem Inv.laid{a:Addr}{o:HO}{t':Nat}(I:Inv X pins σ H s)(k:∀ b u,s.heap.get? b=some u->h'.get? b=some u)(hp:s.heap.objs.size <= a)(new:ObjOk X.prog X.w (upd H a o) h' a o) :
    Inv X pins σ (upd H a o) { s with heap:=h',toks:=t' }:=I.un (Un.laid k hp (I.hok.fresh hp)) (I.hok.laid k hp new)
theorem Inv.write{x e:Addr}{o:HO}{t':Nat}(I:Inv X pins σ H s)(mu:Mut (H x))(he:e=x ∨ H e=some (.own x))(k:∀ b u,b ≠ e->s.heap.get? b=some u->h'.get? b=some u)(heo:∃ u,h'.get? e=some u)
    (new:ObjOk X.prog X.w (upd H x o) h' x o):Inv X pins σ (upd H x o) { s with heap:=h',toks:=t' }:=I.un (Un.write mu he k heo) (I.hok.write mu he k heo new)
theorem Inv.weak{σ':List (Option V)}(I:Inv X pins σ H s)(hl:σ'.length=σ.length)(w:∀ (i:Nat) v,σ'[i]? = some (some v)->σ[i]? = some (some v)):Inv X pins σ' H s:=
  ⟨I.ok,I.os,I.bare,I.base,let ⟨m,hn,hl'⟩:=I.loc;⟨m,hn,λ i x v e1 e2 e3=>hl' i x v e1 (w i v e2) e3⟩,I.cell,I.free,I.freeC,I.pin,I.hok,hl.trans I.len⟩
theorem Inv.pins_of{pins':List (Addr × Obj)}(I:Inv X pins σ H s)(h:∀ p ∈ pins',s.heap.get? p.1=some p.2/\H p.1=none/\p.1 ≠ X.env.locals/\p.1 ∉ X.fs/\∀ v,p.2.data ≠ .cell v):Inv X pins' σ H s:=
  ⟨I.ok,I.os,I.bare,I.base,I.loc,I.cell,I.free,I.freeC,λ p hp=>(List.mem_append.mp hp).elim (λ z=>I.pin p (List.mem_append_left _ z)) (h p),I.hok,I.len⟩
theorem GF{N:List Str}(hN:N.Nodup){i j:Nat}{x:Str}(a:N[i]? = some x)(b:N[j]? = some x):i=j:=by
  obtain⟨h1,e1⟩:=List.getElem?_eq_some_iff.mp a
  obtain⟨h2,e2⟩:=List.getElem?_eq_some_iff.mp b
  exact(List.getElem_inj hN).mp (e1.trans e2.symm)
theorem Hh{M:Model}{A:Around}{E:Value->Shared->Prop}{i:Nat}{x:Str}{v:V}{u:Value}{Q:Unit->Shared->Prop}(I:Inv X pins σ H s)(hN:X.N.Nodup)(hi:X.N[i]? = some x)(hx:Loc X.env.scope x)(r:RelV v u)
    (h:∀ s',Inv X pins (σ.set i (some v)) H s'->(∃ a,Heap.SameBut a s.heap s'.heap/\(a=X.env.locals ∨ X.env.cells.lookup x=some a))->Q () s') (hf:X.fn x=true ∨ X.env.scope.names.lookup x=some .local:=by first|exact .inl rfl|exact .inr rfl|assumption):wpAny M A (storeName X.env x u) Q E s:=by
  obtain⟨m,hn,hl⟩:=id I.loc
  have hcls:(X.env.scope.kind == .class || (X.env.scope.kind == .module && X.env.locals != X.env.globals))=false:=by rw[I.ok.kind];rfl
  have hiσ:i < σ.length:=by rw[I.len];exact(List.getElem?_eq_some_iff.mp hi).1
  have cne:=I.cne
  have tracked:∀ {a:Addr} {h':Heap},(∃ o,s.heap.get? a=some o/\H a=none)->Heap.SameBut a s.heap h'->HOk X.prog X.w H h':=λ {a h'} ha hs b ob e=>by
    obtain⟨_,_,hfree⟩:=ha
    refine(I.hok b ob e).stay (λ c w' hc q=>(hs.2 c ?_).trans q) (λ _ q=>q) λ _ _ q=>q
    rintro rfl
    rcases hc with rfl|hc
    . rw[hfree]at e;cases e
    . rw[hfree]at hc;cases hc
  rcases hx with hk|hk
  . refine wpAny_storeName_local hk hn (λ h' hn' hs=>?_) hcls
    obtain⟨oL,_,_,hoL,_⟩:=id hn
    refine h _ ⟨I.ok,I.os,I.bare,⟨λ b o e n hb hx=>?_,λ b o e n hb hx=>?_,I.base.free,λ b o e hx=>?_,I.base.tups,I.base.frzs,I.base.tbls⟩,⟨_,hn',λ j y v' e1 e2 e3=>?_⟩,λ y c e=>?_,I.free,I.freeC,λ p hp=>?_,tracked ⟨oL,hoL,I.free⟩ hs,by simpa using I.len⟩ ⟨_,hs,.inl rfl⟩
    . exact(hs.2 b (Nat.ne_of_lt (Nat.lt_of_lt_of_le (Heap.lt_size e) I.ok.above))).trans (I.base.keep b o e n hb hx)
    . obtain⟨sl,e1⟩:=I.base.slot b o e n hb hx
      exact⟨sl,(hs.2 b (Nat.ne_of_lt (Nat.lt_of_lt_of_le (Heap.lt_size e) I.ok.above))).trans e1⟩
    . obtain⟨o',e1⟩:=I.base.there b o e hx
      exact⟨o',(hs.2 b (Nat.ne_of_lt (Nat.lt_of_lt_of_le (Heap.lt_size e) I.ok.above))).trans e1⟩
    . by_cases hj:j=i
      . subst hj
        rw[hi]at e1;cases e1
        rw[List.getElem?_set_self hiσ]at e2
        cases e2
        exact⟨u,r,.inl ⟨hk,by simp⟩⟩
      . rw[List.getElem?_set_ne (Ne.symm hj)]at e2
        obtain⟨u',r',q⟩:=hl j y v' e1 e2 e3
        refine⟨u',r',?_⟩
        rcases q with⟨k,e⟩|⟨k,c,e,z⟩
        . refine .inl ⟨k,?_⟩
          have:y ≠ x:=λ e=>hj (GF hN e1 (e ▸ hi))
          simp[this,e]
        . exact .inr ⟨k,c,e,z.sameBut hs (cne y c e)⟩
    . obtain⟨w',z⟩:=I.cell y c e
      exact⟨w',z.sameBut hs (cne y c e)⟩
    . obtain⟨e,n,ne,nf,d⟩:=I.pin p hp
      exact⟨(hs.2 p.1 ne).trans e,n,ne,nf,d⟩
  . have hfn:X.fn x=true:=by
      rcases hf with z|z
      . exact z
      . rw[z]at hk;cases hk
    obtain⟨c,hc⟩:=I.ok.has x (.inl hk)
    obtain⟨w',z⟩:=I.cell x c hc
    refine wpAny_storeName_cell I.ok.kind hk hc z (λ h' hc' hs=>?_)
    obtain⟨oc,hoc,hocd⟩:=id z
    refine h { s with heap:=h' } ⟨I.ok,I.os,I.bare,⟨λ b o e n hb hx=>?_,λ b o e n hb hx=>?_,I.base.free,λ b o e hx=>?_,I.base.tups,I.base.frzs,I.base.tbls⟩,⟨m,hn.sameBut hs (Ne.symm (cne x c hc)),λ j y v' e1 e2 e3=>?_⟩,λ y c' e=>?_,I.free,I.freeC,λ p hp=>?_,tracked ⟨oc,hoc,I.freeC x c hc⟩ hs,by simpa using I.len⟩ ⟨c,hs,.inr hc⟩
    . exact(hs.2 b (Nat.ne_of_lt (Nat.lt_of_lt_of_le (Heap.lt_size e) (I.ok.cab x c hfn hc)))).trans (I.base.keep b o e n hb hx)
    . obtain⟨sl,e1⟩:=I.base.slot b o e n hb hx
      exact⟨sl,(hs.2 b (Nat.ne_of_lt (Nat.lt_of_lt_of_le (Heap.lt_size e) (I.ok.cab x c hfn hc)))).trans e1⟩
    . obtain⟨o',e1⟩:=I.base.there b o e hx
      exact⟨o',(hs.2 b (Nat.ne_of_lt (Nat.lt_of_lt_of_le (Heap.lt_size e) (I.ok.cab x c hfn hc)))).trans e1⟩
    . by_cases hj:j=i
      . subst hj
        rw[hi]at e1;cases e1
        rw[List.getElem?_set_self hiσ]at e2
        cases e2
        exact⟨u,r,.inr ⟨.inl hk,c,hc,hc'⟩⟩
      . rw[List.getElem?_set_ne (Ne.symm hj)]at e2
        obtain⟨u',r',q⟩:=hl j y v' e1 e2 e3
        refine⟨u',r',?_⟩
        rcases q with q|⟨k,c',e,z'⟩
        . exact .inl q
        . refine .inr ⟨k,c',e,z'.sameBut hs ?_⟩
          rintro rfl
          exact hj (GF hN e1 (I.ok.inj _ _ _ e hc ▸ hi))
    . by_cases hcc:c'=c
      . subst hcc;exact⟨_,hc'⟩
      . obtain⟨w2,z2⟩:=I.cell y c' e
        exact⟨w2,z2.sameBut hs hcc⟩
    . obtain⟨e,n,ne,nf,d⟩:=I.pin p hp
      refine⟨(hs.2 p.1 ?_).trans e,n,ne,nf,d⟩
      intro q
      rw[q,hoc]at e
      have q':oc=p.2:=Option.some.inj e
      exact d w' (by rw[<- q'];exact hocd)
theorem Bw{M:Model}{A:Around}{E:Value->Shared->Prop}{i:Nat}{x:Str}{v:V}{u:Value}{Q:Unit->Shared->Prop}(I:Inv X pins σ H s)(hN:X.N.Nodup)(hi:X.N[i]? = some x)(hx:Loc X.env.scope x)(r:RelV v u)
    (h:∀ s',Inv X pins (σ.set i (some v)) H s'->Q () s') (hf:X.fn x=true ∨ X.env.scope.names.lookup x=some .local:=by first|exact .inl rfl|exact .inr rfl|assumption):wpAny M A (storeName X.env x u) Q E s:=
  Hh I hN hi hx r (λ s' I' _=>h s' I') hf
theorem Inv.call'{s':Shared}{ch:List Addr}(I:Inv X pins σ H s)(ho:s'.os=s.os)(u:Un (frs X.stack) ch H H' s.heap s'.heap)(hok:HOk X.prog X.w H' s'.heap)(hg:AllBare s'.gens)
    (hch:∀ b ∈ ch,(b ∈ X.ex ∨ X.s₀.heap.objs.size <= b)/\b ≠ X.env.locals/\(∀ x c,X.env.cells.lookup x=some c->c ≠ b)/\∀ p ∈ X.pn ++ pins,p.1 ≠ b):Inv X pins σ H' s':=by
  obtain⟨h',g',d',t',o'⟩:=s'
  have e:o'=s.os:=ho
  subst e
  exact I.call (g':=g') (t':=t') (d':=d') u hok hg hch
end
noncomputable abbrev XK:=Value->Option Addr->Hp->Prop
noncomputable abbrev St:=List (Option V)
noncomputable abbrev VK:=V->Hp->Prop
noncomputable abbrev TE:=St->Hp->VK->Prop
noncomputable abbrev TT:=St->Hp->(Bool->Hp->Prop)->Prop
noncomputable abbrev TA:=St->Hp->(List V->Hp->Prop)->Prop
structure Ends where
  nx:St->Hp->Prop
  rt:VK
  bk:St->Hp->Prop:=λ _ _=>False
  ct:St->Hp->Prop:=λ _ _=>False
noncomputable abbrev TS:=Ends->St->Hp->Prop
noncomputable def EP(X:Cx)(pins:List (Addr × Obj))(σ:St)(Q:VK)(u:Value)(s':Shared):Prop:=∃ v H',Inv X pins σ H' s'/\RelV v u/\Q v H'
noncomputable def TP(X:Cx)(pins:List (Addr × Obj))(σ:St)(Q:Bool->Hp->Prop)(b:Bool)(s':Shared):Prop:=∃ H',Inv X pins σ H' s'/\Q b H'
noncomputable def AP(X:Cx)(pins:List (Addr × Obj))(σ:St)(Q:List V->Hp->Prop)(us:List Value)(s':Shared):Prop:=∃ vs H',Inv X pins σ H' s'/\Vals vs us/\Q vs H'
noncomputable def SP(X:Cx)(pins:List (Addr × Obj))(D:Ends)(f:Flow)(s':Shared):Prop:=
  match f with
  | .next=>∃ σ' H',Inv X pins σ' H' s'/\D.nx σ' H'
  | .brk=>∃ σ' H',Inv X pins σ' H' s'/\D.bk σ' H'
  | .cont=>∃ σ' H',Inv X pins σ' H' s'/\D.ct σ' H'
  | .ret u=>∃ v σ' H',Inv X pins σ' H' s'/\RelV v u/\D.rt v H'
noncomputable def PE(X:Cx)(e:Expr)(t:TE):Prop:=
  ∀ (pins:List (Addr × Obj)) (s:Shared) (σ:St) (H:Hp) (Q:VK),Inv X pins σ H s->t σ H Q->wpAny (model X.prog X.w) X.A (eval e X.env) (EP X pins σ Q) X.xe s
noncomputable def PT(X:Cx)(e:Expr)(t:TT):Prop:=
  ∀ (pins:List (Addr × Obj)) (s:Shared) (σ:St) (H:Hp) (Q:Bool->Hp->Prop),Inv X pins σ H s->t σ H Q->wpAny (model X.prog X.w) X.A (isTrue e X.env (eval e X.env)) (TP X pins σ Q) X.xe s
noncomputable def PW(X:Cx)(e:Expr)(t:TT):Prop:=
  ∀ (whole:Sem Value) (pins:List (Addr × Obj)) (s:Shared) (σ:St) (H:Hp) (Q:Bool->Hp->Prop),Inv X pins σ H s->t σ H Q->wpAny (model X.prog X.w) X.A (isTrue e X.env whole) (TP X pins σ Q) X.xe s
theorem PW.pt{X:Cx}{e:Expr}{t:TT}(h:PW X e t):PT X e t:=h _
noncomputable def PA(X:Cx)(es:List Expr)(t:TA):Prop:=
  ∀ (pos:Pos) (pins:List (Addr × Obj)) (s:Shared) (σ:St) (H:Hp) (Q:List V->Hp->Prop),Inv X pins σ H s->t σ H Q->wpAny (model X.prog X.w) X.A (spliced (backTo pos (starEach es X.env))) (AP X pins σ Q) X.xe s
noncomputable def PS(X:Cx)(st:Stmt)(t:TS):Prop:=
  ∀ (pins:List (Addr × Obj)) (s:Shared) (σ:St) (H:Hp) (D:Ends),Inv X pins σ H s->t D σ H->wpAny (model X.prog X.w) X.A (exec st X.env) (SP X pins D) X.xe s
noncomputable def PSs(X:Cx)(st:List Stmt)(t:TS):Prop:=
  ∀ (pins:List (Addr × Obj)) (s:Shared) (σ:St) (H:Hp) (D:Ends),Inv X pins σ H s->t D σ H->wpAny (model X.prog X.w) X.A (execs st X.env) (SP X pins D) X.xe s
theorem thn{α:Type}{t:Sem α}{Q Q':α->Shared->Prop}{M:Model}{A:Around}{E:Value->Shared->Prop}{s:Shared}(h:wpAny M A t Q E s)(hQ:∀ a s,Q a s->Q' a s):wpAny M A t Q' E s:=wpAny_mono h hQ λ _ _ x=>x
end L2
namespace L2
open PySem PySem.Spec PyProof.Rows
section
variable{X:Cx}
theorem bin{a b:Expr}{ta tb:TE}(ha:PE X a ta)(hb:PE X b tb){pins:List (Addr × Obj)}{s:Shared}{σ:St}{H:Hp}{R:V->V->Hp->Prop}(I:Inv X pins σ H s)(h:ta σ H λ x H1=>tb σ H1 λ y H2=>R x y H2)
    {α:Type} {Q:α->Shared->Prop} {f:Value->Value->Sem α}
    (hf:∀ v u s2 x y H2,Inv X pins σ H2 s2->RelV x v->RelV y u->R x y H2->wpAny (model X.prog X.w) X.A (f v u) Q X.xe s2) :
    wpAny (model X.prog X.w) X.A (eval a X.env) (λ v s₁=>wpAny (model X.prog X.w) X.A (eval b X.env) (λ u s₂=>wpAny (model X.prog X.w) X.A (f v u) Q X.xe s₂) X.xe s₁) X.xe s:=by
  refine thn (ha pins s σ H _ I h) λ v s1 ⟨x,H1,I1,r1,q1⟩=>?_
  refine thn (hb pins s1 σ H1 _ I1 q1) λ u s2 ⟨y,H2,I2,r2,q2⟩=>?_
  exact hf v u s2 x y H2 I2 r1 r2 q2
noncomputable def KW(i:Nat):TE:=λ σ H Q=>∃ v,σ[i]? = some (some v)/\Q v H
noncomputable def tC(v:V):TE:=λ _ H Q=>Q v H
theorem EO{i:Nat}{x:Str}{pos:Pos}(hN:X.N[i]? = some x)(hv:Vis X.env.scope x)(hd:(x == ("__debug__":Str))=false:=by decide)(hcd:(x == ("__classdict__":Str))=false:=by decide):PE X (.Name x pos) (KW i):=by
  intro pins s σ H Q I h
  obtain⟨v,e,h⟩:=h
  obtain⟨m,hn,hl⟩:=I.loc
  obtain⟨u,r,l⟩:=hl i x v hN e hv
  have fin:EP X pins σ Q u s:=⟨v,H,I,r,h⟩
  rcases l with⟨hk,hm⟩|⟨hk,c,hc,hcell⟩
  . exact wpAny_Name (wpAny_loadName_local I.ok.kind hk hn hm fin) hd
  . rcases hk with hk|hk
    . exact wpAny_Name (wpAny_loadName_cell I.ok.kind hk hc hcell fin) hd
    . exact wpAny_Name (wpAny_loadName_free I.ok.kind hk hc hcell fin hcd) hd
theorem Sa{i j pos}:PE X (.Constant (.int i) j pos) (tC (.int i)):=λ _ _ _ H _ I h=>wpAny_Constant_int ⟨.int i,H,I.tok _,⟨_,rfl⟩,h⟩
theorem Tu{b j pos}:PE X (.Constant (.bool b) j pos) (tC (.bl b)):=λ _ _ _ H _ I h=>Constant_bool ⟨.bl b,H,I,rfl,h⟩
theorem SY{j pos}:PE X (.Constant .none j pos) (tC .non):=λ _ _ _ H _ I h=>Constant_none ⟨.non,H,I,rfl,h⟩
theorem M3{x j pos}:PE X (.Constant (.str x) j pos) (tC (.str x)):=λ _ _ _ H _ I h=>Calls.Constant_str ⟨.str x,H,I.tok _,⟨_,rfl⟩,h⟩
noncomputable def Gl(X:Cx)(x:Str):Prop:=X.env.kindOf x=some .globalImplicit
theorem EV{E:Value->Shared->Prop}{pins:List (Addr × Obj)}{s:Shared}{σ:St}{H:Hp}{x:Str}{u:Value}{pos:Pos}{Q:Value->Shared->Prop}(I:Inv X pins σ H s)(hg:Gl X x)(hm:X.mg x=some u)(h:Q u s)
    (hd:(x == ("__debug__":Str))=false:=by decide):wpAny (model X.prog X.w) X.A (eval (.Name x pos) X.env) Q E s:=
  Calls.Name_function_global I.ok.kind hg (Calls.loadGlobal_global (by rw[I.ok.glob];exact I.mod.glob.keeps I.bk) hm h) hd
theorem FS{E:Value->Shared->Prop}{pins:List (Addr × Obj)}{s:Shared}{σ:St}{H:Hp}{x:Str}{u:Value}{pos:Pos}{Q:Value->Shared->Prop}(I:Inv X pins σ H s)(hg:Gl X x)(hm:X.mg x=none)(hv:bootBuiltins x=some u)(h:Q u s)
    (hn:x ≠ "__name__":=by decide) (hd:(x == ("__debug__":Str))=false:=by decide):wpAny (model X.prog X.w) X.A (eval (.Name x pos) X.env) Q E s:=by
  obtain⟨mb,h1,h2⟩:=I.mod.blt
  exact Calls.Name_function_global I.ok.kind hg (Calls.loadGlobal_builtin (by rw[I.ok.glob];exact I.mod.glob.keeps I.bk) hm (by rw[I.ok.blt];exact h1.keeps I.bk) ((h2 x hn).trans hv) h) hd
theorem K0{x:Str}{v:V}{u:Value}{pos:Pos}(hg:Gl X x)(hm:X.mg x=some u)(r:RelV v u)(hd:(x == ("__debug__":Str))=false:=by decide):PE X (.Name x pos) (tC v):=
  λ _ _ _ H _ I h=>EV I hg hm ⟨v,H,I,r,h⟩ hd
variable{a b:Expr}{ta tb:TE}{pos:Pos}
noncomputable def PC(X:Cx)(op:CmpOp)(a b:Expr)(t:TE):Prop:=
  ∀ (pins:List (Addr × Obj)) (s:Shared) (σ:St) (H:Hp) (Q:VK),Inv X pins σ H s->t σ H Q ->
    wpAny (model X.prog X.w) X.A (eval a X.env) (λ v s₁=>wpAny (model X.prog X.w) X.A (eval b X.env) (λ u s₂=>wpAny (model X.prog X.w) X.A (compareOp op v u) (EP X pins σ Q) X.xe s₂) X.xe s₁) X.xe s
theorem Nl(b:Expr){op:CmpOp}(h:op ≠ .In)(h2:op ≠ .NotIn):behindInMarks op b=false:=by
  have e1:(op == CmpOp.In)=false:=by cases op <;> first|rfl|exact absurd rfl h
  have e2:(op == CmpOp.NotIn)=false:=by cases op <;> first|rfl|exact absurd rfl h2
  cases b <;> simp[behindInMarks,e1,e2]
noncomputable def N3(ta:TE):TE:=λ σ H Q=>ta σ H λ x H1=>Q (.bl (decide (x=.non))) H1
theorem RelV.none_iff{x:V}{v:Value}(r:RelV x v):(v == Value.none)=decide (x=.non):=by
  cases x with
  | non=>cases r;rfl
  | bl _=>cases r;rfl
  | int _=>obtain⟨t,rfl⟩:=r;rfl
  | str _=>obtain⟨t,rfl⟩:=r;rfl
  | byt _=>obtain⟨t,rfl⟩:=r;rfl
  | flt _=>obtain⟨t,rfl⟩:=r;rfl
  | ref _=>cases r;rfl
  | ty _=>cases r;rfl
theorem Sc{j pos'}(ha:PE X a ta):PC X .Is a (.Constant .none j pos') (N3 ta):=by
  intro pins s σ H Q I h
  refine thn (ha pins s σ H _ I h) λ v s1 ⟨x,H1,I1,r1,q1⟩=>?_
  exact Constant_none (is_none_gen ⟨.bl _,H1,I1,by rw[r1.none_iff];rfl,q1⟩)
noncomputable def tB(t:TE):TT:=λ σ H Q=>t σ H λ x H1=>∃ c,x=.bl c/\Q c H1
theorem SI{op:CmpOp}{t:TE}(h:PC X op a b t)(h1:behindInMarks op b=false:=by first|exact Nl _ (by decide) (by decide)|rfl):PT X (.Compare a [op] [b] pos) (tB t):=by
  intro pins s σ H Q I hw
  refine wpAny_isTrue_Compare1 (thn (h pins s σ H _ I hw) λ v s1 h1=>thn h1 λ u s2 h2=>thn h2 λ c s3 ⟨x,H1,I1,r1,q1⟩=>?_) h1
  obtain⟨d,rfl,q⟩:=q1
  cases r1
  exact wpAny_truthy_bool ⟨H1,I1,q⟩
theorem J4{e:Expr}{t:TE}(h:PE X e t)(he:∀ whole,isTrue e X.env whole=(do let v <- whole;standAt e.pos;holding [v] (truthy v)):=by intro _;rfl):PT X e (tB t):=by
  intro pins s σ H Q I hw
  refine isTrue_plain (thn (h pins s σ H _ I hw) λ v s1 ⟨x,H1,I1,r1,q1⟩=>?_) (he _)
  obtain⟨d,rfl,q⟩:=q1
  cases r1
  exact wpAny_truthy_bool ⟨H1,I1,q⟩
variable{tA tB':TT}{rest:List Expr}
noncomputable def N5(t u:TT):TT:=λ σ H Q=>t σ H λ c H1=>if c=true then u σ H1 Q else Q false H1
noncomputable def UR(t:TT):TT:=λ σ H Q=>t σ H λ c H1=>Q (!c) H1
theorem Jw(ha:PT X a tA):PW X (.BoolOp .And [a] pos) tA:=by
  intro wh pins s σ H Q I h
  refine isTrue_and (thn (ha pins s σ H Q I h) λ c s1 e=>?_)
  cases c with
  | true=>exact isTrue_and_nil e
  | false=>exact e
theorem J3(ha:PT X a tA)(hb:PW X (.BoolOp .And (b :: rest) pos) tB'):PW X (.BoolOp .And (a :: b :: rest) pos) (N5 tA tB'):=by
  intro wh pins s σ H Q I h
  refine isTrue_and (thn (ha pins s σ H _ I h) λ c s1 ⟨H1,I1,q1⟩=>?_)
  cases c with
  | true=>exact hb wh pins s1 σ H1 Q I1 q1
  | false=>exact⟨H1,I1,q1⟩
theorem SH(ha:PT X a tA):PT X (.UnaryOp .Not a pos) (UR tA):=by
  intro pins s σ H Q I h
  exact isTrue_not (ha pins s σ H (λ c H1=>Q (!c) H1) I h)
noncomputable def Ke(ta tb:TE):TE:=λ σ H Q=>ta σ H λ x H1=>∃ c,x=.bl c/\if c=true then tb σ H1 Q else Q (.bl false) H1
theorem SX{op}{t:TE}(h:PE X a t):PE X (.BoolOp op [a] pos) t:=λ pins s σ H Q I hw=>BoolOp_one (h pins s σ H Q I hw)
theorem Sb(ha:PE X a ta)(hb:PE X (.BoolOp .And (b :: rest) pos) tb):PE X (.BoolOp .And (a :: b :: rest) pos) (Ke ta tb):=by
  intro pins s σ H Q I h
  refine BoolOp_and (thn (ha pins s σ H _ I h) λ v s1 ⟨x,H1,I1,r1,q1⟩=>?_)
  obtain⟨c,rfl,q1⟩:=q1
  cases r1
  refine wpAny_truthy_bool ?_
  cases c with
  | true=>exact hb pins s1 σ H1 Q I1 q1
  | false=>exact⟨.bl false,H1,I1,rfl,q1⟩
noncomputable def tIf(t:TT)(ta tb:TE):TE:=λ σ H Q=>t σ H λ c H1=>if c=true then ta σ H1 Q else tb σ H1 Q
theorem Nh{c:Expr}(hc:PT X c tA)(ha:PE X a ta)(hb:PE X b tb):PE X (.IfExp c a b pos) (tIf tA ta tb):=by
  intro pins s σ H Q I h
  refine wpAny_IfExp (thn (hc pins s σ H _ I h) λ d s1 ⟨H1,I1,q1⟩=>?_)
  cases d with
  | true=>exact ha pins s1 σ H1 Q I1 q1
  | false=>exact hb pins s1 σ H1 Q I1 q1
end
end L2
namespace L2
open PySem PySem.Spec PyProof.Rows
noncomputable def SqL(K:PySem.W.Frag)(H:Hp)(a:Addr)(xs:List V):Prop:=
  Rd H a (.lst xs) ∨
    ∃ (o:Obj) (its:Array Value) (n:Nat),K.lookup a=some o/\o.cls=.type "list"/\o.dict=none/\o.data=.seq its n/\its.size <= sizeLine/\Vals xs its.toList
noncomputable def SqT(K:PySem.W.Frag)(H:Hp)(a:Addr)(xs:List V):Prop:=
  Rd H a (.tup xs) ∨
    ∃ (o:Obj) (its:Array Value) (n:Nat),K.lookup a=some o/\o.cls=.type "tuple"/\o.dict=none/\o.data=.seq its n/\its.size <= sizeLine/\Vals xs its.toList
noncomputable def Uj:Value->Option V
  | .none=>some .non
  | .bool b=>some (.bl b)
  | .int i _=>some (.int i)
  | .str x _=>some (.str x)
  | .bytes b _=>some (.byt b)
  | .float b _=>some (.flt b)
  | .ref a=>some (.ref a)
  | .type n=>some (.ty n)
  | _=>none
theorem RelV.abs{x:V}{u:Value}(r:RelV x u):Uj u=some x:=by
  cases x with
  | non=>cases r;rfl
  | bl _=>cases r;rfl
  | int _=>obtain⟨t,rfl⟩:=r;rfl
  | str _=>obtain⟨t,rfl⟩:=r;rfl
  | byt _=>obtain⟨t,rfl⟩:=r;rfl
  | flt _=>obtain⟨t,rfl⟩:=r;rfl
  | ref _=>cases r;rfl
  | ty _=>cases r;rfl
theorem RelV.inj{x y:V}{u:Value}(r:RelV x u)(q:RelV y u):x=y:=Option.some.inj (r.abs.symm.trans q.abs)
theorem Vals.inj:∀ {xs ys:List V} {us:List Value},Vals xs us->Vals ys us->xs=ys
  | _,_,_,.nil,.nil=>rfl
  | _,_,_,.cons r t,.cons r' t'=>by rw[r.inj r',Vals.inj t t']
section
variable{X:Cx}{pins:List (Addr × Obj)}{σ:St}{H:Hp}{s:Shared}{a:Addr}{xs ys:List V}
theorem SqL.of{K:PySem.W.Frag}(h:H a=some (.lst xs)):SqL K H a xs:=.inl (.inl h)
theorem SqT.of{K:PySem.W.Frag}(h:H a=some (.tup xs)):SqT K H a xs:=.inl (.inl h)
theorem Inv.list(I:Inv X pins σ H s)(h:SqL X.K H a xs):∃ its:List Value,Vals xs its/\PlainL s.heap a its.toArray/\xs.length <= sizeLine:=by
  rcases h with h|⟨o,its,n,hk,hc,hd,hs,hz,r⟩
  . obtain⟨z,its,n,r,e⟩:=h.ok I.hok
    exact⟨its,r,⟨_,n,e,rfl,rfl,rfl⟩,z⟩
  . refine⟨its.toList,r,⟨o,n,I.kIn a o hk,hc,hd,by simpa using hs⟩,?_⟩
    have e:=r.length
    simp only[Array.length_toList]at e
    omega
theorem Inv.tuple(I:Inv X pins σ H s)(h:SqT X.K H a xs):∃ its:List Value,Vals xs its/\IsTup s.heap a its.toArray/\xs.length <= sizeLine:=by
  rcases h with h|⟨o,its,n,hk,hc,_,hs,hz,r⟩
  . obtain⟨z,its,r,p⟩:=h.ok I.hok
    exact⟨its,r,p.t,z⟩
  . refine⟨its.toList,r,⟨o,I.kIn a o hk,hc,n,by simpa using hs⟩,?_⟩
    have e:=r.length
    simp only[Array.length_toList]at e
    omega
theorem Inv.list_inj(I:Inv X pins σ H s)(h:SqL X.K H a xs)(h':SqL X.K H a ys):xs=ys:=by
  obtain⟨its,r,⟨o,n,e,_,_,d⟩,_⟩:=I.list h
  obtain⟨its',r',⟨o',n',e',_,_,d'⟩,_⟩:=I.list h'
  rw[e]at e';cases e'
  rw[d]at d'
  injection d' with d1 _
  have:its=its':=by simpa using congrArg Array.toList d1
  subst this
  exact r.inj r'
theorem Inv.tuple_inj(I:Inv X pins σ H s)(h:SqT X.K H a xs)(h':SqT X.K H a ys):xs=ys:=by
  obtain⟨its,r,⟨o,e,_,n,d⟩,_⟩:=I.tuple h
  obtain⟨its',r',⟨o',e',_,n',d'⟩,_⟩:=I.tuple h'
  rw[e]at e';cases e'
  rw[d]at d'
  injection d' with d1 _
  have:its=its':=by simpa using congrArg Array.toList d1
  subst this
  exact r.inj r'
end
noncomputable abbrev Cx.wish(X:Cx)(E:Value->Shared->Prop):Cx:={ X with xe:=E }
noncomputable abbrev Cx.nox(X:Cx):Cx:=X.wish λ _ _=>False
theorem Cx.Ok.wish{X:Cx}(ok:X.Ok)(E:Value->Shared->Prop):(X.wish E).Ok:=
  ⟨ok.mod,ok.kind,ok.glob,ok.blt,ok.above,ok.inj,ok.has,ok.cab,ok.hd,ok.frames,ok.stk,ok.exf,ok.bs,ok.bsz,ok.noex,ok.exfs,ok.funs,ok.frf⟩
theorem Cx.Ok.unwish{X:Cx}{E:Value->Shared->Prop}(ok:(X.wish E).Ok):X.Ok:=
  ⟨ok.mod,ok.kind,ok.glob,ok.blt,ok.above,ok.inj,ok.has,ok.cab,ok.hd,ok.frames,ok.stk,ok.exf,ok.bs,ok.bsz,ok.noex,ok.exfs,ok.funs,ok.frf⟩
section
variable{X:Cx}{pins:List (Addr × Obj)}{σ:St}{H:Hp}{s:Shared}{E:Value->Shared->Prop}
theorem Inv.wish(I:Inv X pins σ H s)(E:Value->Shared->Prop):Inv (X.wish E) pins σ H s:=⟨I.ok.wish E,I.os,I.bare,I.base,I.loc,I.cell,I.free,I.freeC,I.pin,I.hok,I.len⟩
theorem Inv.unwish(I:Inv (X.wish E) pins σ H s):Inv X pins σ H s:=⟨I.ok.unwish,I.os,I.bare,I.base,I.loc,I.cell,I.free,I.freeC,I.pin,I.hok,I.len⟩
theorem SP.unwish{D:Ends}{f:Flow}{s':Shared}(h:SP (X.wish E) pins D f s'):SP X pins D f s':=by
  cases f with
  | next=>obtain⟨σ',H',I,q⟩:=h;exact⟨σ',H',I.unwish,q⟩
  | brk=>obtain⟨σ',H',I,q⟩:=h;exact⟨σ',H',I.unwish,q⟩
  | cont=>obtain⟨σ',H',I,q⟩:=h;exact⟨σ',H',I.unwish,q⟩
  | ret u=>obtain⟨v,σ',H',I,r,q⟩:=h;exact⟨v,σ',H',I.unwish,r,q⟩
theorem PSs.nox{st:List Stmt}{t:TS}(h:PSs X.nox st t):PSs X st t:=λ pins s σ H D I hw=>
  wpAny_mono (h pins s σ H D (I.wish _) hw) (λ _ _ q=>q.unwish) λ _ _ z=>False.elim z
end
section
variable{X:Cx}{st:Stmt}{rest:List Stmt}{t u:TS}{e:Expr}{te:TE}{pos:Pos}
noncomputable def ID:TS:=λ D σ H=>D.nx σ H
noncomputable def IT(t u:TS):TS:=λ D σ H=>t { D with nx:=u D } σ H
theorem HK:PSs X [] ID:=λ _ _ σ H _ I h=>wpAny_execs_nil ⟨σ,H,I,h⟩
theorem J5(h1:PS X st t)(h2:PSs X rest u):PSs X (st :: rest) (IT t u):=by
  intro pins s σ H D I h
  refine wpAny_execs_cons (thn (h1 pins s σ H { D with nx:=u D } I h) λ f s1 q=>?_)
  cases f with
  | next=>
    obtain⟨σ',H',I',q⟩:=q
    exact h2 pins s1 σ' H' D I' q
  | ret v=>exact q
  | brk=>exact q
  | cont=>exact q
theorem Fh(h1:PS X st t):PSs X [st] t:=by
  intro pins s σ H D I h
  refine wpAny_execs_cons (thn (h1 pins s σ H D I h) λ f s1 q=>?_)
  cases f with
  | next=>exact wpAny_execs_nil q
  | ret v=>exact q
  | brk=>exact q
  | cont=>exact q
theorem Inv.quiet{pins:List (Addr × Obj)}{σ:St}{H:Hp}{s:Shared}(I:Inv X pins σ H s):interactive X.env=false:=by simp[interactive,I.ok.kind]
noncomputable def Kc(te:TE):TS:=λ D σ H=>te σ H λ _ H1=>D.nx σ H1
theorem Pu(he:PE X e te)(hs:swapsWith e none pos.line X.env=pure false:=by rfl):PS X (.Expr e pos) (Kc te):=by
  intro pins s σ H D I h
  exact wpAny_Expr_any (thn (he pins s σ H _ I h) λ v s1 ⟨x,H1,I1,r1,q1⟩=>⟨σ,H1,I1,q1⟩) I.quiet hs
noncomputable def G9(te:TE):TS:=λ D σ H=>te σ H D.rt
theorem SK(he:PE X e te):PS X (.Return (some e) pos) (G9 te):=by
  intro pins s σ H D I h
  exact wpAny_Return_some (thn (he pins s σ H _ I h) λ v s1 ⟨x,H1,I1,r1,q1⟩=>⟨x,σ,H1,I1,r1,q1⟩)
noncomputable def IV(c:TT)(t u:TS):TS:=λ D σ H=>c σ H λ b H1=>if b=true then t D σ H1 else u D σ H1
theorem OX{c:Expr}{a b:List Stmt}{tc:TT}(hc:PT X c tc)(ha:PSs X a t)(hb:PSs X b u):PS X (.If c a b pos) (IV tc t u):=by
  intro pins s σ H D I h
  refine wpAny_If (thn (hc pins s σ H _ I h) λ d s1 ⟨H1,I1,q1⟩=>?_)
  cases d with
  | true=>exact ha pins s1 σ H1 D I1 q1
  | false=>exact hb pins s1 σ H1 D I1 q1
noncomputable def GU:TS:=λ _ _ _=>False
theorem Nd:PS X st GU:=λ _ _ _ _ _ _ h=>h.elim
end
noncomputable abbrev TG:=V->St->Hp->(St->Hp->Prop)->Prop
noncomputable abbrev TGs:=List V->St->Hp->(St->Hp->Prop)->Prop
noncomputable def PG(X:Cx)(target:Expr)(t:TG):Prop:=
  ∀ (pins:List (Addr × Obj)) (s:Shared) (σ:St) (H:Hp) (v:V) (u:Value) (Q:St->Hp->Prop),Inv X pins σ H s->RelV v u->t v σ H Q ->
    wpAny (model X.prog X.w) X.A (assign target X.env u) (λ _ s'=>∃ σ' H',Inv X pins σ' H' s'/\Q σ' H') X.xe s
noncomputable def PGs(X:Cx)(ts:List Expr)(t:TGs):Prop:=
  ∀ (pins:List (Addr × Obj)) (s:Shared) (σ:St) (H:Hp) (vs:List V) (us:List Value) (Q:St->Hp->Prop),Inv X pins σ H s->Vals vs us->t vs σ H Q ->
    wpAny (model X.prog X.w) X.A (assignInOrder ((assignEach ts X.env).map (·.2)) us) (λ _ s'=>∃ σ' H',Inv X pins σ' H' s'/\Q σ' H') X.xe s
noncomputable abbrev OB:=V->V->V->Hp->(Hp->Prop)->Prop
noncomputable def TU(X:Cx)(t:OB):Prop:=
  ∀ (pins:List (Addr × Obj)) (s:Shared) (σ:St) (H:Hp) (o i v:V) (ov iv u:Value) (Q:Hp->Prop),Inv X pins σ H s->RelV o ov->RelV i iv->RelV v u->t o i v H Q ->
    wpAny (model X.prog X.w) X.A (setItem ov iv u) (λ _ s'=>∃ H',Inv X pins σ H' s'/\Q H') X.xe s
section
variable{X:Cx}{pos:Pos}
noncomputable def Ej(i:Nat):TG:=λ v σ H Q=>Q (σ.set i (some v)) H
theorem Q4{i:Nat}{x:Str}(hN:X.N.Nodup)(hi:X.N[i]? = some x)(hx:Loc X.env.scope x)(hf:X.fn x=true ∨ X.env.scope.names.lookup x=some .local:=by first|exact .inl rfl|exact .inr rfl|assumption):PG X (.Name x pos) (Ej i):=by
  intro pins s σ H v u Q I r h
  exact wpAny_assign_Name (Bw I hN hi hx r (λ s' I'=>⟨_,H,I',h⟩) hf)
noncomputable def Ny:TGs:=λ vs σ H Q=>vs=[]/\Q σ H
noncomputable def LM(t:TG)(u:TGs):TGs:=λ vs σ H Q=>∃ v r,vs=v :: r/\t v σ H λ σ' H'=>u r σ' H' Q
theorem Q2:PGs X [] Ny:=by
  intro pins s σ H vs us Q I r h
  obtain⟨e,h⟩:=h
  subst e
  cases r
  exact assignInOrder_nil ⟨σ,H,I,h⟩
theorem Ng{e:Expr}{es:List Expr}{t:TG}{u:TGs}(h1:PG X e t)(h2:PGs X es u)
    (hs:(assignEach (e :: es) X.env).map (·.2)=assign e X.env :: (assignEach es X.env).map (·.2):=by rfl):PGs X (e :: es) (LM t u):=by
  intro pins s σ H vs us Q I r h
  obtain⟨v,vr,e1,h⟩:=h
  subst e1
  cases r with
  | cons r rr=>
    rw[hs]
    refine assignInOrder_cons (thn (h1 pins s σ H _ _ _ I r h) λ _ s1 ⟨σ1,H1,I1,q1⟩=>?_)
    exact h2 pins s1 σ1 H1 _ _ Q I1 rr q1
noncomputable def LK(K:PySem.W.Frag)(n:Nat)(t:TGs):TG:=λ v σ H Q=>∃ a xs,v=.ref a/\SqT K H a xs/\xs.length=n/\t xs σ H Q
theorem SU{es:List Expr}{k:Nat}{t:TGs}{n:Nat}(hc:X.calm=true)(h:PGs X es t)
    (hn:(assignEach es X.env).length=n:=by rfl) (hst:(assignEach es X.env).findIdx? (·.1)=none:=by rfl):PG X (.Tuple es k pos) (LK X.K n t):=by
  intro pins s σ H v u Q I r hw
  obtain⟨a,xs,e1,hq,hl,hw⟩:=hw
  subst e1
  cases r
  obtain⟨its,rv,ht,hz⟩:=I.tuple hq
  refine assign_Tuple_tuple (I.ok.hd hc) ht (by simp[hn,<- hl,rv.length]) hst λ h' hx=>?_
  have I1:Inv X pins σ H { s with heap:=h' }:=I.kept (t':=s.toks) λ b o e=>hx b o (Nat.ne_of_lt (Heap.lt_size e)) e
  exact h pins _ σ H xs _ Q I1 (by simpa using rv) hw
noncomputable def Nx(to ti:TE)(t:OB):TG:=λ v σ H Q=>to σ H λ o H1=>ti σ H1 λ i H2=>t o i v H2 λ H3=>Q σ H3
theorem SV{o i:Expr}{to ti:TE}{t:OB}(ho:PE X o to)(hi:PE X i ti)(hs:TU X t)
    (ha:∀ v,assign (.Subscript o i pos) X.env v=(do
      let ov <- holding [v] (eval o X.env)
      let iv <- holding [v,ov] (eval i X.env)
      standAt pos
      holding [v,ov,iv] (setItem ov iv v)
      release [v,ov,iv] []):=by intro _;rfl):PG X (.Subscript o i pos) (Nx to ti t):=by
  intro pins s σ H v u Q I r h
  rw[ha]
  refine wpAny_bind (wpAny_holding (thn (ho pins s σ H _ I h) λ ov s1 ⟨x,H1,I1,r1,q1⟩=>?_))
  refine wpAny_bind (wpAny_holding (thn (hi pins s1 σ H1 _ I1 q1) λ iv s2 ⟨y,H2,I2,r2,q2⟩=>?_))
  refine wpAny_bind (wpAny_standAt (wpAny_bind (wpAny_holding (thn (hs pins s2 σ H2 x y v ov iv u _ I2 r1 r2 r q2) λ _ s3 ⟨H3,I3,q3⟩=>?_))))
  exact wpAny_release ⟨σ,H3,I3,q3⟩
noncomputable def Ed(te:TE)(g:TG):TS:=λ D σ H=>te σ H λ x H1=>g x σ H1 D.nx
theorem Lz{tg e:Expr}{te:TE}{g:TG}(he:PE X e te)(hg:PG X tg g)(hs:swapsWithSole [tg] e pos.line X.env=pure false:=by rfl)(hw:swappedStores [tg] e X.env=pure none:=by rfl)
    (h1:(assignEach [tg] X.env).map (·.2)=[assign tg X.env]:=by rfl):PS X (.Assign [tg] e pos) (Ed te g):=by
  intro pins s σ H D I h
  refine wpAny_Assign_stores (thn (he pins s σ H _ I h) λ v s1 ⟨x,H1,I1,r1,q1⟩=>?_) hs hw
  rw[h1]
  exact thn (hg pins s1 σ H1 x v _ I1 r1 q1) λ _ s2 q=>q
theorem J7{i:Nat}{x:Str}{e:Expr}{te:TE}{pos':Pos}(hN:X.N.Nodup)(hi:X.N[i]? = some x)(hx:Loc X.env.scope x)(he:PE X e te)(hs:swapsWith e (some (.Name x pos')) pos.line X.env=pure false:=by rfl)(hf:X.fn x=true ∨ X.env.scope.names.lookup x=some .local:=by first|exact .inl rfl|exact .inr rfl|assumption) :
    PS X (.Assign [.Name x pos'] e pos) (Ed te (Ej i)):=by
  intro pins s σ H D I h
  refine wpAny_Assign_Name (thn (he pins s σ H _ I h) λ v s1 ⟨y,H1,I1,r1,q1⟩=>?_) hs
  exact Bw I1 hN hi hx r1 (λ s2 I2=>⟨_,H1,I2,q1⟩) hf
noncomputable def N1(i j:Nat)(ta:TA):TS:=λ D σ H=>ta σ H λ vs H1=>∃ v w,vs=[v,w]/\D.nx ((σ.set i (some v)).set j (some w)) H1
theorem SL{i j:Nat}{x y:Str}{a b:Expr}{ta:TA}{px py pt:Pos}{kt k2 pt2}(hc:X.calm=true)(hN:X.N.Nodup)(hi:X.N[i]? = some x)(hj:X.N[j]? = some y)(hij:i ≠ j)
    (hx:X.env.scope.names.lookup x=some .local) (hy:X.env.scope.names.lookup y=some .local) (ha:PA X [a,b] ta)
    (hw:swappedStores [.Tuple [.Name x px,.Name y py] kt pt] (.Tuple [a,b] k2 pt2) X.env=pure (some [x,y]))
    (hs:swapsWithSole [.Tuple [.Name x px,.Name y py] kt pt] (.Tuple [a,b] k2 pt2) pos.line X.env=pure false:=by rfl) :
    PS X (.Assign [.Tuple [.Name x px,.Name y py] kt pt] (.Tuple [a,b] k2 pt2) pos) (N1 i j ta):=by
  intro pins s σ H D I h
  rw[exec_Assign_arm]
  refine wpAny_bind (wpAny_standAt ?_)
  rw[hs]
  refine wpAny_bind (wpAny_pure ?_)
  rw[if_neg (by decide)]
  refine wpAny_bind (Tuple_ (thn (ha _ pins s σ H _ I h) λ us s1 ⟨vs,H1,I1,r1,q1⟩=>?_))
  obtain⟨v,w,e1,q1⟩:=q1
  subst e1
  obtain⟨u1,u2,rfl,rv,rw'⟩:∃ u1 u2,us=[u1,u2]/\RelV v u1/\RelV w u2:=by
    cases r1 with
    | cons p q=>
      cases q with
      | cons p' q'=>
        cases q'
        exact⟨_,_,rfl,p,p'⟩
  refine wpAny_newObj_type ?_ (by show 2 <= sizeLine;decide)
  have I2:Inv X pins σ H1 { s1 with heap:=s1.heap.push { cls:=.type "tuple",data:=.seq [u1,u2].toArray } }:=I1.kept (t':=s1.toks) λ b o e=>Heap.get?_push_of_some _ e
  rw[hw]
  refine wpAny_bind (wpAny_pure ?_)
  show wpAny (model X.prog X.w) X.A (do rule "assign.swapped-stores";let items <- unpackItems (.ref s1.heap.objs.size) 2 none;assignInOrder [λ v=>bindName X.env y v,λ v=>bindName X.env x v] items.reverse;pure Flow.next) _ _ _
  refine wpAny_bind (wpAny_rule (wpAny_bind (unpackItems_tuple (items:=#[u1,u2]) (I.ok.hd hc) (IsTup.new s1.heap _) λ h' hx'=>?_)))
  have I3:=I2.kept (h':=h') (t':=s1.toks) λ b o e=>hx' b o (Nat.ne_of_lt (Heap.lt_size e)) e
  show wpAny _ _ (assignInOrder [λ v=>bindName X.env y v,λ v=>bindName X.env x v] [u2,u1] >>= λ _=>pure Flow.next) _ _ _
  refine wpAny_bind (assignInOrder_cons (wpAny_bindName (Bw I3 hN hj (.inl hy) rw' (λ s2 I4=>?_) (.inr hy))))
  refine assignInOrder_cons (wpAny_bindName (Bw I4 hN hi (.inl hx) rv (λ s3 I5=>assignInOrder_nil (wpAny_pure ?_)) (.inr hx)))
  rw[List.set_comm _ _ (Ne.symm hij)]at I5
  exact⟨_,H1,I5,q1⟩
end
section
variable{X:Cx}{pos:Pos}
end
structure It where
  go:Nat->Hp->Prop
  yld:Nat->Hp->V->Hp->Prop
  stop:Nat->Hp->Prop
noncomputable def C5(X:Cx)(pins:List (Addr × Obj))(H:Hp)(b:Addr):Prop:=
  H b=none/\b ≠ X.env.locals/\b ∉ X.fs/\(b ∈ X.ex ∨ X.s₀.heap.objs.size <= b)/\(∀ x c,X.env.cells.lookup x=some c->c ≠ b)/\∀ p ∈ X.pn ++ pins,p.1 ≠ b
theorem Inv.fpOk{X:Cx}{pins:List (Addr × Obj)}{σ:St}{H H':Hp}{s:Shared}{b:Addr}(I:Inv X pins σ H s)(hb:s.heap.objs.size <= b)(hn:H' b=none):C5 X pins H' b:=by
  refine⟨hn,Nat.ne_of_gt (Nat.lt_of_lt_of_le I.lt hb),I.nofs hb,.inr (Nat.le_trans I.sz hb),λ x c e z=>?_,λ p hp z=>?_⟩
  . obtain⟨v,q⟩:=I.cell x c e
    exact absurd (Nat.lt_of_lt_of_le q.lt (by rw[z];exact hb)) (Nat.lt_irrefl _)
  . exact absurd (Nat.lt_of_lt_of_le (Heap.lt_size (I.pin p hp).1) (by rw[z];exact hb)) (Nat.lt_irrefl _)
structure Turn(P:Program)(w:World)(K:PySem.W.Frag)(tg:Expr)(J:It)(fp:List Addr)(it:Addr)(tn:Nat->Heap->Prop):Prop where
  mem:it ∈ fp
  obj:∀ i h,tn i h->∀ b ∈ fp,∃ o,h.get? b=some o/\∀ v,o.data ≠ .cell v
  keep:∀ i h h',tn i h->(∀ b ∈ fp,∀ o,h.get? b=some o->h'.get? b=some o)->tn i h'
  item:∀ (X:Cx),X.prog=P->X.w=w->X.K=K->X.calm=true->∀ (i:Nat) (pins:List (Addr × Obj)) (s:Shared) (σ:St) (H:Hp) (E:Value->Shared->Prop),Inv X pins σ H s->(∀ b ∈ fp,C5 X pins H b)->tn i s.heap->J.go i H ->
    wpAny (model P w) X.A (pyNext (.ref it)) (λ r s1=>∃ u,r=some u /\
      wpAny (model P w) X.A (letOwnedTupleGo tg (.ref it) u) (λ _ s2=>∃ x H',Inv X pins σ H' s2/\RelV x u/\J.yld i H x H'/\tn (i + 1) s2.heap/\∀ b ∈ fp,H' b=none) E s1) E s
  done:∀ (X:Cx),X.prog=P->X.w=w->X.K=K->X.calm=true->∀ (i:Nat) (pins:List (Addr × Obj)) (s:Shared) (σ:St) (H:Hp) (E:Value->Shared->Prop),Inv X pins σ H s->(∀ b ∈ fp,C5 X pins H b)->tn i s.heap->J.stop i H ->
    wpAny (model P w) X.A (pyNext (.ref it)) (λ r s1=>r=none/\Inv X pins σ H s1) E s
  self:∀ (A:Around) (i:Nat) (s:Shared) (Q:Value->Shared->Prop) (E:Value->Shared->Prop),tn i s.heap->Q (.ref it) s->wpAny (model P w) A (pyIter (.ref it)) Q E s
noncomputable abbrev TI:=St->Hp->(It->Hp->Prop)->Prop
noncomputable def PIE(X:Cx)(pins:List (Addr × Obj))(σ:St)(tg:Expr)(R:It->Hp->Prop)(itv:Value)(s2:Shared):Prop:=
  ∃ (it:Addr) (fp:List Addr) (tn:Nat->Heap->Prop) (J:It) (H':Hp),itv=.ref it/\Inv X pins σ H' s2/\Turn X.prog X.w X.K tg J fp it tn/\tn 0 s2.heap/\(∀ b ∈ fp,C5 X pins H' b)/\R J H'
noncomputable def PI(X:Cx)(tg iter:Expr)(wi:TI):Prop:=
  ∀ (pins:List (Addr × Obj)) (s:Shared) (σ:St) (H:Hp) (R:It->Hp->Prop),Inv X pins σ H s->wi σ H R ->
    wpAny (model X.prog X.w) X.A (eval iter X.env) (λ v s1=>wpAny (model X.prog X.w) X.A (pyIter v) (PIE X pins σ tg R) X.xe s1) X.xe s
theorem LJ{M:Model}{A:Around}{E:Value->Shared->Prop}{s:Shared}{tg:Expr}{it:Addr}{u:Value}{o:Obj}{n:String}{vs:Array Value}{Q:Unit->Shared->Prop}(ho:s.heap.get? it=some o)(hc:o.cls=.type n)(hd:o.data=.fields vs)
    (hn:["enumerate","zip","dict_itemiterator","dict_reverseitemiterator","odict_iterator","itertools.zip_longest","itertools.pairwise"].contains n=false) (hQ:Q () s):wpAny M A (letOwnedTupleGo tg (.ref it) u) Q E s:=by
  unfold letOwnedTupleGo
  cases tg <;> first
    | exact wpAny_pure hQ
    | (cases u <;> first
        | exact wpAny_pure hQ
        | (refine wpAny_bind (wpAny_load ho ?_)
           rw[hc,hd]
           show wpAny M A (if(["enumerate","zip","dict_itemiterator","dict_reverseitemiterator","odict_iterator","itertools.zip_longest","itertools.pairwise"].contains n && vs[0]? == some (rawInt _))=true then _ else _) Q E s
           rw[if_neg (by intro h;rw[hn,Bool.false_and]at h;cases h)]
           exact wpAny_pure hQ))
noncomputable def Itl(K:PySem.W.Frag)(a:Addr):It:=
  ⟨λ i H=>∃ xs x,SqL K H a xs/\xs[i]? = some x,λ i H x H'=>H'=H/\∀ xs,SqL K H a xs->xs[i]? = some x,λ i H=>∃ xs,SqL K H a xs/\xs.length <= i⟩
noncomputable def Itt(K:PySem.W.Frag)(a:Addr):It:=
  ⟨λ i H=>∃ xs x,SqT K H a xs/\xs[i]? = some x,λ i H x H'=>H'=H/\∀ xs,SqT K H a xs->xs[i]? = some x,λ i H=>∃ xs,SqT K H a xs/\xs.length <= i⟩
noncomputable def Itr(lo:Int)(n:Nat):It:=⟨λ i _=>i < n,λ i H x H'=>H'=H/\x=.int (lo + i),λ i _=>n <= i⟩
theorem Lg{P:Program}{w:World}{K:PySem.W.Frag}{tg:Expr}(a it:Addr):Turn P w K tg (Itl K a) [it] it (λ i h=>h.IsListIter it a i) where
  mem:=by simp
  obj:=λ i h st b hb=>by
    have e:b=it:=by simpa using hb
    subst e
    obtain⟨o,e,c,d⟩:=st
    exact⟨o,e,λ v z=>by rw[d]at z;cases z⟩
  keep:=λ i h h' st k=>st.at λ o e=>k it (by simp) o e
  item:=by
    intro X hP hw hK hc i pins s σ H E I hf st hg
    subst hP hw hK
    obtain⟨xs,x,hq,hx⟩:=hg
    obtain⟨its,rv,p,hz⟩:=I.list hq
    obtain⟨u,hu,ru⟩:=rv.get hx
    obtain⟨f0,f1,f2,f3,f4,f5⟩:=hf it (by simp)
    refine wpAny_pyNext_list_item st p.isList (x:=u) (by simpa using hu) λ h' st' sb=>?_
    have I1:Inv X pins σ H { s with heap:=h' }:=I.turned (t':=s.toks) (λ b o hb e=>(sb.2 b hb).trans e) f0 f1 f3 f4 f5
    obtain⟨o,e,c,d⟩:=id st'
    exact⟨u,rfl,LJ (s:={ s with heap:=h' }) e c d (by decide) ⟨x,H,I1,ru,⟨rfl,λ ys hy=>by rw[I.list_inj hy hq];exact hx⟩,st',λ b hb=>(hf b hb).1⟩⟩
  done:=by
    intro X hP hw hK hc i pins s σ H E I hf st hg
    subst hP hw hK
    obtain⟨xs,hq,hx⟩:=hg
    obtain⟨its,rv,p,hz⟩:=I.list hq
    obtain⟨f0,f1,f2,f3,f4,f5⟩:=hf it (by simp)
    have hl:=rv.length
    exact wpAny_pyNext_list_end (I.ok.hd hc) st p.isList (by simp;omega) λ h' eb=>⟨rfl,I.turned (t':=s.toks) (λ b o hb e=>eb b o hb e) f0 f1 f3 f4 f5⟩
  self:=λ _ _ _ _ _ st h=>wpAny_pyIter_listiter st h
theorem KT{P:Program}{w:World}{K:PySem.W.Frag}{tg:Expr}(a it:Addr):Turn P w K tg (Itt K a) [it] it (λ i h=>h.IsTupleIter it a i) where
  mem:=by simp
  obj:=λ i h st b hb=>by
    have e:b=it:=by simpa using hb
    subst e
    obtain⟨o,e,c,d⟩:=st
    exact⟨o,e,λ v z=>by rw[d]at z;cases z⟩
  keep:=λ i h h' st k=>st.at λ o e=>k it (by simp) o e
  item:=by
    intro X hP hw hK hc i pins s σ H E I hf st hg
    subst hP hw hK
    obtain⟨xs,x,hq,hx⟩:=hg
    obtain⟨its,rv,p,hz⟩:=I.tuple hq
    obtain⟨u,hu,ru⟩:=rv.get hx
    obtain⟨f0,f1,f2,f3,f4,f5⟩:=hf it (by simp)
    refine wpAny_pyNext_tuple_item st (show s.heap.IsTuple a its.toArray from p) (x:=u) (by simpa using hu) λ h' st' sb=>?_
    have I1:Inv X pins σ H { s with heap:=h' }:=I.turned (t':=s.toks) (λ b o hb e=>(sb.2 b hb).trans e) f0 f1 f3 f4 f5
    obtain⟨o,e,c,d⟩:=id st'
    exact⟨u,rfl,LJ (s:={ s with heap:=h' }) e c d (by decide) ⟨x,H,I1,ru,⟨rfl,λ ys hy=>by rw[I.tuple_inj hy hq];exact hx⟩,st',λ b hb=>(hf b hb).1⟩⟩
  done:=by
    intro X hP hw hK hc i pins s σ H E I hf st hg
    subst hP hw hK
    obtain⟨xs,hq,hx⟩:=hg
    obtain⟨its,rv,p,hz⟩:=I.tuple hq
    obtain⟨f0,f1,f2,f3,f4,f5⟩:=hf it (by simp)
    have hl:=rv.length
    exact wpAny_pyNext_tuple_end (I.ok.hd hc) st (show s.heap.IsTuple a its.toArray from p) (by simp;omega) λ h' eb=>⟨rfl,I.turned (t':=s.toks) (λ b o hb e=>eb b o hb e) f0 f1 f3 f4 f5⟩
  self:=λ _ _ _ _ _ st h=>wpAny_pyIter_tupleiter st h
theorem KU{P:Program}{w:World}{K:PySem.W.Frag}{tg:Expr}(it:Addr)(lo:Int)(n:Nat):Turn P w K tg (Itr lo n) [it] it (λ i h=>IsRangeIter h it (lo + (i:Nat) * 1) ((n:Int) - (i:Nat)) 1) where
  mem:=by simp
  obj:=λ i h st b hb=>by
    have e:b=it:=by simpa using hb
    subst e
    exact⟨_,st,λ v z=>by
      have z':Data.fields _=Data.cell v:=z
      cases z'⟩
  keep:=λ i h h' st k=>k it (by simp) _ st
  item:=by
    intro X hP hw hK hc i pins s σ H E I hf st hg
    subst hP hw hK
    obtain⟨f0,f1,f2,f3,f4,f5⟩:=hf it (by simp)
    have W:=Walks.range (prog:=X.prog) (w:=X.w) (I.ok.hd hc) it lo 1 n
    refine W.item i s _ _ hg st λ v h' tk hv st' kk=>?_
    obtain⟨t,rfl⟩:=hv
    have I1:Inv X pins σ H { s with heap:=h',toks:=tk }:=I.turned (λ b o hb e=>kk b o (by simpa using hb) e) f0 f1 f3 f4 f5
    refine⟨_,rfl,LJ (s:={ s with heap:=h',toks:=tk }) (n:="range_iterator") st' rfl rfl (by decide) ⟨.int (lo + i),H,I1,⟨t,?_⟩,⟨rfl,rfl⟩,st',λ b hb=>(hf b hb).1⟩⟩
    rw[Int.mul_one]
  done:=by
    intro X hP hw hK hc i pins s σ H E I hf st hg
    subst hP hw hK
    obtain⟨f0,f1,f2,f3,f4,f5⟩:=hf it (by simp)
    exact wpAny_pyNext_range_end (I.ok.hd hc) st (by have:n <= i:=hg;omega) λ h' eb=>⟨rfl,I.turned (t':=s.toks) (λ b o hb e=>eb b o hb e) f0 f1 f3 f4 f5⟩
  self:=λ _ _ _ _ _ st h=>wpAny_pyIter_rangeiter st h
end L2
namespace L2
open PySem PySem.Spec PyProof.Rows
section
variable{X:Cx}{tg:Expr}
noncomputable def Fp(K:PySem.W.Frag)(tl:TE):TI:=λ σ H R=>tl σ H λ x H1=>∃ a,x=.ref a/\(∃ xs,SqL K H1 a xs)/\R (Itl K a) H1
noncomputable def LH(K:PySem.W.Frag)(tl:TE):TI:=λ σ H R=>tl σ H λ x H1=>∃ a,x=.ref a/\(∃ xs,SqT K H1 a xs)/\R (Itt K a) H1
theorem Q1{l:Expr}{tl:TE}(hl:PE X l tl):PI X tg l (Fp X.K tl):=by
  intro pins s σ H R I h
  refine thn (hl pins s σ H _ I h) λ v s1 ⟨x,H1,I1,r1,q1⟩=>?_
  obtain⟨a,e,⟨xs,hq⟩,q⟩:=q1
  subst e
  cases r1
  obtain⟨its,rv,p,hz⟩:=I1.list hq
  refine wpAny_pyIter_list p.isList ?_
  refine⟨s1.heap.objs.size,[s1.heap.objs.size],_,_,H1,rfl,I1.kept (t':=s1.toks) λ b o e=>Heap.get?_push_of_some _ e,Lg a _,⟨_,Heap.get?_push_size _ rfl,rfl,rfl⟩,λ b hb=>?_,q⟩
  have e:b=s1.heap.objs.size:=by simpa using hb
  subst e
  exact I1.fpOk (Nat.le_refl _) (I1.hok.fresh (Nat.le_refl _))
theorem SS{l:Expr}{tl:TE}(hl:PE X l tl):PI X tg l (LH X.K tl):=by
  intro pins s σ H R I h
  refine thn (hl pins s σ H _ I h) λ v s1 ⟨x,H1,I1,r1,q1⟩=>?_
  obtain⟨a,e,⟨xs,hq⟩,q⟩:=q1
  subst e
  cases r1
  obtain⟨its,rv,p,hz⟩:=I1.tuple hq
  refine wpAny_pyIter_tuple (show s1.heap.IsTuple a its.toArray from p) ?_
  refine⟨s1.heap.objs.size,[s1.heap.objs.size],_,_,H1,rfl,I1.kept (t':=s1.toks) λ b o e=>Heap.get?_push_of_some _ e,KT a _,⟨_,Heap.get?_push_size _ rfl,rfl,rfl⟩,λ b hb=>?_,q⟩
  have e:b=s1.heap.objs.size:=by simpa using hb
  subst e
  exact I1.fpOk (Nat.le_refl _) (I1.hok.fresh (Nat.le_refl _))
theorem NL{pins:List (Addr × Obj)}{σ:St}{H:Hp}{s:Shared}{R:It->Hp->Prop}{E:Value->Shared->Prop}{lo hi:Int}{t u v:Tok}{tk:Nat}(I:Inv X pins σ H s)(h1:-(2 ^ 62) <= lo)(h2:lo < 2 ^ 62)(h3:-(2 ^ 62) <= hi)(h4:hi < 2 ^ 62)
    (q:R (Itr lo (hi - lo).toNat) H):wpAny (model X.prog X.w) X.A (pyIter (.ref s.heap.objs.size)) (PIE X pins σ tg R) E { s with heap:=s.heap.push { cls:=.type "range",data:=.fields #[.int lo t,.int hi u,.int 1 v] },toks:=tk }:=by
  refine wpAny_pyIter_range (IsRange.new ..) (small_one h1 h2 h3 h4) ?_
  have I1:Inv X pins σ H { s with heap:=s.heap.push { cls:=.type "range",data:=.fields #[.int lo t,.int hi u,.int 1 v] },toks:=tk }:=I.kept λ b o e=>Heap.get?_push_of_some _ e
  refine⟨(s.heap.push { cls:=.type "range",data:=.fields #[.int lo t,.int hi u,.int 1 v] }).objs.size,[(s.heap.push { cls:=.type "range",data:=.fields #[.int lo t,.int hi u,.int 1 v] }).objs.size],_,_,H,rfl,
    I1.kept (t':=tk) λ b o e=>Heap.get?_push_of_some _ e,KU _ lo (hi - lo).toNat,?_,λ b hb=>?_,q⟩
  . have e1:lo + ((0:Nat):Int) * 1=lo:=by simp
    have e2:(((hi - lo).toNat:Nat):Int) - ((0:Nat):Int)=Builtin.Range.rangeSize lo hi 1:=by rw[rangeSize_one];split <;> omega
    show IsRangeIter _ _ (lo + ((0:Nat):Int) * 1) ((((hi - lo).toNat:Nat):Int) - ((0:Nat):Int)) 1
    rw[e1,e2]
    exact Heap.get?_push_size _ rfl
  . have e:b=(s.heap.push { cls:=.type "range",data:=.fields #[.int lo t,.int hi u,.int 1 v] }).objs.size:=by simpa using hb
    subst e
    exact I1.fpOk (Nat.le_refl _) (I1.hok.fresh (Nat.le_refl _))
noncomputable def LI(ta:TA):TI:=λ σ H R=>ta σ H λ vs H1=>∃ j:Int,vs=[.int j]/\-(2 ^ 62) <= j/\j < 2 ^ 62/\R (Itr 0 j.toNat) H1
theorem M2{a:Expr}{ta:TA}{p pos:Pos}(hg:Gl X "range")(hm:X.mg "range"=none)(ha:PA X [a] ta)(hs:starEach [a] X.env=[(false,eval a X.env)]:=by rfl):PI X tg (.Call (.Name "range" p) [a] [] pos) (LI ta):=by
  intro pins s σ H R I h
  refine Call_ (FS I hg hm boot_range (PyProof.Rows.callWith_type1 (thn (ha pos pins s σ H _ I h) λ us s1 ⟨vs,H1,I1,r1,q1⟩=>?_) hs rfl))
  obtain⟨j,e,q1,q2,q⟩:=q1
  subst e
  cases r1 with
  | cons r rr=>
    cases rr
    obtain⟨t,rfl⟩:=r
    exact call_range_1 (NL I1 (by omega) (by omega) q1 q2 (by simpa using q))
noncomputable def N4(wi:TI)(g:TG)(tb:TS):TS:=λ D σ H=>wi σ H λ J H1=>∃ W:Nat->Nat->St->Hp->Prop,(∃ m,W 0 m σ H1)/\∀ i m σ H,W i m σ H ->
  (J.stop i H/\D.nx σ H) ∨ (J.go i H/\∃ N:St->Hp->Prop,(∀ σ' H',N σ' H'->∃ m',m' < m/\W (i + 1) m' σ' H')/\∀ x H',J.yld i H x H'->g x σ H' λ σ2 H2=>tb { D with nx:=N,ct:=N,bk:=D.nx } σ2 H2)
noncomputable def Dn(fp:List Addr)(h:Heap):List (Addr × Obj):=fp.filterMap λ b=>(h.get? b).map λ o=>(b,o)
theorem Bi{fp:List Addr}{h:Heap}{b:Addr}{o:Obj}(hb:b ∈ fp)(e:h.get? b=some o):(b,o) ∈ Dn fp h:=List.mem_filterMap.mpr ⟨b,hb,by rw[e];rfl⟩
theorem M8{fp:List Addr}{h:Heap}{p:Addr × Obj}(hp:p ∈ Dn fp h):p.1 ∈ fp/\h.get? p.1=some p.2:=by
  obtain⟨b,hb,e⟩:=List.mem_filterMap.mp hp
  cases q:h.get? b with
  | none=>rw[q]at e;cases e
  | some o=>
    rw[q]at e
    have e':(b,o)=p:=Option.some.inj e
    subst e'
    exact⟨hb,q⟩
theorem Inv.pinned{pins:List (Addr × Obj)}{σ:St}{H:Hp}{s:Shared}{fp:List Addr}(I:Inv X pins σ H s)(hf:∀ b ∈ fp,C5 X pins H b)(ho:∀ b ∈ fp,∃ o,s.heap.get? b=some o/\∀ v,o.data ≠ .cell v):Inv X (pins ++ Dn fp s.heap) σ H s:=
  I.pins_of λ p hp=>(List.mem_append.mp hp).elim (λ z=>I.pin p (List.mem_append_right _ z)) λ z=>by
    obtain⟨hb,e⟩:=M8 z
    obtain⟨f0,f1,f2,_⟩:=hf p.1 hb
    obtain⟨o,e',d⟩:=ho p.1 hb
    rw[e]at e';cases e'
    exact⟨e,f0,f1,f2,d⟩
theorem Inv.unpinned{pins pl:List (Addr × Obj)}{σ:St}{H:Hp}{s:Shared}(I:Inv X (pins ++ pl) σ H s):Inv X pins σ H s:=I.pins_of λ p hp=>I.pin p (List.mem_append_right _ (List.mem_append_left _ hp))
theorem SN{iter:Expr}{body:List Stmt}{wi:TI}{g:TG}{tb:TS}{pos:Pos}(hp:PassesOwn (model X.prog X.w) X.A X.env X.xe)(hc:X.calm=true)(hi:PI X tg iter wi)(hg:PG X tg g)(hb:PSs X body tb)
    (hs:∀ x,foldedSetIterable iter X.env x=pure x:=by intro _;rfl):PS X (.For tg iter body [] pos) (N4 wi g tb):=by
  intro pins s σ H D I h
  refine wpAny_For (thn (hi pins s σ H _ I h) λ v s1 h1=>thn h1 λ itv s2 h2=>?_) hs
  obtain⟨it,fp,tn,J,H2,e,I2,T,st2,f2,W,⟨m0,w0⟩,turn⟩:=h2
  subst e
  -- what stays true of the iterator's objects through the loop
  have stat:∀ {H':Hp},(∀ b ∈ fp,H' b=none)->∀ b ∈ fp,C5 X pins H' b:=λ hn b hb=>⟨hn b hb,(f2 b hb).2⟩
  refine codeAny_forLoop_any (λ n s'=>∃ i σ' H',Inv X pins σ' H' s'/\tn i s'.heap/\(∀ b ∈ fp,H' b=none)/\W i n σ' H') ?_ m0 ⟨0,σ,H2,I2,st2,λ b hb=>(f2 b hb).1,w0⟩
  rintro n s3 ⟨i,σ3,H3,I3,st3,fr3,w3⟩
  rcases turn i n σ3 H3 w3 with⟨stop,qn⟩|⟨go,N,hN,step⟩
  . refine wpAny_passesOwn hp (thn (T.done X rfl rfl rfl hc i pins s3 σ3 H3 X.xe I3 (stat fr3) st3 stop) λ r s4 ⟨hr,I4⟩=>?_)
    subst hr
    exact wpAny_execs_nil ⟨σ3,H3,I4,qn⟩
  . refine wpAny_passesOwn hp (thn (T.item X rfl rfl rfl hc i pins s3 σ3 H3 X.xe I3 (stat fr3) st3 go) λ r s4 ⟨u,hr,h4⟩=>?_)
    subst hr
    refine wpAny_passesOwn hp (thn h4 λ _ s5 ⟨x,H5,I5,r5,y5,st5,fr5⟩=>?_)
    have I5':=I5.pinned (stat fr5) (T.obj _ _ st5)
    refine wpAny_passesOwn hp (thn (hg _ s5 σ3 H5 x u _ I5' r5 (step x H5 y5)) λ _ s6 ⟨σ6,H6,I6,q6⟩=>?_)
    refine wpAny_passesOwn hp (thn (hb _ s6 σ6 H6 _ I6 q6) λ f s7 q7=>?_)
    have again:∀ {σ7:St} {H7:Hp},Inv X (pins ++ Dn fp s5.heap) σ7 H7 s7->N σ7 H7->∃ m,m < n/\∃ i σ' H',Inv X pins σ' H' s7/\tn i s7.heap/\(∀ b ∈ fp,H' b=none)/\W i m σ' H':=λ {σ7 H7} I7 n7=>by
      obtain⟨m',hm,w7⟩:=hN σ7 H7 n7
      refine⟨m',hm,i + 1,σ7,H7,I7.unpinned,T.keep _ _ _ st5 λ b hb o e=>(I7.pin (b,o) (List.mem_append_right _ (List.mem_append_right _ (Bi hb e)))).1,λ b hb=>?_,w7⟩
      obtain⟨o,e,d⟩:=T.obj _ _ st5 b hb
      exact(I7.pin (b,o) (List.mem_append_right _ (List.mem_append_right _ (Bi hb e)))).2.1
    cases f with
    | next=>obtain⟨σ7,H7,I7,n7⟩:=q7;exact again I7 n7
    | cont=>obtain⟨σ7,H7,I7,n7⟩:=q7;exact again I7 n7
    | brk=>obtain⟨σ7,H7,I7,q7⟩:=q7;exact⟨σ7,H7,I7.unpinned,q7⟩
    | ret v=>obtain⟨x7,σ7,H7,I7,r7,q7⟩:=q7;exact⟨x7,σ7,H7,I7.unpinned,r7,q7⟩
end
end L2
namespace L2
open PySem PySem.Spec PyProof.Rows
noncomputable abbrev R2:=V->V->Hp->VK->Prop
noncomputable def OpR(X:Cx)(f:Value->Value->Sem Value)(r:R2):Prop:=
  ∀ (pins:List (Addr × Obj)) (s:Shared) (σ:St) (H:Hp) (x y:V) (v u:Value) (Q:VK),Inv X pins σ H s->RelV x v->RelV y u->r x y H Q ->
    wpAny (model X.prog X.w) X.A (f v u) (EP X pins σ Q) X.xe s
noncomputable def UnR(X:Cx)(f:Value->Sem Value)(r:V->Hp->VK->Prop):Prop:=
  ∀ (pins:List (Addr × Obj)) (s:Shared) (σ:St) (H:Hp) (x:V) (v:Value) (Q:VK),Inv X pins σ H s->RelV x v->r x H Q ->
    wpAny (model X.prog X.w) X.A (f v) (EP X pins σ Q) X.xe s
noncomputable def CallR(X:Cx)(f:Value)(r:List V->Hp->VK->Prop):Prop:=
  ∀ (pins:List (Addr × Obj)) (s:Shared) (σ:St) (H:Hp) (xs:List V) (us:List Value) (Q:VK),Inv X pins σ H s->Vals xs us->r xs H Q ->
    wpAny (model X.prog X.w) X.A (call f us) (EP X pins σ Q) X.xe s
noncomputable def Uk(X:Cx)(r:V->Hp->(Bool->Hp->Prop)->Prop):Prop:=
  ∀ (pins:List (Addr × Obj)) (s:Shared) (σ:St) (H:Hp) (x:V) (v:Value) (Q:Bool->Hp->Prop),Inv X pins σ H s->RelV x v->r x H Q ->
    wpAny (model X.prog X.w) X.A (truthy v) (TP X pins σ Q) X.xe s
noncomputable def tOp(r:R2)(ta tb:TE):TE:=λ σ H Q=>ta σ H λ x H1=>tb σ H1 λ y H2=>r x y H2 Q
noncomputable def tUn(r:V->Hp->VK->Prop)(ta:TE):TE:=λ σ H Q=>ta σ H λ x H1=>r x H1 Q
noncomputable def rI(C:Int->Int->Prop)(g:Int->Int->V):R2:=λ x y H Q=>∃ i j,x=.int i/\y=.int j/\C i j/\Q (g i j) H
noncomputable def rI0(g:Int->Int->V):R2:=λ x y H Q=>∃ i j,x=.int i/\y=.int j/\Q (g i j) H
noncomputable def rU(g:Int->V):V->Hp->VK->Prop:=λ x H Q=>∃ i,x=.int i/\Q (g i) H
section
variable{X:Cx}{a b c:Expr}{ta tb tc:TE}{pos:Pos}
theorem O9(ha:PE X a ta)(hb:PE X b tb){pins:List (Addr × Obj)}{s:Shared}{σ:St}{H:Hp}{R:V->V->Hp->Prop}(I:Inv X pins σ H s)
    (h:ta σ H λ x H1=>tb σ H1 λ y H2=>R x y H2) {Q:Value->Shared->Prop} {f:Value->Value->Sem Value}
    (hf:∀ v u s2 x y H2,Inv X pins σ H2 s2->RelV x v->RelV y u->R x y H2->wpAny (model X.prog X.w) X.A (f v u) Q X.xe s2) :
    wpAny (model X.prog X.w) X.A (eval a X.env) (λ v s₁=>wpAny (model X.prog X.w) X.A (eval b X.env) (λ u s₂=>wpAny (model X.prog X.w) X.A (f v u) Q X.xe s₂) X.xe s₁) X.xe s:=by
  refine thn (ha pins s σ H _ I h) λ v s1 ⟨x,H1,I1,r1,q1⟩=>?_
  refine thn (hb pins s1 σ H1 _ I1 q1) λ u s2 ⟨y,H2,I2,r2,q2⟩=>?_
  exact hf v u s2 x y H2 I2 r1 r2 q2
theorem Ts{op:Operator}{r:R2}(ho:OpR X (binaryOp op) r)(ha:PE X a ta)(hb:PE X b tb):PE X (.BinOp a op b pos) (tOp r ta tb):=by
  intro pins s σ H Q I h
  exact wpAny_BinOp (O9 ha hb I h λ v u s2 x y H2 I2 rx ry q=>ho pins s2 σ H2 x y v u Q I2 rx ry q)
theorem Tr{op:UnaryOp}{r:V->Hp->VK->Prop}(ho:UnR X (unaryOp op) r)(ha:PE X a ta):PE X (.UnaryOp op a pos) (tUn r ta):=by
  intro pins s σ H Q I h
  exact UnaryOp_ (thn (ha pins s σ H _ I h) λ v s1 ⟨x,H1,I1,r1,q1⟩=>ho pins s1 σ H1 x v Q I1 r1 q1)
theorem opI{f:Value->Value->Sem Value}{C:Int->Int->Prop}{g:Int->Int->Int}
    (rule:∀ (i j:Int) (t u:Tok) (s:Shared) (Q:Value->Shared->Prop) (E:Value->Shared->Prop),C i j->Q (.int (g i j) s.toks) { s with toks:=s.toks + 1 }->wpAny (model X.prog X.w) X.A (f (.int i t) (.int j u)) Q E s) :
    OpR X f (rI C λ i j=>.int (g i j)):=by
  intro pins s σ H x y v u Q I rx ry h
  obtain⟨i,j,rfl,rfl,hc,q⟩:=h
  obtain⟨t,rfl⟩:=rx
  obtain⟨t',rfl⟩:=ry
  exact rule i j t t' s _ _ hc ⟨.int (g i j),H,I.tok _,⟨_,rfl⟩,q⟩
theorem Sj{f:Value->Value->Sem Value}{g:Int->Int->Int}
    (rule:∀ (i j:Int) (t u:Tok) (s:Shared) (Q:Value->Shared->Prop) (E:Value->Shared->Prop),Q (.int (g i j) s.toks) { s with toks:=s.toks + 1 }->wpAny (model X.prog X.w) X.A (f (.int i t) (.int j u)) Q E s) :
    OpR X f (rI0 λ i j=>.int (g i j)):=by
  intro pins s σ H x y v u Q I rx ry h
  obtain⟨i,j,rfl,rfl,q⟩:=h
  obtain⟨t,rfl⟩:=rx
  obtain⟨t',rfl⟩:=ry
  exact rule i j t t' s _ _ ⟨.int (g i j),H,I.tok _,⟨_,rfl⟩,q⟩
theorem Ky{f:Value->Value->Sem Value}{g:Int->Int->Bool}
    (rule:∀ (i j:Int) (t u:Tok) (s:Shared) (Q:Value->Shared->Prop) (E:Value->Shared->Prop),Q (.bool (g i j)) s->wpAny (model X.prog X.w) X.A (f (.int i t) (.int j u)) Q E s) :
    OpR X f (rI0 λ i j=>.bl (g i j)):=by
  intro pins s σ H x y v u Q I rx ry h
  obtain⟨i,j,rfl,rfl,q⟩:=h
  obtain⟨t,rfl⟩:=rx
  obtain⟨t',rfl⟩:=ry
  exact rule i j t t' s _ _ ⟨.bl (g i j),H,I,rfl,q⟩
noncomputable def TW(i j:Int):Prop:=0 < j/\j < 1073741824
noncomputable def TV(i j:Int):Prop:=0 <= j/\j <= 1000000/\i.natAbs < 2 ^ 64
noncomputable def CMul(i j:Int):Prop:=(-(2 ^ 64) < i/\i < 2 ^ 64) ∨ (-(2 ^ 64) < j/\j < 2 ^ 64)
theorem CMul.ok{i j:Int}(h:CMul i j):IntMulOk i j:=by
  rcases h with⟨h1,h2⟩|⟨h1,h2⟩
  . exact .of_left (intBits_le_64 h1 h2)
  . exact .of_right (intBits_le_64 h1 h2)
theorem Ak:OpR X (binaryOp .Add) (rI0 λ i j=>.int (i + j)):=Sj λ _ _ _ _ _ _ _ q=>add_int q
theorem Sd:OpR X (binaryOp .Sub) (rI0 λ i j=>.int (i - j)):=Sj λ _ _ _ _ _ _ _ q=>sub_int q
theorem BZ:OpR X (binaryOp .Mult) (rI CMul λ i j=>.int (i * j)):=opI λ _ _ _ _ _ _ _ hc q=>mul_int q hc.ok
theorem HM:OpR X (binaryOp .FloorDiv) (rI TW λ i j=>.int (i / j)):=opI λ i j _ _ _ _ _ hc q=>by
  have h1:(0:Int) < j:=hc.1
  have h2:j < 1073741824:=hc.2
  exact floordiv_int (by omega) (by rw[Int.fdiv_eq_ediv_of_nonneg i (by omega)];exact q) (.inl (PyProof.noPylong_small (by omega)))
theorem Cb:OpR X (binaryOp .Mod) (rI (λ _ j=>0 < j) λ i j=>.int (i % j)):=opI λ i j _ _ _ _ _ hc q=>by
  have h1:(0:Int) < j:=hc
  exact mod_int' (by omega) (by rw[Int.fmod_eq_emod_of_nonneg i (by omega)];exact q)
theorem Se:OpR X (binaryOp .Pow) (rI TV λ i j=>.int (i ^ j.toNat)):=opI λ _ _ _ _ _ _ _ hc q=>pow_int_small hc.1 hc.2.1 hc.2.2 q
theorem unI{f:Value->Sem Value}{g:Int->Int}
    (rule:∀ (i:Int) (t:Tok) (s:Shared) (Q:Value->Shared->Prop) (E:Value->Shared->Prop),Q (.int (g i) s.toks) { s with toks:=s.toks + 1 }->wpAny (model X.prog X.w) X.A (f (.int i t)) Q E s) :
    UnR X f (rU λ i=>.int (g i)):=by
  intro pins s σ H x v Q I rx h
  obtain⟨i,rfl,q⟩:=h
  obtain⟨t,rfl⟩:=rx
  exact rule i t s _ _ ⟨.int (g i),H,I.tok _,⟨_,rfl⟩,q⟩
theorem RV:UnR X (unaryOp .USub) (rU λ i=>.int (-i)):=unI λ _ _ _ _ _ q=>neg_int q
end
noncomputable def IZ:V->V->Bool
  | .non,.non=>true | .non,.int _=>true | .int _,.non=>true | .non,.bl _=>true | .bl _,.non=>true | .non,.str _=>true | .str _,.non=>true
  | .int _,.int _=>true | .bl _,.bl _=>true | .str _,.str _=>true | .byt _,.byt _=>true
  | .int _,.str _=>true | .str _,.int _=>true | .bl _,.str _=>true | .str _,.bl _=>true
  | _,_=>false
noncomputable def rEq:R2:=λ x y H Q=>IZ x y=true/\Q (.bl (decide (x=y))) H
noncomputable def rNe:R2:=λ x y H Q=>IZ x y=true/\Q (.bl (!decide (x=y))) H
theorem KB{i j:Int}:decide (V.int i=V.int j)=(i == j):=by
  rw[Bool.eq_iff_iff]
  simp
theorem MZ{i j:Bool}:decide (V.bl i=V.bl j)=(i == j):=by
  rw[Bool.eq_iff_iff]
  simp
theorem KA{i j:Str}:decide (V.str i=V.str j)=(i == j):=by
  rw[Bool.eq_iff_iff]
  simp
theorem KC{i j:Array UInt8}:decide (V.byt i=V.byt j)=(i.toList == j.toList):=by
  rw[Bool.eq_iff_iff]
  cases i
  cases j
  simp
section
variable{X:Cx}{a b c:Expr}{ta tb tc:TE}{pos:Pos}
theorem Ae{pins:List (Addr × Obj)}{σ:St}{H:Hp}{s:Shared}{Q:VK}{k k':Bool}(I:Inv X pins σ H s)(q:Q (.bl k) H)(e:k=k'):EP X pins σ Q (.bool k') s:=by
  subst e
  exact⟨.bl k,H,I,rfl,q⟩
theorem Ge:OpR X (compareOp .Eq) rEq:=by
  intro pins s σ H x y v u Q I rx ry h
  obtain⟨hs,q⟩:=h
  cases x with
  | non=>
    cases rx
    cases y with
    | non=>cases ry;exact PySem.EqNone.eq_none_none (Ae I q (by simp))
    | bl j=>cases ry;exact PySem.EqNone.eq_none_bool (Ae I q (by simp))
    | int j=>obtain⟨t',rfl⟩:=ry;exact PySem.EqNone.eq_none_int (Ae I q (by simp))
    | str j=>obtain⟨t',rfl⟩:=ry;exact PySem.EqNone.eq_none_str (Ae I q (by simp))
    | _=>exact absurd (show false=true from hs) Bool.false_ne_true
  | bl i=>
    cases rx
    cases y with
    | non=>cases ry;exact PySem.EqNone.eq_bool_none (Ae I q (by simp))
    | bl j=>cases ry;exact eq_bool (Ae I q MZ)
    | str j=>obtain⟨t',rfl⟩:=ry;exact PySem.EqMixed.eq_bool_str (Ae I q (by simp))
    | _=>exact absurd (show false=true from hs) Bool.false_ne_true
  | int i=>
    obtain⟨t,rfl⟩:=rx
    cases y with
    | non=>cases ry;exact PySem.EqNone.eq_int_none (Ae I q (by simp))
    | int j=>obtain⟨t',rfl⟩:=ry;exact eq_int (Ae I q KB)
    | str j=>obtain⟨t',rfl⟩:=ry;exact PySem.EqMixed.eq_int_str (Ae I q (by simp))
    | _=>exact absurd (show false=true from hs) Bool.false_ne_true
  | str i=>
    obtain⟨t,rfl⟩:=rx
    cases y with
    | non=>cases ry;exact PySem.EqNone.eq_str_none (Ae I q (by simp))
    | bl j=>cases ry;exact PySem.EqMixed.eq_str_bool (Ae I q (by simp))
    | int j=>obtain⟨t',rfl⟩:=ry;exact PySem.EqMixed.eq_str_int (Ae I q (by simp))
    | str j=>obtain⟨t',rfl⟩:=ry;exact eq_str (Ae I q KA)
    | _=>exact absurd (show false=true from hs) Bool.false_ne_true
  | byt i=>
    obtain⟨t,rfl⟩:=rx
    cases y with
    | byt j=>obtain⟨t',rfl⟩:=ry;exact PySem.W.eq_bytes (Ae I q KC)
    | _=>exact absurd (show false=true from hs) Bool.false_ne_true
  | _=>cases y <;> exact absurd (show false=true from hs) Bool.false_ne_true
theorem Kx:OpR X (compareOp .NotEq) rNe:=by
  intro pins s σ H x y v u Q I rx ry h
  obtain⟨hs,q⟩:=h
  cases x with
  | non=>
    cases rx
    cases y with
    | non=>cases ry;exact PySem.EqNone.ne_none_none (Ae I q (by simp))
    | bl j=>cases ry;exact PySem.EqNone.ne_none_bool (Ae I q (by simp))
    | int j=>obtain⟨t',rfl⟩:=ry;exact PySem.EqNone.ne_none_int (Ae I q (by simp))
    | str j=>obtain⟨t',rfl⟩:=ry;exact PySem.EqNone.ne_none_str (Ae I q (by simp))
    | _=>exact absurd (show false=true from hs) Bool.false_ne_true
  | bl i=>
    cases rx
    cases y with
    | non=>cases ry;exact PySem.EqNone.ne_bool_none (Ae I q (by simp))
    | bl j=>cases ry;exact ne_bool (Ae I q (congrArg not MZ))
    | str j=>obtain⟨t',rfl⟩:=ry;exact PySem.EqMixed.ne_bool_str (Ae I q (by simp))
    | _=>exact absurd (show false=true from hs) Bool.false_ne_true
  | int i=>
    obtain⟨t,rfl⟩:=rx
    cases y with
    | non=>cases ry;exact PySem.EqNone.ne_int_none (Ae I q (by simp))
    | int j=>obtain⟨t',rfl⟩:=ry;exact ne_int (Ae I q (congrArg not KB))
    | str j=>obtain⟨t',rfl⟩:=ry;exact PySem.EqMixed.ne_int_str (Ae I q (by simp))
    | _=>exact absurd (show false=true from hs) Bool.false_ne_true
  | str i=>
    obtain⟨t,rfl⟩:=rx
    cases y with
    | non=>cases ry;exact PySem.EqNone.ne_str_none (Ae I q (by simp))
    | bl j=>cases ry;exact PySem.EqMixed.ne_str_bool (Ae I q (by simp))
    | int j=>obtain⟨t',rfl⟩:=ry;exact PySem.EqMixed.ne_str_int (Ae I q (by simp))
    | str j=>obtain⟨t',rfl⟩:=ry;exact ne_str (Ae I q (congrArg not KA))
    | _=>exact absurd (show false=true from hs) Bool.false_ne_true
  | byt i=>
    obtain⟨t,rfl⟩:=rx
    cases y with
    | byt j=>obtain⟨t',rfl⟩:=ry;exact PySem.W.ne_bytes (Ae I q (congrArg not KC))
    | _=>exact absurd (show false=true from hs) Bool.false_ne_true
  | _=>cases y <;> exact absurd (show false=true from hs) Bool.false_ne_true
theorem Ob:OpR X (compareOp .Lt) (rI0 λ i j=>.bl (decide (i < j))):=Ky λ _ _ _ _ _ _ _ q=>lt_int q
theorem Tw:OpR X (compareOp .LtE) (rI0 λ i j=>.bl (decide (i <= j))):=Ky λ _ _ _ _ _ _ _ q=>le_int q
theorem IJ:OpR X (compareOp .Gt) (rI0 λ i j=>.bl (decide (j < i))):=Ky λ _ _ _ _ _ _ _ q=>gt_int q
theorem Tx:OpR X (compareOp .GtE) (rI0 λ i j=>.bl (decide (j <= i))):=Ky λ _ _ _ _ _ _ _ q=>ge_int q
theorem OpR.or{f:Value->Value->Sem Value}{r r':R2}(h:OpR X f r)(h':OpR X f r'):OpR X f (λ x y H Q=>r x y H Q ∨ r' x y H Q):=by
  intro pins s σ H x y v u Q I rx ry q
  rcases q with q|q
  . exact h pins s σ H x y v u Q I rx ry q
  . exact h' pins s σ H x y v u Q I rx ry q
theorem Gf(b:Expr){op:CmpOp}(h:op ≠ .In:=by decide)(h2:op ≠ .NotIn:=by decide):behindInMarks op b=false:=by
  have e1:(op == CmpOp.In)=false:=by cases op <;> first|rfl|exact absurd rfl h
  have e2:(op == CmpOp.NotIn)=false:=by cases op <;> first|rfl|exact absurd rfl h2
  cases b <;> simp[behindInMarks,e1,e2]
theorem Q9{op:CmpOp}{r:R2}(ho:OpR X (compareOp op) r)(ha:PE X a ta)(hb:PE X b tb)(hm:behindInMarks op b=false):PE X (.Compare a [op] [b] pos) (tOp r ta tb):=by
  intro pins s σ H Q I h
  exact wpAny_Compare1 (O9 ha hb I h λ v u s2 x y H2 I2 rx ry q=>ho pins s2 σ H2 x y v u Q I2 rx ry q) hm
noncomputable def GS(t:TE):TT:=λ σ H Q=>t σ H λ x H'=>∃ k,x=.bl k/\Q k H'
theorem HJ{op:CmpOp}{r:R2}(ho:OpR X (compareOp op) r)(ha:PE X a ta)(hb:PE X b tb)(hm:behindInMarks op b=false):PT X (.Compare a [op] [b] pos) (GS (tOp r ta tb)):=by
  intro pins s σ H Q I h
  refine wpAny_isTrue_Compare1 (thn (ha pins s σ H _ I h) λ v s1 ⟨x,H1,I1,r1,q1⟩=>thn (hb pins s1 σ H1 _ I1 q1) λ u s2 ⟨y,H2,I2,r2,q2⟩=>
    thn (ho pins s2 σ H2 x y v u _ I2 r1 r2 q2) λ c s3 ⟨z,H3,I3,r3,k,e,q3⟩=>?_) hm
  subst e
  cases r3
  exact wpAny_truthy_bool ⟨H3,I3,q3⟩
noncomputable def Ja(K:PySem.W.Frag)(x:V)(H:Hp)(k:Bool):Prop:=
  match x with
  | .non=>k=false
  | .bl b=>k=b
  | .int i=>k=(i != 0)
  | .str y=>y.length <= sizeLine/\k=((y.length:Int) != 0)
  | .byt y=>y.size <= sizeLine/\k=((y.size:Int) != 0)
  | .ref p=>(∃ xs,SqL K H p xs/\k=!xs.isEmpty) ∨ (∃ xs,SqT K H p xs/\k=!xs.isEmpty) ∨ ∃ kvs,H p=some (.dK kvs)/\k=!kvs.isEmpty
  | _=>False
theorem LD{κ:Type}{kvs:List (κ × V)}{vs:List (κ × Value)}(r:KV kvs vs):(!vs.isEmpty)=!kvs.isEmpty:=by
  cases r <;> rfl
theorem Gm{xs:List V}{its:List Value}(r:Vals xs its):(!its.toArray.isEmpty)=!xs.isEmpty:=by
  cases r <;> simp
theorem FR:(sizeLine:Nat) < 2 ^ 63:=by rw[sizeLine_eq];decide
theorem RX:Uk X (λ x H Q=>∃ k,Ja X.K x H k/\Q k H):=by
  intro pins s σ H x v Q I rx h
  obtain⟨k,e,q⟩:=h
  have hl:=FR
  have hs:sizeLine=16777216:=sizeLine_eq
  cases x with
  | non=>
    cases rx
    have e':k=false:=e
    subst e'
    exact truthy_none ⟨H,I,q⟩
  | bl b=>
    cases rx
    have e':k=b:=e
    subst e'
    exact wpAny_truthy_bool ⟨H,I,q⟩
  | int i=>
    obtain⟨t,rfl⟩:=rx
    have e':k=(i != 0):=e
    subst e'
    exact PySem.P.truthy_int ⟨H,I,q⟩
  | str y=>
    obtain⟨t,rfl⟩:=rx
    obtain⟨hy,e'⟩:y.length <= sizeLine/\k=((y.length:Int) != 0):=e
    subst e'
    exact PySem.P.truthy_str (by omega) ⟨H,I.tok _,q⟩
  | byt y=>
    obtain⟨t,rfl⟩:=rx
    obtain⟨hy,e'⟩:y.size <= sizeLine/\k=((y.size:Int) != 0):=e
    subst e'
    exact PySem.W.truthy_bytes (by omega) ⟨H,I.tok _,q⟩
  | ref p=>
    cases rx
    have e':(∃ xs,SqL X.K H p xs/\k=!xs.isEmpty) ∨ (∃ xs,SqT X.K H p xs/\k=!xs.isEmpty) ∨ ∃ kvs,H p=some (.dK kvs)/\k=!kvs.isEmpty:=e
    rcases e' with⟨xs,hx,e'⟩|⟨xs,hx,e'⟩|⟨kvs,hx,e'⟩
    . subst e'
      obtain⟨its,r,pl,hz⟩:=I.list hx
      have hlen:=r.length
      exact wpAny_truthy_list pl.isList (by simp only[List.size_toArray];omega) ⟨H,I.tok _,by rw[Gm r];exact q⟩
    . subst e'
      obtain⟨its,r,pl,hz⟩:=I.tuple hx
      have hlen:=r.length
      exact truthy_tuple pl (by simp only[List.size_toArray];omega) ⟨H,I.tok _,by rw[Gm r];exact q⟩
    . subst e'
      obtain⟨hz,hS,vs,r,m⟩:kvs.length <= sizeLine/\(p == sysModules)=false/\∃ vs,KV kvs vs/\s.heap.DictOf (HN X.prog X.w) p vs:=I.hok p _ hx
      have hlen:kvs.length=vs.length:=Paired.length r
      exact wpAny_truthy_dict hS m (by omega) ⟨H,I.tok _,by rw[LD r];exact q⟩
  | _=>exact(show False from e).elim
theorem Nb(ha:PE X a ta)(he:∀ whole,isTrue a X.env whole=(do let v <- whole;standAt a.pos;holding [v] (truthy v))) :
    PT X a (λ σ H Q=>ta σ H λ x H'=>∃ k,Ja X.K x H' k/\Q k H'):=by
  intro pins s σ H Q I h
  exact isTrue_plain (thn (ha pins s σ H _ I h) λ v s1 ⟨x,H1,I1,r1,q1⟩=>RX pins s1 σ H1 x v Q I1 r1 q1) (he _)
theorem Ct{x:V}{us:List Value}(r:Vals [x] us):∃ u,us=[u]/\RelV x u:=by
  cases r with
  | cons r1 r2=>cases r2;exact⟨_,rfl,r1⟩
theorem OE{x y:V}{us:List Value}(r:Vals [x,y] us):∃ u w',us=[u,w']/\RelV x u/\RelV y w':=by
  cases r with
  | cons r1 r2=>
    cases r2 with
    | cons r3 r4=>cases r4;exact⟨_,_,rfl,r1,r3⟩
theorem Hr(hc:X.calm=true):CallR X (.builtin "min") (λ xs H Q=>∃ i j,xs=[.int i,.int j]/\Q (.int (if j < i then j else i)) H):=by
  intro pins s σ H xs us Q I r h
  obtain⟨i,j,rfl,q⟩:=h
  obtain⟨u,w',rfl,⟨t,rfl⟩,⟨t',rfl⟩⟩:=OE r
  refine min_two_ints (I.ok.hd hc) λ h' tk k=>⟨_,H,I.kept k,?_,q⟩
  by_cases hj:j < i
  . rw[if_pos hj,if_pos hj];exact⟨_,rfl⟩
  . rw[if_neg hj,if_neg hj];exact⟨_,rfl⟩
end
end L2
namespace L2
open PySem PySem.Spec PyProof.Rows
theorem Hl{h:Heap}{dx:Addr}{mA:Str->Option Value}(n:h.Ns1 dx mA):∃ od,h.get? dx=some od/\∀ name,PySem.W.lookIn name od=some (mA name):=by
  obtain⟨o,es,ep,ho,hd,hk,_,hm⟩:=n
  refine⟨o,ho,λ name=>?_⟩
  have e:=hm name
  unfold nsFind findBy at e
  rw[<- Array.find?_toList]at e
  unfold PySem.W.lookIn
  rw[hd]
  dsimp only
  split
  . rename_i y q
    rw[q]at e
    exact congrArg some e
  . rename_i q
    rw[q]at e
    have a:es.toList.any (·.refKey)=false:=by
      rw[List.any_eq_false]
      intro y hy
      obtain⟨z,t,hkey⟩:=hk y (Array.mem_toList_iff.mp hy)
      simp[DictEntry.refKey,hkey]
    have a':¬ es.toList.any (·.refKey)=true:=by rw[a];exact Bool.false_ne_true
    rw[if_neg a']
    exact congrArg some e
section
variable{prog:Program}{w:World}{A:Around}{E:Value->Shared->Prop}{s:Shared}{K:PySem.W.Frag}{x dx C f:Addr}{mA:Str->Option Value}{name:Str}{v:Value}
end
theorem RelO.some_of{v:V}{o:Option Value}(r:RelO (some v) o):∃ u,o=some u/\RelV v u:=by
  cases o with
  | none=>exact(show False from r).elim
  | some u=>exact⟨u,rfl,r⟩
theorem MP{v:V}{u:Value}(r:RelV v u):PySem.W.handedIn u=true:=by
  cases v with
  | non=>cases(show u=Value.none from r);rfl
  | bl b=>cases(show u=Value.bool b from r);rfl
  | int i=>obtain⟨t,e⟩:=(show ∃ t,u=Value.int i t from r);cases e;rfl
  | str x=>obtain⟨t,e⟩:=(show ∃ t,u=Value.str x t from r);cases e;rfl
  | byt b=>obtain⟨t,e⟩:=(show ∃ t,u=Value.bytes b t from r);cases e;rfl
  | flt b=>obtain⟨t,e⟩:=(show ∃ t,u=Value.float b t from r);cases e;rfl
  | ref a=>cases(show u=Value.ref a from r);rfl
  | ty n=>cases(show u=Value.type n from r);rfl
section
variable{P:Program}{w:World}{H H':Hp}{h h':Heap}{a C dx:Addr}{fs fs':List (Str × V)}
end
noncomputable def DJ(K:PySem.W.Frag)(C:Addr)(f:Str):Prop:=PySem.W.findIn K (.ref C) f=some none
section
variable{X:Cx}{pins:List (Addr × Obj)}{σ:St}{H:Hp}{s:Shared}{a C dx:Addr}{fs:List (Str × V)}{f:Str}{v:V}{A:Around}{E:Value->Shared->Prop}
theorem Qt{prog:Program}{w:World}{env:Env}{e:Expr}{f:Str}{pos:Pos}{s:Shared}{Q:Value->Shared->Prop}(hb:attributeBase e f env (eval e env)=eval e env)
    (h:wpAny (model prog w) A (eval e env) (λ o s₁=>wpAny (model prog w) A (getAttr o f true) Q E s₁) E s):wpAny (model prog w) A (eval (.Attribute e f pos) env) Q E s:=
  Attribute_any_ h (by rw[arm_eval_Attribute,hb])
end
section
variable{X:Cx}{o e value:Expr}{f:Str}{pos pos' tpos:Pos}{ta tv:TE}
end
section
variable{X:Cx}{pins:List (Addr × Obj)}{σ:St}{H:Hp}{s:Shared}{A:Around}{E:Value->Shared->Prop}{Q:Value->Shared->Prop}{c:Value}{b:Bool}
end
end L2
namespace L2
open PySem PySem.Spec PyProof.Rows
structure Room(k:Nat)(A:Around):Prop where
  hd:A.handled=none
  dp:A.depth + 3 * k + 5 < recursionLimit
  un:A.units + 16 * k + 200 < cLine
  gd:A.guards=some []
theorem Room.mono{j k:Nat}{A:Around}(r:Room k A)(h:j <= k):Room j A:=⟨r.hd,by have:=r.dp;omega,by have:=r.un;omega,r.gd⟩
theorem Room.deeper{k:Nat}{A:Around}(r:Room (k + 1) A)(env:Env):Room k (A.deeper env):=
  ⟨r.hd,by have:=r.dp;show A.depth + 1 + 3 * k + 5 < _;omega,by have:=r.un;show A.units + 3 + 16 * k + 200 < _;omega,by first|exact r.gd|(simpa [Around.deeper,Around.under,Code.guards,Code.isGuard,pushGuards]using r.gd)⟩
theorem LA{A:Around}{C:Addr}{us:List Value}{kw:List (Str × Value)}:(A.under (.builtin "type.__call__" ⟨.ref C :: us,kw⟩)).depth=A.depth + 1:=by
  first|rfl|simp[Around.under,Code.weight,Code.isCreation,Code.isGuard,Code.isCaller,Code.frames,Code.isFrame,guardIds]
theorem L9{A:Around}{C:Addr}{us:List Value}{kw:List (Str × Value)}:(A.under (.builtin "type.__call__" ⟨.ref C :: us,kw⟩)).units=A.units + 1:=by
  first|rfl|simp[Around.under,Code.cUnits,Code.frames,Code.isFrame]
theorem Room.make{k:Nat}{A:Around}(r:Room (k + 1) A)(C:Addr)(us:List Value)(kw:List (Str × Value)):Room k (A.under (.builtin "type.__call__" ⟨.ref C :: us,kw⟩)):=
  ⟨r.hd,by have:=r.dp;rw[LA];omega,by have:=r.un;rw[L9];omega,by first|exact r.gd|(simpa [Around.under,Code.guards,Code.isGuard,guardIds,pushGuards]using r.gd)⟩
theorem Room.depth{k:Nat}{A:Around}(r:Room k A):A.depth < recursionLimit:=by have:=r.dp;omega
theorem Room.units{k:Nat}{A:Around}(r:Room k A):A.units + 64 < cLine:=by have:=r.un;omega
noncomputable def CN:TA:=λ _ H Q=>Q [] H
noncomputable def Bh(ta:TE)(tr:TA):TA:=λ σ H Q=>ta σ H λ x H1=>tr σ H1 λ xs H2=>Q (x :: xs) H2
section
variable{X:Cx}{e:Expr}{es:List Expr}{te:TE}{t:TA}{pos:Pos}
theorem Br:PA X [] CN:=λ _ _ _ _ H Q I h=>Calls.spliced_nil ⟨[],H,I,.nil,h⟩
theorem Am(ha:PE X e te)(hr:PA X es t)(hs:starEach (e :: es) X.env=(false,eval e X.env) :: starEach es X.env:=by rfl):PA X (e :: es) (Bh te t):=by
  intro pos pins s σ H Q I h
  rw[hs]
  show wpAny _ _ (spliced ((false,eval e X.env) :: backTo pos (starEach es X.env))) _ _ s
  refine Calls.spliced_cons (thn (ha pins s σ H _ I h) λ u s1 ⟨x,H1,I1,r1,q1⟩=>?_)
  exact thn (hr pos pins s1 σ H1 _ I1 q1) λ us s2 ⟨xs,H2,I2,r2,q2⟩=>⟨x :: xs,H2,I2,.cons r1 r2,q2⟩
noncomputable def Mz(t:TA):TE:=λ σ H Q=>t σ H λ xs H1=>xs.length <= sizeLine/\∀ p,H1 p=none->Q (.ref p) (upd H1 p (.tup xs))
noncomputable def N2(t:TA):TE:=λ σ H Q=>t σ H λ xs H1=>xs.length <= sizeLine/\∀ p,H1 p=none->Q (.ref p) (upd H1 p (.lst xs))
theorem J9{x1}(h:PA X es t):PE X (.Tuple es x1 pos) (Mz t):=by
  intro pins s σ H Q I hq
  refine wpAny_Tuple_spliced (thn (h pos pins s σ H _ I hq) λ us s1 ⟨xs,H1,I1,r,z,q⟩=>⟨by rw[<- r.length];exact z,?_⟩)
  have hf:H1 s1.heap.objs.size=none:=I1.hok.fresh (Nat.le_refl _)
  refine⟨.ref s1.heap.objs.size,upd H1 s1.heap.objs.size (.tup xs),I1.laid (t':=s1.toks) (λ b u e=>Heap.get?_push_of_some _ e) (Nat.le_refl _) ?_,rfl,q _ hf⟩
  exact⟨z,us,r,⟨_,Heap.get?_push_size _ rfl,rfl,⟨_,rfl⟩,rfl⟩⟩
theorem SZ(h:PA X es t):PE X (.List es pos) (N2 t):=by
  intro pins s σ H Q I hq
  refine wpAny_List_spliced (thn (h pos pins s σ H _ I hq) λ us s1 ⟨xs,H1,I1,r,z,q⟩=>⟨by rw[<- r.length];exact z,?_⟩)
  have hf:H1 s1.heap.objs.size=none:=I1.hok.fresh (Nat.le_refl _)
  refine⟨.ref s1.heap.objs.size,upd H1 s1.heap.objs.size (.lst xs),I1.laid (t':=s1.toks) (λ b u e=>Heap.get?_push_of_some _ e) (Nat.le_refl _) ?_,rfl,q _ hf⟩
  exact⟨z,us,0,r,Heap.get?_push_size _ rfl⟩
end
noncomputable abbrev Sp:=List V->Hp->VK->XK->Prop
noncomputable abbrev CXT:=List Env->Hp->Shared->XK->Value->Shared->Prop
structure Env0(P:Program)(w:World)(K:PySem.W.Frag)(mg:Str->Option Value)(base:Heap)(A:Around)(outer:List Env)(s:Shared)(H:Hp):Prop where
  frames:A.frames=some outer
  mod:Mod K mg base
  bs:∀ b o,base.get? b=some o->s.heap.get? b=some o/\H b=none
  bsz:base.objs.size <= s.heap.objs.size
  funs:s.heap.FunFrames base outer
  frf:∀ b ∈ frs outer,H b=none
  hok:HOk P w H s.heap
  bare:AllBare s.gens
noncomputable def CE(outer:List Env)(P:Program)(w:World)(H:Hp)(s:Shared)(Q:VK)(u:Value)(s':Shared):Prop:=
  ∃ v H',s'.os=s.os/\AllBare s'.gens/\Un (frs outer) [] H H' s.heap s'.heap/\HOk P w H' s'.heap/\RelV v u/\Q v H'
noncomputable def CR(CX:CXT)(outer:List Env)(P:Program)(w:World)(H:Hp)(s:Shared)(Q:VK)(E:XK)(r:Result)(s':Shared):Prop:=
  match r with
  | .ok (.ret u)=>CE outer P w H s Q u s'
  | .ok _=>False
  | .error e=>CX outer H s E e s'
structure FnOk(P:Program)(w:World)(K:PySem.W.Frag)(mg:Str->Option Value)(base:Heap)(CX:CXT)(k:Nat)(f:Addr)(fd:FuncData)(ps:List Str)(sp:Sp):Prop where
  len:∀ vs H Q E,sp vs H Q E->vs.length=ps.length
  run:∀ (A:Around) (outer:List Env) (s:Shared) (H:Hp) (args:Args) (us:List Value) (vs:List V) (Q:VK) (E:XK),Room k A->Env0 P w K mg base A outer s H->BindsTo s fd args (ps.zip us)->Vals vs us->sp vs H Q E ->
    codeAny (model P w) A (.call (.ref f) args) (CR CX outer P w H s Q E) s
theorem FnOk.mono{P:Program}{w:World}{K:PySem.W.Frag}{mg:Str->Option Value}{base:Heap}{CX:CXT}{j k:Nat}{f:Addr}{fd:FuncData}{ps:List Str}{sp:Sp}(F:FnOk P w K mg base CX j f fd ps sp)(h:j <= k) :
    FnOk P w K mg base CX k f fd ps sp:=⟨F.len,λ A outer s H args us vs Q E hr=>F.run A outer s H args us vs Q E (hr.mono h)⟩
theorem Env0.make{P:Program}{w:World}{K:PySem.W.Frag}{mg:Str->Option Value}{base:Heap}{A:Around}{outer:List Env}{s:Shared}{H:Hp}(e:Env0 P w K mg base A outer s H)(C:Addr)(us:List Value)(kw:List (Str × Value)) :
    Env0 P w K mg base (A.under (.builtin "type.__call__" ⟨.ref C :: us,kw⟩)) outer s H:=⟨by first|exact e.frames|(simpa [Around.under,Code.envs,Code.isFrame,pushEnvs]using e.frames),e.mod,e.bs,e.bsz,e.funs,e.frf,e.hok,e.bare⟩
section
variable{X:Cx}{pins:List (Addr × Obj)}{σ:St}{H:Hp}{s s':Shared}
theorem Inv.env0(I:Inv X pins σ H s):Env0 X.prog X.w X.K X.mg X.base X.A X.stack s H:=
  ⟨I.ok.frames,I.ok.mod,I.bs,Nat.le_trans I.ok.bsz I.sz,I.stack,I.stkFree,I.hok,I.bare⟩
theorem Inv.after{Q:VK}{u:Value}(I:Inv X pins σ H s)(h:CE X.stack X.prog X.w H s Q u s'):EP X pins σ Q u s':=by
  obtain⟨v,H',os,bare,un,hok,r,q⟩:=h
  obtain⟨hh,g,d,t,os'⟩:=s'
  obtain rfl:os'=s.os:=os
  exact⟨v,H',I.call (h':=hh) (g':=g) (d':=d) (t':=t) (ch:=[]) un hok bare (λ b z=>absurd z (by simp)),r,q⟩
end
noncomputable def E1(sp:Sp)(dvs:List V)(E:XK)(t:TA):TE:=λ σ H Q=>t σ H λ vs H1=>sp (vs ++ dvs) H1 Q E
noncomputable def Binds(K:PySem.W.Frag)(fd:FuncData)(ps:List Str)(ds:List Value):Prop:=
  ∀ (s:Shared) (us:List Value),K.In s.heap->(us ++ ds).length=ps.length->BindsTo s fd ⟨us,[]⟩ (ps.zip (us ++ ds))
theorem Binds.all{K:PySem.W.Frag}{fd:FuncData}{ps:List Str}(h:∀ us:List Value,us.length=ps.length->bindArgs fd ⟨us,[]⟩=pure (ps.zip us)):Binds K fd ps []:=λ s us _ hl=>by
  rw[List.append_nil]at hl ⊢
  exact .of_eq (h us hl)
noncomputable def Jd(CX:CXT)(X:Cx)(E:XK):Prop:=∀ (pins:List (Addr × Obj)) (σ:St) (H:Hp) (s:Shared) (e:Value) (s':Shared),Inv X pins σ H s->CX X.stack H s E e s'->X.xe e s'
section
variable{X:Cx}{CX:CXT}{k:Nat}{f C:Addr}{fd:FuncData}{ps:List Str}{sp:Sp}{dvs:List V}{ds:List Value}{E:XK}{x m:Str}{p pos apos:Pos}{e o:Expr}{es:List Expr}{ta:TE}{t:TA}
theorem Rb{pins:List (Addr × Obj)}{σ:St}{H:Hp}{s:Shared}{Q:VK}{us:List Value}{vs:List V}(F:FnOk X.prog X.w X.K X.mg X.base CX k f fd ps sp)(hr:Room k X.A)(hb:Binds X.K fd ps ds)(hd:Vals dvs ds)(hx:Jd CX X E)
    (I:Inv X pins σ H s) (r:Vals vs us) (h:sp (vs ++ dvs) H Q E):wpAny (model X.prog X.w) X.A (call (.ref f) us) (EP X pins σ Q) X.xe s:=by
  have r2:Vals (vs ++ dvs) (us ++ ds):=r.append hd
  have hl:(us ++ ds).length=ps.length:=by rw[<- r2.length];exact F.len _ _ _ _ h
  refine wpAny_call (codeAny_mono (F.run X.A X.stack s H ⟨us,[]⟩ (us ++ ds) (vs ++ dvs) Q E hr I.env0 (hb s us I.kIn hl) r2 h) λ r s' hq=>?_)
  cases r with
  | error e=>exact hx pins σ H s e s' I hq
  | ok fl=>
    cases fl with
    | ret u=>exact I.after hq
    | next=>exact False.elim hq
    | brk=>exact False.elim hq
    | cont=>exact False.elim hq
theorem QB(F:FnOk X.prog X.w X.K X.mg X.base CX k f fd ps sp)(hr:Room k X.A)(hg:Gl X x)(hm:X.mg x=some (.ref f))(hk:PySem.W.keepIn X.K (.ref f)=true)(hb:Binds X.K fd ps ds)(hd:Vals dvs ds)(hx:Jd CX X E)
    (ha:PA X (e :: es) t) (hdb:(x == ("__debug__":Str))=false:=by decide) (he:starEach (e :: es) X.env=(false,eval e X.env) :: starEach es X.env:=by rfl) (hpl:(backTo pos (starEach es X.env)).any (·.1)=false:=by rfl) :
    PE X (.Call (.Name x p) (e :: es) [] pos) (E1 sp dvs E t):=by
  intro pins s σ H Q I h
  refine wpAny_Call_Name_kw (EV I hg hm ?_ hdb)
  refine PySem.W.callWith_K (h₀:=X.base) I.ok.mod.kin hk (thn (ha pos pins s σ H _ I h) λ us s1 ⟨vs,H1,I1,r,q⟩=>⟨I1.kIn,?_⟩) he hpl
  exact Rb F hr hb hd hx I1 r q
end
section
variable{X:Cx}{CX:CXT}{k:Nat}{f C:Addr}{fd:FuncData}{ps ks:List Str}{sp:Sp}{E:XK}{x m:Str}{p pos apos kpos:Pos}{e o:Expr}{es:List Expr}{kws:List Keyword}{te ta:TE}{t tk:TA}{nm:Option Str}
variable{g:List Value->List Value->List Value}{gV:List V->List V->List V}
end
structure FnScope(N P:List Str)(sc:Scope):Prop where
  kind:sc.kind=.function
  co:sc.isCoroutine=false
  gen:sc.isGenerator=false
  nd:N.Nodup
  pre:N.take P.length=P
  par:∀ x ∈ P,sc.names.lookup x=some .local ∨ sc.names.lookup x=some .cell
  nofree:∀ y ∈ sc.names,y.2 ≠ .free
theorem Ht{kindOf:Str->Option NameKind}{x:Str}:∀ {binds:List (Str × Value)} {m:Str->Option Value},(∀ v,(x,v) ∉ binds)->bindL kindOf binds m x=m x
  | [],_,_=>rfl
  | (n,v) :: r,m,h=>by
    unfold bindL
    rw[Ht λ w hw=>h w (List.mem_cons_of_mem _ hw)]
    split
    . have:x ≠ n:=by rintro rfl;exact h v List.mem_cons_self
      simp[this]
    . rfl
theorem Hv{kindOf:Str->Option NameKind}{x:Str}:∀ {binds:List (Str × Value)} {m:Str->Option Value},(∀ v,(x,v) ∉ binds)->bindC kindOf binds m x=m x
  | [],_,_=>rfl
  | (n,v) :: r,m,h=>by
    unfold bindC
    rw[Hv λ w hw=>h w (List.mem_cons_of_mem _ hw)]
    split
    . rfl
    . have:x ≠ n:=by rintro rfl;exact h v List.mem_cons_self
      simp[this]
theorem Hu{kindOf:Str->Option NameKind}{x:Str}{v:Value}:∀ {P:List Str} {vs:List Value} {i:Nat} {m:Str->Option Value},P.Nodup->P[i]? = some x->vs[i]? = some v->kindOf x=some .local ->
    bindL kindOf (P.zip vs) m x=some v
  | [],_,_,_,_,h,_,_=>by simp at h
  | _ :: _,[],_,_,_,_,h,_=>by simp at h
  | p :: P,w :: vs,0,m,nd,h1,h2,hk=>by
    simp at h1 h2;subst h1;subst h2
    show bindL kindOf ((p,w) :: P.zip vs) m p=_
    unfold bindL
    rw[Ht λ v hv=>(List.nodup_cons.mp nd).1 (List.of_mem_zip hv).1,if_pos hk]
    simp
  | p :: P,w :: vs,i + 1,m,nd,h1,h2,hk=>by
    show bindL kindOf ((p,w) :: P.zip vs) m x=_
    unfold bindL
    exact Hu (i:=i) (List.nodup_cons.mp nd).2 (by simpa using h1) (by simpa using h2) hk
theorem Hw{kindOf:Str->Option NameKind}{x:Str}{v:Value}:∀ {P:List Str} {vs:List Value} {i:Nat} {m:Str->Option Value},P.Nodup->P[i]? = some x->vs[i]? = some v->kindOf x ≠ some .local ->
    bindC kindOf (P.zip vs) m x=some v
  | [],_,_,_,_,h,_,_=>by simp at h
  | _ :: _,[],_,_,_,_,h,_=>by simp at h
  | p :: P,w :: vs,0,m,nd,h1,h2,hk=>by
    simp at h1 h2;subst h1;subst h2
    show bindC kindOf ((p,w) :: P.zip vs) m p=_
    unfold bindC
    rw[Hv λ v hv=>(List.nodup_cons.mp nd).1 (List.of_mem_zip hv).1,if_neg hk]
    simp
  | p :: P,w :: vs,i + 1,m,nd,h1,h2,hk=>by
    show bindC kindOf ((p,w) :: P.zip vs) m x=_
    unfold bindC
    exact Hw (i:=i) (List.nodup_cons.mp nd).2 (by simpa using h1) (by simpa using h2) hk
noncomputable def CC(N:List Str)(vs:List V):St:=vs.map some ++ List.replicate (N.length - vs.length) none
noncomputable def Dw(CX:CXT)(P:Program)(w:World)(K:PySem.W.Frag)(mg:Str->Option Value)(base:Heap)(N:List Str)(qual:Str)(scope:Scope)(f:Addr)(cd:Value)(A:Around)(outer:List Env)(s:Shared)(H:Hp)(E:XK):Cx where
  prog:=P
  w:=w
  K:=K
  mg:=mg
  base:=base
  A:=A.deeper (envOfC qual scope s.heap.objs.size f cd)
  N:=N
  s₀:=s
  H₀:=H
  env:=envOfC qual scope s.heap.objs.size f cd
  outer:=outer
  stack:=envOfC qual scope s.heap.objs.size f cd :: outer
  ex:=[]
  calm:=true
  fn:=λ _=>true
  pn:=[]
  xe:=λ e s'=>wpAny (model P w) (A.deeper (envOfC qual scope s.heap.objs.size f cd)) (leaving (envOfC qual scope s.heap.objs.size f cd) e) (λ _ s''=>CX outer H s E e s'') (λ e' s''=>CX outer H s E e' s'') s'
theorem JV{sc:Scope}{n:Nat}{x:Str}(h:sc.names.lookup x=some .cell):∃ c,(cellsFrom n sc.names []).lookup x=some c:=by
  have q:=PySem.W.cellsFrom_some sc.names n [] (.inl h)
  exact Option.isSome_iff_exists.mp q
theorem ML{CX:CXT}{P:Program}{w:World}{K:PySem.W.Frag}{mg:Str->Option Value}{base:Heap}{N ps:List Str}{qual:Str}{scope:Scope}{f:Addr}{cd:Value}{A:Around}{outer:List Env}{s s1:Shared}{H:Hp}{E:XK}{us:List Value}{vs:List V}
    (S:FnScope N ps scope) (hd:A.handled=none) (e0:Env0 P w K mg base A outer s H) (hl:vs.length=ps.length) (r:Vals vs us)
    (x:InCallC s s.heap.objs.size (bindL (envOfC qual scope s.heap.objs.size f cd).kindOf (ps.zip us) λ _=>none) (cellsFrom (s.heap.objs.size + 1) scope.names []) (bindC (envOfC qual scope s.heap.objs.size f cd).kindOf (ps.zip us) λ _=>none) s1) :
    Inv (Dw CX P w K mg base N qual scope f cd A outer s H E) [] (CC N vs) H s1:=by
  have hpl:ps.length <= N.length:=by have:=congrArg List.length S.pre;rw[List.length_take]at this;omega
  obtain⟨h1,tk,rfl,hk⟩:=x.done
  have noA:∀ b:Addr,b ∉ (Dw CX P w K mg base N qual scope f cd A outer s H E).ex:=λ b z=>absurd (show b ∈ ([]:List Addr)from z) (by simp)
  refine⟨⟨e0.mod,S.kind,rfl,rfl,Nat.le_refl _,λ y z c h1 h2=>?_,λ y hy=>?_,λ y c _ h=>?_,λ _=>hd,Around.frames_deeper e0.frames,.inr ⟨rfl,rfl⟩,λ b z=>absurd z (noA b),e0.bs,e0.bsz,λ b _ _=>noA b,λ b z=>absurd z (noA b),e0.funs,e0.frf⟩,
    rfl,e0.bare,Un.kept hk,⟨_,x.toInCall.ns,λ i y v h1 h2 h3=>?_⟩,λ y c h=>⟨_,x.cell y c h⟩,e0.hok.fresh (Nat.le_refl _),λ y c h=>?_,λ p hp=>absurd (show p ∈ ([]:List (Addr × Obj))from hp) (by simp),e0.hok.kept hk,?_⟩
  . exact name_of_addr x.apart (PySem.mem_of_lookup h1) (PySem.mem_of_lookup h2)
  . have hy:scope.names.lookup y=some .cell ∨ scope.names.lookup y=some .free:=hy
    rcases hy with hy|hy
    . exact JV hy
    . exact absurd rfl (S.nofree _ (PySem.mem_of_lookup hy))
  . exact Nat.le_of_lt (x.above y c (PySem.mem_of_lookup h))
  . have hi:i < vs.length:=by
      unfold CC at h2
      by_cases hi:i < vs.length
      . exact hi
      . rw[List.getElem?_append_right (by simpa using hi)]at h2
        rw[List.getElem?_replicate]at h2
        split at h2 <;> cases h2
    have ha:vs[i]? = some v:=by
      unfold CC at h2
      rw[List.getElem?_append_left (by simpa using hi),List.getElem?_map]at h2
      cases e:vs[i]? with
      | none=>rw[e]at h2;cases h2
      | some a=>rw[e]at h2;cases h2;rfl
    obtain⟨u,hu,rv⟩:=r.get ha
    have hp:ps[i]? = some y:=by
      rw[<- S.pre,List.getElem?_take_of_lt (by omega)];exact h1
    have ndP:ps.Nodup:=by rw[<- S.pre];exact S.nd.sublist (List.take_sublist _ _)
    refine⟨u,rv,?_⟩
    rcases S.par y (List.mem_of_getElem? hp)with k|k
    . exact .inl ⟨k,Hu ndP hp hu k⟩
    . obtain⟨c,e⟩:=JV (n:=s.heap.objs.size + 1) k
      refine .inr ⟨.inl k,c,e,?_⟩
      have q:=x.cell y c e
      rw[Hw ndP hp hu (by show scope.names.lookup y ≠ _;rw[k];decide)]at q
      exact q
  . exact e0.hok.fresh (Nat.le_of_lt (x.above y c (PySem.mem_of_lookup h)))
  . unfold CC
    show _=N.length
    rw[List.length_append,List.length_map,List.length_replicate]
    omega
theorem Og{CX:CXT}{P:Program}{w:World}{K:PySem.W.Frag}{mg:Str->Option Value}{base:Heap}{k:Nat}{f:Addr}{name qual:Str}{params:Arguments}{body:List Stmt}{scope:Scope}{dV kV doc pm cdv ct oc:Value}{an od:Option Addr}
    {osl:Array (Option Value)} {N ps:List Str} {sp:Sp} (lk:K.lookup f=some ⟨oc,od,.func (PySem.W.fnOf name qual params body scope dV kV doc pm an cdv ct),osl⟩) (hcd:PySem.W.codeIn K cdv qual=true) (S:FnScope N ps scope)
    (len:∀ vs H Q E,sp vs H Q E->vs.length=ps.length)
    (hbody:∀ (A:Around) (outer:List Env) (s:Shared) (H:Hp) (vs:List V) (Q:VK) (E:XK),Room k (A.deeper (envOfC qual scope s.heap.objs.size f cdv))->sp vs H Q E ->
      ∃ t,PSs (Dw CX P w K mg base N qual scope f cdv A outer s H E) body t/\t { nx:=λ _ H'=>Q .non H',rt:=Q } (CC N vs) H) :
    FnOk P w K mg base CX (k + 1) f (PySem.W.fnOf name qual params body scope dV kV doc pm an cdv ct) ps sp:=by
  refine⟨len,λ A outer s H args us vs Q E hr e0 hb r hsp=>?_⟩
  have hl:=len _ _ _ _ hsp
  have KX:K.In s.heap:=e0.mod.kin.keeps λ b o e=>(e0.bs b o e).1
  have lim:s.heap.NoLimit:=e0.mod.nolimit.keeps λ b o e=>(e0.bs b o e).1
  have hkind:∀ y ∈ ps.zip us,scope.names.lookup y.1=some .local ∨ (scope.names.lookup y.1=some .cell/\((cellsFrom (s.heap.objs.size + 1) scope.names []).lookup y.1).isSome=true):=λ⟨n,v⟩ hy=>by
    rcases S.par n (List.of_mem_zip hy).1 with q|q
    . exact .inl q
    . exact .inr ⟨q,PySem.W.cellsFrom_some _ _ _ (.inl q)⟩
  refine codeAny_call_function hr.depth (KX _ _ lk) rfl S.co S.gen rfl (PySem.W.codeRec_of KX hcd) (hb _ _ _ _ ?_)
  refine wpAny_newFunctionEnv_cells S.kind hkind λ env he s1 x=>?_
  subst he
  refine⟨lim.keeps x.toInCall.keep,codeAny_func ?_⟩
  obtain⟨t,ht,hq⟩:=hbody A outer s H vs Q E (hr.deeper _) hsp
  have I:Inv (Dw CX P w K mg base N qual scope f cdv A outer s H E) [] (CC N vs) H s1:=ML S hr.hd e0 hl r x
  refine wpAny_mono (ht [] s1 (CC N vs) H _ I hq) (λ fl s' hs=>?_) λ e s' hs=>hs
  have fin:∀ {σ':St} {H':Hp} {v:V} {u:Value},Inv (Dw CX P w K mg base N qual scope f cdv A outer s H E) [] σ' H' s'->RelV v u->Q v H'->CE outer P w H s Q u s':=
    λ {σ' H' v u} J rv q=>⟨v,H',J.os,J.bare,J.base,J.hok,rv,q⟩
  cases fl with
  | ret u=>
    obtain⟨v,σ',H',J,rv,q⟩:=hs
    exact fin J rv q
  | next=>
    obtain⟨σ',H',J,q⟩:=hs
    exact fin (v:=V.non) (u:=Value.none) J rfl q
  | brk=>
    obtain⟨_,_,_,q⟩:=hs
    exact False.elim q
  | cont=>
    obtain⟨_,_,_,q⟩:=hs
    exact False.elim q
end L2
namespace L2
open PySem PySem.Spec PyProof.Rows
section
variable{X:Cx}{x:Str}{p pos:Pos}{e:Expr}{es:List Expr}{t:TA}{id T:String}{r:List V->Hp->VK->Prop}
noncomputable def tCB(r:List V->Hp->VK->Prop)(t:TA):TE:=λ σ H Q=>t σ H λ vs H1=>r vs H1 Q
theorem Ck(hc:CallR X (.builtin id) r)(hg:Gl X x)(hm:X.mg x=none)(hv:bootBuiltins x=some (.builtin id))(ha:PA X (e :: es) t)(hn:x ≠ "__name__":=by decide)(hdb:(x == ("__debug__":Str))=false:=by decide)
    (he:starEach (e :: es) X.env=(false,eval e X.env) :: starEach es X.env:=by rfl) (hpl:(backTo pos (starEach es X.env)).any (·.1)=false:=by rfl):PE X (.Call (.Name x p) (e :: es) [] pos) (tCB r t):=by
  intro pins s σ H Q I h
  refine wpAny_Call_Name_kw (FS I hg hm hv ?_ hn hdb)
  exact PyProof.Rows.callWith_builtin1 (thn (ha pos pins s σ H _ I h) λ us s1 ⟨vs,H1,I1,r1,q1⟩=>hc pins s1 σ H1 vs us Q I1 r1 q1) he hpl
theorem E4(hc:CallR X (.type T) r)(hg:Gl X x)(hm:X.mg x=none)(hv:bootBuiltins x=some (.type T))(ha:PA X (e :: es) t)(hn:x ≠ "__name__":=by decide)(hdb:(x == ("__debug__":Str))=false:=by decide)
    (he:starEach (e :: es) X.env=(false,eval e X.env) :: starEach es X.env:=by rfl) (hpl:(backTo pos (starEach es X.env)).any (·.1)=false:=by rfl):PE X (.Call (.Name x p) (e :: es) [] pos) (tCB r t):=by
  intro pins s σ H Q I h
  refine wpAny_Call_Name_kw (FS I hg hm hv ?_ hn hdb)
  exact PyProof.Rows.callWith_type1 (thn (ha pos pins s σ H _ I h) λ us s1 ⟨vs,H1,I1,r1,q1⟩=>hc pins s1 σ H1 vs us Q I1 r1 q1) he hpl
end
end L2
namespace HT
open PySem PyProof.Rows
section
open PySem.SeqAt
open PySem.AutoSeq1 (wpAny_loadPart')
open PySem.MeetsSeq PySem.MeetsSeq2 PySem.MeetsSeq3
end
section
variable{prog:Program}{w:World}{A:Around}{E:Value->Shared->Prop}{s:Shared}
theorem cat_tup{t b:Addr}{vs ws:List Value}{Q:Value->Shared->Prop}(ht:IsTup s.heap t vs.toArray)(hb:IsTup s.heap b ws.toArray)(hv:vs ≠ [])
    (h1:ws=[]->Q (.ref t) s) (h2:ws ≠ []->Q (.ref s.heap.objs.size) { s with heap:=s.heap.push { cls:=.type "tuple",data:=.seq (vs ++ ws).toArray } })
    (hsz:vs.length + ws.length <= sizeLine):wpAny (model prog w) A (binaryOp .Add (.ref t) (.ref b)) Q E s:=by
  obtain⟨⟨cls,dd,data,sl⟩,ho,hc,n,hd⟩:=id ht
  obtain⟨⟨cls2,dd2,data2,sl2⟩,ho2,hc2,n2,hd2⟩:=id hb
  simp only at hc hd hc2 hd2
  subst hc hd hc2 hd2
  have e:vs.toArray ++ ws.toArray=(vs ++ ws).toArray:=by simp
  by_cases hw:ws=[]
  . exact concat_meets ⟨_,ho,rfl⟩ ⟨_,ho2,rfl⟩ noFill_tuple_add seq_tuple_add PySem.F.slot_tuple_add PySem.F.entry_tuple_add (PySem.F.args_tuple_add_2 _ _)
      (tuple_addW1 t b vs.toArray ws.toArray n n2 dd dd2 sl sl2 (by simpa using hv) (by simp[hw])) ⟨ho,ho2,h1 hw⟩
  . refine concat_meets ⟨_,ho,rfl⟩ ⟨_,ho2,rfl⟩ noFill_tuple_add seq_tuple_add PySem.F.slot_tuple_add PySem.F.entry_tuple_add (PySem.F.args_tuple_add_2 _ _)
      (tuple_addW2 t b vs.toArray ws.toArray n n2 dd dd2 sl sl2 (by simpa using hv) (by simpa using hw) (by rw[List.size_toArray,List.size_toArray];exact hsz)) ⟨ho,ho2,?_⟩
    rw[e]
    exact h2 hw
noncomputable def sIx(n d:Nat):Option Int->Nat
  | none=>d
  | some v=>if v < 0 then(v + (n:Int)).toNat else min v.toNat n
theorem sIx_none(n d:Nat):sIx n d none=d:=rfl
theorem sIx_nat(n d k:Nat):sIx n d (some (k:Int))=min k n:=by
  show(if(k:Int) < 0 then((k:Int) + (n:Int)).toNat else min (k:Int).toNat n)=min k n
  rw[if_neg (by omega),Int.toNat_natCast]
theorem Ra(n d:Nat)(hd:d <= n)(o:Option Int):sIx n d o <= n:=by
  cases o with
  | none=>exact hd
  | some v=>
    show(if v < 0 then(v + (n:Int)).toNat else min v.toNat n) <= n
    by_cases hv:v < 0
    . rw[if_pos hv];omega
    . rw[if_neg hv];exact Nat.min_le_right _ _
theorem KG(v:Int)(n d:Nat):(if v < 0 then max (v + (n:Int)) 0 else min v (n:Int))=((sIx n d (some v):Nat):Int):=by
  show(if v < 0 then max (v + (n:Int)) 0 else min v (n:Int))=(((if v < 0 then(v + (n:Int)).toNat else min v.toNat n):Nat):Int)
  by_cases hv:v < 0
  . simp only[if_pos hv];omega
  . simp only[if_neg hv];omega
theorem LQ(lo hi:Option Int)(n:Nat):Builtin.Slice.sliceAdjust lo hi 1 (n:Int)=(((sIx n 0 lo:Nat):Int),((sIx n n hi:Nat):Int)):=by
  have h1:¬ ((1:Int) < 0):=by omega
  unfold Builtin.Slice.sliceAdjust
  simp only[h1,if_false]
  refine Prod.ext ?_ ?_
  . cases lo with
    | none=>rfl
    | some v=>exact KG v n 0
  . cases hi with
    | none=>rfl
    | some v=>exact KG v n n
theorem Kv(i j:Nat):Builtin.Slice.slicePlaces (i:Int) (j:Int) 1=j - i:=by
  unfold Builtin.Slice.slicePlaces
  have h1:(1:Int) > 0:=by omega
  simp only[h1,if_true,Int.ediv_one]
  split <;> omega
theorem GV{v:Value}{o:Option Int}{Q:Option Int->Shared->Prop}(p:IsPart v o)(h:Q o s):wpAny (model prog w) A (Builtin.Slice.slicePartIndex v) Q E s:=by
  cases p with
  | none=>exact slicePart_none h
  | int i t=>exact slicePart_int h
theorem GA{sl:Addr}{vl vu:Value}{lo hi:Option Int}{n:Nat}{Q:Int × Int × Nat->Shared->Prop}(hs:s.heap.IsSliceOf sl vl vu .none)(pl:IsPart vl lo)(pu:IsPart vu hi)
    (h:Q (((sIx n 0 lo:Nat):Int),1,sIx n n hi - sIx n 0 lo) s):wpAny (model prog w) A (Builtin.Slice.sliceApplied (.ref sl) (pure (n:Int))) Q E s:=by
  obtain⟨os,hos,hcs,hds⟩:=id hs
  unfold Builtin.Slice.sliceApplied Builtin.Slice.sliceFields
  refine wpAny_bind (wpAny_bind (wpAny_field hos hds (x:=vl) rfl (wpAny_bind (wpAny_field hos hds (x:=vu) rfl (wpAny_bind (wpAny_field hos hds (x:=.none) rfl (wpAny_pure ?_)))))))
  refine wpAny_bind (slicePart_none ?_)
  show wpAny _ _ (if((1:Int) == 0)=true then _ else _) _ _ s
  rw[if_neg (by decide)]
  refine wpAny_bind (GV pl (wpAny_bind (GV pu (wpAny_bind (wpAny_pure ?_)))))
  show wpAny _ _ (match Builtin.Slice.sliceAdjust lo hi 1 (n:Int)with|(lo,hi)=>pure (lo,(1:Int),Builtin.Slice.slicePlaces lo hi 1)) _ _ s
  rw[LQ lo hi n]
  show wpAny _ _ (pure (((sIx n 0 lo:Nat):Int),(1:Int),Builtin.Slice.slicePlaces ((sIx n 0 lo:Nat):Int) ((sIx n n hi:Nat):Int) 1)) _ _ s
  rw[Kv]
  exact wpAny_pure h
theorem Nf(xs:Array Value)(i k:Nat):((List.range k).filterMap λ(m:Nat)=>xs[((i:Int) + (m:Int) * 1).toNat]?).toArray=((xs.toList.drop i).take k).toArray:=by
  have e:(λ(m:Nat)=>xs[((i:Int) + (m:Int) * 1).toNat]?)=λ m=>xs[i + m]? := by
    funext m
    have:((i:Int) + (m:Int) * 1).toNat=i + m:=by omega
    rw[this]
  rw[e]
  have:=pick_run xs i k
  rw[List.filterMap_map]at this
  have e2:((λ x=>xs[x]?) ∘ λ x=>i + x)=λ m=>xs[i + m]? := rfl
  rw[e2]at this
  rw[this]
theorem getItem_tuple_cut{t sl:Addr}{items:Array Value}{vl vu:Value}{lo hi:Option Int}{Q:Value->Shared->Prop}(ht:IsTup s.heap t items)(hs:s.heap.IsSliceOf sl vl vu .none)(pl:IsPart vl lo)(pu:IsPart vu hi)
    (hw:¬ (sIx items.size 0 lo=0/\sIx items.size items.size hi=items.size))
    (h:Q (.ref s.heap.objs.size) { s with heap:=s.heap.push { cls:=.type "tuple",data:=.seq ((items.toList.drop (sIx items.size 0 lo)).take (sIx items.size items.size hi - sIx items.size 0 lo)).toArray } })
    (hsz:items.size <= sizeLine):wpAny (model prog w) A (getItem (.ref t) (.ref sl)) Q E s:=by
  have htake:sizeOk (.seq ((items.toList.drop (sIx items.size 0 lo)).take (sIx items.size items.size hi - sIx items.size 0 lo)).toArray):=by
    show((items.toList.drop (sIx items.size 0 lo)).take (sIx items.size items.size hi - sIx items.size 0 lo)).toArray.size <= sizeLine
    rw[List.size_toArray,List.length_take,List.length_drop,Array.length_toList]
    omega
  have hj:sIx items.size items.size hi <= items.size:=Ra _ _ (Nat.le_refl _) hi
  obtain⟨os,hos,hcs,hds⟩:=id hs
  have hTs:s.TypeIs (.ref sl) "slice":=⟨os,hos,hcs⟩
  unfold getItem
  try with_reducible refine wpAny_holding ?_
  first|refine wpAny_bind (wpAny_pure ?_)|skip
  refine wpAny_bind (wpAny_sequenceKey ht.typeIs (by decide) ?_)
  refine wpAny_bind (wpAny_callSpecial?_slot (name:=Str.ofString "__getitem__") ht.typeIs PyProof.Rows.slot_tuple_getitem
    (wpAny_call_entry PyProof.Rows.slot_tuple_getitem ht.typeIs entry_tuple_getitem ?_ (args_tuple_getitem _ _)))
  show wpAny _ _ (Builtin.Tuple.tupleItemsOf (.ref t) >>= _) _ _ s
  refine wpAny_bind (tupleItemsOf_ ht ?_)
  refine wpAny_bind (wpAny_typeOf hTs ?_)
  rw[if_pos (by decide)]
  refine wpAny_bind (GA hs pl pu ?_)
  have hno:¬ ((((sIx items.size 0 lo:Nat):Int) == 0 && (1:Int) == 1 && (sIx items.size items.size hi - sIx items.size 0 lo) == items.size)=true):=by
    intro q
    rw[Bool.and_eq_true,Bool.and_eq_true]at q
    have q1:((sIx items.size 0 lo:Nat):Int)=0:=eq_of_beq q.1.1
    have q2:sIx items.size items.size hi - sIx items.size 0 lo=items.size:=eq_of_beq q.2
    exact hw ⟨by omega,by omega⟩
  show wpAny _ _ (if(((sIx items.size 0 lo:Nat):Int) == 0 && (1:Int) == 1 && (sIx items.size items.size hi - sIx items.size 0 lo) == items.size)=true then _ else _) _ _ s
  rw[if_neg hno,Nf]
  first
    | exact wpAny_bind (m:=Builtin.Tuple.tupleExact _) (wpAny_newObj_type (wpAny_pure ⟨_,rfl,wpAny_pure h⟩) htake)
    | exact wpAny_bind (m:=Builtin.Tuple.tupleExact _) (wpAny_newObj_type (wpAny_bind (wpAny_pure (wpAny_pure ⟨_,rfl,wpAny_pure h⟩))) htake)
    | exact wpAny_bind (wpAny_bind (m:=Builtin.Tuple.tupleExact _) (wpAny_newObj_type (wpAny_pure (wpAny_pure ⟨_,rfl,wpAny_pure h⟩)) htake))
    | exact wpAny_bind (wpAny_bind (m:=Builtin.Tuple.tupleExact _) (wpAny_newObj_type (wpAny_pure ⟨_,rfl,wpAny_pure h⟩) htake))
end
end HT
namespace L2
open PySem PySem.Spec PyProof.Rows
noncomputable abbrev TO:=St->Hp->(Option Int->Hp->Prop)->Prop
noncomputable def PO(X:Cx)(e:Option Expr)(t:TO):Prop:=
  ∀ (pins:List (Addr × Obj)) (s:Shared) (σ:St) (H:Hp) (Q:Option Int->Hp->Prop),Inv X pins σ H s->t σ H Q ->
    wpAny (model X.prog X.w) X.A (evalPart e X.env) (λ u s'=>∃ o H',Inv X pins σ H' s'/\IsPart u o/\Q o H') X.xe s
noncomputable def HD:TO:=λ _ H Q=>Q none H
noncomputable def Ka(t:TE):TO:=λ σ H Q=>t σ H λ x H1=>∃ i,x=.int i/\Q (some i) H1
theorem LF{ns:List Int}:∀ {us:List Value},Vals (ns.map V.int) us->IntsAre us ns:=by
  induction ns with
  | nil=>intro us r;rw[List.map_nil]at r;cases r;exact .nil
  | cons n ns ih=>
    intro us r
    rw[List.map_cons]at r
    cases r with
    | cons r1 r2=>
      obtain⟨t,e⟩:=r1
      subst e
      exact .cons n t (ih r2)
section
variable{X:Cx}{e:Expr}{te:TE}{lo hi:Option Expr}{tl th:TO}{pos p2:Pos}
theorem Pw:PO X none HD:=by
  intro pins s σ H Q I h
  rw[evalPart_none]
  exact wpAny_pure ⟨none,H,I,.none,h⟩
theorem Pv(h:PE X e te):PO X (some e) (Ka te):=by
  intro pins s σ H Q I hw
  rw[evalPart_some]
  refine thn (h pins s σ H _ I hw) λ u s1 ⟨x,H1,I1,r1,q1⟩=>?_
  obtain⟨i,rfl,q⟩:=q1
  obtain⟨t,rfl⟩:=r1
  exact⟨some i,H1,I1,.int i t,q⟩
noncomputable def SlR(X:Cx)(r:V->Option Int->Option Int->Hp->VK->Prop):Prop:=
  ∀ (pins:List (Addr × Obj)) (s:Shared) (σ:St) (H:Hp) (x:V) (v vl vu:Value) (lo hi:Option Int) (sl:Addr) (Q:VK),Inv X pins σ H s->RelV x v->s.heap.IsSliceOf sl vl vu .none->IsPart vl lo->IsPart vu hi->r x lo hi H Q ->
    ∃ T id,typeLookup (.type T) "__getitem__"=pure (some (.builtin id))/\s.TypeIs v T/\wpAny (model X.prog X.w) X.A (getItem v (.ref sl)) (EP X pins σ Q) X.xe s
noncomputable def tSl(r:V->Option Int->Option Int->Hp->VK->Prop)(te:TE)(tl th:TO):TE:=λ σ H Q=>te σ H λ x H1=>tl σ H1 λ l H2=>th σ H2 λ u H3=>r x l u H3 Q
theorem JA{r:V->Option Int->Option Int->Hp->VK->Prop}(hr:SlR X r)(he:PE X e te)(hl:PO X lo tl)(hu:PO X hi th):PE X (.Subscript e (.Slice lo hi none p2) pos) (tSl r te tl th):=by
  intro pins s σ H Q I h
  refine Subscript_ (thn (he pins s σ H _ I h) λ v s1 ⟨x,H1,I1,r1,q1⟩=>?_)
  refine wpAny_Slice (thn (hl pins s1 σ H1 _ I1 q1) λ vl s2 ⟨l,H2,I2,pl,q2⟩=>thn (hu pins s2 σ H2 _ I2 q2) λ vu s3 ⟨u,H3,I3,pu,q3⟩=>?_)
  rw[evalPart_none]
  refine wpAny_pure ?_
  have I4:Inv X pins σ H3 { s3 with heap:=s3.heap.push { cls:=.type "slice",data:=.fields #[vl,vu,.none] } }:=I3.kept (t':=s3.toks) λ b ob q=>Heap.get?_push_of_some _ q
  obtain⟨T,id,hT,ht,hg⟩:=hr pins { s3 with heap:=s3.heap.push { cls:=.type "slice",data:=.fields #[vl,vu,.none] } } σ H3 x v vl vu l u s3.heap.objs.size Q I4 r1 (Heap.IsSliceOf.new ..) pl pu q3
  show wpAny (model X.prog X.w) X.A (subscriptTail e (.Slice lo hi none p2) v (.ref s3.heap.objs.size)) (EP X pins σ Q) X.xe { s3 with heap:=s3.heap.push { cls:=.type "slice",data:=.fields #[vl,vu,.none] } }
  exact tail_any (ops:=[.ref s3.heap.objs.size,v]) ht hT hg (by with_unfolding_all rfl)
noncomputable def EC(xs:List V)(lo hi:Option Int):List V:=(xs.drop (HT.sIx xs.length 0 lo)).take (HT.sIx xs.length xs.length hi - HT.sIx xs.length 0 lo)
theorem Fx(xs:List V)(lo hi:Option Int):(EC xs lo hi).length <= xs.length:=by
  unfold EC
  rw[List.length_take,List.length_drop]
  omega
noncomputable def Ko(K:PySem.W.Frag):V->Option Int->Option Int->Hp->VK->Prop:=λ x lo hi H Q=>∃ a xs,x=.ref a/\SqT K H a xs /\
  ¬ (HT.sIx xs.length 0 lo=0/\HT.sIx xs.length xs.length hi=xs.length)/\∀ p,H p=none->Q (.ref p) (upd H p (.tup (EC xs lo hi)))
theorem RZ:SlR X (Ko X.K):=by
  intro pins s σ H x v vl vu lo hi sl Q I rx hs pl pu h
  obtain⟨a,xs,rfl,hx,hw,q⟩:=h
  cases rx
  obtain⟨its,r,ht,hz⟩:=I.tuple hx
  have hlen:its.toArray.size=xs.length:=by rw[List.size_toArray];exact r.length.symm
  refine⟨"tuple",_,PyProof.Rows.slot_tuple_getitem.lookup,ht.typeIs,?_⟩
  refine HT.getItem_tuple_cut ht hs pl pu (by rw[hlen];exact hw) ?_ (by rw[hlen];exact hz)
  rw[hlen]
  refine⟨.ref s.heap.objs.size,_,I.laid (t':=s.toks) (o:=.tup (EC xs lo hi)) (λ b ob q=>Heap.get?_push_of_some _ q) (Nat.le_refl _) ?_,rfl,q _ (I.hok.fresh (Nat.le_refl _))⟩
  exact⟨Nat.le_trans (Fx xs lo hi) hz,_,(r.drop (HT.sIx xs.length 0 lo)).take (HT.sIx xs.length xs.length hi - HT.sIx xs.length 0 lo),IsTupD.new _ _⟩
noncomputable def Ks(K:PySem.W.Frag):R2:=λ x y H Q=>∃ a b xs ys,x=.ref a/\y=.ref b/\SqT K H a xs/\SqT K H b ys/\xs ≠ []/\xs.length + ys.length <= sizeLine /\
  (ys=[]->Q (.ref a) H)/\(ys ≠ []->∀ p,H p=none->Q (.ref p) (upd H p (.tup (xs ++ ys))))
theorem Vals.nil_iff{xs:List V}{us:List Value}(r:Vals xs us):us=[] ↔ xs=[]:=by
  cases r with
  | nil=>simp
  | cons _ _=>simp
theorem QD:OpR X (binaryOp .Add) (Ks X.K):=by
  intro pins s σ H x y v u Q I rx ry h
  obtain⟨a,b,xs,ys,rfl,rfl,ha,hb,hx,hz,q1,q2⟩:=h
  cases rx
  cases ry
  obtain⟨its,r1,p1,_⟩:=I.tuple ha
  obtain⟨its2,r2,p2,_⟩:=I.tuple hb
  refine HT.cat_tup p1 p2 (λ z=>hx (r1.nil_iff.mp z)) (λ z=>⟨.ref a,H,I,rfl,q1 (r2.nil_iff.mp z)⟩) (λ z=>?_) (by rw[<- r1.length,<- r2.length];exact hz)
  refine⟨.ref s.heap.objs.size,_,I.laid (t':=s.toks) (o:=.tup (xs ++ ys)) (λ b ob q=>Heap.get?_push_of_some _ q) (Nat.le_refl _) ?_,rfl,q2 (λ w=>z (r2.nil_iff.mpr w)) _ (I.hok.fresh (Nat.le_refl _))⟩
  exact⟨by rw[List.length_append];exact hz,_,r1.append r2,IsTupD.new _ _⟩
end
end L2
namespace L2
open PySem PySem.Spec PyProof.Rows
noncomputable def ixN(n:Nat)(i:Int):Option Nat:=if 0 <= i then(if i < n then some i.toNat else none)else if -(n:Int) <= i then some (i + n).toNat else none
noncomputable def atI{α:Type}(xs:List α)(i:Int):Option α:=(ixN xs.length i).bind λ j=>xs[j]?
theorem K7{n:Nat}{i:Int}{j:Nat}(h:ixN n i=some j):seqIndex? i n=some j/\j < n/\-(n:Int) <= i/\i < n:=by
  unfold ixN at h
  by_cases h0:0 <= i
  . rw[if_pos h0]at h
    by_cases h1:i < n
    . rw[if_pos h1]at h
      have e:i.toNat=j:=Option.some.inj h
      exact⟨by rw[seqIndex_of h0 h1,e],by omega,by omega,h1⟩
    . rw[if_neg h1]at h;cases h
  . rw[if_neg h0]at h
    by_cases h1:-(n:Int) <= i
    . rw[if_pos h1]at h
      have e:(i + n).toNat=j:=Option.some.inj h
      exact⟨by rw[seqIndex_neg (by omega) h1,e],by omega,h1,by omega⟩
    . rw[if_neg h1]at h;cases h
theorem KK{α:Type}{xs:List α}{i:Int}{v:α}(h:atI xs i=some v):∃ j,seqIndex? i xs.length=some j/\xs[j]? = some v/\j < xs.length/\-(xs.length:Int) <= i/\i < xs.length:=by
  unfold atI at h
  cases e:ixN xs.length i with
  | none=>rw[e]at h;cases h
  | some j=>
    rw[e]at h
    obtain⟨h1,h2,h3,h4⟩:=K7 e
    exact⟨j,h1,h,h2,h3,h4⟩
theorem Be{α:Type}{xs:List α}{j:Nat}{v:α}(h:xs[j]? = some v):atI xs (j:Int)=some v:=by
  have hj:j < xs.length:=(List.getElem?_eq_some_iff.mp h).1
  have e:ixN xs.length (j:Int)=some j:=by
    unfold ixN
    rw[if_pos (by omega),if_pos (by omega)];simp
  unfold atI;rw[e];exact h
noncomputable def He(b:Expr):Prop:=∀ o i,subscripted b false o i=operate [o,i] (getItem o i)
noncomputable def IxR(X:Cx)(r:R2):Prop:=
  ∀ (value slice:Expr) (pins:List (Addr × Obj)) (s:Shared) (σ:St) (H:Hp) (x y:V) (v u:Value) (Q:VK),Inv X pins σ H s->RelV x v->RelV y u->r x y H Q ->
    subscripted slice false v u=operate [v,u] (getItem v u)->wpAny (model X.prog X.w) X.A (subscriptTail value slice v u) (EP X pins σ Q) X.xe s
noncomputable def MtR(X:Cx)(id:String)(r:V->List V->Hp->VK->Prop):Prop:=
  ∀ (pins:List (Addr × Obj)) (s:Shared) (σ:St) (H:Hp) (x:V) (xs:List V) (v:Value) (us:List Value) (Q:VK),Inv X pins σ H s->RelV x v->Vals xs us->r x xs H Q ->
    wpAny (model X.prog X.w) X.A (call (.builtin id) (v :: us)) (EP X pins σ Q) X.xe s
section
variable{X:Cx}{a b:Expr}{ta tb:TE}{pos:Pos}
theorem IxR.or{r r':R2}(h:IxR X r)(h':IxR X r'):IxR X (λ x y H Q=>r x y H Q ∨ r' x y H Q):=by
  intro value slice pins s σ H x y v u Q I rx ry q hs
  rcases q with q|q
  . exact h value slice pins s σ H x y v u Q I rx ry q hs
  . exact h' value slice pins s σ H x y v u Q I rx ry q hs
theorem OZ{r:R2}(hr:IxR X r)(ha:PE X a ta)(hb:PE X b tb)(hs:He b):PE X (.Subscript a b pos) (tOp r ta tb):=by
  intro pins s σ H Q I h
  exact Subscript_ (O9 ha hb I h λ v u s2 x y H2 I2 rx ry q=>hr a b pins s2 σ H2 x y v u Q I2 rx ry q (hs _ _))
noncomputable def NO(K:PySem.W.Frag):R2:=λ x y H Q=>∃ p xs i v,x=.ref p/\y=.int i/\SqL K H p xs/\atI xs i=some v/\Q v H
noncomputable def NN(K:PySem.W.Frag):R2:=λ x y H Q=>∃ p xs i v,x=.ref p/\y=.int i/\SqT K H p xs/\atI xs i=some v/\Q v H
theorem Qa:IxR X (NO X.K):=by
  intro value slice pins s σ H x y v u Q I rx ry h hs
  obtain⟨p,xs,i,z,rfl,rfl,hq,he,q⟩:=h
  cases rx
  obtain⟨t,rfl⟩:=ry
  obtain⟨its,r,pl,hz⟩:=I.list hq
  obtain⟨j,h1,h2,h3,h4,h5⟩:=KK he
  obtain⟨w,ew,rw'⟩:=r.get h2
  have hl:=r.length
  have hn:=FR
  have fin:EP X pins σ Q w s:=⟨z,H,I,rw',q⟩
  by_cases h0:0 <= i
  . have hj:i.toNat=j:=by
      rw[seqIndex_of h0 h5]at h1
      exact Option.some.inj h1
    exact item_listR pl.isList h0 (by omega) (by rw[hj];simpa using ew) fin hs
  . have hj:(i + (its.toArray.size:Int)).toNat=j:=by
      rw[seqIndex_neg (by omega) h4]at h1
      rw[List.size_toArray,<- hl]
      exact Option.some.inj h1
    exact subscriptTail_builtinR (x:=w) pl.isList.typeIs slot_list_getitem.lookup
      (wpAny_getItem_list_neg (Q:=λ r s'=>r=w/\EP X pins σ Q r s') pl.isList (by omega) (by rw[List.size_toArray] <;> omega) (by omega) (by rw[hj];simpa using ew) ⟨rfl,fin⟩) hs
theorem Sv:IxR X (NN X.K):=by
  intro value slice pins s σ H x y v u Q I rx ry h hs
  obtain⟨p,xs,i,z,rfl,rfl,hq,he,q⟩:=h
  cases rx
  obtain⟨t,rfl⟩:=ry
  obtain⟨its,r,pl,hz⟩:=I.tuple hq
  obtain⟨j,h1,h2,h3,h4,h5⟩:=KK he
  obtain⟨w,ew,rw'⟩:=r.get h2
  have hl:=r.length
  have hn:=FR
  have fin:EP X pins σ Q w s:=⟨z,H,I,rw',q⟩
  exact subscriptTail_builtinR (x:=w) pl.typeIs slot_tuple_getitem.lookup
    (getItem_tuple (j:=j) (Q:=λ r s'=>r=w/\EP X pins σ Q r s') pl (by omega) (by omega) (by rw[List.size_toArray,<- hl];exact h1) (by simpa using ew) ⟨rfl,fin⟩) hs
theorem L8(its:List Value)(n j:Nat)(u:Value):Obj.mapSeq (·.setIfInBounds j u) { cls:=.type "list",data:=.seq its.toArray n }={ cls:=.type "list",data:=.seq (its.set j u).toArray n }:=by
  simp[Obj.mapSeq]
theorem Inv.lst{pins:List (Addr × Obj)}{σ:St}{H:Hp}{s:Shared}{p:Addr}{xs:List V}(I:Inv X pins σ H s)(h:H p=some (.lst xs)) :
    ∃ (its:List Value) (n:Nat),Vals xs its/\s.heap.get? p=some { cls:=.type "list",data:=.seq its.toArray n }/\xs.length <= sizeLine:=by
  obtain⟨z,its,n,r,e⟩:=I.hok p _ h
  exact⟨its,n,r,e,z⟩
theorem Inv.lstUpd{pins:List (Addr × Obj)}{σ:St}{H:Hp}{s:Shared}{p:Addr}{xs ys:List V}{its its':List Value}{n n':Nat}{f:Obj->Obj}(I:Inv X pins σ H s)(h:H p=some (.lst xs))
    (ho:s.heap.get? p=some { cls:=.type "list",data:=.seq its.toArray n }) (hf:f { cls:=.type "list",data:=.seq its.toArray n }={ cls:=.type "list",data:=.seq its'.toArray n' }) (r:Vals ys its') (hz:ys.length <= sizeLine) (t:Nat) :
    Inv X pins σ (upd H p (.lst ys)) { s with heap:=s.heap.update p f,toks:=t }:=by
  have e:(s.heap.update p f).get? p=some { cls:=.type "list",data:=.seq its'.toArray n' }:=by
    rw[Heap.get?_update_self f ho (by rw[hf] <;> rfl),hf]
  refine I.write (x:=p) (e:=p) (by rw[h];trivial) (.inl rfl) (λ b u hb q=>(Heap.get?_update_other _ _ (Ne.symm hb)).trans q) ⟨_,e⟩ ?_
  exact⟨hz,its',n',r,e⟩
noncomputable def Kq:V->V->V->Hp->(Hp->Prop)->Prop:=λ o i v H Q=>∃ p xs k j,o=.ref p/\i=.int k/\H p=some (.lst xs)/\ixN xs.length k=some j/\Q (upd H p (.lst (xs.set j v)))
theorem N8:TU X Kq:=by
  intro pins s σ H o i v ov iv u Q I ro ri rv h
  obtain⟨p,xs,k,j,rfl,rfl,hp,hj,q⟩:=h
  cases ro
  obtain⟨t,rfl⟩:=ri
  obtain⟨its,n,r,ho,hz⟩:=I.lst hp
  obtain⟨h1,h2,h3,h4⟩:=K7 hj
  have hl:=r.length
  have hn:=FR
  have I':Inv X pins σ (upd H p (.lst (xs.set j v))) { s with heap:=s.heap.update p (Obj.mapSeq (·.setIfInBounds j u)) }:=
    I.lstUpd hp ho (L8 its n j u) (r.set rv j) (by rw[List.length_set];exact hz) s.toks
  by_cases h0:0 <= k
  . have hk:k.toNat=j:=by
      rw[seqIndex_of h0 h4]at h1
      exact Option.some.inj h1
    exact PySem.W.ki_setAt ho h0 (by omega) (by rw[List.size_toArray,<- hl];exact h4) (by rw[hk];exact⟨_,I',q⟩)
  . have hk:(k + (its.toArray.size:Int)).toNat=j:=by
      rw[seqIndex_neg (by omega) h3]at h1
      rw[List.size_toArray,<- hl]
      exact Option.some.inj h1
    exact PySem.W.ki_setBack ho (by omega) (by rw[List.size_toArray,<- hl];exact h3) (by omega) (by rw[hk];exact⟨_,I',q⟩)
theorem IY(lo hi:Option Int)(n:Nat):(sliceBounds lo hi none n).1=((HT.sIx n 0 lo:Nat):Int)/\(sliceBounds lo hi none n).2.1=((HT.sIx n n hi:Nat):Int)/\(sliceBounds lo hi none n).2.2=1:=by
  refine⟨?_,?_,rfl⟩
  . cases lo with
    | none=>simp[sliceBounds,HT.sIx]
    | some i=>
      simp only[sliceBounds,HT.sIx,Option.getD_none,show(1:Int) > 0 by decide,if_true]
      by_cases h:i < 0
      . simp only[h,if_true] <;> omega
      . simp only[h,if_false] <;> omega
  . cases hi with
    | none=>simp[sliceBounds,HT.sIx]
    | some i=>
      simp only[sliceBounds,HT.sIx,Option.getD_none,show(1:Int) > 0 by decide,if_true]
      by_cases h:i < 0
      . simp only[h,if_true] <;> omega
      . simp only[h,if_false] <;> omega
theorem Hx(its:List Value)(lo hi:Option Int):slicePick its.toArray lo hi none=((its.drop (HT.sIx its.length 0 lo)).take (HT.sIx its.length its.length hi - HT.sIx its.length 0 lo)).toArray:=by
  obtain⟨h1,h2,h3⟩:=IY lo hi its.toArray.size
  unfold slicePick
  rw[h1,h2,h3]
  simp only[sliceRange_one,pick_run,List.size_toArray] <;> rfl
noncomputable def Kp(K:PySem.W.Frag):V->Option Int->Option Int->Hp->VK->Prop:=λ x lo hi H Q=>∃ a xs,x=.ref a/\SqL K H a xs/\∀ p,H p=none->Q (.ref p) (upd H p (.lst (EC xs lo hi)))
theorem P9:SlR X (Kp X.K):=by
  intro pins s σ H x v vl vu lo hi sl Q I rx hs pl pu h
  obtain⟨a,xs,rfl,hx,q⟩:=h
  cases rx
  obtain⟨its,r,ht,hz⟩:=I.list hx
  have hlen:=r.length
  refine⟨"list",_,slot_list_getitem.lookup,ht.isList.typeIs,?_⟩
  refine wpAny_getItem_list_slice ht.isList hs pl pu .none (by simp) ?_ (by rw[List.size_toArray] <;> omega)
  rw[Hx,<- hlen]
  refine⟨.ref s.heap.objs.size,_,I.laid (t':=s.toks) (o:=.lst (EC xs lo hi)) (λ b ob q=>Heap.get?_push_of_some _ q) (Nat.le_refl _) ?_,rfl,q _ (I.hok.fresh (Nat.le_refl _))⟩
  exact⟨Nat.le_trans (Fx xs lo hi) hz,_,0,(r.drop (HT.sIx xs.length 0 lo)).take (HT.sIx xs.length xs.length hi - HT.sIx xs.length 0 lo),Heap.get?_push_size _ rfl⟩
noncomputable def Cy:V->Bool
  | .non=>true
  | .bl _=>true
  | .int _=>true
  | .str _=>true
  | _=>false
noncomputable def eqV:V->V->Bool
  | .non,.non=>true
  | .bl a,.bl b=>a == b
  | .bl a,.int b=>(if a then 1 else 0) == b
  | .int a,.bl b=>a == (if b then 1 else 0)
  | .int a,.int b=>a == b
  | .str a,.str b=>a == b
  | _,_=>false
theorem TJ{A:Around}{s:Shared}{y x:V}{u v:Value}(ry:RelV y u)(rx:RelV x v)(fy:Cy y=true)(fx:Cy x=true):SeqAt.EqAt A s u v (eqV y x):=by
  cases y with
  | non=>
    cases ry
    cases x with
    | non=>cases rx;exact SeqAt.EqAt.same _
    | bl b=>cases rx;exact SeqAt.EqAt.none_bool b
    | int b=>obtain⟨t,rfl⟩:=rx;exact SeqAt.EqAt.none_int b t
    | str b=>obtain⟨t,rfl⟩:=rx;exact SeqAt.EqAt.none_str b t
    | _=>exact absurd (show false=true from fx) Bool.false_ne_true
  | bl a=>
    cases ry
    cases x with
    | non=>cases rx;exact SeqAt.EqAt.bool_none a
    | bl b=>cases rx;exact SeqAt.EqAt.bool_bool a b
    | int b=>obtain⟨t,rfl⟩:=rx;exact SeqAt.EqAt.bool_int a b t
    | str b=>obtain⟨t,rfl⟩:=rx;exact SeqAt.EqAt.bool_str a b t
    | _=>exact absurd (show false=true from fx) Bool.false_ne_true
  | int a=>
    obtain⟨t',rfl⟩:=ry
    cases x with
    | non=>cases rx;exact SeqAt.EqAt.int_none a t'
    | bl b=>cases rx;exact SeqAt.EqAt.int_bool a t' b
    | int b=>obtain⟨t,rfl⟩:=rx;exact SeqAt.EqAt.int_int a t' b t
    | str b=>obtain⟨t,rfl⟩:=rx;exact SeqAt.EqAt.int_str a t' b t
    | _=>exact absurd (show false=true from fx) Bool.false_ne_true
  | str a=>
    obtain⟨t',rfl⟩:=ry
    cases x with
    | non=>cases rx;exact SeqAt.EqAt.str_none a t'
    | bl b=>cases rx;exact SeqAt.EqAt.str_bool a t' b
    | int b=>obtain⟨t,rfl⟩:=rx;exact SeqAt.EqAt.str_int a t' b t
    | str b=>obtain⟨t,rfl⟩:=rx;exact SeqAt.EqAt.str_str a t' b t
    | _=>exact absurd (show false=true from fx) Bool.false_ne_true
  | _=>exact absurd (show false=true from fy) Bool.false_ne_true
noncomputable def eqU(x:V)(u:Value):Bool:=match u with
  | .none=>eqV .non x
  | .bool b=>eqV (.bl b) x
  | .int i _=>eqV (.int i) x
  | .str z _=>eqV (.str z) x
  | _=>false
theorem MV{x y:V}{u:Value}(r:RelV y u)(f:Cy y=true):eqU x u=eqV y x:=by
  cases y with
  | non=>cases r;rfl
  | bl b=>cases r;rfl
  | int i=>obtain⟨t,rfl⟩:=r;rfl
  | str z=>obtain⟨t,rfl⟩:=r;rfl
  | _=>exact absurd (show false=true from f) Bool.false_ne_true
theorem Hc{x:V}:∀ {xs:List V} {us:List Value},Vals xs us->xs.all Cy=true->us.any (eqU x)=xs.any λ y=>eqV y x
  | _,_,.nil,_=>rfl
  | y :: xs,u :: us,.cons r t,f=>by
    rw[List.all_cons,Bool.and_eq_true]at f
    rw[List.any_cons,List.any_cons,MV r f.1,Hc t f.2]
theorem GG{A:Around}{s:Shared}{x:V}{v:Value}(rx:RelV x v)(fx:Cy x=true):∀ {xs:List V} {us:List Value},Vals xs us->xs.all Cy=true->∀ u ∈ us,SeqAt.EqAt A s u v (eqU x u)
  | _,_,.nil,_=>λ u hu=>by cases hu
  | y :: xs,u :: us,.cons r t,f=>λ u' hu=>by
    rw[List.all_cons,Bool.and_eq_true]at f
    rcases List.mem_cons.mp hu with rfl|hu
    . rw[MV r f.1];exact TJ r rx f.1 fx
    . exact GG rx fx t f.2 u' hu
noncomputable def inV(x:V)(xs:List V):Bool:=xs.any λ y=>eqV y x
noncomputable def rIn(K:PySem.W.Frag)(neg:Bool):R2:=λ x y H Q=>∃ p xs,y=.ref p/\(SqL K H p xs ∨ SqT K H p xs)/\Cy x=true/\xs.all Cy=true/\Q (.bl (if neg then !inV x xs else inV x xs)) H
theorem M5:OpR X (compareOp .In) (rIn X.K false):=by
  intro pins s σ H x y v u Q I rx ry h
  obtain⟨p,xs,rfl,hq,fx,fs,q⟩:=h
  cases ry
  rcases hq with hq|hq
  . obtain⟨its,r,pl,hz⟩:=I.list hq
    refine SeqAt.in_listAt (eqU x) pl.isList (λ w hw=>GG rx fx r fs w (by simpa using hw)) ⟨.bl _,H,I,rfl,?_⟩
    rw[show its.toArray.any (eqU x)=its.any (eqU x) by simp,Hc r fs]
    exact q
  . obtain⟨its,r,pl,hz⟩:=I.tuple hq
    refine SeqAt.in_tupleAt (eqU x) pl (λ w hw=>GG rx fx r fs w (by simpa using hw)) ⟨.bl _,H,I,rfl,?_⟩
    rw[show its.toArray.any (eqU x)=its.any (eqU x) by simp,Hc r fs]
    exact q
theorem JX:CallR X (.builtin "len") (λ xs H Q=>∃ p ys,xs=[.ref p]/\(SqL X.K H p ys ∨ SqT X.K H p ys)/\Q (.int ys.length) H):=by
  intro pins s σ H xs us Q I r h
  obtain⟨p,ys,rfl,hq,q⟩:=h
  obtain⟨u,rfl,rx⟩:=Ct r
  cases rx
  have hn:=FR
  rcases hq with hq|hq
  . obtain⟨its,r',pl,hz⟩:=I.list hq
    have hlen:=r'.length
    exact Calls.call_len_list pl.isList (by simp only[List.size_toArray] <;> omega) ⟨.int ys.length,H,I.tok _,⟨s.toks + 1,by rw[List.size_toArray,hlen]⟩,q⟩
  . obtain⟨its,r',pl,hz⟩:=I.tuple hq
    have hlen:=r'.length
    exact len_tuple pl (by simp only[List.size_toArray] <;> omega) ⟨.int ys.length,H,I.tok _,⟨s.toks + 1,by rw[List.size_toArray,hlen]⟩,q⟩
theorem CallR.or{f:Value}{r r':List V->Hp->VK->Prop}(h:CallR X f r)(h':CallR X f r'):CallR X f (λ xs H Q=>r xs H Q ∨ r' xs H Q):=by
  intro pins s σ H xs us Q I rs q
  rcases q with q|q
  . exact h pins s σ H xs us Q I rs q
  . exact h' pins s σ H xs us Q I rs q
theorem JW:CallR X (.type "list") (λ xs H Q=>∃ p ys,xs=[.ref p]/\(SqL X.K H p ys ∨ SqT X.K H p ys)/\∀ l,H l=none->Q (.ref l) (upd H l (.lst ys))):=by
  intro pins s σ H xs us Q I r h
  obtain⟨p,ys,rfl,hq,q⟩:=h
  obtain⟨u,rfl,rx⟩:=Ct r
  cases rx
  have fin:∀ (its:List Value),Vals ys its->ys.length <= sizeLine->∀ (h':Heap) (c':Nat),(∀ b o',s.heap.get? b=some o'->h'.get? b=some o') ->
      h'.get? s.heap.objs.size=some { cls:=.type "list",dict:=none,data:=.seq its.toArray c',slots:=#[] }->EP X pins σ Q (.ref s.heap.objs.size) { s with heap:=h' }:=λ its r' hz h' c' kp e=>
    ⟨.ref s.heap.objs.size,_,I.laid (t':=s.toks) kp (Nat.le_refl _) (show ObjOk X.prog X.w _ h' _ (.lst ys)from⟨hz,its,c',r',e⟩),rfl,q _ (I.hok.fresh (Nat.le_refl _))⟩
  rcases hq with hq|hq
  . obtain⟨its,r',pl,hz⟩:=I.list hq
    have hlen:=r'.length
    obtain⟨o,ho,hc,n,hd⟩:=pl.isList
    exact call_list_seq p (.inl rfl) ho hc hd (λ h' c' kp e=>fin its r' hz h' c' kp e) (by simp only[List.size_toArray] <;> omega)
  . obtain⟨its,r',pl,hz⟩:=I.tuple hq
    have hlen:=r'.length
    obtain⟨o,ho,hc,n,hd⟩:=pl
    exact call_list_seq p (.inr rfl) ho hc hd (λ h' c' kp e=>fin its r' hz h' c' kp e) (by simp only[List.size_toArray] <;> omega)
theorem Hz:CallR X (.type "tuple") (λ xs H Q=>∃ p ys,xs=[.ref p]/\((SqL X.K H p ys/\∀ l,H l=none->Q (.ref l) (upd H l (.tup ys))) ∨ (SqT X.K H p ys/\Q (.ref p) H))):=by
  intro pins s σ H xs us Q I r h
  obtain⟨p,ys,rfl,h⟩:=h
  obtain⟨u,rfl,rx⟩:=Ct r
  cases rx
  rcases h with⟨hq,q⟩|⟨hq,q⟩
  . obtain⟨its,r',pl,hz⟩:=I.list hq
    have hlen:=r'.length
    refine call_tuple_list pl.isList (λ h' kp=>?_) (by simp only[List.size_toArray] <;> omega)
    have I1:Inv X pins σ H { s with heap:=h' }:=I.kept (t':=s.toks) kp
    have I2:Inv X pins σ (upd H h'.objs.size (.tup ys)) { s with heap:=h'.push { cls:=.type "tuple",data:=.seq its.toArray } }:=
      I1.laid (t':=s.toks) (λ b o e=>Heap.get?_push_of_some _ e) (Nat.le_refl _) (show ObjOk X.prog X.w _ _ _ (.tup ys)from⟨hz,its,r',IsTupD.new _ _⟩)
    exact⟨.ref h'.objs.size,_,I2,rfl,q _ (I1.hok.fresh (Nat.le_refl _))⟩
  . obtain⟨its,r',pl,hz⟩:=I.tuple hq
    exact call_tuple_same pl ⟨.ref p,H,I,rfl,q⟩
noncomputable def tyV(K:PySem.W.Frag)(T:String)(x:V)(H:Hp):Prop:=match x with
  | .str _=>T="str"
  | .int _=>T="int"
  | .ref p=>(T="list"/\∃ xs,SqL K H p xs) ∨ (T="tuple"/\∃ o,K.lookup p=some o/\o.cls=.type "tuple"/\o.dict=none) ∨
      (T="dict"/\((∃ kvs,H p=some (.dK kvs)) ∨ ∃ kvs,H p=some (.dT kvs))) ∨ (T="set"/\∃ S n,H p=some (.set S n))
  | _=>False
theorem RW{pins:List (Addr × Obj)}{σ:St}{H:Hp}{s:Shared}{T:String}{x:V}{v:Value}(I:Inv X pins σ H s)(r:RelV x v)(ty:tyV X.K T x H) :
    s.TypeIs v T/\∀ a,v=.ref a->∃ ob,s.heap.get? a=some ob/\ob.dict=none:=by
  cases x with
  | str z=>
    obtain⟨t,rfl⟩:=r
    cases(show T="str" from ty)
    exact⟨typeIs_str s z t,λ _ e=>nomatch e⟩
  | int i=>
    obtain⟨t,rfl⟩:=r
    cases(show T="int" from ty)
    exact⟨typeIs_int s i t,λ _ e=>nomatch e⟩
  | ref p=>
    cases r
    rcases ty with⟨rfl,xs,hq⟩|⟨rfl,o,hk,hc,hd⟩|⟨rfl,hk⟩|⟨rfl,S,n,hk⟩
    . obtain⟨its,_,pl,_⟩:=I.list hq
      refine⟨pl.isList.typeIs,λ a e=>?_⟩
      cases e
      obtain⟨o,n,e,c,hd,_⟩:=pl
      exact⟨o,e,hd⟩
    . refine⟨⟨o,I.kIn p o hk,hc⟩,λ a e=>?_⟩
      cases e
      exact⟨o,I.kIn _ o hk,hd⟩
    . have z:∃ o,s.heap.get? p=some o/\o.ExactDict:=by
        rcases hk with⟨kvs,hk⟩|⟨kvs,hk⟩
        . obtain⟨_,_,_,_,o,_,_,e,ex,_⟩:=I.hok p _ hk
          exact⟨o,e,ex⟩
        . obtain⟨_,_,_,_,o,_,_,e,ex,_⟩:=I.hok p _ hk
          exact⟨o,e,ex⟩
      obtain⟨o,e,ex⟩:=z
      refine⟨⟨o,e,ex.1⟩,λ a e2=>?_⟩
      cases e2
      exact⟨o,e,ex.2.1⟩
    . obtain⟨o,_,_,_,e,ex,_⟩:=I.hok p _ hk
      refine⟨⟨o,e,ex.1⟩,λ a e2=>?_⟩
      cases e2
      exact⟨o,e,ex.2.1⟩
  | _=>exact False.elim ty
noncomputable def tBM(K:PySem.W.Frag)(T:String)(r:V->List V->Hp->VK->Prop)(to:TE)(t:TA):TE:=λ σ H Q=>to σ H λ x H1=>tyV K T x H1/\t σ H1 λ xs H2=>r x xs H2 Q
variable{o e:Expr}{es:List Expr}{to:TE}{t:TA}{name:Str}{apos cpos:Pos}{T id:String}{r:V->List V->Hp->VK->Prop}
theorem Tt(pa:PlainAttrs T)(slot:Slot T name id)(hty:typeOf (.builtin id)=pure (.type "method_descriptor"))(hm:MtR X id r)(ho:PE X o to)(ha:PA X (e :: es) t)
    (hbase:attributeBase o name X.env (eval o X.env)=eval o X.env:=by rfl)
    (hfew:((backTo cpos (starEach (e :: es) X.env)).all (λ x=>!x.1) && (backToKw cpos (keywordEach [] X.env)).all (λ x=>x.1.isSome)
      && decide ((e :: es).length + ([]:List Keyword).length + (if([]:List Keyword).isEmpty then 0 else 1) < 30))=true:=by rfl)
    (hline:(apos.endLine == cpos.line)=true:=by rfl) (hs:starEach (e :: es) X.env=(false,eval e X.env) :: starEach es X.env:=by rfl) (hplain:(backTo cpos (starEach es X.env)).any (·.1)=false:=by rfl) :
    PE X (.Call (.Attribute o name apos) (e :: es) [] cpos) (tBM X.K T r to t):=by
  intro pins s σ H Q I h
  refine wpAny_Call_method_late hbase hfew hline rfl (thn (ho pins s σ H _ I h) λ v s1 ⟨x,H1,I1,r1,ty,q1⟩=>?_)
  obtain⟨h1,h2⟩:=RW I1 r1 ty
  refine⟨T,id,pa,slot,hty,h1,h2,?_⟩
  have hA:=ha cpos pins s1 σ H1 _ I1 q1
  rw[hs]at hA ⊢
  refine Calls.callWith_builtin (by show(false || (backTo cpos (starEach es X.env)).any (·.1))=false;rw[hplain] <;> rfl) (Calls.evalArgs_plain ?_)
  exact thn hA λ us s2 ⟨vs,H2,I2,r2,q2⟩=>hm pins s2 σ H2 x vs v us Q I2 r1 r2 q2
end
end L2
namespace L2
open PySem PySem.Spec PyProof.Rows
noncomputable def MtM(X:Cx)(id:String)(r:V->List V->Hp->VK->Prop):Prop:=
  ∀ (pins:List (Addr × Obj)) (s:Shared) (σ:St) (H:Hp) (x:V) (xs:List V) (v:Value) (us:List Value) (Q:VK),Inv X pins σ H s->RelV x v->Vals xs us->r x xs H Q ->
    wpAny (model X.prog X.w) X.A (call (.builtin id) (v :: us)) (EP X pins σ Q) X.xe s
theorem Vals.one:∀ {x:V} {us:List Value},Vals [x] us->∃ u,us=[u]/\RelV x u
  | _,_,.cons r .nil=>⟨_,rfl,r⟩
theorem Vals.eraseIdx:∀ {xs:List V} {us:List Value} (i:Nat),Vals xs us->Vals (xs.eraseIdx i) (us.eraseIdx i)
  | _,_,_,.nil=>.nil
  | _,_,0,.cons _ t=>t
  | _,_,i + 1,.cons r t=>.cons r (Vals.eraseIdx i t)
section
variable{X:Cx}{pins:List (Addr × Obj)}{σ:St}{H:Hp}{s:Shared}{l b:Addr}{xs ys zs:List V}
theorem Inv.lset{its its':List Value}{n:Nat}{f:Array Value->Array Value}{t':Nat}(I:Inv X pins σ H s)(hH:H l=some (.lst xs))
    (e:s.heap.get? l=some { cls:=.type "list",data:=.seq its.toArray n }) (hf:f its.toArray=its'.toArray) (hv:Vals ys its') (hz:ys.length <= sizeLine) :
    Inv X pins σ (upd H l (.lst ys)) { s with heap:=s.heap.update l (Obj.mapSeq f),toks:=t' }:=by
  have q:=PySem.IsL.update e f
  rw[hf]at q
  refine I.write (x:=l) (e:=l) (by rw[hH];exact trivial) (.inl rfl) (λ b' u hb hu=>(Heap.get?_update_other s.heap (Obj.mapSeq f) (Ne.symm hb)).trans hu) ⟨_,q⟩ ?_
  exact⟨hz,its',_,hv,q⟩
theorem Inv.lnew{its:List Value}{t':Nat}(I:Inv X pins σ H s)(hv:Vals ys its)(hz:ys.length <= sizeLine) :
    Inv X pins σ (upd H s.heap.objs.size (.lst ys)) { s with heap:=s.heap.push { cls:=.type "list",data:=.seq its.toArray },toks:=t' }:=
  I.laid (λ _ _ q=>Heap.get?_push_of_some _ q) (Nat.le_refl _) ⟨hz,its,0,hv,Heap.get?_push_size _ rfl⟩
theorem Inv.lstM(I:Inv X pins σ H s)(hH:H l=some (.lst xs)):xs.length <= sizeLine/\∃ (its:List Value) (n:Nat),Vals xs its/\xs.length=its.length/\s.heap.get? l=some { cls:=.type "list",data:=.seq its.toArray n }:=by
  obtain⟨z,its,n,r,e⟩:=I.hok l _ hH
  exact⟨z,its,n,r,r.length,e⟩
end
section
variable{X:Cx}
noncomputable def Jq:V->List V->Hp->VK->Prop:=λ x vs H Q=>∃ l xs y,x=.ref l/\vs=[y]/\H l=some (.lst xs)/\xs.length < sizeLine/\Q .non (upd H l (.lst (xs ++ [y])))
theorem E5:MtM X "list.append" Jq:=by
  intro pins s σ H x vs v us Q I rx rv h
  obtain⟨l,xs,y,rfl,rfl,hH,hz,q⟩:=h
  cases rx
  obtain⟨u,rfl,ru⟩:=rv.one
  obtain⟨z,its,n,r,hl,e⟩:=I.lstM hH
  refine call_meets F.slot_list_append ⟨_,e,rfl⟩ F.entry_list_append (F.args_list_append_2 _ _) (PySem.list_append l its.toArray n u (by rw[List.size_toArray];omega)) ⟨e,?_⟩
  refine⟨.non,_,I.lset (its':=its ++ [u]) hH e (by simp) (r.append (.cons ru .nil)) ?_,rfl,q⟩
  rw[List.length_append,List.length_singleton]
  omega
end
section
variable{prog:Program}{w:World}{A:Around}{E:Value->Shared->Prop}{s:Shared}
end
section
variable{X:Cx}
end
end L2
namespace Att
open PySem PySem.W PySem.Calls PyProof.Rows
theorem Gn{P:Params}{h:Heap}:∀ (ns:List Int) (vs:List Value),WellAll P h vs (ns.map WData.int)->IntsAre vs ns:=by
  intro ns
  induction ns with
  | nil=>
    intro vs w
    rw[List.map_nil]at w
    cases w
    exact .nil
  | cons n ns ih=>
    intro vs w
    rw[List.map_cons]at w
    cases w with
    | cons a b=>
      cases a
      exact .cons _ _ (ih _ b)
theorem Ll{l:OpenLaw}{n:Nat}(hn:l.most=some n){P:Params}{h:Heap}{args:List WData}{vals:List Value}
    (hpre:l.row.toRowW.claim.pre args=true) (hwl:WellAll P h vals args) :
    ∃ a vs ns,vals=[Value.ref a]/\args=[WData.list (ns.map WData.int)]/\h.get? a=some { cls:=.type "list",data:=.seq vs.toArray }/\IntsAre vs ns/\ns.length <= n:=by
  have hsh:WShape.hasAll [] args [.list .int]=true:=(pre_splitW hpre).1
  have hc:l.pre.holds [] { args:=args }=true:=(pre_splitW hpre).2
  obtain⟨d,r,rfl,h1,h2⟩:=hasAllW_cons hsh
  obtain rfl:=hasAllW_nil h2
  obtain⟨xs,rfl,h3⟩:=hasW_list h1
  obtain⟨ns,rfl⟩:=items_int h3
  have hlen:ns.length <= n:=by
    unfold OpenLaw.pre at hc
    have h4:(WTm.not (.lt (.lit (.int (n:Int))) (.len (.arg 0)))).holds [] { args:=[.list (ns.map .int)] }=true:=by
      have h4:=(holds_andW hc).1
      rw[hn]at h4
      exact h4
    have h5:=condW_of h4 (w_not (w_lt w_lit (w_len_list (w_arg rfl))))
    rw[List.length_map]at h5
    refine Nat.le_of_not_lt λ q=>?_
    have q':(n:Int) < ((ns.length:Nat):Int):=by omega
    first
      | (rw[decide_eq_true q']at h5;exact absurd h5 (by decide))
      | (simp at h5;omega)
  cases hwl with
  | cons w1 w2=>
    cases w2
    cases w1 with
    | list ho hall=>exact⟨_,_,ns,rfl,rfl,ho,Gn ns _ hall,hlen⟩
theorem M1(l:OpenLaw)(args:List WData):l.row.toRowW.claim.post args (.bool true) args=true:=
  postW_of (r:=l.row.toRowW) (X:=(true == true))
    (show WShape.has [] (.bool true) .bool=true by first|rfl|decide|simp[WShape.has,WShape.arms,WShape.armsAll])
    (show(WTm.eq .res (.lit (.bool true))).value [] { args:=args,res:=some (.bool true),after:=args }=some (.bool (true == true))from w_eq_bool (w_res rfl) w_lit) rfl
theorem attach_call{l:OpenLaw}{n:Nat}{q:Program}{loose:List Str}{XP:(Str->Option Value)->Heap->Prop}{YP:World->Heap->Prop}{d:DefRec}
    (hn:l.most=some n) (hdf:d.params.defaults=[])
    (call:∀ (w:World) (s₀ s₁:Shared) (mg mb:Str->Option Value) (fa:Addr) (o:Obj) (pm cd doc:Value) (a:Addr) (vs:List Value) (ns:List Int),
      Ground q loose [] XP w s₀ mg mb s₁.heap->YP w s₁.heap ->
      s₁.heap.get? fa=some o->o.data=.func (docDef d.name d.params d.body d.scope pm cd doc)->s₁.heap.CodeRec cd d.name->mg d.name=some (.ref fa) ->
      s₁.heap.get? a=some { cls:=.type "list",data:=.seq vs.toArray }->IntsAre vs ns->ns.length <= n->s₁.gens=#[] ->
      codeAny (model l.prog w) callerA (.call (.ref fa) ⟨[.ref a],[]⟩) (λ r s'=>r=.ok (.ret (.bool true))/\OldK s₁.heap s'.heap/\s'.os=s₁.os/\AllBare s'.gens) s₁) :
    WalkO q loose XP YP l.row.toRowW d [] (λ f vs=>PySem.call f vs):=by
  intro w s₀ s₁ mg mb G Y fa o pm cd doc dV kV ho hd hcd hD hmg hg args vals as hpre hlay hrd hwl hlo
  obtain rfl:dV=.none:=Dflts.none hD hdf
  obtain rfl:kV=.none:=Dflts.noKw hD
  obtain⟨a,vs,ns,rfl,rfl,hobj,hints,hlen⟩:=Ll hn hpre hwl
  refine enter_call (codeAny_mono (call w s₀ s₁ mg mb fa o pm cd doc a vs ns G Y ho (fd_plain hd) hcd hmg hobj hints hlen hg) λ r s' hq=>?_)
  obtain⟨rfl,h2,h3,h4⟩:=hq
  exact⟨.inl ⟨.bool true,.bool true,[],rfl,λ _=>rfl,.bool true,M1 l _,λ _=>⟨List.Pairwise.nil,λ _ hm=>(nomatch hm)⟩⟩,h2,h3,h4⟩
section
variable{prog:Program}{w:World}{A:Around}{E:Value->Shared->Prop}{s:Shared}{K:Frag}
end
end Att
namespace L2
open PySem PySem.Spec PyProof.Rows
theorem Hf:∀ {vs:List Value} {ns:List Int},IntsAre vs ns->Vals (ns.map V.int) vs
  | _,_,.nil=>.nil
  | _,_,.cons n t h=>.cons ⟨t,rfl⟩ (Hf h)
end L2
namespace L2
open PySem PySem.Spec PyProof.Rows
end L2
namespace L2
open PySem PySem.Spec PyProof.Rows
noncomputable def Qb(s:Stmt)(j:Nat):Stmt:=match s with
  | .ClassDef _ _ _ body _ _ _ _ _ _ _=>body.getD j (.Pass ⟨0,0,0,0⟩)
  | _=>.Pass ⟨0,0,0,0⟩
noncomputable def Ap(s:Stmt):Arguments:=match s with
  | .FunctionDef _ a _ _ _ _ _ _ _ _=>a
  | _=>{ posonlyargs:=[],args:=[],vararg:=none,kwonlyargs:=[],kw_defaults:=[],kwarg:=none,defaults:=[] }
noncomputable def Ac(s:Stmt):List Stmt:=match s with
  | .FunctionDef _ _ b _ _ _ _ _ _ _=>b
  | _=>[]
noncomputable def AA(s:Stmt):Scope:=match s with
  | .FunctionDef _ _ _ _ _ _ sc _ _ _=>sc
  | _=>{ kind:=.function,names:=[],isGenerator:=false,isCoroutine:=false }
noncomputable abbrev CX0:CXT:=λ _ _ _ _ _ _=>False
noncomputable abbrev E0:XK:=λ _ _ _=>False
theorem Tv{X:Cx}:Jd CX0 X E0:=λ _ _ _ _ _ _ _ h=>h.elim
structure Fun(K:PySem.W.Frag)(x qual:Str)(st:Stmt)(f:Addr)(fd:FuncData):Prop where
  ex:∃ (oc:Value) (od:Option Addr) (kV doc pm:Value) (an:Option Addr) (cdv ct:Value) (osl:Array (Option Value)),
    fd=PySem.W.fnOf x qual (Ap st) (Ac st) (AA st) .none kV doc pm an cdv ct/\K.lookup f=some ⟨oc,od,.func fd,osl⟩/\PySem.W.codeIn K cdv qual=true
  kp:PySem.W.keepIn K (.ref f)=true
section
variable{P:Program}{w:World}{K:PySem.W.Frag}{mg:Str->Option Value}{base:Heap}
theorem Fun.ok{x qual:Str}{st:Stmt}{f:Addr}{fd:FuncData}{N ps:List Str}{k:Nat}{sp:Sp}(F:Fun K x qual st f fd)(S:FnScope N ps (AA st))(len:∀ vs H Q E,sp vs H Q E->vs.length=ps.length)
    (hbody:∀ (cdv:Value) (A:Around) (outer:List Env) (s:Shared) (H:Hp) (vs:List V) (Q:VK) (E:XK),Room k (A.deeper (envOfC qual (AA st) s.heap.objs.size f cdv))->sp vs H Q E ->
      ∃ t,PSs (Dw CX0 P w K mg base N qual (AA st) f cdv A outer s H E).nox (Ac st) t/\t { nx:=λ _ H'=>Q .non H',rt:=Q } (CC N vs) H):FnOk P w K mg base CX0 (k + 1) f fd ps sp:=by
  obtain⟨oc,od,kV,doc,pm,an,cdv,ct,osl,rfl,lk,hcd⟩:=F.ex
  refine Og lk hcd S len λ A outer s H vs Q E hr hsp=>?_
  obtain⟨t,h,q⟩:=hbody cdv A outer s H vs Q E hr hsp
  exact⟨t,h.nox,q⟩
theorem Fun.binds{x qual:Str}{st:Stmt}{f:Addr}{fd:FuncData}{ps:List Str}(F:Fun K x qual st f fd)
    (h:∀ (kV doc pm:Value) (an:Option Addr) (cdv ct:Value) (us:List Value),us.length=ps.length->bindArgs (PySem.W.fnOf x qual (Ap st) (Ac st) (AA st) .none kV doc pm an cdv ct) ⟨us,[]⟩=pure (ps.zip us)):Binds K fd ps []:=by
  obtain⟨oc,od,kV,doc,pm,an,cdv,ct,osl,rfl,lk,hcd⟩:=F.ex
  exact .all (h kV doc pm an cdv ct)
theorem BO{x qual:Str}{st:Stmt}{f:Addr}{oc:Value}{od an:Option Addr}{osl:Array (Option Value)}{kV doc pm cdv ct:Value}(l:K.lookup f=some ⟨oc,od,.func (PySem.W.fnOf x qual (Ap st) (Ac st) (AA st) .none kV doc pm an cdv ct),osl⟩)
    (c:PySem.W.codeIn K cdv qual=true) (k:PySem.W.keepIn K (.ref f)=true):Fun K x qual st f (PySem.W.fnOf x qual (Ap st) (Ac st) (AA st) .none kV doc pm an cdv ct):=⟨⟨oc,od,kV,doc,pm,an,cdv,ct,osl,rfl,l,c⟩,k⟩
end
section
variable{X:Cx}
end
theorem Nu{A B:Prop}(h:A):if true=true then A else B:=by
  rw[if_pos rfl]
  exact h
end L2
namespace L2
open PySem PySem.Spec PyProof.Rows
section
variable{κ:Type}[DecidableEq κ]
end
section
variable{P:Program}{w:World}{H:Hp}{h:Heap}{a:Addr}
end
section
variable{X:Cx}{pins:List (Addr × Obj)}{σ:St}{H:Hp}{s:Shared}{a:Addr}{y v:V}{u r:Value}{o:Option V}{A:Around}{E:Value->Shared->Prop}
end
section
variable{X:Cx}{pins:List (Addr × Obj)}{σ:St}{H:Hp}{s:Shared}{a:Addr}{kvs:List (Key × V)}{k:Key}{u:Value}{A:Around}{E:Value->Shared->Prop}
end
section
variable{X:Cx}{o i e value:Expr}{pos pos' tpos:Pos}{td ty tv:TE}
end
section
variable{X:Cx}{pos:Pos}
end
section
variable{X:Cx}{pins:List (Addr × Obj)}{σ:St}{H:Hp}{s:Shared}{a:Addr}{y d:V}{u r:Value}{o:Option V}{A:Around}{E:Value->Shared->Prop}
end
section
variable{X:Cx}{o e f:Expr}{apos cpos:Pos}{td ty tx:TE}
end
section
variable{X:Cx}{pins:List (Addr × Obj)}{σ:St}{H:Hp}{s:Shared}{a:Addr}{kvs:List (Key × V)}{A:Around}{E:Value->Shared->Prop}
end
section
variable{X:Cx}{pins:List (Addr × Obj)}{σ:St}{H:Hp}{s:Shared}{a:Addr}{y:V}{u:Value}{A:Around}{E:Value->Shared->Prop}
end
end L2
namespace L2
open PySem PySem.Spec PyProof.Rows
section
variable{X:Cx}
end
section
variable{κ:Type}[DecidableEq κ]
end
end L2
namespace L2
open PySem PySem.Spec PyProof.Rows
noncomputable def B7(cells:List (Str × Addr)):List (Str × NameKind)->List (Str × Addr)->List (Str × Addr)
  | [],acc=>acc
  | (n,k) :: r,acc=>if k == .free then B7 cells r ((n,(cells.lookup n).getD 0) :: acc)else B7 cells r acc
theorem EY{env:Env}(f:Str × NameKind->List (Str × Addr)->Sem (ForInStep (List (Str × Addr))))
    (hf:∀ name kind cs,f (name,kind) cs=if(kind == NameKind.free)=true then(do let a <- cellOf env name;pure (ForInStep.yield ((name,a) :: cs)))else pure (ForInStep.yield cs)) :
    ∀ (names:List (Str × NameKind)) (acc:List (Str × Addr)),(∀ y ∈ names,y.2=.free->∃ c,env.cells.lookup y.1=some c)->forIn names acc f=pure (B7 env.cells names acc)
  | [],acc,_=>rfl
  | (n,k) :: r,acc,hy=>by
    rw[List.forIn_cons,hf]
    have ih:=λ a=>EY f hf r a λ z hz=>hy z (List.mem_cons_of_mem _ hz)
    by_cases hk:(k == NameKind.free)=true
    . obtain⟨c,hc⟩:=hy (n,k) List.mem_cons_self (by simpa using hk)
      have hc:env.cells.lookup n=some c:=hc
      have e1:cellOf env n=pure c:=by unfold cellOf;rw[hc]
      rw[if_pos hk,e1]
      show forIn r ((n,c) :: acc) f=_
      have e2:B7 env.cells ((n,k) :: r) acc=B7 env.cells r ((n,c) :: acc):=by
        rw[B7,if_pos hk,hc]
        rfl
      rw[ih,e2]
    . rw[if_neg hk]
      show forIn r acc f=_
      have e2:B7 env.cells ((n,k) :: r) acc=B7 env.cells r acc:=by
        rw[B7,if_neg hk]
      rw[ih,e2]
theorem DQ{scope:Scope}{env:Env}(h:∀ y ∈ scope.names,y.2=.free->∃ c,env.cells.lookup y.1=some c):closureFor scope env=pure (B7 env.cells scope.names []):=by
  unfold closureFor
  dsimp only
  rw[EY _ (λ name kind cs=>rfl) scope.names [] h]
  rfl
theorem DU{cells:List (Str × Addr)}:∀ {names:List (Str × NameKind)} {acc:List (Str × Addr)},(∀ y ∈ names,y.2=.free->∃ c,cells.lookup y.1=some c)->(∀ x c,acc.lookup x=some c->cells.lookup x=some c) ->
    ∀ x c,(B7 cells names acc).lookup x=some c->cells.lookup x=some c
  | [],_,_,ha,x,c,e=>ha x c e
  | (n,k) :: r,acc,hy,ha,x,c,e=>by
    unfold B7 at e
    have hr:∀ y ∈ r,y.2=.free->∃ c,cells.lookup y.1=some c:=λ z hz=>hy z (List.mem_cons_of_mem _ hz)
    by_cases hk:(k == NameKind.free)=true
    . rw[if_pos hk]at e
      refine DU hr (λ z d q=>?_) x c e
      obtain⟨c0,hc0⟩:=hy (n,k) List.mem_cons_self (by simpa using hk)
      have hc0:cells.lookup n=some c0:=hc0
      rw[List.lookup_cons]at q
      by_cases hz:(z == n)=true
      . rw[hz,hc0]at q
        have:z=n:=by simpa using hz
        subst this
        simpa [hc0]using q
      . have hz':(z == n)=false:=by simpa using hz
        rw[hz']at q
        exact ha z d q
    . rw[if_neg hk]at e
      exact DU hr ha x c e
theorem DV{cells:List (Str × Addr)}:∀ {names:List (Str × NameKind)} {acc:List (Str × Addr)} {x:Str},((acc.lookup x).isSome=true ∨ (x,NameKind.free) ∈ names)->((B7 cells names acc).lookup x).isSome=true
  | [],_,_,h=>h.elim id λ z=>by cases z
  | (n,k) :: r,acc,x,h=>by
    unfold B7
    by_cases hk:(k == NameKind.free)=true
    . rw[if_pos hk]
      refine DV ?_
      by_cases hx:(x == n)=true
      . exact .inl (by rw[List.lookup_cons,hx];rfl)
      . have hx':(x == n)=false:=by simpa using hx
        rcases h with h|h
        . exact .inl (by rw[List.lookup_cons,hx'];exact h)
        . rcases List.mem_cons.mp h with h|h
          . cases h;simp at hx
          . exact .inr h
    . rw[if_neg hk]
      refine DV ?_
      rcases h with h|h
      . exact .inl h
      . rcases List.mem_cons.mp h with h|h
        . cases h;simp at hk
        . exact .inr h
noncomputable def C0:Nat->List (Str × NameKind)->List (Str × Addr)
  | _,[]=>[]
  | n,(x,k) :: r=>if k == .cell then C0 (n + 1) r ++ [(x,n)]else C0 n r
theorem Bb:∀ (names:List (Str × NameKind)) (n:Nat) (acc:List (Str × Addr)),cellsFrom n names acc=C0 n names ++ acc
  | [],_,_=>rfl
  | (x,k) :: r,n,acc=>by
    unfold cellsFrom C0
    by_cases hk:(k == NameKind.cell)=true
    . rw[if_pos hk,if_pos hk,Bb r (n + 1),List.append_assoc];rfl
    . rw[if_neg hk,if_neg hk,Bb r n]
theorem GD:∀ (names:List (Str × NameKind)) (n:Nat) (x:Str) (c:Addr),(C0 n names).lookup x=some c->(x,NameKind.cell) ∈ names
  | [],_,_,_,e=>by cases e
  | (y,k) :: r,n,x,c,e=>by
    unfold C0 at e
    by_cases hk:(k == NameKind.cell)=true
    . rw[if_pos hk]at e
      have hk':k=.cell:=by simpa using hk
      rw[List.lookup_append]at e
      cases q:(C0 (n + 1) r).lookup x with
      | some d=>exact List.mem_cons_of_mem _ (GD r _ x d q)
      | none=>
        rw[q]at e
        simp only[Option.none_or,List.lookup_cons]at e
        by_cases hx:(x == y)=true
        . have:x=y:=by simpa using hx
          subst this;subst hk'
          exact List.mem_cons_self
        . have hx':(x == y)=false:=by simpa using hx
          rw[hx']at e;cases e
    . rw[if_neg hk]at e
      exact List.mem_cons_of_mem _ (GD r n x c e)
theorem GE:∀ (names:List (Str × NameKind)) (n:Nat) (x:Str),(x,NameKind.cell) ∈ names->∃ c,(C0 n names).lookup x=some c
  | [],_,_,h=>by cases h
  | (y,k) :: r,n,x,h=>by
    unfold C0
    by_cases hk:(k == NameKind.cell)=true
    . rw[if_pos hk,List.lookup_append]
      rcases List.mem_cons.mp h with h|h
      . obtain⟨rfl,rfl⟩:=Prod.mk.inj h
        cases q:(C0 (n + 1) r).lookup x with
        | some d=>exact⟨d,rfl⟩
        | none=>exact⟨n,by simp[List.lookup_cons]⟩
      . obtain⟨c,hc⟩:=GE r (n + 1) x h
        exact⟨c,by rw[hc];rfl⟩
    . rw[if_neg hk]
      rcases List.mem_cons.mp h with h|h
      . cases h;simp at hk
      . exact GE r n x h
noncomputable def O7(scope:Scope)(C:Addr)(env:Env):Env:=
  { scope:=relabel scope env,locals:=C,globals:=env.globals,cells:=cellsFrom (C + 1) scope.names (B7 env.cells scope.names []),qual:=env.qual,func:=none,code:=env.code,frame:=env.frame,builtins:=env.builtins }
theorem K2{M:Model}{A:Around}{E:Value->Shared->Prop}{s:Shared}{scope:Scope}{cl:List (Str × Addr)}{env:Env}{Q:Env->Shared->Prop}
    (hQ:∀ h',(∀ b o,s.heap.get? b=some o->h'.get? b=some o)->h'.Ns s.heap.objs.size (λ _=>none)->(∀ x c,(C0 (s.heap.objs.size + 1) scope.names).lookup x=some c->h'.IsCell c none/\s.heap.objs.size < c) ->
      ((C0 (s.heap.objs.size + 1) scope.names).Pairwise λ x y=>x.2 ≠ y.2) ->
      Q { scope:=scope,locals:=s.heap.objs.size,globals:=env.globals,cells:=cellsFrom (s.heap.objs.size + 1) scope.names cl,qual:=env.qual,func:=none,code:=env.code,frame:=env.frame,builtins:=env.builtins } { s with heap:=h' }) :
    wpAny M A (newFunctionEnv scope env.globals cl [] env.qual none .none (some env)) Q E s:=by
  simp only[newFunctionEnv,Option.isSome_some,if_true]
  refine wpAny_bind (wpAny_alloc ?_)
  refine wpAny_bind (wpAny_layCells _ (λ name kind cells=>by cases hkc:kind == NameKind.cell <;> simp[hkc]) _ _ _ _ ?_)
  have ok:=cellsFrom_ok scope.names (s.heap.push { cls:=.type "dict",data:=.dict #[] }) (s.heap.objs.size + 1) [] ⟨λ _ _ hm=>(nomatch hm),List.Pairwise.nil⟩ (by rw[Heap.size_push];exact Nat.le_refl _)
  rw[Heap.size_push,Bb,List.append_nil]at ok
  rw[show({ s with heap:=s.heap.push { cls:=.type "dict",data:=.dict #[] } }:Shared).heap.objs.size=s.heap.objs.size + 1 from Heap.size_push ..]
  refine wpAny_bind (wpAny_pure (wpAny_pure ?_))
  exact hQ _ (λ b o e=>pushCells_keeps _ _ b o (Heap.get?_push_of_some _ e)) ((Heap.Ns.new s.heap (.type "dict")).keeps (pushCells_keeps _ _)) (λ x c hc=>⟨(ok.empty x c (mem_of_lookup hc)).1,(ok.empty x c (mem_of_lookup hc)).2⟩) ok.apart
end L2
namespace L2
open PySem PySem.Spec PyProof.Rows
theorem Hk:∀ {names:List (Str × NameKind)} {x:Str} {k k':NameKind},(names.map (·.1)).Nodup->(x,k) ∈ names->(x,k') ∈ names->k=k'
  | [],_,_,_,_,h,_=>by cases h
  | (y,q) :: r,x,k,k',nd,h,h'=>by
    have nd:(y :: r.map (·.1)).Nodup:=nd
    obtain⟨n1,n2⟩:=List.nodup_cons.mp nd
    have out:∀ {z:NameKind},(y,z) ∈ r->False:=λ m=>n1 (List.mem_map.mpr ⟨_,m,rfl⟩)
    rcases List.mem_cons.mp h with e|e <;> rcases List.mem_cons.mp h' with e'|e'
    . cases e;cases e';rfl
    . cases e;exact(out e').elim
    . cases e';exact(out e).elim
    . exact Hk n2 e e'
theorem Ev{env:Env}{x:Str}:∀ {names:List (Str × NameKind)},names.lookup x=some .free ->
    (names.map λ(n,k)=>if(k == NameKind.free && env.scope.kind == .function && env.kindOf n == some .cell)then(n,NameKind.cell)else(n,k)).lookup x=some .cell ∨
    (names.map λ(n,k)=>if(k == NameKind.free && env.scope.kind == .function && env.kindOf n == some .cell)then(n,NameKind.cell)else(n,k)).lookup x=some .free
  | [],h=>by simp at h
  | (n,k) :: r,h=>by
    have ih:=@Ev env x r
    show List.lookup x ((if(k == NameKind.free && env.scope.kind == .function && env.kindOf n == some .cell)=true then(n,NameKind.cell)else(n,k)) :: _)=_ ∨ List.lookup x ((if(k == NameKind.free && env.scope.kind == .function && env.kindOf n == some .cell)=true then(n,NameKind.cell)else(n,k)) :: _)=_
    cases hx:x == n with
    | true=>
      simp only[List.lookup_cons,hx]at h
      cases h
      by_cases hc:(NameKind.free == NameKind.free && env.scope.kind == .function && env.kindOf n == some .cell)=true
      . rw[if_pos hc];exact .inl (by simp only[List.lookup_cons,hx])
      . rw[if_neg hc];exact .inr (by simp only[List.lookup_cons,hx])
    | false=>
      simp only[List.lookup_cons,hx]at h
      by_cases hc:(k == NameKind.free && env.scope.kind == .function && env.kindOf n == some .cell)=true
      . rw[if_pos hc];simp only[List.lookup_cons,hx];exact ih h
      . rw[if_neg hc];simp only[List.lookup_cons,hx];exact ih h
theorem FF{env:Env}{x:Str}:∀ {names:List (Str × NameKind)},
    ((names.map λ(n,k)=>if(k == NameKind.free && env.scope.kind == .function && env.kindOf n == some .cell)then(n,NameKind.cell)else(n,k)).lookup x=some .cell ∨
    (names.map λ(n,k)=>if(k == NameKind.free && env.scope.kind == .function && env.kindOf n == some .cell)then(n,NameKind.cell)else(n,k)).lookup x=some .free) ->
    names.lookup x=some .cell ∨ names.lookup x=some .free
  | [],h=>by simp at h
  | (n,k) :: r,h=>by
    have ih:=@FF env x r
    have h:List.lookup x ((if(k == NameKind.free && env.scope.kind == .function && env.kindOf n == some .cell)=true then(n,NameKind.cell)else(n,k)) :: _)=_ ∨ List.lookup x ((if(k == NameKind.free && env.scope.kind == .function && env.kindOf n == some .cell)=true then(n,NameKind.cell)else(n,k)) :: _)=_:=h
    cases hx:x == n with
    | true=>
      by_cases hc:(k == NameKind.free && env.scope.kind == .function && env.kindOf n == some .cell)=true
      . have hk:k=.free:=by
          have:=(Bool.and_eq_true _ _ ▸ (Bool.and_eq_true _ _ ▸ hc).1:(k == NameKind.free)=true/\_).1
          simpa using this
        exact .inr (by simp only[List.lookup_cons,hx,hk])
      . rw[if_neg hc]at h
        simp only[List.lookup_cons,hx]at h ⊢
        exact h
    | false=>
      simp only[List.lookup_cons,hx]
      refine ih ?_
      by_cases hc:(k == NameKind.free && env.scope.kind == .function && env.kindOf n == some .cell)=true
      . rw[if_pos hc]at h;simp only[List.lookup_cons,hx]at h;exact h
      . rw[if_neg hc]at h;simp only[List.lookup_cons,hx]at h;exact h
noncomputable def cCx(X:Cx)(N':List Str)(scope:Scope)(s:Shared)(H:Hp)(ex:List Addr):Cx:=
  { X with N:=N',s₀:=s,H₀:=H,env:=O7 scope s.heap.objs.size X.env,outer:=X.stack,ex:=ex,fn:=λ x=>decide ((x,NameKind.cell) ∈ scope.names),pn:=[],xe:=λ _ _=>False }
structure CSc(X:Cx)(scope:Scope)(fr:List Str)(ix:List Nat):Prop where
  kind:scope.kind=.function
  nd:(scope.names.map (·.1)).Nodup
  free:(scope.names.all λ y=>y.2 != .free || X.env.kindOf y.1 == some .cell || X.env.kindOf y.1 == some .free)=true
  frs:(fr.all λ x=>scope.names.lookup x == some .free)=true
  ixs:fr.map some=ix.map λ i=>X.N[i]?
  loc:(scope.names.all λ y=>y.2 != .local || scope.names.lookup y.1 == some .local)=true
noncomputable def Es(n:Nat)(ix:List Nat)(σ:St):St:=List.replicate n none ++ ix.map λ i=>(σ[i]?).join
section
variable{X:Cx}{scope:Scope}{fr loc:List Str}{ix:List Nat}{pins:List (Addr × Obj)}{σ:St}{H:Hp}{s:Shared}
theorem CSc.outer(S:CSc X scope fr ix){y:Str × NameKind}(hy:y ∈ scope.names)(e:y.2=.free):X.env.kindOf y.1=some .cell ∨ X.env.kindOf y.1=some .free:=by
  have h:=List.all_eq_true.mp S.free y hy
  rw[e]at h
  simpa using h
theorem CSc.clos(S:CSc X scope fr ix)(ok:X.Ok):∀ y ∈ scope.names,y.2=.free->∃ c,X.env.cells.lookup y.1=some c:=λ y hy e=>ok.has y.1 (S.outer hy e)
theorem CM(S:CSc X scope fr ix)(ok:X.Ok){n:Nat}{x:Str}{c:Addr}(e:(cellsFrom n scope.names (B7 X.env.cells scope.names [])).lookup x=some c) :
    (C0 n scope.names).lookup x=some c ∨ X.env.cells.lookup x=some c:=by
  rw[Bb,List.lookup_append]at e
  cases q:(C0 n scope.names).lookup x with
  | some d=>rw[q]at e;exact .inl e
  | none=>
    rw[q]at e
    exact .inr (DU (S.clos ok) (λ _ _ z=>by simp at z) x c e)
theorem JM(S:CSc X scope fr ix)(I:Inv X pins σ H s){ex:List Addr}(hex:∀ b ∈ ex,C5 X pins H b){h':Heap}(hk:∀ b o,s.heap.get? b=some o->h'.get? b=some o)(hn:h'.Ns s.heap.objs.size λ _=>none)
    (ho:∀ x c,(C0 (s.heap.objs.size + 1) scope.names).lookup x=some c->h'.IsCell c none/\s.heap.objs.size < c) (ha:(C0 (s.heap.objs.size + 1) scope.names).Pairwise λ x y=>x.2 ≠ y.2) (hlt:∀ b ∈ ex,b < s.heap.objs.size) :
    Inv (cCx X (loc ++ fr) scope s H ex) [] (Es loc.length ix σ) H { s with heap:=h' }:=by
  have old:∀ x c,X.env.cells.lookup x=some c->c < s.heap.objs.size:=λ x c e=>let ⟨v,z⟩:=I.cell x c e;z.lt
  have lenix:fr.length=ix.length:=by simpa using congrArg List.length S.ixs
  refine⟨⟨I.ok.mod,?_,I.ok.glob,I.ok.blt,Nat.le_refl _,?_,?_,?_,I.ok.hd,I.ok.frames,.inl rfl,?_,I.bs,Nat.le_trans I.ok.bsz I.sz,?_,?_,I.stack,I.stkFree⟩,rfl,I.bare,Un.kept hk,⟨_,hn,?_⟩,?_,I.hok.fresh (Nat.le_refl _),?_,?_,I.hok.kept hk,?_⟩
  . exact S.kind
  . intro x y c e1 e2
    rcases CM S I.ok e1 with a|a <;> rcases CM S I.ok e2 with b|b
    . exact name_of_addr ha (PySem.mem_of_lookup a) (PySem.mem_of_lookup b)
    . exact absurd (Nat.lt_trans (ho x c a).2 (old y c b)) (Nat.lt_irrefl _)
    . exact absurd (Nat.lt_trans (ho y c b).2 (old x c a)) (Nat.lt_irrefl _)
    . exact I.ok.inj x y c a b
  . intro x hx
    rcases FF hx with e|e
    . exact Option.isSome_iff_exists.mp (PySem.W.cellsFrom_some _ _ _ (.inl e))
    . exact Option.isSome_iff_exists.mp (PySem.W.cellsFrom_some _ _ _ (.inr (DV (.inr (PySem.mem_of_lookup e)))))
  . intro x c hf e
    have hf:(x,NameKind.cell) ∈ scope.names:=of_decide_eq_true hf
    obtain⟨d,hd⟩:=GE scope.names (s.heap.objs.size + 1) x hf
    have e':(cellsFrom (s.heap.objs.size + 1) scope.names (B7 X.env.cells scope.names [])).lookup x=some c:=e
    rw[Bb,List.lookup_append,hd]at e'
    cases e'
    exact Nat.le_of_lt (ho x _ hd).2
  . intro b hb
    refine⟨Nat.ne_of_lt (hlt b hb),λ x c e z=>?_⟩
    rcases CM S I.ok e with a|a
    . exact absurd (Nat.lt_trans (ho x c a).2 (by rw[z];exact hlt b hb)) (Nat.lt_irrefl _)
    . exact(hex b hb).2.2.2.2.1 x c a z
  . intro b o e hb
    rcases(hex b hb).2.2.2.1 with z|z
    . exact I.ok.noex b o e z
    . exact absurd (Nat.lt_of_lt_of_le (Heap.lt_size (I.ok.bs b o e).1) z) (Nat.lt_irrefl _)
  . intro b hb hf
    rcases List.mem_cons.mp (I.stkSub b hf)with z|z
    . exact(hex b hb).2.1 z
    . exact(hex b hb).2.2.1 z
  . intro i x v e1 e2 e3
    have e1:(loc ++ fr)[i]? = some x:=e1
    unfold Es at e2
    by_cases hi:i < loc.length
    . rw[List.getElem?_append_left (by simpa using hi),List.getElem?_replicate]at e2
      split at e2 <;> cases e2
    . have hi':loc.length <= i:=Nat.not_lt.mp hi
      rw[List.getElem?_append_right (by simpa using hi')]at e2
      rw[List.getElem?_append_right hi']at e1
      rw[List.length_replicate,List.getElem?_map]at e2
      generalize hj:i - loc.length=j at e1 e2
      have e4:(fr.map some)[j]? = some (some x):=by rw[List.getElem?_map,e1];rfl
      rw[S.ixs,List.getElem?_map]at e4
      cases q:ix[j]? with
      | none=>rw[q]at e2;cases e2
      | some k=>
        rw[q]at e2 e4
        have e2:(σ[k]?).join=some v:=Option.some.inj e2
        have e4:X.N[k]? = some x:=Option.some.inj e4
        have e5:σ[k]? = some (some v):=by
          cases w:σ[k]? with
          | none=>rw[w]at e2;cases e2
          | some z=>rw[w]at e2;simpa using e2
        have hfx:=List.all_eq_true.mp S.frs x (List.mem_of_getElem? e1)
        have hfx:scope.names.lookup x=some .free:=by simpa using hfx
        have hmem:=PySem.mem_of_lookup hfx
        have hout:=S.outer hmem rfl
        obtain⟨m,hm,hl⟩:=I.loc
        obtain⟨u,r,l⟩:=hl k x v e4 e5 (.inr hout)
        refine⟨u,r,.inr ⟨Ev hfx,?_⟩⟩
        rcases l with⟨kk,_⟩|⟨kk,c,ec,z⟩
        . rcases hout with w|w
          . rw[kk]at w;cases w
          . rw[kk]at w;cases w
        . have own0:(C0 (s.heap.objs.size + 1) scope.names).lookup x=none:=by
            cases w:(C0 (s.heap.objs.size + 1) scope.names).lookup x with
            | none=>rfl
            | some d=>exact absurd (Hk S.nd (GD _ _ _ _ w) hmem) (by decide)
          have hc:(B7 X.env.cells scope.names []).lookup x=some c:=by
            obtain⟨d,hd⟩:=Option.isSome_iff_exists.mp (DV (cells:=X.env.cells) (acc:=[]) (.inr hmem))
            have:=DU (S.clos I.ok) (λ _ _ z=>by simp at z) x d hd
            rw[ec]at this;cases this
            exact hd
          refine⟨c,?_,z.keeps hk⟩
          show(cellsFrom (s.heap.objs.size + 1) scope.names (B7 X.env.cells scope.names [])).lookup x=some c
          rw[Bb,List.lookup_append,own0,hc]
          rfl
  . intro x c e
    rcases CM S I.ok e with a|a
    . exact⟨_,(ho x c a).1⟩
    . obtain⟨v,z⟩:=I.cell x c a
      exact⟨v,z.keeps hk⟩
  . intro x c e
    rcases CM S I.ok e with a|a
    . exact I.hok.fresh (Nat.le_of_lt (ho x c a).2)
    . exact I.freeC x c a
  . intro p hp
    cases hp
  . unfold Es
    show _=(loc ++ fr).length
    simp[lenix]
end
end L2
namespace L2
open PySem PySem.Spec PyProof.Rows
section
variable{prog:Program}{w:World}{A:Around}{R:Result->Shared->Prop}{s:Shared}
theorem JT{elt target iter:Expr}{ifs:List Expr}{scope:Scope}{pos:Pos}{it acc:Value}{env:Env}(I:Nat->Shared->Prop)
    (turn:∀ n s,I n s->wpAny (model prog w) A (pyNext it) (λ r s₁=>match r with
      | none=>R (.ok .next) s₁
      | some v=>wpAny (model prog w) A (letOwnedTupleGo target it v) (λ _ s₁=>wpAny (model prog w) A (assign target env v) (λ _ s₂=>
          wpAny (model prog w) A (forIn ifs true λ c r=>if r=true then do let ok <- isTrue c env (eval c env);pure (ForInStep.yield ok)else pure (ForInStep.yield r)) (λ ok s₃=>
            if ok=true then wpAny (model prog w) A (eval elt env) (λ x s₄=>
              wpAny (model prog w) A (call (.builtin "list.append") [acc,x]) (λ _ s₅=>∃ m,m < n/\I m s₅) (λ _ _=>False) s₄) (λ _ _=>False) s₃
            else ∃ m,m < n/\I m s₃) (λ _ _=>False) s₂) (λ _ _=>False) s₁) (λ _ _=>False) s₁) (λ _ _=>False) s)
    (n:Nat) (h:I n s) :
    codeAny (model prog w) A (.compLoop (.ListComp elt [⟨target,iter,ifs,0⟩] scope pos) 0 it acc env) R s:=by
  refine codeAny_loop rfl I (λ n s hI=>?_) n h
  show wpAny _ A ((compTurn (.ListComp elt [⟨target,iter,ifs,0⟩] scope pos) 0 it acc env).onRaise (λ x=>do noteFrame x env;theTreesLotGoes x)) _ _ s
  refine wpAny_noted ?_
  rw[compTurn_list]
  refine wpAny_bind (wpAny_standAt (wpAny_bind (wpAny_mono (turn n s hI) (λ r s₁ h₁=>?_) λ _ _ h'=>h'.elim)))
  cases r with
  | none=>exact wpAny_pure h₁
  | some v=>
    refine wpAny_bind (wpAny_mono h₁ (λ _ s₁ h₁=>?_) λ _ _ h'=>h'.elim)
    refine wpAny_bind (wpAny_mono h₁ (λ _ s₂ h₂=>wpAny_bind (wpAny_mono h₂ (λ ok s₃ h₃=>?_) λ _ _ h'=>h'.elim)) λ _ _ h'=>h'.elim)
    cases ok with
    | false=>exact wpAny_pure ⟨rfl,h₃⟩
    | true=>
      exact wpAny_bind (wpAny_bind (wpAny_mono h₃ (λ x s₄ h₄=>wpAny_bind (wpAny_mono h₄ (λ _ s₅ h₅=>wpAny_pure (wpAny_pure ⟨rfl,h₅⟩)) λ _ _ h'=>h'.elim)) λ _ _ h'=>h'.elim))
end
noncomputable def PF(X:Cx)(ifs:List Expr)(t:TT):Prop:=
  ∀ (pins:List (Addr × Obj)) (s:Shared) (σ:St) (H:Hp) (Q:Bool->Hp->Prop),Inv X pins σ H s->t σ H Q ->
    wpAny (model X.prog X.w) X.A (forIn ifs true λ c r=>if r=true then do let ok <- isTrue c X.env (eval c X.env);pure (ForInStep.yield ok)else pure (ForInStep.yield r)) (TP X pins σ Q) X.xe s
noncomputable def My:TT:=λ _ H Q=>Q true H
theorem SW{X:Cx}:PF X [] My:=λ pins s σ H Q I h=>wpAny_tests_nil ⟨H,I,h⟩
noncomputable def UL(J:It)(D:Addr)(σ0:St)(H0:Hp)(g:TG)(tf:TT)(te:TE)(Q:VK):Prop:=∃ W:Nat->Nat->St->List V->Hp->Prop,
  (∃ m,W 0 m σ0 [] (upd H0 D (.lst [])))/\∀ i m σ ys H,W i m σ ys H->H D=some (.lst ys) /\
    ((J.stop i H/\Q (.ref D) H) ∨ (J.go i H/\ys.length < sizeLine/\∃ N:St->List V->Hp->Prop,(∀ σ' ys' H',N σ' ys' H'->∃ m',m' < m/\W (i + 1) m' σ' ys' H') /\
      ∀ x H',J.yld i H x H'->g x σ H' λ σ2 H2=>tf σ2 H2 λ b H3=>
        if b=true then te σ2 H3 λ v H4=>H4 D=some (.lst ys)/\N σ2 (ys ++ [v]) (upd H4 D (.lst (ys ++ [v])))
        else N σ2 ys H3))
noncomputable def Kd(n:Nat)(ix:List Nat)(wi:TI)(g:TG)(tf:TT)(te:TE):TE:=λ σ H Q=>wi σ H λ J H1=>∀ D,H1 D=none->UL J D (Es n ix σ) H1 g tf te Q
section
variable{X:Cx}
theorem Mj{pins:List (Addr × Obj)}{σ:St}{H:Hp}{s:Shared}{D:Addr}{ys:List V}{x:V}{u:Value}{Q:Value->Shared->Prop}{E:Value->Shared->Prop}(I:Inv X pins σ H s)(hD:H D=some (.lst ys))(r:RelV x u)(hz:ys.length < sizeLine)
    (h:∀ v s',Inv X pins σ (upd H D (.lst (ys ++ [x]))) s'->Q v s'):wpAny (model X.prog X.w) X.A (call (.builtin "list.append") [.ref D,u]) Q E s:=by
  have I':=I.wish λ _ _=>False
  have q:=E5 (X:=X.wish λ _ _=>False) pins s σ H (.ref D) [x] (.ref D) [u] (λ v H'=>H'=upd H D (.lst (ys ++ [x]))) I' rfl (.cons r .nil) ⟨D,ys,x,rfl,rfl,hD,hz,rfl⟩
  refine wpAny_mono q (λ v s' ⟨v',H',I2,_,e⟩=>?_) λ _ _ z=>False.elim z
  subst e
  exact h v s' I2.unwish
theorem Q8{elt tg iter:Expr}{ifs:List Expr}{scope:Scope}{pos:Pos}{loc fr:List Str}{ix:List Nat}{wi:TI}{g:TG}{tf:TT}{te:TE}(hc:X.calm=true)(S:CSc X scope fr ix)(hi:PI X tg iter wi)
    (hg:∀ s H ex,PG (cCx X (loc ++ fr) scope s H ex) tg g) (hf:∀ s H ex,PF (cCx X (loc ++ fr) scope s H ex) ifs tf) (he:∀ s H ex,PE (cCx X (loc ++ fr) scope s H ex) elt te)
    (hs:∀ x,foldedSetIterable iter X.env x=pure x:=by intro _;rfl):PE X (.ListComp elt [⟨tg,iter,ifs,0⟩] scope pos) (Kd loc.length ix wi g tf te):=by
  intro pins s σ H Q I h
  rw[eval_ListComp]
  have hnames:∀ y ∈ scope.names,y.2=.local->scope.names.lookup y.1=some .local:=λ y hy e=>by
    have:=List.all_eq_true.mp S.loc y hy
    rw[e]at this
    simpa using this
  refine wpAny_comprehension_free (use:=none) rfl hs (DQ (S.clos I.ok)) S.kind hnames (thn (hi pins s σ H _ I h) λ v s1 h1=>thn h1 λ itv s2 h2=>?_)
  obtain⟨it,fp,tn,J,H2,rfl,I2,T,st2,f2,hW⟩:=h2
  refine wpAny_newObj_type ?_
  have fresh2:H2 s2.heap.objs.size=none:=I2.hok.fresh (Nat.le_refl _)
  have I3:=I2.lnew (its:=[]) (ys:=[]) (t':=s2.toks) .nil (Nat.zero_le _)
  obtain⟨W,⟨m0,w0⟩,turn⟩:=hW s2.heap.objs.size fresh2
  have lt2:∀ b ∈ fp,b < s2.heap.objs.size:=λ b hb=>let ⟨o,e,_⟩:=T.obj 0 _ st2 b hb;Heap.lt_size e
  have f3:∀ b ∈ fp,C5 X pins (upd H2 s2.heap.objs.size (.lst [])) b:=λ b hb=>⟨by rw[AE (Nat.ne_of_lt (lt2 b hb))];exact(f2 b hb).1,(f2 b hb).2⟩
  have lt3:∀ b ∈ fp,b < (s2.heap.push { cls:=.type "list",data:=.seq ([]:List Value).toArray }).objs.size:=λ b hb=>by rw[Heap.size_push];exact Nat.lt_succ_of_lt (lt2 b hb)
  generalize hs3:({ s2 with heap:=s2.heap.push { cls:=.type "list",data:=.seq ([]:List Value).toArray } }:Shared)=s3 at *
  have lt3:∀ b ∈ fp,b < s3.heap.objs.size:=by rw[<- hs3];exact lt3
  have st3:tn 0 s3.heap:=T.keep _ _ _ st2 λ b hb o e=>by rw[<- hs3];exact Heap.get?_push_of_some _ e
  refine K2 λ h' hk hn ho ha=>?_
  have I4:=JM (loc:=loc) S I3 f3 hk hn ho ha lt3
  have fpX:∀ {H':Hp},(∀ b ∈ fp,H' b=none)->∀ b ∈ fp,C5 (cCx X (loc ++ fr) scope s3 (upd H2 s2.heap.objs.size (.lst [])) fp) [] H' b:=λ hn b hb=>
    ⟨hn b hb,(I4.ok.exf b hb).1,I4.ok.exfs b hb,.inl hb,(I4.ok.exf b hb).2,λ p hp=>by cases hp⟩
  have loop:codeAny (model X.prog X.w) X.A (.compLoop (.ListComp elt [⟨tg,iter,ifs,0⟩] scope pos) 0 (.ref it) (.ref s2.heap.objs.size) (O7 scope s3.heap.objs.size X.env))
      (compPost (model X.prog X.w) X.A X.xe none (EP X pins σ Q) (.ref s2.heap.objs.size) s3.heap.objs.size) { s3 with heap:=h' }:=by
    refine JT (λ n s'=>∃ i σ' ys H',Inv (cCx X (loc ++ fr) scope s3 (upd H2 s2.heap.objs.size (.lst [])) fp) [] σ' H' s'/\tn i s'.heap/\(∀ b ∈ fp,H' b=none)/\W i n σ' ys H') ?_ m0
      ⟨0,_,[],_,I4,T.keep _ _ _ st3 λ b hb o e=>hk b o e,λ b hb=>(f3 b hb).1,w0⟩
    rintro n s5 ⟨i,σ5,ys,H5,I5,st5,fr5,w5⟩
    obtain⟨hD,w5⟩:=turn i n σ5 ys H5 w5
    rcases w5 with⟨stop,qn⟩|⟨go,hz,N,hN,step⟩
    . refine thn (T.done (cCx X (loc ++ fr) scope s3 (upd H2 s2.heap.objs.size (.lst [])) fp) rfl rfl rfl hc i [] s5 σ5 H5 _ I5 (fpX fr5) st5 stop) λ r s6 ⟨hr,I6⟩=>?_
      subst hr
      obtain⟨m,hm,_⟩:=I6.loc
      refine⟨m,hm,λ h'' hs=>?_⟩
      have neC:∀ b o,s3.heap.get? b=some o->b ≠ s3.heap.objs.size:=λ b o e=>Nat.ne_of_lt (Heap.lt_size e)
      have un:=I6.base
      refine⟨.ref s2.heap.objs.size,H5,I3.call' (s':={ s6 with heap:=h'' }) (ch:=fp) I6.os ⟨λ b o e n hb hx=>?_,λ b o e n hb hx=>?_,un.free,λ b o e hx=>?_,un.tups,un.frzs,un.tbls⟩ ?_ I6.bare ?_,rfl,qn⟩
      . exact(hs.2 b (neC b o e)).trans (un.keep b o e n hb hx)
      . obtain⟨sl,q⟩:=un.slot b o e n hb hx
        exact⟨sl,(hs.2 b (neC b o e)).trans q⟩
      . obtain⟨o',q⟩:=un.there b o e hx
        exact⟨o',(hs.2 b (neC b o e)).trans q⟩
      . intro b ob e
        have hfree:H5 s3.heap.objs.size=none:=I6.free
        refine(I6.hok b ob e).stay (λ c w' hc q=>(hs.2 c ?_).trans q) (λ _ q=>q) λ _ _ q=>q
        intro z
        rcases hc with hc|hc
        . rw[<- hc,z,hfree]at e;cases e
        . rw[z,hfree]at hc;cases hc
      . intro b hb
        obtain⟨_,a2,_,a4,a5,a6⟩:=f3 b hb
        exact⟨a4,a2,a5,a6⟩
    . refine thn (T.item (cCx X (loc ++ fr) scope s3 (upd H2 s2.heap.objs.size (.lst [])) fp) rfl rfl rfl hc i [] s5 σ5 H5 _ I5 (fpX fr5) st5 go) λ r s6 ⟨u,hr,h6⟩=>?_
      subst hr
      refine thn h6 λ _ s7 ⟨x,H7,I7,r7,y7,st7,fr7⟩=>?_
      have I7':=I7.pinned (fpX fr7) (T.obj _ _ st7)
      have keepI:∀ {σ8:St} {H8:Hp} {s8:Shared},Inv (cCx X (loc ++ fr) scope s3 (upd H2 s2.heap.objs.size (.lst [])) fp) ([] ++ Dn fp s7.heap) σ8 H8 s8->tn (i + 1) s8.heap/\∀ b ∈ fp,H8 b=none:=λ {σ8 H8 s8} I8=>by
        refine⟨T.keep _ _ _ st7 λ b hb o e=>(I8.pin (b,o) (List.mem_append_right _ (List.mem_append_right _ (Bi hb e)))).1,λ b hb=>?_⟩
        obtain⟨o,e,d⟩:=T.obj _ _ st7 b hb
        exact(I8.pin (b,o) (List.mem_append_right _ (List.mem_append_right _ (Bi hb e)))).2.1
      refine thn (hg s3 (upd H2 s2.heap.objs.size (.lst [])) fp _ s7 σ5 H7 x u _ I7' r7 (step x H7 y7)) λ _ s8 ⟨σ8,H8,I8,q8⟩=>?_
      refine thn (hf s3 (upd H2 s2.heap.objs.size (.lst [])) fp _ s8 σ8 H8 _ I8 q8) λ b s9 ⟨H9,I9,q9⟩=>?_
      cases b with
      | false=>
        rw[if_neg Bool.false_ne_true]at q9 ⊢
        obtain⟨m',hm,w9⟩:=hN _ _ _ q9
        exact⟨m',hm,i + 1,σ8,ys,H9,I9.unpinned,(keepI I9).1,(keepI I9).2,w9⟩
      | true=>
        rw[if_pos rfl]at q9 ⊢
        refine thn (he s3 (upd H2 s2.heap.objs.size (.lst [])) fp _ s9 σ8 H9 _ I9 q9) λ e10 s10 ⟨v10,H10,I10,r10,hD10,n10⟩=>?_
        obtain⟨m',hm,w10⟩:=hN _ _ _ n10
        refine Mj (X:=cCx X (loc ++ fr) scope s3 (upd H2 s2.heap.objs.size (.lst [])) fp) I10 hD10 r10 hz λ _ s11 I11=>?_
        exact⟨m',hm,i + 1,σ8,_,_,I11.unpinned,(keepI I11).1,(keepI I11).2,w10⟩
  exact codeAny_compStart_list loop (T.self X.A 0 _ _ _ (T.keep _ _ _ st3 λ b hb o e=>hk b o e) loop)
end
end L2
namespace L2
open PySem PySem.Spec PyProof.Rows
section
variable{X:Cx}
theorem G5{scope:Scope}{N':List Str}{fp:List Addr}{pins:List (Addr × Obj)}{σ σ5:St}{H3 H5:Hp}{s3 s6:Shared}{h'':Heap}(I3:Inv X pins σ H3 s3)(I6:Inv (cCx X N' scope s3 H3 fp) [] σ5 H5 s6)(f3:∀ b ∈ fp,C5 X pins H3 b)
    (hs:Heap.SameBut s3.heap.objs.size s6.heap h''):Inv X pins σ H5 { s6 with heap:=h'' }:=by
  have neC:∀ b o,s3.heap.get? b=some o->b ≠ s3.heap.objs.size:=λ b o e=>Nat.ne_of_lt (Heap.lt_size e)
  have un:=I6.base
  refine I3.call' (s':={ s6 with heap:=h'' }) (ch:=fp) I6.os ⟨λ b o e n hb hx=>?_,λ b o e n hb hx=>?_,un.free,λ b o e hx=>?_,un.tups,un.frzs,un.tbls⟩ ?_ I6.bare ?_
  . exact(hs.2 b (neC b o e)).trans (un.keep b o e n hb hx)
  . obtain⟨sl,q⟩:=un.slot b o e n hb hx
    exact⟨sl,(hs.2 b (neC b o e)).trans q⟩
  . obtain⟨o',q⟩:=un.there b o e hx
    exact⟨o',(hs.2 b (neC b o e)).trans q⟩
  . intro b ob e
    have hfree:H5 s3.heap.objs.size=none:=I6.free
    refine(I6.hok b ob e).stay (λ c w' hc q=>(hs.2 c ?_).trans q) (λ _ q=>q) λ _ _ q=>q
    intro z
    rcases hc with hc|hc
    . rw[<- hc,z,hfree]at e;cases e
    . rw[z,hfree]at hc;cases hc
  . intro b hb
    obtain⟨_,a2,_,a4,a5,a6⟩:=f3 b hb
    exact⟨a4,a2,a5,a6⟩
end
end L2
namespace L2
open PySem PySem.Spec PyProof.Rows
mutual
noncomputable def Rep(K:PySem.W.Frag)(H:Hp):PyData->V->Prop
  | .none,v=>v=.non
  | .bool b,v=>v=.bl b
  | .int i,v=>v=.int i
  | .str x,v=>v=.str x
  | .list ds,v=>∃ a xs,v=.ref a/\SqL K H a xs/\B8 K H ds xs
  | .tuple ds,v=>∃ a xs,v=.ref a/\SqT K H a xs/\B8 K H ds xs
  | .dict _,_=>False
noncomputable def B8(K:PySem.W.Frag)(H:Hp):List PyData->List V->Prop
  | [],xs=>xs=[]
  | d :: ds,xs=>∃ x r,xs=x :: r/\Rep K H d x/\B8 K H ds r
end
section
variable{X:Cx}{pins:List (Addr × Obj)}{σ:St}{H:Hp}{s:Shared}
mutual
theorem Bv(I:Inv X pins σ H s):∀ (d:PyData) (v:V) (u:Value),Rep X.K H d v->RelV v u->∃ as,Reads s.heap u d as
  | .none,v,u,h,r=>by
    have h:v=.non:=by simpa only[Rep]using h
    subst h;cases r;exact⟨_,.none⟩
  | .bool b,v,u,h,r=>by
    have h:v=.bl b:=by simpa only[Rep]using h
    subst h;cases r;exact⟨_,.bool b⟩
  | .int i,v,u,h,r=>by
    have h:v=.int i:=by simpa only[Rep]using h
    subst h;obtain⟨t,rfl⟩:=r;exact⟨_,.int i t⟩
  | .str x,v,u,h,r=>by
    have h:v=.str x:=by simpa only[Rep]using h
    subst h;obtain⟨t,rfl⟩:=r;exact⟨_,.str x t⟩
  | .list ds,v,u,h,r=>by
    have h:∃ a xs,v=.ref a/\SqL X.K H a xs/\B8 X.K H ds xs:=by simpa only[Rep]using h
    obtain⟨a,xs,rfl,hq,ha⟩:=h
    cases r
    obtain⟨its,rv,⟨o,n,e,c,_,dd⟩,hz⟩:=I.list hq
    obtain⟨as,q⟩:=Dg I ds xs its ha rv
    exact⟨_,.list e c dd (by simpa using q)⟩
  | .tuple ds,v,u,h,r=>by
    have h:∃ a xs,v=.ref a/\SqT X.K H a xs/\B8 X.K H ds xs:=by simpa only[Rep]using h
    obtain⟨a,xs,rfl,hq,ha⟩:=h
    cases r
    obtain⟨its,rv,⟨o,e,c,n,dd⟩,hz⟩:=I.tuple hq
    obtain⟨as,q⟩:=Dg I ds xs its ha rv
    exact⟨_,.tuple e c dd (by simpa using q)⟩
  | .dict _,v,u,h,r=>by
    have h:False:=by simpa only[Rep]using h
    exact h.elim
theorem Dg(I:Inv X pins σ H s):∀ (ds:List PyData) (xs:List V) (us:List Value),B8 X.K H ds xs->Vals xs us->∃ as,ReadsAll s.heap us ds as
  | [],xs,us,h,r=>by
    have h:xs=[]:=by simpa only[B8]using h
    subst h;cases r;exact⟨_,.nil⟩
  | d :: ds,xs,us,h,r=>by
    have h:∃ x r,xs=x :: r/\Rep X.K H d x/\B8 X.K H ds r:=by simpa only[B8]using h
    obtain⟨x,rr,rfl,h1,h2⟩:=h
    cases r with
    | cons r1 r2=>
      obtain⟨as,q1⟩:=Bv I d _ _ h1 r1
      obtain⟨bs,q2⟩:=Dg I ds _ _ h2 r2
      exact⟨_,.cons q1 q2⟩
end
end
structure Grow(H H':Hp):Prop where
  tup:∀ b xs,H b=some (.tup xs)->H' b=some (.tup xs)
  frz:∀ b o u,H b=some (.frz o u)->H' b=some (.frz o u)
theorem Grow.refl{H:Hp}:Grow H H:=⟨λ _ _ h=>h,λ _ _ _ h=>h⟩
noncomputable def Chg(H:Hp)(p:Addr):Prop:=(∀ xs,H p ≠ some (.tup xs))/\∀ o u,H p ≠ some (.frz o u)
theorem Grow.put{H H':Hp}{p:Addr}{o:HO}(a:Grow H H')(h:Chg H' p):Grow H (upd H' p o):=⟨λ c xs e=>by
  have q:=a.tup c xs e
  have n:c ≠ p:=λ z=>h.1 xs (by rw[<- z];exact q)
  rw[AE n];exact q,λ c z u e=>by
  have q:=a.frz c z u e
  have n:c ≠ p:=λ w=>h.2 z u (by rw[<- w];exact q)
  rw[AE n];exact q⟩
theorem Chg.lst{H:Hp}{p:Addr}{xs:List V}(h:H p=some (.lst xs)):Chg H p:=⟨(λ _ e=>by rw[h]at e;cases e),(λ _ _ e=>by rw[h]at e;cases e)⟩
theorem Grow.sq{K:PySem.W.Frag}{H H':Hp}{a:Addr}{xs:List V}(g:Grow H H')(h:SqT K H a xs):SqT K H' a xs:=by
  rcases h with(h|⟨o,h⟩)|h
  . exact .inl (.inl (g.tup _ _ h))
  . exact .inl (.inr ⟨o,g.frz _ _ _ h⟩)
  . exact .inr h
section
variable{X:Cx}
noncomputable def Kr(K:PySem.W.Frag):List V->Hp->VK->Prop:=λ xs H Q=>∃ x d,xs=[x]/\Rep K H d x/\d.showable=true/\d.hasDict=false/\isDisplay d=true/\d.depth <= 30/\d.shown.length <= sizeLine/\Q (.str d.shown) H
theorem LP(hg:X.A.guards=some [])(hu:X.A.units + 64 < cLine):CallR X (.builtin "repr") (Kr X.K):=by
  intro pins s σ H xs us Q I r h
  obtain⟨x,d,rfl,hr,hs,hd,hi,hdep,hsz,q⟩:=h
  obtain⟨u,rfl,ru⟩:=Ct r
  obtain⟨as,hR⟩:=Bv I d x u hr ru
  obtain⟨a,rfl⟩:=isRef_of_reads hR hi
  exact repr_of_reads' hR hs (PyData.noDict_hsm hd) hg (by omega) (λ _ _ e=>e) (λ h' u tk hk=>⟨.str d.shown,H,I.kept hk,⟨_,rfl⟩,q⟩) hsz
noncomputable def NM(K:PySem.W.Frag):R2:=λ x y H Q=>∃ d e,Rep K H d x/\Rep K H e y/\d.canLay0=true/\e.canLay0=true/\min d.depth e.depth <= 60/\Q (.bl (!PyData.eqv d e)) H
noncomputable def NQ(K:PySem.W.Frag):R2:=λ x y H Q=>∃ d e,Rep K H d x/\Rep K H e y/\d.canLay0=true/\e.canLay0=true/\min d.depth e.depth <= 60/\Q (.bl (PyData.eqv d e)) H
theorem Sg(hu:X.A.units + 64 < cLine):OpR X (compareOp .NotEq) (NM X.K):=by
  intro pins s σ H x y v u Q I rx ry h
  obtain⟨d,e,h1,h2,c1,c2,hm,q⟩:=h
  obtain⟨as,q1⟩:=Bv I d x v h1 rx
  obtain⟨bs,q2⟩:=Bv I e y u h2 ry
  exact PySem.SeqAt.compareNe_reads q1 q2 c1 c2 (by omega) ⟨.bl _,H,I,rfl,q⟩
theorem Si(hu:X.A.units + 64 < cLine):OpR X (compareOp .Eq) (NQ X.K):=by
  intro pins s σ H x y v u Q I rx ry h
  obtain⟨d,e,h1,h2,c1,c2,hm,q⟩:=h
  obtain⟨as,q1⟩:=Bv I d x v h1 rx
  obtain⟨bs,q2⟩:=Bv I e y u h2 ry
  exact PySem.SeqAt.compareEq_reads q1 q2 c1 c2 (by omega) ⟨.bl _,H,I,rfl,q⟩
theorem HW:∀ {ns:List Int} {us:List Value},Vals (ns.map V.int) us->IntsAre us ns
  | [],_,.nil=>.nil
  | n :: ns,_,.cons r t=>by obtain⟨k,rfl⟩:=r;exact .cons _ _ (HW t)
theorem Me(hc:X.calm=true):CallR X (.builtin "sum") (λ xs H Q=>∃ (a:Addr) (ns:List Int),xs=[.ref a]/\SqL X.K H a (ns.map V.int)/\Q (.int ns.sum) H):=by
  intro pins s σ H xs us Q I r h
  obtain⟨a,ns,rfl,hq,q⟩:=h
  obtain⟨u,rfl,ru⟩:=Ct r
  cases ru
  obtain⟨its,rv,p,hz⟩:=I.list hq
  have hi:=HW rv
  obtain⟨xs,hx⟩:=hi.allInts.items
  have hl':s.heap.IsList a (intItems xs):=hx ▸ p.isList
  refine sum_intListG (I.ok.hd hc) hl' λ h' tk t' hk=>?_
  have e1:ns=xs.toList.map (·.1):=by
    rw[<- nums_intItems,<- hx]
    exact(show numsOf its.toArray.toList=ns from hi.numsOf).symm
  have e2:preSum (numAt xs) xs.size=ns.sum:=by
    rw[preSum_eq,List.take_of_length_le (by simp),e1]
  rw[e2]
  exact⟨.int ns.sum,H,I.kept hk,⟨_,rfl⟩,q⟩
end
end L2
namespace L2
open PySem PySem.Spec PyProof.Rows
section
variable(K:PySem.W.Frag){X:Cx}
theorem JL(hK:X.K=K:=by rfl):IxR X (NO K):=by subst hK;exact Qa
theorem K6(hK:X.K=K:=by rfl):IxR X (NN K):=by subst hK;exact Sv
theorem N7(hK:X.K=K:=by rfl):SlR X (Kp K):=by subst hK;exact P9
theorem P8(hK:X.K=K:=by rfl):SlR X (Ko K):=by subst hK;exact RZ
theorem Sh(hK:X.K=K:=by rfl):OpR X (compareOp .In) (rIn K false):=by subst hK;exact M5
theorem EQ(hu:X.A.units + 64 < cLine)(hK:X.K=K:=by rfl):OpR X (compareOp .Eq) (NQ K):=by subst hK;exact Si hu
theorem Fi(hu:X.A.units + 64 < cLine)(hK:X.K=K:=by rfl):OpR X (compareOp .NotEq) (NM K):=by subst hK;exact Sg hu
theorem AR(hK:X.K=K:=by rfl):OpR X (binaryOp .Add) (Ks K):=by subst hK;exact QD
noncomputable def S4:List V->Hp->VK->Prop:=λ xs H Q=>∃ p ys,xs=[.ref p]/\(SqL K H p ys ∨ SqT K H p ys)/\Q (.int ys.length) H
theorem CA(hK:X.K=K:=by rfl):CallR X (.builtin "len") (S4 K):=by subst hK;exact JX
noncomputable def EJ:List V->Hp->VK->Prop:=λ xs H Q=>∃ p ys,xs=[.ref p]/\(SqL K H p ys ∨ SqT K H p ys)/\∀ l,H l=none->Q (.ref l) (upd H l (.lst ys))
theorem Gv(hK:X.K=K:=by rfl):CallR X (.type "list") (EJ K):=by subst hK;exact JW
noncomputable def Ir:List V->Hp->VK->Prop:=λ xs H Q=>∃ p ys,xs=[.ref p]/\((SqL K H p ys/\∀ l,H l=none->Q (.ref l) (upd H l (.tup ys))) ∨ (SqT K H p ys/\Q (.ref p) H))
theorem G0(hK:X.K=K:=by rfl):CallR X (.type "tuple") (Ir K):=by subst hK;exact Hz
theorem G4(hg:X.A.guards=some [])(hu:X.A.units + 64 < cLine)(hK:X.K=K:=by rfl):CallR X (.builtin "repr") (Kr K):=by subst hK;exact LP hg hu
noncomputable def OQ:List V->Hp->VK->Prop:=λ xs H Q=>∃ (a:Addr) (ns:List Int),xs=[.ref a]/\SqL K H a (ns.map V.int)/\Q (.int ns.sum) H
theorem Hq(hc:X.calm=true)(hK:X.K=K:=by rfl):CallR X (.builtin "sum") (OQ K):=by subst hK;exact Me hc
theorem J8{tg l:Expr}{tl:TE}(hl:PE X l tl)(hK:X.K=K:=by rfl):PI X tg l (Fp K tl):=by subst hK;exact Q1 hl
theorem Q0{tg l:Expr}{tl:TE}(hl:PE X l tl)(hK:X.K=K:=by rfl):PI X tg l (LH K tl):=by subst hK;exact SS hl
theorem Q3{pos:Pos}{es:List Expr}{k:Nat}{t:TGs}{n:Nat}(hc:X.calm=true)(h:PGs X es t)(hK:X.K=K:=by rfl)
    (hn:(assignEach es X.env).length=n:=by rfl) (hst:(assignEach es X.env).findIdx? (·.1)=none:=by rfl):PG X (.Tuple es k pos) (LK K n t):=by
  subst hK
  exact SU hc h hn hst
end
section
variable(K:PySem.W.Frag){X:Cx}
end
end L2
namespace L2
open PySem PySem.Spec PyProof.Rows
section
variable(K:PySem.W.Frag){X:Cx}
theorem FY:∀ {bs:List Bool} {us:List Value} {i:Nat} {v:Value},Vals (bs.map V.bl) us->us[i]? = some v->∃ b,bs[i]? = some b/\v=.bool b
  | [],_,_,_,.nil,e=>by simp at e
  | b :: bs,_,0,_,.cons r _,e=>by simp at e;subst e;exact⟨b,rfl,r⟩
  | b :: bs,_,i + 1,_,.cons _ t,e=>by
    obtain⟨c,h1,h2⟩:=FY (i:=i) t (by simpa using e)
    exact⟨c,by simpa using h1,h2⟩
noncomputable def S6:List V->Hp->VK->Prop:=λ xs H Q=>∃ (a:Addr) (bs:List Bool),xs=[.ref a]/\SqL K H a (bs.map V.bl)/\Q (.bl (bs.all id)) H
noncomputable def S5:List V->Hp->VK->Prop:=λ xs H Q=>∃ (a:Addr) (bs:List Bool),xs=[.ref a]/\SqL K H a (bs.map V.bl)/\Q (.bl (bs.any id)) H
theorem Mh(hc:X.calm=true)(hK:X.K=K:=by rfl):CallR X (.builtin "all") (S6 K):=by
  subst hK
  intro pins s σ H xs us Q I r h
  obtain⟨a,bs,rfl,hq,q⟩:=h
  obtain⟨u,rfl,ru⟩:=Ct r
  cases ru
  obtain⟨its,rv,p,hz⟩:=I.list hq
  have hl:=p.isList
  have hlen:=rv.length
  have hlt:a < s.heap.objs.size:=by obtain⟨_,e,_⟩:=hl;exact Heap.lt_size e
  refine call_all_walk (wpAny_pyIter_list hl ?_)
  refine⟨s.heap.objs.size,[s.heap.objs.size,a],[s.heap.objs.size],its.toArray.size,_,_,λ i=>(bs[i]?).getD true,rfl,Walks.list (A:=X.A.in1) (I.ok.hd hc) _ a (Nat.ne_of_lt hlt) its.toArray,
    ⟨⟨_,Heap.get?_push_size _ rfl,rfl,rfl⟩,hl.push _⟩,λ i v s' Q' E' hP hQ=>?_,λ h' tk hk=>?_⟩
  . obtain⟨b,e,rfl⟩:=FY rv (by simpa using hP)
    simp only[e,Option.getD_some]at hQ
    exact wpAny_truthy_bool hQ
  . have e:((List.range its.toArray.size).all λ i=>(bs[i]?).getD true)=bs.all id:=by
      rw[List.size_toArray,<- hlen,List.length_map];exact LSm.range_all bs
    rw[e]
    exact⟨.bl _,H,I.kept (LSm.kept_iter hk),rfl,q⟩
theorem Hs(hc:X.calm=true)(hK:X.K=K:=by rfl):CallR X (.builtin "any") (S5 K):=by
  subst hK
  intro pins s σ H xs us Q I r h
  obtain⟨a,bs,rfl,hq,q⟩:=h
  obtain⟨u,rfl,ru⟩:=Ct r
  cases ru
  obtain⟨its,rv,p,hz⟩:=I.list hq
  have hl:=p.isList
  have hlen:=rv.length
  have hlt:a < s.heap.objs.size:=by obtain⟨_,e,_⟩:=hl;exact Heap.lt_size e
  refine call_any_walk (wpAny_pyIter_list hl ?_)
  refine⟨s.heap.objs.size,[s.heap.objs.size,a],[s.heap.objs.size],its.toArray.size,_,_,λ i=>(bs[i]?).getD false,rfl,Walks.list (A:=X.A.in1) (I.ok.hd hc) _ a (Nat.ne_of_lt hlt) its.toArray,
    ⟨⟨_,Heap.get?_push_size _ rfl,rfl,rfl⟩,hl.push _⟩,λ i v s' Q' E' hP hQ=>?_,λ h' tk hk=>?_⟩
  . obtain⟨b,e,rfl⟩:=FY rv (by simpa using hP)
    simp only[e,Option.getD_some]at hQ
    exact wpAny_truthy_bool hQ
  . have e:((List.range its.toArray.size).any λ i=>(bs[i]?).getD false)=bs.any id:=by
      rw[List.size_toArray,<- hlen,List.length_map];exact LSm.range_any bs
    rw[e]
    exact⟨.bl _,H,I.kept (LSm.kept_iter hk),rfl,q⟩
end
end L2
namespace L2
open PySem PySem.Spec PyProof.Rows
section
variable{prog:Program}{w:World}{A:Around}{E:Value->Shared->Prop}{s:Shared}{l:Addr}{xs:Array (Int × Tok)}
theorem Hy{Q:Value->Shared->Prop}(hl:s.heap.IsTuple l (intItems xs))
    (h:∀ s₂:Shared,s₂={ s with heap:=s.heap.push { cls:=.type "tuple_iterator",data:=.fields #[.ref l,.int 0 0] } } ->
      (s₂.heap.IsTupleIter s.heap.objs.size l 0/\s₂.heap.IsTuple l (intItems xs))->(∀ b ∈ [s.heap.objs.size,l],b < s₂.heap.objs.size)->l ≠ s.heap.objs.size->Q (.ref s.heap.objs.size) s₂) :
    wpAny (model prog w) A (pyIter (.ref l)) Q E s:=by
  have hlt:l < s.heap.objs.size:=by obtain⟨_,e,_⟩:=hl;exact Heap.lt_size e
  refine wpAny_pyIter_tuple hl (h _ rfl ⟨⟨_,Heap.get?_push_size _ rfl,rfl,rfl⟩,hl.push _⟩ (λ b hb=>?_) (Nat.ne_of_lt hlt))
  show b < (s.heap.push _).objs.size
  rw[Heap.size_push]
  rcases List.mem_cons.mp hb with rfl|hb
  . exact Nat.lt_succ_self _
  . rcases List.mem_cons.mp hb with rfl|hb
    . exact Nat.lt_succ_of_lt hlt
    . cases hb
theorem M6{h':Heap}{o:Obj}(hk:∀ b x,b ∉ [s.heap.objs.size]->(s.heap.push o).get? b=some x->h'.get? b=some x):∀ b x,s.heap.get? b=some x->h'.get? b=some x:=
  λ b x e=>hk b x (λ hm=>by rw[List.mem_singleton.mp hm]at e;exact Nat.lt_irrefl _ (Heap.lt_size e)) (Heap.get?_push_of_some _ e)
theorem IX{Q:Value->Shared->Prop}(hh:A.handled=none)(hl:s.heap.IsTuple l (intItems xs))
    (h:∀ h' tk t',(∀ b o,s.heap.get? b=some o->h'.get? b=some o)->Q (.int (preSum (numAt xs) xs.size) t') { s with heap:=h',toks:=tk }) :
    wpAny (model prog w) A (call (.builtin "sum") [.ref l]) Q E s:=by
  refine call_sum_walkG (Hy hl λ s₂ e st hfp hlI=>?_)
  subst e
  refine⟨_,_,_,_,_,_,numAt xs,rfl,Walks.tuple (A:=A.in1) hh _ l hlI (intItems xs),st,hfp,(λ _ _=>intItems_at),λ h' tk t' hk=>?_⟩
  have:=h h' tk t' (M6 hk)
  simpa [intItems]using this
end
section
variable(K:PySem.W.Frag){X:Cx}
noncomputable def OP:List V->Hp->VK->Prop:=λ xs H Q=>∃ (a:Addr) (ns:List Int),xs=[.ref a]/\SqT K H a (ns.map V.int)/\Q (.int ns.sum) H
theorem Gu(hc:X.calm=true)(hK:X.K=K:=by rfl):CallR X (.builtin "sum") (OP K):=by
  subst hK
  intro pins s σ H xs us Q I r h
  obtain⟨a,ns,rfl,hq,q⟩:=h
  obtain⟨u,rfl,ru⟩:=Ct r
  cases ru
  obtain⟨its,rv,p,hz⟩:=I.tuple hq
  have hi:=HW rv
  obtain⟨xs,hx⟩:=hi.allInts.items
  have hl':s.heap.IsTuple a (intItems xs):=hx ▸ (show s.heap.IsTuple a its.toArray from p)
  refine IX (I.ok.hd hc) hl' λ h' tk t' hk=>?_
  have e1:ns=xs.toList.map (·.1):=by
    rw[<- nums_intItems,<- hx]
    exact(show numsOf its.toArray.toList=ns from hi.numsOf).symm
  have e2:preSum (numAt xs) xs.size=ns.sum:=by
    rw[preSum_eq,List.take_of_length_le (by simp),e1]
  rw[e2]
  exact⟨.int ns.sum,H,I.kept hk,⟨_,rfl⟩,q⟩
end
end L2
namespace L2
open PySem PySem.Spec PyProof.Rows
structure DefAt(K:PySem.W.Frag)(mg:Str->Option Value)(x:Str)(st:Stmt)(f:Addr)(fd:FuncData)(ps:List Str):Prop where
  fn:Fun K x x st f fd
  mg:mg x=some (.ref f)
  bd:Binds K fd ps []
theorem Oa{X:Cx}{j k:Nat}{f:Addr}{fd:FuncData}{ps:List Str}{sp:Sp}{x:Str}{st:Stmt}{e:Expr}{es:List Expr}{t:TA}{p pos:Pos}(F:FnOk X.prog X.w X.K X.mg X.base CX0 j f fd ps sp)(hr:Room k X.A)(D:DefAt X.K X.mg x st f fd ps)(ha:PA X (e :: es) t)
    (hjk:j <= k:=by decide) (hg:Gl X x:=by rfl) (hdb:(x == ("__debug__":Str))=false:=by decide) (he:starEach (e :: es) X.env=(false,eval e X.env) :: starEach es X.env:=by rfl) (hpl:(backTo pos (starEach es X.env)).any (·.1)=false:=by rfl) :
    PE X (.Call (.Name x p) (e :: es) [] pos) (E1 sp [] E0 t):=
  QB (F.mono hjk) hr hg D.mg D.fn.kp D.bd .nil Tv ha hdb he hpl
noncomputable def Kb(i j k:Nat)(ta:TA):TS:=λ D σ H=>ta σ H λ vs H1=>∃ v w z,vs=[v,w,z]/\D.nx (((σ.set k (some z)).set j (some w)).set i (some v)) H1
theorem Pt{X:Cx}{i j k:Nat}{x y z:Str}{a b c:Expr}{ta:TA}{px py pz pt pos:Pos}{kt k2 pt2}(hc:X.calm=true)(hN:X.N.Nodup)(hi:X.N[i]? = some x)(hj:X.N[j]? = some y)(hk:X.N[k]? = some z)
    (hx:X.env.scope.names.lookup x=some .local) (hy:X.env.scope.names.lookup y=some .local) (hz:X.env.scope.names.lookup z=some .local) (ha:PA X [a,b,c] ta)
    (hw:swappedStores [.Tuple [.Name x px,.Name y py,.Name z pz] kt pt] (.Tuple [a,b,c] k2 pt2) X.env=pure (some [x,y,z]))
    (hs:swapsWithSole [.Tuple [.Name x px,.Name y py,.Name z pz] kt pt] (.Tuple [a,b,c] k2 pt2) pos.line X.env=pure false:=by rfl) :
    PS X (.Assign [.Tuple [.Name x px,.Name y py,.Name z pz] kt pt] (.Tuple [a,b,c] k2 pt2) pos) (Kb i j k ta):=by
  intro pins s σ H D I h
  rw[exec_Assign_arm]
  refine wpAny_bind (wpAny_standAt ?_)
  rw[hs]
  refine wpAny_bind (wpAny_pure ?_)
  rw[if_neg (by decide)]
  refine wpAny_bind (Tuple_ (thn (ha _ pins s σ H _ I h) λ us s1 ⟨vs,H1,I1,r1,q1⟩=>?_))
  obtain⟨v,w,q,e1,q1⟩:=q1
  subst e1
  obtain⟨u1,u2,u3,rfl,rv,rw',rq⟩:∃ u1 u2 u3,us=[u1,u2,u3]/\RelV v u1/\RelV w u2/\RelV q u3:=by
    cases r1 with
    | cons p1 q1=>
      cases q1 with
      | cons p2 q2=>
        cases q2 with
        | cons p3 q3=>
          cases q3
          exact⟨_,_,_,rfl,p1,p2,p3⟩
  refine wpAny_newObj_type ?_ (by show 3 <= sizeLine;decide)
  have I2:Inv X pins σ H1 { s1 with heap:=s1.heap.push { cls:=.type "tuple",data:=.seq [u1,u2,u3].toArray } }:=I1.kept (t':=s1.toks) λ b o e=>Heap.get?_push_of_some _ e
  rw[hw]
  refine wpAny_bind (wpAny_pure ?_)
  show wpAny (model X.prog X.w) X.A (do rule "assign.swapped-stores";let items <- unpackItems (.ref s1.heap.objs.size) 3 none;assignInOrder [λ v=>bindName X.env z v,λ v=>bindName X.env y v,λ v=>bindName X.env x v] items.reverse;pure Flow.next) _ _ _
  refine wpAny_bind (wpAny_rule (wpAny_bind (unpackItems_tuple (items:=#[u1,u2,u3]) (I.ok.hd hc) (IsTup.new s1.heap _) λ h' hx'=>?_)))
  have I3:=I2.kept (h':=h') (t':=s1.toks) λ b o e=>hx' b o (Nat.ne_of_lt (Heap.lt_size e)) e
  show wpAny _ _ (assignInOrder [λ v=>bindName X.env z v,λ v=>bindName X.env y v,λ v=>bindName X.env x v] [u3,u2,u1] >>= λ _=>pure Flow.next) _ _ _
  refine wpAny_bind (assignInOrder_cons (wpAny_bindName (Bw I3 hN hk (.inl hz) rq (λ s2 I4=>?_) (.inr hz))))
  refine assignInOrder_cons (wpAny_bindName (Bw I4 hN hj (.inl hy) rw' (λ s3 I5=>?_) (.inr hy)))
  refine assignInOrder_cons (wpAny_bindName (Bw I5 hN hi (.inl hx) rv (λ s4 I6=>assignInOrder_nil (wpAny_pure ?_)) (.inr hx)))
  exact⟨_,H1,I6,q1⟩
theorem KI:bootBuiltins "list"=some (.type "list"):=by decide +kernel
theorem bt_tuple:bootBuiltins "tuple"=some (.type "tuple"):=by decide +kernel
theorem bt_len:bootBuiltins "len"=some (.builtin "len"):=by decide +kernel
theorem bt_repr:bootBuiltins "repr"=some (.builtin "repr"):=by decide +kernel
theorem bt_sum:bootBuiltins "sum"=some (.builtin "sum"):=by decide +kernel
theorem bt_min:bootBuiltins "min"=some (.builtin "min"):=by decide +kernel
theorem bt_all:bootBuiltins "all"=some (.builtin "all"):=by decide +kernel
theorem bt_any:bootBuiltins "any"=some (.builtin "any"):=by decide +kernel
section
variable(c:Addr)(n l u v:Int)
end
mutual
theorem Fz:∀ ns:List Int,PyData.canLayAll0 (ns.map PyData.int)=true
  | []=>by simp[PyData.canLayAll0]
  | n :: ns=>by simp[PyData.canLayAll0,PyData.canLay0,Fz ns]
end
end L2
namespace L2
open PySem PySem.Spec PyProof.Rows PySem.W
section
variable{X:Cx}{scope:Scope}{fr:List Str}{ix:List Nat}{pins:List (Addr × Obj)}{σ:St}{H:Hp}{s:Shared}{p:Str}
end
end L2
namespace L2
open PySem PySem.Spec PyProof.Rows PySem.W
noncomputable def cdF(c:Addr)(q:Str):Heap->Prop:=λ h=>h.CodeRec (.ref c) q
noncomputable def UK(H:Hp)(q:Str)(pos:Pos)(ps:Array Value):Prop:=ps=#[] ∨ ∃ c,ps=#[rawInt pos.line,rawInt pos.col,.ref c]/\H c=some (.ext (cdF c q))
section
variable{X:Cx}{pins:List (Addr × Obj)}{σ:St}{H:Hp}{s:Shared}{c P:Addr}{scope:Scope}{fr:List Str}{ix:List Nat}
end
end L2
namespace L2
open PySem PySem.Spec PyProof.Rows
inductive I where
  | non|bl (b:Bool)|int (i:Int)|str (x:Str)|tup (ds:List I)
inductive D where
  | im (i:I)|mu (n:Nat)|tm (ds:List D)|ro (ns:List Int)
inductive MO where
  | lst (ds:List D)|dic (kvs:List (Key × D))
noncomputable abbrev Hd:=List MO
noncomputable abbrev Ls:=List (Option D)
noncomputable def RoL(K:PySem.W.Frag)(H:Hp)(a:Addr)(xs:List V):Prop:=(∃ o,H a=some (.frz o (.lst xs))) ∨
  ∃ (o:Obj) (its:Array Value) (n:Nat),K.lookup a=some o/\o.cls=.type "list"/\o.dict=none/\o.data=.seq its n/\its.size <= sizeLine/\Vals xs its.toList
theorem RoL.sq{K:PySem.W.Frag}{H:Hp}{a:Addr}{xs:List V}(h:RoL K H a xs):SqL K H a xs:=by
  rcases h with⟨o,h⟩|h
  . exact .inl (.inr ⟨o,h⟩)
  . exact .inr h
theorem RoL.grow{K:PySem.W.Frag}{H H':Hp}{a:Addr}{xs:List V}(g:Grow H H')(h:RoL K H a xs):RoL K H' a xs:=by
  rcases h with⟨o,h⟩|h
  . exact .inl ⟨o,g.frz _ _ _ h⟩
  . exact .inr h
noncomputable def C3(n:Nat):Prop:=n <= sizeLine
noncomputable def Ft(n:Nat):Prop:=n < sizeLine
noncomputable def Cv(i j:Int):Prop:=(-(2 ^ 64) < i/\i < 2 ^ 64) ∨ (-(2 ^ 64) < j/\j < 2 ^ 64)
noncomputable def Ku(i j:Int):Prop:=0 <= j/\j <= 1000000/\i.natAbs < 2 ^ 64
noncomputable def IL(j:Int):Prop:=0 < j/\j < 1073741824
noncomputable def Bk(j:Int):Prop:=0 < j
noncomputable def HF(j:Int):Prop:=-(2 ^ 62) <= j/\j < 2 ^ 62
noncomputable def NC(i j:Int):Prop:=(-(2 ^ 62) <= i/\i < 2 ^ 62)/\-(2 ^ 62) <= j/\j < 2 ^ 62
noncomputable def OM(j:Int):Prop:=j < 2 ^ 24/\-(2 ^ 62) <= j
noncomputable def OL(i j:Int):Prop:=(-(2 ^ 62) <= i/\i < 2 ^ 62)/\(-(2 ^ 62) <= j/\j < 2 ^ 62)/\(j - i).toNat <= 2 ^ 24
theorem Az{n:Nat}(h:n <= 1000000):C3 n:=Nat.le_trans h (by rw[sizeLine_eq];decide)
theorem Em{n:Nat}(h:n < 1000000):Ft n:=Nat.lt_of_lt_of_le h (by rw[sizeLine_eq];decide)
theorem BW{i j:Int}(a:-1000000000000 <= i)(b:i <= 1000000000000):Cv i j:=.inl ⟨by omega,by omega⟩
theorem DY{j:Int}(a:-1000000000000 <= j)(b:j <= 1000000000000):HF j:=⟨by omega,by omega⟩
section
variable(K:PySem.W.Frag)
mutual
noncomputable def RI(H:Hp):I->V->Prop
  | .non,v=>v=.non
  | .bl b,v=>v=.bl b
  | .int i,v=>v=.int i
  | .str x,v=>v=.str x
  | .tup ds,v=>∃ a xs,v=.ref a/\SqT K H a xs/\RIs H ds xs
noncomputable def RIs(H:Hp):List I->List V->Prop
  | [],xs=>xs=[]
  | d :: ds,xs=>∃ x r,xs=x :: r/\RI H d x/\RIs H ds r
end
mutual
noncomputable def RD(ρ:List Addr)(H:Hp):D->V->Prop
  | .im i,v=>RI K H i v
  | .mu n,v=>∃ a,ρ[n]? = some a/\v=.ref a
  | .tm ds,v=>∃ a xs,v=.ref a/\SqT K H a xs/\RDs ρ H ds xs
  | .ro ns,v=>∃ a,v=.ref a/\RoL K H a (ns.map V.int)
noncomputable def RDs(ρ:List Addr)(H:Hp):List D->List V->Prop
  | [],xs=>xs=[]
  | d :: ds,xs=>∃ x r,xs=x :: r/\RD ρ H d x/\RDs ρ H ds r
end
noncomputable def RKs(ρ:List Addr)(H:Hp):List (Key × D)->List (Key × V)->Prop
  | [],xs=>xs=[]
  | d :: ds,xs=>∃ x r,xs=x :: r/\x.1=d.1/\RD K ρ H d.2 x.2/\RKs ρ H ds r
noncomputable def RC(ρ:List Addr)(H:Hp):MO->HO->Prop
  | .lst ds,o=>∃ xs,o=.lst xs/\RDs K ρ H ds xs
  | .dic kvs,o=>∃ kv,o=.dK kv/\RKs K ρ H kvs kv
noncomputable def IC:List Value->List (Addr × Str × Pos)
  | .ref P :: .str q _ :: .int l _ :: .int c _ :: r=>(P,q,⟨l.toNat,c.toNat,0,0⟩) :: IC r
  | _=>[]
noncomputable def Tf(o:Obj):List (Addr × Str × Pos):=match o.cls,o.data with
  | .str _ _,.fields vs=>IC vs.toList
  | _,_=>[]
noncomputable def FC(K:PySem.W.Frag):List (Addr × Str × Pos):=match K.getLast? with
  | some p=>Tf p.2
  | none=>[]
noncomputable def TabsOk(K:PySem.W.Frag)(H:Hp):Prop:=∀ x ∈ FC K,∃ ps,H x.1=some (.tbl ps)/\UK H x.2.1 x.2.2 ps
structure RH(ρ:List Addr)(H:Hp)(hd:Hd):Prop where
  len:ρ.length=hd.length
  nd:ρ.Nodup
  tabs:TabsOk K H
  ob:∀ (n:Nat) (o:MO) (a:Addr),hd[n]? = some o->ρ[n]? = some a->∃ ho,H a=some ho/\RC K ρ H o ho
structure RL(ρ:List Addr)(H:Hp)(ls:Ls)(σ:St):Prop where
  len:ls.length=σ.length
  ob:∀ (i:Nat) (d:D),ls[i]? = some (some d)->∃ v,σ[i]? = some (some v)/\RD K ρ H d v
end
structure Ext(ρ:List Addr)(H:Hp)(ρ':List Addr)(H':Hp):Prop where
  pre:∃ r,ρ'=ρ ++ r/\∀ b ∈ r,H b=none
  keep:∀ b o,H b=some o->b ∉ ρ->(∀ ps,o ≠ .tbl ps)->H' b=some o
  tab:∀ b ps,H b=some (.tbl ps)->∃ ps',H' b=some (.tbl ps')
theorem nt{o:HO}(h:match o with | .tbl _=>False|_=>True:=by trivial):∀ ps,o ≠ .tbl ps:=λ ps e=>by subst e;exact h
theorem TabsOk.upd{K:PySem.W.Frag}{H:Hp}(t:TabsOk K H){a:Addr}{ho:HO}(h1:∀ ps,H a ≠ some (.tbl ps))(h2:∀ φ,H a ≠ some (.ext φ)):TabsOk K (upd H a ho):=λ x hx=>by
  obtain⟨ps,e,g⟩:=t x hx
  have ne:x.1 ≠ a:=λ z=>h1 ps (by rw[<- z];exact e)
  refine⟨ps,by rw[AE ne];exact e,?_⟩
  rcases g with g|⟨c,g1,g2⟩
  . exact .inl g
  . have nc:c ≠ a:=λ z=>h2 _ (by rw[<- z];exact g2)
    exact .inr ⟨c,g1,by rw[AE nc];exact g2⟩
section
variable{K:PySem.W.Frag}{ρ ρ' ρ1 ρ2:List Addr}{H H' H1 H2:Hp}{hd hd' hd1:Hd}
mutual
theorem RI.grow(g:Grow H H'):∀ {i:I} {v:V},RI K H i v->RI K H' i v
  | .non,v,h=>by simpa only[RI]using h
  | .bl b,v,h=>by simpa only[RI]using h
  | .int b,v,h=>by simpa only[RI]using h
  | .str b,v,h=>by simpa only[RI]using h
  | .tup ds,v,h=>by
    simp only[RI]at h ⊢
    obtain⟨a,xs,e,q,r⟩:=h
    exact⟨a,xs,e,g.sq q,RIs.grow g r⟩
theorem RIs.grow(g:Grow H H'):∀ {i:List I} {v:List V},RIs K H i v->RIs K H' i v
  | [],v,h=>by simpa only[RIs]using h
  | d :: ds,v,h=>by
    simp only[RIs]at h ⊢
    obtain⟨x,r,e,q,z⟩:=h
    exact⟨x,r,e,q.grow g,RIs.grow g z⟩
end
theorem RH.mut(h:RH K ρ H hd){a:Addr}(m:a ∈ ρ):(∃ xs,H a=some (.lst xs)) ∨ ∃ kv,H a=some (.dK kv):=by
  obtain⟨n,e⟩:=List.mem_iff_getElem?.mp m
  have hn:n < hd.length:=by rw[<- h.len];exact(List.getElem?_eq_some_iff.mp e).1
  obtain⟨ho,e1,e2⟩:=h.ob n hd[n] a (by simp[hn]) e
  cases q:hd[n]with
  | lst ds=>rw[q]at e2;obtain⟨xs,rfl,_⟩:=e2;exact .inl ⟨xs,e1⟩
  | dic ds=>rw[q]at e2;obtain⟨xs,rfl,_⟩:=e2;exact .inr ⟨xs,e1⟩
theorem RH.tup_out(h:RH K ρ H hd){a:Addr}{xs:List V}(e:H a=some (.tup xs)):a ∉ ρ:=λ m=>by
  rcases h.mut m with⟨y,z⟩|⟨y,z⟩ <;> (rw[e]at z;cases z)
theorem RH.frz_out(h:RH K ρ H hd){a:Addr}{o:Obj}{u:HO}(e:H a=some (.frz o u)):a ∉ ρ:=λ m=>by
  rcases h.mut m with⟨y,z⟩|⟨y,z⟩ <;> (rw[e]at z;cases z)
theorem Ext.grow(e:Ext ρ H ρ' H')(h:RH K ρ H hd):Grow H H':=⟨λ b xs q=>e.keep b _ q (h.tup_out q) nt,λ b o u q=>e.keep b _ q (h.frz_out q) nt⟩
theorem Ext.refl:Ext ρ H ρ H:=⟨⟨[],by simp,by simp⟩,λ _ _ h _ _=>h,λ _ ps h=>⟨ps,h⟩⟩
theorem Ext.trans(e:Ext ρ H ρ1 H1)(h0:RH K ρ1 H1 hd1)(e2:Ext ρ1 H1 ρ2 H2):Ext ρ H ρ2 H2:=by
  obtain⟨r1,rfl,f1⟩:=e.pre
  obtain⟨r2,rfl,f2⟩:=e2.pre
  refine⟨⟨r1 ++ r2,by simp,λ b m=>?_⟩,λ b o q n t=>?_,λ b ps q=>?_⟩
  . rcases List.mem_append.mp m with m|m
    . exact f1 b m
    . have z:=f2 b m
      cases q:H b with
      | none=>rfl
      | some o=>
        by_cases n:b ∈ ρ
        . rcases h0.mut (List.mem_append_left r1 n)with⟨y,w⟩|⟨y,w⟩ <;> (rw[z]at w;cases w)
        . by_cases t:∃ ps,o=.tbl ps
          . obtain⟨ps,rfl⟩:=t
            obtain⟨ps',this⟩:=e.tab b ps q
            rw[z]at this;cases this
          . have:=e.keep b o q n λ ps y=>t ⟨ps,y⟩
            rw[z]at this;cases this
  . refine e2.keep b o (e.keep b o q n t) (λ m=>?_) t
    rcases List.mem_append.mp m with m|m
    . exact n m
    . have:=f1 b m;rw[q]at this;cases this
  . obtain⟨ps',q'⟩:=e.tab b ps q
    exact e2.tab b ps' q'
mutual
theorem RD.mono(g:Grow H H')(r:List Addr):∀ {d:D} {v:V},RD K ρ H d v->RD K (ρ ++ r) H' d v
  | .im i,v,h=>by simp only[RD]at h ⊢;exact h.grow g
  | .mu n,v,h=>by
    simp only[RD]at h ⊢
    obtain⟨a,e,q⟩:=h
    exact⟨a,by rw[List.getElem?_append_left (List.getElem?_eq_some_iff.mp e).1];exact e,q⟩
  | .tm ds,v,h=>by
    simp only[RD]at h ⊢
    obtain⟨a,xs,e,q,z⟩:=h
    exact⟨a,xs,e,g.sq q,RDs.mono g r z⟩
  | .ro ns,v,h=>by
    simp only[RD]at h ⊢
    obtain⟨a,e,q⟩:=h
    exact⟨a,e,q.grow g⟩
theorem RDs.mono(g:Grow H H')(r:List Addr):∀ {d:List D} {v:List V},RDs K ρ H d v->RDs K (ρ ++ r) H' d v
  | [],v,h=>by simpa only[RDs]using h
  | d :: ds,v,h=>by
    simp only[RDs]at h ⊢
    obtain⟨x,r',e,q,z⟩:=h
    exact⟨x,r',e,q.mono g r,RDs.mono g r z⟩
end
theorem RKs.mono(g:Grow H H')(r:List Addr):∀ {d:List (Key × D)} {v:List (Key × V)},RKs K ρ H d v->RKs K (ρ ++ r) H' d v
  | [],v,h=>by simpa only[RKs]using h
  | d :: ds,v,h=>by
    simp only[RKs]at h ⊢
    obtain⟨x,r',e,q1,q,z⟩:=h
    exact⟨x,r',e,q1,q.mono g r,RKs.mono g r z⟩
theorem RC.mono(g:Grow H H')(r:List Addr){o:MO}{ho:HO}(h:RC K ρ H o ho):RC K (ρ ++ r) H' o ho:=by
  cases o with
  | lst ds=>obtain⟨xs,e,q⟩:=h;exact⟨xs,e,q.mono g r⟩
  | dic ds=>obtain⟨xs,e,q⟩:=h;exact⟨xs,e,q.mono g r⟩
theorem RD.ext(h:RH K ρ H hd)(e:Ext ρ H ρ' H'){d:D}{v:V}(q:RD K ρ H d v):RD K ρ' H' d v:=by
  obtain⟨r,rfl,_⟩:=e.pre
  exact q.mono (e.grow h) r
theorem RDs.ext(h:RH K ρ H hd)(e:Ext ρ H ρ' H'){d:List D}{v:List V}(q:RDs K ρ H d v):RDs K ρ' H' d v:=by
  obtain⟨r,rfl,_⟩:=e.pre
  exact q.mono (e.grow h) r
theorem RL.ext(h:RH K ρ H hd)(e:Ext ρ H ρ' H'){ls:Ls}{σ:St}(q:RL K ρ H ls σ):RL K ρ' H' ls σ:=
  ⟨q.len,λ i d z=>let ⟨v,a,b⟩:=q.ob i d z;⟨v,a,b.ext h e⟩⟩
theorem RDs.len:∀ {ds:List D} {xs:List V},RDs K ρ H ds xs->xs.length=ds.length
  | [],xs,h=>by simp only[RDs]at h;rw[h];rfl
  | d :: ds,xs,h=>by
    simp only[RDs]at h
    obtain⟨x,r,rfl,_,z⟩:=h
    simp[RDs.len z]
theorem RDs.get:∀ {ds:List D} {xs:List V} {i:Nat} {d:D},RDs K ρ H ds xs->ds[i]? = some d->∃ x,xs[i]? = some x/\RD K ρ H d x
  | [],xs,i,d,h,e=>by simp at e
  | d :: ds,xs,0,e,h,q=>by
    simp only[RDs]at h
    obtain⟨x,r,rfl,z,_⟩:=h
    simp at q;subst q
    exact⟨x,rfl,z⟩
  | d :: ds,xs,i + 1,e,h,q=>by
    simp only[RDs]at h
    obtain⟨x,r,rfl,_,z⟩:=h
    obtain⟨y,a,b⟩:=RDs.get (i:=i) z (by simpa using q)
    exact⟨y,by simpa using a,b⟩
theorem RDs.nil:RDs K ρ H [] []:=by simp[RDs]
theorem RDs.cons{d:D}{v:V}{ds:List D}{vs:List V}(h:RD K ρ H d v)(t:RDs K ρ H ds vs):RDs K ρ H (d :: ds) (v :: vs):=by
  simp only[RDs];exact⟨v,vs,rfl,h,t⟩
theorem RDs.app:∀ {ds es:List D} {xs ys:List V},RDs K ρ H ds xs->RDs K ρ H es ys->RDs K ρ H (ds ++ es) (xs ++ ys)
  | [],es,xs,ys,h,t=>by simp only[RDs]at h;subst h;simpa using t
  | d :: ds,es,xs,ys,h,t=>by
    simp only[RDs]at h
    obtain⟨x,r,rfl,z,q⟩:=h
    simp only[List.cons_append]
    exact .cons z (q.app t)
theorem RDs.set:∀ {ds:List D} {xs:List V} {d:D} {v:V} (i:Nat),RDs K ρ H ds xs->RD K ρ H d v->RDs K ρ H (ds.set i d) (xs.set i v)
  | [],xs,d,v,i,h,t=>by simp only[RDs]at h;subst h;simp[RDs]
  | d :: ds,xs,e,v,0,h,t=>by
    simp only[RDs]at h
    obtain⟨x,r,rfl,z,q⟩:=h
    simpa using RDs.cons t q
  | d :: ds,xs,e,v,i + 1,h,t=>by
    simp only[RDs]at h
    obtain⟨x,r,rfl,z,q⟩:=h
    simpa using RDs.cons z (q.set i t)
theorem RDs.drop:∀ {ds:List D} {xs:List V} (n:Nat),RDs K ρ H ds xs->RDs K ρ H (ds.drop n) (xs.drop n)
  | ds,xs,0,h=>by simpa using h
  | [],xs,n + 1,h=>by simp only[RDs]at h;subst h;simp[RDs]
  | d :: ds,xs,n + 1,h=>by
    simp only[RDs]at h
    obtain⟨x,r,rfl,z,q⟩:=h
    simpa using q.drop n
theorem RDs.take:∀ {ds:List D} {xs:List V} (n:Nat),RDs K ρ H ds xs->RDs K ρ H (ds.take n) (xs.take n)
  | ds,xs,0,h=>by simp[RDs]
  | [],xs,n + 1,h=>by simp only[RDs]at h;subst h;simp[RDs]
  | d :: ds,xs,n + 1,h=>by
    simp only[RDs]at h
    obtain⟨x,r,rfl,z,q⟩:=h
    simpa using RDs.cons z (q.take n)
theorem RIs.ds:∀ {is:List I} {xs:List V},RIs K H is xs->RDs K ρ H (is.map D.im) xs
  | [],xs,h=>by simpa only[RIs,RDs,List.map_nil]using h
  | i :: is,xs,h=>by
    simp only[RIs]at h
    obtain⟨x,r,rfl,z,q⟩:=h
    exact .cons (by simpa only[RD]using z) q.ds
theorem RDs.is:∀ {is:List I} {xs:List V},RDs K ρ H (is.map D.im) xs->RIs K H is xs
  | [],xs,h=>by simpa only[RIs,RDs,List.map_nil]using h
  | i :: is,xs,h=>by
    simp only[List.map_cons,RDs]at h
    obtain⟨x,r,rfl,z,q⟩:=h
    simp only[RIs]
    exact⟨x,r,rfl,by simpa only[RD]using z,q.is⟩
theorem RH.new(h:RH K ρ H hd){a:Addr}(ha:H a=none){o:MO}{ho:HO}(c:RC K ρ H o ho):RH K (ρ ++ [a]) (upd H a ho) (hd ++ [o])/\Ext ρ H (ρ ++ [a]) (upd H a ho):=by
  have out:a ∉ ρ:=λ m=>by rcases h.mut m with⟨y,z⟩|⟨y,z⟩ <;> (rw[ha]at z;cases z)
  have ex:Ext ρ H (ρ ++ [a]) (upd H a ho):=⟨⟨[a],rfl,λ b m=>by simp at m;subst m;exact ha⟩,λ b o q n _=>by rw[AE (AS q ha)];exact q,λ b ps q=>⟨ps,by rw[AE (AS q ha)];exact q⟩⟩
  refine⟨⟨by simp[h.len],?_,h.tabs.upd (by simp[ha]) (by simp[ha]),λ n o' b e1 e2=>?_⟩,ex⟩
  . rw[List.nodup_append]
    refine⟨h.nd,by simp,λ x hx y hy z=>?_⟩
    simp at hy;subst hy;subst z;exact out hx
  . have gr:=ex.grow h
    by_cases hn:n < ρ.length
    . rw[List.getElem?_append_left hn]at e2
      rw[List.getElem?_append_left (by rw[<- h.len];exact hn)]at e1
      obtain⟨ho',q1,q2⟩:=h.ob n o' b e1 e2
      exact⟨ho',by rw[AE (AS q1 ha)];exact q1,q2.mono gr [a]⟩
    . have hn':n=ρ.length:=by
        have:=(List.getElem?_eq_some_iff.mp e2).1
        simp at this;omega
      subst hn'
      simp at e2
      rw[h.len]at e1
      simp at e1
      subst e1;subst e2
      exact⟨ho,AT,c.mono gr [a]⟩
theorem RH.put(h:RH K ρ H hd){n:Nat}{a:Addr}(hn:ρ[n]? = some a){o:MO}{ho:HO}(c:RC K ρ H o ho):RH K ρ (upd H a ho) (hd.set n o)/\Ext ρ H ρ (upd H a ho):=by
  have ha:=h.mut (List.mem_of_getElem? hn)
  have n1:∀ ps,H a ≠ some (.tbl ps):=λ ps e=>by rcases ha with⟨y,z⟩|⟨y,z⟩ <;> (rw[e]at z;cases z)
  have n2:∀ φ,H a ≠ some (.ext φ):=λ ps e=>by rcases ha with⟨y,z⟩|⟨y,z⟩ <;> (rw[e]at z;cases z)
  have ex:Ext ρ H ρ (upd H a ho):=⟨⟨[],by simp,by simp⟩,λ b o q m _=>by
    have:b ≠ a:=λ z=>m (by rw[z];exact List.mem_of_getElem? hn)
    rw[AE this];exact q,λ b ps q=>⟨ps,(AE (show b ≠ a from λ z=>n1 ps (by rw[<- z];exact q))).trans q⟩⟩
  have gr:=ex.grow h
  refine⟨⟨by simp[h.len],h.nd,h.tabs.upd n1 n2,λ m o' b e1 e2=>?_⟩,ex⟩
  have hm:m < hd.length:=by rw[<- h.len];exact(List.getElem?_eq_some_iff.mp e2).1
  by_cases hmn:m=n
  . subst hmn
    rw[hn]at e2;cases e2
    rw[List.getElem?_set_self hm]at e1
    cases e1
    exact⟨ho,AT,by simpa using c.mono gr []⟩
  . rw[List.getElem?_set_ne (λ z=>hmn z.symm)]at e1
    obtain⟨ho',q1,q2⟩:=h.ob m o' b e1 e2
    have:b ≠ a:=λ z=>by
      subst z
      have l1:=(List.getElem?_eq_some_iff.mp e2).1
      have l2:=(List.getElem?_eq_some_iff.mp hn).1
      exact hmn ((List.getElem?_inj l1 h.nd).mp (e2.trans hn.symm))
    exact⟨ho',by rw[AE this];exact q1,by simpa using q2.mono gr []⟩
theorem RH.lst(h:RH K ρ H hd){n:Nat}{a:Addr}{ds:List D}(hn:ρ[n]? = some a)(e:hd[n]? = some (.lst ds)):∃ xs,H a=some (.lst xs)/\RDs K ρ H ds xs:=by
  obtain⟨ho,q,xs,rfl,r⟩:=h.ob n _ a e hn
  exact⟨xs,q,r⟩
theorem RH.dic(h:RH K ρ H hd){n:Nat}{a:Addr}{ds:List (Key × D)}(hn:ρ[n]? = some a)(e:hd[n]? = some (.dic ds)):∃ xs,H a=some (.dK xs)/\RKs K ρ H ds xs:=by
  obtain⟨ho,q,xs,rfl,r⟩:=h.ob n _ a e hn
  exact⟨xs,q,r⟩
theorem RH.hid(h:RH K ρ H hd){a:Addr}(ha:H a=none){ho:HO}:RH K ρ (upd H a ho) hd/\Ext ρ H ρ (upd H a ho):=by
  have out:a ∉ ρ:=λ m=>by rcases h.mut m with⟨y,z⟩|⟨y,z⟩ <;> (rw[ha]at z;cases z)
  have ex:Ext ρ H ρ (upd H a ho):=⟨⟨[],by simp,by simp⟩,λ b o q n _=>by rw[AE (AS q ha)];exact q,λ b ps q=>⟨ps,by rw[AE (AS q ha)];exact q⟩⟩
  have gr:=ex.grow h
  refine⟨⟨h.len,h.nd,h.tabs.upd (by simp[ha]) (by simp[ha]),λ m o' b e1 e2=>?_⟩,ex⟩
  obtain⟨ho',q1,q2⟩:=h.ob m o' b e1 e2
  exact⟨ho',by rw[AE (AS q1 ha)];exact q1,by simpa using q2.mono gr []⟩
theorem RH.hput(h:RH K ρ H hd){a:Addr}(out:a ∉ ρ){xs:List V}{ho:HO}(hl:H a=some (.lst xs)):RH K ρ (upd H a ho) hd:=by
  have gr:Grow H (upd H a ho):=Grow.refl.put (.lst hl)
  refine⟨h.len,h.nd,h.tabs.upd (by simp[hl]) (by simp[hl]),λ m o' b e1 e2=>?_⟩
  obtain⟨ho',q1,q2⟩:=h.ob m o' b e1 e2
  have:b ≠ a:=λ z=>out (by rw[<- z];exact List.mem_of_getElem? e2)
  exact⟨ho',by rw[AE this];exact q1,by simpa using q2.mono gr []⟩
end
end L2
namespace L2
open PySem PySem.Spec PyProof.Rows
noncomputable abbrev ME:=Ls->Hd->Option (D × Hd)
noncomputable abbrev MT:=Ls->Hd->Option (Bool × Hd)
noncomputable abbrev MA:=Ls->Hd->Option (List D × Hd)
inductive Fl where
  | nx (ls:Ls)|rt (d:D)|bk (ls:Ls)|ct (ls:Ls)
noncomputable abbrev MS:=Ls->Hd->Option (Fl × Hd)
section
variable(K:PySem.W.Frag)
noncomputable def RE(t:TE)(m:ME):Prop:=∀ (ρ:List Addr) (σ:St) (H:Hp) (hd:Hd) (ls:Ls) (Q:VK) (d:D) (hd':Hd),RH K ρ H hd->RL K ρ H ls σ->m ls hd=some (d,hd') ->
  (∀ ρ' H' v,Ext ρ H ρ' H'->RH K ρ' H' hd'->RD K ρ' H' d v->Q v H')->t σ H Q
noncomputable def RT(t:TT)(m:MT):Prop:=∀ (ρ:List Addr) (σ:St) (H:Hp) (hd:Hd) (ls:Ls) (Q:Bool->Hp->Prop) (d:Bool) (hd':Hd),RH K ρ H hd->RL K ρ H ls σ->m ls hd=some (d,hd') ->
  (∀ ρ' H',Ext ρ H ρ' H'->RH K ρ' H' hd'->Q d H')->t σ H Q
noncomputable def RA(t:TA)(m:MA):Prop:=∀ (ρ:List Addr) (σ:St) (H:Hp) (hd:Hd) (ls:Ls) (Q:List V->Hp->Prop) (d:List D) (hd':Hd),RH K ρ H hd->RL K ρ H ls σ->m ls hd=some (d,hd') ->
  (∀ ρ' H' v,Ext ρ H ρ' H'->RH K ρ' H' hd'->RDs K ρ' H' d v->Q v H')->t σ H Q
noncomputable def RN(t:TE)(m:MA):Prop:=∀ (ρ:List Addr) (σ:St) (H:Hp) (hd:Hd) (ls:Ls) (Q:VK) (d:List D) (hd':Hd),RH K ρ H hd->RL K ρ H ls σ->m ls hd=some (d,hd') ->
  (∀ ρ' H' a xs,Ext ρ H ρ' H'->RH K ρ' H' hd'->H a=none->a ∉ ρ'->H' a=some (.lst xs)->RDs K ρ' H' d xs->Q (.ref a) H')->t σ H Q
noncomputable def UJ(E:Ends)(ρ:List Addr)(H:Hp):Fl->Prop
  | .nx ls=>∀ σ,RL K ρ H ls σ->E.nx σ H
  | .bk ls=>∀ σ,RL K ρ H ls σ->E.bk σ H
  | .ct ls=>∀ σ,RL K ρ H ls σ->E.ct σ H
  | .rt d=>∀ v,RD K ρ H d v->E.rt v H
noncomputable def RS(t:TS)(m:MS):Prop:=∀ (ρ:List Addr) (σ:St) (H:Hp) (hd:Hd) (ls:Ls) (E:Ends) (f:Fl) (hd':Hd),RH K ρ H hd->RL K ρ H ls σ->m ls hd=some (f,hd') ->
  (∀ ρ' H',Ext ρ H ρ' H'->RH K ρ' H' hd'->UJ K E ρ' H' f)->t E σ H
noncomputable def RB(r:R2)(f:D->D->Hd->Option (D × Hd)):Prop:=∀ (ρ:List Addr) (H:Hp) (hd:Hd) (d e:D) (v u:V) (Q:VK) (z:D) (hd':Hd),RH K ρ H hd->RD K ρ H d v->RD K ρ H e u->f d e hd=some (z,hd') ->
  (∀ ρ' H' w,Ext ρ H ρ' H'->RH K ρ' H' hd'->RD K ρ' H' z w->Q w H')->r v u H Q
noncomputable def RF(r:List V->Hp->VK->Prop)(f:List D->Hd->Option (D × Hd)):Prop:=∀ (ρ:List Addr) (H:Hp) (hd:Hd) (ds:List D) (vs:List V) (Q:VK) (z:D) (hd':Hd),RH K ρ H hd->RDs K ρ H ds vs->f ds hd=some (z,hd') ->
  (∀ ρ' H' w,Ext ρ H ρ' H'->RH K ρ' H' hd'->RD K ρ' H' z w->Q w H')->r vs H Q
noncomputable def RG(tp:Bool)(r:List V->Hp->VK->Prop)(g:List D->Option D):Prop:=∀ (ρ:List Addr) (H:Hp) (hd:Hd) (a:Addr) (xs:List V) (ds:List D) (Q:VK) (z:D),RH K ρ H hd->(SqL K H a xs ∨ (tp=true/\SqT K H a xs))->RDs K ρ H ds xs->g ds=some z ->
  (∀ H' w,Ext ρ H ρ H'->RH K ρ H' hd->RD K ρ H' z w->Q w H')->r [.ref a] H Q
end
structure QE(K:PySem.W.Frag)(X:Cx)(e:Expr)(t:TE)(m:ME):Prop where
  p:PE X e t
  r:RE K t m
structure QT(K:PySem.W.Frag)(X:Cx)(e:Expr)(t:TT)(m:MT):Prop where
  p:PT X e t
  r:RT K t m
structure QW(K:PySem.W.Frag)(X:Cx)(e:Expr)(t:TT)(m:MT):Prop where
  p:PW X e t
  r:RT K t m
structure QA(K:PySem.W.Frag)(X:Cx)(e:List Expr)(t:TA)(m:MA):Prop where
  p:PA X e t
  r:RA K t m
structure QN(K:PySem.W.Frag)(X:Cx)(e:Expr)(t:TE)(m:MA):Prop where
  p:PE X e t
  r:RN K t m
structure QS(K:PySem.W.Frag)(X:Cx)(e:Stmt)(t:TS)(m:MS):Prop where
  p:PS X e t
  r:RS K t m
structure QSs(K:PySem.W.Frag)(X:Cx)(e:List Stmt)(t:TS)(m:MS):Prop where
  p:PSs X e t
  r:RS K t m
noncomputable def Aa:D->Option (List D)
  | .im (.tup is)=>some (is.map .im)
  | .tm ds=>some ds
  | _=>none
noncomputable def BE(hd:Hd):D->Option (List D)
  | .mu n=>match hd[n]? with
    | some (.lst ds)=>some ds
    | _=>none
  | .ro ns=>some (ns.map λ n=>.im (.int n))
  | _=>none
noncomputable def BI(hd:Hd)(d:D):Option (List D):=match Aa d with
  | some ds=>some ds
  | none=>BE hd d
noncomputable def BN:List D->Option (List I)
  | []=>some []
  | .im i :: r=>(BN r).map (i :: ·)
  | _ :: _=>none
noncomputable def Ax(ds:List D):D:=match BN ds with
  | some is=>.im (.tup is)
  | none=>.tm ds
noncomputable def BM:List D->Option (List Int)
  | []=>some []
  | .im (.int i) :: r=>(BM r).map (i :: ·)
  | _ :: _=>none
noncomputable def C4:List D->Option (List Bool)
  | []=>some []
  | .im (.bl i) :: r=>(C4 r).map (i :: ·)
  | _ :: _=>none
section
variable{K:PySem.W.Frag}{ρ ρ':List Addr}{H H':Hp}{hd hd':Hd}
theorem Dy:∀ {ds:List D} {is:List I},BN ds=some is->ds=is.map .im
  | [],is,h=>by simp[BN]at h;subst h;rfl
  | .im i :: r,is,h=>by
    simp only[BN,Option.map_eq_some_iff]at h
    obtain⟨js,e,rfl⟩:=h
    simp[Dy e]
  | .mu _ :: _,is,h=>by simp[BN]at h
  | .tm _ :: _,is,h=>by simp[BN]at h
  | .ro _ :: _,is,h=>by simp[BN]at h
theorem GI:∀ {ds:List D} {is:List Int},BM ds=some is->ds=is.map λ i=>.im (.int i)
  | [],is,h=>by simp[BM]at h;subst h;rfl
  | .im (.int i) :: r,is,h=>by
    simp only[BM,Option.map_eq_some_iff]at h
    obtain⟨js,e,rfl⟩:=h
    simp[GI e]
  | .im (.bl _) :: _,is,h=>by simp[BM]at h
  | .im (.str _) :: _,is,h=>by simp[BM]at h
  | .im .non :: _,is,h=>by simp[BM]at h
  | .im (.tup _) :: _,is,h=>by simp[BM]at h
  | .mu _ :: _,is,h=>by simp[BM]at h
  | .tm _ :: _,is,h=>by simp[BM]at h
  | .ro _ :: _,is,h=>by simp[BM]at h
theorem Ha:∀ {ds:List D} {is:List Bool},C4 ds=some is->ds=is.map λ i=>.im (.bl i)
  | [],is,h=>by simp[C4]at h;subst h;rfl
  | .im (.bl i) :: r,is,h=>by
    simp only[C4,Option.map_eq_some_iff]at h
    obtain⟨js,e,rfl⟩:=h
    simp[Ha e]
  | .im (.int _) :: _,is,h=>by simp[C4]at h
  | .im (.str _) :: _,is,h=>by simp[C4]at h
  | .im .non :: _,is,h=>by simp[C4]at h
  | .im (.tup _) :: _,is,h=>by simp[C4]at h
  | .mu _ :: _,is,h=>by simp[C4]at h
  | .tm _ :: _,is,h=>by simp[C4]at h
  | .ro _ :: _,is,h=>by simp[C4]at h
@[simp] theorem Mk(is:List I):BN (is.map .im)=some is:=by induction is <;> simp_all [BN]
@[simp] theorem MM(is:List Int):BM (is.map λ i=>.im (.int i))=some is:=by induction is <;> simp_all [BM]
@[simp] theorem Et(is:List Bool):C4 (is.map λ i=>.im (.bl i))=some is:=by induction is <;> simp_all [C4]
theorem Jo:∀ {ns:List Int} {xs:List V},RDs K ρ H (ns.map λ i=>.im (.int i)) xs->xs=ns.map V.int
  | [],xs,h=>by simpa [RDs]using h
  | n :: ns,xs,h=>by
    simp only[List.map_cons,RDs,RD,RI]at h
    obtain⟨x,r,rfl,rfl,z⟩:=h
    rw[Jo z];rfl
theorem Fo:∀ {ns:List Int},RDs K ρ H (ns.map λ i=>.im (.int i)) (ns.map V.int)
  | []=>by simp[RDs]
  | n :: ns=>by simp only[List.map_cons];exact .cons (by simp[RD,RI]) Fo
theorem Io:∀ {ns:List Bool} {xs:List V},RDs K ρ H (ns.map λ i=>.im (.bl i)) xs->xs=ns.map V.bl
  | [],xs,h=>by simpa [RDs]using h
  | n :: ns,xs,h=>by
    simp only[List.map_cons,RDs,RD,RI]at h
    obtain⟨x,r,rfl,rfl,z⟩:=h
    rw[Io z];rfl
theorem RD.tup{d:D}{v:V}{ds:List D}(h:RD K ρ H d v)(e:Aa d=some ds):∃ a xs,v=.ref a/\SqT K H a xs/\RDs K ρ H ds xs:=by
  cases d with
  | im i=>
    cases i with
    | tup is=>
      simp only[Aa,Option.some.injEq]at e
      subst e
      simp only[RD,RI]at h
      obtain⟨a,xs,rfl,q,r⟩:=h
      exact⟨a,xs,rfl,q,r.ds⟩
    | _=>simp[Aa]at e
  | tm es=>
    simp only[Aa,Option.some.injEq]at e
    subst e
    simpa only[RD]using h
  | _=>simp[Aa]at e
theorem RD.lst{d:D}{v:V}{ds:List D}(hR:RH K ρ H hd)(h:RD K ρ H d v)(e:BE hd d=some ds):∃ a xs,v=.ref a/\SqL K H a xs/\RDs K ρ H ds xs:=by
  cases d with
  | mu n=>
    simp only[BE]at e
    simp only[RD]at h
    obtain⟨a,hn,rfl⟩:=h
    split at e
    . next q=>
      cases e
      obtain⟨xs,e1,e2⟩:=hR.lst hn q
      exact⟨a,xs,rfl,SqL.of e1,e2⟩
    . cases e
  | ro ns=>
    simp only[BE,Option.some.injEq]at e
    subst e
    simp only[RD]at h
    obtain⟨a,rfl,q⟩:=h
    exact⟨a,_,rfl,q.sq,Fo⟩
  | _=>simp[BE]at e
theorem RD.seq{d:D}{v:V}{ds:List D}(hR:RH K ρ H hd)(h:RD K ρ H d v)(e:BI hd d=some ds):∃ a xs,v=.ref a/\(SqL K H a xs ∨ SqT K H a xs)/\RDs K ρ H ds xs:=by
  unfold BI at e
  split at e
  . next q=>
    cases e
    obtain⟨a,xs,e1,e2,e3⟩:=h.tup q
    exact⟨a,xs,e1,.inr e2,e3⟩
  . obtain⟨a,xs,e1,e2,e3⟩:=h.lst hR e
    exact⟨a,xs,e1,.inl e2,e3⟩
theorem C8{ds:List D}{a:Addr}{xs:List V}(q:SqT K H a xs)(r:RDs K ρ H ds xs):RD K ρ H (Ax ds) (.ref a):=by
  unfold Ax
  split
  . next e=>
    rw[Dy e]at r
    simp only[RD,RI]
    exact⟨a,xs,rfl,q,r.is⟩
  . simp only[RD]
    exact⟨a,xs,rfl,q,r⟩
noncomputable def A2(i:Nat):ME:=λ ls hd=>match ls[i]? with
  | some (some d)=>some (d,hd)
  | _=>none
theorem Rp{i:Nat}:RE K (KW i) (A2 i):=by
  intro ρ σ H hd ls Q d hd' hR hL hm hQ
  unfold A2 at hm
  split at hm
  . next e=>
    cases hm
    obtain⟨v,e1,e2⟩:=hL.ob i _ e
    exact⟨v,e1,hQ ρ H v .refl hR e2⟩
  . cases hm
noncomputable def mC(i:I):ME:=λ _ hd=>some (.im i,hd)
theorem Kk{v:V}{i:I}(h:∀ H,RI K H i v):RE K (tC v) (mC i):=by
  intro ρ σ H hd ls Q d hd' hR hL hm hQ
  cases hm
  exact hQ ρ H v .refl hR (by simpa only[RD]using h H)
noncomputable def mOp(f:D->D->Hd->Option (D × Hd))(ma mb:ME):ME:=λ ls hd=>(ma ls hd).bind λ p=>(mb ls p.2).bind λ q=>f p.1 q.1 q.2
theorem IE{r:R2}{f:D->D->Hd->Option (D × Hd)}{ta tb:TE}{ma mb:ME}(hr:RB K r f)(ha:RE K ta ma)(hb:RE K tb mb):RE K (tOp r ta tb) (mOp f ma mb):=by
  intro ρ σ H hd ls Q d hd' hR hL hm hQ
  obtain⟨⟨d1,h1⟩,e1,hm⟩:=Option.bind_eq_some_iff.mp hm
  obtain⟨⟨d2,h2⟩,e2,hm⟩:=Option.bind_eq_some_iff.mp hm
  refine ha ρ σ H hd ls _ d1 h1 hR hL e1 λ ρ1 H1 v1 x1 R1 r1=>?_
  refine hb ρ1 σ H1 h1 ls _ d2 h2 R1 (hL.ext hR x1) e2 λ ρ2 H2 v2 x2 R2 r2=>?_
  exact hr ρ2 H2 h2 d1 d2 v1 v2 Q d hd' R2 (r1.ext R1 x2) r2 hm λ ρ' H' w x3 R3 r3=>hQ ρ' H' w ((x1.trans R1 x2).trans R2 x3) R3 r3
noncomputable def FP(ta tb:MT):MT:=λ ls hd=>(ta ls hd).bind λ p=>if p.1=true then tb ls p.2 else some (false,p.2)
noncomputable def mOr(ta tb:MT):MT:=λ ls hd=>(ta ls hd).bind λ p=>if p.1=true then some (true,p.2)else tb ls p.2
noncomputable def Sn(ta:MT):MT:=λ ls hd=>(ta ls hd).bind λ p=>some (!p.1,p.2)
theorem Re{ta tb:TT}{ma mb:MT}(ha:RT K ta ma)(hb:RT K tb mb):RT K (N5 ta tb) (FP ma mb):=by
  intro ρ σ H hd ls Q d hd' hR hL hm hQ
  obtain⟨⟨d1,h1⟩,e1,hm⟩:=Option.bind_eq_some_iff.mp hm
  refine ha ρ σ H hd ls _ d1 h1 hR hL e1 λ ρ1 H1 x1 R1=>?_
  cases d1 with
  | true=>
    rw[if_pos rfl]at hm ⊢
    exact hb ρ1 σ H1 h1 ls Q d hd' R1 (hL.ext hR x1) hm λ ρ2 H2 x2 R2=>hQ ρ2 H2 (x1.trans R1 x2) R2
  | false=>
    rw[if_neg Bool.false_ne_true]at hm ⊢
    cases hm
    exact hQ ρ1 H1 x1 R1
open Classical in
noncomputable def DL(hd:Hd):D->Option Bool
  | .im .non=>some false
  | .im (.bl b)=>some b
  | .im (.int i)=>some (i != 0)
  | .im (.str x)=>if C3 x.length then some ((x.length:Int) != 0)else none
  | .im (.tup is)=>some (!is.isEmpty)
  | .tm is=>some (!is.isEmpty)
  | .ro ns=>some (!ns.isEmpty)
  | .mu n=>match hd[n]? with
    | some (.lst ds)=>some (!ds.isEmpty)
    | some (.dic ds)=>some (!ds.isEmpty)
    | none=>none
theorem CL{α β:Type}{xs:List α}{ys:List β}(h:xs.length=ys.length):xs.isEmpty=ys.isEmpty:=by
  cases xs <;> cases ys <;> simp_all
theorem RKs.len:∀ {ds:List (Key × D)} {xs:List (Key × V)},RKs K ρ H ds xs->xs.length=ds.length
  | [],xs,h=>by simp only[RKs]at h;rw[h];rfl
  | d :: ds,xs,h=>by
    simp only[RKs]at h
    obtain⟨x,r,rfl,_,_,z⟩:=h
    simp[RKs.len z]
theorem P5{d:D}{v:V}{b:Bool}(hR:RH K ρ H hd)(h:RD K ρ H d v)(e:DL hd d=some b):Ja K v H b:=by
  cases d with
  | im i=>
    cases i with
    | non=>simp only[RD,RI]at h;subst h;simp only[DL,Option.some.injEq]at e;subst e;exact rfl
    | bl c=>simp only[RD,RI]at h;subst h;simp only[DL,Option.some.injEq]at e;subst e;exact rfl
    | int c=>simp only[RD,RI]at h;subst h;simp only[DL,Option.some.injEq]at e;subst e;exact rfl
    | str c=>
      simp only[RD,RI]at h;subst h;simp only[DL]at e
      split at e
      . next z=>cases e;exact⟨z,rfl⟩
      . cases e
    | tup is=>
      obtain⟨a,xs,rfl,q,r⟩:=h.tup (ds:=is.map .im) rfl
      simp only[DL,Option.some.injEq]at e;subst e
      exact .inr (.inl ⟨xs,q,by rw[CL (show xs.length=is.length by simpa using r.len)]⟩)
  | tm ds=>
    obtain⟨a,xs,rfl,q,r⟩:=h.tup (ds:=ds) rfl
    simp only[DL,Option.some.injEq]at e;subst e
    exact .inr (.inl ⟨xs,q,by rw[CL r.len]⟩)
  | ro ns=>
    obtain⟨a,xs,rfl,q,r⟩:=h.lst hR (hd:=hd) (ds:=ns.map λ n=>.im (.int n)) rfl
    simp only[DL,Option.some.injEq]at e;subst e
    exact .inl ⟨xs,q,by rw[CL (show xs.length=ns.length by simpa using r.len)]⟩
  | mu n=>
    simp only[RD]at h
    obtain⟨a,hn,rfl⟩:=h
    simp only[DL]at e
    split at e
    . next q=>
      cases e
      obtain⟨xs,e1,e2⟩:=hR.lst hn q
      exact .inl ⟨xs,SqL.of e1,by rw[CL e2.len]⟩
    . next q=>
      cases e
      obtain⟨xs,e1,e2⟩:=hR.dic hn q
      exact .inr (.inr ⟨xs,e1,by rw[CL e2.len]⟩)
    . cases e
noncomputable def Dp(ma:ME):MT:=λ ls hd=>(ma ls hd).bind λ p=>(DL p.2 p.1).map (·,p.2)
theorem N9{ta:TE}{ma:ME}(ha:RE K ta ma):RT K (λ σ H Q=>ta σ H λ x H'=>∃ k,Ja K x H' k/\Q k H') (Dp ma):=by
  intro ρ σ H hd ls Q d hd' hR hL hm hQ
  obtain⟨⟨d1,h1⟩,e1,hm⟩:=Option.bind_eq_some_iff.mp hm
  obtain⟨b,e2,e3⟩:=Option.map_eq_some_iff.mp hm
  cases e3
  exact ha ρ σ H hd ls _ d1 h1 hR hL e1 λ ρ1 H1 v x1 R1 r1=>⟨_,P5 R1 r1 e2,hQ ρ1 H1 x1 R1⟩
noncomputable def An(ma:ME):MT:=λ ls hd=>(ma ls hd).bind λ p=>match p.1 with
  | .im (.bl b)=>some (b,p.2)
  | _=>none
theorem EI{ta:TE}{ma:ME}(ha:RE K ta ma):RT K (GS ta) (An ma):=by
  intro ρ σ H hd ls Q d hd' hR hL hm hQ
  obtain⟨⟨d1,h1⟩,e1,hm⟩:=Option.bind_eq_some_iff.mp hm
  dsimp only at hm
  split at hm
  . cases hm
    exact ha ρ σ H hd ls _ _ _ hR hL e1 λ ρ1 H1 v x1 R1 r1=>⟨_,by simpa only[RD,RI]using r1,hQ ρ1 H1 x1 R1⟩
  . cases hm
theorem UT{ta:TE}{ma:ME}(ha:RE K ta ma):RT K (tB ta) (An ma):=EI ha
noncomputable def mIf(c:MT)(ma mb:ME):ME:=λ ls hd=>(c ls hd).bind λ p=>if p.1=true then ma ls p.2 else mb ls p.2
theorem Tk{tc:TT}{c:MT}{ta tb:TE}{ma mb:ME}(hc:RT K tc c)(ha:RE K ta ma)(hb:RE K tb mb):RE K (tIf tc ta tb) (mIf c ma mb):=by
  intro ρ σ H hd ls Q d hd' hR hL hm hQ
  obtain⟨⟨d1,h1⟩,e1,hm⟩:=Option.bind_eq_some_iff.mp hm
  refine hc ρ σ H hd ls _ d1 h1 hR hL e1 λ ρ1 H1 x1 R1=>?_
  cases d1 with
  | true=>
    rw[if_pos rfl]at hm ⊢
    exact ha ρ1 σ H1 h1 ls Q d hd' R1 (hL.ext hR x1) hm λ ρ2 H2 v x2 R2 r2=>hQ ρ2 H2 v (x1.trans R1 x2) R2 r2
  | false=>
    rw[if_neg Bool.false_ne_true]at hm ⊢
    exact hb ρ1 σ H1 h1 ls Q d hd' R1 (hL.ext hR x1) hm λ ρ2 H2 v x2 R2 r2=>hQ ρ2 H2 v (x1.trans R1 x2) R2 r2
noncomputable def Fm(ma mb:ME):ME:=λ ls hd=>(An ma ls hd).bind λ p=>if p.1=true then mb ls p.2 else some (.im (.bl false),p.2)
noncomputable def UZ(ma mb:ME):ME:=λ ls hd=>(An ma ls hd).bind λ p=>if p.1=true then some (.im (.bl true),p.2)else mb ls p.2
noncomputable def U3(ma:ME):ME:=λ ls hd=>(An ma ls hd).bind λ p=>some (.im (.bl (!p.1)),p.2)
theorem Pe{ta tb:TE}{ma mb:ME}(ha:RE K ta ma)(hb:RE K tb mb):RE K (Ke ta tb) (Fm ma mb):=by
  intro ρ σ H hd ls Q d hd' hR hL hm hQ
  obtain⟨⟨d1,h1⟩,e1,hm⟩:=Option.bind_eq_some_iff.mp hm
  refine EI ha ρ σ H hd ls (λ c H1=>if c=true then tb σ H1 Q else Q (.bl false) H1) d1 h1 hR hL e1 λ ρ1 H1 x1 R1=>?_
  cases d1 with
  | true=>
    rw[if_pos rfl]at hm ⊢
    exact hb ρ1 σ H1 h1 ls Q d hd' R1 (hL.ext hR x1) hm λ ρ2 H2 v x2 R2 r2=>hQ ρ2 H2 v (x1.trans R1 x2) R2 r2
  | false=>
    rw[if_neg Bool.false_ne_true]at hm ⊢
    cases hm
    exact hQ ρ1 H1 _ x1 R1 (by simp[RD,RI])
noncomputable def A7:MA:=λ _ hd=>some ([],hd)
noncomputable def A1(ma:ME)(mr:MA):MA:=λ ls hd=>(ma ls hd).bind λ p=>(mr ls p.2).bind λ q=>some (p.1 :: q.1,q.2)
theorem S3:RA K CN A7:=by
  intro ρ σ H hd ls Q d hd' hR hL hm hQ
  cases hm
  exact hQ ρ H [] .refl hR .nil
theorem Pf{ta:TE}{tr:TA}{ma:ME}{mr:MA}(ha:RE K ta ma)(hr:RA K tr mr):RA K (Bh ta tr) (A1 ma mr):=by
  intro ρ σ H hd ls Q d hd' hR hL hm hQ
  obtain⟨⟨d1,h1⟩,e1,hm⟩:=Option.bind_eq_some_iff.mp hm
  obtain⟨⟨d2,h2⟩,e2,hm⟩:=Option.bind_eq_some_iff.mp hm
  cases hm
  refine ha ρ σ H hd ls _ d1 h1 hR hL e1 λ ρ1 H1 v1 x1 R1 r1=>?_
  exact hr ρ1 σ H1 h1 ls _ d2 _ R1 (hL.ext hR x1) e2 λ ρ2 H2 v2 x2 R2 r2=>hQ ρ2 H2 _ (x1.trans R1 x2) R2 (.cons (r1.ext R1 x2) r2)
open Classical in
noncomputable def At(ma:MA):ME:=λ ls hd=>(ma ls hd).bind λ p=>if C3 p.1.length then some (Ax p.1,p.2)else none
theorem Rq{t:TA}{m:MA}(h:RA K t m):RE K (Mz t) (At m):=by
  intro ρ σ H hd ls Q d hd' hR hL hm hQ
  obtain⟨⟨d1,h1⟩,e1,hm⟩:=Option.bind_eq_some_iff.mp hm
  dsimp only at hm
  split at hm
  . next z=>
    cases hm
    refine h ρ σ H hd ls _ d1 _ hR hL e1 λ ρ1 H1 v1 x1 R1 r1=>⟨by rw[r1.len];exact z,λ p hp=>?_⟩
    obtain⟨R2,x2⟩:=R1.hid (ho:=.tup v1) hp
    exact hQ ρ1 _ _ (x1.trans R1 x2) R2 (C8 (SqT.of AT) (r1.ext R1 x2))
  . cases hm
open Classical in
noncomputable def Ce(ma:MA):MA:=λ ls hd=>(ma ls hd).bind λ p=>if C3 p.1.length then some (p.1,p.2)else none
theorem RH.out(hR:RH K ρ H hd){a:Addr}(h:H a=none):a ∉ ρ:=λ m=>by rcases hR.mut m with⟨y,z⟩|⟨y,z⟩ <;> (rw[h]at z;cases z)
theorem Ext.none(e:Ext ρ H ρ' H')(hR:RH K ρ H hd){a:Addr}(h:H' a=none)(hR':RH K ρ' H' hd'):H a=none:=by
  cases q:H a with
  | none=>rfl
  | some o=>
    by_cases m:a ∈ ρ
    . obtain⟨r,rfl,_⟩:=e.pre
      exact absurd (List.mem_append_left r m) (hR'.out h)
    . by_cases t:∃ ps,o=.tbl ps
      . obtain⟨ps,rfl⟩:=t
        obtain⟨ps',this⟩:=e.tab a ps q
        rw[h]at this;cases this
      . rw[e.keep a o q m λ ps y=>t ⟨ps,y⟩]at h;cases h
theorem Rj{t:TA}{m:MA}(h:RA K t m):RN K (N2 t) (Ce m):=by
  intro ρ σ H hd ls Q d hd' hR hL hm hQ
  obtain⟨⟨d1,h1⟩,e1,hm⟩:=Option.bind_eq_some_iff.mp hm
  dsimp only at hm
  split at hm
  . next z=>
    cases hm
    refine h ρ σ H hd ls _ _ _ hR hL e1 λ ρ1 H1 v1 x1 R1 r1=>⟨by rw[r1.len];exact z,λ p hp=>?_⟩
    obtain⟨R2,x2⟩:=R1.hid (ho:=.lst v1) hp
    exact hQ ρ1 _ p v1 (x1.trans R1 x2) R2 (x1.none hR hp R1) (R1.out hp) AT (r1.ext R1 x2)
  . cases hm
noncomputable def Cm(ml:MA):ME:=λ ls hd=>(ml ls hd).bind λ p=>some (.mu p.2.length,p.2 ++ [.lst p.1])
theorem RH.name(hR:RH K ρ H hd){a:Addr}{xs:List V}{ds:List D}(out:a ∉ ρ)(e:H a=some (.lst xs))(r:RDs K ρ H ds xs):RH K (ρ ++ [a]) H (hd ++ [.lst ds]):=by
  have mono:∀ {o:MO} {ho:HO},RC K ρ H o ho->RC K (ρ ++ [a]) H o ho:=λ c=>c.mono Grow.refl [a]
  refine⟨by simp[hR.len],?_,hR.tabs,λ n o' b e1 e2=>?_⟩
  . rw[List.nodup_append]
    refine⟨hR.nd,by simp,λ x hx y hy z=>?_⟩
    simp at hy;subst hy;subst z;exact out hx
  . by_cases hn:n < ρ.length
    . rw[List.getElem?_append_left hn]at e2
      rw[List.getElem?_append_left (by rw[<- hR.len];exact hn)]at e1
      obtain⟨ho',q1,q2⟩:=hR.ob n o' b e1 e2
      exact⟨ho',q1,mono q2⟩
    . have hn':n=ρ.length:=by
        have:=(List.getElem?_eq_some_iff.mp e2).1
        simp at this;omega
      subst hn'
      simp at e2
      rw[hR.len]at e1
      simp at e1
      subst e1;subst e2
      exact⟨_,e,mono ⟨xs,rfl,r⟩⟩
theorem Ext.name(e:Ext ρ H ρ' H'){a:Addr}(h:H a=Option.none):Ext ρ H (ρ' ++ [a]) H':=by
  obtain⟨r,rfl,f⟩:=e.pre
  refine⟨⟨r ++ [a],by simp,λ b m=>?_⟩,e.keep,e.tab⟩
  rcases List.mem_append.mp m with m|m
  . exact f b m
  . simp at m;subst m;exact h
theorem Rs{t:TE}{m:MA}(h:RN K t m):RE K t (Cm m):=by
  intro ρ σ H hd ls Q d hd' hR hL hm hQ
  obtain⟨⟨d1,h1⟩,e1,hm⟩:=Option.bind_eq_some_iff.mp hm
  cases hm
  refine h ρ σ H hd ls Q d1 h1 hR hL e1 λ ρ1 H1 a xs x1 R1 na oa ea r1=>?_
  refine hQ (ρ1 ++ [a]) H1 _ (x1.name na) (R1.name oa ea r1) ?_
  simp only[RD]
  exact⟨a,by rw[<- R1.len];simp,rfl⟩
end
end L2
namespace L2
open PySem PySem.Spec PyProof.Rows
section
variable{K:PySem.W.Frag}{ρ ρ':List Addr}{H H':Hp}{hd hd':Hd}
noncomputable def fI(g:Int->Int->Option I):D->D->Hd->Option (D × Hd)
  | .im (.int i),.im (.int j),hd=>(g i j).map (.im ·,hd)
  | _,_,_=>none
theorem Kl{C:Int->Int->Prop}{g:Int->Int->V}{f:Int->Int->Option I}(h:∀ i j z,f i j=some z->C i j/\∀ H,RI K H z (g i j)):RB K (rI C g) (fI f):=by
  intro ρ H hd d e v u Q z hd' hR h1 h2 hf hQ
  unfold fI at hf
  split at hf
  . simp only[RD,RI]at h1 h2
    subst h1 h2
    obtain⟨w,e1,e2⟩:=Option.map_eq_some_iff.mp hf
    cases e2
    obtain⟨c,r⟩:=h _ _ _ e1
    exact⟨_,_,rfl,rfl,c,hQ ρ H _ .refl hR (by simpa only[RD]using r H)⟩
  . cases hf
theorem Fe{g:Int->Int->V}{f:Int->Int->I}(h:∀ i j H,RI K H (f i j) (g i j)):RB K (rI0 g) (fI λ i j=>some (f i j)):=by
  intro ρ H hd d e v u Q z hd' hR h1 h2 hf hQ
  unfold fI at hf
  split at hf
  . simp only[RD,RI]at h1 h2
    subst h1 h2
    cases hf
    exact⟨_,_,rfl,rfl,hQ ρ H _ .refl hR (by simpa only[RD]using h _ _ H)⟩
  . cases hf
noncomputable def Ep(f g:D->D->Hd->Option (D × Hd)):D->D->Hd->Option (D × Hd):=λ d e hd=>match f d e hd with
  | some z=>some z
  | none=>g d e hd
theorem AJ{r r':R2}{f g:D->D->Hd->Option (D × Hd)}(h:RB K r f)(h':RB K r' g):RB K (λ x y H Q=>r x y H Q ∨ r' x y H Q) (Ep f g):=by
  intro ρ H hd d e v u Q z hd' hR h1 h2 hf hQ
  unfold Ep at hf
  split at hf
  . next q=>cases hf;exact .inl (h ρ H hd d e v u Q z hd' hR h1 h2 q hQ)
  . exact .inr (h' ρ H hd d e v u Q z hd' hR h1 h2 hf hQ)
noncomputable abbrev HY:D->D->Hd->Option (D × Hd):=fI λ i j=>some (.int (i + j))
noncomputable abbrev LL:D->D->Hd->Option (D × Hd):=fI λ i j=>some (.int (i - j))
theorem Ai:RB K (rI0 λ i j=>.int (i + j)) HY:=Fe λ _ _ _=>by simp[RI]
theorem Rz:RB K (rI0 λ i j=>.int (i - j)) LL:=Fe λ _ _ _=>by simp[RI]
open Classical in
noncomputable abbrev BJ:D->D->Hd->Option (D × Hd):=fI λ i j=>if Cv i j then some (.int (i * j))else none
theorem BY:RB K (rI CMul λ i j=>.int (i * j)) BJ:=Kl λ i j z h=>by
  split at h
  . next q=>cases h;exact⟨q,λ _=>by simp[RI]⟩
  . cases h
open Classical in
noncomputable abbrev Du:D->D->Hd->Option (D × Hd):=fI λ i j=>if Bk j then some (.int (i % j))else none
theorem CY:RB K (rI (λ _ j=>0 < j) λ i j=>.int (i % j)) Du:=Kl λ i j z h=>by
  split at h
  . next q=>cases h;exact⟨q,λ _=>by simp[RI]⟩
  . cases h
open Classical in
noncomputable abbrev IK:D->D->Hd->Option (D × Hd):=fI λ i j=>if IL j then some (.int (i / j))else none
theorem HH:RB K (rI TW λ i j=>.int (i / j)) IK:=Kl λ i j z h=>by
  split at h
  . next q=>cases h;exact⟨q,λ _=>by simp[RI]⟩
  . cases h
open Classical in
noncomputable abbrev Sw:D->D->Hd->Option (D × Hd):=fI λ i j=>if Ku i j then some (.int (i ^ j.toNat))else none
theorem S0:RB K (rI TV λ i j=>.int (i ^ j.toNat)) Sw:=Kl λ i j z h=>by
  split at h
  . next q=>cases h;exact⟨q,λ _=>by simp[RI]⟩
  . cases h
noncomputable abbrev gLt:D->D->Hd->Option (D × Hd):=fI λ i j=>some (.bl (decide (i < j)))
noncomputable abbrev gLe:D->D->Hd->Option (D × Hd):=fI λ i j=>some (.bl (decide (i <= j)))
noncomputable abbrev gGt:D->D->Hd->Option (D × Hd):=fI λ i j=>some (.bl (decide (j < i)))
noncomputable abbrev gGe:D->D->Hd->Option (D × Hd):=fI λ i j=>some (.bl (decide (j <= i)))
theorem OO:RB K (rI0 λ i j=>.bl (decide (i < j))) gLt:=Fe λ _ _ _=>by simp[RI]
theorem Tl:RB K (rI0 λ i j=>.bl (decide (i <= j))) gLe:=Fe λ _ _ _=>by simp[RI]
theorem IF:RB K (rI0 λ i j=>.bl (decide (j < i))) gGt:=Fe λ _ _ _=>by simp[RI]
theorem Tn:RB K (rI0 λ i j=>.bl (decide (j <= i))) gGe:=Fe λ _ _ _=>by simp[RI]
noncomputable def scI:I->Option V
  | .non=>some .non
  | .bl b=>some (.bl b)
  | .int i=>some (.int i)
  | .str x=>some (.str x)
  | .tup _=>none
theorem GX{i:I}{v w:V}(e:scI i=some w)(h:RI K H i v):v=w:=by
  cases i with
  | tup _=>simp[scI]at e
  | _=>simp only[scI,Option.some.injEq]at e;subst e;simpa only[RI]using h
noncomputable def EB(neg:Bool):D->D->Hd->Option (D × Hd)
  | .im i,.im j,hd=>match scI i,scI j with
    | some x,some y=>if IZ x y=true then some (.im (.bl (if neg then !decide (x=y)else decide (x=y))),hd)else none
    | _,_=>none
  | _,_,_=>none
theorem FG:RB K rEq (EB false):=by
  intro ρ H hd d e v u Q z hd' hR h1 h2 hf hQ
  unfold EB at hf
  split at hf
  . split at hf
    . next x y e1 e2=>
      split at hf
      . next s=>
        cases hf
        simp only[RD]at h1 h2
        rw[GX e1 h1,GX e2 h2]
        exact⟨s,hQ ρ H _ .refl hR (by simp[RD,RI])⟩
      . cases hf
    . cases hf
  . cases hf
theorem Ip:RB K rNe (EB true):=by
  intro ρ H hd d e v u Q z hd' hR h1 h2 hf hQ
  unfold EB at hf
  split at hf
  . split at hf
    . next x y e1 e2=>
      split at hf
      . next s=>
        cases hf
        simp only[RD]at h1 h2
        rw[GX e1 h1,GX e2 h2]
        exact⟨s,hQ ρ H _ .refl hR (by simp[RD,RI])⟩
      . cases hf
    . cases hf
  . cases hf
mutual
noncomputable def I.py:I->PyData
  | .non=>.none
  | .bl b=>.bool b
  | .int i=>.int i
  | .str x=>.str x
  | .tup ds=>.tuple (I.pys ds)
noncomputable def I.pys:List I->List PyData
  | []=>[]
  | d :: ds=>I.py d :: I.pys ds
end
mutual
theorem RI.rep:∀ {i:I} {v:V},RI K H i v->Rep K H i.py v
  | .non,v,h=>by simpa only[RI,I.py,Rep]using h
  | .bl _,v,h=>by simpa only[RI,I.py,Rep]using h
  | .int _,v,h=>by simpa only[RI,I.py,Rep]using h
  | .str _,v,h=>by simpa only[RI,I.py,Rep]using h
  | .tup ds,v,h=>by
    simp only[RI]at h
    obtain⟨a,xs,e,q,r⟩:=h
    simp only[I.py,Rep]
    exact⟨a,xs,e,q,RIs.rep r⟩
theorem RIs.rep:∀ {i:List I} {v:List V},RIs K H i v->B8 K H (I.pys i) v
  | [],v,h=>by simpa only[RIs,I.pys,B8]using h
  | d :: ds,v,h=>by
    simp only[RIs]at h
    obtain⟨x,r,e,q,z⟩:=h
    simp only[I.pys,B8]
    exact⟨x,r,e,q.rep,RIs.rep z⟩
end
noncomputable def pyD(hd:Hd):D->Option PyData
  | .im i=>some i.py
  | .mu n=>match hd[n]? with
    | some (.lst ds)=>(BN ds).map λ is=>.list (I.pys is)
    | _=>none
  | .ro ns=>some (.list (I.pys (ns.map I.int)))
  | _=>none
theorem Db{d:D}{v:V}{p:PyData}(hR:RH K ρ H hd)(h:RD K ρ H d v)(e:pyD hd d=some p):Rep K H p v:=by
  cases d with
  | im i=>simp only[pyD,Option.some.injEq]at e;subst e;simp only[RD]at h;exact h.rep
  | mu n=>
    simp only[pyD]at e
    simp only[RD]at h
    obtain⟨a,hn,rfl⟩:=h
    split at e
    . next q=>
      obtain⟨is,e1,rfl⟩:=Option.map_eq_some_iff.mp e
      obtain⟨xs,e2,e3⟩:=hR.lst hn q
      rw[Dy e1]at e3
      simp only[Rep]
      exact⟨a,xs,rfl,SqL.of e2,e3.is.rep⟩
    . cases e
  | ro ns=>
    simp only[pyD,Option.some.injEq]at e;subst e
    obtain⟨a,xs,rfl,q,r⟩:=h.lst hR (hd:=hd) (ds:=ns.map λ n=>.im (.int n)) rfl
    simp only[Rep]
    refine⟨a,xs,rfl,q,RIs.rep (RDs.is (ρ:=ρ) ?_)⟩
    rw[List.map_map]
    exact r
  | tm _=>simp[pyD]at e
noncomputable def HX(neg:Bool):D->D->Hd->Option (D × Hd):=λ d e hd=>match pyD hd d,pyD hd e with
  | some x,some y=>if x.canLay0=true/\y.canLay0=true/\min x.depth y.depth <= 60 then some (.im (.bl (if neg then !PyData.eqv x y else PyData.eqv x y)),hd)else none
  | _,_=>none
theorem FH:RB K (NQ K) (HX false):=by
  intro ρ H hd d e v u Q z hd' hR h1 h2 hf hQ
  unfold HX at hf
  split at hf
  . next e1 e2=>
    split at hf
    . next c=>cases hf;exact⟨_,_,Db hR h1 e1,Db hR h2 e2,c.1,c.2.1,c.2.2,hQ ρ H _ .refl hR (by simp[RD,RI])⟩
    . cases hf
  . cases hf
theorem Iq:RB K (NM K) (HX true):=by
  intro ρ H hd d e v u Q z hd' hR h1 h2 hf hQ
  unfold HX at hf
  split at hf
  . next e1 e2=>
    split at hf
    . next c=>cases hf;exact⟨_,_,Db hR h1 e1,Db hR h2 e2,c.1,c.2.1,c.2.2,hQ ρ H _ .refl hR (by simp[RD,RI])⟩
    . cases hf
  . cases hf
noncomputable abbrev gEq:=Ep (EB false) (HX false)
noncomputable abbrev gNe:=Ep (EB true) (HX true)
noncomputable def gIx:D->D->Hd->Option (D × Hd)
  | d,.im (.int i),hd=>(BI hd d).bind λ ds=>(atI ds i).map (·,hd)
  | _,_,_=>none
theorem KJ{α β:Type}{xs:List α}{ys:List β}{i:Int}{y:β}(h:xs.length=ys.length)(e:atI ys i=some y):∃ (j:Nat),ys[j]? = some y/\∀ x,xs[j]? = some x->atI xs i=some x:=by
  unfold atI at e
  obtain⟨j,e1,e2⟩:=Option.bind_eq_some_iff.mp e
  exact⟨j,e2,λ x q=>by unfold atI;rw[h,e1];exact q⟩
noncomputable def IG(K:PySem.W.Frag):R2:=λ x y H Q=>NO K x y H Q ∨ NN K x y H Q
theorem Tm:RB K (IG K) gIx:=by
  intro ρ H hd d e v u Q z hd' hR h1 h2 hf hQ
  unfold gIx at hf
  split at hf
  . obtain⟨ds,e1,hf⟩:=Option.bind_eq_some_iff.mp hf
    obtain⟨w,e2,e3⟩:=Option.map_eq_some_iff.mp hf
    cases e3
    obtain⟨a,xs,rfl,q,r⟩:=h1.seq hR e1
    simp only[RD,RI]at h2
    subst h2
    obtain⟨j,j1,j2⟩:=KJ r.len e2
    obtain⟨x,x1,x2⟩:=r.get j1
    rcases q with q|q
    . exact .inl ⟨a,xs,_,x,rfl,rfl,q,j2 x x1,hQ ρ H x .refl hR x2⟩
    . exact .inr ⟨a,xs,_,x,rfl,rfl,q,j2 x x1,hQ ρ H x .refl hR x2⟩
  . cases hf
noncomputable def Dx(xs:List D)(lo hi:Option Int):List D:=(xs.drop (HT.sIx xs.length 0 lo)).take (HT.sIx xs.length xs.length hi - HT.sIx xs.length 0 lo)
theorem KD{ds:List D}{xs:List V}{lo hi:Option Int}(r:RDs K ρ H ds xs):RDs K ρ H (Dx ds lo hi) (EC xs lo hi):=by
  unfold Dx EC
  rw[r.len]
  exact(r.drop _).take _
noncomputable abbrev MO1:=Ls->Hd->Option (Option Int × Hd)
noncomputable def RO1(K:PySem.W.Frag)(t:TO)(m:MO1):Prop:=∀ (ρ:List Addr) (σ:St) (H:Hp) (hd:Hd) (ls:Ls) (Q:Option Int->Hp->Prop) (d:Option Int) (hd':Hd),RH K ρ H hd->RL K ρ H ls σ->m ls hd=some (d,hd') ->
  (∀ ρ' H',Ext ρ H ρ' H'->RH K ρ' H' hd'->Q d H')->t σ H Q
noncomputable def Bs:MO1:=λ _ hd=>some (none,hd)
noncomputable def Cd(m:ME):MO1:=λ ls hd=>(m ls hd).bind λ p=>match p.1 with
  | .im (.int i)=>some (some i,p.2)
  | _=>none
theorem PR:RO1 K HD Bs:=by
  intro ρ σ H hd ls Q d hd' hR hL hm hQ
  cases hm
  exact hQ ρ H .refl hR
theorem PQ{t:TE}{m:ME}(h:RE K t m):RO1 K (Ka t) (Cd m):=by
  intro ρ σ H hd ls Q d hd' hR hL hm hQ
  obtain⟨⟨d1,h1⟩,e1,hm⟩:=Option.bind_eq_some_iff.mp hm
  dsimp only at hm
  split at hm
  . cases hm
    exact h ρ σ H hd ls _ _ _ hR hL e1 λ ρ1 H1 v x1 R1 r1=>⟨_,by simpa only[RD,RI]using r1,hQ ρ1 H1 x1 R1⟩
  . cases hm
noncomputable def E8(m:ME)(ml mh:MO1):ME:=λ ls hd=>(m ls hd).bind λ p=>(ml ls p.2).bind λ l=>(mh ls l.2).bind λ h=>(Aa p.1).bind λ ds=>
  if ¬ (HT.sIx ds.length 0 l.1=0/\HT.sIx ds.length ds.length h.1=ds.length)then some (Ax (Dx ds l.1 h.1),h.2)else none
theorem Rr{t:TE}{tl th:TO}{m:ME}{ml mh:MO1}(h:RE K t m)(hl:RO1 K tl ml)(hh:RO1 K th mh):RE K (tSl (Ko K) t tl th) (E8 m ml mh):=by
  intro ρ σ H hd ls Q d hd' hR hL hm hQ
  obtain⟨⟨d1,h1⟩,e1,hm⟩:=Option.bind_eq_some_iff.mp hm
  obtain⟨⟨d2,h2⟩,e2,hm⟩:=Option.bind_eq_some_iff.mp hm
  obtain⟨⟨d3,h3⟩,e3,hm⟩:=Option.bind_eq_some_iff.mp hm
  obtain⟨ds,e4,hm⟩:=Option.bind_eq_some_iff.mp hm
  dsimp only at e2 e3 e4 hm
  split at hm
  . next c=>
    cases hm
    refine h ρ σ H hd ls _ d1 h1 hR hL e1 λ ρ1 H1 v1 x1 R1 r1=>?_
    refine hl ρ1 σ H1 h1 ls _ d2 h2 R1 (hL.ext hR x1) e2 λ ρ2 H2 x2 R2=>?_
    refine hh ρ2 σ H2 h2 ls _ d3 _ R2 (hL.ext hR (x1.trans R1 x2)) e3 λ ρ3 H3 x3 R3=>?_
    obtain⟨a,xs,rfl,q,r⟩:=((r1.ext R1 x2).ext R2 x3).tup e4
    refine⟨a,xs,rfl,q,by rw[r.len];exact c,λ p hp=>?_⟩
    obtain⟨R4,x4⟩:=R3.hid (ho:=.tup (EC xs d2 d3)) hp
    exact hQ ρ3 _ _ (((x1.trans R1 x2).trans R2 x3).trans R3 x4) R4 (C8 (SqT.of AT) ((KD r).ext R3 x4))
  . cases hm
noncomputable def LB(m:ME)(ml mh:MO1):MA:=λ ls hd=>(m ls hd).bind λ p=>(ml ls p.2).bind λ l=>(mh ls l.2).bind λ h=>(BE h.2 p.1).bind λ ds=>some (Dx ds l.1 h.1,h.2)
theorem Ri{t:TE}{tl th:TO}{m:ME}{ml mh:MO1}(h:RE K t m)(hl:RO1 K tl ml)(hh:RO1 K th mh):RN K (tSl (Kp K) t tl th) (LB m ml mh):=by
  intro ρ σ H hd ls Q d hd' hR hL hm hQ
  obtain⟨⟨d1,h1⟩,e1,hm⟩:=Option.bind_eq_some_iff.mp hm
  obtain⟨⟨d2,h2⟩,e2,hm⟩:=Option.bind_eq_some_iff.mp hm
  obtain⟨⟨d3,h3⟩,e3,hm⟩:=Option.bind_eq_some_iff.mp hm
  obtain⟨ds,e4,hm⟩:=Option.bind_eq_some_iff.mp hm
  dsimp only at e2 e3 e4 hm
  cases hm
  refine h ρ σ H hd ls _ d1 h1 hR hL e1 λ ρ1 H1 v1 x1 R1 r1=>?_
  refine hl ρ1 σ H1 h1 ls _ d2 h2 R1 (hL.ext hR x1) e2 λ ρ2 H2 x2 R2=>?_
  refine hh ρ2 σ H2 h2 ls _ d3 _ R2 (hL.ext hR (x1.trans R1 x2)) e3 λ ρ3 H3 x3 R3=>?_
  obtain⟨a,xs,rfl,q,r⟩:=RD.lst R3 ((r1.ext R1 x2).ext R2 x3) e4
  refine⟨a,xs,rfl,q,λ p hp=>?_⟩
  obtain⟨R4,x4⟩:=R3.hid (ho:=.lst (EC xs d2 d3)) hp
  have x123:=(x1.trans R1 x2).trans R2 x3
  exact hQ ρ3 _ p _ (x123.trans R3 x4) R4 (x123.none hR hp R3) (R3.out hp) AT ((KD r).ext R3 x4)
noncomputable def mCB(f:List D->Hd->Option (D × Hd))(ma:MA):ME:=λ ls hd=>(ma ls hd).bind λ p=>f p.1 p.2
theorem ON{r:List V->Hp->VK->Prop}{f:List D->Hd->Option (D × Hd)}{t:TA}{m:MA}(hr:RF K r f)(h:RA K t m):RE K (tCB r t) (mCB f m):=by
  intro ρ σ H hd ls Q d hd' hR hL hm hQ
  obtain⟨⟨d1,h1⟩,e1,hm⟩:=Option.bind_eq_some_iff.mp hm
  refine h ρ σ H hd ls _ d1 h1 hR hL e1 λ ρ1 H1 v1 x1 R1 r1=>?_
  exact hr ρ1 H1 h1 d1 v1 Q d hd' R1 r1 hm λ ρ' H' w x2 R2 r2=>hQ ρ' H' w (x1.trans R1 x2) R2 r2
noncomputable def f1(tp:Bool)(g:List D->Option D):List D->Hd->Option (D × Hd)
  | [d],hd=>((if tp then BI hd d else BE hd d)).bind λ ds=>(g ds).map (·,hd)
  | _,_=>none
theorem Ee{tp:Bool}{r:List V->Hp->VK->Prop}{g:List D->Option D}(h:RG K tp r g):RF K r (f1 tp g):=by
  intro ρ H hd ds vs Q z hd' hR h1 hf hQ
  unfold f1 at hf
  split at hf
  . next d hd'=>
    obtain⟨es,e1,hf⟩:=Option.bind_eq_some_iff.mp hf
    obtain⟨w,e2,e3⟩:=Option.map_eq_some_iff.mp hf
    cases e3
    simp only[RDs]at h1
    obtain⟨x,r,rfl,rx,rfl⟩:=h1
    cases tp with
    | true=>
      rw[if_pos rfl]at e1
      obtain⟨a,xs,rfl,q,rr⟩:=rx.seq hR e1
      exact h ρ H hd a xs es Q z hR (q.imp id λ q=>⟨rfl,q⟩) rr e2 λ H' w x R r=>hQ ρ H' w x R r
    | false=>
      rw[if_neg Bool.false_ne_true]at e1
      obtain⟨a,xs,rfl,q,rr⟩:=rx.lst hR e1
      exact h ρ H hd a xs es Q z hR (.inl q) rr e2 λ H' w x R r=>hQ ρ H' w x R r
  . cases hf
noncomputable def E9(g:List D->Option D)(ml:MA):ME:=λ ls hd=>(ml ls hd).bind λ p=>(g p.1).map (·,p.2)
theorem Ry{tp:Bool}{r:List V->Hp->VK->Prop}{g:List D->Option D}{t:TE}{m:MA}(hr:RG K tp r g)(h:RN K t m):RE K (tCB r (Bh t CN)) (E9 g m):=by
  intro ρ σ H hd ls Q d hd' hR hL hm hQ
  obtain⟨⟨d1,h1⟩,e1,hm⟩:=Option.bind_eq_some_iff.mp hm
  obtain⟨w,e2,e3⟩:=Option.map_eq_some_iff.mp hm
  cases e3
  refine h ρ σ H hd ls _ d1 _ hR hL e1 λ ρ1 H1 a xs x1 R1 na oa ea r1=>?_
  exact hr ρ1 H1 _ a xs d1 Q d R1 (.inl (SqL.of ea)) r1 e2 λ H' w x R r=>hQ ρ1 H' w (x1.trans R1 x) R r
noncomputable def CO(ds:List D):Option D:=some (.im (.int ds.length))
theorem Df:RG K true (S4 K) CO:=by
  intro ρ H hd a xs ds Q z hR q r e hQ
  cases e
  refine⟨a,xs,rfl,q.imp id λ q=>q.2,?_⟩
  rw[r.len]
  exact hQ H _ .refl hR (by simp[RD,RI])
noncomputable def Dt(ds:List D):Option D:=some (Ax ds)
theorem Ij:RG K true (Ir K) Dt:=by
  intro ρ H hd a xs ds Q z hR q r e hQ
  cases e
  refine⟨a,xs,rfl,?_⟩
  rcases q with q|⟨_,q⟩
  . refine .inl ⟨q,λ p hp=>?_⟩
    obtain⟨R2,x2⟩:=hR.hid (ho:=.tup xs) hp
    exact hQ _ _ x2 R2 (C8 (SqT.of AT) (r.ext hR x2))
  . exact .inr ⟨q,hQ H _ .refl hR (C8 q r)⟩
noncomputable def JK(ds:List D):Option D:=(BM ds).map λ ns=>.im (.int ns.sum)
noncomputable def UW(K:PySem.W.Frag):List V->Hp->VK->Prop:=λ xs H Q=>OQ K xs H Q ∨ OP K xs H Q
theorem Lo:RG K true (UW K) JK:=by
  intro ρ H hd a xs ds Q z hR q r e hQ
  obtain⟨ns,e1,rfl⟩:=Option.map_eq_some_iff.mp e
  rw[GI e1]at r
  have:=Jo r
  subst this
  rcases q with q|⟨_,q⟩
  . exact .inl ⟨a,ns,rfl,q,hQ H _ .refl hR (by simp[RD,RI])⟩
  . exact .inr ⟨a,ns,rfl,q,hQ H _ .refl hR (by simp[RD,RI])⟩
noncomputable def LC(ds:List D):Option D:=(C4 ds).map λ bs=>.im (.bl (bs.all id))
noncomputable def HV(ds:List D):Option D:=(C4 ds).map λ bs=>.im (.bl (bs.any id))
theorem Ro:RG K false (S6 K) LC:=by
  intro ρ H hd a xs ds Q z hR q r e hQ
  obtain⟨ns,e1,rfl⟩:=Option.map_eq_some_iff.mp e
  rw[Ha e1]at r
  have:=Io r
  subst this
  rcases q with q|⟨q,_⟩
  . exact⟨a,ns,rfl,q,hQ H _ .refl hR (by simp[RD,RI])⟩
  . cases q
theorem Lp:RG K false (S5 K) HV:=by
  intro ρ H hd a xs ds Q z hR q r e hQ
  obtain⟨ns,e1,rfl⟩:=Option.map_eq_some_iff.mp e
  rw[Ha e1]at r
  have:=Io r
  subst this
  rcases q with q|⟨q,_⟩
  . exact⟨a,ns,rfl,q,hQ H _ .refl hR (by simp[RD,RI])⟩
  . cases q
theorem HU{α:Type}{xs:List α}(h:xs ≠ []):0 < xs.length:=by cases xs <;> simp_all
noncomputable def Oh:List D->Hd->Option (D × Hd)
  | [.im (.int i),.im (.int j)],hd=>some (.im (.int (if j > i then j else i)),hd)
  | _,_=>none
noncomputable def Fu:List D->Hd->Option (D × Hd)
  | [.im (.int i),.im (.int j)],hd=>some (.im (.int (if j < i then j else i)),hd)
  | _,_=>none
theorem Jl:RF K (λ xs H Q=>∃ i j,xs=[.int i,.int j]/\Q (.int (if j < i then j else i)) H) Fu:=by
  intro ρ H hd ds vs Q z hd' hR h1 hf hQ
  unfold Fu at hf
  split at hf
  . cases hf
    simp only[RDs,RD,RI]at h1
    obtain⟨x,r,rfl,rfl,y,r2,rfl,rfl,rfl⟩:=h1
    exact⟨_,_,rfl,hQ ρ H _ .refl hR (by simp[RD,RI])⟩
  . cases hf
noncomputable def Ub:List D->Hd->Option (D × Hd)
  | [.im (.int i)],hd=>some (.im (.int (if i < 0 then -i else i)),hd)
  | _,_=>none
noncomputable def Gk(ma:ME):MA:=λ ls hd=>(ma ls hd).bind λ p=>(BI p.2 p.1).map (·,p.2)
theorem PU{t:TE}{m:ME}(h:RE K t m):RN K (tCB (EJ K) (Bh t CN)) (Gk m):=by
  intro ρ σ H hd ls Q d hd' hR hL hm hQ
  obtain⟨⟨d1,h1⟩,e1,hm⟩:=Option.bind_eq_some_iff.mp hm
  obtain⟨w,e2,e3⟩:=Option.map_eq_some_iff.mp hm
  cases e3
  refine h ρ σ H hd ls _ d1 _ hR hL e1 λ ρ1 H1 v x1 R1 r1=>?_
  obtain⟨a,xs,rfl,q,rr⟩:=r1.seq R1 e2
  refine⟨a,xs,rfl,q,λ l hl=>?_⟩
  obtain⟨R2,x2⟩:=R1.hid (ho:=.lst xs) hl
  exact hQ ρ1 _ l xs (x1.trans R1 x2) R2 (x1.none hR hl R1) (R1.out hl) AT (rr.ext R1 x2)
noncomputable def Gj(ml:MA):MA:=ml
theorem ND{t:TE}{m:MA}(h:RN K t m):RN K (tCB (EJ K) (Bh t CN)) (Gj m):=by
  intro ρ σ H hd ls Q d hd' hR hL hm hQ
  refine h ρ σ H hd ls _ d _ hR hL hm λ ρ1 H1 a xs x1 R1 na oa ea r1=>?_
  refine⟨a,xs,rfl,.inl (SqL.of ea),λ l hl=>?_⟩
  obtain⟨R2,x2⟩:=R1.hid (ho:=.lst xs) hl
  exact hQ ρ1 _ l xs (x1.trans R1 x2) R2 (x1.none hR hl R1) (R1.out hl) AT (r1.ext R1 x2)
noncomputable def Do(d:PyData):Prop:=d.showable=true/\d.hasDict=false/\isDisplay d=true/\d.depth <= 30/\d.shown.length <= sizeLine
open Classical in
noncomputable def En:List D->Hd->Option (D × Hd)
  | [d],hd=>match pyD hd d with
    | some p=>if Do p then some (.im (.str p.shown),hd)else none
    | none=>none
  | _,_=>none
theorem Jk:RF K (Kr K) En:=by
  intro ρ H hd ds vs Q z hd' hR h1 hf hQ
  unfold En at hf
  split at hf
  . split at hf
    . next p e=>
      split at hf
      . next c=>
        cases hf
        simp only[RDs]at h1
        obtain⟨x,r,rfl,rx,rfl⟩:=h1
        exact⟨x,p,rfl,Db hR rx e,c.1,c.2.1,c.2.2.1,c.2.2.2.1,c.2.2.2.2,hQ ρ H _ .refl hR (by simp[RD,RI])⟩
      . cases hf
    . cases hf
  . cases hf
noncomputable def El:I->Option V
  | .non=>some .non
  | .bl b=>some (.bl b)
  | .int i=>some (.int i)
  | .str x=>some (.str x)
  | .tup _=>none
noncomputable def C9:List D->Option (List V)
  | []=>some []
  | .im i :: r=>(El i).bind λ v=>(C9 r).map (v :: ·)
  | _ :: _=>none
theorem JN{i:I}{v w:V}(e:El i=some w)(h:RI K H i v):v=w/\Cy w=true:=by
  cases i with
  | tup _=>simp[El]at e
  | _=>simp only[El,Option.some.injEq]at e;subst e;exact⟨by simpa only[RI]using h,rfl⟩
theorem Hn:∀ {ds:List D} {vs ws:List V},C9 ds=some ws->RDs K ρ H ds vs->vs=ws/\ws.all Cy=true
  | [],vs,ws,e,h=>by simp[C9]at e;subst e;simp only[RDs]at h;subst h;exact⟨rfl,rfl⟩
  | .im i :: r,vs,ws,e,h=>by
    simp only[C9]at e
    obtain⟨v,e1,e⟩:=Option.bind_eq_some_iff.mp e
    obtain⟨us,e2,rfl⟩:=Option.map_eq_some_iff.mp e
    simp only[RDs,RD]at h
    obtain⟨x,y,rfl,h1,h2⟩:=h
    obtain⟨rfl,f1⟩:=JN e1 h1
    obtain⟨rfl,f2⟩:=Hn e2 h2
    exact⟨rfl,by simp[f1,f2]⟩
  | .mu _ :: _,_,_,e,_=>by simp[C9]at e
  | .tm _ :: _,_,_,e,_=>by simp[C9]at e
  | .ro _ :: _,_,_,e,_=>by simp[C9]at e
noncomputable def mMt(f:D->List D->Hd->Option (D × Hd))(mo:ME)(ma:MA):ME:=λ ls hd=>(mo ls hd).bind λ p=>match BE p.2 p.1 with
  | some _=>(ma ls p.2).bind λ q=>f p.1 q.1 q.2
  | none=>none
noncomputable def RM(K:PySem.W.Frag)(r:V->List V->Hp->VK->Prop)(f:D->List D->Hd->Option (D × Hd)):Prop:=∀ (ρ:List Addr) (H:Hp) (hd:Hd) (d:D) (v:V) (ds:List D) (vs:List V) (Q:VK) (z:D) (hd':Hd),RH K ρ H hd->RD K ρ H d v->RDs K ρ H ds vs->f d ds hd=some (z,hd') ->
  (∀ ρ' H' w,Ext ρ H ρ' H'->RH K ρ' H' hd'->RD K ρ' H' z w->Q w H')->r v vs H Q
theorem Tj{r:V->List V->Hp->VK->Prop}{f:D->List D->Hd->Option (D × Hd)}{to:TE}{t:TA}{mo:ME}{ma:MA}(hr:RM K r f)(ho:RE K to mo)(ha:RA K t ma):RE K (tBM K "list" r to t) (mMt f mo ma):=by
  intro ρ σ H hd ls Q d hd' hR hL hm hQ
  obtain⟨⟨d1,h1⟩,e1,hm⟩:=Option.bind_eq_some_iff.mp hm
  dsimp only at hm
  split at hm
  . next e=>
    obtain⟨⟨d2,h2⟩,e2,hm⟩:=Option.bind_eq_some_iff.mp hm
    refine ho ρ σ H hd ls _ d1 h1 hR hL e1 λ ρ1 H1 v x1 R1 r1=>⟨?_,?_⟩
    . obtain⟨a,xs,rfl,q,_⟩:=r1.lst R1 e
      exact .inl ⟨rfl,xs,q⟩
    . exact ha ρ1 σ H1 h1 ls _ d2 h2 R1 (hL.ext hR x1) e2 λ ρ2 H2 vs x2 R2 r2=>hr ρ2 H2 h2 d1 v d2 vs Q d hd' R2 (r1.ext R1 x2) r2 hm λ ρ' H' w x3 R3 r3=>hQ ρ' H' w ((x1.trans R1 x2).trans R2 x3) R3 r3
  . cases hm
open Classical in
noncomputable def BS:D->List D->Hd->Option (D × Hd)
  | .mu n,[x],hd=>match hd[n]? with
    | some (.lst ds)=>if Ft ds.length then some (.im .non,hd.set n (.lst (ds ++ [x])))else none
    | _=>none
  | _,_,_=>none
theorem FE:RM K Jq BS:=by
  intro ρ H hd d v ds vs Q z hd' hR h1 h2 hf hQ
  unfold BS at hf
  split at hf
  . split at hf
    . next q=>
      split at hf
      . next c=>
        cases hf
        simp only[RD]at h1
        obtain⟨a,hn,rfl⟩:=h1
        simp only[RDs]at h2
        obtain⟨x,r,rfl,rx,rfl⟩:=h2
        obtain⟨xs,e1,e2⟩:=hR.lst hn q
        obtain⟨R2,x2⟩:=hR.put hn (o:=.lst (_ ++ [_])) (ho:=.lst (xs ++ [x])) ⟨_,rfl,e2.app (.cons rx .nil)⟩
        exact⟨a,xs,x,rfl,rfl,e1,by rw[e2.len];exact c,hQ ρ _ _ x2 R2 (by simp[RD,RI])⟩
      . cases hf
    . cases hf
  . cases hf
end
end L2
namespace L2
open PySem PySem.Spec PyProof.Rows
section
variable{K:PySem.W.Frag}{ρ ρ':List Addr}{H H':Hp}{hd hd':Hd}
noncomputable def BP:MS:=λ ls hd=>some (.nx ls,hd)
theorem Ji:RS K ID BP:=by
  intro ρ σ H hd ls E f hd' hR hL hm hQ
  cases hm
  exact hQ ρ H .refl hR σ hL
noncomputable def AF(a b:MS):MS:=λ ls hd=>(a ls hd).bind λ p=>match p.1 with
  | .nx ls1=>b ls1 p.2
  | f=>some (f,p.2)
theorem Ln{t u:TS}{a b:MS}(ha:RS K t a)(hb:RS K u b):RS K (IT t u) (AF a b):=by
  intro ρ σ H hd ls E f hd' hR hL hm hQ
  obtain⟨⟨f1,h1⟩,e1,hm⟩:=Option.bind_eq_some_iff.mp hm
  refine ha ρ σ H hd ls { E with nx:=u E } f1 h1 hR hL e1 λ ρ1 H1 x1 R1=>?_
  cases f1 with
  | nx ls1=>
    intro σ1 L1
    exact hb ρ1 σ1 H1 h1 ls1 E f hd' R1 L1 hm λ ρ2 H2 x2 R2=>hQ ρ2 H2 (x1.trans R1 x2) R2
  | bk ls1=>cases hm;exact hQ ρ1 H1 x1 R1
  | ct ls1=>cases hm;exact hQ ρ1 H1 x1 R1
  | rt d=>cases hm;exact hQ ρ1 H1 x1 R1
noncomputable def So:MS:=λ ls hd=>some (.bk ls,hd)
noncomputable def U7:MS:=λ ls hd=>some (.ct ls,hd)
noncomputable def Bl(m:ME):MS:=λ ls hd=>(m ls hd).bind λ p=>some (.nx ls,p.2)
theorem PN{t:TE}{m:ME}(h:RE K t m):RS K (Kc t) (Bl m):=by
  intro ρ σ H hd ls E f hd' hR hL hm hQ
  obtain⟨⟨d1,h1⟩,e1,hm⟩:=Option.bind_eq_some_iff.mp hm
  cases hm
  exact h ρ σ H hd ls _ d1 _ hR hL e1 λ ρ1 H1 v x1 R1 r1=>hQ ρ1 H1 x1 R1 σ (hL.ext hR x1)
noncomputable def Ah(m:ME):MS:=λ ls hd=>(m ls hd).bind λ p=>some (.rt p.1,p.2)
theorem Ic{t:TE}{m:ME}(h:RE K t m):RS K (G9 t) (Ah m):=by
  intro ρ σ H hd ls E f hd' hR hL hm hQ
  obtain⟨⟨d1,h1⟩,e1,hm⟩:=Option.bind_eq_some_iff.mp hm
  cases hm
  exact h ρ σ H hd ls _ d1 _ hR hL e1 λ ρ1 H1 v x1 R1 r1=>hQ ρ1 H1 x1 R1 v r1
noncomputable def U2:MS:=λ _ hd=>some (.rt (.im .non),hd)
noncomputable def BT(c:MT)(a b:MS):MS:=λ ls hd=>(c ls hd).bind λ p=>if p.1=true then a ls p.2 else b ls p.2
theorem OJ{tc:TT}{t u:TS}{c:MT}{a b:MS}(hc:RT K tc c)(ha:RS K t a)(hb:RS K u b):RS K (IV tc t u) (BT c a b):=by
  intro ρ σ H hd ls E f hd' hR hL hm hQ
  obtain⟨⟨d1,h1⟩,e1,hm⟩:=Option.bind_eq_some_iff.mp hm
  refine hc ρ σ H hd ls _ d1 h1 hR hL e1 λ ρ1 H1 x1 R1=>?_
  cases d1 with
  | true=>
    rw[if_pos rfl]at hm ⊢
    exact ha ρ1 σ H1 h1 ls E f hd' R1 (hL.ext hR x1) hm λ ρ2 H2 x2 R2=>hQ ρ2 H2 (x1.trans R1 x2) R2
  | false=>
    rw[if_neg Bool.false_ne_true]at hm ⊢
    exact hb ρ1 σ H1 h1 ls E f hd' R1 (hL.ext hR x1) hm λ ρ2 H2 x2 R2=>hQ ρ2 H2 (x1.trans R1 x2) R2
noncomputable def CK:MS:=λ _ _=>none
theorem Ig:RS K GU CK:=by
  intro ρ σ H hd ls E f hd' hR hL hm hQ
  cases hm
noncomputable abbrev MG:=D->Ls->Hd->Option Ls
noncomputable abbrev MGs:=List D->Ls->Hd->Option Ls
noncomputable def RGt(K:PySem.W.Frag)(t:TG)(m:MG):Prop:=∀ (ρ:List Addr) (σ:St) (H:Hp) (hd:Hd) (ls ls':Ls) (d:D) (v:V) (Q:St->Hp->Prop),RH K ρ H hd->RL K ρ H ls σ->RD K ρ H d v->m d ls hd=some ls' ->
  (∀ σ',RL K ρ H ls' σ'->Q σ' H)->t v σ H Q
noncomputable def Jc(K:PySem.W.Frag)(t:TGs)(m:MGs):Prop:=∀ (ρ:List Addr) (σ:St) (H:Hp) (hd:Hd) (ls ls':Ls) (d:List D) (v:List V) (Q:St->Hp->Prop),RH K ρ H hd->RL K ρ H ls σ->RDs K ρ H d v->m d ls hd=some ls' ->
  (∀ σ',RL K ρ H ls' σ'->Q σ' H)->t v σ H Q
theorem RL.set{ls:Ls}{σ:St}{d:D}{v:V}(h:RL K ρ H ls σ)(i:Nat)(r:RD K ρ H d v):RL K ρ H (ls.set i (some d)) (σ.set i (some v)):=by
  refine⟨by simp[h.len],λ j e q=>?_⟩
  by_cases hij:i=j
  . subst hij
    have hl:i < ls.length:=by
      have:=(List.getElem?_eq_some_iff.mp q).1
      simpa using this
    rw[List.getElem?_set_self hl]at q
    cases q
    exact⟨v,by rw[List.getElem?_set_self (by rw[<- h.len];exact hl)],r⟩
  . rw[List.getElem?_set_ne hij]at q
    obtain⟨w,e1,e2⟩:=h.ob j e q
    exact⟨w,by rw[List.getElem?_set_ne hij];exact e1,e2⟩
noncomputable def AU(i:Nat):MG:=λ d ls _=>some (ls.set i (some d))
theorem HG{i:Nat}:RGt K (Ej i) (AU i):=by
  intro ρ σ H hd ls ls' d v Q hR hL hd hm hQ
  cases hm
  exact hQ _ (hL.set i hd)
noncomputable def DN:MGs:=λ ds ls _=>match ds with
  | []=>some ls
  | _=>none
noncomputable def Aw(m:MG)(r:MGs):MGs:=λ ds ls hd=>match ds with
  | d :: es=>(m d ls hd).bind λ ls1=>r es ls1 hd
  | []=>none
theorem Pa:Jc K Ny DN:=by
  intro ρ σ H hd ls ls' d v Q hR hL hd hm hQ
  cases d with
  | nil=>
    simp only[RDs]at hd;subst hd
    cases hm
    exact⟨rfl,hQ _ hL⟩
  | cons a b=>cases hm
theorem NG{t:TG}{u:TGs}{m:MG}{r:MGs}(h:RGt K t m)(h':Jc K u r):Jc K (LM t u) (Aw m r):=by
  intro ρ σ H hd ls ls' d v Q hR hL hd hm hQ
  cases d with
  | nil=>cases hm
  | cons a b=>
    simp only[RDs]at hd
    obtain⟨x,y,rfl,h1,h2⟩:=hd
    obtain⟨ls1,e1,e2⟩:=Option.bind_eq_some_iff.mp hm
    exact⟨x,y,rfl,h ρ σ H _ ls ls1 a x _ hR hL h1 e1 λ σ1 L1=>h' ρ σ1 H _ ls1 ls' b y Q hR L1 h2 e2 hQ⟩
noncomputable def DM(n:Nat)(r:MGs):MG:=λ d ls hd=>(Aa d).bind λ ds=>if ds.length=n then r ds ls hd else none
theorem Rn{n:Nat}{u:TGs}{r:MGs}(h':Jc K u r):RGt K (LK K n u) (DM n r):=by
  intro ρ σ H hd ls ls' d v Q hR hL hd hm hQ
  obtain⟨ds,e1,hm⟩:=Option.bind_eq_some_iff.mp hm
  split at hm
  . next c=>
    obtain⟨a,xs,rfl,q,rr⟩:=hd.tup e1
    exact⟨a,xs,rfl,q,by rw[rr.len];exact c,h' ρ σ H _ ls ls' ds xs Q hR hL rr hm hQ⟩
  . cases hm
noncomputable def FO(m:ME)(g:MG):MS:=λ ls hd=>(m ls hd).bind λ p=>(g p.1 ls p.2).map λ ls'=>(.nx ls',p.2)
theorem Ih{t:TE}{m:ME}{g:TG}{n:MG}(h:RE K t m)(hg:RGt K g n):RS K (Ed t g) (FO m n):=by
  intro ρ σ H hd ls E f hd' hR hL hm hQ
  obtain⟨⟨d1,h1⟩,e1,hm⟩:=Option.bind_eq_some_iff.mp hm
  obtain⟨ls',e2,e3⟩:=Option.map_eq_some_iff.mp hm
  cases e3
  exact h ρ σ H hd ls _ d1 _ hR hL e1 λ ρ1 H1 v x1 R1 r1=>hg ρ1 σ H1 _ ls ls' d1 v _ R1 (hL.ext hR x1) r1 e2 λ σ' L'=>hQ ρ1 H1 x1 R1 σ' L'
noncomputable abbrev Ag(i:Nat)(m:ME):MS:=FO m (AU i)
noncomputable def C2(ix:List Nat)(ma:MA):MS:=λ ls hd=>(ma ls hd).bind λ p=>if p.1.length=ix.length then some (.nx ((ix.zip p.1).foldl (λ l q=>l.set q.1 (some q.2)) ls),p.2)else none
theorem Rg{i j:Nat}{t:TA}{m:MA}(h:RA K t m):RS K (N1 i j t) (C2 [i,j] m):=by
  intro ρ σ H hd ls E f hd' hR hL hm hQ
  obtain⟨⟨d1,h1⟩,e1,hm⟩:=Option.bind_eq_some_iff.mp hm
  dsimp only at hm
  split at hm
  . next c=>
    cases hm
    refine h ρ σ H hd ls _ d1 _ hR hL e1 λ ρ1 H1 v x1 R1 r1=>?_
    match d1,c,r1,hQ with
    | [a,b],_,r1,hQ=>
      simp only[RDs]at r1
      obtain⟨x,r,rfl,ra,y,r2,rfl,rb,rfl⟩:=r1
      exact⟨x,y,rfl,hQ ρ1 H1 x1 R1 _ (((hL.ext hR x1).set i ra).set j rb)⟩
  . cases hm
noncomputable def Fk(i j k:Nat)(ma:MA):MS:=C2 [k,j,i] (λ ls hd=>(ma ls hd).map λ p=>(p.1.reverse,p.2))
theorem PL{i j k:Nat}{t:TA}{m:MA}(h:RA K t m):RS K (Kb i j k t) (Fk i j k m):=by
  intro ρ σ H hd ls E f hd' hR hL hm hQ
  obtain⟨⟨d1,h1⟩,e1,hm⟩:=Option.bind_eq_some_iff.mp hm
  obtain⟨⟨d2,h2⟩,e2,e3⟩:=Option.map_eq_some_iff.mp e1
  cases e3
  dsimp only at hm
  split at hm
  . next c=>
    cases hm
    refine h ρ σ H hd ls _ d2 _ hR hL e2 λ ρ1 H1 v x1 R1 r1=>?_
    have c:d2.length=3:=by simpa using c
    match d2,c,r1,hQ with
    | [a,b,e],_,r1,hQ=>
      simp only[RDs]at r1
      obtain⟨x,r,rfl,ra,y,r2,rfl,rb,z,r3,rfl,rc,rfl⟩:=r1
      exact⟨x,y,z,rfl,hQ ρ1 H1 x1 R1 _ ((((hL.ext hR x1).set k rc).set j rb).set i ra)⟩
  . cases hm
noncomputable abbrev Gd:=List (Nat × List D)
noncomputable abbrev MI:=Ls->Hd->Option ((List D × Gd) × Hd)
noncomputable def GOk(hd:Hd)(g:Gd):Prop:=∀ p ∈ g,hd[p.1]? = some (.lst p.2)
@[simp] theorem Av(hd:Hd):GOk hd []:=λ p h=>by cases h
noncomputable def Gx(K:PySem.W.Frag)(ρ:List Addr)(H:Hp)(J:It)(ds:List D)(g:Gd):Prop:=∀ (ρ2:List Addr) (H2:Hp) (hd2:Hd),Ext ρ H ρ2 H2->RH K ρ2 H2 hd2->GOk hd2 g ->
  ∀ i:Nat,(i < ds.length->J.go i H2/\∀ x H3,J.yld i H2 x H3->∃ ρ3 d,Ext ρ2 H2 ρ3 H3/\ρ3=ρ2/\RH K ρ3 H3 hd2/\ds[i]? = some d/\RD K ρ3 H3 d x)/\(i=ds.length->J.stop i H2)
noncomputable def RIt(K:PySem.W.Frag)(t:TI)(m:MI):Prop:=∀ (ρ:List Addr) (σ:St) (H:Hp) (hd:Hd) (ls:Ls) (Q:It->Hp->Prop) (d:List D) (g:Gd) (hd':Hd),RH K ρ H hd->RL K ρ H ls σ->m ls hd=some ((d,g),hd') ->
  (∀ ρ' H' J,Ext ρ H ρ' H'->RH K ρ' H' hd'->GOk hd' g->Gx K ρ' H' J d g->Q J H')->t σ H Q
theorem KM{a:Addr}{xs:List V}{ds:List D}(hR:RH K ρ H hd)(q:SqT K H a xs)(r:RDs K ρ H ds xs)(g:Gd):Gx K ρ H (Itt K a) ds g:=by
  intro ρ2 H2 hd2 x2 R2 _ i
  have q2:=(x2.grow hR).sq q
  have r2:=r.ext hR x2
  have uniq:∀ ys,SqT K H2 a ys->True:=λ _ _=>trivial
  refine⟨λ hi=>?_,λ hi=>⟨xs,q2,by rw[r2.len,hi];exact Nat.le_refl _⟩⟩
  have e:ds[i]? = some ds[i]:=by simp[hi]
  obtain⟨x,x1,x3⟩:=r2.get e
  refine⟨⟨xs,x,q2,x1⟩,λ y H3 ⟨e3,hy⟩=>?_⟩
  subst e3
  have:=hy xs q2
  rw[x1]at this
  cases this
  exact⟨ρ2,_,.refl,rfl,R2,e,x3⟩
noncomputable def Cg(m:ME):MI:=λ ls hd=>(m ls hd).bind λ p=>(Aa p.1).map λ ds=>((ds,[]),p.2)
theorem Rl{t:TE}{m:ME}(h:RE K t m):RIt K (LH K t) (Cg m):=by
  intro ρ σ H hd ls Q d g hd' hR hL hm hQ
  obtain⟨⟨d1,h1⟩,e1,hm⟩:=Option.bind_eq_some_iff.mp hm
  obtain⟨ds,e2,e3⟩:=Option.map_eq_some_iff.mp hm
  cases e3
  refine h ρ σ H hd ls _ d1 _ hR hL e1 λ ρ1 H1 v x1 R1 r1=>?_
  obtain⟨a,xs,rfl,q,r⟩:=r1.tup e2
  exact⟨a,rfl,⟨xs,q⟩,hQ ρ1 H1 _ x1 R1 (Av _) (KM R1 q r [])⟩
noncomputable def Ds(m:ME):MI:=λ ls hd=>(m ls hd).bind λ p=>match p.1 with
  | .mu n=>match p.2[n]? with
    | some (.lst ds)=>some ((ds,[(n,ds)]),p.2)
    | _=>none
  | .ro ns=>some ((ns.map λ n=>.im (.int n),[]),p.2)
  | _=>none
theorem PZ{t:TE}{m:ME}(h:RE K t m):RIt K (Fp K t) (Ds m):=by
  intro ρ σ H hd ls Q d g hd' hR hL hm hQ
  obtain⟨⟨d1,h1⟩,e1,hm⟩:=Option.bind_eq_some_iff.mp hm
  dsimp only at hm
  split at hm
  . next n=>
    split at hm
    . next ds q=>
      cases hm
      refine h ρ σ H hd ls _ _ _ hR hL e1 λ ρ1 H1 v x1 R1 r1=>?_
      simp only[RD]at r1
      obtain⟨a,hn,rfl⟩:=r1
      obtain⟨xs,e2,e3⟩:=R1.lst hn q
      refine⟨a,rfl,⟨xs,SqL.of e2⟩,hQ ρ1 H1 _ x1 R1 (λ p z=>by simp at z;subst z;exact q) ?_⟩
      intro ρ2 H2 hd2 x2 R2 G2 i
      have q2:=G2 (n,d) (by simp)
      have hn2:ρ2[n]? = some a:=by
        obtain⟨r,rfl,_⟩:=x2.pre
        rw[List.getElem?_append_left (List.getElem?_eq_some_iff.mp hn).1];exact hn
      obtain⟨ys,e4,e5⟩:=R2.lst hn2 q2
      refine⟨λ hi=>?_,λ hi=>⟨ys,SqL.of e4,by rw[e5.len,hi];exact Nat.le_refl _⟩⟩
      have e:d[i]? = some d[i]:=by simp[hi]
      obtain⟨x,y1,y2⟩:=e5.get e
      refine⟨⟨ys,x,SqL.of e4,y1⟩,λ y H3 ⟨e6,hy⟩=>?_⟩
      subst e6
      have:=hy ys (SqL.of e4)
      rw[y1]at this
      cases this
      exact⟨ρ2,_,.refl,rfl,R2,e,y2⟩
    . cases hm
  . next ns=>
    cases hm
    refine h ρ σ H hd ls _ _ _ hR hL e1 λ ρ1 H1 v x1 R1 r1=>?_
    simp only[RD]at r1
    obtain⟨a,rfl,q⟩:=r1
    refine⟨a,rfl,⟨_,q.sq⟩,hQ ρ1 H1 _ x1 R1 (Av _) ?_⟩
    intro ρ2 H2 hd2 x2 R2 G2 i
    have q2:=(q.grow (x2.grow R1)).sq
    have e5:RDs K ρ2 H2 (ns.map λ n=>.im (.int n)) (ns.map V.int):=Fo
    refine⟨λ hi=>?_,λ hi=>⟨_,q2,by rw[e5.len,hi];exact Nat.le_refl _⟩⟩
    have e:(ns.map λ n=>D.im (.int n))[i]? = some ((ns.map λ n=>D.im (.int n))[i]):=by simp[hi]
    obtain⟨x,y1,y2⟩:=e5.get e
    refine⟨⟨_,x,q2,y1⟩,λ y H3 ⟨e6,hy⟩=>?_⟩
    subst e6
    have:=hy _ q2
    rw[y1]at this
    cases this
    exact⟨ρ2,_,.refl,rfl,R2,e,y2⟩
  . cases hm
noncomputable def JH(ml:MA):MI:=λ ls hd=>(ml ls hd).map λ p=>((p.1,[]),p.2)
theorem Rm{t:TE}{m:MA}(h:RN K t m):RIt K (Fp K t) (JH m):=by
  intro ρ σ H hd ls Q d g hd' hR hL hm hQ
  obtain⟨⟨d1,h1⟩,e1,e3⟩:=Option.map_eq_some_iff.mp hm
  obtain⟨⟨rfl,rfl⟩,rfl⟩:=Prod.mk.inj e3 |>.imp Prod.mk.inj id
  clear e3 hm
  refine h ρ σ H hd ls _ _ _ hR hL e1 λ ρ1 H1 a xs x1 R1 na oa ea r1=>?_
  refine⟨a,rfl,⟨xs,SqL.of ea⟩,hQ ρ1 H1 _ x1 R1 (Av _) ?_⟩
  intro ρ2 H2 hd2 x2 R2 G2 i
  have q2:SqL K H2 a xs:=SqL.of (x2.keep a _ ea oa nt)
  have r2:=r1.ext R1 x2
  refine⟨λ hi=>?_,λ hi=>⟨xs,q2,by rw[r2.len,hi];exact Nat.le_refl _⟩⟩
  have hi:i < d1.length:=hi
  have e:d1[i]? = some d1[i]:=by simp[hi]
  obtain⟨x,y1,y2⟩:=r2.get e
  refine⟨⟨xs,x,q2,y1⟩,λ y H3 ⟨e6,hy⟩=>?_⟩
  subst e6
  have:=hy xs q2
  rw[y1]at this
  cases this
  exact⟨ρ2,_,.refl,rfl,R2,e,y2⟩
noncomputable def Aj(lo:Int):Nat->List D
  | 0=>[]
  | n + 1=>.im (.int lo) :: Aj (lo + 1) n
@[simp] theorem GZ(lo:Int)(n:Nat):(Aj lo n).length=n:=by
  induction n generalizing lo with
  | zero=>rfl
  | succ n ih=>simp[Aj,ih]
theorem Kn{n:Nat}:∀ {lo:Int} {i:Nat},i < n->(Aj lo n)[i]? = some (.im (.int (lo + i))):=by
  induction n with
  | zero=>intro lo i h;omega
  | succ n ih=>
    intro lo i h
    cases i with
    | zero=>simp[Aj]
    | succ i=>
      simp only[Aj,List.getElem?_cons_succ]
      rw[ih (by omega)]
      congr 3
      push_cast
      omega
theorem KN{lo:Int}{n:Nat}{g:Gd}:Gx K ρ H (Itr lo n) (Aj lo n) g:=by
  intro ρ2 H2 hd2 x2 R2 G2 i
  refine⟨λ hi=>?_,λ hi=>by rw[hi,GZ];exact Nat.le_refl _⟩
  rw[GZ]at hi
  refine⟨hi,λ x H3 ⟨e1,e2⟩=>?_⟩
  subst e1 e2
  exact⟨ρ2,_,.refl,rfl,R2,Kn hi,by simp[RD,RI]⟩
open Classical in
noncomputable def Dr(m:MA):MI:=λ ls hd=>(m ls hd).bind λ p=>match p.1 with
  | [.im (.int j)]=>if HF j then some ((Aj 0 j.toNat,[]),p.2)else none
  | _=>none
theorem PY{t:TA}{m:MA}(h:RA K t m):RIt K (LI t) (Dr m):=by
  intro ρ σ H hd ls Q d g hd' hR hL hm hQ
  obtain⟨⟨d1,h1⟩,e1,hm⟩:=Option.bind_eq_some_iff.mp hm
  dsimp only at hm
  split at hm
  . next j=>
    split at hm
    . next c=>
      cases hm
      refine h ρ σ H hd ls _ _ _ hR hL e1 λ ρ1 H1 v x1 R1 r1=>?_
      simp only[RDs,RD,RI]at r1
      obtain⟨x,r,rfl,rfl,rfl⟩:=r1
      exact⟨j,rfl,c.1,c.2,hQ ρ1 H1 _ x1 R1 (Av _) KN⟩
    . cases hm
  . cases hm
open Classical in
noncomputable def Oe(m:MA):MI:=λ ls hd=>(m ls hd).bind λ p=>match p.1 with
  | [.im (.int i),.im (.int j)]=>if NC i j then some ((Aj i (j - i).toNat,[]),p.2)else none
  | _=>none
open Classical in
noncomputable def Cf(n:MG)(b:MS)(g:Gd):List D->Ls->Hd->Option (Fl × Hd)
  | [],ls,hd=>some (.nx ls,hd)
  | d :: r,ls,hd=>(n d ls hd).bind λ ls1=>(b ls1 hd).bind λ p=>match p.1 with
    | .nx ls2=>if GOk p.2 g then Cf n b g r ls2 p.2 else none
    | .ct ls2=>if GOk p.2 g then Cf n b g r ls2 p.2 else none
    | .bk ls2=>some (.nx ls2,p.2)
    | .rt d=>some (.rt d,p.2)
noncomputable def DP(mi:MI)(n:MG)(b:MS):MS:=λ ls hd=>(mi ls hd).bind λ p=>Cf n b p.1.2 p.1.1 ls p.2
theorem Rh{wi:TI}{g:TG}{tb:TS}{mi:MI}{n:MG}{b:MS}(hi:RIt K wi mi)(hg:RGt K g n)(hb:RS K tb b):RS K (N4 wi g tb) (DP mi n b):=by
  intro ρ σ H hd ls E f hd' hR hL hm hQ
  obtain⟨⟨⟨ds,gd⟩,h1⟩,e1,hm⟩:=Option.bind_eq_some_iff.mp hm
  refine hi ρ σ H hd ls _ ds gd h1 hR hL e1 λ ρ1 H1 J x1 R1 G1 Y=>?_
  dsimp only at hm
  refine⟨λ i m σ2 H2=>m=ds.length - i/\i <= ds.length/\∃ ρ2 ls2 hd2,Ext ρ1 H1 ρ2 H2/\RH K ρ2 H2 hd2/\RL K ρ2 H2 ls2 σ2/\GOk hd2 gd/\Cf n b gd (ds.drop i) ls2 hd2=some (f,hd'),
    ⟨ds.length,by simp,Nat.zero_le _,ρ1,ls,h1,.refl,R1,hL.ext hR x1,G1,by simpa using hm⟩,?_⟩
  rintro i m σ2 H2 ⟨rfl,hi,ρ2,ls2,hd2,x2,R2,L2',G2,hm2⟩
  obtain⟨Y1,Y2⟩:=Y ρ2 H2 hd2 x2 R2 G2 i
  by_cases hlt:i < ds.length
  . obtain⟨go,Y1⟩:=Y1 hlt
    have ed:ds.drop i=ds[i] :: ds.drop (i + 1):=List.drop_eq_getElem_cons hlt
    rw[ed]at hm2
    unfold Cf at hm2
    obtain⟨ls3,e3,hm2⟩:=Option.bind_eq_some_iff.mp hm2
    obtain⟨⟨fl,hd4⟩,e4,hm2⟩:=Option.bind_eq_some_iff.mp hm2
    refine .inr ⟨go,λ σ' H'=>∃ ρ2 ls2 hd2,Ext ρ1 H1 ρ2 H'/\RH K ρ2 H' hd2/\RL K ρ2 H' ls2 σ'/\GOk hd2 gd/\Cf n b gd (ds.drop (i + 1)) ls2 hd2=some (f,hd'),λ σ' H' z=>⟨ds.length - (i + 1),by omega,rfl,hlt,z⟩,λ x H3 y=>?_⟩
    obtain⟨ρ3,d3,x3,rfl,R3,e5,r3⟩:=Y1 x H3 y
    have e6:d3=ds[i]:=by
      have:ds[i]? = some ds[i]:=by simp[hlt]
      rw[this]at e5;exact(Option.some.inj e5).symm
    subst e6
    refine hg ρ3 σ2 H3 hd2 ls2 ls3 _ x _ R3 (L2'.ext R2 x3) r3 e3 λ σ4 L4=>?_
    refine hb ρ3 σ4 H3 hd2 ls3 _ fl hd4 R3 L4 e4 λ ρ5 H5 x5 R5=>?_
    have x15:=(x2.trans R2 x3).trans R3 x5
    cases fl with
    | nx ls5=>
      intro σ5 L5
      dsimp only at hm2
      split at hm2
      . next c=>exact⟨ρ5,ls5,hd4,x15,R5,L5,c,hm2⟩
      . cases hm2
    | ct ls5=>
      intro σ5 L5
      dsimp only at hm2
      split at hm2
      . next c=>exact⟨ρ5,ls5,hd4,x15,R5,L5,c,hm2⟩
      . cases hm2
    | bk ls5=>
      intro σ5 L5
      cases hm2
      exact hQ ρ5 H5 (x1.trans R1 x15) R5 σ5 L5
    | rt d5=>
      intro v5 r5
      cases hm2
      exact hQ ρ5 H5 (x1.trans R1 x15) R5 v5 r5
  . have e:i=ds.length:=by omega
    subst e
    rw[List.drop_length]at hm2
    unfold Cf at hm2
    cases hm2
    exact .inl ⟨Y2 rfl,hQ ρ2 H2 (x1.trans R1 x2) R2 σ2 L2'⟩
open Classical in
noncomputable def BQ(n:MG)(c:MT)(m:ME)(g:Gd):List D->Ls->Hd->Option (List D × Hd)
  | [],_,hd=>some ([],hd)
  | d :: r,ls,hd=>(n d ls hd).bind λ ls1=>(c ls1 hd).bind λ p=>if p.1=true then(m ls1 p.2).bind λ q=>if GOk q.2 g then(BQ n c m g r ls1 q.2).map λ z=>(q.1 :: z.1,z.2)else none else if GOk p.2 g then BQ n c m g r ls1 p.2 else none
noncomputable def DW(k:Nat)(ix:List Nat)(ls:Ls):Ls:=List.replicate k none ++ ix.map λ i=>(ls[i]?).join
open Classical in
noncomputable def Bm(k:Nat)(ix:List Nat)(mi:MI)(n:MG)(c:MT)(m:ME):MA:=λ ls hd=>(mi ls hd).bind λ p=>if C3 p.1.1.length then BQ n c m p.1.2 p.1.1 (DW k ix ls) p.2 else none
theorem KH{k:Nat}{ix:List Nat}{ls:Ls}{σ:St}(h:RL K ρ H ls σ):RL K ρ H (DW k ix ls) (Es k ix σ):=by
  refine⟨by simp[DW,Es],λ i d e=>?_⟩
  unfold DW at e
  unfold Es
  by_cases hi:i < k
  . rw[List.getElem?_append_left (by simpa using hi),List.getElem?_replicate]at e
    split at e <;> cases e
  . have hi':k <= i:=Nat.not_lt.mp hi
    rw[List.getElem?_append_right (by simpa using hi'),List.length_replicate,List.getElem?_map]at e ⊢
    cases q:ix[i - k]? with
    | none=>rw[q]at e;cases e
    | some j=>
      rw[q]at e
      simp only[Option.map_some,Option.some.injEq]at e ⊢
      have e5:ls[j]? = some (some d):=by
        cases w:ls[j]? with
        | none=>rw[w]at e;cases e
        | some z=>rw[w]at e;simpa using e
      obtain⟨v,e6,e7⟩:=h.ob j d e5
      exact⟨v,by rw[e6];rfl,e7⟩
theorem PV{k:Nat}{ix:List Nat}{wi:TI}{g:TG}{tf:TT}{te:TE}{mi:MI}{n:MG}{c:MT}{m:ME}(hi:RIt K wi mi)(hg:RGt K g n)(hf:RT K tf c)(he:RE K te m):RN K (Kd k ix wi g tf te) (Bm k ix mi n c m):=by
  intro ρ σ H hd ls Q out hd' hR hL hm hQ
  obtain⟨⟨⟨ds,gd⟩,h1⟩,e1,hm⟩:=Option.bind_eq_some_iff.mp hm
  dsimp only at hm
  split at hm
  . next hlen=>
    have hlen:ds.length <= sizeLine:=hlen
    refine hi ρ σ H hd ls _ ds gd h1 hR hL e1 λ ρ1 H1 J x1 R1 G1 Y=>?_
    intro Da hDa
    obtain⟨R1',x1'⟩:=R1.hid (ho:=.lst []) hDa
    have oD:Da ∉ ρ1:=R1.out hDa
    have nD:H Da=none:=x1.none hR hDa R1
    refine⟨λ i mm σ2 ys H2=>mm=ds.length - i/\i <= ds.length/\∃ ρ2 ls2 hd2 es rest,Ext ρ1 (upd H1 Da (.lst ys)) ρ2 H2/\Ext ρ1 H1 ρ2 H2/\Da ∉ ρ2/\H2 Da=some (.lst ys)/\RH K ρ2 H2 hd2/\RL K ρ2 H2 ls2 σ2/\RDs K ρ2 H2 es ys/\es.length <= i/\GOk hd2 gd/\BQ n c m gd (ds.drop i) ls2 hd2=some (rest,hd')/\out=es ++ rest,
      ⟨ds.length,by simp,Nat.zero_le _,ρ1,_,h1,[],out,.refl,x1',oD,AT,R1',(KH ((hL.ext hR x1).ext R1 x1')),.nil,Nat.le_refl _,G1,by simpa using hm,rfl⟩,?_⟩
    rintro i mm σ2 ys H2 ⟨rfl,hi,ρ2,ls2,hd2,es,rest,x2',x2,oD2,hD2,R2,L2',r2,hle,G2,hm2,rfl⟩
    refine⟨hD2,?_⟩
    obtain⟨Y1,Y2⟩:=Y ρ2 H2 hd2 x2 R2 G2 i
    by_cases hlt:i < ds.length
    . obtain⟨go,Y1⟩:=Y1 hlt
      have ed:ds.drop i=ds[i] :: ds.drop (i + 1):=List.drop_eq_getElem_cons hlt
      rw[ed]at hm2
      unfold BQ at hm2
      obtain⟨ls3,e3,hm2⟩:=Option.bind_eq_some_iff.mp hm2
      obtain⟨⟨bb,hd4⟩,e4,hm2⟩:=Option.bind_eq_some_iff.mp hm2
      refine .inr ⟨go,Nat.lt_of_le_of_lt (by rw[r2.len];exact hle) (by omega),λ σ' ys' H'=>∃ ρ2 ls2 hd2 es' rest',Ext ρ1 (upd H1 Da (.lst ys')) ρ2 H'/\Ext ρ1 H1 ρ2 H'/\Da ∉ ρ2/\H' Da=some (.lst ys')/\RH K ρ2 H' hd2/\RL K ρ2 H' ls2 σ'/\RDs K ρ2 H' es' ys'/\es'.length <= i + 1/\GOk hd2 gd/\BQ n c m gd (ds.drop (i + 1)) ls2 hd2=some (rest',hd')/\es ++ rest=es' ++ rest',λ σ' ys' H' z=>⟨ds.length - (i + 1),by omega,rfl,hlt,z⟩,λ x H3 y=>?_⟩
      obtain⟨ρ3,d3,x3,rfl,R3,e5,r3⟩:=Y1 x H3 y
      have e6:d3=ds[i]:=by
        have:ds[i]? = some ds[i]:=by simp[hlt]
        rw[this]at e5;exact(Option.some.inj e5).symm
      subst e6
      refine hg ρ3 σ2 H3 hd2 ls2 ls3 _ x _ R3 (L2'.ext R2 x3) r3 e3 λ σ4 L4=>?_
      refine hf ρ3 σ4 H3 hd2 ls3 _ bb hd4 R3 L4 e4 λ ρ5 H5 x5 R5=>?_
      have hD5:H5 Da=some (.lst ys):=x5.keep Da _ (x3.keep Da _ hD2 oD2 nt) oD2 nt
      have out5:Da ∉ ρ5:=by
        obtain⟨r,rfl,fr⟩:=x5.pre
        intro z
        rcases List.mem_append.mp z with z|z
        . exact oD2 z
        . have:=fr _ z
          rw[x3.keep Da _ hD2 oD2 nt]at this;cases this
      cases bb with
      | false=>
        rw[if_neg Bool.false_ne_true]at hm2 ⊢
        have y25:=x3.trans R3 x5
        split at hm2
        . next g5=>exact⟨ρ5,ls3,hd4,es,rest,x2'.trans R2 y25,(x2.trans R2 y25),out5,hD5,R5,L4.ext R3 x5,(r2.ext R2 y25),by omega,g5,hm2,rfl⟩
        . cases hm2
      | true=>
        rw[if_pos rfl]at hm2 ⊢
        obtain⟨⟨z,hd6⟩,e6,hm2⟩:=Option.bind_eq_some_iff.mp hm2
        obtain⟨g6,hm2⟩:GOk hd6 gd/\((BQ n c m gd (ds.drop (i + 1)) ls3 hd6).map λ q=>(z :: q.1,q.2))=some (rest,hd'):=by
          dsimp only at hm2
          split at hm2
          . next g6=>exact⟨g6,hm2⟩
          . cases hm2
        obtain⟨⟨zs,hd7⟩,e7,e8⟩:=Option.map_eq_some_iff.mp hm2
        cases e8
        refine he ρ5 σ4 H5 hd4 ls3 _ z hd6 R5 (L4.ext R3 x5) e6 λ ρ6 H6 v6 x6 R6 r6=>?_
        have hD6:H6 Da=some (.lst ys):=x6.keep Da _ hD5 out5 nt
        have out6:Da ∉ ρ6:=by
          obtain⟨r,rfl,fr⟩:=x6.pre
          intro z
          rcases List.mem_append.mp z with z|z
          . exact out5 z
          . have:=fr _ z
            rw[hD5]at this;cases this
        refine⟨hD6,?_⟩
        have y26:=(x3.trans R3 x5).trans R5 x6
        have gr:Grow H6 (upd H6 Da (.lst (ys ++ [v6]))):=Grow.refl.put (.lst hD6)
        have R7:=R6.hput (ho:=.lst (ys ++ [v6])) out6 hD6
        have x12:=x2.trans R2 y26
        have ext7:Ext ρ1 H1 ρ6 (upd H6 Da (.lst (ys ++ [v6]))):=⟨x12.pre,λ b o q nb t=>by
          have:b ≠ Da:=AS q hDa
          rw[AE this];exact x12.keep b o q nb t,λ b ps q=>by
          have:b ≠ Da:=AS q hDa
          rw[AE this];exact x12.tab b ps q⟩
        have ext8:Ext ρ1 (upd H1 Da (.lst (ys ++ [v6]))) ρ6 (upd H6 Da (.lst (ys ++ [v6]))):=by
          obtain⟨r,er,fr⟩:=x12.pre
          refine⟨⟨r,er,λ b hb=>?_⟩,λ b o q nb t=>?_,λ b ps q=>?_⟩
          . have:b ≠ Da:=λ z=>out6 (by rw[er,<- z];exact List.mem_append_right _ hb)
            rw[AE this];exact fr b hb
          . by_cases hb:b=Da
            . subst hb;rw[AT]at q ⊢;exact q
            . rw[AE hb]at q ⊢;exact x12.keep b o q nb t
          . by_cases hb:b=Da
            . subst hb;rw[AT]at q;cases q
            . rw[AE hb]at q ⊢;exact x12.tab b ps q
        refine⟨ρ6,ls3,hd6,es ++ [z],zs,ext8,ext7,out6,AT,R7,?_,?_,by simp;omega,g6,e7,by simp⟩
        . have L6:=(L4.ext R3 x5).ext R5 x6
          exact⟨L6.len,λ i d e=>let ⟨v,a,b⟩:=L6.ob i d e;⟨v,a,by simpa using b.mono gr []⟩⟩
        . have:=((r2.ext R2 y26).app (.cons r6 .nil)).mono gr []
          simpa using this
    . have e:i=ds.length:=by omega
      subst e
      rw[List.drop_length]at hm2
      unfold BQ at hm2
      cases hm2
      refine .inl ⟨Y2 rfl,?_⟩
      exact hQ ρ2 H2 Da ys (x1.trans R1 x2) R2 nD oD2 hD2 (by simpa using r2)
  . cases hm
end
end L2
namespace L2
open PySem PySem.Spec PyProof.Rows
mutual
noncomputable def clD(w:Nat):D->Bool
  | .im _=>true
  | .mu n=>decide (n < w)
  | .tm ds=>BG w ds
  | .ro _=>true
noncomputable def BG(w:Nat):List D->Bool
  | []=>true
  | d :: ds=>clD w d && BG w ds
end
noncomputable def Er(w:Nat):List (Key × D)->Bool
  | []=>true
  | d :: ds=>clD w d.2 && Er w ds
noncomputable def clO(w:Nat):MO->Bool
  | .lst ds=>BG w ds
  | .dic ds=>Er w ds
section
variable{K:PySem.W.Frag}{ρ ρ' ρ1:List Addr}{H H' H1:Hp}{hd hd' h1 h2:Hd}
@[simp] theorem Qq{w:Nat}(is:List I):BG w (is.map .im)=true:=by induction is <;> simp_all [BG,clD]
mutual
theorem RD.take(w:Nat):∀ {d:D} {v:V},RD K ρ H d v->clD w d=true->RD K (ρ.take w) H d v
  | .im i,v,h,_=>by simp only[RD]at h ⊢;exact h
  | .mu n,v,h,c=>by
    simp only[RD]at h ⊢
    obtain⟨a,e,q⟩:=h
    exact⟨a,by rw[List.getElem?_take_of_lt (by simpa [clD]using c)];exact e,q⟩
  | .tm ds,v,h,c=>by
    simp only[RD]at h ⊢
    obtain⟨a,xs,e,q,z⟩:=h
    exact⟨a,xs,e,q,RDs.take' w z (by simpa [clD]using c)⟩
  | .ro ns,v,h,c=>by simp only[RD]at h ⊢;exact h
theorem RDs.take'(w:Nat):∀ {d:List D} {v:List V},RDs K ρ H d v->BG w d=true->RDs K (ρ.take w) H d v
  | [],v,h,_=>by simpa only[RDs]using h
  | d :: ds,v,h,c=>by
    simp only[RDs]at h ⊢
    obtain⟨x,r',e,q,z⟩:=h
    have c:clD w d=true/\BG w ds=true:=by simpa [BG]using c
    exact⟨x,r',e,q.take w c.1,RDs.take' w z c.2⟩
end
theorem RKs.take(w:Nat):∀ {d:List (Key × D)} {v:List (Key × V)},RKs K ρ H d v->Er w d=true->RKs K (ρ.take w) H d v
  | [],v,h,_=>by simpa only[RKs]using h
  | d :: ds,v,h,c=>by
    simp only[RKs]at h ⊢
    obtain⟨x,r',e,q1,q,z⟩:=h
    have c:clD w d.2=true/\Er w ds=true:=by simpa [Er]using c
    exact⟨x,r',e,q1,q.take w c.1,RKs.take w z c.2⟩
theorem RC.take(w:Nat){o:MO}{ho:HO}(h:RC K ρ H o ho)(c:clO w o=true):RC K (ρ.take w) H o ho:=by
  cases o with
  | lst ds=>obtain⟨xs,e,q⟩:=h;exact⟨xs,e,q.take' w c⟩
  | dic ds=>obtain⟨xs,e,q⟩:=h;exact⟨xs,e,q.take w c⟩
theorem RH.take(h:RH K ρ H hd)(w:Nat)(c:(hd.take w).all (clO w)=true):RH K (ρ.take w) H (hd.take w):=by
  refine⟨by simp[h.len],h.nd.sublist (List.take_sublist _ _),h.tabs,λ n o a e1 e2=>?_⟩
  have co:=List.all_eq_true.mp c o (List.mem_of_getElem? e1)
  have hn:n < w:=by
    have:=(List.getElem?_eq_some_iff.mp e1).1
    simp at this;omega
  rw[List.getElem?_take_of_lt hn]at e1 e2
  obtain⟨ho,q1,q2⟩:=h.ob n o a e1 e2
  exact⟨ho,q1,q2.take w co⟩
theorem RH.back(R1:RH K ρ1 H1 h1){w:Nat}(hw:w <= h1.length)(c1:(h1.take w).all (clO w)=true)(x:Ext (ρ1.take w) H1 ρ' H')(R':RH K ρ' H' h2)(c:(h2.take w).all (clO w)=true) :
    RH K ρ1 H' (h2.take w ++ h1.drop w)/\Ext ρ1 H1 ρ1 H'/\ρ'.take w=ρ1.take w:=by
  obtain⟨r,rfl,fr⟩:=x.pre
  have lw:(ρ1.take w).length=w:=by rw[List.length_take,R1.len];omega
  have l2:w <= h2.length:=by rw[<- R'.len];simp[lw]
  have tk:(ρ1.take w ++ r).take w=ρ1.take w:=by rw[List.take_append_of_le_length (by omega),List.take_take];simp
  refine⟨⟨?_,R1.nd,R'.tabs,λ n o a e1 e2=>?_⟩,⟨⟨[],by simp,by simp⟩,λ b o q nb t=>x.keep b o q (λ m=>nb (List.mem_of_mem_take m)) t,x.tab⟩,tk⟩
  . rw[List.length_append,List.length_take,List.length_drop,R1.len];omega
  . by_cases hn:n < w
    . rw[List.getElem?_append_left (by rw[List.length_take];omega),List.getElem?_take_of_lt hn]at e1
      have e3:(ρ1.take w ++ r)[n]? = some a:=by
        rw[List.getElem?_append_left (by omega),List.getElem?_take_of_lt hn];exact e2
      obtain⟨ho,q1,q2⟩:=R'.ob n o a e1 e3
      have co:=List.all_eq_true.mp c o (by
        have:(h2.take w)[n]? = some o:=by rw[List.getElem?_take_of_lt hn];exact e1
        exact List.mem_of_getElem? this)
      have q3:=q2.take w co
      rw[tk]at q3
      have q4:=q3.mono (Grow.refl (H:=H')) (ρ1.drop w)
      rw[List.take_append_drop]at q4
      exact⟨ho,q1,q4⟩
    . rw[List.getElem?_append_right (by rw[List.length_take];omega),List.length_take,List.getElem?_drop]at e1
      have e1:h1[n]? = some o:=by
        have:w + (n - min w h2.length)=n:=by omega
        rw[this]at e1;exact e1
      obtain⟨ho,q1,q2⟩:=R1.ob n o a e1 e2
      have out:a ∉ ρ1.take w:=λ m=>by
        obtain⟨k,hk⟩:=List.mem_iff_getElem?.mp m
        have kw:k < w:=by
          have:=(List.getElem?_eq_some_iff.mp hk).1
          rw[lw]at this;exact this
        rw[List.getElem?_take_of_lt kw]at hk
        have:=(List.getElem?_inj (List.getElem?_eq_some_iff.mp e2).1 R1.nd).mp (e2.trans hk.symm)
        omega
      have gr:=x.grow (R1.take w c1)
      exact⟨ho,x.keep a ho q1 out (λ ps z=>by rcases R1.mut (List.mem_of_getElem? e2)with⟨y,w⟩|⟨y,w⟩ <;> (rw[q1,z]at w;cases w)),by simpa using q2.mono gr []⟩
noncomputable def spF(K:PySem.W.Frag)(k:Nat)(F:List D->Hd->Option (D × Hd)):Sp:=λ vs H Q _=>vs.length=k/\∃ (ρ:List Addr) (hd:Hd) (ds:List D) (d:D) (hd':Hd),RH K ρ H hd/\RDs K ρ H ds vs/\F ds hd=some (d,hd') /\
  ∀ ρ' H' v,Ext ρ H ρ' H'->RH K ρ' H' hd'->RD K ρ' H' d v->Q v H'
noncomputable def mkF(k n:Nat)(m:MS):List D->Hd->Option (D × Hd):=λ ds hd=>if ds.length=k then(match m (ds.map some ++ List.replicate (n - k) none) hd with
  | some (.rt d,hd')=>some (d,hd')
  | some (.nx _,hd')=>some (.im .non,hd')
  | _=>none)else none
theorem GC{N:List Str}:∀ {ds:List D} {vs:List V},RDs K ρ H ds vs->RL K ρ H (ds.map some ++ List.replicate (N.length - ds.length) none) (CC N vs):=by
  intro ds vs r
  have hl:=r.len
  refine⟨by simp[CC,hl],λ i d e=>?_⟩
  unfold CC
  by_cases hi:i < ds.length
  . rw[List.getElem?_append_left (by simpa using hi),List.getElem?_map]at e
    have e':ds[i]? = some d:=by
      cases q:ds[i]? with
      | none=>rw[q]at e;cases e
      | some z=>rw[q]at e;simpa using e
    obtain⟨x,x1,x2⟩:=r.get e'
    exact⟨x,by rw[List.getElem?_append_left (by rw[List.length_map,hl];exact hi),List.getElem?_map,x1];rfl,x2⟩
  . rw[List.getElem?_append_right (by simpa using Nat.not_lt.mp hi),List.getElem?_replicate]at e
    split at e <;> cases e
theorem P7{k:Nat}{N:List Str}{m:MS}{t:TS}(h:RS K t m){vs:List V}{H:Hp}{Q:VK}{E:XK}(s:spF K k (mkF k N.length m) vs H Q E):t { nx:=λ _ H'=>Q .non H',rt:=Q } (CC N vs) H:=by
  obtain⟨hk,ρ,hd,ds,d,hd',hR,hr,hF,hQ⟩:=s
  unfold mkF at hF
  split at hF
  . next hl=>
    subst hl
    split at hF
    . next q=>
      cases hF
      exact h ρ _ H hd _ _ _ _ hR (GC hr) q λ ρ' H' x R v r=>hQ ρ' H' v x R r
    . next q=>
      cases hF
      exact h ρ _ H hd _ _ _ _ hR (GC hr) q λ ρ' H' x R σ L=>hQ ρ' H' .non x R (by simp[RD,RI])
    . cases hF
  . cases hF
noncomputable def EU(F:List D->Hd->Option (D × Hd))(ma:MA):ME:=λ ls hd=>(ma ls hd).bind λ p=>F p.1 p.2
theorem NK{k:Nat}{F:List D->Hd->Option (D × Hd)}{t:TA}{m:MA}(h:RA K t m)(hk:∀ ds hd z,F ds hd=some z->ds.length=k):RE K (E1 (spF K k F) [] E0 t) (EU F m):=by
  intro ρ σ H hd ls Q d hd' hR hL hm hQ
  obtain⟨⟨d1,h1⟩,e1,hm⟩:=Option.bind_eq_some_iff.mp hm
  refine h ρ σ H hd ls _ d1 h1 hR hL e1 λ ρ1 H1 v1 x1 R1 r1=>?_
  rw[List.append_nil]
  exact⟨by rw[r1.len];exact hk _ _ _ hm,ρ1,h1,d1,d,hd',R1,r1,hm,λ ρ' H' w x2 R2 r2=>hQ ρ' H' w (x1.trans R1 x2) R2 r2⟩
theorem AK{k n:Nat}{m:MS}:∀ ds hd z,mkF k n m ds hd=some z->ds.length=k:=λ ds hd z h=>by
  unfold mkF at h
  split at h
  . next e=>exact e
  . cases h
noncomputable def fin(w:Nat)(d:D)(h2 rest:Hd):Option (D × Hd):=if(h2.take w).all (clO w)=true then(match d with
    | .mu k=>if k < w then some (.mu k,h2.take w ++ rest)else(match h2[k]? with
      | some (.lst ds)=>if BG w ds=true then some (.mu (w + rest.length),h2.take w ++ rest ++ [.lst ds])else none
      | _=>none)
    | d=>if clD w d=true then some (d,h2.take w ++ rest)else none)else none
noncomputable def AC(w:Nat)(F:List D->Hd->Option (D × Hd))(ma:MA):ME:=λ ls hd=>(ma ls hd).bind λ p=>
  if w <= p.2.length/\BG w p.1=true/\(p.2.take w).all (clO w)=true then(F p.1 (p.2.take w)).bind λ r=>fin w r.1 r.2 (p.2.drop w)else none
theorem Im{w k:Nat}{F:List D->Hd->Option (D × Hd)}{t:TA}{m:MA}(h:RA K t m)(hk:∀ ds hd z,F ds hd=some z->ds.length=k):RE K (E1 (spF K k F) [] E0 t) (AC w F m):=by
  intro ρ σ H hd ls Q d hd' hR hL hm hQ
  obtain⟨⟨d1,h1⟩,e1,hm⟩:=Option.bind_eq_some_iff.mp hm
  dsimp only at hm
  split at hm
  . next c=>
    obtain⟨c0,c1,c2⟩:=c
    obtain⟨⟨d2,h2⟩,e2,hm⟩:=Option.bind_eq_some_iff.mp hm
    refine h ρ σ H hd ls _ d1 h1 hR hL e1 λ ρ1 H1 v1 x1 R1 r1=>?_
    rw[List.append_nil]
    refine⟨by rw[r1.len];exact hk _ _ _ e2,ρ1.take w,h1.take w,d1,d2,h2,R1.take w c2,r1.take' w c1,e2,λ ρ' H' v x2 R2 r2=>?_⟩
    unfold fin at hm
    dsimp only at hm
    split at hm
    . next c3=>
      obtain⟨R3,x3,tk⟩:=R1.back c0 c2 x2 R2 c3
      have up:∀ {d:D} {v:V},RD K ρ' H' d v->clD w d=true->RD K ρ1 H' d v:=λ r c=>by
        have q:=r.take w c
        rw[tk]at q
        have q:=q.mono (Grow.refl (H:=H')) (ρ1.drop w)
        rw[List.take_append_drop]at q
        exact q
      have ups:∀ {d:List D} {v:List V},RDs K ρ' H' d v->BG w d=true->RDs K ρ1 H' d v:=λ r c=>by
        have q:=r.take' w c
        rw[tk]at q
        have q:=q.mono (Grow.refl (H:=H')) (ρ1.drop w)
        rw[List.take_append_drop]at q
        exact q
      split at hm
      . next k'=>
        split at hm
        . next hk'=>
          cases hm
          exact hQ ρ1 H' v (x1.trans R1 x3) R3 (up r2 (by simpa [clD]using hk'))
        . next hk'=>
          split at hm
          . next ds q=>
            split at hm
            . next c4=>
              cases hm
              simp only[RD]at r2
              obtain⟨a,ea,rfl⟩:=r2
              obtain⟨xs,l1,l2⟩:=R2.lst ea q
              have len3:=R3.len
              have out:a ∉ ρ1:=λ m=>by
                -- a is one of those made behind the first w
                obtain⟨r,er,fr⟩:=x2.pre
                have lw:(ρ1.take w).length=w:=by rw[List.length_take,R1.len];omega
                have ma:a ∈ r:=by
                  rw[er,List.getElem?_append_right (by rw[lw];omega)]at ea
                  exact List.mem_of_getElem? ea
                exact R1.out (fr a ma) m
              have na:H1 a=none:=by
                obtain⟨r,er,fr⟩:=x2.pre
                have lw:(ρ1.take w).length=w:=by rw[List.length_take,R1.len];omega
                have ma:a ∈ r:=by
                  rw[er,List.getElem?_append_right (by rw[lw];omega)]at ea
                  exact List.mem_of_getElem? ea
                exact fr a ma
              refine hQ (ρ1 ++ [a]) H' _ (x1.trans R1 (x3.name na)) (R3.name out l1 (ups l2 c4)) ?_
              simp only[RD]
              refine⟨a,?_,rfl⟩
              have:w + (List.drop w h1).length=ρ1.length:=by rw[List.length_drop,R1.len];omega
              rw[this];simp
            . cases hm
          . cases hm
      . next d' nd=>
        split at hm
        . next c4=>cases hm;exact hQ ρ1 H' v (x1.trans R1 x3) R3 (up r2 c4)
        . cases hm
    . cases hm
  . cases hm
noncomputable def RU(kvs:List (Key × D))(k:Key):Option D:=(kvs.find? λ kv=>decide (kv.1=k)).map (·.2)
noncomputable def Na(kvs:List (Key × D))(k:Key)(v:D):List (Key × D):=
  if(kvs.any λ kv=>decide (kv.1=k))=true then kvs.map (λ kv=>if kv.1=k then(kv.1,v)else kv)else kvs ++ [(k,v)]
noncomputable def FT:D->Option Key
  | .im (.int i)=>some (.inl i)
  | .im (.str x)=>some (.inr x)
  | _=>none
noncomputable def HZ(hd:Hd):D->Option (List (Key × D))
  | .mu n=>match hd[n]? with
    | some (.dic kvs)=>some kvs
    | _=>none
  | _=>none
noncomputable def UA:D->D->Hd->Option (D × Hd):=λ d e hd=>(HZ hd d).bind λ kvs=>(FT e).bind λ k=>(RU kvs k).map (·,hd)
open Classical in
noncomputable def U5(md my mv:ME):MS:=λ ls hd=>(mv ls hd).bind λ p=>(md ls p.2).bind λ q=>(my ls q.2).bind λ r=>(FT r.1).bind λ k=>match q.1 with
  | .mu n=>match r.2[n]? with
    | some (.dic kvs)=>if Ft kvs.length then some (.nx ls,r.2.set n (.dic (Na kvs k p.1)))else none
    | _=>none
  | _=>none
noncomputable def ES:List (ME × ME)->Ls->Hd->Option (List (Key × D) × Hd)
  | [],_,hd=>some ([],hd)
  | (mk,mv) :: r,ls,hd=>(mk ls hd).bind λ p=>(mv ls p.2).bind λ q=>(ES r ls q.2).bind λ z=>(FT p.1).map λ k=>((k,q.1) :: z.1,z.2)
noncomputable def M9(kvs more:List (Key × D)):List (Key × D):=more.foldl (λ acc kv=>Na acc kv.1 kv.2) kvs
noncomputable def U4(ms:List (ME × ME)):ME:=λ ls hd=>(ES ms ls hd).bind λ p=>if p.1.length <= 15 then some (.mu p.2.length,p.2 ++ [.dic (M9 [] p.1)])else none
noncomputable def E7(mo mi mv:ME):MS:=λ ls hd=>(mv ls hd).bind λ p=>(mo ls p.2).bind λ q=>(mi ls q.2).bind λ r=>match q.1,r.1 with
  | .mu n,.im (.int i)=>match r.2[n]? with
    | some (.lst ds)=>(ixN ds.length i).map λ j=>(.nx ls,r.2.set n (.lst (ds.set j p.1)))
    | _=>none
  | _,_=>none
theorem PM{to ti tv:TE}{mo mi mv:ME}(ho:RE K to mo)(hi:RE K ti mi)(hv:RE K tv mv):RS K (Ed tv (Nx to ti Kq)) (E7 mo mi mv):=by
  intro ρ σ H hd0 ls E f hd' hR hL hm hQ
  obtain⟨⟨d1,h1⟩,e1,hm⟩:=Option.bind_eq_some_iff.mp hm
  obtain⟨⟨d2,h2⟩,e2,hm⟩:=Option.bind_eq_some_iff.mp hm
  obtain⟨⟨d3,h3⟩,e3,hm⟩:=Option.bind_eq_some_iff.mp hm
  dsimp only at hm
  split at hm
  . split at hm
    . next q=>
      obtain⟨j,e4,e5⟩:=Option.map_eq_some_iff.mp hm
      cases e5
      refine hv ρ σ H hd0 ls _ d1 h1 hR hL e1 λ ρ1 H1 v1 x1 R1 r1=>?_
      refine ho ρ1 σ H1 h1 ls _ _ h2 R1 (hL.ext hR x1) e2 λ ρ2 H2 v2 x2 R2 r2=>?_
      refine hi ρ2 σ H2 h2 ls _ _ _ R2 (hL.ext hR (x1.trans R1 x2)) e3 λ ρ3 H3 v3 x3 R3 r3=>?_
      have r2:=r2.ext R2 x3
      simp only[RD]at r2
      obtain⟨a,hn,rfl⟩:=r2
      simp only[RD,RI]at r3
      subst r3
      obtain⟨xs,l1,l2⟩:=R3.lst hn q
      obtain⟨R4,x4⟩:=R3.put hn (o:=.lst _) (ho:=.lst (xs.set j v1)) ⟨_,rfl,l2.set j ((r1.ext R1 x2).ext R2 x3)⟩
      have x13:=(x1.trans R1 x2).trans R2 x3
      exact⟨a,xs,_,j,rfl,rfl,l1,by rw[l2.len];exact e4,hQ ρ3 _ (x13.trans R3 x4) R4 σ ((hL.ext hR x13).ext R3 x4)⟩
    . cases hm
  . cases hm
end
end L2
namespace L2
open PySem PySem.Spec PyProof.Rows
structure QG(K:PySem.W.Frag)(X:Cx)(e:Expr)(t:TG)(m:MG):Prop where
  p:PG X e t
  r:RGt K t m
structure QGs(K:PySem.W.Frag)(X:Cx)(e:List Expr)(t:TGs)(m:MGs):Prop where
  p:PGs X e t
  r:Jc K t m
structure QI(K:PySem.W.Frag)(X:Cx)(tg e:Expr)(t:TI)(m:MI):Prop where
  p:PI X tg e t
  r:RIt K t m
structure QF(K:PySem.W.Frag)(X:Cx)(e:List Expr)(t:TT)(m:MT):Prop where
  p:PF X e t
  r:RT K t m
structure QO(K:PySem.W.Frag)(X:Cx)(e:Option Expr)(t:TO)(m:MO1):Prop where
  p:PO X e t
  r:RO1 K t m
noncomputable def Om(a b:List D):Prop:=a ≠ []/\C3 (a.length + b.length)
open Classical in
noncomputable def Ek:D->D->Hd->Option (D × Hd):=λ d e hd=>(Aa d).bind λ a=>(Aa e).bind λ b=>if Om a b then some (Ax (a ++ b),hd)else none
theorem AY{K:PySem.W.Frag}:RB K (Ks K) Ek:=by
  intro ρ H hd d e v u Q z hd' hR h1 h2 hf hQ
  unfold Ek at hf
  obtain⟨a,e1,hf⟩:=Option.bind_eq_some_iff.mp hf
  obtain⟨b,e2,hf⟩:=Option.bind_eq_some_iff.mp hf
  split at hf
  . next c=>
    cases hf
    obtain⟨p,xs,rfl,q1,r1⟩:=h1.tup e1
    obtain⟨p2,ys,rfl,q2,r2⟩:=h2.tup e2
    have l1:=r1.len;have l2:=r2.len
    refine⟨p,p2,xs,ys,rfl,rfl,q1,q2,λ z=>c.1 (by rw[z]at l1;simpa using l1.symm),by rw[l1,l2];exact c.2,λ z=>?_,λ _ p3 hp=>?_⟩
    . have:b=[]:=by rw[z]at l2;simpa using l2.symm
      subst this
      exact hQ ρ H _ .refl hR (by rw[List.append_nil];exact C8 q1 r1)
    . obtain⟨R2,x2⟩:=hR.hid (ho:=.tup (xs ++ ys)) hp
      exact hQ ρ _ _ x2 R2 (C8 (SqT.of AT) ((r1.app r2).ext hR x2))
  . cases hf
noncomputable abbrev Ab:=Ep HY Ek
noncomputable def FN(neg:Bool)(m:ME):ME:=λ ls hd=>(m ls hd).bind λ p=>some (.im (.bl (match p.1 with
  | .im .non=>!neg
  | _=>neg)),p.2)
theorem UY{K:PySem.W.Frag}{ρ:List Addr}{H:Hp}{d:D}{v:V}(h:RD K ρ H d v):decide (v=.non)=(match d with | .im .non=>true|_=>false):=by
  cases d with
  | im i=>
    cases i with
    | non=>simp only[RD,RI]at h;subst h;rfl
    | tup is=>simp only[RD,RI]at h;obtain⟨a,xs,rfl,_⟩:=h;rfl
    | _=>simp only[RD,RI]at h;subst h;rfl
  | mu n=>simp only[RD]at h;obtain⟨a,_,rfl⟩:=h;rfl
  | tm ds=>simp only[RD]at h;obtain⟨a,xs,rfl,_⟩:=h;rfl
  | ro ns=>simp only[RD]at h;obtain⟨a,rfl,_⟩:=h;rfl
theorem Rv{K:PySem.W.Frag}{t:TE}{m:ME}(h:RE K t m):RE K (N3 t) (FN false m):=by
  intro ρ σ H hd ls Q d hd' hR hL hm hQ
  obtain⟨⟨d1,h1⟩,e1,hm⟩:=Option.bind_eq_some_iff.mp hm
  cases hm
  refine h ρ σ H hd ls _ d1 _ hR hL e1 λ ρ1 H1 v x1 R1 r1=>?_
  rw[UY r1]
  refine hQ ρ1 H1 _ x1 R1 ?_
  simp only[RD,RI]
  cases d1 with
  | im i=>cases i <;> rfl
  | _=>rfl
noncomputable def JG(m:ME):ME:=λ ls hd=>(m ls hd).bind λ p=>match p.1 with
  | .im (.int i)=>some (.im (.int (-i)),p.2)
  | _=>none
theorem Rt{K:PySem.W.Frag}{t:TE}{m:ME}(h:RE K t m):RE K (tUn (rU λ i=>.int (-i)) t) (JG m):=by
  intro ρ σ H hd ls Q d hd' hR hL hm hQ
  obtain⟨⟨d1,h1⟩,e1,hm⟩:=Option.bind_eq_some_iff.mp hm
  dsimp only at hm
  split at hm
  . cases hm
    exact h ρ σ H hd ls _ _ _ hR hL e1 λ ρ1 H1 v x1 R1 r1=>⟨_,by simpa only[RD,RI]using r1,hQ ρ1 H1 _ x1 R1 (by simp[RD,RI])⟩
  . cases hm
noncomputable def C1:MT:=λ _ hd=>some (true,hd)
theorem Rc{K:PySem.W.Frag}:RT K My C1:=by
  intro ρ σ H hd ls Q d hd' hR hL hm hQ
  cases hm
  exact hQ ρ H .refl hR
section
variable(K:PySem.W.Frag){X:Cx}{a b c e:Expr}{es:List Expr}{ta tb tc te:TE}{ma mb mc me:ME}{tA tB':TT}{nA nB:MT}{t:TA}{m:MA}{pos:Pos}{x:Str}
theorem qv(i:Nat){x:Str}{pos:Pos}(hN:X.N[i]? = some x:=by rfl)(hv:Vis X.env.scope x:=by first|exact Or.inl rfl|exact Or.inr (Or.inl rfl)|exact Or.inr (Or.inr rfl))(hd:(x == ("__debug__":Str))=false:=by decide)
    (hcd:(x == ("__classdict__":Str))=false:=by decide):QE K X (.Name x pos) (KW i) (A2 i):=⟨EO hN hv hd hcd,Rp⟩
theorem A5{i:Int}{j pos}:QE K X (.Constant (.int i) j pos) (tC (.int i)) (mC (.int i)):=⟨Sa,Kk λ _=>by simp[RI]⟩
theorem Kt{i:Bool}{j pos}:QE K X (.Constant (.bool i) j pos) (tC (.bl i)) (mC (.bl i)):=⟨Tu,Kk λ _=>by simp[RI]⟩
theorem SC{j pos}:QE K X (.Constant .none j pos) (tC .non) (mC .non):=⟨SY,Kk λ _=>by simp[RI]⟩
theorem BA{x:Str}{j pos}:QE K X (.Constant (.str x) j pos) (tC (.str x)) (mC (.str x)):=⟨M3,Kk λ _=>by simp[RI]⟩
theorem AI{op:Operator}{r:R2}{f:D->D->Hd->Option (D × Hd)}(ho:OpR X (binaryOp op) r)(hr:RB K r f)(ha:QE K X a ta ma)(hb:QE K X b tb mb):QE K X (.BinOp a op b pos) (tOp r ta tb) (mOp f ma mb):=⟨Ts ho ha.p hb.p,IE hr ha.r hb.r⟩
theorem SD(ha:QE K X a ta ma):QE K X (.UnaryOp .USub a pos) (tUn (rU λ i=>.int (-i)) ta) (JG ma):=⟨Tr RV ha.p,Rt ha.r⟩
theorem EN{op:CmpOp}{r:R2}{f:D->D->Hd->Option (D × Hd)}(ho:OpR X (compareOp op) r)(hr:RB K r f)(ha:QE K X a ta ma)(hb:QE K X b tb mb)(hm:behindInMarks op b=false:=by first|exact Gf _|rfl):QE K X (.Compare a [op] [b] pos) (tOp r ta tb) (mOp f ma mb):=⟨Q9 ho ha.p hb.p hm,IE hr ha.r hb.r⟩
theorem CJ{op:CmpOp}{r:R2}{f:D->D->Hd->Option (D × Hd)}(ho:OpR X (compareOp op) r)(hr:RB K r f)(ha:QE K X a ta ma)(hb:QE K X b tb mb)(hm:behindInMarks op b=false:=by first|exact Gf _|rfl):QT K X (.Compare a [op] [b] pos) (GS (tOp r ta tb)) (An (mOp f ma mb)):=⟨HJ ho ha.p hb.p hm,EI (IE hr ha.r hb.r)⟩
theorem Lv{j pos'}(ha:QE K X a ta ma):QT K X (.Compare a [.Is] [.Constant .none j pos'] pos) (tB (N3 ta)) (An (FN false ma)):=⟨SI (Sc ha.p),UT (Rv ha.r)⟩
theorem Ef(ha:QE K X a ta ma)(he:∀ whole,isTrue a X.env whole=(do let v <- whole;standAt a.pos;holding [v] (truthy v)):=by intro _;rfl)(hK:X.K=K:=by rfl) :
    QT K X a (λ σ H Q=>ta σ H λ x H'=>∃ k,Ja K x H' k/\Q k H') (Dp ma):=by
  subst hK
  exact⟨Nb ha.p he,N9 ha.r⟩
theorem HI(ha:QT K X a tA nA):QW K X (.BoolOp .And [a] pos) tA nA:=⟨Jw ha.p,ha.r⟩
theorem Iw{rest:List Expr}(ha:QT K X a tA nA)(hb:QW K X (.BoolOp .And (b :: rest) pos) tB' nB):QW K X (.BoolOp .And (a :: b :: rest) pos) (N5 tA tB') (FP nA nB):=⟨J3 ha.p hb.p,Re ha.r hb.r⟩
theorem QW.toT{K:PySem.W.Frag}{X:Cx}{e:Expr}{t:TT}{m:MT}(h:QW K X e t m):QT K X e t m:=⟨h.p.pt,h.r⟩
theorem SB{op}(ha:QE K X a ta ma):QE K X (.BoolOp op [a] pos) ta ma:=⟨SX ha.p,ha.r⟩
theorem SE{rest:List Expr}(ha:QE K X a ta ma)(hb:QE K X (.BoolOp .And (b :: rest) pos) tb mb):QE K X (.BoolOp .And (a :: b :: rest) pos) (Ke ta tb) (Fm ma mb):=⟨Sb ha.p hb.p,Pe ha.r hb.r⟩
theorem Iz(hc:QT K X c tA nA)(ha:QE K X a ta ma)(hb:QE K X b tb mb):QE K X (.IfExp c a b pos) (tIf tA ta tb) (mIf nA ma mb):=⟨Nh hc.p ha.p hb.p,Tk hc.r ha.r hb.r⟩
theorem A6:QA K X [] CN A7:=⟨Br,S3⟩
theorem A0(ha:QE K X e te me)(hr:QA K X es t m)(hs:starEach (e :: es) X.env=(false,eval e X.env) :: starEach es X.env:=by rfl):QA K X (e :: es) (Bh te t) (A1 me m):=⟨Am ha.p hr.p hs,Pf ha.r hr.r⟩
theorem Au{x1}(h:QA K X es t m):QE K X (.Tuple es x1 pos) (Mz t) (At m):=⟨J9 h.p,Rq h.r⟩
theorem DF(h:QA K X es t m):QN K X (.List es pos) (N2 t) (Ce m):=⟨SZ h.p,Rj h.r⟩
theorem DG(h:QN K X e te m):QE K X e te (Cm m):=⟨h.p,Rs h.r⟩
theorem AM(ha:QE K X a ta ma)(hb:QE K X b tb mb)(hs:He b:=by exact λ _ _=>rfl)(hK:X.K=K:=by rfl):QE K X (.Subscript a b pos) (tOp (IG K) ta tb) (mOp gIx ma mb):=⟨OZ ((JL K hK).or (K6 K hK)) ha.p hb.p hs,IE Tm ha.r hb.r⟩
theorem EM:QO K X none HD Bs:=⟨Pw,PR⟩
theorem EL(h:QE K X e te me):QO K X (some e) (Ka te) (Cd me):=⟨Pv h.p,PQ h.r⟩
theorem Gb{lo hi:Option Expr}{tl th:TO}{ml mh:MO1}{p2:Pos}(h:QE K X e te me)(hl:QO K X lo tl ml)(hh:QO K X hi th mh)(hK:X.K=K:=by rfl):QE K X (.Subscript e (.Slice lo hi none p2) pos) (tSl (Ko K) te tl th) (E8 me ml mh):=⟨JA (P8 K hK) h.p hl.p hh.p,Rr h.r hl.r hh.r⟩
theorem S8{lo hi:Option Expr}{tl th:TO}{ml mh:MO1}{p2:Pos}(h:QE K X e te me)(hl:QO K X lo tl ml)(hh:QO K X hi th mh)(hK:X.K=K:=by rfl):QN K X (.Subscript e (.Slice lo hi none p2) pos) (tSl (Kp K) te tl th) (LB me ml mh):=⟨JA (N7 K hK) h.p hl.p hh.p,Ri h.r hl.r hh.r⟩
theorem Ca{id:String}{p:Pos}{r:List V->Hp->VK->Prop}{f:List D->Hd->Option (D × Hd)}(hc:CallR X (.builtin id) r)(hr:RF K r f)(hm:X.mg x=none)(hv:bootBuiltins x=some (.builtin id))(ha:QA K X (e :: es) t m)(hg:Gl X x:=by rfl)(hn:x ≠ "__name__":=by decide)(hdb:(x == ("__debug__":Str))=false:=by decide)
    (he:starEach (e :: es) X.env=(false,eval e X.env) :: starEach es X.env:=by rfl) (hpl:(backTo pos (starEach es X.env)).any (·.1)=false:=by rfl):QE K X (.Call (.Name x p) (e :: es) [] pos) (tCB r t) (mCB f m):=⟨Ck hc hg hm hv ha.p hn hdb he hpl,ON hr ha.r⟩
theorem OU{id:String}{p:Pos}{r:List V->Hp->VK->Prop}{f:List D->Hd->Option (D × Hd)}(hc:CallR X (.type id) r)(hr:RF K r f)(hm:X.mg x=none)(hv:bootBuiltins x=some (.type id))(ha:QA K X (e :: es) t m)(hg:Gl X x:=by rfl)(hn:x ≠ "__name__":=by decide)(hdb:(x == ("__debug__":Str))=false:=by decide)
    (he:starEach (e :: es) X.env=(false,eval e X.env) :: starEach es X.env:=by rfl) (hpl:(backTo pos (starEach es X.env)).any (·.1)=false:=by rfl):QE K X (.Call (.Name x p) (e :: es) [] pos) (tCB r t) (mCB f m):=⟨E4 hc hg hm hv ha.p hn hdb he hpl,ON hr ha.r⟩
theorem Gc{id:String}{p:Pos}{r:List V->Hp->VK->Prop}{tp:Bool}{g:List D->Option D}(hc:CallR X (.builtin id) r)(hr:RG K tp r g)(hm:X.mg x=none)(hv:bootBuiltins x=some (.builtin id))(ha:QN K X e te m)(hg:Gl X x:=by rfl)(hn:x ≠ "__name__":=by decide)(hdb:(x == ("__debug__":Str))=false:=by decide)
    (he:starEach [e] X.env=[(false,eval e X.env)]:=by rfl):QE K X (.Call (.Name x p) [e] [] pos) (tCB r (Bh te CN)) (E9 g m):=⟨Ck hc hg hm hv (Am ha.p Br he) hn hdb he rfl,Ry hr ha.r⟩
theorem Pn{p:Pos}(hm:X.mg "list"=none)(ha:QE K X e te me)(hg:Gl X "list":=by rfl)(he:starEach [e] X.env=[(false,eval e X.env)]:=by rfl)(hK:X.K=K:=by rfl):QN K X (.Call (.Name "list" p) [e] [] pos) (tCB (EJ K) (Bh te CN)) (Gk me):=⟨E4 (Gv K hK) hg hm KI (Am ha.p Br he) (by decide) (by decide) he rfl,PU ha.r⟩
theorem NU{p:Pos}(hm:X.mg "list"=none)(ha:QN K X e te m)(hg:Gl X "list":=by rfl)(he:starEach [e] X.env=[(false,eval e X.env)]:=by rfl)(hK:X.K=K:=by rfl):QN K X (.Call (.Name "list" p) [e] [] pos) (tCB (EJ K) (Bh te CN)) (Gj m):=⟨E4 (Gv K hK) hg hm KI (Am ha.p Br he) (by decide) (by decide) he rfl,ND ha.r⟩
theorem IH{id:String}{r:V->List V->Hp->VK->Prop}{f:D->List D->Hd->Option (D × Hd)}{name:Str}{apos cpos:Pos}{o:Expr}{to:TE}{mo:ME}(slot:Slot "list" name id)(hty:typeOf (.builtin id)=pure (.type "method_descriptor"))(hm:MtM X id r)(hr:RM K r f)(ho:QE K X o to mo)(ha:QA K X (e :: es) t m)
    (hbase:attributeBase o name X.env (eval o X.env)=eval o X.env:=by rfl)
    (hfew:((backTo cpos (starEach (e :: es) X.env)).all (λ x=>!x.1) && (backToKw cpos (keywordEach [] X.env)).all (λ x=>x.1.isSome)
      && decide ((e :: es).length + ([]:List Keyword).length + (if([]:List Keyword).isEmpty then 0 else 1) < 30))=true:=by rfl)
    (hline:(apos.endLine == cpos.line)=true:=by rfl) (hs:starEach (e :: es) X.env=(false,eval e X.env) :: starEach es X.env:=by rfl) (hplain:(backTo cpos (starEach es X.env)).any (·.1)=false:=by rfl) (hK:X.K=K:=by rfl) :
    QE K X (.Call (.Attribute o name apos) (e :: es) [] cpos) (tBM K "list" r to t) (mMt f mo m):=by
  subst hK
  exact⟨Tt PySem.F.plainAttrs_list slot hty hm ho.p ha.p hbase hfew hline hs hplain,Tj hr ho.r ha.r⟩
theorem AH(w:Nat){j k:Nat}{f:Addr}{fd:FuncData}{ps:List Str}{n:Nat}{F:List D->Hd->Option (D × Hd)}{st:Stmt}{p:Pos}(G:FnOk X.prog X.w X.K X.mg X.base CX0 j f fd ps (spF K n F))(hr:Room k X.A)(DA:DefAt X.K X.mg x st f fd ps)(ha:QA K X (e :: es) t m)(hF:∀ ds hd z,F ds hd=some z->ds.length=n)
    (hjk:j <= k:=by decide) (hg:Gl X x:=by rfl) (hdb:(x == ("__debug__":Str))=false:=by decide) (he:starEach (e :: es) X.env=(false,eval e X.env) :: starEach es X.env:=by rfl) (hpl:(backTo pos (starEach es X.env)).any (·.1)=false:=by rfl) :
    QE K X (.Call (.Name x p) (e :: es) [] pos) (E1 (spF K n F) [] E0 t) (AC w F m):=⟨Oa G hr DA ha.p hjk hg hdb he hpl,Im ha.r hF⟩
theorem J1{j k:Nat}{f:Addr}{fd:FuncData}{ps:List Str}{n:Nat}{F:List D->Hd->Option (D × Hd)}{st:Stmt}{p:Pos}(G:FnOk X.prog X.w X.K X.mg X.base CX0 j f fd ps (spF K n F))(hr:Room k X.A)(DA:DefAt X.K X.mg x st f fd ps)(ha:QA K X (e :: es) t m)(hF:∀ ds hd z,F ds hd=some z->ds.length=n)
    (hjk:j <= k:=by decide) (hg:Gl X x:=by rfl) (hdb:(x == ("__debug__":Str))=false:=by decide) (he:starEach (e :: es) X.env=(false,eval e X.env) :: starEach es X.env:=by rfl) (hpl:(backTo pos (starEach es X.env)).any (·.1)=false:=by rfl) :
    QE K X (.Call (.Name x p) (e :: es) [] pos) (E1 (spF K n F) [] E0 t) (EU F m):=⟨Oa G hr DA ha.p hjk hg hdb he hpl,NK ha.r hF⟩
theorem AQ{i:Nat}(hN:X.N.Nodup)(hi:X.N[i]? = some x)(hx:Loc X.env.scope x)(hf:X.fn x=true ∨ X.env.scope.names.lookup x=some .local:=by first|exact .inl rfl|exact .inr rfl|assumption):QG K X (.Name x pos) (Ej i) (AU i):=⟨Q4 hN hi hx hf,HG⟩
theorem Cj:QGs K X [] Ny DN:=⟨Q2,Pa⟩
theorem Aq{tg:TG}{tgs:TGs}{n:MG}{ns:MGs}(h1:QG K X e tg n)(h2:QGs K X es tgs ns)(hs:(assignEach (e :: es) X.env).map (·.2)=assign e X.env :: (assignEach es X.env).map (·.2):=by rfl):QGs K X (e :: es) (LM tg tgs) (Aw n ns):=⟨Ng h1.p h2.p hs,NG h1.r h2.r⟩
theorem Dl{k n:Nat}{tgs:TGs}{ns:MGs}(hc:X.calm=true)(h:QGs K X es tgs ns)(hK:X.K=K:=by rfl)(hn:(assignEach es X.env).length=n:=by rfl)(hst:(assignEach es X.env).findIdx? (·.1)=none:=by rfl):QG K X (.Tuple es k pos) (LK K n tgs) (DM n ns):=⟨Q3 K hc h.p hK hn hst,Rn h.r⟩
theorem Dk{tg:Expr}(h:QE K X e te me)(hK:X.K=K:=by rfl):QI K X tg e (LH K te) (Cg me):=⟨Q0 K h.p hK,Rl h.r⟩
theorem Jt{tg:Expr}(h:QE K X e te me)(hK:X.K=K:=by rfl):QI K X tg e (Fp K te) (Ds me):=⟨J8 K h.p hK,PZ h.r⟩
theorem SA{tg:Expr}(h:QN K X e te m)(hK:X.K=K:=by rfl):QI K X tg e (Fp K te) (JH m):=⟨J8 K h.p hK,Rm h.r⟩
theorem CU{tg:Expr}{p:Pos}(hm:X.mg "range"=none)(ha:QA K X [a] t m)(hg:Gl X "range":=by rfl)(hs:starEach [a] X.env=[(false,eval a X.env)]:=by rfl):QI K X tg (.Call (.Name "range" p) [a] [] pos) (LI t) (Dr m):=⟨M2 hg hm ha.p hs,PY ha.r⟩
theorem Bq:QF K X [] My C1:=⟨SW,Rc⟩
theorem CD{elt tg iter:Expr}{ifs:List Expr}{scope:Scope}{loc fr:List Str}{ix:List Nat}{wi:TI}{g:TG}{tf:TT}{te:TE}{mi:MI}{n:MG}{mf:MT}{mm:ME}(hc:X.calm=true)(S:CSc X scope fr ix)(hi:QI K X tg iter wi mi)
    (hg:∀ s H ex,QG K (cCx X (loc ++ fr) scope s H ex) tg g n) (hf:∀ s H ex,QF K (cCx X (loc ++ fr) scope s H ex) ifs tf mf) (he:∀ s H ex,QE K (cCx X (loc ++ fr) scope s H ex) elt te mm)
    (hs:∀ x,foldedSetIterable iter X.env x=pure x:=by intro _;rfl):QN K X (.ListComp elt [⟨tg,iter,ifs,0⟩] scope pos) (Kd loc.length ix wi g tf te) (Bm loc.length ix mi n mf mm):=
  ⟨Q8 hc S hi.p (λ s H ex=>(hg s H ex).p) (λ s H ex=>(hf s H ex).p) (λ s H ex=>(he s H ex).p) hs,PV hi.r (hg X.s₀ X.H₀ []).r (hf X.s₀ X.H₀ []).r (he X.s₀ X.H₀ []).r⟩
theorem Bp:QSs K X [] ID BP:=⟨HK,Ji⟩
theorem A9{st:Stmt}{rest:List Stmt}{u v:TS}{m1 m2:MS}(h1:QS K X st u m1)(h2:QSs K X rest v m2):QSs K X (st :: rest) (IT u v) (AF m1 m2):=⟨J5 h1.p h2.p,Ln h1.r h2.r⟩
theorem AO{st:Stmt}{u:TS}{m1:MS}(h1:QS K X st u m1):QSs K X [st] u m1:=⟨Fh h1.p,h1.r⟩
theorem DZ(he:QE K X e te me)(hs:swapsWith e none pos.line X.env=pure false:=by rfl):QS K X (.Expr e pos) (Kc te) (Bl me):=⟨Pu he.p hs,PN he.r⟩
theorem B1(he:QE K X e te me):QS K X (.Return (some e) pos) (G9 te) (Ah me):=⟨SK he.p,Ic he.r⟩
theorem CZ{a b:List Stmt}{u v:TS}{m1 m2:MS}(hc:QT K X c tA nA)(ha:QSs K X a u m1)(hb:QSs K X b v m2):QS K X (.If c a b pos) (IV tA u v) (BT nA m1 m2):=⟨OX hc.p ha.p hb.p,OJ hc.r ha.r hb.r⟩
theorem Ix{st:Stmt}:QS K X st GU CK:=⟨Nd,Ig⟩
theorem Iy{tg:Expr}{g:TG}{n:MG}(he:QE K X e te me)(hg:QG K X tg g n)(hs:swapsWithSole [tg] e pos.line X.env=pure false:=by rfl)(hw:swappedStores [tg] e X.env=pure none:=by rfl)
    (h1:(assignEach [tg] X.env).map (·.2)=[assign tg X.env]:=by rfl):QS K X (.Assign [tg] e pos) (Ed te g) (FO me n):=⟨Lz he.p hg.p hs hw h1,Ih he.r hg.r⟩
theorem AZ{i:Nat}{pos':Pos}(hN:X.N.Nodup)(hi:X.N[i]? = some x)(hx:Loc X.env.scope x)(he:QE K X e te me)(hs:swapsWith e (some (.Name x pos')) pos.line X.env=pure false:=by rfl)(hf:X.fn x=true ∨ X.env.scope.names.lookup x=some .local:=by first|exact .inl rfl|exact .inr rfl|assumption) :
    QS K X (.Assign [.Name x pos'] e pos) (Ed te (Ej i)) (Ag i me):=⟨J7 hN hi hx he.p hs hf,Ih he.r HG⟩
theorem Di{i j:Nat}{x y:Str}{a b:Expr}{px py pt:Pos}{kt k2 pt2}(hc:X.calm=true)(hN:X.N.Nodup)(hi:X.N[i]? = some x)(hj:X.N[j]? = some y)(hij:i ≠ j)
    (hx:X.env.scope.names.lookup x=some .local) (hy:X.env.scope.names.lookup y=some .local) (ha:QA K X [a,b] t m)
    (hw:swappedStores [.Tuple [.Name x px,.Name y py] kt pt] (.Tuple [a,b] k2 pt2) X.env=pure (some [x,y]):=by rfl)
    (hs:swapsWithSole [.Tuple [.Name x px,.Name y py] kt pt] (.Tuple [a,b] k2 pt2) pos.line X.env=pure false:=by rfl) :
    QS K X (.Assign [.Tuple [.Name x px,.Name y py] kt pt] (.Tuple [a,b] k2 pt2) pos) (N1 i j t) (C2 [i,j] m):=⟨SL hc hN hi hj hij hx hy ha.p hw,Rg ha.r⟩
theorem Pm{i j k:Nat}{x y z:Str}{a b c:Expr}{px py pz pt:Pos}{kt k2 pt2}(hc:X.calm=true)(hN:X.N.Nodup)(hi:X.N[i]? = some x)(hj:X.N[j]? = some y)(hk:X.N[k]? = some z)
    (hx:X.env.scope.names.lookup x=some .local) (hy:X.env.scope.names.lookup y=some .local) (hz:X.env.scope.names.lookup z=some .local) (ha:QA K X [a,b,c] t m)
    (hw:swappedStores [.Tuple [.Name x px,.Name y py,.Name z pz] kt pt] (.Tuple [a,b,c] k2 pt2) X.env=pure (some [x,y,z]):=by rfl)
    (hs:swapsWithSole [.Tuple [.Name x px,.Name y py,.Name z pz] kt pt] (.Tuple [a,b,c] k2 pt2) pos.line X.env=pure false:=by rfl) :
    QS K X (.Assign [.Tuple [.Name x px,.Name y py,.Name z pz] kt pt] (.Tuple [a,b,c] k2 pt2) pos) (Kb i j k t) (Fk i j k m):=⟨Pt hc hN hi hj hk hx hy hz ha.p hw hs,PL ha.r⟩
theorem Fg{o i value:Expr}{pos':Pos}{to ti tv:TE}{mo mi mv:ME}(ho:QE K X o to mo)(hi:QE K X i ti mi)(hv:QE K X value tv mv)(hs:swapsWithSole [.Subscript o i pos'] value pos.line X.env=pure false:=by rfl)(hw:swappedStores [.Subscript o i pos'] value X.env=pure none:=by rfl)
    (h1:(assignEach [.Subscript o i pos'] X.env).map (·.2)=[assign (.Subscript o i pos') X.env]:=by rfl)
    (ha:∀ v,assign (.Subscript o i pos') X.env v=(do
      let ov <- holding [v] (eval o X.env)
      let iv <- holding [v,ov] (eval i X.env)
      standAt pos'
      holding [v,ov,iv] (setItem ov iv v)
      release [v,ov,iv] []):=by intro _;rfl):QS K X (.Assign [.Subscript o i pos'] value pos) (Ed tv (Nx to ti Kq)) (E7 mo mi mv):=⟨Lz hv.p (SV ho.p hi.p N8 ha) hs hw h1,PM ho.r hi.r hv.r⟩
theorem EK{tg iter:Expr}{body:List Stmt}{wi:TI}{g:TG}{tb:TS}{mi:MI}{n:MG}{mb:MS}(hc:X.calm=true)(hi:QI K X tg iter wi mi)(hg:QG K X tg g n)(hb:QSs K X body tb mb)(hp:PassesOwn (model X.prog X.w) X.A X.env X.xe:=by exact PassesOwn.never)
    (hs:∀ x,foldedSetIterable iter X.env x=pure x:=by intro _;rfl):QS K X (.For tg iter body [] pos) (N4 wi g tb) (DP mi n mb):=⟨SN hp hc hi.p hg.p hb.p hs,Rh hi.r hg.r hb.r⟩
end
theorem BD{P:Program}{w:World}{K:PySem.W.Frag}{mg:Str->Option Value}{base:Heap}{x:Str}{st:Stmt}{f:Addr}{fd:FuncData}{N ps:List Str}{j:Nat}{m:MS}(DA:DefAt K mg x st f fd ps)(S:FnScope N ps (AA st))
    (h:∀ (cdv:Value) (A:Around) (outer:List Env) (s:Shared) (H:Hp) (E:XK),Room j (A.deeper (envOfC x (AA st) s.heap.objs.size f cdv))->∃ t,QSs K (Dw CX0 P w K mg base N x (AA st) f cdv A outer s H E).nox (Ac st) t m) :
    FnOk P w K mg base CX0 (j + 1) f fd ps (spF K ps.length (mkF ps.length N.length m)):=by
  refine DA.fn.ok S (λ vs H Q E h=>h.1) (λ cdv A outer s H vs Q E hr hs=>?_)
  obtain⟨t,q⟩:=h cdv A outer s H E hr
  exact⟨t,q.p,P7 q.r hs⟩
end L2
namespace L2
open PySem PySem.Spec PyProof.Rows
section
variable{X:Cx}{pins:List (Addr × Obj)}{σ:List (Option V)}{H H':Hp}{s:Shared}{h':Heap}
theorem Inv.turns{tk:Nat}{fp:List Addr}(I:Inv X pins σ H s)(k:∀ b o,b ∉ fp->s.heap.get? b=some o->h'.get? b=some o)(hf:∀ b ∈ fp,C5 X pins H b):Inv X pins σ H { s with heap:=h',toks:=tk }:=by
  have out:∀ b u,H b=some u->b ∉ fp:=λ b u e z=>by rw[(hf b z).1]at e;cases e
  have hL:X.env.locals ∉ fp:=λ z=>(hf _ z).2.1 rfl
  refine I.step (g':=s.gens) (d':=s.drawn) (ch:=fp) (λ b hb=>⟨(hf b hb).2.2.2.1,(hf b hb).2.1,(hf b hb).2.2.2.2.1,(hf b hb).2.2.2.2.2⟩) (λ b o _ _ hc e _=>k b o hc e) (λ b o _ _ hc e _=>⟨o.slots,k b o hc e⟩) (λ _ _ _ _ n=>n)
    (λ b o hc e=>⟨o,k b o hc e⟩) (λ _ _ e=>e) (λ _ _ _ e=>e) (λ b ps e=>⟨#[],by rw[e];simp⟩) (λ m hm=>?_) (λ b u e=>?_) I.bare
  . obtain⟨o,es,ep,ho,r⟩:=hm
    exact⟨o,es,ep,k _ o hL ho,r⟩
  . refine(I.hok b u e).stay (λ c v hc q=>k c v ?_ q) (λ _ q=>q) λ _ _ q=>q
    rcases hc with z|z
    . rw[z];exact out b u e
    . exact out c _ z
end
theorem Inv.turnsL{X:Cx}{pins:List (Addr × Obj)}{σ:List (Option V)}{H:Hp}{s:Shared}{h':Heap}{tk:Nat}{fp:List Addr}{a:Addr}{o:HO}(I:Inv X pins σ H s)(k:∀ b o,b ∉ fp->s.heap.get? b=some o->h'.get? b=some o)(hf:∀ b ∈ fp,C5 X pins H b)(ha:s.heap.objs.size <= a)(new:ObjOk X.prog X.w (upd H a o) h' a o) :
    Inv X pins σ (upd H a o) { s with heap:=h',toks:=tk }:=by
  have out:∀ b u,H b=some u->b ∉ fp:=λ b u e z=>by rw[(hf b z).1]at e;cases e
  have hL:X.env.locals ∉ fp:=λ z=>(hf _ z).2.1 rfl
  have fr:H a=none:=I.hok.fresh ha
  refine I.step (g':=s.gens) (d':=s.drawn) (ch:=fp) (λ b hb=>⟨(hf b hb).2.2.2.1,(hf b hb).2.1,(hf b hb).2.2.2.2.1,(hf b hb).2.2.2.2.2⟩) (λ b o _ _ hc e _=>k b o hc e) (λ b o _ _ hc e _=>⟨o.slots,k b o hc e⟩)
    (λ b o _ e n=>by rw[AE (Nat.ne_of_lt (Nat.lt_of_lt_of_le (Heap.lt_size e) ha))];exact n) (λ b o hc e=>⟨o,k b o hc e⟩) (λ b xs e=>by rw[AE (AS e fr)];exact e) (λ b o u e=>by rw[AE (AS e fr)];exact e)
    (λ b ps e=>⟨#[],by rw[AE (AS e fr),e];simp⟩) (λ m hm=>?_) (λ b u e=>?_) I.bare
  . obtain⟨o,es,ep,ho,r⟩:=hm
    exact⟨o,es,ep,k _ o hL ho,r⟩
  . by_cases hb:b=a
    . subst hb;rw[AT]at e;cases e;exact new
    . rw[AE hb]at e
      refine(I.hok b u e).stay (λ c v hc q=>k c v ?_ q) (λ c q=>by rw[AE (AS q fr)];exact q) λ c xs q=>by rw[AE (AS q fr)];exact q
      rcases hc with z|z
      . rw[z];exact out b u e
      . exact out c _ z
noncomputable def RowI(tp:Bool)(h:Heap)(it l:Addr)(k:Nat):Prop:=match tp with
  | true=>h.IsTupleIter it l k
  | false=>h.IsListIter it l k
noncomputable def RowL(tp:Bool)(h:Heap)(l:Addr)(xs:Array Value):Prop:=match tp with
  | true=>h.IsTuple l xs
  | false=>h.IsList l xs
theorem RowI.at{tp:Bool}{h h':Heap}{it l:Addr}{k:Nat}(x:RowI tp h it l k)(e:∀ o,h.get? it=some o->h'.get? it=some o):RowI tp h' it l k:=by
  cases tp with
  | true=>exact Heap.IsTupleIter.at x e
  | false=>exact Heap.IsListIter.at x e
theorem RowL.at{tp:Bool}{h h':Heap}{l:Addr}{xs:Array Value}(x:RowL tp h l xs)(e:∀ o,h.get? l=some o->h'.get? l=some o):RowL tp h' l xs:=by
  cases tp with
  | true=>obtain⟨o,e1,r⟩:=(show h.IsTuple l xs from x);exact⟨o,e _ e1,r⟩
  | false=>obtain⟨o,e1,r⟩:=(show h.IsList l xs from x);exact⟨o,e _ e1,r⟩
theorem RowI.obj{tp:Bool}{h:Heap}{it l:Addr}{k:Nat}(x:RowI tp h it l k):∃ o,h.get? it=some o/\o.data=.fields #[.ref l,.int k 0]:=by
  cases tp with
  | true=>obtain⟨o,e,_,d⟩:=(show h.IsTupleIter it l k from x);exact⟨o,e,d⟩
  | false=>obtain⟨o,e,_,d⟩:=(show h.IsListIter it l k from x);exact⟨o,e,d⟩
theorem RowL.obj{tp:Bool}{h:Heap}{l:Addr}{xs:Array Value}(x:RowL tp h l xs):∃ o n,h.get? l=some o/\o.data=.seq xs n:=by
  cases tp with
  | true=>obtain⟨o,e,_,n,d⟩:=(show h.IsTuple l xs from x);exact⟨o,n,e,d⟩
  | false=>obtain⟨o,e,_,n,d⟩:=(show h.IsList l xs from x);exact⟨o,n,e,d⟩
section
variable{prog:Program}{w:World}{A:Around}{E:Value->Shared->Prop}{s:Shared}{it l:Addr}{k:Nat}{xs:Array Value}{x:Value}
theorem Mw(hit:s.heap.IsTupleIter it l k)(hl:s.heap.IsTuple l xs)(hx:xs[k]? = some x){Q:Value->Shared->Prop}(hQ:∀ g,g.IsTupleIter it l (k + 1)->Heap.SameBut it s.heap g->Q x { s with heap:=g }) :
    wpAny (model prog w) A (Builtin.SmallTypes.nextOf (.ref it)) Q E s:=by
  obtain⟨o,eo,ec,ed⟩:=id hit
  obtain⟨ol,el,_,nl,edl⟩:=hl
  unfold Builtin.SmallTypes.nextOf
  refine wpAny_bind (wpAny_callSpecial?_slot (name:=Str.ofString "__next__") hit.typeIs PyProof.Rows.slot_tupleiter_next (wpAny_call_entry PyProof.Rows.slot_tupleiter_next hit.typeIs PyProof.Rows.entry_tupleiter_next ?_ (PyProof.Rows.args_tupleiter_next _)))
  show wpAny _ _ (field (.ref it) 0 >>= _) _ _ s
  refine wpAny_bind (wpAny_field eo ed (x:=.ref l) rfl ?_)
  show wpAny _ _ (if(Value.ref l == Value.none)=true then _ else _) _ _ s
  rw[if_neg (show ¬ (Value.ref l == Value.none)=true from Bool.false_ne_true)]
  show wpAny _ _ (field (.ref it) 1 >>= _) _ _ s
  refine wpAny_bind (wpAny_field eo ed (x:=.int k 0) rfl ?_)
  show wpAny _ _ (seqItems? (.ref l) >>= _) _ _ s
  refine wpAny_bind (wpAny_seqItems el edl ?_)
  simp only[Int.toNat_natCast,hx]
  refine wpAny_bind (wpAny_setField eo ed (by simp) (wpAny_pure ⟨x,rfl,wpAny_pure (hQ _ ⟨_,Heap.get?_update_self _ eo (Obj.isFreed_of_fields (Obj.data_mapFields ed _)),(Obj.cls_mapFields ..).trans ec,?_⟩ (Heap.SameBut.update ..))⟩))
  rw[Obj.data_mapFields ed];simp[rawInt]
theorem Mv(hh:A.handled=none)(hit:s.heap.IsTupleIter it l k)(hl:s.heap.IsTuple l xs)(hx:xs[k]? = none){Q:Value->Shared->Prop}(hE:∀ g e,Heap.ExtBut it s.heap g->(∃ o,g.get? e=some o/\o.cls=.type "StopIteration")->E (.ref e) { s with heap:=g }) :
    wpAny (model prog w) A (Builtin.SmallTypes.nextOf (.ref it)) Q E s:=by
  obtain⟨o,eo,ec,ed⟩:=id hit
  obtain⟨ol,el,_,nl,edl⟩:=hl
  unfold Builtin.SmallTypes.nextOf
  refine wpAny_bind (wpAny_callSpecial?_slot (name:=Str.ofString "__next__") hit.typeIs PyProof.Rows.slot_tupleiter_next (wpAny_call_entry PyProof.Rows.slot_tupleiter_next hit.typeIs PyProof.Rows.entry_tupleiter_next ?_ (PyProof.Rows.args_tupleiter_next _)))
  show wpAny _ _ (field (.ref it) 0 >>= _) _ _ s
  refine wpAny_bind (wpAny_field eo ed (x:=.ref l) rfl ?_)
  show wpAny _ _ (if(Value.ref l == Value.none)=true then _ else _) _ _ s
  rw[if_neg (show ¬ (Value.ref l == Value.none)=true from Bool.false_ne_true)]
  show wpAny _ _ (field (.ref it) 1 >>= _) _ _ s
  refine wpAny_bind (wpAny_field eo ed (x:=.int k 0) rfl ?_)
  show wpAny _ _ (seqItems? (.ref l) >>= _) _ _ s
  refine wpAny_bind (wpAny_seqItems el edl ?_)
  simp only[Int.toNat_natCast,hx]
  refine wpAny_bind (wpAny_rule (wpAny_bind (wpAny_setField eo ed (by simp) ?_)))
  show wpAny _ _ (newExc (.type "StopIteration") [] >>= _) _ _ _
  refine wpAny_bind ?_
  simp only[newExc,newTuple]
  refine wpAny_bind (wpAny_newObj_type ?_ (by size_fits))
  refine wpAny_bind (m:=firstArgMember _ _) (wpAny_of_eq (a:=Value.none) (by first|rfl|(simp only[firstArgMember];rfl)) ?_)
  refine wpAny_newObj_type ?_ (by size_fits)
  simp only[raiseNew]
  refine wpAny_bind (wpAny_handled ?_)
  first|rw[show A.in1.handled=none from hh]|rw[hh]
  exact wpAny_bind (wpAny_pure (wpAny_throw (hE _ _ (((Heap.SameBut.update ..).extBut.push _).push _) ⟨_,Heap.get?_push_size _ rfl,rfl⟩)))
theorem GB{tp:Bool}(hit:RowI tp s.heap it l k)(hl:RowL tp s.heap l xs)(hx:xs[k]? = some x){Q:Value->Shared->Prop}(hQ:∀ g,RowI tp g it l (k + 1)->Heap.SameBut it s.heap g->Q x { s with heap:=g }) :
    wpAny (model prog w) A (Builtin.SmallTypes.nextOf (.ref it)) Q E s:=by
  cases tp with
  | true=>exact Mw hit hl hx hQ
  | false=>exact wpAny_nextOf_list_item hit hl hx hQ
theorem Ii{tp:Bool}(hh:A.handled=none)(hit:RowI tp s.heap it l k)(hl:RowL tp s.heap l xs)(hx:xs[k]? = none){Q:Value->Shared->Prop}(hE:∀ g e,Heap.ExtBut it s.heap g->(∃ o,g.get? e=some o/\o.cls=.type "StopIteration")->E (.ref e) { s with heap:=g }) :
    wpAny (model prog w) A (Builtin.SmallTypes.nextOf (.ref it)) Q E s:=by
  cases tp with
  | true=>exact Mv hh hit hl hx hE
  | false=>exact wpAny_nextOf_list_end hh hit hl hx hE
end
structure ZAt(t1 t2:Bool)(h:Heap)(z a b i1 i2 l1 l2:Addr)(f0:Value)(j k:Nat):Prop where
  z:IsZip h z a b f0
  p:IsPair h a (.ref i1) (.ref i2)
  o:∃ u v,IsPair h b u v
  r1:RowI t1 h i1 l1 j
  r2:RowI t2 h i2 l2 k
structure ZNe(z a b i1 i2 l1 l2:Addr):Prop where
  az:a ≠ z
  bz:b ≠ z
  iz:i1 ≠ z
  jz:i2 ≠ z
  ab:a ≠ b
  ai:a ≠ i1
  aj:a ≠ i2
  bi:b ≠ i1
  bj:b ≠ i2
  ij:i1 ≠ i2
  lz:l1 ≠ z
  lb:l1 ≠ b
  li:l1 ≠ i1
  lj:l1 ≠ i2
  mz:l2 ≠ z
  mb:l2 ≠ b
  mi:l2 ≠ i1
  mj:l2 ≠ i2
section
variable{prog:Program}{w:World}{A:Around}{E:Value->Shared->Prop}{s:Shared}{t1 t2:Bool}{z a b i1 i2 l1 l2:Addr}{j k:Nat}{xs ys:Array Value}{x y:Value}
noncomputable abbrev LR(z b i1 i2:Addr)(h h':Heap):Prop:=∀ c o,c ≠ z->c ≠ b->c ≠ i1->c ≠ i2->h.get? c=some o->h'.get? c=some o
theorem Mn(N:ZNe z a b i1 i2 l1 l2)(Z:ZAt t1 t2 s.heap z a b i1 i2 l1 l2 .none j k)(hl1:RowL t1 s.heap l1 xs)(hl2:RowL t2 s.heap l2 ys)(hx:xs[j]? = some x)(hy:ys[k]? = some y){Q:Value->Shared->Prop}
    (hQ:∀ g,ZAt t1 t2 g z a b i1 i2 l1 l2 (rawInt s.heap.objs.size) (j + 1) (k + 1)->IsPair g s.heap.objs.size x y->LR z b i1 i2 s.heap g->Q (.ref s.heap.objs.size) { s with heap:=g }) :
    wpAny (model prog w) A (Builtin.«zip.__next__» ⟨[.ref z],[]⟩) (λ fin s'=>∃ v,fin=.done (.ret v)/\Q v s') E s:=by
  obtain⟨hz,hp,⟨u,v,hb⟩,q1,q2⟩:=Z
  show wpAny _ _ (field (.ref z) 2 >>= _) _ _ _
  refine wpAny_bind (wpAny_field hz rfl (x:=.bool false) rfl ?_)
  show wpAny _ _ (field (.ref z) 3 >>= _) _ _ _
  refine wpAny_bind (wpAny_field hz rfl (x:=.ref a) rfl (wpAny_bind (wpAny_seqItems hp rfl ?_)))
  show wpAny _ _ (Builtin.SmallTypes.ownedTupleIsFree (.ref z) >>= _) _ _ _
  unfold Builtin.SmallTypes.ownedTupleIsFree
  refine wpAny_bind (wpAny_bind (wpAny_field hz rfl (x:=.none) rfl (wpAny_pure ?_)))
  simp only[if_true]
  refine wpAny_bind (wpAny_rule (wpAny_bind (wpAny_field hz rfl (x:=.ref b) rfl ?_)))
  refine wpAny_bind (wpAny_setField_rec hz (by simp) λ g1 z1 s1=>?_)
  have z1:IsZip g1 z a b .ellipsis:=z1
  refine wpAny_bind ?_
  simp only[List.zipIdx_cons,List.zipIdx_nil,List.forIn_cons,List.forIn_nil]
  refine wpAny_bind (wpAny_bind (wpAny_onRaise ?_))
  show wpAny _ _ (Builtin.SmallTypes.nextOf (.ref i1) >>= _) _ _ _
  refine wpAny_bind (GB (s:={ s with heap:=g1 }) (q1.at λ o e=>s1.extBut _ _ N.iz e) (hl1.at λ o e=>s1.extBut _ _ N.lz e) hx λ g2 r2 s2=>wpAny_pure ?_)
  have b2:IsPair g2 b u v:=s2.extBut _ _ N.bi (s1.extBut _ _ N.bz hb)
  refine wpAny_bind (wpAny_seqItems b2 rfl (wpAny_bind (wpAny_updateSeq_pair b2 λ g3 b3 s3=>?_)))
  have b3:IsPair g3 b x v:=b3
  refine wpAny_bind (wpAny_letGo (wpAny_pure (wpAny_bind (wpAny_bind (wpAny_onRaise ?_)))))
  show wpAny _ _ (Builtin.SmallTypes.nextOf (.ref i2) >>= _) _ _ _
  have q3:RowI t2 g3 i2 l2 k:=q2.at λ o e=>s3.extBut _ _ N.bj.symm (s2.extBut _ _ N.ij.symm (s1.extBut _ _ N.jz e))
  have m3:RowL t2 g3 l2 ys:=hl2.at λ o e=>s3.extBut _ _ N.mb (s2.extBut _ _ N.mi (s1.extBut _ _ N.mz e))
  refine wpAny_bind (GB (s:={ s with heap:=g3 }) q3 m3 hy λ g4 r4 s4=>wpAny_pure ?_)
  have b4:IsPair g4 b x v:=s4.extBut _ _ N.bj b3
  refine wpAny_bind (wpAny_seqItems b4 rfl (wpAny_bind (wpAny_updateSeq_pair b4 λ g5 b5 s5=>?_)))
  have b5:IsPair g5 b x y:=b5
  refine wpAny_bind (wpAny_letGo (wpAny_pure (wpAny_pure (wpAny_bind (wpAny_seqItems b5 rfl (wpAny_bind (wpAny_newTuple ?_)))))))
  have sz:g5.objs.size=s.heap.objs.size:=by rw[s5.1,s4.1,s3.1,s2.1,s1.1]
  have z5:IsZip g5 z a b .ellipsis:=s5.extBut _ _ N.bz.symm (s4.extBut _ _ N.jz.symm (s3.extBut _ _ N.bz.symm (s2.extBut _ _ N.iz.symm z1)))
  have kp:LR z b i1 i2 s.heap g5:=λ c o c1 c2 c3 c4 e=>s5.extBut _ _ c2 (s4.extBut _ _ c4 (s3.extBut _ _ c2 (s2.extBut _ _ c3 (s1.extBut _ _ c1 e))))
  have w1:RowI t1 g5 i1 l1 (j + 1):=r2.at λ o e=>s5.extBut _ _ N.bi.symm (s4.extBut _ _ N.ij (s3.extBut _ _ N.bi.symm e))
  have w2:RowI t2 g5 i2 l2 (k + 1):=r4.at λ o e=>s5.extBut _ _ N.bj.symm e
  have zlt:=Heap.lt_size z5
  show wpAny _ _ (Builtin.SmallTypes.ownedTupleHandOut (.ref z) (.ref g5.objs.size) >>= _) _ _ _
  unfold Builtin.SmallTypes.ownedTupleHandOut
  have z6:IsZip (g5.push { cls:=.type "tuple",data:=.seq #[x,y] }) z a b .ellipsis:=Heap.get?_push_of_some _ z5
  refine wpAny_bind (wpAny_bind (wpAny_setField_rec z6 (by simp) λ g7 z7 s7=>?_))
  have z7:IsZip g7 z a b (rawInt g5.objs.size):=z7
  refine wpAny_setField_rec z7 (by simp) λ g8 z8 s8=>wpAny_pure ⟨_,rfl,?_⟩
  have z8:IsZip g8 z a b (rawInt g5.objs.size):=z8
  have up:∀ c o,c ≠ z->g5.get? c=some o->g8.get? c=some o:=λ c o c1 e=>s8.extBut _ _ c1 (s7.extBut _ _ c1 (Heap.get?_push_of_some _ e))
  have t8:IsPair g8 g5.objs.size x y:=s8.extBut _ _ (Nat.ne_of_gt zlt) (s7.extBut _ _ (Nat.ne_of_gt zlt) (Heap.get?_push_size _ rfl))
  show Q (.ref g5.objs.size) _
  rw[sz]at z8 t8 ⊢
  exact hQ g8 ⟨z8,up _ _ N.az (kp _ _ N.az N.ab N.ai N.aj hp),⟨_,_,up _ _ N.bz b5⟩,w1.at λ o e=>up _ o N.iz e,w2.at λ o e=>up _ o N.jz e⟩ t8 λ c o c1 c2 c3 c4 e=>up c o c1 (kp c o c1 c2 c3 c4 e)
theorem Mm(hh:A.handled=none)(N:ZNe z a b i1 i2 l1 l2)(Z:ZAt t1 t2 s.heap z a b i1 i2 l1 l2 .none j k)(hl1:RowL t1 s.heap l1 xs)(hl2:RowL t2 s.heap l2 ys)(hend:xs[j]? = none ∨ ys[k]? = none){Q:Fin->Shared->Prop}
    (hE:∀ g e,LR z b i1 i2 s.heap g->(∃ o,g.get? e=some o/\o.cls=.type "StopIteration")->E (.ref e) { s with heap:=g }) :
    wpAny (model prog w) A (Builtin.«zip.__next__» ⟨[.ref z],[]⟩) Q E s:=by
  obtain⟨hz,hp,⟨u,v,hb⟩,q1,q2⟩:=Z
  show wpAny _ _ (field (.ref z) 2 >>= _) _ _ _
  refine wpAny_bind (wpAny_field hz rfl (x:=.bool false) rfl ?_)
  show wpAny _ _ (field (.ref z) 3 >>= _) _ _ _
  refine wpAny_bind (wpAny_field hz rfl (x:=.ref a) rfl (wpAny_bind (wpAny_seqItems hp rfl ?_)))
  show wpAny _ _ (Builtin.SmallTypes.ownedTupleIsFree (.ref z) >>= _) _ _ _
  unfold Builtin.SmallTypes.ownedTupleIsFree
  refine wpAny_bind (wpAny_bind (wpAny_field hz rfl (x:=.none) rfl (wpAny_pure ?_)))
  simp only[if_true]
  refine wpAny_bind (wpAny_rule (wpAny_bind (wpAny_field hz rfl (x:=.ref b) rfl ?_)))
  refine wpAny_bind (wpAny_setField_rec hz (by simp) λ g1 z1 s1=>?_)
  have z1:IsZip g1 z a b .ellipsis:=z1
  refine wpAny_bind ?_
  simp only[List.zipIdx_cons,List.zipIdx_nil,List.forIn_cons,List.forIn_nil]
  refine wpAny_bind (wpAny_bind (wpAny_onRaise ?_))
  show wpAny _ _ (Builtin.SmallTypes.nextOf (.ref i1) >>= _) _ _ _
  have o1:RowI t1 g1 i1 l1 j:=q1.at λ o e=>s1.extBut _ _ N.iz e
  have m1:RowL t1 g1 l1 xs:=hl1.at λ o e=>s1.extBut _ _ N.lz e
  cases hx:xs[j]? with
  | none=>
    refine wpAny_bind (Ii (s:={ s with heap:=g1 }) hh o1 m1 hx λ g2 e s2 he=>?_)
    obtain⟨oe,he1,he2⟩:=he
    have z2:IsZip g2 z a b .ellipsis:=s2 _ _ N.iz.symm z1
    have ne:e ≠ z:=λ q=>by subst q;rw[z2]at he1;cases he1;simp at he2
    exact wpAny_setField_rec z2 (by simp) λ g3 _ s3=>hE g3 e (λ c o c1 _ c3 _ q=>s3.extBut _ _ c1 (s2 _ _ c3 (s1.extBut _ _ c1 q))) ⟨oe,s3.extBut _ _ ne he1,he2⟩
  | some x=>
    have hy:ys[k]? = none:=by
      rcases hend with q|q
      . rw[hx]at q;cases q
      . exact q
    refine wpAny_bind (GB (s:={ s with heap:=g1 }) o1 m1 hx λ g2 r2 s2=>wpAny_pure ?_)
    have b2:IsPair g2 b u v:=s2.extBut _ _ N.bi (s1.extBut _ _ N.bz hb)
    refine wpAny_bind (wpAny_seqItems b2 rfl (wpAny_bind (wpAny_updateSeq_pair b2 λ g3 b3 s3=>?_)))
    refine wpAny_bind (wpAny_letGo (wpAny_pure (wpAny_bind (wpAny_bind (wpAny_onRaise ?_)))))
    show wpAny _ _ (Builtin.SmallTypes.nextOf (.ref i2) >>= _) _ _ _
    have q3:RowI t2 g3 i2 l2 k:=q2.at λ o e=>s3.extBut _ _ N.bj.symm (s2.extBut _ _ N.ij.symm (s1.extBut _ _ N.jz e))
    have m3:RowL t2 g3 l2 ys:=hl2.at λ o e=>s3.extBut _ _ N.mb (s2.extBut _ _ N.mi (s1.extBut _ _ N.mz e))
    refine wpAny_bind (Ii (s:={ s with heap:=g3 }) hh q3 m3 hy λ g4 e s4 he=>?_)
    obtain⟨oe,he1,he2⟩:=he
    have z4:IsZip g4 z a b .ellipsis:=s4 _ _ N.jz.symm (s3.extBut _ _ N.bz.symm (s2.extBut _ _ N.iz.symm z1))
    have ne:e ≠ z:=λ q=>by subst q;rw[z4]at he1;cases he1;simp at he2
    exact wpAny_setField_rec z4 (by simp) λ g5 _ s5=>hE g5 e (λ c o c1 c2 c3 c4 q=>s5.extBut _ _ c1 (s4 _ _ c4 (s3.extBut _ _ c2 (s2.extBut _ _ c3 (s1.extBut _ _ c1 q))))) ⟨oe,s5.extBut _ _ ne he1,he2⟩
end
noncomputable def SqS(K:PySem.W.Frag)(tp:Bool)(H:Hp)(a:Addr)(xs:List V):Prop:=match tp with
  | true=>SqT K H a xs
  | false=>SqL K H a xs
noncomputable def Itz(K:PySem.W.Frag)(t1 t2:Bool)(a b:Addr):It:=
  ⟨λ i H=>∃ xs ys x y,SqS K t1 H a xs/\SqS K t2 H b ys/\xs[i]? = some x/\ys[i]? = some y,
   λ i H x H'=>∃ p u v,H p=none/\H'=upd H p (.tup [u,v])/\x=.ref p/\(∀ xs,SqS K t1 H a xs->xs[i]? = some u)/\∀ ys,SqS K t2 H b ys->ys[i]? = some v,
   λ i H=>∃ xs ys,SqS K t1 H a xs/\SqS K t2 H b ys/\(xs.length <= i ∨ ys.length <= i)⟩
section
variable{X:Cx}{pins:List (Addr × Obj)}{σ:List (Option V)}{H:Hp}{s:Shared}
theorem Inv.row{tp:Bool}{a:Addr}{xs:List V}(I:Inv X pins σ H s)(h:SqS X.K tp H a xs):∃ its:List Value,Vals xs its/\RowL tp s.heap a its.toArray/\xs.length <= sizeLine:=by
  cases tp with
  | true=>obtain⟨its,r,p,z⟩:=I.tuple h;exact⟨its,r,(show s.heap.IsTuple a its.toArray from p),z⟩
  | false=>obtain⟨its,r,p,z⟩:=I.list h;exact⟨its,r,p.isList,z⟩
theorem Inv.row_inj{tp:Bool}{a:Addr}{xs ys:List V}(I:Inv X pins σ H s)(h:SqS X.K tp H a xs)(h':SqS X.K tp H a ys):xs=ys:=by
  cases tp with
  | true=>exact I.tuple_inj h h'
  | false=>exact I.list_inj h h'
end
theorem RowL.lt{tp:Bool}{h:Heap}{l:Addr}{xs:Array Value}(x:RowL tp h l xs):l < h.objs.size:=by
  obtain⟨o,n,e,_⟩:=x.obj;exact Heap.lt_size e
theorem Qw{M:Model}{A:Around}{E:Value->Shared->Prop}{s:Shared}{elts:List Expr}{x1}{pos:Pos}{z a b T:Addr}{Q:Unit->Shared->Prop}(hz:IsZip s.heap z a b (rawInt T)){prog:Program}{w:World}
    (hQ:∀ g,IsZip g z a b .none->Heap.SameBut z s.heap g->Q () { s with heap:=g }):wpAny (model prog w) A (letOwnedTupleGo (.Tuple elts x1 pos) (.ref z) (.ref T)) Q E s:=wpAny_letOwnedTupleGo_zip hz hQ
theorem Mu{P:Program}{w:World}{K:PySem.W.Frag}{elts:List Expr}{kk:Nat}{tpos:Pos}{t1 t2:Bool}{z a b i1 i2 l1 l2:Addr}(N:ZNe z a b i1 i2 l1 l2):Turn P w K (.Tuple elts kk tpos) (Itz K t1 t2 l1 l2) [z,a,b,i1,i2] z (λ i h=>ZAt t1 t2 h z a b i1 i2 l1 l2 .none i i) where
  mem:=by simp
  obj:=λ i h st c hc=>by
    obtain⟨hz,hp,⟨u,v,hb⟩,q1,q2⟩:=st
    simp only[List.mem_cons,List.not_mem_nil,or_false]at hc
    rcases hc with rfl|rfl|rfl|rfl|rfl
    . exact⟨_,hz,λ v z=>by cases(show Data.fields _=Data.cell v from z)⟩
    . exact⟨_,hp,λ v z=>by cases(show Data.seq _ _=Data.cell v from z)⟩
    . exact⟨_,hb,λ v z=>by cases(show Data.seq _ _=Data.cell v from z)⟩
    . obtain⟨o,e,d⟩:=q1.obj;exact⟨o,e,λ v z=>by rw[d]at z;cases z⟩
    . obtain⟨o,e,d⟩:=q2.obj;exact⟨o,e,λ v z=>by rw[d]at z;cases z⟩
  keep:=λ i h h' st k=>by
    obtain⟨hz,hp,⟨u,v,hb⟩,q1,q2⟩:=st
    exact⟨k z (by simp) _ hz,k a (by simp) _ hp,⟨u,v,k b (by simp) _ hb⟩,q1.at λ o e=>k i1 (by simp) o e,q2.at λ o e=>k i2 (by simp) o e⟩
  item:=by
    intro X hP hw hK hc i pins s σ H E I hf st hg
    subst hP hw hK
    obtain⟨xs,ys,x,y,h1,h2,hx,hy⟩:=hg
    obtain⟨ix,rx,px,zx⟩:=I.row h1
    obtain⟨iy,ry,py,zy⟩:=I.row h2
    obtain⟨u,hu,ru⟩:=rx.get hx
    obtain⟨v,hv,rv⟩:=ry.get hy
    have hT:s.TypeIs (.ref z) "zip":=⟨_,st.z,rfl⟩
    unfold pyNext
    refine wpAny_bind (wpAny_attempt (wpAny_callSpecial?_slot (name:=Str.ofString "__next__") hT F.slot_zip_next (wpAny_call_entry F.slot_zip_next hT F.entry_zip_next
      (Mn N st px py (x:=u) (y:=v) (by simpa using hu) (by simpa using hv) λ g Z g5 kp=>wpAny_pure ⟨_,rfl,?_⟩) (F.args_zip_next_1 _))))
    refine Qw (M:=model X.prog X.w) (s:={ s with heap:=g }) Z.z λ g' z' sb=>?_
    have kp2:∀ c o,c ∉ [z,a,b,i1,i2]->s.heap.get? c=some o->g'.get? c=some o:=λ c o nc e=>by
      simp only[List.mem_cons,List.not_mem_nil,or_false,not_or]at nc
      exact sb.extBut _ _ nc.1 (kp c o nc.1 nc.2.2.1 nc.2.2.2.1 nc.2.2.2.2 e)
    have hTz:s.heap.objs.size ≠ z:=Nat.ne_of_gt (Heap.lt_size st.z)
    have hpair:IsPair g' s.heap.objs.size u v:=sb.extBut _ _ hTz g5
    have fresh:H s.heap.objs.size=none:=I.hok.fresh (Nat.le_refl _)
    have I2:Inv X pins σ (upd H s.heap.objs.size (.tup [x,y])) { s with heap:=g' }:=I.turnsL (tk:=s.toks) (o:=.tup [x,y]) kp2 hf (Nat.le_refl _)
      (show ObjOk X.prog X.w _ g' _ (.tup [x,y])from⟨by show 2 <= sizeLine;decide,[u,v],.cons ru (.cons rv .nil),⟨_,hpair,rfl,⟨_,rfl⟩,rfl⟩⟩)
    refine⟨.ref s.heap.objs.size,_,I2,rfl,⟨_,x,y,fresh,rfl,rfl,λ xs' q=>by rw[I.row_inj q h1];exact hx,λ ys' q=>by rw[I.row_inj q h2];exact hy⟩,⟨z',?_,?_,?_,?_⟩,λ c hc=>?_⟩
    . exact sb.extBut _ _ N.az Z.p
    . obtain⟨p,q,e⟩:=Z.o;exact⟨p,q,sb.extBut _ _ N.bz e⟩
    . exact Z.r1.at λ o e=>sb.extBut _ _ N.iz e
    . exact Z.r2.at λ o e=>sb.extBut _ _ N.jz e
    . have lt:c < s.heap.objs.size:=by
        obtain⟨hz,hp,⟨u,v,hb⟩,q1,q2⟩:=st
        simp only[List.mem_cons,List.not_mem_nil,or_false]at hc
        rcases hc with rfl|rfl|rfl|rfl|rfl
        . exact Heap.lt_size hz
        . exact Heap.lt_size hp
        . exact Heap.lt_size hb
        . obtain⟨o,e,_⟩:=q1.obj;exact Heap.lt_size e
        . obtain⟨o,e,_⟩:=q2.obj;exact Heap.lt_size e
      rw[AE (Nat.ne_of_lt lt)]
      exact(hf c hc).1
  done:=by
    intro X hP hw hK hc i pins s σ H E I hf st hg
    subst hP hw hK
    obtain⟨xs,ys,h1,h2,hend⟩:=hg
    obtain⟨ix,rx,px,zx⟩:=I.row h1
    obtain⟨iy,ry,py,zy⟩:=I.row h2
    have l1':=rx.length
    have l2':=ry.length
    have hT:s.TypeIs (.ref z) "zip":=⟨_,st.z,rfl⟩
    unfold pyNext
    refine wpAny_bind (wpAny_attempt (wpAny_callSpecial?_slot (name:=Str.ofString "__next__") hT F.slot_zip_next (wpAny_call_entry F.slot_zip_next hT F.entry_zip_next
      (Mm (A:=X.A.in1) (show X.A.in1.handled=none from I.ok.hd hc) N st px py (hend.imp (λ q=>by simp;omega) λ q=>by simp;omega) λ g e kp he=>?_) (F.args_zip_next_1 _))))
    obtain⟨o,ho,hcl⟩:=he
    refine wpAny_bind (wpAny_isInstance (T:="StopIteration") (b:=true) ⟨o,ho,hcl⟩ isSubtype_stop (wpAny_pure ⟨rfl,?_⟩))
    exact I.turns (tk:=s.toks) (λ c o nc e=>by
      simp only[List.mem_cons,List.not_mem_nil,or_false,not_or]at nc
      exact kp c o nc.1 nc.2.2.1 nc.2.2.2.1 nc.2.2.2.2 e) hf
  self:=λ _ _ _ _ _ st h=>wpAny_pyIter_zip st.z h
end L2
namespace L2
open PySem PySem.Spec PyProof.Rows
noncomputable abbrev Cw(tp:Bool)(l:Addr):Obj:={ cls:=.type (match tp with|true=>"tuple_iterator" | false=>"list_iterator"),data:=.fields #[.ref l,.int 0 0] }
noncomputable abbrev zh1(t1:Bool)(h:Heap)(l1:Addr):Heap:=h.push (Cw t1 l1)
noncomputable abbrev zh2(t1 t2:Bool)(h:Heap)(l1 l2:Addr):Heap:=(zh1 t1 h l1).push (Cw t2 l2)
noncomputable abbrev zh3(t1 t2:Bool)(h:Heap)(l1 l2:Addr):Heap:=(zh2 t1 t2 h l1 l2).push { cls:=.type "tuple",data:=.seq #[.ref h.objs.size,.ref (zh1 t1 h l1).objs.size] }
noncomputable abbrev zh4(t1 t2:Bool)(h:Heap)(l1 l2:Addr):Heap:=(zh3 t1 t2 h l1 l2).push { cls:=.type "tuple",data:=.seq #[.none,.none] }
noncomputable abbrev zh5(t1 t2:Bool)(h:Heap)(l1 l2:Addr):Heap:=(zh4 t1 t2 h l1 l2).push { cls:=.type "zip",data:=.fields #[.none,.bool false,.bool false,.ref (zh2 t1 t2 h l1 l2).objs.size,.ref (zh3 t1 t2 h l1 l2).objs.size] }
set_option maxHeartbeats 4000000 in
theorem Mo(t1 t2:Bool)(l1 l2:Addr)(xs ys:Array Value) :
    Meets (Builtin.«zip.__new__» ⟨[.type "zip",.ref l1,.ref l2],[]⟩) (λ _ R s=>RowL t1 s.heap l1 xs/\RowL t2 s.heap l2 ys/\R (.ok (.ret (.ref (zh4 t1 t2 s.heap l1 l2).objs.size))) { s with heap:=zh5 t1 t2 s.heap l1 l2 }):=
  .of_wp λ prog w A R s h=>by
    obtain⟨hp,g,d,tk,os⟩:=s
    obtain⟨q1,q2,h⟩:=h
    have hsub:=sub_zip
    have q2':RowL t2 (hp.push (Cw t1 l1)) l2 ys:=q2.at λ o e=>Heap.get?_push_of_some _ e
    cases t1 <;> cases t2
    . have p1:Heap.IsList (Shared.heap ⟨hp,g,d,tk,os⟩) l1 xs:=q1
      have p2:Heap.IsList (Shared.heap ⟨hp.push (Cw false l1),g,d,tk,os⟩) l2 ys:=q2'
      wp_walk using wpAny_pyIter_list p1,wpAny_pyIter_list p2
      exact⟨_,rfl,h⟩
    . have p1:Heap.IsList (Shared.heap ⟨hp,g,d,tk,os⟩) l1 xs:=q1
      have p2:Heap.IsTuple (Shared.heap ⟨hp.push (Cw false l1),g,d,tk,os⟩) l2 ys:=q2'
      wp_walk using wpAny_pyIter_list p1,wpAny_pyIter_tuple p2
      exact⟨_,rfl,h⟩
    . have p1:Heap.IsTuple (Shared.heap ⟨hp,g,d,tk,os⟩) l1 xs:=q1
      have p2:Heap.IsList (Shared.heap ⟨hp.push (Cw true l1),g,d,tk,os⟩) l2 ys:=q2'
      wp_walk using wpAny_pyIter_tuple p1,wpAny_pyIter_list p2
      exact⟨_,rfl,h⟩
    . have p1:Heap.IsTuple (Shared.heap ⟨hp,g,d,tk,os⟩) l1 xs:=q1
      have p2:Heap.IsTuple (Shared.heap ⟨hp.push (Cw true l1),g,d,tk,os⟩) l2 ys:=q2'
      wp_walk using wpAny_pyIter_tuple p1,wpAny_pyIter_tuple p2
      exact⟨_,rfl,h⟩
theorem On{n l1 l2:Addr}(h1:l1 < n)(h2:l2 < n):ZNe (n + 4) (n + 2) (n + 3) n (n + 1) l1 l2:=by
  have k1:@LT.lt Nat _ l1 n:=h1
  have k2:@LT.lt Nat _ l2 n:=h2
  constructor <;> (intro z;have z:@Eq Nat _ _:=z;omega)
theorem Jj{tp:Bool}{h:Heap}{a l:Addr}(e:h.get? a=some (Cw tp l)):RowI tp h a l 0:=by
  cases tp with
  | true=>exact⟨_,e,rfl,rfl⟩
  | false=>exact⟨_,e,rfl,rfl⟩
section
variable{prog:Program}{w:World}{A:Around}{E:Value->Shared->Prop}{s:Shared}
theorem Mp{t1 t2:Bool}{l1 l2:Addr}{xs ys:Array Value}{Q:Value->Shared->Prop}(q1:RowL t1 s.heap l1 xs)(q2:RowL t2 s.heap l2 ys)
    (h:∀ g,ZAt t1 t2 g (s.heap.objs.size + 4) (s.heap.objs.size + 2) (s.heap.objs.size + 3) s.heap.objs.size (s.heap.objs.size + 1) l1 l2 .none 0 0->(∀ c o,s.heap.get? c=some o->g.get? c=some o)->Q (.ref (s.heap.objs.size + 4)) { s with heap:=g }) :
    wpAny (model prog w) A (call (.type "zip") [.ref l1,.ref l2]) Q E s:=by
  refine callType_new F.called_zip (by decide) (F.typeCall_zip_2 _ _) (F.newCall_zip_2 _ _) (λ obj=>F.args_object_init_3 obj _ _) F.entry_zip_new (Mo t1 t2 l1 l2 xs ys) ⟨q1,q2,?_⟩
  have n1:(zh1 t1 s.heap l1).objs.size=s.heap.objs.size + 1:=Heap.size_push ..
  have n2:(zh2 t1 t2 s.heap l1 l2).objs.size=s.heap.objs.size + 2:=by rw[Heap.size_push,n1]
  have n3:(zh3 t1 t2 s.heap l1 l2).objs.size=s.heap.objs.size + 3:=by rw[Heap.size_push,n2]
  have n4:(zh4 t1 t2 s.heap l1 l2).objs.size=s.heap.objs.size + 4:=by rw[Heap.size_push,n3]
  have up:∀ {g:Heap} {c:Addr} {o x:Obj},g.get? c=some o->(g.push x).get? c=some o:=λ e=>Heap.get?_push_of_some _ e
  have e5:(zh5 t1 t2 s.heap l1 l2).get? (zh4 t1 t2 s.heap l1 l2).objs.size=some _:=Heap.get?_push_size _ rfl
  have e4:(zh5 t1 t2 s.heap l1 l2).get? (zh3 t1 t2 s.heap l1 l2).objs.size=some _:=up (Heap.get?_push_size _ rfl)
  have e3:(zh5 t1 t2 s.heap l1 l2).get? (zh2 t1 t2 s.heap l1 l2).objs.size=some _:=up (up (Heap.get?_push_size _ rfl))
  have e2:(zh5 t1 t2 s.heap l1 l2).get? (zh1 t1 s.heap l1).objs.size=some (Cw t2 l2):=up (up (up (Heap.get?_push_size _ (by cases t2 <;> rfl))))
  have e1:(zh5 t1 t2 s.heap l1 l2).get? s.heap.objs.size=some (Cw t1 l1):=up (up (up (up (Heap.get?_push_size _ (by cases t1 <;> rfl)))))
  show _/\_
  rw[n2,n3,n4]at e5
  rw[n1,n2]at e3
  rw[n3]at e4
  rw[n1]at e2
  rw[n4]
  exact⟨⟨_,e5,rfl⟩,h _ ⟨e5,e3,⟨_,_,e4⟩,Jj e1,Jj e2⟩ λ c o x=>up (up (up (up (up x))))⟩
end
noncomputable def LG(K:PySem.W.Frag)(t1 t2:Bool)(ta:TA):TI:=λ σ H R=>ta σ H λ vs H1=>∃ a b xs ys,vs=[.ref a,.ref b]/\SqS K t1 H1 a xs/\SqS K t2 H1 b ys/\R (Itz K t1 t2 a b) H1
section
variable{X:Cx}
theorem SR{t1 t2:Bool}{a b:Expr}{ta:TA}{elts:List Expr}{kk:Nat}{tpos p pos:Pos}(hg:Gl X "zip")(hm:X.mg "zip"=none)(ha:PA X [a,b] ta)(hs:starEach [a,b] X.env=[(false,eval a X.env),(false,eval b X.env)]:=by rfl)(hs2:starEach [b] X.env=[(false,eval b X.env)]:=by rfl) :
    PI X (.Tuple elts kk tpos) (.Call (.Name "zip" p) [a,b] [] pos) (LG X.K t1 t2 ta):=by
  intro pins s σ H R I h
  refine Call_ (FS I hg hm boot_zip (PyProof.Rows.callWith_type1 (thn (ha pos pins s σ H _ I h) λ us s1 ⟨vs,H1,I1,r1,q1⟩=>?_) (by rw[hs,hs2]) (by rw[hs2];rfl)))
  obtain⟨l1,l2,xs,ys,e,c1,c2,q⟩:=q1
  subst e
  obtain⟨u,v,rfl,ru,rv⟩:=OE r1
  cases ru
  cases rv
  obtain⟨ix,rx,px,zx⟩:=I1.row c1
  obtain⟨iy,ry,py,zy⟩:=I1.row c2
  refine Mp px py λ g Z kp=>wpAny_pyIter_zip Z.z ?_
  refine⟨_,_,_,_,H1,rfl,I1.kept (t':=s1.toks) kp,Mu (On px.lt py.lt),Z,λ c hc=>?_,q⟩
  simp only[List.mem_cons,List.not_mem_nil,or_false]at hc
  have le:s1.heap.objs.size <= c:=by
    rcases hc with rfl|rfl|rfl|rfl|rfl
    . exact Nat.le_add_right _ _
    . exact Nat.le_add_right _ _
    . exact Nat.le_add_right _ _
    . exact Nat.le_refl _
    . exact Nat.le_add_right _ _
  exact I1.fpOk le (I1.hok.fresh le)
theorem Pz(K:PySem.W.Frag){t1 t2:Bool}{a b:Expr}{ta:TA}{elts:List Expr}{kk:Nat}{tpos p pos:Pos}(hg:Gl X "zip")(hm:X.mg "zip"=none)(ha:PA X [a,b] ta)(hK:X.K=K:=by rfl)(hs:starEach [a,b] X.env=[(false,eval a X.env),(false,eval b X.env)]:=by rfl)(hs2:starEach [b] X.env=[(false,eval b X.env)]:=by rfl) :
    PI X (.Tuple elts kk tpos) (.Call (.Name "zip" p) [a,b] [] pos) (LG K t1 t2 ta):=by subst hK;exact SR hg hm ha hs hs2
end
noncomputable def UI(K:PySem.W.Frag)(ρ:List Addr)(H:Hp)(tp:Bool)(a:Addr)(ds:List D)(g:Gd):Prop:=∀ (ρ2:List Addr) (H2:Hp) (hd2:Hd),Ext ρ H ρ2 H2->RH K ρ2 H2 hd2->GOk hd2 g->∃ xs,SqS K tp H2 a xs/\RDs K ρ2 H2 ds xs
noncomputable def RRw(K:PySem.W.Frag)(tp:Bool)(t:TE)(m:MI):Prop:=∀ (ρ:List Addr) (σ:St) (H:Hp) (hd:Hd) (ls:Ls) (Q:VK) (d:List D) (g:Gd) (hd':Hd),RH K ρ H hd->RL K ρ H ls σ->m ls hd=some ((d,g),hd') ->
  (∀ ρ' H' a,Ext ρ H ρ' H'->RH K ρ' H' hd'->GOk hd' g->UI K ρ' H' tp a d g->Q (.ref a) H')->t σ H Q
structure QR(K:PySem.W.Frag)(tp:Bool)(X:Cx)(e:Expr)(t:TE)(m:MI):Prop where
  p:PE X e t
  r:RRw K tp t m
section
variable{K:PySem.W.Frag}{ρ ρ':List Addr}{H H':Hp}{hd hd':Hd}
theorem PJ{t:TE}{m:ME}(h:RE K t m):RRw K false t (Ds m):=by
  intro ρ σ H hd ls Q d g hd' hR hL hm hQ
  obtain⟨⟨d1,h1⟩,e1,hm⟩:=Option.bind_eq_some_iff.mp hm
  dsimp only at hm
  split at hm
  . next n=>
    split at hm
    . next ds q=>
      cases hm
      refine h ρ σ H hd ls _ _ _ hR hL e1 λ ρ1 H1 v x1 R1 r1=>?_
      simp only[RD]at r1
      obtain⟨a,hn,rfl⟩:=r1
      refine hQ ρ1 H1 a x1 R1 (λ p z=>by simp at z;subst z;exact q) λ ρ2 H2 hd2 x2 R2 G2=>?_
      have hn2:ρ2[n]? = some a:=by
        obtain⟨r,rfl,_⟩:=x2.pre
        rw[List.getElem?_append_left (List.getElem?_eq_some_iff.mp hn).1];exact hn
      obtain⟨ys,e4,e5⟩:=R2.lst hn2 (G2 (n,d) (by simp))
      exact⟨ys,SqL.of e4,e5⟩
    . cases hm
  . next ns=>
    cases hm
    refine h ρ σ H hd ls _ _ _ hR hL e1 λ ρ1 H1 v x1 R1 r1=>?_
    simp only[RD]at r1
    obtain⟨a,rfl,q⟩:=r1
    exact hQ ρ1 H1 a x1 R1 (Av _) λ ρ2 H2 hd2 x2 R2 _=>⟨_,(q.grow (x2.grow R1)).sq,Fo⟩
  . cases hm
open Classical in
noncomputable def JF(ma mb:MI):MI:=λ ls hd=>(ma ls hd).bind λ p=>(mb ls p.2).bind λ q=>if GOk q.2 p.1.2 then some ((List.zipWith (λ x y=>Ax [x,y]) p.1.1 q.1.1,p.1.2 ++ q.1.2),q.2)else none
theorem Rk{t1 t2:Bool}{ta tb:TE}{ma mb:MI}(ha:RRw K t1 ta ma)(hb:RRw K t2 tb mb):RIt K (LG K t1 t2 (Bh ta (Bh tb CN))) (JF ma mb):=by
  intro ρ σ H hd ls Q d g hd' hR hL hm hQ
  obtain⟨⟨⟨d1,g1⟩,h1⟩,e1,hm⟩:=Option.bind_eq_some_iff.mp hm
  obtain⟨⟨⟨d2,g2⟩,h2⟩,e2,hm⟩:=Option.bind_eq_some_iff.mp hm
  dsimp only at hm
  split at hm
  . next gk=>
    cases hm
    refine ha ρ σ H hd ls _ d1 g1 h1 hR hL e1 λ ρ1 H1 a x1 R1 G1 S1=>?_
    refine hb ρ1 σ H1 h1 ls _ d2 g2 _ R1 (hL.ext hR x1) e2 λ ρ2 H2 b x2 R2 G2 S2=>?_
    obtain⟨xs,c1,r1⟩:=S1 ρ2 H2 _ x2 R2 gk
    obtain⟨ys,c2,r2⟩:=S2 ρ2 H2 _ .refl R2 G2
    refine⟨a,b,xs,ys,rfl,c1,c2,hQ ρ2 H2 _ (x1.trans R1 x2) R2 (λ p hp=>(List.mem_append.mp hp).elim (gk p) (G2 p)) ?_⟩
    intro ρ3 H3 hd3 x3 R3 G3 i
    obtain⟨xs,c1,r1⟩:=S1 ρ3 H3 _ (x2.trans R2 x3) R3 λ p hp=>G3 p (List.mem_append_left _ hp)
    obtain⟨ys,c2,r2⟩:=S2 ρ3 H3 _ x3 R3 λ p hp=>G3 p (List.mem_append_right _ hp)
    have l1:=r1.len;have l2:=r2.len
    refine⟨λ hi=>?_,λ hi=>⟨xs,ys,c1,c2,?_⟩⟩
    . simp only[List.length_zipWith]at hi
      have i1:d1[i]? = some (d1[i]'(by omega)):=List.getElem?_eq_getElem _
      have i2:d2[i]? = some (d2[i]'(by omega)):=List.getElem?_eq_getElem _
      obtain⟨x,x4,x5⟩:=r1.get i1
      obtain⟨y,y4,y5⟩:=r2.get i2
      refine⟨⟨xs,ys,x,y,c1,c2,x4,y4⟩,λ z H4 hz=>?_⟩
      obtain⟨p,u,v,fp,rfl,rfl,hu,hv⟩:=hz
      have eu:=hu xs c1;rw[x4]at eu;cases eu
      have ev:=hv ys c2;rw[y4]at ev;cases ev
      obtain⟨R4,x6⟩:=R3.hid (ho:=.tup [x,y]) fp
      refine⟨ρ3,Ax [d1[i]'(by omega),d2[i]'(by omega)],x6,rfl,R4,?_,C8 (SqT.of AT) (.cons (x5.ext R3 x6) (.cons (y5.ext R3 x6) .nil))⟩
      simp[List.getElem?_zipWith,i1,i2]
    . simp only[List.length_zipWith]at hi
      omega
  . cases hm
end
section
variable(K:PySem.W.Frag){X:Cx}{a b e:Expr}{ta tb te:TE}{me:ME}{m:MA}
theorem Js(h:QE K X e te me):QR K false X e te (Ds me):=⟨h.p,PJ h.r⟩
theorem S9{t1 t2:Bool}{ma mb:MI}{elts:List Expr}{kk:Nat}{tpos p pos:Pos}(hm:X.mg "zip"=none)(ha:QR K t1 X a ta ma)(hb:QR K t2 X b tb mb)(hg:Gl X "zip":=by rfl)(hK:X.K=K:=by rfl)(hs:starEach [a,b] X.env=[(false,eval a X.env),(false,eval b X.env)]:=by rfl)(hs2:starEach [b] X.env=[(false,eval b X.env)]:=by rfl) :
    QI K X (.Tuple elts kk tpos) (.Call (.Name "zip" p) [a,b] [] pos) (LG K t1 t2 (Bh ta (Bh tb CN))) (JF ma mb):=⟨Pz K hg hm (Am ha.p (Am hb.p Br hs2) (by rw[hs,hs2])) hK hs hs2,Rk ha.r hb.r⟩
end
section
variable{K:PySem.W.Frag}
noncomputable def GH(ml:MA)(mb:ME):ME:=λ ls hd=>(ml ls hd).bind λ p=>(mb ls p.2).bind λ q=>match q.1 with
  | .im (.int i)=>(atI p.1 i).map (·,q.2)
  | _=>none
theorem Ru{ta tb:TE}{ml:MA}{mb:ME}(ha:RN K ta ml)(hb:RE K tb mb):RE K (tOp (IG K) ta tb) (GH ml mb):=by
  intro ρ σ H hd ls Q d hd' hR hL hm hQ
  obtain⟨⟨d1,h1⟩,e1,hm⟩:=Option.bind_eq_some_iff.mp hm
  obtain⟨⟨d2,h2⟩,e2,hm⟩:=Option.bind_eq_some_iff.mp hm
  dsimp only at hm
  split at hm
  . obtain⟨w,e3,e4⟩:=Option.map_eq_some_iff.mp hm
    cases e4
    refine ha ρ σ H hd ls _ d1 h1 hR hL e1 λ ρ1 H1 a xs x1 R1 na oa ea r1=>?_
    refine hb ρ1 σ H1 h1 ls _ _ _ R1 (hL.ext hR x1) e2 λ ρ2 H2 v2 x2 R2 r2=>?_
    simp only[RD,RI]at r2
    subst r2
    have r1':=r1.ext R1 x2
    obtain⟨j,j1,j2⟩:=KJ r1'.len e3
    obtain⟨x,y1,y2⟩:=r1'.get j1
    exact .inl ⟨a,xs,_,x,rfl,rfl,SqL.of (x2.keep a _ ea oa nt),j2 x y1,hQ ρ2 H2 x (x1.trans R1 x2) R2 y2⟩
  . cases hm
noncomputable def JQ(neg:Bool)(x y:PyData)(hd:Hd):Option (D × Hd):=if x.canLay0=true/\y.canLay0=true/\min x.depth y.depth <= 60 then some (.im (.bl (if neg then !PyData.eqv x y else PyData.eqv x y)),hd)else none
noncomputable def Eh(neg:Bool)(ma:ME)(ml:MA):ME:=λ ls hd=>(ma ls hd).bind λ p=>(ml ls p.2).bind λ q=>(pyD q.2 p.1).bind λ x=>(BN q.1).bind λ is=>JQ neg x (.list (I.pys is)) q.2
noncomputable def rEN(K:PySem.W.Frag)(neg:Bool):R2:=λ x y H Q=>∃ d e,Rep K H d x/\Rep K H e y/\d.canLay0=true/\e.canLay0=true/\min d.depth e.depth <= 60/\Q (.bl (if neg then !PyData.eqv d e else PyData.eqv d e)) H
theorem Pb{ρ:List Addr}{H:Hp}{a:Addr}{xs:List V}{ds:List D}{is:List I}(ea:H a=some (.lst xs))(r:RDs K ρ H ds xs)(e:BN ds=some is):Rep K H (.list (I.pys is)) (.ref a):=by
  rw[Dy e]at r
  simp only[Rep]
  exact⟨a,xs,rfl,SqL.of ea,r.is.rep⟩
theorem Pd{neg:Bool}{ta tb:TE}{ma:ME}{ml:MA}(ha:RE K ta ma)(hb:RN K tb ml):RE K (tOp (rEN K neg) ta tb) (Eh neg ma ml):=by
  intro ρ σ H hd ls Q d hd' hR hL hm hQ
  obtain⟨⟨d1,h1⟩,e1,hm⟩:=Option.bind_eq_some_iff.mp hm
  obtain⟨⟨d2,h2⟩,e2,hm⟩:=Option.bind_eq_some_iff.mp hm
  obtain⟨x,e3,hm⟩:=Option.bind_eq_some_iff.mp hm
  obtain⟨is,e4,hm⟩:=Option.bind_eq_some_iff.mp hm
  unfold JQ at hm
  split at hm
  . next c=>
    cases hm
    refine ha ρ σ H hd ls _ d1 h1 hR hL e1 λ ρ1 H1 v x1 R1 r1=>?_
    refine hb ρ1 σ H1 h1 ls _ d2 _ R1 (hL.ext hR x1) e2 λ ρ2 H2 a xs x2 R2 na oa ea r2=>?_
    exact⟨_,_,Db R2 (r1.ext R1 x2) e3,Pb ea r2 e4,c.1,c.2.1,c.2.2,hQ ρ2 H2 _ (x1.trans R1 x2) R2 (by simp[RD,RI])⟩
  . cases hm
end
theorem Sf(K:PySem.W.Frag){X:Cx}(hu:X.A.units + 64 < cLine)(hK:X.K=K:=by rfl):OpR X (compareOp .NotEq) (rEN K true):=Fi K hu hK
section
variable(K:PySem.W.Frag){X:Cx}{a b e:Expr}{ta tb te:TE}{ma mb me:ME}{m mk:MA}{pos:Pos}{op:CmpOp}{neg:Bool}
theorem Lx(ha:QN K X a ta m)(hb:QE K X b tb mb)(hs:He b:=by exact λ _ _=>rfl)(hK:X.K=K:=by rfl):QE K X (.Subscript a b pos) (tOp (IG K) ta tb) (GH m mb):=⟨OZ ((JL K hK).or (K6 K hK)) ha.p hb.p hs,Ru ha.r hb.r⟩
theorem Pl(ho:OpR X (compareOp op) (rEN K neg))(ha:QE K X a ta ma)(hb:QN K X b tb m)(hm:behindInMarks op b=false:=by first|exact Gf _|rfl):QT K X (.Compare a [op] [b] pos) (GS (tOp (rEN K neg) ta tb)) (An (Eh neg ma m)):=⟨HJ ho ha.p hb.p hm,EI (Pd ha.r hb.r)⟩
end
end L2
namespace L2
open PySem PySem.Spec PyProof.Rows
section
variable{prog:Program}{w:World}{A:Around}{E:Value->Shared->Prop}{s:Shared}
end
section
variable{X:Cx}
end
section
variable{K:PySem.W.Frag}
open Classical in
noncomputable def No(m:MA):MA:=λ ls hd=>(m ls hd).bind λ p=>match p.1 with
  | [.im (.int j)]=>if OM j then some (Aj 0 j.toNat,p.2)else none
  | [.im (.int i),.im (.int j)]=>if OL i j then some (Aj i (j - i).toNat,p.2)else none
  | _=>none
noncomputable def U1(m:MA):ME:=λ ls hd=>(No m ls hd).bind λ p=>some (Ax p.1,p.2)
noncomputable def OH(xs:List Int):List Int:=xs.mergeSort (λ a b=>decide (a <= b))
noncomputable def QU(m:MI):MA:=λ ls hd=>(m ls hd).bind λ p=>(BM p.1.1).bind λ ns=>if ns.length < 64 then some ((OH ns).map λ i=>.im (.int i),p.2)else none
end
section
variable(K:PySem.W.Frag){X:Cx}{a b e:Expr}{ta tb te:TE}{me:ME}{m:MA}{t:TA}{p p2 pos pos2:Pos}{es:List Expr}
end
end L2
namespace L2
structure BltA(mg:PySem.Str->Option PySem.Value):Prop where
  list:mg "list"=none
  tuple:mg "tuple"=none
  len:mg "len"=none
  range:mg "range"=none
  repr:mg "repr"=none
  sum:mg "sum"=none
  min:mg "min"=none
  max:mg "max"=none
  abs:mg "abs"=none
  all:mg "all"=none
  any:mg "any"=none
  sorted:mg "sorted"=none
  zip:mg "zip"=none
  isinstance:mg "isinstance"=none
  int:mg "int"=none
  bool:mg "bool"=none
  str:mg "str"=none
  set:mg "set"=none
  enumerate:mg "enumerate"=none
  reversed:mg "reversed"=none
  dict:mg "dict"=none
end L2
namespace L2
open PySem PySem.Spec PyProof.Rows
section
variable{ls:Ls}{hd:Hd}{a b c:MS}{ma mb mc:ME}{ta tb:MT}{m m1 m2:MA}{n:MG}{ns:MGs}{d e:D}
@[simp] theorem T5:AF a b ls hd=(a ls hd).bind λ p=>match p.1 with
  | .nx ls1=>b ls1 p.2
  | f=>some (f,p.2):=rfl
@[simp] theorem Ux:BP ls hd=some (.nx ls,hd):=rfl
@[simp] theorem V1:Bl ma ls hd=(ma ls hd).bind λ p=>some (.nx ls,p.2):=rfl
@[simp] theorem VO:Ah ma ls hd=(ma ls hd).bind λ p=>some (.rt p.1,p.2):=rfl
@[simp] theorem Us:U2 ls hd=some (.rt (.im .non),hd):=rfl
@[simp] theorem Uh:So ls hd=some (.bk ls,hd):=rfl
@[simp] theorem V5:U7 ls hd=some (.ct ls,hd):=rfl
@[simp] theorem VV:BT ta a b ls hd=(ta ls hd).bind λ p=>if p.1=true then a ls p.2 else b ls p.2:=rfl
@[simp] theorem JP:FO ma n ls hd=(ma ls hd).bind λ p=>(n p.1 ls p.2).map λ ls'=>(.nx ls',p.2):=rfl
@[simp] theorem Qh(i:Nat):AU i d ls hd=some (ls.set i (some d)):=rfl
@[simp] theorem Uu(k:Nat):DM k ns d ls hd=(Aa d).bind λ ds=>if ds.length=k then ns ds ls hd else none:=rfl
@[simp] theorem Ue(d:D)(ds:List D):Aw n ns (d :: ds) ls hd=(n d ls hd).bind λ ls1=>ns ds ls1 hd:=rfl
@[simp] theorem Uw:DN [] ls hd=some ls:=rfl
@[simp] theorem T6(ix:List Nat):C2 ix m ls hd=(m ls hd).bind λ p=>if p.1.length=ix.length then some (.nx ((ix.zip p.1).foldl (λ l q=>l.set q.1 (some q.2)) ls),p.2)else none:=rfl
@[simp] theorem Ut(i j k:Nat):Fk i j k m ls hd=C2 [k,j,i] (λ ls hd=>(m ls hd).map λ p=>(p.1.reverse,p.2)) ls hd:=rfl
@[simp] theorem T2(i:Nat):A2 i ls hd=match ls[i]? with
  | some (some d)=>some (d,hd)
  | _=>none:=rfl
@[simp] theorem WU(i:I):mC i ls hd=some (.im i,hd):=rfl
@[simp] theorem Vv(f:D->D->Hd->Option (D × Hd)):mOp f ma mb ls hd=(ma ls hd).bind λ p=>(mb ls p.2).bind λ q=>f p.1 q.1 q.2:=rfl
@[simp] theorem VZ:FP ta tb ls hd=(ta ls hd).bind λ p=>if p.1=true then tb ls p.2 else some (false,p.2):=rfl
@[simp] theorem Vu:mOr ta tb ls hd=(ta ls hd).bind λ p=>if p.1=true then some (true,p.2)else tb ls p.2:=rfl
@[simp] theorem VQ:Sn ta ls hd=(ta ls hd).bind λ p=>some (!p.1,p.2):=rfl
@[simp] theorem T3:Dp ma ls hd=(ma ls hd).bind λ p=>(DL p.2 p.1).map (·,p.2):=rfl
@[simp] theorem Qf:An ma ls hd=(ma ls hd).bind λ p=>match p.1 with
  | .im (.bl b)=>some (b,p.2)
  | _=>none:=rfl
@[simp] theorem Vw:mIf ta ma mb ls hd=(ta ls hd).bind λ p=>if p.1=true then ma ls p.2 else mb ls p.2:=rfl
@[simp] theorem V8:Fm ma mb ls hd=(An ma ls hd).bind λ p=>if p.1=true then mb ls p.2 else some (.im (.bl false),p.2):=rfl
@[simp] theorem VP:UZ ma mb ls hd=(An ma ls hd).bind λ p=>if p.1=true then some (.im (.bl true),p.2)else mb ls p.2:=rfl
@[simp] theorem Uv:U3 ma ls hd=(An ma ls hd).bind λ p=>some (.im (.bl (!p.1)),p.2):=rfl
@[simp] theorem VR:A7 ls hd=some ([],hd):=rfl
@[simp] theorem V6:A1 ma m ls hd=(ma ls hd).bind λ p=>(m ls p.2).bind λ q=>some (p.1 :: q.1,q.2):=rfl
open Classical in
@[simp] theorem VL:At m ls hd=(m ls hd).bind λ p=>if C3 p.1.length then some (Ax p.1,p.2)else none:=rfl
open Classical in
@[simp] theorem VT:Ce m ls hd=(m ls hd).bind λ p=>if C3 p.1.length then some (p.1,p.2)else none:=rfl
@[simp] theorem VS:Cm m ls hd=(m ls hd).bind λ p=>some (.mu p.2.length,p.2 ++ [.lst p.1]):=rfl
@[simp] theorem T7:JG ma ls hd=(ma ls hd).bind λ p=>match p.1 with
  | .im (.int i)=>some (.im (.int (-i)),p.2)
  | _=>none:=rfl
@[simp] theorem VU(neg:Bool):FN neg ma ls hd=(ma ls hd).bind λ p=>some (.im (.bl (match p.1 with
  | .im .non=>!neg
  | _=>neg)),p.2):=rfl
@[simp] theorem Vx(g:Int->Int->Option I)(i j:Int):fI g (.im (.int i)) (.im (.int j)) hd=(g i j).map (.im ·,hd):=rfl
@[simp] theorem V0(f g:D->D->Hd->Option (D × Hd)):Ep f g d e hd=match f d e hd with
  | some z=>some z
  | none=>g d e hd:=rfl
@[simp] theorem VY(neg:Bool)(i j:Int):EB neg (.im (.int i)) (.im (.int j)) hd=some (.im (.bl (if neg then !decide (i=j)else decide (i=j))),hd):=by simp[EB,scI,IZ]
@[simp] theorem VX(neg:Bool)(i j:Str):EB neg (.im (.str i)) (.im (.str j)) hd=some (.im (.bl (if neg then !decide (i=j)else decide (i=j))),hd):=by simp[EB,scI,IZ]
@[simp] theorem UD(i:Int):gIx d (.im (.int i)) hd=(BI hd d).bind λ ds=>(atI ds i).map (·,hd):=rfl
@[simp] theorem V4:UA d e hd=(HZ hd d).bind λ kvs=>(FT e).bind λ k=>(RU kvs k).map (·,hd):=rfl
@[simp] theorem Vy(f:List D->Hd->Option (D × Hd)):mCB f m ls hd=(m ls hd).bind λ p=>f p.1 p.2:=rfl
@[simp] theorem UE(tp:Bool)(g:List D->Option D):f1 tp g [d] hd=((if tp then BI hd d else BE hd d)).bind λ ds=>(g ds).map (·,hd):=rfl
@[simp] theorem TF(g:List D->Option D):E9 g m ls hd=(m ls hd).bind λ p=>(g p.1).map (·,p.2):=rfl
@[simp] theorem UC(f:D->List D->Hd->Option (D × Hd)):mMt f ma m ls hd=(ma ls hd).bind λ p=>match BE p.2 p.1 with
  | some _=>(m ls p.2).bind λ q=>f p.1 q.1 q.2
  | none=>none:=rfl
@[simp] theorem Uz(i j:Int):Oh [.im (.int i),.im (.int j)] hd=some (.im (.int (if j > i then j else i)),hd):=rfl
@[simp] theorem Uy(i j:Int):Fu [.im (.int i),.im (.int j)] hd=some (.im (.int (if j < i then j else i)),hd):=rfl
@[simp] theorem Va(i:Int):Ub [.im (.int i)] hd=some (.im (.int (if i < 0 then -i else i)),hd):=rfl
@[simp] theorem T8:GH m ma ls hd=(m ls hd).bind λ p=>(ma ls p.2).bind λ q=>match q.1 with
  | .im (.int i)=>(atI p.1 i).map (·,q.2)
  | _=>none:=rfl
@[simp] theorem T9:Cg ma ls hd=(ma ls hd).bind λ p=>(Aa p.1).map λ ds=>((ds,[]),p.2):=rfl
@[simp] theorem TD:JH m ls hd=(m ls hd).map λ p=>((p.1,[]),p.2):=rfl
@[simp] theorem TC:Ds ma ls hd=(ma ls hd).bind λ p=>match p.1 with
  | .mu n=>match p.2[n]? with
    | some (.lst ds)=>some ((ds,[(n,ds)]),p.2)
    | _=>none
  | .ro ns=>some ((ns.map λ n=>.im (.int n),[]),p.2)
  | _=>none:=rfl
open Classical in
@[simp] theorem TB:Dr m ls hd=(m ls hd).bind λ p=>match p.1 with
  | [.im (.int j)]=>if HF j then some ((Aj 0 j.toNat,[]),p.2)else none
  | _=>none:=rfl
open Classical in
@[simp] theorem Qk:Oe m ls hd=(m ls hd).bind λ p=>match p.1 with
  | [.im (.int i),.im (.int j)]=>if NC i j then some ((Aj i (j - i).toNat,[]),p.2)else none
  | _=>none:=rfl
@[simp] theorem VW(mi:MI):DP mi n a ls hd=(mi ls hd).bind λ p=>Cf n a p.1.2 p.1.1 ls p.2:=rfl
open Classical in
@[simp] theorem V7(k:Nat)(ix:List Nat)(mi:MI):Bm k ix mi n ta ma ls hd=(mi ls hd).bind λ p=>if C3 p.1.1.length then BQ n ta ma p.1.2 p.1.1 (DW k ix ls) p.2 else none:=rfl
@[simp] theorem VJ:C1 ls hd=some (true,hd):=rfl
@[simp] theorem Ug(F:List D->Hd->Option (D × Hd)):EU F m ls hd=(m ls hd).bind λ p=>F p.1 p.2:=rfl
@[simp] theorem UP:Bs ls hd=some (none,hd):=rfl
@[simp] theorem Qg:Cd ma ls hd=(ma ls hd).bind λ p=>match p.1 with
  | .im (.int i)=>some (some i,p.2)
  | _=>none:=rfl
@[simp] theorem Qj:Gk ma ls hd=(ma ls hd).bind λ p=>(BI p.2 p.1).map (·,p.2):=rfl
@[simp] theorem Uf:Gj m ls hd=m ls hd:=rfl
@[simp] theorem VM(ml mh:MO1):LB ma ml mh ls hd=(ma ls hd).bind λ p=>(ml ls p.2).bind λ l=>(mh ls l.2).bind λ h=>(BE h.2 p.1).bind λ ds=>some (Dx ds l.1 h.1,h.2):=rfl
@[simp] theorem T4(ml mh:MO1):E8 ma ml mh ls hd=(ma ls hd).bind λ p=>(ml ls p.2).bind λ l=>(mh ls l.2).bind λ h=>(Aa p.1).bind λ ds=>if ¬ (HT.sIx ds.length 0 l.1=0/\HT.sIx ds.length ds.length h.1=ds.length)then some (Ax (Dx ds l.1 h.1),h.2)else none:=rfl
@[simp] theorem Ur:U1 m ls hd=(No m ls hd).bind λ p=>some (Ax p.1,p.2):=rfl
open Classical in
@[simp] theorem VN:No m ls hd=(m ls hd).bind λ p=>match p.1 with
  | [.im (.int j)]=>if OM j then some (Aj 0 j.toNat,p.2)else none
  | [.im (.int i),.im (.int j)]=>if OL i j then some (Aj i (j - i).toNat,p.2)else none
  | _=>none:=rfl
@[simp] theorem UN(mi:MI):QU mi ls hd=(mi ls hd).bind λ p=>(BM p.1.1).bind λ ns=>if ns.length < 64 then some ((OH ns).map λ i=>.im (.int i),p.2)else none:=rfl
@[simp] theorem V3(ms:List (ME × ME)):U4 ms ls hd=(ES ms ls hd).bind λ p=>if p.1.length <= 15 then some (.mu p.2.length,p.2 ++ [.dic (M9 [] p.1)])else none:=rfl
@[simp] theorem UO:ES [] ls hd=some ([],hd):=rfl
@[simp] theorem Ud(r:List (ME × ME)):ES ((ma,mb) :: r) ls hd=(ma ls hd).bind λ p=>(mb ls p.2).bind λ q=>(ES r ls q.2).bind λ z=>(FT p.1).map λ k=>((k,q.1) :: z.1,z.2):=rfl
open Classical in
@[simp] theorem V2:U5 ma mb mc ls hd=(mc ls hd).bind λ p=>(ma ls p.2).bind λ q=>(mb ls q.2).bind λ r=>(FT r.1).bind λ k=>match q.1 with
  | .mu n=>match r.2[n]? with
    | some (.dic kvs)=>if Ft kvs.length then some (.nx ls,r.2.set n (.dic (Na kvs k p.1)))else none
    | _=>none
  | _=>none:=rfl
@[simp] theorem Qi:E7 ma mb mc ls hd=(mc ls hd).bind λ p=>(ma ls p.2).bind λ q=>(mb ls q.2).bind λ r=>match q.1,r.1 with
  | .mu n,.im (.int i)=>match r.2[n]? with
    | some (.lst ds)=>(ixN ds.length i).map λ j=>(.nx ls,r.2.set n (.lst (ds.set j p.1)))
    | _=>none
  | _,_=>none:=rfl
@[simp] theorem V9(is:List I):Aa (.im (.tup is))=some (is.map .im):=rfl
@[simp] theorem Vf(ds:List D):Aa (.tm ds)=some ds:=rfl
@[simp] theorem Vh(k:Nat):Aa (.mu k)=none:=rfl
@[simp] theorem Vg(k:List Int):Aa (.ro k)=none:=rfl
@[simp] theorem VG(is:List I):BI hd (.im (.tup is))=some (is.map .im):=rfl
@[simp] theorem Vn(ds:List D):BI hd (.tm ds)=some ds:=rfl
@[simp] theorem Vp(k:Nat):BI hd (.mu k)=BE hd (.mu k):=rfl
@[simp] theorem Vo(k:List Int):BI hd (.ro k)=some (k.map λ n=>.im (.int n)):=rfl
@[simp] theorem Vr(k:Nat):BE hd (.mu k)=match hd[k]? with
    | some (.lst ds)=>some ds
    | _=>none:=rfl
@[simp] theorem Vq(k:List Int):BE hd (.ro k)=some (k.map λ n=>.im (.int n)):=rfl
@[simp] theorem Vz(k:Nat):HZ hd (.mu k)=match hd[k]? with
    | some (.dic ds)=>some ds
    | _=>none:=rfl
@[simp] theorem Vt(i:Int):FT (.im (.int i))=some (.inl i):=rfl
@[simp] theorem Vs(i:Str):FT (.im (.str i))=some (.inr i):=rfl
@[simp] theorem Ve:BN []=some []:=rfl
@[simp] theorem W4(i:I)(r:List D):BN (.im i :: r)=(BN r).map (i :: ·):=rfl
@[simp] theorem VH:BM []=some []:=rfl
@[simp] theorem VI(i:Int)(r:List D):BM (.im (.int i) :: r)=(BM r).map (i :: ·):=rfl
@[simp] theorem Vd:C4 []=some []:=rfl
@[simp] theorem W0(i:Bool)(r:List D):C4 (.im (.bl i) :: r)=(C4 r).map (i :: ·):=rfl
@[simp] theorem Cl(is:List I):Ax (is.map .im)=.im (.tup is):=by simp[Ax]
@[simp] theorem UM:Ax []=.im (.tup []):=rfl
@[simp] theorem Uq(i:I):Ax [.im i]=.im (.tup [i]):=rfl
@[simp] theorem Up(i j:I):Ax [.im i,.im j]=.im (.tup [i,j]):=rfl
@[simp] theorem Uo(i j k:I):Ax [.im i,.im j,.im k]=.im (.tup [i,j,k]):=rfl
@[simp] theorem Um(i j k l:I):Ax [.im i,.im j,.im k,.im l]=.im (.tup [i,j,k,l]):=rfl
@[simp] theorem Vc(w:Nat)(i:I):clD w (.im i)=true:=by simp[clD]
@[simp] theorem Vb(w n:Nat):clD w (.mu n)=decide (n < w):=by simp[clD]
@[simp] theorem Ui(w:Nat):BG w []=true:=by simp[BG]
@[simp] theorem Mc(w:Nat)(d:D)(ds:List D):BG w (d :: ds)=(clD w d && BG w ds):=by simp[BG]
@[simp] theorem Cp{α:Type}(x:α)(r:List α):atI (x :: r) 0=some x:=Be (j:=0) rfl
@[simp] theorem Co{α:Type}(x y:α)(r:List α):atI (x :: y :: r) 1=some y:=Be (j:=1) rfl
@[simp] theorem Eu{α:Type}(x y z:α)(r:List α):atI (x :: y :: z :: r) 2=some z:=Be (j:=2) rfl
theorem GL{α:Type}{xs:List α}{i:Int}{k:Nat}{x:α}(hi:i=k)(h:xs[k]? = some x):atI xs i=some x:=by subst hi;exact Be h
@[simp] theorem MR:C3 0:=Az (by decide)
@[simp] theorem FU:C3 1:=Az (by decide)
@[simp] theorem Ch:C3 2:=Az (by decide)
@[simp] theorem Dv:C3 3:=Az (by decide)
@[simp] theorem Sz:C3 4:=Az (by decide)
@[simp] theorem Sy:C3 5:=Az (by decide)
open Classical in
@[simp] theorem TH(k:Nat)(x:D):BS (.mu k) [x] hd=match hd[k]? with
    | some (.lst ds)=>if Ft ds.length then some (.im .non,hd.set k (.lst (ds ++ [x])))else none
    | _=>none:=rfl
theorem Mi{F:List D->Hd->Option (D × Hd)}{ds:List D}{hd1 h2:Hd}{i:I}(h1:m ls hd=some (ds,hd1))(hc:BG 0 ds=true)(hF:F ds []=some (.im i,h2)):AC 0 F m ls hd=some (.im i,hd1):=by
  simp[AC,h1,hc,hF,fin]
theorem JZ{w:Nat}{F:List D->Hd->Option (D × Hd)}{ds:List D}{pre pre' rest g:Hd}{i:I}(hw:pre.length=w)(hw':pre'.length=w)(h1:m ls hd=some (ds,pre ++ rest))(hc:BG w ds=true)(hp:pre.all (clO w)=true)(hp':pre'.all (clO w)=true)(hF:F ds pre=some (.im i,pre' ++ g)):AC w F m ls hd=some (.im i,pre' ++ rest):=by
  subst hw
  have e1:(pre ++ rest).take pre.length=pre:=by simp
  have e2:(pre' ++ g).take pre.length=pre':=by rw[<- hw'];simp
  simp only[AC,h1,Option.bind_some,e1,hc,hp,hF,fin,e2,hp']
  simp
end
end L2
namespace L2
open PySem PySem.Spec PyProof.Rows
noncomputable abbrev LC2(elt tg iter:Expr)(ifs:List Expr)(tg2 iter2:Expr)(ifs2:List Expr)(scope:Scope)(pos:Pos):Expr:=.ListComp elt [⟨tg,iter,ifs,0⟩,⟨tg2,iter2,ifs2,0⟩] scope pos
theorem P4(elt tg iter:Expr)(ifs:List Expr)(tg2 iter2:Expr)(ifs2:List Expr)(scope:Scope)(pos:Pos)(it acc:Value)(env:Env) :
    compTurn (LC2 elt tg iter ifs tg2 iter2 ifs2 scope pos) 0 it acc env=(do
      standAt iter.pos
      match <- pyNext it with
      | none=>pure (.done .next)
      | some v=>
        letOwnedTupleGo tg it v
        assign tg env v
        let mut ok:=true
        for c in ifs do
          if ok then ok <- isTrue c env (eval c env)
        if ok then
          let x <- eval iter2 env
          standAt iter2.pos
          let x <- foldedSetIterable iter2 env x
          let _ <- runOwn (.compStart (LC2 elt tg iter ifs tg2 iter2 ifs2 scope pos) 1 (<- holding [x] (pyIter x)) acc env) env
        again (.compLoop (LC2 elt tg iter ifs tg2 iter2 ifs2 scope pos) 0 it acc env)):=by rfl
theorem P3(elt tg iter:Expr)(ifs:List Expr)(tg2 iter2:Expr)(ifs2:List Expr)(scope:Scope)(pos:Pos)(it acc:Value)(env:Env) :
    compTurn (LC2 elt tg iter ifs tg2 iter2 ifs2 scope pos) 1 it acc env=(do
      standAt iter2.pos
      match <- pyNext it with
      | none=>pure (.done .next)
      | some v=>
        letOwnedTupleGo tg2 it v
        assign tg2 env v
        let mut ok:=true
        for c in ifs2 do
          if ok then ok <- isTrue c env (eval c env)
        if ok then
          (do let _ <- call (.builtin "list.append") [acc,<- eval elt env])
        again (.compLoop (LC2 elt tg iter ifs tg2 iter2 ifs2 scope pos) 1 it acc env)):=by rfl
section
variable{prog:Program}{w:World}{A:Around}{R:Result->Shared->Prop}{s:Shared}{elt tg iter tg2 iter2:Expr}{ifs ifs2:List Expr}{scope:Scope}{pos:Pos}{it acc:Value}{env:Env}
theorem QV(I:Nat->Shared->Prop)
    (turn:∀ n s,I n s->wpAny (model prog w) A (pyNext it) (λ r s₁=>match r with
      | none=>R (.ok .next) s₁
      | some v=>wpAny (model prog w) A (letOwnedTupleGo tg2 it v) (λ _ s₁=>wpAny (model prog w) A (assign tg2 env v) (λ _ s₂=>
          wpAny (model prog w) A (forIn ifs2 true λ c r=>if r=true then do let ok <- isTrue c env (eval c env);pure (ForInStep.yield ok)else pure (ForInStep.yield r)) (λ ok s₃=>
            if ok=true then wpAny (model prog w) A (eval elt env) (λ x s₄=>
              wpAny (model prog w) A (call (.builtin "list.append") [acc,x]) (λ _ s₅=>∃ m,m < n/\I m s₅) (λ _ _=>False) s₄) (λ _ _=>False) s₃
            else ∃ m,m < n/\I m s₃) (λ _ _=>False) s₂) (λ _ _=>False) s₁) (λ _ _=>False) s₁) (λ _ _=>False) s)
    (n:Nat) (h:I n s):codeAny (model prog w) A (.compLoop (LC2 elt tg iter ifs tg2 iter2 ifs2 scope pos) 1 it acc env) R s:=by
  refine codeAny_loop rfl I (λ n s hI=>?_) n h
  show wpAny _ A ((compTurn (LC2 elt tg iter ifs tg2 iter2 ifs2 scope pos) 1 it acc env).onRaise (λ x=>do noteFrame x env;theTreesLotGoes x)) _ _ s
  refine wpAny_noted ?_
  rw[P3]
  refine wpAny_bind (wpAny_standAt (wpAny_bind (wpAny_mono (turn n s hI) (λ r s₁ h₁=>?_) λ _ _ h'=>h'.elim)))
  cases r with
  | none=>exact wpAny_pure h₁
  | some v=>
    refine wpAny_bind (wpAny_mono h₁ (λ _ s₁ h₁=>?_) λ _ _ h'=>h'.elim)
    refine wpAny_bind (wpAny_mono h₁ (λ _ s₂ h₂=>wpAny_bind (wpAny_mono h₂ (λ ok s₃ h₃=>?_) λ _ _ h'=>h'.elim)) λ _ _ h'=>h'.elim)
    cases ok with
    | false=>exact wpAny_pure ⟨rfl,h₃⟩
    | true=>
      exact wpAny_bind (wpAny_bind (wpAny_mono h₃ (λ x s₄ h₄=>wpAny_bind (wpAny_mono h₄ (λ _ s₅ h₅=>wpAny_pure (wpAny_pure ⟨rfl,h₅⟩)) λ _ _ h'=>h'.elim)) λ _ _ h'=>h'.elim))
theorem QY(hs:∀ x,foldedSetIterable iter2 env x=pure x)(I:Nat->Shared->Prop)
    (turn:∀ n s,I n s->wpAny (model prog w) A (pyNext it) (λ r s₁=>match r with
      | none=>R (.ok .next) s₁
      | some v=>wpAny (model prog w) A (letOwnedTupleGo tg it v) (λ _ s₁=>wpAny (model prog w) A (assign tg env v) (λ _ s₂=>
          wpAny (model prog w) A (forIn ifs true λ c r=>if r=true then do let ok <- isTrue c env (eval c env);pure (ForInStep.yield ok)else pure (ForInStep.yield r)) (λ ok s₃=>
            if ok=true then wpAny (model prog w) A (eval iter2 env) (λ x s₄=>wpAny (model prog w) A (pyIter x) (λ it2 s₅=>
              codeAny (model prog w) A (.compStart (LC2 elt tg iter ifs tg2 iter2 ifs2 scope pos) 1 it2 acc env) (λ r s₆=>r=.ok .next/\∃ m,m < n/\I m s₆) s₅) (λ _ _=>False) s₄) (λ _ _=>False) s₃
            else ∃ m,m < n/\I m s₃) (λ _ _=>False) s₂) (λ _ _=>False) s₁) (λ _ _=>False) s₁) (λ _ _=>False) s)
    (n:Nat) (h:I n s):codeAny (model prog w) A (.compLoop (LC2 elt tg iter ifs tg2 iter2 ifs2 scope pos) 0 it acc env) R s:=by
  refine codeAny_loop rfl I (λ n s hI=>?_) n h
  show wpAny _ A ((compTurn (LC2 elt tg iter ifs tg2 iter2 ifs2 scope pos) 0 it acc env).onRaise (λ x=>do noteFrame x env;theTreesLotGoes x)) _ _ s
  refine wpAny_noted ?_
  rw[P4]
  refine wpAny_bind (wpAny_standAt (wpAny_bind (wpAny_mono (turn n s hI) (λ r s₁ h₁=>?_) λ _ _ h'=>h'.elim)))
  cases r with
  | none=>exact wpAny_pure h₁
  | some v=>
    refine wpAny_bind (wpAny_mono h₁ (λ _ s₁ h₁=>?_) λ _ _ h'=>h'.elim)
    refine wpAny_bind (wpAny_mono h₁ (λ _ s₂ h₂=>wpAny_bind (wpAny_mono h₂ (λ ok s₃ h₃=>?_) λ _ _ h'=>h'.elim)) λ _ _ h'=>h'.elim)
    cases ok with
    | false=>exact wpAny_pure ⟨rfl,h₃⟩
    | true=>
      refine wpAny_bind (wpAny_mono h₃ (λ x s₄ h₄=>wpAny_bind (wpAny_standAt ?_)) λ _ _ h'=>h'.elim)
      rw[hs]
      refine wpAny_bind (wpAny_pure (wpAny_bind (wpAny_holding (wpAny_mono h₄ (λ it2 s₅ h₅=>wpAny_bind (wpAny_runOwn (codeAny_mono h₅ λ r s₆ h₆=>?_))) λ _ _ h'=>h'.elim))))
      obtain⟨rfl,h₆⟩:=h₆
      exact wpAny_pure ⟨rfl,h₆⟩
theorem N6(h0:codeAny (model prog w) A (.compLoop (LC2 elt tg iter ifs tg2 iter2 ifs2 scope pos) 1 it acc env) R s)
    (h:wpAny (model prog w) A (pyIter it) (λ it' s'=>codeAny (model prog w) A (.compLoop (LC2 elt tg iter ifs tg2 iter2 ifs2 scope pos) 1 it' acc env) R s') (λ _ _=>False) s) :
    codeAny (model prog w) A (.compStart (LC2 elt tg iter ifs tg2 iter2 ifs2 scope pos) 1 it acc env) R s:=by
  refine codeAny_of_tree ?_
  show wpAny _ _ ((compStart (LC2 elt tg iter ifs tg2 iter2 ifs2 scope pos) 1 it acc env).onRaise (λ x=>do noteFrame x env;standAt theWindowsPlace)) _ _ s
  refine wpAny_notedAt ?_
  unfold compStart
  show wpAny _ _ (ask >>= _) _ _ s
  refine wpAny_bind (wpAny_askSetting (wpAny_ite ?_))
  split
  . exact wpAny_bind (wpAny_pure (wpAny_pure (And.intro rfl h0)))
  . exact wpAny_bind (wpAny_rule (wpAny_bind (wpAny_standAt (wpAny_bind (wpAny_mono h (λ it' s' h'=>wpAny_pure (And.intro rfl h')) λ _ _ x=>x.elim)))))
end
end L2
namespace L2
open PySem PySem.Spec PyProof.Rows
noncomputable def LS(J:It)(D:Addr)(σ0:St)(H0:Hp)(g:TG)(tf:TT)(te:TE)(Q:St->Hp->Prop):Prop:=∃ W:Nat->Nat->St->Hp->Prop,
  (∃ m,W 0 m σ0 H0)/\∀ i m σ H,W i m σ H ->
    ((J.stop i H/\Q σ H) ∨ (J.go i H/\∃ N:St->Hp->Prop,(∀ σ' H',N σ' H'->∃ m',m' < m/\W (i + 1) m' σ' H') /\
      ∀ x H',J.yld i H x H'->g x σ H' λ σ2 H2=>tf σ2 H2 λ b H3=>
        if b=true then te σ2 H3 λ v H4=>∃ ys,H4 D=some (.lst ys)/\ys.length < sizeLine/\N σ2 (upd H4 D (.lst (ys ++ [v])))
        else N σ2 H3))
noncomputable def Ml(J:It)(D:Addr)(σ0:St)(H0:Hp)(g:TG)(tf:TT)(wi2:TI)(g2:TG)(tf2:TT)(te:TE)(Q:VK):Prop:=∃ W:Nat->Nat->St->Hp->Prop,
  (∃ m,W 0 m σ0 (upd H0 D (.lst [])))/\∀ i m σ H,W i m σ H ->
    ((J.stop i H/\Q (.ref D) H) ∨ (J.go i H/\∃ N:St->Hp->Prop,(∀ σ' H',N σ' H'->∃ m',m' < m/\W (i + 1) m' σ' H') /\
      ∀ x H',J.yld i H x H'->g x σ H' λ σ2 H2=>tf σ2 H2 λ b H3=>
        if b=true then wi2 σ2 H3 λ J2 H4=>LS J2 D σ2 H4 g2 tf2 te N
        else N σ2 H3))
noncomputable def FD(n:Nat)(ix:List Nat)(wi:TI)(g:TG)(tf:TT)(wi2:TI)(g2:TG)(tf2:TT)(te:TE):TE:=λ σ H Q=>wi σ H λ J H1=>∀ D,H1 D=none->Ml J D (Es n ix σ) H1 g tf wi2 g2 tf2 te Q
section
variable{X:Cx}
theorem LO{elt tg iter tg2 iter2:Expr}{ifs ifs2:List Expr}{scope:Scope}{pos:Pos}{N':List Str}{s3:Shared}{H3:Hp}{fp3:List Addr}{g:TG}{tf:TT}{te:TE}{pins:List (Addr × Obj)}{σ:St}{H:Hp}{s:Shared}{D it:Addr}{fp:List Addr}{tn:Nat->Heap->Prop}{J:It}{Q:St->Hp->Prop}
    (hc:X.calm=true) (hg:PG (cCx X N' scope s3 H3 fp3) tg2 g) (hf:PF (cCx X N' scope s3 H3 fp3) ifs2 tf) (he:PE (cCx X N' scope s3 H3 fp3) elt te)
    (I:Inv (cCx X N' scope s3 H3 fp3) pins σ H s) (T:Turn X.prog X.w X.K tg2 J fp it tn) (st:tn 0 s.heap) (f2:∀ b ∈ fp,C5 (cCx X N' scope s3 H3 fp3) pins H b) (hW:LS J D σ H g tf te Q) :
    codeAny (model X.prog X.w) X.A (.compStart (LC2 elt tg iter ifs tg2 iter2 ifs2 scope pos) 1 (.ref it) (.ref D) (cCx X N' scope s3 H3 fp3).env)
      (λ r s'=>r=.ok .next/\∃ σ' H',Inv (cCx X N' scope s3 H3 fp3) pins σ' H' s'/\Q σ' H') s:=by
  obtain⟨W,⟨m0,w0⟩,turn⟩:=hW
  have fpX:∀ {H':Hp},(∀ b ∈ fp,H' b=none)->∀ b ∈ fp,C5 (cCx X N' scope s3 H3 fp3) pins H' b:=λ hn b hb=>⟨hn b hb,(f2 b hb).2⟩
  have loop:codeAny (model X.prog X.w) X.A (.compLoop (LC2 elt tg iter ifs tg2 iter2 ifs2 scope pos) 1 (.ref it) (.ref D) (cCx X N' scope s3 H3 fp3).env)
      (λ r s'=>r=.ok .next/\∃ σ' H',Inv (cCx X N' scope s3 H3 fp3) pins σ' H' s'/\Q σ' H') s:=by
    refine QV (λ n s'=>∃ i σ' H',Inv (cCx X N' scope s3 H3 fp3) pins σ' H' s'/\tn i s'.heap/\(∀ b ∈ fp,H' b=none)/\W i n σ' H') ?_ m0
      ⟨0,_,_,I,st,λ b hb=>(f2 b hb).1,w0⟩
    rintro n s5 ⟨i,σ5,H5,I5,st5,fr5,w5⟩
    have w5:=turn i n σ5 H5 w5
    rcases w5 with⟨stop,qn⟩|⟨go,N,hN,step⟩
    . refine thn (T.done (cCx X N' scope s3 H3 fp3) rfl rfl rfl hc i pins s5 σ5 H5 _ I5 (fpX fr5) st5 stop) λ r s6 ⟨hr,I6⟩=>?_
      subst hr
      exact⟨rfl,σ5,H5,I6,qn⟩
    . refine thn (T.item (cCx X N' scope s3 H3 fp3) rfl rfl rfl hc i pins s5 σ5 H5 _ I5 (fpX fr5) st5 go) λ r s6 ⟨u,hr,h6⟩=>?_
      subst hr
      refine thn h6 λ _ s7 ⟨x,H7,I7,r7,y7,st7,fr7⟩=>?_
      have I7':=I7.pinned (fpX fr7) (T.obj _ _ st7)
      have keepI:∀ {σ8:St} {H8:Hp} {s8:Shared},Inv (cCx X N' scope s3 H3 fp3) (pins ++ Dn fp s7.heap) σ8 H8 s8->tn (i + 1) s8.heap/\∀ b ∈ fp,H8 b=none:=λ {σ8 H8 s8} I8=>by
        refine⟨T.keep _ _ _ st7 λ b hb o e=>(I8.pin (b,o) (List.mem_append_right _ (List.mem_append_right _ (Bi hb e)))).1,λ b hb=>?_⟩
        obtain⟨o,e,d⟩:=T.obj _ _ st7 b hb
        exact(I8.pin (b,o) (List.mem_append_right _ (List.mem_append_right _ (Bi hb e)))).2.1
      refine thn (hg _ s7 σ5 H7 x u _ I7' r7 (step x H7 y7)) λ _ s8 ⟨σ8,H8,I8,q8⟩=>?_
      refine thn (hf _ s8 σ8 H8 _ I8 q8) λ b s9 ⟨H9,I9,q9⟩=>?_
      cases b with
      | false=>
        rw[if_neg Bool.false_ne_true]at q9 ⊢
        obtain⟨m',hm,w9⟩:=hN _ _ q9
        exact⟨m',hm,i + 1,σ8,H9,I9.unpinned,(keepI I9).1,(keepI I9).2,w9⟩
      | true=>
        rw[if_pos rfl]at q9 ⊢
        refine thn (he _ s9 σ8 H9 _ I9 q9) λ e10 s10 ⟨v10,H10,I10,r10,ys,hD10,hz,n10⟩=>?_
        obtain⟨m',hm,w10⟩:=hN _ _ n10
        refine Mj (X:=cCx X N' scope s3 H3 fp3) I10 hD10 r10 hz λ _ s11 I11=>?_
        exact⟨m',hm,i + 1,σ8,_,I11.unpinned,(keepI I11).1,(keepI I11).2,w10⟩
  exact N6 loop (T.self X.A 0 _ _ _ st loop)
theorem Fy{elt tg iter tg2 iter2:Expr}{ifs ifs2:List Expr}{scope:Scope}{pos:Pos}{loc fr:List Str}{ix:List Nat}{g g2:TG}{tf tf2:TT}{wi2:TI}{te:TE}{pins:List (Addr × Obj)}{σ:St}{Q:VK}{it:Addr}{fp:List Addr}{tn:Nat->Heap->Prop}{J:It}{H2:Hp}{s2:Shared}{E:Value->Shared->Prop}
    {RR:Value->Addr->Result->Shared->Prop} (hc:X.calm=true) (S:CSc X scope fr ix)
    (hg:∀ s H ex,PG (cCx X (loc ++ fr) scope s H ex) tg g) (hf:∀ s H ex,PF (cCx X (loc ++ fr) scope s H ex) ifs tf) (hi2:∀ s H ex,PI (cCx X (loc ++ fr) scope s H ex) tg2 iter2 wi2) (hg2:∀ s H ex,PG (cCx X (loc ++ fr) scope s H ex) tg2 g2) (hf2:∀ s H ex,PF (cCx X (loc ++ fr) scope s H ex) ifs2 tf2) (he:∀ s H ex,PE (cCx X (loc ++ fr) scope s H ex) elt te)
    (hs2:∀ s H ex x,foldedSetIterable iter2 (cCx X (loc ++ fr) scope s H ex).env x=pure x)
    (I2:Inv X pins σ H2 s2) (T:Turn X.prog X.w X.K tg J fp it tn) (st2:tn 0 s2.heap) (f2:∀ b ∈ fp,C5 X pins H2 b) (hW:∀ D,H2 D=none->Ml J D (Es loc.length ix σ) H2 g tf wi2 g2 tf2 te Q)
    (hfin:∀ (s3 s6:Shared) (H5:Hp) (σ5:St) (D:Addr),Inv X pins σ (upd H2 D (.lst [])) s3->Inv (cCx X (loc ++ fr) scope s3 (upd H2 D (.lst [])) fp) [] σ5 H5 s6->(∀ b ∈ fp,C5 X pins (upd H2 D (.lst [])) b)->Q (.ref D) H5->RR (.ref D) s3.heap.objs.size (.ok .next) s6) :
    wpAny (model X.prog X.w) X.A (newList []) (λ acc s₃=>wpAny (model X.prog X.w) X.A (newFunctionEnv scope X.env.globals (B7 X.env.cells scope.names []) [] X.env.qual none .none (some X.env)) (λ cenv s₄=>
      codeAny (model X.prog X.w) X.A (.compStart (LC2 elt tg iter ifs tg2 iter2 ifs2 scope pos) 0 (.ref it) acc { cenv with scope:=relabel scope X.env }) (RR acc cenv.locals) s₄) E s₃) E s2:=by
  refine wpAny_newObj_type ?_
  have fresh2:H2 s2.heap.objs.size=none:=I2.hok.fresh (Nat.le_refl _)
  have I3:=I2.lnew (its:=[]) (ys:=[]) (t':=s2.toks) .nil (Nat.zero_le _)
  obtain⟨W,⟨m0,w0⟩,turn⟩:=hW s2.heap.objs.size fresh2
  have lt2:∀ b ∈ fp,b < s2.heap.objs.size:=λ b hb=>let ⟨o,e,_⟩:=T.obj 0 _ st2 b hb;Heap.lt_size e
  have f3:∀ b ∈ fp,C5 X pins (upd H2 s2.heap.objs.size (.lst [])) b:=λ b hb=>⟨by rw[AE (Nat.ne_of_lt (lt2 b hb))];exact(f2 b hb).1,(f2 b hb).2⟩
  have lt3:∀ b ∈ fp,b < (s2.heap.push { cls:=.type "list",data:=.seq ([]:List Value).toArray }).objs.size:=λ b hb=>by rw[Heap.size_push];exact Nat.lt_succ_of_lt (lt2 b hb)
  generalize hs3:({ s2 with heap:=s2.heap.push { cls:=.type "list",data:=.seq ([]:List Value).toArray } }:Shared)=s3 at *
  have lt3:∀ b ∈ fp,b < s3.heap.objs.size:=by rw[<- hs3];exact lt3
  have st3:tn 0 s3.heap:=T.keep _ _ _ st2 λ b hb o e=>by rw[<- hs3];exact Heap.get?_push_of_some _ e
  refine K2 λ h' hk hn ho ha=>?_
  have I4:=JM (loc:=loc) S I3 f3 hk hn ho ha lt3
  have fpX:∀ {H':Hp},(∀ b ∈ fp,H' b=none)->∀ b ∈ fp,C5 (cCx X (loc ++ fr) scope s3 (upd H2 s2.heap.objs.size (.lst [])) fp) [] H' b:=λ hn b hb=>
    ⟨hn b hb,(I4.ok.exf b hb).1,I4.ok.exfs b hb,.inl hb,(I4.ok.exf b hb).2,λ p hp=>by cases hp⟩
  have loop:codeAny (model X.prog X.w) X.A (.compLoop (LC2 elt tg iter ifs tg2 iter2 ifs2 scope pos) 0 (.ref it) (.ref s2.heap.objs.size) (O7 scope s3.heap.objs.size X.env))
      (RR (.ref s2.heap.objs.size) s3.heap.objs.size) { s3 with heap:=h' }:=by
    refine QY (hs2 s3 (upd H2 s2.heap.objs.size (.lst [])) fp) (λ n s'=>∃ i σ' H',Inv (cCx X (loc ++ fr) scope s3 (upd H2 s2.heap.objs.size (.lst [])) fp) [] σ' H' s'/\tn i s'.heap/\(∀ b ∈ fp,H' b=none)/\W i n σ' H') ?_ m0
      ⟨0,_,_,I4,T.keep _ _ _ st3 λ b hb o e=>hk b o e,λ b hb=>(f3 b hb).1,w0⟩
    rintro n s5 ⟨i,σ5,H5,I5,st5,fr5,w5⟩
    have w5:=turn i n σ5 H5 w5
    rcases w5 with⟨stop,qn⟩|⟨go,N,hN,step⟩
    . refine thn (T.done (cCx X (loc ++ fr) scope s3 (upd H2 s2.heap.objs.size (.lst [])) fp) rfl rfl rfl hc i [] s5 σ5 H5 _ I5 (fpX fr5) st5 stop) λ r s6 ⟨hr,I6⟩=>?_
      subst hr
      exact hfin s3 s6 H5 σ5 s2.heap.objs.size I3 I6 f3 qn
    . refine thn (T.item (cCx X (loc ++ fr) scope s3 (upd H2 s2.heap.objs.size (.lst [])) fp) rfl rfl rfl hc i [] s5 σ5 H5 _ I5 (fpX fr5) st5 go) λ r s6 ⟨u,hr,h6⟩=>?_
      subst hr
      refine thn h6 λ _ s7 ⟨x,H7,I7,r7,y7,st7,fr7⟩=>?_
      have I7':=I7.pinned (fpX fr7) (T.obj _ _ st7)
      have keepI:∀ {σ8:St} {H8:Hp} {s8:Shared},Inv (cCx X (loc ++ fr) scope s3 (upd H2 s2.heap.objs.size (.lst [])) fp) ([] ++ Dn fp s7.heap) σ8 H8 s8->tn (i + 1) s8.heap/\∀ b ∈ fp,H8 b=none:=λ {σ8 H8 s8} I8=>by
        refine⟨T.keep _ _ _ st7 λ b hb o e=>(I8.pin (b,o) (List.mem_append_right _ (List.mem_append_right _ (Bi hb e)))).1,λ b hb=>?_⟩
        obtain⟨o,e,d⟩:=T.obj _ _ st7 b hb
        exact(I8.pin (b,o) (List.mem_append_right _ (List.mem_append_right _ (Bi hb e)))).2.1
      refine thn (hg s3 (upd H2 s2.heap.objs.size (.lst [])) fp _ s7 σ5 H7 x u _ I7' r7 (step x H7 y7)) λ _ s8 ⟨σ8,H8,I8,q8⟩=>?_
      refine thn (hf s3 (upd H2 s2.heap.objs.size (.lst [])) fp _ s8 σ8 H8 _ I8 q8) λ b s9 ⟨H9,I9,q9⟩=>?_
      cases b with
      | false=>
        rw[if_neg Bool.false_ne_true]at q9 ⊢
        obtain⟨m',hm,w9⟩:=hN _ _ q9
        exact⟨m',hm,i + 1,σ8,H9,I9.unpinned,(keepI I9).1,(keepI I9).2,w9⟩
      | true=>
        rw[if_pos rfl]at q9 ⊢
        refine thn (hi2 s3 (upd H2 s2.heap.objs.size (.lst [])) fp _ s9 σ8 H9 _ I9 q9) λ v10 s10 h10=>thn h10 λ it2 s11 h11=>?_
        obtain⟨itb,fpb,tnb,Jb,Hb,rfl,Ib,Tb,stb,fb,hWb⟩:=h11
        refine codeAny_mono (LO hc (hg2 _ _ _) (hf2 _ _ _) (he _ _ _) Ib Tb stb fb hWb) λ r s12 ⟨hr,σ12,H12,I12,n12⟩=>⟨hr,?_⟩
        obtain⟨m',hm,w12⟩:=hN _ _ n12
        exact⟨m',hm,i + 1,σ12,H12,I12.unpinned,(keepI I12).1,(keepI I12).2,w12⟩
  exact codeAny_compStart_list loop (T.self X.A 0 _ _ _ (T.keep _ _ _ st3 λ b hb o e=>hk b o e) loop)
theorem Ni{elt tg iter tg2 iter2:Expr}{ifs ifs2:List Expr}{scope:Scope}{pos:Pos}{loc fr:List Str}{ix:List Nat}{wi wi2:TI}{g g2:TG}{tf tf2:TT}{te:TE}(hc:X.calm=true)(S:CSc X scope fr ix)(hi:PI X tg iter wi)
    (hg:∀ s H ex,PG (cCx X (loc ++ fr) scope s H ex) tg g) (hf:∀ s H ex,PF (cCx X (loc ++ fr) scope s H ex) ifs tf) (hi2:∀ s H ex,PI (cCx X (loc ++ fr) scope s H ex) tg2 iter2 wi2) (hg2:∀ s H ex,PG (cCx X (loc ++ fr) scope s H ex) tg2 g2) (hf2:∀ s H ex,PF (cCx X (loc ++ fr) scope s H ex) ifs2 tf2) (he:∀ s H ex,PE (cCx X (loc ++ fr) scope s H ex) elt te)
    (hs:∀ x,foldedSetIterable iter X.env x=pure x:=by intro _;rfl) (hs2:∀ s H ex x,foldedSetIterable iter2 (cCx X (loc ++ fr) scope s H ex).env x=pure x:=by intro _ _ _ _;rfl) :
    PE X (LC2 elt tg iter ifs tg2 iter2 ifs2 scope pos) (FD loc.length ix wi g tf wi2 g2 tf2 te):=by
  intro pins s σ H Q I h
  rw[eval_ListComp]
  have hnames:∀ y ∈ scope.names,y.2=.local->scope.names.lookup y.1=some .local:=λ y hy e=>by
    have:=List.all_eq_true.mp S.loc y hy
    rw[e]at this
    simpa using this
  refine wpAny_comprehension_free (use:=none) rfl hs (DQ (S.clos I.ok)) S.kind hnames (thn (hi pins s σ H _ I h) λ v s1 h1=>thn h1 λ itv s2 h2=>?_)
  obtain⟨it,fp,tn,J,H2,rfl,I2,T,st2,f2,hW⟩:=h2
  refine Fy (RR:=λ acc C=>compPost (model X.prog X.w) X.A X.xe none (EP X pins σ Q) acc C) hc S hg hf hi2 hg2 hf2 he hs2 I2 T st2 f2 hW λ s3 s6 H5 σ5 L I3 I6 f3 q=>?_
  obtain⟨m,hm,_⟩:=I6.loc
  exact⟨m,hm,λ h'' hs'=>⟨.ref L,H5,G5 I3 I6 f3 hs',rfl,q⟩⟩
end
end L2
namespace L2
open PySem PySem.Spec PyProof.Rows
open Classical in
noncomputable def mIn(k:Nat)(n:MG)(c:MT)(m:ME)(g:Gd):List D->Ls->Hd->Option (Ls × Hd)
  | [],ls,hd=>some (ls,hd)
  | d :: r,ls,hd=>(n d ls hd).bind λ ls1=>(c ls1 hd).bind λ p=>if p.1=true then(m ls1 p.2).bind λ q=>(BS (.mu k) [q.1] q.2).bind λ z=>if GOk z.2 g then mIn k n c m g r ls1 z.2 else none else if GOk p.2 g then mIn k n c m g r ls1 p.2 else none
open Classical in
noncomputable def DO(k:Nat)(n:MG)(c:MT)(mi:MI)(n2:MG)(c2:MT)(m:ME)(g:Gd):List D->Ls->Hd->Option Hd
  | [],ls,hd=>some hd
  | d :: r,ls,hd=>(n d ls hd).bind λ ls1=>(c ls1 hd).bind λ p=>if p.1=true then(mi ls1 p.2).bind λ q=>(mIn k n2 c2 m q.1.2 q.1.1 ls1 q.2).bind λ z=>if GOk z.2 g then DO k n c mi n2 c2 m g r z.1 z.2 else none else if GOk p.2 g then DO k n c mi n2 c2 m g r ls1 p.2 else none
noncomputable def ET(j:Nat)(ix:List Nat)(mi:MI)(n:MG)(c:MT)(mi2:MI)(n2:MG)(c2:MT)(m:ME):ME:=λ ls hd=>(mi ls hd).bind λ p=>(DO p.2.length n c mi2 n2 c2 m p.1.2 p.1.1 (DW j ix ls) (p.2 ++ [.lst []])).map λ h=>(.mu p.2.length,h)
section
variable{K:PySem.W.Frag}{ρ:List Addr}{H:Hp}{hd:Hd}
theorem Qc{h:Hd}{g:Gd}(G:GOk h g)(r:Hd):GOk (h ++ r) g:=λ p hp=>by
  have:=G p hp
  have hl:p.1 < h.length:=(List.getElem?_eq_some_iff.mp this).1
  rw[List.getElem?_append_left hl];exact this
theorem UV{g:TG}{tf:TT}{te:TE}{n:MG}{c:MT}{m:ME}(hg:RGt K g n)(hf:RT K tf c)(he:RE K te m){J:It}{ds:List D}{gd:Gd}{k:Nat}{Da:Addr}{ls ls':Ls}{hd':Hd}{σ:St}{Q:St->Hp->Prop}
    (hR:RH K ρ H hd) (hL:RL K ρ H ls σ) (G:GOk hd gd) (Y:Gx K ρ H J ds gd) (hk:ρ[k]? = some Da) (hm:mIn k n c m gd ds ls hd=some (ls',hd'))
    (hQ:∀ ρ' H' σ',Ext ρ H ρ' H'->RH K ρ' H' hd'->RL K ρ' H' ls' σ'->Q σ' H'):LS J Da σ H g tf te Q:=by
  refine⟨λ i mm σ2 H2=>mm=ds.length - i/\i <= ds.length/\∃ ρ2 ls2 hd2,Ext ρ H ρ2 H2/\RH K ρ2 H2 hd2/\RL K ρ2 H2 ls2 σ2/\GOk hd2 gd/\mIn k n c m gd (ds.drop i) ls2 hd2=some (ls',hd'),
    ⟨ds.length,by simp,Nat.zero_le _,ρ,ls,hd,.refl,hR,hL,G,by simpa using hm⟩,?_⟩
  rintro i mm σ2 H2 ⟨rfl,hi,ρ2,ls2,hd2,x2,R2,L2',G2,hm2⟩
  obtain⟨Y1,Y2⟩:=Y ρ2 H2 hd2 x2 R2 G2 i
  have hk2:ρ2[k]? = some Da:=by
    obtain⟨r,rfl,_⟩:=x2.pre
    rw[List.getElem?_append_left (List.getElem?_eq_some_iff.mp hk).1];exact hk
  by_cases hlt:i < ds.length
  . obtain⟨go,Y1⟩:=Y1 hlt
    have ed:ds.drop i=ds[i] :: ds.drop (i + 1):=List.drop_eq_getElem_cons hlt
    rw[ed]at hm2
    unfold mIn at hm2
    obtain⟨ls3,e3,hm2⟩:=Option.bind_eq_some_iff.mp hm2
    obtain⟨⟨bb,hd4⟩,e4,hm2⟩:=Option.bind_eq_some_iff.mp hm2
    refine .inr ⟨go,λ σ' H'=>∃ ρ2 ls2 hd2,Ext ρ H ρ2 H'/\RH K ρ2 H' hd2/\RL K ρ2 H' ls2 σ'/\GOk hd2 gd/\mIn k n c m gd (ds.drop (i + 1)) ls2 hd2=some (ls',hd'),λ σ' H' z=>⟨ds.length - (i + 1),by omega,rfl,hlt,z⟩,λ x H3 y=>?_⟩
    obtain⟨ρ3,d3,x3,rfl,R3,e5,r3⟩:=Y1 x H3 y
    have e6:d3=ds[i]:=by
      have:ds[i]? = some ds[i]:=by simp[hlt]
      rw[this]at e5;exact(Option.some.inj e5).symm
    subst e6
    refine hg ρ3 σ2 H3 hd2 ls2 ls3 _ x _ R3 (L2'.ext R2 x3) r3 e3 λ σ4 L4=>?_
    refine hf ρ3 σ4 H3 hd2 ls3 _ bb hd4 R3 L4 e4 λ ρ5 H5 x5 R5=>?_
    have y25:=x3.trans R3 x5
    cases bb with
    | false=>
      rw[if_neg Bool.false_ne_true]at hm2 ⊢
      split at hm2
      . next g5=>exact⟨ρ5,ls3,hd4,x2.trans R2 y25,R5,L4.ext R3 x5,g5,hm2⟩
      . cases hm2
    | true=>
      rw[if_pos rfl]at hm2 ⊢
      obtain⟨⟨z,hd6⟩,e6,hm2⟩:=Option.bind_eq_some_iff.mp hm2
      obtain⟨⟨z7,hd7⟩,e7,hm2⟩:=Option.bind_eq_some_iff.mp hm2
      refine he ρ5 σ4 H5 hd4 ls3 _ z hd6 R5 (L4.ext R3 x5) e6 λ ρ6 H6 v6 x6 R6 r6=>?_
      have y26:=y25.trans R5 x6
      have hk6:ρ6[k]? = some Da:=by
        obtain⟨r,rfl,_⟩:=y26.pre
        rw[List.getElem?_append_left (List.getElem?_eq_some_iff.mp hk2).1];exact hk2
      unfold BS at e7
      dsimp only at e7 hm2
      split at e7
      . next es q=>
        split at e7
        . next c7=>
          cases e7
          obtain⟨xs,e1,e2⟩:=R6.lst hk6 q
          obtain⟨R7,x7⟩:=R6.put hk6 (o:=.lst (es ++ [z])) (ho:=.lst (xs ++ [v6])) ⟨_,rfl,e2.app (.cons r6 .nil)⟩
          refine⟨xs,e1,by rw[e2.len];exact c7,?_⟩
          split at hm2
          . next g7=>exact⟨ρ6,ls3,_,(x2.trans R2 y26).trans R6 x7,R7,((L4.ext R3 x5).ext R5 x6).ext R6 x7,g7,hm2⟩
          . cases hm2
        . cases e7
      . cases e7
  . have e:i=ds.length:=by omega
    subst e
    rw[List.drop_length]at hm2
    unfold mIn at hm2
    cases hm2
    exact .inl ⟨Y2 rfl,hQ ρ2 H2 σ2 x2 R2 L2'⟩
theorem NJ{j:Nat}{ix:List Nat}{wi wi2:TI}{g g2:TG}{tf tf2:TT}{te:TE}{mi mi2:MI}{n n2:MG}{c c2:MT}{m:ME}(hi:RIt K wi mi)(hg:RGt K g n)(hf:RT K tf c)(hi2:RIt K wi2 mi2)(hg2:RGt K g2 n2)(hf2:RT K tf2 c2)(he:RE K te m):RE K (FD j ix wi g tf wi2 g2 tf2 te) (ET j ix mi n c mi2 n2 c2 m):=by
  intro ρ σ H hd ls Q out hd' hR hL hm hQ
  obtain⟨⟨⟨ds,gd⟩,h1⟩,e1,hm⟩:=Option.bind_eq_some_iff.mp hm
  obtain⟨hd2,hm,e2⟩:=Option.map_eq_some_iff.mp hm
  cases e2
  dsimp only at hm
  refine hi ρ σ H hd ls _ ds gd h1 hR hL e1 λ ρ1 H1 J x1 R1 G1 Y=>?_
  intro Da hDa
  obtain⟨R1',x1'⟩:=R1.new (o:=.lst []) (ho:=.lst []) hDa ⟨[],rfl,.nil⟩
  have hk1:(ρ1 ++ [Da])[h1.length]? = some Da:=by rw[<- R1.len];simp
  refine⟨λ i mm σ2 H2=>mm=ds.length - i/\i <= ds.length/\∃ ρ2 ls2 h2,Ext (ρ1 ++ [Da]) (upd H1 Da (.lst [])) ρ2 H2/\RH K ρ2 H2 h2/\RL K ρ2 H2 ls2 σ2/\GOk h2 gd/\DO h1.length n c mi2 n2 c2 m gd (ds.drop i) ls2 h2=some hd',
    ⟨ds.length,by simp,Nat.zero_le _,_,_,_,.refl,R1',KH ((hL.ext hR x1).ext R1 x1'),Qc G1 _,by simpa using hm⟩,?_⟩
  rintro i mm σ2 H2 ⟨rfl,hi',ρ2,ls2,h2,x2,R2,L2',G2,hm2⟩
  have x12:=x1'.trans R1' x2
  obtain⟨Y1,Y2⟩:=Y ρ2 H2 h2 x12 R2 G2 i
  have hk2:ρ2[h1.length]? = some Da:=by
    obtain⟨r,rfl,_⟩:=x2.pre
    rw[List.getElem?_append_left (List.getElem?_eq_some_iff.mp hk1).1];exact hk1
  by_cases hlt:i < ds.length
  . obtain⟨go,Y1⟩:=Y1 hlt
    have ed:ds.drop i=ds[i] :: ds.drop (i + 1):=List.drop_eq_getElem_cons hlt
    rw[ed]at hm2
    unfold DO at hm2
    obtain⟨ls3,e3,hm2⟩:=Option.bind_eq_some_iff.mp hm2
    obtain⟨⟨bb,hd4⟩,e4,hm2⟩:=Option.bind_eq_some_iff.mp hm2
    refine .inr ⟨go,λ σ' H'=>∃ ρ2 ls2 h2,Ext (ρ1 ++ [Da]) (upd H1 Da (.lst [])) ρ2 H'/\RH K ρ2 H' h2/\RL K ρ2 H' ls2 σ'/\GOk h2 gd/\DO h1.length n c mi2 n2 c2 m gd (ds.drop (i + 1)) ls2 h2=some hd',λ σ' H' z=>⟨ds.length - (i + 1),by omega,rfl,hlt,z⟩,λ x H3 y=>?_⟩
    obtain⟨ρ3,d3,x3,rfl,R3,e5,r3⟩:=Y1 x H3 y
    have e6:d3=ds[i]:=by
      have:ds[i]? = some ds[i]:=by simp[hlt]
      rw[this]at e5;exact(Option.some.inj e5).symm
    subst e6
    refine hg ρ3 σ2 H3 h2 ls2 ls3 _ x _ R3 (L2'.ext R2 x3) r3 e3 λ σ4 L4=>?_
    refine hf ρ3 σ4 H3 h2 ls3 _ bb hd4 R3 L4 e4 λ ρ5 H5 x5 R5=>?_
    have y25:=x3.trans R3 x5
    cases bb with
    | false=>
      rw[if_neg Bool.false_ne_true]at hm2 ⊢
      split at hm2
      . next g5=>exact⟨ρ5,ls3,hd4,x2.trans R2 y25,R5,L4.ext R3 x5,g5,hm2⟩
      . cases hm2
    | true=>
      rw[if_pos rfl]at hm2 ⊢
      obtain⟨⟨⟨ds6,g6⟩,hd6⟩,e6,hm2⟩:=Option.bind_eq_some_iff.mp hm2
      obtain⟨⟨ls7,hd7⟩,e7,hm2⟩:=Option.bind_eq_some_iff.mp hm2
      refine hi2 ρ5 σ4 H5 hd4 ls3 _ ds6 g6 hd6 R5 (L4.ext R3 x5) e6 λ ρ6 H6 J6 x6 R6 G6 Y6=>?_
      have y26:=y25.trans R5 x6
      have hk6:ρ6[h1.length]? = some Da:=by
        obtain⟨r,rfl,_⟩:=y26.pre
        rw[List.getElem?_append_left (List.getElem?_eq_some_iff.mp hk2).1];exact hk2
      refine UV hg2 hf2 he R6 ((L4.ext R3 x5).ext R5 x6) G6 Y6 hk6 e7 λ ρ7 H7 σ7 x7 R7 L7=>?_
      dsimp only at hm2
      split at hm2
      . next g7=>exact⟨ρ7,ls7,hd7,(x2.trans R2 y26).trans R6 x7,R7,L7,g7,hm2⟩
      . cases hm2
  . have e:i=ds.length:=by omega
    subst e
    rw[List.drop_length]at hm2
    unfold DO at hm2
    cases hm2
    refine .inl ⟨Y2 rfl,hQ ρ2 H2 _ (x1.trans R1 x12) R2 ?_⟩
    simp only[RD]
    exact⟨Da,hk2,rfl⟩
end
theorem J0(K:PySem.W.Frag){X:Cx}{elt tg iter tg2 iter2:Expr}{ifs ifs2:List Expr}{scope:Scope}{pos:Pos}{loc fr:List Str}{ix:List Nat}{wi wi2:TI}{g g2:TG}{tf tf2:TT}{te:TE}{mi mi2:MI}{n n2:MG}{mf mf2:MT}{mm:ME}(hc:X.calm=true)(S:CSc X scope fr ix)(hi:QI K X tg iter wi mi)
    (hg:∀ s H ex,QG K (cCx X (loc ++ fr) scope s H ex) tg g n) (hf:∀ s H ex,QF K (cCx X (loc ++ fr) scope s H ex) ifs tf mf) (hi2:∀ s H ex,QI K (cCx X (loc ++ fr) scope s H ex) tg2 iter2 wi2 mi2) (hg2:∀ s H ex,QG K (cCx X (loc ++ fr) scope s H ex) tg2 g2 n2) (hf2:∀ s H ex,QF K (cCx X (loc ++ fr) scope s H ex) ifs2 tf2 mf2) (he:∀ s H ex,QE K (cCx X (loc ++ fr) scope s H ex) elt te mm)
    (hs:∀ x,foldedSetIterable iter X.env x=pure x:=by intro _;rfl) (hs2:∀ s H ex x,foldedSetIterable iter2 (cCx X (loc ++ fr) scope s H ex).env x=pure x:=by intro _ _ _ _;rfl) :
    QE K X (.ListComp elt [⟨tg,iter,ifs,0⟩,⟨tg2,iter2,ifs2,0⟩] scope pos) (FD loc.length ix wi g tf wi2 g2 tf2 te) (ET loc.length ix mi n mf mi2 n2 mf2 mm):=
  ⟨Ni hc S hi.p (λ s H ex=>(hg s H ex).p) (λ s H ex=>(hf s H ex).p) (λ s H ex=>(hi2 s H ex).p) (λ s H ex=>(hg2 s H ex).p) (λ s H ex=>(hf2 s H ex).p) (λ s H ex=>(he s H ex).p) hs hs2,
    NJ hi.r (hg X.s₀ X.H₀ []).r (hf X.s₀ X.H₀ []).r (hi2 X.s₀ X.H₀ []).r (hg2 X.s₀ X.H₀ []).r (hf2 X.s₀ X.H₀ []).r (he X.s₀ X.H₀ []).r⟩
end L2
namespace L2
open PySem PySem.Spec PyProof.Rows
@[simp] theorem O0(j:Nat)(ix:List Nat)(mi mi2:MI)(n n2:MG)(c c2:MT)(m:ME)(ls:Ls)(hd:Hd):ET j ix mi n c mi2 n2 c2 m ls hd=(mi ls hd).bind λ p=>(DO p.2.length n c mi2 n2 c2 m p.1.2 p.1.1 (DW j ix ls) (p.2 ++ [.lst []])).map λ h=>(.mu p.2.length,h):=rfl
end L2
namespace L2
open PySem PySem.Spec PyProof.Rows PySem.W
section
variable(r:Nat->Int)(n:Nat)
noncomputable def kv(p:Array Nat)(i:Nat):Int:=r (p.getD i 0)
end
section
variable{r:Nat->Int}{n:Nat}
end
end L2
namespace L2
open PySem PySem.Spec PyProof.Rows PySem.W
noncomputable def SO(p:Int × Int):Int:=p.1 * 4000000000 + p.2
noncomputable def pok(p:Int × Int):Prop:=-1000000000 <= p.1/\p.1 <= 1000000000/\-1000000000 <= p.2/\p.2 <= 1000000000
section
variable{prog:Program}{w:World}{A:Around}{E:Value->Shared->Prop}{s:Shared}
end
end L2
namespace L2
open PySem PySem.Spec PyProof.Rows PySem.W
section
variable{prog:Program}{w:World}{A:Around}{E:Value->Shared->Prop}{s:Shared}
end
section
variable(K:PySem.W.Frag){X:Cx}
end
noncomputable def DS(p:Int × Int):D:=.im (.tup [.int p.1,.int p.2])
noncomputable def JB:List D->Option (List (Int × Int))
  | []=>some []
  | .im (.tup [.int a,.int b]) :: r=>(JB r).map ((a,b) :: ·)
  | _=>none
noncomputable def OG(ps:List (Int × Int)):List (Int × Int):=ps.mergeSort λ a b=>decide (SO a <= SO b)
open Classical in
noncomputable def Nn(m:MI):MA:=λ ls hd=>(m ls hd).bind λ p=>(JB p.1.1).bind λ ps=>if ps.length < 64/\∀ q ∈ ps,pok q then some ((OG ps).map DS,p.2)else none
section
variable{K:PySem.W.Frag}{ρ:List Addr}{H:Hp}{hd:Hd}
open Classical in
noncomputable def T1:D->List D->Hd->Option (D × Hd)
  | .mu n,[.im (.int i)],hd=>match hd[n]? with
    | some (.lst ds)=>if HF i then(ixN ds.length i).bind λ k=>(ds[k]?).map λ y=>(y,hd.set n (.lst (ds.eraseIdx k)))else none
    | _=>none
  | _,_,_=>none
end
end L2
namespace L2
open PySem PySem.Spec PyProof.Rows PySem.W
section
variable(K:PySem.W.Frag){X:Cx}{e:Expr}{te:TE}{p pos:Pos}
end
section
variable{ls:Ls}{hd:Hd}
open Classical in
@[simp] theorem Uc(k:Nat)(i:Int):T1 (.mu k) [.im (.int i)] hd=match hd[k]? with
    | some (.lst ds)=>if HF i then(ixN ds.length i).bind λ j=>(ds[j]?).map λ y=>(y,hd.set k (.lst (ds.eraseIdx j)))else none
    | _=>none:=rfl
open Classical in
@[simp] theorem UB(mi:MI):Nn mi ls hd=(mi ls hd).bind λ p=>(JB p.1.1).bind λ ps=>if ps.length < 64/\∀ q ∈ ps,pok q then some ((OG ps).map DS,p.2)else none:=rfl
end
end L2
namespace L2
open PySem PySem.Spec PyProof.Rows PySem.W
section
variable{m:ME}{ls:Ls}{hd hd':Hd}
end
end L2
namespace L2
open PySem PySem.Spec PyProof.Rows PySem.W
end L2
namespace L2
open PySem PySem.Spec PyProof.Rows
section
variable{prog:Program}{w:World}{A:Around}{R:Result->Shared->Prop}{s:Shared}
end
section
variable{X:Cx}
end
end L2
namespace L2
open PySem PySem.Spec PyProof.Rows
section
variable{K:PySem.W.Frag}{ρ ρ':List Addr}{H H':Hp}{hd hd':Hd}
noncomputable def OF(t:TE):TE:=tCB (λ xs H Q=>∃ a S n,xs=[V.ref a]/\H a=some (.set S n)/\Q (.int n) H) (Bh t CN)
theorem Mg{X:Cx}:CallR X (.builtin "len") (λ xs H Q=>∃ a S n,xs=[V.ref a]/\H a=some (.set S n)/\Q (.int n) H):=by
  intro pins s σ H xs us Q I r h
  obtain⟨a,S,n,rfl,ha,q⟩:=h
  obtain⟨u,rfl,ru⟩:=Ct r
  cases ru
  obtain⟨o,es,ep,t,ho,hex,hd,_,_,hb,hf,rfl⟩:=I.hok a _ ha
  exact call_len_set ho hex hd hf (Int.lt_of_lt_of_le (Int.ofNat_lt.mpr hb) (by decide)) ⟨.int es.size,H,I.tok _,⟨_,rfl⟩,q⟩
theorem Q7{X:Cx}{e:Expr}{te:TE}{p pos:Pos}(hm:X.mg "len"=none)(ha:PE X e te)(hg:Gl X "len":=by rfl)
    (he:starEach [e] X.env=[(false,eval e X.env)]:=by rfl):PE X (.Call (.Name "len" p) [e] [] pos) (OF te):=by
  exact Ck (X:=X) (x:="len") (p:=p) (pos:=pos) Mg hg hm L2.bt_len (Am ha Br he) (by decide) (by decide) he (by rfl)
variable(K:PySem.W.Frag){X:Cx}
variable{a b:Expr}{ta tb:TE}{ma mb:ME}{pos:Pos}
end
end L2
namespace L2
open PySem PySem.Spec PyProof.Rows
noncomputable def WP{α:Type}(o:Option (α × Hd))(Q:α->Hd->Prop):Prop:=∃ z h,o=some (z,h)/\Q z h
noncomputable abbrev WS(m:MS)(ls:Ls)(hd:Hd)(Q:Fl->Hd->Prop):Prop:=WP (m ls hd) Q
noncomputable abbrev WE(m:ME)(ls:Ls)(hd:Hd)(Q:D->Hd->Prop):Prop:=WP (m ls hd) Q
noncomputable abbrev WT(m:MT)(ls:Ls)(hd:Hd)(Q:Bool->Hd->Prop):Prop:=WP (m ls hd) Q
noncomputable abbrev WA(m:MA)(ls:Ls)(hd:Hd)(Q:List D->Hd->Prop):Prop:=WP (m ls hd) Q
noncomputable abbrev WO(m:MO1)(ls:Ls)(hd:Hd)(Q:Option Int->Hd->Prop):Prop:=WP (m ls hd) Q
noncomputable abbrev WI(m:MI)(ls:Ls)(hd:Hd)(Q:List D × Gd->Hd->Prop):Prop:=WP (m ls hd) Q
noncomputable abbrev WF(F:List D->Hd->Option (D × Hd))(ds:List D)(hd:Hd)(Q:D->Hd->Prop):Prop:=WP (F ds hd) Q
section
variable{α β:Type}{o:Option (α × Hd)}{Q:α->Hd->Prop}{R:β->Hd->Prop}{ls:Ls}{hd:Hd}{d e:D}
theorem WP.some{z:α}{h:Hd}(q:Q z h):WP (some (z,h)) Q:=⟨z,h,rfl,q⟩
theorem WP.mono{Q':α->Hd->Prop}(h:WP o Q)(k:∀ z h,Q z h->Q' z h):WP o Q':=let ⟨z,x,e,q⟩:=h;⟨z,x,e,k z x q⟩
theorem WP.bind{f:α × Hd->Option (β × Hd)}(h:WP o λ z x=>WP (f (z,x)) R):WP (o.bind f) R:=by
  obtain⟨z,x,e,q⟩:=h
  rw[e];exact q
theorem WP.eq{z:α}{h:Hd}(e:o=Option.some (z,h))(q:Q z h):WP o Q:=⟨z,h,e,q⟩
end
section
variable{ls:Ls}{hd:Hd}{a b:MS}{ma mb mc:ME}{ta tb:MT}{m m1 m2:MA}{n:MG}{ns:MGs}{mi:MI}{d e:D}{i j:Nat}{QS:Fl->Hd->Prop}{QE:D->Hd->Prop}{QT:Bool->Hd->Prop}{QA:List D->Hd->Prop}{QO:Option Int->Hd->Prop}{QI:List D × Gd->Hd->Prop}
noncomputable def Dz(b:MS)(Q:Fl->Hd->Prop):Fl->Hd->Prop
  | .nx l,h=>WS b l h Q
  | f,h=>Q f h
theorem AG(h:WS a ls hd (Dz b QS)):WS (AF a b) ls hd QS:=by
  obtain⟨f,x,e,q⟩:=h
  show WP (AF a b ls hd) QS
  rw[T5,e]
  cases f <;> first|exact q|exact⟨_,_,rfl,q⟩
theorem A8{l:Ls}{h:Hd}(q:WS b l h QS):Dz b QS (.nx l) h:=q
theorem Mx{h:Hd}(q:QS (.rt d) h):Dz b QS (.rt d) h:=q
theorem BC(h:QS (.nx ls) hd):WS BP ls hd QS:=⟨_,_,rfl,h⟩
theorem Ar(h:WE ma ls hd λ d x=>QS (.rt d) x):WS (Ah ma) ls hd QS:=WP.bind (h.mono λ _ _ q=>WP.some q)
theorem Ao(h:WE ma ls hd λ d x=>QS (.nx (ls.set i (some d))) x):WS (Ag i ma) ls hd QS:=by
  obtain⟨d,x,e,q⟩:=h
  exact⟨_,_,by simp only[JP,e,Option.bind_some,Qh,Option.map_some],q⟩
theorem IM(h:WE ma ls hd λ d x=>∃ l,n d ls x=some l/\QS (.nx l) x):WS (FO ma n) ls hd QS:=by
  obtain⟨d,x,e,l,e2,q⟩:=h
  exact⟨_,_,by simp only[JP,e,Option.bind_some,e2,Option.map_some],q⟩
theorem EF(h:WE ma ls hd λ _ x=>QS (.nx ls) x):WS (Bl ma) ls hd QS:=WP.bind (h.mono λ _ _ q=>WP.some q)
theorem TY(h:WT ta ls hd λ c x=>if c=true then WS a ls x QS else WS b ls x QS):WS (BT ta a b) ls hd QS:=by
  refine WP.bind (h.mono λ c x q=>?_)
  dsimp only
  cases c <;> simpa using q
theorem BX(h:WT ta ls hd λ c x=>(c=true->WS a ls x QS)/\(c=false->WS b ls x QS)):WS (BT ta a b) ls hd QS:=
  TY (h.mono λ c x q=>by cases c <;> simp_all)
theorem ED{ix:List Nat}(h:WA m ls hd λ ds x=>ds.length=ix.length/\QS (.nx ((ix.zip ds).foldl (λ l q=>l.set q.1 (some q.2)) ls)) x):WS (C2 ix m) ls hd QS:=by
  obtain⟨d,x,e,q,q2⟩:=h
  exact⟨_,_,by simp only[T6,e,Option.bind_some,q,if_true],q2⟩
noncomputable def WL(n:MG)(b:MS)(g:Gd)(ds:List D)(ls:Ls)(hd:Hd)(Q:Fl->Hd->Prop):Prop:=WP (Cf n b g ds ls hd) Q
theorem EE(h:WI mi ls hd λ p x=>WL n b p.2 p.1 ls x QS):WS (DP mi n b) ls hd QS:=WP.bind (h.mono λ _ _ q=>q)
noncomputable def IA(g:Gd)(P:Ls->Hd->Prop)(Q:Fl->Hd->Prop):Fl->Hd->Prop
  | .nx l,h=>GOk h g/\P l h
  | .ct l,h=>GOk h g/\P l h
  | .bk l,h=>Q (.nx l) h
  | .rt d,h=>Q (.rt d) h
theorem DB{g:Gd}(P:List D->Ls->Hd->Prop):∀ {ds:List D} {ls:Ls} {hd:Hd},P ds ls hd ->
    (∀ d r ls hd,P (d :: r) ls hd->∃ ls1,n d ls hd=some ls1/\WS b ls1 hd (IA g (P r) QS))->(∀ ls hd,P [] ls hd->QS (.nx ls) hd)->WL n b g ds ls hd QS
  | [],ls,hd,h,_,z=>⟨_,_,by unfold Cf;rfl,z _ _ h⟩
  | d :: r,ls,hd,h,k,z=>by
    obtain⟨ls1,e1,f,x,e2,q⟩:=k d r ls hd h
    unfold WL
    unfold Cf
    rw[e1,Option.bind_some,e2,Option.bind_some]
    cases f with
    | nx l=>exact(show GOk x g/\P r l x from q).1 |> λ g1=>by dsimp only;rw[if_pos g1];exact DB P q.2 k z
    | ct l=>exact(show GOk x g/\P r l x from q).1 |> λ g1=>by dsimp only;rw[if_pos g1];exact DB P q.2 k z
    | bk l=>exact⟨_,_,rfl,q⟩
    | rt l=>exact⟨_,_,rfl,q⟩
theorem A3(h:ls[i]? = some (some d))(q:QE d hd):WE (A2 i) ls hd QE:=⟨d,hd,by rw[T2,h],q⟩
theorem AL{i:I}(q:QE (.im i) hd):WE (mC i) ls hd QE:=⟨_,_,rfl,q⟩
theorem AD{f:D->D->Hd->Option (D × Hd)}(h:WE ma ls hd λ d x=>WE mb ls x λ e y=>WP (f d e y) QE):WE (mOp f ma mb) ls hd QE:=WP.bind (h.mono λ _ _ q=>WP.bind (q.mono λ _ _ q=>q))
theorem Td(h:WT ta ls hd λ c x=>if c=true then WE ma ls x QE else WE mb ls x QE):WE (mIf ta ma mb) ls hd QE:=by
  refine WP.bind (h.mono λ c x q=>?_)
  dsimp only
  cases c <;> simpa using q
theorem RQ(h:WT ta ls hd λ c x=>(c=true->WE ma ls x QE)/\(c=false->WE mb ls x QE)):WE (mIf ta ma mb) ls hd QE:=
  Td (h.mono λ c x q=>by cases c <;> simp_all)
theorem BH(h:WA m ls hd λ ds x=>C3 ds.length/\QE (Ax ds) x):WE (At m) ls hd QE:=WP.bind (h.mono λ ds x q=>by dsimp only;rw[if_pos q.1];exact WP.some q.2)
theorem EG(h:WA m ls hd λ ds x=>QE (.mu x.length) (x ++ [.lst ds])):WE (Cm m) ls hd QE:=WP.bind (h.mono λ _ _ q=>WP.some q)
theorem De{g:List D->Option D}(h:WA m ls hd λ ds x=>∃ d,g ds=some d/\QE d x):WE (E9 g m) ls hd QE:=by
  obtain⟨ds,x,e,d,e2,q⟩:=h
  exact⟨d,x,by simp only[TF,e,Option.bind_some,e2,Option.map_some],q⟩
theorem RO(h:WA m ls hd λ ds x=>WE ma ls x λ e y=>∃ i d,e=.im (.int i)/\atI ds i=some d/\QE d y):WE (GH m ma) ls hd QE:=by
  obtain⟨ds,x,e,d,y,e2,i,z,rfl,e4,q⟩:=h
  exact⟨z,y,by simp only[T8,e,Option.bind_some,e2,e4,Option.map_some],q⟩
theorem Cs{f:List D->Hd->Option (D × Hd)}(h:WA m ls hd λ ds x=>WP (f ds x) QE):WE (mCB f m) ls hd QE:=WP.bind (h.mono λ _ _ q=>q)
theorem I0{f:D->List D->Hd->Option (D × Hd)}(h:WE ma ls hd λ d x=>(∃ l,BE x d=some l)/\WA m ls x λ ds y=>WP (f d ds y) QE):WE (mMt f ma m) ls hd QE:=by
  obtain⟨d,x,e,⟨l,hl⟩,q⟩:=h
  unfold WE
  rw[UC,e,Option.bind_some]
  dsimp only
  rw[hl]
  exact WP.bind (q.mono λ _ _ q=>q)
theorem G8{F:List D->Hd->Option (D × Hd)}(h:WA m ls hd λ ds x=>WF F ds x QE):WE (EU F m) ls hd QE:=WP.bind (h.mono λ _ _ q=>q)
theorem RK(h:WE ma ls hd λ d x=>∃ i,d=.im (.int i)/\QE (.im (.int (-i))) x):WE (JG ma) ls hd QE:=by
  obtain⟨d,x,e,i,rfl,q⟩:=h
  exact⟨_,x,by simp only[T7,e,Option.bind_some],q⟩
theorem P0(h:WT (An ma) ls hd λ c x=>if c=true then WE mb ls x QE else QE (.im (.bl false)) x):WE (Fm ma mb) ls hd QE:=by
  refine WP.bind (h.mono λ c x q=>?_)
  dsimp only
  cases c
  . exact WP.some (by simpa using q)
  . simpa using q
theorem CB(h:WE ma ls hd λ d x=>∃ b,d=.im (.bl b)/\QT b x):WT (An ma) ls hd QT:=by
  obtain⟨d,x,e,b,rfl,q⟩:=h
  exact⟨b,x,by simp only[Qf,e,Option.bind_some],q⟩
theorem FA(h:WE ma ls hd λ d x=>∃ b,DL x d=some b/\QT b x):WT (Dp ma) ls hd QT:=by
  obtain⟨d,x,e,b,e2,q⟩:=h
  exact⟨b,x,by simp only[T3,e,Option.bind_some,e2,Option.map_some],q⟩
theorem Qx(h:WT ta ls hd λ c x=>QT (!c) x):WT (Sn ta) ls hd QT:=WP.bind (h.mono λ _ _ q=>WP.some q)
theorem Qy(h:WT ta ls hd λ c x=>if c=true then WT tb ls x QT else QT false x):WT (FP ta tb) ls hd QT:=by
  refine WP.bind (h.mono λ c x q=>?_)
  dsimp only
  cases c
  . exact WP.some (by simpa using q)
  . simpa using q
theorem TX(h:WT ta ls hd λ c x=>if c=true then QT true x else WT tb ls x QT):WT (mOr ta tb) ls hd QT:=by
  refine WP.bind (h.mono λ c x q=>?_)
  dsimp only
  cases c
  . simpa using q
  . exact WP.some (by simpa using q)
theorem Bn(h:QT true hd):WT C1 ls hd QT:=⟨_,_,rfl,h⟩
theorem AB(h:QA [] hd):WA A7 ls hd QA:=⟨_,_,rfl,h⟩
theorem A4(h:WE ma ls hd λ d x=>WA m ls x λ ds y=>QA (d :: ds) y):WA (A1 ma m) ls hd QA:=WP.bind (h.mono λ _ _ q=>WP.bind (q.mono λ _ _ q=>WP.some q))
theorem GQ(h:WA m ls hd λ ds x=>C3 ds.length/\QA ds x):WA (Ce m) ls hd QA:=WP.bind (h.mono λ ds x q=>by dsimp only;rw[if_pos q.1];exact WP.some q.2)
theorem P2(h:WE ma ls hd λ d x=>∃ ds,BI x d=some ds/\QA ds x):WA (Gk ma) ls hd QA:=by
  obtain⟨d,x,e,ds,e2,q⟩:=h
  exact⟨ds,x,by simp only[Qj,e,Option.bind_some,e2,Option.map_some],q⟩
theorem La{ml mh:MO1}(h:WE ma ls hd λ d x=>WO ml ls x λ l y=>WO mh ls y λ u z=>∃ ds,Aa d=some ds/\¬ (HT.sIx ds.length 0 l=0/\HT.sIx ds.length ds.length u=ds.length)/\QE (Ax (Dx ds l u)) z):WE (E8 ma ml mh) ls hd QE:=by
  obtain⟨d,x,e,l,y,e2,u,z,e3,ds,e4,c,q⟩:=h
  exact⟨_,z,by simp only[T4,e,Option.bind_some,e2,e3,e4];rw[if_pos c],q⟩
theorem OD(h:QO none hd):WO Bs ls hd QO:=⟨_,_,rfl,h⟩
theorem Jg(h:WE ma ls hd λ d x=>∃ i,d=.im (.int i)/\QO (some i) x):WO (Cd ma) ls hd QO:=by
  obtain⟨d,x,e,i,rfl,q⟩:=h
  exact⟨_,x,by simp only[Qg,e,Option.bind_some],q⟩
theorem HB(h:WA m ls hd λ ds x=>∃ k,ds=[.im (.int k)]/\HF k/\QI (Aj 0 k.toNat,[]) x):WI (Dr m) ls hd QI:=by
  obtain⟨ds,x,e,k,rfl,c,q⟩:=h
  exact⟨_,x,by simp only[TB,e,Option.bind_some,c,if_true],q⟩
theorem Tc(h:WA m ls hd λ ds x=>∃ j k,ds=[.im (.int j),.im (.int k)]/\NC j k/\QI (Aj j (k - j).toNat,[]) x):WI (Oe m) ls hd QI:=by
  obtain⟨ds,x,e,j,k,rfl,c,q⟩:=h
  exact⟨_,x,by simp only[Qk,e,Option.bind_some,c,if_true],q⟩
theorem Eb(h:WE ma ls hd λ d x=>∃ ds,Aa d=some ds/\QI (ds,[]) x):WI (Cg ma) ls hd QI:=by
  obtain⟨d,x,e,ds,e2,q⟩:=h
  exact⟨_,x,by simp only[T9,e,Option.bind_some,e2,Option.map_some],q⟩
theorem RJ(h:WA m ls hd λ ds x=>QI (ds,[]) x):WI (JH m) ls hd QI:=by
  obtain⟨ds,x,e,q⟩:=h
  exact⟨_,x,by simp only[TD,e,Option.map_some],q⟩
theorem IQ(h:WE ma ls hd λ d x=>∃ k ds,d=.mu k/\x[k]? = some (.lst ds)/\QI (ds,[(k,ds)]) x):WI (Ds ma) ls hd QI:=by
  obtain⟨d,x,e,k,ds,rfl,e2,q⟩:=h
  exact⟨_,x,by simp only[TC,e,Option.bind_some,e2],q⟩
theorem Bo{k:Nat}{ix:List Nat}(h:WI mi ls hd λ p x=>C3 p.1.length/\WP (BQ n ta ma p.2 p.1 (DW k ix ls) x) QA):WA (Bm k ix mi n ta ma) ls hd QA:=WP.bind (h.mono λ p x q=>by dsimp only;rw[if_pos q.1];exact q.2)
theorem Bg{i j:Int}(q:QE (.im (.int (i + j))) hd):WP (Ab (.im (.int i)) (.im (.int j)) hd) QE:=⟨_,_,by simp,q⟩
theorem LW{i j:Int}(q:QE (.im (.int (i - j))) hd):WP (LL (.im (.int i)) (.im (.int j)) hd) QE:=⟨_,_,by simp,q⟩
theorem CH{i j:Int}(c:Cv i j)(q:QE (.im (.int (i * j))) hd):WP (BJ (.im (.int i)) (.im (.int j)) hd) QE:=⟨_,_,by simp[c],q⟩
theorem R0{i j:Int}(c:Bk j)(q:QE (.im (.int (i % j))) hd):WP (Du (.im (.int i)) (.im (.int j)) hd) QE:=⟨_,_,by simp[c],q⟩
theorem OC{i j:Int}(q:QE (.im (.bl (decide (i < j)))) hd):WP (gLt (.im (.int i)) (.im (.int j)) hd) QE:=⟨_,_,by simp,q⟩
theorem TZ{i j:Int}(q:QE (.im (.bl (decide (i <= j)))) hd):WP (gLe (.im (.int i)) (.im (.int j)) hd) QE:=⟨_,_,by simp,q⟩
theorem KQ{i j:Int}(q:QE (.im (.bl (decide (j < i)))) hd):WP (gGt (.im (.int i)) (.im (.int j)) hd) QE:=⟨_,_,by simp,q⟩
theorem Ta{i j:Int}(q:QE (.im (.bl (decide (j <= i)))) hd):WP (gGe (.im (.int i)) (.im (.int j)) hd) QE:=⟨_,_,by simp,q⟩
theorem IP{i j:Int}(q:QE (.im (.bl (decide (i=j)))) hd):WP (gEq (.im (.int i)) (.im (.int j)) hd) QE:=⟨_,_,by simp,q⟩
theorem Qz{i j:Int}(q:QE (.im (.bl (!decide (i=j)))) hd):WP (gNe (.im (.int i)) (.im (.int j)) hd) QE:=⟨_,_,by simp,q⟩
theorem LX{i j:Str}(q:QE (.im (.bl (decide (i=j)))) hd):WP (gEq (.im (.str i)) (.im (.str j)) hd) QE:=⟨_,_,by simp,q⟩
theorem GM{i j:Str}(q:QE (.im (.bl (!decide (i=j)))) hd):WP (gNe (.im (.str i)) (.im (.str j)) hd) QE:=⟨_,_,by simp,q⟩
theorem AX{i:Int}{ds:List D}(e1:BI hd d=some ds)(e2:atI ds i=some e)(q:QE e hd):WP (gIx d (.im (.int i)) hd) QE:=⟨_,_,by rw[UD,e1,Option.bind_some,e2];rfl,q⟩
theorem Ow{i j:Int}(q:QE (.im (.int (max i j))) hd):WP (Oh [.im (.int i),.im (.int j)] hd) QE:=⟨_,_,rfl,by have:(if j > i then j else i)=max i j:=(by split <;> omega);rw[this];exact q⟩
theorem Gy{i j:Int}(q:QE (.im (.int (min i j))) hd):WP (Fu [.im (.int i),.im (.int j)] hd) QE:=⟨_,_,rfl,by have:(if j < i then j else i)=min i j:=(by split <;> omega);rw[this];exact q⟩
theorem Fc{tp:Bool}{g:List D->Option D}{ds:List D}{z:D}(e1:(if tp then BI hd d else BE hd d)=some ds)(e2:g ds=some z)(q:QE z hd):WP (f1 tp g [d] hd) QE:=⟨_,_,by rw[UE,e1,Option.bind_some,e2];rfl,q⟩
theorem GN{k:Nat}{x:D}{ds:List D}(e1:hd[k]? = some (.lst ds))(c:Ft ds.length)(q:QE (.im .non) (hd.set k (.lst (ds ++ [x])))):WP (BS (.mu k) [x] hd) QE:=⟨_,_,by rw[TH,e1];simp only[c,if_true],q⟩
theorem Ot(h:WE mc ls hd λ p x=>WE ma ls x λ q y=>WE mb ls y λ r z=>∃ w i j ds,q=.mu w/\r=.im (.int i)/\z[w]? = some (.lst ds)/\ixN ds.length i=some j/\QS (.nx ls) (z.set w (.lst (ds.set j p)))):WS (E7 ma mb mc) ls hd QS:=by
  obtain⟨p,x,e1,q,y,e2,r,z,e3,w,i,j,ds,rfl,rfl,e5,c,qq⟩:=h
  exact⟨_,_,by simp only[Qi,e1,Option.bind_some,e2,e3,e5,c,Option.map_some],qq⟩
theorem BU{k n:Nat}{m:MS}{ds:List D}{Q:D->Hd->Prop}(hl:ds.length=k)(h:WS m (ds.map some ++ List.replicate (n - k) none) hd λ f x=>match f with
    | .rt d=>Q d x
    | .nx _=>Q (.im .non) x
    | _=>False):WF (mkF k n m) ds hd Q:=by
  obtain⟨f,x,e,q⟩:=h
  unfold WF mkF
  rw[if_pos hl,e]
  cases f with
  | nx l=>exact⟨_,_,rfl,q⟩
  | rt l=>exact⟨_,_,rfl,q⟩
  | bk l=>exact q.elim
  | ct l=>exact q.elim
theorem B6{F:List D->Hd->Option (D × Hd)}(h:WA m ls hd λ ds x=>BG 0 ds=true/\WF F ds [] λ d _=>∃ i,d=.im i/\QE (.im i) x):WE (AC 0 F m) ls hd QE:=by
  obtain⟨ds,x,e,c,d,y,e2,i,rfl,q⟩:=h
  exact⟨_,_,Mi e c e2,q⟩
end
structure Tap(T:Nat->MO->MO->Prop)(P:List D->Hd->Option (D × Hd)):Prop where
  cl:∀ {k:Nat} {a b:MO},T k a b->clO 2 a=true/\clO 2 b=true
  le:∀ {j k:Nat} {a b:MO},T k a b->j <= k->T j a b
  pick:∀ {k:Nat} {a b:MO} {many:Int},T (k + 1) a b->0 < many->many < 1073741824->∃ r a' b',0 <= r/\r < many/\P [.mu 1,.im (.int many)] [a,b]=some (.im (.int r),[a',b'])/\T k a' b'
section
variable{T:Nat->MO->MO->Prop}{P:List D->Hd->Option (D × Hd)}{a b:MO}{rest:Hd}{ls:Ls}{m:MA}{QE:D->Hd->Prop}{n c:Nat}
theorem Tap.draw(t:Tap T P)(hT:T (n + 1) a b){many:Int}{hd:Hd}(e:m ls hd=some ([.mu 1,.im (.int many)],a :: b :: rest))(h0:0 < many)(h1:many < 1073741824)
    (k:∀ r a' b',T n a' b'->0 <= r->r < many->QE (.im (.int r)) (a' :: b' :: rest)):WE (AC 2 P m) ls hd QE:=by
  obtain⟨r,a',b',p1,p2,e2,hT'⟩:=t.pick hT h0 h1
  refine⟨_,_,JZ (w:=2) (ds:=[.mu 1,.im (.int many)]) (pre:=[a,b]) (pre':=[a',b']) (rest:=rest) (g:=[]) rfl rfl e (by simp) ?_ ?_ (by simpa using e2),k r a' b' hT' p1 p2⟩
  . simp[t.cl hT]
  . simp[t.cl hT']
end
end L2
namespace L2
open PySem PySem.Spec PyProof.Rows
section
variable{K:PySem.W.Frag}{ρ ρ':List Addr}{H H':Hp}{hd hd':Hd}
noncomputable def Fd(w:Nat)(ls:Ls):Ls:=ls.map λ o=>match o with
  | some d=>if clD w d=true then some d else none
  | none=>none
noncomputable def Ec(w:Nat):Fl->Option Fl
  | .nx ls=>some (.nx (Fd w ls))
  | .bk ls=>some (.bk (Fd w ls))
  | .ct ls=>some (.ct (Fd w ls))
  | .rt d=>if clD w d=true then some (.rt d)else none
noncomputable def Gh(w:Nat)(m:MS):MS:=λ ls hd=>if hd.length <= w then(m ls hd).bind λ p=>if(p.2.take w).all (clO w)=true then(Ec w p.1).map λ f=>(f,p.2.take w)else none else none
theorem RL.trim{ls:Ls}{σ:St}(h:RL K ρ H ls σ)(w:Nat):RL K (ρ.take w) H (Fd w ls) σ:=by
  refine⟨by simp[Fd,h.len],λ i d e=>?_⟩
  unfold Fd at e
  rw[List.getElem?_map]at e
  cases q:ls[i]? with
  | none=>rw[q]at e;cases e
  | some o=>
    rw[q]at e
    cases o with
    | none=>simp at e
    | some z=>
      simp only[Option.map_some,Option.some.injEq]at e
      split at e
      . next c=>
        cases e
        obtain⟨v,e1,e2⟩:=h.ob i _ q
        exact⟨v,e1,e2.take w c⟩
      . cases e
theorem Ext.trim(x:Ext ρ H ρ' H'){w:Nat}(h:ρ.length <= w):Ext ρ H (ρ'.take w) H':=by
  obtain⟨r,rfl,fr⟩:=x.pre
  refine⟨⟨r.take (w - ρ.length),?_,λ b hb=>fr b (List.mem_of_mem_take hb)⟩,x.keep,x.tab⟩
  rw[List.take_append,List.take_of_length_le h]
theorem PK{t:TS}{m:MS}(w:Nat)(h:RS K t m):RS K t (Gh w m):=by
  intro ρ σ H hd ls E f hd' hR hL hm hQ
  unfold Gh at hm
  split at hm
  . next hw=>
    obtain⟨⟨f1,h1⟩,e1,hm⟩:=Option.bind_eq_some_iff.mp hm
    dsimp only at hm
    split at hm
    . next c=>
      obtain⟨f2,e2,e3⟩:=Option.map_eq_some_iff.mp hm
      cases e3
      refine h ρ σ H hd ls E f1 h1 hR hL e1 λ ρ1 H1 x1 R1=>?_
      have q:=hQ (ρ1.take w) H1 (x1.trim (by rw[hR.len];exact hw)) (R1.take w c)
      cases f1 with
      | nx l=>simp only[Ec,Option.some.injEq]at e2;subst e2;exact λ σ' L=>q σ' (L.trim w)
      | bk l=>simp only[Ec,Option.some.injEq]at e2;subst e2;exact λ σ' L=>q σ' (L.trim w)
      | ct l=>simp only[Ec,Option.some.injEq]at e2;subst e2;exact λ σ' L=>q σ' (L.trim w)
      | rt d=>
        simp only[Ec]at e2
        split at e2
        . next c2=>cases e2;exact λ v r=>q v (r.take w c2)
        . cases e2
    . cases hm
  . cases hm
theorem Oq{w:Nat}{m:MS}{ls:Ls}{Q:Fl->Hd->Prop}(hw:hd.length <= w)(h:WS m ls hd λ f x=>(x.take w).all (clO w)=true/\∃ f',Ec w f=some f'/\Q f' (x.take w)):WS (Gh w m) ls hd Q:=by
  obtain⟨f,x,e,c,f',e2,q⟩:=h
  exact⟨f',x.take w,by unfold Gh;rw[if_pos hw,e,Option.bind_some];dsimp only;rw[if_pos c,e2];rfl,q⟩
noncomputable def ER(m:MS):MS:=λ ls hd=>Gh hd.length m ls hd
theorem NA{t:TS}{m:MS}(h:RS K t m):RS K t (ER m):=λ ρ σ H hd ls E f hd' hR hL hm hQ=>PK hd.length h ρ σ H hd ls E f hd' hR hL hm hQ
theorem FK(K:PySem.W.Frag){X:Cx}{st:List Stmt}{t:TS}{m:MS}(h:QSs K X st t m):QSs K X st t (ER m):=⟨h.p,NA h.r⟩
theorem G7{m:MS}{ls:Ls}{Q:Fl->Hd->Prop}(h:WS m ls hd λ f x=>(x.take hd.length).all (clO hd.length)=true/\∃ f',Ec hd.length f=some f'/\Q f' (x.take hd.length)):WS (ER m) ls hd Q:=Oq (Nat.le_refl _) h
noncomputable def U6:ME:=λ _ hd=>some (.mu hd.length,hd ++ [.dic []])
theorem Oz{ls:Ls}{Q:D->Hd->Prop}(q:Q (.mu hd.length) (hd ++ [.dic []])):WE U6 ls hd Q:=⟨_,_,rfl,q⟩
end
mutual
theorem JU{v w:Nat}(h:v <= w):∀ {d:D},clD v d=true->clD w d=true
  | .im i,_=>by simp
  | .mu n,c=>by simp at c ⊢;omega
  | .tm ds,c=>by rw[clD]at c ⊢;exact FX h c
  | .ro ns,_=>by rw[clD]
theorem FX{v w:Nat}(h:v <= w):∀ {ds:List D},BG v ds=true->BG w ds=true
  | [],_=>by simp
  | d :: ds,c=>by
    simp only[Mc,Bool.and_eq_true]at c ⊢
    exact⟨JU h c.1,FX h c.2⟩
end
theorem Ho{v w:Nat}(h:v <= w):∀ {ds:List (Key × D)},Er v ds=true->Er w ds=true
  | [],_=>by simp[Er]
  | d :: ds,c=>by
    simp only[Er,Bool.and_eq_true]at c ⊢
    exact⟨JU h c.1,Ho h c.2⟩
theorem O4{v w:Nat}(h:v <= w){o:MO}(c:clO v o=true):clO w o=true:=by
  cases o with
  | lst ds=>exact FX h c
  | dic ds=>exact Ho h c
section
variable{T:Nat->MO->MO->Prop}{P:List D->Hd->Option (D × Hd)}{a b:MO}{rest:Hd}{ls:Ls}{m:MA}{QE:D->Hd->Prop}
theorem Tap.callX(t:Tap T P){n c:Nat}(hT:T (n + c) a b)(ex:Hd){w:Nat}{F:List D->Hd->Option (D × Hd)}{as:List D}{hd:Hd}{R:I->Prop}(e:m ls hd=some (.mu 1 :: as,a :: b :: (ex ++ rest)))(hw:w=ex.length + 2)(ha:BG w as=true)(hx:ex.all (clO w)=true)
    (hF:∀ a b,T (n + c) a b->WF F (.mu 1 :: as) (a :: b :: ex) λ d x=>∃ i a' b' g,d=.im i/\R i/\T n a' b'/\x=a' :: b' :: (ex ++ g))
    (k:∀ i a' b',T n a' b'->R i->QE (.im i) (a' :: b' :: (ex ++ rest))):WE (AC w F m) ls hd QE:=by
  subst hw
  have hcl:∀ o,clO 2 o=true->clO (ex.length + 2) o=true:=λ o h=>O4 (by omega) h
  obtain⟨d,x,e2,i,a',b',g,rfl,hR,hT',rfl⟩:=hF a b hT
  refine⟨_,_,JZ (w:=ex.length + 2) (ds:=.mu 1 :: as) (pre:=a :: b :: ex) (pre':=a' :: b' :: ex) (rest:=rest) (g:=g) rfl rfl e (by simp[ha]) ?_ ?_ e2,k i a' b' hT' hR⟩
  . simp[hcl _ (t.cl hT).1,hcl _ (t.cl hT).2];simpa using hx
  . simp[hcl _ (t.cl hT').1,hcl _ (t.cl hT').2];simpa using hx
theorem Tap.call(t:Tap T P){n c:Nat}(hT:T (n + c) a b){F:List D->Hd->Option (D × Hd)}{as:List D}{hd:Hd}{R:I->Prop}(e:m ls hd=some (.mu 1 :: as,a :: b :: rest))(ha:BG 2 as=true)
    (hF:∀ a b,T (n + c) a b->WF F (.mu 1 :: as) [a,b] λ d x=>∃ i a' b' g,d=.im i/\R i/\T n a' b'/\x=a' :: b' :: g)
    (k:∀ i a' b',T n a' b'->R i->QE (.im i) (a' :: b' :: rest)):WE (AC 2 F m) ls hd QE:=
  t.callX hT [] (w:=2) e rfl ha rfl hF k
end
end L2
namespace L2
open PySem PySem.Spec PyProof.Rows
section
variable{ls:Ls}{hd:Hd}{b:MS}{c:MT}{Q:Fl->Hd->Prop}{QE:D->Hd->Prop}
end
end L2
namespace Bd
open PySem L2
end Bd
namespace Bd
open PySem L2
structure Tp where
  cells:List Int
  nx:Int
  lf:Int
  tn:Int
noncomputable def IB(t:Tp):List (Key × D):=[(.inr "cells",.mu 0),(.inr "next",.im (.int t.nx)),(.inr "left",.im (.int t.lf)),(.inr "turn",.im (.int t.tn))]
noncomputable def tp(t:Tp):Hd:=[.lst (t.cells.map λ i=>.im (.int i)),.dic (IB t)]
@[simp] theorem VD(t:Tp):(tp t).length=2:=rfl
@[simp] theorem WD(t:Tp)(r:Hd):(tp t ++ r)[0]? = some (.lst (t.cells.map λ i=>.im (.int i))):=rfl
@[simp] theorem WC(t:Tp)(r:Hd):(tp t ++ r)[1]? = some (.dic (IB t)):=rfl
@[simp] theorem tp0(t:Tp):(tp t)[0]? = some (.lst (t.cells.map λ i=>.im (.int i))):=rfl
@[simp] theorem tp1(t:Tp):(tp t)[1]? = some (.dic (IB t)):=rfl
section
variable(t:Tp)(v:Int)
@[simp] theorem VF:(IB t).length=4:=rfl
end
theorem Dm:∀ ns:List Int,I.pys (ns.map I.int)=ns.map PyData.int
  | []=>by simp[I.pys]
  | n :: ns=>by simp[I.pys,I.py,Dm ns]
theorem DX(ns:List Int):BN (ns.map λ i=>D.im (.int i))=some (ns.map I.int):=by
  have:(ns.map λ i=>D.im (.int i))=(ns.map I.int).map D.im:=by rw[List.map_map];rfl
  rw[this];exact Mk _
theorem Ql(ns:List Int):PyData.eqv (.list (ns.map PyData.int)) (.list [])=decide (ns=[]):=by
  cases ns <;> simp[PyData.eqv,PyData.eqvAll]
theorem Nr(ns:List Int):(PyData.list (ns.map PyData.int)).canLay0=true:=by simp[PyData.canLay0,Fz]
theorem EW(ns:List Int)(hd:Hd)(neg:Bool):JQ neg (.list (ns.map PyData.int)) (.list []) hd=some (.im (.bl (if neg then !decide (ns=[])else decide (ns=[]))),hd):=by
  unfold JQ
  rw[if_pos,Ql]
  refine⟨Nr ns,by simp[PyData.canLay0,PyData.canLayAll0],?_⟩
  have:(PyData.list []).depth <= 1:=by simp[PyData.depth,PyData.depthAll]
  omega
end Bd
namespace Bd
open PySem L2
theorem DT{x:Int}(m:Int)(h:0 < m):0 <= x % m/\x % m < m:=⟨Int.emod_nonneg _ (by omega),Int.emod_lt_of_pos _ h⟩
theorem TN(hd:Hd)(neg:Bool):JQ neg (.list []) (.list []) hd=some (.im (.bl (if neg then false else true)),hd):=by
  have:=EW [] hd neg
  simpa using this
theorem UG{xs:List Int}(h:xs ≠ [])(n:Int):∃ c,atI (xs.map λ i=>D.im (.int i)) (n % (xs.length:Int))=some (.im (.int c)):=by
  have hl:0 < xs.length:=HU h
  obtain⟨a,b⟩:=DT (x:=n) (xs.length:Int) (by omega)
  obtain⟨k,hk⟩:=Int.eq_ofNat_of_zero_le a
  have hk':k < xs.length:=by omega
  exact⟨xs[k],GL hk (by simp[hk'])⟩
theorem po1:Ku 10 18:=by unfold Ku;decide
end Bd
namespace Bd
open PySem L2
inductive Cost where
  | late (d:Int)|tardy (d w:Int)|miss (d w:Int)|ends (w:Int)|steps (rows:List (Int × Int))
noncomputable def Kh(r:Int × Int):I:=.tup [.int r.1,.int r.2]
noncomputable def C6:Cost->I
  | .late d=>.tup [.str "late",.int d]
  | .tardy d w=>.tup [.str "tardy",.int d,.int w]
  | .miss d w=>.tup [.str "miss",.int d,.int w]
  | .ends w=>.tup [.str "ends",.int w]
  | .steps rows=>.tup [.str "steps",.tup (rows.map Kh)]
theorem n1:¬ (("late":Str)="steps"):=by decide +kernel
theorem n2:¬ (("tardy":Str)="steps"):=by decide +kernel
theorem n3:¬ (("miss":Str)="steps"):=by decide +kernel
theorem n4:¬ (("ends":Str)="steps"):=by decide +kernel
theorem n5:¬ (("late":Str)="ends"):=by decide +kernel
theorem n6:¬ (("tardy":Str)="ends"):=by decide +kernel
theorem n7:¬ (("miss":Str)="ends"):=by decide +kernel
theorem n8:¬ (("tardy":Str)="late"):=by decide +kernel
theorem n10:¬ (("miss":Str)="tardy"):=by decide +kernel
theorem n11:¬ (("steps":Str)="ends"):=by decide +kernel
theorem n12:¬ (("steps":Str)="late"):=by decide +kernel
end Bd
namespace Bd
open PySem L2
@[simp high] theorem WB(t:Tp)(x:MO)(r:Hd):(tp t ++ (x :: r))[2]? = some x:=rfl
@[simp high] theorem W9(t:Tp)(x y:MO)(r:Hd):(tp t ++ (x :: y :: r))[3]? = some y:=rfl
@[simp high] theorem W8(t:Tp)(x y z:MO)(r:Hd):(tp t ++ (x :: y :: z :: r))[4]? = some z:=rfl
@[simp high] theorem Vj(t:Tp)(x y:MO)(r:Hd):(tp t ++ (x :: r)).set 2 y=tp t ++ (y :: r):=rfl
@[simp high] theorem Vi(t:Tp)(x y z:MO)(r:Hd):(tp t ++ (x :: y :: r)).set 3 z=tp t ++ (x :: z :: r):=rfl
theorem Mb(w:Nat)(ns:List Int):BG w (ns.map λ i=>D.im (.int i))=true:=by induction ns <;> simp_all [BG,clD]
end Bd
namespace Bd
open PySem L2
structure Wk where
  len:Int
  com:Int
  cost:Cost
noncomputable def B9(w:Wk):I:=.tup [.int w.len,.int w.com,C6 w.cost]
noncomputable abbrev AV(ws:List Wk):I:=.tup (ws.map B9)
end Bd
namespace L2
end L2
namespace Bd
open PySem L2
end Bd
namespace L2
open PySem PySem.Spec PyProof.Rows
structure OkP(w dp:Nat)(d:PyData):Prop where
  sh:d.showable=true
  lay:d.canLay0=true
  it:d.intsShort 13=true
  dp:d.depth <= dp
  wt:d.weight <= w
structure OkPs(w dp n:Nat)(ds:List PyData):Prop where
  sh:PyData.showableAll ds=true
  lay:PyData.canLayAll0 ds=true
  it:PyData.intsShortAll 13 ds=true
  dp:PyData.depthAll ds <= dp
  wt:PyData.weightAll ds <= n * (w + 1)
theorem OkP.mono{w w' dp dp':Nat}{d:PyData}(h:OkP w dp d)(a:w <= w')(b:dp <= dp'):OkP w' dp' d:=⟨h.sh,h.lay,h.it,Nat.le_trans h.dp b,Nat.le_trans h.wt a⟩
theorem OkPs.nil{w dp:Nat}:OkPs w dp 0 []:=⟨by simp[PyData.showableAll],by simp[PyData.canLayAll0],by simp[PyData.intsShortAll],by simp[PyData.depthAll],by simp[PyData.weightAll]⟩
theorem OkPs.cons{w dp n:Nat}{d:PyData}{ds:List PyData}(h:OkP w dp d)(t:OkPs w dp n ds):OkPs w dp (n + 1) (d :: ds):=by
  refine⟨by simp[PyData.showableAll,h.sh,t.sh],by simp[PyData.canLayAll0,h.lay,t.lay],by simp[PyData.intsShortAll,h.it,t.it],?_,?_⟩
  . simp only[PyData.depthAll];exact Nat.max_le.mpr ⟨h.dp,t.dp⟩
  . simp only[PyData.weightAll]
    have:=h.wt;have:=t.wt
    rw[Nat.add_mul];omega
theorem OkPs.tup{w dp n:Nat}{ds:List PyData}(t:OkPs w dp n ds):OkP (n * (w + 1)) (dp + 1) (.tuple ds):=by
  refine⟨?_,?_,?_,?_,?_⟩
  . rw[PyData.showable];exact t.sh
  . rw[PyData.canLay0];exact t.lay
  . rw[PyData.intsShort];exact t.it
  . rw[PyData.depth];have:=t.dp;omega
  . rw[PyData.weight];exact t.wt
theorem OkP.repr{w dp:Nat}{d:PyData}(h:OkP w dp d)(hd:isDisplay d=true)(h1:dp <= 30)(h2:w <= 2 ^ 20):Do d:=by
  have hl:d.layable0=true:=by
    unfold PyData.layable0
    rw[h.lay,decide_eq_true (show d.depth <= 64 by have:=h.dp;omega),decide_eq_true (show d.weight <= 2 ^ 20 by have:=h.wt;omega)]
    rfl
  exact⟨h.sh,PyData.hasDict_of_canLay d h.lay,hd,Nat.le_trans h.dp h1,Nat.le_trans (PyProof.Rows.shown_le13 hl h.it) (by decide)⟩
theorem M7{w dp:Nat}:∀ {is:List I},(∀ i ∈ is,OkP w dp i.py)->OkPs w dp is.length (I.pys is)
  | [],_=>by simp only[I.pys];exact OkPs.nil
  | i :: is,h=>by simp only[I.pys,List.length_cons];exact(M7 λ j hj=>h j (List.mem_cons_of_mem _ hj)).cons (h i List.mem_cons_self)
theorem QJ{w dp:Nat}{is:List I}(h:∀ i ∈ is,OkP w dp i.py):OkP (is.length * (w + 1)) (dp + 1) (I.py (.tup is)):=by
  rw[I.py];exact(M7 h).tup
end L2
namespace Bd
open PySem L2
end Bd
namespace Bd
open PySem L2
theorem O2(ns:List Int)(lo hi:Option Int):∃ cs:List Int,Dx (ns.map λ n=>.im (.int n)) lo hi=cs.map λ n=>.im (.int n):=⟨(ns.drop _).take _,by unfold Dx;rw[List.map_take,List.map_drop]⟩
end Bd
namespace Bd
open PySem L2
theorem erase_map{α β:Type}(f:α->β):∀ (l:List α) (k:Nat),(l.map f).eraseIdx k=(l.eraseIdx k).map f
  | [],k=>rfl
  | y :: r,0=>rfl
  | y :: r,k + 1=>by simp[erase_map f r k]
end Bd
namespace Bd
open PySem L2
end Bd
namespace Bd
open PySem L2
end Bd
namespace Bd
open PySem L2
noncomputable abbrev BB(xs:List Int):List D:=xs.map λ x=>D.im (.int x)
theorem g1(hd:Hd)(x y:MO):(hd ++ [x,y])[hd.length + 1]? = some y:=by simp
theorem t0(hd:Hd)(x y z:MO):(hd ++ [x,y]).set hd.length z=hd ++ [z,y]:=by simp
theorem t1(hd:Hd)(x y z:MO):(hd ++ [x,y]).set (hd.length + 1) z=hd ++ [x,z]:=by simp
end Bd
namespace L2
open PySem PySem.Spec PyProof.Rows
section
variable{ls:Ls}{hd:Hd}{QE:D->Hd->Prop}{QI:List D × Gd->Hd->Prop}{ma:ME}{n:MG}{ta:MT}{mi:MI}{m:MA}
theorem CI{α:Type}{g:Gd}{QA:List D->Hd->Prop}(inj:α->D)(f:α->Option D)(L:D->Ls->Prop)(l0:Ls){xs:List α}{hd:Hd}(hg:GOk hd g)
    (k:∀ x ∈ xs,∀ ls,ls=l0 ∨ (∃ d,L d ls)->∃ ls1,n (inj x) ls hd=some ls1/\L (inj x) ls1/\WT ta ls1 hd λ c y=>y=hd/\if c=true then ∃ z,f x=some z/\WE ma ls1 hd λ e y=>y=hd/\e=z else f x=none)
    (q:QA (xs.filterMap f) hd):WP (BQ n ta ma g (xs.map inj) l0 hd) QA:=by
  have go:∀ (xs':List α) (ls:Ls),(∀ x ∈ xs',x ∈ xs)->(ls=l0 ∨ ∃ d,L d ls)->BQ n ta ma g (xs'.map inj) ls hd=some (xs'.filterMap f,hd):=by
    intro xs'
    induction xs' with
    | nil=>intro ls _ _;unfold BQ;rfl
    | cons x r ih=>
      intro ls hs hl
      obtain⟨ls1,e1,L1,c,y,e2,rfl,q⟩:=k x (hs x List.mem_cons_self) ls hl
      have ih:=ih ls1 (λ z hz=>hs z (List.mem_cons_of_mem _ hz)) (.inr ⟨_,L1⟩)
      rw[List.map_cons]
      unfold BQ
      rw[e1,Option.bind_some,e2,Option.bind_some]
      cases c with
      | true=>
        rw[if_pos rfl]at q
        obtain⟨z,ez,e,y,e3,rfl,rfl⟩:=q
        rw[if_pos rfl,e3,Option.bind_some]
        dsimp only
        rw[if_pos hg,ih,List.filterMap_cons,ez]
        rfl
      | false=>
        rw[if_neg Bool.false_ne_true]at q
        rw[if_neg Bool.false_ne_true]
        dsimp only
        rw[if_pos hg,ih,List.filterMap_cons,q]
  exact⟨_,_,go xs l0 (λ _ h=>h) (.inl rfl),q⟩
end
end L2
namespace L2
open PySem PySem.Spec PyProof.Rows
section
variable{K:PySem.W.Frag}{ρ ρ':List Addr}{H H':Hp}{hd hd':Hd}
noncomputable def HQ(neg:Bool)(ma:ME)(ml:MA):ME:=λ ls hd=>(ma ls hd).bind λ p=>(ml ls p.2).bind λ q=>match p.1 with
  | .im i=>(El i).bind λ x=>(C9 q.1).map λ xs=>(.im (.bl (if neg then !inV x xs else inV x xs)),q.2)
  | _=>none
theorem Rx{neg:Bool}{ta tb:TE}{ma:ME}{ml:MA}(ha:RE K ta ma)(hb:RN K tb ml):RE K (tOp (rIn K neg) ta tb) (HQ neg ma ml):=by
  intro ρ σ H hd ls Q d hd' hR hL hm hQ
  obtain⟨⟨d1,h1⟩,e1,hm⟩:=Option.bind_eq_some_iff.mp hm
  obtain⟨⟨d2,h2⟩,e2,hm⟩:=Option.bind_eq_some_iff.mp hm
  dsimp only at hm
  split at hm
  . obtain⟨x,e3,hm⟩:=Option.bind_eq_some_iff.mp hm
    obtain⟨xs,e4,e5⟩:=Option.map_eq_some_iff.mp hm
    cases e5
    refine ha ρ σ H hd ls _ _ h1 hR hL e1 λ ρ1 H1 v1 x1 R1 r1=>?_
    refine hb ρ1 σ H1 h1 ls _ d2 _ R1 (hL.ext hR x1) e2 λ ρ2 H2 a ys x2 R2 na oa ea r2=>?_
    have r1:=r1.ext R1 x2
    simp only[RD]at r1
    obtain⟨rfl,f1⟩:=JN e3 r1
    obtain⟨rfl,f2⟩:=Hn e4 r2
    exact⟨a,ys,rfl,.inl (SqL.of ea),f1,f2,hQ ρ2 H2 _ (x1.trans R1 x2) R2 (by simp[RD,RI])⟩
  . cases hm
theorem Pk(K:PySem.W.Frag){X:Cx}{a b:Expr}{ta tb:TE}{ma:ME}{ml:MA}{pos:Pos}{op:CmpOp}{neg:Bool}(ho:OpR X (compareOp op) (rIn K neg))(ha:QE K X a ta ma)(hb:QN K X b tb ml)(hm:behindInMarks op b=false:=by first|exact Gf _|rfl):QT K X (.Compare a [op] [b] pos) (GS (tOp (rIn K neg) ta tb)) (An (HQ neg ma ml)):=⟨HJ ho ha.p hb.p hm,EI (Rx ha.r hb.r)⟩
end
section
variable{ls:Ls}{hd:Hd}{ma mb:ME}{m ml:MA}{QE:D->Hd->Prop}{QA:List D->Hd->Prop}
theorem RP{neg:Bool}(h:WE ma ls hd λ d x=>WA ml ls x λ ds y=>∃ i v vs,d=.im i/\El i=some v/\C9 ds=some vs/\QE (.im (.bl (if neg then !inV v vs else inV v vs))) y):WE (HQ neg ma ml) ls hd QE:=by
  obtain⟨d,x,e1,ds,y,e2,i,v,vs,rfl,e3,e4,q⟩:=h
  exact⟨_,_,by simp only[HQ,e1,Option.bind_some,e2,e3,e4,Option.map_some],q⟩
end
end L2
namespace L2
open PySem PySem.Spec PyProof.Rows
section
variable{ls:Ls}{hd:Hd}{ma:ME}{n n2:MG}{c c2:MT}{mi mi2:MI}{QE:D->Hd->Prop}
theorem HC{k:Nat}{g:Gd}{Q:Ls->Hd->Prop}(P:List D->Ls->Hd->Prop):∀ {ds:List D} {ls:Ls} {hd:Hd},P ds ls hd ->
    (∀ d r ls hd,P (d :: r) ls hd->∃ ls1,n2 d ls hd=some ls1/\WT c2 ls1 hd λ t x=>if t=true then WE ma ls1 x λ z y=>WP (BS (.mu k) [z] y) λ _ u=>GOk u g/\P r ls1 u else GOk x g/\P r ls1 x) ->
    (∀ ls hd,P [] ls hd->Q ls hd)->∃ l h,mIn k n2 c2 ma g ds ls hd=some (l,h)/\Q l h
  | [],ls,hd,h,_,z=>⟨_,_,by unfold mIn;rfl,z _ _ h⟩
  | d :: r,ls,hd,h,s,z=>by
    obtain⟨ls1,e1,t,x,e2,q⟩:=s d r ls hd h
    unfold mIn
    rw[e1,Option.bind_some,e2,Option.bind_some]
    cases t with
    | true=>
      rw[if_pos rfl]at q ⊢
      obtain⟨z',y,e3,w,u,e4,g4,p4⟩:=q
      rw[e3,Option.bind_some,e4,Option.bind_some]
      dsimp only
      rw[if_pos g4]
      exact HC P p4 s z
    | false=>
      rw[if_neg Bool.false_ne_true]at q ⊢
      dsimp only
      rw[if_pos q.1]
      exact HC P q.2 s z
theorem HA{k:Nat}{g:Gd}{Q:Hd->Prop}(P:List D->Ls->Hd->Prop):∀ {ds:List D} {ls:Ls} {hd:Hd},P ds ls hd ->
    (∀ d r ls hd,P (d :: r) ls hd->∃ ls1,n d ls hd=some ls1/\WT c ls1 hd λ t x=>if t=true then WI mi2 ls1 x λ p y=>∃ l h,mIn k n2 c2 ma p.2 p.1 ls1 y=some (l,h)/\GOk h g/\P r l h else GOk x g/\P r ls1 x) ->
    (∀ ls hd,P [] ls hd->Q hd)->∃ h,DO k n c mi2 n2 c2 ma g ds ls hd=some h/\Q h
  | [],ls,hd,h,_,z=>⟨_,by unfold DO;rfl,z _ _ h⟩
  | d :: r,ls,hd,h,s,z=>by
    obtain⟨ls1,e1,t,x,e2,q⟩:=s d r ls hd h
    unfold DO
    rw[e1,Option.bind_some,e2,Option.bind_some]
    cases t with
    | true=>
      rw[if_pos rfl]at q ⊢
      obtain⟨p,y,e3,l,h,e4,g4,p4⟩:=q
      rw[e3,Option.bind_some]
      dsimp only
      rw[e4,Option.bind_some]
      dsimp only
      rw[if_pos g4]
      exact HA P p4 s z
    | false=>
      rw[if_neg Bool.false_ne_true]at q ⊢
      dsimp only
      rw[if_pos q.1]
      exact HA P q.2 s z
theorem Ms{j:Nat}{ix:List Nat}(h:WI mi ls hd λ p x=>∃ y,DO x.length n c mi2 n2 c2 ma p.2 p.1 (DW j ix ls) (x ++ [.lst []])=some y/\QE (.mu x.length) y):WE (ET j ix mi n c mi2 n2 c2 ma) ls hd QE:=by
  obtain⟨p,x,e,y,e2,q⟩:=h
  exact⟨_,_,by rw[O0,e,Option.bind_some];dsimp only;rw[e2];rfl,q⟩
end
noncomputable abbrev blD(bs:List Bool):List D:=bs.map λ b=>D.im (.bl b)
end L2
namespace L2
open PySem PySem.Spec PyProof.Rows
section
variable{X:Cx}{pins:List (Addr × Obj)}{σ:St}{H:Hp}{s:Shared}{A:Around}{E:Value->Shared->Prop}{Q:Value->Shared->Prop}
end
section
variable{K:PySem.W.Frag}{ρ ρ':List Addr}{H H':Hp}{hd hd':Hd}
theorem RDs.ints:∀ {ns:List Int} {xs:List V},RDs K ρ H (ns.map λ x=>D.im (.int x)) xs->xs=ns.map V.int
  | [],xs,h=>by simpa only[RDs,List.map_nil]using h
  | n :: ns,xs,h=>by
    simp only[List.map_cons,RDs,RD,RI]at h
    obtain⟨x,r,rfl,rfl,t⟩:=h
    rw[RDs.ints t];rfl
end
section
variable{ls:Ls}{hd:Hd}{ma mo mi me:ME}{QE:D->Hd->Prop}{QS:Fl->Hd->Prop}
end
end L2
namespace L2
open PySem PySem.Spec PyProof.Rows
section
variable{X:Cx}{a:Expr}{ta:TE}
end
section
variable(K:PySem.W.Frag){X:Cx}{a:Expr}{ta:TE}{ma:ME}{b:Bool}{j:_}{pos pos':Pos}
end
end L2
namespace L2
open PySem PySem.Spec PyProof.Rows
section
variable{X:Cx}
end
section
variable{K:PySem.W.Frag}
end
section
variable{K:PySem.W.Frag}{ρ ρ':List Addr}{H H':Hp}{hd hd':Hd}
end
end L2
namespace HT
open PySem PySem.Spec PyProof.Rows
section
variable{prog:Program}{w:World}{A:Around}{E:Value->Shared->Prop}{s:Shared}
end
end HT
namespace L2
open PySem PySem.Spec PyProof.Rows
section
variable{X:Cx}
end
section
variable{K:PySem.W.Frag}{ρ ρ':List Addr}{H H':Hp}{hd hd':Hd}
end
section
variable{X:Cx}
theorem Qr{prog:Program}{w:World}{A:Around}{E:Value->Shared->Prop}{s:Shared}{t b:Addr}{vs ws:List Value}{Q:Value->Shared->Prop}(ht:IsTup s.heap t vs.toArray)(hb:IsTup s.heap b ws.toArray)(hv:vs=[])
    (h1:Q (.ref b) s):wpAny (model prog w) A (binaryOp .Add (.ref t) (.ref b)) Q E s:=by
  obtain⟨⟨cls,dd,data,sl⟩,ho,hc,n,hd⟩:=id ht
  obtain⟨⟨cls2,dd2,data2,sl2⟩,ho2,hc2,n2,hd2⟩:=id hb
  simp only at hc hd hc2 hd2
  subst hc hd hc2 hd2
  exact concat_meets ⟨_,ho,rfl⟩ ⟨_,ho2,rfl⟩ noFill_tuple_add seq_tuple_add PySem.F.slot_tuple_add PySem.F.entry_tuple_add (PySem.F.args_tuple_add_2 _ _)
      (tuple_addW0 t b vs.toArray ws.toArray n n2 dd dd2 sl sl2 (by simp[hv])) ⟨ho,ho2,h1⟩
noncomputable def OS(K:PySem.W.Frag):R2:=λ x y H Q=>∃ a b ys,x=.ref a/\y=.ref b/\SqT K H a []/\SqT K H b ys/\Q (.ref b) H
theorem K1(K:PySem.W.Frag)(hK:X.K=K:=by rfl):OpR X (binaryOp .Add) (OS K):=by
  subst hK
  intro pins s σ H x y v u Q I rx ry h
  obtain⟨a,b,ys,rfl,rfl,ha,hb,q⟩:=h
  cases rx
  cases ry
  obtain⟨its,r1,p1,_⟩:=I.tuple ha
  obtain⟨its2,r2,p2,_⟩:=I.tuple hb
  have:its=[]:=by cases r1;rfl
  exact Qr p1 p2 this ⟨.ref b,H,I,rfl,q⟩
noncomputable def Fq:D->D->Hd->Option (D × Hd):=λ d e hd=>(Aa d).bind λ a=>(Aa e).bind λ b=>if a=[]then some (Ax b,hd)else none
theorem Jp{K:PySem.W.Frag}:RB K (OS K) Fq:=by
  intro ρ H hd d e v u Q z hd' hR h1 h2 hf hQ
  unfold Fq at hf
  obtain⟨a,e1,hf⟩:=Option.bind_eq_some_iff.mp hf
  obtain⟨b,e2,hf⟩:=Option.bind_eq_some_iff.mp hf
  split at hf
  . next c=>
    cases hf
    subst c
    obtain⟨p,xs,rfl,q1,r1⟩:=h1.tup e1
    obtain⟨p2,ys,rfl,q2,r2⟩:=h2.tup e2
    have:xs=[]:=by simpa [RDs]using r1
    subst this
    exact⟨p,p2,ys,rfl,rfl,q1,q2,hQ ρ H _ .refl hR (C8 q2 r2)⟩
  . cases hf
end
section
variable{X:Cx}
theorem Nc{i:Nat}{y:Str}{elt tg iter tg2 iter2:Expr}{ifs ifs2:List Expr}{scope:Scope}{pos spos py:Pos}{loc fr:List Str}{ix:List Nat}{wi wi2:TI}{g g2:TG}{tf tf2:TT}{te:TE}(hN:X.N.Nodup)(hiN:X.N[i]? = some y)(hy:X.env.scope.names.lookup y=some .local)
    (hc:X.calm=true) (S:CSc X scope fr ix) (hi:PI X tg iter wi)
    (hg:∀ s H ex,PG (cCx X (loc ++ fr) scope s H ex) tg g) (hf:∀ s H ex,PF (cCx X (loc ++ fr) scope s H ex) ifs tf) (hi2:∀ s H ex,PI (cCx X (loc ++ fr) scope s H ex) tg2 iter2 wi2) (hg2:∀ s H ex,PG (cCx X (loc ++ fr) scope s H ex) tg2 g2) (hf2:∀ s H ex,PF (cCx X (loc ++ fr) scope s H ex) ifs2 tf2) (he:∀ s H ex,PE (cCx X (loc ++ fr) scope s H ex) elt te)
    (hsw:swapsWith (LC2 elt tg iter ifs tg2 iter2 ifs2 scope pos) (some (.Name y py)) spos.line X.env=pure true) (hs:∀ x,foldedSetIterable iter X.env x=pure x) (hs2:∀ s H ex x,foldedSetIterable iter2 (cCx X (loc ++ fr) scope s H ex).env x=pure x) :
    PS X (.Assign [.Name y py] (LC2 elt tg iter ifs tg2 iter2 ifs2 scope pos) spos) (Ed (FD loc.length ix wi g tf wi2 g2 tf2 te) (Ej i)):=by
  intro pins s σ H D I h
  have hnames:∀ y ∈ scope.names,y.2=.local->scope.names.lookup y.1=some .local:=λ y hy e=>by
    have:=List.all_eq_true.mp S.loc y hy
    rw[e]at this
    simpa using this
  rw[exec_Assign_Name_used _ _ _ _ hsw]
  refine wpAny_bind (wpAny_standAt (wpAny_bind ?_))
  show wpAny _ _ (do let _ <- comprehension (LC2 elt tg iter ifs tg2 iter2 ifs2 scope pos) scope X.env _ (newList []) false (eval iter X.env) (some (assign (.Name y py) X.env))) _ _ s
  refine wpAny_bind (wpAny_mono (wpAny_comprehension_free (use:=some (assign (.Name y py) X.env)) (Q:=λ _ s'=>SP X pins D .next s') rfl hs (DQ (S.clos I.ok)) S.kind hnames
    (thn (hi pins s σ H _ I h) λ v s1 h1=>thn h1 λ itv s2 h2=>?_)) (λ _ s' hq=>wpAny_pure (wpAny_pure hq)) λ _ _ e=>e)
  obtain⟨it,fp,tn,J,H2,rfl,I2,T,st2,f2,hW⟩:=h2
  refine Fy (RR:=λ acc C=>compPost (model X.prog X.w) X.A X.xe (some (assign (.Name y py) X.env)) (λ _ s'=>SP X pins D .next s') acc C) hc S hg hf hi2 hg2 hf2 he hs2 I2 T st2 f2 hW λ s3 s6 H5 σ5 L I3 I6 f3 q=>?_
  have J6:Inv X pins σ H5 s6:=G5 (h'':=s6.heap) I3 I6 f3 (.refl ..)
  obtain⟨m,hm,_⟩:=I6.loc
  have hm:s6.heap.Ns s3.heap.objs.size m:=hm
  have hL:s3.heap.objs.size ≠ X.env.locals:=Ne.symm (Nat.ne_of_lt I3.lt)
  show wpAny _ _ (assign (.Name y py) X.env (.ref L)) _ _ s6
  refine wpAny_assign_Name (Hh (v:=.ref L) J6 hN hiN (.inl hy) rfl (λ s7 I7 ⟨a,sb,ha⟩=>?_) (.inr hy))
  have hca:s3.heap.objs.size ≠ a:=by
    rcases ha with rfl|ha
    . exact hL
    . obtain⟨v,z⟩:=I3.cell y a ha
      exact Ne.symm (Nat.ne_of_lt z.lt)
  refine⟨m,hm.sameBut sb hca,λ h' hs'=>?_⟩
  refine⟨_,H5,I7.turned (t':=s7.toks) (it:=s3.heap.objs.size) (λ b o hb e=>(hs'.2 b hb).trans e) I6.free hL (.inr I3.sz) (λ x c e z=>?_) (λ p hp z=>?_),q⟩
  . obtain⟨v,w⟩:=I3.cell x c e
    exact absurd w.lt (by rw[z];exact Nat.lt_irrefl _)
  . exact absurd (Heap.lt_size (I3.pin p hp).1) (by rw[z];exact Nat.lt_irrefl _)
end
theorem NT(K:PySem.W.Frag){X:Cx}{i:Nat}{y:Str}{elt tg iter tg2 iter2:Expr}{ifs ifs2:List Expr}{scope:Scope}{pos spos py:Pos}{loc fr:List Str}{ix:List Nat}{wi wi2:TI}{g g2:TG}{tf tf2:TT}{te:TE}{mi mi2:MI}{n n2:MG}{mf mf2:MT}{mm:ME}(hN:X.N.Nodup)(hiN:X.N[i]? = some y)(hy:X.env.scope.names.lookup y=some .local)(hc:X.calm=true)(S:CSc X scope fr ix)(hi:QI K X tg iter wi mi)
    (hg:∀ s H ex,QG K (cCx X (loc ++ fr) scope s H ex) tg g n) (hf:∀ s H ex,QF K (cCx X (loc ++ fr) scope s H ex) ifs tf mf) (hi2:∀ s H ex,QI K (cCx X (loc ++ fr) scope s H ex) tg2 iter2 wi2 mi2) (hg2:∀ s H ex,QG K (cCx X (loc ++ fr) scope s H ex) tg2 g2 n2) (hf2:∀ s H ex,QF K (cCx X (loc ++ fr) scope s H ex) ifs2 tf2 mf2) (he:∀ s H ex,QE K (cCx X (loc ++ fr) scope s H ex) elt te mm)
    (hsw:swapsWith (.ListComp elt [⟨tg,iter,ifs,0⟩,⟨tg2,iter2,ifs2,0⟩] scope pos) (some (.Name y py)) spos.line X.env=pure true:=by rfl) (hs:∀ x,foldedSetIterable iter X.env x=pure x:=by intro _;rfl) (hs2:∀ s H ex x,foldedSetIterable iter2 (cCx X (loc ++ fr) scope s H ex).env x=pure x:=by intro _ _ _ _;rfl) :
    QS K X (.Assign [.Name y py] (.ListComp elt [⟨tg,iter,ifs,0⟩,⟨tg2,iter2,ifs2,0⟩] scope pos) spos) (Ed (FD loc.length ix wi g tf wi2 g2 tf2 te) (Ej i)) (Ag i (ET loc.length ix mi n mf mi2 n2 mf2 mm)):=
  ⟨Nc hN hiN hy hc S hi.p (λ s H ex=>(hg s H ex).p) (λ s H ex=>(hf s H ex).p) (λ s H ex=>(hi2 s H ex).p) (λ s H ex=>(hg2 s H ex).p) (λ s H ex=>(hf2 s H ex).p) (λ s H ex=>(he s H ex).p) hsw hs hs2,Ih (J0 K (pos:=pos) hc S hi hg hf hi2 hg2 hf2 he hs hs2).r HG⟩
end L2
namespace L2
open PySem PySem.Spec PyProof.Rows
section
variable{prog:Program}{w:World}{A:Around}{E:Value->Shared->Prop}{s:Shared}
end
end L2
namespace L2
open PySem PySem.Spec PyProof.Rows
section
variable(K:PySem.W.Frag){X:Cx}
end
section
variable{K:PySem.W.Frag}
end
end L2
namespace L2
noncomputable abbrev LN:=Ep Ab Fq
end L2
namespace L2
open PySem PySem.Spec PyProof.Rows
section
variable{K:PySem.W.Frag}{ρ ρ':List Addr}{H H':Hp}{hd hd':Hd}
end
section
variable{hd:Hd}{QE:D->Hd->Prop}
end
end L2
namespace L2
open PySem PySem.Spec PyProof.Rows PySem.W
section
variable{prog:Program}{w:World}{A:Around}{E:Value->Shared->Prop}{s:Shared}
end
end L2
namespace L2
open PySem PySem.Spec PyProof.Rows PySem.W
section
variable{X:Cx}{pins:List (Addr × Obj)}{σ:St}{H:Hp}{s:Shared}{a:Addr}
end
end L2
namespace L2
open PySem PySem.Spec PyProof.Rows PySem.W
section
variable{X:Cx}{pins:List (Addr × Obj)}{σ:St}{H:Hp}{s:Shared}
end
end L2
namespace L2
open PySem PySem.Spec PyProof.Rows PySem.W
section
variable{X:Cx}{c P:Addr}{scope:Scope}{fr:List Str}{ix:List Nat}{prm:Str}{params:Arguments}{body e:Expr}{p pos lpos kpos:Pos}{te tb:TE}
end
end L2
namespace L2
open PySem PySem.Spec PyProof.Rows PySem.W
section
variable{K:PySem.W.Frag}{ρ:List Addr}{H:Hp}{hd:Hd}
end
end L2
namespace L2
open PySem PySem.Spec PyProof.Rows PySem.W
end L2
namespace HT
open PySem PyProof.Rows
end HT
namespace L2
open PySem PySem.Spec PyProof.Rows
section
variable{X:Cx}
end
section
variable{K:PySem.W.Frag}
end
end L2
namespace HT
open PySem PyProof.Rows
open PySem.AutoSeq1 (wpAny_loadPart')
section
variable{prog:Program}{w:World}{A:Around}{E:Value->Shared->Prop}{s:Shared}
end
end HT
namespace L2
open PySem PySem.Spec PyProof.Rows
end L2
namespace HS
open PySem PyProof.Rows
open PySem.AutoSeq1 (wpAny_loadPart')
open Sem (wp)
noncomputable abbrev st(t:Tok):List (Str × Value):=[(Str.ofString "start",.int 1 t)]
section
variable{prog:Program}{w:World}{A:Around}{E:Value->Shared->Prop}{s:Shared}
end
end HS
namespace L2
open PySem PySem.Spec PyProof.Rows
section
variable{K:PySem.W.Frag}
end
end L2
namespace HR
open PySem PyProof.Rows
open Sem (wp)
section
variable{prog:Program}{w:World}{A:Around}{E:Value->Shared->Prop}{s:Shared}
end
section
variable{prog:Program}{w:World}{A:Around}{R:Result->Shared->Prop}
end
section
variable{prog:Program}{w:World}{A:Around}{R:Result->Shared->Prop}{s:Shared}
end
section
variable{prog:Program}{w:World}{A:Around}{E:Value->Shared->Prop}{s:Shared}
end
end HR
namespace L2
open PySem PySem.Spec PyProof.Rows
section
variable{K:PySem.W.Frag}
end
end L2
namespace L2
open PySem PySem.Spec PyProof.Rows PySem.W
section
variable{X:Cx}{pins:List (Addr × Obj)}{σ:St}{l f It S:Addr}{src:Hp->List V->Prop}{G:Hp->Prop}{tb:TE}{cap:St}{Q:VK}{E:Value->Shared->Prop}
end
end L2
namespace L2
open PySem PySem.Spec PyProof.Rows PySem.W
section
variable{X:Cx}{c P:Addr}{scope:Scope}{fr:List Str}{ix:List Nat}{prm:Str}{params:Arguments}{body e:Expr}{p pos lpos kpos:Pos}{te tb:TE}
end
end L2
namespace L2
open PySem PySem.Spec PyProof.Rows PySem.W
section
variable{K:PySem.W.Frag}{hd:Hd}
end
end L2
namespace L2
open PySem PySem.Spec PyProof.Rows PySem.W
section
variable{X:Cx}{pins:List (Addr × Obj)}{σ:St}{l f It S:Addr}{src:Hp->List V->Prop}{G:Hp->Prop}{tb:TE}{cap:St}{Q:VK}{E:Value->Shared->Prop}
end
section
variable{X:Cx}{c P:Addr}{scope:Scope}{fr:List Str}{ix:List Nat}{prm:Str}{params:Arguments}{body e:Expr}{p pos lpos kpos:Pos}{te tb:TE}
end
section
variable{K:PySem.W.Frag}{hd:Hd}
end
end L2
namespace L2
open PySem PySem.Spec PyProof.Rows PySem.W
section
variable{K:PySem.W.Frag}{hd:Hd}
end
section
variable{X:Cx}{pins:List (Addr × Obj)}{σ:St}{l f It S:Addr}{src:Hp->List V->Prop}{G:Hp->Prop}{tb:TE}{cap:St}{Q:VK}{E:Value->Shared->Prop}
end
section
variable{X:Cx}{c P:Addr}{scope:Scope}{fr:List Str}{ix:List Nat}{prm:Str}{params:Arguments}{body e:Expr}{p pos lpos kpos:Pos}{te tb:TE}
end
section
variable{K:PySem.W.Frag}{hd:Hd}
end
end L2
namespace L2
open PySem PySem.Spec PyProof.Rows PySem.W
end L2
namespace L2
open PySem PySem.Spec PyProof.Rows
section
variable{X:Cx}{pos p2:Pos}
end
end L2
namespace L2
open PySem PySem.Spec PyProof.Rows
section
variable{K:PySem.W.Frag}
variable{X:Cx}{pos:Pos}
end
end L2
namespace L2
open PySem PySem.Spec PyProof.Rows
section
variable{X:Cx}{e stp:Expr}{te ts:TE}{pos p2:Pos}
end
end L2
namespace L2
open PySem PySem.Spec PyProof.Rows
section
variable{K:PySem.W.Frag}{ρ:List Addr}{H:Hp}
variable{X:Cx}{e stp:Expr}{te ts:TE}{m:MA}{ms:ME}{pos p2:Pos}
end
end L2
namespace L2
open PySem PySem.Spec PyProof.Rows
section
variable{K:PySem.W.Frag}
end
end L2
namespace HT
open PySem PySem.Spec PyProof.Rows
section
variable{prog:Program}{w:World}{A:Around}{E:Value->Shared->Prop}{s:Shared}
end
end HT
namespace L2
open PySem PySem.Spec PyProof.Rows
section
variable{X:Cx}{e stp:Expr}{te ts:TE}{pos p2:Pos}
end
section
variable{K:PySem.W.Frag}{X:Cx}{e stp:Expr}{te ts:TE}{m ms:ME}{pos p2:Pos}
end
end L2
namespace L2
open PySem PySem.Spec PyProof.Rows
section
variable{K:PySem.W.Frag}
end
end L2
namespace L2
open PySem PySem.Spec PyProof.Rows
end L2
namespace L2
open PySem PySem.Spec PyProof.Rows
noncomputable def dkL(ns:List Int):List Int:=ns.foldl step_dedup []
theorem Km:∀ ns:List Int,(List.range ns.length).map (λ i=>ns.getD i 0)=ns:=λ ns=>by
  apply List.ext_getElem
  . simp
  . intro i h1 h2
    simp at h1
    simp[h1]
theorem Nz(ns:List Int):firstMet (λ i=>ns.getD i 0) ns.length=dkL ns:=by
  unfold firstMet dkL
  rw[Km]
noncomputable def OR:List V->Hp->VK->Prop:=λ xs H Q=>∃ (a:Addr) (ns:List Int),xs=[.ref a]/\H a=some (.lst (ns.map V.int))/\ns.length <= 1000/\∀ p,H p=none->Q (.ref p) (upd H p (.set (λ k=>(dkL ns).any (· == k)) (dkL ns).length))
theorem O8:bootBuiltins "set"=some (.type "set"):=by decide +kernel
theorem Mf{X:Cx}(hc:X.calm=true):CallR X (.type "set") OR:=by
  intro pins s σ H xs us Q I r h
  obtain⟨a,ns,rfl,ha,hl,q⟩:=h
  obtain⟨u,rfl,ru⟩:=Ct r
  cases ru
  obtain⟨_,its,n,r1,e⟩:=(show ObjOk X.prog X.w H s.heap a (.lst (ns.map V.int))from I.hok a _ ha)
  have i1:IntsAre its.toArray.toList ns:=LF r1
  have ln:its.length=ns.length:=by have:=r1.length;simpa using this.symm
  refine PySem.call_set_list (I.ok.hd hc) ⟨_,e,rfl,n,rfl⟩ i1 (by show its.toArray.size + 1 < scanBound;rw[List.size_toArray,ln];exact Nat.lt_of_le_of_lt (by omega:ns.length + 1 <= 1001) (by decide)) λ h' tk hS k=>?_
  have z:its.toArray.size=ns.length:=by rw[List.size_toArray,ln]
  rw[z,Nz]at hS
  have ke:∀ b o,s.heap.get? b=some o->h'.get? b=some o:=λ b o e=>k b o (Heap.lt_size e) e
  exact⟨.ref s.heap.objs.size,_,I.laid (a:=s.heap.objs.size) (o:=.set (λ k=>(dkL ns).any (· == k)) (dkL ns).length) (t':=tk) ke (Nat.le_refl _) hS,rfl,q _ (I.hok.fresh (Nat.le_refl _))⟩
noncomputable def Jh(t:TE):TE:=OF (tCB OR (Bh t CN))
noncomputable def Dc(m:MA):ME:=λ ls hd=>(m ls hd).bind λ p=>match BM p.1 with
  | some ns=>if ns.length <= 1000 then some (.im (.int (dkL ns).length),p.2)else none
  | none=>none
theorem Lq{K:PySem.W.Frag}{t:TE}{m:MA}(h:RN K t m):RE K (Jh t) (Dc m):=by
  intro ρ σ H hd ls Q d hd' hR hL hm hQ
  obtain⟨⟨ds,h1⟩,e1,hm⟩:=Option.bind_eq_some_iff.mp hm
  dsimp only at hm
  split at hm
  . next ns en=>
    split at hm
    . next hl=>
      cases hm
      refine h ρ σ H hd ls _ ds hd' hR hL e1 λ ρ1 H1 a xs x1 R1 na oa ea r=>?_
      have ex:xs=ns.map V.int:=by
        rw[GI en]at r
        exact RDs.ints r
      subst ex
      refine⟨a,ns,rfl,ea,hl,λ p np=>?_⟩
      obtain⟨R2,x2⟩:=R1.hid np (ho:=.set (λ k=>(dkL ns).any (· == k)) (dkL ns).length)
      exact⟨p,_,_,rfl,AT,hQ ρ1 _ _ (x1.trans R1 x2) R2 (by simp[RD,RI])⟩
    . cases hm
  . cases hm
theorem Lw(K:PySem.W.Frag){X:Cx}{e:Expr}{te:TE}{m:MA}{p p1 pos pos1:Pos}(hm:X.mg "len"=none)(hs:X.mg "set"=none)(h:QN K X e te m)(hc:X.calm=true:=by rfl)(hg:Gl X "len":=by rfl)(hg2:Gl X "set":=by rfl)
    (he:starEach [e] X.env=(false,eval e X.env) :: starEach [] X.env:=by rfl) (he2:starEach [.Call (.Name "set" p1) [e] [] pos1] X.env=[(false,eval (.Call (.Name "set" p1) [e] [] pos1) X.env)]:=by rfl) :
    QE K X (.Call (.Name "len" p) [.Call (.Name "set" p1) [e] [] pos1] [] pos) (Jh te) (Dc m):=
  ⟨Q7 hm (E4 (Mf hc) hg2 hs O8 (Am h.p Br he) (by decide) (by decide) he (by rfl)) hg he2,Lq h.r⟩
theorem Lc{m:MA}{ls:Ls}{hd:Hd}{QE:D->Hd->Prop}(h:WA m ls hd λ ds x=>∃ ns:List Int,ds=ns.map (λ i=>D.im (.int i))/\ns.length <= 1000/\QE (.im (.int (dkL ns).length)) x):WE (Dc m) ls hd QE:=by
  obtain⟨ds,x,e,ns,rfl,hl,q⟩:=h
  refine⟨_,x,?_,q⟩
  unfold Dc
  rw[e]
  dsimp only[Option.bind_some]
  rw[MM]
  dsimp only
  rw[if_pos hl]
theorem MX{x:Int}:∀ (ns:List Int),(∀ n ∈ ns,n=x)->ns.foldl step_dedup [x]=[x]
  | [],_=>rfl
  | n :: ns,h=>by
    rw[List.foldl_cons,h n (by simp)]
    have:step_dedup [x] x=[x]:=by unfold step_dedup;rw[if_pos (by simp)]
    rw[this];exact MX ns λ m hm=>h m (by simp[hm])
theorem K8:∀ (ns l:List Int),l.length <= (ns.foldl step_dedup l).length
  | [],l=>Nat.le_refl _
  | n :: ns,l=>by
    rw[List.foldl_cons]
    refine Nat.le_trans ?_ (K8 ns _)
    unfold step_dedup;split <;> simp
theorem MW{x:Int}:∀ (ns:List Int),(∃ n ∈ ns,n ≠ x)->2 <= (ns.foldl step_dedup [x]).length
  | [],h=>by obtain⟨n,hn,_⟩:=h;cases hn
  | n :: ns,h=>by
    rw[List.foldl_cons]
    by_cases e:n=x
    . subst e
      have:step_dedup [n] n=[n]:=by unfold step_dedup;rw[if_pos (by simp)]
      rw[this]
      refine MW ns ?_
      obtain⟨m,hm,ne⟩:=h
      rcases List.mem_cons.mp hm with rfl|hm
      . exact absurd rfl ne
      . exact⟨m,hm,ne⟩
    . have:step_dedup [x] n=[x,n]:=by unfold step_dedup;rw[if_neg (by simpa using λ z:x=n=>e z.symm)];rfl
      rw[this]
      exact K8 ns [x,n]
theorem UF(x:Int)(ns:List Int):1 < ((dkL (x :: ns)).length:Int) ↔ ¬ ∀ n ∈ ns,n=x:=by
  have e:dkL (x :: ns)=ns.foldl step_dedup [x]:=by
    unfold dkL;rw[List.foldl_cons]
    have:step_dedup [] x=[x]:=by unfold step_dedup;rw[if_neg (by simp)];rfl
    rw[this]
  rw[e]
  constructor
  . intro h q
    rw[MX ns q]at h
    simp at h
  . intro h
    have:2 <= (ns.foldl step_dedup [x]).length:=MW ns (by
      apply Classical.byContradiction
      intro z
      exact h λ n hn=>Classical.byContradiction λ ne=>z ⟨n,hn,ne⟩)
    omega
end L2
namespace L2
open PySem PySem.Spec PyProof.Rows PySem.W
section
open PySem.MeetsSeq PySem.SeqAt
theorem NE(l:Addr)(items:Array Value)(n:Nat)(x:Value)(e:Nat->Bool)(j:Nat)(hj:j < items.size)(hit:e j=true)(k:Nat)(hs1:items.size <= sizeLine) :
    ∀ i:Nat,j - i=k->i <= j->(∀ m (hm:m < items.size),i <= m->m < j->e m=false)->Meets (Builtin.«list.remove.loop» ⟨[.ref l,x,rawInt i],[]⟩)
      (λ A R s=>(∀ m (hm:m < items.size),EqAt A.in1 s items[m] x (e m))/\s.heap.get? l=some { cls:=.type "list",dict:=none,data:=.seq items n,slots:=#[] }/\R (.ok (.ret .none)) { s with heap:=s.heap.update l (Obj.mapSeq λ xs=>xs.eraseIdxIfInBounds j) }):=by
  induction k with
  | zero=>
    intro i hk hij hno prog w A R s h
    obtain⟨hp,g,d,tk,os⟩:=s;obtain⟨he,hl,h⟩:=h
    obtain rfl:i=j:=by omega
    wp_walk using wpAny_loadPart' hl
    rw[show items[((i:Nat):Int).toNat]? = some items[i] by simp[hj]]
    refine wpAny_bind (he i hj prog w _ _ ?_)
    rw[hit]
    have hz':(items.eraseIdxIfInBounds i).size <= sizeLine + 1:=Nat.le_trans (size_erased items _) (Nat.le_succ_of_le hs1)
    wp_walk using (wpAny_updateSeq hl rfl (hz:=hs1) (_hz':=hz')),wpAny_loadPart' hl
    simpa using h
  | succ k ih=>
    intro i hk hij hno prog w A R s h
    obtain⟨hp,g,d,tk,os⟩:=s;obtain⟨he,hl,h⟩:=h
    have hlt:i < items.size:=by omega
    wp_walk using wpAny_loadPart' hl
    rw[show items[((i:Nat):Int).toNat]? = some items[i] by simp[hlt]]
    refine wpAny_bind (he i hlt prog w _ _ ?_)
    rw[hno i hlt (Nat.le_refl _) (by omega)]
    wp_walk
    rw[show((i:Int) + 1)=((i + 1:Nat):Int) by push_cast;rfl]
    exact⟨plainId_quiet plain_remove_loop _,codeAny_builtin entry_remove_loop (by
      rw[Around.under_plainId plain_remove_loop _]
      exact ih (i + 1) (by omega) (by omega) (λ m hm h1 h2=>hno m hm (by omega) h2) prog w A R _ ⟨he,hl,h⟩)⟩
theorem NF(l:Addr)(items:Array Value)(n:Nat)(x:Value)(e:Nat->Bool)(j:Nat)(hj:j < items.size)
    (hit:e j=true) (hno:∀ m (hm:m < items.size),m < j->e m=false) (hs1:items.size <= sizeLine) :
    Meets (Builtin.«list.remove» ⟨[.ref l,x],[]⟩)
      (λ A R s=>(∀ m (hm:m < items.size),EqAt A.in1 s items[m] x (e m))/\s.heap.get? l=some { cls:=.type "list",dict:=none,data:=.seq items n,slots:=#[] }/\R (.ok (.ret .none)) { s with heap:=s.heap.update l (Obj.mapSeq λ xs=>xs.eraseIdxIfInBounds j) }):=by
  intro prog w A R s h
  obtain⟨hp,g,d,tk,os⟩:=s;obtain⟨he,hl,h⟩:=h
  wp_walk using wpAny_loadPart' hl
  exact⟨plainId_quiet plain_remove_loop _,codeAny_builtin entry_remove_loop (by
    rw[Around.under_plainId plain_remove_loop _]
    exact NE l items n x e j hj hit _ hs1 0 rfl (Nat.zero_le _) (λ m hm _ h2=>hno m hm h2) prog w A R _ ⟨he,hl,h⟩)⟩
end
noncomputable def Iu(K:PySem.W.Frag):V->List V->Hp->VK->Prop:=λ x vs H Q=>∃ (l:Addr) (xs:List V) (ds:List PyData) (y:V) (d:PyData) (k:Nat),x=.ref l/\vs=[y]/\H l=some (.lst xs)/\B8 K H ds xs/\Rep K H d y/\d.canLay0=true/\PyData.canLayAll0 ds=true/\d.depth <= 40/\(∃ z,ds[k]? = some z/\PyData.eqv z d=true)/\(∀ m z,m < k->ds[m]? = some z->PyData.eqv z d=false)/\Q .non (upd H l (.lst (xs.eraseIdx k)))
theorem GY{K:PySem.W.Frag}{H:Hp}:∀ {ds:List PyData} {xs:List V},B8 K H ds xs->ds.length=xs.length/\∀ (m:Nat) (z:PyData),ds[m]? = some z->∃ x,xs[m]? = some x/\Rep K H z x
  | [],xs,h=>by
    simp only[B8]at h
    subst h
    exact⟨rfl,λ m z q=>by simp at q⟩
  | d :: ds,xs,h=>by
    simp only[B8]at h
    obtain⟨x,r,rfl,h1,h2⟩:=h
    have ih:=GY h2
    refine⟨by simp[ih.1],λ m z q=>?_⟩
    cases m with
    | zero=>simp at q;subst q;exact⟨x,rfl,h1⟩
    | succ m=>exact ih.2 m z (by simpa using q)
theorem Gs:∀ {ds:List PyData},PyData.canLayAll0 ds=true->∀ {m:Nat} {z:PyData},ds[m]? = some z->z.canLay0=true
  | [],_,m,z,q=>by simp at q
  | d :: ds,h,m,z,q=>by
    simp only[PyData.canLayAll0,Bool.and_eq_true]at h
    cases m with
    | zero=>simp at q;subst q;exact h.1
    | succ m=>exact Gs h.2 (by simpa using q)
theorem Kz(K:PySem.W.Frag){X:Cx}(hu:X.A.units + 64 < cLine)(hK:X.K=K:=by rfl):MtM X "list.remove" (Iu K):=by
  subst hK
  intro pins s σ H x vs v us Q I rx rv h
  obtain⟨l,xs,ds,y,d,k,rfl,rfl,hH,hr,hy,c1,c2,hd,⟨z0,hk,hit⟩,hno,q⟩:=h
  cases rx
  obtain⟨u,rfl,ru⟩:=rv.one
  obtain⟨z,its,n,r,hl,e⟩:=I.lstM hH
  obtain⟨len,get⟩:=GY hr
  obtain⟨bs,rb⟩:=Bv I d y u hy ru
  have li:its.length=xs.length:=by rw[<- hl]
  have hkn:k < ds.length:=(List.getElem?_eq_some_iff.mp hk).1
  refine call_meets F.slot_list_remove ⟨_,e,rfl⟩ F.entry_list_remove (F.args_list_remove_2 _ _)
    (NF l its.toArray n u (λ m=>match ds[m]? with|some z=>PyData.eqv z d|none=>false) k ?_ ?_ ?_ ?_) ⟨?_,e,?_⟩
  . rw[List.size_toArray,li];omega
  . simp only[hk,hit]
  . intro m hm hmk
    have hm':m < ds.length:=by omega
    simp only[List.getElem?_eq_getElem hm']
    exact hno m _ hmk (List.getElem?_eq_getElem hm')
  . rw[List.size_toArray];omega
  . intro m hm
    have hm':m < ds.length:=by rw[List.size_toArray,li]at hm;omega
    obtain⟨w,hw,rw'⟩:=get m ds[m] (List.getElem?_eq_getElem hm')
    obtain⟨w',hw',rv'⟩:=r.get hw
    obtain⟨as,ra⟩:=Bv I _ w w' rw' rv'
    have e1:its.toArray[m]=w':=by
      simp only[List.getElem_toArray]
      exact(List.getElem?_eq_some_iff.mp hw').2
    rw[e1]
    simp only[List.getElem?_eq_getElem hm']
    refine PySem.SeqAt.eqAt_reads _ _ _ _ _ _ _ _ ra rb (Gs c2 (List.getElem?_eq_getElem hm')) c1 ?_
    have:=Nat.min_le_right (PyData.depth ds[m]) d.depth
    have hi:X.A.in1.units <= X.A.units + 1:=by first|exact Nat.le_refl _|simp[Around.in1,Around.units]
    omega
  . refine⟨.non,_,I.lset (its':=its.eraseIdx k) hH e ?_ (r.eraseIdx k) ?_,rfl,q⟩
    . show its.toArray.eraseIdxIfInBounds k=(its.eraseIdx k).toArray
      rw[List.eraseIdxIfInBounds_toArray]
    . have:=List.length_eraseIdx_le xs k
      omega
open Classical in
noncomputable def BR(is:List I)(i:I):Nat:=is.findIdx λ j=>PyData.eqv j.py i.py
noncomputable def Eo:D->List D->Hd->Option (D × Hd)
  | .mu n,[.im i],hd=>match hd[n]? with
    | some (.lst ds)=>(BN ds).bind λ is=>if BR is i < is.length/\i.py.canLay0=true/\PyData.canLayAll0 (I.pys is)=true/\i.py.depth <= 40 then some (.im .non,hd.set n (.lst (ds.eraseIdx (BR is i))))else none
    | _=>none
  | _,_,_=>none
theorem Hi{K:PySem.W.Frag}{ρ:List Addr}{H:Hp}:∀ {ds:List D} {xs:List V} (k:Nat),RDs K ρ H ds xs->RDs K ρ H (ds.eraseIdx k) (xs.eraseIdx k)
  | [],xs,k,h=>by simp only[RDs]at h;subst h;simp[RDs]
  | d :: ds,xs,k,h=>by
    simp only[RDs]at h
    obtain⟨x,r,rfl,h1,h2⟩:=h
    cases k with
    | zero=>simpa using h2
    | succ k=>simp only[List.eraseIdx_cons_succ,RDs];exact⟨_,_,rfl,h1,Hi k h2⟩
theorem Jn{K:PySem.W.Frag}{ρ:List Addr}{H:Hp}:∀ {is:List I} {xs:List V},RDs K ρ H (is.map D.im) xs->B8 K H (I.pys is) xs
  | [],xs,h=>by simpa [RDs,B8,I.pys]using h
  | i :: is,xs,h=>by
    simp only[List.map_cons,RDs,RD]at h
    obtain⟨x,r,rfl,h1,h2⟩:=h
    simp only[I.pys,B8]
    exact⟨_,_,rfl,h1.rep,Jn h2⟩
theorem Ju(is:List I)(m:Nat):(I.pys is)[m]? = (is[m]?).map I.py:=by
  induction is generalizing m with
  | nil=>simp[I.pys]
  | cons i is ih=>
    cases m with
    | zero=>simp[I.pys]
    | succ m=>simpa [I.pys]using ih m
theorem Ki{K:PySem.W.Frag}:RM K (Iu K) Eo:=by
  intro ρ H hd d v ds vs Q z hd' hR h1 h2 hf hQ
  unfold Eo at hf
  split at hf
  . next n i=>
    split at hf
    . next es q=>
      obtain⟨is,e0,hf⟩:=Option.bind_eq_some_iff.mp hf
      split at hf
      . next c=>
        cases hf
        simp only[RD]at h1
        obtain⟨a,hn,rfl⟩:=h1
        simp only[RDs,RD]at h2
        obtain⟨x,r,rfl,hx,rfl⟩:=h2
        obtain⟨xs,f1,f2⟩:=hR.lst hn q
        have e1:=Dy e0
        have rp:B8 K H (I.pys is) xs:=by rw[e1]at f2;exact Jn f2
        obtain⟨R2,x2⟩:=hR.put hn (o:=.lst (es.eraseIdx (BR is i))) (ho:=.lst (xs.eraseIdx (BR is i))) ⟨_,rfl,Hi _ f2⟩
        refine⟨a,xs,I.pys is,x,i.py,BR is i,rfl,rfl,f1,rp,hx.rep,c.2.1,c.2.2.1,c.2.2.2,⟨is[BR is i].py,?_,?_⟩,λ m z hm hz=>?_,hQ ρ _ _ x2 R2 (by simp[RD,RI])⟩
        . rw[Ju,List.getElem?_eq_getElem c.1];rfl
        . exact List.findIdx_getElem (p:=λ j=>PyData.eqv (I.py j) i.py) (w:=c.1)
        . rw[Ju]at hz
          obtain⟨j,hj,rfl⟩:=Option.map_eq_some_iff.mp hz
          have hml:m < is.length:=by have:=c.1;omega
          have:=List.not_of_lt_findIdx (p:=λ j=>PyData.eqv (I.py j) i.py) (xs:=is) hm
          rw[List.getElem?_eq_getElem hml]at hj
          cases hj
          simpa using this
      . cases hf
    . cases hf
  . cases hf
section
variable{hd:Hd}{QE:D->Hd->Prop}
theorem KP{k:Nat}{i:I}{is:List I}(e1:hd[k]? = some (.lst (is.map D.im)))(c:BR is i < is.length)(c1:i.py.canLay0=true)(c2:PyData.canLayAll0 (I.pys is)=true)(c3:i.py.depth <= 40)(q:QE (.im .non) (hd.set k (.lst ((is.eraseIdx (BR is i)).map D.im)))):WP (Eo (.mu k) [.im i] hd) QE:=by
  refine⟨_,_,?_,q⟩
  show(match hd[k]? with
    | some (.lst ds)=>(BN ds).bind λ is=>if BR is i < is.length/\i.py.canLay0=true/\PyData.canLayAll0 (I.pys is)=true/\i.py.depth <= 40 then some (D.im .non,hd.set k (.lst (ds.eraseIdx (BR is i))))else none
    | _=>none)=_
  rw[e1]
  have:(is.map D.im).eraseIdx (BR is i)=(is.eraseIdx (BR is i)).map D.im:=Bd.erase_map _ _ _
  simp[c,c1,c2,c3,this]
end
end L2
namespace L2
open PySem PySem.Spec PyProof.Rows
section
variable{prog:Program}{w:World}{A:Around}{E:Value->Shared->Prop}{R:Result->Shared->Prop}{h:Heap}{g:Array GenState}{d:Drawn}{t:Nat}{os:OsState}
variable{nm q:Str}{C N:Addr}{bs bm:List Value}{hdct:Bool}{sn:List Str}{sub:List Value}{ab:Bool}{col:Option Bool}{dd:Option Addr}{k0 k1 k2 k3 k5:Option Value}
noncomputable abbrev Ea(C t:Addr):Obj:={ cls:=.ref C,data:=.fields #[.ref t,.none,.none,.none,.bool false,.none] }
theorem Qe{rest:List Value}(hC:h.get? C=some (excClassObj nm q C N bs bm hdct sn sub ab col dd k0 k1 k2 k3 k5 "ValueError.__new__"))(b1:(Value.ref C :: bm).contains (.type "ValueError")=true)
    (b2:(Value.ref C :: bm).contains (.type "AttributeError")=false) (b3:(Value.ref C :: bm).contains (.type "NameError")=false) (hrest:rest.length <= sizeLine)
    (hq:R (.ok (.ret (.ref (h.objs.size + 1)))) ⟨(h.push { cls:=.type "tuple",data:=.seq rest.toArray }).push (Ea C h.objs.size),g,d,t,os⟩) :
    codeAny (model prog w) A (.builtin "ValueError.__new__" ⟨.ref C :: rest,[]⟩) R ⟨h,g,d,t,os⟩:=by
  have F0:=F.excBase_ValueError
  have en:=F0.ends
  refine codeAny_builtinAt F0.entry (PySem.wpAt_bind ?_)
  show PySem.wpAt _ _ _ (stack >>= _) _ _ _
  refine PySem.wpAt_bind (PySem.wpAt_stack λ p0 below0=>PySem.wpAt_of_wpAny ?_)
  wp_walk;refine PySem.wpAt_of_wpAny ?_;rw[F0.owner]
  repeat (first|with_reducible refine wpAny_madeHere_exc F0.canon hC ?_|with_reducible refine wpAny_loadPart_at hC ?_|(with_reducible refine wpAny_isSubtype_exc hC ?_;first|rw[b1]|rw[b2]|rw[b3])|wp_step)
  show R _ _;rw[Heap.size_push];exact hq
theorem Md{M:Model}{rest:List Value}{Q:Unit->Shared->Prop}(hC:h.get? C=some (excClassObj nm q C N bs bm hdct sn sub ab col dd k0 k1 k2 k3 k5 "ValueError.__new__"))(b1:bm.contains (.type "ValueError")=true)
    (hq:Q () ⟨h,g,d,t,os⟩):wpAny M A (checkBuiltinCall "ValueError.__new__" ⟨.ref C :: rest,[]⟩) Q E ⟨h,g,d,t,os⟩:=
  wpAny_check_new_subU F.excBase_ValueError b1 .base hC hq
theorem Nm{rest:List Value}:Heap.MadeExcOf h ((h.push { cls:=.type "tuple",data:=.seq rest.toArray }).push (Ea C h.objs.size)) (h.objs.size + 1) (.ref C) rest:=by
  refine⟨λ b o e=>Heap.get?_push_of_some _ (Heap.get?_push_of_some _ e),Heap.get?_none_of_le (Nat.le_succ _),h.objs.size,?_,Heap.get?_none_of_le (Nat.le_refl _),Heap.get?_push_of_some _ (Heap.get?_push_at rfl rfl)⟩
  exact Heap.get?_push_at (by rw[Heap.size_push]) rfl
theorem O6{K:PySem.W.Frag}{fI:Addr}{rest:List Value}{Q:Value->Shared->Prop}(X:K.In h)(hC:h.get? C=some (excClassObj nm q C N bs bm hdct sn sub ab col dd k0 k1 k2 k3 k5 "ValueError.__new__"))(b1:bm.contains (.type "ValueError")=true)
    (b2:bm.contains (.type "AttributeError")=false) (b3:bm.contains (.type "NameError")=false) (hi:PySem.W.findIn K (.ref C) "__init__"=some (some (.ref fI))) (hf:PySem.W.typeIn K (.ref fI)=some (.type "function")) (hrest:rest.length <= sizeLine)
    (hq:wpAny (model prog w) (A.under (.builtin "type.__call__" ⟨.ref C :: rest,[]⟩)) (call (.ref fI) (.ref (h.objs.size + 1) :: rest)) (λ r s'=>r=.none/\Q (.ref (h.objs.size + 1)) s') E ⟨(h.push { cls:=.type "tuple",data:=.seq rest.toArray }).push (Ea C h.objs.size),g,d,t,os⟩) :
    wpAny (model prog w) A (call (.ref C) rest) Q E ⟨h,g,d,t,os⟩:=by
  have f1:=tc_lookup
  have f2:=tc_bind (.ref C)
  have hT:(⟨h,g,d,t,os⟩:Shared).TypeIs (.ref C) "type":=⟨_,hC,rfl⟩
  have c1:(Value.ref C :: bm).contains (.type "ValueError")=true:=by rw[List.contains_cons,b1,Bool.or_true]
  have c2:(Value.ref C :: bm).contains (.type "AttributeError")=false:=by rw[List.contains_cons,b2];rfl
  have c3:(Value.ref C :: bm).contains (.type "NameError")=false:=by rw[List.contains_cons,b3];rfl
  have m0:Heap.MadeExcOf h ((h.push { cls:=.type "tuple",data:=.seq rest.toArray }).push (Ea C h.objs.size)) (h.objs.size + 1) (.ref C) rest:=Nm
  have X1:=X.keeps m0.keeps
  have hC1:=m0.keeps _ _ hC
  have e1:((h.push { cls:=.type "tuple",data:=.seq rest.toArray }).push (Ea C h.objs.size)).get? (h.objs.size + 1)=some { cls:=.ref C,data:=.fields #[.ref h.objs.size,.none,.none,.none,.bool false,.none] }:=Heap.get?_push_at (by rw[Heap.size_push]) rfl
  have cc:(Value.ref C :: bm).contains (.ref C)=true:=by simp
  refine wpAny_call (codeAny_of_tree ?_)
  show wpAny _ _ (callAny (.ref C) _) _ _ _
  repeat (any_goals (first|assumption|with_reducible refine wpAny_loadPart_at hC ?_|wp_step))
  refine⟨rfl,codeAny_call_builtin_at (Code.quiet_builtin _ (by decide +kernel)) entry_typeCall (wpAny_check_type_call_sub hC ?_)⟩
  repeat (first|with_reducible refine wpAny_loadPart_at hC ?_|with_reducible refine wpAny_madeBy_exc hC ?_|wp_step)
  refine codeAny_call_builtin_code (Code.quiet_builtin _ F.excBase_ValueError.quiet) (Md hC b1 (Qe hC c1 c2 c3 hrest ?_))
  show wpAny _ _ _ _ _ _
  unfold isInstance
  repeat (first|with_reducible refine wpAny_loadPart_at e1 ?_|(refine wpAny_isSubtype_exc hC1 ?_;rw[cc])|wp_step)
  show wpAny _ _ (typeLookup (.ref C) _) _ _ _
  refine PySem.W.Looks.at (PySem.W.looks_findIn X1 hi) (wpAny_holding (wpAny_bind (PySem.W.Looks.at (PySem.W.bind_fn X1 _ hf) (wpAny_bind (wpAny_mono hq (λ r s' hr=>?_) λ _ _ x=>x)))))
  obtain⟨rfl,z⟩:=hr
  wp_walk
  exact z
end
end L2
namespace L2
open PySem PySem.Spec PyProof.Rows
open Builtin Builtin.ObjectAttr
inductive OverV:List Value->Prop
  | base:OverV [.type "ValueError",.type "Exception",.type "BaseException",.type "object"]
  | own {c:Addr} {l:List Value}:OverV l->OverV (.ref c :: l)
theorem OverV.sa(self:Value){l:List Value}(h:OverV l):refuseLoop self "__setattr__" l=pure ():=by
  induction h with
  | base=>exact PySem.F.store_ValueError.passes self
  | own _ ih=>rw[refuseLoop_ref];exact ih
theorem OverV.has{l:List Value}(h:OverV l){x:String}(e:[Value.type "ValueError",.type "Exception",.type "BaseException",.type "object"].contains (.type x)=true):l.contains (.type x)=true:=by
  induction h with
  | base=>exact e
  | own _ ih=>rw[List.contains_cons,ih,Bool.or_true]
theorem OverV.not{l:List Value}(h:OverV l){x:String}(e:[Value.type "ValueError",.type "Exception",.type "BaseException",.type "object"].contains (.type x)=false):l.contains (.type x)=false:=by
  induction h with
  | base=>exact e
  | own _ ih=>rw[List.contains_cons,ih];rfl
structure XC(K:PySem.W.Frag)(C fI:Addr):Prop where
  at_:∃ nm q N bs bm sn sub ab col dd k0 k1 k2 k3 k5,K.lookup C=some (excClassObj nm q C N bs bm true sn sub ab col dd k0 k1 k2 k3 k5 "ValueError.__new__")/\OverV bm
  init:PySem.W.findIn K (.ref C) "__init__"=some (some (.ref fI))
  fn:PySem.W.isFn K (.ref fI)=true
  kp:PySem.W.keepIn K (.ref C)=true
  sa:PySem.W.findIn K (.ref C) "__setattr__"=some (some (.builtin "object.__setattr__"))
  ga:PySem.W.findIn K (.ref C) "__getattribute__"=some (some (.builtin "BaseException.__getattribute__"))
  gx:PySem.W.findIn K (.ref C) "__getattr__"=some none
section
variable{prog:Program}{w:World}{A:Around}{E:Value->Shared->Prop}{s:Shared}{K:PySem.W.Frag}{C fI x:Addr}{name:Str}{v:Value}
theorem XC.cls(c:XC K C fI):∃ cd,PySem.W.clsIn K C=some cd/\OverV cd.mro/\cd.hasDict=true:=by
  obtain⟨nm,q,N,bs,bm,sn,sub,ab,col,dd,k0,k1,k2,k3,k5,e,o⟩:=c.at_
  exact⟨_,by unfold PySem.W.clsIn;rw[e],.own o,rfl⟩
theorem PB{sl:Array (Option Value)}{vs:Array Value}{Q:Unit->Shared->Prop}(X:K.In s.heap)(c:XC K C fI)(hx:s.heap.get? x=some ⟨.ref C,none,.fields vs,sl⟩)(na:PySem.W.findIn K (.ref C) name=some none)
    (h:∀ h',h'.get? x=some ⟨.ref C,some s.heap.objs.size,.fields vs,sl⟩->h'.Ns1 s.heap.objs.size (λ y=>if y=name then some v else none)->(∀ b o,b ≠ x->s.heap.get? b=some o->h'.get? b=some o)->Q () { s with heap:=h',toks:=s.toks + 2 }) :
    wpAny (model prog w) A (setAttr (.ref x) name v) Q E s:=by
  have SF:=PySem.F.store_object
  have I:PySem.W.InstAt s.heap x ⟨.ref C,none,.fields vs,sl⟩ C none:=⟨hx,rfl,rfl,True.intro⟩
  obtain⟨cd,hc,ov,hd⟩:=c.cls
  have ne:cd.mro.isEmpty=false:=by cases q:cd.mro with|nil=>rw[q]at ov;cases ov|cons _ _=>rfl
  have sub:PySem.W.Looks (model prog w) s.heap (isInstance (.ref x) (.type "object")) true:=
    I.type.andThen (PySem.W.looks_mroIn X (by unfold PySem.W.mroIn;rw[hc,Option.bind_some,if_neg (by rw[ne];decide),ov.has (by decide +kernel)]))
  have hm:PySem.W.Looks (model prog w) s.heap (mroOf (.ref C)) cd.mro:=(PySem.W.looks_clsIn X hc).andThen .now
  refine PySem.W.set_plain X I c.sa (codeAny_call_builtin SF.slot.plain SF.entry (@PySem.W.check_slot (model prog w) _ _ _ "object.__setattr__" "object" "__setattr__" (.ref x) [.str name s.toks,v] [] _ SF.kind SF.split sub (SF.args (.ref x) (.str name s.toks) v) ?_))
  rw[PySem.W.osa_eq,refuse_eq]
  refine wpAny_bind (wpAny_bind (I.type.here (s:={ s with toks:=s.toks + 1 }) (wpAny_bind (hm.here (s:={ s with toks:=s.toks + 1 }) ?_))))
  rw[ov.sa]
  refine wpAny_pure (wpAny_bind (I.type.here (s:={ s with toks:=s.toks + 1 }) (wpAny_bind ((PySem.W.looks_findIn X na).here (s:={ s with toks:=s.toks + 1 }) (wpAny_bind (wpAny_pure ?_))))))
  have hxs:x ≠ s.heap.objs.size:=Nat.ne_of_lt (Heap.lt_size hx)
  have hx1:(s.heap.push { cls:=.type "dict",data:=.dict #[] }).get? x=some ⟨.ref C,none,.fields vs,sl⟩:=Heap.get?_push_of_some _ hx
  refine wpAny_bind (wpAny_pure (wpAny_bind (wpAny_bind (wpAny_loadPart hx (wpAny_bind (PySem.W.Looks.here (s:={ s with toks:=s.toks + 1 }) (PySem.W.looks_clsIn X hc) ?_))))))
  rw[hd]
  show wpAny _ _ (do let d <- alloc { cls:=.type "dict",data:=.dict #[] };update x λ o=>{ cls:=o.cls,dict:=some d,data:=o.data,slots:=o.slots };dictMade (.ref C) x d) _ _ _
  refine wpAny_bind (wpAny_alloc' (wpAny_bind (wpAny_update' hx1 ?_)))
  generalize hh:((s.heap.push { cls:=.type "dict",data:=.dict #[] }).update x λ o=>{ cls:=o.cls,dict:=some s.heap.objs.size,data:=o.data,slots:=o.slots })=h2
  have g1:h2.get? s.heap.objs.size=some { cls:=.type "dict",data:=.dict #[] }:=by rw[<- hh];exact(Heap.get?_update_ne _ _ _ _ hxs.symm).trans (Heap.get?_push_at rfl rfl)
  have g2:h2.get? x=some ⟨.ref C,some s.heap.objs.size,.fields vs,sl⟩:=by rw[<- hh];exact Heap.get?_update_self _ hx1 rfl
  have g3:∀ b o,b ≠ x->s.heap.get? b=some o->h2.get? b=some o:=λ b o n e=>by rw[<- hh];exact(Heap.get?_update_ne _ _ _ _ n).trans (Heap.get?_push_of_some _ e)
  have hnd:h2.Ns s.heap.objs.size (λ _=>none):=⟨_,#[],_,g1,rfl,λ e he=>absurd he (by simp),λ _=>rfl⟩
  refine wpAny_pure ?_
  show wpAny _ _ (storeInDict s.heap.objs.size (.str name s.toks) name v) _ _ _
  unfold storeInDict newKeyGuard
  refine wpAny_bind (wpAny_pure (wpAny_bind (wpAny_nsSet1 (Heap.Ns1.of_empty hnd) λ h' hn' hs=>?_)))
  obtain⟨oD,esD,epD,hoD,hdD,hcD⟩:=hn'.count (Within.cons name v Within.nil)
  refine wpAny_bind (wpAny_lookBehind hoD (by rw[hdD];exact pastItsLine_dict (Nat.le_trans hcD (by rw[List.length_cons,List.length_nil,sizeLine_eq];omega))) ?_)
  exact wpAny_pure (h h' ((hs.2 x hxs).trans g2) hn' λ b o n e=>(hs.2 b (Nat.ne_of_lt (Heap.lt_size e))).trans (g3 b o n e))
end
end L2
namespace L2
open PySem PySem.Spec PyProof.Rows
open Builtin Builtin.ObjectAttr
section
variable{prog:Program}{w:World}{A:Around}{E:Value->Shared->Prop}{s:Shared}{K:PySem.W.Frag}{C fI x dx:Addr}{name:Str}{v:Value}{mA:Str->Option Value}
theorem Qd{sl:Array (Option Value)}{vs:Array Value}{expr:Bool}{Q:Value->Shared->Prop}(X:K.In s.heap)(c:XC K C fI)(hx:s.heap.get? x=some ⟨.ref C,some dx,.fields vs,sl⟩)(hn:s.heap.Ns1 dx mA)(na:PySem.W.findIn K (.ref C) name=some none)(hv:mA name=some v)
    (hh:PySem.W.handedIn v=true) (h:Q v { s with toks:=s.toks + 1 }):wpAny (model prog w) A (getAttr (.ref x) name expr) Q E s:=by
  obtain⟨od,ho,hl⟩:=Hl hn
  obtain⟨hp,g,d,t,os⟩:=s
  have I:PySem.W.InstAt hp x ⟨.ref C,some dx,.fields vs,sl⟩ C (some od):=⟨hx,rfl,rfl,ho⟩
  obtain⟨cd,hc,ov,hd⟩:=c.cls
  have hhd:PySem.W.hasDictIn K C=true:=by unfold PySem.W.hasDictIn;rw[hc];exact hd
  have L0:PySem.W.Looks (model prog w) hp (typeOf (.ref x)) (.ref C):=I.type
  have L1:PySem.W.Looks (model prog w) hp (find (.ref x) (.ref C) name) (.value v):=PySem.W.looks_find X I (PySem.W.findObj_own hhd na rfl (by rw[hl,hv]))
  have L2:PySem.W.Looks (model prog w) hp (typeLookup (.ref C) "__getattribute__") (some (.builtin "BaseException.__getattribute__")):=PySem.W.looks_findIn X c.ga
  have L3:PySem.W.Looks (model prog w) hp (hookBefore (.ref C)) none:=PySem.W.looks_hook X c.gx
  have ne:cd.mro.isEmpty=false:=by cases q:cd.mro with|nil=>rw[q]at ov;cases ov|cons _ _=>rfl
  have sub:PySem.W.Looks (model prog w) hp (isInstance (.ref x) (.type "BaseException")) true:=
    I.type.andThen (PySem.W.looks_mroIn X (by unfold PySem.W.mroIn;rw[hc,Option.bind_some,if_neg (by rw[ne];decide),ov.has (by decide +kernel)]))
  have hx2:(Value.builtin "BaseException.__getattribute__" == Value.builtin "object.__getattribute__")=false:=by decide +kernel
  have hx1:(onTheHeap (Value.ref C) && Value.builtin "BaseException.__getattribute__" == Value.builtin "object.__getattribute__")=false:=by rw[hx2];rfl
  unfold getAttr getAttrBy
  refine wpAny_bind (wpAny_mkText (wpAny_holding (wpAny_bind (L0.at (wpAny_bind (L2.at ?_))))))
  dsimp only
  rw[if_neg (by rw[hx1];exact Bool.false_ne_true)]
  unfold getAttrByItsOwn
  refine wpAny_bind (L3.at (wpAny_bind (wpAny_attempt (wpAny_holding ?_))))
  have hx0:(expr && onTheHeap (Value.builtin "BaseException.__getattribute__"))=false:=by cases expr <;> rfl
  have FB:=F.attrBase_ValueError
  have hk:builtinKind "BaseException.__getattribute__"=some .slot:=by decide +kernel
  have hs:splitId "BaseException.__getattribute__"=some ("BaseException","__getattribute__"):=by decide +kernel
  unfold callGetattribute boundAndCalled
  rw[if_neg (by rw[hx0];exact Bool.false_ne_true),FB.ga.bind]
  refine wpAny_bind (wpAny_pure (wpAny_call (codeAny_call_builtin FB.ga.plain F.entry_bexc_ga (@PySem.W.check_slot (model prog w) _ _ _ "BaseException.__getattribute__" "BaseException" "__getattribute__" (.ref x) [.str name t] [] _ hk hs sub (F.args_bexc_ga _ _) ?_))))
  refine wpAny_bind (wpAny_pure (wpAny_bind (wpAny_pure (wpAny_bind (L0.at (wpAny_bind (L1.at ?_)))))))
  refine wpAny_pure ?_
  show wpAny _ _ (handedOut v) _ _ _
  rw[PySem.W.handedOut_of hh];exact wpAny_pure h
theorem Lr{M:Model}{env:Env}{xe:Expr}{pos:Pos}{Q:Flow->Shared->Prop}(hh:A.handled=none)(c:XC K C fI)
    (h:wpAny M A (eval xe env) (λ v s1=>∃ e t dx sl,v=.ref e/\K.In s1.heap/\s1.heap.get? e=some ⟨.ref C,some dx,.fields #[.ref t,.none,.none,.none,.bool false,.none],sl⟩/\E (.ref e) s1) E s) :
    wpAny M A (exec (.Raise (some xe) none pos) env) Q E s:=by
  obtain⟨nm,q,N,bs,bm,sn,sub,ab,col,dd,k0,k1,k2,k3,k5,lk,ov⟩:=c.at_
  have cb:(Value.ref C :: bm).contains (.type "BaseException")=true:=(OverV.own ov).has (by decide +kernel)
  rw[arm_exec_Raise]
  refine wpAny_bind (wpAny_standAt ?_)
  show wpAny _ _ (raiseStmt env (some (do let v <- eval xe env;standAt pos;pure v)) none) _ _ _
  unfold raiseStmt
  refine wpAny_bind (wpAny_bind (wpAny_mono h (λ v s1 h1=>?_) λ _ _ z=>z))
  obtain⟨e,t,dx,sl,rfl,X,he,hE⟩:=h1
  have hC:=X _ _ lk
  refine wpAny_bind (wpAny_standAt (wpAny_pure ?_))
  obtain⟨hp,g,d,tk,os⟩:=s1
  repeat (first|with_reducible refine wpAny_loadPart_at he ?_|with_reducible refine wpAny_loadPart_at hC ?_|(with_reducible refine wpAny_isSubtype_exc hC ?_;rw[cb])|wp_step)
  exact wpAny_raiseNew_none hh hE
end
end L2
namespace L2
open PySem PySem.Spec PyProof.Rows
noncomputable def Exo(h:Heap)(a C dx:Addr)(tb:Value):Prop:=∃ vs sl,h.get? a=some ⟨.ref C,some dx,.fields vs,sl⟩/\vs[1]? = some tb
noncomputable def Trc(h:Heap)(T:Addr):Prop:=∃ oT ts,h.get? T=some oT/\oT.data=.fields ts/\ts[3]? = some Value.none
noncomputable def OA(h:Heap)(a:Addr)(tb:Value):Prop:=tb=.none ∨ ∃ T,tb=.ref T/\T ≠ a/\Trc h T
structure Note(fs:List Addr)(a:Addr)(tb:Value)(h h':Heap):Prop where
  keep:∀ b o,h.get? b=some o->b ≠ a->.ref b ≠ tb->b ∉ fs->h'.get? b=some o
  slot:∀ b o,h.get? b=some o->b ∈ fs->∃ sl,h'.get? b=some { o with slots:=sl }
  there:∀ b o,h.get? b=some o->∃ o',h'.get? b=some o'
section
variable{M:Model}{A:Around}{E:Value->Shared->Prop}{s:Shared}{base:Heap}{env:Env}{outer:List Env}{L a C dx:Addr}{tb:Value}
theorem JD{Q:Unit->Shared->Prop}(hfr:A.frames=some (env :: outer))(hl:s.heap.FunFrames base (env :: outer))(hf:env.frame=some L)(he:Exo s.heap a C dx tb)(ht:OA s.heap a tb)
    (h:∀ h' T,s.heap.objs.size <= T->T ≠ a->Exo h' a C dx (.ref T)->Trc h' T->Note (frs (env :: outer)) a tb s.heap h'->Q () { s with heap:=h' }) :
    wpAny M A (noteFrame (.ref a) env) (λ _ s2=>wpAny M A (setFlight (.ref a) none) Q E s2) E s:=by
  obtain⟨vs,sl,ha,h1⟩:=he
  have sz:1 < vs.size:=(Array.getElem?_eq_some_iff.mp h1).1
  have frF:∀ b ∈ frs (env :: outer),∃ o,s.heap.get? b=some o/\∀ vs,o.data ≠ .fields vs:=λ b hb=>(hl.mem hb).2
  have naF:a ∉ frs (env :: outer):=λ hb=>by
    obtain⟨o,e,n⟩:=frF a hb
    rw[ha]at e;cases e;exact n vs rfl
  -- the entry that is made,over a heap h0 that differs from s.heap at the head alone
  have main:∀ (h0:Heap) (hadNext:Bool),h0.objs.size=s.heap.objs.size->h0.get? a=some ⟨.ref C,some dx,.fields vs,sl⟩->(∀ b o,s.heap.get? b=some o->.ref b ≠ tb->h0.get? b=some o)->(∀ b o,s.heap.get? b=some o->∃ o',h0.get? b=some o')->h0.FunFrames base (env :: outer) ->
      wpAny M A (do let f <- frameOf env;let pl <- entryPlaceOf L hadNext;let b <- EntryCells.newEntry tb f .none (rawInt L) .none pl;setField (.ref a) 1 b) (λ _ s2=>wpAny M A (setFlight (.ref a) none) Q E s2) E { s with heap:=h0 }:=by
    intro h0 hadNext hz ha0 k0 t0 hl0
    refine wpAny_bind (wpAny_frameOf_fun (s:={ s with heap:=h0 }) hfr hl0 hf λ h1' hs1=>?_)
    refine wpAny_bind (wpAny_entryPlaceOf λ pl hpl=>?_)
    unfold EntryCells.newEntry newFields
    refine wpAny_bind (wpAny_newObj_type ?_ (hpl.sizeOk5 _ _ _ _ _))
    generalize hob:({ cls:=.type "traceback",dict:=none,data:=.fields ([tb,.ref L,.none,rawInt L,.none] ++ (if pl.isEmpty then List.replicate 6 Value.none else pl)).toArray }:Obj)=ob
    have hobd:ob.data=.fields ([tb,.ref L,.none,rawInt L,.none] ++ (if pl.isEmpty then List.replicate 6 Value.none else pl)).toArray:=by rw[<- hob]
    have z1:h1'.objs.size=s.heap.objs.size:=hs1.1.trans hz
    have ha1:h1'.get? a=some ⟨.ref C,some dx,.fields vs,sl⟩:=(hs1.2.1 a naF).trans ha0
    have ha2:=Heap.get?_push_of_some (h:=h1') ob ha1
    have nT:h1'.objs.size ≠ a:=Nat.ne_of_gt (Heap.lt_size ha1)
    refine wpAny_setField ha2 rfl sz ?_
    have ha3:=Heap.get?_update_self (Obj.mapFields (·.setIfInBounds 1 (Value.ref h1'.objs.size))) ha2 (Obj.isFreed_of_fields (Obj.data_mapFields rfl _))
    have hT3:=(Heap.get?_update_other (h1'.push ob) (Obj.mapFields (·.setIfInBounds 1 (Value.ref h1'.objs.size))) (Ne.symm nT)).trans (Heap.get?_push_size h1' (by rw[<- hob];rfl))
    unfold setFlight
    refine wpAny_bind (wpAny_field ha3 (Obj.data_mapFields rfl _) (x:=.ref h1'.objs.size) (by simp[sz]) ?_)
    rw[if_pos (show(Value.ref h1'.objs.size != Value.none)=true from by simp)]
    have three:3 < ([tb,.ref L,.none,rawInt L,.none] ++ (if pl.isEmpty then List.replicate 6 Value.none else pl)).toArray.size:=by simp only[List.size_toArray,List.length_append,List.length_cons,List.length_nil];omega
    refine wpAny_setField hT3 hobd three (h _ h1'.objs.size (Nat.le_of_eq z1.symm) nT ?_ ?_ ?_)
    . exact⟨_,sl,(Heap.get?_update_other _ _ nT).trans ha3,by simp[sz]⟩
    . exact⟨_,_,Heap.get?_update_self _ hT3 (Obj.isFreed_of_fields (Obj.data_mapFields hobd _)),Obj.data_mapFields hobd _,by simp only[Array.getElem?_setIfInBounds_self,three,if_true];rfl⟩
    . have up:∀ b o,h1'.get? b=some o->b ≠ a->(((h1'.push ob).update a (Obj.mapFields (·.setIfInBounds 1 (Value.ref h1'.objs.size)))).update h1'.objs.size (Obj.mapFields (·.setIfInBounds 3 ((none:Option Addr).elim Value.none λ f=>rawInt f)))).get? b=some o:=λ b o e n=>by
        rw[Heap.get?_update_other _ _ (Nat.ne_of_gt (Heap.lt_size e)),Heap.get?_update_other _ _ (Ne.symm n)]
        exact Heap.get?_push_of_some _ e
      refine⟨λ b o e n1 n2 n3=>up b o ((hs1.2.1 b n3).trans (k0 b o e n2)) n1,λ b o e hb=>?_,λ b o e=>?_⟩
      . obtain⟨o',e',n⟩:=frF b hb
        rw[e]at e';cases e'
        have hbt:.ref b ≠ tb:=by
          rcases ht with rfl|⟨T,rfl,_,oT,ts,eT,dT,_⟩
          . exact λ q=>by cases q
          . intro q;cases q;rw[e]at eT;cases eT;exact n ts dT
        obtain⟨sl',e1⟩:=hs1.2.2 b o (k0 b o e hbt)
        exact⟨sl',up b _ e1 λ q=>naF (q ▸ hb)⟩
      . by_cases q:b=a
        . subst q;exact⟨_,(Heap.get?_update_other _ _ nT).trans ha3⟩
        . obtain⟨o0,e0⟩:=t0 b o e
          obtain⟨sl',e1⟩:=hs1.2.2 b o0 e0
          exact⟨_,up b _ e1 q⟩
  unfold noteFrame
  simp only[hf]
  refine wpAny_bind (wpAny_field ha rfl h1 ?_)
  rcases ht with rfl|⟨T,rfl,nTa,oT,ts,eT,dT,e3⟩
  . rw[if_neg (by decide)]
    exact main s.heap _ rfl ha (λ b o e _=>e) (λ b o e=>⟨o,e⟩) hl
  . rw[if_pos (show(Value.ref T != Value.none)=true from by simp)]
    refine wpAny_bind (wpAny_field eT dT e3 ?_)
    rw[if_neg (show ¬ ((Value.none == rawInt L)=true)from by simp[rawInt])]
    refine wpAny_bind (wpAny_setField eT dT (Array.getElem?_eq_some_iff.mp e3).1 ?_)
    have oth:∀ b,b ≠ T->(s.heap.update T (Obj.mapFields (·.setIfInBounds 3 Value.none))).get? b=s.heap.get? b:=λ b n=>Heap.get?_update_other _ _ (Ne.symm n)
    refine main _ _ (by simp) ((oth a (Ne.symm nTa)).trans ha) (λ b o e n=>(oth b λ q=>n (by rw[q])).trans e) (λ b o e=>?_) (hl.of_keeps λ b o e n=>⟨o,(oth b λ q=>?_).trans e,rfl⟩)
    . by_cases q:b=T
      . subst q;exact⟨_,Heap.get?_update_self _ eT (Obj.isFreed_of_fields (Obj.data_mapFields dT _))⟩
      . exact⟨o,(oth b q).trans e⟩
    . subst q;rw[eT]at e;cases e;exact n ts dT
theorem MH{Q:Unit->Shared->Prop}(hfr:A.frames=some (env :: outer))(hl:s.heap.FunFrames base (env :: outer))(hf:env.frame=some L)(he:Exo s.heap a C dx tb)(ht:OA s.heap a tb)
    (h:∀ h' T,s.heap.objs.size <= T->T ≠ a->Exo h' a C dx (.ref T)->Trc h' T->Note (frs (env :: outer)) a tb s.heap h'->Q () { s with heap:=h' }):wpAny M A (leaving env (.ref a)) Q E s:=by
  unfold leaving
  exact wpAny_bind (JD hfr hl hf he ht h)
end
end L2
namespace L2
open PySem PySem.Spec PyProof.Rows
open Builtin Builtin.ObjectAttr
section
variable{prog:Program}{w:World}{A:Around}{E:Value->Shared->Prop}{s:Shared}{K:PySem.W.Frag}{C fI x dx:Addr}{mA:Str->Option Value}
structure XI(K:PySem.W.Frag)(C:Addr):Prop where
  ca:PySem.W.findIn K (.ref C) "__class__"=some (some (.builtin "object.__class__"))
  gd:PySem.W.specialIn K (.builtin "object.__class__") "__get__"=some (some (.builtin "getset_descriptor.__get__"))
  tk:PySem.W.takesIn K (.builtin "object.__class__")=some true
  mo:PySem.W.mroIn K C (.type "object")=some true
theorem Ma{sl:Array (Option Value)}{vs:Array Value}{od:Obj}{Q:Option Value->Shared->Prop}(X:K.In s.heap)(c:XC K C fI)(i:XI K C)(I:PySem.W.InstAt s.heap x ⟨.ref C,some dx,.fields vs,sl⟩ C (some od))
    (h:Q (some (.ref C)) { s with toks:=s.toks + 1 }):wpAny (model prog w) A (getAttr? (.ref x) "__class__") Q E s:=by
  obtain⟨hp,g,d,t,os⟩:=s
  obtain⟨cd,hc,ov,hd⟩:=c.cls
  have L0:PySem.W.Looks (model prog w) hp (typeOf (.ref x)) (.ref C):=I.type
  have L1:PySem.W.Looks (model prog w) hp (find (.ref x) (.ref C) "__class__") (.bind (.builtin "getset_descriptor.__get__") (.builtin "object.__class__")):=
    PySem.W.looks_find X I (PySem.W.findObj_data (by rw[hc];rfl) i.ca i.gd i.tk)
  have L2:PySem.W.Looks (model prog w) hp (typeLookup (.ref C) "__getattribute__") (some (.builtin "BaseException.__getattribute__")):=PySem.W.looks_findIn X c.ga
  have L3:PySem.W.Looks (model prog w) hp (hookBefore (.ref C)) none:=PySem.W.looks_hook X c.gx
  have ne:cd.mro.isEmpty=false:=by cases q:cd.mro with|nil=>rw[q]at ov;cases ov|cons _ _=>rfl
  have sub:PySem.W.Looks (model prog w) hp (isInstance (.ref x) (.type "BaseException")) true:=
    I.type.andThen (PySem.W.looks_mroIn X (by unfold PySem.W.mroIn;rw[hc,Option.bind_some,if_neg (by rw[ne];decide),ov.has (by decide +kernel)]))
  have hx2:(Value.builtin "BaseException.__getattribute__" == Value.builtin "object.__getattribute__")=false:=by decide +kernel
  have hx1:(onTheHeap (Value.ref C) && Value.builtin "BaseException.__getattribute__" == Value.builtin "object.__getattribute__")=false:=by rw[hx2];rfl
  have FB:=F.attrBase_ValueError
  have hk:builtinKind "BaseException.__getattribute__"=some .slot:=by decide +kernel
  have hs:splitId "BaseException.__getattribute__"=some ("BaseException","__getattribute__"):=by decide +kernel
  unfold getAttr? getAttrBy? getAttrBy
  refine wpAny_bind (wpAny_mkText (wpAny_bind (wpAny_attempt (wpAny_holding (wpAny_bind (L0.at (wpAny_bind (L2.at ?_))))))))
  dsimp only
  rw[if_neg (by rw[hx1];exact Bool.false_ne_true)]
  unfold getAttrByItsOwn
  refine wpAny_bind (L3.at (wpAny_bind (wpAny_attempt (wpAny_holding ?_))))
  unfold callGetattribute boundAndCalled
  rw[if_neg (by exact Bool.false_ne_true),FB.ga.bind]
  refine wpAny_bind (wpAny_pure (wpAny_call (codeAny_call_builtin FB.ga.plain F.entry_bexc_ga (@PySem.W.check_slot (model prog w) _ _ _ "BaseException.__getattribute__" "BaseException" "__getattribute__" (.ref x) [.str "__class__" t] [] _ hk hs sub (F.args_bexc_ga _ _) ?_))))
  refine wpAny_bind (wpAny_pure (wpAny_bind (wpAny_pure (wpAny_bind (L0.at (wpAny_bind (L1.at ?_)))))))
  show wpAny _ _ (bindTo _ _ _ _) _ _ _
  unfold bindTo
  refine wpAny_bind (wpAny_holding (wpAny_call (PySem.W.class_get (s:=⟨hp,g,d,t + 1,os⟩) (od:=some od) X I i.mo ?_)))
  refine wpAny_pure ?_
  show wpAny _ _ (handedOut (.ref C)) _ _ _
  rw[PySem.W.handedOut_of rfl]
  exact wpAny_pure (wpAny_pure h)
theorem JJ(c:XC K C fI)(i:XI K C):PySem.W.KitX K (.ref x) (.ref C) (λ h=>∃ dx vs sl od,PySem.W.InstAt h x ⟨.ref C,some dx,.fields vs,sl⟩ C (some od)) where
  ty:=λ _ _ _ ⟨_,_,_,_,I⟩=>I.type
  it:=λ _ _ X _=>by
    obtain⟨nm,q,N,bs,bm,sn,sub,ab,col,dd,k0,k1,k2,k3,k5,lk,ov⟩:=c.at_
    intro A' Q' E' s' k q'
    unfold isType loadHead
    exact wpAny_bind (wpAny_loadPart (k _ _ (X _ _ lk)) (wpAny_pure q'))
  ne:=λ h tp dd its n sl X htp=>by
    obtain⟨nm,q,N,bs,bm,sn,sub,ab,col,dd',k0,k1,k2,k3,k5,lk,ov⟩:=c.at_
    refine Bool.eq_false_iff.mpr λ q'=>?_
    have e:C=tp:=Value.ref.inj (beq_iff_eq.mp q')
    subst e
    have z:=(X _ _ lk).symm.trans htp
    exact absurd (congrArg Obj.data (Option.some.inj z)) (by intro q;cases q)
  ca:=λ X ⟨_,_,_,_,I⟩ k=>Ma X c i I k
end
noncomputable def X0(a C t:Addr)(h:Heap):Prop:=h.get? a=some (Ea C t)
noncomputable def X1(a C dx t:Addr)(h:Heap):Prop:=h.get? a=some ⟨.ref C,some dx,.fields #[.ref t,.none,.none,.none,.bool false,.none],#[]⟩
noncomputable def XO(a C dx:Addr)(h:Heap):Prop:=∃ tb,Exo h a C dx tb
noncomputable def New(X:Cx)(pins:List (Addr × Obj))(b:Addr):Prop:=(b ∈ X.ex ∨ X.s₀.heap.objs.size <= b)/\b ≠ X.env.locals/\(∀ x c,X.env.cells.lookup x=some c->c ≠ b)/\∀ p ∈ X.pn ++ pins,p.1 ≠ b
theorem Inv.new{X:Cx}{pins:List (Addr × Obj)}{σ:St}{H:Hp}{s:Shared}(I:Inv X pins σ H s){b:Addr}(h:s.heap.objs.size <= b):New X pins b:=by
  refine⟨.inr (Nat.le_trans I.sz h),Nat.ne_of_gt (Nat.lt_of_lt_of_le I.lt h),λ x c e=>?_,λ p hp=>?_⟩
  . obtain⟨v,o,ho,_⟩:=I.cell x c e
    exact Nat.ne_of_lt (Nat.lt_of_lt_of_le (Heap.lt_size ho) h)
  . exact Nat.ne_of_lt (Nat.lt_of_lt_of_le (Heap.lt_size (I.pin p hp).1) h)
section
variable(C:Addr)(f:Str)
noncomputable def XEP(X:Cx)(pins:List (Addr × Obj))(Q:VK)(e:Value)(s':Shared):Prop:=∃ a dx tb v σ' H',e=.ref a/\Inv X pins σ' H' s'/\Exo s'.heap a C dx tb/\OA s'.heap a tb/\H' a=some (.ext (XO a C dx)) /\
  (∀ T,tb=.ref T->H' T=none/\New X pins T)/\H' dx=some (.xd [(f,v)])/\Q v H'
noncomputable def CXN(P:Program)(w:World):CXT:=λ outer H s E e s'=>∃ a dx T H',e=.ref a/\s'.os=s.os/\AllBare s'.gens/\Un (frs outer) [] H H' s.heap s'.heap/\HOk P w H' s'.heap/\Exo s'.heap a C dx (.ref T)/\T ≠ a/\Trc s'.heap T /\
  H' T=none/\s.heap.objs.size <= T/\H' a=some (.ext (XO a C dx))/\E (.ref C) (some dx) H'
end
section
variable{C:Addr}{f:Str}{X:Cx}{pins:List (Addr × Obj)}{σ:St}{H:Hp}{s s':Shared}{Q:VK}{e:Value}
theorem JC{P:Program}{w:World}{fs:List Addr}{a dx T:Addr}{tb:Value}{h h':Heap}(hok:HOk P w H h)(N:Note fs a tb h h')(hx:Exo h' a C dx (.ref T))(ha:H a=some (.ext (XO a C dx)))(hT:∀ T,tb=.ref T->H T=none)(hf:∀ b ∈ fs,H b=none):HOk P w H h':=by
  have k:∀ b o u,H b=some o->b ≠ a->h.get? b=some u->h'.get? b=some u:=λ b o u q n e=>N.keep b u e n (λ z=>by rw[hT b z.symm]at q;cases q) λ z=>by rw[hf b z]at q;cases q
  intro b o q
  by_cases n:b=a
  . subst n
    rw[ha]at q;cases q
    obtain⟨vs,sl,e1,e2⟩:=id hx
    refine⟨⟨_,hx⟩,⟨_,e1⟩,λ h1 h2 ⟨tb,vs,sl,e,z⟩ k=>⟨tb,vs,sl,k _ e,z⟩⟩
  . refine(hok b o q).stay (λ c u hc e=>?_) (λ _ z=>z) λ _ _ z=>z
    rcases hc with rfl|hc
    . exact k c o u q n e
    . exact k c _ u hc (λ z=>by subst z;rw[ha]at hc;cases hc) e
theorem Mq{P:Program}{w:World}{K:PySem.W.Frag}{mg:Str->Option Value}{base:Heap}{N:List Str}{qual:Str}{scope:Scope}{fa:Addr}{cd:Value}{A:Around}{outer:List Env}{E:XK}{CX:CXT}{M:Model}{E':Value->Shared->Prop}
    (h:XEP C f (Dw CX P w K mg base N qual scope fa cd A outer s H E).nox pins Q e s') (hq:∀ v dx H',Q v H'->H' dx=some (.xd [(f,v)])->E (.ref C) (some dx) H') :
    wpAny M (A.deeper (envOfC qual scope s.heap.objs.size fa cd)) (leaving (envOfC qual scope s.heap.objs.size fa cd) e) (λ _ s''=>CXN C P w outer H s E e s'') E' s':=by
  obtain⟨a,dx,tb,v,σ',H',rfl,I,ex,ht,ha,hT,hd,q⟩:=h
  have fr:=I.ok.frames
  refine MH (base:=base) (L:=s.heap.objs.size) fr I.stack rfl ex ht λ h' T z nT ex' tr Nt=>?_
  have hfs:∀ b ∈ frs (envOfC qual scope s.heap.objs.size fa cd :: outer),H' b=none:=I.stkFree
  have hok':=JC I.hok Nt ex' ha (λ T e=>(hT T e).1) hfs
  have nx:∀ b,b ∉ (Dw CX P w K mg base N qual scope fa cd A outer s H E).nox.ex:=λ b z=>absurd (show b ∈ ([]:List Addr)from z) (by simp)
  have u:=I.base
  have out:∀ b o,s.heap.get? b=some o->H b=none->b ≠ a/\.ref b ≠ tb/\b ≠ s.heap.objs.size:=λ b o e n=>by
    have n':H' b=none:=u.free b o e n (nx b)
    refine⟨(λ z=>by subst z;rw[ha]at n';cases n'),λ z=>?_,Nat.ne_of_lt (Heap.lt_size e)⟩
    rcases(hT b z.symm).2.1 with y|y
    . exact absurd y (nx b)
    . exact absurd (Nat.lt_of_lt_of_le (Heap.lt_size e) y) (Nat.lt_irrefl _)
  have inF:∀ b,b ∈ frs (envOfC qual scope s.heap.objs.size fa cd :: outer)->b=s.heap.objs.size ∨ b ∈ frs outer:=λ b hb=>by
    have:frs (envOfC qual scope s.heap.objs.size fa cd :: outer)=s.heap.objs.size :: frs outer:=rfl
    rw[this]at hb;exact List.mem_cons.mp hb
  refine⟨a,dx,T,H',rfl,I.os,I.bare,⟨λ b o e n nf _=>?_,λ b o e n hf _=>?_,λ b o e n _=>u.free b o e n (nx b),λ b o e _=>?_,u.tups,u.frzs,u.tbls⟩,hok',ex',nT,tr,I.hok.fresh z,Nat.le_trans I.sz z,ha,hq v dx H' q hd⟩
  . obtain⟨n1,n2,n3⟩:=out b o e n
    exact Nt.keep b o (u.keep b o e n nf (nx b)) n1 n2 λ hb=>(inF b hb).elim n3 nf
  . obtain⟨sl,e1⟩:=u.slot b o e n hf (nx b)
    obtain⟨sl',e2⟩:=Nt.slot b _ e1 (by
      show b ∈ s.heap.objs.size :: frs outer
      exact List.mem_cons_of_mem _ hf)
    exact⟨sl',e2⟩
  . obtain⟨o',e1⟩:=u.there b o e (nx b)
    exact Nt.there b o' e1
theorem LU{E:XK}(I:Inv X pins σ H s)(h:CXN C X.prog X.w X.stack H s E e s')(hq:∀ dx H',E (.ref C) (some dx) H'->∃ v,H' dx=some (.xd [(f,v)])/\Q v H'):XEP C f X pins Q e s':=by
  obtain⟨a,dx,T,H',rfl,os,bare,un,hok,ex,nT,tr,hT,z,ha,q⟩:=h
  obtain⟨v,hd,q'⟩:=hq dx H' q
  exact⟨a,dx,.ref T,v,σ,H',rfl,I.call' (ch:=[]) os un hok bare (λ b z=>absurd z (by simp)),ex,.inr ⟨T,rfl,nT,tr⟩,ha,λ T' e=>by cases e;exact⟨hT,I.new z⟩,hd,q'⟩
end
end L2
namespace L2
open PySem PySem.Spec PyProof.Rows
section
variable{X:Cx}{C fI:Addr}{f:Str}{pos pos':Pos}{value o e:Expr}{ta tv te:TE}
noncomputable def Th(K:PySem.W.Frag)(ta tv:TE)(f:Str):TS:=λ D σ H=>tv σ H λ y H1=>ta σ H1 λ x H2=>∃ a C t fI,x=.ref a/\H2 a=some (.ext (X0 a C t))/\XC K C fI/\DJ K C f /\
  ∀ dx,H2 dx=none->dx ≠ a->D.nx σ (upd (upd H2 dx (.xd [(f,y)])) a (.ext (X1 a C dx t)))
theorem MU{P:Program}{w:World}{H:Hp}{h:Heap}{a:Addr}{o:Obj}(e:h.get? a=some o):ObjOk P w H h a (.ext λ h=>h.get? a=some o):=⟨e,⟨_,e⟩,λ _ _ x k=>k _ x⟩
theorem Pr(ha:PE X o ta)(hv:PE X value tv)(hs:swapsWith value (some (.Attribute o f pos')) pos.line X.env=pure false):PS X (.Assign [.Attribute o f pos'] value pos) (Th X.K ta tv f):=by
  intro pins s σ H D I h
  refine plainObj_wpAny_Assign_Attribute (thn (hv pins s σ H _ I h) λ uv s1 ⟨y,H1,I1,ry,q⟩=>thn (ha pins s1 σ H1 _ I1 q) λ ov s2 ⟨x,H2,I2,rx,a,C,t,fI,ex,ea,c,n,q2⟩=>?_) hs
  subst ex
  obtain rfl:ov=Value.ref a:=rx
  obtain⟨x0,_⟩:=(show ObjOk X.prog X.w H2 s2.heap a (.ext (X0 a C t))from I2.hok a _ ea)
  have hx:s2.heap.get? a=some ⟨.ref C,none,.fields #[.ref t,.none,.none,.none,.bool false,.none],#[]⟩:=x0
  refine PB I2.kIn c hx n λ h' e1 e2 k=>⟨σ,_,?_,q2 s2.heap.objs.size (I2.hok.fresh (Nat.le_refl _)) (Nat.ne_of_gt (Heap.lt_size hx))⟩
  have nd:H2 s2.heap.objs.size=none:=I2.hok.fresh (Nat.le_refl _)
  have nda:s2.heap.objs.size ≠ a:=Nat.ne_of_gt (Heap.lt_size hx)
  have old:∀ b u,H2 b=some u->b ≠ a->(upd (upd H2 s2.heap.objs.size (.xd [(f,y)])) a (.ext (X1 a C s2.heap.objs.size t))) b=some u:=λ b u q n=>by
    rw[AE n,AE (AS q nd)];exact q
  have non:∀ b o,s2.heap.get? b=some o->H2 b=none->(upd (upd H2 s2.heap.objs.size (.xd [(f,y)])) a (.ext (X1 a C s2.heap.objs.size t))) b=none/\b ≠ a:=λ b o q n=>by
    have n1:b ≠ a:=λ z=>by rw[z,ea]at n;cases n
    exact⟨by rw[AE n1,AE (Nat.ne_of_lt (Heap.lt_size q))];exact n,n1⟩
  refine I2.un ⟨λ b o q n _ _=>k b o (non b o q n).2 q,λ b o q n _ _=>⟨o.slots,k b o (non b o q n).2 q⟩,λ b o q n _=>(non b o q n).1,λ b o q _=>?_,λ b xs q=>old b _ q (λ z=>by rw[z,ea]at q;cases q),λ b o u q=>old b _ q (λ z=>by rw[z,ea]at q;cases q),
    λ b ps q=>⟨#[],by rw[old b _ q (λ z=>by rw[z,ea]at q;cases q)];simp⟩⟩ λ b u q=>?_
  . by_cases z:b=a
    . subst z;exact⟨_,e1⟩
    . exact⟨o,k b o z q⟩
  . by_cases z:b=a
    . subst z
      rw[AT]at q;cases q
      exact MU e1
    . rw[AE z]at q
      by_cases z':b=s2.heap.objs.size
      . subst z'
        rw[AT]at q;cases q
        refine⟨_,e2,λ g=>?_⟩
        show RelO (List.lookup g [(f,y)]) (if g=f then some uv else none)
        by_cases gz:g=f
        . subst gz;rw[if_pos rfl,List.lookup_cons_self];exact ry
        . have g':(g == f)=false:=by simpa using gz
          rw[if_neg gz];unfold List.lookup;rw[g'];exact True.intro
      . rw[AE z']at q
        refine(I2.hok b u q).stay (λ c v hc r=>k c v ?_ r) (λ c r=>old c _ r ?_) λ c xs r=>old c _ r ?_
        . rcases hc with rfl|hc
          . exact z
          . intro zz;rw[zz,ea]at hc;cases hc
        . intro zz;rw[zz,ea]at r;cases r
        . intro zz;rw[zz,ea]at r;cases r
noncomputable def spI(C:Addr)(f:Str):Sp:=λ vs H Q _=>∃ a v t,vs=[.ref a,v]/\H a=some (.ext (X0 a C t))/\∀ dx,H dx=none->dx ≠ a->Q .non (upd (upd H dx (.xd [(f,v)])) a (.ext (X1 a C dx t)))
end
theorem QH{P:Program}{w:World}{K:PySem.W.Frag}{mg:Str->Option Value}{base:Heap}{qual:Str}{st:Stmt}{C fI fa:Addr}{fd:FuncData}{f:Str}{p1 p2 p3 p4:Pos}{pw:Str}(F:Fun K "__init__" qual st fa fd)(S:FnScope ["self",pw] ["self",pw] (AA st))
    (hb:Ac st=[.Assign [.Attribute (.Name "self" p1) f p2] (.Name pw p3) p4]) (c:XC K C fI) (n:DJ K C f) (hs:∀ cdv A outer s H E,swapsWith (.Name pw p3) (some (.Attribute (.Name "self" p1) f p2)) p4.line (Dw CX0 P w K mg base ["self",pw] qual (AA st) fa cdv A outer s H E).env=pure false)
    (v0:Vis (AA st) "self") (v1:Vis (AA st) pw) (d1:(pw == ("__debug__":Str))=false) (d2:(pw == ("__classdict__":Str))=false):FnOk P w K mg base CX0 1 fa fd ["self",pw] (spI C f):=by
  refine F.ok (N:=["self",pw]) S (λ vs H Q E h=>?_) λ cdv A outer s H vs Q E hr hsp=>?_
  . obtain⟨a,v,t,rfl,_⟩:=h;rfl
  . rw[hb]
    refine⟨_,Fh (Pr (EO (i:=0) rfl v0 (by decide) (by decide)) (EO (i:=1) rfl v1 d1 d2) (hs cdv A outer s H E)),?_⟩
    obtain⟨a,v,t,rfl,ha,q⟩:=hsp
    exact⟨v,rfl,.ref a,rfl,a,C,t,fI,rfl,ha,c,n,q⟩
end L2
namespace L2
open PySem PySem.Spec PyProof.Rows
section
variable(C:Addr)(f:Str)
noncomputable def Ends.non(D:Ends):Ends:={ D with rt:=λ _ _=>False }
noncomputable def PX(X:Cx)(st:Stmt)(t:TS):Prop:=
  ∀ (pins:List (Addr × Obj)) (s:Shared) (σ:St) (H:Hp) (D:Ends),Inv X pins σ H s->t D σ H->wpAny (model X.prog X.w) X.A (exec st X.env) (SP X pins D.non) (XEP C f X pins D.rt) s
noncomputable def PXs(X:Cx)(st:List Stmt)(t:TS):Prop:=
  ∀ (pins:List (Addr × Obj)) (s:Shared) (σ:St) (H:Hp) (D:Ends),Inv X pins σ H s->t D σ H->wpAny (model X.prog X.w) X.A (execs st X.env) (SP X pins D.non) (XEP C f X pins D.rt) s
noncomputable def PXE(X:Cx)(e:Expr)(t:TE):Prop:=
  ∀ (pins:List (Addr × Obj)) (s:Shared) (σ:St) (H:Hp) (Q:VK),Inv X pins σ H s->t σ H Q->wpAny (model X.prog X.w) X.A (eval e X.env) (λ _ _=>False) (XEP C f X pins Q) s
noncomputable def PXA(X:Cx)(es:List Expr)(t:TE):Prop:=
  ∀ (pos:Pos) (pins:List (Addr × Obj)) (s:Shared) (σ:St) (H:Hp) (Q:VK),Inv X pins σ H s->t σ H Q->wpAny (model X.prog X.w) X.A (spliced (backTo pos (starEach es X.env))) (λ _ _=>False) (XEP C f X pins Q) s
end
section
variable{C fI:Addr}{f:Str}{X:Cx}{st:Stmt}{rest:List Stmt}{t u:TS}{e:Expr}{es:List Expr}{te tb:TE}{pos:Pos}
theorem thx{α:Type}{M:Model}{A:Around}{m:Sem α}{P Q:α->Shared->Prop}{E E':Value->Shared->Prop}{s:Shared}(h:wpAny M A m P E s)(k:∀ v s,P v s->Q v s)(j:∀ e s,E e s->E' e s):wpAny M A m Q E' s:=wpAny_mono h k j
noncomputable def IU(t:TS):TS:=λ D σ H=>t D.non σ H
theorem Jv(h:PS X.nox st t):PX C f X st (IU t):=λ pins s σ H D I q=>thx (h pins s σ H D.non (I.wish _) q) (λ _ _ z=>z.unwish) λ _ _ z=>z.elim
theorem NV(h:PSs X.nox rest t):PXs C f X rest (IU t):=λ pins s σ H D I q=>thx (h pins s σ H D.non (I.wish _) q) (λ _ _ z=>z.unwish) λ _ _ z=>z.elim
theorem NW(h1:PX C f X st t)(h2:PXs C f X rest u):PXs C f X (st :: rest) (IT t u):=by
  intro pins s σ H D I h
  refine wpAny_execs_cons (thx (h1 pins s σ H { D with nx:=u D } I h) (λ fl s1 q=>?_) λ _ _ z=>z)
  cases fl with
  | next=>
    obtain⟨σ',H',I',q⟩:=q
    exact h2 pins s1 σ' H' D I' q
  | ret v=>exact q
  | brk=>exact q
  | cont=>exact q
theorem Po(h1:PX C f X st t):PXs C f X [st] t:=by
  intro pins s σ H D I h
  refine wpAny_execs_cons (thx (h1 pins s σ H D I h) (λ fl s1 q=>?_) λ _ _ z=>z)
  cases fl with
  | next=>exact wpAny_execs_nil q
  | ret v=>exact q
  | brk=>exact q
  | cont=>exact q
theorem To{c:Expr}{a b:List Stmt}{tc:TT}(hc:PT X.nox c tc)(ha:PXs C f X a t)(hb:PXs C f X b u):PX C f X (.If c a b pos) (IV tc t u):=by
  intro pins s σ H D I h
  refine wpAny_If (thx (hc pins s σ H _ (I.wish _) h) (λ d s1 ⟨H1,I1,q1⟩=>?_) λ _ _ z=>z.elim)
  cases d with
  | true=>exact ha pins s1 σ H1 D I1.unwish q1
  | false=>exact hb pins s1 σ H1 D I1.unwish q1
theorem Pq(he:PXE C f X e te)(hs:swapsWith e none pos.line X.env=pure false:=by rfl):PX C f X (.Expr e pos) (G9 te):=λ pins s σ H D I h=>
  wpAny_Expr_any (thx (he pins s σ H _ I h) (λ _ _ z=>z.elim) λ _ _ z=>z) I.quiet hs
theorem SG{x:Str}{pos':Pos}(he:PXE C f X e te)(hs:swapsWith e (some (.Name x pos')) pos.line X.env=pure false:=by rfl):PX C f X (.Assign [.Name x pos'] e pos) (G9 te):=λ pins s σ H D I h=>
  wpAny_Assign_Name (thx (he pins s σ H _ I h) (λ _ _ z=>z.elim) λ _ _ z=>z) hs
theorem NY(he:PXE C f X e te)(hs:starEach (e :: es) X.env=(false,eval e X.env) :: starEach es X.env:=by rfl):PXA C f X (e :: es) te:=by
  intro pos pins s σ H Q I h
  rw[hs]
  show wpAny _ _ (spliced ((false,eval e X.env) :: backTo pos (starEach es X.env))) _ _ s
  exact Calls.spliced_cons (thx (he pins s σ H _ I h) (λ _ _ z=>z.elim) λ _ _ z=>z)
noncomputable def KZ(ta te:TE):TE:=λ σ H Q=>ta σ H λ _ H1=>te σ H1 Q
theorem Ly(ha:PE X.nox e tb)(hr:PXA C f X es te)(hs:starEach (e :: es) X.env=(false,eval e X.env) :: starEach es X.env:=by rfl):PXA C f X (e :: es) (KZ tb te):=by
  intro pos pins s σ H Q I h
  rw[hs]
  show wpAny _ _ (spliced ((false,eval e X.env) :: backTo pos (starEach es X.env))) _ _ s
  refine Calls.spliced_cons (thx (ha pins s σ H _ (I.wish _) h) (λ u s1 ⟨x,H1,I1,r1,q1⟩=>?_) λ _ _ z=>z.elim)
  exact thx (hr pos pins s1 σ H1 Q I1.unwish q1) (λ _ _ z=>z.elim) λ _ _ z=>z
theorem Pp{x1}(h:PXA C f X es te):PXE C f X (.Tuple es x1 pos) te:=λ pins s σ H Q I hq=>
  wpAny_Tuple_spliced (thx (h pos pins s σ H Q I hq) (λ _ _ z=>z.elim) λ _ _ z=>z)
noncomputable def GT(C:Addr)(f:Str)(te:TE):TS:=λ D σ H=>te σ H λ v H1=>∀ a dx,H1 a=none->H1 dx=none->dx ≠ a->D.rt v (upd (upd H1 dx (.xd [(f,v)])) a (.ext (XO a C dx)))
theorem NZ{x pw:Str}{p p1:Pos}{k:Nat}{fd:FuncData}(c:XC X.K C fI)(F:FnOk X.prog X.w X.K X.mg X.base CX0 k fI fd ["self",pw] (spI C f))(hr:Room (k + 1) X.A)(hb:Binds X.K fd ["self",pw] [])(hcalm:X.calm=true)(hg:Gl X x)(hm:X.mg x=some (.ref C))(he:PE X.nox e te)
    (hdb:(x == ("__debug__":Str))=false:=by decide) (hst:starEach [e] X.env=(false,eval e X.env) :: starEach [] X.env:=by rfl) (hpl:(backTo p1 (starEach [] X.env)).any (·.1)=false:=by rfl) :
    PX C f X (.Raise (some (.Call (.Name x p) [e] [] p1)) none pos) (GT C f te):=by
  intro pins s σ H D I h
  refine Lr (I.ok.hd hcalm) c (wpAny_Call_Name_kw (EV I hg hm ?_ hdb))
  have pa:PA X.nox [e] (Bh te CN):=Am he Br hst
  let W:V->Hp->Prop:=λ v H1=>∀ a dx,H1 a=none->H1 dx=none->dx ≠ a->D.rt v (upd (upd H1 dx (.xd [(f,v)])) a (.ext (XO a C dx)))
  have h':(Bh te CN) σ H λ vs H1=>match vs with | [v]=>W v H1|_=>False:=h
  refine PySem.W.callWith_K (h₀:=X.base) I.ok.mod.kin c.kp (thx (pa p1 pins s σ H _ (I.wish _) h') (λ us s1 ⟨vs,H1,I1',r,q⟩=>⟨I1'.kIn,?_⟩) λ _ _ z=>z.elim) hst hpl
  have I1:=I1'.unwish
  match vs,r,q with
  | [v],.cons (b:=u) rv .nil,q=>
  obtain⟨nm,qn,N,bs,bm,sn,sub,ab,col,dd,k0,k1,k2,k3,k5,lk,ov⟩:=c.at_
  obtain⟨hh,g,d,tk,os⟩:=s1
  refine O6 I1.kIn (I1.kIn _ _ lk) (ov.has (by decide +kernel)) (ov.not (by decide +kernel)) (ov.not (by decide +kernel)) c.init (beq_iff_eq.mp c.fn) (by show 1 <= sizeLine;decide) ?_
  have ke:∀ b o,hh.get? b=some o->((hh.push { cls:=.type "tuple",data:=.seq [u].toArray }).push (Ea C hh.objs.size)).get? b=some o:=λ b o e=>Heap.get?_push_of_some _ (Heap.get?_push_of_some _ e)
  have ea:((hh.push { cls:=.type "tuple",data:=.seq [u].toArray }).push (Ea C hh.objs.size)).get? (hh.objs.size + 1)=some (Ea C hh.objs.size):=Heap.get?_push_at (by rw[Heap.size_push]) rfl
  have na:H1 (hh.objs.size + 1)=none:=I1.hok.fresh (Nat.le_succ _)
  have I2:=I1.laid (a:=hh.objs.size + 1) (o:=.ext (X0 (hh.objs.size + 1) C hh.objs.size)) (t':=tk) ke (Nat.le_succ _) (MU ea)
  refine wpAny_call (codeAny_mono (F.run _ X.stack _ _ ⟨[.ref (hh.objs.size + 1),u],[]⟩ [.ref (hh.objs.size + 1),u] [.ref (hh.objs.size + 1),v]
    (λ z H2=>z=.non/\∃ dx,H2=upd (upd (upd H1 (hh.objs.size + 1) (.ext (X0 (hh.objs.size + 1) C hh.objs.size))) dx (.xd [(f,v)])) (hh.objs.size + 1) (.ext (X1 (hh.objs.size + 1) C dx hh.objs.size))/\H1 dx=none/\dx ≠ hh.objs.size + 1) (λ _ _ _=>False)
    (hr.make C [u] []) (I2.env0.make C [u] []) (by have:=hb ⟨_,g,d,tk,os⟩ [.ref (hh.objs.size + 1),u] I2.kIn rfl;simpa using this) (.cons rfl (.cons rv .nil)) ?_) λ res s' hq=>?_)
  . refine⟨_,v,hh.objs.size,rfl,AT,λ dx n1 n2=>⟨rfl,dx,rfl,by rw[AE n2]at n1;exact n1,n2⟩⟩
  . cases res with
    | error x=>exact hq.elim
    | ok fl=>
      cases fl with
      | next=>exact hq.elim
      | brk=>exact hq.elim
      | cont=>exact hq.elim
      | ret rv'=>
        obtain⟨z,H3,I3,rz,ez,dx,eH,nd,ne⟩:=I2.after hq
        subst ez
        have hA:H3 (hh.objs.size + 1)=some (.ext (X1 (hh.objs.size + 1) C dx hh.objs.size)):=by rw[eH];exact AT
        obtain⟨x1,_⟩:=(show ObjOk X.prog X.w H3 s'.heap (hh.objs.size + 1) (.ext (X1 (hh.objs.size + 1) C dx hh.objs.size))from I3.hok _ _ hA)
        have x1:s'.heap.get? (hh.objs.size + 1)=some ⟨.ref C,some dx,.fields #[.ref hh.objs.size,.none,.none,.none,.bool false,.none],#[]⟩:=x1
        refine⟨rz,hh.objs.size + 1,hh.objs.size,dx,#[],rfl,I3.kIn,x1,hh.objs.size + 1,dx,.none,v,σ,upd H3 (hh.objs.size + 1) (.ext (XO (hh.objs.size + 1) C dx)),rfl,?_,⟨_,_,x1,rfl⟩,.inl rfl,AT,(λ T e=>by cases e),?_,?_⟩
        . exact I3.write (x:=hh.objs.size + 1) (e:=hh.objs.size + 1) (t':=s'.toks) (by rw[hA];exact True.intro) (.inl rfl) (λ _ _ _ e=>e) ⟨_,x1⟩ ⟨⟨_,_,_,x1,rfl⟩,⟨_,x1⟩,λ h1 h2 ⟨tb,vs,sl,e,z⟩ k=>⟨tb,vs,sl,k _ e,z⟩⟩
        . rw[AE ne,eH,AE ne,AT]
        . have e2:upd H3 (hh.objs.size + 1) (.ext (XO (hh.objs.size + 1) C dx))=upd (upd H1 dx (.xd [(f,v)])) (hh.objs.size + 1) (.ext (XO (hh.objs.size + 1) C dx)):=by
            rw[eH];funext b;unfold upd;by_cases z1:b=hh.objs.size + 1
            . simp only[if_pos z1]
            . simp only[if_neg z1]
          rw[e2]
          exact q _ dx na nd ne
end
end L2
namespace L2
open PySem PySem.Spec PyProof.Rows
section
variable{X:Cx}{pins:List (Addr × Obj)}{σ:St}{H:Hp}{s:Shared}{C fI a dx:Addr}{f:Str}
theorem Lf{M:Model}{A:Around}{E:Value->Shared->Prop}{i:Nat}{x:Str}{v:V}{Q:Unit->Shared->Prop}(I:Inv X pins σ H s)(hN:X.N.Nodup)(hi:X.N[i]? = some x)(hk:X.env.scope.names.lookup x=some .local)(hv:σ[i]? = some (some v))
    (h:∀ s',Inv X pins (σ.set i none) H s'->Q () s'):wpAny M A (unbindName X.env x) Q E s:=by
  obtain⟨m,hn,hl⟩:=id I.loc
  have hcls:(X.env.scope.kind == .class || (X.env.scope.kind == .module && X.env.locals != X.env.globals))=false:=by rw[I.ok.kind];rfl
  have hiσ:i < σ.length:=by rw[I.len];exact(List.getElem?_eq_some_iff.mp hi).1
  obtain⟨u,_,lk⟩:=hl i x v hi hv (.inl hk)
  have mu:m x=some u:=by
    rcases lk with⟨_,e⟩|⟨k,_⟩
    . exact e
    . rcases k with k|k <;> (have k':X.env.scope.names.lookup x=_:=k;rw[hk]at k';cases k')
  refine wpAny_unbindName_local hk hn mu hcls λ h' u' hn' hs=>?_
  obtain⟨oL,_,_,hoL,_⟩:=id hn
  have low:∀ b o,X.s₀.heap.get? b=some o->b ≠ X.env.locals:=λ b o e=>Nat.ne_of_lt (Nat.lt_of_lt_of_le (Heap.lt_size e) I.ok.above)
  refine h _ ⟨I.ok,I.os,I.bare,⟨λ b o e n hb hx=>(hs.2 b (low b o e)).trans (I.base.keep b o e n hb hx),λ b o e n hb hx=>?_,I.base.free,λ b o e hx=>?_,I.base.tups,I.base.frzs,I.base.tbls⟩,⟨_,hn',λ j y v' e1 e2 e3=>?_⟩,λ y c e=>?_,I.free,I.freeC,λ p hp=>?_,λ b ob e=>?_,by simpa using I.len⟩
  . obtain⟨sl,e1⟩:=I.base.slot b o e n hb hx
    exact⟨sl,(hs.2 b (low b o e)).trans e1⟩
  . obtain⟨o',e1⟩:=I.base.there b o e hx
    exact⟨o',(hs.2 b (low b o e)).trans e1⟩
  . by_cases hj:j=i
    . subst hj
      rw[List.getElem?_set_self hiσ]at e2
      cases e2
    . rw[List.getElem?_set_ne (Ne.symm hj)]at e2
      obtain⟨u',r',q⟩:=hl j y v' e1 e2 e3
      refine⟨u',r',?_⟩
      rcases q with⟨k,e⟩|⟨k,c,e,z⟩
      . refine .inl ⟨k,?_⟩
        have:y ≠ x:=λ e=>hj (GF hN e1 (e ▸ hi))
        simp[this,e]
      . exact .inr ⟨k,c,e,z.sameBut hs (I.cne y c e)⟩
  . obtain⟨w',z⟩:=I.cell y c e
    exact⟨w',z.sameBut hs (I.cne y c e)⟩
  . obtain⟨e,n,ne,nf,d⟩:=I.pin p hp
    exact⟨(hs.2 p.1 ne).trans e,n,ne,nf,d⟩
  . refine(I.hok b ob e).stay (λ c w' hc q=>(hs.2 c ?_).trans q) (λ _ q=>q) λ _ _ q=>q
    rintro rfl
    rcases hc with z|hc
    . rw[<- z,I.free]at e;cases e
    . rw[I.free]at hc;cases hc
theorem Nk{tb:Value}{T:Addr}{h':Heap}(I:Inv X pins σ H s)(ha:H a=some (.ext (XO a C dx)))(hT:∀ T,tb=.ref T->H T=none/\New X pins T)(N:Note (frs X.stack) a tb s.heap h')(ex:Exo h' a C dx (.ref T)):Inv X pins σ H { s with heap:=h' }:=by
  have na:∀ b,H b=none->b ≠ a:=λ b n z=>by rw[z,ha]at n;cases n
  have hok:=JC I.hok N ex ha (λ T e=>(hT T e).1) I.stkFree
  have all:∀ ch:List Addr,(∀ b,.ref b=tb->b ∈ ch)->Un (frs X.stack) ch H H s.heap h':=λ ch hc=>
    ⟨λ b o e n nf nc=>N.keep b o e (na b n) (λ z=>nc (hc b z)) nf,λ b o e n hf nc=>N.slot b o e hf,λ _ _ _ n _=>n,λ b o e _=>N.there b o e,λ _ _ e=>e,λ _ _ _ e=>e,λ b ps e=>⟨#[],by rw[e];simp⟩⟩
  by_cases q:∃ T,tb=.ref T
  . obtain⟨T0,e⟩:=q
    exact I.call' (s':={ s with heap:=h' }) (ch:=[T0]) rfl (all [T0] λ b z=>by rw[e]at z;cases z;simp) hok I.bare λ b hb=>by
      have:b=T0:=by simpa using hb
      subst this
      exact(hT b e).2
  . exact I.call' (s':={ s with heap:=h' }) (ch:=[]) rfl (all [] λ b z=>absurd ⟨b,z.symm⟩ q) hok I.bare λ b hb=>absurd hb (by simp)
noncomputable abbrev Cx.hand(X:Cx)(e:Value):Cx:={ X with A:=X.A.mark (some e),calm:=false,xe:=λ _ _=>False }
theorem Inv.hand(I:Inv X pins σ H s)(e:Value):Inv (X.hand e) pins σ H s:=
  ⟨⟨I.ok.mod,I.ok.kind,I.ok.glob,I.ok.blt,I.ok.above,I.ok.inj,I.ok.has,I.ok.cab,(λ h=>by cases h),I.ok.frames,I.ok.stk,I.ok.exf,I.ok.bs,I.ok.bsz,I.ok.noex,I.ok.exfs,I.ok.funs,I.ok.frf⟩,I.os,I.bare,I.base,I.loc,I.cell,I.free,I.freeC,I.pin,I.hok,I.len⟩
theorem Inv.unhand{e:Value}(I:Inv (X.hand e) pins σ H s)(hd:X.calm=true->X.A.handled=none):Inv X pins σ H s:=
  ⟨⟨I.ok.mod,I.ok.kind,I.ok.glob,I.ok.blt,I.ok.above,I.ok.inj,I.ok.has,I.ok.cab,hd,I.ok.frames,I.ok.stk,I.ok.exf,I.ok.bs,I.ok.bsz,I.ok.noex,I.ok.exfs,I.ok.funs,I.ok.frf⟩,I.os,I.bare,I.base,I.loc,I.cell,I.free,I.freeC,I.pin,I.hok,I.len⟩
theorem JO{P:Program}{w:World}{h:Heap}{v:V}(hok:HOk P w H h)(ha:H a=some (.ext (XO a C dx)))(hd:H dx=some (.xd [(f,v)])):∃ dx vs sl od,PySem.W.InstAt h a ⟨.ref C,some dx,.fields vs,sl⟩ C (some od):=by
  obtain⟨⟨tb,vs,sl,e,_⟩,_⟩:=(show ObjOk P w H h a (.ext (XO a C dx))from hok a _ ha)
  obtain⟨mA,n,r⟩:=(show ObjOk P w H h dx (.xd [(f,v)])from hok dx _ hd)
  obtain⟨od,ho,hl⟩:=Hl n
  exact⟨dx,vs,sl,od,e,rfl,rfl,ho⟩
noncomputable def NP(K:PySem.W.Frag)(C:Addr)(f:Str)(b:Bool)(c:V):List V->Hp->VK->Prop:=λ vs H Q=>∃ a dx v,vs=[.ref a,c]/\H a=some (.ext (XO a C dx))/\H dx=some (.xd [(f,v)])/\Q (.bl b) H
theorem JY{b:Bool}{c:V}{u:Value}(xc:XC X.K C fI)(xi:XI X.K C)(hu:∀ u',RelV c u'->u'=u)(hk:PySem.W.kitOne X.K (.ref C) u=some b):CallR X (.builtin "isinstance") (NP X.K C f b c):=by
  intro pins s σ H xs us Q I r h
  obtain⟨a,dx,v,rfl,ha,hd,q⟩:=h
  match us,r with
  | [u1,u2],.cons r1 (.cons r2 .nil)=>
  obtain rfl:u1=.ref a:=r1
  obtain rfl:=hu u2 r2
  exact PySem.W.kia_one (JJ xc xi) I.kIn (JO I.hok ha hd) hk (by intro z;cases z) λ tk=>⟨.bl b,H,I.tok tk,rfl,q⟩
noncomputable def UX(K:PySem.W.Frag)(C:Addr)(f:Str)(b:Bool)(cs:List Addr):List V->Hp->VK->Prop:=λ vs H Q=>∃ a dx v tp,vs=[.ref a,.ref tp]/\H a=some (.ext (XO a C dx))/\H dx=some (.xd [(f,v)])/\H tp=some (.tup (cs.map V.ref))/\Q (.bl b) H
theorem Jm:∀ {cs:List Addr} {us:List Value},Vals (cs.map V.ref) us->us=cs.map Value.ref
  | [],_,.nil=>rfl
  | c :: cs,_,.cons r t=>by rw[Jm t];rw[show _=Value.ref c from r];rfl
theorem O5{b:Bool}{cs:List Addr}(xc:XC X.K C fI)(xi:XI X.K C)(hk:PySem.W.kitAny X.K (.ref C) (cs.map Value.ref)=some b):CallR X (.builtin "isinstance") (UX X.K C f b cs):=by
  intro pins s σ H xs us Q I r h
  obtain⟨a,dx,v,tp,rfl,ha,hd,ht,q⟩:=h
  match us,r with
  | [u1,u2],.cons r1 (.cons r2 .nil)=>
  obtain rfl:u1=.ref a:=r1
  obtain rfl:u2=.ref tp:=r2
  obtain⟨_,its,r3,ob,e,hc,⟨n,hd'⟩,_⟩:=(show ObjOk X.prog X.w H s.heap tp (.tup (cs.map V.ref))from I.hok tp _ ht)
  obtain rfl:=Jm r3
  obtain⟨oc,od,odt,osl⟩:=ob
  subst hc hd'
  exact PySem.W.kia_tup (JJ xc xi) I.kIn (JO I.hok ha hd) e hk (by intro z;cases z) λ tk=>⟨.bl b,H,I.tok tk,rfl,q⟩
noncomputable def Tg(C:Addr)(ta:TE)(f:Str):TE:=λ σ H Q=>ta σ H λ x H1=>∃ a dx v,x=.ref a/\H1 a=some (.ext (XO a C dx))/\H1 dx=some (.xd [(f,v)])/\Q v H1
theorem Q6{e:Expr}{ta:TE}{pos:Pos}(xc:XC X.K C fI)(n:DJ X.K C f)(he:PE X e ta)(hb:attributeBase e f X.env (eval e X.env)=eval e X.env):PE X (.Attribute e f pos) (Tg C ta f):=by
  intro pins s σ H Q I h
  refine Qt hb (thn (he pins s σ H _ I h) λ u s1 ⟨x,H1,I1,rx,a,dx,v,ex,ha,hd,q⟩=>?_)
  subst ex
  obtain rfl:u=Value.ref a:=rx
  obtain⟨⟨tb,vs,sl,e1,_⟩,_⟩:=(show ObjOk X.prog X.w H1 s1.heap a (.ext (XO a C dx))from I1.hok a _ ha)
  obtain⟨mA,ns,r⟩:=(show ObjOk X.prog X.w H1 s1.heap dx (.xd [(f,v)])from I1.hok dx _ hd)
  obtain⟨u',hu,ru⟩:=RelO.some_of (v:=v) (o:=mA f) (by have:=r f;rw[List.lookup_cons_self]at this;exact this)
  exact Qd I1.kIn xc e1 ns n hu (MP ru) ⟨v,H1,I1.tok _,ru,q⟩
end
end L2
namespace L2
open PySem PySem.Spec PyProof.Rows
section
variable{X:Cx}{C fI:Addr}{f:Str}
noncomputable def UQ(C:Addr)(f:Str)(i k:Nat)(th:TS)(D:Ends):VK:=λ v H'=>∀ a dx,H' a=some (.ext (XO a C dx))->H' dx=some (.xd [(f,v)])->th ⟨λ σ2 H2=>D.nx (σ2.set i none) H2,λ _ _=>False,λ _ _=>False,λ _ _=>False⟩ ((List.replicate k none).set i (some (.ref a))) H'
noncomputable def N0(C:Addr)(f:Str)(i:Nat)(tb tx th:TS):TS:=λ D σ H=>tb D σ H ∨ tx ⟨λ _ _=>False,UQ C f i σ.length th D,λ _ _=>False,λ _ _=>False⟩ σ H
theorem SJ{i:Nat}{B:Addr}{xB n:Str}{pB ph pos:Pos}{body suite:List Stmt}{b0:Stmt}{tb tx th:TS}(hst:X.stack=X.env :: X.outer/\X.env.frame=some X.env.locals)(hb:PSs X.nox body tb)(hx:PXs C f X body tx)(hg:Gl X xB)(hm:X.mg xB=some (.ref B))
    (hB:PySem.W.exmOne X.K (.ref C) (.ref B)=some true) (hN:X.N.Nodup) (hi:X.N[i]? = some n) (hl:X.env.scope.names.lookup n=some .local) (hh:∀ a,PSs (X.hand (.ref a)) (b0 :: suite) th) (hdb:(xB == ("__debug__":Str))=false:=by decide) :
    PS X (.Try body [.ExceptHandler (some (.Name xB pB)) (some n) (b0 :: suite) ph] [] [] pos) (N0 C f i tb tx th):=by
  intro pins s σ H D I h
  refine wpAny_Try_except ?_
  rcases h with h|h
  . refine thx (hb pins s σ H D (I.wish _) h) (λ fl s1 q=>?_) λ _ _ z=>z.elim
    have q:=q.unwish
    cases fl with
    | next=>exact wpAny_execs_nil q
    | ret v=>exact q
    | brk=>exact q
    | cont=>exact q
  . refine thx (hx pins s σ H _ I h) (λ fl s1 q=>?_) λ e s1 q=>?_
    . cases fl with
      | next=>obtain⟨_,_,_,z⟩:=q;exact z.elim
      | ret v=>obtain⟨_,_,_,_,_,z⟩:=q;exact z.elim
      | brk=>obtain⟨_,_,_,z⟩:=q;exact z.elim
      | cont=>obtain⟨_,_,_,z⟩:=q;exact z.elim
    . obtain⟨a,dx,tb',v,σ',H',rfl,I1,ex,ht,ha,hT,hd,q⟩:=q
      have fr:X.A.frames=some (X.env :: X.outer):=by rw[<- hst.1];exact I1.ok.frames
      have fl0:s1.heap.FunFrames X.base (X.env :: X.outer):=by rw[<- hst.1];exact I1.stack
      refine JD (base:=X.base) fr fl0 hst.2 ex ht λ h' T z nT ex' tr N=>?_
      have I2:Inv X pins σ' H' { s1 with heap:=h' }:=Nk I1 ha hT (by rw[hst.1];exact N) ex'
      have LT:PySem.W.Looks (model X.prog X.w) h' (typeOf (.ref a)) (.ref C):=by
        obtain⟨vs,sl,e,_⟩:=ex'
        exact(PySem.W.Looks.ld e).andThen .now
      refine wpAny_handleBy_cons (codeAny_handlers_test (EV (X:=X.hand (.ref a)) (I2.hand _) hg hm ?_ hdb)) (by intro q;cases q)
      refine PySem.W.Looks.here (s:={ s1 with heap:=h' }) (PySem.W.exm_one I2.kIn LT hB) ?_
      refine codeAny_handlers_suite_as ?_
      obtain⟨vs,sl,ea,e1⟩:=id ex'
      obtain⟨oT,ts,eT,dT,e3⟩:=tr
      refine wpAny_setFlight_none (s:={ s1 with heap:=h' }) ea rfl e1 eT dT (Array.getElem?_eq_some_iff.mp e3).1 ?_
      have nw:=I1.new z
      have I3:=I2.turned (it:=T) (t':=s1.toks) (h':=h'.update T (Obj.mapFields (·.setIfInBounds 3 Value.none))) (λ b o n e=>(Heap.get?_update_other _ _ (Ne.symm n)).trans e) (I1.hok.fresh z) nw.2.1 nw.1 nw.2.2.1 nw.2.2.2
      have I3':=I3.weak (σ':=List.replicate σ.length none) (by rw[List.length_replicate,I.len,I3.len]) λ i v e=>by
        rw[List.getElem?_replicate]at e;split at e <;> cases e
      refine Bw (v:=.ref a) I3' hN hi (.inl hl) rfl (λ s4 I4=>?_) (.inr hl)
      refine thx (hh a pins s4 _ H' _ (I4.hand _) (q a dx ha hd)) (λ fl s5 q5=>?_) λ _ _ z=>z.elim
      cases fl with
      | next=>
        obtain⟨σ2,H2,I5,q6⟩:=q5
        have I5:=I5.unhand I.ok.hd
        show wpAny _ _ (do bindName X.env n .none;unbindBehindTheSuite X.env n ph) _ _ _
        refine wpAny_bind (wpAny_bindName (Bw (v:=.non) I5 hN hi (.inl hl) rfl (λ s6 I6=>?_) (.inr hl)))
        unfold unbindBehindTheSuite
        have li:i < σ2.length:=by rw[I5.len];exact(List.getElem?_eq_some_iff.mp hi).1
        refine wpAny_onRaise (Lf (v:=.non) I6 hN hi hl (List.getElem?_set_self li) λ s7 I7=>?_)
        rw[List.set_set]at I7
        exact⟨_,_,I7,q6⟩
      | ret v=>obtain⟨_,_,_,_,_,z⟩:=q5;exact z.elim
      | brk=>obtain⟨_,_,_,z⟩:=q5;exact z.elim
      | cont=>obtain⟨_,_,_,z⟩:=q5;exact z.elim
end
end L2
namespace L2
open PySem PySem.Spec PyProof.Rows
theorem GK:bootBuiltins "isinstance"=some (.builtin "isinstance"):=by decide +kernel
theorem Qs:bootBuiltins "ValueError"=some (.type "ValueError"):=by decide +kernel
section
variable{X:Cx}{C fI:Addr}{f:Str}
theorem Tq{pos:Pos}(hg:Gl X "ValueError")(hm:X.mg "ValueError"=none):PE X (.Name "ValueError" pos) (tC (.ty "ValueError")):=λ pins s σ H Q I h=>
  FS I hg hm Qs ⟨.ty "ValueError",H,I,rfl,h⟩
noncomputable def KY(C:Addr)(f:Str)(cs:List Addr)(ie is ifd:Nat):TS:=λ D σ H=>∃ a dx v,σ[ie]? = some (some (.ref a))/\is < σ.length/\ie ≠ is/\H a=some (.ext (XO a C dx))/\H dx=some (.xd [(f,v)]) /\
  ∀ t1 t2,H t1=none->H t2=none->t2 ≠ t1->D.nx ((σ.set is (some (.bl false))).set ifd (some (.ref t2))) (upd (upd H t1 (.tup (cs.map V.ref))) t2 (.tup [.str "no",v]))
theorem Ps{ie is ifd:Nat}{n xs xf xN:Str}{es:List Expr}{cs:List Addr}{tt:TA}{p1 p2 p3 p4 p5 p6 p7 p8 p9 p10 p11 p12 p13 p14 p15 p16 p17 p18 p19 p20 p21 pN pA pI:Pos}{k1 k2 k3}(xc:XC X.K C fI)(xi:XI X.K C)(na:DJ X.K C f)(gI:Gl X "isinstance")(hI:X.mg "isinstance"=none)(gV:Gl X "ValueError")(hV:X.mg "ValueError"=none)(gN:Gl X xN)(hmN:X.mg xN=some (.ref C))
    (hes:PA X es tt) (htt:∀ σ H (Q:List V->Hp->Prop),Q (cs.map V.ref) H->tt σ H Q) (hcs:cs.length <= 1000) (hk7:PySem.W.kitAny X.K (.ref C) (cs.map Value.ref)=some false) (hkV:PySem.W.kitOne X.K (.ref C) (.type "ValueError")=some true) (hN:X.N.Nodup)
    (i1:X.N[ie]? = some n) (i2:X.N[is]? = some xs) (i3:X.N[ifd]? = some xf) (l1:X.env.scope.names.lookup n=some .local) (l2:X.env.scope.names.lookup xs=some .local) (l3:X.env.scope.names.lookup xf=some .local) (dn:(n == ("__debug__":Str))=false) (dn2:(n == ("__classdict__":Str))=false) (ds:(xs == ("__debug__":Str))=false) (ds2:(xs == ("__classdict__":Str))=false)
    (dN:(xN == ("__debug__":Str))=false) (hba:attributeBase (.Name n p19) f X.env (eval (.Name n p19) X.env)=eval (.Name n p19) X.env)
    (sw1:swapsWith (.Call (.Name "isinstance" p2) [.Name n p3,.Tuple es k1 p4] [] p5) (some (.Name xs p1)) p6.line X.env=pure false) (sw2:swapsWith (.Tuple [.Constant (.str "no") k2 p18,.Attribute (.Name n p19) f p20] k3 p21) (some (.Name xf p17)) p16.line X.env=pure false)
    (st1:starEach [.Name n p3,.Tuple es k1 p4] X.env=(false,eval (.Name n p3) X.env) :: starEach [.Tuple es k1 p4] X.env) (st2:starEach [.Tuple es k1 p4] X.env=(false,eval (.Tuple es k1 p4) X.env) :: starEach [] X.env) :
    PSs X [.Assign [.Name xs p1] (.Call (.Name "isinstance" p2) [.Name n p3,.Tuple es k1 p4] [] p5) p6,
      .If (.BoolOp .And [.Call (.Name "isinstance" p7) [.Name n p8,.Name xN p9] [] p10,.Call (.Name "isinstance" p11) [.Name n p12,.Name "ValueError" p13] [] p14,.UnaryOp .Not (.Name xs p15) pN] pA) [.Assign [.Name xf p17] (.Tuple [.Constant (.str "no") k2 p18,.Attribute (.Name n p19) f p20] k3 p21) p16] [] pI] (KY C f cs ie is ifd):=by
  have e1:=J7 (pos:=p6) (pos':=p1) (i:=is) hN i2 (.inl l2) (Ck (p:=p2) (pos:=p5) (O5 (f:=f) xc xi hk7) gI hI GK (Am (EO (i:=ie) (pos:=p3) i1 (.inl l1) dn dn2) (Am (J9 (pos:=p4) (x1:=k1) hes) Br st2) st1) (by decide) (by decide) st1) sw1 (.inr l2)
  have cN:CallR X (.builtin "isinstance") (NP X.K C f true (.ref C)):=JY xc xi (u:=.ref C) (λ u' r=>r) (by unfold PySem.W.kitOne;rw[if_pos (by simp)])
  have cV:CallR X (.builtin "isinstance") (NP X.K C f true (.ty "ValueError")):=JY xc xi (u:=.type "ValueError") (λ u' r=>r) hkV
  have vn:∀ p,PE X (.Name n p) (KW ie):=λ p=>EO i1 (.inl l1) dn dn2
  have c1:=J4 (Ck (p:=p7) (pos:=p10) cN gI hI GK (Am (vn p8) (Am (K0 (v:=.ref C) (pos:=p9) gN hmN rfl dN) Br)))
  have c2:=J4 (Ck (p:=p11) (pos:=p14) cV gI hI GK (Am (vn p12) (Am (Tq (pos:=p13) gV hV) Br)))
  have c3:=SH (pos:=pN) (J4 (EO (i:=is) (pos:=p15) i2 (.inl l2) ds ds2))
  have e2:=OX (pos:=pI) (J3 (pos:=pA) c1 (J3 c2 (Jw c3))).pt (Fh (J7 (pos:=p16) (pos':=p17) (i:=ifd) hN i3 (.inl l3) (J9 (pos:=p21) (x1:=k3) (Am (M3 (j:=k2) (pos:=p18)) (Am (Q6 (pos:=p20) xc na (vn p19) hba) Br))) sw2 (.inr l3))) HK
  intro pins s σ H D I h
  refine J5 e1 (Fh e2) pins s σ H D I ?_
  obtain⟨a,dx,v,q1,q2,q3,ha,hd,q⟩:=h
  have s1:∀ x:Option V,(σ.set is x)[ie]? = some (some (.ref a)):=λ x=>by rw[List.getElem?_set_ne (Ne.symm q3)];exact q1
  refine⟨.ref a,q1,?_⟩
  refine htt _ _ _ ⟨by rw[List.length_map];exact Nat.le_trans hcs (by decide),λ t1 n1=>⟨a,dx,v,t1,rfl,?_,?_,AT,?_⟩⟩
  . rw[AE (AS ha n1)];exact ha
  . rw[AE (AS hd n1)];exact hd
  have ha':upd H t1 (.tup (cs.map V.ref)) a=some (.ext (XO a C dx)):=by rw[AE (AS ha n1)];exact ha
  have hd':upd H t1 (.tup (cs.map V.ref)) dx=some (.xd [(f,v)]):=by rw[AE (AS hd n1)];exact hd
  refine⟨_,s1 _,a,dx,v,rfl,ha',hd',true,rfl,?_⟩
  refine Nu ?_
  refine⟨_,s1 _,a,dx,v,rfl,ha',hd',true,rfl,?_⟩
  refine Nu ?_
  refine⟨.bl false,List.getElem?_set_self q2,false,rfl,?_⟩

  refine Nu ?_
  refine⟨_,s1 _,a,dx,v,rfl,ha',hd',by show 2 <= sizeLine;decide,λ t2 n2=>?_⟩
  have ne:t2 ≠ t1:=λ z=>by rw[z,AT]at n2;cases n2
  exact q t1 t2 n1 (by rw[AE ne]at n2;exact n2) ne
end
end L2
namespace L2
open PySem PySem.Spec PyProof.Rows
noncomputable def tX(f:Str)(tc:TE):TE:=λ σ H Q=>tc σ H λ v H'=>∀ dx,H' dx=some (.xd [(f,v)])->Q v H'
noncomputable def Dq(m:MS):MS:=λ ls hd=>(m ls hd).bind λ p=>match p.1 with
  | .rt _=>none
  | fl=>some (fl,p.2)
noncomputable def Gi(ma me:ME):ME:=λ ls hd=>(ma ls hd).bind λ p=>me ls p.2
noncomputable def mkX(k n:Nat)(m:MS):List D->Hd->Option (D × Hd):=λ ds hd=>if ds.length=k then(match m (ds.map some ++ List.replicate (n - k) none) hd with
  | some (.rt d,hd')=>some (d,hd')
  | _=>none)else none
theorem Fj{k n:Nat}{m:MS}:∀ ds hd z,mkX k n m ds hd=some z->ds.length=k:=λ ds hd z h=>by
  unfold mkX at h
  split at h
  . next e=>exact e
  . cases h
noncomputable def FM(ie is ifd:Nat)(mb mx:MS):MS:=λ ls hd=>match mb ls hd with
  | some r=>some r
  | none=>if ie < ls.length/\is < ls.length/\ifd < ls.length then(match mx ls hd with
    | some (.rt (.im w),hd')=>some (.nx ((List.replicate ls.length none).set ifd (some (.im (.tup [.str "no",w])))),hd')
    | _=>none)else none
section
variable{K:PySem.W.Frag}{C:Addr}{f:Str}{ρ ρ':List Addr}{H H':Hp}{hd hd':Hd}
theorem UU{tc:TE}{m:ME}(h:RE K tc m):RE K (tX f tc) m:=λ ρ σ H hd ls Q d hd' hR hL hm hQ=>h ρ σ H hd ls _ d hd' hR hL hm λ ρ' H' v x R r dx _=>hQ ρ' H' v x R r
theorem Pc{ta te:TE}{ma me:ME}(ha:RE K ta ma)(he:RE K te me):RE K (KZ ta te) (Gi ma me):=by
  intro ρ σ H hd ls Q d hd' hR hL hm hQ
  obtain⟨⟨d1,h1⟩,e1,hm⟩:=Option.bind_eq_some_iff.mp hm
  refine ha ρ σ H hd ls _ d1 h1 hR hL e1 λ ρ1 H1 v1 x1 R1 _=>?_
  exact he ρ1 σ H1 h1 ls Q d hd' R1 (RL.ext hR x1 hL) hm λ ρ2 H2 v2 x2 R2 r2=>hQ ρ2 H2 v2 (x1.trans R1 x2) R2 r2
theorem Ie{t:TS}{m:MS}(h:RS K t m):RS K (IU t) (Dq m):=by
  intro ρ σ H hd ls E fl hd' hR hL hm hQ
  obtain⟨⟨fl1,h1⟩,e1,hm⟩:=Option.bind_eq_some_iff.mp hm
  refine h ρ σ H hd ls E.non fl1 h1 hR hL e1 λ ρ' H' x R=>?_
  cases fl1 with
  | rt d=>cases hm
  | nx l=>cases hm;exact hQ ρ' H' x R
  | bk l=>cases hm;exact hQ ρ' H' x R
  | ct l=>cases hm;exact hQ ρ' H' x R
theorem NB{te:TE}{me:ME}(h:RE K te me):RS K (GT C f te) (Ah me):=by
  intro ρ σ H hd ls E fl hd' hR hL hm hQ
  obtain⟨⟨d1,h1⟩,e1,hm⟩:=Option.bind_eq_some_iff.mp hm
  cases hm
  refine h ρ σ H hd ls _ d1 h1 hR hL e1 λ ρ1 H1 v x1 R1 r1 a dx na nd ne=>?_
  obtain⟨R2,x2⟩:=R1.hid nd (ho:=.xd [(f,v)])
  obtain⟨R3,x3⟩:=R2.hid (a:=a) (by rw[AE (Ne.symm ne)];exact na) (ho:=.ext (XO a C dx))
  exact hQ ρ1 _ ((x1.trans R1 x2).trans R2 x3) R3 v ((r1.ext R1 x2).ext R2 x3)
theorem Rf{ie is ifd:Nat}{cs:List Addr}{tb tx:TS}{mb mx:MS}(hb:RS K tb mb)(hx:RS K tx mx)(n1:ie ≠ is)(n2:ie ≠ ifd)(n3:is ≠ ifd):RS K (N0 C f ie tb tx (KY C f cs ie is ifd)) (FM ie is ifd mb mx):=by
  intro ρ σ H hd ls E fl hd' hR hL hm hQ
  unfold FM at hm
  split at hm
  . next r e=>
    cases hm
    exact .inl (hb ρ σ H hd ls E fl hd' hR hL e hQ)
  . split at hm
    . next c=>
      split at hm
      . next w h1 e=>
        cases hm
        refine .inr (hx ρ σ H hd ls _ (.rt (.im w)) hd' hR hL e λ ρ1 H1 x1 R1 v r1 a dx ha hd1=>?_)
        have ll:=hL.len
        refine⟨a,dx,v,List.getElem?_set_self (by rw[List.length_replicate,<- ll];exact c.1),by rw[List.length_set,List.length_replicate,<- ll];exact c.2.1,n1,ha,hd1,λ t1 t2 m1 m2 ne=>?_⟩
        obtain⟨R2,x2⟩:=R1.hid m1 (ho:=.tup (cs.map V.ref))
        have m2':upd H1 t1 (.tup (cs.map V.ref)) t2=none:=by rw[AE ne];exact m2
        obtain⟨R3,x3⟩:=R2.hid m2' (ho:=.tup [.str "no",v])
        refine hQ ρ1 _ ((x1.trans R1 x2).trans R2 x3) R3 _ ⟨by simp[ll],λ i d e=>?_⟩
        have li:i < ls.length:=by have:=(List.getElem?_eq_some_iff.mp e).1;simpa using this
        by_cases z:i=ifd
        . subst z
          rw[List.getElem?_set_self (by simpa using li)]at e
          cases e
          refine⟨.ref t2,?_,?_⟩
          . rw[List.getElem?_set_ne n2,List.getElem?_set_self (by simp[<- ll];exact li)]
          . have r2:=(r1.ext R1 x2).ext R2 x3
            simp only[RD,RI]at r2 ⊢
            refine⟨t2,[.str "no",v],rfl,.of AT,?_⟩
            simp only[RIs]
            exact⟨_,_,rfl,by simp only[RI],_,_,rfl,r2,rfl⟩
        . rw[List.getElem?_set_ne (Ne.symm z),List.getElem?_replicate,if_pos li]at e
          cases e
      . cases hm
    . cases hm
theorem spF.mono{k:Nat}{F:List D->Hd->Option (D × Hd)}{vs:List V}{Q Q':VK}{E E':XK}(h:spF K k F vs H Q E)(k':∀ v H',Q v H'->Q' v H'):spF K k F vs H Q' E':=
  let ⟨a,ρ,hd,ds,d,hd',b,c,e,q⟩:=h;⟨a,ρ,hd,ds,d,hd',b,c,e,λ ρ' H' v x R r=>k' _ _ (q ρ' H' v x R r)⟩
end
noncomputable def spX(C:Addr)(f:Str)(K:PySem.W.Frag)(k:Nat)(F:List D->Hd->Option (D × Hd)):Sp:=λ vs H _ E=>spF K k F vs H (λ v H'=>∀ dx,H' dx=some (.xd [(f,v)])->E (.ref C) (some dx) H') E0
section
variable(C:Addr)(f:Str)(K:PySem.W.Frag)(X:Cx)
structure QX(e:Stmt)(t:TS)(m:MS):Prop where
  p:PX C f X e t
  r:RS K t m
structure QXs(e:List Stmt)(t:TS)(m:MS):Prop where
  p:PXs C f X e t
  r:RS K t m
structure QXE(e:Expr)(t:TE)(m:ME):Prop where
  p:PXE C f X e t
  r:RE K t m
structure QXA(e:List Expr)(t:TE)(m:ME):Prop where
  p:PXA C f X e t
  r:RE K t m
end
section
variable{C fI:Addr}{f:Str}{K:PySem.W.Frag}{X:Cx}{st:Stmt}{rest:List Stmt}{t u:TS}{m m1 m2:MS}{e:Expr}{es:List Expr}{te tb:TE}{me mb:ME}{pos:Pos}
theorem Pi(h:QS K X.nox st t m):QX C f K X st (IU t) (Dq m):=⟨Jv h.p,Ie h.r⟩
theorem Dh(h1:QX C f K X st t m1)(h2:QXs C f K X rest u m2):QXs C f K X (st :: rest) (IT t u) (AF m1 m2):=⟨NW h1.p h2.p,Ln h1.r h2.r⟩
theorem Ff(h1:QX C f K X st t m1):QXs C f K X [st] t m1:=⟨Po h1.p,h1.r⟩
theorem Jr:QXs C f K X [] (IU ID) (Dq BP):=⟨NV HK,Ie Ji⟩
theorem OT{c:Expr}{a b:List Stmt}{tc:TT}{mc:MT}(hc:QT K X.nox c tc mc)(ha:QXs C f K X a t m1)(hb:QXs C f K X b u m2):QX C f K X (.If c a b pos) (IV tc t u) (BT mc m1 m2):=⟨To hc.p ha.p hb.p,OJ hc.r ha.r hb.r⟩
theorem Pj(he:QXE C f K X e te me)(hs:swapsWith e none pos.line X.env=pure false:=by rfl):QX C f K X (.Expr e pos) (G9 te) (Ah me):=⟨Pq he.p hs,Ic he.r⟩
theorem Iv{x:Str}{pos':Pos}(he:QXE C f K X e te me)(hs:swapsWith e (some (.Name x pos')) pos.line X.env=pure false:=by rfl):QX C f K X (.Assign [.Name x pos'] e pos) (G9 te) (Ah me):=⟨SG he.p hs,Ic he.r⟩
theorem NR(he:QXE C f K X e te me)(hs:starEach (e :: es) X.env=(false,eval e X.env) :: starEach es X.env:=by rfl):QXA C f K X (e :: es) te me:=⟨NY he.p hs,he.r⟩
theorem Lu(ha:QE K X.nox e tb mb)(hr:QXA C f K X es te me)(hs:starEach (e :: es) X.env=(false,eval e X.env) :: starEach es X.env:=by rfl):QXA C f K X (e :: es) (KZ tb te) (Gi mb me):=⟨Ly ha.p hr.p hs,Pc ha.r hr.r⟩
theorem Ph{x1}(h:QXA C f K X es te me):QXE C f K X (.Tuple es x1 pos) te me:=⟨Pp h.p,h.r⟩
theorem NX{j k n:Nat}{fa:Addr}{fd:FuncData}{ps:List Str}{F:List D->Hd->Option (D × Hd)}{st:Stmt}{x:Str}{p:Pos}{ta:TA}(G:FnOk X.prog X.w X.K X.mg X.base (CXN C X.prog X.w) j fa fd ps (spX C f K n F))(hr:Room k X.A)(DA:DefAt X.K X.mg x st fa fd ps)(ha:PA X.nox (e :: es) ta)
    (hjk:j <= k:=by decide) (hg:Gl X x:=by rfl) (hdb:(x == ("__debug__":Str))=false:=by decide) (he:starEach (e :: es) X.env=(false,eval e X.env) :: starEach es X.env:=by rfl) (hpl:(backTo pos (starEach es X.env)).any (·.1)=false:=by rfl) :
    PXE C f X (.Call (.Name x p) (e :: es) [] pos) (tX f (E1 (spF K n F) [] E0 ta)):=by
  intro pins s σ H Q I h
  refine wpAny_Call_Name_kw (EV I hg DA.mg ?_ hdb)
  refine PySem.W.callWith_K (h₀:=X.base) I.ok.mod.kin DA.fn.kp (thx (ha pos pins s σ H _ (I.wish _) h) (λ us s1 ⟨vs,H1,I1',r,q⟩=>⟨I1'.kIn,?_⟩) λ _ _ z=>z.elim) he hpl
  have I1:=I1'.unwish
  dsimp only at q
  rw[List.append_nil]at q
  have q2:spX C f K n F vs H1 (λ _ _=>False) (λ c dx H'=>∃ d v,dx=some d/\H' d=some (.xd [(f,v)])/\Q v H'):=q.mono λ v H' z dx hd=>⟨dx,v,rfl,hd,z dx hd⟩
  have hl:us.length=ps.length:=by rw[<- r.length];exact G.len _ _ _ _ q2
  refine wpAny_call (codeAny_mono (G.run X.A X.stack s1 H1 ⟨us,[]⟩ us vs _ _ (hr.mono hjk) I1.env0 (by have:=DA.bd s1 us I1.kIn (by simpa using hl);simpa using this) r q2) λ res s' hq=>?_)
  cases res with
  | error x=>
    have hq:CXN C X.prog X.w X.stack H1 s1 (λ c dx H'=>∃ d v,dx=some d/\H' d=some (.xd [(f,v)])/\Q v H') x s':=hq
    refine LU I1 hq λ dx H' ⟨d,v,e1,e2,e3⟩=>?_
    cases e1
    exact⟨v,e2,e3⟩
  | ok fl=>
    cases fl with
    | ret u=>obtain⟨_,_,_,_,_,_,_,z⟩:=hq;exact z.elim
    | next=>exact hq.elim
    | brk=>exact hq.elim
    | cont=>exact hq.elim
theorem E3(w:Nat){j k n:Nat}{fa:Addr}{fd:FuncData}{ps:List Str}{F:List D->Hd->Option (D × Hd)}{st:Stmt}{x:Str}{p:Pos}{ta:TA}{ma:MA}(G:FnOk X.prog X.w X.K X.mg X.base (CXN C X.prog X.w) j fa fd ps (spX C f K n F))(hr:Room k X.A)(DA:DefAt X.K X.mg x st fa fd ps)(ha:QA K X.nox (e :: es) ta ma)(hF:∀ ds hd z,F ds hd=some z->ds.length=n)
    (hjk:j <= k:=by decide) (hg:Gl X x:=by rfl) (hdb:(x == ("__debug__":Str))=false:=by decide) (he:starEach (e :: es) X.env=(false,eval e X.env) :: starEach es X.env:=by rfl) (hpl:(backTo pos (starEach es X.env)).any (·.1)=false:=by rfl) :
    QXE C f K X (.Call (.Name x p) (e :: es) [] pos) (tX f (E1 (spF K n F) [] E0 ta)) (AC w F ma):=⟨NX G hr DA ha.p hjk hg hdb he hpl,UU (Im ha.r hF)⟩
theorem okX{P:Program}{w:World}{mg:Str->Option Value}{base:Heap}{x:Str}{fa:Addr}{fd:FuncData}{N ps:List Str}{j:Nat}(DA:DefAt K mg x st fa fd ps)(S:FnScope N ps (AA st))
    (h:∀ (cdv:Value) (A:Around) (outer:List Env) (s:Shared) (H:Hp) (E:XK),Room j (A.deeper (envOfC x (AA st) s.heap.objs.size fa cdv))->∃ t,QXs C f K (Dw (CXN C P w) P w K mg base N x (AA st) fa cdv A outer s H E) (Ac st) t m) :
    FnOk P w K mg base (CXN C P w) (j + 1) fa fd ps (spX C f K ps.length (mkX ps.length N.length m)):=by
  obtain⟨F,hmg,bd⟩:=DA
  obtain⟨⟨oc,od,kV,doc,pm,an,cdv,ct,osl,rfl,lk,hcd⟩,kp⟩:=F
  refine Og lk hcd S (λ vs H Q E h=>h.1) λ A outer s H vs Q E hr hs=>?_
  obtain⟨t,q⟩:=h cdv A outer s H E hr
  refine⟨λ _ σ H'=>t ⟨λ _ _=>False,λ v H'=>∀ dx,H' dx=some (.xd [(f,v)])->E (.ref C) (some dx) H',λ _ _=>False,λ _ _=>False⟩ σ H',λ pins s1 σ1 H1 D I h1=>?_,?_⟩
  . refine thx (q.p pins s1 σ1 H1 _ I h1) (λ fl s2 z=>?_) λ e s2 z=>?_
    . cases fl with
      | next=>obtain⟨_,_,_,z⟩:=z;exact z.elim
      | ret v=>obtain⟨_,_,_,_,_,z⟩:=z;exact z.elim
      | brk=>obtain⟨_,_,_,z⟩:=z;exact z.elim
      | cont=>obtain⟨_,_,_,z⟩:=z;exact z.elim
    . obtain⟨a,dx,tb,v,σ',H',e0,I',r⟩:=z
      exact Mq (pins:=pins) ⟨a,dx,tb,v,σ',H',e0,I'.wish _,r⟩ λ v dx H' z hd=>z dx hd
  . obtain⟨hk,ρ,hd,ds,d,hd',hR,hr',hF,hQ⟩:=hs
    unfold mkX at hF
    split at hF
    . next hl=>
      split at hF
      . next d1 h2 e1=>
        cases hF
        rw[<- hl]at e1
        exact q.r ρ _ H hd _ _ (.rt d) hd' hR (GC hr') e1 λ ρ' H' x R v r=>hQ ρ' H' v x R r
      . cases hF
    . cases hF
theorem NS{x pw:Str}{p p1:Pos}{k j:Nat}{fd:FuncData}(c:XC X.K C fI)(F:FnOk X.prog X.w X.K X.mg X.base CX0 k fI fd ["self",pw] (spI C f))(hr:Room j X.A)(hb:Binds X.K fd ["self",pw] [])(hm:X.mg x=some (.ref C))(he:QE K X.nox e te me)(hjk:k + 1 <= j:=by decide)(hcalm:X.calm=true:=by rfl)(hg:Gl X x:=by rfl)
    (hdb:(x == ("__debug__":Str))=false:=by decide) (hst:starEach [e] X.env=(false,eval e X.env) :: starEach [] X.env:=by rfl) (hpl:(backTo p1 (starEach [] X.env)).any (·.1)=false:=by rfl) :
    QX C f K X (.Raise (some (.Call (.Name x p) [e] [] p1)) none pos) (GT C f te) (Ah me):=⟨NZ c F (hr.mono hjk) hb hcalm hg hm he.p hdb hst hpl,NB he.r⟩
end
end L2
namespace L2
open PySem PySem.Spec PyProof.Rows PySem.W
noncomputable abbrev Tb:=Addr × Str × Nat × Nat
noncomputable def QQ(ts:List Tb):Obj:={ cls:=.str "tables" 0,data:=.fields (ts.flatMap λ t=>[.ref t.1,.str t.2.1 0,.int t.2.2.1 0,.int t.2.2.2 0]).toArray }
noncomputable def Af(K:PySem.W.Frag)(ts:List Tb):PySem.W.Frag:=(K.filter λ p=>!(ts.map (·.1)).contains p.1) ++ [(mainGlobals,QQ ts)]
theorem Lj:∀ ts:List Tb,IC (ts.flatMap λ t=>[Value.ref t.1,.str t.2.1 0,.int t.2.2.1 0,.int t.2.2.2 0])=ts.map λ t=>(t.1,t.2.1,⟨t.2.2.1,t.2.2.2,0,0⟩)
  | []=>rfl
  | t :: r=>by
    rw[List.flatMap_cons,List.map_cons,<- Lj r]
    rfl
theorem Hg(K:PySem.W.Frag)(ts:List Tb):FC (Af K ts)=ts.map λ t=>(t.1,t.2.1,⟨t.2.2.1,t.2.2.2,0,0⟩):=by
  unfold FC Af
  rw[List.getLast?_concat]
  show IC _=_
  rw[<- Lj ts]
theorem EA{L:List Addr}{a:Addr}(ha:a ∉ L):∀ K:PySem.W.Frag,(K.filter λ p=>!L.contains p.1).lookup a=K.lookup a
  | []=>rfl
  | (b,o) :: r=>by
    have ih:=EA ha r
    rw[List.filter_cons]
    by_cases hb:b ∈ L
    . have h1:(!L.contains (b,o).1)=false:=by simp[hb]
      have h2:(a == b)=false:=beq_eq_false_iff_ne.mpr λ z=>ha (z ▸ hb)
      rw[if_neg (by rw[h1];decide),List.lookup_cons,h2,ih]
    . have h1:(!L.contains (b,o).1)=true:=by simp[hb]
      rw[if_pos h1,List.lookup_cons,List.lookup_cons,ih]
theorem FQ{L:List Addr}{P:Addr}(hP:P ∈ L):∀ K:PySem.W.Frag,(K.filter λ p=>!L.contains p.1).lookup P=none
  | []=>rfl
  | (b,o) :: r=>by
    have ih:=FQ hP r
    rw[List.filter_cons]
    by_cases hb:b ∈ L
    . rw[if_neg (by simp[hb])];exact ih
    . have h2:(P == b)=false:=beq_eq_false_iff_ne.mpr λ z=>hb (z ▸ hP)
      rw[if_pos (by simp[hb]),List.lookup_cons,h2];exact ih
section
variable{K:PySem.W.Frag}{ts:List Tb}
theorem E6{a:Addr}{o:Obj}(ha:a ∉ ts.map (·.1))(e:K.lookup a=some o):(Af K ts).lookup a=some o:=by
  unfold Af
  rw[List.lookup_append,EA ha,e];rfl
theorem QP{h:Heap}(X:K.In h){g:Obj}(hg:K.lookup mainGlobals=some g)(hP:mainGlobals ∉ ts.map (·.1)):(Af K ts).In h:=λ a o e=>by
  unfold Af at e
  rw[List.lookup_append]at e
  by_cases ha:a ∈ ts.map (·.1)
  . rw[FQ ha,Option.none_or]at e
    have h2:(a == mainGlobals)=false:=beq_eq_false_iff_ne.mpr λ z=>hP (z ▸ ha)
    rw[List.lookup_cons,h2]at e;cases e
  . rw[EA ha]at e
    cases k:K.lookup a with
    | some o'=>rw[k]at e;cases e;exact X _ _ k
    | none=>
      rw[k,Option.none_or,List.lookup_cons]at e
      by_cases hm:a=mainGlobals
      . subst hm;rw[hg]at k;cases k
      . rw[beq_eq_false_iff_ne.mpr hm]at e;cases e
theorem QL(hM:mainGlobals ∉ ts.map (·.1)){P:Addr}(hP:P ∈ ts.map (·.1)):(Af K ts).lookup P=none:=by
  unfold Af
  have h2:(P == mainGlobals)=false:=beq_eq_false_iff_ne.mpr λ z=>hM (z ▸ hP)
  rw[List.lookup_append,FQ hP,Option.none_or,List.lookup_cons,h2]
  rfl
theorem Fun.mark{x qual:Str}{st:Stmt}{f:Addr}{fd:FuncData}(D:Fun K x qual st f fd){h:Heap}(X:K.In h)(hP:∀ P ∈ ts.map (·.1),h.get? P=some (tabObj #[])):Fun (Af K ts) x qual st f fd:=by
  have neP:∀ a o,K.lookup a=some o->o ≠ tabObj #[]->a ∉ ts.map (·.1):=λ a o e n z=>by
    have:=X _ _ e
    rw[hP a z]at this;exact n (Option.some.inj this).symm
  obtain⟨⟨oc,od,kV,doc,pm,an,cdv,ct,osl,rfl,lk,hcd⟩,kp⟩:=D
  have hf:f ∉ ts.map (·.1):=neP f _ lk (λ z=>by cases z)
  refine⟨⟨oc,od,kV,doc,pm,an,cdv,ct,osl,rfl,E6 hf lk,?_⟩,?_⟩
  . unfold codeIn at hcd ⊢
    split at hcd
    . next c0=>
      split at hcd
      . next vs sl k=>
        have hc:c0 ∉ ts.map (·.1):=neP c0 _ k (λ z=>by
          have:vs=#[]:=by injection z with _ _ z _;injection z
          rw[this]at hcd;cases hcd)
        simp only[E6 hc k]
        exact hcd
      . cases hcd
    . cases hcd
  . unfold keepIn
    simp only[E6 hf lk]
end
theorem Ti{K:PySem.W.Frag}{H:Hp}{a:Addr}{xs:List V}(hS:SqL K H a xs)(hO:∀ ys,H a ≠ some (.lst ys)):RoL K H a xs:=by
  rcases hS with(h|h)|h
  . exact absurd h (hO xs)
  . exact .inl h
  . exact .inr h
theorem MK{Pg:Program}{w:World}{K:PySem.W.Frag}{mg mb:Str->Option Value}{k:Nat}{fa a:Addr}{fd:FuncData}{x:Str}{ts:List Tb}{s₁:Shared}{vs:List Value}{ns:List Int}{F:List D->Hd->Option (D × Hd)}
    (KX:K.In s₁.heap) (hns:s₁.heap.Ns mainGlobals mg) (hb:s₁.heap.Ns builtinsNs mb) (hbb:∀ x:Str,x ≠ "__name__"->mb x=bootBuiltins x) (hlim:s₁.heap.NoLimit) (hg:s₁.gens=#[])
    (ha:s₁.heap.get? a=some { cls:=.type "list",data:=.seq vs.toArray }) (hi:IntsAre vs ns) (hl:ns.length <= sizeLine) (hr:Room k callerA)
    (hT:∀ P ∈ ts.map (·.1),∃ cc,s₁.heap.TableAt cc P #[]) (hPK:∀ P ∈ ts.map (·.1),K.lookup P=none) (htab:FC K=ts.map λ t=>(t.1,t.2.1,⟨t.2.2.1,t.2.2.2,0,0⟩))
    (Fn:∀ base:Heap,K.In base->base.Ns mainGlobals mg->(∀ b o,b ∉ ts.map (·.1)->b ≠ a->s₁.heap.get? b=some o->base.get? b=some o)->FnOk Pg w K mg base CX0 k fa fd [x] (spF K 1 F)) (hbind:∀ (s:Shared) (u:Value),BindsTo s fd ⟨[u],[]⟩ [(x,u)])
    (hF:∃ hd',F [.ro ns] []=some (.im (.bl true),hd')) :
    codeAny (model Pg w) callerA (.call (.ref fa) ⟨[.ref a],[]⟩) (λ r s'=>r=.ok (.ret (.bool true))/\OldK s₁.heap s'.heap/\s'.os=s₁.os/\AllBare s'.gens) s₁:=by
  have rv:=Hf hi
  have lenV:=hi.length
  have hP:∀ P ∈ ts.map (·.1),s₁.heap.get? P=some (tabObj #[]):=λ P h=>let ⟨cc,t⟩:=hT P h;t.2
  have haP:a ∉ ts.map (·.1):=λ z=>by rw[hP a z]at ha;cases ha
  have core:∀ H:Hp,(∀ b,b ∉ ts.map (·.1)->H b=none ∨ ∃ o xs,H b=some (.frz o (.lst xs)))->(∀ P ∈ ts.map (·.1),H P=some (.tbl #[]))->SqL K H a (ns.map V.int)->HOk Pg w H s₁.heap->(∀ b,H b ≠ none->b=a ∨ b ∈ ts.map (·.1))->(H a ≠ none->K.lookup a=none) ->
      codeAny (model Pg w) callerA (.call (.ref fa) ⟨[.ref a],[]⟩) (λ r s'=>r=.ok (.ret (.bool true))/\OldK s₁.heap s'.heap/\s'.os=s₁.os/\AllBare s'.gens) s₁:=by
    intro H hO hHP hS hok hA hK
    have base_of:∀ {b:Addr} {o:Obj},s₁.heap.get? b=some o->H b=none->(Ei s₁.heap H).get? b=some o:=λ e n=>Nw e n
    have noA:∀ {b:Addr} {o:Obj} {es:Array DictEntry} {ep:Nat},s₁.heap.get? b=some o->o.data=.dict es ep->H b=none:=λ {b o es ep} e d=>by
      cases q:H b with
      | none=>rfl
      | some u=>
        rcases hA b (by rw[q];simp)with e'|e'
        . subst e'
          rw[ha]at e;cases e
          have d':Data.seq vs.toArray _=Data.dict es ep:=d
          cases d'
        . rw[hP b e']at e;cases e
          cases d
    have nsK:∀ {b:Addr} {m:Str->Option Value},s₁.heap.Ns b m->(Ei s₁.heap H).Ns b m:=λ {b m} ⟨o,es,ep,e,d,r⟩=>⟨o,es,ep,base_of e (noA e d),d,r⟩
    have hKb:K.In (Ei s₁.heap H):=λ b o e=>base_of (KX b o e) (by
      cases q:H b with
      | none=>rfl
      | some u=>
        rcases hA b (by rw[q];simp)with e'|e'
        . subst e'
          rw[hK (by rw[q];simp)]at e;cases e
        . rw[hPK b e']at e;cases e)
    have hM:Mod K mg (Ei s₁.heap H):=⟨hKb,nsK hns,⟨mb,nsK hb,hbb⟩,let ⟨mc,h1,h2⟩:=hlim;⟨mc,nsK h1,h2⟩⟩
    have e0:Env0 Pg w K mg (Ei s₁.heap H) callerA [] s₁ H:=⟨rfl,hM,λ b o e=>QK e,Nat.le_of_eq (MN _ _),trivial,λ b hb=>absurd (show b ∈ ([]:List Addr)from hb) (by simp),hok,.of_eq hg⟩
    have hsp:spF K 1 F [.ref a] H (λ v _=>v=.bl true) λ _ _ _=>False:=by
      obtain⟨hd',e⟩:=hF
      refine⟨rfl,[],[],[.ro ns],.im (.bl true),hd',⟨rfl,List.nodup_nil,λ y hy=>?_,λ n o a h=>by simp at h⟩,?_,e,λ ρ' H' v _ _ r=>?_⟩
      . rw[htab]at hy
        obtain⟨t,ht,rfl⟩:=List.mem_map.mp hy
        exact⟨#[],hHP t.1 (List.mem_map.mpr ⟨t,ht,rfl⟩),.inl rfl⟩
      . simp only[RDs,RD]
        refine⟨_,_,rfl,⟨a,rfl,Ti hS λ ys z=>?_⟩,rfl⟩
        rcases hO a haP with q|⟨o,ys,q⟩ <;> (rw[q]at z;cases z)
      . simpa only[RD,RI]using r
    refine codeAny_mono ((Fn _ hKb (nsK hns) λ b o n1 n2 e=>base_of e (by
      cases q:H b with
      | none=>rfl
      | some u=>
                  rcases hA b (by rw[q];simp)with e'|e'
                  . exact absurd e' n2
                  . exact absurd e' n1)).run callerA [] s₁ H ⟨[.ref a],[]⟩ [.ref a] [.ref a] _ _ hr e0 (hbind s₁ (.ref a)) (.cons rfl .nil) hsp) λ r s' h=>?_
    cases r with
    | error e=>exact h.elim
    | ok fl=>
      cases fl with
      | next=>exact False.elim h
      | brk=>exact False.elim h
      | cont=>exact False.elim h
      | ret u=>
        obtain⟨v,H',os,bare,un,hok',r',q⟩:=h
        have q':v=.bl true:=q
        subst q'
        obtain rfl:u=Value.bool true:=r'
        have keep:∀ b o,b ∉ ts.map (·.1)->s₁.heap.get? b=some o->s'.heap.get? b=some o:=λ b o nb e=>by
          cases q:H b with
          | none=>exact un.keep b o e q (by intro z;exact absurd (show b ∈ ([]:List Addr)from z) (by simp)) (by simp)
          | some u=>
            rcases hO b nb with z|⟨ob,xs,z⟩
            . rw[q]at z;cases z
            . have z2:=un.frzs b ob _ z
              obtain⟨e1,_⟩:=hok b _ z
              obtain⟨e2,_⟩:=hok' b _ z2
              rw[e]at e1;cases e1
              exact e2
        refine⟨rfl,⟨λ b o e=>?_,λ b o e=>?_⟩,os,bare⟩
        . by_cases nb:b ∈ ts.map (·.1)
          . obtain⟨cc,tb⟩:=hT b nb
            obtain⟨more,hm⟩:=un.tbls b #[] (hHP b nb)
            have hb':s'.heap.get? b=some (tabObj (#[] ++ more)):=hok' b _ hm
            rw[hP b nb]at e;cases e
            exact .inr (.inl ⟨tb.isCodeTable,rfl,#[],more,rfl,hb'⟩)
          . exact .inl (keep b o nb e)
        . by_cases nb:b ∈ ts.map (·.1)
          . obtain⟨more,hm⟩:=un.tbls b #[] (hHP b nb)
            exact⟨_,hok' b _ hm⟩
          . exact⟨o,keep b o nb e⟩
  cases hk:K.lookup a with
  | some o=>
    have e:=KX a o hk
    rw[ha]at e
    cases e
    refine core (λ b=>if b ∈ ts.map (·.1)then some (.tbl #[])else none) (λ b nb=>.inl (if_neg nb)) (λ P hp=>if_pos hp) (.inr ⟨_,vs.toArray,_,hk,rfl,rfl,rfl,by rw[List.size_toArray,lenV];exact hl,by simpa using rv⟩) (λ b u z=>?_) (λ b z=>?_) λ z=>absurd (if_neg haP) z
    . by_cases hb:b ∈ ts.map (·.1)
      . have z':=(if_pos hb).symm.trans z
        cases z'
        exact hP b hb
      . have z':=(if_neg hb).symm.trans z
        cases z'
    . by_cases hb:b ∈ ts.map (·.1)
      . exact .inr hb
      . exact absurd (if_neg hb) z
  | none=>
    refine core (λ b=>if b ∈ ts.map (·.1)then some (.tbl #[])else if b=a then some (.frz { cls:=.type "list",data:=.seq vs.toArray } (.lst (ns.map V.int)))else none) (λ b nb=>?_) (λ P hp=>if_pos hp) (.inl (.inr ⟨{ cls:=.type "list",data:=.seq vs.toArray },(if_neg haP).trans (if_pos rfl)⟩)) (λ b u z=>?_) (λ b z=>?_) λ _=>hk
    . rw[if_neg nb]
      by_cases hb:b=a
      . exact .inr ⟨_,_,if_pos hb⟩
      . exact .inl (if_neg hb)
    . by_cases hp:b ∈ ts.map (·.1)
      . have z':=(if_pos hp).symm.trans z
        cases z'
        exact hP b hp
      . have z:=(if_neg hp).symm.trans z
        by_cases hb:b=a
        . have z':=(if_pos hb).symm.trans z
          cases z'
          subst hb
          exact⟨ha,by rw[List.length_map];exact hl,vs,_,rv,ha⟩
        . have z':=(if_neg hb).symm.trans z
          cases z'
    . by_cases hp:b ∈ ts.map (·.1)
      . exact .inr hp
      . by_cases hb:b=a
        . exact .inl hb
        . exact absurd ((if_neg hp).trans (if_neg hb)) z
theorem walkL{l:PySem.W.OpenLaw}{n k:Nat}{q:Program}{loose:List Str}{XP:(Str->Option Value)->Heap->Prop}{YP:World->Heap->Prop}{d:DefRec}{K:Params->PySem.W.Frag}{F:List D->Hd->Option (D × Hd)}(xs:List (Str × Str × Nat × Nat))
    (hn:l.most=some n) (hn2:n <= sizeLine) (hdf:d.params.defaults=[]) (hr:Room k callerA) (hdr:∀ x ∈ xs,∃ dr,(recsOf q).find? (λ e=>e.name == x.1)=some dr)
    (hF:∀ ns:List Int,∃ hd',F [.ro ns] []=some (.im (.bl true),hd'))
    (hY:∀ (w:World) (h:Heap),YP w h->(K w.params).In h)
    (G:∀ (w:World) (mg:Str->Option Value) (fa:Addr) (h:Heap) (c P:Str->Addr),(K w.params).In h->h.Ns mainGlobals mg->mg d.name=some (.ref fa) ->
      (∀ x ∈ xs,h.get? (P x.1)=some (tabObj #[])/\CodeHd h (c x.1) (P x.1)/\∃ a o fd,mg x.1=some (.ref a)/\h.get? a=some o/\o.data=.func fd/\fd.code=.ref (c x.1)) ->
      (∃ g,(K w.params).lookup mainGlobals=some g)/\∃ fd:FuncData,(∀ (s:Shared) (u:Value),BindsTo s fd ⟨[u],[]⟩ [("_law_script",u)]) /\
        ∀ base:Heap,(Af (K w.params) (xs.map λ x=>(P x.1,x.2))).In base->base.Ns mainGlobals mg->(∀ x ∈ xs,CodeHd base (c x.1) (P x.1))->(∀ x ∈ xs,base.BuiltinsAt mg (P x.1))->FnOk l.prog w (Af (K w.params) (xs.map λ x=>(P x.1,x.2))) mg base CX0 k fa fd ["_law_script"] (spF (Af (K w.params) (xs.map λ x=>(P x.1,x.2))) 1 F)) :
    PySem.W.WalkO q loose XP YP l.row.toRowW d [] (λ f vs=>PySem.call f vs):=by
  refine Att.attach_call hn hdf λ w s₀ s₁ mg mb fa o pm cd doc a vs ns Gr Y ho hd hcd hmg hobj hints hlen hg=>?_
  have KX:=hY w _ Y
  have each:∀ x:Str,∃ cp:Addr × Addr,(∃ y ∈ xs,y.1=x)->(∃ cc,s₁.heap.TableAt cc cp.2 #[])/\CodeHd s₁.heap cp.1 cp.2/\∃ a o fd,mg x=some (.ref a)/\s₁.heap.get? a=some o/\o.data=.func fd/\fd.code=.ref cp.1:=by
    intro x
    by_cases hx:∃ y ∈ xs,y.1=x
    . obtain⟨y,hy,rfl⟩:=hx
      obtain⟨dr,hdr⟩:=hdr y hy
      have hnm:dr.name=y.1:=beq_iff_eq.mp (List.find?_some (p:=λ e:DefRec=>e.name == y.1) hdr)
      obtain⟨a',o',fd',c,P,h1,h2,h3,h4,h5,h6⟩:=Gr.T.tab dr (List.mem_of_find?_eq_some hdr)
      rw[hnm]at h1
      exact⟨(c,P),λ _=>⟨⟨_,h6⟩,CodeHd.of h5 h6,a',o',fd',h1,h2,h3,h4⟩⟩
    . exact⟨(0,0),λ h=>absurd h hx⟩
  obtain⟨cp,hcp⟩:=Classical.skolem.mp each
  have hcp:∀ x ∈ xs,(∃ cc,s₁.heap.TableAt cc (cp x.1).2 #[])/\CodeHd s₁.heap (cp x.1).1 (cp x.1).2/\∃ a o fd,mg x.1=some (.ref a)/\s₁.heap.get? a=some o/\o.data=.func fd/\fd.code=.ref (cp x.1).1:=λ x hx=>hcp x.1 ⟨x,hx,rfl⟩
  have hts:∀ P ∈ (xs.map λ x=>((cp x.1).2,x.2)).map (·.1),∃ x ∈ xs,P=(cp x.1).2:=λ P hP=>by
    obtain⟨t,ht,rfl⟩:=List.mem_map.mp hP
    obtain⟨x,hx,rfl⟩:=List.mem_map.mp ht
    exact⟨x,hx,rfl⟩
  have hP:∀ x ∈ xs,s₁.heap.get? (cp x.1).2=some (tabObj #[]):=λ x hx=>by
    obtain⟨⟨cc,t⟩,_⟩:=hcp x hx;exact t.2
  have hmP:mainGlobals ∉ (xs.map λ x=>((cp x.1).2,x.2)).map (·.1):=λ z=>by
    obtain⟨x,hx,ez⟩:=hts _ z
    obtain⟨o,es,ep,e,dd,_⟩:=Gr.T.g
    rw[ez,hP x hx]at e;cases e;cases dd
  obtain⟨⟨g,hgl⟩,fd,hb,hFn⟩:=G w mg fa _ (λ x=>(cp x).1) (λ x=>(cp x).2) KX Gr.T.g hmg λ x hx=>⟨hP x hx,(hcp x hx).2⟩
  refine MK (ts:=xs.map λ x=>((cp x.1).2,x.2)) (K:=Af (K w.params) (xs.map λ x=>((cp x.1).2,x.2))) (QP KX hgl hmP) Gr.T.g Gr.T.b Gr.T.builtins Gr.T.nolimit hg hobj hints (Nat.le_trans hlen hn2) hr (λ P hp=>by obtain⟨x,hx,rfl⟩:=hts P hp;exact(hcp x hx).1) (λ P hp=>QL hmP hp) (Hg _ _) (λ base kb nb keep=>hFn base kb nb (λ x hx=>?_) λ x hx=>?_) hb (hF ns)
  . obtain⟨oc,vs',file,tf,flags,tg,inF,text,tt,e1,r1,r2,r3,r4,r5,r6,r7,r8,hne⟩:=(hcp x hx).2.1
    have hn:(cp x.1).1 ∉ (xs.map λ x=>((cp x.1).2,x.2)).map (·.1):=λ z=>by
      obtain⟨y,hy,ez⟩:=hts _ z
      rw[ez,hP y hy]at e1;cases e1;cases r1
    exact⟨oc,vs',file,tf,flags,tg,inF,text,tt,keep (cp x.1).1 oc hn (λ z=>by rw[z,hobj]at e1;cases e1;exact absurd (show Value.type "list"=Value.type "code" from r1) (by decide)) e1,r1,r2,r3,r4,r5,r6,r7,r8,hne⟩
  . obtain⟨bm,ob,b1,b2,b3,b4,b5,b6⟩:=Gr.T.bmain
    have nP:∀ y ∈ xs,bm ≠ (cp y.1).2:=λ y hy z=>by rw[z,hP y hy]at b3;cases b3;cases b4
    have hn:bm ∉ (xs.map λ x=>((cp x.1).2,x.2)).map (·.1):=λ z=>by
      obtain⟨y,hy,ez⟩:=hts _ z
      exact nP y hy ez
    refine⟨bm,ob,b1,b2,λ z=>?_,nP x hx,keep bm ob hn (λ z=>by rw[z,hobj]at b3;cases b3;exact absurd (show Value.type "list"=Value.type "module" from b4) (by decide)) b3,b4,b5,b6⟩
    obtain⟨o,es,ep,e,dd,_⟩:=Gr.T.g
    rw[<- z,b3]at e;cases e;rw[b6]at dd;cases dd
end L2
namespace L2
open PySem PySem.Spec PyProof.Rows PySem.W
noncomputable def Le(K K':Frag):Prop:=∀ a o,K.lookup a=some o->(∀ vs,o.data ≠ .fields vs)->K'.lookup a=some o
theorem QM{K:Frag}{ts:List Tb}{h:Heap}(X:K.In h)(hP:∀ P ∈ ts.map (·.1),h.get? P=some (tabObj #[])):Le K (Af K ts):=λ a o e n=>E6 (λ z=>by
  have:=X _ _ e
  rw[hP a z]at this
  cases this
  exact n _ rfl) e
section
variable{K K':Frag}(L:Le K K')
include L
theorem Le.ns{a:Addr}{n:Str}{r:Option Value}(e:nsIn K a n=some r):nsIn K' a n=some r:=by
  unfold nsIn at e ⊢
  split at e
  . next c d es k sl ho=>rw[L a _ ho (λ vs q=>by cases q)];exact e
  . cases e
theorem Le.own{n:Str}{c:Value}{r:Option Value}(e:ownIn K n c=some r):ownIn K' n c=some r:=by
  cases c with
  | ref a=>
    simp only[ownIn]at e ⊢
    split at e
    . next c d cd sl ho=>rw[L a _ ho (λ vs q=>by cases q)];exact L.ns e
    . cases e
  | _=>exact e
theorem Le.along{n:Str}:∀ {l:List Value} {r:Option Value},alongIn K n l=some r->alongIn K' n l=some r
  | [],_,e=>e
  | c :: l,r,e=>by
    simp only[alongIn]at e ⊢
    split at e
    . next v q=>rw[L.own q];exact e
    . next q=>rw[L.own q];exact Le.along e
    . cases e
theorem Le.find{t:Value}{n:Str}{r:Option Value}(e:findIn K t n=some r):findIn K' t n=some r:=by
  cases t with
  | ref a=>
    simp only[findIn]at e ⊢
    split at e
    . next c d cd sl ho=>rw[L a _ ho (λ vs q=>by cases q)];exact L.along e
    . cases e
  | _=>exact e
theorem Le.cls{C:Addr}{cd:ClassData}(e:clsIn K C=some cd):clsIn K' C=some cd:=by
  unfold clsIn at e ⊢
  split at e
  . next c d cd sl ho=>rw[L C _ ho (λ vs q=>by cases q)];exact e
  . cases e
theorem Le.mro{C:Addr}{b:Value}{r:Bool}(e:mroIn K C b=some r):mroIn K' C b=some r:=by
  obtain⟨cd,a,e⟩:=Option.bind_eq_some_iff.mp e
  unfold mroIn;rw[L.cls a];exact e
theorem Le.sub{t b:Value}{r:Bool}(e:subIn K t b=some r):subIn K' t b=some r:=by
  cases t with
  | ref a=>exact L.mro e
  | _=>exact e
theorem Le.typeC{C:Addr}{t:Value}(c:(clsIn K C).isSome=true)(e:typeIn K (.ref C)=some t):typeIn K' (.ref C)=some t:=by
  simp only[typeIn]at e ⊢
  unfold clsIn at c
  split at c
  . next x d cd sl ho=>rw[ho]at e;rw[L C _ ho (λ vs q=>by cases q)];exact e
  . cases c
theorem Le.kitCls{t c:Value}{r:Bool}(e:kitCls K t c=some r):kitCls K' t c=some r:=by
  unfold PySem.W.kitCls at e ⊢
  split at e
  . next C=>
    split at e
    . next q=>
      have q1:(clsIn K C).isSome=true:=by cases z:(clsIn K C).isSome <;> simp[z]at q ⊢
      have q2:typeIn K (.ref C)=some (.type "type"):=by rw[q1]at q;simpa using q
      obtain⟨cd,hc⟩:=Option.isSome_iff_exists.mp q1
      rw[if_pos (by rw[L.cls hc,L.typeC q1 q2];rfl)]
      exact L.sub e
    . cases e
  . next T=>
    split at e
    . next q=>rw[if_pos q];exact L.sub e
    . cases e
  . cases e
theorem Le.kitOne{t c:Value}{r:Bool}(e:kitOne K t c=some r):kitOne K' t c=some r:=by
  unfold PySem.W.kitOne at e ⊢
  split at e
  . next q=>rw[if_pos q];exact e
  . next q=>rw[if_neg q];exact L.kitCls e
theorem Le.kitAny{t:Value}:∀ {cs:List Value} {r:Bool},kitAny K t cs=some r->kitAny K' t cs=some r
  | [],_,e=>e
  | c :: cs,r,e=>by
    simp only[PySem.W.kitAny]at e ⊢
    split at e
    . next q=>rw[L.kitOne q];exact e
    . next q=>rw[L.kitOne q];exact Le.kitAny e
    . cases e
theorem Le.exm{t c:Value}{r:Bool}(e:exmOne K t c=some r):exmOne K' t c=some r:=by
  unfold PySem.W.exmOne at e ⊢
  split at e
  . next q=>
    rw[if_pos (by rw[L.sub (beq_iff_eq.mp q)];rfl)]
    exact L.kitCls e
  . cases e
theorem Le.noAttr{C:Addr}{f:Str}(e:DJ K C f):DJ K' C f:=L.find e
theorem Le.xi{C:Addr}(i:XI K C):XI K' C:=⟨L.find i.ca,i.gd,i.tk,L.mro i.mo⟩
theorem Le.xc{C fI:Addr}(hf:∃ o fd,K.lookup fI=some o/\o.data=.func fd)(c:XC K C fI):XC K' C fI:=by
  obtain⟨nm,q,N,bs,bm,sn,sub,ab,col,dd,k0,k1,k2,k3,k5,lk,ov⟩:=c.at_
  have lk':=L C _ lk (λ vs q=>by cases q)
  obtain⟨o,fd,e,d⟩:=hf
  have e':=L fI o e (λ vs q=>by rw[d]at q;cases q)
  refine⟨⟨nm,q,N,bs,bm,sn,sub,ab,col,dd,k0,k1,k2,k3,k5,lk',ov⟩,L.find c.init,?_,?_,L.find c.sa,L.find c.ga,L.find c.gx⟩
  . have:=c.fn
    unfold PySem.W.isFn PySem.W.typeIn at this ⊢
    dsimp only at this ⊢
    rw[e]at this;rw[e'];exact this
  . have:=c.kp
    unfold PySem.W.keepIn at this ⊢
    dsimp only at this ⊢
    rw[lk]at this;rw[lk']
    dsimp only at this ⊢
    unfold PySem.W.specialIn PySem.W.typeIn at this ⊢
    dsimp only at this ⊢
    rw[lk]at this;rw[lk'];exact this
end
end L2
namespace L2
open PySem PySem.Spec PyProof.Rows
structure Dj(m mn:MS):Prop where
  rt:∀ ls hd d x,m ls hd=some (.rt d,x)->mn ls hd=none
  nx:∀ ls hd fl x,m ls hd=some (fl,x)->(∀ d,fl ≠ .rt d)->mn ls hd=some (fl,x)
noncomputable def DjE(m mn:ME):Prop:=∀ ls hd z,m ls hd=some z->mn ls hd=none
noncomputable def DjA(m:ME)(mn:MA):Prop:=∀ ls hd z,m ls hd=some z->mn ls hd=none
noncomputable def DjF(X F:List D->Hd->Option (D × Hd)):Prop:=∀ ds hd z,X ds hd=some z->F ds hd=none
section
variable{m mn m1 n1 m2 n2:MS}{me mf:ME}{i:Nat}
theorem dj_norm:Dj (Dq m) m:=by
  constructor
  . intro ls hd d x e
    obtain⟨⟨fl,y⟩,e1,e2⟩:=Option.bind_eq_some_iff.mp e
    cases fl <;> cases e2
  . intro ls hd fl x e n
    obtain⟨⟨fl1,y⟩,e1,e2⟩:=Option.bind_eq_some_iff.mp e
    cases fl1 <;> cases e2 <;> exact e1
theorem FW(a:Dj m1 n1)(b:Dj m2 n2):Dj (AF m1 m2) (AF n1 n2):=by
  constructor
  . intro ls hd d x e
    obtain⟨⟨fl,y⟩,e1,e2⟩:=Option.bind_eq_some_iff.mp e
    unfold AF
    cases fl with
    | rt d1=>rw[a.rt _ _ _ _ e1];rfl
    | nx l=>rw[a.nx _ _ _ _ e1 (λ d q=>by cases q)];exact b.rt _ _ _ _ e2
    | bk l=>cases e2
    | ct l=>cases e2
  . intro ls hd fl x e n
    obtain⟨⟨fl1,y⟩,e1,e2⟩:=Option.bind_eq_some_iff.mp e
    unfold AF
    cases fl1 with
    | rt d1=>cases e2;exact absurd rfl (n d1)
    | nx l=>rw[a.nx _ _ _ _ e1 (λ d q=>by cases q)];exact b.nx _ _ _ _ e2 n
    | bk l=>cases e2;rw[a.nx _ _ _ _ e1 (λ d q=>by cases q)];rfl
    | ct l=>cases e2;rw[a.nx _ _ _ _ e1 (λ d q=>by cases q)];rfl
theorem Oj{c:MT}(a:Dj m1 n1)(b:Dj m2 n2):Dj (BT c m1 m2) (BT c n1 n2):=by
  constructor
  . intro ls hd d x e
    obtain⟨⟨q,y⟩,e1,e2⟩:=Option.bind_eq_some_iff.mp e
    unfold BT;rw[e1]
    dsimp only[Option.bind_some]at e2 ⊢
    cases q
    . exact b.rt _ _ _ _ e2
    . exact a.rt _ _ _ _ e2
  . intro ls hd fl x e n
    obtain⟨⟨q,y⟩,e1,e2⟩:=Option.bind_eq_some_iff.mp e
    unfold BT;rw[e1]
    dsimp only[Option.bind_some]at e2 ⊢
    cases q
    . exact b.nx _ _ _ _ e2 n
    . exact a.nx _ _ _ _ e2 n
theorem Il{ls:Ls}{hd:Hd}{fl:Fl}{x:Hd}(e:Ah me ls hd=some (fl,x))(n:∀ d,fl ≠ .rt d):False:=by
  obtain⟨⟨d,y⟩,e1,e2⟩:=Option.bind_eq_some_iff.mp e
  cases e2;exact n d rfl
theorem JR:Dj (Ah me) CK:=⟨λ _ _ _ _ _=>rfl,λ _ _ _ _ e n=>(Il e n).elim⟩
theorem Ik{ls:Ls}{hd:Hd}{d:D}{x:Hd}(e:Ah me ls hd=some (.rt d,x)):∃ z,me ls hd=some z:=by
  obtain⟨z,e1,e2⟩:=Option.bind_eq_some_iff.mp e
  exact⟨z,e1⟩
theorem K9(h:DjE me mf):Dj (Ah me) (Bl mf):=⟨λ ls hd d x e=>by obtain⟨z,q⟩:=Ik e;unfold Bl;rw[h _ _ _ q];rfl,λ _ _ _ _ e n=>(Il e n).elim⟩
theorem FV(h:DjE me mf):Dj (Ah me) (Ag i mf):=⟨λ ls hd d x e=>by obtain⟨z,q⟩:=Ik e;simp only[JP,h _ _ _ q,Option.bind_none],λ _ _ _ _ e n=>(Il e n).elim⟩
theorem CP{w:Nat}{X F:List D->Hd->Option (D × Hd)}{ma:MA}(h:DjF X F):DjE (AC w X ma) (AC w F ma):=by
  intro ls hd z e
  obtain⟨p,e1,e2⟩:=Option.bind_eq_some_iff.mp e
  unfold AC;rw[e1]
  dsimp only[Option.bind_some]at e2 ⊢
  split at e2
  . next c=>
    obtain⟨r,e3,_⟩:=Option.bind_eq_some_iff.mp e2
    rw[if_pos c,h _ _ _ e3];rfl
  . cases e2
theorem O1{mr:MA}(h:DjE me mf):DjA me (A1 mf mr):=λ ls hd z e=>by unfold A1;rw[h _ _ _ e];rfl
theorem MY{ma:ME}{mr:MA}(h:DjA me mr):DjA (Gi ma me) (A1 ma mr):=λ ls hd z e=>by
  obtain⟨p,e1,e2⟩:=Option.bind_eq_some_iff.mp e
  unfold A1;rw[e1]
  show(mr ls p.2).bind _=none
  rw[h _ _ _ e2];rfl
theorem Qo{mr:MA}(h:DjA me mr):DjE me (At mr):=λ ls hd z e=>by unfold At;rw[h _ _ _ e];rfl
theorem Gp{k n:Nat}(h:Dj m mn):DjF (mkX k n m) (mkF k n mn):=by
  intro ds hd z e
  unfold mkX at e
  unfold mkF
  split at e
  . next c=>
    rw[if_pos c]
    split at e
    . next d x q=>rw[h.rt _ _ _ _ q]
    . cases e
  . cases e
theorem LV{ls:Ls}{hd:Hd}{Q:Fl->Hd->Prop}(h:WS m ls hd λ fl x=>(∀ d,fl ≠ .rt d)/\Q fl x):WS (Dq m) ls hd Q:=by
  obtain⟨fl,x,e,n,q⟩:=h
  refine⟨fl,x,?_,q⟩
  unfold Dq;rw[e]
  cases fl with
  | rt d=>exact absurd rfl (n d)
  | _=>rfl
theorem Oy{ma:ME}{ls:Ls}{hd:Hd}{Q:D->Hd->Prop}(h:WE ma ls hd λ _ x=>WE me ls x Q):WE (Gi ma me) ls hd Q:=WP.bind h
theorem GP{k n:Nat}{ds:List D}{hd:Hd}{Q:D->Hd->Prop}(hl:ds.length=k)(h:WS m (ds.map some ++ List.replicate (n - k) none) hd λ f x=>∃ d,f=.rt d/\Q d x):WF (mkX k n m) ds hd Q:=by
  obtain⟨f,x,e,d,rfl,q⟩:=h
  refine⟨d,x,?_,q⟩
  unfold mkX;rw[if_pos hl,e]
theorem Op{ie is ifd:Nat}{mb mx:MS}{ls:Ls}{hd:Hd}{Q:Fl->Hd->Prop}(h:WS mb ls hd Q):WS (FM ie is ifd mb mx) ls hd Q:=by
  obtain⟨fl,x,e,q⟩:=h
  refine⟨fl,x,?_,q⟩
  unfold FM;rw[e]
theorem Oo{ie is ifd:Nat}{mb mx:MS}{ls:Ls}{hd:Hd}{Q:Fl->Hd->Prop}(dj:Dj mx mb)(l:ie < ls.length/\is < ls.length/\ifd < ls.length)
    (h:WS mx ls hd λ fl x=>∃ w,fl=.rt (.im w)/\Q (.nx ((List.replicate ls.length none).set ifd (some (.im (.tup [.str "no",w]))))) x):WS (FM ie is ifd mb mx) ls hd Q:=by
  obtain⟨fl,x,e,w,rfl,q⟩:=h
  refine⟨_,x,?_,q⟩
  unfold FM;rw[dj.rt _ _ _ _ e,if_pos l,e]
end
structure ExcW(P:Program)(w:World)(K:PySem.W.Frag)(mg:Str->Option Value)(base:Heap)(C B fI c1 c2 c3 c4 c5 c6 c7:Addr)(fdI:FuncData):Prop where
  xc:XC K C fI
  xi:XI K C
  na:DJ K C "word"
  mgC:mg "NoRule"=some (.ref C)
  mgB:mg "BenchError"=some (.ref B)
  ve:mg "ValueError"=none
  exm:PySem.W.exmOne K (.ref C) (.ref B)=some true
  kv:PySem.W.kitOne K (.ref C) (.type "ValueError")=some true
  k7:PySem.W.kitAny K (.ref C) ([c1,c2,c3,c4,c5,c6,c7].map Value.ref)=some false
  m1:mg "NoBack"=some (.ref c1)
  m2:mg "NoPaper"=some (.ref c2)
  m3:mg "NoRow"=some (.ref c3)
  m4:mg "NoText"=some (.ref c4)
  m5:mg "NoWish"=some (.ref c5)
  m6:mg "NoWork"=some (.ref c6)
  m7:mg "TooMany"=some (.ref c7)
  ini:FnOk P w K mg base CX0 1 fI fdI ["self","word"] (spI C "word")
  bd:Binds K fdI ["self","word"] []
section
variable{K:PySem.W.Frag}{X:Cx}{C B fI c1 c2 c3 c4 c5 c6 c7:Addr}{fdI:FuncData}
theorem Hj{p p1 pos:Pos}{j:Nat}{e:Expr}{te:TE}{me:ME}(E:ExcW X.prog X.w X.K X.mg X.base C B fI c1 c2 c3 c4 c5 c6 c7 fdI)(hr:Room j X.A)(he:QE K X.nox e te me)(hjk:2 <= j:=by decide)(hcalm:X.calm=true:=by rfl)(hg:Gl X "NoRule":=by rfl)
    (hst:starEach [e] X.env=(false,eval e X.env) :: starEach [] X.env:=by rfl) (hpl:(backTo p1 (starEach [] X.env)).any (·.1)=false:=by rfl) :
    QX C "word" K X (.Raise (some (.Call (.Name "NoRule" p) [e] [] p1)) none pos) (GT C "word" te) (Ah me):=NS E.xc E.ini hr E.bd E.mgC he hjk hcalm hg (by decide) hst hpl
theorem S7{ie is ifd:Nat}{n xs xf:Str}{body:List Stmt}{tb tx:TS}{mb mx:MS}{p1 p2 p3 p4 p5 p6 p7 p8 p9 p10 p11 p12 p13 p14 p15 p16 p17 p18 p19 p20 p21 pN pA pI q1 q2 q3 q4 q5 q6 q7 pB ph pos:Pos}{k1 k2 k3}(E:ExcW X.prog X.w X.K X.mg X.base C B fI c1 c2 c3 c4 c5 c6 c7 fdI)(bI:X.mg "isinstance"=none)
    (hb:QSs K X.nox body tb mb) (hx:QXs C "word" K X body tx mx) (n1:ie ≠ is) (n2:ie ≠ ifd) (n3:is ≠ ifd) (hN:X.N.Nodup)
    (i1:X.N[ie]? = some n) (i2:X.N[is]? = some xs) (i3:X.N[ifd]? = some xf) (l1:X.env.scope.names.lookup n=some .local:=by rfl) (l2:X.env.scope.names.lookup xs=some .local:=by rfl) (l3:X.env.scope.names.lookup xf=some .local:=by rfl) (hst:X.stack=X.env :: X.outer/\X.env.frame=some X.env.locals:=by exact⟨rfl,rfl⟩)
    (gB:Gl X "BenchError":=by rfl) (gI:Gl X "isinstance":=by rfl) (gV:Gl X "ValueError":=by rfl) (gN:Gl X "NoRule":=by rfl) (g1:Gl X "NoBack":=by rfl) (g2:Gl X "NoPaper":=by rfl) (g3:Gl X "NoRow":=by rfl) (g4:Gl X "NoText":=by rfl) (g5:Gl X "NoWish":=by rfl) (g6:Gl X "NoWork":=by rfl) (g7:Gl X "TooMany":=by rfl)
    (dn:(n == ("__debug__":Str))=false:=by decide) (dn2:(n == ("__classdict__":Str))=false:=by decide) (ds:(xs == ("__debug__":Str))=false:=by decide) (ds2:(xs == ("__classdict__":Str))=false:=by decide)
    (hba:attributeBase (.Name n p19) "word" X.env (eval (.Name n p19) X.env)=eval (.Name n p19) X.env:=by rfl)
    (sw1:swapsWith (.Call (.Name "isinstance" p2) [.Name n p3,.Tuple [.Name "NoBack" q1,.Name "NoPaper" q2,.Name "NoRow" q3,.Name "NoText" q4,.Name "NoWish" q5,.Name "NoWork" q6,.Name "TooMany" q7] k1 p4] [] p5) (some (.Name xs p1)) p6.line X.env=pure false:=by rfl) (sw2:swapsWith (.Tuple [.Constant (.str "no") k2 p18,.Attribute (.Name n p19) "word" p20] k3 p21) (some (.Name xf p17)) p16.line X.env=pure false:=by rfl) :
    QS K X (.Try body [.ExceptHandler (some (.Name "BenchError" pB)) (some n) [.Assign [.Name xs p1] (.Call (.Name "isinstance" p2) [.Name n p3,.Tuple [.Name "NoBack" q1,.Name "NoPaper" q2,.Name "NoRow" q3,.Name "NoText" q4,.Name "NoWish" q5,.Name "NoWork" q6,.Name "TooMany" q7] k1 p4] [] p5) p6,
      .If (.BoolOp .And [.Call (.Name "isinstance" p7) [.Name n p8,.Name "NoRule" p9] [] p10,.Call (.Name "isinstance" p11) [.Name n p12,.Name "ValueError" p13] [] p14,.UnaryOp .Not (.Name xs p15) pN] pA) [.Assign [.Name xf p17] (.Tuple [.Constant (.str "no") k2 p18,.Attribute (.Name n p19) "word" p20] k3 p21) p16] [] pI] ph] [] [] pos)
      (N0 C "word" ie tb tx (KY C "word" [c1,c2,c3,c4,c5,c6,c7] ie is ifd)) (FM ie is ifd mb mx):=by
  refine⟨SJ hst hb.p hx.p gB E.mgB E.exm hN i1 l1 (λ a=>?_),Rf hb.r hx.r n1 n2 n3⟩
  have pg:∀ {x:Str} {c:Addr} {q:Pos},Gl X x->X.mg x=some (.ref c)->(x == ("__debug__":Str))=false->PE (X.hand (.ref a)) (.Name x q) (tC (.ref c)):=λ g m d=>K0 (X:=X.hand (.ref a)) (v:=.ref _) g m rfl d
  exact Ps (X:=X.hand (.ref a)) (cs:=[c1,c2,c3,c4,c5,c6,c7]) E.xc E.xi E.na gI bI gV E.ve gN E.mgC
    (Am (pg g1 E.m1 (by decide)) (Am (pg g2 E.m2 (by decide)) (Am (pg g3 E.m3 (by decide)) (Am (pg g4 E.m4 (by decide)) (Am (pg g5 E.m5 (by decide)) (Am (pg g6 E.m6 (by decide)) (Am (pg g7 E.m7 (by decide)) Br)))))))
    (λ σ H Q h=>h) (by show 7 <= 1000;decide) E.k7 E.kv hN i1 i2 i3 l1 l2 l3 dn dn2 ds ds2 (by decide) hba sw1 sw2 rfl rfl
end
end L2
namespace L2
open PySem PySem.Spec PyProof.Rows
noncomputable def US(tn tx:TS):TS:=λ D σ H=>tn D.non σ H ∨ tx D σ H
noncomputable def Cn(mn mx:MS):MS:=λ ls hd=>match Dq mn ls hd with
  | some r=>some r
  | none=>mx ls hd
section
variable{C:Addr}{f:Str}{K:PySem.W.Frag}{X:Cx}{st:Stmt}{tn tx:TS}{mn mx:MS}
theorem Ga(h:QS K X.nox st tn mn)(hx:QX C f K X st tx mx):QX C f K X st (US tn tx) (Cn mn mx):=by
  constructor
  . intro pins s σ H D I q
    rcases q with q|q
    . exact Jv h.p pins s σ H D I q
    . exact hx.p pins s σ H D I q
  . intro ρ σ H hd ls E fl hd' hR hL hm hQ
    unfold Cn at hm
    split at hm
    . next r e=>cases hm;exact .inl (Ie h.r ρ σ H hd ls E fl hd' hR hL e hQ)
    . exact .inr (hx.r ρ σ H hd ls E fl hd' hR hL hm hQ)
theorem Gq(d:Dj mx mn):Dj (Cn mn mx) mn:=by
  constructor
  . intro ls hd d' x e
    unfold Cn at e
    split at e
    . next r q=>cases e;exact dj_norm.rt _ _ _ _ q
    . exact d.rt _ _ _ _ e
  . intro ls hd fl x e n
    unfold Cn at e
    split at e
    . next r q=>cases e;exact dj_norm.nx _ _ _ _ q n
    . exact d.nx _ _ _ _ e n
theorem Ou{ls:Ls}{hd:Hd}{Q:Fl->Hd->Prop}(h:WS mn ls hd λ fl x=>(∀ d,fl ≠ .rt d)/\Q fl x):WS (Cn mn mx) ls hd Q:=by
  obtain⟨fl,x,e,q⟩:=LV h
  exact⟨fl,x,by unfold Cn;rw[e],q⟩
theorem Fb{ls:Ls}{hd:Hd}{Q:Fl->Hd->Prop}(d:Dj mx mn)(h:WS mx ls hd λ fl x=>∃ d,fl=.rt d/\Q fl x):WS (Cn mn mx) ls hd Q:=by
  obtain⟨fl,x,e,d',rfl,q⟩:=h
  have z:=d.rt _ _ _ _ e
  refine⟨_,x,?_,q⟩
  unfold Cn Dq;rw[z];exact e
theorem FJ{rest:List Stmt}:QXs C f K X rest GU CK:=⟨λ _ _ _ _ _ _ h=>h.elim,Ig⟩
theorem GJ:Dj CK mn:=⟨(λ _ _ _ _ e=>nomatch e),(λ _ _ _ _ e=>nomatch e)⟩
end
end L2
namespace T56
open PySem L2
noncomputable def top(i:Nat):Stmt:=PySem.Challenge.pw_benchdays_k56_pair_sums.main.body.getD i (.Pass ⟨0,0,0,0⟩)
noncomputable abbrev B3:Stmt:=top 11
theorem sc_same_coming:FnScope ["works","coming"] ["works"] (AA B3):=⟨rfl,rfl,rfl,by decide +kernel,rfl,by decide +kernel,by decide +kernel⟩
@[reducible] noncomputable def Ex:MS:=(AF (Ag 1 (mOp gIx (mOp gIx (A2 0) (mC (.int 0))) (mC (.int 1))))
    (AF (BT (Dp (E9 LC (Bm 1 [1] (Cg (A2 0)) (AU 0) C1 (mOp gEq (mOp gIx (A2 0) (mC (.int 1))) (A2 1)))))
      (Ah (A2 1))
      BP)
    (Ah (mC .non))))
noncomputable def B5:List D->Hd->Option (D × Hd):=mkF 1 2 Ex
noncomputable abbrev B0:Stmt:=top 12
theorem sc_one_coming:FnScope ["works","coming"] ["works"] (AA B0):=⟨rfl,rfl,rfl,by decide +kernel,rfl,by decide +kernel,by decide +kernel⟩
@[reducible] noncomputable def FL:MS:=(AF (Ag 1 (AC 0 B5 (A1 (A2 0) A7)))
    (AF (BT (An (FN false (A2 1)))
      CK
      BP)
    (Ah (A2 1))))
noncomputable def B2:List D->Hd->Option (D × Hd):=mkF 1 2 FL
@[reducible] noncomputable def Ew:MS:=(AF (Dq (Ag 1 (AC 0 B5 (A1 (A2 0) A7))))
    (AF (BT (An (FN false (A2 1)))
      (Ah (mC (.str "coming")))
      (Dq BP)) CK))
noncomputable def Bu:List D->Hd->Option (D × Hd):=mkX 1 2 Ew
theorem Ez:DjF Bu B2:=Gp (FW dj_norm (FW (Oj JR dj_norm) GJ))
noncomputable abbrev AW:Stmt:=top 13
theorem CQ:FnScope ["works","word"] ["works","word"] (AA AW):=⟨rfl,rfl,rfl,by decide +kernel,rfl,by decide +kernel,by decide +kernel⟩
@[reducible] noncomputable def Cc:MS:=(BT (Dp (E9 HV (Bm 1 [1] (Cg (A2 0)) (AU 0) C1 (mOp gNe (mOp gIx (mOp gIx (A2 0) (mC (.int 2))) (mC (.int 0))) (A2 1)))))
      CK
      BP)
noncomputable def Al:List D->Hd->Option (D × Hd):=mkF 2 2 Cc
@[reducible] noncomputable def CV:MS:=(BT (Dp (E9 HV (Bm 1 [1] (Cg (A2 0)) (AU 0) C1 (mOp gNe (mOp gIx (mOp gIx (A2 0) (mC (.int 2))) (mC (.int 0))) (A2 1)))))
      (Ah (A2 1))
      (Dq BP))
noncomputable def Ay:List D->Hd->Option (D × Hd):=mkX 2 2 CV
theorem CW:DjF Ay Al:=Gp (Oj JR dj_norm)
noncomputable abbrev BK:Stmt:=top 14
theorem Ia:FnScope ["work"] ["work"] (AA BK):=⟨rfl,rfl,rfl,by decide +kernel,rfl,by decide +kernel,by decide +kernel⟩
@[reducible] noncomputable def Fw:MS:=(Ah (mOp gIx (mOp gIx (A2 0) (mC (.int 2))) (JG (mC (.int 1)))))
noncomputable def Bz:List D->Hd->Option (D × Hd):=mkF 1 1 Fw
noncomputable abbrev Ad:Stmt:=top 16
theorem sc_weighted_coming:FnScope ["works","coming"] ["works"] (AA Ad):=⟨rfl,rfl,rfl,by decide +kernel,rfl,by decide +kernel,by decide +kernel⟩
@[reducible] noncomputable def DR:MS:=(AF (Ag 1 (AC 0 B2 (A1 (A2 0) A7)))
    (AF (Bl (AC 0 Al (A1 (A2 0) (A1 (mC (.str "ends")) A7))))
    (Ah (A2 1))))
noncomputable def As:List D->Hd->Option (D × Hd):=mkF 1 2 DR
@[reducible] noncomputable def DH:MS:=(AF (Cn (Ag 1 (AC 0 B2 (A1 (A2 0) A7))) (Ah (AC 0 Bu (A1 (A2 0) A7))))
    (AF (Cn (Bl (AC 0 Al (A1 (A2 0) (A1 (mC (.str "ends")) A7)))) (Ah (AC 0 Ay (A1 (A2 0) (A1 (mC (.str "ends")) A7))))) CK))
noncomputable def BF:List D->Hd->Option (D × Hd):=mkX 1 2 DH
theorem DI:DjF BF As:=Gp (FW (Gq (FV (CP Ez))) (FW (Gq (K9 (CP CW))) GJ))
noncomputable abbrev B4:Stmt:=top 17
theorem sc_pair_sum_of:FnScope ["coming","lengths","weights","alone","pairs"] ["coming","lengths","weights"] (AA B4):=⟨rfl,rfl,rfl,by decide +kernel,rfl,by decide +kernel,by decide +kernel⟩
@[reducible] noncomputable def Ey:MS:=(AF (Ag 3 (E9 JK (Bm 2 [0] (JF (Ds (A2 1)) (Ds (A2 2))) (DM 2 (Aw (AU 0) (Aw (AU 1) DN))) C1 (mOp BJ (A2 1) (mOp Ab (A2 2) (A2 0))))))
    (AF (Ag 4 (ET 2 [] (Dr (A1 (mCB (f1 true CO) (A1 (A2 1) A7)) A7)) (AU 0) C1 (Dr (A1 (A2 0) A7)) (AU 1) C1 (At (A1 (A2 1) (A1 (A2 0) A7)))))
    (Ah (mOp Ab (A2 3) (E9 JK (Bm 2 [1,2] (Ds (A2 4)) (DM 2 (Aw (AU 0) (Aw (AU 1) DN))) C1 (mCB Fu (A1 (mOp BJ (mOp gIx (A2 2) (A2 0)) (mOp gIx (A2 3) (A2 1))) (A1 (mOp BJ (mOp gIx (A2 2) (A2 1)) (mOp gIx (A2 3) (A2 0))) A7)))))))))
noncomputable def Bf:List D->Hd->Option (D × Hd):=mkF 3 5 Ey
noncomputable abbrev BV:Stmt:=top 18
theorem sc_pair_sum:FnScope ["works","coming"] ["works"] (AA BV):=⟨rfl,rfl,rfl,by decide +kernel,rfl,by decide +kernel,by decide +kernel⟩
@[reducible] noncomputable def Gg:MS:=(AF (Ag 1 (AC 0 As (A1 (A2 0) A7)))
    (Ah (EU Bf (A1 (A2 1) (A1 (Cm (Bm 1 [] (Cg (A2 0)) (AU 0) C1 (mOp gIx (A2 0) (mC (.int 0))))) (A1 (Cm (Bm 1 [] (Cg (A2 0)) (AU 0) C1 (AC 0 Bz (A1 (A2 0) A7)))) A7))))))
noncomputable def Bj:List D->Hd->Option (D × Hd):=mkF 1 2 Gg
@[reducible] noncomputable def Fv:MS:=(AF (Cn (Ag 1 (AC 0 As (A1 (A2 0) A7))) (Ah (AC 0 BF (A1 (A2 0) A7)))) CK)
noncomputable def CG:List D->Hd->Option (D × Hd):=mkX 1 2 Fv
theorem Je:DjF CG Bj:=Gp (FW (Gq (FV (CP DI))) GJ)
noncomputable abbrev DD:Stmt:=top 20
theorem PD:FnScope ["_law_script"] ["_law_script"] (AA DD):=⟨rfl,rfl,rfl,by decide +kernel,rfl,by decide +kernel,by decide +kernel⟩
@[reducible] noncomputable def MC:MS:=(Ah (Cm (Ce (A1 (Cm (Gj (LB (A2 0) Bs (Cd (mC (.int 63)))))) (A1 (mC (.int 0)) (A1 (mC (.int 0)) (A1 (mC (.int 0)) A7)))))))
noncomputable def FZ:List D->Hd->Option (D × Hd):=mkF 1 1 MC
noncomputable abbrev By:Stmt:=top 21
theorem sc_pick:FnScope ["_law_tape_here","_law_many","_law_found","_law_at","_law_cell","_law_mixed"] ["_law_tape_here","_law_many"] (AA By):=⟨rfl,rfl,rfl,by decide +kernel,rfl,by decide +kernel,by decide +kernel⟩
@[reducible] noncomputable def MD:MS:=(AF (E7 (A2 0) (mC (.int 3)) (mOp Ab (mOp gIx (A2 0) (mC (.int 3))) (mC (.int 1))))
    (AF (BT (An (mOp gGt (mOp gIx (A2 0) (mC (.int 2))) (mC (.int 0))))
      (AF (Ag 2 (mOp Du (mOp gIx (A2 0) (mC (.int 2))) (A2 1)))
    (AF (E7 (A2 0) (mC (.int 2)) (mOp IK (mOp gIx (A2 0) (mC (.int 2))) (A2 1)))
    (Ah (A2 2))))
      BP)
    (AF (Ag 3 (mOp gIx (A2 0) (mC (.int 1))))
    (AF (E7 (A2 0) (mC (.int 1)) (mOp Ab (A2 3) (mC (.int 1))))
    (AF (Ag 4 (mIf (An (Eh true (mOp gIx (A2 0) (mC (.int 0))) (Ce A7))) (mOp gIx (mOp gIx (A2 0) (mC (.int 0))) (mOp Du (A2 3) (mCB (f1 true CO) (A1 (mOp gIx (A2 0) (mC (.int 0))) A7)))) (mC (.int 6))))
    (AF (BT (FP (An (mOp gGe (A2 4) (mOp Sw (mC (.int 10)) (mC (.int 18))))) (An (mOp gLt (A2 3) (mCB (f1 true CO) (A1 (mOp gIx (A2 0) (mC (.int 0))) A7)))))
      (AF (E7 (A2 0) (mC (.int 2)) (mOp IK (A2 4) (A2 1)))
    (Ah (mOp Du (A2 4) (A2 1))))
      BP)
    (AF (Ag 5 (mOp Du (mOp Ab (mOp Ab (mOp Du (A2 4) (mC (.int 2147483647))) (mOp BJ (mC (.int 40503)) (mOp gIx (A2 0) (mC (.int 3))))) (mC (.int 11))) (mC (.int 2147483629))))
    (AF (Ag 5 (mOp Du (mOp Ab (mOp Ab (mOp BJ (A2 5) (A2 5)) (mOp BJ (mC (.int 25717)) (mOp gIx (A2 0) (mC (.int 3))))) (mC (.int 3))) (mC (.int 2147483587))))
    (AF (Ag 5 (mOp Du (mOp Ab (mOp Ab (mOp BJ (A2 5) (A2 5)) (mOp BJ (mC (.int 16807)) (A2 5))) (mC (.int 1))) (mC (.int 2147483579))))
    (Ah (mOp Du (mOp IK (A2 5) (mC (.int 256))) (A2 1))))))))))))
noncomputable def AN:List D->Hd->Option (D × Hd):=mkF 2 6 MD
noncomputable abbrev CS:Stmt:=top 22
theorem sc_works:FnScope ["_law_tape_here","_law_many","_law_long","_law_heavy","_law_low","_law_coming","_law_found","_law_j","_law_length","_law_weight","_law_one","_law_small","_law_by"] ["_law_tape_here","_law_many"] (AA CS):=⟨rfl,rfl,rfl,by decide +kernel,rfl,by decide +kernel,by decide +kernel⟩
@[reducible] noncomputable def K3:MS:=(AF (FO (GH (Ce (A1 (At (A1 (mC (.int 20)) (A1 (mC (.int 10)) (A1 (mC (.int 0)) A7)))) (A1 (At (A1 (mC (.int 3)) (A1 (mC (.int 3)) (A1 (mC (.int 0)) A7)))) (A1 (At (A1 (mC (.int 20)) (A1 (mC (.int 2)) (A1 (mC (.int 0)) A7)))) (A1 (At (A1 (mC (.int 1000000)) (A1 (mC (.int 1000001)) (A1 (mC (.int 0)) A7)))) A7))))) (AC 2 AN (A1 (A2 0) (A1 (mC (.int 4)) A7)))) (DM 3 (Aw (AU 2) (Aw (AU 3) (Aw (AU 4) DN)))))
    (AF (BT (FP (An (mOp gEq (A2 2) (mC (.int 1000000)))) (An (mOp gEq (AC 2 AN (A1 (A2 0) (A1 (mC (.int 2)) A7))) (mC (.int 0)))))
      (FO (At (A1 (mC (.int 8)) (A1 (mC (.int 9)) (A1 (mC (.int 999992)) A7)))) (DM 3 (Aw (AU 2) (Aw (AU 3) (Aw (AU 4) DN)))))
      BP)
    (AF (Ag 5 (GH (Ce (A1 (mC (.int 0)) (A1 (AC 2 AN (A1 (A2 0) (A1 (mC (.int 61)) A7))) A7))) (AC 2 AN (A1 (A2 0) (A1 (mC (.int 2)) A7)))))
    (AF (Ag 6 (Cm (Ce A7)))
    (AF (DP (Dr (A1 (A2 1) A7)) (AU 7)
      (AF (C2 [8,9] (A1 (mOp Ab (mOp Ab (mC (.int 1)) (A2 4)) (AC 2 AN (A1 (A2 0) (A1 (A2 2) A7)))) (A1 (mOp Ab (A2 4) (AC 2 AN (A1 (A2 0) (A1 (A2 3) A7)))) A7)))
    (AF (BT (FP (An (mOp gGt (A2 7) (mC (.int 0)))) (An (mOp gEq (AC 2 AN (A1 (A2 0) (A1 (mC (.int 3)) A7))) (mC (.int 0)))))
      (AF (Ag 10 (mOp gIx (A2 6) (AC 2 AN (A1 (A2 0) (A1 (A2 7) A7)))))
    (AF (Ag 11 (Fm (mOp gLe (mOp BJ (mOp gIx (A2 10) (mC (.int 0))) (mC (.int 3))) (A2 2)) (mOp gLt (mOp BJ (mOp gIx (mOp gIx (A2 10) (mC (.int 2))) (mC (.int 1))) (mC (.int 3))) (A2 3))))
    (AF (Ag 12 (mIf (Dp (A2 11)) (mOp Ab (mC (.int 1)) (AC 2 AN (A1 (A2 0) (A1 (mC (.int 3)) A7)))) (mC (.int 1))))
    (C2 [8,9] (A1 (mOp BJ (mOp gIx (A2 10) (mC (.int 0))) (A2 12)) (A1 (mOp BJ (mOp gIx (mOp gIx (A2 10) (mC (.int 2))) (mC (.int 1))) (A2 12)) A7))))))
      BP)
    (Bl (mMt BS (A2 6) (A1 (At (A1 (A2 8) (A1 (A2 5) (A1 (At (A1 (mC (.str "ends")) (A1 (A2 9) A7))) A7)))) A7))))))
    (Ah (mCB (f1 true Dt) (A1 (A2 6) A7))))))))
noncomputable def Dd:List D->Hd->Option (D × Hd):=mkF 2 13 K3
noncomputable abbrev DE:Stmt:=top 23
theorem sc_cost:FnScope ["_law_tape_here","_law_due_here","_law_weight","_law_at","_law_told_here","_law_rows","_law_k","_law_costs"] ["_law_tape_here"] (AA DE):=⟨rfl,rfl,rfl,by decide +kernel,rfl,by decide +kernel,by decide +kernel⟩
@[reducible] noncomputable def MF:MS:=(AF (C2 [1,2] (A1 (mOp LL (AC 2 AN (A1 (A2 0) (A1 (mC (.int 500)) A7))) (mC (.int 99))) (A1 (AC 2 AN (A1 (A2 0) (A1 (mC (.int 10)) A7))) A7)))
    (AF (Fk 3 4 5 (A1 (mCB Fu (A1 (A2 1) (A1 (mC (.int 300)) A7))) (A1 (mC (.int 0)) (A1 (Cm (Ce A7)) A7))))
    (AF (DP (Dr (A1 (mOp Ab (mC (.int 1)) (AC 2 AN (A1 (A2 0) (A1 (mC (.int 5)) A7)))) A7)) (AU 6)
      (AF (Ag 3 (mOp Ab (mOp Ab (A2 3) (mC (.int 1))) (AC 2 AN (A1 (A2 0) (A1 (mC (.int 20)) A7)))))
    (AF (Ag 4 (mOp Ab (A2 4) (AC 2 AN (A1 (A2 0) (A1 (mC (.int 20)) A7)))))
    (Bl (mMt BS (A2 5) (A1 (At (A1 (A2 3) (A1 (A2 4) A7))) A7))))))
    (AF (Ag 7 (Cm (Ce (A1 (At (A1 (mC (.str "late")) (A1 (A2 1) A7))) (A1 (At (A1 (mC (.str "tardy")) (A1 (A2 1) (A1 (A2 2) A7)))) (A1 (At (A1 (mC (.str "miss")) (A1 (A2 1) (A1 (A2 2) A7)))) A7))))))
    (AF (Bl (mMt BS (A2 7) (A1 (At (A1 (mC (.str "steps")) (A1 (mCB (f1 true Dt) (A1 (A2 5) A7)) A7))) A7)))
    (Ah (mOp gIx (A2 7) (AC 2 AN (A1 (A2 0) (A1 (mC (.int 4)) A7))))))))))
noncomputable def Fa:List D->Hd->Option (D × Hd):=mkF 1 8 MF
noncomputable abbrev C7:Stmt:=top 24
theorem sc_unlike:FnScope ["_law_tape_here","_law_works_here","_law_at","_law_by","_law_length","_law_coming","_law_cost_here"] ["_law_tape_here","_law_works_here"] (AA C7):=⟨rfl,rfl,rfl,by decide +kernel,rfl,by decide +kernel,by decide +kernel⟩
@[reducible] noncomputable def JE:MS:=(AF (C2 [2,3] (A1 (AC 2 AN (A1 (A2 0) (A1 (mCB (f1 true CO) (A1 (A2 1) A7)) A7))) (A1 (mOp Ab (mC (.int 1)) (AC 2 AN (A1 (A2 0) (A1 (mC (.int 5)) A7)))) A7)))
    (AF (FO (mOp gIx (A2 1) (A2 2)) (DM 3 (Aw (AU 4) (Aw (AU 5) (Aw (AU 6) DN)))))
    (Ah (mOp Ab (mOp LN (E8 (A2 1) Bs (Cd (A2 2))) (At (A1 (At (A1 (A2 4) (A1 (mOp Du (mOp Ab (A2 5) (A2 3)) (mC (.int 61))) (A1 (A2 6) A7)))) A7))) (E8 (A2 1) (Cd (mOp Ab (A2 2) (mC (.int 1)))) Bs)))))
noncomputable def Cr:List D->Hd->Option (D × Hd):=mkF 2 7 JE
noncomputable abbrev CT:Stmt:=top 25
theorem sc_other:FnScope ["_law_tape_here","_law_works_here","_law_at","_law_cost_here","_law_one"] ["_law_tape_here","_law_works_here"] (AA CT):=⟨rfl,rfl,rfl,by decide +kernel,rfl,by decide +kernel,by decide +kernel⟩
@[reducible] noncomputable def K4:MS:=(AF (C2 [2,3] (A1 (AC 2 AN (A1 (A2 0) (A1 (mCB (f1 true CO) (A1 (A2 1) A7)) A7))) (A1 (AC 2 Fa (A1 (A2 0) A7)) A7)))
    (AF (Ag 4 (At (A1 (mOp gIx (mOp gIx (A2 1) (A2 2)) (mC (.int 0))) (A1 (mOp gIx (mOp gIx (A2 1) (A2 2)) (mC (.int 1))) (A1 (A2 3) A7)))))
    (Ah (mOp Ab (mOp LN (E8 (A2 1) Bs (Cd (A2 2))) (At (A1 (A2 4) A7))) (E8 (A2 1) (Cd (mOp Ab (A2 2) (mC (.int 1)))) Bs)))))
noncomputable def EZ:List D->Hd->Option (D × Hd):=mkF 2 5 K4
noncomputable abbrev E2:Stmt:=top 26
theorem sc_due:FnScope ["_law_works_here","_law_left","_law_end","_law_found","_law_turn","_law_one_ahead","_law_one"] ["_law_works_here"] (AA E2):=⟨rfl,rfl,rfl,by decide +kernel,rfl,by decide +kernel,by decide +kernel⟩
@[reducible] noncomputable def Od:MS:=(AF (BT (An (mOp gGt (Dc (Bm 3 [] (Cg (A2 0)) (DM 3 (Aw (AU 0) (Aw (AU 1) (Aw (AU 2) DN)))) C1 (A2 1))) (mC (.int 1))))
      (Ah (At (A1 (mC (.str "no")) (A1 (mC (.str "coming")) A7))))
      BP)
    (AF (BT (An (HQ false (mC (.bl false)) (Bm 3 [] (Cg (A2 0)) (DM 3 (Aw (AU 0) (Aw (AU 1) (Aw (AU 2) DN)))) C1 (mOp gEq (mOp gIx (A2 2) (mC (.int 0))) (mC (.str "ends"))))))
      (Ah (At (A1 (mC (.str "no")) (A1 (mC (.str "ends")) A7))))
      BP)
    (AF (Ag 1 (Cm (Gk (A2 0))))
    (AF (C2 [2,3] (A1 (mOp gIx (mOp gIx (A2 0) (mC (.int 0))) (mC (.int 1))) (A1 (mC (.int 0)) A7)))
    (AF (DP (Dr (A1 (mCB (f1 true CO) (A1 (A2 0) A7)) A7)) (AU 4)
      (ER (AF (Ag 5 (mOp gIx (A2 1) (mC (.int 0))))
    (AF (DP (Ds (A2 1)) (AU 6)
      (BT (An (mOp gGt (mOp BJ (mOp gIx (mOp gIx (A2 6) (mC (.int 2))) (mC (.int 1))) (mOp gIx (A2 5) (mC (.int 0)))) (mOp BJ (mOp gIx (mOp gIx (A2 5) (mC (.int 2))) (mC (.int 1))) (mOp gIx (A2 6) (mC (.int 0))))))
      (Ag 5 (A2 6))
      BP))
    (AF (Bl (mMt Eo (A2 1) (A1 (A2 5) A7)))
    (AF (Ag 2 (mOp Ab (A2 2) (mOp gIx (A2 5) (mC (.int 0)))))
    (Ag 3 (mOp Ab (A2 3) (mOp BJ (mOp gIx (mOp gIx (A2 5) (mC (.int 2))) (mC (.int 1))) (A2 2))))))))))
    (Ah (At (A1 (mC (.str "told")) (A1 (A2 3) A7)))))))))
noncomputable def Cz:List D->Hd->Option (D × Hd):=mkF 1 7 Od
noncomputable abbrev DC:Stmt:=top 27
theorem sc_told:FnScope ["_law_works_here","_law_found","e","_law_strange"] ["_law_works_here"] (AA DC):=⟨rfl,rfl,rfl,by decide +kernel,rfl,by decide +kernel,by decide +kernel⟩
@[reducible] noncomputable def MB:MS:=(AF (Ag 1 (At (A1 (mC (.str "other")) A7)))
    (AF (FM 2 3 1 (Ag 1 (At (A1 (mC (.str "told")) (A1 (AC 0 Bj (A1 (A2 0) A7)) A7))))
      (Cn (Ag 1 (At (A1 (mC (.str "told")) (A1 (AC 0 Bj (A1 (A2 0) A7)) A7)))) (Ah (Gi (mC (.str "told")) (AC 0 CG (A1 (A2 0) A7))))))
    (Ah (A2 1))))
noncomputable def DK:List D->Hd->Option (D × Hd):=mkF 1 4 MB
noncomputable abbrev Cu:Stmt:=top 28
theorem sc_law:FnScope ["_law_script","_law_tape_here","_law_turn","_law_works_here","_law_unlike_here","_law_other_here","_law_thing"] ["_law_script"] (AA Cu):=⟨rfl,rfl,rfl,by decide +kernel,rfl,by decide +kernel,by decide +kernel⟩
@[reducible] noncomputable def Oc:MS:=(AF (Ag 1 (EU FZ (A1 (A2 0) A7)))
    (AF (DP (Dr (A1 (mC (.int 3)) A7)) (AU 2)
      (ER (AF (Ag 3 (AC 2 Dd (A1 (A2 1) (A1 (mOp Ab (mC (.int 1)) (AC 2 AN (A1 (A2 1) (A1 (mC (.int 8)) A7)))) A7))))
    (AF (C2 [4,5] (A1 (AC 2 Cr (A1 (A2 1) (A1 (A2 3) A7))) (A1 (AC 2 EZ (A1 (A2 1) (A1 (A2 3) A7))) A7)))
    (DP (JH (Ce (A1 (A2 3) (A1 (A2 4) (A1 (A2 5) (A1 (AC 2 Cr (A1 (A2 1) (A1 (A2 5) A7))) (A1 (A2 3) A7))))))) (AU 6)
      (ER (BT (An (mOp gNe (mCB En (A1 (AC 0 DK (A1 (A2 6) A7)) A7)) (mCB En (A1 (AC 0 Cz (A1 (A2 6) A7)) A7))))
      (Ah (mC (.bl false)))
      BP)))))))
    (Ah (mC (.bl true)))))
noncomputable def F_law:List D->Hd->Option (D × Hd):=mkF 1 7 Oc
section
variable{P:Program}{w:World}{K:PySem.W.Frag}{mg:Str->Option Value}{base:Heap}
theorem ok_same_coming{f_same_coming:Addr}{d_same_coming:FuncData}(DA:DefAt K mg "same_coming" B3 f_same_coming d_same_coming ["works"]) (B:BltA mg):FnOk P w K mg base CX0 1 f_same_coming d_same_coming ["works"] (spF K 1 B5):=by
  refine BD (N:=["works","coming"]) (m:=Ex) DA sc_same_coming λ cdv A outer s H E hr=>?_
  exact⟨_,(A9 K (AZ K (i:=1) sc_same_coming.nd rfl (by first|exact Or.inl rfl|exact Or.inr rfl) (AM K (AM K (qv K 0) (A5 K)) (A5 K)))
    (A9 K (CZ K (Ef K (Gc K (Mh K rfl) Ro B.all L2.bt_all (CD K (loc:=["work"]) (fr:=["coming"]) (ix:=[1]) rfl ⟨rfl,by decide +kernel,rfl,rfl,rfl,by decide +kernel⟩ (Dk K (qv K 0)) (λ _ _ _=>(AQ K (i:=0) (show(["work","coming"]:List Str).Nodup from by decide +kernel) rfl (by first|exact Or.inl rfl|exact Or.inr rfl))) (λ _ _ _=>(Bq K)) (λ _ _ _=>(EN K ((Ge).or (EQ K hr.units)) (AJ FG FH) (AM K (qv K 0) (A5 K)) (qv K 1))))))
      (AO K (B1 K (qv K 1)))
      (Bp K))
    (AO K (B1 K (SC K)))))⟩
theorem okx_one_coming{f_one_coming f_same_coming:Addr}{d_one_coming d_same_coming:FuncData}(DA:DefAt K mg "one_coming" B0 f_one_coming d_one_coming ["works"])(D_same_coming:DefAt K mg "same_coming" B3 f_same_coming d_same_coming ["works"])(G_same_coming:FnOk P w K mg base CX0 1 f_same_coming d_same_coming ["works"] (spF K 1 B5)){C Bc fI c1 c2 c3 c4 c5 c6 c7:Addr}{fdI:FuncData}(EX:ExcW P w K mg base C Bc fI c1 c2 c3 c4 c5 c6 c7 fdI) (B:BltA mg):FnOk P w K mg base (CXN C P w) 3 f_one_coming d_one_coming ["works"] (spX C "word" K 1 Bu):=by
  refine okX (N:=["works","coming"]) (m:=Ew) DA sc_one_coming λ cdv A outer s H E hr=>?_
  exact⟨_,(Dh (Pi (AZ K (i:=1) sc_one_coming.nd rfl (by first|exact Or.inl rfl|exact Or.inr rfl) (AH K 0 G_same_coming hr D_same_coming (A0 K (qv K 0) (A6 K)) AK)))
    (Dh (OT (Lv K (qv K 1))
      (Ff (Hj EX hr (BA K)))
      Jr) FJ))⟩
theorem ok_one_coming{f_one_coming f_same_coming:Addr}{d_one_coming d_same_coming:FuncData}(DA:DefAt K mg "one_coming" B0 f_one_coming d_one_coming ["works"])(D_same_coming:DefAt K mg "same_coming" B3 f_same_coming d_same_coming ["works"])(G_same_coming:FnOk P w K mg base CX0 1 f_same_coming d_same_coming ["works"] (spF K 1 B5))(B:BltA mg):FnOk P w K mg base CX0 2 f_one_coming d_one_coming ["works"] (spF K 1 B2):=by
  refine BD (N:=["works","coming"]) (m:=FL) DA sc_one_coming λ cdv A outer s H E hr=>?_
  exact⟨_,(A9 K (AZ K (i:=1) sc_one_coming.nd rfl (by first|exact Or.inl rfl|exact Or.inr rfl) (AH K 0 G_same_coming hr D_same_coming (A0 K (qv K 0) (A6 K)) AK))
    (A9 K (CZ K (Lv K (qv K 1))
      (AO K (Ix K))
      (Bp K))
    (AO K (B1 K (qv K 1)))))⟩
theorem okx_refuse_other_costs{f_refuse_other_costs:Addr}{d_refuse_other_costs:FuncData}(DA:DefAt K mg "refuse_other_costs" AW f_refuse_other_costs d_refuse_other_costs ["works","word"]) {C Bc fI c1 c2 c3 c4 c5 c6 c7:Addr}{fdI:FuncData}(EX:ExcW P w K mg base C Bc fI c1 c2 c3 c4 c5 c6 c7 fdI) (B:BltA mg):FnOk P w K mg base (CXN C P w) 3 f_refuse_other_costs d_refuse_other_costs ["works","word"] (spX C "word" K 2 Ay):=by
  refine okX (N:=["works","word"]) (m:=CV) DA CQ λ cdv A outer s H E hr=>?_
  exact⟨_,(Ff (OT (Ef K (Gc K (Hs K rfl) Lp B.any L2.bt_any (CD K (loc:=["work"]) (fr:=["word"]) (ix:=[1]) rfl ⟨rfl,by decide +kernel,rfl,rfl,rfl,by decide +kernel⟩ (Dk K (qv K 0)) (λ _ _ _=>(AQ K (i:=0) (show(["work","word"]:List Str).Nodup from by decide +kernel) rfl (by first|exact Or.inl rfl|exact Or.inr rfl))) (λ _ _ _=>(Bq K)) (λ _ _ _=>(EN K ((Kx).or (Fi K hr.units)) (AJ Ip Iq) (AM K (AM K (qv K 0) (A5 K)) (A5 K)) (qv K 1))))))
      (Ff (Hj EX hr (qv K 1)))
      Jr))⟩
theorem ok_refuse_other_costs{f_refuse_other_costs:Addr}{d_refuse_other_costs:FuncData}(DA:DefAt K mg "refuse_other_costs" AW f_refuse_other_costs d_refuse_other_costs ["works","word"]) (B:BltA mg):FnOk P w K mg base CX0 1 f_refuse_other_costs d_refuse_other_costs ["works","word"] (spF K 2 Al):=by
  refine BD (N:=["works","word"]) (m:=Cc) DA CQ λ cdv A outer s H E hr=>?_
  exact⟨_,(AO K (CZ K (Ef K (Gc K (Hs K rfl) Lp B.any L2.bt_any (CD K (loc:=["work"]) (fr:=["word"]) (ix:=[1]) rfl ⟨rfl,by decide +kernel,rfl,rfl,rfl,by decide +kernel⟩ (Dk K (qv K 0)) (λ _ _ _=>(AQ K (i:=0) (show(["work","word"]:List Str).Nodup from by decide +kernel) rfl (by first|exact Or.inl rfl|exact Or.inr rfl))) (λ _ _ _=>(Bq K)) (λ _ _ _=>(EN K ((Kx).or (Fi K hr.units)) (AJ Ip Iq) (AM K (AM K (qv K 0) (A5 K)) (A5 K)) (qv K 1))))))
      (AO K (Ix K))
      (Bp K)))⟩
theorem ok_weight_of{f_weight_of:Addr}{d_weight_of:FuncData}(DA:DefAt K mg "weight_of" BK f_weight_of d_weight_of ["work"]) (B:BltA mg):FnOk P w K mg base CX0 1 f_weight_of d_weight_of ["work"] (spF K 1 Bz):=by
  refine BD (N:=["work"]) (m:=Fw) DA Ia λ cdv A outer s H E hr=>?_
  exact⟨_,(AO K (B1 K (AM K (AM K (qv K 0) (A5 K)) (SD K (A5 K)))))⟩
theorem okx_weighted_coming{f_weighted_coming f_one_coming f_refuse_other_costs:Addr}{d_weighted_coming d_one_coming d_refuse_other_costs:FuncData}(DA:DefAt K mg "weighted_coming" Ad f_weighted_coming d_weighted_coming ["works"])(D_one_coming:DefAt K mg "one_coming" B0 f_one_coming d_one_coming ["works"])(G_one_coming:FnOk P w K mg base CX0 2 f_one_coming d_one_coming ["works"] (spF K 1 B2))(D_refuse_other_costs:DefAt K mg "refuse_other_costs" AW f_refuse_other_costs d_refuse_other_costs ["works","word"])(G_refuse_other_costs:FnOk P w K mg base CX0 1 f_refuse_other_costs d_refuse_other_costs ["works","word"] (spF K 2 Al)){C Bc fI c1 c2 c3 c4 c5 c6 c7:Addr}{fdI:FuncData}(EX:ExcW P w K mg base C Bc fI c1 c2 c3 c4 c5 c6 c7 fdI)(GX_one_coming:FnOk P w K mg base (CXN C P w) 3 f_one_coming d_one_coming ["works"] (spX C "word" K 1 Bu))(GX_refuse_other_costs:FnOk P w K mg base (CXN C P w) 3 f_refuse_other_costs d_refuse_other_costs ["works","word"] (spX C "word" K 2 Ay))(B:BltA mg):FnOk P w K mg base (CXN C P w) 4 f_weighted_coming d_weighted_coming ["works"] (spX C "word" K 1 BF):=by
  refine okX (N:=["works","coming"]) (m:=DH) DA sc_weighted_coming λ cdv A outer s H E hr=>?_
  exact⟨_,(Dh (Ga (AZ K (i:=1) sc_weighted_coming.nd rfl (by first|exact Or.inl rfl|exact Or.inr rfl) (AH K 0 G_one_coming hr D_one_coming (A0 K (qv K 0) (A6 K)) AK)) (Iv (E3 0 GX_one_coming hr D_one_coming (A0 K (qv K 0) (A6 K)) Fj)))
    (Dh (Ga (DZ K (AH K 0 G_refuse_other_costs hr D_refuse_other_costs (A0 K (qv K 0) (A0 K (BA K) (A6 K))) AK)) (Pj (E3 0 GX_refuse_other_costs hr D_refuse_other_costs (A0 K (qv K 0) (A0 K (BA K) (A6 K))) Fj))) FJ))⟩
theorem ok_weighted_coming{f_weighted_coming f_one_coming f_refuse_other_costs:Addr}{d_weighted_coming d_one_coming d_refuse_other_costs:FuncData}(DA:DefAt K mg "weighted_coming" Ad f_weighted_coming d_weighted_coming ["works"])(D_one_coming:DefAt K mg "one_coming" B0 f_one_coming d_one_coming ["works"])(G_one_coming:FnOk P w K mg base CX0 2 f_one_coming d_one_coming ["works"] (spF K 1 B2))(D_refuse_other_costs:DefAt K mg "refuse_other_costs" AW f_refuse_other_costs d_refuse_other_costs ["works","word"])(G_refuse_other_costs:FnOk P w K mg base CX0 1 f_refuse_other_costs d_refuse_other_costs ["works","word"] (spF K 2 Al))(B:BltA mg):FnOk P w K mg base CX0 3 f_weighted_coming d_weighted_coming ["works"] (spF K 1 As):=by
  refine BD (N:=["works","coming"]) (m:=DR) DA sc_weighted_coming λ cdv A outer s H E hr=>?_
  exact⟨_,(A9 K (AZ K (i:=1) sc_weighted_coming.nd rfl (by first|exact Or.inl rfl|exact Or.inr rfl) (AH K 0 G_one_coming hr D_one_coming (A0 K (qv K 0) (A6 K)) AK))
    (A9 K (DZ K (AH K 0 G_refuse_other_costs hr D_refuse_other_costs (A0 K (qv K 0) (A0 K (BA K) (A6 K))) AK))
    (AO K (B1 K (qv K 1)))))⟩
theorem ok_pair_sum_of{f_pair_sum_of:Addr}{d_pair_sum_of:FuncData}(DA:DefAt K mg "pair_sum_of" B4 f_pair_sum_of d_pair_sum_of ["coming","lengths","weights"]) (B:BltA mg):FnOk P w K mg base CX0 1 f_pair_sum_of d_pair_sum_of ["coming","lengths","weights"] (spF K 3 Bf):=by
  refine BD (N:=["coming","lengths","weights","alone","pairs"]) (m:=Ey) DA sc_pair_sum_of λ cdv A outer s H E hr=>?_
  exact⟨_,(A9 K (AZ K (i:=3) sc_pair_sum_of.nd rfl (by first|exact Or.inl rfl|exact Or.inr rfl) (Gc K ((Hq K rfl).or (Gu K rfl)) Lo B.sum L2.bt_sum (CD K (loc:=["length","weight"]) (fr:=["coming"]) (ix:=[0]) rfl ⟨rfl,by decide +kernel,rfl,rfl,rfl,by decide +kernel⟩ (S9 K B.zip (Js K (qv K 1)) (Js K (qv K 2))) (λ _ _ _=>(Dl K (n:=2) rfl (Aq K (AQ K (i:=0) (show(["length","weight","coming"]:List Str).Nodup from by decide +kernel) rfl (by first|exact Or.inl rfl|exact Or.inr rfl)) (Aq K (AQ K (i:=1) (show(["length","weight","coming"]:List Str).Nodup from by decide +kernel) rfl (by first|exact Or.inl rfl|exact Or.inr rfl)) (Cj K))))) (λ _ _ _=>(Bq K)) (λ _ _ _=>(AI K BZ BY (qv K 1) (AI K ((Ak).or (AR K)) (AJ Ai AY) (qv K 2) (qv K 0)))))))
    (A9 K (by first|exact NT K (i:=4) (loc:=["j","i"]) (fr:=[]) (ix:=[]) sc_pair_sum_of.nd rfl rfl rfl ⟨rfl,by decide +kernel,rfl,rfl,rfl,by decide +kernel⟩ (CU K B.range (A0 K (Ca K (CA K) (Ee Df) B.len L2.bt_len (A0 K (qv K 1) (A6 K))) (A6 K))) (λ _ _ _=>(AQ K (i:=0) (show(["j","i"]:List Str).Nodup from by decide +kernel) rfl (by first|exact Or.inl rfl|exact Or.inr rfl))) (λ _ _ _=>(Bq K)) (λ _ _ _=>(CU K B.range (A0 K (qv K 0) (A6 K)))) (λ _ _ _=>(AQ K (i:=1) (show(["j","i"]:List Str).Nodup from by decide +kernel) rfl (by first|exact Or.inl rfl|exact Or.inr rfl))) (λ _ _ _=>(Bq K)) (λ _ _ _=>(Au K (A0 K (qv K 1) (A0 K (qv K 0) (A6 K)))))|exact AZ K (i:=4) sc_pair_sum_of.nd rfl (by first|exact Or.inl rfl|exact Or.inr rfl) (J0 K (loc:=["j","i"]) (fr:=[]) (ix:=[]) rfl ⟨rfl,by decide +kernel,rfl,rfl,rfl,by decide +kernel⟩ (CU K B.range (A0 K (Ca K (CA K) (Ee Df) B.len L2.bt_len (A0 K (qv K 1) (A6 K))) (A6 K))) (λ _ _ _=>(AQ K (i:=0) (show(["j","i"]:List Str).Nodup from by decide +kernel) rfl (by first|exact Or.inl rfl|exact Or.inr rfl))) (λ _ _ _=>(Bq K)) (λ _ _ _=>(CU K B.range (A0 K (qv K 0) (A6 K)))) (λ _ _ _=>(AQ K (i:=1) (show(["j","i"]:List Str).Nodup from by decide +kernel) rfl (by first|exact Or.inl rfl|exact Or.inr rfl))) (λ _ _ _=>(Bq K)) (λ _ _ _=>(Au K (A0 K (qv K 1) (A0 K (qv K 0) (A6 K)))))))
    (AO K (B1 K (AI K ((Ak).or (AR K)) (AJ Ai AY) (qv K 3) (Gc K ((Hq K rfl).or (Gu K rfl)) Lo B.sum L2.bt_sum (CD K (loc:=["i","j"]) (fr:=["lengths","weights"]) (ix:=[1,2]) rfl ⟨rfl,by decide +kernel,rfl,rfl,rfl,by decide +kernel⟩ (Jt K (qv K 4)) (λ _ _ _=>(Dl K (n:=2) rfl (Aq K (AQ K (i:=0) (show(["i","j","lengths","weights"]:List Str).Nodup from by decide +kernel) rfl (by first|exact Or.inl rfl|exact Or.inr rfl)) (Aq K (AQ K (i:=1) (show(["i","j","lengths","weights"]:List Str).Nodup from by decide +kernel) rfl (by first|exact Or.inl rfl|exact Or.inr rfl)) (Cj K))))) (λ _ _ _=>(Bq K)) (λ _ _ _=>(Ca K (Hr rfl) Jl B.min L2.bt_min (A0 K (AI K BZ BY (AM K (qv K 2) (qv K 0)) (AM K (qv K 3) (qv K 1))) (A0 K (AI K BZ BY (AM K (qv K 2) (qv K 1)) (AM K (qv K 3) (qv K 0))) (A6 K))))))))))))⟩
theorem okx_pair_sum{f_pair_sum f_weight_of f_weighted_coming f_pair_sum_of:Addr}{d_pair_sum d_weight_of d_weighted_coming d_pair_sum_of:FuncData}(DA:DefAt K mg "pair_sum" BV f_pair_sum d_pair_sum ["works"])(D_weight_of:DefAt K mg "weight_of" BK f_weight_of d_weight_of ["work"])(G_weight_of:FnOk P w K mg base CX0 1 f_weight_of d_weight_of ["work"] (spF K 1 Bz))(D_weighted_coming:DefAt K mg "weighted_coming" Ad f_weighted_coming d_weighted_coming ["works"])(G_weighted_coming:FnOk P w K mg base CX0 3 f_weighted_coming d_weighted_coming ["works"] (spF K 1 As))(D_pair_sum_of:DefAt K mg "pair_sum_of" B4 f_pair_sum_of d_pair_sum_of ["coming","lengths","weights"])(G_pair_sum_of:FnOk P w K mg base CX0 1 f_pair_sum_of d_pair_sum_of ["coming","lengths","weights"] (spF K 3 Bf)){C Bc fI c1 c2 c3 c4 c5 c6 c7:Addr}{fdI:FuncData}(EX:ExcW P w K mg base C Bc fI c1 c2 c3 c4 c5 c6 c7 fdI)(GX_weighted_coming:FnOk P w K mg base (CXN C P w) 4 f_weighted_coming d_weighted_coming ["works"] (spX C "word" K 1 BF))(B:BltA mg):FnOk P w K mg base (CXN C P w) 5 f_pair_sum d_pair_sum ["works"] (spX C "word" K 1 CG):=by
  refine okX (N:=["works","coming"]) (m:=Fv) DA sc_pair_sum λ cdv A outer s H E hr=>?_
  exact⟨_,(Dh (Ga (AZ K (i:=1) sc_pair_sum.nd rfl (by first|exact Or.inl rfl|exact Or.inr rfl) (AH K 0 G_weighted_coming hr D_weighted_coming (A0 K (qv K 0) (A6 K)) AK)) (Iv (E3 0 GX_weighted_coming hr D_weighted_coming (A0 K (qv K 0) (A6 K)) Fj))) FJ)⟩
theorem ok_pair_sum{f_pair_sum f_weight_of f_weighted_coming f_pair_sum_of:Addr}{d_pair_sum d_weight_of d_weighted_coming d_pair_sum_of:FuncData}(DA:DefAt K mg "pair_sum" BV f_pair_sum d_pair_sum ["works"])(D_weight_of:DefAt K mg "weight_of" BK f_weight_of d_weight_of ["work"])(G_weight_of:FnOk P w K mg base CX0 1 f_weight_of d_weight_of ["work"] (spF K 1 Bz))(D_weighted_coming:DefAt K mg "weighted_coming" Ad f_weighted_coming d_weighted_coming ["works"])(G_weighted_coming:FnOk P w K mg base CX0 3 f_weighted_coming d_weighted_coming ["works"] (spF K 1 As))(D_pair_sum_of:DefAt K mg "pair_sum_of" B4 f_pair_sum_of d_pair_sum_of ["coming","lengths","weights"])(G_pair_sum_of:FnOk P w K mg base CX0 1 f_pair_sum_of d_pair_sum_of ["coming","lengths","weights"] (spF K 3 Bf))(B:BltA mg):FnOk P w K mg base CX0 4 f_pair_sum d_pair_sum ["works"] (spF K 1 Bj):=by
  refine BD (N:=["works","coming"]) (m:=Gg) DA sc_pair_sum λ cdv A outer s H E hr=>?_
  exact⟨_,(A9 K (AZ K (i:=1) sc_pair_sum.nd rfl (by first|exact Or.inl rfl|exact Or.inr rfl) (AH K 0 G_weighted_coming hr D_weighted_coming (A0 K (qv K 0) (A6 K)) AK))
    (AO K (B1 K (J1 K G_pair_sum_of hr D_pair_sum_of (A0 K (qv K 1) (A0 K (DG K (CD K (loc:=["work"]) (fr:=[]) (ix:=[]) rfl ⟨rfl,by decide +kernel,rfl,rfl,rfl,by decide +kernel⟩ (Dk K (qv K 0)) (λ _ _ _=>(AQ K (i:=0) (show(["work"]:List Str).Nodup from by decide +kernel) rfl (by first|exact Or.inl rfl|exact Or.inr rfl))) (λ _ _ _=>(Bq K)) (λ _ _ _=>(AM K (qv K 0) (A5 K))))) (A0 K (DG K (CD K (loc:=["work"]) (fr:=[]) (ix:=[]) rfl ⟨rfl,by decide +kernel,rfl,rfl,rfl,by decide +kernel⟩ (Dk K (qv K 0)) (λ _ _ _=>(AQ K (i:=0) (show(["work"]:List Str).Nodup from by decide +kernel) rfl (by first|exact Or.inl rfl|exact Or.inr rfl))) (λ _ _ _=>(Bq K)) (λ _ _ _=>(AH K 0 G_weight_of hr D_weight_of (A0 K (qv K 0) (A6 K)) AK)))) (A6 K)))) AK))))⟩
theorem ok_tape{f_tape:Addr}{d_tape:FuncData}(DA:DefAt K mg "_law_tape" DD f_tape d_tape ["_law_script"]) (B:BltA mg):FnOk P w K mg base CX0 1 f_tape d_tape ["_law_script"] (spF K 1 FZ):=by
  refine BD (N:=["_law_script"]) (m:=MC) DA PD λ cdv A outer s H E hr=>?_
  exact⟨_,(AO K (B1 K (DG K (DF K (A0 K (DG K (NU K B.list (S8 K (qv K 0) (EM K) (EL K (A5 K))))) (A0 K (A5 K) (A0 K (A5 K) (A0 K (A5 K) (A6 K)))))))))⟩
theorem ok_pick{f_pick:Addr}{d_pick:FuncData}(DA:DefAt K mg "_law_pick" By f_pick d_pick ["_law_tape_here","_law_many"]) (B:BltA mg):FnOk P w K mg base CX0 1 f_pick d_pick ["_law_tape_here","_law_many"] (spF K 2 AN):=by
  refine BD (N:=["_law_tape_here","_law_many","_law_found","_law_at","_law_cell","_law_mixed"]) (m:=MD) DA sc_pick λ cdv A outer s H E hr=>?_
  exact⟨_,(A9 K (Fg K (qv K 0) (A5 K) (AI K ((Ak).or (AR K)) (AJ Ai AY) (AM K (qv K 0) (A5 K)) (A5 K)))
    (A9 K (CZ K (CJ K IJ IF (AM K (qv K 0) (A5 K)) (A5 K))
      (A9 K (AZ K (i:=2) sc_pick.nd rfl (by first|exact Or.inl rfl|exact Or.inr rfl) (AI K Cb CY (AM K (qv K 0) (A5 K)) (qv K 1)))
    (A9 K (Fg K (qv K 0) (A5 K) (AI K HM HH (AM K (qv K 0) (A5 K)) (qv K 1)))
    (AO K (B1 K (qv K 2)))))
      (Bp K))
    (A9 K (AZ K (i:=3) sc_pick.nd rfl (by first|exact Or.inl rfl|exact Or.inr rfl) (AM K (qv K 0) (A5 K)))
    (A9 K (Fg K (qv K 0) (A5 K) (AI K ((Ak).or (AR K)) (AJ Ai AY) (qv K 3) (A5 K)))
    (A9 K (AZ K (i:=4) sc_pick.nd rfl (by first|exact Or.inl rfl|exact Or.inr rfl) (Iz K (Pl K (Sf K hr.units) (AM K (qv K 0) (A5 K)) (DF K (A6 K))) (AM K (AM K (qv K 0) (A5 K)) (AI K Cb CY (qv K 3) (Ca K (CA K) (Ee Df) B.len L2.bt_len (A0 K (AM K (qv K 0) (A5 K)) (A6 K))))) (A5 K)))
    (A9 K (CZ K (QW.toT (Iw K (CJ K Tx Tn (qv K 4) (AI K Se S0 (A5 K) (A5 K))) (HI K (CJ K Ob OO (qv K 3) (Ca K (CA K) (Ee Df) B.len L2.bt_len (A0 K (AM K (qv K 0) (A5 K)) (A6 K)))))))
      (A9 K (Fg K (qv K 0) (A5 K) (AI K HM HH (qv K 4) (qv K 1)))
    (AO K (B1 K (AI K Cb CY (qv K 4) (qv K 1)))))
      (Bp K))
    (A9 K (AZ K (i:=5) sc_pick.nd rfl (by first|exact Or.inl rfl|exact Or.inr rfl) (AI K Cb CY (AI K ((Ak).or (AR K)) (AJ Ai AY) (AI K ((Ak).or (AR K)) (AJ Ai AY) (AI K Cb CY (qv K 4) (A5 K)) (AI K BZ BY (A5 K) (AM K (qv K 0) (A5 K)))) (A5 K)) (A5 K)))
    (A9 K (AZ K (i:=5) sc_pick.nd rfl (by first|exact Or.inl rfl|exact Or.inr rfl) (AI K Cb CY (AI K ((Ak).or (AR K)) (AJ Ai AY) (AI K ((Ak).or (AR K)) (AJ Ai AY) (AI K BZ BY (qv K 5) (qv K 5)) (AI K BZ BY (A5 K) (AM K (qv K 0) (A5 K)))) (A5 K)) (A5 K)))
    (A9 K (AZ K (i:=5) sc_pick.nd rfl (by first|exact Or.inl rfl|exact Or.inr rfl) (AI K Cb CY (AI K ((Ak).or (AR K)) (AJ Ai AY) (AI K ((Ak).or (AR K)) (AJ Ai AY) (AI K BZ BY (qv K 5) (qv K 5)) (AI K BZ BY (A5 K) (qv K 5))) (A5 K)) (A5 K)))
    (AO K (B1 K (AI K Cb CY (AI K HM HH (qv K 5) (A5 K)) (qv K 1)))))))))))))⟩
theorem ok_works{f_works f_pick:Addr}{d_works d_pick:FuncData}(DA:DefAt K mg "_law_works" CS f_works d_works ["_law_tape_here","_law_many"])(D_pick:DefAt K mg "_law_pick" By f_pick d_pick ["_law_tape_here","_law_many"])(G_pick:FnOk P w K mg base CX0 1 f_pick d_pick ["_law_tape_here","_law_many"] (spF K 2 AN))(B:BltA mg):FnOk P w K mg base CX0 2 f_works d_works ["_law_tape_here","_law_many"] (spF K 2 Dd):=by
  refine BD (N:=["_law_tape_here","_law_many","_law_long","_law_heavy","_law_low","_law_coming","_law_found","_law_j","_law_length","_law_weight","_law_one","_law_small","_law_by"]) (m:=K3) DA sc_works λ cdv A outer s H E hr=>?_
  exact⟨_,(A9 K (Iy K (Lx K (DF K (A0 K (Au K (A0 K (A5 K) (A0 K (A5 K) (A0 K (A5 K) (A6 K))))) (A0 K (Au K (A0 K (A5 K) (A0 K (A5 K) (A0 K (A5 K) (A6 K))))) (A0 K (Au K (A0 K (A5 K) (A0 K (A5 K) (A0 K (A5 K) (A6 K))))) (A0 K (Au K (A0 K (A5 K) (A0 K (A5 K) (A0 K (A5 K) (A6 K))))) (A6 K)))))) (AH K 2 G_pick hr D_pick (A0 K (qv K 0) (A0 K (A5 K) (A6 K))) AK)) (Dl K (n:=3) rfl (Aq K (AQ K (i:=2) sc_works.nd rfl (by first|exact Or.inl rfl|exact Or.inr rfl)) (Aq K (AQ K (i:=3) sc_works.nd rfl (by first|exact Or.inl rfl|exact Or.inr rfl)) (Aq K (AQ K (i:=4) sc_works.nd rfl (by first|exact Or.inl rfl|exact Or.inr rfl)) (Cj K))))))
    (A9 K (CZ K (QW.toT (Iw K (CJ K ((Ge).or (EQ K hr.units)) (AJ FG FH) (qv K 2) (A5 K)) (HI K (CJ K ((Ge).or (EQ K hr.units)) (AJ FG FH) (AH K 2 G_pick hr D_pick (A0 K (qv K 0) (A0 K (A5 K) (A6 K))) AK) (A5 K)))))
      (AO K (Iy K (Au K (A0 K (A5 K) (A0 K (A5 K) (A0 K (A5 K) (A6 K))))) (Dl K (n:=3) rfl (Aq K (AQ K (i:=2) sc_works.nd rfl (by first|exact Or.inl rfl|exact Or.inr rfl)) (Aq K (AQ K (i:=3) sc_works.nd rfl (by first|exact Or.inl rfl|exact Or.inr rfl)) (Aq K (AQ K (i:=4) sc_works.nd rfl (by first|exact Or.inl rfl|exact Or.inr rfl)) (Cj K)))))))
      (Bp K))
    (A9 K (AZ K (i:=5) sc_works.nd rfl (by first|exact Or.inl rfl|exact Or.inr rfl) (Lx K (DF K (A0 K (A5 K) (A0 K (AH K 2 G_pick hr D_pick (A0 K (qv K 0) (A0 K (A5 K) (A6 K))) AK) (A6 K)))) (AH K 2 G_pick hr D_pick (A0 K (qv K 0) (A0 K (A5 K) (A6 K))) AK)))
    (A9 K (AZ K (i:=6) sc_works.nd rfl (by first|exact Or.inl rfl|exact Or.inr rfl) (DG K (DF K (A6 K))))
    (A9 K (EK K rfl (CU K B.range (A0 K (qv K 1) (A6 K))) (AQ K (i:=7) sc_works.nd rfl (by first|exact Or.inl rfl|exact Or.inr rfl))
      (A9 K (Di K (i:=8) (j:=9) rfl sc_works.nd rfl rfl (by decide) rfl rfl (A0 K (AI K ((Ak).or (AR K)) (AJ Ai AY) (AI K ((Ak).or (AR K)) (AJ Ai AY) (A5 K) (qv K 4)) (AH K 2 G_pick hr D_pick (A0 K (qv K 0) (A0 K (qv K 2) (A6 K))) AK)) (A0 K (AI K ((Ak).or (AR K)) (AJ Ai AY) (qv K 4) (AH K 2 G_pick hr D_pick (A0 K (qv K 0) (A0 K (qv K 3) (A6 K))) AK)) (A6 K))))
    (A9 K (CZ K (QW.toT (Iw K (CJ K IJ IF (qv K 7) (A5 K)) (HI K (CJ K ((Ge).or (EQ K hr.units)) (AJ FG FH) (AH K 2 G_pick hr D_pick (A0 K (qv K 0) (A0 K (A5 K) (A6 K))) AK) (A5 K)))))
      (A9 K (AZ K (i:=10) sc_works.nd rfl (by first|exact Or.inl rfl|exact Or.inr rfl) (AM K (qv K 6) (AH K 2 G_pick hr D_pick (A0 K (qv K 0) (A0 K (qv K 7) (A6 K))) AK)))
    (A9 K (AZ K (i:=11) sc_works.nd rfl (by first|exact Or.inl rfl|exact Or.inr rfl) (SE K (EN K Tw Tl (AI K BZ BY (AM K (qv K 10) (A5 K)) (A5 K)) (qv K 2)) (SB K (EN K Ob OO (AI K BZ BY (AM K (AM K (qv K 10) (A5 K)) (A5 K)) (A5 K)) (qv K 3)))))
    (A9 K (AZ K (i:=12) sc_works.nd rfl (by first|exact Or.inl rfl|exact Or.inr rfl) (Iz K (Ef K (qv K 11)) (AI K ((Ak).or (AR K)) (AJ Ai AY) (A5 K) (AH K 2 G_pick hr D_pick (A0 K (qv K 0) (A0 K (A5 K) (A6 K))) AK)) (A5 K)))
    (AO K (Di K (i:=8) (j:=9) rfl sc_works.nd rfl rfl (by decide) rfl rfl (A0 K (AI K BZ BY (AM K (qv K 10) (A5 K)) (qv K 12)) (A0 K (AI K BZ BY (AM K (AM K (qv K 10) (A5 K)) (A5 K)) (qv K 12)) (A6 K))))))))
      (Bp K))
    (AO K (DZ K (IH K PySem.F.slot_list_append PySem.F.type_list_append E5 FE (qv K 6) (A0 K (Au K (A0 K (qv K 8) (A0 K (qv K 5) (A0 K (Au K (A0 K (BA K) (A0 K (qv K 9) (A6 K)))) (A6 K))))) (A6 K))))))))
    (AO K (B1 K (OU K (G0 K) (Ee Ij) B.tuple L2.bt_tuple (A0 K (qv K 6) (A6 K))))))))))⟩
theorem ok_cost{f_cost f_pick:Addr}{d_cost d_pick:FuncData}(DA:DefAt K mg "_law_cost" DE f_cost d_cost ["_law_tape_here"])(D_pick:DefAt K mg "_law_pick" By f_pick d_pick ["_law_tape_here","_law_many"])(G_pick:FnOk P w K mg base CX0 1 f_pick d_pick ["_law_tape_here","_law_many"] (spF K 2 AN))(B:BltA mg):FnOk P w K mg base CX0 2 f_cost d_cost ["_law_tape_here"] (spF K 1 Fa):=by
  refine BD (N:=["_law_tape_here","_law_due_here","_law_weight","_law_at","_law_told_here","_law_rows","_law_k","_law_costs"]) (m:=MF) DA sc_cost λ cdv A outer s H E hr=>?_
  exact⟨_,(A9 K (Di K (i:=1) (j:=2) rfl sc_cost.nd rfl rfl (by decide) rfl rfl (A0 K (AI K Sd Rz (AH K 2 G_pick hr D_pick (A0 K (qv K 0) (A0 K (A5 K) (A6 K))) AK) (A5 K)) (A0 K (AH K 2 G_pick hr D_pick (A0 K (qv K 0) (A0 K (A5 K) (A6 K))) AK) (A6 K))))
    (A9 K (Pm K (i:=3) (j:=4) (k:=5) rfl sc_cost.nd rfl rfl rfl rfl rfl rfl (A0 K (Ca K (Hr rfl) Jl B.min L2.bt_min (A0 K (qv K 1) (A0 K (A5 K) (A6 K)))) (A0 K (A5 K) (A0 K (DG K (DF K (A6 K))) (A6 K)))))
    (A9 K (EK K rfl (CU K B.range (A0 K (AI K ((Ak).or (AR K)) (AJ Ai AY) (A5 K) (AH K 2 G_pick hr D_pick (A0 K (qv K 0) (A0 K (A5 K) (A6 K))) AK)) (A6 K))) (AQ K (i:=6) sc_cost.nd rfl (by first|exact Or.inl rfl|exact Or.inr rfl))
      (A9 K (AZ K (i:=3) sc_cost.nd rfl (by first|exact Or.inl rfl|exact Or.inr rfl) (AI K ((Ak).or (AR K)) (AJ Ai AY) (AI K ((Ak).or (AR K)) (AJ Ai AY) (qv K 3) (A5 K)) (AH K 2 G_pick hr D_pick (A0 K (qv K 0) (A0 K (A5 K) (A6 K))) AK)))
    (A9 K (AZ K (i:=4) sc_cost.nd rfl (by first|exact Or.inl rfl|exact Or.inr rfl) (AI K ((Ak).or (AR K)) (AJ Ai AY) (qv K 4) (AH K 2 G_pick hr D_pick (A0 K (qv K 0) (A0 K (A5 K) (A6 K))) AK)))
    (AO K (DZ K (IH K PySem.F.slot_list_append PySem.F.type_list_append E5 FE (qv K 5) (A0 K (Au K (A0 K (qv K 3) (A0 K (qv K 4) (A6 K)))) (A6 K))))))))
    (A9 K (AZ K (i:=7) sc_cost.nd rfl (by first|exact Or.inl rfl|exact Or.inr rfl) (DG K (DF K (A0 K (Au K (A0 K (BA K) (A0 K (qv K 1) (A6 K)))) (A0 K (Au K (A0 K (BA K) (A0 K (qv K 1) (A0 K (qv K 2) (A6 K))))) (A0 K (Au K (A0 K (BA K) (A0 K (qv K 1) (A0 K (qv K 2) (A6 K))))) (A6 K)))))))
    (A9 K (DZ K (IH K PySem.F.slot_list_append PySem.F.type_list_append E5 FE (qv K 7) (A0 K (Au K (A0 K (BA K) (A0 K (OU K (G0 K) (Ee Ij) B.tuple L2.bt_tuple (A0 K (qv K 5) (A6 K))) (A6 K)))) (A6 K))))
    (AO K (B1 K (AM K (qv K 7) (AH K 2 G_pick hr D_pick (A0 K (qv K 0) (A0 K (A5 K) (A6 K))) AK)))))))))⟩
theorem ok_unlike{f_unlike f_pick:Addr}{d_unlike d_pick:FuncData}(DA:DefAt K mg "_law_unlike" C7 f_unlike d_unlike ["_law_tape_here","_law_works_here"])(D_pick:DefAt K mg "_law_pick" By f_pick d_pick ["_law_tape_here","_law_many"])(G_pick:FnOk P w K mg base CX0 1 f_pick d_pick ["_law_tape_here","_law_many"] (spF K 2 AN))(B:BltA mg):FnOk P w K mg base CX0 2 f_unlike d_unlike ["_law_tape_here","_law_works_here"] (spF K 2 Cr):=by
  refine BD (N:=["_law_tape_here","_law_works_here","_law_at","_law_by","_law_length","_law_coming","_law_cost_here"]) (m:=JE) DA sc_unlike λ cdv A outer s H E hr=>?_
  exact⟨_,(A9 K (Di K (i:=2) (j:=3) rfl sc_unlike.nd rfl rfl (by decide) rfl rfl (A0 K (AH K 2 G_pick hr D_pick (A0 K (qv K 0) (A0 K (Ca K (CA K) (Ee Df) B.len L2.bt_len (A0 K (qv K 1) (A6 K))) (A6 K))) AK) (A0 K (AI K ((Ak).or (AR K)) (AJ Ai AY) (A5 K) (AH K 2 G_pick hr D_pick (A0 K (qv K 0) (A0 K (A5 K) (A6 K))) AK)) (A6 K))))
    (A9 K (Iy K (AM K (qv K 1) (qv K 2)) (Dl K (n:=3) rfl (Aq K (AQ K (i:=4) sc_unlike.nd rfl (by first|exact Or.inl rfl|exact Or.inr rfl)) (Aq K (AQ K (i:=5) sc_unlike.nd rfl (by first|exact Or.inl rfl|exact Or.inr rfl)) (Aq K (AQ K (i:=6) sc_unlike.nd rfl (by first|exact Or.inl rfl|exact Or.inr rfl)) (Cj K))))))
    (AO K (B1 K (AI K ((Ak).or (AR K)) (AJ Ai AY) (AI K (((Ak).or (AR K)).or (K1 K)) (AJ (AJ Ai AY) Jp) (Gb K (qv K 1) (EM K) (EL K (qv K 2))) (Au K (A0 K (Au K (A0 K (qv K 4) (A0 K (AI K Cb CY (AI K ((Ak).or (AR K)) (AJ Ai AY) (qv K 5) (qv K 3)) (A5 K)) (A0 K (qv K 6) (A6 K))))) (A6 K)))) (Gb K (qv K 1) (EL K (AI K ((Ak).or (AR K)) (AJ Ai AY) (qv K 2) (A5 K))) (EM K)))))))⟩
theorem ok_other{f_other f_pick f_cost:Addr}{d_other d_pick d_cost:FuncData}(DA:DefAt K mg "_law_other" CT f_other d_other ["_law_tape_here","_law_works_here"])(D_pick:DefAt K mg "_law_pick" By f_pick d_pick ["_law_tape_here","_law_many"])(G_pick:FnOk P w K mg base CX0 1 f_pick d_pick ["_law_tape_here","_law_many"] (spF K 2 AN))(D_cost:DefAt K mg "_law_cost" DE f_cost d_cost ["_law_tape_here"])(G_cost:FnOk P w K mg base CX0 2 f_cost d_cost ["_law_tape_here"] (spF K 1 Fa))(B:BltA mg):FnOk P w K mg base CX0 3 f_other d_other ["_law_tape_here","_law_works_here"] (spF K 2 EZ):=by
  refine BD (N:=["_law_tape_here","_law_works_here","_law_at","_law_cost_here","_law_one"]) (m:=K4) DA sc_other λ cdv A outer s H E hr=>?_
  exact⟨_,(A9 K (Di K (i:=2) (j:=3) rfl sc_other.nd rfl rfl (by decide) rfl rfl (A0 K (AH K 2 G_pick hr D_pick (A0 K (qv K 0) (A0 K (Ca K (CA K) (Ee Df) B.len L2.bt_len (A0 K (qv K 1) (A6 K))) (A6 K))) AK) (A0 K (AH K 2 G_cost hr D_cost (A0 K (qv K 0) (A6 K)) AK) (A6 K))))
    (A9 K (AZ K (i:=4) sc_other.nd rfl (by first|exact Or.inl rfl|exact Or.inr rfl) (Au K (A0 K (AM K (AM K (qv K 1) (qv K 2)) (A5 K)) (A0 K (AM K (AM K (qv K 1) (qv K 2)) (A5 K)) (A0 K (qv K 3) (A6 K))))))
    (AO K (B1 K (AI K ((Ak).or (AR K)) (AJ Ai AY) (AI K (((Ak).or (AR K)).or (K1 K)) (AJ (AJ Ai AY) Jp) (Gb K (qv K 1) (EM K) (EL K (qv K 2))) (Au K (A0 K (qv K 4) (A6 K)))) (Gb K (qv K 1) (EL K (AI K ((Ak).or (AR K)) (AJ Ai AY) (qv K 2) (A5 K))) (EM K)))))))⟩
theorem ok_due{f_due:Addr}{d_due:FuncData}(DA:DefAt K mg "_law_due" E2 f_due d_due ["_law_works_here"]) (B:BltA mg):FnOk P w K mg base CX0 1 f_due d_due ["_law_works_here"] (spF K 1 Cz):=by
  refine BD (N:=["_law_works_here","_law_left","_law_end","_law_found","_law_turn","_law_one_ahead","_law_one"]) (m:=Od) DA sc_due λ cdv A outer s H E hr=>?_
  exact⟨_,(A9 K (CZ K (CJ K IJ IF (Lw K B.len B.set (CD K (loc:=["_law_length","_law_coming","_law_cost_here"]) (fr:=[]) (ix:=[]) rfl ⟨rfl,by decide +kernel,rfl,rfl,rfl,by decide +kernel⟩ (Dk K (qv K 0)) (λ _ _ _=>(Dl K (n:=3) rfl (Aq K (AQ K (i:=0) (show(["_law_length","_law_coming","_law_cost_here"]:List Str).Nodup from by decide +kernel) rfl (by first|exact Or.inl rfl|exact Or.inr rfl)) (Aq K (AQ K (i:=1) (show(["_law_length","_law_coming","_law_cost_here"]:List Str).Nodup from by decide +kernel) rfl (by first|exact Or.inl rfl|exact Or.inr rfl)) (Aq K (AQ K (i:=2) (show(["_law_length","_law_coming","_law_cost_here"]:List Str).Nodup from by decide +kernel) rfl (by first|exact Or.inl rfl|exact Or.inr rfl)) (Cj K)))))) (λ _ _ _=>(Bq K)) (λ _ _ _=>(qv K 1)))) (A5 K))
      (AO K (B1 K (Au K (A0 K (BA K) (A0 K (BA K) (A6 K))))))
      (Bp K))
    (A9 K (CZ K (Pk K (Sh K) (Kt K) (CD K (loc:=["_law_length","_law_coming","_law_cost_here"]) (fr:=[]) (ix:=[]) rfl ⟨rfl,by decide +kernel,rfl,rfl,rfl,by decide +kernel⟩ (Dk K (qv K 0)) (λ _ _ _=>(Dl K (n:=3) rfl (Aq K (AQ K (i:=0) (show(["_law_length","_law_coming","_law_cost_here"]:List Str).Nodup from by decide +kernel) rfl (by first|exact Or.inl rfl|exact Or.inr rfl)) (Aq K (AQ K (i:=1) (show(["_law_length","_law_coming","_law_cost_here"]:List Str).Nodup from by decide +kernel) rfl (by first|exact Or.inl rfl|exact Or.inr rfl)) (Aq K (AQ K (i:=2) (show(["_law_length","_law_coming","_law_cost_here"]:List Str).Nodup from by decide +kernel) rfl (by first|exact Or.inl rfl|exact Or.inr rfl)) (Cj K)))))) (λ _ _ _=>(Bq K)) (λ _ _ _=>(EN K ((Ge).or (EQ K hr.units)) (AJ FG FH) (AM K (qv K 2) (A5 K)) (BA K)))))
      (AO K (B1 K (Au K (A0 K (BA K) (A0 K (BA K) (A6 K))))))
      (Bp K))
    (A9 K (AZ K (i:=1) sc_due.nd rfl (by first|exact Or.inl rfl|exact Or.inr rfl) (DG K (Pn K B.list (qv K 0))))
    (A9 K (Di K (i:=2) (j:=3) rfl sc_due.nd rfl rfl (by decide) rfl rfl (A0 K (AM K (AM K (qv K 0) (A5 K)) (A5 K)) (A0 K (A5 K) (A6 K))))
    (A9 K (EK K rfl (CU K B.range (A0 K (Ca K (CA K) (Ee Df) B.len L2.bt_len (A0 K (qv K 0) (A6 K))) (A6 K))) (AQ K (i:=4) sc_due.nd rfl (by first|exact Or.inl rfl|exact Or.inr rfl))
      (FK K (A9 K (AZ K (i:=5) sc_due.nd rfl (by first|exact Or.inl rfl|exact Or.inr rfl) (AM K (qv K 1) (A5 K)))
    (A9 K (EK K rfl (Jt K (qv K 1)) (AQ K (i:=6) sc_due.nd rfl (by first|exact Or.inl rfl|exact Or.inr rfl))
      (AO K (CZ K (CJ K IJ IF (AI K BZ BY (AM K (AM K (qv K 6) (A5 K)) (A5 K)) (AM K (qv K 5) (A5 K))) (AI K BZ BY (AM K (AM K (qv K 5) (A5 K)) (A5 K)) (AM K (qv K 6) (A5 K))))
      (AO K (AZ K (i:=5) sc_due.nd rfl (by first|exact Or.inl rfl|exact Or.inr rfl) (qv K 6)))
      (Bp K))))
    (A9 K (DZ K (IH K PySem.F.slot_list_remove PySem.F.type_list_remove (Kz K hr.units) Ki (qv K 1) (A0 K (qv K 5) (A6 K))))
    (A9 K (AZ K (i:=2) sc_due.nd rfl (by first|exact Or.inl rfl|exact Or.inr rfl) (AI K ((Ak).or (AR K)) (AJ Ai AY) (qv K 2) (AM K (qv K 5) (A5 K))))
    (AO K (AZ K (i:=3) sc_due.nd rfl (by first|exact Or.inl rfl|exact Or.inr rfl) (AI K ((Ak).or (AR K)) (AJ Ai AY) (qv K 3) (AI K BZ BY (AM K (AM K (qv K 5) (A5 K)) (A5 K)) (qv K 2)))))))))))
    (AO K (B1 K (Au K (A0 K (BA K) (A0 K (qv K 3) (A6 K)))))))))))⟩
theorem ok_told{f_told f_pair_sum:Addr}{d_told d_pair_sum:FuncData}(DA:DefAt K mg "_law_told" DC f_told d_told ["_law_works_here"])(D_pair_sum:DefAt K mg "pair_sum" BV f_pair_sum d_pair_sum ["works"])(G_pair_sum:FnOk P w K mg base CX0 4 f_pair_sum d_pair_sum ["works"] (spF K 1 Bj)){C Bc fI c1 c2 c3 c4 c5 c6 c7:Addr}{fdI:FuncData}(EX:ExcW P w K mg base C Bc fI c1 c2 c3 c4 c5 c6 c7 fdI)(GX_pair_sum:FnOk P w K mg base (CXN C P w) 5 f_pair_sum d_pair_sum ["works"] (spX C "word" K 1 CG))(B:BltA mg):FnOk P w K mg base CX0 6 f_told d_told ["_law_works_here"] (spF K 1 DK):=by
  refine BD (N:=["_law_works_here","_law_found","e","_law_strange"]) (m:=MB) DA sc_told λ cdv A outer s H E hr=>?_
  exact⟨_,(A9 K (AZ K (i:=1) sc_told.nd rfl (by first|exact Or.inl rfl|exact Or.inr rfl) (Au K (A0 K (BA K) (A6 K))))
    (A9 K (S7 (ie:=2) (is:=3) (ifd:=1) EX B.isinstance (AO K (AZ K (i:=1) sc_told.nd rfl (by first|exact Or.inl rfl|exact Or.inr rfl) (Au K (A0 K (BA K) (A0 K (AH K 0 G_pair_sum hr D_pair_sum (A0 K (qv K 0) (A6 K)) AK) (A6 K))))))
      (Ff (Ga (AZ K (i:=1) sc_told.nd rfl (by first|exact Or.inl rfl|exact Or.inr rfl) (Au K (A0 K (BA K) (A0 K (AH K 0 G_pair_sum hr D_pair_sum (A0 K (qv K 0) (A6 K)) AK) (A6 K))))) (Iv (Ph (Lu (BA K) (NR (E3 0 GX_pair_sum hr D_pair_sum (A0 K (qv K 0) (A6 K)) Fj))))))) (by decide) (by decide) (by decide) sc_told.nd rfl rfl rfl)
    (AO K (B1 K (qv K 1)))))⟩
theorem ok_law{f_law f_tape f_pick f_works f_unlike f_other f_due f_told:Addr}{d_law d_tape d_pick d_works d_unlike d_other d_due d_told:FuncData}(DA:DefAt K mg "law" Cu f_law d_law ["_law_script"])(D_tape:DefAt K mg "_law_tape" DD f_tape d_tape ["_law_script"])(G_tape:FnOk P w K mg base CX0 1 f_tape d_tape ["_law_script"] (spF K 1 FZ))(D_pick:DefAt K mg "_law_pick" By f_pick d_pick ["_law_tape_here","_law_many"])(G_pick:FnOk P w K mg base CX0 1 f_pick d_pick ["_law_tape_here","_law_many"] (spF K 2 AN))(D_works:DefAt K mg "_law_works" CS f_works d_works ["_law_tape_here","_law_many"])(G_works:FnOk P w K mg base CX0 2 f_works d_works ["_law_tape_here","_law_many"] (spF K 2 Dd))(D_unlike:DefAt K mg "_law_unlike" C7 f_unlike d_unlike ["_law_tape_here","_law_works_here"])(G_unlike:FnOk P w K mg base CX0 2 f_unlike d_unlike ["_law_tape_here","_law_works_here"] (spF K 2 Cr))(D_other:DefAt K mg "_law_other" CT f_other d_other ["_law_tape_here","_law_works_here"])(G_other:FnOk P w K mg base CX0 3 f_other d_other ["_law_tape_here","_law_works_here"] (spF K 2 EZ))(D_due:DefAt K mg "_law_due" E2 f_due d_due ["_law_works_here"])(G_due:FnOk P w K mg base CX0 1 f_due d_due ["_law_works_here"] (spF K 1 Cz))(D_told:DefAt K mg "_law_told" DC f_told d_told ["_law_works_here"])(G_told:FnOk P w K mg base CX0 6 f_told d_told ["_law_works_here"] (spF K 1 DK))(B:BltA mg):FnOk P w K mg base CX0 7 f_law d_law ["_law_script"] (spF K 1 F_law):=by
  refine BD (N:=["_law_script","_law_tape_here","_law_turn","_law_works_here","_law_unlike_here","_law_other_here","_law_thing"]) (m:=Oc) DA sc_law λ cdv A outer s H E hr=>?_
  exact⟨_,(A9 K (AZ K (i:=1) sc_law.nd rfl (by first|exact Or.inl rfl|exact Or.inr rfl) (J1 K G_tape hr D_tape (A0 K (qv K 0) (A6 K)) AK))
    (A9 K (EK K rfl (CU K B.range (A0 K (A5 K) (A6 K))) (AQ K (i:=2) sc_law.nd rfl (by first|exact Or.inl rfl|exact Or.inr rfl))
      (FK K (A9 K (AZ K (i:=3) sc_law.nd rfl (by first|exact Or.inl rfl|exact Or.inr rfl) (AH K 2 G_works hr D_works (A0 K (qv K 1) (A0 K (AI K ((Ak).or (AR K)) (AJ Ai AY) (A5 K) (AH K 2 G_pick hr D_pick (A0 K (qv K 1) (A0 K (A5 K) (A6 K))) AK)) (A6 K))) AK))
    (A9 K (Di K (i:=4) (j:=5) rfl sc_law.nd rfl rfl (by decide) rfl rfl (A0 K (AH K 2 G_unlike hr D_unlike (A0 K (qv K 1) (A0 K (qv K 3) (A6 K))) AK) (A0 K (AH K 2 G_other hr D_other (A0 K (qv K 1) (A0 K (qv K 3) (A6 K))) AK) (A6 K))))
    (AO K (EK K rfl (SA K (DF K (A0 K (qv K 3) (A0 K (qv K 4) (A0 K (qv K 5) (A0 K (AH K 2 G_unlike hr D_unlike (A0 K (qv K 1) (A0 K (qv K 5) (A6 K))) AK) (A0 K (qv K 3) (A6 K)))))))) (AQ K (i:=6) sc_law.nd rfl (by first|exact Or.inl rfl|exact Or.inr rfl))
      (FK K (AO K (CZ K (CJ K ((Kx).or (Fi K hr.units)) (AJ Ip Iq) (Ca K (G4 K hr.gd hr.units) Jk B.repr L2.bt_repr (A0 K (AH K 0 G_told hr D_told (A0 K (qv K 6) (A6 K)) AK) (A6 K))) (Ca K (G4 K hr.gd hr.units) Jk B.repr L2.bt_repr (A0 K (AH K 0 G_due hr D_due (A0 K (qv K 6) (A6 K)) AK) (A6 K))))
      (AO K (B1 K (Kt K)))
      (Bp K))))))))))
    (AO K (B1 K (Kt K)))))⟩
noncomputable abbrev EH:Stmt:=Qb (top 3) 0
theorem PH:FnScope ["self","word"] ["self","word"] (AA EH):=⟨rfl,rfl,rfl,by decide +kernel,rfl,by decide +kernel,by decide +kernel⟩
theorem ok_ini{C fI fa:Addr}{fd:FuncData}(F:Fun K "__init__" "NoRule.__init__" EH fa fd)(c:XC K C fI)(n:DJ K C "word"):FnOk P w K mg base CX0 1 fa fd ["self","word"] (spI C "word"):=QH F PH rfl c n (λ _ _ _ _ _ _=>rfl) (Or.inl rfl) (Or.inl rfl) (by decide) (by decide)
end
end T56
namespace Bd
open PySem L2
end Bd
namespace Rw
open PySem L2 Bd
end Rw
namespace L2
open PySem PySem.Spec PyProof.Rows
section
variable{hd:Hd}{QE:D->Hd->Prop}{d:D}
theorem Ov{p:PyData}(e:pyD hd d=some p)(ok:Do p)(q:QE (.im (.str p.shown)) hd):WP (En [d] hd) QE:=⟨_,_,by simp[En,e,ok],q⟩
theorem IN{i:I}(ok:Do i.py)(q:QE (.im (.str i.py.shown)) hd):WP (En [.im i] hd) QE:=Ov rfl ok q
end
end L2
namespace Bt
open PySem L2 Bd
noncomputable def Ba(t:Tp):List D:=[.mu 0,.im (.int t.nx),.im (.int t.lf),.im (.int t.tn)]
noncomputable def tl(t:Tp):Hd:=[.lst (t.cells.map λ i=>.im (.int i)),.lst (Ba t)]
@[simp] theorem VE(t:Tp):(tl t).length=2:=rfl
@[simp] theorem WK(t:Tp)(r:Hd):(tl t ++ r)[0]? = some (.lst (t.cells.map λ i=>.im (.int i))):=rfl
@[simp] theorem WJ(t:Tp)(r:Hd):(tl t ++ r)[1]? = some (.lst (Ba t)):=rfl
@[simp] theorem tl0(t:Tp):(tl t)[0]? = some (.lst (t.cells.map λ i=>.im (.int i))):=rfl
@[simp] theorem tl1(t:Tp):(tl t)[1]? = some (.lst (Ba t)):=rfl
@[simp] theorem tln(t:Tp):(Ba t).length=4:=rfl
section
variable(t:Tp)(v:Int)
@[simp] theorem WR:atI (Ba t) 0=some (.mu 0):=Be (j:=0) rfl
@[simp] theorem WQ:atI (Ba t) 1=some (.im (.int t.nx)):=Be (j:=1) rfl
@[simp] theorem WN:atI (Ba t) 2=some (.im (.int t.lf)):=Be (j:=2) rfl
@[simp] theorem WM:atI (Ba t) 3=some (.im (.int t.tn)):=Be (j:=3) rfl
@[simp] theorem W7:ixN 4 1=some 1:=rfl
@[simp] theorem W6:ixN 4 2=some 2:=rfl
@[simp] theorem W5:ixN 4 3=some 3:=rfl
@[simp] theorem VC:(Ba t).set 1 (.im (.int v))=Ba { t with nx:=v }:=rfl
@[simp] theorem VB:(Ba t).set 2 (.im (.int v))=Ba { t with lf:=v }:=rfl
@[simp] theorem VA:(Ba t).set 3 (.im (.int v))=Ba { t with tn:=v }:=rfl
end
@[simp] theorem Vk(t t':Tp)(h:t'.cells=t.cells):(tl t).set 1 (.lst (Ba t'))=tl t':=by unfold tl;rw[h];rfl
@[simp high] theorem WH(t:Tp)(x:MO)(r:Hd):(tl t ++ (x :: r))[2]? = some x:=rfl
@[simp high] theorem WG(t:Tp)(x y:MO)(r:Hd):(tl t ++ (x :: y :: r))[3]? = some y:=rfl
@[simp high] theorem Vm(t:Tp)(x y:MO)(r:Hd):(tl t ++ (x :: r)).set 2 y=tl t ++ (y :: r):=rfl
@[simp high] theorem Vl(t:Tp)(x y z:MO)(r:Hd):(tl t ++ (x :: y :: r)).set 3 z=tl t ++ (x :: z :: r):=rfl
@[simp] theorem Te(t:Tp):(tl t).all (clO 2)=true:=by simp[tl,clO,Mb,Ba,clD,BG]
structure DrawL(P:List D->Hd->Option (D × Hd))(τ:Tp)(many:Int)(r:Int)(τ':Tp):Prop where
  lo:0 <= r
  hi:r < many
  eq:P [.mu 1,.im (.int many)] (tl τ)=some (.im (.int r),tl τ')
section
variable{P:List D->Hd->Option (D × Hd)}{τ τ':Tp}{many r:Int}
end
end Bt
namespace T56
open PySem L2 Bd Bt
local macro_rules | `(tactic| sizeOf_list_dec) => `(tactic| first | (with_reducible refine A8 ?_; try dsimp only [List.set_cons_zero, List.set_cons_succ, List.map_cons, List.map_nil, List.cons_append, List.nil_append, List.replicate, Nat.reduceSub, Int.reduceToNat]) | with_reducible refine Mx ?_ | with_reducible refine AG ?_ | with_reducible refine Ao ?_ | with_reducible refine Ar ?_ | with_reducible refine EF ?_ | with_reducible refine BC ?_ | with_reducible refine BX ?_ | with_reducible refine ED ?_ | with_reducible refine Ot ?_ | with_reducible refine EE ?_ | with_reducible refine A3 (d := _) rfl ?_ | with_reducible refine AL ?_ | with_reducible refine AD ?_ | with_reducible refine BH ?_ | with_reducible refine EG ?_ | with_reducible refine De ?_ | with_reducible refine RO ?_ | with_reducible refine Cs ?_ | with_reducible refine I0 ?_ | with_reducible refine G8 ?_ | with_reducible refine Oz ?_ | with_reducible refine CB ?_ | with_reducible refine Qx ?_ | with_reducible refine Qy ?_ | with_reducible refine TX ?_ | with_reducible refine Bn ?_ | with_reducible refine AB ?_ | with_reducible refine A4 ?_ | with_reducible refine GQ ?_ | with_reducible refine Bo ?_ | with_reducible refine HB ?_ | with_reducible refine Tc ?_ | with_reducible refine Eb ?_ | with_reducible refine RJ ?_ | with_reducible refine IQ ?_ | with_reducible refine Bg ?_ | with_reducible refine LW ?_ | with_reducible refine OC ?_ | with_reducible refine TZ ?_ | with_reducible refine KQ ?_ | with_reducible refine Ta ?_ | with_reducible refine IP ?_ | with_reducible refine Qz ?_ | with_reducible refine LX ?_ | with_reducible refine GM ?_ | with_reducible refine Ow ?_ | with_reducible refine Gy ?_ | with_reducible refine ⟨_, rfl, ?_⟩ | refine AX rfl (Cp _ _) ?_ | refine AX rfl (Co _ _ _) ?_ | refine AX rfl (Eu _ _ _ _) ?_ | refine ⟨_, _, _, _, rfl, rfl, rfl, rfl, ?_⟩ | refine ⟨⟨_, rfl⟩, ?_⟩ | refine ⟨Ch, ?_⟩ | refine ⟨Dv, ?_⟩ | refine ⟨Sz, ?_⟩ | refine ⟨Sy, ?_⟩ | refine ⟨MR, ?_⟩ | refine ⟨FU, ?_⟩ | with_reducible refine we_nilEN ?_)
noncomputable def Eg(cell turn:Int):Int:=(cell % 2147483647 + 40503 * turn + 11) % 2147483629
noncomputable def HP(x turn:Int):Int:=(x * x + 25717 * turn + 3) % 2147483587
noncomputable def Sl(x:Int):Int:=(x * x + 16807 * x + 1) % 2147483579
theorem mk1(j:Int):Cv 40503 j:=BW (by decide) (by decide)
theorem mk2(j:Int):Cv 25717 j:=BW (by decide) (by decide)
theorem mk3(j:Int):Cv 16807 j:=BW (by decide) (by decide)
theorem mo1:Bk 2147483587:=by unfold Bk;decide
theorem mo2:Bk 2147483629:=by unfold Bk;decide
theorem mo3:Bk 2147483647:=by unfold Bk;decide
theorem mo4:Bk 2147483579:=by unfold Bk;decide
theorem di1:IL 256:=by unfold IL;decide
theorem Py(τ:Tp)(many:Int)(h0:0 < many)(h1:many < 1073741824):∃ r τ',DrawL AN τ many r τ':=by
  have hm:Bk many:=h0
  have hv:IL many:=⟨h0,h1⟩
  by_cases hl:τ.lf > 0
  . refine⟨τ.lf % many,{ τ with tn:=τ.tn + 1,lf:=τ.lf / many },(DT many h0).1,(DT many h0).2,?_⟩
    simp[AN,mkF,hl,hm,hv]
  . have key:∀ cell:Int,(if τ.cells=[]then cell=6 else atI (τ.cells.map λ i=>D.im (.int i)) (τ.nx % (τ.cells.length:Int))=some (.im (.int cell))) ->
        ∃ r τ',DrawL AN τ many r τ':=by
      intro cell hcell
      have b1:=DT (x:=cell % 2147483647 + 40503 * (τ.tn + 1) + 11) 2147483629 (by decide)
      have b2:=DT (x:=Eg cell (τ.tn + 1) * Eg cell (τ.tn + 1) + 25717 * (τ.tn + 1) + 3) 2147483587 (by decide)
      have c1:∀ j,Cv (Eg cell (τ.tn + 1)) j:=λ j=>BW (by unfold Eg;omega) (by unfold Eg;omega)
      have c2:∀ j,Cv (HP (Eg cell (τ.tn + 1)) (τ.tn + 1)) j:=λ j=>BW (by unfold HP;omega) (by unfold HP;omega)
      by_cases hb:cell >= 1000000000000000000/\τ.nx < (τ.cells.length:Int)
      . refine⟨cell % many,{ τ with tn:=τ.tn + 1,nx:=τ.nx + 1,lf:=cell / many },(DT many h0).1,(DT many h0).2,?_⟩
        by_cases hc:τ.cells=[]
        . rw[if_pos hc]at hcell;subst hcell;omega
        . rw[if_neg hc]at hcell
          have hl0:0 < τ.cells.length:=HU hc
          have hl0':Bk (τ.cells.length:Int):=by unfold Bk;omega
          simp[AN,mkF,hl,hm,hv,mk1,mk2,mk3,mo1,mo2,mo3,mo4,di1,po1,Eh,pyD,DX,Dm,I.pys,EW,hc,hcell,hl0',hb.1,hb.2,CO]
      . refine⟨Sl (HP (Eg cell (τ.tn + 1)) (τ.tn + 1)) / 256 % many,{ τ with tn:=τ.tn + 1,nx:=τ.nx + 1 },(DT many h0).1,(DT many h0).2,?_⟩
        have hb':1000000000000000000 <= cell->¬ τ.nx < (τ.cells.length:Int):=λ a b=>hb ⟨a,b⟩
        unfold Eg at c1 c2
        unfold HP at c2
        unfold Sl HP Eg
        by_cases hc:τ.cells=[]
        . rw[if_pos hc]at hcell;subst hcell
          simp only[Int.reduceMod]at c1 c2
          simp[AN,mkF,hl,hm,hv,mk1,mk2,mk3,mo1,mo2,mo3,mo4,di1,po1,Eh,pyD,DX,Dm,I.pys,EW,TN,hc,CO,c1,c2]
        . rw[if_neg hc]at hcell
          have hl0:0 < τ.cells.length:=HU hc
          have hl0':Bk (τ.cells.length:Int):=by unfold Bk;omega
          by_cases hd:1000000000000000000 <= cell
          . simp[AN,mkF,hl,hm,hv,mk1,mk2,mk3,mo1,mo2,mo3,mo4,di1,po1,Eh,pyD,DX,Dm,I.pys,EW,hc,hcell,hl0',CO,c1,c2,hd,hb' hd]
          . simp[AN,mkF,hl,hm,hv,mk1,mk2,mk3,mo1,mo2,mo3,mo4,di1,po1,Eh,pyD,DX,Dm,I.pys,EW,hc,hcell,hl0',CO,c1,c2,hd]
    by_cases hc:τ.cells=[]
    . exact key 6 (by rw[if_pos hc])
    . obtain⟨c,e⟩:=UG hc τ.nx
      exact key c (by rw[if_neg hc];exact e)
theorem P6(ns:List Int):∃ τ,FZ [.ro ns] []=some (.mu 1,tl τ):=by
  obtain⟨cs,e⟩:=O2 ns none (some 63)
  refine⟨⟨cs,0,0,0⟩,?_⟩
  simp[FZ,mkF,e,tl,Ba]
noncomputable def T(_:Nat)(a b:MO):Prop:=∃ τ:Tp,tl τ=[a,b]
theorem tap:Tap T AN where
  cl:=by
    rintro k a b ⟨τ,e⟩
    have:=Te τ
    rw[e]at this
    simpa using this
  le:=λ h _=>h
  pick:=by
    rintro k a b many ⟨τ,e⟩ h0 h1
    obtain⟨r,τ',d⟩:=Py τ many h0 h1
    refine⟨r,.lst (τ'.cells.map λ i=>.im (.int i)),.lst (Ba τ'),d.lo,d.hi,?_,τ',rfl⟩
    rw[<- e]
    exact d.eq
noncomputable abbrev wk(c:Int)(p:Int × Int):Wk:=⟨p.1,c,.ends p.2⟩
noncomputable abbrev Ci(c:Int)(ws:List (Int × Int)):I:=AV (ws.map (wk c))
structure WOk(c:Int)(ws:List (Int × Int)):Prop where
  c0:0 <= c
  c1:c <= 60
  n1:1 <= ws.length
  n8:ws.length <= 8
  each:∀ p ∈ ws,1 <= p.1/\p.1 <= 1000000/\0 <= p.2/\p.2 <= 1000000
noncomputable abbrev wkD(c:Int)(p:Int × Int):D:=.im (B9 (wk c p))
theorem Sk(c:Int)(ws:List (Int × Int)):Ax (ws.map (wkD c))=.im (Ci c ws):=by
  have:ws.map (wkD c)=((ws.map (wk c)).map B9).map D.im:=by simp
  rw[this,Cl]
set_option maxHeartbeats 2000000 in
theorem Ox{n:Nat}(h1:1 <= n)(hn:n <= 8):∀ a b,T 0 a b->WF Dd [.mu 1,.im (.int (n:Int))] [a,b] λ d x=>∃ i a' b' g,d=.im i/\(∃ c ws,i=Ci c ws/\ws.length=n/\WOk c ws)/\T 0 a' b'/\x=a' :: b' :: g:=by
  intro a b hT
  unfold Dd
  refine BU rfl ?_
  refine AG (IM ?_)
  repeat sizeOf_list_dec
  refine tap.draw (n:=0) (rest:=[]) hT rfl (by decide) (by decide) λ r1 a b hT pr1 qr1=>?_
  have key:∀ (Q:Fl->Hd->Prop),(∀ c ws a' b' g,ws.length=n->WOk c ws->T 0 a' b'->Q (.rt (.im (Ci c ws))) (a' :: b' :: g))->∀ (lg hv lw:Int),0 < lg->lg <= 1000000->0 < hv->hv <= 1000001->0 <= lw->lw + lg <= 1000000->lw + hv <= 1000001->∀ a b,T 0 a b->WS (AF (Ag 5 (GH (Ce (A1 (mC (.int 0)) (A1 (AC 2 AN (A1 (A2 0) (A1 (mC (.int 61)) A7))) A7))) (AC 2 AN (A1 (A2 0) (A1 (mC (.int 2)) A7)))))
    (AF (Ag 6 (Cm (Ce A7)))
    (AF (DP (Dr (A1 (A2 1) A7)) (AU 7)
      (AF (C2 [8,9] (A1 (mOp Ab (mOp Ab (mC (.int 1)) (A2 4)) (AC 2 AN (A1 (A2 0) (A1 (A2 2) A7)))) (A1 (mOp Ab (A2 4) (AC 2 AN (A1 (A2 0) (A1 (A2 3) A7)))) A7)))
    (AF (BT (FP (An (mOp gGt (A2 7) (mC (.int 0)))) (An (mOp gEq (AC 2 AN (A1 (A2 0) (A1 (mC (.int 3)) A7))) (mC (.int 0)))))
      (AF (Ag 10 (mOp gIx (A2 6) (AC 2 AN (A1 (A2 0) (A1 (A2 7) A7)))))
    (AF (Ag 11 (Fm (mOp gLe (mOp BJ (mOp gIx (A2 10) (mC (.int 0))) (mC (.int 3))) (A2 2)) (mOp gLt (mOp BJ (mOp gIx (mOp gIx (A2 10) (mC (.int 2))) (mC (.int 1))) (mC (.int 3))) (A2 3))))
    (AF (Ag 12 (mIf (Dp (A2 11)) (mOp Ab (mC (.int 1)) (AC 2 AN (A1 (A2 0) (A1 (mC (.int 3)) A7)))) (mC (.int 1))))
    (C2 [8,9] (A1 (mOp BJ (mOp gIx (A2 10) (mC (.int 0))) (A2 12)) (A1 (mOp BJ (mOp gIx (mOp gIx (A2 10) (mC (.int 2))) (mC (.int 1))) (A2 12)) A7))))))
      BP)
    (Bl (mMt BS (A2 6) (A1 (At (A1 (A2 8) (A1 (A2 5) (A1 (At (A1 (mC (.str "ends")) (A1 (A2 9) A7))) A7)))) A7))))))
    (Ah (mCB (f1 true Dt) (A1 (A2 6) A7)))))) [some (.mu 1),some (.im (.int (n:Int))),some (.im (.int lg)),some (.im (.int hv)),some (.im (.int lw)),none,none,none,none,none,none,none,none] [a,b] Q:=by
    intro Q hQ lg hv lw g1 g2 g3 g4 g5 g6 g7 a b hT
    repeat sizeOf_list_dec
    refine tap.draw (n:=0) hT rfl (by first|decide|omega) (by first|decide|omega) λ r2 a b hT pr2 qr2=>?_
    repeat sizeOf_list_dec
    refine tap.draw (n:=0) hT rfl (by first|decide|omega) (by first|decide|omega) λ r3 a b hT pr3 qr3=>?_
    obtain⟨c,hc,hc0,hc1⟩:∃ c:Int,atI [D.im (.int 0),D.im (.int r2)] r3=some (D.im (.int c))/\0 <= c/\c <= 60:=by
      rcases(show r3=0 ∨ r3=1 by omega)with rfl|rfl
      . exact⟨0,Cp _ _,by omega,by omega⟩
      . exact⟨r2,Co _ _ _,by omega,by omega⟩
    refine⟨_,_,rfl,hc,?_⟩
    repeat sizeOf_list_dec
    refine⟨DY (by omega) (by omega),?_⟩
    rw[Int.toNat_natCast]
    refine DB (λ r ls hd=>∃ (ws:List (Int × Int)) (j:Nat) (a b:MO) (z7 z8 z9 z10 z11 z12:Option D),r=Aj (j:Int) (n - j)/\j <= n/\ws.length=j/\(∀ p ∈ ws,1 <= p.1/\p.1 <= 1000000/\0 <= p.2/\p.2 <= 1000000)/\ls=[some (.mu 1),some (.im (.int (n:Int))),some (.im (.int lg)),some (.im (.int hv)),some (.im (.int lw)),some (.im (.int c)),some (.mu 2),z7,z8,z9,z10,z11,z12]/\hd=[a,b,.lst (ws.map (wkD c))]/\T 0 a b) ?_ ?_ ?_
    . exact⟨[],0,a,b,none,none,none,none,none,none,rfl,by omega,rfl,by simp,rfl,rfl,hT⟩
    . rintro d r ls hd ⟨ws,j,a,b,z7,z8,z9,z10,z11,z12,er,hj,lw',hw,rfl,rfl,hT⟩
      obtain⟨m,hm⟩:∃ m,n - j=m + 1:=by
        cases q:n - j with
        | zero=>rw[q]at er;cases er
        | succ m=>exact⟨m,rfl⟩
      rw[hm,Aj]at er
      obtain⟨rfl,rfl⟩:=List.cons.inj er
      have ej:((j:Int) + 1)=((j + 1:Nat):Int):=by omega
      have em:m=n - (j + 1):=by omega
      refine⟨_,rfl,?_⟩
      dsimp only[List.set_cons_zero,List.set_cons_succ]
      repeat sizeOf_list_dec
      refine tap.draw (n:=0) hT rfl (by first|decide|omega) (by first|decide|omega) λ r4 a b hT pr4 qr4=>?_
      repeat sizeOf_list_dec
      refine tap.draw (n:=0) hT rfl (by first|decide|omega) (by first|decide|omega) λ r5 a b hT pr5 qr5=>?_
      repeat sizeOf_list_dec
      have fin:∀ (x y:Int) a b (z10 z11 z12:Option D),1 <= x->x <= 1000000->0 <= y->y <= 1000000->T 0 a b->WS (Bl (mMt BS (A2 6) (A1 (At (A1 (A2 8) (A1 (A2 5) (A1 (At (A1 (mC (.str "ends")) (A1 (A2 9) A7))) A7)))) A7))) [some (.mu 1),some (.im (.int (n:Int))),some (.im (.int lg)),some (.im (.int hv)),some (.im (.int lw)),some (.im (.int c)),some (.mu 2),some (.im (.int (j:Int))),some (.im (.int x)),some (.im (.int y)),z10,z11,z12] [a,b,.lst (ws.map (wkD c))] (IA [] (λ ls hd=>∃ (ws:List (Int × Int)) (j':Nat) (a b:MO) (z7 z8 z9 z10 z11 z12:Option D),Aj ((j:Int) + 1) m=Aj (j':Int) (n - j')/\j' <= n/\ws.length=j'/\(∀ p ∈ ws,1 <= p.1/\p.1 <= 1000000/\0 <= p.2/\p.2 <= 1000000)/\ls=[some (.mu 1),some (.im (.int (n:Int))),some (.im (.int lg)),some (.im (.int hv)),some (.im (.int lw)),some (.im (.int c)),some (.mu 2),z7,z8,z9,z10,z11,z12]/\hd=[a,b,.lst (ws.map (wkD c))]/\T 0 a b) (Dz (Ah (mCB (f1 true Dt) (A1 (A2 6) A7))) Q)):=by
        intro x y a b z10 z11 z12 k1 k2 k3 k4 hT
        repeat sizeOf_list_dec
        refine GN rfl (Em (by simp;omega)) ?_
        refine⟨Av _,ws ++ [(x,y)],j + 1,a,b,_,_,_,_,_,_,by rw[ej,em],by omega,by simp[lw'],?_,rfl,?_,hT⟩
        . intro p hp
          rcases List.mem_append.mp hp with h|h
          . exact hw p h
          . simp at h;subst h;exact⟨k1,k2,k3,k4⟩
        . simp[wkD,B9,C6,Ax,BN]
      refine⟨rfl,A8 ?_⟩
      change WS _ [some (.mu 1),some (.im (.int (n:Int))),some (.im (.int lg)),some (.im (.int hv)),some (.im (.int lw)),some (.im (.int c)),some (.mu 2),some (.im (.int (j:Int))),some (.im (.int (1 + lw + r4))),some (.im (.int (lw + r5))),z10,z11,z12] _ _
      repeat sizeOf_list_dec
      by_cases hj0:(0:Int) < (j:Int)
      . rw[if_pos (by simpa using hj0)]
        repeat sizeOf_list_dec
        refine tap.draw (n:=0) hT rfl (by first|decide|omega) (by first|decide|omega) λ r6 a b hT pr6 qr6=>?_
        repeat sizeOf_list_dec
        refine⟨λ _=>?_,λ _=>BC (A8 (fin _ _ a b _ _ _ (by omega) (by omega) (by omega) (by omega) hT))⟩
        repeat sizeOf_list_dec
        refine tap.draw (n:=0) (many:=(j:Int)) (rest:=[.lst (ws.map (wkD c))]) hT rfl (by omega) (by omega) λ r7 a b hT pr7 qr7=>?_
        obtain⟨u,rfl⟩:∃ u:Nat,r7=(u:Int):=⟨r7.toNat,by omega⟩
        have hu:u < ws.length:=by omega
        have hp:=hw ws[u] (List.getElem_mem hu)
        generalize hpu:ws[u]=p at hp
        obtain⟨x,y⟩:=p
        dsimp only at hp
        refine AX (ds:=ws.map (wkD c)) (e:=wkD c (x,y)) rfl (GL rfl (by simp[hu,hpu])) ?_
        repeat sizeOf_list_dec
        have mx:∀ i,Cv x i:=λ i=>BW (by omega) (by omega)
        have my:∀ i,Cv y i:=λ i=>BW (by omega) (by omega)
        refine P0 (CB ?_)
        repeat sizeOf_list_dec
        refine CH (mx _) ?_
        repeat sizeOf_list_dec
        have tail:∀ (sm:Bool) a b,T 0 a b->(sm=true->x * 3 <= lg/\y * 3 < hv)->WS (AF (Ag 12 (mIf (Dp (A2 11)) (mOp Ab (mC (.int 1)) (AC 2 AN (A1 (A2 0) (A1 (mC (.int 3)) A7)))) (mC (.int 1))))
            (C2 [8,9] (A1 (mOp BJ (mOp gIx (A2 10) (mC (.int 0))) (A2 12)) (A1 (mOp BJ (mOp gIx (mOp gIx (A2 10) (mC (.int 2))) (mC (.int 1))) (A2 12)) A7)))) [some (.mu 1),some (.im (.int (n:Int))),some (.im (.int lg)),some (.im (.int hv)),some (.im (.int lw)),some (.im (.int c)),some (.mu 2),some (.im (.int (j:Int))),some (.im (.int (1 + lw + r4))),some (.im (.int (lw + r5))),some (wkD c (x,y)),some (.im (.bl sm)),z12] [a,b,.lst (ws.map (wkD c))] (λ f hd=>Dz (Bl (mMt BS (A2 6) (A1 (At (A1 (A2 8) (A1 (A2 5) (A1 (At (A1 (mC (.str "ends")) (A1 (A2 9) A7))) A7)))) A7))) (IA [] (λ ls hd=>∃ (ws:List (Int × Int)) (j':Nat) (a b:MO) (z7 z8 z9 z10 z11 z12:Option D),Aj ((j:Int) + 1) m=Aj (j':Int) (n - j')/\j' <= n/\ws.length=j'/\(∀ p ∈ ws,1 <= p.1/\p.1 <= 1000000/\0 <= p.2/\p.2 <= 1000000)/\ls=[some (.mu 1),some (.im (.int (n:Int))),some (.im (.int lg)),some (.im (.int hv)),some (.im (.int lw)),some (.im (.int c)),some (.mu 2),z7,z8,z9,z10,z11,z12]/\hd=[a,b,.lst (ws.map (wkD c))]/\T 0 a b) (Dz (Ah (mCB (f1 true Dt) (A1 (A2 6) A7))) Q)) f hd):=by
          intro sm a b hT hsm
          have step:∀ (v:Int) a b,T 0 a b->1 <= v->v <= 3->(v=1 ∨ (x * 3 <= lg/\y * 3 < hv))->WS (C2 [8,9] (A1 (mOp BJ (mOp gIx (A2 10) (mC (.int 0))) (A2 12)) (A1 (mOp BJ (mOp gIx (mOp gIx (A2 10) (mC (.int 2))) (mC (.int 1))) (A2 12)) A7))) [some (.mu 1),some (.im (.int (n:Int))),some (.im (.int lg)),some (.im (.int hv)),some (.im (.int lw)),some (.im (.int c)),some (.mu 2),some (.im (.int (j:Int))),some (.im (.int (1 + lw + r4))),some (.im (.int (lw + r5))),some (wkD c (x,y)),some (.im (.bl sm)),some (.im (.int v))] [a,b,.lst (ws.map (wkD c))] (λ f hd=>Dz (Bl (mMt BS (A2 6) (A1 (At (A1 (A2 8) (A1 (A2 5) (A1 (At (A1 (mC (.str "ends")) (A1 (A2 9) A7))) A7)))) A7))) (IA [] (λ ls hd=>∃ (ws:List (Int × Int)) (j':Nat) (a b:MO) (z7 z8 z9 z10 z11 z12:Option D),Aj ((j:Int) + 1) m=Aj (j':Int) (n - j')/\j' <= n/\ws.length=j'/\(∀ p ∈ ws,1 <= p.1/\p.1 <= 1000000/\0 <= p.2/\p.2 <= 1000000)/\ls=[some (.mu 1),some (.im (.int (n:Int))),some (.im (.int lg)),some (.im (.int hv)),some (.im (.int lw)),some (.im (.int c)),some (.mu 2),z7,z8,z9,z10,z11,z12]/\hd=[a,b,.lst (ws.map (wkD c))]/\T 0 a b) (Dz (Ah (mCB (f1 true Dt) (A1 (A2 6) A7))) Q)) f hd):=by
            intro v a b hT v1 v3 hv'
            repeat sizeOf_list_dec
            refine CH (mx _) ?_
            repeat sizeOf_list_dec
            refine CH (my _) ?_
            repeat sizeOf_list_dec
            refine⟨rfl,A8 ?_⟩
            have bx:1 <= x * v/\x * v <= 1000000/\0 <= y * v/\y * v <= 1000000:=by
              rcases(show v=1 ∨ v=2 ∨ v=3 by omega)with rfl|rfl|rfl
              . omega
              . rcases hv' with h|h
                . omega
                . omega
              . rcases hv' with h|h
                . omega
                . omega
            exact fin (x * v) (y * v) a b _ _ _ bx.1 bx.2.1 bx.2.2.1 bx.2.2.2 hT
          refine AG (Ao (RQ (FA (A3 rfl ⟨_,rfl,?_⟩))))
          refine⟨λ h=>?_,λ h=>AL (A8 (step 1 a b hT (by omega) (by omega) (.inl rfl)))⟩
          repeat sizeOf_list_dec
          refine tap.draw (n:=0) hT rfl (by decide) (by decide) λ r8 a b hT pr8 qr8=>?_
          exact Bg (A8 (step (1 + r8) a b hT (by omega) (by omega) (.inr (hsm h))))
        by_cases hs1:x * 3 <= lg
        . rw[if_pos (by simpa using hs1)]
          refine AD (AD (AD (AD (A3 rfl (AL (AX rfl (Eu _ _ _ _) ?_))))))
          refine AL (AX rfl (Co _ _ _) (AL (CH (my _) (A3 rfl (OC (A8 (tail _ a b hT λ h=>⟨hs1,by simpa using h⟩)))))))
        . rw[if_neg (by simpa using hs1)]
          exact A8 (tail false a b hT λ h=>by cases h)
      . rw[if_neg (by simpa using hj0)]
        exact⟨(λ h=>by cases h),λ _=>BC (A8 (fin _ _ a b _ _ _ (by omega) (by omega) (by omega) (by omega) hT))⟩
    . rintro ls hd ⟨ws,j,a,b,z7,z8,z9,z10,z11,z12,er,hj,lw',hw,rfl,rfl,hT⟩
      have hj':j=n:=by
        cases q:n - j with
        | zero=>omega
        | succ m=>rw[q]at er;cases er
      repeat sizeOf_list_dec
      refine Fc rfl rfl ?_
      rw[Sk]
      exact hQ c ws a b _ (by omega) ⟨hc0,hc1,by omega,by omega,hw⟩ hT
  have CC:∀ (lg hv lw:Int),0 < lg->lg <= 1000000->0 < hv->hv <= 1000001->0 <= lw->lw + lg <= 1000000->lw + hv <= 1000001->True:=λ _ _ _ _ _ _ _ _ _ _=>trivial
  rcases(show r1=0 ∨ r1=1 ∨ r1=2 ∨ r1=3 by omega)with rfl|rfl|rfl|rfl
  . refine⟨_,_,rfl,Cp _ _,⟨[some (.mu 1),some (.im (.int (n:Int))),some (.im (.int 20)),some (.im (.int 10)),some (.im (.int 0)),none,none,none,none,none,none,none,none],rfl,A8 ?_⟩⟩
    repeat sizeOf_list_dec
    rw[if_neg (by decide)]
    refine⟨(λ h=>by cases h),λ _=>BC (A8 (key _ ?_ 20 10 0 (by omega) (by omega) (by omega) (by omega) (by omega) (by omega) (by omega) a b hT))⟩
    exact λ c ws a' b' g e1 e2 e3=>⟨_,a',b',g,rfl,⟨c,ws,rfl,e1,e2⟩,e3,rfl⟩
  . refine⟨_,_,rfl,Co _ _ _,⟨[some (.mu 1),some (.im (.int (n:Int))),some (.im (.int 3)),some (.im (.int 3)),some (.im (.int 0)),none,none,none,none,none,none,none,none],rfl,A8 ?_⟩⟩
    repeat sizeOf_list_dec
    rw[if_neg (by decide)]
    refine⟨(λ h=>by cases h),λ _=>BC (A8 (key _ ?_ 3 3 0 (by omega) (by omega) (by omega) (by omega) (by omega) (by omega) (by omega) a b hT))⟩
    exact λ c ws a' b' g e1 e2 e3=>⟨_,a',b',g,rfl,⟨c,ws,rfl,e1,e2⟩,e3,rfl⟩
  . refine⟨_,_,rfl,Eu _ _ _ _,⟨[some (.mu 1),some (.im (.int (n:Int))),some (.im (.int 20)),some (.im (.int 2)),some (.im (.int 0)),none,none,none,none,none,none,none,none],rfl,A8 ?_⟩⟩
    repeat sizeOf_list_dec
    rw[if_neg (by decide)]
    refine⟨(λ h=>by cases h),λ _=>BC (A8 (key _ ?_ 20 2 0 (by omega) (by omega) (by omega) (by omega) (by omega) (by omega) (by omega) a b hT))⟩
    exact λ c ws a' b' g e1 e2 e3=>⟨_,a',b',g,rfl,⟨c,ws,rfl,e1,e2⟩,e3,rfl⟩
  . refine⟨_,_,rfl,GL (k:=3) rfl rfl,⟨[some (.mu 1),some (.im (.int (n:Int))),some (.im (.int 1000000)),some (.im (.int 1000001)),some (.im (.int 0)),none,none,none,none,none,none,none,none],rfl,A8 ?_⟩⟩
    repeat sizeOf_list_dec
    rw[if_pos (by decide)]
    repeat sizeOf_list_dec
    refine tap.draw (n:=0) hT rfl (by decide) (by decide) λ r8 a b hT pr8 qr8=>?_
    repeat sizeOf_list_dec
    refine⟨λ h=>?_,λ _=>BC (A8 (key _ ?_ 1000000 1000001 0 (by omega) (by omega) (by omega) (by omega) (by omega) (by omega) (by omega) a b hT))⟩
    . refine IM (BH (A4 (AL (A4 (AL (A4 (AL (AB ⟨Dv,?_⟩))))))))
      refine⟨[some (.mu 1),some (.im (.int (n:Int))),some (.im (.int 8)),some (.im (.int 9)),some (.im (.int 999992)),none,none,none,none,none,none,none,none],rfl,A8 (key _ ?_ 8 9 999992 (by omega) (by omega) (by omega) (by omega) (by omega) (by omega) (by omega) a b hT)⟩
      exact λ c ws a' b' g e1 e2 e3=>⟨_,a',b',g,rfl,⟨c,ws,rfl,e1,e2⟩,e3,rfl⟩
    . exact λ c ws a' b' g e1 e2 e3=>⟨_,a',b',g,rfl,⟨c,ws,rfl,e1,e2⟩,e3,rfl⟩
noncomputable def lf(ws:List (Int × Int))(k:Nat):Int:=((ws[k]?).map (·.1)).getD 1
noncomputable def wf(ws:List (Int × Int))(k:Nat):Int:=((ws[k]?).map (·.2)).getD 0
theorem LY{c:Int}{ws:List (Int × Int)}{k:Nat}(hk:k < ws.length):atI (((ws.map (wk c)).map B9).map D.im) (k:Int)=some (wkD c (lf ws k,wf ws k)):=GL rfl (by simp[hk,lf,wf])
theorem JI{c:Int}{ws:List (Int × Int)}(W:WOk c ws){k:Nat}(hk:k < ws.length):1 <= lf ws k/\lf ws k <= 1000000/\0 <= wf ws k/\wf ws k <= 1000000:=by
  have:=W.each ws[k] (List.getElem_mem hk)
  simp[lf,wf,hk];omega
theorem GO(c:Int)(ws:List (Int × Int)):((ws.map (wk c)).map B9).map D.im=ws.map (wkD c):=by simp
theorem O3{c:Int}{ws:List (Int × Int)}(W:WOk c ws):WF B2 [.im (Ci c ws)] [] λ d x=>d=.im (.int c):=by
  have n1:=W.n1;have n8:=W.n8
  unfold B2
  refine BU rfl ?_
  refine AG (Ao (B6 (A4 (A3 rfl (AB ⟨by simp,?_⟩)))))
  have S:WF B5 [.im (Ci c ws)] [] λ d x=>d=.im (.int c):=by
    unfold B5
    refine BU rfl ?_
    refine AG (Ao (AD (AD (A3 rfl (AL (AX rfl (LY (k:=0) (by omega)) ?_))))))
    refine AL (AX rfl (Co _ _ _) (A8 ?_))
    refine AG (BX (FA (De (Bo (Eb (A3 rfl ⟨_,rfl,?_⟩))))))
    rw[GO]
    refine⟨Az (by simp;omega),?_⟩
    refine CI (wkD c) (λ _=>some (.im (.bl true))) (λ _ ls=>∃ x,ls=[some x,some (.im (.int c))]) _ (Av _) ?_ ?_
    . rintro p hp ls hls
      refine⟨[some (wkD c p),some (.im (.int c))],by rcases hls with rfl|⟨_,x,rfl⟩ <;> rfl,⟨_,rfl⟩,Bn ⟨rfl,?_⟩⟩
      rw[if_pos rfl]
      refine⟨_,rfl,AD (AD (A3 rfl (AL (AX rfl (Co _ _ _) (A3 rfl (IP ⟨rfl,?_⟩))))))⟩
      simp
    have e:(ws.filterMap λ _=>some (D.im (.bl true)))=blD (ws.map λ _=>true):=by simp[blD]
    rw[e]
    refine⟨_,by rw[LC,Et];rfl,_,rfl,?_⟩
    refine⟨λ _=>?_,(λ h=>by simp at h)⟩
    exact Ar (A3 rfl rfl)
  refine S.mono ?_
  rintro d x rfl
  refine⟨_,rfl,A8 ?_⟩
  refine AG (BX (CB ?_))
  refine WP.eq (z:=.im (.bl false)) (h:=[]) (by simp[FN]) ⟨_,rfl,(λ h=>by cases h),λ _=>BC (A8 ?_)⟩
  exact Ar (A3 rfl rfl)
theorem NI{c:Int}{ws:List (Int × Int)}(W:WOk c ws):WF Al [.im (Ci c ws),.im (.str "ends")] [] λ d x=>d=.im .non:=by
  have n8:=W.n8
  unfold Al
  refine BU rfl ?_
  refine BX (FA (De (Bo (Eb (A3 rfl ⟨_,rfl,?_⟩)))))
  rw[GO]
  refine⟨Az (by simp;omega),?_⟩
  refine CI (wkD c) (λ _=>some (.im (.bl false))) (λ _ ls=>∃ x,ls=[some x,some (.im (.str "ends"))]) _ (Av _) ?_ ?_
  . rintro p hp ls hls
    refine⟨[some (wkD c p),some (.im (.str "ends"))],by rcases hls with rfl|⟨_,x,rfl⟩ <;> rfl,⟨_,rfl⟩,Bn ⟨rfl,?_⟩⟩
    rw[if_pos rfl]
    refine⟨_,rfl,AD (AD (AD (A3 rfl (AL (AX rfl (Eu _ _ _ _) (AL (AX rfl (Cp _ _) (A3 rfl (GM ⟨rfl,?_⟩)))))))))⟩
    simp
  have e:(ws.filterMap λ _=>some (D.im (.bl false)))=blD (ws.map λ _=>false):=by simp[blD]
  rw[e]
  refine⟨_,by rw[HV,Et];rfl,_,rfl,?_⟩
  exact⟨(λ h=>by simp at h),λ _=>BC rfl⟩
theorem KS{c:Int}{ws:List (Int × Int)}(W:WOk c ws):WF As [.im (Ci c ws)] [] λ d x=>d=.im (.int c):=by
  unfold As
  refine BU rfl ?_
  refine AG (Ao (B6 (A4 (A3 rfl (AB ⟨by simp,(O3 W).mono ?_⟩)))))
  rintro d x rfl
  refine⟨_,rfl,A8 ?_⟩
  refine AG (EF (B6 (A4 (A3 rfl (A4 (AL (AB ⟨by simp,(NI W).mono ?_⟩)))))))
  rintro d x rfl
  exact⟨_,rfl,A8 (Ar (A3 rfl rfl))⟩
theorem Mr(c:Int)(p:Int × Int):WF Bz [wkD c p] [] λ d x=>d=.im (.int p.2):=by
  unfold Bz
  refine BU rfl ?_
  refine Ar (AD (AD (A3 rfl (AL (AX rfl (Eu _ _ _ _) ?_)))))
  refine RK (AL ⟨_,rfl,?_⟩)
  refine AX (ds:=[.im (.str "ends"),.im (.int p.2)]) (e:=.im (.int p.2)) rfl ?_ rfl
  rfl
noncomputable def wd:Cost->Str
  | .late _=>"late"
  | .tardy _ _=>"tardy"
  | .miss _ _=>"miss"
  | .ends _=>"ends"
  | .steps _=>"steps"
theorem KF(c:Cost):∃ is,C6 c=.tup (.str (wd c) :: is):=by cases c <;> exact⟨_,rfl⟩
theorem P1(c:Cost):wd c="ends" ↔ ∃ x,c=.ends x:=by
  cases c with
  | ends x=>exact⟨λ _=>⟨x,rfl⟩,λ _=>rfl⟩
  | late d=>exact⟨λ q=>absurd q n5,λ⟨x,q⟩=>nomatch q⟩
  | tardy d w=>exact⟨λ q=>absurd q n6,λ⟨x,q⟩=>nomatch q⟩
  | miss d w=>exact⟨λ q=>absurd q n7,λ⟨x,q⟩=>nomatch q⟩
  | steps r=>exact⟨λ q=>absurd q n11,λ⟨x,q⟩=>nomatch q⟩
structure GW(ws:List Wk):Prop where
  n1:1 <= ws.length
  n8:ws.length <= 8
  each:∀ w ∈ ws,1 <= w.len/\w.len <= 1000000/\0 <= w.com/\w.com <= 60/\∀ x,w.cost=.ends x->0 <= x/\x <= 1000000
noncomputable def c0(ws:List Wk):Int:=(ws.head?.map Wk.com).getD 0
noncomputable def same(ws:List Wk):Prop:=∀ w ∈ ws,w.com=c0 ws
noncomputable instance (ws:List Wk):Decidable (same ws):=inferInstanceAs (Decidable (∀ w ∈ ws,w.com=c0 ws))
noncomputable def Cq(ws:List Wk):Prop:=∀ w ∈ ws,wd w.cost="ends"
noncomputable instance (ws:List Wk):Decidable (Cq ws):=inferInstanceAs (Decidable (∀ w ∈ ws,wd w.cost="ends"))
noncomputable abbrev wD(w:Wk):D:=.im (B9 w)
theorem GR(ws:List Wk):(ws.map B9).map D.im=ws.map wD:=by simp
theorem Qu{α:Type}(p:α->Prop)[DecidablePred p](l:List α):(l.map λ x=>decide (p x)).all id=decide (∀ x ∈ l,p x):=by
  induction l with
  | nil=>simp
  | cons a r ih=>simp[ih]
theorem KL{α:Type}(p:α->Prop)[DecidablePred p](l:List α):(l.map λ x=>!decide (p x)).any id=!decide (∀ x ∈ l,p x):=by
  induction l with
  | nil=>simp
  | cons a r ih=>simp[ih]
theorem Lm{ws:List Wk}(W:GW ws):WF B5 [.im (AV ws)] [] λ d x=>d=if same ws then .im (.int (c0 ws))else .im .non:=by
  have n1:=W.n1;have n8:=W.n8
  unfold B5
  refine BU rfl ?_
  match ws,W with
  | w :: r,W=>
  refine AG (Ao (AD (AD (A3 rfl (AL (AX rfl (Cp _ _) ?_))))))
  refine AL (AX rfl (Co _ _ _) (A8 ?_))
  refine AG (BX (FA (De (Bo (Eb (A3 rfl ⟨_,rfl,?_⟩))))))
  rw[GR]
  refine⟨Az (by simp at n8 ⊢;omega),?_⟩
  refine CI wD (λ z=>some (.im (.bl (decide (z.com=w.com))))) (λ _ ls=>∃ x,ls=[some x,some (.im (.int w.com))]) _ (Av _) ?_ ?_
  . rintro p hp ls hls
    refine⟨[some (wD p),some (.im (.int w.com))],by rcases hls with rfl|⟨_,x,rfl⟩ <;> rfl,⟨_,rfl⟩,Bn ⟨rfl,?_⟩⟩
    rw[if_pos rfl]
    exact⟨_,rfl,AD (AD (A3 rfl (AL (AX rfl (Co _ _ _) (A3 rfl (IP ⟨rfl,rfl⟩))))))⟩
  have e:((w :: r).filterMap λ z=>some (D.im (.bl (decide (z.com=w.com)))))=blD ((w :: r).map λ z=>decide (z.com=w.com)):=by simp[blD]
  rw[e]
  refine⟨_,by rw[LC,Et];rfl,_,rfl,?_⟩
  rw[Qu (λ z:Wk=>z.com=w.com)]
  refine⟨λ h=>?_,λ h=>BC (A8 ?_)⟩
  . have:same (w :: r):=of_decide_eq_true h
    rw[if_pos this]
    exact Ar (A3 rfl rfl)
  . have:¬ same (w :: r):=of_decide_eq_false h
    rw[if_neg this]
    exact Ar (AL rfl)
theorem U0{ws:List Wk}(W:GW ws)(h:same ws):WF B2 [.im (AV ws)] [] λ d x=>d=.im (.int (c0 ws)):=by
  unfold B2
  refine BU rfl ?_
  refine AG (Ao (B6 (A4 (A3 rfl (AB ⟨by simp,(Lm W).mono ?_⟩)))))
  rintro d x rfl
  rw[if_pos h]
  refine⟨_,rfl,A8 ?_⟩
  refine AG (BX (CB ?_))
  refine WP.eq (z:=.im (.bl false)) (h:=[]) (by simp[FN]) ⟨_,rfl,(λ h=>by cases h),λ _=>BC (A8 ?_)⟩
  exact Ar (A3 rfl rfl)
theorem Tz{ws:List Wk}(W:GW ws)(h:¬ same ws):WF Bu [.im (AV ws)] [] λ d x=>d=.im (.str "coming"):=by
  unfold Bu
  refine GP rfl ?_
  refine AG (LV (Ao (B6 (A4 (A3 rfl (AB ⟨by simp,(Lm W).mono ?_⟩))))))
  rintro d x rfl
  rw[if_neg h]
  refine⟨_,rfl,(λ d q=>nomatch q),A8 ?_⟩
  refine AG (BX (CB ?_))
  refine WP.eq (z:=.im (.bl true)) (h:=[]) (by simp[FN]) ⟨_,rfl,λ _=>?_,(λ h=>by cases h)⟩
  exact Ar (AL ⟨_,rfl,rfl⟩)
theorem Kj{ws:List Wk}(W:GW ws){ls:Ls}(e0:ls=[some (.im (AV ws)),some (.im (.str "ends"))]){QT:Bool->Hd->Prop}(q:QT (!decide (Cq ws)) []) :
    WT (Dp (E9 HV (Bm 1 [1] (Cg (A2 0)) (AU 0) C1 (mOp gNe (mOp gIx (mOp gIx (A2 0) (mC (.int 2))) (mC (.int 0))) (A2 1))))) ls [] QT:=by
  have n8:=W.n8
  subst e0
  refine FA (De (Bo (Eb (A3 rfl ⟨_,rfl,?_⟩))))
  rw[GR]
  refine⟨Az (by simp;omega),?_⟩
  refine CI wD (λ z=>some (.im (.bl (!decide (wd z.cost="ends"))))) (λ _ ls=>∃ x,ls=[some x,some (.im (.str "ends"))]) _ (Av _) ?_ ?_
  . rintro p hp ls hls
    refine⟨[some (wD p),some (.im (.str "ends"))],by rcases hls with rfl|⟨_,x,rfl⟩ <;> rfl,⟨_,rfl⟩,Bn ⟨rfl,?_⟩⟩
    rw[if_pos rfl]
    obtain⟨is,ei⟩:=KF p.cost
    refine⟨_,rfl,AD (AD (AD (A3 rfl (AL (AX rfl (Eu _ _ _ _) (AL ?_))))))⟩
    show WP (gIx (.im (C6 p.cost)) (.im (.int 0)) []) _
    rw[ei]
    exact AX rfl (Cp _ _) (A3 rfl (GM ⟨rfl,rfl⟩))
  have e:(ws.filterMap λ z=>some (D.im (.bl (!decide (wd z.cost="ends")))))=blD (ws.map λ z=>!decide (wd z.cost="ends")):=by simp[blD]
  rw[e]
  refine⟨_,by rw[HV,Et];rfl,_,rfl,?_⟩
  rw[KL (λ z:Wk=>wd z.cost="ends")]
  exact q
theorem NH{ws:List Wk}(W:GW ws)(h:¬ Cq ws):WF Ay [.im (AV ws),.im (.str "ends")] [] λ d x=>d=.im (.str "ends"):=by
  unfold Ay
  refine GP rfl ?_
  refine BX (Kj W rfl ?_)
  rw[decide_eq_false h]
  exact⟨λ _=>Ar (A3 rfl ⟨_,rfl,rfl⟩),(λ h=>by cases h)⟩
noncomputable def Bx(ws:List Wk):Str:=if same ws then "ends" else "coming"
theorem KR{ws:List Wk}(W:GW ws)(h:¬ (same ws/\Cq ws)):WF BF [.im (AV ws)] [] λ d x=>d=.im (.str (Bx ws)):=by
  unfold BF
  refine GP rfl ?_
  by_cases s:same ws
  . have a:¬ Cq ws:=λ a=>h ⟨s,a⟩
    refine AG (Ou (Ao (B6 (A4 (A3 rfl (AB ⟨by simp,(U0 W s).mono ?_⟩))))))
    rintro d x rfl
    refine⟨_,rfl,(λ d q=>nomatch q),A8 ?_⟩
    refine AG (Fb (K9 (CP CW)) (Ar (B6 (A4 (A3 rfl (A4 (AL (AB ⟨by simp,(NH W a).mono ?_⟩))))))))
    rintro d x rfl
    refine⟨_,rfl,_,rfl,_,rfl,?_⟩
    unfold Bx;rw[if_pos s]
  . refine AG (Fb (FV (CP Ez)) (Ar (B6 (A4 (A3 rfl (AB ⟨by simp,(Tz W s).mono ?_⟩))))))
    rintro d x rfl
    refine⟨_,rfl,_,rfl,_,rfl,?_⟩
    unfold Bx;rw[if_neg s]
theorem Nj{ws:List Wk}(W:GW ws)(s:same ws)(a:Cq ws):∃ ps:List (Int × Int),ws=ps.map (wk (c0 ws))/\WOk (c0 ws) ps:=by
  have go:∀ l:List Wk,(∀ w ∈ l,w.com=c0 ws/\wd w.cost="ends"/\1 <= w.len/\w.len <= 1000000/\∀ x,w.cost=.ends x->0 <= x/\x <= 1000000)->∃ ps:List (Int × Int),l=ps.map (wk (c0 ws))/\∀ p ∈ ps,1 <= p.1/\p.1 <= 1000000/\0 <= p.2/\p.2 <= 1000000:=by
    intro l
    induction l with
    | nil=>intro _;exact⟨[],rfl,by simp⟩
    | cons w r ih=>
      intro h
      obtain⟨ps,e,b⟩:=ih λ z hz=>h z (by simp[hz])
      obtain⟨h1,h2,h3,h4,h5⟩:=h w (by simp)
      obtain⟨x,hx⟩:=(P1 _).mp h2
      have:=h5 x hx
      refine⟨(w.len,x) :: ps,?_,?_⟩
      . rw[List.map_cons,e]
        congr 1
        cases w;simp_all
      . intro p hp
        rcases List.mem_cons.mp hp with rfl|hp
        . exact⟨h3,h4,this.1,this.2⟩
        . exact b p hp
  obtain⟨ps,e,b⟩:=go ws λ w hw=>⟨s w hw,a w hw,(W.each w hw).1,(W.each w hw).2.1,(W.each w hw).2.2.2.2⟩
  refine⟨ps,e,?_⟩
  have l:ps.length=ws.length:=by rw[e];simp
  match hh:ws,W with
  | w :: r,W=>exact⟨(W.each w (by simp)).2.2.1,(W.each w (by simp)).2.2.2.1,by rw[l];exact W.n1,by rw[l];exact W.n8,b⟩
end T56
namespace Sm
noncomputable def sm(f:Nat->Int):List Nat->Int
  | []=>0
  | k :: r=>f k + sm f r
noncomputable def ps(g:Nat->Nat->Int):List Nat->Int
  | []=>0
  | k :: r=>sm (g k) r + ps g r
noncomputable def cst(l w:Nat->Int):List Nat->Int->Int->Int
  | [],_,f=>f
  | k :: r,e,f=>cst l w r (e + l k) (f + w k * (e + l k))
theorem Lk(f g:Nat->Int):∀ ks,sm (λ k=>f k + g k) ks=sm f ks + sm g ks
  | []=>rfl
  | k :: r=>by simp only[sm];rw[Lk f g r];omega
theorem OI{f g:Nat->Int}:∀ {ks:List Nat},(∀ k ∈ ks,f k <= g k)->sm f ks <= sm g ks
  | [],_=>Int.le_refl _
  | k :: r,h=>by
    have h1:=h k (by simp)
    have h2:=OI (f:=f) (g:=g) (ks:=r) λ x hx=>h x (by simp[hx])
    simp only[sm];omega
theorem Kg{f g:Nat->Int}:∀ {ks:List Nat},(∀ k ∈ ks,f k=g k)->sm f ks=sm g ks
  | [],_=>rfl
  | k :: r,h=>by
    have h1:=h k (by simp)
    have h2:=Kg (f:=f) (g:=g) (ks:=r) λ x hx=>h x (by simp[hx])
    simp only[sm];omega
theorem HE(f:Nat->Int){xs ys:List Nat}(p:xs.Perm ys):sm f xs=sm f ys:=by
  induction p with
  | nil=>rfl
  | cons x _ ih=>simp only[sm,ih]
  | swap x y l=>simp only[sm];omega
  | trans _ _ a b=>rw[a,b]
theorem Jy{g:Nat->Nat->Int}(hg:∀ x y,g x y=g y x){xs ys:List Nat}(p:xs.Perm ys):ps g xs=ps g ys:=by
  induction p with
  | nil=>rfl
  | cons x q ih=>simp only[ps,ih,HE _ q]
  | swap x y l=>simp only[ps,sm];rw[hg x y];omega
  | trans _ _ a b=>rw[a,b]
theorem OW{g h:Nat->Nat->Int}:∀ {ks:List Nat},(∀ x ∈ ks,∀ y ∈ ks,g x y <= h x y)->ps g ks <= ps h ks
  | [],_=>Int.le_refl _
  | k :: r,H=>by
    have h1:=OI (f:=g k) (g:=h k) (ks:=r) λ x hx=>H k (by simp) x (by simp[hx])
    have h2:=OW (g:=g) (h:=h) (ks:=r) λ x hx y hy=>H x (by simp[hx]) y (by simp[hy])
    simp only[ps];omega
theorem OY{g h:Nat->Nat->Int}:∀ {ks:List Nat},ks.Pairwise (λ x y=>g x y=h x y)->ps g ks=ps h ks
  | [],_=>rfl
  | k :: r,H=>by
    rw[List.pairwise_cons]at H
    have h1:=Kg (f:=g k) (g:=h k) (ks:=r) H.1
    have h2:=OY (g:=g) (h:=h) (ks:=r) H.2
    simp only[ps];omega
theorem Jx(g:Nat->Nat->Int)(x:Nat):∀ ks,ps g (ks ++ [x])=ps g ks + sm (λ k=>g k x) ks
  | []=>by simp[ps,sm]
  | k :: r=>by
    have e:∀ f:Nat->Int,∀ l:List Nat,sm f (l ++ [x])=sm f l + f x:=by
      intro f l
      induction l with
      | nil=>simp[sm]
      | cons y r ih=>simp only[List.cons_append,sm,ih];omega
    simp only[List.cons_append,ps,sm,e,Jx g x r];omega
theorem JS(l w:Nat->Int):∀ (ks:List Nat) (e f:Int),cst l w ks e f=f + sm (λ k=>w k * (e + l k)) ks + ps (λ x y=>l x * w y) ks
  | [],e,f=>by simp[cst,sm,ps]
  | k :: r,e,f=>by
    simp only[cst]
    rw[JS l w r]
    have e1:sm (λ y=>w y * (e + l k + l y)) r=sm (λ y=>w y * (e + l y)) r + sm (λ y=>l k * w y) r:=by
      rw[<- Lk]
      refine Kg λ y _=>?_
      rw[show e + l k + l y=(e + l y) + l k by omega,Int.mul_add (w y) (e + l y) (l k),Int.mul_comm (w y) (l k)]
    rw[e1]
    simp only[sm,ps]
    omega
noncomputable def CF(l w:Nat->Int)(c:Int)(n:Nat):Int:=sm (λ k=>w k * (c + l k)) (List.range n) + ps (λ x y=>min (l x * w y) (l y * w x)) (List.range n)
theorem Np(l w:Nat->Int)(c:Int){n:Nat}{ks:List Nat}(p:ks.Perm (List.range n)):CF l w c n <= cst l w ks c 0:=by
  rw[JS,CF,<- HE _ p,<- Jy (λ x y=>Int.min_comm _ _) p]
  have:=OW (g:=λ x y=>min (l x * w y) (l y * w x)) (h:=λ x y=>l x * w y) (ks:=ks) λ x _ y _=>Int.min_le_left _ _
  omega
theorem Nq(l w:Nat->Int)(c:Int){n:Nat}{ks:List Nat}(p:ks.Perm (List.range n))(h:ks.Pairwise λ x y=>l x * w y <= l y * w x):cst l w ks c 0=CF l w c n:=by
  rw[JS,CF,<- HE _ p,<- Jy (λ x y=>Int.min_comm _ _) p]
  have:=OY (g:=λ x y=>min (l x * w y) (l y * w x)) (h:=λ x y=>l x * w y) (ks:=ks) (h.imp λ q=>Int.min_eq_left q)
  omega
end Sm
namespace T56
open PySem L2 Bd Bt Sm
theorem R9{ma mb:MI}{ls:Ls}{hd:Hd}{QI:List D × Gd->Hd->Prop}(h:WI ma ls hd λ p x=>WI mb ls x λ q y=>GOk y p.2/\QI (List.zipWith (λ x y=>Ax [x,y]) p.1 q.1,p.2 ++ q.2) y):WI (JF ma mb) ls hd QI:=by
  obtain⟨p,x,e1,q,y,e2,g,k⟩:=h
  exact⟨_,_,by simp only[JF,e1,Option.bind_some,e2,g,if_true],k⟩
theorem IW(f:Nat->Int):∀ ks:List Nat,(ks.map f).sum=sm f ks
  | []=>rfl
  | k :: r=>by simp[Sm.sm,IW f r]
noncomputable def prs:Nat->List (Nat × Nat)
  | 0=>[]
  | n + 1=>prs n ++ (List.range n).map λ i=>(i,n)
theorem M0:∀ n,∀ p ∈ prs n,p.1 < n/\p.2 < n
  | 0,p,h=>by simp[prs]at h
  | n + 1,p,h=>by
    rw[prs]at h
    rcases List.mem_append.mp h with h|h
    . have:=M0 n p h;omega
    . obtain⟨i,hi,rfl⟩:=List.mem_map.mp h
      simp at hi;dsimp only;omega
theorem HL:∀ n,(prs n).length <= n * n
  | 0=>by simp[prs]
  | n + 1=>by
    have:=HL n
    simp only[prs,List.length_append,List.length_map,List.length_range]
    rw[Nat.succ_mul,Nat.mul_succ];omega
theorem Jz(g:Nat->Nat->Int):∀ n,((prs n).map λ p=>g p.1 p.2).sum=ps g (List.range n)
  | 0=>rfl
  | n + 1=>by
    rw[prs,List.map_append,List.sum_append,Jz g n,List.range_succ,Jx,List.map_map]
    congr 1
    exact IW (λ i=>g i n) (List.range n)
noncomputable abbrev prD(p:Nat × Nat):D:=.im (.tup [.int (p.1:Int),.int (p.2:Int)])
theorem Hm(ns:List Int):JK (BB ns)=some (.im (.int ns.sum)):=by
  have:BM (BB ns)=some ns:=by
    induction ns with
    | nil=>rfl
    | cons n r ih=>simp[BB]at ih ⊢
  unfold JK
  rw[this];rfl
theorem M4{c:Int}{ws:List (Int × Int)}(W:WOk c ws):WF Bf [.im (.int c),.mu 0,.mu 1] [.lst (BB (ws.map (·.1))),.lst (BB (ws.map (·.2)))] λ d x=>d=.im (.int (CF (lf ws) (wf ws) c ws.length)):=by
  have n8:=W.n8
  have la:∀ k,k < ws.length->atI (BB (ws.map (·.1))) (k:Int)=some (.im (.int (lf ws k))):=λ k hk=>GL rfl (by simp[BB,lf,hk])
  have wa:∀ k,k < ws.length->atI (BB (ws.map (·.2))) (k:Int)=some (.im (.int (wf ws k))):=λ k hk=>GL rfl (by simp[BB,wf,hk])
  unfold Bf
  refine BU rfl ?_
  refine AG (Ao (De (Bo (R9 (IQ (A3 rfl ⟨0,_,rfl,rfl,IQ (A3 rfl ⟨1,_,rfl,rfl,?_⟩)⟩))))))
  refine⟨by intro p hp;rw[List.mem_singleton]at hp;subst hp;rfl,?_⟩
  dsimp only
  have ez:List.zipWith (λ x y=>Ax [x,y]) (BB (ws.map (·.1))) (BB (ws.map (·.2)))=ws.map DS:=by
    simp only[BB,List.map_map]
    rw[List.zipWith_map]
    have:∀ l:List (Int × Int),List.zipWith (λ a b:Int × Int=>Ax [((λ i=>D.im (.int i)) ∘ λ x=>x.1) a,((λ i=>D.im (.int i)) ∘ λ x=>x.2) b]) l l=l.map DS:=by
      intro l
      induction l with
      | nil=>rfl
      | cons p r ih=>rw[List.zipWith_cons_cons,List.map_cons,ih];rfl
    exact this ws
  rw[ez]
  refine⟨Az (by simp;omega),?_⟩
  have gk:GOk [.lst (BB (ws.map (·.1))),.lst (BB (ws.map (·.2)))] ([(0,BB (ws.map (·.1)))] ++ [(1,BB (ws.map (·.2)))]):=by
    intro p hp
    simp only[List.mem_append,List.mem_singleton]at hp
    rcases hp with rfl|rfl <;> rfl
  refine CI DS (λ p=>some (.im (.int (p.2 * (c + p.1))))) (λ _ ls=>∃ x y,ls=[some x,some y,some (.im (.int c))]) _ gk ?_ ?_
  . rintro p hp ls hls
    have b:=W.each p hp
    refine⟨[some (.im (.int p.1)),some (.im (.int p.2)),some (.im (.int c))],by rcases hls with rfl|⟨_,x,y,rfl⟩ <;> rfl,⟨_,_,rfl⟩,Bn ⟨rfl,?_⟩⟩
    rw[if_pos rfl]
    exact⟨_,rfl,AD (A3 rfl (AD (A3 rfl (A3 rfl (Bg (CH (BW (by omega) (by omega)) ⟨rfl,rfl⟩))))))⟩
  have e1:(ws.filterMap λ p=>some (D.im (.int (p.2 * (c + p.1)))))=BB (ws.map λ p=>p.2 * (c + p.1)):=by simp[BB]
  rw[e1]
  refine⟨_,Hm _,A8 ?_⟩
  have es:(ws.map λ p=>p.2 * (c + p.1)).sum=sm (λ k=>wf ws k * (c + lf ws k)) (List.range ws.length):=by
    rw[<- IW]
    congr 1
    refine List.ext_getElem? λ i=>?_
    by_cases hi:i < ws.length
    . simp[hi,lf,wf]
    . rw[List.getElem?_eq_none (by simp;omega),List.getElem?_eq_none (by simp;omega)]
  rw[es]
  change WS _ [some (.im (.int c)),some (.mu 0),some (.mu 1),some (.im (.int (sm (λ k=>wf ws k * (c + lf ws k)) (List.range ws.length)))),none] _ _
  generalize hal:Sm.sm (λ k=>wf ws k * (c + lf ws k)) (List.range ws.length)=alone
  refine AG (Ao (Ms (HB (A4 (Cs (A4 (A3 rfl (AB (Fc (ds:=BB (ws.map (·.1))) (z:=.im (.int (ws.length:Int))) rfl (by simp[CO]) ?_)))))))))
  refine AB ⟨_,rfl,DY (by omega) (by omega),?_⟩
  rw[Int.toNat_natCast]
  refine HA (λ r ls hd=>∃ (j:Nat) (z0 z1:Option D),r=Aj (j:Int) (ws.length - j)/\j <= ws.length/\ls=[z0,z1]/\hd=[.lst (BB (ws.map (·.1))),.lst (BB (ws.map (·.2))),.lst ((prs j).map prD)]) ⟨0,none,none,rfl,by omega,rfl,rfl⟩ ?_ ?_
  . rintro d r ls hd ⟨j,z0,z1,er,hj,rfl,rfl⟩
    obtain⟨m,hm⟩:∃ m,ws.length - j=m + 1:=by
      cases q:ws.length - j with
      | zero=>rw[q]at er;cases er
      | succ m=>exact⟨m,rfl⟩
    rw[hm,Aj]at er
    obtain⟨rfl,rfl⟩:=List.cons.inj er
    refine⟨[some (.im (.int (j:Int))),z1],rfl,Bn ?_⟩
    rw[if_pos rfl]
    refine HB (A4 (A3 rfl (AB ⟨_,rfl,DY (by omega) (by omega),?_⟩)))
    rw[Int.toNat_natCast]
    refine HC (λ r ls hd=>∃ (i:Nat) (z1:Option D),r=Aj (i:Int) (j - i)/\i <= j/\ls=[some (.im (.int (j:Int))),z1]/\hd=[.lst (BB (ws.map (·.1))),.lst (BB (ws.map (·.2))),.lst ((prs j ++ (List.range i).map λ i=>(i,j)).map prD)]) ⟨0,_,rfl,by omega,rfl,by simp⟩ ?_ ?_
    . rintro d r ls hd ⟨i,z1,er,hi,rfl,rfl⟩
      obtain⟨m',hm'⟩:∃ m,j - i=m + 1:=by
        cases q:j - i with
        | zero=>rw[q]at er;cases er
        | succ m=>exact⟨m,rfl⟩
      rw[hm',Aj]at er
      obtain⟨rfl,rfl⟩:=List.cons.inj er
      refine⟨[some (.im (.int (j:Int))),some (.im (.int (i:Int)))],rfl,Bn ?_⟩
      rw[if_pos rfl]
      refine BH (A4 (A3 rfl (A4 (A3 rfl (AB ⟨Ch,?_⟩)))))
      have pl:=HL j
      have pl2:j * j <= 8 * 8:=Nat.mul_le_mul (by omega) (by omega)
      refine GN rfl (Em (by simp;omega)) ?_
      refine⟨Av _,i + 1,_,by rw[show((i:Int) + 1)=((i + 1:Nat):Int) by omega,show m'=j - (i + 1) by omega],by omega,rfl,?_⟩
      rw[List.range_succ]
      simp[prD,Ax,BN]
    . rintro ls hd ⟨i,z1,er,hi,rfl,rfl⟩
      have hi':i=j:=by
        cases q:j - i with
        | zero=>omega
        | succ m=>rw[q]at er;cases er
      subst hi'
      exact⟨Av _,i + 1,_,_,by rw[show((i:Int) + 1)=((i + 1:Nat):Int) by omega,show m=ws.length - (i + 1) by omega],by omega,rfl,rfl⟩
  . rintro ls hd ⟨j,z0,z1,er,hj,rfl,rfl⟩
    have hj':j=ws.length:=by
      cases q:ws.length - j with
      | zero=>omega
      | succ m=>rw[q]at er;cases er
    subst hj'
    refine A8 ?_
    refine Ar (AD (A3 rfl (De (Bo (IQ (A3 rfl ⟨2,_,rfl,rfl,?_⟩))))))
    have pl:=HL ws.length
    have pl2:ws.length * ws.length <= 8 * 8:=Nat.mul_le_mul (by omega) (by omega)
    refine⟨Az (by simp;omega),?_⟩
    refine CI prD (λ p=>some (.im (.int (min (lf ws p.1 * wf ws p.2) (lf ws p.2 * wf ws p.1))))) (λ _ ls=>∃ x y,ls=[some x,some y,some (.mu 0),some (.mu 1)]) _ (by intro p hp;simp at hp;subst hp;rfl) ?_ ?_
    . rintro p hp ls hls
      obtain⟨h1,h2⟩:=M0 _ p hp
      have b1:=JI W h1;have b2:=JI W h2
      refine⟨[some (.im (.int (p.1:Int))),some (.im (.int (p.2:Int))),some (.mu 0),some (.mu 1)],by rcases hls with rfl|⟨_,x,y,rfl⟩ <;> rfl,⟨_,_,rfl⟩,Bn ⟨rfl,?_⟩⟩
      rw[if_pos rfl]
      refine⟨_,rfl,Cs (A4 (AD (AD (A3 rfl (A3 rfl (AX rfl (la _ h1) ?_))))))⟩
      refine AD (A3 rfl (A3 rfl (AX rfl (wa _ h2) (CH (BW (by omega) (by omega)) ?_))))
      refine A4 (AD (AD (A3 rfl (A3 rfl (AX rfl (la _ h2) ?_)))))
      refine AD (A3 rfl (A3 rfl (AX rfl (wa _ h1) (CH (BW (by omega) (by omega)) (AB (Gy ⟨rfl,rfl⟩))))))
    have e2:((prs ws.length).filterMap λ p=>some (D.im (.int (min (lf ws p.1 * wf ws p.2) (lf ws p.2 * wf ws p.1)))))=BB ((prs ws.length).map λ p=>min (lf ws p.1 * wf ws p.2) (lf ws p.2 * wf ws p.1)):=by simp[BB]
    rw[e2]
    refine⟨_,Hm _,Bg ?_⟩
    rw[Jz (λ x y=>min (lf ws x * wf ws y) (lf ws y * wf ws x)),<- hal]
    rfl
theorem Kw{c:Int}{ws:List (Int × Int)}(W:WOk c ws):WF Bj [.im (Ci c ws)] [] λ d x=>d=.im (.int (CF (lf ws) (wf ws) c ws.length)):=by
  have n8:=W.n8
  unfold Bj
  refine BU rfl ?_
  refine AG (Ao (B6 (A4 (A3 rfl (AB ⟨by simp,(KS W).mono ?_⟩)))))
  rintro d x rfl
  refine⟨_,rfl,A8 ?_⟩
  refine Ar (G8 (A4 (A3 rfl (A4 (EG (Bo (Eb (A3 rfl ⟨_,rfl,?_⟩))))))))
  rw[GO]
  refine⟨Az (by simp;omega),?_⟩
  refine CI (wkD c) (λ p=>some (.im (.int p.1))) (λ _ ls=>∃ x,ls=[some x]) _ (Av _) ?_ ?_
  . rintro p hp ls hls
    refine⟨[some (wkD c p)],by rcases hls with rfl|⟨_,x,rfl⟩ <;> rfl,⟨_,rfl⟩,Bn ⟨rfl,?_⟩⟩
    rw[if_pos rfl]
    exact⟨_,rfl,AD (A3 rfl (AL (AX rfl (Cp _ _) ⟨rfl,rfl⟩)))⟩
  have e1:(ws.filterMap λ p=>some (D.im (.int p.1)))=BB (ws.map (·.1)):=by simp[BB]
  rw[e1]
  refine A4 (EG (Bo (Eb (A3 rfl ⟨_,rfl,?_⟩))))
  rw[GO]
  refine⟨Az (by simp;omega),?_⟩
  refine CI (wkD c) (λ p=>some (.im (.int p.2))) (λ _ ls=>∃ x,ls=[some x]) _ (Av _) ?_ ?_
  . rintro p hp ls hls
    refine⟨[some (wkD c p)],by rcases hls with rfl|⟨_,x,rfl⟩ <;> rfl,⟨_,rfl⟩,Bn ⟨rfl,?_⟩⟩
    rw[if_pos rfl]
    refine⟨_,rfl,B6 (A4 (A3 rfl (AB ⟨by simp[wkD,B9],(Mr c p).mono ?_⟩)))⟩
    rintro d y rfl
    exact⟨_,rfl,rfl,rfl⟩
  have e2:(ws.filterMap λ p=>some (D.im (.int p.2)))=BB (ws.map (·.2)):=by simp[BB]
  rw[e2]
  refine AB ((M4 W).mono ?_)
  rintro d x rfl
  rfl
end T56
namespace Fs
noncomputable def Sm(f:Nat->Int)(B:List Nat):Int:=(B.map f).sum
theorem rtr{a b c d e f:Int}(hd:0 < d)(hb:0 <= b)(hf:0 <= f)(h1:c * b <= a * d)(h2:e * d <= c * f):e * b <= a * f:=by
  have k1:c * b * f <= a * d * f:=Int.mul_le_mul_of_nonneg_right h1 hf
  have k2:e * d * b <= c * f * b:=Int.mul_le_mul_of_nonneg_right h2 hb
  have e1:c * b * f=c * f * b:=by rw[Int.mul_assoc,Int.mul_comm b f,<- Int.mul_assoc]
  have e2:a * d * f=a * f * d:=by rw[Int.mul_assoc,Int.mul_comm d f,<- Int.mul_assoc]
  have e3:e * d * b=e * b * d:=by rw[Int.mul_assoc,Int.mul_comm d b,<- Int.mul_assoc]
  exact Int.le_of_mul_le_mul_right (by omega:e * b * d <= a * f * d) hd
variable(up:Nat->Option Nat)(pos:Nat->Nat)(l w:Nat->Int)
noncomputable abbrev Lt(A B:List Nat):Prop:=Sm w A * Sm l B < Sm w B * Sm l A
variable{up pos l w}
section
variable(hup:∀ v u,up v=some u->pos u < pos v)(hl:∀ v,0 < l v)
include hup in
include hup in
include hl in
include hup hl in
end
end Fs
namespace T56
open PySem L2 Bd Bt Sm
theorem Qp(ws:List Wk):(ws.filterMap λ z=>some (D.im (.int z.com)))=(ws.map Wk.com).map (λ i=>D.im (.int i)):=by simp
theorem IS{ws:List Wk}(W:GW ws){ls l2:Ls}(e0:ls=some (.im (AV ws)) :: l2){QT:Bool->Hd->Prop}(q:QT (!decide (same ws)) []) :
    WT (An (mOp gGt (Dc (Bm 3 [] (Cg (A2 0)) (DM 3 (Aw (AU 0) (Aw (AU 1) (Aw (AU 2) DN)))) C1 (A2 1))) (mC (.int 1)))) ls [] QT:=by
  have n8:=W.n8
  subst e0
  refine CB (AD (Lc (Bo (Eb (A3 rfl ⟨_,rfl,?_⟩)))))
  rw[GR]
  refine⟨Az (by simp;omega),?_⟩
  refine CI wD (λ z=>some (.im (.int z.com))) (λ _ ls=>∃ x y z,ls=[some x,some y,some z]) _ (Av _) ?_ ?_
  . rintro p hp ls hls
    refine⟨[some (.im (.int p.len)),some (.im (.int p.com)),some (.im (C6 p.cost))],by rcases hls with rfl|⟨_,x,y,z,rfl⟩ <;> rfl,⟨_,_,_,rfl⟩,Bn ⟨rfl,?_⟩⟩
    rw[if_pos rfl]
    exact⟨_,rfl,A3 rfl ⟨rfl,rfl⟩⟩
  rw[Qp]
  refine⟨_,rfl,by simp;omega,AL (KQ ⟨_,rfl,?_⟩)⟩
  have:decide (1 < ((dkL (ws.map Wk.com)).length:Int))=!decide (same ws):=by
    match ws,W with
    | w :: r,W=>
    rw[List.map_cons,decide_eq_decide.mpr (UF w.com (r.map Wk.com)),decide_not]
    congr 1
    refine decide_eq_decide.mpr ?_
    simp[same,c0]
  rw[this]
  exact q
theorem Nv(bs:List Bool):∃ vs,C9 (blD bs)=some vs/\inV (.bl false) vs=bs.any (!·):=by
  induction bs with
  | nil=>exact⟨[],rfl,rfl⟩
  | cons b r ih=>
    obtain⟨vs,e,h⟩:=ih
    refine⟨.bl b :: vs,?_,?_⟩
    . show((El (.bl b)).bind λ v=>(C9 (blD r)).map (v :: ·))=_
      rw[e];rfl
    . unfold inV at h ⊢
      rw[List.any_cons,h,List.any_cons]
      congr 1
      cases b <;> rfl
theorem Li{ws:List Wk}(W:GW ws){ls l2:Ls}(e0:ls=some (.im (AV ws)) :: l2){QT:Bool->Hd->Prop}(q:QT (!decide (Cq ws)) []) :
    WT (An (HQ false (mC (.bl false)) (Bm 3 [] (Cg (A2 0)) (DM 3 (Aw (AU 0) (Aw (AU 1) (Aw (AU 2) DN)))) C1 (mOp gEq (mOp gIx (A2 2) (mC (.int 0))) (mC (.str "ends")))))) ls [] QT:=by
  have n8:=W.n8
  subst e0
  refine CB (RP (AL (Bo (Eb (A3 rfl ⟨_,rfl,?_⟩)))))
  rw[GR]
  refine⟨Az (by simp;omega),?_⟩
  refine CI wD (λ z=>some (.im (.bl (decide (wd z.cost="ends"))))) (λ _ ls=>∃ x y z,ls=[some x,some y,some z]) _ (Av _) ?_ ?_
  . rintro p hp ls hls
    refine⟨[some (.im (.int p.len)),some (.im (.int p.com)),some (.im (C6 p.cost))],by rcases hls with rfl|⟨_,x,y,z,rfl⟩ <;> rfl,⟨_,_,_,rfl⟩,Bn ⟨rfl,?_⟩⟩
    rw[if_pos rfl]
    obtain⟨is,ei⟩:=KF p.cost
    rw[ei]
    exact⟨_,rfl,AD (AD (A3 rfl (AL (AX rfl (Cp _ _) (AL (LX ⟨rfl,rfl⟩))))))⟩
  have e:(ws.filterMap λ z=>some (D.im (.bl (decide (wd z.cost="ends")))))=blD (ws.map λ z=>decide (wd z.cost="ends")):=by simp[blD]
  rw[e]
  obtain⟨vs,ev,h⟩:=Nv (ws.map λ z=>decide (wd z.cost="ends"))
  refine⟨_,_,vs,rfl,rfl,ev,_,rfl,?_⟩
  have:inV (.bl false) vs=!decide (Cq ws):=by
    rw[h,List.any_map]
    have:=KL (λ z:Wk=>wd z.cost="ends") ws
    rw[List.any_map]at this
    exact this
  rw[if_neg (by decide),this]
  exact q
theorem Qn{ws:List Wk}(W:GW ws)(h:¬ same ws):WF Cz [.im (AV ws)] [] λ d x=>d=.im (.tup [.str "no",.str (Bx ws)]):=by
  unfold Cz
  refine BU rfl ?_
  refine AG (BX (IS W rfl ?_))
  rw[decide_eq_false h]
  refine⟨λ _=>Ar (BH (A4 (AL (A4 (AL (AB ⟨Ch,?_⟩)))))),(λ h=>by cases h)⟩
  show _=_
  unfold Bx;rw[if_neg h];rfl
theorem Qm{ws:List Wk}(W:GW ws)(s:same ws)(h:¬ Cq ws):WF Cz [.im (AV ws)] [] λ d x=>d=.im (.tup [.str "no",.str (Bx ws)]):=by
  unfold Cz
  refine BU rfl ?_
  refine AG (BX (IS W rfl ?_))
  rw[decide_eq_true s]
  refine⟨(λ h=>by cases h),λ _=>BC (A8 ?_)⟩
  refine AG (BX (Li W rfl ?_))
  rw[decide_eq_false h]
  refine⟨λ _=>Ar (BH (A4 (AL (A4 (AL (AB ⟨Ch,?_⟩)))))),(λ h=>by cases h)⟩
  show _=_
  unfold Bx;rw[if_pos s];rfl
noncomputable def vc:List (Int × Int)->Int->Int->Int
  | [],_,f=>f
  | p :: r,e,f=>vc r (e + p.1) (f + p.2 * (e + p.1))
noncomputable abbrev R(p q:Int × Int):Prop:=p.1 * q.2 <= q.1 * p.2
theorem Q5{α β:Type}(f:α->β):∀ {x y:List β},x.Perm y->∀ L:List α,y=L.map f->∃ ks:List α,ks.Perm L/\x=ks.map f:=by
  intro x y h
  induction h with
  | nil=>
    intro L e
    exact⟨L,.refl _,e⟩
  | cons a h ih=>
    intro L e
    cases L with
    | nil=>cases e
    | cons b L=>
      rw[List.map_cons]at e
      obtain⟨rfl,e2⟩:=List.cons.inj e
      obtain⟨ks,p,e3⟩:=ih L e2
      exact⟨b :: ks,.cons _ p,by rw[e3];rfl⟩
  | swap a b l=>
    intro L e
    match L,e with
    | u :: v :: L,e=>
      simp only[List.map_cons,List.cons.injEq]at e
      obtain⟨rfl,rfl,rfl⟩:=e
      exact⟨v :: u :: L,.swap _ _ _,rfl⟩
  | trans h1 h2 i1 i2=>
    intro L e
    obtain⟨k2,p2,e2⟩:=i2 L e
    obtain⟨k1,p1,e1⟩:=i1 k2 e2
    exact⟨k1,p1.trans p2,e1⟩
theorem Ld(l w:Nat->Int):∀ (ks:List Nat) (e f:Int),vc (ks.map λ k=>(l k,w k)) e f=cst l w ks e f
  | [],_,_=>rfl
  | k :: r,e,f=>by rw[List.map_cons,vc,cst];exact Ld l w r _ _
theorem SM(ps:List (Int × Int)):ps=(List.range ps.length).map λ k=>(lf ps k,wf ps k):=by
  refine List.ext_getElem (by simp) λ i h1 h2=>?_
  simp[lf,wf,h1]
theorem Mt{ps out:List (Int × Int)}(c:Int)(pm:out.Perm ps)(pw:out.Pairwise R):vc out c 0=CF (lf ps) (wf ps) c ps.length:=by
  obtain⟨ks,p,rfl⟩:=Q5 (λ k=>(lf ps k,wf ps k)) pm (List.range ps.length) (SM ps)
  rw[Ld]
  refine Nq _ _ _ p ?_
  rw[List.pairwise_map]at pw
  exact pw
noncomputable abbrev pkI(c:Int)(p:Int × Int):I:=B9 (wk c p)
theorem II(c:Int)(p:Int × Int):(pkI c p).py=.tuple [.int p.1,.int c,.tuple [.str "ends",.int p.2]]:=by
  simp[pkI,B9,wk,C6,I.py,I.pys]
theorem eqv_pk{c:Int}{p q:Int × Int}:PyData.eqv (pkI c p).py (pkI c q).py=true ↔ p=q:=by
  rw[II,II]
  obtain⟨a,b⟩:=p;obtain⟨a',b'⟩:=q
  simp[PyData.eqv,PyData.eqvAll]
theorem MJ(c:Int)(p:Int × Int):(pkI c p).py.canLay0=true:=by
  rw[II]
  simp only[PyData.canLay0,PyData.canLayAll0]
  decide +kernel
theorem K5(c:Int):∀ ps:List (Int × Int),PyData.canLayAll0 (I.pys (ps.map (pkI c)))=true
  | []=>by simp[I.pys,PyData.canLayAll0]
  | p :: r=>by rw[List.map_cons,I.pys,PyData.canLayAll0,MJ,K5 c r];rfl
theorem TL(c:Int)(p:Int × Int):(pkI c p).py.depth <= 40:=by
  rw[II]
  simp[PyData.depth,PyData.depthAll]
theorem Sx{c:Int}{ps:List (Int × Int)}{p:Int × Int}(h:p ∈ ps):∃ hk:BR (ps.map (pkI c)) (pkI c p) < ps.length,ps[BR (ps.map (pkI c)) (pkI c p)]=p:=by
  have h1:BR (ps.map (pkI c)) (pkI c p) < (ps.map (pkI c)).length:=List.findIdx_lt_length_of_exists ⟨pkI c p,List.mem_map_of_mem h,eqv_pk.mpr rfl⟩
  have h2:=List.findIdx_getElem (p:=λ j=>PyData.eqv (I.py j) (pkI c p).py) (xs:=ps.map (pkI c)) (w:=h1)
  have h3:BR (ps.map (pkI c)) (pkI c p) < ps.length:=by simpa using h1
  refine⟨h3,?_⟩
  have h4:(ps.map (pkI c))[BR (ps.map (pkI c)) (pkI c p)]=pkI c ps[BR (ps.map (pkI c)) (pkI c p)]:=List.getElem_map ..
  change PyData.eqv ((ps.map (pkI c))[BR (ps.map (pkI c)) (pkI c p)]).py (pkI c p).py=true at h2
  rw[h4]at h2
  exact eqv_pk.mp h2
theorem Go{α:Type}:∀ {l:List α} {k:Nat} (hk:k < l.length),(l[k] :: l.eraseIdx k).Perm l
  | x :: l,0,hk=>.refl _
  | x :: l,k + 1,hk=>(List.Perm.swap x _ _).trans (.cons x (Go (l:=l) (k:=k) (by simpa using hk)))
theorem Px(c:Int)(ps:List (Int × Int)):((ps.map (wk c)).map B9).map D.im=(ps.map (pkI c)).map D.im:=by simp
theorem SQ(c:Int)(p:Int × Int)(r:List (Int × Int)):atI (((p :: r).map (pkI c)).map D.im) 0=some (.im (pkI c p)):=Cp _ _
theorem TR{c:Int}{left:List (Int × Int)}(hl:left.length <= 8)(hb:∀ p ∈ left,1 <= p.1/\p.1 <= 1000000/\0 <= p.2/\p.2 <= 1000000){p0:Int × Int}{r0:List (Int × Int)}(e:left=p0 :: r0){z0 z2 z3 z4 z6:Option D}{M:MS}{Q:Fl->Hd->Prop}
    (q:∀ (p:Int × Int) (z6:Option D),p ∈ left->(∀ x ∈ left,R p x)->WS M [z0,some (.mu 0),z2,z3,z4,some (.im (pkI c p)),z6] [.lst ((left.map (pkI c)).map D.im)] Q) :
    WS (AF (DP (Ds (A2 1)) (AU 6)
      (BT (An (mOp gGt (mOp BJ (mOp gIx (mOp gIx (A2 6) (mC (.int 2))) (mC (.int 1))) (mOp gIx (A2 5) (mC (.int 0)))) (mOp BJ (mOp gIx (mOp gIx (A2 5) (mC (.int 2))) (mC (.int 1))) (mOp gIx (A2 6) (mC (.int 0))))))
      (Ag 5 (A2 6))
      BP)) M) [z0,some (.mu 0),z2,z3,z4,some (.im (pkI c p0)),z6] [.lst ((left.map (pkI c)).map D.im)] Q:=by
  refine AG (EE (IQ (A3 rfl ⟨0,_,rfl,rfl,?_⟩)))
  have gk:∀ h:Hd,h=[.lst ((left.map (pkI c)).map D.im)]->GOk h [(0,(left.map (pkI c)).map D.im)]:=by
    rintro h rfl p hp
    rw[List.mem_singleton]at hp;subst hp;rfl
  refine DB (λ r ls hd=>∃ (dn rest:List (Int × Int)) (p:Int × Int) (z6:Option D),left=dn ++ rest/\r=(rest.map (pkI c)).map D.im/\ls=[z0,some (.mu 0),z2,z3,z4,some (.im (pkI c p)),z6]/\hd=[.lst ((left.map (pkI c)).map D.im)]/\p ∈ left/\∀ x ∈ dn,R p x) ⟨[],left,p0,z6,rfl,rfl,rfl,rfl,by rw[e];simp,by simp⟩ ?_ ?_
  . rintro d r ls hd ⟨dn,rest,p,z6,e1,er,rfl,rfl,hp,hd⟩
    cases rest with
    | nil=>cases er
    | cons x rest=>
    obtain⟨rfl,rfl⟩:=List.cons.inj er
    have hx:x ∈ left:=by rw[e1];simp
    have bx:=hb x hx;have bp:=hb p hp
    refine⟨[z0,some (.mu 0),z2,z3,z4,some (.im (pkI c p)),some (.im (pkI c x))],rfl,?_⟩
    refine BX (CB (AD (AD (AD (AD (A3 rfl (AL (AX rfl (Eu _ _ _ _) (AL (AX rfl (Co _ _ _) (AD (A3 rfl (AL (AX rfl (Cp _ _) ?_))))))))))))))
    refine CH (BW (by omega) (by omega)) ?_
    refine AD (AD (AD (A3 rfl (AL (AX rfl (Eu _ _ _ _) (AL (AX rfl (Co _ _ _) (AD (A3 rfl (AL (AX rfl (Cp _ _) ?_)))))))))))
    refine CH (BW (by omega) (by omega)) (KQ ⟨_,rfl,λ h=>?_,λ h=>?_⟩)
    . have h:x.2 * p.1 > p.2 * x.1:=of_decide_eq_true h
      refine Ao (A3 rfl ⟨gk _ rfl,dn ++ [x],rest,x,_,by rw[e1];simp,rfl,rfl,rfl,hx,λ y hy=>?_⟩)
      rcases List.mem_append.mp hy with hy|hy
      . have by_:=hb y (by rw[e1];simp[hy])
        have h1:=hd y hy
        have h2:p.2 * x.1 <= x.2 * p.1:=by omega
        have:=Fs.rtr (a:=x.2) (b:=x.1) (c:=p.2) (d:=p.1) (e:=y.2) (f:=y.1) (by omega) (by omega) (by omega) h2 (by rw[Int.mul_comm y.2,Int.mul_comm p.2];exact h1)
        show x.1 * y.2 <= y.1 * x.2
        rw[Int.mul_comm x.1,Int.mul_comm y.1];exact this
      . rw[List.mem_singleton.mp hy];exact Int.le_refl _
    . have h:¬ (x.2 * p.1 > p.2 * x.1):=of_decide_eq_false h
      refine BC ⟨gk _ rfl,dn ++ [x],rest,p,_,by rw[e1];simp,rfl,rfl,rfl,hp,λ y hy=>?_⟩
      rcases List.mem_append.mp hy with hy|hy
      . exact hd y hy
      . rw[List.mem_singleton.mp hy]
        show p.1 * x.2 <= x.1 * p.2
        rw[Int.mul_comm p.1,Int.mul_comm x.1];omega
  . rintro ls hd ⟨dn,rest,p,z6,e1,er,rfl,rfl,hp,hd⟩
    have:rest=[]:=by cases rest with
      | nil=>rfl
      | cons _ _=>cases er
    subst this
    rw[List.append_nil]at e1
    subst e1
    exact A8 (q p z6 hp hd)
theorem TK{c:Int}{ps:List (Int × Int)}(G:GW (ps.map (wk c)))(s:same (ps.map (wk c)))(a:Cq (ps.map (wk c)))(W:WOk c ps):WF Cz [.im (Ci c ps)] [] λ d x=>d=.im (.tup [.str "told",.int (CF (lf ps) (wf ps) c ps.length)]):=by
  have n1:=W.n1;have n8:=W.n8
  unfold Cz
  refine BU rfl ?_
  refine AG (BX (IS G rfl ?_))
  rw[decide_eq_true s]
  refine⟨(λ h=>by cases h),λ _=>BC (A8 ?_)⟩
  refine AG (BX (Li G rfl ?_))
  rw[decide_eq_true a]
  refine⟨(λ h=>by cases h),λ _=>BC (A8 ?_)⟩
  refine AG (Ao (EG (P2 (A3 rfl ⟨_,rfl,?_⟩))))
  rw[Px]
  refine A8 ?_
  refine AG (ED (A4 (AD (AD (A3 rfl (AL (AX rfl (LY (k:=0) (by omega)) (AL (AX rfl (Co _ _ _) (A4 (AL (AB ⟨rfl,A8 ?_⟩))))))))))))
  change WS _ [some (.im (Ci c ps)),some (.mu 0),some (.im (.int c)),some (.im (.int 0)),none,none,none] _ _
  refine AG (EE (HB (A4 (Cs (A4 (A3 rfl (AB ?_)))))))
  refine Fc (ds:=((ps.map (wk c)).map B9).map D.im) (z:=.im (.int (ps.length:Int))) rfl (by simp[CO]) ?_
  refine AB ⟨_,rfl,DY (by omega) (by omega),?_⟩
  refine DB (λ r ls hd=>∃ (out left:List (Int × Int)) (e f:Int) (z4 z5 z6:Option D),ls=[some (.im (Ci c ps)),some (.mu 0),some (.im (.int e)),some (.im (.int f)),z4,z5,z6]/\hd=[.lst ((left.map (pkI c)).map D.im)]/\(out ++ left).Perm ps/\out.Pairwise R/\(∀ x ∈ out,∀ y ∈ left,R x y)/\left.length=r.length/\∀ t,vc (out ++ t) c 0=vc t e f) ⟨[],ps,_,_,_,_,_,rfl,rfl,.refl _,.nil,by simp,by simp,λ t=>rfl⟩ ?_ ?_
  . rintro d r ls hd ⟨out,left,e,f,z4,z5,z6,rfl,rfl,pm,pw,cr,ll,hv⟩
    have l8:left.length <= 8:=by have:=pm.length_eq;simp at this;omega
    have hb:∀ p ∈ left,1 <= p.1/\p.1 <= 1000000/\0 <= p.2/\p.2 <= 1000000:=λ p hp=>W.each p (pm.mem_iff.mp (by simp[hp]))
    refine⟨[some (.im (Ci c ps)),some (.mu 0),some (.im (.int e)),some (.im (.int f)),some d,z5,z6],rfl,G7 ?_⟩
    generalize some d=z4
    obtain⟨p0,r0,el⟩:∃ p0 r0,left=p0 :: r0:=by
      cases left with
      | nil=>simp at ll
      | cons p0 r0=>exact⟨p0,r0,rfl⟩
    refine AG (Ao (AD (A3 rfl (AL (AX (e:=.im (pkI c p0)) rfl (by rw[el];exact SQ c p0 r0) (A8 ?_))))))
    refine TR l8 hb el λ p z6 hp hR=>?_
    obtain⟨hk,ek⟩:=Sx (c:=c) hp
    have bp:=hb p hp
    refine AG (EF (I0 (A3 rfl ⟨⟨_,rfl⟩,A4 (A3 rfl (AB (KP rfl (by simpa using hk) (MJ c p) (K5 c left) (TL c p) (A8 ?_))))⟩)))
    generalize BR (left.map (pkI c)) (pkI c p)=k at hk ek
    refine AG (Ao (AD (A3 rfl (AD (A3 rfl (AL (AX rfl (Cp _ _) (Bg (A8 ?_)))))))))
    refine Ao (AD (A3 rfl (AD (AD (AD (A3 rfl (AL (AX rfl (Eu _ _ _ _) (AL (AX rfl (Co _ _ _) (A3 rfl (CH (BW (by omega) (by omega)) (Bg ?_)))))))))))))
    have pe:=Go hk
    rw[ek]at pe
    refine⟨?_,_,rfl,Av _,out ++ [p],left.eraseIdx k,e + p.1,f + p.2 * (e + p.1),_,_,_,rfl,?_,?_,?_,?_,?_,λ t=>?_⟩
    . show(BG 1 (((left.map (pkI c)).eraseIdx k).map D.im) && true)=true
      rw[Qq];rfl
    . show [MO.lst (((left.map (pkI c)).eraseIdx k).map D.im)]=_
      rw[show(left.map (pkI c)).eraseIdx k=(left.eraseIdx k).map (pkI c)from Bd.erase_map _ _ _]
    . refine List.Perm.trans ?_ pm
      rw[List.append_assoc]
      exact List.Perm.append_left _ pe
    . rw[List.pairwise_append]
      exact⟨pw,List.pairwise_singleton _ _,λ x hx y hy=>by rw[List.mem_singleton.mp hy];exact cr x hx p hp⟩
    . intro x hx y hy
      have hy':y ∈ left:=List.mem_of_mem_eraseIdx hy
      rcases List.mem_append.mp hx with hx|hx
      . exact cr x hx y hy'
      . rw[List.mem_singleton.mp hx];exact hR y hy'
    . rw[List.length_eraseIdx,if_pos hk];simp at ll;omega
    . rw[List.append_assoc,hv];rfl
  . rintro ls hd ⟨out,left,e,f,z4,z5,z6,rfl,rfl,pm,pw,cr,ll,hv⟩
    have:left=[]:=List.length_eq_zero_iff.mp ll
    subst this
    rw[List.append_nil]at pm
    refine A8 (Ar (BH (A4 (AL (A4 (A3 rfl (AB ⟨Ch,?_⟩)))))))
    have h1:=hv []
    rw[List.append_nil,Mt c pm pw]at h1
    rw[h1]
    rfl
theorem Gz{is js:List I}{hd:Hd}{QE:D->Hd->Prop}(h0:is ≠ [])(h1:is.length + js.length <= 100)(q:QE (.im (.tup (is ++ js))) hd):WP (Ab (.im (.tup is)) (.im (.tup js)) hd) QE:=by
  have cat:Om (is.map D.im) (js.map D.im):=⟨by simpa using h0,Az (by simp;omega)⟩
  refine WP.eq (z:=.im (.tup (is ++ js))) (h:=hd) ?_ q
  show(match HY (.im (.tup is)) (.im (.tup js)) hd with|some z=>some z|none=>Ek (.im (.tup is)) (.im (.tup js)) hd)=_
  rw[show HY (.im (.tup is)) (.im (.tup js)) hd=none from rfl]
  unfold Ek
  rw[show Aa (.im (.tup is))=some (is.map D.im)from rfl,show Aa (.im (.tup js))=some (js.map D.im)from rfl,Option.bind_some,Option.bind_some,if_pos cat,<- List.map_append,Cl]
theorem Jf{is js:List I}{hd:Hd}{QE:D->Hd->Prop}(h1:is.length + js.length <= 100)(q:QE (.im (.tup (is ++ js))) hd):WP (LN (.im (.tup is)) (.im (.tup js)) hd) QE:=by
  by_cases h0:is=[]
  . subst h0
    refine WP.eq (z:=.im (.tup js)) (h:=hd) ?_ q
    show(match Ab (.im (.tup [])) (.im (.tup js)) hd with|some z=>some z|none=>Fq (.im (.tup [])) (.im (.tup js)) hd)=_
    have e:Ab (.im (.tup [])) (.im (.tup js)) hd=none:=by
      show(match HY (.im (.tup [])) (.im (.tup js)) hd with|some z=>some z|none=>Ek (.im (.tup [])) (.im (.tup js)) hd)=_
      rw[show HY (.im (.tup [])) (.im (.tup js)) hd=none from rfl]
      unfold Ek
      rw[show Aa (.im (.tup []))=some []from rfl,show Aa (.im (.tup js))=some (js.map D.im)from rfl,Option.bind_some,Option.bind_some,if_neg (λ z=>z.1 rfl)]
    rw[e]
    unfold Fq
    rw[show Aa (.im (.tup []))=some []from rfl,show Aa (.im (.tup js))=some (js.map D.im)from rfl,Option.bind_some,Option.bind_some,if_pos rfl,Cl]
  . obtain⟨d,x,e,q⟩:=Gz (QE:=QE) h0 h1 q
    refine⟨d,x,?_,q⟩
    show(match Ab (.im (.tup is)) (.im (.tup js)) hd with|some z=>some z|none=>Fq (.im (.tup is)) (.im (.tup js)) hd)=_
    rw[e]
theorem Os{i j k:Nat}{m:MA}{ls:Ls}{hd:Hd}{QS:Fl->Hd->Prop}(h:WA m ls hd λ ds x=>∃ d1 d2 d3,ds=[d1,d2,d3]/\QS (.nx (((ls.set k (some d3)).set j (some d2)).set i (some d1))) x):WS (Fk i j k m) ls hd QS:=by
  obtain⟨ds,x,e,d1,d2,d3,rfl,q⟩:=h
  exact⟨_,_,by simp[Fk,C2,e],q⟩
theorem Gw{F:List D->Hd->Option (D × Hd)}{m:MA}{ls:Ls}{hd:Hd}{QE:D->Hd->Prop}(h:WA m ls hd λ ds x=>∃ (a b:MO) (rest:Hd) (as:List D) (R:I->Prop),x=a :: b :: rest/\ds=.mu 1 :: as/\T 0 a b/\BG 2 as=true/\(∀ a b,T 0 a b->WF F (.mu 1 :: as) [a,b] λ d x=>∃ i a' b' g,d=.im i/\R i/\T 0 a' b'/\x=a' :: b' :: g)/\∀ i a' b',T 0 a' b'->R i->QE (.im i) (a' :: b' :: rest)):WE (AC 2 F m) ls hd QE:=by
  obtain⟨ds,x,e,a,b,rest,as,R,rfl,rfl,hT,hc,hF,k⟩:=h
  exact tap.call (n:=0) (c:=0) hT e hc hF k
theorem Oi{m:MA}{ls:Ls}{hd:Hd}{QE:D->Hd->Prop}(h:WA m ls hd λ ds x=>∃ (a b:MO) (rest:Hd) (many:Int),x=a :: b :: rest/\ds=[.mu 1,.im (.int many)]/\T 0 a b/\0 < many/\many < 1073741824/\∀ r a' b',T 0 a' b'->0 <= r->r < many->QE (.im (.int r)) (a' :: b' :: rest)):WE (AC 2 AN m) ls hd QE:=by
  obtain⟨ds,x,e,a,b,rest,many,rfl,rfl,hT,h0,h1,k⟩:=h
  exact tap.draw (n:=0) hT e h0 h1 k
theorem at4{r:Int}(h0:0 <= r)(h1:r < 4)(x y z w:D):∃ d,(d=x ∨ d=y ∨ d=z ∨ d=w)/\atI [x,y,z,w] r=some d:=by
  have:r=0 ∨ r=1 ∨ r=2 ∨ r=3:=by omega
  rcases this with rfl|rfl|rfl|rfl
  . exact⟨x,.inl rfl,Be (j:=0) rfl⟩
  . exact⟨y,.inr (.inl rfl),Be (j:=1) rfl⟩
  . exact⟨z,.inr (.inr (.inl rfl)),Be (j:=2) rfl⟩
  . exact⟨w,.inr (.inr (.inr rfl)),Be (j:=3) rfl⟩
theorem TM:∀ a b,T 0 a b->WF Fa [.mu 1] [a,b] λ d x=>∃ i a' b' g,d=.im i/\(∃ c:Cost,i=C6 c/\∀ x,c ≠ .ends x)/\T 0 a' b'/\x=a' :: b' :: g:=by
  intro a b hT
  unfold Fa
  refine BU rfl ?_
  refine AG (ED (A4 (AD ?_)))
  refine tap.draw (n:=0) hT rfl (by decide) (by decide) λ due a b hT d1 d2=>AL (LW (A4 ?_))
  refine tap.draw (n:=0) hT rfl (by decide) (by decide) λ wt a b hT p1 q1=>AB ⟨rfl,A8 ?_⟩
  generalize ed:due - 99=du
  change WS _ [some (.mu 1),some (.im (.int du)),some (.im (.int wt)),none,none,none,none,none] _ _
  refine AG (Os (A4 (Cs (A4 (A3 rfl (A4 (AL (AB (Gy (A4 (AL (A4 (EG (GQ (AB ⟨MR,AB ⟨_,_,_,rfl,A8 ?_⟩⟩)))))))))))))))
  change WS _ [some (.mu 1),some (.im (.int du)),some (.im (.int wt)),some (.im (.int (min du 300))),some (.im (.int 0)),some (.mu 2),none,none] _ _
  refine AG (EE (HB (A4 (AD (AL ?_)))))
  refine tap.draw (n:=0) hT rfl (by decide) (by decide) λ r1 a b hT p2 q2=>Bg (AB ⟨_,rfl,DY (by omega) (by omega),?_⟩)
  refine DB (λ r ls hd=>∃ (rows:List (Int × Int)) (s h:Int) (a b:MO) (z:Option D),ls=[some (.mu 1),some (.im (.int du)),some (.im (.int wt)),some (.im (.int s)),some (.im (.int h)),some (.mu 2),z,none]/\hd=[a,b,.lst (rows.map DS)]/\T 0 a b/\rows.length + r.length <= 5) ?_ ?_ ?_
  . refine⟨[],_,_,a,b,none,rfl,rfl,hT,?_⟩
    simp;omega
  . rintro d r ls hd ⟨rows,s,h,a,b,z,rfl,rfl,hT,hl⟩
    simp only[List.length_cons]at hl
    refine⟨_,rfl,?_⟩
    refine AG (Ao (AD (AD (A3 rfl (AL (Bg ?_))))))
    refine tap.draw (n:=0) hT rfl (by decide) (by decide) λ r3 a b hT p3 q3=>Bg (A8 ?_)
    refine AG (Ao (AD (A3 rfl ?_)))
    refine tap.draw (n:=0) hT rfl (by decide) (by decide) λ r4 a b hT p4 q4=>Bg (A8 ?_)
    refine EF (I0 (A3 rfl ⟨⟨_,rfl⟩,A4 (BH (A4 (A3 rfl (A4 (A3 rfl (AB ⟨Ch,AB (GN rfl (Em (by simp;omega)) ?_)⟩))))))⟩))
    exact⟨Av _,rows ++ [(s + 1 + r3,h + r4)],_,_,a,b,_,rfl,by simp[DS],hT,by simp;omega⟩
  . rintro ls hd ⟨rows,s,h,a,b,z,rfl,rfl,hT,hl⟩
    refine A8 (AG (Ao (EG (GQ (A4 (BH (A4 (AL (A4 (A3 rfl (AB ⟨Ch,A4 ?_⟩)))))))))))
    refine BH (A4 (AL (A4 (A3 rfl (A4 (A3 rfl (AB ⟨Dv,A4 ?_⟩)))))))
    refine BH (A4 (AL (A4 (A3 rfl (A4 (A3 rfl (AB ⟨Dv,AB ⟨Dv,A8 ?_⟩⟩)))))))
    have e:rows.map DS=(rows.map Kh).map D.im:=by simp[DS,Kh]
    refine AG (EF (I0 (A3 rfl ⟨⟨_,rfl⟩,A4 (BH (A4 (AL (A4 (Cs (A4 (A3 rfl (AB (Fc (z:=.im (.tup (rows.map Kh))) rfl (by rw[e];exact congrArg some (Cl _)) (AB ⟨Ch,AB (GN rfl (Em (by simp)) (A8 ?_))⟩))))))))))⟩)))
    refine Ar (AD (A3 rfl ?_))
    refine tap.draw (n:=0) hT rfl (by decide) (by decide) λ r5 a b hT p5 q5=>?_
    obtain⟨d,hd,ed⟩:=at4 p5 q5 (.im (C6 (.late du))) (.im (C6 (.tardy du wt))) (.im (C6 (.miss du wt))) (.im (C6 (.steps rows)))
    refine AX rfl ed ?_
    rcases hd with rfl|rfl|rfl|rfl
    . exact⟨_,a,b,_,rfl,⟨_,rfl,λ x q=>nomatch q⟩,hT,rfl⟩
    . exact⟨_,a,b,_,rfl,⟨_,rfl,λ x q=>nomatch q⟩,hT,rfl⟩
    . exact⟨_,a,b,_,rfl,⟨_,rfl,λ x q=>nomatch q⟩,hT,rfl⟩
    . exact⟨_,a,b,_,rfl,⟨_,rfl,λ x q=>nomatch q⟩,hT,rfl⟩
theorem Lb{ws:List Wk}(n8:ws.length <= 8){k:Nat}(hk:k < ws.length){ls:Ls}{hd:Hd}(h1:ls[1]? = some (some (.im (AV ws))))(h2:ls[2]? = some (some (.im (.int (k:Int))))){QE:D->Hd->Prop}(q:QE (.im (.tup ((ws.take k).map B9))) hd):WE (E8 (A2 1) Bs (Cd (A2 2))) ls hd QE:=by
  refine La (A3 h1 (OD (Jg (A3 h2 ⟨_,rfl,_,rfl,?_,?_⟩))))
  . rw[HT.sIx_nat]
    simp only[List.length_map]
    omega
  . rw[Dx,HT.sIx_nat,HT.sIx_none,List.drop_zero,Nat.sub_zero]
    simp only[List.length_map]
    rw[Nat.min_eq_left (by omega),<- List.map_take,<- List.map_take,Cl]
    exact q
theorem LZ{ws:List Wk}(n8:ws.length <= 8){k:Nat}(hk:k < ws.length){ls:Ls}{hd:Hd}(h1:ls[1]? = some (some (.im (AV ws))))(h2:ls[2]? = some (some (.im (.int (k:Int))))){QE:D->Hd->Prop}(q:QE (.im (.tup ((ws.drop (k + 1)).map B9))) hd):WE (E8 (A2 1) (Cd (mOp Ab (A2 2) (mC (.int 1)))) Bs) ls hd QE:=by
  refine La (A3 h1 (Jg (AD (A3 h2 (AL (Bg ⟨_,rfl,OD ⟨_,rfl,?_,?_⟩⟩))))))
  . rw[show(k:Int) + 1=((k + 1:Nat):Int) by simp,HT.sIx_nat]
    simp only[List.length_map]
    omega
  . rw[Dx,show(k:Int) + 1=((k + 1:Nat):Int) by simp,HT.sIx_nat,HT.sIx_none]
    simp only[List.length_map]
    rw[Nat.min_eq_left (by omega),<- List.map_drop,<- List.map_drop,<- List.map_take,<- List.map_take,List.take_of_length_le (by simp),Cl]
    exact q
theorem MQ{ws:List Wk}(W:GW ws){k:Nat}(hk:k < ws.length){w:Wk}(hw:1 <= w.len/\w.len <= 1000000/\0 <= w.com/\w.com <= 60/\∀ x,w.cost=.ends x->0 <= x/\x <= 1000000):GW (ws.take k ++ w :: ws.drop (k + 1)):=by
  have n8:=W.n8
  refine⟨by simp;omega,by simp;omega,λ z hz=>?_⟩
  rcases List.mem_append.mp hz with h|h
  . exact W.each z (List.mem_of_mem_take h)
  . rcases List.mem_cons.mp h with rfl|h
    . exact hw
    . exact W.each z (List.mem_of_mem_drop h)
theorem KO{ws:List Wk}{k:Nat}(hk:k < ws.length):atI ((ws.map B9).map D.im) (k:Int)=some (wD ws[k]):=GL rfl (by simp[hk])
theorem TQ{ws:List Wk}(k:Nat)(w:Wk):((ws.take k).map B9 ++ [B9 w]) ++ (ws.drop (k + 1)).map B9=(ws.take k ++ w :: ws.drop (k + 1)).map B9:=by simp
theorem IR{ws:List Wk}(W:GW ws):∀ a b,T 0 a b->WF Cr [.mu 1,.im (AV ws)] [a,b] λ d x=>∃ i a' b' g,d=.im i/\(∃ ws',i=AV ws'/\GW ws')/\T 0 a' b'/\x=a' :: b' :: g:=by
  intro a b hT
  have n1:=W.n1;have n8:=W.n8
  unfold Cr
  refine BU rfl ?_
  refine AG (ED (A4 (Oi (A4 (A3 rfl (A4 (Cs (A4 (A3 rfl (AB ?_))))))))))
  refine Fc (ds:=(ws.map B9).map D.im) (z:=.im (.int (ws.length:Int))) rfl (by simp[CO]) ?_
  refine AB ⟨a,b,[],_,rfl,rfl,hT,by omega,by omega,λ r a b hT r1 r2=>A4 (AD (AL ?_))⟩
  refine tap.draw (n:=0) hT rfl (by decide) (by decide) λ by_ a b hT b1 b2=>Bg (AB ⟨rfl,A8 ?_⟩)
  obtain⟨k,rfl⟩:∃ k:Nat,r=(k:Int):=⟨r.toNat,by omega⟩
  have hk:k < ws.length:=by omega
  change WS _ [some (.mu 1),some (.im (AV ws)),some (.im (.int (k:Int))),some (.im (.int (1 + by_))),none,none,none] _ _
  have hw:=W.each _ (List.getElem_mem hk)
  refine AG (IM (AD (A3 rfl (A3 rfl (AX rfl (KO hk) ⟨[some (.mu 1),some (.im (AV ws)),some (.im (.int (k:Int))),some (.im (.int (1 + by_))),some (.im (.int ws[k].len)),some (.im (.int ws[k].com)),some (.im (C6 ws[k].cost))],rfl,A8 ?_⟩)))))
  refine Ar (AD (AD (Lb n8 hk rfl rfl (BH (A4 (BH (A4 (A3 rfl (A4 (AD (AD (A3 rfl (A3 rfl (Bg (AL ?_)))))))))))))))
  refine R0 (by unfold Bk;decide) (A4 (A3 rfl (AB ⟨Dv,AB ⟨FU,?_⟩⟩)))
  refine Jf (js:=[B9 ⟨ws[k].len,(ws[k].com + (1 + by_)) % 61,ws[k].cost⟩]) (by simp;omega) (LZ n8 hk rfl rfl ?_)
  refine Gz (by simp) (by simp;omega) ?_
  rw[TQ]
  refine⟨_,a,b,[],rfl,⟨_,rfl,MQ W hk ⟨hw.1,hw.2.1,?_,?_,hw.2.2.2.2⟩⟩,hT,rfl⟩
  . show 0 <= (ws[k].com + (1 + by_)) % 61;omega
  . show(ws[k].com + (1 + by_)) % 61 <= 60;omega
theorem QC{ws:List Wk}(W:GW ws):∀ a b,T 0 a b->WF EZ [.mu 1,.im (AV ws)] [a,b] λ d x=>∃ i a' b' g,d=.im i/\(∃ ws',i=AV ws'/\GW ws')/\T 0 a' b'/\x=a' :: b' :: g:=by
  intro a b hT
  have n1:=W.n1;have n8:=W.n8
  unfold EZ
  refine BU rfl ?_
  refine AG (ED (A4 (Oi (A4 (A3 rfl (A4 (Cs (A4 (A3 rfl (AB ?_))))))))))
  refine Fc (ds:=(ws.map B9).map D.im) (z:=.im (.int (ws.length:Int))) rfl (by simp[CO]) ?_
  refine AB ⟨a,b,[],_,rfl,rfl,hT,by omega,by omega,λ r a b hT r1 r2=>A4 ?_⟩
  refine tap.call (n:=0) (c:=0) hT (as:=[]) (rest:=[]) rfl rfl TM ?_
  rintro i a b hT ⟨cc,rfl,nE⟩
  refine AB ⟨rfl,A8 ?_⟩
  obtain⟨k,rfl⟩:∃ k:Nat,r=(k:Int):=⟨r.toNat,by omega⟩
  have hk:k < ws.length:=by omega
  change WS _ [some (.mu 1),some (.im (AV ws)),some (.im (.int (k:Int))),some (.im (C6 cc)),none] _ _
  have hw:=W.each _ (List.getElem_mem hk)
  refine AG (Ao (BH (A4 (AD (AD (A3 rfl (A3 rfl (AX rfl (KO hk) (AL (AX rfl (Cp _ _) (A4 ?_)))))))))))
  refine AD (AD (A3 rfl (A3 rfl (AX rfl (KO hk) (AL (AX rfl (Co _ _ _) (A4 (A3 rfl (AB ⟨Dv,A8 ?_⟩)))))))))
  refine Ar (AD (AD (Lb n8 hk rfl rfl (BH (A4 (A3 rfl (AB ⟨FU,?_⟩)))))))
  refine Jf (js:=[B9 ⟨ws[k].len,ws[k].com,cc⟩]) (by simp;omega) (LZ n8 hk rfl rfl ?_)
  refine Gz (by simp) (by simp;omega) ?_
  rw[TQ]
  exact⟨_,a,b,[],rfl,⟨_,rfl,MQ W hk ⟨hw.1,hw.2.1,hw.2.2.1,hw.2.2.2.1,λ x q=>absurd q (nE x)⟩⟩,hT,rfl⟩
theorem Kf{f:Nat->Int}:∀ {ks:List Nat},(∀ k ∈ ks,0 <= f k)->0 <= Sm.sm f ks
  | [],_=>by simp[Sm.sm]
  | k :: r,h=>by
    have:=h k (by simp)
    have:=Kf (ks:=r) λ x hx=>h x (by simp[hx])
    rw[Sm.sm];omega
theorem OV{g:Nat->Nat->Int}:∀ {ks:List Nat},(∀ x ∈ ks,∀ y ∈ ks,0 <= g x y)->0 <= Sm.ps g ks
  | [],_=>by simp[Sm.ps]
  | k :: r,h=>by
    have:=Kf (f:=g k) (ks:=r) λ x hx=>h k (by simp) x (by simp[hx])
    have:=OV (ks:=r) λ x hx y hy=>h x (by simp[hx]) y (by simp[hy])
    rw[Sm.ps];omega
theorem Ol{l w:Nat->Int}:∀ {ks:List Nat} {e f:Int},(∀ k ∈ ks,1 <= l k/\l k <= 1000000/\0 <= w k/\w k <= 1000000)->0 <= e->e + 1000000 * (ks.length:Int) <= 9000000->cst l w ks e f <= f + 9000000000000 * (ks.length:Int)
  | [],e,f,_,_,_=>by simp[cst]
  | k :: r,e,f,h,h0,h1=>by
    have b:=h k (by simp)
    rw[List.length_cons]at h1 ⊢
    have ih:=Ol (ks:=r) (e:=e + l k) (f:=f + w k * (e + l k)) (λ x hx=>h x (by simp[hx])) (by omega) (by omega)
    have m1:w k * (e + l k) <= 1000000 * (e + l k):=Int.mul_le_mul_of_nonneg_right b.2.2.2 (by omega)
    rw[cst]
    omega
theorem QZ{c:Int}{ps:List (Int × Int)}(W:WOk c ps):0 <= CF (lf ps) (wf ps) c ps.length/\CF (lf ps) (wf ps) c ps.length <= 72000000000000:=by
  have n8:=W.n8;have c0:=W.c0;have c1:=W.c1
  have hk:∀ k ∈ List.range ps.length,1 <= lf ps k/\lf ps k <= 1000000/\0 <= wf ps k/\wf ps k <= 1000000:=λ k hk=>JI W (by simpa using hk)
  constructor
  . unfold CF
    have h1:=Kf (f:=λ k=>wf ps k * (c + lf ps k)) (ks:=List.range ps.length) λ k h=>by
      have:=hk k h
      exact Int.mul_nonneg (by omega) (by omega)
    have h2:=OV (g:=λ x y=>min (lf ps x * wf ps y) (lf ps y * wf ps x)) (ks:=List.range ps.length) λ x hx y hy=>by
      have a:=hk x hx;have b:=hk y hy
      have p1:0 <= lf ps x * wf ps y:=Int.mul_nonneg (by omega) (by omega)
      have p2:0 <= lf ps y * wf ps x:=Int.mul_nonneg (by omega) (by omega)
      show 0 <= min (lf ps x * wf ps y) (lf ps y * wf ps x)
      omega
    exact Int.add_nonneg h1 h2
  . have h1:=Np (lf ps) (wf ps) c (List.Perm.refl (List.range ps.length))
    have h2:=Ol (ks:=List.range ps.length) (e:=c) (f:=0) hk c0 (by rw[List.length_range];omega)
    rw[List.length_range]at h2
    omega
theorem RY{ws:List Wk}(W:GW ws)(s:same ws)(a:Cq ws){ps:List (Int × Int)}(e:ws=ps.map (wk (c0 ws)))(P:WOk (c0 ws) ps):WF DK [.im (AV ws)] [] λ d x=>d=.im (.tup [.str "told",.int (CF (lf ps) (wf ps) (c0 ws) ps.length)]):=by
  unfold DK
  refine BU rfl ?_
  refine AG (Ao (BH (A4 (AL (AB ⟨FU,A8 ?_⟩)))))
  have ow:WF Bj [.im (AV ws)] [] λ d x=>d=.im (.int (CF (lf ps) (wf ps) (c0 ws) ps.length)):=by
    have:=Kw P
    rw[Ci,<- e]at this
    exact this
  refine AG (Op (Ao (BH (A4 (AL (A4 (B6 (A4 (A3 rfl (AB ⟨by simp,ow.mono ?_⟩))))))))))
  rintro d x rfl
  exact⟨_,rfl,AB ⟨Ch,A8 (Ar (A3 rfl rfl))⟩⟩
theorem Lh{ws:List Wk}(W:GW ws)(h:¬ (same ws/\Cq ws)):WF DK [.im (AV ws)] [] λ d x=>d=.im (.tup [.str "no",.str (Bx ws)]):=by
  unfold DK
  refine BU rfl ?_
  refine AG (Ao (BH (A4 (AL (AB ⟨FU,A8 ?_⟩)))))
  change WS _ [some (.im (AV ws)),some (.im (.tup [.str "other"])),none,none] _ _
  have xw:WF CG [.im (AV ws)] [] λ d x=>d=.im (.str (Bx ws)):=by
    unfold CG
    refine GP rfl ?_
    refine AG (Fb (FV (CP DI)) (Ar (B6 (A4 (A3 rfl (AB ⟨by simp,(KR W h).mono ?_⟩))))))
    rintro d x rfl
    exact⟨_,rfl,_,rfl,_,rfl,rfl⟩
  have d0:=FV (i:=1) (Qo (MY (ma:=mC (.str "told")) (O1 (mr:=A7) (CP (w:=0) (ma:=A1 (A2 0) A7) Je))))
  refine AG (Oo (Gq d0) ⟨by show 2 < 4;decide,by show 3 < 4;decide,by show 1 < 4;decide⟩ (Fb d0 (Ar (Oy (AL (B6 (A4 (A3 rfl (AB ⟨by simp,xw.mono ?_⟩)))))))))
  rintro d x rfl
  exact⟨_,rfl,_,rfl,_,rfl,A8 (Ar (A3 rfl rfl))⟩
theorem okS{x:Str}(h:x="told" ∨ x="no" ∨ x="coming" ∨ x="ends"):OkP 40 0 (I.py (.str x)):=by
  rw[I.py]
  rcases h with rfl|rfl|rfl|rfl <;> exact⟨by decide +kernel,by decide +kernel,by decide +kernel,by decide +kernel,by decide +kernel⟩
theorem OK(ws:List Wk):Do (I.py (.tup [.str "no",.str (Bx ws)])):=by
  refine((QJ (w:=1263) (dp:=3) (is:=[.str "no",.str (Bx ws)]) λ i hi=>?_).mono (w':=3000) (by simp) (Nat.le_refl 4)).repr rfl (by omega) (by omega)
  simp only[List.mem_cons,List.not_mem_nil,or_false]at hi
  rcases hi with rfl|rfl
  . exact(okS (by simp)).mono (by omega) (by omega)
  . refine(okS ?_).mono (by omega) (by omega)
    unfold Bx;split <;> simp
theorem PP{i:Int}(h0:0 <= i)(h1:i <= 72000000000000):Do (I.py (.tup [.str "told",.int i])):=by
  have e:I.py (.tup [.str "told",.int i])=.tuple [.str "told",.int i]:=by simp[I.py,I.pys]
  rw[e]
  have lg:i.natAbs.log2 < 1920:=by
    by_cases z:i.natAbs=0
    . rw[z];decide
    . have:i.natAbs.log2 < 60:=(Nat.log2_lt z).mpr (by omega)
      omega
  refine⟨?_,?_,rfl,?_,?_⟩
  . simp[PyData.showable,PyData.showableAll,lg]
  . simp[PyData.hasDict,PyData.hasDictAll]
  . simp[PyData.depth,PyData.depthAll]
  . have h2:=int_text_length_le10 (a:=i) (k:=14) (by decide) (by omega)
    have h3:=PySem.tupleText_len_le (PyData.shownAll [.str "told",.int i])
    have h4:(PyData.shown (.int i)).length <= 15:=by
      simp only[PyData.shown]
      rw[PySem.ofString_length]
      omega
    have h5:(PyData.shown (.str "told")).length=6:=by
      simp only[PyData.shown]
      decide +kernel
    have h6:(((PyData.shownAll [.str "told",.int i]).map (·.length)).sum) <= 21:=by
      simp only[PyData.shownAll,List.map_cons,List.map_nil,List.sum_cons,List.sum_nil]
      omega
    show(tupleText (PyData.shownAll [.str "told",.int i])).length <= sizeLine
    have h7:(PyData.shownAll [.str "told",.int i]).length=2:=by simp[PyData.shownAll]
    have:(30:Nat) <= sizeLine:=by decide
    omega
theorem UH{ws:List Wk}(W:GW ws):∃ i:I,Do i.py/\(WF DK [.im (AV ws)] [] λ d x=>d=.im i)/\WF Cz [.im (AV ws)] [] λ d x=>d=.im i:=by
  by_cases s:same ws
  . by_cases a:Cq ws
    . obtain⟨ps,e,P⟩:=Nj W s a
      have tn:=RY W s a e P
      have lb:=QZ P
      refine⟨_,PP lb.1 lb.2,tn,?_⟩
      generalize c0 ws=c at e P
      subst e
      exact TK W s a P
    . exact⟨_,OK ws,Lh W (λ h=>a h.2),Qm W s a⟩
  . exact⟨_,OK ws,Lh W (λ h=>s h.1),Qn W s⟩
theorem U9{c:Int}{ps:List (Int × Int)}(P:WOk c ps):GW (ps.map (wk c)):=by
  refine⟨by simpa using P.n1,by simpa using P.n8,λ w hw=>?_⟩
  obtain⟨p,hp,rfl⟩:=List.mem_map.mp hw
  have:=P.each p hp
  refine⟨this.1,this.2.1,P.c0,P.c1,λ x q=>?_⟩
  cases q
  exact⟨this.2.2.1,this.2.2.2⟩
theorem R8{n:Nat}(h1:1 <= n)(hn:n <= 8):∀ a b,T 0 a b->WF Dd [.mu 1,.im (.int (n:Int))] [a,b] λ d x=>∃ i a' b' g,d=.im i/\(∃ ws,i=AV ws/\GW ws)/\T 0 a' b'/\x=a' :: b' :: g:=λ a b hT=>(Ox h1 hn a b hT).mono (by
  rintro d x ⟨i,a',b',g,rfl,⟨c,ps,rfl,_,P⟩,hT,rfl⟩
  exact⟨_,a',b',g,rfl,⟨_,rfl,U9 P⟩,hT,rfl⟩)
theorem U8(ns:List Int):WF F_law [.ro ns] [] λ d x=>d=.im (.bl true):=by
  unfold F_law
  refine BU rfl ?_
  obtain⟨τ,q⟩:=P6 ns
  refine AG (Ao (G8 (A4 (A3 rfl (AB (WP.eq q (A8 ?_)))))))
  refine AG (EE (HB (A4 (AL (AB ⟨_,rfl,DY (by decide) (by decide),?_⟩)))))
  refine DB (λ r ls hd=>∃ (a b:MO) (z2 z3 z4 z5 z6:Option D),ls=[some (.ro ns),some (.mu 1),z2,z3,z4,z5,z6]/\hd=[a,b]/\T 0 a b) ⟨_,_,none,none,none,none,none,rfl,rfl,⟨τ,rfl⟩⟩ ?_ ?_
  . rintro d r ls hd ⟨a,b,z2,z3,z4,z5,z6,rfl,rfl,hT⟩
    refine⟨[some (.ro ns),some (.mu 1),some d,z3,z4,z5,z6],rfl,?_⟩
    generalize some d=z2
    refine G7 (AG (Ao (Gw (A4 (A3 rfl (A4 (AD (AL ?_))))))))
    refine tap.draw (n:=0) hT rfl (by decide) (by decide) λ r1 a b hT pr1 qr1=>?_
    refine Bg (AB ?_)
    obtain⟨n,hn',hn1,hn8⟩:∃ n:Nat,1 + r1=(n:Int)/\1 <= n/\n <= 8:=⟨(1 + r1).toNat,by omega,by omega,by omega⟩
    rw[hn']
    refine⟨a,b,[],_,_,rfl,rfl,hT,by simp,R8 hn1 hn8,?_⟩
    rintro i a b hT ⟨ws,rfl,W⟩
    refine A8 (AG (ED (A4 (Gw (A4 (A3 rfl (A4 (A3 rfl (AB ?_)))))))))
    refine⟨a,b,[],_,_,rfl,rfl,hT,by simp,IR W,?_⟩
    rintro i a b hT ⟨ws1,rfl,W1⟩
    refine A4 (Gw (A4 (A3 rfl (A4 (A3 rfl (AB ?_))))))
    refine⟨a,b,[],_,_,rfl,rfl,hT,by simp,QC W,?_⟩
    rintro i a b hT ⟨ws2,rfl,W2⟩
    refine AB ⟨rfl,A8 ?_⟩
    change WS _ [some (.ro ns),some (.mu 1),z2,some (.im (AV ws)),some (.im (AV ws1)),some (.im (AV ws2)),z6] _ _
    refine EE (RJ (GQ (A4 (A3 rfl (A4 (A3 rfl (A4 (A3 rfl (A4 ?_)))))))))
    refine Gw (A4 (A3 rfl (A4 (A3 rfl (AB ?_)))))
    refine⟨a,b,[],_,_,rfl,rfl,hT,by simp,IR W2,?_⟩
    rintro i a b hT ⟨ws3,rfl,W3⟩
    refine A4 (A3 rfl (AB ⟨Az (by simp),?_⟩))
    refine DB (λ r ls hd=>∃ (z2 z6:Option D),ls=[some (.ro ns),some (.mu 1),z2,some (.im (AV ws)),some (.im (AV ws1)),some (.im (AV ws2)),z6]/\hd=[a,b]/\∀ d ∈ r,∃ vs,d=.im (AV vs)/\GW vs) ⟨_,_,rfl,rfl,λ d hd=>?_⟩ ?_ ?_
    . simp only[List.mem_cons,List.not_mem_nil,or_false]at hd
      rcases hd with rfl|rfl|rfl|rfl|rfl
      . exact⟨_,rfl,W⟩
      . exact⟨_,rfl,W1⟩
      . exact⟨_,rfl,W2⟩
      . exact⟨_,rfl,W3⟩
      . exact⟨_,rfl,W⟩
    . rintro d r ls hd ⟨z2,z6,rfl,rfl,hall⟩
      obtain⟨vs,rfl,V⟩:=hall d (by simp)
      have hall:∀ d ∈ r,∃ vs,d=.im (AV vs)/\GW vs:=λ d hd=>hall d (by simp[hd])
      refine⟨_,rfl,?_⟩
      obtain⟨i,ok,h1,h2⟩:=UH V
      refine G7 (BX (CB (AD (Cs (A4 (B6 (A4 (A3 rfl (AB ⟨by simp,h1.mono ?_⟩)))))))))
      rintro d x rfl
      refine⟨_,rfl,AB (IN ok (Cs (A4 (B6 (A4 (A3 rfl (AB ⟨by simp,h2.mono ?_⟩)))))))⟩
      rintro d x rfl
      refine⟨_,rfl,AB (IN ok (GM ⟨_,rfl,(λ q=>by simp at q),λ _=>BC ?_⟩))⟩
      have ca:=tap.cl hT
      exact⟨by simp[ca.1,ca.2],_,rfl,Av _,_,_,rfl,rfl,hall⟩
    . rintro ls hd ⟨z2,z6,rfl,rfl,_⟩
      have ca:=tap.cl hT
      exact⟨by simp[ca.1,ca.2],_,rfl,Av _,a,b,_,_,_,_,_,rfl,rfl,hT⟩
  . rintro ls hd ⟨a,b,z2,z3,z4,z5,z6,rfl,rfl,hT⟩
    exact A8 (Ar (AL rfl))
theorem law_eq(ns:List Int):∃ hd,F_law [.ro ns] []=some (.im (.bl true),hd):=by
  obtain⟨d,x,e,rfl⟩:=U8 ns
  exact⟨x,e⟩
open PySem L2 PySem.W PyProof.Rows
noncomputable abbrev xS:List (Str × Str × Nat × Nat):=[]
noncomputable abbrev tS(P:Str->Addr):List Tb:=xS.map λ x=>(P x.1,x.2)
set_option maxHeartbeats 4000000 in
theorem all_mk{l:PySem.W.OpenLaw}{w:World}{K:PySem.W.Frag}{h:Heap}{mg:Str->Option Value}{fa f0 f1 f2 f3 f4 f5 f6 f7 f8 f9 f10 f11 f12 f13 f14 f15:Addr}(X:K.In h)(G:h.Ns mainGlobals mg){c P:Str->Addr}(hfa:mg "law"=some (.ref fa))(hx:∀ x ∈ xS,h.get? (P x.1)=some (tabObj #[])/\CodeHd h (c x.1) (P x.1)/\∃ a o fd,mg x.1=some (.ref a)/\h.get? a=some o/\o.data=.func fd/\fd.code=.ref (c x.1))
    {od0 an0 od1 an1 od2 an2 od3 an3 od4 an4 od5 an5 od6 an6 od7 an7 od8 an8 od9 an9 od10 an10 od11 an11 od12 an12 od13 an13 od14 an14 od15 an15:Option Addr} {sl0 sl1 sl2 sl3 sl4 sl5 sl6 sl7 sl8 sl9 sl10 sl11 sl12 sl13 sl14 sl15:Array (Option Value)} {oc0 kV0 dc0 pm0 cd0 ct0 oc1 kV1 dc1 pm1 cd1 ct1 oc2 kV2 dc2 pm2 cd2 ct2 oc3 kV3 dc3 pm3 cd3 ct3 oc4 kV4 dc4 pm4 cd4 ct4 oc5 kV5 dc5 pm5 cd5 ct5 oc6 kV6 dc6 pm6 cd6 ct6 oc7 kV7 dc7 pm7 cd7 ct7 oc8 kV8 dc8 pm8 cd8 ct8 oc9 kV9 dc9 pm9 cd9 ct9 oc10 kV10 dc10 pm10 cd10 ct10 oc11 kV11 dc11 pm11 cd11 ct11 oc12 kV12 dc12 pm12 cd12 ct12 oc13 kV13 dc13 pm13 cd13 ct13 oc14 kV14 dc14 pm14 cd14 ct14 oc15 kV15 dc15 pm15 cd15 ct15:Value}
     {C Bc fI cx1 cx2 cx3 cx4 cx5 cx6 cx7 nX:Addr} {nmX qX:Str} {bsX bmX subX:List Value} {snX:List Str} {abX:Bool} {colX:Option Bool} {ddX odI anI:Option Addr} {e0 e1 e2 e3 e5:Option Value} {slI:Array (Option Value)} {ocI kVI dcI pmI cdI ctI:Value} (a0:PySem.W.nsIn K mainGlobals "law"=some (some (.ref f0))) (l0:K.lookup f0=some ⟨oc0,od0,.func (PySem.W.fnOf "law" "law" (Ap Cu) (Ac Cu) (AA Cu) .none kV0 dc0 pm0 an0 cd0 ct0),sl0⟩) (c0:PySem.W.codeIn K cd0 "law"=true) (k0:PySem.W.keepIn K (.ref f0)=true)
    (a1:PySem.W.nsIn K mainGlobals "_law_tape"=some (some (.ref f1))) (l1:K.lookup f1=some ⟨oc1,od1,.func (PySem.W.fnOf "_law_tape" "_law_tape" (Ap DD) (Ac DD) (AA DD) .none kV1 dc1 pm1 an1 cd1 ct1),sl1⟩) (c1:PySem.W.codeIn K cd1 "_law_tape"=true) (k1:PySem.W.keepIn K (.ref f1)=true)
    (a2:PySem.W.nsIn K mainGlobals "_law_pick"=some (some (.ref f2))) (l2:K.lookup f2=some ⟨oc2,od2,.func (PySem.W.fnOf "_law_pick" "_law_pick" (Ap By) (Ac By) (AA By) .none kV2 dc2 pm2 an2 cd2 ct2),sl2⟩) (c2:PySem.W.codeIn K cd2 "_law_pick"=true) (k2:PySem.W.keepIn K (.ref f2)=true)
    (a3:PySem.W.nsIn K mainGlobals "_law_works"=some (some (.ref f3))) (l3:K.lookup f3=some ⟨oc3,od3,.func (PySem.W.fnOf "_law_works" "_law_works" (Ap CS) (Ac CS) (AA CS) .none kV3 dc3 pm3 an3 cd3 ct3),sl3⟩) (c3:PySem.W.codeIn K cd3 "_law_works"=true) (k3:PySem.W.keepIn K (.ref f3)=true)
    (a4:PySem.W.nsIn K mainGlobals "_law_unlike"=some (some (.ref f4))) (l4:K.lookup f4=some ⟨oc4,od4,.func (PySem.W.fnOf "_law_unlike" "_law_unlike" (Ap C7) (Ac C7) (AA C7) .none kV4 dc4 pm4 an4 cd4 ct4),sl4⟩) (c4:PySem.W.codeIn K cd4 "_law_unlike"=true) (k4:PySem.W.keepIn K (.ref f4)=true)
    (a5:PySem.W.nsIn K mainGlobals "_law_cost"=some (some (.ref f5))) (l5:K.lookup f5=some ⟨oc5,od5,.func (PySem.W.fnOf "_law_cost" "_law_cost" (Ap DE) (Ac DE) (AA DE) .none kV5 dc5 pm5 an5 cd5 ct5),sl5⟩) (c5:PySem.W.codeIn K cd5 "_law_cost"=true) (k5:PySem.W.keepIn K (.ref f5)=true)
    (a6:PySem.W.nsIn K mainGlobals "_law_other"=some (some (.ref f6))) (l6:K.lookup f6=some ⟨oc6,od6,.func (PySem.W.fnOf "_law_other" "_law_other" (Ap CT) (Ac CT) (AA CT) .none kV6 dc6 pm6 an6 cd6 ct6),sl6⟩) (c6:PySem.W.codeIn K cd6 "_law_other"=true) (k6:PySem.W.keepIn K (.ref f6)=true)
    (a7:PySem.W.nsIn K mainGlobals "_law_due"=some (some (.ref f7))) (l7:K.lookup f7=some ⟨oc7,od7,.func (PySem.W.fnOf "_law_due" "_law_due" (Ap E2) (Ac E2) (AA E2) .none kV7 dc7 pm7 an7 cd7 ct7),sl7⟩) (c7:PySem.W.codeIn K cd7 "_law_due"=true) (k7:PySem.W.keepIn K (.ref f7)=true)
    (a8:PySem.W.nsIn K mainGlobals "weight_of"=some (some (.ref f8))) (l8:K.lookup f8=some ⟨oc8,od8,.func (PySem.W.fnOf "weight_of" "weight_of" (Ap BK) (Ac BK) (AA BK) .none kV8 dc8 pm8 an8 cd8 ct8),sl8⟩) (c8:PySem.W.codeIn K cd8 "weight_of"=true) (k8:PySem.W.keepIn K (.ref f8)=true)
    (a9:PySem.W.nsIn K mainGlobals "same_coming"=some (some (.ref f9))) (l9:K.lookup f9=some ⟨oc9,od9,.func (PySem.W.fnOf "same_coming" "same_coming" (Ap B3) (Ac B3) (AA B3) .none kV9 dc9 pm9 an9 cd9 ct9),sl9⟩) (c9:PySem.W.codeIn K cd9 "same_coming"=true) (k9:PySem.W.keepIn K (.ref f9)=true)
    (a10:PySem.W.nsIn K mainGlobals "one_coming"=some (some (.ref f10))) (l10:K.lookup f10=some ⟨oc10,od10,.func (PySem.W.fnOf "one_coming" "one_coming" (Ap B0) (Ac B0) (AA B0) .none kV10 dc10 pm10 an10 cd10 ct10),sl10⟩) (c10:PySem.W.codeIn K cd10 "one_coming"=true) (k10:PySem.W.keepIn K (.ref f10)=true)
    (a11:PySem.W.nsIn K mainGlobals "refuse_other_costs"=some (some (.ref f11))) (l11:K.lookup f11=some ⟨oc11,od11,.func (PySem.W.fnOf "refuse_other_costs" "refuse_other_costs" (Ap AW) (Ac AW) (AA AW) .none kV11 dc11 pm11 an11 cd11 ct11),sl11⟩) (c11:PySem.W.codeIn K cd11 "refuse_other_costs"=true) (k11:PySem.W.keepIn K (.ref f11)=true)
    (a12:PySem.W.nsIn K mainGlobals "weighted_coming"=some (some (.ref f12))) (l12:K.lookup f12=some ⟨oc12,od12,.func (PySem.W.fnOf "weighted_coming" "weighted_coming" (Ap Ad) (Ac Ad) (AA Ad) .none kV12 dc12 pm12 an12 cd12 ct12),sl12⟩) (c12:PySem.W.codeIn K cd12 "weighted_coming"=true) (k12:PySem.W.keepIn K (.ref f12)=true)
    (a13:PySem.W.nsIn K mainGlobals "pair_sum_of"=some (some (.ref f13))) (l13:K.lookup f13=some ⟨oc13,od13,.func (PySem.W.fnOf "pair_sum_of" "pair_sum_of" (Ap B4) (Ac B4) (AA B4) .none kV13 dc13 pm13 an13 cd13 ct13),sl13⟩) (c13:PySem.W.codeIn K cd13 "pair_sum_of"=true) (k13:PySem.W.keepIn K (.ref f13)=true)
    (a14:PySem.W.nsIn K mainGlobals "pair_sum"=some (some (.ref f14))) (l14:K.lookup f14=some ⟨oc14,od14,.func (PySem.W.fnOf "pair_sum" "pair_sum" (Ap BV) (Ac BV) (AA BV) .none kV14 dc14 pm14 an14 cd14 ct14),sl14⟩) (c14:PySem.W.codeIn K cd14 "pair_sum"=true) (k14:PySem.W.keepIn K (.ref f14)=true)
    (a15:PySem.W.nsIn K mainGlobals "_law_told"=some (some (.ref f15))) (l15:K.lookup f15=some ⟨oc15,od15,.func (PySem.W.fnOf "_law_told" "_law_told" (Ap DC) (Ac DC) (AA DC) .none kV15 dc15 pm15 an15 cd15 ct15),sl15⟩) (c15:PySem.W.codeIn K cd15 "_law_told"=true) (k15:PySem.W.keepIn K (.ref f15)=true)
    (z_list:PySem.W.nsIn K mainGlobals "list"=some none)
    (z_tuple:PySem.W.nsIn K mainGlobals "tuple"=some none)
    (z_len:PySem.W.nsIn K mainGlobals "len"=some none)
    (z_range:PySem.W.nsIn K mainGlobals "range"=some none)
    (z_repr:PySem.W.nsIn K mainGlobals "repr"=some none)
    (z_sum:PySem.W.nsIn K mainGlobals "sum"=some none)
    (z_min:PySem.W.nsIn K mainGlobals "min"=some none)
    (z_max:PySem.W.nsIn K mainGlobals "max"=some none)
    (z_abs:PySem.W.nsIn K mainGlobals "abs"=some none)
    (z_all:PySem.W.nsIn K mainGlobals "all"=some none)
    (z_any:PySem.W.nsIn K mainGlobals "any"=some none)
    (z_sorted:PySem.W.nsIn K mainGlobals "sorted"=some none)
    (z_zip:PySem.W.nsIn K mainGlobals "zip"=some none)
    (z_isinstance:PySem.W.nsIn K mainGlobals "isinstance"=some none)
    (z_int:PySem.W.nsIn K mainGlobals "int"=some none)
    (z_bool:PySem.W.nsIn K mainGlobals "bool"=some none)
    (z_str:PySem.W.nsIn K mainGlobals "str"=some none)
    (z_set:PySem.W.nsIn K mainGlobals "set"=some none)
    (z_enumerate:PySem.W.nsIn K mainGlobals "enumerate"=some none)
    (z_reversed:PySem.W.nsIn K mainGlobals "reversed"=some none)
    (z_dict:PySem.W.nsIn K mainGlobals "dict"=some none)
    (xC:PySem.W.nsIn K mainGlobals "NoRule"=some (some (.ref C)))
    (xB:PySem.W.nsIn K mainGlobals "BenchError"=some (some (.ref Bc)))
    (x1:PySem.W.nsIn K mainGlobals "NoBack"=some (some (.ref cx1)))
    (x2:PySem.W.nsIn K mainGlobals "NoPaper"=some (some (.ref cx2)))
    (x3:PySem.W.nsIn K mainGlobals "NoRow"=some (some (.ref cx3)))
    (x4:PySem.W.nsIn K mainGlobals "NoText"=some (some (.ref cx4)))
    (x5:PySem.W.nsIn K mainGlobals "NoWish"=some (some (.ref cx5)))
    (x6:PySem.W.nsIn K mainGlobals "NoWork"=some (some (.ref cx6)))
    (x7:PySem.W.nsIn K mainGlobals "TooMany"=some (some (.ref cx7)))
    (xV:PySem.W.nsIn K mainGlobals "ValueError"=some none)
    (fi:PySem.W.findIn K (.ref C) "__init__"=some (some (.ref fI)))
    (ki:PySem.W.keepIn K (.ref fI)=true)
    (fn:PySem.W.isFn K (.ref fI)=true)
    (kp:PySem.W.keepIn K (.ref C)=true)
    (sa:PySem.W.findIn K (.ref C) "__setattr__"=some (some (.builtin "object.__setattr__")))
    (ga:PySem.W.findIn K (.ref C) "__getattribute__"=some (some (.builtin "BaseException.__getattribute__")))
    (gx:PySem.W.findIn K (.ref C) "__getattr__"=some none)
    (na:PySem.W.findIn K (.ref C) "word"=some none)
    (ca:PySem.W.findIn K (.ref C) "__class__"=some (some (.builtin "object.__class__")))
    (gd:PySem.W.specialIn K (.builtin "object.__class__") "__get__"=some (some (.builtin "getset_descriptor.__get__")))
    (tk:PySem.W.takesIn K (.builtin "object.__class__")=some true)
    (mo:PySem.W.mroIn K C (.type "object")=some true)
    (lC:K.lookup C=some (excClassObj nmX qX C nX bsX bmX true snX subX abX colX ddX e0 e1 e2 e3 e5 "ValueError.__new__"))
    (ov:OverV bmX)
    (li:K.lookup fI=some ⟨ocI,odI,.func (PySem.W.fnOf "__init__" "NoRule.__init__" (Ap EH) (Ac EH) (AA EH) .none kVI dcI pmI anI cdI ctI),slI⟩)
    (ci:PySem.W.codeIn K cdI "NoRule.__init__"=true)
    (kx1:PySem.W.exmOne K (.ref C) (.ref Bc)=some true)
    (kx2:PySem.W.kitOne K (.ref C) (.type "ValueError")=some true)
    (kx3:PySem.W.kitAny K (.ref C) ([cx1,cx2,cx3,cx4,cx5,cx6,cx7].map Value.ref)=some false) :
    (∃ g,K.lookup mainGlobals=some g)/\∃ fd:FuncData,(∀ (s:Shared) (v:Value),BindsTo s fd ⟨[v],[]⟩ [("_law_script",v)])/\∀ base:Heap,(Af K (tS P)).In base->base.Ns mainGlobals mg->(∀ x ∈ xS,CodeHd base (c x.1) (P x.1))->(∀ x ∈ xS,base.BuiltinsAt mg (P x.1))->FnOk l.prog w (Af K (tS P)) mg base CX0 7 fa fd ["_law_script"] (spF (Af K (tS P)) 1 F_law):=by
  have hP:∀ P' ∈ (tS P).map (·.1),h.get? P'=some (tabObj #[]):=λ P' hp=>by
    obtain⟨t,ht,rfl⟩:=List.mem_map.mp hp
    obtain⟨x,hxx,rfl⟩:=List.mem_map.mp ht
    exact(hx x hxx).1
  have e:=hfa.symm.trans (PySem.W.mg_of X G a0)
  cases e
  have F0:=Fun.mark (ts:=tS P) (BO (st:=Cu) l0 c0 k0) X hP
  have D0:DefAt (Af K (tS P)) mg "law" Cu _ _ ["_law_script"]:=⟨F0,PySem.W.mg_of X G a0,F0.binds (ps:=["_law_script"]) λ _ _ _ _ _ _ us hl=>match us,hl with | [_],_=>rfl⟩
  have F1:=Fun.mark (ts:=tS P) (BO (st:=DD) l1 c1 k1) X hP
  have D1:DefAt (Af K (tS P)) mg "_law_tape" DD _ _ ["_law_script"]:=⟨F1,PySem.W.mg_of X G a1,F1.binds (ps:=["_law_script"]) λ _ _ _ _ _ _ us hl=>match us,hl with | [_],_=>rfl⟩
  have F2:=Fun.mark (ts:=tS P) (BO (st:=By) l2 c2 k2) X hP
  have D2:DefAt (Af K (tS P)) mg "_law_pick" By _ _ ["_law_tape_here","_law_many"]:=⟨F2,PySem.W.mg_of X G a2,F2.binds (ps:=["_law_tape_here","_law_many"]) λ _ _ _ _ _ _ us hl=>match us,hl with | [_,_],_=>rfl⟩
  have F3:=Fun.mark (ts:=tS P) (BO (st:=CS) l3 c3 k3) X hP
  have D3:DefAt (Af K (tS P)) mg "_law_works" CS _ _ ["_law_tape_here","_law_many"]:=⟨F3,PySem.W.mg_of X G a3,F3.binds (ps:=["_law_tape_here","_law_many"]) λ _ _ _ _ _ _ us hl=>match us,hl with | [_,_],_=>rfl⟩
  have F4:=Fun.mark (ts:=tS P) (BO (st:=C7) l4 c4 k4) X hP
  have D4:DefAt (Af K (tS P)) mg "_law_unlike" C7 _ _ ["_law_tape_here","_law_works_here"]:=⟨F4,PySem.W.mg_of X G a4,F4.binds (ps:=["_law_tape_here","_law_works_here"]) λ _ _ _ _ _ _ us hl=>match us,hl with | [_,_],_=>rfl⟩
  have F5:=Fun.mark (ts:=tS P) (BO (st:=DE) l5 c5 k5) X hP
  have D5:DefAt (Af K (tS P)) mg "_law_cost" DE _ _ ["_law_tape_here"]:=⟨F5,PySem.W.mg_of X G a5,F5.binds (ps:=["_law_tape_here"]) λ _ _ _ _ _ _ us hl=>match us,hl with | [_],_=>rfl⟩
  have F6:=Fun.mark (ts:=tS P) (BO (st:=CT) l6 c6 k6) X hP
  have D6:DefAt (Af K (tS P)) mg "_law_other" CT _ _ ["_law_tape_here","_law_works_here"]:=⟨F6,PySem.W.mg_of X G a6,F6.binds (ps:=["_law_tape_here","_law_works_here"]) λ _ _ _ _ _ _ us hl=>match us,hl with | [_,_],_=>rfl⟩
  have F7:=Fun.mark (ts:=tS P) (BO (st:=E2) l7 c7 k7) X hP
  have D7:DefAt (Af K (tS P)) mg "_law_due" E2 _ _ ["_law_works_here"]:=⟨F7,PySem.W.mg_of X G a7,F7.binds (ps:=["_law_works_here"]) λ _ _ _ _ _ _ us hl=>match us,hl with | [_],_=>rfl⟩
  have F8:=Fun.mark (ts:=tS P) (BO (st:=BK) l8 c8 k8) X hP
  have D8:DefAt (Af K (tS P)) mg "weight_of" BK _ _ ["work"]:=⟨F8,PySem.W.mg_of X G a8,F8.binds (ps:=["work"]) λ _ _ _ _ _ _ us hl=>match us,hl with | [_],_=>rfl⟩
  have F9:=Fun.mark (ts:=tS P) (BO (st:=B3) l9 c9 k9) X hP
  have D9:DefAt (Af K (tS P)) mg "same_coming" B3 _ _ ["works"]:=⟨F9,PySem.W.mg_of X G a9,F9.binds (ps:=["works"]) λ _ _ _ _ _ _ us hl=>match us,hl with | [_],_=>rfl⟩
  have F10:=Fun.mark (ts:=tS P) (BO (st:=B0) l10 c10 k10) X hP
  have D10:DefAt (Af K (tS P)) mg "one_coming" B0 _ _ ["works"]:=⟨F10,PySem.W.mg_of X G a10,F10.binds (ps:=["works"]) λ _ _ _ _ _ _ us hl=>match us,hl with | [_],_=>rfl⟩
  have F11:=Fun.mark (ts:=tS P) (BO (st:=AW) l11 c11 k11) X hP
  have D11:DefAt (Af K (tS P)) mg "refuse_other_costs" AW _ _ ["works","word"]:=⟨F11,PySem.W.mg_of X G a11,F11.binds (ps:=["works","word"]) λ _ _ _ _ _ _ us hl=>match us,hl with | [_,_],_=>rfl⟩
  have F12:=Fun.mark (ts:=tS P) (BO (st:=Ad) l12 c12 k12) X hP
  have D12:DefAt (Af K (tS P)) mg "weighted_coming" Ad _ _ ["works"]:=⟨F12,PySem.W.mg_of X G a12,F12.binds (ps:=["works"]) λ _ _ _ _ _ _ us hl=>match us,hl with | [_],_=>rfl⟩
  have F13:=Fun.mark (ts:=tS P) (BO (st:=B4) l13 c13 k13) X hP
  have D13:DefAt (Af K (tS P)) mg "pair_sum_of" B4 _ _ ["coming","lengths","weights"]:=⟨F13,PySem.W.mg_of X G a13,F13.binds (ps:=["coming","lengths","weights"]) λ _ _ _ _ _ _ us hl=>match us,hl with | [_,_,_],_=>rfl⟩
  have F14:=Fun.mark (ts:=tS P) (BO (st:=BV) l14 c14 k14) X hP
  have D14:DefAt (Af K (tS P)) mg "pair_sum" BV _ _ ["works"]:=⟨F14,PySem.W.mg_of X G a14,F14.binds (ps:=["works"]) λ _ _ _ _ _ _ us hl=>match us,hl with | [_],_=>rfl⟩
  have F15:=Fun.mark (ts:=tS P) (BO (st:=DC) l15 c15 k15) X hP
  have D15:DefAt (Af K (tS P)) mg "_law_told" DC _ _ ["_law_works_here"]:=⟨F15,PySem.W.mg_of X G a15,F15.binds (ps:=["_law_works_here"]) λ _ _ _ _ _ _ us hl=>match us,hl with | [_],_=>rfl⟩
  have B:BltA mg:=⟨PySem.W.mg_none_of X G z_list,PySem.W.mg_none_of X G z_tuple,PySem.W.mg_none_of X G z_len,PySem.W.mg_none_of X G z_range,PySem.W.mg_none_of X G z_repr,PySem.W.mg_none_of X G z_sum,PySem.W.mg_none_of X G z_min,PySem.W.mg_none_of X G z_max,PySem.W.mg_none_of X G z_abs,PySem.W.mg_none_of X G z_all,PySem.W.mg_none_of X G z_any,PySem.W.mg_none_of X G z_sorted,PySem.W.mg_none_of X G z_zip,PySem.W.mg_none_of X G z_isinstance,PySem.W.mg_none_of X G z_int,PySem.W.mg_none_of X G z_bool,PySem.W.mg_none_of X G z_str,PySem.W.mg_none_of X G z_set,PySem.W.mg_none_of X G z_enumerate,PySem.W.mg_none_of X G z_reversed,PySem.W.mg_none_of X G z_dict⟩
  have LE:=QM (ts:=tS P) X hP
  have xc:XC (Af K (tS P)) C fI:=LE.xc ⟨_,_,li,rfl⟩ ⟨⟨_,_,_,_,_,_,_,_,_,_,_,_,_,_,_,lC,ov⟩,fi,fn,kp,sa,ga,gx⟩
  have FI:=Fun.mark (ts:=tS P) (BO (st:=EH) li ci ki) X hP
  have bI:=FI.binds (ps:=["self","word"]) λ _ _ _ _ _ _ us hl=>match us,hl with | [_,_],_=>rfl

  have nd:((FC (Af K (tS P))).map (·.1)).Nodup:=by rw[Hg];simp
  have hg:∃ g,K.lookup mainGlobals=some g:=by
    cases e:K.lookup mainGlobals with
    | some g=>exact⟨g,rfl⟩
    | none=>have z:=a0;unfold PySem.W.nsIn at z;rw[e]at z;cases z
  refine⟨hg,PySem.W.fnOf "law" "law" (Ap Cu) (Ac Cu) (AA Cu) .none kV0 dc0 pm0 an0 cd0 ct0,λ s v=>.of_eq rfl,λ base _ _ hd bl=>?_⟩

  have EX:ExcW l.prog w (Af K (tS P)) mg base C Bc fI cx1 cx2 cx3 cx4 cx5 cx6 cx7 _:=⟨xc,LE.xi ⟨ca,gd,tk,mo⟩,LE.noAttr na,PySem.W.mg_of X G xC,PySem.W.mg_of X G xB,PySem.W.mg_none_of X G xV,LE.exm kx1,LE.kitOne kx2,LE.kitAny kx3,PySem.W.mg_of X G x1,PySem.W.mg_of X G x2,PySem.W.mg_of X G x3,PySem.W.mg_of X G x4,PySem.W.mg_of X G x5,PySem.W.mg_of X G x6,PySem.W.mg_of X G x7,T56.ok_ini FI xc (LE.noAttr na),bI⟩
  have G_tape:=T56.ok_tape (P:=l.prog) (w:=w) (base:=base) D1  B
  have G_pick:=T56.ok_pick (P:=l.prog) (w:=w) (base:=base) D2  B
  have G_works:=T56.ok_works (P:=l.prog) (w:=w) (base:=base) D3 D2 G_pick B
  have G_unlike:=T56.ok_unlike (P:=l.prog) (w:=w) (base:=base) D4 D2 G_pick B
  have G_cost:=T56.ok_cost (P:=l.prog) (w:=w) (base:=base) D5 D2 G_pick B
  have G_other:=T56.ok_other (P:=l.prog) (w:=w) (base:=base) D6 D2 G_pick D5 G_cost B
  have G_due:=T56.ok_due (P:=l.prog) (w:=w) (base:=base) D7  B
  have G_weight_of:=T56.ok_weight_of (P:=l.prog) (w:=w) (base:=base) D8  B
  have G_same_coming:=T56.ok_same_coming (P:=l.prog) (w:=w) (base:=base) D9  B
  have G_one_coming:=T56.ok_one_coming (P:=l.prog) (w:=w) (base:=base) D10 D9 G_same_coming B
  have GX_one_coming:=T56.okx_one_coming (P:=l.prog) (w:=w) (base:=base) D10 D9 G_same_coming EX  B
  have G_refuse_other_costs:=T56.ok_refuse_other_costs (P:=l.prog) (w:=w) (base:=base) D11  B
  have GX_refuse_other_costs:=T56.okx_refuse_other_costs (P:=l.prog) (w:=w) (base:=base) D11  EX  B
  have G_weighted_coming:=T56.ok_weighted_coming (P:=l.prog) (w:=w) (base:=base) D12 D10 G_one_coming D11 G_refuse_other_costs B
  have GX_weighted_coming:=T56.okx_weighted_coming (P:=l.prog) (w:=w) (base:=base) D12 D10 G_one_coming D11 G_refuse_other_costs EX GX_one_coming GX_refuse_other_costs B
  have G_pair_sum_of:=T56.ok_pair_sum_of (P:=l.prog) (w:=w) (base:=base) D13  B
  have G_pair_sum:=T56.ok_pair_sum (P:=l.prog) (w:=w) (base:=base) D14 D8 G_weight_of D12 G_weighted_coming D13 G_pair_sum_of B
  have GX_pair_sum:=T56.okx_pair_sum (P:=l.prog) (w:=w) (base:=base) D14 D8 G_weight_of D12 G_weighted_coming D13 G_pair_sum_of EX GX_weighted_coming B
  have G_told:=T56.ok_told (P:=l.prog) (w:=w) (base:=base) D15 D14 G_pair_sum EX GX_pair_sum B
  have G_law:=T56.ok_law (P:=l.prog) (w:=w) (base:=base) D0 D1 G_tape D2 G_pick D3 G_works D4 G_unlike D6 G_other D7 G_due D15 G_told B
  exact G_law
end T56
open PySem PySem.W PyProof.Rows
set_option maxRecDepth 100000 in
set_option maxHeartbeats 0 in
theorem PySem.W.Fast.te4038135762734410865:True:=trivial
set_option maxHeartbeats 4000000 in
theorem PySem.Challenge.cw_benchdays_k56_pair_sums_holds : PySem.Challenge.rw_benchdays_k56_pair_sums.Holds := by
  w_on;o_law;k_head;(case hw=>w_witness2)
  k_fill
  refine L2.walkL T56.xS (l:=PySem.Challenge.rw_benchdays_k56_pair_sums) (n:=63) (k:=7) (F:=T56.F_law) rfl (by decide) rfl ⟨rfl,by decide,by decide,rfl⟩ (by intro x hx;cases hx) T56.law_eq (λ w h Y=>PySem.W.kIn_of Y) ?F
  case F=>
    intro w mg fa h c P KX G hmg hx
    refine' T56.all_mk KX G hmg hx ?a0 ?l0 ?c0 ?k0 ?a1 ?l1 ?c1 ?k1 ?a2 ?l2 ?c2 ?k2 ?a3 ?l3 ?c3 ?k3 ?a4 ?l4 ?c4 ?k4 ?a5 ?l5 ?c5 ?k5 ?a6 ?l6 ?c6 ?k6 ?a7 ?l7 ?c7 ?k7 ?a8 ?l8 ?c8 ?k8 ?a9 ?l9 ?c9 ?k9 ?a10 ?l10 ?c10 ?k10 ?a11 ?l11 ?c11 ?k11 ?a12 ?l12 ?c12 ?k12 ?a13 ?l13 ?c13 ?k13 ?a14 ?l14 ?c14 ?k14 ?a15 ?l15 ?c15 ?k15 ?z_list ?z_tuple ?z_len ?z_range ?z_repr ?z_sum ?z_min ?z_max ?z_abs ?z_all ?z_any ?z_sorted ?z_zip ?z_isinstance ?z_int ?z_bool ?z_str ?z_set ?z_enumerate ?z_reversed ?z_dict ?xC ?xB ?x1 ?x2 ?x3 ?x4 ?x5 ?x6 ?x7 ?xV ?fi ?ki ?fn ?kp ?sa ?ga ?gx ?na ?ca ?gd ?tk ?mo ?lC ?ov ?li ?ci ?kx1 ?kx2 ?kx3
    (case a0=>k_is)
    (case l0=>k_is)
    (case c0=>k_is)
    (case k0=>k_is)
    (case a1=>k_is)
    (case l1=>k_is)
    (case c1=>k_is)
    (case k1=>k_is)
    (case a2=>k_is)
    (case l2=>k_is)
    (case c2=>k_is)
    (case k2=>k_is)
    (case a3=>k_is)
    (case l3=>k_is)
    (case c3=>k_is)
    (case k3=>k_is)
    (case a4=>k_is)
    (case l4=>k_is)
    (case c4=>k_is)
    (case k4=>k_is)
    (case a5=>k_is)
    (case l5=>k_is)
    (case c5=>k_is)
    (case k5=>k_is)
    (case a6=>k_is)
    (case l6=>k_is)
    (case c6=>k_is)
    (case k6=>k_is)
    (case a7=>k_is)
    (case l7=>k_is)
    (case c7=>k_is)
    (case k7=>k_is)
    (case a8=>k_is)
    (case l8=>k_is)
    (case c8=>k_is)
    (case k8=>k_is)
    (case a9=>k_is)
    (case l9=>k_is)
    (case c9=>k_is)
    (case k9=>k_is)
    (case a10=>k_is)
    (case l10=>k_is)
    (case c10=>k_is)
    (case k10=>k_is)
    (case a11=>k_is)
    (case l11=>k_is)
    (case c11=>k_is)
    (case k11=>k_is)
    (case a12=>k_is)
    (case l12=>k_is)
    (case c12=>k_is)
    (case k12=>k_is)
    (case a13=>k_is)
    (case l13=>k_is)
    (case c13=>k_is)
    (case k13=>k_is)
    (case a14=>k_is)
    (case l14=>k_is)
    (case c14=>k_is)
    (case k14=>k_is)
    (case a15=>k_is)
    (case l15=>k_is)
    (case c15=>k_is)
    (case k15=>k_is)
    (case z_list=>k_is)
    (case z_tuple=>k_is)
    (case z_len=>k_is)
    (case z_range=>k_is)
    (case z_repr=>k_is)
    (case z_sum=>k_is)
    (case z_min=>k_is)
    (case z_max=>k_is)
    (case z_abs=>k_is)
    (case z_all=>k_is)
    (case z_any=>k_is)
    (case z_sorted=>k_is)
    (case z_zip=>k_is)
    (case z_isinstance=>k_is)
    (case z_int=>k_is)
    (case z_bool=>k_is)
    (case z_str=>k_is)
    (case z_set=>k_is)
    (case z_enumerate=>k_is)
    (case z_reversed=>k_is)
    (case z_dict=>k_is)
    (case xC=>k_is)
    (case xB=>k_is)
    (case x1=>k_is)
    (case x2=>k_is)
    (case x3=>k_is)
    (case x4=>k_is)
    (case x5=>k_is)
    (case x6=>k_is)
    (case x7=>k_is)
    (case xV=>k_is)
    (case fi=>k_is)
    (case ki=>k_is)
    (case fn=>k_is)
    (case kp=>k_is)
    (case sa=>k_is)
    (case ga=>k_is)
    (case gx=>k_is)
    (case na=>k_is)
    (case ca=>k_is)
    (case gd=>k_is)
    (case tk=>k_is)
    (case mo=>k_is)
    (case lC=>k_is)
    (case ov=>exact .own .base)
    (case li=>k_is)
    (case ci=>k_is)
    (case kx1=>kernel_rfl)
    (case kx2=>kernel_rfl)
    (case kx3=>kernel_rfl)
