import PyProof.Rows.All
import Wide.All
import OpenK.AllK
import Wide.FinOn
import Lean
import PyProof.EqAt
import PyProof.EqKinds
import PyProof.TupleCall
import KE.KSortKey
import PyProof.ListMulRoad
import PyProof.Draws
import PyProof.EnumMake
import PyProof.ListNew
import KE.KRevIter
import KE.KMinKey
import PySem.Challenge.RW_benchdays_k32_whole_neighbours_into_dues
set_option Elab.async false
set_option linter.all false
set_option maxRecDepth 100000
set_option compiler.extract_closed false
local macro_rules | `(tactic| omega) => `(tactic| first | lia | omega (config := {}))
namespace L2
open PySem PySem.Spec PyProof.Rows
noncomputable abbrev Key:=Sum Int Str
noncomputable def HL:Key->Value->Bool
  | .inl k,v=>Value.isInt k v
  | .inr x,v=>Value.isStrOf x v
noncomputable def XN(w:World):Key->Int
  | .inl k=>hashInt k
  | .inr x=>hashStr w x
theorem Bb:∀ {k:Key} {v:Value},HL k v=true->(∃ i t,k=Sum.inl i/\v=Value.int i t) ∨ (∃ x t,k=Sum.inr x/\v=Value.str x t)
  | .inl i,v,h=>by
    obtain⟨t,e⟩:=Value.isInt_shape (k:=i) (v:=v) h
    exact .inl ⟨i,t,rfl,e⟩
  | .inr x,v,h=>by
    obtain⟨t,e⟩:=Value.isStrOf_shape (x:=x) (v:=v) h
    exact .inr ⟨x,t,rfl,e⟩
theorem Oy(i:Int)(t:Tok):HL (.inl i) (.int i t)=true:=by simp[HL,Value.isInt]
theorem Ox(x:Str)(t:Tok):HL (.inr x) (.str x t)=true:=by simp[HL,Value.isStrOf]
theorem Vs(a b:Int):decide ((Sum.inl a:Key)=Sum.inl b)=(a == b):=by
  by_cases e:a=b
  . subst e;simp
  . have h:¬ (Sum.inl a:Key)=Sum.inl b:=λ q=>e (Sum.inl.inj q)
    rw[decide_eq_false h]
    exact(beq_eq_false_iff_ne.mpr e).symm
theorem Vp(a b:Str):decide ((Sum.inr a:Key)=Sum.inr b)=decide (a=b):=by
  by_cases e:a=b
  . subst e;simp
  . have h:¬ (Sum.inr a:Key)=Sum.inr b:=λ q=>e (Sum.inr.inj q)
    rw[decide_eq_false h,decide_eq_false e]
theorem Vr(a:Int)(b:Str):decide ((Sum.inl a:Key)=Sum.inr b)=false:=decide_eq_false (λ q=>nomatch q)
theorem Vq(a:Str)(b:Int):decide ((Sum.inr a:Key)=Sum.inl b)=false:=decide_eq_false (λ q=>nomatch q)
noncomputable def Bj(prog:Program)(w:World):PySem.KeyKind prog w Key where
  is:=HL
  hash:=XN w
  inj:=λ v a b ha hb=>by
    rcases Bb ha with⟨i,t,rfl,rfl⟩|⟨x,t,rfl,rfl⟩
    . rcases Bb hb with⟨j,u,rfl,e⟩|⟨y,u,rfl,e⟩
      . injection e with e1 _;rw[e1]
      . exact nomatch e
    . rcases Bb hb with⟨j,u,rfl,e⟩|⟨y,u,rfl,e⟩
      . exact nomatch e
      . injection e with e1 _;rw[e1]
  byValue:=λ k v h=>by
    rcases Bb h with⟨i,t,rfl,rfl⟩|⟨x,t,rfl,rfl⟩ <;> rfl
  pyHash:=λ hv h=>by
    rcases Bb hv with⟨i,t,rfl,rfl⟩|⟨x,t,rfl,rfl⟩
    . exact wpAny_pyHash_int h
    . exact wpAny_pyHash_str h
  eqBool:=λ hu hv h=>by
    rcases Bb hu with⟨i,t,rfl,rfl⟩|⟨x,t,rfl,rfl⟩
    . rcases Bb hv with⟨j,u,rfl,rfl⟩|⟨y,u,rfl,rfl⟩
      . rw[Vs]at h;exact wpAny_eqBool_int h
      . rw[Vr]at h;exact SeqAt.EqAt.int_str i t y u _ _ _ _ h
    . rcases Bb hv with⟨j,u,rfl,rfl⟩|⟨y,u,rfl,rfl⟩
      . rw[Vq]at h;exact SeqAt.EqAt.str_int x t j u _ _ _ _ h
      . rw[Vp]at h;exact wpAny_eqBool_str h
  «strs»:=λ k x t v h=>by
    rcases Bb h with⟨i,u,rfl,e⟩|⟨y,u,rfl,e⟩
    . exact nomatch e
    . injection e with e1 _
      subst e1
      cases v <;> rfl
theorem MF(prog:Program)(w:World)(i:Int)(t:Tok):(Bj prog w).is (.inl i) (.int i t)=true:=Oy i t
theorem MD(prog:Program)(w:World)(x:Str)(t:Tok):(Bj prog w).is (.inr x) (.str x t)=true:=Ox x t
end L2
namespace L2
open PySem PySem.Spec PyProof.Rows
inductive V where
  | non|bl (b:Bool)|int (i:Int)|str (x:Str)|byt (b:Array UInt8)|flt (b:UInt64)|ref (a:Addr)|ty (n:String)
  deriving DecidableEq
noncomputable def RelV:V->Value->Prop
  | .non,u=>u=Value.none
  | .bl b,u=>u=Value.bool b
  | .int i,u=>∃ t,u=Value.int i t
  | .str x,u=>∃ t,u=Value.str x t
  | .byt b,u=>∃ t,u=Value.bytes b t
  | .flt b,u=>∃ t,u=Value.float b t
  | .ref a,u=>u=Value.ref a
  | .ty n,u=>u=Value.type n
noncomputable abbrev Vals:List V->List Value->Prop:=Paired RelV
theorem Vals.length{xs:List V}{us:List Value}(r:Vals xs us):xs.length=us.length:=Paired.length r
theorem Vals.get:∀ {xs:List V} {us:List Value} {i:Nat} {x:V},Vals xs us->xs[i]? = some x->∃ u,us[i]? = some u/\RelV x u
  | _,_,_,_,.nil,e=>by simp at e
  | _,_,0,_,.cons r _,e=>by simp at e;subst e;exact⟨_,rfl,r⟩
  | _,_,i + 1,x,.cons _ t,e=>by
    obtain⟨u,h1,h2⟩:=Vals.get (i:=i) (x:=x) t (by simpa using e)
    exact⟨u,by simpa using h1,h2⟩
theorem Vals.set{x:V}{u:Value}(r:RelV x u):∀ {xs:List V} {us:List Value} (i:Nat),Vals xs us->Vals (xs.set i x) (us.set i u)
  | _,_,_,.nil=>.nil
  | _,_,0,.cons _ t=>.cons r t
  | _,_,i + 1,.cons q t=>.cons q (Vals.set r i t)
theorem Vals.append:∀ {xs ys:List V} {us ws:List Value},Vals xs us->Vals ys ws->Vals (xs ++ ys) (us ++ ws)
  | _,_,_,_,.nil,s=>s
  | _,_,_,_,.cons r t,s=>.cons r (Vals.append t s)
theorem Vals.take:∀ {xs:List V} {us:List Value} (n:Nat),Vals xs us->Vals (xs.take n) (us.take n)
  | _,_,0,_=>.nil
  | _,_,_ + 1,.nil=>.nil
  | _,_,n + 1,.cons r t=>.cons r (Vals.take n t)
theorem Vals.drop:∀ {xs:List V} {us:List Value} (n:Nat),Vals xs us->Vals (xs.drop n) (us.drop n)
  | _,_,0,r=>r
  | _,_,_ + 1,.nil=>.nil
  | _,_,n + 1,.cons _ t=>Vals.drop n t
noncomputable def RelO:Option V->Option Value->Prop
  | some v,some u=>RelV v u
  | none,none=>True
  | _,_=>False
noncomputable def KV{κ:Type}:List (κ × V)->List (κ × Value)->Prop:=Paired λ(p:κ × V) (q:κ × Value)=>p.1=q.1/\RelV p.2 q.2
noncomputable def kV:Key->V
  | .inl i=>.int i
  | .inr x=>.str x
inductive HO where
  /-- a list -/
  | lst (xs:List V)
  /-- a tuple (never changes) -/
  | tup (xs:List V)
  /-- a dict whose keys are ints and texts;one whose keys are tuples of ints and texts (the empty one is both) -/
  | dK (kvs:List (Key × V))|dT (kvs:List (List Key × V))
  /-- a set of ints: its members,its size -/
  | set (S:Int->Bool) (n:Nat)
  /-- an instance of the class at C,its dict at dx,its attributes -/
  | ins (C dx:Addr) (fs:List (Str × V))
  /-- the dict of the instance at x -/
  | own (x:Addr)
  /-- the dict of an exception -/
  | xd (fs:List (Str × V))
  /-- a bound method,f of x -/
  | met (f x:Addr)
  /-- a range object lo,lo + 1,.. below hi -/
  | rng (lo hi:Int)
  /-- a thing that is known to the object (the script;a dict while a loop walks it): read,never written while it is so -/
  | frz (o:Obj) (u:HO)
  /-- a code object's table -/
  | tbl (ps:Array Value)
  /-- any other thing,by what is true of its one object (a def of one's own: SetO a S n:=HO.ext λ h=>..) -/
  | ext (φ:Heap->Prop)
noncomputable abbrev Hp:=Addr->Option HO
noncomputable def upd(H:Hp)(a:Addr)(o:HO):Hp:=λ b=>if b=a then some o else H b
theorem AQ{H:Hp}{a:Addr}{o:HO}:upd H a o a=some o:=by unfold upd;rw[if_pos rfl]
theorem AE{H:Hp}{a b:Addr}{o:HO}(h:b ≠ a):upd H a o b=H b:=by unfold upd;rw[if_neg h]
theorem Wq{H:Hp}{a b:Addr}{o u:HO}(h:H a=some o)(h':H b=some u)(d:o ≠ u):a ≠ b:=by
  intro e;subst e;rw[h]at h';exact d (Option.some.inj h')
theorem Ae{H:Hp}{a b:Addr}{o:HO}(h:H a=some o)(h':H b=none):a ≠ b:=by
  intro e;subst e;rw[h]at h';cases h'
section
variable(P:Program)(w:World)
noncomputable def ObjOk(H:Hp)(h:Heap)(a:Addr):HO->Prop
  | .lst xs=>xs.length <= sizeLine/\∃ (its:List Value) (n:Nat),Vals xs its/\h.get? a=some { cls:=.type "list",data:=.seq its.toArray n }
  | .tup xs=>xs.length <= sizeLine/\∃ its:List Value,Vals xs its/\IsTup h a its.toArray
  | .dK kvs=>kvs.length <= sizeLine/\(a == sysModules)=false/\∃ vs,KV kvs vs/\h.DictOf (Bj P w) a vs
  | .dT kvs=>kvs.length <= sizeLine/\(a == sysModules)=false/\∃ xs:List (List Key × Addr × Value),
      Paired (λ(p:List Key × V) (q:List Key × Addr × Value)=>p.1=q.1/\H q.2.1=some (.tup (p.1.map kV))/\RelV p.2 q.2.2) kvs xs /\
      ∃ o es ep,h.get? a=some o/\o.ExactDict/\o.data=.dict es ep/\es.toList=xs.map (entryOfKey (tupleKind (Bj P w)))/\(xs.map (·.1)).Nodup
  | .set S n=>h.SetOf (intKind P w) a S n
  | .ins C dx fs=>H dx=some (.own a)/\fs.length <= 1000/\dx ≠ a/\h.get? a=some (PySem.W.instObj C dx) /\
      ∃ mA,h.Ns1 dx mA/\(∀ f,RelO (fs.lookup f) (mA f))/\PySem.Within mA (fs.map (·.1))
  | .own _=>∃ o,h.get? a=some o
  | .xd fs=>∃ mA,h.Ns1 a mA/\∀ f,RelO (fs.lookup f) (mA f)
  | .rng lo hi=>∃ t u v,h.get? a=some { cls:=.type "range",data:=.fields #[.int lo t,.int hi u,.int 1 v] }
  | .frz o u=>h.get? a=some o/\ObjOk H h a u
  | .tbl ps=>h.get? a=some { cls:=.none,data:=.fields ps }
  | .met f x=>h.get? a=some (PySem.W.methodObj (.ref f) (.ref x))
  | .ext φ=>φ h/\(∃ o,h.get? a=some o)/\∀ h1 h2:Heap,φ h1->(∀ o,h1.get? a=some o->h2.get? a=some o)->φ h2
noncomputable def HOk(H:Hp)(h:Heap):Prop:=∀ a o,H a=some o->ObjOk P w H h a o
end
section
variable{P:Program}{w:World}{H H':Hp}{h h':Heap}{a:Addr}{o:HO}
theorem ObjOk.lt(x:ObjOk P w H h a o):a < h.objs.size:=by
  cases o with
  | lst xs=>obtain⟨_,_,_,_,e⟩:=x;exact Heap.lt_size e
  | tup xs=>obtain⟨_,_,_,p⟩:=x;exact p.lt
  | dK kvs=>obtain⟨_,_,_,_,o,_,_,e,_⟩:=x;exact Heap.lt_size e
  | dT kvs=>obtain⟨_,_,_,_,o,_,_,e,_⟩:=x;exact Heap.lt_size e
  | set S n=>obtain⟨o,_,_,_,e,_⟩:=x;exact Heap.lt_size e
  | ins C dx fs=>obtain⟨_,_,_,e,_⟩:=x;exact Heap.lt_size e
  | own y=>obtain⟨_,e⟩:=x;exact Heap.lt_size e
  | xd fs=>obtain⟨_,⟨_,_,_,e,_⟩,_⟩:=x;exact Heap.lt_size e
  | rng lo hi=>obtain⟨_,_,_,e⟩:=x;exact Heap.lt_size e
  | frz ob u=>obtain⟨e,_⟩:=x;exact Heap.lt_size e
  | tbl ps=>exact Heap.lt_size (show h.get? a=some _ from x)
  | met f y=>exact Heap.lt_size (show h.get? a=some _ from x)
  | ext φ=>obtain⟨_,⟨_,e⟩,_⟩:=x;exact Heap.lt_size e
theorem Paired.mapP{α β:Type}{F G:α->β->Prop}:∀ {l₁:List α} {l₂:List β},Paired F l₁ l₂->(∀ a b,F a b->G a b)->Paired G l₁ l₂
  | _,_,.nil,_=>.nil
  | _,_,.cons r t,f=>.cons (f _ _ r) (Paired.mapP t f)
theorem ObjOk.stay(x:ObjOk P w H h a o)(k:∀ b u,(b=a ∨ H b=some (.own a))->h.get? b=some u->h'.get? b=some u)
    (ho:∀ b,H b=some (.own a)->H' b=some (.own a)) (ht:∀ b xs,H b=some (.tup xs)->H' b=some (.tup xs)):ObjOk P w H' h' a o:=by
  induction o with
  | lst xs=>obtain⟨z,its,n,r,e⟩:=x;exact⟨z,its,n,r,k _ _ (.inl rfl) e⟩
  | tup xs=>obtain⟨z,its,r,ob,e,c⟩:=x;exact⟨z,its,r,ob,k _ _ (.inl rfl) e,c⟩
  | dK kvs=>obtain⟨z,y,vs,r,ob,es,ep,e,c⟩:=x;exact⟨z,y,vs,r,ob,es,ep,k _ _ (.inl rfl) e,c⟩
  | dT kvs=>
    obtain⟨z,y,xs,r,ob,es,ep,e,c⟩:=x
    exact⟨z,y,xs,Paired.mapP r λ p q z=>⟨z.1,ht _ _ z.2.1,z.2.2⟩,ob,es,ep,k _ _ (.inl rfl) e,c⟩
  | set S n=>obtain⟨ob,es,ep,t,e,c⟩:=x;exact⟨ob,es,ep,t,k _ _ (.inl rfl) e,c⟩
  | ins C dx fs=>
    obtain⟨d,z,ne,e,mA,⟨od,es,ep,e2,c⟩,r⟩:=x
    exact⟨ho _ d,z,ne,k _ _ (.inl rfl) e,mA,⟨od,es,ep,k _ _ (.inr d) e2,c⟩,r⟩
  | own y=>obtain⟨ob,e⟩:=x;exact⟨ob,k _ _ (.inl rfl) e⟩
  | xd fs=>obtain⟨mA,⟨od,es,ep,e,c⟩,r⟩:=x;exact⟨mA,⟨od,es,ep,k _ _ (.inl rfl) e,c⟩,r⟩
  | rng lo hi=>obtain⟨t,u,v,e⟩:=x;exact⟨t,u,v,k _ _ (.inl rfl) e⟩
  | frz ob u ih=>obtain⟨e,q⟩:=x;exact⟨k _ _ (.inl rfl) e,ih q⟩
  | tbl ps=>
    have e:h.get? a=some { cls:=.none,data:=.fields ps }:=x
    show h'.get? a=some { cls:=.none,data:=.fields ps }
    exact k a _ (.inl rfl) e
  | met f y=>
    have e:h.get? a=some (PySem.W.methodObj (.ref f) (.ref y)):=x
    show h'.get? a=some (PySem.W.methodObj (.ref f) (.ref y))
    exact k a _ (.inl rfl) e
  | ext φ=>obtain⟨p,⟨o,e⟩,st⟩:=x;exact⟨st _ _ p λ o q=>k _ _ (.inl rfl) q,⟨o,k _ _ (.inl rfl) e⟩,st⟩
theorem HOk.lt(x:HOk P w H h)(e:H a=some o):a < h.objs.size:=(x a o e).lt
theorem HOk.fresh(x:HOk P w H h)(e:h.objs.size <= a):H a=none:=by
  cases q:H a with
  | none=>rfl
  | some u=>exact absurd (Nat.lt_of_lt_of_le (x.lt q) e) (Nat.lt_irrefl _)
theorem HOk.kept(x:HOk P w H h)(k:∀ b u,h.get? b=some u->h'.get? b=some u):HOk P w H h':=λ a o e=>
  (x a o e).stay (λ b u _ q=>k b u q) (λ _ q=>q) λ _ _ q=>q
theorem HOk.laid(x:HOk P w H h)(k:∀ b u,h.get? b=some u->h'.get? b=some u)(hp:h.objs.size <= a)(new:ObjOk P w (upd H a o) h' a o):HOk P w (upd H a o) h':=λ b u e=>by
  have hn:=x.fresh hp
  by_cases hb:b=a
  . subst hb;rw[AQ]at e;cases e;exact new
  . rw[AE hb]at e
    exact(x b u e).stay (λ c v _ q=>k c v q) (λ c q=>by rw[AE (Ae q hn)];exact q) λ c xs q=>by rw[AE (Ae q hn)];exact q
end
noncomputable def Rd(H:Hp)(a:Addr)(u:HO):Prop:=H a=some u ∨ ∃ o,H a=some (.frz o u)
theorem Rd.ok{P:Program}{w:World}{H:Hp}{h:Heap}{a:Addr}{u:HO}(r:Rd H a u)(x:HOk P w H h):ObjOk P w H h a u:=by
  rcases r with r|⟨o,r⟩
  . exact x a u r
  . obtain⟨_,q⟩:=x a _ r
    exact q
noncomputable def Mut:Option HO->Prop
  | some (.lst _)=>True
  | some (.dK _)=>True
  | some (.dT _)=>True
  | some (.set _ _)=>True
  | some (.ins _ _ _)=>True
  | some (.ext _)=>True
  | _=>False
section
variable{P:Program}{w:World}{H:Hp}{h h':Heap}{x e:Addr}{o':HO}
theorem HOk.write(ok:HOk P w H h)(mu:Mut (H x))(he:e=x ∨ H e=some (.own x))(k:∀ b u,b ≠ e->h.get? b=some u->h'.get? b=some u)(heo:∃ u,h'.get? e=some u)
    (new:ObjOk P w (upd H x o') h' x o'):HOk P w (upd H x o') h':=λ b u q=>by
  have nown:∀ c y,H c=some (.own y)->c ≠ x:=λ c y r z=>by subst z;rw[r]at mu;exact mu
  have ntup:∀ c xs,H c=some (.tup xs)->c ≠ x:=λ c xs r z=>by subst z;rw[r]at mu;exact mu
  by_cases hb:b=x
  . subst hb;rw[AQ]at q;cases q;exact new
  . rw[AE hb]at q
    by_cases hbe:b=e
    . have q':H b=some (.own x):=by
        rcases he with z|z
        . exact absurd (hbe.trans z) hb
        . rw[hbe];exact z
      rw[q]at q';cases q'
      obtain⟨v,hv⟩:=heo
      exact⟨v,by rw[hbe];exact hv⟩
    . refine(ok b u q).stay (λ c v hc r=>k c v ?_ r) (λ c r=>by rw[AE (nown c b r)];exact r) λ c xs r=>by rw[AE (ntup c xs r)];exact r
      rcases hc with rfl|hc
      . exact hbe
      . rintro rfl
        rcases he with z|z
        . exact nown c b hc z
        . rw[hc]at z;cases z;exact hb rfl
end
structure Un(fs ex:List Addr)(H H':Hp)(h h':Heap):Prop where
  keep:∀ b o,h.get? b=some o->H b=none->b ∉ fs->b ∉ ex->h'.get? b=some o
  slot:∀ b o,h.get? b=some o->H b=none->b ∈ fs->b ∉ ex->∃ sl,h'.get? b=some { o with slots:=sl }
  free:∀ b o,h.get? b=some o->H b=none->b ∉ ex->H' b=none
  there:∀ b o,h.get? b=some o->b ∉ ex->∃ o',h'.get? b=some o'
  tups:∀ b xs,H b=some (.tup xs)->H' b=some (.tup xs)
  frzs:∀ b o u,H b=some (.frz o u)->H' b=some (.frz o u)
  tbls:∀ b ps,H b=some (.tbl ps)->∃ more,H' b=some (.tbl (ps ++ more))
section
variable{fs fs' ex ex':List Addr}{H H1 H2:Hp}{h h1 h2 h':Heap}{a x e:Addr}{o:HO}
theorem Un.any(u:Un fs ex H H1 h h1){b:Addr}{ob:Obj}(q:h.get? b=some ob)(n:H b=none)(hx:b ∉ ex):∃ sl,h1.get? b=some { ob with slots:=sl }:=by
  by_cases hb:b ∈ fs
  . exact u.slot b ob q n hb hx
  . exact⟨ob.slots,u.keep b ob q n hb hx⟩
theorem Un.kept(k:∀ b u,h.get? b=some u->h'.get? b=some u):Un fs ex H H h h':=
  ⟨λ b ob q _ _ _=>k b ob q,λ b ob q _ _ _=>⟨ob.slots,k b ob q⟩,λ _ _ _ n _=>n,λ b ob q _=>⟨ob,k b ob q⟩,λ _ _ q=>q,λ _ _ _ q=>q,λ _ ps q=>⟨#[],by rw[q];simp⟩⟩
theorem Un.refl:Un fs ex H H h h:=Un.kept λ _ _ q=>q
theorem Un.laid(k:∀ b u,h.get? b=some u->h'.get? b=some u)(hp:h.objs.size <= a)(hn:H a=none):Un fs ex H (upd H a o) h h' where
  keep:=λ b u q _ _ _=>k b u q
  slot:=λ b u q _ _ _=>⟨u.slots,k b u q⟩
  free:=λ b u q n _=>by rw[AE (Nat.ne_of_lt (Nat.lt_of_lt_of_le (Heap.lt_size q) hp))];exact n
  there:=λ b u q _=>⟨u,k b u q⟩
  tups:=λ b xs q=>by rw[AE (Ae q hn)];exact q
  frzs:=λ b u xs q=>by rw[AE (Ae q hn)];exact q
  tbls:=λ b ps q=>⟨#[],by rw[AE (Ae q hn),q];simp⟩
theorem Un.write(mu:Mut (H x))(he:e=x ∨ H e=some (.own x))(k:∀ b u,b ≠ e->h.get? b=some u->h'.get? b=some u)(heo:∃ u,h'.get? e=some u):Un fs ex H (upd H x o) h h':=by
  have hx:∀ b,H b=none->b ≠ x:=λ b n z=>by subst z;rw[n]at mu;exact mu
  have hb:∀ b,H b=none->b ≠ e:=λ b n z=>by
    subst z
    rcases he with r|r
    . exact hx b n r
    . rw[n]at r;cases r
  have hm:∀ b u,H b=some u->¬ Mut (some u)->b ≠ x:=λ b u q nm z=>by subst z;rw[q]at mu;exact nm mu
  refine⟨λ b u q n _ _=>k b u (hb b n) q,λ b u q n _ _=>⟨u.slots,k b u (hb b n) q⟩,λ b u q n _=>by rw[AE (hx b n)];exact n,λ b u q _=>?_,
    λ b xs q=>by rw[AE (hm b _ q λ z=>z)];exact q,λ b u xs q=>by rw[AE (hm b _ q λ z=>z)];exact q,λ b ps q=>⟨#[],by rw[AE (hm b _ q λ z=>z),q];simp⟩⟩
  by_cases hbe:b=e
  . subst hbe;exact heo
  . exact⟨u,k b u hbe q⟩
end
noncomputable def trk(h:Heap)(H:Hp):List Addr:=(List.range h.objs.size).filter λ a=>(H a).isSome
noncomputable def GJ(h:Heap)(H:Hp):Heap:=PySem.W.hideAll h (trk h H)
theorem P1(h:Heap)(H:Hp):(GJ h H).objs.size=h.objs.size:=PySem.W.hideAll_size _ _
theorem RX{h:Heap}{H:Hp}{b:Addr}{o:Obj}(e:h.get? b=some o)(n:H b=none):(GJ h H).get? b=some o:=
  PySem.W.hideAll_get _ e λ hm=>by
    have q:(H b).isSome=true:=(List.mem_filter.mp hm).2
    rw[n]at q;simp at q
theorem TY{h:Heap}{H:Hp}{b:Addr}{o:Obj}(e:(GJ h H).get? b=some o):h.get? b=some o/\H b=none:=by
  have e':h.get? b=some o:=PySem.W.of_hideAll (trk h H) e
  refine⟨e',?_⟩
  cases q:H b with
  | none=>rfl
  | some x=>
    have hm:b ∈ trk h H:=List.mem_filter.mpr ⟨List.mem_range.mpr (Heap.lt_size e'),by simp[q]⟩
    have z:(GJ h H).get? b=none:=PySem.W.hideAll_none (trk h H) hm
    rw[z]at e;cases e
noncomputable def U8(g h:Heap)(L:Addr):List (Addr × Obj):=(List.range h.objs.size).filterMap λ a=>if a=L ∨ (g.get? a).isSome=true then none else(h.get? a).map λ o=>(a,o)
noncomputable def rest(g h:Heap)(L d:Addr):List (Addr × Obj):=(U8 g h L).filter λ p=>decide (p.1 ≠ d)
end L2
namespace L2
open PySem PySem.Spec PyProof.Rows
structure Mod(K:PySem.W.Frag)(mg:Str->Option Value)(base:Heap):Prop where
  kin:K.In base
  glob:base.Ns mainGlobals mg
  blt:∃ mb,base.Ns builtinsNs mb/\∀ x:Str,x ≠ "__name__"->mb x=bootBuiltins x
  nolimit:base.NoLimit
structure Cx where
  prog:Program
  w:World
  K:PySem.W.Frag
  mg:Str->Option Value
  base:Heap
  A:Around
  N:List Str
  s₀:Shared
  H₀:Hp
  env:Env
  outer:List Env
  stack:List Env
  ex:List Addr
  fn:Str->Bool
  calm:Bool
  pn:List (Addr × Obj)
  xe:Value->Shared->Prop
noncomputable def frs(l:List Env):List Addr:=l.filterMap (·.frame)
noncomputable abbrev Cx.fs(X:Cx):List Addr:=frs X.outer
noncomputable def Vis(sc:Scope)(x:Str):Prop:=sc.names.lookup x=some .local ∨ sc.names.lookup x=some .cell ∨ sc.names.lookup x=some .free
noncomputable def Loc(sc:Scope)(x:Str):Prop:=sc.names.lookup x=some .local ∨ sc.names.lookup x=some .cell
noncomputable def Xd(env:Env)(h:Heap)(m:Str->Option Value)(x:Str)(u:Value):Prop:=
  (env.kindOf x=some .local/\m x=some u) ∨ ((env.kindOf x=some .cell ∨ env.kindOf x=some .free)/\∃ c,env.cells.lookup x=some c/\h.IsCell c (some u))
structure Cx.Ok(X:Cx):Prop where
  mod:Mod X.K X.mg X.base
  kind:X.env.scope.kind=.function
  glob:X.env.globals=mainGlobals
  blt:X.env.builtins=builtinsNs
  above:X.s₀.heap.objs.size <= X.env.locals
  inj:∀ x y c,X.env.cells.lookup x=some c->X.env.cells.lookup y=some c->x=y
  has:∀ x,(X.env.kindOf x=some .cell ∨ X.env.kindOf x=some .free)->∃ c,X.env.cells.lookup x=some c
  cab:∀ x c,X.fn x=true->X.env.cells.lookup x=some c->X.s₀.heap.objs.size <= c
  hd:X.calm=true->X.A.handled=none
  frames:X.A.frames=some X.stack
  stk:X.stack=X.outer ∨ (X.stack=X.env :: X.outer/\X.env.frame=some X.env.locals)
  exf:∀ b ∈ X.ex,b ≠ X.env.locals/\∀ x c,X.env.cells.lookup x=some c->c ≠ b
  bs:∀ b o,X.base.get? b=some o->X.s₀.heap.get? b=some o/\X.H₀ b=none
  bsz:X.base.objs.size <= X.s₀.heap.objs.size
  noex:∀ b o,X.base.get? b=some o->b ∉ X.ex
  exfs:∀ b ∈ X.ex,b ∉ X.fs
  funs:X.s₀.heap.FunFrames X.base X.outer
  frf:∀ b ∈ X.fs,X.H₀ b=none
structure Inv(X:Cx)(pins:List (Addr × Obj))(σ:List (Option V))(H:Hp)(s:Shared):Prop where
  ok:X.Ok
  os:s.os=X.s₀.os
  bare:AllBare s.gens
  base:Un X.fs X.ex X.H₀ H X.s₀.heap s.heap
  loc:∃ m,s.heap.Ns X.env.locals m/\∀ (i:Nat) (x:Str) (v:V),X.N[i]? = some x->σ[i]? = some (some v)->Vis X.env.scope x->∃ u,RelV v u/\Xd X.env s.heap m x u
  cell:∀ x c,X.env.cells.lookup x=some c->∃ v,s.heap.IsCell c v
  free:H X.env.locals=none
  freeC:∀ x c,X.env.cells.lookup x=some c->H c=none
  pin:∀ p ∈ X.pn ++ pins,s.heap.get? p.1=some p.2/\H p.1=none/\p.1 ≠ X.env.locals/\p.1 ∉ X.fs/\∀ v,p.2.data ≠ .cell v
  hok:HOk X.prog X.w H s.heap
  len:σ.length=X.N.length
section
variable{X:Cx}{pins:List (Addr × Obj)}{σ:List (Option V)}{H H':Hp}{s:Shared}{h':Heap}
theorem Cx.Ok.nofr(ok:X.Ok){b:Addr}{o:Obj}(e:X.base.get? b=some o):b ∉ X.fs:=λ hb=>by
  have:=(ok.funs.mem hb).1
  rw[e]at this;cases this
theorem Inv.bs(I:Inv X pins σ H s):∀ b o,X.base.get? b=some o->s.heap.get? b=some o/\H b=none:=λ b o e=>
  ⟨I.base.keep b o (I.ok.bs b o e).1 (I.ok.bs b o e).2 (I.ok.nofr e) (I.ok.noex b o e),I.base.free b o (I.ok.bs b o e).1 (I.ok.bs b o e).2 (I.ok.noex b o e)⟩
theorem Inv.bk(I:Inv X pins σ H s):∀ b o,X.base.get? b=some o->s.heap.get? b=some o:=λ b o e=>(I.bs b o e).1
theorem Inv.mod(I:Inv X pins σ H s):Mod X.K X.mg X.base:=I.ok.mod
theorem Inv.kIn(I:Inv X pins σ H s):X.K.In s.heap:=I.ok.mod.kin.keeps I.bk
theorem Inv.nolimit(I:Inv X pins σ H s):s.heap.NoLimit:=I.ok.mod.nolimit.keeps I.bk
theorem Inv.fr(I:Inv X pins σ H s):∃ m,Fr X.base X.env.locals s.heap m:=
  let ⟨m,hn,_⟩:=I.loc
  ⟨m,hn,I.bk,Nat.le_trans I.ok.bsz I.ok.above⟩
theorem Inv.lt(I:Inv X pins σ H s):X.env.locals < s.heap.objs.size:=let ⟨_,hn,_⟩:=I.loc;hn.lt
theorem Inv.sz(I:Inv X pins σ H s):X.s₀.heap.objs.size <= s.heap.objs.size:=Nat.le_trans I.ok.above (Nat.le_of_lt I.lt)
theorem Inv.nofs(I:Inv X pins σ H s){a:Addr}(h:s.heap.objs.size <= a):a ∉ X.fs:=λ hb=>by
  obtain⟨_,o,ho,_⟩:=I.ok.funs.mem hb
  exact absurd (Nat.lt_of_lt_of_le (Heap.lt_size ho) (Nat.le_trans I.sz h)) (Nat.lt_irrefl _)
theorem Inv.cne(I:Inv X pins σ H s):∀ x c,X.env.cells.lookup x=some c->c ≠ X.env.locals:=λ x c e z=>by
  obtain⟨v,o,ho,hd⟩:=I.cell x c e
  obtain⟨m,⟨o',es,ep,ho',hd',_⟩,_⟩:=I.loc
  rw[z,ho']at ho;cases ho;rw[hd']at hd;cases hd
theorem Inv.funs(I:Inv X pins σ H s):s.heap.FunFrames X.base X.outer:=by
  have all:∀ (l:List Env),(∀ b ∈ frs l,b ∈ X.fs)->X.s₀.heap.FunFrames X.base l->s.heap.FunFrames X.base l:=by
    intro l
    induction l with
    | nil=>intro _ _;trivial
    | cons env r ih=>
      intro hs hl
      obtain⟨hk,⟨L,o,hf,hn,ho,hd⟩,hr⟩:=hl
      have hL:L ∈ X.fs:=hs L (by unfold frs;rw[List.filterMap_cons,hf];exact List.mem_cons_self)
      obtain⟨sl,e⟩:=I.base.slot L o ho (I.ok.frf L hL) hL λ z=>I.ok.exfs L z hL
      exact⟨hk,⟨L,_,hf,hn,e,hd⟩,ih (λ b hb=>hs b (by unfold frs;rw[List.filterMap_cons,hf];exact List.mem_cons_of_mem _ hb)) hr⟩
  exact all X.outer (λ _ hb=>hb) I.ok.funs
theorem Inv.stack(I:Inv X pins σ H s):s.heap.FunFrames X.base X.stack:=by
  rcases I.ok.stk with e|⟨e,hf⟩
  . rw[e];exact I.funs
  . rw[e]
    obtain⟨m,hn,_⟩:=I.loc
    refine .cons (by rw[I.ok.kind];decide) hf hn ?_ I.funs
    exact Heap.get?_none_of_le (Nat.le_trans I.ok.bsz I.ok.above)
theorem Inv.stkSub(I:Inv X pins σ H s):∀ b ∈ frs X.stack,b ∈ X.env.locals :: X.fs:=λ b hb=>by
  rcases I.ok.stk with e|⟨e,hf⟩
  . rw[e]at hb;exact List.mem_cons_of_mem _ hb
  . rw[e]at hb
    unfold frs at hb
    rw[List.filterMap_cons,hf]at hb
    exact hb
theorem Inv.stkFree(I:Inv X pins σ H s):∀ b ∈ frs X.stack,H b=none:=λ b hb=>by
  rcases List.mem_cons.mp (I.stkSub b hb)with e|hb
  . rw[e];exact I.free
  . obtain⟨_,o,ho,_⟩:=I.ok.funs.mem hb
    exact I.base.free b o ho (I.ok.frf b hb) λ z=>I.ok.exfs b z hb
theorem Inv.step{g':Array GenState}{t':Nat}{d':Drawn}{ch:List Addr}(I:Inv X pins σ H s)
    (hch:∀ b ∈ ch,(b ∈ X.ex ∨ X.s₀.heap.objs.size <= b)/\b ≠ X.env.locals/\(∀ x c,X.env.cells.lookup x=some c->c ≠ b)/\∀ p ∈ X.pn ++ pins,p.1 ≠ b)
    (keep:∀ b o,b ≠ X.env.locals->b ∉ X.fs->b ∉ ch->s.heap.get? b=some o->H b=none->h'.get? b=some o)
    (slot:∀ b o,b ≠ X.env.locals->b ∈ X.fs->b ∉ ch->s.heap.get? b=some o->H b=none->∃ sl,h'.get? b=some { o with slots:=sl }) (free:∀ b o,b ∉ ch->s.heap.get? b=some o->H b=none->H' b=none)
    (there:∀ b o,b ∉ ch->s.heap.get? b=some o->∃ o',h'.get? b=some o')
    (tups:∀ b xs,H b=some (.tup xs)->H' b=some (.tup xs)) (frzs:∀ b o u,H b=some (.frz o u)->H' b=some (.frz o u)) (tbls:∀ b ps,H b=some (.tbl ps)->∃ more,H' b=some (.tbl (ps ++ more)))
    (ns:∀ m,s.heap.Ns X.env.locals m->h'.Ns X.env.locals m) (hok:HOk X.prog X.w H' h') (hg:AllBare g') :
    Inv X pins σ H' { s with heap:=h',gens:=g',drawn:=d',toks:=t' }:=by
  have neL:∀ b o,X.s₀.heap.get? b=some o->b ≠ X.env.locals:=λ b o e=>Nat.ne_of_lt (Nat.lt_of_lt_of_le (Heap.lt_size e) I.ok.above)
  have neC:∀ b o,X.s₀.heap.get? b=some o->b ∉ X.ex->b ∉ ch:=λ b o e hx hb=>by
    rcases(hch b hb).1 with z|z
    . exact hx z
    . exact absurd (Nat.lt_of_lt_of_le (Heap.lt_size e) z) (Nat.lt_irrefl _)
  have cellK:∀ x c,X.env.cells.lookup x=some c->∀ v,s.heap.IsCell c v->h'.IsCell c v:=λ x c e v ⟨o,ho,hd⟩=>by
    have nch:c ∉ ch:=λ z=>(hch c z).2.2.1 x c e rfl
    by_cases hc:c ∈ X.fs
    . obtain⟨sl,q⟩:=slot c o (I.cne x c e) hc nch ho (I.freeC x c e)
      exact⟨_,q,hd⟩
    . exact⟨o,keep c o (I.cne x c e) hc nch ho (I.freeC x c e),hd⟩
  refine⟨I.ok,I.os,hg,⟨λ b o e n hb hx=>?_,λ b o e n hb hx=>?_,λ b o e n hx=>?_,λ b o e hx=>?_,λ b xs e=>tups b xs (I.base.tups b xs e),λ b o xs e=>frzs b o xs (I.base.frzs b o xs e),λ b ps e=>?_⟩,?_,λ x c e=>?_,?_,λ x c e=>?_,λ p hp=>?_,hok,I.len⟩
  . exact keep b o (neL b o e) hb (neC b o e hx) (I.base.keep b o e n hb hx) (I.base.free b o e n hx)
  . obtain⟨sl,e1⟩:=I.base.slot b o e n hb hx
    obtain⟨sl',e2⟩:=slot b _ (neL b o e) hb (neC b o e hx) e1 (I.base.free b o e n hx)
    exact⟨sl',e2⟩
  . obtain⟨o',e1⟩:=I.base.there b o e hx
    exact free b o' (neC b o e hx) e1 (I.base.free b o e n hx)
  . obtain⟨o',e1⟩:=I.base.there b o e hx
    exact there b o' (neC b o e hx) e1
  . obtain⟨m1,e1⟩:=I.base.tbls b ps e
    obtain⟨m2,e2⟩:=tbls b _ e1
    exact⟨m1 ++ m2,by rw[e2,Array.append_assoc]⟩
  . obtain⟨m,hn,hl⟩:=I.loc
    refine⟨m,ns m hn,λ i x v e1 e2 e3=>?_⟩
    obtain⟨u,r,l⟩:=hl i x v e1 e2 e3
    refine⟨u,r,?_⟩
    rcases l with l|⟨k,c,e,z⟩
    . exact .inl l
    . exact .inr ⟨k,c,e,cellK x c e _ z⟩
  . obtain⟨v,z⟩:=I.cell x c e
    exact⟨v,cellK x c e v z⟩
  . obtain⟨m,⟨o,_,_,ho,_⟩,_⟩:=I.loc
    exact free _ o (λ z=>(hch _ z).2.1 rfl) ho I.free
  . obtain⟨v,o,ho,hd⟩:=I.cell x c e
    exact free c o (λ z=>(hch c z).2.2.1 x c e rfl) ho (I.freeC x c e)
  . obtain⟨e,n,ne,nf,d⟩:=I.pin p hp
    have nch:p.1 ∉ ch:=λ z=>(hch p.1 z).2.2.2 p hp rfl
    exact⟨keep p.1 p.2 ne nf nch e n,free p.1 p.2 nch e n,ne,nf,d⟩
theorem Inv.un{t':Nat}(I:Inv X pins σ H s)(u:Un X.fs [] H H' s.heap h')(hok:HOk X.prog X.w H' h'):Inv X pins σ H' { s with heap:=h',toks:=t' }:=by
  obtain⟨m,⟨o,es,ep,ho,r⟩,_⟩:=id I.loc
  obtain⟨sl,hL⟩:=u.any ho I.free (by simp)
  exact I.step (g':=s.gens) (d':=s.drawn) (ch:=[]) (λ _ z=>nomatch z) (λ b o _ hb _ e n=>u.keep b o e n hb (by simp)) (λ b o _ hb _ e n=>u.slot b o e n hb (by simp)) (λ b o _ e n=>u.free b o e n (by simp)) (λ b o _ e=>u.there b o e (by simp)) u.tups u.frzs u.tbls (λ m' hm=>by
    obtain⟨o',es',ep',ho',r'⟩:=hm
    rw[ho]at ho';cases ho'
    exact⟨_,es',ep',hL,r'⟩) hok I.bare
theorem Inv.call{g':Array GenState}{t':Nat}{d':Drawn}{ch:List Addr}(I:Inv X pins σ H s)(u:Un (frs X.stack) ch H H' s.heap h')(hok:HOk X.prog X.w H' h')(hg:AllBare g')
    (hch:∀ b ∈ ch,(b ∈ X.ex ∨ X.s₀.heap.objs.size <= b)/\b ≠ X.env.locals/\(∀ x c,X.env.cells.lookup x=some c->c ≠ b)/\∀ p ∈ X.pn ++ pins,p.1 ≠ b) :
    Inv X pins σ H' { s with heap:=h',gens:=g',drawn:=d',toks:=t' }:=by
  obtain⟨m,⟨o,es,ep,ho,r⟩,_⟩:=id I.loc
  obtain⟨sl,hL⟩:=u.any ho I.free λ z=>(hch _ z).2.1 rfl
  exact I.step (ch:=ch) hch (λ b o hL hb hc e n=>u.keep b o e n (λ z=>(List.mem_cons.mp (I.stkSub b z)).elim hL hb) hc) (λ b o _ _ hc e n=>u.any e n hc) (λ b o hc e n=>u.free b o e n hc) (λ b o hc e=>u.there b o e hc) u.tups u.frzs u.tbls (λ m' hm=>by
    obtain⟨o',es',ep',ho',r'⟩:=hm
    rw[ho]at ho';cases ho'
    exact⟨_,es',ep',hL,r'⟩) hok hg
theorem Inv.turned{t':Nat}{it:Addr}(I:Inv X pins σ H s)(k:∀ b o,b ≠ it->s.heap.get? b=some o->h'.get? b=some o)(hn:H it=none)(hL:it ≠ X.env.locals)
    (h1:it ∈ X.ex ∨ X.s₀.heap.objs.size <= it) (h2:∀ x c,X.env.cells.lookup x=some c->c ≠ it) (h3:∀ p ∈ X.pn ++ pins,p.1 ≠ it):Inv X pins σ H { s with heap:=h',toks:=t' }:=by
  have nit:∀ b u,H b=some u->b ≠ it:=λ b u e z=>by rw[z,hn]at e;cases e
  refine I.step (g':=s.gens) (d':=s.drawn) (ch:=[it]) (λ b hb=>?_) (λ b o _ _ hc e _=>k b o (λ z=>hc (by simp[z])) e) (λ b o _ _ hc e _=>⟨o.slots,k b o (λ z=>hc (by simp[z])) e⟩) (λ _ _ _ _ n=>n)
    (λ b o hc e=>⟨o,k b o (λ z=>hc (by simp[z])) e⟩) (λ _ _ e=>e) (λ _ _ _ e=>e) (λ b ps e=>⟨#[],by rw[e];simp⟩) (λ m hm=>?_) (λ b u e=>?_) I.bare
  . have e:b=it:=by simpa using hb
    subst e
    exact⟨h1,hL,h2,h3⟩
  . obtain⟨o,es,ep,ho,r⟩:=hm
    exact⟨o,es,ep,k _ o (Ne.symm hL) ho,r⟩
  . refine(I.hok b u e).stay (λ c v hc q=>k c v ?_ q) (λ _ q=>q) λ _ _ q=>q
    rcases hc with z|z
    . rw[z];exact nit b u e
    . exact nit c _ z
theorem Inv.tok(I:Inv X pins σ H s)(t:Nat):Inv X pins σ H { s with toks:=t }:=I.un (h':=s.heap) (t':=t) Un.refl I.hok
theorem Inv.kept{t':Nat}(I:Inv X pins σ H s)(k:∀ b u,s.heap.get? b=some u->h'.get? b=some u):Inv X pins σ H { s with heap:=h',toks:=t' }:=I.un (Un.kept k) (I.hok.kept k)
theorem Inv.laid{a:Addr}{o:HO}{t':Nat}(I:Inv X pins σ H s)(k:∀ b u,s.heap.get? b=some u->h'.get? b=some u)(hp:s.heap.objs.size <= a)(new:ObjOk X.prog X.w (upd H a o) h' a o) :
    Inv X pins σ (upd H a o) { s with heap:=h',toks:=t' }:=I.un (Un.laid k hp (I.hok.fresh hp)) (I.hok.laid k hp new)
theorem Inv.write{x e:Addr}{o:HO}{t':Nat}(I:Inv X pins σ H s)(mu:Mut (H x))(he:e=x ∨ H e=some (.own x))(k:∀ b u,b ≠ e->s.heap.get? b=some u->h'.get? b=some u)(heo:∃ u,h'.get? e=some u)
    (new:ObjOk X.prog X.w (upd H x o) h' x o):Inv X pins σ (upd H x o) { s with heap:=h',toks:=t' }:=I.un (Un.write mu he k heo) (I.hok.write mu he k heo new)
theorem Inv.pins_of{pins':List (Addr × Obj)}(I:Inv X pins σ H s)(h:∀ p ∈ pins',s.heap.get? p.1=some p.2/\H p.1=none/\p.1 ≠ X.env.locals/\p.1 ∉ X.fs/\∀ v,p.2.data ≠ .cell v):Inv X pins' σ H s:=
  ⟨I.ok,I.os,I.bare,I.base,I.loc,I.cell,I.free,I.freeC,λ p hp=>(List.mem_append.mp hp).elim (λ z=>I.pin p (List.mem_append_left _ z)) (h p),I.hok,I.len⟩
theorem LP{N:List Str}(hN:N.Nodup){i j:Nat}{x:Str}(a:N[i]? = some x)(b:N[j]? = some x):i=j:=by
  obtain⟨h1,e1⟩:=List.getElem?_eq_some_iff.mp a
  obtain⟨h2,e2⟩:=List.getElem?_eq_some_iff.mp b
  exact(List.getElem_inj hN).mp (e1.trans e2.symm)
theorem Je{M:Model}{A:Around}{E:Value->Shared->Prop}{i:Nat}{x:Str}{v:V}{u:Value}{Q:Unit->Shared->Prop}(I:Inv X pins σ H s)(hN:X.N.Nodup)(hi:X.N[i]? = some x)(hx:Loc X.env.scope x)(r:RelV v u)
    (h:∀ s',Inv X pins (σ.set i (some v)) H s'->(∃ a,Heap.SameBut a s.heap s'.heap/\(a=X.env.locals ∨ X.env.cells.lookup x=some a))->Q () s') (hf:X.fn x=true ∨ X.env.scope.names.lookup x=some .local:=by first|exact .inl rfl|exact .inr rfl|assumption):wpAny M A (storeName X.env x u) Q E s:=by
  obtain⟨m,hn,hl⟩:=id I.loc
  have hcls:(X.env.scope.kind == .class || (X.env.scope.kind == .module && X.env.locals != X.env.globals))=false:=by rw[I.ok.kind];rfl
  have hiσ:i < σ.length:=by rw[I.len];exact(List.getElem?_eq_some_iff.mp hi).1
  have cne:=I.cne
  have tracked:∀ {a:Addr} {h':Heap},(∃ o,s.heap.get? a=some o/\H a=none)->Heap.SameBut a s.heap h'->HOk X.prog X.w H h':=λ {a h'} ha hs b ob e=>by
    obtain⟨_,_,hfree⟩:=ha
    refine(I.hok b ob e).stay (λ c w' hc q=>(hs.2 c ?_).trans q) (λ _ q=>q) λ _ _ q=>q
    rintro rfl
    rcases hc with rfl|hc
    . rw[hfree]at e;cases e
    . rw[hfree]at hc;cases hc
  rcases hx with hk|hk
  . refine wpAny_storeName_local hk hn (λ h' hn' hs=>?_) hcls
    obtain⟨oL,_,_,hoL,_⟩:=id hn
    refine h _ ⟨I.ok,I.os,I.bare,⟨λ b o e n hb hx=>?_,λ b o e n hb hx=>?_,I.base.free,λ b o e hx=>?_,I.base.tups,I.base.frzs,I.base.tbls⟩,⟨_,hn',λ j y v' e1 e2 e3=>?_⟩,λ y c e=>?_,I.free,I.freeC,λ p hp=>?_,tracked ⟨oL,hoL,I.free⟩ hs,by simpa using I.len⟩ ⟨_,hs,.inl rfl⟩
    . exact(hs.2 b (Nat.ne_of_lt (Nat.lt_of_lt_of_le (Heap.lt_size e) I.ok.above))).trans (I.base.keep b o e n hb hx)
    . obtain⟨sl,e1⟩:=I.base.slot b o e n hb hx
      exact⟨sl,(hs.2 b (Nat.ne_of_lt (Nat.lt_of_lt_of_le (Heap.lt_size e) I.ok.above))).trans e1⟩
    . obtain⟨o',e1⟩:=I.base.there b o e hx
      exact⟨o',(hs.2 b (Nat.ne_of_lt (Nat.lt_of_lt_of_le (Heap.lt_size e) I.ok.above))).trans e1⟩
    . by_cases hj:j=i
      . subst hj
        rw[hi]at e1;cases e1
        rw[List.getElem?_set_self hiσ]at e2
        cases e2
        exact⟨u,r,.inl ⟨hk,by simp⟩⟩
      . rw[List.getElem?_set_ne (Ne.symm hj)]at e2
        obtain⟨u',r',q⟩:=hl j y v' e1 e2 e3
        refine⟨u',r',?_⟩
        rcases q with⟨k,e⟩|⟨k,c,e,z⟩
        . refine .inl ⟨k,?_⟩
          have:y ≠ x:=λ e=>hj (LP hN e1 (e ▸ hi))
          simp[this,e]
        . exact .inr ⟨k,c,e,z.sameBut hs (cne y c e)⟩
    . obtain⟨w',z⟩:=I.cell y c e
      exact⟨w',z.sameBut hs (cne y c e)⟩
    . obtain⟨e,n,ne,nf,d⟩:=I.pin p hp
      exact⟨(hs.2 p.1 ne).trans e,n,ne,nf,d⟩
  . have hfn:X.fn x=true:=by
      rcases hf with z|z
      . exact z
      . rw[z]at hk;cases hk
    obtain⟨c,hc⟩:=I.ok.has x (.inl hk)
    obtain⟨w',z⟩:=I.cell x c hc
    refine wpAny_storeName_cell I.ok.kind hk hc z (λ h' hc' hs=>?_)
    obtain⟨oc,hoc,hocd⟩:=id z
    refine h { s with heap:=h' } ⟨I.ok,I.os,I.bare,⟨λ b o e n hb hx=>?_,λ b o e n hb hx=>?_,I.base.free,λ b o e hx=>?_,I.base.tups,I.base.frzs,I.base.tbls⟩,⟨m,hn.sameBut hs (Ne.symm (cne x c hc)),λ j y v' e1 e2 e3=>?_⟩,λ y c' e=>?_,I.free,I.freeC,λ p hp=>?_,tracked ⟨oc,hoc,I.freeC x c hc⟩ hs,by simpa using I.len⟩ ⟨c,hs,.inr hc⟩
    . exact(hs.2 b (Nat.ne_of_lt (Nat.lt_of_lt_of_le (Heap.lt_size e) (I.ok.cab x c hfn hc)))).trans (I.base.keep b o e n hb hx)
    . obtain⟨sl,e1⟩:=I.base.slot b o e n hb hx
      exact⟨sl,(hs.2 b (Nat.ne_of_lt (Nat.lt_of_lt_of_le (Heap.lt_size e) (I.ok.cab x c hfn hc)))).trans e1⟩
    . obtain⟨o',e1⟩:=I.base.there b o e hx
      exact⟨o',(hs.2 b (Nat.ne_of_lt (Nat.lt_of_lt_of_le (Heap.lt_size e) (I.ok.cab x c hfn hc)))).trans e1⟩
    . by_cases hj:j=i
      . subst hj
        rw[hi]at e1;cases e1
        rw[List.getElem?_set_self hiσ]at e2
        cases e2
        exact⟨u,r,.inr ⟨.inl hk,c,hc,hc'⟩⟩
      . rw[List.getElem?_set_ne (Ne.symm hj)]at e2
        obtain⟨u',r',q⟩:=hl j y v' e1 e2 e3
        refine⟨u',r',?_⟩
        rcases q with q|⟨k,c',e,z'⟩
        . exact .inl q
        . refine .inr ⟨k,c',e,z'.sameBut hs ?_⟩
          rintro rfl
          exact hj (LP hN e1 (I.ok.inj _ _ _ e hc ▸ hi))
    . by_cases hcc:c'=c
      . subst hcc;exact⟨_,hc'⟩
      . obtain⟨w2,z2⟩:=I.cell y c' e
        exact⟨w2,z2.sameBut hs hcc⟩
    . obtain⟨e,n,ne,nf,d⟩:=I.pin p hp
      refine⟨(hs.2 p.1 ?_).trans e,n,ne,nf,d⟩
      intro q
      rw[q,hoc]at e
      have q':oc=p.2:=Option.some.inj e
      exact d w' (by rw[<- q'];exact hocd)
theorem Kq{M:Model}{A:Around}{E:Value->Shared->Prop}{i:Nat}{x:Str}{v:V}{u:Value}{Q:Unit->Shared->Prop}(I:Inv X pins σ H s)(hN:X.N.Nodup)(hi:X.N[i]? = some x)(hx:Loc X.env.scope x)(r:RelV v u)
    (h:∀ s',Inv X pins (σ.set i (some v)) H s'->Q () s') (hf:X.fn x=true ∨ X.env.scope.names.lookup x=some .local:=by first|exact .inl rfl|exact .inr rfl|assumption):wpAny M A (storeName X.env x u) Q E s:=
  Je I hN hi hx r (λ s' I' _=>h s' I') hf
theorem Inv.call'{s':Shared}{ch:List Addr}(I:Inv X pins σ H s)(ho:s'.os=s.os)(u:Un (frs X.stack) ch H H' s.heap s'.heap)(hok:HOk X.prog X.w H' s'.heap)(hg:AllBare s'.gens)
    (hch:∀ b ∈ ch,(b ∈ X.ex ∨ X.s₀.heap.objs.size <= b)/\b ≠ X.env.locals/\(∀ x c,X.env.cells.lookup x=some c->c ≠ b)/\∀ p ∈ X.pn ++ pins,p.1 ≠ b):Inv X pins σ H' s':=by
  obtain⟨h',g',d',t',o'⟩:=s'
  have e:o'=s.os:=ho
  subst e
  exact I.call (g':=g') (t':=t') (d':=d') u hok hg hch
end
noncomputable abbrev XK:=Value->Option Addr->Hp->Prop
noncomputable abbrev St:=List (Option V)
noncomputable abbrev VK:=V->Hp->Prop
noncomputable abbrev TE:=St->Hp->VK->Prop
noncomputable abbrev TT:=St->Hp->(Bool->Hp->Prop)->Prop
noncomputable abbrev TA:=St->Hp->(List V->Hp->Prop)->Prop
structure Ends where
  nx:St->Hp->Prop
  rt:VK
  bk:St->Hp->Prop:=λ _ _=>False
  ct:St->Hp->Prop:=λ _ _=>False
noncomputable abbrev TS:=Ends->St->Hp->Prop
noncomputable def EP(X:Cx)(pins:List (Addr × Obj))(σ:St)(Q:VK)(u:Value)(s':Shared):Prop:=∃ v H',Inv X pins σ H' s'/\RelV v u/\Q v H'
noncomputable def TP(X:Cx)(pins:List (Addr × Obj))(σ:St)(Q:Bool->Hp->Prop)(b:Bool)(s':Shared):Prop:=∃ H',Inv X pins σ H' s'/\Q b H'
noncomputable def AP(X:Cx)(pins:List (Addr × Obj))(σ:St)(Q:List V->Hp->Prop)(us:List Value)(s':Shared):Prop:=∃ vs H',Inv X pins σ H' s'/\Vals vs us/\Q vs H'
noncomputable def SP(X:Cx)(pins:List (Addr × Obj))(D:Ends)(f:Flow)(s':Shared):Prop:=
  match f with
  | .next=>∃ σ' H',Inv X pins σ' H' s'/\D.nx σ' H'
  | .brk=>∃ σ' H',Inv X pins σ' H' s'/\D.bk σ' H'
  | .cont=>∃ σ' H',Inv X pins σ' H' s'/\D.ct σ' H'
  | .ret u=>∃ v σ' H',Inv X pins σ' H' s'/\RelV v u/\D.rt v H'
noncomputable def PE(X:Cx)(e:Expr)(t:TE):Prop:=
  ∀ (pins:List (Addr × Obj)) (s:Shared) (σ:St) (H:Hp) (Q:VK),Inv X pins σ H s->t σ H Q->wpAny (model X.prog X.w) X.A (eval e X.env) (EP X pins σ Q) X.xe s
noncomputable def PT(X:Cx)(e:Expr)(t:TT):Prop:=
  ∀ (pins:List (Addr × Obj)) (s:Shared) (σ:St) (H:Hp) (Q:Bool->Hp->Prop),Inv X pins σ H s->t σ H Q->wpAny (model X.prog X.w) X.A (isTrue e X.env (eval e X.env)) (TP X pins σ Q) X.xe s
noncomputable def PW(X:Cx)(e:Expr)(t:TT):Prop:=
  ∀ (whole:Sem Value) (pins:List (Addr × Obj)) (s:Shared) (σ:St) (H:Hp) (Q:Bool->Hp->Prop),Inv X pins σ H s->t σ H Q->wpAny (model X.prog X.w) X.A (isTrue e X.env whole) (TP X pins σ Q) X.xe s
theorem PW.pt{X:Cx}{e:Expr}{t:TT}(h:PW X e t):PT X e t:=h _
noncomputable def PA(X:Cx)(es:List Expr)(t:TA):Prop:=
  ∀ (pos:Pos) (pins:List (Addr × Obj)) (s:Shared) (σ:St) (H:Hp) (Q:List V->Hp->Prop),Inv X pins σ H s->t σ H Q->wpAny (model X.prog X.w) X.A (spliced (backTo pos (starEach es X.env))) (AP X pins σ Q) X.xe s
noncomputable def PS(X:Cx)(st:Stmt)(t:TS):Prop:=
  ∀ (pins:List (Addr × Obj)) (s:Shared) (σ:St) (H:Hp) (D:Ends),Inv X pins σ H s->t D σ H->wpAny (model X.prog X.w) X.A (exec st X.env) (SP X pins D) X.xe s
noncomputable def PSs(X:Cx)(st:List Stmt)(t:TS):Prop:=
  ∀ (pins:List (Addr × Obj)) (s:Shared) (σ:St) (H:Hp) (D:Ends),Inv X pins σ H s->t D σ H->wpAny (model X.prog X.w) X.A (execs st X.env) (SP X pins D) X.xe s
theorem thn{α:Type}{t:Sem α}{Q Q':α->Shared->Prop}{M:Model}{A:Around}{E:Value->Shared->Prop}{s:Shared}(h:wpAny M A t Q E s)(hQ:∀ a s,Q a s->Q' a s):wpAny M A t Q' E s:=wpAny_mono h hQ λ _ _ x=>x
end L2
namespace L2
open PySem PySem.Spec PyProof.Rows
section
variable{X:Cx}
theorem bin{a b:Expr}{ta tb:TE}(ha:PE X a ta)(hb:PE X b tb){pins:List (Addr × Obj)}{s:Shared}{σ:St}{H:Hp}{R:V->V->Hp->Prop}(I:Inv X pins σ H s)(h:ta σ H λ x H1=>tb σ H1 λ y H2=>R x y H2)
    {α:Type} {Q:α->Shared->Prop} {f:Value->Value->Sem α}
    (hf:∀ v u s2 x y H2,Inv X pins σ H2 s2->RelV x v->RelV y u->R x y H2->wpAny (model X.prog X.w) X.A (f v u) Q X.xe s2) :
    wpAny (model X.prog X.w) X.A (eval a X.env) (λ v s₁=>wpAny (model X.prog X.w) X.A (eval b X.env) (λ u s₂=>wpAny (model X.prog X.w) X.A (f v u) Q X.xe s₂) X.xe s₁) X.xe s:=by
  refine thn (ha pins s σ H _ I h) λ v s1 ⟨x,H1,I1,r1,q1⟩=>?_
  refine thn (hb pins s1 σ H1 _ I1 q1) λ u s2 ⟨y,H2,I2,r2,q2⟩=>?_
  exact hf v u s2 x y H2 I2 r1 r2 q2
noncomputable def Pr(i:Nat):TE:=λ σ H Q=>∃ v,σ[i]? = some (some v)/\Q v H
noncomputable def tC(v:V):TE:=λ _ H Q=>Q v H
theorem VO{i:Nat}{x:Str}{pos:Pos}(hN:X.N[i]? = some x)(hv:Vis X.env.scope x)(hd:(x == ("__debug__":Str))=false:=by decide)(hcd:(x == ("__classdict__":Str))=false:=by decide):PE X (.Name x pos) (Pr i):=by
  intro pins s σ H Q I h
  obtain⟨v,e,h⟩:=h
  obtain⟨m,hn,hl⟩:=I.loc
  obtain⟨u,r,l⟩:=hl i x v hN e hv
  have fin:EP X pins σ Q u s:=⟨v,H,I,r,h⟩
  rcases l with⟨hk,hm⟩|⟨hk,c,hc,hcell⟩
  . exact wpAny_Name (wpAny_loadName_local I.ok.kind hk hn hm fin) hd
  . rcases hk with hk|hk
    . exact wpAny_Name (wpAny_loadName_cell I.ok.kind hk hc hcell fin) hd
    . exact wpAny_Name (wpAny_loadName_free I.ok.kind hk hc hcell fin hcd) hd
theorem VV{i j pos}:PE X (.Constant (.int i) j pos) (tC (.int i)):=λ _ _ _ H _ I h=>wpAny_Constant_int ⟨.int i,H,I.tok _,⟨_,rfl⟩,h⟩
theorem Wm{b j pos}:PE X (.Constant (.bool b) j pos) (tC (.bl b)):=λ _ _ _ H _ I h=>Constant_bool ⟨.bl b,H,I,rfl,h⟩
theorem VT{j pos}:PE X (.Constant .none j pos) (tC .non):=λ _ _ _ H _ I h=>Constant_none ⟨.non,H,I,rfl,h⟩
theorem VQ{x j pos}:PE X (.Constant (.str x) j pos) (tC (.str x)):=λ _ _ _ H _ I h=>Calls.Constant_str ⟨.str x,H,I.tok _,⟨_,rfl⟩,h⟩
noncomputable def Gl(X:Cx)(x:Str):Prop:=X.env.kindOf x=some .globalImplicit
theorem Tg{E:Value->Shared->Prop}{pins:List (Addr × Obj)}{s:Shared}{σ:St}{H:Hp}{x:Str}{u:Value}{pos:Pos}{Q:Value->Shared->Prop}(I:Inv X pins σ H s)(hg:Gl X x)(hm:X.mg x=some u)(h:Q u s)
    (hd:(x == ("__debug__":Str))=false:=by decide):wpAny (model X.prog X.w) X.A (eval (.Name x pos) X.env) Q E s:=
  Calls.Name_function_global I.ok.kind hg (Calls.loadGlobal_global (by rw[I.ok.glob];exact I.mod.glob.keeps I.bk) hm h) hd
theorem Fo{E:Value->Shared->Prop}{pins:List (Addr × Obj)}{s:Shared}{σ:St}{H:Hp}{x:Str}{u:Value}{pos:Pos}{Q:Value->Shared->Prop}(I:Inv X pins σ H s)(hg:Gl X x)(hm:X.mg x=none)(hv:bootBuiltins x=some u)(h:Q u s)
    (hn:x ≠ "__name__":=by decide) (hd:(x == ("__debug__":Str))=false:=by decide):wpAny (model X.prog X.w) X.A (eval (.Name x pos) X.env) Q E s:=by
  obtain⟨mb,h1,h2⟩:=I.mod.blt
  exact Calls.Name_function_global I.ok.kind hg (Calls.loadGlobal_builtin (by rw[I.ok.glob];exact I.mod.glob.keeps I.bk) hm (by rw[I.ok.blt];exact h1.keeps I.bk) ((h2 x hn).trans hv) h) hd
variable{a b:Expr}{ta tb:TE}{pos:Pos}
noncomputable def PC(X:Cx)(op:CmpOp)(a b:Expr)(t:TE):Prop:=
  ∀ (pins:List (Addr × Obj)) (s:Shared) (σ:St) (H:Hp) (Q:VK),Inv X pins σ H s->t σ H Q ->
    wpAny (model X.prog X.w) X.A (eval a X.env) (λ v s₁=>wpAny (model X.prog X.w) X.A (eval b X.env) (λ u s₂=>wpAny (model X.prog X.w) X.A (compareOp op v u) (EP X pins σ Q) X.xe s₂) X.xe s₁) X.xe s
theorem Qy(b:Expr){op:CmpOp}(h:op ≠ .In)(h2:op ≠ .NotIn):behindInMarks op b=false:=by
  have e1:(op == CmpOp.In)=false:=by cases op <;> first|rfl|exact absurd rfl h
  have e2:(op == CmpOp.NotIn)=false:=by cases op <;> first|rfl|exact absurd rfl h2
  cases b <;> simp[behindInMarks,e1,e2]
noncomputable def Py(ta:TE):TE:=λ σ H Q=>ta σ H λ x H1=>Q (.bl (decide (x=.non))) H1
theorem RelV.none_iff{x:V}{v:Value}(r:RelV x v):(v == Value.none)=decide (x=.non):=by
  cases x with
  | non=>cases r;rfl
  | bl _=>cases r;rfl
  | int _=>obtain⟨t,rfl⟩:=r;rfl
  | str _=>obtain⟨t,rfl⟩:=r;rfl
  | byt _=>obtain⟨t,rfl⟩:=r;rfl
  | flt _=>obtain⟨t,rfl⟩:=r;rfl
  | ref _=>cases r;rfl
  | ty _=>cases r;rfl
theorem VY{j pos'}(ha:PE X a ta):PC X .Is a (.Constant .none j pos') (Py ta):=by
  intro pins s σ H Q I h
  refine thn (ha pins s σ H _ I h) λ v s1 ⟨x,H1,I1,r1,q1⟩=>?_
  exact Constant_none (is_none_gen ⟨.bl _,H1,I1,by rw[r1.none_iff];rfl,q1⟩)
noncomputable def tB(t:TE):TT:=λ σ H Q=>t σ H λ x H1=>∃ c,x=.bl c/\Q c H1
theorem Od{op:CmpOp}{t:TE}(h:PC X op a b t)(h1:behindInMarks op b=false:=by first|exact Qy _ (by decide) (by decide)|rfl):PT X (.Compare a [op] [b] pos) (tB t):=by
  intro pins s σ H Q I hw
  refine wpAny_isTrue_Compare1 (thn (h pins s σ H _ I hw) λ v s1 h1=>thn h1 λ u s2 h2=>thn h2 λ c s3 ⟨x,H1,I1,r1,q1⟩=>?_) h1
  obtain⟨d,rfl,q⟩:=q1
  cases r1
  exact wpAny_truthy_bool ⟨H1,I1,q⟩
variable{tA tB':TT}{rest:List Expr}
noncomputable def Q4(t u:TT):TT:=λ σ H Q=>t σ H λ c H1=>if c=true then u σ H1 Q else Q false H1
noncomputable def tOr(t u:TT):TT:=λ σ H Q=>t σ H λ c H1=>if c=true then Q true H1 else u σ H1 Q
noncomputable def Pw(t:TT):TT:=λ σ H Q=>t σ H λ c H1=>Q (!c) H1
theorem T5(ha:PT X a tA):PW X (.BoolOp .And [a] pos) tA:=by
  intro wh pins s σ H Q I h
  refine isTrue_and (thn (ha pins s σ H Q I h) λ c s1 e=>?_)
  cases c with
  | true=>exact isTrue_and_nil e
  | false=>exact e
theorem V9(ha:PT X a tA):PW X (.BoolOp .Or [a] pos) tA:=by
  intro wh pins s σ H Q I h
  refine isTrue_or (thn (ha pins s σ H Q I h) λ c s1 e=>?_)
  cases c with
  | false=>exact isTrue_or_nil e
  | true=>exact e
theorem VA(ha:PT X a tA)(hb:PW X (.BoolOp .And (b :: rest) pos) tB'):PW X (.BoolOp .And (a :: b :: rest) pos) (Q4 tA tB'):=by
  intro wh pins s σ H Q I h
  refine isTrue_and (thn (ha pins s σ H _ I h) λ c s1 ⟨H1,I1,q1⟩=>?_)
  cases c with
  | true=>exact hb wh pins s1 σ H1 Q I1 q1
  | false=>exact⟨H1,I1,q1⟩
theorem Wh(ha:PT X a tA)(hb:PW X (.BoolOp .Or (b :: rest) pos) tB'):PW X (.BoolOp .Or (a :: b :: rest) pos) (tOr tA tB'):=by
  intro wh pins s σ H Q I h
  refine isTrue_or (thn (ha pins s σ H _ I h) λ c s1 ⟨H1,I1,q1⟩=>?_)
  cases c with
  | true=>exact⟨H1,I1,q1⟩
  | false=>exact hb wh pins s1 σ H1 Q I1 q1
theorem VB(ha:PT X a tA):PT X (.UnaryOp .Not a pos) (Pw tA):=by
  intro pins s σ H Q I h
  exact isTrue_not (ha pins s σ H (λ c H1=>Q (!c) H1) I h)
noncomputable def NJ(ta tb:TE):TE:=λ σ H Q=>ta σ H λ x H1=>∃ c,x=.bl c/\if c=true then tb σ H1 Q else Q (.bl false) H1
theorem VS{op}{t:TE}(h:PE X a t):PE X (.BoolOp op [a] pos) t:=λ pins s σ H Q I hw=>BoolOp_one (h pins s σ H Q I hw)
theorem VX(ha:PE X a ta)(hb:PE X (.BoolOp .And (b :: rest) pos) tb):PE X (.BoolOp .And (a :: b :: rest) pos) (NJ ta tb):=by
  intro pins s σ H Q I h
  refine BoolOp_and (thn (ha pins s σ H _ I h) λ v s1 ⟨x,H1,I1,r1,q1⟩=>?_)
  obtain⟨c,rfl,q1⟩:=q1
  cases r1
  refine wpAny_truthy_bool ?_
  cases c with
  | true=>exact hb pins s1 σ H1 Q I1 q1
  | false=>exact⟨.bl false,H1,I1,rfl,q1⟩
noncomputable def tIf(t:TT)(ta tb:TE):TE:=λ σ H Q=>t σ H λ c H1=>if c=true then ta σ H1 Q else tb σ H1 Q
theorem Qu{c:Expr}(hc:PT X c tA)(ha:PE X a ta)(hb:PE X b tb):PE X (.IfExp c a b pos) (tIf tA ta tb):=by
  intro pins s σ H Q I h
  refine wpAny_IfExp (thn (hc pins s σ H _ I h) λ d s1 ⟨H1,I1,q1⟩=>?_)
  cases d with
  | true=>exact ha pins s1 σ H1 Q I1 q1
  | false=>exact hb pins s1 σ H1 Q I1 q1
end
end L2
namespace L2
open PySem PySem.Spec PyProof.Rows
noncomputable def SqL(K:PySem.W.Frag)(H:Hp)(a:Addr)(xs:List V):Prop:=
  Rd H a (.lst xs) ∨
    ∃ (o:Obj) (its:Array Value) (n:Nat),K.lookup a=some o/\o.cls=.type "list"/\o.dict=none/\o.data=.seq its n/\its.size <= sizeLine/\Vals xs its.toList
noncomputable def SqT(K:PySem.W.Frag)(H:Hp)(a:Addr)(xs:List V):Prop:=
  Rd H a (.tup xs) ∨
    ∃ (o:Obj) (its:Array Value) (n:Nat),K.lookup a=some o/\o.cls=.type "tuple"/\o.data=.seq its n/\its.size <= sizeLine/\Vals xs its.toList
noncomputable def Xb:Value->Option V
  | .none=>some .non
  | .bool b=>some (.bl b)
  | .int i _=>some (.int i)
  | .str x _=>some (.str x)
  | .bytes b _=>some (.byt b)
  | .float b _=>some (.flt b)
  | .ref a=>some (.ref a)
  | .type n=>some (.ty n)
  | _=>none
theorem RelV.abs{x:V}{u:Value}(r:RelV x u):Xb u=some x:=by
  cases x with
  | non=>cases r;rfl
  | bl _=>cases r;rfl
  | int _=>obtain⟨t,rfl⟩:=r;rfl
  | str _=>obtain⟨t,rfl⟩:=r;rfl
  | byt _=>obtain⟨t,rfl⟩:=r;rfl
  | flt _=>obtain⟨t,rfl⟩:=r;rfl
  | ref _=>cases r;rfl
  | ty _=>cases r;rfl
theorem RelV.inj{x y:V}{u:Value}(r:RelV x u)(q:RelV y u):x=y:=Option.some.inj (r.abs.symm.trans q.abs)
theorem Vals.inj:∀ {xs ys:List V} {us:List Value},Vals xs us->Vals ys us->xs=ys
  | _,_,_,.nil,.nil=>rfl
  | _,_,_,.cons r t,.cons r' t'=>by rw[r.inj r',Vals.inj t t']
section
variable{X:Cx}{pins:List (Addr × Obj)}{σ:St}{H:Hp}{s:Shared}{a:Addr}{xs ys:List V}
theorem SqL.of{K:PySem.W.Frag}(h:H a=some (.lst xs)):SqL K H a xs:=.inl (.inl h)
theorem SqT.of{K:PySem.W.Frag}(h:H a=some (.tup xs)):SqT K H a xs:=.inl (.inl h)
theorem Inv.list(I:Inv X pins σ H s)(h:SqL X.K H a xs):∃ its:List Value,Vals xs its/\PlainL s.heap a its.toArray/\xs.length <= sizeLine:=by
  rcases h with h|⟨o,its,n,hk,hc,hd,hs,hz,r⟩
  . obtain⟨z,its,n,r,e⟩:=h.ok I.hok
    exact⟨its,r,⟨_,n,e,rfl,rfl,rfl⟩,z⟩
  . refine⟨its.toList,r,⟨o,n,I.kIn a o hk,hc,hd,by simpa using hs⟩,?_⟩
    have e:=r.length
    simp only[Array.length_toList]at e
    omega
theorem Inv.tuple(I:Inv X pins σ H s)(h:SqT X.K H a xs):∃ its:List Value,Vals xs its/\IsTup s.heap a its.toArray/\xs.length <= sizeLine:=by
  rcases h with h|⟨o,its,n,hk,hc,hs,hz,r⟩
  . obtain⟨z,its,r,p⟩:=h.ok I.hok
    exact⟨its,r,p,z⟩
  . refine⟨its.toList,r,⟨o,I.kIn a o hk,hc,n,by simpa using hs⟩,?_⟩
    have e:=r.length
    simp only[Array.length_toList]at e
    omega
theorem Inv.list_inj(I:Inv X pins σ H s)(h:SqL X.K H a xs)(h':SqL X.K H a ys):xs=ys:=by
  obtain⟨its,r,⟨o,n,e,_,_,d⟩,_⟩:=I.list h
  obtain⟨its',r',⟨o',n',e',_,_,d'⟩,_⟩:=I.list h'
  rw[e]at e';cases e'
  rw[d]at d'
  injection d' with d1 _
  have:its=its':=by simpa using congrArg Array.toList d1
  subst this
  exact r.inj r'
theorem Inv.tuple_inj(I:Inv X pins σ H s)(h:SqT X.K H a xs)(h':SqT X.K H a ys):xs=ys:=by
  obtain⟨its,r,⟨o,e,_,n,d⟩,_⟩:=I.tuple h
  obtain⟨its',r',⟨o',e',_,n',d'⟩,_⟩:=I.tuple h'
  rw[e]at e';cases e'
  rw[d]at d'
  injection d' with d1 _
  have:its=its':=by simpa using congrArg Array.toList d1
  subst this
  exact r.inj r'
end
noncomputable abbrev Cx.wish(X:Cx)(E:Value->Shared->Prop):Cx:={ X with xe:=E }
noncomputable abbrev Cx.nox(X:Cx):Cx:=X.wish λ _ _=>False
theorem Cx.Ok.wish{X:Cx}(ok:X.Ok)(E:Value->Shared->Prop):(X.wish E).Ok:=
  ⟨ok.mod,ok.kind,ok.glob,ok.blt,ok.above,ok.inj,ok.has,ok.cab,ok.hd,ok.frames,ok.stk,ok.exf,ok.bs,ok.bsz,ok.noex,ok.exfs,ok.funs,ok.frf⟩
theorem Cx.Ok.unwish{X:Cx}{E:Value->Shared->Prop}(ok:(X.wish E).Ok):X.Ok:=
  ⟨ok.mod,ok.kind,ok.glob,ok.blt,ok.above,ok.inj,ok.has,ok.cab,ok.hd,ok.frames,ok.stk,ok.exf,ok.bs,ok.bsz,ok.noex,ok.exfs,ok.funs,ok.frf⟩
section
variable{X:Cx}{pins:List (Addr × Obj)}{σ:St}{H:Hp}{s:Shared}{E:Value->Shared->Prop}
theorem Inv.wish(I:Inv X pins σ H s)(E:Value->Shared->Prop):Inv (X.wish E) pins σ H s:=⟨I.ok.wish E,I.os,I.bare,I.base,I.loc,I.cell,I.free,I.freeC,I.pin,I.hok,I.len⟩
theorem Inv.unwish(I:Inv (X.wish E) pins σ H s):Inv X pins σ H s:=⟨I.ok.unwish,I.os,I.bare,I.base,I.loc,I.cell,I.free,I.freeC,I.pin,I.hok,I.len⟩
theorem SP.unwish{D:Ends}{f:Flow}{s':Shared}(h:SP (X.wish E) pins D f s'):SP X pins D f s':=by
  cases f with
  | next=>obtain⟨σ',H',I,q⟩:=h;exact⟨σ',H',I.unwish,q⟩
  | brk=>obtain⟨σ',H',I,q⟩:=h;exact⟨σ',H',I.unwish,q⟩
  | cont=>obtain⟨σ',H',I,q⟩:=h;exact⟨σ',H',I.unwish,q⟩
  | ret u=>obtain⟨v,σ',H',I,r,q⟩:=h;exact⟨v,σ',H',I.unwish,r,q⟩
theorem PSs.nox{st:List Stmt}{t:TS}(h:PSs X.nox st t):PSs X st t:=λ pins s σ H D I hw=>
  wpAny_mono (h pins s σ H D (I.wish _) hw) (λ _ _ q=>q.unwish) λ _ _ z=>False.elim z
end
section
variable{X:Cx}{st:Stmt}{rest:List Stmt}{t u:TS}{e:Expr}{te:TE}{pos:Pos}
noncomputable def NF:TS:=λ D σ H=>D.nx σ H
noncomputable def Pt(t u:TS):TS:=λ D σ H=>t { D with nx:=u D } σ H
theorem T7:PSs X [] NF:=λ _ _ σ H _ I h=>wpAny_execs_nil ⟨σ,H,I,h⟩
theorem Qn(h1:PS X st t)(h2:PSs X rest u):PSs X (st :: rest) (Pt t u):=by
  intro pins s σ H D I h
  refine wpAny_execs_cons (thn (h1 pins s σ H { D with nx:=u D } I h) λ f s1 q=>?_)
  cases f with
  | next=>
    obtain⟨σ',H',I',q⟩:=q
    exact h2 pins s1 σ' H' D I' q
  | ret v=>exact q
  | brk=>exact q
  | cont=>exact q
theorem T6(h1:PS X st t):PSs X [st] t:=by
  intro pins s σ H D I h
  refine wpAny_execs_cons (thn (h1 pins s σ H D I h) λ f s1 q=>?_)
  cases f with
  | next=>exact wpAny_execs_nil q
  | ret v=>exact q
  | brk=>exact q
  | cont=>exact q
theorem Inv.quiet{pins:List (Addr × Obj)}{σ:St}{H:Hp}{s:Shared}(I:Inv X pins σ H s):interactive X.env=false:=by simp[interactive,I.ok.kind]
noncomputable def NH(te:TE):TS:=λ D σ H=>te σ H λ _ H1=>D.nx σ H1
theorem T9(he:PE X e te)(hs:swapsWith e none pos.line X.env=pure false:=by rfl):PS X (.Expr e pos) (NH te):=by
  intro pins s σ H D I h
  exact wpAny_Expr_any (thn (he pins s σ H _ I h) λ v s1 ⟨x,H1,I1,r1,q1⟩=>⟨σ,H1,I1,q1⟩) I.quiet hs
noncomputable def Pv(te:TE):TS:=λ D σ H=>te σ H D.rt
theorem VD(he:PE X e te):PS X (.Return (some e) pos) (Pv te):=by
  intro pins s σ H D I h
  exact wpAny_Return_some (thn (he pins s σ H _ I h) λ v s1 ⟨x,H1,I1,r1,q1⟩=>⟨x,σ,H1,I1,r1,q1⟩)
noncomputable def Pz(c:TT)(t u:TS):TS:=λ D σ H=>c σ H λ b H1=>if b=true then t D σ H1 else u D σ H1
theorem Wi{c:Expr}{a b:List Stmt}{tc:TT}(hc:PT X c tc)(ha:PSs X a t)(hb:PSs X b u):PS X (.If c a b pos) (Pz tc t u):=by
  intro pins s σ H D I h
  refine wpAny_If (thn (hc pins s σ H _ I h) λ d s1 ⟨H1,I1,q1⟩=>?_)
  cases d with
  | true=>exact ha pins s1 σ H1 D I1 q1
  | false=>exact hb pins s1 σ H1 D I1 q1
noncomputable def Kn:TS:=λ _ _ _=>False
theorem Qp:PS X st Kn:=λ _ _ _ _ _ _ h=>h.elim
end
noncomputable abbrev TG:=V->St->Hp->(St->Hp->Prop)->Prop
noncomputable abbrev TGs:=List V->St->Hp->(St->Hp->Prop)->Prop
noncomputable def PG(X:Cx)(target:Expr)(t:TG):Prop:=
  ∀ (pins:List (Addr × Obj)) (s:Shared) (σ:St) (H:Hp) (v:V) (u:Value) (Q:St->Hp->Prop),Inv X pins σ H s->RelV v u->t v σ H Q ->
    wpAny (model X.prog X.w) X.A (assign target X.env u) (λ _ s'=>∃ σ' H',Inv X pins σ' H' s'/\Q σ' H') X.xe s
noncomputable def PGs(X:Cx)(ts:List Expr)(t:TGs):Prop:=
  ∀ (pins:List (Addr × Obj)) (s:Shared) (σ:St) (H:Hp) (vs:List V) (us:List Value) (Q:St->Hp->Prop),Inv X pins σ H s->Vals vs us->t vs σ H Q ->
    wpAny (model X.prog X.w) X.A (assignInOrder ((assignEach ts X.env).map (·.2)) us) (λ _ s'=>∃ σ' H',Inv X pins σ' H' s'/\Q σ' H') X.xe s
noncomputable abbrev Rn:=V->V->V->Hp->(Hp->Prop)->Prop
noncomputable def WC(X:Cx)(t:Rn):Prop:=
  ∀ (pins:List (Addr × Obj)) (s:Shared) (σ:St) (H:Hp) (o i v:V) (ov iv u:Value) (Q:Hp->Prop),Inv X pins σ H s->RelV o ov->RelV i iv->RelV v u->t o i v H Q ->
    wpAny (model X.prog X.w) X.A (setItem ov iv u) (λ _ s'=>∃ H',Inv X pins σ H' s'/\Q H') X.xe s
section
variable{X:Cx}{pos:Pos}
noncomputable def GL(i:Nat):TG:=λ v σ H Q=>Q (σ.set i (some v)) H
theorem TN{i:Nat}{x:Str}(hN:X.N.Nodup)(hi:X.N[i]? = some x)(hx:Loc X.env.scope x)(hf:X.fn x=true ∨ X.env.scope.names.lookup x=some .local:=by first|exact .inl rfl|exact .inr rfl|assumption):PG X (.Name x pos) (GL i):=by
  intro pins s σ H v u Q I r h
  exact wpAny_assign_Name (Kq I hN hi hx r (λ s' I'=>⟨_,H,I',h⟩) hf)
noncomputable def Re:TGs:=λ vs σ H Q=>vs=[]/\Q σ H
noncomputable def Nk(t:TG)(u:TGs):TGs:=λ vs σ H Q=>∃ v r,vs=v :: r/\t v σ H λ σ' H'=>u r σ' H' Q
theorem TK:PGs X [] Re:=by
  intro pins s σ H vs us Q I r h
  obtain⟨e,h⟩:=h
  subst e
  cases r
  exact assignInOrder_nil ⟨σ,H,I,h⟩
theorem Qr{e:Expr}{es:List Expr}{t:TG}{u:TGs}(h1:PG X e t)(h2:PGs X es u)
    (hs:(assignEach (e :: es) X.env).map (·.2)=assign e X.env :: (assignEach es X.env).map (·.2):=by rfl):PGs X (e :: es) (Nk t u):=by
  intro pins s σ H vs us Q I r h
  obtain⟨v,vr,e1,h⟩:=h
  subst e1
  cases r with
  | cons r rr=>
    rw[hs]
    refine assignInOrder_cons (thn (h1 pins s σ H _ _ _ I r h) λ _ s1 ⟨σ1,H1,I1,q1⟩=>?_)
    exact h2 pins s1 σ1 H1 _ _ Q I1 rr q1
noncomputable def Nj(K:PySem.W.Frag)(n:Nat)(t:TGs):TG:=λ v σ H Q=>∃ a xs,v=.ref a/\SqT K H a xs/\xs.length=n/\t xs σ H Q
theorem VI{es:List Expr}{k:Nat}{t:TGs}{n:Nat}(hc:X.calm=true)(h:PGs X es t)
    (hn:(assignEach es X.env).length=n:=by rfl) (hst:(assignEach es X.env).findIdx? (·.1)=none:=by rfl):PG X (.Tuple es k pos) (Nj X.K n t):=by
  intro pins s σ H v u Q I r hw
  obtain⟨a,xs,e1,hq,hl,hw⟩:=hw
  subst e1
  cases r
  obtain⟨its,rv,ht,hz⟩:=I.tuple hq
  refine assign_Tuple_tuple (I.ok.hd hc) ht (by simp[hn,<- hl,rv.length]) hst λ h' hx=>?_
  have I1:Inv X pins σ H { s with heap:=h' }:=I.kept (t':=s.toks) λ b o e=>hx b o (Nat.ne_of_lt (Heap.lt_size e)) e
  exact h pins _ σ H xs _ Q I1 (by simpa using rv) hw
noncomputable def RZ(to ti:TE)(t:Rn):TG:=λ v σ H Q=>to σ H λ o H1=>ti σ H1 λ i H2=>t o i v H2 λ H3=>Q σ H3
theorem VJ{o i:Expr}{to ti:TE}{t:Rn}(ho:PE X o to)(hi:PE X i ti)(hs:WC X t)
    (ha:∀ v,assign (.Subscript o i pos) X.env v=(do
      let ov <- holding [v] (eval o X.env)
      let iv <- holding [v,ov] (eval i X.env)
      standAt pos
      holding [v,ov,iv] (setItem ov iv v)
      release [v,ov,iv] []):=by intro _;rfl):PG X (.Subscript o i pos) (RZ to ti t):=by
  intro pins s σ H v u Q I r h
  rw[ha]
  refine wpAny_bind (wpAny_holding (thn (ho pins s σ H _ I h) λ ov s1 ⟨x,H1,I1,r1,q1⟩=>?_))
  refine wpAny_bind (wpAny_holding (thn (hi pins s1 σ H1 _ I1 q1) λ iv s2 ⟨y,H2,I2,r2,q2⟩=>?_))
  refine wpAny_bind (wpAny_standAt (wpAny_bind (wpAny_holding (thn (hs pins s2 σ H2 x y v ov iv u _ I2 r1 r2 r q2) λ _ s3 ⟨H3,I3,q3⟩=>?_))))
  exact wpAny_release ⟨σ,H3,I3,q3⟩
noncomputable def Es(te:TE)(g:TG):TS:=λ D σ H=>te σ H λ x H1=>g x σ H1 D.nx
theorem LG{tg e:Expr}{te:TE}{g:TG}(he:PE X e te)(hg:PG X tg g)(hs:swapsWithSole [tg] e pos.line X.env=pure false:=by rfl)(hw:swappedStores [tg] e X.env=pure none:=by rfl)
    (h1:(assignEach [tg] X.env).map (·.2)=[assign tg X.env]:=by rfl):PS X (.Assign [tg] e pos) (Es te g):=by
  intro pins s σ H D I h
  refine wpAny_Assign_stores (thn (he pins s σ H _ I h) λ v s1 ⟨x,H1,I1,r1,q1⟩=>?_) hs hw
  rw[h1]
  exact thn (hg pins s1 σ H1 x v _ I1 r1 q1) λ _ s2 q=>q
theorem VC{i:Nat}{x:Str}{e:Expr}{te:TE}{pos':Pos}(hN:X.N.Nodup)(hi:X.N[i]? = some x)(hx:Loc X.env.scope x)(he:PE X e te)(hs:swapsWith e (some (.Name x pos')) pos.line X.env=pure false:=by rfl)(hf:X.fn x=true ∨ X.env.scope.names.lookup x=some .local:=by first|exact .inl rfl|exact .inr rfl|assumption) :
    PS X (.Assign [.Name x pos'] e pos) (Es te (GL i)):=by
  intro pins s σ H D I h
  refine wpAny_Assign_Name (thn (he pins s σ H _ I h) λ v s1 ⟨y,H1,I1,r1,q1⟩=>?_) hs
  exact Kq I1 hN hi hx r1 (λ s2 I2=>⟨_,H1,I2,q1⟩) hf
end
section
variable{X:Cx}{pos:Pos}
noncomputable def Km(c:TT)(tb:TS):TS:=λ D σ H=>∃ W:Nat->St->Hp->Prop,(∃ m,W m σ H)/\∀ m σ H,W m σ H ->
  c σ H λ b H1=>if b=true then ∃ N:St->Hp->Prop,(∀ σ' H',N σ' H'->∃ m',m' < m/\W m' σ' H')/\tb { D with nx:=N,ct:=N,bk:=D.nx } σ H1 else D.nx σ H1
theorem Qo{c:Expr}{body:List Stmt}{tc:TT}{tb:TS}(hp:PassesOwn (model X.prog X.w) X.A X.env X.xe)(hc:PT X c tc)(hb:PSs X body tb):PS X (.While c body [] pos) (Km tc tb):=by
  intro pins s σ H D I h
  obtain⟨W,⟨m0,w0⟩,turn⟩:=h
  refine wpAny_While (codeAny_whileLoop (λ n s'=>∃ σ' H',Inv X pins σ' H' s'/\W n σ' H') ?_ m0 ⟨σ,H,I,w0⟩)
  rintro n s1 ⟨σ1,H1,I1,w1⟩
  refine wpAny_passesOwn hp (thn (hc pins s1 σ1 H1 _ I1 (turn n σ1 H1 w1)) λ b s2 ⟨H2,I2,q2⟩=>?_)
  cases b with
  | true=>
    obtain⟨N,hN,q2⟩:=q2
    rw[if_pos rfl]
    refine wpAny_passesOwn hp (thn (hb pins s2 σ1 H2 _ I2 q2) λ f s3 q3=>?_)
    cases f with
    | next=>
      obtain⟨σ3,H3,I3,n3⟩:=q3
      obtain⟨m',hm,w3⟩:=hN σ3 H3 n3
      exact⟨m',hm,σ3,H3,I3,w3⟩
    | cont=>
      obtain⟨σ3,H3,I3,n3⟩:=q3
      obtain⟨m',hm,w3⟩:=hN σ3 H3 n3
      exact⟨m',hm,σ3,H3,I3,w3⟩
    | brk=>exact q3
    | ret v=>exact q3
  | false=>
    rw[if_neg Bool.false_ne_true]
    exact wpAny_execs_nil ⟨σ1,H2,I2,q2⟩
end
structure It where
  go:Nat->Hp->Prop
  yld:Nat->Hp->V->Hp->Prop
  stop:Nat->Hp->Prop
noncomputable def FpOk(X:Cx)(pins:List (Addr × Obj))(H:Hp)(b:Addr):Prop:=
  H b=none/\b ≠ X.env.locals/\b ∉ X.fs/\(b ∈ X.ex ∨ X.s₀.heap.objs.size <= b)/\(∀ x c,X.env.cells.lookup x=some c->c ≠ b)/\∀ p ∈ X.pn ++ pins,p.1 ≠ b
theorem Inv.fpOk{X:Cx}{pins:List (Addr × Obj)}{σ:St}{H H':Hp}{s:Shared}{b:Addr}(I:Inv X pins σ H s)(hb:s.heap.objs.size <= b)(hn:H' b=none):FpOk X pins H' b:=by
  refine⟨hn,Nat.ne_of_gt (Nat.lt_of_lt_of_le I.lt hb),I.nofs hb,.inr (Nat.le_trans I.sz hb),λ x c e z=>?_,λ p hp z=>?_⟩
  . obtain⟨v,q⟩:=I.cell x c e
    exact absurd (Nat.lt_of_lt_of_le q.lt (by rw[z];exact hb)) (Nat.lt_irrefl _)
  . exact absurd (Nat.lt_of_lt_of_le (Heap.lt_size (I.pin p hp).1) (by rw[z];exact hb)) (Nat.lt_irrefl _)
structure Turn(P:Program)(w:World)(K:PySem.W.Frag)(tg:Expr)(J:It)(fp:List Addr)(it:Addr)(tn:Nat->Heap->Prop):Prop where
  mem:it ∈ fp
  obj:∀ i h,tn i h->∀ b ∈ fp,∃ o,h.get? b=some o/\∀ v,o.data ≠ .cell v
  keep:∀ i h h',tn i h->(∀ b ∈ fp,∀ o,h.get? b=some o->h'.get? b=some o)->tn i h'
  item:∀ (X:Cx),X.prog=P->X.w=w->X.K=K->X.calm=true->∀ (i:Nat) (pins:List (Addr × Obj)) (s:Shared) (σ:St) (H:Hp) (E:Value->Shared->Prop),Inv X pins σ H s->(∀ b ∈ fp,FpOk X pins H b)->tn i s.heap->J.go i H ->
    wpAny (model P w) X.A (pyNext (.ref it)) (λ r s1=>∃ u,r=some u /\
      wpAny (model P w) X.A (letOwnedTupleGo tg (.ref it) u) (λ _ s2=>∃ x H',Inv X pins σ H' s2/\RelV x u/\J.yld i H x H'/\tn (i + 1) s2.heap/\∀ b ∈ fp,H' b=none) E s1) E s
  done:∀ (X:Cx),X.prog=P->X.w=w->X.K=K->X.calm=true->∀ (i:Nat) (pins:List (Addr × Obj)) (s:Shared) (σ:St) (H:Hp) (E:Value->Shared->Prop),Inv X pins σ H s->(∀ b ∈ fp,FpOk X pins H b)->tn i s.heap->J.stop i H ->
    wpAny (model P w) X.A (pyNext (.ref it)) (λ r s1=>r=none/\Inv X pins σ H s1) E s
  self:∀ (A:Around) (i:Nat) (s:Shared) (Q:Value->Shared->Prop) (E:Value->Shared->Prop),tn i s.heap->Q (.ref it) s->wpAny (model P w) A (pyIter (.ref it)) Q E s
noncomputable abbrev TI:=St->Hp->(It->Hp->Prop)->Prop
noncomputable def PIE(X:Cx)(pins:List (Addr × Obj))(σ:St)(tg:Expr)(R:It->Hp->Prop)(itv:Value)(s2:Shared):Prop:=
  ∃ (it:Addr) (fp:List Addr) (tn:Nat->Heap->Prop) (J:It) (H':Hp),itv=.ref it/\Inv X pins σ H' s2/\Turn X.prog X.w X.K tg J fp it tn/\tn 0 s2.heap/\(∀ b ∈ fp,FpOk X pins H' b)/\R J H'
noncomputable def PI(X:Cx)(tg iter:Expr)(wi:TI):Prop:=
  ∀ (pins:List (Addr × Obj)) (s:Shared) (σ:St) (H:Hp) (R:It->Hp->Prop),Inv X pins σ H s->wi σ H R ->
    wpAny (model X.prog X.w) X.A (eval iter X.env) (λ v s1=>wpAny (model X.prog X.w) X.A (pyIter v) (PIE X pins σ tg R) X.xe s1) X.xe s
theorem Ni{M:Model}{A:Around}{E:Value->Shared->Prop}{s:Shared}{tg:Expr}{it:Addr}{u:Value}{o:Obj}{n:String}{vs:Array Value}{Q:Unit->Shared->Prop}(ho:s.heap.get? it=some o)(hc:o.cls=.type n)(hd:o.data=.fields vs)
    (hn:["enumerate","zip","dict_itemiterator","dict_reverseitemiterator","odict_iterator","itertools.zip_longest","itertools.pairwise"].contains n=false) (hQ:Q () s):wpAny M A (letOwnedTupleGo tg (.ref it) u) Q E s:=by
  unfold letOwnedTupleGo
  cases tg <;> first
    | exact wpAny_pure hQ
    | (cases u <;> first
        | exact wpAny_pure hQ
        | (refine wpAny_bind (wpAny_load ho ?_)
           rw[hc,hd]
           show wpAny M A (if(["enumerate","zip","dict_itemiterator","dict_reverseitemiterator","odict_iterator","itertools.zip_longest","itertools.pairwise"].contains n && vs[0]? == some (rawInt _))=true then _ else _) Q E s
           rw[if_neg (by intro h;rw[hn,Bool.false_and]at h;cases h)]
           exact wpAny_pure hQ))
noncomputable def Itl(K:PySem.W.Frag)(a:Addr):It:=
  ⟨λ i H=>∃ xs x,SqL K H a xs/\xs[i]? = some x,λ i H x H'=>H'=H/\∀ xs,SqL K H a xs->xs[i]? = some x,λ i H=>∃ xs,SqL K H a xs/\xs.length <= i⟩
noncomputable def Itt(K:PySem.W.Frag)(a:Addr):It:=
  ⟨λ i H=>∃ xs x,SqT K H a xs/\xs[i]? = some x,λ i H x H'=>H'=H/\∀ xs,SqT K H a xs->xs[i]? = some x,λ i H=>∃ xs,SqT K H a xs/\xs.length <= i⟩
noncomputable def Itr(lo:Int)(n:Nat):It:=⟨λ i _=>i < n,λ i H x H'=>H'=H/\x=.int (lo + i),λ i _=>n <= i⟩
theorem OG{P:Program}{w:World}{K:PySem.W.Frag}{tg:Expr}(a it:Addr):Turn P w K tg (Itl K a) [it] it (λ i h=>h.IsListIter it a i) where
  mem:=by simp
  obj:=λ i h st b hb=>by
    have e:b=it:=by simpa using hb
    subst e
    obtain⟨o,e,c,d⟩:=st
    exact⟨o,e,λ v z=>by rw[d]at z;cases z⟩
  keep:=λ i h h' st k=>st.at λ o e=>k it (by simp) o e
  item:=by
    intro X hP hw hK hc i pins s σ H E I hf st hg
    subst hP hw hK
    obtain⟨xs,x,hq,hx⟩:=hg
    obtain⟨its,rv,p,hz⟩:=I.list hq
    obtain⟨u,hu,ru⟩:=rv.get hx
    obtain⟨f0,f1,f2,f3,f4,f5⟩:=hf it (by simp)
    refine wpAny_pyNext_list_item st p.isList (x:=u) (by simpa using hu) λ h' st' sb=>?_
    have I1:Inv X pins σ H { s with heap:=h' }:=I.turned (t':=s.toks) (λ b o hb e=>(sb.2 b hb).trans e) f0 f1 f3 f4 f5
    obtain⟨o,e,c,d⟩:=id st'
    exact⟨u,rfl,Ni (s:={ s with heap:=h' }) e c d (by decide) ⟨x,H,I1,ru,⟨rfl,λ ys hy=>by rw[I.list_inj hy hq];exact hx⟩,st',λ b hb=>(hf b hb).1⟩⟩
  done:=by
    intro X hP hw hK hc i pins s σ H E I hf st hg
    subst hP hw hK
    obtain⟨xs,hq,hx⟩:=hg
    obtain⟨its,rv,p,hz⟩:=I.list hq
    obtain⟨f0,f1,f2,f3,f4,f5⟩:=hf it (by simp)
    have hl:=rv.length
    exact wpAny_pyNext_list_end (I.ok.hd hc) st p.isList (by simp;omega) λ h' eb=>⟨rfl,I.turned (t':=s.toks) (λ b o hb e=>eb b o hb e) f0 f1 f3 f4 f5⟩
  self:=λ _ _ _ _ _ st h=>wpAny_pyIter_listiter st h
theorem NA{P:Program}{w:World}{K:PySem.W.Frag}{tg:Expr}(a it:Addr):Turn P w K tg (Itt K a) [it] it (λ i h=>h.IsTupleIter it a i) where
  mem:=by simp
  obj:=λ i h st b hb=>by
    have e:b=it:=by simpa using hb
    subst e
    obtain⟨o,e,c,d⟩:=st
    exact⟨o,e,λ v z=>by rw[d]at z;cases z⟩
  keep:=λ i h h' st k=>st.at λ o e=>k it (by simp) o e
  item:=by
    intro X hP hw hK hc i pins s σ H E I hf st hg
    subst hP hw hK
    obtain⟨xs,x,hq,hx⟩:=hg
    obtain⟨its,rv,p,hz⟩:=I.tuple hq
    obtain⟨u,hu,ru⟩:=rv.get hx
    obtain⟨f0,f1,f2,f3,f4,f5⟩:=hf it (by simp)
    refine wpAny_pyNext_tuple_item st (show s.heap.IsTuple a its.toArray from p) (x:=u) (by simpa using hu) λ h' st' sb=>?_
    have I1:Inv X pins σ H { s with heap:=h' }:=I.turned (t':=s.toks) (λ b o hb e=>(sb.2 b hb).trans e) f0 f1 f3 f4 f5
    obtain⟨o,e,c,d⟩:=id st'
    exact⟨u,rfl,Ni (s:={ s with heap:=h' }) e c d (by decide) ⟨x,H,I1,ru,⟨rfl,λ ys hy=>by rw[I.tuple_inj hy hq];exact hx⟩,st',λ b hb=>(hf b hb).1⟩⟩
  done:=by
    intro X hP hw hK hc i pins s σ H E I hf st hg
    subst hP hw hK
    obtain⟨xs,hq,hx⟩:=hg
    obtain⟨its,rv,p,hz⟩:=I.tuple hq
    obtain⟨f0,f1,f2,f3,f4,f5⟩:=hf it (by simp)
    have hl:=rv.length
    exact wpAny_pyNext_tuple_end (I.ok.hd hc) st (show s.heap.IsTuple a its.toArray from p) (by simp;omega) λ h' eb=>⟨rfl,I.turned (t':=s.toks) (λ b o hb e=>eb b o hb e) f0 f1 f3 f4 f5⟩
  self:=λ _ _ _ _ _ st h=>wpAny_pyIter_tupleiter st h
theorem NB{P:Program}{w:World}{K:PySem.W.Frag}{tg:Expr}(it:Addr)(lo:Int)(n:Nat):Turn P w K tg (Itr lo n) [it] it (λ i h=>IsRangeIter h it (lo + (i:Nat) * 1) ((n:Int) - (i:Nat)) 1) where
  mem:=by simp
  obj:=λ i h st b hb=>by
    have e:b=it:=by simpa using hb
    subst e
    exact⟨_,st,λ v z=>by
      have z':Data.fields _=Data.cell v:=z
      cases z'⟩
  keep:=λ i h h' st k=>k it (by simp) _ st
  item:=by
    intro X hP hw hK hc i pins s σ H E I hf st hg
    subst hP hw hK
    obtain⟨f0,f1,f2,f3,f4,f5⟩:=hf it (by simp)
    have W:=Walks.range (prog:=X.prog) (w:=X.w) (I.ok.hd hc) it lo 1 n
    refine W.item i s _ _ hg st λ v h' tk hv st' kk=>?_
    obtain⟨t,rfl⟩:=hv
    have I1:Inv X pins σ H { s with heap:=h',toks:=tk }:=I.turned (λ b o hb e=>kk b o (by simpa using hb) e) f0 f1 f3 f4 f5
    refine⟨_,rfl,Ni (s:={ s with heap:=h',toks:=tk }) (n:="range_iterator") st' rfl rfl (by decide) ⟨.int (lo + i),H,I1,⟨t,?_⟩,⟨rfl,rfl⟩,st',λ b hb=>(hf b hb).1⟩⟩
    rw[Int.mul_one]
  done:=by
    intro X hP hw hK hc i pins s σ H E I hf st hg
    subst hP hw hK
    obtain⟨f0,f1,f2,f3,f4,f5⟩:=hf it (by simp)
    exact wpAny_pyNext_range_end (I.ok.hd hc) st (by have:n <= i:=hg;omega) λ h' eb=>⟨rfl,I.turned (t':=s.toks) (λ b o hb e=>eb b o hb e) f0 f1 f3 f4 f5⟩
  self:=λ _ _ _ _ _ st h=>wpAny_pyIter_rangeiter st h
end L2
namespace L2
open PySem PySem.Spec PyProof.Rows
section
variable{X:Cx}{tg:Expr}
noncomputable def Ip(K:PySem.W.Frag)(tl:TE):TI:=λ σ H R=>tl σ H λ x H1=>∃ a,x=.ref a/\(∃ xs,SqL K H1 a xs)/\R (Itl K a) H1
noncomputable def Le(K:PySem.W.Frag)(tl:TE):TI:=λ σ H R=>tl σ H λ x H1=>∃ a,x=.ref a/\(∃ xs,SqT K H1 a xs)/\R (Itt K a) H1
theorem TJ{l:Expr}{tl:TE}(hl:PE X l tl):PI X tg l (Ip X.K tl):=by
  intro pins s σ H R I h
  refine thn (hl pins s σ H _ I h) λ v s1 ⟨x,H1,I1,r1,q1⟩=>?_
  obtain⟨a,e,⟨xs,hq⟩,q⟩:=q1
  subst e
  cases r1
  obtain⟨its,rv,p,hz⟩:=I1.list hq
  refine wpAny_pyIter_list p.isList ?_
  refine⟨s1.heap.objs.size,[s1.heap.objs.size],_,_,H1,rfl,I1.kept (t':=s1.toks) λ b o e=>Heap.get?_push_of_some _ e,OG a _,⟨_,Heap.get?_push_size _ rfl,rfl,rfl⟩,λ b hb=>?_,q⟩
  have e:b=s1.heap.objs.size:=by simpa using hb
  subst e
  exact I1.fpOk (Nat.le_refl _) (I1.hok.fresh (Nat.le_refl _))
theorem VH{l:Expr}{tl:TE}(hl:PE X l tl):PI X tg l (Le X.K tl):=by
  intro pins s σ H R I h
  refine thn (hl pins s σ H _ I h) λ v s1 ⟨x,H1,I1,r1,q1⟩=>?_
  obtain⟨a,e,⟨xs,hq⟩,q⟩:=q1
  subst e
  cases r1
  obtain⟨its,rv,p,hz⟩:=I1.tuple hq
  refine wpAny_pyIter_tuple (show s1.heap.IsTuple a its.toArray from p) ?_
  refine⟨s1.heap.objs.size,[s1.heap.objs.size],_,_,H1,rfl,I1.kept (t':=s1.toks) λ b o e=>Heap.get?_push_of_some _ e,NA a _,⟨_,Heap.get?_push_size _ rfl,rfl,rfl⟩,λ b hb=>?_,q⟩
  have e:b=s1.heap.objs.size:=by simpa using hb
  subst e
  exact I1.fpOk (Nat.le_refl _) (I1.hok.fresh (Nat.le_refl _))
theorem QZ{pins:List (Addr × Obj)}{σ:St}{H:Hp}{s:Shared}{R:It->Hp->Prop}{E:Value->Shared->Prop}{lo hi:Int}{t u v:Tok}{tk:Nat}(I:Inv X pins σ H s)(h1:-(2 ^ 62) <= lo)(h2:lo < 2 ^ 62)(h3:-(2 ^ 62) <= hi)(h4:hi < 2 ^ 62)
    (q:R (Itr lo (hi - lo).toNat) H):wpAny (model X.prog X.w) X.A (pyIter (.ref s.heap.objs.size)) (PIE X pins σ tg R) E { s with heap:=s.heap.push { cls:=.type "range",data:=.fields #[.int lo t,.int hi u,.int 1 v] },toks:=tk }:=by
  refine wpAny_pyIter_range (IsRange.new ..) (small_one h1 h2 h3 h4) ?_
  have I1:Inv X pins σ H { s with heap:=s.heap.push { cls:=.type "range",data:=.fields #[.int lo t,.int hi u,.int 1 v] },toks:=tk }:=I.kept λ b o e=>Heap.get?_push_of_some _ e
  refine⟨(s.heap.push { cls:=.type "range",data:=.fields #[.int lo t,.int hi u,.int 1 v] }).objs.size,[(s.heap.push { cls:=.type "range",data:=.fields #[.int lo t,.int hi u,.int 1 v] }).objs.size],_,_,H,rfl,
    I1.kept (t':=tk) λ b o e=>Heap.get?_push_of_some _ e,NB _ lo (hi - lo).toNat,?_,λ b hb=>?_,q⟩
  . have e1:lo + ((0:Nat):Int) * 1=lo:=by simp
    have e2:(((hi - lo).toNat:Nat):Int) - ((0:Nat):Int)=Builtin.Range.rangeSize lo hi 1:=by rw[rangeSize_one];split <;> omega
    show IsRangeIter _ _ (lo + ((0:Nat):Int) * 1) ((((hi - lo).toNat:Nat):Int) - ((0:Nat):Int)) 1
    rw[e1,e2]
    exact Heap.get?_push_size _ rfl
  . have e:b=(s.heap.push { cls:=.type "range",data:=.fields #[.int lo t,.int hi u,.int 1 v] }).objs.size:=by simpa using hb
    subst e
    exact I1.fpOk (Nat.le_refl _) (I1.hok.fresh (Nat.le_refl _))
noncomputable def Ng(ta:TA):TI:=λ σ H R=>ta σ H λ vs H1=>∃ j:Int,vs=[.int j]/\-(2 ^ 62) <= j/\j < 2 ^ 62/\R (Itr 0 j.toNat) H1
theorem Of{a:Expr}{ta:TA}{p pos:Pos}(hg:Gl X "range")(hm:X.mg "range"=none)(ha:PA X [a] ta)(hs:starEach [a] X.env=[(false,eval a X.env)]:=by rfl):PI X tg (.Call (.Name "range" p) [a] [] pos) (Ng ta):=by
  intro pins s σ H R I h
  refine Call_ (Fo I hg hm boot_range (PyProof.Rows.callWith_type1 (thn (ha pos pins s σ H _ I h) λ us s1 ⟨vs,H1,I1,r1,q1⟩=>?_) hs rfl))
  obtain⟨j,e,q1,q2,q⟩:=q1
  subst e
  cases r1 with
  | cons r rr=>
    cases rr
    obtain⟨t,rfl⟩:=r
    exact call_range_1 (QZ I1 (by omega) (by omega) q1 q2 (by simpa using q))
noncomputable def Q0(wi:TI)(g:TG)(tb:TS):TS:=λ D σ H=>wi σ H λ J H1=>∃ W:Nat->Nat->St->Hp->Prop,(∃ m,W 0 m σ H1)/\∀ i m σ H,W i m σ H ->
  (J.stop i H/\D.nx σ H) ∨ (J.go i H/\∃ N:St->Hp->Prop,(∀ σ' H',N σ' H'->∃ m',m' < m/\W (i + 1) m' σ' H')/\∀ x H',J.yld i H x H'->g x σ H' λ σ2 H2=>tb { D with nx:=N,ct:=N,bk:=D.nx } σ2 H2)
noncomputable def Ex(fp:List Addr)(h:Heap):List (Addr × Obj):=fp.filterMap λ b=>(h.get? b).map λ o=>(b,o)
theorem CI{fp:List Addr}{h:Heap}{b:Addr}{o:Obj}(hb:b ∈ fp)(e:h.get? b=some o):(b,o) ∈ Ex fp h:=List.mem_filterMap.mpr ⟨b,hb,by rw[e];rfl⟩
theorem Ol{fp:List Addr}{h:Heap}{p:Addr × Obj}(hp:p ∈ Ex fp h):p.1 ∈ fp/\h.get? p.1=some p.2:=by
  obtain⟨b,hb,e⟩:=List.mem_filterMap.mp hp
  cases q:h.get? b with
  | none=>rw[q]at e;cases e
  | some o=>
    rw[q]at e
    have e':(b,o)=p:=Option.some.inj e
    subst e'
    exact⟨hb,q⟩
theorem Inv.pinned{pins:List (Addr × Obj)}{σ:St}{H:Hp}{s:Shared}{fp:List Addr}(I:Inv X pins σ H s)(hf:∀ b ∈ fp,FpOk X pins H b)(ho:∀ b ∈ fp,∃ o,s.heap.get? b=some o/\∀ v,o.data ≠ .cell v):Inv X (pins ++ Ex fp s.heap) σ H s:=
  I.pins_of λ p hp=>(List.mem_append.mp hp).elim (λ z=>I.pin p (List.mem_append_right _ z)) λ z=>by
    obtain⟨hb,e⟩:=Ol z
    obtain⟨f0,f1,f2,_⟩:=hf p.1 hb
    obtain⟨o,e',d⟩:=ho p.1 hb
    rw[e]at e';cases e'
    exact⟨e,f0,f1,f2,d⟩
theorem Inv.unpinned{pins pl:List (Addr × Obj)}{σ:St}{H:Hp}{s:Shared}(I:Inv X (pins ++ pl) σ H s):Inv X pins σ H s:=I.pins_of λ p hp=>I.pin p (List.mem_append_right _ (List.mem_append_left _ hp))
theorem VE{iter:Expr}{body:List Stmt}{wi:TI}{g:TG}{tb:TS}{pos:Pos}(hp:PassesOwn (model X.prog X.w) X.A X.env X.xe)(hc:X.calm=true)(hi:PI X tg iter wi)(hg:PG X tg g)(hb:PSs X body tb)
    (hs:∀ x,foldedSetIterable iter X.env x=pure x:=by intro _;rfl):PS X (.For tg iter body [] pos) (Q0 wi g tb):=by
  intro pins s σ H D I h
  refine wpAny_For (thn (hi pins s σ H _ I h) λ v s1 h1=>thn h1 λ itv s2 h2=>?_) hs
  obtain⟨it,fp,tn,J,H2,e,I2,T,st2,f2,W,⟨m0,w0⟩,turn⟩:=h2
  subst e
  -- what stays true of the iterator's objects through the loop
  have stat:∀ {H':Hp},(∀ b ∈ fp,H' b=none)->∀ b ∈ fp,FpOk X pins H' b:=λ hn b hb=>⟨hn b hb,(f2 b hb).2⟩
  refine codeAny_forLoop_any (λ n s'=>∃ i σ' H',Inv X pins σ' H' s'/\tn i s'.heap/\(∀ b ∈ fp,H' b=none)/\W i n σ' H') ?_ m0 ⟨0,σ,H2,I2,st2,λ b hb=>(f2 b hb).1,w0⟩
  rintro n s3 ⟨i,σ3,H3,I3,st3,fr3,w3⟩
  rcases turn i n σ3 H3 w3 with⟨stop,qn⟩|⟨go,N,hN,step⟩
  . refine wpAny_passesOwn hp (thn (T.done X rfl rfl rfl hc i pins s3 σ3 H3 X.xe I3 (stat fr3) st3 stop) λ r s4 ⟨hr,I4⟩=>?_)
    subst hr
    exact wpAny_execs_nil ⟨σ3,H3,I4,qn⟩
  . refine wpAny_passesOwn hp (thn (T.item X rfl rfl rfl hc i pins s3 σ3 H3 X.xe I3 (stat fr3) st3 go) λ r s4 ⟨u,hr,h4⟩=>?_)
    subst hr
    refine wpAny_passesOwn hp (thn h4 λ _ s5 ⟨x,H5,I5,r5,y5,st5,fr5⟩=>?_)
    have I5':=I5.pinned (stat fr5) (T.obj _ _ st5)
    refine wpAny_passesOwn hp (thn (hg _ s5 σ3 H5 x u _ I5' r5 (step x H5 y5)) λ _ s6 ⟨σ6,H6,I6,q6⟩=>?_)
    refine wpAny_passesOwn hp (thn (hb _ s6 σ6 H6 _ I6 q6) λ f s7 q7=>?_)
    have again:∀ {σ7:St} {H7:Hp},Inv X (pins ++ Ex fp s5.heap) σ7 H7 s7->N σ7 H7->∃ m,m < n/\∃ i σ' H',Inv X pins σ' H' s7/\tn i s7.heap/\(∀ b ∈ fp,H' b=none)/\W i m σ' H':=λ {σ7 H7} I7 n7=>by
      obtain⟨m',hm,w7⟩:=hN σ7 H7 n7
      refine⟨m',hm,i + 1,σ7,H7,I7.unpinned,T.keep _ _ _ st5 λ b hb o e=>(I7.pin (b,o) (List.mem_append_right _ (List.mem_append_right _ (CI hb e)))).1,λ b hb=>?_,w7⟩
      obtain⟨o,e,d⟩:=T.obj _ _ st5 b hb
      exact(I7.pin (b,o) (List.mem_append_right _ (List.mem_append_right _ (CI hb e)))).2.1
    cases f with
    | next=>obtain⟨σ7,H7,I7,n7⟩:=q7;exact again I7 n7
    | cont=>obtain⟨σ7,H7,I7,n7⟩:=q7;exact again I7 n7
    | brk=>obtain⟨σ7,H7,I7,q7⟩:=q7;exact⟨σ7,H7,I7.unpinned,q7⟩
    | ret v=>obtain⟨x7,σ7,H7,I7,r7,q7⟩:=q7;exact⟨x7,σ7,H7,I7.unpinned,r7,q7⟩
end
end L2
namespace L2
open PySem PySem.Spec PyProof.Rows
noncomputable abbrev R2:=V->V->Hp->VK->Prop
noncomputable def OpR(X:Cx)(f:Value->Value->Sem Value)(r:R2):Prop:=
  ∀ (pins:List (Addr × Obj)) (s:Shared) (σ:St) (H:Hp) (x y:V) (v u:Value) (Q:VK),Inv X pins σ H s->RelV x v->RelV y u->r x y H Q ->
    wpAny (model X.prog X.w) X.A (f v u) (EP X pins σ Q) X.xe s
noncomputable def UnR(X:Cx)(f:Value->Sem Value)(r:V->Hp->VK->Prop):Prop:=
  ∀ (pins:List (Addr × Obj)) (s:Shared) (σ:St) (H:Hp) (x:V) (v:Value) (Q:VK),Inv X pins σ H s->RelV x v->r x H Q ->
    wpAny (model X.prog X.w) X.A (f v) (EP X pins σ Q) X.xe s
noncomputable def CallR(X:Cx)(f:Value)(r:List V->Hp->VK->Prop):Prop:=
  ∀ (pins:List (Addr × Obj)) (s:Shared) (σ:St) (H:Hp) (xs:List V) (us:List Value) (Q:VK),Inv X pins σ H s->Vals xs us->r xs H Q ->
    wpAny (model X.prog X.w) X.A (call f us) (EP X pins σ Q) X.xe s
noncomputable def Xc(X:Cx)(r:V->Hp->(Bool->Hp->Prop)->Prop):Prop:=
  ∀ (pins:List (Addr × Obj)) (s:Shared) (σ:St) (H:Hp) (x:V) (v:Value) (Q:Bool->Hp->Prop),Inv X pins σ H s->RelV x v->r x H Q ->
    wpAny (model X.prog X.w) X.A (truthy v) (TP X pins σ Q) X.xe s
noncomputable def tOp(r:R2)(ta tb:TE):TE:=λ σ H Q=>ta σ H λ x H1=>tb σ H1 λ y H2=>r x y H2 Q
noncomputable def tUn(r:V->Hp->VK->Prop)(ta:TE):TE:=λ σ H Q=>ta σ H λ x H1=>r x H1 Q
noncomputable def rI(C:Int->Int->Prop)(g:Int->Int->V):R2:=λ x y H Q=>∃ i j,x=.int i/\y=.int j/\C i j/\Q (g i j) H
noncomputable def rI0(g:Int->Int->V):R2:=λ x y H Q=>∃ i j,x=.int i/\y=.int j/\Q (g i j) H
noncomputable def rU(g:Int->V):V->Hp->VK->Prop:=λ x H Q=>∃ i,x=.int i/\Q (g i) H
section
variable{X:Cx}{a b c:Expr}{ta tb tc:TE}{pos:Pos}
theorem Rm(ha:PE X a ta)(hb:PE X b tb){pins:List (Addr × Obj)}{s:Shared}{σ:St}{H:Hp}{R:V->V->Hp->Prop}(I:Inv X pins σ H s)
    (h:ta σ H λ x H1=>tb σ H1 λ y H2=>R x y H2) {Q:Value->Shared->Prop} {f:Value->Value->Sem Value}
    (hf:∀ v u s2 x y H2,Inv X pins σ H2 s2->RelV x v->RelV y u->R x y H2->wpAny (model X.prog X.w) X.A (f v u) Q X.xe s2) :
    wpAny (model X.prog X.w) X.A (eval a X.env) (λ v s₁=>wpAny (model X.prog X.w) X.A (eval b X.env) (λ u s₂=>wpAny (model X.prog X.w) X.A (f v u) Q X.xe s₂) X.xe s₁) X.xe s:=by
  refine thn (ha pins s σ H _ I h) λ v s1 ⟨x,H1,I1,r1,q1⟩=>?_
  refine thn (hb pins s1 σ H1 _ I1 q1) λ u s2 ⟨y,H2,I2,r2,q2⟩=>?_
  exact hf v u s2 x y H2 I2 r1 r2 q2
theorem NV{op:Operator}{r:R2}(ho:OpR X (binaryOp op) r)(ha:PE X a ta)(hb:PE X b tb):PE X (.BinOp a op b pos) (tOp r ta tb):=by
  intro pins s σ H Q I h
  exact wpAny_BinOp (Rm ha hb I h λ v u s2 x y H2 I2 rx ry q=>ho pins s2 σ H2 x y v u Q I2 rx ry q)
theorem Wj{op:UnaryOp}{r:V->Hp->VK->Prop}(ho:UnR X (unaryOp op) r)(ha:PE X a ta):PE X (.UnaryOp op a pos) (tUn r ta):=by
  intro pins s σ H Q I h
  exact UnaryOp_ (thn (ha pins s σ H _ I h) λ v s1 ⟨x,H1,I1,r1,q1⟩=>ho pins s1 σ H1 x v Q I1 r1 q1)
theorem opI{f:Value->Value->Sem Value}{C:Int->Int->Prop}{g:Int->Int->Int}
    (rule:∀ (i j:Int) (t u:Tok) (s:Shared) (Q:Value->Shared->Prop) (E:Value->Shared->Prop),C i j->Q (.int (g i j) s.toks) { s with toks:=s.toks + 1 }->wpAny (model X.prog X.w) X.A (f (.int i t) (.int j u)) Q E s) :
    OpR X f (rI C λ i j=>.int (g i j)):=by
  intro pins s σ H x y v u Q I rx ry h
  obtain⟨i,j,rfl,rfl,hc,q⟩:=h
  obtain⟨t,rfl⟩:=rx
  obtain⟨t',rfl⟩:=ry
  exact rule i j t t' s _ _ hc ⟨.int (g i j),H,I.tok _,⟨_,rfl⟩,q⟩
theorem Vi{f:Value->Value->Sem Value}{g:Int->Int->Int}
    (rule:∀ (i j:Int) (t u:Tok) (s:Shared) (Q:Value->Shared->Prop) (E:Value->Shared->Prop),Q (.int (g i j) s.toks) { s with toks:=s.toks + 1 }->wpAny (model X.prog X.w) X.A (f (.int i t) (.int j u)) Q E s) :
    OpR X f (rI0 λ i j=>.int (g i j)):=by
  intro pins s σ H x y v u Q I rx ry h
  obtain⟨i,j,rfl,rfl,q⟩:=h
  obtain⟨t,rfl⟩:=rx
  obtain⟨t',rfl⟩:=ry
  exact rule i j t t' s _ _ ⟨.int (g i j),H,I.tok _,⟨_,rfl⟩,q⟩
theorem NX{f:Value->Value->Sem Value}{g:Int->Int->Bool}
    (rule:∀ (i j:Int) (t u:Tok) (s:Shared) (Q:Value->Shared->Prop) (E:Value->Shared->Prop),Q (.bool (g i j)) s->wpAny (model X.prog X.w) X.A (f (.int i t) (.int j u)) Q E s) :
    OpR X f (rI0 λ i j=>.bl (g i j)):=by
  intro pins s σ H x y v u Q I rx ry h
  obtain⟨i,j,rfl,rfl,q⟩:=h
  obtain⟨t,rfl⟩:=rx
  obtain⟨t',rfl⟩:=ry
  exact rule i j t t' s _ _ ⟨.bl (g i j),H,I,rfl,q⟩
noncomputable def WK(i j:Int):Prop:=0 < j/\j < 1073741824
noncomputable def WJ(i j:Int):Prop:=0 <= j/\j <= 1000000/\i.natAbs < 2 ^ 64
noncomputable def CMul(i j:Int):Prop:=(-(2 ^ 64) < i/\i < 2 ^ 64) ∨ (-(2 ^ 64) < j/\j < 2 ^ 64)
theorem CMul.ok{i j:Int}(h:CMul i j):IntMulOk i j:=by
  rcases h with⟨h1,h2⟩|⟨h1,h2⟩
  . exact .of_left (intBits_le_64 h1 h2)
  . exact .of_right (intBits_le_64 h1 h2)
theorem BI:OpR X (binaryOp .Add) (rI0 λ i j=>.int (i + j)):=Vi λ _ _ _ _ _ _ _ q=>add_int q
theorem Ey:OpR X (binaryOp .Sub) (rI0 λ i j=>.int (i - j)):=Vi λ _ _ _ _ _ _ _ q=>sub_int q
theorem Ck:OpR X (binaryOp .Mult) (rI CMul λ i j=>.int (i * j)):=opI λ _ _ _ _ _ _ _ hc q=>mul_int q hc.ok
theorem JP:OpR X (binaryOp .FloorDiv) (rI WK λ i j=>.int (i / j)):=opI λ i j _ _ _ _ _ hc q=>by
  have h1:(0:Int) < j:=hc.1
  have h2:j < 1073741824:=hc.2
  exact floordiv_int (by omega) (by rw[Int.fdiv_eq_ediv_of_nonneg i (by omega)];exact q) (.inl (PyProof.noPylong_small (by omega)))
theorem ER:OpR X (binaryOp .Mod) (rI (λ _ j=>0 < j) λ i j=>.int (i % j)):=opI λ i j _ _ _ _ _ hc q=>by
  have h1:(0:Int) < j:=hc
  exact mod_int' (by omega) (by rw[Int.fmod_eq_emod_of_nonneg i (by omega)];exact q)
theorem Vc:OpR X (binaryOp .Pow) (rI WJ λ i j=>.int (i ^ j.toNat)):=opI λ _ _ _ _ _ _ _ hc q=>pow_int_small hc.1 hc.2.1 hc.2.2 q
theorem unI{f:Value->Sem Value}{g:Int->Int}
    (rule:∀ (i:Int) (t:Tok) (s:Shared) (Q:Value->Shared->Prop) (E:Value->Shared->Prop),Q (.int (g i) s.toks) { s with toks:=s.toks + 1 }->wpAny (model X.prog X.w) X.A (f (.int i t)) Q E s) :
    UnR X f (rU λ i=>.int (g i)):=by
  intro pins s σ H x v Q I rx h
  obtain⟨i,rfl,q⟩:=h
  obtain⟨t,rfl⟩:=rx
  exact rule i t s _ _ ⟨.int (g i),H,I.tok _,⟨_,rfl⟩,q⟩
theorem UI:UnR X (unaryOp .USub) (rU λ i=>.int (-i)):=unI λ _ _ _ _ _ q=>neg_int q
end
noncomputable def Kt:V->V->Bool
  | .non,.non=>true | .non,.int _=>true | .int _,.non=>true | .non,.bl _=>true | .bl _,.non=>true | .non,.str _=>true | .str _,.non=>true
  | .int _,.int _=>true | .bl _,.bl _=>true | .str _,.str _=>true | .byt _,.byt _=>true
  | .int _,.str _=>true | .str _,.int _=>true | .bl _,.str _=>true | .str _,.bl _=>true
  | _,_=>false
noncomputable def rEq:R2:=λ x y H Q=>Kt x y=true/\Q (.bl (decide (x=y))) H
noncomputable def rNe:R2:=λ x y H Q=>Kt x y=true/\Q (.bl (!decide (x=y))) H
theorem Mz{i j:Int}:decide (V.int i=V.int j)=(i == j):=by
  rw[Bool.eq_iff_iff]
  simp
theorem PH{i j:Bool}:decide (V.bl i=V.bl j)=(i == j):=by
  rw[Bool.eq_iff_iff]
  simp
theorem My{i j:Str}:decide (V.str i=V.str j)=(i == j):=by
  rw[Bool.eq_iff_iff]
  simp
theorem N0{i j:Array UInt8}:decide (V.byt i=V.byt j)=(i.toList == j.toList):=by
  rw[Bool.eq_iff_iff]
  cases i
  cases j
  simp
section
variable{X:Cx}{a b c:Expr}{ta tb tc:TE}{pos:Pos}
theorem Al{pins:List (Addr × Obj)}{σ:St}{H:Hp}{s:Shared}{Q:VK}{k k':Bool}(I:Inv X pins σ H s)(q:Q (.bl k) H)(e:k=k'):EP X pins σ Q (.bool k') s:=by
  subst e
  exact⟨.bl k,H,I,rfl,q⟩
theorem Cc:OpR X (compareOp .Eq) rEq:=by
  intro pins s σ H x y v u Q I rx ry h
  obtain⟨hs,q⟩:=h
  cases x with
  | non=>
    cases rx
    cases y with
    | non=>cases ry;exact PySem.EqNone.eq_none_none (Al I q (by simp))
    | bl j=>cases ry;exact PySem.EqNone.eq_none_bool (Al I q (by simp))
    | int j=>obtain⟨t',rfl⟩:=ry;exact PySem.EqNone.eq_none_int (Al I q (by simp))
    | str j=>obtain⟨t',rfl⟩:=ry;exact PySem.EqNone.eq_none_str (Al I q (by simp))
    | _=>exact absurd (show false=true from hs) Bool.false_ne_true
  | bl i=>
    cases rx
    cases y with
    | non=>cases ry;exact PySem.EqNone.eq_bool_none (Al I q (by simp))
    | bl j=>cases ry;exact eq_bool (Al I q PH)
    | str j=>obtain⟨t',rfl⟩:=ry;exact PySem.EqMixed.eq_bool_str (Al I q (by simp))
    | _=>exact absurd (show false=true from hs) Bool.false_ne_true
  | int i=>
    obtain⟨t,rfl⟩:=rx
    cases y with
    | non=>cases ry;exact PySem.EqNone.eq_int_none (Al I q (by simp))
    | int j=>obtain⟨t',rfl⟩:=ry;exact eq_int (Al I q Mz)
    | str j=>obtain⟨t',rfl⟩:=ry;exact PySem.EqMixed.eq_int_str (Al I q (by simp))
    | _=>exact absurd (show false=true from hs) Bool.false_ne_true
  | str i=>
    obtain⟨t,rfl⟩:=rx
    cases y with
    | non=>cases ry;exact PySem.EqNone.eq_str_none (Al I q (by simp))
    | bl j=>cases ry;exact PySem.EqMixed.eq_str_bool (Al I q (by simp))
    | int j=>obtain⟨t',rfl⟩:=ry;exact PySem.EqMixed.eq_str_int (Al I q (by simp))
    | str j=>obtain⟨t',rfl⟩:=ry;exact eq_str (Al I q My)
    | _=>exact absurd (show false=true from hs) Bool.false_ne_true
  | byt i=>
    obtain⟨t,rfl⟩:=rx
    cases y with
    | byt j=>obtain⟨t',rfl⟩:=ry;exact PySem.W.eq_bytes (Al I q N0)
    | _=>exact absurd (show false=true from hs) Bool.false_ne_true
  | _=>cases y <;> exact absurd (show false=true from hs) Bool.false_ne_true
theorem SA:OpR X (compareOp .NotEq) rNe:=by
  intro pins s σ H x y v u Q I rx ry h
  obtain⟨hs,q⟩:=h
  cases x with
  | non=>
    cases rx
    cases y with
    | non=>cases ry;exact PySem.EqNone.ne_none_none (Al I q (by simp))
    | bl j=>cases ry;exact PySem.EqNone.ne_none_bool (Al I q (by simp))
    | int j=>obtain⟨t',rfl⟩:=ry;exact PySem.EqNone.ne_none_int (Al I q (by simp))
    | str j=>obtain⟨t',rfl⟩:=ry;exact PySem.EqNone.ne_none_str (Al I q (by simp))
    | _=>exact absurd (show false=true from hs) Bool.false_ne_true
  | bl i=>
    cases rx
    cases y with
    | non=>cases ry;exact PySem.EqNone.ne_bool_none (Al I q (by simp))
    | bl j=>cases ry;exact ne_bool (Al I q (congrArg not PH))
    | str j=>obtain⟨t',rfl⟩:=ry;exact PySem.EqMixed.ne_bool_str (Al I q (by simp))
    | _=>exact absurd (show false=true from hs) Bool.false_ne_true
  | int i=>
    obtain⟨t,rfl⟩:=rx
    cases y with
    | non=>cases ry;exact PySem.EqNone.ne_int_none (Al I q (by simp))
    | int j=>obtain⟨t',rfl⟩:=ry;exact ne_int (Al I q (congrArg not Mz))
    | str j=>obtain⟨t',rfl⟩:=ry;exact PySem.EqMixed.ne_int_str (Al I q (by simp))
    | _=>exact absurd (show false=true from hs) Bool.false_ne_true
  | str i=>
    obtain⟨t,rfl⟩:=rx
    cases y with
    | non=>cases ry;exact PySem.EqNone.ne_str_none (Al I q (by simp))
    | bl j=>cases ry;exact PySem.EqMixed.ne_str_bool (Al I q (by simp))
    | int j=>obtain⟨t',rfl⟩:=ry;exact PySem.EqMixed.ne_str_int (Al I q (by simp))
    | str j=>obtain⟨t',rfl⟩:=ry;exact ne_str (Al I q (congrArg not My))
    | _=>exact absurd (show false=true from hs) Bool.false_ne_true
  | byt i=>
    obtain⟨t,rfl⟩:=rx
    cases y with
    | byt j=>obtain⟨t',rfl⟩:=ry;exact PySem.W.ne_bytes (Al I q (congrArg not N0))
    | _=>exact absurd (show false=true from hs) Bool.false_ne_true
  | _=>cases y <;> exact absurd (show false=true from hs) Bool.false_ne_true
theorem NW:OpR X (compareOp .Lt) (rI0 λ i j=>.bl (decide (i < j))):=NX λ _ _ _ _ _ _ _ q=>lt_int q
theorem SB:OpR X (compareOp .LtE) (rI0 λ i j=>.bl (decide (i <= j))):=NX λ _ _ _ _ _ _ _ q=>le_int q
theorem KK:OpR X (compareOp .Gt) (rI0 λ i j=>.bl (decide (j < i))):=NX λ _ _ _ _ _ _ _ q=>gt_int q
theorem Wo:OpR X (compareOp .GtE) (rI0 λ i j=>.bl (decide (j <= i))):=NX λ _ _ _ _ _ _ _ q=>ge_int q
theorem OpR.or{f:Value->Value->Sem Value}{r r':R2}(h:OpR X f r)(h':OpR X f r'):OpR X f (λ x y H Q=>r x y H Q ∨ r' x y H Q):=by
  intro pins s σ H x y v u Q I rx ry q
  rcases q with q|q
  . exact h pins s σ H x y v u Q I rx ry q
  . exact h' pins s σ H x y v u Q I rx ry q
theorem IU(b:Expr){op:CmpOp}(h:op ≠ .In:=by decide)(h2:op ≠ .NotIn:=by decide):behindInMarks op b=false:=by
  have e1:(op == CmpOp.In)=false:=by cases op <;> first|rfl|exact absurd rfl h
  have e2:(op == CmpOp.NotIn)=false:=by cases op <;> first|rfl|exact absurd rfl h2
  cases b <;> simp[behindInMarks,e1,e2]
theorem Mk{op:CmpOp}{r:R2}(ho:OpR X (compareOp op) r)(ha:PE X a ta)(hb:PE X b tb)(hm:behindInMarks op b=false):PE X (.Compare a [op] [b] pos) (tOp r ta tb):=by
  intro pins s σ H Q I h
  exact wpAny_Compare1 (Rm ha hb I h λ v u s2 x y H2 I2 rx ry q=>ho pins s2 σ H2 x y v u Q I2 rx ry q) hm
noncomputable def KF(t:TE):TT:=λ σ H Q=>t σ H λ x H'=>∃ k,x=.bl k/\Q k H'
theorem Mi{op:CmpOp}{r:R2}(ho:OpR X (compareOp op) r)(ha:PE X a ta)(hb:PE X b tb)(hm:behindInMarks op b=false):PT X (.Compare a [op] [b] pos) (KF (tOp r ta tb)):=by
  intro pins s σ H Q I h
  refine wpAny_isTrue_Compare1 (thn (ha pins s σ H _ I h) λ v s1 ⟨x,H1,I1,r1,q1⟩=>thn (hb pins s1 σ H1 _ I1 q1) λ u s2 ⟨y,H2,I2,r2,q2⟩=>
    thn (ho pins s2 σ H2 x y v u _ I2 r1 r2 q2) λ c s3 ⟨z,H3,I3,r3,k,e,q3⟩=>?_) hm
  subst e
  cases r3
  exact wpAny_truthy_bool ⟨H3,I3,q3⟩
noncomputable def M4(K:PySem.W.Frag)(x:V)(H:Hp)(k:Bool):Prop:=
  match x with
  | .non=>k=false
  | .bl b=>k=b
  | .int i=>k=(i != 0)
  | .str y=>y.length <= sizeLine/\k=((y.length:Int) != 0)
  | .byt y=>y.size <= sizeLine/\k=((y.size:Int) != 0)
  | .ref p=>(∃ xs,SqL K H p xs/\k=!xs.isEmpty) ∨ (∃ xs,SqT K H p xs/\k=!xs.isEmpty) ∨ ∃ kvs,H p=some (.dK kvs)/\k=!kvs.isEmpty
  | _=>False
theorem Nc{κ:Type}{kvs:List (κ × V)}{vs:List (κ × Value)}(r:KV kvs vs):(!vs.isEmpty)=!kvs.isEmpty:=by
  cases r <;> rfl
theorem Im{xs:List V}{its:List Value}(r:Vals xs its):(!its.toArray.isEmpty)=!xs.isEmpty:=by
  cases r <;> simp
theorem Fk:(sizeLine:Nat) < 2 ^ 63:=by rw[sizeLine_eq];decide
theorem UJ:Xc X (λ x H Q=>∃ k,M4 X.K x H k/\Q k H):=by
  intro pins s σ H x v Q I rx h
  obtain⟨k,e,q⟩:=h
  have hl:=Fk
  have hs:sizeLine=16777216:=sizeLine_eq
  cases x with
  | non=>
    cases rx
    have e':k=false:=e
    subst e'
    exact truthy_none ⟨H,I,q⟩
  | bl b=>
    cases rx
    have e':k=b:=e
    subst e'
    exact wpAny_truthy_bool ⟨H,I,q⟩
  | int i=>
    obtain⟨t,rfl⟩:=rx
    have e':k=(i != 0):=e
    subst e'
    exact PySem.P.truthy_int ⟨H,I,q⟩
  | str y=>
    obtain⟨t,rfl⟩:=rx
    obtain⟨hy,e'⟩:y.length <= sizeLine/\k=((y.length:Int) != 0):=e
    subst e'
    exact PySem.P.truthy_str (by omega) ⟨H,I.tok _,q⟩
  | byt y=>
    obtain⟨t,rfl⟩:=rx
    obtain⟨hy,e'⟩:y.size <= sizeLine/\k=((y.size:Int) != 0):=e
    subst e'
    exact PySem.W.truthy_bytes (by omega) ⟨H,I.tok _,q⟩
  | ref p=>
    cases rx
    have e':(∃ xs,SqL X.K H p xs/\k=!xs.isEmpty) ∨ (∃ xs,SqT X.K H p xs/\k=!xs.isEmpty) ∨ ∃ kvs,H p=some (.dK kvs)/\k=!kvs.isEmpty:=e
    rcases e' with⟨xs,hx,e'⟩|⟨xs,hx,e'⟩|⟨kvs,hx,e'⟩
    . subst e'
      obtain⟨its,r,pl,hz⟩:=I.list hx
      have hlen:=r.length
      exact wpAny_truthy_list pl.isList (by simp only[List.size_toArray];omega) ⟨H,I.tok _,by rw[Im r];exact q⟩
    . subst e'
      obtain⟨its,r,pl,hz⟩:=I.tuple hx
      have hlen:=r.length
      exact truthy_tuple pl (by simp only[List.size_toArray];omega) ⟨H,I.tok _,by rw[Im r];exact q⟩
    . subst e'
      obtain⟨hz,hS,vs,r,m⟩:kvs.length <= sizeLine/\(p == sysModules)=false/\∃ vs,KV kvs vs/\s.heap.DictOf (Bj X.prog X.w) p vs:=I.hok p _ hx
      have hlen:kvs.length=vs.length:=Paired.length r
      exact wpAny_truthy_dict hS m (by omega) ⟨H,I.tok _,by rw[Nc r];exact q⟩
  | _=>exact(show False from e).elim
theorem Qm(ha:PE X a ta)(he:∀ whole,isTrue a X.env whole=(do let v <- whole;standAt a.pos;holding [v] (truthy v))) :
    PT X a (λ σ H Q=>ta σ H λ x H'=>∃ k,M4 X.K x H' k/\Q k H'):=by
  intro pins s σ H Q I h
  exact isTrue_plain (thn (ha pins s σ H _ I h) λ v s1 ⟨x,H1,I1,r1,q1⟩=>UJ pins s1 σ H1 x v Q I1 r1 q1) (he _)
theorem Bp{x:V}{us:List Value}(r:Vals [x] us):∃ u,us=[u]/\RelV x u:=by
  cases r with
  | cons r1 r2=>cases r2;exact⟨_,rfl,r1⟩
theorem IC{x y:V}{us:List Value}(r:Vals [x,y] us):∃ u w',us=[u,w']/\RelV x u/\RelV y w':=by
  cases r with
  | cons r1 r2=>
    cases r2 with
    | cons r3 r4=>cases r4;exact⟨_,_,rfl,r1,r3⟩
theorem EX(hc:X.calm=true):CallR X (.builtin "max") (λ xs H Q=>∃ i j,xs=[.int i,.int j]/\Q (.int (if j > i then j else i)) H):=by
  intro pins s σ H xs us Q I r h
  obtain⟨i,j,rfl,q⟩:=h
  obtain⟨u,w',rfl,⟨t,rfl⟩,⟨t',rfl⟩⟩:=IC r
  refine max_two_ints (I.ok.hd hc) λ h' tk k=>⟨_,H,I.kept k,?_,q⟩
  by_cases hj:j > i
  . rw[if_pos hj,if_pos hj];exact⟨_,rfl⟩
  . rw[if_neg hj,if_neg hj];exact⟨_,rfl⟩
theorem PR(hc:X.calm=true):CallR X (.builtin "min") (λ xs H Q=>∃ i j,xs=[.int i,.int j]/\Q (.int (if j < i then j else i)) H):=by
  intro pins s σ H xs us Q I r h
  obtain⟨i,j,rfl,q⟩:=h
  obtain⟨u,w',rfl,⟨t,rfl⟩,⟨t',rfl⟩⟩:=IC r
  refine min_two_ints (I.ok.hd hc) λ h' tk k=>⟨_,H,I.kept k,?_,q⟩
  by_cases hj:j < i
  . rw[if_pos hj,if_pos hj];exact⟨_,rfl⟩
  . rw[if_neg hj,if_neg hj];exact⟨_,rfl⟩
theorem PU:CallR X (.type "int") (λ xs H Q=>(∃ i,xs=[.int i]/\Q (.int i) H) ∨ ∃ k,xs=[.bl k]/\Q (.int (if k then 1 else 0)) H):=by
  intro pins s σ H xs us Q I r h
  rcases h with⟨i,rfl,q⟩|⟨k,rfl,q⟩
  . obtain⟨u,rfl,t,rfl⟩:=Bp r
    exact call_int_int ⟨.int i,H,I,⟨_,rfl⟩,q⟩
  . obtain⟨u,rfl,r1⟩:=Bp r
    cases r1
    exact call_int_bool ⟨.int (if k then 1 else 0),H,I.tok _,⟨_,rfl⟩,q⟩
end
end L2
namespace L2
open PySem PySem.Spec PyProof.Rows
section
variable{prog:Program}{w:World}{A:Around}{E:Value->Shared->Prop}{s:Shared}{K:PySem.W.Frag}{x dx C f:Addr}{mA:Str->Option Value}{name:Str}{v:Value}
end
theorem RelO.some_of{v:V}{o:Option Value}(r:RelO (some v) o):∃ u,o=some u/\RelV v u:=by
  cases o with
  | none=>exact(show False from r).elim
  | some u=>exact⟨u,rfl,r⟩
section
variable{P:Program}{w:World}{H H':Hp}{h h':Heap}{a C dx:Addr}{fs fs':List (Str × V)}
end
section
variable{X:Cx}{pins:List (Addr × Obj)}{σ:St}{H:Hp}{s:Shared}{a C dx:Addr}{fs:List (Str × V)}{f:Str}{v:V}{A:Around}{E:Value->Shared->Prop}
end
section
variable{X:Cx}{o e value:Expr}{f:Str}{pos pos' tpos:Pos}{ta tv:TE}
end
section
variable{X:Cx}{pins:List (Addr × Obj)}{σ:St}{H:Hp}{s:Shared}{A:Around}{E:Value->Shared->Prop}{Q:Value->Shared->Prop}{c:Value}{b:Bool}
end
end L2
namespace L2
open PySem PySem.Spec PyProof.Rows
structure Room(k:Nat)(A:Around):Prop where
  hd:A.handled=none
  dp:A.depth + 3 * k + 5 < recursionLimit
  un:A.units + 16 * k + 200 < cLine
  gd:A.guards=some []
theorem Room.mono{j k:Nat}{A:Around}(r:Room k A)(h:j <= k):Room j A:=⟨r.hd,by have:=r.dp;omega,by have:=r.un;omega,r.gd⟩
theorem Room.deeper{k:Nat}{A:Around}(r:Room (k + 1) A)(env:Env):Room k (A.deeper env):=
  ⟨r.hd,by have:=r.dp;show A.depth + 1 + 3 * k + 5 < _;omega,by have:=r.un;show A.units + 3 + 16 * k + 200 < _;omega,by first|exact r.gd|(simpa [Around.deeper,Around.under,Code.guards,Code.isGuard,pushGuards]using r.gd)⟩
theorem Room.in1{k:Nat}{A:Around}(r:Room (k + 1) A):Room k A.in1:=
  ⟨r.hd,by have:=r.dp;show A.depth + 3 * k + 5 < _;omega,by have:=r.un;show A.units + 1 + 16 * k + 200 < _;omega,r.gd⟩
theorem Room.depth{k:Nat}{A:Around}(r:Room k A):A.depth < recursionLimit:=by have:=r.dp;omega
theorem Room.units{k:Nat}{A:Around}(r:Room k A):A.units + 64 < cLine:=by have:=r.un;omega
noncomputable def Cb:TA:=λ _ H Q=>Q [] H
noncomputable def Bi(ta:TE)(tr:TA):TA:=λ σ H Q=>ta σ H λ x H1=>tr σ H1 λ xs H2=>Q (x :: xs) H2
section
variable{X:Cx}{e:Expr}{es:List Expr}{te:TE}{t:TA}{pos:Pos}
theorem DW:PA X [] Cb:=λ _ _ _ _ H Q I h=>Calls.spliced_nil ⟨[],H,I,.nil,h⟩
theorem CO(ha:PE X e te)(hr:PA X es t)(hs:starEach (e :: es) X.env=(false,eval e X.env) :: starEach es X.env:=by rfl):PA X (e :: es) (Bi te t):=by
  intro pos pins s σ H Q I h
  rw[hs]
  show wpAny _ _ (spliced ((false,eval e X.env) :: backTo pos (starEach es X.env))) _ _ s
  refine Calls.spliced_cons (thn (ha pins s σ H _ I h) λ u s1 ⟨x,H1,I1,r1,q1⟩=>?_)
  exact thn (hr pos pins s1 σ H1 _ I1 q1) λ us s2 ⟨xs,H2,I2,r2,q2⟩=>⟨x :: xs,H2,I2,.cons r1 r2,q2⟩
noncomputable def Ps(t:TA):TE:=λ σ H Q=>t σ H λ xs H1=>xs.length <= sizeLine/\∀ p,H1 p=none->Q (.ref p) (upd H1 p (.tup xs))
noncomputable def Px(t:TA):TE:=λ σ H Q=>t σ H λ xs H1=>xs.length <= sizeLine/\∀ p,H1 p=none->Q (.ref p) (upd H1 p (.lst xs))
theorem VP{x1}(h:PA X es t):PE X (.Tuple es x1 pos) (Ps t):=by
  intro pins s σ H Q I hq
  refine wpAny_Tuple_spliced (thn (h pos pins s σ H _ I hq) λ us s1 ⟨xs,H1,I1,r,z,q⟩=>⟨by rw[<- r.length];exact z,?_⟩)
  have hf:H1 s1.heap.objs.size=none:=I1.hok.fresh (Nat.le_refl _)
  refine⟨.ref s1.heap.objs.size,upd H1 s1.heap.objs.size (.tup xs),I1.laid (t':=s1.toks) (λ b u e=>Heap.get?_push_of_some _ e) (Nat.le_refl _) ?_,rfl,q _ hf⟩
  exact⟨z,us,r,⟨_,Heap.get?_push_size _ rfl,rfl,_,rfl⟩⟩
theorem VU(h:PA X es t):PE X (.List es pos) (Px t):=by
  intro pins s σ H Q I hq
  refine wpAny_List_spliced (thn (h pos pins s σ H _ I hq) λ us s1 ⟨xs,H1,I1,r,z,q⟩=>⟨by rw[<- r.length];exact z,?_⟩)
  have hf:H1 s1.heap.objs.size=none:=I1.hok.fresh (Nat.le_refl _)
  refine⟨.ref s1.heap.objs.size,upd H1 s1.heap.objs.size (.lst xs),I1.laid (t':=s1.toks) (λ b u e=>Heap.get?_push_of_some _ e) (Nat.le_refl _) ?_,rfl,q _ hf⟩
  exact⟨z,us,0,r,Heap.get?_push_size _ rfl⟩
end
noncomputable abbrev Sp:=List V->Hp->VK->XK->Prop
noncomputable abbrev CXT:=List Env->Hp->Shared->XK->Value->Shared->Prop
structure Env0(P:Program)(w:World)(K:PySem.W.Frag)(mg:Str->Option Value)(base:Heap)(A:Around)(outer:List Env)(s:Shared)(H:Hp):Prop where
  frames:A.frames=some outer
  mod:Mod K mg base
  bs:∀ b o,base.get? b=some o->s.heap.get? b=some o/\H b=none
  bsz:base.objs.size <= s.heap.objs.size
  funs:s.heap.FunFrames base outer
  frf:∀ b ∈ frs outer,H b=none
  hok:HOk P w H s.heap
  bare:AllBare s.gens
noncomputable def CE(outer:List Env)(P:Program)(w:World)(H:Hp)(s:Shared)(Q:VK)(u:Value)(s':Shared):Prop:=
  ∃ v H',s'.os=s.os/\AllBare s'.gens/\Un (frs outer) [] H H' s.heap s'.heap/\HOk P w H' s'.heap/\RelV v u/\Q v H'
noncomputable def CR(CX:CXT)(outer:List Env)(P:Program)(w:World)(H:Hp)(s:Shared)(Q:VK)(E:XK)(r:Result)(s':Shared):Prop:=
  match r with
  | .ok (.ret u)=>CE outer P w H s Q u s'
  | .ok _=>False
  | .error e=>CX outer H s E e s'
structure FnOk(P:Program)(w:World)(K:PySem.W.Frag)(mg:Str->Option Value)(base:Heap)(CX:CXT)(k:Nat)(f:Addr)(fd:FuncData)(ps:List Str)(sp:Sp):Prop where
  len:∀ vs H Q E,sp vs H Q E->vs.length=ps.length
  run:∀ (A:Around) (outer:List Env) (s:Shared) (H:Hp) (args:Args) (us:List Value) (vs:List V) (Q:VK) (E:XK),Room k A->Env0 P w K mg base A outer s H->BindsTo s fd args (ps.zip us)->Vals vs us->sp vs H Q E ->
    codeAny (model P w) A (.call (.ref f) args) (CR CX outer P w H s Q E) s
theorem FnOk.mono{P:Program}{w:World}{K:PySem.W.Frag}{mg:Str->Option Value}{base:Heap}{CX:CXT}{j k:Nat}{f:Addr}{fd:FuncData}{ps:List Str}{sp:Sp}(F:FnOk P w K mg base CX j f fd ps sp)(h:j <= k) :
    FnOk P w K mg base CX k f fd ps sp:=⟨F.len,λ A outer s H args us vs Q E hr=>F.run A outer s H args us vs Q E (hr.mono h)⟩
section
variable{X:Cx}{pins:List (Addr × Obj)}{σ:St}{H:Hp}{s s':Shared}
theorem Inv.env0(I:Inv X pins σ H s):Env0 X.prog X.w X.K X.mg X.base X.A X.stack s H:=
  ⟨I.ok.frames,I.ok.mod,I.bs,Nat.le_trans I.ok.bsz I.sz,I.stack,I.stkFree,I.hok,I.bare⟩
theorem Inv.after{Q:VK}{u:Value}(I:Inv X pins σ H s)(h:CE X.stack X.prog X.w H s Q u s'):EP X pins σ Q u s':=by
  obtain⟨v,H',os,bare,un,hok,r,q⟩:=h
  obtain⟨hh,g,d,t,os'⟩:=s'
  obtain rfl:os'=s.os:=os
  exact⟨v,H',I.call (h':=hh) (g':=g) (d':=d) (t':=t) (ch:=[]) un hok bare (λ b z=>absurd z (by simp)),r,q⟩
end
noncomputable def HE(sp:Sp)(dvs:List V)(E:XK)(t:TA):TE:=λ σ H Q=>t σ H λ vs H1=>sp (vs ++ dvs) H1 Q E
noncomputable def Binds(K:PySem.W.Frag)(fd:FuncData)(ps:List Str)(ds:List Value):Prop:=
  ∀ (s:Shared) (us:List Value),K.In s.heap->(us ++ ds).length=ps.length->BindsTo s fd ⟨us,[]⟩ (ps.zip (us ++ ds))
theorem Binds.all{K:PySem.W.Frag}{fd:FuncData}{ps:List Str}(h:∀ us:List Value,us.length=ps.length->bindArgs fd ⟨us,[]⟩=pure (ps.zip us)):Binds K fd ps []:=λ s us _ hl=>by
  rw[List.append_nil]at hl ⊢
  exact .of_eq (h us hl)
noncomputable def M7(CX:CXT)(X:Cx)(E:XK):Prop:=∀ (pins:List (Addr × Obj)) (σ:St) (H:Hp) (s:Shared) (e:Value) (s':Shared),Inv X pins σ H s->CX X.stack H s E e s'->X.xe e s'
section
variable{X:Cx}{CX:CXT}{k:Nat}{f C:Addr}{fd:FuncData}{ps:List Str}{sp:Sp}{dvs:List V}{ds:List Value}{E:XK}{x m:Str}{p pos apos:Pos}{e o:Expr}{es:List Expr}{ta:TE}{t:TA}
theorem UM{pins:List (Addr × Obj)}{σ:St}{H:Hp}{s:Shared}{Q:VK}{us:List Value}{vs:List V}(F:FnOk X.prog X.w X.K X.mg X.base CX k f fd ps sp)(hr:Room k X.A)(hb:Binds X.K fd ps ds)(hd:Vals dvs ds)(hx:M7 CX X E)
    (I:Inv X pins σ H s) (r:Vals vs us) (h:sp (vs ++ dvs) H Q E):wpAny (model X.prog X.w) X.A (call (.ref f) us) (EP X pins σ Q) X.xe s:=by
  have r2:Vals (vs ++ dvs) (us ++ ds):=r.append hd
  have hl:(us ++ ds).length=ps.length:=by rw[<- r2.length];exact F.len _ _ _ _ h
  refine wpAny_call (codeAny_mono (F.run X.A X.stack s H ⟨us,[]⟩ (us ++ ds) (vs ++ dvs) Q E hr I.env0 (hb s us I.kIn hl) r2 h) λ r s' hq=>?_)
  cases r with
  | error e=>exact hx pins σ H s e s' I hq
  | ok fl=>
    cases fl with
    | ret u=>exact I.after hq
    | next=>exact False.elim hq
    | brk=>exact False.elim hq
    | cont=>exact False.elim hq
theorem TV(F:FnOk X.prog X.w X.K X.mg X.base CX k f fd ps sp)(hr:Room k X.A)(hg:Gl X x)(hm:X.mg x=some (.ref f))(hk:PySem.W.keepIn X.K (.ref f)=true)(hb:Binds X.K fd ps ds)(hd:Vals dvs ds)(hx:M7 CX X E)
    (ha:PA X (e :: es) t) (hdb:(x == ("__debug__":Str))=false:=by decide) (he:starEach (e :: es) X.env=(false,eval e X.env) :: starEach es X.env:=by rfl) (hpl:(backTo pos (starEach es X.env)).any (·.1)=false:=by rfl) :
    PE X (.Call (.Name x p) (e :: es) [] pos) (HE sp dvs E t):=by
  intro pins s σ H Q I h
  refine wpAny_Call_Name_kw (Tg I hg hm ?_ hdb)
  refine PySem.W.callWith_K (h₀:=X.base) I.ok.mod.kin hk (thn (ha pos pins s σ H _ I h) λ us s1 ⟨vs,H1,I1,r,q⟩=>⟨I1.kIn,?_⟩) he hpl
  exact UM F hr hb hd hx I1 r q
end
section
variable{X:Cx}{CX:CXT}{k:Nat}{f C:Addr}{fd:FuncData}{ps ks:List Str}{sp:Sp}{E:XK}{x m:Str}{p pos apos kpos:Pos}{e o:Expr}{es:List Expr}{kws:List Keyword}{te ta:TE}{t tk:TA}{nm:Option Str}
variable{g:List Value->List Value->List Value}{gV:List V->List V->List V}
end
structure FnScope(N P:List Str)(sc:Scope):Prop where
  kind:sc.kind=.function
  co:sc.isCoroutine=false
  gen:sc.isGenerator=false
  nd:N.Nodup
  pre:N.take P.length=P
  par:∀ x ∈ P,sc.names.lookup x=some .local ∨ sc.names.lookup x=some .cell
  nofree:∀ y ∈ sc.names,y.2 ≠ .free
theorem Jz{kindOf:Str->Option NameKind}{x:Str}:∀ {binds:List (Str × Value)} {m:Str->Option Value},(∀ v,(x,v) ∉ binds)->bindL kindOf binds m x=m x
  | [],_,_=>rfl
  | (n,v) :: r,m,h=>by
    unfold bindL
    rw[Jz λ w hw=>h w (List.mem_cons_of_mem _ hw)]
    split
    . have:x ≠ n:=by rintro rfl;exact h v List.mem_cons_self
      simp[this]
    . rfl
theorem K1{kindOf:Str->Option NameKind}{x:Str}:∀ {binds:List (Str × Value)} {m:Str->Option Value},(∀ v,(x,v) ∉ binds)->bindC kindOf binds m x=m x
  | [],_,_=>rfl
  | (n,v) :: r,m,h=>by
    unfold bindC
    rw[K1 λ w hw=>h w (List.mem_cons_of_mem _ hw)]
    split
    . rfl
    . have:x ≠ n:=by rintro rfl;exact h v List.mem_cons_self
      simp[this]
theorem K0{kindOf:Str->Option NameKind}{x:Str}{v:Value}:∀ {P:List Str} {vs:List Value} {i:Nat} {m:Str->Option Value},P.Nodup->P[i]? = some x->vs[i]? = some v->kindOf x=some .local ->
    bindL kindOf (P.zip vs) m x=some v
  | [],_,_,_,_,h,_,_=>by simp at h
  | _ :: _,[],_,_,_,_,h,_=>by simp at h
  | p :: P,w :: vs,0,m,nd,h1,h2,hk=>by
    simp at h1 h2;subst h1;subst h2
    show bindL kindOf ((p,w) :: P.zip vs) m p=_
    unfold bindL
    rw[Jz λ v hv=>(List.nodup_cons.mp nd).1 (List.of_mem_zip hv).1,if_pos hk]
    simp
  | p :: P,w :: vs,i + 1,m,nd,h1,h2,hk=>by
    show bindL kindOf ((p,w) :: P.zip vs) m x=_
    unfold bindL
    exact K0 (i:=i) (List.nodup_cons.mp nd).2 (by simpa using h1) (by simpa using h2) hk
theorem K2{kindOf:Str->Option NameKind}{x:Str}{v:Value}:∀ {P:List Str} {vs:List Value} {i:Nat} {m:Str->Option Value},P.Nodup->P[i]? = some x->vs[i]? = some v->kindOf x ≠ some .local ->
    bindC kindOf (P.zip vs) m x=some v
  | [],_,_,_,_,h,_,_=>by simp at h
  | _ :: _,[],_,_,_,_,h,_=>by simp at h
  | p :: P,w :: vs,0,m,nd,h1,h2,hk=>by
    simp at h1 h2;subst h1;subst h2
    show bindC kindOf ((p,w) :: P.zip vs) m p=_
    unfold bindC
    rw[K1 λ v hv=>(List.nodup_cons.mp nd).1 (List.of_mem_zip hv).1,if_neg hk]
    simp
  | p :: P,w :: vs,i + 1,m,nd,h1,h2,hk=>by
    show bindC kindOf ((p,w) :: P.zip vs) m x=_
    unfold bindC
    exact K2 (i:=i) (List.nodup_cons.mp nd).2 (by simpa using h1) (by simpa using h2) hk
noncomputable def Dc(N:List Str)(vs:List V):St:=vs.map some ++ List.replicate (N.length - vs.length) none
noncomputable def Gn(CX:CXT)(P:Program)(w:World)(K:PySem.W.Frag)(mg:Str->Option Value)(base:Heap)(N:List Str)(qual:Str)(scope:Scope)(f:Addr)(cd:Value)(A:Around)(outer:List Env)(s:Shared)(H:Hp)(E:XK):Cx where
  prog:=P
  w:=w
  K:=K
  mg:=mg
  base:=base
  A:=A.deeper (envOfC qual scope s.heap.objs.size f cd)
  N:=N
  s₀:=s
  H₀:=H
  env:=envOfC qual scope s.heap.objs.size f cd
  outer:=outer
  stack:=envOfC qual scope s.heap.objs.size f cd :: outer
  ex:=[]
  calm:=true
  fn:=λ _=>true
  pn:=[]
  xe:=λ e s'=>wpAny (model P w) (A.deeper (envOfC qual scope s.heap.objs.size f cd)) (leaving (envOfC qual scope s.heap.objs.size f cd) e) (λ _ s''=>CX outer H s E e s'') (λ e' s''=>CX outer H s E e' s'') s'
theorem Ly{sc:Scope}{n:Nat}{x:Str}(h:sc.names.lookup x=some .cell):∃ c,(cellsFrom n sc.names []).lookup x=some c:=by
  have q:=PySem.W.cellsFrom_some sc.names n [] (.inl h)
  exact Option.isSome_iff_exists.mp q
theorem Oz{CX:CXT}{P:Program}{w:World}{K:PySem.W.Frag}{mg:Str->Option Value}{base:Heap}{N ps:List Str}{qual:Str}{scope:Scope}{f:Addr}{cd:Value}{A:Around}{outer:List Env}{s s1:Shared}{H:Hp}{E:XK}{us:List Value}{vs:List V}
    (S:FnScope N ps scope) (hd:A.handled=none) (e0:Env0 P w K mg base A outer s H) (hl:vs.length=ps.length) (r:Vals vs us)
    (x:InCallC s s.heap.objs.size (bindL (envOfC qual scope s.heap.objs.size f cd).kindOf (ps.zip us) λ _=>none) (cellsFrom (s.heap.objs.size + 1) scope.names []) (bindC (envOfC qual scope s.heap.objs.size f cd).kindOf (ps.zip us) λ _=>none) s1) :
    Inv (Gn CX P w K mg base N qual scope f cd A outer s H E) [] (Dc N vs) H s1:=by
  have hpl:ps.length <= N.length:=by have:=congrArg List.length S.pre;rw[List.length_take]at this;omega
  obtain⟨h1,tk,rfl,hk⟩:=x.done
  have noA:∀ b:Addr,b ∉ (Gn CX P w K mg base N qual scope f cd A outer s H E).ex:=λ b z=>absurd (show b ∈ ([]:List Addr)from z) (by simp)
  refine⟨⟨e0.mod,S.kind,rfl,rfl,Nat.le_refl _,λ y z c h1 h2=>?_,λ y hy=>?_,λ y c _ h=>?_,λ _=>hd,Around.frames_deeper e0.frames,.inr ⟨rfl,rfl⟩,λ b z=>absurd z (noA b),e0.bs,e0.bsz,λ b _ _=>noA b,λ b z=>absurd z (noA b),e0.funs,e0.frf⟩,
    rfl,e0.bare,Un.kept hk,⟨_,x.toInCall.ns,λ i y v h1 h2 h3=>?_⟩,λ y c h=>⟨_,x.cell y c h⟩,e0.hok.fresh (Nat.le_refl _),λ y c h=>?_,λ p hp=>absurd (show p ∈ ([]:List (Addr × Obj))from hp) (by simp),e0.hok.kept hk,?_⟩
  . exact name_of_addr x.apart (PySem.mem_of_lookup h1) (PySem.mem_of_lookup h2)
  . have hy:scope.names.lookup y=some .cell ∨ scope.names.lookup y=some .free:=hy
    rcases hy with hy|hy
    . exact Ly hy
    . exact absurd rfl (S.nofree _ (PySem.mem_of_lookup hy))
  . exact Nat.le_of_lt (x.above y c (PySem.mem_of_lookup h))
  . have hi:i < vs.length:=by
      unfold Dc at h2
      by_cases hi:i < vs.length
      . exact hi
      . rw[List.getElem?_append_right (by simpa using hi)]at h2
        rw[List.getElem?_replicate]at h2
        split at h2 <;> cases h2
    have ha:vs[i]? = some v:=by
      unfold Dc at h2
      rw[List.getElem?_append_left (by simpa using hi),List.getElem?_map]at h2
      cases e:vs[i]? with
      | none=>rw[e]at h2;cases h2
      | some a=>rw[e]at h2;cases h2;rfl
    obtain⟨u,hu,rv⟩:=r.get ha
    have hp:ps[i]? = some y:=by
      rw[<- S.pre,List.getElem?_take_of_lt (by omega)];exact h1
    have ndP:ps.Nodup:=by rw[<- S.pre];exact S.nd.sublist (List.take_sublist _ _)
    refine⟨u,rv,?_⟩
    rcases S.par y (List.mem_of_getElem? hp)with k|k
    . exact .inl ⟨k,K0 ndP hp hu k⟩
    . obtain⟨c,e⟩:=Ly (n:=s.heap.objs.size + 1) k
      refine .inr ⟨.inl k,c,e,?_⟩
      have q:=x.cell y c e
      rw[K2 ndP hp hu (by show scope.names.lookup y ≠ _;rw[k];decide)]at q
      exact q
  . exact e0.hok.fresh (Nat.le_of_lt (x.above y c (PySem.mem_of_lookup h)))
  . unfold Dc
    show _=N.length
    rw[List.length_append,List.length_map,List.length_replicate]
    omega
theorem SH{CX:CXT}{P:Program}{w:World}{K:PySem.W.Frag}{mg:Str->Option Value}{base:Heap}{k:Nat}{f:Addr}{name qual:Str}{params:Arguments}{body:List Stmt}{scope:Scope}{dV kV doc pm cdv ct oc:Value}{an od:Option Addr}
    {osl:Array (Option Value)} {N ps:List Str} {sp:Sp} (lk:K.lookup f=some ⟨oc,od,.func (PySem.W.fnOf name qual params body scope dV kV doc pm an cdv ct),osl⟩) (hcd:PySem.W.codeIn K cdv qual=true) (S:FnScope N ps scope)
    (len:∀ vs H Q E,sp vs H Q E->vs.length=ps.length)
    (hbody:∀ (A:Around) (outer:List Env) (s:Shared) (H:Hp) (vs:List V) (Q:VK) (E:XK),Room k (A.deeper (envOfC qual scope s.heap.objs.size f cdv))->sp vs H Q E ->
      ∃ t,PSs (Gn CX P w K mg base N qual scope f cdv A outer s H E) body t/\t { nx:=λ _ H'=>Q .non H',rt:=Q } (Dc N vs) H) :
    FnOk P w K mg base CX (k + 1) f (PySem.W.fnOf name qual params body scope dV kV doc pm an cdv ct) ps sp:=by
  refine⟨len,λ A outer s H args us vs Q E hr e0 hb r hsp=>?_⟩
  have hl:=len _ _ _ _ hsp
  have KX:K.In s.heap:=e0.mod.kin.keeps λ b o e=>(e0.bs b o e).1
  have lim:s.heap.NoLimit:=e0.mod.nolimit.keeps λ b o e=>(e0.bs b o e).1
  have hkind:∀ y ∈ ps.zip us,scope.names.lookup y.1=some .local ∨ (scope.names.lookup y.1=some .cell/\((cellsFrom (s.heap.objs.size + 1) scope.names []).lookup y.1).isSome=true):=λ⟨n,v⟩ hy=>by
    rcases S.par n (List.of_mem_zip hy).1 with q|q
    . exact .inl q
    . exact .inr ⟨q,PySem.W.cellsFrom_some _ _ _ (.inl q)⟩
  refine codeAny_call_function hr.depth (KX _ _ lk) rfl S.co S.gen rfl (PySem.W.codeRec_of KX hcd) (hb _ _ _ _ ?_)
  refine wpAny_newFunctionEnv_cells S.kind hkind λ env he s1 x=>?_
  subst he
  refine⟨lim.keeps x.toInCall.keep,codeAny_func ?_⟩
  obtain⟨t,ht,hq⟩:=hbody A outer s H vs Q E (hr.deeper _) hsp
  have I:Inv (Gn CX P w K mg base N qual scope f cdv A outer s H E) [] (Dc N vs) H s1:=Oz S hr.hd e0 hl r x
  refine wpAny_mono (ht [] s1 (Dc N vs) H _ I hq) (λ fl s' hs=>?_) λ e s' hs=>hs
  have fin:∀ {σ':St} {H':Hp} {v:V} {u:Value},Inv (Gn CX P w K mg base N qual scope f cdv A outer s H E) [] σ' H' s'->RelV v u->Q v H'->CE outer P w H s Q u s':=
    λ {σ' H' v u} J rv q=>⟨v,H',J.os,J.bare,J.base,J.hok,rv,q⟩
  cases fl with
  | ret u=>
    obtain⟨v,σ',H',J,rv,q⟩:=hs
    exact fin J rv q
  | next=>
    obtain⟨σ',H',J,q⟩:=hs
    exact fin (v:=V.non) (u:=Value.none) J rfl q
  | brk=>
    obtain⟨_,_,_,q⟩:=hs
    exact False.elim q
  | cont=>
    obtain⟨_,_,_,q⟩:=hs
    exact False.elim q
end L2
namespace L2
open PySem PySem.Spec PyProof.Rows
section
variable{X:Cx}{x:Str}{p pos:Pos}{e:Expr}{es:List Expr}{t:TA}{id T:String}{r:List V->Hp->VK->Prop}
noncomputable def tCB(r:List V->Hp->VK->Prop)(t:TA):TE:=λ σ H Q=>t σ H λ vs H1=>r vs H1 Q
theorem Hl(hc:CallR X (.builtin id) r)(hg:Gl X x)(hm:X.mg x=none)(hv:bootBuiltins x=some (.builtin id))(ha:PA X (e :: es) t)(hn:x ≠ "__name__":=by decide)(hdb:(x == ("__debug__":Str))=false:=by decide)
    (he:starEach (e :: es) X.env=(false,eval e X.env) :: starEach es X.env:=by rfl) (hpl:(backTo pos (starEach es X.env)).any (·.1)=false:=by rfl):PE X (.Call (.Name x p) (e :: es) [] pos) (tCB r t):=by
  intro pins s σ H Q I h
  refine wpAny_Call_Name_kw (Fo I hg hm hv ?_ hn hdb)
  exact PyProof.Rows.callWith_builtin1 (thn (ha pos pins s σ H _ I h) λ us s1 ⟨vs,H1,I1,r1,q1⟩=>hc pins s1 σ H1 vs us Q I1 r1 q1) he hpl
theorem DD(hc:CallR X (.type T) r)(hg:Gl X x)(hm:X.mg x=none)(hv:bootBuiltins x=some (.type T))(ha:PA X (e :: es) t)(hn:x ≠ "__name__":=by decide)(hdb:(x == ("__debug__":Str))=false:=by decide)
    (he:starEach (e :: es) X.env=(false,eval e X.env) :: starEach es X.env:=by rfl) (hpl:(backTo pos (starEach es X.env)).any (·.1)=false:=by rfl):PE X (.Call (.Name x p) (e :: es) [] pos) (tCB r t):=by
  intro pins s σ H Q I h
  refine wpAny_Call_Name_kw (Fo I hg hm hv ?_ hn hdb)
  exact PyProof.Rows.callWith_type1 (thn (ha pos pins s σ H _ I h) λ us s1 ⟨vs,H1,I1,r1,q1⟩=>hc pins s1 σ H1 vs us Q I1 r1 q1) he hpl
end
end L2
namespace HT
open PySem PyProof.Rows
section
open PySem.SeqAt
open PySem.AutoSeq1 (wpAny_loadPart')
open PySem.MeetsSeq PySem.MeetsSeq2 PySem.MeetsSeq3
end
section
variable{prog:Program}{w:World}{A:Around}{E:Value->Shared->Prop}{s:Shared}
theorem cat_tup{t b:Addr}{vs ws:List Value}{Q:Value->Shared->Prop}(ht:IsTup s.heap t vs.toArray)(hb:IsTup s.heap b ws.toArray)(hv:vs ≠ [])
    (h1:ws=[]->Q (.ref t) s) (h2:ws ≠ []->Q (.ref s.heap.objs.size) { s with heap:=s.heap.push { cls:=.type "tuple",data:=.seq (vs ++ ws).toArray } })
    (hsz:vs.length + ws.length <= sizeLine):wpAny (model prog w) A (binaryOp .Add (.ref t) (.ref b)) Q E s:=by
  obtain⟨⟨cls,dd,data,sl⟩,ho,hc,n,hd⟩:=id ht
  obtain⟨⟨cls2,dd2,data2,sl2⟩,ho2,hc2,n2,hd2⟩:=id hb
  simp only at hc hd hc2 hd2
  subst hc hd hc2 hd2
  have e:vs.toArray ++ ws.toArray=(vs ++ ws).toArray:=by simp
  by_cases hw:ws=[]
  . exact concat_meets ⟨_,ho,rfl⟩ ⟨_,ho2,rfl⟩ noFill_tuple_add seq_tuple_add PySem.F.slot_tuple_add PySem.F.entry_tuple_add (PySem.F.args_tuple_add_2 _ _)
      (tuple_addW1 t b vs.toArray ws.toArray n n2 dd dd2 sl sl2 (by simpa using hv) (by simp[hw])) ⟨ho,ho2,h1 hw⟩
  . refine concat_meets ⟨_,ho,rfl⟩ ⟨_,ho2,rfl⟩ noFill_tuple_add seq_tuple_add PySem.F.slot_tuple_add PySem.F.entry_tuple_add (PySem.F.args_tuple_add_2 _ _)
      (tuple_addW2 t b vs.toArray ws.toArray n n2 dd dd2 sl sl2 (by simpa using hv) (by simpa using hw) (by rw[List.size_toArray,List.size_toArray];exact hsz)) ⟨ho,ho2,?_⟩
    rw[e]
    exact h2 hw
noncomputable def sIx(n d:Nat):Option Int->Nat
  | none=>d
  | some v=>if v < 0 then(v + (n:Int)).toNat else min v.toNat n
theorem sIx_nat(n d k:Nat):sIx n d (some (k:Int))=min k n:=by
  show(if(k:Int) < 0 then((k:Int) + (n:Int)).toNat else min (k:Int).toNat n)=min k n
  rw[if_neg (by omega),Int.toNat_natCast]
end
end HT
namespace L2
open PySem PySem.Spec PyProof.Rows
noncomputable abbrev TO:=St->Hp->(Option Int->Hp->Prop)->Prop
noncomputable def PO(X:Cx)(e:Option Expr)(t:TO):Prop:=
  ∀ (pins:List (Addr × Obj)) (s:Shared) (σ:St) (H:Hp) (Q:Option Int->Hp->Prop),Inv X pins σ H s->t σ H Q ->
    wpAny (model X.prog X.w) X.A (evalPart e X.env) (λ u s'=>∃ o H',Inv X pins σ H' s'/\IsPart u o/\Q o H') X.xe s
noncomputable def JD:TO:=λ _ H Q=>Q none H
noncomputable def NE(t:TE):TO:=λ σ H Q=>t σ H λ x H1=>∃ i,x=.int i/\Q (some i) H1
section
variable{X:Cx}{e:Expr}{te:TE}{lo hi:Option Expr}{tl th:TO}{pos p2:Pos}
theorem TD:PO X none JD:=by
  intro pins s σ H Q I h
  rw[evalPart_none]
  exact wpAny_pure ⟨none,H,I,.none,h⟩
theorem TC(h:PE X e te):PO X (some e) (NE te):=by
  intro pins s σ H Q I hw
  rw[evalPart_some]
  refine thn (h pins s σ H _ I hw) λ u s1 ⟨x,H1,I1,r1,q1⟩=>?_
  obtain⟨i,rfl,q⟩:=q1
  obtain⟨t,rfl⟩:=r1
  exact⟨some i,H1,I1,.int i t,q⟩
noncomputable def SlR(X:Cx)(r:V->Option Int->Option Int->Hp->VK->Prop):Prop:=
  ∀ (pins:List (Addr × Obj)) (s:Shared) (σ:St) (H:Hp) (x:V) (v vl vu:Value) (lo hi:Option Int) (sl:Addr) (Q:VK),Inv X pins σ H s->RelV x v->s.heap.IsSliceOf sl vl vu .none->IsPart vl lo->IsPart vu hi->r x lo hi H Q ->
    ∃ T id,typeLookup (.type T) "__getitem__"=pure (some (.builtin id))/\s.TypeIs v T/\wpAny (model X.prog X.w) X.A (getItem v (.ref sl)) (EP X pins σ Q) X.xe s
noncomputable def tSl(r:V->Option Int->Option Int->Hp->VK->Prop)(te:TE)(tl th:TO):TE:=λ σ H Q=>te σ H λ x H1=>tl σ H1 λ l H2=>th σ H2 λ u H3=>r x l u H3 Q
theorem Qs{r:V->Option Int->Option Int->Hp->VK->Prop}(hr:SlR X r)(he:PE X e te)(hl:PO X lo tl)(hu:PO X hi th):PE X (.Subscript e (.Slice lo hi none p2) pos) (tSl r te tl th):=by
  intro pins s σ H Q I h
  refine Subscript_ (thn (he pins s σ H _ I h) λ v s1 ⟨x,H1,I1,r1,q1⟩=>?_)
  refine wpAny_Slice (thn (hl pins s1 σ H1 _ I1 q1) λ vl s2 ⟨l,H2,I2,pl,q2⟩=>thn (hu pins s2 σ H2 _ I2 q2) λ vu s3 ⟨u,H3,I3,pu,q3⟩=>?_)
  rw[evalPart_none]
  refine wpAny_pure ?_
  have I4:Inv X pins σ H3 { s3 with heap:=s3.heap.push { cls:=.type "slice",data:=.fields #[vl,vu,.none] } }:=I3.kept (t':=s3.toks) λ b ob q=>Heap.get?_push_of_some _ q
  obtain⟨T,id,hT,ht,hg⟩:=hr pins { s3 with heap:=s3.heap.push { cls:=.type "slice",data:=.fields #[vl,vu,.none] } } σ H3 x v vl vu l u s3.heap.objs.size Q I4 r1 (Heap.IsSliceOf.new ..) pl pu q3
  show wpAny (model X.prog X.w) X.A (subscriptTail e (.Slice lo hi none p2) v (.ref s3.heap.objs.size)) (EP X pins σ Q) X.xe { s3 with heap:=s3.heap.push { cls:=.type "slice",data:=.fields #[vl,vu,.none] } }
  exact tail_any (ops:=[.ref s3.heap.objs.size,v]) ht hT hg (by with_unfolding_all rfl)
noncomputable def Hv(xs:List V)(lo hi:Option Int):List V:=(xs.drop (HT.sIx xs.length 0 lo)).take (HT.sIx xs.length xs.length hi - HT.sIx xs.length 0 lo)
theorem MJ(xs:List V)(lo hi:Option Int):(Hv xs lo hi).length <= xs.length:=by
  unfold Hv
  rw[List.length_take,List.length_drop]
  omega
noncomputable def NT(K:PySem.W.Frag):R2:=λ x y H Q=>∃ a b xs ys,x=.ref a/\y=.ref b/\SqT K H a xs/\SqT K H b ys/\xs ≠ []/\xs.length + ys.length <= sizeLine /\
  (ys=[]->Q (.ref a) H)/\(ys ≠ []->∀ p,H p=none->Q (.ref p) (upd H p (.tup (xs ++ ys))))
theorem Vals.nil_iff{xs:List V}{us:List Value}(r:Vals xs us):us=[] ↔ xs=[]:=by
  cases r with
  | nil=>simp
  | cons _ _=>simp
theorem TX:OpR X (binaryOp .Add) (NT X.K):=by
  intro pins s σ H x y v u Q I rx ry h
  obtain⟨a,b,xs,ys,rfl,rfl,ha,hb,hx,hz,q1,q2⟩:=h
  cases rx
  cases ry
  obtain⟨its,r1,p1,_⟩:=I.tuple ha
  obtain⟨its2,r2,p2,_⟩:=I.tuple hb
  refine HT.cat_tup p1 p2 (λ z=>hx (r1.nil_iff.mp z)) (λ z=>⟨.ref a,H,I,rfl,q1 (r2.nil_iff.mp z)⟩) (λ z=>?_) (by rw[<- r1.length,<- r2.length];exact hz)
  refine⟨.ref s.heap.objs.size,_,I.laid (t':=s.toks) (o:=.tup (xs ++ ys)) (λ b ob q=>Heap.get?_push_of_some _ q) (Nat.le_refl _) ?_,rfl,q2 (λ w=>z (r2.nil_iff.mpr w)) _ (I.hok.fresh (Nat.le_refl _))⟩
  exact⟨by rw[List.length_append];exact hz,_,r1.append r2,IsTup.new _ _⟩
end
end L2
namespace L2
open PySem PySem.Spec PyProof.Rows
noncomputable def ixN(n:Nat)(i:Int):Option Nat:=if 0 <= i then(if i < n then some i.toNat else none)else if -(n:Int) <= i then some (i + n).toNat else none
noncomputable def atI{α:Type}(xs:List α)(i:Int):Option α:=(ixN xs.length i).bind λ j=>xs[j]?
theorem JU{n:Nat}{i:Int}{j:Nat}(h:ixN n i=some j):seqIndex? i n=some j/\j < n/\-(n:Int) <= i/\i < n:=by
  unfold ixN at h
  by_cases h0:0 <= i
  . rw[if_pos h0]at h
    by_cases h1:i < n
    . rw[if_pos h1]at h
      have e:i.toNat=j:=Option.some.inj h
      exact⟨by rw[seqIndex_of h0 h1,e],by omega,by omega,h1⟩
    . rw[if_neg h1]at h;cases h
  . rw[if_neg h0]at h
    by_cases h1:-(n:Int) <= i
    . rw[if_pos h1]at h
      have e:(i + n).toNat=j:=Option.some.inj h
      exact⟨by rw[seqIndex_neg (by omega) h1,e],by omega,h1,by omega⟩
    . rw[if_neg h1]at h;cases h
theorem N5{α:Type}{xs:List α}{i:Int}{v:α}(h:atI xs i=some v):∃ j,seqIndex? i xs.length=some j/\xs[j]? = some v/\j < xs.length/\-(xs.length:Int) <= i/\i < xs.length:=by
  unfold atI at h
  cases e:ixN xs.length i with
  | none=>rw[e]at h;cases h
  | some j=>
    rw[e]at h
    obtain⟨h1,h2,h3,h4⟩:=JU e
    exact⟨j,h1,h,h2,h3,h4⟩
theorem DO{α:Type}{xs:List α}{j:Nat}{v:α}(h:xs[j]? = some v):atI xs (j:Int)=some v:=by
  have hj:j < xs.length:=(List.getElem?_eq_some_iff.mp h).1
  have e:ixN xs.length (j:Int)=some j:=by
    unfold ixN
    rw[if_pos (by omega),if_pos (by omega)];simp
  unfold atI;rw[e];exact h
noncomputable def Jb(b:Expr):Prop:=∀ o i,subscripted b false o i=operate [o,i] (getItem o i)
noncomputable def IxR(X:Cx)(r:R2):Prop:=
  ∀ (value slice:Expr) (pins:List (Addr × Obj)) (s:Shared) (σ:St) (H:Hp) (x y:V) (v u:Value) (Q:VK),Inv X pins σ H s->RelV x v->RelV y u->r x y H Q ->
    subscripted slice false v u=operate [v,u] (getItem v u)->wpAny (model X.prog X.w) X.A (subscriptTail value slice v u) (EP X pins σ Q) X.xe s
noncomputable def MtR(X:Cx)(id:String)(r:V->List V->Hp->VK->Prop):Prop:=
  ∀ (pins:List (Addr × Obj)) (s:Shared) (σ:St) (H:Hp) (x:V) (xs:List V) (v:Value) (us:List Value) (Q:VK),Inv X pins σ H s->RelV x v->Vals xs us->r x xs H Q ->
    wpAny (model X.prog X.w) X.A (call (.builtin id) (v :: us)) (EP X pins σ Q) X.xe s
section
variable{X:Cx}{a b:Expr}{ta tb:TE}{pos:Pos}
theorem IxR.or{r r':R2}(h:IxR X r)(h':IxR X r'):IxR X (λ x y H Q=>r x y H Q ∨ r' x y H Q):=by
  intro value slice pins s σ H x y v u Q I rx ry q hs
  rcases q with q|q
  . exact h value slice pins s σ H x y v u Q I rx ry q hs
  . exact h' value slice pins s σ H x y v u Q I rx ry q hs
theorem S8{r:R2}(hr:IxR X r)(ha:PE X a ta)(hb:PE X b tb)(hs:Jb b):PE X (.Subscript a b pos) (tOp r ta tb):=by
  intro pins s σ H Q I h
  exact Subscript_ (Rm ha hb I h λ v u s2 x y H2 I2 rx ry q=>hr a b pins s2 σ H2 x y v u Q I2 rx ry q (hs _ _))
noncomputable def Qe(K:PySem.W.Frag):R2:=λ x y H Q=>∃ p xs i v,x=.ref p/\y=.int i/\SqL K H p xs/\atI xs i=some v/\Q v H
noncomputable def Qd(K:PySem.W.Frag):R2:=λ x y H Q=>∃ p xs i v,x=.ref p/\y=.int i/\SqT K H p xs/\atI xs i=some v/\Q v H
theorem Tk:IxR X (Qe X.K):=by
  intro value slice pins s σ H x y v u Q I rx ry h hs
  obtain⟨p,xs,i,z,rfl,rfl,hq,he,q⟩:=h
  cases rx
  obtain⟨t,rfl⟩:=ry
  obtain⟨its,r,pl,hz⟩:=I.list hq
  obtain⟨j,h1,h2,h3,h4,h5⟩:=N5 he
  obtain⟨w,ew,rw'⟩:=r.get h2
  have hl:=r.length
  have hn:=Fk
  have fin:EP X pins σ Q w s:=⟨z,H,I,rw',q⟩
  by_cases h0:0 <= i
  . have hj:i.toNat=j:=by
      rw[seqIndex_of h0 h5]at h1
      exact Option.some.inj h1
    exact item_listR pl.isList h0 (by omega) (by rw[hj];simpa using ew) fin hs
  . have hj:(i + (its.toArray.size:Int)).toNat=j:=by
      rw[seqIndex_neg (by omega) h4]at h1
      rw[List.size_toArray,<- hl]
      exact Option.some.inj h1
    exact subscriptTail_builtinR (x:=w) pl.isList.typeIs slot_list_getitem.lookup
      (wpAny_getItem_list_neg (Q:=λ r s'=>r=w/\EP X pins σ Q r s') pl.isList (by omega) (by rw[List.size_toArray] <;> omega) (by omega) (by rw[hj];simpa using ew) ⟨rfl,fin⟩) hs
theorem Vt:IxR X (Qd X.K):=by
  intro value slice pins s σ H x y v u Q I rx ry h hs
  obtain⟨p,xs,i,z,rfl,rfl,hq,he,q⟩:=h
  cases rx
  obtain⟨t,rfl⟩:=ry
  obtain⟨its,r,pl,hz⟩:=I.tuple hq
  obtain⟨j,h1,h2,h3,h4,h5⟩:=N5 he
  obtain⟨w,ew,rw'⟩:=r.get h2
  have hl:=r.length
  have hn:=Fk
  have fin:EP X pins σ Q w s:=⟨z,H,I,rw',q⟩
  exact subscriptTail_builtinR (x:=w) pl.typeIs slot_tuple_getitem.lookup
    (getItem_tuple (j:=j) (Q:=λ r s'=>r=w/\EP X pins σ Q r s') pl (by omega) (by omega) (by rw[List.size_toArray,<- hl];exact h1) (by simpa using ew) ⟨rfl,fin⟩) hs
theorem NY(its:List Value)(n j:Nat)(u:Value):Obj.mapSeq (·.setIfInBounds j u) { cls:=.type "list",data:=.seq its.toArray n }={ cls:=.type "list",data:=.seq (its.set j u).toArray n }:=by
  simp[Obj.mapSeq]
theorem Inv.lst{pins:List (Addr × Obj)}{σ:St}{H:Hp}{s:Shared}{p:Addr}{xs:List V}(I:Inv X pins σ H s)(h:H p=some (.lst xs)) :
    ∃ (its:List Value) (n:Nat),Vals xs its/\s.heap.get? p=some { cls:=.type "list",data:=.seq its.toArray n }/\xs.length <= sizeLine:=by
  obtain⟨z,its,n,r,e⟩:=I.hok p _ h
  exact⟨its,n,r,e,z⟩
theorem Inv.lstUpd{pins:List (Addr × Obj)}{σ:St}{H:Hp}{s:Shared}{p:Addr}{xs ys:List V}{its its':List Value}{n n':Nat}{f:Obj->Obj}(I:Inv X pins σ H s)(h:H p=some (.lst xs))
    (ho:s.heap.get? p=some { cls:=.type "list",data:=.seq its.toArray n }) (hf:f { cls:=.type "list",data:=.seq its.toArray n }={ cls:=.type "list",data:=.seq its'.toArray n' }) (r:Vals ys its') (hz:ys.length <= sizeLine) (t:Nat) :
    Inv X pins σ (upd H p (.lst ys)) { s with heap:=s.heap.update p f,toks:=t }:=by
  have e:(s.heap.update p f).get? p=some { cls:=.type "list",data:=.seq its'.toArray n' }:=by
    rw[Heap.get?_update_self f ho (by rw[hf] <;> rfl),hf]
  refine I.write (x:=p) (e:=p) (by rw[h];trivial) (.inl rfl) (λ b u hb q=>(Heap.get?_update_other _ _ (Ne.symm hb)).trans q) ⟨_,e⟩ ?_
  exact⟨hz,its',n',r,e⟩
noncomputable def NS:V->V->V->Hp->(Hp->Prop)->Prop:=λ o i v H Q=>∃ p xs k j,o=.ref p/\i=.int k/\H p=some (.lst xs)/\ixN xs.length k=some j/\Q (upd H p (.lst (xs.set j v)))
theorem Q8:WC X NS:=by
  intro pins s σ H o i v ov iv u Q I ro ri rv h
  obtain⟨p,xs,k,j,rfl,rfl,hp,hj,q⟩:=h
  cases ro
  obtain⟨t,rfl⟩:=ri
  obtain⟨its,n,r,ho,hz⟩:=I.lst hp
  obtain⟨h1,h2,h3,h4⟩:=JU hj
  have hl:=r.length
  have hn:=Fk
  have I':Inv X pins σ (upd H p (.lst (xs.set j v))) { s with heap:=s.heap.update p (Obj.mapSeq (·.setIfInBounds j u)) }:=
    I.lstUpd hp ho (NY its n j u) (r.set rv j) (by rw[List.length_set];exact hz) s.toks
  by_cases h0:0 <= k
  . have hk:k.toNat=j:=by
      rw[seqIndex_of h0 h4]at h1
      exact Option.some.inj h1
    exact PySem.W.ki_setAt ho h0 (by omega) (by rw[List.size_toArray,<- hl];exact h4) (by rw[hk];exact⟨_,I',q⟩)
  . have hk:(k + (its.toArray.size:Int)).toNat=j:=by
      rw[seqIndex_neg (by omega) h3]at h1
      rw[List.size_toArray,<- hl]
      exact Option.some.inj h1
    exact PySem.W.ki_setBack ho (by omega) (by rw[List.size_toArray,<- hl];exact h3) (by omega) (by rw[hk];exact⟨_,I',q⟩)
theorem Ks(lo hi:Option Int)(n:Nat):(sliceBounds lo hi none n).1=((HT.sIx n 0 lo:Nat):Int)/\(sliceBounds lo hi none n).2.1=((HT.sIx n n hi:Nat):Int)/\(sliceBounds lo hi none n).2.2=1:=by
  refine⟨?_,?_,rfl⟩
  . cases lo with
    | none=>simp[sliceBounds,HT.sIx]
    | some i=>
      simp only[sliceBounds,HT.sIx,Option.getD_none,show(1:Int) > 0 by decide,if_true]
      by_cases h:i < 0
      . simp only[h,if_true] <;> omega
      . simp only[h,if_false] <;> omega
  . cases hi with
    | none=>simp[sliceBounds,HT.sIx]
    | some i=>
      simp only[sliceBounds,HT.sIx,Option.getD_none,show(1:Int) > 0 by decide,if_true]
      by_cases h:i < 0
      . simp only[h,if_true] <;> omega
      . simp only[h,if_false] <;> omega
theorem K3(its:List Value)(lo hi:Option Int):slicePick its.toArray lo hi none=((its.drop (HT.sIx its.length 0 lo)).take (HT.sIx its.length its.length hi - HT.sIx its.length 0 lo)).toArray:=by
  obtain⟨h1,h2,h3⟩:=Ks lo hi its.toArray.size
  unfold slicePick
  rw[h1,h2,h3]
  simp only[sliceRange_one,pick_run,List.size_toArray] <;> rfl
noncomputable def NR(K:PySem.W.Frag):V->Option Int->Option Int->Hp->VK->Prop:=λ x lo hi H Q=>∃ a xs,x=.ref a/\SqL K H a xs/\∀ p,H p=none->Q (.ref p) (upd H p (.lst (Hv xs lo hi)))
theorem Sc:SlR X (NR X.K):=by
  intro pins s σ H x v vl vu lo hi sl Q I rx hs pl pu h
  obtain⟨a,xs,rfl,hx,q⟩:=h
  cases rx
  obtain⟨its,r,ht,hz⟩:=I.list hx
  have hlen:=r.length
  refine⟨"list",_,slot_list_getitem.lookup,ht.isList.typeIs,?_⟩
  refine wpAny_getItem_list_slice ht.isList hs pl pu .none (by simp) ?_ (by rw[List.size_toArray] <;> omega)
  rw[K3,<- hlen]
  refine⟨.ref s.heap.objs.size,_,I.laid (t':=s.toks) (o:=.lst (Hv xs lo hi)) (λ b ob q=>Heap.get?_push_of_some _ q) (Nat.le_refl _) ?_,rfl,q _ (I.hok.fresh (Nat.le_refl _))⟩
  exact⟨Nat.le_trans (MJ xs lo hi) hz,_,0,(r.drop (HT.sIx xs.length 0 lo)).take (HT.sIx xs.length xs.length hi - HT.sIx xs.length 0 lo),Heap.get?_push_size _ rfl⟩
noncomputable def EH:V->Bool
  | .non=>true
  | .bl _=>true
  | .int _=>true
  | .str _=>true
  | _=>false
noncomputable def eqV:V->V->Bool
  | .non,.non=>true
  | .bl a,.bl b=>a == b
  | .bl a,.int b=>(if a then 1 else 0) == b
  | .int a,.bl b=>a == (if b then 1 else 0)
  | .int a,.int b=>a == b
  | .str a,.str b=>a == b
  | _,_=>false
theorem W8{A:Around}{s:Shared}{y x:V}{u v:Value}(ry:RelV y u)(rx:RelV x v)(fy:EH y=true)(fx:EH x=true):SeqAt.EqAt A s u v (eqV y x):=by
  cases y with
  | non=>
    cases ry
    cases x with
    | non=>cases rx;exact SeqAt.EqAt.same _
    | bl b=>cases rx;exact SeqAt.EqAt.none_bool b
    | int b=>obtain⟨t,rfl⟩:=rx;exact SeqAt.EqAt.none_int b t
    | str b=>obtain⟨t,rfl⟩:=rx;exact SeqAt.EqAt.none_str b t
    | _=>exact absurd (show false=true from fx) Bool.false_ne_true
  | bl a=>
    cases ry
    cases x with
    | non=>cases rx;exact SeqAt.EqAt.bool_none a
    | bl b=>cases rx;exact SeqAt.EqAt.bool_bool a b
    | int b=>obtain⟨t,rfl⟩:=rx;exact SeqAt.EqAt.bool_int a b t
    | str b=>obtain⟨t,rfl⟩:=rx;exact SeqAt.EqAt.bool_str a b t
    | _=>exact absurd (show false=true from fx) Bool.false_ne_true
  | int a=>
    obtain⟨t',rfl⟩:=ry
    cases x with
    | non=>cases rx;exact SeqAt.EqAt.int_none a t'
    | bl b=>cases rx;exact SeqAt.EqAt.int_bool a t' b
    | int b=>obtain⟨t,rfl⟩:=rx;exact SeqAt.EqAt.int_int a t' b t
    | str b=>obtain⟨t,rfl⟩:=rx;exact SeqAt.EqAt.int_str a t' b t
    | _=>exact absurd (show false=true from fx) Bool.false_ne_true
  | str a=>
    obtain⟨t',rfl⟩:=ry
    cases x with
    | non=>cases rx;exact SeqAt.EqAt.str_none a t'
    | bl b=>cases rx;exact SeqAt.EqAt.str_bool a t' b
    | int b=>obtain⟨t,rfl⟩:=rx;exact SeqAt.EqAt.str_int a t' b t
    | str b=>obtain⟨t,rfl⟩:=rx;exact SeqAt.EqAt.str_str a t' b t
    | _=>exact absurd (show false=true from fx) Bool.false_ne_true
  | _=>exact absurd (show false=true from fy) Bool.false_ne_true
noncomputable def eqU(x:V)(u:Value):Bool:=match u with
  | .none=>eqV .non x
  | .bool b=>eqV (.bl b) x
  | .int i _=>eqV (.int i) x
  | .str z _=>eqV (.str z) x
  | _=>false
theorem P9{x y:V}{u:Value}(r:RelV y u)(f:EH y=true):eqU x u=eqV y x:=by
  cases y with
  | non=>cases r;rfl
  | bl b=>cases r;rfl
  | int i=>obtain⟨t,rfl⟩:=r;rfl
  | str z=>obtain⟨t,rfl⟩:=r;rfl
  | _=>exact absurd (show false=true from f) Bool.false_ne_true
theorem Fz{x:V}:∀ {xs:List V} {us:List Value},Vals xs us->xs.all EH=true->us.any (eqU x)=xs.any λ y=>eqV y x
  | _,_,.nil,_=>rfl
  | y :: xs,u :: us,.cons r t,f=>by
    rw[List.all_cons,Bool.and_eq_true]at f
    rw[List.any_cons,List.any_cons,P9 r f.1,Fz t f.2]
theorem Ez{A:Around}{s:Shared}{x:V}{v:Value}(rx:RelV x v)(fx:EH x=true):∀ {xs:List V} {us:List Value},Vals xs us->xs.all EH=true->∀ u ∈ us,SeqAt.EqAt A s u v (eqU x u)
  | _,_,.nil,_=>λ u hu=>by cases hu
  | y :: xs,u :: us,.cons r t,f=>λ u' hu=>by
    rw[List.all_cons,Bool.and_eq_true]at f
    rcases List.mem_cons.mp hu with rfl|hu
    . rw[P9 r f.1];exact W8 r rx f.1 fx
    . exact Ez rx fx t f.2 u' hu
noncomputable def inV(x:V)(xs:List V):Bool:=xs.any λ y=>eqV y x
noncomputable def rIn(K:PySem.W.Frag)(neg:Bool):R2:=λ x y H Q=>∃ p xs,y=.ref p/\(SqL K H p xs ∨ SqT K H p xs)/\EH x=true/\xs.all EH=true/\Q (.bl (if neg then !inV x xs else inV x xs)) H
theorem Oj:OpR X (compareOp .In) (rIn X.K false):=by
  intro pins s σ H x y v u Q I rx ry h
  obtain⟨p,xs,rfl,hq,fx,fs,q⟩:=h
  cases ry
  rcases hq with hq|hq
  . obtain⟨its,r,pl,hz⟩:=I.list hq
    refine SeqAt.in_listAt (eqU x) pl.isList (λ w hw=>Ez rx fx r fs w (by simpa using hw)) ⟨.bl _,H,I,rfl,?_⟩
    rw[show its.toArray.any (eqU x)=its.any (eqU x) by simp,Fz r fs]
    exact q
  . obtain⟨its,r,pl,hz⟩:=I.tuple hq
    refine SeqAt.in_tupleAt (eqU x) pl (λ w hw=>Ez rx fx r fs w (by simpa using hw)) ⟨.bl _,H,I,rfl,?_⟩
    rw[show its.toArray.any (eqU x)=its.any (eqU x) by simp,Fz r fs]
    exact q
theorem LK:OpR X (compareOp .NotIn) (rIn X.K true):=by
  intro pins s σ H x y v u Q I rx ry h
  obtain⟨p,xs,rfl,hq,fx,fs,q⟩:=h
  cases ry
  rcases hq with hq|hq
  . obtain⟨its,r,pl,hz⟩:=I.list hq
    refine SeqAt.notIn_listAt (eqU x) pl.isList (λ w hw=>Ez rx fx r fs w (by simpa using hw)) ⟨.bl _,H,I,rfl,?_⟩
    rw[show its.toArray.any (eqU x)=its.any (eqU x) by simp,Fz r fs]
    exact q
  . obtain⟨its,r,pl,hz⟩:=I.tuple hq
    refine SeqAt.notIn_tupleAt (eqU x) pl (λ w hw=>Ez rx fx r fs w (by simpa using hw)) ⟨.bl _,H,I,rfl,?_⟩
    rw[show its.toArray.any (eqU x)=its.any (eqU x) by simp,Fz r fs]
    exact q
theorem M1:CallR X (.builtin "len") (λ xs H Q=>∃ p ys,xs=[.ref p]/\(SqL X.K H p ys ∨ SqT X.K H p ys)/\Q (.int ys.length) H):=by
  intro pins s σ H xs us Q I r h
  obtain⟨p,ys,rfl,hq,q⟩:=h
  obtain⟨u,rfl,rx⟩:=Bp r
  cases rx
  have hn:=Fk
  rcases hq with hq|hq
  . obtain⟨its,r',pl,hz⟩:=I.list hq
    have hlen:=r'.length
    exact Calls.call_len_list pl.isList (by simp only[List.size_toArray] <;> omega) ⟨.int ys.length,H,I.tok _,⟨s.toks + 1,by rw[List.size_toArray,hlen]⟩,q⟩
  . obtain⟨its,r',pl,hz⟩:=I.tuple hq
    have hlen:=r'.length
    exact len_tuple pl (by simp only[List.size_toArray] <;> omega) ⟨.int ys.length,H,I.tok _,⟨s.toks + 1,by rw[List.size_toArray,hlen]⟩,q⟩
theorem CallR.or{f:Value}{r r':List V->Hp->VK->Prop}(h:CallR X f r)(h':CallR X f r'):CallR X f (λ xs H Q=>r xs H Q ∨ r' xs H Q):=by
  intro pins s σ H xs us Q I rs q
  rcases q with q|q
  . exact h pins s σ H xs us Q I rs q
  . exact h' pins s σ H xs us Q I rs q
theorem M0:CallR X (.type "list") (λ xs H Q=>∃ p ys,xs=[.ref p]/\(SqL X.K H p ys ∨ SqT X.K H p ys)/\∀ l,H l=none->Q (.ref l) (upd H l (.lst ys))):=by
  intro pins s σ H xs us Q I r h
  obtain⟨p,ys,rfl,hq,q⟩:=h
  obtain⟨u,rfl,rx⟩:=Bp r
  cases rx
  have fin:∀ (its:List Value),Vals ys its->ys.length <= sizeLine->∀ (h':Heap) (c':Nat),(∀ b o',s.heap.get? b=some o'->h'.get? b=some o') ->
      h'.get? s.heap.objs.size=some { cls:=.type "list",dict:=none,data:=.seq its.toArray c',slots:=#[] }->EP X pins σ Q (.ref s.heap.objs.size) { s with heap:=h' }:=λ its r' hz h' c' kp e=>
    ⟨.ref s.heap.objs.size,_,I.laid (t':=s.toks) kp (Nat.le_refl _) (show ObjOk X.prog X.w _ h' _ (.lst ys)from⟨hz,its,c',r',e⟩),rfl,q _ (I.hok.fresh (Nat.le_refl _))⟩
  rcases hq with hq|hq
  . obtain⟨its,r',pl,hz⟩:=I.list hq
    have hlen:=r'.length
    obtain⟨o,ho,hc,n,hd⟩:=pl.isList
    exact call_list_seq p (.inl rfl) ho hc hd (λ h' c' kp e=>fin its r' hz h' c' kp e) (by simp only[List.size_toArray] <;> omega)
  . obtain⟨its,r',pl,hz⟩:=I.tuple hq
    have hlen:=r'.length
    obtain⟨o,ho,hc,n,hd⟩:=pl
    exact call_list_seq p (.inr rfl) ho hc hd (λ h' c' kp e=>fin its r' hz h' c' kp e) (by simp only[List.size_toArray] <;> omega)
theorem K6:CallR X (.type "tuple") (λ xs H Q=>∃ p ys,xs=[.ref p]/\((SqL X.K H p ys/\∀ l,H l=none->Q (.ref l) (upd H l (.tup ys))) ∨ (SqT X.K H p ys/\Q (.ref p) H))):=by
  intro pins s σ H xs us Q I r h
  obtain⟨p,ys,rfl,h⟩:=h
  obtain⟨u,rfl,rx⟩:=Bp r
  cases rx
  rcases h with⟨hq,q⟩|⟨hq,q⟩
  . obtain⟨its,r',pl,hz⟩:=I.list hq
    have hlen:=r'.length
    refine call_tuple_list pl.isList (λ h' kp=>?_) (by simp only[List.size_toArray] <;> omega)
    have I1:Inv X pins σ H { s with heap:=h' }:=I.kept (t':=s.toks) kp
    have I2:Inv X pins σ (upd H h'.objs.size (.tup ys)) { s with heap:=h'.push { cls:=.type "tuple",data:=.seq its.toArray } }:=
      I1.laid (t':=s.toks) (λ b o e=>Heap.get?_push_of_some _ e) (Nat.le_refl _) (show ObjOk X.prog X.w _ _ _ (.tup ys)from⟨hz,its,r',IsTup.new _ _⟩)
    exact⟨.ref h'.objs.size,_,I2,rfl,q _ (I1.hok.fresh (Nat.le_refl _))⟩
  . obtain⟨its,r',pl,hz⟩:=I.tuple hq
    exact call_tuple_same pl ⟨.ref p,H,I,rfl,q⟩
noncomputable def tyV(K:PySem.W.Frag)(T:String)(x:V)(H:Hp):Prop:=match x with
  | .str _=>T="str"
  | .int _=>T="int"
  | .ref p=>(T="list"/\∃ xs,SqL K H p xs) ∨ (T="tuple"/\∃ o,K.lookup p=some o/\o.cls=.type "tuple"/\o.dict=none) ∨
      (T="dict"/\((∃ kvs,H p=some (.dK kvs)) ∨ ∃ kvs,H p=some (.dT kvs))) ∨ (T="set"/\∃ S n,H p=some (.set S n))
  | _=>False
theorem OF{pins:List (Addr × Obj)}{σ:St}{H:Hp}{s:Shared}{T:String}{x:V}{v:Value}(I:Inv X pins σ H s)(r:RelV x v)(ty:tyV X.K T x H) :
    s.TypeIs v T/\∀ a,v=.ref a->∃ ob,s.heap.get? a=some ob/\ob.dict=none:=by
  cases x with
  | str z=>
    obtain⟨t,rfl⟩:=r
    cases(show T="str" from ty)
    exact⟨typeIs_str s z t,λ _ e=>nomatch e⟩
  | int i=>
    obtain⟨t,rfl⟩:=r
    cases(show T="int" from ty)
    exact⟨typeIs_int s i t,λ _ e=>nomatch e⟩
  | ref p=>
    cases r
    rcases ty with⟨rfl,xs,hq⟩|⟨rfl,o,hk,hc,hd⟩|⟨rfl,hk⟩|⟨rfl,S,n,hk⟩
    . obtain⟨its,_,pl,_⟩:=I.list hq
      refine⟨pl.isList.typeIs,λ a e=>?_⟩
      cases e
      obtain⟨o,n,e,c,hd,_⟩:=pl
      exact⟨o,e,hd⟩
    . refine⟨⟨o,I.kIn p o hk,hc⟩,λ a e=>?_⟩
      cases e
      exact⟨o,I.kIn _ o hk,hd⟩
    . have z:∃ o,s.heap.get? p=some o/\o.ExactDict:=by
        rcases hk with⟨kvs,hk⟩|⟨kvs,hk⟩
        . obtain⟨_,_,_,_,o,_,_,e,ex,_⟩:=I.hok p _ hk
          exact⟨o,e,ex⟩
        . obtain⟨_,_,_,_,o,_,_,e,ex,_⟩:=I.hok p _ hk
          exact⟨o,e,ex⟩
      obtain⟨o,e,ex⟩:=z
      refine⟨⟨o,e,ex.1⟩,λ a e2=>?_⟩
      cases e2
      exact⟨o,e,ex.2.1⟩
    . obtain⟨o,_,_,_,e,ex,_⟩:=I.hok p _ hk
      refine⟨⟨o,e,ex.1⟩,λ a e2=>?_⟩
      cases e2
      exact⟨o,e,ex.2.1⟩
  | _=>exact False.elim ty
noncomputable def Q3(K:PySem.W.Frag)(T:String)(r:V->List V->Hp->VK->Prop)(to:TE):TE:=λ σ H Q=>to σ H λ x H1=>tyV K T x H1/\r x [] H1 Q
noncomputable def tBM(K:PySem.W.Frag)(T:String)(r:V->List V->Hp->VK->Prop)(to:TE)(t:TA):TE:=λ σ H Q=>to σ H λ x H1=>tyV K T x H1/\t σ H1 λ xs H2=>r x xs H2 Q
variable{o e:Expr}{es:List Expr}{to:TE}{t:TA}{name:Str}{apos cpos:Pos}{T id:String}{r:V->List V->Hp->VK->Prop}
theorem VW(pa:PlainAttrs T)(slot:Slot T name id)(hty:typeOf (.builtin id)=pure (.type "method_descriptor"))(hm:MtR X id r)(ho:PE X o to)
    (hbase:attributeBase o name X.env (eval o X.env)=eval o X.env:=by rfl) (hline:(apos.endLine == cpos.line)=true:=by rfl):PE X (.Call (.Attribute o name apos) [] [] cpos) (Q3 X.K T r to):=by
  intro pins s σ H Q I h
  refine wpAny_Call_method0_late hbase hline (thn (ho pins s σ H _ I h) λ v s1 ⟨x,H1,I1,r1,ty,q1⟩=>?_)
  obtain⟨h1,h2⟩:=OF I1 r1 ty
  exact⟨T,id,pa,slot,hty,h1,h2,Calls.callWith_builtin rfl (PySem.evalArgs_none (hm pins s1 σ H1 x [] v [] Q I1 r1 .nil q1))⟩
theorem Wl(pa:PlainAttrs T)(slot:Slot T name id)(hty:typeOf (.builtin id)=pure (.type "method_descriptor"))(hm:MtR X id r)(ho:PE X o to)(ha:PA X (e :: es) t)
    (hbase:attributeBase o name X.env (eval o X.env)=eval o X.env:=by rfl)
    (hfew:((backTo cpos (starEach (e :: es) X.env)).all (λ x=>!x.1) && (backToKw cpos (keywordEach [] X.env)).all (λ x=>x.1.isSome)
      && decide ((e :: es).length + ([]:List Keyword).length + (if([]:List Keyword).isEmpty then 0 else 1) < 30))=true:=by rfl)
    (hline:(apos.endLine == cpos.line)=true:=by rfl) (hs:starEach (e :: es) X.env=(false,eval e X.env) :: starEach es X.env:=by rfl) (hplain:(backTo cpos (starEach es X.env)).any (·.1)=false:=by rfl) :
    PE X (.Call (.Attribute o name apos) (e :: es) [] cpos) (tBM X.K T r to t):=by
  intro pins s σ H Q I h
  refine wpAny_Call_method_late hbase hfew hline rfl (thn (ho pins s σ H _ I h) λ v s1 ⟨x,H1,I1,r1,ty,q1⟩=>?_)
  obtain⟨h1,h2⟩:=OF I1 r1 ty
  refine⟨T,id,pa,slot,hty,h1,h2,?_⟩
  have hA:=ha cpos pins s1 σ H1 _ I1 q1
  rw[hs]at hA ⊢
  refine Calls.callWith_builtin (by show(false || (backTo cpos (starEach es X.env)).any (·.1))=false;rw[hplain] <;> rfl) (Calls.evalArgs_plain ?_)
  exact thn hA λ us s2 ⟨vs,H2,I2,r2,q2⟩=>hm pins s2 σ H2 x vs v us Q I2 r1 r2 q2
end
end L2
namespace L2
open PySem PySem.Spec PyProof.Rows
noncomputable def MtM(X:Cx)(id:String)(r:V->List V->Hp->VK->Prop):Prop:=
  ∀ (pins:List (Addr × Obj)) (s:Shared) (σ:St) (H:Hp) (x:V) (xs:List V) (v:Value) (us:List Value) (Q:VK),Inv X pins σ H s->RelV x v->Vals xs us->r x xs H Q ->
    wpAny (model X.prog X.w) X.A (call (.builtin id) (v :: us)) (EP X pins σ Q) X.xe s
theorem Vals.one:∀ {x:V} {us:List Value},Vals [x] us->∃ u,us=[u]/\RelV x u
  | _,_,.cons r .nil=>⟨_,rfl,r⟩
theorem Vals.zero:∀ {us:List Value},Vals [] us->us=[]
  | _,.nil=>rfl
theorem Vals.dropLast{xs:List V}{us:List Value}(h:Vals xs us):Vals xs.dropLast us.dropLast:=by
  induction h with
  | nil=>exact .nil
  | cons r t ih=>
    cases t with
    | nil=>exact .nil
    | cons q t'=>exact .cons r ih
theorem Vals.eraseIdx:∀ {xs:List V} {us:List Value} (i:Nat),Vals xs us->Vals (xs.eraseIdx i) (us.eraseIdx i)
  | _,_,_,.nil=>.nil
  | _,_,0,.cons _ t=>t
  | _,_,i + 1,.cons r t=>.cons r (Vals.eraseIdx i t)
theorem Vals.rep{xs:List V}{us:List Value}(h:Vals xs us):∀ k:Nat,Vals (List.replicate k xs).flatten (List.replicate k us).flatten
  | 0=>.nil
  | k + 1=>by
    rw[List.replicate_succ,List.replicate_succ,List.flatten_cons,List.flatten_cons]
    exact Vals.append h (Vals.rep h k)
theorem No{α:Type}(l:List α):l.eraseIdx (l.length - 1)=l.dropLast:=by
  induction l with
  | nil=>rfl
  | cons a r ih=>
    cases r with
    | nil=>rfl
    | cons b r=>
      have e:(a :: b :: r).length - 1=((b :: r).length - 1) + 1:=by
        have h1:(a :: b :: r).length=r.length + 2:=rfl
        have h2:(b :: r).length=r.length + 1:=rfl
        omega
      rw[e,List.eraseIdx_cons_succ,ih]
      all_goals rfl
theorem Jn{α:Type}:∀ (l:List α) (i:Nat),(l.eraseIdx i).length <= l.length
  | [],_=>Nat.le_refl _
  | _ :: _,0=>Nat.le_succ _
  | _ :: r,i + 1=>Nat.succ_le_succ (Jn r i)
theorem Jq(its:List Value):∀ (k:Nat) (acc:List Value),
    List.foldl (λ x1 x2=>x1 ++ x2) acc.toArray (List.replicate k its.toArray)=(acc ++ (List.replicate k its).flatten).toArray
  | 0,acc=>by simp
  | k + 1,acc=>by
    have e:acc.toArray ++ its.toArray=(acc ++ its).toArray:=by simp
    have e2:(acc ++ its) ++ (List.replicate k its).flatten=acc ++ (List.replicate (k + 1) its).flatten:=by
      rw[List.replicate_succ,List.flatten_cons,List.append_assoc]
    rw[<- e2,<- Jq its k (acc ++ its),<- e,List.replicate_succ,List.foldl_cons]
section
variable{X:Cx}{pins:List (Addr × Obj)}{σ:St}{H:Hp}{s:Shared}{l b:Addr}{xs ys zs:List V}
theorem Inv.lset{its its':List Value}{n:Nat}{f:Array Value->Array Value}{t':Nat}(I:Inv X pins σ H s)(hH:H l=some (.lst xs))
    (e:s.heap.get? l=some { cls:=.type "list",data:=.seq its.toArray n }) (hf:f its.toArray=its'.toArray) (hv:Vals ys its') (hz:ys.length <= sizeLine) :
    Inv X pins σ (upd H l (.lst ys)) { s with heap:=s.heap.update l (Obj.mapSeq f),toks:=t' }:=by
  have q:=PySem.IsL.update e f
  rw[hf]at q
  refine I.write (x:=l) (e:=l) (by rw[hH];exact trivial) (.inl rfl) (λ b' u hb hu=>(Heap.get?_update_other s.heap (Obj.mapSeq f) (Ne.symm hb)).trans hu) ⟨_,q⟩ ?_
  exact⟨hz,its',_,hv,q⟩
theorem Inv.lnew{its:List Value}{t':Nat}(I:Inv X pins σ H s)(hv:Vals ys its)(hz:ys.length <= sizeLine) :
    Inv X pins σ (upd H s.heap.objs.size (.lst ys)) { s with heap:=s.heap.push { cls:=.type "list",data:=.seq its.toArray },toks:=t' }:=
  I.laid (λ _ _ q=>Heap.get?_push_of_some _ q) (Nat.le_refl _) ⟨hz,its,0,hv,Heap.get?_push_size _ rfl⟩
theorem Inv.fresh(I:Inv X pins σ H s):H s.heap.objs.size=none:=I.hok.fresh (Nat.le_refl _)
theorem Inv.lstM(I:Inv X pins σ H s)(hH:H l=some (.lst xs)):xs.length <= sizeLine/\∃ (its:List Value) (n:Nat),Vals xs its/\xs.length=its.length/\s.heap.get? l=some { cls:=.type "list",data:=.seq its.toArray n }:=by
  obtain⟨z,its,n,r,e⟩:=I.hok l _ hH
  exact⟨z,its,n,r,r.length,e⟩
theorem GE{n:Nat}(h:n <= sizeLine):Builtin.List.listTooLong n=false:=by
  unfold Builtin.List.listTooLong
  exact decide_eq_false (by omega)
end
section
variable{X:Cx}
noncomputable def Mf:V->List V->Hp->VK->Prop:=λ x vs H Q=>∃ l xs y,x=.ref l/\vs=[y]/\H l=some (.lst xs)/\xs.length < sizeLine/\Q .non (upd H l (.lst (xs ++ [y])))
theorem CH:MtM X "list.append" Mf:=by
  intro pins s σ H x vs v us Q I rx rv h
  obtain⟨l,xs,y,rfl,rfl,hH,hz,q⟩:=h
  cases rx
  obtain⟨u,rfl,ru⟩:=rv.one
  obtain⟨z,its,n,r,hl,e⟩:=I.lstM hH
  refine call_meets F.slot_list_append ⟨_,e,rfl⟩ F.entry_list_append (F.args_list_append_2 _ _) (PySem.list_append l its.toArray n u (by rw[List.size_toArray];omega)) ⟨e,?_⟩
  refine⟨.non,_,I.lset (its':=its ++ [u]) hH e (by simp) (r.append (.cons ru .nil)) ?_,rfl,q⟩
  rw[List.length_append,List.length_singleton]
  omega
noncomputable def Sz:V->List V->Hp->VK->Prop:=λ x vs H Q=>∃ l b xs zs,x=.ref l/\vs=[.ref b]/\H l=some (.lst xs)/\H b=some (.lst zs)/\xs.length + zs.length <= sizeLine/\Q .non (upd H l (.lst (xs ++ zs)))
theorem XB:MtM X "list.extend" Sz:=by
  intro pins s σ H x vs v us Q I rx rv h
  obtain⟨l,b,xs,zs,rfl,rfl,hH,hB,hz,q⟩:=h
  cases rx
  obtain⟨u,rfl,ru⟩:=rv.one
  cases ru
  obtain⟨z,its,n,r,hl,e⟩:=I.lstM hH
  obtain⟨z2,its2,n2,r2,hl2,e2⟩:=I.lstM hB
  have hsz:its.toArray.size + its2.toArray.size <= sizeLine:=by rw[List.size_toArray,List.size_toArray];omega
  have hlong:¬ (!its.toArray.isEmpty && Builtin.List.listTooLong (its.toArray.size + its2.toArray.size))=true:=by
    rw[GE hsz,Bool.and_false]
    exact Bool.false_ne_true
  refine call_meets F.slot_list_extend ⟨_,e,rfl⟩ F.entry_list_extend (F.args_list_extend_2 _ _)
    (AutoSeq1.list_extend_list_list_0 l its.toArray n b its2.toArray n2 hlong (by rw[List.size_toArray];omega) (by omega)) ⟨e,e2,?_⟩
  refine⟨.non,_,I.lset (its':=its ++ its2) hH e (by simp) (r.append r2) ?_,rfl,q⟩
  rw[List.length_append]
  omega
noncomputable def Us:V->List V->Hp->VK->Prop:=λ x vs H Q=>∃ l xs y,x=.ref l/\vs=[]/\H l=some (.lst xs)/\xs[xs.length - 1]? = some y/\Q y (upd H l (.lst xs.dropLast))
theorem Vl:MtM X "list.pop" Us:=by
  intro pins s σ H x vs v us Q I rx rv h
  obtain⟨l,xs,y,rfl,rfl,hH,hy,q⟩:=h
  cases rx
  have hus:=rv.zero
  subst hus
  obtain⟨z,its,n,r,hl,e⟩:=I.lstM hH
  obtain⟨u,hu,ru⟩:=r.get hy
  have hy':its.toArray[its.toArray.size - 1]? = some u:=by
    show its.toArray[its.length - 1]? = some u
    rw[<- Array.getElem?_toList,<- hl]
    exact hu
  refine call_meets F.slot_list_pop ⟨_,e,rfl⟩ F.entry_list_pop (F.args_list_pop_1 _) (MeetsSeq.list_pop_last l its.toArray n u hy' (by rw[List.size_toArray];omega)) ⟨e,?_⟩
  refine⟨y,_,I.lset (its':=its.dropLast) hH e ?_ r.dropLast ?_,ru,q⟩
  . show its.toArray.eraseIdxIfInBounds (its.toArray.size - 1)=its.dropLast.toArray
    rw[List.size_toArray,List.eraseIdxIfInBounds_toArray,No]
  . rw[List.length_dropLast]
    omega
noncomputable def OY:V->List V->Hp->VK->Prop:=λ x vs H Q=>∃ l xs i k y,x=.ref l/\vs=[.int i]/\H l=some (.lst xs)/\-(2 ^ 63) <= i/\i < 2 ^ 63/\seqIndex? i xs.length=some k/\xs[k]? = some y/\Q y (upd H l (.lst (xs.eraseIdx k)))
theorem Qz:MtM X "list.pop" OY:=by
  intro pins s σ H x vs v us Q I rx rv h
  obtain⟨l,xs,i,k,y,rfl,rfl,hH,h1,h2,hk,hy,q⟩:=h
  cases rx
  obtain⟨u,rfl,ru⟩:=rv.one
  obtain⟨t,rfl⟩:=ru
  obtain⟨z,its,n,r,hl,e⟩:=I.lstM hH
  obtain⟨w,hw,rw'⟩:=r.get hy
  refine call_meets F.slot_list_pop ⟨_,e,rfl⟩ F.entry_list_pop (F.args_list_pop_2 _ _)
    (MeetsSeq.list_pop_at l its.toArray n i t k w (fitsIndex_both h1 h2) (by rw[List.size_toArray,<- hl];exact hk) (by rw[<- Array.getElem?_toList];exact hw) (by rw[List.size_toArray];omega)) ⟨e,?_⟩
  refine⟨y,_,I.lset (its':=its.eraseIdx k) hH e ?_ (r.eraseIdx k) ?_,rw',q⟩
  . show its.toArray.eraseIdxIfInBounds k=(its.eraseIdx k).toArray
    rw[List.eraseIdxIfInBounds_toArray]
  . have:=Jn xs k
    omega
noncomputable def Qg:R2:=λ x y H Q=>∃ l b xs zs,x=.ref l/\y=.ref b/\H l=some (.lst xs)/\H b=some (.lst zs)/\xs.length + zs.length <= sizeLine/\∀ p,H p=none->Q (.ref p) (upd H p (.lst (xs ++ zs)))
theorem Vh:OpR X (binaryOp .Add) Qg:=by
  intro pins s σ H x y v u Q I rx ry h
  obtain⟨l,b,xs,zs,rfl,rfl,hH,hB,hz,q⟩:=h
  cases rx
  cases ry
  obtain⟨z,its,n,r,hl,e⟩:=I.lstM hH
  obtain⟨z2,its2,n2,r2,hl2,e2⟩:=I.lstM hB
  refine PySem.P.add_list e e2 ?_ (by rw[List.size_toArray,List.size_toArray];omega)
  have ea:its.toArray ++ its2.toArray=(its ++ its2).toArray:=by simp
  rw[ea]
  exact⟨.ref _,_,I.lnew (t':=s.toks) (r.append r2) (by rw[List.length_append];omega),rfl,q _ I.fresh⟩
noncomputable def Qb:R2:=λ x y H Q=>∃ l k xs,x=.ref l/\y=.int k/\H l=some (.lst xs)/\-(2 ^ 63) <= k/\k < 2 ^ 63/\xs.length * k.toNat <= sizeLine /\
  ∀ p,H p=none->Q (.ref p) (upd H p (.lst (List.replicate k.toNat xs).flatten))
theorem Tf{α:Type}(xs:List α)(k:Nat):(List.replicate k xs).flatten.length=k * xs.length:=by
  induction k with
  | zero=>simp
  | succ k ih=>rw[List.replicate_succ,List.flatten_cons,List.length_append,ih,Nat.succ_mul,Nat.add_comm]
theorem Vb:OpR X (binaryOp .Mult) Qb:=by
  intro pins s σ H x y v u Q I rx ry h
  obtain⟨l,k,xs,rfl,rfl,hH,h1,h2,hz,q⟩:=h
  cases rx
  obtain⟨t,rfl⟩:=ry
  obtain⟨z,its,n,r,hl,e⟩:=I.lstM hH
  have hlen:its.toArray.size * k.toNat <= sizeLine:=by rw[List.size_toArray,<- hl];exact hz
  have hcap:¬ its.toArray.size * k.toNat > (2 ^ 63 - 1) / 8:=by
    have:(sizeLine:Nat) <= (2 ^ 63 - 1) / 8:=by decide
    omega
  have hfit:¬ (!Builtin.List.listFitsIndex k)=true:=by
    rw[fitsIndex_both h1 h2]
    exact Bool.false_ne_true
  have hlong:¬ Builtin.List.listTooLong (its.toArray.size * k.toNat)=true:=by
    rw[GE hlen]
    exact Bool.false_ne_true
  have hnew:List.foldl (λ x1 x2=>x1 ++ x2) #[] (List.replicate (if its.toArray.isEmpty=true then 0 else k.toNat) its.toArray)=(List.replicate k.toNat its).flatten.toArray:=by
    have f0:∀ m:Nat,List.foldl (λ x1 x2=>x1 ++ x2) #[] (List.replicate m its.toArray)=(List.replicate m its).flatten.toArray:=λ m=>by
      have:=Jq its m []
      rw[List.nil_append]at this
      exact this
    rw[f0]
    cases its with
    | nil=>simp
    | cons a r'=>rw[if_neg (by simp)]
  refine wpAny_binaryOp_repeat_ref (T:="list") (U:="int") (by decide) ⟨_,e,rfl⟩ (λ s'=>typeIs_int s' k t) noFill_list_mul F.fills_int_mul F.slot_int_rmul repeat_list F.slot_int_index.lookup
    (call_meets F.slot_int_rmul (typeIs_int s k t) F.entry_int_rmul (F.args_int_rmul_2 _ _) (int___rmul___int_list k t l its.toArray n)
      ⟨e,rfl,⟨_,e,rfl⟩,call_meets F.slot_list_mul ⟨_,e,rfl⟩ F.entry_list_mul (F.args_list_mul_2 _ _) (AutoListH.list___mul___list_int_3 l its.toArray n k t hfit hcap hlong) ⟨e,?_⟩⟩)
  rw[hnew]
  exact⟨.ref _,_,I.lnew (t':=s.toks) (r.rep k.toNat) (by rw[Tf,Nat.mul_comm];exact hz),rfl,q _ I.fresh⟩
end
section
variable{prog:Program}{w:World}{A:Around}{E:Value->Shared->Prop}{s:Shared}
theorem OJ(its its2:List Value)(a c:Nat):its.toArray.extract 0 a ++ its2.toArray ++ its.toArray.extract c its.toArray.size=(its.take a ++ its2 ++ its.drop c).toArray:=by
  apply Array.toList_inj.mp
  first
    | (simp
       exact List.take_of_length_le (by simp))
    | simp[List.take_of_length_le]
    | simp
theorem O1{a c n:Nat}(hac:a <= c)(hc:c <= n):sliceBounds (some (a:Int)) (some (c:Int)) none n=((a:Int),(c:Int),1):=by
  simp only[sliceBounds,Option.getD_none]
  have h1:¬ ((a:Int) < 0):=by omega
  have h2:¬ ((c:Int) < 0):=by omega
  simp only[h1,h2,if_false,show(1:Int) > 0 by decide,if_true]
  congr 1
  . omega
  . congr 1;omega
set_option maxRecDepth 100000 in
theorem K4{l b sl:Addr}{items new:Array Value}{n n2:Nat}{vl vu:Value}{a c:Nat}{Q:Unit->Shared->Prop}
    (e:s.heap.get? l=some { cls:=.type "list",data:=.seq items n }) (e2:s.heap.get? b=some { cls:=.type "list",data:=.seq new n2 }) (hne:l ≠ b)
    (hs:s.heap.IsSliceOf sl vl vu .none) (pl:IsPart vl (some (a:Int))) (pu:IsPart vu (some (c:Int))) (hac:a <= c) (hc:c <= items.size)
    (hsz:items.size + new.size <= sizeLine) (h:Q () { s with heap:=s.heap.update l (Obj.mapSeq λ xs=>xs.extract 0 a ++ new ++ xs.extract c xs.size) }) :
    wpAny (model prog w) A (setItem (.ref l) (.ref sl) (.ref b)) Q E s:=by
  have hl:s.heap.IsList l items:=PySem.IsL.isList e
  have hb:s.heap.IsList b new:=PySem.IsL.isList e2
  obtain⟨os,hos,hcs,hds⟩:=id hs
  have hTs:s.TypeIs (.ref sl) "slice":=⟨os,hos,hcs⟩
  have hstep:¬ ((rawPart none == rawInt 0)=true):=Bool.false_ne_true
  have hsame:Builtin.List.listSameRef (.ref l) (.ref b)=false:=by
    unfold Builtin.List.listSameRef
    exact beq_eq_false_iff_ne.mpr hne
  have hmax:(max (a:Int) (c:Int)).toNat=c:=by omega
  have hz':((λ xs:Array Value=>xs.extract 0 a ++ new ++ xs.extract c xs.size) items).size <= sizeLine + 1:=by
    simp only[Array.size_append,Array.size_extract]
    omega
  unfold setItem
  try with_reducible refine wpAny_holding ?_
  first|refine wpAny_bind (wpAny_pure ?_)|skip
  refine wpAny_bind (wpAny_sequenceKey hl.typeIs (by decide) ?_)
  refine wpAny_bind (wpAny_callSpecial?_slot (name:=Str.ofString "__setitem__") hl.typeIs slot_list_setitem
    (wpAny_call_entry slot_list_setitem hl.typeIs entry_list_setitem ?_ (args_list_setitem _ _ _)))
  show wpAny _ _ (Builtin.List.listSubscript? (.ref sl) >>= _) _ _ s
  refine wpAny_bind ?_
  unfold Builtin.List.listSubscript?
  refine wpAny_bind (wpAny_specialOf hTs slice_no_index ?_)
  simp only[Option.isNone_none,if_true]
  refine wpAny_pure ?_
  show wpAny _ _ (typeOf (.ref sl) >>= _) _ _ s
  refine wpAny_bind (wpAny_typeOf hTs ?_)
  first
    | rw[if_neg (by decide)]
    | refine PySem.W.KFB.if_not (by decide) ?_
  rw[listSliceParts_eq]
  refine wpAny_bind (wpAny_bind (wpAny_field hos hds (x:=.none) rfl (wpAny_bind (wpAny_listPart .none ?_))))
  rw[if_neg hstep]
  refine wpAny_bind (wpAny_field hos hds (x:=vl) rfl (wpAny_bind (wpAny_listPart pl ?_)))
  refine wpAny_bind (wpAny_field hos hds (x:=vu) rfl (wpAny_bind (wpAny_listPart pu (wpAny_pure ?_))))
  first
    | simp only[hsame,Bool.false_eq_true,if_false]
    | refine PySem.W.KFB.if_not hsame ?_
    | (dsimp only
       rw[if_neg (by rw[hsame];exact Bool.false_ne_true)])
  refine wpAny_bind (m:=Builtin.List.listAllItems (.ref b) "must assign iterable to extended slice") ?_
  unfold Builtin.List.listAllItems
  refine wpAny_bind (wpAny_typeOf hb.typeIs ?_)
  first
    | refine PySem.W.KFB.if_so (by decide) ?_
    | rw[if_pos (by decide)]
    | simp only[beq_self_eq_true,Bool.true_or,if_true]
  unfold Builtin.List.listItems
  refine wpAny_bind (wpAny_seqItems e2 rfl (wpAny_pure ?_))
  refine wpAny_bind (wpAny_bind (wpAny_seqItems e rfl (wpAny_pure ?_)))
  refine wpAny_bind (wpAny_of_eq ((sliceIndices_raw (some (a:Int)) (some (c:Int)) none items.size (by simp)).trans (congrArg (pure:Int × Int × Int->Sem (Int × Int × Int)) (O1 hac hc))) ?_)
  show wpAny _ _ (if((1:Int) == 1)=true then _ else _) _ _ s
  rw[if_pos (by decide)]
  refine wpAny_bind (wpAny_rule ?_)
  first
    | simp only[GE hsz,Bool.false_eq_true,if_false]
    | refine PySem.W.KFB.if_not (GE hsz) ?_
  first|refine wpAny_bind (wpAny_pure ?_)|skip
  show wpAny _ _ (updateSeq l (λ xs=>xs.extract 0 ((a:Int)).toNat ++ new ++ xs.extract (max (a:Int) (c:Int)).toNat xs.size) >>= _) _ _ s
  rw[hmax,Int.toNat_natCast]
  refine wpAny_bind (wpAny_updateSeq (hz:=Nat.le_trans (Nat.le_add_right _ _) hsz) (_hz':=hz') e rfl ?_)
  refine wpAny_bind (wpAny_letGo ?_)
  first
    | exact wpAny_bind (wpAny_pure (wpAny_pure ⟨.none,rfl,wpAny_pure h⟩))
    | exact wpAny_pure ⟨.none,rfl,wpAny_pure h⟩
end
section
variable{X:Cx}
theorem OL{pins:List (Addr × Obj)}{s:Shared}{σ:St}{H:Hp}{l b sl:Addr}{xs ys:List V}{a c:Int}{vl vu:Value}{Q:Unit->Shared->Prop}(I:Inv X pins σ H s)
    (hH:H l=some (.lst xs)) (hB:H b=some (.lst ys)) (hne:l ≠ b) (hs:s.heap.IsSliceOf sl vl vu .none) (ra:RelV (.int a) vl) (rc:RelV (.int c) vu) (h0:0 <= a) (hac:a <= c) (hc:c <= xs.length)
    (hz:xs.length + ys.length <= sizeLine) (h:∀ s',Inv X pins σ (upd H l (.lst (xs.take a.toNat ++ ys ++ xs.drop c.toNat))) s'->Q () s') :
    wpAny (model X.prog X.w) X.A (setItem (.ref l) (.ref sl) (.ref b)) Q X.xe s:=by
  obtain⟨ta,rfl⟩:=ra
  obtain⟨tc,rfl⟩:=rc
  obtain⟨z,its,n,r,hl,e⟩:=I.lstM hH
  obtain⟨z2,its2,n2,r2,hl2,e2⟩:=I.lstM hB
  obtain⟨a',rfl⟩:=Int.eq_ofNat_of_zero_le h0
  obtain⟨c',rfl⟩:=Int.eq_ofNat_of_zero_le (Int.le_trans h0 hac)
  simp only[Int.toNat_natCast]at h
  refine K4 (a:=a') (c:=c') e e2 hne hs (.int _ _) (.int _ _) (by omega) (by rw[List.size_toArray];omega) (by rw[List.size_toArray,List.size_toArray];omega) (h _ ?_)
  refine I.lset (its':=its.take a' ++ its2 ++ its.drop c') (t':=s.toks) hH e ?_ (Vals.append (Vals.append (r.take _) r2) (r.drop _)) ?_
  . exact OJ its its2 a' c'
  . rw[List.length_append,List.length_append,List.length_take,List.length_drop]
    omega
end
end L2
namespace Att
open PySem PySem.W PySem.Calls PyProof.Rows
theorem Io{P:Params}{h:Heap}:∀ (ns:List Int) (vs:List Value),WellAll P h vs (ns.map WData.int)->IntsAre vs ns:=by
  intro ns
  induction ns with
  | nil=>
    intro vs w
    rw[List.map_nil]at w
    cases w
    exact .nil
  | cons n ns ih=>
    intro vs w
    rw[List.map_cons]at w
    cases w with
    | cons a b=>
      cases a
      exact .cons _ _ (ih _ b)
theorem OM{l:OpenLaw}{n:Nat}(hn:l.most=some n){P:Params}{h:Heap}{args:List WData}{vals:List Value}
    (hpre:l.row.toRowW.claim.pre args=true) (hwl:WellAll P h vals args) :
    ∃ a vs ns,vals=[Value.ref a]/\args=[WData.list (ns.map WData.int)]/\h.get? a=some { cls:=.type "list",data:=.seq vs.toArray }/\IntsAre vs ns/\ns.length <= n:=by
  have hsh:WShape.hasAll [] args [.list .int]=true:=(pre_splitW hpre).1
  have hc:l.pre.holds [] { args:=args }=true:=(pre_splitW hpre).2
  obtain⟨d,r,rfl,h1,h2⟩:=hasAllW_cons hsh
  obtain rfl:=hasAllW_nil h2
  obtain⟨xs,rfl,h3⟩:=hasW_list h1
  obtain⟨ns,rfl⟩:=items_int h3
  have hlen:ns.length <= n:=by
    unfold OpenLaw.pre at hc
    have h4:(WTm.not (.lt (.lit (.int (n:Int))) (.len (.arg 0)))).holds [] { args:=[.list (ns.map .int)] }=true:=by
      have h4:=(holds_andW hc).1
      rw[hn]at h4
      exact h4
    have h5:=condW_of h4 (w_not (w_lt w_lit (w_len_list (w_arg rfl))))
    rw[List.length_map]at h5
    refine Nat.le_of_not_lt λ q=>?_
    have q':(n:Int) < ((ns.length:Nat):Int):=by omega
    first
      | (rw[decide_eq_true q']at h5;exact absurd h5 (by decide))
      | (simp at h5;omega)
  cases hwl with
  | cons w1 w2=>
    cases w2
    cases w1 with
    | list ho hall=>exact⟨_,_,ns,rfl,rfl,ho,Io ns _ hall,hlen⟩
theorem Oe(l:OpenLaw)(args:List WData):l.row.toRowW.claim.post args (.bool true) args=true:=
  postW_of (r:=l.row.toRowW) (X:=(true == true))
    (show WShape.has [] (.bool true) .bool=true by first|rfl|decide|simp[WShape.has,WShape.arms,WShape.armsAll])
    (show(WTm.eq .res (.lit (.bool true))).value [] { args:=args,res:=some (.bool true),after:=args }=some (.bool (true == true))from w_eq_bool (w_res rfl) w_lit) rfl
theorem attach_call{l:OpenLaw}{n:Nat}{q:Program}{loose:List Str}{XP:(Str->Option Value)->Heap->Prop}{YP:World->Heap->Prop}{d:DefRec}
    (hn:l.most=some n) (hdf:d.params.defaults=[])
    (call:∀ (w:World) (s₀ s₁:Shared) (mg mb:Str->Option Value) (fa:Addr) (o:Obj) (pm cd doc:Value) (a:Addr) (vs:List Value) (ns:List Int),
      Ground q loose [] XP w s₀ mg mb s₁.heap->YP w s₁.heap ->
      s₁.heap.get? fa=some o->o.data=.func (docDef d.name d.params d.body d.scope pm cd doc)->s₁.heap.CodeRec cd d.name->mg d.name=some (.ref fa) ->
      s₁.heap.get? a=some { cls:=.type "list",data:=.seq vs.toArray }->IntsAre vs ns->ns.length <= n->s₁.gens=#[] ->
      codeAny (model l.prog w) callerA (.call (.ref fa) ⟨[.ref a],[]⟩) (λ r s'=>r=.ok (.ret (.bool true))/\OldK s₁.heap s'.heap/\s'.os=s₁.os/\AllBare s'.gens) s₁) :
    WalkO q loose XP YP l.row.toRowW d [] (λ f vs=>PySem.call f vs):=by
  intro w s₀ s₁ mg mb G Y fa o pm cd doc dV kV ho hd hcd hD hmg hg args vals as hpre hlay hrd hwl hlo
  obtain rfl:dV=.none:=Dflts.none hD hdf
  obtain rfl:kV=.none:=Dflts.noKw hD
  obtain⟨a,vs,ns,rfl,rfl,hobj,hints,hlen⟩:=OM hn hpre hwl
  refine enter_call (codeAny_mono (call w s₀ s₁ mg mb fa o pm cd doc a vs ns G Y ho (fd_plain hd) hcd hmg hobj hints hlen hg) λ r s' hq=>?_)
  obtain⟨rfl,h2,h3,h4⟩:=hq
  exact⟨.inl ⟨.bool true,.bool true,[],rfl,λ _=>rfl,.bool true,Oe l _,λ _=>⟨List.Pairwise.nil,λ _ hm=>(nomatch hm)⟩⟩,h2,h3,h4⟩
section
variable{prog:Program}{w:World}{A:Around}{E:Value->Shared->Prop}{s:Shared}{K:Frag}
end
end Att
namespace L2
open PySem PySem.Spec PyProof.Rows
theorem Jc:∀ {vs:List Value} {ns:List Int},IntsAre vs ns->Vals (ns.map V.int) vs
  | _,_,.nil=>.nil
  | _,_,.cons n t h=>.cons ⟨t,rfl⟩ (Jc h)
end L2
namespace L2
open PySem PySem.Spec PyProof.Rows
end L2
namespace L2
open PySem PySem.Spec PyProof.Rows
noncomputable def AZ(s:Stmt):Arguments:=match s with
  | .FunctionDef _ a _ _ _ _ _ _ _ _=>a
  | _=>{ posonlyargs:=[],args:=[],vararg:=none,kwonlyargs:=[],kw_defaults:=[],kwarg:=none,defaults:=[] }
noncomputable def AV(s:Stmt):List Stmt:=match s with
  | .FunctionDef _ _ b _ _ _ _ _ _ _=>b
  | _=>[]
noncomputable def A8(s:Stmt):Scope:=match s with
  | .FunctionDef _ _ _ _ _ _ sc _ _ _=>sc
  | _=>{ kind:=.function,names:=[],isGenerator:=false,isCoroutine:=false }
noncomputable abbrev CX0:CXT:=λ _ _ _ _ _ _=>False
noncomputable abbrev E0:XK:=λ _ _ _=>False
theorem Wn{X:Cx}:M7 CX0 X E0:=λ _ _ _ _ _ _ _ h=>h.elim
structure Fun(K:PySem.W.Frag)(x qual:Str)(st:Stmt)(f:Addr)(fd:FuncData):Prop where
  ex:∃ (oc:Value) (od:Option Addr) (kV doc pm:Value) (an:Option Addr) (cdv ct:Value) (osl:Array (Option Value)),
    fd=PySem.W.fnOf x qual (AZ st) (AV st) (A8 st) .none kV doc pm an cdv ct/\K.lookup f=some ⟨oc,od,.func fd,osl⟩/\PySem.W.codeIn K cdv qual=true
  kp:PySem.W.keepIn K (.ref f)=true
section
variable{P:Program}{w:World}{K:PySem.W.Frag}{mg:Str->Option Value}{base:Heap}
theorem Fun.ok{x qual:Str}{st:Stmt}{f:Addr}{fd:FuncData}{N ps:List Str}{k:Nat}{sp:Sp}(F:Fun K x qual st f fd)(S:FnScope N ps (A8 st))(len:∀ vs H Q E,sp vs H Q E->vs.length=ps.length)
    (hbody:∀ (cdv:Value) (A:Around) (outer:List Env) (s:Shared) (H:Hp) (vs:List V) (Q:VK) (E:XK),Room k (A.deeper (envOfC qual (A8 st) s.heap.objs.size f cdv))->sp vs H Q E ->
      ∃ t,PSs (Gn CX0 P w K mg base N qual (A8 st) f cdv A outer s H E).nox (AV st) t/\t { nx:=λ _ H'=>Q .non H',rt:=Q } (Dc N vs) H):FnOk P w K mg base CX0 (k + 1) f fd ps sp:=by
  obtain⟨oc,od,kV,doc,pm,an,cdv,ct,osl,rfl,lk,hcd⟩:=F.ex
  refine SH lk hcd S len λ A outer s H vs Q E hr hsp=>?_
  obtain⟨t,h,q⟩:=hbody cdv A outer s H vs Q E hr hsp
  exact⟨t,h.nox,q⟩
theorem Fun.binds{x qual:Str}{st:Stmt}{f:Addr}{fd:FuncData}{ps:List Str}(F:Fun K x qual st f fd)
    (h:∀ (kV doc pm:Value) (an:Option Addr) (cdv ct:Value) (us:List Value),us.length=ps.length->bindArgs (PySem.W.fnOf x qual (AZ st) (AV st) (A8 st) .none kV doc pm an cdv ct) ⟨us,[]⟩=pure (ps.zip us)):Binds K fd ps []:=by
  obtain⟨oc,od,kV,doc,pm,an,cdv,ct,osl,rfl,lk,hcd⟩:=F.ex
  exact .all (h kV doc pm an cdv ct)
theorem Ar{x qual:Str}{st:Stmt}{f:Addr}{oc:Value}{od an:Option Addr}{osl:Array (Option Value)}{kV doc pm cdv ct:Value}(l:K.lookup f=some ⟨oc,od,.func (PySem.W.fnOf x qual (AZ st) (AV st) (A8 st) .none kV doc pm an cdv ct),osl⟩)
    (c:PySem.W.codeIn K cdv qual=true) (k:PySem.W.keepIn K (.ref f)=true):Fun K x qual st f (PySem.W.fnOf x qual (AZ st) (AV st) (A8 st) .none kV doc pm an cdv ct):=⟨⟨oc,od,kV,doc,pm,an,cdv,ct,osl,rfl,l,c⟩,k⟩
end
theorem FM{A:Around}{k:Nat}(hr:Room k A):A.units + 1 < cLine:=Nat.lt_of_le_of_lt (Nat.add_le_add_left (by decide:1 <= 64) _) hr.units
theorem OK{n:Nat}(h:n <= 1000):n < sizeLine:=Nat.lt_of_le_of_lt h (by decide)
section
variable{X:Cx}
end
end L2
namespace L2
open PySem PySem.Spec PyProof.Rows
section
variable{κ:Type}[DecidableEq κ]
noncomputable def E8(kvs:List (κ × V))(k:κ):Option V:=(kvs.find? λ kv=>decide (kv.1=k)).map (·.2)
noncomputable def DC(kvs:List (κ × V))(k:κ)(v:V):List (κ × V):=
  if(kvs.any λ kv=>decide (kv.1=k))=true then kvs.map (λ kv=>if kv.1=k then(kv.1,v)else kv)else kvs ++ [(k,v)]
theorem Ep{p:κ × V}{r:List (κ × V)}{k:κ}(e:p.1=k):E8 (p :: r) k=some p.2:=by simp[E8,List.find?_cons,e]
theorem Er{p:κ × V}{r:List (κ × V)}{k:κ}(e:¬ p.1=k):E8 (p :: r) k=E8 r k:=by simp[E8,List.find?_cons,e]
theorem Kg(k:κ):∀ kvs:List (κ × V),(kvs.any λ kv=>decide (kv.1=k))=(E8 kvs k).isSome
  | []=>rfl
  | p :: r=>by
    rw[List.any_cons]
    by_cases e:p.1=k
    . simp only[Ep e,decide_eq_true e,Bool.true_or,Option.isSome_some]
    . rw[Er e,decide_eq_false e,Bool.false_or];exact Kg k r
theorem FV(kvs:List (κ × V))(k:κ)(v:V):(DC kvs k v).length <= kvs.length + 1:=by
  unfold DC
  split
  . rw[List.length_map];omega
  . rw[List.length_append,List.length_cons,List.length_nil];omega
theorem RelO.isSome_eq{o:Option V}{u:Option Value}(r:RelO o u):o.isSome=u.isSome:=by
  cases o with
  | none=>cases u with
    | none=>rfl
    | some _=>exact(show False from r).elim
  | some _=>cases u with
    | none=>exact(show False from r).elim
    | some _=>rfl
theorem KV.val{kvs:List (κ × V)}{vs:List (κ × Value)}(r:KV kvs vs)(k:κ):RelO (E8 kvs k) (valueAt vs k):=by
  unfold KV at r
  induction r with
  | nil=>exact True.intro
  | @cons p q ps qs h t ih=>
    obtain⟨h1,h2⟩:=h
    by_cases e:p.1=k
    . have e':q.1=k:=h1.symm.trans e
      have b:valueAt (q :: qs) k=some q.2:=by simp[valueAt,List.find?_cons,e']
      rw[Ep e,b];exact h2
    . have e':¬ q.1=k:=λ z=>e (h1.trans z)
      have b:valueAt (q :: qs) k=valueAt qs k:=by simp[valueAt,List.find?_cons,e']
      rw[Er e,b];exact ih
theorem KV.any{kvs:List (κ × V)}{vs:List (κ × Value)}(r:KV kvs vs)(k:κ):(kvs.any λ kv=>decide (kv.1=k))=vs.any λ kv=>decide (kv.1=k):=by
  unfold KV at r
  induction r with
  | nil=>rfl
  | cons h t ih=>rw[List.any_cons,List.any_cons,ih,h.1]
theorem KV.repl{kvs:List (κ × V)}{vs:List (κ × Value)}(r:KV kvs vs)(k:κ){y:V}{u:Value}(ry:RelV y u) :
    KV (kvs.map λ kv=>if kv.1=k then(kv.1,y)else kv) (vs.map λ kv=>if kv.1=k then(kv.1,u)else kv):=by
  unfold KV at r ⊢
  induction r with
  | nil=>exact .nil
  | @cons p q ps qs h t ih=>
    rw[List.map_cons,List.map_cons]
    refine .cons ?_ ih
    obtain⟨h1,h2⟩:=h
    by_cases e:p.1=k
    . rw[if_pos e,if_pos (h1.symm.trans e)];exact⟨h1,ry⟩
    . rw[if_neg e,if_neg (λ z=>e (h1.trans z))];exact⟨h1,h2⟩
theorem KV.put{kvs:List (κ × V)}{vs:List (κ × Value)}(r:KV kvs vs)(k:κ){y:V}{u:Value}(ry:RelV y u):KV (DC kvs k y) (stored vs k u):=by
  unfold DC stored
  rw[r.any k]
  by_cases e:(vs.any λ kv=>decide (kv.1=k))=true
  . rw[if_pos e,if_pos e];exact r.repl k ry
  . rw[if_neg e,if_neg e];exact Paired.snoc r ⟨rfl,ry⟩
theorem KV.length{kvs:List (κ × V)}{vs:List (κ × Value)}(r:KV kvs vs):kvs.length=vs.length:=Paired.length r
end
theorem Ik{P:Program}{w:World}{k:Key}{u:Value}(r:RelV (kV k) u):(Bj P w).is k u=true:=by
  cases k with
  | inl i=>obtain⟨t,e⟩:=(show ∃ t,u=Value.int i t from r);subst e;exact MF P w i t
  | inr x=>obtain⟨t,e⟩:=(show ∃ t,u=Value.str x t from r);subst e;exact MD P w x t
theorem Jo{P:Program}{w:World}:∀ {ks:List Key} {us:List Value},Vals (ks.map kV) us->ItemsAre (Bj P w) ks us
  | [],_,r=>by rw[List.map_nil]at r;cases r;exact .nil
  | k :: ks,_,r=>by
    rw[List.map_cons]at r
    cases r with
    | cons h t=>exact .cons (Ik h) (Jo t)
noncomputable abbrev KT(H:Hp):List (List Key × V)->List (List Key × Addr × Value)->Prop:=Paired λ p q=>p.1=q.1/\H q.2.1=some (.tup (p.1.map kV))/\RelV p.2 q.2.2
theorem KT.val{H:Hp}{kvs:List (List Key × V)}{xs:List (List Key × Addr × Value)}(r:KT H kvs xs)(k:List Key):RelO (E8 kvs k) ((atKey xs k).map (·.2)):=by
  induction r with
  | nil=>exact True.intro
  | @cons p q ps qs h t ih=>
    obtain⟨h1,_,h2⟩:=h
    by_cases e:p.1=k
    . have e':q.1=k:=h1.symm.trans e
      have b:atKey (q :: qs) k=some q.2:=by simp[atKey,List.find?_cons,e']
      rw[Ep e,b];exact h2
    . have e':¬ q.1=k:=λ z=>e (h1.trans z)
      have b:atKey (q :: qs) k=atKey qs k:=by simp[atKey,List.find?_cons,e']
      rw[Er e,b];exact ih
theorem KT.repl{H:Hp}{kvs:List (List Key × V)}{xs:List (List Key × Addr × Value)}(r:KT H kvs xs)(k:List Key){y:V}{u:Value}(ry:RelV y u) :
    KT H (kvs.map λ kv=>if kv.1=k then(kv.1,y)else kv) (xs.map (putAt k u)):=by
  induction r with
  | nil=>exact .nil
  | @cons p q ps qs h t ih=>
    rw[List.map_cons,List.map_cons]
    refine .cons ?_ ih
    obtain⟨h1,h2,h3⟩:=h
    unfold putAt
    by_cases e:p.1=k
    . rw[if_pos e,if_pos (h1.symm.trans e)];exact⟨h1,h2,ry⟩
    . rw[if_neg e,if_neg (λ z=>e (h1.trans z))];exact⟨h1,h2,h3⟩
theorem KT.put{H:Hp}{kvs:List (List Key × V)}{xs:List (List Key × Addr × Value)}(r:KT H kvs xs)(k:List Key){b:Addr}{y:V}{u:Value}(hb:H b=some (.tup (k.map kV)))(ry:RelV y u) :
    KT H (DC kvs k y) (storedH xs k b u):=by
  have e:(kvs.any λ kv=>decide (kv.1=k))=(atKey xs k).isSome:=by
    rw[Kg,(r.val k).isSome_eq,Option.isSome_map]
  unfold DC storedH
  rw[e]
  by_cases q:(atKey xs k).isSome=true
  . rw[if_pos q,if_pos q];exact r.repl k ry
  . rw[if_neg q,if_neg q];exact Paired.snoc r ⟨rfl,hb,ry⟩
theorem KT.keeps{H H':Hp}{kvs:List (List Key × V)}{xs:List (List Key × Addr × Value)}(r:KT H kvs xs)(ht:∀ b ys,H b=some (.tup ys)->H' b=some (.tup ys)):KT H' kvs xs:=
  Paired.mapP r λ _ _ z=>⟨z.1,ht _ _ z.2.1,z.2.2⟩
section
variable{P:Program}{w:World}{H:Hp}{h:Heap}{a:Addr}
theorem Rx{u:HO}(ok:HOk P w H h)(e:Rd H a u):ObjOk P w H h a u:=e.ok ok
theorem KO{kvs:List (Key × V)}(ok:HOk P w H h)(e:Rd H a (.dK kvs)):kvs.length <= sizeLine/\(a == sysModules)=false/\∃ vs,KV kvs vs/\h.DictOf (Bj P w) a vs:=
  show ObjOk P w H h a (.dK kvs)from Rx ok e
theorem SL{kvs:List (Key × V)}(ok:HOk P w H h)(e:H a=some (.dK kvs)):kvs.length <= sizeLine/\(a == sysModules)=false/\∃ vs,KV kvs vs/\h.DictOf (Bj P w) a vs:=KO ok (.inl e)
theorem Ij{ks:List Key}(ok:HOk P w H h)(e:H a=some (.tup (ks.map kV))):(tupleKind (Bj P w)).is h ks a:=by
  obtain⟨_,its,r,o,h1,h2,n,h3⟩:=(show ObjOk P w H h a (.tup (ks.map kV))from ok a _ e)
  exact⟨o,its.toArray,n,h1,h2,h3,by simpa using Jo r⟩
theorem KN{kvs:List (List Key × V)}(ok:HOk P w H h)(e:Rd H a (.dT kvs)):kvs.length <= sizeLine/\(a == sysModules)=false /\
    ∃ xs,KT H kvs xs/\h.DictOfH (tupleKind (Bj P w)) a xs:=by
  obtain⟨z,y,xs,r,o,es,ep,h1,h2,h3,h4,h5⟩:=(show ObjOk P w H h a (.dT kvs)from Rx ok e)
  refine⟨z,y,xs,r,o,es,ep,h1,h2,h3,h4,λ x hx=>?_,h5⟩
  have all:∀ {l:List (List Key × V)} {m:List (List Key × Addr × Value)},KT H l m->∀ x ∈ m,(tupleKind (Bj P w)).is h x.1 x.2.1:=by
    intro l m q
    induction q with
    | nil=>intro x hx;exact nomatch hx
    | @cons p q ps qs hq t ih=>
      intro x hx
      rcases List.mem_cons.mp hx with e|hx
      . subst e
        exact Ij ok (by rw[<- hq.1];exact hq.2.1)
      . exact ih x hx
  exact all r x hx
theorem X5{kvs:List (List Key × V)}(ok:HOk P w H h)(e:H a=some (.dT kvs)):kvs.length <= sizeLine/\(a == sysModules)=false /\
    ∃ xs,KT H kvs xs/\h.DictOfH (tupleKind (Bj P w)) a xs:=KN ok (.inl e)
end
noncomputable def DGet(H:Hp)(a:Addr)(y:V)(r:Option V):Prop:=
  (∃ kvs k,Rd H a (.dK kvs)/\y=kV k/\r=E8 kvs k) ∨ ∃ kvs k b,Rd H a (.dT kvs)/\y=.ref b/\H b=some (.tup (k.map kV))/\r=E8 kvs k
noncomputable def DPut(H:Hp)(a:Addr)(y v:V)(H':Hp):Prop:=
  (∃ kvs k,H a=some (.dK kvs)/\y=kV k/\kvs.length < sizeLine/\H'=upd H a (.dK (DC kvs k v))) ∨
  ∃ kvs k b,H a=some (.dT kvs)/\y=.ref b/\H b=some (.tup (k.map kV))/\kvs.length < sizeLine/\H'=upd H a (.dT (DC kvs k v))
theorem DGet.k{H:Hp}{a:Addr}{kvs:List (Key × V)}{k:Key}(e:H a=some (.dK kvs)):DGet H a (kV k) (E8 kvs k):=.inl ⟨kvs,k,.inl e,rfl,rfl⟩
theorem DPut.k{H:Hp}{a:Addr}{kvs:List (Key × V)}{k:Key}{v:V}(e:H a=some (.dK kvs))(hl:kvs.length < sizeLine):DPut H a (kV k) v (upd H a (.dK (DC kvs k v))):=.inl ⟨kvs,k,e,rfl,hl,rfl⟩
section
variable{X:Cx}{pins:List (Addr × Obj)}{σ:St}{H:Hp}{s:Shared}{a:Addr}{y v:V}{u r:Value}{o:Option V}{A:Around}{E:Value->Shared->Prop}
theorem Inv.big(I:Inv X pins σ H s):sysModules < s.heap.objs.size:=by
  have h:mainGlobals < s.heap.objs.size:=(I.mod.glob.keeps I.bk).lt
  exact Nat.lt_trans (by decide) h
theorem PK{Q:Value->Shared->Prop}(hu:A.units + 1 < cLine)(I:Inv X pins σ H s)(g:DGet H a y (some v))(ry:RelV y u)(h:∀ w' s',Inv X pins σ H s'->RelV v w'->Q w' s') :
    wpAny (model X.prog X.w) A (getItem (.ref a) u) Q E s:=by
  rcases g with⟨kvs,k,e,ey,l⟩|⟨kvs,k,b,e,ey,eb,l⟩
  . subst ey
    obtain⟨z,hd,vs,rel,dd⟩:=KO I.hok e
    obtain⟨w',hw,rw'⟩:=RelO.some_of (v:=v) (o:=valueAt vs k) (by rw[l];exact rel.val k)
    exact wpAny_getItem_of (Ik ry) dd.mapOf hw (h w' _ (I.tok _) rw')
  . subst ey
    cases(show u=Value.ref b from ry)
    obtain⟨z,hd,xs,rel,dd⟩:=KN I.hok e
    obtain⟨w',hw,rw'⟩:=RelO.some_of (v:=v) (o:=(atKey xs k).map (·.2)) (by rw[l];exact rel.val k)
    obtain⟨p,hp,hp2⟩:=Option.map_eq_some_iff.mp hw
    refine wpAny_getItem_heap (tupleKind_room_in1 hu) (Ij I.hok eb) dd hp ?_
    rw[hp2]
    exact h w' _ (I.tok _) rw'
theorem XX{Q:Value->Shared->Prop}(hu:A.units + 1 < cLine)(I:Inv X pins σ H s)(g:DGet H a y o)(ry:RelV y u)(h:∀ s',Inv X pins σ H s'->Q (.bool o.isSome) s') :
    wpAny (model X.prog X.w) A (compareOp .In u (.ref a)) Q E s:=by
  rcases g with⟨kvs,k,e,ey,l⟩|⟨kvs,k,b,e,ey,eb,l⟩
  . subst ey
    obtain⟨z,hd,vs,rel,dd⟩:=KO I.hok e
    refine wpAny_in_of (Ik ry) hd dd.mapOf ?_
    rw[<- (rel.val k).isSome_eq,<- l]
    exact h _ (I.tok _)
  . subst ey
    cases(show u=Value.ref b from ry)
    obtain⟨z,hd,xs,rel,dd⟩:=KN I.hok e
    refine wpAny_in_heap (tupleKind_room_in1 hu) (Ij I.hok eb) hd dd ?_
    have q:=(rel.val k).isSome_eq
    rw[Option.isSome_map]at q
    rw[<- q,<- l]
    exact h _ (I.tok _)
theorem JX{h':Heap}{t':Nat}{ob:HO}(I:Inv X pins σ H s)(mu:Mut (H a))(hs:Heap.SameBut a s.heap h')(he:∃ q,h'.get? a=some q)(new:ObjOk X.prog X.w (upd H a ob) h' a ob) :
    Inv X pins σ (upd H a ob) { s with heap:=h',toks:=t' }:=
  I.write (x:=a) (e:=a) mu (.inl rfl) (λ b q hb z=>(hs.2 b hb).trans z) he new
theorem PD{P:Program}{w:World}{H':Hp}{h':Heap}{kvs:List (Key × V)}{vs:List (Key × Value)}(z:kvs.length <= sizeLine)(hd:(a == sysModules)=false)(rel:KV kvs vs)(dd:h'.DictOf (Bj P w) a vs) :
    ObjOk P w H' h' a (.dK kvs):=⟨z,hd,vs,rel,dd⟩
theorem PJ{H':Hp}{Q:Unit->Shared->Prop}(hu:A.units + 1 < cLine)(I:Inv X pins σ H s)(g:DPut H a y v H')(ry:RelV y u)(rv:RelV v r)(h:∀ s',Inv X pins σ H' s'->Q () s') :
    wpAny (model X.prog X.w) A (setItem (.ref a) u r) Q E s:=by
  rcases g with⟨kvs,k,e,ey,l,eH⟩|⟨kvs,k,b,e,ey,eb,l,eH⟩
  . subst ey eH
    obtain⟨z,hd,vs,rel,dd⟩:=SL I.hok e
    have hz:vs.length <= sizeLine:=by rw[<- rel.length];exact z
    have hl:(DC kvs k v).length <= sizeLine:=by have:=FV kvs k v;omega
    refine wpAny_setItem_pairs (hsz:=hz) (Ik ry) dd λ h' dd' hs=>h _ ?_
    have he:∃ q,h'.get? a=some q:=let ⟨q,_,_,hq,_⟩:=dd';⟨q,hq⟩
    exact JX I (by rw[e];exact True.intro) hs he (PD hl hd (rel.put k rv) dd')
  . subst ey eH
    cases(show u=Value.ref b from ry)
    obtain⟨z,hd,xs,rel,dd⟩:=X5 I.hok e
    have hz:xs.length <= sizeLine:=by rw[<- Paired.length rel];exact z
    have hl:(DC kvs k v).length <= sizeLine:=by have:=FV kvs k v;omega
    refine wpAny_setItem_heap (hsz:=hz) (tupleKind_room_in1 hu) (Ij I.hok eb) dd λ h' dd' hs=>h _ ?_
    obtain⟨q,es,ep,hq,h2,h3,h4,_,h5⟩:=dd'
    refine JX I (by rw[e];exact True.intro) hs ⟨q,hq⟩ ⟨hl,hd,_,(rel.put k eb rv).keeps λ c ys ec=>?_,q,es,ep,hq,h2,h3,h4,h5⟩
    rw[AE (Wq ec e (λ z=>nomatch z))]
    exact ec
end
section
variable{X:Cx}{pins:List (Addr × Obj)}{σ:St}{H:Hp}{s:Shared}{a:Addr}{kvs:List (Key × V)}{k:Key}{u:Value}{A:Around}{E:Value->Shared->Prop}
end
noncomputable def Ro(i:Expr):Prop:=∀ ov iv,subscripted i false ov iv=operate [ov,iv] (getItem ov iv)
theorem Sb{prog:Program}{w:World}{A:Around}{E:Value->Shared->Prop}{s:Shared}{env:Env}{value slice:Expr}{pos:Pos}{T id:String}{Q:Value->Shared->Prop}
    (hl:typeLookup (.type T) "__getitem__"=pure (some (.builtin id))) (hs:Ro slice)
    (h:wpAny (model prog w) A (eval value env) (λ o s₁=>wpAny (model prog w) A (eval slice env) (λ i s₂=>s₂.TypeIs o T/\wpAny (model prog w) A (getItem o i) Q E s₂) E s₁) E s) :
    wpAny (model prog w) A (eval (.Subscript value slice pos) env) Q E s:=by
  refine Subscript_ (wpAny_mono h (λ o s₁ h₁=>wpAny_mono h₁ (λ i s₂ h₂=>?_) λ _ _ x=>x) λ _ _ x=>x)
  obtain⟨hT,h₂⟩:=h₂
  unfold subscriptTail
  refine wpAny_bind ?_
  rw[getitemInPython_of_ne hT.not_modules]
  refine wpAny_bind (wpAny_specialOf hT hl ?_)
  have fin:wpAny (model prog w) A (subscripted slice false o i) (λ r s₃=>wpAny (model prog w) A (letTemporaryGo value o r >>= λ _=>pure r) Q E s₃) E s₂:=by
    rw[hs o i]
    exact wpAny_operating (wpAny_mono h₂ (λ r s₃ h₃=>wpAny_bind (wpAny_letTemporaryGo (wpAny_pure h₃))) λ _ _ x=>x)
  first
    | exact wpAny_pure (wpAny_bind fin)
    | exact wpAny_bind (wpAny_pure (wpAny_bind fin))
    | exact wpAny_bind fin
theorem MH{X:Cx}{pins:List (Addr × Obj)}{σ:St}{H:Hp}{s:Shared}{a:Addr}{y:V}{o:Option V}(I:Inv X pins σ H s)(g:DGet H a y o):s.TypeIs (.ref a) "dict":=by
  rcases g with⟨kvs,k,e,_,_⟩|⟨kvs,k,b,e,_,_,_⟩
  . obtain⟨_,_,vs,_,dd⟩:=KO I.hok e
    exact dd.typeIs
  . obtain⟨_,_,xs,_,dd⟩:=KN I.hok e
    exact dd.typeIs
noncomputable def NI(td ty:TE):TE:=λ σ H Q=>td σ H λ x H1=>ty σ H1 λ y H2=>∃ a v,x=.ref a/\DGet H2 a y (some v)/\Q v H2
noncomputable def Q2(ty td:TE):TE:=λ σ H Q=>ty σ H λ y H1=>td σ H1 λ x H2=>∃ a o,x=.ref a/\DGet H2 a y o/\Q (.bl o.isSome) H2
noncomputable def NL(td ty tv:TE):TS:=λ D σ H=>tv σ H λ v H1=>td σ H1 λ x H2=>ty σ H2 λ y H3=>∃ a H4,x=.ref a/\DPut H3 a y v H4/\D.nx σ H4
section
variable{X:Cx}{o i e value:Expr}{pos pos' tpos:Pos}{td ty tv:TE}
theorem TR(hu:X.A.units + 1 < cLine)(ho:PE X o td)(hi:PE X i ty)(hs:Ro i):PE X (.Subscript o i pos) (NI td ty):=by
  intro pins s σ H Q I h
  refine Sb PySem.F.slot_dict_getitem.lookup hs (thn (ho pins s σ H _ I h) λ u s1 ⟨x,H1,I1,rx,q1⟩=>thn (hi pins s1 σ H1 _ I1 q1) λ iv s2 ⟨y,H2,I2,ry,a,v,ex,g,q2⟩=>?_)
  subst ex
  obtain rfl:u=Value.ref a:=rx
  exact⟨MH I2 g,PK hu I2 g ry λ w' s3 I3 rw'=>⟨v,H2,I3,rw',q2⟩⟩
theorem VZ(hu:X.A.units + 1 < cLine)(hi:PE X i ty)(ho:PE X o td):PC X .In i o (Q2 ty td):=by
  intro pins s σ H Q I h
  refine thn (hi pins s σ H _ I h) λ iv s1 ⟨y,H1,I1,ry,q1⟩=>thn (ho pins s1 σ H1 _ I1 q1) λ u s2 ⟨x,H2,I2,rx,a,ov,ex,g,q2⟩=>?_
  subst ex
  obtain rfl:u=Value.ref a:=rx
  exact XX hu I2 g ry λ s3 I3=>⟨.bl ov.isSome,H2,I3,rfl,q2⟩
theorem TB(hu:X.A.units + 1 < cLine)(ho:PE X o td)(hi:PE X i ty)(hv:PE X value tv)(hs:swapsWith value (some (.Subscript o i pos')) pos.line X.env=pure false) :
    PS X (.Assign [.Subscript o i pos'] value pos) (NL td ty tv):=by
  intro pins s σ H D I h
  refine wpAny_Assign_Subscript (thn (hv pins s σ H _ I h) λ r s1 ⟨v,H1,I1,rv,q1⟩=>thn (ho pins s1 σ H1 _ I1 q1) λ u s2 ⟨x,H2,I2,rx,q2⟩=>thn (hi pins s2 σ H2 _ I2 q2) λ iv s3 ⟨y,H3,I3,ry,a,H4,ex,g,q3⟩=>?_) hs
  subst ex
  obtain rfl:u=Value.ref a:=rx
  exact PJ hu I3 g ry rv λ s4 I4=>⟨σ,H4,I4,q3⟩
end
theorem Rg{P:Program}{w:World}{H:Hp}(h:Heap)(hb:sysModules < h.objs.size):ObjOk P w H (h.push { cls:=.type "dict",data:=.dict #[] }) h.objs.size (.dK []):=
  ⟨Nat.zero_le _,beq_eq_false_iff_ne.mpr (Ne.symm (Nat.ne_of_lt hb)),[],.nil,Heap.DictOf.new h⟩
section
variable{X:Cx}{pos:Pos}
end
section
variable{X:Cx}{pins:List (Addr × Obj)}{σ:St}{H:Hp}{s:Shared}{a:Addr}{y d:V}{u r:Value}{o:Option V}{A:Around}{E:Value->Shared->Prop}
end
section
variable{X:Cx}{o e f:Expr}{apos cpos:Pos}{td ty tx:TE}
end
section
variable{X:Cx}{pins:List (Addr × Obj)}{σ:St}{H:Hp}{s:Shared}{a:Addr}{kvs:List (Key × V)}{A:Around}{E:Value->Shared->Prop}
end
section
variable{X:Cx}{pins:List (Addr × Obj)}{σ:St}{H:Hp}{s:Shared}{a:Addr}{y:V}{u:Value}{A:Around}{E:Value->Shared->Prop}
end
end L2
namespace L2
open PySem PySem.Spec PyProof.Rows
section
variable{X:Cx}
end
section
variable{κ:Type}[DecidableEq κ]
end
end L2
namespace L2
open PySem PySem.Spec PyProof.Rows
noncomputable def Af(cells:List (Str × Addr)):List (Str × NameKind)->List (Str × Addr)->List (Str × Addr)
  | [],acc=>acc
  | (n,k) :: r,acc=>if k == .free then Af cells r ((n,(cells.lookup n).getD 0) :: acc)else Af cells r acc
theorem Fx{env:Env}(f:Str × NameKind->List (Str × Addr)->Sem (ForInStep (List (Str × Addr))))
    (hf:∀ name kind cs,f (name,kind) cs=if(kind == NameKind.free)=true then(do let a <- cellOf env name;pure (ForInStep.yield ((name,a) :: cs)))else pure (ForInStep.yield cs)) :
    ∀ (names:List (Str × NameKind)) (acc:List (Str × Addr)),(∀ y ∈ names,y.2=.free->∃ c,env.cells.lookup y.1=some c)->forIn names acc f=pure (Af env.cells names acc)
  | [],acc,_=>rfl
  | (n,k) :: r,acc,hy=>by
    rw[List.forIn_cons,hf]
    have ih:=λ a=>Fx f hf r a λ z hz=>hy z (List.mem_cons_of_mem _ hz)
    by_cases hk:(k == NameKind.free)=true
    . obtain⟨c,hc⟩:=hy (n,k) List.mem_cons_self (by simpa using hk)
      have hc:env.cells.lookup n=some c:=hc
      have e1:cellOf env n=pure c:=by unfold cellOf;rw[hc]
      rw[if_pos hk,e1]
      show forIn r ((n,c) :: acc) f=_
      have e2:Af env.cells ((n,k) :: r) acc=Af env.cells r ((n,c) :: acc):=by
        rw[Af,if_pos hk,hc]
        rfl
      rw[ih,e2]
    . rw[if_neg hk]
      show forIn r acc f=_
      have e2:Af env.cells ((n,k) :: r) acc=Af env.cells r acc:=by
        rw[Af,if_neg hk]
      rw[ih,e2]
theorem De{scope:Scope}{env:Env}(h:∀ y ∈ scope.names,y.2=.free->∃ c,env.cells.lookup y.1=some c):closureFor scope env=pure (Af env.cells scope.names []):=by
  unfold closureFor
  dsimp only
  rw[Fx _ (λ name kind cs=>rfl) scope.names [] h]
  rfl
theorem E6{cells:List (Str × Addr)}:∀ {names:List (Str × NameKind)} {acc:List (Str × Addr)},(∀ y ∈ names,y.2=.free->∃ c,cells.lookup y.1=some c)->(∀ x c,acc.lookup x=some c->cells.lookup x=some c) ->
    ∀ x c,(Af cells names acc).lookup x=some c->cells.lookup x=some c
  | [],_,_,ha,x,c,e=>ha x c e
  | (n,k) :: r,acc,hy,ha,x,c,e=>by
    unfold Af at e
    have hr:∀ y ∈ r,y.2=.free->∃ c,cells.lookup y.1=some c:=λ z hz=>hy z (List.mem_cons_of_mem _ hz)
    by_cases hk:(k == NameKind.free)=true
    . rw[if_pos hk]at e
      refine E6 hr (λ z d q=>?_) x c e
      obtain⟨c0,hc0⟩:=hy (n,k) List.mem_cons_self (by simpa using hk)
      have hc0:cells.lookup n=some c0:=hc0
      rw[List.lookup_cons]at q
      by_cases hz:(z == n)=true
      . rw[hz,hc0]at q
        have:z=n:=by simpa using hz
        subst this
        simpa [hc0]using q
      . have hz':(z == n)=false:=by simpa using hz
        rw[hz']at q
        exact ha z d q
    . rw[if_neg hk]at e
      exact E6 hr ha x c e
theorem DN{cells:List (Str × Addr)}:∀ {names:List (Str × NameKind)} {acc:List (Str × Addr)} {x:Str},((acc.lookup x).isSome=true ∨ (x,NameKind.free) ∈ names)->((Af cells names acc).lookup x).isSome=true
  | [],_,_,h=>h.elim id λ z=>by cases z
  | (n,k) :: r,acc,x,h=>by
    unfold Af
    by_cases hk:(k == NameKind.free)=true
    . rw[if_pos hk]
      refine DN ?_
      by_cases hx:(x == n)=true
      . exact .inl (by rw[List.lookup_cons,hx];rfl)
      . have hx':(x == n)=false:=by simpa using hx
        rcases h with h|h
        . exact .inl (by rw[List.lookup_cons,hx'];exact h)
        . rcases List.mem_cons.mp h with h|h
          . cases h;simp at hx
          . exact .inr h
    . rw[if_neg hk]
      refine DN ?_
      rcases h with h|h
      . exact .inl h
      . rcases List.mem_cons.mp h with h|h
        . cases h;simp at hk
        . exact .inr h
noncomputable def Cn:Nat->List (Str × NameKind)->List (Str × Addr)
  | _,[]=>[]
  | n,(x,k) :: r=>if k == .cell then Cn (n + 1) r ++ [(x,n)]else Cn n r
theorem C8:∀ (names:List (Str × NameKind)) (n:Nat) (acc:List (Str × Addr)),cellsFrom n names acc=Cn n names ++ acc
  | [],_,_=>rfl
  | (x,k) :: r,n,acc=>by
    unfold cellsFrom Cn
    by_cases hk:(k == NameKind.cell)=true
    . rw[if_pos hk,if_pos hk,C8 r (n + 1),List.append_assoc];rfl
    . rw[if_neg hk,if_neg hk,C8 r n]
theorem Hm:∀ (names:List (Str × NameKind)) (n:Nat) (x:Str) (c:Addr),(Cn n names).lookup x=some c->(x,NameKind.cell) ∈ names
  | [],_,_,_,e=>by cases e
  | (y,k) :: r,n,x,c,e=>by
    unfold Cn at e
    by_cases hk:(k == NameKind.cell)=true
    . rw[if_pos hk]at e
      have hk':k=.cell:=by simpa using hk
      rw[List.lookup_append]at e
      cases q:(Cn (n + 1) r).lookup x with
      | some d=>exact List.mem_cons_of_mem _ (Hm r _ x d q)
      | none=>
        rw[q]at e
        simp only[Option.none_or,List.lookup_cons]at e
        by_cases hx:(x == y)=true
        . have:x=y:=by simpa using hx
          subst this;subst hk'
          exact List.mem_cons_self
        . have hx':(x == y)=false:=by simpa using hx
          rw[hx']at e;cases e
    . rw[if_neg hk]at e
      exact List.mem_cons_of_mem _ (Hm r n x c e)
theorem Hn:∀ (names:List (Str × NameKind)) (n:Nat) (x:Str),(x,NameKind.cell) ∈ names->∃ c,(Cn n names).lookup x=some c
  | [],_,_,h=>by cases h
  | (y,k) :: r,n,x,h=>by
    unfold Cn
    by_cases hk:(k == NameKind.cell)=true
    . rw[if_pos hk,List.lookup_append]
      rcases List.mem_cons.mp h with h|h
      . obtain⟨rfl,rfl⟩:=Prod.mk.inj h
        cases q:(Cn (n + 1) r).lookup x with
        | some d=>exact⟨d,rfl⟩
        | none=>exact⟨n,by simp[List.lookup_cons]⟩
      . obtain⟨c,hc⟩:=Hn r (n + 1) x h
        exact⟨c,by rw[hc];rfl⟩
    . rw[if_neg hk]
      rcases List.mem_cons.mp h with h|h
      . cases h;simp at hk
      . exact Hn r n x h
noncomputable def O0(scope:Scope)(C:Addr)(env:Env):Env:=
  { scope:=relabel scope env,locals:=C,globals:=env.globals,cells:=cellsFrom (C + 1) scope.names (Af env.cells scope.names []),qual:=env.qual,func:=none,code:=env.code,frame:=env.frame,builtins:=env.builtins }
theorem JQ{M:Model}{A:Around}{E:Value->Shared->Prop}{s:Shared}{scope:Scope}{cl:List (Str × Addr)}{env:Env}{Q:Env->Shared->Prop}
    (hQ:∀ h',(∀ b o,s.heap.get? b=some o->h'.get? b=some o)->h'.Ns s.heap.objs.size (λ _=>none)->(∀ x c,(Cn (s.heap.objs.size + 1) scope.names).lookup x=some c->h'.IsCell c none/\s.heap.objs.size < c) ->
      ((Cn (s.heap.objs.size + 1) scope.names).Pairwise λ x y=>x.2 ≠ y.2) ->
      Q { scope:=scope,locals:=s.heap.objs.size,globals:=env.globals,cells:=cellsFrom (s.heap.objs.size + 1) scope.names cl,qual:=env.qual,func:=none,code:=env.code,frame:=env.frame,builtins:=env.builtins } { s with heap:=h' }) :
    wpAny M A (newFunctionEnv scope env.globals cl [] env.qual none .none (some env)) Q E s:=by
  simp only[newFunctionEnv,Option.isSome_some,if_true]
  refine wpAny_bind (wpAny_alloc ?_)
  refine wpAny_bind (wpAny_layCells _ (λ name kind cells=>by cases hkc:kind == NameKind.cell <;> simp[hkc]) _ _ _ _ ?_)
  have ok:=cellsFrom_ok scope.names (s.heap.push { cls:=.type "dict",data:=.dict #[] }) (s.heap.objs.size + 1) [] ⟨λ _ _ hm=>(nomatch hm),List.Pairwise.nil⟩ (by rw[Heap.size_push];exact Nat.le_refl _)
  rw[Heap.size_push,C8,List.append_nil]at ok
  rw[show({ s with heap:=s.heap.push { cls:=.type "dict",data:=.dict #[] } }:Shared).heap.objs.size=s.heap.objs.size + 1 from Heap.size_push ..]
  refine wpAny_bind (wpAny_pure (wpAny_pure ?_))
  exact hQ _ (λ b o e=>pushCells_keeps _ _ b o (Heap.get?_push_of_some _ e)) ((Heap.Ns.new s.heap (.type "dict")).keeps (pushCells_keeps _ _)) (λ x c hc=>⟨(ok.empty x c (mem_of_lookup hc)).1,(ok.empty x c (mem_of_lookup hc)).2⟩) ok.apart
end L2
namespace L2
open PySem PySem.Spec PyProof.Rows
theorem Jj:∀ {names:List (Str × NameKind)} {x:Str} {k k':NameKind},(names.map (·.1)).Nodup->(x,k) ∈ names->(x,k') ∈ names->k=k'
  | [],_,_,_,_,h,_=>by cases h
  | (y,q) :: r,x,k,k',nd,h,h'=>by
    have nd:(y :: r.map (·.1)).Nodup:=nd
    obtain⟨n1,n2⟩:=List.nodup_cons.mp nd
    have out:∀ {z:NameKind},(y,z) ∈ r->False:=λ m=>n1 (List.mem_map.mpr ⟨_,m,rfl⟩)
    rcases List.mem_cons.mp h with e|e <;> rcases List.mem_cons.mp h' with e'|e'
    . cases e;cases e';rfl
    . cases e;exact(out e').elim
    . cases e';exact(out e).elim
    . exact Jj n2 e e'
theorem GS{env:Env}{x:Str}:∀ {names:List (Str × NameKind)},names.lookup x=some .free ->
    (names.map λ(n,k)=>if(k == NameKind.free && env.scope.kind == .function && env.kindOf n == some .cell)then(n,NameKind.cell)else(n,k)).lookup x=some .cell ∨
    (names.map λ(n,k)=>if(k == NameKind.free && env.scope.kind == .function && env.kindOf n == some .cell)then(n,NameKind.cell)else(n,k)).lookup x=some .free
  | [],h=>by simp at h
  | (n,k) :: r,h=>by
    have ih:=@GS env x r
    show List.lookup x ((if(k == NameKind.free && env.scope.kind == .function && env.kindOf n == some .cell)=true then(n,NameKind.cell)else(n,k)) :: _)=_ ∨ List.lookup x ((if(k == NameKind.free && env.scope.kind == .function && env.kindOf n == some .cell)=true then(n,NameKind.cell)else(n,k)) :: _)=_
    cases hx:x == n with
    | true=>
      simp only[List.lookup_cons,hx]at h
      cases h
      by_cases hc:(NameKind.free == NameKind.free && env.scope.kind == .function && env.kindOf n == some .cell)=true
      . rw[if_pos hc];exact .inl (by simp only[List.lookup_cons,hx])
      . rw[if_neg hc];exact .inr (by simp only[List.lookup_cons,hx])
    | false=>
      simp only[List.lookup_cons,hx]at h
      by_cases hc:(k == NameKind.free && env.scope.kind == .function && env.kindOf n == some .cell)=true
      . rw[if_pos hc];simp only[List.lookup_cons,hx];exact ih h
      . rw[if_neg hc];simp only[List.lookup_cons,hx];exact ih h
theorem Gb{env:Env}{x:Str}:∀ {names:List (Str × NameKind)},
    ((names.map λ(n,k)=>if(k == NameKind.free && env.scope.kind == .function && env.kindOf n == some .cell)then(n,NameKind.cell)else(n,k)).lookup x=some .cell ∨
    (names.map λ(n,k)=>if(k == NameKind.free && env.scope.kind == .function && env.kindOf n == some .cell)then(n,NameKind.cell)else(n,k)).lookup x=some .free) ->
    names.lookup x=some .cell ∨ names.lookup x=some .free
  | [],h=>by simp at h
  | (n,k) :: r,h=>by
    have ih:=@Gb env x r
    have h:List.lookup x ((if(k == NameKind.free && env.scope.kind == .function && env.kindOf n == some .cell)=true then(n,NameKind.cell)else(n,k)) :: _)=_ ∨ List.lookup x ((if(k == NameKind.free && env.scope.kind == .function && env.kindOf n == some .cell)=true then(n,NameKind.cell)else(n,k)) :: _)=_:=h
    cases hx:x == n with
    | true=>
      by_cases hc:(k == NameKind.free && env.scope.kind == .function && env.kindOf n == some .cell)=true
      . have hk:k=.free:=by
          have:=(Bool.and_eq_true _ _ ▸ (Bool.and_eq_true _ _ ▸ hc).1:(k == NameKind.free)=true/\_).1
          simpa using this
        exact .inr (by simp only[List.lookup_cons,hx,hk])
      . rw[if_neg hc]at h
        simp only[List.lookup_cons,hx]at h ⊢
        exact h
    | false=>
      simp only[List.lookup_cons,hx]
      refine ih ?_
      by_cases hc:(k == NameKind.free && env.scope.kind == .function && env.kindOf n == some .cell)=true
      . rw[if_pos hc]at h;simp only[List.lookup_cons,hx]at h;exact h
      . rw[if_neg hc]at h;simp only[List.lookup_cons,hx]at h;exact h
noncomputable def cCx(X:Cx)(N':List Str)(scope:Scope)(s:Shared)(H:Hp)(ex:List Addr):Cx:=
  { X with N:=N',s₀:=s,H₀:=H,env:=O0 scope s.heap.objs.size X.env,outer:=X.stack,ex:=ex,fn:=λ x=>decide ((x,NameKind.cell) ∈ scope.names),pn:=[],xe:=λ _ _=>False }
structure CSc(X:Cx)(scope:Scope)(fr:List Str)(ix:List Nat):Prop where
  kind:scope.kind=.function
  nd:(scope.names.map (·.1)).Nodup
  free:(scope.names.all λ y=>y.2 != .free || X.env.kindOf y.1 == some .cell || X.env.kindOf y.1 == some .free)=true
  frs:(fr.all λ x=>scope.names.lookup x == some .free)=true
  ixs:fr.map some=ix.map λ i=>X.N[i]?
  loc:(scope.names.all λ y=>y.2 != .local || scope.names.lookup y.1 == some .local)=true
noncomputable def GO(n:Nat)(ix:List Nat)(σ:St):St:=List.replicate n none ++ ix.map λ i=>(σ[i]?).join
section
variable{X:Cx}{scope:Scope}{fr loc:List Str}{ix:List Nat}{pins:List (Addr × Obj)}{σ:St}{H:Hp}{s:Shared}
theorem CSc.outer(S:CSc X scope fr ix){y:Str × NameKind}(hy:y ∈ scope.names)(e:y.2=.free):X.env.kindOf y.1=some .cell ∨ X.env.kindOf y.1=some .free:=by
  have h:=List.all_eq_true.mp S.free y hy
  rw[e]at h
  simpa using h
theorem CSc.clos(S:CSc X scope fr ix)(ok:X.Ok):∀ y ∈ scope.names,y.2=.free->∃ c,X.env.cells.lookup y.1=some c:=λ y hy e=>ok.has y.1 (S.outer hy e)
theorem DZ(S:CSc X scope fr ix)(ok:X.Ok){n:Nat}{x:Str}{c:Addr}(e:(cellsFrom n scope.names (Af X.env.cells scope.names [])).lookup x=some c) :
    (Cn n scope.names).lookup x=some c ∨ X.env.cells.lookup x=some c:=by
  rw[C8,List.lookup_append]at e
  cases q:(Cn n scope.names).lookup x with
  | some d=>rw[q]at e;exact .inl e
  | none=>
    rw[q]at e
    exact .inr (E6 (S.clos ok) (λ _ _ z=>by simp at z) x c e)
theorem Hs(S:CSc X scope fr ix)(I:Inv X pins σ H s){ex:List Addr}(hex:∀ b ∈ ex,FpOk X pins H b){h':Heap}(hk:∀ b o,s.heap.get? b=some o->h'.get? b=some o)(hn:h'.Ns s.heap.objs.size λ _=>none)
    (ho:∀ x c,(Cn (s.heap.objs.size + 1) scope.names).lookup x=some c->h'.IsCell c none/\s.heap.objs.size < c) (ha:(Cn (s.heap.objs.size + 1) scope.names).Pairwise λ x y=>x.2 ≠ y.2) (hlt:∀ b ∈ ex,b < s.heap.objs.size) :
    Inv (cCx X (loc ++ fr) scope s H ex) [] (GO loc.length ix σ) H { s with heap:=h' }:=by
  have old:∀ x c,X.env.cells.lookup x=some c->c < s.heap.objs.size:=λ x c e=>let ⟨v,z⟩:=I.cell x c e;z.lt
  have lenix:fr.length=ix.length:=by simpa using congrArg List.length S.ixs
  refine⟨⟨I.ok.mod,?_,I.ok.glob,I.ok.blt,Nat.le_refl _,?_,?_,?_,I.ok.hd,I.ok.frames,.inl rfl,?_,I.bs,Nat.le_trans I.ok.bsz I.sz,?_,?_,I.stack,I.stkFree⟩,rfl,I.bare,Un.kept hk,⟨_,hn,?_⟩,?_,I.hok.fresh (Nat.le_refl _),?_,?_,I.hok.kept hk,?_⟩
  . exact S.kind
  . intro x y c e1 e2
    rcases DZ S I.ok e1 with a|a <;> rcases DZ S I.ok e2 with b|b
    . exact name_of_addr ha (PySem.mem_of_lookup a) (PySem.mem_of_lookup b)
    . exact absurd (Nat.lt_trans (ho x c a).2 (old y c b)) (Nat.lt_irrefl _)
    . exact absurd (Nat.lt_trans (ho y c b).2 (old x c a)) (Nat.lt_irrefl _)
    . exact I.ok.inj x y c a b
  . intro x hx
    rcases Gb hx with e|e
    . exact Option.isSome_iff_exists.mp (PySem.W.cellsFrom_some _ _ _ (.inl e))
    . exact Option.isSome_iff_exists.mp (PySem.W.cellsFrom_some _ _ _ (.inr (DN (.inr (PySem.mem_of_lookup e)))))
  . intro x c hf e
    have hf:(x,NameKind.cell) ∈ scope.names:=of_decide_eq_true hf
    obtain⟨d,hd⟩:=Hn scope.names (s.heap.objs.size + 1) x hf
    have e':(cellsFrom (s.heap.objs.size + 1) scope.names (Af X.env.cells scope.names [])).lookup x=some c:=e
    rw[C8,List.lookup_append,hd]at e'
    cases e'
    exact Nat.le_of_lt (ho x _ hd).2
  . intro b hb
    refine⟨Nat.ne_of_lt (hlt b hb),λ x c e z=>?_⟩
    rcases DZ S I.ok e with a|a
    . exact absurd (Nat.lt_trans (ho x c a).2 (by rw[z];exact hlt b hb)) (Nat.lt_irrefl _)
    . exact(hex b hb).2.2.2.2.1 x c a z
  . intro b o e hb
    rcases(hex b hb).2.2.2.1 with z|z
    . exact I.ok.noex b o e z
    . exact absurd (Nat.lt_of_lt_of_le (Heap.lt_size (I.ok.bs b o e).1) z) (Nat.lt_irrefl _)
  . intro b hb hf
    rcases List.mem_cons.mp (I.stkSub b hf)with z|z
    . exact(hex b hb).2.1 z
    . exact(hex b hb).2.2.1 z
  . intro i x v e1 e2 e3
    have e1:(loc ++ fr)[i]? = some x:=e1
    unfold GO at e2
    by_cases hi:i < loc.length
    . rw[List.getElem?_append_left (by simpa using hi),List.getElem?_replicate]at e2
      split at e2 <;> cases e2
    . have hi':loc.length <= i:=Nat.not_lt.mp hi
      rw[List.getElem?_append_right (by simpa using hi')]at e2
      rw[List.getElem?_append_right hi']at e1
      rw[List.length_replicate,List.getElem?_map]at e2
      generalize hj:i - loc.length=j at e1 e2
      have e4:(fr.map some)[j]? = some (some x):=by rw[List.getElem?_map,e1];rfl
      rw[S.ixs,List.getElem?_map]at e4
      cases q:ix[j]? with
      | none=>rw[q]at e2;cases e2
      | some k=>
        rw[q]at e2 e4
        have e2:(σ[k]?).join=some v:=Option.some.inj e2
        have e4:X.N[k]? = some x:=Option.some.inj e4
        have e5:σ[k]? = some (some v):=by
          cases w:σ[k]? with
          | none=>rw[w]at e2;cases e2
          | some z=>rw[w]at e2;simpa using e2
        have hfx:=List.all_eq_true.mp S.frs x (List.mem_of_getElem? e1)
        have hfx:scope.names.lookup x=some .free:=by simpa using hfx
        have hmem:=PySem.mem_of_lookup hfx
        have hout:=S.outer hmem rfl
        obtain⟨m,hm,hl⟩:=I.loc
        obtain⟨u,r,l⟩:=hl k x v e4 e5 (.inr hout)
        refine⟨u,r,.inr ⟨GS hfx,?_⟩⟩
        rcases l with⟨kk,_⟩|⟨kk,c,ec,z⟩
        . rcases hout with w|w
          . rw[kk]at w;cases w
          . rw[kk]at w;cases w
        . have own0:(Cn (s.heap.objs.size + 1) scope.names).lookup x=none:=by
            cases w:(Cn (s.heap.objs.size + 1) scope.names).lookup x with
            | none=>rfl
            | some d=>exact absurd (Jj S.nd (Hm _ _ _ _ w) hmem) (by decide)
          have hc:(Af X.env.cells scope.names []).lookup x=some c:=by
            obtain⟨d,hd⟩:=Option.isSome_iff_exists.mp (DN (cells:=X.env.cells) (acc:=[]) (.inr hmem))
            have:=E6 (S.clos I.ok) (λ _ _ z=>by simp at z) x d hd
            rw[ec]at this;cases this
            exact hd
          refine⟨c,?_,z.keeps hk⟩
          show(cellsFrom (s.heap.objs.size + 1) scope.names (Af X.env.cells scope.names [])).lookup x=some c
          rw[C8,List.lookup_append,own0,hc]
          rfl
  . intro x c e
    rcases DZ S I.ok e with a|a
    . exact⟨_,(ho x c a).1⟩
    . obtain⟨v,z⟩:=I.cell x c a
      exact⟨v,z.keeps hk⟩
  . intro x c e
    rcases DZ S I.ok e with a|a
    . exact I.hok.fresh (Nat.le_of_lt (ho x c a).2)
    . exact I.freeC x c a
  . intro p hp
    cases hp
  . unfold GO
    show _=(loc ++ fr).length
    simp[lenix]
end
end L2
namespace L2
open PySem PySem.Spec PyProof.Rows
section
variable{prog:Program}{w:World}{A:Around}{R:Result->Shared->Prop}{s:Shared}
theorem Gp{elt target iter:Expr}{ifs:List Expr}{scope:Scope}{pos:Pos}{it acc:Value}{env:Env}(I:Nat->Shared->Prop)
    (turn:∀ n s,I n s->wpAny (model prog w) A (pyNext it) (λ r s₁=>match r with
      | none=>R (.ok .next) s₁
      | some v=>wpAny (model prog w) A (letOwnedTupleGo target it v) (λ _ s₁=>wpAny (model prog w) A (assign target env v) (λ _ s₂=>
          wpAny (model prog w) A (forIn ifs true λ c r=>if r=true then do let ok <- isTrue c env (eval c env);pure (ForInStep.yield ok)else pure (ForInStep.yield r)) (λ ok s₃=>
            if ok=true then wpAny (model prog w) A (eval elt env) (λ x s₄=>
              wpAny (model prog w) A (call (.builtin "list.append") [acc,x]) (λ _ s₅=>∃ m,m < n/\I m s₅) (λ _ _=>False) s₄) (λ _ _=>False) s₃
            else ∃ m,m < n/\I m s₃) (λ _ _=>False) s₂) (λ _ _=>False) s₁) (λ _ _=>False) s₁) (λ _ _=>False) s)
    (n:Nat) (h:I n s) :
    codeAny (model prog w) A (.compLoop (.ListComp elt [⟨target,iter,ifs,0⟩] scope pos) 0 it acc env) R s:=by
  refine codeAny_loop rfl I (λ n s hI=>?_) n h
  show wpAny _ A ((compTurn (.ListComp elt [⟨target,iter,ifs,0⟩] scope pos) 0 it acc env).onRaise (λ x=>do noteFrame x env;theTreesLotGoes x)) _ _ s
  refine wpAny_noted ?_
  rw[compTurn_list]
  refine wpAny_bind (wpAny_standAt (wpAny_bind (wpAny_mono (turn n s hI) (λ r s₁ h₁=>?_) λ _ _ h'=>h'.elim)))
  cases r with
  | none=>exact wpAny_pure h₁
  | some v=>
    refine wpAny_bind (wpAny_mono h₁ (λ _ s₁ h₁=>?_) λ _ _ h'=>h'.elim)
    refine wpAny_bind (wpAny_mono h₁ (λ _ s₂ h₂=>wpAny_bind (wpAny_mono h₂ (λ ok s₃ h₃=>?_) λ _ _ h'=>h'.elim)) λ _ _ h'=>h'.elim)
    cases ok with
    | false=>exact wpAny_pure ⟨rfl,h₃⟩
    | true=>
      exact wpAny_bind (wpAny_bind (wpAny_mono h₃ (λ x s₄ h₄=>wpAny_bind (wpAny_mono h₄ (λ _ s₅ h₅=>wpAny_pure (wpAny_pure ⟨rfl,h₅⟩)) λ _ _ h'=>h'.elim)) λ _ _ h'=>h'.elim))
end
noncomputable def PF(X:Cx)(ifs:List Expr)(t:TT):Prop:=
  ∀ (pins:List (Addr × Obj)) (s:Shared) (σ:St) (H:Hp) (Q:Bool->Hp->Prop),Inv X pins σ H s->t σ H Q ->
    wpAny (model X.prog X.w) X.A (forIn ifs true λ c r=>if r=true then do let ok <- isTrue c X.env (eval c X.env);pure (ForInStep.yield ok)else pure (ForInStep.yield r)) (TP X pins σ Q) X.xe s
noncomputable def Pq:TT:=λ _ H Q=>Q true H
theorem VN{X:Cx}:PF X [] Pq:=λ pins s σ H Q I h=>wpAny_tests_nil ⟨H,I,h⟩
theorem VM{X:Cx}{c:Expr}{t:TT}(h:PT X c t):PF X [c] t:=λ pins s σ H Q I q=>wpAny_tests_one (h pins s σ H Q I q)
noncomputable def SM(J:It)(D:Addr)(σ0:St)(H0:Hp)(g:TG)(tf:TT)(te:TE)(Q:VK):Prop:=∃ W:Nat->Nat->St->List V->Hp->Prop,
  (∃ m,W 0 m σ0 [] (upd H0 D (.lst [])))/\∀ i m σ ys H,W i m σ ys H->H D=some (.lst ys) /\
    ((J.stop i H/\Q (.ref D) H) ∨ (J.go i H/\ys.length < sizeLine/\∃ N:St->List V->Hp->Prop,(∀ σ' ys' H',N σ' ys' H'->∃ m',m' < m/\W (i + 1) m' σ' ys' H') /\
      ∀ x H',J.yld i H x H'->g x σ H' λ σ2 H2=>tf σ2 H2 λ b H3=>
        if b=true then te σ2 H3 λ v H4=>H4 D=some (.lst ys)/\N σ2 (ys ++ [v]) (upd H4 D (.lst (ys ++ [v])))
        else N σ2 ys H3))
noncomputable def IE(n:Nat)(ix:List Nat)(wi:TI)(g:TG)(tf:TT)(te:TE):TE:=λ σ H Q=>wi σ H λ J H1=>∀ D,H1 D=none->SM J D (GO n ix σ) H1 g tf te Q
section
variable{X:Cx}
theorem PZ{pins:List (Addr × Obj)}{σ:St}{H:Hp}{s:Shared}{D:Addr}{ys:List V}{x:V}{u:Value}{Q:Value->Shared->Prop}{E:Value->Shared->Prop}(I:Inv X pins σ H s)(hD:H D=some (.lst ys))(r:RelV x u)(hz:ys.length < sizeLine)
    (h:∀ v s',Inv X pins σ (upd H D (.lst (ys ++ [x]))) s'->Q v s'):wpAny (model X.prog X.w) X.A (call (.builtin "list.append") [.ref D,u]) Q E s:=by
  have I':=I.wish λ _ _=>False
  have q:=CH (X:=X.wish λ _ _=>False) pins s σ H (.ref D) [x] (.ref D) [u] (λ v H'=>H'=upd H D (.lst (ys ++ [x]))) I' rfl (.cons r .nil) ⟨D,ys,x,rfl,rfl,hD,hz,rfl⟩
  refine wpAny_mono q (λ v s' ⟨v',H',I2,_,e⟩=>?_) λ _ _ z=>False.elim z
  subst e
  exact h v s' I2.unwish
theorem TU{elt tg iter:Expr}{ifs:List Expr}{scope:Scope}{pos:Pos}{loc fr:List Str}{ix:List Nat}{wi:TI}{g:TG}{tf:TT}{te:TE}(hc:X.calm=true)(S:CSc X scope fr ix)(hi:PI X tg iter wi)
    (hg:∀ s H ex,PG (cCx X (loc ++ fr) scope s H ex) tg g) (hf:∀ s H ex,PF (cCx X (loc ++ fr) scope s H ex) ifs tf) (he:∀ s H ex,PE (cCx X (loc ++ fr) scope s H ex) elt te)
    (hs:∀ x,foldedSetIterable iter X.env x=pure x:=by intro _;rfl):PE X (.ListComp elt [⟨tg,iter,ifs,0⟩] scope pos) (IE loc.length ix wi g tf te):=by
  intro pins s σ H Q I h
  rw[eval_ListComp]
  have hnames:∀ y ∈ scope.names,y.2=.local->scope.names.lookup y.1=some .local:=λ y hy e=>by
    have:=List.all_eq_true.mp S.loc y hy
    rw[e]at this
    simpa using this
  refine wpAny_comprehension_free (use:=none) rfl hs (De (S.clos I.ok)) S.kind hnames (thn (hi pins s σ H _ I h) λ v s1 h1=>thn h1 λ itv s2 h2=>?_)
  obtain⟨it,fp,tn,J,H2,rfl,I2,T,st2,f2,hW⟩:=h2
  refine wpAny_newObj_type ?_
  have fresh2:H2 s2.heap.objs.size=none:=I2.hok.fresh (Nat.le_refl _)
  have I3:=I2.lnew (its:=[]) (ys:=[]) (t':=s2.toks) .nil (Nat.zero_le _)
  obtain⟨W,⟨m0,w0⟩,turn⟩:=hW s2.heap.objs.size fresh2
  have lt2:∀ b ∈ fp,b < s2.heap.objs.size:=λ b hb=>let ⟨o,e,_⟩:=T.obj 0 _ st2 b hb;Heap.lt_size e
  have f3:∀ b ∈ fp,FpOk X pins (upd H2 s2.heap.objs.size (.lst [])) b:=λ b hb=>⟨by rw[AE (Nat.ne_of_lt (lt2 b hb))];exact(f2 b hb).1,(f2 b hb).2⟩
  have lt3:∀ b ∈ fp,b < (s2.heap.push { cls:=.type "list",data:=.seq ([]:List Value).toArray }).objs.size:=λ b hb=>by rw[Heap.size_push];exact Nat.lt_succ_of_lt (lt2 b hb)
  generalize hs3:({ s2 with heap:=s2.heap.push { cls:=.type "list",data:=.seq ([]:List Value).toArray } }:Shared)=s3 at *
  have lt3:∀ b ∈ fp,b < s3.heap.objs.size:=by rw[<- hs3];exact lt3
  have st3:tn 0 s3.heap:=T.keep _ _ _ st2 λ b hb o e=>by rw[<- hs3];exact Heap.get?_push_of_some _ e
  refine JQ λ h' hk hn ho ha=>?_
  have I4:=Hs (loc:=loc) S I3 f3 hk hn ho ha lt3
  have fpX:∀ {H':Hp},(∀ b ∈ fp,H' b=none)->∀ b ∈ fp,FpOk (cCx X (loc ++ fr) scope s3 (upd H2 s2.heap.objs.size (.lst [])) fp) [] H' b:=λ hn b hb=>
    ⟨hn b hb,(I4.ok.exf b hb).1,I4.ok.exfs b hb,.inl hb,(I4.ok.exf b hb).2,λ p hp=>by cases hp⟩
  have loop:codeAny (model X.prog X.w) X.A (.compLoop (.ListComp elt [⟨tg,iter,ifs,0⟩] scope pos) 0 (.ref it) (.ref s2.heap.objs.size) (O0 scope s3.heap.objs.size X.env))
      (compPost (model X.prog X.w) X.A X.xe none (EP X pins σ Q) (.ref s2.heap.objs.size) s3.heap.objs.size) { s3 with heap:=h' }:=by
    refine Gp (λ n s'=>∃ i σ' ys H',Inv (cCx X (loc ++ fr) scope s3 (upd H2 s2.heap.objs.size (.lst [])) fp) [] σ' H' s'/\tn i s'.heap/\(∀ b ∈ fp,H' b=none)/\W i n σ' ys H') ?_ m0
      ⟨0,_,[],_,I4,T.keep _ _ _ st3 λ b hb o e=>hk b o e,λ b hb=>(f3 b hb).1,w0⟩
    rintro n s5 ⟨i,σ5,ys,H5,I5,st5,fr5,w5⟩
    obtain⟨hD,w5⟩:=turn i n σ5 ys H5 w5
    rcases w5 with⟨stop,qn⟩|⟨go,hz,N,hN,step⟩
    . refine thn (T.done (cCx X (loc ++ fr) scope s3 (upd H2 s2.heap.objs.size (.lst [])) fp) rfl rfl rfl hc i [] s5 σ5 H5 _ I5 (fpX fr5) st5 stop) λ r s6 ⟨hr,I6⟩=>?_
      subst hr
      obtain⟨m,hm,_⟩:=I6.loc
      refine⟨m,hm,λ h'' hs=>?_⟩
      have neC:∀ b o,s3.heap.get? b=some o->b ≠ s3.heap.objs.size:=λ b o e=>Nat.ne_of_lt (Heap.lt_size e)
      have un:=I6.base
      refine⟨.ref s2.heap.objs.size,H5,I3.call' (s':={ s6 with heap:=h'' }) (ch:=fp) I6.os ⟨λ b o e n hb hx=>?_,λ b o e n hb hx=>?_,un.free,λ b o e hx=>?_,un.tups,un.frzs,un.tbls⟩ ?_ I6.bare ?_,rfl,qn⟩
      . exact(hs.2 b (neC b o e)).trans (un.keep b o e n hb hx)
      . obtain⟨sl,q⟩:=un.slot b o e n hb hx
        exact⟨sl,(hs.2 b (neC b o e)).trans q⟩
      . obtain⟨o',q⟩:=un.there b o e hx
        exact⟨o',(hs.2 b (neC b o e)).trans q⟩
      . intro b ob e
        have hfree:H5 s3.heap.objs.size=none:=I6.free
        refine(I6.hok b ob e).stay (λ c w' hc q=>(hs.2 c ?_).trans q) (λ _ q=>q) λ _ _ q=>q
        intro z
        rcases hc with hc|hc
        . rw[<- hc,z,hfree]at e;cases e
        . rw[z,hfree]at hc;cases hc
      . intro b hb
        obtain⟨_,a2,_,a4,a5,a6⟩:=f3 b hb
        exact⟨a4,a2,a5,a6⟩
    . refine thn (T.item (cCx X (loc ++ fr) scope s3 (upd H2 s2.heap.objs.size (.lst [])) fp) rfl rfl rfl hc i [] s5 σ5 H5 _ I5 (fpX fr5) st5 go) λ r s6 ⟨u,hr,h6⟩=>?_
      subst hr
      refine thn h6 λ _ s7 ⟨x,H7,I7,r7,y7,st7,fr7⟩=>?_
      have I7':=I7.pinned (fpX fr7) (T.obj _ _ st7)
      have keepI:∀ {σ8:St} {H8:Hp} {s8:Shared},Inv (cCx X (loc ++ fr) scope s3 (upd H2 s2.heap.objs.size (.lst [])) fp) ([] ++ Ex fp s7.heap) σ8 H8 s8->tn (i + 1) s8.heap/\∀ b ∈ fp,H8 b=none:=λ {σ8 H8 s8} I8=>by
        refine⟨T.keep _ _ _ st7 λ b hb o e=>(I8.pin (b,o) (List.mem_append_right _ (List.mem_append_right _ (CI hb e)))).1,λ b hb=>?_⟩
        obtain⟨o,e,d⟩:=T.obj _ _ st7 b hb
        exact(I8.pin (b,o) (List.mem_append_right _ (List.mem_append_right _ (CI hb e)))).2.1
      refine thn (hg s3 (upd H2 s2.heap.objs.size (.lst [])) fp _ s7 σ5 H7 x u _ I7' r7 (step x H7 y7)) λ _ s8 ⟨σ8,H8,I8,q8⟩=>?_
      refine thn (hf s3 (upd H2 s2.heap.objs.size (.lst [])) fp _ s8 σ8 H8 _ I8 q8) λ b s9 ⟨H9,I9,q9⟩=>?_
      cases b with
      | false=>
        rw[if_neg Bool.false_ne_true]at q9 ⊢
        obtain⟨m',hm,w9⟩:=hN _ _ _ q9
        exact⟨m',hm,i + 1,σ8,ys,H9,I9.unpinned,(keepI I9).1,(keepI I9).2,w9⟩
      | true=>
        rw[if_pos rfl]at q9 ⊢
        refine thn (he s3 (upd H2 s2.heap.objs.size (.lst [])) fp _ s9 σ8 H9 _ I9 q9) λ e10 s10 ⟨v10,H10,I10,r10,hD10,n10⟩=>?_
        obtain⟨m',hm,w10⟩:=hN _ _ _ n10
        refine PZ (X:=cCx X (loc ++ fr) scope s3 (upd H2 s2.heap.objs.size (.lst [])) fp) I10 hD10 r10 hz λ _ s11 I11=>?_
        exact⟨m',hm,i + 1,σ8,_,_,I11.unpinned,(keepI I11).1,(keepI I11).2,w10⟩
  exact codeAny_compStart_list loop (T.self X.A 0 _ _ _ (T.keep _ _ _ st3 λ b hb o e=>hk b o e) loop)
end
end L2
namespace L2
open PySem PySem.Spec PyProof.Rows
section
variable{X:Cx}
theorem Nv{elt tg iter:Expr}{ifs:List Expr}{scope:Scope}{pos:Pos}{loc fr:List Str}{ix:List Nat}{g:TG}{tf:TT}{te:TE}{pins:List (Addr × Obj)}{σ:St}{Q:VK}{it:Addr}{fp:List Addr}{tn:Nat->Heap->Prop}{J:It}{H2:Hp}{s2:Shared}{E:Value->Shared->Prop}
    {RR:Value->Addr->Result->Shared->Prop} (hc:X.calm=true) (S:CSc X scope fr ix)
    (hg:∀ s H ex,PG (cCx X (loc ++ fr) scope s H ex) tg g) (hf:∀ s H ex,PF (cCx X (loc ++ fr) scope s H ex) ifs tf) (he:∀ s H ex,PE (cCx X (loc ++ fr) scope s H ex) elt te)
    (I2:Inv X pins σ H2 s2) (T:Turn X.prog X.w X.K tg J fp it tn) (st2:tn 0 s2.heap) (f2:∀ b ∈ fp,FpOk X pins H2 b) (hW:∀ D,H2 D=none->SM J D (GO loc.length ix σ) H2 g tf te Q)
    (hfin:∀ (s3 s6:Shared) (H5:Hp) (σ5:St) (D:Addr),Inv X pins σ (upd H2 D (.lst [])) s3->Inv (cCx X (loc ++ fr) scope s3 (upd H2 D (.lst [])) fp) [] σ5 H5 s6->(∀ b ∈ fp,FpOk X pins (upd H2 D (.lst [])) b)->Q (.ref D) H5->RR (.ref D) s3.heap.objs.size (.ok .next) s6) :
    wpAny (model X.prog X.w) X.A (newList []) (λ acc s₃=>wpAny (model X.prog X.w) X.A (newFunctionEnv scope X.env.globals (Af X.env.cells scope.names []) [] X.env.qual none .none (some X.env)) (λ cenv s₄=>
      codeAny (model X.prog X.w) X.A (.compStart (.ListComp elt [⟨tg,iter,ifs,0⟩] scope pos) 0 (.ref it) acc { cenv with scope:=relabel scope X.env }) (RR acc cenv.locals) s₄) E s₃) E s2:=by
  refine wpAny_newObj_type ?_
  have fresh2:H2 s2.heap.objs.size=none:=I2.hok.fresh (Nat.le_refl _)
  have I3:=I2.lnew (its:=[]) (ys:=[]) (t':=s2.toks) .nil (Nat.zero_le _)
  obtain⟨W,⟨m0,w0⟩,turn⟩:=hW s2.heap.objs.size fresh2
  have lt2:∀ b ∈ fp,b < s2.heap.objs.size:=λ b hb=>let ⟨o,e,_⟩:=T.obj 0 _ st2 b hb;Heap.lt_size e
  have f3:∀ b ∈ fp,FpOk X pins (upd H2 s2.heap.objs.size (.lst [])) b:=λ b hb=>⟨by rw[AE (Nat.ne_of_lt (lt2 b hb))];exact(f2 b hb).1,(f2 b hb).2⟩
  have lt3:∀ b ∈ fp,b < (s2.heap.push { cls:=.type "list",data:=.seq ([]:List Value).toArray }).objs.size:=λ b hb=>by rw[Heap.size_push];exact Nat.lt_succ_of_lt (lt2 b hb)
  generalize hs3:({ s2 with heap:=s2.heap.push { cls:=.type "list",data:=.seq ([]:List Value).toArray } }:Shared)=s3 at *
  have lt3:∀ b ∈ fp,b < s3.heap.objs.size:=by rw[<- hs3];exact lt3
  have st3:tn 0 s3.heap:=T.keep _ _ _ st2 λ b hb o e=>by rw[<- hs3];exact Heap.get?_push_of_some _ e
  refine JQ λ h' hk hn ho ha=>?_
  have I4:=Hs (loc:=loc) S I3 f3 hk hn ho ha lt3
  have fpX:∀ {H':Hp},(∀ b ∈ fp,H' b=none)->∀ b ∈ fp,FpOk (cCx X (loc ++ fr) scope s3 (upd H2 s2.heap.objs.size (.lst [])) fp) [] H' b:=λ hn b hb=>
    ⟨hn b hb,(I4.ok.exf b hb).1,I4.ok.exfs b hb,.inl hb,(I4.ok.exf b hb).2,λ p hp=>by cases hp⟩
  have loop:codeAny (model X.prog X.w) X.A (.compLoop (.ListComp elt [⟨tg,iter,ifs,0⟩] scope pos) 0 (.ref it) (.ref s2.heap.objs.size) (O0 scope s3.heap.objs.size X.env))
      (RR (.ref s2.heap.objs.size) s3.heap.objs.size) { s3 with heap:=h' }:=by
    refine Gp (λ n s'=>∃ i σ' ys H',Inv (cCx X (loc ++ fr) scope s3 (upd H2 s2.heap.objs.size (.lst [])) fp) [] σ' H' s'/\tn i s'.heap/\(∀ b ∈ fp,H' b=none)/\W i n σ' ys H') ?_ m0
      ⟨0,_,[],_,I4,T.keep _ _ _ st3 λ b hb o e=>hk b o e,λ b hb=>(f3 b hb).1,w0⟩
    rintro n s5 ⟨i,σ5,ys,H5,I5,st5,fr5,w5⟩
    obtain⟨hD,w5⟩:=turn i n σ5 ys H5 w5
    rcases w5 with⟨stop,qn⟩|⟨go,hz,N,hN,step⟩
    . refine thn (T.done (cCx X (loc ++ fr) scope s3 (upd H2 s2.heap.objs.size (.lst [])) fp) rfl rfl rfl hc i [] s5 σ5 H5 _ I5 (fpX fr5) st5 stop) λ r s6 ⟨hr,I6⟩=>?_
      subst hr
      exact hfin s3 s6 H5 σ5 s2.heap.objs.size I3 I6 f3 qn
    . refine thn (T.item (cCx X (loc ++ fr) scope s3 (upd H2 s2.heap.objs.size (.lst [])) fp) rfl rfl rfl hc i [] s5 σ5 H5 _ I5 (fpX fr5) st5 go) λ r s6 ⟨u,hr,h6⟩=>?_
      subst hr
      refine thn h6 λ _ s7 ⟨x,H7,I7,r7,y7,st7,fr7⟩=>?_
      have I7':=I7.pinned (fpX fr7) (T.obj _ _ st7)
      have keepI:∀ {σ8:St} {H8:Hp} {s8:Shared},Inv (cCx X (loc ++ fr) scope s3 (upd H2 s2.heap.objs.size (.lst [])) fp) ([] ++ Ex fp s7.heap) σ8 H8 s8->tn (i + 1) s8.heap/\∀ b ∈ fp,H8 b=none:=λ {σ8 H8 s8} I8=>by
        refine⟨T.keep _ _ _ st7 λ b hb o e=>(I8.pin (b,o) (List.mem_append_right _ (List.mem_append_right _ (CI hb e)))).1,λ b hb=>?_⟩
        obtain⟨o,e,d⟩:=T.obj _ _ st7 b hb
        exact(I8.pin (b,o) (List.mem_append_right _ (List.mem_append_right _ (CI hb e)))).2.1
      refine thn (hg s3 (upd H2 s2.heap.objs.size (.lst [])) fp _ s7 σ5 H7 x u _ I7' r7 (step x H7 y7)) λ _ s8 ⟨σ8,H8,I8,q8⟩=>?_
      refine thn (hf s3 (upd H2 s2.heap.objs.size (.lst [])) fp _ s8 σ8 H8 _ I8 q8) λ b s9 ⟨H9,I9,q9⟩=>?_
      cases b with
      | false=>
        rw[if_neg Bool.false_ne_true]at q9 ⊢
        obtain⟨m',hm,w9⟩:=hN _ _ _ q9
        exact⟨m',hm,i + 1,σ8,ys,H9,I9.unpinned,(keepI I9).1,(keepI I9).2,w9⟩
      | true=>
        rw[if_pos rfl]at q9 ⊢
        refine thn (he s3 (upd H2 s2.heap.objs.size (.lst [])) fp _ s9 σ8 H9 _ I9 q9) λ e10 s10 ⟨v10,H10,I10,r10,hD10,n10⟩=>?_
        obtain⟨m',hm,w10⟩:=hN _ _ _ n10
        refine PZ (X:=cCx X (loc ++ fr) scope s3 (upd H2 s2.heap.objs.size (.lst [])) fp) I10 hD10 r10 hz λ _ s11 I11=>?_
        exact⟨m',hm,i + 1,σ8,_,_,I11.unpinned,(keepI I11).1,(keepI I11).2,w10⟩
  exact codeAny_compStart_list loop (T.self X.A 0 _ _ _ (T.keep _ _ _ st3 λ b hb o e=>hk b o e) loop)
theorem MN{scope:Scope}{N':List Str}{fp:List Addr}{pins:List (Addr × Obj)}{σ σ5:St}{H3 H5:Hp}{s3 s6:Shared}{h'':Heap}(I3:Inv X pins σ H3 s3)(I6:Inv (cCx X N' scope s3 H3 fp) [] σ5 H5 s6)(f3:∀ b ∈ fp,FpOk X pins H3 b)
    (hs:Heap.SameBut s3.heap.objs.size s6.heap h''):Inv X pins σ H5 { s6 with heap:=h'' }:=by
  have neC:∀ b o,s3.heap.get? b=some o->b ≠ s3.heap.objs.size:=λ b o e=>Nat.ne_of_lt (Heap.lt_size e)
  have un:=I6.base
  refine I3.call' (s':={ s6 with heap:=h'' }) (ch:=fp) I6.os ⟨λ b o e n hb hx=>?_,λ b o e n hb hx=>?_,un.free,λ b o e hx=>?_,un.tups,un.frzs,un.tbls⟩ ?_ I6.bare ?_
  . exact(hs.2 b (neC b o e)).trans (un.keep b o e n hb hx)
  . obtain⟨sl,q⟩:=un.slot b o e n hb hx
    exact⟨sl,(hs.2 b (neC b o e)).trans q⟩
  . obtain⟨o',q⟩:=un.there b o e hx
    exact⟨o',(hs.2 b (neC b o e)).trans q⟩
  . intro b ob e
    have hfree:H5 s3.heap.objs.size=none:=I6.free
    refine(I6.hok b ob e).stay (λ c w' hc q=>(hs.2 c ?_).trans q) (λ _ q=>q) λ _ _ q=>q
    intro z
    rcases hc with hc|hc
    . rw[<- hc,z,hfree]at e;cases e
    . rw[z,hfree]at hc;cases hc
  . intro b hb
    obtain⟨_,a2,_,a4,a5,a6⟩:=f3 b hb
    exact⟨a4,a2,a5,a6⟩
theorem T8{i:Nat}{y:Str}{elt tg iter:Expr}{ifs:List Expr}{scope:Scope}{pos spos py:Pos}{loc fr:List Str}{ix:List Nat}{wi:TI}{g:TG}{tf:TT}{te:TE}(hN:X.N.Nodup)(hiN:X.N[i]? = some y)(hy:X.env.scope.names.lookup y=some .local)
    (hc:X.calm=true) (S:CSc X scope fr ix) (hi:PI X tg iter wi)
    (hg:∀ s H ex,PG (cCx X (loc ++ fr) scope s H ex) tg g) (hf:∀ s H ex,PF (cCx X (loc ++ fr) scope s H ex) ifs tf) (he:∀ s H ex,PE (cCx X (loc ++ fr) scope s H ex) elt te)
    (hsw:swapsWith (.ListComp elt [⟨tg,iter,ifs,0⟩] scope pos) (some (.Name y py)) spos.line X.env=pure true:=by rfl) (hs:∀ x,foldedSetIterable iter X.env x=pure x:=by intro _;rfl) :
    PS X (.Assign [.Name y py] (.ListComp elt [⟨tg,iter,ifs,0⟩] scope pos) spos) (Es (IE loc.length ix wi g tf te) (GL i)):=by
  intro pins s σ H D I h
  have hnames:∀ y ∈ scope.names,y.2=.local->scope.names.lookup y.1=some .local:=λ y hy e=>by
    have:=List.all_eq_true.mp S.loc y hy
    rw[e]at this
    simpa using this
  rw[exec_Assign_Name_used _ _ _ _ hsw]
  refine wpAny_bind (wpAny_standAt (wpAny_bind ?_))
  show wpAny _ _ (do let _ <- comprehension (.ListComp elt [⟨tg,iter,ifs,0⟩] scope pos) scope X.env _ (newList []) false (eval iter X.env) (some (assign (.Name y py) X.env))) _ _ s
  refine wpAny_bind (wpAny_mono (wpAny_comprehension_free (use:=some (assign (.Name y py) X.env)) (Q:=λ _ s'=>SP X pins D .next s') rfl hs (De (S.clos I.ok)) S.kind hnames
    (thn (hi pins s σ H _ I h) λ v s1 h1=>thn h1 λ itv s2 h2=>?_)) (λ _ s' hq=>wpAny_pure (wpAny_pure hq)) λ _ _ e=>e)
  obtain⟨it,fp,tn,J,H2,rfl,I2,T,st2,f2,hW⟩:=h2
  refine Nv (RR:=λ acc C=>compPost (model X.prog X.w) X.A X.xe (some (assign (.Name y py) X.env)) (λ _ s'=>SP X pins D .next s') acc C) hc S hg hf he I2 T st2 f2 hW λ s3 s6 H5 σ5 L I3 I6 f3 q=>?_
  have J6:Inv X pins σ H5 s6:=MN (h'':=s6.heap) I3 I6 f3 (.refl ..)
  obtain⟨m,hm,_⟩:=I6.loc
  have hm:s6.heap.Ns s3.heap.objs.size m:=hm
  have hL:s3.heap.objs.size ≠ X.env.locals:=Ne.symm (Nat.ne_of_lt I3.lt)
  show wpAny _ _ (assign (.Name y py) X.env (.ref L)) _ _ s6
  refine wpAny_assign_Name (Je (v:=.ref L) J6 hN hiN (.inl hy) rfl (λ s7 I7 ⟨a,sb,ha⟩=>?_) (.inr hy))
  have hca:s3.heap.objs.size ≠ a:=by
    rcases ha with rfl|ha
    . exact hL
    . obtain⟨v,z⟩:=I3.cell y a ha
      exact Ne.symm (Nat.ne_of_lt z.lt)
  refine⟨m,hm.sameBut sb hca,λ h' hs'=>?_⟩
  refine⟨_,H5,I7.turned (t':=s7.toks) (it:=s3.heap.objs.size) (λ b o hb e=>(hs'.2 b hb).trans e) I6.free hL (.inr I3.sz) (λ x c e z=>?_) (λ p hp z=>?_),q⟩
  . obtain⟨v,w⟩:=I3.cell x c e
    exact absurd w.lt (by rw[z];exact Nat.lt_irrefl _)
  . exact absurd (Heap.lt_size (I3.pin p hp).1) (by rw[z];exact Nat.lt_irrefl _)
end
end L2
namespace L2
open PySem PySem.Spec PyProof.Rows
mutual
noncomputable def Rep(K:PySem.W.Frag)(H:Hp):PyData->V->Prop
  | .none,v=>v=.non
  | .bool b,v=>v=.bl b
  | .int i,v=>v=.int i
  | .str x,v=>v=.str x
  | .list ds,v=>∃ a xs,v=.ref a/\SqL K H a xs/\RepAll K H ds xs
  | .tuple ds,v=>∃ a xs,v=.ref a/\SqT K H a xs/\RepAll K H ds xs
  | .dict _,_=>False
noncomputable def RepAll(K:PySem.W.Frag)(H:Hp):List PyData->List V->Prop
  | [],xs=>xs=[]
  | d :: ds,xs=>∃ x r,xs=x :: r/\Rep K H d x/\RepAll K H ds r
end
section
variable{X:Cx}{pins:List (Addr × Obj)}{σ:St}{H:Hp}{s:Shared}
mutual
theorem EO(I:Inv X pins σ H s):∀ (d:PyData) (v:V) (u:Value),Rep X.K H d v->RelV v u->∃ as,Reads s.heap u d as
  | .none,v,u,h,r=>by
    have h:v=.non:=by simpa only[Rep]using h
    subst h;cases r;exact⟨_,.none⟩
  | .bool b,v,u,h,r=>by
    have h:v=.bl b:=by simpa only[Rep]using h
    subst h;cases r;exact⟨_,.bool b⟩
  | .int i,v,u,h,r=>by
    have h:v=.int i:=by simpa only[Rep]using h
    subst h;obtain⟨t,rfl⟩:=r;exact⟨_,.int i t⟩
  | .str x,v,u,h,r=>by
    have h:v=.str x:=by simpa only[Rep]using h
    subst h;obtain⟨t,rfl⟩:=r;exact⟨_,.str x t⟩
  | .list ds,v,u,h,r=>by
    have h:∃ a xs,v=.ref a/\SqL X.K H a xs/\RepAll X.K H ds xs:=by simpa only[Rep]using h
    obtain⟨a,xs,rfl,hq,ha⟩:=h
    cases r
    obtain⟨its,rv,⟨o,n,e,c,_,dd⟩,hz⟩:=I.list hq
    obtain⟨as,q⟩:=Eu I ds xs its ha rv
    exact⟨_,.list e c dd (by simpa using q)⟩
  | .tuple ds,v,u,h,r=>by
    have h:∃ a xs,v=.ref a/\SqT X.K H a xs/\RepAll X.K H ds xs:=by simpa only[Rep]using h
    obtain⟨a,xs,rfl,hq,ha⟩:=h
    cases r
    obtain⟨its,rv,⟨o,e,c,n,dd⟩,hz⟩:=I.tuple hq
    obtain⟨as,q⟩:=Eu I ds xs its ha rv
    exact⟨_,.tuple e c dd (by simpa using q)⟩
  | .dict _,v,u,h,r=>by
    have h:False:=by simpa only[Rep]using h
    exact h.elim
theorem Eu(I:Inv X pins σ H s):∀ (ds:List PyData) (xs:List V) (us:List Value),RepAll X.K H ds xs->Vals xs us->∃ as,ReadsAll s.heap us ds as
  | [],xs,us,h,r=>by
    have h:xs=[]:=by simpa only[RepAll]using h
    subst h;cases r;exact⟨_,.nil⟩
  | d :: ds,xs,us,h,r=>by
    have h:∃ x r,xs=x :: r/\Rep X.K H d x/\RepAll X.K H ds r:=by simpa only[RepAll]using h
    obtain⟨x,rr,rfl,h1,h2⟩:=h
    cases r with
    | cons r1 r2=>
      obtain⟨as,q1⟩:=EO I d _ _ h1 r1
      obtain⟨bs,q2⟩:=Eu I ds _ _ h2 r2
      exact⟨_,.cons q1 q2⟩
end
end
structure Grow(H H':Hp):Prop where
  tup:∀ b xs,H b=some (.tup xs)->H' b=some (.tup xs)
  frz:∀ b o u,H b=some (.frz o u)->H' b=some (.frz o u)
theorem Grow.refl{H:Hp}:Grow H H:=⟨λ _ _ h=>h,λ _ _ _ h=>h⟩
noncomputable def Chg(H:Hp)(p:Addr):Prop:=(∀ xs,H p ≠ some (.tup xs))/\∀ o u,H p ≠ some (.frz o u)
theorem Grow.put{H H':Hp}{p:Addr}{o:HO}(a:Grow H H')(h:Chg H' p):Grow H (upd H' p o):=⟨λ c xs e=>by
  have q:=a.tup c xs e
  have n:c ≠ p:=λ z=>h.1 xs (by rw[<- z];exact q)
  rw[AE n];exact q,λ c z u e=>by
  have q:=a.frz c z u e
  have n:c ≠ p:=λ w=>h.2 z u (by rw[<- w];exact q)
  rw[AE n];exact q⟩
theorem Chg.lst{H:Hp}{p:Addr}{xs:List V}(h:H p=some (.lst xs)):Chg H p:=⟨(λ _ e=>by rw[h]at e;cases e),(λ _ _ e=>by rw[h]at e;cases e)⟩
theorem Grow.sq{K:PySem.W.Frag}{H H':Hp}{a:Addr}{xs:List V}(g:Grow H H')(h:SqT K H a xs):SqT K H' a xs:=by
  rcases h with(h|⟨o,h⟩)|h
  . exact .inl (.inl (g.tup _ _ h))
  . exact .inl (.inr ⟨o,g.frz _ _ _ h⟩)
  . exact .inr h
mutual
/-- no list in it -/
noncomputable def Imm:PyData->Bool
  | .none | .bool _ | .int _ | .str _=>true
  | .list _=>false
  | .tuple ds=>Gx ds
  | .dict _=>false
noncomputable def Gx:List PyData->Bool
  | []=>true
  | d :: ds=>Imm d && Gx ds
end
mutual
theorem Rep.grow{K:PySem.W.Frag}{H H':Hp}(g:Grow H H'):∀ (d:PyData) (v:V),Imm d=true->Rep K H d v->Rep K H' d v
  | .none,v,_,h=>by simpa only[Rep]using h
  | .bool b,v,_,h=>by simpa only[Rep]using h
  | .int i,v,_,h=>by simpa only[Rep]using h
  | .str x,v,_,h=>by simpa only[Rep]using h
  | .list ds,v,m,h=>by simp[Imm]at m
  | .tuple ds,v,m,h=>by
    have h:∃ a xs,v=.ref a/\SqT K H a xs/\RepAll K H ds xs:=by simpa only[Rep]using h
    obtain⟨a,xs,e,hq,ha⟩:=h
    simp only[Rep]
    exact⟨a,xs,e,g.sq hq,RepAll.grow g ds xs (by simpa only[Imm]using m) ha⟩
  | .dict _,v,m,h=>by simp[Imm]at m
theorem RepAll.grow{K:PySem.W.Frag}{H H':Hp}(g:Grow H H'):∀ (ds:List PyData) (xs:List V),Gx ds=true->RepAll K H ds xs->RepAll K H' ds xs
  | [],xs,_,h=>by simpa only[RepAll]using h
  | d :: ds,xs,m,h=>by
    have h:∃ x r,xs=x :: r/\Rep K H d x/\RepAll K H ds r:=by simpa only[RepAll]using h
    obtain⟨x,r,e,h1,h2⟩:=h
    have m:Imm d=true/\Gx ds=true:=by simpa [Gx]using m
    simp only[RepAll]
    exact⟨x,r,e,Rep.grow g d x m.1 h1,RepAll.grow g ds r m.2 h2⟩
end
section
variable{X:Cx}
theorem J8:CallR X (.builtin "repr") (λ xs H Q=>∃ i,xs=[.int i]/\i.natAbs.log2 < 1920/\Q (.str (toString i)) H):=by
  intro pins s σ H xs us Q I r h
  obtain⟨i,rfl,hi,q⟩:=h
  obtain⟨u,rfl,ru⟩:=Bp r
  obtain⟨t,rfl⟩:=ru
  exact PySem.P.repr_of_int hi ⟨.str (toString i),H,I.tok _,⟨_,rfl⟩,q⟩
noncomputable def Qc(K:PySem.W.Frag):R2:=λ x y H Q=>∃ d e,Rep K H d x/\Rep K H e y/\d.canLay0=true/\e.canLay0=true/\min d.depth e.depth <= 60/\Q (.bl (!PyData.eqv d e)) H
noncomputable def Qf(K:PySem.W.Frag):R2:=λ x y H Q=>∃ d e,Rep K H d x/\Rep K H e y/\d.canLay0=true/\e.canLay0=true/\min d.depth e.depth <= 60/\Q (.bl (PyData.eqv d e)) H
theorem Vd(hu:X.A.units + 64 < cLine):OpR X (compareOp .NotEq) (Qc X.K):=by
  intro pins s σ H x y v u Q I rx ry h
  obtain⟨d,e,h1,h2,c1,c2,hm,q⟩:=h
  obtain⟨as,q1⟩:=EO I d x v h1 rx
  obtain⟨bs,q2⟩:=EO I e y u h2 ry
  exact PySem.SeqAt.compareNe_reads q1 q2 c1 c2 (by omega) ⟨.bl _,H,I,rfl,q⟩
theorem Vg(hu:X.A.units + 64 < cLine):OpR X (compareOp .Eq) (Qf X.K):=by
  intro pins s σ H x y v u Q I rx ry h
  obtain⟨d,e,h1,h2,c1,c2,hm,q⟩:=h
  obtain⟨as,q1⟩:=EO I d x v h1 rx
  obtain⟨bs,q2⟩:=EO I e y u h2 ry
  exact PySem.SeqAt.compareEq_reads q1 q2 c1 c2 (by omega) ⟨.bl _,H,I,rfl,q⟩
theorem EA:∀ {ns:List Int} {us:List Value},Vals (ns.map V.int) us->IntsAre us ns
  | [],_,.nil=>.nil
  | n :: ns,_,.cons r t=>by obtain⟨k,rfl⟩:=r;exact .cons _ _ (EA t)
theorem PQ(hc:X.calm=true):CallR X (.builtin "sum") (λ xs H Q=>∃ (a:Addr) (ns:List Int),xs=[.ref a]/\SqL X.K H a (ns.map V.int)/\Q (.int ns.sum) H):=by
  intro pins s σ H xs us Q I r h
  obtain⟨a,ns,rfl,hq,q⟩:=h
  obtain⟨u,rfl,ru⟩:=Bp r
  cases ru
  obtain⟨its,rv,p,hz⟩:=I.list hq
  have hi:=EA rv
  obtain⟨xs,hx⟩:=hi.allInts.items
  have hl':s.heap.IsList a (intItems xs):=hx ▸ p.isList
  refine sum_intListG (I.ok.hd hc) hl' λ h' tk t' hk=>?_
  have e1:ns=xs.toList.map (·.1):=by
    rw[<- nums_intItems,<- hx]
    exact(show numsOf its.toArray.toList=ns from hi.numsOf).symm
  have e2:preSum (numAt xs) xs.size=ns.sum:=by
    rw[preSum_eq,List.take_of_length_le (by simp),e1]
  rw[e2]
  exact⟨.int ns.sum,H,I.kept hk,⟨_,rfl⟩,q⟩
end
end L2
namespace L2
open PySem PySem.Spec PyProof.Rows
section
variable(K:PySem.W.Frag){X:Cx}
theorem Ld(hK:X.K=K:=by rfl):IxR X (Qe K):=by subst hK;exact Tk
theorem Ms(hK:X.K=K:=by rfl):IxR X (Qd K):=by subst hK;exact Vt
theorem Q6(hK:X.K=K:=by rfl):SlR X (NR K):=by subst hK;exact Sc
theorem Ve(hK:X.K=K:=by rfl):OpR X (compareOp .In) (rIn K false):=by subst hK;exact Oj
theorem Oi(hK:X.K=K:=by rfl):OpR X (compareOp .NotIn) (rIn K true):=by subst hK;exact LK
theorem BT(hu:X.A.units + 64 < cLine)(hK:X.K=K:=by rfl):OpR X (compareOp .Eq) (Qf K):=by subst hK;exact Vg hu
theorem JO(hu:X.A.units + 64 < cLine)(hK:X.K=K:=by rfl):OpR X (compareOp .NotEq) (Qc K):=by subst hK;exact Vd hu
theorem Aq(hK:X.K=K:=by rfl):OpR X (binaryOp .Add) (NT K):=by subst hK;exact TX
noncomputable def Ut:List V->Hp->VK->Prop:=λ xs H Q=>∃ p ys,xs=[.ref p]/\(SqL K H p ys ∨ SqT K H p ys)/\Q (.int ys.length) H
theorem B8(hK:X.K=K:=by rfl):CallR X (.builtin "len") (Ut K):=by subst hK;exact M1
noncomputable def JI:List V->Hp->VK->Prop:=λ xs H Q=>∃ p ys,xs=[.ref p]/\(SqL K H p ys ∨ SqT K H p ys)/\∀ l,H l=none->Q (.ref l) (upd H l (.lst ys))
theorem Nz(hK:X.K=K:=by rfl):CallR X (.type "list") (JI K):=by subst hK;exact M0
noncomputable def L8:List V->Hp->VK->Prop:=λ xs H Q=>∃ p ys,xs=[.ref p]/\((SqL K H p ys/\∀ l,H l=none->Q (.ref l) (upd H l (.tup ys))) ∨ (SqT K H p ys/\Q (.ref p) H))
theorem B9(hK:X.K=K:=by rfl):CallR X (.type "tuple") (L8 K):=by subst hK;exact K6
noncomputable def S3:List V->Hp->VK->Prop:=λ xs H Q=>∃ (a:Addr) (ns:List Int),xs=[.ref a]/\SqL K H a (ns.map V.int)/\Q (.int ns.sum) H
theorem Jw(hc:X.calm=true)(hK:X.K=K:=by rfl):CallR X (.builtin "sum") (S3 K):=by subst hK;exact PQ hc
theorem LI{tg l:Expr}{tl:TE}(hl:PE X l tl)(hK:X.K=K:=by rfl):PI X tg l (Ip K tl):=by subst hK;exact TJ hl
theorem Mj{tg l:Expr}{tl:TE}(hl:PE X l tl)(hK:X.K=K:=by rfl):PI X tg l (Le K tl):=by subst hK;exact VH hl
theorem TL{pos:Pos}{es:List Expr}{k:Nat}{t:TGs}{n:Nat}(hc:X.calm=true)(h:PGs X es t)(hK:X.K=K:=by rfl)
    (hn:(assignEach es X.env).length=n:=by rfl) (hst:(assignEach es X.env).findIdx? (·.1)=none:=by rfl):PG X (.Tuple es k pos) (Nj K n t):=by
  subst hK
  exact VI hc h hn hst
end
section
variable(K:PySem.W.Frag){X:Cx}
end
end L2
namespace L2
open PySem PySem.Spec PyProof.Rows
section
variable(K:PySem.W.Frag){X:Cx}
theorem Gu:∀ {bs:List Bool} {us:List Value} {i:Nat} {v:Value},Vals (bs.map V.bl) us->us[i]? = some v->∃ b,bs[i]? = some b/\v=.bool b
  | [],_,_,_,.nil,e=>by simp at e
  | b :: bs,_,0,_,.cons r _,e=>by simp at e;subst e;exact⟨b,rfl,r⟩
  | b :: bs,_,i + 1,_,.cons _ t,e=>by
    obtain⟨c,h1,h2⟩:=Gu (i:=i) t (by simpa using e)
    exact⟨c,by simpa using h1,h2⟩
noncomputable def Uv:List V->Hp->VK->Prop:=λ xs H Q=>∃ (a:Addr) (bs:List Bool),xs=[.ref a]/\SqL K H a (bs.map V.bl)/\Q (.bl (bs.all id)) H
noncomputable def Uu:List V->Hp->VK->Prop:=λ xs H Q=>∃ (a:Addr) (bs:List Bool),xs=[.ref a]/\SqL K H a (bs.map V.bl)/\Q (.bl (bs.any id)) H
theorem PX(hc:X.calm=true)(hK:X.K=K:=by rfl):CallR X (.builtin "all") (Uv K):=by
  subst hK
  intro pins s σ H xs us Q I r h
  obtain⟨a,bs,rfl,hq,q⟩:=h
  obtain⟨u,rfl,ru⟩:=Bp r
  cases ru
  obtain⟨its,rv,p,hz⟩:=I.list hq
  have hl:=p.isList
  have hlen:=rv.length
  have hlt:a < s.heap.objs.size:=by obtain⟨_,e,_⟩:=hl;exact Heap.lt_size e
  refine call_all_walk (wpAny_pyIter_list hl ?_)
  refine⟨s.heap.objs.size,[s.heap.objs.size,a],[s.heap.objs.size],its.toArray.size,_,_,λ i=>(bs[i]?).getD true,rfl,Walks.list (A:=X.A.in1) (I.ok.hd hc) _ a (Nat.ne_of_lt hlt) its.toArray,
    ⟨⟨_,Heap.get?_push_size _ rfl,rfl,rfl⟩,hl.push _⟩,λ i v s' Q' E' hP hQ=>?_,λ h' tk hk=>?_⟩
  . obtain⟨b,e,rfl⟩:=Gu rv (by simpa using hP)
    simp only[e,Option.getD_some]at hQ
    exact wpAny_truthy_bool hQ
  . have e:((List.range its.toArray.size).all λ i=>(bs[i]?).getD true)=bs.all id:=by
      rw[List.size_toArray,<- hlen,List.length_map];exact LSm.range_all bs
    rw[e]
    exact⟨.bl _,H,I.kept (LSm.kept_iter hk),rfl,q⟩
theorem PV(hc:X.calm=true)(hK:X.K=K:=by rfl):CallR X (.builtin "any") (Uu K):=by
  subst hK
  intro pins s σ H xs us Q I r h
  obtain⟨a,bs,rfl,hq,q⟩:=h
  obtain⟨u,rfl,ru⟩:=Bp r
  cases ru
  obtain⟨its,rv,p,hz⟩:=I.list hq
  have hl:=p.isList
  have hlen:=rv.length
  have hlt:a < s.heap.objs.size:=by obtain⟨_,e,_⟩:=hl;exact Heap.lt_size e
  refine call_any_walk (wpAny_pyIter_list hl ?_)
  refine⟨s.heap.objs.size,[s.heap.objs.size,a],[s.heap.objs.size],its.toArray.size,_,_,λ i=>(bs[i]?).getD false,rfl,Walks.list (A:=X.A.in1) (I.ok.hd hc) _ a (Nat.ne_of_lt hlt) its.toArray,
    ⟨⟨_,Heap.get?_push_size _ rfl,rfl,rfl⟩,hl.push _⟩,λ i v s' Q' E' hP hQ=>?_,λ h' tk hk=>?_⟩
  . obtain⟨b,e,rfl⟩:=Gu rv (by simpa using hP)
    simp only[e,Option.getD_some]at hQ
    exact wpAny_truthy_bool hQ
  . have e:((List.range its.toArray.size).any λ i=>(bs[i]?).getD false)=bs.any id:=by
      rw[List.size_toArray,<- hlen,List.length_map];exact LSm.range_any bs
    rw[e]
    exact⟨.bl _,H,I.kept (LSm.kept_iter hk),rfl,q⟩
noncomputable def JH:List V->Hp->VK->Prop:=λ xs H Q=>∃ (a:Addr) (ns:List Int),xs=[.ref a]/\SqL K H a (ns.map V.int)/\ns.length < 64/\∀ (p:Addr) (ns':List Int),H p=none->ns'.Perm ns->ns'.Pairwise (· <= ·)->Q (.ref p) (upd H p (.lst (ns'.map V.int)))
theorem MR:∀ {ns:List Int} {us:List Value},IntsAre us ns->Vals (ns.map V.int) us
  | [],_,.nil=>.nil
  | _ :: _,_,.cons _ _ t=>.cons ⟨_,rfl⟩ (MR t)
theorem Lz(hK:X.K=K:=by rfl):CallR X (.builtin "sorted") (JH K):=by
  subst hK
  intro pins s σ H xs us Q I r h
  obtain⟨a,ns,rfl,hq,h64,q⟩:=h
  obtain⟨u,rfl,ru⟩:=Bp r
  cases ru
  obtain⟨its,rv,p,hz⟩:=I.list hq
  have hlen:=rv.length
  rw[List.length_map]at hlen
  refine sorted_ints p.isList (EA rv) (by omega) λ out ns' a1 a2 a3=>?_
  obtain⟨e,he⟩:=sortedAll_at s.heap its out
  have hl':ns'.length=ns.length:=a2.length_eq
  refine⟨.ref (s.heap.objs.size + 1),_,I.laid (a:=s.heap.objs.size + 1) (o:=.lst (ns'.map V.int)) (t':=s.toks) (λ b o hb=>sortedAll_old hb) (Nat.le_succ _) ⟨?_,out.toList,e,MR a1,he⟩,rfl,q _ _ (I.hok.fresh (Nat.le_succ _)) a2 a3⟩
  rw[List.length_map,hl']
  exact Nat.le_of_lt (OK (by omega))
noncomputable def S6:List V->Hp->VK->Prop:=λ xs H Q=>∃ (a:Addr) (ns:List Int),xs=[.ref a]/\SqL K H a (ns.map V.int)/\0 < ns.length/\∀ M:Int,M ∈ ns->(∀ x ∈ ns,x <= M)->Q (.int M) H
theorem Gs(hc:X.calm=true)(hK:X.K=K:=by rfl):CallR X (.builtin "max") (S6 K):=by
  subst hK
  intro pins s σ H xs us Q I r h
  obtain⟨a,ns,rfl,hq,hne,q⟩:=h
  obtain⟨u,rfl,ru⟩:=Bp r
  cases ru
  obtain⟨its,rv,p,hz⟩:=I.list hq
  have hi:=EA rv
  obtain⟨ys,e⟩:=hi.allInts.items
  have hns:ns=ys.toList.map (·.1):=by
    rw[<- hi.numsOf,<- nums_intItems,<- e]
  have hsz:0 < ys.size:=by
    have h3:=hne;rw[hns,List.length_map,Array.length_toList]at h3;exact h3
  have hl:=p.isList
  rw[e]at hl
  refine max_intList (I.ok.hd hc) hl hsz λ v h' tk hv hk=>?_
  obtain⟨t,rfl⟩:=intItems_at hv
  obtain⟨h1,h2⟩:=argBest_gt (numAt ys) (ys.size - 1)
  refine⟨.int _,H,I.kept hk,⟨t,rfl⟩,q _ ?_ λ x hx=>?_⟩
  . rw[hns,numAt_eq];exact getD_mem (by rw[List.length_map,Array.length_toList];omega)
  . rw[hns]at hx
    obtain⟨j,hj,rfl⟩:=mem_getD hx
    rw[List.length_map,Array.length_toList]at hj
    rw[<- numAt_eq];exact h2 j (by omega)
noncomputable def S4:List V->Hp->VK->Prop:=λ xs H Q=>∃ (a:Addr) (ns:List Int),xs=[.ref a]/\SqL K H a (ns.map V.int)/\0 < ns.length/\∀ M:Int,M ∈ ns->(∀ x ∈ ns,M <= x)->Q (.int M) H
theorem Jy(hc:X.calm=true)(hK:X.K=K:=by rfl):CallR X (.builtin "min") (S4 K):=by
  subst hK
  intro pins s σ H xs us Q I r h
  obtain⟨a,ns,rfl,hq,hne,q⟩:=h
  obtain⟨u,rfl,ru⟩:=Bp r
  cases ru
  obtain⟨its,rv,p,hz⟩:=I.list hq
  have hi:=EA rv
  obtain⟨ys,e⟩:=hi.allInts.items
  have hns:ns=ys.toList.map (·.1):=by
    rw[<- hi.numsOf,<- nums_intItems,<- e]
  have hsz:0 < ys.size:=by
    have h3:=hne;rw[hns,List.length_map,Array.length_toList]at h3;exact h3
  have hl:=p.isList
  rw[e]at hl
  refine min_intList (I.ok.hd hc) hl hsz λ v h' tk hv hk=>?_
  obtain⟨t,rfl⟩:=intItems_at hv
  obtain⟨h1,h2⟩:=argBest_lt (numAt ys) (ys.size - 1)
  refine⟨.int _,H,I.kept hk,⟨t,rfl⟩,q _ ?_ λ x hx=>?_⟩
  . rw[hns,numAt_eq];exact getD_mem (by rw[List.length_map,Array.length_toList];omega)
  . rw[hns]at hx
    obtain⟨j,hj,rfl⟩:=mem_getD hx
    rw[List.length_map,Array.length_toList]at hj
    rw[<- numAt_eq];exact h2 j (by omega)
end
end L2
namespace L2
open PySem PySem.Spec PyProof.Rows
section
variable{prog:Program}{w:World}{A:Around}{E:Value->Shared->Prop}{s:Shared}{l:Addr}{xs:Array (Int × Tok)}
theorem GU{Q:Value->Shared->Prop}(hl:s.heap.IsTuple l (intItems xs))
    (h:∀ s₂:Shared,s₂={ s with heap:=s.heap.push { cls:=.type "tuple_iterator",data:=.fields #[.ref l,.int 0 0] } } ->
      (s₂.heap.IsTupleIter s.heap.objs.size l 0/\s₂.heap.IsTuple l (intItems xs))->(∀ b ∈ [s.heap.objs.size,l],b < s₂.heap.objs.size)->l ≠ s.heap.objs.size->Q (.ref s.heap.objs.size) s₂) :
    wpAny (model prog w) A (pyIter (.ref l)) Q E s:=by
  have hlt:l < s.heap.objs.size:=by obtain⟨_,e,_⟩:=hl;exact Heap.lt_size e
  refine wpAny_pyIter_tuple hl (h _ rfl ⟨⟨_,Heap.get?_push_size _ rfl,rfl,rfl⟩,hl.push _⟩ (λ b hb=>?_) (Nat.ne_of_lt hlt))
  show b < (s.heap.push _).objs.size
  rw[Heap.size_push]
  rcases List.mem_cons.mp hb with rfl|hb
  . exact Nat.lt_succ_self _
  . rcases List.mem_cons.mp hb with rfl|hb
    . exact Nat.lt_succ_of_lt hlt
    . cases hb
theorem Ji{h':Heap}{o:Obj}(hk:∀ b x,b ∉ [s.heap.objs.size]->(s.heap.push o).get? b=some x->h'.get? b=some x):∀ b x,s.heap.get? b=some x->h'.get? b=some x:=
  λ b x e=>hk b x (λ hm=>by rw[List.mem_singleton.mp hm]at e;exact Nat.lt_irrefl _ (Heap.lt_size e)) (Heap.get?_push_of_some _ e)
theorem Kp{Q:Value->Shared->Prop}(hh:A.handled=none)(hl:s.heap.IsTuple l (intItems xs))
    (h:∀ h' tk t',(∀ b o,s.heap.get? b=some o->h'.get? b=some o)->Q (.int (preSum (numAt xs) xs.size) t') { s with heap:=h',toks:=tk }) :
    wpAny (model prog w) A (call (.builtin "sum") [.ref l]) Q E s:=by
  refine call_sum_walkG (GU hl λ s₂ e st hfp hlI=>?_)
  subst e
  refine⟨_,_,_,_,_,_,numAt xs,rfl,Walks.tuple (A:=A.in1) hh _ l hlI (intItems xs),st,hfp,(λ _ _=>intItems_at),λ h' tk t' hk=>?_⟩
  have:=h h' tk t' (Ji hk)
  simpa [intItems]using this
theorem LQ{Q:Value->Shared->Prop}(hh:A.handled=none)(hl:s.heap.IsTuple l (intItems xs))(hne:0 < xs.size)
    (h:∀ v h' tk,(intItems xs)[argBest (λ i j=>decide (numAt xs i > numAt xs j)) (xs.size - 1)]? = some v->(∀ b o,s.heap.get? b=some o->h'.get? b=some o)->Q v { s with heap:=h',toks:=tk }) :
    wpAny (model prog w) A (call (.builtin "max") [.ref l]) Q E s:=by
  refine call_max_walk (GU hl λ s₂ e st hfp hlI=>?_)
  subst e
  refine⟨_,_,_,_,_,_,_,rfl,Walks.tuple (A:=A.in1) hh _ l hlI (intItems xs),st,hfp,by simpa [intItems]using hne,CmpOf.ints_gt (numAt xs) (λ _ _=>intItems_at),λ v h' tk hP hk=>?_⟩
  exact h v h' tk (by simpa [intItems]using hP) (Ji hk)
end
section
variable(K:PySem.W.Frag){X:Cx}
noncomputable def S0:List V->Hp->VK->Prop:=λ xs H Q=>∃ (a:Addr) (ns:List Int),xs=[.ref a]/\SqT K H a (ns.map V.int)/\Q (.int ns.sum) H
theorem J0(hc:X.calm=true)(hK:X.K=K:=by rfl):CallR X (.builtin "sum") (S0 K):=by
  subst hK
  intro pins s σ H xs us Q I r h
  obtain⟨a,ns,rfl,hq,q⟩:=h
  obtain⟨u,rfl,ru⟩:=Bp r
  cases ru
  obtain⟨its,rv,p,hz⟩:=I.tuple hq
  have hi:=EA rv
  obtain⟨xs,hx⟩:=hi.allInts.items
  have hl':s.heap.IsTuple a (intItems xs):=hx ▸ (show s.heap.IsTuple a its.toArray from p)
  refine Kp (I.ok.hd hc) hl' λ h' tk t' hk=>?_
  have e1:ns=xs.toList.map (·.1):=by
    rw[<- nums_intItems,<- hx]
    exact(show numsOf its.toArray.toList=ns from hi.numsOf).symm
  have e2:preSum (numAt xs) xs.size=ns.sum:=by
    rw[preSum_eq,List.take_of_length_le (by simp),e1]
  rw[e2]
  exact⟨.int ns.sum,H,I.kept hk,⟨_,rfl⟩,q⟩
noncomputable def S5:List V->Hp->VK->Prop:=λ xs H Q=>∃ (a:Addr) (ns:List Int),xs=[.ref a]/\SqT K H a (ns.map V.int)/\0 < ns.length/\∀ M:Int,M ∈ ns->(∀ x ∈ ns,x <= M)->Q (.int M) H
theorem GP(hc:X.calm=true)(hK:X.K=K:=by rfl):CallR X (.builtin "max") (S5 K):=by
  subst hK
  intro pins s σ H xs us Q I r h
  obtain⟨a,ns,rfl,hq,hne,q⟩:=h
  obtain⟨u,rfl,ru⟩:=Bp r
  cases ru
  obtain⟨its,rv,p,hz⟩:=I.tuple hq
  have hi:=EA rv
  obtain⟨ys,e⟩:=hi.allInts.items
  have hns:ns=ys.toList.map (·.1):=by
    rw[<- hi.numsOf,<- nums_intItems,<- e]
  have hsz:0 < ys.size:=by
    have h3:=hne;rw[hns,List.length_map,Array.length_toList]at h3;exact h3
  have hl:s.heap.IsTuple a (intItems ys):=e ▸ (show s.heap.IsTuple a its.toArray from p)
  refine LQ (I.ok.hd hc) hl hsz λ v h' tk hv hk=>?_
  obtain⟨t,rfl⟩:=intItems_at hv
  obtain⟨h1,h2⟩:=argBest_gt (numAt ys) (ys.size - 1)
  refine⟨.int _,H,I.kept hk,⟨t,rfl⟩,q _ ?_ λ x hx=>?_⟩
  . rw[hns,numAt_eq];exact getD_mem (by rw[List.length_map,Array.length_toList];omega)
  . rw[hns]at hx
    obtain⟨j,hj,rfl⟩:=mem_getD hx
    rw[List.length_map,Array.length_toList]at hj
    rw[<- numAt_eq];exact h2 j (by omega)
end
end L2
namespace L2
open PySem PySem.Spec PyProof.Rows
structure DefAt(K:PySem.W.Frag)(mg:Str->Option Value)(x:Str)(st:Stmt)(f:Addr)(fd:FuncData)(ps:List Str):Prop where
  fn:Fun K x x st f fd
  mg:mg x=some (.ref f)
  bd:Binds K fd ps []
theorem S9{X:Cx}{j k:Nat}{f:Addr}{fd:FuncData}{ps:List Str}{sp:Sp}{x:Str}{st:Stmt}{e:Expr}{es:List Expr}{t:TA}{p pos:Pos}(F:FnOk X.prog X.w X.K X.mg X.base CX0 j f fd ps sp)(hr:Room k X.A)(D:DefAt X.K X.mg x st f fd ps)(ha:PA X (e :: es) t)
    (hjk:j <= k:=by decide) (hg:Gl X x:=by rfl) (hdb:(x == ("__debug__":Str))=false:=by decide) (he:starEach (e :: es) X.env=(false,eval e X.env) :: starEach es X.env:=by rfl) (hpl:(backTo pos (starEach es X.env)).any (·.1)=false:=by rfl) :
    PE X (.Call (.Name x p) (e :: es) [] pos) (HE sp [] E0 t):=
  TV (F.mono hjk) hr hg D.mg D.fn.kp D.bd .nil Wn ha hdb he hpl
theorem N3:bootBuiltins "list"=some (.type "list"):=by decide +kernel
theorem bt_tuple:bootBuiltins "tuple"=some (.type "tuple"):=by decide +kernel
theorem bt_int:bootBuiltins "int"=some (.type "int"):=by decide +kernel
theorem bt_len:bootBuiltins "len"=some (.builtin "len"):=by decide +kernel
theorem bt_repr:bootBuiltins "repr"=some (.builtin "repr"):=by decide +kernel
theorem bt_sum:bootBuiltins "sum"=some (.builtin "sum"):=by decide +kernel
theorem bt_min:bootBuiltins "min"=some (.builtin "min"):=by decide +kernel
theorem bt_max:bootBuiltins "max"=some (.builtin "max"):=by decide +kernel
theorem PY:bootBuiltins "sorted"=some (.builtin "sorted"):=by decide +kernel
theorem bt_all:bootBuiltins "all"=some (.builtin "all"):=by decide +kernel
theorem bt_any:bootBuiltins "any"=some (.builtin "any"):=by decide +kernel
section
variable(c:Addr)(n l u v:Int)
end
mutual
theorem Hb:∀ ns:List Int,PyData.canLayAll0 (ns.map PyData.int)=true
  | []=>by simp[PyData.canLayAll0]
  | n :: ns=>by simp[PyData.canLayAll0,PyData.canLay0,Hb ns]
end
end L2
namespace L2
open PySem PySem.Spec PyProof.Rows PySem.W
noncomputable def lCx(X:Cx)(A:Around)(N':List Str)(qual:Str)(scope:Scope)(f:Addr)(cd:Value)(cl:List (Str × Addr))(s:Shared)(H:Hp):Cx:=
  { X with N:=N',s₀:=s,H₀:=H,A:=A.deeper (envX qual scope s.heap.objs.size f cd cl),env:=envX qual scope s.heap.objs.size f cd cl,outer:=X.stack,stack:=envX qual scope s.heap.objs.size f cd cl :: X.stack,ex:=[],fn:=λ _=>false,calm:=true,pn:=[],xe:=λ _ _=>False }
structure LSc(scope:Scope)(p:Str):Prop where
  nocell:(scope.names.all λ y=>y.2 != .cell)=true
  par:scope.names.lookup p=some .local
  co:scope.isCoroutine=false
  gen:scope.isGenerator=false
section
variable{X:Cx}{scope:Scope}{fr:List Str}{ix:List Nat}{pins:List (Addr × Obj)}{σ:St}{H:Hp}{s:Shared}{p:Str}
theorem LSc.ne(L:LSc scope p):∀ y ∈ scope.names,y.2 ≠ .cell:=λ y hy e=>by
  have:=List.all_eq_true.mp L.nocell y hy
  rw[e]at this
  revert this;decide
theorem To(S:CSc X scope fr ix)(L:LSc scope p)(I:Inv X pins σ H s){A:Around}(hf:A.frames=X.A.frames)(hh:A.handled=none){qual:Str}{f:Addr}{cd:Value}{h':Heap}{x:V}{u:Value}{t':Nat}
    (hk:∀ b o,s.heap.get? b=some o->h'.get? b=some o) (hn:h'.Ns s.heap.objs.size λ y=>if y=p then some u else none) (r:RelV x u) :
    Inv (lCx X A (p :: fr) qual scope f cd (Af X.env.cells scope.names []) s H) [] (some x :: ix.map λ i=>(σ[i]?).join) H { s with heap:=h',toks:=t' }:=by
  have lenix:fr.length=ix.length:=by simpa using congrArg List.length S.ixs
  have co:∀ x c,(Af X.env.cells scope.names []).lookup x=some c->X.env.cells.lookup x=some c:=λ x c e=>E6 (S.clos I.ok) (λ _ _ z=>by simp at z) x c e
  refine⟨⟨I.ok.mod,S.kind,rfl,rfl,Nat.le_refl _,?_,?_,?_,λ _=>hh,Around.frames_deeper (hf.trans I.ok.frames),.inr ⟨rfl,rfl⟩,?_,I.bs,Nat.le_trans I.ok.bsz I.sz,?_,?_,I.stack,I.stkFree⟩,rfl,I.bare,Un.kept hk,⟨_,hn,?_⟩,?_,I.hok.fresh (Nat.le_refl _),?_,?_,I.hok.kept hk,?_⟩
  . intro x y c e1 e2
    exact I.ok.inj x y c (co x c e1) (co y c e2)
  . intro x hx
    rcases hx with e|e
    . exact absurd rfl (L.ne (x,.cell) (PySem.mem_of_lookup e))
    . exact Option.isSome_iff_exists.mp (DN (.inr (PySem.mem_of_lookup e)))
  . intro x c hf;cases hf
  . intro b hb;cases hb
  . intro b o e hb;cases hb
  . intro b hb;cases hb
  . intro i y v e1 e2 e3
    cases i with
    | zero=>
      have e1:some p=some y:=e1
      have e2:some (some x)=some (some v):=e2
      cases e1;cases e2
      exact⟨u,r,.inl ⟨L.par,if_pos rfl⟩⟩
    | succ j=>
      have e1:fr[j]? = some y:=e1
      have e2:(ix.map λ i=>(σ[i]?).join)[j]? = some (some v):=e2
      rw[List.getElem?_map]at e2
      have e4:(fr.map some)[j]? = some (some y):=by rw[List.getElem?_map,e1];rfl
      rw[S.ixs,List.getElem?_map]at e4
      cases q:ix[j]? with
      | none=>rw[q]at e2;cases e2
      | some k=>
        rw[q]at e2 e4
        have e2:(σ[k]?).join=some v:=Option.some.inj e2
        have e4:X.N[k]? = some y:=Option.some.inj e4
        have e5:σ[k]? = some (some v):=by
          cases w:σ[k]? with
          | none=>rw[w]at e2;cases e2
          | some z=>rw[w]at e2;simpa using e2
        have hfx:=List.all_eq_true.mp S.frs y (List.mem_of_getElem? e1)
        have hfx:scope.names.lookup y=some .free:=by simpa using hfx
        have hmem:=PySem.mem_of_lookup hfx
        have hout:=S.outer hmem rfl
        obtain⟨m,hm,hl⟩:=I.loc
        obtain⟨u',r',l⟩:=hl k y v e4 e5 (.inr hout)
        refine⟨u',r',.inr ⟨.inr hfx,?_⟩⟩
        rcases l with⟨kk,_⟩|⟨kk,c,ec,z⟩
        . rcases hout with w|w
          . rw[kk]at w;cases w
          . rw[kk]at w;cases w
        . obtain⟨d,hd⟩:=Option.isSome_iff_exists.mp (DN (cells:=X.env.cells) (acc:=[]) (.inr hmem))
          have:=co y d hd
          rw[ec]at this;cases this
          exact⟨c,hd,z.keeps hk⟩
  . intro x c e
    obtain⟨v,z⟩:=I.cell x c (co x c e)
    exact⟨v,z.keeps hk⟩
  . intro x c e
    exact I.freeC x c (co x c e)
  . intro p hp;cases hp
  . show(_ :: _:List (Option V)).length=(p :: fr).length
    simp[lenix]
theorem Lb(S:CSc X scope fr ix)(L:LSc scope p)(I:Inv X pins σ H s){A:Around}(hf:A.frames=X.A.frames)(hr:Room 1 A){qual:Str}{f:Addr}{cd ctv pm:Value}{params:Arguments}{body:Expr}{x:V}{u:Value}{tb:TE}{Q:VK}
    (ho:s.heap.get? f=some { cls:=.type "function",data:=.func (kla_fn "<lambda>" qual params body scope (Af X.env.cells scope.names []) pm cd ctv) }) (hcd:s.heap.CodeRec cd qual)
    (hb:∀ us:Value,bindArgs (kla_fn "<lambda>" qual params body scope (Af X.env.cells scope.names []) pm cd ctv) ⟨[us],[]⟩=pure [(p,us)])
    (he:∀ (s:Shared) (H:Hp),PE (lCx X A (p :: fr) qual scope f cd (Af X.env.cells scope.names []) s H) body tb) (r:RelV x u) (h:tb (some x :: ix.map λ i=>(σ[i]?).join) H Q) :
    wpAny (model X.prog X.w) A (call (.ref f) [u]) (EP X pins σ Q) (λ _ _=>False) s:=by
  refine wpAny_call (codeAny_mono (R:=λ res s'=>match res with | .ok (.ret u)=>EP X pins σ Q u s'|_=>False) (kla_callFunE hr.depth ho rfl L.co L.gen rfl hcd ?_) ?_)
  . rw[hb]
    refine wpAny_pure ?_
    refine wpAny_newFunctionEnv L.ne (λ y hy=>by rw[List.mem_singleton]at hy;subst hy;exact L.par) (λ h' hns hsb=>⟨?_,?_⟩) S.kind
    . have hk:∀ b o,s.heap.get? b=some o->h'.get? b=some o:=λ b o e=>(hsb.2 b (Nat.ne_of_lt (Heap.lt_size e))).trans (Heap.get?_push_of_some _ e)
      exact I.nolimit.keeps hk
    . have hk:∀ b o,s.heap.get? b=some o->h'.get? b=some o:=λ b o e=>(hsb.2 b (Nat.ne_of_lt (Heap.lt_size e))).trans (Heap.get?_push_of_some _ e)
      have hns':h'.Ns s.heap.objs.size λ y=>if y=p then some u else none:=by
        have e:(λ y=>([(p,u)]:List (Str × Value)).reverse.lookup y)=λ y=>if y=p then some u else none:=by
          funext y
          simp only[List.reverse_cons,List.reverse_nil,List.nil_append,List.lookup_cons,List.lookup_nil]
          by_cases hy:y=p
          . subst hy;simp
          . have hb':(y == p)=false:=beq_eq_false_iff_ne.mpr hy
            simp[hb',hy]
        rw[<- e];exact hns
      have J:=To (t':=s.toks + 1) (qual:=qual) (f:=f) (cd:=cd) S L I hf hr.hd hk hns' r
      refine kla_codeExpr (wpAny_mono (he s H [] _ _ H Q J h) (λ v s' hv=>?_) λ _ _ z=>z.elim)
      obtain⟨y,H',J',ry,q⟩:=hv
      obtain⟨hh,g,d,t,os'⟩:=s'
      obtain rfl:os'=s.os:=J'.os
      exact⟨y,H',I.call (h':=hh) (g':=g) (d':=d) (t':=t) (ch:=[]) J'.base J'.hok J'.bare (λ b z=>absurd z (by simp)),ry,q⟩
  . intro res s' hq
    cases res with
    | error e=>exact hq
    | ok fl=>
      cases fl with
      | ret u=>exact hq
      | next=>exact hq
      | brk=>exact hq
      | cont=>exact hq
end
end L2
namespace L2
open PySem PySem.Spec PyProof.Rows PySem.W
noncomputable def cdF(c:Addr)(q:Str):Heap->Prop:=λ h=>h.CodeRec (.ref c) q
noncomputable def FQ(H:Hp)(q:Str)(pos:Pos)(ps:Array Value):Prop:=ps=#[] ∨ ∃ c,ps=#[rawInt pos.line,rawInt pos.col,.ref c]/\H c=some (.ext (cdF c q))
noncomputable def Ek(P:Addr)(q:Str)(pos:Pos)(H H':Hp):Prop:=H'=H ∨ ∃ c,H c=none/\c ≠ P/\H'=upd (upd H P (.tbl #[rawInt pos.line,rawInt pos.col,.ref c])) c (.ext (cdF c q))
structure LamAt(X:Cx)(c P:Addr):Prop where
  code:X.env.code=.ref c
  hd:CodeHd X.base c P
  bl:X.base.BuiltinsAt X.mg P
section
variable{X:Cx}{pins:List (Addr × Obj)}{σ:St}{H:Hp}{s:Shared}{c P:Addr}{scope:Scope}{fr:List Str}{ix:List Nat}
theorem Tn(I:Inv X pins σ H s){q:Str}{ps:Array Value}{ps':Array Value}(hP:H P=some (.tbl ps)){c':Addr}{h':Heap}{t':Nat}(hx:∀ b o,b ≠ P->s.heap.get? b=some o->h'.get? b=some o)(hc:s.heap.objs.size <= c')
    (hrec:h'.CodeRec (.ref c') q) (htb:h'.get? P=some (tabObj (ps ++ ps'))):Inv X pins σ (upd (upd H P (.tbl (ps ++ ps'))) c' (.ext (cdF c' q))) { s with heap:=h',toks:=t' }:=by
  have hcn:H c'=none:=I.hok.fresh hc
  have hPc:P ≠ c':=Ae hP hcn
  have nP:∀ b,H b=none->b ≠ P:=λ b n z=>by subst z;rw[hP]at n;cases n
  have other:∀ b,b ≠ P->b ≠ c'->upd (upd H P (.tbl (ps ++ ps'))) c' (.ext (cdF c' q)) b=H b:=λ b h1 h2=>by rw[AE h2,AE h1]
  have ne':∀ b u,H b=some u->b ≠ c':=λ b u e=>Ae e hcn
  refine I.un (h':=h') (t':=t') ⟨λ b o e n _ _=>hx b o (nP b n) e,λ b o e n _ _=>⟨o.slots,hx b o (nP b n) e⟩,λ b o e n _=>?_,λ b o e _=>?_,λ b xs e=>?_,λ b o u e=>?_,λ b qs e=>?_⟩ λ b u e=>?_
  . rw[other b (nP b n) (Nat.ne_of_lt (Nat.lt_of_lt_of_le (Heap.lt_size e) hc))];exact n
  . by_cases z:b=P
    . subst z;exact⟨_,htb⟩
    . exact⟨o,hx b o z e⟩
  . rw[other b (λ z=>by subst z;rw[hP]at e;cases e) (ne' b _ e)];exact e
  . rw[other b (λ z=>by subst z;rw[hP]at e;cases e) (ne' b _ e)];exact e
  . by_cases z:b=P
    . subst z
      rw[hP]at e;cases e
      exact⟨ps',by rw[AE hPc,AQ]⟩
    . exact⟨#[],by rw[other b z (ne' b _ e),e];simp⟩
  . by_cases z:b=c'
    . subst z
      rw[AQ]at e;cases e
      obtain⟨c0,o,vs,t,e0,r⟩:=id hrec
      cases e0
      refine⟨hrec,⟨o,r.1⟩,λ h1 h2 q1 k=>?_⟩
      obtain⟨c1,o1,vs1,t1,e1,g1,r1⟩:=q1
      cases e1
      exact⟨_,o1,vs1,t1,rfl,k _ g1,r1⟩
    . by_cases z2:b=P
      . subst z2
        rw[AE hPc,AQ]at e;cases e
        exact htb
      . rw[other b z2 z]at e
        refine(I.hok b u e).stay (λ d v hd q=>hx d v ?_ q) (λ d q=>?_) λ d xs q=>?_
        . rcases hd with rfl|hd
          . exact z2
          . intro y;subst y;rw[hP]at hd;cases hd
        . rw[other d (λ y=>by subst y;rw[hP]at q;cases q) (ne' d _ q)];exact q
        . rw[other d (λ y=>by subst y;rw[hP]at q;cases q) (ne' d _ q)];exact q
structure Made(X:Cx)(scope:Scope)(params:Arguments)(body:Expr)(P:Addr)(q:Str)(pos:Pos)(s:Shared)(H H':Hp)(f:Addr)(cd ctv:Value)(s':Shared):Prop where
  fn:s'.heap.get? f=some { cls:=.type "function",data:=.func (kla_fn "<lambda>" q params body scope (Af X.env.cells scope.names []) ((X.mg "__name__").getD .none) cd ctv) }
  cdc:∃ c,cd=.ref c/\H' c=some (.ext (cdF c q))
  step:Ek P q pos H H'
  new:s.heap.objs.size <= f
  fre:H' f=none
theorem La(S:CSc X scope fr ix)(LA:LamAt X c P)(I:Inv X pins σ H s){A:Around}{E:Value->Shared->Prop}{params:Arguments}{body:Expr}{pos:Pos}{ps:Array Value}{Q:Value->Shared->Prop}(hdef:defaultsOf params X.env=([],[]))
    (hP:H P=some (.tbl ps)) (hg:FQ H (X.env.qual ++ "<lambda>") pos ps)
    (h:∀ f cd ctv H' s',Inv X pins σ H' s'->Made X scope params body P (X.env.qual ++ "<lambda>") pos s H H' f cd ctv s'->Q (.ref f) s') :
    wpAny (model X.prog X.w) A (eval (.Lambda params body scope pos) X.env) Q E s:=by
  have hcl:closureFor scope X.env=pure (Af X.env.cells scope.names []):=De (S.clos I.ok)
  have hns:=I.mod.glob.keeps I.bk
  have hb:=LA.bl.keeps I.bk
  have hcd:=LA.hd.keeps I.bk
  have hobj:s.heap.get? P=some (tabObj ps):=I.hok P _ hP
  have hgP:mainGlobals ≠ P:=λ z=>by
    obtain⟨o,es,ep,e,hd,_⟩:=hns
    rw[z,hobj]at e;cases e;cases hd
  refine kla_eval hdef ?_
  rcases hg with rfl|⟨c',rfl,hc'⟩
  . refine kla_makeFunction hcl I.ok.glob hns LA.code hcd hobj trivial rfl hgP hb λ c' ctv h' tk hx hge hlt hrec htb=>?_
    have hx':∀ b o,b ≠ P->s.heap.get? b=some o->(h'.push (kla_obj "<lambda>" (X.env.qual ++ "<lambda>") params body scope (Af X.env.cells scope.names []) ((X.mg "__name__").getD .none) c' ctv)).get? b=some o:=λ b o n e=>Heap.get?_push_of_some _ (hx b o n e)
    have J:=Tn (t':=tk) I hP hx' hge (hrec.push _) (Heap.get?_push_of_some _ htb)
    refine h _ _ ctv _ _ J ⟨Heap.get?_push_size _ rfl,⟨c',rfl,AQ⟩,.inr ⟨c',I.hok.fresh hge,(Ae hP (I.hok.fresh hge)).symm,?_⟩,?_,?_⟩
    . simp
    . exact Nat.le_trans hge (Nat.le_of_lt hlt)
    . have hs:s.heap.objs.size <= h'.objs.size:=Nat.le_trans hge (Nat.le_of_lt hlt)
      rw[AE (Nat.ne_of_gt hlt),AE (Nat.ne_of_gt (Nat.lt_of_lt_of_le (Heap.lt_size hobj) hs))]
      exact I.hok.fresh hs
  . have hrec:s.heap.CodeRec (.ref c') (X.env.qual ++ "<lambda>"):=(I.hok c' _ hc').1
    have hf:codeAmong pos (#[rawInt pos.line,rawInt pos.col,Value.ref c']:Array Value).toList=some (.ref c'):=by simp[codeAmong,rawInt]
    refine kla_makeFunctionHit hcl I.ok.glob hns LA.code hcd hobj (by simp[TriplesOk,rawInt]) hf hb λ ctv h' tk hk hsz=>?_
    have hk':∀ b o,s.heap.get? b=some o->(h'.push { cls:=.type "function",data:=.func (kla_fn "<lambda>" (X.env.qual ++ "<lambda>") params body scope (Af X.env.cells scope.names []) ((X.mg "__name__").getD .none) (.ref c') ctv) }).get? b=some o:=λ b o e=>Heap.get?_push_of_some _ (hk b o e)
    exact h _ _ ctv _ _ (I.kept (t':=tk) hk') ⟨Heap.get?_push_size _ rfl,⟨c',rfl,hc'⟩,.inl rfl,hsz,I.hok.fresh hsz⟩
end
end L2
namespace L2
open PySem PySem.Spec PyProof.Rows
inductive I where
  | non|bl (b:Bool)|int (i:Int)|str (x:Str)|tup (ds:List I)
inductive D where
  | im (i:I)|mu (n:Nat)|tm (ds:List D)|ro (ns:List Int)
inductive MO where
  | lst (ds:List D)|dic (kvs:List (Key × D))
noncomputable abbrev Hd:=List MO
noncomputable abbrev Ls:=List (Option D)
noncomputable def RoL(K:PySem.W.Frag)(H:Hp)(a:Addr)(xs:List V):Prop:=(∃ o,H a=some (.frz o (.lst xs))) ∨
  ∃ (o:Obj) (its:Array Value) (n:Nat),K.lookup a=some o/\o.cls=.type "list"/\o.dict=none/\o.data=.seq its n/\its.size <= sizeLine/\Vals xs its.toList
theorem RoL.sq{K:PySem.W.Frag}{H:Hp}{a:Addr}{xs:List V}(h:RoL K H a xs):SqL K H a xs:=by
  rcases h with⟨o,h⟩|h
  . exact .inl (.inr ⟨o,h⟩)
  . exact .inr h
theorem RoL.grow{K:PySem.W.Frag}{H H':Hp}{a:Addr}{xs:List V}(g:Grow H H')(h:RoL K H a xs):RoL K H' a xs:=by
  rcases h with⟨o,h⟩|h
  . exact .inl ⟨o,g.frz _ _ _ h⟩
  . exact .inr h
noncomputable def Bs(n:Nat):Prop:=n <= sizeLine
noncomputable def Cr(n:Nat):Prop:=n < sizeLine
noncomputable def Ec(i j:Int):Prop:=(-(2 ^ 64) < i/\i < 2 ^ 64) ∨ (-(2 ^ 64) < j/\j < 2 ^ 64)
noncomputable def NU(i j:Int):Prop:=0 <= j/\j <= 1000000/\i.natAbs < 2 ^ 64
noncomputable def KP(j:Int):Prop:=0 < j/\j < 1073741824
noncomputable def Ee(j:Int):Prop:=0 < j
noncomputable def Ga(j:Int):Prop:=-(2 ^ 62) <= j/\j < 2 ^ 62
noncomputable def QL(i j:Int):Prop:=(-(2 ^ 62) <= i/\i < 2 ^ 62)/\-(2 ^ 62) <= j/\j < 2 ^ 62
noncomputable def HG(j:Int):Prop:=j < 2 ^ 24/\-(2 ^ 62) <= j
noncomputable def Rt(i j:Int):Prop:=(-(2 ^ 62) <= i/\i < 2 ^ 62)/\(-(2 ^ 62) <= j/\j < 2 ^ 62)/\(j - i).toNat <= 2 ^ 24
noncomputable def Q7(n:Nat):Prop:=n < 1920
theorem Ah{n:Nat}(h:n <= 1000000):Bs n:=Nat.le_trans h (by rw[sizeLine_eq];decide)
theorem CM{n:Nat}(h:n < 1000000):Cr n:=Nat.lt_of_lt_of_le h (by rw[sizeLine_eq];decide)
theorem Dt{i j:Int}(a:-1000000000000 <= i)(b:i <= 1000000000000):Ec i j:=.inl ⟨by omega,by omega⟩
theorem HJ{i j:Int}(a:-1000000000000 <= j)(b:j <= 1000000000000):Ec i j:=.inr ⟨by omega,by omega⟩
theorem FY{j:Int}(a:-1000000000000 <= j)(b:j <= 1000000000000):Ga j:=⟨by omega,by omega⟩
theorem Hi{j:Int}(a:-1000000000000 <= j)(b:j <= 1000000):HG j:=⟨by omega,by omega⟩
section
variable(K:PySem.W.Frag)
mutual
noncomputable def RI(H:Hp):I->V->Prop
  | .non,v=>v=.non
  | .bl b,v=>v=.bl b
  | .int i,v=>v=.int i
  | .str x,v=>v=.str x
  | .tup ds,v=>∃ a xs,v=.ref a/\SqT K H a xs/\RIs H ds xs
noncomputable def RIs(H:Hp):List I->List V->Prop
  | [],xs=>xs=[]
  | d :: ds,xs=>∃ x r,xs=x :: r/\RI H d x/\RIs H ds r
end
mutual
noncomputable def RD(ρ:List Addr)(H:Hp):D->V->Prop
  | .im i,v=>RI K H i v
  | .mu n,v=>∃ a,ρ[n]? = some a/\v=.ref a
  | .tm ds,v=>∃ a xs,v=.ref a/\SqT K H a xs/\RDs ρ H ds xs
  | .ro ns,v=>∃ a,v=.ref a/\RoL K H a (ns.map V.int)
noncomputable def RDs(ρ:List Addr)(H:Hp):List D->List V->Prop
  | [],xs=>xs=[]
  | d :: ds,xs=>∃ x r,xs=x :: r/\RD ρ H d x/\RDs ρ H ds r
end
noncomputable def RKs(ρ:List Addr)(H:Hp):List (Key × D)->List (Key × V)->Prop
  | [],xs=>xs=[]
  | d :: ds,xs=>∃ x r,xs=x :: r/\x.1=d.1/\RD K ρ H d.2 x.2/\RKs ρ H ds r
noncomputable def RC(ρ:List Addr)(H:Hp):MO->HO->Prop
  | .lst ds,o=>∃ xs,o=.lst xs/\RDs K ρ H ds xs
  | .dic kvs,o=>∃ kv,o=.dK kv/\RKs K ρ H kvs kv
noncomputable def KD:List Value->List (Addr × Str × Pos)
  | .ref P :: .str q _ :: .int l _ :: .int c _ :: r=>(P,q,⟨l.toNat,c.toNat,0,0⟩) :: KD r
  | _=>[]
noncomputable def WU(o:Obj):List (Addr × Str × Pos):=match o.cls,o.data with
  | .str _ _,.fields vs=>KD vs.toList
  | _,_=>[]
noncomputable def Dw(K:PySem.W.Frag):List (Addr × Str × Pos):=match K.getLast? with
  | some p=>WU p.2
  | none=>[]
noncomputable def TabsOk(K:PySem.W.Frag)(H:Hp):Prop:=∀ x ∈ Dw K,∃ ps,H x.1=some (.tbl ps)/\FQ H x.2.1 x.2.2 ps
structure RH(ρ:List Addr)(H:Hp)(hd:Hd):Prop where
  len:ρ.length=hd.length
  nd:ρ.Nodup
  tabs:TabsOk K H
  ob:∀ (n:Nat) (o:MO) (a:Addr),hd[n]? = some o->ρ[n]? = some a->∃ ho,H a=some ho/\RC K ρ H o ho
structure RL(ρ:List Addr)(H:Hp)(ls:Ls)(σ:St):Prop where
  len:ls.length=σ.length
  ob:∀ (i:Nat) (d:D),ls[i]? = some (some d)->∃ v,σ[i]? = some (some v)/\RD K ρ H d v
end
structure Ext(ρ:List Addr)(H:Hp)(ρ':List Addr)(H':Hp):Prop where
  pre:∃ r,ρ'=ρ ++ r/\∀ b ∈ r,H b=none
  keep:∀ b o,H b=some o->b ∉ ρ->(∀ ps,o ≠ .tbl ps)->H' b=some o
  tab:∀ b ps,H b=some (.tbl ps)->∃ ps',H' b=some (.tbl ps')
theorem nt{o:HO}(h:match o with | .tbl _=>False|_=>True:=by trivial):∀ ps,o ≠ .tbl ps:=λ ps e=>by subst e;exact h
theorem TabsOk.upd{K:PySem.W.Frag}{H:Hp}(t:TabsOk K H){a:Addr}{ho:HO}(h1:∀ ps,H a ≠ some (.tbl ps))(h2:∀ φ,H a ≠ some (.ext φ)):TabsOk K (upd H a ho):=λ x hx=>by
  obtain⟨ps,e,g⟩:=t x hx
  have ne:x.1 ≠ a:=λ z=>h1 ps (by rw[<- z];exact e)
  refine⟨ps,by rw[AE ne];exact e,?_⟩
  rcases g with g|⟨c,g1,g2⟩
  . exact .inl g
  . have nc:c ≠ a:=λ z=>h2 _ (by rw[<- z];exact g2)
    exact .inr ⟨c,g1,by rw[AE nc];exact g2⟩
section
variable{K:PySem.W.Frag}{ρ ρ' ρ1 ρ2:List Addr}{H H' H1 H2:Hp}{hd hd' hd1:Hd}
mutual
theorem RI.grow(g:Grow H H'):∀ {i:I} {v:V},RI K H i v->RI K H' i v
  | .non,v,h=>by simpa only[RI]using h
  | .bl b,v,h=>by simpa only[RI]using h
  | .int b,v,h=>by simpa only[RI]using h
  | .str b,v,h=>by simpa only[RI]using h
  | .tup ds,v,h=>by
    simp only[RI]at h ⊢
    obtain⟨a,xs,e,q,r⟩:=h
    exact⟨a,xs,e,g.sq q,RIs.grow g r⟩
theorem RIs.grow(g:Grow H H'):∀ {i:List I} {v:List V},RIs K H i v->RIs K H' i v
  | [],v,h=>by simpa only[RIs]using h
  | d :: ds,v,h=>by
    simp only[RIs]at h ⊢
    obtain⟨x,r,e,q,z⟩:=h
    exact⟨x,r,e,q.grow g,RIs.grow g z⟩
end
theorem RH.mut(h:RH K ρ H hd){a:Addr}(m:a ∈ ρ):(∃ xs,H a=some (.lst xs)) ∨ ∃ kv,H a=some (.dK kv):=by
  obtain⟨n,e⟩:=List.mem_iff_getElem?.mp m
  have hn:n < hd.length:=by rw[<- h.len];exact(List.getElem?_eq_some_iff.mp e).1
  obtain⟨ho,e1,e2⟩:=h.ob n hd[n] a (by simp[hn]) e
  cases q:hd[n]with
  | lst ds=>rw[q]at e2;obtain⟨xs,rfl,_⟩:=e2;exact .inl ⟨xs,e1⟩
  | dic ds=>rw[q]at e2;obtain⟨xs,rfl,_⟩:=e2;exact .inr ⟨xs,e1⟩
theorem RH.tup_out(h:RH K ρ H hd){a:Addr}{xs:List V}(e:H a=some (.tup xs)):a ∉ ρ:=λ m=>by
  rcases h.mut m with⟨y,z⟩|⟨y,z⟩ <;> (rw[e]at z;cases z)
theorem RH.frz_out(h:RH K ρ H hd){a:Addr}{o:Obj}{u:HO}(e:H a=some (.frz o u)):a ∉ ρ:=λ m=>by
  rcases h.mut m with⟨y,z⟩|⟨y,z⟩ <;> (rw[e]at z;cases z)
theorem Ext.grow(e:Ext ρ H ρ' H')(h:RH K ρ H hd):Grow H H':=⟨λ b xs q=>e.keep b _ q (h.tup_out q) nt,λ b o u q=>e.keep b _ q (h.frz_out q) nt⟩
theorem Ext.refl:Ext ρ H ρ H:=⟨⟨[],by simp,by simp⟩,λ _ _ h _ _=>h,λ _ ps h=>⟨ps,h⟩⟩
theorem Ext.trans(e:Ext ρ H ρ1 H1)(h0:RH K ρ1 H1 hd1)(e2:Ext ρ1 H1 ρ2 H2):Ext ρ H ρ2 H2:=by
  obtain⟨r1,rfl,f1⟩:=e.pre
  obtain⟨r2,rfl,f2⟩:=e2.pre
  refine⟨⟨r1 ++ r2,by simp,λ b m=>?_⟩,λ b o q n t=>?_,λ b ps q=>?_⟩
  . rcases List.mem_append.mp m with m|m
    . exact f1 b m
    . have z:=f2 b m
      cases q:H b with
      | none=>rfl
      | some o=>
        by_cases n:b ∈ ρ
        . rcases h0.mut (List.mem_append_left r1 n)with⟨y,w⟩|⟨y,w⟩ <;> (rw[z]at w;cases w)
        . by_cases t:∃ ps,o=.tbl ps
          . obtain⟨ps,rfl⟩:=t
            obtain⟨ps',this⟩:=e.tab b ps q
            rw[z]at this;cases this
          . have:=e.keep b o q n λ ps y=>t ⟨ps,y⟩
            rw[z]at this;cases this
  . refine e2.keep b o (e.keep b o q n t) (λ m=>?_) t
    rcases List.mem_append.mp m with m|m
    . exact n m
    . have:=f1 b m;rw[q]at this;cases this
  . obtain⟨ps',q'⟩:=e.tab b ps q
    exact e2.tab b ps' q'
mutual
theorem RD.mono(g:Grow H H')(r:List Addr):∀ {d:D} {v:V},RD K ρ H d v->RD K (ρ ++ r) H' d v
  | .im i,v,h=>by simp only[RD]at h ⊢;exact h.grow g
  | .mu n,v,h=>by
    simp only[RD]at h ⊢
    obtain⟨a,e,q⟩:=h
    exact⟨a,by rw[List.getElem?_append_left (List.getElem?_eq_some_iff.mp e).1];exact e,q⟩
  | .tm ds,v,h=>by
    simp only[RD]at h ⊢
    obtain⟨a,xs,e,q,z⟩:=h
    exact⟨a,xs,e,g.sq q,RDs.mono g r z⟩
  | .ro ns,v,h=>by
    simp only[RD]at h ⊢
    obtain⟨a,e,q⟩:=h
    exact⟨a,e,q.grow g⟩
theorem RDs.mono(g:Grow H H')(r:List Addr):∀ {d:List D} {v:List V},RDs K ρ H d v->RDs K (ρ ++ r) H' d v
  | [],v,h=>by simpa only[RDs]using h
  | d :: ds,v,h=>by
    simp only[RDs]at h ⊢
    obtain⟨x,r',e,q,z⟩:=h
    exact⟨x,r',e,q.mono g r,RDs.mono g r z⟩
end
theorem RKs.mono(g:Grow H H')(r:List Addr):∀ {d:List (Key × D)} {v:List (Key × V)},RKs K ρ H d v->RKs K (ρ ++ r) H' d v
  | [],v,h=>by simpa only[RKs]using h
  | d :: ds,v,h=>by
    simp only[RKs]at h ⊢
    obtain⟨x,r',e,q1,q,z⟩:=h
    exact⟨x,r',e,q1,q.mono g r,RKs.mono g r z⟩
theorem RC.mono(g:Grow H H')(r:List Addr){o:MO}{ho:HO}(h:RC K ρ H o ho):RC K (ρ ++ r) H' o ho:=by
  cases o with
  | lst ds=>obtain⟨xs,e,q⟩:=h;exact⟨xs,e,q.mono g r⟩
  | dic ds=>obtain⟨xs,e,q⟩:=h;exact⟨xs,e,q.mono g r⟩
theorem RD.ext(h:RH K ρ H hd)(e:Ext ρ H ρ' H'){d:D}{v:V}(q:RD K ρ H d v):RD K ρ' H' d v:=by
  obtain⟨r,rfl,_⟩:=e.pre
  exact q.mono (e.grow h) r
theorem RDs.ext(h:RH K ρ H hd)(e:Ext ρ H ρ' H'){d:List D}{v:List V}(q:RDs K ρ H d v):RDs K ρ' H' d v:=by
  obtain⟨r,rfl,_⟩:=e.pre
  exact q.mono (e.grow h) r
theorem RL.ext(h:RH K ρ H hd)(e:Ext ρ H ρ' H'){ls:Ls}{σ:St}(q:RL K ρ H ls σ):RL K ρ' H' ls σ:=
  ⟨q.len,λ i d z=>let ⟨v,a,b⟩:=q.ob i d z;⟨v,a,b.ext h e⟩⟩
theorem RDs.len:∀ {ds:List D} {xs:List V},RDs K ρ H ds xs->xs.length=ds.length
  | [],xs,h=>by simp only[RDs]at h;rw[h];rfl
  | d :: ds,xs,h=>by
    simp only[RDs]at h
    obtain⟨x,r,rfl,_,z⟩:=h
    simp[RDs.len z]
theorem RDs.get:∀ {ds:List D} {xs:List V} {i:Nat} {d:D},RDs K ρ H ds xs->ds[i]? = some d->∃ x,xs[i]? = some x/\RD K ρ H d x
  | [],xs,i,d,h,e=>by simp at e
  | d :: ds,xs,0,e,h,q=>by
    simp only[RDs]at h
    obtain⟨x,r,rfl,z,_⟩:=h
    simp at q;subst q
    exact⟨x,rfl,z⟩
  | d :: ds,xs,i + 1,e,h,q=>by
    simp only[RDs]at h
    obtain⟨x,r,rfl,_,z⟩:=h
    obtain⟨y,a,b⟩:=RDs.get (i:=i) z (by simpa using q)
    exact⟨y,by simpa using a,b⟩
theorem RDs.nil:RDs K ρ H [] []:=by simp[RDs]
theorem RDs.cons{d:D}{v:V}{ds:List D}{vs:List V}(h:RD K ρ H d v)(t:RDs K ρ H ds vs):RDs K ρ H (d :: ds) (v :: vs):=by
  simp only[RDs];exact⟨v,vs,rfl,h,t⟩
theorem RDs.app:∀ {ds es:List D} {xs ys:List V},RDs K ρ H ds xs->RDs K ρ H es ys->RDs K ρ H (ds ++ es) (xs ++ ys)
  | [],es,xs,ys,h,t=>by simp only[RDs]at h;subst h;simpa using t
  | d :: ds,es,xs,ys,h,t=>by
    simp only[RDs]at h
    obtain⟨x,r,rfl,z,q⟩:=h
    simp only[List.cons_append]
    exact .cons z (q.app t)
theorem RDs.set:∀ {ds:List D} {xs:List V} {d:D} {v:V} (i:Nat),RDs K ρ H ds xs->RD K ρ H d v->RDs K ρ H (ds.set i d) (xs.set i v)
  | [],xs,d,v,i,h,t=>by simp only[RDs]at h;subst h;simp[RDs]
  | d :: ds,xs,e,v,0,h,t=>by
    simp only[RDs]at h
    obtain⟨x,r,rfl,z,q⟩:=h
    simpa using RDs.cons t q
  | d :: ds,xs,e,v,i + 1,h,t=>by
    simp only[RDs]at h
    obtain⟨x,r,rfl,z,q⟩:=h
    simpa using RDs.cons z (q.set i t)
theorem RDs.drop:∀ {ds:List D} {xs:List V} (n:Nat),RDs K ρ H ds xs->RDs K ρ H (ds.drop n) (xs.drop n)
  | ds,xs,0,h=>by simpa using h
  | [],xs,n + 1,h=>by simp only[RDs]at h;subst h;simp[RDs]
  | d :: ds,xs,n + 1,h=>by
    simp only[RDs]at h
    obtain⟨x,r,rfl,z,q⟩:=h
    simpa using q.drop n
theorem RDs.take:∀ {ds:List D} {xs:List V} (n:Nat),RDs K ρ H ds xs->RDs K ρ H (ds.take n) (xs.take n)
  | ds,xs,0,h=>by simp[RDs]
  | [],xs,n + 1,h=>by simp only[RDs]at h;subst h;simp[RDs]
  | d :: ds,xs,n + 1,h=>by
    simp only[RDs]at h
    obtain⟨x,r,rfl,z,q⟩:=h
    simpa using RDs.cons z (q.take n)
theorem RIs.ds:∀ {is:List I} {xs:List V},RIs K H is xs->RDs K ρ H (is.map D.im) xs
  | [],xs,h=>by simpa only[RIs,RDs,List.map_nil]using h
  | i :: is,xs,h=>by
    simp only[RIs]at h
    obtain⟨x,r,rfl,z,q⟩:=h
    exact .cons (by simpa only[RD]using z) q.ds
theorem RDs.is:∀ {is:List I} {xs:List V},RDs K ρ H (is.map D.im) xs->RIs K H is xs
  | [],xs,h=>by simpa only[RIs,RDs,List.map_nil]using h
  | i :: is,xs,h=>by
    simp only[List.map_cons,RDs]at h
    obtain⟨x,r,rfl,z,q⟩:=h
    simp only[RIs]
    exact⟨x,r,rfl,by simpa only[RD]using z,q.is⟩
theorem RH.put(h:RH K ρ H hd){n:Nat}{a:Addr}(hn:ρ[n]? = some a){o:MO}{ho:HO}(c:RC K ρ H o ho):RH K ρ (upd H a ho) (hd.set n o)/\Ext ρ H ρ (upd H a ho):=by
  have ha:=h.mut (List.mem_of_getElem? hn)
  have n1:∀ ps,H a ≠ some (.tbl ps):=λ ps e=>by rcases ha with⟨y,z⟩|⟨y,z⟩ <;> (rw[e]at z;cases z)
  have n2:∀ φ,H a ≠ some (.ext φ):=λ ps e=>by rcases ha with⟨y,z⟩|⟨y,z⟩ <;> (rw[e]at z;cases z)
  have ex:Ext ρ H ρ (upd H a ho):=⟨⟨[],by simp,by simp⟩,λ b o q m _=>by
    have:b ≠ a:=λ z=>m (by rw[z];exact List.mem_of_getElem? hn)
    rw[AE this];exact q,λ b ps q=>⟨ps,(AE (show b ≠ a from λ z=>n1 ps (by rw[<- z];exact q))).trans q⟩⟩
  have gr:=ex.grow h
  refine⟨⟨by simp[h.len],h.nd,h.tabs.upd n1 n2,λ m o' b e1 e2=>?_⟩,ex⟩
  have hm:m < hd.length:=by rw[<- h.len];exact(List.getElem?_eq_some_iff.mp e2).1
  by_cases hmn:m=n
  . subst hmn
    rw[hn]at e2;cases e2
    rw[List.getElem?_set_self hm]at e1
    cases e1
    exact⟨ho,AQ,by simpa using c.mono gr []⟩
  . rw[List.getElem?_set_ne (λ z=>hmn z.symm)]at e1
    obtain⟨ho',q1,q2⟩:=h.ob m o' b e1 e2
    have:b ≠ a:=λ z=>by
      subst z
      have l1:=(List.getElem?_eq_some_iff.mp e2).1
      have l2:=(List.getElem?_eq_some_iff.mp hn).1
      exact hmn ((List.getElem?_inj l1 h.nd).mp (e2.trans hn.symm))
    exact⟨ho',by rw[AE this];exact q1,by simpa using q2.mono gr []⟩
theorem RH.lst(h:RH K ρ H hd){n:Nat}{a:Addr}{ds:List D}(hn:ρ[n]? = some a)(e:hd[n]? = some (.lst ds)):∃ xs,H a=some (.lst xs)/\RDs K ρ H ds xs:=by
  obtain⟨ho,q,xs,rfl,r⟩:=h.ob n _ a e hn
  exact⟨xs,q,r⟩
theorem RH.dic(h:RH K ρ H hd){n:Nat}{a:Addr}{ds:List (Key × D)}(hn:ρ[n]? = some a)(e:hd[n]? = some (.dic ds)):∃ xs,H a=some (.dK xs)/\RKs K ρ H ds xs:=by
  obtain⟨ho,q,xs,rfl,r⟩:=h.ob n _ a e hn
  exact⟨xs,q,r⟩
theorem RH.hid(h:RH K ρ H hd){a:Addr}(ha:H a=none){ho:HO}:RH K ρ (upd H a ho) hd/\Ext ρ H ρ (upd H a ho):=by
  have out:a ∉ ρ:=λ m=>by rcases h.mut m with⟨y,z⟩|⟨y,z⟩ <;> (rw[ha]at z;cases z)
  have ex:Ext ρ H ρ (upd H a ho):=⟨⟨[],by simp,by simp⟩,λ b o q n _=>by rw[AE (Ae q ha)];exact q,λ b ps q=>⟨ps,by rw[AE (Ae q ha)];exact q⟩⟩
  have gr:=ex.grow h
  refine⟨⟨h.len,h.nd,h.tabs.upd (by simp[ha]) (by simp[ha]),λ m o' b e1 e2=>?_⟩,ex⟩
  obtain⟨ho',q1,q2⟩:=h.ob m o' b e1 e2
  exact⟨ho',by rw[AE (Ae q1 ha)];exact q1,by simpa using q2.mono gr []⟩
theorem RH.hput(h:RH K ρ H hd){a:Addr}(out:a ∉ ρ){xs:List V}{ho:HO}(hl:H a=some (.lst xs)):RH K ρ (upd H a ho) hd:=by
  have gr:Grow H (upd H a ho):=Grow.refl.put (.lst hl)
  refine⟨h.len,h.nd,h.tabs.upd (by simp[hl]) (by simp[hl]),λ m o' b e1 e2=>?_⟩
  obtain⟨ho',q1,q2⟩:=h.ob m o' b e1 e2
  have:b ≠ a:=λ z=>out (by rw[<- z];exact List.mem_of_getElem? e2)
  exact⟨ho',by rw[AE this];exact q1,by simpa using q2.mono gr []⟩
end
end L2
namespace L2
open PySem PySem.Spec PyProof.Rows
noncomputable abbrev ME:=Ls->Hd->Option (D × Hd)
noncomputable abbrev MT:=Ls->Hd->Option (Bool × Hd)
noncomputable abbrev MA:=Ls->Hd->Option (List D × Hd)
inductive Fl where
  | nx (ls:Ls)|rt (d:D)|bk (ls:Ls)|ct (ls:Ls)
noncomputable abbrev MS:=Ls->Hd->Option (Fl × Hd)
section
variable(K:PySem.W.Frag)
noncomputable def RE(t:TE)(m:ME):Prop:=∀ (ρ:List Addr) (σ:St) (H:Hp) (hd:Hd) (ls:Ls) (Q:VK) (d:D) (hd':Hd),RH K ρ H hd->RL K ρ H ls σ->m ls hd=some (d,hd') ->
  (∀ ρ' H' v,Ext ρ H ρ' H'->RH K ρ' H' hd'->RD K ρ' H' d v->Q v H')->t σ H Q
noncomputable def RT(t:TT)(m:MT):Prop:=∀ (ρ:List Addr) (σ:St) (H:Hp) (hd:Hd) (ls:Ls) (Q:Bool->Hp->Prop) (d:Bool) (hd':Hd),RH K ρ H hd->RL K ρ H ls σ->m ls hd=some (d,hd') ->
  (∀ ρ' H',Ext ρ H ρ' H'->RH K ρ' H' hd'->Q d H')->t σ H Q
noncomputable def RA(t:TA)(m:MA):Prop:=∀ (ρ:List Addr) (σ:St) (H:Hp) (hd:Hd) (ls:Ls) (Q:List V->Hp->Prop) (d:List D) (hd':Hd),RH K ρ H hd->RL K ρ H ls σ->m ls hd=some (d,hd') ->
  (∀ ρ' H' v,Ext ρ H ρ' H'->RH K ρ' H' hd'->RDs K ρ' H' d v->Q v H')->t σ H Q
noncomputable def RN(t:TE)(m:MA):Prop:=∀ (ρ:List Addr) (σ:St) (H:Hp) (hd:Hd) (ls:Ls) (Q:VK) (d:List D) (hd':Hd),RH K ρ H hd->RL K ρ H ls σ->m ls hd=some (d,hd') ->
  (∀ ρ' H' a xs,Ext ρ H ρ' H'->RH K ρ' H' hd'->H a=none->a ∉ ρ'->H' a=some (.lst xs)->RDs K ρ' H' d xs->Q (.ref a) H')->t σ H Q
noncomputable def XA(E:Ends)(ρ:List Addr)(H:Hp):Fl->Prop
  | .nx ls=>∀ σ,RL K ρ H ls σ->E.nx σ H
  | .bk ls=>∀ σ,RL K ρ H ls σ->E.bk σ H
  | .ct ls=>∀ σ,RL K ρ H ls σ->E.ct σ H
  | .rt d=>∀ v,RD K ρ H d v->E.rt v H
noncomputable def RS(t:TS)(m:MS):Prop:=∀ (ρ:List Addr) (σ:St) (H:Hp) (hd:Hd) (ls:Ls) (E:Ends) (f:Fl) (hd':Hd),RH K ρ H hd->RL K ρ H ls σ->m ls hd=some (f,hd') ->
  (∀ ρ' H',Ext ρ H ρ' H'->RH K ρ' H' hd'->XA K E ρ' H' f)->t E σ H
noncomputable def RB(r:R2)(f:D->D->Hd->Option (D × Hd)):Prop:=∀ (ρ:List Addr) (H:Hp) (hd:Hd) (d e:D) (v u:V) (Q:VK) (z:D) (hd':Hd),RH K ρ H hd->RD K ρ H d v->RD K ρ H e u->f d e hd=some (z,hd') ->
  (∀ ρ' H' w,Ext ρ H ρ' H'->RH K ρ' H' hd'->RD K ρ' H' z w->Q w H')->r v u H Q
noncomputable def RF(r:List V->Hp->VK->Prop)(f:List D->Hd->Option (D × Hd)):Prop:=∀ (ρ:List Addr) (H:Hp) (hd:Hd) (ds:List D) (vs:List V) (Q:VK) (z:D) (hd':Hd),RH K ρ H hd->RDs K ρ H ds vs->f ds hd=some (z,hd') ->
  (∀ ρ' H' w,Ext ρ H ρ' H'->RH K ρ' H' hd'->RD K ρ' H' z w->Q w H')->r vs H Q
noncomputable def RG(tp:Bool)(r:List V->Hp->VK->Prop)(g:List D->Option D):Prop:=∀ (ρ:List Addr) (H:Hp) (hd:Hd) (a:Addr) (xs:List V) (ds:List D) (Q:VK) (z:D),RH K ρ H hd->(SqL K H a xs ∨ (tp=true/\SqT K H a xs))->RDs K ρ H ds xs->g ds=some z ->
  (∀ H' w,Ext ρ H ρ H'->RH K ρ H' hd->RD K ρ H' z w->Q w H')->r [.ref a] H Q
end
structure QE(K:PySem.W.Frag)(X:Cx)(e:Expr)(t:TE)(m:ME):Prop where
  p:PE X e t
  r:RE K t m
structure QT(K:PySem.W.Frag)(X:Cx)(e:Expr)(t:TT)(m:MT):Prop where
  p:PT X e t
  r:RT K t m
structure QW(K:PySem.W.Frag)(X:Cx)(e:Expr)(t:TT)(m:MT):Prop where
  p:PW X e t
  r:RT K t m
structure QA(K:PySem.W.Frag)(X:Cx)(e:List Expr)(t:TA)(m:MA):Prop where
  p:PA X e t
  r:RA K t m
structure QN(K:PySem.W.Frag)(X:Cx)(e:Expr)(t:TE)(m:MA):Prop where
  p:PE X e t
  r:RN K t m
structure QS(K:PySem.W.Frag)(X:Cx)(e:Stmt)(t:TS)(m:MS):Prop where
  p:PS X e t
  r:RS K t m
structure QSs(K:PySem.W.Frag)(X:Cx)(e:List Stmt)(t:TS)(m:MS):Prop where
  p:PSs X e t
  r:RS K t m
noncomputable def Av:D->Option (List D)
  | .im (.tup is)=>some (is.map .im)
  | .tm ds=>some ds
  | _=>none
noncomputable def B1(hd:Hd):D->Option (List D)
  | .mu n=>match hd[n]? with
    | some (.lst ds)=>some ds
    | _=>none
  | .ro ns=>some (ns.map λ n=>.im (.int n))
  | _=>none
noncomputable def Aw(hd:Hd)(d:D):Option (List D):=match Av d with
  | some ds=>some ds
  | none=>B1 hd d
noncomputable def Bl:List D->Option (List I)
  | []=>some []
  | .im i :: r=>(Bl r).map (i :: ·)
  | _ :: _=>none
noncomputable def B4(ds:List D):D:=match Bl ds with
  | some is=>.im (.tup is)
  | none=>.tm ds
noncomputable def BR:List D->Option (List Int)
  | []=>some []
  | .im (.int i) :: r=>(BR r).map (i :: ·)
  | _ :: _=>none
noncomputable def Cf:List D->Option (List Bool)
  | []=>some []
  | .im (.bl i) :: r=>(Cf r).map (i :: ·)
  | _ :: _=>none
section
variable{K:PySem.W.Frag}{ρ ρ':List Addr}{H H':Hp}{hd hd':Hd}
theorem GR:∀ {ds:List D} {is:List I},Bl ds=some is->ds=is.map .im
  | [],is,h=>by simp[Bl]at h;subst h;rfl
  | .im i :: r,is,h=>by
    simp only[Bl,Option.map_eq_some_iff]at h
    obtain⟨js,e,rfl⟩:=h
    simp[GR e]
  | .mu _ :: _,is,h=>by simp[Bl]at h
  | .tm _ :: _,is,h=>by simp[Bl]at h
  | .ro _ :: _,is,h=>by simp[Bl]at h
theorem FD:∀ {ds:List D} {is:List Int},BR ds=some is->ds=is.map λ i=>.im (.int i)
  | [],is,h=>by simp[BR]at h;subst h;rfl
  | .im (.int i) :: r,is,h=>by
    simp only[BR,Option.map_eq_some_iff]at h
    obtain⟨js,e,rfl⟩:=h
    simp[FD e]
  | .im (.bl _) :: _,is,h=>by simp[BR]at h
  | .im (.str _) :: _,is,h=>by simp[BR]at h
  | .im .non :: _,is,h=>by simp[BR]at h
  | .im (.tup _) :: _,is,h=>by simp[BR]at h
  | .mu _ :: _,is,h=>by simp[BR]at h
  | .tm _ :: _,is,h=>by simp[BR]at h
  | .ro _ :: _,is,h=>by simp[BR]at h
theorem JZ:∀ {ds:List D} {is:List Bool},Cf ds=some is->ds=is.map λ i=>.im (.bl i)
  | [],is,h=>by simp[Cf]at h;subst h;rfl
  | .im (.bl i) :: r,is,h=>by
    simp only[Cf,Option.map_eq_some_iff]at h
    obtain⟨js,e,rfl⟩:=h
    simp[JZ e]
  | .im (.int _) :: _,is,h=>by simp[Cf]at h
  | .im (.str _) :: _,is,h=>by simp[Cf]at h
  | .im .non :: _,is,h=>by simp[Cf]at h
  | .im (.tup _) :: _,is,h=>by simp[Cf]at h
  | .mu _ :: _,is,h=>by simp[Cf]at h
  | .tm _ :: _,is,h=>by simp[Cf]at h
  | .ro _ :: _,is,h=>by simp[Cf]at h
@[simp] theorem Pa(is:List I):Bl (is.map .im)=some is:=by induction is <;> simp_all [Bl]
@[simp] theorem Jp(is:List Int):BR (is.map λ i=>.im (.int i))=some is:=by induction is <;> simp_all [BR]
@[simp] theorem blsD_map(is:List Bool):Cf (is.map λ i=>.im (.bl i))=some is:=by induction is <;> simp_all [Cf]
theorem Fa:∀ {ns:List Int} {xs:List V},RDs K ρ H (ns.map λ i=>.im (.int i)) xs->xs=ns.map V.int
  | [],xs,h=>by simpa [RDs]using h
  | n :: ns,xs,h=>by
    simp only[List.map_cons,RDs,RD,RI]at h
    obtain⟨x,r,rfl,rfl,z⟩:=h
    rw[Fa z];rfl
theorem Fp:∀ {ns:List Int},RDs K ρ H (ns.map λ i=>.im (.int i)) (ns.map V.int)
  | []=>by simp[RDs]
  | n :: ns=>by simp only[List.map_cons];exact .cons (by simp[RD,RI]) Fp
theorem L7:∀ {ns:List Bool} {xs:List V},RDs K ρ H (ns.map λ i=>.im (.bl i)) xs->xs=ns.map V.bl
  | [],xs,h=>by simpa [RDs]using h
  | n :: ns,xs,h=>by
    simp only[List.map_cons,RDs,RD,RI]at h
    obtain⟨x,r,rfl,rfl,z⟩:=h
    rw[L7 z];rfl
theorem RD.tup{d:D}{v:V}{ds:List D}(h:RD K ρ H d v)(e:Av d=some ds):∃ a xs,v=.ref a/\SqT K H a xs/\RDs K ρ H ds xs:=by
  cases d with
  | im i=>
    cases i with
    | tup is=>
      simp only[Av,Option.some.injEq]at e
      subst e
      simp only[RD,RI]at h
      obtain⟨a,xs,rfl,q,r⟩:=h
      exact⟨a,xs,rfl,q,r.ds⟩
    | _=>simp[Av]at e
  | tm es=>
    simp only[Av,Option.some.injEq]at e
    subst e
    simpa only[RD]using h
  | _=>simp[Av]at e
theorem RD.lst{d:D}{v:V}{ds:List D}(hR:RH K ρ H hd)(h:RD K ρ H d v)(e:B1 hd d=some ds):∃ a xs,v=.ref a/\SqL K H a xs/\RDs K ρ H ds xs:=by
  cases d with
  | mu n=>
    simp only[B1]at e
    simp only[RD]at h
    obtain⟨a,hn,rfl⟩:=h
    split at e
    . next q=>
      cases e
      obtain⟨xs,e1,e2⟩:=hR.lst hn q
      exact⟨a,xs,rfl,SqL.of e1,e2⟩
    . cases e
  | ro ns=>
    simp only[B1,Option.some.injEq]at e
    subst e
    simp only[RD]at h
    obtain⟨a,rfl,q⟩:=h
    exact⟨a,_,rfl,q.sq,Fp⟩
  | _=>simp[B1]at e
theorem RD.seq{d:D}{v:V}{ds:List D}(hR:RH K ρ H hd)(h:RD K ρ H d v)(e:Aw hd d=some ds):∃ a xs,v=.ref a/\(SqL K H a xs ∨ SqT K H a xs)/\RDs K ρ H ds xs:=by
  unfold Aw at e
  split at e
  . next q=>
    cases e
    obtain⟨a,xs,e1,e2,e3⟩:=h.tup q
    exact⟨a,xs,e1,.inr e2,e3⟩
  . obtain⟨a,xs,e1,e2,e3⟩:=h.lst hR e
    exact⟨a,xs,e1,.inl e2,e3⟩
theorem Cy{ds:List D}{a:Addr}{xs:List V}(q:SqT K H a xs)(r:RDs K ρ H ds xs):RD K ρ H (B4 ds) (.ref a):=by
  unfold B4
  split
  . next e=>
    rw[GR e]at r
    simp only[RD,RI]
    exact⟨a,xs,rfl,q,r.is⟩
  . simp only[RD]
    exact⟨a,xs,rfl,q,r⟩
noncomputable def A0(i:Nat):ME:=λ ls hd=>match ls[i]? with
  | some (some d)=>some (d,hd)
  | _=>none
theorem Uh{i:Nat}:RE K (Pr i) (A0 i):=by
  intro ρ σ H hd ls Q d hd' hR hL hm hQ
  unfold A0 at hm
  split at hm
  . next e=>
    cases hm
    obtain⟨v,e1,e2⟩:=hL.ob i _ e
    exact⟨v,e1,hQ ρ H v .refl hR e2⟩
  . cases hm
noncomputable def mC(i:I):ME:=λ _ hd=>some (.im i,hd)
theorem NO{v:V}{i:I}(h:∀ H,RI K H i v):RE K (tC v) (mC i):=by
  intro ρ σ H hd ls Q d hd' hR hL hm hQ
  cases hm
  exact hQ ρ H v .refl hR (by simpa only[RD]using h H)
noncomputable def mOp(f:D->D->Hd->Option (D × Hd))(ma mb:ME):ME:=λ ls hd=>(ma ls hd).bind λ p=>(mb ls p.2).bind λ q=>f p.1 q.1 q.2
theorem KG{r:R2}{f:D->D->Hd->Option (D × Hd)}{ta tb:TE}{ma mb:ME}(hr:RB K r f)(ha:RE K ta ma)(hb:RE K tb mb):RE K (tOp r ta tb) (mOp f ma mb):=by
  intro ρ σ H hd ls Q d hd' hR hL hm hQ
  obtain⟨⟨d1,h1⟩,e1,hm⟩:=Option.bind_eq_some_iff.mp hm
  obtain⟨⟨d2,h2⟩,e2,hm⟩:=Option.bind_eq_some_iff.mp hm
  refine ha ρ σ H hd ls _ d1 h1 hR hL e1 λ ρ1 H1 v1 x1 R1 r1=>?_
  refine hb ρ1 σ H1 h1 ls _ d2 h2 R1 (hL.ext hR x1) e2 λ ρ2 H2 v2 x2 R2 r2=>?_
  exact hr ρ2 H2 h2 d1 d2 v1 v2 Q d hd' R2 (r1.ext R1 x2) r2 hm λ ρ' H' w x3 R3 r3=>hQ ρ' H' w ((x1.trans R1 x2).trans R2 x3) R3 r3
noncomputable def GH(ta tb:MT):MT:=λ ls hd=>(ta ls hd).bind λ p=>if p.1=true then tb ls p.2 else some (false,p.2)
noncomputable def mOr(ta tb:MT):MT:=λ ls hd=>(ta ls hd).bind λ p=>if p.1=true then some (true,p.2)else tb ls p.2
noncomputable def LV(ta:MT):MT:=λ ls hd=>(ta ls hd).bind λ p=>some (!p.1,p.2)
theorem UQ{ta tb:TT}{ma mb:MT}(ha:RT K ta ma)(hb:RT K tb mb):RT K (Q4 ta tb) (GH ma mb):=by
  intro ρ σ H hd ls Q d hd' hR hL hm hQ
  obtain⟨⟨d1,h1⟩,e1,hm⟩:=Option.bind_eq_some_iff.mp hm
  refine ha ρ σ H hd ls _ d1 h1 hR hL e1 λ ρ1 H1 x1 R1=>?_
  cases d1 with
  | true=>
    rw[if_pos rfl]at hm ⊢
    exact hb ρ1 σ H1 h1 ls Q d hd' R1 (hL.ext hR x1) hm λ ρ2 H2 x2 R2=>hQ ρ2 H2 (x1.trans R1 x2) R2
  | false=>
    rw[if_neg Bool.false_ne_true]at hm ⊢
    cases hm
    exact hQ ρ1 H1 x1 R1
theorem WY{ta tb:TT}{ma mb:MT}(ha:RT K ta ma)(hb:RT K tb mb):RT K (tOr ta tb) (mOr ma mb):=by
  intro ρ σ H hd ls Q d hd' hR hL hm hQ
  obtain⟨⟨d1,h1⟩,e1,hm⟩:=Option.bind_eq_some_iff.mp hm
  refine ha ρ σ H hd ls _ d1 h1 hR hL e1 λ ρ1 H1 x1 R1=>?_
  cases d1 with
  | true=>
    rw[if_pos rfl]at hm ⊢
    cases hm
    exact hQ ρ1 H1 x1 R1
  | false=>
    rw[if_neg Bool.false_ne_true]at hm ⊢
    exact hb ρ1 σ H1 h1 ls Q d hd' R1 (hL.ext hR x1) hm λ ρ2 H2 x2 R2=>hQ ρ2 H2 (x1.trans R1 x2) R2
theorem UP{ta:TT}{ma:MT}(ha:RT K ta ma):RT K (Pw ta) (LV ma):=by
  intro ρ σ H hd ls Q d hd' hR hL hm hQ
  obtain⟨⟨d1,h1⟩,e1,hm⟩:=Option.bind_eq_some_iff.mp hm
  cases hm
  exact ha ρ σ H hd ls _ d1 h1 hR hL e1 λ ρ1 H1 x1 R1=>hQ ρ1 H1 x1 R1
open Classical in
noncomputable def Dh(hd:Hd):D->Option Bool
  | .im .non=>some false
  | .im (.bl b)=>some b
  | .im (.int i)=>some (i != 0)
  | .im (.str x)=>if Bs x.length then some ((x.length:Int) != 0)else none
  | .im (.tup is)=>some (!is.isEmpty)
  | .tm is=>some (!is.isEmpty)
  | .ro ns=>some (!ns.isEmpty)
  | .mu n=>match hd[n]? with
    | some (.lst ds)=>some (!ds.isEmpty)
    | some (.dic ds)=>some (!ds.isEmpty)
    | none=>none
theorem DX{α β:Type}{xs:List α}{ys:List β}(h:xs.length=ys.length):xs.isEmpty=ys.isEmpty:=by
  cases xs <;> cases ys <;> simp_all
theorem RKs.len:∀ {ds:List (Key × D)} {xs:List (Key × V)},RKs K ρ H ds xs->xs.length=ds.length
  | [],xs,h=>by simp only[RKs]at h;rw[h];rfl
  | d :: ds,xs,h=>by
    simp only[RKs]at h
    obtain⟨x,r,rfl,_,_,z⟩:=h
    simp[RKs.len z]
theorem SZ{d:D}{v:V}{b:Bool}(hR:RH K ρ H hd)(h:RD K ρ H d v)(e:Dh hd d=some b):M4 K v H b:=by
  cases d with
  | im i=>
    cases i with
    | non=>simp only[RD,RI]at h;subst h;simp only[Dh,Option.some.injEq]at e;subst e;exact rfl
    | bl c=>simp only[RD,RI]at h;subst h;simp only[Dh,Option.some.injEq]at e;subst e;exact rfl
    | int c=>simp only[RD,RI]at h;subst h;simp only[Dh,Option.some.injEq]at e;subst e;exact rfl
    | str c=>
      simp only[RD,RI]at h;subst h;simp only[Dh]at e
      split at e
      . next z=>cases e;exact⟨z,rfl⟩
      . cases e
    | tup is=>
      obtain⟨a,xs,rfl,q,r⟩:=h.tup (ds:=is.map .im) rfl
      simp only[Dh,Option.some.injEq]at e;subst e
      exact .inr (.inl ⟨xs,q,by rw[DX (show xs.length=is.length by simpa using r.len)]⟩)
  | tm ds=>
    obtain⟨a,xs,rfl,q,r⟩:=h.tup (ds:=ds) rfl
    simp only[Dh,Option.some.injEq]at e;subst e
    exact .inr (.inl ⟨xs,q,by rw[DX r.len]⟩)
  | ro ns=>
    obtain⟨a,xs,rfl,q,r⟩:=h.lst hR (hd:=hd) (ds:=ns.map λ n=>.im (.int n)) rfl
    simp only[Dh,Option.some.injEq]at e;subst e
    exact .inl ⟨xs,q,by rw[DX (show xs.length=ns.length by simpa using r.len)]⟩
  | mu n=>
    simp only[RD]at h
    obtain⟨a,hn,rfl⟩:=h
    simp only[Dh]at e
    split at e
    . next q=>
      cases e
      obtain⟨xs,e1,e2⟩:=hR.lst hn q
      exact .inl ⟨xs,SqL.of e1,by rw[DX e2.len]⟩
    . next q=>
      cases e
      obtain⟨xs,e1,e2⟩:=hR.dic hn q
      exact .inr (.inr ⟨xs,e1,by rw[DX e2.len]⟩)
    . cases e
noncomputable def FC(ma:ME):MT:=λ ls hd=>(ma ls hd).bind λ p=>(Dh p.2 p.1).map (·,p.2)
theorem QC{ta:TE}{ma:ME}(ha:RE K ta ma):RT K (λ σ H Q=>ta σ H λ x H'=>∃ k,M4 K x H' k/\Q k H') (FC ma):=by
  intro ρ σ H hd ls Q d hd' hR hL hm hQ
  obtain⟨⟨d1,h1⟩,e1,hm⟩:=Option.bind_eq_some_iff.mp hm
  obtain⟨b,e2,e3⟩:=Option.map_eq_some_iff.mp hm
  cases e3
  exact ha ρ σ H hd ls _ d1 h1 hR hL e1 λ ρ1 H1 v x1 R1 r1=>⟨_,SZ R1 r1 e2,hQ ρ1 H1 x1 R1⟩
noncomputable def AR(ma:ME):MT:=λ ls hd=>(ma ls hd).bind λ p=>match p.1 with
  | .im (.bl b)=>some (b,p.2)
  | _=>none
theorem HF{ta:TE}{ma:ME}(ha:RE K ta ma):RT K (KF ta) (AR ma):=by
  intro ρ σ H hd ls Q d hd' hR hL hm hQ
  obtain⟨⟨d1,h1⟩,e1,hm⟩:=Option.bind_eq_some_iff.mp hm
  dsimp only at hm
  split at hm
  . cases hm
    exact ha ρ σ H hd ls _ _ _ hR hL e1 λ ρ1 H1 v x1 R1 r1=>⟨_,by simpa only[RD,RI]using r1,hQ ρ1 H1 x1 R1⟩
  . cases hm
theorem UR{ta:TE}{ma:ME}(ha:RE K ta ma):RT K (tB ta) (AR ma):=HF ha
noncomputable def mIf(c:MT)(ma mb:ME):ME:=λ ls hd=>(c ls hd).bind λ p=>if p.1=true then ma ls p.2 else mb ls p.2
theorem Wb{tc:TT}{c:MT}{ta tb:TE}{ma mb:ME}(hc:RT K tc c)(ha:RE K ta ma)(hb:RE K tb mb):RE K (tIf tc ta tb) (mIf c ma mb):=by
  intro ρ σ H hd ls Q d hd' hR hL hm hQ
  obtain⟨⟨d1,h1⟩,e1,hm⟩:=Option.bind_eq_some_iff.mp hm
  refine hc ρ σ H hd ls _ d1 h1 hR hL e1 λ ρ1 H1 x1 R1=>?_
  cases d1 with
  | true=>
    rw[if_pos rfl]at hm ⊢
    exact ha ρ1 σ H1 h1 ls Q d hd' R1 (hL.ext hR x1) hm λ ρ2 H2 v x2 R2 r2=>hQ ρ2 H2 v (x1.trans R1 x2) R2 r2
  | false=>
    rw[if_neg Bool.false_ne_true]at hm ⊢
    exact hb ρ1 σ H1 h1 ls Q d hd' R1 (hL.ext hR x1) hm λ ρ2 H2 v x2 R2 r2=>hQ ρ2 H2 v (x1.trans R1 x2) R2 r2
noncomputable def Ii(ma mb:ME):ME:=λ ls hd=>(AR ma ls hd).bind λ p=>if p.1=true then mb ls p.2 else some (.im (.bl false),p.2)
noncomputable def XM(ma mb:ME):ME:=λ ls hd=>(AR ma ls hd).bind λ p=>if p.1=true then some (.im (.bl true),p.2)else mb ls p.2
noncomputable def Wu(ma:ME):ME:=λ ls hd=>(AR ma ls hd).bind λ p=>some (.im (.bl (!p.1)),p.2)
theorem Sx{ta tb:TE}{ma mb:ME}(ha:RE K ta ma)(hb:RE K tb mb):RE K (NJ ta tb) (Ii ma mb):=by
  intro ρ σ H hd ls Q d hd' hR hL hm hQ
  obtain⟨⟨d1,h1⟩,e1,hm⟩:=Option.bind_eq_some_iff.mp hm
  refine HF ha ρ σ H hd ls (λ c H1=>if c=true then tb σ H1 Q else Q (.bl false) H1) d1 h1 hR hL e1 λ ρ1 H1 x1 R1=>?_
  cases d1 with
  | true=>
    rw[if_pos rfl]at hm ⊢
    exact hb ρ1 σ H1 h1 ls Q d hd' R1 (hL.ext hR x1) hm λ ρ2 H2 v x2 R2 r2=>hQ ρ2 H2 v (x1.trans R1 x2) R2 r2
  | false=>
    rw[if_neg Bool.false_ne_true]at hm ⊢
    cases hm
    exact hQ ρ1 H1 _ x1 R1 (by simp[RD,RI])
noncomputable def A6:MA:=λ _ hd=>some ([],hd)
noncomputable def A2(ma:ME)(mr:MA):MA:=λ ls hd=>(ma ls hd).bind λ p=>(mr ls p.2).bind λ q=>some (p.1 :: q.1,q.2)
theorem OX:RA K Cb A6:=by
  intro ρ σ H hd ls Q d hd' hR hL hm hQ
  cases hm
  exact hQ ρ H [] .refl hR .nil
theorem Sy{ta:TE}{tr:TA}{ma:ME}{mr:MA}(ha:RE K ta ma)(hr:RA K tr mr):RA K (Bi ta tr) (A2 ma mr):=by
  intro ρ σ H hd ls Q d hd' hR hL hm hQ
  obtain⟨⟨d1,h1⟩,e1,hm⟩:=Option.bind_eq_some_iff.mp hm
  obtain⟨⟨d2,h2⟩,e2,hm⟩:=Option.bind_eq_some_iff.mp hm
  cases hm
  refine ha ρ σ H hd ls _ d1 h1 hR hL e1 λ ρ1 H1 v1 x1 R1 r1=>?_
  exact hr ρ1 σ H1 h1 ls _ d2 _ R1 (hL.ext hR x1) e2 λ ρ2 H2 v2 x2 R2 r2=>hQ ρ2 H2 _ (x1.trans R1 x2) R2 (.cons (r1.ext R1 x2) r2)
open Classical in
noncomputable def DS(ma:MA):ME:=λ ls hd=>(ma ls hd).bind λ p=>if Bs p.1.length then some (B4 p.1,p.2)else none
theorem Ui{t:TA}{m:MA}(h:RA K t m):RE K (Ps t) (DS m):=by
  intro ρ σ H hd ls Q d hd' hR hL hm hQ
  obtain⟨⟨d1,h1⟩,e1,hm⟩:=Option.bind_eq_some_iff.mp hm
  dsimp only at hm
  split at hm
  . next z=>
    cases hm
    refine h ρ σ H hd ls _ d1 _ hR hL e1 λ ρ1 H1 v1 x1 R1 r1=>⟨by rw[r1.len];exact z,λ p hp=>?_⟩
    obtain⟨R2,x2⟩:=R1.hid (ho:=.tup v1) hp
    exact hQ ρ1 _ _ (x1.trans R1 x2) R2 (Cy (SqT.of AQ) (r1.ext R1 x2))
  . cases hm
open Classical in
noncomputable def BM(ma:MA):MA:=λ ls hd=>(ma ls hd).bind λ p=>if Bs p.1.length then some (p.1,p.2)else none
theorem RH.out(hR:RH K ρ H hd){a:Addr}(h:H a=none):a ∉ ρ:=λ m=>by rcases hR.mut m with⟨y,z⟩|⟨y,z⟩ <;> (rw[h]at z;cases z)
theorem Ext.none(e:Ext ρ H ρ' H')(hR:RH K ρ H hd){a:Addr}(h:H' a=none)(hR':RH K ρ' H' hd'):H a=none:=by
  cases q:H a with
  | none=>rfl
  | some o=>
    by_cases m:a ∈ ρ
    . obtain⟨r,rfl,_⟩:=e.pre
      exact absurd (List.mem_append_left r m) (hR'.out h)
    . by_cases t:∃ ps,o=.tbl ps
      . obtain⟨ps,rfl⟩:=t
        obtain⟨ps',this⟩:=e.tab a ps q
        rw[h]at this;cases this
      . rw[e.keep a o q m λ ps y=>t ⟨ps,y⟩]at h;cases h
theorem UX{t:TA}{m:MA}(h:RA K t m):RN K (Px t) (BM m):=by
  intro ρ σ H hd ls Q d hd' hR hL hm hQ
  obtain⟨⟨d1,h1⟩,e1,hm⟩:=Option.bind_eq_some_iff.mp hm
  dsimp only at hm
  split at hm
  . next z=>
    cases hm
    refine h ρ σ H hd ls _ _ _ hR hL e1 λ ρ1 H1 v1 x1 R1 r1=>⟨by rw[r1.len];exact z,λ p hp=>?_⟩
    obtain⟨R2,x2⟩:=R1.hid (ho:=.lst v1) hp
    exact hQ ρ1 _ p v1 (x1.trans R1 x2) R2 (x1.none hR hp R1) (R1.out hp) AQ (r1.ext R1 x2)
  . cases hm
noncomputable def B3(ml:MA):ME:=λ ls hd=>(ml ls hd).bind λ p=>some (.mu p.2.length,p.2 ++ [.lst p.1])
theorem RH.name(hR:RH K ρ H hd){a:Addr}{xs:List V}{ds:List D}(out:a ∉ ρ)(e:H a=some (.lst xs))(r:RDs K ρ H ds xs):RH K (ρ ++ [a]) H (hd ++ [.lst ds]):=by
  have mono:∀ {o:MO} {ho:HO},RC K ρ H o ho->RC K (ρ ++ [a]) H o ho:=λ c=>c.mono Grow.refl [a]
  refine⟨by simp[hR.len],?_,hR.tabs,λ n o' b e1 e2=>?_⟩
  . rw[List.nodup_append]
    refine⟨hR.nd,by simp,λ x hx y hy z=>?_⟩
    simp at hy;subst hy;subst z;exact out hx
  . by_cases hn:n < ρ.length
    . rw[List.getElem?_append_left hn]at e2
      rw[List.getElem?_append_left (by rw[<- hR.len];exact hn)]at e1
      obtain⟨ho',q1,q2⟩:=hR.ob n o' b e1 e2
      exact⟨ho',q1,mono q2⟩
    . have hn':n=ρ.length:=by
        have:=(List.getElem?_eq_some_iff.mp e2).1
        simp at this;omega
      subst hn'
      simp at e2
      rw[hR.len]at e1
      simp at e1
      subst e1;subst e2
      exact⟨_,e,mono ⟨xs,rfl,r⟩⟩
theorem Ext.name(e:Ext ρ H ρ' H'){a:Addr}(h:H a=Option.none):Ext ρ H (ρ' ++ [a]) H':=by
  obtain⟨r,rfl,f⟩:=e.pre
  refine⟨⟨r ++ [a],by simp,λ b m=>?_⟩,e.keep,e.tab⟩
  rcases List.mem_append.mp m with m|m
  . exact f b m
  . simp at m;subst m;exact h
theorem OT{t:TE}{m:MA}(h:RN K t m):RE K t (B3 m):=by
  intro ρ σ H hd ls Q d hd' hR hL hm hQ
  obtain⟨⟨d1,h1⟩,e1,hm⟩:=Option.bind_eq_some_iff.mp hm
  cases hm
  refine h ρ σ H hd ls Q d1 h1 hR hL e1 λ ρ1 H1 a xs x1 R1 na oa ea r1=>?_
  refine hQ (ρ1 ++ [a]) H1 _ (x1.name na) (R1.name oa ea r1) ?_
  simp only[RD]
  exact⟨a,by rw[<- R1.len];simp,rfl⟩
end
end L2
namespace L2
open PySem PySem.Spec PyProof.Rows
section
variable{K:PySem.W.Frag}{ρ ρ':List Addr}{H H':Hp}{hd hd':Hd}
noncomputable def fI(g:Int->Int->Option I):D->D->Hd->Option (D × Hd)
  | .im (.int i),.im (.int j),hd=>(g i j).map (.im ·,hd)
  | _,_,_=>none
theorem NQ{C:Int->Int->Prop}{g:Int->Int->V}{f:Int->Int->Option I}(h:∀ i j z,f i j=some z->C i j/\∀ H,RI K H z (g i j)):RB K (rI C g) (fI f):=by
  intro ρ H hd d e v u Q z hd' hR h1 h2 hf hQ
  unfold fI at hf
  split at hf
  . simp only[RD,RI]at h1 h2
    subst h1 h2
    obtain⟨w,e1,e2⟩:=Option.map_eq_some_iff.mp hf
    cases e2
    obtain⟨c,r⟩:=h _ _ _ e1
    exact⟨_,_,rfl,rfl,c,hQ ρ H _ .refl hR (by simpa only[RD]using r H)⟩
  . cases hf
theorem HH{g:Int->Int->V}{f:Int->Int->I}(h:∀ i j H,RI K H (f i j) (g i j)):RB K (rI0 g) (fI λ i j=>some (f i j)):=by
  intro ρ H hd d e v u Q z hd' hR h1 h2 hf hQ
  unfold fI at hf
  split at hf
  . simp only[RD,RI]at h1 h2
    subst h1 h2
    cases hf
    exact⟨_,_,rfl,rfl,hQ ρ H _ .refl hR (by simpa only[RD]using h _ _ H)⟩
  . cases hf
noncomputable def HQ(f g:D->D->Hd->Option (D × Hd)):D->D->Hd->Option (D × Hd):=λ d e hd=>match f d e hd with
  | some z=>some z
  | none=>g d e hd
theorem AU{r r':R2}{f g:D->D->Hd->Option (D × Hd)}(h:RB K r f)(h':RB K r' g):RB K (λ x y H Q=>r x y H Q ∨ r' x y H Q) (HQ f g):=by
  intro ρ H hd d e v u Q z hd' hR h1 h2 hf hQ
  unfold HQ at hf
  split at hf
  . next q=>cases hf;exact .inl (h ρ H hd d e v u Q z hd' hR h1 h2 q hQ)
  . exact .inr (h' ρ H hd d e v u Q z hd' hR h1 h2 hf hQ)
noncomputable abbrev Vu:D->D->Hd->Option (D × Hd):=fI λ i j=>some (.int (i + j))
noncomputable abbrev EG:D->D->Hd->Option (D × Hd):=fI λ i j=>some (.int (i - j))
theorem BH:RB K (rI0 λ i j=>.int (i + j)) Vu:=HH λ _ _ _=>by simp[RI]
theorem Ew:RB K (rI0 λ i j=>.int (i - j)) EG:=HH λ _ _ _=>by simp[RI]
open Classical in
noncomputable abbrev C2:D->D->Hd->Option (D × Hd):=fI λ i j=>if Ec i j then some (.int (i * j))else none
theorem Cj:RB K (rI CMul λ i j=>.int (i * j)) C2:=NQ λ i j z h=>by
  split at h
  . next q=>cases h;exact⟨q,λ _=>by simp[RI]⟩
  . cases h
open Classical in
noncomputable abbrev Dl:D->D->Hd->Option (D × Hd):=fI λ i j=>if Ee j then some (.int (i % j))else none
theorem EQ:RB K (rI (λ _ j=>0 < j) λ i j=>.int (i % j)) Dl:=NQ λ i j z h=>by
  split at h
  . next q=>cases h;exact⟨q,λ _=>by simp[RI]⟩
  . cases h
open Classical in
noncomputable abbrev HN:D->D->Hd->Option (D × Hd):=fI λ i j=>if KP j then some (.int (i / j))else none
theorem JF:RB K (rI WK λ i j=>.int (i / j)) HN:=NQ λ i j z h=>by
  split at h
  . next q=>cases h;exact⟨q,λ _=>by simp[RI]⟩
  . cases h
open Classical in
noncomputable abbrev Rb:D->D->Hd->Option (D × Hd):=fI λ i j=>if NU i j then some (.int (i ^ j.toNat))else none
theorem Ur:RB K (rI WJ λ i j=>.int (i ^ j.toNat)) Rb:=NQ λ i j z h=>by
  split at h
  . next q=>cases h;exact⟨q,λ _=>by simp[RI]⟩
  . cases h
noncomputable abbrev gLt:D->D->Hd->Option (D × Hd):=fI λ i j=>some (.bl (decide (i < j)))
noncomputable abbrev gLe:D->D->Hd->Option (D × Hd):=fI λ i j=>some (.bl (decide (i <= j)))
noncomputable abbrev gGt:D->D->Hd->Option (D × Hd):=fI λ i j=>some (.bl (decide (j < i)))
noncomputable abbrev gGe:D->D->Hd->Option (D × Hd):=fI λ i j=>some (.bl (decide (j <= i)))
theorem NP:RB K (rI0 λ i j=>.bl (decide (i < j))) gLt:=HH λ _ _ _=>by simp[RI]
theorem Ry:RB K (rI0 λ i j=>.bl (decide (i <= j))) gLe:=HH λ _ _ _=>by simp[RI]
theorem KH:RB K (rI0 λ i j=>.bl (decide (j < i))) gGt:=HH λ _ _ _=>by simp[RI]
theorem Wd:RB K (rI0 λ i j=>.bl (decide (j <= i))) gGe:=HH λ _ _ _=>by simp[RI]
noncomputable def scI:I->Option V
  | .non=>some .non
  | .bl b=>some (.bl b)
  | .int i=>some (.int i)
  | .str x=>some (.str x)
  | .tup _=>none
theorem IH{i:I}{v w:V}(e:scI i=some w)(h:RI K H i v):v=w:=by
  cases i with
  | tup _=>simp[scI]at e
  | _=>simp only[scI,Option.some.injEq]at e;subst e;simpa only[RI]using h
noncomputable def FX(neg:Bool):D->D->Hd->Option (D × Hd)
  | .im i,.im j,hd=>match scI i,scI j with
    | some x,some y=>if Kt x y=true then some (.im (.bl (if neg then !decide (x=y)else decide (x=y))),hd)else none
    | _,_=>none
  | _,_,_=>none
theorem Bw:RB K rEq (FX false):=by
  intro ρ H hd d e v u Q z hd' hR h1 h2 hf hQ
  unfold FX at hf
  split at hf
  . split at hf
    . next x y e1 e2=>
      split at hf
      . next s=>
        cases hf
        simp only[RD]at h1 h2
        rw[IH e1 h1,IH e2 h2]
        exact⟨s,hQ ρ H _ .refl hR (by simp[RD,RI])⟩
      . cases hf
    . cases hf
  . cases hf
theorem OV:RB K rNe (FX true):=by
  intro ρ H hd d e v u Q z hd' hR h1 h2 hf hQ
  unfold FX at hf
  split at hf
  . split at hf
    . next x y e1 e2=>
      split at hf
      . next s=>
        cases hf
        simp only[RD]at h1 h2
        rw[IH e1 h1,IH e2 h2]
        exact⟨s,hQ ρ H _ .refl hR (by simp[RD,RI])⟩
      . cases hf
    . cases hf
  . cases hf
mutual
noncomputable def I.py:I->PyData
  | .non=>.none
  | .bl b=>.bool b
  | .int i=>.int i
  | .str x=>.str x
  | .tup ds=>.tuple (I.pys ds)
noncomputable def I.pys:List I->List PyData
  | []=>[]
  | d :: ds=>I.py d :: I.pys ds
end
mutual
theorem RI.rep:∀ {i:I} {v:V},RI K H i v->Rep K H i.py v
  | .non,v,h=>by simpa only[RI,I.py,Rep]using h
  | .bl _,v,h=>by simpa only[RI,I.py,Rep]using h
  | .int _,v,h=>by simpa only[RI,I.py,Rep]using h
  | .str _,v,h=>by simpa only[RI,I.py,Rep]using h
  | .tup ds,v,h=>by
    simp only[RI]at h
    obtain⟨a,xs,e,q,r⟩:=h
    simp only[I.py,Rep]
    exact⟨a,xs,e,q,RIs.rep r⟩
theorem RIs.rep:∀ {i:List I} {v:List V},RIs K H i v->RepAll K H (I.pys i) v
  | [],v,h=>by simpa only[RIs,I.pys,RepAll]using h
  | d :: ds,v,h=>by
    simp only[RIs]at h
    obtain⟨x,r,e,q,z⟩:=h
    simp only[I.pys,RepAll]
    exact⟨x,r,e,q.rep,RIs.rep z⟩
end
noncomputable def pyD(hd:Hd):D->Option PyData
  | .im i=>some i.py
  | .mu n=>match hd[n]? with
    | some (.lst ds)=>(Bl ds).map λ is=>.list (I.pys is)
    | _=>none
  | .ro ns=>some (.list (I.pys (ns.map I.int)))
  | _=>none
theorem Ff{d:D}{v:V}{p:PyData}(hR:RH K ρ H hd)(h:RD K ρ H d v)(e:pyD hd d=some p):Rep K H p v:=by
  cases d with
  | im i=>simp only[pyD,Option.some.injEq]at e;subst e;simp only[RD]at h;exact h.rep
  | mu n=>
    simp only[pyD]at e
    simp only[RD]at h
    obtain⟨a,hn,rfl⟩:=h
    split at e
    . next q=>
      obtain⟨is,e1,rfl⟩:=Option.map_eq_some_iff.mp e
      obtain⟨xs,e2,e3⟩:=hR.lst hn q
      rw[GR e1]at e3
      simp only[Rep]
      exact⟨a,xs,rfl,SqL.of e2,e3.is.rep⟩
    . cases e
  | ro ns=>
    simp only[pyD,Option.some.injEq]at e;subst e
    obtain⟨a,xs,rfl,q,r⟩:=h.lst hR (hd:=hd) (ds:=ns.map λ n=>.im (.int n)) rfl
    simp only[Rep]
    refine⟨a,xs,rfl,q,RIs.rep (RDs.is (ρ:=ρ) ?_)⟩
    rw[List.map_map]
    exact r
  | tm _=>simp[pyD]at e
noncomputable def JV(neg:Bool):D->D->Hd->Option (D × Hd):=λ d e hd=>match pyD hd d,pyD hd e with
  | some x,some y=>if x.canLay0=true/\y.canLay0=true/\min x.depth y.depth <= 60 then some (.im (.bl (if neg then !PyData.eqv x y else PyData.eqv x y)),hd)else none
  | _,_=>none
theorem Bx:RB K (Qf K) (JV false):=by
  intro ρ H hd d e v u Q z hd' hR h1 h2 hf hQ
  unfold JV at hf
  split at hf
  . next e1 e2=>
    split at hf
    . next c=>cases hf;exact⟨_,_,Ff hR h1 e1,Ff hR h2 e2,c.1,c.2.1,c.2.2,hQ ρ H _ .refl hR (by simp[RD,RI])⟩
    . cases hf
  . cases hf
theorem OW:RB K (Qc K) (JV true):=by
  intro ρ H hd d e v u Q z hd' hR h1 h2 hf hQ
  unfold JV at hf
  split at hf
  . next e1 e2=>
    split at hf
    . next c=>cases hf;exact⟨_,_,Ff hR h1 e1,Ff hR h2 e2,c.1,c.2.1,c.2.2,hQ ρ H _ .refl hR (by simp[RD,RI])⟩
    . cases hf
  . cases hf
noncomputable abbrev gEq:=HQ (FX false) (JV false)
noncomputable abbrev gNe:=HQ (FX true) (JV true)
noncomputable def gIx:D->D->Hd->Option (D × Hd)
  | d,.im (.int i),hd=>(Aw hd d).bind λ ds=>(atI ds i).map (·,hd)
  | _,_,_=>none
theorem N4{α β:Type}{xs:List α}{ys:List β}{i:Int}{y:β}(h:xs.length=ys.length)(e:atI ys i=some y):∃ (j:Nat),ys[j]? = some y/\∀ x,xs[j]? = some x->atI xs i=some x:=by
  unfold atI at e
  obtain⟨j,e1,e2⟩:=Option.bind_eq_some_iff.mp e
  exact⟨j,e2,λ x q=>by unfold atI;rw[h,e1];exact q⟩
noncomputable def KI(K:PySem.W.Frag):R2:=λ x y H Q=>Qe K x y H Q ∨ Qd K x y H Q
theorem Wc:RB K (KI K) gIx:=by
  intro ρ H hd d e v u Q z hd' hR h1 h2 hf hQ
  unfold gIx at hf
  split at hf
  . obtain⟨ds,e1,hf⟩:=Option.bind_eq_some_iff.mp hf
    obtain⟨w,e2,e3⟩:=Option.map_eq_some_iff.mp hf
    cases e3
    obtain⟨a,xs,rfl,q,r⟩:=h1.seq hR e1
    simp only[RD,RI]at h2
    subst h2
    obtain⟨j,j1,j2⟩:=N4 r.len e2
    obtain⟨x,x1,x2⟩:=r.get j1
    rcases q with q|q
    . exact .inl ⟨a,xs,_,x,rfl,rfl,q,j2 x x1,hQ ρ H x .refl hR x2⟩
    . exact .inr ⟨a,xs,_,x,rfl,rfl,q,j2 x x1,hQ ρ H x .refl hR x2⟩
  . cases hf
noncomputable def FF(xs:List D)(lo hi:Option Int):List D:=(xs.drop (HT.sIx xs.length 0 lo)).take (HT.sIx xs.length xs.length hi - HT.sIx xs.length 0 lo)
theorem U2{ds:List D}{xs:List V}{lo hi:Option Int}(r:RDs K ρ H ds xs):RDs K ρ H (FF ds lo hi) (Hv xs lo hi):=by
  unfold FF Hv
  rw[r.len]
  exact(r.drop _).take _
noncomputable abbrev MO1:=Ls->Hd->Option (Option Int × Hd)
noncomputable def RO1(K:PySem.W.Frag)(t:TO)(m:MO1):Prop:=∀ (ρ:List Addr) (σ:St) (H:Hp) (hd:Hd) (ls:Ls) (Q:Option Int->Hp->Prop) (d:Option Int) (hd':Hd),RH K ρ H hd->RL K ρ H ls σ->m ls hd=some (d,hd') ->
  (∀ ρ' H',Ext ρ H ρ' H'->RH K ρ' H' hd'->Q d H')->t σ H Q
noncomputable def HK:MO1:=λ _ hd=>some (none,hd)
noncomputable def GF(m:ME):MO1:=λ ls hd=>(m ls hd).bind λ p=>match p.1 with
  | .im (.int i)=>some (some i,p.2)
  | _=>none
theorem Sl:RO1 K JD HK:=by
  intro ρ σ H hd ls Q d hd' hR hL hm hQ
  cases hm
  exact hQ ρ H .refl hR
theorem Sk{t:TE}{m:ME}(h:RE K t m):RO1 K (NE t) (GF m):=by
  intro ρ σ H hd ls Q d hd' hR hL hm hQ
  obtain⟨⟨d1,h1⟩,e1,hm⟩:=Option.bind_eq_some_iff.mp hm
  dsimp only at hm
  split at hm
  . cases hm
    exact h ρ σ H hd ls _ _ _ hR hL e1 λ ρ1 H1 v x1 R1 r1=>⟨_,by simpa only[RD,RI]using r1,hQ ρ1 H1 x1 R1⟩
  . cases hm
noncomputable def XL(m:ME)(ml mh:MO1):ME:=λ ls hd=>(m ls hd).bind λ p=>(ml ls p.2).bind λ l=>(mh ls l.2).bind λ h=>(Av p.1).bind λ ds=>
  if ¬ (HT.sIx ds.length 0 l.1=0/\HT.sIx ds.length ds.length h.1=ds.length)then some (B4 (FF ds l.1 h.1),h.2)else none
noncomputable def JS(m:ME)(ml mh:MO1):MA:=λ ls hd=>(m ls hd).bind λ p=>(ml ls p.2).bind λ l=>(mh ls l.2).bind λ h=>(B1 h.2 p.1).bind λ ds=>some (FF ds l.1 h.1,h.2)
theorem UV{t:TE}{tl th:TO}{m:ME}{ml mh:MO1}(h:RE K t m)(hl:RO1 K tl ml)(hh:RO1 K th mh):RN K (tSl (NR K) t tl th) (JS m ml mh):=by
  intro ρ σ H hd ls Q d hd' hR hL hm hQ
  obtain⟨⟨d1,h1⟩,e1,hm⟩:=Option.bind_eq_some_iff.mp hm
  obtain⟨⟨d2,h2⟩,e2,hm⟩:=Option.bind_eq_some_iff.mp hm
  obtain⟨⟨d3,h3⟩,e3,hm⟩:=Option.bind_eq_some_iff.mp hm
  obtain⟨ds,e4,hm⟩:=Option.bind_eq_some_iff.mp hm
  dsimp only at e2 e3 e4 hm
  cases hm
  refine h ρ σ H hd ls _ d1 h1 hR hL e1 λ ρ1 H1 v1 x1 R1 r1=>?_
  refine hl ρ1 σ H1 h1 ls _ d2 h2 R1 (hL.ext hR x1) e2 λ ρ2 H2 x2 R2=>?_
  refine hh ρ2 σ H2 h2 ls _ d3 _ R2 (hL.ext hR (x1.trans R1 x2)) e3 λ ρ3 H3 x3 R3=>?_
  obtain⟨a,xs,rfl,q,r⟩:=RD.lst R3 ((r1.ext R1 x2).ext R2 x3) e4
  refine⟨a,xs,rfl,q,λ p hp=>?_⟩
  obtain⟨R4,x4⟩:=R3.hid (ho:=.lst (Hv xs d2 d3)) hp
  have x123:=(x1.trans R1 x2).trans R2 x3
  exact hQ ρ3 _ p _ (x123.trans R3 x4) R4 (x123.none hR hp R3) (R3.out hp) AQ ((U2 r).ext R3 x4)
noncomputable def mCB(f:List D->Hd->Option (D × Hd))(ma:MA):ME:=λ ls hd=>(ma ls hd).bind λ p=>f p.1 p.2
theorem Rv{r:List V->Hp->VK->Prop}{f:List D->Hd->Option (D × Hd)}{t:TA}{m:MA}(hr:RF K r f)(h:RA K t m):RE K (tCB r t) (mCB f m):=by
  intro ρ σ H hd ls Q d hd' hR hL hm hQ
  obtain⟨⟨d1,h1⟩,e1,hm⟩:=Option.bind_eq_some_iff.mp hm
  refine h ρ σ H hd ls _ d1 h1 hR hL e1 λ ρ1 H1 v1 x1 R1 r1=>?_
  exact hr ρ1 H1 h1 d1 v1 Q d hd' R1 r1 hm λ ρ' H' w x2 R2 r2=>hQ ρ' H' w (x1.trans R1 x2) R2 r2
noncomputable def f1(tp:Bool)(g:List D->Option D):List D->Hd->Option (D × Hd)
  | [d],hd=>((if tp then Aw hd d else B1 hd d)).bind λ ds=>(g ds).map (·,hd)
  | _,_=>none
theorem Bn{tp:Bool}{r:List V->Hp->VK->Prop}{g:List D->Option D}(h:RG K tp r g):RF K r (f1 tp g):=by
  intro ρ H hd ds vs Q z hd' hR h1 hf hQ
  unfold f1 at hf
  split at hf
  . next d hd'=>
    obtain⟨es,e1,hf⟩:=Option.bind_eq_some_iff.mp hf
    obtain⟨w,e2,e3⟩:=Option.map_eq_some_iff.mp hf
    cases e3
    simp only[RDs]at h1
    obtain⟨x,r,rfl,rx,rfl⟩:=h1
    cases tp with
    | true=>
      rw[if_pos rfl]at e1
      obtain⟨a,xs,rfl,q,rr⟩:=rx.seq hR e1
      exact h ρ H hd a xs es Q z hR (q.imp id λ q=>⟨rfl,q⟩) rr e2 λ H' w x R r=>hQ ρ H' w x R r
    | false=>
      rw[if_neg Bool.false_ne_true]at e1
      obtain⟨a,xs,rfl,q,rr⟩:=rx.lst hR e1
      exact h ρ H hd a xs es Q z hR (.inl q) rr e2 λ H' w x R r=>hQ ρ H' w x R r
  . cases hf
noncomputable def CP(g:List D->Option D)(ml:MA):ME:=λ ls hd=>(ml ls hd).bind λ p=>(g p.1).map (·,p.2)
theorem OU{tp:Bool}{r:List V->Hp->VK->Prop}{g:List D->Option D}{t:TE}{m:MA}(hr:RG K tp r g)(h:RN K t m):RE K (tCB r (Bi t Cb)) (CP g m):=by
  intro ρ σ H hd ls Q d hd' hR hL hm hQ
  obtain⟨⟨d1,h1⟩,e1,hm⟩:=Option.bind_eq_some_iff.mp hm
  obtain⟨w,e2,e3⟩:=Option.map_eq_some_iff.mp hm
  cases e3
  refine h ρ σ H hd ls _ d1 _ hR hL e1 λ ρ1 H1 a xs x1 R1 na oa ea r1=>?_
  exact hr ρ1 H1 _ a xs d1 Q d R1 (.inl (SqL.of ea)) r1 e2 λ H' w x R r=>hQ ρ1 H' w (x1.trans R1 x) R r
noncomputable def CL(ds:List D):Option D:=some (.im (.int ds.length))
theorem Bv:RG K true (Ut K) CL:=by
  intro ρ H hd a xs ds Q z hR q r e hQ
  cases e
  refine⟨a,xs,rfl,q.imp id λ q=>q.2,?_⟩
  rw[r.len]
  exact hQ H _ .refl hR (by simp[RD,RI])
noncomputable def BC(ds:List D):Option D:=some (B4 ds)
theorem Bm:RG K true (L8 K) BC:=by
  intro ρ H hd a xs ds Q z hR q r e hQ
  cases e
  refine⟨a,xs,rfl,?_⟩
  rcases q with q|⟨_,q⟩
  . refine .inl ⟨q,λ p hp=>?_⟩
    obtain⟨R2,x2⟩:=hR.hid (ho:=.tup xs) hp
    exact hQ _ _ x2 R2 (Cy (SqT.of AQ) (r.ext hR x2))
  . exact .inr ⟨q,hQ H _ .refl hR (Cy q r)⟩
noncomputable def Hr(ds:List D):Option D:=(BR ds).map λ ns=>.im (.int ns.sum)
noncomputable def XF(K:PySem.W.Frag):List V->Hp->VK->Prop:=λ xs H Q=>S3 K xs H Q ∨ S0 K xs H Q
theorem OR:RG K true (XF K) Hr:=by
  intro ρ H hd a xs ds Q z hR q r e hQ
  obtain⟨ns,e1,rfl⟩:=Option.map_eq_some_iff.mp e
  rw[FD e1]at r
  have:=Fa r
  subst this
  rcases q with q|⟨_,q⟩
  . exact .inl ⟨a,ns,rfl,q,hQ H _ .refl hR (by simp[RD,RI])⟩
  . exact .inr ⟨a,ns,rfl,q,hQ H _ .refl hR (by simp[RD,RI])⟩
noncomputable def RV(ds:List D):Option D:=(Cf ds).map λ bs=>.im (.bl (bs.all id))
noncomputable def RU(ds:List D):Option D:=(Cf ds).map λ bs=>.im (.bl (bs.any id))
theorem Uf:RG K false (Uv K) RV:=by
  intro ρ H hd a xs ds Q z hR q r e hQ
  obtain⟨ns,e1,rfl⟩:=Option.map_eq_some_iff.mp e
  rw[JZ e1]at r
  have:=L7 r
  subst this
  rcases q with q|⟨q,_⟩
  . exact⟨a,ns,rfl,q,hQ H _ .refl hR (by simp[RD,RI])⟩
  . cases q
theorem Ue:RG K false (Uu K) RU:=by
  intro ρ H hd a xs ds Q z hR q r e hQ
  obtain⟨ns,e1,rfl⟩:=Option.map_eq_some_iff.mp e
  rw[JZ e1]at r
  have:=L7 r
  subst this
  rcases q with q|⟨q,_⟩
  . exact⟨a,ns,rfl,q,hQ H _ .refl hR (by simp[RD,RI])⟩
  . cases q
noncomputable def Co:List Int->Int
  | []=>0
  | [x]=>x
  | x :: r=>if Co r > x then Co r else x
noncomputable def E3:List Int->Int
  | []=>0
  | [x]=>x
  | x :: r=>if E3 r < x then E3 r else x
theorem Bu:∀ {xs:List Int},xs ≠ []->Co xs ∈ xs/\∀ x ∈ xs,x <= Co xs
  | [],h=>absurd rfl h
  | [x],_=>by simp[Co]
  | x :: y :: r,_=>by
    obtain⟨h1,h2⟩:=Bu (xs:=y :: r) (by simp)
    rw[Co]
    split
    . next h=>exact⟨List.mem_cons_of_mem _ h1,λ z m=>by rcases List.mem_cons.mp m with rfl|m;omega;exact h2 z m⟩
    . next h=>exact⟨List.mem_cons_self,λ z m=>by rcases List.mem_cons.mp m with rfl|m;omega;exact Int.le_trans (h2 z m) (by omega)⟩
    . simp
theorem ES:∀ {xs:List Int},xs ≠ []->E3 xs ∈ xs/\∀ x ∈ xs,E3 xs <= x
  | [],h=>absurd rfl h
  | [x],_=>by simp[E3]
  | x :: y :: r,_=>by
    obtain⟨h1,h2⟩:=ES (xs:=y :: r) (by simp)
    rw[E3]
    split
    . next h=>exact⟨List.mem_cons_of_mem _ h1,λ z m=>by rcases List.mem_cons.mp m with rfl|m;omega;exact h2 z m⟩
    . next h=>exact⟨List.mem_cons_self,λ z m=>by rcases List.mem_cons.mp m with rfl|m;omega;exact Int.le_trans (by omega) (h2 z m)⟩
    . simp
noncomputable def FW(ds:List D):Option D:=(BR ds).bind λ ns=>if ns=[]then none else some (.im (.int (Co ns)))
noncomputable def Lc(ds:List D):Option D:=(BR ds).bind λ ns=>if ns=[]then none else some (.im (.int (E3 ns)))
noncomputable def XG(K:PySem.W.Frag):List V->Hp->VK->Prop:=λ xs H Q=>S6 K xs H Q ∨ S5 K xs H Q
theorem Fm{α:Type}{xs:List α}(h:xs ≠ []):0 < xs.length:=by cases xs <;> simp_all
theorem Kz:RG K true (XG K) FW:=by
  intro ρ H hd a xs ds Q z hR q r e hQ
  obtain⟨ns,e1,e⟩:=Option.bind_eq_some_iff.mp e
  split at e
  . cases e
  . next hn=>
    cases e
    rw[FD e1]at r
    have:=Fa r
    subst this
    have u:∀ M:Int,M ∈ ns->(∀ x ∈ ns,x <= M)->M=Co ns:=λ M m1 m2=>by
      obtain⟨n1,n2⟩:=Bu hn
      have:=n2 M m1;have:=m2 _ n1;omega
    rcases q with q|⟨_,q⟩
    . exact .inl ⟨a,ns,rfl,q,Fm hn,λ M m1 m2=>by rw[u M m1 m2];exact hQ H _ .refl hR (by simp[RD,RI])⟩
    . exact .inr ⟨a,ns,rfl,q,Fm hn,λ M m1 m2=>by rw[u M m1 m2];exact hQ H _ .refl hR (by simp[RD,RI])⟩
theorem OS:RG K false (S4 K) Lc:=by
  intro ρ H hd a xs ds Q z hR q r e hQ
  obtain⟨ns,e1,e⟩:=Option.bind_eq_some_iff.mp e
  split at e
  . cases e
  . next hn=>
    cases e
    rw[FD e1]at r
    have:=Fa r
    subst this
    have u:∀ M:Int,M ∈ ns->(∀ x ∈ ns,M <= x)->M=E3 ns:=λ M m1 m2=>by
      obtain⟨n1,n2⟩:=ES hn
      have:=n2 M m1;have:=m2 _ n1;omega
    rcases q with q|⟨q,_⟩
    . exact⟨a,ns,rfl,q,Fm hn,λ M m1 m2=>by rw[u M m1 m2];exact hQ H _ .refl hR (by simp[RD,RI])⟩
    . cases q
noncomputable def Dd:List D->Hd->Option (D × Hd)
  | [.im (.int i),.im (.int j)],hd=>some (.im (.int (if j > i then j else i)),hd)
  | _,_=>none
noncomputable def Ir:List D->Hd->Option (D × Hd)
  | [.im (.int i),.im (.int j)],hd=>some (.im (.int (if j < i then j else i)),hd)
  | _,_=>none
theorem FZ:RF K (λ xs H Q=>∃ i j,xs=[.int i,.int j]/\Q (.int (if j > i then j else i)) H) Dd:=by
  intro ρ H hd ds vs Q z hd' hR h1 hf hQ
  unfold Dd at hf
  split at hf
  . cases hf
    simp only[RDs,RD,RI]at h1
    obtain⟨x,r,rfl,rfl,y,r2,rfl,rfl,rfl⟩:=h1
    exact⟨_,_,rfl,hQ ρ H _ .refl hR (by simp[RD,RI])⟩
  . cases hf
theorem Sq:RF K (λ xs H Q=>∃ i j,xs=[.int i,.int j]/\Q (.int (if j < i then j else i)) H) Ir:=by
  intro ρ H hd ds vs Q z hd' hR h1 hf hQ
  unfold Ir at hf
  split at hf
  . cases hf
    simp only[RDs,RD,RI]at h1
    obtain⟨x,r,rfl,rfl,y,r2,rfl,rfl,rfl⟩:=h1
    exact⟨_,_,rfl,hQ ρ H _ .refl hR (by simp[RD,RI])⟩
  . cases hf
noncomputable def XQ:List D->Hd->Option (D × Hd)
  | [.im (.int i)],hd=>some (.im (.int (if i < 0 then -i else i)),hd)
  | _,_=>none
noncomputable def Wv(ma:ME):MA:=λ ls hd=>(ma ls hd).bind λ p=>(Aw p.2 p.1).map (·,p.2)
noncomputable def Ie(ml:MA):MA:=ml
theorem QP{t:TE}{m:MA}(h:RN K t m):RN K (tCB (JI K) (Bi t Cb)) (Ie m):=by
  intro ρ σ H hd ls Q d hd' hR hL hm hQ
  refine h ρ σ H hd ls _ d _ hR hL hm λ ρ1 H1 a xs x1 R1 na oa ea r1=>?_
  refine⟨a,xs,rfl,.inl (SqL.of ea),λ l hl=>?_⟩
  obtain⟨R2,x2⟩:=R1.hid (ho:=.lst xs) hl
  exact hQ ρ1 _ l xs (x1.trans R1 x2) R2 (x1.none hR hl R1) (R1.out hl) AQ (r1.ext R1 x2)
open Classical in
noncomputable def Ft:List D->Hd->Option (D × Hd)
  | [.im (.int i)],hd=>if Q7 i.natAbs.log2 then some (.im (.str (toString i)),hd)else none
  | _,_=>none
theorem L3:RF K (λ xs H Q=>∃ i,xs=[.int i]/\i.natAbs.log2 < 1920/\Q (.str (toString i)) H) Ft:=by
  intro ρ H hd ds vs Q z hd' hR h1 hf hQ
  unfold Ft at hf
  split at hf
  . split at hf
    . next c=>
      cases hf
      simp only[RDs,RD,RI]at h1
      obtain⟨x,r,rfl,rfl,rfl⟩:=h1
      exact⟨_,rfl,c,hQ ρ H _ .refl hR (by simp[RD,RI])⟩
    . cases hf
  . cases hf
noncomputable def FO:I->Option V
  | .non=>some .non
  | .bl b=>some (.bl b)
  | .int i=>some (.int i)
  | .str x=>some (.str x)
  | .tup _=>none
noncomputable def DF:List D->Option (List V)
  | []=>some []
  | .im i :: r=>(FO i).bind λ v=>(DF r).map (v :: ·)
  | _ :: _=>none
theorem Lg{i:I}{v w:V}(e:FO i=some w)(h:RI K H i v):v=w/\EH w=true:=by
  cases i with
  | tup _=>simp[FO]at e
  | _=>simp only[FO,Option.some.injEq]at e;subst e;exact⟨by simpa only[RI]using h,rfl⟩
theorem Jr:∀ {ds:List D} {vs ws:List V},DF ds=some ws->RDs K ρ H ds vs->vs=ws/\ws.all EH=true
  | [],vs,ws,e,h=>by simp[DF]at e;subst e;simp only[RDs]at h;subst h;exact⟨rfl,rfl⟩
  | .im i :: r,vs,ws,e,h=>by
    simp only[DF]at e
    obtain⟨v,e1,e⟩:=Option.bind_eq_some_iff.mp e
    obtain⟨us,e2,rfl⟩:=Option.map_eq_some_iff.mp e
    simp only[RDs,RD]at h
    obtain⟨x,y,rfl,h1,h2⟩:=h
    obtain⟨rfl,f1⟩:=Lg e1 h1
    obtain⟨rfl,f2⟩:=Jr e2 h2
    exact⟨rfl,by simp[f1,f2]⟩
  | .mu _ :: _,_,_,e,_=>by simp[DF]at e
  | .tm _ :: _,_,_,e,_=>by simp[DF]at e
  | .ro _ :: _,_,_,e,_=>by simp[DF]at e
noncomputable def gIn(neg:Bool):D->D->Hd->Option (D × Hd)
  | .im i,e,hd=>(FO i).bind λ x=>(Aw hd e).bind λ ds=>(DF ds).map λ xs=>(.im (.bl (if neg then !inV x xs else inV x xs)),hd)
  | _,_,_=>none
theorem Rz{neg:Bool}:RB K (rIn K neg) (gIn neg):=by
  intro ρ H hd d e v u Q z hd' hR h1 h2 hf hQ
  unfold gIn at hf
  split at hf
  . obtain⟨x,e1,hf⟩:=Option.bind_eq_some_iff.mp hf
    obtain⟨ds,e2,hf⟩:=Option.bind_eq_some_iff.mp hf
    obtain⟨xs,e3,e4⟩:=Option.map_eq_some_iff.mp hf
    cases e4
    simp only[RD]at h1
    obtain⟨rfl,f1⟩:=Lg e1 h1
    obtain⟨a,ys,rfl,q,r⟩:=h2.seq hR e2
    obtain⟨rfl,f2⟩:=Jr e3 r
    exact⟨a,ys,rfl,q,f1,f2,hQ ρ H _ .refl hR (by simp[RD,RI])⟩
  . cases hf
noncomputable def mMt(f:D->List D->Hd->Option (D × Hd))(mo:ME)(ma:MA):ME:=λ ls hd=>(mo ls hd).bind λ p=>match B1 p.2 p.1 with
  | some _=>(ma ls p.2).bind λ q=>f p.1 q.1 q.2
  | none=>none
noncomputable def RM(K:PySem.W.Frag)(r:V->List V->Hp->VK->Prop)(f:D->List D->Hd->Option (D × Hd)):Prop:=∀ (ρ:List Addr) (H:Hp) (hd:Hd) (d:D) (v:V) (ds:List D) (vs:List V) (Q:VK) (z:D) (hd':Hd),RH K ρ H hd->RD K ρ H d v->RDs K ρ H ds vs->f d ds hd=some (z,hd') ->
  (∀ ρ' H' w,Ext ρ H ρ' H'->RH K ρ' H' hd'->RD K ρ' H' z w->Q w H')->r v vs H Q
theorem Ru{r:V->List V->Hp->VK->Prop}{f:D->List D->Hd->Option (D × Hd)}{to:TE}{t:TA}{mo:ME}{ma:MA}(hr:RM K r f)(ho:RE K to mo)(ha:RA K t ma):RE K (tBM K "list" r to t) (mMt f mo ma):=by
  intro ρ σ H hd ls Q d hd' hR hL hm hQ
  obtain⟨⟨d1,h1⟩,e1,hm⟩:=Option.bind_eq_some_iff.mp hm
  dsimp only at hm
  split at hm
  . next e=>
    obtain⟨⟨d2,h2⟩,e2,hm⟩:=Option.bind_eq_some_iff.mp hm
    refine ho ρ σ H hd ls _ d1 h1 hR hL e1 λ ρ1 H1 v x1 R1 r1=>⟨?_,?_⟩
    . obtain⟨a,xs,rfl,q,_⟩:=r1.lst R1 e
      exact .inl ⟨rfl,xs,q⟩
    . exact ha ρ1 σ H1 h1 ls _ d2 h2 R1 (hL.ext hR x1) e2 λ ρ2 H2 vs x2 R2 r2=>hr ρ2 H2 h2 d1 v d2 vs Q d hd' R2 (r1.ext R1 x2) r2 hm λ ρ' H' w x3 R3 r3=>hQ ρ' H' w ((x1.trans R1 x2).trans R2 x3) R3 r3
  . cases hm
theorem Uk{r:V->List V->Hp->VK->Prop}{f:D->List D->Hd->Option (D × Hd)}{to:TE}{mo:ME}(hr:RM K r f)(ho:RE K to mo):RE K (Q3 K "list" r to) (mMt f mo A6):=Ru (t:=Cb) hr ho OX
open Classical in
noncomputable def BA:D->List D->Hd->Option (D × Hd)
  | .mu n,[x],hd=>match hd[n]? with
    | some (.lst ds)=>if Cr ds.length then some (.im .non,hd.set n (.lst (ds ++ [x])))else none
    | _=>none
  | _,_,_=>none
theorem CZ:RM K Mf BA:=by
  intro ρ H hd d v ds vs Q z hd' hR h1 h2 hf hQ
  unfold BA at hf
  split at hf
  . split at hf
    . next q=>
      split at hf
      . next c=>
        cases hf
        simp only[RD]at h1
        obtain⟨a,hn,rfl⟩:=h1
        simp only[RDs]at h2
        obtain⟨x,r,rfl,rx,rfl⟩:=h2
        obtain⟨xs,e1,e2⟩:=hR.lst hn q
        obtain⟨R2,x2⟩:=hR.put hn (o:=.lst (_ ++ [_])) (ho:=.lst (xs ++ [x])) ⟨_,rfl,e2.app (.cons rx .nil)⟩
        exact⟨a,xs,x,rfl,rfl,e1,by rw[e2.len];exact c,hQ ρ _ _ x2 R2 (by simp[RD,RI])⟩
      . cases hf
    . cases hf
  . cases hf
noncomputable def Hu:D->List D->Hd->Option (D × Hd)
  | .mu n,[],hd=>match hd[n]? with
    | some (.lst ds)=>(ds[ds.length - 1]?).map λ y=>(y,hd.set n (.lst ds.dropLast))
    | _=>none
  | _,_,_=>none
theorem RDs.dropLast{ds:List D}{xs:List V}(h:RDs K ρ H ds xs):RDs K ρ H ds.dropLast xs.dropLast:=by
  rw[List.dropLast_eq_take,List.dropLast_eq_take,h.len]
  exact h.take _
theorem Ua:RM K Us Hu:=by
  intro ρ H hd d v ds vs Q z hd' hR h1 h2 hf hQ
  unfold Hu at hf
  split at hf
  . split at hf
    . next q=>
      obtain⟨y,e0,e3⟩:=Option.map_eq_some_iff.mp hf
      cases e3
      simp only[RD]at h1
      obtain⟨a,hn,rfl⟩:=h1
      simp only[RDs]at h2
      subst h2
      obtain⟨xs,e1,e2⟩:=hR.lst hn q
      obtain⟨x,x1,x3⟩:=e2.get e0
      obtain⟨R2,x2⟩:=hR.put hn (o:=.lst _) (ho:=.lst xs.dropLast) ⟨_,rfl,e2.dropLast⟩
      exact⟨a,xs,x,rfl,rfl,e1,by rw[e2.len];exact x1,hQ ρ _ _ x2 R2 (x3.ext hR x2)⟩
    . cases hf
  . cases hf
end
end L2
namespace L2
open PySem PySem.Spec PyProof.Rows
section
variable{K:PySem.W.Frag}{ρ ρ':List Addr}{H H':Hp}{hd hd':Hd}
noncomputable def Aj:MS:=λ ls hd=>some (.nx ls,hd)
theorem Sg:RS K NF Aj:=by
  intro ρ σ H hd ls E f hd' hR hL hm hQ
  cases hm
  exact hQ ρ H .refl hR σ hL
noncomputable def AA(a b:MS):MS:=λ ls hd=>(a ls hd).bind λ p=>match p.1 with
  | .nx ls1=>b ls1 p.2
  | f=>some (f,p.2)
theorem US{t u:TS}{a b:MS}(ha:RS K t a)(hb:RS K u b):RS K (Pt t u) (AA a b):=by
  intro ρ σ H hd ls E f hd' hR hL hm hQ
  obtain⟨⟨f1,h1⟩,e1,hm⟩:=Option.bind_eq_some_iff.mp hm
  refine ha ρ σ H hd ls { E with nx:=u E } f1 h1 hR hL e1 λ ρ1 H1 x1 R1=>?_
  cases f1 with
  | nx ls1=>
    intro σ1 L1
    exact hb ρ1 σ1 H1 h1 ls1 E f hd' R1 L1 hm λ ρ2 H2 x2 R2=>hQ ρ2 H2 (x1.trans R1 x2) R2
  | bk ls1=>cases hm;exact hQ ρ1 H1 x1 R1
  | ct ls1=>cases hm;exact hQ ρ1 H1 x1 R1
  | rt d=>cases hm;exact hQ ρ1 H1 x1 R1
noncomputable def Vo:MS:=λ ls hd=>some (.bk ls,hd)
noncomputable def Wy:MS:=λ ls hd=>some (.ct ls,hd)
noncomputable def Br(m:ME):MS:=λ ls hd=>(m ls hd).bind λ p=>some (.nx ls,p.2)
theorem Si{t:TE}{m:ME}(h:RE K t m):RS K (NH t) (Br m):=by
  intro ρ σ H hd ls E f hd' hR hL hm hQ
  obtain⟨⟨d1,h1⟩,e1,hm⟩:=Option.bind_eq_some_iff.mp hm
  cases hm
  exact h ρ σ H hd ls _ d1 _ hR hL e1 λ ρ1 H1 v x1 R1 r1=>hQ ρ1 H1 x1 R1 σ (hL.ext hR x1)
noncomputable def AT(m:ME):MS:=λ ls hd=>(m ls hd).bind λ p=>some (.rt p.1,p.2)
theorem UT{t:TE}{m:ME}(h:RE K t m):RS K (Pv t) (AT m):=by
  intro ρ σ H hd ls E f hd' hR hL hm hQ
  obtain⟨⟨d1,h1⟩,e1,hm⟩:=Option.bind_eq_some_iff.mp hm
  cases hm
  exact h ρ σ H hd ls _ d1 _ hR hL e1 λ ρ1 H1 v x1 R1 r1=>hQ ρ1 H1 x1 R1 v r1
noncomputable def Ws:MS:=λ _ hd=>some (.rt (.im .non),hd)
noncomputable def Az(c:MT)(a b:MS):MS:=λ ls hd=>(c ls hd).bind λ p=>if p.1=true then a ls p.2 else b ls p.2
theorem WZ{tc:TT}{t u:TS}{c:MT}{a b:MS}(hc:RT K tc c)(ha:RS K t a)(hb:RS K u b):RS K (Pz tc t u) (Az c a b):=by
  intro ρ σ H hd ls E f hd' hR hL hm hQ
  obtain⟨⟨d1,h1⟩,e1,hm⟩:=Option.bind_eq_some_iff.mp hm
  refine hc ρ σ H hd ls _ d1 h1 hR hL e1 λ ρ1 H1 x1 R1=>?_
  cases d1 with
  | true=>
    rw[if_pos rfl]at hm ⊢
    exact ha ρ1 σ H1 h1 ls E f hd' R1 (hL.ext hR x1) hm λ ρ2 H2 x2 R2=>hQ ρ2 H2 (x1.trans R1 x2) R2
  | false=>
    rw[if_neg Bool.false_ne_true]at hm ⊢
    exact hb ρ1 σ H1 h1 ls E f hd' R1 (hL.ext hR x1) hm λ ρ2 H2 x2 R2=>hQ ρ2 H2 (x1.trans R1 x2) R2
noncomputable def LW:MS:=λ _ _=>none
theorem QJ:RS K Kn LW:=by
  intro ρ σ H hd ls E f hd' hR hL hm hQ
  cases hm
noncomputable abbrev MG:=D->Ls->Hd->Option Ls
noncomputable abbrev MGs:=List D->Ls->Hd->Option Ls
noncomputable def RGt(K:PySem.W.Frag)(t:TG)(m:MG):Prop:=∀ (ρ:List Addr) (σ:St) (H:Hp) (hd:Hd) (ls ls':Ls) (d:D) (v:V) (Q:St->Hp->Prop),RH K ρ H hd->RL K ρ H ls σ->RD K ρ H d v->m d ls hd=some ls' ->
  (∀ σ',RL K ρ H ls' σ'->Q σ' H)->t v σ H Q
noncomputable def M6(K:PySem.W.Frag)(t:TGs)(m:MGs):Prop:=∀ (ρ:List Addr) (σ:St) (H:Hp) (hd:Hd) (ls ls':Ls) (d:List D) (v:List V) (Q:St->Hp->Prop),RH K ρ H hd->RL K ρ H ls σ->RDs K ρ H d v->m d ls hd=some ls' ->
  (∀ σ',RL K ρ H ls' σ'->Q σ' H)->t v σ H Q
theorem RL.set{ls:Ls}{σ:St}{d:D}{v:V}(h:RL K ρ H ls σ)(i:Nat)(r:RD K ρ H d v):RL K ρ H (ls.set i (some d)) (σ.set i (some v)):=by
  refine⟨by simp[h.len],λ j e q=>?_⟩
  by_cases hij:i=j
  . subst hij
    have hl:i < ls.length:=by
      have:=(List.getElem?_eq_some_iff.mp q).1
      simpa using this
    rw[List.getElem?_set_self hl]at q
    cases q
    exact⟨v,by rw[List.getElem?_set_self (by rw[<- h.len];exact hl)],r⟩
  . rw[List.getElem?_set_ne hij]at q
    obtain⟨w,e1,e2⟩:=h.ob j e q
    exact⟨w,by rw[List.getElem?_set_ne hij];exact e1,e2⟩
noncomputable def AF(i:Nat):MG:=λ d ls _=>some (ls.set i (some d))
theorem JE{i:Nat}:RGt K (GL i) (AF i):=by
  intro ρ σ H hd ls ls' d v Q hR hL hd hm hQ
  cases hm
  exact hQ _ (hL.set i hd)
noncomputable def C1:MGs:=λ ds ls _=>match ds with
  | []=>some ls
  | _=>none
noncomputable def Aa(m:MG)(r:MGs):MGs:=λ ds ls hd=>match ds with
  | d :: es=>(m d ls hd).bind λ ls1=>r es ls1 hd
  | []=>none
theorem So:M6 K Re C1:=by
  intro ρ σ H hd ls ls' d v Q hR hL hd hm hQ
  cases d with
  | nil=>
    simp only[RDs]at hd;subst hd
    cases hm
    exact⟨rfl,hQ _ hL⟩
  | cons a b=>cases hm
theorem QU{t:TG}{u:TGs}{m:MG}{r:MGs}(h:RGt K t m)(h':M6 K u r):M6 K (Nk t u) (Aa m r):=by
  intro ρ σ H hd ls ls' d v Q hR hL hd hm hQ
  cases d with
  | nil=>cases hm
  | cons a b=>
    simp only[RDs]at hd
    obtain⟨x,y,rfl,h1,h2⟩:=hd
    obtain⟨ls1,e1,e2⟩:=Option.bind_eq_some_iff.mp hm
    exact⟨x,y,rfl,h ρ σ H _ ls ls1 a x _ hR hL h1 e1 λ σ1 L1=>h' ρ σ1 H _ ls1 ls' b y Q hR L1 h2 e2 hQ⟩
noncomputable def C0(n:Nat)(r:MGs):MG:=λ d ls hd=>(Av d).bind λ ds=>if ds.length=n then r ds ls hd else none
theorem Ud{n:Nat}{u:TGs}{r:MGs}(h':M6 K u r):RGt K (Nj K n u) (C0 n r):=by
  intro ρ σ H hd ls ls' d v Q hR hL hd hm hQ
  obtain⟨ds,e1,hm⟩:=Option.bind_eq_some_iff.mp hm
  split at hm
  . next c=>
    obtain⟨a,xs,rfl,q,rr⟩:=hd.tup e1
    exact⟨a,xs,rfl,q,by rw[rr.len];exact c,h' ρ σ H _ ls ls' ds xs Q hR hL rr hm hQ⟩
  . cases hm
noncomputable def Hq(m:ME)(g:MG):MS:=λ ls hd=>(m ls hd).bind λ p=>(g p.1 ls p.2).map λ ls'=>(.nx ls',p.2)
theorem Kw{t:TE}{m:ME}{g:TG}{n:MG}(h:RE K t m)(hg:RGt K g n):RS K (Es t g) (Hq m n):=by
  intro ρ σ H hd ls E f hd' hR hL hm hQ
  obtain⟨⟨d1,h1⟩,e1,hm⟩:=Option.bind_eq_some_iff.mp hm
  obtain⟨ls',e2,e3⟩:=Option.map_eq_some_iff.mp hm
  cases e3
  exact h ρ σ H hd ls _ d1 _ hR hL e1 λ ρ1 H1 v x1 R1 r1=>hg ρ1 σ H1 _ ls ls' d1 v _ R1 (hL.ext hR x1) r1 e2 λ σ' L'=>hQ ρ1 H1 x1 R1 σ' L'
noncomputable abbrev AL(i:Nat)(m:ME):MS:=Hq m (AF i)
noncomputable def NZ(ix:List Nat)(ma:MA):MS:=λ ls hd=>(ma ls hd).bind λ p=>if p.1.length=ix.length then some (.nx ((ix.zip p.1).foldl (λ l q=>l.set q.1 (some q.2)) ls),p.2)else none
noncomputable def Wt(i j k:Nat)(ma:MA):MS:=NZ [k,j,i] (λ ls hd=>(ma ls hd).map λ p=>(p.1.reverse,p.2))
noncomputable abbrev Gd:=List (Nat × List D)
noncomputable abbrev MI:=Ls->Hd->Option ((List D × Gd) × Hd)
noncomputable def GOk(hd:Hd)(g:Gd):Prop:=∀ p ∈ g,hd[p.1]? = some (.lst p.2)
@[simp] theorem Ad(hd:Hd):GOk hd []:=λ p h=>by cases h
noncomputable def M3(K:PySem.W.Frag)(ρ:List Addr)(H:Hp)(J:It)(ds:List D)(g:Gd):Prop:=∀ (ρ2:List Addr) (H2:Hp) (hd2:Hd),Ext ρ H ρ2 H2->RH K ρ2 H2 hd2->GOk hd2 g ->
  ∀ i:Nat,(i < ds.length->J.go i H2/\∀ x H3,J.yld i H2 x H3->∃ ρ3 d,Ext ρ2 H2 ρ3 H3/\ρ3=ρ2/\RH K ρ3 H3 hd2/\ds[i]? = some d/\RD K ρ3 H3 d x)/\(i=ds.length->J.stop i H2)
noncomputable def RIt(K:PySem.W.Frag)(t:TI)(m:MI):Prop:=∀ (ρ:List Addr) (σ:St) (H:Hp) (hd:Hd) (ls:Ls) (Q:It->Hp->Prop) (d:List D) (g:Gd) (hd':Hd),RH K ρ H hd->RL K ρ H ls σ->m ls hd=some ((d,g),hd') ->
  (∀ ρ' H' J,Ext ρ H ρ' H'->RH K ρ' H' hd'->GOk hd' g->M3 K ρ' H' J d g->Q J H')->t σ H Q
theorem N6{a:Addr}{xs:List V}{ds:List D}(hR:RH K ρ H hd)(q:SqT K H a xs)(r:RDs K ρ H ds xs)(g:Gd):M3 K ρ H (Itt K a) ds g:=by
  intro ρ2 H2 hd2 x2 R2 _ i
  have q2:=(x2.grow hR).sq q
  have r2:=r.ext hR x2
  have uniq:∀ ys,SqT K H2 a ys->True:=λ _ _=>trivial
  refine⟨λ hi=>?_,λ hi=>⟨xs,q2,by rw[r2.len,hi];exact Nat.le_refl _⟩⟩
  have e:ds[i]? = some ds[i]:=by simp[hi]
  obtain⟨x,x1,x3⟩:=r2.get e
  refine⟨⟨xs,x,q2,x1⟩,λ y H3 ⟨e3,hy⟩=>?_⟩
  subst e3
  have:=hy xs q2
  rw[x1]at this
  cases this
  exact⟨ρ2,_,.refl,rfl,R2,e,x3⟩
noncomputable def BD(m:ME):MI:=λ ls hd=>(m ls hd).bind λ p=>(Av p.1).map λ ds=>((ds,[]),p.2)
theorem OQ{t:TE}{m:ME}(h:RE K t m):RIt K (Le K t) (BD m):=by
  intro ρ σ H hd ls Q d g hd' hR hL hm hQ
  obtain⟨⟨d1,h1⟩,e1,hm⟩:=Option.bind_eq_some_iff.mp hm
  obtain⟨ds,e2,e3⟩:=Option.map_eq_some_iff.mp hm
  cases e3
  refine h ρ σ H hd ls _ d1 _ hR hL e1 λ ρ1 H1 v x1 R1 r1=>?_
  obtain⟨a,xs,rfl,q,r⟩:=r1.tup e2
  exact⟨a,rfl,⟨xs,q⟩,hQ ρ1 H1 _ x1 R1 (Ad _) (N6 R1 q r [])⟩
noncomputable def Dk(m:ME):MI:=λ ls hd=>(m ls hd).bind λ p=>match p.1 with
  | .mu n=>match p.2[n]? with
    | some (.lst ds)=>some ((ds,[(n,ds)]),p.2)
    | _=>none
  | .ro ns=>some ((ns.map λ n=>.im (.int n),[]),p.2)
  | _=>none
theorem MZ{t:TE}{m:ME}(h:RE K t m):RIt K (Ip K t) (Dk m):=by
  intro ρ σ H hd ls Q d g hd' hR hL hm hQ
  obtain⟨⟨d1,h1⟩,e1,hm⟩:=Option.bind_eq_some_iff.mp hm
  dsimp only at hm
  split at hm
  . next n=>
    split at hm
    . next ds q=>
      cases hm
      refine h ρ σ H hd ls _ _ _ hR hL e1 λ ρ1 H1 v x1 R1 r1=>?_
      simp only[RD]at r1
      obtain⟨a,hn,rfl⟩:=r1
      obtain⟨xs,e2,e3⟩:=R1.lst hn q
      refine⟨a,rfl,⟨xs,SqL.of e2⟩,hQ ρ1 H1 _ x1 R1 (λ p z=>by simp at z;subst z;exact q) ?_⟩
      intro ρ2 H2 hd2 x2 R2 G2 i
      have q2:=G2 (n,d) (by simp)
      have hn2:ρ2[n]? = some a:=by
        obtain⟨r,rfl,_⟩:=x2.pre
        rw[List.getElem?_append_left (List.getElem?_eq_some_iff.mp hn).1];exact hn
      obtain⟨ys,e4,e5⟩:=R2.lst hn2 q2
      refine⟨λ hi=>?_,λ hi=>⟨ys,SqL.of e4,by rw[e5.len,hi];exact Nat.le_refl _⟩⟩
      have e:d[i]? = some d[i]:=by simp[hi]
      obtain⟨x,y1,y2⟩:=e5.get e
      refine⟨⟨ys,x,SqL.of e4,y1⟩,λ y H3 ⟨e6,hy⟩=>?_⟩
      subst e6
      have:=hy ys (SqL.of e4)
      rw[y1]at this
      cases this
      exact⟨ρ2,_,.refl,rfl,R2,e,y2⟩
    . cases hm
  . next ns=>
    cases hm
    refine h ρ σ H hd ls _ _ _ hR hL e1 λ ρ1 H1 v x1 R1 r1=>?_
    simp only[RD]at r1
    obtain⟨a,rfl,q⟩:=r1
    refine⟨a,rfl,⟨_,q.sq⟩,hQ ρ1 H1 _ x1 R1 (Ad _) ?_⟩
    intro ρ2 H2 hd2 x2 R2 G2 i
    have q2:=(q.grow (x2.grow R1)).sq
    have e5:RDs K ρ2 H2 (ns.map λ n=>.im (.int n)) (ns.map V.int):=Fp
    refine⟨λ hi=>?_,λ hi=>⟨_,q2,by rw[e5.len,hi];exact Nat.le_refl _⟩⟩
    have e:(ns.map λ n=>D.im (.int n))[i]? = some ((ns.map λ n=>D.im (.int n))[i]):=by simp[hi]
    obtain⟨x,y1,y2⟩:=e5.get e
    refine⟨⟨_,x,q2,y1⟩,λ y H3 ⟨e6,hy⟩=>?_⟩
    subst e6
    have:=hy _ q2
    rw[y1]at this
    cases this
    exact⟨ρ2,_,.refl,rfl,R2,e,y2⟩
  . cases hm
noncomputable def Vm(ml:MA):MI:=λ ls hd=>(ml ls hd).map λ p=>((p.1,[]),p.2)
noncomputable def B7(lo:Int):Nat->List D
  | 0=>[]
  | n + 1=>.im (.int lo) :: B7 (lo + 1) n
@[simp] theorem IL(lo:Int)(n:Nat):(B7 lo n).length=n:=by
  induction n generalizing lo with
  | zero=>rfl
  | succ n ih=>simp[B7,ih]
theorem IM{n:Nat}:∀ {lo:Int} {i:Nat},i < n->(B7 lo n)[i]? = some (.im (.int (lo + i))):=by
  induction n with
  | zero=>intro lo i h;omega
  | succ n ih=>
    intro lo i h
    cases i with
    | zero=>simp[B7]
    | succ i=>
      simp only[B7,List.getElem?_cons_succ]
      rw[ih (by omega)]
      congr 3
      push_cast
      omega
theorem N7{lo:Int}{n:Nat}{g:Gd}:M3 K ρ H (Itr lo n) (B7 lo n) g:=by
  intro ρ2 H2 hd2 x2 R2 G2 i
  refine⟨λ hi=>?_,λ hi=>by rw[hi,IL];exact Nat.le_refl _⟩
  rw[IL]at hi
  refine⟨hi,λ x H3 ⟨e1,e2⟩=>?_⟩
  subst e1 e2
  exact⟨ρ2,_,.refl,rfl,R2,IM hi,by simp[RD,RI]⟩
open Classical in
noncomputable def FT(m:MA):MI:=λ ls hd=>(m ls hd).bind λ p=>match p.1 with
  | [.im (.int j)]=>if Ga j then some ((B7 0 j.toNat,[]),p.2)else none
  | _=>none
theorem Sn{t:TA}{m:MA}(h:RA K t m):RIt K (Ng t) (FT m):=by
  intro ρ σ H hd ls Q d g hd' hR hL hm hQ
  obtain⟨⟨d1,h1⟩,e1,hm⟩:=Option.bind_eq_some_iff.mp hm
  dsimp only at hm
  split at hm
  . next j=>
    split at hm
    . next c=>
      cases hm
      refine h ρ σ H hd ls _ _ _ hR hL e1 λ ρ1 H1 v x1 R1 r1=>?_
      simp only[RDs,RD,RI]at r1
      obtain⟨x,r,rfl,rfl,rfl⟩:=r1
      exact⟨j,rfl,c.1,c.2,hQ ρ1 H1 _ x1 R1 (Ad _) N7⟩
    . cases hm
  . cases hm
open Classical in
noncomputable def SE(m:MA):MI:=λ ls hd=>(m ls hd).bind λ p=>match p.1 with
  | [.im (.int i),.im (.int j)]=>if QL i j then some ((B7 i (j - i).toNat,[]),p.2)else none
  | _=>none
open Classical in
noncomputable def BW(n:MG)(b:MS)(g:Gd):List D->Ls->Hd->Option (Fl × Hd)
  | [],ls,hd=>some (.nx ls,hd)
  | d :: r,ls,hd=>(n d ls hd).bind λ ls1=>(b ls1 hd).bind λ p=>match p.1 with
    | .nx ls2=>if GOk p.2 g then BW n b g r ls2 p.2 else none
    | .ct ls2=>if GOk p.2 g then BW n b g r ls2 p.2 else none
    | .bk ls2=>some (.nx ls2,p.2)
    | .rt d=>some (.rt d,p.2)
noncomputable def CQ(mi:MI)(n:MG)(b:MS):MS:=λ ls hd=>(mi ls hd).bind λ p=>BW n b p.1.2 p.1.1 ls p.2
theorem UU{wi:TI}{g:TG}{tb:TS}{mi:MI}{n:MG}{b:MS}(hi:RIt K wi mi)(hg:RGt K g n)(hb:RS K tb b):RS K (Q0 wi g tb) (CQ mi n b):=by
  intro ρ σ H hd ls E f hd' hR hL hm hQ
  obtain⟨⟨⟨ds,gd⟩,h1⟩,e1,hm⟩:=Option.bind_eq_some_iff.mp hm
  refine hi ρ σ H hd ls _ ds gd h1 hR hL e1 λ ρ1 H1 J x1 R1 G1 Y=>?_
  dsimp only at hm
  refine⟨λ i m σ2 H2=>m=ds.length - i/\i <= ds.length/\∃ ρ2 ls2 hd2,Ext ρ1 H1 ρ2 H2/\RH K ρ2 H2 hd2/\RL K ρ2 H2 ls2 σ2/\GOk hd2 gd/\BW n b gd (ds.drop i) ls2 hd2=some (f,hd'),
    ⟨ds.length,by simp,Nat.zero_le _,ρ1,ls,h1,.refl,R1,hL.ext hR x1,G1,by simpa using hm⟩,?_⟩
  rintro i m σ2 H2 ⟨rfl,hi,ρ2,ls2,hd2,x2,R2,L2',G2,hm2⟩
  obtain⟨Y1,Y2⟩:=Y ρ2 H2 hd2 x2 R2 G2 i
  by_cases hlt:i < ds.length
  . obtain⟨go,Y1⟩:=Y1 hlt
    have ed:ds.drop i=ds[i] :: ds.drop (i + 1):=List.drop_eq_getElem_cons hlt
    rw[ed]at hm2
    unfold BW at hm2
    obtain⟨ls3,e3,hm2⟩:=Option.bind_eq_some_iff.mp hm2
    obtain⟨⟨fl,hd4⟩,e4,hm2⟩:=Option.bind_eq_some_iff.mp hm2
    refine .inr ⟨go,λ σ' H'=>∃ ρ2 ls2 hd2,Ext ρ1 H1 ρ2 H'/\RH K ρ2 H' hd2/\RL K ρ2 H' ls2 σ'/\GOk hd2 gd/\BW n b gd (ds.drop (i + 1)) ls2 hd2=some (f,hd'),λ σ' H' z=>⟨ds.length - (i + 1),by omega,rfl,hlt,z⟩,λ x H3 y=>?_⟩
    obtain⟨ρ3,d3,x3,rfl,R3,e5,r3⟩:=Y1 x H3 y
    have e6:d3=ds[i]:=by
      have:ds[i]? = some ds[i]:=by simp[hlt]
      rw[this]at e5;exact(Option.some.inj e5).symm
    subst e6
    refine hg ρ3 σ2 H3 hd2 ls2 ls3 _ x _ R3 (L2'.ext R2 x3) r3 e3 λ σ4 L4=>?_
    refine hb ρ3 σ4 H3 hd2 ls3 _ fl hd4 R3 L4 e4 λ ρ5 H5 x5 R5=>?_
    have x15:=(x2.trans R2 x3).trans R3 x5
    cases fl with
    | nx ls5=>
      intro σ5 L5
      dsimp only at hm2
      split at hm2
      . next c=>exact⟨ρ5,ls5,hd4,x15,R5,L5,c,hm2⟩
      . cases hm2
    | ct ls5=>
      intro σ5 L5
      dsimp only at hm2
      split at hm2
      . next c=>exact⟨ρ5,ls5,hd4,x15,R5,L5,c,hm2⟩
      . cases hm2
    | bk ls5=>
      intro σ5 L5
      cases hm2
      exact hQ ρ5 H5 (x1.trans R1 x15) R5 σ5 L5
    | rt d5=>
      intro v5 r5
      cases hm2
      exact hQ ρ5 H5 (x1.trans R1 x15) R5 v5 r5
  . have e:i=ds.length:=by omega
    subst e
    rw[List.drop_length]at hm2
    unfold BW at hm2
    cases hm2
    exact .inl ⟨Y2 rfl,hQ ρ2 H2 (x1.trans R1 x2) R2 σ2 L2'⟩
open Classical in
noncomputable def BG(n:MG)(c:MT)(m:ME)(g:Gd):List D->Ls->Hd->Option (List D × Hd)
  | [],_,hd=>some ([],hd)
  | d :: r,ls,hd=>(n d ls hd).bind λ ls1=>(c ls1 hd).bind λ p=>if p.1=true then(m ls1 p.2).bind λ q=>if GOk q.2 g then(BG n c m g r ls1 q.2).map λ z=>(q.1 :: z.1,z.2)else none else if GOk p.2 g then BG n c m g r ls1 p.2 else none
noncomputable def C5(k:Nat)(ix:List Nat)(ls:Ls):Ls:=List.replicate k none ++ ix.map λ i=>(ls[i]?).join
open Classical in
noncomputable def BK(k:Nat)(ix:List Nat)(mi:MI)(n:MG)(c:MT)(m:ME):MA:=λ ls hd=>(mi ls hd).bind λ p=>if Bs p.1.1.length then BG n c m p.1.2 p.1.1 (C5 k ix ls) p.2 else none
theorem N2{k:Nat}{ix:List Nat}{ls:Ls}{σ:St}(h:RL K ρ H ls σ):RL K ρ H (C5 k ix ls) (GO k ix σ):=by
  refine⟨by simp[C5,GO],λ i d e=>?_⟩
  unfold C5 at e
  unfold GO
  by_cases hi:i < k
  . rw[List.getElem?_append_left (by simpa using hi),List.getElem?_replicate]at e
    split at e <;> cases e
  . have hi':k <= i:=Nat.not_lt.mp hi
    rw[List.getElem?_append_right (by simpa using hi'),List.length_replicate,List.getElem?_map]at e ⊢
    cases q:ix[i - k]? with
    | none=>rw[q]at e;cases e
    | some j=>
      rw[q]at e
      simp only[Option.map_some,Option.some.injEq]at e ⊢
      have e5:ls[j]? = some (some d):=by
        cases w:ls[j]? with
        | none=>rw[w]at e;cases e
        | some z=>rw[w]at e;simpa using e
      obtain⟨v,e6,e7⟩:=h.ob j d e5
      exact⟨v,by rw[e6];rfl,e7⟩
theorem MY{k:Nat}{ix:List Nat}{wi:TI}{g:TG}{tf:TT}{te:TE}{mi:MI}{n:MG}{c:MT}{m:ME}(hi:RIt K wi mi)(hg:RGt K g n)(hf:RT K tf c)(he:RE K te m):RN K (IE k ix wi g tf te) (BK k ix mi n c m):=by
  intro ρ σ H hd ls Q out hd' hR hL hm hQ
  obtain⟨⟨⟨ds,gd⟩,h1⟩,e1,hm⟩:=Option.bind_eq_some_iff.mp hm
  dsimp only at hm
  split at hm
  . next hlen=>
    have hlen:ds.length <= sizeLine:=hlen
    refine hi ρ σ H hd ls _ ds gd h1 hR hL e1 λ ρ1 H1 J x1 R1 G1 Y=>?_
    intro Da hDa
    obtain⟨R1',x1'⟩:=R1.hid (ho:=.lst []) hDa
    have oD:Da ∉ ρ1:=R1.out hDa
    have nD:H Da=none:=x1.none hR hDa R1
    refine⟨λ i mm σ2 ys H2=>mm=ds.length - i/\i <= ds.length/\∃ ρ2 ls2 hd2 es rest,Ext ρ1 (upd H1 Da (.lst ys)) ρ2 H2/\Ext ρ1 H1 ρ2 H2/\Da ∉ ρ2/\H2 Da=some (.lst ys)/\RH K ρ2 H2 hd2/\RL K ρ2 H2 ls2 σ2/\RDs K ρ2 H2 es ys/\es.length <= i/\GOk hd2 gd/\BG n c m gd (ds.drop i) ls2 hd2=some (rest,hd')/\out=es ++ rest,
      ⟨ds.length,by simp,Nat.zero_le _,ρ1,_,h1,[],out,.refl,x1',oD,AQ,R1',(N2 ((hL.ext hR x1).ext R1 x1')),.nil,Nat.le_refl _,G1,by simpa using hm,rfl⟩,?_⟩
    rintro i mm σ2 ys H2 ⟨rfl,hi,ρ2,ls2,hd2,es,rest,x2',x2,oD2,hD2,R2,L2',r2,hle,G2,hm2,rfl⟩
    refine⟨hD2,?_⟩
    obtain⟨Y1,Y2⟩:=Y ρ2 H2 hd2 x2 R2 G2 i
    by_cases hlt:i < ds.length
    . obtain⟨go,Y1⟩:=Y1 hlt
      have ed:ds.drop i=ds[i] :: ds.drop (i + 1):=List.drop_eq_getElem_cons hlt
      rw[ed]at hm2
      unfold BG at hm2
      obtain⟨ls3,e3,hm2⟩:=Option.bind_eq_some_iff.mp hm2
      obtain⟨⟨bb,hd4⟩,e4,hm2⟩:=Option.bind_eq_some_iff.mp hm2
      refine .inr ⟨go,Nat.lt_of_le_of_lt (by rw[r2.len];exact hle) (by omega),λ σ' ys' H'=>∃ ρ2 ls2 hd2 es' rest',Ext ρ1 (upd H1 Da (.lst ys')) ρ2 H'/\Ext ρ1 H1 ρ2 H'/\Da ∉ ρ2/\H' Da=some (.lst ys')/\RH K ρ2 H' hd2/\RL K ρ2 H' ls2 σ'/\RDs K ρ2 H' es' ys'/\es'.length <= i + 1/\GOk hd2 gd/\BG n c m gd (ds.drop (i + 1)) ls2 hd2=some (rest',hd')/\es ++ rest=es' ++ rest',λ σ' ys' H' z=>⟨ds.length - (i + 1),by omega,rfl,hlt,z⟩,λ x H3 y=>?_⟩
      obtain⟨ρ3,d3,x3,rfl,R3,e5,r3⟩:=Y1 x H3 y
      have e6:d3=ds[i]:=by
        have:ds[i]? = some ds[i]:=by simp[hlt]
        rw[this]at e5;exact(Option.some.inj e5).symm
      subst e6
      refine hg ρ3 σ2 H3 hd2 ls2 ls3 _ x _ R3 (L2'.ext R2 x3) r3 e3 λ σ4 L4=>?_
      refine hf ρ3 σ4 H3 hd2 ls3 _ bb hd4 R3 L4 e4 λ ρ5 H5 x5 R5=>?_
      have hD5:H5 Da=some (.lst ys):=x5.keep Da _ (x3.keep Da _ hD2 oD2 nt) oD2 nt
      have out5:Da ∉ ρ5:=by
        obtain⟨r,rfl,fr⟩:=x5.pre
        intro z
        rcases List.mem_append.mp z with z|z
        . exact oD2 z
        . have:=fr _ z
          rw[x3.keep Da _ hD2 oD2 nt]at this;cases this
      cases bb with
      | false=>
        rw[if_neg Bool.false_ne_true]at hm2 ⊢
        have y25:=x3.trans R3 x5
        split at hm2
        . next g5=>exact⟨ρ5,ls3,hd4,es,rest,x2'.trans R2 y25,(x2.trans R2 y25),out5,hD5,R5,L4.ext R3 x5,(r2.ext R2 y25),by omega,g5,hm2,rfl⟩
        . cases hm2
      | true=>
        rw[if_pos rfl]at hm2 ⊢
        obtain⟨⟨z,hd6⟩,e6,hm2⟩:=Option.bind_eq_some_iff.mp hm2
        obtain⟨g6,hm2⟩:GOk hd6 gd/\((BG n c m gd (ds.drop (i + 1)) ls3 hd6).map λ q=>(z :: q.1,q.2))=some (rest,hd'):=by
          dsimp only at hm2
          split at hm2
          . next g6=>exact⟨g6,hm2⟩
          . cases hm2
        obtain⟨⟨zs,hd7⟩,e7,e8⟩:=Option.map_eq_some_iff.mp hm2
        cases e8
        refine he ρ5 σ4 H5 hd4 ls3 _ z hd6 R5 (L4.ext R3 x5) e6 λ ρ6 H6 v6 x6 R6 r6=>?_
        have hD6:H6 Da=some (.lst ys):=x6.keep Da _ hD5 out5 nt
        have out6:Da ∉ ρ6:=by
          obtain⟨r,rfl,fr⟩:=x6.pre
          intro z
          rcases List.mem_append.mp z with z|z
          . exact out5 z
          . have:=fr _ z
            rw[hD5]at this;cases this
        refine⟨hD6,?_⟩
        have y26:=(x3.trans R3 x5).trans R5 x6
        have gr:Grow H6 (upd H6 Da (.lst (ys ++ [v6]))):=Grow.refl.put (.lst hD6)
        have R7:=R6.hput (ho:=.lst (ys ++ [v6])) out6 hD6
        have x12:=x2.trans R2 y26
        have ext7:Ext ρ1 H1 ρ6 (upd H6 Da (.lst (ys ++ [v6]))):=⟨x12.pre,λ b o q nb t=>by
          have:b ≠ Da:=Ae q hDa
          rw[AE this];exact x12.keep b o q nb t,λ b ps q=>by
          have:b ≠ Da:=Ae q hDa
          rw[AE this];exact x12.tab b ps q⟩
        have ext8:Ext ρ1 (upd H1 Da (.lst (ys ++ [v6]))) ρ6 (upd H6 Da (.lst (ys ++ [v6]))):=by
          obtain⟨r,er,fr⟩:=x12.pre
          refine⟨⟨r,er,λ b hb=>?_⟩,λ b o q nb t=>?_,λ b ps q=>?_⟩
          . have:b ≠ Da:=λ z=>out6 (by rw[er,<- z];exact List.mem_append_right _ hb)
            rw[AE this];exact fr b hb
          . by_cases hb:b=Da
            . subst hb;rw[AQ]at q ⊢;exact q
            . rw[AE hb]at q ⊢;exact x12.keep b o q nb t
          . by_cases hb:b=Da
            . subst hb;rw[AQ]at q;cases q
            . rw[AE hb]at q ⊢;exact x12.tab b ps q
        refine⟨ρ6,ls3,hd6,es ++ [z],zs,ext8,ext7,out6,AQ,R7,?_,?_,by simp;omega,g6,e7,by simp⟩
        . have L6:=(L4.ext R3 x5).ext R5 x6
          exact⟨L6.len,λ i d e=>let ⟨v,a,b⟩:=L6.ob i d e;⟨v,a,by simpa using b.mono gr []⟩⟩
        . have:=((r2.ext R2 y26).app (.cons r6 .nil)).mono gr []
          simpa using this
    . have e:i=ds.length:=by omega
      subst e
      rw[List.drop_length]at hm2
      unfold BG at hm2
      cases hm2
      refine .inl ⟨Y2 rfl,?_⟩
      exact hQ ρ2 H2 Da ys (x1.trans R1 x2) R2 nD oD2 hD2 (by simpa using r2)
  . cases hm
end
end L2
namespace L2
open PySem PySem.Spec PyProof.Rows
mutual
noncomputable def clD(w:Nat):D->Bool
  | .im _=>true
  | .mu n=>decide (n < w)
  | .tm ds=>BN w ds
  | .ro _=>true
noncomputable def BN(w:Nat):List D->Bool
  | []=>true
  | d :: ds=>clD w d && BN w ds
end
noncomputable def GN(w:Nat):List (Key × D)->Bool
  | []=>true
  | d :: ds=>clD w d.2 && GN w ds
noncomputable def clO(w:Nat):MO->Bool
  | .lst ds=>BN w ds
  | .dic ds=>GN w ds
section
variable{K:PySem.W.Frag}{ρ ρ' ρ1:List Addr}{H H' H1:Hp}{hd hd' h1 h2:Hd}
@[simp] theorem Xa{w:Nat}(a b:List D):BN w (a ++ b)=(BN w a && BN w b):=by induction a <;> simp_all [BN,Bool.and_assoc]
mutual
theorem RD.take(w:Nat):∀ {d:D} {v:V},RD K ρ H d v->clD w d=true->RD K (ρ.take w) H d v
  | .im i,v,h,_=>by simp only[RD]at h ⊢;exact h
  | .mu n,v,h,c=>by
    simp only[RD]at h ⊢
    obtain⟨a,e,q⟩:=h
    exact⟨a,by rw[List.getElem?_take_of_lt (by simpa [clD]using c)];exact e,q⟩
  | .tm ds,v,h,c=>by
    simp only[RD]at h ⊢
    obtain⟨a,xs,e,q,z⟩:=h
    exact⟨a,xs,e,q,RDs.take' w z (by simpa [clD]using c)⟩
  | .ro ns,v,h,c=>by simp only[RD]at h ⊢;exact h
theorem RDs.take'(w:Nat):∀ {d:List D} {v:List V},RDs K ρ H d v->BN w d=true->RDs K (ρ.take w) H d v
  | [],v,h,_=>by simpa only[RDs]using h
  | d :: ds,v,h,c=>by
    simp only[RDs]at h ⊢
    obtain⟨x,r',e,q,z⟩:=h
    have c:clD w d=true/\BN w ds=true:=by simpa [BN]using c
    exact⟨x,r',e,q.take w c.1,RDs.take' w z c.2⟩
end
theorem RKs.take(w:Nat):∀ {d:List (Key × D)} {v:List (Key × V)},RKs K ρ H d v->GN w d=true->RKs K (ρ.take w) H d v
  | [],v,h,_=>by simpa only[RKs]using h
  | d :: ds,v,h,c=>by
    simp only[RKs]at h ⊢
    obtain⟨x,r',e,q1,q,z⟩:=h
    have c:clD w d.2=true/\GN w ds=true:=by simpa [GN]using c
    exact⟨x,r',e,q1,q.take w c.1,RKs.take w z c.2⟩
theorem RC.take(w:Nat){o:MO}{ho:HO}(h:RC K ρ H o ho)(c:clO w o=true):RC K (ρ.take w) H o ho:=by
  cases o with
  | lst ds=>obtain⟨xs,e,q⟩:=h;exact⟨xs,e,q.take' w c⟩
  | dic ds=>obtain⟨xs,e,q⟩:=h;exact⟨xs,e,q.take w c⟩
theorem RH.take(h:RH K ρ H hd)(w:Nat)(c:(hd.take w).all (clO w)=true):RH K (ρ.take w) H (hd.take w):=by
  refine⟨by simp[h.len],h.nd.sublist (List.take_sublist _ _),h.tabs,λ n o a e1 e2=>?_⟩
  have co:=List.all_eq_true.mp c o (List.mem_of_getElem? e1)
  have hn:n < w:=by
    have:=(List.getElem?_eq_some_iff.mp e1).1
    simp at this;omega
  rw[List.getElem?_take_of_lt hn]at e1 e2
  obtain⟨ho,q1,q2⟩:=h.ob n o a e1 e2
  exact⟨ho,q1,q2.take w co⟩
theorem RH.back(R1:RH K ρ1 H1 h1){w:Nat}(hw:w <= h1.length)(c1:(h1.take w).all (clO w)=true)(x:Ext (ρ1.take w) H1 ρ' H')(R':RH K ρ' H' h2)(c:(h2.take w).all (clO w)=true) :
    RH K ρ1 H' (h2.take w ++ h1.drop w)/\Ext ρ1 H1 ρ1 H'/\ρ'.take w=ρ1.take w:=by
  obtain⟨r,rfl,fr⟩:=x.pre
  have lw:(ρ1.take w).length=w:=by rw[List.length_take,R1.len];omega
  have l2:w <= h2.length:=by rw[<- R'.len];simp[lw]
  have tk:(ρ1.take w ++ r).take w=ρ1.take w:=by rw[List.take_append_of_le_length (by omega),List.take_take];simp
  refine⟨⟨?_,R1.nd,R'.tabs,λ n o a e1 e2=>?_⟩,⟨⟨[],by simp,by simp⟩,λ b o q nb t=>x.keep b o q (λ m=>nb (List.mem_of_mem_take m)) t,x.tab⟩,tk⟩
  . rw[List.length_append,List.length_take,List.length_drop,R1.len];omega
  . by_cases hn:n < w
    . rw[List.getElem?_append_left (by rw[List.length_take];omega),List.getElem?_take_of_lt hn]at e1
      have e3:(ρ1.take w ++ r)[n]? = some a:=by
        rw[List.getElem?_append_left (by omega),List.getElem?_take_of_lt hn];exact e2
      obtain⟨ho,q1,q2⟩:=R'.ob n o a e1 e3
      have co:=List.all_eq_true.mp c o (by
        have:(h2.take w)[n]? = some o:=by rw[List.getElem?_take_of_lt hn];exact e1
        exact List.mem_of_getElem? this)
      have q3:=q2.take w co
      rw[tk]at q3
      have q4:=q3.mono (Grow.refl (H:=H')) (ρ1.drop w)
      rw[List.take_append_drop]at q4
      exact⟨ho,q1,q4⟩
    . rw[List.getElem?_append_right (by rw[List.length_take];omega),List.length_take,List.getElem?_drop]at e1
      have e1:h1[n]? = some o:=by
        have:w + (n - min w h2.length)=n:=by omega
        rw[this]at e1;exact e1
      obtain⟨ho,q1,q2⟩:=R1.ob n o a e1 e2
      have out:a ∉ ρ1.take w:=λ m=>by
        obtain⟨k,hk⟩:=List.mem_iff_getElem?.mp m
        have kw:k < w:=by
          have:=(List.getElem?_eq_some_iff.mp hk).1
          rw[lw]at this;exact this
        rw[List.getElem?_take_of_lt kw]at hk
        have:=(List.getElem?_inj (List.getElem?_eq_some_iff.mp e2).1 R1.nd).mp (e2.trans hk.symm)
        omega
      have gr:=x.grow (R1.take w c1)
      exact⟨ho,x.keep a ho q1 out (λ ps z=>by rcases R1.mut (List.mem_of_getElem? e2)with⟨y,w⟩|⟨y,w⟩ <;> (rw[q1,z]at w;cases w)),by simpa using q2.mono gr []⟩
noncomputable def spF(K:PySem.W.Frag)(k:Nat)(F:List D->Hd->Option (D × Hd)):Sp:=λ vs H Q _=>vs.length=k/\∃ (ρ:List Addr) (hd:Hd) (ds:List D) (d:D) (hd':Hd),RH K ρ H hd/\RDs K ρ H ds vs/\F ds hd=some (d,hd') /\
  ∀ ρ' H' v,Ext ρ H ρ' H'->RH K ρ' H' hd'->RD K ρ' H' d v->Q v H'
noncomputable def mkF(k n:Nat)(m:MS):List D->Hd->Option (D × Hd):=λ ds hd=>if ds.length=k then(match m (ds.map some ++ List.replicate (n - k) none) hd with
  | some (.rt d,hd')=>some (d,hd')
  | some (.nx _,hd')=>some (.im .non,hd')
  | _=>none)else none
theorem Ky{N:List Str}:∀ {ds:List D} {vs:List V},RDs K ρ H ds vs->RL K ρ H (ds.map some ++ List.replicate (N.length - ds.length) none) (Dc N vs):=by
  intro ds vs r
  have hl:=r.len
  refine⟨by simp[Dc,hl],λ i d e=>?_⟩
  unfold Dc
  by_cases hi:i < ds.length
  . rw[List.getElem?_append_left (by simpa using hi),List.getElem?_map]at e
    have e':ds[i]? = some d:=by
      cases q:ds[i]? with
      | none=>rw[q]at e;cases e
      | some z=>rw[q]at e;simpa using e
    obtain⟨x,x1,x2⟩:=r.get e'
    exact⟨x,by rw[List.getElem?_append_left (by rw[List.length_map,hl];exact hi),List.getElem?_map,x1];rfl,x2⟩
  . rw[List.getElem?_append_right (by simpa using Nat.not_lt.mp hi),List.getElem?_replicate]at e
    split at e <;> cases e
theorem MU{k:Nat}{N:List Str}{m:MS}{t:TS}(h:RS K t m){vs:List V}{H:Hp}{Q:VK}{E:XK}(s:spF K k (mkF k N.length m) vs H Q E):t { nx:=λ _ H'=>Q .non H',rt:=Q } (Dc N vs) H:=by
  obtain⟨hk,ρ,hd,ds,d,hd',hR,hr,hF,hQ⟩:=s
  unfold mkF at hF
  split at hF
  . next hl=>
    subst hl
    split at hF
    . next q=>
      cases hF
      exact h ρ _ H hd _ _ _ _ hR (Ky hr) q λ ρ' H' x R v r=>hQ ρ' H' v x R r
    . next q=>
      cases hF
      exact h ρ _ H hd _ _ _ _ hR (Ky hr) q λ ρ' H' x R σ L=>hQ ρ' H' .non x R (by simp[RD,RI])
    . cases hF
  . cases hF
noncomputable def ET(F:List D->Hd->Option (D × Hd))(ma:MA):ME:=λ ls hd=>(ma ls hd).bind λ p=>F p.1 p.2
theorem QY{k:Nat}{F:List D->Hd->Option (D × Hd)}{t:TA}{m:MA}(h:RA K t m)(hk:∀ ds hd z,F ds hd=some z->ds.length=k):RE K (HE (spF K k F) [] E0 t) (ET F m):=by
  intro ρ σ H hd ls Q d hd' hR hL hm hQ
  obtain⟨⟨d1,h1⟩,e1,hm⟩:=Option.bind_eq_some_iff.mp hm
  refine h ρ σ H hd ls _ d1 h1 hR hL e1 λ ρ1 H1 v1 x1 R1 r1=>?_
  rw[List.append_nil]
  exact⟨by rw[r1.len];exact hk _ _ _ hm,ρ1,h1,d1,d,hd',R1,r1,hm,λ ρ' H' w x2 R2 r2=>hQ ρ' H' w (x1.trans R1 x2) R2 r2⟩
theorem AH{k n:Nat}{m:MS}:∀ ds hd z,mkF k n m ds hd=some z->ds.length=k:=λ ds hd z h=>by
  unfold mkF at h
  split at h
  . next e=>exact e
  . cases h
noncomputable def fin(w:Nat)(d:D)(h2 rest:Hd):Option (D × Hd):=if(h2.take w).all (clO w)=true then(match d with
    | .mu k=>if k < w then some (.mu k,h2.take w ++ rest)else(match h2[k]? with
      | some (.lst ds)=>if BN w ds=true then some (.mu (w + rest.length),h2.take w ++ rest ++ [.lst ds])else none
      | _=>none)
    | d=>if clD w d=true then some (d,h2.take w ++ rest)else none)else none
noncomputable def AC(w:Nat)(F:List D->Hd->Option (D × Hd))(ma:MA):ME:=λ ls hd=>(ma ls hd).bind λ p=>
  if w <= p.2.length/\BN w p.1=true/\(p.2.take w).all (clO w)=true then(F p.1 (p.2.take w)).bind λ r=>fin w r.1 r.2 (p.2.drop w)else none
theorem QX{w k:Nat}{F:List D->Hd->Option (D × Hd)}{t:TA}{m:MA}(h:RA K t m)(hk:∀ ds hd z,F ds hd=some z->ds.length=k):RE K (HE (spF K k F) [] E0 t) (AC w F m):=by
  intro ρ σ H hd ls Q d hd' hR hL hm hQ
  obtain⟨⟨d1,h1⟩,e1,hm⟩:=Option.bind_eq_some_iff.mp hm
  dsimp only at hm
  split at hm
  . next c=>
    obtain⟨c0,c1,c2⟩:=c
    obtain⟨⟨d2,h2⟩,e2,hm⟩:=Option.bind_eq_some_iff.mp hm
    refine h ρ σ H hd ls _ d1 h1 hR hL e1 λ ρ1 H1 v1 x1 R1 r1=>?_
    rw[List.append_nil]
    refine⟨by rw[r1.len];exact hk _ _ _ e2,ρ1.take w,h1.take w,d1,d2,h2,R1.take w c2,r1.take' w c1,e2,λ ρ' H' v x2 R2 r2=>?_⟩
    unfold fin at hm
    dsimp only at hm
    split at hm
    . next c3=>
      obtain⟨R3,x3,tk⟩:=R1.back c0 c2 x2 R2 c3
      have up:∀ {d:D} {v:V},RD K ρ' H' d v->clD w d=true->RD K ρ1 H' d v:=λ r c=>by
        have q:=r.take w c
        rw[tk]at q
        have q:=q.mono (Grow.refl (H:=H')) (ρ1.drop w)
        rw[List.take_append_drop]at q
        exact q
      have ups:∀ {d:List D} {v:List V},RDs K ρ' H' d v->BN w d=true->RDs K ρ1 H' d v:=λ r c=>by
        have q:=r.take' w c
        rw[tk]at q
        have q:=q.mono (Grow.refl (H:=H')) (ρ1.drop w)
        rw[List.take_append_drop]at q
        exact q
      split at hm
      . next k'=>
        split at hm
        . next hk'=>
          cases hm
          exact hQ ρ1 H' v (x1.trans R1 x3) R3 (up r2 (by simpa [clD]using hk'))
        . next hk'=>
          split at hm
          . next ds q=>
            split at hm
            . next c4=>
              cases hm
              simp only[RD]at r2
              obtain⟨a,ea,rfl⟩:=r2
              obtain⟨xs,l1,l2⟩:=R2.lst ea q
              have len3:=R3.len
              have out:a ∉ ρ1:=λ m=>by
                -- a is one of those made behind the first w
                obtain⟨r,er,fr⟩:=x2.pre
                have lw:(ρ1.take w).length=w:=by rw[List.length_take,R1.len];omega
                have ma:a ∈ r:=by
                  rw[er,List.getElem?_append_right (by rw[lw];omega)]at ea
                  exact List.mem_of_getElem? ea
                exact R1.out (fr a ma) m
              have na:H1 a=none:=by
                obtain⟨r,er,fr⟩:=x2.pre
                have lw:(ρ1.take w).length=w:=by rw[List.length_take,R1.len];omega
                have ma:a ∈ r:=by
                  rw[er,List.getElem?_append_right (by rw[lw];omega)]at ea
                  exact List.mem_of_getElem? ea
                exact fr a ma
              refine hQ (ρ1 ++ [a]) H' _ (x1.trans R1 (x3.name na)) (R3.name out l1 (ups l2 c4)) ?_
              simp only[RD]
              refine⟨a,?_,rfl⟩
              have:w + (List.drop w h1).length=ρ1.length:=by rw[List.length_drop,R1.len];omega
              rw[this];simp
            . cases hm
          . cases hm
      . next d' nd=>
        split at hm
        . next c4=>cases hm;exact hQ ρ1 H' v (x1.trans R1 x3) R3 (up r2 c4)
        . cases hm
    . cases hm
  . cases hm
noncomputable def BB(c:MT)(b:MS):Nat->Ls->Hd->Option (Fl × Hd)
  | 0,_,_=>none
  | k + 1,ls,hd=>(c ls hd).bind λ p=>if p.1=true then(b ls p.2).bind λ q=>(match q.1 with
      | .nx ls2=>BB c b k ls2 q.2
      | .ct ls2=>BB c b k ls2 q.2
      | .bk ls2=>some (.nx ls2,q.2)
      | .rt d=>some (.rt d,q.2))else some (.nx ls,p.2)
open Classical in
noncomputable def DE(c:MT)(b:MS):MS:=λ ls hd=>if h:∃ r k,BB c b k ls hd=some r then some h.choose else none
theorem EB{c:MT}{b:MS}:∀ {k j:Nat} {ls:Ls} {hd:Hd} {r:Fl × Hd},BB c b k ls hd=some r->k <= j->BB c b j ls hd=some r
  | 0,_,_,_,_,h,_=>by cases h
  | k + 1,0,_,_,_,_,hj=>by omega
  | k + 1,j + 1,ls,hd,r,h,hj=>by
    unfold BB at h ⊢
    obtain⟨p,e1,h⟩:=Option.bind_eq_some_iff.mp h
    rw[e1]
    show(if p.1=true then _ else _)=_
    split at h
    . next c=>
      rw[if_pos c]
      obtain⟨q,e2,h⟩:=Option.bind_eq_some_iff.mp h
      rw[e2]
      obtain⟨f,hd2⟩:=q
      cases f with
      | nx ls2=>exact EB h (by omega)
      | ct ls2=>exact EB h (by omega)
      | bk ls2=>exact h
      | rt d=>exact h
    . next c=>rw[if_neg c];exact h
theorem Jm{c:MT}{b:MS}{k:Nat}{ls:Ls}{hd:Hd}{r:Fl × Hd}(h:BB c b k ls hd=some r):DE c b ls hd=some r:=by
  unfold DE
  have ex:∃ r k,BB c b k ls hd=some r:=⟨r,k,h⟩
  rw[dif_pos ex]
  obtain⟨j,e⟩:=ex.choose_spec
  have e1:=EB e (Nat.le_max_left j k)
  have e2:=EB h (Nat.le_max_right j k)
  rw[e1]at e2
  exact e2
theorem QD{tc:TT}{tb:TS}{c:MT}{b:MS}(hc:RT K tc c)(hb:RS K tb b):RS K (Km tc tb) (DE c b):=by
  intro ρ σ H hd ls E f hd' hR hL hm hQ
  obtain⟨k,hk⟩:∃ k,BB c b k ls hd=some (f,hd'):=by
    unfold DE at hm
    split at hm
    . next ex=>
      obtain⟨j,e⟩:=ex.choose_spec
      exact⟨j,by rw[e];exact hm⟩
    . cases hm
  refine⟨λ m σ2 H2=>∃ ρ2 ls2 hd2,Ext ρ H ρ2 H2/\RH K ρ2 H2 hd2/\RL K ρ2 H2 ls2 σ2/\BB c b m ls2 hd2=some (f,hd'),⟨k,ρ,ls,hd,.refl,hR,hL,hk⟩,?_⟩
  rintro m σ2 H2 ⟨ρ2,ls2,hd2,x2,R2,L2',hm2⟩
  cases m with
  | zero=>cases hm2
  | succ m=>
    unfold BB at hm2
    obtain⟨⟨bb,hd3⟩,e1,hm2⟩:=Option.bind_eq_some_iff.mp hm2
    refine hc ρ2 σ2 H2 hd2 ls2 _ bb hd3 R2 L2' e1 λ ρ3 H3 x3 R3=>?_
    cases bb with
    | false=>
      rw[if_neg Bool.false_ne_true]at hm2 ⊢
      cases hm2
      exact hQ ρ3 H3 (x2.trans R2 x3) R3 σ2 (L2'.ext R2 x3)
    | true=>
      rw[if_pos rfl]at hm2 ⊢
      obtain⟨⟨fl,hd4⟩,e2,hm2⟩:=Option.bind_eq_some_iff.mp hm2
      refine⟨λ σ' H'=>∃ ρ2 ls2 hd2,Ext ρ H ρ2 H'/\RH K ρ2 H' hd2/\RL K ρ2 H' ls2 σ'/\BB c b m ls2 hd2=some (f,hd'),λ σ' H' z=>⟨m,Nat.lt_succ_self m,z⟩,?_⟩
      refine hb ρ3 σ2 H3 hd3 ls2 _ fl hd4 R3 (L2'.ext R2 x3) e2 λ ρ5 H5 x5 R5=>?_
      have x15:=(x2.trans R2 x3).trans R3 x5
      cases fl with
      | nx ls5=>intro σ5 L5;exact⟨ρ5,ls5,hd4,x15,R5,L5,hm2⟩
      | ct ls5=>intro σ5 L5;exact⟨ρ5,ls5,hd4,x15,R5,L5,hm2⟩
      | bk ls5=>intro σ5 L5;cases hm2;exact hQ ρ5 H5 x15 R5 σ5 L5
      | rt d5=>intro v5 r5;cases hm2;exact hQ ρ5 H5 x15 R5 v5 r5
noncomputable def BV(kvs:List (Key × D))(k:Key):Option D:=(kvs.find? λ kv=>decide (kv.1=k)).map (·.2)
noncomputable def E1(kvs:List (Key × D))(k:Key)(v:D):List (Key × D):=
  if(kvs.any λ kv=>decide (kv.1=k))=true then kvs.map (λ kv=>if kv.1=k then(kv.1,v)else kv)else kvs ++ [(k,v)]
theorem RKs.val:∀ {kvs:List (Key × D)} {xs:List (Key × V)} {k:Key} {d:D},RKs K ρ H kvs xs->BV kvs k=some d->∃ v,E8 xs k=some v/\RD K ρ H d v
  | [],xs,k,d,h,e=>by simp[BV]at e
  | p :: kvs,xs,k,d,h,e=>by
    simp only[RKs]at h
    obtain⟨x,r,rfl,e1,r1,r2⟩:=h
    by_cases hk:p.1=k
    . rw[Ep (e1.trans hk)]
      simp[BV,List.find?_cons,hk]at e
      subst e
      exact⟨_,rfl,r1⟩
    . rw[Er (by rw[e1];exact hk)]
      simp only[BV,List.find?_cons,hk,decide_false]at e
      exact RKs.val r2 e
theorem RKs.valN:∀ {kvs:List (Key × D)} {xs:List (Key × V)} {k:Key},RKs K ρ H kvs xs->(E8 xs k).isSome=(BV kvs k).isSome
  | [],xs,k,h=>by simp only[RKs]at h;subst h;rfl
  | p :: kvs,xs,k,h=>by
    simp only[RKs]at h
    obtain⟨x,r,rfl,e1,r1,r2⟩:=h
    by_cases hk:p.1=k
    . rw[Ep (e1.trans hk)];simp[BV,List.find?_cons,hk]
    . rw[Er (by rw[e1];exact hk)];simp only[BV,List.find?_cons,hk,decide_false];exact RKs.valN r2
theorem RKs.any:∀ {kvs:List (Key × D)} {xs:List (Key × V)} {k:Key},RKs K ρ H kvs xs->(xs.any λ kv=>decide (kv.1=k))=(kvs.any λ kv=>decide (kv.1=k))
  | [],xs,k,h=>by simp only[RKs]at h;subst h;rfl
  | p :: kvs,xs,k,h=>by
    simp only[RKs]at h
    obtain⟨x,r,rfl,e1,r1,r2⟩:=h
    simp only[List.any_cons,e1,RKs.any r2]
theorem RKs.upd:∀ {kvs:List (Key × D)} {xs:List (Key × V)} {k:Key} {d:D} {v:V},RKs K ρ H kvs xs->RD K ρ H d v->RKs K ρ H (kvs.map (λ kv=>if kv.1=k then(kv.1,d)else kv)) (xs.map (λ kv=>if kv.1=k then(kv.1,v)else kv))
  | [],xs,k,d,v,h,_=>by simp only[RKs]at h;subst h;simp[RKs]
  | p :: kvs,xs,k,d,v,h,q=>by
    simp only[RKs]at h
    obtain⟨x,r,rfl,e1,r1,r2⟩:=h
    simp only[List.map_cons,RKs]
    refine⟨_,_,rfl,?_,?_,RKs.upd r2 q⟩
    . rw[e1];split <;> simp[e1]
    . rw[e1];split
      . exact q
      . exact r1
theorem RKs.app:∀ {kvs ks:List (Key × D)} {xs ys:List (Key × V)},RKs K ρ H kvs xs->RKs K ρ H ks ys->RKs K ρ H (kvs ++ ks) (xs ++ ys)
  | [],ks,xs,ys,h,t=>by simp only[RKs]at h;subst h;simpa using t
  | d :: ds,ks,xs,ys,h,t=>by
    simp only[RKs]at h
    obtain⟨x,r,rfl,e,z,q⟩:=h
    simp only[List.cons_append,RKs]
    exact⟨_,_,rfl,e,z,q.app t⟩
theorem RKs.put{kvs:List (Key × D)}{xs:List (Key × V)}{k:Key}{d:D}{v:V}(h:RKs K ρ H kvs xs)(q:RD K ρ H d v):RKs K ρ H (E1 kvs k d) (DC xs k v):=by
  unfold E1 DC
  rw[h.any]
  split
  . exact h.upd q
  . exact h.app (by simp only[RKs];exact⟨_,_,rfl,rfl,q,rfl⟩)
noncomputable def Ce:D->Option Key
  | .im (.int i)=>some (.inl i)
  | .im (.str x)=>some (.inr x)
  | _=>none
theorem HM{d:D}{v:V}{k:Key}(h:RD K ρ H d v)(e:Ce d=some k):v=kV k:=by
  cases d with
  | im i=>
    cases i with
    | int i=>simp only[Ce,Option.some.injEq]at e;subst e;simp only[RD,RI]at h;exact h
    | str i=>simp only[Ce,Option.some.injEq]at e;subst e;simp only[RD,RI]at h;exact h
    | _=>simp[Ce]at e
  | _=>simp[Ce]at e
noncomputable def CT(hd:Hd):D->Option (List (Key × D))
  | .mu n=>match hd[n]? with
    | some (.dic kvs)=>some kvs
    | _=>none
  | _=>none
theorem RD.dic{d:D}{v:V}{kvs:List (Key × D)}(hR:RH K ρ H hd)(h:RD K ρ H d v)(e:CT hd d=some kvs):∃ n a xs,d=.mu n/\v=.ref a/\ρ[n]? = some a/\H a=some (.dK xs)/\RKs K ρ H kvs xs:=by
  cases d with
  | mu n=>
    simp only[CT]at e
    simp only[RD]at h
    obtain⟨a,hn,rfl⟩:=h
    split at e
    . next q=>
      cases e
      obtain⟨xs,e1,e2⟩:=hR.dic hn q
      exact⟨n,a,xs,rfl,rfl,hn,e1,e2⟩
    . cases e
  | _=>simp[CT]at e
noncomputable def FN:D->D->Hd->Option (D × Hd):=λ d e hd=>(CT hd d).bind λ kvs=>(Ce e).bind λ k=>(BV kvs k).map (·,hd)
theorem Sw{td ty:TE}{md my:ME}(hd:RE K td md)(hy:RE K ty my):RE K (NI td ty) (mOp FN md my):=by
  intro ρ σ H hd0 ls Q d hd' hR hL hm hQ
  obtain⟨⟨d1,h1⟩,e1,hm⟩:=Option.bind_eq_some_iff.mp hm
  obtain⟨⟨d2,h2⟩,e2,hm⟩:=Option.bind_eq_some_iff.mp hm
  obtain⟨kvs,e3,hm⟩:=Option.bind_eq_some_iff.mp hm
  obtain⟨k,e4,hm⟩:=Option.bind_eq_some_iff.mp hm
  obtain⟨w,e5,e6⟩:=Option.map_eq_some_iff.mp hm
  cases e6
  refine hd ρ σ H hd0 ls _ d1 h1 hR hL e1 λ ρ1 H1 v1 x1 R1 r1=>?_
  refine hy ρ1 σ H1 h1 ls _ d2 _ R1 (hL.ext hR x1) e2 λ ρ2 H2 v2 x2 R2 r2=>?_
  obtain⟨n,a,xs,rfl,rfl,hn,l1,l2⟩:=RD.dic R2 (r1.ext R1 x2) e3
  have:=HM r2 e4
  subst this
  obtain⟨v,v1,v2⟩:=l2.val e5
  exact⟨a,v,rfl,v1 ▸ DGet.k l1,hQ ρ2 H2 v (x1.trans R1 x2) R2 v2⟩
noncomputable def Ht(neg:Bool):D->D->Hd->Option (D × Hd):=λ e d hd=>(CT hd d).bind λ kvs=>(Ce e).map λ k=>(.im (.bl (if neg then !(BV kvs k).isSome else(BV kvs k).isSome)),hd)
theorem Uo{td ty:TE}{md my:ME}(hd:RE K td md)(hy:RE K ty my):RE K (Q2 ty td) (mOp (Ht false) my md):=by
  intro ρ σ H hd0 ls Q d hd' hR hL hm hQ
  obtain⟨⟨d1,h1⟩,e1,hm⟩:=Option.bind_eq_some_iff.mp hm
  obtain⟨⟨d2,h2⟩,e2,hm⟩:=Option.bind_eq_some_iff.mp hm
  obtain⟨kvs,e3,hm⟩:=Option.bind_eq_some_iff.mp hm
  obtain⟨k,e4,e6⟩:=Option.map_eq_some_iff.mp hm
  cases e6
  refine hy ρ σ H hd0 ls _ d1 h1 hR hL e1 λ ρ1 H1 v1 x1 R1 r1=>?_
  refine hd ρ1 σ H1 h1 ls _ d2 _ R1 (hL.ext hR x1) e2 λ ρ2 H2 v2 x2 R2 r2=>?_
  obtain⟨n,a,xs,rfl,rfl,hn,l1,l2⟩:=RD.dic R2 r2 e3
  have:=HM r1 e4
  subst this
  refine⟨a,_,rfl,DGet.k l1,?_⟩
  rw[l2.valN]
  exact hQ ρ2 H2 _ (x1.trans R1 x2) R2 (by simp[RD,RI])
open Classical in
noncomputable def Ig(md my mv:ME):MS:=λ ls hd=>(mv ls hd).bind λ p=>(md ls p.2).bind λ q=>(my ls q.2).bind λ r=>(Ce r.1).bind λ k=>match q.1 with
  | .mu n=>match r.2[n]? with
    | some (.dic kvs)=>if Cr kvs.length then some (.nx ls,r.2.set n (.dic (E1 kvs k p.1)))else none
    | _=>none
  | _=>none
theorem Sj{td ty tv:TE}{md my mv:ME}(hd:RE K td md)(hy:RE K ty my)(hv:RE K tv mv):RS K (NL td ty tv) (Ig md my mv):=by
  intro ρ σ H hd0 ls E f hd' hR hL hm hQ
  obtain⟨⟨d1,h1⟩,e1,hm⟩:=Option.bind_eq_some_iff.mp hm
  obtain⟨⟨d2,h2⟩,e2,hm⟩:=Option.bind_eq_some_iff.mp hm
  obtain⟨⟨d3,h3⟩,e3,hm⟩:=Option.bind_eq_some_iff.mp hm
  obtain⟨k,e4,hm⟩:=Option.bind_eq_some_iff.mp hm
  dsimp only at hm
  split at hm
  . split at hm
    . next q=>
      split at hm
      . next c=>
        cases hm
        refine hv ρ σ H hd0 ls _ d1 h1 hR hL e1 λ ρ1 H1 v1 x1 R1 r1=>?_
        refine hd ρ1 σ H1 h1 ls _ _ h2 R1 (hL.ext hR x1) e2 λ ρ2 H2 v2 x2 R2 r2=>?_
        refine hy ρ2 σ H2 h2 ls _ d3 _ R2 (hL.ext hR (x1.trans R1 x2)) e3 λ ρ3 H3 v3 x3 R3 r3=>?_
        have r2:=r2.ext R2 x3
        simp only[RD]at r2
        obtain⟨a,hn,rfl⟩:=r2
        obtain⟨xs,l1,l2⟩:=R3.dic hn q
        have:=HM r3 e4
        subst this
        obtain⟨R4,x4⟩:=R3.put hn (o:=.dic (E1 _ k d1)) (ho:=.dK (DC xs k v1)) ⟨_,rfl,l2.put ((r1.ext R1 x2).ext R2 x3)⟩
        have x13:=(x1.trans R1 x2).trans R2 x3
        exact⟨a,_,rfl,DPut.k l1 (by rw[l2.len];exact c),hQ ρ3 _ (x13.trans R3 x4) R4 σ ((hL.ext hR x13).ext R3 x4)⟩
      . cases hm
    . cases hm
  . cases hm
noncomputable def Fi:List (ME × ME)->Ls->Hd->Option (List (Key × D) × Hd)
  | [],_,hd=>some ([],hd)
  | (mk,mv) :: r,ls,hd=>(mk ls hd).bind λ p=>(mv ls p.2).bind λ q=>(Fi r ls q.2).bind λ z=>(Ce p.1).map λ k=>((k,q.1) :: z.1,z.2)
noncomputable def Oo(kvs more:List (Key × D)):List (Key × D):=more.foldl (λ acc kv=>E1 acc kv.1 kv.2) kvs
noncomputable def Ww(ms:List (ME × ME)):ME:=λ ls hd=>(Fi ms ls hd).bind λ p=>if p.1.length <= 15 then some (.mu p.2.length,p.2 ++ [.dic (Oo [] p.1)])else none
theorem RH.nameD(hR:RH K ρ H hd){a:Addr}{xs:List (Key × V)}{kvs:List (Key × D)}(out:a ∉ ρ){o:HO}(e:H a=some o)(ht:∀ ys,o ≠ .tup ys)(hf:∀ x u,o ≠ .frz x u)(r:RKs K ρ H kvs xs)(h1:∀ ps,o ≠ .tbl ps:=by intro _ z;cases z)(h2:∀ φ,o ≠ .ext φ:=by intro _ z;cases z):RH K (ρ ++ [a]) (upd H a (.dK xs)) (hd ++ [.dic kvs]):=by
  have gr:Grow H (upd H a (.dK xs)):=Grow.refl.put ⟨λ ys z=>ht ys (by rw[e]at z;exact Option.some.inj z),λ x u z=>hf x u (by rw[e]at z;exact Option.some.inj z)⟩
  refine⟨by simp[hR.len],?_,hR.tabs.upd (λ ps z=>h1 ps (Option.some.inj (e.symm.trans z))) (λ ps z=>h2 ps (Option.some.inj (e.symm.trans z))),λ n o' b e1 e2=>?_⟩
  . rw[List.nodup_append]
    refine⟨hR.nd,by simp,λ x hx y hy z=>?_⟩
    simp at hy;subst hy;subst z;exact out hx
  . by_cases hn:n < ρ.length
    . rw[List.getElem?_append_left hn]at e2
      rw[List.getElem?_append_left (by rw[<- hR.len];exact hn)]at e1
      obtain⟨ho',q1,q2⟩:=hR.ob n o' b e1 e2
      have:b ≠ a:=λ z=>out (by rw[<- z];exact List.mem_of_getElem? e2)
      exact⟨ho',by rw[AE this];exact q1,q2.mono gr [a]⟩
    . have hn':n=ρ.length:=by
        have:=(List.getElem?_eq_some_iff.mp e2).1
        simp at this;omega
      subst hn'
      simp at e2
      rw[hR.len]at e1
      simp at e1
      subst e1;subst e2
      exact⟨_,AQ,⟨xs,rfl,r.mono gr [_]⟩⟩
noncomputable def E4(mo mi mv:ME):MS:=λ ls hd=>(mv ls hd).bind λ p=>(mo ls p.2).bind λ q=>(mi ls q.2).bind λ r=>match q.1,r.1 with
  | .mu n,.im (.int i)=>match r.2[n]? with
    | some (.lst ds)=>(ixN ds.length i).map λ j=>(.nx ls,r.2.set n (.lst (ds.set j p.1)))
    | _=>none
  | _,_=>none
theorem Sh{to ti tv:TE}{mo mi mv:ME}(ho:RE K to mo)(hi:RE K ti mi)(hv:RE K tv mv):RS K (Es tv (RZ to ti NS)) (E4 mo mi mv):=by
  intro ρ σ H hd0 ls E f hd' hR hL hm hQ
  obtain⟨⟨d1,h1⟩,e1,hm⟩:=Option.bind_eq_some_iff.mp hm
  obtain⟨⟨d2,h2⟩,e2,hm⟩:=Option.bind_eq_some_iff.mp hm
  obtain⟨⟨d3,h3⟩,e3,hm⟩:=Option.bind_eq_some_iff.mp hm
  dsimp only at hm
  split at hm
  . split at hm
    . next q=>
      obtain⟨j,e4,e5⟩:=Option.map_eq_some_iff.mp hm
      cases e5
      refine hv ρ σ H hd0 ls _ d1 h1 hR hL e1 λ ρ1 H1 v1 x1 R1 r1=>?_
      refine ho ρ1 σ H1 h1 ls _ _ h2 R1 (hL.ext hR x1) e2 λ ρ2 H2 v2 x2 R2 r2=>?_
      refine hi ρ2 σ H2 h2 ls _ _ _ R2 (hL.ext hR (x1.trans R1 x2)) e3 λ ρ3 H3 v3 x3 R3 r3=>?_
      have r2:=r2.ext R2 x3
      simp only[RD]at r2
      obtain⟨a,hn,rfl⟩:=r2
      simp only[RD,RI]at r3
      subst r3
      obtain⟨xs,l1,l2⟩:=R3.lst hn q
      obtain⟨R4,x4⟩:=R3.put hn (o:=.lst _) (ho:=.lst (xs.set j v1)) ⟨_,rfl,l2.set j ((r1.ext R1 x2).ext R2 x3)⟩
      have x13:=(x1.trans R1 x2).trans R2 x3
      exact⟨a,xs,_,j,rfl,rfl,l1,by rw[l2.len];exact e4,hQ ρ3 _ (x13.trans R3 x4) R4 σ ((hL.ext hR x13).ext R3 x4)⟩
    . cases hm
  . cases hm
end
end L2
namespace L2
open PySem PySem.Spec PyProof.Rows
structure QG(K:PySem.W.Frag)(X:Cx)(e:Expr)(t:TG)(m:MG):Prop where
  p:PG X e t
  r:RGt K t m
structure QGs(K:PySem.W.Frag)(X:Cx)(e:List Expr)(t:TGs)(m:MGs):Prop where
  p:PGs X e t
  r:M6 K t m
structure QI(K:PySem.W.Frag)(X:Cx)(tg e:Expr)(t:TI)(m:MI):Prop where
  p:PI X tg e t
  r:RIt K t m
structure QF(K:PySem.W.Frag)(X:Cx)(e:List Expr)(t:TT)(m:MT):Prop where
  p:PF X e t
  r:RT K t m
structure QO(K:PySem.W.Frag)(X:Cx)(e:Option Expr)(t:TO)(m:MO1):Prop where
  p:PO X e t
  r:RO1 K t m
noncomputable def X7(a b:List D):Prop:=a ≠ []/\Bs (a.length + b.length)
open Classical in
noncomputable def Nl:D->D->Hd->Option (D × Hd):=λ d e hd=>(Av d).bind λ a=>(Av e).bind λ b=>if X7 a b then some (B4 (a ++ b),hd)else none
theorem B0{K:PySem.W.Frag}:RB K (NT K) Nl:=by
  intro ρ H hd d e v u Q z hd' hR h1 h2 hf hQ
  unfold Nl at hf
  obtain⟨a,e1,hf⟩:=Option.bind_eq_some_iff.mp hf
  obtain⟨b,e2,hf⟩:=Option.bind_eq_some_iff.mp hf
  split at hf
  . next c=>
    cases hf
    obtain⟨p,xs,rfl,q1,r1⟩:=h1.tup e1
    obtain⟨p2,ys,rfl,q2,r2⟩:=h2.tup e2
    have l1:=r1.len;have l2:=r2.len
    refine⟨p,p2,xs,ys,rfl,rfl,q1,q2,λ z=>c.1 (by rw[z]at l1;simpa using l1.symm),by rw[l1,l2];exact c.2,λ z=>?_,λ _ p3 hp=>?_⟩
    . have:b=[]:=by rw[z]at l2;simpa using l2.symm
      subst this
      exact hQ ρ H _ .refl hR (by rw[List.append_nil];exact Cy q1 r1)
    . obtain⟨R2,x2⟩:=hR.hid (ho:=.tup (xs ++ ys)) hp
      exact hQ ρ _ _ x2 R2 (Cy (SqT.of AQ) ((r1.app r2).ext hR x2))
  . cases hf
noncomputable abbrev B2:=HQ Vu Nl
noncomputable def GG(neg:Bool)(m:ME):ME:=λ ls hd=>(m ls hd).bind λ p=>some (.im (.bl (match p.1 with
  | .im .non=>!neg
  | _=>neg)),p.2)
theorem XJ{K:PySem.W.Frag}{ρ:List Addr}{H:Hp}{d:D}{v:V}(h:RD K ρ H d v):decide (v=.non)=(match d with | .im .non=>true|_=>false):=by
  cases d with
  | im i=>
    cases i with
    | non=>simp only[RD,RI]at h;subst h;rfl
    | tup is=>simp only[RD,RI]at h;obtain⟨a,xs,rfl,_⟩:=h;rfl
    | _=>simp only[RD,RI]at h;subst h;rfl
  | mu n=>simp only[RD]at h;obtain⟨a,_,rfl⟩:=h;rfl
  | tm ds=>simp only[RD]at h;obtain⟨a,xs,rfl,_⟩:=h;rfl
  | ro ns=>simp only[RD]at h;obtain⟨a,rfl,_⟩:=h;rfl
theorem Um{K:PySem.W.Frag}{t:TE}{m:ME}(h:RE K t m):RE K (Py t) (GG false m):=by
  intro ρ σ H hd ls Q d hd' hR hL hm hQ
  obtain⟨⟨d1,h1⟩,e1,hm⟩:=Option.bind_eq_some_iff.mp hm
  cases hm
  refine h ρ σ H hd ls _ d1 _ hR hL e1 λ ρ1 H1 v x1 R1 r1=>?_
  rw[XJ r1]
  refine hQ ρ1 H1 _ x1 R1 ?_
  simp only[RD,RI]
  cases d1 with
  | im i=>cases i <;> rfl
  | _=>rfl
noncomputable def LX(m:ME):ME:=λ ls hd=>(m ls hd).bind λ p=>match p.1 with
  | .im (.int i)=>some (.im (.int (-i)),p.2)
  | _=>none
theorem Uj{K:PySem.W.Frag}{t:TE}{m:ME}(h:RE K t m):RE K (tUn (rU λ i=>.int (-i)) t) (LX m):=by
  intro ρ σ H hd ls Q d hd' hR hL hm hQ
  obtain⟨⟨d1,h1⟩,e1,hm⟩:=Option.bind_eq_some_iff.mp hm
  dsimp only at hm
  split at hm
  . cases hm
    exact h ρ σ H hd ls _ _ _ hR hL e1 λ ρ1 H1 v x1 R1 r1=>⟨_,by simpa only[RD,RI]using r1,hQ ρ1 H1 _ x1 R1 (by simp[RD,RI])⟩
  . cases hm
noncomputable def C6:MT:=λ _ hd=>some (true,hd)
theorem UO{K:PySem.W.Frag}:RT K Pq C6:=by
  intro ρ σ H hd ls Q d hd' hR hL hm hQ
  cases hm
  exact hQ ρ H .refl hR
section
variable(K:PySem.W.Frag){X:Cx}{a b c e:Expr}{es:List Expr}{ta tb tc te:TE}{ma mb mc me:ME}{tA tB':TT}{nA nB:MT}{t:TA}{m:MA}{pos:Pos}{x:Str}
theorem qv(i:Nat){x:Str}{pos:Pos}(hN:X.N[i]? = some x:=by rfl)(hv:Vis X.env.scope x:=by first|exact Or.inl rfl|exact Or.inr (Or.inl rfl)|exact Or.inr (Or.inr rfl))(hd:(x == ("__debug__":Str))=false:=by decide)
    (hcd:(x == ("__classdict__":Str))=false:=by decide):QE K X (.Name x pos) (Pr i) (A0 i):=⟨VO hN hv hd hcd,Uh⟩
theorem A7{i:Int}{j pos}:QE K X (.Constant (.int i) j pos) (tC (.int i)) (mC (.int i)):=⟨VV,NO λ _=>by simp[RI]⟩
theorem S7{i:Bool}{j pos}:QE K X (.Constant (.bool i) j pos) (tC (.bl i)) (mC (.bl i)):=⟨Wm,NO λ _=>by simp[RI]⟩
theorem Oc{j pos}:QE K X (.Constant .none j pos) (tC .non) (mC .non):=⟨VT,NO λ _=>by simp[RI]⟩
theorem CG{x:Str}{j pos}:QE K X (.Constant (.str x) j pos) (tC (.str x)) (mC (.str x)):=⟨VQ,NO λ _=>by simp[RI]⟩
theorem AW{op:Operator}{r:R2}{f:D->D->Hd->Option (D × Hd)}(ho:OpR X (binaryOp op) r)(hr:RB K r f)(ha:QE K X a ta ma)(hb:QE K X b tb mb):QE K X (.BinOp a op b pos) (tOp r ta tb) (mOp f ma mb):=⟨NV ho ha.p hb.p,KG hr ha.r hb.r⟩
theorem V5(ha:QE K X a ta ma):QE K X (.UnaryOp .USub a pos) (tUn (rU λ i=>.int (-i)) ta) (LX ma):=⟨Wj UI ha.p,Uj ha.r⟩
theorem IS{op:CmpOp}{r:R2}{f:D->D->Hd->Option (D × Hd)}(ho:OpR X (compareOp op) r)(hr:RB K r f)(ha:QE K X a ta ma)(hb:QE K X b tb mb)(hm:behindInMarks op b=false:=by first|exact IU _|rfl):QE K X (.Compare a [op] [b] pos) (tOp r ta tb) (mOp f ma mb):=⟨Mk ho ha.p hb.p hm,KG hr ha.r hb.r⟩
theorem Ax{op:CmpOp}{r:R2}{f:D->D->Hd->Option (D × Hd)}(ho:OpR X (compareOp op) r)(hr:RB K r f)(ha:QE K X a ta ma)(hb:QE K X b tb mb)(hm:behindInMarks op b=false:=by first|exact IU _|rfl):QT K X (.Compare a [op] [b] pos) (KF (tOp r ta tb)) (AR (mOp f ma mb)):=⟨Mi ho ha.p hb.p hm,HF (KG hr ha.r hb.r)⟩
theorem LB{j pos'}(ha:QE K X a ta ma):QT K X (.Compare a [.Is] [.Constant .none j pos'] pos) (tB (Py ta)) (AR (GG false ma)):=⟨Od (VY ha.p),UR (Um ha.r)⟩
theorem GB(ha:QE K X a ta ma)(he:∀ whole,isTrue a X.env whole=(do let v <- whole;standAt a.pos;holding [v] (truthy v)):=by intro _;rfl)(hK:X.K=K:=by rfl) :
    QT K X a (λ σ H Q=>ta σ H λ x H'=>∃ k,M4 K x H' k/\Q k H') (FC ma):=by
  subst hK
  exact⟨Qm ha.p he,QC ha.r⟩
theorem Ux(ha:QT K X a tA nA):QT K X (.UnaryOp .Not a pos) (Pw tA) (LV nA):=⟨VB ha.p,UP ha.r⟩
theorem HI(ha:QT K X a tA nA):QW K X (.BoolOp .And [a] pos) tA nA:=⟨T5 ha.p,ha.r⟩
theorem Uw(ha:QT K X a tA nA):QW K X (.BoolOp .Or [a] pos) tA nA:=⟨V9 ha.p,ha.r⟩
theorem IP{rest:List Expr}(ha:QT K X a tA nA)(hb:QW K X (.BoolOp .And (b :: rest) pos) tB' nB):QW K X (.BoolOp .And (a :: b :: rest) pos) (Q4 tA tB') (GH nA nB):=⟨VA ha.p hb.p,UQ ha.r hb.r⟩
theorem We{rest:List Expr}(ha:QT K X a tA nA)(hb:QW K X (.BoolOp .Or (b :: rest) pos) tB' nB):QW K X (.BoolOp .Or (a :: b :: rest) pos) (tOr tA tB') (mOr nA nB):=⟨Wh ha.p hb.p,WY ha.r hb.r⟩
theorem QW.toT{K:PySem.W.Frag}{X:Cx}{e:Expr}{t:TT}{m:MT}(h:QW K X e t m):QT K X e t m:=⟨h.p.pt,h.r⟩
theorem V3{op}(ha:QE K X a ta ma):QE K X (.BoolOp op [a] pos) ta ma:=⟨VS ha.p,ha.r⟩
theorem V8{rest:List Expr}(ha:QE K X a ta ma)(hb:QE K X (.BoolOp .And (b :: rest) pos) tb mb):QE K X (.BoolOp .And (a :: b :: rest) pos) (NJ ta tb) (Ii ma mb):=⟨VX ha.p hb.p,Sx ha.r hb.r⟩
theorem LD(hc:QT K X c tA nA)(ha:QE K X a ta ma)(hb:QE K X b tb mb):QE K X (.IfExp c a b pos) (tIf tA ta tb) (mIf nA ma mb):=⟨Qu hc.p ha.p hb.p,Wb hc.r ha.r hb.r⟩
theorem A3:QA K X [] Cb A6:=⟨DW,OX⟩
theorem A1(ha:QE K X e te me)(hr:QA K X es t m)(hs:starEach (e :: es) X.env=(false,eval e X.env) :: starEach es X.env:=by rfl):QA K X (e :: es) (Bi te t) (A2 me m):=⟨CO ha.p hr.p hs,Sy ha.r hr.r⟩
theorem DB{x1}(h:QA K X es t m):QE K X (.Tuple es x1 pos) (Ps t) (DS m):=⟨VP h.p,Ui h.r⟩
theorem BL(h:QA K X es t m):QN K X (.List es pos) (Px t) (BM m):=⟨VU h.p,UX h.r⟩
theorem Ay(h:QN K X e te m):QE K X e te (B3 m):=⟨h.p,OT h.r⟩
theorem AJ(ha:QE K X a ta ma)(hb:QE K X b tb mb)(hs:Jb b:=by exact λ _ _=>rfl)(hK:X.K=K:=by rfl):QE K X (.Subscript a b pos) (tOp (KI K) ta tb) (mOp gIx ma mb):=⟨S8 ((Ld K hK).or (Ms K hK)) ha.p hb.p hs,KG Wc ha.r hb.r⟩
theorem JL(hu:X.A.units + 1 < cLine)(ha:QE K X a ta ma)(hb:QE K X b tb mb)(hs:Ro b:=by exact λ _ _=>rfl):QE K X (.Subscript a b pos) (NI ta tb) (mOp FN ma mb):=⟨TR hu ha.p hb.p hs,Sw ha.r hb.r⟩
theorem T1:QO K X none JD HK:=⟨TD,Sl⟩
theorem JK(h:QE K X e te me):QO K X (some e) (NE te) (GF me):=⟨TC h.p,Sk h.r⟩
theorem Ob{lo hi:Option Expr}{tl th:TO}{ml mh:MO1}{p2:Pos}(h:QE K X e te me)(hl:QO K X lo tl ml)(hh:QO K X hi th mh)(hK:X.K=K:=by rfl):QN K X (.Subscript e (.Slice lo hi none p2) pos) (tSl (NR K) te tl th) (JS me ml mh):=⟨Qs (Q6 K hK) h.p hl.p hh.p,UV h.r hl.r hh.r⟩
theorem BJ{id:String}{p:Pos}{r:List V->Hp->VK->Prop}{f:List D->Hd->Option (D × Hd)}(hc:CallR X (.builtin id) r)(hr:RF K r f)(hm:X.mg x=none)(hv:bootBuiltins x=some (.builtin id))(ha:QA K X (e :: es) t m)(hg:Gl X x:=by rfl)(hn:x ≠ "__name__":=by decide)(hdb:(x == ("__debug__":Str))=false:=by decide)
    (he:starEach (e :: es) X.env=(false,eval e X.env) :: starEach es X.env:=by rfl) (hpl:(backTo pos (starEach es X.env)).any (·.1)=false:=by rfl):QE K X (.Call (.Name x p) (e :: es) [] pos) (tCB r t) (mCB f m):=⟨Hl hc hg hm hv ha.p hn hdb he hpl,Rv hr ha.r⟩
theorem Eb{id:String}{p:Pos}{r:List V->Hp->VK->Prop}{f:List D->Hd->Option (D × Hd)}(hc:CallR X (.type id) r)(hr:RF K r f)(hm:X.mg x=none)(hv:bootBuiltins x=some (.type id))(ha:QA K X (e :: es) t m)(hg:Gl X x:=by rfl)(hn:x ≠ "__name__":=by decide)(hdb:(x == ("__debug__":Str))=false:=by decide)
    (he:starEach (e :: es) X.env=(false,eval e X.env) :: starEach es X.env:=by rfl) (hpl:(backTo pos (starEach es X.env)).any (·.1)=false:=by rfl):QE K X (.Call (.Name x p) (e :: es) [] pos) (tCB r t) (mCB f m):=⟨DD hc hg hm hv ha.p hn hdb he hpl,Rv hr ha.r⟩
theorem GC{id:String}{p:Pos}{r:List V->Hp->VK->Prop}{tp:Bool}{g:List D->Option D}(hc:CallR X (.builtin id) r)(hr:RG K tp r g)(hm:X.mg x=none)(hv:bootBuiltins x=some (.builtin id))(ha:QN K X e te m)(hg:Gl X x:=by rfl)(hn:x ≠ "__name__":=by decide)(hdb:(x == ("__debug__":Str))=false:=by decide)
    (he:starEach [e] X.env=[(false,eval e X.env)]:=by rfl):QE K X (.Call (.Name x p) [e] [] pos) (tCB r (Bi te Cb)) (CP g m):=⟨Hl hc hg hm hv (CO ha.p DW he) hn hdb he rfl,OU hr ha.r⟩
theorem KJ{id:String}{p:Pos}{r:List V->Hp->VK->Prop}{tp:Bool}{g:List D->Option D}(hc:CallR X (.type id) r)(hr:RG K tp r g)(hm:X.mg x=none)(hv:bootBuiltins x=some (.type id))(ha:QN K X e te m)(hg:Gl X x:=by rfl)(hn:x ≠ "__name__":=by decide)(hdb:(x == ("__debug__":Str))=false:=by decide)
    (he:starEach [e] X.env=[(false,eval e X.env)]:=by rfl):QE K X (.Call (.Name x p) [e] [] pos) (tCB r (Bi te Cb)) (CP g m):=⟨DD hc hg hm hv (CO ha.p DW he) hn hdb he rfl,OU hr ha.r⟩
theorem Qj{p:Pos}(hm:X.mg "list"=none)(ha:QN K X e te m)(hg:Gl X "list":=by rfl)(he:starEach [e] X.env=[(false,eval e X.env)]:=by rfl)(hK:X.K=K:=by rfl):QN K X (.Call (.Name "list" p) [e] [] pos) (tCB (JI K) (Bi te Cb)) (Ie m):=⟨DD (Nz K hK) hg hm N3 (CO ha.p DW he) (by decide) (by decide) he rfl,QP ha.r⟩
theorem EE{id:String}{r:V->List V->Hp->VK->Prop}{f:D->List D->Hd->Option (D × Hd)}{name:Str}{apos cpos:Pos}{o:Expr}{to:TE}{mo:ME}(slot:Slot "list" name id)(hty:typeOf (.builtin id)=pure (.type "method_descriptor"))(hm:MtM X id r)(hr:RM K r f)(ho:QE K X o to mo)(ha:QA K X (e :: es) t m)
    (hbase:attributeBase o name X.env (eval o X.env)=eval o X.env:=by rfl)
    (hfew:((backTo cpos (starEach (e :: es) X.env)).all (λ x=>!x.1) && (backToKw cpos (keywordEach [] X.env)).all (λ x=>x.1.isSome)
      && decide ((e :: es).length + ([]:List Keyword).length + (if([]:List Keyword).isEmpty then 0 else 1) < 30))=true:=by rfl)
    (hline:(apos.endLine == cpos.line)=true:=by rfl) (hs:starEach (e :: es) X.env=(false,eval e X.env) :: starEach es X.env:=by rfl) (hplain:(backTo cpos (starEach es X.env)).any (·.1)=false:=by rfl) (hK:X.K=K:=by rfl) :
    QE K X (.Call (.Attribute o name apos) (e :: es) [] cpos) (tBM K "list" r to t) (mMt f mo m):=by
  subst hK
  exact⟨Wl PySem.F.plainAttrs_list slot hty hm ho.p ha.p hbase hfew hline hs hplain,Ru hr ho.r ha.r⟩
theorem V6{id:String}{r:V->List V->Hp->VK->Prop}{f:D->List D->Hd->Option (D × Hd)}{name:Str}{apos cpos:Pos}{o:Expr}{to:TE}{mo:ME}(slot:Slot "list" name id)(hty:typeOf (.builtin id)=pure (.type "method_descriptor"))(hm:MtM X id r)(hr:RM K r f)(ho:QE K X o to mo)
    (hbase:attributeBase o name X.env (eval o X.env)=eval o X.env:=by rfl) (hline:(apos.endLine == cpos.line)=true:=by rfl) (hK:X.K=K:=by rfl) :
    QE K X (.Call (.Attribute o name apos) [] [] cpos) (Q3 K "list" r to) (mMt f mo A6):=by
  subst hK
  exact⟨VW PySem.F.plainAttrs_list slot hty hm ho.p hbase hline,Uk hr ho.r⟩
theorem AD(w:Nat){j k:Nat}{f:Addr}{fd:FuncData}{ps:List Str}{n:Nat}{F:List D->Hd->Option (D × Hd)}{st:Stmt}{p:Pos}(G:FnOk X.prog X.w X.K X.mg X.base CX0 j f fd ps (spF K n F))(hr:Room k X.A)(DA:DefAt X.K X.mg x st f fd ps)(ha:QA K X (e :: es) t m)(hF:∀ ds hd z,F ds hd=some z->ds.length=n)
    (hjk:j <= k:=by decide) (hg:Gl X x:=by rfl) (hdb:(x == ("__debug__":Str))=false:=by decide) (he:starEach (e :: es) X.env=(false,eval e X.env) :: starEach es X.env:=by rfl) (hpl:(backTo pos (starEach es X.env)).any (·.1)=false:=by rfl) :
    QE K X (.Call (.Name x p) (e :: es) [] pos) (HE (spF K n F) [] E0 t) (AC w F m):=⟨S9 G hr DA ha.p hjk hg hdb he hpl,QX ha.r hF⟩
theorem Hk{j k:Nat}{f:Addr}{fd:FuncData}{ps:List Str}{n:Nat}{F:List D->Hd->Option (D × Hd)}{st:Stmt}{p:Pos}(G:FnOk X.prog X.w X.K X.mg X.base CX0 j f fd ps (spF K n F))(hr:Room k X.A)(DA:DefAt X.K X.mg x st f fd ps)(ha:QA K X (e :: es) t m)(hF:∀ ds hd z,F ds hd=some z->ds.length=n)
    (hjk:j <= k:=by decide) (hg:Gl X x:=by rfl) (hdb:(x == ("__debug__":Str))=false:=by decide) (he:starEach (e :: es) X.env=(false,eval e X.env) :: starEach es X.env:=by rfl) (hpl:(backTo pos (starEach es X.env)).any (·.1)=false:=by rfl) :
    QE K X (.Call (.Name x p) (e :: es) [] pos) (HE (spF K n F) [] E0 t) (ET F m):=⟨S9 G hr DA ha.p hjk hg hdb he hpl,QY ha.r hF⟩
theorem AO{i:Nat}(hN:X.N.Nodup)(hi:X.N[i]? = some x)(hx:Loc X.env.scope x)(hf:X.fn x=true ∨ X.env.scope.names.lookup x=some .local:=by first|exact .inl rfl|exact .inr rfl|assumption):QG K X (.Name x pos) (GL i) (AF i):=⟨TN hN hi hx hf,JE⟩
theorem DK:QGs K X [] Re C1:=⟨TK,So⟩
theorem At{tg:TG}{tgs:TGs}{n:MG}{ns:MGs}(h1:QG K X e tg n)(h2:QGs K X es tgs ns)(hs:(assignEach (e :: es) X.env).map (·.2)=assign e X.env :: (assignEach es X.env).map (·.2):=by rfl):QGs K X (e :: es) (Nk tg tgs) (Aa n ns):=⟨Qr h1.p h2.p hs,QU h1.r h2.r⟩
theorem Dz{k n:Nat}{tgs:TGs}{ns:MGs}(hc:X.calm=true)(h:QGs K X es tgs ns)(hK:X.K=K:=by rfl)(hn:(assignEach es X.env).length=n:=by rfl)(hst:(assignEach es X.env).findIdx? (·.1)=none:=by rfl):QG K X (.Tuple es k pos) (Nj K n tgs) (C0 n ns):=⟨TL K hc h.p hK hn hst,Ud h.r⟩
theorem BP{tg:Expr}(h:QE K X e te me)(hK:X.K=K:=by rfl):QI K X tg e (Le K te) (BD me):=⟨Mj K h.p hK,OQ h.r⟩
theorem Fd{tg:Expr}(h:QE K X e te me)(hK:X.K=K:=by rfl):QI K X tg e (Ip K te) (Dk me):=⟨LI K h.p hK,MZ h.r⟩
theorem Eh{tg:Expr}{p:Pos}(hm:X.mg "range"=none)(ha:QA K X [a] t m)(hg:Gl X "range":=by rfl)(hs:starEach [a] X.env=[(false,eval a X.env)]:=by rfl):QI K X tg (.Call (.Name "range" p) [a] [] pos) (Ng t) (FT m):=⟨Of hg hm ha.p hs,Sn ha.r⟩
theorem By:QF K X [] Pq C6:=⟨VN,UO⟩
theorem Fe(h:QT K X c tA nA):QF K X [c] tA nA:=⟨VM h.p,h.r⟩
theorem BY{elt tg iter:Expr}{ifs:List Expr}{scope:Scope}{loc fr:List Str}{ix:List Nat}{wi:TI}{g:TG}{tf:TT}{te:TE}{mi:MI}{n:MG}{mf:MT}{mm:ME}(hc:X.calm=true)(S:CSc X scope fr ix)(hi:QI K X tg iter wi mi)
    (hg:∀ s H ex,QG K (cCx X (loc ++ fr) scope s H ex) tg g n) (hf:∀ s H ex,QF K (cCx X (loc ++ fr) scope s H ex) ifs tf mf) (he:∀ s H ex,QE K (cCx X (loc ++ fr) scope s H ex) elt te mm)
    (hs:∀ x,foldedSetIterable iter X.env x=pure x:=by intro _;rfl):QN K X (.ListComp elt [⟨tg,iter,ifs,0⟩] scope pos) (IE loc.length ix wi g tf te) (BK loc.length ix mi n mf mm):=
  ⟨TU hc S hi.p (λ s H ex=>(hg s H ex).p) (λ s H ex=>(hf s H ex).p) (λ s H ex=>(he s H ex).p) hs,MY hi.r (hg X.s₀ X.H₀ []).r (hf X.s₀ X.H₀ []).r (he X.s₀ X.H₀ []).r⟩
theorem As:QSs K X [] NF Aj:=⟨T7,Sg⟩
theorem A4{st:Stmt}{rest:List Stmt}{u v:TS}{m1 m2:MS}(h1:QS K X st u m1)(h2:QSs K X rest v m2):QSs K X (st :: rest) (Pt u v) (AA m1 m2):=⟨Qn h1.p h2.p,US h1.r h2.r⟩
theorem AB{st:Stmt}{u:TS}{m1:MS}(h1:QS K X st u m1):QSs K X [st] u m1:=⟨T6 h1.p,h1.r⟩
theorem DJ(he:QE K X e te me)(hs:swapsWith e none pos.line X.env=pure false:=by rfl):QS K X (.Expr e pos) (NH te) (Br me):=⟨T9 he.p hs,Si he.r⟩
theorem AS(he:QE K X e te me):QS K X (.Return (some e) pos) (Pv te) (AT me):=⟨VD he.p,UT he.r⟩
theorem BO{a b:List Stmt}{u v:TS}{m1 m2:MS}(hc:QT K X c tA nA)(ha:QSs K X a u m1)(hb:QSs K X b v m2):QS K X (.If c a b pos) (Pz tA u v) (Az nA m1 m2):=⟨Wi hc.p ha.p hb.p,WZ hc.r ha.r hb.r⟩
theorem Qh{st:Stmt}:QS K X st Kn LW:=⟨Qp,QJ⟩
theorem Uy{tg:Expr}{g:TG}{n:MG}(he:QE K X e te me)(hg:QG K X tg g n)(hs:swapsWithSole [tg] e pos.line X.env=pure false:=by rfl)(hw:swappedStores [tg] e X.env=pure none:=by rfl)
    (h1:(assignEach [tg] X.env).map (·.2)=[assign tg X.env]:=by rfl):QS K X (.Assign [tg] e pos) (Es te g) (Hq me n):=⟨LG he.p hg.p hs hw h1,Kw he.r hg.r⟩
theorem AG{i:Nat}{pos':Pos}(hN:X.N.Nodup)(hi:X.N[i]? = some x)(hx:Loc X.env.scope x)(he:QE K X e te me)(hs:swapsWith e (some (.Name x pos')) pos.line X.env=pure false:=by rfl)(hf:X.fn x=true ∨ X.env.scope.names.lookup x=some .local:=by first|exact .inl rfl|exact .inr rfl|assumption) :
    QS K X (.Assign [.Name x pos'] e pos) (Es te (GL i)) (AL i me):=⟨VC hN hi hx he.p hs hf,Kw he.r JE⟩
theorem Fb{i:Nat}{y:Str}{elt tg iter:Expr}{ifs:List Expr}{scope:Scope}{spos py:Pos}{loc fr:List Str}{ix:List Nat}{wi:TI}{g:TG}{tf:TT}{te:TE}{mi:MI}{n:MG}{mf:MT}{mm:ME}(hN:X.N.Nodup)(hiN:X.N[i]? = some y)(hy:X.env.scope.names.lookup y=some .local)
    (hc:X.calm=true) (S:CSc X scope fr ix) (hi:QI K X tg iter wi mi)
    (hg:∀ s H ex,QG K (cCx X (loc ++ fr) scope s H ex) tg g n) (hf:∀ s H ex,QF K (cCx X (loc ++ fr) scope s H ex) ifs tf mf) (he:∀ s H ex,QE K (cCx X (loc ++ fr) scope s H ex) elt te mm)
    (hsw:swapsWith (.ListComp elt [⟨tg,iter,ifs,0⟩] scope pos) (some (.Name y py)) spos.line X.env=pure true:=by rfl) (hs:∀ x,foldedSetIterable iter X.env x=pure x:=by intro _;rfl) :
    QS K X (.Assign [.Name y py] (.ListComp elt [⟨tg,iter,ifs,0⟩] scope pos) spos) (Es (IE loc.length ix wi g tf te) (GL i)) (AL i (B3 (BK loc.length ix mi n mf mm))):=
  ⟨T8 hN hiN hy hc S hi.p (λ s H ex=>(hg s H ex).p) (λ s H ex=>(hf s H ex).p) (λ s H ex=>(he s H ex).p) hsw hs,Kw (OT (MY hi.r (hg X.s₀ X.H₀ []).r (hf X.s₀ X.H₀ []).r (he X.s₀ X.H₀ []).r)) JE⟩
theorem T0{o i value:Expr}{pos':Pos}{td ty tv:TE}{md my mv:ME}(hu:X.A.units + 1 < cLine)(ho:QE K X o td md)(hi:QE K X i ty my)(hv:QE K X value tv mv)(hs:swapsWith value (some (.Subscript o i pos')) pos.line X.env=pure false:=by rfl) :
    QS K X (.Assign [.Subscript o i pos'] value pos) (NL td ty tv) (Ig md my mv):=⟨TB hu ho.p hi.p hv.p hs,Sj ho.r hi.r hv.r⟩
theorem Fc{o i value:Expr}{pos':Pos}{to ti tv:TE}{mo mi mv:ME}(ho:QE K X o to mo)(hi:QE K X i ti mi)(hv:QE K X value tv mv)(hs:swapsWithSole [.Subscript o i pos'] value pos.line X.env=pure false:=by rfl)(hw:swappedStores [.Subscript o i pos'] value X.env=pure none:=by rfl)
    (h1:(assignEach [.Subscript o i pos'] X.env).map (·.2)=[assign (.Subscript o i pos') X.env]:=by rfl)
    (ha:∀ v,assign (.Subscript o i pos') X.env v=(do
      let ov <- holding [v] (eval o X.env)
      let iv <- holding [v,ov] (eval i X.env)
      standAt pos'
      holding [v,ov,iv] (setItem ov iv v)
      release [v,ov,iv] []):=by intro _;rfl):QS K X (.Assign [.Subscript o i pos'] value pos) (Es tv (RZ to ti NS)) (E4 mo mi mv):=⟨LG hv.p (VJ ho.p hi.p Q8 ha) hs hw h1,Sh ho.r hi.r hv.r⟩
theorem Cz{tg iter:Expr}{body:List Stmt}{wi:TI}{g:TG}{tb:TS}{mi:MI}{n:MG}{mb:MS}(hc:X.calm=true)(hi:QI K X tg iter wi mi)(hg:QG K X tg g n)(hb:QSs K X body tb mb)(hp:PassesOwn (model X.prog X.w) X.A X.env X.xe:=by exact PassesOwn.never)
    (hs:∀ x,foldedSetIterable iter X.env x=pure x:=by intro _;rfl):QS K X (.For tg iter body [] pos) (Q0 wi g tb) (CQ mi n mb):=⟨VE hp hc hi.p hg.p hb.p hs,UU hi.r hg.r hb.r⟩
theorem Hj{body:List Stmt}{tb:TS}{mb:MS}(hc:QT K X c tA nA)(hb:QSs K X body tb mb)(hp:PassesOwn (model X.prog X.w) X.A X.env X.xe:=by exact PassesOwn.never):QS K X (.While c body [] pos) (Km tA tb) (DE nA mb):=⟨Qo hp hc.p hb.p,QD hc.r hb.r⟩
end
theorem Ak{P:Program}{w:World}{K:PySem.W.Frag}{mg:Str->Option Value}{base:Heap}{x:Str}{st:Stmt}{f:Addr}{fd:FuncData}{N ps:List Str}{j:Nat}{m:MS}(DA:DefAt K mg x st f fd ps)(S:FnScope N ps (A8 st))
    (h:∀ (cdv:Value) (A:Around) (outer:List Env) (s:Shared) (H:Hp) (E:XK),Room j (A.deeper (envOfC x (A8 st) s.heap.objs.size f cdv))->∃ t,QSs K (Gn CX0 P w K mg base N x (A8 st) f cdv A outer s H E).nox (AV st) t m) :
    FnOk P w K mg base CX0 (j + 1) f fd ps (spF K ps.length (mkF ps.length N.length m)):=by
  refine DA.fn.ok S (λ vs H Q E h=>h.1) (λ cdv A outer s H vs Q E hr hs=>?_)
  obtain⟨t,q⟩:=h cdv A outer s H E hr
  exact⟨t,q.p,MU q.r hs⟩
end L2
namespace L2
open PySem PySem.Spec PyProof.Rows
section
variable{X:Cx}{pins:List (Addr × Obj)}{σ:List (Option V)}{H H':Hp}{s:Shared}{h':Heap}
theorem Inv.turns{tk:Nat}{fp:List Addr}(I:Inv X pins σ H s)(k:∀ b o,b ∉ fp->s.heap.get? b=some o->h'.get? b=some o)(hf:∀ b ∈ fp,FpOk X pins H b):Inv X pins σ H { s with heap:=h',toks:=tk }:=by
  have out:∀ b u,H b=some u->b ∉ fp:=λ b u e z=>by rw[(hf b z).1]at e;cases e
  have hL:X.env.locals ∉ fp:=λ z=>(hf _ z).2.1 rfl
  refine I.step (g':=s.gens) (d':=s.drawn) (ch:=fp) (λ b hb=>⟨(hf b hb).2.2.2.1,(hf b hb).2.1,(hf b hb).2.2.2.2.1,(hf b hb).2.2.2.2.2⟩) (λ b o _ _ hc e _=>k b o hc e) (λ b o _ _ hc e _=>⟨o.slots,k b o hc e⟩) (λ _ _ _ _ n=>n)
    (λ b o hc e=>⟨o,k b o hc e⟩) (λ _ _ e=>e) (λ _ _ _ e=>e) (λ b ps e=>⟨#[],by rw[e];simp⟩) (λ m hm=>?_) (λ b u e=>?_) I.bare
  . obtain⟨o,es,ep,ho,r⟩:=hm
    exact⟨o,es,ep,k _ o hL ho,r⟩
  . refine(I.hok b u e).stay (λ c v hc q=>k c v ?_ q) (λ _ q=>q) λ _ _ q=>q
    rcases hc with z|z
    . rw[z];exact out b u e
    . exact out c _ z
end
theorem Inv.turnsL{X:Cx}{pins:List (Addr × Obj)}{σ:List (Option V)}{H:Hp}{s:Shared}{h':Heap}{tk:Nat}{fp:List Addr}{a:Addr}{o:HO}(I:Inv X pins σ H s)(k:∀ b o,b ∉ fp->s.heap.get? b=some o->h'.get? b=some o)(hf:∀ b ∈ fp,FpOk X pins H b)(ha:s.heap.objs.size <= a)(new:ObjOk X.prog X.w (upd H a o) h' a o) :
    Inv X pins σ (upd H a o) { s with heap:=h',toks:=tk }:=by
  have out:∀ b u,H b=some u->b ∉ fp:=λ b u e z=>by rw[(hf b z).1]at e;cases e
  have hL:X.env.locals ∉ fp:=λ z=>(hf _ z).2.1 rfl
  have fr:H a=none:=I.hok.fresh ha
  refine I.step (g':=s.gens) (d':=s.drawn) (ch:=fp) (λ b hb=>⟨(hf b hb).2.2.2.1,(hf b hb).2.1,(hf b hb).2.2.2.2.1,(hf b hb).2.2.2.2.2⟩) (λ b o _ _ hc e _=>k b o hc e) (λ b o _ _ hc e _=>⟨o.slots,k b o hc e⟩)
    (λ b o _ e n=>by rw[AE (Nat.ne_of_lt (Nat.lt_of_lt_of_le (Heap.lt_size e) ha))];exact n) (λ b o hc e=>⟨o,k b o hc e⟩) (λ b xs e=>by rw[AE (Ae e fr)];exact e) (λ b o u e=>by rw[AE (Ae e fr)];exact e)
    (λ b ps e=>⟨#[],by rw[AE (Ae e fr),e];simp⟩) (λ m hm=>?_) (λ b u e=>?_) I.bare
  . obtain⟨o,es,ep,ho,r⟩:=hm
    exact⟨o,es,ep,k _ o hL ho,r⟩
  . by_cases hb:b=a
    . subst hb;rw[AQ]at e;cases e;exact new
    . rw[AE hb]at e
      refine(I.hok b u e).stay (λ c v hc q=>k c v ?_ q) (λ c q=>by rw[AE (Ae q fr)];exact q) λ c xs q=>by rw[AE (Ae q fr)];exact q
      rcases hc with z|z
      . rw[z];exact out b u e
      . exact out c _ z
noncomputable def RowI(tp:Bool)(h:Heap)(it l:Addr)(k:Nat):Prop:=match tp with
  | true=>h.IsTupleIter it l k
  | false=>h.IsListIter it l k
noncomputable def RowL(tp:Bool)(h:Heap)(l:Addr)(xs:Array Value):Prop:=match tp with
  | true=>h.IsTuple l xs
  | false=>h.IsList l xs
theorem RowI.at{tp:Bool}{h h':Heap}{it l:Addr}{k:Nat}(x:RowI tp h it l k)(e:∀ o,h.get? it=some o->h'.get? it=some o):RowI tp h' it l k:=by
  cases tp with
  | true=>exact Heap.IsTupleIter.at x e
  | false=>exact Heap.IsListIter.at x e
theorem RowL.at{tp:Bool}{h h':Heap}{l:Addr}{xs:Array Value}(x:RowL tp h l xs)(e:∀ o,h.get? l=some o->h'.get? l=some o):RowL tp h' l xs:=by
  cases tp with
  | true=>obtain⟨o,e1,r⟩:=(show h.IsTuple l xs from x);exact⟨o,e _ e1,r⟩
  | false=>obtain⟨o,e1,r⟩:=(show h.IsList l xs from x);exact⟨o,e _ e1,r⟩
theorem RowI.obj{tp:Bool}{h:Heap}{it l:Addr}{k:Nat}(x:RowI tp h it l k):∃ o,h.get? it=some o/\o.data=.fields #[.ref l,.int k 0]:=by
  cases tp with
  | true=>obtain⟨o,e,_,d⟩:=(show h.IsTupleIter it l k from x);exact⟨o,e,d⟩
  | false=>obtain⟨o,e,_,d⟩:=(show h.IsListIter it l k from x);exact⟨o,e,d⟩
theorem RowL.obj{tp:Bool}{h:Heap}{l:Addr}{xs:Array Value}(x:RowL tp h l xs):∃ o n,h.get? l=some o/\o.data=.seq xs n:=by
  cases tp with
  | true=>obtain⟨o,e,_,n,d⟩:=(show h.IsTuple l xs from x);exact⟨o,n,e,d⟩
  | false=>obtain⟨o,e,_,n,d⟩:=(show h.IsList l xs from x);exact⟨o,n,e,d⟩
section
variable{prog:Program}{w:World}{A:Around}{E:Value->Shared->Prop}{s:Shared}{it l:Addr}{k:Nat}{xs:Array Value}{x:Value}
theorem Pp(hit:s.heap.IsTupleIter it l k)(hl:s.heap.IsTuple l xs)(hx:xs[k]? = some x){Q:Value->Shared->Prop}(hQ:∀ g,g.IsTupleIter it l (k + 1)->Heap.SameBut it s.heap g->Q x { s with heap:=g }) :
    wpAny (model prog w) A (Builtin.SmallTypes.nextOf (.ref it)) Q E s:=by
  obtain⟨o,eo,ec,ed⟩:=id hit
  obtain⟨ol,el,_,nl,edl⟩:=hl
  unfold Builtin.SmallTypes.nextOf
  refine wpAny_bind (wpAny_callSpecial?_slot (name:=Str.ofString "__next__") hit.typeIs PyProof.Rows.slot_tupleiter_next (wpAny_call_entry PyProof.Rows.slot_tupleiter_next hit.typeIs PyProof.Rows.entry_tupleiter_next ?_ (PyProof.Rows.args_tupleiter_next _)))
  show wpAny _ _ (field (.ref it) 0 >>= _) _ _ s
  refine wpAny_bind (wpAny_field eo ed (x:=.ref l) rfl ?_)
  show wpAny _ _ (if(Value.ref l == Value.none)=true then _ else _) _ _ s
  rw[if_neg (show ¬ (Value.ref l == Value.none)=true from Bool.false_ne_true)]
  show wpAny _ _ (field (.ref it) 1 >>= _) _ _ s
  refine wpAny_bind (wpAny_field eo ed (x:=.int k 0) rfl ?_)
  show wpAny _ _ (seqItems? (.ref l) >>= _) _ _ s
  refine wpAny_bind (wpAny_seqItems el edl ?_)
  simp only[Int.toNat_natCast,hx]
  refine wpAny_bind (wpAny_setField eo ed (by simp) (wpAny_pure ⟨x,rfl,wpAny_pure (hQ _ ⟨_,Heap.get?_update_self _ eo (Obj.isFreed_of_fields (Obj.data_mapFields ed _)),(Obj.cls_mapFields ..).trans ec,?_⟩ (Heap.SameBut.update ..))⟩))
  rw[Obj.data_mapFields ed];simp[rawInt]
theorem Po(hh:A.handled=none)(hit:s.heap.IsTupleIter it l k)(hl:s.heap.IsTuple l xs)(hx:xs[k]? = none){Q:Value->Shared->Prop}(hE:∀ g e,Heap.ExtBut it s.heap g->(∃ o,g.get? e=some o/\o.cls=.type "StopIteration")->E (.ref e) { s with heap:=g }) :
    wpAny (model prog w) A (Builtin.SmallTypes.nextOf (.ref it)) Q E s:=by
  obtain⟨o,eo,ec,ed⟩:=id hit
  obtain⟨ol,el,_,nl,edl⟩:=hl
  unfold Builtin.SmallTypes.nextOf
  refine wpAny_bind (wpAny_callSpecial?_slot (name:=Str.ofString "__next__") hit.typeIs PyProof.Rows.slot_tupleiter_next (wpAny_call_entry PyProof.Rows.slot_tupleiter_next hit.typeIs PyProof.Rows.entry_tupleiter_next ?_ (PyProof.Rows.args_tupleiter_next _)))
  show wpAny _ _ (field (.ref it) 0 >>= _) _ _ s
  refine wpAny_bind (wpAny_field eo ed (x:=.ref l) rfl ?_)
  show wpAny _ _ (if(Value.ref l == Value.none)=true then _ else _) _ _ s
  rw[if_neg (show ¬ (Value.ref l == Value.none)=true from Bool.false_ne_true)]
  show wpAny _ _ (field (.ref it) 1 >>= _) _ _ s
  refine wpAny_bind (wpAny_field eo ed (x:=.int k 0) rfl ?_)
  show wpAny _ _ (seqItems? (.ref l) >>= _) _ _ s
  refine wpAny_bind (wpAny_seqItems el edl ?_)
  simp only[Int.toNat_natCast,hx]
  refine wpAny_bind (wpAny_rule (wpAny_bind (wpAny_setField eo ed (by simp) ?_)))
  show wpAny _ _ (newExc (.type "StopIteration") [] >>= _) _ _ _
  refine wpAny_bind ?_
  simp only[newExc,newTuple]
  refine wpAny_bind (wpAny_newObj_type ?_ (by size_fits))
  refine wpAny_bind (m:=firstArgMember _ _) (wpAny_of_eq (a:=Value.none) (by first|rfl|(simp only[firstArgMember];rfl)) ?_)
  refine wpAny_newObj_type ?_ (by size_fits)
  simp only[raiseNew]
  refine wpAny_bind (wpAny_handled ?_)
  first|rw[show A.in1.handled=none from hh]|rw[hh]
  exact wpAny_bind (wpAny_pure (wpAny_throw (hE _ _ (((Heap.SameBut.update ..).extBut.push _).push _) ⟨_,Heap.get?_push_size _ rfl,rfl⟩)))
theorem Hg{tp:Bool}(hit:RowI tp s.heap it l k)(hl:RowL tp s.heap l xs)(hx:xs[k]? = some x){Q:Value->Shared->Prop}(hQ:∀ g,RowI tp g it l (k + 1)->Heap.SameBut it s.heap g->Q x { s with heap:=g }) :
    wpAny (model prog w) A (Builtin.SmallTypes.nextOf (.ref it)) Q E s:=by
  cases tp with
  | true=>exact Pp hit hl hx hQ
  | false=>exact wpAny_nextOf_list_item hit hl hx hQ
theorem Kx{tp:Bool}(hh:A.handled=none)(hit:RowI tp s.heap it l k)(hl:RowL tp s.heap l xs)(hx:xs[k]? = none){Q:Value->Shared->Prop}(hE:∀ g e,Heap.ExtBut it s.heap g->(∃ o,g.get? e=some o/\o.cls=.type "StopIteration")->E (.ref e) { s with heap:=g }) :
    wpAny (model prog w) A (Builtin.SmallTypes.nextOf (.ref it)) Q E s:=by
  cases tp with
  | true=>exact Po hh hit hl hx hE
  | false=>exact wpAny_nextOf_list_end hh hit hl hx hE
end
structure ZAt(t1 t2:Bool)(h:Heap)(z a b i1 i2 l1 l2:Addr)(f0:Value)(j k:Nat):Prop where
  z:IsZip h z a b f0
  p:IsPair h a (.ref i1) (.ref i2)
  o:∃ u v,IsPair h b u v
  r1:RowI t1 h i1 l1 j
  r2:RowI t2 h i2 l2 k
structure ZNe(z a b i1 i2 l1 l2:Addr):Prop where
  az:a ≠ z
  bz:b ≠ z
  iz:i1 ≠ z
  jz:i2 ≠ z
  ab:a ≠ b
  ai:a ≠ i1
  aj:a ≠ i2
  bi:b ≠ i1
  bj:b ≠ i2
  ij:i1 ≠ i2
  lz:l1 ≠ z
  lb:l1 ≠ b
  li:l1 ≠ i1
  lj:l1 ≠ i2
  mz:l2 ≠ z
  mb:l2 ≠ b
  mi:l2 ≠ i1
  mj:l2 ≠ i2
section
variable{prog:Program}{w:World}{A:Around}{E:Value->Shared->Prop}{s:Shared}{t1 t2:Bool}{z a b i1 i2 l1 l2:Addr}{j k:Nat}{xs ys:Array Value}{x y:Value}
noncomputable abbrev O3(z b i1 i2:Addr)(h h':Heap):Prop:=∀ c o,c ≠ z->c ≠ b->c ≠ i1->c ≠ i2->h.get? c=some o->h'.get? c=some o
theorem Pc(N:ZNe z a b i1 i2 l1 l2)(Z:ZAt t1 t2 s.heap z a b i1 i2 l1 l2 .none j k)(hl1:RowL t1 s.heap l1 xs)(hl2:RowL t2 s.heap l2 ys)(hx:xs[j]? = some x)(hy:ys[k]? = some y){Q:Value->Shared->Prop}
    (hQ:∀ g,ZAt t1 t2 g z a b i1 i2 l1 l2 (rawInt s.heap.objs.size) (j + 1) (k + 1)->IsPair g s.heap.objs.size x y->O3 z b i1 i2 s.heap g->Q (.ref s.heap.objs.size) { s with heap:=g }) :
    wpAny (model prog w) A (Builtin.«zip.__next__» ⟨[.ref z],[]⟩) (λ fin s'=>∃ v,fin=.done (.ret v)/\Q v s') E s:=by
  obtain⟨hz,hp,⟨u,v,hb⟩,q1,q2⟩:=Z
  show wpAny _ _ (field (.ref z) 2 >>= _) _ _ _
  refine wpAny_bind (wpAny_field hz rfl (x:=.bool false) rfl ?_)
  show wpAny _ _ (field (.ref z) 3 >>= _) _ _ _
  refine wpAny_bind (wpAny_field hz rfl (x:=.ref a) rfl (wpAny_bind (wpAny_seqItems hp rfl ?_)))
  show wpAny _ _ (Builtin.SmallTypes.ownedTupleIsFree (.ref z) >>= _) _ _ _
  unfold Builtin.SmallTypes.ownedTupleIsFree
  refine wpAny_bind (wpAny_bind (wpAny_field hz rfl (x:=.none) rfl (wpAny_pure ?_)))
  simp only[if_true]
  refine wpAny_bind (wpAny_rule (wpAny_bind (wpAny_field hz rfl (x:=.ref b) rfl ?_)))
  refine wpAny_bind (wpAny_setField_rec hz (by simp) λ g1 z1 s1=>?_)
  have z1:IsZip g1 z a b .ellipsis:=z1
  refine wpAny_bind ?_
  simp only[List.zipIdx_cons,List.zipIdx_nil,List.forIn_cons,List.forIn_nil]
  refine wpAny_bind (wpAny_bind (wpAny_onRaise ?_))
  show wpAny _ _ (Builtin.SmallTypes.nextOf (.ref i1) >>= _) _ _ _
  refine wpAny_bind (Hg (s:={ s with heap:=g1 }) (q1.at λ o e=>s1.extBut _ _ N.iz e) (hl1.at λ o e=>s1.extBut _ _ N.lz e) hx λ g2 r2 s2=>wpAny_pure ?_)
  have b2:IsPair g2 b u v:=s2.extBut _ _ N.bi (s1.extBut _ _ N.bz hb)
  refine wpAny_bind (wpAny_seqItems b2 rfl (wpAny_bind (wpAny_updateSeq_pair b2 λ g3 b3 s3=>?_)))
  have b3:IsPair g3 b x v:=b3
  refine wpAny_bind (wpAny_letGo (wpAny_pure (wpAny_bind (wpAny_bind (wpAny_onRaise ?_)))))
  show wpAny _ _ (Builtin.SmallTypes.nextOf (.ref i2) >>= _) _ _ _
  have q3:RowI t2 g3 i2 l2 k:=q2.at λ o e=>s3.extBut _ _ N.bj.symm (s2.extBut _ _ N.ij.symm (s1.extBut _ _ N.jz e))
  have m3:RowL t2 g3 l2 ys:=hl2.at λ o e=>s3.extBut _ _ N.mb (s2.extBut _ _ N.mi (s1.extBut _ _ N.mz e))
  refine wpAny_bind (Hg (s:={ s with heap:=g3 }) q3 m3 hy λ g4 r4 s4=>wpAny_pure ?_)
  have b4:IsPair g4 b x v:=s4.extBut _ _ N.bj b3
  refine wpAny_bind (wpAny_seqItems b4 rfl (wpAny_bind (wpAny_updateSeq_pair b4 λ g5 b5 s5=>?_)))
  have b5:IsPair g5 b x y:=b5
  refine wpAny_bind (wpAny_letGo (wpAny_pure (wpAny_pure (wpAny_bind (wpAny_seqItems b5 rfl (wpAny_bind (wpAny_newTuple ?_)))))))
  have sz:g5.objs.size=s.heap.objs.size:=by rw[s5.1,s4.1,s3.1,s2.1,s1.1]
  have z5:IsZip g5 z a b .ellipsis:=s5.extBut _ _ N.bz.symm (s4.extBut _ _ N.jz.symm (s3.extBut _ _ N.bz.symm (s2.extBut _ _ N.iz.symm z1)))
  have kp:O3 z b i1 i2 s.heap g5:=λ c o c1 c2 c3 c4 e=>s5.extBut _ _ c2 (s4.extBut _ _ c4 (s3.extBut _ _ c2 (s2.extBut _ _ c3 (s1.extBut _ _ c1 e))))
  have w1:RowI t1 g5 i1 l1 (j + 1):=r2.at λ o e=>s5.extBut _ _ N.bi.symm (s4.extBut _ _ N.ij (s3.extBut _ _ N.bi.symm e))
  have w2:RowI t2 g5 i2 l2 (k + 1):=r4.at λ o e=>s5.extBut _ _ N.bj.symm e
  have zlt:=Heap.lt_size z5
  show wpAny _ _ (Builtin.SmallTypes.ownedTupleHandOut (.ref z) (.ref g5.objs.size) >>= _) _ _ _
  unfold Builtin.SmallTypes.ownedTupleHandOut
  have z6:IsZip (g5.push { cls:=.type "tuple",data:=.seq #[x,y] }) z a b .ellipsis:=Heap.get?_push_of_some _ z5
  refine wpAny_bind (wpAny_bind (wpAny_setField_rec z6 (by simp) λ g7 z7 s7=>?_))
  have z7:IsZip g7 z a b (rawInt g5.objs.size):=z7
  refine wpAny_setField_rec z7 (by simp) λ g8 z8 s8=>wpAny_pure ⟨_,rfl,?_⟩
  have z8:IsZip g8 z a b (rawInt g5.objs.size):=z8
  have up:∀ c o,c ≠ z->g5.get? c=some o->g8.get? c=some o:=λ c o c1 e=>s8.extBut _ _ c1 (s7.extBut _ _ c1 (Heap.get?_push_of_some _ e))
  have t8:IsPair g8 g5.objs.size x y:=s8.extBut _ _ (Nat.ne_of_gt zlt) (s7.extBut _ _ (Nat.ne_of_gt zlt) (Heap.get?_push_size _ rfl))
  show Q (.ref g5.objs.size) _
  rw[sz]at z8 t8 ⊢
  exact hQ g8 ⟨z8,up _ _ N.az (kp _ _ N.az N.ab N.ai N.aj hp),⟨_,_,up _ _ N.bz b5⟩,w1.at λ o e=>up _ o N.iz e,w2.at λ o e=>up _ o N.jz e⟩ t8 λ c o c1 c2 c3 c4 e=>up c o c1 (kp c o c1 c2 c3 c4 e)
theorem Pb(hh:A.handled=none)(N:ZNe z a b i1 i2 l1 l2)(Z:ZAt t1 t2 s.heap z a b i1 i2 l1 l2 .none j k)(hl1:RowL t1 s.heap l1 xs)(hl2:RowL t2 s.heap l2 ys)(hend:xs[j]? = none ∨ ys[k]? = none){Q:Fin->Shared->Prop}
    (hE:∀ g e,O3 z b i1 i2 s.heap g->(∃ o,g.get? e=some o/\o.cls=.type "StopIteration")->E (.ref e) { s with heap:=g }) :
    wpAny (model prog w) A (Builtin.«zip.__next__» ⟨[.ref z],[]⟩) Q E s:=by
  obtain⟨hz,hp,⟨u,v,hb⟩,q1,q2⟩:=Z
  show wpAny _ _ (field (.ref z) 2 >>= _) _ _ _
  refine wpAny_bind (wpAny_field hz rfl (x:=.bool false) rfl ?_)
  show wpAny _ _ (field (.ref z) 3 >>= _) _ _ _
  refine wpAny_bind (wpAny_field hz rfl (x:=.ref a) rfl (wpAny_bind (wpAny_seqItems hp rfl ?_)))
  show wpAny _ _ (Builtin.SmallTypes.ownedTupleIsFree (.ref z) >>= _) _ _ _
  unfold Builtin.SmallTypes.ownedTupleIsFree
  refine wpAny_bind (wpAny_bind (wpAny_field hz rfl (x:=.none) rfl (wpAny_pure ?_)))
  simp only[if_true]
  refine wpAny_bind (wpAny_rule (wpAny_bind (wpAny_field hz rfl (x:=.ref b) rfl ?_)))
  refine wpAny_bind (wpAny_setField_rec hz (by simp) λ g1 z1 s1=>?_)
  have z1:IsZip g1 z a b .ellipsis:=z1
  refine wpAny_bind ?_
  simp only[List.zipIdx_cons,List.zipIdx_nil,List.forIn_cons,List.forIn_nil]
  refine wpAny_bind (wpAny_bind (wpAny_onRaise ?_))
  show wpAny _ _ (Builtin.SmallTypes.nextOf (.ref i1) >>= _) _ _ _
  have o1:RowI t1 g1 i1 l1 j:=q1.at λ o e=>s1.extBut _ _ N.iz e
  have m1:RowL t1 g1 l1 xs:=hl1.at λ o e=>s1.extBut _ _ N.lz e
  cases hx:xs[j]? with
  | none=>
    refine wpAny_bind (Kx (s:={ s with heap:=g1 }) hh o1 m1 hx λ g2 e s2 he=>?_)
    obtain⟨oe,he1,he2⟩:=he
    have z2:IsZip g2 z a b .ellipsis:=s2 _ _ N.iz.symm z1
    have ne:e ≠ z:=λ q=>by subst q;rw[z2]at he1;cases he1;simp at he2
    exact wpAny_setField_rec z2 (by simp) λ g3 _ s3=>hE g3 e (λ c o c1 _ c3 _ q=>s3.extBut _ _ c1 (s2 _ _ c3 (s1.extBut _ _ c1 q))) ⟨oe,s3.extBut _ _ ne he1,he2⟩
  | some x=>
    have hy:ys[k]? = none:=by
      rcases hend with q|q
      . rw[hx]at q;cases q
      . exact q
    refine wpAny_bind (Hg (s:={ s with heap:=g1 }) o1 m1 hx λ g2 r2 s2=>wpAny_pure ?_)
    have b2:IsPair g2 b u v:=s2.extBut _ _ N.bi (s1.extBut _ _ N.bz hb)
    refine wpAny_bind (wpAny_seqItems b2 rfl (wpAny_bind (wpAny_updateSeq_pair b2 λ g3 b3 s3=>?_)))
    refine wpAny_bind (wpAny_letGo (wpAny_pure (wpAny_bind (wpAny_bind (wpAny_onRaise ?_)))))
    show wpAny _ _ (Builtin.SmallTypes.nextOf (.ref i2) >>= _) _ _ _
    have q3:RowI t2 g3 i2 l2 k:=q2.at λ o e=>s3.extBut _ _ N.bj.symm (s2.extBut _ _ N.ij.symm (s1.extBut _ _ N.jz e))
    have m3:RowL t2 g3 l2 ys:=hl2.at λ o e=>s3.extBut _ _ N.mb (s2.extBut _ _ N.mi (s1.extBut _ _ N.mz e))
    refine wpAny_bind (Kx (s:={ s with heap:=g3 }) hh q3 m3 hy λ g4 e s4 he=>?_)
    obtain⟨oe,he1,he2⟩:=he
    have z4:IsZip g4 z a b .ellipsis:=s4 _ _ N.jz.symm (s3.extBut _ _ N.bz.symm (s2.extBut _ _ N.iz.symm z1))
    have ne:e ≠ z:=λ q=>by subst q;rw[z4]at he1;cases he1;simp at he2
    exact wpAny_setField_rec z4 (by simp) λ g5 _ s5=>hE g5 e (λ c o c1 c2 c3 c4 q=>s5.extBut _ _ c1 (s4 _ _ c4 (s3.extBut _ _ c2 (s2.extBut _ _ c3 (s1.extBut _ _ c1 q))))) ⟨oe,s5.extBut _ _ ne he1,he2⟩
end
noncomputable def SqS(K:PySem.W.Frag)(tp:Bool)(H:Hp)(a:Addr)(xs:List V):Prop:=match tp with
  | true=>SqT K H a xs
  | false=>SqL K H a xs
noncomputable def Itz(K:PySem.W.Frag)(t1 t2:Bool)(a b:Addr):It:=
  ⟨λ i H=>∃ xs ys x y,SqS K t1 H a xs/\SqS K t2 H b ys/\xs[i]? = some x/\ys[i]? = some y,
   λ i H x H'=>∃ p u v,H p=none/\H'=upd H p (.tup [u,v])/\x=.ref p/\(∀ xs,SqS K t1 H a xs->xs[i]? = some u)/\∀ ys,SqS K t2 H b ys->ys[i]? = some v,
   λ i H=>∃ xs ys,SqS K t1 H a xs/\SqS K t2 H b ys/\(xs.length <= i ∨ ys.length <= i)⟩
section
variable{X:Cx}{pins:List (Addr × Obj)}{σ:List (Option V)}{H:Hp}{s:Shared}
theorem Inv.row{tp:Bool}{a:Addr}{xs:List V}(I:Inv X pins σ H s)(h:SqS X.K tp H a xs):∃ its:List Value,Vals xs its/\RowL tp s.heap a its.toArray/\xs.length <= sizeLine:=by
  cases tp with
  | true=>obtain⟨its,r,p,z⟩:=I.tuple h;exact⟨its,r,(show s.heap.IsTuple a its.toArray from p),z⟩
  | false=>obtain⟨its,r,p,z⟩:=I.list h;exact⟨its,r,p.isList,z⟩
theorem Inv.row_inj{tp:Bool}{a:Addr}{xs ys:List V}(I:Inv X pins σ H s)(h:SqS X.K tp H a xs)(h':SqS X.K tp H a ys):xs=ys:=by
  cases tp with
  | true=>exact I.tuple_inj h h'
  | false=>exact I.list_inj h h'
end
theorem RowL.lt{tp:Bool}{h:Heap}{l:Addr}{xs:Array Value}(x:RowL tp h l xs):l < h.objs.size:=by
  obtain⟨o,n,e,_⟩:=x.obj;exact Heap.lt_size e
theorem U9{M:Model}{A:Around}{E:Value->Shared->Prop}{s:Shared}{elts:List Expr}{x1}{pos:Pos}{z a b T:Addr}{Q:Unit->Shared->Prop}(hz:IsZip s.heap z a b (rawInt T)){prog:Program}{w:World}
    (hQ:∀ g,IsZip g z a b .none->Heap.SameBut z s.heap g->Q () { s with heap:=g }):wpAny (model prog w) A (letOwnedTupleGo (.Tuple elts x1 pos) (.ref z) (.ref T)) Q E s:=wpAny_letOwnedTupleGo_zip hz hQ
theorem Pn{P:Program}{w:World}{K:PySem.W.Frag}{elts:List Expr}{kk:Nat}{tpos:Pos}{t1 t2:Bool}{z a b i1 i2 l1 l2:Addr}(N:ZNe z a b i1 i2 l1 l2):Turn P w K (.Tuple elts kk tpos) (Itz K t1 t2 l1 l2) [z,a,b,i1,i2] z (λ i h=>ZAt t1 t2 h z a b i1 i2 l1 l2 .none i i) where
  mem:=by simp
  obj:=λ i h st c hc=>by
    obtain⟨hz,hp,⟨u,v,hb⟩,q1,q2⟩:=st
    simp only[List.mem_cons,List.not_mem_nil,or_false]at hc
    rcases hc with rfl|rfl|rfl|rfl|rfl
    . exact⟨_,hz,λ v z=>by cases(show Data.fields _=Data.cell v from z)⟩
    . exact⟨_,hp,λ v z=>by cases(show Data.seq _ _=Data.cell v from z)⟩
    . exact⟨_,hb,λ v z=>by cases(show Data.seq _ _=Data.cell v from z)⟩
    . obtain⟨o,e,d⟩:=q1.obj;exact⟨o,e,λ v z=>by rw[d]at z;cases z⟩
    . obtain⟨o,e,d⟩:=q2.obj;exact⟨o,e,λ v z=>by rw[d]at z;cases z⟩
  keep:=λ i h h' st k=>by
    obtain⟨hz,hp,⟨u,v,hb⟩,q1,q2⟩:=st
    exact⟨k z (by simp) _ hz,k a (by simp) _ hp,⟨u,v,k b (by simp) _ hb⟩,q1.at λ o e=>k i1 (by simp) o e,q2.at λ o e=>k i2 (by simp) o e⟩
  item:=by
    intro X hP hw hK hc i pins s σ H E I hf st hg
    subst hP hw hK
    obtain⟨xs,ys,x,y,h1,h2,hx,hy⟩:=hg
    obtain⟨ix,rx,px,zx⟩:=I.row h1
    obtain⟨iy,ry,py,zy⟩:=I.row h2
    obtain⟨u,hu,ru⟩:=rx.get hx
    obtain⟨v,hv,rv⟩:=ry.get hy
    have hT:s.TypeIs (.ref z) "zip":=⟨_,st.z,rfl⟩
    unfold pyNext
    refine wpAny_bind (wpAny_attempt (wpAny_callSpecial?_slot (name:=Str.ofString "__next__") hT F.slot_zip_next (wpAny_call_entry F.slot_zip_next hT F.entry_zip_next
      (Pc N st px py (x:=u) (y:=v) (by simpa using hu) (by simpa using hv) λ g Z g5 kp=>wpAny_pure ⟨_,rfl,?_⟩) (F.args_zip_next_1 _))))
    refine U9 (M:=model X.prog X.w) (s:={ s with heap:=g }) Z.z λ g' z' sb=>?_
    have kp2:∀ c o,c ∉ [z,a,b,i1,i2]->s.heap.get? c=some o->g'.get? c=some o:=λ c o nc e=>by
      simp only[List.mem_cons,List.not_mem_nil,or_false,not_or]at nc
      exact sb.extBut _ _ nc.1 (kp c o nc.1 nc.2.2.1 nc.2.2.2.1 nc.2.2.2.2 e)
    have hTz:s.heap.objs.size ≠ z:=Nat.ne_of_gt (Heap.lt_size st.z)
    have hpair:IsPair g' s.heap.objs.size u v:=sb.extBut _ _ hTz g5
    have fresh:H s.heap.objs.size=none:=I.hok.fresh (Nat.le_refl _)
    have I2:Inv X pins σ (upd H s.heap.objs.size (.tup [x,y])) { s with heap:=g' }:=I.turnsL (tk:=s.toks) (o:=.tup [x,y]) kp2 hf (Nat.le_refl _)
      (show ObjOk X.prog X.w _ g' _ (.tup [x,y])from⟨by show 2 <= sizeLine;decide,[u,v],.cons ru (.cons rv .nil),⟨_,hpair,rfl,_,rfl⟩⟩)
    refine⟨.ref s.heap.objs.size,_,I2,rfl,⟨_,x,y,fresh,rfl,rfl,λ xs' q=>by rw[I.row_inj q h1];exact hx,λ ys' q=>by rw[I.row_inj q h2];exact hy⟩,⟨z',?_,?_,?_,?_⟩,λ c hc=>?_⟩
    . exact sb.extBut _ _ N.az Z.p
    . obtain⟨p,q,e⟩:=Z.o;exact⟨p,q,sb.extBut _ _ N.bz e⟩
    . exact Z.r1.at λ o e=>sb.extBut _ _ N.iz e
    . exact Z.r2.at λ o e=>sb.extBut _ _ N.jz e
    . have lt:c < s.heap.objs.size:=by
        obtain⟨hz,hp,⟨u,v,hb⟩,q1,q2⟩:=st
        simp only[List.mem_cons,List.not_mem_nil,or_false]at hc
        rcases hc with rfl|rfl|rfl|rfl|rfl
        . exact Heap.lt_size hz
        . exact Heap.lt_size hp
        . exact Heap.lt_size hb
        . obtain⟨o,e,_⟩:=q1.obj;exact Heap.lt_size e
        . obtain⟨o,e,_⟩:=q2.obj;exact Heap.lt_size e
      rw[AE (Nat.ne_of_lt lt)]
      exact(hf c hc).1
  done:=by
    intro X hP hw hK hc i pins s σ H E I hf st hg
    subst hP hw hK
    obtain⟨xs,ys,h1,h2,hend⟩:=hg
    obtain⟨ix,rx,px,zx⟩:=I.row h1
    obtain⟨iy,ry,py,zy⟩:=I.row h2
    have l1':=rx.length
    have l2':=ry.length
    have hT:s.TypeIs (.ref z) "zip":=⟨_,st.z,rfl⟩
    unfold pyNext
    refine wpAny_bind (wpAny_attempt (wpAny_callSpecial?_slot (name:=Str.ofString "__next__") hT F.slot_zip_next (wpAny_call_entry F.slot_zip_next hT F.entry_zip_next
      (Pb (A:=X.A.in1) (show X.A.in1.handled=none from I.ok.hd hc) N st px py (hend.imp (λ q=>by simp;omega) λ q=>by simp;omega) λ g e kp he=>?_) (F.args_zip_next_1 _))))
    obtain⟨o,ho,hcl⟩:=he
    refine wpAny_bind (wpAny_isInstance (T:="StopIteration") (b:=true) ⟨o,ho,hcl⟩ isSubtype_stop (wpAny_pure ⟨rfl,?_⟩))
    exact I.turns (tk:=s.toks) (λ c o nc e=>by
      simp only[List.mem_cons,List.not_mem_nil,or_false,not_or]at nc
      exact kp c o nc.1 nc.2.2.1 nc.2.2.2.1 nc.2.2.2.2 e) hf
  self:=λ _ _ _ _ _ st h=>wpAny_pyIter_zip st.z h
end L2
namespace L2
open PySem PySem.Spec PyProof.Rows
noncomputable abbrev EF(tp:Bool)(l:Addr):Obj:={ cls:=.type (match tp with|true=>"tuple_iterator" | false=>"list_iterator"),data:=.fields #[.ref l,.int 0 0] }
noncomputable abbrev zh1(t1:Bool)(h:Heap)(l1:Addr):Heap:=h.push (EF t1 l1)
noncomputable abbrev zh2(t1 t2:Bool)(h:Heap)(l1 l2:Addr):Heap:=(zh1 t1 h l1).push (EF t2 l2)
noncomputable abbrev zh3(t1 t2:Bool)(h:Heap)(l1 l2:Addr):Heap:=(zh2 t1 t2 h l1 l2).push { cls:=.type "tuple",data:=.seq #[.ref h.objs.size,.ref (zh1 t1 h l1).objs.size] }
noncomputable abbrev zh4(t1 t2:Bool)(h:Heap)(l1 l2:Addr):Heap:=(zh3 t1 t2 h l1 l2).push { cls:=.type "tuple",data:=.seq #[.none,.none] }
noncomputable abbrev zh5(t1 t2:Bool)(h:Heap)(l1 l2:Addr):Heap:=(zh4 t1 t2 h l1 l2).push { cls:=.type "zip",data:=.fields #[.none,.bool false,.bool false,.ref (zh2 t1 t2 h l1 l2).objs.size,.ref (zh3 t1 t2 h l1 l2).objs.size] }
set_option maxHeartbeats 4000000 in
theorem Pd(t1 t2:Bool)(l1 l2:Addr)(xs ys:Array Value) :
    Meets (Builtin.«zip.__new__» ⟨[.type "zip",.ref l1,.ref l2],[]⟩) (λ _ R s=>RowL t1 s.heap l1 xs/\RowL t2 s.heap l2 ys/\R (.ok (.ret (.ref (zh4 t1 t2 s.heap l1 l2).objs.size))) { s with heap:=zh5 t1 t2 s.heap l1 l2 }):=
  .of_wp λ prog w A R s h=>by
    obtain⟨hp,g,d,tk,os⟩:=s
    obtain⟨q1,q2,h⟩:=h
    have hsub:=sub_zip
    have q2':RowL t2 (hp.push (EF t1 l1)) l2 ys:=q2.at λ o e=>Heap.get?_push_of_some _ e
    cases t1 <;> cases t2
    . have p1:Heap.IsList (Shared.heap ⟨hp,g,d,tk,os⟩) l1 xs:=q1
      have p2:Heap.IsList (Shared.heap ⟨hp.push (EF false l1),g,d,tk,os⟩) l2 ys:=q2'
      wp_walk using wpAny_pyIter_list p1,wpAny_pyIter_list p2
      exact⟨_,rfl,h⟩
    . have p1:Heap.IsList (Shared.heap ⟨hp,g,d,tk,os⟩) l1 xs:=q1
      have p2:Heap.IsTuple (Shared.heap ⟨hp.push (EF false l1),g,d,tk,os⟩) l2 ys:=q2'
      wp_walk using wpAny_pyIter_list p1,wpAny_pyIter_tuple p2
      exact⟨_,rfl,h⟩
    . have p1:Heap.IsTuple (Shared.heap ⟨hp,g,d,tk,os⟩) l1 xs:=q1
      have p2:Heap.IsList (Shared.heap ⟨hp.push (EF true l1),g,d,tk,os⟩) l2 ys:=q2'
      wp_walk using wpAny_pyIter_tuple p1,wpAny_pyIter_list p2
      exact⟨_,rfl,h⟩
    . have p1:Heap.IsTuple (Shared.heap ⟨hp,g,d,tk,os⟩) l1 xs:=q1
      have p2:Heap.IsTuple (Shared.heap ⟨hp.push (EF true l1),g,d,tk,os⟩) l2 ys:=q2'
      wp_walk using wpAny_pyIter_tuple p1,wpAny_pyIter_tuple p2
      exact⟨_,rfl,h⟩
theorem SN{n l1 l2:Addr}(h1:l1 < n)(h2:l2 < n):ZNe (n + 4) (n + 2) (n + 3) n (n + 1) l1 l2:=by
  have k1:@LT.lt Nat _ l1 n:=h1
  have k2:@LT.lt Nat _ l2 n:=h2
  constructor <;> (intro z;have z:@Eq Nat _ _:=z;omega)
theorem MX{tp:Bool}{h:Heap}{a l:Addr}(e:h.get? a=some (EF tp l)):RowI tp h a l 0:=by
  cases tp with
  | true=>exact⟨_,e,rfl,rfl⟩
  | false=>exact⟨_,e,rfl,rfl⟩
section
variable{prog:Program}{w:World}{A:Around}{E:Value->Shared->Prop}{s:Shared}
theorem Pe{t1 t2:Bool}{l1 l2:Addr}{xs ys:Array Value}{Q:Value->Shared->Prop}(q1:RowL t1 s.heap l1 xs)(q2:RowL t2 s.heap l2 ys)
    (h:∀ g,ZAt t1 t2 g (s.heap.objs.size + 4) (s.heap.objs.size + 2) (s.heap.objs.size + 3) s.heap.objs.size (s.heap.objs.size + 1) l1 l2 .none 0 0->(∀ c o,s.heap.get? c=some o->g.get? c=some o)->Q (.ref (s.heap.objs.size + 4)) { s with heap:=g }) :
    wpAny (model prog w) A (call (.type "zip") [.ref l1,.ref l2]) Q E s:=by
  refine callType_new F.called_zip (by decide) (F.typeCall_zip_2 _ _) (F.newCall_zip_2 _ _) (λ obj=>F.args_object_init_3 obj _ _) F.entry_zip_new (Pd t1 t2 l1 l2 xs ys) ⟨q1,q2,?_⟩
  have n1:(zh1 t1 s.heap l1).objs.size=s.heap.objs.size + 1:=Heap.size_push ..
  have n2:(zh2 t1 t2 s.heap l1 l2).objs.size=s.heap.objs.size + 2:=by rw[Heap.size_push,n1]
  have n3:(zh3 t1 t2 s.heap l1 l2).objs.size=s.heap.objs.size + 3:=by rw[Heap.size_push,n2]
  have n4:(zh4 t1 t2 s.heap l1 l2).objs.size=s.heap.objs.size + 4:=by rw[Heap.size_push,n3]
  have up:∀ {g:Heap} {c:Addr} {o x:Obj},g.get? c=some o->(g.push x).get? c=some o:=λ e=>Heap.get?_push_of_some _ e
  have e5:(zh5 t1 t2 s.heap l1 l2).get? (zh4 t1 t2 s.heap l1 l2).objs.size=some _:=Heap.get?_push_size _ rfl
  have e4:(zh5 t1 t2 s.heap l1 l2).get? (zh3 t1 t2 s.heap l1 l2).objs.size=some _:=up (Heap.get?_push_size _ rfl)
  have e3:(zh5 t1 t2 s.heap l1 l2).get? (zh2 t1 t2 s.heap l1 l2).objs.size=some _:=up (up (Heap.get?_push_size _ rfl))
  have e2:(zh5 t1 t2 s.heap l1 l2).get? (zh1 t1 s.heap l1).objs.size=some (EF t2 l2):=up (up (up (Heap.get?_push_size _ (by cases t2 <;> rfl))))
  have e1:(zh5 t1 t2 s.heap l1 l2).get? s.heap.objs.size=some (EF t1 l1):=up (up (up (up (Heap.get?_push_size _ (by cases t1 <;> rfl)))))
  show _/\_
  rw[n2,n3,n4]at e5
  rw[n1,n2]at e3
  rw[n3]at e4
  rw[n1]at e2
  rw[n4]
  exact⟨⟨_,e5,rfl⟩,h _ ⟨e5,e3,⟨_,_,e4⟩,MX e1,MX e2⟩ λ c o x=>up (up (up (up (up x))))⟩
end
noncomputable def Nf(K:PySem.W.Frag)(t1 t2:Bool)(ta:TA):TI:=λ σ H R=>ta σ H λ vs H1=>∃ a b xs ys,vs=[.ref a,.ref b]/\SqS K t1 H1 a xs/\SqS K t2 H1 b ys/\R (Itz K t1 t2 a b) H1
section
variable{X:Cx}
theorem VG{t1 t2:Bool}{a b:Expr}{ta:TA}{elts:List Expr}{kk:Nat}{tpos p pos:Pos}(hg:Gl X "zip")(hm:X.mg "zip"=none)(ha:PA X [a,b] ta)(hs:starEach [a,b] X.env=[(false,eval a X.env),(false,eval b X.env)]:=by rfl)(hs2:starEach [b] X.env=[(false,eval b X.env)]:=by rfl) :
    PI X (.Tuple elts kk tpos) (.Call (.Name "zip" p) [a,b] [] pos) (Nf X.K t1 t2 ta):=by
  intro pins s σ H R I h
  refine Call_ (Fo I hg hm boot_zip (PyProof.Rows.callWith_type1 (thn (ha pos pins s σ H _ I h) λ us s1 ⟨vs,H1,I1,r1,q1⟩=>?_) (by rw[hs,hs2]) (by rw[hs2];rfl)))
  obtain⟨l1,l2,xs,ys,e,c1,c2,q⟩:=q1
  subst e
  obtain⟨u,v,rfl,ru,rv⟩:=IC r1
  cases ru
  cases rv
  obtain⟨ix,rx,px,zx⟩:=I1.row c1
  obtain⟨iy,ry,py,zy⟩:=I1.row c2
  refine Pe px py λ g Z kp=>wpAny_pyIter_zip Z.z ?_
  refine⟨_,_,_,_,H1,rfl,I1.kept (t':=s1.toks) kp,Pn (SN px.lt py.lt),Z,λ c hc=>?_,q⟩
  simp only[List.mem_cons,List.not_mem_nil,or_false]at hc
  have le:s1.heap.objs.size <= c:=by
    rcases hc with rfl|rfl|rfl|rfl|rfl
    . exact Nat.le_add_right _ _
    . exact Nat.le_add_right _ _
    . exact Nat.le_add_right _ _
    . exact Nat.le_refl _
    . exact Nat.le_add_right _ _
  exact I1.fpOk le (I1.hok.fresh le)
theorem TH(K:PySem.W.Frag){t1 t2:Bool}{a b:Expr}{ta:TA}{elts:List Expr}{kk:Nat}{tpos p pos:Pos}(hg:Gl X "zip")(hm:X.mg "zip"=none)(ha:PA X [a,b] ta)(hK:X.K=K:=by rfl)(hs:starEach [a,b] X.env=[(false,eval a X.env),(false,eval b X.env)]:=by rfl)(hs2:starEach [b] X.env=[(false,eval b X.env)]:=by rfl) :
    PI X (.Tuple elts kk tpos) (.Call (.Name "zip" p) [a,b] [] pos) (Nf K t1 t2 ta):=by subst hK;exact VG hg hm ha hs hs2
end
noncomputable def X9(K:PySem.W.Frag)(ρ:List Addr)(H:Hp)(tp:Bool)(a:Addr)(ds:List D)(g:Gd):Prop:=∀ (ρ2:List Addr) (H2:Hp) (hd2:Hd),Ext ρ H ρ2 H2->RH K ρ2 H2 hd2->GOk hd2 g->∃ xs,SqS K tp H2 a xs/\RDs K ρ2 H2 ds xs
noncomputable def RRw(K:PySem.W.Frag)(tp:Bool)(t:TE)(m:MI):Prop:=∀ (ρ:List Addr) (σ:St) (H:Hp) (hd:Hd) (ls:Ls) (Q:VK) (d:List D) (g:Gd) (hd':Hd),RH K ρ H hd->RL K ρ H ls σ->m ls hd=some ((d,g),hd') ->
  (∀ ρ' H' a,Ext ρ H ρ' H'->RH K ρ' H' hd'->GOk hd' g->X9 K ρ' H' tp a d g->Q (.ref a) H')->t σ H Q
structure QR(K:PySem.W.Frag)(tp:Bool)(X:Cx)(e:Expr)(t:TE)(m:MI):Prop where
  p:PE X e t
  r:RRw K tp t m
section
variable{K:PySem.W.Frag}{ρ ρ':List Addr}{H H':Hp}{hd hd':Hd}
theorem UL{t:TE}{m:ME}(h:RE K t m):RRw K true t (BD m):=by
  intro ρ σ H hd ls Q d g hd' hR hL hm hQ
  obtain⟨⟨d1,h1⟩,e1,hm⟩:=Option.bind_eq_some_iff.mp hm
  obtain⟨ds,e2,e3⟩:=Option.map_eq_some_iff.mp hm
  cases e3
  refine h ρ σ H hd ls _ d1 _ hR hL e1 λ ρ1 H1 v x1 R1 r1=>?_
  obtain⟨a,xs,rfl,q,r⟩:=r1.tup e2
  exact hQ ρ1 H1 a x1 R1 (Ad _) λ ρ2 H2 hd2 x2 R2 _=>⟨xs,(x2.grow R1).sq q,r.ext R1 x2⟩
theorem Se{t:TE}{m:ME}(h:RE K t m):RRw K false t (Dk m):=by
  intro ρ σ H hd ls Q d g hd' hR hL hm hQ
  obtain⟨⟨d1,h1⟩,e1,hm⟩:=Option.bind_eq_some_iff.mp hm
  dsimp only at hm
  split at hm
  . next n=>
    split at hm
    . next ds q=>
      cases hm
      refine h ρ σ H hd ls _ _ _ hR hL e1 λ ρ1 H1 v x1 R1 r1=>?_
      simp only[RD]at r1
      obtain⟨a,hn,rfl⟩:=r1
      refine hQ ρ1 H1 a x1 R1 (λ p z=>by simp at z;subst z;exact q) λ ρ2 H2 hd2 x2 R2 G2=>?_
      have hn2:ρ2[n]? = some a:=by
        obtain⟨r,rfl,_⟩:=x2.pre
        rw[List.getElem?_append_left (List.getElem?_eq_some_iff.mp hn).1];exact hn
      obtain⟨ys,e4,e5⟩:=R2.lst hn2 (G2 (n,d) (by simp))
      exact⟨ys,SqL.of e4,e5⟩
    . cases hm
  . next ns=>
    cases hm
    refine h ρ σ H hd ls _ _ _ hR hL e1 λ ρ1 H1 v x1 R1 r1=>?_
    simp only[RD]at r1
    obtain⟨a,rfl,q⟩:=r1
    exact hQ ρ1 H1 a x1 R1 (Ad _) λ ρ2 H2 hd2 x2 R2 _=>⟨_,(q.grow (x2.grow R1)).sq,Fp⟩
  . cases hm
open Classical in
noncomputable def LS(ma mb:MI):MI:=λ ls hd=>(ma ls hd).bind λ p=>(mb ls p.2).bind λ q=>if GOk q.2 p.1.2 then some ((List.zipWith (λ x y=>B4 [x,y]) p.1.1 q.1.1,p.1.2 ++ q.1.2),q.2)else none
theorem Ub{t1 t2:Bool}{ta tb:TE}{ma mb:MI}(ha:RRw K t1 ta ma)(hb:RRw K t2 tb mb):RIt K (Nf K t1 t2 (Bi ta (Bi tb Cb))) (LS ma mb):=by
  intro ρ σ H hd ls Q d g hd' hR hL hm hQ
  obtain⟨⟨⟨d1,g1⟩,h1⟩,e1,hm⟩:=Option.bind_eq_some_iff.mp hm
  obtain⟨⟨⟨d2,g2⟩,h2⟩,e2,hm⟩:=Option.bind_eq_some_iff.mp hm
  dsimp only at hm
  split at hm
  . next gk=>
    cases hm
    refine ha ρ σ H hd ls _ d1 g1 h1 hR hL e1 λ ρ1 H1 a x1 R1 G1 S1=>?_
    refine hb ρ1 σ H1 h1 ls _ d2 g2 _ R1 (hL.ext hR x1) e2 λ ρ2 H2 b x2 R2 G2 S2=>?_
    obtain⟨xs,c1,r1⟩:=S1 ρ2 H2 _ x2 R2 gk
    obtain⟨ys,c2,r2⟩:=S2 ρ2 H2 _ .refl R2 G2
    refine⟨a,b,xs,ys,rfl,c1,c2,hQ ρ2 H2 _ (x1.trans R1 x2) R2 (λ p hp=>(List.mem_append.mp hp).elim (gk p) (G2 p)) ?_⟩
    intro ρ3 H3 hd3 x3 R3 G3 i
    obtain⟨xs,c1,r1⟩:=S1 ρ3 H3 _ (x2.trans R2 x3) R3 λ p hp=>G3 p (List.mem_append_left _ hp)
    obtain⟨ys,c2,r2⟩:=S2 ρ3 H3 _ x3 R3 λ p hp=>G3 p (List.mem_append_right _ hp)
    have l1:=r1.len;have l2:=r2.len
    refine⟨λ hi=>?_,λ hi=>⟨xs,ys,c1,c2,?_⟩⟩
    . simp only[List.length_zipWith]at hi
      have i1:d1[i]? = some (d1[i]'(by omega)):=List.getElem?_eq_getElem _
      have i2:d2[i]? = some (d2[i]'(by omega)):=List.getElem?_eq_getElem _
      obtain⟨x,x4,x5⟩:=r1.get i1
      obtain⟨y,y4,y5⟩:=r2.get i2
      refine⟨⟨xs,ys,x,y,c1,c2,x4,y4⟩,λ z H4 hz=>?_⟩
      obtain⟨p,u,v,fp,rfl,rfl,hu,hv⟩:=hz
      have eu:=hu xs c1;rw[x4]at eu;cases eu
      have ev:=hv ys c2;rw[y4]at ev;cases ev
      obtain⟨R4,x6⟩:=R3.hid (ho:=.tup [x,y]) fp
      refine⟨ρ3,B4 [d1[i]'(by omega),d2[i]'(by omega)],x6,rfl,R4,?_,Cy (SqT.of AQ) (.cons (x5.ext R3 x6) (.cons (y5.ext R3 x6) .nil))⟩
      simp[List.getElem?_zipWith,i1,i2]
    . simp only[List.length_zipWith]at hi
      omega
  . cases hm
end
section
variable(K:PySem.W.Frag){X:Cx}{a b e:Expr}{ta tb te:TE}{me:ME}{m:MA}
theorem Oa(h:QE K X e te me):QR K true X e te (BD me):=⟨h.p,UL h.r⟩
theorem Mg(h:QE K X e te me):QR K false X e te (Dk me):=⟨h.p,Se h.r⟩
theorem V1{t1 t2:Bool}{ma mb:MI}{elts:List Expr}{kk:Nat}{tpos p pos:Pos}(hm:X.mg "zip"=none)(ha:QR K t1 X a ta ma)(hb:QR K t2 X b tb mb)(hg:Gl X "zip":=by rfl)(hK:X.K=K:=by rfl)(hs:starEach [a,b] X.env=[(false,eval a X.env),(false,eval b X.env)]:=by rfl)(hs2:starEach [b] X.env=[(false,eval b X.env)]:=by rfl) :
    QI K X (.Tuple elts kk tpos) (.Call (.Name "zip" p) [a,b] [] pos) (Nf K t1 t2 (Bi ta (Bi tb Cb))) (LS ma mb):=⟨TH K hg hm (CO ha.p (CO hb.p DW hs2) (by rw[hs,hs2])) hK hs hs2,Ub ha.r hb.r⟩
end
section
variable{K:PySem.W.Frag}
noncomputable def LY(ml:MA)(mb:ME):ME:=λ ls hd=>(ml ls hd).bind λ p=>(mb ls p.2).bind λ q=>match q.1 with
  | .im (.int i)=>(atI p.1 i).map (·,q.2)
  | _=>none
theorem Ul{ta tb:TE}{ml:MA}{mb:ME}(ha:RN K ta ml)(hb:RE K tb mb):RE K (tOp (KI K) ta tb) (LY ml mb):=by
  intro ρ σ H hd ls Q d hd' hR hL hm hQ
  obtain⟨⟨d1,h1⟩,e1,hm⟩:=Option.bind_eq_some_iff.mp hm
  obtain⟨⟨d2,h2⟩,e2,hm⟩:=Option.bind_eq_some_iff.mp hm
  dsimp only at hm
  split at hm
  . obtain⟨w,e3,e4⟩:=Option.map_eq_some_iff.mp hm
    cases e4
    refine ha ρ σ H hd ls _ d1 h1 hR hL e1 λ ρ1 H1 a xs x1 R1 na oa ea r1=>?_
    refine hb ρ1 σ H1 h1 ls _ _ _ R1 (hL.ext hR x1) e2 λ ρ2 H2 v2 x2 R2 r2=>?_
    simp only[RD,RI]at r2
    subst r2
    have r1':=r1.ext R1 x2
    obtain⟨j,j1,j2⟩:=N4 r1'.len e3
    obtain⟨x,y1,y2⟩:=r1'.get j1
    exact .inl ⟨a,xs,_,x,rfl,rfl,SqL.of (x2.keep a _ ea oa nt),j2 x y1,hQ ρ2 H2 x (x1.trans R1 x2) R2 y2⟩
  . cases hm
noncomputable def Lp(neg:Bool)(x y:PyData)(hd:Hd):Option (D × Hd):=if x.canLay0=true/\y.canLay0=true/\min x.depth y.depth <= 60 then some (.im (.bl (if neg then !PyData.eqv x y else PyData.eqv x y)),hd)else none
noncomputable def E5(neg:Bool)(ma:ME)(ml:MA):ME:=λ ls hd=>(ma ls hd).bind λ p=>(ml ls p.2).bind λ q=>(pyD q.2 p.1).bind λ x=>(Bl q.1).bind λ is=>Lp neg x (.list (I.pys is)) q.2
noncomputable def rEN(K:PySem.W.Frag)(neg:Bool):R2:=λ x y H Q=>∃ d e,Rep K H d x/\Rep K H e y/\d.canLay0=true/\e.canLay0=true/\min d.depth e.depth <= 60/\Q (.bl (if neg then !PyData.eqv d e else PyData.eqv d e)) H
theorem Sr{ρ:List Addr}{H:Hp}{a:Addr}{xs:List V}{ds:List D}{is:List I}(ea:H a=some (.lst xs))(r:RDs K ρ H ds xs)(e:Bl ds=some is):Rep K H (.list (I.pys is)) (.ref a):=by
  rw[GR e]at r
  simp only[Rep]
  exact⟨a,xs,rfl,SqL.of ea,r.is.rep⟩
theorem Ma{neg:Bool}{ta tb:TE}{ma:ME}{ml:MA}(ha:RE K ta ma)(hb:RN K tb ml):RE K (tOp (rEN K neg) ta tb) (E5 neg ma ml):=by
  intro ρ σ H hd ls Q d hd' hR hL hm hQ
  obtain⟨⟨d1,h1⟩,e1,hm⟩:=Option.bind_eq_some_iff.mp hm
  obtain⟨⟨d2,h2⟩,e2,hm⟩:=Option.bind_eq_some_iff.mp hm
  obtain⟨x,e3,hm⟩:=Option.bind_eq_some_iff.mp hm
  obtain⟨is,e4,hm⟩:=Option.bind_eq_some_iff.mp hm
  unfold Lp at hm
  split at hm
  . next c=>
    cases hm
    refine ha ρ σ H hd ls _ d1 h1 hR hL e1 λ ρ1 H1 v x1 R1 r1=>?_
    refine hb ρ1 σ H1 h1 ls _ d2 _ R1 (hL.ext hR x1) e2 λ ρ2 H2 a xs x2 R2 na oa ea r2=>?_
    exact⟨_,_,Ff R2 (r1.ext R1 x2) e3,Sr ea r2 e4,c.1,c.2.1,c.2.2,hQ ρ2 H2 _ (x1.trans R1 x2) R2 (by simp[RD,RI])⟩
  . cases hm
end
theorem Vf(K:PySem.W.Frag){X:Cx}(hu:X.A.units + 64 < cLine)(hK:X.K=K:=by rfl):OpR X (compareOp .Eq) (rEN K false):=BT K hu hK
theorem LL(K:PySem.W.Frag){X:Cx}(hu:X.A.units + 64 < cLine)(hK:X.K=K:=by rfl):OpR X (compareOp .NotEq) (rEN K true):=JO K hu hK
section
variable(K:PySem.W.Frag){X:Cx}{a b e:Expr}{ta tb te:TE}{ma mb me:ME}{m mk:MA}{pos:Pos}{op:CmpOp}{neg:Bool}
theorem V7(ha:QN K X a ta m)(hb:QE K X b tb mb)(hs:Jb b:=by exact λ _ _=>rfl)(hK:X.K=K:=by rfl):QE K X (.Subscript a b pos) (tOp (KI K) ta tb) (LY m mb):=⟨S8 ((Ld K hK).or (Ms K hK)) ha.p hb.p hs,Ul ha.r hb.r⟩
theorem T4(ho:OpR X (compareOp op) (rEN K neg))(ha:QE K X a ta ma)(hb:QN K X b tb m)(hm:behindInMarks op b=false:=by first|exact IU _|rfl):QE K X (.Compare a [op] [b] pos) (tOp (rEN K neg) ta tb) (E5 neg ma m):=⟨Mk ho ha.p hb.p hm,Ma ha.r hb.r⟩
theorem JJ(ho:OpR X (compareOp op) (rEN K neg))(ha:QE K X a ta ma)(hb:QN K X b tb m)(hm:behindInMarks op b=false:=by first|exact IU _|rfl):QT K X (.Compare a [op] [b] pos) (KF (tOp (rEN K neg) ta tb)) (AR (E5 neg ma m)):=⟨Mi ho ha.p hb.p hm,HF (Ma ha.r hb.r)⟩
end
end L2
namespace L2
open PySem PySem.Spec PyProof.Rows
noncomputable def Bo(lo:Int):Nat->List V
  | 0=>[]
  | n + 1=>.int lo :: Bo (lo + 1) n
theorem IK(lo:Int)(n:Nat):(Bo lo n).length=n:=by
  induction n generalizing lo with
  | zero=>rfl
  | succ n ih=>simp[Bo,ih]
theorem GA{K:PySem.W.Frag}{ρ:List Addr}{H:Hp}(lo:Int)(n:Nat):RDs K ρ H (B7 lo n) (Bo lo n):=by
  induction n generalizing lo with
  | zero=>simp[B7,Bo,RDs]
  | succ n ih=>exact .cons (by simp[RD,RI]) (ih _)
theorem IJ{lo:Int}:∀ {n:Nat} {us:List Value},us.length=n->(∀ (j:Nat) (v:Value),us[j]? = some v->∃ t,v=.int (lo + j * 1) t)->Vals (Bo lo n) us
  | 0,us,h,_=>by
    have:us=[]:=List.length_eq_zero_iff.mp h
    subst this;exact .nil
  | n + 1,[],h,_=>by simp at h
  | n + 1,u :: us,h,k=>by
    obtain⟨t,e⟩:=k 0 u rfl
    refine .cons ⟨t,by rw[e];simp⟩ (IJ (by simpa using h) λ j v q=>?_)
    obtain⟨t',e'⟩:=k (j + 1) v (by simpa using q)
    exact⟨t',by rw[e'];congr 1;push_cast;omega⟩
section
variable{prog:Program}{w:World}{A:Around}{E:Value->Shared->Prop}{s:Shared}
theorem MC{Q:List Value->Shared->Prop}{r:Addr}{a b c:Int}{t u v:Tok}{n:Nat}(hh:A.handled=none)(hr:IsRange s.heap r a b c t u v)(hsm:Builtin.Range.small a b c=true)(hn:Builtin.Range.rangeSize a b c=n)(hl:n <= 2 ^ 24)
    (hQ:∀ g tk (acc:Array Value),(∀ b o,s.heap.get? b=some o->g.get? b=some o)->ItemsOf (λ i v=>∃ t,v=.int (a + i * c) t) acc n->Q acc.toList { s with heap:=g,toks:=tk }) :
    wpAny (model prog w) A (collect (.ref r)) Q E s:=by
  unfold collect
  refine wpAny_bind (wpAny_runValue (codeAny_builtin F.entry_proto_collect ?_))
  rw[Around.under_plainId F.plain_proto_collect _]
  show wpAny _ A.in1 (newList [] >>= λ l=>again (.builtin "list.__iadd__" ⟨[l,.ref r],[]⟩)) _ _ s
  refine wpAny_bind (wpAny_newObj_type (wpAny_pure ⟨plainId_quiet F.plain_list_iadd _,codeAny_builtin F.entry_list_iadd ?_⟩))
  rw[Around.under_plainId F.plain_list_iadd _]
  show wpAny _ A.in1 (Builtin.List.listExtendWith (.ref s.heap.objs.size) (.ref r) (.ref s.heap.objs.size)) _ _ _
  have e0:(s.heap.push { cls:=.type "list",data:=.seq ([]:List Value).toArray }).get? s.heap.objs.size=some { cls:=.type "list",data:=.seq #[] 0 }:=Heap.get?_push_size _ rfl
  have fin:∀ g tk (acc:Array Value) c',(∀ b o,b ≠ s.heap.objs.size->(s.heap.push { cls:=.type "list",data:=.seq ([]:List Value).toArray }).get? b=some o->g.get? b=some o)->g.get? s.heap.objs.size=some { cls:=.type "list",dict:=none,data:=.seq acc c',slots:=#[] }->ItemsOf (λ i v=>∃ t,v=.int (a + i * c) t) acc n ->
      wpAny (model prog w) A (load s.heap.objs.size >>= λ o=>match o.data with|Data.seq xs epoch=>pure xs.toList|x=>unsupported "internal:collect") Q E { s with heap:=g,toks:=tk }:=λ g tk acc c' kp eS it=>
    wpAny_bind (wpAny_load eS (wpAny_pure (hQ g tk acc (λ b o q=>kp b o (Nat.ne_of_lt (Heap.lt_size q)) (Heap.get?_push_of_some _ q)) it)))
  refine wpAny_mono (wpAny_extend_range (A:=A) (R:=λ r s'=>r=.ok (.ret (.ref s.heap.objs.size))/\∃ g tk,s'={ s with heap:=g,toks:=tk }/\wpAny (model prog w) A (load s.heap.objs.size >>= λ o=>match o.data with|Data.seq xs epoch=>pure xs.toList|x=>unsupported "internal:collect") Q E s')
    (s:={ s with heap:=s.heap.push { cls:=.type "list",data:=.seq ([]:List Value).toArray } }) hh (Heap.get?_push_of_some _ hr) hsm hn hl s.heap.objs.size (.ref s.heap.objs.size) 0 e0 λ g tk acc c' kp eS it=>⟨rfl,g,tk,rfl,fin g tk acc c' kp eS it⟩) (λ fn s' h=>?_) (λ e s' h=>absurd h.1 (by simp))
  cases fn with
  | done f=>
    obtain⟨e,_,_,_,q⟩:=h
    cases e
    exact q
  | again c'=>exact⟨h.1,codeAny_mono h.2 λ r s'' hr=>by obtain⟨rfl,_,_,_,q⟩:=hr;exact q⟩
theorem Kk(r:Addr)(a b c:Int)(t u v:Tok)(n:Nat)(hsm:Builtin.Range.small a b c=true)(hn:Builtin.Range.rangeSize a b c=n)(hl:n <= 2 ^ 24) :
    Meets (Builtin.«tuple.__new__» ⟨[.type "tuple",.ref r],[]⟩)
      (λ(A:Around) (R:Result->Shared->Prop) (s:Shared)=>A.handled=none/\IsRange s.heap r a b c t u v/\∀ (g:Heap) (tk:Nat) (acc:Array Value),(∀ b o,s.heap.get? b=some o->g.get? b=some o)->ItemsOf (λ i v=>∃ t,v=.int (a + i * c) t) acc n->R (.ok (.ret (.ref g.objs.size))) { s with heap:=g.push { cls:=.type "tuple",data:=.seq acc },toks:=tk }):=
  .of_wp λ prog w A R s h=>by
    obtain⟨hp,gg,d,tk,os⟩:=s
    obtain⟨hh,hr,h⟩:=h
    have hsub:=sub_tuple_self
    have hinit:=init_tuple_lookup
    have hmh:=madeHere_tuple
    have hT:Shared.TypeIs ⟨hp,gg,d,tk,os⟩ (.ref r) "range":=⟨_,hr,rfl⟩
    have hh':A.in1.handled=none:=hh
    wp_walk using wpAny_typeOf hT,wpAny_loadPart' hr,MC hh' hr hsm hn hl
    intro g tk2 acc kp it
    show wpAny _ _ (Builtin.Tuple.tupleExact acc.toList.toArray >>= λ v=>ret v) _ _ _
    unfold Builtin.Tuple.tupleExact
    refine wpAny_bind (wpAny_newObj_type ?_ (by show acc.toList.toArray.size <= sizeLine;rw[sizeLine_eq];have:=it.1;simp only[Array.toArray_toList];omega))
    refine wpAny_pure ⟨_,rfl,?_⟩
    have e:acc.toList.toArray=acc:=by simp
    rw[e]
    exact h g tk2 acc kp it
end
noncomputable def Md:List V->Hp->VK->Prop:=λ xs H Q=>∃ j:Int,xs=[.int j]/\∀ p,H p=none->Q (.ref p) (upd H p (.rng 0 j))
noncomputable def Mb:List V->Hp->VK->Prop:=λ xs H Q=>∃ i j:Int,xs=[.int i,.int j]/\∀ p,H p=none->Q (.ref p) (upd H p (.rng i j))
noncomputable def L9:List V->Hp->VK->Prop:=λ xs H Q=>∃ a lo hi,xs=[.ref a]/\H a=some (.rng lo hi)/\(-(2 ^ 62) <= lo/\lo < 2 ^ 62/\-(2 ^ 62) <= hi/\hi < 2 ^ 62)/\(hi - lo).toNat <= 2 ^ 24/\∀ p,H p=none->Q (.ref p) (upd H p (.lst (Bo lo (hi - lo).toNat)))
noncomputable def JG:List V->Hp->VK->Prop:=λ xs H Q=>∃ a lo hi,xs=[.ref a]/\H a=some (.rng lo hi)/\(-(2 ^ 62) <= lo/\lo < 2 ^ 62/\-(2 ^ 62) <= hi/\hi < 2 ^ 62)/\(hi - lo).toNat <= 2 ^ 24/\∀ p,H p=none->Q (.ref p) (upd H p (.tup (Bo lo (hi - lo).toNat)))
section
variable{X:Cx}
theorem call_rng1:CallR X (.type "range") Md:=by
  intro pins s σ H xs us Q I r h
  obtain⟨j,rfl,q⟩:=h
  obtain⟨u,rfl,t,rfl⟩:=Bp r
  exact call_range_1 ⟨.ref s.heap.objs.size,_,I.laid (a:=s.heap.objs.size) (o:=.rng 0 j) (λ b o e=>Heap.get?_push_of_some _ e) (Nat.le_refl _) ⟨_,_,_,Heap.get?_push_size _ rfl⟩,rfl,q _ (I.hok.fresh (Nat.le_refl _))⟩
theorem Jx:CallR X (.type "range") Mb:=by
  intro pins s σ H xs us Q I r h
  obtain⟨i,j,rfl,q⟩:=h
  obtain⟨u,v,rfl,⟨t,rfl⟩,⟨t',rfl⟩⟩:=IC r
  exact call_range_2 ⟨.ref s.heap.objs.size,_,I.laid (a:=s.heap.objs.size) (o:=.rng i j) (λ b o e=>Heap.get?_push_of_some _ e) (Nat.le_refl _) ⟨_,_,_,Heap.get?_push_size _ rfl⟩,rfl,q _ (I.hok.fresh (Nat.le_refl _))⟩
theorem Rs{lo hi:Int}:Builtin.Range.rangeSize lo hi 1=((hi - lo).toNat:Nat):=by rw[rangeSize_one];split <;> omega
theorem Il{lo:Int}{n:Nat}{acc:Array Value}(it:ItemsOf (λ i v=>∃ t,v=.int (lo + i * 1) t) acc n):Vals (Bo lo n) acc.toList:=IJ (by simpa using it.1) λ j v q=>it.2 j v (by simpa using q)
theorem Ny(hc:X.calm=true):CallR X (.type "list") L9:=by
  intro pins s σ H xs us Q I r h
  obtain⟨a,lo,hi,rfl,ha,⟨b1,b2,b3,b4⟩,hz,q⟩:=h
  obtain⟨u,rfl,ru⟩:=Bp r
  cases ru
  obtain⟨t,u,v,hr⟩:∃ t u v,s.heap.get? a=some { cls:=.type "range",data:=.fields #[.int lo t,.int hi u,.int 1 v] }:=I.hok a _ ha
  refine call_list_range (I.ok.hd hc) hr (small_one b1 b2 b3 b4) Rs hz λ g tk acc c' kp e it=>?_
  exact⟨.ref s.heap.objs.size,_,I.laid (t':=tk) (o:=.lst _) kp (Nat.le_refl _) ⟨by rw[IK,sizeLine_eq];omega,acc.toList,c',Il it,by simpa using e⟩,rfl,q _ (I.hok.fresh (Nat.le_refl _))⟩
theorem ML(hc:X.calm=true):CallR X (.type "tuple") JG:=by
  intro pins s σ H xs us Q I r h
  obtain⟨a,lo,hi,rfl,ha,⟨b1,b2,b3,b4⟩,hz,q⟩:=h
  obtain⟨u,rfl,ru⟩:=Bp r
  cases ru
  obtain⟨t,u,v,hr⟩:∃ t u v,s.heap.get? a=some { cls:=.type "range",data:=.fields #[.int lo t,.int hi u,.int 1 v] }:=I.hok a _ ha
  refine callType_new F.called_tuple (by decide) (F.typeCall_tuple_1 _) (F.newCall_tuple_1 _) (λ obj=>F.args_object_init_2 obj _) F.entry_tuple_new (Kk a lo hi 1 t u v _ (small_one b1 b2 b3 b4) Rs hz)
    ⟨I.ok.hd hc,hr,λ g tk acc kp it=>⟨⟨_,Heap.get?_push_size _ rfl,rfl⟩,?_⟩⟩
  have I1:Inv X pins σ H { s with heap:=g,toks:=tk }:=I.kept kp
  exact⟨.ref g.objs.size,_,I1.laid (t':=tk) (o:=.tup (Bo lo (hi - lo).toNat)) (λ b o e=>Heap.get?_push_of_some _ e) (Nat.le_refl _) ⟨by rw[IK,sizeLine_eq];omega,acc.toList,Il it,⟨_,Heap.get?_push_size _ rfl,rfl,0,by simp⟩⟩,rfl,q _ (I1.hok.fresh (Nat.le_refl _))⟩
end
section
variable{K:PySem.W.Frag}
open Classical in
noncomputable def Ho(m:MA):MA:=λ ls hd=>(m ls hd).bind λ p=>match p.1 with
  | [.im (.int j)]=>if HG j then some (B7 0 j.toNat,p.2)else none
  | [.im (.int i),.im (.int j)]=>if Rt i j then some (B7 i (j - i).toNat,p.2)else none
  | _=>none
noncomputable def IN:List V->Hp->VK->Prop:=λ xs H Q=>Md xs H Q ∨ Mb xs H Q
theorem QM{t:TA}{m:MA}(h:RA K t m):RN K (tCB L9 (Bi (tCB IN t) Cb)) (Ho m):=by
  intro ρ σ H hd ls Q d hd' hR hL hm hQ
  obtain⟨⟨d1,h1⟩,e1,hm⟩:=Option.bind_eq_some_iff.mp hm
  dsimp only at hm
  refine h ρ σ H hd ls _ d1 h1 hR hL e1 λ ρ1 H1 v x1 R1 r1=>?_
  split at hm
  . next j=>
    split at hm
    . next c=>
      have c:j < 2 ^ 24/\-(2 ^ 62) <= j:=c
      cases hm
      simp only[RDs,RD,RI]at r1
      obtain⟨x,r,rfl,rfl,rfl⟩:=r1
      refine .inl ⟨j,rfl,λ p hp=>⟨p,0,j,rfl,AQ,⟨by decide,by decide,c.2,by omega⟩,by omega,λ l hl=>?_⟩⟩
      obtain⟨R2,x2⟩:=R1.hid (ho:=.rng 0 j) hp
      obtain⟨R3,x3⟩:=R2.hid (ho:=.lst (Bo 0 (j - 0).toNat)) hl
      refine hQ ρ1 _ l (Bo 0 (j - 0).toNat) ((x1.trans R1 x2).trans R2 x3) R3 ((x1.trans R1 x2).none hR hl R2) (R2.out hl) AQ ?_
      rw[Int.sub_zero];exact GA 0 _
    . cases hm
  . next i j=>
    split at hm
    . next c=>
      cases hm
      simp only[RDs,RD,RI]at r1
      obtain⟨x,r,rfl,rfl,y,r2,rfl,rfl,rfl⟩:=r1
      refine .inr ⟨i,j,rfl,λ p hp=>⟨p,i,j,rfl,AQ,⟨c.1.1,c.1.2,c.2.1.1,c.2.1.2⟩,c.2.2,λ l hl=>?_⟩⟩
      obtain⟨R2,x2⟩:=R1.hid (ho:=.rng i j) hp
      obtain⟨R3,x3⟩:=R2.hid (ho:=.lst (Bo i (j - i).toNat)) hl
      exact hQ ρ1 _ l (Bo i (j - i).toNat) ((x1.trans R1 x2).trans R2 x3) R3 ((x1.trans R1 x2).none hR hl R2) (R2.out hl) AQ (GA i _)
    . cases hm
  . cases hm
noncomputable def IZ(m:MA):ME:=λ ls hd=>(Ho m ls hd).bind λ p=>some (B4 p.1,p.2)
theorem Ss{t:TA}{m:MA}(h:RA K t m):RE K (tCB JG (Bi (tCB IN t) Cb)) (IZ m):=by
  intro ρ σ H hd ls Q d hd' hR hL hm hQ
  obtain⟨⟨dd,h0⟩,e0,hm⟩:=Option.bind_eq_some_iff.mp hm
  cases hm
  obtain⟨⟨d1,h1⟩,e1,hm⟩:=Option.bind_eq_some_iff.mp e0
  dsimp only at hm
  refine h ρ σ H hd ls _ d1 h1 hR hL e1 λ ρ1 H1 v x1 R1 r1=>?_
  split at hm
  . next j=>
    split at hm
    . next c=>
      have c:j < 2 ^ 24/\-(2 ^ 62) <= j:=c
      cases hm
      simp only[RDs,RD,RI]at r1
      obtain⟨x,r,rfl,rfl,rfl⟩:=r1
      refine .inl ⟨j,rfl,λ p hp=>⟨p,0,j,rfl,AQ,⟨by decide,by decide,c.2,by omega⟩,by omega,λ l hl=>?_⟩⟩
      obtain⟨R2,x2⟩:=R1.hid (ho:=.rng 0 j) hp
      obtain⟨R3,x3⟩:=R2.hid (ho:=.tup (Bo 0 (j - 0).toNat)) hl
      refine hQ ρ1 _ _ ((x1.trans R1 x2).trans R2 x3) R3 (Cy (SqT.of AQ) ?_)
      rw[Int.sub_zero];exact GA 0 _
    . cases hm
  . next i j=>
    split at hm
    . next c=>
      cases hm
      simp only[RDs,RD,RI]at r1
      obtain⟨x,r,rfl,rfl,y,r2,rfl,rfl,rfl⟩:=r1
      refine .inr ⟨i,j,rfl,λ p hp=>⟨p,i,j,rfl,AQ,⟨c.1.1,c.1.2,c.2.1.1,c.2.1.2⟩,c.2.2,λ l hl=>?_⟩⟩
      obtain⟨R2,x2⟩:=R1.hid (ho:=.rng i j) hp
      obtain⟨R3,x3⟩:=R2.hid (ho:=.tup (Bo i (j - i).toNat)) hl
      exact hQ ρ1 _ _ ((x1.trans R1 x2).trans R2 x3) R3 (Cy (SqT.of AQ) (GA i _))
    . cases hm
  . cases hm
theorem JN:∀ {xs ys:List Int},xs.Perm ys->xs.Pairwise (· <= ·)->ys.Pairwise (· <= ·)->xs=ys:=λ {xs ys} p a b=>
  p.eq_of_pairwise (le:=(· <= ·)) (λ _ _ _ _ h1 h2=>Int.le_antisymm h1 h2) a b
noncomputable def Bq(xs:List Int):List Int:=xs.mergeSort (λ a b=>decide (a <= b))
theorem G8(xs:List Int):(Bq xs).Perm xs:=List.mergeSort_perm ..
theorem GY(xs:List Int):(Bq xs).Pairwise (· <= ·):=by
  have:=List.pairwise_mergeSort (le:=λ a b:Int=>decide (a <= b)) (by intro a b c h1 h2;simp at *;omega) (by intro a b;simp;omega) xs
  exact this.imp (by simp)
noncomputable def DL(m:MI):MA:=λ ls hd=>(m ls hd).bind λ p=>(BR p.1.1).bind λ ns=>if ns.length < 64 then some ((Bq ns).map λ i=>.im (.int i),p.2)else none
theorem NM{t:TE}{m:MI}(h:RRw K false t m):RN K (tCB (JH K) (Bi t Cb)) (DL m):=by
  intro ρ σ H hd ls Q d hd' hR hL hm hQ
  obtain⟨⟨⟨d1,g1⟩,h1⟩,e1,hm⟩:=Option.bind_eq_some_iff.mp hm
  obtain⟨ns,e2,hm⟩:=Option.bind_eq_some_iff.mp hm
  split at hm
  . next c=>
    cases hm
    refine h ρ σ H hd ls _ d1 g1 _ hR hL e1 λ ρ1 H1 a x1 R1 G1 S1=>?_
    obtain⟨xs,q,r⟩:=S1 ρ1 H1 _ .refl R1 G1
    have e3:d1=ns.map λ i=>.im (.int i):=FD e2
    rw[e3]at r
    have:=Fa r
    subst this
    refine⟨a,ns,rfl,q,c,λ p ns' hp pm pw=>?_⟩
    have:ns'=Bq ns:=JN (pm.trans (G8 ns).symm) pw (GY ns)
    subst this
    obtain⟨R2,x2⟩:=R1.hid (ho:=.lst ((Bq ns).map V.int)) hp
    exact hQ ρ1 _ p _ (x1.trans R1 x2) R2 (x1.none hR hp R1) (R1.out hp) AQ Fp
  . cases hm
end
section
variable(K:PySem.W.Frag){X:Cx}{a b e:Expr}{ta tb te:TE}{me:ME}{m:MA}{t:TA}{p p2 pos pos2:Pos}{es:List Expr}
theorem Qi(hm:X.mg "list"=none)(hm2:X.mg "range"=none)(ha:QA K X (a :: es) t m)(hc:X.calm=true:=by rfl)(hg:Gl X "list":=by rfl)(hg2:Gl X "range":=by rfl)(he2:starEach (a :: es) X.env=(false,eval a X.env) :: starEach es X.env:=by rfl)(hpl:(backTo pos2 (starEach es X.env)).any (·.1)=false:=by rfl)
    (he:starEach [.Call (.Name "range" p2) (a :: es) [] pos2] X.env=[(false,eval (.Call (.Name "range" p2) (a :: es) [] pos2) X.env)]:=by rfl) :
    QN K X (.Call (.Name "list" p) [.Call (.Name "range" p2) (a :: es) [] pos2] [] pos) (tCB L9 (Bi (tCB IN t) Cb)) (Ho m):=
  ⟨DD (Ny hc) hg hm N3 (CO (DD (call_rng1.or Jx) hg2 hm2 boot_range ha.p (by decide) (by decide) he2 hpl) DW he) (by decide) (by decide) he rfl,QM ha.r⟩
theorem Mh(hm:X.mg "tuple"=none)(hm2:X.mg "range"=none)(ha:QA K X (a :: es) t m)(hc:X.calm=true:=by rfl)(hg:Gl X "tuple":=by rfl)(hg2:Gl X "range":=by rfl)(he2:starEach (a :: es) X.env=(false,eval a X.env) :: starEach es X.env:=by rfl)(hpl:(backTo pos2 (starEach es X.env)).any (·.1)=false:=by rfl)
    (he:starEach [.Call (.Name "range" p2) (a :: es) [] pos2] X.env=[(false,eval (.Call (.Name "range" p2) (a :: es) [] pos2) X.env)]:=by rfl) :
    QE K X (.Call (.Name "tuple" p) [.Call (.Name "range" p2) (a :: es) [] pos2] [] pos) (tCB JG (Bi (tCB IN t) Cb)) (IZ m):=
  ⟨DD (ML hc) hg hm bt_tuple (CO (DD (call_rng1.or Jx) hg2 hm2 boot_range ha.p (by decide) (by decide) he2 hpl) DW he) (by decide) (by decide) he rfl,Ss ha.r⟩
theorem IR{mi:MI}(hm:X.mg "sorted"=none)(ha:QR K false X e te mi)(hg:Gl X "sorted":=by rfl)(he:starEach [e] X.env=[(false,eval e X.env)]:=by rfl)(hK:X.K=K:=by rfl):QN K X (.Call (.Name "sorted" p) [e] [] pos) (tCB (JH K) (Bi te Cb)) (DL mi):=
  ⟨Hl (Lz K hK) hg hm PY (CO ha.p DW he) (by decide) (by decide) he rfl,NM ha.r⟩
end
end L2
namespace L2
structure BltA(mg:PySem.Str->Option PySem.Value):Prop where
  list:mg "list"=none
  tuple:mg "tuple"=none
  len:mg "len"=none
  range:mg "range"=none
  repr:mg "repr"=none
  sum:mg "sum"=none
  min:mg "min"=none
  max:mg "max"=none
  abs:mg "abs"=none
  all:mg "all"=none
  any:mg "any"=none
  sorted:mg "sorted"=none
  zip:mg "zip"=none
  isinstance:mg "isinstance"=none
  int:mg "int"=none
  bool:mg "bool"=none
  str:mg "str"=none
  set:mg "set"=none
  enumerate:mg "enumerate"=none
  reversed:mg "reversed"=none
  dict:mg "dict"=none
end L2
namespace L2
open PySem PySem.Spec PyProof.Rows
section
variable{ls:Ls}{hd:Hd}{a b c:MS}{ma mb mc:ME}{ta tb:MT}{m m1 m2:MA}{n:MG}{ns:MGs}{d e:D}
@[simp] theorem EW:AA a b ls hd=(a ls hd).bind λ p=>match p.1 with
  | .nx ls1=>b ls1 p.2
  | f=>some (f,p.2):=rfl
@[simp] theorem Mw:Aj ls hd=some (.nx ls,hd):=rfl
@[simp] theorem Tx:Br ma ls hd=(ma ls hd).bind λ p=>some (.nx ls,p.2):=rfl
@[simp] theorem Iv:AT ma ls hd=(ma ls hd).bind λ p=>some (.rt p.1,p.2):=rfl
@[simp] theorem Xj:Ws ls hd=some (.rt (.im .non),hd):=rfl
@[simp] theorem XW:Vo ls hd=some (.bk ls,hd):=rfl
@[simp] theorem Xs:Wy ls hd=some (.ct ls,hd):=rfl
@[simp] theorem Iy:Az ta a b ls hd=(ta ls hd).bind λ p=>if p.1=true then a ls p.2 else b ls p.2:=rfl
@[simp] theorem FE:Hq ma n ls hd=(ma ls hd).bind λ p=>(n p.1 ls p.2).map λ ls'=>(.nx ls',p.2):=rfl
@[simp] theorem Ej(i:Nat):AF i d ls hd=some (ls.set i (some d)):=rfl
@[simp] theorem Xl(k:Nat):C0 k ns d ls hd=(Av d).bind λ ds=>if ds.length=k then ns ds ls hd else none:=rfl
@[simp] theorem XS(d:D)(ds:List D):Aa n ns (d :: ds) ls hd=(n d ls hd).bind λ ls1=>ns ds ls1 hd:=rfl
@[simp] theorem Xn:C1 [] ls hd=some ls:=rfl
@[simp] theorem W0(ix:List Nat):NZ ix m ls hd=(m ls hd).bind λ p=>if p.1.length=ix.length then some (.nx ((ix.zip p.1).foldl (λ l q=>l.set q.1 (some q.2)) ls),p.2)else none:=rfl
@[simp] theorem Xk(i j k:Nat):Wt i j k m ls hd=NZ [k,j,i] (λ ls hd=>(m ls hd).map λ p=>(p.1.reverse,p.2)) ls hd:=rfl
@[simp] theorem CS(i:Nat):A0 i ls hd=match ls[i]? with
  | some (some d)=>some (d,hd)
  | _=>none:=rfl
@[simp] theorem W7(i:I):mC i ls hd=some (.im i,hd):=rfl
@[simp] theorem Iw(f:D->D->Hd->Option (D × Hd)):mOp f ma mb ls hd=(ma ls hd).bind λ p=>(mb ls p.2).bind λ q=>f p.1 q.1 q.2:=rfl
@[simp] theorem Lo:GH ta tb ls hd=(ta ls hd).bind λ p=>if p.1=true then tb ls p.2 else some (false,p.2):=rfl
@[simp] theorem YL:mOr ta tb ls hd=(ta ls hd).bind λ p=>if p.1=true then some (true,p.2)else tb ls p.2:=rfl
@[simp] theorem Y4:LV ta ls hd=(ta ls hd).bind λ p=>some (!p.1,p.2):=rfl
@[simp] theorem Iu:FC ma ls hd=(ma ls hd).bind λ p=>(Dh p.2 p.1).map (·,p.2):=rfl
@[simp] theorem Fv:AR ma ls hd=(ma ls hd).bind λ p=>match p.1 with
  | .im (.bl b)=>some (b,p.2)
  | _=>none:=rfl
@[simp] theorem YM:mIf ta ma mb ls hd=(ta ls hd).bind λ p=>if p.1=true then ma ls p.2 else mb ls p.2:=rfl
@[simp] theorem Xt:Ii ma mb ls hd=(AR ma ls hd).bind λ p=>if p.1=true then mb ls p.2 else some (.im (.bl false),p.2):=rfl
@[simp] theorem Y3:XM ma mb ls hd=(AR ma ls hd).bind λ p=>if p.1=true then some (.im (.bl true),p.2)else mb ls p.2:=rfl
@[simp] theorem Xm:Wu ma ls hd=(AR ma ls hd).bind λ p=>some (.im (.bl (!p.1)),p.2):=rfl
@[simp] theorem Gm:A6 ls hd=some ([],hd):=rfl
@[simp] theorem JW:A2 ma m ls hd=(ma ls hd).bind λ p=>(m ls p.2).bind λ q=>some (p.1 :: q.1,q.2):=rfl
open Classical in
@[simp] theorem Xz:DS m ls hd=(m ls hd).bind λ p=>if Bs p.1.length then some (B4 p.1,p.2)else none:=rfl
open Classical in
@[simp] theorem P6:BM m ls hd=(m ls hd).bind λ p=>if Bs p.1.length then some (p.1,p.2)else none:=rfl
@[simp] theorem Lk:B3 m ls hd=(m ls hd).bind λ p=>some (.mu p.2.length,p.2 ++ [.lst p.1]):=rfl
@[simp] theorem W2:LX ma ls hd=(ma ls hd).bind λ p=>match p.1 with
  | .im (.int i)=>some (.im (.int (-i)),p.2)
  | _=>none:=rfl
@[simp] theorem Y5(neg:Bool):GG neg ma ls hd=(ma ls hd).bind λ p=>some (.im (.bl (match p.1 with
  | .im .non=>!neg
  | _=>neg)),p.2):=rfl
@[simp] theorem YN(g:Int->Int->Option I)(i j:Int):fI g (.im (.int i)) (.im (.int j)) hd=(g i j).map (.im ·,hd):=rfl
@[simp] theorem HU(f g:D->D->Hd->Option (D × Hd)):HQ f g d e hd=match f d e hd with
  | some z=>some z
  | none=>g d e hd:=rfl
@[simp] theorem Ln(neg:Bool)(i j:Int):FX neg (.im (.int i)) (.im (.int j)) hd=some (.im (.bl (if neg then !decide (i=j)else decide (i=j))),hd):=by simp[FX,scI,Kt]
@[simp] theorem W6(neg:Bool)(i j:Str):FX neg (.im (.str i)) (.im (.str j)) hd=some (.im (.bl (if neg then !decide (i=j)else decide (i=j))),hd):=by simp[FX,scI,Kt]
@[simp] theorem SJ(i:Int):gIx d (.im (.int i)) hd=(Aw hd d).bind λ ds=>(atI ds i).map (·,hd):=rfl
@[simp] theorem U0:FN d e hd=(CT hd d).bind λ kvs=>(Ce e).bind λ k=>(BV kvs k).map (·,hd):=rfl
@[simp] theorem X3(f:List D->Hd->Option (D × Hd)):mCB f m ls hd=(m ls hd).bind λ p=>f p.1 p.2:=rfl
@[simp] theorem SK(tp:Bool)(g:List D->Option D):f1 tp g [d] hd=((if tp then Aw hd d else B1 hd d)).bind λ ds=>(g ds).map (·,hd):=rfl
@[simp] theorem Ll(g:List D->Option D):CP g m ls hd=(m ls hd).bind λ p=>(g p.1).map (·,p.2):=rfl
@[simp] theorem Nn(f:D->List D->Hd->Option (D × Hd)):mMt f ma m ls hd=(ma ls hd).bind λ p=>match B1 p.2 p.1 with
  | some _=>(m ls p.2).bind λ q=>f p.1 q.1 q.2
  | none=>none:=rfl
@[simp] theorem Xp(i j:Int):Dd [.im (.int i),.im (.int j)] hd=some (.im (.int (if j > i then j else i)),hd):=rfl
@[simp] theorem Xo(i j:Int):Ir [.im (.int i),.im (.int j)] hd=some (.im (.int (if j < i then j else i)),hd):=rfl
@[simp] theorem Y6(i:Int):XQ [.im (.int i)] hd=some (.im (.int (if i < 0 then -i else i)),hd):=rfl
@[simp] theorem W3:LY m ma ls hd=(m ls hd).bind λ p=>(ma ls p.2).bind λ q=>match q.1 with
  | .im (.int i)=>(atI p.1 i).map (·,q.2)
  | _=>none:=rfl
@[simp] theorem Ix:BD ma ls hd=(ma ls hd).bind λ p=>(Av p.1).map λ ds=>((ds,[]),p.2):=rfl
@[simp] theorem W5:Vm m ls hd=(m ls hd).map λ p=>((p.1,[]),p.2):=rfl
@[simp] theorem P7:Dk ma ls hd=(ma ls hd).bind λ p=>match p.1 with
  | .mu n=>match p.2[n]? with
    | some (.lst ds)=>some ((ds,[(n,ds)]),p.2)
    | _=>none
  | .ro ns=>some ((ns.map λ n=>.im (.int n),[]),p.2)
  | _=>none:=rfl
open Classical in
@[simp] theorem W4:FT m ls hd=(m ls hd).bind λ p=>match p.1 with
  | [.im (.int j)]=>if Ga j then some ((B7 0 j.toNat,[]),p.2)else none
  | _=>none:=rfl
open Classical in
@[simp] theorem Tw:SE m ls hd=(m ls hd).bind λ p=>match p.1 with
  | [.im (.int i),.im (.int j)]=>if QL i j then some ((B7 i (j - i).toNat,[]),p.2)else none
  | _=>none:=rfl
@[simp] theorem Lm(mi:MI):CQ mi n a ls hd=(mi ls hd).bind λ p=>BW n a p.1.2 p.1.1 ls p.2:=rfl
open Classical in
@[simp] theorem Mx(k:Nat)(ix:List Nat)(mi:MI):BK k ix mi n ta ma ls hd=(mi ls hd).bind λ p=>if Bs p.1.1.length then BG n ta ma p.1.2 p.1.1 (C5 k ix ls) p.2 else none:=rfl
@[simp] theorem Xy:C6 ls hd=some (true,hd):=rfl
@[simp] theorem XV(F:List D->Hd->Option (D × Hd)):ET F m ls hd=(m ls hd).bind λ p=>F p.1 p.2:=rfl
@[simp] theorem XE:HK ls hd=some (none,hd):=rfl
@[simp] theorem Tu:GF ma ls hd=(ma ls hd).bind λ p=>match p.1 with
  | .im (.int i)=>some (some i,p.2)
  | _=>none:=rfl
@[simp] theorem Xq:Wv ma ls hd=(ma ls hd).bind λ p=>(Aw p.2 p.1).map (·,p.2):=rfl
@[simp] theorem XT:Ie m ls hd=m ls hd:=rfl
@[simp] theorem Vy(ml mh:MO1):JS ma ml mh ls hd=(ma ls hd).bind λ p=>(ml ls p.2).bind λ l=>(mh ls l.2).bind λ h=>(B1 h.2 p.1).bind λ ds=>some (FF ds l.1 h.1,h.2):=rfl
@[simp] theorem Y0(ml mh:MO1):XL ma ml mh ls hd=(ma ls hd).bind λ p=>(ml ls p.2).bind λ l=>(mh ls l.2).bind λ h=>(Av p.1).bind λ ds=>if ¬ (HT.sIx ds.length 0 l.1=0/\HT.sIx ds.length ds.length h.1=ds.length)then some (B4 (FF ds l.1 h.1),h.2)else none:=rfl
@[simp] theorem Xi:IZ m ls hd=(Ho m ls hd).bind λ p=>some (B4 p.1,p.2):=rfl
open Classical in
@[simp] theorem Vz:Ho m ls hd=(m ls hd).bind λ p=>match p.1 with
  | [.im (.int j)]=>if HG j then some (B7 0 j.toNat,p.2)else none
  | [.im (.int i),.im (.int j)]=>if Rt i j then some (B7 i (j - i).toNat,p.2)else none
  | _=>none:=rfl
@[simp] theorem P5(mi:MI):DL mi ls hd=(mi ls hd).bind λ p=>(BR p.1.1).bind λ ns=>if ns.length < 64 then some ((Bq ns).map λ i=>.im (.int i),p.2)else none:=rfl
@[simp] theorem Xr(ms:List (ME × ME)):Ww ms ls hd=(Fi ms ls hd).bind λ p=>if p.1.length <= 15 then some (.mu p.2.length,p.2 ++ [.dic (Oo [] p.1)])else none:=rfl
@[simp] theorem XD:Fi [] ls hd=some ([],hd):=rfl
@[simp] theorem XR(r:List (ME × ME)):Fi ((ma,mb) :: r) ls hd=(ma ls hd).bind λ p=>(mb ls p.2).bind λ q=>(Fi r ls q.2).bind λ z=>(Ce p.1).map λ k=>((k,q.1) :: z.1,z.2):=rfl
open Classical in
@[simp] theorem Tz:Ig ma mb mc ls hd=(mc ls hd).bind λ p=>(ma ls p.2).bind λ q=>(mb ls q.2).bind λ r=>(Ce r.1).bind λ k=>match q.1 with
  | .mu n=>match r.2[n]? with
    | some (.dic kvs)=>if Cr kvs.length then some (.nx ls,r.2.set n (.dic (E1 kvs k p.1)))else none
    | _=>none
  | _=>none:=rfl
@[simp] theorem Tv:E4 ma mb mc ls hd=(mc ls hd).bind λ p=>(ma ls p.2).bind λ q=>(mb ls q.2).bind λ r=>match q.1,r.1 with
  | .mu n,.im (.int i)=>match r.2[n]? with
    | some (.lst ds)=>(ixN ds.length i).map λ j=>(.nx ls,r.2.set n (.lst (ds.set j p.1)))
    | _=>none
  | _,_=>none:=rfl
@[simp] theorem Kj(is:List I):Av (.im (.tup is))=some (is.map .im):=rfl
@[simp] theorem YB(ds:List D):Av (.tm ds)=some ds:=rfl
@[simp] theorem YD(k:Nat):Av (.mu k)=none:=rfl
@[simp] theorem YC(k:List Int):Av (.ro k)=none:=rfl
@[simp] theorem DU(is:List I):Aw hd (.im (.tup is))=some (is.map .im):=rfl
@[simp] theorem YG(ds:List D):Aw hd (.tm ds)=some ds:=rfl
@[simp] theorem WV(k:Nat):Aw hd (.mu k)=B1 hd (.mu k):=rfl
@[simp] theorem YH(k:List Int):Aw hd (.ro k)=some (k.map λ n=>.im (.int n)):=rfl
@[simp] theorem Nb(k:Nat):B1 hd (.mu k)=match hd[k]? with
    | some (.lst ds)=>some ds
    | _=>none:=rfl
@[simp] theorem YI(k:List Int):B1 hd (.ro k)=some (k.map λ n=>.im (.int n)):=rfl
@[simp] theorem YO(k:Nat):CT hd (.mu k)=match hd[k]? with
    | some (.dic ds)=>some ds
    | _=>none:=rfl
@[simp] theorem YK(i:Int):Ce (.im (.int i))=some (.inl i):=rfl
@[simp] theorem YJ(i:Str):Ce (.im (.str i))=some (.inr i):=rfl
@[simp] theorem YA:Bl []=some []:=rfl
@[simp] theorem YR(i:I)(r:List D):Bl (.im i :: r)=(Bl r).map (i :: ·):=rfl
@[simp] theorem Xw:BR []=some []:=rfl
@[simp] theorem Xx(i:Int)(r:List D):BR (.im (.int i) :: r)=(BR r).map (i :: ·):=rfl
@[simp] theorem Y9:Cf []=some []:=rfl
@[simp] theorem YQ(i:Bool)(r:List D):Cf (.im (.bl i) :: r)=(Cf r).map (i :: ·):=rfl
@[simp] theorem Dj(is:List I):B4 (is.map .im)=.im (.tup is):=by simp[B4]
@[simp] theorem XC:B4 []=.im (.tup []):=rfl
@[simp] theorem Xh(i:I):B4 [.im i]=.im (.tup [i]):=rfl
@[simp] theorem JR(i j:I):B4 [.im i,.im j]=.im (.tup [i,j]):=rfl
@[simp] theorem Xg(i j k:I):B4 [.im i,.im j,.im k]=.im (.tup [i,j,k]):=rfl
@[simp] theorem Xf(i j k l:I):B4 [.im i,.im j,.im k,.im l]=.im (.tup [i,j,k,l]):=rfl
@[simp] theorem Y8(w:Nat)(i:I):clD w (.im i)=true:=by simp[clD]
@[simp] theorem Y7(w n:Nat):clD w (.mu n)=decide (n < w):=by simp[clD]
@[simp] theorem XZ(w:Nat):BN w []=true:=by simp[BN]
@[simp] theorem PP(w:Nat)(d:D)(ds:List D):BN w (d :: ds)=(clD w d && BN w ds):=by simp[BN]
@[simp] theorem Ea{α:Type}(x:α)(r:List α):atI (x :: r) 0=some x:=DO (j:=0) rfl
@[simp] theorem Gw{α:Type}(x y:α)(r:List α):atI (x :: y :: r) 1=some y:=DO (j:=1) rfl
@[simp] theorem Hz{α:Type}(x y z:α)(r:List α):atI (x :: y :: z :: r) 2=some z:=DO (j:=2) rfl
theorem Gv{α:Type}{xs:List α}{i:Int}{k:Nat}{x:α}(hi:i=k)(h:xs[k]? = some x):atI xs i=some x:=by subst hi;exact DO h
@[simp] theorem Fs:Bs 0:=Ah (by decide)
@[simp] theorem Gj:Bs 1:=Ah (by decide)
@[simp] theorem Iq:Bs 2:=Ah (by decide)
@[simp] theorem Lj:Bs 3:=Ah (by decide)
@[simp] theorem Li:Bs 4:=Ah (by decide)
@[simp] theorem Lh:Bs 5:=Ah (by decide)
open Classical in
@[simp] theorem P8(k:Nat)(x:D):BA (.mu k) [x] hd=match hd[k]? with
    | some (.lst ds)=>if Cr ds.length then some (.im .non,hd.set k (.lst (ds ++ [x])))else none
    | _=>none:=rfl
theorem EY{F:List D->Hd->Option (D × Hd)}{ds:List D}{hd1 h2:Hd}{i:I}(h1:m ls hd=some (ds,hd1))(hc:BN 0 ds=true)(hF:F ds []=some (.im i,h2)):AC 0 F m ls hd=some (.im i,hd1):=by
  simp[AC,h1,hc,hF,fin]
theorem M2{w:Nat}{F:List D->Hd->Option (D × Hd)}{ds:List D}{pre pre' rest g:Hd}{i:I}(hw:pre.length=w)(hw':pre'.length=w)(h1:m ls hd=some (ds,pre ++ rest))(hc:BN w ds=true)(hp:pre.all (clO w)=true)(hp':pre'.all (clO w)=true)(hF:F ds pre=some (.im i,pre' ++ g)):AC w F m ls hd=some (.im i,pre' ++ rest):=by
  subst hw
  have e1:(pre ++ rest).take pre.length=pre:=by simp
  have e2:(pre' ++ g).take pre.length=pre':=by rw[<- hw'];simp
  simp only[AC,h1,Option.bind_some,e1,hc,hp,hF,fin,e2,hp']
  simp
end
theorem GI{n:MG}{b:MS}{g:Gd}{ls:Ls}{hd:Hd}:BW n b g [] ls hd=some (.nx ls,hd):=by unfold BW;rfl
theorem EU{n:MG}{b:MS}{g:Gd}{d:D}{r:List D}{ls ls1 ls2:Ls}{hd hd2:Hd}(h1:n d ls hd=some ls1)(h2:b ls1 hd=some (.nx ls2,hd2))(h3:GOk hd2 g):BW n b g (d :: r) ls hd=BW n b g r ls2 hd2:=by
  conv=>lhs;unfold BW
  simp[h1,h2,h3]
theorem RO{n:MG}{b:MS}{g:Gd}{d v:D}{r:List D}{ls ls1:Ls}{hd hd2:Hd}(h1:n d ls hd=some ls1)(h2:b ls1 hd=some (.rt v,hd2)):BW n b g (d :: r) ls hd=some (.rt v,hd2):=by
  conv=>lhs;unfold BW
  simp[h1,h2]
end L2
namespace L2
open PySem PySem.Spec PyProof.Rows
section
variable{prog:Program}{w:World}{A:Around}{R:Result->Shared->Prop}{s:Shared}{elt tg iter tg2 iter2:Expr}{ifs ifs2:List Expr}{scope:Scope}{pos:Pos}{it acc:Value}{env:Env}
end
end L2
namespace L2
open PySem PySem.Spec PyProof.Rows
section
variable{X:Cx}
end
end L2
namespace L2
open PySem PySem.Spec PyProof.Rows
open Classical in
noncomputable def mIn(k:Nat)(n:MG)(c:MT)(m:ME)(g:Gd):List D->Ls->Hd->Option (Ls × Hd)
  | [],ls,hd=>some (ls,hd)
  | d :: r,ls,hd=>(n d ls hd).bind λ ls1=>(c ls1 hd).bind λ p=>if p.1=true then(m ls1 p.2).bind λ q=>(BA (.mu k) [q.1] q.2).bind λ z=>if GOk z.2 g then mIn k n c m g r ls1 z.2 else none else if GOk p.2 g then mIn k n c m g r ls1 p.2 else none
open Classical in
noncomputable def Na(k:Nat)(n:MG)(c:MT)(mi:MI)(n2:MG)(c2:MT)(m:ME)(g:Gd):List D->Ls->Hd->Option Hd
  | [],ls,hd=>some hd
  | d :: r,ls,hd=>(n d ls hd).bind λ ls1=>(c ls1 hd).bind λ p=>if p.1=true then(mi ls1 p.2).bind λ q=>(mIn k n2 c2 m q.1.2 q.1.1 ls1 q.2).bind λ z=>if GOk z.2 g then Na k n c mi n2 c2 m g r z.1 z.2 else none else if GOk p.2 g then Na k n c mi n2 c2 m g r ls1 p.2 else none
noncomputable def Vn(j:Nat)(ix:List Nat)(mi:MI)(n:MG)(c:MT)(mi2:MI)(n2:MG)(c2:MT)(m:ME):ME:=λ ls hd=>(mi ls hd).bind λ p=>(Na p.2.length n c mi2 n2 c2 m p.1.2 p.1.1 (C5 j ix ls) (p.2 ++ [.lst []])).map λ h=>(.mu p.2.length,h)
section
variable{K:PySem.W.Frag}{ρ:List Addr}{H:Hp}{hd:Hd}
theorem Tt{h:Hd}{g:Gd}(G:GOk h g)(r:Hd):GOk (h ++ r) g:=λ p hp=>by
  have:=G p hp
  have hl:p.1 < h.length:=(List.getElem?_eq_some_iff.mp this).1
  rw[List.getElem?_append_left hl];exact this
end
end L2
namespace L2
open PySem PySem.Spec PyProof.Rows
open Classical in
noncomputable def LZ(ma mb:ME):MA:=λ ls hd=>(ma ls hd).bind λ p=>(mb ls p.2).bind λ q=>match p.1,q.1 with
  | .mu i,.mu j=>match q.2[i]?,q.2[j]? with
    | some (.lst xs),some (.lst ys)=>if Bs (xs.length + ys.length)then some (xs ++ ys,q.2)else none
    | _,_=>none
  | _,_=>none
theorem UY{K:PySem.W.Frag}{ta tb:TE}{ma mb:ME}(ha:RE K ta ma)(hb:RE K tb mb):RN K (tOp Qg ta tb) (LZ ma mb):=by
  intro ρ σ H hd ls Q d hd' hR hL hm hQ
  obtain⟨⟨d1,h1⟩,e1,hm⟩:=Option.bind_eq_some_iff.mp hm
  obtain⟨⟨d2,h2⟩,e2,hm⟩:=Option.bind_eq_some_iff.mp hm
  dsimp only at hm
  split at hm
  . next i j=>
    split at hm
    . next xs ys q1 q2=>
      split at hm
      . next c=>
        cases hm
        refine ha ρ σ H hd ls _ _ h1 hR hL e1 λ ρ1 H1 v x1 R1 r1=>?_
        refine hb ρ1 σ H1 h1 ls _ _ _ R1 (hL.ext hR x1) e2 λ ρ2 H2 u x2 R2 r2=>?_
        have r1':=r1.ext R1 x2
        simp only[RD]at r1' r2
        obtain⟨a,ka,rfl⟩:=r1'
        obtain⟨b,kb,rfl⟩:=r2
        obtain⟨vs,f1,f2⟩:=R2.lst ka q1
        obtain⟨us,f3,f4⟩:=R2.lst kb q2
        refine⟨a,b,vs,us,rfl,rfl,f1,f3,by rw[f2.len,f4.len];exact c,λ p hp=>?_⟩
        obtain⟨R3,x3⟩:=R2.hid (ho:=.lst (vs ++ us)) hp
        have x12:=x1.trans R1 x2
        exact hQ ρ2 _ p _ (x12.trans R2 x3) R3 (x12.none hR hp R2) (R2.out hp) AQ ((f2.app f4).ext R2 x3)
      . cases hm
    . cases hm
  . cases hm
theorem V0(K:PySem.W.Frag){X:Cx}{a b:Expr}{pos:Pos}{ta tb:TE}{ma mb:ME}(ha:QE K X a ta ma)(hb:QE K X b tb mb):QN K X (.BinOp a .Add b pos) (tOp Qg ta tb) (LZ ma mb):=⟨NV Vh ha.p hb.p,UY ha.r hb.r⟩
@[simp] theorem XU(j:Nat)(ix:List Nat)(mi mi2:MI)(n n2:MG)(c c2:MT)(m:ME)(ls:Ls)(hd:Hd):Vn j ix mi n c mi2 n2 c2 m ls hd=(mi ls hd).bind λ p=>(Na p.2.length n c mi2 n2 c2 m p.1.2 p.1.1 (C5 j ix ls) (p.2 ++ [.lst []])).map λ h=>(.mu p.2.length,h):=rfl
end L2
namespace L2
open PySem PySem.Spec PyProof.Rows PySem.W
section
variable(r:Nat->Int)(n:Nat)
noncomputable def kv(p:Array Nat)(i:Nat):Int:=r (p.getD i 0)
end
section
variable{r:Nat->Int}{n:Nat}
end
end L2
namespace L2
open PySem PySem.Spec PyProof.Rows PySem.W
noncomputable def VF(p:Int × Int):Int:=p.1 * 4000000000 + p.2
noncomputable def pok(p:Int × Int):Prop:=-1000000000 <= p.1/\p.1 <= 1000000000/\-1000000000 <= p.2/\p.2 <= 1000000000
section
variable{prog:Program}{w:World}{A:Around}{E:Value->Shared->Prop}{s:Shared}
end
end L2
namespace L2
open PySem PySem.Spec PyProof.Rows PySem.W
section
variable{prog:Program}{w:World}{A:Around}{E:Value->Shared->Prop}{s:Shared}
end
section
variable(K:PySem.W.Frag){X:Cx}
end
noncomputable def E2(p:Int × Int):D:=.im (.tup [.int p.1,.int p.2])
noncomputable def LJ:List D->Option (List (Int × Int))
  | []=>some []
  | .im (.tup [.int a,.int b]) :: r=>(LJ r).map ((a,b) :: ·)
  | _=>none
noncomputable def Rr(ps:List (Int × Int)):List (Int × Int):=ps.mergeSort λ a b=>decide (VF a <= VF b)
open Classical in
noncomputable def RK(m:MI):MA:=λ ls hd=>(m ls hd).bind λ p=>(LJ p.1.1).bind λ ps=>if ps.length < 64/\∀ q ∈ ps,pok q then some ((Rr ps).map E2,p.2)else none
section
variable{K:PySem.W.Frag}{ρ:List Addr}{H:Hp}{hd:Hd}
open Classical in
noncomputable def Gk:D->List D->Hd->Option (D × Hd)
  | .mu n,[.im (.int i)],hd=>match hd[n]? with
    | some (.lst ds)=>if Ga i then(ixN ds.length i).bind λ k=>(ds[k]?).map λ y=>(y,hd.set n (.lst (ds.eraseIdx k)))else none
    | _=>none
  | _,_,_=>none
theorem RDs.erase:∀ {ds:List D} {xs:List V} (k:Nat),RDs K ρ H ds xs->RDs K ρ H (ds.eraseIdx k) (xs.eraseIdx k)
  | [],_,_,h=>by simp only[RDs]at h;subst h;simp[RDs]
  | d :: ds,_,0,h=>by simp only[RDs]at h;obtain⟨x,r,rfl,_,t⟩:=h;simpa using t
  | d :: ds,_,k + 1,h=>by
    simp only[RDs]at h
    obtain⟨x,r,rfl,a,t⟩:=h
    simpa using RDs.cons a (RDs.erase k t)
end
end L2
namespace L2
open PySem PySem.Spec PyProof.Rows PySem.W
theorem QQ{K:PySem.W.Frag}:RM K OY Gk:=by
  intro ρ H hd d v ds vs Q z hd' hR h1 h2 hf hQ
  unfold Gk at hf
  split at hf
  . split at hf
    . next q=>
      split at hf
      . next c=>
        obtain⟨k,e0,hf⟩:=Option.bind_eq_some_iff.mp hf
        obtain⟨y,e1,e3⟩:=Option.map_eq_some_iff.mp hf
        cases e3
        simp only[RD]at h1
        obtain⟨a,hn,rfl⟩:=h1
        simp only[RDs,RD,RI]at h2
        obtain⟨x,r,rfl,rfl,rfl⟩:=h2
        obtain⟨xs,f1,f2⟩:=hR.lst hn q
        obtain⟨x,x1,x3⟩:=f2.get e1
        obtain⟨R2,x2⟩:=hR.put hn (o:=.lst _) (ho:=.lst (xs.eraseIdx k)) ⟨_,rfl,f2.erase k⟩
        obtain⟨s1,s2,s3,s4⟩:=JU e0
        have sz:=f2.len
        unfold Ga at c
        exact⟨a,xs,_,k,x,rfl,rfl,f1,by omega,by omega,by rw[sz];exact s1,x1,hQ ρ _ _ x2 R2 (x3.ext hR x2)⟩
      . cases hf
    . cases hf
  . cases hf
section
variable(K:PySem.W.Frag){X:Cx}{e:Expr}{te:TE}{p pos:Pos}
end
section
variable{ls:Ls}{hd:Hd}
open Classical in
@[simp] theorem Rf(k:Nat)(i:Int):Gk (.mu k) [.im (.int i)] hd=match hd[k]? with
    | some (.lst ds)=>if Ga i then(ixN ds.length i).bind λ j=>(ds[j]?).map λ y=>(y,hd.set k (.lst (ds.eraseIdx j)))else none
    | _=>none:=rfl
open Classical in
@[simp] theorem X2(mi:MI):RK mi ls hd=(mi ls hd).bind λ p=>(LJ p.1.1).bind λ ps=>if ps.length < 64/\∀ q ∈ ps,pok q then some ((Rr ps).map E2,p.2)else none:=rfl
end
end L2
namespace L2
open PySem PySem.Spec PyProof.Rows PySem.W
noncomputable def FS(m:ME):MI:=λ ls hd=>match BD m ls hd with
  | some z=>some z
  | none=>Dk m ls hd
noncomputable def Mv(K:PySem.W.Frag)(t:TE):TI:=λ σ H R=>Le K t σ H R ∨ Ip K t σ H R
theorem Uc{K:PySem.W.Frag}{t:TE}{m:ME}(h:RE K t m):RIt K (Mv K t) (FS m):=by
  intro ρ σ H hd ls Q d g hd' hR hL hm hQ
  unfold FS at hm
  split at hm
  . next z e=>
    cases hm
    exact .inl (OQ h ρ σ H hd ls Q d g hd' hR hL e hQ)
  . exact .inr (MZ h ρ σ H hd ls Q d g hd' hR hL hm hQ)
theorem V2(K:PySem.W.Frag){X:Cx}{tg e:Expr}{t:TE}{m:ME}(h:QE K X e t m)(hK:X.K=K:=by rfl):QI K X tg e (Mv K t) (FS m):=
  ⟨λ pins s σ H R I q=>q.elim (λ q=>(Mj K h.p hK) pins s σ H R I q) λ q=>(LI K h.p hK) pins s σ H R I q,Uc h.r⟩
section
variable{m:ME}{ls:Ls}{hd hd':Hd}
theorem Tm{is:List I}(e:m ls hd=some (.im (.tup is),hd')):FS m ls hd=some ((is.map .im,[]),hd'):=by unfold FS;simp[e]
end
end L2
namespace L2
open PySem PySem.Spec PyProof.Rows PySem.W
noncomputable def Fg(p:Int × Int):I:=.tup [.int p.1,.int p.2]
end L2
namespace L2
open PySem PySem.Spec PyProof.Rows
section
variable{prog:Program}{w:World}{A:Around}{R:Result->Shared->Prop}{s:Shared}
theorem K5(k v target iter:Expr)(ifs:List Expr)(scope:Scope)(pos:Pos)(it acc:Value)(env:Env) :
    compTurn (.DictComp k v [⟨target,iter,ifs,0⟩] scope pos) 0 it acc env=(do
      standAt iter.pos
      match <- pyNext it with
      | none=>pure (.done .next)
      | some x=>
        letOwnedTupleGo target it x
        assign target env x
        let mut ok:=true
        for c in ifs do
          if ok then ok <- isTrue c env (eval c env)
        if ok then
          (do
            let kv <- eval k env
            let vv <- holding [kv] (eval v env)
            match acc with
            | .ref d=>do
              standAt { k.pos with endLine:=v.pos.endLine,endCol:=v.pos.endCol }
              holding [kv,vv] (dictSet d kv vv)
            | _=>unsupported "internal:dictcomp")
        again (.compLoop (.DictComp k v [⟨target,iter,ifs,0⟩] scope pos) 0 it acc env)):=by rfl
theorem PN{e target iter:Expr}{ifs:List Expr}{it acc:Value}{env:Env}{emit:Sem Unit}(I:Nat->Shared->Prop)
    (hden:(model prog w).den (.compLoop e 0 it acc env)=(compTurn e 0 it acc env).onRaise (λ x=>do noteFrame x env;theTreesLotGoes x))
    (hund:A.under (.compLoop e 0 it acc env)=A)
    (hturn:compTurn e 0 it acc env=(do
      standAt iter.pos
      match <- pyNext it with
      | none=>pure (.done .next)
      | some x=>
        letOwnedTupleGo target it x
        assign target env x
        let mut ok:=true
        for c in ifs do
          if ok then ok <- isTrue c env (eval c env)
        if ok then emit
        again (.compLoop e 0 it acc env)))
    (turn:∀ n s,I n s->wpAny (model prog w) A (pyNext it) (λ r s₁=>match r with
      | none=>R (.ok .next) s₁
      | some v=>wpAny (model prog w) A (letOwnedTupleGo target it v) (λ _ s₁=>wpAny (model prog w) A (assign target env v) (λ _ s₂=>
          wpAny (model prog w) A (forIn ifs true λ c r=>if r=true then do let ok <- isTrue c env (eval c env);pure (ForInStep.yield ok)else pure (ForInStep.yield r)) (λ ok s₃=>
            if ok=true then wpAny (model prog w) A emit (λ _ s₅=>∃ m,m < n/\I m s₅) (λ _ _=>False) s₃
            else ∃ m,m < n/\I m s₃) (λ _ _=>False) s₂) (λ _ _=>False) s₁) (λ _ _=>False) s₁) (λ _ _=>False) s)
    (n:Nat) (h:I n s) :
    codeAny (model prog w) A (.compLoop e 0 it acc env) R s:=by
  refine codeAny_loop rfl I (λ n s hI=>?_) n h
  rw[hden,hund]
  refine wpAny_noted ?_
  rw[hturn]
  refine wpAny_bind (wpAny_standAt (wpAny_bind (wpAny_mono (turn n s hI) (λ r s₁ h₁=>?_) λ _ _ h'=>h'.elim)))
  cases r with
  | none=>exact wpAny_pure h₁
  | some v=>
    refine wpAny_bind (wpAny_mono h₁ (λ _ s₁ h₁=>?_) λ _ _ h'=>h'.elim)
    refine wpAny_bind (wpAny_mono h₁ (λ _ s₂ h₂=>wpAny_bind (wpAny_mono h₂ (λ ok s₃ h₃=>?_) λ _ _ h'=>h'.elim)) λ _ _ h'=>h'.elim)
    cases ok with
    | false=>exact wpAny_pure ⟨rfl,h₃⟩
    | true=>
      exact wpAny_bind (wpAny_mono h₃ (λ x s₄ h₄=>wpAny_pure ⟨rfl,h₄⟩) λ _ _ h'=>h'.elim)
theorem Nw{e:Expr}{g:Comprehension}{gs:List Comprehension}{it acc:Value}{env:Env}(hcl:clausesOf e=g :: gs)(hasy:g.is_async=0)
    (hden:(model prog w).den (.compStart e 0 it acc env)=(compStart e 0 it acc env).onRaise (λ x=>do noteFrame x env;standAt theWindowsPlace))
    (hund:A.under (.compStart e 0 it acc env)=A)
    (h0:codeAny (model prog w) A (.compLoop e 0 it acc env) R s)
    (h:wpAny (model prog w) A (pyIter it) (λ it' s'=>codeAny (model prog w) A (.compLoop e 0 it' acc env) R s')
      (notedBy (model prog w) A env λ x s'=>R (.error x) s') s) :
    codeAny (model prog w) A (.compStart e 0 it acc env) R s:=by
  refine codeAny_of_tree ?_
  rw[hden,hund]
  refine wpAny_notedAt ?_
  have e1:((clausesOf e)[0]?).elim false (·.is_async != 0)=false:=by rw[hcl];simp[hasy]
  have e2:(clausesOf e)[0]? = some g:=by rw[hcl];rfl
  unfold compStart
  rw[e1,e2]
  show wpAny _ _ (ask >>= _) _ _ s
  refine wpAny_bind (wpAny_askSetting (wpAny_ite ?_))
  split
  . first
      | exact wpAny_bind (wpAny_pure (wpAny_pure (And.intro rfl h0)))
      | exact wpAny_pure (And.intro rfl h0)
  . first
      | exact wpAny_bind (wpAny_rule (wpAny_bind (wpAny_standAt (wpAny_bind (wpAny_mono h (λ it' s' h'=>wpAny_pure (And.intro rfl h')) λ _ _ x=>x)))))
      | (refine wpAny_bind (wpAny_rule ?_);show wpAny _ _ (standAt g.iter.pos >>= _) _ _ s;exact wpAny_bind (wpAny_standAt (wpAny_bind (wpAny_mono h (λ it' s' h'=>wpAny_pure (And.intro rfl h')) λ _ _ x=>x))))
end
noncomputable abbrev TM:=Addr->St->Hp->(Hp->Prop)->Prop
noncomputable def PM(X:Cx)(emit:Value->Env->Sem Unit)(t:TM):Prop:=
  ∀ (D:Addr) (pins:List (Addr × Obj)) (s:Shared) (σ:St) (H:Hp) (Q:Hp->Prop),Inv X pins σ H s->t D σ H Q->wpAny (model X.prog X.w) X.A (emit (.ref D) X.env) (λ _ s'=>∃ H',Inv X pins σ H' s'/\Q H') X.xe s
noncomputable def WH(J:It)(D:Addr)(o:HO)(σ0:St)(H0:Hp)(g:TG)(tf:TT)(tm:TM)(Q:VK):Prop:=∃ W:Nat->Nat->St->Hp->Prop,
  (∃ m,W 0 m σ0 (upd H0 D o))/\∀ i m σ H,W i m σ H ->
    ((J.stop i H/\Q (.ref D) H) ∨ (J.go i H/\∃ N:St->Hp->Prop,(∀ σ' H',N σ' H'->∃ m',m' < m/\W (i + 1) m' σ' H') /\
      ∀ x H',J.yld i H x H'->g x σ H' λ σ2 H2=>tf σ2 H2 λ b H3=>
        if b=true then tm D σ2 H3 λ H4=>N σ2 H4 else N σ2 H3))
noncomputable def ID(o:HO)(n:Nat)(ix:List Nat)(wi:TI)(g:TG)(tf:TT)(tm:TM):TE:=λ σ H Q=>wi σ H λ J H1=>∀ D,H1 D=none->WH J D o (GO n ix σ) H1 g tf tm Q
section
variable{X:Cx}
theorem Qw{e tg iter:Expr}{ifs:List Expr}{scope:Scope}{pos:Pos}{loc fr:List Str}{ix:List Nat}{wi:TI}{g:TG}{tf:TT}{tm:TM}{emit:Value->Env->Sem Unit}{newAcc:Sem Value}{ho:HO}
    (hc:X.calm=true) (S:CSc X scope fr ix) (hi:PI X tg iter wi)
    (hg:∀ s H ex,PG (cCx X (loc ++ fr) scope s H ex) tg g) (hf:∀ s H ex,PF (cCx X (loc ++ fr) scope s H ex) ifs tf) (he:∀ s H ex,PM (cCx X (loc ++ fr) scope s H ex) emit tm)
    (hev:eval e X.env=comprehension e scope X.env pos newAcc false (eval iter X.env))
    (hcl:clausesOf e=[⟨tg,iter,ifs,0⟩])
    (hturn:∀ it acc env,compTurn e 0 it acc env=(do
      standAt iter.pos
      match <- pyNext it with
      | none=>pure (.done .next)
      | some x=>
        letOwnedTupleGo tg it x
        assign tg env x
        let mut ok:=true
        for c in ifs do
          if ok then ok <- isTrue c env (eval c env)
        if ok then emit acc env
        again (.compLoop e 0 it acc env)))
    (hd1:∀ it acc env,(model X.prog X.w).den (.compLoop e 0 it acc env)=(compTurn e 0 it acc env).onRaise (λ x=>do noteFrame x env;theTreesLotGoes x))
    (hd2:∀ it acc env,(model X.prog X.w).den (.compStart e 0 it acc env)=(compStart e 0 it acc env).onRaise (λ x=>do noteFrame x env;standAt theWindowsPlace))
    (hu1:∀ it acc env,X.A.under (.compLoop e 0 it acc env)=X.A) (hu2:∀ it acc env,X.A.under (.compStart e 0 it acc env)=X.A)
    (hnew:∀ (pins:List (Addr × Obj)) (s:Shared) (σ:St) (H:Hp) (Q:Value->Shared->Prop),Inv X pins σ H s->(∀ ob,Inv X pins σ (upd H s.heap.objs.size ho) { s with heap:=s.heap.push ob }->Q (.ref s.heap.objs.size) { s with heap:=s.heap.push ob })->wpAny (model X.prog X.w) X.A newAcc Q X.xe s)
    (hs:∀ x,foldedSetIterable iter X.env x=pure x:=by intro _;rfl):PE X e (ID ho loc.length ix wi g tf tm):=by
  intro pins s σ H Q I h
  rw[hev]
  have hnames:∀ y ∈ scope.names,y.2=.local->scope.names.lookup y.1=some .local:=λ y hy e=>by
    have:=List.all_eq_true.mp S.loc y hy
    rw[e]at this
    simpa using this
  refine wpAny_comprehension_free (use:=none) hcl hs (De (S.clos I.ok)) S.kind hnames (thn (hi pins s σ H _ I h) λ v s1 h1=>thn h1 λ itv s2 h2=>?_)
  obtain⟨it,fp,tn,J,H2,rfl,I2,T,st2,f2,hW⟩:=h2
  refine hnew pins s2 σ H2 _ I2 λ ob I3=>?_
  have fresh2:H2 s2.heap.objs.size=none:=I2.hok.fresh (Nat.le_refl _)
  obtain⟨W,⟨m0,w0⟩,turn⟩:=hW s2.heap.objs.size fresh2
  have lt2:∀ b ∈ fp,b < s2.heap.objs.size:=λ b hb=>let ⟨o,e,_⟩:=T.obj 0 _ st2 b hb;Heap.lt_size e
  have f3:∀ b ∈ fp,FpOk X pins (upd H2 s2.heap.objs.size ho) b:=λ b hb=>⟨by rw[AE (Nat.ne_of_lt (lt2 b hb))];exact(f2 b hb).1,(f2 b hb).2⟩
  have lt3:∀ b ∈ fp,b < (s2.heap.push ob).objs.size:=λ b hb=>by rw[Heap.size_push];exact Nat.lt_succ_of_lt (lt2 b hb)
  generalize hs3:({ s2 with heap:=s2.heap.push ob }:Shared)=s3 at *
  have lt3:∀ b ∈ fp,b < s3.heap.objs.size:=by rw[<- hs3];exact lt3
  have st3:tn 0 s3.heap:=T.keep _ _ _ st2 λ b hb o e=>by rw[<- hs3];exact Heap.get?_push_of_some _ e
  refine JQ λ h' hk hn ho' ha=>?_
  have I4:=Hs (loc:=loc) S I3 f3 hk hn ho' ha lt3
  have fpX:∀ {H':Hp},(∀ b ∈ fp,H' b=none)->∀ b ∈ fp,FpOk (cCx X (loc ++ fr) scope s3 (upd H2 s2.heap.objs.size ho) fp) [] H' b:=λ hn b hb=>
    ⟨hn b hb,(I4.ok.exf b hb).1,I4.ok.exfs b hb,.inl hb,(I4.ok.exf b hb).2,λ p hp=>by cases hp⟩
  have loop:codeAny (model X.prog X.w) X.A (.compLoop e 0 (.ref it) (.ref s2.heap.objs.size) (O0 scope s3.heap.objs.size X.env))
      (compPost (model X.prog X.w) X.A X.xe none (EP X pins σ Q) (.ref s2.heap.objs.size) s3.heap.objs.size) { s3 with heap:=h' }:=by
    refine PN (λ n s'=>∃ i σ' H',Inv (cCx X (loc ++ fr) scope s3 (upd H2 s2.heap.objs.size ho) fp) [] σ' H' s'/\tn i s'.heap/\(∀ b ∈ fp,H' b=none)/\W i n σ' H') (hd1 _ _ _) (hu1 _ _ _) (hturn _ _ _) ?_ m0
      ⟨0,_,_,I4,T.keep _ _ _ st3 λ b hb o e=>hk b o e,λ b hb=>(f3 b hb).1,w0⟩
    rintro n s5 ⟨i,σ5,H5,I5,st5,fr5,w5⟩
    have w5:=turn i n σ5 H5 w5
    rcases w5 with⟨stop,qn⟩|⟨go,N,hN,step⟩
    . refine thn (T.done (cCx X (loc ++ fr) scope s3 (upd H2 s2.heap.objs.size ho) fp) rfl rfl rfl hc i [] s5 σ5 H5 _ I5 (fpX fr5) st5 stop) λ r s6 ⟨hr,I6⟩=>?_
      subst hr
      obtain⟨m,hm,_⟩:=I6.loc
      refine⟨m,hm,λ h'' hs=>?_⟩
      have neC:∀ b o,s3.heap.get? b=some o->b ≠ s3.heap.objs.size:=λ b o e=>Nat.ne_of_lt (Heap.lt_size e)
      have un:=I6.base
      refine⟨.ref s2.heap.objs.size,H5,I3.call' (s':={ s6 with heap:=h'' }) (ch:=fp) I6.os ⟨λ b o e n hb hx=>?_,λ b o e n hb hx=>?_,un.free,λ b o e hx=>?_,un.tups,un.frzs,un.tbls⟩ ?_ I6.bare ?_,rfl,qn⟩
      . exact(hs.2 b (neC b o e)).trans (un.keep b o e n hb hx)
      . obtain⟨sl,q⟩:=un.slot b o e n hb hx
        exact⟨sl,(hs.2 b (neC b o e)).trans q⟩
      . obtain⟨o',q⟩:=un.there b o e hx
        exact⟨o',(hs.2 b (neC b o e)).trans q⟩
      . intro b ob e
        have hfree:H5 s3.heap.objs.size=none:=I6.free
        refine(I6.hok b ob e).stay (λ c w' hc q=>(hs.2 c ?_).trans q) (λ _ q=>q) λ _ _ q=>q
        intro z
        rcases hc with hc|hc
        . rw[<- hc,z,hfree]at e;cases e
        . rw[z,hfree]at hc;cases hc
      . intro b hb
        obtain⟨_,a2,_,a4,a5,a6⟩:=f3 b hb
        exact⟨a4,a2,a5,a6⟩
    . refine thn (T.item (cCx X (loc ++ fr) scope s3 (upd H2 s2.heap.objs.size ho) fp) rfl rfl rfl hc i [] s5 σ5 H5 _ I5 (fpX fr5) st5 go) λ r s6 ⟨u,hr,h6⟩=>?_
      subst hr
      refine thn h6 λ _ s7 ⟨x,H7,I7,r7,y7,st7,fr7⟩=>?_
      have I7':=I7.pinned (fpX fr7) (T.obj _ _ st7)
      have keepI:∀ {σ8:St} {H8:Hp} {s8:Shared},Inv (cCx X (loc ++ fr) scope s3 (upd H2 s2.heap.objs.size ho) fp) ([] ++ Ex fp s7.heap) σ8 H8 s8->tn (i + 1) s8.heap/\∀ b ∈ fp,H8 b=none:=λ {σ8 H8 s8} I8=>by
        refine⟨T.keep _ _ _ st7 λ b hb o e=>(I8.pin (b,o) (List.mem_append_right _ (List.mem_append_right _ (CI hb e)))).1,λ b hb=>?_⟩
        obtain⟨o,e,d⟩:=T.obj _ _ st7 b hb
        exact(I8.pin (b,o) (List.mem_append_right _ (List.mem_append_right _ (CI hb e)))).2.1
      refine thn (hg s3 (upd H2 s2.heap.objs.size ho) fp _ s7 σ5 H7 x u _ I7' r7 (step x H7 y7)) λ _ s8 ⟨σ8,H8,I8,q8⟩=>?_
      refine thn (hf s3 (upd H2 s2.heap.objs.size ho) fp _ s8 σ8 H8 _ I8 q8) λ b s9 ⟨H9,I9,q9⟩=>?_
      cases b with
      | false=>
        rw[if_neg Bool.false_ne_true]at q9 ⊢
        obtain⟨m',hm,w9⟩:=hN _ _ q9
        exact⟨m',hm,i + 1,σ8,H9,I9.unpinned,(keepI I9).1,(keepI I9).2,w9⟩
      | true=>
        rw[if_pos rfl]at q9 ⊢
        refine thn (he s3 (upd H2 s2.heap.objs.size ho) fp _ _ s9 σ8 H9 _ I9 q9) λ e10 s10 ⟨H10,I10,n10⟩=>?_
        obtain⟨m',hm,w10⟩:=hN _ _ n10
        exact⟨m',hm,i + 1,σ8,_,I10.unpinned,(keepI I10).1,(keepI I10).2,w10⟩
  exact Nw hcl rfl (hd2 _ _ _) (hu2 _ _ _) loop (T.self X.A 0 _ _ _ (T.keep _ _ _ st3 λ b hb o e=>hk b o e) loop)
noncomputable def KL(tk tv:TE):TM:=λ D σ H Q=>tk σ H λ y H1=>tv σ H1 λ v H2=>∃ kvs k,H2 D=some (.dK kvs)/\y=kV k/\kvs.length < sizeLine/\Q (upd H2 D (.dK (DC kvs k v)))
theorem PL{pins:List (Addr × Obj)}{σ:St}{H:Hp}{s:Shared}{a:Addr}{v:V}{u r:Value}{A:Around}{E:Value->Shared->Prop}{kvs:List (Key × V)}{k:Key}{Q:Unit->Shared->Prop}(I:Inv X pins σ H s)(e:H a=some (.dK kvs))(l:kvs.length < sizeLine)(ry:RelV (kV k) u)(rv:RelV v r)(h:∀ s',Inv X pins σ (upd H a (.dK (DC kvs k v))) s'->Q () s') :
    wpAny (model X.prog X.w) A (dictSet a u r) Q E s:=by
  obtain⟨z,hd,vs,rel,dd⟩:=SL I.hok e
  have hz:vs.length <= sizeLine:=by rw[<- rel.length];exact z
  have hl:(DC kvs k v).length <= sizeLine:=by have:=FV kvs k v;omega
  refine wpAny_dictSet_pairs (hsz:=hz) (Ik ry) dd λ h' dd' hs=>h _ ?_
  have he:∃ q,h'.get? a=some q:=let ⟨q,_,_,hq,_⟩:=dd';⟨q,hq⟩
  exact JX I (by rw[e];exact True.intro) hs he (PD hl hd (rel.put k rv) dd')
noncomputable def Nr(k v:Expr):Value->Env->Sem Unit:=λ acc env=>do
  let kv <- eval k env
  let vv <- holding [kv] (eval v env)
  match acc with
  | .ref d=>do
    standAt { k.pos with endLine:=v.pos.endLine,endCol:=v.pos.endCol }
    holding [kv,vv] (dictSet d kv vv)
  | _=>unsupported "internal:dictcomp"
theorem TF{k v:Expr}{tk tv:TE}(hk:PE X k tk)(hv:PE X v tv):PM X (Nr k v) (KL tk tv):=by
  intro D pins s σ H Q I h
  unfold Nr
  refine wpAny_bind (thn (hk pins s σ H _ I h) λ u s1 ⟨y,H1,I1,r1,q1⟩=>?_)
  refine wpAny_bind (wpAny_holding (thn (hv pins s1 σ H1 _ I1 q1) λ r s2 ⟨v,H2,I2,r2,kvs,k,e,ey,l,q2⟩=>?_))
  refine wpAny_bind (wpAny_standAt (wpAny_holding ?_))
  subst ey
  exact PL I2 e l r1 r2 λ s' I'=>⟨_,I',q2⟩
theorem Qv{k v tg iter:Expr}{ifs:List Expr}{scope:Scope}{pos:Pos}{loc fr:List Str}{ix:List Nat}{wi:TI}{g:TG}{tf:TT}{tk tv:TE}
    (hc:X.calm=true) (S:CSc X scope fr ix) (hi:PI X tg iter wi)
    (hg:∀ s H ex,PG (cCx X (loc ++ fr) scope s H ex) tg g) (hf:∀ s H ex,PF (cCx X (loc ++ fr) scope s H ex) ifs tf) (hk:∀ s H ex,PE (cCx X (loc ++ fr) scope s H ex) k tk) (hv:∀ s H ex,PE (cCx X (loc ++ fr) scope s H ex) v tv)
    (hs:∀ x,foldedSetIterable iter X.env x=pure x:=by intro _;rfl):PE X (.DictComp k v [⟨tg,iter,ifs,0⟩] scope pos) (ID (.dK []) loc.length ix wi g tf (KL tk tv)):=by
  refine Qw (emit:=Nr k v) (newAcc:=newDict) (pos:=firstIterPos [⟨tg,iter,ifs,0⟩] pos) hc S hi hg hf (λ s H ex=>TF (hk s H ex) (hv s H ex)) rfl rfl (λ it acc env=>K5 ..) (λ _ _ _=>rfl) (λ _ _ _=>rfl) (λ _ _ _=>rfl) (λ _ _ _=>rfl) (λ pins s σ H Q I h=>?_) hs
  simp only[newDict,newObj]
  refine wpAny_bind (wpAny_alloc (wpAny_pure (h _ ?_)))
  exact I.laid (a:=s.heap.objs.size) (o:=.dK []) (t':=s.toks) (λ _ _ q=>Heap.get?_push_of_some _ q) (Nat.le_refl _) (Rg s.heap I.big)
end
end L2
namespace L2
open PySem PySem.Spec PyProof.Rows
section
variable{K:PySem.W.Frag}{ρ ρ':List Addr}{H H':Hp}{hd hd':Hd}
theorem RH.hputO(h:RH K ρ H hd){a:Addr}(out:a ∉ ρ){o ho:HO}(hl:H a=some o)(c:Chg H a)(n1:∀ ps,o ≠ .tbl ps)(n2:∀ φ,o ≠ .ext φ):RH K ρ (upd H a ho) hd:=by
  have gr:Grow H (upd H a ho):=Grow.refl.put c
  refine⟨h.len,h.nd,h.tabs.upd (λ ps z=>n1 ps (Option.some.inj (hl.symm.trans z))) (λ ps z=>n2 ps (Option.some.inj (hl.symm.trans z))),λ m o' b e1 e2=>?_⟩
  obtain⟨ho',q1,q2⟩:=h.ob m o' b e1 e2
  have:b ≠ a:=λ z=>out (by rw[<- z];exact List.mem_of_getElem? e2)
  exact⟨ho',by rw[AE this];exact q1,by simpa using q2.mono gr []⟩
theorem Ext.outk(x:Ext ρ H ρ' H'){a:Addr}{o:HO}(h:H a=some o)(out:a ∉ ρ):a ∉ ρ':=by
  obtain⟨r,rfl,fr⟩:=x.pre
  intro z
  rcases List.mem_append.mp z with z|z
  . exact out z
  . have:=fr _ z
    rw[h]at this;cases this
structure Acc(K:PySem.W.Frag)(α:Type)(o0:HO)(a0:α) where
  rel:List Addr->Hp->α->HO->Prop
  mono:∀ {ρ:List Addr} {H H':Hp} {a:α} {o:HO} (r:List Addr),Grow H H'->rel ρ H a o->rel (ρ ++ r) H' a o
  chg:∀ {ρ:List Addr} {H:Hp} {a:α} {o:HO},rel ρ H a o->(∀ xs,o ≠ .tup xs)/\∀ z u,o ≠ .frz z u
  chg2:∀ {ρ:List Addr} {H:Hp} {a:α} {o:HO},rel ρ H a o->(∀ xs,o ≠ .tbl xs)/\∀ z,o ≠ .ext z
  init:∀ ρ H,rel ρ H a0 o0
noncomputable abbrev MM(α:Type):=Ls->Hd->α->Option (α × Hd)
noncomputable def RM1{α:Type}{o0:HO}{a0:α}(B:Acc K α o0 a0)(t:TM)(m:MM α):Prop:=∀ (ρ:List Addr) (σ:St) (H:Hp) (hd:Hd) (ls:Ls) (a a':α) (hd':Hd) (Da:Addr) (o:HO) (Q:Hp->Prop),RH K ρ H hd->RL K ρ H ls σ->Da ∉ ρ->H Da=some o->B.rel ρ H a o ->
  m ls hd a=some (a',hd')->(∀ ρ' H' o',Ext ρ H ρ' H'->RH K ρ' H' hd'->H' Da=some o->B.rel ρ' H' a' o'->Q (upd H' Da o'))->t Da σ H Q
open Classical in
noncomputable def mGo{α:Type}(n:MG)(c:MT)(me:MM α)(g:Gd):List D->Ls->Hd->α->Option (α × Hd)
  | [],_,hd,a=>some (a,hd)
  | d :: r,ls,hd,a=>(n d ls hd).bind λ ls1=>(c ls1 hd).bind λ p=>if p.1=true then(me ls1 p.2 a).bind λ q=>if GOk q.2 g then mGo n c me g r ls1 q.2 q.1 else none else if GOk p.2 g then mGo n c me g r ls1 p.2 a else none
noncomputable def Ih{α:Type}(k:Nat)(ix:List Nat)(mi:MI)(n:MG)(c:MT)(a0:α)(me:MM α):Ls->Hd->Option (α × Hd):=λ ls hd=>(mi ls hd).bind λ p=>mGo n c me p.1.2 p.1.1 (C5 k ix ls) p.2 a0
noncomputable def RNG{α:Type}{o0:HO}{a0:α}(B:Acc K α o0 a0)(t:TE)(m:Ls->Hd->Option (α × Hd)):Prop:=∀ (ρ:List Addr) (σ:St) (H:Hp) (hd:Hd) (ls:Ls) (Q:VK) (a:α) (hd':Hd),RH K ρ H hd->RL K ρ H ls σ->m ls hd=some (a,hd') ->
  (∀ ρ' H' Da o,Ext ρ H ρ' H'->RH K ρ' H' hd'->H Da=none->Da ∉ ρ'->H' Da=some o->B.rel ρ' H' a o->Q (.ref Da) H')->t σ H Q
theorem QK{α:Type}{o0:HO}{a0:α}{B:Acc K α o0 a0}{k:Nat}{ix:List Nat}{wi:TI}{g:TG}{tf:TT}{tm:TM}{mi:MI}{n:MG}{c:MT}{m:MM α}(hi:RIt K wi mi)(hg:RGt K g n)(hf:RT K tf c)(he:RM1 B tm m):RNG B (ID o0 k ix wi g tf tm) (Ih k ix mi n c a0 m):=by
  intro ρ σ H hd ls Q out hd' hR hL hm hQ
  obtain⟨⟨⟨ds,gd⟩,h1⟩,e1,hm⟩:=Option.bind_eq_some_iff.mp hm
  dsimp only at hm
  refine hi ρ σ H hd ls _ ds gd h1 hR hL e1 λ ρ1 H1 J x1 R1 G1 Y=>?_
  intro Da hDa
  obtain⟨R1',x1'⟩:=R1.hid (ho:=o0) hDa
  have oD:Da ∉ ρ1:=R1.out hDa
  have nD:H Da=none:=x1.none hR hDa R1
  refine⟨λ i mm σ2 H2=>mm=ds.length - i/\i <= ds.length/\∃ ρ2 ls2 hd2 a2 o2,Ext ρ1 H1 ρ2 H2/\Da ∉ ρ2/\H2 Da=some o2/\RH K ρ2 H2 hd2/\RL K ρ2 H2 ls2 σ2/\B.rel ρ2 H2 a2 o2/\GOk hd2 gd/\mGo n c m gd (ds.drop i) ls2 hd2 a2=some (out,hd'),
    ⟨ds.length,by simp,Nat.zero_le _,ρ1,_,h1,a0,o0,x1',oD,AQ,R1',(N2 ((hL.ext hR x1).ext R1 x1')),B.init _ _,G1,by simpa using hm⟩,?_⟩
  rintro i mm σ2 H2 ⟨rfl,hi,ρ2,ls2,hd2,a2,o2,x2,oD2,hD2,R2,L2',r2,G2,hm2⟩
  obtain⟨Y1,Y2⟩:=Y ρ2 H2 hd2 x2 R2 G2 i
  by_cases hlt:i < ds.length
  . obtain⟨go,Y1⟩:=Y1 hlt
    have ed:ds.drop i=ds[i] :: ds.drop (i + 1):=List.drop_eq_getElem_cons hlt
    rw[ed]at hm2
    unfold mGo at hm2
    obtain⟨ls3,e3,hm2⟩:=Option.bind_eq_some_iff.mp hm2
    obtain⟨⟨bb,hd4⟩,e4,hm2⟩:=Option.bind_eq_some_iff.mp hm2
    refine .inr ⟨go,λ σ' H'=>∃ ρ2 ls2 hd2 a2 o2,Ext ρ1 H1 ρ2 H'/\Da ∉ ρ2/\H' Da=some o2/\RH K ρ2 H' hd2/\RL K ρ2 H' ls2 σ'/\B.rel ρ2 H' a2 o2/\GOk hd2 gd/\mGo n c m gd (ds.drop (i + 1)) ls2 hd2 a2=some (out,hd'),λ σ' H' z=>⟨ds.length - (i + 1),by omega,rfl,hlt,z⟩,λ x H3 y=>?_⟩
    obtain⟨ρ3,d3,x3,rfl,R3,e5,r3⟩:=Y1 x H3 y
    have e6:d3=ds[i]:=by
      have:ds[i]? = some ds[i]:=by simp[hlt]
      rw[this]at e5;exact(Option.some.inj e5).symm
    subst e6
    refine hg ρ3 σ2 H3 hd2 ls2 ls3 _ x _ R3 (L2'.ext R2 x3) r3 e3 λ σ4 L4=>?_
    refine hf ρ3 σ4 H3 hd2 ls3 _ bb hd4 R3 L4 e4 λ ρ5 H5 x5 R5=>?_
    have hD3:H3 Da=some o2:=x3.keep Da _ hD2 oD2 (B.chg2 r2).1
    have hD5:H5 Da=some o2:=x5.keep Da _ hD3 oD2 (B.chg2 r2).1
    have out5:Da ∉ ρ5:=x5.outk hD3 oD2
    have y25:=x3.trans R3 x5
    have r5:B.rel ρ5 H5 a2 o2:=by
      obtain⟨r,rfl,fr⟩:=y25.pre
      exact B.mono r (y25.grow R2) r2
    cases bb with
    | false=>
      rw[if_neg Bool.false_ne_true]at hm2 ⊢
      split at hm2
      . next g5=>exact⟨ρ5,ls3,hd4,a2,o2,x2.trans R2 y25,out5,hD5,R5,L4.ext R3 x5,r5,g5,hm2⟩
      . cases hm2
    | true=>
      rw[if_pos rfl]at hm2 ⊢
      obtain⟨⟨z,hd6⟩,e6,hm2⟩:=Option.bind_eq_some_iff.mp hm2
      dsimp only at hm2
      split at hm2
      . next g6=>
        refine he ρ5 σ4 H5 hd4 ls3 a2 z hd6 Da o2 _ R5 (L4.ext R3 x5) out5 hD5 r5 e6 λ ρ6 H6 o6 x6 R6 hD6 r6=>?_
        have out6:Da ∉ ρ6:=x6.outk hD5 out5
        have c6:Chg H6 Da:=⟨λ xs z=>(B.chg r5).1 xs (by rw[hD6]at z;exact Option.some.inj z),λ x u z=>(B.chg r5).2 x u (by rw[hD6]at z;exact Option.some.inj z)⟩
        have gr:Grow H6 (upd H6 Da o6):=Grow.refl.put c6
        have R7:=R6.hputO (ho:=o6) out6 hD6 c6 (B.chg2 r5).1 (B.chg2 r5).2
        have x12:=(x2.trans R2 y25).trans R5 x6
        have ext7:Ext ρ1 H1 ρ6 (upd H6 Da o6):=⟨x12.pre,λ b o q nb t=>by
          have:b ≠ Da:=Ae q hDa
          rw[AE this];exact x12.keep b o q nb t,λ b ps q=>by
          have:b ≠ Da:=Ae q hDa
          rw[AE this];exact x12.tab b ps q⟩
        have L6:=(L4.ext R3 x5).ext R5 x6
        exact⟨ρ6,ls3,hd6,z,o6,ext7,out6,AQ,R7,⟨L6.len,λ i d e=>let ⟨v,a,b⟩:=L6.ob i d e;⟨v,a,by simpa using b.mono gr []⟩⟩,by simpa using B.mono [] gr r6,g6,hm2⟩
      . cases hm2
  . have e:i=ds.length:=by omega
    subst e
    rw[List.drop_length]at hm2
    unfold mGo at hm2
    cases hm2
    exact .inl ⟨Y2 rfl,hQ ρ2 H2 Da o2 (x1.trans R1 x2) R2 nD oD2 hD2 r2⟩
noncomputable def WB(K:PySem.W.Frag):Acc K (List (Key × D)) (.dK []) [] where
  rel:=λ ρ H a o=>∃ xs,o=.dK xs/\RKs K ρ H a xs
  mono:=λ r g ⟨xs,e,q⟩=>⟨xs,e,q.mono g r⟩
  chg:=λ⟨xs,e,q⟩=>⟨λ _ z=>(by subst e;cases z),λ _ _ z=>(by subst e;cases z)⟩
  chg2:=λ⟨xs,e,q⟩=>⟨λ _ z=>(by subst e;cases z),λ _ z=>(by subst e;cases z)⟩
  init:=λ ρ H=>⟨[],rfl,by simp[RKs]⟩
open Classical in
noncomputable def Ic(mk mv:ME):MM (List (Key × D)):=λ ls hd a=>(mk ls hd).bind λ q=>(mv ls q.2).bind λ z=>(Ce q.1).bind λ k=>if Cr a.length then some (E1 a k z.1,z.2)else none
theorem UZ{tk tv:TE}{mk mv:ME}(hk:RE K tk mk)(hv:RE K tv mv):RM1 (WB K) (KL tk tv) (Ic mk mv):=by
  intro ρ σ H hd ls a a' hd' Da o Q hR hL out hD hrel hm hQ
  obtain⟨⟨d1,h1⟩,e1,hm⟩:=Option.bind_eq_some_iff.mp hm
  obtain⟨⟨d2,h2⟩,e2,hm⟩:=Option.bind_eq_some_iff.mp hm
  obtain⟨k,e4,hm⟩:=Option.bind_eq_some_iff.mp hm
  obtain⟨xs,rfl,r⟩:=hrel
  dsimp only at hm
  split at hm
  . next c=>
    cases hm
    refine hk ρ σ H hd ls _ d1 h1 hR hL e1 λ ρ1 H1 v1 x1 R1 r1=>?_
    refine hv ρ1 σ H1 h1 ls _ d2 _ R1 (hL.ext hR x1) e2 λ ρ2 H2 v2 x2 R2 r2=>?_
    have:=HM r1 e4
    subst this
    have hD2:H2 Da=some (.dK xs):=x2.keep Da _ (x1.keep Da _ hD out nt) (x1.outk hD out) nt
    have x12:=x1.trans R1 x2
    have r':RKs K ρ2 H2 a xs:=by
      obtain⟨rr,rfl,fr⟩:=x12.pre
      exact r.mono (x12.grow hR) rr
    exact⟨xs,k,hD2,rfl,by rw[r'.len];exact c,hQ ρ2 H2 _ x12 R2 hD2 ⟨_,rfl,r'.put r2⟩⟩
  . cases hm
noncomputable def KM(m:Ls->Hd->Option (List (Key × D) × Hd)):ME:=λ ls hd=>(m ls hd).bind λ p=>some (.mu p.2.length,p.2 ++ [.dic p.1])
theorem Su{t:TE}{m:Ls->Hd->Option (List (Key × D) × Hd)}(h:RNG (WB K) t m):RE K t (KM m):=by
  intro ρ σ H hd ls Q d hd' hR hL hm hQ
  obtain⟨⟨a,h1⟩,e1,hm⟩:=Option.bind_eq_some_iff.mp hm
  cases hm
  refine h ρ σ H hd ls Q a h1 hR hL e1 λ ρ1 H1 Da o x1 R1 nD oD hD ⟨xs,eo,r⟩=>?_
  subst eo
  have R2:=R1.nameD oD hD (λ _ z=>by cases z) (λ _ _ z=>by cases z) r
  have e0:upd H1 Da (.dK xs)=H1:=by
    funext b
    by_cases hb:b=Da
    . subst hb;rw[AQ,hD]
    . rw[AE hb]
  rw[e0]at R2
  refine hQ (ρ1 ++ [Da]) H1 _ (x1.name nD) R2 ?_
  simp only[RD]
  exact⟨Da,by rw[<- R1.len];simp,rfl⟩
variable(K:PySem.W.Frag){X:Cx}
theorem Ql{k v tg iter:Expr}{ifs:List Expr}{scope:Scope}{pos:Pos}{loc fr:List Str}{ix:List Nat}{wi:TI}{g:TG}{tf:TT}{tk tv:TE}{mi:MI}{n:MG}{mf:MT}{mk mv:ME}(hc:X.calm=true)(S:CSc X scope fr ix)(hi:QI K X tg iter wi mi)
    (hg:∀ s H ex,QG K (cCx X (loc ++ fr) scope s H ex) tg g n) (hf:∀ s H ex,QF K (cCx X (loc ++ fr) scope s H ex) ifs tf mf) (hk:∀ s H ex,QE K (cCx X (loc ++ fr) scope s H ex) k tk mk) (hv:∀ s H ex,QE K (cCx X (loc ++ fr) scope s H ex) v tv mv)
    (hs:∀ x,foldedSetIterable iter X.env x=pure x:=by intro _;rfl):QE K X (.DictComp k v [⟨tg,iter,ifs,0⟩] scope pos) (ID (.dK []) loc.length ix wi g tf (KL tk tv)) (KM (Ih loc.length ix mi n mf [] (Ic mk mv))):=
  ⟨Qv hc S hi.p (λ s H ex=>(hg s H ex).p) (λ s H ex=>(hf s H ex).p) (λ s H ex=>(hk s H ex).p) (λ s H ex=>(hv s H ex).p) hs,
   Su (QK hi.r (hg X.s₀ X.H₀ []).r (hf X.s₀ X.H₀ []).r (UZ (hk X.s₀ X.H₀ []).r (hv X.s₀ X.H₀ []).r))⟩
variable{a b:Expr}{ta tb:TE}{ma mb:ME}{pos:Pos}
theorem IQ(hu:X.A.units + 1 < cLine)(ha:QE K X a ta ma)(hb:QE K X b tb mb)(hmk:behindInMarks .In b=false:=by rfl):QT K X (.Compare a [.In] [b] pos) (tB (Q2 ta tb)) (AR (mOp (Ht false) ma mb)):=⟨Od (VZ hu ha.p hb.p) hmk,UR (Uo hb.r ha.r)⟩
end
end L2
namespace L2
open PySem PySem.Spec PyProof.Rows
noncomputable def WP{α:Type}(o:Option (α × Hd))(Q:α->Hd->Prop):Prop:=∃ z h,o=some (z,h)/\Q z h
noncomputable abbrev WS(m:MS)(ls:Ls)(hd:Hd)(Q:Fl->Hd->Prop):Prop:=WP (m ls hd) Q
noncomputable abbrev WE(m:ME)(ls:Ls)(hd:Hd)(Q:D->Hd->Prop):Prop:=WP (m ls hd) Q
noncomputable abbrev WT(m:MT)(ls:Ls)(hd:Hd)(Q:Bool->Hd->Prop):Prop:=WP (m ls hd) Q
noncomputable abbrev WA(m:MA)(ls:Ls)(hd:Hd)(Q:List D->Hd->Prop):Prop:=WP (m ls hd) Q
noncomputable abbrev WO(m:MO1)(ls:Ls)(hd:Hd)(Q:Option Int->Hd->Prop):Prop:=WP (m ls hd) Q
noncomputable abbrev WI(m:MI)(ls:Ls)(hd:Hd)(Q:List D × Gd->Hd->Prop):Prop:=WP (m ls hd) Q
noncomputable abbrev WF(F:List D->Hd->Option (D × Hd))(ds:List D)(hd:Hd)(Q:D->Hd->Prop):Prop:=WP (F ds hd) Q
section
variable{α β:Type}{o:Option (α × Hd)}{Q:α->Hd->Prop}{R:β->Hd->Prop}{ls:Ls}{hd:Hd}{d e:D}
theorem WP.some{z:α}{h:Hd}(q:Q z h):WP (some (z,h)) Q:=⟨z,h,rfl,q⟩
theorem WP.mono{Q':α->Hd->Prop}(h:WP o Q)(k:∀ z h,Q z h->Q' z h):WP o Q':=let ⟨z,x,e,q⟩:=h;⟨z,x,e,k z x q⟩
theorem WP.bind{f:α × Hd->Option (β × Hd)}(h:WP o λ z x=>WP (f (z,x)) R):WP (o.bind f) R:=by
  obtain⟨z,x,e,q⟩:=h
  rw[e];exact q
theorem WP.eq{z:α}{h:Hd}(e:o=Option.some (z,h))(q:Q z h):WP o Q:=⟨z,h,e,q⟩
end
section
variable{ls:Ls}{hd:Hd}{a b:MS}{ma mb mc:ME}{ta tb:MT}{m m1 m2:MA}{n:MG}{ns:MGs}{mi:MI}{d e:D}{i j:Nat}{QS:Fl->Hd->Prop}{QE:D->Hd->Prop}{QT:Bool->Hd->Prop}{QA:List D->Hd->Prop}{QO:Option Int->Hd->Prop}{QI:List D × Gd->Hd->Prop}
noncomputable def NC(b:MS)(Q:Fl->Hd->Prop):Fl->Hd->Prop
  | .nx l,h=>WS b l h Q
  | f,h=>Q f h
theorem AX(h:WS a ls hd (NC b QS)):WS (AA a b) ls hd QS:=by
  obtain⟨f,x,e,q⟩:=h
  show WP (AA a b ls hd) QS
  rw[EW,e]
  cases f <;> first|exact q|exact⟨_,_,rfl,q⟩
theorem AK{l:Ls}{h:Hd}(q:WS b l h QS):NC b QS (.nx l) h:=q
theorem He{h:Hd}(q:QS (.rt d) h):NC b QS (.rt d) h:=q
theorem Bg(h:QS (.nx ls) hd):WS Aj ls hd QS:=⟨_,_,rfl,h⟩
theorem Be(h:WE ma ls hd λ d x=>QS (.rt d) x):WS (AT ma) ls hd QS:=WP.bind (h.mono λ _ _ q=>WP.some q)
theorem An(h:WE ma ls hd λ d x=>QS (.nx (ls.set i (some d))) x):WS (AL i ma) ls hd QS:=by
  obtain⟨d,x,e,q⟩:=h
  exact⟨_,_,by simp only[FE,e,Option.bind_some,Ej,Option.map_some],q⟩
theorem Eg(h:WE ma ls hd λ _ x=>QS (.nx ls) x):WS (Br ma) ls hd QS:=WP.bind (h.mono λ _ _ q=>WP.some q)
theorem WM(h:WT ta ls hd λ c x=>if c=true then WS a ls x QS else WS b ls x QS):WS (Az ta a b) ls hd QS:=by
  refine WP.bind (h.mono λ c x q=>?_)
  dsimp only
  cases c <;> simpa using q
theorem Ch(h:WT ta ls hd λ c x=>(c=true->WS a ls x QS)/\(c=false->WS b ls x QS)):WS (Az ta a b) ls hd QS:=
  WM (h.mono λ c x q=>by cases c <;> simp_all)
theorem KY{ix:List Nat}(h:WA m ls hd λ ds x=>ds.length=ix.length/\QS (.nx ((ix.zip ds).foldl (λ l q=>l.set q.1 (some q.2)) ls)) x):WS (NZ ix m) ls hd QS:=by
  obtain⟨d,x,e,q,q2⟩:=h
  exact⟨_,_,by simp only[W0,e,Option.bind_some,q,if_true],q2⟩
noncomputable def WL(n:MG)(b:MS)(g:Gd)(ds:List D)(ls:Ls)(hd:Hd)(Q:Fl->Hd->Prop):Prop:=WP (BW n b g ds ls hd) Q
theorem GV(h:WI mi ls hd λ p x=>WL n b p.2 p.1 ls x QS):WS (CQ mi n b) ls hd QS:=WP.bind (h.mono λ _ _ q=>q)
noncomputable def WR(g:Gd)(P:Ls->Hd->Prop)(Q:Fl->Hd->Prop):Fl->Hd->Prop
  | .nx l,h=>GOk h g/\P l h
  | .ct l,h=>GOk h g/\P l h
  | .bk l,h=>Q (.nx l) h
  | .rt d,h=>Q (.rt d) h
theorem EK{g:Gd}(P:List D->Ls->Hd->Prop):∀ {ds:List D} {ls:Ls} {hd:Hd},P ds ls hd ->
    (∀ d r ls hd,P (d :: r) ls hd->∃ ls1,n d ls hd=some ls1/\WS b ls1 hd (WR g (P r) QS))->(∀ ls hd,P [] ls hd->QS (.nx ls) hd)->WL n b g ds ls hd QS
  | [],ls,hd,h,_,z=>⟨_,_,by unfold BW;rfl,z _ _ h⟩
  | d :: r,ls,hd,h,k,z=>by
    obtain⟨ls1,e1,f,x,e2,q⟩:=k d r ls hd h
    unfold WL
    unfold BW
    rw[e1,Option.bind_some,e2,Option.bind_some]
    cases f with
    | nx l=>exact(show GOk x g/\P r l x from q).1 |> λ g1=>by dsimp only;rw[if_pos g1];exact EK P q.2 k z
    | ct l=>exact(show GOk x g/\P r l x from q).1 |> λ g1=>by dsimp only;rw[if_pos g1];exact EK P q.2 k z
    | bk l=>exact⟨_,_,rfl,q⟩
    | rt l=>exact⟨_,_,rfl,q⟩
theorem A5(h:ls[i]? = some (some d))(q:QE d hd):WE (A0 i) ls hd QE:=⟨d,hd,by rw[CS,h],q⟩
theorem B5{i:I}(q:QE (.im i) hd):WE (mC i) ls hd QE:=⟨_,_,rfl,q⟩
theorem AY{f:D->D->Hd->Option (D × Hd)}(h:WE ma ls hd λ d x=>WE mb ls x λ e y=>WP (f d e y) QE):WE (mOp f ma mb) ls hd QE:=WP.bind (h.mono λ _ _ q=>WP.bind (q.mono λ _ _ q=>q))
theorem WN(h:WT ta ls hd λ c x=>if c=true then WE ma ls x QE else WE mb ls x QE):WE (mIf ta ma mb) ls hd QE:=by
  refine WP.bind (h.mono λ c x q=>?_)
  dsimp only
  cases c <;> simpa using q
theorem OB(h:WT ta ls hd λ c x=>(c=true->WE ma ls x QE)/\(c=false->WE mb ls x QE)):WE (mIf ta ma mb) ls hd QE:=
  WN (h.mono λ c x q=>by cases c <;> simp_all)
theorem GX(h:WA m ls hd λ ds x=>Bs ds.length/\QE (B4 ds) x):WE (DS m) ls hd QE:=WP.bind (h.mono λ ds x q=>by dsimp only;rw[if_pos q.1];exact WP.some q.2)
theorem C9(h:WA m ls hd λ ds x=>QE (.mu x.length) (x ++ [.lst ds])):WE (B3 m) ls hd QE:=WP.bind (h.mono λ _ _ q=>WP.some q)
theorem DT{g:List D->Option D}(h:WA m ls hd λ ds x=>∃ d,g ds=some d/\QE d x):WE (CP g m) ls hd QE:=by
  obtain⟨ds,x,e,d,e2,q⟩:=h
  exact⟨d,x,by simp only[Ll,e,Option.bind_some,e2,Option.map_some],q⟩
theorem Ke(h:WA m ls hd λ ds x=>WE ma ls x λ e y=>∃ i d,e=.im (.int i)/\atI ds i=some d/\QE d y):WE (LY m ma) ls hd QE:=by
  obtain⟨ds,x,e,d,y,e2,i,z,rfl,e4,q⟩:=h
  exact⟨z,y,by simp only[W3,e,Option.bind_some,e2,e4,Option.map_some],q⟩
theorem Cq{f:List D->Hd->Option (D × Hd)}(h:WA m ls hd λ ds x=>WP (f ds x) QE):WE (mCB f m) ls hd QE:=WP.bind (h.mono λ _ _ q=>q)
theorem G5{f:D->List D->Hd->Option (D × Hd)}(h:WE ma ls hd λ d x=>(∃ l,B1 x d=some l)/\WA m ls x λ ds y=>WP (f d ds y) QE):WE (mMt f ma m) ls hd QE:=by
  obtain⟨d,x,e,⟨l,hl⟩,q⟩:=h
  unfold WE
  rw[Nn,e,Option.bind_some]
  dsimp only
  rw[hl]
  exact WP.bind (q.mono λ _ _ q=>q)
theorem E7{F:List D->Hd->Option (D × Hd)}(h:WA m ls hd λ ds x=>WF F ds x QE):WE (ET F m) ls hd QE:=WP.bind (h.mono λ _ _ q=>q)
theorem UE(h:WE ma ls hd λ d x=>∃ i,d=.im (.int i)/\QE (.im (.int (-i))) x):WE (LX ma) ls hd QE:=by
  obtain⟨d,x,e,i,rfl,q⟩:=h
  exact⟨_,x,by simp only[W2,e,Option.bind_some],q⟩
theorem SW(h:WT (AR ma) ls hd λ c x=>if c=true then WE mb ls x QE else QE (.im (.bl false)) x):WE (Ii ma mb) ls hd QE:=by
  refine WP.bind (h.mono λ c x q=>?_)
  dsimp only
  cases c
  . exact WP.some (by simpa using q)
  . simpa using q
theorem BF(h:WE ma ls hd λ d x=>∃ b,d=.im (.bl b)/\QT b x):WT (AR ma) ls hd QT:=by
  obtain⟨d,x,e,b,rfl,q⟩:=h
  exact⟨b,x,by simp only[Fv,e,Option.bind_some],q⟩
theorem KQ(h:WE ma ls hd λ d x=>∃ b,Dh x d=some b/\QT b x):WT (FC ma) ls hd QT:=by
  obtain⟨d,x,e,b,e2,q⟩:=h
  exact⟨b,x,by simp only[Iu,e,Option.bind_some,e2,Option.map_some],q⟩
theorem KR(h:WT ta ls hd λ c x=>QT (!c) x):WT (LV ta) ls hd QT:=WP.bind (h.mono λ _ _ q=>WP.some q)
theorem KS(h:WT ta ls hd λ c x=>if c=true then WT tb ls x QT else QT false x):WT (GH ta tb) ls hd QT:=by
  refine WP.bind (h.mono λ c x q=>?_)
  dsimp only
  cases c
  . exact WP.some (by simpa using q)
  . simpa using q
theorem K7(h:WT ta ls hd λ c x=>if c=true then QT true x else WT tb ls x QT):WT (mOr ta tb) ls hd QT:=by
  refine WP.bind (h.mono λ c x q=>?_)
  dsimp only
  cases c
  . simpa using q
  . exact WP.some (by simpa using q)
theorem Du(h:QT true hd):WT C6 ls hd QT:=⟨_,_,rfl,h⟩
theorem AN(h:QA [] hd):WA A6 ls hd QA:=⟨_,_,rfl,h⟩
theorem A9(h:WE ma ls hd λ d x=>WA m ls x λ ds y=>QA (d :: ds) y):WA (A2 ma m) ls hd QA:=WP.bind (h.mono λ _ _ q=>WP.bind (q.mono λ _ _ q=>WP.some q))
theorem EL(h:WA m ls hd λ ds x=>Bs ds.length/\QA ds x):WA (BM m) ls hd QA:=WP.bind (h.mono λ ds x q=>by dsimp only;rw[if_pos q.1];exact WP.some q.2)
theorem SX{k:Int}(e:m ls hd=some ([.im (.int k)],hd))(hk:HG k)(q:QA (B7 0 k.toNat) hd):WA (Ho m) ls hd QA:=⟨_,_,by simp only[Vz,e,Option.bind_some,hk,if_true],q⟩
theorem UF{ml mh:MO1}(h:WE ma ls hd λ d x=>WO ml ls x λ l y=>WO mh ls y λ u z=>∃ ds,B1 z d=some ds/\QA (FF ds l u) z):WA (JS ma ml mh) ls hd QA:=by
  obtain⟨d,x,e,l,y,e2,u,z,e3,ds,e4,q⟩:=h
  exact⟨_,z,by simp only[Vy,e,Option.bind_some,e2,e3,e4],q⟩
theorem MQ(h:WE ma ls hd λ d x=>∃ i,d=.im (.int i)/\QO (some i) x):WO (GF ma) ls hd QO:=by
  obtain⟨d,x,e,i,rfl,q⟩:=h
  exact⟨_,x,by simp only[Tu,e,Option.bind_some],q⟩
theorem JB(h:WA m ls hd λ ds x=>∃ k,ds=[.im (.int k)]/\Ga k/\QI (B7 0 k.toNat,[]) x):WI (FT m) ls hd QI:=by
  obtain⟨ds,x,e,k,rfl,c,q⟩:=h
  exact⟨_,x,by simp only[W4,e,Option.bind_some,c,if_true],q⟩
theorem N9(h:WA m ls hd λ ds x=>∃ j k,ds=[.im (.int j),.im (.int k)]/\QL j k/\QI (B7 j (k - j).toNat,[]) x):WI (SE m) ls hd QI:=by
  obtain⟨ds,x,e,j,k,rfl,c,q⟩:=h
  exact⟨_,x,by simp only[Tw,e,Option.bind_some,c,if_true],q⟩
theorem FR(h:WE ma ls hd λ d x=>∃ ds,Av d=some ds/\QI (ds,[]) x):WI (BD ma) ls hd QI:=by
  obtain⟨d,x,e,ds,e2,q⟩:=h
  exact⟨_,x,by simp only[Ix,e,Option.bind_some,e2,Option.map_some],q⟩
theorem Pk(h:WA m ls hd λ ds x=>QI (ds,[]) x):WI (Vm m) ls hd QI:=by
  obtain⟨ds,x,e,q⟩:=h
  exact⟨_,x,by simp only[W5,e,Option.map_some],q⟩
theorem Kb(h:WE ma ls hd λ d x=>∃ k ds,d=.mu k/\x[k]? = some (.lst ds)/\QI (ds,[(k,ds)]) x):WI (Dk ma) ls hd QI:=by
  obtain⟨d,x,e,k,ds,rfl,e2,q⟩:=h
  exact⟨_,x,by simp only[P7,e,Option.bind_some,e2],q⟩
theorem C7{k:Nat}{ix:List Nat}(h:WI mi ls hd λ p x=>Bs p.1.length/\WP (BG n ta ma p.2 p.1 (C5 k ix ls) x) QA):WA (BK k ix mi n ta ma) ls hd QA:=WP.bind (h.mono λ p x q=>by dsimp only;rw[if_pos q.1];exact q.2)
theorem Dv{i j:Int}(q:QE (.im (.int (i + j))) hd):WP (B2 (.im (.int i)) (.im (.int j)) hd) QE:=⟨_,_,by simp,q⟩
theorem I0{i j:Int}(q:QE (.im (.int (i - j))) hd):WP (EG (.im (.int i)) (.im (.int j)) hd) QE:=⟨_,_,by simp,q⟩
theorem Em{i j:Int}(c:Ec i j)(q:QE (.im (.int (i * j))) hd):WP (C2 (.im (.int i)) (.im (.int j)) hd) QE:=⟨_,_,by simp[c],q⟩
theorem EI{i j:Int}(c:Ee j)(q:QE (.im (.int (i % j))) hd):WP (Dl (.im (.int i)) (.im (.int j)) hd) QE:=⟨_,_,by simp[c],q⟩
theorem JA{i j:Int}(c:KP j)(q:QE (.im (.int (i / j))) hd):WP (HN (.im (.int i)) (.im (.int j)) hd) QE:=⟨_,_,by simp[c],q⟩
theorem K8{i j:Int}(q:QE (.im (.bl (decide (i < j)))) hd):WP (gLt (.im (.int i)) (.im (.int j)) hd) QE:=⟨_,_,by simp,q⟩
theorem K9{i j:Int}(q:QE (.im (.bl (decide (i <= j)))) hd):WP (gLe (.im (.int i)) (.im (.int j)) hd) QE:=⟨_,_,by simp,q⟩
theorem KA{i j:Int}(q:QE (.im (.bl (decide (j < i)))) hd):WP (gGt (.im (.int i)) (.im (.int j)) hd) QE:=⟨_,_,by simp,q⟩
theorem N8{i j:Int}(q:QE (.im (.bl (decide (j <= i)))) hd):WP (gGe (.im (.int i)) (.im (.int j)) hd) QE:=⟨_,_,by simp,q⟩
theorem GW{i j:Int}(q:QE (.im (.bl (decide (i=j)))) hd):WP (gEq (.im (.int i)) (.im (.int j)) hd) QE:=⟨_,_,by simp,q⟩
theorem IA{i j:Int}(q:QE (.im (.bl (!decide (i=j)))) hd):WP (gNe (.im (.int i)) (.im (.int j)) hd) QE:=⟨_,_,by simp,q⟩
theorem EJ{i j:Str}(q:QE (.im (.bl (decide (i=j)))) hd):WP (gEq (.im (.str i)) (.im (.str j)) hd) QE:=⟨_,_,by simp,q⟩
theorem Ka{i j:Str}(q:QE (.im (.bl (!decide (i=j)))) hd):WP (gNe (.im (.str i)) (.im (.str j)) hd) QE:=⟨_,_,by simp,q⟩
theorem Ac{i:Int}{ds:List D}(e1:Aw hd d=some ds)(e2:atI ds i=some e)(q:QE e hd):WP (gIx d (.im (.int i)) hd) QE:=⟨_,_,by rw[SJ,e1,Option.bind_some,e2];rfl,q⟩
theorem SR{k:Key}{kvs:List (Key × D)}{z:D}(e1:CT hd d=some kvs)(e2:Ce e=some k)(e3:BV kvs k=some z)(q:QE z hd):WP (FN d e hd) QE:=⟨_,_,by rw[U0,e1,Option.bind_some,e2,Option.bind_some,e3];rfl,q⟩
theorem UB{k:Key}{neg:Bool}{kvs:List (Key × D)}(e1:CT hd d=some kvs)(e2:Ce e=some k)(q:QE (.im (.bl (if neg then !(BV kvs k).isSome else(BV kvs k).isSome))) hd):WP (Ht neg e d hd) QE:=⟨_,_,by unfold Ht;rw[e1,Option.bind_some,e2];rfl,q⟩
theorem HB{i j:Int}(q:QE (.im (.int (max i j))) hd):WP (Dd [.im (.int i),.im (.int j)] hd) QE:=⟨_,_,rfl,by have:(if j > i then j else i)=max i j:=(by split <;> omega);rw[this];exact q⟩
theorem J9{i j:Int}(q:QE (.im (.int (min i j))) hd):WP (Ir [.im (.int i),.im (.int j)] hd) QE:=⟨_,_,rfl,by have:(if j < i then j else i)=min i j:=(by split <;> omega);rw[this];exact q⟩
theorem Db{tp:Bool}{g:List D->Option D}{ds:List D}{z:D}(e1:(if tp then Aw hd d else B1 hd d)=some ds)(e2:g ds=some z)(q:QE z hd):WP (f1 tp g [d] hd) QE:=⟨_,_,by rw[SK,e1,Option.bind_some,e2];rfl,q⟩
theorem IB{k:Nat}{x:D}{ds:List D}(e1:hd[k]? = some (.lst ds))(c:Cr ds.length)(q:QE (.im .non) (hd.set k (.lst (ds ++ [x])))):WP (BA (.mu k) [x] hd) QE:=⟨_,_,by rw[P8,e1];simp only[c,if_true],q⟩
theorem SQ{k:Key}{w:Nat}(h:WE mc ls hd λ p x=>WE ma ls x λ q y=>WE mb ls y λ r z=>∃ w k kvs,q=.mu w/\Ce r=some k/\z[w]? = some (.dic kvs)/\Cr kvs.length/\QS (.nx ls) (z.set w (.dic (E1 kvs k p)))):WS (Ig ma mb mc) ls hd QS:=by
  obtain⟨p,x,e1,q,y,e2,r,z,e3,w,k,kvs,rfl,e4,e5,c,qq⟩:=h
  exact⟨_,_,by simp only[Tz,e1,Option.bind_some,e2,e3,e4,e5,c,if_true],qq⟩
theorem HA(h:WE mc ls hd λ p x=>WE ma ls x λ q y=>WE mb ls y λ r z=>∃ w i j ds,q=.mu w/\r=.im (.int i)/\z[w]? = some (.lst ds)/\ixN ds.length i=some j/\QS (.nx ls) (z.set w (.lst (ds.set j p)))):WS (E4 ma mb mc) ls hd QS:=by
  obtain⟨p,x,e1,q,y,e2,r,z,e3,w,i,j,ds,rfl,rfl,e5,c,qq⟩:=h
  exact⟨_,_,by simp only[Tv,e1,Option.bind_some,e2,e3,e5,c,Option.map_some],qq⟩
theorem Bh{k n:Nat}{m:MS}{ds:List D}{Q:D->Hd->Prop}(hl:ds.length=k)(h:WS m (ds.map some ++ List.replicate (n - k) none) hd λ f x=>match f with
    | .rt d=>Q d x
    | .nx _=>Q (.im .non) x
    | _=>False):WF (mkF k n m) ds hd Q:=by
  obtain⟨f,x,e,q⟩:=h
  unfold WF mkF
  rw[if_pos hl,e]
  cases f with
  | nx l=>exact⟨_,_,rfl,q⟩
  | rt l=>exact⟨_,_,rfl,q⟩
  | bk l=>exact q.elim
  | ct l=>exact q.elim
theorem Am{F:List D->Hd->Option (D × Hd)}(h:WA m ls hd λ ds x=>BN 0 ds=true/\WF F ds [] λ d _=>∃ i,d=.im i/\QE (.im i) x):WE (AC 0 F m) ls hd QE:=by
  obtain⟨ds,x,e,c,d,y,e2,i,rfl,q⟩:=h
  exact⟨_,_,EY e c e2,q⟩
end
structure Tap(T:Nat->MO->MO->Prop)(P:List D->Hd->Option (D × Hd)):Prop where
  cl:∀ {k:Nat} {a b:MO},T k a b->clO 2 a=true/\clO 2 b=true
  le:∀ {j k:Nat} {a b:MO},T k a b->j <= k->T j a b
  pick:∀ {k:Nat} {a b:MO} {many:Int},T (k + 1) a b->0 < many->many < 1073741824->∃ r a' b',0 <= r/\r < many/\P [.mu 1,.im (.int many)] [a,b]=some (.im (.int r),[a',b'])/\T k a' b'
section
variable{T:Nat->MO->MO->Prop}{P:List D->Hd->Option (D × Hd)}{a b:MO}{rest:Hd}{ls:Ls}{m:MA}{QE:D->Hd->Prop}{n c:Nat}
theorem Tap.draw(t:Tap T P)(hT:T (n + 1) a b){many:Int}{hd:Hd}(e:m ls hd=some ([.mu 1,.im (.int many)],a :: b :: rest))(h0:0 < many)(h1:many < 1073741824)
    (k:∀ r a' b',T n a' b'->0 <= r->r < many->QE (.im (.int r)) (a' :: b' :: rest)):WE (AC 2 P m) ls hd QE:=by
  obtain⟨r,a',b',p1,p2,e2,hT'⟩:=t.pick hT h0 h1
  refine⟨_,_,M2 (w:=2) (ds:=[.mu 1,.im (.int many)]) (pre:=[a,b]) (pre':=[a',b']) (rest:=rest) (g:=[]) rfl rfl e (by simp) ?_ ?_ (by simpa using e2),k r a' b' hT' p1 p2⟩
  . simp[t.cl hT]
  . simp[t.cl hT']
end
end L2
namespace L2
open PySem PySem.Spec PyProof.Rows
section
variable{K:PySem.W.Frag}{ρ ρ':List Addr}{H H':Hp}{hd hd':Hd}
noncomputable def HD(w:Nat)(ls:Ls):Ls:=ls.map λ o=>match o with
  | some d=>if clD w d=true then some d else none
  | none=>none
noncomputable def G6(w:Nat):Fl->Option Fl
  | .nx ls=>some (.nx (HD w ls))
  | .bk ls=>some (.bk (HD w ls))
  | .ct ls=>some (.ct (HD w ls))
  | .rt d=>if clD w d=true then some (.rt d)else none
noncomputable def Ia(w:Nat)(m:MS):MS:=λ ls hd=>if hd.length <= w then(m ls hd).bind λ p=>if(p.2.take w).all (clO w)=true then(G6 w p.1).map λ f=>(f,p.2.take w)else none else none
theorem RL.trim{ls:Ls}{σ:St}(h:RL K ρ H ls σ)(w:Nat):RL K (ρ.take w) H (HD w ls) σ:=by
  refine⟨by simp[HD,h.len],λ i d e=>?_⟩
  unfold HD at e
  rw[List.getElem?_map]at e
  cases q:ls[i]? with
  | none=>rw[q]at e;cases e
  | some o=>
    rw[q]at e
    cases o with
    | none=>simp at e
    | some z=>
      simp only[Option.map_some,Option.some.injEq]at e
      split at e
      . next c=>
        cases e
        obtain⟨v,e1,e2⟩:=h.ob i _ q
        exact⟨v,e1,e2.take w c⟩
      . cases e
theorem Ext.trim(x:Ext ρ H ρ' H'){w:Nat}(h:ρ.length <= w):Ext ρ H (ρ'.take w) H':=by
  obtain⟨r,rfl,fr⟩:=x.pre
  refine⟨⟨r.take (w - ρ.length),?_,λ b hb=>fr b (List.mem_of_mem_take hb)⟩,x.keep,x.tab⟩
  rw[List.take_append,List.take_of_length_le h]
theorem Sf{t:TS}{m:MS}(w:Nat)(h:RS K t m):RS K t (Ia w m):=by
  intro ρ σ H hd ls E f hd' hR hL hm hQ
  unfold Ia at hm
  split at hm
  . next hw=>
    obtain⟨⟨f1,h1⟩,e1,hm⟩:=Option.bind_eq_some_iff.mp hm
    dsimp only at hm
    split at hm
    . next c=>
      obtain⟨f2,e2,e3⟩:=Option.map_eq_some_iff.mp hm
      cases e3
      refine h ρ σ H hd ls E f1 h1 hR hL e1 λ ρ1 H1 x1 R1=>?_
      have q:=hQ (ρ1.take w) H1 (x1.trim (by rw[hR.len];exact hw)) (R1.take w c)
      cases f1 with
      | nx l=>simp only[G6,Option.some.injEq]at e2;subst e2;exact λ σ' L=>q σ' (L.trim w)
      | bk l=>simp only[G6,Option.some.injEq]at e2;subst e2;exact λ σ' L=>q σ' (L.trim w)
      | ct l=>simp only[G6,Option.some.injEq]at e2;subst e2;exact λ σ' L=>q σ' (L.trim w)
      | rt d=>
        simp only[G6]at e2
        split at e2
        . next c2=>cases e2;exact λ v r=>q v (r.take w c2)
        . cases e2
    . cases hm
  . cases hm
theorem SO{w:Nat}{m:MS}{ls:Ls}{Q:Fl->Hd->Prop}(hw:hd.length <= w)(h:WS m ls hd λ f x=>(x.take w).all (clO w)=true/\∃ f',G6 w f=some f'/\Q f' (x.take w)):WS (Ia w m) ls hd Q:=by
  obtain⟨f,x,e,c,f',e2,q⟩:=h
  exact⟨f',x.take w,by unfold Ia;rw[if_pos hw,e,Option.bind_some];dsimp only;rw[if_pos c,e2];rfl,q⟩
noncomputable def Gg(m:MS):MS:=λ ls hd=>Ia hd.length m ls hd
theorem QH{t:TS}{m:MS}(h:RS K t m):RS K t (Gg m):=λ ρ σ H hd ls E f hd' hR hL hm hQ=>Sf hd.length h ρ σ H hd ls E f hd' hR hL hm hQ
theorem Jh(K:PySem.W.Frag){X:Cx}{st:List Stmt}{t:TS}{m:MS}(h:QSs K X st t m):QSs K X st t (Gg m):=⟨h.p,QH h.r⟩
theorem KW{m:MS}{ls:Ls}{Q:Fl->Hd->Prop}(h:WS m ls hd λ f x=>(x.take hd.length).all (clO hd.length)=true/\∃ f',G6 hd.length f=some f'/\Q f' (x.take hd.length)):WS (Gg m) ls hd Q:=SO (Nat.le_refl _) h
noncomputable def Wx:ME:=λ _ hd=>some (.mu hd.length,hd ++ [.dic []])
theorem JC{ls:Ls}{Q:D->Hd->Prop}(q:Q (.mu hd.length) (hd ++ [.dic []])):WE Wx ls hd Q:=⟨_,_,rfl,q⟩
end
mutual
theorem Lx{v w:Nat}(h:v <= w):∀ {d:D},clD v d=true->clD w d=true
  | .im i,_=>by simp
  | .mu n,c=>by simp at c ⊢;omega
  | .tm ds,c=>by rw[clD]at c ⊢;exact Gq h c
  | .ro ns,_=>by rw[clD]
theorem Gq{v w:Nat}(h:v <= w):∀ {ds:List D},BN v ds=true->BN w ds=true
  | [],_=>by simp
  | d :: ds,c=>by
    simp only[PP,Bool.and_eq_true]at c ⊢
    exact⟨Lx h c.1,Gq h c.2⟩
end
theorem Ju{v w:Nat}(h:v <= w):∀ {ds:List (Key × D)},GN v ds=true->GN w ds=true
  | [],_=>by simp[GN]
  | d :: ds,c=>by
    simp only[GN,Bool.and_eq_true]at c ⊢
    exact⟨Lx h c.1,Ju h c.2⟩
theorem Dn{v w:Nat}(h:v <= w){o:MO}(c:clO v o=true):clO w o=true:=by
  cases o with
  | lst ds=>exact Gq h c
  | dic ds=>exact Ju h c
section
variable{T:Nat->MO->MO->Prop}{P:List D->Hd->Option (D × Hd)}{a b:MO}{rest:Hd}{ls:Ls}{m:MA}{QE:D->Hd->Prop}
theorem Tap.callX(t:Tap T P){n c:Nat}(hT:T (n + c) a b)(ex:Hd){w:Nat}{F:List D->Hd->Option (D × Hd)}{as:List D}{hd:Hd}{R:I->Prop}(e:m ls hd=some (.mu 1 :: as,a :: b :: (ex ++ rest)))(hw:w=ex.length + 2)(ha:BN w as=true)(hx:ex.all (clO w)=true)
    (hF:∀ a b,T (n + c) a b->WF F (.mu 1 :: as) (a :: b :: ex) λ d x=>∃ i a' b' g,d=.im i/\R i/\T n a' b'/\x=a' :: b' :: (ex ++ g))
    (k:∀ i a' b',T n a' b'->R i->QE (.im i) (a' :: b' :: (ex ++ rest))):WE (AC w F m) ls hd QE:=by
  subst hw
  have hcl:∀ o,clO 2 o=true->clO (ex.length + 2) o=true:=λ o h=>Dn (by omega) h
  obtain⟨d,x,e2,i,a',b',g,rfl,hR,hT',rfl⟩:=hF a b hT
  refine⟨_,_,M2 (w:=ex.length + 2) (ds:=.mu 1 :: as) (pre:=a :: b :: ex) (pre':=a' :: b' :: ex) (rest:=rest) (g:=g) rfl rfl e (by simp[ha]) ?_ ?_ e2,k i a' b' hT' hR⟩
  . simp[hcl _ (t.cl hT).1,hcl _ (t.cl hT).2];simpa using hx
  . simp[hcl _ (t.cl hT').1,hcl _ (t.cl hT').2];simpa using hx
end
end L2
namespace L2
open PySem PySem.Spec PyProof.Rows
section
variable{ls:Ls}{hd:Hd}{b:MS}{c:MT}{Q:Fl->Hd->Prop}{QE:D->Hd->Prop}
noncomputable def WQ(P:Ls->Hd->Prop)(Q:Fl->Hd->Prop):Fl->Hd->Prop
  | .nx l,h=>P l h
  | .ct l,h=>P l h
  | .bk l,h=>Q (.nx l) h
  | .rt d,h=>Q (.rt d) h
theorem KU(P:Nat->Ls->Hd->Prop){n:Nat}(h:P n ls hd)
    (k:∀ n ls hd,P n ls hd->WT c ls hd λ t x=>if t=true then WS b ls x (WQ (λ l y=>∃ m,m < n/\P m l y) Q)else Q (.nx ls) x):WS (DE c b) ls hd Q:=by
  have go:∀ n ls hd,P n ls hd->∃ j r,BB c b j ls hd=some r/\Q r.1 r.2:=by
    intro n
    induction n using Nat.strongRecOn with
    | ind n ih=>
      intro ls hd h
      obtain⟨t,x,e1,q⟩:=k n ls hd h
      cases t with
      | false=>
        rw[if_neg Bool.false_ne_true]at q
        exact⟨1,(.nx ls,x),by unfold BB;rw[e1];rfl,q⟩
      | true=>
        rw[if_pos rfl]at q
        obtain⟨f,y,e2,q⟩:=q
        cases f with
        | nx l=>
          obtain⟨m,hm,p⟩:=q
          obtain⟨j,r,e3,q3⟩:=ih m hm l y p
          exact⟨j + 1,r,by unfold BB;rw[e1,Option.bind_some,if_pos rfl,e2];exact e3,q3⟩
        | ct l=>
          obtain⟨m,hm,p⟩:=q
          obtain⟨j,r,e3,q3⟩:=ih m hm l y p
          exact⟨j + 1,r,by unfold BB;rw[e1,Option.bind_some,if_pos rfl,e2];exact e3,q3⟩
        | bk l=>exact⟨1,(.nx l,y),by unfold BB;rw[e1,Option.bind_some,if_pos rfl,e2];rfl,q⟩
        | rt d=>exact⟨1,(.rt d,y),by unfold BB;rw[e1,Option.bind_some,if_pos rfl,e2];rfl,q⟩
  obtain⟨j,⟨f,x⟩,e,q⟩:=go n ls hd h
  exact⟨f,x,Jm e,q⟩
theorem Ph{k j:Nat}{i:Int}{ds:List D}{z:D}(e1:hd[k]? = some (.lst ds))(hr:Ga i)(e2:ixN ds.length i=some j)(e3:ds[j]? = some z)(q:QE z (hd.set k (.lst (ds.eraseIdx j)))):WP (Gk (.mu k) [.im (.int i)] hd) QE:=⟨_,_,by rw[Rf,e1];simp[hr,e2,e3],q⟩
end
end L2
namespace Bd
open PySem L2
@[reducible] noncomputable def m_steps_at:MS:=(AA (AL 2 (mC (.int 0)))
    (AA (CQ (BD (A0 0)) (C0 2 (Aa (AF 3) (Aa (AF 4) C1)))
      (AA (Az (AR (mOp gGt (A0 3) (A0 1)))
      (AT (A0 2))
      Aj)
    (AL 2 (A0 4))))
    (AT (A0 2))))
noncomputable def F_steps_at:List D->Hd->Option (D × Hd):=mkF 2 5 m_steps_at
@[reducible] noncomputable def m_cost_at:MS:=(AA (AL 2 (mOp gIx (A0 0) (mC (.int 0))))
    (AA (Az (AR (mOp gEq (A0 2) (mC (.str "steps"))))
      (AT (AC 0 F_steps_at (A2 (mOp gIx (A0 0) (mC (.int 1))) (A2 (A0 1) A6))))
      Aj)
    (AA (Az (AR (mOp gEq (A0 2) (mC (.str "ends"))))
      (AT (mOp C2 (mOp gIx (A0 0) (mC (.int 1))) (A0 1)))
      Aj)
    (AA (AL 3 (mOp EG (A0 1) (mOp gIx (A0 0) (mC (.int 1)))))
    (AA (Az (AR (mOp gEq (A0 2) (mC (.str "late"))))
      (AT (A0 3))
      Aj)
    (AA (Az (AR (mOp gLe (A0 3) (mC (.int 0))))
      (AT (mC (.int 0)))
      Aj)
    (AA (Az (AR (mOp gEq (A0 2) (mC (.str "tardy"))))
      (AT (mOp C2 (mOp gIx (A0 0) (mC (.int 2))) (A0 3)))
      Aj)
    (AT (mOp gIx (A0 0) (mC (.int 2)))))))))))
noncomputable def F_cost_at:List D->Hd->Option (D × Hd):=mkF 2 4 m_cost_at
@[reducible] noncomputable def m_costs_of:MS:=(AT (CP BC (BK 2 [] (LS (BD (A0 0)) (BD (A0 1))) (C0 2 (Aa (AF 0) (Aa (AF 1) C1))) C6 (AC 0 F_cost_at (A2 (mOp gIx (A0 0) (mC (.int 2))) (A2 (A0 1) A6))))))
noncomputable def F_costs_of:List D->Hd->Option (D × Hd):=mkF 2 2 m_costs_of
@[reducible] noncomputable def m_worth:MS:=(AA (AL 3 (AC 0 F_costs_of (A2 (A0 0) (A2 (A0 1) A6))))
    (AA (Az (AR (mOp gEq (A0 2) (mC (.str "greatest"))))
      (AT (mCB (f1 true FW) (A2 (A0 3) A6)))
      Aj)
    (AT (mCB (f1 true Hr) (A2 (A0 3) A6)))))
noncomputable def F_worth:List D->Hd->Option (D × Hd):=mkF 3 4 m_worth
@[reducible] noncomputable def m_run:MS:=(AA (AL 2 (B3 (BM A6)))
    (AA (AL 3 (mC (.int 0)))
    (AA (CQ (BD (A0 1)) (AF 4)
      (AA (Hq (mOp gIx (A0 0) (A0 4)) (C0 3 (Aa (AF 5) (Aa (AF 6) (Aa (AF 7) C1)))))
    (AA (AL 8 (mCB Dd (A2 (A0 6) (A2 (A0 3) A6))))
    (AA (AL 3 (mOp B2 (A0 8) (A0 5)))
    (Br (mMt BA (A0 2) (A2 (DS (A2 (A0 4) (A2 (A0 8) (A2 (A0 3) A6)))) A6)))))))
    (AT (mCB (f1 true BC) (A2 (A0 2) A6))))))
noncomputable def F_run:List D->Hd->Option (D × Hd):=mkF 2 9 m_run
@[reducible] noncomputable def m_ends_of:MS:=(AA (AL 2 (B3 (BK 1 [] (BD (A0 0)) (AF 0) C6 (mC (.int 0)))))
    (AA (CQ (BD (A0 1)) (C0 3 (Aa (AF 3) (Aa (AF 4) (Aa (AF 5) C1))))
      (E4 (A0 2) (A0 3) (A0 5)))
    (AT (mCB (f1 true BC) (A2 (A0 2) A6)))))
noncomputable def F_ends_of:List D->Hd->Option (D × Hd):=mkF 2 6 m_ends_of
end Bd
namespace Bd
open PySem L2
structure Tp where
  cells:List Int
  nx:Int
  lf:Int
  tn:Int
noncomputable def KC(t:Tp):List (Key × D):=[(.inr "cells",.mu 0),(.inr "next",.im (.int t.nx)),(.inr "left",.im (.int t.lf)),(.inr "turn",.im (.int t.tn))]
noncomputable def tp(t:Tp):Hd:=[.lst (t.cells.map λ i=>.im (.int i)),.dic (KC t)]
@[simp] theorem Xu(t:Tp):(tp t).length=2:=rfl
@[simp] theorem YW(t:Tp)(r:Hd):(tp t ++ r)[0]? = some (.lst (t.cells.map λ i=>.im (.int i))):=rfl
@[simp] theorem YV(t:Tp)(r:Hd):(tp t ++ r)[1]? = some (.dic (KC t)):=rfl
@[simp] theorem tp0(t:Tp):(tp t)[0]? = some (.lst (t.cells.map λ i=>.im (.int i))):=rfl
@[simp] theorem tp1(t:Tp):(tp t)[1]? = some (.dic (KC t)):=rfl
section
variable(t:Tp)(v:Int)
@[simp] theorem Xv:(KC t).length=4:=rfl
end
theorem GD:∀ ns:List Int,I.pys (ns.map I.int)=ns.map PyData.int
  | []=>by simp[I.pys]
  | n :: ns=>by simp[I.pys,I.py,GD ns]
theorem GQ(ns:List Int):Bl (ns.map λ i=>D.im (.int i))=some (ns.map I.int):=by
  have:(ns.map λ i=>D.im (.int i))=(ns.map I.int).map D.im:=by rw[List.map_map];rfl
  rw[this];exact Pa _
theorem U1(ns:List Int):PyData.eqv (.list (ns.map PyData.int)) (.list [])=decide (ns=[]):=by
  cases ns <;> simp[PyData.eqv,PyData.eqvAll]
theorem lay_ints(ns:List Int):(PyData.list (ns.map PyData.int)).canLay0=true:=by simp[PyData.canLay0,Hb]
theorem U5(ns:List Int)(hd:Hd)(neg:Bool):Lp neg (.list (ns.map PyData.int)) (.list []) hd=some (.im (.bl (if neg then !decide (ns=[])else decide (ns=[]))),hd):=by
  unfold Lp
  rw[if_pos,U1]
  refine⟨lay_ints ns,by simp[PyData.canLay0,PyData.canLayAll0],?_⟩
  have:(PyData.list []).depth <= 1:=by simp[PyData.depth,PyData.depthAll]
  omega
end Bd
namespace Bd
open PySem L2
theorem FK{x:Int}(m:Int)(h:0 < m):0 <= x % m/\x % m < m:=⟨Int.emod_nonneg _ (by omega),Int.emod_lt_of_pos _ h⟩
theorem X8{xs:List Int}(h:xs ≠ [])(n:Int):∃ c,atI (xs.map λ i=>D.im (.int i)) (n % (xs.length:Int))=some (.im (.int c)):=by
  have hl:0 < xs.length:=Fm h
  obtain⟨a,b⟩:=FK (x:=n) (xs.length:Int) (by omega)
  obtain⟨k,hk⟩:=Int.eq_ofNat_of_zero_le a
  have hk':k < xs.length:=by omega
  exact⟨xs[k],Gv hk (by simp[hk'])⟩
theorem po1:NU 10 18:=by unfold NU;decide
end Bd
namespace Bd
open PySem L2
inductive Cost where
  | late (d:Int)|tardy (d w:Int)|miss (d w:Int)|ends (w:Int)|steps (rows:List (Int × Int))
noncomputable def G9(r:Int × Int):I:=.tup [.int r.1,.int r.2]
noncomputable def BX:Cost->I
  | .late d=>.tup [.str "late",.int d]
  | .tardy d w=>.tup [.str "tardy",.int d,.int w]
  | .miss d w=>.tup [.str "miss",.int d,.int w]
  | .ends w=>.tup [.str "ends",.int w]
  | .steps rows=>.tup [.str "steps",.tup (rows.map G9)]
noncomputable def BS(t:Int):List (Int × Int)->Int->Int
  | [],told=>told
  | (b,a) :: r,told=>if t < b then told else BS t r a
noncomputable def Cost.at:Cost->Int->Int
  | .late d,t=>t - d
  | .tardy d w,t=>if t - d <= 0 then 0 else w * (t - d)
  | .miss d w,t=>if t - d <= 0 then 0 else w
  | .ends w,t=>w * t
  | .steps rows,t=>BS t rows 0
noncomputable def Cost.wok:Cost->Prop
  | .tardy _ w=>0 <= w/\w <= 1000000
  | .miss _ w=>0 <= w/\w <= 1000000
  | .ends w=>0 <= w/\w <= 1000000
  | _=>True
theorem n1:¬ (("late":Str)="steps"):=by decide +kernel
theorem n2:¬ (("tardy":Str)="steps"):=by decide +kernel
theorem n3:¬ (("miss":Str)="steps"):=by decide +kernel
theorem n4:¬ (("ends":Str)="steps"):=by decide +kernel
theorem n5:¬ (("late":Str)="ends"):=by decide +kernel
theorem n6:¬ (("tardy":Str)="ends"):=by decide +kernel
theorem n7:¬ (("miss":Str)="ends"):=by decide +kernel
theorem n8:¬ (("tardy":Str)="late"):=by decide +kernel
theorem n9:¬ (("miss":Str)="late"):=by decide +kernel
theorem n10:¬ (("miss":Str)="tardy"):=by decide +kernel
theorem IG(t:Int)(z:D)(hd:Hd):∀ (rows:List (Int × Int)) (told:Int) (x y:Option D),∃ fl x' y',BW (C0 2 (Aa (AF 3) (Aa (AF 4) C1))) (AA (Az (AR (mOp gGt (A0 3) (A0 1))) (AT (A0 2)) Aj) (AL 2 (A0 4))) [] ((rows.map G9).map .im)
      [some z,some (.im (.int t)),some (.im (.int told)),x,y] hd=some (fl,hd)/\(fl=.rt (.im (.int (BS t rows told))) ∨ fl=.nx [some z,some (.im (.int t)),some (.im (.int (BS t rows told))),x',y'])
  | [],told,x,y=>⟨_,x,y,GI,.inr rfl⟩
  | (b,a) :: rows,told,x,y=>by
    by_cases h:t < b
    . refine⟨_,x,y,RO (ls1:=[some z,some (.im (.int t)),some (.im (.int told)),some (.im (.int b)),some (.im (.int a))]) (by simp[G9]) (v:=.im (.int told)) (hd2:=hd) ?_,.inl ?_⟩
      . simp[h]
      . simp[BS,h]
    . obtain⟨fl,x',y',e,q⟩:=IG t z hd rows a (some (.im (.int b))) (some (.im (.int a)))
      refine⟨fl,x',y',?_,?_⟩
      . rw[<- e]
        refine EU (ls1:=[some z,some (.im (.int t)),some (.im (.int told)),some (.im (.int b)),some (.im (.int a))]) (by simp[G9]) ?_ (Ad _)
        simp[h]
      . simpa [BS,h]using q
theorem M8(rows:List (Int × Int))(t:Int):F_steps_at [.im (.tup (rows.map G9)),.im (.int t)] []=some (.im (.int (BS t rows 0)),[]):=by
  obtain⟨fl,x',y',e,q⟩:=IG t (.im (.tup (rows.map G9))) [] rows 0 none none
  rcases q with rfl|rfl
  . simp[F_steps_at,mkF]at e ⊢
    simp[e]
  . simp[F_steps_at,mkF]at e ⊢
    simp[e]
theorem GM(c:Cost)(t:Int)(h:c.wok):F_cost_at [.im (BX c),.im (.int t)] []=some (.im (.int (c.at t)),[]):=by
  cases c with
  | late d=>simp[F_cost_at,mkF,BX,n1,n5,Cost.at]
  | tardy d w=>
    have b1:∀ j,Ec w j:=λ j=>Dt (by obtain⟨a,b⟩:=h;omega) (by obtain⟨a,b⟩:=h;omega)
    by_cases q:t - d <= 0
    . simp[F_cost_at,mkF,BX,n2,n6,n8,Cost.at,q]
    . simp[F_cost_at,mkF,BX,n2,n6,n8,Cost.at,q,b1]
  | miss d w=>
    by_cases q:t - d <= 0
    . simp[F_cost_at,mkF,BX,n3,n7,n9,Cost.at,q]
    . simp[F_cost_at,mkF,BX,n3,n7,n9,n10,Cost.at,q]
  | ends w=>
    have b1:∀ j,Ec w j:=λ j=>Dt (by obtain⟨a,b⟩:=h;omega) (by obtain⟨a,b⟩:=h;omega)
    simp[F_cost_at,mkF,BX,n4,Cost.at,b1]
  | steps rows=>
    have:=EY (m:=A2 (mOp gIx (A0 0) (mC (.int 1))) (A2 (A0 1) A6)) (ls:=[some (.im (BX (.steps rows))),some (.im (.int t)),some (.im (.str "steps")),none]) (hd:=[]) (hd1:=[]) (F:=F_steps_at) (ds:=[.im (.tup (rows.map G9)),.im (.int t)]) (by simp[BX]) (by simp) (M8 rows t)
    simp[BX]at this
    simp[F_cost_at,mkF,BX,Cost.at,this]
end Bd
namespace Bd
open PySem L2
@[simp high] theorem YU(t:Tp)(x:MO)(r:Hd):(tp t ++ (x :: r))[2]? = some x:=rfl
@[simp high] theorem YT(t:Tp)(x y:MO)(r:Hd):(tp t ++ (x :: y :: r))[3]? = some y:=rfl
@[simp high] theorem YS(t:Tp)(x y z:MO)(r:Hd):(tp t ++ (x :: y :: z :: r))[4]? = some z:=rfl
@[simp high] theorem YF(t:Tp)(x y:MO)(r:Hd):(tp t ++ (x :: r)).set 2 y=tp t ++ (y :: r):=rfl
@[simp high] theorem YE(t:Tp)(x y z:MO)(r:Hd):(tp t ++ (x :: y :: r)).set 3 z=tp t ++ (x :: z :: r):=rfl
theorem Jv(w:Nat)(ns:List Int):BN w (ns.map λ i=>D.im (.int i))=true:=by induction ns <;> simp_all [BN,clD]
end Bd
namespace Bd
open PySem L2
structure Wk where
  len:Int
  com:Int
  cost:Cost
noncomputable def Cp(w:Wk):I:=.tup [.int w.len,.int w.com,BX w.cost]
noncomputable abbrev Cs(ws:List Wk):I:=.tup (ws.map Cp)
end Bd
namespace L2
theorem Lu{α:Type}{n:MG}{c:MT}{m:ME}{g:Gd}{hd:Hd}(hg:GOk hd g)(f:α->D)(k:α->Option D):∀ {xs:List α} {ls:Ls} (P:Ls->Prop),P ls ->
    (∀ x ∈ xs,∀ ls,P ls->∃ ls1,n (f x) ls hd=some ls1/\P ls1/\((k x=none/\c ls1 hd=some (false,hd)) ∨ ∃ z,k x=some z/\c ls1 hd=some (true,hd)/\m ls1 hd=some (z,hd)))->BG n c m g (xs.map f) ls hd=some (xs.filterMap k,hd)
  | [],ls,P,h,_=>by unfold BG;rfl
  | x :: r,ls,P,h,q=>by
    obtain⟨ls1,e1,p1,q1⟩:=q x List.mem_cons_self ls h
    have ih:=Lu hg f k (xs:=r) (ls:=ls1) P p1 λ d hd ls hp=>q d (List.mem_cons_of_mem _ hd) ls hp
    rw[List.map_cons]
    unfold BG
    rcases q1 with⟨kn,c1⟩|⟨z,kz,c1,m1⟩
    . simp[e1,c1,hg,ih,kn]
    . simp[e1,c1,m1,hg,ih,kz]
theorem Lv{α:Type}{n:MG}{m:ME}{g:Gd}{hd:Hd}(hg:GOk hd g)(f:α->D)(k:α->D){xs:List α}{ls:Ls}(P:Ls->Prop)(h:P ls)
    (q:∀ x ∈ xs,∀ ls,P ls->∃ ls1,n (f x) ls hd=some ls1/\P ls1/\m ls1 hd=some (k x,hd)):BG n C6 m g (xs.map f) ls hd=some (xs.map k,hd):=by
  have:=Lu (c:=C6) hg f (λ x=>some (k x)) (xs:=xs) P h λ x hx ls hp=>by
    obtain⟨ls1,e1,p1,e2⟩:=q x hx ls hp
    exact⟨ls1,e1,p1,.inr ⟨_,rfl,rfl,e2⟩⟩
  rw[this]
  simp
end L2
namespace Bd
open PySem L2
noncomputable abbrev Ef(es:List Int):I:=.tup (es.map I.int)
noncomputable def DY(ws:List Wk)(es:List Int):List Int:=List.zipWith (λ w e=>w.cost.at e) ws es
theorem O5(ws:List Wk)(es:List Int):List.zipWith (λ x y=>B4 [x,y]) ((ws.map Cp).map D.im) ((es.map I.int).map D.im)=(List.zip ws es).map λ p=>D.im (.tup [Cp p.1,.int p.2]):=by
  induction ws generalizing es with
  | nil=>simp
  | cons w ws ih=>
    cases es with
    | nil=>simp
    | cons e es=>simp only[List.map_cons,List.zipWith_cons_cons,List.zip_cons_cons,JR,ih]
theorem Nu(ws:List Wk)(es:List Int):(List.zip ws es).map (λ p=>p.1.cost.at p.2)=DY ws es:=by
  unfold DY
  rw[List.zip_eq_zipWith,List.map_zipWith]
theorem Mu(ns:List Int):(ns.map λ i=>D.im (.int i))=(ns.map I.int).map D.im:=by rw[List.map_map];rfl
theorem IV(ns:List Int):B4 (ns.map λ i=>D.im (.int i))=.im (Ef ns):=by rw[Mu];exact Dj _
theorem MK(ws:List Wk)(es:List Int)(h:∀ w ∈ ws,w.cost.wok)(hl:ws.length <= 1000):F_costs_of [.im (Cs ws),.im (Ef es)] []=some (.im (Ef (DY ws es)),[]):=by
  have hz:Bs (List.zip ws es).length:=Ah (by simp;omega)
  have hc:=Lv (hd:=[]) (n:=C0 2 (Aa (AF 0) (Aa (AF 1) C1))) (m:=AC 0 F_cost_at (A2 (mOp gIx (A0 0) (mC (.int 2))) (A2 (A0 1) A6))) (Ad []) (λ p:Wk × Int=>D.im (.tup [Cp p.1,.int p.2])) (λ p=>.im (.int (p.1.cost.at p.2))) (xs:=List.zip ws es) (ls:=[none,none]) (λ ls=>ls.length=2) rfl λ p hp ls hls=>by
    match ls,hls with
    | [a,b],_=>
      refine⟨[some (.im (Cp p.1)),some (.im (.int p.2))],by simp,rfl,?_⟩
      exact EY (ds:=[.im (BX p.1.cost),.im (.int p.2)]) (by simp[Cp]) (by simp) (GM p.1.cost p.2 (h p.1 (List.of_mem_zip hp).1))
  have hi:List.map (λ p:Wk × Int=>D.im (.int (p.1.cost.at p.2))) (List.zip ws es)=(DY ws es).map λ i=>D.im (.int i):=by rw[<- Nu,List.map_map];rfl
  have gk:GOk [] []:=Ad []
  simp only[F_costs_of,mkF,m_costs_of,Iv,Ll,Mx,LS,Ix,CS,List.map_cons,List.map_nil,List.length_cons,List.length_nil,List.cons_append,List.nil_append,List.replicate,Nat.reduceAdd,Nat.reduceSub,if_true,List.getElem?_cons_zero,List.getElem?_cons_succ,Option.bind_some,Kj,Option.map_some,gk,O5,List.length_map,hz,C5,List.append_nil]
  rw[hc,hi]
  simp[BC,IV]
theorem O8(ws:List Wk)(es:List Int)(h:∀ w ∈ ws,w.cost.wok)(hl:ws.length <= 1000)(hne:DY ws es ≠ []):F_worth [.im (Cs ws),.im (Ef es),.im (.str "greatest")] []=some (.im (.int (Co (DY ws es))),[]):=by
  have e:=EY (m:=A2 (A0 0) (A2 (A0 1) A6)) (ls:=[some (.im (Cs ws)),some (.im (Ef es)),some (.im (.str "greatest")),none]) (hd:=[]) (F:=F_costs_of) (ds:=[.im (Cs ws),.im (Ef es)]) (hd1:=[]) (by simp) (by simp) (MK ws es h hl)
  have k:(BR ((DY ws es).map I.int |>.map D.im))=some (DY ws es):=by rw[<- Mu];exact Jp _
  simp only[F_worth,mkF,m_worth,EW,FE,List.map_cons,List.map_nil,List.length_cons,List.length_nil,List.cons_append,List.nil_append,List.replicate,Nat.reduceAdd,Nat.reduceSub,if_true]
  rw[e]
  simp only[Option.bind_some,Ej,Option.map_some,List.set_cons_succ,List.set_cons_zero,Iy,Fv,Iw,CS,List.getElem?_cons_zero,List.getElem?_cons_succ,W7,HU,W6,if_true,decide_true,Iv,X3,JW,Gm,SK,DU,FW,k,hne,if_false,Bool.false_eq_true]
noncomputable def Bz(p:Nat × Int × Int):I:=.tup [.int p.1,.int p.2.1,.int p.2.2]
noncomputable def Dx(ws:List Wk):List Nat->Int->List (Nat × Int × Int)
  | [],_=>[]
  | k :: r,e=>match ws[k]? with
    | some w=>(k,(if e > w.com then e else w.com),(if e > w.com then e else w.com) + w.len) :: Dx ws r ((if e > w.com then e else w.com) + w.len)
    | none=>[]
noncomputable abbrev Ap(ks:List Nat):I:=.tup (ks.map λ k:Nat=>.int k)
theorem RJ{α:Type}(ws:List α):ws.map (λ _=>D.im (.int 0))=(List.replicate ws.length 0).map λ i=>D.im (.int i):=by induction ws <;> simp_all [List.replicate_succ]
noncomputable abbrev MW:MS:=(AA (Hq (mOp gIx (A0 0) (A0 4)) (C0 3 (Aa (AF 5) (Aa (AF 6) (Aa (AF 7) C1)))))
    (AA (AL 8 (mCB Dd (A2 (A0 6) (A2 (A0 3) A6))))
    (AA (AL 3 (mOp B2 (A0 8) (A0 5)))
    (Br (mMt BA (A0 2) (A2 (DS (A2 (A0 4) (A2 (A0 8) (A2 (A0 3) A6)))) A6))))))
theorem Kv(ws:List Wk)(o:D):∀ (ks:List Nat) (e:Int) (ps:List (Nat × Int × Int)) (a b c d f:Option D),(∀ k ∈ ks,k < ws.length)->ps.length + ks.length <= 1000->∃ e' a' b' c' d' f',BW (AF 4) MW [] (ks.map λ k:Nat=>.im (.int k))
      [some (.im (Cs ws)),some o,some (.mu 0),some (.im (.int e)),a,b,c,d,f] [.lst (ps.map λ p=>.im (Bz p))]=some (.nx [some (.im (Cs ws)),some o,some (.mu 0),e',a',b',c',d',f'],[.lst ((ps ++ Dx ws ks e).map λ p=>.im (Bz p))])
  | [],e,ps,a,b,c,d,f,_,_=>⟨_,a,b,c,d,f,by simp[Dx,GI];rfl⟩
  | k :: ks,e,ps,a,b,c,d,f,h,hl=>by
    have hk:=h k List.mem_cons_self
    have hw:ws[k]? = some ws[k]:=by simp[hk]
    generalize ws[k]=w at hw
    obtain⟨e',a',b',c',d',f',q⟩:=Kv ws o ks ((if e > w.com then e else w.com) + w.len) (ps ++ [(k,(if e > w.com then e else w.com),(if e > w.com then e else w.com) + w.len)]) (some (.im (.int k))) (some (.im (.int w.len))) (some (.im (.int w.com))) (some (.im (BX w.cost))) (some (.im (.int (if e > w.com then e else w.com)))) (λ k hk=>h k (List.mem_cons_of_mem _ hk)) (by simp at hl ⊢;omega)
    refine⟨e',a',b',c',d',f',?_⟩
    have hp:Cr ps.length:=CM (by simp at hl;omega)
    have at1:atI ((ws.map Cp).map D.im) (k:Int)=some (.im (Cp w)):=Gv rfl (by simp[hw])
    rw[show Dx ws (k :: ks) e=(k,(if e > w.com then e else w.com),(if e > w.com then e else w.com) + w.len) :: Dx ws ks ((if e > w.com then e else w.com) + w.len) by rw[Dx,hw]]
    rw[List.append_assoc]at q
    rw[List.singleton_append]at q
    rw[<- q,List.map_cons]
    refine EU (ls1:=[some (.im (Cs ws)),some o,some (.mu 0),some (.im (.int e)),some (.im (.int k)),b,c,d,f]) rfl ?_ (Ad _)
    simp only[MW,EW,FE,Iw,CS,List.getElem?_cons_zero,List.getElem?_cons_succ,Option.bind_some,SJ,DU,at1,Option.map_some]
    simp[Cp,hp,Bz]
theorem UN(ws:List Wk)(ks:List Nat)(h:∀ k ∈ ks,k < ws.length)(hl:ks.length <= 1000):∃ g,F_run [.im (Cs ws),.im (Ap ks)] []=some (.im (.tup ((Dx ws ks 0).map Bz)),g):=by
  obtain⟨e',a',b',c',d',f',q⟩:=Kv ws (.im (Ap ks)) ks 0 [] none none none none none h (by simpa using hl)
  have tt:∀ ps:List (Nat × Int × Int),B4 (ps.map λ p=>D.im (Bz p))=.im (.tup (ps.map Bz)):=λ ps=>by
    have:(ps.map λ p=>D.im (Bz p))=(ps.map Bz).map D.im:=by rw[List.map_map];rfl
    rw[this];exact Dj _
  have kk:(ks.map λ k:Nat=>I.int k).map D.im=ks.map λ k:Nat=>D.im (.int k):=by rw[List.map_map];rfl
  simp only[List.map_nil,List.nil_append]at q
  refine⟨[.lst ((Dx ws ks 0).map λ p=>.im (Bz p))],?_⟩
  simp only[F_run,mkF,m_run,EW,FE,Lk,P6,Gm,W7,Lm,Ix,CS,List.map_cons,List.map_nil,List.length_cons,List.length_nil,List.cons_append,List.nil_append,List.replicate,Nat.reduceAdd,Nat.reduceSub,if_true,Option.bind_some,Fs,Ej,Option.map_some,List.set_cons_succ,List.set_cons_zero,List.getElem?_cons_zero,List.getElem?_cons_succ,Kj,kk]
  rw[q]
  simp[BC,tt]
noncomputable def FP(es:List Int):List (Nat × Int × Int)->List Int
  | []=>es
  | p :: r=>FP (es.set p.1 p.2.2) r
theorem Jt(w o:D):∀ (ps:List (Nat × Int × Int)) (es:List Int) (a b c:Option D),(∀ p ∈ ps,p.1 < es.length)->∃ a' b' c',BW (C0 3 (Aa (AF 3) (Aa (AF 4) (Aa (AF 5) C1)))) (E4 (A0 2) (A0 3) (A0 5)) [] (ps.map λ p=>.im (Bz p))
      [some w,some o,some (.mu 0),a,b,c] [.lst (es.map λ i=>.im (.int i))]=some (.nx [some w,some o,some (.mu 0),a',b',c'],[.lst ((FP es ps).map λ i=>.im (.int i))])
  | [],es,a,b,c,_=>⟨a,b,c,GI⟩
  | (k,x,y) :: ps,es,a,b,c,h=>by
    obtain⟨a',b',c',q⟩:=Jt w o ps (es.set k y) (some (.im (.int k))) (some (.im (.int x))) (some (.im (.int y))) (λ p hp=>by simpa using h p (List.mem_cons_of_mem _ hp))
    refine⟨a',b',c',?_⟩
    have hk:k < es.length:=h _ List.mem_cons_self
    have ix:ixN es.length (k:Int)=some k:=by unfold ixN;rw[if_pos (by omega),if_pos (by omega)];simp
    rw[show FP es ((k,x,y) :: ps)=FP (es.set k y) ps from rfl,<- q,List.map_cons]
    refine EU (ls1:=[some w,some o,some (.mu 0),some (.im (.int k)),some (.im (.int x)),some (.im (.int y))]) (by simp[Bz]) ?_ (Ad _)
    simp[ix]
theorem Np(ws:List Wk)(ps:List (Nat × Int × Int))(h:∀ p ∈ ps,p.1 < ws.length)(hl:ws.length <= 1000):∃ g,F_ends_of [.im (Cs ws),.im (.tup (ps.map Bz))] []=some (.im (Ef (FP (List.replicate ws.length 0) ps)),g):=by
  obtain⟨a',b',c',q⟩:=Jt (.im (Cs ws)) (.im (.tup (ps.map Bz))) ps (List.replicate ws.length 0) none none none (λ p hp=>by simpa using h p hp)
  have hz:Bs ws.length:=Ah (by omega)
  have hc:=Lv (hd:=[]) (n:=AF 0) (m:=mC (.int 0)) (Ad []) (λ w:Wk=>D.im (Cp w)) (λ _=>.im (.int 0)) (xs:=ws) (ls:=[none]) (λ ls=>ls.length=1) rfl λ w hw ls hls=>by
    match ls,hls with
    | [a],_=>exact⟨[some (.im (Cp w))],rfl,rfl,rfl⟩
  have hr:=RJ ws
  have w1:(ws.map Cp).map D.im=ws.map λ w=>D.im (Cp w):=by rw[List.map_map];rfl
  have p1:(ps.map Bz).map D.im=ps.map λ p=>D.im (Bz p):=by rw[List.map_map];rfl
  rw[hr]at hc
  refine⟨[.lst ((FP (List.replicate ws.length 0) ps).map λ i=>.im (.int i))],?_⟩
  simp only[F_ends_of,mkF,m_ends_of,EW,FE,Lk,Mx,Ix,CS,Lm,List.map_cons,List.map_nil,List.length_cons,List.length_nil,List.cons_append,List.nil_append,List.replicate,Nat.reduceAdd,Nat.reduceSub,if_true,List.getElem?_cons_zero,List.getElem?_cons_succ,Option.bind_some,Kj,Option.map_some,w1,p1,List.length_map,hz,C5,List.append_nil,hc,Ej,List.set_cons_succ,List.set_cons_zero]
  rw[q]
  simp[BC,IV]
end Bd
namespace L2
open PySem PySem.Spec PyProof.Rows
end L2
namespace Bd
open PySem L2
end Bd
namespace Bd
open PySem L2
theorem Ri(ns:List Int)(lo hi:Option Int):∃ cs:List Int,FF (ns.map λ n=>.im (.int n)) lo hi=cs.map λ n=>.im (.int n):=⟨(ns.drop _).take _,by unfold FF;rw[List.map_take,List.map_drop]⟩
end Bd
namespace Bd
open PySem L2
noncomputable abbrev AM(ks:List Nat):List D:=ks.map λ k:Nat=>D.im (.int (k:Int))
theorem Tl{n:Nat}{i:Int}(a:0 <= i)(b:i < n):ixN n i=some i.toNat:=by unfold ixN;rw[if_pos a,if_pos b]
theorem IT:∀ {a:List Nat} {k x:Nat},a[k]? = some x->(x :: a.eraseIdx k).Perm a
  | [],k,x,h=>by simp at h
  | y :: r,0,x,h=>by simp at h;subst h;exact .refl _
  | y :: r,k + 1,x,h=>by
    have ih:=IT (a:=r) (k:=k) (x:=x) (by simpa using h)
    exact(List.Perm.swap y x _).trans (ih.cons y)
theorem Js{α β:Type}(f:α->β):∀ (l:List α) (k:Nat),(l.map f).eraseIdx k=(l.eraseIdx k).map f
  | [],k=>rfl
  | y :: r,0=>rfl
  | y :: r,k + 1=>by simp[Js f r k]
theorem Og{a b:List Nat}{k x:Nat}(h:a[k]? = some x):(b ++ [x] ++ a.eraseIdx k).Perm (b ++ a):=by
  rw[List.append_assoc]
  exact List.Perm.append_left b (IT h)
end Bd
namespace Bd
open PySem L2
end Bd
namespace Bd
open PySem L2
theorem Dy(n:Nat):B7 0 n=AM (List.range n):=by
  refine List.ext_getElem? λ i=>?_
  by_cases h:i < n
  . rw[IM h];simp[h]
  . rw[List.getElem?_eq_none (by simp;omega),List.getElem?_eq_none (by simp;omega)]
end Bd
namespace Bd
open PySem L2
noncomputable abbrev intD(xs:List Int):List D:=xs.map λ x=>D.im (.int x)
noncomputable abbrev Et:MS:=(Az (GH (AR (mOp gEq (A0 5) (A0 4))) (AR (mOp (gIn true) (A0 6) (A0 2))))
      (AA (Br (mMt BA (A0 2) (A2 (A0 6) A6)))
    (Br (mMt BA (A0 3) (A2 (A0 6) A6))))
      Aj)
noncomputable abbrev Lf:MS:=(AA (AL 4 (mMt Hu (A0 3) A6))
    (CQ (FS (A0 0)) (C0 2 (Aa (AF 5) (Aa (AF 6) C1))) Et))
@[reducible] noncomputable def m_reached:MS:=(AA (AL 2 (B3 (BM A6)))
    (AA (AL 3 (B3 (BM (A2 (A0 1) A6))))
    (AA (DE (FC (A0 3)) Lf)
    (AT (CP BC (DL (Dk (A0 2))))))))
noncomputable def F_reached:List D->Hd->Option (D × Hd):=mkF 2 7 m_reached
theorem P3(xs:List Int):DF (intD xs)=some (xs.map V.int):=by
  induction xs with
  | nil=>rfl
  | cons x r ih=>simp[DF,FO]at ih ⊢;exact ih
theorem RW(x:Int)(xs:List Int):inV (.int x) (xs.map V.int)=decide (x ∈ xs):=by
  unfold inV
  induction xs with
  | nil=>simp
  | cons y r ih=>
    simp only[List.map_cons,List.any_cons,ih,List.mem_cons]
    have:eqV (V.int y) (V.int x)=decide (x=y):=by
      unfold eqV
      by_cases h:x=y
      . subst h;simp
      . have h':¬ y=x:=λ z=>h z.symm
        simp[h,h']
    rw[this,Bool.decide_or]
theorem in_ints{hd:Hd}{d:D}{xs:List Int}(x:Int)(neg:Bool)(h:Aw hd d=some (intD xs)):gIn neg (.im (.int x)) d hd=some (.im (.bl (if neg then !decide (x ∈ xs)else decide (x ∈ xs))),hd):=by
  simp only[gIn,FO,Option.bind_some,h,P3,Option.map_some,RW]
theorem g0(hd:Hd)(x y:MO):(hd ++ [x,y])[hd.length]? = some x:=by simp
theorem g1(hd:Hd)(x y:MO):(hd ++ [x,y])[hd.length + 1]? = some y:=by simp
theorem t0(hd:Hd)(x y z:MO):(hd ++ [x,y]).set hd.length z=hd ++ [z,y]:=by simp
theorem t1(hd:Hd)(x y z:MO):(hd ++ [x,y]).set (hd.length + 1) z=hd ++ [x,z]:=by simp
theorem GZ(P:D)(hd:Hd)(g:Gd)(G:GOk hd g)(a at_:Int):∀ (qs:List (Int × Int)) (found fresh:List Int) (z5 z6:Option D),found.length + qs.length <= 1000->fresh.length + qs.length <= 10000->∃ (new:List Int) (y5 y6:Option D),
    BW (C0 2 (Aa (AF 5) (Aa (AF 6) C1))) Et g (qs.map E2) [some P,some (.im (.int a)),some (.mu hd.length),some (.mu (hd.length + 1)),some (.im (.int at_)),z5,z6] (hd ++ [.lst (intD found),.lst (intD fresh)]) =
      some (.nx [some P,some (.im (.int a)),some (.mu hd.length),some (.mu (hd.length + 1)),some (.im (.int at_)),y5,y6],hd ++ [.lst (intD (found ++ new)),.lst (intD (fresh ++ new))]) /\
    new.length <= qs.length/\new.Nodup/\(∀ y ∈ new,y ∉ found/\(at_,y) ∈ qs)/\∀ y,(at_,y) ∈ qs->y ∈ found ++ new
  | [],found,fresh,z5,z6,_,_=>⟨[],z5,z6,by simp[GI],by simp,.nil,λ y h=>by simp at h,λ y h=>by simp at h⟩
  | (u,v) :: qs,found,fresh,z5,z6,hf,hr=>by
    simp only[List.length_cons]at hf hr
    have gg:∀ r:Hd,GOk (hd ++ r) g:=λ r=>Tt G r
    have nm:∀ z5 z6:Option D,∀ h:Hd,C0 2 (Aa (AF 5) (Aa (AF 6) C1)) (E2 (u,v)) [some P,some (.im (.int a)),some (.mu hd.length),some (.mu (hd.length + 1)),some (.im (.int at_)),z5,z6] h=some [some P,some (.im (.int a)),some (.mu hd.length),some (.mu (hd.length + 1)),some (.im (.int at_)),some (.im (.int u)),some (.im (.int v))]:=λ z5 z6 h=>by simp[E2]
    have sv:Aw (hd ++ [.lst (intD found),.lst (intD fresh)]) (.mu hd.length)=some (intD found):=by rw[WV,Nb,g0]
    have gi:=in_ints v true sv
    by_cases c:u=at_/\v ∉ found
    . obtain⟨new,y5,y6,q,l,nd,fr,al⟩:=GZ P hd g G a at_ qs (found ++ [v]) (fresh ++ [v]) (some (.im (.int u))) (some (.im (.int v))) (by simp;omega) (by simp;omega)
      refine⟨v :: new,y5,y6,?_,by simp;omega,?_,λ y hy=>?_,λ y hy=>?_⟩
      . have e1:found ++ v :: new=found ++ [v] ++ new:=by simp
        have e2:fresh ++ v :: new=fresh ++ [v] ++ new:=by simp
        rw[e1,e2,<- q,List.map_cons]
        have f1:Cr found.length:=CM (by omega)
        have f2:Cr fresh.length:=CM (by omega)
        refine EU (nm _ _ _) ?_ (gg _)
        simp only[Et,Iy,Lo,Fv,Iw,CS,List.getElem?_cons_zero,List.getElem?_cons_succ,Option.bind_some,HU,Ln,c.1,decide_true,if_true,Bool.false_eq_true,if_false,gi,c.2,decide_false,Bool.not_false,EW,Tx,Nn,Nb,g0,g1,JW,Gm,P8,List.length_map,f1,f2,t0,t1,List.map_append,List.map_cons,List.map_nil]
      . refine List.nodup_cons.mpr ⟨λ h=>(fr v h).1 (by simp),nd⟩
      . rcases List.mem_cons.mp hy with rfl|hy
        . exact⟨c.2,by rw[c.1];exact List.mem_cons_self⟩
        . have:=fr y hy
          exact⟨λ h=>this.1 (by simp[h]),List.mem_cons_of_mem _ this.2⟩
      . rcases List.mem_cons.mp hy with h|h
        . cases h;simp
        . have:=al y h
          simp at this ⊢
          rcases this with h|h|h
          . exact .inl h
          . exact .inr (.inl h)
          . exact .inr (.inr h)
    . obtain⟨new,y5,y6,q,l,nd,fr,al⟩:=GZ P hd g G a at_ qs found fresh (some (.im (.int u))) (some (.im (.int v))) (by omega) (by omega)
      refine⟨new,y5,y6,?_,by simp;omega,nd,λ y hy=>⟨(fr y hy).1,List.mem_cons_of_mem _ (fr y hy).2⟩,λ y hy=>?_⟩
      . rw[<- q,List.map_cons]
        refine EU (nm _ _ _) ?_ (gg _)
        by_cases c1:u=at_
        . have c2:v ∈ found:=Classical.not_not.mp λ h=>c ⟨c1,h⟩
          simp only[Et,Iy,Lo,Fv,Iw,CS,List.getElem?_cons_zero,List.getElem?_cons_succ,Option.bind_some,HU,Ln,c1,decide_true,if_true,Bool.false_eq_true,if_false,gi,c2,Bool.not_true,Mw]
        . simp only[Et,Iy,Lo,Fv,Iw,CS,List.getElem?_cons_zero,List.getElem?_cons_succ,Option.bind_some,HU,Ln,c1,decide_false,if_true,Bool.false_eq_true,if_false,Mw]
      . rcases List.mem_cons.mp hy with h|h
        . cases h
          have c2:v ∈ found:=Classical.not_not.mp λ h=>c ⟨rfl,h⟩
          simp[c2]
        . exact al y h
end Bd
namespace L2
open PySem PySem.Spec PyProof.Rows
theorem Cu(p:Key × D)(r:List (Key × D))(k:Key):BV (p :: r) k=if p.1=k then some p.2 else BV r k:=by
  unfold BV
  rw[List.find?_cons]
  by_cases e:p.1=k <;> simp[e]
theorem Ki(k:Key):∀ kvs:List (Key × D),(kvs.any λ kv=>decide (kv.1=k))=(BV kvs k).isSome
  | []=>rfl
  | p :: r=>by
    rw[List.any_cons,Cu]
    by_cases e:p.1=k
    . simp[e]
    . rw[if_neg e,decide_eq_false e,Bool.false_or];exact Ki k r
theorem Kh(k j:Key)(y:D):∀ kvs:List (Key × D),BV (kvs.map λ kv=>if kv.1=k then(kv.1,y)else kv) j=(BV kvs j).map λ x=>if j=k then y else x
  | []=>rfl
  | p :: r=>by
    have ih:=Kh k j y r
    rw[List.map_cons,Cu,Cu,ih]
    by_cases h:p.1=k
    . rw[if_pos h]
      by_cases e:p.1=j
      . have:j=k:=e.symm.trans h
        simp[e,this]
      . simp[e]
    . rw[if_neg h]
      by_cases e:p.1=j
      . have:¬ j=k:=λ z=>h (e.trans z)
        simp[e,this]
      . simp[e]
theorem Jd(k j:Key)(y:D):∀ kvs:List (Key × D),BV kvs k=none->BV (kvs ++ [(k,y)]) j=if j=k then some y else BV kvs j
  | [],_=>by
    rw[List.nil_append,Cu]
    by_cases e:k=j
    . subst e;simp
    . have:¬ j=k:=λ z=>e z.symm
      simp[e,this]
  | p :: r,hn=>by
    rw[Cu]at hn
    have hk:¬ p.1=k:=λ z=>by rw[if_pos z]at hn;cases hn
    rw[if_neg hk]at hn
    have ih:=Jd k j y r hn
    rw[List.cons_append,Cu,Cu,ih]
    by_cases e:p.1=j
    . have:¬ j=k:=λ z=>hk (e.trans z)
      simp[e,this]
    . simp[e]
theorem Pm(kvs:List (Key × D))(k j:Key)(y:D):BV (E1 kvs k y) j=if j=k then some y else BV kvs j:=by
  unfold E1
  rw[Ki]
  by_cases a:(BV kvs k).isSome=true
  . rw[if_pos a,Kh]
    by_cases e:j=k
    . subst e
      obtain⟨x,hx⟩:=Option.isSome_iff_exists.mp a
      simp[hx]
    . simp[e]
  . rw[if_neg a]
    exact Jd k j y kvs (by simpa using a)
theorem LF(kvs:List (Key × D))(k:Key)(y:D):(E1 kvs k y).length <= kvs.length + 1:=by
  unfold E1
  split <;> simp
noncomputable def DicI(kvs:List (Key × D))(g:Nat->Option Int):Prop:=∀ k:Nat,BV kvs (.inl (k:Int))=(g k).map λ v=>.im (.int v)
theorem DicI.put{kvs:List (Key × D)}{g:Nat->Option Int}(h:DicI kvs g)(k:Nat)(v:Int):DicI (E1 kvs (.inl (k:Int)) (.im (.int v))) λ j=>if j=k then some v else g j:=λ j=>by
  rw[Pm]
  by_cases e:j=k
  . subst e;simp
  . have:¬ (Sum.inl (j:Int):Key)=Sum.inl (k:Int):=λ z=>e (by have:=Sum.inl.inj z;omega)
    rw[if_neg this];dsimp only;rw[if_neg e];exact h j
section
variable{ls:Ls}{hd:Hd}{QE:D->Hd->Prop}{QI:List D × Gd->Hd->Prop}{ma:ME}{n:MG}{ta:MT}{mi:MI}{m:MA}
theorem Hc{d:D}{kvs:List (Key × D)}{g:Nat->Option Int}{k:Nat}{v:Int}(e1:CT hd d=some kvs)(h:DicI kvs g)(e:g k=some v)(q:QE (.im (.int v)) hd):WP (FN d (.im (.int (k:Int))) hd) QE:=
  SR e1 rfl (by rw[h k,e];rfl) q
theorem MP{d:D}{kvs:List (Key × D)}{g:Nat->Option Int}{k:Nat}{neg:Bool}(e1:CT hd d=some kvs)(h:DicI kvs g)(q:QE (.im (.bl (if neg then !(g k).isSome else(g k).isSome))) hd):WP (Ht neg (.im (.int (k:Int))) d hd) QE:=
  UB e1 rfl (by rw[h k,Option.isSome_map];exact q)
theorem UA{d:D}{xs:List Int}{x:Int}{neg:Bool}(e1:Aw hd d=some (Bd.intD xs))(q:QE (.im (.bl (if neg then !decide (x ∈ xs)else decide (x ∈ xs)))) hd):WP (gIn neg (.im (.int x)) d hd) QE:=WP.eq (Bd.in_ints x neg e1) q
theorem SV{mm:Ls->Hd->Option (List (Key × D) × Hd)}(h:WP (mm ls hd) λ kvs x=>QE (.mu x.length) (x ++ [.dic kvs])):WE (KM mm) ls hd QE:=WP.bind (h.mono λ _ _ q=>WP.some q)
theorem Pi{α:Type}{k:Nat}{ix:List Nat}{a0:α}{me:MM α}{Q:α->Hd->Prop}(h:WI mi ls hd λ p x=>WP (mGo n ta me p.2 p.1 (C5 k ix ls) x a0) Q):WP (Ih k ix mi n ta a0 me ls hd) Q:=WP.bind (h.mono λ _ _ q=>q)
theorem Kd{α:Type}{me:MM α}{g:Gd}{Q:α->Hd->Prop}(P:List D->α->Ls->Hd->Prop):∀ {ds:List D} {a:α} {ls:Ls} {hd:Hd},P ds a ls hd ->
    (∀ d r a ls hd,P (d :: r) a ls hd->∃ ls1,n d ls hd=some ls1/\WT ta ls1 hd λ c x=>if c=true then WP (me ls1 x a) λ a' y=>GOk y g/\P r a' ls1 y else GOk x g/\P r a ls1 x) ->
    (∀ a ls hd,P [] a ls hd->Q a hd)->WP (mGo n ta me g ds ls hd a) Q
  | [],a,ls,hd,h,k,z=>⟨_,_,by unfold mGo;rfl,z _ _ _ h⟩
  | d :: r,a,ls,hd,h,k,z=>by
    obtain⟨ls1,e1,c,x,e2,q⟩:=k d r a ls hd h
    unfold mGo
    rw[e1,Option.bind_some,e2,Option.bind_some]
    cases c with
    | true=>
      rw[if_pos rfl]at q ⊢
      obtain⟨a',y,e3,g3,p3⟩:=q
      rw[e3,Option.bind_some]
      dsimp only
      rw[if_pos g3]
      exact Kd P p3 k z
    | false=>
      rw[if_neg Bool.false_ne_true]at q ⊢
      dsimp only
      rw[if_pos q.1]
      exact Kd P q.2 k z
theorem UC{mk mv:ME}{a:List (Key × D)}{Q:List (Key × D)->Hd->Prop}(h:WE mk ls hd λ d x=>WE mv ls x λ e y=>∃ k,Ce d=some k/\Cr a.length/\Q (E1 a k e) y):WP (Ic mk mv ls hd a) Q:=by
  obtain⟨d,x,e1,e,y,e2,k,e3,c,q⟩:=h
  exact⟨_,_,by simp only[Ic,e1,Option.bind_some,e2,e3,c,if_true],q⟩
theorem Ci{α:Type}{g:Gd}{QA:List D->Hd->Prop}(inj:α->D)(f:α->Option D)(L:D->Ls->Prop)(l0:Ls){xs:List α}{hd:Hd}(hg:GOk hd g)
    (k:∀ x ∈ xs,∀ ls,ls=l0 ∨ (∃ d,L d ls)->∃ ls1,n (inj x) ls hd=some ls1/\L (inj x) ls1/\WT ta ls1 hd λ c y=>y=hd/\if c=true then ∃ z,f x=some z/\WE ma ls1 hd λ e y=>y=hd/\e=z else f x=none)
    (q:QA (xs.filterMap f) hd):WP (BG n ta ma g (xs.map inj) l0 hd) QA:=by
  have go:∀ (xs':List α) (ls:Ls),(∀ x ∈ xs',x ∈ xs)->(ls=l0 ∨ ∃ d,L d ls)->BG n ta ma g (xs'.map inj) ls hd=some (xs'.filterMap f,hd):=by
    intro xs'
    induction xs' with
    | nil=>intro ls _ _;unfold BG;rfl
    | cons x r ih=>
      intro ls hs hl
      obtain⟨ls1,e1,L1,c,y,e2,rfl,q⟩:=k x (hs x List.mem_cons_self) ls hl
      have ih:=ih ls1 (λ z hz=>hs z (List.mem_cons_of_mem _ hz)) (.inr ⟨_,L1⟩)
      rw[List.map_cons]
      unfold BG
      rw[e1,Option.bind_some,e2,Option.bind_some]
      cases c with
      | true=>
        rw[if_pos rfl]at q
        obtain⟨z,ez,e,y,e3,rfl,rfl⟩:=q
        rw[if_pos rfl,e3,Option.bind_some]
        dsimp only
        rw[if_pos hg,ih,List.filterMap_cons,ez]
        rfl
      | false=>
        rw[if_neg Bool.false_ne_true]at q
        rw[if_neg Bool.false_ne_true]
        dsimp only
        rw[if_pos hg,ih,List.filterMap_cons,q]
  exact⟨_,_,go xs l0 (λ _ h=>h) (.inl rfl),q⟩
end
end L2
namespace L2
open PySem PySem.Spec PyProof.Rows
section
variable{K:PySem.W.Frag}{ρ ρ':List Addr}{H H':Hp}{hd hd':Hd}
noncomputable def YX(neg:Bool)(ma:ME)(ml:MA):ME:=λ ls hd=>(ma ls hd).bind λ p=>(ml ls p.2).bind λ q=>match p.1 with
  | .im i=>(FO i).bind λ x=>(DF q.1).map λ xs=>(.im (.bl (if neg then !inV x xs else inV x xs)),q.2)
  | _=>none
open Classical in
noncomputable def LU(ml:MA)(mb:ME):MA:=λ ls hd=>(ml ls hd).bind λ p=>(mb ls p.2).bind λ q=>match q.1 with
  | .im (.int k)=>if(0 <= k/\k <= 1000)/\Bs (p.1.length * k.toNat)then some ((List.replicate k.toNat p.1).flatten,q.2)else none
  | _=>none
theorem RDs.rep{ds:List D}{xs:List V}(r:RDs K ρ H ds xs):∀ n,RDs K ρ H (List.replicate n ds).flatten (List.replicate n xs).flatten
  | 0=>by simp[RDs]
  | n + 1=>by
    simp only[List.replicate_succ,List.flatten_cons]
    exact r.app (r.rep n)
theorem UW{ta tb:TE}{ml:MA}{mb:ME}(ha:RN K ta ml)(hb:RE K tb mb):RN K (tOp Qb ta tb) (LU ml mb):=by
  intro ρ σ H hd ls Q d hd' hR hL hm hQ
  obtain⟨⟨d1,h1⟩,e1,hm⟩:=Option.bind_eq_some_iff.mp hm
  obtain⟨⟨d2,h2⟩,e2,hm⟩:=Option.bind_eq_some_iff.mp hm
  dsimp only at hm
  split at hm
  . next k=>
    split at hm
    . next c=>
      cases hm
      refine ha ρ σ H hd ls _ d1 h1 hR hL e1 λ ρ1 H1 a xs x1 R1 na oa ea r1=>?_
      refine hb ρ1 σ H1 h1 ls _ _ _ R1 (hL.ext hR x1) e2 λ ρ2 H2 v2 x2 R2 r2=>?_
      simp only[RD,RI]at r2
      subst r2
      have ea2:=x2.keep a _ ea oa nt
      refine⟨a,k,xs,rfl,rfl,ea2,by omega,by omega,by rw[r1.len];exact c.2,λ p hp=>?_⟩
      obtain⟨R3,x3⟩:=R2.hid (ho:=.lst (List.replicate k.toNat xs).flatten) hp
      have x12:=x1.trans R1 x2
      exact hQ ρ2 _ p _ (x12.trans R2 x3) R3 (x12.none hR hp R2) (R2.out hp) AQ (((r1.ext R1 x2).rep k.toNat).ext R2 x3)
    . cases hm
  . cases hm
theorem Uz(K:PySem.W.Frag){X:Cx}{a b:Expr}{ta tb:TE}{ml:MA}{mb:ME}{pos:Pos}(ha:QN K X a ta ml)(hb:QE K X b tb mb):QN K X (.BinOp a .Mult b pos) (tOp Qb ta tb) (LU ml mb):=⟨NV Vb ha.p hb.p,UW ha.r hb.r⟩
end
section
variable{ls:Ls}{hd:Hd}{ma mb:ME}{m ml:MA}{QE:D->Hd->Prop}{QA:List D->Hd->Prop}
end
end L2
namespace L2
open PySem PySem.Spec PyProof.Rows
section
variable{ls:Ls}{hd:Hd}{ma:ME}{n n2:MG}{c c2:MT}{mi mi2:MI}{QE:D->Hd->Prop}
end
noncomputable abbrev blD(bs:List Bool):List D:=bs.map λ b=>D.im (.bl b)
end L2
namespace L2
open PySem PySem.Spec PyProof.Rows
section
variable{X:Cx}{pins:List (Addr × Obj)}{σ:St}{H:Hp}{s:Shared}{A:Around}{E:Value->Shared->Prop}{Q:Value->Shared->Prop}
end
section
variable{K:PySem.W.Frag}{ρ ρ':List Addr}{H H':Hp}{hd hd':Hd}
end
section
variable{ls:Ls}{hd:Hd}{ma mo mi me:ME}{QE:D->Hd->Prop}{QS:Fl->Hd->Prop}
end
end L2
namespace L2
open PySem PySem.Spec PyProof.Rows
section
variable{X:Cx}{a:Expr}{ta:TE}
end
section
variable(K:PySem.W.Frag){X:Cx}{a:Expr}{ta:TE}{ma:ME}{b:Bool}{j:_}{pos pos':Pos}
end
end L2
namespace L2
open PySem PySem.Spec PyProof.Rows
section
variable{X:Cx}
end
section
variable{K:PySem.W.Frag}
end
noncomputable def Me:V->List V->Hp->VK->Prop:=λ x vs H Q=>∃ (l:Addr) (xs:List V) (i:Int) (k:Nat) (y:V),x=.ref l/\vs=[.int i,y]/\i=(k:Int)/\H l=some (.lst xs)/\k <= xs.length/\xs.length < sizeLine/\Q .non (upd H l (.lst (xs.take k ++ y :: xs.drop k)))
theorem Om{X:Cx}:MtM X "list.insert" Me:=by
  intro pins s σ H x vs v us Q I rx rv h
  obtain⟨l,xs,i,k,y,rfl,rfl,hi,hH,hk,hz,q⟩:=h
  cases rx
  obtain⟨u,w,rfl,ru,rw'⟩:=IC rv
  obtain⟨t,rfl⟩:=ru
  obtain⟨z,its,n,r,hl,e⟩:=I.lstM hH
  have h1:its.toArray.size <= sizeLine:=by rw[List.size_toArray,<- hl];exact z
  have hkl:k <= its.length:=by rw[<- hl];exact hk
  have hf:¬ (!Builtin.List.listFitsIndex i)=true:=by
    have h3:=Fk
    have h4:=Nat.lt_of_le_of_lt hk hz
    rw[fitsIndex_both (k:=i) (by omega) (by omega)];decide
  have M:=AutoSeq1.list_insert_list_int_val_1 l its.toArray n i t w hf
  have M:=M h1
  refine call_meets F.slot_list_insert ⟨_,e,rfl⟩ F.entry_list_insert (F.args_list_insert_3 _ _ _) M ⟨e,?_⟩
  . refine⟨.non,_,I.lset (its':=its.take k ++ w :: its.drop k) hH e ?_ ((r.take k).append (.cons rw' (r.drop k))) ?_,rfl,q⟩
    . show((its.toArray.extract 0 (if i < 0 then(i + (its.toArray.size:Int)).toNat else min i.toNat its.toArray.size)).push w ++ its.toArray.extract (if i < 0 then(i + (its.toArray.size:Int)).toNat else min i.toNat its.toArray.size))=_
      have e1:(if i < 0 then(i + (its.toArray.size:Int)).toNat else min i.toNat its.toArray.size)=k:=by
        rw[if_neg (by omega),hi,Int.toNat_natCast,List.size_toArray];omega
      rw[e1]
      apply Array.ext'
      simp[List.extract_eq_drop_take]
      try exact List.take_of_length_le (by simp)
    . rw[List.length_append,List.length_take,List.length_cons,List.length_drop]
      have:=Nat.succ_le_of_lt hz
      rw[Nat.min_eq_left hk]
      omega
open Classical in
noncomputable def Fu:D->List D->Hd->Option (D × Hd)
  | .mu n,[.im (.int i),y],hd=>match hd[n]? with
    | some (.lst ds)=>if 0 <= i/\i <= ds.length/\Cr ds.length then some (.im .non,hd.set n (.lst (ds.take i.toNat ++ y :: ds.drop i.toNat)))else none
    | _=>none
  | _,_,_=>none
section
variable{K:PySem.W.Frag}{ρ ρ':List Addr}{H H':Hp}{hd hd':Hd}
theorem RDs.takeD:∀ {ds:List D} {xs:List V} (k:Nat),RDs K ρ H ds xs->RDs K ρ H (ds.take k) (xs.take k)
  | [],xs,k,h=>by simp only[RDs]at h;subst h;simp[RDs]
  | d :: ds,xs,0,h=>by simp[RDs]
  | d :: ds,xs,k + 1,h=>by
    simp only[RDs]at h
    obtain⟨x,r,rfl,h1,h2⟩:=h
    simp only[List.take_succ_cons,RDs]
    exact⟨x,_,rfl,h1,RDs.takeD k h2⟩
theorem RDs.dropD:∀ {ds:List D} {xs:List V} (k:Nat),RDs K ρ H ds xs->RDs K ρ H (ds.drop k) (xs.drop k)
  | [],xs,k,h=>by simp only[RDs]at h;subst h;simp[RDs]
  | d :: ds,xs,0,h=>by simpa using h
  | d :: ds,xs,k + 1,h=>by
    simp only[RDs]at h
    obtain⟨x,r,rfl,h1,h2⟩:=h
    simp only[List.drop_succ_cons]
    exact RDs.dropD k h2
theorem OP:RM K Me Fu:=by
  intro ρ H hd d v ds vs Q z hd' hR h1 h2 hf hQ
  unfold Fu at hf
  split at hf
  . next n i y=>
    split at hf
    . next es q=>
      split at hf
      . next c=>
        cases hf
        simp only[RD]at h1
        obtain⟨a,hn,rfl⟩:=h1
        simp only[RDs,RD,RI]at h2
        obtain⟨x,r,rfl,rfl,y',r',rfl,hy,rfl⟩:=h2
        obtain⟨xs,f1,f2⟩:=hR.lst hn q
        have l:=f2.len
        obtain⟨R2,x2⟩:=hR.put hn (o:=.lst (es.take i.toNat ++ y :: es.drop i.toNat)) (ho:=.lst (xs.take i.toNat ++ y' :: xs.drop i.toNat)) ⟨_,rfl,(RDs.takeD _ f2).app (.cons hy (RDs.dropD _ f2))⟩
        exact⟨a,xs,i,i.toNat,y',rfl,rfl,by omega,f1,by omega,by rw[l];exact c.2.2,hQ ρ _ _ x2 R2 (by simp[RD,RI])⟩
      . cases hf
    . cases hf
  . cases hf
end
theorem O7{hd:Hd}{k:Nat}{i:Int}{y:D}{ds:List D}{QE:D->Hd->Prop}(e1:hd[k]? = some (.lst ds))(c1:0 <= i)(c2:i <= ds.length)(c3:Cr ds.length)(q:QE (.im .non) (hd.set k (.lst (ds.take i.toNat ++ y :: ds.drop i.toNat)))):WP (Fu (.mu k) [.im (.int i),y] hd) QE:=by
  refine⟨_,_,?_,q⟩
  simp only[Fu,e1,c1,c2,c3,and_self,if_true]
end L2
namespace HT
open PySem PySem.Spec PyProof.Rows
section
variable{prog:Program}{w:World}{A:Around}{E:Value->Shared->Prop}{s:Shared}
end
end HT
namespace L2
open PySem PySem.Spec PyProof.Rows
section
variable{X:Cx}
end
section
variable{K:PySem.W.Frag}{ρ ρ':List Addr}{H H':Hp}{hd hd':Hd}
end
section
variable{X:Cx}
end
section
variable{X:Cx}
end
end L2
namespace L2
open PySem PySem.Spec PyProof.Rows
section
variable{prog:Program}{w:World}{A:Around}{E:Value->Shared->Prop}{s:Shared}
end
end L2
namespace L2
open PySem PySem.Spec PyProof.Rows
section
variable(K:PySem.W.Frag){X:Cx}
end
section
variable{K:PySem.W.Frag}
end
end L2
namespace L2
end L2
namespace L2
open PySem PySem.Spec PyProof.Rows
section
variable{K:PySem.W.Frag}{ρ ρ':List Addr}{H H':Hp}{hd hd':Hd}
noncomputable def Nm:List D->Hd->Option (D × Hd)
  | [.im (.int i)],hd=>some (.im (.int i),hd)
  | [.im (.bl b)],hd=>some (.im (.int (if b then 1 else 0)),hd)
  | _,_=>none
theorem Ug:RF K (λ xs H Q=>(∃ i,xs=[.int i]/\Q (.int i) H) ∨ ∃ k,xs=[.bl k]/\Q (.int (if k then 1 else 0)) H) Nm:=by
  intro ρ H hd ds vs Q z hd' hR h1 hf hQ
  unfold Nm at hf
  split at hf
  . cases hf
    simp only[RDs,RD,RI]at h1
    obtain⟨x,r,rfl,rfl,rfl⟩:=h1
    exact .inl ⟨_,rfl,hQ ρ H _ .refl hR (by simp[RD,RI])⟩
  . cases hf
    simp only[RDs,RD,RI]at h1
    obtain⟨x,r,rfl,rfl,rfl⟩:=h1
    exact .inr ⟨_,rfl,hQ ρ H _ .refl hR (by simp[RD,RI])⟩
  . cases hf
end
section
variable{hd:Hd}{QE:D->Hd->Prop}
end
end L2
namespace L2
open PySem PySem.Spec PyProof.Rows PySem.W
section
variable{prog:Program}{w:World}{A:Around}{E:Value->Shared->Prop}{s:Shared}
end
end L2
namespace L2
open PySem PySem.Spec PyProof.Rows PySem.W
section
variable{X:Cx}{pins:List (Addr × Obj)}{σ:St}{H:Hp}{s:Shared}{a:Addr}
end
end L2
namespace L2
open PySem PySem.Spec PyProof.Rows PySem.W
section
variable{X:Cx}{pins:List (Addr × Obj)}{σ:St}{H:Hp}{s:Shared}
theorem FpOk.more{b c:Addr}{o:Obj}(f:FpOk X pins H b)(h:c ≠ b):FpOk X ((c,o) :: pins) H b:=by
  obtain⟨a1,a2,a3,a4,a5,a6⟩:=f
  refine⟨a1,a2,a3,a4,a5,λ p hp=>?_⟩
  rcases List.mem_append.mp hp with q|q
  . exact a6 p (List.mem_append_left _ q)
  . rcases List.mem_cons.mp q with rfl|q
    . exact h
    . exact a6 p (List.mem_append_right _ q)
theorem Inv.repin{b:Addr}{o:Obj}(I:Inv X pins σ H s)(f:FpOk X pins H b)(e:s.heap.get? b=some o)(hd:∀ v,o.data ≠ .cell v):Inv X ((b,o) :: pins) σ H s:=
  I.pins_of λ p hp=>by
    rcases List.mem_cons.mp hp with rfl|hp
    . exact⟨e,f.1,f.2.1,f.2.2.1,hd⟩
    . exact I.pin p (List.mem_append_right _ hp)
end
end L2
namespace L2
open PySem PySem.Spec PyProof.Rows PySem.W
section
variable{X:Cx}{c P:Addr}{scope:Scope}{fr:List Str}{ix:List Nat}{prm:Str}{params:Arguments}{body e:Expr}{p pos lpos kpos:Pos}{te tb:TE}
end
end L2
namespace L2
open PySem PySem.Spec PyProof.Rows PySem.W
noncomputable def HX(K:PySem.W.Frag)(P:Addr)(q:Str)(pos:Pos):Prop:=∃ p':Pos,(P,q,p') ∈ Dw K/\((Dw K).map (·.1)).Nodup/\p'.line=pos.line/\p'.col=pos.col
section
variable{K:PySem.W.Frag}{ρ:List Addr}{H:Hp}{hd:Hd}
theorem Kl{P:Addr}{q:Str}{pos:Pos}{H2:Hp}{ps:Array Value}(R:RH K ρ H hd)(hP:H P=some (.tbl ps))(t:Ek P q pos H H2)(TI:HX K P q pos):RH K ρ H2 hd/\Ext ρ H ρ H2:=by
  rcases t with rfl|⟨c,hc,ncP,rfl⟩
  . exact⟨R,.refl⟩
  . obtain⟨p',et,nd,e1,e2⟩:=TI
    have nP:∀ b,b ∈ ρ->b ≠ P:=λ b hb z=>by
      subst z
      rcases R.mut hb with⟨y,w⟩|⟨y,w⟩ <;> (rw[hP]at w;cases w)
    have nc:∀ b u,H b=some u->b ≠ c:=λ b u e=>Ae e hc
    have ex:Ext ρ H ρ (upd (upd H P (.tbl #[rawInt pos.line,rawInt pos.col,.ref c])) c (.ext (cdF c q))):=by
      refine⟨⟨[],by simp,by simp⟩,λ b o e nb nt'=>?_,λ b ps e=>?_⟩
      . rw[AE (nc b _ e),AE (λ z=>by subst z;rw[hP]at e;cases e;exact nt' _ rfl)];exact e
      . by_cases z:b=P
        . subst z;exact⟨_,by rw[AE (nc _ _ hP),AQ]⟩
        . exact⟨ps,by rw[AE (nc b _ e),AE z];exact e⟩
    refine⟨⟨R.len,R.nd,λ x hx=>?_,λ n o a h1 h2=>?_⟩,ex⟩
    . by_cases hxP:x.1=P
      . have ex:x=(P,q,p'):=by
          obtain⟨i,hi⟩:=List.mem_iff_getElem?.mp hx
          obtain⟨j,hj⟩:=List.mem_iff_getElem?.mp et
          have i1:((Dw K).map (·.1))[i]? = some P:=by rw[List.getElem?_map,hi];simp[hxP]
          have j1:((Dw K).map (·.1))[j]? = some P:=by rw[List.getElem?_map,hj];rfl
          have:i=j:=(List.getElem?_inj (List.getElem?_eq_some_iff.mp i1).1 nd).mp (i1.trans j1.symm)
          subst this
          exact Option.some.inj (hi.symm.trans hj)
        subst ex
        refine⟨#[rawInt pos.line,rawInt pos.col,.ref c],by rw[AE (nc _ _ hP),AQ],.inr ⟨c,?_,AQ⟩⟩
        show #[rawInt pos.line,rawInt pos.col,Value.ref c]=#[rawInt p'.line,rawInt p'.col,Value.ref c]
        rw[e1,e2]
      . obtain⟨ps',hx1,hG⟩:=R.tabs x hx
        refine⟨ps',by rw[AE (nc _ _ hx1),AE hxP];exact hx1,?_⟩
        rcases hG with g|⟨c',g1,g2⟩
        . exact .inl g
        . exact .inr ⟨c',g1,by rw[AE (nc _ _ g2),AE (λ z=>by subst z;rw[hP]at g2;cases g2)];exact g2⟩
    . obtain⟨ho,q1,q2⟩:=R.ob n o a h1 h2
      exact⟨ho,by rw[AE (nc a _ q1),AE (nP a (List.mem_of_getElem? h2))];exact q1,by simpa using q2.mono (ex.grow R) []⟩
end
end L2
namespace L2
open PySem PySem.Spec PyProof.Rows PySem.W
structure LamC(K:PySem.W.Frag)(mg:Str->Option Value)(base:Heap)(fd:FuncData)(c P:Addr)(q:Str)(pos:Pos):Prop where
  code:fd.code=.ref c
  hd:CodeHd base c P
  bl:base.BuiltinsAt mg P
  ti:HX K P q pos
theorem LN{P:Program}{w:World}{K:PySem.W.Frag}{mg:Str->Option Value}{base:Heap}{x:Str}{st:Stmt}{f:Addr}{fd:FuncData}{N ps:List Str}{j:Nat}{m:MS}(DA:DefAt K mg x st f fd ps)(S:FnScope N ps (A8 st))
    (h:∀ (cdv:Value) (A:Around) (outer:List Env) (s:Shared) (H:Hp) (E:XK),fd.code=cdv->Room j (A.deeper (envOfC x (A8 st) s.heap.objs.size f cdv))->∃ t,QSs K (Gn CX0 P w K mg base N x (A8 st) f cdv A outer s H E).nox (AV st) t m) :
    FnOk P w K mg base CX0 (j + 1) f fd ps (spF K ps.length (mkF ps.length N.length m)):=by
  obtain⟨F,hmg,bd⟩:=DA
  obtain⟨⟨oc,od,kV,doc,pm,an,cdv,ct,osl,rfl,lk,hcd⟩,kp⟩:=F
  refine SH lk hcd S (λ vs H Q E h=>h.1) λ A outer s H vs Q E hr hs=>?_
  obtain⟨t,q⟩:=h cdv A outer s H E rfl hr
  exact⟨t,q.p.nox,MU q.r hs⟩
end L2
namespace HT
open PySem PyProof.Rows
end HT
namespace L2
open PySem PySem.Spec PyProof.Rows
section
variable{X:Cx}
end
section
variable{K:PySem.W.Frag}
end
end L2
namespace HT
open PySem PyProof.Rows
open PySem.AutoSeq1 (wpAny_loadPart')
section
variable{prog:Program}{w:World}{A:Around}{E:Value->Shared->Prop}{s:Shared}
end
end HT
namespace L2
open PySem PySem.Spec PyProof.Rows
end L2
namespace HS
open PySem PyProof.Rows
open PySem.AutoSeq1 (wpAny_loadPart')
open Sem (wp)
noncomputable abbrev st(t:Tok):List (Str × Value):=[(Str.ofString "start",.int 1 t)]
section
variable{prog:Program}{w:World}{A:Around}{E:Value->Shared->Prop}{s:Shared}
end
end HS
namespace L2
open PySem PySem.Spec PyProof.Rows
section
variable{K:PySem.W.Frag}
end
end L2
namespace HR
open PySem PyProof.Rows
open Sem (wp)
section
variable{prog:Program}{w:World}{A:Around}{E:Value->Shared->Prop}{s:Shared}
end
section
variable{prog:Program}{w:World}{A:Around}{R:Result->Shared->Prop}
end
section
variable{prog:Program}{w:World}{A:Around}{R:Result->Shared->Prop}{s:Shared}
end
section
variable{prog:Program}{w:World}{A:Around}{E:Value->Shared->Prop}{s:Shared}
end
end HR
namespace L2
open PySem PySem.Spec PyProof.Rows
section
variable{K:PySem.W.Frag}
end
end L2
namespace L2
open PySem PySem.Spec PyProof.Rows PySem.W
noncomputable def FG(op:Int->Int->Bool)(src:Hp->List V->Prop)(G:Hp->Prop)(tb:TE)(cap:St):Nat->Nat->V->Int->Hp->VK->Prop
  | 0,j,b,_,H,Q=>(∃ xs,src H xs/\xs.length=j)/\Q b H
  | m + 1,j,b,kb,H,Q=>∃ xs x,src H xs/\xs[j]? = some x/\G H/\tb (some x :: cap) H λ k H1=>∃ n:Int,k=.int n/\(if op n kb=true then FG op src G tb cap m (j + 1) x n H1 Q else FG op src G tb cap m (j + 1) b kb H1 Q)
noncomputable def Fy(op:Int->Int->Bool)(src:Hp->List V->Prop)(G:Hp->Prop)(tb:TE)(cap:St)(m:Nat)(H:Hp)(Q:VK):Prop:=
  ∃ xs x,src H xs/\xs[0]? = some x/\G H/\tb (some x :: cap) H λ k H1=>∃ n:Int,k=.int n/\FG op src G tb cap m 1 x n H1 Q
theorem Inv.turnE{X:Cx}{pins:List (Addr × Obj)}{σ:St}{H:Hp}{s:Shared}{b:Addr}{o:Obj}{h':Heap}{t':Nat}(I:Inv X ((b,o) :: pins) σ H s)(f:FpOk X pins H b)(hs:∀ c u,c ≠ b->s.heap.get? c=some u->h'.get? c=some u):Inv X pins σ H { s with heap:=h',toks:=t' }:=by
  have J:Inv X pins σ H s:=I.pins_of λ p hp=>I.pin p (List.mem_append_right _ (List.mem_cons_of_mem _ hp))
  obtain⟨hn,hL,_,h1,h2,h3⟩:=f
  exact J.turned (λ c u n e=>hs c u n e) hn hL h1 h2 h3
section
variable{X:Cx}{pins:List (Addr × Obj)}{σ:St}{l f It S:Addr}{src:Hp->List V->Prop}{G:Hp->Prop}{tb:TE}{cap:St}{Q:VK}{E:Value->Shared->Prop}
theorem R9(hh:X.A.handled=none)
    (hsrc:∀ pins' H' s' xs,Inv X pins' σ H' s'->src H' xs->∃ its:List Value,Vals xs its/\s'.heap.IsList l its.toArray) (hSI:S ≠ It) (n0:Nat) (hI0:∀ H',H' It=none->FpOk X pins H' It) (hS0:∀ H',H' S=none->FpOk X pins H' S)
    (turn:∀ (pins':List (Addr × Obj)) (H1:Hp) (s1:Shared) (x:V) (u:Value) (Q1:VK),(∀ p ∈ pins,p ∈ pins')->Inv X pins' σ H1 s1->RelV x u->G H1->tb (some x :: cap) H1 Q1->wpAny (model X.prog X.w) X.A.in1 (call (.ref f) [u]) (EP X pins' σ Q1) (λ _ _=>False) s1) :
    ∀ (m:Nat) (j:Nat) (b:V) (vb:Value) (kb:Int) (tk:Tok) (c:Nat) (oI:Obj) (H:Hp) (s:Shared),Inv X ((S,seqObj "list" #[vb,.int kb tk] c) :: (It,oI) :: pins) σ H s->s.heap.IsListIter It l j->RelV b vb ->
      FG (λ n m=>decide (n > m)) src G tb cap m j b kb H Q->codeAny (model X.prog X.w) X.A (.builtin "max.loop" ⟨[.ref It,.ref f,.ref S],[]⟩) (λ r s'=>match r with | .ok (.ret v)=>EP X pins σ Q v s' | .ok _=>False | .error e=>E e s') s:=by
  have hname:(toString "max" ++ toString ".loop":String)="max.loop":=by decide
  intro m
  induction m with
  | zero=>
    intro j b vb kb tk c oI H s J hit rb hgo
    obtain⟨⟨xs,hG,hje⟩,hQ⟩:=hgo
    have nS:=J.pin (S,seqObj "list" #[vb,.int kb tk] c) (List.mem_append_right _ List.mem_cons_self)
    have nI:=J.pin (It,oI) (List.mem_append_right _ (List.mem_cons_of_mem _ List.mem_cons_self))
    refine codeAny_builtin PySem.F.entry_max_loop ?_
    rw[Around.under_plainId PySem.F.plain_max_loop _]
    show wpAny _ X.A.in1 (seqItems? (.ref S) >>= _) _ _ _
    refine wpAny_bind (wpAny_seqItems nS.1 rfl ?_)
    show wpAny _ X.A.in1 (tryCatch (pyNext (.ref It)) _ >>= _) _ _ _
    obtain⟨its,hv,hil⟩:=hsrc _ _ _ _ J hG
    have hlen:=hv.length
    refine wpAny_bind (wpAny_tryCatch (wpAny_pyNext_list_end hh hit hil (by simp;omega) λ h' hk'=>?_))
    have hS':=hk' S _ hSI nS.1
    have s1:=Heap.SameBut.update h' S (Obj.mapSeq λ _=>(#[]:Array Value))
    show wpAny _ X.A.in1 (updateSeq S (λ _=>#[]) >>= _) _ _ _
    refine wpAny_bind ?_
    refine wpAny_updateSeq hS' rfl (wpAny_bind (wpAny_letGo (wpAny_pure ?_)))
    have J1:Inv X ((It,oI) :: pins) σ H s:=J.pins_of λ p hp=>J.pin p (List.mem_append_right _ (List.mem_cons_of_mem _ hp))
    have J2:Inv X pins σ H { s with heap:=h',toks:=s.toks }:=J1.turnE (hI0 H nI.2.1) λ c u n e=>hk' c u n e
    have J3:=(J2.repin (hS0 H nS.2.1) hS' (λ v z=>by cases z)).turnE (t':=s.toks) (hS0 H nS.2.1) λ c u n e=>(s1.2 c n).trans e
    exact⟨b,H,J3,rb,hQ⟩
  | succ m ih=>
    intro j b vb kb tk c oI H s J hit rb hgo
    obtain⟨xs,x,hsr,hxj,hG,hgo⟩:=hgo
    obtain⟨its,hv,hil⟩:=hsrc _ _ _ _ J hsr
    obtain⟨u,hu,ru⟩:=hv.get hxj
    have nS:=J.pin (S,seqObj "list" #[vb,.int kb tk] c) (List.mem_append_right _ List.mem_cons_self)
    have nI:=J.pin (It,oI) (List.mem_append_right _ (List.mem_cons_of_mem _ List.mem_cons_self))
    refine codeAny_builtin PySem.F.entry_max_loop ?_
    rw[Around.under_plainId PySem.F.plain_max_loop _]
    show wpAny _ X.A.in1 (seqItems? (.ref S) >>= _) _ _ _
    refine wpAny_bind (wpAny_seqItems nS.1 rfl ?_)
    show wpAny _ X.A.in1 (tryCatch (pyNext (.ref It)) _ >>= _) _ _ _
    refine wpAny_bind (wpAny_tryCatch (wpAny_pyNext_list_item hit hil (x:=u) (by simpa using hu) λ h' hit' hs'=>?_))
    obtain⟨oI',hoI',hoc,hod⟩:=id hit'
    have hSh':h'.get? S=some (seqObj "list" #[vb,.int kb tk] c):=(hs'.2 S hSI).trans nS.1
    have dI:∀ v,oI'.data ≠ .cell v:=λ v z=>by rw[hod]at z;cases z
    have J1:Inv X ((It,oI) :: pins) σ H s:=J.pins_of λ p hp=>J.pin p (List.mem_append_right _ (List.mem_cons_of_mem _ hp))
    have J2:Inv X pins σ H { s with heap:=h',toks:=s.toks }:=J1.turnE (hI0 H nI.2.1) λ c u n e=>(hs'.2 c n).trans e
    have J3:=(J2.repin (hI0 H nI.2.1) hoI' dI).repin ((hS0 H nS.2.1).more hSI.symm) hSh' (λ v z=>by cases z)
    show wpAny _ X.A.in1 (tryCatch (holding [u] (call (.ref f) [u])) _ >>= _) _ _ _
    refine wpAny_bind (wpAny_tryCatch (wpAny_holding (wpAny_mono (turn _ H _ x u _ (λ p hp=>List.mem_cons_of_mem _ (List.mem_cons_of_mem _ hp)) J3 ru hG hgo) (λ v s2 he=>?_) λ _ _ hF=>hF.elim)))
    obtain⟨k,H2,J4,rk,n,rfl,hgo2⟩:=he
    obtain⟨t2,rfl⟩:=rk
    have nS2:=J4.pin (S,seqObj "list" #[vb,.int kb tk] c) (List.mem_append_right _ List.mem_cons_self)
    have nI2:=J4.pin (It,oI') (List.mem_append_right _ (List.mem_cons_of_mem _ List.mem_cons_self))
    show wpAny _ X.A.in1 (tryCatch (holding [u,.int n t2] (richCompare .Gt (.int n t2) (.int kb tk) >>= _)) _ >>= _) _ _ _
    refine wpAny_bind (wpAny_tryCatch (wpAny_holding (wpAny_bind (richCompare_gives (op:=.Gt) (typeIs_int s2 _ t2) (typeIs_int s2 _ tk) F.slot_int_gt F.entry_int_gt (F.args_int_gt_2 _ _) (gives_int_gt _ _ t2 tk) (λ x=>nomatch x) ?_))))
    refine wpAny_bind (wpAny_holding (wpAny_truthy_bool ?_))
    refine wpAny_bind (wpAny_letGo (wpAny_pure ?_))
    by_cases hb':n > kb
    . have s1:=Heap.SameBut.update s2.heap S (Obj.mapSeq λ _=>#[u,.int n t2])
      obtain⟨c2,hc2⟩:∃ c2,(s2.heap.update S (Obj.mapSeq λ _=>#[u,.int n t2])).get? S=some (seqObj "list" #[u,.int n t2] c2):=⟨_,get?_update_seq nS2.1 λ _=>#[u,.int n t2]⟩
      simp only[hb',decide_true,if_true]at hgo2 ⊢
      refine wpAny_bind ?_
      refine wpAny_updateSeq nS2.1 rfl (wpAny_bind (wpAny_letGo ?_))
      rw[hname]
      have J5:Inv X ((S,seqObj "list" #[vb,.int kb tk] c) :: pins) σ H2 s2:=J4.pins_of λ p hp=>by
        rcases List.mem_cons.mp hp with rfl|hp
        . exact nS2
        . exact J4.pin p (List.mem_append_right _ (List.mem_cons_of_mem _ (List.mem_cons_of_mem _ hp)))
      have J6:Inv X pins σ H2 { s2 with heap:=s2.heap.update S (Obj.mapSeq λ _=>#[u,.int n t2]),toks:=s2.toks }:=J5.turnE (hS0 H2 nS2.2.1) λ c u n e=>(s1.2 c n).trans e
      have gI:(s2.heap.update S (Obj.mapSeq λ _=>#[u,.int n t2])).get? It=some oI':=(s1.2 It hSI.symm).trans nI2.1
      have J7:=(J6.repin (hI0 H2 nI2.2.1) gI dI).repin ((hS0 H2 nS2.2.1).more hSI.symm) hc2 (λ v z=>by cases z)
      exact wpAny_pure ⟨plainId_quiet PySem.F.plain_max_loop _,ih (j + 1) x u n t2 c2 oI' H2 _ J7 ⟨oI',gI,hoc,hod⟩ ru hgo2⟩
    . simp only[hb',decide_false,Bool.false_eq_true,if_false]at hgo2 ⊢
      refine wpAny_bind (wpAny_letGo ?_)
      rw[hname]
      exact wpAny_pure ⟨plainId_quiet PySem.F.plain_max_loop _,ih (j + 1) b vb kb tk c oI' H2 _ J4 ⟨oI',nI2.1,hoc,hod⟩ rb hgo2⟩
theorem Ta{H:Hp}{s:Shared}(hh:X.A.handled=none)(I:Inv X pins σ H s)(hsrc:∀ pins' H' s' xs,Inv X pins' σ H' s'->src H' xs->∃ its:List Value,Vals xs its/\s'.heap.IsList l its.toArray)
    (turn:∀ (pins':List (Addr × Obj)) (H1:Hp) (s1:Shared) (x:V) (u:Value) (Q1:VK),(∀ p ∈ pins,p ∈ pins')->Inv X pins' σ H1 s1->RelV x u->G H1->tb (some x :: cap) H1 Q1->wpAny (model X.prog X.w) X.A.in1 (call (.ref f) [u]) (EP X pins' σ Q1) (λ _ _=>False) s1)
    {m:Nat} (h:Fy (λ n m=>decide (n > m)) src G tb cap m H Q):wpAny (model X.prog X.w) X.A (call (.builtin "max") [.ref l] [(Str.ofString "key",.ref f)]) (EP X pins σ Q) E s:=by
  have hname:(toString "max" ++ toString ".loop":String)="max.loop":=by decide
  obtain⟨xs,x,hsr,hx0,hG,hgo⟩:=h
  obtain⟨_,_,hls⟩:=hsrc _ _ _ _ I hsr
  refine kmk_tree PySem.F.kind_max PySem.F.plain_max PySem.F.entry_max (kmk_max_key _ _) ?_
  show wpAny _ X.A.in1 (Builtin.Builtins.bindParams "max" ["key","default"] 0 ⟨[],[(Str.ofString "key",.ref f)]⟩ >>= _) _ _ s
  refine wpAny_bind (wpAny_of_eq (show Builtin.Builtins.bindParams "max" ["key","default"] 0 ⟨[],[(Str.ofString "key",.ref f)]⟩=pure [some (.ref f),none]from rfl) ?_)
  refine wpAny_bind (wpAny_pure ?_)
  refine wpAny_bind (wpAny_pyIter_list hls ?_)
  refine wpAny_bind (wpAny_newList ?_ (Nat.zero_le _))
  rw[hname]
  have hS:(s.heap.push { cls:=.type "list_iterator",data:=.fields #[.ref l,.int 0 0] }).objs.size=s.heap.objs.size + 1:=size_push' ..
  rw[hS]
  have gI:((s.heap.push { cls:=.type "list_iterator",data:=.fields #[.ref l,.int 0 0] }).push (seqObj "list" #[] 0)).get? s.heap.objs.size=some { cls:=.type "list_iterator",data:=.fields #[.ref l,.int 0 0] }:=
    Heap.get?_push_of_some _ (Heap.get?_push_size _ rfl)
  have gS:((s.heap.push { cls:=.type "list_iterator",data:=.fields #[.ref l,.int 0 0] }).push (seqObj "list" #[] 0)).get? (s.heap.objs.size + 1)=some (seqObj "list" #[] 0):=by rw[<- hS];exact Heap.get?_push_size _ rfl
  have kp:∀ b o,s.heap.get? b=some o->((s.heap.push { cls:=.type "list_iterator",data:=.fields #[.ref l,.int 0 0] }).push (seqObj "list" #[] 0)).get? b=some o:=λ b o e=>Heap.get?_push_of_some _ (Heap.get?_push_of_some _ e)
  have I1:Inv X pins σ H { s with heap:=(s.heap.push { cls:=.type "list_iterator",data:=.fields #[.ref l,.int 0 0] }).push (seqObj "list" #[] 0),toks:=s.toks }:=I.kept (t':=s.toks) kp
  have hSI:s.heap.objs.size + 1 ≠ s.heap.objs.size:=Nat.ne_of_gt (Nat.lt_succ_self _)
  have hI0:∀ H',H' s.heap.objs.size=none->FpOk X pins H' s.heap.objs.size:=λ H' hn=>I.fpOk (Nat.le_refl _) hn
  have hS0:∀ H',H' (s.heap.objs.size + 1)=none->FpOk X pins H' (s.heap.objs.size + 1):=λ H' hn=>I.fpOk (Nat.le_succ _) hn
  have nI:H s.heap.objs.size=none:=I.hok.fresh (Nat.le_refl _)
  have nS:H (s.heap.objs.size + 1)=none:=I.hok.fresh (Nat.le_succ _)
  generalize (s.heap.push { cls:=.type "list_iterator",data:=.fields #[.ref l,.int 0 0] }).push (seqObj "list" #[] 0)=h1 at gI gS I1 ⊢
  refine wpAny_pure ⟨plainId_quiet PySem.F.plain_max_loop _,?_⟩
  refine codeAny_builtin PySem.F.entry_max_loop ?_
  rw[Around.under_plainId PySem.F.plain_max_loop _]
  show wpAny _ X.A.in1 (seqItems? (.ref (s.heap.objs.size + 1)) >>= _) _ _ _
  refine wpAny_bind (wpAny_seqItems gS rfl ?_)
  show wpAny _ X.A.in1 (tryCatch (pyNext (.ref s.heap.objs.size)) _ >>= _) _ _ _
  obtain⟨its,hv,hil⟩:=hsrc _ _ _ _ I1 hsr
  obtain⟨u,hu,ru⟩:=hv.get hx0
  refine wpAny_bind (wpAny_tryCatch (wpAny_pyNext_list_item (i:=0) ⟨_,gI,rfl,rfl⟩ hil (x:=u) (by simpa using hu) λ h' hit' hs'=>?_))
  obtain⟨oI',hoI',hoc,hod⟩:=id hit'
  have dI:∀ v,oI'.data ≠ .cell v:=λ v z=>by rw[hod]at z;cases z
  have hSh':h'.get? (s.heap.objs.size + 1)=some (seqObj "list" #[] 0):=(hs'.2 _ hSI).trans gS
  have J2:Inv X pins σ H { s with heap:=h',toks:=s.toks }:=(I1.repin (hI0 H nI) gI (λ v z=>by cases z)).turnE (hI0 H nI) λ c u n e=>(hs'.2 c n).trans e
  have J3:=(J2.repin (hI0 H nI) hoI' dI).repin ((hS0 H nS).more hSI.symm) hSh' (λ v z=>by cases z)
  show wpAny _ X.A.in1 (tryCatch (holding [u] (call (.ref f) [u])) _ >>= _) _ _ _
  refine wpAny_bind (wpAny_tryCatch (wpAny_holding (wpAny_mono (turn _ H _ x u _ (λ p hp=>List.mem_cons_of_mem _ (List.mem_cons_of_mem _ hp)) J3 ru hG hgo) (λ v s2 he=>?_) λ _ _ hF=>hF.elim)))
  obtain⟨k,H2,J4,rk,n,rfl,hgo2⟩:=he
  obtain⟨t2,rfl⟩:=rk
  have nS2:=J4.pin (s.heap.objs.size + 1,seqObj "list" #[] 0) (List.mem_append_right _ List.mem_cons_self)
  have nI2:=J4.pin (s.heap.objs.size,oI') (List.mem_append_right _ (List.mem_cons_of_mem _ List.mem_cons_self))
  have s1:=Heap.SameBut.update s2.heap (s.heap.objs.size + 1) (Obj.mapSeq λ _=>#[u,.int n t2])
  obtain⟨c2,hc2⟩:∃ c2,(s2.heap.update (s.heap.objs.size + 1) (Obj.mapSeq λ _=>#[u,.int n t2])).get? (s.heap.objs.size + 1)=some (seqObj "list" #[u,.int n t2] c2):=⟨_,get?_update_seq nS2.1 λ _=>#[u,.int n t2]⟩
  show wpAny _ X.A.in1 (updateSeq (s.heap.objs.size + 1) (λ _=>#[u,.int n t2]) >>= _) _ _ _
  refine wpAny_bind ?_
  refine wpAny_updateSeq nS2.1 rfl ?_
  rw[hname]
  have J5:Inv X ((s.heap.objs.size + 1,seqObj "list" #[] 0) :: pins) σ H2 s2:=J4.pins_of λ p hp=>by
    rcases List.mem_cons.mp hp with rfl|hp
    . exact nS2
    . exact J4.pin p (List.mem_append_right _ (List.mem_cons_of_mem _ (List.mem_cons_of_mem _ hp)))
  have J6:Inv X pins σ H2 { s2 with heap:=s2.heap.update (s.heap.objs.size + 1) (Obj.mapSeq λ _=>#[u,.int n t2]),toks:=s2.toks }:=J5.turnE (hS0 H2 nS2.2.1) λ c u n e=>(s1.2 c n).trans e
  have gI2:(s2.heap.update (s.heap.objs.size + 1) (Obj.mapSeq λ _=>#[u,.int n t2])).get? s.heap.objs.size=some oI':=(s1.2 _ hSI.symm).trans nI2.1
  have J7:=(J6.repin (hI0 H2 nI2.2.1) gI2 dI).repin ((hS0 H2 nS2.2.1).more hSI.symm) hc2 (λ v z=>by cases z)
  exact wpAny_pure ⟨plainId_quiet PySem.F.plain_max_loop _,R9 hh hsrc hSI 0 hI0 hS0 turn m 1 x u n t2 c2 oI' H2 _ J7 ⟨oI',gI2,hoc,hod⟩ ru hgo2⟩
end
end L2
namespace L2
open PySem PySem.Spec PyProof.Rows PySem.W
noncomputable def NG(K:PySem.W.Frag)(P:Addr)(q:Str)(pos:Pos)(ix:List Nat)(te tb:TE):TE:=λ σ H Q=>te σ H λ v H1=>∃ (a:Addr) (m:Nat) (ps:Array Value),v=.ref a/\H1 P=some (.tbl ps)/\FQ H1 q pos ps /\
  ∀ H2 c,Ek P q pos H1 H2->H2 c=some (.ext (cdF c q))->Fy (λ n m=>decide (n > m)) (λ H xs=>SqL K H a xs) (λ H=>H c=some (.ext (cdF c q))) tb (ix.map λ i=>(σ[i]?).join) m H2 Q
section
variable{X:Cx}{c P:Addr}{scope:Scope}{fr:List Str}{ix:List Nat}{prm:Str}{params:Arguments}{body e:Expr}{p pos lpos kpos:Pos}{te tb:TE}
theorem TQ(LA:LamAt X c P)(S:CSc X scope fr ix)(L:LSc scope prm)(hr:Room 3 X.A)(hcm:X.calm=true)(hg:Gl X "max")(hm:X.mg "max"=none)
    (hbind:∀ (cl:List (Str × Addr)) (pm cd ctv us:Value),bindArgs (kla_fn "<lambda>" (X.env.qual ++ "<lambda>") params body scope cl pm cd ctv) ⟨[us],[]⟩=pure [(prm,us)])
    (he:PE X e te) (hb:∀ (f:Addr) (cd:Value) (s:Shared) (H:Hp),PE (lCx X X.A.in1 (prm :: fr) (X.env.qual ++ "<lambda>") scope f cd (Af X.env.cells scope.names []) s H) body tb)
    (hdef:defaultsOf params X.env=([],[]):=by rfl) (hs:starEach [e] X.env=[(false,eval e X.env)]:=by rfl) :
    PE X (.Call (.Name "max" p) [e] [⟨some "key",.Lambda params body scope lpos,kpos⟩] pos) (NG X.K P (X.env.qual ++ "<lambda>") lpos ix te tb):=by
  intro pins s σ H Q I h
  have PAe:PA X [e] (Bi te Cb):=CO he DW hs
  refine wpAny_Call_Name_kw (Fo (u:=.builtin "max") I hg hm bt_max ?_)
  have pl:(backTo pos (starEach [e] X.env)).any (·.1)=false:=by rw[hs];rfl
  refine callWith_builtin_kwB pl rfl (evalArgs_kw2 (env:=X.env) (e:=e) (rest:=[]) (kws:=[⟨some "key",.Lambda params body scope lpos,kpos⟩]) rfl (thn (PAe pos pins s σ H (λ vs H1=>match vs with
    | [v]=>∃ (a:Addr) (m:Nat) (ps:Array Value),v=.ref a/\H1 P=some (.tbl ps)/\FQ H1 (X.env.qual ++ "<lambda>") lpos ps /\
        ∀ H2 c,Ek P (X.env.qual ++ "<lambda>") lpos H1 H2->H2 c=some (.ext (cdF c (X.env.qual ++ "<lambda>")))->Fy (λ n m=>decide (n > m)) (λ H xs=>SqL X.K H a xs) (λ H=>H c=some (.ext (cdF c (X.env.qual ++ "<lambda>")))) tb (ix.map λ i=>(σ[i]?).join) m H2 Q
    | _=>False) I h) λ us s1 hq=>?_) hs)
  obtain⟨vs,H1,I1,r,q⟩:=hq
  match vs,q with
  | [v],q=>
  obtain⟨a,m,ps,rfl,hP,hg1,go⟩:=q
  obtain⟨u,rfl,ru⟩:=Bp r
  cases ru
  show wpAny _ _ (evalAll [(do let v <- eval (.Lambda params body scope lpos) X.env;standAt pos;pure v)]) _ _ s1
  refine wpAny_evalAll_cons (wpAny_bind (La S LA I1 hdef hP hg1 λ f cd ctv H2 s2 I2 M=>wpAny_bind (wpAny_standAt (wpAny_pure (wpAny_evalAll_nil ?_)))))
  show wpAny _ _ (call (.builtin "max") [.ref a] [(Str.ofString "key",.ref f)]) _ _ s2
  obtain⟨c',rfl,hc'⟩:=M.cdc
  have go':=go H2 c' M.step hc'
  have ff:FpOk X pins H2 f:=I1.fpOk M.new M.fre
  have I3:=I2.repin ff M.fn (λ v z=>by cases z)
  refine wpAny_mono (Ta (pins:=(f,_) :: pins) (I3.ok.hd hcm) I3 (λ pins' H' s' xs J hG=>?_) (λ pins' H' s' x u Q1 sub J ru hG hq=>?_) go') (λ v s' hv=>?_) λ _ _ z=>z
  . obtain⟨its,rv,pl2,hz⟩:=J.list hG
    exact⟨its,rv,pl2.isList⟩
  . have pf:=J.pin (f,_) (List.mem_append_right _ (sub _ List.mem_cons_self))
    exact Lb (A:=X.A.in1) (f:=f) S L J rfl (hr.in1.mono (by decide)) pf.1 (J.hok c' _ hG).1 (λ us=>hbind _ _ _ _ us) (λ s H=>hb f _ s H) ru hq
  . obtain⟨y,H',J,ry,qy⟩:=hv
    exact⟨y,H',J.pins_of λ p hp=>J.pin p (List.mem_append_right _ (List.mem_cons_of_mem _ hp)),ry,qy⟩
end
end L2
namespace L2
open PySem PySem.Spec PyProof.Rows PySem.W
open Classical in
noncomputable def DM(mb:ME)(cap:Ls)(hd:Hd):List D->Option (List Int)
  | []=>some []
  | d :: r=>match mb (some d :: cap) hd with
    | some (.im (.int n),h)=>match DM mb cap hd r with
      | some ks=>if h=hd then some (n :: ks)else none
      | none=>none
    | _=>none
noncomputable def Bk(op:Int->Int->Bool):List D->List Int->D->Int->D
  | x :: r,n :: ns,b,kb=>if op n kb=true then Bk op r ns x n else Bk op r ns b kb
  | _,_,b,_=>b
noncomputable def Gh(op:Int->Int->Bool)(mi:ME)(ix:List Nat)(mb:ME):ME:=λ ls hd=>(mi ls hd).bind λ p=>(B1 p.2 p.1).bind λ ds=>(DM mb (ix.map λ i=>(ls[i]?).join) p.2 ds).bind λ kz=>match ds,kz with
  | d :: r,n :: ns=>some (Bk op r ns d n,p.2)
  | _,_=>none
section
variable{K:PySem.W.Frag}{hd:Hd}
theorem II{ρ:List Addr}{H:Hp}{ls:Ls}{σ:St}{ix:List Nat}{d:D}{v:V}(L:RL K ρ H ls σ)(r:RD K ρ H d v):RL K ρ H (some d :: ix.map λ i=>(ls[i]?).join) (some v :: ix.map λ i=>(σ[i]?).join):=by
  refine⟨by simp,λ i d' ei=>?_⟩
  cases i with
  | zero=>cases ei;exact⟨v,rfl,r⟩
  | succ j=>
    have ei:(ix.map λ i=>(ls[i]?).join)[j]? = some (some d'):=ei
    rw[List.getElem?_map]at ei
    cases qj:ix[j]? with
    | none=>rw[qj]at ei;cases ei
    | some m=>
      rw[qj]at ei
      have ei:(ls[m]?).join=some d':=Option.some.inj ei
      have em:ls[m]? = some (some d'):=by
        cases w:ls[m]? with
        | none=>rw[w]at ei;cases ei
        | some z=>rw[w]at ei;simpa using ei
      obtain⟨v,ev,rv⟩:=L.ob m d' em
      refine⟨v,?_,rv⟩
      show(ix.map λ i=>(σ[i]?).join)[j]? = some (some v)
      rw[List.getElem?_map,qj]
      simp[ev]
theorem Ja{op:Int->Int->Bool}{tb:TE}{mb:ME}{ix:List Nat}{q:Str}{c a:Addr}{d1:D}{ds:List D}(hb:RE K tb mb){ls:Ls}{σ:St}(ev:B1 hd d1=some ds):∀ (rs:List D) (ns:List Int) (j:Nat) (bd:D) (bv:V) (kb:Int) (ρ:List Addr) (H:Hp) (Q:VK),ds.drop j=rs->j <= ds.length ->
    DM mb (ix.map λ i=>(ls[i]?).join) hd rs=some ns->RH K ρ H hd->RL K ρ H ls σ->H c=some (.ext (cdF c q))->RD K ρ H d1 (.ref a)->RD K ρ H bd bv ->
    (∀ ρ' H' v,Ext ρ H ρ' H'->RH K ρ' H' hd->RD K ρ' H' (Bk op rs ns bd kb) v->Q v H') ->
    FG op (λ H xs=>SqL K H a xs) (λ H=>H c=some (.ext (cdF c q))) tb (ix.map λ i=>(σ[i]?).join) rs.length j bv kb H Q
  | [],ns,j,bd,bv,kb,ρ,H,Q,hr,hj,e,R,L,hc,r1,rb,k=>by
    obtain⟨a',xs,ea,sq,rs⟩:=RD.lst R r1 ev
    cases ea
    have hl:=rs.len
    have hd0:=congrArg List.length hr
    simp at hd0
    refine⟨⟨xs,sq,by omega⟩,k ρ H bv .refl R ?_⟩
    cases e
    exact rb
  | x :: r,ns,j,bd,bv,kb,ρ,H,Q,hr,hj,e,R,L,hc,r1,rb,k=>by
    obtain⟨a',xs,ea,sq,rs⟩:=RD.lst R r1 ev
    cases ea
    have hjl:j < ds.length:=by
      have:=congrArg List.length hr
      simp at this;omega
    have hxj:ds[j]? = some x:=by
      rw[List.drop_eq_getElem_cons hjl]at hr
      rw[List.getElem?_eq_getElem hjl,(List.cons.inj hr).1]
    have hr':ds.drop (j + 1)=r:=by
      rw[List.drop_eq_getElem_cons hjl]at hr
      exact(List.cons.inj hr).2
    obtain⟨v,hv,rv⟩:=rs.get hxj
    unfold DM at e
    split at e
    . next n h e1=>
      split at e
      . next ks e2=>
        split at e
        . next eh=>
          cases e
          rw[eh]at e1
          refine⟨xs,v,sq,hv,hc,hb ρ _ H _ _ _ (.im (.int n)) _ R (II L rv) e1 λ ρ1 H1 v1 x1 R1 rk=>?_⟩
          simp only[RD,RI]at rk
          subst rk
          have oc:c ∉ ρ:=λ m=>by rcases R.mut m with⟨y,w⟩|⟨y,w⟩ <;> (rw[hc]at w;cases w)
          refine⟨n,rfl,?_⟩
          by_cases hop:op n kb=true
          . rw[if_pos hop]
            refine Ja hb ev r ks (j + 1) x v n ρ1 H1 Q hr' hjl e2 R1 (L.ext R x1) (x1.keep c _ hc oc nt) (r1.ext R x1) (rv.ext R x1) λ ρ2 H2 w x2 R2 r2=>k ρ2 H2 w (x1.trans R1 x2) R2 ?_
            rw[Bk,if_pos hop];exact r2
          . rw[if_neg hop]
            refine Ja hb ev r ks (j + 1) bd bv kb ρ1 H1 Q hr' hjl e2 R1 (L.ext R x1) (x1.keep c _ hc oc nt) (r1.ext R x1) (rb.ext R x1) λ ρ2 H2 w x2 R2 r2=>k ρ2 H2 w (x1.trans R1 x2) R2 ?_
            rw[Bk,if_neg hop];exact r2
        . cases e
      . cases e
    . cases e
theorem Sv{te tb:TE}{mi mb:ME}{P:Addr}{q:Str}{pos:Pos}{ix:List Nat}(hi:RE K te mi)(hb:RE K tb mb)(TI:HX K P q pos):RE K (NG K P q pos ix te tb) (Gh (λ n m=>decide (n > m)) mi ix mb):=by
  intro ρ σ H hd ls Q d hd' hR hL hm hQ
  obtain⟨⟨d1,h1⟩,e1,hm⟩:=Option.bind_eq_some_iff.mp hm
  obtain⟨ds,e2,hm⟩:=Option.bind_eq_some_iff.mp hm
  obtain⟨kz,e3,hm⟩:=Option.bind_eq_some_iff.mp hm
  dsimp only at hm e2 e3
  split at hm
  . next x r n ns _=>
    cases hm
    refine hi ρ σ H hd ls _ d1 _ hR hL e1 λ ρ1 H1 v1 x1 R1 r1=>?_
    obtain⟨a,xs,rfl,sq,rs⟩:=RD.lst R1 r1 e2
    obtain⟨p',et,_,l1,l2⟩:=id TI
    obtain⟨ps,hP,hG⟩:=R1.tabs (P,q,p') et
    have hG':FQ H1 q pos ps:=by
      rcases hG with g|⟨c,g1,g2⟩
      . exact .inl g
      . refine .inr ⟨c,?_,g2⟩
        rw[g1]
        show #[rawInt p'.line,rawInt p'.col,Value.ref c]=_
        rw[l1,l2]
    refine⟨a,r.length,ps,rfl,hP,hG',λ H2 c step hc=>?_⟩
    obtain⟨R2,x2⟩:=Kl R1 hP step TI
    have x12:=x1.trans R1 x2
    have L2':=hL.ext hR x12
    have r2:=r1.ext R1 x2
    obtain⟨a',xs,ea,sq,rs⟩:=RD.lst R2 r2 e2
    cases ea
    obtain⟨v,hv,rv⟩:=rs.get (i:=0) (d:=x) rfl
    unfold DM at e3
    split at e3
    . next n' h e4=>
      split at e3
      . next ks e5=>
        split at e3
        . next eh=>
          cases e3
          rw[eh]at e4
          refine⟨xs,v,sq,hv,hc,hb ρ1 _ H2 _ _ _ (.im (.int n)) _ R2 (II L2' rv) e4 λ ρ3 H3 v3 x3 R3 rk=>?_⟩
          simp only[RD,RI]at rk
          subst rk
          have oc:c ∉ ρ1:=λ m=>by rcases R2.mut m with⟨y,w⟩|⟨y,w⟩ <;> (rw[hc]at w;cases w)
          refine⟨n,rfl,Ja hb e2 r ns 1 x v n ρ3 H3 Q rfl (by simp) e5 R3 (L2'.ext R2 x3) (x3.keep c _ hc oc nt) (r2.ext R2 x3) (rv.ext R2 x3) λ ρ4 H4 w x4 R4 r4=>hQ ρ4 H4 w ((x12.trans R2 x3).trans R3 x4) R4 r4⟩
        . cases e3
      . cases e3
    . cases e3
  . cases hm
end
end L2
namespace L2
open PySem PySem.Spec PyProof.Rows PySem.W
section
variable{X:Cx}{pins:List (Addr × Obj)}{σ:St}{l f It S:Addr}{src:Hp->List V->Prop}{G:Hp->Prop}{tb:TE}{cap:St}{Q:VK}{E:Value->Shared->Prop}
end
section
variable{X:Cx}{c P:Addr}{scope:Scope}{fr:List Str}{ix:List Nat}{prm:Str}{params:Arguments}{body e:Expr}{p pos lpos kpos:Pos}{te tb:TE}
end
section
variable{K:PySem.W.Frag}{hd:Hd}
end
theorem T3(K:PySem.W.Frag){X:Cx}{c P:Addr}{scope:Scope}{fr:List Str}{ix:List Nat}{prm:Str}{params:Arguments}{body e:Expr}{p pos lpos kpos:Pos}{te tb:TE}{mi mb:ME}{k:Nat}(LA:LamAt X c P)(TI:HX K P (X.env.qual ++ "<lambda>") lpos)(S:CSc X scope fr ix)(L:LSc scope prm)(hr:Room k X.A)(h3:3 <= k)(hm:X.mg "max"=none)
    (he:QE K X e te mi) (hb:∀ (f:Addr) (cd:Value) (s:Shared) (H:Hp),QE K (lCx X X.A.in1 (prm :: fr) (X.env.qual ++ "<lambda>") scope f cd (Af X.env.cells scope.names []) s H) body tb mb)
    (hbind:∀ (cl:List (Str × Addr)) (pm cd ctv us:Value),bindArgs (kla_fn "<lambda>" (X.env.qual ++ "<lambda>") params body scope cl pm cd ctv) ⟨[us],[]⟩=pure [(prm,us)])
    (hcm:X.calm=true:=by rfl) (hg:Gl X "max":=by rfl) (hdef:defaultsOf params X.env=([],[]):=by rfl) (hs:starEach [e] X.env=[(false,eval e X.env)]:=by rfl) (hK:X.K=K:=by rfl) :
    QE K X (.Call (.Name "max" p) [e] [⟨some "key",.Lambda params body scope lpos,kpos⟩] pos) (NG K P (X.env.qual ++ "<lambda>") lpos ix te tb) (Gh (λ n m=>decide (n > m)) mi ix mb):=by
  subst hK
  exact⟨TQ LA S L (hr.mono h3) hcm hg hm hbind he.p (λ f cd s H=>(hb f cd s H).p) hdef hs,Sv he.r (hb 0 .none X.s₀ X.H₀).r TI⟩
theorem Pl{op:Int->Int->Bool}{mi mb:ME}{ix:List Nat}{ls:Ls}{hd:Hd}{QE:D->Hd->Prop}(h:WE mi ls hd λ d x=>∃ (e:D) (es:List D) (kf:D->Int),B1 x d=some (e :: es)/\(∀ y ∈ e :: es,mb (some y :: ix.map λ i=>(ls[i]?).join) x=some (.im (.int (kf y)),x))/\QE (Bk op es (es.map kf) e (kf e)) x):WE (Gh op mi ix mb) ls hd QE:=by
  obtain⟨d,x,e1,e,es,kf,e2,ek,q⟩:=h
  have go:∀ ys:List D,(∀ y ∈ ys,mb (some y :: ix.map λ i=>(ls[i]?).join) x=some (.im (.int (kf y)),x))->DM mb (ix.map λ i=>(ls[i]?).join) x ys=some (ys.map kf):=by
    intro ys
    induction ys with
    | nil=>intro _;rfl
    | cons y r ih=>
      intro h
      unfold DM
      rw[h y List.mem_cons_self,ih λ z hz=>h z (List.mem_cons_of_mem _ hz)]
      simp
  refine⟨_,x,?_,q⟩
  simp only[Gh,e1,Option.bind_some,e2,go _ ek,List.map_cons]
theorem Hx(kf:D->Int):∀ (es:List D) (b:D),Bk (λ n m=>decide (n > m)) es (es.map kf) b (kf b) ∈ b :: es/\∀ y ∈ b :: es,kf y <= kf (Bk (λ n m=>decide (n > m)) es (es.map kf) b (kf b))
  | [],b=>⟨List.mem_cons_self,λ y hy=>by rw[List.mem_singleton]at hy;subst hy;exact Int.le_refl _⟩
  | e :: es,b=>by
    rw[List.map_cons,Bk]
    by_cases h:kf e > kf b
    . rw[if_pos (by simpa using h)]
      obtain⟨h1,h2⟩:=Hx kf es e
      refine⟨List.mem_cons_of_mem _ h1,λ y hy=>?_⟩
      rcases List.mem_cons.mp hy with rfl|hy
      . have:=h2 e List.mem_cons_self;omega
      . exact h2 y hy
    . rw[if_neg (by simpa using h)]
      obtain⟨h1,h2⟩:=Hx kf es b
      refine⟨?_,λ y hy=>?_⟩
      . rcases List.mem_cons.mp h1 with q|q
        . rw[q];exact List.mem_cons_self
        . exact List.mem_cons_of_mem _ (List.mem_cons_of_mem _ q)
      . rcases List.mem_cons.mp hy with rfl|hy
        . exact h2 y List.mem_cons_self
        . rcases List.mem_cons.mp hy with rfl|hy
          . have:=h2 b List.mem_cons_self;omega
          . exact h2 y (List.mem_cons_of_mem _ hy)
end L2
namespace L2
open PySem PySem.Spec PyProof.Rows PySem.W
noncomputable def Fj(op:Int->Int->Bool)(mi:ME)(ix:List Nat)(mb:ME):ME:=λ ls hd=>(mi ls hd).bind λ p=>(Av p.1).bind λ ds=>(DM mb (ix.map λ i=>(ls[i]?).join) p.2 ds).bind λ kz=>match ds,kz with
  | d :: r,n :: ns=>some (Bk op r ns d n,p.2)
  | _,_=>none
section
variable{K:PySem.W.Frag}{hd:Hd}
theorem Hy{op:Int->Int->Bool}{tb:TE}{mb:ME}{ix:List Nat}{q:Str}{c a:Addr}{d1:D}{ds:List D}(hb:RE K tb mb){ls:Ls}{σ:St}(ev:Av d1=some ds):∀ (rs:List D) (ns:List Int) (j:Nat) (bd:D) (bv:V) (kb:Int) (ρ:List Addr) (H:Hp) (Q:VK),ds.drop j=rs->j <= ds.length ->
    DM mb (ix.map λ i=>(ls[i]?).join) hd rs=some ns->RH K ρ H hd->RL K ρ H ls σ->H c=some (.ext (cdF c q))->RD K ρ H d1 (.ref a)->RD K ρ H bd bv ->
    (∀ ρ' H' v,Ext ρ H ρ' H'->RH K ρ' H' hd->RD K ρ' H' (Bk op rs ns bd kb) v->Q v H') ->
    FG op (λ H xs=>SqT K H a xs) (λ H=>H c=some (.ext (cdF c q))) tb (ix.map λ i=>(σ[i]?).join) rs.length j bv kb H Q
  | [],ns,j,bd,bv,kb,ρ,H,Q,hr,hj,e,R,L,hc,r1,rb,k=>by
    obtain⟨a',xs,ea,sq,rs⟩:=RD.tup r1 ev
    cases ea
    have hl:=rs.len
    have hd0:=congrArg List.length hr
    simp at hd0
    refine⟨⟨xs,sq,by omega⟩,k ρ H bv .refl R ?_⟩
    cases e
    exact rb
  | x :: r,ns,j,bd,bv,kb,ρ,H,Q,hr,hj,e,R,L,hc,r1,rb,k=>by
    obtain⟨a',xs,ea,sq,rs⟩:=RD.tup r1 ev
    cases ea
    have hjl:j < ds.length:=by
      have:=congrArg List.length hr
      simp at this;omega
    have hxj:ds[j]? = some x:=by
      rw[List.drop_eq_getElem_cons hjl]at hr
      rw[List.getElem?_eq_getElem hjl,(List.cons.inj hr).1]
    have hr':ds.drop (j + 1)=r:=by
      rw[List.drop_eq_getElem_cons hjl]at hr
      exact(List.cons.inj hr).2
    obtain⟨v,hv,rv⟩:=rs.get hxj
    unfold DM at e
    split at e
    . next n h e1=>
      split at e
      . next ks e2=>
        split at e
        . next eh=>
          cases e
          rw[eh]at e1
          refine⟨xs,v,sq,hv,hc,hb ρ _ H _ _ _ (.im (.int n)) _ R (II L rv) e1 λ ρ1 H1 v1 x1 R1 rk=>?_⟩
          simp only[RD,RI]at rk
          subst rk
          have oc:c ∉ ρ:=λ m=>by rcases R.mut m with⟨y,w⟩|⟨y,w⟩ <;> (rw[hc]at w;cases w)
          refine⟨n,rfl,?_⟩
          by_cases hop:op n kb=true
          . rw[if_pos hop]
            refine Hy hb ev r ks (j + 1) x v n ρ1 H1 Q hr' hjl e2 R1 (L.ext R x1) (x1.keep c _ hc oc nt) (r1.ext R x1) (rv.ext R x1) λ ρ2 H2 w x2 R2 r2=>k ρ2 H2 w (x1.trans R1 x2) R2 ?_
            rw[Bk,if_pos hop];exact r2
          . rw[if_neg hop]
            refine Hy hb ev r ks (j + 1) bd bv kb ρ1 H1 Q hr' hjl e2 R1 (L.ext R x1) (x1.keep c _ hc oc nt) (r1.ext R x1) (rb.ext R x1) λ ρ2 H2 w x2 R2 r2=>k ρ2 H2 w (x1.trans R1 x2) R2 ?_
            rw[Bk,if_neg hop];exact r2
        . cases e
      . cases e
    . cases e
end
section
variable{X:Cx}{pins:List (Addr × Obj)}{σ:St}{l f It S:Addr}{src:Hp->List V->Prop}{G:Hp->Prop}{tb:TE}{cap:St}{Q:VK}{E:Value->Shared->Prop}
theorem On(hh:X.A.handled=none)
    (hsrc:∀ pins' H' s' xs,Inv X pins' σ H' s'->src H' xs->∃ its:List Value,Vals xs its/\s'.heap.IsTuple l its.toArray) (hSI:S ≠ It) (n0:Nat) (hI0:∀ H',H' It=none->FpOk X pins H' It) (hS0:∀ H',H' S=none->FpOk X pins H' S)
    (turn:∀ (pins':List (Addr × Obj)) (H1:Hp) (s1:Shared) (x:V) (u:Value) (Q1:VK),(∀ p ∈ pins,p ∈ pins')->Inv X pins' σ H1 s1->RelV x u->G H1->tb (some x :: cap) H1 Q1->wpAny (model X.prog X.w) X.A.in1 (call (.ref f) [u]) (EP X pins' σ Q1) (λ _ _=>False) s1) :
    ∀ (m:Nat) (j:Nat) (b:V) (vb:Value) (kb:Int) (tk:Tok) (c:Nat) (oI:Obj) (H:Hp) (s:Shared),Inv X ((S,seqObj "list" #[vb,.int kb tk] c) :: (It,oI) :: pins) σ H s->s.heap.IsTupleIter It l j->RelV b vb ->
      FG (λ n m=>decide (n < m)) src G tb cap m j b kb H Q->codeAny (model X.prog X.w) X.A (.builtin "min.loop" ⟨[.ref It,.ref f,.ref S],[]⟩) (λ r s'=>match r with | .ok (.ret v)=>EP X pins σ Q v s' | .ok _=>False | .error e=>E e s') s:=by
  have hname:(toString "min" ++ toString ".loop":String)="min.loop":=by decide
  intro m
  induction m with
  | zero=>
    intro j b vb kb tk c oI H s J hit rb hgo
    obtain⟨⟨xs,hG,hje⟩,hQ⟩:=hgo
    have nS:=J.pin (S,seqObj "list" #[vb,.int kb tk] c) (List.mem_append_right _ List.mem_cons_self)
    have nI:=J.pin (It,oI) (List.mem_append_right _ (List.mem_cons_of_mem _ List.mem_cons_self))
    refine codeAny_builtin PySem.F.entry_min_loop ?_
    rw[Around.under_plainId PySem.F.plain_min_loop _]
    show wpAny _ X.A.in1 (seqItems? (.ref S) >>= _) _ _ _
    refine wpAny_bind (wpAny_seqItems nS.1 rfl ?_)
    show wpAny _ X.A.in1 (tryCatch (pyNext (.ref It)) _ >>= _) _ _ _
    obtain⟨its,hv,hil⟩:=hsrc _ _ _ _ J hG
    have hlen:=hv.length
    refine wpAny_bind (wpAny_tryCatch (wpAny_pyNext_tuple_end hh hit hil (by simp;omega) λ h' hk'=>?_))
    have hS':=hk' S _ hSI nS.1
    have s1:=Heap.SameBut.update h' S (Obj.mapSeq λ _=>(#[]:Array Value))
    show wpAny _ X.A.in1 (updateSeq S (λ _=>#[]) >>= _) _ _ _
    refine wpAny_bind ?_
    refine wpAny_updateSeq hS' rfl (wpAny_bind (wpAny_letGo (wpAny_pure ?_)))
    have J1:Inv X ((It,oI) :: pins) σ H s:=J.pins_of λ p hp=>J.pin p (List.mem_append_right _ (List.mem_cons_of_mem _ hp))
    have J2:Inv X pins σ H { s with heap:=h',toks:=s.toks }:=J1.turnE (hI0 H nI.2.1) λ c u n e=>hk' c u n e
    have J3:=(J2.repin (hS0 H nS.2.1) hS' (λ v z=>by cases z)).turnE (t':=s.toks) (hS0 H nS.2.1) λ c u n e=>(s1.2 c n).trans e
    exact⟨b,H,J3,rb,hQ⟩
  | succ m ih=>
    intro j b vb kb tk c oI H s J hit rb hgo
    obtain⟨xs,x,hsr,hxj,hG,hgo⟩:=hgo
    obtain⟨its,hv,hil⟩:=hsrc _ _ _ _ J hsr
    obtain⟨u,hu,ru⟩:=hv.get hxj
    have nS:=J.pin (S,seqObj "list" #[vb,.int kb tk] c) (List.mem_append_right _ List.mem_cons_self)
    have nI:=J.pin (It,oI) (List.mem_append_right _ (List.mem_cons_of_mem _ List.mem_cons_self))
    refine codeAny_builtin PySem.F.entry_min_loop ?_
    rw[Around.under_plainId PySem.F.plain_min_loop _]
    show wpAny _ X.A.in1 (seqItems? (.ref S) >>= _) _ _ _
    refine wpAny_bind (wpAny_seqItems nS.1 rfl ?_)
    show wpAny _ X.A.in1 (tryCatch (pyNext (.ref It)) _ >>= _) _ _ _
    refine wpAny_bind (wpAny_tryCatch (wpAny_pyNext_tuple_item hit hil (x:=u) (by simpa using hu) λ h' hit' hs'=>?_))
    obtain⟨oI',hoI',hoc,hod⟩:=id hit'
    have hSh':h'.get? S=some (seqObj "list" #[vb,.int kb tk] c):=(hs'.2 S hSI).trans nS.1
    have dI:∀ v,oI'.data ≠ .cell v:=λ v z=>by rw[hod]at z;cases z
    have J1:Inv X ((It,oI) :: pins) σ H s:=J.pins_of λ p hp=>J.pin p (List.mem_append_right _ (List.mem_cons_of_mem _ hp))
    have J2:Inv X pins σ H { s with heap:=h',toks:=s.toks }:=J1.turnE (hI0 H nI.2.1) λ c u n e=>(hs'.2 c n).trans e
    have J3:=(J2.repin (hI0 H nI.2.1) hoI' dI).repin ((hS0 H nS.2.1).more hSI.symm) hSh' (λ v z=>by cases z)
    show wpAny _ X.A.in1 (tryCatch (holding [u] (call (.ref f) [u])) _ >>= _) _ _ _
    refine wpAny_bind (wpAny_tryCatch (wpAny_holding (wpAny_mono (turn _ H _ x u _ (λ p hp=>List.mem_cons_of_mem _ (List.mem_cons_of_mem _ hp)) J3 ru hG hgo) (λ v s2 he=>?_) λ _ _ hF=>hF.elim)))
    obtain⟨k,H2,J4,rk,n,rfl,hgo2⟩:=he
    obtain⟨t2,rfl⟩:=rk
    have nS2:=J4.pin (S,seqObj "list" #[vb,.int kb tk] c) (List.mem_append_right _ List.mem_cons_self)
    have nI2:=J4.pin (It,oI') (List.mem_append_right _ (List.mem_cons_of_mem _ List.mem_cons_self))
    show wpAny _ X.A.in1 (tryCatch (holding [u,.int n t2] (richCompare .Lt (.int n t2) (.int kb tk) >>= _)) _ >>= _) _ _ _
    refine wpAny_bind (wpAny_tryCatch (wpAny_holding (wpAny_bind (richCompare_gives (op:=.Lt) (typeIs_int s2 _ t2) (typeIs_int s2 _ tk) F.slot_int_lt F.entry_int_lt (F.args_int_lt_2 _ _) (gives_int_lt _ _ t2 tk) (λ x=>nomatch x) ?_))))
    refine wpAny_bind (wpAny_holding (wpAny_truthy_bool ?_))
    refine wpAny_bind (wpAny_letGo (wpAny_pure ?_))
    by_cases hb':n < kb
    . have s1:=Heap.SameBut.update s2.heap S (Obj.mapSeq λ _=>#[u,.int n t2])
      obtain⟨c2,hc2⟩:∃ c2,(s2.heap.update S (Obj.mapSeq λ _=>#[u,.int n t2])).get? S=some (seqObj "list" #[u,.int n t2] c2):=⟨_,get?_update_seq nS2.1 λ _=>#[u,.int n t2]⟩
      simp only[hb',decide_true,if_true]at hgo2 ⊢
      refine wpAny_bind ?_
      refine wpAny_updateSeq nS2.1 rfl (wpAny_bind (wpAny_letGo ?_))
      rw[hname]
      have J5:Inv X ((S,seqObj "list" #[vb,.int kb tk] c) :: pins) σ H2 s2:=J4.pins_of λ p hp=>by
        rcases List.mem_cons.mp hp with rfl|hp
        . exact nS2
        . exact J4.pin p (List.mem_append_right _ (List.mem_cons_of_mem _ (List.mem_cons_of_mem _ hp)))
      have J6:Inv X pins σ H2 { s2 with heap:=s2.heap.update S (Obj.mapSeq λ _=>#[u,.int n t2]),toks:=s2.toks }:=J5.turnE (hS0 H2 nS2.2.1) λ c u n e=>(s1.2 c n).trans e
      have gI:(s2.heap.update S (Obj.mapSeq λ _=>#[u,.int n t2])).get? It=some oI':=(s1.2 It hSI.symm).trans nI2.1
      have J7:=(J6.repin (hI0 H2 nI2.2.1) gI dI).repin ((hS0 H2 nS2.2.1).more hSI.symm) hc2 (λ v z=>by cases z)
      exact wpAny_pure ⟨plainId_quiet PySem.F.plain_min_loop _,ih (j + 1) x u n t2 c2 oI' H2 _ J7 ⟨oI',gI,hoc,hod⟩ ru hgo2⟩
    . simp only[hb',decide_false,Bool.false_eq_true,if_false]at hgo2 ⊢
      refine wpAny_bind (wpAny_letGo ?_)
      rw[hname]
      exact wpAny_pure ⟨plainId_quiet PySem.F.plain_min_loop _,ih (j + 1) b vb kb tk c oI' H2 _ J4 ⟨oI',nI2.1,hoc,hod⟩ rb hgo2⟩
theorem R0{H:Hp}{s:Shared}(hh:X.A.handled=none)(I:Inv X pins σ H s)(hsrc:∀ pins' H' s' xs,Inv X pins' σ H' s'->src H' xs->∃ its:List Value,Vals xs its/\s'.heap.IsTuple l its.toArray)
    (turn:∀ (pins':List (Addr × Obj)) (H1:Hp) (s1:Shared) (x:V) (u:Value) (Q1:VK),(∀ p ∈ pins,p ∈ pins')->Inv X pins' σ H1 s1->RelV x u->G H1->tb (some x :: cap) H1 Q1->wpAny (model X.prog X.w) X.A.in1 (call (.ref f) [u]) (EP X pins' σ Q1) (λ _ _=>False) s1)
    {m:Nat} (h:Fy (λ n m=>decide (n < m)) src G tb cap m H Q):wpAny (model X.prog X.w) X.A (call (.builtin "min") [.ref l] [(Str.ofString "key",.ref f)]) (EP X pins σ Q) E s:=by
  have hname:(toString "min" ++ toString ".loop":String)="min.loop":=by decide
  obtain⟨xs,x,hsr,hx0,hG,hgo⟩:=h
  obtain⟨_,_,hls⟩:=hsrc _ _ _ _ I hsr
  refine kmk_tree PySem.F.kind_min PySem.F.plain_min PySem.F.entry_min (kmk_min_key _ _) ?_
  show wpAny _ X.A.in1 (Builtin.Builtins.bindParams "min" ["key","default"] 0 ⟨[],[(Str.ofString "key",.ref f)]⟩ >>= _) _ _ s
  refine wpAny_bind (wpAny_of_eq (show Builtin.Builtins.bindParams "min" ["key","default"] 0 ⟨[],[(Str.ofString "key",.ref f)]⟩=pure [some (.ref f),none]from rfl) ?_)
  refine wpAny_bind (wpAny_pure ?_)
  refine wpAny_bind (wpAny_pyIter_tuple hls ?_)
  refine wpAny_bind (wpAny_newList ?_ (Nat.zero_le _))
  rw[hname]
  have hS:(s.heap.push { cls:=.type "tuple_iterator",data:=.fields #[.ref l,.int 0 0] }).objs.size=s.heap.objs.size + 1:=size_push' ..
  rw[hS]
  have gI:((s.heap.push { cls:=.type "tuple_iterator",data:=.fields #[.ref l,.int 0 0] }).push (seqObj "list" #[] 0)).get? s.heap.objs.size=some { cls:=.type "tuple_iterator",data:=.fields #[.ref l,.int 0 0] }:=
    Heap.get?_push_of_some _ (Heap.get?_push_size _ rfl)
  have gS:((s.heap.push { cls:=.type "tuple_iterator",data:=.fields #[.ref l,.int 0 0] }).push (seqObj "list" #[] 0)).get? (s.heap.objs.size + 1)=some (seqObj "list" #[] 0):=by rw[<- hS];exact Heap.get?_push_size _ rfl
  have kp:∀ b o,s.heap.get? b=some o->((s.heap.push { cls:=.type "tuple_iterator",data:=.fields #[.ref l,.int 0 0] }).push (seqObj "list" #[] 0)).get? b=some o:=λ b o e=>Heap.get?_push_of_some _ (Heap.get?_push_of_some _ e)
  have I1:Inv X pins σ H { s with heap:=(s.heap.push { cls:=.type "tuple_iterator",data:=.fields #[.ref l,.int 0 0] }).push (seqObj "list" #[] 0),toks:=s.toks }:=I.kept (t':=s.toks) kp
  have hSI:s.heap.objs.size + 1 ≠ s.heap.objs.size:=Nat.ne_of_gt (Nat.lt_succ_self _)
  have hI0:∀ H',H' s.heap.objs.size=none->FpOk X pins H' s.heap.objs.size:=λ H' hn=>I.fpOk (Nat.le_refl _) hn
  have hS0:∀ H',H' (s.heap.objs.size + 1)=none->FpOk X pins H' (s.heap.objs.size + 1):=λ H' hn=>I.fpOk (Nat.le_succ _) hn
  have nI:H s.heap.objs.size=none:=I.hok.fresh (Nat.le_refl _)
  have nS:H (s.heap.objs.size + 1)=none:=I.hok.fresh (Nat.le_succ _)
  generalize (s.heap.push { cls:=.type "tuple_iterator",data:=.fields #[.ref l,.int 0 0] }).push (seqObj "list" #[] 0)=h1 at gI gS I1 ⊢
  refine wpAny_pure ⟨plainId_quiet PySem.F.plain_min_loop _,?_⟩
  refine codeAny_builtin PySem.F.entry_min_loop ?_
  rw[Around.under_plainId PySem.F.plain_min_loop _]
  show wpAny _ X.A.in1 (seqItems? (.ref (s.heap.objs.size + 1)) >>= _) _ _ _
  refine wpAny_bind (wpAny_seqItems gS rfl ?_)
  show wpAny _ X.A.in1 (tryCatch (pyNext (.ref s.heap.objs.size)) _ >>= _) _ _ _
  obtain⟨its,hv,hil⟩:=hsrc _ _ _ _ I1 hsr
  obtain⟨u,hu,ru⟩:=hv.get hx0
  refine wpAny_bind (wpAny_tryCatch (wpAny_pyNext_tuple_item (i:=0) ⟨_,gI,rfl,rfl⟩ hil (x:=u) (by simpa using hu) λ h' hit' hs'=>?_))
  obtain⟨oI',hoI',hoc,hod⟩:=id hit'
  have dI:∀ v,oI'.data ≠ .cell v:=λ v z=>by rw[hod]at z;cases z
  have hSh':h'.get? (s.heap.objs.size + 1)=some (seqObj "list" #[] 0):=(hs'.2 _ hSI).trans gS
  have J2:Inv X pins σ H { s with heap:=h',toks:=s.toks }:=(I1.repin (hI0 H nI) gI (λ v z=>by cases z)).turnE (hI0 H nI) λ c u n e=>(hs'.2 c n).trans e
  have J3:=(J2.repin (hI0 H nI) hoI' dI).repin ((hS0 H nS).more hSI.symm) hSh' (λ v z=>by cases z)
  show wpAny _ X.A.in1 (tryCatch (holding [u] (call (.ref f) [u])) _ >>= _) _ _ _
  refine wpAny_bind (wpAny_tryCatch (wpAny_holding (wpAny_mono (turn _ H _ x u _ (λ p hp=>List.mem_cons_of_mem _ (List.mem_cons_of_mem _ hp)) J3 ru hG hgo) (λ v s2 he=>?_) λ _ _ hF=>hF.elim)))
  obtain⟨k,H2,J4,rk,n,rfl,hgo2⟩:=he
  obtain⟨t2,rfl⟩:=rk
  have nS2:=J4.pin (s.heap.objs.size + 1,seqObj "list" #[] 0) (List.mem_append_right _ List.mem_cons_self)
  have nI2:=J4.pin (s.heap.objs.size,oI') (List.mem_append_right _ (List.mem_cons_of_mem _ List.mem_cons_self))
  have s1:=Heap.SameBut.update s2.heap (s.heap.objs.size + 1) (Obj.mapSeq λ _=>#[u,.int n t2])
  obtain⟨c2,hc2⟩:∃ c2,(s2.heap.update (s.heap.objs.size + 1) (Obj.mapSeq λ _=>#[u,.int n t2])).get? (s.heap.objs.size + 1)=some (seqObj "list" #[u,.int n t2] c2):=⟨_,get?_update_seq nS2.1 λ _=>#[u,.int n t2]⟩
  show wpAny _ X.A.in1 (updateSeq (s.heap.objs.size + 1) (λ _=>#[u,.int n t2]) >>= _) _ _ _
  refine wpAny_bind ?_
  refine wpAny_updateSeq nS2.1 rfl ?_
  rw[hname]
  have J5:Inv X ((s.heap.objs.size + 1,seqObj "list" #[] 0) :: pins) σ H2 s2:=J4.pins_of λ p hp=>by
    rcases List.mem_cons.mp hp with rfl|hp
    . exact nS2
    . exact J4.pin p (List.mem_append_right _ (List.mem_cons_of_mem _ (List.mem_cons_of_mem _ hp)))
  have J6:Inv X pins σ H2 { s2 with heap:=s2.heap.update (s.heap.objs.size + 1) (Obj.mapSeq λ _=>#[u,.int n t2]),toks:=s2.toks }:=J5.turnE (hS0 H2 nS2.2.1) λ c u n e=>(s1.2 c n).trans e
  have gI2:(s2.heap.update (s.heap.objs.size + 1) (Obj.mapSeq λ _=>#[u,.int n t2])).get? s.heap.objs.size=some oI':=(s1.2 _ hSI.symm).trans nI2.1
  have J7:=(J6.repin (hI0 H2 nI2.2.1) gI2 dI).repin ((hS0 H2 nS2.2.1).more hSI.symm) hc2 (λ v z=>by cases z)
  exact wpAny_pure ⟨plainId_quiet PySem.F.plain_min_loop _,On hh hsrc hSI 0 hI0 hS0 turn m 1 x u n t2 c2 oI' H2 _ J7 ⟨oI',gI2,hoc,hod⟩ ru hgo2⟩
end
noncomputable def Ko(K:PySem.W.Frag)(P:Addr)(q:Str)(pos:Pos)(ix:List Nat)(te tb:TE):TE:=λ σ H Q=>te σ H λ v H1=>∃ (a:Addr) (m:Nat) (ps:Array Value),v=.ref a/\H1 P=some (.tbl ps)/\FQ H1 q pos ps /\
  ∀ H2 c,Ek P q pos H1 H2->H2 c=some (.ext (cdF c q))->Fy (λ n m=>decide (n < m)) (λ H xs=>SqT K H a xs) (λ H=>H c=some (.ext (cdF c q))) tb (ix.map λ i=>(σ[i]?).join) m H2 Q
section
variable{X:Cx}{c P:Addr}{scope:Scope}{fr:List Str}{ix:List Nat}{prm:Str}{params:Arguments}{body e:Expr}{p pos lpos kpos:Pos}{te tb:TE}
theorem Qt(LA:LamAt X c P)(S:CSc X scope fr ix)(L:LSc scope prm)(hr:Room 3 X.A)(hcm:X.calm=true)(hg:Gl X "min")(hm:X.mg "min"=none)
    (hbind:∀ (cl:List (Str × Addr)) (pm cd ctv us:Value),bindArgs (kla_fn "<lambda>" (X.env.qual ++ "<lambda>") params body scope cl pm cd ctv) ⟨[us],[]⟩=pure [(prm,us)])
    (he:PE X e te) (hb:∀ (f:Addr) (cd:Value) (s:Shared) (H:Hp),PE (lCx X X.A.in1 (prm :: fr) (X.env.qual ++ "<lambda>") scope f cd (Af X.env.cells scope.names []) s H) body tb)
    (hdef:defaultsOf params X.env=([],[]):=by rfl) (hs:starEach [e] X.env=[(false,eval e X.env)]:=by rfl) :
    PE X (.Call (.Name "min" p) [e] [⟨some "key",.Lambda params body scope lpos,kpos⟩] pos) (Ko X.K P (X.env.qual ++ "<lambda>") lpos ix te tb):=by
  intro pins s σ H Q I h
  have PAe:PA X [e] (Bi te Cb):=CO he DW hs
  refine wpAny_Call_Name_kw (Fo (u:=.builtin "min") I hg hm bt_min ?_)
  have pl:(backTo pos (starEach [e] X.env)).any (·.1)=false:=by rw[hs];rfl
  refine callWith_builtin_kwB pl rfl (evalArgs_kw2 (env:=X.env) (e:=e) (rest:=[]) (kws:=[⟨some "key",.Lambda params body scope lpos,kpos⟩]) rfl (thn (PAe pos pins s σ H (λ vs H1=>match vs with
    | [v]=>∃ (a:Addr) (m:Nat) (ps:Array Value),v=.ref a/\H1 P=some (.tbl ps)/\FQ H1 (X.env.qual ++ "<lambda>") lpos ps /\
        ∀ H2 c,Ek P (X.env.qual ++ "<lambda>") lpos H1 H2->H2 c=some (.ext (cdF c (X.env.qual ++ "<lambda>")))->Fy (λ n m=>decide (n < m)) (λ H xs=>SqT X.K H a xs) (λ H=>H c=some (.ext (cdF c (X.env.qual ++ "<lambda>")))) tb (ix.map λ i=>(σ[i]?).join) m H2 Q
    | _=>False) I h) λ us s1 hq=>?_) hs)
  obtain⟨vs,H1,I1,r,q⟩:=hq
  match vs,q with
  | [v],q=>
  obtain⟨a,m,ps,rfl,hP,hg1,go⟩:=q
  obtain⟨u,rfl,ru⟩:=Bp r
  cases ru
  show wpAny _ _ (evalAll [(do let v <- eval (.Lambda params body scope lpos) X.env;standAt pos;pure v)]) _ _ s1
  refine wpAny_evalAll_cons (wpAny_bind (La S LA I1 hdef hP hg1 λ f cd ctv H2 s2 I2 M=>wpAny_bind (wpAny_standAt (wpAny_pure (wpAny_evalAll_nil ?_)))))
  show wpAny _ _ (call (.builtin "min") [.ref a] [(Str.ofString "key",.ref f)]) _ _ s2
  obtain⟨c',rfl,hc'⟩:=M.cdc
  have go':=go H2 c' M.step hc'
  have ff:FpOk X pins H2 f:=I1.fpOk M.new M.fre
  have I3:=I2.repin ff M.fn (λ v z=>by cases z)
  refine wpAny_mono (R0 (pins:=(f,_) :: pins) (I3.ok.hd hcm) I3 (λ pins' H' s' xs J hG=>?_) (λ pins' H' s' x u Q1 sub J ru hG hq=>?_) go') (λ v s' hv=>?_) λ _ _ z=>z
  . obtain⟨its,rv,pl2,hz⟩:=J.tuple hG
    exact⟨its,rv,pl2⟩
  . have pf:=J.pin (f,_) (List.mem_append_right _ (sub _ List.mem_cons_self))
    exact Lb (A:=X.A.in1) (f:=f) S L J rfl (hr.in1.mono (by decide)) pf.1 (J.hok c' _ hG).1 (λ us=>hbind _ _ _ _ us) (λ s H=>hb f _ s H) ru hq
  . obtain⟨y,H',J,ry,qy⟩:=hv
    exact⟨y,H',J.pins_of λ p hp=>J.pin p (List.mem_append_right _ (List.mem_cons_of_mem _ hp)),ry,qy⟩
end
section
variable{K:PySem.W.Frag}{hd:Hd}
theorem QV{te tb:TE}{mi mb:ME}{P:Addr}{q:Str}{pos:Pos}{ix:List Nat}(hi:RE K te mi)(hb:RE K tb mb)(TI:HX K P q pos):RE K (Ko K P q pos ix te tb) (Fj (λ n m=>decide (n < m)) mi ix mb):=by
  intro ρ σ H hd ls Q d hd' hR hL hm hQ
  obtain⟨⟨d1,h1⟩,e1,hm⟩:=Option.bind_eq_some_iff.mp hm
  obtain⟨ds,e2,hm⟩:=Option.bind_eq_some_iff.mp hm
  obtain⟨kz,e3,hm⟩:=Option.bind_eq_some_iff.mp hm
  dsimp only at hm e2 e3
  split at hm
  . next x r n ns _=>
    cases hm
    refine hi ρ σ H hd ls _ d1 _ hR hL e1 λ ρ1 H1 v1 x1 R1 r1=>?_
    obtain⟨a,xs,rfl,sq,rs⟩:=RD.tup r1 e2
    obtain⟨p',et,_,l1,l2⟩:=id TI
    obtain⟨ps,hP,hG⟩:=R1.tabs (P,q,p') et
    have hG':FQ H1 q pos ps:=by
      rcases hG with g|⟨c,g1,g2⟩
      . exact .inl g
      . refine .inr ⟨c,?_,g2⟩
        rw[g1]
        show #[rawInt p'.line,rawInt p'.col,Value.ref c]=_
        rw[l1,l2]
    refine⟨a,r.length,ps,rfl,hP,hG',λ H2 c step hc=>?_⟩
    obtain⟨R2,x2⟩:=Kl R1 hP step TI
    have x12:=x1.trans R1 x2
    have L2':=hL.ext hR x12
    have r2:=r1.ext R1 x2
    obtain⟨a',xs,ea,sq,rs⟩:=RD.tup r2 e2
    cases ea
    obtain⟨v,hv,rv⟩:=rs.get (i:=0) (d:=x) rfl
    unfold DM at e3
    split at e3
    . next n' h e4=>
      split at e3
      . next ks e5=>
        split at e3
        . next eh=>
          cases e3
          rw[eh]at e4
          refine⟨xs,v,sq,hv,hc,hb ρ1 _ H2 _ _ _ (.im (.int n)) _ R2 (II L2' rv) e4 λ ρ3 H3 v3 x3 R3 rk=>?_⟩
          simp only[RD,RI]at rk
          subst rk
          have oc:c ∉ ρ1:=λ m=>by rcases R2.mut m with⟨y,w⟩|⟨y,w⟩ <;> (rw[hc]at w;cases w)
          refine⟨n,rfl,Hy hb e2 r ns 1 x v n ρ3 H3 Q rfl (by simp) e5 R3 (L2'.ext R2 x3) (x3.keep c _ hc oc nt) (r2.ext R2 x3) (rv.ext R2 x3) λ ρ4 H4 w x4 R4 r4=>hQ ρ4 H4 w ((x12.trans R2 x3).trans R3 x4) R4 r4⟩
        . cases e3
      . cases e3
    . cases e3
  . cases hm
end
theorem Qk(K:PySem.W.Frag){X:Cx}{c P:Addr}{scope:Scope}{fr:List Str}{ix:List Nat}{prm:Str}{params:Arguments}{body e:Expr}{p pos lpos kpos:Pos}{te tb:TE}{mi mb:ME}{k:Nat}(LA:LamAt X c P)(TI:HX K P (X.env.qual ++ "<lambda>") lpos)(S:CSc X scope fr ix)(L:LSc scope prm)(hr:Room k X.A)(h3:3 <= k)(hm:X.mg "min"=none)
    (he:QE K X e te mi) (hb:∀ (f:Addr) (cd:Value) (s:Shared) (H:Hp),QE K (lCx X X.A.in1 (prm :: fr) (X.env.qual ++ "<lambda>") scope f cd (Af X.env.cells scope.names []) s H) body tb mb)
    (hbind:∀ (cl:List (Str × Addr)) (pm cd ctv us:Value),bindArgs (kla_fn "<lambda>" (X.env.qual ++ "<lambda>") params body scope cl pm cd ctv) ⟨[us],[]⟩=pure [(prm,us)])
    (hcm:X.calm=true:=by rfl) (hg:Gl X "min":=by rfl) (hdef:defaultsOf params X.env=([],[]):=by rfl) (hs:starEach [e] X.env=[(false,eval e X.env)]:=by rfl) (hK:X.K=K:=by rfl) :
    QE K X (.Call (.Name "min" p) [e] [⟨some "key",.Lambda params body scope lpos,kpos⟩] pos) (Ko K P (X.env.qual ++ "<lambda>") lpos ix te tb) (Fj (λ n m=>decide (n < m)) mi ix mb):=by
  subst hK
  exact⟨Qt LA S L (hr.mono h3) hcm hg hm hbind he.p (λ f cd s H=>(hb f cd s H).p) hdef hs,QV he.r (hb 0 .none X.s₀ X.H₀).r TI⟩
theorem OD{op:Int->Int->Bool}{mi mb:ME}{ix:List Nat}{ls:Ls}{hd:Hd}{QE:D->Hd->Prop}(h:WE mi ls hd λ d x=>∃ (e:D) (es:List D) (kf:D->Int),Av d=some (e :: es)/\(∀ y ∈ e :: es,mb (some y :: ix.map λ i=>(ls[i]?).join) x=some (.im (.int (kf y)),x))/\QE (Bk op es (es.map kf) e (kf e)) x):WE (Fj op mi ix mb) ls hd QE:=by
  obtain⟨d,x,e1,e,es,kf,e2,ek,q⟩:=h
  have go:∀ ys:List D,(∀ y ∈ ys,mb (some y :: ix.map λ i=>(ls[i]?).join) x=some (.im (.int (kf y)),x))->DM mb (ix.map λ i=>(ls[i]?).join) x ys=some (ys.map kf):=by
    intro ys
    induction ys with
    | nil=>intro _;rfl
    | cons y r ih=>
      intro h
      unfold DM
      rw[h y List.mem_cons_self,ih λ z hz=>h z (List.mem_cons_of_mem _ hz)]
      simp
  refine⟨_,x,?_,q⟩
  simp only[Fj,e1,Option.bind_some,e2,go _ ek,List.map_cons]
theorem Hw(kf:D->Int):∀ (es:List D) (b:D),Bk (λ n m=>decide (n < m)) es (es.map kf) b (kf b) ∈ b :: es/\∀ y ∈ b :: es,kf (Bk (λ n m=>decide (n < m)) es (es.map kf) b (kf b)) <= kf y
  | [],b=>by simp[Bk]
  | x :: r,b=>by
    rw[List.map_cons,Bk]
    by_cases h:decide (kf x < kf b)=true
    . rw[if_pos h]
      have h:=of_decide_eq_true h
      obtain⟨h1,h2⟩:=Hw kf r x
      refine⟨List.mem_cons_of_mem _ h1,λ y hy=>?_⟩
      rcases List.mem_cons.mp hy with rfl|hy
      . have:=h2 x List.mem_cons_self;omega
      . exact h2 y hy
    . rw[if_neg h]
      have h:¬ kf x < kf b:=λ z=>h (decide_eq_true z)
      obtain⟨h1,h2⟩:=Hw kf r b
      refine⟨?_,λ y hy=>?_⟩
      . rcases List.mem_cons.mp h1 with e|e
        . rw[e];exact List.mem_cons_self
        . exact List.mem_cons_of_mem _ (List.mem_cons_of_mem _ e)
      . rcases List.mem_cons.mp hy with rfl|hy
        . exact h2 y List.mem_cons_self
        . rcases List.mem_cons.mp hy with rfl|hy
          . have:=h2 b List.mem_cons_self;omega
          . exact h2 y (List.mem_cons_of_mem _ hy)
end L2
namespace L2
open PySem PySem.Spec PyProof.Rows PySem.W
end L2
namespace L2
open PySem PySem.Spec PyProof.Rows
section
variable{X:Cx}{pos p2:Pos}
noncomputable def Ra(to ta tc:TE):TG:=λ v σ H Q=>to σ H λ o H1=>ta σ H1 λ i H2=>tc σ H2 λ j H3=>∃ (l b:Addr) (xs ys:List V) (a c:Int),o=.ref l/\v=.ref b/\i=.int a/\j=.int c/\H3 l=some (.lst xs)/\H3 b=some (.lst ys)/\l ≠ b/\0 <= a/\a <= c/\c <= xs.length/\xs.length + ys.length <= sizeLine/\Q σ (upd H3 l (.lst (xs.take a.toNat ++ ys ++ xs.drop c.toNat)))
theorem VL{o lo hi:Expr}{to ta tc:TE}(ho:PE X o to)(hl:PE X lo ta)(hu:PE X hi tc)
    (ha:∀ v,assign (.Subscript o (.Slice (some lo) (some hi) none p2) pos) X.env v=(do
      let ov <- holding [v] (eval o X.env)
      let iv <- holding [v,ov] (eval (.Slice (some lo) (some hi) none p2) X.env)
      standAt pos
      holding [v,ov,iv] (setItem ov iv v)
      release [iv,v,ov] []):=by intro _;rfl):PG X (.Subscript o (.Slice (some lo) (some hi) none p2) pos) (Ra to ta tc):=by
  intro pins s σ H v u Q I r h
  rw[ha]
  refine wpAny_bind (wpAny_holding (thn (ho pins s σ H _ I h) λ ov s1 ⟨x,H1,I1,r1,q1⟩=>?_))
  refine wpAny_bind (wpAny_holding (wpAny_Slice ?_))
  rw[evalPart_some]
  refine thn (hl pins s1 σ H1 _ I1 q1) λ vl s2 ⟨i,H2,I2,r2,q2⟩=>?_
  rw[evalPart_some]
  refine thn (hu pins s2 σ H2 _ I2 q2) λ vu s3 ⟨j,H3,I3,r3,q3⟩=>?_
  rw[evalPart_none]
  refine wpAny_pure ?_
  obtain⟨l,b,xs,ys,a,c,rfl,rfl,rfl,rfl,e1,e2,hne,h0,hac,hc,hz,q⟩:=q3
  have I4:Inv X pins σ H3 { s3 with heap:=s3.heap.push { cls:=.type "slice",data:=.fields #[vl,vu,.none] } }:=I3.kept (t':=s3.toks) λ b ob q=>Heap.get?_push_of_some _ q
  cases r1
  cases r
  refine wpAny_bind (wpAny_standAt (wpAny_bind (wpAny_holding (OL I4 e1 e2 hne (Heap.IsSliceOf.new ..) r2 r3 h0 hac hc hz λ s' I5=>?_))))
  exact wpAny_release ⟨σ,_,I5,q⟩
end
end L2
namespace L2
open PySem PySem.Spec PyProof.Rows
noncomputable def Fh(mo ma mc mv:ME):MS:=λ ls hd=>(mv ls hd).bind λ p=>(mo ls p.2).bind λ q=>(ma ls q.2).bind λ r=>(mc ls r.2).bind λ t=>match p.1,q.1,r.1,t.1 with
  | .mu b,.mu l,.im (.int a),.im (.int c)=>match t.2[l]?,t.2[b]? with
    | some (.lst xs),some (.lst ys)=>if l ≠ b/\0 <= a/\a <= c/\c <= xs.length/\xs.length + ys.length <= 1000000 then some (.nx ls,t.2.set l (.lst (xs.take a.toNat ++ ys ++ xs.drop c.toNat)))else none
    | _,_=>none
  | _,_,_,_=>none
section
variable{K:PySem.W.Frag}
theorem OO{to ta tc tv:TE}{mo ma mc mv:ME}(ho:RE K to mo)(ha:RE K ta ma)(hc:RE K tc mc)(hv:RE K tv mv):RS K (Es tv (Ra to ta tc)) (Fh mo ma mc mv):=by
  intro ρ σ H hd0 ls E f hd' hR hL hm hQ
  obtain⟨⟨d1,h1⟩,e1,hm⟩:=Option.bind_eq_some_iff.mp hm
  obtain⟨⟨d2,h2⟩,e2,hm⟩:=Option.bind_eq_some_iff.mp hm
  obtain⟨⟨d3,h3⟩,e3,hm⟩:=Option.bind_eq_some_iff.mp hm
  obtain⟨⟨d4,h4⟩,e4,hm⟩:=Option.bind_eq_some_iff.mp hm
  dsimp only at hm
  split at hm
  . split at hm
    . next q1 q2=>
      split at hm
      . next c0=>
        cases hm
        refine hv ρ σ H hd0 ls _ _ h1 hR hL e1 λ ρ1 H1 v1 x1 R1 r1=>?_
        refine ho ρ1 σ H1 h1 ls _ _ h2 R1 (hL.ext hR x1) e2 λ ρ2 H2 v2 x2 R2 r2=>?_
        refine ha ρ2 σ H2 h2 ls _ _ h3 R2 (hL.ext hR (x1.trans R1 x2)) e3 λ ρ3 H3 v3 x3 R3 r3=>?_
        refine hc ρ3 σ H3 h3 ls _ _ _ R3 (hL.ext hR ((x1.trans R1 x2).trans R2 x3)) e4 λ ρ4 H4 v4 x4 R4 r4=>?_
        have r2:=(r2.ext R2 x3).ext R3 x4
        have r1:=((r1.ext R1 x2).ext R2 x3).ext R3 x4
        have r3:=r3.ext R3 x4
        simp only[RD]at r2 r1
        obtain⟨a,hn,rfl⟩:=r2
        obtain⟨b,hb,rfl⟩:=r1
        simp only[RD,RI]at r3 r4
        subst r3
        subst r4
        obtain⟨xs,l1,l2⟩:=R4.lst hn q1
        obtain⟨ys,k1,k2⟩:=R4.lst hb q2
        obtain⟨R5,x5⟩:=R4.put hn (o:=.lst _) (ho:=.lst (xs.take _ ++ ys ++ xs.drop _)) ⟨_,rfl,((l2.take _).app k2).app (l2.drop _)⟩
        have x14:=((x1.trans R1 x2).trans R2 x3).trans R3 x4
        refine⟨a,b,xs,ys,_,_,rfl,rfl,rfl,rfl,l1,k1,?_,c0.2.1,c0.2.2.1,by rw[l2.len];exact c0.2.2.2.1,?_,hQ ρ4 _ (x14.trans R4 x5) R5 σ ((hL.ext hR x14).ext R4 x5)⟩
        . intro z
          subst z
          exact c0.1 ((List.getElem?_inj (List.getElem?_eq_some_iff.mp hn).1 R4.nd).mp (by rw[hn,hb]))
        . have:=Ah (n:=xs.length + ys.length) (by rw[l2.len,k2.len];exact c0.2.2.2.2)
          exact this
      . cases hm
    . cases hm
  . cases hm
variable{X:Cx}{pos:Pos}
theorem OZ{o lo hi value:Expr}{p2 pos':Pos}{to ta tc tv:TE}{mo ma mc mv:ME}(ho:QE K X o to mo)(hl:QE K X lo ta ma)(hu:QE K X hi tc mc)(hv:QE K X value tv mv)(hs:swapsWithSole [.Subscript o (.Slice (some lo) (some hi) none p2) pos'] value pos.line X.env=pure false:=by rfl)(hw:swappedStores [.Subscript o (.Slice (some lo) (some hi) none p2) pos'] value X.env=pure none:=by rfl)
    (h1:(assignEach [.Subscript o (.Slice (some lo) (some hi) none p2) pos'] X.env).map (·.2)=[assign (.Subscript o (.Slice (some lo) (some hi) none p2) pos') X.env]:=by rfl)
    (ha:∀ v,assign (.Subscript o (.Slice (some lo) (some hi) none p2) pos') X.env v=(do
      let ov <- holding [v] (eval o X.env)
      let iv <- holding [v,ov] (eval (.Slice (some lo) (some hi) none p2) X.env)
      standAt pos'
      holding [v,ov,iv] (setItem ov iv v)
      release [iv,v,ov] []):=by intro _;rfl):QS K X (.Assign [.Subscript o (.Slice (some lo) (some hi) none p2) pos'] value pos) (Es tv (Ra to ta tc)) (Fh mo ma mc mv):=⟨LG hv.p (VL ho.p hl.p hu.p ha) hs hw h1,OO ho.r hl.r hu.r hv.r⟩
theorem O6{mo ma mc mv:ME}{ls:Ls}{hd:Hd}{QS:Fl->Hd->Prop}(h:WE mv ls hd λ p x=>WE mo ls x λ q y=>WE ma ls y λ r z=>WE mc ls z λ t w=>∃ b l a c xs ys,p=.mu b/\q=.mu l/\r=.im (.int a)/\t=.im (.int c)/\w[l]? = some (.lst xs)/\w[b]? = some (.lst ys)/\(l ≠ b/\0 <= a/\a <= c/\c <= xs.length/\xs.length + ys.length <= 1000000)/\QS (.nx ls) (w.set l (.lst (xs.take a.toNat ++ ys ++ xs.drop c.toNat)))):WS (Fh mo ma mc mv) ls hd QS:=by
  obtain⟨p,x,e1,q,y,e2,r,z,e3,t,w,e4,b,l,a,c,xs,ys,rfl,rfl,rfl,rfl,f1,f2,g,k⟩:=h
  refine⟨_,_,?_,k⟩
  simp only[Fh,e1,e2,e3,e4,Option.bind_some,f1,f2]
  rw[if_pos g]
end
end L2
namespace L2
open PySem PySem.Spec PyProof.Rows
theorem LH:∀ L:List Value,(List.range L.length).filterMap (λ i=>L[i]?)=L
  | []=>rfl
  | x :: r=>by
    rw[List.length_cons,List.range_succ_eq_map,List.filterMap_cons]
    simp only[List.getElem?_cons_zero,List.filterMap_map]
    congr 1
    have:=LH r
    simpa [Function.comp_def]using this
theorem Qq(items:Array Value):slicePick items none none (some (-1))=items.toList.reverse.toArray:=by
  unfold slicePick
  congr 1
  have e1:(sliceBounds none none (some (-1)) items.size)=((items.size:Int) - 1,-1,-1):=by simp[sliceBounds]
  rw[e1]
  have e2:sliceRange ((items.size:Int) - 1) (-1) (-1)=(List.range items.size).map λ k=>items.size - 1 - k:=by
    unfold sliceRange
    have c0:((if(-1:Int) > 0 then(if((items.size:Int) - 1) < -1 then((-1) - ((items.size:Int) - 1) + (-1) - 1) / (-1)else 0)else(if((items.size:Int) - 1) > -1 then(((items.size:Int) - 1) - (-1) - (-1) - 1) / (-(-1))else 0)):Int).toNat=items.size:=by
      rw[if_neg (by decide)]
      split
      . rw[show(-(-1):Int)=1 from rfl,Int.ediv_one];omega
      . omega
    dsimp only
    rw[c0]
    refine List.map_congr_left λ k hk=>?_
    have:=List.mem_range.mp hk
    show((items.size:Int) - 1 + -1 * (k:Int)).toNat=items.size - 1 - k
    omega
  rw[e2]
  have e3:((List.range items.size).map λ k=>items.size - 1 - k)=(List.range items.size).reverse:=by
    refine List.ext_getElem (by simp) λ i h1 h2=>?_
    simp[List.getElem_reverse]
  rw[e3,List.filterMap_reverse]
  congr 1
  have:=LH items.toList
  simpa using this
theorem Kf:∀ {xs:List V} {us:List Value},Vals xs us->Vals xs.reverse us.reverse
  | _,_,.nil=>.nil
  | _,_,.cons r t=>by
    rw[List.reverse_cons,List.reverse_cons]
    exact Vals.append (Kf t) (.cons r .nil)
section
variable{X:Cx}{e stp:Expr}{te ts:TE}{pos p2:Pos}
noncomputable def Pu(K:PySem.W.Frag)(te ts:TE):TE:=λ σ H Q=>te σ H λ x H1=>ts σ H1 λ y H2=>y=.int (-1)/\∃ a xs,x=.ref a/\SqL K H2 a xs/\∀ p,H2 p=none->Q (.ref p) (upd H2 p (.lst xs.reverse))
theorem VR(he:PE X e te)(hs:PE X stp ts):PE X (.Subscript e (.Slice none none (some stp) p2) pos) (Pu X.K te ts):=by
  intro pins s σ H Q I h
  refine Subscript_ (thn (he pins s σ H _ I h) λ v s1 ⟨x,H1,I1,r1,q1⟩=>?_)
  refine wpAny_Slice ?_
  rw[evalPart_none]
  refine wpAny_pure (wpAny_pure ?_)
  rw[evalPart_some]
  refine thn (hs pins s1 σ H1 _ I1 q1) λ vs s3 ⟨y,H3,I3,r3,q3⟩=>?_
  obtain⟨rfl,a,xs,rfl,hx,q⟩:=q3
  obtain⟨t,rfl⟩:=r3
  cases r1
  have I4:Inv X pins σ H3 { s3 with heap:=s3.heap.push { cls:=.type "slice",data:=.fields #[.none,.none,.int (-1) t] } }:=I3.kept (t':=s3.toks) λ b ob q=>Heap.get?_push_of_some _ q
  obtain⟨its,r,ht,hz⟩:=I4.list hx
  have hlen:=r.length
  have hg:wpAny (model X.prog X.w) X.A (getItem (.ref a) (.ref s3.heap.objs.size)) (EP X pins σ Q) X.xe { s3 with heap:=s3.heap.push { cls:=.type "slice",data:=.fields #[.none,.none,.int (-1) t] } }:=by
    refine wpAny_getItem_list_slice ht.isList (Heap.IsSliceOf.new ..) .none .none (.int (-1) t) (by simp) ?_ (by rw[List.size_toArray] <;> omega)
    rw[Qq]
    refine⟨.ref _,_,I4.laid (t':=s3.toks) (o:=.lst xs.reverse) (λ b ob q=>Heap.get?_push_of_some _ q) (Nat.le_refl _) ?_,rfl,q _ (I4.hok.fresh (Nat.le_refl _))⟩
    refine⟨by rw[List.length_reverse];exact hz,its.reverse,0,?_,?_⟩
    . exact Kf r
    . exact Heap.get?_push_size _ rfl
  show wpAny (model X.prog X.w) X.A (subscriptTail e (.Slice none none (some stp) p2) (.ref a) (.ref s3.heap.objs.size)) (EP X pins σ Q) X.xe { s3 with heap:=s3.heap.push { cls:=.type "slice",data:=.fields #[.none,.none,.int (-1) t] } }
  exact tail_any (ops:=[.ref a,.ref s3.heap.objs.size]) ht.isList.typeIs slot_list_getitem.lookup hg (by with_unfolding_all rfl)
end
end L2
namespace L2
open PySem PySem.Spec PyProof.Rows
noncomputable def Ib(m:MA)(ms:ME):MA:=λ ls hd=>(m ls hd).bind λ p=>(ms ls p.2).bind λ q=>match q.1 with
  | .im (.int i)=>if i=-1 then some (p.1.reverse,q.2)else none
  | _=>none
section
variable{K:PySem.W.Frag}{ρ:List Addr}{H:Hp}
theorem RDs.rev:∀ {ds:List D} {xs:List V},RDs K ρ H ds xs->RDs K ρ H ds.reverse xs.reverse
  | [],xs,h=>by simp only[RDs]at h;subst h;simp[RDs]
  | d :: ds,xs,h=>by
    simp only[RDs]at h
    obtain⟨x,r,rfl,rx,h⟩:=h
    rw[List.reverse_cons,List.reverse_cons]
    exact(RDs.rev h).app (.cons rx .nil)
theorem Sm{t ts:TE}{m:MA}{ms:ME}(h:RN K t m)(hs:RE K ts ms):RN K (Pu K t ts) (Ib m ms):=by
  intro ρ σ H hd ls Q d hd' hR hL hm hQ
  obtain⟨⟨d1,h1⟩,e1,hm⟩:=Option.bind_eq_some_iff.mp hm
  obtain⟨⟨d2,h2⟩,e2,hm⟩:=Option.bind_eq_some_iff.mp hm
  dsimp only at e2 hm
  split at hm
  . split at hm
    . next hi=>
      cases hm
      subst hi
      refine h ρ σ H hd ls _ d1 h1 hR hL e1 λ ρ1 H1 a xs x1 R1 hn hna hH r1=>?_
      refine hs ρ1 σ H1 h1 ls _ _ _ R1 (hL.ext hR x1) e2 λ ρ2 H2 v x2 R2 r2=>?_
      simp only[RD,RI]at r2
      have hH2:=x2.keep a _ hH hna (by intro ps z;cases z)
      refine⟨r2,a,xs,rfl,SqL.of hH2,λ p hp=>?_⟩
      obtain⟨R3,x3⟩:=R2.hid (ho:=.lst xs.reverse) hp
      have x12:=x1.trans R1 x2
      exact hQ ρ2 _ p _ (x12.trans R2 x3) R3 (x12.none hR hp R2) (R2.out hp) AQ ((RDs.rev (r1.ext R1 x2)).ext R2 x3)
    . cases hm
  . cases hm
variable{X:Cx}{e stp:Expr}{te ts:TE}{m:MA}{ms:ME}{pos p2:Pos}
theorem T2(h:QN K X e te m)(hs:QE K X stp ts ms)(hK:X.K=K:=by rfl):QN K X (.Subscript e (.Slice none none (some stp) p2) pos) (Pu K te ts) (Ib m ms):=by
  subst hK
  exact⟨VR h.p hs.p,Sm h.r hs.r⟩
theorem SY{m:MA}{ms:ME}{ls:Ls}{hd:Hd}{QA:List D->Hd->Prop}(h:WA m ls hd λ ds x=>WE ms ls x λ d y=>d=.im (.int (-1))/\QA ds.reverse y):WA (Ib m ms) ls hd QA:=by
  obtain⟨ds,x,e1,d,y,e2,rfl,q⟩:=h
  exact⟨_,_,by simp only[Ib,e1,e2,Option.bind_some,if_true],q⟩
end
end L2
namespace T32
open PySem L2
noncomputable def top(i:Nat):Stmt:=PySem.Challenge.pw_benchdays_k32_whole_neighbours_into_dues.main.body.getD i (.Pass ⟨0,0,0,0⟩)
noncomputable abbrev Cv:Stmt:=top 1
theorem sc_raised:FnScope ["works","wishes","some","t","told","within","turn","a","b"] ["works","wishes","some","t"] (A8 Cv):=⟨rfl,rfl,rfl,by decide +kernel,rfl,by decide +kernel,by decide +kernel⟩
@[reducible] noncomputable def LR:MS:=(AA (AL 4 (KM (Ih 1 [0,3] (BD (A0 2)) (AF 0) C6 [] (Ic (A0 0) (mCB Dd (A2 (mOp gIx (mOp gIx (A0 1) (A0 0)) (mC (.int 1))) (A2 (A0 2) A6)))))))
    (AA (AL 5 (B3 (BK 2 [4] (BD (A0 1)) (C0 2 (Aa (AF 0) (Aa (AF 1) C1))) (GH (AR (mOp (Ht false) (A0 0) (A0 2))) (AR (mOp (Ht false) (A0 1) (A0 2)))) (DS (A2 (A0 0) (A2 (A0 1) A6))))))
    (AA (CQ (BD (A0 2)) (AF 6)
      (CQ (Dk (A0 5)) (C0 2 (Aa (AF 7) (Aa (AF 8) C1)))
      (Ig (A0 4) (A0 8) (mCB Dd (A2 (mOp FN (A0 4) (A0 8)) (A2 (mOp B2 (mOp FN (A0 4) (A0 7)) (mOp gIx (mOp gIx (A0 0) (A0 7)) (mC (.int 0)))) A6))))))
    (AT (CP BC (BK 1 [4] (BD (A0 2)) (AF 0) C6 (mOp FN (A0 1) (A0 0))))))))
noncomputable def FH:List D->Hd->Option (D × Hd):=mkF 4 9 LR
noncomputable abbrev Dq:Stmt:=top 2
theorem Q9:FnScope ["works","wishes"] ["works","wishes"] (A8 Dq):=⟨rfl,rfl,rfl,by decide +kernel,rfl,by decide +kernel,by decide +kernel⟩
@[reducible] noncomputable def Mn:MS:=(AT (AC 0 FH (A2 (A0 0) (A2 (A0 1) (A2 (IZ (A2 (mCB (f1 true CL) (A2 (A0 0) A6)) A6)) (A2 (mC (.int 0)) A6))))))
noncomputable def G4:List D->Hd->Option (D × Hd):=mkF 2 2 Mn
noncomputable abbrev CA:Stmt:=top 7
theorem sc_steps_at:FnScope ["rows","t","told","begin","amount"] ["rows","t"] (A8 CA):=⟨rfl,rfl,rfl,by decide +kernel,rfl,by decide +kernel,by decide +kernel⟩
@[reducible] noncomputable def m_steps_at:MS:=(AA (AL 2 (mC (.int 0)))
    (AA (CQ (BD (A0 0)) (C0 2 (Aa (AF 3) (Aa (AF 4) C1)))
      (AA (Az (AR (mOp gGt (A0 3) (A0 1)))
      (AT (A0 2))
      Aj)
    (AL 2 (A0 4))))
    (AT (A0 2))))
noncomputable def F_steps_at:List D->Hd->Option (D × Hd):=mkF 2 5 m_steps_at
noncomputable abbrev Bt:Stmt:=top 8
theorem sc_cost_at:FnScope ["cost","t","word","above"] ["cost","t"] (A8 Bt):=⟨rfl,rfl,rfl,by decide +kernel,rfl,by decide +kernel,by decide +kernel⟩
@[reducible] noncomputable def m_cost_at:MS:=(AA (AL 2 (mOp gIx (A0 0) (mC (.int 0))))
    (AA (Az (AR (mOp gEq (A0 2) (mC (.str "steps"))))
      (AT (AC 0 F_steps_at (A2 (mOp gIx (A0 0) (mC (.int 1))) (A2 (A0 1) A6))))
      Aj)
    (AA (Az (AR (mOp gEq (A0 2) (mC (.str "ends"))))
      (AT (mOp C2 (mOp gIx (A0 0) (mC (.int 1))) (A0 1)))
      Aj)
    (AA (AL 3 (mOp EG (A0 1) (mOp gIx (A0 0) (mC (.int 1)))))
    (AA (Az (AR (mOp gEq (A0 2) (mC (.str "late"))))
      (AT (A0 3))
      Aj)
    (AA (Az (AR (mOp gLe (A0 3) (mC (.int 0))))
      (AT (mC (.int 0)))
      Aj)
    (AA (Az (AR (mOp gEq (A0 2) (mC (.str "tardy"))))
      (AT (mOp C2 (mOp gIx (A0 0) (mC (.int 2))) (A0 3)))
      Aj)
    (AT (mOp gIx (A0 0) (mC (.int 2)))))))))))
noncomputable def F_cost_at:List D->Hd->Option (D × Hd):=mkF 2 4 m_cost_at
noncomputable abbrev CV:Stmt:=top 10
theorem sc_reached:FnScope ["pairs","a","found","fresh","at","one","other"] ["pairs","a"] (A8 CV):=⟨rfl,rfl,rfl,by decide +kernel,rfl,by decide +kernel,by decide +kernel⟩
@[reducible] noncomputable def m_reached:MS:=(AA (AL 2 (B3 (BM A6)))
    (AA (AL 3 (B3 (BM (A2 (A0 1) A6))))
    (AA (DE (FC (A0 3))
      (AA (AL 4 (mMt Hu (A0 3) A6))
    (CQ (FS (A0 0)) (C0 2 (Aa (AF 5) (Aa (AF 6) C1)))
      (Az (GH (AR (mOp gEq (A0 5) (A0 4))) (AR (mOp (gIn true) (A0 6) (A0 2))))
      (AA (Br (mMt BA (A0 2) (A2 (A0 6) A6)))
    (Br (mMt BA (A0 3) (A2 (A0 6) A6))))
      Aj))))
    (AT (CP BC (DL (Dk (A0 2))))))))
noncomputable def F_reached:List D->Hd->Option (D × Hd):=mkF 2 7 m_reached
noncomputable abbrev Cw:Stmt:=top 11
theorem ON:FnScope ["many","wishes","a"] ["many","wishes","a"] (A8 Cw):=⟨rfl,rfl,rfl,by decide +kernel,rfl,by decide +kernel,by decide +kernel⟩
@[reducible] noncomputable def m_behind:MS:=(AT (AC 0 F_reached (A2 (A0 1) (A2 (A0 2) A6))))
noncomputable def F_behind:List D->Hd->Option (D × Hd):=mkF 3 3 m_behind
noncomputable abbrev Ba:Stmt:=top 12
theorem sc_last_ones:FnScope ["many","wishes","some","told","u","later"] ["many","wishes","some"] (A8 Ba):=⟨rfl,rfl,rfl,by decide +kernel,rfl,by decide +kernel,by decide +kernel⟩
@[reducible] noncomputable def Ha:MS:=(AA (AL 3 (B3 (BM A6)))
    (AA (CQ (BD (A0 2)) (AF 4)
      (AA (AL 5 (AC 0 F_behind (A2 (A0 0) (A2 (A0 1) (A2 (A0 4) A6)))))
    (Az (LV (FC (CP RU (BK 1 [5] (BD (A0 2)) (AF 0) C6 (mOp (gIn false) (A0 0) (A0 1))))))
      (Br (mMt BA (A0 3) (A2 (A0 4) A6)))
      Aj)))
    (AT (mCB (f1 true BC) (A2 (A0 3) A6)))))
noncomputable def CN:List D->Hd->Option (D × Hd):=mkF 3 6 Ha
noncomputable abbrev BZ:Stmt:=top 14
theorem Ku:FnScope ["works","some"] ["works","some"] (A8 BZ):=⟨rfl,rfl,rfl,by decide +kernel,rfl,by decide +kernel,by decide +kernel⟩
@[reducible] noncomputable def HZ:MS:=(AT (CP Hr (BK 1 [0] (BD (A0 1)) (AF 0) C6 (mOp gIx (mOp gIx (A0 1) (A0 0)) (mC (.int 0))))))
noncomputable def Bc:List D->Hd->Option (D × Hd):=mkF 2 2 HZ
noncomputable abbrev BU:Stmt:=top 15
theorem sc_same_coming:FnScope ["works","coming"] ["works"] (A8 BU):=⟨rfl,rfl,rfl,by decide +kernel,rfl,by decide +kernel,by decide +kernel⟩
@[reducible] noncomputable def GT:MS:=(AA (AL 1 (mOp gIx (mOp gIx (A0 0) (mC (.int 0))) (mC (.int 1))))
    (AA (Az (FC (CP RV (BK 1 [1] (BD (A0 0)) (AF 0) C6 (mOp gEq (mOp gIx (A0 0) (mC (.int 1))) (A0 1)))))
      (AT (A0 1))
      Aj)
    (AT (mC .non))))
noncomputable def Cm:List D->Hd->Option (D × Hd):=mkF 1 2 GT
noncomputable abbrev Bf:Stmt:=top 16
theorem sc_one_coming:FnScope ["works","coming"] ["works"] (A8 Bf):=⟨rfl,rfl,rfl,by decide +kernel,rfl,by decide +kernel,by decide +kernel⟩
@[reducible] noncomputable def Gf:MS:=(AA (AL 1 (AC 0 Cm (A2 (A0 0) A6)))
    (AA (Az (AR (GG false (A0 1)))
      LW
      Aj)
    (AT (A0 1))))
noncomputable def DH:List D->Hd->Option (D × Hd):=mkF 1 2 Gf
noncomputable abbrev CF:Stmt:=top 18
theorem sc_bound_of:FnScope ["works","wishes","some","begins","end"] ["works","wishes","some"] (A8 CF):=⟨rfl,rfl,rfl,by decide +kernel,rfl,by decide +kernel,by decide +kernel⟩
@[reducible] noncomputable def IY:MS:=(AA (AL 3 (AC 0 G4 (A2 (A0 0) (A2 (A0 1) A6))))
    (AA (AL 4 (mOp B2 (CP Lc (BK 1 [3] (BD (A0 2)) (AF 0) C6 (mOp gIx (A0 1) (A0 0)))) (AC 0 Bc (A2 (A0 0) (A2 (A0 2) A6)))))
    (AT (CP Lc (BK 1 [0,4] (BD (AC 0 CN (A2 (mCB (f1 true CL) (A2 (A0 0) A6)) (A2 (A0 1) (A2 (A0 2) A6))))) (AF 0) C6 (AC 0 F_cost_at (A2 (mOp gIx (mOp gIx (A0 1) (A0 0)) (mC (.int 2))) (A2 (A0 2) A6))))))))
noncomputable def Cg:List D->Hd->Option (D × Hd):=mkF 3 5 IY
noncomputable abbrev Ao:Stmt:=top 20
theorem Hf:FnScope ["works","wishes","some","end"] ["works","wishes","some","end"] (A8 Ao):=⟨rfl,rfl,rfl,by decide +kernel,rfl,by decide +kernel,by decide +kernel⟩
@[reducible] noncomputable def FL:MS:=(AT (Fj (λ n m=>decide (n < m)) (AC 0 CN (A2 (mCB (f1 true CL) (A2 (A0 0) A6)) (A2 (A0 1) (A2 (A0 2) A6)))) [3,0] (AC 0 F_cost_at (A2 (mOp gIx (mOp gIx (A0 2) (A0 0)) (mC (.int 2))) (A2 (A0 1) A6)))))
noncomputable def CK:List D->Hd->Option (D × Hd):=mkF 4 4 FL
noncomputable abbrev CU:Stmt:=top 21
theorem NK:FnScope ["some","u"] ["some","u"] (A8 CU):=⟨rfl,rfl,rfl,by decide +kernel,rfl,by decide +kernel,by decide +kernel⟩
@[reducible] noncomputable def Jk:MS:=(AT (CP BC (BK 1 [1] (BD (A0 0)) (AF 0) (AR (mOp gNe (A0 0) (A0 1))) (A0 0))))
noncomputable def EZ:List D->Hd->Option (D × Hd):=mkF 2 2 Jk
noncomputable abbrev Ai:Stmt:=top 22
theorem HY:FnScope ["works","wishes","sets"] ["works","wishes","sets"] (A8 Ai):=⟨rfl,rfl,rfl,by decide +kernel,rfl,by decide +kernel,by decide +kernel⟩
@[reducible] noncomputable def FB:MS:=(AT (Gh (λ n m=>decide (n > m)) (A0 2) [0,1] (AC 0 Cg (A2 (A0 1) (A2 (A0 2) (A2 (A0 0) A6))))))
noncomputable def C4:List D->Hd->Option (D × Hd):=mkF 3 3 FB
noncomputable abbrev B6:Stmt:=top 24
theorem sc_greatest_order:FnScope ["works","wishes","coming","order","sets","left","u"] ["works","wishes"] (A8 B6):=⟨rfl,rfl,rfl,by decide +kernel,rfl,by decide +kernel,by decide +kernel⟩
@[reducible] noncomputable def FA:MS:=(AA (AL 2 (AC 0 DH (A2 (A0 0) A6)))
    (AA (AL 3 (B3 (BM A6)))
    (AA (AL 4 (B3 (BM A6)))
    (AA (AL 5 (IZ (A2 (mCB (f1 true CL) (A2 (A0 0) A6)) A6)))
    (AA (DE (FC (A0 5))
      (AA (AL 6 (AC 0 CK (A2 (A0 0) (A2 (A0 1) (A2 (A0 5) (A2 (mOp B2 (A0 2) (AC 0 Bc (A2 (A0 0) (A2 (A0 5) A6)))) A6))))))
    (AA (Br (mMt Fu (A0 3) (A2 (mC (.int 0)) (A2 (A0 6) A6))))
    (AA (Br (mMt BA (A0 4) (A2 (A0 5) A6)))
    (AL 5 (AC 0 EZ (A2 (A0 5) (A2 (A0 6) A6))))))))
    (AT (DS (A2 (mCB (f1 true BC) (A2 (A0 3) A6)) (A2 (ET C4 (A2 (A0 0) (A2 (A0 1) (A2 (A0 4) A6)))) A6)))))))))
noncomputable def C3:List D->Hd->Option (D × Hd):=mkF 2 7 FA
noncomputable abbrev FJ:Stmt:=top 26
theorem sc_run:FnScope ["works","order","pieces","end","work","length","coming","cost","begin"] ["works","order"] (A8 FJ):=⟨rfl,rfl,rfl,by decide +kernel,rfl,by decide +kernel,by decide +kernel⟩
@[reducible] noncomputable def m_run:MS:=(AA (AL 2 (B3 (BM A6)))
    (AA (AL 3 (mC (.int 0)))
    (AA (CQ (BD (A0 1)) (AF 4)
      (AA (Hq (mOp gIx (A0 0) (A0 4)) (C0 3 (Aa (AF 5) (Aa (AF 6) (Aa (AF 7) C1)))))
    (AA (AL 8 (mCB Dd (A2 (A0 6) (A2 (A0 3) A6))))
    (AA (AL 3 (mOp B2 (A0 8) (A0 5)))
    (Br (mMt BA (A0 2) (A2 (DS (A2 (A0 4) (A2 (A0 8) (A2 (A0 3) A6)))) A6)))))))
    (AT (mCB (f1 true BC) (A2 (A0 2) A6))))))
noncomputable def F_run:List D->Hd->Option (D × Hd):=mkF 2 9 m_run
noncomputable abbrev CW:Stmt:=top 28
theorem sc_ends_of:FnScope ["works","plan","ends","work","begin","end"] ["works","plan"] (A8 CW):=⟨rfl,rfl,rfl,by decide +kernel,rfl,by decide +kernel,by decide +kernel⟩
@[reducible] noncomputable def m_ends_of:MS:=(AA (AL 2 (B3 (BK 1 [] (BD (A0 0)) (AF 0) C6 (mC (.int 0)))))
    (AA (CQ (BD (A0 1)) (C0 3 (Aa (AF 3) (Aa (AF 4) (Aa (AF 5) C1))))
      (E4 (A0 2) (A0 3) (A0 5)))
    (AT (mCB (f1 true BC) (A2 (A0 2) A6)))))
noncomputable def F_ends_of:List D->Hd->Option (D × Hd):=mkF 2 6 m_ends_of
noncomputable abbrev CD:Stmt:=top 30
theorem MB:FnScope ["works","ends"] ["works","ends"] (A8 CD):=⟨rfl,rfl,rfl,by decide +kernel,rfl,by decide +kernel,by decide +kernel⟩
@[reducible] noncomputable def m_costs_of:MS:=(AT (CP BC (BK 2 [] (LS (BD (A0 0)) (BD (A0 1))) (C0 2 (Aa (AF 0) (Aa (AF 1) C1))) C6 (AC 0 F_cost_at (A2 (mOp gIx (A0 0) (mC (.int 2))) (A2 (A0 1) A6))))))
noncomputable def F_costs_of:List D->Hd->Option (D × Hd):=mkF 2 2 m_costs_of
noncomputable abbrev Do:Stmt:=top 31
theorem sc_worth:FnScope ["works","ends","question","costs"] ["works","ends","question"] (A8 Do):=⟨rfl,rfl,rfl,by decide +kernel,rfl,by decide +kernel,by decide +kernel⟩
@[reducible] noncomputable def m_worth:MS:=(AA (AL 3 (AC 0 F_costs_of (A2 (A0 0) (A2 (A0 1) A6))))
    (AA (Az (AR (mOp gEq (A0 2) (mC (.str "greatest"))))
      (AT (mCB (f1 true FW) (A2 (A0 3) A6)))
      Aj)
    (AT (mCB (f1 true Hr) (A2 (A0 3) A6)))))
noncomputable def F_worth:List D->Hd->Option (D × Hd):=mkF 3 4 m_worth
noncomputable abbrev EM:Stmt:=top 33
theorem Sd:FnScope ["_law_script"] ["_law_script"] (A8 EM):=⟨rfl,rfl,rfl,by decide +kernel,rfl,by decide +kernel,by decide +kernel⟩
@[reducible] noncomputable def Oq:MS:=(AT (B3 (BM (A2 (B3 (Ie (JS (A0 0) HK (GF (mC (.int 63)))))) (A2 (mC (.int 0)) (A2 (mC (.int 0)) A6))))))
noncomputable def Gy:List D->Hd->Option (D × Hd):=mkF 1 1 Oq
noncomputable abbrev DV:Stmt:=top 34
theorem sc_next:FnScope ["_law_feed_here","_law_many","_law_digit","_law_at","_law_cell","_law_first"] ["_law_feed_here","_law_many"] (A8 DV):=⟨rfl,rfl,rfl,by decide +kernel,rfl,by decide +kernel,by decide +kernel⟩
@[reducible] noncomputable def Op:MS:=(AA (Az (AR (mOp gGt (mOp gIx (A0 0) (mC (.int 2))) (mC (.int 0))))
      (AA (AL 2 (mOp Dl (mOp gIx (A0 0) (mC (.int 2))) (A0 1)))
    (AA (E4 (A0 0) (mC (.int 2)) (mOp HN (mOp gIx (A0 0) (mC (.int 2))) (A0 1)))
    (AT (A0 2))))
      Aj)
    (AA (AL 3 (mOp gIx (A0 0) (mC (.int 1))))
    (AA (E4 (A0 0) (mC (.int 1)) (mOp B2 (A0 3) (mC (.int 1))))
    (AA (AL 4 (mIf (AR (E5 true (mOp gIx (A0 0) (mC (.int 0))) (BM A6))) (mOp gIx (mOp gIx (A0 0) (mC (.int 0))) (mOp Dl (A0 3) (mCB (f1 true CL) (A2 (mOp gIx (A0 0) (mC (.int 0))) A6)))) (mC (.int 0))))
    (AA (Az (GH (AR (mOp gGe (A0 4) (mOp Rb (mC (.int 10)) (mC (.int 18))))) (AR (mOp gLt (A0 3) (mCB (f1 true CL) (A2 (mOp gIx (A0 0) (mC (.int 0))) A6)))))
      (AA (E4 (A0 0) (mC (.int 2)) (mOp HN (A0 4) (A0 1)))
    (AT (mOp Dl (A0 4) (A0 1))))
      Aj)
    (AA (AL 5 (mOp Dl (mOp C2 (mOp B2 (mOp B2 (mOp B2 (mOp Dl (A0 4) (mC (.int 1000003))) (mOp C2 (mOp C2 (mC (.int 37)) (A0 3)) (A0 3))) (mOp C2 (mC (.int 13)) (A0 3))) (mC (.int 5))) (mC (.int 48271))) (mC (.int 999983))))
    (AT (mOp Dl (mOp HN (mOp Dl (mOp C2 (mOp Dl (mOp B2 (mOp B2 (mOp C2 (A0 5) (A0 5)) (mOp C2 (mC (.int 7919)) (A0 3))) (mC (.int 11))) (mC (.int 2097143))) (mC (.int 69621))) (mC (.int 2147483629))) (mC (.int 7))) (A0 1)))))))))
noncomputable def Au:List D->Hd->Option (D × Hd):=mkF 2 6 Op
noncomputable abbrev EN:Stmt:=top 35
theorem sc_cost:FnScope ["_law_feed_here","_law_words","_law_word","_law_dues","_law_due","_law_weight","_law_rows","_law_start","_law_height","_law_k"] ["_law_feed_here","_law_words"] (A8 EN):=⟨rfl,rfl,rfl,by decide +kernel,rfl,by decide +kernel,by decide +kernel⟩
@[reducible] noncomputable def Os:MS:=(AA (AL 2 (mOp gIx (A0 1) (AC 2 Au (A2 (A0 0) (A2 (mCB (f1 true CL) (A2 (A0 1) A6)) A6)))))
    (AA (AL 3 (B3 (BM (A2 (AC 2 Au (A2 (A0 0) (A2 (mC (.int 40)) A6))) (A2 (AC 2 Au (A2 (A0 0) (A2 (mC (.int 160)) A6))) (A2 (mOp EG (AC 2 Au (A2 (A0 0) (A2 (mC (.int 500)) A6))) (mC (.int 99))) A6))))))
    (AA (AL 4 (mOp gIx (A0 3) (AC 2 Au (A2 (A0 0) (A2 (mC (.int 3)) A6)))))
    (AA (AL 5 (AC 2 Au (A2 (A0 0) (A2 (mC (.int 10)) A6))))
    (AA (Az (AR (mOp gEq (A0 2) (mC (.str "late"))))
      (AT (DS (A2 (A0 2) (A2 (A0 4) A6))))
      Aj)
    (AA (Az (AR (mOp gEq (A0 2) (mC (.str "ends"))))
      (AT (DS (A2 (A0 2) (A2 (A0 5) A6))))
      Aj)
    (AA (Az (AR (mOp gNe (A0 2) (mC (.str "steps"))))
      (AT (DS (A2 (A0 2) (A2 (A0 4) (A2 (A0 5) A6)))))
      Aj)
    (AA (AL 6 (B3 (BM A6)))
    (AA (AL 7 (mOp EG (AC 2 Au (A2 (A0 0) (A2 (mC (.int 140)) A6))) (mC (.int 100))))
    (AA (AL 8 (mC (.int 0)))
    (AA (CQ (FT (A2 (mOp B2 (mC (.int 1)) (AC 2 Au (A2 (A0 0) (A2 (mC (.int 5)) A6)))) A6)) (AF 9)
      (AA (AL 7 (mOp B2 (mOp B2 (A0 7) (mC (.int 1))) (AC 2 Au (A2 (A0 0) (A2 (mC (.int 60)) A6)))))
    (AA (AL 8 (mCB Ir (A2 (mC (.int 99)) (A2 (mOp B2 (A0 8) (AC 2 Au (A2 (A0 0) (A2 (mC (.int 30)) A6)))) A6))))
    (Br (mMt BA (A0 6) (A2 (DS (A2 (A0 7) (A2 (A0 8) A6))) A6))))))
    (AT (DS (A2 (A0 2) (A2 (mCB (f1 true BC) (A2 (A0 6) A6)) A6)))))))))))))))
noncomputable def Gz:List D->Hd->Option (D × Hd):=mkF 2 10 Os
noncomputable abbrev Dp:Stmt:=top 36
theorem sc_works:FnScope ["_law_feed_here","_law_most","_law_words","_law_ways","_law_many","_law_longest","_law_way","_law_first","_law_works_here","_law_k","_law_comings"] ["_law_feed_here","_law_most","_law_words","_law_ways"] (A8 Dp):=⟨rfl,rfl,rfl,by decide +kernel,rfl,by decide +kernel,by decide +kernel⟩
@[reducible] noncomputable def Mm:MS:=(AA (AL 4 (mOp B2 (mC (.int 1)) (AC 2 Au (A2 (A0 0) (A2 (A0 1) A6)))))
    (AA (AL 5 (LY (BM (A2 (mC (.int 3)) (A2 (mC (.int 20)) A6))) (AC 2 Au (A2 (A0 0) (A2 (mC (.int 2)) A6)))))
    (AA (AL 6 (mOp gIx (A0 3) (AC 2 Au (A2 (A0 0) (A2 (mCB (f1 true CL) (A2 (A0 3) A6)) A6)))))
    (AA (AL 7 (AC 2 Au (A2 (A0 0) (A2 (mC (.int 61)) A6))))
    (AA (AL 8 (B3 (BM A6)))
    (AA (CQ (FT (A2 (A0 4) A6)) (AF 9)
      (Gg (AA (AL 10 (B3 (BM (A2 (A0 7) (A2 (AC 2 Au (A2 (A0 0) (A2 (mC (.int 8)) A6))) (A2 (AC 2 Au (A2 (A0 0) (A2 (mC (.int 25)) A6))) (A2 (AC 2 Au (A2 (A0 0) (A2 (mC (.int 61)) A6))) A6)))))))
    (Br (mMt BA (A0 8) (A2 (DS (A2 (mOp B2 (mC (.int 1)) (AC 2 Au (A2 (A0 0) (A2 (A0 5) A6)))) (A2 (mOp gIx (A0 10) (A0 6)) (A2 (AC 3 Gz (A2 (A0 0) (A2 (A0 2) A6))) A6)))) A6))))))
    (AT (mCB (f1 true BC) (A2 (A0 8) A6)))))))))
noncomputable def G0:List D->Hd->Option (D × Hd):=mkF 4 11 Mm
noncomputable abbrev Dr:Stmt:=top 37
theorem QB:FnScope ["_law_cost_here","_law_t"] ["_law_cost_here","_law_t"] (A8 Dr):=⟨rfl,rfl,rfl,by decide +kernel,rfl,by decide +kernel,by decide +kernel⟩
@[reducible] noncomputable def Mo:MS:=(AA (Az (AR (mOp gEq (mOp gIx (A0 0) (mC (.int 0))) (mC (.str "late"))))
      (AT (mOp EG (A0 1) (mOp gIx (A0 0) (mC (.int 1)))))
      Aj)
    (AA (Az (AR (mOp gEq (mOp gIx (A0 0) (mC (.int 0))) (mC (.str "tardy"))))
      (AT (mOp C2 (mOp gIx (A0 0) (mC (.int 2))) (mCB Dd (A2 (mC (.int 0)) (A2 (mOp EG (A0 1) (mOp gIx (A0 0) (mC (.int 1)))) A6)))))
      Aj)
    (AA (Az (AR (mOp gEq (mOp gIx (A0 0) (mC (.int 0))) (mC (.str "miss"))))
      (AT (mOp C2 (mOp gIx (A0 0) (mC (.int 2))) (mCB Nm (A2 (mOp gGt (A0 1) (mOp gIx (A0 0) (mC (.int 1)))) A6))))
      Aj)
    (AA (Az (AR (mOp gEq (mOp gIx (A0 0) (mC (.int 0))) (mC (.str "ends"))))
      (AT (mOp C2 (mOp gIx (A0 0) (mC (.int 1))) (A0 1)))
      Aj)
    (AT (CP FW (LZ (B3 (BM (A2 (mC (.int 0)) A6))) (B3 (BK 2 [1] (BD (mOp gIx (A0 0) (mC (.int 1)))) (C0 2 (Aa (AF 0) (Aa (AF 1) C1))) (AR (mOp gLe (A0 0) (A0 2))) (A0 1))))))))))
noncomputable def DR:List D->Hd->Option (D × Hd):=mkF 2 2 Mo
noncomputable abbrev CC:Stmt:=top 38
theorem M9:FnScope ["_law_works_here","_law_ends"] ["_law_works_here","_law_ends"] (A8 CC):=⟨rfl,rfl,rfl,by decide +kernel,rfl,by decide +kernel,by decide +kernel⟩
@[reducible] noncomputable def IX:MS:=(AT (CP FW (BK 1 [0,1] (FT (A2 (mCB (f1 true CL) (A2 (A0 0) A6)) A6)) (AF 0) C6 (AC 0 DR (A2 (mOp gIx (mOp gIx (A0 1) (A0 0)) (mC (.int 2))) (A2 (mOp gIx (A0 2) (A0 0)) A6))))))
noncomputable def DQ:List D->Hd->Option (D × Hd):=mkF 2 2 IX
noncomputable abbrev CB:Stmt:=top 39
theorem sc_run_ends:FnScope ["_law_works_here","_law_order","_law_ends","_law_t","_law_k"] ["_law_works_here","_law_order"] (A8 CB):=⟨rfl,rfl,rfl,by decide +kernel,rfl,by decide +kernel,by decide +kernel⟩
@[reducible] noncomputable def IW:MS:=(AA (AL 2 (B3 (LU (BM (A2 (mC (.int 0)) A6)) (mCB (f1 true CL) (A2 (A0 0) A6)))))
    (AA (AL 3 (mC (.int 0)))
    (AA (CQ (BD (A0 1)) (AF 4)
      (AA (AL 3 (mOp B2 (mCB Dd (A2 (A0 3) (A2 (mOp gIx (mOp gIx (A0 0) (A0 4)) (mC (.int 1))) A6))) (mOp gIx (mOp gIx (A0 0) (A0 4)) (mC (.int 0)))))
    (E4 (A0 2) (A0 4) (A0 3))))
    (AT (A0 2)))))
noncomputable def DP:List D->Hd->Option (D × Hd):=mkF 2 5 IW
noncomputable abbrev CY:Stmt:=top 40
theorem sc_cost_of:FnScope ["_law_works_here","_law_order","_law_told","_law_mine"] ["_law_works_here","_law_order"] (A8 CY):=⟨rfl,rfl,rfl,by decide +kernel,rfl,by decide +kernel,by decide +kernel⟩
@[reducible] noncomputable def Jl:MS:=(AA (AL 2 (AC 0 F_worth (A2 (A0 0) (A2 (AC 0 F_ends_of (A2 (A0 0) (A2 (AC 0 F_run (A2 (A0 0) (A2 (A0 1) A6))) A6))) (A2 (mC (.str "greatest")) A6)))))
    (AA (AL 3 (ET DQ (A2 (A0 0) (A2 (AC 0 DP (A2 (A0 0) (A2 (A0 1) A6))) A6))))
    (AT (mIf (AR (mOp gEq (mCB Ft (A2 (A0 2) A6)) (mCB Ft (A2 (A0 3) A6)))) (A0 2) (mC .non)))))
noncomputable def DI:List D->Hd->Option (D × Hd):=mkF 2 4 Jl
noncomputable abbrev ED:Stmt:=top 41
theorem sc_law:FnScope ["_law_script","_law_feed_here","_law_works_here","_law_left","_law_order","_law_cost_here","_law_turn","_law_dues","_law_some","_law_at","_law_newer"] ["_law_script"] (A8 ED):=⟨rfl,rfl,rfl,by decide +kernel,rfl,by decide +kernel,by decide +kernel⟩
@[reducible] noncomputable def SD:MS:=(AA (AL 1 (ET Gy (A2 (A0 0) A6)))
    (AA (AL 2 (AC 4 G0 (A2 (A0 1) (A2 (mC (.int 8)) (A2 (B3 (BM (A2 (mC (.str "late")) A6))) (A2 (B3 (BM (A2 (mC (.int 0)) A6))) A6))))))
    (AA (AL 3 (B3 (Ho (A2 (mCB (f1 true CL) (A2 (A0 2) A6)) A6))))
    (AA (AL 4 (B3 (BM A6)))
    (AA (DE (AR (E5 true (A0 3) (BM A6)))
      (Br (mMt BA (A0 4) (A2 (mMt Gk (A0 3) (A2 (AC 2 Au (A2 (A0 1) (A2 (mCB (f1 true CL) (A2 (A0 3) A6)) A6))) A6)) A6))))
    (AA (AL 5 (AC 0 DI (A2 (A0 2) (A2 (mCB (f1 true BC) (A2 (A0 4) A6)) A6))))
    (AA (Az (AR (GG false (A0 5)))
      (AT (mC (.bl false)))
      Aj)
    (AA (CQ (FT (A2 (mC (.int 28)) A6)) (AF 6)
      (Gg (AA (AL 7 (B3 (BK 1 [2] (Dk (A0 4)) (AF 0) C6 (mOp gIx (mOp gIx (mOp gIx (A0 1) (A0 0)) (mC (.int 2))) (mC (.int 1))))))
    (AA (AL 8 (B3 (BK 1 [7] (FT (A2 (mOp EG (mCB (f1 true CL) (A2 (A0 4) A6)) (mC (.int 1))) A6)) (AF 0) (AR (mOp gLt (mOp gIx (A0 1) (mOp B2 (A0 0) (mC (.int 1)))) (mOp gIx (A0 1) (A0 0)))) (A0 0))))
    (Az (AR (E5 true (A0 8) (BM A6)))
      (AA (AL 9 (mOp gIx (A0 8) (AC 2 Au (A2 (A0 1) (A2 (mCB (f1 true CL) (A2 (A0 8) A6)) A6)))))
    (AA (Fh (A0 4) (A0 9) (mOp B2 (A0 9) (mC (.int 2))) (B3 (Ib (JS (A0 4) (GF (A0 9)) (GF (mOp B2 (A0 9) (mC (.int 2))))) (LX (mC (.int 1))))))
    (AA (AL 10 (AC 0 DI (A2 (A0 2) (A2 (mCB (f1 true BC) (A2 (A0 4) A6)) A6))))
    (AA (Az (mOr (AR (GG false (A0 10))) (AR (mOp gGt (A0 10) (A0 5))))
      (AT (mC (.bl false)))
      Aj)
    (AL 5 (A0 10))))))
      Aj)))))
    (AA (AL 7 (B3 (BK 1 [2] (Dk (A0 4)) (AF 0) C6 (mOp gIx (mOp gIx (mOp gIx (A0 1) (A0 0)) (mC (.int 2))) (mC (.int 1))))))
    (AT (Ii (E5 false (A0 7) (DL (Dk (A0 7)))) (mOp gEq (A0 5) (AC 0 DI (A2 (A0 2) (A2 (mOp gIx (AC 0 C3 (A2 (A0 2) (A2 (DS A6) A6))) (mC (.int 0))) A6)))))))))))))))
noncomputable def F_law:List D->Hd->Option (D × Hd):=mkF 1 11 SD
section
variable{P:Program}{w:World}{K:PySem.W.Frag}{mg:Str->Option Value}{base:Heap}
theorem ok_raised{f_raised:Addr}{d_raised:FuncData}(DA:DefAt K mg "raised" Cv f_raised d_raised ["works","wishes","some","t"]) (B:BltA mg):FnOk P w K mg base CX0 1 f_raised d_raised ["works","wishes","some","t"] (spF K 4 FH):=by
  refine Ak (N:=["works","wishes","some","t","told","within","turn","a","b"]) (m:=LR) DA sc_raised λ cdv A outer s H E hr=>?_
  exact⟨_,(A4 K (AG K (i:=4) sc_raised.nd rfl (by first|exact Or.inl rfl|exact Or.inr rfl) (Ql K (loc:=["work"]) (fr:=["works","t"]) (ix:=[0,3]) rfl ⟨rfl,by decide +kernel,rfl,rfl,rfl,by decide +kernel⟩ (BP K (qv K 2)) (λ _ _ _=>(AO K (i:=0) (show(["work","works","t"]:List Str).Nodup from by decide +kernel) rfl (by first|exact Or.inl rfl|exact Or.inr rfl))) (λ _ _ _=>(By K)) (λ _ _ _=>(qv K 0)) (λ _ _ _=>(BJ K (EX rfl) FZ B.max L2.bt_max (A1 K (AJ K (AJ K (qv K 1) (qv K 0)) (A7 K)) (A1 K (qv K 2) (A3 K)))))))
    (A4 K (by first|exact Fb K (i:=5) (loc:=["a","b"]) (fr:=["told"]) (ix:=[4]) sc_raised.nd rfl rfl rfl ⟨rfl,by decide +kernel,rfl,rfl,rfl,by decide +kernel⟩ (BP K (qv K 1)) (λ _ _ _=>(Dz K (n:=2) rfl (At K (AO K (i:=0) (show(["a","b","told"]:List Str).Nodup from by decide +kernel) rfl (by first|exact Or.inl rfl|exact Or.inr rfl)) (At K (AO K (i:=1) (show(["a","b","told"]:List Str).Nodup from by decide +kernel) rfl (by first|exact Or.inl rfl|exact Or.inr rfl)) (DK K))))) (λ _ _ _=>(Fe K (QW.toT (IP K (IQ K (FM hr) (qv K 0) (qv K 2)) (HI K (IQ K (FM hr) (qv K 1) (qv K 2))))))) (λ _ _ _=>(DB K (A1 K (qv K 0) (A1 K (qv K 1) (A3 K)))))|exact AG K (i:=5) sc_raised.nd rfl (by first|exact Or.inl rfl|exact Or.inr rfl) (Ay K (BY K (loc:=["a","b"]) (fr:=["told"]) (ix:=[4]) rfl ⟨rfl,by decide +kernel,rfl,rfl,rfl,by decide +kernel⟩ (BP K (qv K 1)) (λ _ _ _=>(Dz K (n:=2) rfl (At K (AO K (i:=0) (show(["a","b","told"]:List Str).Nodup from by decide +kernel) rfl (by first|exact Or.inl rfl|exact Or.inr rfl)) (At K (AO K (i:=1) (show(["a","b","told"]:List Str).Nodup from by decide +kernel) rfl (by first|exact Or.inl rfl|exact Or.inr rfl)) (DK K))))) (λ _ _ _=>(Fe K (QW.toT (IP K (IQ K (FM hr) (qv K 0) (qv K 2)) (HI K (IQ K (FM hr) (qv K 1) (qv K 2))))))) (λ _ _ _=>(DB K (A1 K (qv K 0) (A1 K (qv K 1) (A3 K))))))))
    (A4 K (Cz K rfl (BP K (qv K 2)) (AO K (i:=6) sc_raised.nd rfl (by first|exact Or.inl rfl|exact Or.inr rfl))
      (AB K (Cz K rfl (Fd K (qv K 5)) (Dz K (n:=2) rfl (At K (AO K (i:=7) sc_raised.nd rfl (by first|exact Or.inl rfl|exact Or.inr rfl)) (At K (AO K (i:=8) sc_raised.nd rfl (by first|exact Or.inl rfl|exact Or.inr rfl)) (DK K))))
      (AB K (T0 K (FM hr) (qv K 4) (qv K 8) (BJ K (EX rfl) FZ B.max L2.bt_max (A1 K (JL K (FM hr) (qv K 4) (qv K 8)) (A1 K (AW K ((BI).or (Aq K)) (AU BH B0) (JL K (FM hr) (qv K 4) (qv K 7)) (AJ K (AJ K (qv K 0) (qv K 7)) (A7 K))) (A3 K)))))))))
    (AB K (AS K (KJ K (B9 K) Bm B.tuple L2.bt_tuple (BY K (loc:=["work"]) (fr:=["told"]) (ix:=[4]) rfl ⟨rfl,by decide +kernel,rfl,rfl,rfl,by decide +kernel⟩ (BP K (qv K 2)) (λ _ _ _=>(AO K (i:=0) (show(["work","told"]:List Str).Nodup from by decide +kernel) rfl (by first|exact Or.inl rfl|exact Or.inr rfl))) (λ _ _ _=>(By K)) (λ _ _ _=>(JL K (FM hr) (qv K 1) (qv K 0))))))))))⟩
theorem ok_heads{f_heads f_raised:Addr}{d_heads d_raised:FuncData}(DA:DefAt K mg "heads" Dq f_heads d_heads ["works","wishes"])(D_raised:DefAt K mg "raised" Cv f_raised d_raised ["works","wishes","some","t"])(G_raised:FnOk P w K mg base CX0 1 f_raised d_raised ["works","wishes","some","t"] (spF K 4 FH))(B:BltA mg):FnOk P w K mg base CX0 2 f_heads d_heads ["works","wishes"] (spF K 2 G4):=by
  refine Ak (N:=["works","wishes"]) (m:=Mn) DA Q9 λ cdv A outer s H E hr=>?_
  exact⟨_,(AB K (AS K (AD K 0 G_raised hr D_raised (A1 K (qv K 0) (A1 K (qv K 1) (A1 K (Mh K B.tuple B.range (A1 K (BJ K (B8 K) (Bn Bv) B.len L2.bt_len (A1 K (qv K 0) (A3 K))) (A3 K))) (A1 K (A7 K) (A3 K))))) AH)))⟩
theorem ok_steps_at{f_steps_at:Addr}{d_steps_at:FuncData}(DA:DefAt K mg "steps_at" CA f_steps_at d_steps_at ["rows","t"]) (B:BltA mg):FnOk P w K mg base CX0 1 f_steps_at d_steps_at ["rows","t"] (spF K 2 F_steps_at):=by
  refine Ak (N:=["rows","t","told","begin","amount"]) (m:=m_steps_at) DA sc_steps_at λ cdv A outer s H E hr=>?_
  exact⟨_,(A4 K (AG K (i:=2) sc_steps_at.nd rfl (by first|exact Or.inl rfl|exact Or.inr rfl) (A7 K))
    (A4 K (Cz K rfl (BP K (qv K 0)) (Dz K (n:=2) rfl (At K (AO K (i:=3) sc_steps_at.nd rfl (by first|exact Or.inl rfl|exact Or.inr rfl)) (At K (AO K (i:=4) sc_steps_at.nd rfl (by first|exact Or.inl rfl|exact Or.inr rfl)) (DK K))))
      (A4 K (BO K (Ax K KK KH (qv K 3) (qv K 1))
      (AB K (AS K (qv K 2)))
      (As K))
    (AB K (AG K (i:=2) sc_steps_at.nd rfl (by first|exact Or.inl rfl|exact Or.inr rfl) (qv K 4)))))
    (AB K (AS K (qv K 2)))))⟩
theorem ok_cost_at{BE f_steps_at:Addr}{d_cost_at d_steps_at:FuncData}(DA:DefAt K mg "cost_at" Bt BE d_cost_at ["cost","t"])(D_steps_at:DefAt K mg "steps_at" CA f_steps_at d_steps_at ["rows","t"])(G_steps_at:FnOk P w K mg base CX0 1 f_steps_at d_steps_at ["rows","t"] (spF K 2 F_steps_at))(B:BltA mg):FnOk P w K mg base CX0 2 BE d_cost_at ["cost","t"] (spF K 2 F_cost_at):=by
  refine Ak (N:=["cost","t","word","above"]) (m:=m_cost_at) DA sc_cost_at λ cdv A outer s H E hr=>?_
  exact⟨_,(A4 K (AG K (i:=2) sc_cost_at.nd rfl (by first|exact Or.inl rfl|exact Or.inr rfl) (AJ K (qv K 0) (A7 K)))
    (A4 K (BO K (Ax K ((Cc).or (BT K hr.units)) (AU Bw Bx) (qv K 2) (CG K))
      (AB K (AS K (AD K 0 G_steps_at hr D_steps_at (A1 K (AJ K (qv K 0) (A7 K)) (A1 K (qv K 1) (A3 K))) AH)))
      (As K))
    (A4 K (BO K (Ax K ((Cc).or (BT K hr.units)) (AU Bw Bx) (qv K 2) (CG K))
      (AB K (AS K (AW K Ck Cj (AJ K (qv K 0) (A7 K)) (qv K 1))))
      (As K))
    (A4 K (AG K (i:=3) sc_cost_at.nd rfl (by first|exact Or.inl rfl|exact Or.inr rfl) (AW K Ey Ew (qv K 1) (AJ K (qv K 0) (A7 K))))
    (A4 K (BO K (Ax K ((Cc).or (BT K hr.units)) (AU Bw Bx) (qv K 2) (CG K))
      (AB K (AS K (qv K 3)))
      (As K))
    (A4 K (BO K (Ax K SB Ry (qv K 3) (A7 K))
      (AB K (AS K (A7 K)))
      (As K))
    (A4 K (BO K (Ax K ((Cc).or (BT K hr.units)) (AU Bw Bx) (qv K 2) (CG K))
      (AB K (AS K (AW K Ck Cj (AJ K (qv K 0) (A7 K)) (qv K 3))))
      (As K))
    (AB K (AS K (AJ K (qv K 0) (A7 K)))))))))))⟩
theorem ok_reached{DG:Addr}{d_reached:FuncData}(DA:DefAt K mg "reached" CV DG d_reached ["pairs","a"]) (B:BltA mg):FnOk P w K mg base CX0 1 DG d_reached ["pairs","a"] (spF K 2 F_reached):=by
  refine Ak (N:=["pairs","a","found","fresh","at","one","other"]) (m:=m_reached) DA sc_reached λ cdv A outer s H E hr=>?_
  exact⟨_,(A4 K (AG K (i:=2) sc_reached.nd rfl (by first|exact Or.inl rfl|exact Or.inr rfl) (Ay K (BL K (A3 K))))
    (A4 K (AG K (i:=3) sc_reached.nd rfl (by first|exact Or.inl rfl|exact Or.inr rfl) (Ay K (BL K (A1 K (qv K 1) (A3 K)))))
    (A4 K (Hj K (GB K (qv K 3))
      (A4 K (AG K (i:=4) sc_reached.nd rfl (by first|exact Or.inl rfl|exact Or.inr rfl) (V6 K PySem.F.slot_list_pop PySem.F.type_list_pop Vl Ua (qv K 3)))
    (AB K (Cz K rfl (V2 K (qv K 0)) (Dz K (n:=2) rfl (At K (AO K (i:=5) sc_reached.nd rfl (by first|exact Or.inl rfl|exact Or.inr rfl)) (At K (AO K (i:=6) sc_reached.nd rfl (by first|exact Or.inl rfl|exact Or.inr rfl)) (DK K))))
      (AB K (BO K (QW.toT (IP K (Ax K ((Cc).or (BT K hr.units)) (AU Bw Bx) (qv K 5) (qv K 4)) (HI K (Ax K (Oi K) Rz (qv K 6) (qv K 2)))))
      (A4 K (DJ K (EE K PySem.F.slot_list_append PySem.F.type_list_append CH CZ (qv K 2) (A1 K (qv K 6) (A3 K))))
    (AB K (DJ K (EE K PySem.F.slot_list_append PySem.F.type_list_append CH CZ (qv K 3) (A1 K (qv K 6) (A3 K))))))
      (As K)))))))
    (AB K (AS K (KJ K (B9 K) Bm B.tuple L2.bt_tuple (IR K B.sorted (Mg K (qv K 2)))))))))⟩
theorem ok_behind{Dm DG:Addr}{d_behind d_reached:FuncData}(DA:DefAt K mg "behind" Cw Dm d_behind ["many","wishes","a"])(D_reached:DefAt K mg "reached" CV DG d_reached ["pairs","a"])(G_reached:FnOk P w K mg base CX0 1 DG d_reached ["pairs","a"] (spF K 2 F_reached))(B:BltA mg):FnOk P w K mg base CX0 2 Dm d_behind ["many","wishes","a"] (spF K 3 F_behind):=by
  refine Ak (N:=["many","wishes","a"]) (m:=m_behind) DA ON λ cdv A outer s H E hr=>?_
  exact⟨_,(AB K (AS K (AD K 0 G_reached hr D_reached (A1 K (qv K 1) (A1 K (qv K 2) (A3 K))) AH)))⟩
theorem ok_last_ones{f_last_ones Dm:Addr}{d_last_ones d_behind:FuncData}(DA:DefAt K mg "last_ones" Ba f_last_ones d_last_ones ["many","wishes","some"])(D_behind:DefAt K mg "behind" Cw Dm d_behind ["many","wishes","a"])(G_behind:FnOk P w K mg base CX0 2 Dm d_behind ["many","wishes","a"] (spF K 3 F_behind))(B:BltA mg):FnOk P w K mg base CX0 3 f_last_ones d_last_ones ["many","wishes","some"] (spF K 3 CN):=by
  refine Ak (N:=["many","wishes","some","told","u","later"]) (m:=Ha) DA sc_last_ones λ cdv A outer s H E hr=>?_
  exact⟨_,(A4 K (AG K (i:=3) sc_last_ones.nd rfl (by first|exact Or.inl rfl|exact Or.inr rfl) (Ay K (BL K (A3 K))))
    (A4 K (Cz K rfl (BP K (qv K 2)) (AO K (i:=4) sc_last_ones.nd rfl (by first|exact Or.inl rfl|exact Or.inr rfl))
      (A4 K (AG K (i:=5) sc_last_ones.nd rfl (by first|exact Or.inl rfl|exact Or.inr rfl) (AD K 0 G_behind hr D_behind (A1 K (qv K 0) (A1 K (qv K 1) (A1 K (qv K 4) (A3 K)))) AH))
    (AB K (BO K (Ux K (GB K (GC K (PV K rfl) Ue B.any L2.bt_any (BY K (loc:=["other"]) (fr:=["later"]) (ix:=[5]) rfl ⟨rfl,by decide +kernel,rfl,rfl,rfl,by decide +kernel⟩ (BP K (qv K 2)) (λ _ _ _=>(AO K (i:=0) (show(["other","later"]:List Str).Nodup from by decide +kernel) rfl (by first|exact Or.inl rfl|exact Or.inr rfl))) (λ _ _ _=>(By K)) (λ _ _ _=>(IS K (Ve K) Rz (qv K 0) (qv K 1)))))))
      (AB K (DJ K (EE K PySem.F.slot_list_append PySem.F.type_list_append CH CZ (qv K 3) (A1 K (qv K 4) (A3 K)))))
      (As K)))))
    (AB K (AS K (Eb K (B9 K) (Bn Bm) B.tuple L2.bt_tuple (A1 K (qv K 3) (A3 K)))))))⟩
theorem ok_length_of{f_length_of:Addr}{d_length_of:FuncData}(DA:DefAt K mg "length_of" BZ f_length_of d_length_of ["works","some"]) (B:BltA mg):FnOk P w K mg base CX0 1 f_length_of d_length_of ["works","some"] (spF K 2 Bc):=by
  refine Ak (N:=["works","some"]) (m:=HZ) DA Ku λ cdv A outer s H E hr=>?_
  exact⟨_,(AB K (AS K (GC K ((Jw K rfl).or (J0 K rfl)) OR B.sum L2.bt_sum (BY K (loc:=["j"]) (fr:=["works"]) (ix:=[0]) rfl ⟨rfl,by decide +kernel,rfl,rfl,rfl,by decide +kernel⟩ (BP K (qv K 1)) (λ _ _ _=>(AO K (i:=0) (show(["j","works"]:List Str).Nodup from by decide +kernel) rfl (by first|exact Or.inl rfl|exact Or.inr rfl))) (λ _ _ _=>(By K)) (λ _ _ _=>(AJ K (AJ K (qv K 1) (qv K 0)) (A7 K)))))))⟩
theorem ok_same_coming{f_same_coming:Addr}{d_same_coming:FuncData}(DA:DefAt K mg "same_coming" BU f_same_coming d_same_coming ["works"]) (B:BltA mg):FnOk P w K mg base CX0 1 f_same_coming d_same_coming ["works"] (spF K 1 Cm):=by
  refine Ak (N:=["works","coming"]) (m:=GT) DA sc_same_coming λ cdv A outer s H E hr=>?_
  exact⟨_,(A4 K (AG K (i:=1) sc_same_coming.nd rfl (by first|exact Or.inl rfl|exact Or.inr rfl) (AJ K (AJ K (qv K 0) (A7 K)) (A7 K)))
    (A4 K (BO K (GB K (GC K (PX K rfl) Uf B.all L2.bt_all (BY K (loc:=["work"]) (fr:=["coming"]) (ix:=[1]) rfl ⟨rfl,by decide +kernel,rfl,rfl,rfl,by decide +kernel⟩ (BP K (qv K 0)) (λ _ _ _=>(AO K (i:=0) (show(["work","coming"]:List Str).Nodup from by decide +kernel) rfl (by first|exact Or.inl rfl|exact Or.inr rfl))) (λ _ _ _=>(By K)) (λ _ _ _=>(IS K ((Cc).or (BT K hr.units)) (AU Bw Bx) (AJ K (qv K 0) (A7 K)) (qv K 1))))))
      (AB K (AS K (qv K 1)))
      (As K))
    (AB K (AS K (Oc K)))))⟩
theorem ok_one_coming{f_one_coming f_same_coming:Addr}{d_one_coming d_same_coming:FuncData}(DA:DefAt K mg "one_coming" Bf f_one_coming d_one_coming ["works"])(D_same_coming:DefAt K mg "same_coming" BU f_same_coming d_same_coming ["works"])(G_same_coming:FnOk P w K mg base CX0 1 f_same_coming d_same_coming ["works"] (spF K 1 Cm))(B:BltA mg):FnOk P w K mg base CX0 2 f_one_coming d_one_coming ["works"] (spF K 1 DH):=by
  refine Ak (N:=["works","coming"]) (m:=Gf) DA sc_one_coming λ cdv A outer s H E hr=>?_
  exact⟨_,(A4 K (AG K (i:=1) sc_one_coming.nd rfl (by first|exact Or.inl rfl|exact Or.inr rfl) (AD K 0 G_same_coming hr D_same_coming (A1 K (qv K 0) (A3 K)) AH))
    (A4 K (BO K (LB K (qv K 1))
      (AB K (Qh K))
      (As K))
    (AB K (AS K (qv K 1)))))⟩
theorem ok_bound_of{f_bound_of f_heads BE f_last_ones f_length_of:Addr}{d_bound_of d_heads d_cost_at d_last_ones d_length_of:FuncData}(DA:DefAt K mg "bound_of" CF f_bound_of d_bound_of ["works","wishes","some"])(D_heads:DefAt K mg "heads" Dq f_heads d_heads ["works","wishes"])(G_heads:FnOk P w K mg base CX0 2 f_heads d_heads ["works","wishes"] (spF K 2 G4))(D_cost_at:DefAt K mg "cost_at" Bt BE d_cost_at ["cost","t"])(G_cost_at:FnOk P w K mg base CX0 2 BE d_cost_at ["cost","t"] (spF K 2 F_cost_at))(D_last_ones:DefAt K mg "last_ones" Ba f_last_ones d_last_ones ["many","wishes","some"])(G_last_ones:FnOk P w K mg base CX0 3 f_last_ones d_last_ones ["many","wishes","some"] (spF K 3 CN))(D_length_of:DefAt K mg "length_of" BZ f_length_of d_length_of ["works","some"])(G_length_of:FnOk P w K mg base CX0 1 f_length_of d_length_of ["works","some"] (spF K 2 Bc))(B:BltA mg):FnOk P w K mg base CX0 4 f_bound_of d_bound_of ["works","wishes","some"] (spF K 3 Cg):=by
  refine Ak (N:=["works","wishes","some","begins","end"]) (m:=IY) DA sc_bound_of λ cdv A outer s H E hr=>?_
  exact⟨_,(A4 K (AG K (i:=3) sc_bound_of.nd rfl (by first|exact Or.inl rfl|exact Or.inr rfl) (AD K 0 G_heads hr D_heads (A1 K (qv K 0) (A1 K (qv K 1) (A3 K))) AH))
    (A4 K (AG K (i:=4) sc_bound_of.nd rfl (by first|exact Or.inl rfl|exact Or.inr rfl) (AW K ((BI).or (Aq K)) (AU BH B0) (GC K (Jy K rfl) OS B.min L2.bt_min (BY K (loc:=["work"]) (fr:=["begins"]) (ix:=[3]) rfl ⟨rfl,by decide +kernel,rfl,rfl,rfl,by decide +kernel⟩ (BP K (qv K 2)) (λ _ _ _=>(AO K (i:=0) (show(["work","begins"]:List Str).Nodup from by decide +kernel) rfl (by first|exact Or.inl rfl|exact Or.inr rfl))) (λ _ _ _=>(By K)) (λ _ _ _=>(AJ K (qv K 1) (qv K 0))))) (AD K 0 G_length_of hr D_length_of (A1 K (qv K 0) (A1 K (qv K 2) (A3 K))) AH)))
    (AB K (AS K (GC K (Jy K rfl) OS B.min L2.bt_min (BY K (loc:=["u"]) (fr:=["works","end"]) (ix:=[0,4]) rfl ⟨rfl,by decide +kernel,rfl,rfl,rfl,by decide +kernel⟩ (BP K (AD K 0 G_last_ones hr D_last_ones (A1 K (BJ K (B8 K) (Bn Bv) B.len L2.bt_len (A1 K (qv K 0) (A3 K))) (A1 K (qv K 1) (A1 K (qv K 2) (A3 K)))) AH)) (λ _ _ _=>(AO K (i:=0) (show(["u","works","end"]:List Str).Nodup from by decide +kernel) rfl (by first|exact Or.inl rfl|exact Or.inr rfl))) (λ _ _ _=>(By K)) (λ _ _ _=>(AD K 0 G_cost_at hr D_cost_at (A1 K (AJ K (AJ K (qv K 1) (qv K 0)) (A7 K)) (A1 K (qv K 2) (A3 K))) AH))))))))⟩
theorem ok_cheapest_last{f_cheapest_last BE f_last_ones:Addr}{d_cheapest_last d_cost_at d_last_ones:FuncData}(DA:DefAt K mg "cheapest_last" Ao f_cheapest_last d_cheapest_last ["works","wishes","some","end"])(D_cost_at:DefAt K mg "cost_at" Bt BE d_cost_at ["cost","t"])(G_cost_at:FnOk P w K mg base CX0 2 BE d_cost_at ["cost","t"] (spF K 2 F_cost_at))(D_last_ones:DefAt K mg "last_ones" Ba f_last_ones d_last_ones ["many","wishes","some"])(G_last_ones:FnOk P w K mg base CX0 3 f_last_ones d_last_ones ["many","wishes","some"] (spF K 3 CN)){c_cheapest_last P_cheapest_last:Addr}(LC:LamC K mg base d_cheapest_last c_cheapest_last P_cheapest_last ((("cheapest_last":Str) ++ ".<locals>.") ++ "<lambda>") ⟨80,56,80,91⟩)(B:BltA mg):FnOk P w K mg base CX0 6 f_cheapest_last d_cheapest_last ["works","wishes","some","end"] (spF K 4 CK):=by
  refine LN (N:=["works","wishes","some","end"]) (m:=FL) DA Hf λ cdv A outer s H E hcd hr=>?_
  exact⟨_,(AB K (AS K (Qk K (prm:="u") (fr:=["end","works"]) (ix:=[3,0]) ⟨hcd.symm.trans LC.code,LC.hd,LC.bl⟩ LC.ti ⟨rfl,by decide +kernel,rfl,rfl,rfl,by decide +kernel⟩ ⟨rfl,rfl,rfl,rfl⟩ hr (by decide) B.min (AD K 0 G_last_ones hr D_last_ones (A1 K (BJ K (B8 K) (Bn Bv) B.len L2.bt_len (A1 K (qv K 0) (A3 K))) (A1 K (qv K 1) (A1 K (qv K 2) (A3 K)))) AH) (λ _ _ _ _=>(AD K 0 G_cost_at (hr.in1.deeper _) D_cost_at (A1 K (AJ K (AJ K (qv K 2) (qv K 0)) (A7 K)) (A1 K (qv K 1) (A3 K))) AH)) (λ _ _ _ _ _=>rfl))))⟩
theorem ok_without{f_without:Addr}{d_without:FuncData}(DA:DefAt K mg "without" CU f_without d_without ["some","u"]) (B:BltA mg):FnOk P w K mg base CX0 1 f_without d_without ["some","u"] (spF K 2 EZ):=by
  refine Ak (N:=["some","u"]) (m:=Jk) DA NK λ cdv A outer s H E hr=>?_
  exact⟨_,(AB K (AS K (KJ K (B9 K) Bm B.tuple L2.bt_tuple (BY K (loc:=["work"]) (fr:=["u"]) (ix:=[1]) rfl ⟨rfl,by decide +kernel,rfl,rfl,rfl,by decide +kernel⟩ (BP K (qv K 0)) (λ _ _ _=>(AO K (i:=0) (show(["work","u"]:List Str).Nodup from by decide +kernel) rfl (by first|exact Or.inl rfl|exact Or.inr rfl))) (λ _ _ _=>(Fe K (Ax K ((SA).or (JO K hr.units)) (AU OV OW) (qv K 0) (qv K 1)))) (λ _ _ _=>(qv K 0))))))⟩
theorem ok_greatest_bound{f_greatest_bound f_bound_of:Addr}{d_greatest_bound d_bound_of:FuncData}(DA:DefAt K mg "greatest_bound" Ai f_greatest_bound d_greatest_bound ["works","wishes","sets"])(D_bound_of:DefAt K mg "bound_of" CF f_bound_of d_bound_of ["works","wishes","some"])(G_bound_of:FnOk P w K mg base CX0 4 f_bound_of d_bound_of ["works","wishes","some"] (spF K 3 Cg)){c_greatest_bound P_greatest_bound:Addr}(LC:LamC K mg base d_greatest_bound c_greatest_bound P_greatest_bound ((("greatest_bound":Str) ++ ".<locals>.") ++ "<lambda>") ⟨84,25,84,67⟩)(B:BltA mg):FnOk P w K mg base CX0 7 f_greatest_bound d_greatest_bound ["works","wishes","sets"] (spF K 3 C4):=by
  refine LN (N:=["works","wishes","sets"]) (m:=FB) DA HY λ cdv A outer s H E hcd hr=>?_
  exact⟨_,(AB K (AS K (T3 K (prm:="some") (fr:=["works","wishes"]) (ix:=[0,1]) ⟨hcd.symm.trans LC.code,LC.hd,LC.bl⟩ LC.ti ⟨rfl,by decide +kernel,rfl,rfl,rfl,by decide +kernel⟩ ⟨rfl,rfl,rfl,rfl⟩ hr (by decide) B.max (qv K 2) (λ _ _ _ _=>(AD K 0 G_bound_of (hr.in1.deeper _) D_bound_of (A1 K (qv K 1) (A1 K (qv K 2) (A1 K (qv K 0) (A3 K)))) AH)) (λ _ _ _ _ _=>rfl))))⟩
theorem ok_greatest_order{f_greatest_order f_length_of f_one_coming f_cheapest_last f_without f_greatest_bound:Addr}{d_greatest_order d_length_of d_one_coming d_cheapest_last d_without d_greatest_bound:FuncData}(DA:DefAt K mg "greatest_order" B6 f_greatest_order d_greatest_order ["works","wishes"])(D_length_of:DefAt K mg "length_of" BZ f_length_of d_length_of ["works","some"])(G_length_of:FnOk P w K mg base CX0 1 f_length_of d_length_of ["works","some"] (spF K 2 Bc))(D_one_coming:DefAt K mg "one_coming" Bf f_one_coming d_one_coming ["works"])(G_one_coming:FnOk P w K mg base CX0 2 f_one_coming d_one_coming ["works"] (spF K 1 DH))(D_cheapest_last:DefAt K mg "cheapest_last" Ao f_cheapest_last d_cheapest_last ["works","wishes","some","end"])(G_cheapest_last:FnOk P w K mg base CX0 6 f_cheapest_last d_cheapest_last ["works","wishes","some","end"] (spF K 4 CK))(D_without:DefAt K mg "without" CU f_without d_without ["some","u"])(G_without:FnOk P w K mg base CX0 1 f_without d_without ["some","u"] (spF K 2 EZ))(D_greatest_bound:DefAt K mg "greatest_bound" Ai f_greatest_bound d_greatest_bound ["works","wishes","sets"])(G_greatest_bound:FnOk P w K mg base CX0 7 f_greatest_bound d_greatest_bound ["works","wishes","sets"] (spF K 3 C4))(B:BltA mg):FnOk P w K mg base CX0 8 f_greatest_order d_greatest_order ["works","wishes"] (spF K 2 C3):=by
  refine Ak (N:=["works","wishes","coming","order","sets","left","u"]) (m:=FA) DA sc_greatest_order λ cdv A outer s H E hr=>?_
  exact⟨_,(A4 K (AG K (i:=2) sc_greatest_order.nd rfl (by first|exact Or.inl rfl|exact Or.inr rfl) (AD K 0 G_one_coming hr D_one_coming (A1 K (qv K 0) (A3 K)) AH))
    (A4 K (AG K (i:=3) sc_greatest_order.nd rfl (by first|exact Or.inl rfl|exact Or.inr rfl) (Ay K (BL K (A3 K))))
    (A4 K (AG K (i:=4) sc_greatest_order.nd rfl (by first|exact Or.inl rfl|exact Or.inr rfl) (Ay K (BL K (A3 K))))
    (A4 K (AG K (i:=5) sc_greatest_order.nd rfl (by first|exact Or.inl rfl|exact Or.inr rfl) (Mh K B.tuple B.range (A1 K (BJ K (B8 K) (Bn Bv) B.len L2.bt_len (A1 K (qv K 0) (A3 K))) (A3 K))))
    (A4 K (Hj K (GB K (qv K 5))
      (A4 K (AG K (i:=6) sc_greatest_order.nd rfl (by first|exact Or.inl rfl|exact Or.inr rfl) (AD K 0 G_cheapest_last hr D_cheapest_last (A1 K (qv K 0) (A1 K (qv K 1) (A1 K (qv K 5) (A1 K (AW K ((BI).or (Aq K)) (AU BH B0) (qv K 2) (AD K 0 G_length_of hr D_length_of (A1 K (qv K 0) (A1 K (qv K 5) (A3 K))) AH)) (A3 K))))) AH))
    (A4 K (DJ K (EE K PySem.F.slot_list_insert PySem.F.type_list_insert Om OP (qv K 3) (A1 K (A7 K) (A1 K (qv K 6) (A3 K)))))
    (A4 K (DJ K (EE K PySem.F.slot_list_append PySem.F.type_list_append CH CZ (qv K 4) (A1 K (qv K 5) (A3 K))))
    (AB K (AG K (i:=5) sc_greatest_order.nd rfl (by first|exact Or.inl rfl|exact Or.inr rfl) (AD K 0 G_without hr D_without (A1 K (qv K 5) (A1 K (qv K 6) (A3 K))) AH)))))))
    (AB K (AS K (DB K (A1 K (Eb K (B9 K) (Bn Bm) B.tuple L2.bt_tuple (A1 K (qv K 3) (A3 K))) (A1 K (Hk K G_greatest_bound hr D_greatest_bound (A1 K (qv K 0) (A1 K (qv K 1) (A1 K (qv K 4) (A3 K)))) AH) (A3 K)))))))))))⟩
theorem ok_run{HP:Addr}{d_run:FuncData}(DA:DefAt K mg "run" FJ HP d_run ["works","order"]) (B:BltA mg):FnOk P w K mg base CX0 1 HP d_run ["works","order"] (spF K 2 F_run):=by
  refine Ak (N:=["works","order","pieces","end","work","length","coming","cost","begin"]) (m:=m_run) DA sc_run λ cdv A outer s H E hr=>?_
  exact⟨_,(A4 K (AG K (i:=2) sc_run.nd rfl (by first|exact Or.inl rfl|exact Or.inr rfl) (Ay K (BL K (A3 K))))
    (A4 K (AG K (i:=3) sc_run.nd rfl (by first|exact Or.inl rfl|exact Or.inr rfl) (A7 K))
    (A4 K (Cz K rfl (BP K (qv K 1)) (AO K (i:=4) sc_run.nd rfl (by first|exact Or.inl rfl|exact Or.inr rfl))
      (A4 K (Uy K (AJ K (qv K 0) (qv K 4)) (Dz K (n:=3) rfl (At K (AO K (i:=5) sc_run.nd rfl (by first|exact Or.inl rfl|exact Or.inr rfl)) (At K (AO K (i:=6) sc_run.nd rfl (by first|exact Or.inl rfl|exact Or.inr rfl)) (At K (AO K (i:=7) sc_run.nd rfl (by first|exact Or.inl rfl|exact Or.inr rfl)) (DK K))))))
    (A4 K (AG K (i:=8) sc_run.nd rfl (by first|exact Or.inl rfl|exact Or.inr rfl) (BJ K (EX rfl) FZ B.max L2.bt_max (A1 K (qv K 6) (A1 K (qv K 3) (A3 K)))))
    (A4 K (AG K (i:=3) sc_run.nd rfl (by first|exact Or.inl rfl|exact Or.inr rfl) (AW K ((BI).or (Aq K)) (AU BH B0) (qv K 8) (qv K 5)))
    (AB K (DJ K (EE K PySem.F.slot_list_append PySem.F.type_list_append CH CZ (qv K 2) (A1 K (DB K (A1 K (qv K 4) (A1 K (qv K 8) (A1 K (qv K 3) (A3 K))))) (A3 K)))))))))
    (AB K (AS K (Eb K (B9 K) (Bn Bm) B.tuple L2.bt_tuple (A1 K (qv K 2) (A3 K))))))))⟩
theorem ok_ends_of{f_ends_of:Addr}{d_ends_of:FuncData}(DA:DefAt K mg "ends_of" CW f_ends_of d_ends_of ["works","plan"]) (B:BltA mg):FnOk P w K mg base CX0 1 f_ends_of d_ends_of ["works","plan"] (spF K 2 F_ends_of):=by
  refine Ak (N:=["works","plan","ends","work","begin","end"]) (m:=m_ends_of) DA sc_ends_of λ cdv A outer s H E hr=>?_
  exact⟨_,(A4 K (by first|exact Fb K (i:=2) (loc:=["work"]) (fr:=[]) (ix:=[]) sc_ends_of.nd rfl rfl rfl ⟨rfl,by decide +kernel,rfl,rfl,rfl,by decide +kernel⟩ (BP K (qv K 0)) (λ _ _ _=>(AO K (i:=0) (show(["work"]:List Str).Nodup from by decide +kernel) rfl (by first|exact Or.inl rfl|exact Or.inr rfl))) (λ _ _ _=>(By K)) (λ _ _ _=>(A7 K))|exact AG K (i:=2) sc_ends_of.nd rfl (by first|exact Or.inl rfl|exact Or.inr rfl) (Ay K (BY K (loc:=["work"]) (fr:=[]) (ix:=[]) rfl ⟨rfl,by decide +kernel,rfl,rfl,rfl,by decide +kernel⟩ (BP K (qv K 0)) (λ _ _ _=>(AO K (i:=0) (show(["work"]:List Str).Nodup from by decide +kernel) rfl (by first|exact Or.inl rfl|exact Or.inr rfl))) (λ _ _ _=>(By K)) (λ _ _ _=>(A7 K)))))
    (A4 K (Cz K rfl (BP K (qv K 1)) (Dz K (n:=3) rfl (At K (AO K (i:=3) sc_ends_of.nd rfl (by first|exact Or.inl rfl|exact Or.inr rfl)) (At K (AO K (i:=4) sc_ends_of.nd rfl (by first|exact Or.inl rfl|exact Or.inr rfl)) (At K (AO K (i:=5) sc_ends_of.nd rfl (by first|exact Or.inl rfl|exact Or.inr rfl)) (DK K)))))
      (AB K (Fc K (qv K 2) (qv K 3) (qv K 5))))
    (AB K (AS K (Eb K (B9 K) (Bn Bm) B.tuple L2.bt_tuple (A1 K (qv K 2) (A3 K)))))))⟩
theorem ok_costs_of{f_costs_of BE:Addr}{d_costs_of d_cost_at:FuncData}(DA:DefAt K mg "costs_of" CD f_costs_of d_costs_of ["works","ends"])(D_cost_at:DefAt K mg "cost_at" Bt BE d_cost_at ["cost","t"])(G_cost_at:FnOk P w K mg base CX0 2 BE d_cost_at ["cost","t"] (spF K 2 F_cost_at))(B:BltA mg):FnOk P w K mg base CX0 3 f_costs_of d_costs_of ["works","ends"] (spF K 2 F_costs_of):=by
  refine Ak (N:=["works","ends"]) (m:=m_costs_of) DA MB λ cdv A outer s H E hr=>?_
  exact⟨_,(AB K (AS K (KJ K (B9 K) Bm B.tuple L2.bt_tuple (BY K (loc:=["work","end"]) (fr:=[]) (ix:=[]) rfl ⟨rfl,by decide +kernel,rfl,rfl,rfl,by decide +kernel⟩ (V1 K B.zip (Oa K (qv K 0)) (Oa K (qv K 1))) (λ _ _ _=>(Dz K (n:=2) rfl (At K (AO K (i:=0) (show(["work","end"]:List Str).Nodup from by decide +kernel) rfl (by first|exact Or.inl rfl|exact Or.inr rfl)) (At K (AO K (i:=1) (show(["work","end"]:List Str).Nodup from by decide +kernel) rfl (by first|exact Or.inl rfl|exact Or.inr rfl)) (DK K))))) (λ _ _ _=>(By K)) (λ _ _ _=>(AD K 0 G_cost_at hr D_cost_at (A1 K (AJ K (qv K 0) (A7 K)) (A1 K (qv K 1) (A3 K))) AH))))))⟩
theorem ok_worth{Ei f_costs_of:Addr}{d_worth d_costs_of:FuncData}(DA:DefAt K mg "worth" Do Ei d_worth ["works","ends","question"])(D_costs_of:DefAt K mg "costs_of" CD f_costs_of d_costs_of ["works","ends"])(G_costs_of:FnOk P w K mg base CX0 3 f_costs_of d_costs_of ["works","ends"] (spF K 2 F_costs_of))(B:BltA mg):FnOk P w K mg base CX0 4 Ei d_worth ["works","ends","question"] (spF K 3 F_worth):=by
  refine Ak (N:=["works","ends","question","costs"]) (m:=m_worth) DA sc_worth λ cdv A outer s H E hr=>?_
  exact⟨_,(A4 K (AG K (i:=3) sc_worth.nd rfl (by first|exact Or.inl rfl|exact Or.inr rfl) (AD K 0 G_costs_of hr D_costs_of (A1 K (qv K 0) (A1 K (qv K 1) (A3 K))) AH))
    (A4 K (BO K (Ax K ((Cc).or (BT K hr.units)) (AU Bw Bx) (qv K 2) (CG K))
      (AB K (AS K (BJ K ((Gs K rfl).or (GP K rfl)) (Bn Kz) B.max L2.bt_max (A1 K (qv K 3) (A3 K)))))
      (As K))
    (AB K (AS K (BJ K ((Jw K rfl).or (J0 K rfl)) (Bn OR) B.sum L2.bt_sum (A1 K (qv K 3) (A3 K)))))))⟩
theorem ok_feed{f_feed:Addr}{d_feed:FuncData}(DA:DefAt K mg "_law_feed" EM f_feed d_feed ["_law_script"]) (B:BltA mg):FnOk P w K mg base CX0 1 f_feed d_feed ["_law_script"] (spF K 1 Gy):=by
  refine Ak (N:=["_law_script"]) (m:=Oq) DA Sd λ cdv A outer s H E hr=>?_
  exact⟨_,(AB K (AS K (Ay K (BL K (A1 K (Ay K (Qj K B.list (Ob K (qv K 0) (T1 K) (JK K (A7 K))))) (A1 K (A7 K) (A1 K (A7 K) (A3 K))))))))⟩
theorem ok_next{f_next:Addr}{d_next:FuncData}(DA:DefAt K mg "_law_next" DV f_next d_next ["_law_feed_here","_law_many"]) (B:BltA mg):FnOk P w K mg base CX0 1 f_next d_next ["_law_feed_here","_law_many"] (spF K 2 Au):=by
  refine Ak (N:=["_law_feed_here","_law_many","_law_digit","_law_at","_law_cell","_law_first"]) (m:=Op) DA sc_next λ cdv A outer s H E hr=>?_
  exact⟨_,(A4 K (BO K (Ax K KK KH (AJ K (qv K 0) (A7 K)) (A7 K))
      (A4 K (AG K (i:=2) sc_next.nd rfl (by first|exact Or.inl rfl|exact Or.inr rfl) (AW K ER EQ (AJ K (qv K 0) (A7 K)) (qv K 1)))
    (A4 K (Fc K (qv K 0) (A7 K) (AW K JP JF (AJ K (qv K 0) (A7 K)) (qv K 1)))
    (AB K (AS K (qv K 2)))))
      (As K))
    (A4 K (AG K (i:=3) sc_next.nd rfl (by first|exact Or.inl rfl|exact Or.inr rfl) (AJ K (qv K 0) (A7 K)))
    (A4 K (Fc K (qv K 0) (A7 K) (AW K ((BI).or (Aq K)) (AU BH B0) (qv K 3) (A7 K)))
    (A4 K (AG K (i:=4) sc_next.nd rfl (by first|exact Or.inl rfl|exact Or.inr rfl) (LD K (JJ K (LL K hr.units) (AJ K (qv K 0) (A7 K)) (BL K (A3 K))) (AJ K (AJ K (qv K 0) (A7 K)) (AW K ER EQ (qv K 3) (BJ K (B8 K) (Bn Bv) B.len L2.bt_len (A1 K (AJ K (qv K 0) (A7 K)) (A3 K))))) (A7 K)))
    (A4 K (BO K (QW.toT (IP K (Ax K Wo Wd (qv K 4) (AW K Vc Ur (A7 K) (A7 K))) (HI K (Ax K NW NP (qv K 3) (BJ K (B8 K) (Bn Bv) B.len L2.bt_len (A1 K (AJ K (qv K 0) (A7 K)) (A3 K)))))))
      (A4 K (Fc K (qv K 0) (A7 K) (AW K JP JF (qv K 4) (qv K 1)))
    (AB K (AS K (AW K ER EQ (qv K 4) (qv K 1)))))
      (As K))
    (A4 K (AG K (i:=5) sc_next.nd rfl (by first|exact Or.inl rfl|exact Or.inr rfl) (AW K ER EQ (AW K Ck Cj (AW K ((BI).or (Aq K)) (AU BH B0) (AW K ((BI).or (Aq K)) (AU BH B0) (AW K ((BI).or (Aq K)) (AU BH B0) (AW K ER EQ (qv K 4) (A7 K)) (AW K Ck Cj (AW K Ck Cj (A7 K) (qv K 3)) (qv K 3))) (AW K Ck Cj (A7 K) (qv K 3))) (A7 K)) (A7 K)) (A7 K)))
    (AB K (AS K (AW K ER EQ (AW K JP JF (AW K ER EQ (AW K Ck Cj (AW K ER EQ (AW K ((BI).or (Aq K)) (AU BH B0) (AW K ((BI).or (Aq K)) (AU BH B0) (AW K Ck Cj (qv K 5) (qv K 5)) (AW K Ck Cj (A7 K) (qv K 3))) (A7 K)) (A7 K)) (A7 K)) (A7 K)) (A7 K)) (qv K 1))))))))))⟩
theorem ok_cost{f_cost f_next:Addr}{d_cost d_next:FuncData}(DA:DefAt K mg "_law_cost" EN f_cost d_cost ["_law_feed_here","_law_words"])(D_next:DefAt K mg "_law_next" DV f_next d_next ["_law_feed_here","_law_many"])(G_next:FnOk P w K mg base CX0 1 f_next d_next ["_law_feed_here","_law_many"] (spF K 2 Au))(B:BltA mg):FnOk P w K mg base CX0 2 f_cost d_cost ["_law_feed_here","_law_words"] (spF K 2 Gz):=by
  refine Ak (N:=["_law_feed_here","_law_words","_law_word","_law_dues","_law_due","_law_weight","_law_rows","_law_start","_law_height","_law_k"]) (m:=Os) DA sc_cost λ cdv A outer s H E hr=>?_
  exact⟨_,(A4 K (AG K (i:=2) sc_cost.nd rfl (by first|exact Or.inl rfl|exact Or.inr rfl) (AJ K (qv K 1) (AD K 2 G_next hr D_next (A1 K (qv K 0) (A1 K (BJ K (B8 K) (Bn Bv) B.len L2.bt_len (A1 K (qv K 1) (A3 K))) (A3 K))) AH)))
    (A4 K (AG K (i:=3) sc_cost.nd rfl (by first|exact Or.inl rfl|exact Or.inr rfl) (Ay K (BL K (A1 K (AD K 2 G_next hr D_next (A1 K (qv K 0) (A1 K (A7 K) (A3 K))) AH) (A1 K (AD K 2 G_next hr D_next (A1 K (qv K 0) (A1 K (A7 K) (A3 K))) AH) (A1 K (AW K Ey Ew (AD K 2 G_next hr D_next (A1 K (qv K 0) (A1 K (A7 K) (A3 K))) AH) (A7 K)) (A3 K)))))))
    (A4 K (AG K (i:=4) sc_cost.nd rfl (by first|exact Or.inl rfl|exact Or.inr rfl) (AJ K (qv K 3) (AD K 2 G_next hr D_next (A1 K (qv K 0) (A1 K (A7 K) (A3 K))) AH)))
    (A4 K (AG K (i:=5) sc_cost.nd rfl (by first|exact Or.inl rfl|exact Or.inr rfl) (AD K 2 G_next hr D_next (A1 K (qv K 0) (A1 K (A7 K) (A3 K))) AH))
    (A4 K (BO K (Ax K ((Cc).or (BT K hr.units)) (AU Bw Bx) (qv K 2) (CG K))
      (AB K (AS K (DB K (A1 K (qv K 2) (A1 K (qv K 4) (A3 K))))))
      (As K))
    (A4 K (BO K (Ax K ((Cc).or (BT K hr.units)) (AU Bw Bx) (qv K 2) (CG K))
      (AB K (AS K (DB K (A1 K (qv K 2) (A1 K (qv K 5) (A3 K))))))
      (As K))
    (A4 K (BO K (Ax K ((SA).or (JO K hr.units)) (AU OV OW) (qv K 2) (CG K))
      (AB K (AS K (DB K (A1 K (qv K 2) (A1 K (qv K 4) (A1 K (qv K 5) (A3 K)))))))
      (As K))
    (A4 K (AG K (i:=6) sc_cost.nd rfl (by first|exact Or.inl rfl|exact Or.inr rfl) (Ay K (BL K (A3 K))))
    (A4 K (AG K (i:=7) sc_cost.nd rfl (by first|exact Or.inl rfl|exact Or.inr rfl) (AW K Ey Ew (AD K 2 G_next hr D_next (A1 K (qv K 0) (A1 K (A7 K) (A3 K))) AH) (A7 K)))
    (A4 K (AG K (i:=8) sc_cost.nd rfl (by first|exact Or.inl rfl|exact Or.inr rfl) (A7 K))
    (A4 K (Cz K rfl (Eh K B.range (A1 K (AW K ((BI).or (Aq K)) (AU BH B0) (A7 K) (AD K 2 G_next hr D_next (A1 K (qv K 0) (A1 K (A7 K) (A3 K))) AH)) (A3 K))) (AO K (i:=9) sc_cost.nd rfl (by first|exact Or.inl rfl|exact Or.inr rfl))
      (A4 K (AG K (i:=7) sc_cost.nd rfl (by first|exact Or.inl rfl|exact Or.inr rfl) (AW K ((BI).or (Aq K)) (AU BH B0) (AW K ((BI).or (Aq K)) (AU BH B0) (qv K 7) (A7 K)) (AD K 2 G_next hr D_next (A1 K (qv K 0) (A1 K (A7 K) (A3 K))) AH)))
    (A4 K (AG K (i:=8) sc_cost.nd rfl (by first|exact Or.inl rfl|exact Or.inr rfl) (BJ K (PR rfl) Sq B.min L2.bt_min (A1 K (A7 K) (A1 K (AW K ((BI).or (Aq K)) (AU BH B0) (qv K 8) (AD K 2 G_next hr D_next (A1 K (qv K 0) (A1 K (A7 K) (A3 K))) AH)) (A3 K)))))
    (AB K (DJ K (EE K PySem.F.slot_list_append PySem.F.type_list_append CH CZ (qv K 6) (A1 K (DB K (A1 K (qv K 7) (A1 K (qv K 8) (A3 K)))) (A3 K))))))))
    (AB K (AS K (DB K (A1 K (qv K 2) (A1 K (Eb K (B9 K) (Bn Bm) B.tuple L2.bt_tuple (A1 K (qv K 6) (A3 K))) (A3 K)))))))))))))))))⟩
theorem ok_works{f_works f_next f_cost:Addr}{d_works d_next d_cost:FuncData}(DA:DefAt K mg "_law_works" Dp f_works d_works ["_law_feed_here","_law_most","_law_words","_law_ways"])(D_next:DefAt K mg "_law_next" DV f_next d_next ["_law_feed_here","_law_many"])(G_next:FnOk P w K mg base CX0 1 f_next d_next ["_law_feed_here","_law_many"] (spF K 2 Au))(D_cost:DefAt K mg "_law_cost" EN f_cost d_cost ["_law_feed_here","_law_words"])(G_cost:FnOk P w K mg base CX0 2 f_cost d_cost ["_law_feed_here","_law_words"] (spF K 2 Gz))(B:BltA mg):FnOk P w K mg base CX0 3 f_works d_works ["_law_feed_here","_law_most","_law_words","_law_ways"] (spF K 4 G0):=by
  refine Ak (N:=["_law_feed_here","_law_most","_law_words","_law_ways","_law_many","_law_longest","_law_way","_law_first","_law_works_here","_law_k","_law_comings"]) (m:=Mm) DA sc_works λ cdv A outer s H E hr=>?_
  exact⟨_,(A4 K (AG K (i:=4) sc_works.nd rfl (by first|exact Or.inl rfl|exact Or.inr rfl) (AW K ((BI).or (Aq K)) (AU BH B0) (A7 K) (AD K 2 G_next hr D_next (A1 K (qv K 0) (A1 K (qv K 1) (A3 K))) AH)))
    (A4 K (AG K (i:=5) sc_works.nd rfl (by first|exact Or.inl rfl|exact Or.inr rfl) (V7 K (BL K (A1 K (A7 K) (A1 K (A7 K) (A3 K)))) (AD K 2 G_next hr D_next (A1 K (qv K 0) (A1 K (A7 K) (A3 K))) AH)))
    (A4 K (AG K (i:=6) sc_works.nd rfl (by first|exact Or.inl rfl|exact Or.inr rfl) (AJ K (qv K 3) (AD K 2 G_next hr D_next (A1 K (qv K 0) (A1 K (BJ K (B8 K) (Bn Bv) B.len L2.bt_len (A1 K (qv K 3) (A3 K))) (A3 K))) AH)))
    (A4 K (AG K (i:=7) sc_works.nd rfl (by first|exact Or.inl rfl|exact Or.inr rfl) (AD K 2 G_next hr D_next (A1 K (qv K 0) (A1 K (A7 K) (A3 K))) AH))
    (A4 K (AG K (i:=8) sc_works.nd rfl (by first|exact Or.inl rfl|exact Or.inr rfl) (Ay K (BL K (A3 K))))
    (A4 K (Cz K rfl (Eh K B.range (A1 K (qv K 4) (A3 K))) (AO K (i:=9) sc_works.nd rfl (by first|exact Or.inl rfl|exact Or.inr rfl))
      (Jh K (A4 K (AG K (i:=10) sc_works.nd rfl (by first|exact Or.inl rfl|exact Or.inr rfl) (Ay K (BL K (A1 K (qv K 7) (A1 K (AD K 2 G_next hr D_next (A1 K (qv K 0) (A1 K (A7 K) (A3 K))) AH) (A1 K (AD K 2 G_next hr D_next (A1 K (qv K 0) (A1 K (A7 K) (A3 K))) AH) (A1 K (AD K 2 G_next hr D_next (A1 K (qv K 0) (A1 K (A7 K) (A3 K))) AH) (A3 K))))))))
    (AB K (DJ K (EE K PySem.F.slot_list_append PySem.F.type_list_append CH CZ (qv K 8) (A1 K (DB K (A1 K (AW K ((BI).or (Aq K)) (AU BH B0) (A7 K) (AD K 2 G_next hr D_next (A1 K (qv K 0) (A1 K (qv K 5) (A3 K))) AH)) (A1 K (AJ K (qv K 10) (qv K 6)) (A1 K (AD K 3 G_cost hr D_cost (A1 K (qv K 0) (A1 K (qv K 2) (A3 K))) AH) (A3 K))))) (A3 K))))))))
    (AB K (AS K (Eb K (B9 K) (Bn Bm) B.tuple L2.bt_tuple (A1 K (qv K 8) (A3 K)))))))))))⟩
theorem ok_costs{f_costs:Addr}{d_costs:FuncData}(DA:DefAt K mg "_law_costs" Dr f_costs d_costs ["_law_cost_here","_law_t"]) (B:BltA mg):FnOk P w K mg base CX0 1 f_costs d_costs ["_law_cost_here","_law_t"] (spF K 2 DR):=by
  refine Ak (N:=["_law_cost_here","_law_t"]) (m:=Mo) DA QB λ cdv A outer s H E hr=>?_
  exact⟨_,(A4 K (BO K (Ax K ((Cc).or (BT K hr.units)) (AU Bw Bx) (AJ K (qv K 0) (A7 K)) (CG K))
      (AB K (AS K (AW K Ey Ew (qv K 1) (AJ K (qv K 0) (A7 K)))))
      (As K))
    (A4 K (BO K (Ax K ((Cc).or (BT K hr.units)) (AU Bw Bx) (AJ K (qv K 0) (A7 K)) (CG K))
      (AB K (AS K (AW K Ck Cj (AJ K (qv K 0) (A7 K)) (BJ K (EX rfl) FZ B.max L2.bt_max (A1 K (A7 K) (A1 K (AW K Ey Ew (qv K 1) (AJ K (qv K 0) (A7 K))) (A3 K)))))))
      (As K))
    (A4 K (BO K (Ax K ((Cc).or (BT K hr.units)) (AU Bw Bx) (AJ K (qv K 0) (A7 K)) (CG K))
      (AB K (AS K (AW K Ck Cj (AJ K (qv K 0) (A7 K)) (Eb K PU Ug B.int L2.bt_int (A1 K (IS K KK KH (qv K 1) (AJ K (qv K 0) (A7 K))) (A3 K))))))
      (As K))
    (A4 K (BO K (Ax K ((Cc).or (BT K hr.units)) (AU Bw Bx) (AJ K (qv K 0) (A7 K)) (CG K))
      (AB K (AS K (AW K Ck Cj (AJ K (qv K 0) (A7 K)) (qv K 1))))
      (As K))
    (AB K (AS K (GC K ((Gs K rfl).or (GP K rfl)) Kz B.max L2.bt_max (V0 K (Ay K (BL K (A1 K (A7 K) (A3 K)))) (Ay K (BY K (loc:=["_law_start","_law_height"]) (fr:=["_law_t"]) (ix:=[1]) rfl ⟨rfl,by decide +kernel,rfl,rfl,rfl,by decide +kernel⟩ (BP K (AJ K (qv K 0) (A7 K))) (λ _ _ _=>(Dz K (n:=2) rfl (At K (AO K (i:=0) (show(["_law_start","_law_height","_law_t"]:List Str).Nodup from by decide +kernel) rfl (by first|exact Or.inl rfl|exact Or.inr rfl)) (At K (AO K (i:=1) (show(["_law_start","_law_height","_law_t"]:List Str).Nodup from by decide +kernel) rfl (by first|exact Or.inl rfl|exact Or.inr rfl)) (DK K))))) (λ _ _ _=>(Fe K (Ax K SB Ry (qv K 0) (qv K 2)))) (λ _ _ _=>(qv K 1))))))))))))⟩
theorem ok_greatest{f_greatest f_costs:Addr}{d_greatest d_costs:FuncData}(DA:DefAt K mg "_law_greatest" CC f_greatest d_greatest ["_law_works_here","_law_ends"])(D_costs:DefAt K mg "_law_costs" Dr f_costs d_costs ["_law_cost_here","_law_t"])(G_costs:FnOk P w K mg base CX0 1 f_costs d_costs ["_law_cost_here","_law_t"] (spF K 2 DR))(B:BltA mg):FnOk P w K mg base CX0 2 f_greatest d_greatest ["_law_works_here","_law_ends"] (spF K 2 DQ):=by
  refine Ak (N:=["_law_works_here","_law_ends"]) (m:=IX) DA M9 λ cdv A outer s H E hr=>?_
  exact⟨_,(AB K (AS K (GC K ((Gs K rfl).or (GP K rfl)) Kz B.max L2.bt_max (BY K (loc:=["_law_k"]) (fr:=["_law_works_here","_law_ends"]) (ix:=[0,1]) rfl ⟨rfl,by decide +kernel,rfl,rfl,rfl,by decide +kernel⟩ (Eh K B.range (A1 K (BJ K (B8 K) (Bn Bv) B.len L2.bt_len (A1 K (qv K 0) (A3 K))) (A3 K))) (λ _ _ _=>(AO K (i:=0) (show(["_law_k","_law_works_here","_law_ends"]:List Str).Nodup from by decide +kernel) rfl (by first|exact Or.inl rfl|exact Or.inr rfl))) (λ _ _ _=>(By K)) (λ _ _ _=>(AD K 0 G_costs hr D_costs (A1 K (AJ K (AJ K (qv K 1) (qv K 0)) (A7 K)) (A1 K (AJ K (qv K 2) (qv K 0)) (A3 K))) AH))))))⟩
theorem ok_run_ends{f_run_ends:Addr}{d_run_ends:FuncData}(DA:DefAt K mg "_law_run_ends" CB f_run_ends d_run_ends ["_law_works_here","_law_order"]) (B:BltA mg):FnOk P w K mg base CX0 1 f_run_ends d_run_ends ["_law_works_here","_law_order"] (spF K 2 DP):=by
  refine Ak (N:=["_law_works_here","_law_order","_law_ends","_law_t","_law_k"]) (m:=IW) DA sc_run_ends λ cdv A outer s H E hr=>?_
  exact⟨_,(A4 K (AG K (i:=2) sc_run_ends.nd rfl (by first|exact Or.inl rfl|exact Or.inr rfl) (Ay K (Uz K (BL K (A1 K (A7 K) (A3 K))) (BJ K (B8 K) (Bn Bv) B.len L2.bt_len (A1 K (qv K 0) (A3 K))))))
    (A4 K (AG K (i:=3) sc_run_ends.nd rfl (by first|exact Or.inl rfl|exact Or.inr rfl) (A7 K))
    (A4 K (Cz K rfl (BP K (qv K 1)) (AO K (i:=4) sc_run_ends.nd rfl (by first|exact Or.inl rfl|exact Or.inr rfl))
      (A4 K (AG K (i:=3) sc_run_ends.nd rfl (by first|exact Or.inl rfl|exact Or.inr rfl) (AW K ((BI).or (Aq K)) (AU BH B0) (BJ K (EX rfl) FZ B.max L2.bt_max (A1 K (qv K 3) (A1 K (AJ K (AJ K (qv K 0) (qv K 4)) (A7 K)) (A3 K)))) (AJ K (AJ K (qv K 0) (qv K 4)) (A7 K))))
    (AB K (Fc K (qv K 2) (qv K 4) (qv K 3)))))
    (AB K (AS K (qv K 2))))))⟩
theorem ok_cost_of{f_cost_of HP f_ends_of Ei f_greatest f_run_ends:Addr}{d_cost_of d_run d_ends_of d_worth d_greatest d_run_ends:FuncData}(DA:DefAt K mg "_law_cost_of" CY f_cost_of d_cost_of ["_law_works_here","_law_order"])(D_run:DefAt K mg "run" FJ HP d_run ["works","order"])(G_run:FnOk P w K mg base CX0 1 HP d_run ["works","order"] (spF K 2 F_run))(D_ends_of:DefAt K mg "ends_of" CW f_ends_of d_ends_of ["works","plan"])(G_ends_of:FnOk P w K mg base CX0 1 f_ends_of d_ends_of ["works","plan"] (spF K 2 F_ends_of))(D_worth:DefAt K mg "worth" Do Ei d_worth ["works","ends","question"])(G_worth:FnOk P w K mg base CX0 4 Ei d_worth ["works","ends","question"] (spF K 3 F_worth))(D_greatest:DefAt K mg "_law_greatest" CC f_greatest d_greatest ["_law_works_here","_law_ends"])(G_greatest:FnOk P w K mg base CX0 2 f_greatest d_greatest ["_law_works_here","_law_ends"] (spF K 2 DQ))(D_run_ends:DefAt K mg "_law_run_ends" CB f_run_ends d_run_ends ["_law_works_here","_law_order"])(G_run_ends:FnOk P w K mg base CX0 1 f_run_ends d_run_ends ["_law_works_here","_law_order"] (spF K 2 DP))(B:BltA mg):FnOk P w K mg base CX0 5 f_cost_of d_cost_of ["_law_works_here","_law_order"] (spF K 2 DI):=by
  refine Ak (N:=["_law_works_here","_law_order","_law_told","_law_mine"]) (m:=Jl) DA sc_cost_of λ cdv A outer s H E hr=>?_
  exact⟨_,(A4 K (AG K (i:=2) sc_cost_of.nd rfl (by first|exact Or.inl rfl|exact Or.inr rfl) (AD K 0 G_worth hr D_worth (A1 K (qv K 0) (A1 K (AD K 0 G_ends_of hr D_ends_of (A1 K (qv K 0) (A1 K (AD K 0 G_run hr D_run (A1 K (qv K 0) (A1 K (qv K 1) (A3 K))) AH) (A3 K))) AH) (A1 K (CG K) (A3 K)))) AH))
    (A4 K (AG K (i:=3) sc_cost_of.nd rfl (by first|exact Or.inl rfl|exact Or.inr rfl) (Hk K G_greatest hr D_greatest (A1 K (qv K 0) (A1 K (AD K 0 G_run_ends hr D_run_ends (A1 K (qv K 0) (A1 K (qv K 1) (A3 K))) AH) (A3 K))) AH))
    (AB K (AS K (LD K (Ax K ((Cc).or (BT K hr.units)) (AU Bw Bx) (BJ K J8 L3 B.repr L2.bt_repr (A1 K (qv K 2) (A3 K))) (BJ K J8 L3 B.repr L2.bt_repr (A1 K (qv K 3) (A3 K)))) (qv K 2) (Oc K))))))⟩
theorem ok_law{f_law f_greatest_order f_feed f_next f_works f_cost_of:Addr}{d_law d_greatest_order d_feed d_next d_works d_cost_of:FuncData}(DA:DefAt K mg "law" ED f_law d_law ["_law_script"])(D_greatest_order:DefAt K mg "greatest_order" B6 f_greatest_order d_greatest_order ["works","wishes"])(G_greatest_order:FnOk P w K mg base CX0 8 f_greatest_order d_greatest_order ["works","wishes"] (spF K 2 C3))(D_feed:DefAt K mg "_law_feed" EM f_feed d_feed ["_law_script"])(G_feed:FnOk P w K mg base CX0 1 f_feed d_feed ["_law_script"] (spF K 1 Gy))(D_next:DefAt K mg "_law_next" DV f_next d_next ["_law_feed_here","_law_many"])(G_next:FnOk P w K mg base CX0 1 f_next d_next ["_law_feed_here","_law_many"] (spF K 2 Au))(D_works:DefAt K mg "_law_works" Dp f_works d_works ["_law_feed_here","_law_most","_law_words","_law_ways"])(G_works:FnOk P w K mg base CX0 3 f_works d_works ["_law_feed_here","_law_most","_law_words","_law_ways"] (spF K 4 G0))(D_cost_of:DefAt K mg "_law_cost_of" CY f_cost_of d_cost_of ["_law_works_here","_law_order"])(G_cost_of:FnOk P w K mg base CX0 5 f_cost_of d_cost_of ["_law_works_here","_law_order"] (spF K 2 DI))(B:BltA mg):FnOk P w K mg base CX0 9 f_law d_law ["_law_script"] (spF K 1 F_law):=by
  refine Ak (N:=["_law_script","_law_feed_here","_law_works_here","_law_left","_law_order","_law_cost_here","_law_turn","_law_dues","_law_some","_law_at","_law_newer"]) (m:=SD) DA sc_law λ cdv A outer s H E hr=>?_
  exact⟨_,(A4 K (AG K (i:=1) sc_law.nd rfl (by first|exact Or.inl rfl|exact Or.inr rfl) (Hk K G_feed hr D_feed (A1 K (qv K 0) (A3 K)) AH))
    (A4 K (AG K (i:=2) sc_law.nd rfl (by first|exact Or.inl rfl|exact Or.inr rfl) (AD K 4 G_works hr D_works (A1 K (qv K 1) (A1 K (A7 K) (A1 K (Ay K (BL K (A1 K (CG K) (A3 K)))) (A1 K (Ay K (BL K (A1 K (A7 K) (A3 K)))) (A3 K))))) AH))
    (A4 K (AG K (i:=3) sc_law.nd rfl (by first|exact Or.inl rfl|exact Or.inr rfl) (Ay K (Qi K B.list B.range (A1 K (BJ K (B8 K) (Bn Bv) B.len L2.bt_len (A1 K (qv K 2) (A3 K))) (A3 K)))))
    (A4 K (AG K (i:=4) sc_law.nd rfl (by first|exact Or.inl rfl|exact Or.inr rfl) (Ay K (BL K (A3 K))))
    (A4 K (Hj K (JJ K (LL K hr.units) (qv K 3) (BL K (A3 K)))
      (AB K (DJ K (EE K PySem.F.slot_list_append PySem.F.type_list_append CH CZ (qv K 4) (A1 K (EE K PySem.F.slot_list_pop PySem.F.type_list_pop Qz QQ (qv K 3) (A1 K (AD K 2 G_next hr D_next (A1 K (qv K 1) (A1 K (BJ K (B8 K) (Bn Bv) B.len L2.bt_len (A1 K (qv K 3) (A3 K))) (A3 K))) AH) (A3 K))) (A3 K))))))
    (A4 K (AG K (i:=5) sc_law.nd rfl (by first|exact Or.inl rfl|exact Or.inr rfl) (AD K 0 G_cost_of hr D_cost_of (A1 K (qv K 2) (A1 K (Eb K (B9 K) (Bn Bm) B.tuple L2.bt_tuple (A1 K (qv K 4) (A3 K))) (A3 K))) AH))
    (A4 K (BO K (LB K (qv K 5))
      (AB K (AS K (S7 K)))
      (As K))
    (A4 K (Cz K rfl (Eh K B.range (A1 K (A7 K) (A3 K))) (AO K (i:=6) sc_law.nd rfl (by first|exact Or.inl rfl|exact Or.inr rfl))
      (Jh K (A4 K (by first|exact Fb K (i:=7) (loc:=["_law_k"]) (fr:=["_law_works_here"]) (ix:=[2]) sc_law.nd rfl rfl rfl ⟨rfl,by decide +kernel,rfl,rfl,rfl,by decide +kernel⟩ (Fd K (qv K 4)) (λ _ _ _=>(AO K (i:=0) (show(["_law_k","_law_works_here"]:List Str).Nodup from by decide +kernel) rfl (by first|exact Or.inl rfl|exact Or.inr rfl))) (λ _ _ _=>(By K)) (λ _ _ _=>(AJ K (AJ K (AJ K (qv K 1) (qv K 0)) (A7 K)) (A7 K)))|exact AG K (i:=7) sc_law.nd rfl (by first|exact Or.inl rfl|exact Or.inr rfl) (Ay K (BY K (loc:=["_law_k"]) (fr:=["_law_works_here"]) (ix:=[2]) rfl ⟨rfl,by decide +kernel,rfl,rfl,rfl,by decide +kernel⟩ (Fd K (qv K 4)) (λ _ _ _=>(AO K (i:=0) (show(["_law_k","_law_works_here"]:List Str).Nodup from by decide +kernel) rfl (by first|exact Or.inl rfl|exact Or.inr rfl))) (λ _ _ _=>(By K)) (λ _ _ _=>(AJ K (AJ K (AJ K (qv K 1) (qv K 0)) (A7 K)) (A7 K))))))
    (A4 K (by first|exact Fb K (i:=8) (loc:=["_law_at"]) (fr:=["_law_dues"]) (ix:=[7]) sc_law.nd rfl rfl rfl ⟨rfl,by decide +kernel,rfl,rfl,rfl,by decide +kernel⟩ (Eh K B.range (A1 K (AW K Ey Ew (BJ K (B8 K) (Bn Bv) B.len L2.bt_len (A1 K (qv K 4) (A3 K))) (A7 K)) (A3 K))) (λ _ _ _=>(AO K (i:=0) (show(["_law_at","_law_dues"]:List Str).Nodup from by decide +kernel) rfl (by first|exact Or.inl rfl|exact Or.inr rfl))) (λ _ _ _=>(Fe K (Ax K NW NP (AJ K (qv K 1) (AW K ((BI).or (Aq K)) (AU BH B0) (qv K 0) (A7 K))) (AJ K (qv K 1) (qv K 0))))) (λ _ _ _=>(qv K 0))|exact AG K (i:=8) sc_law.nd rfl (by first|exact Or.inl rfl|exact Or.inr rfl) (Ay K (BY K (loc:=["_law_at"]) (fr:=["_law_dues"]) (ix:=[7]) rfl ⟨rfl,by decide +kernel,rfl,rfl,rfl,by decide +kernel⟩ (Eh K B.range (A1 K (AW K Ey Ew (BJ K (B8 K) (Bn Bv) B.len L2.bt_len (A1 K (qv K 4) (A3 K))) (A7 K)) (A3 K))) (λ _ _ _=>(AO K (i:=0) (show(["_law_at","_law_dues"]:List Str).Nodup from by decide +kernel) rfl (by first|exact Or.inl rfl|exact Or.inr rfl))) (λ _ _ _=>(Fe K (Ax K NW NP (AJ K (qv K 1) (AW K ((BI).or (Aq K)) (AU BH B0) (qv K 0) (A7 K))) (AJ K (qv K 1) (qv K 0))))) (λ _ _ _=>(qv K 0)))))
    (AB K (BO K (JJ K (LL K hr.units) (qv K 8) (BL K (A3 K)))
      (A4 K (AG K (i:=9) sc_law.nd rfl (by first|exact Or.inl rfl|exact Or.inr rfl) (AJ K (qv K 8) (AD K 2 G_next hr D_next (A1 K (qv K 1) (A1 K (BJ K (B8 K) (Bn Bv) B.len L2.bt_len (A1 K (qv K 8) (A3 K))) (A3 K))) AH)))
    (A4 K (OZ (qv K 4) (qv K 9) (AW K ((BI).or (Aq K)) (AU BH B0) (qv K 9) (A7 K)) (Ay K (T2 (Ob K (qv K 4) (JK K (qv K 9)) (JK K (AW K ((BI).or (Aq K)) (AU BH B0) (qv K 9) (A7 K)))) (V5 K (A7 K)))))
    (A4 K (AG K (i:=10) sc_law.nd rfl (by first|exact Or.inl rfl|exact Or.inr rfl) (AD K 0 G_cost_of hr D_cost_of (A1 K (qv K 2) (A1 K (Eb K (B9 K) (Bn Bm) B.tuple L2.bt_tuple (A1 K (qv K 4) (A3 K))) (A3 K))) AH))
    (A4 K (BO K (QW.toT (We K (LB K (qv K 10)) (Uw K (Ax K KK KH (qv K 10) (qv K 5)))))
      (AB K (AS K (S7 K)))
      (As K))
    (AB K (AG K (i:=5) sc_law.nd rfl (by first|exact Or.inl rfl|exact Or.inr rfl) (qv K 10)))))))
      (As K)))))))
    (A4 K (by first|exact Fb K (i:=7) (loc:=["_law_k"]) (fr:=["_law_works_here"]) (ix:=[2]) sc_law.nd rfl rfl rfl ⟨rfl,by decide +kernel,rfl,rfl,rfl,by decide +kernel⟩ (Fd K (qv K 4)) (λ _ _ _=>(AO K (i:=0) (show(["_law_k","_law_works_here"]:List Str).Nodup from by decide +kernel) rfl (by first|exact Or.inl rfl|exact Or.inr rfl))) (λ _ _ _=>(By K)) (λ _ _ _=>(AJ K (AJ K (AJ K (qv K 1) (qv K 0)) (A7 K)) (A7 K)))|exact AG K (i:=7) sc_law.nd rfl (by first|exact Or.inl rfl|exact Or.inr rfl) (Ay K (BY K (loc:=["_law_k"]) (fr:=["_law_works_here"]) (ix:=[2]) rfl ⟨rfl,by decide +kernel,rfl,rfl,rfl,by decide +kernel⟩ (Fd K (qv K 4)) (λ _ _ _=>(AO K (i:=0) (show(["_law_k","_law_works_here"]:List Str).Nodup from by decide +kernel) rfl (by first|exact Or.inl rfl|exact Or.inr rfl))) (λ _ _ _=>(By K)) (λ _ _ _=>(AJ K (AJ K (AJ K (qv K 1) (qv K 0)) (A7 K)) (A7 K))))))
    (AB K (AS K (V8 K (T4 K (Vf K hr.units) (qv K 7) (IR K B.sorted (Mg K (qv K 7)))) (V3 K (IS K ((Cc).or (BT K hr.units)) (AU Bw Bx) (qv K 5) (AD K 0 G_cost_of hr D_cost_of (A1 K (qv K 2) (A1 K (AJ K (AD K 0 G_greatest_order hr D_greatest_order (A1 K (qv K 2) (A1 K (DB K (A3 K)) (A3 K))) AH) (A7 K)) (A3 K))) AH)))))))))))))))⟩
end
open Bd
theorem Eo{neg:Bool}{ma:ME}{ls:Ls}{hd:Hd}{QE:D->Hd->Prop}(h:WE ma ls hd λ d x=>∃ ns:List Int,pyD x d=some (.list (ns.map PyData.int))/\QE (.im (.bl (if neg then !decide (ns=[])else decide (ns=[])))) x):WE (E5 neg ma (BM A6)) ls hd QE:=by
  obtain⟨d,x,e,ns,e2,q⟩:=h
  refine⟨_,x,?_,q⟩
  unfold E5
  rw[e]
  simp[e2,I.pys,U5]
theorem Pf{hd:Hd}{QE:D->Hd->Prop}(q:QE (.im (.int 1000000000000000000)) hd):WP (Rb (.im (.int 10)) (.im (.int 18)) hd) QE:=⟨_,_,by simp[po1],q⟩
local macro_rules | `(tactic| sizeOf_list_dec) => `(tactic| first | (with_reducible refine AK ?_; try dsimp only [List.set_cons_zero, List.set_cons_succ, List.map_cons, List.map_nil, List.cons_append, List.nil_append, List.replicate, Nat.reduceSub, Int.reduceToNat]) | with_reducible refine He ?_ | with_reducible refine AX ?_ | with_reducible refine An ?_ | with_reducible refine Be ?_ | with_reducible refine Eg ?_ | with_reducible refine Bg ?_ | with_reducible refine Ch ?_ | with_reducible refine KY ?_ | with_reducible refine HA ?_ | with_reducible refine GV ?_ | with_reducible refine A5 (d := _) rfl ?_ | with_reducible refine B5 ?_ | with_reducible refine AY ?_ | with_reducible refine GX ?_ | with_reducible refine C9 ?_ | with_reducible refine DT ?_ | with_reducible refine Ke ?_ | with_reducible refine Cq ?_ | with_reducible refine G5 ?_ | with_reducible refine E7 ?_ | with_reducible refine JC ?_ | with_reducible refine BF ?_ | with_reducible refine KR ?_ | with_reducible refine KS ?_ | with_reducible refine K7 ?_ | with_reducible refine Du ?_ | with_reducible refine AN ?_ | with_reducible refine A9 ?_ | with_reducible refine EL ?_ | with_reducible refine C7 ?_ | with_reducible refine JB ?_ | with_reducible refine N9 ?_ | with_reducible refine FR ?_ | with_reducible refine Pk ?_ | with_reducible refine Kb ?_ | with_reducible refine Dv ?_ | with_reducible refine I0 ?_ | with_reducible refine K8 ?_ | with_reducible refine K9 ?_ | with_reducible refine KA ?_ | with_reducible refine N8 ?_ | with_reducible refine GW ?_ | with_reducible refine IA ?_ | with_reducible refine EJ ?_ | with_reducible refine Ka ?_ | with_reducible refine HB ?_ | with_reducible refine J9 ?_ | with_reducible refine ⟨_, rfl, ?_⟩ | refine Ac rfl (Ea _ _) ?_ | refine Ac rfl (Gw _ _ _) ?_ | refine Ac rfl (Hz _ _ _ _) ?_ | refine ⟨_, _, _, _, rfl, rfl, rfl, rfl, ?_⟩ | refine ⟨⟨_, rfl⟩, ?_⟩ | refine ⟨Iq, ?_⟩ | refine ⟨Lj, ?_⟩ | refine ⟨Li, ?_⟩ | refine ⟨Lh, ?_⟩ | refine ⟨Fs, ?_⟩ | refine ⟨Gj, ?_⟩ | with_reducible refine Eo ?_)
noncomputable def T(k:Nat)(a b:MO):Prop:=∃ (cs:List Int) (nx lf:Int),0 <= nx/\nx + k <= 1000000000/\a=.lst (cs.map λ i=>.im (.int i))/\b=.lst [.mu 0,.im (.int nx),.im (.int lf)]
theorem Vk(k:Nat)(cs:List Int)(nx lf many:Int)(n0:0 <= nx)(n1:nx + (k + 1) <= 1000000000)(h0:0 < many)(h1:many < 1073741824):WF Au [.mu 1,.im (.int many)] [.lst (cs.map λ i=>.im (.int i)),.lst [.mu 0,.im (.int nx),.im (.int lf)]] λ d x=>∃ r a' b',0 <= r/\r < many/\d=.im (.int r)/\x=[a',b']/\T k a' b':=by
  have hm:Ee many:=h0
  have hv:KP many:=⟨h0,h1⟩
  unfold Au
  refine Bh rfl ?_
  repeat sizeOf_list_dec
  refine⟨λ hc=>?_,λ hc=>?_⟩
  . repeat sizeOf_list_dec
    refine EI hm ?_
    repeat sizeOf_list_dec
    refine JA hv ?_
    repeat sizeOf_list_dec
    exact⟨_,_,_,(FK many h0).1,(FK many h0).2,rfl,rfl,cs,nx,lf / many,n0,by omega,rfl,rfl⟩
  . repeat sizeOf_list_dec
    refine WP.mono (Q:=λ d x=>x=[.lst (cs.map λ i=>.im (.int i)),.lst [.mu 0,.im (.int (nx + 1)),.im (.int lf)]]/\∃ cell,d=.im (.int cell)) (OB ?_) ?_
    . repeat sizeOf_list_dec
      refine⟨cs,by simp[pyD,GQ,GD],_,rfl,λ hb=>?_,λ hb=>?_⟩
      . repeat sizeOf_list_dec
        refine Db rfl rfl ?_
        have hc:cs ≠ []:=by simpa using hb
        have hl:=Fm hc
        obtain⟨c,e⟩:=X8 hc nx
        refine EI (show Ee _ by unfold Ee;simp;omega) ?_
        refine Ac rfl (by simpa using e) ?_
        exact⟨rfl,c,rfl⟩
      . repeat sizeOf_list_dec
        exact⟨rfl,_,rfl⟩
    . rintro d x ⟨rfl,cell,rfl⟩
      have fin:∀ ls,ls=[some (.mu 1),some (.im (.int many)),none,some (.im (.int nx)),some (.im (.int cell)),none]->WS (AA (AL 5 (mOp Dl (mOp C2 (mOp B2 (mOp B2 (mOp B2 (mOp Dl (A0 4) (mC (.int 1000003))) (mOp C2 (mOp C2 (mC (.int 37)) (A0 3)) (A0 3))) (mOp C2 (mC (.int 13)) (A0 3))) (mC (.int 5))) (mC (.int 48271))) (mC (.int 999983))))
          (AT (mOp Dl (mOp HN (mOp Dl (mOp C2 (mOp Dl (mOp B2 (mOp B2 (mOp C2 (A0 5) (A0 5)) (mOp C2 (mC (.int 7919)) (A0 3))) (mC (.int 11))) (mC (.int 2097143))) (mC (.int 69621))) (mC (.int 2147483629))) (mC (.int 7))) (A0 1)))) ls [.lst (cs.map λ i=>.im (.int i)),.lst [.mu 0,.im (.int (nx + 1)),.im (.int lf)]]
          (λ f x=>match f with
            | .rt d=>∃ r a' b',0 <= r/\r < many/\d=.im (.int r)/\x=[a',b']/\T k a' b'
            | .nx _=>∃ r a' b',0 <= r/\r < many/\D.im .non=.im (.int r)/\x=[a',b']/\T k a' b'
            | _=>False):=by
        rintro ls rfl
        repeat sizeOf_list_dec
        refine EI (by unfold Ee;decide) ?_
        repeat sizeOf_list_dec
        refine Em (Dt (by decide) (by decide)) ?_
        repeat sizeOf_list_dec
        refine Em (HJ (by omega) (by omega)) ?_
        repeat sizeOf_list_dec
        refine Em (Dt (by decide) (by decide)) ?_
        repeat sizeOf_list_dec
        refine Em (HJ (by decide) (by decide)) ?_
        repeat sizeOf_list_dec
        refine EI (by unfold Ee;decide) ?_
        repeat sizeOf_list_dec
        generalize hx:(((cell % 1000003 + 37 * nx * nx + 13 * nx + 5) * 48271) % 999983:Int)=x
        have b1:=FK (x:=(cell % 1000003 + 37 * nx * nx + 13 * nx + 5) * 48271) 999983 (by decide)
        rw[hx]at b1
        refine Em (HJ (by omega) (by omega)) ?_
        repeat sizeOf_list_dec
        refine Em (Dt (by decide) (by decide)) ?_
        repeat sizeOf_list_dec
        refine EI (by unfold Ee;decide) ?_
        repeat sizeOf_list_dec
        refine Em (HJ (by decide) (by decide)) ?_
        repeat sizeOf_list_dec
        refine EI (by unfold Ee;decide) ?_
        repeat sizeOf_list_dec
        refine JA (by unfold KP;decide) ?_
        repeat sizeOf_list_dec
        refine EI hm ?_
        exact⟨_,_,_,(FK many h0).1,(FK many h0).2,rfl,rfl,cs,nx + 1,lf,by omega,by omega,rfl,rfl⟩
      repeat sizeOf_list_dec
      refine Pf ?_
      repeat sizeOf_list_dec
      split
      . repeat sizeOf_list_dec
        refine Db rfl rfl ?_
        repeat sizeOf_list_dec
        refine⟨λ hb=>?_,λ hb=>?_⟩
        . repeat sizeOf_list_dec
          refine JA hv ?_
          repeat sizeOf_list_dec
          refine EI hm ?_
          exact⟨_,_,_,(FK many h0).1,(FK many h0).2,rfl,rfl,cs,nx + 1,cell / many,by omega,by omega,rfl,rfl⟩
        . refine Bg (AK ?_)
          exact fin _ rfl
      . refine⟨λ hb=>by simp at hb,λ hb=>Bg (AK (fin _ rfl))⟩
theorem tap:Tap T Au where
  cl:=by
    rintro k a b ⟨cs,nx,lf,_,_,rfl,rfl⟩
    simp[clO,Jv]
  le:=by
    rintro j k a b ⟨cs,nx,lf,h1,h2,e1,e2⟩ h
    exact⟨cs,nx,lf,h1,by omega,e1,e2⟩
  pick:=by
    rintro k a b many ⟨cs,nx,lf,n0,n1,rfl,rfl⟩ h0 h1
    obtain⟨d,x,e,r,a',b',p1,p2,rfl,rfl,hT⟩:=Vk k cs nx lf many n0 (by push_cast at n1;omega) h0 h1
    exact⟨r,a',b',p1,p2,e,hT⟩
theorem Vw(ns:List Int):WF Gy [.ro ns] [] λ d x=>d=.mu 1/\∃ a b,T 100000 a b/\x=[a,b]:=by
  obtain⟨cs,e⟩:=Ri ns none (some 63)
  exact⟨.mu 1,_,by simp[Gy,mkF,e],rfl,_,_,⟨cs,0,0,by decide,by decide,rfl,rfl⟩,rfl⟩
noncomputable def M5(bot:Int):List (Int × Int)->Prop
  | []=>True
  | (_,h) :: r=>bot <= h/\M5 h r
noncomputable def Asc:List (Int × Int)->Prop
  | []=>True
  | (b,_) :: r=>(∀ q ∈ r,b < q.1)/\Asc r
theorem Jf(t:Int):∀ {rows:List (Int × Int)} {bot:Int},M5 bot rows->Asc rows->Co (bot :: ((rows.filter λ q=>decide (q.1 <= t)).map (·.2)))=BS t rows bot
  | [],bot,_,_=>by simp[BS,Co]
  | (b,h) :: r,bot,H,A=>by
    rw[BS]
    by_cases hb:t < b
    . rw[if_pos hb]
      have:((b,h) :: r).filter (λ q=>decide (q.1 <= t))=[]:=by
        refine List.filter_eq_nil_iff.mpr λ q hq=>?_
        rcases List.mem_cons.mp hq with rfl|hq
        . simp;omega
        . have:=A.1 q hq;simp;omega
      rw[this];rfl
    . rw[if_neg hb,List.filter_cons,if_pos (by simp;omega),List.map_cons]
      have ih:=Jf t H.2 A.2
      rw[<- ih]
      show Co (bot :: h :: (r.filter λ q=>decide (q.1 <= t)).map (·.2))=_
      have h1:=Bu (xs:=bot :: h :: (r.filter λ q=>decide (q.1 <= t)).map (·.2)) (by simp)
      have h2:=Bu (xs:=h :: (r.filter λ q=>decide (q.1 <= t)).map (·.2)) (by simp)
      have hbot:=H.1
      have a1:=h1.2 _ (List.mem_cons_of_mem _ h2.1)
      rcases List.mem_cons.mp h1.1 with e|e
      . have:=h2.2 h (by simp);omega
      . have:=h2.2 _ e;omega
noncomputable def Fw:Cost->Prop
  | .tardy _ w=>0 <= w/\w <= 1000000
  | .miss _ w=>0 <= w/\w <= 1000000
  | .ends w=>0 <= w/\w <= 1000000
  | .steps rows=>rows.length <= 5/\M5 0 rows/\Asc rows
  | _=>True
noncomputable def Iz(m:Int):Cost->Prop
  | .late d=>-m <= d/\d <= m
  | .tardy d w=>(-m <= d/\d <= m)/\0 <= w/\w <= 9
  | .miss d w=>(-m <= d/\d <= m)/\0 <= w/\w <= 9
  | .ends w=>0 <= w/\w <= 9
  | .steps rows=>∀ q ∈ rows,(-m <= q.1/\q.1 <= m)/\0 <= q.2/\q.2 <= 99
theorem at3{r:Int}(h0:0 <= r)(h1:r < 3)(x y z:D):∃ d,(d=x ∨ d=y ∨ d=z)/\atI [x,y,z] r=some d:=by
  have:r=0 ∨ r=1 ∨ r=2:=by omega
  rcases this with rfl|rfl|rfl
  . exact⟨x,.inl rfl,DO (j:=0) rfl⟩
  . exact⟨y,.inr (.inl rfl),DO (j:=1) rfl⟩
  . exact⟨z,.inr (.inr rfl),DO (j:=2) rfl⟩
theorem at2{r:Int}(h0:0 <= r)(h1:r < 2)(x y:D):∃ d,(d=x ∨ d=y)/\atI [x,y] r=some d:=by
  have:r=0 ∨ r=1:=by omega
  rcases this with rfl|rfl
  . exact⟨x,.inl rfl,DO (j:=0) rfl⟩
  . exact⟨y,.inr rfl,DO (j:=1) rfl⟩
noncomputable abbrev W1:MO:=.lst [.im (.str "late")]
noncomputable def okL(i:I):Prop:=∃ due:Int,i=.tup [.str "late",.int due]/\-1000 <= due/\due <= 1000
theorem W9(k:Nat)(a b:MO)(hT:T (k + 30) a b):WF Gz [.mu 1,.mu 2] [a,b,W1] λ d x=>∃ i a' b' g,d=.im i/\okL i/\T k a' b'/\x=a' :: b' :: ([W1] ++ g):=by
  unfold Gz
  refine Bh rfl ?_
  repeat sizeOf_list_dec
  refine tap.draw hT rfl (by first|decide|omega) (by first|decide|omega) λ r1 a b hT pr1 qr1=>?_
  have e1:r1=0:=by simp at qr1;omega
  subst e1
  refine Ac rfl (Ea _ _) ?_
  repeat sizeOf_list_dec
  refine tap.draw hT rfl (by first|decide|omega) (by first|decide|omega) λ r2 a b hT pr2 qr2=>?_
  repeat sizeOf_list_dec
  refine tap.draw hT rfl (by first|decide|omega) (by first|decide|omega) λ r3 a b hT pr3 qr3=>?_
  repeat sizeOf_list_dec
  refine tap.draw hT rfl (by first|decide|omega) (by first|decide|omega) λ r4 a b hT pr4 qr4=>?_
  repeat sizeOf_list_dec
  refine tap.draw hT rfl (by first|decide|omega) (by first|decide|omega) λ r5 a b hT pr5 qr5=>?_
  obtain⟨d,hd,ed⟩:=at3 pr5 qr5 (.im (.int r2)) (.im (.int r3)) (.im (.int (r4 - 99)))
  refine Ac rfl ed ?_
  obtain⟨due,rfl,hdue'⟩:∃ due,d=.im (.int due)/\(-1000 <= due/\due <= 1000):=by
    rcases hd with rfl|rfl|rfl
    . exact⟨_,rfl,by omega,by omega⟩
    . exact⟨_,rfl,by omega,by omega⟩
    . exact⟨_,rfl,by omega,by omega⟩
  repeat sizeOf_list_dec
  refine tap.draw hT rfl (by first|decide|omega) (by first|decide|omega) λ r6 a b hT pr6 qr6=>?_
  repeat sizeOf_list_dec
  refine⟨λ _=>?_,λ h=>absurd rfl (of_decide_eq_false h)⟩
  repeat sizeOf_list_dec
  exact⟨_,a,b,_,JR _ _,⟨due,rfl,hdue'.1,hdue'.2⟩,tap.le hT (by omega),rfl⟩
structure Wg where
  len:Int
  com:Int
  co:I
noncomputable def wgI(w:Wg):I:=.tup [.int w.len,.int w.com,w.co]
noncomputable def Wg.ok(w:Wg):Prop:=(1 <= w.len/\w.len <= 20)/\(0 <= w.com/\w.com <= 60)/\okL w.co
noncomputable def Vj(ws:List Wg):Prop:=1 <= ws.length/\ws.length <= 8/\∀ w ∈ ws,w.ok
noncomputable abbrev Ag(ws:List Wg):I:=.tup (ws.map wgI)
noncomputable abbrev V4:MO:=.lst [.im (.int 0)]
theorem Cl(ws:List Wg):(ws.map λ w=>D.im (wgI w))=(ws.map wgI).map D.im:=by rw[List.map_map];rfl
theorem JY(n:Nat)(ds:List D):clO n (.lst ds)=BN n ds:=rfl
theorem Lw{α:Type}(n:Nat)(f:α->I)(l:List α):BN n (l.map λ x=>D.im (f x))=true:=by induction l <;> simp_all
theorem SS(k:Nat)(a b:MO)(hT:T (k + 300) a b):WF G0 [.mu 1,.im (.int 8),.mu 2,.mu 3] [a,b,W1,V4] λ d x=>∃ i a' b' g,d=.im i/\(∃ ws c,i=Ag ws/\Vj ws/\∀ w ∈ ws,w.com=c)/\T k a' b'/\x=a' :: b' :: ([W1,V4] ++ g):=by
  unfold G0
  refine Bh rfl ?_
  repeat sizeOf_list_dec
  refine tap.draw hT rfl (by first|decide|omega) (by first|decide|omega) λ r1 a b hT pr1 qr1=>?_
  repeat sizeOf_list_dec
  refine tap.draw hT rfl (by first|decide|omega) (by first|decide|omega) λ r2 a b hT pr2 qr2=>?_
  repeat sizeOf_list_dec
  obtain⟨d,hd,ed⟩:=at2 pr2 qr2 (.im (.int 3)) (.im (.int 20))
  refine⟨_,_,rfl,ed,?_⟩
  obtain⟨lo,rfl,hlo⟩:∃ lo,d=.im (.int lo)/\3 <= lo/\lo <= 20:=by
    rcases hd with rfl|rfl
    . exact⟨_,rfl,by omega,by omega⟩
    . exact⟨_,rfl,by omega,by omega⟩
  repeat sizeOf_list_dec
  refine tap.draw hT rfl (by first|decide|omega) (by first|decide|omega) λ r3 a b hT pr3 qr3=>?_
  have e3:r3=0:=by simp at qr3;omega
  subst e3
  refine Ac rfl (Ea _ _) ?_
  repeat sizeOf_list_dec
  refine tap.draw hT rfl (by first|decide|omega) (by first|decide|omega) λ r4 a b hT pr4 qr4=>?_
  repeat sizeOf_list_dec
  refine⟨FY (by omega) (by omega),?_⟩
  refine EK (λ r ls hd=>∃ (ws:List Wg) (a b:MO) (z y:Option D),ls=[some (.mu 1),some (.im (.int 8)),some (.mu 2),some (.mu 3),some (.im (.int (1 + r1))),some (.im (.int lo)),some (.im (.int 0)),some (.im (.int r4)),some (.mu 4),z,y]/\hd=[a,b,W1,V4,.lst (ws.map λ w=>.im (wgI w))]/\T (k + 34 * r.length) a b/\(∀ w ∈ ws,w.ok/\w.com=r4)/\ws.length + r.length=(1 + r1).toNat) ?_ ?_ ?_
  . exact⟨[],a,b,none,none,rfl,rfl,tap.le hT (by simp;omega),(by simp),by simp⟩
  . rintro d r ls hd ⟨ws,a,b,z,y,rfl,rfl,hT,ho,hl⟩
    simp only[List.length_cons]at hT hl
    have hT:T (k + 34 * r.length + 34) a b:=hT
    refine⟨_,rfl,?_⟩
    dsimp only[List.set_cons_zero,List.set_cons_succ]
    refine KW ?_
    repeat sizeOf_list_dec
    refine tap.draw hT rfl (by first|decide|omega) (by first|decide|omega) λ r5 a b hT pr5 qr5=>?_
    repeat sizeOf_list_dec
    refine tap.draw hT rfl (by first|decide|omega) (by first|decide|omega) λ r6 a b hT pr6 qr6=>?_
    repeat sizeOf_list_dec
    refine tap.draw hT rfl (by first|decide|omega) (by first|decide|omega) λ r7 a b hT pr7 qr7=>?_
    repeat sizeOf_list_dec
    refine tap.draw hT rfl (by first|decide|omega) (by first|decide|omega) λ r8 a b hT pr8 qr8=>?_
    repeat sizeOf_list_dec
    refine tap.callX (n:=k + 34 * r.length) (c:=30) hT [W1] (R:=okL) rfl rfl rfl rfl (W9 _) λ i a b hT hi=>?_
    repeat sizeOf_list_dec
    refine IB rfl (CM (by simp;omega)) ?_
    have ca:=Dn (w:=5) (by omega) (tap.cl hT).1
    have cb:=Dn (w:=5) (by omega) (tap.cl hT).2
    refine⟨?_,_,rfl,Ad _,ws ++ [⟨1 + r8,r4,i⟩],a,b,_,_,rfl,?_,hT,?_,?_⟩
    . simp[JY,ca,cb,Lw]
    . simp[wgI]
    . intro w hw
      rcases List.mem_append.mp hw with h|h
      . exact ho w h
      . simp at h;subst h;exact⟨⟨⟨by show 1 <= 1 + r8;omega,by show 1 + r8 <= 20;omega⟩,⟨by show 0 <= r4;omega,by show r4 <= 60;omega⟩,hi⟩,rfl⟩
    . simp;omega
  . rintro ls hd ⟨ws,a,b,z,y,rfl,rfl,hT,ho,hl⟩
    repeat sizeOf_list_dec
    refine Db rfl rfl ?_
    simp at hl
    refine⟨_,a,b,_,by rw[Cl,Dj],⟨ws,r4,rfl,⟨by omega,by omega,λ w hw=>(ho w hw).1⟩,λ w hw=>(ho w hw).2⟩,tap.le hT (by simp),rfl⟩
end T32
namespace Hds
open PySem L2 Bd
structure IsHead(S:Nat->Prop)(c l:Nat->Int)(W:List (Nat × Nat))(h:Nat->Int):Prop where
  lo:∀ k,S k->c k <= h k
  up:∀ p ∈ W,S p.2->h p.1 + l p.1 <= h p.2
  eq:∀ k,S k->h k=c k ∨ ∃ p ∈ W,p.2=k/\h k=h p.1 + l p.1
structure Rk(S:Nat->Prop)(W:List (Nat × Nat))(rk:Nat->Nat):Prop where
  ins:∀ p ∈ W,S p.1/\S p.2
  lt:∀ p ∈ W,rk p.1 < rk p.2
end Hds
namespace T32
open PySem L2 Bd Hds
local macro_rules | `(tactic| sizeOf_list_dec) => `(tactic| first | (with_reducible refine AK ?_; try dsimp only [List.set_cons_zero, List.set_cons_succ, List.map_cons, List.map_nil, List.cons_append, List.nil_append, List.replicate, Nat.reduceSub, Int.reduceToNat]) | with_reducible refine He ?_ | with_reducible refine AX ?_ | with_reducible refine An ?_ | with_reducible refine Be ?_ | with_reducible refine Eg ?_ | with_reducible refine Bg ?_ | with_reducible refine Ch ?_ | with_reducible refine KY ?_ | with_reducible refine HA ?_ | with_reducible refine GV ?_ | with_reducible refine A5 (d := _) rfl ?_ | with_reducible refine B5 ?_ | with_reducible refine AY ?_ | with_reducible refine GX ?_ | with_reducible refine C9 ?_ | with_reducible refine DT ?_ | with_reducible refine Ke ?_ | with_reducible refine Cq ?_ | with_reducible refine G5 ?_ | with_reducible refine E7 ?_ | with_reducible refine JC ?_ | with_reducible refine BF ?_ | with_reducible refine KR ?_ | with_reducible refine KS ?_ | with_reducible refine K7 ?_ | with_reducible refine Du ?_ | with_reducible refine AN ?_ | with_reducible refine A9 ?_ | with_reducible refine EL ?_ | with_reducible refine C7 ?_ | with_reducible refine JB ?_ | with_reducible refine N9 ?_ | with_reducible refine FR ?_ | with_reducible refine Pk ?_ | with_reducible refine Kb ?_ | with_reducible refine Dv ?_ | with_reducible refine I0 ?_ | with_reducible refine K8 ?_ | with_reducible refine K9 ?_ | with_reducible refine KA ?_ | with_reducible refine N8 ?_ | with_reducible refine GW ?_ | with_reducible refine IA ?_ | with_reducible refine EJ ?_ | with_reducible refine Ka ?_ | with_reducible refine HB ?_ | with_reducible refine J9 ?_ | with_reducible refine ⟨_, rfl, ?_⟩ | refine Ac rfl (Ea _ _) ?_ | refine Ac rfl (Gw _ _ _) ?_ | refine Ac rfl (Hz _ _ _ _) ?_ | refine ⟨_, _, _, _, rfl, rfl, rfl, rfl, ?_⟩ | refine ⟨⟨_, rfl⟩, ?_⟩ | refine ⟨Iq, ?_⟩ | refine ⟨Lj, ?_⟩ | refine ⟨Li, ?_⟩ | refine ⟨Lh, ?_⟩ | refine ⟨Fs, ?_⟩ | refine ⟨Gj, ?_⟩ | with_reducible refine Eo ?_)
noncomputable def BQ(p:Nat × Nat):I:=.tup [.int p.1,.int p.2]
theorem EV(ns:List Int):BR (intD ns)=some ns:=by
  induction ns with
  | nil=>rfl
  | cons n r ih=>simp[intD]at ih ⊢
theorem UH{ma mb:ME}{ls:Ls}{hd:Hd}{QA:List D->Hd->Prop}(h:WE ma ls hd λ d x=>WE mb ls x λ e y=>∃ i j xs ys,d=.mu i/\e=.mu j/\y[i]? = some (.lst xs)/\y[j]? = some (.lst ys)/\Bs (xs.length + ys.length)/\QA (xs ++ ys) y):WA (LZ ma mb) ls hd QA:=by
  obtain⟨d,x,e1,e,y,e2,i,j,xs,ys,rfl,rfl,e3,e4,c,q⟩:=h
  exact⟨_,_,by simp only[LZ,e1,Option.bind_some,e2,e3,e4,c,if_true],q⟩
noncomputable def CJ(ws:List Wg)(k:Nat):Int:=((ws[k]?).map Wg.com).getD 0
noncomputable def AI(ws:List Wg)(k:Nat):Int:=((ws[k]?).map Wg.len).getD 0
theorem EC{ws:List Wg}{k:Nat}(hk:k < ws.length):atI (ws.map λ w=>D.im (wgI w)) (k:Int)=some (.im (wgI ws[k])):=Gv rfl (by simp[hk])
noncomputable abbrev prD(W:List (Nat × Nat)):List D:=W.map λ p=>D.im (BQ p)
theorem hg1(H0:Hd)(x y:MO)(r:Hd):(H0 ++ x :: y :: r)[H0.length + 1]? = some y:=by
  rw[List.getElem?_append_right (by omega)];simp
theorem hg2(H0:Hd)(x y z:MO)(r:Hd):(H0 ++ x :: y :: z :: r)[H0.length + 2]? = some z:=by
  rw[List.getElem?_append_right (by omega)];simp
noncomputable abbrev Ct(W:List (Nat × Nat))(some_:List Nat):List (Nat × Nat):=W.filter λ p=>decide (p.1 ∈ some_) && decide (p.2 ∈ some_)
theorem OA(W:List (Nat × Nat))(some_:List Nat):(W.filterMap λ p=>if p.1 ∈ some_/\p.2 ∈ some_ then some (D.im (BQ p))else none)=prD (Ct W some_):=by
  induction W with
  | nil=>rfl
  | cons p r ih=>
    rw[List.filterMap_cons]
    by_cases h1:p.1 ∈ some_ <;> by_cases h2:p.2 ∈ some_ <;> simp[h1,h2,Ct,prD]at ih ⊢ <;> exact ih
structure Up(some_:List Nat)(W:List (Nat × Nat))(rk:Nat->Nat)(b l h:Nat->Int)(t:Nat)(rest:List (Nat × Nat))(v:Nat->Int):Prop where
  lo:∀ k ∈ some_,b k <= v k
  hi:∀ k ∈ some_,v k <= h k
  old:∀ k ∈ some_,rk k < t->v k=h k
  new:∀ k ∈ some_,rk k=t->v k=h k ∨ ∃ p ∈ rest,p.2=k/\h k=h p.1 + l p.1
theorem Up.begin{some_:List Nat}{W:List (Nat × Nat)}{rk:Nat->Nat}{b l h v:Nat->Int}{t:Nat}(H:IsHead (λ k=>k ∈ some_) b l W h)(lo:∀ k ∈ some_,b k <= v k)(hi:∀ k ∈ some_,v k <= h k)(old:∀ k ∈ some_,rk k < t->v k=h k):Up some_ W rk b l h t W v:=
  ⟨lo,hi,old,λ k hk e=>by
    rcases H.eq k hk with e|⟨p,hp,e1,e2⟩
    . have:=lo k hk;have:=hi k hk;exact .inl (by omega)
    . exact .inr ⟨p,hp,e1,e2⟩⟩
theorem Up.step{some_:List Nat}{W:List (Nat × Nat)}{rk:Nat->Nat}{b l h v:Nat->Int}{t:Nat}{q:Nat × Nat}{r:List (Nat × Nat)}(R:Rk (λ k=>k ∈ some_) W rk)(H:IsHead (λ k=>k ∈ some_) b l W h)(hq:q ∈ W)(U:Up some_ W rk b l h t (q :: r) v) :
    Up some_ W rk b l h t r (λ k=>if k=q.2 then max (v q.2) (v q.1 + l q.1)else v k):=by
  have hq1:=(R.ins q hq).1
  have hq2:=(R.ins q hq).2
  have u1:=H.up q hq hq2
  have u2:=U.hi q.1 hq1
  have u3:=U.hi q.2 hq2
  refine⟨λ k hk=>?_,λ k hk=>?_,λ k hk hr=>?_,λ k hk hr=>?_⟩
  . by_cases e:k=q.2
    . subst e;simp only[if_true];have:=U.lo q.2 hk;omega
    . simp only[e,if_false];exact U.lo k hk
  . by_cases e:k=q.2
    . subst e;simp only[if_true];omega
    . simp only[e,if_false];exact U.hi k hk
  . by_cases e:k=q.2
    . subst e;simp only[if_true];have:=U.old q.2 hk hr;omega
    . simp only[e,if_false];exact U.old k hk hr
  . by_cases e:k=q.2
    . subst e
      simp only[if_true]
      rcases U.new q.2 hk hr with e1|⟨p,hp,e1,e2⟩
      . exact .inl (by omega)
      . rcases List.mem_cons.mp hp with rfl|hp
        . have lt:=R.lt p hq
          have:=U.old p.1 hq1 (by omega)
          exact .inl (by omega)
        . exact .inr ⟨p,hp,e1,e2⟩
    . simp only[e,if_false]
      rcases U.new k hk hr with e1|⟨p,hp,e1,e2⟩
      . exact .inl e1
      . rcases List.mem_cons.mp hp with rfl|hp
        . exact absurd e1.symm e
        . exact .inr ⟨p,hp,e1,e2⟩
noncomputable abbrev onS(some_:List Nat)(v:Nat->Int):Nat->Option Int:=λ k=>if k ∈ some_ then some (v k)else none
theorem Qa{ws:List Wg}{W:List (Nat × Nat)}{some_:List Nat}{t:Int}{rk:Nat->Nat}{h:Nat->Int}(hn:ws.length <= 8)(hW:W.length <= 16)(hs:∀ k ∈ some_,k < ws.length)(hl:some_.length <= 8)
    (R:Rk (λ k=>k ∈ some_) (Ct W some_) rk) (hrk:∀ k ∈ some_,rk k < some_.length) (H:IsHead (λ k=>k ∈ some_) (λ k=>max (CJ ws k) t) (AI ws) (Ct W some_) h) :
    WF FH [.im (Ag ws),.im (.tup (W.map BQ)),.im (Ap some_),.im (.int t)] [] λ d x=>d=.im (.tup (some_.map λ k=>.int (h k))):=by
  unfold FH
  refine Bh rfl ?_
  repeat sizeOf_list_dec
  refine SV (Pi ?_)
  repeat sizeOf_list_dec
  have nat_im:(Ap some_)=.tup (some_.map λ k:Nat=>I.int (k:Int)):=rfl
  have tn:(some_.map λ k:Nat=>I.int (k:Int)).map D.im=AM some_:=by simp[AM]
  rw[tn]
  refine Kd (λ r acc ls hd=>∃ (done rest:List Nat) (z:Option D),some_=done ++ rest/\r=AM rest/\ls=[z,some (.im (Ag ws)),some (.im (.int t))]/\hd=[]/\acc.length <= done.length/\DicI acc (onS done λ k=>max (CJ ws k) t)) ?_ ?_ ?_
  . exact⟨[],some_,none,rfl,rfl,rfl,rfl,by simp,λ k=>by simp[BV]⟩
  . rintro d r acc ls hd ⟨dn,rest,z,es,er,rfl,rfl,la,hd⟩
    cases rest with
    | nil=>cases er
    | cons k rest=>
      obtain⟨rfl,rfl⟩:=List.cons.inj er
      have hk:k < ws.length:=hs k (by rw[es];simp)
      refine⟨_,rfl,?_⟩
      repeat sizeOf_list_dec
      rw[if_pos rfl]
      refine UC ?_
      repeat sizeOf_list_dec
      refine Ac rfl (by rw[<- Cl];exact EC hk) ?_
      repeat sizeOf_list_dec
      refine⟨CM (by have:=congrArg List.length es;simp at this;omega),Ad _,dn ++ [k],rest,_,by rw[es];simp,rfl,rfl,rfl,by have:=LF acc (.inl (k:Int)) (.im (.int (max ws[k].com t)));simp;omega,?_⟩
      have e:ws[k].com=CJ ws k:=by simp[CJ,hk]
      rw[e]
      intro j
      rw[hd.put k _ j]
      by_cases ej:j=k
      . subst ej;simp
      . simp[ej]
  rintro acc ls hd ⟨dn,rest,z,es,er,rfl,rfl,la,hdic⟩
  have:rest=[]:=by cases rest with
    | nil=>rfl
    | cons _ _=>cases er
  subst this
  simp only[List.append_nil]at es
  subst es
  repeat sizeOf_list_dec
  refine⟨Ah (by simp;omega),?_⟩
  have tw:(W.map BQ).map D.im=W.map λ p=>D.im (BQ p):=by rw[List.map_map];rfl
  rw[tw]
  refine Ci (λ p:Nat × Nat=>D.im (BQ p)) (λ p=>if p.1 ∈ some_/\p.2 ∈ some_ then some (.im (BQ p))else none) (λ _ ls=>∃ x y,ls=[some x,some y,some (.mu 0)]) _ (Ad _) ?_ ?_
  . rintro p hp ls hls
    refine⟨[some (.im (.int (p.1:Int))),some (.im (.int (p.2:Int))),some (.mu 0)],by rcases hls with rfl|⟨_,x,y,rfl⟩ <;> rfl,⟨_,_,rfl⟩,?_⟩
    repeat sizeOf_list_dec
    refine MP (kvs:=acc) rfl hdic ?_
    repeat sizeOf_list_dec
    by_cases h1:p.1 ∈ some_
    . rw[if_pos (by simp[h1])]
      repeat sizeOf_list_dec
      refine MP (kvs:=acc) rfl hdic ?_
      repeat sizeOf_list_dec
      refine⟨rfl,?_⟩
      by_cases h2:p.2 ∈ some_
      . rw[if_pos (by simp[h2])]
        refine⟨_,if_pos ⟨h1,h2⟩,?_⟩
        repeat sizeOf_list_dec
        exact⟨rfl,JR _ _⟩
      . rw[if_neg (by simp[h2])]
        exact if_neg λ z=>h2 z.2
    . rw[if_neg (by simp[h1])]
      refine⟨rfl,?_⟩
      rw[if_neg Bool.false_ne_true]
      exact if_neg λ z=>h1 z.1
  rw[OA]
  have wl:(Ct W some_).length <= 16:=Nat.le_trans (List.length_filter_le _ _) hW
  repeat sizeOf_list_dec
  rw[tn]
  refine EK (λ r ls hd=>∃ (n:Nat) (kvs:List (Key × D)) (v:Nat->Int) (z6 z7 z8:Option D),ls=[some (.im (Ag ws)),some (.im (.tup (W.map BQ))),some (.im (Ap some_)),some (.im (.int t)),some (.mu 0),some (.mu 1),z6,z7,z8]/\hd=[.dic kvs,.lst (prD (Ct W some_))]/\n + r.length=some_.length/\kvs.length <= 8 + 16 * n/\DicI kvs (onS some_ v)/\(∀ k ∈ some_,max (CJ ws k) t <= v k)/\(∀ k ∈ some_,v k <= h k)/\∀ k ∈ some_,rk k < n->v k=h k) ?_ ?_ ?_
  . exact⟨0,acc,λ k=>max (CJ ws k) t,none,none,none,rfl,rfl,by simp,by omega,hdic,λ k _=>Int.le_refl _,λ k hk=>H.lo k hk,λ k _ hr=>by omega⟩
  . rintro d r ls hd ⟨n,kvs,v,z6,z7,z8,rfl,rfl,hl2,lk,hdic,lo,hi,old⟩
    simp only[List.length_cons]at hl2
    refine⟨_,rfl,?_⟩
    dsimp only[List.set_cons_zero,List.set_cons_succ]
    repeat sizeOf_list_dec
    refine⟨_,_,rfl,rfl,?_⟩
    refine EK (λ r ls hd=>∃ (rest:List (Nat × Nat)) (kvs:List (Key × D)) (v:Nat->Int) (z6 z7 z8:Option D),r=prD rest/\(∀ p ∈ rest,p ∈ Ct W some_)/\ls=[some (.im (Ag ws)),some (.im (.tup (W.map BQ))),some (.im (Ap some_)),some (.im (.int t)),some (.mu 0),some (.mu 1),z6,z7,z8]/\hd=[.dic kvs,.lst (prD (Ct W some_))]/\kvs.length + rest.length <= 8 + 16 * n + 16/\DicI kvs (onS some_ v)/\Up some_ (Ct W some_) rk (λ k=>max (CJ ws k) t) (AI ws) h n rest v) ?_ ?_ ?_
    . exact⟨Ct W some_,kvs,v,_,_,_,rfl,λ p hp=>hp,rfl,rfl,by omega,hdic,Up.begin H lo hi old⟩
    . rintro d r ls hd ⟨rest,kvs,v,z6,z7,z8,er,hsub,rfl,rfl,lk,hdic,U⟩
      cases rest with
      | nil=>cases er
      | cons q rest=>
        obtain⟨rfl,rfl⟩:=List.cons.inj er
        have hq:=hsub q List.mem_cons_self
        have hq1:=(R.ins q hq).1
        have hq2:=(R.ins q hq).2
        refine⟨_,rfl,?_⟩
        dsimp only[List.set_cons_zero,List.set_cons_succ]
        refine SQ (k:=.inl 0) (w:=0) ?_
        repeat sizeOf_list_dec
        refine Hc (kvs:=kvs) rfl hdic (if_pos hq2) ?_
        repeat sizeOf_list_dec
        refine Hc (kvs:=kvs) rfl hdic (if_pos hq1) ?_
        repeat sizeOf_list_dec
        refine Ac rfl (by rw[<- Cl];exact EC (hs _ hq1)) ?_
        repeat sizeOf_list_dec
        simp only[List.length_cons]at lk
        refine⟨_,_,_,rfl,rfl,rfl,CM (by omega),?_⟩
        have hq1n:q.1 < ws.length:=hs _ hq1
        have el:ws[q.1].len=AI ws q.1:=by simp[AI,hs _ hq1]
        rw[el]
        refine⟨by intro p hp;simp at hp;subst hp;rfl,rest,_,_,_,_,_,rfl,λ p hp=>hsub p (List.mem_cons_of_mem _ hp),rfl,rfl,by have:=LF kvs (.inl (q.2:Int)) (.im (.int (max (v q.2) (v q.1 + AI ws q.1))));omega,?_,Up.step R H hq U⟩
        intro j
        rw[hdic.put q.2 _ j]
        by_cases ej:j=q.2
        . subst ej;simp[hq2]
        . simp[ej]
    . rintro ls hd ⟨rest,kvs,v,z6,z7,z8,er,hsub,rfl,rfl,lk,hdic,U⟩
      have:rest=[]:=by cases rest with
        | nil=>rfl
        | cons _ _=>cases er
      subst this
      refine⟨Ad _,n + 1,kvs,v,_,_,_,rfl,rfl,by omega,by simp at lk;omega,hdic,U.lo,U.hi,λ k hk hr=>?_⟩
      by_cases e:rk k=n
      . rcases U.new k hk e with e|⟨p,hp,_⟩
        . exact e
        . cases hp
      . exact U.old k hk (by omega)
  . rintro ls hd ⟨n,kvs,v,z6,z7,z8,rfl,rfl,hl2,lk,hdic,lo,hi,old⟩
    simp only[List.length_nil,Nat.add_zero]at hl2
    subst hl2
    repeat sizeOf_list_dec
    rw[tn]
    refine⟨Ah (by simp;omega),?_⟩
    refine Ci (λ k:Nat=>D.im (.int (k:Int))) (λ k=>some (.im (.int (h k)))) (λ _ ls=>∃ x,ls=[some x,some (.mu 0)]) _ (Ad _) ?_ ?_
    . rintro k hk ls hls
      refine⟨[some (.im (.int (k:Int))),some (.mu 0)],by rcases hls with rfl|⟨_,x,rfl⟩ <;> rfl,⟨_,rfl⟩,?_⟩
      repeat sizeOf_list_dec
      refine⟨rfl,?_⟩
      rw[if_pos rfl]
      refine⟨_,rfl,?_⟩
      repeat sizeOf_list_dec
      exact Hc (kvs:=kvs) rfl hdic (if_pos hk) ⟨rfl,by rw[old k hk (hrk k hk)]⟩
    . refine⟨_,rfl,?_⟩
      have:(some_.filterMap λ k=>some (D.im (.int (h k))))=(some_.map λ k=>I.int (h k)).map D.im:=by simp
      rw[this]
      exact Dj _
theorem m1:¬ (("miss":Str)="ends"):=by decide +kernel
theorem s1:¬ (("steps":Str)="late"):=by decide +kernel
theorem s2:¬ (("steps":Str)="tardy"):=by decide +kernel
theorem s3:¬ (("steps":Str)="miss"):=by decide +kernel
theorem s4:¬ (("steps":Str)="ends"):=by decide +kernel
theorem e1:¬ (("ends":Str)="late"):=by decide +kernel
theorem e2:¬ (("ends":Str)="tardy"):=by decide +kernel
theorem e3:¬ (("ends":Str)="miss"):=by decide +kernel
theorem U3{c:Cost}(h:Fw c)(t:Int):WF DR [.im (BX c),.im (.int t)] [] λ d x=>d=.im (.int (c.at t)):=by
  cases c with
  | late d=>exact WP.eq (z:=.im (.int (t - d))) (h:=[]) (by simp[DR,mkF,BX]) rfl
  | tardy d w=>
    have b1:∀ j,Ec w j:=λ j=>Dt (by have:=h.1;omega) (by have:=h.2;omega)
    refine WP.eq (z:=.im (.int (w * if d < t then t - d else 0))) (h:=[]) (by simp[DR,mkF,BX,n8,b1,Dd]) ?_
    simp only[Cost.at]
    by_cases q:t - d <= 0
    . rw[if_neg (by omega),if_pos q,Int.mul_zero]
    . rw[if_pos (by omega),if_neg q]
  | miss d w=>
    have b1:∀ j,Ec w j:=λ j=>Dt (by have:=h.1;omega) (by have:=h.2;omega)
    refine WP.eq (z:=.im (.int (w * if d < t then 1 else 0))) (h:=[]) (by simp[DR,mkF,BX,n9,n10,b1,Nm]) ?_
    simp only[Cost.at]
    by_cases q:t - d <= 0
    . rw[if_neg (by omega),if_pos q,Int.mul_zero]
    . rw[if_pos (by omega),if_neg q,Int.mul_one]
  | ends w=>
    have b1:∀ j,Ec w j:=λ j=>Dt (by have:=h.1;omega) (by have:=h.2;omega)
    exact WP.eq (z:=.im (.int (w * t))) (h:=[]) (by simp[DR,mkF,BX,e1,e2,e3,b1]) rfl
  | steps rows=>
    obtain⟨hl,hr,ha⟩:=h
    unfold DR
    refine Bh rfl ?_
    refine AX (Ch (BF (AY (AY (A5 rfl (B5 (Ac rfl (Ea _ _) (B5 (EJ ⟨_,rfl,(λ q=>absurd (of_decide_eq_true q) s1),λ _=>Bg (AK ?_)⟩)))))))))
    refine AX (Ch (BF (AY (AY (A5 rfl (B5 (Ac rfl (Ea _ _) (B5 (EJ ⟨_,rfl,(λ q=>absurd (of_decide_eq_true q) s2),λ _=>Bg (AK ?_)⟩)))))))))
    refine AX (Ch (BF (AY (AY (A5 rfl (B5 (Ac rfl (Ea _ _) (B5 (EJ ⟨_,rfl,(λ q=>absurd (of_decide_eq_true q) s3),λ _=>Bg (AK ?_)⟩)))))))))
    refine AX (Ch (BF (AY (AY (A5 rfl (B5 (Ac rfl (Ea _ _) (B5 (EJ ⟨_,rfl,(λ q=>absurd (of_decide_eq_true q) s4),λ _=>Bg (AK ?_)⟩)))))))))
    refine Be (DT (UH (C9 (EL (A9 (B5 (AN ⟨Gj,?_⟩)))))))
    refine C9 (C7 (FR (AY (A5 rfl (B5 (Ac rfl (Gw _ _ _) ⟨_,rfl,?_⟩))))))
    rw[show(rows.map G9).map D.im=rows.map E2 by simp[G9,E2]]
    refine⟨Ah (by simp;omega),?_⟩
    refine Ci E2 (λ q=>if q.1 <= t then some (.im (.int q.2))else none) (λ _ ls=>∃ x y,ls=[some x,some y,some (.im (.int t))]) _ (Ad _) ?_ ?_
    . rintro q hq ls hls
      refine⟨[some (.im (.int q.1)),some (.im (.int q.2)),some (.im (.int t))],by rcases hls with rfl|⟨_,x,y,rfl⟩ <;> rfl,⟨_,_,rfl⟩,BF (AY (A5 rfl (A5 rfl (K9 ⟨_,rfl,rfl,?_⟩))))⟩
      by_cases hb:q.1 <= t
      . rw[if_pos (by simpa using hb)]
        exact⟨_,if_pos hb,A5 rfl ⟨rfl,rfl⟩⟩
      . rw[if_neg (by simpa using hb)]
        exact if_neg hb
    have ef:(rows.filterMap λ q=>if q.1 <= t then some (D.im (.int q.2))else none)=intD ((rows.filter λ q=>decide (q.1 <= t)).map (·.2)):=by
      clear hl hr ha
      induction rows with
      | nil=>rfl
      | cons q r ih=>
        rw[List.filterMap_cons,List.filter_cons]
        by_cases hb:q.1 <= t
        . simp[hb,ih,intD]
        . simp[hb,ih]
    rw[ef]
    have fl:=List.length_filter_le (λ q:Int × Int=>decide (q.1 <= t)) rows
    refine⟨0,1,_,_,rfl,rfl,rfl,rfl,Ah (by simp;omega),?_⟩
    refine⟨.im (.int (BS t rows 0)),?_,rfl⟩
    rw[<- Jf t hr ha]
    show FW (intD (0 :: (rows.filter λ q=>decide (q.1 <= t)).map (·.2)))=_
    unfold FW
    rw[EV]
    simp
theorem E9(ks:List Nat):B4 (AM ks)=.im (Ap ks):=by
  have:AM ks=(ks.map λ k:Nat=>I.int (k:Int)).map D.im:=by simp[AM]
  rw[this,Dj]
theorem SI(p:Nat->Prop)[DecidablePred p](L:List Nat):(L.filterMap λ a=>if p a then some (D.im (.int (a:Int)))else none)=AM (L.filter λ a=>decide (p a)):=by
  induction L with
  | nil=>rfl
  | cons x r ih=>
    rw[List.filterMap_cons,List.filter_cons]
    by_cases h:p x
    . simp[h,ih,AM]
    . simp[h,ih,AM]
noncomputable abbrev Di(ks:List Nat):D:=.im (Ap ks)
end T32
namespace Bd
open PySem L2
inductive Rc(ps:List (Int × Int)):Int->Int->Prop
  | one {x y:Int}:(x,y) ∈ ps->Rc ps x y
  | step {x y z:Int}:Rc ps x y->(y,z) ∈ ps->Rc ps x z
theorem Gc:∀ {l m:List Int},l.Nodup->(∀ x ∈ l,x ∈ m)->l.length <= m.length
  | [],m,_,_=>by simp
  | x :: r,m,nd,h=>by
    obtain⟨n1,n2⟩:=List.nodup_cons.mp nd
    have hx:=h x List.mem_cons_self
    have:=Gc (l:=r) (m:=m.erase x) n2 λ y hy=>(List.mem_erase_of_ne (λ e=>n1 (by rw[<- e];exact hy))).mpr (h y (List.mem_cons_of_mem _ hy))
    rw[List.length_erase_of_mem hx]at this
    have:=List.length_pos_of_mem hx
    simp only[List.length_cons]
    omega
structure Found(ps:List (Int × Int))(a:Int)(found fresh:List Int):Prop where
  nd:found.Nodup
  rc:∀ x ∈ found,Rc ps a x
  fr:∀ x ∈ fresh,x=a ∨ x ∈ found
  cl:∀ x,(x=a ∨ x ∈ found)->x ∈ fresh ∨ ∀ y,(x,y) ∈ ps->y ∈ found
theorem Rc.snd{ps:List (Int × Int)}{x y:Int}(h:Rc ps x y):y ∈ ps.map (·.2):=by
  cases h with
  | one h=>exact List.mem_map.mpr ⟨_,h,rfl⟩
  | step _ h=>exact List.mem_map.mpr ⟨_,h,rfl⟩
theorem Found.len{ps:List (Int × Int)}{a:Int}{found fresh:List Int}(h:Found ps a found fresh):found.length <= ps.length:=by
  have:=Gc h.nd λ x hx=>(h.rc x hx).snd
  simpa using this
theorem Found.iff{ps:List (Int × Int)}{a:Int}{found:List Int}(h:Found ps a found [])(x:Int):x ∈ found ↔ Rc ps a x:=by
  refine⟨h.rc x,λ r=>?_⟩
  induction r with
  | one e=>exact(h.cl a (.inl rfl)).elim (λ z=>by cases z) λ z=>z _ e
  | step _ e ih=>exact(h.cl _ (.inr ih)).elim (λ z=>by cases z) λ z=>z _ e
theorem RY(P:D)(hd:Hd)(g:Gd)(G:GOk hd g)(ps:List (Int × Int))(hp:ps.length <= 500)(a:Int)
    (hP:∀ (z1 z2 z3 z4 z5 z6:Option D) (r:Hd),FS (A0 0) [some P,z1,z2,z3,z4,z5,z6] (hd ++ r)=some ((ps.map E2,g),hd ++ r)):∀ (N:Nat) (found fresh:List Int) (z4 z5 z6:Option D),fresh.length + (ps.length - found.length) <= N->fresh.length <= 1 + found.length->Found ps a found fresh->∃ (k:Nat) (found':List Int) (y4 y5 y6:Option D),
    BB (FC (A0 3)) Lf k [some P,some (.im (.int a)),some (.mu hd.length),some (.mu (hd.length + 1)),z4,z5,z6] (hd ++ [.lst (intD found),.lst (intD fresh)]) =
      some (.nx [some P,some (.im (.int a)),some (.mu hd.length),some (.mu (hd.length + 1)),y4,y5,y6],hd ++ [.lst (intD found'),.lst []])/\Found ps a found' []:=by
  intro N
  induction N with
  | zero=>
    intro found fresh z4 z5 z6 hN _ F
    have:fresh=[]:=List.length_eq_zero_iff.mp (by omega)
    subst this
    refine⟨1,found,z4,z5,z6,?_,F⟩
    simp only[BB,Iu,CS,List.getElem?_cons_zero,List.getElem?_cons_succ,Option.bind_some,Dh,g1,List.map_nil,List.isEmpty_nil,Bool.not_true,Option.map_some,Bool.false_eq_true,if_false]
  | succ N ih=>
    intro found fresh z4 z5 z6 hN hfr F
    rcases List.eq_nil_or_concat fresh with rfl|⟨fr,x,rfl⟩
    . refine⟨1,found,z4,z5,z6,?_,F⟩
      simp only[BB,Iu,CS,List.getElem?_cons_zero,List.getElem?_cons_succ,Option.bind_some,Dh,g1,List.map_nil,List.isEmpty_nil,Bool.not_true,Option.map_some,Bool.false_eq_true,if_false]
    . rw[List.concat_eq_append]at *
      have fl:=F.len
      simp only[List.length_append,List.length_cons,List.length_nil]at hN hfr
      obtain⟨new,y5,y6,q,l,nd,frh,al⟩:=GZ P hd g G a x ps found fr z5 z6 (by omega) (by omega)
      have F2:Found ps a (found ++ new) (fr ++ new):=by
        have rx:∀ y ∈ new,Rc ps a y:=λ y hy=>by
          rcases F.fr x (by simp)with rfl|h
          . exact .one (frh y hy).2
          . exact .step (F.rc x h) (frh y hy).2
        refine⟨List.nodup_append.mpr ⟨F.nd,nd,λ u hu w hw e=>(frh w hw).1 (e ▸ hu)⟩,λ y hy=>?_,λ y hy=>?_,λ w hw=>?_⟩
        . rcases List.mem_append.mp hy with h|h
          . exact F.rc y h
          . exact rx y h
        . rcases List.mem_append.mp hy with h|h
          . rcases F.fr y (by simp[h])with h|h
            . exact .inl h
            . exact .inr (List.mem_append_left _ h)
          . exact .inr (List.mem_append_right _ h)
        . by_cases hn:w ∈ new
          . exact .inl (List.mem_append_right _ hn)
          . have hw':w=a ∨ w ∈ found:=by
              rcases hw with h|h
              . exact .inl h
              . rcases List.mem_append.mp h with h|h
                . exact .inr h
                . exact absurd h hn
            rcases F.cl w hw' with h|h
            . rcases List.mem_append.mp h with h|h
              . exact .inl (List.mem_append_left _ h)
              . have:w=x:=by simpa using h
                subst this
                exact .inr al
            . exact .inr λ y hy=>List.mem_append_left _ (h y hy)
      have fl2:=F2.len
      simp only[List.length_append]at fl2
      obtain⟨k,found',y4,w5,w6,e,F3⟩:=ih (found ++ new) (fr ++ new) (some (.im (.int x))) y5 y6 (by simp only[List.length_append];omega) (by simp only[List.length_append];omega) F2
      refine⟨k + 1,found',y4,w5,w6,?_,F3⟩
      have pop:Hu (.mu (hd.length + 1)) [] (hd ++ [.lst (intD found),.lst (intD (fr ++ [x]))])=some (.im (.int x),hd ++ [.lst (intD found),.lst (intD fr)]):=by
        simp only[Hu,g1,List.map_append,List.map_cons,List.map_nil,List.length_append,List.length_cons,List.length_nil,List.length_map]
        simp
      have ne:(intD (fr ++ [x])).isEmpty=false:=by simp
      unfold BB
      simp only[Iu,CS,List.getElem?_cons_zero,List.getElem?_cons_succ,Option.bind_some,Dh,g1,ne,Bool.not_false,Option.map_some,if_true,Lf,EW,FE,Nn,Nb,Gm,pop,Ej,List.set_cons_succ,List.set_cons_zero,Lm,hP,q,e]
theorem NN(P:D)(hd:Hd)(g:Gd)(G:GOk hd g)(ps:List (Int × Int))(hp:ps.length < 64)(a:Int)
    (hP:∀ (z1 z2 z3 z4 z5 z6:Option D) (r:Hd),FS (A0 0) [some P,z1,z2,z3,z4,z5,z6] (hd ++ r)=some ((ps.map E2,g),hd ++ r)):∃ (found:List Int) (r:Hd),F_reached [P,.im (.int a)] hd=some (.im (.tup ((Bq found).map I.int)),hd ++ r)/\found.Nodup/\(∀ x,x ∈ found ↔ Rc ps a x)/\found.length <= ps.length:=by
  obtain⟨k,found,y4,y5,y6,e,F⟩:=RY P hd g G ps (by omega) a hP (1 + ps.length) [] [a] none none none (by simp) (by simp) ⟨.nil,(λ x h=>by cases h),(λ x h=>Or.inl (by simpa using h)),(λ x h=>Or.inl (by simpa using h))⟩
  have e:=Jm e
  have fl:=F.len
  refine⟨found,[.lst (intD found),.lst []],?_,F.nd,F.iff,fl⟩
  have mk:B4 ((Bq found).map λ i=>D.im (.int i))=.im (.tup ((Bq found).map I.int)):=by
    have:((Bq found).map λ i=>D.im (.int i))=((Bq found).map I.int).map D.im:=by rw[List.map_map];rfl
    rw[this,Dj]
  simp only[List.map_nil,List.map_cons]at e
  have lt:found.length < 64:=by omega
  simp only[F_reached,mkF,m_reached,EW,FE,Lk,P6,JW,Gm,CS,List.map_cons,List.map_nil,List.length_cons,List.length_nil,List.cons_append,List.nil_append,List.replicate,Nat.reduceAdd,Nat.reduceSub,if_true,List.getElem?_cons_zero,List.getElem?_cons_succ,Option.bind_some,Fs,Gj,Ej,Option.map_some,List.set_cons_succ,List.set_cons_zero,List.length_append,List.append_assoc,e,Iv,Ll,P5,P7,g0,Jp,lt,BC,mk]
end Bd
namespace Rw
open PySem L2 Bd
@[reducible] noncomputable def m_reached:MS:=(AA (AL 2 (B3 (BM A6)))
    (AA (AL 3 (B3 (BM (A2 (A0 1) A6))))
    (AA (DE (FC (A0 3))
      (AA (AL 4 (mMt Hu (A0 3) A6))
    (CQ (FS (A0 0)) (C0 2 (Aa (AF 5) (Aa (AF 6) C1)))
      (Az (GH (AR (mOp gEq (A0 5) (A0 4))) (AR (mOp (gIn true) (A0 6) (A0 2))))
      (AA (Br (mMt BA (A0 2) (A2 (A0 6) A6)))
    (Br (mMt BA (A0 3) (A2 (A0 6) A6))))
      Aj))))
    (AT (CP BC (DL (Dk (A0 2))))))))
noncomputable def F_reached:List D->Hd->Option (D × Hd):=mkF 2 7 m_reached
@[reducible] noncomputable def m_behind:MS:=(AT (AC 0 F_reached (A2 (A0 1) (A2 (A0 2) A6))))
noncomputable def F_behind:List D->Hd->Option (D × Hd):=mkF 3 3 m_behind
theorem Qx(ps:List (Int × Int)):(ps.map Fg).map D.im=ps.map E2:=by rw[List.map_map];rfl
noncomputable abbrev wI(ps:List (Int × Int)):I:=.tup (ps.map Fg)
theorem DG:F_reached=Bd.F_reached:=rfl
theorem behind_eq{ps:List (Int × Int)}(hp:ps.length < 64)(n a:Int):∃ (found:List Int) (g:Hd),F_behind [.im (.int n),.im (wI ps),.im (.int a)] []=some (.im (.tup ((Bq found).map I.int)),g)/\found.Nodup/\∀ x,x ∈ found ↔ Rc ps a x:=by
  obtain⟨found,r,e,nd,mem,_⟩:=NN (.im (wI ps)) [] [] (Ad _) ps hp a λ z1 z2 z3 z4 z5 z6 r=>by
    have:=Tm (m:=A0 0) (ls:=[some (.im (wI ps)),z1,z2,z3,z4,z5,z6]) (hd:=[] ++ r) (hd':=[] ++ r) (is:=ps.map Fg) rfl
    rw[this,Qx]
  refine⟨found,[],?_,nd,mem⟩
  have c:=EY (m:=A2 (A0 1) (A2 (A0 2) A6)) (F:=Bd.F_reached) (ls:=[some (.im (.int n)),some (.im (wI ps)),some (.im (.int a))]) (hd:=[]) (ds:=[.im (wI ps),.im (.int a)]) (hd1:=[]) (by simp) (by simp) e
  simp only[F_behind,mkF,m_behind,DG,Iv,List.map_cons,List.map_nil,List.length_cons,List.length_nil,List.cons_append,List.nil_append,List.replicate,Nat.reduceAdd,Nat.reduceSub,if_true,c,Option.bind_some]
end Rw
namespace L2
open PySem PySem.Spec PyProof.Rows
section
variable{hd:Hd}{QE:D->Hd->Prop}{d:D}
end
end L2
namespace T32
open PySem L2 Bd
local macro_rules | `(tactic| sizeOf_list_dec) => `(tactic| first | (with_reducible refine AK ?_; try dsimp only [List.set_cons_zero, List.set_cons_succ, List.map_cons, List.map_nil, List.cons_append, List.nil_append, List.replicate, Nat.reduceSub, Int.reduceToNat]) | with_reducible refine He ?_ | with_reducible refine AX ?_ | with_reducible refine An ?_ | with_reducible refine Be ?_ | with_reducible refine Eg ?_ | with_reducible refine Bg ?_ | with_reducible refine Ch ?_ | with_reducible refine KY ?_ | with_reducible refine HA ?_ | with_reducible refine GV ?_ | with_reducible refine A5 (d := _) rfl ?_ | with_reducible refine B5 ?_ | with_reducible refine AY ?_ | with_reducible refine GX ?_ | with_reducible refine C9 ?_ | with_reducible refine DT ?_ | with_reducible refine Ke ?_ | with_reducible refine Cq ?_ | with_reducible refine G5 ?_ | with_reducible refine E7 ?_ | with_reducible refine JC ?_ | with_reducible refine BF ?_ | with_reducible refine KR ?_ | with_reducible refine KS ?_ | with_reducible refine K7 ?_ | with_reducible refine Du ?_ | with_reducible refine AN ?_ | with_reducible refine A9 ?_ | with_reducible refine EL ?_ | with_reducible refine C7 ?_ | with_reducible refine JB ?_ | with_reducible refine N9 ?_ | with_reducible refine FR ?_ | with_reducible refine Pk ?_ | with_reducible refine Kb ?_ | with_reducible refine Dv ?_ | with_reducible refine I0 ?_ | with_reducible refine K8 ?_ | with_reducible refine K9 ?_ | with_reducible refine KA ?_ | with_reducible refine N8 ?_ | with_reducible refine GW ?_ | with_reducible refine IA ?_ | with_reducible refine EJ ?_ | with_reducible refine Ka ?_ | with_reducible refine HB ?_ | with_reducible refine J9 ?_ | with_reducible refine ⟨_, rfl, ?_⟩ | refine Ac rfl (Ea _ _) ?_ | refine Ac rfl (Gw _ _ _) ?_ | refine Ac rfl (Hz _ _ _ _) ?_ | refine ⟨_, _, _, _, rfl, rfl, rfl, rfl, ?_⟩ | refine ⟨⟨_, rfl⟩, ?_⟩ | refine ⟨Iq, ?_⟩ | refine ⟨Lj, ?_⟩ | refine ⟨Li, ?_⟩ | refine ⟨Lh, ?_⟩ | refine ⟨Fs, ?_⟩ | refine ⟨Gj, ?_⟩ | with_reducible refine Eo ?_)
theorem Dm:F_behind=Rw.F_behind:=rfl
noncomputable abbrev wI(ps:List (Int × Int)):I:=.tup (ps.map Fg)
structure Wsh(n:Nat)(ps:List (Int × Int)):Prop where
  len:ps.length <= 16
  nod:∀ p ∈ ps,∃ a b:Nat,a < n/\b < n/\p=((a:Int),(b:Int))
noncomputable def Mt(n:Nat)(ps:List (Int × Int))(M:Nat->Nat->Bool):Prop:=∀ i j,i < n->j < n->(M i j=true ↔ Rc ps i j)
theorem Ds(ks:List Nat):(ks.map λ k:Nat=>I.int (k:Int)).map D.im=AM ks:=by simp[AM]
theorem TZ(ks:List Nat):B4 (AM ks)=.im (Ap ks):=by rw[<- Ds,Dj]
noncomputable abbrev Cd(M:Nat->Nat->Bool)(ks:List Nat):List Nat:=ks.filter λ a=>!(ks.any λ b=>M a b)
theorem Q5(found:List Int)(x:Int):x ∈ Bq found ↔ x ∈ found:=(G8 found).mem_iff
theorem Ow{n:Nat}{ps:List (Int × Int)}{M:Nat->Nat->Bool}{ks:List Nat}(h:Wsh n ps)(hM:Mt n ps M)(hk:∀ k ∈ ks,k < n)(hl:ks.length <= 8) :
    WF CN [.im (.int (n:Int)),.im (wI ps),.im (Ap ks)] [] λ d x=>d=.im (Ap (Cd M ks)):=by
  unfold CN
  refine Bh rfl ?_
  repeat sizeOf_list_dec
  rw[Ds]
  refine EK (λ r ls hd=>∃ (dn rest:List Nat) (z4 z5:Option D),ks=dn ++ rest/\r=AM rest/\ls=[some (.im (.int (n:Int))),some (.im (wI ps)),some (.im (Ap ks)),some (.mu 0),z4,z5]/\hd=[.lst (AM (dn.filter λ a=>!(ks.any λ b=>M a b)))]) ?_ ?_ ?_
  . exact⟨[],ks,none,none,rfl,rfl,rfl,rfl⟩
  . rintro d r ls hd ⟨dn,rest,z4,z5,ek,er,rfl,rfl⟩
    cases rest with
    | nil=>cases er
    | cons u rest=>
      obtain⟨rfl,rfl⟩:=List.cons.inj er
      have hu:u < n:=hk u (by rw[ek];simp)
      refine⟨_,rfl,?_⟩
      dsimp only[List.set_cons_zero,List.set_cons_succ]
      repeat sizeOf_list_dec
      refine Am ?_
      repeat sizeOf_list_dec
      refine⟨by simp,?_⟩
      rw[Dm]
      obtain⟨found,g,e,nd,mem⟩:=Rw.behind_eq (ps:=ps) (by have:=h.len;omega) (n:Int) (u:Int)
      refine WP.eq e ⟨_,rfl,?_⟩
      repeat sizeOf_list_dec
      refine KQ ?_
      repeat sizeOf_list_dec
      rw[Ds]
      refine⟨Ah (by simp;omega),?_⟩
      refine Ci (λ k:Nat=>D.im (.int (k:Int))) (λ k=>some (.im (.bl (M u k)))) (λ _ ls=>∃ x,ls=[some x,some (.im (.tup ((Bq found).map I.int)))]) _ (Ad _) ?_ ?_
      . rintro k hk' ls hls
        refine⟨[some (.im (.int (k:Int))),some (.im (.tup ((Bq found).map I.int)))],by rcases hls with rfl|⟨_,x,rfl⟩ <;> rfl,⟨_,rfl⟩,?_⟩
        repeat sizeOf_list_dec
        refine⟨rfl,?_⟩
        rw[if_pos rfl]
        refine⟨_,rfl,?_⟩
        repeat sizeOf_list_dec
        refine UA (xs:=Bq found) (by simp[intD]) ⟨rfl,?_⟩
        have:decide ((k:Int) ∈ Bq found)=M u k:=by
          have a:=hM u k hu (hk k hk')
          rw[<- mem,<- Q5]at a
          cases q:M u k with
          | true=>rw[q]at a;simpa using a
          | false=>rw[q]at a;simpa using a
        rw[<- this];rfl
      have e1:(ks.filterMap λ k=>some (D.im (.bl (M u k))))=blD (ks.map λ k=>M u k):=by simp[blD]
      rw[e1]
      refine⟨_,by rw[RU,blsD_map];rfl,?_⟩
      refine⟨_,rfl,?_⟩
      have e2:((ks.map λ k=>M u k).any id)=ks.any λ b=>M u b:=by simp[List.any_map]
      rw[e2]
      have ek':ks=(dn ++ [u]) ++ rest:=by rw[ek];simp
      refine⟨λ hb=>?_,λ hb=>?_⟩
      . repeat sizeOf_list_dec
        refine IB rfl (CM (by have:=List.length_filter_le (λ a=>!(ks.any λ b=>M a b)) dn;have:=congrArg List.length ek;simp at this ⊢;omega)) ?_
        refine⟨Ad _,dn ++ [u],rest,_,_,ek',rfl,rfl,?_⟩
        have hb:(!(ks.any λ b=>M u b))=true:=hb
        simp only[List.filter_append,List.filter_cons,hb,if_true,List.filter_nil,List.set_cons_zero,AM,List.map_append,List.map_cons,List.map_nil]
      . refine Bg ⟨Ad _,dn ++ [u],rest,_,_,ek',rfl,rfl,?_⟩
        have hb:(!(ks.any λ b=>M u b))=false:=hb
        simp only[List.filter_append,List.filter_cons,hb,if_false,Bool.false_eq_true,List.filter_nil,List.append_nil]
  . rintro ls hd ⟨dn,rest,z4,z5,ek,er,rfl,rfl⟩
    have:rest=[]:=by cases rest with
      | nil=>rfl
      | cons _ _=>cases er
    subst this
    simp only[List.append_nil]at ek
    repeat sizeOf_list_dec
    refine Db rfl rfl ?_
    rw[<- ek]
    exact TZ _
noncomputable def Way(ps:List (Int × Int)):Nat->Nat->Nat->Prop
  | 0,_,_=>False
  | m + 1,x,y=>((x:Int),(y:Int)) ∈ ps ∨ ∃ b:Nat,((x:Int),(b:Int)) ∈ ps/\Way ps m b y
theorem Way.mono{ps:List (Int × Int)}:∀ {m m' x y:Nat},Way ps m x y->m <= m'->Way ps m' x y
  | 0,_,_,_,h,_=>h.elim
  | m + 1,0,_,_,_,h=>by omega
  | m + 1,m' + 1,x,y,h,hm=>by
    rcases h with h|⟨b,h1,h2⟩
    . exact .inl h
    . exact .inr ⟨b,h1,h2.mono (by omega)⟩
theorem Way.snoc{ps:List (Int × Int)}:∀ {m x y z:Nat},Way ps m x y->((y:Int),(z:Int)) ∈ ps->Way ps (m + 1) x z
  | 0,_,_,_,h,_=>h.elim
  | m + 1,x,y,z,h,e=>by
    rcases h with h|⟨b,h1,h2⟩
    . exact .inr ⟨y,h,.inl e⟩
    . exact .inr ⟨b,h1,h2.snoc e⟩
open Hds
noncomputable abbrev Df(W:List (Nat × Nat)):List (Int × Int):=W.map λ p=>((p.1:Int),(p.2:Int))
theorem Uq{n:Nat}{W:List (Nat × Nat)}{rk:Nat->Nat}(R:Rk (λ k=>k < n) W rk){x y:Int}(r:Rc (Df W) x y):∀ i:Nat,x=i->i < n/\∃ j:Nat,y=j/\j < n/\rk i < rk j/\Way (Df W) (rk j - rk i) i j:=by
  induction r with
  | one h=>
    rintro i rfl
    obtain⟨⟨a,b⟩,hp,e⟩:=List.mem_map.mp h
    simp only[Prod.mk.injEq]at e
    obtain⟨e1,rfl⟩:=e
    have:a=i:=by omega
    subst this
    have l:=R.lt _ hp
    have ins:=R.ins _ hp
    refine⟨ins.1,b,rfl,ins.2,l,Way.mono (m:=1) (.inl h) ?_⟩
    have l:rk a < rk b:=l
    omega
  | step _ h ih=>
    intro i hi
    obtain⟨hn,m,rfl,hm,lm,w⟩:=ih i hi
    obtain⟨⟨a,b⟩,hp,e⟩:=List.mem_map.mp h
    simp only[Prod.mk.injEq]at e
    obtain⟨e1,rfl⟩:=e
    have:a=m:=by omega
    subst this
    have l:rk a < rk b:=R.lt _ hp
    refine⟨hn,b,rfl,(R.ins _ hp).2,by omega,Way.mono (w.snoc h) (by omega)⟩
noncomputable def Wf(w:Wg):Prop:=(1 <= w.len/\w.len <= 20)/\(0 <= w.com/\w.com <= 60)/\∃ c,w.co=BX c/\Fw c/\Iz 2000 c
noncomputable def XI(ws:List Wg):Prop:=1 <= ws.length/\ws.length <= 8/\∀ w ∈ ws,Wf w
theorem Wp{w:Wg}(h:w.ok):Wf w:=by
  obtain⟨h1,h2,due,e,k1,k2⟩:=h
  exact⟨h1,h2,.late due,by rw[e];rfl,trivial,by simp only[Iz];omega⟩
theorem Tq{ws:List Wg}{W:List (Nat × Nat)}{rk:Nat->Nat}{h:Nat->Int}(hn:ws.length <= 8)(hc:∀ k,k < ws.length->0 <= CJ ws k)(hW:W.length <= 16)(R:Rk (λ k=>k < ws.length) W rk)(hrk:∀ k,k < ws.length->rk k < ws.length)(H:IsHead (λ k=>k < ws.length) (CJ ws) (AI ws) W h) :
    WF G4 [.im (Ag ws),.im (.tup (W.map BQ))] [] λ d x=>d=.im (.tup ((List.range ws.length).map λ k=>.int (h k))):=by
  have we:Ct W (List.range ws.length)=W:=by
    refine List.filter_eq_self.mpr λ p hp=>?_
    have:=R.ins p hp
    simp[this.1,this.2]
  unfold G4
  refine Bh rfl ?_
  repeat sizeOf_list_dec
  refine Am ?_
  repeat sizeOf_list_dec
  have rn:B4 (B7 0 ws.length)=.im (Ap (List.range ws.length)):=by rw[Dy,E9]
  have rgl:HG (ws.length:Int):=Hi (by omega) (by omega)
  refine WP.eq (z:=.im (Ap (List.range ws.length))) (h:=[]) (by simp[CL,rgl,rn]) ?_
  repeat sizeOf_list_dec
  refine⟨by simp,?_⟩
  refine(Qa (h:=h) (rk:=rk) hn hW (by simp) (by simpa using hn) ?_ (by simpa using hrk) ?_).mono ?_
  . rw[we]
    exact⟨λ p hp=>by simpa using R.ins p hp,R.lt⟩
  . rw[we]
    refine⟨λ k hk=>?_,λ p hp hk=>H.up p hp (by simpa using hk),λ k hk=>?_⟩
    . have hk:k < ws.length:=by simpa using hk
      have:=hc k hk
      have:=H.lo k hk
      omega
    . have hk:k < ws.length:=by simpa using hk
      have:=hc k hk
      rcases H.eq k hk with e|e
      . refine .inl ?_
        omega
      . exact .inr e
  . rintro d x rfl
    exact⟨_,rfl,rfl⟩
theorem BE:F_cost_at=Bd.F_cost_at:=rfl
theorem LM{c:Cost}(h:Fw c):c.wok:=by
  cases c <;> first|trivial|exact h
noncomputable def Rp(ws:List Wg)(cs:Nat->Cost):Prop:=∀ k,k < ws.length->(ws[k]?).map Wg.co=some (BX (cs k))/\Fw (cs k)/\Iz 2000 (cs k)
noncomputable def HV(ws:List Wg)(h:Nat->Int)(ks:List Nat):Int:=E3 (ks.map h) + (ks.map (AI ws)).sum
noncomputable def bnd(ws:List Wg)(cs:Nat->Cost)(h:Nat->Int)(M:Nat->Nat->Bool)(ks:List Nat):Int:=E3 ((Cd M ks).map λ k=>(cs k).at (HV ws h ks))
theorem Fq(ks:List Nat)(g:Nat->Int):(ks.filterMap λ k=>some (D.im (.int (g k))))=intD (ks.map g):=by simp[intD]
theorem Mr{ns:List Int}(h:ns ≠ []):Lc (intD ns)=some (.im (.int (E3 ns))):=by unfold Lc;rw[EV];simp[h]
theorem Ti(ns:List Int):Hr (intD ns)=some (.im (.int ns.sum)):=by unfold Hr;rw[EV];rfl
theorem Kc{ws:List Wg}{k:Nat}(hk:k < ws.length):(ws[k]).len=AI ws k:=by simp[AI,hk]
theorem KB{ws:List Wg}{cs:Nat->Cost}(hc:Rp ws cs){k:Nat}(hk:k < ws.length):(ws[k]).co=BX (cs k):=by
  have:=(hc k hk).1
  simpa [hk]using this
theorem Ot{ws:List Wg}{ks:List Nat}(hk:∀ k ∈ ks,k < ws.length)(hl:ks.length <= 8){i j:Nat}{ls:Ls}{hd:Hd}(e0:ls[i]? = some (some (.im (Ag ws))))(e1:ls[j]? = some (some (.im (Ap ks)))){QE:D->Hd->Prop}(q:QE (.im (.int (ks.map (AI ws)).sum)) hd) :
    WE (CP Hr (BK 1 [i] (BD (A0 j)) (AF 0) C6 (mOp gIx (mOp gIx (A0 1) (A0 0)) (mC (.int 0))))) ls hd QE:=by
  refine DT (C7 (FR (A5 e1 ⟨_,rfl,?_⟩)))
  rw[Ds]
  refine⟨Ah (by simp;omega),?_⟩
  have ec:C5 1 [i] ls=[none,some (.im (Ag ws))]:=by simp[C5,e0]
  rw[ec]
  refine Ci (λ k:Nat=>D.im (.int (k:Int))) (λ k=>some (.im (.int (AI ws k)))) (λ _ ls=>∃ x,ls=[some x,some (.im (Ag ws))]) _ (Ad _) ?_ ?_
  . rintro k hk' ls hls
    have hkn:=hk k hk'
    refine⟨[some (.im (.int (k:Int))),some (.im (Ag ws))],by rcases hls with rfl|⟨_,x,rfl⟩ <;> rfl,⟨_,rfl⟩,Du ⟨rfl,?_⟩⟩
    rw[if_pos rfl]
    refine⟨_,rfl,AY (AY (A5 rfl (A5 rfl (Ac (by rw[DU,<- Cl]) (EC hkn) (B5 (Ac rfl (Ea _ _) ⟨rfl,?_⟩))))))⟩
    rw[Kc hkn]
  rw[Fq]
  exact⟨_,Ti _,q⟩
theorem O2{ws:List Wg}{W:List (Nat × Nat)}{rk:Nat->Nat}{cs:Nat->Cost}{M:Nat->Nat->Bool}{h:Nat->Int}{ks:List Nat}(hn:ws.length <= 8)(hcm:∀ k,k < ws.length->0 <= CJ ws k)(hW:W.length <= 16)(R:Rk (λ k=>k < ws.length) W rk)(hrk:∀ k,k < ws.length->rk k < ws.length)
    (Hh:IsHead (λ k=>k < ws.length) (CJ ws) (AI ws) W h) (hM:Mt ws.length (Df W) M) (hc:Rp ws cs) (hne:ks ≠ []) (hk:∀ k ∈ ks,k < ws.length) (hl:ks.length <= 8) (hlast:Cd M ks ≠ []) :
    WF Cg [.im (Ag ws),.im (.tup (W.map BQ)),.im (Ap ks)] [] λ d x=>d=.im (.int (bnd ws cs h M ks)):=by
  unfold Cg
  refine Bh rfl ?_
  refine AX (An (Am (A9 (A5 rfl (A9 (A5 rfl (AN ⟨by simp,(Tq hn hcm hW R hrk Hh).mono ?_⟩)))))))
  rintro r x rfl
  refine⟨_,rfl,AK ?_⟩
  change WS _ [some (.im (Ag ws)),some (.im (.tup (W.map BQ))),some (.im (Ap ks)),some (.im (.tup ((List.range ws.length).map λ k=>.int (h k)))),none] [] _
  refine AX (An (AY (DT (C7 (FR (A5 rfl ⟨_,rfl,?_⟩))))))
  rw[Ds]
  refine⟨Ah (by simp;omega),?_⟩
  refine Ci (λ k:Nat=>D.im (.int (k:Int))) (λ k=>some (.im (.int (h k)))) (λ _ ls=>∃ x,ls=[some x,some (.im (.tup ((List.range ws.length).map λ k=>.int (h k))))]) _ (Ad _) ?_ ?_
  . rintro k hk' ls hls
    have hkn:=hk k hk'
    refine⟨[some (.im (.int (k:Int))),some (.im (.tup ((List.range ws.length).map λ k=>.int (h k))))],by rcases hls with rfl|⟨_,x,rfl⟩ <;> rfl,⟨_,rfl⟩,Du ⟨rfl,?_⟩⟩
    rw[if_pos rfl]
    refine⟨_,rfl,AY (A5 rfl (A5 rfl (Ac rfl (Gv (k:=k) (x:=.im (.int (h k))) rfl ?_) ⟨rfl,rfl⟩)))⟩
    simp[hkn]
  rw[Fq]
  refine⟨_,Mr (by simpa using hne),?_⟩
  refine Am (A9 (A5 rfl (A9 (A5 rfl (AN ⟨by simp,?_⟩)))))
  have lw:WF Bc [.im (Ag ws),.im (Ap ks)] [] λ d x=>d=.im (.int (ks.map (AI ws)).sum):=by
    unfold Bc
    refine Bh rfl ?_
    exact Be (Ot hk hl rfl rfl rfl)
  refine lw.mono ?_
  rintro r x rfl
  refine⟨_,rfl,Dv (AK ?_)⟩
  change WS _ [some (.im (Ag ws)),some (.im (.tup (W.map BQ))),some (.im (Ap ks)),some (.im (.tup ((List.range ws.length).map λ k=>.int (h k)))),some (.im (.int (HV ws h ks)))] [] _
  have ew:W.map BQ=(Df W).map Fg:=by rw[List.map_map];rfl
  have hW':Wsh ws.length (Df W):=⟨by simpa using hW,λ p hp=>by
    obtain⟨q,hq,rfl⟩:=List.mem_map.mp hp
    have:=R.ins q hq
    exact⟨q.1,q.2,this.1,this.2,rfl⟩⟩
  refine Be (DT (C7 (FR (Am (A9 (Cq (A9 (A5 rfl (AN (Db rfl rfl ?_)))))))))) 
  refine A9 (A5 rfl (A9 (A5 rfl (AN ⟨by simp,?_⟩))))
  rw[ew]
  have eln:(((ws.map wgI).map D.im).length:Int)=(ws.length:Int):=by simp
  rw[eln]
  refine(Ow hW' hM hk hl).mono ?_
  rintro r x rfl
  refine⟨_,rfl,_,rfl,?_⟩
  rw[Ds]
  have hll:(Cd M ks).length <= 8:=Nat.le_trans (List.length_filter_le _ _) hl
  refine⟨Ah (by simp only[AM,List.length_map];omega),?_⟩
  refine Ci (λ k:Nat=>D.im (.int (k:Int))) (λ k=>some (.im (.int ((cs k).at (HV ws h ks))))) (λ _ ls=>∃ x,ls=[some x,some (.im (Ag ws)),some (.im (.int (HV ws h ks)))]) _ (Ad _) ?_ ?_
  . rintro k hk' ls hls
    have hkn:=hk k (List.mem_filter.mp hk').1
    refine⟨[some (.im (.int (k:Int))),some (.im (Ag ws)),some (.im (.int (HV ws h ks)))],by rcases hls with rfl|⟨_,x,rfl⟩ <;> rfl,⟨_,rfl⟩,Du ⟨rfl,?_⟩⟩
    rw[if_pos rfl]
    refine⟨_,rfl,Am (A9 (AY (AY (A5 rfl (A5 rfl (Ac (by rw[DU,<- Cl]) (EC hkn) (B5 (Ac rfl (Hz _ _ _ _) ?_))))))))⟩
    rw[KB hc hkn]
    refine A9 (A5 rfl (AN ⟨by simp,?_⟩))
    rw[BE]
    exact WP.eq (GM _ _ (LM (hc k hkn).2.1)) ⟨_,rfl,rfl,rfl⟩
  rw[Fq]
  exact⟨_,Mr (by simpa using hlast),rfl⟩
theorem HW(rk:Nat->Nat):∀ ks:List Nat,ks ≠ []->∃ u ∈ ks,∀ v ∈ ks,rk v <= rk u:=by
  intro ks
  induction ks with
  | nil=>intro h;exact absurd rfl h
  | cons x r ih=>
    intro _
    by_cases hr:r=[]
    . subst hr;exact⟨x,by simp,by simp⟩
    . obtain⟨u,hu,hm⟩:=ih hr
      by_cases q:rk u <= rk x
      . refine⟨x,by simp,λ v hv=>?_⟩
        rcases List.mem_cons.mp hv with rfl|hv
        . exact Nat.le_refl _
        . exact Nat.le_trans (hm v hv) q
      . refine⟨u,by simp[hu],λ v hv=>?_⟩
        rcases List.mem_cons.mp hv with rfl|hv
        . omega
        . exact hm v hv
theorem Th{M:Nat->Nat->Bool}{rk:Nat->Nat}{ks:List Nat}(hne:ks ≠ [])(h:∀ u ∈ ks,∀ v ∈ ks,M u v=true->rk u < rk v):Cd M ks ≠ []:=by
  obtain⟨u,hu,hm⟩:=HW rk ks hne
  have:u ∈ Cd M ks:=by
    refine List.mem_filter.mpr ⟨hu,?_⟩
    rw[Bool.not_eq_true',List.any_eq_false]
    intro v hv q
    have:=h u hu v hv q
    have:=hm v hv
    omega
  intro e
  rw[e]at this;simp at this
theorem psum{L M:List Int}(h:L.Perm M):L.sum=M.sum:=by
  induction h with
  | nil=>rfl
  | cons x _ ih=>simp[ih]
  | swap x y l=>simp;omega
  | trans _ _ ih1 ih2=>exact ih1.trans ih2
theorem sum_nn{l:Nat->Int}(h:∀ k,0 <= l k)(L:List Nat):0 <= (L.map l).sum:=by
  induction L with
  | nil=>simp
  | cons x r ih=>have:=h x;simp;omega
theorem sum_sub{l:Nat->Int}(h:∀ k,0 <= l k):∀ {S T:List Nat},S.Nodup->(∀ x ∈ S,x ∈ T)->(S.map l).sum <= (T.map l).sum
  | [],T,_,_=>by simpa using sum_nn h T
  | x :: r,T,nd,hs=>by
    obtain⟨h1,h2⟩:=List.nodup_cons.mp nd
    have e:=psum ((List.perm_cons_erase (hs x (by simp))).map l)
    have ih:=sum_sub h (S:=r) (T:=T.erase x) h2 λ y hy=>(List.mem_erase_of_ne (λ z:y=x=>h1 (by rw[<- z];exact hy))).mpr (hs y (by simp[hy]))
    simp only[List.map_cons,List.sum_cons]at e ⊢
    omega
theorem Kr(t:Int):∀ {rows:List (Int × Int)} {x:Int},M5 x rows->x <= BS t rows x
  | [],x,_=>Int.le_refl _
  | (b,a) :: r,x,h=>by
    unfold BS
    have:=Kr t h.2
    have:=h.1
    split <;> omega
theorem IF{t t':Int}(ht:t <= t'):∀ {rows:List (Int × Int)} {x:Int},M5 x rows->BS t rows x <= BS t' rows x
  | [],x,_=>Int.le_refl _
  | (b,a) :: r,x,h=>by
    unfold BS
    have h1:=IF ht h.2
    have h2:=Kr t' h.2
    have:=h.1
    by_cases c1:t < b
    . rw[if_pos c1];split <;> omega
    . rw[if_neg c1,if_neg (by omega)];exact h1
theorem U7{c:Cost}(h:Fw c){t t':Int}(ht:t <= t'):c.at t <= c.at t':=by
  cases c with
  | late d=>show t - d <= t' - d;omega
  | tardy d w=>
    obtain⟨h0,_⟩:=h
    show(if t - d <= 0 then 0 else w * (t - d)) <= (if t' - d <= 0 then 0 else w * (t' - d))
    have h2:w * (t - d) <= w * (t' - d):=Int.mul_le_mul_of_nonneg_left (by omega) h0
    by_cases c1:t - d <= 0
    . rw[if_pos c1];split
      . exact Int.le_refl _
      . exact Int.mul_nonneg h0 (by omega)
    . rw[if_neg c1,if_neg (by omega)];exact h2
  | miss d w=>
    obtain⟨h0,_⟩:=h
    show(if t - d <= 0 then 0 else w) <= (if t' - d <= 0 then 0 else w)
    split <;> split <;> omega
  | ends w=>exact Int.mul_le_mul_of_nonneg_left ht h.1
  | steps rows=>exact IF ht h.2.1
noncomputable def hdN(c l:Nat->Int)(W:List (Nat × Nat)):Nat->Nat->Int
  | 0,k=>c k
  | t + 1,k=>Co (c k :: (W.filter λ p=>decide (p.2=k)).map λ p=>hdN c l W t p.1 + l p.1)
theorem GK{W:List (Nat × Nat)}{S:Nat->Prop}{rk:Nat->Nat}(R:Rk S W rk)(c l:Nat->Int):∀ t k,rk k <= t->hdN c l W (t + 1) k=hdN c l W t k
  | 0,k,h=>by
    have e:(W.filter λ p=>decide (p.2=k))=[]:=by
      rw[List.filter_eq_nil_iff]
      intro p hp q
      have:=R.lt p hp
      have q:p.2=k:=by simpa using q
      rw[q]at this;omega
    show Co (c k :: (W.filter λ p=>decide (p.2=k)).map _)=c k
    rw[e]
    have:=(Bu (xs:=[c k]) (by simp)).1
    simpa using this
  | t + 1,k,h=>by
    show Co (c k :: (W.filter λ p=>decide (p.2=k)).map λ p=>hdN c l W (t + 1) p.1 + l p.1)=Co (c k :: (W.filter λ p=>decide (p.2=k)).map λ p=>hdN c l W t p.1 + l p.1)
    congr 2
    refine List.map_congr_left λ p hp=>?_
    obtain⟨h1,h2⟩:=List.mem_filter.mp hp
    have h2:p.2=k:=by simpa using h2
    have:=R.lt p h1
    rw[GK R c l t p.1 (by rw[h2]at this;omega)]
theorem Tr{n:Nat}{W:List (Nat × Nat)}{rk:Nat->Nat}(R:Rk (λ k=>k < n) W rk)(hrk:∀ k,k < n->rk k < n)(c l:Nat->Int):∃ h,IsHead (λ k=>k < n) c l W h:=by
  refine⟨hdN c l W n,λ k hk=>?_,λ p hp hk=>?_,λ k hk=>?_⟩
  . rw[<- GK R c l n k (by have:=hrk k hk;omega)]
    exact(Bu (xs:=c k :: (W.filter λ p=>decide (p.2=k)).map λ p=>hdN c l W n p.1 + l p.1) (by simp)).2 _ List.mem_cons_self
  . rw[<- GK R c l n p.2 (by have:=hrk p.2 hk;omega)]
    refine(Bu (xs:=c p.2 :: (W.filter λ q=>decide (q.2=p.2)).map λ q=>hdN c l W n q.1 + l q.1) (by simp)).2 _ (List.mem_cons_of_mem _ (List.mem_map.mpr ⟨p,List.mem_filter.mpr ⟨hp,by simp⟩,rfl⟩))
  . have e:=GK R c l n k (by have:=hrk k hk;omega)
    have ms:=(Bu (xs:=c k :: (W.filter λ p=>decide (p.2=k)).map λ p=>hdN c l W n p.1 + l p.1) (by simp)).1
    rw[<- e]
    rcases List.mem_cons.mp ms with q|q
    . exact .inl q
    . obtain⟨p,hp,eq⟩:=List.mem_map.mp q
      obtain⟨h1,h2⟩:=List.mem_filter.mp hp
      refine .inr ⟨p,h1,by simpa using h2,?_⟩
      exact eq.symm
noncomputable def Clo(W:List (Nat × Nat))(ks:List Nat):Prop:=∀ p ∈ W,p.2 ∈ ks->p.1 ∈ ks
theorem R8{n:Nat}{W:List (Nat × Nat)}{rk:Nat->Nat}(R:Rk (λ k=>k < n) W rk){c l h:Nat->Int}(H:IsHead (λ k=>k < n) c l W h){cc:Int}(hc:∀ k,k < n->c k=cc){ks:List Nat}(hk:∀ k ∈ ks,k < n)(hne:ks ≠ [])(cl:Clo W ks):E3 (ks.map h)=cc:=by
  have hN:∃ N,∀ k ∈ ks,rk k <= N:=by
    obtain⟨u,_,hu⟩:=HW rk ks hne
    exact⟨rk u,hu⟩
  obtain⟨N,hN⟩:=hN
  obtain⟨u,hu,hm⟩:=HW (λ k=>N - rk k) ks hne
  have hu0:h u=cc:=by
    rcases H.eq u (hk u hu)with e|⟨p,hp,e1,_⟩
    . rw[e];exact hc u (hk u hu)
    . have h1:=cl p hp (by rw[e1];exact hu)
      have h2:=R.lt p hp
      have h3:=hm p.1 h1
      have h4:=hN u hu
      rw[e1]at h2
      omega
  have ms:=ES (xs:=ks.map h) (by simpa using hne)
  have h1:=ms.2 _ (List.mem_map.mpr ⟨u,hu,rfl⟩)
  obtain⟨v,hv,ev⟩:=List.mem_map.mp ms.1
  have h2:=H.lo v (hk v hv)
  have h3:=hc v (hk v hv)
  omega
open Classical in
noncomputable def Mc(W:List (Nat × Nat)):Nat->Nat->Bool:=λ i j=>decide (Rc (Df W) i j)
theorem Wr(n:Nat)(W:List (Nat × Nat)):Mt n (Df W) (Mc W):=λ i j _ _=>by simp[Mc]
theorem SC{n:Nat}{W:List (Nat × Nat)}{rk:Nat->Nat}(R:Rk (λ k=>k < n) W rk){u v:Nat}(h:Mc W u v=true):rk u < rk v:=by
  have h:Rc (Df W) u v:=by simpa [Mc]using h
  obtain⟨_,j,ej,_,hlt,_⟩:=Uq R h u rfl
  have:v=j:=by omega
  rw[this];exact hlt
structure Ord(n:Nat)(W:List (Nat × Nat))(o:List Nat):Prop where
  pm:o.Perm (List.range n)
  lt:∀ p ∈ W,o.idxOf p.1 < o.idxOf p.2
noncomputable def En(c:Int)(l:Nat->Int)(o:List Nat)(k:Nat):Int:=c + ((o.take (o.idxOf k + 1)).map l).sum
noncomputable def bd(c:Int)(l:Nat->Int)(cs:Nat->Cost)(W:List (Nat × Nat))(S:List Nat):Int:=E3 ((Cd (Mc W) S).map λ k=>(cs k).at (c + (S.map l).sum))
theorem Wz{n:Nat}{W:List (Nat × Nat)}{rk:Nat->Nat}(R:Rk (λ k=>k < n) W rk){c:Int}{l:Nat->Int}(hl:∀ k,0 <= l k){cs:Nat->Cost}(hcs:∀ k,k < n->Fw (cs k)){o S:List Nat}(O:Ord n W o)(hne:S ≠ [])(nd:S.Nodup)(hS:∀ k ∈ S,k < n):∃ v ∈ S,bd c l cs W S <= (cs v).at (En c l o v):=by
  obtain⟨v,hv,hm⟩:=HW (λ k=>o.idxOf k) S hne
  refine⟨v,hv,?_⟩
  have R':Rk (λ k=>k < n) W (λ k=>o.idxOf k):=⟨R.ins,O.lt⟩
  have hlast:v ∈ Cd (Mc W) S:=by
    refine List.mem_filter.mpr ⟨hv,?_⟩
    rw[Bool.not_eq_true',List.any_eq_false]
    intro b hb q
    have h1:=SC R' q
    have h2:=hm b hb
    omega
  have h1:=(ES (xs:=(Cd (Mc W) S).map λ k=>(cs k).at (c + (S.map l).sum)) (List.ne_nil_of_mem (List.mem_map.mpr ⟨v,hlast,rfl⟩))).2 _ (List.mem_map.mpr ⟨v,hlast,rfl⟩)
  refine Int.le_trans h1 (U7 (hcs v (hS v hv)) ?_)
  have:=sum_sub hl nd (T:=o.take (o.idxOf v + 1)) λ x hx=>by
    have hxo:x ∈ o:=O.pm.mem_iff.mpr (by simpa using hS x hx)
    have hxi:=hm x hx
    have hlt:=List.idxOf_lt_length_iff.mpr hxo
    refine List.mem_take_iff_getElem.mpr ⟨o.idxOf x,by omega,?_⟩
    exact List.getElem_idxOf hlt
  unfold En
  omega
noncomputable abbrev co(n:Nat)(b:List Nat):List Nat:=(List.range n).filter λ k=>decide (¬ k ∈ b)
inductive Made(n:Nat)(c:Int)(l:Nat->Int)(cs:Nat->Cost)(W:List (Nat × Nat)):List Nat->List (List Nat)->Prop
  | nil:Made n c l cs W [] []
  | cons {b:List Nat} {ss:List (List Nat)} (u:Nat) (m:Made n c l cs W b ss) (h0:u ∈ co n b) (h1:(cs u).at (c + ((co n b).map l).sum)=bd c l cs W (co n b)) (h2:∀ p ∈ W,p.1=u->p.2 ∈ b):Made n c l cs W (u :: b) (ss ++ [co n b])
section
variable{n:Nat}{c:Int}{l:Nat->Int}{cs:Nat->Cost}{W:List (Nat × Nat)}
theorem Made.nd{b:List Nat}{ss:List (List Nat)}(m:Made n c l cs W b ss):b.Nodup/\∀ k ∈ b,k < n:=by
  induction m with
  | nil=>exact⟨.nil,by simp⟩
  | cons u m h0 h1 h2 ih=>
    have h3:=(List.mem_filter.mp h0).2
    have h4:=List.mem_range.mp (List.mem_filter.mp h0).1
    exact⟨List.nodup_cons.mpr ⟨by simpa using h3,ih.1⟩,λ k hk=>by rcases List.mem_cons.mp hk with rfl|hk;exact h4;exact ih.2 k hk⟩
theorem Made.at{b:List Nat}{ss:List (List Nat)}(m:Made n c l cs W b ss):∀ a u r,b=a ++ u :: r->co n r ∈ ss/\(cs u).at (c + ((co n r).map l).sum)=bd c l cs W (co n r)/\∀ p ∈ W,p.1=u->p.2 ∈ r:=by
  induction m with
  | nil=>intro a u r e;simp at e
  | @cons b ss v m h0 h1 h2 ih=>
    intro a u r e
    cases a with
    | nil=>cases e;exact⟨by simp,h1,h2⟩
    | cons x a=>
      have e2:b=a ++ u :: r:=(List.cons.inj e).2
      obtain⟨q1,q2,q3⟩:=ih a u r e2
      exact⟨by simp[q1],q2,q3⟩
theorem Made.sets{b:List Nat}{ss:List (List Nat)}(m:Made n c l cs W b ss):∀ s ∈ ss,∃ r,s=co n r/\s ≠ []:=by
  induction m with
  | nil=>intro s hs;cases hs
  | @cons b ss v m h0 h1 h2 ih=>
    intro s hs
    rcases List.mem_append.mp hs with q|q
    . exact ih s q
    . rw[List.mem_singleton]at q;exact⟨b,q,by rw[q];exact List.ne_nil_of_mem h0⟩
theorem G7{o:List Nat}{k:Nat}(h:k ∈ o):∃ a r,o=a ++ k :: r/\k ∉ a/\o.idxOf k=a.length:=by
  induction o with
  | nil=>cases h
  | cons x t ih=>
    by_cases e:x=k
    . subst e;exact⟨[],t,rfl,by simp,by simp⟩
    . have:k ∈ t:=by rcases List.mem_cons.mp h with q|q;exact absurd q.symm e;exact q
      obtain⟨a,r,e1,e2,e3⟩:=ih this
      refine⟨x :: a,r,by rw[e1];rfl,by simp[e2];exact λ z=>e z.symm,?_⟩
      rw[List.idxOf_cons]
      have:(x == k)=false:=by simpa using e
      rw[this];simp[e3]
theorem Made.ord{o:List Nat}{ss:List (List Nat)}(m:Made n c l cs W o ss)(hW:∀ p ∈ W,p.1 < n/\p.2 < n)(h:co n o=[]):Ord n W o:=by
  obtain⟨nd,hn⟩:=m.nd
  have pm:o.Perm (List.range n):=by
    rw[List.perm_ext_iff_of_nodup nd List.nodup_range]
    intro k
    refine⟨λ hk=>by simpa using hn k hk,λ hk=>?_⟩
    have:=List.filter_eq_nil_iff.mp h k hk
    simpa using this
  refine⟨pm,λ p hp=>?_⟩
  obtain⟨a,r,e1,e2,e3⟩:=G7 (pm.mem_iff.mpr (by simpa using (hW p hp).1))
  obtain⟨_,_,q⟩:=m.at a p.1 r e1
  have hr:=q p hp rfl
  rw[e3,e1]
  rw[e1]at nd
  have na:p.2 ∉ a:=λ z=>(List.nodup_append.mp nd).2.2 _ z _ (List.mem_cons_of_mem _ hr) rfl
  rw[List.idxOf_append,if_neg na]
  have ne:p.1 ≠ p.2:=λ z=>by
    have:=(List.nodup_cons.mp (List.nodup_append.mp nd).2.1).1
    rw[z]at this;exact this hr
  rw[List.idxOf_cons]
  have:(p.1 == p.2)=false:=by simpa using ne
  rw[this];simp
theorem U4{a r:List Nat}{u:Nat}(pm:(a ++ u :: r).Perm (List.range n)):(co n r).Perm (a ++ [u]):=by
  have nd:(a ++ u :: r).Nodup:=pm.nodup_iff.mpr List.nodup_range
  have e:(a ++ u :: r)=(a ++ [u]) ++ r:=by simp
  rw[e]at nd pm
  obtain⟨n1,n2,n3⟩:=List.nodup_append.mp nd
  rw[List.perm_ext_iff_of_nodup (List.nodup_range.filter _) n1]
  intro k
  have hk:=pm.mem_iff (a:=k)
  constructor
  . intro h
    obtain⟨h1,h2⟩:=List.mem_filter.mp h
    rcases List.mem_append.mp (hk.mpr h1)with q|q
    . exact q
    . exact absurd q (by simpa using h2)
  . intro h
    refine List.mem_filter.mpr ⟨hk.mp (List.mem_append_left _ h),?_⟩
    simpa using λ z=>n3 k h k z rfl
theorem Made.cost{o:List Nat}{ss:List (List Nat)}(m:Made n c l cs W o ss)(pm:o.Perm (List.range n)){k:Nat}(hk:k < n):∃ s ∈ ss,(cs k).at (En c l o k)=bd c l cs W s:=by
  obtain⟨a,r,e1,e2,e3⟩:=G7 (pm.mem_iff.mpr (by simpa using hk))
  obtain⟨q1,q2,_⟩:=m.at a k r e1
  refine⟨co n r,q1,?_⟩
  rw[<- q2]
  congr 1
  unfold En
  rw[e3]
  have pm':=pm
  rw[e1]at pm'
  have e4:o.take (a.length + 1)=a ++ [k]:=by
    rw[e1,show a ++ k :: r=(a ++ [k]) ++ r by simp]
    exact List.take_left' (by simp)
  rw[e4,psum ((U4 pm').map l)]
end
theorem blsD_map(bs:List Bool):Cf (blD bs)=some bs:=by
  induction bs with
  | nil=>rfl
  | cons b r ih=>simp[blD]at ih ⊢
structure Ev(ws:List Wg)(c:Int)(cs:Nat->Cost)(W:List (Nat × Nat))(rk:Nat->Nat):Prop where
  ok:XI ws
  com:∀ w ∈ ws,w.com=c
  hcs:Rp ws cs
  hW:W.length <= 16
  R:Rk (λ k=>k < ws.length) W rk
  hrk:∀ k,k < ws.length->rk k < ws.length
section
variable{ws:List Wg}{c:Int}{cs:Nat->Cost}{W:List (Nat × Nat)}{rk:Nat->Nat}
theorem Ev.cm(E:Ev ws c cs W rk){k:Nat}(hk:k < ws.length):CJ ws k=c:=by
  have:=E.com ws[k] (List.getElem_mem hk)
  simpa [CJ,hk]using this
theorem Ev.c0(E:Ev ws c cs W rk):0 <= c:=by
  have h:=E.ok.1
  have h1:=(E.ok.2.2 ws[0] (List.getElem_mem h)).2.1.1
  rw[E.com ws[0] (List.getElem_mem h)]at h1
  exact h1
theorem Ev.ln(E:Ev ws c cs W rk)(k:Nat):0 <= AI ws k:=by
  unfold AI
  cases h:ws[k]? with
  | none=>exact Int.le_refl _
  | some w=>have:=(E.ok.2.2 w (List.mem_of_getElem? h)).1;show 0 <= w.len;omega
theorem Ev.hM(E:Ev ws c cs W rk):Mt ws.length (Df W) (Mc W):=Wr _ _
theorem Ev.lne(E:Ev ws c cs W rk){ks:List Nat}(hne:ks ≠ []):Cd (Mc W) ks ≠ []:=Th (rk:=rk) hne λ u _ v _ q=>SC E.R q
theorem Ev.sh(E:Ev ws c cs W rk):Wsh ws.length (Df W):=⟨by simpa using E.hW,λ p hp=>by
    obtain⟨q,hq,rfl⟩:=List.mem_map.mp hp
    have:=E.R.ins q hq
    exact⟨q.1,q.2,this.1,this.2,rfl⟩⟩
structure St(ws:List Wg)(W:List (Nat × Nat))(ks:List Nat):Prop where
  ne:ks ≠ []
  lt:∀ k ∈ ks,k < ws.length
  l8:ks.length <= 8
  cl:Clo W ks
theorem U6(E:Ev ws c cs W rk){ks:List Nat}(S:St ws W ks):WF Cg [.im (Ag ws),.im (.tup (W.map BQ)),.im (Ap ks)] [] λ d x=>d=.im (.int (bd c (AI ws) cs W ks)):=by
  obtain⟨h,H⟩:=Tr E.R E.hrk (CJ ws) (AI ws)
  refine(O2 E.ok.2.1 (λ k hk=>by rw[E.cm hk];exact E.c0) E.hW E.R E.hrk H E.hM E.hcs S.ne S.lt S.l8 (E.lne S.ne)).mono ?_
  rintro d x rfl
  unfold bnd bd HV
  rw[R8 E.R H (cc:=c) (λ k hk=>E.cm hk) S.lt S.ne S.cl]
theorem Rj(E:Ev ws c cs W rk):WF DH [.im (Ag ws)] [] λ d x=>d=.im (.int c):=by
  have hl0:0 < ws.length:=E.ok.1
  have hl8:=E.ok.2.1
  unfold DH
  refine Bh rfl ?_
  refine AX (An (Am (A9 (A5 rfl (AN ⟨by simp,?_⟩)))))
  have e0:(ws[0]).com=c:=E.com _ (List.getElem_mem hl0)
  have S:WF Cm [.im (Ag ws)] [] λ d x=>d=.im (.int c):=by
    unfold Cm
    refine Bh rfl ?_
    refine AX (An (AY (AY (A5 rfl (B5 (Ac (by rw[DU,<- Cl]) (EC (k:=0) hl0) ?_))))))
    refine B5 (Ac rfl (Gw _ _ _) (AK ?_))
    rw[e0]
    refine AX (Ch (KQ (DT (C7 (FR (A5 rfl ⟨_,rfl,?_⟩))))))
    rw[<- Cl]
    refine⟨Ah (by simp;omega),?_⟩
    refine Ci (λ w=>D.im (wgI w)) (λ _=>some (.im (.bl true))) (λ _ ls=>∃ x,ls=[some x,some (.im (.int c))]) _ (Ad _) ?_ ?_
    . rintro p hp ls hls
      refine⟨[some (.im (wgI p)),some (.im (.int c))],by rcases hls with rfl|⟨_,x,rfl⟩ <;> rfl,⟨_,rfl⟩,Du ⟨rfl,?_⟩⟩
      rw[if_pos rfl]
      refine⟨_,rfl,AY (AY (A5 rfl (B5 (Ac rfl (Gw _ _ _) (A5 rfl (GW ⟨rfl,?_⟩))))))⟩
      simp[E.com p hp]
    have e:(ws.filterMap λ _=>some (D.im (.bl true)))=blD (ws.map λ _=>true):=by simp[blD]
    rw[e]
    refine⟨_,by rw[RV,blsD_map];rfl,_,rfl,?_⟩
    refine⟨λ _=>?_,(λ h=>by simp at h)⟩
    exact Be (A5 rfl rfl)
  refine S.mono ?_
  rintro d x rfl
  refine⟨_,rfl,AK ?_⟩
  refine AX (Ch (BF ?_))
  refine WP.eq (z:=.im (.bl false)) (h:=[]) (by simp[GG]) ⟨_,rfl,(λ h=>by cases h),λ _=>Bg (AK ?_)⟩
  exact Be (A5 rfl rfl)
noncomputable def kfC(cs:Nat->Cost)(t:Int):D->Int | .im (.int i)=>(cs i.toNat).at t|_=>0
theorem Nx(E:Ev ws c cs W rk){ks:List Nat}(S:St ws W ks)(t:Int):WF CK [.im (Ag ws),.im (.tup (W.map BQ)),.im (Ap ks),.im (.int t)] [] λ d x=>∃ u:Nat,d=.im (.int (u:Int))/\u ∈ Cd (Mc W) ks/\(cs u).at t=E3 ((Cd (Mc W) ks).map λ k=>(cs k).at t):=by
  unfold CK
  refine Bh rfl ?_
  refine Be (OD (Am (A9 (Cq (A9 (A5 rfl (AN (Db rfl rfl ?_))))))))
  refine A9 (A5 rfl (A9 (A5 rfl (AN ⟨by simp,?_⟩))))
  have ew:W.map BQ=(Df W).map Fg:=by rw[List.map_map];rfl
  have eln:(((ws.map wgI).map D.im).length:Int)=(ws.length:Int):=by simp
  rw[eln,ew]
  refine(Ow E.sh E.hM S.lt S.l8).mono ?_
  rintro r x rfl
  refine⟨_,rfl,?_⟩
  have hne:=E.lne S.ne
  have hlt:∀ k ∈ Cd (Mc W) ks,k < ws.length:=λ k hk=>S.lt k (List.mem_filter.mp hk).1
  generalize Cd (Mc W) ks=L at hne hlt
  cases L with
  | nil=>exact absurd rfl hne
  | cons b r=>
    have bm:=Hw (kfC cs t) (AM r) (.im (.int (b:Int)))
    refine⟨.im (.int (b:Int)),AM r,kfC cs t,?_,λ y hy=>?_,?_⟩
    . show some (((b :: r).map λ k:Nat=>I.int (k:Int)).map D.im)=_
      simp[AM]
    . obtain⟨k,hk,rfl⟩:=List.mem_map.mp (show y ∈ AM (b :: r)from hy)
      have hkn:=hlt k hk
      have w:WE (AC 0 F_cost_at (A2 (mOp gIx (mOp gIx (A0 2) (A0 0)) (mC (.int 2))) (A2 (A0 1) A6))) [some (.im (.int (k:Int))),some (.im (.int t)),some (.im (Ag ws))] [] λ d x=>d=.im (.int ((cs k).at t))/\x=[]:=by
        refine Am (A9 (AY (AY (A5 rfl (A5 rfl (Ac (by rw[DU,<- Cl]) (EC hkn) (B5 (Ac rfl (Hz _ _ _ _) ?_))))))))
        rw[KB E.hcs hkn]
        refine A9 (A5 rfl (AN ⟨by simp,?_⟩))
        rw[BE]
        exact WP.eq (GM _ _ (LM (E.hcs k hkn).2.1)) ⟨_,rfl,rfl,rfl⟩
      obtain⟨d,x,e,rfl,rfl⟩:=w
      exact e
    . obtain⟨h1,h2⟩:=bm
      obtain⟨u,hu,eu⟩:=List.mem_map.mp (show Bk (λ n m=>decide (n < m)) (AM r) ((AM r).map (kfC cs t)) (.im (.int (b:Int))) (kfC cs t (.im (.int (b:Int)))) ∈ AM (b :: r)from h1)
      rw[<- eu]at h2 ⊢
      refine⟨u,rfl,hu,?_⟩
      have h3:∀ k ∈ b :: r,(cs u).at t <= (cs k).at t:=λ k hk=>by
        have:=h2 (.im (.int (k:Int))) (show _ ∈ AM (b :: r)from List.mem_map.mpr ⟨k,hk,rfl⟩)
        simpa [kfC]using this
      have ms:=ES (xs:=(b :: r).map λ k=>(cs k).at t) (by simp)
      have g1:=ms.2 _ (List.mem_map.mpr ⟨u,hu,rfl⟩)
      obtain⟨v,hv,ev⟩:=List.mem_map.mp ms.1
      have g2:=h3 v hv
      try dsimp only at ev g1
      omega
theorem O9(ks:List Nat)(u:Nat)(hl:ks.length <= 8):WF EZ [.im (Ap ks),.im (.int (u:Int))] [] λ d x=>d=.im (Ap (ks.filter λ k=>decide (k ≠ u))):=by
  unfold EZ
  refine Bh rfl ?_
  refine Be (DT (C7 (FR (A5 rfl ⟨_,rfl,?_⟩))))
  rw[Ds]
  refine⟨Ah (by simp[AM];omega),?_⟩
  refine Ci (λ k:Nat=>D.im (.int (k:Int))) (λ k=>if k ≠ u then some (.im (.int (k:Int)))else none) (λ _ ls=>∃ x,ls=[some x,some (.im (.int (u:Int)))]) _ (Ad _) ?_ ?_
  . rintro k hk ls hls
    refine⟨[some (.im (.int (k:Int))),some (.im (.int (u:Int)))],by rcases hls with rfl|⟨_,x,rfl⟩ <;> rfl,⟨_,rfl⟩,BF (AY (A5 rfl (A5 rfl (IA ⟨_,rfl,rfl,?_⟩))))⟩
    by_cases h:k=u
    . subst h;simp
    . have h1:¬ ((k:Int)=(u:Int)):=by omega
      simp only[h1,decide_false,Bool.not_false,if_true]
      exact⟨_,by simp[h],A5 rfl ⟨rfl,rfl⟩⟩
  rw[SI]
  exact⟨_,rfl,E9 _⟩
theorem Jg{ss:List (List Nat)}{d:D}(h:d ∈ ss.map Di):∃ s ∈ ss,d=Di s:=by
  obtain⟨s,h1,h2⟩:=List.mem_map.mp h
  exact⟨s,h1,h2.symm⟩
noncomputable def Nt:I->Nat | .int i=>i.toNat|_=>0
noncomputable def kfB(c:Int)(l:Nat->Int)(cs:Nat->Cost)(W:List (Nat × Nat)):D->Int | .im (.tup is)=>bd c l cs W (is.map Nt)|_=>0
theorem JT(l:Nat->Int)(s:List Nat):kfB c l cs W (Di s)=bd c l cs W s:=by
  show bd c l cs W ((s.map λ k:Nat=>I.int (k:Int)).map Nt)=_
  rw[List.map_map]
  congr 1
  have:(Nt ∘ λ k:Nat=>I.int (k:Int))=id:=by funext k;simp[Nt]
  rw[this,List.map_id]
theorem Ts(E:Ev ws c cs W rk){hd:Hd}{k:Nat}{ss:List (List Nat)}(e:hd[k]? = some (.lst (ss.map Di)))(hne:ss ≠ [])(hs:∀ s ∈ ss,St ws W s):WF C4 [.im (Ag ws),.im (.tup (W.map BQ)),.mu k] hd λ d x=>∃ s ∈ ss,d=Di s/\∀ s' ∈ ss,bd c (AI ws) cs W s' <= bd c (AI ws) cs W s:=by
  unfold C4
  refine Bh rfl ?_
  cases ss with
  | nil=>exact absurd rfl hne
  | cons b r=>
    have bm:=Hx (kfB c (AI ws) cs W) (r.map Di) (Di b)
    refine Be (Pl (A5 rfl ⟨Di b,r.map Di,kfB c (AI ws) cs W,?_,λ y hy=>?_,?_⟩))
    . simp only[B1,e];rfl
    . obtain⟨s,hs',rfl⟩:=Jg (ss:=b :: r) hy
      have w:WE (AC 0 Cg (A2 (A0 1) (A2 (A0 2) (A2 (A0 0) A6)))) [some (Di s),some (.im (Ag ws)),some (.im (.tup (W.map BQ)))] hd λ d x=>d=.im (.int (bd c (AI ws) cs W s))/\x=hd:=by
        refine Am (A9 (A5 rfl (A9 (A5 rfl (A9 (A5 rfl (AN ⟨by simp,(U6 E (hs s hs')).mono ?_⟩)))))))
        rintro d x rfl
        exact⟨_,rfl,rfl,rfl⟩
      obtain⟨d,x,e,rfl,rfl⟩:=w
      rw[JT]
      exact e
    . obtain⟨h1,h2⟩:=bm
      obtain⟨s,hs',es⟩:=Jg (ss:=b :: r) h1
      rw[es]at h2 ⊢
      refine⟨s,hs',rfl,λ s' h'=>?_⟩
      have:=h2 (Di s') (show _ ∈ (b :: r).map Di from List.mem_map.mpr ⟨s',h',rfl⟩)
      rw[JT,JT]at this
      exact this
theorem RQ{b:List Nat}{u:Nat}{n:Nat}(R:Rk (λ k=>k < n) W rk)(hu:u ∈ Cd (Mc W) (co n b)):∀ p ∈ W,p.1=u->p.2 ∈ b:=by
  intro p hp e
  refine Classical.byContradiction λ h=>?_
  have h2:p.2 ∈ co n b:=List.mem_filter.mpr ⟨by simpa using (R.ins p hp).2,by simpa using h⟩
  have h3:=(List.mem_filter.mp hu).2
  rw[Bool.not_eq_true',List.any_eq_false]at h3
  refine h3 p.2 h2 ?_
  subst e
  have:Rc (Df W) (p.1:Int) (p.2:Int):=.one (List.mem_map.mpr ⟨p,hp,rfl⟩)
  simp[Mc,this]
theorem N1{n:Nat}{b:List Nat}{u:Nat}:((co n b).filter λ k=>decide (k ≠ u))=co n (u :: b):=by
  unfold co
  rw[List.filter_filter]
  congr 1
  funext k
  simp
theorem Rl{n:Nat}{b:List Nat}{u:Nat}(cl:Clo W (co n b))(h:∀ p ∈ W,p.1=u->p.2 ∈ b):Clo W (co n (u :: b)):=by
  intro p hp h2
  rw[<- N1]at h2 ⊢
  obtain⟨g1,g2⟩:=List.mem_filter.mp h2
  refine List.mem_filter.mpr ⟨cl p hp g1,?_⟩
  refine decide_eq_true λ e=>?_
  have:=(List.mem_filter.mp g1).2
  exact(by simpa using this:p.2 ∉ b) (h p hp e)
end
section
variable{ws:List Wg}{c:Int}{cs:Nat->Cost}{W:List (Nat × Nat)}{rk:Nat->Nat}
theorem RP{ks:List Nat}(hk:∀ k ∈ ks,k < ws.length)(hl:ks.length <= 8):WF Bc [.im (Ag ws),.im (Ap ks)] [] λ d x=>d=.im (.int (ks.map (AI ws)).sum):=by
  unfold Bc
  refine Bh rfl ?_
  exact Be (Ot hk hl rfl rfl rfl)
theorem X6(E:Ev ws c cs W rk){o:List Nat}(hne:co ws.length o ≠ [])(cl:Clo W (co ws.length o)):St ws W (co ws.length o):=
  ⟨hne,λ k hk=>by simpa using (List.mem_filter.mp hk).1,Nat.le_trans (List.length_filter_le _ _) (by simpa using E.ok.2.1),cl⟩
theorem LO{n:Nat}{o:List Nat}(h:o.Nodup)(h2:∀ k ∈ o,k < n):o.length <= n:=by
  have:=Gc (l:=o.map λ k:Nat=>(k:Int)) (m:=(List.range n).map λ k:Nat=>(k:Int)) (List.Pairwise.map _ (λ a b h=>λ z=>h (by omega)) h) λ x hx=>by
    obtain⟨k,hk,rfl⟩:=List.mem_map.mp hx
    exact List.mem_map.mpr ⟨k,by simpa using h2 k hk,rfl⟩
  simpa using this
theorem P4{u:Nat}{L:List Nat}(h:u ∈ L):(L.filter λ k=>decide (k ≠ u)).length < L.length:=by
  induction L with
  | nil=>cases h
  | cons x r ih=>
    by_cases e:x=u
    . subst e
      have:=List.length_filter_le (λ k=>decide (k ≠ x)) r
      simp;simpa using Nat.lt_succ_of_le this
    . have h:u ∈ r:=by rcases List.mem_cons.mp h with q|q;exact absurd q.symm e;exact q
      have:=ih h
      rw[List.filter_cons_of_pos (by simpa using e)]
      simp only[List.length_cons];omega
inductive I_ord(ws:List Wg)(c:Int)(cs:Nat->Cost)(W:List (Nat × Nat))(m:Nat)(ls:Ls)(hd:Hd):Prop
  | mk (o:List Nat) (ss:List (List Nat)) (z6:Option D) (h1:ls=[some (.im (Ag ws)),some (.im (.tup (W.map BQ))),some (.im (.int c)),some (.mu 0),some (.mu 1),some (.im (Ap (co ws.length o))),z6]) (h2:hd=[.lst (AM o),.lst (ss.map Di)]) (h3:Made ws.length c (AI ws) cs W o ss) (h4:Clo W (co ws.length o)) (h5:∀ s ∈ ss,St ws W s) (h6:m=(co ws.length o).length) (h7:ss.length=o.length):I_ord ws c cs W m ls hd
theorem TW(E:Ev ws c cs W rk):WF C3 [.im (Ag ws),.im (.tup (W.map BQ))] [] λ d x=>∃ (o:List Nat) (ss:List (List Nat)) (s:List Nat),d=.im (.tup [Ap o,Ap s])/\Made ws.length c (AI ws) cs W o ss/\co ws.length o=[]/\s ∈ ss/\(∀ s ∈ ss,St ws W s)/\∀ s' ∈ ss,bd c (AI ws) cs W s' <= bd c (AI ws) cs W s:=by
  have hn:=E.ok.2.1
  unfold C3
  refine Bh rfl ?_
  refine AX (An (Am (A9 (A5 rfl (AN ⟨by simp,(Rj E).mono ?_⟩)))))
  rintro d x rfl
  refine⟨_,rfl,AK ?_⟩
  refine AX (An (C9 (EL (AN ⟨Ah (by simp),AK ?_⟩))))
  refine AX (An (C9 (EL (AN ⟨Ah (by simp),AK ?_⟩))))
  have rn:B4 (B7 0 ws.length)=.im (Ap (List.range ws.length)):=by rw[Dy,E9]
  have rgl:HG (ws.length:Int):=Hi (by omega) (by omega)
  refine AX (An (WP.eq (z:=.im (Ap (List.range ws.length))) (h:=[.lst [],.lst []]) (by simp[CL,rgl,rn]) (AK ?_)))
  change WS _ [some (.im (Ag ws)),some (.im (.tup (W.map BQ))),some (.im (.int c)),some (.mu 0),some (.mu 1),some (.im (Ap (List.range ws.length))),none] [.lst [],.lst []] _
  have eco:co ws.length []=List.range ws.length:=by simp[co]
  refine AX (KU (I_ord ws c cs W) (n:=ws.length) ?_ ?_)
  . refine⟨[],[],none,by rw[eco],rfl,.nil,?_,by simp,by rw[eco];simp,rfl⟩
    rw[eco]
    intro p hp _
    simpa using (E.R.ins p hp).1
  . rintro n ls hd ⟨o,ss,z6,rfl,rfl,hm,cl,hst,hn',hlen⟩
    have ol:o.length <= 8:=by
      have:=hm.nd
      have h1:=LO this.1 this.2
      omega
    refine KQ (A5 rfl ⟨_,rfl,?_⟩)
    by_cases hne:co ws.length o=[]
    . rw[if_neg (by simp[hne])]
      refine AK ?_
      have hss:ss ≠ []:=by
        intro z
        rw[z]at hlen
        have:o=[]:=List.eq_nil_of_length_eq_zero hlen.symm
        rw[this,eco]at hne
        have:=E.ok.1
        have h1:(List.range ws.length).length=0:=by rw[hne];rfl
        rw[List.length_range]at h1;omega
      refine Be (GX (A9 (Cq (A9 (A5 rfl (AN (Db rfl rfl ?_)))))))
      refine A9 (E7 (A9 (A5 rfl (A9 (A5 rfl (A9 (A5 rfl (AN ((Ts E (ss:=ss) rfl hss hst).mono ?_)))))))))
      rintro d x ⟨s,hs,rfl,hb⟩
      refine AN ⟨Iq,o,ss,s,?_,hm,hne,hs,hst,hb⟩
      rw[E9];rfl
    . rw[if_pos (by cases h:co ws.length o with|nil=>exact absurd h hne|cons=>rfl)]
      have S:=X6 E hne cl
      refine AX (An (Am (A9 (A5 rfl (A9 (A5 rfl (A9 (A5 rfl (A9 (AY (A5 rfl (Am (A9 (A5 rfl (A9 (A5 rfl (AN ⟨by simp,(RP S.lt S.l8).mono ?_⟩)))))))))))))))))
      rintro d x rfl
      refine⟨_,rfl,Dv (AN ⟨by simp,(Nx E S _).mono ?_⟩)⟩
      rintro d x ⟨u,rfl,hu,ec⟩
      refine⟨_,rfl,AK ?_⟩
      change WS _ [some (.im (Ag ws)),some (.im (.tup (W.map BQ))),some (.im (.int c)),some (.mu 0),some (.mu 1),some (.im (Ap (co ws.length o))),some (.im (.int (u:Int)))] [.lst (AM o),.lst (ss.map Di)] _
      refine AX (Eg (G5 (A5 rfl ⟨⟨_,rfl⟩,A9 (B5 (A9 (A5 rfl (AN (O7 rfl (by simp) (by simp) (CM (by simp[AM];omega)) (AK ?_))))))⟩)))
      refine AX (Eg (G5 (A5 rfl ⟨⟨_,rfl⟩,A9 (A5 rfl (AN (IB rfl (CM (by simp;omega)) (AK ?_))))⟩)))
      refine An (Am (A9 (A5 rfl (A9 (A5 rfl (AN ⟨by simp,(O9 _ u S.l8).mono ?_⟩))))))
      rintro d x rfl
      refine⟨_,rfl,?_⟩
      have hf:=RQ E.R hu
      have hu0:=(List.mem_filter.mp hu).1
      have ecc:=N1 (n:=ws.length) (b:=o) (u:=u)
      have hlt:(co ws.length (u :: o)).length < n:=by
        rw[<- ecc,hn']
        exact P4 hu0
      refine⟨_,hlt,u :: o,ss ++ [co ws.length o],_,by rw[<- ecc];rfl,by simp[AM],.cons u hm hu0 ec hf,Rl cl hf,?_,rfl,by simp[hlen]⟩
      intro s hs
      rcases List.mem_append.mp hs with q|q
      . exact hst s q
      . rw[List.mem_singleton]at q;rw[q];exact S
end
theorem UG{ml:MA}{mb:ME}{ls:Ls}{hd:Hd}{QA:List D->Hd->Prop}(h:WA ml ls hd λ ds x=>WE mb ls x λ e y=>∃ k,e=.im (.int k)/\(0 <= k/\k <= 1000)/\Bs (ds.length * k.toNat)/\QA (List.replicate k.toNat ds).flatten y):WA (LU ml mb) ls hd QA:=by
  obtain⟨ds,x,e1,d,y,e2,k,rfl,h1,h2,q⟩:=h
  exact⟨_,_,by simp only[LU,e1,Option.bind_some,e2,h1,h2,and_self,if_true],q⟩
theorem Tj{ns:List Int}(h:ns ≠ []):FW (intD ns)=some (.im (.int (Co ns))):=by unfold FW;rw[EV];simp[h]
section
variable{ws:List Wg}{c:Int}{cs:Nat->Cost}{W:List (Nat × Nat)}{rk:Nat->Nat}
theorem UD(E:Ev ws c cs W rk){k:Nat}(hk:k < ws.length):(ws[k]).com=c:=E.com _ (List.getElem_mem hk)
noncomputable abbrev Dg(c:Int)(l:Nat->Int)(o:List Nat)(n:Nat)(dn:List Nat):List Int:=(List.range n).map λ k=>if k ∈ dn then En c l o k else 0
inductive I_run(ws:List Wg)(c:Int)(o:List Nat)(r:List D)(ls:Ls)(hd:Hd):Prop
  | mk (dn rest:List Nat) (z4:Option D) (t:Int) (h0:o=dn ++ rest) (h1:r=AM rest) (h2:ls=[some (.im (Ag ws)),some (.im (Ap o)),some (.mu 0),some (.im (.int t)),z4]) (h3:hd=[.lst (intD (Dg c (AI ws) o ws.length dn))]) (h4:max t c=c + (dn.map (AI ws)).sum):I_run ws c o r ls hd
theorem WX(E:Ev ws c cs W rk){o:List Nat}(O:Ord ws.length W o):WF DP [.im (Ag ws),.im (Ap o)] [] λ d x=>d=.mu 0/\x=[.lst (intD ((List.range ws.length).map (En c (AI ws) o)))]:=by
  have hn:=E.ok.2.1
  have nd:o.Nodup:=O.pm.nodup_iff.mpr List.nodup_range
  unfold DP
  refine Bh rfl ?_
  refine AX (An (C9 (UG (EL (A9 (B5 (AN ⟨Ah (by simp),?_⟩)))))))
  refine Cq (A9 (A5 rfl (AN (Db rfl rfl ⟨_,rfl,by simp;omega,Ah (by simp;omega),AK ?_⟩))))
  have e0:(List.replicate (Int.toNat (((ws.map wgI).map D.im).length:Int)) [D.im (.int 0)]).flatten=intD (Dg c (AI ws) o ws.length []):=by
    simp only[intD,Dg,List.length_map,Int.toNat_natCast,List.map_map,Function.comp_def,List.not_mem_nil,if_false]
    rw[show(λ _:Nat=>D.im (.int 0))=Function.const Nat (D.im (.int 0))from rfl,List.map_const,List.length_range]
    simp
  rw[e0]
  refine AX (An (B5 (AK ?_)))
  refine AX (GV (FR (A5 rfl ⟨_,rfl,?_⟩)))
  rw[Ds]
  refine EK (I_run ws c o) ⟨[],o,none,0,rfl,rfl,rfl,rfl,by have:=E.c0;simp;omega⟩ ?_ ?_
  . rintro d r ls hd ⟨dn,rest,z4,t,e1,er,rfl,rfl,ht⟩
    cases rest with
    | nil=>cases er
    | cons k rest=>
      obtain⟨rfl,rfl⟩:=List.cons.inj er
      have hk:k < ws.length:=by simpa using O.pm.mem_iff.mp (show k ∈ o by rw[e1];simp)
      refine⟨_,rfl,?_⟩
      dsimp only[List.set_cons_zero,List.set_cons_succ]
      refine AX (An (AY (Cq (A9 (A5 rfl (A9 (AY (AY (A5 rfl (A5 rfl (Ac (by rw[DU,<- Cl]) (EC hk) (B5 (Ac rfl (Gw _ _ _) (AN (HB ?_)))))))))))))))
      rw[UD E hk]
      refine AY (AY (A5 rfl (A5 rfl (Ac (by rw[DU,<- Cl]) (EC hk) (B5 (Ac rfl (Ea _ _) (Dv (AK ?_))))))))
      rw[Kc hk,ht]
      have eE:En c (AI ws) o k=c + (dn.map (AI ws)).sum + AI ws k:=by
        obtain⟨a,r',f1,f2,f3⟩:=G7 (show k ∈ o by rw[e1];simp)
        have hkd:k ∉ dn:=λ z=>by
          rw[e1]at nd
          exact(List.nodup_append.mp nd).2.2 _ z _ (by simp) rfl
        have fi:o.idxOf k=dn.length:=by
          rw[e1,List.idxOf_append,if_neg hkd];simp
        unfold En
        rw[fi]
        have e4:o.take (dn.length + 1)=dn ++ [k]:=by
          rw[e1,show dn ++ k :: rest=(dn ++ [k]) ++ rest by simp]
          exact List.take_left' (by simp)
        rw[e4];simp;omega
      have hix:ixN (intD (Dg c (AI ws) o ws.length dn)).length (k:Int)=some k:=by
        unfold ixN;simp[intD,hk]
      refine HA (A5 rfl (A5 rfl (A5 rfl ⟨0,(k:Int),k,_,rfl,rfl,rfl,hix,?_⟩)))
      refine⟨Ad _,dn ++ [k],rest,_,_,by rw[e1];simp,rfl,rfl,?_,?_⟩
      . show [MO.lst _]=[MO.lst _]
        congr 2
        rw[<- eE]
        refine List.ext_getElem? λ i=>?_
        rw[List.getElem?_set]
        by_cases hi:k=i
        . subst hi
          simp[intD,Dg,hk]
        . simp only[hi,if_false,intD,Dg,List.getElem?_map,List.map_map]
          by_cases hi2:i < ws.length
          . have h5:(i ∈ dn ∨ i=k) ↔ i ∈ dn:=⟨λ z=>z.resolve_right (λ q=>hi q.symm),.inl⟩
            simp[hi2,h5]
          . simp[hi2]
      . have:=sum_nn E.ln (dn ++ [k])
        simp only[List.map_append,List.sum_append,List.map_cons,List.map_nil,List.sum_cons,List.sum_nil]at *
        omega
  . rintro ls hd ⟨dn,rest,z4,t,e1,er,rfl,rfl,ht⟩
    have:rest=[]:=by cases rest with
      | nil=>rfl
      | cons t r=>cases er
    subst this
    refine AK (Be (A5 rfl ⟨rfl,?_⟩))
    rw[List.append_nil]at e1
    subst e1
    show [MO.lst _]=[MO.lst _]
    congr 3
    refine List.map_congr_left λ k hk=>?_
    rw[if_pos (O.pm.mem_iff.mpr hk)]
noncomputable def gr(n:Nat)(c:Int)(l:Nat->Int)(cs:Nat->Cost)(o:List Nat):Int:=Co ((List.range n).map λ k=>(cs k).at (En c l o k))
theorem XO(E:Ev ws c cs W rk){o:List Nat}{hd:Hd}{j:Nat}(e:hd[j]? = some (.lst (intD ((List.range ws.length).map (En c (AI ws) o))))):WF DQ [.im (Ag ws),.mu j] hd λ d x=>d=.im (.int (gr ws.length c (AI ws) cs o))/\x=hd:=by
  have hn:=E.ok.2.1
  have h0:=E.ok.1
  unfold DQ
  refine Bh rfl ?_
  have eln:(((ws.map wgI).map D.im).length:Int)=(ws.length:Int):=by simp
  refine Be (DT (C7 (JB (A9 (Cq (A9 (A5 rfl (AN (Db rfl rfl ?_)))))))))
  rw[eln]
  refine AN ⟨_,rfl,FY (by omega) (by omega),?_⟩
  rw[Int.toNat_natCast,Dy]
  refine⟨Ah (by simp[AM];omega),?_⟩
  refine Ci (λ k:Nat=>D.im (.int (k:Int))) (λ k=>some (.im (.int ((cs k).at (En c (AI ws) o k))))) (λ _ ls=>∃ x,ls=[some x,some (.im (Ag ws)),some (.mu j)]) _ (Ad _) ?_ ?_
  . rintro k hk' ls hls
    have hkn:k < ws.length:=by simpa using hk'
    refine⟨[some (.im (.int (k:Int))),some (.im (Ag ws)),some (.mu j)],by rcases hls with rfl|⟨_,x,rfl⟩ <;> rfl,⟨_,rfl⟩,Du ⟨rfl,?_⟩⟩
    rw[if_pos rfl]
    refine⟨_,rfl,Am (A9 (AY (AY (A5 rfl (A5 rfl (Ac (by rw[DU,<- Cl]) (EC hkn) (B5 (Ac rfl (Hz _ _ _ _) ?_))))))))⟩
    rw[KB E.hcs hkn]
    refine A9 (AY (A5 rfl (A5 rfl (Ac (ds:=intD ((List.range ws.length).map (En c (AI ws) o))) (by simp[Aw,e]) (Gv (k:=k) (x:=.im (.int (En c (AI ws) o k))) rfl ?_) (AN ⟨by simp,(U3 (E.hcs k hkn).2.1 _).mono ?_⟩)))))
    . simp[intD,hkn]
    . rintro d x rfl
      exact⟨_,rfl,rfl,rfl⟩
  rw[Fq]
  refine⟨_,Tj ?_,rfl,rfl⟩
  have:((List.range ws.length).map λ k=>(cs k).at (En c (AI ws) o k)) ≠ []:=by
    intro z
    have:=congrArg List.length z
    rw[List.length_map,List.length_range]at this
    simp only[List.length_nil]at this
    omega
  exact this
end
end T32
namespace Ed
noncomputable def LeB(l d:Nat->Int):Int->List Nat->Int->Prop
  | _,[],_=>True
  | t,k :: r,B=>t + l k - d k <= B/\LeB l d (t + l k) r B
section
variable{l d:Nat->Int}
theorem Mp:∀ {a b:List Nat} {t B:Int},LeB l d t (a ++ b) B ↔ LeB l d t a B/\LeB l d (t + (a.map l).sum) b B
  | [],b,t,B=>by simp[LeB]
  | x :: a,b,t,B=>by
    rw[List.cons_append,LeB,LeB,Mp,List.map_cons,List.sum_cons,Int.add_assoc,and_assoc]
theorem leB_swap(h0:∀ k,0 <= l k){a r:List Nat}{x y:Nat}{t B:Int}(hd:d y <= d x)(h:LeB l d t (a ++ x :: y :: r) B):LeB l d t (a ++ y :: x :: r) B:=by
  rw[Mp]at h ⊢
  obtain⟨h1,h2,h3,h4⟩:=h
  refine⟨h1,?_,?_,?_⟩
  . have:=h0 x;omega
  . omega
  . rw[show t + (a.map l).sum + l y + l x=t + (a.map l).sum + l x + l y by omega];exact h4
theorem leB_at{o:List Nat}{t B:Int}:LeB l d t o B ↔ ∀ a k r,o=a ++ k :: r->t + (a.map l).sum + l k - d k <= B:=by
  induction o generalizing t with
  | nil=>simp[LeB]
  | cons x o ih=>
    rw[LeB,ih]
    constructor
    . rintro⟨h1,h2⟩ a k r e
      cases a with
      | nil=>cases e;simpa using h1
      | cons y a=>
        have e2:=(List.cons.inj e).2
        have e1:=(List.cons.inj e).1
        subst e1
        have:=h2 a k r e2
        simp only[List.map_cons,List.sum_cons];omega
    . intro h
      refine⟨by simpa using h [] x o rfl,λ a k r e=>?_⟩
      have:=h (x :: a) k r (by rw[e];rfl)
      simp only[List.map_cons,List.sum_cons]at this;omega
end
noncomputable def inv:List Int->Nat
  | []=>0
  | x :: r=>(r.filter λ y=>decide (y < x)).length + inv r
theorem inv_swap{x y:Int}(h:y < x){r:List Int}:∀ a:List Int,inv (a ++ x :: y :: r)=inv (a ++ y :: x :: r) + 1
  | []=>by
    have h2:¬ x < y:=by omega
    simp[inv,h,h2];omega
  | z :: a=>by
    have p:((a ++ x :: y :: r).filter λ w=>decide (w < z)).length=((a ++ y :: x :: r).filter λ w=>decide (w < z)).length:=
      (((List.Perm.swap y x r).append_left a).filter _).length_eq
    rw[List.cons_append,List.cons_append,inv,inv,p,inv_swap h a];omega
theorem P0:∀ L:List Int,2 * inv L <= L.length * (L.length - 1)
  | []=>by simp[inv]
  | x :: r=>by
    have h1:=P0 r
    have h2:=List.length_filter_le (λ y=>decide (y < x)) r
    rw[inv,List.length_cons,Nat.add_sub_cancel]
    generalize r.length=m at h1 h2
    have e:(m + 1) * m=m * m + m:=Nat.succ_mul m m
    have e2:m * (m - 1) + m=m * m:=by
      cases m with
      | zero=>rfl
      | succ n=>rw[Nat.add_sub_cancel];exact(Nat.mul_succ _ _).symm
    rw[e]
    omega
theorem inv_28{L:List Int}(h:L.length <= 8):inv L <= 28:=by
  have h1:=P0 L
  have h2:L.length * (L.length - 1) <= 8 * 7:=Nat.mul_le_mul h (by omega)
  omega
theorem sorted_of:∀ {L:List Int},(∀ a x y r,L=a ++ x :: y :: r->x <= y)->L.Pairwise (· <= ·)
  | [],_=>.nil
  | [x],_=>by simp
  | x :: y :: r,h=>by
    have ih:=sorted_of (L:=y :: r) λ a u v s e=>h (x :: a) u v s (by rw[e];rfl)
    have hxy:=h [] x y r rfl
    refine List.pairwise_cons.mpr ⟨λ z hz=>?_,ih⟩
    rcases List.mem_cons.mp hz with rfl|hz
    . exact hxy
    . exact Int.le_trans hxy ((List.pairwise_cons.mp ih).1 z hz)
theorem psum{L M:List Int}(h:L.Perm M):L.sum=M.sum:=by
  induction h with
  | nil=>rfl
  | cons x _ ih=>simp[ih]
  | swap x y l=>simp;omega
  | trans _ _ ih1 ih2=>exact ih1.trans ih2
theorem sum_nn{l:Nat->Int}(h:∀ k,0 <= l k)(L:List Nat):0 <= (L.map l).sum:=by
  induction L with
  | nil=>simp
  | cons x r ih=>have:=h x;simp;omega
theorem sum_sub{l:Nat->Int}(h:∀ k,0 <= l k):∀ {S T:List Nat},S.Nodup->(∀ x ∈ S,x ∈ T)->(S.map l).sum <= (T.map l).sum
  | [],T,_,_=>by simpa using sum_nn h T
  | x :: r,T,nd,hs=>by
    obtain⟨h1,h2⟩:=List.nodup_cons.mp nd
    have e:=psum ((List.perm_cons_erase (hs x (by simp))).map l)
    have ih:=sum_sub h (S:=r) (T:=T.erase x) h2 λ y hy=>(List.mem_erase_of_ne (λ z:y=x=>h1 (by rw[<- z];exact hy))).mpr (hs y (by simp[hy]))
    simp only[List.map_cons,List.sum_cons]at e ⊢
    omega
theorem Mq{P:List Nat}:∀ {o:List Nat},(∃ x ∈ o,x ∈ P)->∃ a v r,o=a ++ v :: r/\v ∈ P/\∀ x ∈ r,x ∉ P
  | [],h=>by obtain⟨x,hx,_⟩:=h;cases hx
  | y :: s,h=>by
    by_cases q:∃ x ∈ s,x ∈ P
    . obtain⟨a,v,r,e,h1,h2⟩:=Mq q
      exact⟨y :: a,v,r,by rw[e];rfl,h1,h2⟩
    . obtain⟨x,hx,hp⟩:=h
      refine⟨[],y,s,rfl,?_,λ x hx hp=>q ⟨x,hx,hp⟩⟩
      rcases List.mem_cons.mp hx with rfl|hx
      . exact hp
      . exact absurd ⟨x,hx,hp⟩ q
theorem edd{l d:Nat->Int}(h0:∀ k,0 <= l k){o o':List Nat}(pm:o'.Perm o)(nd:o.Nodup)(hs:(o.map d).Pairwise (· <= ·)){t B:Int}(h:LeB l d t o' B):LeB l d t o B:=by
  rw[leB_at]at h ⊢
  intro a k r e
  obtain⟨a',v,r',e',hv,hr⟩:=Mq (P:=a ++ [k]) (o:=o') ⟨k,pm.mem_iff.mpr (by rw[e];simp),by simp⟩
  have h1:=h a' v r' e'
  have nP:(a ++ [k]).Nodup:=by
    rw[e,show a ++ k :: r=(a ++ [k]) ++ r by simp]at nd
    exact(List.nodup_append.mp nd).1
  have h2:=sum_sub h0 (S:=a ++ [k]) (T:=a' ++ [v]) nP λ x hx=>by
    have hx':x ∈ o':=pm.mem_iff.mpr (by rw[e,show a ++ k :: r=(a ++ [k]) ++ r by simp];exact List.mem_append_left _ hx)
    rw[e',show a' ++ v :: r'=(a' ++ [v]) ++ r' by simp]at hx'
    rcases List.mem_append.mp hx' with q|q
    . exact q
    . exact absurd hx (hr x q)
  have h3:d v <= d k:=by
    rw[e,show a ++ k :: r=a ++ ([k] ++ r) by simp,List.map_append,List.pairwise_append]at hs
    rcases List.mem_append.mp hv with q|q
    . exact hs.2.2 (d v) (List.mem_map.mpr ⟨v,q,rfl⟩) (d k) (by simp)
    . rw[List.mem_singleton]at q;rw[q];exact Int.le_refl _
  simp only[List.map_append,List.sum_append,List.map_cons,List.map_nil,List.sum_cons,List.sum_nil]at h2
  omega
end Ed
namespace T32
open PySem L2 Bd Hds
theorem HP:F_run=Bd.F_run:=rfl
theorem Vx:F_ends_of=Bd.F_ends_of:=rfl
theorem Ei:F_worth=Bd.F_worth:=rfl
theorem OC{F:List D->Hd->Option (D × Hd)}{m:MA}{ls:Ls}{hd:Hd}{QE:D->Hd->Prop}(h:WA m ls hd λ ds rest=>BN 0 ds=true/\WF F ds [] λ d x=>∃ k es,d=.mu k/\x[k]? = some (.lst es)/\BN 0 es=true/\QE (.mu rest.length) (rest ++ [.lst es])):WE (AC 0 F m) ls hd QE:=by
  obtain⟨ds,rest,e,hc,d,x,e2,k,es,rfl,e3,c3,q⟩:=h
  refine⟨_,_,?_,q⟩
  have t3:¬ k < 0:=by omega
  simp only[AC,e,Option.bind_some,List.take_zero,hc,e2,fin,if_neg t3,e3,c3,if_true]
  simp
theorem WW{v:Int}(a:-1000000 <= v)(b:v <= 1000000):Q7 v.natAbs.log2:=by
  have h0:v.natAbs < 2 ^ 60:=by omega
  unfold Q7
  by_cases z:v.natAbs=0
  . rw[z];decide
  . have:=(Nat.log2_lt z).mpr h0;omega
theorem KZ{hd:Hd}{QE:D->Hd->Prop}{v:Int}(h:-1000000 <= v/\v <= 1000000)(q:QE (.im (.str (toString v))) hd):WP (Ft [.im (.int v)] hd) QE:=⟨_,_,by simp[Ft,WW h.1 h.2],q⟩
theorem Nq{c:Int}{l:Nat->Int}{o dn rest:List Nat}{k:Nat}(nd:o.Nodup)(e1:o=dn ++ k :: rest):En c l o k=c + (dn.map l).sum + l k:=by
  have hkd:k ∉ dn:=λ z=>by
    rw[e1]at nd
    exact(List.nodup_append.mp nd).2.2 _ z _ (by simp) rfl
  have fi:o.idxOf k=dn.length:=by
    rw[e1,List.idxOf_append,if_neg hkd];simp
  unfold En
  rw[fi]
  have e4:o.take (dn.length + 1)=dn ++ [k]:=by
    rw[e1,show dn ++ k :: rest=(dn ++ [k]) ++ rest by simp]
    exact List.take_left' (by simp)
  rw[e4];simp;omega
section
variable{ws:List Wg}{c:Int}{cs:Nat->Cost}{W:List (Nat × Nat)}{rk:Nat->Nat}
noncomputable def Ca(ws:List Wg)(cs:Nat->Cost):List Wk:=(List.range ws.length).map λ k=>⟨AI ws k,CJ ws k,cs k⟩
theorem HC:(Ca ws cs).length=ws.length:=by simp[Ca]
theorem Rq(E:Ev ws c cs W rk):Cs (Ca ws cs)=Ag ws:=by
  unfold Ca
  show I.tup _=I.tup _
  congr 1
  refine List.ext_getElem? λ i=>?_
  by_cases hi:i < ws.length
  . simp[hi,Cp,wgI,KB E.hcs hi,AI,CJ]
  . simp[hi]
theorem Lq(E:Ev ws c cs W rk){o:List Nat}(nd:o.Nodup)(ho:∀ k ∈ o,k < ws.length):∀ (rest dn:List Nat) (t:Int),o=dn ++ rest->max t c=c + (dn.map (AI ws)).sum->FP (Dg c (AI ws) o ws.length dn) (Dx (Ca ws cs) rest t)=Dg c (AI ws) o ws.length (dn ++ rest)
  | [],dn,t,e,h=>by rw[List.append_nil];rfl
  | k :: rest,dn,t,e,h=>by
    have hk:=ho k (by rw[e];simp)
    have hw:(Ca ws cs)[k]? = some ⟨AI ws k,CJ ws k,cs k⟩:=by simp[Ca,hk]
    rw[Dx,hw]
    dsimp only
    rw[E.cm hk]
    have em:(if t > c then t else c)=max t c:=by split <;> omega
    rw[em,h,FP]
    dsimp only
    have eE:=Nq (c:=c) (l:=AI ws) nd e
    rw[<- eE]
    have es:(Dg c (AI ws) o ws.length dn).set k (En c (AI ws) o k)=Dg c (AI ws) o ws.length (dn ++ [k]):=by
      refine List.ext_getElem? λ i=>?_
      rw[List.getElem?_set]
      by_cases hi:k=i
      . subst hi
        simp[Dg,hk]
      . simp only[hi,if_false,Dg,List.getElem?_map]
        by_cases hi2:i < ws.length
        . have h5:(i ∈ dn ∨ i=k) ↔ i ∈ dn:=⟨λ z=>z.resolve_right (λ q=>hi q.symm),.inl⟩
          simp[hi2,h5]
        . simp[hi2]
    rw[es,Lq E nd ho rest (dn ++ [k]) _ (by rw[e];simp) ?_]
    . simp
    . have:=sum_nn E.ln (dn ++ [k])
      simp only[List.map_append,List.sum_append,List.map_cons,List.map_nil,List.sum_cons,List.sum_nil]at *
      omega
theorem MV{ws:List Wk}:∀ {ks:List Nat} {e:Int},∀ p ∈ Dx ws ks e,p.1 < ws.length
  | [],e,p,h=>by simp[Dx]at h
  | k :: ks,e,p,h=>by
    rw[Dx]at h
    cases hw:ws[k]? with
    | none=>rw[hw]at h;simp at h
    | some w=>
      rw[hw]at h
      rcases List.mem_cons.mp h with rfl|h
      . exact(List.getElem?_eq_some_iff.mp hw).1
      . exact MV p h
theorem Lr(g:Nat->Int):DY (Ca ws cs) ((List.range ws.length).map g)=(List.range ws.length).map λ k=>(cs k).at (g k):=by
  unfold DY Ca
  rw[List.zipWith_map,List.zipWith_self]
theorem P2(E:Ev ws c cs W rk)(g:Nat->Int):((List.range ws.length).map g) ≠ []:=by
  have h0:=E.ok.1
  intro z
  have:=congrArg List.length z
  rw[List.length_map,List.length_range]at this
  simp only[List.length_nil]at this
  omega
theorem Oh{n:Nat}{o:List Nat}(O:Ord n W o){k:Nat}(hk:k ∈ o):k < n:=by simpa using O.pm.mem_iff.mp hk
theorem Sa(E:Ev ws c cs W rk){o:List Nat}(O:Ord ws.length W o):∃ p,(∃ g,F_run [.im (Ag ws),.im (Ap o)] []=some (.im p,g))/\(∃ g,F_ends_of [.im (Ag ws),.im p] []=some (.im (Ef ((List.range ws.length).map (En c (AI ws) o))),g)):=by
  have hn:=E.ok.2.1
  have nd:o.Nodup:=O.pm.nodup_iff.mpr List.nodup_range
  have hl:o.length=ws.length:=by simpa using O.pm.length_eq
  obtain⟨g,e1⟩:=UN (Ca ws cs) o (λ k hk=>by rw[HC];exact Oh O hk) (by omega)
  obtain⟨g2,e2⟩:=Np (Ca ws cs) (Dx (Ca ws cs) o 0) (λ p hp=>MV p hp) (by rw[HC];omega)
  rw[Rq E]at e1 e2
  refine⟨_,⟨g,e1⟩,g2,?_⟩
  rw[Vx,e2]
  have h0:List.replicate (Ca ws cs).length (0:Int)=Dg c (AI ws) o ws.length []:=by
    rw[HC]
    refine List.ext_getElem? λ i=>?_
    by_cases hi:i < ws.length
    . simp[Dg,hi]
    . simp[Dg,hi]
  rw[h0,Lq E nd (λ k hk=>Oh O hk) o [] 0 rfl (by have:=E.c0;simp;omega)]
  congr 5
  refine List.map_congr_left λ k hk=>?_
  rw[if_pos (by simpa using O.pm.mem_iff.mpr hk)]
theorem Pj(E:Ev ws c cs W rk)(o:List Nat):F_worth [.im (Ag ws),.im (Ef ((List.range ws.length).map (En c (AI ws) o))),.im (.str "greatest")] []=some (.im (.int (gr ws.length c (AI ws) cs o)),[]):=by
  have hn:=E.ok.2.1
  have hw:∀ w ∈ Ca ws cs,w.cost.wok:=λ w hw=>by
    obtain⟨k,hk,rfl⟩:=List.mem_map.mp hw
    exact LM (E.hcs k (by simpa using hk)).2.1
  have e:=O8 (Ca ws cs) ((List.range ws.length).map (En c (AI ws) o)) hw (by rw[HC];omega) (by rw[Lr];exact P2 E _)
  rw[Lr,Rq E]at e
  exact e
theorem grE(E:Ev ws c cs W rk){o:List Nat}(O:Ord ws.length W o){ls:Ls}{hd:Hd}{i j:Nat}(e1:ls[i]? = some (some (.im (Ag ws))))(e2:ls[j]? = some (some (Di o))){QE:D->Hd->Prop}(q:∀ g,QE (.im (.int (gr ws.length c (AI ws) cs o))) (hd ++ g)) :
    WE (ET DQ (A2 (A0 i) (A2 (AC 0 DP (A2 (A0 i) (A2 (A0 j) A6))) A6))) ls hd QE:=by
  refine E7 (A9 (A5 e1 (A9 (OC (A9 (A5 e1 (A9 (A5 e2 (AN ⟨by simp,(WX E O).mono ?_⟩)))))))))
  rintro d x ⟨rfl,rfl⟩
  refine⟨0,_,rfl,rfl,Jv _ _,AN ((XO E (o:=o) ?_).mono ?_)⟩
  . rw[List.getElem?_append_right (Nat.le_refl _),Nat.sub_self];rfl
  . rintro d x ⟨rfl,rfl⟩
    exact q _
theorem SG(E:Ev ws c cs W rk){o:List Nat}{k:Nat}(hk:k < ws.length):(cs k).at (En c (AI ws) o k) <= gr ws.length c (AI ws) cs o:=
  (Bu (xs:=(List.range ws.length).map λ k=>(cs k).at (En c (AI ws) o k)) (List.ne_nil_of_mem (List.mem_map.mpr ⟨k,by simpa using hk,rfl⟩))).2 _ (List.mem_map.mpr ⟨k,by simpa using hk,rfl⟩)
theorem Nh(E:Ev ws c cs W rk)(o:List Nat):∃ k,k < ws.length/\gr ws.length c (AI ws) cs o=(cs k).at (En c (AI ws) o k):=by
  obtain⟨k,hk,e⟩:=List.mem_map.mp (Bu (P2 E λ k=>(cs k).at (En c (AI ws) o k))).1
  exact⟨k,by simpa using hk,e.symm⟩
end
structure El(ws:List Wg)(c:Int)(d:Nat->Int):Prop where
  ev:Ev ws c (λ k=>.late (d k)) [] (λ _=>0)
  co:∀ k (h:k < ws.length),(ws[k]).co=.tup [.str "late",.int (d k)]
  c60:c <= 60
  bd:∀ k,k < ws.length->-1000 <= d k/\d k <= 1000
section
variable{ws:List Wg}{c:Int}{d:Nat->Int}
noncomputable abbrev G(ws:List Wg)(c:Int)(d:Nat->Int)(o:List Nat):Int:=gr ws.length c (AI ws) (λ k=>.late (d k)) o
theorem Va{n:Nat}{o:List Nat}(pm:o.Perm (List.range n)):Ord n [] o:=⟨pm,(by intro p hp;cases hp)⟩
theorem Ou(E:El ws c d):∀ {ks:List Nat},(∀ k ∈ ks,k < ws.length)->(ks.map (AI ws)).sum <= 20 * ks.length
  | [],_=>by simp
  | k :: r,h=>by
    have ih:=Ou E (ks:=r) λ x hx=>h x (by simp[hx])
    have hk:=h k (by simp)
    have:=(E.ev.ok.2.2 ws[k] (List.getElem_mem hk)).1.2
    rw[Kc hk]at this
    simp only[List.map_cons,List.sum_cons,List.length_cons]
    omega
theorem Xe(E:El ws c d){o:List Nat}(pm:o.Perm (List.range ws.length)):-1000000 <= G ws c d o/\G ws c d o <= 1000000:=by
  obtain⟨k,hk,e⟩:=Nh E.ev o
  have hb:=E.bd k hk
  have hc:=E.ev.c0
  have h6:=E.c60
  have hn:=E.ev.ok.2.1
  have h1:=sum_nn E.ev.ln (o.take (o.idxOf k + 1))
  have h2:=Ou E (ks:=o.take (o.idxOf k + 1)) λ x hx=>by simpa using pm.mem_iff.mp (List.mem_of_mem_take hx)
  have h3:(o.take (o.idxOf k + 1)).length <= 8:=by
    have:o.length=ws.length:=by simpa using pm.length_eq
    rw[List.length_take];omega
  have e':G ws c d o=c + ((o.take (o.idxOf k + 1)).map (AI ws)).sum - d k:=e
  rw[e'];omega
theorem Go(E:El ws c d){o:List Nat}(pm:o.Perm (List.range ws.length)):WF DI [.im (Ag ws),.im (Ap o)] [] λ z x=>z=.im (.int (G ws c d o)):=by
  have O:=Va pm
  obtain⟨p,⟨g1,e1⟩,g2,e2⟩:=Sa E.ev O
  have e3:=Pj E.ev o
  have hb:=Xe E pm
  unfold DI
  refine Bh rfl ?_
  refine AX (An (Am (A9 (A5 rfl (A9 (Am (A9 (A5 rfl (A9 (Am (A9 (A5 rfl (A9 (A5 rfl (AN ⟨by simp,WP.eq e1 ⟨_,rfl,?_⟩⟩)))))))))))))))
  refine AN ⟨by simp,WP.eq e2 ⟨_,rfl,?_⟩⟩
  refine A9 (B5 (AN ⟨by simp,WP.eq e3 ⟨_,rfl,AK ?_⟩⟩))
  refine AX (An (grE E.ev O rfl rfl λ g=>AK ?_))
  refine Be (OB (BF (AY (Cq (A9 (A5 rfl (AN (KZ hb (Cq (A9 (A5 rfl (AN (KZ hb (EJ ⟨_,rfl,λ _=>A5 rfl rfl,?_⟩))))))))))))))
  intro h;simp at h
theorem O4(E:El ws c d){o:List Nat}(pm:o.Perm (List.range ws.length)){B:Int}:G ws c d o <= B ↔ Ed.LeB (AI ws) d c o B:=by
  have nd:o.Nodup:=pm.nodup_iff.mpr List.nodup_range
  rw[Ed.leB_at]
  constructor
  . intro h a k r e
    have hk:k < ws.length:=by simpa using pm.mem_iff.mp (show k ∈ o by rw[e];simp)
    have h1:En c (AI ws) o k - d k <= G ws c d o:=SG E.ev hk
    rw[Nq nd e]at h1
    omega
  . intro h
    obtain⟨k,hk,e⟩:=Nh E.ev o
    obtain⟨a,r,e1,_,_⟩:=G7 (pm.mem_iff.mpr (by simpa using hk:k ∈ List.range ws.length))
    have h1:=h a k r e1
    have e':G ws c d o=En c (AI ws) o k - d k:=e
    rw[Nq nd e1]at e'
    omega
theorem WD(E:El ws c d){a r:List Nat}{x y:Nat}(pm:(a ++ x :: y :: r).Perm (List.range ws.length))(hd:d y <= d x):(a ++ y :: x :: r).Perm (List.range ws.length)/\G ws c d (a ++ y :: x :: r) <= G ws c d (a ++ x :: y :: r):=by
  have pm':(a ++ y :: x :: r).Perm (List.range ws.length):=((List.Perm.swap x y r).append_left a).trans pm
  exact⟨pm',(O4 E pm').mpr (Ed.leB_swap E.ev.ln hd ((O4 E pm).mp (Int.le_refl _)))⟩
theorem WG(E:El ws c d){o o':List Nat}(pm:o.Perm (List.range ws.length))(hs:(o.map d).Pairwise (· <= ·)){ss:List (List Nat)}{s:List Nat}(hm:Made ws.length c (AI ws) (λ k=>.late (d k)) [] o' ss)(hco:co ws.length o'=[])(hs':s ∈ ss)(hst:∀ s ∈ ss,St ws [] s)(hb:∀ s' ∈ ss,bd c (AI ws) (λ k=>.late (d k)) [] s' <= bd c (AI ws) (λ k=>.late (d k)) [] s) :
    o'.Perm (List.range ws.length)/\G ws c d o=G ws c d o':=by
  have O:=hm.ord (λ p hp=>by cases hp) hco
  refine⟨O.pm,Int.le_antisymm ?_ ?_⟩
  . exact(O4 E pm).mpr (Ed.edd E.ev.ln (O.pm.trans pm.symm) (pm.nodup_iff.mpr List.nodup_range) hs ((O4 E O.pm).mp (Int.le_refl _)))
  . have S:=hst s hs'
    have nd:s.Nodup:=by
      obtain⟨r,e,_⟩:=hm.sets s hs'
      rw[e];exact List.nodup_range.filter _
    obtain⟨v,hv,h1⟩:=Wz E.ev.R (c:=c) E.ev.ln (λ k hk=>(E.ev.hcs k hk).2.1) (Va pm) S.ne nd S.lt
    have h2:_ <= G ws c d o:=SG E.ev (S.lt v hv)
    obtain⟨k,hk,ek⟩:=Nh E.ev o'
    obtain⟨s',hs2,e⟩:=hm.cost O.pm hk
    have h3:=hb s' hs2
    have e4:G ws c d o'=_:=ek.trans e
    rw[e4]
    exact Int.le_trans h3 (Int.le_trans h1 h2)
end
theorem OE{mi:MI}{ls:Ls}{hd:Hd}{QA:List D->Hd->Prop}(h:WI mi ls hd λ p x=>∃ ns:List Int,p.1=intD ns/\ns.length < 64/\QA (intD (Bq ns)) x):WA (DL mi) ls hd QA:=by
  obtain⟨p,x,e,ns,e1,hl,q⟩:=h
  refine⟨_,_,?_,q⟩
  simp only[DL,e,Option.bind_some,e1,EV,hl,if_true]
theorem lay_ints(ns:List Int):PyData.canLayAll0 (ns.map PyData.int)=true:=by
  induction ns with
  | nil=>rfl
  | cons x r ih=>simp[PyData.canLayAll0,PyData.canLay0]at ih ⊢;try exact ih
theorem Rh(ns:List Int):PyData.depthAll (ns.map PyData.int) <= 1:=by
  induction ns with
  | nil=>simp[PyData.depthAll]
  | cons x r ih=>simp[PyData.depthAll,PyData.depth]at ih ⊢;try omega
theorem JM{hd:Hd}{k:Nat}{ns:List Int}(e:hd[k]? = some (.lst (intD ns))):pyD hd (.mu k)=some (.list (ns.map PyData.int)):=by
  show(match hd[k]? with|some (.lst ds)=>(Bl ds).map λ is=>PyData.list (I.pys is)|_=>none)=_
  rw[e]
  show(Bl (ns.map λ i=>D.im (.int i))).map _=_
  rw[GQ,Option.map_some,GD]
theorem SU{ml:MA}{ma:ME}{ls:Ls}{hd:Hd}{QE:D->Hd->Prop}{ns:List Int}(h:WE ma ls hd λ d x=>WA ml ls x λ ds y=>pyD y d=some (.list (ns.map PyData.int))/\ds=intD ns/\QE (.im (.bl true)) y):WE (E5 false ma ml) ls hd QE:=by
  obtain⟨d,x,e,ds,y,e2,e3,rfl,q⟩:=h
  refine⟨_,y,?_,q⟩
  have c1:(PyData.list (ns.map PyData.int)).canLay0=true:=by rw[PyData.canLay0,lay_ints]
  have c2:(PyData.list (ns.map PyData.int)).depth <= 60:=by
    rw[PyData.depth]
    have:=Rh ns
    omega
  unfold E5
  rw[e]
  simp only[Option.bind_some,e2,e3]
  rw[show Bl (intD ns)=some (ns.map I.int)from GQ ns,Option.bind_some,GD]
  simp only[Lp,c1,Nat.min_self,c2,and_self,if_true,PySem.SeqAt.eqv_refl _ c1,Bool.false_eq_true,if_false]
theorem Ml(L:List Nat):AM L=intD (L.map λ k:Nat=>(k:Int)):=by simp[AM,intD]
theorem XY(A R:List Nat)(x y:Nat):FF (AM (A ++ x :: y :: R)) (some (A.length:Int)) (some ((A.length:Int) + 2))=AM [x,y]:=by
  unfold FF
  have hl:(AM (A ++ x :: y :: R)).length=A.length + (R.length + 2):=by simp
  rw[show((A.length:Int) + 2)=((A.length + 2:Nat):Int) by omega,HT.sIx_nat,HT.sIx_nat,hl,Nat.min_eq_left (by omega),Nat.min_eq_left (by omega),Nat.add_sub_cancel_left]
  have e:AM (A ++ x :: y :: R)=AM A ++ (AM [x,y] ++ AM R):=by simp
  rw[e,List.drop_left' (by simp),List.take_left' (by simp)]
theorem XH(A R:List Nat)(x y:Nat):(AM (A ++ x :: y :: R)).take (A.length:Int).toNat ++ (AM [x,y]).reverse ++ (AM (A ++ x :: y :: R)).drop ((A.length:Int) + 2).toNat=AM (A ++ y :: x :: R):=by
  rw[Int.toNat_natCast,show((A.length:Int) + 2).toNat=A.length + 2 by omega]
  have e:AM (A ++ x :: y :: R)=AM A ++ (AM [x,y] ++ AM R):=by simp
  have e2:AM (A ++ x :: y :: R)=(AM A ++ AM [x,y]) ++ AM R:=by simp
  have t1:(AM (A ++ x :: y :: R)).take A.length=AM A:=by rw[e];exact List.take_left' (by simp)
  have t2:(AM (A ++ x :: y :: R)).drop (A.length + 2)=AM R:=by rw[e2];exact List.drop_left' (by simp)
  rw[t1,t2];simp
noncomputable def fl(D:List Int):List Nat:=(List.range (D.length - 1)).filter λ i=>decide (D[i + 1]?.getD 0 < D[i]?.getD 0)
theorem X1{o:List Nat}{d:Nat->Int}{i:Nat}(h:i ∈ fl (o.map d)):∃ A x y R,o=A ++ x :: y :: R/\A.length=i/\d y < d x:=by
  obtain⟨h1,h2⟩:=List.mem_filter.mp h
  have h1:i < o.length - 1:=by simpa using h1
  have a1:i < o.length:=by omega
  have a2:i + 1 < o.length:=by omega
  refine⟨o.take i,o[i],o[i + 1],o.drop (i + 2),?_,by rw[List.length_take];omega,?_⟩
  . rw[<- List.drop_eq_getElem_cons a2,<- List.drop_eq_getElem_cons a1,List.take_append_drop]
  . simpa [a1,a2]using h2
theorem Vv{o:List Nat}{d:Nat->Int}(h:fl (o.map d)=[]):(o.map d).Pairwise (· <= ·):=by
  refine Ed.sorted_of λ a x y r e=>?_
  have h1:=List.filter_eq_nil_iff.mp h a.length (by rw[List.mem_range,e];simp)
  rw[e]at h1
  have:¬ y < x:=by simpa using h1
  omega
theorem SF:∀ {L:List Int},L.Pairwise (· <= ·)->Ed.inv L=0
  | [],_=>rfl
  | x :: r,h=>by
    obtain⟨h1,h2⟩:=List.pairwise_cons.mp h
    rw[Ed.inv,SF h2,Nat.add_zero,List.length_eq_zero_iff,List.filter_eq_nil_iff]
    intro y hy
    have:=h1 y hy
    simp;omega
theorem Nd{L:List Int}(h:Ed.inv L=0):L.Pairwise (· <= ·):=by
  refine Ed.sorted_of λ a x y r e=>?_
  refine Classical.byContradiction λ q=>?_
  rw[e,Ed.inv_swap (by omega:y < x) a]at h
  omega
section
variable{ws:List Wg}{c:Int}{d:Nat->Int}
theorem PB(E:El ws c d){o:List Nat}(pm:o.Perm (List.range ws.length)){ls:Ls}{hd:Hd}(e2:ls[2]? = some (some (.im (Ag ws))))(e4:ls[4]? = some (some (.mu 5)))(e5:hd[5]? = some (.lst (AM o))){QA:List D->Hd->Prop}(q:QA (intD (o.map d)) hd) :
    WA (BK 1 [2] (Dk (A0 4)) (AF 0) C6 (mOp gIx (mOp gIx (mOp gIx (A0 1) (A0 0)) (mC (.int 2))) (mC (.int 1)))) ls hd QA:=by
  have hn:=E.ev.ok.2.1
  have hl:o.length=ws.length:=by simpa using pm.length_eq
  refine C7 (Kb (A5 e4 ⟨5,AM o,rfl,e5,Ah (by simp[AM];omega),?_⟩))
  have ec:C5 1 [2] ls=[none,some (.im (Ag ws))]:=by simp[C5,e2]
  rw[ec]
  refine Ci (λ k:Nat=>D.im (.int (k:Int))) (λ k=>some (.im (.int (d k)))) (λ _ ls=>∃ x,ls=[some x,some (.im (Ag ws))]) _ (by intro q hq;rw[List.mem_singleton]at hq;subst hq;exact e5) ?_ ?_
  . rintro k hk ls hls
    have hkn:k < ws.length:=by simpa using pm.mem_iff.mp hk
    refine⟨[some (.im (.int (k:Int))),some (.im (Ag ws))],by rcases hls with rfl|⟨_,x,rfl⟩ <;> rfl,⟨_,rfl⟩,Du ⟨rfl,?_⟩⟩
    rw[if_pos rfl]
    refine⟨_,rfl,AY (AY (AY (A5 rfl (A5 rfl (Ac (by rw[DU,<- Cl]) (EC hkn) (B5 (Ac rfl (Hz _ _ _ _) (B5 ?_))))))))⟩
    rw[E.co k hkn]
    exact Ac rfl (Gw _ _ _) ⟨rfl,rfl⟩
  . rw[Fq];exact q
theorem UK{D:List Int}{os:List L2.D}(h1:1 <= D.length)(h8:D.length <= 8){ls:Ls}{hd:Hd}(e4:ls[4]? = some (some (.mu 5)))(e7:ls[7]? = some (some (.mu 6)))(e5:hd[5]? = some (.lst os))(hlen:os.length=D.length)(e6:hd[6]? = some (.lst (intD D))){QA:List L2.D->Hd->Prop}(q:QA (AM (fl D)) hd) :
    WA (BK 1 [7] (FT (A2 (mOp EG (mCB (f1 true CL) (A2 (A0 4) A6)) (mC (.int 1))) A6)) (AF 0) (AR (mOp gLt (mOp gIx (A0 1) (mOp B2 (A0 0) (mC (.int 1)))) (mOp gIx (A0 1) (A0 0)))) (A0 0)) ls hd QA:=by
  refine C7 (JB (A9 (AY (Cq (A9 (A5 e4 (AN (Db (ds:=os) (by simp[Aw,e5]) rfl (B5 (I0 (AN ⟨_,rfl,FY (by omega) (by omega),?_⟩)))))))))))
  rw[show((os.length:Int) - 1).toNat=D.length - 1 by omega,Dy]
  refine⟨Ah (by simp[AM];omega),?_⟩
  have ec:C5 1 [7] ls=[none,some (.mu 6)]:=by simp[C5,e7]
  rw[ec]
  refine Ci (λ k:Nat=>L2.D.im (.int (k:Int))) (λ k=>if D[k + 1]?.getD 0 < D[k]?.getD 0 then some (.im (.int (k:Int)))else none) (λ _ ls=>∃ x,ls=[some x,some (.mu 6)]) _ (Ad _) ?_ ?_
  . rintro k hk ls hls
    have hk:k < D.length - 1:=by simpa using hk
    have a1:k < D.length:=by omega
    have a2:k + 1 < D.length:=by omega
    refine⟨[some (.im (.int (k:Int))),some (.mu 6)],by rcases hls with rfl|⟨_,x,rfl⟩ <;> rfl,⟨_,rfl⟩,BF (AY (AY (A5 rfl (AY (A5 rfl (B5 (Dv ?_)))))))⟩
    refine Ac (ds:=intD D) (by simp[Aw,e6]) (Gv (k:=k + 1) (x:=.im (.int D[k + 1])) (by omega) (by simp[intD,a2])) (AY (A5 rfl (A5 rfl (Ac (ds:=intD D) (by simp[Aw,e6]) (Gv (k:=k) (x:=.im (.int D[k])) rfl (by simp[intD,a1])) (K8 ⟨_,rfl,rfl,?_⟩)))))
    by_cases h:D[k + 1] < D[k]
    . rw[if_pos (by simpa using h)]
      exact⟨_,by simp[a1,a2,h],A5 rfl ⟨rfl,rfl⟩⟩
    . rw[if_neg (by simpa using h)]
      simp[a1,a2];omega
  . rw[SI];exact q
end
theorem X4{ws:List Wg}{c:Int}(h:Vj ws)(hc:∀ w ∈ ws,w.com=c):∃ d,El ws c d:=by
  have hx:∀ k,∃ due:Int,∀ hk:k < ws.length,(ws[k]).co=.tup [.str "late",.int due]/\-1000 <= due/\due <= 1000:=λ k=>by
    by_cases hk:k < ws.length
    . obtain⟨_,_,due,e,b⟩:=h.2.2 ws[k] (List.getElem_mem hk)
      exact⟨due,λ _=>⟨e,b⟩⟩
    . exact⟨0,λ q=>absurd q hk⟩
  obtain⟨d,hd⟩:=Classical.skolem.mp hx
  refine⟨d,⟨⟨h.1,h.2.1,λ w hw=>Wp (h.2.2 w hw)⟩,hc,λ k hk=>⟨?_,trivial,?_⟩,by simp,⟨(by intro p hp;cases hp),(by intro p hp;cases hp)⟩,λ k hk=>by omega⟩,λ k hk=>(hd k hk).1,?_,λ k hk=>(hd k hk).2⟩
  . rw[List.getElem?_eq_getElem hk,Option.map_some,(hd k hk).1];rfl
  . have:=(hd k hk).2;simp only[Iz];omega
  . have h0:=h.1
    have:=(h.2.2 ws[0] (List.getElem_mem h0)).2.1.2
    rw[hc _ (List.getElem_mem h0)]at this
    exact this
inductive I_dr(ns:List Int)(ws:List Wg)(m:Nat)(ls:Ls)(hd:Hd):Prop
  | mk (left seq:List Nat) (a b:MO) (h1:ls=[some (.ro ns),some (.mu 1),some (.im (Ag ws)),some (.mu 4),some (.mu 5),none,none,none,none,none,none]) (h2:hd=[a,b,W1,V4,.lst (AM left),.lst (AM seq)]) (h3:m=left.length) (h4:T (100 + m) a b) (h5:(seq ++ left).Perm (List.range ws.length)):I_dr ns ws m ls hd
inductive I_turn(ns:List Int)(ws:List Wg)(c:Int)(d:Nat->Int)(r:List D)(ls:Ls)(hd:Hd):Prop
  | mk (o:List Nat) (a b:MO) (z6 z7 z8 z9 z10:Option D) (h1:ls=[some (.ro ns),some (.mu 1),some (.im (Ag ws)),some (.mu 4),some (.mu 5),some (.im (.int (G ws c d o))),z6,z7,z8,z9,z10]) (h2:hd=[a,b,W1,V4,.lst [],.lst (AM o)]) (h3:T r.length a b) (h4:o.Perm (List.range ws.length)) (h5:Ed.inv (o.map d) <= r.length):I_turn ns ws c d r ls hd
set_option maxHeartbeats 4000000 in
theorem X0(ns:List Int):WF F_law [.ro ns] [] λ d x=>d=.im (.bl true):=by
  unfold F_law
  refine Bh rfl ?_
  refine AX (An (E7 (A9 (A5 rfl (AN ((Vw ns).mono ?_))))))
  rintro d x ⟨rfl,a,b,hT,rfl⟩
  refine AK ?_
  have hT:T (200 + 300) a b:=tap.le hT (by omega)
  refine AX (An ?_)
  refine tap.callX (n:=200) (c:=300) hT [W1,V4] (rest:=[]) (as:=[.im (.int 8),.mu 2,.mu 3]) (by simp) rfl rfl rfl (SS _) ?_
  rintro i a b hT ⟨ws,c,rfl,hok,hcom⟩
  obtain⟨d,E⟩:=X4 hok hcom
  clear hok hcom
  have hn:=E.ev.ok.2.1
  have hn1:=E.ev.ok.1
  refine AK ?_
  have eln:(((ws.map wgI).map D.im).length:Int)=(ws.length:Int):=by simp
  refine AX (An (C9 (SX (k:=(ws.length:Int)) (by simp[CL]) (Hi (by omega) (by omega)) (AK ?_))))
  refine AX (An (C9 (EL (AN ⟨Ah (by simp),AK ?_⟩))))
  rw[Int.toNat_natCast,Dy]
  change WS _ [some (.ro ns),some (.mu 1),some (.im (Ag ws)),some (.mu 4),some (.mu 5),none,none,none,none,none,none] [a,b,W1,V4,.lst (AM (List.range ws.length)),.lst (AM [])] _
  refine AX (KU (I_dr ns ws) (n:=ws.length) ⟨List.range ws.length,[],a,b,rfl,rfl,by simp,tap.le hT (by omega),by simp⟩ ?_)
  rintro m ls hd ⟨left,seq,a,b,rfl,rfl,rfl,hT,pm⟩
  have sl:seq.length + left.length=ws.length:=by simpa using pm.length_eq
  refine BF (Eo (A5 rfl ⟨left.map λ k:Nat=>(k:Int),JM (by rw[<- Ml];rfl),_,rfl,?_⟩))
  by_cases hl:left=[]
  . subst hl
    rw[if_neg (by simp)]
    simp only[List.append_nil]at pm
    clear sl
    refine AK ?_
    refine AX (An (Am (A9 (A5 rfl (A9 (Cq (A9 (A5 rfl (AN (Db rfl rfl ?_))))))))))
    rw[E9]
    refine AN ⟨by simp,(Go E pm).mono ?_⟩
    rintro z x rfl
    refine⟨_,rfl,AK ?_⟩
    refine AX (Ch (BF (WP.eq (z:=.im (.bl false)) (h:=[a,b,W1,V4,.lst [],.lst (AM seq)]) (by simp[GG]) ⟨_,rfl,(λ h=>by cases h),λ _=>Bg (AK ?_)⟩)))
    refine AX (GV (JB (A9 (B5 (AN ⟨_,rfl,FY (by decide) (by decide),?_⟩)))))
    have il:Ed.inv (seq.map d) <= 28:=Ed.inv_28 (by have:seq.length=ws.length:=(by simpa using pm.length_eq);simp;omega)
    refine EK (I_turn ns ws c d) ⟨seq,a,b,none,none,none,none,none,rfl,rfl,tap.le hT (by simp),pm,by simpa using il⟩ ?_ ?_
    . rintro t r ls hd ⟨o,a,b,z6,z7,z8,z9,z10,rfl,rfl,hT,pm,hi⟩
      clear il
      have ol:o.length=ws.length:=by simpa using pm.length_eq
      simp only[List.length_cons]at hT hi
      refine⟨_,rfl,?_⟩
      dsimp only[List.set_cons_zero,List.set_cons_succ]
      refine KW ?_
      refine AX (An (C9 (PB E pm rfl rfl rfl (AK ?_))))
      refine AX (An (C9 (UK (D:=o.map d) (os:=AM o) (by simp;omega) (by simp;omega) rfl rfl rfl (by simp) rfl (AK ?_))))
      change WS _ [some (.ro ns),some (.mu 1),some (.im (Ag ws)),some (.mu 4),some (.mu 5),some (.im (.int (G ws c d o))),some t,some (.mu 6),some (.mu 7),z9,z10] [a,b,W1,V4,.lst [],.lst (AM o),.lst (intD (o.map d)),.lst (AM (fl (o.map d)))] _
      refine Ch (BF (Eo (A5 rfl ⟨(fl (o.map d)).map λ k:Nat=>(k:Int),JM (by rw[<- Ml];rfl),_,rfl,?_⟩)))
      have ca:=tap.cl hT
      refine⟨λ hb=>?_,λ hb=>Bg ?_⟩
      . have hne:fl (o.map d) ≠ []:=by
          intro z
          rw[z]at hb
          simp at hb
        have fll:(fl (o.map d)).length <= 8:=by
          refine Nat.le_trans (List.length_filter_le _ _) ?_
          simp;omega
        have fat:∀ i ∈ fl (o.map d),∃ A x y R,o=A ++ x :: y :: R/\A.length=i/\d y < d x:=λ i hi=>X1 hi
        generalize fl (o.map d)=L at hne fll fat
        have L0:=List.length_pos_iff.mpr hne
        refine AX (An (AY (A5 rfl (tap.draw (many:=(L.length:Int)) (rest:=[W1,V4,.lst [],.lst (AM o),.lst (intD (o.map d)),.lst (AM L)]) hT (by simp[CL]) (by omega) (by omega) λ s a b hT ps qs=>?_))))
        have hs:s.toNat < L.length:=by omega
        obtain⟨A,x,y,R,rfl,eA,hxy⟩:=fat L[s.toNat] (List.getElem_mem hs)
        refine Ac (ds:=AM L) rfl (Gv (k:=s.toNat) (x:=.im (.int (L[s.toNat]:Int))) (by omega) (by simp[AM,hs])) (AK ?_)
        rw[<- eA]
        clear eA hs fat
        obtain⟨pm',le⟩:=WD E pm (by omega)
        refine AX (O6 (C9 (SY (UF (A5 rfl (MQ (A5 rfl ⟨_,rfl,MQ (AY (A5 rfl (B5 (Dv ⟨_,rfl,AM (A ++ x :: y :: R),rfl,?_⟩))))⟩)))))))
        rw[XY]
        refine UE (B5 ⟨_,rfl,rfl,A5 rfl (A5 rfl (AY (A5 rfl (B5 (Dv ⟨8,5,_,_,AM (A ++ x :: y :: R),(AM [x,y]).reverse,rfl,rfl,rfl,rfl,rfl,rfl,?_,AK ?_⟩)))))⟩)
        . refine⟨by omega,by omega,by omega,?_,?_⟩
          . simp only[List.length_map,List.length_append,List.length_cons];omega
          . simp only[List.length_map,List.length_append,List.length_cons,List.length_reverse,List.length_nil]at ol ⊢;omega
        rw[XH]
        refine AX (An (Am (A9 (A5 rfl (A9 (Cq (A9 (A5 rfl (AN (Db rfl rfl ?_))))))))))
        rw[E9]
        refine AN ⟨by simp,(Go E pm').mono ?_⟩
        rintro z x9 rfl
        refine⟨_,rfl,AK ?_⟩
        refine AX (Ch (K7 (BF ?_)))
        refine WP.eq (z:=.im (.bl false)) (by simp[GG];rfl) ⟨_,rfl,?_⟩
        rw[if_neg Bool.false_ne_true]
        refine BF (AY (A5 rfl (A5 rfl (KA ⟨_,rfl,λ h=>?_,λ _=>Bg (AK ?_)⟩))))
        . have:=of_decide_eq_true h;omega
        refine An (A5 rfl ?_)
        have ca:=tap.cl hT
        refine⟨?_,_,rfl,Ad _,A ++ y :: x :: R,a,b,_,_,_,_,_,rfl,?_,hT,pm',?_⟩
        . simp[Dn (w:=6) (by omega) ca.1,Dn (w:=6) (by omega) ca.2,JY,Lw]
        . simp
        . rw[List.map_append,List.map_cons,List.map_cons,Ed.inv_swap hxy]at hi
          rw[List.map_append,List.map_cons,List.map_cons]
          omega
      . have hnil:fl (o.map d)=[]:=by simpa using hb
        have:=SF (Vv hnil)
        refine⟨?_,_,rfl,Ad _,o,a,b,_,_,_,_,_,rfl,rfl,tap.le hT (by omega),pm,by omega⟩
        simp[Dn (w:=6) (by omega) ca.1,Dn (w:=6) (by omega) ca.2,JY,Lw]
    . rintro ls hd ⟨o,a,b,z6,z7,z8,z9,z10,rfl,rfl,hT,pm,hi⟩
      have srt:(o.map d).Pairwise (· <= ·):=Nd (by simpa using hi)
      have ol:o.length=ws.length:=by simpa using pm.length_eq
      refine AK ?_
      refine AX (An (C9 (PB E pm rfl rfl rfl (AK ?_))))
      change WS _ [some (.ro ns),some (.mu 1),some (.im (Ag ws)),some (.mu 4),some (.mu 5),some (.im (.int (G ws c d o))),z6,some (.mu 6),z8,z9,z10] [a,b,W1,V4,.lst [],.lst (AM o),.lst (intD (o.map d))] _
      have es:Bq (o.map d)=o.map d:=((G8 _).eq_of_pairwise (λ a b _ _ h1 h2=>Int.le_antisymm h1 h2) (GY _) srt)
      refine Be (SW (BF (SU (ns:=o.map d) (A5 rfl (OE (Kb (A5 rfl ⟨6,_,rfl,rfl,o.map d,rfl,by simp;omega,JM rfl,by rw[es],_,rfl,?_⟩)))))))
      rw[if_pos rfl]
      refine AY (A5 rfl (Am (A9 (A5 rfl (A9 (AY (Am (A9 (A5 rfl (A9 (GX (AN ⟨Fs,AN ⟨by simp,(TW E.ev).mono ?_⟩⟩))))))))))))
      rintro d2 x2 ⟨o',ss,s,rfl,hm,hco,hs,hst,hb⟩
      obtain⟨pm',eg⟩:=WG E pm srt hm hco hs hst hb
      refine⟨_,rfl,B5 (Ac rfl (Ea _ _) (AN ⟨by simp,(Go E pm').mono ?_⟩))⟩
      rintro d3 x3 rfl
      refine⟨_,rfl,GW ?_⟩
      show D.im (.bl (decide (_=_)))=_
      rw[eg];simp
  . obtain⟨l,hl2⟩:∃ l,left.length=l + 1:=⟨left.length - 1,by have:=List.length_pos_iff.mpr hl;omega⟩
    rw[if_pos (by simpa using hl)]
    have hT:T (100 + l + 1) a b:=tap.le hT (by omega)
    refine Eg (G5 (A5 rfl ⟨⟨_,rfl⟩,A9 (G5 (A5 rfl ⟨⟨_,rfl⟩,A9 ?_⟩))⟩))
    refine tap.draw (many:=(left.length:Int)) (rest:=[W1,V4,.lst (AM left),.lst (AM seq)]) hT (by simp[CL]) (by omega) (by omega) λ r a b hT pr qr=>AN ?_
    have hr:r.toNat < left.length:=by omega
    have e1:left[r.toNat]? = some left[r.toNat]:=by simp[hr]
    refine Ph rfl (FY (by omega) (by omega)) (Tl (n:=(AM left).length) pr (by simp;omega)) (z:=.im (.int (left[r.toNat]:Int))) (by simp[e1]) (AN ?_)
    refine IB rfl (CM (by simp;omega)) ?_
    refine⟨l,by omega,left.eraseIdx r.toNat,seq ++ [left[r.toNat]],a,b,rfl,?_,by rw[List.length_eraseIdx,if_pos hr];omega,hT,(Og e1).trans pm⟩
    have er:(AM left).eraseIdx r.toNat=AM (left.eraseIdx r.toNat):=Js _ _ _
    simp[er]
theorem law_eq(ns:List Int):∃ hd,F_law [.ro ns] []=some (.im (.bl true),hd):=by
  obtain⟨d,x,e,rfl⟩:=X0 ns
  exact⟨x,e⟩
end T32
namespace L2
open PySem PySem.Spec PyProof.Rows PySem.W
noncomputable abbrev Tb:=Addr × Str × Nat × Nat
noncomputable def Te(ts:List Tb):Obj:={ cls:=.str "tables" 0,data:=.fields (ts.flatMap λ t=>[.ref t.1,.str t.2.1 0,.int t.2.2.1 0,.int t.2.2.2 0]).toArray }
noncomputable def Ab(K:PySem.W.Frag)(ts:List Tb):PySem.W.Frag:=(K.filter λ p=>!(ts.map (·.1)).contains p.1) ++ [(mainGlobals,Te ts)]
theorem OH:∀ ts:List Tb,KD (ts.flatMap λ t=>[Value.ref t.1,.str t.2.1 0,.int t.2.2.1 0,.int t.2.2.2 0])=ts.map λ t=>(t.1,t.2.1,⟨t.2.2.1,t.2.2.2,0,0⟩)
  | []=>rfl
  | t :: r=>by
    rw[List.flatMap_cons,List.map_cons,<- OH r]
    rfl
theorem FI(K:PySem.W.Frag)(ts:List Tb):Dw (Ab K ts)=ts.map λ t=>(t.1,t.2.1,⟨t.2.2.1,t.2.2.2,0,0⟩):=by
  unfold Dw Ab
  rw[List.getLast?_concat]
  show KD _=_
  rw[<- OH ts]
theorem FU{L:List Addr}{a:Addr}(ha:a ∉ L):∀ K:PySem.W.Frag,(K.filter λ p=>!L.contains p.1).lookup a=K.lookup a
  | []=>rfl
  | (b,o) :: r=>by
    have ih:=FU ha r
    rw[List.filter_cons]
    by_cases hb:b ∈ L
    . have h1:(!L.contains (b,o).1)=false:=by simp[hb]
      have h2:(a == b)=false:=beq_eq_false_iff_ne.mpr λ z=>ha (z ▸ hb)
      rw[if_neg (by rw[h1];decide),List.lookup_cons,h2,ih]
    . have h1:(!L.contains (b,o).1)=true:=by simp[hb]
      rw[if_pos h1,List.lookup_cons,List.lookup_cons,ih]
theorem Gi{L:List Addr}{P:Addr}(hP:P ∈ L):∀ K:PySem.W.Frag,(K.filter λ p=>!L.contains p.1).lookup P=none
  | []=>rfl
  | (b,o) :: r=>by
    have ih:=Gi hP r
    rw[List.filter_cons]
    by_cases hb:b ∈ L
    . rw[if_neg (by simp[hb])];exact ih
    . have h2:(P == b)=false:=beq_eq_false_iff_ne.mpr λ z=>hb (z ▸ hP)
      rw[if_pos (by simp[hb]),List.lookup_cons,h2];exact ih
section
variable{K:PySem.W.Frag}{ts:List Tb}
theorem Ge{a:Addr}{o:Obj}(ha:a ∉ ts.map (·.1))(e:K.lookup a=some o):(Ab K ts).lookup a=some o:=by
  unfold Ab
  rw[List.lookup_append,FU ha,e];rfl
theorem Td{h:Heap}(X:K.In h){g:Obj}(hg:K.lookup mainGlobals=some g)(hP:mainGlobals ∉ ts.map (·.1)):(Ab K ts).In h:=λ a o e=>by
  unfold Ab at e
  rw[List.lookup_append]at e
  by_cases ha:a ∈ ts.map (·.1)
  . rw[Gi ha,Option.none_or]at e
    have h2:(a == mainGlobals)=false:=beq_eq_false_iff_ne.mpr λ z=>hP (z ▸ ha)
    rw[List.lookup_cons,h2]at e;cases e
  . rw[FU ha]at e
    cases k:K.lookup a with
    | some o'=>rw[k]at e;cases e;exact X _ _ k
    | none=>
      rw[k,Option.none_or,List.lookup_cons]at e
      by_cases hm:a=mainGlobals
      . subst hm;rw[hg]at k;cases k
      . rw[beq_eq_false_iff_ne.mpr hm]at e;cases e
theorem Tc(hM:mainGlobals ∉ ts.map (·.1)){P:Addr}(hP:P ∈ ts.map (·.1)):(Ab K ts).lookup P=none:=by
  unfold Ab
  have h2:(P == mainGlobals)=false:=beq_eq_false_iff_ne.mpr λ z=>hM (z ▸ hP)
  rw[List.lookup_append,Gi hP,Option.none_or,List.lookup_cons,h2]
  rfl
theorem Fun.mark{x:Str}{st:Stmt}{f:Addr}{fd:FuncData}(D:Fun K x x st f fd){h:Heap}(X:K.In h)(hP:∀ P ∈ ts.map (·.1),h.get? P=some (tabObj #[])):Fun (Ab K ts) x x st f fd:=by
  have neP:∀ a o,K.lookup a=some o->o ≠ tabObj #[]->a ∉ ts.map (·.1):=λ a o e n z=>by
    have:=X _ _ e
    rw[hP a z]at this;exact n (Option.some.inj this).symm
  obtain⟨⟨oc,od,kV,doc,pm,an,cdv,ct,osl,rfl,lk,hcd⟩,kp⟩:=D
  have hf:f ∉ ts.map (·.1):=neP f _ lk (λ z=>by cases z)
  refine⟨⟨oc,od,kV,doc,pm,an,cdv,ct,osl,rfl,Ge hf lk,?_⟩,?_⟩
  . unfold codeIn at hcd ⊢
    split at hcd
    . next c0=>
      split at hcd
      . next vs sl k=>
        have hc:c0 ∉ ts.map (·.1):=neP c0 _ k (λ z=>by
          have:vs=#[]:=by injection z with _ _ z _;injection z
          rw[this]at hcd;cases hcd)
        simp only[Ge hc k]
        exact hcd
      . cases hcd
    . cases hcd
  . unfold keepIn
    simp only[Ge hf lk]
end
theorem Wa{K:PySem.W.Frag}{H:Hp}{a:Addr}{xs:List V}(hS:SqL K H a xs)(hO:∀ ys,H a ≠ some (.lst ys)):RoL K H a xs:=by
  rcases hS with(h|h)|h
  . exact absurd h (hO xs)
  . exact .inl h
  . exact .inr h
theorem Ov{Pg:Program}{w:World}{K:PySem.W.Frag}{mg mb:Str->Option Value}{k:Nat}{fa a:Addr}{fd:FuncData}{x:Str}{ts:List Tb}{s₁:Shared}{vs:List Value}{ns:List Int}{F:List D->Hd->Option (D × Hd)}
    (KX:K.In s₁.heap) (hns:s₁.heap.Ns mainGlobals mg) (hb:s₁.heap.Ns builtinsNs mb) (hbb:∀ x:Str,x ≠ "__name__"->mb x=bootBuiltins x) (hlim:s₁.heap.NoLimit) (hg:s₁.gens=#[])
    (ha:s₁.heap.get? a=some { cls:=.type "list",data:=.seq vs.toArray }) (hi:IntsAre vs ns) (hl:ns.length <= sizeLine) (hr:Room k callerA)
    (hT:∀ P ∈ ts.map (·.1),∃ cc,s₁.heap.TableAt cc P #[]) (hPK:∀ P ∈ ts.map (·.1),K.lookup P=none) (htab:Dw K=ts.map λ t=>(t.1,t.2.1,⟨t.2.2.1,t.2.2.2,0,0⟩))
    (Fn:∀ base:Heap,K.In base->base.Ns mainGlobals mg->(∀ b o,b ∉ ts.map (·.1)->b ≠ a->s₁.heap.get? b=some o->base.get? b=some o)->FnOk Pg w K mg base CX0 k fa fd [x] (spF K 1 F)) (hbind:∀ (s:Shared) (u:Value),BindsTo s fd ⟨[u],[]⟩ [(x,u)])
    (hF:∃ hd',F [.ro ns] []=some (.im (.bl true),hd')) :
    codeAny (model Pg w) callerA (.call (.ref fa) ⟨[.ref a],[]⟩) (λ r s'=>r=.ok (.ret (.bool true))/\OldK s₁.heap s'.heap/\s'.os=s₁.os/\AllBare s'.gens) s₁:=by
  have rv:=Jc hi
  have lenV:=hi.length
  have hP:∀ P ∈ ts.map (·.1),s₁.heap.get? P=some (tabObj #[]):=λ P h=>let ⟨cc,t⟩:=hT P h;t.2
  have haP:a ∉ ts.map (·.1):=λ z=>by rw[hP a z]at ha;cases ha
  have core:∀ H:Hp,(∀ b,b ∉ ts.map (·.1)->H b=none ∨ ∃ o xs,H b=some (.frz o (.lst xs)))->(∀ P ∈ ts.map (·.1),H P=some (.tbl #[]))->SqL K H a (ns.map V.int)->HOk Pg w H s₁.heap->(∀ b,H b ≠ none->b=a ∨ b ∈ ts.map (·.1))->(H a ≠ none->K.lookup a=none) ->
      codeAny (model Pg w) callerA (.call (.ref fa) ⟨[.ref a],[]⟩) (λ r s'=>r=.ok (.ret (.bool true))/\OldK s₁.heap s'.heap/\s'.os=s₁.os/\AllBare s'.gens) s₁:=by
    intro H hO hHP hS hok hA hK
    have base_of:∀ {b:Addr} {o:Obj},s₁.heap.get? b=some o->H b=none->(GJ s₁.heap H).get? b=some o:=λ e n=>RX e n
    have noA:∀ {b:Addr} {o:Obj} {es:Array DictEntry} {ep:Nat},s₁.heap.get? b=some o->o.data=.dict es ep->H b=none:=λ {b o es ep} e d=>by
      cases q:H b with
      | none=>rfl
      | some u=>
        rcases hA b (by rw[q];simp)with e'|e'
        . subst e'
          rw[ha]at e;cases e
          have d':Data.seq vs.toArray _=Data.dict es ep:=d
          cases d'
        . rw[hP b e']at e;cases e
          cases d
    have nsK:∀ {b:Addr} {m:Str->Option Value},s₁.heap.Ns b m->(GJ s₁.heap H).Ns b m:=λ {b m} ⟨o,es,ep,e,d,r⟩=>⟨o,es,ep,base_of e (noA e d),d,r⟩
    have hKb:K.In (GJ s₁.heap H):=λ b o e=>base_of (KX b o e) (by
      cases q:H b with
      | none=>rfl
      | some u=>
        rcases hA b (by rw[q];simp)with e'|e'
        . subst e'
          rw[hK (by rw[q];simp)]at e;cases e
        . rw[hPK b e']at e;cases e)
    have hM:Mod K mg (GJ s₁.heap H):=⟨hKb,nsK hns,⟨mb,nsK hb,hbb⟩,let ⟨mc,h1,h2⟩:=hlim;⟨mc,nsK h1,h2⟩⟩
    have e0:Env0 Pg w K mg (GJ s₁.heap H) callerA [] s₁ H:=⟨rfl,hM,λ b o e=>TY e,Nat.le_of_eq (P1 _ _),trivial,λ b hb=>absurd (show b ∈ ([]:List Addr)from hb) (by simp),hok,.of_eq hg⟩
    have hsp:spF K 1 F [.ref a] H (λ v _=>v=.bl true) λ _ _ _=>False:=by
      obtain⟨hd',e⟩:=hF
      refine⟨rfl,[],[],[.ro ns],.im (.bl true),hd',⟨rfl,List.nodup_nil,λ y hy=>?_,λ n o a h=>by simp at h⟩,?_,e,λ ρ' H' v _ _ r=>?_⟩
      . rw[htab]at hy
        obtain⟨t,ht,rfl⟩:=List.mem_map.mp hy
        exact⟨#[],hHP t.1 (List.mem_map.mpr ⟨t,ht,rfl⟩),.inl rfl⟩
      . simp only[RDs,RD]
        refine⟨_,_,rfl,⟨a,rfl,Wa hS λ ys z=>?_⟩,rfl⟩
        rcases hO a haP with q|⟨o,ys,q⟩ <;> (rw[q]at z;cases z)
      . simpa only[RD,RI]using r
    refine codeAny_mono ((Fn _ hKb (nsK hns) λ b o n1 n2 e=>base_of e (by
      cases q:H b with
      | none=>rfl
      | some u=>
                  rcases hA b (by rw[q];simp)with e'|e'
                  . exact absurd e' n2
                  . exact absurd e' n1)).run callerA [] s₁ H ⟨[.ref a],[]⟩ [.ref a] [.ref a] _ _ hr e0 (hbind s₁ (.ref a)) (.cons rfl .nil) hsp) λ r s' h=>?_
    cases r with
    | error e=>exact h.elim
    | ok fl=>
      cases fl with
      | next=>exact False.elim h
      | brk=>exact False.elim h
      | cont=>exact False.elim h
      | ret u=>
        obtain⟨v,H',os,bare,un,hok',r',q⟩:=h
        have q':v=.bl true:=q
        subst q'
        obtain rfl:u=Value.bool true:=r'
        have keep:∀ b o,b ∉ ts.map (·.1)->s₁.heap.get? b=some o->s'.heap.get? b=some o:=λ b o nb e=>by
          cases q:H b with
          | none=>exact un.keep b o e q (by intro z;exact absurd (show b ∈ ([]:List Addr)from z) (by simp)) (by simp)
          | some u=>
            rcases hO b nb with z|⟨ob,xs,z⟩
            . rw[q]at z;cases z
            . have z2:=un.frzs b ob _ z
              obtain⟨e1,_⟩:=hok b _ z
              obtain⟨e2,_⟩:=hok' b _ z2
              rw[e]at e1;cases e1
              exact e2
        refine⟨rfl,⟨λ b o e=>?_,λ b o e=>?_⟩,os,bare⟩
        . by_cases nb:b ∈ ts.map (·.1)
          . obtain⟨cc,tb⟩:=hT b nb
            obtain⟨more,hm⟩:=un.tbls b #[] (hHP b nb)
            have hb':s'.heap.get? b=some (tabObj (#[] ++ more)):=hok' b _ hm
            rw[hP b nb]at e;cases e
            exact .inr (.inl ⟨tb.isCodeTable,rfl,#[],more,rfl,hb'⟩)
          . exact .inl (keep b o nb e)
        . by_cases nb:b ∈ ts.map (·.1)
          . obtain⟨more,hm⟩:=un.tbls b #[] (hHP b nb)
            exact⟨_,hok' b _ hm⟩
          . exact⟨o,keep b o nb e⟩
  cases hk:K.lookup a with
  | some o=>
    have e:=KX a o hk
    rw[ha]at e
    cases e
    refine core (λ b=>if b ∈ ts.map (·.1)then some (.tbl #[])else none) (λ b nb=>.inl (if_neg nb)) (λ P hp=>if_pos hp) (.inr ⟨_,vs.toArray,_,hk,rfl,rfl,rfl,by rw[List.size_toArray,lenV];exact hl,by simpa using rv⟩) (λ b u z=>?_) (λ b z=>?_) λ z=>absurd (if_neg haP) z
    . by_cases hb:b ∈ ts.map (·.1)
      . have z':=(if_pos hb).symm.trans z
        cases z'
        exact hP b hb
      . have z':=(if_neg hb).symm.trans z
        cases z'
    . by_cases hb:b ∈ ts.map (·.1)
      . exact .inr hb
      . exact absurd (if_neg hb) z
  | none=>
    refine core (λ b=>if b ∈ ts.map (·.1)then some (.tbl #[])else if b=a then some (.frz { cls:=.type "list",data:=.seq vs.toArray } (.lst (ns.map V.int)))else none) (λ b nb=>?_) (λ P hp=>if_pos hp) (.inl (.inr ⟨{ cls:=.type "list",data:=.seq vs.toArray },(if_neg haP).trans (if_pos rfl)⟩)) (λ b u z=>?_) (λ b z=>?_) λ _=>hk
    . rw[if_neg nb]
      by_cases hb:b=a
      . exact .inr ⟨_,_,if_pos hb⟩
      . exact .inl (if_neg hb)
    . by_cases hp:b ∈ ts.map (·.1)
      . have z':=(if_pos hp).symm.trans z
        cases z'
        exact hP b hp
      . have z:=(if_neg hp).symm.trans z
        by_cases hb:b=a
        . have z':=(if_pos hb).symm.trans z
          cases z'
          subst hb
          exact⟨ha,by rw[List.length_map];exact hl,vs,_,rv,ha⟩
        . have z':=(if_neg hb).symm.trans z
          cases z'
    . by_cases hp:b ∈ ts.map (·.1)
      . exact .inr hp
      . by_cases hb:b=a
        . exact .inl hb
        . exact absurd ((if_neg hp).trans (if_neg hb)) z
theorem walkL{l:PySem.W.OpenLaw}{n k:Nat}{q:Program}{loose:List Str}{XP:(Str->Option Value)->Heap->Prop}{YP:World->Heap->Prop}{d:DefRec}{K:Params->PySem.W.Frag}{F:List D->Hd->Option (D × Hd)}(xs:List (Str × Str × Nat × Nat))
    (hn:l.most=some n) (hn2:n <= sizeLine) (hdf:d.params.defaults=[]) (hr:Room k callerA) (hdr:∀ x ∈ xs,∃ dr,(recsOf q).find? (λ e=>e.name == x.1)=some dr)
    (hF:∀ ns:List Int,∃ hd',F [.ro ns] []=some (.im (.bl true),hd'))
    (hY:∀ (w:World) (h:Heap),YP w h->(K w.params).In h)
    (G:∀ (w:World) (mg:Str->Option Value) (fa:Addr) (h:Heap) (c P:Str->Addr),(K w.params).In h->h.Ns mainGlobals mg->mg d.name=some (.ref fa) ->
      (∀ x ∈ xs,h.get? (P x.1)=some (tabObj #[])/\CodeHd h (c x.1) (P x.1)/\∃ a o fd,mg x.1=some (.ref a)/\h.get? a=some o/\o.data=.func fd/\fd.code=.ref (c x.1)) ->
      (∃ g,(K w.params).lookup mainGlobals=some g)/\∃ fd:FuncData,(∀ (s:Shared) (u:Value),BindsTo s fd ⟨[u],[]⟩ [("_law_script",u)]) /\
        ∀ base:Heap,(Ab (K w.params) (xs.map λ x=>(P x.1,x.2))).In base->base.Ns mainGlobals mg->(∀ x ∈ xs,CodeHd base (c x.1) (P x.1))->(∀ x ∈ xs,base.BuiltinsAt mg (P x.1))->FnOk l.prog w (Ab (K w.params) (xs.map λ x=>(P x.1,x.2))) mg base CX0 k fa fd ["_law_script"] (spF (Ab (K w.params) (xs.map λ x=>(P x.1,x.2))) 1 F)) :
    PySem.W.WalkO q loose XP YP l.row.toRowW d [] (λ f vs=>PySem.call f vs):=by
  refine Att.attach_call hn hdf λ w s₀ s₁ mg mb fa o pm cd doc a vs ns Gr Y ho hd hcd hmg hobj hints hlen hg=>?_
  have KX:=hY w _ Y
  have each:∀ x:Str,∃ cp:Addr × Addr,(∃ y ∈ xs,y.1=x)->(∃ cc,s₁.heap.TableAt cc cp.2 #[])/\CodeHd s₁.heap cp.1 cp.2/\∃ a o fd,mg x=some (.ref a)/\s₁.heap.get? a=some o/\o.data=.func fd/\fd.code=.ref cp.1:=by
    intro x
    by_cases hx:∃ y ∈ xs,y.1=x
    . obtain⟨y,hy,rfl⟩:=hx
      obtain⟨dr,hdr⟩:=hdr y hy
      have hnm:dr.name=y.1:=beq_iff_eq.mp (List.find?_some (p:=λ e:DefRec=>e.name == y.1) hdr)
      obtain⟨a',o',fd',c,P,h1,h2,h3,h4,h5,h6⟩:=Gr.T.tab dr (List.mem_of_find?_eq_some hdr)
      rw[hnm]at h1
      exact⟨(c,P),λ _=>⟨⟨_,h6⟩,CodeHd.of h5 h6,a',o',fd',h1,h2,h3,h4⟩⟩
    . exact⟨(0,0),λ h=>absurd h hx⟩
  obtain⟨cp,hcp⟩:=Classical.skolem.mp each
  have hcp:∀ x ∈ xs,(∃ cc,s₁.heap.TableAt cc (cp x.1).2 #[])/\CodeHd s₁.heap (cp x.1).1 (cp x.1).2/\∃ a o fd,mg x.1=some (.ref a)/\s₁.heap.get? a=some o/\o.data=.func fd/\fd.code=.ref (cp x.1).1:=λ x hx=>hcp x.1 ⟨x,hx,rfl⟩
  have hts:∀ P ∈ (xs.map λ x=>((cp x.1).2,x.2)).map (·.1),∃ x ∈ xs,P=(cp x.1).2:=λ P hP=>by
    obtain⟨t,ht,rfl⟩:=List.mem_map.mp hP
    obtain⟨x,hx,rfl⟩:=List.mem_map.mp ht
    exact⟨x,hx,rfl⟩
  have hP:∀ x ∈ xs,s₁.heap.get? (cp x.1).2=some (tabObj #[]):=λ x hx=>by
    obtain⟨⟨cc,t⟩,_⟩:=hcp x hx;exact t.2
  have hmP:mainGlobals ∉ (xs.map λ x=>((cp x.1).2,x.2)).map (·.1):=λ z=>by
    obtain⟨x,hx,ez⟩:=hts _ z
    obtain⟨o,es,ep,e,dd,_⟩:=Gr.T.g
    rw[ez,hP x hx]at e;cases e;cases dd
  obtain⟨⟨g,hgl⟩,fd,hb,hFn⟩:=G w mg fa _ (λ x=>(cp x).1) (λ x=>(cp x).2) KX Gr.T.g hmg λ x hx=>⟨hP x hx,(hcp x hx).2⟩
  refine Ov (ts:=xs.map λ x=>((cp x.1).2,x.2)) (K:=Ab (K w.params) (xs.map λ x=>((cp x.1).2,x.2))) (Td KX hgl hmP) Gr.T.g Gr.T.b Gr.T.builtins Gr.T.nolimit hg hobj hints (Nat.le_trans hlen hn2) hr (λ P hp=>by obtain⟨x,hx,rfl⟩:=hts P hp;exact(hcp x hx).1) (λ P hp=>Tc hmP hp) (FI _ _) (λ base kb nb keep=>hFn base kb nb (λ x hx=>?_) λ x hx=>?_) hb (hF ns)
  . obtain⟨oc,vs',file,tf,flags,tg,inF,text,tt,e1,r1,r2,r3,r4,r5,r6,r7,r8,hne⟩:=(hcp x hx).2.1
    have hn:(cp x.1).1 ∉ (xs.map λ x=>((cp x.1).2,x.2)).map (·.1):=λ z=>by
      obtain⟨y,hy,ez⟩:=hts _ z
      rw[ez,hP y hy]at e1;cases e1;cases r1
    exact⟨oc,vs',file,tf,flags,tg,inF,text,tt,keep (cp x.1).1 oc hn (λ z=>by rw[z,hobj]at e1;cases e1;exact absurd (show Value.type "list"=Value.type "code" from r1) (by decide)) e1,r1,r2,r3,r4,r5,r6,r7,r8,hne⟩
  . obtain⟨bm,ob,b1,b2,b3,b4,b5,b6⟩:=Gr.T.bmain
    have nP:∀ y ∈ xs,bm ≠ (cp y.1).2:=λ y hy z=>by rw[z,hP y hy]at b3;cases b3;cases b4
    have hn:bm ∉ (xs.map λ x=>((cp x.1).2,x.2)).map (·.1):=λ z=>by
      obtain⟨y,hy,ez⟩:=hts _ z
      exact nP y hy ez
    refine⟨bm,ob,b1,b2,λ z=>?_,nP x hx,keep bm ob hn (λ z=>by rw[z,hobj]at b3;cases b3;exact absurd (show Value.type "list"=Value.type "module" from b4) (by decide)) b3,b4,b5,b6⟩
    obtain⟨o,es,ep,e,dd,_⟩:=Gr.T.g
    rw[<- z,b3]at e;cases e;rw[b6]at dd;cases dd
noncomputable def ND(o:Obj):Option Addr:=match o.data with
  | .fields vs=>(match (vs[11]?:Option Value)with
    | some (Value.ref P)=>some P
    | _=>none)
  | _=>none
theorem OI{K:PySem.W.Frag}{h:Heap}{c P p:Addr}{o:Obj}(X:K.In h)(hc:CodeHd h c P)(k:K.lookup c=some o)(e:ND o=some p):P=p:=by
  obtain⟨o',vs,file,tf,flags,tg,inF,text,tt,e1,e2,e3,e4,_⟩:=hc
  have:=X _ _ k
  rw[e1]at this;cases this
  simp only[ND,e3,e4]at e
  exact Option.some.inj e
end L2
namespace T32
open PySem L2 PySem.W PyProof.Rows
noncomputable abbrev x_cheapest_last:Str × Str × Nat × Nat:=("cheapest_last",((("cheapest_last":Str) ++ ".<locals>.") ++ "<lambda>"),80,56)
noncomputable abbrev x_greatest_bound:Str × Str × Nat × Nat:=("greatest_bound",((("greatest_bound":Str) ++ ".<locals>.") ++ "<lambda>"),84,25)
noncomputable abbrev xS:List (Str × Str × Nat × Nat):=[x_cheapest_last,x_greatest_bound]
noncomputable abbrev tS(P:Str->Addr):List Tb:=xS.map λ x=>(P x.1,x.2)
theorem all_mk{l:PySem.W.OpenLaw}{w:World}{K:PySem.W.Frag}{h:Heap}{mg:Str->Option Value}{fa f0 f1 f2 f3 f4 f5 f6 f7 f8 f9 f10 f11 f12 f13 f14 f15 f16 f17 f18 f19 f20 f21 f22 f23 f24 f25 f26 f27:Addr}(X:K.In h)(G:h.Ns mainGlobals mg){c P:Str->Addr}(hfa:mg "law"=some (.ref fa))(hx:∀ x ∈ xS,h.get? (P x.1)=some (tabObj #[])/\CodeHd h (c x.1) (P x.1)/\∃ a o fd,mg x.1=some (.ref a)/\h.get? a=some o/\o.data=.func fd/\fd.code=.ref (c x.1))
    {od0 an0 od1 an1 od2 an2 od3 an3 od4 an4 od5 an5 od6 an6 od7 an7 od8 an8 od9 an9 od10 an10 od11 an11 od12 an12 od13 an13 od14 an14 od15 an15 od16 an16 od17 an17 od18 an18 od19 an19 od20 an20 od21 an21 od22 an22 od23 an23 od24 an24 od25 an25 od26 an26 od27 an27:Option Addr} {sl0 sl1 sl2 sl3 sl4 sl5 sl6 sl7 sl8 sl9 sl10 sl11 sl12 sl13 sl14 sl15 sl16 sl17 sl18 sl19 sl20 sl21 sl22 sl23 sl24 sl25 sl26 sl27:Array (Option Value)} {oc0 kV0 dc0 pm0 cd0 ct0 oc1 kV1 dc1 pm1 cd1 ct1 oc2 kV2 dc2 pm2 cd2 ct2 oc3 kV3 dc3 pm3 cd3 ct3 oc4 kV4 dc4 pm4 cd4 ct4 oc5 kV5 dc5 pm5 cd5 ct5 oc6 kV6 dc6 pm6 cd6 ct6 oc7 kV7 dc7 pm7 cd7 ct7 oc8 kV8 dc8 pm8 cd8 ct8 oc9 kV9 dc9 pm9 cd9 ct9 oc10 kV10 dc10 pm10 cd10 ct10 oc11 kV11 dc11 pm11 cd11 ct11 oc12 kV12 dc12 pm12 cd12 ct12 oc13 kV13 dc13 pm13 cd13 ct13 oc14 kV14 dc14 pm14 cd14 ct14 oc15 kV15 dc15 pm15 cd15 ct15 oc16 kV16 dc16 pm16 cd16 ct16 oc17 kV17 dc17 pm17 cd17 ct17 oc18 kV18 dc18 pm18 cd18 ct18 oc19 kV19 dc19 pm19 cd19 ct19 oc20 kV20 dc20 pm20 cd20 ct20 oc21 kV21 dc21 pm21 cd21 ct21 oc22 kV22 dc22 pm22 cd22 ct22 oc23 kV23 dc23 pm23 cd23 ct23 oc24 kV24 dc24 pm24 cd24 ct24 oc25 kV25 dc25 pm25 cd25 ct25 oc26 kV26 dc26 pm26 cd26 ct26 oc27 kV27 dc27 pm27 cd27 ct27:Value}
    {p9 ca9 p14 ca14:Addr} {ob9 ob14:Obj} (a0:PySem.W.nsIn K mainGlobals "law"=some (some (.ref f0))) (l0:K.lookup f0=some ⟨oc0,od0,.func (PySem.W.fnOf "law" "law" (AZ ED) (AV ED) (A8 ED) .none kV0 dc0 pm0 an0 cd0 ct0),sl0⟩) (c0:PySem.W.codeIn K cd0 "law"=true) (k0:PySem.W.keepIn K (.ref f0)=true)
    (a1:PySem.W.nsIn K mainGlobals "length_of"=some (some (.ref f1))) (l1:K.lookup f1=some ⟨oc1,od1,.func (PySem.W.fnOf "length_of" "length_of" (AZ BZ) (AV BZ) (A8 BZ) .none kV1 dc1 pm1 an1 cd1 ct1),sl1⟩) (c1:PySem.W.codeIn K cd1 "length_of"=true) (k1:PySem.W.keepIn K (.ref f1)=true)
    (a2:PySem.W.nsIn K mainGlobals "same_coming"=some (some (.ref f2))) (l2:K.lookup f2=some ⟨oc2,od2,.func (PySem.W.fnOf "same_coming" "same_coming" (AZ BU) (AV BU) (A8 BU) .none kV2 dc2 pm2 an2 cd2 ct2),sl2⟩) (c2:PySem.W.codeIn K cd2 "same_coming"=true) (k2:PySem.W.keepIn K (.ref f2)=true)
    (a3:PySem.W.nsIn K mainGlobals "one_coming"=some (some (.ref f3))) (l3:K.lookup f3=some ⟨oc3,od3,.func (PySem.W.fnOf "one_coming" "one_coming" (AZ Bf) (AV Bf) (A8 Bf) .none kV3 dc3 pm3 an3 cd3 ct3),sl3⟩) (c3:PySem.W.codeIn K cd3 "one_coming"=true) (k3:PySem.W.keepIn K (.ref f3)=true)
    (a4:PySem.W.nsIn K mainGlobals "steps_at"=some (some (.ref f4))) (l4:K.lookup f4=some ⟨oc4,od4,.func (PySem.W.fnOf "steps_at" "steps_at" (AZ CA) (AV CA) (A8 CA) .none kV4 dc4 pm4 an4 cd4 ct4),sl4⟩) (c4:PySem.W.codeIn K cd4 "steps_at"=true) (k4:PySem.W.keepIn K (.ref f4)=true)
    (a5:PySem.W.nsIn K mainGlobals "cost_at"=some (some (.ref f5))) (l5:K.lookup f5=some ⟨oc5,od5,.func (PySem.W.fnOf "cost_at" "cost_at" (AZ Bt) (AV Bt) (A8 Bt) .none kV5 dc5 pm5 an5 cd5 ct5),sl5⟩) (c5:PySem.W.codeIn K cd5 "cost_at"=true) (k5:PySem.W.keepIn K (.ref f5)=true)
    (a6:PySem.W.nsIn K mainGlobals "reached"=some (some (.ref f6))) (l6:K.lookup f6=some ⟨oc6,od6,.func (PySem.W.fnOf "reached" "reached" (AZ CV) (AV CV) (A8 CV) .none kV6 dc6 pm6 an6 cd6 ct6),sl6⟩) (c6:PySem.W.codeIn K cd6 "reached"=true) (k6:PySem.W.keepIn K (.ref f6)=true)
    (a7:PySem.W.nsIn K mainGlobals "behind"=some (some (.ref f7))) (l7:K.lookup f7=some ⟨oc7,od7,.func (PySem.W.fnOf "behind" "behind" (AZ Cw) (AV Cw) (A8 Cw) .none kV7 dc7 pm7 an7 cd7 ct7),sl7⟩) (c7:PySem.W.codeIn K cd7 "behind"=true) (k7:PySem.W.keepIn K (.ref f7)=true)
    (a8:PySem.W.nsIn K mainGlobals "last_ones"=some (some (.ref f8))) (l8:K.lookup f8=some ⟨oc8,od8,.func (PySem.W.fnOf "last_ones" "last_ones" (AZ Ba) (AV Ba) (A8 Ba) .none kV8 dc8 pm8 an8 cd8 ct8),sl8⟩) (c8:PySem.W.codeIn K cd8 "last_ones"=true) (k8:PySem.W.keepIn K (.ref f8)=true)
    (a9:PySem.W.nsIn K mainGlobals "cheapest_last"=some (some (.ref f9))) (l9:K.lookup f9=some ⟨oc9,od9,.func (PySem.W.fnOf "cheapest_last" "cheapest_last" (AZ Ao) (AV Ao) (A8 Ao) .none kV9 dc9 pm9 an9 cd9 ct9),sl9⟩) (c9:PySem.W.codeIn K cd9 "cheapest_last"=true) (k9:PySem.W.keepIn K (.ref f9)=true)
    (a10:PySem.W.nsIn K mainGlobals "without"=some (some (.ref f10))) (l10:K.lookup f10=some ⟨oc10,od10,.func (PySem.W.fnOf "without" "without" (AZ CU) (AV CU) (A8 CU) .none kV10 dc10 pm10 an10 cd10 ct10),sl10⟩) (c10:PySem.W.codeIn K cd10 "without"=true) (k10:PySem.W.keepIn K (.ref f10)=true)
    (a11:PySem.W.nsIn K mainGlobals "raised"=some (some (.ref f11))) (l11:K.lookup f11=some ⟨oc11,od11,.func (PySem.W.fnOf "raised" "raised" (AZ Cv) (AV Cv) (A8 Cv) .none kV11 dc11 pm11 an11 cd11 ct11),sl11⟩) (c11:PySem.W.codeIn K cd11 "raised"=true) (k11:PySem.W.keepIn K (.ref f11)=true)
    (a12:PySem.W.nsIn K mainGlobals "heads"=some (some (.ref f12))) (l12:K.lookup f12=some ⟨oc12,od12,.func (PySem.W.fnOf "heads" "heads" (AZ Dq) (AV Dq) (A8 Dq) .none kV12 dc12 pm12 an12 cd12 ct12),sl12⟩) (c12:PySem.W.codeIn K cd12 "heads"=true) (k12:PySem.W.keepIn K (.ref f12)=true)
    (a13:PySem.W.nsIn K mainGlobals "bound_of"=some (some (.ref f13))) (l13:K.lookup f13=some ⟨oc13,od13,.func (PySem.W.fnOf "bound_of" "bound_of" (AZ CF) (AV CF) (A8 CF) .none kV13 dc13 pm13 an13 cd13 ct13),sl13⟩) (c13:PySem.W.codeIn K cd13 "bound_of"=true) (k13:PySem.W.keepIn K (.ref f13)=true)
    (a14:PySem.W.nsIn K mainGlobals "greatest_bound"=some (some (.ref f14))) (l14:K.lookup f14=some ⟨oc14,od14,.func (PySem.W.fnOf "greatest_bound" "greatest_bound" (AZ Ai) (AV Ai) (A8 Ai) .none kV14 dc14 pm14 an14 cd14 ct14),sl14⟩) (c14:PySem.W.codeIn K cd14 "greatest_bound"=true) (k14:PySem.W.keepIn K (.ref f14)=true)
    (a15:PySem.W.nsIn K mainGlobals "greatest_order"=some (some (.ref f15))) (l15:K.lookup f15=some ⟨oc15,od15,.func (PySem.W.fnOf "greatest_order" "greatest_order" (AZ B6) (AV B6) (A8 B6) .none kV15 dc15 pm15 an15 cd15 ct15),sl15⟩) (c15:PySem.W.codeIn K cd15 "greatest_order"=true) (k15:PySem.W.keepIn K (.ref f15)=true)
    (a16:PySem.W.nsIn K mainGlobals "_law_feed"=some (some (.ref f16))) (l16:K.lookup f16=some ⟨oc16,od16,.func (PySem.W.fnOf "_law_feed" "_law_feed" (AZ EM) (AV EM) (A8 EM) .none kV16 dc16 pm16 an16 cd16 ct16),sl16⟩) (c16:PySem.W.codeIn K cd16 "_law_feed"=true) (k16:PySem.W.keepIn K (.ref f16)=true)
    (a17:PySem.W.nsIn K mainGlobals "_law_next"=some (some (.ref f17))) (l17:K.lookup f17=some ⟨oc17,od17,.func (PySem.W.fnOf "_law_next" "_law_next" (AZ DV) (AV DV) (A8 DV) .none kV17 dc17 pm17 an17 cd17 ct17),sl17⟩) (c17:PySem.W.codeIn K cd17 "_law_next"=true) (k17:PySem.W.keepIn K (.ref f17)=true)
    (a18:PySem.W.nsIn K mainGlobals "_law_cost"=some (some (.ref f18))) (l18:K.lookup f18=some ⟨oc18,od18,.func (PySem.W.fnOf "_law_cost" "_law_cost" (AZ EN) (AV EN) (A8 EN) .none kV18 dc18 pm18 an18 cd18 ct18),sl18⟩) (c18:PySem.W.codeIn K cd18 "_law_cost"=true) (k18:PySem.W.keepIn K (.ref f18)=true)
    (a19:PySem.W.nsIn K mainGlobals "_law_works"=some (some (.ref f19))) (l19:K.lookup f19=some ⟨oc19,od19,.func (PySem.W.fnOf "_law_works" "_law_works" (AZ Dp) (AV Dp) (A8 Dp) .none kV19 dc19 pm19 an19 cd19 ct19),sl19⟩) (c19:PySem.W.codeIn K cd19 "_law_works"=true) (k19:PySem.W.keepIn K (.ref f19)=true)
    (a20:PySem.W.nsIn K mainGlobals "run"=some (some (.ref f20))) (l20:K.lookup f20=some ⟨oc20,od20,.func (PySem.W.fnOf "run" "run" (AZ FJ) (AV FJ) (A8 FJ) .none kV20 dc20 pm20 an20 cd20 ct20),sl20⟩) (c20:PySem.W.codeIn K cd20 "run"=true) (k20:PySem.W.keepIn K (.ref f20)=true)
    (a21:PySem.W.nsIn K mainGlobals "ends_of"=some (some (.ref f21))) (l21:K.lookup f21=some ⟨oc21,od21,.func (PySem.W.fnOf "ends_of" "ends_of" (AZ CW) (AV CW) (A8 CW) .none kV21 dc21 pm21 an21 cd21 ct21),sl21⟩) (c21:PySem.W.codeIn K cd21 "ends_of"=true) (k21:PySem.W.keepIn K (.ref f21)=true)
    (a22:PySem.W.nsIn K mainGlobals "costs_of"=some (some (.ref f22))) (l22:K.lookup f22=some ⟨oc22,od22,.func (PySem.W.fnOf "costs_of" "costs_of" (AZ CD) (AV CD) (A8 CD) .none kV22 dc22 pm22 an22 cd22 ct22),sl22⟩) (c22:PySem.W.codeIn K cd22 "costs_of"=true) (k22:PySem.W.keepIn K (.ref f22)=true)
    (a23:PySem.W.nsIn K mainGlobals "worth"=some (some (.ref f23))) (l23:K.lookup f23=some ⟨oc23,od23,.func (PySem.W.fnOf "worth" "worth" (AZ Do) (AV Do) (A8 Do) .none kV23 dc23 pm23 an23 cd23 ct23),sl23⟩) (c23:PySem.W.codeIn K cd23 "worth"=true) (k23:PySem.W.keepIn K (.ref f23)=true)
    (a24:PySem.W.nsIn K mainGlobals "_law_costs"=some (some (.ref f24))) (l24:K.lookup f24=some ⟨oc24,od24,.func (PySem.W.fnOf "_law_costs" "_law_costs" (AZ Dr) (AV Dr) (A8 Dr) .none kV24 dc24 pm24 an24 cd24 ct24),sl24⟩) (c24:PySem.W.codeIn K cd24 "_law_costs"=true) (k24:PySem.W.keepIn K (.ref f24)=true)
    (a25:PySem.W.nsIn K mainGlobals "_law_greatest"=some (some (.ref f25))) (l25:K.lookup f25=some ⟨oc25,od25,.func (PySem.W.fnOf "_law_greatest" "_law_greatest" (AZ CC) (AV CC) (A8 CC) .none kV25 dc25 pm25 an25 cd25 ct25),sl25⟩) (c25:PySem.W.codeIn K cd25 "_law_greatest"=true) (k25:PySem.W.keepIn K (.ref f25)=true)
    (a26:PySem.W.nsIn K mainGlobals "_law_run_ends"=some (some (.ref f26))) (l26:K.lookup f26=some ⟨oc26,od26,.func (PySem.W.fnOf "_law_run_ends" "_law_run_ends" (AZ CB) (AV CB) (A8 CB) .none kV26 dc26 pm26 an26 cd26 ct26),sl26⟩) (c26:PySem.W.codeIn K cd26 "_law_run_ends"=true) (k26:PySem.W.keepIn K (.ref f26)=true)
    (a27:PySem.W.nsIn K mainGlobals "_law_cost_of"=some (some (.ref f27))) (l27:K.lookup f27=some ⟨oc27,od27,.func (PySem.W.fnOf "_law_cost_of" "_law_cost_of" (AZ CY) (AV CY) (A8 CY) .none kV27 dc27 pm27 an27 cd27 ct27),sl27⟩) (c27:PySem.W.codeIn K cd27 "_law_cost_of"=true) (k27:PySem.W.keepIn K (.ref f27)=true)
    (z_list:PySem.W.nsIn K mainGlobals "list"=some none)
    (z_tuple:PySem.W.nsIn K mainGlobals "tuple"=some none)
    (z_len:PySem.W.nsIn K mainGlobals "len"=some none)
    (z_range:PySem.W.nsIn K mainGlobals "range"=some none)
    (z_repr:PySem.W.nsIn K mainGlobals "repr"=some none)
    (z_sum:PySem.W.nsIn K mainGlobals "sum"=some none)
    (z_min:PySem.W.nsIn K mainGlobals "min"=some none)
    (z_max:PySem.W.nsIn K mainGlobals "max"=some none)
    (z_abs:PySem.W.nsIn K mainGlobals "abs"=some none)
    (z_all:PySem.W.nsIn K mainGlobals "all"=some none)
    (z_any:PySem.W.nsIn K mainGlobals "any"=some none)
    (z_sorted:PySem.W.nsIn K mainGlobals "sorted"=some none)
    (z_zip:PySem.W.nsIn K mainGlobals "zip"=some none)
    (z_isinstance:PySem.W.nsIn K mainGlobals "isinstance"=some none)
    (z_int:PySem.W.nsIn K mainGlobals "int"=some none)
    (z_bool:PySem.W.nsIn K mainGlobals "bool"=some none)
    (z_str:PySem.W.nsIn K mainGlobals "str"=some none)
    (z_set:PySem.W.nsIn K mainGlobals "set"=some none)
    (z_enumerate:PySem.W.nsIn K mainGlobals "enumerate"=some none)
    (z_reversed:PySem.W.nsIn K mainGlobals "reversed"=some none)
    (z_dict:PySem.W.nsIn K mainGlobals "dict"=some none)
    (u9:cd9=Value.ref ca9) (t9:K.lookup ca9=some ob9) (v9:ND ob9=some p9)
    (u14:cd14=Value.ref ca14) (t14:K.lookup ca14=some ob14) (v14:ND ob14=some p14)
    (tn:([p9,p14]:List Addr).Nodup) :
    (∃ g,K.lookup mainGlobals=some g)/\∃ fd:FuncData,(∀ (s:Shared) (v:Value),BindsTo s fd ⟨[v],[]⟩ [("_law_script",v)])/\∀ base:Heap,(Ab K (tS P)).In base->base.Ns mainGlobals mg->(∀ x ∈ xS,CodeHd base (c x.1) (P x.1))->(∀ x ∈ xS,base.BuiltinsAt mg (P x.1))->FnOk l.prog w (Ab K (tS P)) mg base CX0 9 fa fd ["_law_script"] (spF (Ab K (tS P)) 1 F_law):=by
  have hP:∀ P' ∈ (tS P).map (·.1),h.get? P'=some (tabObj #[]):=λ P' hp=>by
    obtain⟨t,ht,rfl⟩:=List.mem_map.mp hp
    obtain⟨x,hxx,rfl⟩:=List.mem_map.mp ht
    exact(hx x hxx).1
  have e:=hfa.symm.trans (PySem.W.mg_of X G a0)
  cases e
  have F0:=Fun.mark (ts:=tS P) (Ar (st:=ED) l0 c0 k0) X hP
  have D0:DefAt (Ab K (tS P)) mg "law" ED _ _ ["_law_script"]:=⟨F0,PySem.W.mg_of X G a0,F0.binds (ps:=["_law_script"]) λ _ _ _ _ _ _ us hl=>match us,hl with | [_],_=>rfl⟩
  have F1:=Fun.mark (ts:=tS P) (Ar (st:=BZ) l1 c1 k1) X hP
  have D1:DefAt (Ab K (tS P)) mg "length_of" BZ _ _ ["works","some"]:=⟨F1,PySem.W.mg_of X G a1,F1.binds (ps:=["works","some"]) λ _ _ _ _ _ _ us hl=>match us,hl with | [_,_],_=>rfl⟩
  have F2:=Fun.mark (ts:=tS P) (Ar (st:=BU) l2 c2 k2) X hP
  have D2:DefAt (Ab K (tS P)) mg "same_coming" BU _ _ ["works"]:=⟨F2,PySem.W.mg_of X G a2,F2.binds (ps:=["works"]) λ _ _ _ _ _ _ us hl=>match us,hl with | [_],_=>rfl⟩
  have F3:=Fun.mark (ts:=tS P) (Ar (st:=Bf) l3 c3 k3) X hP
  have D3:DefAt (Ab K (tS P)) mg "one_coming" Bf _ _ ["works"]:=⟨F3,PySem.W.mg_of X G a3,F3.binds (ps:=["works"]) λ _ _ _ _ _ _ us hl=>match us,hl with | [_],_=>rfl⟩
  have F4:=Fun.mark (ts:=tS P) (Ar (st:=CA) l4 c4 k4) X hP
  have D4:DefAt (Ab K (tS P)) mg "steps_at" CA _ _ ["rows","t"]:=⟨F4,PySem.W.mg_of X G a4,F4.binds (ps:=["rows","t"]) λ _ _ _ _ _ _ us hl=>match us,hl with | [_,_],_=>rfl⟩
  have F5:=Fun.mark (ts:=tS P) (Ar (st:=Bt) l5 c5 k5) X hP
  have D5:DefAt (Ab K (tS P)) mg "cost_at" Bt _ _ ["cost","t"]:=⟨F5,PySem.W.mg_of X G a5,F5.binds (ps:=["cost","t"]) λ _ _ _ _ _ _ us hl=>match us,hl with | [_,_],_=>rfl⟩
  have F6:=Fun.mark (ts:=tS P) (Ar (st:=CV) l6 c6 k6) X hP
  have D6:DefAt (Ab K (tS P)) mg "reached" CV _ _ ["pairs","a"]:=⟨F6,PySem.W.mg_of X G a6,F6.binds (ps:=["pairs","a"]) λ _ _ _ _ _ _ us hl=>match us,hl with | [_,_],_=>rfl⟩
  have F7:=Fun.mark (ts:=tS P) (Ar (st:=Cw) l7 c7 k7) X hP
  have D7:DefAt (Ab K (tS P)) mg "behind" Cw _ _ ["many","wishes","a"]:=⟨F7,PySem.W.mg_of X G a7,F7.binds (ps:=["many","wishes","a"]) λ _ _ _ _ _ _ us hl=>match us,hl with | [_,_,_],_=>rfl⟩
  have F8:=Fun.mark (ts:=tS P) (Ar (st:=Ba) l8 c8 k8) X hP
  have D8:DefAt (Ab K (tS P)) mg "last_ones" Ba _ _ ["many","wishes","some"]:=⟨F8,PySem.W.mg_of X G a8,F8.binds (ps:=["many","wishes","some"]) λ _ _ _ _ _ _ us hl=>match us,hl with | [_,_,_],_=>rfl⟩
  have F9:=Fun.mark (ts:=tS P) (Ar (st:=Ao) l9 c9 k9) X hP
  have D9:DefAt (Ab K (tS P)) mg "cheapest_last" Ao _ _ ["works","wishes","some","end"]:=⟨F9,PySem.W.mg_of X G a9,F9.binds (ps:=["works","wishes","some","end"]) λ _ _ _ _ _ _ us hl=>match us,hl with | [_,_,_,_],_=>rfl⟩
  have F10:=Fun.mark (ts:=tS P) (Ar (st:=CU) l10 c10 k10) X hP
  have D10:DefAt (Ab K (tS P)) mg "without" CU _ _ ["some","u"]:=⟨F10,PySem.W.mg_of X G a10,F10.binds (ps:=["some","u"]) λ _ _ _ _ _ _ us hl=>match us,hl with | [_,_],_=>rfl⟩
  have F11:=Fun.mark (ts:=tS P) (Ar (st:=Cv) l11 c11 k11) X hP
  have D11:DefAt (Ab K (tS P)) mg "raised" Cv _ _ ["works","wishes","some","t"]:=⟨F11,PySem.W.mg_of X G a11,F11.binds (ps:=["works","wishes","some","t"]) λ _ _ _ _ _ _ us hl=>match us,hl with | [_,_,_,_],_=>rfl⟩
  have F12:=Fun.mark (ts:=tS P) (Ar (st:=Dq) l12 c12 k12) X hP
  have D12:DefAt (Ab K (tS P)) mg "heads" Dq _ _ ["works","wishes"]:=⟨F12,PySem.W.mg_of X G a12,F12.binds (ps:=["works","wishes"]) λ _ _ _ _ _ _ us hl=>match us,hl with | [_,_],_=>rfl⟩
  have F13:=Fun.mark (ts:=tS P) (Ar (st:=CF) l13 c13 k13) X hP
  have D13:DefAt (Ab K (tS P)) mg "bound_of" CF _ _ ["works","wishes","some"]:=⟨F13,PySem.W.mg_of X G a13,F13.binds (ps:=["works","wishes","some"]) λ _ _ _ _ _ _ us hl=>match us,hl with | [_,_,_],_=>rfl⟩
  have F14:=Fun.mark (ts:=tS P) (Ar (st:=Ai) l14 c14 k14) X hP
  have D14:DefAt (Ab K (tS P)) mg "greatest_bound" Ai _ _ ["works","wishes","sets"]:=⟨F14,PySem.W.mg_of X G a14,F14.binds (ps:=["works","wishes","sets"]) λ _ _ _ _ _ _ us hl=>match us,hl with | [_,_,_],_=>rfl⟩
  have F15:=Fun.mark (ts:=tS P) (Ar (st:=B6) l15 c15 k15) X hP
  have D15:DefAt (Ab K (tS P)) mg "greatest_order" B6 _ _ ["works","wishes"]:=⟨F15,PySem.W.mg_of X G a15,F15.binds (ps:=["works","wishes"]) λ _ _ _ _ _ _ us hl=>match us,hl with | [_,_],_=>rfl⟩
  have F16:=Fun.mark (ts:=tS P) (Ar (st:=EM) l16 c16 k16) X hP
  have D16:DefAt (Ab K (tS P)) mg "_law_feed" EM _ _ ["_law_script"]:=⟨F16,PySem.W.mg_of X G a16,F16.binds (ps:=["_law_script"]) λ _ _ _ _ _ _ us hl=>match us,hl with | [_],_=>rfl⟩
  have F17:=Fun.mark (ts:=tS P) (Ar (st:=DV) l17 c17 k17) X hP
  have D17:DefAt (Ab K (tS P)) mg "_law_next" DV _ _ ["_law_feed_here","_law_many"]:=⟨F17,PySem.W.mg_of X G a17,F17.binds (ps:=["_law_feed_here","_law_many"]) λ _ _ _ _ _ _ us hl=>match us,hl with | [_,_],_=>rfl⟩
  have F18:=Fun.mark (ts:=tS P) (Ar (st:=EN) l18 c18 k18) X hP
  have D18:DefAt (Ab K (tS P)) mg "_law_cost" EN _ _ ["_law_feed_here","_law_words"]:=⟨F18,PySem.W.mg_of X G a18,F18.binds (ps:=["_law_feed_here","_law_words"]) λ _ _ _ _ _ _ us hl=>match us,hl with | [_,_],_=>rfl⟩
  have F19:=Fun.mark (ts:=tS P) (Ar (st:=Dp) l19 c19 k19) X hP
  have D19:DefAt (Ab K (tS P)) mg "_law_works" Dp _ _ ["_law_feed_here","_law_most","_law_words","_law_ways"]:=⟨F19,PySem.W.mg_of X G a19,F19.binds (ps:=["_law_feed_here","_law_most","_law_words","_law_ways"]) λ _ _ _ _ _ _ us hl=>match us,hl with | [_,_,_,_],_=>rfl⟩
  have F20:=Fun.mark (ts:=tS P) (Ar (st:=FJ) l20 c20 k20) X hP
  have D20:DefAt (Ab K (tS P)) mg "run" FJ _ _ ["works","order"]:=⟨F20,PySem.W.mg_of X G a20,F20.binds (ps:=["works","order"]) λ _ _ _ _ _ _ us hl=>match us,hl with | [_,_],_=>rfl⟩
  have F21:=Fun.mark (ts:=tS P) (Ar (st:=CW) l21 c21 k21) X hP
  have D21:DefAt (Ab K (tS P)) mg "ends_of" CW _ _ ["works","plan"]:=⟨F21,PySem.W.mg_of X G a21,F21.binds (ps:=["works","plan"]) λ _ _ _ _ _ _ us hl=>match us,hl with | [_,_],_=>rfl⟩
  have F22:=Fun.mark (ts:=tS P) (Ar (st:=CD) l22 c22 k22) X hP
  have D22:DefAt (Ab K (tS P)) mg "costs_of" CD _ _ ["works","ends"]:=⟨F22,PySem.W.mg_of X G a22,F22.binds (ps:=["works","ends"]) λ _ _ _ _ _ _ us hl=>match us,hl with | [_,_],_=>rfl⟩
  have F23:=Fun.mark (ts:=tS P) (Ar (st:=Do) l23 c23 k23) X hP
  have D23:DefAt (Ab K (tS P)) mg "worth" Do _ _ ["works","ends","question"]:=⟨F23,PySem.W.mg_of X G a23,F23.binds (ps:=["works","ends","question"]) λ _ _ _ _ _ _ us hl=>match us,hl with | [_,_,_],_=>rfl⟩
  have F24:=Fun.mark (ts:=tS P) (Ar (st:=Dr) l24 c24 k24) X hP
  have D24:DefAt (Ab K (tS P)) mg "_law_costs" Dr _ _ ["_law_cost_here","_law_t"]:=⟨F24,PySem.W.mg_of X G a24,F24.binds (ps:=["_law_cost_here","_law_t"]) λ _ _ _ _ _ _ us hl=>match us,hl with | [_,_],_=>rfl⟩
  have F25:=Fun.mark (ts:=tS P) (Ar (st:=CC) l25 c25 k25) X hP
  have D25:DefAt (Ab K (tS P)) mg "_law_greatest" CC _ _ ["_law_works_here","_law_ends"]:=⟨F25,PySem.W.mg_of X G a25,F25.binds (ps:=["_law_works_here","_law_ends"]) λ _ _ _ _ _ _ us hl=>match us,hl with | [_,_],_=>rfl⟩
  have F26:=Fun.mark (ts:=tS P) (Ar (st:=CB) l26 c26 k26) X hP
  have D26:DefAt (Ab K (tS P)) mg "_law_run_ends" CB _ _ ["_law_works_here","_law_order"]:=⟨F26,PySem.W.mg_of X G a26,F26.binds (ps:=["_law_works_here","_law_order"]) λ _ _ _ _ _ _ us hl=>match us,hl with | [_,_],_=>rfl⟩
  have F27:=Fun.mark (ts:=tS P) (Ar (st:=CY) l27 c27 k27) X hP
  have D27:DefAt (Ab K (tS P)) mg "_law_cost_of" CY _ _ ["_law_works_here","_law_order"]:=⟨F27,PySem.W.mg_of X G a27,F27.binds (ps:=["_law_works_here","_law_order"]) λ _ _ _ _ _ _ us hl=>match us,hl with | [_,_],_=>rfl⟩
  have B:BltA mg:=⟨PySem.W.mg_none_of X G z_list,PySem.W.mg_none_of X G z_tuple,PySem.W.mg_none_of X G z_len,PySem.W.mg_none_of X G z_range,PySem.W.mg_none_of X G z_repr,PySem.W.mg_none_of X G z_sum,PySem.W.mg_none_of X G z_min,PySem.W.mg_none_of X G z_max,PySem.W.mg_none_of X G z_abs,PySem.W.mg_none_of X G z_all,PySem.W.mg_none_of X G z_any,PySem.W.mg_none_of X G z_sorted,PySem.W.mg_none_of X G z_zip,PySem.W.mg_none_of X G z_isinstance,PySem.W.mg_none_of X G z_int,PySem.W.mg_none_of X G z_bool,PySem.W.mg_none_of X G z_str,PySem.W.mg_none_of X G z_set,PySem.W.mg_none_of X G z_enumerate,PySem.W.mg_none_of X G z_reversed,PySem.W.mg_none_of X G z_dict⟩
  have hcd_cheapest_last:(cd9:Value)=.ref (c "cheapest_last"):=by
    obtain⟨_,_,a,ob,fd,h1,h2,h3,h4⟩:=hx _ (show x_cheapest_last ∈ xS by simp[xS])
    have e1:=h1.symm.trans (PySem.W.mg_of X G a9)
    cases e1
    have e2:=h2.symm.trans (X _ _ l9)
    cases e2
    cases h3
    exact h4
  have hcd_greatest_bound:(cd14:Value)=.ref (c "greatest_bound"):=by
    obtain⟨_,_,a,ob,fd,h1,h2,h3,h4⟩:=hx _ (show x_greatest_bound ∈ xS by simp[xS])
    have e1:=h1.symm.trans (PySem.W.mg_of X G a14)
    cases e1
    have e2:=h2.symm.trans (X _ _ l14)
    cases e2
    cases h3
    exact h4
  have nd:((Dw (Ab K (tS P))).map (·.1)).Nodup:=by
    have q9:P "cheapest_last"=p9:=by
      have eq:ca9=c "cheapest_last":=by have:=u9.symm.trans hcd_cheapest_last;cases this;rfl
      subst eq
      exact OI X (hx _ (show x_cheapest_last ∈ xS by simp[xS])).2.1 t9 v9
    have q14:P "greatest_bound"=p14:=by
      have eq:ca14=c "greatest_bound":=by have:=u14.symm.trans hcd_greatest_bound;cases this;rfl
      subst eq
      exact OI X (hx _ (show x_greatest_bound ∈ xS by simp[xS])).2.1 t14 v14
    rw[FI]
    show([P "cheapest_last",P "greatest_bound"]:List Addr).Nodup
    rw[q9,q14]
    exact tn
  have hg:∃ g,K.lookup mainGlobals=some g:=by
    cases e:K.lookup mainGlobals with
    | some g=>exact⟨g,rfl⟩
    | none=>have z:=a0;unfold PySem.W.nsIn at z;rw[e]at z;cases z
  refine⟨hg,PySem.W.fnOf "law" "law" (AZ ED) (AV ED) (A8 ED) .none kV0 dc0 pm0 an0 cd0 ct0,λ s v=>.of_eq rfl,λ base _ _ hd bl=>?_⟩
  have LC_cheapest_last:LamC (Ab K (tS P)) mg base (PySem.W.fnOf "cheapest_last" "cheapest_last" (AZ Ao) (AV Ao) (A8 Ao) .none kV9 dc9 pm9 an9 cd9 ct9) (c "cheapest_last") (P "cheapest_last") ((("cheapest_last":Str) ++ ".<locals>.") ++ "<lambda>") ⟨80,56,80,91⟩:=⟨hcd_cheapest_last,hd _ (show x_cheapest_last ∈ xS by simp[xS]),bl _ (show x_cheapest_last ∈ xS by simp[xS]),⟨80,56,0,0⟩,by rw[FI];exact List.mem_map.mpr ⟨(P x_cheapest_last.1,x_cheapest_last.2),List.mem_map.mpr ⟨x_cheapest_last,by simp[xS],rfl⟩,rfl⟩,nd,rfl,rfl⟩
  have LC_greatest_bound:LamC (Ab K (tS P)) mg base (PySem.W.fnOf "greatest_bound" "greatest_bound" (AZ Ai) (AV Ai) (A8 Ai) .none kV14 dc14 pm14 an14 cd14 ct14) (c "greatest_bound") (P "greatest_bound") ((("greatest_bound":Str) ++ ".<locals>.") ++ "<lambda>") ⟨84,25,84,67⟩:=⟨hcd_greatest_bound,hd _ (show x_greatest_bound ∈ xS by simp[xS]),bl _ (show x_greatest_bound ∈ xS by simp[xS]),⟨84,25,0,0⟩,by rw[FI];exact List.mem_map.mpr ⟨(P x_greatest_bound.1,x_greatest_bound.2),List.mem_map.mpr ⟨x_greatest_bound,by simp[xS],rfl⟩,rfl⟩,nd,rfl,rfl⟩
  have G_length_of:=T32.ok_length_of (P:=l.prog) (w:=w) (base:=base) D1  B
  have G_same_coming:=T32.ok_same_coming (P:=l.prog) (w:=w) (base:=base) D2  B
  have G_one_coming:=T32.ok_one_coming (P:=l.prog) (w:=w) (base:=base) D3 D2 G_same_coming B
  have G_steps_at:=T32.ok_steps_at (P:=l.prog) (w:=w) (base:=base) D4  B
  have G_cost_at:=T32.ok_cost_at (P:=l.prog) (w:=w) (base:=base) D5 D4 G_steps_at B
  have G_reached:=T32.ok_reached (P:=l.prog) (w:=w) (base:=base) D6  B
  have G_behind:=T32.ok_behind (P:=l.prog) (w:=w) (base:=base) D7 D6 G_reached B
  have G_last_ones:=T32.ok_last_ones (P:=l.prog) (w:=w) (base:=base) D8 D7 G_behind B
  have G_cheapest_last:=T32.ok_cheapest_last (P:=l.prog) (w:=w) (base:=base) D9 D5 G_cost_at D8 G_last_ones LC_cheapest_last B
  have G_without:=T32.ok_without (P:=l.prog) (w:=w) (base:=base) D10  B
  have G_raised:=T32.ok_raised (P:=l.prog) (w:=w) (base:=base) D11  B
  have G_heads:=T32.ok_heads (P:=l.prog) (w:=w) (base:=base) D12 D11 G_raised B
  have G_bound_of:=T32.ok_bound_of (P:=l.prog) (w:=w) (base:=base) D13 D12 G_heads D5 G_cost_at D8 G_last_ones D1 G_length_of B
  have G_greatest_bound:=T32.ok_greatest_bound (P:=l.prog) (w:=w) (base:=base) D14 D13 G_bound_of LC_greatest_bound B
  have G_greatest_order:=T32.ok_greatest_order (P:=l.prog) (w:=w) (base:=base) D15 D1 G_length_of D3 G_one_coming D9 G_cheapest_last D10 G_without D14 G_greatest_bound B
  have G_feed:=T32.ok_feed (P:=l.prog) (w:=w) (base:=base) D16  B
  have G_next:=T32.ok_next (P:=l.prog) (w:=w) (base:=base) D17  B
  have G_cost:=T32.ok_cost (P:=l.prog) (w:=w) (base:=base) D18 D17 G_next B
  have G_works:=T32.ok_works (P:=l.prog) (w:=w) (base:=base) D19 D17 G_next D18 G_cost B
  have G_run:=T32.ok_run (P:=l.prog) (w:=w) (base:=base) D20  B
  have G_ends_of:=T32.ok_ends_of (P:=l.prog) (w:=w) (base:=base) D21  B
  have G_costs_of:=T32.ok_costs_of (P:=l.prog) (w:=w) (base:=base) D22 D5 G_cost_at B
  have G_worth:=T32.ok_worth (P:=l.prog) (w:=w) (base:=base) D23 D22 G_costs_of B
  have G_costs:=T32.ok_costs (P:=l.prog) (w:=w) (base:=base) D24  B
  have G_greatest:=T32.ok_greatest (P:=l.prog) (w:=w) (base:=base) D25 D24 G_costs B
  have G_run_ends:=T32.ok_run_ends (P:=l.prog) (w:=w) (base:=base) D26  B
  have G_cost_of:=T32.ok_cost_of (P:=l.prog) (w:=w) (base:=base) D27 D20 G_run D21 G_ends_of D23 G_worth D25 G_greatest D26 G_run_ends B
  have G_law:=T32.ok_law (P:=l.prog) (w:=w) (base:=base) D0 D15 G_greatest_order D16 G_feed D17 G_next D19 G_works D27 G_cost_of B
  exact G_law
end T32
open PySem PySem.W PyProof.Rows
set_option maxRecDepth 100000 in
set_option maxHeartbeats 0 in
theorem PySem.Challenge.cw_benchdays_k32_whole_neighbours_into_dues_holds : PySem.Challenge.rw_benchdays_k32_whole_neighbours_into_dues.Holds := by
  w_on;o_law;k_head;(case hw=>w_witness2)
  k_fill
  refine L2.walkL T32.xS (l:=PySem.Challenge.rw_benchdays_k32_whole_neighbours_into_dues) (n:=63) (k:=9) (F:=T32.F_law) rfl (by decide) rfl ⟨rfl,by decide,by decide,rfl⟩ (by intro x hx;simp only[T32.xS,List.mem_cons,List.not_mem_nil,or_false]at hx;rcases hx with rfl|rfl <;> exact⟨_,rfl⟩) T32.law_eq (λ w h Y=>PySem.W.km_in_of Y) ?F
  case F=>
    intro w mg fa h c P KX G hmg hx
    refine' T32.all_mk KX G hmg hx ?a0 ?l0 ?c0 ?k0 ?a1 ?l1 ?c1 ?k1 ?a2 ?l2 ?c2 ?k2 ?a3 ?l3 ?c3 ?k3 ?a4 ?l4 ?c4 ?k4 ?a5 ?l5 ?c5 ?k5 ?a6 ?l6 ?c6 ?k6 ?a7 ?l7 ?c7 ?k7 ?a8 ?l8 ?c8 ?k8 ?a9 ?l9 ?c9 ?k9 ?a10 ?l10 ?c10 ?k10 ?a11 ?l11 ?c11 ?k11 ?a12 ?l12 ?c12 ?k12 ?a13 ?l13 ?c13 ?k13 ?a14 ?l14 ?c14 ?k14 ?a15 ?l15 ?c15 ?k15 ?a16 ?l16 ?c16 ?k16 ?a17 ?l17 ?c17 ?k17 ?a18 ?l18 ?c18 ?k18 ?a19 ?l19 ?c19 ?k19 ?a20 ?l20 ?c20 ?k20 ?a21 ?l21 ?c21 ?k21 ?a22 ?l22 ?c22 ?k22 ?a23 ?l23 ?c23 ?k23 ?a24 ?l24 ?c24 ?k24 ?a25 ?l25 ?c25 ?k25 ?a26 ?l26 ?c26 ?k26 ?a27 ?l27 ?c27 ?k27 ?z_list ?z_tuple ?z_len ?z_range ?z_repr ?z_sum ?z_min ?z_max ?z_abs ?z_all ?z_any ?z_sorted ?z_zip ?z_isinstance ?z_int ?z_bool ?z_str ?z_set ?z_enumerate ?z_reversed ?z_dict ?u9 ?t9 ?v9 ?u14 ?t14 ?v14 ?tn
    (case a0=>k_is)
    (case l0=>k_is)
    (case c0=>k_is)
    (case k0=>k_is)
    (case a1=>k_is)
    (case l1=>k_is)
    (case c1=>k_is)
    (case k1=>k_is)
    (case a2=>k_is)
    (case l2=>k_is)
    (case c2=>k_is)
    (case k2=>k_is)
    (case a3=>k_is)
    (case l3=>k_is)
    (case c3=>k_is)
    (case k3=>k_is)
    (case a4=>k_is)
    (case l4=>k_is)
    (case c4=>k_is)
    (case k4=>k_is)
    (case a5=>k_is)
    (case l5=>k_is)
    (case c5=>k_is)
    (case k5=>k_is)
    (case a6=>k_is)
    (case l6=>k_is)
    (case c6=>k_is)
    (case k6=>k_is)
    (case a7=>k_is)
    (case l7=>k_is)
    (case c7=>k_is)
    (case k7=>k_is)
    (case a8=>k_is)
    (case l8=>k_is)
    (case c8=>k_is)
    (case k8=>k_is)
    (case a9=>k_is)
    (case l9=>k_is)
    (case c9=>k_is)
    (case k9=>k_is)
    (case a10=>k_is)
    (case l10=>k_is)
    (case c10=>k_is)
    (case k10=>k_is)
    (case a11=>k_is)
    (case l11=>k_is)
    (case c11=>k_is)
    (case k11=>k_is)
    (case a12=>k_is)
    (case l12=>k_is)
    (case c12=>k_is)
    (case k12=>k_is)
    (case a13=>k_is)
    (case l13=>k_is)
    (case c13=>k_is)
    (case k13=>k_is)
    (case a14=>k_is)
    (case l14=>k_is)
    (case c14=>k_is)
    (case k14=>k_is)
    (case a15=>k_is)
    (case l15=>k_is)
    (case c15=>k_is)
    (case k15=>k_is)
    (case a16=>k_is)
    (case l16=>k_is)
    (case c16=>k_is)
    (case k16=>k_is)
    (case a17=>k_is)
    (case l17=>k_is)
    (case c17=>k_is)
    (case k17=>k_is)
    (case a18=>k_is)
    (case l18=>k_is)
    (case c18=>k_is)
    (case k18=>k_is)
    (case a19=>k_is)
    (case l19=>k_is)
    (case c19=>k_is)
    (case k19=>k_is)
    (case a20=>k_is)
    (case l20=>k_is)
    (case c20=>k_is)
    (case k20=>k_is)
    (case a21=>k_is)
    (case l21=>k_is)
    (case c21=>k_is)
    (case k21=>k_is)
    (case a22=>k_is)
    (case l22=>k_is)
    (case c22=>k_is)
    (case k22=>k_is)
    (case a23=>k_is)
    (case l23=>k_is)
    (case c23=>k_is)
    (case k23=>k_is)
    (case a24=>k_is)
    (case l24=>k_is)
    (case c24=>k_is)
    (case k24=>k_is)
    (case a25=>k_is)
    (case l25=>k_is)
    (case c25=>k_is)
    (case k25=>k_is)
    (case a26=>k_is)
    (case l26=>k_is)
    (case c26=>k_is)
    (case k26=>k_is)
    (case a27=>k_is)
    (case l27=>k_is)
    (case c27=>k_is)
    (case k27=>k_is)
    (case z_list=>k_is)
    (case z_tuple=>k_is)
    (case z_len=>k_is)
    (case z_range=>k_is)
    (case z_repr=>k_is)
    (case z_sum=>k_is)
    (case z_min=>k_is)
    (case z_max=>k_is)
    (case z_abs=>k_is)
    (case z_all=>k_is)
    (case z_any=>k_is)
    (case z_sorted=>k_is)
    (case z_zip=>k_is)
    (case z_isinstance=>k_is)
    (case z_int=>k_is)
    (case z_bool=>k_is)
    (case z_str=>k_is)
    (case z_set=>k_is)
    (case z_enumerate=>k_is)
    (case z_reversed=>k_is)
    (case z_dict=>k_is)
    (case u9=>rfl)
    (case t9=>k_is)
    (case v9=>rfl)
    (case u14=>rfl)
    (case t14=>k_is)
    (case v14=>rfl)
    (case tn=>decide)
