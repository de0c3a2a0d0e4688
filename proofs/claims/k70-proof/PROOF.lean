import PyProof.Rows.All
import Wide.All
import OpenK.AllK
import Wide.FinOn
import Lean
import PyProof.EqAt
import PyProof.EqKinds
import PyProof.TupleCall
import KE.KSortKey
import PyProof.ListMulRoad
import PyProof.Draws
import PyProof.EnumMake
import PyProof.ListNew
import KE.KRevIter
import KE.KMinKey
import PySem.Challenge.RW_benchdays_k70_whole_blocks_hold_together
set_option Elab.async false
set_option linter.all false
set_option maxRecDepth 100000
set_option compiler.extract_closed false
local macro_rules | `(tactic| omega) => `(tactic| first | lia | omega (config := {}))
namespace L2
open PySem PySem.Spec PyProof.Rows
noncomputable abbrev Key:=Sum Int Str
noncomputable def Pr:Key->Value->Bool
  | .inl k,v=>Value.isInt k v
  | .inr x,v=>Value.isStrOf x v
noncomputable def VZ(w:World):Key->Int
  | .inl k=>hashInt k
  | .inr x=>hashStr w x
theorem BQ:∀ {k:Key} {v:Value},Pr k v=true->(∃ i t,k=Sum.inl i/\v=Value.int i t) ∨ (∃ x t,k=Sum.inr x/\v=Value.str x t)
  | .inl i,v,h=>by
    obtain⟨t,e⟩:=Value.isInt_shape (k:=i) (v:=v) h
    exact .inl ⟨i,t,rfl,e⟩
  | .inr x,v,h=>by
    obtain⟨t,e⟩:=Value.isStrOf_shape (x:=x) (v:=v) h
    exact .inr ⟨x,t,rfl,e⟩
theorem U1(a b:Int):decide ((Sum.inl a:Key)=Sum.inl b)=(a == b):=by
  by_cases e:a=b
  . subst e;simp
  . have h:¬ (Sum.inl a:Key)=Sum.inl b:=λ q=>e (Sum.inl.inj q)
    rw[decide_eq_false h]
    exact(beq_eq_false_iff_ne.mpr e).symm
theorem Tx(a b:Str):decide ((Sum.inr a:Key)=Sum.inr b)=decide (a=b):=by
  by_cases e:a=b
  . subst e;simp
  . have h:¬ (Sum.inr a:Key)=Sum.inr b:=λ q=>e (Sum.inr.inj q)
    rw[decide_eq_false h,decide_eq_false e]
theorem U0(a:Int)(b:Str):decide ((Sum.inl a:Key)=Sum.inr b)=false:=decide_eq_false (λ q=>nomatch q)
theorem Tz(a:Str)(b:Int):decide ((Sum.inr a:Key)=Sum.inl b)=false:=decide_eq_false (λ q=>nomatch q)
noncomputable def Ie(prog:Program)(w:World):PySem.KeyKind prog w Key where
  is:=Pr
  hash:=VZ w
  inj:=λ v a b ha hb=>by
    rcases BQ ha with⟨i,t,rfl,rfl⟩|⟨x,t,rfl,rfl⟩
    . rcases BQ hb with⟨j,u,rfl,e⟩|⟨y,u,rfl,e⟩
      . injection e with e1 _;rw[e1]
      . exact nomatch e
    . rcases BQ hb with⟨j,u,rfl,e⟩|⟨y,u,rfl,e⟩
      . exact nomatch e
      . injection e with e1 _;rw[e1]
  byValue:=λ k v h=>by
    rcases BQ h with⟨i,t,rfl,rfl⟩|⟨x,t,rfl,rfl⟩ <;> rfl
  pyHash:=λ hv h=>by
    rcases BQ hv with⟨i,t,rfl,rfl⟩|⟨x,t,rfl,rfl⟩
    . exact wpAny_pyHash_int h
    . exact wpAny_pyHash_str h
  eqBool:=λ hu hv h=>by
    rcases BQ hu with⟨i,t,rfl,rfl⟩|⟨x,t,rfl,rfl⟩
    . rcases BQ hv with⟨j,u,rfl,rfl⟩|⟨y,u,rfl,rfl⟩
      . rw[U1]at h;exact wpAny_eqBool_int h
      . rw[U0]at h;exact SeqAt.EqAt.int_str i t y u _ _ _ _ h
    . rcases BQ hv with⟨j,u,rfl,rfl⟩|⟨y,u,rfl,rfl⟩
      . rw[Tz]at h;exact SeqAt.EqAt.str_int x t j u _ _ _ _ h
      . rw[Tx]at h;exact wpAny_eqBool_str h
  «strs»:=λ k x t v h=>by
    rcases BQ h with⟨i,u,rfl,e⟩|⟨y,u,rfl,e⟩
    . exact nomatch e
    . injection e with e1 _
      subst e1
      cases v <;> rfl
end L2
namespace L2
open PySem PySem.Spec PyProof.Rows
inductive V where
  | non|bl (b:Bool)|int (i:Int)|str (x:Str)|byt (b:Array UInt8)|flt (b:UInt64)|ref (a:Addr)|ty (n:String)
  deriving DecidableEq
noncomputable def RelV:V->Value->Prop
  | .non,u=>u=Value.none
  | .bl b,u=>u=Value.bool b
  | .int i,u=>∃ t,u=Value.int i t
  | .str x,u=>∃ t,u=Value.str x t
  | .byt b,u=>∃ t,u=Value.bytes b t
  | .flt b,u=>∃ t,u=Value.float b t
  | .ref a,u=>u=Value.ref a
  | .ty n,u=>u=Value.type n
noncomputable abbrev Vals:List V->List Value->Prop:=Paired RelV
theorem Vals.length{xs:List V}{us:List Value}(r:Vals xs us):xs.length=us.length:=Paired.length r
theorem Vals.get:∀ {xs:List V} {us:List Value} {i:Nat} {x:V},Vals xs us->xs[i]? = some x->∃ u,us[i]? = some u/\RelV x u
  | _,_,_,_,.nil,e=>by simp at e
  | _,_,0,_,.cons r _,e=>by simp at e;subst e;exact⟨_,rfl,r⟩
  | _,_,i + 1,x,.cons _ t,e=>by
    obtain⟨u,h1,h2⟩:=Vals.get (i:=i) (x:=x) t (by simpa using e)
    exact⟨u,by simpa using h1,h2⟩
theorem Vals.set{x:V}{u:Value}(r:RelV x u):∀ {xs:List V} {us:List Value} (i:Nat),Vals xs us->Vals (xs.set i x) (us.set i u)
  | _,_,_,.nil=>.nil
  | _,_,0,.cons _ t=>.cons r t
  | _,_,i + 1,.cons q t=>.cons q (Vals.set r i t)
theorem Vals.append:∀ {xs ys:List V} {us ws:List Value},Vals xs us->Vals ys ws->Vals (xs ++ ys) (us ++ ws)
  | _,_,_,_,.nil,s=>s
  | _,_,_,_,.cons r t,s=>.cons r (Vals.append t s)
theorem Vals.take:∀ {xs:List V} {us:List Value} (n:Nat),Vals xs us->Vals (xs.take n) (us.take n)
  | _,_,0,_=>.nil
  | _,_,_ + 1,.nil=>.nil
  | _,_,n + 1,.cons r t=>.cons r (Vals.take n t)
theorem Vals.drop:∀ {xs:List V} {us:List Value} (n:Nat),Vals xs us->Vals (xs.drop n) (us.drop n)
  | _,_,0,r=>r
  | _,_,_ + 1,.nil=>.nil
  | _,_,n + 1,.cons _ t=>Vals.drop n t
noncomputable def UV:Option V->Option Value->Prop
  | some v,some u=>RelV v u
  | none,none=>True
  | _,_=>False
noncomputable def KV{κ:Type}:List (κ × V)->List (κ × Value)->Prop:=Paired λ(p:κ × V) (q:κ × Value)=>p.1=q.1/\RelV p.2 q.2
noncomputable def kV:Key->V
  | .inl i=>.int i
  | .inr x=>.str x
inductive HO where
  /-- a list -/
  | lst (xs:List V)
  /-- a tuple (never changes) -/
  | tup (xs:List V)
  /-- a dict whose keys are ints and texts;one whose keys are tuples of ints and texts (the empty one is both) -/
  | dK (kvs:List (Key × V))|dT (kvs:List (List Key × V))
  /-- a set of ints: its members,its size -/
  | set (S:Int->Bool) (n:Nat)
  /-- an instance of the class at C,its dict at dx,its attributes -/
  | ins (C dx:Addr) (fs:List (Str × V))
  /-- the dict of the instance at x -/
  | own (x:Addr)
  /-- the dict of an exception -/
  | xd (fs:List (Str × V))
  /-- a bound method,f of x -/
  | met (f x:Addr)
  /-- a range object lo,lo + 1,.. below hi -/
  | rng (lo hi:Int)
  /-- a thing that is known to the object (the script;a dict while a loop walks it): read,never written while it is so -/
  | frz (o:Obj) (u:HO)
  /-- a code object's table -/
  | tbl (ps:Array Value)
  /-- any other thing,by what is true of its one object (a def of one's own: SetO a S n:=HO.ext λ h=>..) -/
  | ext (φ:Heap->Prop)
noncomputable abbrev Hp:=Addr->Option HO
noncomputable def upd(H:Hp)(a:Addr)(o:HO):Hp:=λ b=>if b=a then some o else H b
theorem AW{H:Hp}{a:Addr}{o:HO}:upd H a o a=some o:=by unfold upd;rw[if_pos rfl]
theorem AO{H:Hp}{a b:Addr}{o:HO}(h:b ≠ a):upd H a o b=H b:=by unfold upd;rw[if_neg h]
theorem Aj{H:Hp}{a b:Addr}{o:HO}(h:H a=some o)(h':H b=none):a ≠ b:=by
  intro e;subst e;rw[h]at h';cases h'
noncomputable def IsTupD(h:Heap)(a:Addr)(items:Array Value):Prop:=∃ o,h.get? a=some o/\o.cls=.type "tuple"/\(∃ n,o.data=.seq items n)/\o.dict=none
theorem IsTupD.t{h:Heap}{a:Addr}{items:Array Value}(x:IsTupD h a items):IsTup h a items:=let ⟨o,e,c,d,_⟩:=x;⟨o,e,c,d⟩
theorem IsTupD.new(h:Heap)(items:Array Value):IsTupD (h.push { cls:=.type "tuple",data:=.seq items }) h.objs.size items:=⟨_,Heap.get?_push_size _ rfl,rfl,⟨_,rfl⟩,rfl⟩
section
variable(P:Program)(w:World)
noncomputable def ObjOk(H:Hp)(h:Heap)(a:Addr):HO->Prop
  | .lst xs=>xs.length <= sizeLine/\∃ (its:List Value) (n:Nat),Vals xs its/\h.get? a=some { cls:=.type "list",data:=.seq its.toArray n }
  | .tup xs=>xs.length <= sizeLine/\∃ its:List Value,Vals xs its/\IsTupD h a its.toArray
  | .dK kvs=>kvs.length <= sizeLine/\(a == sysModules)=false/\∃ vs,KV kvs vs/\h.DictOf (Ie P w) a vs
  | .dT kvs=>kvs.length <= sizeLine/\(a == sysModules)=false/\∃ xs:List (List Key × Addr × Value),
      Paired (λ(p:List Key × V) (q:List Key × Addr × Value)=>p.1=q.1/\H q.2.1=some (.tup (p.1.map kV))/\RelV p.2 q.2.2) kvs xs /\
      ∃ o es ep,h.get? a=some o/\o.ExactDict/\o.data=.dict es ep/\es.toList=xs.map (entryOfKey (tupleKind (Ie P w)))/\(xs.map (·.1)).Nodup
  | .set S n=>h.SetOf (intKind P w) a S n
  | .ins C dx fs=>H dx=some (.own a)/\fs.length <= 1000/\dx ≠ a/\h.get? a=some (PySem.W.instObj C dx) /\
      ∃ mA,h.Ns1 dx mA/\(∀ f,UV (fs.lookup f) (mA f))/\PySem.Within mA (fs.map (·.1))
  | .own _=>∃ o,h.get? a=some o
  | .xd fs=>∃ mA,h.Ns1 a mA/\∀ f,UV (fs.lookup f) (mA f)
  | .rng lo hi=>∃ t u v,h.get? a=some { cls:=.type "range",data:=.fields #[.int lo t,.int hi u,.int 1 v] }
  | .frz o u=>h.get? a=some o/\ObjOk H h a u
  | .tbl ps=>h.get? a=some { cls:=.none,data:=.fields ps }
  | .met f x=>h.get? a=some (PySem.W.methodObj (.ref f) (.ref x))
  | .ext φ=>φ h/\(∃ o,h.get? a=some o)/\∀ h1 h2:Heap,φ h1->(∀ o,h1.get? a=some o->h2.get? a=some o)->φ h2
noncomputable def HOk(H:Hp)(h:Heap):Prop:=∀ a o,H a=some o->ObjOk P w H h a o
end
section
variable{P:Program}{w:World}{H H':Hp}{h h':Heap}{a:Addr}{o:HO}
theorem ObjOk.lt(x:ObjOk P w H h a o):a < h.objs.size:=by
  cases o with
  | lst xs=>obtain⟨_,_,_,_,e⟩:=x;exact Heap.lt_size e
  | tup xs=>obtain⟨_,_,_,o,e,_⟩:=x;exact Heap.lt_size e
  | dK kvs=>obtain⟨_,_,_,_,o,_,_,e,_⟩:=x;exact Heap.lt_size e
  | dT kvs=>obtain⟨_,_,_,_,o,_,_,e,_⟩:=x;exact Heap.lt_size e
  | set S n=>obtain⟨o,_,_,_,e,_⟩:=x;exact Heap.lt_size e
  | ins C dx fs=>obtain⟨_,_,_,e,_⟩:=x;exact Heap.lt_size e
  | own y=>obtain⟨_,e⟩:=x;exact Heap.lt_size e
  | xd fs=>obtain⟨_,⟨_,_,_,e,_⟩,_⟩:=x;exact Heap.lt_size e
  | rng lo hi=>obtain⟨_,_,_,e⟩:=x;exact Heap.lt_size e
  | frz ob u=>obtain⟨e,_⟩:=x;exact Heap.lt_size e
  | tbl ps=>exact Heap.lt_size (show h.get? a=some _ from x)
  | met f y=>exact Heap.lt_size (show h.get? a=some _ from x)
  | ext φ=>obtain⟨_,⟨_,e⟩,_⟩:=x;exact Heap.lt_size e
theorem Paired.mapP{α β:Type}{F G:α->β->Prop}:∀ {l₁:List α} {l₂:List β},Paired F l₁ l₂->(∀ a b,F a b->G a b)->Paired G l₁ l₂
  | _,_,.nil,_=>.nil
  | _,_,.cons r t,f=>.cons (f _ _ r) (Paired.mapP t f)
theorem ObjOk.stay(x:ObjOk P w H h a o)(k:∀ b u,(b=a ∨ H b=some (.own a))->h.get? b=some u->h'.get? b=some u)
    (ho:∀ b,H b=some (.own a)->H' b=some (.own a)) (ht:∀ b xs,H b=some (.tup xs)->H' b=some (.tup xs)):ObjOk P w H' h' a o:=by
  induction o with
  | lst xs=>obtain⟨z,its,n,r,e⟩:=x;exact⟨z,its,n,r,k _ _ (.inl rfl) e⟩
  | tup xs=>obtain⟨z,its,r,ob,e,c⟩:=x;exact⟨z,its,r,ob,k _ _ (.inl rfl) e,c⟩
  | dK kvs=>obtain⟨z,y,vs,r,ob,es,ep,e,c⟩:=x;exact⟨z,y,vs,r,ob,es,ep,k _ _ (.inl rfl) e,c⟩
  | dT kvs=>
    obtain⟨z,y,xs,r,ob,es,ep,e,c⟩:=x
    exact⟨z,y,xs,Paired.mapP r λ p q z=>⟨z.1,ht _ _ z.2.1,z.2.2⟩,ob,es,ep,k _ _ (.inl rfl) e,c⟩
  | set S n=>obtain⟨ob,es,ep,t,e,c⟩:=x;exact⟨ob,es,ep,t,k _ _ (.inl rfl) e,c⟩
  | ins C dx fs=>
    obtain⟨d,z,ne,e,mA,⟨od,es,ep,e2,c⟩,r⟩:=x
    exact⟨ho _ d,z,ne,k _ _ (.inl rfl) e,mA,⟨od,es,ep,k _ _ (.inr d) e2,c⟩,r⟩
  | own y=>obtain⟨ob,e⟩:=x;exact⟨ob,k _ _ (.inl rfl) e⟩
  | xd fs=>obtain⟨mA,⟨od,es,ep,e,c⟩,r⟩:=x;exact⟨mA,⟨od,es,ep,k _ _ (.inl rfl) e,c⟩,r⟩
  | rng lo hi=>obtain⟨t,u,v,e⟩:=x;exact⟨t,u,v,k _ _ (.inl rfl) e⟩
  | frz ob u ih=>obtain⟨e,q⟩:=x;exact⟨k _ _ (.inl rfl) e,ih q⟩
  | tbl ps=>
    have e:h.get? a=some { cls:=.none,data:=.fields ps }:=x
    show h'.get? a=some { cls:=.none,data:=.fields ps }
    exact k a _ (.inl rfl) e
  | met f y=>
    have e:h.get? a=some (PySem.W.methodObj (.ref f) (.ref y)):=x
    show h'.get? a=some (PySem.W.methodObj (.ref f) (.ref y))
    exact k a _ (.inl rfl) e
  | ext φ=>obtain⟨p,⟨o,e⟩,st⟩:=x;exact⟨st _ _ p λ o q=>k _ _ (.inl rfl) q,⟨o,k _ _ (.inl rfl) e⟩,st⟩
theorem HOk.lt(x:HOk P w H h)(e:H a=some o):a < h.objs.size:=(x a o e).lt
theorem HOk.fresh(x:HOk P w H h)(e:h.objs.size <= a):H a=none:=by
  cases q:H a with
  | none=>rfl
  | some u=>exact absurd (Nat.lt_of_lt_of_le (x.lt q) e) (Nat.lt_irrefl _)
theorem HOk.kept(x:HOk P w H h)(k:∀ b u,h.get? b=some u->h'.get? b=some u):HOk P w H h':=λ a o e=>
  (x a o e).stay (λ b u _ q=>k b u q) (λ _ q=>q) λ _ _ q=>q
theorem HOk.laid(x:HOk P w H h)(k:∀ b u,h.get? b=some u->h'.get? b=some u)(hp:h.objs.size <= a)(new:ObjOk P w (upd H a o) h' a o):HOk P w (upd H a o) h':=λ b u e=>by
  have hn:=x.fresh hp
  by_cases hb:b=a
  . subst hb;rw[AW]at e;cases e;exact new
  . rw[AO hb]at e
    exact(x b u e).stay (λ c v _ q=>k c v q) (λ c q=>by rw[AO (Aj q hn)];exact q) λ c xs q=>by rw[AO (Aj q hn)];exact q
end
noncomputable def Rd(H:Hp)(a:Addr)(u:HO):Prop:=H a=some u ∨ ∃ o,H a=some (.frz o u)
theorem Rd.ok{P:Program}{w:World}{H:Hp}{h:Heap}{a:Addr}{u:HO}(r:Rd H a u)(x:HOk P w H h):ObjOk P w H h a u:=by
  rcases r with r|⟨o,r⟩
  . exact x a u r
  . obtain⟨_,q⟩:=x a _ r
    exact q
noncomputable def Mut:Option HO->Prop
  | some (.lst _)=>True
  | some (.dK _)=>True
  | some (.dT _)=>True
  | some (.set _ _)=>True
  | some (.ins _ _ _)=>True
  | some (.ext _)=>True
  | _=>False
section
variable{P:Program}{w:World}{H:Hp}{h h':Heap}{x e:Addr}{o':HO}
theorem HOk.write(ok:HOk P w H h)(mu:Mut (H x))(he:e=x ∨ H e=some (.own x))(k:∀ b u,b ≠ e->h.get? b=some u->h'.get? b=some u)(heo:∃ u,h'.get? e=some u)
    (new:ObjOk P w (upd H x o') h' x o'):HOk P w (upd H x o') h':=λ b u q=>by
  have nown:∀ c y,H c=some (.own y)->c ≠ x:=λ c y r z=>by subst z;rw[r]at mu;exact mu
  have ntup:∀ c xs,H c=some (.tup xs)->c ≠ x:=λ c xs r z=>by subst z;rw[r]at mu;exact mu
  by_cases hb:b=x
  . subst hb;rw[AW]at q;cases q;exact new
  . rw[AO hb]at q
    by_cases hbe:b=e
    . have q':H b=some (.own x):=by
        rcases he with z|z
        . exact absurd (hbe.trans z) hb
        . rw[hbe];exact z
      rw[q]at q';cases q'
      obtain⟨v,hv⟩:=heo
      exact⟨v,by rw[hbe];exact hv⟩
    . refine(ok b u q).stay (λ c v hc r=>k c v ?_ r) (λ c r=>by rw[AO (nown c b r)];exact r) λ c xs r=>by rw[AO (ntup c xs r)];exact r
      rcases hc with rfl|hc
      . exact hbe
      . rintro rfl
        rcases he with z|z
        . exact nown c b hc z
        . rw[hc]at z;cases z;exact hb rfl
end
structure Un(fs ex:List Addr)(H H':Hp)(h h':Heap):Prop where
  keep:∀ b o,h.get? b=some o->H b=none->b ∉ fs->b ∉ ex->h'.get? b=some o
  slot:∀ b o,h.get? b=some o->H b=none->b ∈ fs->b ∉ ex->∃ sl,h'.get? b=some { o with slots:=sl }
  free:∀ b o,h.get? b=some o->H b=none->b ∉ ex->H' b=none
  there:∀ b o,h.get? b=some o->b ∉ ex->∃ o',h'.get? b=some o'
  tups:∀ b xs,H b=some (.tup xs)->H' b=some (.tup xs)
  frzs:∀ b o u,H b=some (.frz o u)->H' b=some (.frz o u)
  tbls:∀ b ps,H b=some (.tbl ps)->∃ more,H' b=some (.tbl (ps ++ more))
section
variable{fs fs' ex ex':List Addr}{H H1 H2:Hp}{h h1 h2 h':Heap}{a x e:Addr}{o:HO}
theorem Un.any(u:Un fs ex H H1 h h1){b:Addr}{ob:Obj}(q:h.get? b=some ob)(n:H b=none)(hx:b ∉ ex):∃ sl,h1.get? b=some { ob with slots:=sl }:=by
  by_cases hb:b ∈ fs
  . exact u.slot b ob q n hb hx
  . exact⟨ob.slots,u.keep b ob q n hb hx⟩
theorem Un.kept(k:∀ b u,h.get? b=some u->h'.get? b=some u):Un fs ex H H h h':=
  ⟨λ b ob q _ _ _=>k b ob q,λ b ob q _ _ _=>⟨ob.slots,k b ob q⟩,λ _ _ _ n _=>n,λ b ob q _=>⟨ob,k b ob q⟩,λ _ _ q=>q,λ _ _ _ q=>q,λ _ ps q=>⟨#[],by rw[q];simp⟩⟩
theorem Un.refl:Un fs ex H H h h:=Un.kept λ _ _ q=>q
theorem Un.laid(k:∀ b u,h.get? b=some u->h'.get? b=some u)(hp:h.objs.size <= a)(hn:H a=none):Un fs ex H (upd H a o) h h' where
  keep:=λ b u q _ _ _=>k b u q
  slot:=λ b u q _ _ _=>⟨u.slots,k b u q⟩
  free:=λ b u q n _=>by rw[AO (Nat.ne_of_lt (Nat.lt_of_lt_of_le (Heap.lt_size q) hp))];exact n
  there:=λ b u q _=>⟨u,k b u q⟩
  tups:=λ b xs q=>by rw[AO (Aj q hn)];exact q
  frzs:=λ b u xs q=>by rw[AO (Aj q hn)];exact q
  tbls:=λ b ps q=>⟨#[],by rw[AO (Aj q hn),q];simp⟩
theorem Un.write(mu:Mut (H x))(he:e=x ∨ H e=some (.own x))(k:∀ b u,b ≠ e->h.get? b=some u->h'.get? b=some u)(heo:∃ u,h'.get? e=some u):Un fs ex H (upd H x o) h h':=by
  have hx:∀ b,H b=none->b ≠ x:=λ b n z=>by subst z;rw[n]at mu;exact mu
  have hb:∀ b,H b=none->b ≠ e:=λ b n z=>by
    subst z
    rcases he with r|r
    . exact hx b n r
    . rw[n]at r;cases r
  have hm:∀ b u,H b=some u->¬ Mut (some u)->b ≠ x:=λ b u q nm z=>by subst z;rw[q]at mu;exact nm mu
  refine⟨λ b u q n _ _=>k b u (hb b n) q,λ b u q n _ _=>⟨u.slots,k b u (hb b n) q⟩,λ b u q n _=>by rw[AO (hx b n)];exact n,λ b u q _=>?_,
    λ b xs q=>by rw[AO (hm b _ q λ z=>z)];exact q,λ b u xs q=>by rw[AO (hm b _ q λ z=>z)];exact q,λ b ps q=>⟨#[],by rw[AO (hm b _ q λ z=>z),q];simp⟩⟩
  by_cases hbe:b=e
  . subst hbe;exact heo
  . exact⟨u,k b u hbe q⟩
end
noncomputable def trk(h:Heap)(H:Hp):List Addr:=(List.range h.objs.size).filter λ a=>(H a).isSome
noncomputable def Fi(h:Heap)(H:Hp):Heap:=PySem.W.hideAll h (trk h H)
theorem Nb(h:Heap)(H:Hp):(Fi h H).objs.size=h.objs.size:=PySem.W.hideAll_size _ _
theorem P8{h:Heap}{H:Hp}{b:Addr}{o:Obj}(e:h.get? b=some o)(n:H b=none):(Fi h H).get? b=some o:=
  PySem.W.hideAll_get _ e λ hm=>by
    have q:(H b).isSome=true:=(List.mem_filter.mp hm).2
    rw[n]at q;simp at q
theorem Ri{h:Heap}{H:Hp}{b:Addr}{o:Obj}(e:(Fi h H).get? b=some o):h.get? b=some o/\H b=none:=by
  have e':h.get? b=some o:=PySem.W.of_hideAll (trk h H) e
  refine⟨e',?_⟩
  cases q:H b with
  | none=>rfl
  | some x=>
    have hm:b ∈ trk h H:=List.mem_filter.mpr ⟨List.mem_range.mpr (Heap.lt_size e'),by simp[q]⟩
    have z:(Fi h H).get? b=none:=PySem.W.hideAll_none (trk h H) hm
    rw[z]at e;cases e
noncomputable def S8(g h:Heap)(L:Addr):List (Addr × Obj):=(List.range h.objs.size).filterMap λ a=>if a=L ∨ (g.get? a).isSome=true then none else(h.get? a).map λ o=>(a,o)
noncomputable def rest(g h:Heap)(L d:Addr):List (Addr × Obj):=(S8 g h L).filter λ p=>decide (p.1 ≠ d)
end L2
namespace L2
open PySem PySem.Spec PyProof.Rows
structure Mod(K:PySem.W.Frag)(mg:Str->Option Value)(base:Heap):Prop where
  kin:K.In base
  glob:base.Ns mainGlobals mg
  blt:∃ mb,base.Ns builtinsNs mb/\∀ x:Str,x ≠ "__name__"->mb x=bootBuiltins x
  nolimit:base.NoLimit
structure Cx where
  prog:Program
  w:World
  K:PySem.W.Frag
  mg:Str->Option Value
  base:Heap
  A:Around
  N:List Str
  s₀:Shared
  H₀:Hp
  env:Env
  outer:List Env
  stack:List Env
  ex:List Addr
  fn:Str->Bool
  calm:Bool
  pn:List (Addr × Obj)
  xe:Value->Shared->Prop
noncomputable def frs(l:List Env):List Addr:=l.filterMap (·.frame)
noncomputable abbrev Cx.fs(X:Cx):List Addr:=frs X.outer
noncomputable def Vis(sc:Scope)(x:Str):Prop:=sc.names.lookup x=some .local ∨ sc.names.lookup x=some .cell ∨ sc.names.lookup x=some .free
noncomputable def Loc(sc:Scope)(x:Str):Prop:=sc.names.lookup x=some .local ∨ sc.names.lookup x=some .cell
noncomputable def Vk(env:Env)(h:Heap)(m:Str->Option Value)(x:Str)(u:Value):Prop:=
  (env.kindOf x=some .local/\m x=some u) ∨ ((env.kindOf x=some .cell ∨ env.kindOf x=some .free)/\∃ c,env.cells.lookup x=some c/\h.IsCell c (some u))
structure Cx.Ok(X:Cx):Prop where
  mod:Mod X.K X.mg X.base
  kind:X.env.scope.kind=.function
  glob:X.env.globals=mainGlobals
  blt:X.env.builtins=builtinsNs
  above:X.s₀.heap.objs.size <= X.env.locals
  inj:∀ x y c,X.env.cells.lookup x=some c->X.env.cells.lookup y=some c->x=y
  has:∀ x,(X.env.kindOf x=some .cell ∨ X.env.kindOf x=some .free)->∃ c,X.env.cells.lookup x=some c
  cab:∀ x c,X.fn x=true->X.env.cells.lookup x=some c->X.s₀.heap.objs.size <= c
  hd:X.calm=true->X.A.handled=none
  frames:X.A.frames=some X.stack
  stk:X.stack=X.outer ∨ (X.stack=X.env :: X.outer/\X.env.frame=some X.env.locals)
  exf:∀ b ∈ X.ex,b ≠ X.env.locals/\∀ x c,X.env.cells.lookup x=some c->c ≠ b
  bs:∀ b o,X.base.get? b=some o->X.s₀.heap.get? b=some o/\X.H₀ b=none
  bsz:X.base.objs.size <= X.s₀.heap.objs.size
  noex:∀ b o,X.base.get? b=some o->b ∉ X.ex
  exfs:∀ b ∈ X.ex,b ∉ X.fs
  funs:X.s₀.heap.FunFrames X.base X.outer
  frf:∀ b ∈ X.fs,X.H₀ b=none
structure Inv(X:Cx)(pins:List (Addr × Obj))(σ:List (Option V))(H:Hp)(s:Shared):Prop where
  ok:X.Ok
  os:s.os=X.s₀.os
  bare:AllBare s.gens
  base:Un X.fs X.ex X.H₀ H X.s₀.heap s.heap
  loc:∃ m,s.heap.Ns X.env.locals m/\∀ (i:Nat) (x:Str) (v:V),X.N[i]? = some x->σ[i]? = some (some v)->Vis X.env.scope x->∃ u,RelV v u/\Vk X.env s.heap m x u
  cell:∀ x c,X.env.cells.lookup x=some c->∃ v,s.heap.IsCell c v
  free:H X.env.locals=none
  freeC:∀ x c,X.env.cells.lookup x=some c->H c=none
  pin:∀ p ∈ X.pn ++ pins,s.heap.get? p.1=some p.2/\H p.1=none/\p.1 ≠ X.env.locals/\p.1 ∉ X.fs/\∀ v,p.2.data ≠ .cell v
  hok:HOk X.prog X.w H s.heap
  len:σ.length=X.N.length
section
variable{X:Cx}{pins:List (Addr × Obj)}{σ:List (Option V)}{H H':Hp}{s:Shared}{h':Heap}
theorem Cx.Ok.nofr(ok:X.Ok){b:Addr}{o:Obj}(e:X.base.get? b=some o):b ∉ X.fs:=λ hb=>by
  have:=(ok.funs.mem hb).1
  rw[e]at this;cases this
theorem Inv.bs(I:Inv X pins σ H s):∀ b o,X.base.get? b=some o->s.heap.get? b=some o/\H b=none:=λ b o e=>
  ⟨I.base.keep b o (I.ok.bs b o e).1 (I.ok.bs b o e).2 (I.ok.nofr e) (I.ok.noex b o e),I.base.free b o (I.ok.bs b o e).1 (I.ok.bs b o e).2 (I.ok.noex b o e)⟩
theorem Inv.bk(I:Inv X pins σ H s):∀ b o,X.base.get? b=some o->s.heap.get? b=some o:=λ b o e=>(I.bs b o e).1
theorem Inv.mod(I:Inv X pins σ H s):Mod X.K X.mg X.base:=I.ok.mod
theorem Inv.kIn(I:Inv X pins σ H s):X.K.In s.heap:=I.ok.mod.kin.keeps I.bk
theorem Inv.lt(I:Inv X pins σ H s):X.env.locals < s.heap.objs.size:=let ⟨_,hn,_⟩:=I.loc;hn.lt
theorem Inv.sz(I:Inv X pins σ H s):X.s₀.heap.objs.size <= s.heap.objs.size:=Nat.le_trans I.ok.above (Nat.le_of_lt I.lt)
theorem Inv.nofs(I:Inv X pins σ H s){a:Addr}(h:s.heap.objs.size <= a):a ∉ X.fs:=λ hb=>by
  obtain⟨_,o,ho,_⟩:=I.ok.funs.mem hb
  exact absurd (Nat.lt_of_lt_of_le (Heap.lt_size ho) (Nat.le_trans I.sz h)) (Nat.lt_irrefl _)
theorem Inv.cne(I:Inv X pins σ H s):∀ x c,X.env.cells.lookup x=some c->c ≠ X.env.locals:=λ x c e z=>by
  obtain⟨v,o,ho,hd⟩:=I.cell x c e
  obtain⟨m,⟨o',es,ep,ho',hd',_⟩,_⟩:=I.loc
  rw[z,ho']at ho;cases ho;rw[hd']at hd;cases hd
theorem Inv.funs(I:Inv X pins σ H s):s.heap.FunFrames X.base X.outer:=by
  have all:∀ (l:List Env),(∀ b ∈ frs l,b ∈ X.fs)->X.s₀.heap.FunFrames X.base l->s.heap.FunFrames X.base l:=by
    intro l
    induction l with
    | nil=>intro _ _;trivial
    | cons env r ih=>
      intro hs hl
      obtain⟨hk,⟨L,o,hf,hn,ho,hd⟩,hr⟩:=hl
      have hL:L ∈ X.fs:=hs L (by unfold frs;rw[List.filterMap_cons,hf];exact List.mem_cons_self)
      obtain⟨sl,e⟩:=I.base.slot L o ho (I.ok.frf L hL) hL λ z=>I.ok.exfs L z hL
      exact⟨hk,⟨L,_,hf,hn,e,hd⟩,ih (λ b hb=>hs b (by unfold frs;rw[List.filterMap_cons,hf];exact List.mem_cons_of_mem _ hb)) hr⟩
  exact all X.outer (λ _ hb=>hb) I.ok.funs
theorem Inv.stack(I:Inv X pins σ H s):s.heap.FunFrames X.base X.stack:=by
  rcases I.ok.stk with e|⟨e,hf⟩
  . rw[e];exact I.funs
  . rw[e]
    obtain⟨m,hn,_⟩:=I.loc
    refine .cons (by rw[I.ok.kind];decide) hf hn ?_ I.funs
    exact Heap.get?_none_of_le (Nat.le_trans I.ok.bsz I.ok.above)
theorem Inv.stkSub(I:Inv X pins σ H s):∀ b ∈ frs X.stack,b ∈ X.env.locals :: X.fs:=λ b hb=>by
  rcases I.ok.stk with e|⟨e,hf⟩
  . rw[e]at hb;exact List.mem_cons_of_mem _ hb
  . rw[e]at hb
    unfold frs at hb
    rw[List.filterMap_cons,hf]at hb
    exact hb
theorem Inv.stkFree(I:Inv X pins σ H s):∀ b ∈ frs X.stack,H b=none:=λ b hb=>by
  rcases List.mem_cons.mp (I.stkSub b hb)with e|hb
  . rw[e];exact I.free
  . obtain⟨_,o,ho,_⟩:=I.ok.funs.mem hb
    exact I.base.free b o ho (I.ok.frf b hb) λ z=>I.ok.exfs b z hb
theorem Inv.step{g':Array GenState}{t':Nat}{d':Drawn}{ch:List Addr}(I:Inv X pins σ H s)
    (hch:∀ b ∈ ch,(b ∈ X.ex ∨ X.s₀.heap.objs.size <= b)/\b ≠ X.env.locals/\(∀ x c,X.env.cells.lookup x=some c->c ≠ b)/\∀ p ∈ X.pn ++ pins,p.1 ≠ b)
    (keep:∀ b o,b ≠ X.env.locals->b ∉ X.fs->b ∉ ch->s.heap.get? b=some o->H b=none->h'.get? b=some o)
    (slot:∀ b o,b ≠ X.env.locals->b ∈ X.fs->b ∉ ch->s.heap.get? b=some o->H b=none->∃ sl,h'.get? b=some { o with slots:=sl }) (free:∀ b o,b ∉ ch->s.heap.get? b=some o->H b=none->H' b=none)
    (there:∀ b o,b ∉ ch->s.heap.get? b=some o->∃ o',h'.get? b=some o')
    (tups:∀ b xs,H b=some (.tup xs)->H' b=some (.tup xs)) (frzs:∀ b o u,H b=some (.frz o u)->H' b=some (.frz o u)) (tbls:∀ b ps,H b=some (.tbl ps)->∃ more,H' b=some (.tbl (ps ++ more)))
    (ns:∀ m,s.heap.Ns X.env.locals m->h'.Ns X.env.locals m) (hok:HOk X.prog X.w H' h') (hg:AllBare g') :
    Inv X pins σ H' { s with heap:=h',gens:=g',drawn:=d',toks:=t' }:=by
  have neL:∀ b o,X.s₀.heap.get? b=some o->b ≠ X.env.locals:=λ b o e=>Nat.ne_of_lt (Nat.lt_of_lt_of_le (Heap.lt_size e) I.ok.above)
  have neC:∀ b o,X.s₀.heap.get? b=some o->b ∉ X.ex->b ∉ ch:=λ b o e hx hb=>by
    rcases(hch b hb).1 with z|z
    . exact hx z
    . exact absurd (Nat.lt_of_lt_of_le (Heap.lt_size e) z) (Nat.lt_irrefl _)
  have cellK:∀ x c,X.env.cells.lookup x=some c->∀ v,s.heap.IsCell c v->h'.IsCell c v:=λ x c e v ⟨o,ho,hd⟩=>by
    have nch:c ∉ ch:=λ z=>(hch c z).2.2.1 x c e rfl
    by_cases hc:c ∈ X.fs
    . obtain⟨sl,q⟩:=slot c o (I.cne x c e) hc nch ho (I.freeC x c e)
      exact⟨_,q,hd⟩
    . exact⟨o,keep c o (I.cne x c e) hc nch ho (I.freeC x c e),hd⟩
  refine⟨I.ok,I.os,hg,⟨λ b o e n hb hx=>?_,λ b o e n hb hx=>?_,λ b o e n hx=>?_,λ b o e hx=>?_,λ b xs e=>tups b xs (I.base.tups b xs e),λ b o xs e=>frzs b o xs (I.base.frzs b o xs e),λ b ps e=>?_⟩,?_,λ x c e=>?_,?_,λ x c e=>?_,λ p hp=>?_,hok,I.len⟩
  . exact keep b o (neL b o e) hb (neC b o e hx) (I.base.keep b o e n hb hx) (I.base.free b o e n hx)
  . obtain⟨sl,e1⟩:=I.base.slot b o e n hb hx
    obtain⟨sl',e2⟩:=slot b _ (neL b o e) hb (neC b o e hx) e1 (I.base.free b o e n hx)
    exact⟨sl',e2⟩
  . obtain⟨o',e1⟩:=I.base.there b o e hx
    exact free b o' (neC b o e hx) e1 (I.base.free b o e n hx)
  . obtain⟨o',e1⟩:=I.base.there b o e hx
    exact there b o' (neC b o e hx) e1
  . obtain⟨m1,e1⟩:=I.base.tbls b ps e
    obtain⟨m2,e2⟩:=tbls b _ e1
    exact⟨m1 ++ m2,by rw[e2,Array.append_assoc]⟩
  . obtain⟨m,hn,hl⟩:=I.loc
    refine⟨m,ns m hn,λ i x v e1 e2 e3=>?_⟩
    obtain⟨u,r,l⟩:=hl i x v e1 e2 e3
    refine⟨u,r,?_⟩
    rcases l with l|⟨k,c,e,z⟩
    . exact .inl l
    . exact .inr ⟨k,c,e,cellK x c e _ z⟩
  . obtain⟨v,z⟩:=I.cell x c e
    exact⟨v,cellK x c e v z⟩
  . obtain⟨m,⟨o,_,_,ho,_⟩,_⟩:=I.loc
    exact free _ o (λ z=>(hch _ z).2.1 rfl) ho I.free
  . obtain⟨v,o,ho,hd⟩:=I.cell x c e
    exact free c o (λ z=>(hch c z).2.2.1 x c e rfl) ho (I.freeC x c e)
  . obtain⟨e,n,ne,nf,d⟩:=I.pin p hp
    have nch:p.1 ∉ ch:=λ z=>(hch p.1 z).2.2.2 p hp rfl
    exact⟨keep p.1 p.2 ne nf nch e n,free p.1 p.2 nch e n,ne,nf,d⟩
theorem Inv.un{t':Nat}(I:Inv X pins σ H s)(u:Un X.fs [] H H' s.heap h')(hok:HOk X.prog X.w H' h'):Inv X pins σ H' { s with heap:=h',toks:=t' }:=by
  obtain⟨m,⟨o,es,ep,ho,r⟩,_⟩:=id I.loc
  obtain⟨sl,hL⟩:=u.any ho I.free (by simp)
  exact I.step (g':=s.gens) (d':=s.drawn) (ch:=[]) (λ _ z=>nomatch z) (λ b o _ hb _ e n=>u.keep b o e n hb (by simp)) (λ b o _ hb _ e n=>u.slot b o e n hb (by simp)) (λ b o _ e n=>u.free b o e n (by simp)) (λ b o _ e=>u.there b o e (by simp)) u.tups u.frzs u.tbls (λ m' hm=>by
    obtain⟨o',es',ep',ho',r'⟩:=hm
    rw[ho]at ho';cases ho'
    exact⟨_,es',ep',hL,r'⟩) hok I.bare
theorem Inv.call{g':Array GenState}{t':Nat}{d':Drawn}{ch:List Addr}(I:Inv X pins σ H s)(u:Un (frs X.stack) ch H H' s.heap h')(hok:HOk X.prog X.w H' h')(hg:AllBare g')
    (hch:∀ b ∈ ch,(b ∈ X.ex ∨ X.s₀.heap.objs.size <= b)/\b ≠ X.env.locals/\(∀ x c,X.env.cells.lookup x=some c->c ≠ b)/\∀ p ∈ X.pn ++ pins,p.1 ≠ b) :
    Inv X pins σ H' { s with heap:=h',gens:=g',drawn:=d',toks:=t' }:=by
  obtain⟨m,⟨o,es,ep,ho,r⟩,_⟩:=id I.loc
  obtain⟨sl,hL⟩:=u.any ho I.free λ z=>(hch _ z).2.1 rfl
  exact I.step (ch:=ch) hch (λ b o hL hb hc e n=>u.keep b o e n (λ z=>(List.mem_cons.mp (I.stkSub b z)).elim hL hb) hc) (λ b o _ _ hc e n=>u.any e n hc) (λ b o hc e n=>u.free b o e n hc) (λ b o hc e=>u.there b o e hc) u.tups u.frzs u.tbls (λ m' hm=>by
    obtain⟨o',es',ep',ho',r'⟩:=hm
    rw[ho]at ho';cases ho'
    exact⟨_,es',ep',hL,r'⟩) hok hg
theorem Inv.turned{t':Nat}{it:Addr}(I:Inv X pins σ H s)(k:∀ b o,b ≠ it->s.heap.get? b=some o->h'.get? b=some o)(hn:H it=none)(hL:it ≠ X.env.locals)
    (h1:it ∈ X.ex ∨ X.s₀.heap.objs.size <= it) (h2:∀ x c,X.env.cells.lookup x=some c->c ≠ it) (h3:∀ p ∈ X.pn ++ pins,p.1 ≠ it):Inv X pins σ H { s with heap:=h',toks:=t' }:=by
  have nit:∀ b u,H b=some u->b ≠ it:=λ b u e z=>by rw[z,hn]at e;cases e
  refine I.step (g':=s.gens) (d':=s.drawn) (ch:=[it]) (λ b hb=>?_) (λ b o _ _ hc e _=>k b o (λ z=>hc (by simp[z])) e) (λ b o _ _ hc e _=>⟨o.slots,k b o (λ z=>hc (by simp[z])) e⟩) (λ _ _ _ _ n=>n)
    (λ b o hc e=>⟨o,k b o (λ z=>hc (by simp[z])) e⟩) (λ _ _ e=>e) (λ _ _ _ e=>e) (λ b ps e=>⟨#[],by rw[e];simp⟩) (λ m hm=>?_) (λ b u e=>?_) I.bare
  . have e:b=it:=by simpa using hb
    subst e
    exact⟨h1,hL,h2,h3⟩
  . obtain⟨o,es,ep,ho,r⟩:=hm
    exact⟨o,es,ep,k _ o (Ne.symm hL) ho,r⟩
  . refine(I.hok b u e).stay (λ c v hc q=>k c v ?_ q) (λ _ q=>q) λ _ _ q=>q
    rcases hc with z|z
    . rw[z];exact nit b u e
    . exact nit c _ z
theorem Inv.tok(I:Inv X pins σ H s)(t:Nat):Inv X pins σ H { s with toks:=t }:=I.un (h':=s.heap) (t':=t) Un.refl I.hok
theorem Inv.kept{t':Nat}(I:Inv X pins σ H s)(k:∀ b u,s.heap.get? b=some u->h'.get? b=some u):Inv X pins σ H { s with heap:=h',toks:=t' }:=I.un (Un.kept k) (I.hok.kept k)
theorem Inv.laid{a:Addr}{o:HO}{t':Nat}(I:Inv X pins σ H s)(k:∀ b u,s.heap.get? b=some u->h'.get? b=some u)(hp:s.heap.objs.size <= a)(new:ObjOk X.prog X.w (upd H a o) h' a o) :
    Inv X pins σ (upd H a o) { s with heap:=h',toks:=t' }:=I.un (Un.laid k hp (I.hok.fresh hp)) (I.hok.laid k hp new)
theorem Inv.write{x e:Addr}{o:HO}{t':Nat}(I:Inv X pins σ H s)(mu:Mut (H x))(he:e=x ∨ H e=some (.own x))(k:∀ b u,b ≠ e->s.heap.get? b=some u->h'.get? b=some u)(heo:∃ u,h'.get? e=some u)
    (new:ObjOk X.prog X.w (upd H x o) h' x o):Inv X pins σ (upd H x o) { s with heap:=h',toks:=t' }:=I.un (Un.write mu he k heo) (I.hok.write mu he k heo new)
theorem Inv.pins_of{pins':List (Addr × Obj)}(I:Inv X pins σ H s)(h:∀ p ∈ pins',s.heap.get? p.1=some p.2/\H p.1=none/\p.1 ≠ X.env.locals/\p.1 ∉ X.fs/\∀ v,p.2.data ≠ .cell v):Inv X pins' σ H s:=
  ⟨I.ok,I.os,I.bare,I.base,I.loc,I.cell,I.free,I.freeC,λ p hp=>(List.mem_append.mp hp).elim (λ z=>I.pin p (List.mem_append_left _ z)) (h p),I.hok,I.len⟩
theorem KD{N:List Str}(hN:N.Nodup){i j:Nat}{x:Str}(a:N[i]? = some x)(b:N[j]? = some x):i=j:=by
  obtain⟨h1,e1⟩:=List.getElem?_eq_some_iff.mp a
  obtain⟨h2,e2⟩:=List.getElem?_eq_some_iff.mp b
  exact(List.getElem_inj hN).mp (e1.trans e2.symm)
theorem Iu{M:Model}{A:Around}{E:Value->Shared->Prop}{i:Nat}{x:Str}{v:V}{u:Value}{Q:Unit->Shared->Prop}(I:Inv X pins σ H s)(hN:X.N.Nodup)(hi:X.N[i]? = some x)(hx:Loc X.env.scope x)(r:RelV v u)
    (h:∀ s',Inv X pins (σ.set i (some v)) H s'->(∃ a,Heap.SameBut a s.heap s'.heap/\(a=X.env.locals ∨ X.env.cells.lookup x=some a))->Q () s') (hf:X.fn x=true ∨ X.env.scope.names.lookup x=some .local:=by first|exact .inl rfl|exact .inr rfl|assumption):wpAny M A (storeName X.env x u) Q E s:=by
  obtain⟨m,hn,hl⟩:=id I.loc
  have hcls:(X.env.scope.kind == .class || (X.env.scope.kind == .module && X.env.locals != X.env.globals))=false:=by rw[I.ok.kind];rfl
  have hiσ:i < σ.length:=by rw[I.len];exact(List.getElem?_eq_some_iff.mp hi).1
  have cne:=I.cne
  have tracked:∀ {a:Addr} {h':Heap},(∃ o,s.heap.get? a=some o/\H a=none)->Heap.SameBut a s.heap h'->HOk X.prog X.w H h':=λ {a h'} ha hs b ob e=>by
    obtain⟨_,_,hfree⟩:=ha
    refine(I.hok b ob e).stay (λ c w' hc q=>(hs.2 c ?_).trans q) (λ _ q=>q) λ _ _ q=>q
    rintro rfl
    rcases hc with rfl|hc
    . rw[hfree]at e;cases e
    . rw[hfree]at hc;cases hc
  rcases hx with hk|hk
  . refine wpAny_storeName_local hk hn (λ h' hn' hs=>?_) hcls
    obtain⟨oL,_,_,hoL,_⟩:=id hn
    refine h _ ⟨I.ok,I.os,I.bare,⟨λ b o e n hb hx=>?_,λ b o e n hb hx=>?_,I.base.free,λ b o e hx=>?_,I.base.tups,I.base.frzs,I.base.tbls⟩,⟨_,hn',λ j y v' e1 e2 e3=>?_⟩,λ y c e=>?_,I.free,I.freeC,λ p hp=>?_,tracked ⟨oL,hoL,I.free⟩ hs,by simpa using I.len⟩ ⟨_,hs,.inl rfl⟩
    . exact(hs.2 b (Nat.ne_of_lt (Nat.lt_of_lt_of_le (Heap.lt_size e) I.ok.above))).trans (I.base.keep b o e n hb hx)
    . obtain⟨sl,e1⟩:=I.base.slot b o e n hb hx
      exact⟨sl,(hs.2 b (Nat.ne_of_lt (Nat.lt_of_lt_of_le (Heap.lt_size e) I.ok.above))).trans e1⟩
    . obtain⟨o',e1⟩:=I.base.there b o e hx
      exact⟨o',(hs.2 b (Nat.ne_of_lt (Nat.lt_of_lt_of_le (Heap.lt_size e) I.ok.above))).trans e1⟩
    . by_cases hj:j=i
      . subst hj
        rw[hi]at e1;cases e1
        rw[List.getElem?_set_self hiσ]at e2
        cases e2
        exact⟨u,r,.inl ⟨hk,by simp⟩⟩
      . rw[List.getElem?_set_ne (Ne.symm hj)]at e2
        obtain⟨u',r',q⟩:=hl j y v' e1 e2 e3
        refine⟨u',r',?_⟩
        rcases q with⟨k,e⟩|⟨k,c,e,z⟩
        . refine .inl ⟨k,?_⟩
          have:y ≠ x:=λ e=>hj (KD hN e1 (e ▸ hi))
          simp[this,e]
        . exact .inr ⟨k,c,e,z.sameBut hs (cne y c e)⟩
    . obtain⟨w',z⟩:=I.cell y c e
      exact⟨w',z.sameBut hs (cne y c e)⟩
    . obtain⟨e,n,ne,nf,d⟩:=I.pin p hp
      exact⟨(hs.2 p.1 ne).trans e,n,ne,nf,d⟩
  . have hfn:X.fn x=true:=by
      rcases hf with z|z
      . exact z
      . rw[z]at hk;cases hk
    obtain⟨c,hc⟩:=I.ok.has x (.inl hk)
    obtain⟨w',z⟩:=I.cell x c hc
    refine wpAny_storeName_cell I.ok.kind hk hc z (λ h' hc' hs=>?_)
    obtain⟨oc,hoc,hocd⟩:=id z
    refine h { s with heap:=h' } ⟨I.ok,I.os,I.bare,⟨λ b o e n hb hx=>?_,λ b o e n hb hx=>?_,I.base.free,λ b o e hx=>?_,I.base.tups,I.base.frzs,I.base.tbls⟩,⟨m,hn.sameBut hs (Ne.symm (cne x c hc)),λ j y v' e1 e2 e3=>?_⟩,λ y c' e=>?_,I.free,I.freeC,λ p hp=>?_,tracked ⟨oc,hoc,I.freeC x c hc⟩ hs,by simpa using I.len⟩ ⟨c,hs,.inr hc⟩
    . exact(hs.2 b (Nat.ne_of_lt (Nat.lt_of_lt_of_le (Heap.lt_size e) (I.ok.cab x c hfn hc)))).trans (I.base.keep b o e n hb hx)
    . obtain⟨sl,e1⟩:=I.base.slot b o e n hb hx
      exact⟨sl,(hs.2 b (Nat.ne_of_lt (Nat.lt_of_lt_of_le (Heap.lt_size e) (I.ok.cab x c hfn hc)))).trans e1⟩
    . obtain⟨o',e1⟩:=I.base.there b o e hx
      exact⟨o',(hs.2 b (Nat.ne_of_lt (Nat.lt_of_lt_of_le (Heap.lt_size e) (I.ok.cab x c hfn hc)))).trans e1⟩
    . by_cases hj:j=i
      . subst hj
        rw[hi]at e1;cases e1
        rw[List.getElem?_set_self hiσ]at e2
        cases e2
        exact⟨u,r,.inr ⟨.inl hk,c,hc,hc'⟩⟩
      . rw[List.getElem?_set_ne (Ne.symm hj)]at e2
        obtain⟨u',r',q⟩:=hl j y v' e1 e2 e3
        refine⟨u',r',?_⟩
        rcases q with q|⟨k,c',e,z'⟩
        . exact .inl q
        . refine .inr ⟨k,c',e,z'.sameBut hs ?_⟩
          rintro rfl
          exact hj (KD hN e1 (I.ok.inj _ _ _ e hc ▸ hi))
    . by_cases hcc:c'=c
      . subst hcc;exact⟨_,hc'⟩
      . obtain⟨w2,z2⟩:=I.cell y c' e
        exact⟨w2,z2.sameBut hs hcc⟩
    . obtain⟨e,n,ne,nf,d⟩:=I.pin p hp
      refine⟨(hs.2 p.1 ?_).trans e,n,ne,nf,d⟩
      intro q
      rw[q,hoc]at e
      have q':oc=p.2:=Option.some.inj e
      exact d w' (by rw[<- q'];exact hocd)
theorem CU{M:Model}{A:Around}{E:Value->Shared->Prop}{i:Nat}{x:Str}{v:V}{u:Value}{Q:Unit->Shared->Prop}(I:Inv X pins σ H s)(hN:X.N.Nodup)(hi:X.N[i]? = some x)(hx:Loc X.env.scope x)(r:RelV v u)
    (h:∀ s',Inv X pins (σ.set i (some v)) H s'->Q () s') (hf:X.fn x=true ∨ X.env.scope.names.lookup x=some .local:=by first|exact .inl rfl|exact .inr rfl|assumption):wpAny M A (storeName X.env x u) Q E s:=
  Iu I hN hi hx r (λ s' I' _=>h s' I') hf
theorem Inv.call'{s':Shared}{ch:List Addr}(I:Inv X pins σ H s)(ho:s'.os=s.os)(u:Un (frs X.stack) ch H H' s.heap s'.heap)(hok:HOk X.prog X.w H' s'.heap)(hg:AllBare s'.gens)
    (hch:∀ b ∈ ch,(b ∈ X.ex ∨ X.s₀.heap.objs.size <= b)/\b ≠ X.env.locals/\(∀ x c,X.env.cells.lookup x=some c->c ≠ b)/\∀ p ∈ X.pn ++ pins,p.1 ≠ b):Inv X pins σ H' s':=by
  obtain⟨h',g',d',t',o'⟩:=s'
  have e:o'=s.os:=ho
  subst e
  exact I.call (g':=g') (t':=t') (d':=d') u hok hg hch
end
noncomputable abbrev XK:=Value->Option Addr->Hp->Prop
noncomputable abbrev St:=List (Option V)
noncomputable abbrev VK:=V->Hp->Prop
noncomputable abbrev TE:=St->Hp->VK->Prop
noncomputable abbrev TT:=St->Hp->(Bool->Hp->Prop)->Prop
noncomputable abbrev TA:=St->Hp->(List V->Hp->Prop)->Prop
structure Ends where
  nx:St->Hp->Prop
  rt:VK
  bk:St->Hp->Prop:=λ _ _=>False
  ct:St->Hp->Prop:=λ _ _=>False
noncomputable abbrev TS:=Ends->St->Hp->Prop
noncomputable def EP(X:Cx)(pins:List (Addr × Obj))(σ:St)(Q:VK)(u:Value)(s':Shared):Prop:=∃ v H',Inv X pins σ H' s'/\RelV v u/\Q v H'
noncomputable def TP(X:Cx)(pins:List (Addr × Obj))(σ:St)(Q:Bool->Hp->Prop)(b:Bool)(s':Shared):Prop:=∃ H',Inv X pins σ H' s'/\Q b H'
noncomputable def AP(X:Cx)(pins:List (Addr × Obj))(σ:St)(Q:List V->Hp->Prop)(us:List Value)(s':Shared):Prop:=∃ vs H',Inv X pins σ H' s'/\Vals vs us/\Q vs H'
noncomputable def SP(X:Cx)(pins:List (Addr × Obj))(D:Ends)(f:Flow)(s':Shared):Prop:=
  match f with
  | .next=>∃ σ' H',Inv X pins σ' H' s'/\D.nx σ' H'
  | .brk=>∃ σ' H',Inv X pins σ' H' s'/\D.bk σ' H'
  | .cont=>∃ σ' H',Inv X pins σ' H' s'/\D.ct σ' H'
  | .ret u=>∃ v σ' H',Inv X pins σ' H' s'/\RelV v u/\D.rt v H'
noncomputable def PE(X:Cx)(e:Expr)(t:TE):Prop:=
  ∀ (pins:List (Addr × Obj)) (s:Shared) (σ:St) (H:Hp) (Q:VK),Inv X pins σ H s->t σ H Q->wpAny (model X.prog X.w) X.A (eval e X.env) (EP X pins σ Q) X.xe s
noncomputable def PT(X:Cx)(e:Expr)(t:TT):Prop:=
  ∀ (pins:List (Addr × Obj)) (s:Shared) (σ:St) (H:Hp) (Q:Bool->Hp->Prop),Inv X pins σ H s->t σ H Q->wpAny (model X.prog X.w) X.A (isTrue e X.env (eval e X.env)) (TP X pins σ Q) X.xe s
noncomputable def PW(X:Cx)(e:Expr)(t:TT):Prop:=
  ∀ (whole:Sem Value) (pins:List (Addr × Obj)) (s:Shared) (σ:St) (H:Hp) (Q:Bool->Hp->Prop),Inv X pins σ H s->t σ H Q->wpAny (model X.prog X.w) X.A (isTrue e X.env whole) (TP X pins σ Q) X.xe s
theorem PW.pt{X:Cx}{e:Expr}{t:TT}(h:PW X e t):PT X e t:=h _
noncomputable def PA(X:Cx)(es:List Expr)(t:TA):Prop:=
  ∀ (pos:Pos) (pins:List (Addr × Obj)) (s:Shared) (σ:St) (H:Hp) (Q:List V->Hp->Prop),Inv X pins σ H s->t σ H Q->wpAny (model X.prog X.w) X.A (spliced (backTo pos (starEach es X.env))) (AP X pins σ Q) X.xe s
noncomputable def PS(X:Cx)(st:Stmt)(t:TS):Prop:=
  ∀ (pins:List (Addr × Obj)) (s:Shared) (σ:St) (H:Hp) (D:Ends),Inv X pins σ H s->t D σ H->wpAny (model X.prog X.w) X.A (exec st X.env) (SP X pins D) X.xe s
noncomputable def PSs(X:Cx)(st:List Stmt)(t:TS):Prop:=
  ∀ (pins:List (Addr × Obj)) (s:Shared) (σ:St) (H:Hp) (D:Ends),Inv X pins σ H s->t D σ H->wpAny (model X.prog X.w) X.A (execs st X.env) (SP X pins D) X.xe s
theorem thn{α:Type}{t:Sem α}{Q Q':α->Shared->Prop}{M:Model}{A:Around}{E:Value->Shared->Prop}{s:Shared}(h:wpAny M A t Q E s)(hQ:∀ a s,Q a s->Q' a s):wpAny M A t Q' E s:=wpAny_mono h hQ λ _ _ x=>x
end L2
namespace L2
open PySem PySem.Spec PyProof.Rows
section
variable{X:Cx}
theorem bin{a b:Expr}{ta tb:TE}(ha:PE X a ta)(hb:PE X b tb){pins:List (Addr × Obj)}{s:Shared}{σ:St}{H:Hp}{R:V->V->Hp->Prop}(I:Inv X pins σ H s)(h:ta σ H λ x H1=>tb σ H1 λ y H2=>R x y H2)
    {α:Type} {Q:α->Shared->Prop} {f:Value->Value->Sem α}
    (hf:∀ v u s2 x y H2,Inv X pins σ H2 s2->RelV x v->RelV y u->R x y H2->wpAny (model X.prog X.w) X.A (f v u) Q X.xe s2) :
    wpAny (model X.prog X.w) X.A (eval a X.env) (λ v s₁=>wpAny (model X.prog X.w) X.A (eval b X.env) (λ u s₂=>wpAny (model X.prog X.w) X.A (f v u) Q X.xe s₂) X.xe s₁) X.xe s:=by
  refine thn (ha pins s σ H _ I h) λ v s1 ⟨x,H1,I1,r1,q1⟩=>?_
  refine thn (hb pins s1 σ H1 _ I1 q1) λ u s2 ⟨y,H2,I2,r2,q2⟩=>?_
  exact hf v u s2 x y H2 I2 r1 r2 q2
noncomputable def Lc(i:Nat):TE:=λ σ H Q=>∃ v,σ[i]? = some (some v)/\Q v H
noncomputable def tC(v:V):TE:=λ _ H Q=>Q v H
theorem NF{i:Nat}{x:Str}{pos:Pos}(hN:X.N[i]? = some x)(hv:Vis X.env.scope x)(hd:(x == ("__debug__":Str))=false:=by decide)(hcd:(x == ("__classdict__":Str))=false:=by decide):PE X (.Name x pos) (Lc i):=by
  intro pins s σ H Q I h
  obtain⟨v,e,h⟩:=h
  obtain⟨m,hn,hl⟩:=I.loc
  obtain⟨u,r,l⟩:=hl i x v hN e hv
  have fin:EP X pins σ Q u s:=⟨v,H,I,r,h⟩
  rcases l with⟨hk,hm⟩|⟨hk,c,hc,hcell⟩
  . exact wpAny_Name (wpAny_loadName_local I.ok.kind hk hn hm fin) hd
  . rcases hk with hk|hk
    . exact wpAny_Name (wpAny_loadName_cell I.ok.kind hk hc hcell fin) hd
    . exact wpAny_Name (wpAny_loadName_free I.ok.kind hk hc hcell fin hcd) hd
theorem Th{i j pos}:PE X (.Constant (.int i) j pos) (tC (.int i)):=λ _ _ _ H _ I h=>wpAny_Constant_int ⟨.int i,H,I.tok _,⟨_,rfl⟩,h⟩
theorem Uy{b j pos}:PE X (.Constant (.bool b) j pos) (tC (.bl b)):=λ _ _ _ H _ I h=>Constant_bool ⟨.bl b,H,I,rfl,h⟩
theorem Tf{j pos}:PE X (.Constant .none j pos) (tC .non):=λ _ _ _ H _ I h=>Constant_none ⟨.non,H,I,rfl,h⟩
theorem Td{x j pos}:PE X (.Constant (.str x) j pos) (tC (.str x)):=λ _ _ _ H _ I h=>Calls.Constant_str ⟨.str x,H,I.tok _,⟨_,rfl⟩,h⟩
noncomputable def Gl(X:Cx)(x:Str):Prop:=X.env.kindOf x=some .globalImplicit
theorem Rr{E:Value->Shared->Prop}{pins:List (Addr × Obj)}{s:Shared}{σ:St}{H:Hp}{x:Str}{u:Value}{pos:Pos}{Q:Value->Shared->Prop}(I:Inv X pins σ H s)(hg:Gl X x)(hm:X.mg x=some u)(h:Q u s)
    (hd:(x == ("__debug__":Str))=false:=by decide):wpAny (model X.prog X.w) X.A (eval (.Name x pos) X.env) Q E s:=
  Calls.Name_function_global I.ok.kind hg (Calls.loadGlobal_global (by rw[I.ok.glob];exact I.mod.glob.keeps I.bk) hm h) hd
theorem GL{E:Value->Shared->Prop}{pins:List (Addr × Obj)}{s:Shared}{σ:St}{H:Hp}{x:Str}{u:Value}{pos:Pos}{Q:Value->Shared->Prop}(I:Inv X pins σ H s)(hg:Gl X x)(hm:X.mg x=none)(hv:bootBuiltins x=some u)(h:Q u s)
    (hn:x ≠ "__name__":=by decide) (hd:(x == ("__debug__":Str))=false:=by decide):wpAny (model X.prog X.w) X.A (eval (.Name x pos) X.env) Q E s:=by
  obtain⟨mb,h1,h2⟩:=I.mod.blt
  exact Calls.Name_function_global I.ok.kind hg (Calls.loadGlobal_builtin (by rw[I.ok.glob];exact I.mod.glob.keeps I.bk) hm (by rw[I.ok.blt];exact h1.keeps I.bk) ((h2 x hn).trans hv) h) hd
variable{a b:Expr}{ta tb:TE}{pos:Pos}
noncomputable def PC(X:Cx)(op:CmpOp)(a b:Expr)(t:TE):Prop:=
  ∀ (pins:List (Addr × Obj)) (s:Shared) (σ:St) (H:Hp) (Q:VK),Inv X pins σ H s->t σ H Q ->
    wpAny (model X.prog X.w) X.A (eval a X.env) (λ v s₁=>wpAny (model X.prog X.w) X.A (eval b X.env) (λ u s₂=>wpAny (model X.prog X.w) X.A (compareOp op v u) (EP X pins σ Q) X.xe s₂) X.xe s₁) X.xe s
theorem P0(b:Expr){op:CmpOp}(h:op ≠ .In)(h2:op ≠ .NotIn):behindInMarks op b=false:=by
  have e1:(op == CmpOp.In)=false:=by cases op <;> first|rfl|exact absurd rfl h
  have e2:(op == CmpOp.NotIn)=false:=by cases op <;> first|rfl|exact absurd rfl h2
  cases b <;> simp[behindInMarks,e1,e2]
noncomputable def OF(ta:TE):TE:=λ σ H Q=>ta σ H λ x H1=>Q (.bl (decide (x=.non))) H1
noncomputable def Lf(ta:TE):TE:=λ σ H Q=>ta σ H λ x H1=>Q (.bl (!decide (x=.non))) H1
theorem RelV.none_iff{x:V}{v:Value}(r:RelV x v):(v == Value.none)=decide (x=.non):=by
  cases x with
  | non=>cases r;rfl
  | bl _=>cases r;rfl
  | int _=>obtain⟨t,rfl⟩:=r;rfl
  | str _=>obtain⟨t,rfl⟩:=r;rfl
  | byt _=>obtain⟨t,rfl⟩:=r;rfl
  | flt _=>obtain⟨t,rfl⟩:=r;rfl
  | ref _=>cases r;rfl
  | ty _=>cases r;rfl
theorem Tj{j pos'}(ha:PE X a ta):PC X .Is a (.Constant .none j pos') (OF ta):=by
  intro pins s σ H Q I h
  refine thn (ha pins s σ H _ I h) λ v s1 ⟨x,H1,I1,r1,q1⟩=>?_
  exact Constant_none (is_none_gen ⟨.bl _,H1,I1,by rw[r1.none_iff];rfl,q1⟩)
theorem Rf{j pos'}(ha:PE X a ta):PC X .IsNot a (.Constant .none j pos') (Lf ta):=by
  intro pins s σ H Q I h
  refine thn (ha pins s σ H _ I h) λ v s1 ⟨x,H1,I1,r1,q1⟩=>?_
  exact Constant_none (isnot_none_gen ⟨.bl _,H1,I1,by rw[r1.none_iff];rfl,q1⟩)
noncomputable def tB(t:TE):TT:=λ σ H Q=>t σ H λ x H1=>∃ c,x=.bl c/\Q c H1
theorem N8{op:CmpOp}{t:TE}(h:PC X op a b t)(h1:behindInMarks op b=false:=by first|exact P0 _ (by decide) (by decide)|rfl):PT X (.Compare a [op] [b] pos) (tB t):=by
  intro pins s σ H Q I hw
  refine wpAny_isTrue_Compare1 (thn (h pins s σ H _ I hw) λ v s1 h1=>thn h1 λ u s2 h2=>thn h2 λ c s3 ⟨x,H1,I1,r1,q1⟩=>?_) h1
  obtain⟨d,rfl,q⟩:=q1
  cases r1
  exact wpAny_truthy_bool ⟨H1,I1,q⟩
variable{tA tB':TT}{rest:List Expr}
noncomputable def OI(t u:TT):TT:=λ σ H Q=>t σ H λ c H1=>if c=true then u σ H1 Q else Q false H1
noncomputable def tOr(t u:TT):TT:=λ σ H Q=>t σ H λ c H1=>if c=true then Q true H1 else u σ H1 Q
noncomputable def OD(t:TT):TT:=λ σ H Q=>t σ H λ c H1=>Q (!c) H1
theorem Qy(ha:PT X a tA):PW X (.BoolOp .And [a] pos) tA:=by
  intro wh pins s σ H Q I h
  refine isTrue_and (thn (ha pins s σ H Q I h) λ c s1 e=>?_)
  cases c with
  | true=>exact isTrue_and_nil e
  | false=>exact e
theorem TJ(ha:PT X a tA):PW X (.BoolOp .Or [a] pos) tA:=by
  intro wh pins s σ H Q I h
  refine isTrue_or (thn (ha pins s σ H Q I h) λ c s1 e=>?_)
  cases c with
  | false=>exact isTrue_or_nil e
  | true=>exact e
theorem TK(ha:PT X a tA)(hb:PW X (.BoolOp .And (b :: rest) pos) tB'):PW X (.BoolOp .And (a :: b :: rest) pos) (OI tA tB'):=by
  intro wh pins s σ H Q I h
  refine isTrue_and (thn (ha pins s σ H _ I h) λ c s1 ⟨H1,I1,q1⟩=>?_)
  cases c with
  | true=>exact hb wh pins s1 σ H1 Q I1 q1
  | false=>exact⟨H1,I1,q1⟩
theorem Ut(ha:PT X a tA)(hb:PW X (.BoolOp .Or (b :: rest) pos) tB'):PW X (.BoolOp .Or (a :: b :: rest) pos) (tOr tA tB'):=by
  intro wh pins s σ H Q I h
  refine isTrue_or (thn (ha pins s σ H _ I h) λ c s1 ⟨H1,I1,q1⟩=>?_)
  cases c with
  | true=>exact⟨H1,I1,q1⟩
  | false=>exact hb wh pins s1 σ H1 Q I1 q1
theorem TL(ha:PT X a tA):PT X (.UnaryOp .Not a pos) (OD tA):=by
  intro pins s σ H Q I h
  exact isTrue_not (ha pins s σ H (λ c H1=>Q (!c) H1) I h)
noncomputable def Lj(ta tb:TE):TE:=λ σ H Q=>ta σ H λ x H1=>∃ c,x=.bl c/\if c=true then tb σ H1 Q else Q (.bl false) H1
noncomputable def OC(ta tb:TE):TE:=λ σ H Q=>ta σ H λ x H1=>∃ c,x=.bl c/\if c=true then Q (.bl true) H1 else tb σ H1 Q
theorem Te{op}{t:TE}(h:PE X a t):PE X (.BoolOp op [a] pos) t:=λ pins s σ H Q I hw=>BoolOp_one (h pins s σ H Q I hw)
theorem Ti(ha:PE X a ta)(hb:PE X (.BoolOp .And (b :: rest) pos) tb):PE X (.BoolOp .And (a :: b :: rest) pos) (Lj ta tb):=by
  intro pins s σ H Q I h
  refine BoolOp_and (thn (ha pins s σ H _ I h) λ v s1 ⟨x,H1,I1,r1,q1⟩=>?_)
  obtain⟨c,rfl,q1⟩:=q1
  cases r1
  refine wpAny_truthy_bool ?_
  cases c with
  | true=>exact hb pins s1 σ H1 Q I1 q1
  | false=>exact⟨.bl false,H1,I1,rfl,q1⟩
theorem Uw(ha:PE X a ta)(hb:PE X (.BoolOp .Or (b :: rest) pos) tb):PE X (.BoolOp .Or (a :: b :: rest) pos) (OC ta tb):=by
  intro pins s σ H Q I h
  refine BoolOp_or (thn (ha pins s σ H _ I h) λ v s1 ⟨x,H1,I1,r1,q1⟩=>?_)
  obtain⟨c,rfl,q1⟩:=q1
  cases r1
  refine wpAny_truthy_bool ?_
  cases c with
  | false=>exact hb pins s1 σ H1 Q I1 q1
  | true=>exact⟨.bl true,H1,I1,rfl,q1⟩
noncomputable def tIf(t:TT)(ta tb:TE):TE:=λ σ H Q=>t σ H λ c H1=>if c=true then ta σ H1 Q else tb σ H1 Q
theorem Oy{c:Expr}(hc:PT X c tA)(ha:PE X a ta)(hb:PE X b tb):PE X (.IfExp c a b pos) (tIf tA ta tb):=by
  intro pins s σ H Q I h
  refine wpAny_IfExp (thn (hc pins s σ H _ I h) λ d s1 ⟨H1,I1,q1⟩=>?_)
  cases d with
  | true=>exact ha pins s1 σ H1 Q I1 q1
  | false=>exact hb pins s1 σ H1 Q I1 q1
end
end L2
namespace L2
open PySem PySem.Spec PyProof.Rows
noncomputable def SqL(K:PySem.W.Frag)(H:Hp)(a:Addr)(xs:List V):Prop:=
  Rd H a (.lst xs) ∨
    ∃ (o:Obj) (its:Array Value) (n:Nat),K.lookup a=some o/\o.cls=.type "list"/\o.dict=none/\o.data=.seq its n/\its.size <= sizeLine/\Vals xs its.toList
noncomputable def SqT(K:PySem.W.Frag)(H:Hp)(a:Addr)(xs:List V):Prop:=
  Rd H a (.tup xs) ∨
    ∃ (o:Obj) (its:Array Value) (n:Nat),K.lookup a=some o/\o.cls=.type "tuple"/\o.dict=none/\o.data=.seq its n/\its.size <= sizeLine/\Vals xs its.toList
noncomputable def Vi:Value->Option V
  | .none=>some .non
  | .bool b=>some (.bl b)
  | .int i _=>some (.int i)
  | .str x _=>some (.str x)
  | .bytes b _=>some (.byt b)
  | .float b _=>some (.flt b)
  | .ref a=>some (.ref a)
  | .type n=>some (.ty n)
  | _=>none
theorem RelV.abs{x:V}{u:Value}(r:RelV x u):Vi u=some x:=by
  cases x with
  | non=>cases r;rfl
  | bl _=>cases r;rfl
  | int _=>obtain⟨t,rfl⟩:=r;rfl
  | str _=>obtain⟨t,rfl⟩:=r;rfl
  | byt _=>obtain⟨t,rfl⟩:=r;rfl
  | flt _=>obtain⟨t,rfl⟩:=r;rfl
  | ref _=>cases r;rfl
  | ty _=>cases r;rfl
theorem RelV.inj{x y:V}{u:Value}(r:RelV x u)(q:RelV y u):x=y:=Option.some.inj (r.abs.symm.trans q.abs)
theorem Vals.inj:∀ {xs ys:List V} {us:List Value},Vals xs us->Vals ys us->xs=ys
  | _,_,_,.nil,.nil=>rfl
  | _,_,_,.cons r t,.cons r' t'=>by rw[r.inj r',Vals.inj t t']
section
variable{X:Cx}{pins:List (Addr × Obj)}{σ:St}{H:Hp}{s:Shared}{a:Addr}{xs ys:List V}
theorem SqL.of{K:PySem.W.Frag}(h:H a=some (.lst xs)):SqL K H a xs:=.inl (.inl h)
theorem SqT.of{K:PySem.W.Frag}(h:H a=some (.tup xs)):SqT K H a xs:=.inl (.inl h)
theorem Inv.list(I:Inv X pins σ H s)(h:SqL X.K H a xs):∃ its:List Value,Vals xs its/\PlainL s.heap a its.toArray/\xs.length <= sizeLine:=by
  rcases h with h|⟨o,its,n,hk,hc,hd,hs,hz,r⟩
  . obtain⟨z,its,n,r,e⟩:=h.ok I.hok
    exact⟨its,r,⟨_,n,e,rfl,rfl,rfl⟩,z⟩
  . refine⟨its.toList,r,⟨o,n,I.kIn a o hk,hc,hd,by simpa using hs⟩,?_⟩
    have e:=r.length
    simp only[Array.length_toList]at e
    omega
theorem Inv.tuple(I:Inv X pins σ H s)(h:SqT X.K H a xs):∃ its:List Value,Vals xs its/\IsTup s.heap a its.toArray/\xs.length <= sizeLine:=by
  rcases h with h|⟨o,its,n,hk,hc,_,hs,hz,r⟩
  . obtain⟨z,its,r,p⟩:=h.ok I.hok
    exact⟨its,r,p.t,z⟩
  . refine⟨its.toList,r,⟨o,I.kIn a o hk,hc,n,by simpa using hs⟩,?_⟩
    have e:=r.length
    simp only[Array.length_toList]at e
    omega
theorem Inv.list_inj(I:Inv X pins σ H s)(h:SqL X.K H a xs)(h':SqL X.K H a ys):xs=ys:=by
  obtain⟨its,r,⟨o,n,e,_,_,d⟩,_⟩:=I.list h
  obtain⟨its',r',⟨o',n',e',_,_,d'⟩,_⟩:=I.list h'
  rw[e]at e';cases e'
  rw[d]at d'
  injection d' with d1 _
  have:its=its':=by simpa using congrArg Array.toList d1
  subst this
  exact r.inj r'
theorem Inv.tuple_inj(I:Inv X pins σ H s)(h:SqT X.K H a xs)(h':SqT X.K H a ys):xs=ys:=by
  obtain⟨its,r,⟨o,e,_,n,d⟩,_⟩:=I.tuple h
  obtain⟨its',r',⟨o',e',_,n',d'⟩,_⟩:=I.tuple h'
  rw[e]at e';cases e'
  rw[d]at d'
  injection d' with d1 _
  have:its=its':=by simpa using congrArg Array.toList d1
  subst this
  exact r.inj r'
end
noncomputable abbrev Cx.wish(X:Cx)(E:Value->Shared->Prop):Cx:={ X with xe:=E }
noncomputable abbrev Cx.nox(X:Cx):Cx:=X.wish λ _ _=>False
theorem Cx.Ok.wish{X:Cx}(ok:X.Ok)(E:Value->Shared->Prop):(X.wish E).Ok:=
  ⟨ok.mod,ok.kind,ok.glob,ok.blt,ok.above,ok.inj,ok.has,ok.cab,ok.hd,ok.frames,ok.stk,ok.exf,ok.bs,ok.bsz,ok.noex,ok.exfs,ok.funs,ok.frf⟩
theorem Cx.Ok.unwish{X:Cx}{E:Value->Shared->Prop}(ok:(X.wish E).Ok):X.Ok:=
  ⟨ok.mod,ok.kind,ok.glob,ok.blt,ok.above,ok.inj,ok.has,ok.cab,ok.hd,ok.frames,ok.stk,ok.exf,ok.bs,ok.bsz,ok.noex,ok.exfs,ok.funs,ok.frf⟩
section
variable{X:Cx}{pins:List (Addr × Obj)}{σ:St}{H:Hp}{s:Shared}{E:Value->Shared->Prop}
theorem Inv.wish(I:Inv X pins σ H s)(E:Value->Shared->Prop):Inv (X.wish E) pins σ H s:=⟨I.ok.wish E,I.os,I.bare,I.base,I.loc,I.cell,I.free,I.freeC,I.pin,I.hok,I.len⟩
theorem Inv.unwish(I:Inv (X.wish E) pins σ H s):Inv X pins σ H s:=⟨I.ok.unwish,I.os,I.bare,I.base,I.loc,I.cell,I.free,I.freeC,I.pin,I.hok,I.len⟩
theorem SP.unwish{D:Ends}{f:Flow}{s':Shared}(h:SP (X.wish E) pins D f s'):SP X pins D f s':=by
  cases f with
  | next=>obtain⟨σ',H',I,q⟩:=h;exact⟨σ',H',I.unwish,q⟩
  | brk=>obtain⟨σ',H',I,q⟩:=h;exact⟨σ',H',I.unwish,q⟩
  | cont=>obtain⟨σ',H',I,q⟩:=h;exact⟨σ',H',I.unwish,q⟩
  | ret u=>obtain⟨v,σ',H',I,r,q⟩:=h;exact⟨v,σ',H',I.unwish,r,q⟩
theorem PSs.nox{st:List Stmt}{t:TS}(h:PSs X.nox st t):PSs X st t:=λ pins s σ H D I hw=>
  wpAny_mono (h pins s σ H D (I.wish _) hw) (λ _ _ q=>q.unwish) λ _ _ z=>False.elim z
end
section
variable{X:Cx}{st:Stmt}{rest:List Stmt}{t u:TS}{e:Expr}{te:TE}{pos:Pos}
noncomputable def Lg:TS:=λ D σ H=>D.nx σ H
noncomputable def O9(t u:TS):TS:=λ D σ H=>t { D with nx:=u D } σ H
theorem R8:PSs X [] Lg:=λ _ _ σ H _ I h=>wpAny_execs_nil ⟨σ,H,I,h⟩
theorem Oq(h1:PS X st t)(h2:PSs X rest u):PSs X (st :: rest) (O9 t u):=by
  intro pins s σ H D I h
  refine wpAny_execs_cons (thn (h1 pins s σ H { D with nx:=u D } I h) λ f s1 q=>?_)
  cases f with
  | next=>
    obtain⟨σ',H',I',q⟩:=q
    exact h2 pins s1 σ' H' D I' q
  | ret v=>exact q
  | brk=>exact q
  | cont=>exact q
theorem Qz(h1:PS X st t):PSs X [st] t:=by
  intro pins s σ H D I h
  refine wpAny_execs_cons (thn (h1 pins s σ H D I h) λ f s1 q=>?_)
  cases f with
  | next=>exact wpAny_execs_nil q
  | ret v=>exact q
  | brk=>exact q
  | cont=>exact q
theorem Inv.quiet{pins:List (Addr × Obj)}{σ:St}{H:Hp}{s:Shared}(I:Inv X pins σ H s):interactive X.env=false:=by simp[interactive,I.ok.kind]
noncomputable def Li(te:TE):TS:=λ D σ H=>te σ H λ _ H1=>D.nx σ H1
theorem RK(he:PE X e te)(hs:swapsWith e none pos.line X.env=pure false:=by rfl):PS X (.Expr e pos) (Li te):=by
  intro pins s σ H D I h
  exact wpAny_Expr_any (thn (he pins s σ H _ I h) λ v s1 ⟨x,H1,I1,r1,q1⟩=>⟨σ,H1,I1,q1⟩) I.quiet hs
noncomputable def OA(te:TE):TS:=λ D σ H=>te σ H D.rt
theorem TQ(he:PE X e te):PS X (.Return (some e) pos) (OA te):=by
  intro pins s σ H D I h
  exact wpAny_Return_some (thn (he pins s σ H _ I h) λ v s1 ⟨x,H1,I1,r1,q1⟩=>⟨x,σ,H1,I1,r1,q1⟩)
noncomputable def OG(c:TT)(t u:TS):TS:=λ D σ H=>c σ H λ b H1=>if b=true then t D σ H1 else u D σ H1
theorem Uu{c:Expr}{a b:List Stmt}{tc:TT}(hc:PT X c tc)(ha:PSs X a t)(hb:PSs X b u):PS X (.If c a b pos) (OG tc t u):=by
  intro pins s σ H D I h
  refine wpAny_If (thn (hc pins s σ H _ I h) λ d s1 ⟨H1,I1,q1⟩=>?_)
  cases d with
  | true=>exact ha pins s1 σ H1 D I1 q1
  | false=>exact hb pins s1 σ H1 D I1 q1
noncomputable def Jc:TS:=λ _ _ _=>False
theorem Ot:PS X st Jc:=λ _ _ _ _ _ _ h=>h.elim
end
noncomputable abbrev TG:=V->St->Hp->(St->Hp->Prop)->Prop
noncomputable abbrev TGs:=List V->St->Hp->(St->Hp->Prop)->Prop
noncomputable def PG(X:Cx)(target:Expr)(t:TG):Prop:=
  ∀ (pins:List (Addr × Obj)) (s:Shared) (σ:St) (H:Hp) (v:V) (u:Value) (Q:St->Hp->Prop),Inv X pins σ H s->RelV v u->t v σ H Q ->
    wpAny (model X.prog X.w) X.A (assign target X.env u) (λ _ s'=>∃ σ' H',Inv X pins σ' H' s'/\Q σ' H') X.xe s
noncomputable def PGs(X:Cx)(ts:List Expr)(t:TGs):Prop:=
  ∀ (pins:List (Addr × Obj)) (s:Shared) (σ:St) (H:Hp) (vs:List V) (us:List Value) (Q:St->Hp->Prop),Inv X pins σ H s->Vals vs us->t vs σ H Q ->
    wpAny (model X.prog X.w) X.A (assignInOrder ((assignEach ts X.env).map (·.2)) us) (λ _ s'=>∃ σ' H',Inv X pins σ' H' s'/\Q σ' H') X.xe s
noncomputable abbrev PU:=V->V->V->Hp->(Hp->Prop)->Prop
noncomputable def UW(X:Cx)(t:PU):Prop:=
  ∀ (pins:List (Addr × Obj)) (s:Shared) (σ:St) (H:Hp) (o i v:V) (ov iv u:Value) (Q:Hp->Prop),Inv X pins σ H s->RelV o ov->RelV i iv->RelV v u->t o i v H Q ->
    wpAny (model X.prog X.w) X.A (setItem ov iv u) (λ _ s'=>∃ H',Inv X pins σ H' s'/\Q H') X.xe s
noncomputable abbrev TIp:=V->V->Hp->VK->Prop
noncomputable def PIp(X:Cx)(op:Operator)(t:TIp):Prop:=
  ∀ (pins:List (Addr × Obj)) (s:Shared) (σ:St) (H:Hp) (x y:V) (v u:Value) (Q:VK),Inv X pins σ H s->RelV x v->RelV y u->t x y H Q ->
    wpAny (model X.prog X.w) X.A (inplaceOp op v u) (EP X pins σ Q) X.xe s
section
variable{X:Cx}{pos:Pos}
noncomputable def Fj(i:Nat):TG:=λ v σ H Q=>Q (σ.set i (some v)) H
theorem Ra{i:Nat}{x:Str}(hN:X.N.Nodup)(hi:X.N[i]? = some x)(hx:Loc X.env.scope x)(hf:X.fn x=true ∨ X.env.scope.names.lookup x=some .local:=by first|exact .inl rfl|exact .inr rfl|assumption):PG X (.Name x pos) (Fj i):=by
  intro pins s σ H v u Q I r h
  exact wpAny_assign_Name (CU I hN hi hx r (λ s' I'=>⟨_,H,I',h⟩) hf)
noncomputable def PB:TGs:=λ vs σ H Q=>vs=[]/\Q σ H
noncomputable def MP(t:TG)(u:TGs):TGs:=λ vs σ H Q=>∃ v r,vs=v :: r/\t v σ H λ σ' H'=>u r σ' H' Q
theorem RY:PGs X [] PB:=by
  intro pins s σ H vs us Q I r h
  obtain⟨e,h⟩:=h
  subst e
  cases r
  exact assignInOrder_nil ⟨σ,H,I,h⟩
theorem Ow{e:Expr}{es:List Expr}{t:TG}{u:TGs}(h1:PG X e t)(h2:PGs X es u)
    (hs:(assignEach (e :: es) X.env).map (·.2)=assign e X.env :: (assignEach es X.env).map (·.2):=by rfl):PGs X (e :: es) (MP t u):=by
  intro pins s σ H vs us Q I r h
  obtain⟨v,vr,e1,h⟩:=h
  subst e1
  cases r with
  | cons r rr=>
    rw[hs]
    refine assignInOrder_cons (thn (h1 pins s σ H _ _ _ I r h) λ _ s1 ⟨σ1,H1,I1,q1⟩=>?_)
    exact h2 pins s1 σ1 H1 _ _ Q I1 rr q1
noncomputable def MN(K:PySem.W.Frag)(n:Nat)(t:TGs):TG:=λ v σ H Q=>∃ a xs,v=.ref a/\SqT K H a xs/\xs.length=n/\t xs σ H Q
theorem TX{es:List Expr}{k:Nat}{t:TGs}{n:Nat}(hc:X.calm=true)(h:PGs X es t)
    (hn:(assignEach es X.env).length=n:=by rfl) (hst:(assignEach es X.env).findIdx? (·.1)=none:=by rfl):PG X (.Tuple es k pos) (MN X.K n t):=by
  intro pins s σ H v u Q I r hw
  obtain⟨a,xs,e1,hq,hl,hw⟩:=hw
  subst e1
  cases r
  obtain⟨its,rv,ht,hz⟩:=I.tuple hq
  refine assign_Tuple_tuple (I.ok.hd hc) ht (by simp[hn,<- hl,rv.length]) hst λ h' hx=>?_
  have I1:Inv X pins σ H { s with heap:=h' }:=I.kept (t':=s.toks) λ b o e=>hx b o (Nat.ne_of_lt (Heap.lt_size e)) e
  exact h pins _ σ H xs _ Q I1 (by simpa using rv) hw
noncomputable def P9(to ti:TE)(t:PU):TG:=λ v σ H Q=>to σ H λ o H1=>ti σ H1 λ i H2=>t o i v H2 λ H3=>Q σ H3
theorem TY{o i:Expr}{to ti:TE}{t:PU}(ho:PE X o to)(hi:PE X i ti)(hs:UW X t)
    (ha:∀ v,assign (.Subscript o i pos) X.env v=(do
      let ov <- holding [v] (eval o X.env)
      let iv <- holding [v,ov] (eval i X.env)
      standAt pos
      holding [v,ov,iv] (setItem ov iv v)
      release [v,ov,iv] []):=by intro _;rfl):PG X (.Subscript o i pos) (P9 to ti t):=by
  intro pins s σ H v u Q I r h
  rw[ha]
  refine wpAny_bind (wpAny_holding (thn (ho pins s σ H _ I h) λ ov s1 ⟨x,H1,I1,r1,q1⟩=>?_))
  refine wpAny_bind (wpAny_holding (thn (hi pins s1 σ H1 _ I1 q1) λ iv s2 ⟨y,H2,I2,r2,q2⟩=>?_))
  refine wpAny_bind (wpAny_standAt (wpAny_bind (wpAny_holding (thn (hs pins s2 σ H2 x y v ov iv u _ I2 r1 r2 r q2) λ _ s3 ⟨H3,I3,q3⟩=>?_))))
  exact wpAny_release ⟨σ,H3,I3,q3⟩
noncomputable def FX(te:TE)(g:TG):TS:=λ D σ H=>te σ H λ x H1=>g x σ H1 D.nx
theorem NA{tg e:Expr}{te:TE}{g:TG}(he:PE X e te)(hg:PG X tg g)(hs:swapsWithSole [tg] e pos.line X.env=pure false:=by rfl)(hw:swappedStores [tg] e X.env=pure none:=by rfl)
    (h1:(assignEach [tg] X.env).map (·.2)=[assign tg X.env]:=by rfl):PS X (.Assign [tg] e pos) (FX te g):=by
  intro pins s σ H D I h
  refine wpAny_Assign_stores (thn (he pins s σ H _ I h) λ v s1 ⟨x,H1,I1,r1,q1⟩=>?_) hs hw
  rw[h1]
  exact thn (hg pins s1 σ H1 x v _ I1 r1 q1) λ _ s2 q=>q
theorem TN{i:Nat}{x:Str}{e:Expr}{te:TE}{pos':Pos}(hN:X.N.Nodup)(hi:X.N[i]? = some x)(hx:Loc X.env.scope x)(he:PE X e te)(hs:swapsWith e (some (.Name x pos')) pos.line X.env=pure false:=by rfl)(hf:X.fn x=true ∨ X.env.scope.names.lookup x=some .local:=by first|exact .inl rfl|exact .inr rfl|assumption) :
    PS X (.Assign [.Name x pos'] e pos) (FX te (Fj i)):=by
  intro pins s σ H D I h
  refine wpAny_Assign_Name (thn (he pins s σ H _ I h) λ v s1 ⟨y,H1,I1,r1,q1⟩=>?_) hs
  exact CU I1 hN hi hx r1 (λ s2 I2=>⟨_,H1,I2,q1⟩) hf
noncomputable def OB(i j:Nat)(ta:TA):TS:=λ D σ H=>ta σ H λ vs H1=>∃ v w,vs=[v,w]/\D.nx ((σ.set i (some v)).set j (some w)) H1
theorem TR{i j:Nat}{x y:Str}{a b:Expr}{ta:TA}{px py pt:Pos}{kt k2 pt2}(hc:X.calm=true)(hN:X.N.Nodup)(hi:X.N[i]? = some x)(hj:X.N[j]? = some y)(hij:i ≠ j)
    (hx:X.env.scope.names.lookup x=some .local) (hy:X.env.scope.names.lookup y=some .local) (ha:PA X [a,b] ta)
    (hw:swappedStores [.Tuple [.Name x px,.Name y py] kt pt] (.Tuple [a,b] k2 pt2) X.env=pure (some [x,y]))
    (hs:swapsWithSole [.Tuple [.Name x px,.Name y py] kt pt] (.Tuple [a,b] k2 pt2) pos.line X.env=pure false:=by rfl) :
    PS X (.Assign [.Tuple [.Name x px,.Name y py] kt pt] (.Tuple [a,b] k2 pt2) pos) (OB i j ta):=by
  intro pins s σ H D I h
  rw[exec_Assign_arm]
  refine wpAny_bind (wpAny_standAt ?_)
  rw[hs]
  refine wpAny_bind (wpAny_pure ?_)
  rw[if_neg (by decide)]
  refine wpAny_bind (Tuple_ (thn (ha _ pins s σ H _ I h) λ us s1 ⟨vs,H1,I1,r1,q1⟩=>?_))
  obtain⟨v,w,e1,q1⟩:=q1
  subst e1
  obtain⟨u1,u2,rfl,rv,rw'⟩:∃ u1 u2,us=[u1,u2]/\RelV v u1/\RelV w u2:=by
    cases r1 with
    | cons p q=>
      cases q with
      | cons p' q'=>
        cases q'
        exact⟨_,_,rfl,p,p'⟩
  refine wpAny_newObj_type ?_ (by show 2 <= sizeLine;decide)
  have I2:Inv X pins σ H1 { s1 with heap:=s1.heap.push { cls:=.type "tuple",data:=.seq [u1,u2].toArray } }:=I1.kept (t':=s1.toks) λ b o e=>Heap.get?_push_of_some _ e
  rw[hw]
  refine wpAny_bind (wpAny_pure ?_)
  show wpAny (model X.prog X.w) X.A (do rule "assign.swapped-stores";let items <- unpackItems (.ref s1.heap.objs.size) 2 none;assignInOrder [λ v=>bindName X.env y v,λ v=>bindName X.env x v] items.reverse;pure Flow.next) _ _ _
  refine wpAny_bind (wpAny_rule (wpAny_bind (unpackItems_tuple (items:=#[u1,u2]) (I.ok.hd hc) (IsTup.new s1.heap _) λ h' hx'=>?_)))
  have I3:=I2.kept (h':=h') (t':=s1.toks) λ b o e=>hx' b o (Nat.ne_of_lt (Heap.lt_size e)) e
  show wpAny _ _ (assignInOrder [λ v=>bindName X.env y v,λ v=>bindName X.env x v] [u2,u1] >>= λ _=>pure Flow.next) _ _ _
  refine wpAny_bind (assignInOrder_cons (wpAny_bindName (CU I3 hN hj (.inl hy) rw' (λ s2 I4=>?_) (.inr hy))))
  refine assignInOrder_cons (wpAny_bindName (CU I4 hN hi (.inl hx) rv (λ s3 I5=>assignInOrder_nil (wpAny_pure ?_)) (.inr hx)))
  rw[List.set_comm _ _ (Ne.symm hij)]at I5
  exact⟨_,H1,I5,q1⟩
noncomputable def Je(i:Nat)(te:TE)(ti:TIp):TS:=λ D σ H=>∃ x,σ[i]? = some (some x)/\te σ H λ y H1=>ti x y H1 λ z H2=>D.nx (σ.set i (some z)) H2
theorem N9{i:Nat}{x:Str}{e:Expr}{te:TE}{op:Operator}{ti:TIp}{pos':Pos}(hN:X.N.Nodup)(hi:X.N[i]? = some x)(hx:Loc X.env.scope x)(he:PE X e te)(ho:PIp X op ti)(hf:X.fn x=true ∨ X.env.scope.names.lookup x=some .local:=by first|exact .inl rfl|exact .inr rfl|assumption) :
    PS X (.AugAssign (.Name x pos') op e pos) (Je i te ti):=by
  intro pins s σ H D I h
  obtain⟨v,e1,h⟩:=h
  obtain⟨m,hn,hl⟩:=I.loc
  have vis:Vis X.env.scope x:=by rcases hx with k|k;exact .inl k;exact .inr (.inl k)
  obtain⟨u,r,l⟩:=hl i x v hi e1 vis
  refine wpAny_AugAssign_Name ?_
  have go:wpAny (model X.prog X.w) X.A (eval e X.env) (λ w s₂=>wpAny (model X.prog X.w) X.A (inplaceOp op u w) (λ r s₃=>wpAny (model X.prog X.w) X.A (storeName X.env x r) (λ _=>SP X pins D .next) X.xe s₃) X.xe s₂) X.xe s:=by
    refine thn (he pins s σ H _ I h) λ w s1 ⟨y,H1,I1,r1,q1⟩=>?_
    refine thn (ho pins s1 σ H1 v y u w _ I1 r r1 q1) λ z s2 ⟨zv,H2,I2,r2,q2⟩=>?_
    exact CU I2 hN hi hx r2 (λ s3 I3=>⟨_,H2,I3,q2⟩) hf
  rcases l with⟨hk,hm⟩|⟨hk,c,hc,hcell⟩
  . exact wpAny_loadName_local I.ok.kind hk hn hm go
  . rcases hk with hk|hk
    . exact wpAny_loadName_cell I.ok.kind hk hc hcell go
    . rcases hx with k|k
      . have:X.env.scope.names.lookup x=some .free:=hk
        rw[k]at this;cases this
      . have:X.env.scope.names.lookup x=some .free:=hk
        rw[k]at this;cases this
noncomputable def ipI(f:Int->Int->Int):TIp:=λ x y H Q=>∃ i j,x=.int i/\y=.int j/\Q (.int (f i j)) H
theorem U4:PIp X .Add (ipI λ i j=>i + j):=by
  intro pins s σ H x y v u Q I r1 r2 h
  obtain⟨i,j,e1,e2,q⟩:=h
  subst e1;subst e2
  obtain⟨t,rfl⟩:=r1
  obtain⟨t',rfl⟩:=r2
  exact iadd_int ⟨.int _,H,I.tok _,⟨_,rfl⟩,q⟩
end
section
variable{X:Cx}{pos:Pos}
noncomputable def Jb(c:TT)(tb:TS):TS:=λ D σ H=>∃ W:Nat->St->Hp->Prop,(∃ m,W m σ H)/\∀ m σ H,W m σ H ->
  c σ H λ b H1=>if b=true then ∃ N:St->Hp->Prop,(∀ σ' H',N σ' H'->∃ m',m' < m/\W m' σ' H')/\tb { D with nx:=N,ct:=N,bk:=D.nx } σ H1 else D.nx σ H1
theorem Os{c:Expr}{body:List Stmt}{tc:TT}{tb:TS}(hp:PassesOwn (model X.prog X.w) X.A X.env X.xe)(hc:PT X c tc)(hb:PSs X body tb):PS X (.While c body [] pos) (Jb tc tb):=by
  intro pins s σ H D I h
  obtain⟨W,⟨m0,w0⟩,turn⟩:=h
  refine wpAny_While (codeAny_whileLoop (λ n s'=>∃ σ' H',Inv X pins σ' H' s'/\W n σ' H') ?_ m0 ⟨σ,H,I,w0⟩)
  rintro n s1 ⟨σ1,H1,I1,w1⟩
  refine wpAny_passesOwn hp (thn (hc pins s1 σ1 H1 _ I1 (turn n σ1 H1 w1)) λ b s2 ⟨H2,I2,q2⟩=>?_)
  cases b with
  | true=>
    obtain⟨N,hN,q2⟩:=q2
    rw[if_pos rfl]
    refine wpAny_passesOwn hp (thn (hb pins s2 σ1 H2 _ I2 q2) λ f s3 q3=>?_)
    cases f with
    | next=>
      obtain⟨σ3,H3,I3,n3⟩:=q3
      obtain⟨m',hm,w3⟩:=hN σ3 H3 n3
      exact⟨m',hm,σ3,H3,I3,w3⟩
    | cont=>
      obtain⟨σ3,H3,I3,n3⟩:=q3
      obtain⟨m',hm,w3⟩:=hN σ3 H3 n3
      exact⟨m',hm,σ3,H3,I3,w3⟩
    | brk=>exact q3
    | ret v=>exact q3
  | false=>
    rw[if_neg Bool.false_ne_true]
    exact wpAny_execs_nil ⟨σ1,H2,I2,q2⟩
end
structure It where
  go:Nat->Hp->Prop
  yld:Nat->Hp->V->Hp->Prop
  stop:Nat->Hp->Prop
noncomputable def CP(X:Cx)(pins:List (Addr × Obj))(H:Hp)(b:Addr):Prop:=
  H b=none/\b ≠ X.env.locals/\b ∉ X.fs/\(b ∈ X.ex ∨ X.s₀.heap.objs.size <= b)/\(∀ x c,X.env.cells.lookup x=some c->c ≠ b)/\∀ p ∈ X.pn ++ pins,p.1 ≠ b
theorem Inv.fpOk{X:Cx}{pins:List (Addr × Obj)}{σ:St}{H H':Hp}{s:Shared}{b:Addr}(I:Inv X pins σ H s)(hb:s.heap.objs.size <= b)(hn:H' b=none):CP X pins H' b:=by
  refine⟨hn,Nat.ne_of_gt (Nat.lt_of_lt_of_le I.lt hb),I.nofs hb,.inr (Nat.le_trans I.sz hb),λ x c e z=>?_,λ p hp z=>?_⟩
  . obtain⟨v,q⟩:=I.cell x c e
    exact absurd (Nat.lt_of_lt_of_le q.lt (by rw[z];exact hb)) (Nat.lt_irrefl _)
  . exact absurd (Nat.lt_of_lt_of_le (Heap.lt_size (I.pin p hp).1) (by rw[z];exact hb)) (Nat.lt_irrefl _)
structure Turn(P:Program)(w:World)(K:PySem.W.Frag)(tg:Expr)(J:It)(fp:List Addr)(it:Addr)(tn:Nat->Heap->Prop):Prop where
  mem:it ∈ fp
  obj:∀ i h,tn i h->∀ b ∈ fp,∃ o,h.get? b=some o/\∀ v,o.data ≠ .cell v
  keep:∀ i h h',tn i h->(∀ b ∈ fp,∀ o,h.get? b=some o->h'.get? b=some o)->tn i h'
  item:∀ (X:Cx),X.prog=P->X.w=w->X.K=K->X.calm=true->∀ (i:Nat) (pins:List (Addr × Obj)) (s:Shared) (σ:St) (H:Hp) (E:Value->Shared->Prop),Inv X pins σ H s->(∀ b ∈ fp,CP X pins H b)->tn i s.heap->J.go i H ->
    wpAny (model P w) X.A (pyNext (.ref it)) (λ r s1=>∃ u,r=some u /\
      wpAny (model P w) X.A (letOwnedTupleGo tg (.ref it) u) (λ _ s2=>∃ x H',Inv X pins σ H' s2/\RelV x u/\J.yld i H x H'/\tn (i + 1) s2.heap/\∀ b ∈ fp,H' b=none) E s1) E s
  done:∀ (X:Cx),X.prog=P->X.w=w->X.K=K->X.calm=true->∀ (i:Nat) (pins:List (Addr × Obj)) (s:Shared) (σ:St) (H:Hp) (E:Value->Shared->Prop),Inv X pins σ H s->(∀ b ∈ fp,CP X pins H b)->tn i s.heap->J.stop i H ->
    wpAny (model P w) X.A (pyNext (.ref it)) (λ r s1=>r=none/\Inv X pins σ H s1) E s
  self:∀ (A:Around) (i:Nat) (s:Shared) (Q:Value->Shared->Prop) (E:Value->Shared->Prop),tn i s.heap->Q (.ref it) s->wpAny (model P w) A (pyIter (.ref it)) Q E s
noncomputable abbrev TI:=St->Hp->(It->Hp->Prop)->Prop
noncomputable def PIE(X:Cx)(pins:List (Addr × Obj))(σ:St)(tg:Expr)(R:It->Hp->Prop)(itv:Value)(s2:Shared):Prop:=
  ∃ (it:Addr) (fp:List Addr) (tn:Nat->Heap->Prop) (J:It) (H':Hp),itv=.ref it/\Inv X pins σ H' s2/\Turn X.prog X.w X.K tg J fp it tn/\tn 0 s2.heap/\(∀ b ∈ fp,CP X pins H' b)/\R J H'
noncomputable def PI(X:Cx)(tg iter:Expr)(wi:TI):Prop:=
  ∀ (pins:List (Addr × Obj)) (s:Shared) (σ:St) (H:Hp) (R:It->Hp->Prop),Inv X pins σ H s->wi σ H R ->
    wpAny (model X.prog X.w) X.A (eval iter X.env) (λ v s1=>wpAny (model X.prog X.w) X.A (pyIter v) (PIE X pins σ tg R) X.xe s1) X.xe s
theorem ML{M:Model}{A:Around}{E:Value->Shared->Prop}{s:Shared}{tg:Expr}{it:Addr}{u:Value}{o:Obj}{n:String}{vs:Array Value}{Q:Unit->Shared->Prop}(ho:s.heap.get? it=some o)(hc:o.cls=.type n)(hd:o.data=.fields vs)
    (hn:["enumerate","zip","dict_itemiterator","dict_reverseitemiterator","odict_iterator","itertools.zip_longest","itertools.pairwise"].contains n=false) (hQ:Q () s):wpAny M A (letOwnedTupleGo tg (.ref it) u) Q E s:=by
  unfold letOwnedTupleGo
  cases tg <;> first
    | exact wpAny_pure hQ
    | (cases u <;> first
        | exact wpAny_pure hQ
        | (refine wpAny_bind (wpAny_load ho ?_)
           rw[hc,hd]
           show wpAny M A (if(["enumerate","zip","dict_itemiterator","dict_reverseitemiterator","odict_iterator","itertools.zip_longest","itertools.pairwise"].contains n && vs[0]? == some (rawInt _))=true then _ else _) Q E s
           rw[if_neg (by intro h;rw[hn,Bool.false_and]at h;cases h)]
           exact wpAny_pure hQ))
noncomputable def Itl(K:PySem.W.Frag)(a:Addr):It:=
  ⟨λ i H=>∃ xs x,SqL K H a xs/\xs[i]? = some x,λ i H x H'=>H'=H/\∀ xs,SqL K H a xs->xs[i]? = some x,λ i H=>∃ xs,SqL K H a xs/\xs.length <= i⟩
noncomputable def Itt(K:PySem.W.Frag)(a:Addr):It:=
  ⟨λ i H=>∃ xs x,SqT K H a xs/\xs[i]? = some x,λ i H x H'=>H'=H/\∀ xs,SqT K H a xs->xs[i]? = some x,λ i H=>∃ xs,SqT K H a xs/\xs.length <= i⟩
noncomputable def Itr(lo:Int)(n:Nat):It:=⟨λ i _=>i < n,λ i H x H'=>H'=H/\x=.int (lo + i),λ i _=>n <= i⟩
theorem Mn{P:Program}{w:World}{K:PySem.W.Frag}{tg:Expr}(a it:Addr):Turn P w K tg (Itl K a) [it] it (λ i h=>h.IsListIter it a i) where
  mem:=by simp
  obj:=λ i h st b hb=>by
    have e:b=it:=by simpa using hb
    subst e
    obtain⟨o,e,c,d⟩:=st
    exact⟨o,e,λ v z=>by rw[d]at z;cases z⟩
  keep:=λ i h h' st k=>st.at λ o e=>k it (by simp) o e
  item:=by
    intro X hP hw hK hc i pins s σ H E I hf st hg
    subst hP hw hK
    obtain⟨xs,x,hq,hx⟩:=hg
    obtain⟨its,rv,p,hz⟩:=I.list hq
    obtain⟨u,hu,ru⟩:=rv.get hx
    obtain⟨f0,f1,f2,f3,f4,f5⟩:=hf it (by simp)
    refine wpAny_pyNext_list_item st p.isList (x:=u) (by simpa using hu) λ h' st' sb=>?_
    have I1:Inv X pins σ H { s with heap:=h' }:=I.turned (t':=s.toks) (λ b o hb e=>(sb.2 b hb).trans e) f0 f1 f3 f4 f5
    obtain⟨o,e,c,d⟩:=id st'
    exact⟨u,rfl,ML (s:={ s with heap:=h' }) e c d (by decide) ⟨x,H,I1,ru,⟨rfl,λ ys hy=>by rw[I.list_inj hy hq];exact hx⟩,st',λ b hb=>(hf b hb).1⟩⟩
  done:=by
    intro X hP hw hK hc i pins s σ H E I hf st hg
    subst hP hw hK
    obtain⟨xs,hq,hx⟩:=hg
    obtain⟨its,rv,p,hz⟩:=I.list hq
    obtain⟨f0,f1,f2,f3,f4,f5⟩:=hf it (by simp)
    have hl:=rv.length
    exact wpAny_pyNext_list_end (I.ok.hd hc) st p.isList (by simp;omega) λ h' eb=>⟨rfl,I.turned (t':=s.toks) (λ b o hb e=>eb b o hb e) f0 f1 f3 f4 f5⟩
  self:=λ _ _ _ _ _ st h=>wpAny_pyIter_listiter st h
theorem La{P:Program}{w:World}{K:PySem.W.Frag}{tg:Expr}(a it:Addr):Turn P w K tg (Itt K a) [it] it (λ i h=>h.IsTupleIter it a i) where
  mem:=by simp
  obj:=λ i h st b hb=>by
    have e:b=it:=by simpa using hb
    subst e
    obtain⟨o,e,c,d⟩:=st
    exact⟨o,e,λ v z=>by rw[d]at z;cases z⟩
  keep:=λ i h h' st k=>st.at λ o e=>k it (by simp) o e
  item:=by
    intro X hP hw hK hc i pins s σ H E I hf st hg
    subst hP hw hK
    obtain⟨xs,x,hq,hx⟩:=hg
    obtain⟨its,rv,p,hz⟩:=I.tuple hq
    obtain⟨u,hu,ru⟩:=rv.get hx
    obtain⟨f0,f1,f2,f3,f4,f5⟩:=hf it (by simp)
    refine wpAny_pyNext_tuple_item st (show s.heap.IsTuple a its.toArray from p) (x:=u) (by simpa using hu) λ h' st' sb=>?_
    have I1:Inv X pins σ H { s with heap:=h' }:=I.turned (t':=s.toks) (λ b o hb e=>(sb.2 b hb).trans e) f0 f1 f3 f4 f5
    obtain⟨o,e,c,d⟩:=id st'
    exact⟨u,rfl,ML (s:={ s with heap:=h' }) e c d (by decide) ⟨x,H,I1,ru,⟨rfl,λ ys hy=>by rw[I.tuple_inj hy hq];exact hx⟩,st',λ b hb=>(hf b hb).1⟩⟩
  done:=by
    intro X hP hw hK hc i pins s σ H E I hf st hg
    subst hP hw hK
    obtain⟨xs,hq,hx⟩:=hg
    obtain⟨its,rv,p,hz⟩:=I.tuple hq
    obtain⟨f0,f1,f2,f3,f4,f5⟩:=hf it (by simp)
    have hl:=rv.length
    exact wpAny_pyNext_tuple_end (I.ok.hd hc) st (show s.heap.IsTuple a its.toArray from p) (by simp;omega) λ h' eb=>⟨rfl,I.turned (t':=s.toks) (λ b o hb e=>eb b o hb e) f0 f1 f3 f4 f5⟩
  self:=λ _ _ _ _ _ st h=>wpAny_pyIter_tupleiter st h
theorem Lb{P:Program}{w:World}{K:PySem.W.Frag}{tg:Expr}(it:Addr)(lo:Int)(n:Nat):Turn P w K tg (Itr lo n) [it] it (λ i h=>IsRangeIter h it (lo + (i:Nat) * 1) ((n:Int) - (i:Nat)) 1) where
  mem:=by simp
  obj:=λ i h st b hb=>by
    have e:b=it:=by simpa using hb
    subst e
    exact⟨_,st,λ v z=>by
      have z':Data.fields _=Data.cell v:=z
      cases z'⟩
  keep:=λ i h h' st k=>k it (by simp) _ st
  item:=by
    intro X hP hw hK hc i pins s σ H E I hf st hg
    subst hP hw hK
    obtain⟨f0,f1,f2,f3,f4,f5⟩:=hf it (by simp)
    have W:=Walks.range (prog:=X.prog) (w:=X.w) (I.ok.hd hc) it lo 1 n
    refine W.item i s _ _ hg st λ v h' tk hv st' kk=>?_
    obtain⟨t,rfl⟩:=hv
    have I1:Inv X pins σ H { s with heap:=h',toks:=tk }:=I.turned (λ b o hb e=>kk b o (by simpa using hb) e) f0 f1 f3 f4 f5
    refine⟨_,rfl,ML (s:={ s with heap:=h',toks:=tk }) (n:="range_iterator") st' rfl rfl (by decide) ⟨.int (lo + i),H,I1,⟨t,?_⟩,⟨rfl,rfl⟩,st',λ b hb=>(hf b hb).1⟩⟩
    rw[Int.mul_one]
  done:=by
    intro X hP hw hK hc i pins s σ H E I hf st hg
    subst hP hw hK
    obtain⟨f0,f1,f2,f3,f4,f5⟩:=hf it (by simp)
    exact wpAny_pyNext_range_end (I.ok.hd hc) st (by have:n <= i:=hg;omega) λ h' eb=>⟨rfl,I.turned (t':=s.toks) (λ b o hb e=>eb b o hb e) f0 f1 f3 f4 f5⟩
  self:=λ _ _ _ _ _ st h=>wpAny_pyIter_rangeiter st h
end L2
namespace L2
open PySem PySem.Spec PyProof.Rows
section
variable{X:Cx}{tg:Expr}
noncomputable def IJ(K:PySem.W.Frag)(tl:TE):TI:=λ σ H R=>tl σ H λ x H1=>∃ a,x=.ref a/\(∃ xs,SqL K H1 a xs)/\R (Itl K a) H1
noncomputable def KO(K:PySem.W.Frag)(tl:TE):TI:=λ σ H R=>tl σ H λ x H1=>∃ a,x=.ref a/\(∃ xs,SqT K H1 a xs)/\R (Itt K a) H1
theorem RW{l:Expr}{tl:TE}(hl:PE X l tl):PI X tg l (IJ X.K tl):=by
  intro pins s σ H R I h
  refine thn (hl pins s σ H _ I h) λ v s1 ⟨x,H1,I1,r1,q1⟩=>?_
  obtain⟨a,e,⟨xs,hq⟩,q⟩:=q1
  subst e
  cases r1
  obtain⟨its,rv,p,hz⟩:=I1.list hq
  refine wpAny_pyIter_list p.isList ?_
  refine⟨s1.heap.objs.size,[s1.heap.objs.size],_,_,H1,rfl,I1.kept (t':=s1.toks) λ b o e=>Heap.get?_push_of_some _ e,Mn a _,⟨_,Heap.get?_push_size _ rfl,rfl,rfl⟩,λ b hb=>?_,q⟩
  have e:b=s1.heap.objs.size:=by simpa using hb
  subst e
  exact I1.fpOk (Nat.le_refl _) (I1.hok.fresh (Nat.le_refl _))
theorem TW{l:Expr}{tl:TE}(hl:PE X l tl):PI X tg l (KO X.K tl):=by
  intro pins s σ H R I h
  refine thn (hl pins s σ H _ I h) λ v s1 ⟨x,H1,I1,r1,q1⟩=>?_
  obtain⟨a,e,⟨xs,hq⟩,q⟩:=q1
  subst e
  cases r1
  obtain⟨its,rv,p,hz⟩:=I1.tuple hq
  refine wpAny_pyIter_tuple (show s1.heap.IsTuple a its.toArray from p) ?_
  refine⟨s1.heap.objs.size,[s1.heap.objs.size],_,_,H1,rfl,I1.kept (t':=s1.toks) λ b o e=>Heap.get?_push_of_some _ e,La a _,⟨_,Heap.get?_push_size _ rfl,rfl,rfl⟩,λ b hb=>?_,q⟩
  have e:b=s1.heap.objs.size:=by simpa using hb
  subst e
  exact I1.fpOk (Nat.le_refl _) (I1.hok.fresh (Nat.le_refl _))
theorem Jy{pins:List (Addr × Obj)}{σ:St}{H:Hp}{s:Shared}{R:It->Hp->Prop}{E:Value->Shared->Prop}{lo hi:Int}{t u v:Tok}{tk:Nat}(I:Inv X pins σ H s)(h1:-(2 ^ 62) <= lo)(h2:lo < 2 ^ 62)(h3:-(2 ^ 62) <= hi)(h4:hi < 2 ^ 62)
    (q:R (Itr lo (hi - lo).toNat) H):wpAny (model X.prog X.w) X.A (pyIter (.ref s.heap.objs.size)) (PIE X pins σ tg R) E { s with heap:=s.heap.push { cls:=.type "range",data:=.fields #[.int lo t,.int hi u,.int 1 v] },toks:=tk }:=by
  refine wpAny_pyIter_range (IsRange.new ..) (small_one h1 h2 h3 h4) ?_
  have I1:Inv X pins σ H { s with heap:=s.heap.push { cls:=.type "range",data:=.fields #[.int lo t,.int hi u,.int 1 v] },toks:=tk }:=I.kept λ b o e=>Heap.get?_push_of_some _ e
  refine⟨(s.heap.push { cls:=.type "range",data:=.fields #[.int lo t,.int hi u,.int 1 v] }).objs.size,[(s.heap.push { cls:=.type "range",data:=.fields #[.int lo t,.int hi u,.int 1 v] }).objs.size],_,_,H,rfl,
    I1.kept (t':=tk) λ b o e=>Heap.get?_push_of_some _ e,Lb _ lo (hi - lo).toNat,?_,λ b hb=>?_,q⟩
  . have e1:lo + ((0:Nat):Int) * 1=lo:=by simp
    have e2:(((hi - lo).toNat:Nat):Int) - ((0:Nat):Int)=Builtin.Range.rangeSize lo hi 1:=by rw[rangeSize_one];split <;> omega
    show IsRangeIter _ _ (lo + ((0:Nat):Int) * 1) ((((hi - lo).toNat:Nat):Int) - ((0:Nat):Int)) 1
    rw[e1,e2]
    exact Heap.get?_push_size _ rfl
  . have e:b=(s.heap.push { cls:=.type "range",data:=.fields #[.int lo t,.int hi u,.int 1 v] }).objs.size:=by simpa using hb
    subst e
    exact I1.fpOk (Nat.le_refl _) (I1.hok.fresh (Nat.le_refl _))
noncomputable def MJ(ta:TA):TI:=λ σ H R=>ta σ H λ vs H1=>∃ j:Int,vs=[.int j]/\-(2 ^ 62) <= j/\j < 2 ^ 62/\R (Itr 0 j.toNat) H1
noncomputable def MH(ta:TA):TI:=λ σ H R=>ta σ H λ vs H1=>∃ i j:Int,vs=[.int i,.int j]/\(-(2 ^ 62) <= i/\i < 2 ^ 62/\-(2 ^ 62) <= j/\j < 2 ^ 62)/\R (Itr i (j - i).toNat) H1
theorem ND{a:Expr}{ta:TA}{p pos:Pos}(hg:Gl X "range")(hm:X.mg "range"=none)(ha:PA X [a] ta)(hs:starEach [a] X.env=[(false,eval a X.env)]:=by rfl):PI X tg (.Call (.Name "range" p) [a] [] pos) (MJ ta):=by
  intro pins s σ H R I h
  refine Call_ (GL I hg hm boot_range (PyProof.Rows.callWith_type1 (thn (ha pos pins s σ H _ I h) λ us s1 ⟨vs,H1,I1,r1,q1⟩=>?_) hs rfl))
  obtain⟨j,e,q1,q2,q⟩:=q1
  subst e
  cases r1 with
  | cons r rr=>
    cases rr
    obtain⟨t,rfl⟩:=r
    exact call_range_1 (Jy I1 (by omega) (by omega) q1 q2 (by simpa using q))
theorem NC{a b:Expr}{ta:TA}{p pos:Pos}(hg:Gl X "range")(hm:X.mg "range"=none)(ha:PA X [a,b] ta)(hs:starEach [a,b] X.env=[(false,eval a X.env),(false,eval b X.env)]:=by rfl)(hs2:starEach [b] X.env=[(false,eval b X.env)]:=by rfl) :
    PI X tg (.Call (.Name "range" p) [a,b] [] pos) (MH ta):=by
  intro pins s σ H R I h
  refine Call_ (GL I hg hm boot_range (PyProof.Rows.callWith_type1 (thn (ha pos pins s σ H _ I h) λ us s1 ⟨vs,H1,I1,r1,q1⟩=>?_) (by rw[hs,hs2]) (by rw[hs2];rfl)))
  obtain⟨i,j,e,⟨q1,q2,q3,q4⟩,q⟩:=q1
  subst e
  cases r1 with
  | cons r rr=>
    cases rr with
    | cons r' rr=>
      cases rr
      obtain⟨t,rfl⟩:=r
      obtain⟨t',rfl⟩:=r'
      exact call_range_2 (Jy I1 q1 q2 q3 q4 q)
noncomputable def OH(wi:TI)(g:TG)(tb:TS):TS:=λ D σ H=>wi σ H λ J H1=>∃ W:Nat->Nat->St->Hp->Prop,(∃ m,W 0 m σ H1)/\∀ i m σ H,W i m σ H ->
  (J.stop i H/\D.nx σ H) ∨ (J.go i H/\∃ N:St->Hp->Prop,(∀ σ' H',N σ' H'->∃ m',m' < m/\W (i + 1) m' σ' H')/\∀ x H',J.yld i H x H'->g x σ H' λ σ2 H2=>tb { D with nx:=N,ct:=N,bk:=D.nx } σ2 H2)
noncomputable def EV(fp:List Addr)(h:Heap):List (Addr × Obj):=fp.filterMap λ b=>(h.get? b).map λ o=>(b,o)
theorem C4{fp:List Addr}{h:Heap}{b:Addr}{o:Obj}(hb:b ∈ fp)(e:h.get? b=some o):(b,o) ∈ EV fp h:=List.mem_filterMap.mpr ⟨b,hb,by rw[e];rfl⟩
theorem NL{fp:List Addr}{h:Heap}{p:Addr × Obj}(hp:p ∈ EV fp h):p.1 ∈ fp/\h.get? p.1=some p.2:=by
  obtain⟨b,hb,e⟩:=List.mem_filterMap.mp hp
  cases q:h.get? b with
  | none=>rw[q]at e;cases e
  | some o=>
    rw[q]at e
    have e':(b,o)=p:=Option.some.inj e
    subst e'
    exact⟨hb,q⟩
theorem Inv.pinned{pins:List (Addr × Obj)}{σ:St}{H:Hp}{s:Shared}{fp:List Addr}(I:Inv X pins σ H s)(hf:∀ b ∈ fp,CP X pins H b)(ho:∀ b ∈ fp,∃ o,s.heap.get? b=some o/\∀ v,o.data ≠ .cell v):Inv X (pins ++ EV fp s.heap) σ H s:=
  I.pins_of λ p hp=>(List.mem_append.mp hp).elim (λ z=>I.pin p (List.mem_append_right _ z)) λ z=>by
    obtain⟨hb,e⟩:=NL z
    obtain⟨f0,f1,f2,_⟩:=hf p.1 hb
    obtain⟨o,e',d⟩:=ho p.1 hb
    rw[e]at e';cases e'
    exact⟨e,f0,f1,f2,d⟩
theorem Inv.unpinned{pins pl:List (Addr × Obj)}{σ:St}{H:Hp}{s:Shared}(I:Inv X (pins ++ pl) σ H s):Inv X pins σ H s:=I.pins_of λ p hp=>I.pin p (List.mem_append_right _ (List.mem_append_left _ hp))
theorem TU{iter:Expr}{body:List Stmt}{wi:TI}{g:TG}{tb:TS}{pos:Pos}(hp:PassesOwn (model X.prog X.w) X.A X.env X.xe)(hc:X.calm=true)(hi:PI X tg iter wi)(hg:PG X tg g)(hb:PSs X body tb)
    (hs:∀ x,foldedSetIterable iter X.env x=pure x:=by intro _;rfl):PS X (.For tg iter body [] pos) (OH wi g tb):=by
  intro pins s σ H D I h
  refine wpAny_For (thn (hi pins s σ H _ I h) λ v s1 h1=>thn h1 λ itv s2 h2=>?_) hs
  obtain⟨it,fp,tn,J,H2,e,I2,T,st2,f2,W,⟨m0,w0⟩,turn⟩:=h2
  subst e
  -- what stays true of the iterator's objects through the loop
  have stat:∀ {H':Hp},(∀ b ∈ fp,H' b=none)->∀ b ∈ fp,CP X pins H' b:=λ hn b hb=>⟨hn b hb,(f2 b hb).2⟩
  refine codeAny_forLoop_any (λ n s'=>∃ i σ' H',Inv X pins σ' H' s'/\tn i s'.heap/\(∀ b ∈ fp,H' b=none)/\W i n σ' H') ?_ m0 ⟨0,σ,H2,I2,st2,λ b hb=>(f2 b hb).1,w0⟩
  rintro n s3 ⟨i,σ3,H3,I3,st3,fr3,w3⟩
  rcases turn i n σ3 H3 w3 with⟨stop,qn⟩|⟨go,N,hN,step⟩
  . refine wpAny_passesOwn hp (thn (T.done X rfl rfl rfl hc i pins s3 σ3 H3 X.xe I3 (stat fr3) st3 stop) λ r s4 ⟨hr,I4⟩=>?_)
    subst hr
    exact wpAny_execs_nil ⟨σ3,H3,I4,qn⟩
  . refine wpAny_passesOwn hp (thn (T.item X rfl rfl rfl hc i pins s3 σ3 H3 X.xe I3 (stat fr3) st3 go) λ r s4 ⟨u,hr,h4⟩=>?_)
    subst hr
    refine wpAny_passesOwn hp (thn h4 λ _ s5 ⟨x,H5,I5,r5,y5,st5,fr5⟩=>?_)
    have I5':=I5.pinned (stat fr5) (T.obj _ _ st5)
    refine wpAny_passesOwn hp (thn (hg _ s5 σ3 H5 x u _ I5' r5 (step x H5 y5)) λ _ s6 ⟨σ6,H6,I6,q6⟩=>?_)
    refine wpAny_passesOwn hp (thn (hb _ s6 σ6 H6 _ I6 q6) λ f s7 q7=>?_)
    have again:∀ {σ7:St} {H7:Hp},Inv X (pins ++ EV fp s5.heap) σ7 H7 s7->N σ7 H7->∃ m,m < n/\∃ i σ' H',Inv X pins σ' H' s7/\tn i s7.heap/\(∀ b ∈ fp,H' b=none)/\W i m σ' H':=λ {σ7 H7} I7 n7=>by
      obtain⟨m',hm,w7⟩:=hN σ7 H7 n7
      refine⟨m',hm,i + 1,σ7,H7,I7.unpinned,T.keep _ _ _ st5 λ b hb o e=>(I7.pin (b,o) (List.mem_append_right _ (List.mem_append_right _ (C4 hb e)))).1,λ b hb=>?_,w7⟩
      obtain⟨o,e,d⟩:=T.obj _ _ st5 b hb
      exact(I7.pin (b,o) (List.mem_append_right _ (List.mem_append_right _ (C4 hb e)))).2.1
    cases f with
    | next=>obtain⟨σ7,H7,I7,n7⟩:=q7;exact again I7 n7
    | cont=>obtain⟨σ7,H7,I7,n7⟩:=q7;exact again I7 n7
    | brk=>obtain⟨σ7,H7,I7,q7⟩:=q7;exact⟨σ7,H7,I7.unpinned,q7⟩
    | ret v=>obtain⟨x7,σ7,H7,I7,r7,q7⟩:=q7;exact⟨x7,σ7,H7,I7.unpinned,r7,q7⟩
end
end L2
namespace L2
open PySem PySem.Spec PyProof.Rows
noncomputable abbrev R2:=V->V->Hp->VK->Prop
noncomputable def OpR(X:Cx)(f:Value->Value->Sem Value)(r:R2):Prop:=
  ∀ (pins:List (Addr × Obj)) (s:Shared) (σ:St) (H:Hp) (x y:V) (v u:Value) (Q:VK),Inv X pins σ H s->RelV x v->RelV y u->r x y H Q ->
    wpAny (model X.prog X.w) X.A (f v u) (EP X pins σ Q) X.xe s
noncomputable def UnR(X:Cx)(f:Value->Sem Value)(r:V->Hp->VK->Prop):Prop:=
  ∀ (pins:List (Addr × Obj)) (s:Shared) (σ:St) (H:Hp) (x:V) (v:Value) (Q:VK),Inv X pins σ H s->RelV x v->r x H Q ->
    wpAny (model X.prog X.w) X.A (f v) (EP X pins σ Q) X.xe s
noncomputable def CallR(X:Cx)(f:Value)(r:List V->Hp->VK->Prop):Prop:=
  ∀ (pins:List (Addr × Obj)) (s:Shared) (σ:St) (H:Hp) (xs:List V) (us:List Value) (Q:VK),Inv X pins σ H s->Vals xs us->r xs H Q ->
    wpAny (model X.prog X.w) X.A (call f us) (EP X pins σ Q) X.xe s
noncomputable def Vj(X:Cx)(r:V->Hp->(Bool->Hp->Prop)->Prop):Prop:=
  ∀ (pins:List (Addr × Obj)) (s:Shared) (σ:St) (H:Hp) (x:V) (v:Value) (Q:Bool->Hp->Prop),Inv X pins σ H s->RelV x v->r x H Q ->
    wpAny (model X.prog X.w) X.A (truthy v) (TP X pins σ Q) X.xe s
noncomputable def tOp(r:R2)(ta tb:TE):TE:=λ σ H Q=>ta σ H λ x H1=>tb σ H1 λ y H2=>r x y H2 Q
noncomputable def tUn(r:V->Hp->VK->Prop)(ta:TE):TE:=λ σ H Q=>ta σ H λ x H1=>r x H1 Q
noncomputable def rI(C:Int->Int->Prop)(g:Int->Int->V):R2:=λ x y H Q=>∃ i j,x=.int i/\y=.int j/\C i j/\Q (g i j) H
noncomputable def rI0(g:Int->Int->V):R2:=λ x y H Q=>∃ i j,x=.int i/\y=.int j/\Q (g i j) H
noncomputable def rU(g:Int->V):V->Hp->VK->Prop:=λ x H Q=>∃ i,x=.int i/\Q (g i) H
section
variable{X:Cx}{a b c:Expr}{ta tb tc:TE}{pos:Pos}
theorem PR(ha:PE X a ta)(hb:PE X b tb){pins:List (Addr × Obj)}{s:Shared}{σ:St}{H:Hp}{R:V->V->Hp->Prop}(I:Inv X pins σ H s)
    (h:ta σ H λ x H1=>tb σ H1 λ y H2=>R x y H2) {Q:Value->Shared->Prop} {f:Value->Value->Sem Value}
    (hf:∀ v u s2 x y H2,Inv X pins σ H2 s2->RelV x v->RelV y u->R x y H2->wpAny (model X.prog X.w) X.A (f v u) Q X.xe s2) :
    wpAny (model X.prog X.w) X.A (eval a X.env) (λ v s₁=>wpAny (model X.prog X.w) X.A (eval b X.env) (λ u s₂=>wpAny (model X.prog X.w) X.A (f v u) Q X.xe s₂) X.xe s₁) X.xe s:=by
  refine thn (ha pins s σ H _ I h) λ v s1 ⟨x,H1,I1,r1,q1⟩=>?_
  refine thn (hb pins s1 σ H1 _ I1 q1) λ u s2 ⟨y,H2,I2,r2,q2⟩=>?_
  exact hf v u s2 x y H2 I2 r1 r2 q2
theorem M3{op:Operator}{r:R2}(ho:OpR X (binaryOp op) r)(ha:PE X a ta)(hb:PE X b tb):PE X (.BinOp a op b pos) (tOp r ta tb):=by
  intro pins s σ H Q I h
  exact wpAny_BinOp (PR ha hb I h λ v u s2 x y H2 I2 rx ry q=>ho pins s2 σ H2 x y v u Q I2 rx ry q)
theorem Uv{op:UnaryOp}{r:V->Hp->VK->Prop}(ho:UnR X (unaryOp op) r)(ha:PE X a ta):PE X (.UnaryOp op a pos) (tUn r ta):=by
  intro pins s σ H Q I h
  exact UnaryOp_ (thn (ha pins s σ H _ I h) λ v s1 ⟨x,H1,I1,r1,q1⟩=>ho pins s1 σ H1 x v Q I1 r1 q1)
theorem opI{f:Value->Value->Sem Value}{C:Int->Int->Prop}{g:Int->Int->Int}
    (rule:∀ (i j:Int) (t u:Tok) (s:Shared) (Q:Value->Shared->Prop) (E:Value->Shared->Prop),C i j->Q (.int (g i j) s.toks) { s with toks:=s.toks + 1 }->wpAny (model X.prog X.w) X.A (f (.int i t) (.int j u)) Q E s) :
    OpR X f (rI C λ i j=>.int (g i j)):=by
  intro pins s σ H x y v u Q I rx ry h
  obtain⟨i,j,rfl,rfl,hc,q⟩:=h
  obtain⟨t,rfl⟩:=rx
  obtain⟨t',rfl⟩:=ry
  exact rule i j t t' s _ _ hc ⟨.int (g i j),H,I.tok _,⟨_,rfl⟩,q⟩
theorem Tq{f:Value->Value->Sem Value}{g:Int->Int->Int}
    (rule:∀ (i j:Int) (t u:Tok) (s:Shared) (Q:Value->Shared->Prop) (E:Value->Shared->Prop),Q (.int (g i j) s.toks) { s with toks:=s.toks + 1 }->wpAny (model X.prog X.w) X.A (f (.int i t) (.int j u)) Q E s) :
    OpR X f (rI0 λ i j=>.int (g i j)):=by
  intro pins s σ H x y v u Q I rx ry h
  obtain⟨i,j,rfl,rfl,q⟩:=h
  obtain⟨t,rfl⟩:=rx
  obtain⟨t',rfl⟩:=ry
  exact rule i j t t' s _ _ ⟨.int (g i j),H,I.tok _,⟨_,rfl⟩,q⟩
theorem M8{f:Value->Value->Sem Value}{g:Int->Int->Bool}
    (rule:∀ (i j:Int) (t u:Tok) (s:Shared) (Q:Value->Shared->Prop) (E:Value->Shared->Prop),Q (.bool (g i j)) s->wpAny (model X.prog X.w) X.A (f (.int i t) (.int j u)) Q E s) :
    OpR X f (rI0 λ i j=>.bl (g i j)):=by
  intro pins s σ H x y v u Q I rx ry h
  obtain⟨i,j,rfl,rfl,q⟩:=h
  obtain⟨t,rfl⟩:=rx
  obtain⟨t',rfl⟩:=ry
  exact rule i j t t' s _ _ ⟨.bl (g i j),H,I,rfl,q⟩
noncomputable def UZ(i j:Int):Prop:=0 < j/\j < 1073741824
noncomputable def UY(i j:Int):Prop:=0 <= j/\j <= 1000000/\i.natAbs < 2 ^ 64
noncomputable def CMul(i j:Int):Prop:=(-(2 ^ 64) < i/\i < 2 ^ 64) ∨ (-(2 ^ 64) < j/\j < 2 ^ 64)
theorem CMul.ok{i j:Int}(h:CMul i j):IntMulOk i j:=by
  rcases h with⟨h1,h2⟩|⟨h1,h2⟩
  . exact .of_left (intBits_le_64 h1 h2)
  . exact .of_right (intBits_le_64 h1 h2)
theorem Bs:OpR X (binaryOp .Add) (rI0 λ i j=>.int (i + j)):=Tq λ _ _ _ _ _ _ _ q=>add_int q
theorem NH:OpR X (binaryOp .Sub) (rI0 λ i j=>.int (i - j)):=Tq λ _ _ _ _ _ _ _ q=>sub_int q
theorem Br:OpR X (binaryOp .Mult) (rI CMul λ i j=>.int (i * j)):=opI λ _ _ _ _ _ _ _ hc q=>mul_int q hc.ok
theorem FJ:OpR X (binaryOp .FloorDiv) (rI UZ λ i j=>.int (i / j)):=opI λ i j _ _ _ _ _ hc q=>by
  have h1:(0:Int) < j:=hc.1
  have h2:j < 1073741824:=hc.2
  exact floordiv_int (by omega) (by rw[Int.fdiv_eq_ediv_of_nonneg i (by omega)];exact q) (.inl (PyProof.noPylong_small (by omega)))
theorem DR:OpR X (binaryOp .Mod) (rI (λ _ j=>0 < j) λ i j=>.int (i % j)):=opI λ i j _ _ _ _ _ hc q=>by
  have h1:(0:Int) < j:=hc
  exact mod_int' (by omega) (by rw[Int.fmod_eq_emod_of_nonneg i (by omega)];exact q)
theorem Tl:OpR X (binaryOp .Pow) (rI UY λ i j=>.int (i ^ j.toNat)):=opI λ _ _ _ _ _ _ _ hc q=>pow_int_small hc.1 hc.2.1 hc.2.2 q
theorem unI{f:Value->Sem Value}{g:Int->Int}
    (rule:∀ (i:Int) (t:Tok) (s:Shared) (Q:Value->Shared->Prop) (E:Value->Shared->Prop),Q (.int (g i) s.toks) { s with toks:=s.toks + 1 }->wpAny (model X.prog X.w) X.A (f (.int i t)) Q E s) :
    UnR X f (rU λ i=>.int (g i)):=by
  intro pins s σ H x v Q I rx h
  obtain⟨i,rfl,q⟩:=h
  obtain⟨t,rfl⟩:=rx
  exact rule i t s _ _ ⟨.int (g i),H,I.tok _,⟨_,rfl⟩,q⟩
theorem SN:UnR X (unaryOp .USub) (rU λ i=>.int (-i)):=unI λ _ _ _ _ _ q=>neg_int q
end
noncomputable def Jn:V->V->Bool
  | .non,.non=>true | .non,.int _=>true | .int _,.non=>true | .non,.bl _=>true | .bl _,.non=>true | .non,.str _=>true | .str _,.non=>true
  | .int _,.int _=>true | .bl _,.bl _=>true | .str _,.str _=>true | .byt _,.byt _=>true
  | .int _,.str _=>true | .str _,.int _=>true | .bl _,.str _=>true | .str _,.bl _=>true
  | _,_=>false
noncomputable def rEq:R2:=λ x y H Q=>Jn x y=true/\Q (.bl (decide (x=y))) H
noncomputable def rNe:R2:=λ x y H Q=>Jn x y=true/\Q (.bl (!decide (x=y))) H
theorem LM{i j:Int}:decide (V.int i=V.int j)=(i == j):=by
  rw[Bool.eq_iff_iff]
  simp
theorem Nk{i j:Bool}:decide (V.bl i=V.bl j)=(i == j):=by
  rw[Bool.eq_iff_iff]
  simp
theorem LL{i j:Str}:decide (V.str i=V.str j)=(i == j):=by
  rw[Bool.eq_iff_iff]
  simp
theorem LN{i j:Array UInt8}:decide (V.byt i=V.byt j)=(i.toList == j.toList):=by
  rw[Bool.eq_iff_iff]
  cases i
  cases j
  simp
section
variable{X:Cx}{a b c:Expr}{ta tb tc:TE}{pos:Pos}
theorem Af{pins:List (Addr × Obj)}{σ:St}{H:Hp}{s:Shared}{Q:VK}{k k':Bool}(I:Inv X pins σ H s)(q:Q (.bl k) H)(e:k=k'):EP X pins σ Q (.bool k') s:=by
  subst e
  exact⟨.bl k,H,I,rfl,q⟩
theorem Et:OpR X (compareOp .Eq) rEq:=by
  intro pins s σ H x y v u Q I rx ry h
  obtain⟨hs,q⟩:=h
  cases x with
  | non=>
    cases rx
    cases y with
    | non=>cases ry;exact PySem.EqNone.eq_none_none (Af I q (by simp))
    | bl j=>cases ry;exact PySem.EqNone.eq_none_bool (Af I q (by simp))
    | int j=>obtain⟨t',rfl⟩:=ry;exact PySem.EqNone.eq_none_int (Af I q (by simp))
    | str j=>obtain⟨t',rfl⟩:=ry;exact PySem.EqNone.eq_none_str (Af I q (by simp))
    | _=>exact absurd (show false=true from hs) Bool.false_ne_true
  | bl i=>
    cases rx
    cases y with
    | non=>cases ry;exact PySem.EqNone.eq_bool_none (Af I q (by simp))
    | bl j=>cases ry;exact eq_bool (Af I q Nk)
    | str j=>obtain⟨t',rfl⟩:=ry;exact PySem.EqMixed.eq_bool_str (Af I q (by simp))
    | _=>exact absurd (show false=true from hs) Bool.false_ne_true
  | int i=>
    obtain⟨t,rfl⟩:=rx
    cases y with
    | non=>cases ry;exact PySem.EqNone.eq_int_none (Af I q (by simp))
    | int j=>obtain⟨t',rfl⟩:=ry;exact eq_int (Af I q LM)
    | str j=>obtain⟨t',rfl⟩:=ry;exact PySem.EqMixed.eq_int_str (Af I q (by simp))
    | _=>exact absurd (show false=true from hs) Bool.false_ne_true
  | str i=>
    obtain⟨t,rfl⟩:=rx
    cases y with
    | non=>cases ry;exact PySem.EqNone.eq_str_none (Af I q (by simp))
    | bl j=>cases ry;exact PySem.EqMixed.eq_str_bool (Af I q (by simp))
    | int j=>obtain⟨t',rfl⟩:=ry;exact PySem.EqMixed.eq_str_int (Af I q (by simp))
    | str j=>obtain⟨t',rfl⟩:=ry;exact eq_str (Af I q LL)
    | _=>exact absurd (show false=true from hs) Bool.false_ne_true
  | byt i=>
    obtain⟨t,rfl⟩:=rx
    cases y with
    | byt j=>obtain⟨t',rfl⟩:=ry;exact PySem.W.eq_bytes (Af I q LN)
    | _=>exact absurd (show false=true from hs) Bool.false_ne_true
  | _=>cases y <;> exact absurd (show false=true from hs) Bool.false_ne_true
theorem Pn:OpR X (compareOp .NotEq) rNe:=by
  intro pins s σ H x y v u Q I rx ry h
  obtain⟨hs,q⟩:=h
  cases x with
  | non=>
    cases rx
    cases y with
    | non=>cases ry;exact PySem.EqNone.ne_none_none (Af I q (by simp))
    | bl j=>cases ry;exact PySem.EqNone.ne_none_bool (Af I q (by simp))
    | int j=>obtain⟨t',rfl⟩:=ry;exact PySem.EqNone.ne_none_int (Af I q (by simp))
    | str j=>obtain⟨t',rfl⟩:=ry;exact PySem.EqNone.ne_none_str (Af I q (by simp))
    | _=>exact absurd (show false=true from hs) Bool.false_ne_true
  | bl i=>
    cases rx
    cases y with
    | non=>cases ry;exact PySem.EqNone.ne_bool_none (Af I q (by simp))
    | bl j=>cases ry;exact ne_bool (Af I q (congrArg not Nk))
    | str j=>obtain⟨t',rfl⟩:=ry;exact PySem.EqMixed.ne_bool_str (Af I q (by simp))
    | _=>exact absurd (show false=true from hs) Bool.false_ne_true
  | int i=>
    obtain⟨t,rfl⟩:=rx
    cases y with
    | non=>cases ry;exact PySem.EqNone.ne_int_none (Af I q (by simp))
    | int j=>obtain⟨t',rfl⟩:=ry;exact ne_int (Af I q (congrArg not LM))
    | str j=>obtain⟨t',rfl⟩:=ry;exact PySem.EqMixed.ne_int_str (Af I q (by simp))
    | _=>exact absurd (show false=true from hs) Bool.false_ne_true
  | str i=>
    obtain⟨t,rfl⟩:=rx
    cases y with
    | non=>cases ry;exact PySem.EqNone.ne_str_none (Af I q (by simp))
    | bl j=>cases ry;exact PySem.EqMixed.ne_str_bool (Af I q (by simp))
    | int j=>obtain⟨t',rfl⟩:=ry;exact PySem.EqMixed.ne_str_int (Af I q (by simp))
    | str j=>obtain⟨t',rfl⟩:=ry;exact ne_str (Af I q (congrArg not LL))
    | _=>exact absurd (show false=true from hs) Bool.false_ne_true
  | byt i=>
    obtain⟨t,rfl⟩:=rx
    cases y with
    | byt j=>obtain⟨t',rfl⟩:=ry;exact PySem.W.ne_bytes (Af I q (congrArg not LN))
    | _=>exact absurd (show false=true from hs) Bool.false_ne_true
  | _=>cases y <;> exact absurd (show false=true from hs) Bool.false_ne_true
theorem Es:OpR X (compareOp .Lt) (rI0 λ i j=>.bl (decide (i < j))):=M8 λ _ _ _ _ _ _ _ q=>lt_int q
theorem V0:OpR X (compareOp .LtE) (rI0 λ i j=>.bl (decide (i <= j))):=M8 λ _ _ _ _ _ _ _ q=>le_int q
theorem M7:OpR X (compareOp .Gt) (rI0 λ i j=>.bl (decide (j < i))):=M8 λ _ _ _ _ _ _ _ q=>gt_int q
theorem Po:OpR X (compareOp .GtE) (rI0 λ i j=>.bl (decide (j <= i))):=M8 λ _ _ _ _ _ _ _ q=>ge_int q
theorem OpR.or{f:Value->Value->Sem Value}{r r':R2}(h:OpR X f r)(h':OpR X f r'):OpR X f (λ x y H Q=>r x y H Q ∨ r' x y H Q):=by
  intro pins s σ H x y v u Q I rx ry q
  rcases q with q|q
  . exact h pins s σ H x y v u Q I rx ry q
  . exact h' pins s σ H x y v u Q I rx ry q
theorem FK(b:Expr){op:CmpOp}(h:op ≠ .In:=by decide)(h2:op ≠ .NotIn:=by decide):behindInMarks op b=false:=by
  have e1:(op == CmpOp.In)=false:=by cases op <;> first|rfl|exact absurd rfl h
  have e2:(op == CmpOp.NotIn)=false:=by cases op <;> first|rfl|exact absurd rfl h2
  cases b <;> simp[behindInMarks,e1,e2]
theorem L9{op:CmpOp}{r:R2}(ho:OpR X (compareOp op) r)(ha:PE X a ta)(hb:PE X b tb)(hm:behindInMarks op b=false):PE X (.Compare a [op] [b] pos) (tOp r ta tb):=by
  intro pins s σ H Q I h
  exact wpAny_Compare1 (PR ha hb I h λ v u s2 x y H2 I2 rx ry q=>ho pins s2 σ H2 x y v u Q I2 rx ry q) hm
noncomputable def Em(t:TE):TT:=λ σ H Q=>t σ H λ x H'=>∃ k,x=.bl k/\Q k H'
theorem Gb{op:CmpOp}{r:R2}(ho:OpR X (compareOp op) r)(ha:PE X a ta)(hb:PE X b tb)(hm:behindInMarks op b=false):PT X (.Compare a [op] [b] pos) (Em (tOp r ta tb)):=by
  intro pins s σ H Q I h
  refine wpAny_isTrue_Compare1 (thn (ha pins s σ H _ I h) λ v s1 ⟨x,H1,I1,r1,q1⟩=>thn (hb pins s1 σ H1 _ I1 q1) λ u s2 ⟨y,H2,I2,r2,q2⟩=>
    thn (ho pins s2 σ H2 x y v u _ I2 r1 r2 q2) λ c s3 ⟨z,H3,I3,r3,k,e,q3⟩=>?_) hm
  subst e
  cases r3
  exact wpAny_truthy_bool ⟨H3,I3,q3⟩
noncomputable def Jd(r r':R2)(ta tb tc:TE):TE:=λ σ H Q=>ta σ H λ x H1=>tb σ H1 λ y H2=>r x y H2 λ z H3=>∃ k,z=.bl k /\
  (if k=true then tc σ H3 λ w' H4=>r' y w' H4 Q else Q (.bl false) H3)
theorem Op{op op':CmpOp}{r r':R2}(ho:OpR X (compareOp op) r)(ho':OpR X (compareOp op') r')(ha:PE X a ta)(hb:PE X b tb)(hc:PE X c tc)
    (hm:lastMarks [op,op'] [b,c]=false:=by with_unfolding_all rfl):PT X (.Compare a [op,op'] [b,c] pos) (Em (Jd r r' ta tb tc)):=by
  intro pins s σ H Q I h
  refine isTrue_chain (thn (ha pins s σ H _ I h) λ v s1 ⟨x,H1,I1,r1,q1⟩=>test_link (thn (hb pins s1 σ H1 _ I1 q1) λ u s2 ⟨y,H2,I2,r2,q2⟩=>
    thn (ho pins s2 σ H2 x y v u _ I2 r1 r2 q2) λ d s3 ⟨z,H3,I3,r3,k,e,q3⟩=>?_)) hm
  subst e
  cases r3
  refine wpAny_truthy_bool ?_
  cases k with
  | false=>
    obtain⟨k',e',q'⟩:=q3
    cases e'
    exact ite_ff ⟨H3,I3,q'⟩
  | true=>
    refine ite_tt (test_last (thn (hc pins s3 σ H3 _ I3 q3) λ w' s4 ⟨z',H4,I4,r4,q4⟩=>thn (ho' pins s4 σ H4 y z' u w' _ I4 r2 r4 q4) λ d' s5 ⟨z2,H5,I5,r5,k2,e2,q5⟩=>?_))
    subst e2
    cases r5
    exact wpAny_truthy_bool ⟨H5,I5,q5⟩
noncomputable def Kd(K:PySem.W.Frag)(x:V)(H:Hp)(k:Bool):Prop:=
  match x with
  | .non=>k=false
  | .bl b=>k=b
  | .int i=>k=(i != 0)
  | .str y=>y.length <= sizeLine/\k=((y.length:Int) != 0)
  | .byt y=>y.size <= sizeLine/\k=((y.size:Int) != 0)
  | .ref p=>(∃ xs,SqL K H p xs/\k=!xs.isEmpty) ∨ (∃ xs,SqT K H p xs/\k=!xs.isEmpty) ∨ ∃ kvs,H p=some (.dK kvs)/\k=!kvs.isEmpty
  | _=>False
theorem MF{κ:Type}{kvs:List (κ × V)}{vs:List (κ × Value)}(r:KV kvs vs):(!vs.isEmpty)=!kvs.isEmpty:=by
  cases r <;> rfl
theorem IH{xs:List V}{its:List Value}(r:Vals xs its):(!its.toArray.isEmpty)=!xs.isEmpty:=by
  cases r <;> simp
theorem FN:(sizeLine:Nat) < 2 ^ 63:=by rw[sizeLine_eq];decide
theorem SR:Vj X (λ x H Q=>∃ k,Kd X.K x H k/\Q k H):=by
  intro pins s σ H x v Q I rx h
  obtain⟨k,e,q⟩:=h
  have hl:=FN
  have hs:sizeLine=16777216:=sizeLine_eq
  cases x with
  | non=>
    cases rx
    have e':k=false:=e
    subst e'
    exact truthy_none ⟨H,I,q⟩
  | bl b=>
    cases rx
    have e':k=b:=e
    subst e'
    exact wpAny_truthy_bool ⟨H,I,q⟩
  | int i=>
    obtain⟨t,rfl⟩:=rx
    have e':k=(i != 0):=e
    subst e'
    exact PySem.P.truthy_int ⟨H,I,q⟩
  | str y=>
    obtain⟨t,rfl⟩:=rx
    obtain⟨hy,e'⟩:y.length <= sizeLine/\k=((y.length:Int) != 0):=e
    subst e'
    exact PySem.P.truthy_str (by omega) ⟨H,I.tok _,q⟩
  | byt y=>
    obtain⟨t,rfl⟩:=rx
    obtain⟨hy,e'⟩:y.size <= sizeLine/\k=((y.size:Int) != 0):=e
    subst e'
    exact PySem.W.truthy_bytes (by omega) ⟨H,I.tok _,q⟩
  | ref p=>
    cases rx
    have e':(∃ xs,SqL X.K H p xs/\k=!xs.isEmpty) ∨ (∃ xs,SqT X.K H p xs/\k=!xs.isEmpty) ∨ ∃ kvs,H p=some (.dK kvs)/\k=!kvs.isEmpty:=e
    rcases e' with⟨xs,hx,e'⟩|⟨xs,hx,e'⟩|⟨kvs,hx,e'⟩
    . subst e'
      obtain⟨its,r,pl,hz⟩:=I.list hx
      have hlen:=r.length
      exact wpAny_truthy_list pl.isList (by simp only[List.size_toArray];omega) ⟨H,I.tok _,by rw[IH r];exact q⟩
    . subst e'
      obtain⟨its,r,pl,hz⟩:=I.tuple hx
      have hlen:=r.length
      exact truthy_tuple pl (by simp only[List.size_toArray];omega) ⟨H,I.tok _,by rw[IH r];exact q⟩
    . subst e'
      obtain⟨hz,hS,vs,r,m⟩:kvs.length <= sizeLine/\(p == sysModules)=false/\∃ vs,KV kvs vs/\s.heap.DictOf (Ie X.prog X.w) p vs:=I.hok p _ hx
      have hlen:kvs.length=vs.length:=Paired.length r
      exact wpAny_truthy_dict hS m (by omega) ⟨H,I.tok _,by rw[MF r];exact q⟩
  | _=>exact(show False from e).elim
theorem Oo(ha:PE X a ta)(he:∀ whole,isTrue a X.env whole=(do let v <- whole;standAt a.pos;holding [v] (truthy v))) :
    PT X a (λ σ H Q=>ta σ H λ x H'=>∃ k,Kd X.K x H' k/\Q k H'):=by
  intro pins s σ H Q I h
  exact isTrue_plain (thn (ha pins s σ H _ I h) λ v s1 ⟨x,H1,I1,r1,q1⟩=>SR pins s1 σ H1 x v Q I1 r1 q1) (he _)
theorem Cf{x:V}{us:List Value}(r:Vals [x] us):∃ u,us=[u]/\RelV x u:=by
  cases r with
  | cons r1 r2=>cases r2;exact⟨_,rfl,r1⟩
theorem Pa{x y:V}{us:List Value}(r:Vals [x,y] us):∃ u w',us=[u,w']/\RelV x u/\RelV y w':=by
  cases r with
  | cons r1 r2=>
    cases r2 with
    | cons r3 r4=>cases r4;exact⟨_,_,rfl,r1,r3⟩
theorem PQ:CallR X (.builtin "abs") (λ xs H Q=>∃ i,xs=[.int i]/\Q (.int (if i < 0 then -i else i)) H):=by
  intro pins s σ H xs us Q I r h
  obtain⟨i,rfl,q⟩:=h
  obtain⟨u,rfl,t,rfl⟩:=Cf r
  exact call_abs_int λ u tk=>⟨.int (if i < 0 then -i else i),H,I.tok _,⟨_,rfl⟩,q⟩
end
end L2
namespace L2
open PySem PySem.Spec PyProof.Rows
section
variable{prog:Program}{w:World}{A:Around}{E:Value->Shared->Prop}{s:Shared}{K:PySem.W.Frag}{x dx C f:Addr}{mA:Str->Option Value}{name:Str}{v:Value}
end
section
variable{P:Program}{w:World}{H H':Hp}{h h':Heap}{a C dx:Addr}{fs fs':List (Str × V)}
end
section
variable{X:Cx}{pins:List (Addr × Obj)}{σ:St}{H:Hp}{s:Shared}{a C dx:Addr}{fs:List (Str × V)}{f:Str}{v:V}{A:Around}{E:Value->Shared->Prop}
end
section
variable{X:Cx}{o e value:Expr}{f:Str}{pos pos' tpos:Pos}{ta tv:TE}
end
section
variable{X:Cx}{pins:List (Addr × Obj)}{σ:St}{H:Hp}{s:Shared}{A:Around}{E:Value->Shared->Prop}{Q:Value->Shared->Prop}{c:Value}{b:Bool}
end
end L2
namespace L2
open PySem PySem.Spec PyProof.Rows
structure Room(k:Nat)(A:Around):Prop where
  hd:A.handled=none
  dp:A.depth + 3 * k + 5 < recursionLimit
  un:A.units + 16 * k + 200 < cLine
  gd:A.guards=some []
theorem Room.mono{j k:Nat}{A:Around}(r:Room k A)(h:j <= k):Room j A:=⟨r.hd,by have:=r.dp;omega,by have:=r.un;omega,r.gd⟩
theorem Room.deeper{k:Nat}{A:Around}(r:Room (k + 1) A)(env:Env):Room k (A.deeper env):=
  ⟨r.hd,by have:=r.dp;show A.depth + 1 + 3 * k + 5 < _;omega,by have:=r.un;show A.units + 3 + 16 * k + 200 < _;omega,by first|exact r.gd|(simpa [Around.deeper,Around.under,Code.guards,Code.isGuard,pushGuards]using r.gd)⟩
theorem Room.depth{k:Nat}{A:Around}(r:Room k A):A.depth < recursionLimit:=by have:=r.dp;omega
theorem Room.units{k:Nat}{A:Around}(r:Room k A):A.units + 64 < cLine:=by have:=r.un;omega
noncomputable def CT:TA:=λ _ H Q=>Q [] H
noncomputable def C1(ta:TE)(tr:TA):TA:=λ σ H Q=>ta σ H λ x H1=>tr σ H1 λ xs H2=>Q (x :: xs) H2
section
variable{X:Cx}{e:Expr}{es:List Expr}{te:TE}{t:TA}{pos:Pos}
theorem DQ:PA X [] CT:=λ _ _ _ _ H Q I h=>Calls.spliced_nil ⟨[],H,I,.nil,h⟩
theorem Ci(ha:PE X e te)(hr:PA X es t)(hs:starEach (e :: es) X.env=(false,eval e X.env) :: starEach es X.env:=by rfl):PA X (e :: es) (C1 te t):=by
  intro pos pins s σ H Q I h
  rw[hs]
  show wpAny _ _ (spliced ((false,eval e X.env) :: backTo pos (starEach es X.env))) _ _ s
  refine Calls.spliced_cons (thn (ha pins s σ H _ I h) λ u s1 ⟨x,H1,I1,r1,q1⟩=>?_)
  exact thn (hr pos pins s1 σ H1 _ I1 q1) λ us s2 ⟨xs,H2,I2,r2,q2⟩=>⟨x :: xs,H2,I2,.cons r1 r2,q2⟩
noncomputable def O8(t:TA):TE:=λ σ H Q=>t σ H λ xs H1=>xs.length <= sizeLine/\∀ p,H1 p=none->Q (.ref p) (upd H1 p (.tup xs))
noncomputable def OE(t:TA):TE:=λ σ H Q=>t σ H λ xs H1=>xs.length <= sizeLine/\∀ p,H1 p=none->Q (.ref p) (upd H1 p (.lst xs))
theorem Tc{x1}(h:PA X es t):PE X (.Tuple es x1 pos) (O8 t):=by
  intro pins s σ H Q I hq
  refine wpAny_Tuple_spliced (thn (h pos pins s σ H _ I hq) λ us s1 ⟨xs,H1,I1,r,z,q⟩=>⟨by rw[<- r.length];exact z,?_⟩)
  have hf:H1 s1.heap.objs.size=none:=I1.hok.fresh (Nat.le_refl _)
  refine⟨.ref s1.heap.objs.size,upd H1 s1.heap.objs.size (.tup xs),I1.laid (t':=s1.toks) (λ b u e=>Heap.get?_push_of_some _ e) (Nat.le_refl _) ?_,rfl,q _ hf⟩
  exact⟨z,us,r,⟨_,Heap.get?_push_size _ rfl,rfl,⟨_,rfl⟩,rfl⟩⟩
theorem Tg(h:PA X es t):PE X (.List es pos) (OE t):=by
  intro pins s σ H Q I hq
  refine wpAny_List_spliced (thn (h pos pins s σ H _ I hq) λ us s1 ⟨xs,H1,I1,r,z,q⟩=>⟨by rw[<- r.length];exact z,?_⟩)
  have hf:H1 s1.heap.objs.size=none:=I1.hok.fresh (Nat.le_refl _)
  refine⟨.ref s1.heap.objs.size,upd H1 s1.heap.objs.size (.lst xs),I1.laid (t':=s1.toks) (λ b u e=>Heap.get?_push_of_some _ e) (Nat.le_refl _) ?_,rfl,q _ hf⟩
  exact⟨z,us,0,r,Heap.get?_push_size _ rfl⟩
end
noncomputable abbrev Sp:=List V->Hp->VK->XK->Prop
noncomputable abbrev CXT:=List Env->Hp->Shared->XK->Value->Shared->Prop
structure Env0(P:Program)(w:World)(K:PySem.W.Frag)(mg:Str->Option Value)(base:Heap)(A:Around)(outer:List Env)(s:Shared)(H:Hp):Prop where
  frames:A.frames=some outer
  mod:Mod K mg base
  bs:∀ b o,base.get? b=some o->s.heap.get? b=some o/\H b=none
  bsz:base.objs.size <= s.heap.objs.size
  funs:s.heap.FunFrames base outer
  frf:∀ b ∈ frs outer,H b=none
  hok:HOk P w H s.heap
  bare:AllBare s.gens
noncomputable def CE(outer:List Env)(P:Program)(w:World)(H:Hp)(s:Shared)(Q:VK)(u:Value)(s':Shared):Prop:=
  ∃ v H',s'.os=s.os/\AllBare s'.gens/\Un (frs outer) [] H H' s.heap s'.heap/\HOk P w H' s'.heap/\RelV v u/\Q v H'
noncomputable def CR(CX:CXT)(outer:List Env)(P:Program)(w:World)(H:Hp)(s:Shared)(Q:VK)(E:XK)(r:Result)(s':Shared):Prop:=
  match r with
  | .ok (.ret u)=>CE outer P w H s Q u s'
  | .ok _=>False
  | .error e=>CX outer H s E e s'
structure FnOk(P:Program)(w:World)(K:PySem.W.Frag)(mg:Str->Option Value)(base:Heap)(CX:CXT)(k:Nat)(f:Addr)(fd:FuncData)(ps:List Str)(sp:Sp):Prop where
  len:∀ vs H Q E,sp vs H Q E->vs.length=ps.length
  run:∀ (A:Around) (outer:List Env) (s:Shared) (H:Hp) (args:Args) (us:List Value) (vs:List V) (Q:VK) (E:XK),Room k A->Env0 P w K mg base A outer s H->BindsTo s fd args (ps.zip us)->Vals vs us->sp vs H Q E ->
    codeAny (model P w) A (.call (.ref f) args) (CR CX outer P w H s Q E) s
theorem FnOk.mono{P:Program}{w:World}{K:PySem.W.Frag}{mg:Str->Option Value}{base:Heap}{CX:CXT}{j k:Nat}{f:Addr}{fd:FuncData}{ps:List Str}{sp:Sp}(F:FnOk P w K mg base CX j f fd ps sp)(h:j <= k) :
    FnOk P w K mg base CX k f fd ps sp:=⟨F.len,λ A outer s H args us vs Q E hr=>F.run A outer s H args us vs Q E (hr.mono h)⟩
section
variable{X:Cx}{pins:List (Addr × Obj)}{σ:St}{H:Hp}{s s':Shared}
theorem Inv.env0(I:Inv X pins σ H s):Env0 X.prog X.w X.K X.mg X.base X.A X.stack s H:=
  ⟨I.ok.frames,I.ok.mod,I.bs,Nat.le_trans I.ok.bsz I.sz,I.stack,I.stkFree,I.hok,I.bare⟩
theorem Inv.after{Q:VK}{u:Value}(I:Inv X pins σ H s)(h:CE X.stack X.prog X.w H s Q u s'):EP X pins σ Q u s':=by
  obtain⟨v,H',os,bare,un,hok,r,q⟩:=h
  obtain⟨hh,g,d,t,os'⟩:=s'
  obtain rfl:os'=s.os:=os
  exact⟨v,H',I.call (h':=hh) (g':=g) (d':=d) (t':=t) (ch:=[]) un hok bare (λ b z=>absurd z (by simp)),r,q⟩
end
noncomputable def En(sp:Sp)(dvs:List V)(E:XK)(t:TA):TE:=λ σ H Q=>t σ H λ vs H1=>sp (vs ++ dvs) H1 Q E
noncomputable def Binds(K:PySem.W.Frag)(fd:FuncData)(ps:List Str)(ds:List Value):Prop:=
  ∀ (s:Shared) (us:List Value),K.In s.heap->(us ++ ds).length=ps.length->BindsTo s fd ⟨us,[]⟩ (ps.zip (us ++ ds))
theorem Binds.all{K:PySem.W.Frag}{fd:FuncData}{ps:List Str}(h:∀ us:List Value,us.length=ps.length->bindArgs fd ⟨us,[]⟩=pure (ps.zip us)):Binds K fd ps []:=λ s us _ hl=>by
  rw[List.append_nil]at hl ⊢
  exact .of_eq (h us hl)
noncomputable def Kf(CX:CXT)(X:Cx)(E:XK):Prop:=∀ (pins:List (Addr × Obj)) (σ:St) (H:Hp) (s:Shared) (e:Value) (s':Shared),Inv X pins σ H s->CX X.stack H s E e s'->X.xe e s'
section
variable{X:Cx}{CX:CXT}{k:Nat}{f C:Addr}{fd:FuncData}{ps:List Str}{sp:Sp}{dvs:List V}{ds:List Value}{E:XK}{x m:Str}{p pos apos:Pos}{e o:Expr}{es:List Expr}{ta:TE}{t:TA}
theorem SZ{pins:List (Addr × Obj)}{σ:St}{H:Hp}{s:Shared}{Q:VK}{us:List Value}{vs:List V}(F:FnOk X.prog X.w X.K X.mg X.base CX k f fd ps sp)(hr:Room k X.A)(hb:Binds X.K fd ps ds)(hd:Vals dvs ds)(hx:Kf CX X E)
    (I:Inv X pins σ H s) (r:Vals vs us) (h:sp (vs ++ dvs) H Q E):wpAny (model X.prog X.w) X.A (call (.ref f) us) (EP X pins σ Q) X.xe s:=by
  have r2:Vals (vs ++ dvs) (us ++ ds):=r.append hd
  have hl:(us ++ ds).length=ps.length:=by rw[<- r2.length];exact F.len _ _ _ _ h
  refine wpAny_call (codeAny_mono (F.run X.A X.stack s H ⟨us,[]⟩ (us ++ ds) (vs ++ dvs) Q E hr I.env0 (hb s us I.kIn hl) r2 h) λ r s' hq=>?_)
  cases r with
  | error e=>exact hx pins σ H s e s' I hq
  | ok fl=>
    cases fl with
    | ret u=>exact I.after hq
    | next=>exact False.elim hq
    | brk=>exact False.elim hq
    | cont=>exact False.elim hq
theorem Re(F:FnOk X.prog X.w X.K X.mg X.base CX k f fd ps sp)(hr:Room k X.A)(hg:Gl X x)(hm:X.mg x=some (.ref f))(hk:PySem.W.keepIn X.K (.ref f)=true)(hb:Binds X.K fd ps ds)(hd:Vals dvs ds)(hx:Kf CX X E)
    (ha:PA X (e :: es) t) (hdb:(x == ("__debug__":Str))=false:=by decide) (he:starEach (e :: es) X.env=(false,eval e X.env) :: starEach es X.env:=by rfl) (hpl:(backTo pos (starEach es X.env)).any (·.1)=false:=by rfl) :
    PE X (.Call (.Name x p) (e :: es) [] pos) (En sp dvs E t):=by
  intro pins s σ H Q I h
  refine wpAny_Call_Name_kw (Rr I hg hm ?_ hdb)
  refine PySem.W.callWith_K (h₀:=X.base) I.ok.mod.kin hk (thn (ha pos pins s σ H _ I h) λ us s1 ⟨vs,H1,I1,r,q⟩=>⟨I1.kIn,?_⟩) he hpl
  exact SZ F hr hb hd hx I1 r q
end
section
variable{X:Cx}{CX:CXT}{k:Nat}{f C:Addr}{fd:FuncData}{ps ks:List Str}{sp:Sp}{E:XK}{x m:Str}{p pos apos kpos:Pos}{e o:Expr}{es:List Expr}{kws:List Keyword}{te ta:TE}{t tk:TA}{nm:Option Str}
variable{g:List Value->List Value->List Value}{gV:List V->List V->List V}
end
structure FnScope(N P:List Str)(sc:Scope):Prop where
  kind:sc.kind=.function
  co:sc.isCoroutine=false
  gen:sc.isGenerator=false
  nd:N.Nodup
  pre:N.take P.length=P
  par:∀ x ∈ P,sc.names.lookup x=some .local ∨ sc.names.lookup x=some .cell
  nofree:∀ y ∈ sc.names,y.2 ≠ .free
theorem J8{kindOf:Str->Option NameKind}{x:Str}:∀ {binds:List (Str × Value)} {m:Str->Option Value},(∀ v,(x,v) ∉ binds)->bindL kindOf binds m x=m x
  | [],_,_=>rfl
  | (n,v) :: r,m,h=>by
    unfold bindL
    rw[J8 λ w hw=>h w (List.mem_cons_of_mem _ hw)]
    split
    . have:x ≠ n:=by rintro rfl;exact h v List.mem_cons_self
      simp[this]
    . rfl
theorem JA{kindOf:Str->Option NameKind}{x:Str}:∀ {binds:List (Str × Value)} {m:Str->Option Value},(∀ v,(x,v) ∉ binds)->bindC kindOf binds m x=m x
  | [],_,_=>rfl
  | (n,v) :: r,m,h=>by
    unfold bindC
    rw[JA λ w hw=>h w (List.mem_cons_of_mem _ hw)]
    split
    . rfl
    . have:x ≠ n:=by rintro rfl;exact h v List.mem_cons_self
      simp[this]
theorem J9{kindOf:Str->Option NameKind}{x:Str}{v:Value}:∀ {P:List Str} {vs:List Value} {i:Nat} {m:Str->Option Value},P.Nodup->P[i]? = some x->vs[i]? = some v->kindOf x=some .local ->
    bindL kindOf (P.zip vs) m x=some v
  | [],_,_,_,_,h,_,_=>by simp at h
  | _ :: _,[],_,_,_,_,h,_=>by simp at h
  | p :: P,w :: vs,0,m,nd,h1,h2,hk=>by
    simp at h1 h2;subst h1;subst h2
    show bindL kindOf ((p,w) :: P.zip vs) m p=_
    unfold bindL
    rw[J8 λ v hv=>(List.nodup_cons.mp nd).1 (List.of_mem_zip hv).1,if_pos hk]
    simp
  | p :: P,w :: vs,i + 1,m,nd,h1,h2,hk=>by
    show bindL kindOf ((p,w) :: P.zip vs) m x=_
    unfold bindL
    exact J9 (i:=i) (List.nodup_cons.mp nd).2 (by simpa using h1) (by simpa using h2) hk
theorem JB{kindOf:Str->Option NameKind}{x:Str}{v:Value}:∀ {P:List Str} {vs:List Value} {i:Nat} {m:Str->Option Value},P.Nodup->P[i]? = some x->vs[i]? = some v->kindOf x ≠ some .local ->
    bindC kindOf (P.zip vs) m x=some v
  | [],_,_,_,_,h,_,_=>by simp at h
  | _ :: _,[],_,_,_,_,h,_=>by simp at h
  | p :: P,w :: vs,0,m,nd,h1,h2,hk=>by
    simp at h1 h2;subst h1;subst h2
    show bindC kindOf ((p,w) :: P.zip vs) m p=_
    unfold bindC
    rw[JA λ v hv=>(List.nodup_cons.mp nd).1 (List.of_mem_zip hv).1,if_neg hk]
    simp
  | p :: P,w :: vs,i + 1,m,nd,h1,h2,hk=>by
    show bindC kindOf ((p,w) :: P.zip vs) m x=_
    unfold bindC
    exact JB (i:=i) (List.nodup_cons.mp nd).2 (by simpa using h1) (by simpa using h2) hk
noncomputable def Cg(N:List Str)(vs:List V):St:=vs.map some ++ List.replicate (N.length - vs.length) none
noncomputable def HY(CX:CXT)(P:Program)(w:World)(K:PySem.W.Frag)(mg:Str->Option Value)(base:Heap)(N:List Str)(qual:Str)(scope:Scope)(f:Addr)(cd:Value)(A:Around)(outer:List Env)(s:Shared)(H:Hp)(E:XK):Cx where
  prog:=P
  w:=w
  K:=K
  mg:=mg
  base:=base
  A:=A.deeper (envOfC qual scope s.heap.objs.size f cd)
  N:=N
  s₀:=s
  H₀:=H
  env:=envOfC qual scope s.heap.objs.size f cd
  outer:=outer
  stack:=envOfC qual scope s.heap.objs.size f cd :: outer
  ex:=[]
  calm:=true
  fn:=λ _=>true
  pn:=[]
  xe:=λ e s'=>wpAny (model P w) (A.deeper (envOfC qual scope s.heap.objs.size f cd)) (leaving (envOfC qual scope s.heap.objs.size f cd) e) (λ _ s''=>CX outer H s E e s'') (λ e' s''=>CX outer H s E e' s'') s'
theorem KS{sc:Scope}{n:Nat}{x:Str}(h:sc.names.lookup x=some .cell):∃ c,(cellsFrom n sc.names []).lookup x=some c:=by
  have q:=PySem.W.cellsFrom_some sc.names n [] (.inl h)
  exact Option.isSome_iff_exists.mp q
theorem NY{CX:CXT}{P:Program}{w:World}{K:PySem.W.Frag}{mg:Str->Option Value}{base:Heap}{N ps:List Str}{qual:Str}{scope:Scope}{f:Addr}{cd:Value}{A:Around}{outer:List Env}{s s1:Shared}{H:Hp}{E:XK}{us:List Value}{vs:List V}
    (S:FnScope N ps scope) (hd:A.handled=none) (e0:Env0 P w K mg base A outer s H) (hl:vs.length=ps.length) (r:Vals vs us)
    (x:InCallC s s.heap.objs.size (bindL (envOfC qual scope s.heap.objs.size f cd).kindOf (ps.zip us) λ _=>none) (cellsFrom (s.heap.objs.size + 1) scope.names []) (bindC (envOfC qual scope s.heap.objs.size f cd).kindOf (ps.zip us) λ _=>none) s1) :
    Inv (HY CX P w K mg base N qual scope f cd A outer s H E) [] (Cg N vs) H s1:=by
  have hpl:ps.length <= N.length:=by have:=congrArg List.length S.pre;rw[List.length_take]at this;omega
  obtain⟨h1,tk,rfl,hk⟩:=x.done
  have noA:∀ b:Addr,b ∉ (HY CX P w K mg base N qual scope f cd A outer s H E).ex:=λ b z=>absurd (show b ∈ ([]:List Addr)from z) (by simp)
  refine⟨⟨e0.mod,S.kind,rfl,rfl,Nat.le_refl _,λ y z c h1 h2=>?_,λ y hy=>?_,λ y c _ h=>?_,λ _=>hd,Around.frames_deeper e0.frames,.inr ⟨rfl,rfl⟩,λ b z=>absurd z (noA b),e0.bs,e0.bsz,λ b _ _=>noA b,λ b z=>absurd z (noA b),e0.funs,e0.frf⟩,
    rfl,e0.bare,Un.kept hk,⟨_,x.toInCall.ns,λ i y v h1 h2 h3=>?_⟩,λ y c h=>⟨_,x.cell y c h⟩,e0.hok.fresh (Nat.le_refl _),λ y c h=>?_,λ p hp=>absurd (show p ∈ ([]:List (Addr × Obj))from hp) (by simp),e0.hok.kept hk,?_⟩
  . exact name_of_addr x.apart (PySem.mem_of_lookup h1) (PySem.mem_of_lookup h2)
  . have hy:scope.names.lookup y=some .cell ∨ scope.names.lookup y=some .free:=hy
    rcases hy with hy|hy
    . exact KS hy
    . exact absurd rfl (S.nofree _ (PySem.mem_of_lookup hy))
  . exact Nat.le_of_lt (x.above y c (PySem.mem_of_lookup h))
  . have hi:i < vs.length:=by
      unfold Cg at h2
      by_cases hi:i < vs.length
      . exact hi
      . rw[List.getElem?_append_right (by simpa using hi)]at h2
        rw[List.getElem?_replicate]at h2
        split at h2 <;> cases h2
    have ha:vs[i]? = some v:=by
      unfold Cg at h2
      rw[List.getElem?_append_left (by simpa using hi),List.getElem?_map]at h2
      cases e:vs[i]? with
      | none=>rw[e]at h2;cases h2
      | some a=>rw[e]at h2;cases h2;rfl
    obtain⟨u,hu,rv⟩:=r.get ha
    have hp:ps[i]? = some y:=by
      rw[<- S.pre,List.getElem?_take_of_lt (by omega)];exact h1
    have ndP:ps.Nodup:=by rw[<- S.pre];exact S.nd.sublist (List.take_sublist _ _)
    refine⟨u,rv,?_⟩
    rcases S.par y (List.mem_of_getElem? hp)with k|k
    . exact .inl ⟨k,J9 ndP hp hu k⟩
    . obtain⟨c,e⟩:=KS (n:=s.heap.objs.size + 1) k
      refine .inr ⟨.inl k,c,e,?_⟩
      have q:=x.cell y c e
      rw[JB ndP hp hu (by show scope.names.lookup y ≠ _;rw[k];decide)]at q
      exact q
  . exact e0.hok.fresh (Nat.le_of_lt (x.above y c (PySem.mem_of_lookup h)))
  . unfold Cg
    show _=N.length
    rw[List.length_append,List.length_map,List.length_replicate]
    omega
theorem VD{CX:CXT}{P:Program}{w:World}{K:PySem.W.Frag}{mg:Str->Option Value}{base:Heap}{k:Nat}{f:Addr}{name qual:Str}{params:Arguments}{body:List Stmt}{scope:Scope}{dV kV doc pm cdv ct oc:Value}{an od:Option Addr}
    {osl:Array (Option Value)} {N ps:List Str} {sp:Sp} (lk:K.lookup f=some ⟨oc,od,.func (PySem.W.fnOf name qual params body scope dV kV doc pm an cdv ct),osl⟩) (hcd:PySem.W.codeIn K cdv qual=true) (S:FnScope N ps scope)
    (len:∀ vs H Q E,sp vs H Q E->vs.length=ps.length)
    (hbody:∀ (A:Around) (outer:List Env) (s:Shared) (H:Hp) (vs:List V) (Q:VK) (E:XK),Room k (A.deeper (envOfC qual scope s.heap.objs.size f cdv))->sp vs H Q E ->
      ∃ t,PSs (HY CX P w K mg base N qual scope f cdv A outer s H E) body t/\t { nx:=λ _ H'=>Q .non H',rt:=Q } (Cg N vs) H) :
    FnOk P w K mg base CX (k + 1) f (PySem.W.fnOf name qual params body scope dV kV doc pm an cdv ct) ps sp:=by
  refine⟨len,λ A outer s H args us vs Q E hr e0 hb r hsp=>?_⟩
  have hl:=len _ _ _ _ hsp
  have KX:K.In s.heap:=e0.mod.kin.keeps λ b o e=>(e0.bs b o e).1
  have lim:s.heap.NoLimit:=e0.mod.nolimit.keeps λ b o e=>(e0.bs b o e).1
  have hkind:∀ y ∈ ps.zip us,scope.names.lookup y.1=some .local ∨ (scope.names.lookup y.1=some .cell/\((cellsFrom (s.heap.objs.size + 1) scope.names []).lookup y.1).isSome=true):=λ⟨n,v⟩ hy=>by
    rcases S.par n (List.of_mem_zip hy).1 with q|q
    . exact .inl q
    . exact .inr ⟨q,PySem.W.cellsFrom_some _ _ _ (.inl q)⟩
  refine codeAny_call_function hr.depth (KX _ _ lk) rfl S.co S.gen rfl (PySem.W.codeRec_of KX hcd) (hb _ _ _ _ ?_)
  refine wpAny_newFunctionEnv_cells S.kind hkind λ env he s1 x=>?_
  subst he
  refine⟨lim.keeps x.toInCall.keep,codeAny_func ?_⟩
  obtain⟨t,ht,hq⟩:=hbody A outer s H vs Q E (hr.deeper _) hsp
  have I:Inv (HY CX P w K mg base N qual scope f cdv A outer s H E) [] (Cg N vs) H s1:=NY S hr.hd e0 hl r x
  refine wpAny_mono (ht [] s1 (Cg N vs) H _ I hq) (λ fl s' hs=>?_) λ e s' hs=>hs
  have fin:∀ {σ':St} {H':Hp} {v:V} {u:Value},Inv (HY CX P w K mg base N qual scope f cdv A outer s H E) [] σ' H' s'->RelV v u->Q v H'->CE outer P w H s Q u s':=
    λ {σ' H' v u} J rv q=>⟨v,H',J.os,J.bare,J.base,J.hok,rv,q⟩
  cases fl with
  | ret u=>
    obtain⟨v,σ',H',J,rv,q⟩:=hs
    exact fin J rv q
  | next=>
    obtain⟨σ',H',J,q⟩:=hs
    exact fin (v:=V.non) (u:=Value.none) J rfl q
  | brk=>
    obtain⟨_,_,_,q⟩:=hs
    exact False.elim q
  | cont=>
    obtain⟨_,_,_,q⟩:=hs
    exact False.elim q
end L2
namespace L2
open PySem PySem.Spec PyProof.Rows
section
variable{X:Cx}{x:Str}{p pos:Pos}{e:Expr}{es:List Expr}{t:TA}{id T:String}{r:List V->Hp->VK->Prop}
noncomputable def tCB(r:List V->Hp->VK->Prop)(t:TA):TE:=λ σ H Q=>t σ H λ vs H1=>r vs H1 Q
theorem EW(hc:CallR X (.builtin id) r)(hg:Gl X x)(hm:X.mg x=none)(hv:bootBuiltins x=some (.builtin id))(ha:PA X (e :: es) t)(hn:x ≠ "__name__":=by decide)(hdb:(x == ("__debug__":Str))=false:=by decide)
    (he:starEach (e :: es) X.env=(false,eval e X.env) :: starEach es X.env:=by rfl) (hpl:(backTo pos (starEach es X.env)).any (·.1)=false:=by rfl):PE X (.Call (.Name x p) (e :: es) [] pos) (tCB r t):=by
  intro pins s σ H Q I h
  refine wpAny_Call_Name_kw (GL I hg hm hv ?_ hn hdb)
  exact PyProof.Rows.callWith_builtin1 (thn (ha pos pins s σ H _ I h) λ us s1 ⟨vs,H1,I1,r1,q1⟩=>hc pins s1 σ H1 vs us Q I1 r1 q1) he hpl
theorem Ds(hc:CallR X (.type T) r)(hg:Gl X x)(hm:X.mg x=none)(hv:bootBuiltins x=some (.type T))(ha:PA X (e :: es) t)(hn:x ≠ "__name__":=by decide)(hdb:(x == ("__debug__":Str))=false:=by decide)
    (he:starEach (e :: es) X.env=(false,eval e X.env) :: starEach es X.env:=by rfl) (hpl:(backTo pos (starEach es X.env)).any (·.1)=false:=by rfl):PE X (.Call (.Name x p) (e :: es) [] pos) (tCB r t):=by
  intro pins s σ H Q I h
  refine wpAny_Call_Name_kw (GL I hg hm hv ?_ hn hdb)
  exact PyProof.Rows.callWith_type1 (thn (ha pos pins s σ H _ I h) λ us s1 ⟨vs,H1,I1,r1,q1⟩=>hc pins s1 σ H1 vs us Q I1 r1 q1) he hpl
end
end L2
namespace HT
open PySem PyProof.Rows
section
open PySem.SeqAt
open PySem.AutoSeq1 (wpAny_loadPart')
open PySem.MeetsSeq PySem.MeetsSeq2 PySem.MeetsSeq3
end
section
variable{prog:Program}{w:World}{A:Around}{E:Value->Shared->Prop}{s:Shared}
theorem cat_tup{t b:Addr}{vs ws:List Value}{Q:Value->Shared->Prop}(ht:IsTup s.heap t vs.toArray)(hb:IsTup s.heap b ws.toArray)(hv:vs ≠ [])
    (h1:ws=[]->Q (.ref t) s) (h2:ws ≠ []->Q (.ref s.heap.objs.size) { s with heap:=s.heap.push { cls:=.type "tuple",data:=.seq (vs ++ ws).toArray } })
    (hsz:vs.length + ws.length <= sizeLine):wpAny (model prog w) A (binaryOp .Add (.ref t) (.ref b)) Q E s:=by
  obtain⟨⟨cls,dd,data,sl⟩,ho,hc,n,hd⟩:=id ht
  obtain⟨⟨cls2,dd2,data2,sl2⟩,ho2,hc2,n2,hd2⟩:=id hb
  simp only at hc hd hc2 hd2
  subst hc hd hc2 hd2
  have e:vs.toArray ++ ws.toArray=(vs ++ ws).toArray:=by simp
  by_cases hw:ws=[]
  . exact concat_meets ⟨_,ho,rfl⟩ ⟨_,ho2,rfl⟩ noFill_tuple_add seq_tuple_add PySem.F.slot_tuple_add PySem.F.entry_tuple_add (PySem.F.args_tuple_add_2 _ _)
      (tuple_addW1 t b vs.toArray ws.toArray n n2 dd dd2 sl sl2 (by simpa using hv) (by simp[hw])) ⟨ho,ho2,h1 hw⟩
  . refine concat_meets ⟨_,ho,rfl⟩ ⟨_,ho2,rfl⟩ noFill_tuple_add seq_tuple_add PySem.F.slot_tuple_add PySem.F.entry_tuple_add (PySem.F.args_tuple_add_2 _ _)
      (tuple_addW2 t b vs.toArray ws.toArray n n2 dd dd2 sl sl2 (by simpa using hv) (by simpa using hw) (by rw[List.size_toArray,List.size_toArray];exact hsz)) ⟨ho,ho2,?_⟩
    rw[e]
    exact h2 hw
noncomputable def sIx(n d:Nat):Option Int->Nat
  | none=>d
  | some v=>if v < 0 then(v + (n:Int)).toNat else min v.toNat n
theorem sIx_none(n d:Nat):sIx n d none=d:=rfl
theorem sIx_nat(n d k:Nat):sIx n d (some (k:Int))=min k n:=by
  show(if(k:Int) < 0 then((k:Int) + (n:Int)).toNat else min (k:Int).toNat n)=min k n
  rw[if_neg (by omega),Int.toNat_natCast]
theorem SY(n d:Nat)(hd:d <= n)(o:Option Int):sIx n d o <= n:=by
  cases o with
  | none=>exact hd
  | some v=>
    show(if v < 0 then(v + (n:Int)).toNat else min v.toNat n) <= n
    by_cases hv:v < 0
    . rw[if_pos hv];omega
    . rw[if_neg hv];exact Nat.min_le_right _ _
theorem LP(v:Int)(n d:Nat):(if v < 0 then max (v + (n:Int)) 0 else min v (n:Int))=((sIx n d (some v):Nat):Int):=by
  show(if v < 0 then max (v + (n:Int)) 0 else min v (n:Int))=(((if v < 0 then(v + (n:Int)).toNat else min v.toNat n):Nat):Int)
  by_cases hv:v < 0
  . simp only[if_pos hv];omega
  . simp only[if_neg hv];omega
theorem Mb(lo hi:Option Int)(n:Nat):Builtin.Slice.sliceAdjust lo hi 1 (n:Int)=(((sIx n 0 lo:Nat):Int),((sIx n n hi:Nat):Int)):=by
  have h1:¬ ((1:Int) < 0):=by omega
  unfold Builtin.Slice.sliceAdjust
  simp only[h1,if_false]
  refine Prod.ext ?_ ?_
  . cases lo with
    | none=>rfl
    | some v=>exact LP v n 0
  . cases hi with
    | none=>rfl
    | some v=>exact LP v n n
theorem M2(i j:Nat):Builtin.Slice.slicePlaces (i:Int) (j:Int) 1=j - i:=by
  unfold Builtin.Slice.slicePlaces
  have h1:(1:Int) > 0:=by omega
  simp only[h1,if_true,Int.ediv_one]
  split <;> omega
theorem Ho{v:Value}{o:Option Int}{Q:Option Int->Shared->Prop}(p:IsPart v o)(h:Q o s):wpAny (model prog w) A (Builtin.Slice.slicePartIndex v) Q E s:=by
  cases p with
  | none=>exact slicePart_none h
  | int i t=>exact slicePart_int h
theorem HB{sl:Addr}{vl vu:Value}{lo hi:Option Int}{n:Nat}{Q:Int × Int × Nat->Shared->Prop}(hs:s.heap.IsSliceOf sl vl vu .none)(pl:IsPart vl lo)(pu:IsPart vu hi)
    (h:Q (((sIx n 0 lo:Nat):Int),1,sIx n n hi - sIx n 0 lo) s):wpAny (model prog w) A (Builtin.Slice.sliceApplied (.ref sl) (pure (n:Int))) Q E s:=by
  obtain⟨os,hos,hcs,hds⟩:=id hs
  unfold Builtin.Slice.sliceApplied Builtin.Slice.sliceFields
  refine wpAny_bind (wpAny_bind (wpAny_field hos hds (x:=vl) rfl (wpAny_bind (wpAny_field hos hds (x:=vu) rfl (wpAny_bind (wpAny_field hos hds (x:=.none) rfl (wpAny_pure ?_)))))))
  refine wpAny_bind (slicePart_none ?_)
  show wpAny _ _ (if((1:Int) == 0)=true then _ else _) _ _ s
  rw[if_neg (by decide)]
  refine wpAny_bind (Ho pl (wpAny_bind (Ho pu (wpAny_bind (wpAny_pure ?_)))))
  show wpAny _ _ (match Builtin.Slice.sliceAdjust lo hi 1 (n:Int)with|(lo,hi)=>pure (lo,(1:Int),Builtin.Slice.slicePlaces lo hi 1)) _ _ s
  rw[Mb lo hi n]
  show wpAny _ _ (pure (((sIx n 0 lo:Nat):Int),(1:Int),Builtin.Slice.slicePlaces ((sIx n 0 lo:Nat):Int) ((sIx n n hi:Nat):Int) 1)) _ _ s
  rw[M2]
  exact wpAny_pure h
theorem Ov(xs:Array Value)(i k:Nat):((List.range k).filterMap λ(m:Nat)=>xs[((i:Int) + (m:Int) * 1).toNat]?).toArray=((xs.toList.drop i).take k).toArray:=by
  have e:(λ(m:Nat)=>xs[((i:Int) + (m:Int) * 1).toNat]?)=λ m=>xs[i + m]? := by
    funext m
    have:((i:Int) + (m:Int) * 1).toNat=i + m:=by omega
    rw[this]
  rw[e]
  have:=pick_run xs i k
  rw[List.filterMap_map]at this
  have e2:((λ x=>xs[x]?) ∘ λ x=>i + x)=λ m=>xs[i + m]? := rfl
  rw[e2]at this
  rw[this]
theorem getItem_tuple_cut{t sl:Addr}{items:Array Value}{vl vu:Value}{lo hi:Option Int}{Q:Value->Shared->Prop}(ht:IsTup s.heap t items)(hs:s.heap.IsSliceOf sl vl vu .none)(pl:IsPart vl lo)(pu:IsPart vu hi)
    (hw:¬ (sIx items.size 0 lo=0/\sIx items.size items.size hi=items.size))
    (h:Q (.ref s.heap.objs.size) { s with heap:=s.heap.push { cls:=.type "tuple",data:=.seq ((items.toList.drop (sIx items.size 0 lo)).take (sIx items.size items.size hi - sIx items.size 0 lo)).toArray } })
    (hsz:items.size <= sizeLine):wpAny (model prog w) A (getItem (.ref t) (.ref sl)) Q E s:=by
  have htake:sizeOk (.seq ((items.toList.drop (sIx items.size 0 lo)).take (sIx items.size items.size hi - sIx items.size 0 lo)).toArray):=by
    show((items.toList.drop (sIx items.size 0 lo)).take (sIx items.size items.size hi - sIx items.size 0 lo)).toArray.size <= sizeLine
    rw[List.size_toArray,List.length_take,List.length_drop,Array.length_toList]
    omega
  have hj:sIx items.size items.size hi <= items.size:=SY _ _ (Nat.le_refl _) hi
  obtain⟨os,hos,hcs,hds⟩:=id hs
  have hTs:s.TypeIs (.ref sl) "slice":=⟨os,hos,hcs⟩
  unfold getItem
  try with_reducible refine wpAny_holding ?_
  first|refine wpAny_bind (wpAny_pure ?_)|skip
  refine wpAny_bind (wpAny_sequenceKey ht.typeIs (by decide) ?_)
  refine wpAny_bind (wpAny_callSpecial?_slot (name:=Str.ofString "__getitem__") ht.typeIs PyProof.Rows.slot_tuple_getitem
    (wpAny_call_entry PyProof.Rows.slot_tuple_getitem ht.typeIs entry_tuple_getitem ?_ (args_tuple_getitem _ _)))
  show wpAny _ _ (Builtin.Tuple.tupleItemsOf (.ref t) >>= _) _ _ s
  refine wpAny_bind (tupleItemsOf_ ht ?_)
  refine wpAny_bind (wpAny_typeOf hTs ?_)
  rw[if_pos (by decide)]
  refine wpAny_bind (HB hs pl pu ?_)
  have hno:¬ ((((sIx items.size 0 lo:Nat):Int) == 0 && (1:Int) == 1 && (sIx items.size items.size hi - sIx items.size 0 lo) == items.size)=true):=by
    intro q
    rw[Bool.and_eq_true,Bool.and_eq_true]at q
    have q1:((sIx items.size 0 lo:Nat):Int)=0:=eq_of_beq q.1.1
    have q2:sIx items.size items.size hi - sIx items.size 0 lo=items.size:=eq_of_beq q.2
    exact hw ⟨by omega,by omega⟩
  show wpAny _ _ (if(((sIx items.size 0 lo:Nat):Int) == 0 && (1:Int) == 1 && (sIx items.size items.size hi - sIx items.size 0 lo) == items.size)=true then _ else _) _ _ s
  rw[if_neg hno,Ov]
  first
    | exact wpAny_bind (m:=Builtin.Tuple.tupleExact _) (wpAny_newObj_type (wpAny_pure ⟨_,rfl,wpAny_pure h⟩) htake)
    | exact wpAny_bind (m:=Builtin.Tuple.tupleExact _) (wpAny_newObj_type (wpAny_bind (wpAny_pure (wpAny_pure ⟨_,rfl,wpAny_pure h⟩))) htake)
    | exact wpAny_bind (wpAny_bind (m:=Builtin.Tuple.tupleExact _) (wpAny_newObj_type (wpAny_pure (wpAny_pure ⟨_,rfl,wpAny_pure h⟩)) htake))
    | exact wpAny_bind (wpAny_bind (m:=Builtin.Tuple.tupleExact _) (wpAny_newObj_type (wpAny_pure ⟨_,rfl,wpAny_pure h⟩) htake))
end
end HT
namespace L2
open PySem PySem.Spec PyProof.Rows
noncomputable abbrev TO:=St->Hp->(Option Int->Hp->Prop)->Prop
noncomputable def PO(X:Cx)(e:Option Expr)(t:TO):Prop:=
  ∀ (pins:List (Addr × Obj)) (s:Shared) (σ:St) (H:Hp) (Q:Option Int->Hp->Prop),Inv X pins σ H s->t σ H Q ->
    wpAny (model X.prog X.w) X.A (evalPart e X.env) (λ u s'=>∃ o H',Inv X pins σ H' s'/\IsPart u o/\Q o H') X.xe s
noncomputable def IR:TO:=λ _ H Q=>Q none H
noncomputable def Ld(t:TE):TO:=λ σ H Q=>t σ H λ x H1=>∃ i,x=.int i/\Q (some i) H1
section
variable{X:Cx}{e:Expr}{te:TE}{lo hi:Option Expr}{tl th:TO}{pos p2:Pos}
theorem RU:PO X none IR:=by
  intro pins s σ H Q I h
  rw[evalPart_none]
  exact wpAny_pure ⟨none,H,I,.none,h⟩
theorem RQ(h:PE X e te):PO X (some e) (Ld te):=by
  intro pins s σ H Q I hw
  rw[evalPart_some]
  refine thn (h pins s σ H _ I hw) λ u s1 ⟨x,H1,I1,r1,q1⟩=>?_
  obtain⟨i,rfl,q⟩:=q1
  obtain⟨t,rfl⟩:=r1
  exact⟨some i,H1,I1,.int i t,q⟩
noncomputable def SlR(X:Cx)(r:V->Option Int->Option Int->Hp->VK->Prop):Prop:=
  ∀ (pins:List (Addr × Obj)) (s:Shared) (σ:St) (H:Hp) (x:V) (v vl vu:Value) (lo hi:Option Int) (sl:Addr) (Q:VK),Inv X pins σ H s->RelV x v->s.heap.IsSliceOf sl vl vu .none->IsPart vl lo->IsPart vu hi->r x lo hi H Q ->
    ∃ T id,typeLookup (.type T) "__getitem__"=pure (some (.builtin id))/\s.TypeIs v T/\wpAny (model X.prog X.w) X.A (getItem v (.ref sl)) (EP X pins σ Q) X.xe s
noncomputable def tSl(r:V->Option Int->Option Int->Hp->VK->Prop)(te:TE)(tl th:TO):TE:=λ σ H Q=>te σ H λ x H1=>tl σ H1 λ l H2=>th σ H2 λ u H3=>r x l u H3 Q
theorem KB{r:V->Option Int->Option Int->Hp->VK->Prop}(hr:SlR X r)(he:PE X e te)(hl:PO X lo tl)(hu:PO X hi th):PE X (.Subscript e (.Slice lo hi none p2) pos) (tSl r te tl th):=by
  intro pins s σ H Q I h
  refine Subscript_ (thn (he pins s σ H _ I h) λ v s1 ⟨x,H1,I1,r1,q1⟩=>?_)
  refine wpAny_Slice (thn (hl pins s1 σ H1 _ I1 q1) λ vl s2 ⟨l,H2,I2,pl,q2⟩=>thn (hu pins s2 σ H2 _ I2 q2) λ vu s3 ⟨u,H3,I3,pu,q3⟩=>?_)
  rw[evalPart_none]
  refine wpAny_pure ?_
  have I4:Inv X pins σ H3 { s3 with heap:=s3.heap.push { cls:=.type "slice",data:=.fields #[vl,vu,.none] } }:=I3.kept (t':=s3.toks) λ b ob q=>Heap.get?_push_of_some _ q
  obtain⟨T,id,hT,ht,hg⟩:=hr pins { s3 with heap:=s3.heap.push { cls:=.type "slice",data:=.fields #[vl,vu,.none] } } σ H3 x v vl vu l u s3.heap.objs.size Q I4 r1 (Heap.IsSliceOf.new ..) pl pu q3
  show wpAny (model X.prog X.w) X.A (subscriptTail e (.Slice lo hi none p2) v (.ref s3.heap.objs.size)) (EP X pins σ Q) X.xe { s3 with heap:=s3.heap.push { cls:=.type "slice",data:=.fields #[vl,vu,.none] } }
  exact tail_any (ops:=[.ref s3.heap.objs.size,v]) ht hT hg (by with_unfolding_all rfl)
noncomputable def FC(xs:List V)(lo hi:Option Int):List V:=(xs.drop (HT.sIx xs.length 0 lo)).take (HT.sIx xs.length xs.length hi - HT.sIx xs.length 0 lo)
theorem Gw(xs:List V)(lo hi:Option Int):(FC xs lo hi).length <= xs.length:=by
  unfold FC
  rw[List.length_take,List.length_drop]
  omega
noncomputable def Lv(K:PySem.W.Frag):V->Option Int->Option Int->Hp->VK->Prop:=λ x lo hi H Q=>∃ a xs,x=.ref a/\SqT K H a xs /\
  ¬ (HT.sIx xs.length 0 lo=0/\HT.sIx xs.length xs.length hi=xs.length)/\∀ p,H p=none->Q (.ref p) (upd H p (.tup (FC xs lo hi)))
theorem SU:SlR X (Lv X.K):=by
  intro pins s σ H x v vl vu lo hi sl Q I rx hs pl pu h
  obtain⟨a,xs,rfl,hx,hw,q⟩:=h
  cases rx
  obtain⟨its,r,ht,hz⟩:=I.tuple hx
  have hlen:its.toArray.size=xs.length:=by rw[List.size_toArray];exact r.length.symm
  refine⟨"tuple",_,PyProof.Rows.slot_tuple_getitem.lookup,ht.typeIs,?_⟩
  refine HT.getItem_tuple_cut ht hs pl pu (by rw[hlen];exact hw) ?_ (by rw[hlen];exact hz)
  rw[hlen]
  refine⟨.ref s.heap.objs.size,_,I.laid (t':=s.toks) (o:=.tup (FC xs lo hi)) (λ b ob q=>Heap.get?_push_of_some _ q) (Nat.le_refl _) ?_,rfl,q _ (I.hok.fresh (Nat.le_refl _))⟩
  exact⟨Nat.le_trans (Gw xs lo hi) hz,_,(r.drop (HT.sIx xs.length 0 lo)).take (HT.sIx xs.length xs.length hi - HT.sIx xs.length 0 lo),IsTupD.new _ _⟩
noncomputable def Ly(K:PySem.W.Frag):R2:=λ x y H Q=>∃ a b xs ys,x=.ref a/\y=.ref b/\SqT K H a xs/\SqT K H b ys/\xs ≠ []/\xs.length + ys.length <= sizeLine /\
  (ys=[]->Q (.ref a) H)/\(ys ≠ []->∀ p,H p=none->Q (.ref p) (upd H p (.tup (xs ++ ys))))
theorem Vals.nil_iff{xs:List V}{us:List Value}(r:Vals xs us):us=[] ↔ xs=[]:=by
  cases r with
  | nil=>simp
  | cons _ _=>simp
theorem Rh:OpR X (binaryOp .Add) (Ly X.K):=by
  intro pins s σ H x y v u Q I rx ry h
  obtain⟨a,b,xs,ys,rfl,rfl,ha,hb,hx,hz,q1,q2⟩:=h
  cases rx
  cases ry
  obtain⟨its,r1,p1,_⟩:=I.tuple ha
  obtain⟨its2,r2,p2,_⟩:=I.tuple hb
  refine HT.cat_tup p1 p2 (λ z=>hx (r1.nil_iff.mp z)) (λ z=>⟨.ref a,H,I,rfl,q1 (r2.nil_iff.mp z)⟩) (λ z=>?_) (by rw[<- r1.length,<- r2.length];exact hz)
  refine⟨.ref s.heap.objs.size,_,I.laid (t':=s.toks) (o:=.tup (xs ++ ys)) (λ b ob q=>Heap.get?_push_of_some _ q) (Nat.le_refl _) ?_,rfl,q2 (λ w=>z (r2.nil_iff.mpr w)) _ (I.hok.fresh (Nat.le_refl _))⟩
  exact⟨by rw[List.length_append];exact hz,_,r1.append r2,IsTupD.new _ _⟩
end
end L2
namespace L2
open PySem PySem.Spec PyProof.Rows
noncomputable def ixN(n:Nat)(i:Int):Option Nat:=if 0 <= i then(if i < n then some i.toNat else none)else if -(n:Int) <= i then some (i + n).toNat else none
noncomputable def atI{α:Type}(xs:List α)(i:Int):Option α:=(ixN xs.length i).bind λ j=>xs[j]?
theorem Ij{n:Nat}{i:Int}{j:Nat}(h:ixN n i=some j):seqIndex? i n=some j/\j < n/\-(n:Int) <= i/\i < n:=by
  unfold ixN at h
  by_cases h0:0 <= i
  . rw[if_pos h0]at h
    by_cases h1:i < n
    . rw[if_pos h1]at h
      have e:i.toNat=j:=Option.some.inj h
      exact⟨by rw[seqIndex_of h0 h1,e],by omega,by omega,h1⟩
    . rw[if_neg h1]at h;cases h
  . rw[if_neg h0]at h
    by_cases h1:-(n:Int) <= i
    . rw[if_pos h1]at h
      have e:(i + n).toNat=j:=Option.some.inj h
      exact⟨by rw[seqIndex_neg (by omega) h1,e],by omega,h1,by omega⟩
    . rw[if_neg h1]at h;cases h
theorem LU{α:Type}{xs:List α}{i:Int}{v:α}(h:atI xs i=some v):∃ j,seqIndex? i xs.length=some j/\xs[j]? = some v/\j < xs.length/\-(xs.length:Int) <= i/\i < xs.length:=by
  unfold atI at h
  cases e:ixN xs.length i with
  | none=>rw[e]at h;cases h
  | some j=>
    rw[e]at h
    obtain⟨h1,h2,h3,h4⟩:=Ij e
    exact⟨j,h1,h,h2,h3,h4⟩
theorem DH{α:Type}{xs:List α}{j:Nat}{v:α}(h:xs[j]? = some v):atI xs (j:Int)=some v:=by
  have hj:j < xs.length:=(List.getElem?_eq_some_iff.mp h).1
  have e:ixN xs.length (j:Int)=some j:=by
    unfold ixN
    rw[if_pos (by omega),if_pos (by omega)];simp
  unfold atI;rw[e];exact h
noncomputable def Ip(b:Expr):Prop:=∀ o i,subscripted b false o i=operate [o,i] (getItem o i)
noncomputable def IxR(X:Cx)(r:R2):Prop:=
  ∀ (value slice:Expr) (pins:List (Addr × Obj)) (s:Shared) (σ:St) (H:Hp) (x y:V) (v u:Value) (Q:VK),Inv X pins σ H s->RelV x v->RelV y u->r x y H Q ->
    subscripted slice false v u=operate [v,u] (getItem v u)->wpAny (model X.prog X.w) X.A (subscriptTail value slice v u) (EP X pins σ Q) X.xe s
noncomputable def MtR(X:Cx)(id:String)(r:V->List V->Hp->VK->Prop):Prop:=
  ∀ (pins:List (Addr × Obj)) (s:Shared) (σ:St) (H:Hp) (x:V) (xs:List V) (v:Value) (us:List Value) (Q:VK),Inv X pins σ H s->RelV x v->Vals xs us->r x xs H Q ->
    wpAny (model X.prog X.w) X.A (call (.builtin id) (v :: us)) (EP X pins σ Q) X.xe s
section
variable{X:Cx}{a b:Expr}{ta tb:TE}{pos:Pos}
theorem IxR.or{r r':R2}(h:IxR X r)(h':IxR X r'):IxR X (λ x y H Q=>r x y H Q ∨ r' x y H Q):=by
  intro value slice pins s σ H x y v u Q I rx ry q hs
  rcases q with q|q
  . exact h value slice pins s σ H x y v u Q I rx ry q hs
  . exact h' value slice pins s σ H x y v u Q I rx ry q hs
theorem Pm{r:R2}(hr:IxR X r)(ha:PE X a ta)(hb:PE X b tb)(hs:Ip b):PE X (.Subscript a b pos) (tOp r ta tb):=by
  intro pins s σ H Q I h
  exact Subscript_ (PR ha hb I h λ v u s2 x y H2 I2 rx ry q=>hr a b pins s2 σ H2 x y v u Q I2 rx ry q (hs _ _))
noncomputable def Og(K:PySem.W.Frag):R2:=λ x y H Q=>∃ p xs i v,x=.ref p/\y=.int i/\SqL K H p xs/\atI xs i=some v/\Q v H
noncomputable def Of(K:PySem.W.Frag):R2:=λ x y H Q=>∃ p xs i v,x=.ref p/\y=.int i/\SqT K H p xs/\atI xs i=some v/\Q v H
theorem Rt:IxR X (Og X.K):=by
  intro value slice pins s σ H x y v u Q I rx ry h hs
  obtain⟨p,xs,i,z,rfl,rfl,hq,he,q⟩:=h
  cases rx
  obtain⟨t,rfl⟩:=ry
  obtain⟨its,r,pl,hz⟩:=I.list hq
  obtain⟨j,h1,h2,h3,h4,h5⟩:=LU he
  obtain⟨w,ew,rw'⟩:=r.get h2
  have hl:=r.length
  have hn:=FN
  have fin:EP X pins σ Q w s:=⟨z,H,I,rw',q⟩
  by_cases h0:0 <= i
  . have hj:i.toNat=j:=by
      rw[seqIndex_of h0 h5]at h1
      exact Option.some.inj h1
    exact item_listR pl.isList h0 (by omega) (by rw[hj];simpa using ew) fin hs
  . have hj:(i + (its.toArray.size:Int)).toNat=j:=by
      rw[seqIndex_neg (by omega) h4]at h1
      rw[List.size_toArray,<- hl]
      exact Option.some.inj h1
    exact subscriptTail_builtinR (x:=w) pl.isList.typeIs slot_list_getitem.lookup
      (wpAny_getItem_list_neg (Q:=λ r s'=>r=w/\EP X pins σ Q r s') pl.isList (by omega) (by rw[List.size_toArray] <;> omega) (by omega) (by rw[hj];simpa using ew) ⟨rfl,fin⟩) hs
theorem U2:IxR X (Of X.K):=by
  intro value slice pins s σ H x y v u Q I rx ry h hs
  obtain⟨p,xs,i,z,rfl,rfl,hq,he,q⟩:=h
  cases rx
  obtain⟨t,rfl⟩:=ry
  obtain⟨its,r,pl,hz⟩:=I.tuple hq
  obtain⟨j,h1,h2,h3,h4,h5⟩:=LU he
  obtain⟨w,ew,rw'⟩:=r.get h2
  have hl:=r.length
  have hn:=FN
  have fin:EP X pins σ Q w s:=⟨z,H,I,rw',q⟩
  exact subscriptTail_builtinR (x:=w) pl.typeIs slot_tuple_getitem.lookup
    (getItem_tuple (j:=j) (Q:=λ r s'=>r=w/\EP X pins σ Q r s') pl (by omega) (by omega) (by rw[List.size_toArray,<- hl];exact h1) (by simpa using ew) ⟨rfl,fin⟩) hs
theorem MB(its:List Value)(n j:Nat)(u:Value):Obj.mapSeq (·.setIfInBounds j u) { cls:=.type "list",data:=.seq its.toArray n }={ cls:=.type "list",data:=.seq (its.set j u).toArray n }:=by
  simp[Obj.mapSeq]
theorem Inv.lst{pins:List (Addr × Obj)}{σ:St}{H:Hp}{s:Shared}{p:Addr}{xs:List V}(I:Inv X pins σ H s)(h:H p=some (.lst xs)) :
    ∃ (its:List Value) (n:Nat),Vals xs its/\s.heap.get? p=some { cls:=.type "list",data:=.seq its.toArray n }/\xs.length <= sizeLine:=by
  obtain⟨z,its,n,r,e⟩:=I.hok p _ h
  exact⟨its,n,r,e,z⟩
theorem Inv.lstUpd{pins:List (Addr × Obj)}{σ:St}{H:Hp}{s:Shared}{p:Addr}{xs ys:List V}{its its':List Value}{n n':Nat}{f:Obj->Obj}(I:Inv X pins σ H s)(h:H p=some (.lst xs))
    (ho:s.heap.get? p=some { cls:=.type "list",data:=.seq its.toArray n }) (hf:f { cls:=.type "list",data:=.seq its.toArray n }={ cls:=.type "list",data:=.seq its'.toArray n' }) (r:Vals ys its') (hz:ys.length <= sizeLine) (t:Nat) :
    Inv X pins σ (upd H p (.lst ys)) { s with heap:=s.heap.update p f,toks:=t }:=by
  have e:(s.heap.update p f).get? p=some { cls:=.type "list",data:=.seq its'.toArray n' }:=by
    rw[Heap.get?_update_self f ho (by rw[hf] <;> rfl),hf]
  refine I.write (x:=p) (e:=p) (by rw[h];trivial) (.inl rfl) (λ b u hb q=>(Heap.get?_update_other _ _ (Ne.symm hb)).trans q) ⟨_,e⟩ ?_
  exact⟨hz,its',n',r,e⟩
noncomputable def Lx:V->V->V->Hp->(Hp->Prop)->Prop:=λ o i v H Q=>∃ p xs k j,o=.ref p/\i=.int k/\H p=some (.lst xs)/\ixN xs.length k=some j/\Q (upd H p (.lst (xs.set j v)))
theorem OL:UW X Lx:=by
  intro pins s σ H o i v ov iv u Q I ro ri rv h
  obtain⟨p,xs,k,j,rfl,rfl,hp,hj,q⟩:=h
  cases ro
  obtain⟨t,rfl⟩:=ri
  obtain⟨its,n,r,ho,hz⟩:=I.lst hp
  obtain⟨h1,h2,h3,h4⟩:=Ij hj
  have hl:=r.length
  have hn:=FN
  have I':Inv X pins σ (upd H p (.lst (xs.set j v))) { s with heap:=s.heap.update p (Obj.mapSeq (·.setIfInBounds j u)) }:=
    I.lstUpd hp ho (MB its n j u) (r.set rv j) (by rw[List.length_set];exact hz) s.toks
  by_cases h0:0 <= k
  . have hk:k.toNat=j:=by
      rw[seqIndex_of h0 h4]at h1
      exact Option.some.inj h1
    exact PySem.W.ki_setAt ho h0 (by omega) (by rw[List.size_toArray,<- hl];exact h4) (by rw[hk];exact⟨_,I',q⟩)
  . have hk:(k + (its.toArray.size:Int)).toNat=j:=by
      rw[seqIndex_neg (by omega) h3]at h1
      rw[List.size_toArray,<- hl]
      exact Option.some.inj h1
    exact PySem.W.ki_setBack ho (by omega) (by rw[List.size_toArray,<- hl];exact h3) (by omega) (by rw[hk];exact⟨_,I',q⟩)
theorem Jl(lo hi:Option Int)(n:Nat):(sliceBounds lo hi none n).1=((HT.sIx n 0 lo:Nat):Int)/\(sliceBounds lo hi none n).2.1=((HT.sIx n n hi:Nat):Int)/\(sliceBounds lo hi none n).2.2=1:=by
  refine⟨?_,?_,rfl⟩
  . cases lo with
    | none=>simp[sliceBounds,HT.sIx]
    | some i=>
      simp only[sliceBounds,HT.sIx,Option.getD_none,show(1:Int) > 0 by decide,if_true]
      by_cases h:i < 0
      . simp only[h,if_true] <;> omega
      . simp only[h,if_false] <;> omega
  . cases hi with
    | none=>simp[sliceBounds,HT.sIx]
    | some i=>
      simp only[sliceBounds,HT.sIx,Option.getD_none,show(1:Int) > 0 by decide,if_true]
      by_cases h:i < 0
      . simp only[h,if_true] <;> omega
      . simp only[h,if_false] <;> omega
theorem JC(its:List Value)(lo hi:Option Int):slicePick its.toArray lo hi none=((its.drop (HT.sIx its.length 0 lo)).take (HT.sIx its.length its.length hi - HT.sIx its.length 0 lo)).toArray:=by
  obtain⟨h1,h2,h3⟩:=Jl lo hi its.toArray.size
  unfold slicePick
  rw[h1,h2,h3]
  simp only[sliceRange_one,pick_run,List.size_toArray] <;> rfl
noncomputable def Lw(K:PySem.W.Frag):V->Option Int->Option Int->Hp->VK->Prop:=λ x lo hi H Q=>∃ a xs,x=.ref a/\SqL K H a xs/\∀ p,H p=none->Q (.ref p) (upd H p (.lst (FC xs lo hi)))
theorem QJ:SlR X (Lw X.K):=by
  intro pins s σ H x v vl vu lo hi sl Q I rx hs pl pu h
  obtain⟨a,xs,rfl,hx,q⟩:=h
  cases rx
  obtain⟨its,r,ht,hz⟩:=I.list hx
  have hlen:=r.length
  refine⟨"list",_,slot_list_getitem.lookup,ht.isList.typeIs,?_⟩
  refine wpAny_getItem_list_slice ht.isList hs pl pu .none (by simp) ?_ (by rw[List.size_toArray] <;> omega)
  rw[JC,<- hlen]
  refine⟨.ref s.heap.objs.size,_,I.laid (t':=s.toks) (o:=.lst (FC xs lo hi)) (λ b ob q=>Heap.get?_push_of_some _ q) (Nat.le_refl _) ?_,rfl,q _ (I.hok.fresh (Nat.le_refl _))⟩
  exact⟨Nat.le_trans (Gw xs lo hi) hz,_,0,(r.drop (HT.sIx xs.length 0 lo)).take (HT.sIx xs.length xs.length hi - HT.sIx xs.length 0 lo),Heap.get?_push_size _ rfl⟩
noncomputable def Dk:V->Bool
  | .non=>true
  | .bl _=>true
  | .int _=>true
  | .str _=>true
  | _=>false
noncomputable def eqV:V->V->Bool
  | .non,.non=>true
  | .bl a,.bl b=>a == b
  | .bl a,.int b=>(if a then 1 else 0) == b
  | .int a,.bl b=>a == (if b then 1 else 0)
  | .int a,.int b=>a == b
  | .str a,.str b=>a == b
  | _,_=>false
theorem UL{A:Around}{s:Shared}{y x:V}{u v:Value}(ry:RelV y u)(rx:RelV x v)(fy:Dk y=true)(fx:Dk x=true):SeqAt.EqAt A s u v (eqV y x):=by
  cases y with
  | non=>
    cases ry
    cases x with
    | non=>cases rx;exact SeqAt.EqAt.same _
    | bl b=>cases rx;exact SeqAt.EqAt.none_bool b
    | int b=>obtain⟨t,rfl⟩:=rx;exact SeqAt.EqAt.none_int b t
    | str b=>obtain⟨t,rfl⟩:=rx;exact SeqAt.EqAt.none_str b t
    | _=>exact absurd (show false=true from fx) Bool.false_ne_true
  | bl a=>
    cases ry
    cases x with
    | non=>cases rx;exact SeqAt.EqAt.bool_none a
    | bl b=>cases rx;exact SeqAt.EqAt.bool_bool a b
    | int b=>obtain⟨t,rfl⟩:=rx;exact SeqAt.EqAt.bool_int a b t
    | str b=>obtain⟨t,rfl⟩:=rx;exact SeqAt.EqAt.bool_str a b t
    | _=>exact absurd (show false=true from fx) Bool.false_ne_true
  | int a=>
    obtain⟨t',rfl⟩:=ry
    cases x with
    | non=>cases rx;exact SeqAt.EqAt.int_none a t'
    | bl b=>cases rx;exact SeqAt.EqAt.int_bool a t' b
    | int b=>obtain⟨t,rfl⟩:=rx;exact SeqAt.EqAt.int_int a t' b t
    | str b=>obtain⟨t,rfl⟩:=rx;exact SeqAt.EqAt.int_str a t' b t
    | _=>exact absurd (show false=true from fx) Bool.false_ne_true
  | str a=>
    obtain⟨t',rfl⟩:=ry
    cases x with
    | non=>cases rx;exact SeqAt.EqAt.str_none a t'
    | bl b=>cases rx;exact SeqAt.EqAt.str_bool a t' b
    | int b=>obtain⟨t,rfl⟩:=rx;exact SeqAt.EqAt.str_int a t' b t
    | str b=>obtain⟨t,rfl⟩:=rx;exact SeqAt.EqAt.str_str a t' b t
    | _=>exact absurd (show false=true from fx) Bool.false_ne_true
  | _=>exact absurd (show false=true from fy) Bool.false_ne_true
noncomputable def eqU(x:V)(u:Value):Bool:=match u with
  | .none=>eqV .non x
  | .bool b=>eqV (.bl b) x
  | .int i _=>eqV (.int i) x
  | .str z _=>eqV (.str z) x
  | _=>false
theorem Nj{x y:V}{u:Value}(r:RelV y u)(f:Dk y=true):eqU x u=eqV y x:=by
  cases y with
  | non=>cases r;rfl
  | bl b=>cases r;rfl
  | int i=>obtain⟨t,rfl⟩:=r;rfl
  | str z=>obtain⟨t,rfl⟩:=r;rfl
  | _=>exact absurd (show false=true from f) Bool.false_ne_true
theorem FS{x:V}:∀ {xs:List V} {us:List Value},Vals xs us->xs.all Dk=true->us.any (eqU x)=xs.any λ y=>eqV y x
  | _,_,.nil,_=>rfl
  | y :: xs,u :: us,.cons r t,f=>by
    rw[List.all_cons,Bool.and_eq_true]at f
    rw[List.any_cons,List.any_cons,Nj r f.1,FS t f.2]
theorem EX{A:Around}{s:Shared}{x:V}{v:Value}(rx:RelV x v)(fx:Dk x=true):∀ {xs:List V} {us:List Value},Vals xs us->xs.all Dk=true->∀ u ∈ us,SeqAt.EqAt A s u v (eqU x u)
  | _,_,.nil,_=>λ u hu=>by cases hu
  | y :: xs,u :: us,.cons r t,f=>λ u' hu=>by
    rw[List.all_cons,Bool.and_eq_true]at f
    rcases List.mem_cons.mp hu with rfl|hu
    . rw[Nj r f.1];exact UL r rx f.1 fx
    . exact EX rx fx t f.2 u' hu
noncomputable def inV(x:V)(xs:List V):Bool:=xs.any λ y=>eqV y x
noncomputable def rIn(K:PySem.W.Frag)(neg:Bool):R2:=λ x y H Q=>∃ p xs,y=.ref p/\(SqL K H p xs ∨ SqT K H p xs)/\Dk x=true/\xs.all Dk=true/\Q (.bl (if neg then !inV x xs else inV x xs)) H
theorem NJ:OpR X (compareOp .In) (rIn X.K false):=by
  intro pins s σ H x y v u Q I rx ry h
  obtain⟨p,xs,rfl,hq,fx,fs,q⟩:=h
  cases ry
  rcases hq with hq|hq
  . obtain⟨its,r,pl,hz⟩:=I.list hq
    refine SeqAt.in_listAt (eqU x) pl.isList (λ w hw=>EX rx fx r fs w (by simpa using hw)) ⟨.bl _,H,I,rfl,?_⟩
    rw[show its.toArray.any (eqU x)=its.any (eqU x) by simp,FS r fs]
    exact q
  . obtain⟨its,r,pl,hz⟩:=I.tuple hq
    refine SeqAt.in_tupleAt (eqU x) pl (λ w hw=>EX rx fx r fs w (by simpa using hw)) ⟨.bl _,H,I,rfl,?_⟩
    rw[show its.toArray.any (eqU x)=its.any (eqU x) by simp,FS r fs]
    exact q
theorem KC:OpR X (compareOp .NotIn) (rIn X.K true):=by
  intro pins s σ H x y v u Q I rx ry h
  obtain⟨p,xs,rfl,hq,fx,fs,q⟩:=h
  cases ry
  rcases hq with hq|hq
  . obtain⟨its,r,pl,hz⟩:=I.list hq
    refine SeqAt.notIn_listAt (eqU x) pl.isList (λ w hw=>EX rx fx r fs w (by simpa using hw)) ⟨.bl _,H,I,rfl,?_⟩
    rw[show its.toArray.any (eqU x)=its.any (eqU x) by simp,FS r fs]
    exact q
  . obtain⟨its,r,pl,hz⟩:=I.tuple hq
    refine SeqAt.notIn_tupleAt (eqU x) pl (λ w hw=>EX rx fx r fs w (by simpa using hw)) ⟨.bl _,H,I,rfl,?_⟩
    rw[show its.toArray.any (eqU x)=its.any (eqU x) by simp,FS r fs]
    exact q
theorem KY:CallR X (.builtin "len") (λ xs H Q=>∃ p ys,xs=[.ref p]/\(SqL X.K H p ys ∨ SqT X.K H p ys)/\Q (.int ys.length) H):=by
  intro pins s σ H xs us Q I r h
  obtain⟨p,ys,rfl,hq,q⟩:=h
  obtain⟨u,rfl,rx⟩:=Cf r
  cases rx
  have hn:=FN
  rcases hq with hq|hq
  . obtain⟨its,r',pl,hz⟩:=I.list hq
    have hlen:=r'.length
    exact Calls.call_len_list pl.isList (by simp only[List.size_toArray] <;> omega) ⟨.int ys.length,H,I.tok _,⟨s.toks + 1,by rw[List.size_toArray,hlen]⟩,q⟩
  . obtain⟨its,r',pl,hz⟩:=I.tuple hq
    have hlen:=r'.length
    exact len_tuple pl (by simp only[List.size_toArray] <;> omega) ⟨.int ys.length,H,I.tok _,⟨s.toks + 1,by rw[List.size_toArray,hlen]⟩,q⟩
theorem CallR.or{f:Value}{r r':List V->Hp->VK->Prop}(h:CallR X f r)(h':CallR X f r'):CallR X f (λ xs H Q=>r xs H Q ∨ r' xs H Q):=by
  intro pins s σ H xs us Q I rs q
  rcases q with q|q
  . exact h pins s σ H xs us Q I rs q
  . exact h' pins s σ H xs us Q I rs q
theorem KW:CallR X (.type "list") (λ xs H Q=>∃ p ys,xs=[.ref p]/\(SqL X.K H p ys ∨ SqT X.K H p ys)/\∀ l,H l=none->Q (.ref l) (upd H l (.lst ys))):=by
  intro pins s σ H xs us Q I r h
  obtain⟨p,ys,rfl,hq,q⟩:=h
  obtain⟨u,rfl,rx⟩:=Cf r
  cases rx
  have fin:∀ (its:List Value),Vals ys its->ys.length <= sizeLine->∀ (h':Heap) (c':Nat),(∀ b o',s.heap.get? b=some o'->h'.get? b=some o') ->
      h'.get? s.heap.objs.size=some { cls:=.type "list",dict:=none,data:=.seq its.toArray c',slots:=#[] }->EP X pins σ Q (.ref s.heap.objs.size) { s with heap:=h' }:=λ its r' hz h' c' kp e=>
    ⟨.ref s.heap.objs.size,_,I.laid (t':=s.toks) kp (Nat.le_refl _) (show ObjOk X.prog X.w _ h' _ (.lst ys)from⟨hz,its,c',r',e⟩),rfl,q _ (I.hok.fresh (Nat.le_refl _))⟩
  rcases hq with hq|hq
  . obtain⟨its,r',pl,hz⟩:=I.list hq
    have hlen:=r'.length
    obtain⟨o,ho,hc,n,hd⟩:=pl.isList
    exact call_list_seq p (.inl rfl) ho hc hd (λ h' c' kp e=>fin its r' hz h' c' kp e) (by simp only[List.size_toArray] <;> omega)
  . obtain⟨its,r',pl,hz⟩:=I.tuple hq
    have hlen:=r'.length
    obtain⟨o,ho,hc,n,hd⟩:=pl
    exact call_list_seq p (.inr rfl) ho hc hd (λ h' c' kp e=>fin its r' hz h' c' kp e) (by simp only[List.size_toArray] <;> omega)
theorem JF:CallR X (.type "tuple") (λ xs H Q=>∃ p ys,xs=[.ref p]/\((SqL X.K H p ys/\∀ l,H l=none->Q (.ref l) (upd H l (.tup ys))) ∨ (SqT X.K H p ys/\Q (.ref p) H))):=by
  intro pins s σ H xs us Q I r h
  obtain⟨p,ys,rfl,h⟩:=h
  obtain⟨u,rfl,rx⟩:=Cf r
  cases rx
  rcases h with⟨hq,q⟩|⟨hq,q⟩
  . obtain⟨its,r',pl,hz⟩:=I.list hq
    have hlen:=r'.length
    refine call_tuple_list pl.isList (λ h' kp=>?_) (by simp only[List.size_toArray] <;> omega)
    have I1:Inv X pins σ H { s with heap:=h' }:=I.kept (t':=s.toks) kp
    have I2:Inv X pins σ (upd H h'.objs.size (.tup ys)) { s with heap:=h'.push { cls:=.type "tuple",data:=.seq its.toArray } }:=
      I1.laid (t':=s.toks) (λ b o e=>Heap.get?_push_of_some _ e) (Nat.le_refl _) (show ObjOk X.prog X.w _ _ _ (.tup ys)from⟨hz,its,r',IsTupD.new _ _⟩)
    exact⟨.ref h'.objs.size,_,I2,rfl,q _ (I1.hok.fresh (Nat.le_refl _))⟩
  . obtain⟨its,r',pl,hz⟩:=I.tuple hq
    exact call_tuple_same pl ⟨.ref p,H,I,rfl,q⟩
noncomputable def tyV(K:PySem.W.Frag)(T:String)(x:V)(H:Hp):Prop:=match x with
  | .str _=>T="str"
  | .int _=>T="int"
  | .ref p=>(T="list"/\∃ xs,SqL K H p xs) ∨ (T="tuple"/\∃ o,K.lookup p=some o/\o.cls=.type "tuple"/\o.dict=none) ∨
      (T="dict"/\((∃ kvs,H p=some (.dK kvs)) ∨ ∃ kvs,H p=some (.dT kvs))) ∨ (T="set"/\∃ S n,H p=some (.set S n))
  | _=>False
theorem SQ{pins:List (Addr × Obj)}{σ:St}{H:Hp}{s:Shared}{T:String}{x:V}{v:Value}(I:Inv X pins σ H s)(r:RelV x v)(ty:tyV X.K T x H) :
    s.TypeIs v T/\∀ a,v=.ref a->∃ ob,s.heap.get? a=some ob/\ob.dict=none:=by
  cases x with
  | str z=>
    obtain⟨t,rfl⟩:=r
    cases(show T="str" from ty)
    exact⟨typeIs_str s z t,λ _ e=>nomatch e⟩
  | int i=>
    obtain⟨t,rfl⟩:=r
    cases(show T="int" from ty)
    exact⟨typeIs_int s i t,λ _ e=>nomatch e⟩
  | ref p=>
    cases r
    rcases ty with⟨rfl,xs,hq⟩|⟨rfl,o,hk,hc,hd⟩|⟨rfl,hk⟩|⟨rfl,S,n,hk⟩
    . obtain⟨its,_,pl,_⟩:=I.list hq
      refine⟨pl.isList.typeIs,λ a e=>?_⟩
      cases e
      obtain⟨o,n,e,c,hd,_⟩:=pl
      exact⟨o,e,hd⟩
    . refine⟨⟨o,I.kIn p o hk,hc⟩,λ a e=>?_⟩
      cases e
      exact⟨o,I.kIn _ o hk,hd⟩
    . have z:∃ o,s.heap.get? p=some o/\o.ExactDict:=by
        rcases hk with⟨kvs,hk⟩|⟨kvs,hk⟩
        . obtain⟨_,_,_,_,o,_,_,e,ex,_⟩:=I.hok p _ hk
          exact⟨o,e,ex⟩
        . obtain⟨_,_,_,_,o,_,_,e,ex,_⟩:=I.hok p _ hk
          exact⟨o,e,ex⟩
      obtain⟨o,e,ex⟩:=z
      refine⟨⟨o,e,ex.1⟩,λ a e2=>?_⟩
      cases e2
      exact⟨o,e,ex.2.1⟩
    . obtain⟨o,_,_,_,e,ex,_⟩:=I.hok p _ hk
      refine⟨⟨o,e,ex.1⟩,λ a e2=>?_⟩
      cases e2
      exact⟨o,e,ex.2.1⟩
  | _=>exact False.elim ty
noncomputable def tBM(K:PySem.W.Frag)(T:String)(r:V->List V->Hp->VK->Prop)(to:TE)(t:TA):TE:=λ σ H Q=>to σ H λ x H1=>tyV K T x H1/\t σ H1 λ xs H2=>r x xs H2 Q
variable{o e:Expr}{es:List Expr}{to:TE}{t:TA}{name:Str}{apos cpos:Pos}{T id:String}{r:V->List V->Hp->VK->Prop}
theorem Ux(pa:PlainAttrs T)(slot:Slot T name id)(hty:typeOf (.builtin id)=pure (.type "method_descriptor"))(hm:MtR X id r)(ho:PE X o to)(ha:PA X (e :: es) t)
    (hbase:attributeBase o name X.env (eval o X.env)=eval o X.env:=by rfl)
    (hfew:((backTo cpos (starEach (e :: es) X.env)).all (λ x=>!x.1) && (backToKw cpos (keywordEach [] X.env)).all (λ x=>x.1.isSome)
      && decide ((e :: es).length + ([]:List Keyword).length + (if([]:List Keyword).isEmpty then 0 else 1) < 30))=true:=by rfl)
    (hline:(apos.endLine == cpos.line)=true:=by rfl) (hs:starEach (e :: es) X.env=(false,eval e X.env) :: starEach es X.env:=by rfl) (hplain:(backTo cpos (starEach es X.env)).any (·.1)=false:=by rfl) :
    PE X (.Call (.Attribute o name apos) (e :: es) [] cpos) (tBM X.K T r to t):=by
  intro pins s σ H Q I h
  refine wpAny_Call_method_late hbase hfew hline rfl (thn (ho pins s σ H _ I h) λ v s1 ⟨x,H1,I1,r1,ty,q1⟩=>?_)
  obtain⟨h1,h2⟩:=SQ I1 r1 ty
  refine⟨T,id,pa,slot,hty,h1,h2,?_⟩
  have hA:=ha cpos pins s1 σ H1 _ I1 q1
  rw[hs]at hA ⊢
  refine Calls.callWith_builtin (by show(false || (backTo cpos (starEach es X.env)).any (·.1))=false;rw[hplain] <;> rfl) (Calls.evalArgs_plain ?_)
  exact thn hA λ us s2 ⟨vs,H2,I2,r2,q2⟩=>hm pins s2 σ H2 x vs v us Q I2 r1 r2 q2
end
end L2
namespace L2
open PySem PySem.Spec PyProof.Rows
noncomputable def MtM(X:Cx)(id:String)(r:V->List V->Hp->VK->Prop):Prop:=
  ∀ (pins:List (Addr × Obj)) (s:Shared) (σ:St) (H:Hp) (x:V) (xs:List V) (v:Value) (us:List Value) (Q:VK),Inv X pins σ H s->RelV x v->Vals xs us->r x xs H Q ->
    wpAny (model X.prog X.w) X.A (call (.builtin id) (v :: us)) (EP X pins σ Q) X.xe s
theorem Vals.one:∀ {x:V} {us:List Value},Vals [x] us->∃ u,us=[u]/\RelV x u
  | _,_,.cons r .nil=>⟨_,rfl,r⟩
theorem Vals.eraseIdx:∀ {xs:List V} {us:List Value} (i:Nat),Vals xs us->Vals (xs.eraseIdx i) (us.eraseIdx i)
  | _,_,_,.nil=>.nil
  | _,_,0,.cons _ t=>t
  | _,_,i + 1,.cons r t=>.cons r (Vals.eraseIdx i t)
theorem Vals.rep{xs:List V}{us:List Value}(h:Vals xs us):∀ k:Nat,Vals (List.replicate k xs).flatten (List.replicate k us).flatten
  | 0=>.nil
  | k + 1=>by
    rw[List.replicate_succ,List.replicate_succ,List.flatten_cons,List.flatten_cons]
    exact Vals.append h (Vals.rep h k)
theorem Iz{α:Type}:∀ (l:List α) (i:Nat),(l.eraseIdx i).length <= l.length
  | [],_=>Nat.le_refl _
  | _ :: _,0=>Nat.le_succ _
  | _ :: r,i + 1=>Nat.succ_le_succ (Iz r i)
theorem J2(its:List Value):∀ (k:Nat) (acc:List Value),
    List.foldl (λ x1 x2=>x1 ++ x2) acc.toArray (List.replicate k its.toArray)=(acc ++ (List.replicate k its).flatten).toArray
  | 0,acc=>by simp
  | k + 1,acc=>by
    have e:acc.toArray ++ its.toArray=(acc ++ its).toArray:=by simp
    have e2:(acc ++ its) ++ (List.replicate k its).flatten=acc ++ (List.replicate (k + 1) its).flatten:=by
      rw[List.replicate_succ,List.flatten_cons,List.append_assoc]
    rw[<- e2,<- J2 its k (acc ++ its),<- e,List.replicate_succ,List.foldl_cons]
section
variable{X:Cx}{pins:List (Addr × Obj)}{σ:St}{H:Hp}{s:Shared}{l b:Addr}{xs ys zs:List V}
theorem Inv.lset{its its':List Value}{n:Nat}{f:Array Value->Array Value}{t':Nat}(I:Inv X pins σ H s)(hH:H l=some (.lst xs))
    (e:s.heap.get? l=some { cls:=.type "list",data:=.seq its.toArray n }) (hf:f its.toArray=its'.toArray) (hv:Vals ys its') (hz:ys.length <= sizeLine) :
    Inv X pins σ (upd H l (.lst ys)) { s with heap:=s.heap.update l (Obj.mapSeq f),toks:=t' }:=by
  have q:=PySem.IsL.update e f
  rw[hf]at q
  refine I.write (x:=l) (e:=l) (by rw[hH];exact trivial) (.inl rfl) (λ b' u hb hu=>(Heap.get?_update_other s.heap (Obj.mapSeq f) (Ne.symm hb)).trans hu) ⟨_,q⟩ ?_
  exact⟨hz,its',_,hv,q⟩
theorem Inv.lnew{its:List Value}{t':Nat}(I:Inv X pins σ H s)(hv:Vals ys its)(hz:ys.length <= sizeLine) :
    Inv X pins σ (upd H s.heap.objs.size (.lst ys)) { s with heap:=s.heap.push { cls:=.type "list",data:=.seq its.toArray },toks:=t' }:=
  I.laid (λ _ _ q=>Heap.get?_push_of_some _ q) (Nat.le_refl _) ⟨hz,its,0,hv,Heap.get?_push_size _ rfl⟩
theorem Inv.fresh(I:Inv X pins σ H s):H s.heap.objs.size=none:=I.hok.fresh (Nat.le_refl _)
theorem Inv.lstM(I:Inv X pins σ H s)(hH:H l=some (.lst xs)):xs.length <= sizeLine/\∃ (its:List Value) (n:Nat),Vals xs its/\xs.length=its.length/\s.heap.get? l=some { cls:=.type "list",data:=.seq its.toArray n }:=by
  obtain⟨z,its,n,r,e⟩:=I.hok l _ hH
  exact⟨z,its,n,r,r.length,e⟩
theorem Fc{n:Nat}(h:n <= sizeLine):Builtin.List.listTooLong n=false:=by
  unfold Builtin.List.listTooLong
  exact decide_eq_false (by omega)
end
section
variable{X:Cx}
noncomputable def L0:V->List V->Hp->VK->Prop:=λ x vs H Q=>∃ l xs y,x=.ref l/\vs=[y]/\H l=some (.lst xs)/\xs.length < sizeLine/\Q .non (upd H l (.lst (xs ++ [y])))
theorem Eu:MtM X "list.append" L0:=by
  intro pins s σ H x vs v us Q I rx rv h
  obtain⟨l,xs,y,rfl,rfl,hH,hz,q⟩:=h
  cases rx
  obtain⟨u,rfl,ru⟩:=rv.one
  obtain⟨z,its,n,r,hl,e⟩:=I.lstM hH
  refine call_meets F.slot_list_append ⟨_,e,rfl⟩ F.entry_list_append (F.args_list_append_2 _ _) (PySem.list_append l its.toArray n u (by rw[List.size_toArray];omega)) ⟨e,?_⟩
  refine⟨.non,_,I.lset (its':=its ++ [u]) hH e (by simp) (r.append (.cons ru .nil)) ?_,rfl,q⟩
  rw[List.length_append,List.length_singleton]
  omega
noncomputable def Qp:V->List V->Hp->VK->Prop:=λ x vs H Q=>∃ l b xs zs,x=.ref l/\vs=[.ref b]/\H l=some (.lst xs)/\H b=some (.lst zs)/\xs.length + zs.length <= sizeLine/\Q .non (upd H l (.lst (xs ++ zs)))
theorem VQ:MtM X "list.extend" Qp:=by
  intro pins s σ H x vs v us Q I rx rv h
  obtain⟨l,b,xs,zs,rfl,rfl,hH,hB,hz,q⟩:=h
  cases rx
  obtain⟨u,rfl,ru⟩:=rv.one
  cases ru
  obtain⟨z,its,n,r,hl,e⟩:=I.lstM hH
  obtain⟨z2,its2,n2,r2,hl2,e2⟩:=I.lstM hB
  have hsz:its.toArray.size + its2.toArray.size <= sizeLine:=by rw[List.size_toArray,List.size_toArray];omega
  have hlong:¬ (!its.toArray.isEmpty && Builtin.List.listTooLong (its.toArray.size + its2.toArray.size))=true:=by
    rw[Fc hsz,Bool.and_false]
    exact Bool.false_ne_true
  refine call_meets F.slot_list_extend ⟨_,e,rfl⟩ F.entry_list_extend (F.args_list_extend_2 _ _)
    (AutoSeq1.list_extend_list_list_0 l its.toArray n b its2.toArray n2 hlong (by rw[List.size_toArray];omega) (by omega)) ⟨e,e2,?_⟩
  refine⟨.non,_,I.lset (its':=its ++ its2) hH e (by simp) (r.append r2) ?_,rfl,q⟩
  rw[List.length_append]
  omega
noncomputable def N3:V->List V->Hp->VK->Prop:=λ x vs H Q=>∃ l xs i k y,x=.ref l/\vs=[.int i]/\H l=some (.lst xs)/\-(2 ^ 63) <= i/\i < 2 ^ 63/\seqIndex? i xs.length=some k/\xs[k]? = some y/\Q y (upd H l (.lst (xs.eraseIdx k)))
theorem P1:MtM X "list.pop" N3:=by
  intro pins s σ H x vs v us Q I rx rv h
  obtain⟨l,xs,i,k,y,rfl,rfl,hH,h1,h2,hk,hy,q⟩:=h
  cases rx
  obtain⟨u,rfl,ru⟩:=rv.one
  obtain⟨t,rfl⟩:=ru
  obtain⟨z,its,n,r,hl,e⟩:=I.lstM hH
  obtain⟨w,hw,rw'⟩:=r.get hy
  refine call_meets F.slot_list_pop ⟨_,e,rfl⟩ F.entry_list_pop (F.args_list_pop_2 _ _)
    (MeetsSeq.list_pop_at l its.toArray n i t k w (fitsIndex_both h1 h2) (by rw[List.size_toArray,<- hl];exact hk) (by rw[<- Array.getElem?_toList];exact hw) (by rw[List.size_toArray];omega)) ⟨e,?_⟩
  refine⟨y,_,I.lset (its':=its.eraseIdx k) hH e ?_ (r.eraseIdx k) ?_,rw',q⟩
  . show its.toArray.eraseIdxIfInBounds k=(its.eraseIdx k).toArray
    rw[List.eraseIdxIfInBounds_toArray]
  . have:=Iz xs k
    omega
noncomputable def Oi:R2:=λ x y H Q=>∃ l b xs zs,x=.ref l/\y=.ref b/\H l=some (.lst xs)/\H b=some (.lst zs)/\xs.length + zs.length <= sizeLine/\∀ p,H p=none->Q (.ref p) (upd H p (.lst (xs ++ zs)))
theorem To:OpR X (binaryOp .Add) Oi:=by
  intro pins s σ H x y v u Q I rx ry h
  obtain⟨l,b,xs,zs,rfl,rfl,hH,hB,hz,q⟩:=h
  cases rx
  cases ry
  obtain⟨z,its,n,r,hl,e⟩:=I.lstM hH
  obtain⟨z2,its2,n2,r2,hl2,e2⟩:=I.lstM hB
  refine PySem.P.add_list e e2 ?_ (by rw[List.size_toArray,List.size_toArray];omega)
  have ea:its.toArray ++ its2.toArray=(its ++ its2).toArray:=by simp
  rw[ea]
  exact⟨.ref _,_,I.lnew (t':=s.toks) (r.append r2) (by rw[List.length_append];omega),rfl,q _ I.fresh⟩
noncomputable def Od:R2:=λ x y H Q=>∃ l k xs,x=.ref l/\y=.int k/\H l=some (.lst xs)/\-(2 ^ 63) <= k/\k < 2 ^ 63/\xs.length * k.toNat <= sizeLine /\
  ∀ p,H p=none->Q (.ref p) (upd H p (.lst (List.replicate k.toNat xs).flatten))
theorem Rp{α:Type}(xs:List α)(k:Nat):(List.replicate k xs).flatten.length=k * xs.length:=by
  induction k with
  | zero=>simp
  | succ k ih=>rw[List.replicate_succ,List.flatten_cons,List.length_append,ih,Nat.succ_mul,Nat.add_comm]
theorem Tk:OpR X (binaryOp .Mult) Od:=by
  intro pins s σ H x y v u Q I rx ry h
  obtain⟨l,k,xs,rfl,rfl,hH,h1,h2,hz,q⟩:=h
  cases rx
  obtain⟨t,rfl⟩:=ry
  obtain⟨z,its,n,r,hl,e⟩:=I.lstM hH
  have hlen:its.toArray.size * k.toNat <= sizeLine:=by rw[List.size_toArray,<- hl];exact hz
  have hcap:¬ its.toArray.size * k.toNat > (2 ^ 63 - 1) / 8:=by
    have:(sizeLine:Nat) <= (2 ^ 63 - 1) / 8:=by decide
    omega
  have hfit:¬ (!Builtin.List.listFitsIndex k)=true:=by
    rw[fitsIndex_both h1 h2]
    exact Bool.false_ne_true
  have hlong:¬ Builtin.List.listTooLong (its.toArray.size * k.toNat)=true:=by
    rw[Fc hlen]
    exact Bool.false_ne_true
  have hnew:List.foldl (λ x1 x2=>x1 ++ x2) #[] (List.replicate (if its.toArray.isEmpty=true then 0 else k.toNat) its.toArray)=(List.replicate k.toNat its).flatten.toArray:=by
    have f0:∀ m:Nat,List.foldl (λ x1 x2=>x1 ++ x2) #[] (List.replicate m its.toArray)=(List.replicate m its).flatten.toArray:=λ m=>by
      have:=J2 its m []
      rw[List.nil_append]at this
      exact this
    rw[f0]
    cases its with
    | nil=>simp
    | cons a r'=>rw[if_neg (by simp)]
  refine wpAny_binaryOp_repeat_ref (T:="list") (U:="int") (by decide) ⟨_,e,rfl⟩ (λ s'=>typeIs_int s' k t) noFill_list_mul F.fills_int_mul F.slot_int_rmul repeat_list F.slot_int_index.lookup
    (call_meets F.slot_int_rmul (typeIs_int s k t) F.entry_int_rmul (F.args_int_rmul_2 _ _) (int___rmul___int_list k t l its.toArray n)
      ⟨e,rfl,⟨_,e,rfl⟩,call_meets F.slot_list_mul ⟨_,e,rfl⟩ F.entry_list_mul (F.args_list_mul_2 _ _) (AutoListH.list___mul___list_int_3 l its.toArray n k t hfit hcap hlong) ⟨e,?_⟩⟩)
  rw[hnew]
  exact⟨.ref _,_,I.lnew (t':=s.toks) (r.rep k.toNat) (by rw[Rp,Nat.mul_comm];exact hz),rfl,q _ I.fresh⟩
end
section
variable{prog:Program}{w:World}{A:Around}{E:Value->Shared->Prop}{s:Shared}
end
section
variable{X:Cx}
end
end L2
namespace Att
open PySem PySem.W PySem.Calls PyProof.Rows
theorem II{P:Params}{h:Heap}:∀ (ns:List Int) (vs:List Value),WellAll P h vs (ns.map WData.int)->IntsAre vs ns:=by
  intro ns
  induction ns with
  | nil=>
    intro vs w
    rw[List.map_nil]at w
    cases w
    exact .nil
  | cons n ns ih=>
    intro vs w
    rw[List.map_cons]at w
    cases w with
    | cons a b=>
      cases a
      exact .cons _ _ (ih _ b)
theorem Mt{l:OpenLaw}{n:Nat}(hn:l.most=some n){P:Params}{h:Heap}{args:List WData}{vals:List Value}
    (hpre:l.row.toRowW.claim.pre args=true) (hwl:WellAll P h vals args) :
    ∃ a vs ns,vals=[Value.ref a]/\args=[WData.list (ns.map WData.int)]/\h.get? a=some { cls:=.type "list",data:=.seq vs.toArray }/\IntsAre vs ns/\ns.length <= n:=by
  have hsh:WShape.hasAll [] args [.list .int]=true:=(pre_splitW hpre).1
  have hc:l.pre.holds [] { args:=args }=true:=(pre_splitW hpre).2
  obtain⟨d,r,rfl,h1,h2⟩:=hasAllW_cons hsh
  obtain rfl:=hasAllW_nil h2
  obtain⟨xs,rfl,h3⟩:=hasW_list h1
  obtain⟨ns,rfl⟩:=items_int h3
  have hlen:ns.length <= n:=by
    unfold OpenLaw.pre at hc
    have h4:(WTm.not (.lt (.lit (.int (n:Int))) (.len (.arg 0)))).holds [] { args:=[.list (ns.map .int)] }=true:=by
      have h4:=(holds_andW hc).1
      rw[hn]at h4
      exact h4
    have h5:=condW_of h4 (w_not (w_lt w_lit (w_len_list (w_arg rfl))))
    rw[List.length_map]at h5
    refine Nat.le_of_not_lt λ q=>?_
    have q':(n:Int) < ((ns.length:Nat):Int):=by omega
    first
      | (rw[decide_eq_true q']at h5;exact absurd h5 (by decide))
      | (simp at h5;omega)
  cases hwl with
  | cons w1 w2=>
    cases w2
    cases w1 with
    | list ho hall=>exact⟨_,_,ns,rfl,rfl,ho,II ns _ hall,hlen⟩
theorem NB(l:OpenLaw)(args:List WData):l.row.toRowW.claim.post args (.bool true) args=true:=
  postW_of (r:=l.row.toRowW) (X:=(true == true))
    (show WShape.has [] (.bool true) .bool=true by first|rfl|decide|simp[WShape.has,WShape.arms,WShape.armsAll])
    (show(WTm.eq .res (.lit (.bool true))).value [] { args:=args,res:=some (.bool true),after:=args }=some (.bool (true == true))from w_eq_bool (w_res rfl) w_lit) rfl
theorem attach_call{l:OpenLaw}{n:Nat}{q:Program}{loose:List Str}{XP:(Str->Option Value)->Heap->Prop}{YP:World->Heap->Prop}{d:DefRec}
    (hn:l.most=some n) (hdf:d.params.defaults=[])
    (call:∀ (w:World) (s₀ s₁:Shared) (mg mb:Str->Option Value) (fa:Addr) (o:Obj) (pm cd doc:Value) (a:Addr) (vs:List Value) (ns:List Int),
      Ground q loose [] XP w s₀ mg mb s₁.heap->YP w s₁.heap ->
      s₁.heap.get? fa=some o->o.data=.func (docDef d.name d.params d.body d.scope pm cd doc)->s₁.heap.CodeRec cd d.name->mg d.name=some (.ref fa) ->
      s₁.heap.get? a=some { cls:=.type "list",data:=.seq vs.toArray }->IntsAre vs ns->ns.length <= n->s₁.gens=#[] ->
      codeAny (model l.prog w) callerA (.call (.ref fa) ⟨[.ref a],[]⟩) (λ r s'=>r=.ok (.ret (.bool true))/\OldK s₁.heap s'.heap/\s'.os=s₁.os/\AllBare s'.gens) s₁) :
    WalkO q loose XP YP l.row.toRowW d [] (λ f vs=>PySem.call f vs):=by
  intro w s₀ s₁ mg mb G Y fa o pm cd doc dV kV ho hd hcd hD hmg hg args vals as hpre hlay hrd hwl hlo
  obtain rfl:dV=.none:=Dflts.none hD hdf
  obtain rfl:kV=.none:=Dflts.noKw hD
  obtain⟨a,vs,ns,rfl,rfl,hobj,hints,hlen⟩:=Mt hn hpre hwl
  refine enter_call (codeAny_mono (call w s₀ s₁ mg mb fa o pm cd doc a vs ns G Y ho (fd_plain hd) hcd hmg hobj hints hlen hg) λ r s' hq=>?_)
  obtain⟨rfl,h2,h3,h4⟩:=hq
  exact⟨.inl ⟨.bool true,.bool true,[],rfl,λ _=>rfl,.bool true,NB l _,λ _=>⟨List.Pairwise.nil,λ _ hm=>(nomatch hm)⟩⟩,h2,h3,h4⟩
section
variable{prog:Program}{w:World}{A:Around}{E:Value->Shared->Prop}{s:Shared}{K:Frag}
end
end Att
namespace L2
open PySem PySem.Spec PyProof.Rows
theorem Iq:∀ {vs:List Value} {ns:List Int},IntsAre vs ns->Vals (ns.map V.int) vs
  | _,_,.nil=>.nil
  | _,_,.cons n t h=>.cons ⟨t,rfl⟩ (Iq h)
end L2
namespace L2
open PySem PySem.Spec PyProof.Rows
end L2
namespace L2
open PySem PySem.Spec PyProof.Rows
noncomputable def Aa(s:Stmt):Arguments:=match s with
  | .FunctionDef _ a _ _ _ _ _ _ _ _=>a
  | _=>{ posonlyargs:=[],args:=[],vararg:=none,kwonlyargs:=[],kw_defaults:=[],kwarg:=none,defaults:=[] }
noncomputable def AU(s:Stmt):List Stmt:=match s with
  | .FunctionDef _ _ b _ _ _ _ _ _ _=>b
  | _=>[]
noncomputable def AA(s:Stmt):Scope:=match s with
  | .FunctionDef _ _ _ _ _ _ sc _ _ _=>sc
  | _=>{ kind:=.function,names:=[],isGenerator:=false,isCoroutine:=false }
noncomputable abbrev CX0:CXT:=λ _ _ _ _ _ _=>False
noncomputable abbrev E0:XK:=λ _ _ _=>False
theorem Uz{X:Cx}:Kf CX0 X E0:=λ _ _ _ _ _ _ _ h=>h.elim
structure Fun(K:PySem.W.Frag)(x qual:Str)(st:Stmt)(f:Addr)(fd:FuncData):Prop where
  ex:∃ (oc:Value) (od:Option Addr) (kV doc pm:Value) (an:Option Addr) (cdv ct:Value) (osl:Array (Option Value)),
    fd=PySem.W.fnOf x qual (Aa st) (AU st) (AA st) .none kV doc pm an cdv ct/\K.lookup f=some ⟨oc,od,.func fd,osl⟩/\PySem.W.codeIn K cdv qual=true
  kp:PySem.W.keepIn K (.ref f)=true
section
variable{P:Program}{w:World}{K:PySem.W.Frag}{mg:Str->Option Value}{base:Heap}
theorem Fun.ok{x qual:Str}{st:Stmt}{f:Addr}{fd:FuncData}{N ps:List Str}{k:Nat}{sp:Sp}(F:Fun K x qual st f fd)(S:FnScope N ps (AA st))(len:∀ vs H Q E,sp vs H Q E->vs.length=ps.length)
    (hbody:∀ (cdv:Value) (A:Around) (outer:List Env) (s:Shared) (H:Hp) (vs:List V) (Q:VK) (E:XK),Room k (A.deeper (envOfC qual (AA st) s.heap.objs.size f cdv))->sp vs H Q E ->
      ∃ t,PSs (HY CX0 P w K mg base N qual (AA st) f cdv A outer s H E).nox (AU st) t/\t { nx:=λ _ H'=>Q .non H',rt:=Q } (Cg N vs) H):FnOk P w K mg base CX0 (k + 1) f fd ps sp:=by
  obtain⟨oc,od,kV,doc,pm,an,cdv,ct,osl,rfl,lk,hcd⟩:=F.ex
  refine VD lk hcd S len λ A outer s H vs Q E hr hsp=>?_
  obtain⟨t,h,q⟩:=hbody cdv A outer s H vs Q E hr hsp
  exact⟨t,h.nox,q⟩
theorem Fun.binds{x qual:Str}{st:Stmt}{f:Addr}{fd:FuncData}{ps:List Str}(F:Fun K x qual st f fd)
    (h:∀ (kV doc pm:Value) (an:Option Addr) (cdv ct:Value) (us:List Value),us.length=ps.length->bindArgs (PySem.W.fnOf x qual (Aa st) (AU st) (AA st) .none kV doc pm an cdv ct) ⟨us,[]⟩=pure (ps.zip us)):Binds K fd ps []:=by
  obtain⟨oc,od,kV,doc,pm,an,cdv,ct,osl,rfl,lk,hcd⟩:=F.ex
  exact .all (h kV doc pm an cdv ct)
theorem B0{x qual:Str}{st:Stmt}{f:Addr}{oc:Value}{od an:Option Addr}{osl:Array (Option Value)}{kV doc pm cdv ct:Value}(l:K.lookup f=some ⟨oc,od,.func (PySem.W.fnOf x qual (Aa st) (AU st) (AA st) .none kV doc pm an cdv ct),osl⟩)
    (c:PySem.W.codeIn K cdv qual=true) (k:PySem.W.keepIn K (.ref f)=true):Fun K x qual st f (PySem.W.fnOf x qual (Aa st) (AU st) (AA st) .none kV doc pm an cdv ct):=⟨⟨oc,od,kV,doc,pm,an,cdv,ct,osl,rfl,l,c⟩,k⟩
end
theorem Iv{n:Nat}(h:n <= 1000):n < sizeLine:=Nat.lt_of_le_of_lt h (by decide)
section
variable{X:Cx}
theorem pv(i:Nat){x:Str}{pos:Pos}(hN:X.N[i]? = some x:=by rfl)(hv:Vis X.env.scope x:=by first|exact Or.inl rfl|exact Or.inr (Or.inl rfl)|exact Or.inr (Or.inr rfl))(hd:(x == ("__debug__":Str))=false:=by decide)
    (hcd:(x == ("__classdict__":Str))=false:=by decide):PE X (.Name x pos) (Lc i):=NF hN hv hd hcd
end
end L2
namespace L2
open PySem PySem.Spec PyProof.Rows
section
variable{κ:Type}[DecidableEq κ]
end
section
variable{P:Program}{w:World}{H:Hp}{h:Heap}{a:Addr}
end
section
variable{X:Cx}{pins:List (Addr × Obj)}{σ:St}{H:Hp}{s:Shared}{a:Addr}{y v:V}{u r:Value}{o:Option V}{A:Around}{E:Value->Shared->Prop}
theorem S7{h':Heap}{t':Nat}{ob:HO}(I:Inv X pins σ H s)(mu:Mut (H a))(hs:Heap.SameBut a s.heap h')(he:∃ q,h'.get? a=some q)(new:ObjOk X.prog X.w (upd H a ob) h' a ob) :
    Inv X pins σ (upd H a ob) { s with heap:=h',toks:=t' }:=
  I.write (x:=a) (e:=a) mu (.inl rfl) (λ b q hb z=>(hs.2 b hb).trans z) he new
end
section
variable{X:Cx}{pins:List (Addr × Obj)}{σ:St}{H:Hp}{s:Shared}{a:Addr}{kvs:List (Key × V)}{k:Key}{u:Value}{A:Around}{E:Value->Shared->Prop}
end
section
variable{X:Cx}{o i e value:Expr}{pos pos' tpos:Pos}{td ty tv:TE}
end
section
variable{X:Cx}{pos:Pos}
end
section
variable{X:Cx}{pins:List (Addr × Obj)}{σ:St}{H:Hp}{s:Shared}{a:Addr}{y d:V}{u r:Value}{o:Option V}{A:Around}{E:Value->Shared->Prop}
end
section
variable{X:Cx}{o e f:Expr}{apos cpos:Pos}{td ty tx:TE}
end
section
variable{X:Cx}{pins:List (Addr × Obj)}{σ:St}{H:Hp}{s:Shared}{a:Addr}{kvs:List (Key × V)}{A:Around}{E:Value->Shared->Prop}
end
section
variable{X:Cx}{pins:List (Addr × Obj)}{σ:St}{H:Hp}{s:Shared}{a:Addr}{y:V}{u:Value}{A:Around}{E:Value->Shared->Prop}
end
end L2
namespace L2
open PySem PySem.Spec PyProof.Rows
section
variable{X:Cx}
end
section
variable{κ:Type}[DecidableEq κ]
end
end L2
namespace L2
open PySem PySem.Spec PyProof.Rows
noncomputable def BC(cells:List (Str × Addr)):List (Str × NameKind)->List (Str × Addr)->List (Str × Addr)
  | [],acc=>acc
  | (n,k) :: r,acc=>if k == .free then BC cells r ((n,(cells.lookup n).getD 0) :: acc)else BC cells r acc
theorem FR{env:Env}(f:Str × NameKind->List (Str × Addr)->Sem (ForInStep (List (Str × Addr))))
    (hf:∀ name kind cs,f (name,kind) cs=if(kind == NameKind.free)=true then(do let a <- cellOf env name;pure (ForInStep.yield ((name,a) :: cs)))else pure (ForInStep.yield cs)) :
    ∀ (names:List (Str × NameKind)) (acc:List (Str × Addr)),(∀ y ∈ names,y.2=.free->∃ c,env.cells.lookup y.1=some c)->forIn names acc f=pure (BC env.cells names acc)
  | [],acc,_=>rfl
  | (n,k) :: r,acc,hy=>by
    rw[List.forIn_cons,hf]
    have ih:=λ a=>FR f hf r a λ z hz=>hy z (List.mem_cons_of_mem _ hz)
    by_cases hk:(k == NameKind.free)=true
    . obtain⟨c,hc⟩:=hy (n,k) List.mem_cons_self (by simpa using hk)
      have hc:env.cells.lookup n=some c:=hc
      have e1:cellOf env n=pure c:=by unfold cellOf;rw[hc]
      rw[if_pos hk,e1]
      show forIn r ((n,c) :: acc) f=_
      have e2:BC env.cells ((n,k) :: r) acc=BC env.cells r ((n,c) :: acc):=by
        rw[BC,if_pos hk,hc]
        rfl
      rw[ih,e2]
    . rw[if_neg hk]
      show forIn r acc f=_
      have e2:BC env.cells ((n,k) :: r) acc=BC env.cells r acc:=by
        rw[BC,if_neg hk]
      rw[ih,e2]
theorem E7{scope:Scope}{env:Env}(h:∀ y ∈ scope.names,y.2=.free->∃ c,env.cells.lookup y.1=some c):closureFor scope env=pure (BC env.cells scope.names []):=by
  unfold closureFor
  dsimp only
  rw[FR _ (λ name kind cs=>rfl) scope.names [] h]
  rfl
theorem EG{cells:List (Str × Addr)}:∀ {names:List (Str × NameKind)} {acc:List (Str × Addr)},(∀ y ∈ names,y.2=.free->∃ c,cells.lookup y.1=some c)->(∀ x c,acc.lookup x=some c->cells.lookup x=some c) ->
    ∀ x c,(BC cells names acc).lookup x=some c->cells.lookup x=some c
  | [],_,_,ha,x,c,e=>ha x c e
  | (n,k) :: r,acc,hy,ha,x,c,e=>by
    unfold BC at e
    have hr:∀ y ∈ r,y.2=.free->∃ c,cells.lookup y.1=some c:=λ z hz=>hy z (List.mem_cons_of_mem _ hz)
    by_cases hk:(k == NameKind.free)=true
    . rw[if_pos hk]at e
      refine EG hr (λ z d q=>?_) x c e
      obtain⟨c0,hc0⟩:=hy (n,k) List.mem_cons_self (by simpa using hk)
      have hc0:cells.lookup n=some c0:=hc0
      rw[List.lookup_cons]at q
      by_cases hz:(z == n)=true
      . rw[hz,hc0]at q
        have:z=n:=by simpa using hz
        subst this
        simpa [hc0]using q
      . have hz':(z == n)=false:=by simpa using hz
        rw[hz']at q
        exact ha z d q
    . rw[if_neg hk]at e
      exact EG hr ha x c e
theorem EH{cells:List (Str × Addr)}:∀ {names:List (Str × NameKind)} {acc:List (Str × Addr)} {x:Str},((acc.lookup x).isSome=true ∨ (x,NameKind.free) ∈ names)->((BC cells names acc).lookup x).isSome=true
  | [],_,_,h=>h.elim id λ z=>by cases z
  | (n,k) :: r,acc,x,h=>by
    unfold BC
    by_cases hk:(k == NameKind.free)=true
    . rw[if_pos hk]
      refine EH ?_
      by_cases hx:(x == n)=true
      . exact .inl (by rw[List.lookup_cons,hx];rfl)
      . have hx':(x == n)=false:=by simpa using hx
        rcases h with h|h
        . exact .inl (by rw[List.lookup_cons,hx'];exact h)
        . rcases List.mem_cons.mp h with h|h
          . cases h;simp at hx
          . exact .inr h
    . rw[if_neg hk]
      refine EH ?_
      rcases h with h|h
      . exact .inl h
      . rcases List.mem_cons.mp h with h|h
        . cases h;simp at hk
        . exact .inr h
noncomputable def CM:Nat->List (Str × NameKind)->List (Str × Addr)
  | _,[]=>[]
  | n,(x,k) :: r=>if k == .cell then CM (n + 1) r ++ [(x,n)]else CM n r
theorem By:∀ (names:List (Str × NameKind)) (n:Nat) (acc:List (Str × Addr)),cellsFrom n names acc=CM n names ++ acc
  | [],_,_=>rfl
  | (x,k) :: r,n,acc=>by
    unfold cellsFrom CM
    by_cases hk:(k == NameKind.cell)=true
    . rw[if_pos hk,if_pos hk,By r (n + 1),List.append_assoc];rfl
    . rw[if_neg hk,if_neg hk,By r n]
theorem HH:∀ (names:List (Str × NameKind)) (n:Nat) (x:Str) (c:Addr),(CM n names).lookup x=some c->(x,NameKind.cell) ∈ names
  | [],_,_,_,e=>by cases e
  | (y,k) :: r,n,x,c,e=>by
    unfold CM at e
    by_cases hk:(k == NameKind.cell)=true
    . rw[if_pos hk]at e
      have hk':k=.cell:=by simpa using hk
      rw[List.lookup_append]at e
      cases q:(CM (n + 1) r).lookup x with
      | some d=>exact List.mem_cons_of_mem _ (HH r _ x d q)
      | none=>
        rw[q]at e
        simp only[Option.none_or,List.lookup_cons]at e
        by_cases hx:(x == y)=true
        . have:x=y:=by simpa using hx
          subst this;subst hk'
          exact List.mem_cons_self
        . have hx':(x == y)=false:=by simpa using hx
          rw[hx']at e;cases e
    . rw[if_neg hk]at e
      exact List.mem_cons_of_mem _ (HH r n x c e)
theorem HI:∀ (names:List (Str × NameKind)) (n:Nat) (x:Str),(x,NameKind.cell) ∈ names->∃ c,(CM n names).lookup x=some c
  | [],_,_,h=>by cases h
  | (y,k) :: r,n,x,h=>by
    unfold CM
    by_cases hk:(k == NameKind.cell)=true
    . rw[if_pos hk,List.lookup_append]
      rcases List.mem_cons.mp h with h|h
      . obtain⟨rfl,rfl⟩:=Prod.mk.inj h
        cases q:(CM (n + 1) r).lookup x with
        | some d=>exact⟨d,rfl⟩
        | none=>exact⟨n,by simp[List.lookup_cons]⟩
      . obtain⟨c,hc⟩:=HI r (n + 1) x h
        exact⟨c,by rw[hc];rfl⟩
    . rw[if_neg hk]
      rcases List.mem_cons.mp h with h|h
      . cases h;simp at hk
      . exact HI r n x h
noncomputable def Ma(scope:Scope)(C:Addr)(env:Env):Env:=
  { scope:=relabel scope env,locals:=C,globals:=env.globals,cells:=cellsFrom (C + 1) scope.names (BC env.cells scope.names []),qual:=env.qual,func:=none,code:=env.code,frame:=env.frame,builtins:=env.builtins }
theorem Ib{M:Model}{A:Around}{E:Value->Shared->Prop}{s:Shared}{scope:Scope}{cl:List (Str × Addr)}{env:Env}{Q:Env->Shared->Prop}
    (hQ:∀ h',(∀ b o,s.heap.get? b=some o->h'.get? b=some o)->h'.Ns s.heap.objs.size (λ _=>none)->(∀ x c,(CM (s.heap.objs.size + 1) scope.names).lookup x=some c->h'.IsCell c none/\s.heap.objs.size < c) ->
      ((CM (s.heap.objs.size + 1) scope.names).Pairwise λ x y=>x.2 ≠ y.2) ->
      Q { scope:=scope,locals:=s.heap.objs.size,globals:=env.globals,cells:=cellsFrom (s.heap.objs.size + 1) scope.names cl,qual:=env.qual,func:=none,code:=env.code,frame:=env.frame,builtins:=env.builtins } { s with heap:=h' }) :
    wpAny M A (newFunctionEnv scope env.globals cl [] env.qual none .none (some env)) Q E s:=by
  simp only[newFunctionEnv,Option.isSome_some,if_true]
  refine wpAny_bind (wpAny_alloc ?_)
  refine wpAny_bind (wpAny_layCells _ (λ name kind cells=>by cases hkc:kind == NameKind.cell <;> simp[hkc]) _ _ _ _ ?_)
  have ok:=cellsFrom_ok scope.names (s.heap.push { cls:=.type "dict",data:=.dict #[] }) (s.heap.objs.size + 1) [] ⟨λ _ _ hm=>(nomatch hm),List.Pairwise.nil⟩ (by rw[Heap.size_push];exact Nat.le_refl _)
  rw[Heap.size_push,By,List.append_nil]at ok
  rw[show({ s with heap:=s.heap.push { cls:=.type "dict",data:=.dict #[] } }:Shared).heap.objs.size=s.heap.objs.size + 1 from Heap.size_push ..]
  refine wpAny_bind (wpAny_pure (wpAny_pure ?_))
  exact hQ _ (λ b o e=>pushCells_keeps _ _ b o (Heap.get?_push_of_some _ e)) ((Heap.Ns.new s.heap (.type "dict")).keeps (pushCells_keeps _ _)) (λ x c hc=>⟨(ok.empty x c (mem_of_lookup hc)).1,(ok.empty x c (mem_of_lookup hc)).2⟩) ok.apart
end L2
namespace L2
open PySem PySem.Spec PyProof.Rows
theorem Ix:∀ {names:List (Str × NameKind)} {x:Str} {k k':NameKind},(names.map (·.1)).Nodup->(x,k) ∈ names->(x,k') ∈ names->k=k'
  | [],_,_,_,_,h,_=>by cases h
  | (y,q) :: r,x,k,k',nd,h,h'=>by
    have nd:(y :: r.map (·.1)).Nodup:=nd
    obtain⟨n1,n2⟩:=List.nodup_cons.mp nd
    have out:∀ {z:NameKind},(y,z) ∈ r->False:=λ m=>n1 (List.mem_map.mpr ⟨_,m,rfl⟩)
    rcases List.mem_cons.mp h with e|e <;> rcases List.mem_cons.mp h' with e'|e'
    . cases e;cases e';rfl
    . cases e;exact(out e').elim
    . cases e';exact(out e).elim
    . exact Ix n2 e e'
theorem Fu{env:Env}{x:Str}:∀ {names:List (Str × NameKind)},names.lookup x=some .free ->
    (names.map λ(n,k)=>if(k == NameKind.free && env.scope.kind == .function && env.kindOf n == some .cell)then(n,NameKind.cell)else(n,k)).lookup x=some .cell ∨
    (names.map λ(n,k)=>if(k == NameKind.free && env.scope.kind == .function && env.kindOf n == some .cell)then(n,NameKind.cell)else(n,k)).lookup x=some .free
  | [],h=>by simp at h
  | (n,k) :: r,h=>by
    have ih:=@Fu env x r
    show List.lookup x ((if(k == NameKind.free && env.scope.kind == .function && env.kindOf n == some .cell)=true then(n,NameKind.cell)else(n,k)) :: _)=_ ∨ List.lookup x ((if(k == NameKind.free && env.scope.kind == .function && env.kindOf n == some .cell)=true then(n,NameKind.cell)else(n,k)) :: _)=_
    cases hx:x == n with
    | true=>
      simp only[List.lookup_cons,hx]at h
      cases h
      by_cases hc:(NameKind.free == NameKind.free && env.scope.kind == .function && env.kindOf n == some .cell)=true
      . rw[if_pos hc];exact .inl (by simp only[List.lookup_cons,hx])
      . rw[if_neg hc];exact .inr (by simp only[List.lookup_cons,hx])
    | false=>
      simp only[List.lookup_cons,hx]at h
      by_cases hc:(k == NameKind.free && env.scope.kind == .function && env.kindOf n == some .cell)=true
      . rw[if_pos hc];simp only[List.lookup_cons,hx];exact ih h
      . rw[if_neg hc];simp only[List.lookup_cons,hx];exact ih h
theorem GA{env:Env}{x:Str}:∀ {names:List (Str × NameKind)},
    ((names.map λ(n,k)=>if(k == NameKind.free && env.scope.kind == .function && env.kindOf n == some .cell)then(n,NameKind.cell)else(n,k)).lookup x=some .cell ∨
    (names.map λ(n,k)=>if(k == NameKind.free && env.scope.kind == .function && env.kindOf n == some .cell)then(n,NameKind.cell)else(n,k)).lookup x=some .free) ->
    names.lookup x=some .cell ∨ names.lookup x=some .free
  | [],h=>by simp at h
  | (n,k) :: r,h=>by
    have ih:=@GA env x r
    have h:List.lookup x ((if(k == NameKind.free && env.scope.kind == .function && env.kindOf n == some .cell)=true then(n,NameKind.cell)else(n,k)) :: _)=_ ∨ List.lookup x ((if(k == NameKind.free && env.scope.kind == .function && env.kindOf n == some .cell)=true then(n,NameKind.cell)else(n,k)) :: _)=_:=h
    cases hx:x == n with
    | true=>
      by_cases hc:(k == NameKind.free && env.scope.kind == .function && env.kindOf n == some .cell)=true
      . have hk:k=.free:=by
          have:=(Bool.and_eq_true _ _ ▸ (Bool.and_eq_true _ _ ▸ hc).1:(k == NameKind.free)=true/\_).1
          simpa using this
        exact .inr (by simp only[List.lookup_cons,hx,hk])
      . rw[if_neg hc]at h
        simp only[List.lookup_cons,hx]at h ⊢
        exact h
    | false=>
      simp only[List.lookup_cons,hx]
      refine ih ?_
      by_cases hc:(k == NameKind.free && env.scope.kind == .function && env.kindOf n == some .cell)=true
      . rw[if_pos hc]at h;simp only[List.lookup_cons,hx]at h;exact h
      . rw[if_neg hc]at h;simp only[List.lookup_cons,hx]at h;exact h
noncomputable def cCx(X:Cx)(N':List Str)(scope:Scope)(s:Shared)(H:Hp)(ex:List Addr):Cx:=
  { X with N:=N',s₀:=s,H₀:=H,env:=Ma scope s.heap.objs.size X.env,outer:=X.stack,ex:=ex,fn:=λ x=>decide ((x,NameKind.cell) ∈ scope.names),pn:=[],xe:=λ _ _=>False }
structure CSc(X:Cx)(scope:Scope)(fr:List Str)(ix:List Nat):Prop where
  kind:scope.kind=.function
  nd:(scope.names.map (·.1)).Nodup
  free:(scope.names.all λ y=>y.2 != .free || X.env.kindOf y.1 == some .cell || X.env.kindOf y.1 == some .free)=true
  frs:(fr.all λ x=>scope.names.lookup x == some .free)=true
  ixs:fr.map some=ix.map λ i=>X.N[i]?
  loc:(scope.names.all λ y=>y.2 != .local || scope.names.lookup y.1 == some .local)=true
noncomputable def Fr(n:Nat)(ix:List Nat)(σ:St):St:=List.replicate n none ++ ix.map λ i=>(σ[i]?).join
section
variable{X:Cx}{scope:Scope}{fr loc:List Str}{ix:List Nat}{pins:List (Addr × Obj)}{σ:St}{H:Hp}{s:Shared}
theorem CSc.outer(S:CSc X scope fr ix){y:Str × NameKind}(hy:y ∈ scope.names)(e:y.2=.free):X.env.kindOf y.1=some .cell ∨ X.env.kindOf y.1=some .free:=by
  have h:=List.all_eq_true.mp S.free y hy
  rw[e]at h
  simpa using h
theorem CSc.clos(S:CSc X scope fr ix)(ok:X.Ok):∀ y ∈ scope.names,y.2=.free->∃ c,X.env.cells.lookup y.1=some c:=λ y hy e=>ok.has y.1 (S.outer hy e)
theorem Cp(S:CSc X scope fr ix)(ok:X.Ok){n:Nat}{x:Str}{c:Addr}(e:(cellsFrom n scope.names (BC X.env.cells scope.names [])).lookup x=some c) :
    (CM n scope.names).lookup x=some c ∨ X.env.cells.lookup x=some c:=by
  rw[By,List.lookup_append]at e
  cases q:(CM n scope.names).lookup x with
  | some d=>rw[q]at e;exact .inl e
  | none=>
    rw[q]at e
    exact .inr (EG (S.clos ok) (λ _ _ z=>by simp at z) x c e)
theorem HU(S:CSc X scope fr ix)(I:Inv X pins σ H s){ex:List Addr}(hex:∀ b ∈ ex,CP X pins H b){h':Heap}(hk:∀ b o,s.heap.get? b=some o->h'.get? b=some o)(hn:h'.Ns s.heap.objs.size λ _=>none)
    (ho:∀ x c,(CM (s.heap.objs.size + 1) scope.names).lookup x=some c->h'.IsCell c none/\s.heap.objs.size < c) (ha:(CM (s.heap.objs.size + 1) scope.names).Pairwise λ x y=>x.2 ≠ y.2) (hlt:∀ b ∈ ex,b < s.heap.objs.size) :
    Inv (cCx X (loc ++ fr) scope s H ex) [] (Fr loc.length ix σ) H { s with heap:=h' }:=by
  have old:∀ x c,X.env.cells.lookup x=some c->c < s.heap.objs.size:=λ x c e=>let ⟨v,z⟩:=I.cell x c e;z.lt
  have lenix:fr.length=ix.length:=by simpa using congrArg List.length S.ixs
  refine⟨⟨I.ok.mod,?_,I.ok.glob,I.ok.blt,Nat.le_refl _,?_,?_,?_,I.ok.hd,I.ok.frames,.inl rfl,?_,I.bs,Nat.le_trans I.ok.bsz I.sz,?_,?_,I.stack,I.stkFree⟩,rfl,I.bare,Un.kept hk,⟨_,hn,?_⟩,?_,I.hok.fresh (Nat.le_refl _),?_,?_,I.hok.kept hk,?_⟩
  . exact S.kind
  . intro x y c e1 e2
    rcases Cp S I.ok e1 with a|a <;> rcases Cp S I.ok e2 with b|b
    . exact name_of_addr ha (PySem.mem_of_lookup a) (PySem.mem_of_lookup b)
    . exact absurd (Nat.lt_trans (ho x c a).2 (old y c b)) (Nat.lt_irrefl _)
    . exact absurd (Nat.lt_trans (ho y c b).2 (old x c a)) (Nat.lt_irrefl _)
    . exact I.ok.inj x y c a b
  . intro x hx
    rcases GA hx with e|e
    . exact Option.isSome_iff_exists.mp (PySem.W.cellsFrom_some _ _ _ (.inl e))
    . exact Option.isSome_iff_exists.mp (PySem.W.cellsFrom_some _ _ _ (.inr (EH (.inr (PySem.mem_of_lookup e)))))
  . intro x c hf e
    have hf:(x,NameKind.cell) ∈ scope.names:=of_decide_eq_true hf
    obtain⟨d,hd⟩:=HI scope.names (s.heap.objs.size + 1) x hf
    have e':(cellsFrom (s.heap.objs.size + 1) scope.names (BC X.env.cells scope.names [])).lookup x=some c:=e
    rw[By,List.lookup_append,hd]at e'
    cases e'
    exact Nat.le_of_lt (ho x _ hd).2
  . intro b hb
    refine⟨Nat.ne_of_lt (hlt b hb),λ x c e z=>?_⟩
    rcases Cp S I.ok e with a|a
    . exact absurd (Nat.lt_trans (ho x c a).2 (by rw[z];exact hlt b hb)) (Nat.lt_irrefl _)
    . exact(hex b hb).2.2.2.2.1 x c a z
  . intro b o e hb
    rcases(hex b hb).2.2.2.1 with z|z
    . exact I.ok.noex b o e z
    . exact absurd (Nat.lt_of_lt_of_le (Heap.lt_size (I.ok.bs b o e).1) z) (Nat.lt_irrefl _)
  . intro b hb hf
    rcases List.mem_cons.mp (I.stkSub b hf)with z|z
    . exact(hex b hb).2.1 z
    . exact(hex b hb).2.2.1 z
  . intro i x v e1 e2 e3
    have e1:(loc ++ fr)[i]? = some x:=e1
    unfold Fr at e2
    by_cases hi:i < loc.length
    . rw[List.getElem?_append_left (by simpa using hi),List.getElem?_replicate]at e2
      split at e2 <;> cases e2
    . have hi':loc.length <= i:=Nat.not_lt.mp hi
      rw[List.getElem?_append_right (by simpa using hi')]at e2
      rw[List.getElem?_append_right hi']at e1
      rw[List.length_replicate,List.getElem?_map]at e2
      generalize hj:i - loc.length=j at e1 e2
      have e4:(fr.map some)[j]? = some (some x):=by rw[List.getElem?_map,e1];rfl
      rw[S.ixs,List.getElem?_map]at e4
      cases q:ix[j]? with
      | none=>rw[q]at e2;cases e2
      | some k=>
        rw[q]at e2 e4
        have e2:(σ[k]?).join=some v:=Option.some.inj e2
        have e4:X.N[k]? = some x:=Option.some.inj e4
        have e5:σ[k]? = some (some v):=by
          cases w:σ[k]? with
          | none=>rw[w]at e2;cases e2
          | some z=>rw[w]at e2;simpa using e2
        have hfx:=List.all_eq_true.mp S.frs x (List.mem_of_getElem? e1)
        have hfx:scope.names.lookup x=some .free:=by simpa using hfx
        have hmem:=PySem.mem_of_lookup hfx
        have hout:=S.outer hmem rfl
        obtain⟨m,hm,hl⟩:=I.loc
        obtain⟨u,r,l⟩:=hl k x v e4 e5 (.inr hout)
        refine⟨u,r,.inr ⟨Fu hfx,?_⟩⟩
        rcases l with⟨kk,_⟩|⟨kk,c,ec,z⟩
        . rcases hout with w|w
          . rw[kk]at w;cases w
          . rw[kk]at w;cases w
        . have own0:(CM (s.heap.objs.size + 1) scope.names).lookup x=none:=by
            cases w:(CM (s.heap.objs.size + 1) scope.names).lookup x with
            | none=>rfl
            | some d=>exact absurd (Ix S.nd (HH _ _ _ _ w) hmem) (by decide)
          have hc:(BC X.env.cells scope.names []).lookup x=some c:=by
            obtain⟨d,hd⟩:=Option.isSome_iff_exists.mp (EH (cells:=X.env.cells) (acc:=[]) (.inr hmem))
            have:=EG (S.clos I.ok) (λ _ _ z=>by simp at z) x d hd
            rw[ec]at this;cases this
            exact hd
          refine⟨c,?_,z.keeps hk⟩
          show(cellsFrom (s.heap.objs.size + 1) scope.names (BC X.env.cells scope.names [])).lookup x=some c
          rw[By,List.lookup_append,own0,hc]
          rfl
  . intro x c e
    rcases Cp S I.ok e with a|a
    . exact⟨_,(ho x c a).1⟩
    . obtain⟨v,z⟩:=I.cell x c a
      exact⟨v,z.keeps hk⟩
  . intro x c e
    rcases Cp S I.ok e with a|a
    . exact I.hok.fresh (Nat.le_of_lt (ho x c a).2)
    . exact I.freeC x c a
  . intro p hp
    cases hp
  . unfold Fr
    show _=(loc ++ fr).length
    simp[lenix]
end
end L2
namespace L2
open PySem PySem.Spec PyProof.Rows
section
variable{prog:Program}{w:World}{A:Around}{R:Result->Shared->Prop}{s:Shared}
theorem GP{elt target iter:Expr}{ifs:List Expr}{scope:Scope}{pos:Pos}{it acc:Value}{env:Env}(I:Nat->Shared->Prop)
    (turn:∀ n s,I n s->wpAny (model prog w) A (pyNext it) (λ r s₁=>match r with
      | none=>R (.ok .next) s₁
      | some v=>wpAny (model prog w) A (letOwnedTupleGo target it v) (λ _ s₁=>wpAny (model prog w) A (assign target env v) (λ _ s₂=>
          wpAny (model prog w) A (forIn ifs true λ c r=>if r=true then do let ok <- isTrue c env (eval c env);pure (ForInStep.yield ok)else pure (ForInStep.yield r)) (λ ok s₃=>
            if ok=true then wpAny (model prog w) A (eval elt env) (λ x s₄=>
              wpAny (model prog w) A (call (.builtin "list.append") [acc,x]) (λ _ s₅=>∃ m,m < n/\I m s₅) (λ _ _=>False) s₄) (λ _ _=>False) s₃
            else ∃ m,m < n/\I m s₃) (λ _ _=>False) s₂) (λ _ _=>False) s₁) (λ _ _=>False) s₁) (λ _ _=>False) s)
    (n:Nat) (h:I n s) :
    codeAny (model prog w) A (.compLoop (.ListComp elt [⟨target,iter,ifs,0⟩] scope pos) 0 it acc env) R s:=by
  refine codeAny_loop rfl I (λ n s hI=>?_) n h
  show wpAny _ A ((compTurn (.ListComp elt [⟨target,iter,ifs,0⟩] scope pos) 0 it acc env).onRaise (λ x=>do noteFrame x env;theTreesLotGoes x)) _ _ s
  refine wpAny_noted ?_
  rw[compTurn_list]
  refine wpAny_bind (wpAny_standAt (wpAny_bind (wpAny_mono (turn n s hI) (λ r s₁ h₁=>?_) λ _ _ h'=>h'.elim)))
  cases r with
  | none=>exact wpAny_pure h₁
  | some v=>
    refine wpAny_bind (wpAny_mono h₁ (λ _ s₁ h₁=>?_) λ _ _ h'=>h'.elim)
    refine wpAny_bind (wpAny_mono h₁ (λ _ s₂ h₂=>wpAny_bind (wpAny_mono h₂ (λ ok s₃ h₃=>?_) λ _ _ h'=>h'.elim)) λ _ _ h'=>h'.elim)
    cases ok with
    | false=>exact wpAny_pure ⟨rfl,h₃⟩
    | true=>
      exact wpAny_bind (wpAny_bind (wpAny_mono h₃ (λ x s₄ h₄=>wpAny_bind (wpAny_mono h₄ (λ _ s₅ h₅=>wpAny_pure (wpAny_pure ⟨rfl,h₅⟩)) λ _ _ h'=>h'.elim)) λ _ _ h'=>h'.elim))
end
noncomputable def PF(X:Cx)(ifs:List Expr)(t:TT):Prop:=
  ∀ (pins:List (Addr × Obj)) (s:Shared) (σ:St) (H:Hp) (Q:Bool->Hp->Prop),Inv X pins σ H s->t σ H Q ->
    wpAny (model X.prog X.w) X.A (forIn ifs true λ c r=>if r=true then do let ok <- isTrue c X.env (eval c X.env);pure (ForInStep.yield ok)else pure (ForInStep.yield r)) (TP X pins σ Q) X.xe s
noncomputable def O7:TT:=λ _ H Q=>Q true H
theorem Ta{X:Cx}:PF X [] O7:=λ pins s σ H Q I h=>wpAny_tests_nil ⟨H,I,h⟩
theorem TZ{X:Cx}{c:Expr}{t:TT}(h:PT X c t):PF X [c] t:=λ pins s σ H Q I q=>wpAny_tests_one (h pins s σ H Q I q)
noncomputable def Px(J:It)(D:Addr)(σ0:St)(H0:Hp)(g:TG)(tf:TT)(te:TE)(Q:VK):Prop:=∃ W:Nat->Nat->St->List V->Hp->Prop,
  (∃ m,W 0 m σ0 [] (upd H0 D (.lst [])))/\∀ i m σ ys H,W i m σ ys H->H D=some (.lst ys) /\
    ((J.stop i H/\Q (.ref D) H) ∨ (J.go i H/\ys.length < sizeLine/\∃ N:St->List V->Hp->Prop,(∀ σ' ys' H',N σ' ys' H'->∃ m',m' < m/\W (i + 1) m' σ' ys' H') /\
      ∀ x H',J.yld i H x H'->g x σ H' λ σ2 H2=>tf σ2 H2 λ b H3=>
        if b=true then te σ2 H3 λ v H4=>H4 D=some (.lst ys)/\N σ2 (ys ++ [v]) (upd H4 D (.lst (ys ++ [v])))
        else N σ2 ys H3))
noncomputable def Hi(n:Nat)(ix:List Nat)(wi:TI)(g:TG)(tf:TT)(te:TE):TE:=λ σ H Q=>wi σ H λ J H1=>∀ D,H1 D=none->Px J D (Fr n ix σ) H1 g tf te Q
section
variable{X:Cx}
theorem Ny{pins:List (Addr × Obj)}{σ:St}{H:Hp}{s:Shared}{D:Addr}{ys:List V}{x:V}{u:Value}{Q:Value->Shared->Prop}{E:Value->Shared->Prop}(I:Inv X pins σ H s)(hD:H D=some (.lst ys))(r:RelV x u)(hz:ys.length < sizeLine)
    (h:∀ v s',Inv X pins σ (upd H D (.lst (ys ++ [x]))) s'->Q v s'):wpAny (model X.prog X.w) X.A (call (.builtin "list.append") [.ref D,u]) Q E s:=by
  have I':=I.wish λ _ _=>False
  have q:=Eu (X:=X.wish λ _ _=>False) pins s σ H (.ref D) [x] (.ref D) [u] (λ v H'=>H'=upd H D (.lst (ys ++ [x]))) I' rfl (.cons r .nil) ⟨D,ys,x,rfl,rfl,hD,hz,rfl⟩
  refine wpAny_mono q (λ v s' ⟨v',H',I2,_,e⟩=>?_) λ _ _ z=>False.elim z
  subst e
  exact h v s' I2.unwish
theorem Rc{elt tg iter:Expr}{ifs:List Expr}{scope:Scope}{pos:Pos}{loc fr:List Str}{ix:List Nat}{wi:TI}{g:TG}{tf:TT}{te:TE}(hc:X.calm=true)(S:CSc X scope fr ix)(hi:PI X tg iter wi)
    (hg:∀ s H ex,PG (cCx X (loc ++ fr) scope s H ex) tg g) (hf:∀ s H ex,PF (cCx X (loc ++ fr) scope s H ex) ifs tf) (he:∀ s H ex,PE (cCx X (loc ++ fr) scope s H ex) elt te)
    (hs:∀ x,foldedSetIterable iter X.env x=pure x:=by intro _;rfl):PE X (.ListComp elt [⟨tg,iter,ifs,0⟩] scope pos) (Hi loc.length ix wi g tf te):=by
  intro pins s σ H Q I h
  rw[eval_ListComp]
  have hnames:∀ y ∈ scope.names,y.2=.local->scope.names.lookup y.1=some .local:=λ y hy e=>by
    have:=List.all_eq_true.mp S.loc y hy
    rw[e]at this
    simpa using this
  refine wpAny_comprehension_free (use:=none) rfl hs (E7 (S.clos I.ok)) S.kind hnames (thn (hi pins s σ H _ I h) λ v s1 h1=>thn h1 λ itv s2 h2=>?_)
  obtain⟨it,fp,tn,J,H2,rfl,I2,T,st2,f2,hW⟩:=h2
  refine wpAny_newObj_type ?_
  have fresh2:H2 s2.heap.objs.size=none:=I2.hok.fresh (Nat.le_refl _)
  have I3:=I2.lnew (its:=[]) (ys:=[]) (t':=s2.toks) .nil (Nat.zero_le _)
  obtain⟨W,⟨m0,w0⟩,turn⟩:=hW s2.heap.objs.size fresh2
  have lt2:∀ b ∈ fp,b < s2.heap.objs.size:=λ b hb=>let ⟨o,e,_⟩:=T.obj 0 _ st2 b hb;Heap.lt_size e
  have f3:∀ b ∈ fp,CP X pins (upd H2 s2.heap.objs.size (.lst [])) b:=λ b hb=>⟨by rw[AO (Nat.ne_of_lt (lt2 b hb))];exact(f2 b hb).1,(f2 b hb).2⟩
  have lt3:∀ b ∈ fp,b < (s2.heap.push { cls:=.type "list",data:=.seq ([]:List Value).toArray }).objs.size:=λ b hb=>by rw[Heap.size_push];exact Nat.lt_succ_of_lt (lt2 b hb)
  generalize hs3:({ s2 with heap:=s2.heap.push { cls:=.type "list",data:=.seq ([]:List Value).toArray } }:Shared)=s3 at *
  have lt3:∀ b ∈ fp,b < s3.heap.objs.size:=by rw[<- hs3];exact lt3
  have st3:tn 0 s3.heap:=T.keep _ _ _ st2 λ b hb o e=>by rw[<- hs3];exact Heap.get?_push_of_some _ e
  refine Ib λ h' hk hn ho ha=>?_
  have I4:=HU (loc:=loc) S I3 f3 hk hn ho ha lt3
  have fpX:∀ {H':Hp},(∀ b ∈ fp,H' b=none)->∀ b ∈ fp,CP (cCx X (loc ++ fr) scope s3 (upd H2 s2.heap.objs.size (.lst [])) fp) [] H' b:=λ hn b hb=>
    ⟨hn b hb,(I4.ok.exf b hb).1,I4.ok.exfs b hb,.inl hb,(I4.ok.exf b hb).2,λ p hp=>by cases hp⟩
  have loop:codeAny (model X.prog X.w) X.A (.compLoop (.ListComp elt [⟨tg,iter,ifs,0⟩] scope pos) 0 (.ref it) (.ref s2.heap.objs.size) (Ma scope s3.heap.objs.size X.env))
      (compPost (model X.prog X.w) X.A X.xe none (EP X pins σ Q) (.ref s2.heap.objs.size) s3.heap.objs.size) { s3 with heap:=h' }:=by
    refine GP (λ n s'=>∃ i σ' ys H',Inv (cCx X (loc ++ fr) scope s3 (upd H2 s2.heap.objs.size (.lst [])) fp) [] σ' H' s'/\tn i s'.heap/\(∀ b ∈ fp,H' b=none)/\W i n σ' ys H') ?_ m0
      ⟨0,_,[],_,I4,T.keep _ _ _ st3 λ b hb o e=>hk b o e,λ b hb=>(f3 b hb).1,w0⟩
    rintro n s5 ⟨i,σ5,ys,H5,I5,st5,fr5,w5⟩
    obtain⟨hD,w5⟩:=turn i n σ5 ys H5 w5
    rcases w5 with⟨stop,qn⟩|⟨go,hz,N,hN,step⟩
    . refine thn (T.done (cCx X (loc ++ fr) scope s3 (upd H2 s2.heap.objs.size (.lst [])) fp) rfl rfl rfl hc i [] s5 σ5 H5 _ I5 (fpX fr5) st5 stop) λ r s6 ⟨hr,I6⟩=>?_
      subst hr
      obtain⟨m,hm,_⟩:=I6.loc
      refine⟨m,hm,λ h'' hs=>?_⟩
      have neC:∀ b o,s3.heap.get? b=some o->b ≠ s3.heap.objs.size:=λ b o e=>Nat.ne_of_lt (Heap.lt_size e)
      have un:=I6.base
      refine⟨.ref s2.heap.objs.size,H5,I3.call' (s':={ s6 with heap:=h'' }) (ch:=fp) I6.os ⟨λ b o e n hb hx=>?_,λ b o e n hb hx=>?_,un.free,λ b o e hx=>?_,un.tups,un.frzs,un.tbls⟩ ?_ I6.bare ?_,rfl,qn⟩
      . exact(hs.2 b (neC b o e)).trans (un.keep b o e n hb hx)
      . obtain⟨sl,q⟩:=un.slot b o e n hb hx
        exact⟨sl,(hs.2 b (neC b o e)).trans q⟩
      . obtain⟨o',q⟩:=un.there b o e hx
        exact⟨o',(hs.2 b (neC b o e)).trans q⟩
      . intro b ob e
        have hfree:H5 s3.heap.objs.size=none:=I6.free
        refine(I6.hok b ob e).stay (λ c w' hc q=>(hs.2 c ?_).trans q) (λ _ q=>q) λ _ _ q=>q
        intro z
        rcases hc with hc|hc
        . rw[<- hc,z,hfree]at e;cases e
        . rw[z,hfree]at hc;cases hc
      . intro b hb
        obtain⟨_,a2,_,a4,a5,a6⟩:=f3 b hb
        exact⟨a4,a2,a5,a6⟩
    . refine thn (T.item (cCx X (loc ++ fr) scope s3 (upd H2 s2.heap.objs.size (.lst [])) fp) rfl rfl rfl hc i [] s5 σ5 H5 _ I5 (fpX fr5) st5 go) λ r s6 ⟨u,hr,h6⟩=>?_
      subst hr
      refine thn h6 λ _ s7 ⟨x,H7,I7,r7,y7,st7,fr7⟩=>?_
      have I7':=I7.pinned (fpX fr7) (T.obj _ _ st7)
      have keepI:∀ {σ8:St} {H8:Hp} {s8:Shared},Inv (cCx X (loc ++ fr) scope s3 (upd H2 s2.heap.objs.size (.lst [])) fp) ([] ++ EV fp s7.heap) σ8 H8 s8->tn (i + 1) s8.heap/\∀ b ∈ fp,H8 b=none:=λ {σ8 H8 s8} I8=>by
        refine⟨T.keep _ _ _ st7 λ b hb o e=>(I8.pin (b,o) (List.mem_append_right _ (List.mem_append_right _ (C4 hb e)))).1,λ b hb=>?_⟩
        obtain⟨o,e,d⟩:=T.obj _ _ st7 b hb
        exact(I8.pin (b,o) (List.mem_append_right _ (List.mem_append_right _ (C4 hb e)))).2.1
      refine thn (hg s3 (upd H2 s2.heap.objs.size (.lst [])) fp _ s7 σ5 H7 x u _ I7' r7 (step x H7 y7)) λ _ s8 ⟨σ8,H8,I8,q8⟩=>?_
      refine thn (hf s3 (upd H2 s2.heap.objs.size (.lst [])) fp _ s8 σ8 H8 _ I8 q8) λ b s9 ⟨H9,I9,q9⟩=>?_
      cases b with
      | false=>
        rw[if_neg Bool.false_ne_true]at q9 ⊢
        obtain⟨m',hm,w9⟩:=hN _ _ _ q9
        exact⟨m',hm,i + 1,σ8,ys,H9,I9.unpinned,(keepI I9).1,(keepI I9).2,w9⟩
      | true=>
        rw[if_pos rfl]at q9 ⊢
        refine thn (he s3 (upd H2 s2.heap.objs.size (.lst [])) fp _ s9 σ8 H9 _ I9 q9) λ e10 s10 ⟨v10,H10,I10,r10,hD10,n10⟩=>?_
        obtain⟨m',hm,w10⟩:=hN _ _ _ n10
        refine Ny (X:=cCx X (loc ++ fr) scope s3 (upd H2 s2.heap.objs.size (.lst [])) fp) I10 hD10 r10 hz λ _ s11 I11=>?_
        exact⟨m',hm,i + 1,σ8,_,_,I11.unpinned,(keepI I11).1,(keepI I11).2,w10⟩
  exact codeAny_compStart_list loop (T.self X.A 0 _ _ _ (T.keep _ _ _ st3 λ b hb o e=>hk b o e) loop)
end
end L2
namespace L2
open PySem PySem.Spec PyProof.Rows
section
variable{X:Cx}
theorem MW{elt tg iter:Expr}{ifs:List Expr}{scope:Scope}{pos:Pos}{loc fr:List Str}{ix:List Nat}{g:TG}{tf:TT}{te:TE}{pins:List (Addr × Obj)}{σ:St}{Q:VK}{it:Addr}{fp:List Addr}{tn:Nat->Heap->Prop}{J:It}{H2:Hp}{s2:Shared}{E:Value->Shared->Prop}
    {RR:Value->Addr->Result->Shared->Prop} (hc:X.calm=true) (S:CSc X scope fr ix)
    (hg:∀ s H ex,PG (cCx X (loc ++ fr) scope s H ex) tg g) (hf:∀ s H ex,PF (cCx X (loc ++ fr) scope s H ex) ifs tf) (he:∀ s H ex,PE (cCx X (loc ++ fr) scope s H ex) elt te)
    (I2:Inv X pins σ H2 s2) (T:Turn X.prog X.w X.K tg J fp it tn) (st2:tn 0 s2.heap) (f2:∀ b ∈ fp,CP X pins H2 b) (hW:∀ D,H2 D=none->Px J D (Fr loc.length ix σ) H2 g tf te Q)
    (hfin:∀ (s3 s6:Shared) (H5:Hp) (σ5:St) (D:Addr),Inv X pins σ (upd H2 D (.lst [])) s3->Inv (cCx X (loc ++ fr) scope s3 (upd H2 D (.lst [])) fp) [] σ5 H5 s6->(∀ b ∈ fp,CP X pins (upd H2 D (.lst [])) b)->Q (.ref D) H5->RR (.ref D) s3.heap.objs.size (.ok .next) s6) :
    wpAny (model X.prog X.w) X.A (newList []) (λ acc s₃=>wpAny (model X.prog X.w) X.A (newFunctionEnv scope X.env.globals (BC X.env.cells scope.names []) [] X.env.qual none .none (some X.env)) (λ cenv s₄=>
      codeAny (model X.prog X.w) X.A (.compStart (.ListComp elt [⟨tg,iter,ifs,0⟩] scope pos) 0 (.ref it) acc { cenv with scope:=relabel scope X.env }) (RR acc cenv.locals) s₄) E s₃) E s2:=by
  refine wpAny_newObj_type ?_
  have fresh2:H2 s2.heap.objs.size=none:=I2.hok.fresh (Nat.le_refl _)
  have I3:=I2.lnew (its:=[]) (ys:=[]) (t':=s2.toks) .nil (Nat.zero_le _)
  obtain⟨W,⟨m0,w0⟩,turn⟩:=hW s2.heap.objs.size fresh2
  have lt2:∀ b ∈ fp,b < s2.heap.objs.size:=λ b hb=>let ⟨o,e,_⟩:=T.obj 0 _ st2 b hb;Heap.lt_size e
  have f3:∀ b ∈ fp,CP X pins (upd H2 s2.heap.objs.size (.lst [])) b:=λ b hb=>⟨by rw[AO (Nat.ne_of_lt (lt2 b hb))];exact(f2 b hb).1,(f2 b hb).2⟩
  have lt3:∀ b ∈ fp,b < (s2.heap.push { cls:=.type "list",data:=.seq ([]:List Value).toArray }).objs.size:=λ b hb=>by rw[Heap.size_push];exact Nat.lt_succ_of_lt (lt2 b hb)
  generalize hs3:({ s2 with heap:=s2.heap.push { cls:=.type "list",data:=.seq ([]:List Value).toArray } }:Shared)=s3 at *
  have lt3:∀ b ∈ fp,b < s3.heap.objs.size:=by rw[<- hs3];exact lt3
  have st3:tn 0 s3.heap:=T.keep _ _ _ st2 λ b hb o e=>by rw[<- hs3];exact Heap.get?_push_of_some _ e
  refine Ib λ h' hk hn ho ha=>?_
  have I4:=HU (loc:=loc) S I3 f3 hk hn ho ha lt3
  have fpX:∀ {H':Hp},(∀ b ∈ fp,H' b=none)->∀ b ∈ fp,CP (cCx X (loc ++ fr) scope s3 (upd H2 s2.heap.objs.size (.lst [])) fp) [] H' b:=λ hn b hb=>
    ⟨hn b hb,(I4.ok.exf b hb).1,I4.ok.exfs b hb,.inl hb,(I4.ok.exf b hb).2,λ p hp=>by cases hp⟩
  have loop:codeAny (model X.prog X.w) X.A (.compLoop (.ListComp elt [⟨tg,iter,ifs,0⟩] scope pos) 0 (.ref it) (.ref s2.heap.objs.size) (Ma scope s3.heap.objs.size X.env))
      (RR (.ref s2.heap.objs.size) s3.heap.objs.size) { s3 with heap:=h' }:=by
    refine GP (λ n s'=>∃ i σ' ys H',Inv (cCx X (loc ++ fr) scope s3 (upd H2 s2.heap.objs.size (.lst [])) fp) [] σ' H' s'/\tn i s'.heap/\(∀ b ∈ fp,H' b=none)/\W i n σ' ys H') ?_ m0
      ⟨0,_,[],_,I4,T.keep _ _ _ st3 λ b hb o e=>hk b o e,λ b hb=>(f3 b hb).1,w0⟩
    rintro n s5 ⟨i,σ5,ys,H5,I5,st5,fr5,w5⟩
    obtain⟨hD,w5⟩:=turn i n σ5 ys H5 w5
    rcases w5 with⟨stop,qn⟩|⟨go,hz,N,hN,step⟩
    . refine thn (T.done (cCx X (loc ++ fr) scope s3 (upd H2 s2.heap.objs.size (.lst [])) fp) rfl rfl rfl hc i [] s5 σ5 H5 _ I5 (fpX fr5) st5 stop) λ r s6 ⟨hr,I6⟩=>?_
      subst hr
      exact hfin s3 s6 H5 σ5 s2.heap.objs.size I3 I6 f3 qn
    . refine thn (T.item (cCx X (loc ++ fr) scope s3 (upd H2 s2.heap.objs.size (.lst [])) fp) rfl rfl rfl hc i [] s5 σ5 H5 _ I5 (fpX fr5) st5 go) λ r s6 ⟨u,hr,h6⟩=>?_
      subst hr
      refine thn h6 λ _ s7 ⟨x,H7,I7,r7,y7,st7,fr7⟩=>?_
      have I7':=I7.pinned (fpX fr7) (T.obj _ _ st7)
      have keepI:∀ {σ8:St} {H8:Hp} {s8:Shared},Inv (cCx X (loc ++ fr) scope s3 (upd H2 s2.heap.objs.size (.lst [])) fp) ([] ++ EV fp s7.heap) σ8 H8 s8->tn (i + 1) s8.heap/\∀ b ∈ fp,H8 b=none:=λ {σ8 H8 s8} I8=>by
        refine⟨T.keep _ _ _ st7 λ b hb o e=>(I8.pin (b,o) (List.mem_append_right _ (List.mem_append_right _ (C4 hb e)))).1,λ b hb=>?_⟩
        obtain⟨o,e,d⟩:=T.obj _ _ st7 b hb
        exact(I8.pin (b,o) (List.mem_append_right _ (List.mem_append_right _ (C4 hb e)))).2.1
      refine thn (hg s3 (upd H2 s2.heap.objs.size (.lst [])) fp _ s7 σ5 H7 x u _ I7' r7 (step x H7 y7)) λ _ s8 ⟨σ8,H8,I8,q8⟩=>?_
      refine thn (hf s3 (upd H2 s2.heap.objs.size (.lst [])) fp _ s8 σ8 H8 _ I8 q8) λ b s9 ⟨H9,I9,q9⟩=>?_
      cases b with
      | false=>
        rw[if_neg Bool.false_ne_true]at q9 ⊢
        obtain⟨m',hm,w9⟩:=hN _ _ _ q9
        exact⟨m',hm,i + 1,σ8,ys,H9,I9.unpinned,(keepI I9).1,(keepI I9).2,w9⟩
      | true=>
        rw[if_pos rfl]at q9 ⊢
        refine thn (he s3 (upd H2 s2.heap.objs.size (.lst [])) fp _ s9 σ8 H9 _ I9 q9) λ e10 s10 ⟨v10,H10,I10,r10,hD10,n10⟩=>?_
        obtain⟨m',hm,w10⟩:=hN _ _ _ n10
        refine Ny (X:=cCx X (loc ++ fr) scope s3 (upd H2 s2.heap.objs.size (.lst [])) fp) I10 hD10 r10 hz λ _ s11 I11=>?_
        exact⟨m',hm,i + 1,σ8,_,_,I11.unpinned,(keepI I11).1,(keepI I11).2,w10⟩
  exact codeAny_compStart_list loop (T.self X.A 0 _ _ _ (T.keep _ _ _ st3 λ b hb o e=>hk b o e) loop)
theorem Ki{scope:Scope}{N':List Str}{fp:List Addr}{pins:List (Addr × Obj)}{σ σ5:St}{H3 H5:Hp}{s3 s6:Shared}{h'':Heap}(I3:Inv X pins σ H3 s3)(I6:Inv (cCx X N' scope s3 H3 fp) [] σ5 H5 s6)(f3:∀ b ∈ fp,CP X pins H3 b)
    (hs:Heap.SameBut s3.heap.objs.size s6.heap h''):Inv X pins σ H5 { s6 with heap:=h'' }:=by
  have neC:∀ b o,s3.heap.get? b=some o->b ≠ s3.heap.objs.size:=λ b o e=>Nat.ne_of_lt (Heap.lt_size e)
  have un:=I6.base
  refine I3.call' (s':={ s6 with heap:=h'' }) (ch:=fp) I6.os ⟨λ b o e n hb hx=>?_,λ b o e n hb hx=>?_,un.free,λ b o e hx=>?_,un.tups,un.frzs,un.tbls⟩ ?_ I6.bare ?_
  . exact(hs.2 b (neC b o e)).trans (un.keep b o e n hb hx)
  . obtain⟨sl,q⟩:=un.slot b o e n hb hx
    exact⟨sl,(hs.2 b (neC b o e)).trans q⟩
  . obtain⟨o',q⟩:=un.there b o e hx
    exact⟨o',(hs.2 b (neC b o e)).trans q⟩
  . intro b ob e
    have hfree:H5 s3.heap.objs.size=none:=I6.free
    refine(I6.hok b ob e).stay (λ c w' hc q=>(hs.2 c ?_).trans q) (λ _ q=>q) λ _ _ q=>q
    intro z
    rcases hc with hc|hc
    . rw[<- hc,z,hfree]at e;cases e
    . rw[z,hfree]at hc;cases hc
  . intro b hb
    obtain⟨_,a2,_,a4,a5,a6⟩:=f3 b hb
    exact⟨a4,a2,a5,a6⟩
theorem R9{i:Nat}{y:Str}{elt tg iter:Expr}{ifs:List Expr}{scope:Scope}{pos spos py:Pos}{loc fr:List Str}{ix:List Nat}{wi:TI}{g:TG}{tf:TT}{te:TE}(hN:X.N.Nodup)(hiN:X.N[i]? = some y)(hy:X.env.scope.names.lookup y=some .local)
    (hc:X.calm=true) (S:CSc X scope fr ix) (hi:PI X tg iter wi)
    (hg:∀ s H ex,PG (cCx X (loc ++ fr) scope s H ex) tg g) (hf:∀ s H ex,PF (cCx X (loc ++ fr) scope s H ex) ifs tf) (he:∀ s H ex,PE (cCx X (loc ++ fr) scope s H ex) elt te)
    (hsw:swapsWith (.ListComp elt [⟨tg,iter,ifs,0⟩] scope pos) (some (.Name y py)) spos.line X.env=pure true:=by rfl) (hs:∀ x,foldedSetIterable iter X.env x=pure x:=by intro _;rfl) :
    PS X (.Assign [.Name y py] (.ListComp elt [⟨tg,iter,ifs,0⟩] scope pos) spos) (FX (Hi loc.length ix wi g tf te) (Fj i)):=by
  intro pins s σ H D I h
  have hnames:∀ y ∈ scope.names,y.2=.local->scope.names.lookup y.1=some .local:=λ y hy e=>by
    have:=List.all_eq_true.mp S.loc y hy
    rw[e]at this
    simpa using this
  rw[exec_Assign_Name_used _ _ _ _ hsw]
  refine wpAny_bind (wpAny_standAt (wpAny_bind ?_))
  show wpAny _ _ (do let _ <- comprehension (.ListComp elt [⟨tg,iter,ifs,0⟩] scope pos) scope X.env _ (newList []) false (eval iter X.env) (some (assign (.Name y py) X.env))) _ _ s
  refine wpAny_bind (wpAny_mono (wpAny_comprehension_free (use:=some (assign (.Name y py) X.env)) (Q:=λ _ s'=>SP X pins D .next s') rfl hs (E7 (S.clos I.ok)) S.kind hnames
    (thn (hi pins s σ H _ I h) λ v s1 h1=>thn h1 λ itv s2 h2=>?_)) (λ _ s' hq=>wpAny_pure (wpAny_pure hq)) λ _ _ e=>e)
  obtain⟨it,fp,tn,J,H2,rfl,I2,T,st2,f2,hW⟩:=h2
  refine MW (RR:=λ acc C=>compPost (model X.prog X.w) X.A X.xe (some (assign (.Name y py) X.env)) (λ _ s'=>SP X pins D .next s') acc C) hc S hg hf he I2 T st2 f2 hW λ s3 s6 H5 σ5 L I3 I6 f3 q=>?_
  have J6:Inv X pins σ H5 s6:=Ki (h'':=s6.heap) I3 I6 f3 (.refl ..)
  obtain⟨m,hm,_⟩:=I6.loc
  have hm:s6.heap.Ns s3.heap.objs.size m:=hm
  have hL:s3.heap.objs.size ≠ X.env.locals:=Ne.symm (Nat.ne_of_lt I3.lt)
  show wpAny _ _ (assign (.Name y py) X.env (.ref L)) _ _ s6
  refine wpAny_assign_Name (Iu (v:=.ref L) J6 hN hiN (.inl hy) rfl (λ s7 I7 ⟨a,sb,ha⟩=>?_) (.inr hy))
  have hca:s3.heap.objs.size ≠ a:=by
    rcases ha with rfl|ha
    . exact hL
    . obtain⟨v,z⟩:=I3.cell y a ha
      exact Ne.symm (Nat.ne_of_lt z.lt)
  refine⟨m,hm.sameBut sb hca,λ h' hs'=>?_⟩
  refine⟨_,H5,I7.turned (t':=s7.toks) (it:=s3.heap.objs.size) (λ b o hb e=>(hs'.2 b hb).trans e) I6.free hL (.inr I3.sz) (λ x c e z=>?_) (λ p hp z=>?_),q⟩
  . obtain⟨v,w⟩:=I3.cell x c e
    exact absurd w.lt (by rw[z];exact Nat.lt_irrefl _)
  . exact absurd (Heap.lt_size (I3.pin p hp).1) (by rw[z];exact Nat.lt_irrefl _)
end
end L2
namespace L2
open PySem PySem.Spec PyProof.Rows
mutual
noncomputable def Rep(K:PySem.W.Frag)(H:Hp):PyData->V->Prop
  | .none,v=>v=.non
  | .bool b,v=>v=.bl b
  | .int i,v=>v=.int i
  | .str x,v=>v=.str x
  | .list ds,v=>∃ a xs,v=.ref a/\SqL K H a xs/\CJ K H ds xs
  | .tuple ds,v=>∃ a xs,v=.ref a/\SqT K H a xs/\CJ K H ds xs
  | .dict _,_=>False
noncomputable def CJ(K:PySem.W.Frag)(H:Hp):List PyData->List V->Prop
  | [],xs=>xs=[]
  | d :: ds,xs=>∃ x r,xs=x :: r/\Rep K H d x/\CJ K H ds r
end
section
variable{X:Cx}{pins:List (Addr × Obj)}{σ:St}{H:Hp}{s:Shared}
mutual
theorem Dp(I:Inv X pins σ H s):∀ (d:PyData) (v:V) (u:Value),Rep X.K H d v->RelV v u->∃ as,Reads s.heap u d as
  | .none,v,u,h,r=>by
    have h:v=.non:=by simpa only[Rep]using h
    subst h;cases r;exact⟨_,.none⟩
  | .bool b,v,u,h,r=>by
    have h:v=.bl b:=by simpa only[Rep]using h
    subst h;cases r;exact⟨_,.bool b⟩
  | .int i,v,u,h,r=>by
    have h:v=.int i:=by simpa only[Rep]using h
    subst h;obtain⟨t,rfl⟩:=r;exact⟨_,.int i t⟩
  | .str x,v,u,h,r=>by
    have h:v=.str x:=by simpa only[Rep]using h
    subst h;obtain⟨t,rfl⟩:=r;exact⟨_,.str x t⟩
  | .list ds,v,u,h,r=>by
    have h:∃ a xs,v=.ref a/\SqL X.K H a xs/\CJ X.K H ds xs:=by simpa only[Rep]using h
    obtain⟨a,xs,rfl,hq,ha⟩:=h
    cases r
    obtain⟨its,rv,⟨o,n,e,c,_,dd⟩,hz⟩:=I.list hq
    obtain⟨as,q⟩:=ET I ds xs its ha rv
    exact⟨_,.list e c dd (by simpa using q)⟩
  | .tuple ds,v,u,h,r=>by
    have h:∃ a xs,v=.ref a/\SqT X.K H a xs/\CJ X.K H ds xs:=by simpa only[Rep]using h
    obtain⟨a,xs,rfl,hq,ha⟩:=h
    cases r
    obtain⟨its,rv,⟨o,e,c,n,dd⟩,hz⟩:=I.tuple hq
    obtain⟨as,q⟩:=ET I ds xs its ha rv
    exact⟨_,.tuple e c dd (by simpa using q)⟩
  | .dict _,v,u,h,r=>by
    have h:False:=by simpa only[Rep]using h
    exact h.elim
theorem ET(I:Inv X pins σ H s):∀ (ds:List PyData) (xs:List V) (us:List Value),CJ X.K H ds xs->Vals xs us->∃ as,ReadsAll s.heap us ds as
  | [],xs,us,h,r=>by
    have h:xs=[]:=by simpa only[CJ]using h
    subst h;cases r;exact⟨_,.nil⟩
  | d :: ds,xs,us,h,r=>by
    have h:∃ x r,xs=x :: r/\Rep X.K H d x/\CJ X.K H ds r:=by simpa only[CJ]using h
    obtain⟨x,rr,rfl,h1,h2⟩:=h
    cases r with
    | cons r1 r2=>
      obtain⟨as,q1⟩:=Dp I d _ _ h1 r1
      obtain⟨bs,q2⟩:=ET I ds _ _ h2 r2
      exact⟨_,.cons q1 q2⟩
end
end
structure Grow(H H':Hp):Prop where
  tup:∀ b xs,H b=some (.tup xs)->H' b=some (.tup xs)
  frz:∀ b o u,H b=some (.frz o u)->H' b=some (.frz o u)
theorem Grow.refl{H:Hp}:Grow H H:=⟨λ _ _ h=>h,λ _ _ _ h=>h⟩
noncomputable def Chg(H:Hp)(p:Addr):Prop:=(∀ xs,H p ≠ some (.tup xs))/\∀ o u,H p ≠ some (.frz o u)
theorem Grow.put{H H':Hp}{p:Addr}{o:HO}(a:Grow H H')(h:Chg H' p):Grow H (upd H' p o):=⟨λ c xs e=>by
  have q:=a.tup c xs e
  have n:c ≠ p:=λ z=>h.1 xs (by rw[<- z];exact q)
  rw[AO n];exact q,λ c z u e=>by
  have q:=a.frz c z u e
  have n:c ≠ p:=λ w=>h.2 z u (by rw[<- w];exact q)
  rw[AO n];exact q⟩
theorem Chg.lst{H:Hp}{p:Addr}{xs:List V}(h:H p=some (.lst xs)):Chg H p:=⟨(λ _ e=>by rw[h]at e;cases e),(λ _ _ e=>by rw[h]at e;cases e)⟩
theorem Grow.sq{K:PySem.W.Frag}{H H':Hp}{a:Addr}{xs:List V}(g:Grow H H')(h:SqT K H a xs):SqT K H' a xs:=by
  rcases h with(h|⟨o,h⟩)|h
  . exact .inl (.inl (g.tup _ _ h))
  . exact .inl (.inr ⟨o,g.frz _ _ _ h⟩)
  . exact .inr h
section
variable{X:Cx}
noncomputable def Oe(K:PySem.W.Frag):R2:=λ x y H Q=>∃ d e,Rep K H d x/\Rep K H e y/\d.canLay0=true/\e.canLay0=true/\min d.depth e.depth <= 60/\Q (.bl (!PyData.eqv d e)) H
noncomputable def Oh(K:PySem.W.Frag):R2:=λ x y H Q=>∃ d e,Rep K H d x/\Rep K H e y/\d.canLay0=true/\e.canLay0=true/\min d.depth e.depth <= 60/\Q (.bl (PyData.eqv d e)) H
theorem Tm(hu:X.A.units + 64 < cLine):OpR X (compareOp .NotEq) (Oe X.K):=by
  intro pins s σ H x y v u Q I rx ry h
  obtain⟨d,e,h1,h2,c1,c2,hm,q⟩:=h
  obtain⟨as,q1⟩:=Dp I d x v h1 rx
  obtain⟨bs,q2⟩:=Dp I e y u h2 ry
  exact PySem.SeqAt.compareNe_reads q1 q2 c1 c2 (by omega) ⟨.bl _,H,I,rfl,q⟩
theorem Tn(hu:X.A.units + 64 < cLine):OpR X (compareOp .Eq) (Oh X.K):=by
  intro pins s σ H x y v u Q I rx ry h
  obtain⟨d,e,h1,h2,c1,c2,hm,q⟩:=h
  obtain⟨as,q1⟩:=Dp I d x v h1 rx
  obtain⟨bs,q2⟩:=Dp I e y u h2 ry
  exact PySem.SeqAt.compareEq_reads q1 q2 c1 c2 (by omega) ⟨.bl _,H,I,rfl,q⟩
theorem Gi:∀ {ns:List Int} {us:List Value},Vals (ns.map V.int) us->IntsAre us ns
  | [],_,.nil=>.nil
  | n :: ns,_,.cons r t=>by obtain⟨k,rfl⟩:=r;exact .cons _ _ (Gi t)
theorem No(hc:X.calm=true):CallR X (.builtin "sum") (λ xs H Q=>∃ (a:Addr) (ns:List Int),xs=[.ref a]/\SqL X.K H a (ns.map V.int)/\Q (.int ns.sum) H):=by
  intro pins s σ H xs us Q I r h
  obtain⟨a,ns,rfl,hq,q⟩:=h
  obtain⟨u,rfl,ru⟩:=Cf r
  cases ru
  obtain⟨its,rv,p,hz⟩:=I.list hq
  have hi:=Gi rv
  obtain⟨xs,hx⟩:=hi.allInts.items
  have hl':s.heap.IsList a (intItems xs):=hx ▸ p.isList
  refine sum_intListG (I.ok.hd hc) hl' λ h' tk t' hk=>?_
  have e1:ns=xs.toList.map (·.1):=by
    rw[<- nums_intItems,<- hx]
    exact(show numsOf its.toArray.toList=ns from hi.numsOf).symm
  have e2:preSum (numAt xs) xs.size=ns.sum:=by
    rw[preSum_eq,List.take_of_length_le (by simp),e1]
  rw[e2]
  exact⟨.int ns.sum,H,I.kept hk,⟨_,rfl⟩,q⟩
end
end L2
namespace L2
open PySem PySem.Spec PyProof.Rows
section
variable(K:PySem.W.Frag){X:Cx}
theorem KN(hK:X.K=K:=by rfl):IxR X (Og K):=by subst hK;exact Rt
theorem LG(hK:X.K=K:=by rfl):IxR X (Of K):=by subst hK;exact U2
theorem OK(hK:X.K=K:=by rfl):SlR X (Lw K):=by subst hK;exact QJ
theorem QH(hK:X.K=K:=by rfl):SlR X (Lv K):=by subst hK;exact SU
theorem Hx(hK:X.K=K:=by rfl):OpR X (compareOp .In) (rIn K false):=by subst hK;exact NJ
theorem Er(hK:X.K=K:=by rfl):OpR X (compareOp .NotIn) (rIn K true):=by subst hK;exact KC
theorem DG(hu:X.A.units + 64 < cLine)(hK:X.K=K:=by rfl):OpR X (compareOp .Eq) (Oh K):=by subst hK;exact Tn hu
theorem Ia(hu:X.A.units + 64 < cLine)(hK:X.K=K:=by rfl):OpR X (compareOp .NotEq) (Oe K):=by subst hK;exact Tm hu
theorem BA(hK:X.K=K:=by rfl):OpR X (binaryOp .Add) (Ly K):=by subst hK;exact Rh
noncomputable def T6:List V->Hp->VK->Prop:=λ xs H Q=>∃ p ys,xs=[.ref p]/\(SqL K H p ys ∨ SqT K H p ys)/\Q (.int ys.length) H
theorem Au(hK:X.K=K:=by rfl):CallR X (.builtin "len") (T6 K):=by subst hK;exact KY
noncomputable def IX:List V->Hp->VK->Prop:=λ xs H Q=>∃ p ys,xs=[.ref p]/\(SqL K H p ys ∨ SqT K H p ys)/\∀ l,H l=none->Q (.ref l) (upd H l (.lst ys))
theorem MZ(hK:X.K=K:=by rfl):CallR X (.type "list") (IX K):=by subst hK;exact KW
noncomputable def K0:List V->Hp->VK->Prop:=λ xs H Q=>∃ p ys,xs=[.ref p]/\((SqL K H p ys/\∀ l,H l=none->Q (.ref l) (upd H l (.tup ys))) ∨ (SqT K H p ys/\Q (.ref p) H))
theorem Gy(hK:X.K=K:=by rfl):CallR X (.type "tuple") (K0 K):=by subst hK;exact JF
noncomputable def Pj:List V->Hp->VK->Prop:=λ xs H Q=>∃ (a:Addr) (ns:List Int),xs=[.ref a]/\SqL K H a (ns.map V.int)/\Q (.int ns.sum) H
theorem Ew(hc:X.calm=true)(hK:X.K=K:=by rfl):CallR X (.builtin "sum") (Pj K):=by subst hK;exact No hc
theorem KA{tg l:Expr}{tl:TE}(hl:PE X l tl)(hK:X.K=K:=by rfl):PI X tg l (IJ K tl):=by subst hK;exact RW hl
theorem L8{tg l:Expr}{tl:TE}(hl:PE X l tl)(hK:X.K=K:=by rfl):PI X tg l (KO K tl):=by subst hK;exact TW hl
theorem RZ{pos:Pos}{es:List Expr}{k:Nat}{t:TGs}{n:Nat}(hc:X.calm=true)(h:PGs X es t)(hK:X.K=K:=by rfl)
    (hn:(assignEach es X.env).length=n:=by rfl) (hst:(assignEach es X.env).findIdx? (·.1)=none:=by rfl):PG X (.Tuple es k pos) (MN K n t):=by
  subst hK
  exact TX hc h hn hst
end
section
variable(K:PySem.W.Frag){X:Cx}
end
end L2
namespace L2
open PySem PySem.Spec PyProof.Rows
section
variable(K:PySem.W.Frag){X:Cx}
theorem GR:∀ {bs:List Bool} {us:List Value} {i:Nat} {v:Value},Vals (bs.map V.bl) us->us[i]? = some v->∃ b,bs[i]? = some b/\v=.bool b
  | [],_,_,_,.nil,e=>by simp at e
  | b :: bs,_,0,_,.cons r _,e=>by simp at e;subst e;exact⟨b,rfl,r⟩
  | b :: bs,_,i + 1,_,.cons _ t,e=>by
    obtain⟨c,h1,h2⟩:=GR (i:=i) t (by simpa using e)
    exact⟨c,by simpa using h1,h2⟩
noncomputable def T8:List V->Hp->VK->Prop:=λ xs H Q=>∃ (a:Addr) (bs:List Bool),xs=[.ref a]/\SqL K H a (bs.map V.bl)/\Q (.bl (bs.all id)) H
noncomputable def T7:List V->Hp->VK->Prop:=λ xs H Q=>∃ (a:Addr) (bs:List Bool),xs=[.ref a]/\SqL K H a (bs.map V.bl)/\Q (.bl (bs.any id)) H
theorem Nt(hc:X.calm=true)(hK:X.K=K:=by rfl):CallR X (.builtin "all") (T8 K):=by
  subst hK
  intro pins s σ H xs us Q I r h
  obtain⟨a,bs,rfl,hq,q⟩:=h
  obtain⟨u,rfl,ru⟩:=Cf r
  cases ru
  obtain⟨its,rv,p,hz⟩:=I.list hq
  have hl:=p.isList
  have hlen:=rv.length
  have hlt:a < s.heap.objs.size:=by obtain⟨_,e,_⟩:=hl;exact Heap.lt_size e
  refine call_all_walk (wpAny_pyIter_list hl ?_)
  refine⟨s.heap.objs.size,[s.heap.objs.size,a],[s.heap.objs.size],its.toArray.size,_,_,λ i=>(bs[i]?).getD true,rfl,Walks.list (A:=X.A.in1) (I.ok.hd hc) _ a (Nat.ne_of_lt hlt) its.toArray,
    ⟨⟨_,Heap.get?_push_size _ rfl,rfl,rfl⟩,hl.push _⟩,λ i v s' Q' E' hP hQ=>?_,λ h' tk hk=>?_⟩
  . obtain⟨b,e,rfl⟩:=GR rv (by simpa using hP)
    simp only[e,Option.getD_some]at hQ
    exact wpAny_truthy_bool hQ
  . have e:((List.range its.toArray.size).all λ i=>(bs[i]?).getD true)=bs.all id:=by
      rw[List.size_toArray,<- hlen,List.length_map];exact LSm.range_all bs
    rw[e]
    exact⟨.bl _,H,I.kept (LSm.kept_iter hk),rfl,q⟩
theorem Nr(hc:X.calm=true)(hK:X.K=K:=by rfl):CallR X (.builtin "any") (T7 K):=by
  subst hK
  intro pins s σ H xs us Q I r h
  obtain⟨a,bs,rfl,hq,q⟩:=h
  obtain⟨u,rfl,ru⟩:=Cf r
  cases ru
  obtain⟨its,rv,p,hz⟩:=I.list hq
  have hl:=p.isList
  have hlen:=rv.length
  have hlt:a < s.heap.objs.size:=by obtain⟨_,e,_⟩:=hl;exact Heap.lt_size e
  refine call_any_walk (wpAny_pyIter_list hl ?_)
  refine⟨s.heap.objs.size,[s.heap.objs.size,a],[s.heap.objs.size],its.toArray.size,_,_,λ i=>(bs[i]?).getD false,rfl,Walks.list (A:=X.A.in1) (I.ok.hd hc) _ a (Nat.ne_of_lt hlt) its.toArray,
    ⟨⟨_,Heap.get?_push_size _ rfl,rfl,rfl⟩,hl.push _⟩,λ i v s' Q' E' hP hQ=>?_,λ h' tk hk=>?_⟩
  . obtain⟨b,e,rfl⟩:=GR rv (by simpa using hP)
    simp only[e,Option.getD_some]at hQ
    exact wpAny_truthy_bool hQ
  . have e:((List.range its.toArray.size).any λ i=>(bs[i]?).getD false)=bs.any id:=by
      rw[List.size_toArray,<- hlen,List.length_map];exact LSm.range_any bs
    rw[e]
    exact⟨.bl _,H,I.kept (LSm.kept_iter hk),rfl,q⟩
noncomputable def IW:List V->Hp->VK->Prop:=λ xs H Q=>∃ (a:Addr) (ns:List Int),xs=[.ref a]/\SqL K H a (ns.map V.int)/\ns.length < 64/\∀ (p:Addr) (ns':List Int),H p=none->ns'.Perm ns->ns'.Pairwise (· <= ·)->Q (.ref p) (upd H p (.lst (ns'.map V.int)))
theorem Ko:∀ {ns:List Int} {us:List Value},IntsAre us ns->Vals (ns.map V.int) us
  | [],_,.nil=>.nil
  | _ :: _,_,.cons _ _ t=>.cons ⟨_,rfl⟩ (Ko t)
theorem KU(hK:X.K=K:=by rfl):CallR X (.builtin "sorted") (IW K):=by
  subst hK
  intro pins s σ H xs us Q I r h
  obtain⟨a,ns,rfl,hq,h64,q⟩:=h
  obtain⟨u,rfl,ru⟩:=Cf r
  cases ru
  obtain⟨its,rv,p,hz⟩:=I.list hq
  have hlen:=rv.length
  rw[List.length_map]at hlen
  refine sorted_ints p.isList (Gi rv) (by omega) λ out ns' a1 a2 a3=>?_
  obtain⟨e,he⟩:=sortedAll_at s.heap its out
  have hl':ns'.length=ns.length:=a2.length_eq
  refine⟨.ref (s.heap.objs.size + 1),_,I.laid (a:=s.heap.objs.size + 1) (o:=.lst (ns'.map V.int)) (t':=s.toks) (λ b o hb=>sortedAll_old hb) (Nat.le_succ _) ⟨?_,out.toList,e,Ko a1,he⟩,rfl,q _ _ (I.hok.fresh (Nat.le_succ _)) a2 a3⟩
  rw[List.length_map,hl']
  exact Nat.le_of_lt (Iv (by omega))
end
end L2
namespace L2
open PySem PySem.Spec PyProof.Rows
section
variable{prog:Program}{w:World}{A:Around}{E:Value->Shared->Prop}{s:Shared}{l:Addr}{xs:Array (Int × Tok)}
theorem JE{Q:Value->Shared->Prop}(hl:s.heap.IsTuple l (intItems xs))
    (h:∀ s₂:Shared,s₂={ s with heap:=s.heap.push { cls:=.type "tuple_iterator",data:=.fields #[.ref l,.int 0 0] } } ->
      (s₂.heap.IsTupleIter s.heap.objs.size l 0/\s₂.heap.IsTuple l (intItems xs))->(∀ b ∈ [s.heap.objs.size,l],b < s₂.heap.objs.size)->l ≠ s.heap.objs.size->Q (.ref s.heap.objs.size) s₂) :
    wpAny (model prog w) A (pyIter (.ref l)) Q E s:=by
  have hlt:l < s.heap.objs.size:=by obtain⟨_,e,_⟩:=hl;exact Heap.lt_size e
  refine wpAny_pyIter_tuple hl (h _ rfl ⟨⟨_,Heap.get?_push_size _ rfl,rfl,rfl⟩,hl.push _⟩ (λ b hb=>?_) (Nat.ne_of_lt hlt))
  show b < (s.heap.push _).objs.size
  rw[Heap.size_push]
  rcases List.mem_cons.mp hb with rfl|hb
  . exact Nat.lt_succ_self _
  . rcases List.mem_cons.mp hb with rfl|hb
    . exact Nat.lt_succ_of_lt hlt
    . cases hb
theorem NK{h':Heap}{o:Obj}(hk:∀ b x,b ∉ [s.heap.objs.size]->(s.heap.push o).get? b=some x->h'.get? b=some x):∀ b x,s.heap.get? b=some x->h'.get? b=some x:=
  λ b x e=>hk b x (λ hm=>by rw[List.mem_singleton.mp hm]at e;exact Nat.lt_irrefl _ (Heap.lt_size e)) (Heap.get?_push_of_some _ e)
theorem Jf{Q:Value->Shared->Prop}(hh:A.handled=none)(hl:s.heap.IsTuple l (intItems xs))
    (h:∀ h' tk t',(∀ b o,s.heap.get? b=some o->h'.get? b=some o)->Q (.int (preSum (numAt xs) xs.size) t') { s with heap:=h',toks:=tk }) :
    wpAny (model prog w) A (call (.builtin "sum") [.ref l]) Q E s:=by
  refine call_sum_walkG (JE hl λ s₂ e st hfp hlI=>?_)
  subst e
  refine⟨_,_,_,_,_,_,numAt xs,rfl,Walks.tuple (A:=A.in1) hh _ l hlI (intItems xs),st,hfp,(λ _ _=>intItems_at),λ h' tk t' hk=>?_⟩
  have:=h h' tk t' (NK hk)
  simpa [intItems]using this
end
section
variable(K:PySem.W.Frag){X:Cx}
noncomputable def Pi:List V->Hp->VK->Prop:=λ xs H Q=>∃ (a:Addr) (ns:List Int),xs=[.ref a]/\SqT K H a (ns.map V.int)/\Q (.int ns.sum) H
theorem EI(hc:X.calm=true)(hK:X.K=K:=by rfl):CallR X (.builtin "sum") (Pi K):=by
  subst hK
  intro pins s σ H xs us Q I r h
  obtain⟨a,ns,rfl,hq,q⟩:=h
  obtain⟨u,rfl,ru⟩:=Cf r
  cases ru
  obtain⟨its,rv,p,hz⟩:=I.tuple hq
  have hi:=Gi rv
  obtain⟨xs,hx⟩:=hi.allInts.items
  have hl':s.heap.IsTuple a (intItems xs):=hx ▸ (show s.heap.IsTuple a its.toArray from p)
  refine Jf (I.ok.hd hc) hl' λ h' tk t' hk=>?_
  have e1:ns=xs.toList.map (·.1):=by
    rw[<- nums_intItems,<- hx]
    exact(show numsOf its.toArray.toList=ns from hi.numsOf).symm
  have e2:preSum (numAt xs) xs.size=ns.sum:=by
    rw[preSum_eq,List.take_of_length_le (by simp),e1]
  rw[e2]
  exact⟨.int ns.sum,H,I.kept hk,⟨_,rfl⟩,q⟩
end
end L2
namespace L2
open PySem PySem.Spec PyProof.Rows
structure DefAt(K:PySem.W.Frag)(mg:Str->Option Value)(x:Str)(st:Stmt)(f:Addr)(fd:FuncData)(ps:List Str):Prop where
  fn:Fun K x x st f fd
  mg:mg x=some (.ref f)
  bd:Binds K fd ps []
theorem M4{X:Cx}{j k:Nat}{f:Addr}{fd:FuncData}{ps:List Str}{sp:Sp}{x:Str}{st:Stmt}{e:Expr}{es:List Expr}{t:TA}{p pos:Pos}(F:FnOk X.prog X.w X.K X.mg X.base CX0 j f fd ps sp)(hr:Room k X.A)(D:DefAt X.K X.mg x st f fd ps)(ha:PA X (e :: es) t)
    (hjk:j <= k:=by decide) (hg:Gl X x:=by rfl) (hdb:(x == ("__debug__":Str))=false:=by decide) (he:starEach (e :: es) X.env=(false,eval e X.env) :: starEach es X.env:=by rfl) (hpl:(backTo pos (starEach es X.env)).any (·.1)=false:=by rfl) :
    PE X (.Call (.Name x p) (e :: es) [] pos) (En sp [] E0 t):=
  Re (F.mono hjk) hr hg D.mg D.fn.kp D.bd .nil Uz ha hdb he hpl
noncomputable def Le(i j k:Nat)(ta:TA):TS:=λ D σ H=>ta σ H λ vs H1=>∃ v w z,vs=[v,w,z]/\D.nx (((σ.set k (some z)).set j (some w)).set i (some v)) H1
theorem RJ{X:Cx}{i j k:Nat}{x y z:Str}{a b c:Expr}{ta:TA}{px py pz pt pos:Pos}{kt k2 pt2}(hc:X.calm=true)(hN:X.N.Nodup)(hi:X.N[i]? = some x)(hj:X.N[j]? = some y)(hk:X.N[k]? = some z)
    (hx:X.env.scope.names.lookup x=some .local) (hy:X.env.scope.names.lookup y=some .local) (hz:X.env.scope.names.lookup z=some .local) (ha:PA X [a,b,c] ta)
    (hw:swappedStores [.Tuple [.Name x px,.Name y py,.Name z pz] kt pt] (.Tuple [a,b,c] k2 pt2) X.env=pure (some [x,y,z]))
    (hs:swapsWithSole [.Tuple [.Name x px,.Name y py,.Name z pz] kt pt] (.Tuple [a,b,c] k2 pt2) pos.line X.env=pure false:=by rfl) :
    PS X (.Assign [.Tuple [.Name x px,.Name y py,.Name z pz] kt pt] (.Tuple [a,b,c] k2 pt2) pos) (Le i j k ta):=by
  intro pins s σ H D I h
  rw[exec_Assign_arm]
  refine wpAny_bind (wpAny_standAt ?_)
  rw[hs]
  refine wpAny_bind (wpAny_pure ?_)
  rw[if_neg (by decide)]
  refine wpAny_bind (Tuple_ (thn (ha _ pins s σ H _ I h) λ us s1 ⟨vs,H1,I1,r1,q1⟩=>?_))
  obtain⟨v,w,q,e1,q1⟩:=q1
  subst e1
  obtain⟨u1,u2,u3,rfl,rv,rw',rq⟩:∃ u1 u2 u3,us=[u1,u2,u3]/\RelV v u1/\RelV w u2/\RelV q u3:=by
    cases r1 with
    | cons p1 q1=>
      cases q1 with
      | cons p2 q2=>
        cases q2 with
        | cons p3 q3=>
          cases q3
          exact⟨_,_,_,rfl,p1,p2,p3⟩
  refine wpAny_newObj_type ?_ (by show 3 <= sizeLine;decide)
  have I2:Inv X pins σ H1 { s1 with heap:=s1.heap.push { cls:=.type "tuple",data:=.seq [u1,u2,u3].toArray } }:=I1.kept (t':=s1.toks) λ b o e=>Heap.get?_push_of_some _ e
  rw[hw]
  refine wpAny_bind (wpAny_pure ?_)
  show wpAny (model X.prog X.w) X.A (do rule "assign.swapped-stores";let items <- unpackItems (.ref s1.heap.objs.size) 3 none;assignInOrder [λ v=>bindName X.env z v,λ v=>bindName X.env y v,λ v=>bindName X.env x v] items.reverse;pure Flow.next) _ _ _
  refine wpAny_bind (wpAny_rule (wpAny_bind (unpackItems_tuple (items:=#[u1,u2,u3]) (I.ok.hd hc) (IsTup.new s1.heap _) λ h' hx'=>?_)))
  have I3:=I2.kept (h':=h') (t':=s1.toks) λ b o e=>hx' b o (Nat.ne_of_lt (Heap.lt_size e)) e
  show wpAny _ _ (assignInOrder [λ v=>bindName X.env z v,λ v=>bindName X.env y v,λ v=>bindName X.env x v] [u3,u2,u1] >>= λ _=>pure Flow.next) _ _ _
  refine wpAny_bind (assignInOrder_cons (wpAny_bindName (CU I3 hN hk (.inl hz) rq (λ s2 I4=>?_) (.inr hz))))
  refine assignInOrder_cons (wpAny_bindName (CU I4 hN hj (.inl hy) rw' (λ s3 I5=>?_) (.inr hy)))
  refine assignInOrder_cons (wpAny_bindName (CU I5 hN hi (.inl hx) rv (λ s4 I6=>assignInOrder_nil (wpAny_pure ?_)) (.inr hx)))
  exact⟨_,H1,I6,q1⟩
theorem LR:bootBuiltins "list"=some (.type "list"):=by decide +kernel
theorem bt_tuple:bootBuiltins "tuple"=some (.type "tuple"):=by decide +kernel
theorem bt_len:bootBuiltins "len"=some (.builtin "len"):=by decide +kernel
theorem bt_sum:bootBuiltins "sum"=some (.builtin "sum"):=by decide +kernel
theorem bt_abs:bootBuiltins "abs"=some (.builtin "abs"):=by decide +kernel
theorem J7:bootBuiltins "sorted"=some (.builtin "sorted"):=by decide +kernel
theorem bt_all:bootBuiltins "all"=some (.builtin "all"):=by decide +kernel
theorem bt_any:bootBuiltins "any"=some (.builtin "any"):=by decide +kernel
section
variable(c:Addr)(n l u v:Int)
end
mutual
theorem Gx:∀ ns:List Int,PyData.canLayAll0 (ns.map PyData.int)=true
  | []=>by simp[PyData.canLayAll0]
  | n :: ns=>by simp[PyData.canLayAll0,PyData.canLay0,Gx ns]
end
end L2
namespace L2
open PySem PySem.Spec PyProof.Rows PySem.W
section
variable{X:Cx}{scope:Scope}{fr:List Str}{ix:List Nat}{pins:List (Addr × Obj)}{σ:St}{H:Hp}{s:Shared}{p:Str}
end
end L2
namespace L2
open PySem PySem.Spec PyProof.Rows PySem.W
noncomputable def cdF(c:Addr)(q:Str):Heap->Prop:=λ h=>h.CodeRec (.ref c) q
noncomputable def VP(H:Hp)(q:Str)(pos:Pos)(ps:Array Value):Prop:=ps=#[] ∨ ∃ c,ps=#[rawInt pos.line,rawInt pos.col,.ref c]/\H c=some (.ext (cdF c q))
section
variable{X:Cx}{pins:List (Addr × Obj)}{σ:St}{H:Hp}{s:Shared}{c P:Addr}{scope:Scope}{fr:List Str}{ix:List Nat}
end
end L2
namespace L2
open PySem PySem.Spec PyProof.Rows
inductive I where
  | non|bl (b:Bool)|int (i:Int)|str (x:Str)|tup (ds:List I)
inductive D where
  | im (i:I)|mu (n:Nat)|tm (ds:List D)|ro (ns:List Int)
inductive MO where
  | lst (ds:List D)|dic (kvs:List (Key × D))
noncomputable abbrev Hd:=List MO
noncomputable abbrev Ls:=List (Option D)
noncomputable def RoL(K:PySem.W.Frag)(H:Hp)(a:Addr)(xs:List V):Prop:=(∃ o,H a=some (.frz o (.lst xs))) ∨
  ∃ (o:Obj) (its:Array Value) (n:Nat),K.lookup a=some o/\o.cls=.type "list"/\o.dict=none/\o.data=.seq its n/\its.size <= sizeLine/\Vals xs its.toList
theorem RoL.sq{K:PySem.W.Frag}{H:Hp}{a:Addr}{xs:List V}(h:RoL K H a xs):SqL K H a xs:=by
  rcases h with⟨o,h⟩|h
  . exact .inl (.inr ⟨o,h⟩)
  . exact .inr h
theorem RoL.grow{K:PySem.W.Frag}{H H':Hp}{a:Addr}{xs:List V}(g:Grow H H')(h:RoL K H a xs):RoL K H' a xs:=by
  rcases h with⟨o,h⟩|h
  . exact .inl ⟨o,g.frz _ _ _ h⟩
  . exact .inr h
noncomputable def BU(n:Nat):Prop:=n <= sizeLine
noncomputable def Ev(n:Nat):Prop:=n < sizeLine
noncomputable def CQ(i j:Int):Prop:=(-(2 ^ 64) < i/\i < 2 ^ 64) ∨ (-(2 ^ 64) < j/\j < 2 ^ 64)
noncomputable def M1(i j:Int):Prop:=0 <= j/\j <= 1000000/\i.natAbs < 2 ^ 64
noncomputable def Gn(j:Int):Prop:=0 < j/\j < 1073741824
noncomputable def C3(j:Int):Prop:=0 < j
noncomputable def G8(j:Int):Prop:=-(2 ^ 62) <= j/\j < 2 ^ 62
noncomputable def Lm(i j:Int):Prop:=(-(2 ^ 62) <= i/\i < 2 ^ 62)/\-(2 ^ 62) <= j/\j < 2 ^ 62
noncomputable def JK(j:Int):Prop:=j < 2 ^ 24/\-(2 ^ 62) <= j
noncomputable def Pd(i j:Int):Prop:=(-(2 ^ 62) <= i/\i < 2 ^ 62)/\(-(2 ^ 62) <= j/\j < 2 ^ 62)/\(j - i).toNat <= 2 ^ 24
theorem AZ{n:Nat}(h:n <= 1000000):BU n:=Nat.le_trans h (by rw[sizeLine_eq];decide)
theorem Fm{n:Nat}(h:n < 1000000):Ev n:=Nat.lt_of_lt_of_le h (by rw[sizeLine_eq];decide)
theorem Bm{i j:Int}(a:-1000000000000 <= i)(b:i <= 1000000000000):CQ i j:=.inl ⟨by omega,by omega⟩
theorem Dc{j:Int}(a:-1000000000000 <= j)(b:j <= 1000000000000):G8 j:=⟨by omega,by omega⟩
theorem Ku{i j:Int}(a:-1000000000000 <= i)(b:i <= 1000000000000)(c:-1000000000000 <= j)(d:j <= 1000000000000):Lm i j:=⟨⟨by omega,by omega⟩,by omega,by omega⟩
theorem Js{j:Int}(a:-1000000000000 <= j)(b:j <= 1000000):JK j:=⟨by omega,by omega⟩
section
variable(K:PySem.W.Frag)
mutual
noncomputable def RI(H:Hp):I->V->Prop
  | .non,v=>v=.non
  | .bl b,v=>v=.bl b
  | .int i,v=>v=.int i
  | .str x,v=>v=.str x
  | .tup ds,v=>∃ a xs,v=.ref a/\SqT K H a xs/\RIs H ds xs
noncomputable def RIs(H:Hp):List I->List V->Prop
  | [],xs=>xs=[]
  | d :: ds,xs=>∃ x r,xs=x :: r/\RI H d x/\RIs H ds r
end
mutual
noncomputable def RD(ρ:List Addr)(H:Hp):D->V->Prop
  | .im i,v=>RI K H i v
  | .mu n,v=>∃ a,ρ[n]? = some a/\v=.ref a
  | .tm ds,v=>∃ a xs,v=.ref a/\SqT K H a xs/\RDs ρ H ds xs
  | .ro ns,v=>∃ a,v=.ref a/\RoL K H a (ns.map V.int)
noncomputable def RDs(ρ:List Addr)(H:Hp):List D->List V->Prop
  | [],xs=>xs=[]
  | d :: ds,xs=>∃ x r,xs=x :: r/\RD ρ H d x/\RDs ρ H ds r
end
noncomputable def RKs(ρ:List Addr)(H:Hp):List (Key × D)->List (Key × V)->Prop
  | [],xs=>xs=[]
  | d :: ds,xs=>∃ x r,xs=x :: r/\x.1=d.1/\RD K ρ H d.2 x.2/\RKs ρ H ds r
noncomputable def RC(ρ:List Addr)(H:Hp):MO->HO->Prop
  | .lst ds,o=>∃ xs,o=.lst xs/\RDs K ρ H ds xs
  | .dic kvs,o=>∃ kv,o=.dK kv/\RKs K ρ H kvs kv
noncomputable def JI:List Value->List (Addr × Str × Pos)
  | .ref P :: .str q _ :: .int l _ :: .int c _ :: r=>(P,q,⟨l.toNat,c.toNat,0,0⟩) :: JI r
  | _=>[]
noncomputable def Uf(o:Obj):List (Addr × Str × Pos):=match o.cls,o.data with
  | .str _ _,.fields vs=>JI vs.toList
  | _,_=>[]
noncomputable def G6(K:PySem.W.Frag):List (Addr × Str × Pos):=match K.getLast? with
  | some p=>Uf p.2
  | none=>[]
noncomputable def TabsOk(K:PySem.W.Frag)(H:Hp):Prop:=∀ x ∈ G6 K,∃ ps,H x.1=some (.tbl ps)/\VP H x.2.1 x.2.2 ps
structure RH(ρ:List Addr)(H:Hp)(hd:Hd):Prop where
  len:ρ.length=hd.length
  nd:ρ.Nodup
  tabs:TabsOk K H
  ob:∀ (n:Nat) (o:MO) (a:Addr),hd[n]? = some o->ρ[n]? = some a->∃ ho,H a=some ho/\RC K ρ H o ho
structure RL(ρ:List Addr)(H:Hp)(ls:Ls)(σ:St):Prop where
  len:ls.length=σ.length
  ob:∀ (i:Nat) (d:D),ls[i]? = some (some d)->∃ v,σ[i]? = some (some v)/\RD K ρ H d v
end
structure Ext(ρ:List Addr)(H:Hp)(ρ':List Addr)(H':Hp):Prop where
  pre:∃ r,ρ'=ρ ++ r/\∀ b ∈ r,H b=none
  keep:∀ b o,H b=some o->b ∉ ρ->(∀ ps,o ≠ .tbl ps)->H' b=some o
  tab:∀ b ps,H b=some (.tbl ps)->∃ ps',H' b=some (.tbl ps')
theorem nt{o:HO}(h:match o with | .tbl _=>False|_=>True:=by trivial):∀ ps,o ≠ .tbl ps:=λ ps e=>by subst e;exact h
theorem TabsOk.upd{K:PySem.W.Frag}{H:Hp}(t:TabsOk K H){a:Addr}{ho:HO}(h1:∀ ps,H a ≠ some (.tbl ps))(h2:∀ φ,H a ≠ some (.ext φ)):TabsOk K (upd H a ho):=λ x hx=>by
  obtain⟨ps,e,g⟩:=t x hx
  have ne:x.1 ≠ a:=λ z=>h1 ps (by rw[<- z];exact e)
  refine⟨ps,by rw[AO ne];exact e,?_⟩
  rcases g with g|⟨c,g1,g2⟩
  . exact .inl g
  . have nc:c ≠ a:=λ z=>h2 _ (by rw[<- z];exact g2)
    exact .inr ⟨c,g1,by rw[AO nc];exact g2⟩
section
variable{K:PySem.W.Frag}{ρ ρ' ρ1 ρ2:List Addr}{H H' H1 H2:Hp}{hd hd' hd1:Hd}
mutual
theorem RI.grow(g:Grow H H'):∀ {i:I} {v:V},RI K H i v->RI K H' i v
  | .non,v,h=>by simpa only[RI]using h
  | .bl b,v,h=>by simpa only[RI]using h
  | .int b,v,h=>by simpa only[RI]using h
  | .str b,v,h=>by simpa only[RI]using h
  | .tup ds,v,h=>by
    simp only[RI]at h ⊢
    obtain⟨a,xs,e,q,r⟩:=h
    exact⟨a,xs,e,g.sq q,RIs.grow g r⟩
theorem RIs.grow(g:Grow H H'):∀ {i:List I} {v:List V},RIs K H i v->RIs K H' i v
  | [],v,h=>by simpa only[RIs]using h
  | d :: ds,v,h=>by
    simp only[RIs]at h ⊢
    obtain⟨x,r,e,q,z⟩:=h
    exact⟨x,r,e,q.grow g,RIs.grow g z⟩
end
theorem RH.mut(h:RH K ρ H hd){a:Addr}(m:a ∈ ρ):(∃ xs,H a=some (.lst xs)) ∨ ∃ kv,H a=some (.dK kv):=by
  obtain⟨n,e⟩:=List.mem_iff_getElem?.mp m
  have hn:n < hd.length:=by rw[<- h.len];exact(List.getElem?_eq_some_iff.mp e).1
  obtain⟨ho,e1,e2⟩:=h.ob n hd[n] a (by simp[hn]) e
  cases q:hd[n]with
  | lst ds=>rw[q]at e2;obtain⟨xs,rfl,_⟩:=e2;exact .inl ⟨xs,e1⟩
  | dic ds=>rw[q]at e2;obtain⟨xs,rfl,_⟩:=e2;exact .inr ⟨xs,e1⟩
theorem RH.tup_out(h:RH K ρ H hd){a:Addr}{xs:List V}(e:H a=some (.tup xs)):a ∉ ρ:=λ m=>by
  rcases h.mut m with⟨y,z⟩|⟨y,z⟩ <;> (rw[e]at z;cases z)
theorem RH.frz_out(h:RH K ρ H hd){a:Addr}{o:Obj}{u:HO}(e:H a=some (.frz o u)):a ∉ ρ:=λ m=>by
  rcases h.mut m with⟨y,z⟩|⟨y,z⟩ <;> (rw[e]at z;cases z)
theorem Ext.grow(e:Ext ρ H ρ' H')(h:RH K ρ H hd):Grow H H':=⟨λ b xs q=>e.keep b _ q (h.tup_out q) nt,λ b o u q=>e.keep b _ q (h.frz_out q) nt⟩
theorem Ext.refl:Ext ρ H ρ H:=⟨⟨[],by simp,by simp⟩,λ _ _ h _ _=>h,λ _ ps h=>⟨ps,h⟩⟩
theorem Ext.trans(e:Ext ρ H ρ1 H1)(h0:RH K ρ1 H1 hd1)(e2:Ext ρ1 H1 ρ2 H2):Ext ρ H ρ2 H2:=by
  obtain⟨r1,rfl,f1⟩:=e.pre
  obtain⟨r2,rfl,f2⟩:=e2.pre
  refine⟨⟨r1 ++ r2,by simp,λ b m=>?_⟩,λ b o q n t=>?_,λ b ps q=>?_⟩
  . rcases List.mem_append.mp m with m|m
    . exact f1 b m
    . have z:=f2 b m
      cases q:H b with
      | none=>rfl
      | some o=>
        by_cases n:b ∈ ρ
        . rcases h0.mut (List.mem_append_left r1 n)with⟨y,w⟩|⟨y,w⟩ <;> (rw[z]at w;cases w)
        . by_cases t:∃ ps,o=.tbl ps
          . obtain⟨ps,rfl⟩:=t
            obtain⟨ps',this⟩:=e.tab b ps q
            rw[z]at this;cases this
          . have:=e.keep b o q n λ ps y=>t ⟨ps,y⟩
            rw[z]at this;cases this
  . refine e2.keep b o (e.keep b o q n t) (λ m=>?_) t
    rcases List.mem_append.mp m with m|m
    . exact n m
    . have:=f1 b m;rw[q]at this;cases this
  . obtain⟨ps',q'⟩:=e.tab b ps q
    exact e2.tab b ps' q'
mutual
theorem RD.mono(g:Grow H H')(r:List Addr):∀ {d:D} {v:V},RD K ρ H d v->RD K (ρ ++ r) H' d v
  | .im i,v,h=>by simp only[RD]at h ⊢;exact h.grow g
  | .mu n,v,h=>by
    simp only[RD]at h ⊢
    obtain⟨a,e,q⟩:=h
    exact⟨a,by rw[List.getElem?_append_left (List.getElem?_eq_some_iff.mp e).1];exact e,q⟩
  | .tm ds,v,h=>by
    simp only[RD]at h ⊢
    obtain⟨a,xs,e,q,z⟩:=h
    exact⟨a,xs,e,g.sq q,RDs.mono g r z⟩
  | .ro ns,v,h=>by
    simp only[RD]at h ⊢
    obtain⟨a,e,q⟩:=h
    exact⟨a,e,q.grow g⟩
theorem RDs.mono(g:Grow H H')(r:List Addr):∀ {d:List D} {v:List V},RDs K ρ H d v->RDs K (ρ ++ r) H' d v
  | [],v,h=>by simpa only[RDs]using h
  | d :: ds,v,h=>by
    simp only[RDs]at h ⊢
    obtain⟨x,r',e,q,z⟩:=h
    exact⟨x,r',e,q.mono g r,RDs.mono g r z⟩
end
theorem RKs.mono(g:Grow H H')(r:List Addr):∀ {d:List (Key × D)} {v:List (Key × V)},RKs K ρ H d v->RKs K (ρ ++ r) H' d v
  | [],v,h=>by simpa only[RKs]using h
  | d :: ds,v,h=>by
    simp only[RKs]at h ⊢
    obtain⟨x,r',e,q1,q,z⟩:=h
    exact⟨x,r',e,q1,q.mono g r,RKs.mono g r z⟩
theorem RC.mono(g:Grow H H')(r:List Addr){o:MO}{ho:HO}(h:RC K ρ H o ho):RC K (ρ ++ r) H' o ho:=by
  cases o with
  | lst ds=>obtain⟨xs,e,q⟩:=h;exact⟨xs,e,q.mono g r⟩
  | dic ds=>obtain⟨xs,e,q⟩:=h;exact⟨xs,e,q.mono g r⟩
theorem RD.ext(h:RH K ρ H hd)(e:Ext ρ H ρ' H'){d:D}{v:V}(q:RD K ρ H d v):RD K ρ' H' d v:=by
  obtain⟨r,rfl,_⟩:=e.pre
  exact q.mono (e.grow h) r
theorem RDs.ext(h:RH K ρ H hd)(e:Ext ρ H ρ' H'){d:List D}{v:List V}(q:RDs K ρ H d v):RDs K ρ' H' d v:=by
  obtain⟨r,rfl,_⟩:=e.pre
  exact q.mono (e.grow h) r
theorem RL.ext(h:RH K ρ H hd)(e:Ext ρ H ρ' H'){ls:Ls}{σ:St}(q:RL K ρ H ls σ):RL K ρ' H' ls σ:=
  ⟨q.len,λ i d z=>let ⟨v,a,b⟩:=q.ob i d z;⟨v,a,b.ext h e⟩⟩
theorem RDs.len:∀ {ds:List D} {xs:List V},RDs K ρ H ds xs->xs.length=ds.length
  | [],xs,h=>by simp only[RDs]at h;rw[h];rfl
  | d :: ds,xs,h=>by
    simp only[RDs]at h
    obtain⟨x,r,rfl,_,z⟩:=h
    simp[RDs.len z]
theorem RDs.get:∀ {ds:List D} {xs:List V} {i:Nat} {d:D},RDs K ρ H ds xs->ds[i]? = some d->∃ x,xs[i]? = some x/\RD K ρ H d x
  | [],xs,i,d,h,e=>by simp at e
  | d :: ds,xs,0,e,h,q=>by
    simp only[RDs]at h
    obtain⟨x,r,rfl,z,_⟩:=h
    simp at q;subst q
    exact⟨x,rfl,z⟩
  | d :: ds,xs,i + 1,e,h,q=>by
    simp only[RDs]at h
    obtain⟨x,r,rfl,_,z⟩:=h
    obtain⟨y,a,b⟩:=RDs.get (i:=i) z (by simpa using q)
    exact⟨y,by simpa using a,b⟩
theorem RDs.nil:RDs K ρ H [] []:=by simp[RDs]
theorem RDs.cons{d:D}{v:V}{ds:List D}{vs:List V}(h:RD K ρ H d v)(t:RDs K ρ H ds vs):RDs K ρ H (d :: ds) (v :: vs):=by
  simp only[RDs];exact⟨v,vs,rfl,h,t⟩
theorem RDs.app:∀ {ds es:List D} {xs ys:List V},RDs K ρ H ds xs->RDs K ρ H es ys->RDs K ρ H (ds ++ es) (xs ++ ys)
  | [],es,xs,ys,h,t=>by simp only[RDs]at h;subst h;simpa using t
  | d :: ds,es,xs,ys,h,t=>by
    simp only[RDs]at h
    obtain⟨x,r,rfl,z,q⟩:=h
    simp only[List.cons_append]
    exact .cons z (q.app t)
theorem RDs.set:∀ {ds:List D} {xs:List V} {d:D} {v:V} (i:Nat),RDs K ρ H ds xs->RD K ρ H d v->RDs K ρ H (ds.set i d) (xs.set i v)
  | [],xs,d,v,i,h,t=>by simp only[RDs]at h;subst h;simp[RDs]
  | d :: ds,xs,e,v,0,h,t=>by
    simp only[RDs]at h
    obtain⟨x,r,rfl,z,q⟩:=h
    simpa using RDs.cons t q
  | d :: ds,xs,e,v,i + 1,h,t=>by
    simp only[RDs]at h
    obtain⟨x,r,rfl,z,q⟩:=h
    simpa using RDs.cons z (q.set i t)
theorem RDs.drop:∀ {ds:List D} {xs:List V} (n:Nat),RDs K ρ H ds xs->RDs K ρ H (ds.drop n) (xs.drop n)
  | ds,xs,0,h=>by simpa using h
  | [],xs,n + 1,h=>by simp only[RDs]at h;subst h;simp[RDs]
  | d :: ds,xs,n + 1,h=>by
    simp only[RDs]at h
    obtain⟨x,r,rfl,z,q⟩:=h
    simpa using q.drop n
theorem RDs.take:∀ {ds:List D} {xs:List V} (n:Nat),RDs K ρ H ds xs->RDs K ρ H (ds.take n) (xs.take n)
  | ds,xs,0,h=>by simp[RDs]
  | [],xs,n + 1,h=>by simp only[RDs]at h;subst h;simp[RDs]
  | d :: ds,xs,n + 1,h=>by
    simp only[RDs]at h
    obtain⟨x,r,rfl,z,q⟩:=h
    simpa using RDs.cons z (q.take n)
theorem RIs.ds:∀ {is:List I} {xs:List V},RIs K H is xs->RDs K ρ H (is.map D.im) xs
  | [],xs,h=>by simpa only[RIs,RDs,List.map_nil]using h
  | i :: is,xs,h=>by
    simp only[RIs]at h
    obtain⟨x,r,rfl,z,q⟩:=h
    exact .cons (by simpa only[RD]using z) q.ds
theorem RDs.is:∀ {is:List I} {xs:List V},RDs K ρ H (is.map D.im) xs->RIs K H is xs
  | [],xs,h=>by simpa only[RIs,RDs,List.map_nil]using h
  | i :: is,xs,h=>by
    simp only[List.map_cons,RDs]at h
    obtain⟨x,r,rfl,z,q⟩:=h
    simp only[RIs]
    exact⟨x,r,rfl,by simpa only[RD]using z,q.is⟩
theorem RH.put(h:RH K ρ H hd){n:Nat}{a:Addr}(hn:ρ[n]? = some a){o:MO}{ho:HO}(c:RC K ρ H o ho):RH K ρ (upd H a ho) (hd.set n o)/\Ext ρ H ρ (upd H a ho):=by
  have ha:=h.mut (List.mem_of_getElem? hn)
  have n1:∀ ps,H a ≠ some (.tbl ps):=λ ps e=>by rcases ha with⟨y,z⟩|⟨y,z⟩ <;> (rw[e]at z;cases z)
  have n2:∀ φ,H a ≠ some (.ext φ):=λ ps e=>by rcases ha with⟨y,z⟩|⟨y,z⟩ <;> (rw[e]at z;cases z)
  have ex:Ext ρ H ρ (upd H a ho):=⟨⟨[],by simp,by simp⟩,λ b o q m _=>by
    have:b ≠ a:=λ z=>m (by rw[z];exact List.mem_of_getElem? hn)
    rw[AO this];exact q,λ b ps q=>⟨ps,(AO (show b ≠ a from λ z=>n1 ps (by rw[<- z];exact q))).trans q⟩⟩
  have gr:=ex.grow h
  refine⟨⟨by simp[h.len],h.nd,h.tabs.upd n1 n2,λ m o' b e1 e2=>?_⟩,ex⟩
  have hm:m < hd.length:=by rw[<- h.len];exact(List.getElem?_eq_some_iff.mp e2).1
  by_cases hmn:m=n
  . subst hmn
    rw[hn]at e2;cases e2
    rw[List.getElem?_set_self hm]at e1
    cases e1
    exact⟨ho,AW,by simpa using c.mono gr []⟩
  . rw[List.getElem?_set_ne (λ z=>hmn z.symm)]at e1
    obtain⟨ho',q1,q2⟩:=h.ob m o' b e1 e2
    have:b ≠ a:=λ z=>by
      subst z
      have l1:=(List.getElem?_eq_some_iff.mp e2).1
      have l2:=(List.getElem?_eq_some_iff.mp hn).1
      exact hmn ((List.getElem?_inj l1 h.nd).mp (e2.trans hn.symm))
    exact⟨ho',by rw[AO this];exact q1,by simpa using q2.mono gr []⟩
theorem RH.lst(h:RH K ρ H hd){n:Nat}{a:Addr}{ds:List D}(hn:ρ[n]? = some a)(e:hd[n]? = some (.lst ds)):∃ xs,H a=some (.lst xs)/\RDs K ρ H ds xs:=by
  obtain⟨ho,q,xs,rfl,r⟩:=h.ob n _ a e hn
  exact⟨xs,q,r⟩
theorem RH.dic(h:RH K ρ H hd){n:Nat}{a:Addr}{ds:List (Key × D)}(hn:ρ[n]? = some a)(e:hd[n]? = some (.dic ds)):∃ xs,H a=some (.dK xs)/\RKs K ρ H ds xs:=by
  obtain⟨ho,q,xs,rfl,r⟩:=h.ob n _ a e hn
  exact⟨xs,q,r⟩
theorem RH.hid(h:RH K ρ H hd){a:Addr}(ha:H a=none){ho:HO}:RH K ρ (upd H a ho) hd/\Ext ρ H ρ (upd H a ho):=by
  have out:a ∉ ρ:=λ m=>by rcases h.mut m with⟨y,z⟩|⟨y,z⟩ <;> (rw[ha]at z;cases z)
  have ex:Ext ρ H ρ (upd H a ho):=⟨⟨[],by simp,by simp⟩,λ b o q n _=>by rw[AO (Aj q ha)];exact q,λ b ps q=>⟨ps,by rw[AO (Aj q ha)];exact q⟩⟩
  have gr:=ex.grow h
  refine⟨⟨h.len,h.nd,h.tabs.upd (by simp[ha]) (by simp[ha]),λ m o' b e1 e2=>?_⟩,ex⟩
  obtain⟨ho',q1,q2⟩:=h.ob m o' b e1 e2
  exact⟨ho',by rw[AO (Aj q1 ha)];exact q1,by simpa using q2.mono gr []⟩
theorem RH.hput(h:RH K ρ H hd){a:Addr}(out:a ∉ ρ){xs:List V}{ho:HO}(hl:H a=some (.lst xs)):RH K ρ (upd H a ho) hd:=by
  have gr:Grow H (upd H a ho):=Grow.refl.put (.lst hl)
  refine⟨h.len,h.nd,h.tabs.upd (by simp[hl]) (by simp[hl]),λ m o' b e1 e2=>?_⟩
  obtain⟨ho',q1,q2⟩:=h.ob m o' b e1 e2
  have:b ≠ a:=λ z=>out (by rw[<- z];exact List.mem_of_getElem? e2)
  exact⟨ho',by rw[AO this];exact q1,by simpa using q2.mono gr []⟩
end
end L2
namespace L2
open PySem PySem.Spec PyProof.Rows
noncomputable abbrev ME:=Ls->Hd->Option (D × Hd)
noncomputable abbrev MT:=Ls->Hd->Option (Bool × Hd)
noncomputable abbrev MA:=Ls->Hd->Option (List D × Hd)
inductive Fl where
  | nx (ls:Ls)|rt (d:D)|bk (ls:Ls)|ct (ls:Ls)
noncomputable abbrev MS:=Ls->Hd->Option (Fl × Hd)
section
variable(K:PySem.W.Frag)
noncomputable def RE(t:TE)(m:ME):Prop:=∀ (ρ:List Addr) (σ:St) (H:Hp) (hd:Hd) (ls:Ls) (Q:VK) (d:D) (hd':Hd),RH K ρ H hd->RL K ρ H ls σ->m ls hd=some (d,hd') ->
  (∀ ρ' H' v,Ext ρ H ρ' H'->RH K ρ' H' hd'->RD K ρ' H' d v->Q v H')->t σ H Q
noncomputable def RT(t:TT)(m:MT):Prop:=∀ (ρ:List Addr) (σ:St) (H:Hp) (hd:Hd) (ls:Ls) (Q:Bool->Hp->Prop) (d:Bool) (hd':Hd),RH K ρ H hd->RL K ρ H ls σ->m ls hd=some (d,hd') ->
  (∀ ρ' H',Ext ρ H ρ' H'->RH K ρ' H' hd'->Q d H')->t σ H Q
noncomputable def RA(t:TA)(m:MA):Prop:=∀ (ρ:List Addr) (σ:St) (H:Hp) (hd:Hd) (ls:Ls) (Q:List V->Hp->Prop) (d:List D) (hd':Hd),RH K ρ H hd->RL K ρ H ls σ->m ls hd=some (d,hd') ->
  (∀ ρ' H' v,Ext ρ H ρ' H'->RH K ρ' H' hd'->RDs K ρ' H' d v->Q v H')->t σ H Q
noncomputable def RN(t:TE)(m:MA):Prop:=∀ (ρ:List Addr) (σ:St) (H:Hp) (hd:Hd) (ls:Ls) (Q:VK) (d:List D) (hd':Hd),RH K ρ H hd->RL K ρ H ls σ->m ls hd=some (d,hd') ->
  (∀ ρ' H' a xs,Ext ρ H ρ' H'->RH K ρ' H' hd'->H a=none->a ∉ ρ'->H' a=some (.lst xs)->RDs K ρ' H' d xs->Q (.ref a) H')->t σ H Q
noncomputable def VO(E:Ends)(ρ:List Addr)(H:Hp):Fl->Prop
  | .nx ls=>∀ σ,RL K ρ H ls σ->E.nx σ H
  | .bk ls=>∀ σ,RL K ρ H ls σ->E.bk σ H
  | .ct ls=>∀ σ,RL K ρ H ls σ->E.ct σ H
  | .rt d=>∀ v,RD K ρ H d v->E.rt v H
noncomputable def RS(t:TS)(m:MS):Prop:=∀ (ρ:List Addr) (σ:St) (H:Hp) (hd:Hd) (ls:Ls) (E:Ends) (f:Fl) (hd':Hd),RH K ρ H hd->RL K ρ H ls σ->m ls hd=some (f,hd') ->
  (∀ ρ' H',Ext ρ H ρ' H'->RH K ρ' H' hd'->VO K E ρ' H' f)->t E σ H
noncomputable def RB(r:R2)(f:D->D->Hd->Option (D × Hd)):Prop:=∀ (ρ:List Addr) (H:Hp) (hd:Hd) (d e:D) (v u:V) (Q:VK) (z:D) (hd':Hd),RH K ρ H hd->RD K ρ H d v->RD K ρ H e u->f d e hd=some (z,hd') ->
  (∀ ρ' H' w,Ext ρ H ρ' H'->RH K ρ' H' hd'->RD K ρ' H' z w->Q w H')->r v u H Q
noncomputable def RF(r:List V->Hp->VK->Prop)(f:List D->Hd->Option (D × Hd)):Prop:=∀ (ρ:List Addr) (H:Hp) (hd:Hd) (ds:List D) (vs:List V) (Q:VK) (z:D) (hd':Hd),RH K ρ H hd->RDs K ρ H ds vs->f ds hd=some (z,hd') ->
  (∀ ρ' H' w,Ext ρ H ρ' H'->RH K ρ' H' hd'->RD K ρ' H' z w->Q w H')->r vs H Q
noncomputable def RG(tp:Bool)(r:List V->Hp->VK->Prop)(g:List D->Option D):Prop:=∀ (ρ:List Addr) (H:Hp) (hd:Hd) (a:Addr) (xs:List V) (ds:List D) (Q:VK) (z:D),RH K ρ H hd->(SqL K H a xs ∨ (tp=true/\SqT K H a xs))->RDs K ρ H ds xs->g ds=some z ->
  (∀ H' w,Ext ρ H ρ H'->RH K ρ H' hd->RD K ρ H' z w->Q w H')->r [.ref a] H Q
end
structure QE(K:PySem.W.Frag)(X:Cx)(e:Expr)(t:TE)(m:ME):Prop where
  p:PE X e t
  r:RE K t m
structure QT(K:PySem.W.Frag)(X:Cx)(e:Expr)(t:TT)(m:MT):Prop where
  p:PT X e t
  r:RT K t m
structure QW(K:PySem.W.Frag)(X:Cx)(e:Expr)(t:TT)(m:MT):Prop where
  p:PW X e t
  r:RT K t m
structure QA(K:PySem.W.Frag)(X:Cx)(e:List Expr)(t:TA)(m:MA):Prop where
  p:PA X e t
  r:RA K t m
structure QN(K:PySem.W.Frag)(X:Cx)(e:Expr)(t:TE)(m:MA):Prop where
  p:PE X e t
  r:RN K t m
structure QS(K:PySem.W.Frag)(X:Cx)(e:Stmt)(t:TS)(m:MS):Prop where
  p:PS X e t
  r:RS K t m
structure QSs(K:PySem.W.Frag)(X:Cx)(e:List Stmt)(t:TS)(m:MS):Prop where
  p:PSs X e t
  r:RS K t m
noncomputable def Ad:D->Option (List D)
  | .im (.tup is)=>some (is.map .im)
  | .tm ds=>some ds
  | _=>none
noncomputable def Av(hd:Hd):D->Option (List D)
  | .mu n=>match hd[n]? with
    | some (.lst ds)=>some ds
    | _=>none
  | .ro ns=>some (ns.map λ n=>.im (.int n))
  | _=>none
noncomputable def Ar(hd:Hd)(d:D):Option (List D):=match Ad d with
  | some ds=>some ds
  | none=>Av hd d
noncomputable def BL:List D->Option (List I)
  | []=>some []
  | .im i :: r=>(BL r).map (i :: ·)
  | _ :: _=>none
noncomputable def B4(ds:List D):D:=match BL ds with
  | some is=>.im (.tup is)
  | none=>.tm ds
noncomputable def BW:List D->Option (List Int)
  | []=>some []
  | .im (.int i) :: r=>(BW r).map (i :: ·)
  | _ :: _=>none
noncomputable def CO:List D->Option (List Bool)
  | []=>some []
  | .im (.bl i) :: r=>(CO r).map (i :: ·)
  | _ :: _=>none
section
variable{K:PySem.W.Frag}{ρ ρ':List Addr}{H H':Hp}{hd hd':Hd}
theorem Ft:∀ {ds:List D} {is:List I},BL ds=some is->ds=is.map .im
  | [],is,h=>by simp[BL]at h;subst h;rfl
  | .im i :: r,is,h=>by
    simp only[BL,Option.map_eq_some_iff]at h
    obtain⟨js,e,rfl⟩:=h
    simp[Ft e]
  | .mu _ :: _,is,h=>by simp[BL]at h
  | .tm _ :: _,is,h=>by simp[BL]at h
  | .ro _ :: _,is,h=>by simp[BL]at h
theorem HV:∀ {ds:List D} {is:List Int},BW ds=some is->ds=is.map λ i=>.im (.int i)
  | [],is,h=>by simp[BW]at h;subst h;rfl
  | .im (.int i) :: r,is,h=>by
    simp only[BW,Option.map_eq_some_iff]at h
    obtain⟨js,e,rfl⟩:=h
    simp[HV e]
  | .im (.bl _) :: _,is,h=>by simp[BW]at h
  | .im (.str _) :: _,is,h=>by simp[BW]at h
  | .im .non :: _,is,h=>by simp[BW]at h
  | .im (.tup _) :: _,is,h=>by simp[BW]at h
  | .mu _ :: _,is,h=>by simp[BW]at h
  | .tm _ :: _,is,h=>by simp[BW]at h
  | .ro _ :: _,is,h=>by simp[BW]at h
theorem Io:∀ {ds:List D} {is:List Bool},CO ds=some is->ds=is.map λ i=>.im (.bl i)
  | [],is,h=>by simp[CO]at h;subst h;rfl
  | .im (.bl i) :: r,is,h=>by
    simp only[CO,Option.map_eq_some_iff]at h
    obtain⟨js,e,rfl⟩:=h
    simp[Io e]
  | .im (.int _) :: _,is,h=>by simp[CO]at h
  | .im (.str _) :: _,is,h=>by simp[CO]at h
  | .im .non :: _,is,h=>by simp[CO]at h
  | .im (.tup _) :: _,is,h=>by simp[CO]at h
  | .mu _ :: _,is,h=>by simp[CO]at h
  | .tm _ :: _,is,h=>by simp[CO]at h
  | .ro _ :: _,is,h=>by simp[CO]at h
@[simp] theorem O0(is:List I):BL (is.map .im)=some is:=by induction is <;> simp_all [BL]
@[simp] theorem J1(is:List Int):BW (is.map λ i=>.im (.int i))=some is:=by induction is <;> simp_all [BW]
@[simp] theorem Ka(is:List Bool):CO (is.map λ i=>.im (.bl i))=some is:=by induction is <;> simp_all [CO]
theorem IU:∀ {ns:List Int} {xs:List V},RDs K ρ H (ns.map λ i=>.im (.int i)) xs->xs=ns.map V.int
  | [],xs,h=>by simpa [RDs]using h
  | n :: ns,xs,h=>by
    simp only[List.map_cons,RDs,RD,RI]at h
    obtain⟨x,r,rfl,rfl,z⟩:=h
    rw[IU z];rfl
theorem FO:∀ {ns:List Int},RDs K ρ H (ns.map λ i=>.im (.int i)) (ns.map V.int)
  | []=>by simp[RDs]
  | n :: ns=>by simp only[List.map_cons];exact .cons (by simp[RD,RI]) FO
theorem Jv:∀ {ns:List Bool} {xs:List V},RDs K ρ H (ns.map λ i=>.im (.bl i)) xs->xs=ns.map V.bl
  | [],xs,h=>by simpa [RDs]using h
  | n :: ns,xs,h=>by
    simp only[List.map_cons,RDs,RD,RI]at h
    obtain⟨x,r,rfl,rfl,z⟩:=h
    rw[Jv z];rfl
theorem RD.tup{d:D}{v:V}{ds:List D}(h:RD K ρ H d v)(e:Ad d=some ds):∃ a xs,v=.ref a/\SqT K H a xs/\RDs K ρ H ds xs:=by
  cases d with
  | im i=>
    cases i with
    | tup is=>
      simp only[Ad,Option.some.injEq]at e
      subst e
      simp only[RD,RI]at h
      obtain⟨a,xs,rfl,q,r⟩:=h
      exact⟨a,xs,rfl,q,r.ds⟩
    | _=>simp[Ad]at e
  | tm es=>
    simp only[Ad,Option.some.injEq]at e
    subst e
    simpa only[RD]using h
  | _=>simp[Ad]at e
theorem RD.lst{d:D}{v:V}{ds:List D}(hR:RH K ρ H hd)(h:RD K ρ H d v)(e:Av hd d=some ds):∃ a xs,v=.ref a/\SqL K H a xs/\RDs K ρ H ds xs:=by
  cases d with
  | mu n=>
    simp only[Av]at e
    simp only[RD]at h
    obtain⟨a,hn,rfl⟩:=h
    split at e
    . next q=>
      cases e
      obtain⟨xs,e1,e2⟩:=hR.lst hn q
      exact⟨a,xs,rfl,SqL.of e1,e2⟩
    . cases e
  | ro ns=>
    simp only[Av,Option.some.injEq]at e
    subst e
    simp only[RD]at h
    obtain⟨a,rfl,q⟩:=h
    exact⟨a,_,rfl,q.sq,FO⟩
  | _=>simp[Av]at e
theorem RD.seq{d:D}{v:V}{ds:List D}(hR:RH K ρ H hd)(h:RD K ρ H d v)(e:Ar hd d=some ds):∃ a xs,v=.ref a/\(SqL K H a xs ∨ SqT K H a xs)/\RDs K ρ H ds xs:=by
  unfold Ar at e
  split at e
  . next q=>
    cases e
    obtain⟨a,xs,e1,e2,e3⟩:=h.tup q
    exact⟨a,xs,e1,.inr e2,e3⟩
  . obtain⟨a,xs,e1,e2,e3⟩:=h.lst hR e
    exact⟨a,xs,e1,.inl e2,e3⟩
theorem Cu{ds:List D}{a:Addr}{xs:List V}(q:SqT K H a xs)(r:RDs K ρ H ds xs):RD K ρ H (B4 ds) (.ref a):=by
  unfold B4
  split
  . next e=>
    rw[Ft e]at r
    simp only[RD,RI]
    exact⟨a,xs,rfl,q,r.is⟩
  . simp only[RD]
    exact⟨a,xs,rfl,q,r⟩
noncomputable def A0(i:Nat):ME:=λ ls hd=>match ls[i]? with
  | some (some d)=>some (d,hd)
  | _=>none
theorem Sx{i:Nat}:RE K (Lc i) (A0 i):=by
  intro ρ σ H hd ls Q d hd' hR hL hm hQ
  unfold A0 at hm
  split at hm
  . next e=>
    cases hm
    obtain⟨v,e1,e2⟩:=hL.ob i _ e
    exact⟨v,e1,hQ ρ H v .refl hR e2⟩
  . cases hm
noncomputable def mC(i:I):ME:=λ _ hd=>some (.im i,hd)
theorem Lp{v:V}{i:I}(h:∀ H,RI K H i v):RE K (tC v) (mC i):=by
  intro ρ σ H hd ls Q d hd' hR hL hm hQ
  cases hm
  exact hQ ρ H v .refl hR (by simpa only[RD]using h H)
noncomputable def mOp(f:D->D->Hd->Option (D × Hd))(ma mb:ME):ME:=λ ls hd=>(ma ls hd).bind λ p=>(mb ls p.2).bind λ q=>f p.1 q.1 q.2
theorem JL{r:R2}{f:D->D->Hd->Option (D × Hd)}{ta tb:TE}{ma mb:ME}(hr:RB K r f)(ha:RE K ta ma)(hb:RE K tb mb):RE K (tOp r ta tb) (mOp f ma mb):=by
  intro ρ σ H hd ls Q d hd' hR hL hm hQ
  obtain⟨⟨d1,h1⟩,e1,hm⟩:=Option.bind_eq_some_iff.mp hm
  obtain⟨⟨d2,h2⟩,e2,hm⟩:=Option.bind_eq_some_iff.mp hm
  refine ha ρ σ H hd ls _ d1 h1 hR hL e1 λ ρ1 H1 v1 x1 R1 r1=>?_
  refine hb ρ1 σ H1 h1 ls _ d2 h2 R1 (hL.ext hR x1) e2 λ ρ2 H2 v2 x2 R2 r2=>?_
  exact hr ρ2 H2 h2 d1 d2 v1 v2 Q d hd' R2 (r1.ext R1 x2) r2 hm λ ρ' H' w x3 R3 r3=>hQ ρ' H' w ((x1.trans R1 x2).trans R2 x3) R3 r3
noncomputable def Ed(ta tb:MT):MT:=λ ls hd=>(ta ls hd).bind λ p=>if p.1=true then tb ls p.2 else some (false,p.2)
noncomputable def mOr(ta tb:MT):MT:=λ ls hd=>(ta ls hd).bind λ p=>if p.1=true then some (true,p.2)else tb ls p.2
noncomputable def GI(ta:MT):MT:=λ ls hd=>(ta ls hd).bind λ p=>some (!p.1,p.2)
theorem Sc{ta tb:TT}{ma mb:MT}(ha:RT K ta ma)(hb:RT K tb mb):RT K (OI ta tb) (Ed ma mb):=by
  intro ρ σ H hd ls Q d hd' hR hL hm hQ
  obtain⟨⟨d1,h1⟩,e1,hm⟩:=Option.bind_eq_some_iff.mp hm
  refine ha ρ σ H hd ls _ d1 h1 hR hL e1 λ ρ1 H1 x1 R1=>?_
  cases d1 with
  | true=>
    rw[if_pos rfl]at hm ⊢
    exact hb ρ1 σ H1 h1 ls Q d hd' R1 (hL.ext hR x1) hm λ ρ2 H2 x2 R2=>hQ ρ2 H2 (x1.trans R1 x2) R2
  | false=>
    rw[if_neg Bool.false_ne_true]at hm ⊢
    cases hm
    exact hQ ρ1 H1 x1 R1
theorem Ug{ta tb:TT}{ma mb:MT}(ha:RT K ta ma)(hb:RT K tb mb):RT K (tOr ta tb) (mOr ma mb):=by
  intro ρ σ H hd ls Q d hd' hR hL hm hQ
  obtain⟨⟨d1,h1⟩,e1,hm⟩:=Option.bind_eq_some_iff.mp hm
  refine ha ρ σ H hd ls _ d1 h1 hR hL e1 λ ρ1 H1 x1 R1=>?_
  cases d1 with
  | true=>
    rw[if_pos rfl]at hm ⊢
    cases hm
    exact hQ ρ1 H1 x1 R1
  | false=>
    rw[if_neg Bool.false_ne_true]at hm ⊢
    exact hb ρ1 σ H1 h1 ls Q d hd' R1 (hL.ext hR x1) hm λ ρ2 H2 x2 R2=>hQ ρ2 H2 (x1.trans R1 x2) R2
theorem Sb{ta:TT}{ma:MT}(ha:RT K ta ma):RT K (OD ta) (GI ma):=by
  intro ρ σ H hd ls Q d hd' hR hL hm hQ
  obtain⟨⟨d1,h1⟩,e1,hm⟩:=Option.bind_eq_some_iff.mp hm
  cases hm
  exact ha ρ σ H hd ls _ d1 h1 hR hL e1 λ ρ1 H1 x1 R1=>hQ ρ1 H1 x1 R1
open Classical in
noncomputable def E1(hd:Hd):D->Option Bool
  | .im .non=>some false
  | .im (.bl b)=>some b
  | .im (.int i)=>some (i != 0)
  | .im (.str x)=>if BU x.length then some ((x.length:Int) != 0)else none
  | .im (.tup is)=>some (!is.isEmpty)
  | .tm is=>some (!is.isEmpty)
  | .ro ns=>some (!ns.isEmpty)
  | .mu n=>match hd[n]? with
    | some (.lst ds)=>some (!ds.isEmpty)
    | some (.dic ds)=>some (!ds.isEmpty)
    | none=>none
theorem Co{α β:Type}{xs:List α}{ys:List β}(h:xs.length=ys.length):xs.isEmpty=ys.isEmpty:=by
  cases xs <;> cases ys <;> simp_all
theorem RKs.len:∀ {ds:List (Key × D)} {xs:List (Key × V)},RKs K ρ H ds xs->xs.length=ds.length
  | [],xs,h=>by simp only[RKs]at h;rw[h];rfl
  | d :: ds,xs,h=>by
    simp only[RKs]at h
    obtain⟨x,r,rfl,_,_,z⟩:=h
    simp[RKs.len z]
theorem Q9{d:D}{v:V}{b:Bool}(hR:RH K ρ H hd)(h:RD K ρ H d v)(e:E1 hd d=some b):Kd K v H b:=by
  cases d with
  | im i=>
    cases i with
    | non=>simp only[RD,RI]at h;subst h;simp only[E1,Option.some.injEq]at e;subst e;exact rfl
    | bl c=>simp only[RD,RI]at h;subst h;simp only[E1,Option.some.injEq]at e;subst e;exact rfl
    | int c=>simp only[RD,RI]at h;subst h;simp only[E1,Option.some.injEq]at e;subst e;exact rfl
    | str c=>
      simp only[RD,RI]at h;subst h;simp only[E1]at e
      split at e
      . next z=>cases e;exact⟨z,rfl⟩
      . cases e
    | tup is=>
      obtain⟨a,xs,rfl,q,r⟩:=h.tup (ds:=is.map .im) rfl
      simp only[E1,Option.some.injEq]at e;subst e
      exact .inr (.inl ⟨xs,q,by rw[Co (show xs.length=is.length by simpa using r.len)]⟩)
  | tm ds=>
    obtain⟨a,xs,rfl,q,r⟩:=h.tup (ds:=ds) rfl
    simp only[E1,Option.some.injEq]at e;subst e
    exact .inr (.inl ⟨xs,q,by rw[Co r.len]⟩)
  | ro ns=>
    obtain⟨a,xs,rfl,q,r⟩:=h.lst hR (hd:=hd) (ds:=ns.map λ n=>.im (.int n)) rfl
    simp only[E1,Option.some.injEq]at e;subst e
    exact .inl ⟨xs,q,by rw[Co (show xs.length=ns.length by simpa using r.len)]⟩
  | mu n=>
    simp only[RD]at h
    obtain⟨a,hn,rfl⟩:=h
    simp only[E1]at e
    split at e
    . next q=>
      cases e
      obtain⟨xs,e1,e2⟩:=hR.lst hn q
      exact .inl ⟨xs,SqL.of e1,by rw[Co e2.len]⟩
    . next q=>
      cases e
      obtain⟨xs,e1,e2⟩:=hR.dic hn q
      exact .inr (.inr ⟨xs,e1,by rw[Co e2.len]⟩)
    . cases e
noncomputable def Cy(ma:ME):MT:=λ ls hd=>(ma ls hd).bind λ p=>(E1 p.2 p.1).map (·,p.2)
theorem OM{ta:TE}{ma:ME}(ha:RE K ta ma):RT K (λ σ H Q=>ta σ H λ x H'=>∃ k,Kd K x H' k/\Q k H') (Cy ma):=by
  intro ρ σ H hd ls Q d hd' hR hL hm hQ
  obtain⟨⟨d1,h1⟩,e1,hm⟩:=Option.bind_eq_some_iff.mp hm
  obtain⟨b,e2,e3⟩:=Option.map_eq_some_iff.mp hm
  cases e3
  exact ha ρ σ H hd ls _ d1 h1 hR hL e1 λ ρ1 H1 v x1 R1 r1=>⟨_,Q9 R1 r1 e2,hQ ρ1 H1 x1 R1⟩
noncomputable def AT(ma:ME):MT:=λ ls hd=>(ma ls hd).bind λ p=>match p.1 with
  | .im (.bl b)=>some (b,p.2)
  | _=>none
theorem DE{ta:TE}{ma:ME}(ha:RE K ta ma):RT K (Em ta) (AT ma):=by
  intro ρ σ H hd ls Q d hd' hR hL hm hQ
  obtain⟨⟨d1,h1⟩,e1,hm⟩:=Option.bind_eq_some_iff.mp hm
  dsimp only at hm
  split at hm
  . cases hm
    exact ha ρ σ H hd ls _ _ _ hR hL e1 λ ρ1 H1 v x1 R1 r1=>⟨_,by simpa only[RD,RI]using r1,hQ ρ1 H1 x1 R1⟩
  . cases hm
theorem Sd{ta:TE}{ma:ME}(ha:RE K ta ma):RT K (tB ta) (AT ma):=DE ha
noncomputable def mIf(c:MT)(ma mb:ME):ME:=λ ls hd=>(c ls hd).bind λ p=>if p.1=true then ma ls p.2 else mb ls p.2
theorem Ul{tc:TT}{c:MT}{ta tb:TE}{ma mb:ME}(hc:RT K tc c)(ha:RE K ta ma)(hb:RE K tb mb):RE K (tIf tc ta tb) (mIf c ma mb):=by
  intro ρ σ H hd ls Q d hd' hR hL hm hQ
  obtain⟨⟨d1,h1⟩,e1,hm⟩:=Option.bind_eq_some_iff.mp hm
  refine hc ρ σ H hd ls _ d1 h1 hR hL e1 λ ρ1 H1 x1 R1=>?_
  cases d1 with
  | true=>
    rw[if_pos rfl]at hm ⊢
    exact ha ρ1 σ H1 h1 ls Q d hd' R1 (hL.ext hR x1) hm λ ρ2 H2 v x2 R2 r2=>hQ ρ2 H2 v (x1.trans R1 x2) R2 r2
  | false=>
    rw[if_neg Bool.false_ne_true]at hm ⊢
    exact hb ρ1 σ H1 h1 ls Q d hd' R1 (hL.ext hR x1) hm λ ρ2 H2 v x2 R2 r2=>hQ ρ2 H2 v (x1.trans R1 x2) R2 r2
noncomputable def Gh(ma mb:ME):ME:=λ ls hd=>(AT ma ls hd).bind λ p=>if p.1=true then mb ls p.2 else some (.im (.bl false),p.2)
noncomputable def KJ(ma mb:ME):ME:=λ ls hd=>(AT ma ls hd).bind λ p=>if p.1=true then some (.im (.bl true),p.2)else mb ls p.2
noncomputable def V3(ma:ME):ME:=λ ls hd=>(AT ma ls hd).bind λ p=>some (.im (.bl (!p.1)),p.2)
theorem Qm{ta tb:TE}{ma mb:ME}(ha:RE K ta ma)(hb:RE K tb mb):RE K (Lj ta tb) (Gh ma mb):=by
  intro ρ σ H hd ls Q d hd' hR hL hm hQ
  obtain⟨⟨d1,h1⟩,e1,hm⟩:=Option.bind_eq_some_iff.mp hm
  refine DE ha ρ σ H hd ls (λ c H1=>if c=true then tb σ H1 Q else Q (.bl false) H1) d1 h1 hR hL e1 λ ρ1 H1 x1 R1=>?_
  cases d1 with
  | true=>
    rw[if_pos rfl]at hm ⊢
    exact hb ρ1 σ H1 h1 ls Q d hd' R1 (hL.ext hR x1) hm λ ρ2 H2 v x2 R2 r2=>hQ ρ2 H2 v (x1.trans R1 x2) R2 r2
  | false=>
    rw[if_neg Bool.false_ne_true]at hm ⊢
    cases hm
    exact hQ ρ1 H1 _ x1 R1 (by simp[RD,RI])
theorem T0{ta tb:TE}{ma mb:ME}(ha:RE K ta ma)(hb:RE K tb mb):RE K (OC ta tb) (KJ ma mb):=by
  intro ρ σ H hd ls Q d hd' hR hL hm hQ
  obtain⟨⟨d1,h1⟩,e1,hm⟩:=Option.bind_eq_some_iff.mp hm
  refine DE ha ρ σ H hd ls (λ c H1=>if c=true then Q (.bl true) H1 else tb σ H1 Q) d1 h1 hR hL e1 λ ρ1 H1 x1 R1=>?_
  cases d1 with
  | true=>
    rw[if_pos rfl]at hm ⊢
    cases hm
    exact hQ ρ1 H1 _ x1 R1 (by simp[RD,RI])
  | false=>
    rw[if_neg Bool.false_ne_true]at hm ⊢
    exact hb ρ1 σ H1 h1 ls Q d hd' R1 (hL.ext hR x1) hm λ ρ2 H2 v x2 R2 r2=>hQ ρ2 H2 v (x1.trans R1 x2) R2 r2
noncomputable def A7:MA:=λ _ hd=>some ([],hd)
noncomputable def A2(ma:ME)(mr:MA):MA:=λ ls hd=>(ma ls hd).bind λ p=>(mr ls p.2).bind λ q=>some (p.1 :: q.1,q.2)
theorem T5:RA K CT A7:=by
  intro ρ σ H hd ls Q d hd' hR hL hm hQ
  cases hm
  exact hQ ρ H [] .refl hR .nil
theorem Qo{ta:TE}{tr:TA}{ma:ME}{mr:MA}(ha:RE K ta ma)(hr:RA K tr mr):RA K (C1 ta tr) (A2 ma mr):=by
  intro ρ σ H hd ls Q d hd' hR hL hm hQ
  obtain⟨⟨d1,h1⟩,e1,hm⟩:=Option.bind_eq_some_iff.mp hm
  obtain⟨⟨d2,h2⟩,e2,hm⟩:=Option.bind_eq_some_iff.mp hm
  cases hm
  refine ha ρ σ H hd ls _ d1 h1 hR hL e1 λ ρ1 H1 v1 x1 R1 r1=>?_
  exact hr ρ1 σ H1 h1 ls _ d2 _ R1 (hL.ext hR x1) e2 λ ρ2 H2 v2 x2 R2 r2=>hQ ρ2 H2 _ (x1.trans R1 x2) R2 (.cons (r1.ext R1 x2) r2)
open Classical in
noncomputable def BT(ma:MA):ME:=λ ls hd=>(ma ls hd).bind λ p=>if BU p.1.length then some (B4 p.1,p.2)else none
theorem Sy{t:TA}{m:MA}(h:RA K t m):RE K (O8 t) (BT m):=by
  intro ρ σ H hd ls Q d hd' hR hL hm hQ
  obtain⟨⟨d1,h1⟩,e1,hm⟩:=Option.bind_eq_some_iff.mp hm
  dsimp only at hm
  split at hm
  . next z=>
    cases hm
    refine h ρ σ H hd ls _ d1 _ hR hL e1 λ ρ1 H1 v1 x1 R1 r1=>⟨by rw[r1.len];exact z,λ p hp=>?_⟩
    obtain⟨R2,x2⟩:=R1.hid (ho:=.tup v1) hp
    exact hQ ρ1 _ _ (x1.trans R1 x2) R2 (Cu (SqT.of AW) (r1.ext R1 x2))
  . cases hm
open Classical in
noncomputable def C6(ma:MA):MA:=λ ls hd=>(ma ls hd).bind λ p=>if BU p.1.length then some (p.1,p.2)else none
theorem RH.out(hR:RH K ρ H hd){a:Addr}(h:H a=none):a ∉ ρ:=λ m=>by rcases hR.mut m with⟨y,z⟩|⟨y,z⟩ <;> (rw[h]at z;cases z)
theorem Ext.none(e:Ext ρ H ρ' H')(hR:RH K ρ H hd){a:Addr}(h:H' a=none)(hR':RH K ρ' H' hd'):H a=none:=by
  cases q:H a with
  | none=>rfl
  | some o=>
    by_cases m:a ∈ ρ
    . obtain⟨r,rfl,_⟩:=e.pre
      exact absurd (List.mem_append_left r m) (hR'.out h)
    . by_cases t:∃ ps,o=.tbl ps
      . obtain⟨ps,rfl⟩:=t
        obtain⟨ps',this⟩:=e.tab a ps q
        rw[h]at this;cases this
      . rw[e.keep a o q m λ ps y=>t ⟨ps,y⟩]at h;cases h
theorem Sn{t:TA}{m:MA}(h:RA K t m):RN K (OE t) (C6 m):=by
  intro ρ σ H hd ls Q d hd' hR hL hm hQ
  obtain⟨⟨d1,h1⟩,e1,hm⟩:=Option.bind_eq_some_iff.mp hm
  dsimp only at hm
  split at hm
  . next z=>
    cases hm
    refine h ρ σ H hd ls _ _ _ hR hL e1 λ ρ1 H1 v1 x1 R1 r1=>⟨by rw[r1.len];exact z,λ p hp=>?_⟩
    obtain⟨R2,x2⟩:=R1.hid (ho:=.lst v1) hp
    exact hQ ρ1 _ p v1 (x1.trans R1 x2) R2 (x1.none hR hp R1) (R1.out hp) AW (r1.ext R1 x2)
  . cases hm
noncomputable def B1(ml:MA):ME:=λ ls hd=>(ml ls hd).bind λ p=>some (.mu p.2.length,p.2 ++ [.lst p.1])
theorem RH.name(hR:RH K ρ H hd){a:Addr}{xs:List V}{ds:List D}(out:a ∉ ρ)(e:H a=some (.lst xs))(r:RDs K ρ H ds xs):RH K (ρ ++ [a]) H (hd ++ [.lst ds]):=by
  have mono:∀ {o:MO} {ho:HO},RC K ρ H o ho->RC K (ρ ++ [a]) H o ho:=λ c=>c.mono Grow.refl [a]
  refine⟨by simp[hR.len],?_,hR.tabs,λ n o' b e1 e2=>?_⟩
  . rw[List.nodup_append]
    refine⟨hR.nd,by simp,λ x hx y hy z=>?_⟩
    simp at hy;subst hy;subst z;exact out hx
  . by_cases hn:n < ρ.length
    . rw[List.getElem?_append_left hn]at e2
      rw[List.getElem?_append_left (by rw[<- hR.len];exact hn)]at e1
      obtain⟨ho',q1,q2⟩:=hR.ob n o' b e1 e2
      exact⟨ho',q1,mono q2⟩
    . have hn':n=ρ.length:=by
        have:=(List.getElem?_eq_some_iff.mp e2).1
        simp at this;omega
      subst hn'
      simp at e2
      rw[hR.len]at e1
      simp at e1
      subst e1;subst e2
      exact⟨_,e,mono ⟨xs,rfl,r⟩⟩
theorem Ext.name(e:Ext ρ H ρ' H'){a:Addr}(h:H a=Option.none):Ext ρ H (ρ' ++ [a]) H':=by
  obtain⟨r,rfl,f⟩:=e.pre
  refine⟨⟨r ++ [a],by simp,λ b m=>?_⟩,e.keep,e.tab⟩
  rcases List.mem_append.mp m with m|m
  . exact f b m
  . simp at m;subst m;exact h
theorem Mw{t:TE}{m:MA}(h:RN K t m):RE K t (B1 m):=by
  intro ρ σ H hd ls Q d hd' hR hL hm hQ
  obtain⟨⟨d1,h1⟩,e1,hm⟩:=Option.bind_eq_some_iff.mp hm
  cases hm
  refine h ρ σ H hd ls Q d1 h1 hR hL e1 λ ρ1 H1 a xs x1 R1 na oa ea r1=>?_
  refine hQ (ρ1 ++ [a]) H1 _ (x1.name na) (R1.name oa ea r1) ?_
  simp only[RD]
  exact⟨a,by rw[<- R1.len];simp,rfl⟩
end
end L2
namespace L2
open PySem PySem.Spec PyProof.Rows
section
variable{K:PySem.W.Frag}{ρ ρ':List Addr}{H H':Hp}{hd hd':Hd}
noncomputable def fI(g:Int->Int->Option I):D->D->Hd->Option (D × Hd)
  | .im (.int i),.im (.int j),hd=>(g i j).map (.im ·,hd)
  | _,_,_=>none
theorem Lr{C:Int->Int->Prop}{g:Int->Int->V}{f:Int->Int->Option I}(h:∀ i j z,f i j=some z->C i j/\∀ H,RI K H z (g i j)):RB K (rI C g) (fI f):=by
  intro ρ H hd d e v u Q z hd' hR h1 h2 hf hQ
  unfold fI at hf
  split at hf
  . simp only[RD,RI]at h1 h2
    subst h1 h2
    obtain⟨w,e1,e2⟩:=Option.map_eq_some_iff.mp hf
    cases e2
    obtain⟨c,r⟩:=h _ _ _ e1
    exact⟨_,_,rfl,rfl,c,hQ ρ H _ .refl hR (by simpa only[RD]using r H)⟩
  . cases hf
theorem GX{g:Int->Int->V}{f:Int->Int->I}(h:∀ i j H,RI K H (f i j) (g i j)):RB K (rI0 g) (fI λ i j=>some (f i j)):=by
  intro ρ H hd d e v u Q z hd' hR h1 h2 hf hQ
  unfold fI at hf
  split at hf
  . simp only[RD,RI]at h1 h2
    subst h1 h2
    cases hf
    exact⟨_,_,rfl,rfl,hQ ρ H _ .refl hR (by simpa only[RD]using h _ _ H)⟩
  . cases hf
noncomputable def Gm(f g:D->D->Hd->Option (D × Hd)):D->D->Hd->Option (D × Hd):=λ d e hd=>match f d e hd with
  | some z=>some z
  | none=>g d e hd
theorem Ah{r r':R2}{f g:D->D->Hd->Option (D × Hd)}(h:RB K r f)(h':RB K r' g):RB K (λ x y H Q=>r x y H Q ∨ r' x y H Q) (Gm f g):=by
  intro ρ H hd d e v u Q z hd' hR h1 h2 hf hQ
  unfold Gm at hf
  split at hf
  . next q=>cases hf;exact .inl (h ρ H hd d e v u Q z hd' hR h1 h2 q hQ)
  . exact .inr (h' ρ H hd d e v u Q z hd' hR h1 h2 hf hQ)
noncomputable abbrev MQ:D->D->Hd->Option (D × Hd):=fI λ i j=>some (.int (i + j))
noncomputable abbrev JP:D->D->Hd->Option (D × Hd):=fI λ i j=>some (.int (i - j))
theorem Bp:RB K (rI0 λ i j=>.int (i + j)) MQ:=GX λ _ _ _=>by simp[RI]
theorem Mz:RB K (rI0 λ i j=>.int (i - j)) JP:=GX λ _ _ _=>by simp[RI]
open Classical in
noncomputable abbrev BY:D->D->Hd->Option (D × Hd):=fI λ i j=>if CQ i j then some (.int (i * j))else none
theorem Bo:RB K (rI CMul λ i j=>.int (i * j)) BY:=Lr λ i j z h=>by
  split at h
  . next q=>cases h;exact⟨q,λ _=>by simp[RI]⟩
  . cases h
open Classical in
noncomputable abbrev Ee:D->D->Hd->Option (D × Hd):=fI λ i j=>if C3 j then some (.int (i % j))else none
theorem DL:RB K (rI (λ _ j=>0 < j) λ i j=>.int (i % j)) Ee:=Lr λ i j z h=>by
  split at h
  . next q=>cases h;exact⟨q,λ _=>by simp[RI]⟩
  . cases h
open Classical in
noncomputable abbrev Fk:D->D->Hd->Option (D × Hd):=fI λ i j=>if Gn j then some (.int (i / j))else none
theorem FF:RB K (rI UZ λ i j=>.int (i / j)) Fk:=Lr λ i j z h=>by
  split at h
  . next q=>cases h;exact⟨q,λ _=>by simp[RI]⟩
  . cases h
open Classical in
noncomputable abbrev U6:D->D->Hd->Option (D × Hd):=fI λ i j=>if M1 i j then some (.int (i ^ j.toNat))else none
theorem T4:RB K (rI UY λ i j=>.int (i ^ j.toNat)) U6:=Lr λ i j z h=>by
  split at h
  . next q=>cases h;exact⟨q,λ _=>by simp[RI]⟩
  . cases h
noncomputable abbrev gLt:D->D->Hd->Option (D × Hd):=fI λ i j=>some (.bl (decide (i < j)))
noncomputable abbrev gLe:D->D->Hd->Option (D × Hd):=fI λ i j=>some (.bl (decide (i <= j)))
noncomputable abbrev gGt:D->D->Hd->Option (D × Hd):=fI λ i j=>some (.bl (decide (j < i)))
noncomputable abbrev gGe:D->D->Hd->Option (D × Hd):=fI λ i j=>some (.bl (decide (j <= i)))
theorem Ep:RB K (rI0 λ i j=>.bl (decide (i < j))) gLt:=GX λ _ _ _=>by simp[RI]
theorem Um:RB K (rI0 λ i j=>.bl (decide (i <= j))) gLe:=GX λ _ _ _=>by simp[RI]
theorem Lq:RB K (rI0 λ i j=>.bl (decide (j < i))) gGt:=GX λ _ _ _=>by simp[RI]
theorem Pf:RB K (rI0 λ i j=>.bl (decide (j <= i))) gGe:=GX λ _ _ _=>by simp[RI]
noncomputable def scI:I->Option V
  | .non=>some .non
  | .bl b=>some (.bl b)
  | .int i=>some (.int i)
  | .str x=>some (.str x)
  | .tup _=>none
theorem Hq{i:I}{v w:V}(e:scI i=some w)(h:RI K H i v):v=w:=by
  cases i with
  | tup _=>simp[scI]at e
  | _=>simp only[scI,Option.some.injEq]at e;subst e;simpa only[RI]using h
noncomputable def FB(neg:Bool):D->D->Hd->Option (D × Hd)
  | .im i,.im j,hd=>match scI i,scI j with
    | some x,some y=>if Jn x y=true then some (.im (.bl (if neg then !decide (x=y)else decide (x=y))),hd)else none
    | _,_=>none
  | _,_,_=>none
theorem Dq:RB K rEq (FB false):=by
  intro ρ H hd d e v u Q z hd' hR h1 h2 hf hQ
  unfold FB at hf
  split at hf
  . split at hf
    . next x y e1 e2=>
      split at hf
      . next s=>
        cases hf
        simp only[RD]at h1 h2
        rw[Hq e1 h1,Hq e2 h2]
        exact⟨s,hQ ρ H _ .refl hR (by simp[RD,RI])⟩
      . cases hf
    . cases hf
  . cases hf
theorem N0:RB K rNe (FB true):=by
  intro ρ H hd d e v u Q z hd' hR h1 h2 hf hQ
  unfold FB at hf
  split at hf
  . split at hf
    . next x y e1 e2=>
      split at hf
      . next s=>
        cases hf
        simp only[RD]at h1 h2
        rw[Hq e1 h1,Hq e2 h2]
        exact⟨s,hQ ρ H _ .refl hR (by simp[RD,RI])⟩
      . cases hf
    . cases hf
  . cases hf
mutual
noncomputable def I.py:I->PyData
  | .non=>.none
  | .bl b=>.bool b
  | .int i=>.int i
  | .str x=>.str x
  | .tup ds=>.tuple (I.pys ds)
noncomputable def I.pys:List I->List PyData
  | []=>[]
  | d :: ds=>I.py d :: I.pys ds
end
mutual
theorem RI.rep:∀ {i:I} {v:V},RI K H i v->Rep K H i.py v
  | .non,v,h=>by simpa only[RI,I.py,Rep]using h
  | .bl _,v,h=>by simpa only[RI,I.py,Rep]using h
  | .int _,v,h=>by simpa only[RI,I.py,Rep]using h
  | .str _,v,h=>by simpa only[RI,I.py,Rep]using h
  | .tup ds,v,h=>by
    simp only[RI]at h
    obtain⟨a,xs,e,q,r⟩:=h
    simp only[I.py,Rep]
    exact⟨a,xs,e,q,RIs.rep r⟩
theorem RIs.rep:∀ {i:List I} {v:List V},RIs K H i v->CJ K H (I.pys i) v
  | [],v,h=>by simpa only[RIs,I.pys,CJ]using h
  | d :: ds,v,h=>by
    simp only[RIs]at h
    obtain⟨x,r,e,q,z⟩:=h
    simp only[I.pys,CJ]
    exact⟨x,r,e,q.rep,RIs.rep z⟩
end
noncomputable def pyD(hd:Hd):D->Option PyData
  | .im i=>some i.py
  | .mu n=>match hd[n]? with
    | some (.lst ds)=>(BL ds).map λ is=>.list (I.pys is)
    | _=>none
  | .ro ns=>some (.list (I.pys (ns.map I.int)))
  | _=>none
theorem FI{d:D}{v:V}{p:PyData}(hR:RH K ρ H hd)(h:RD K ρ H d v)(e:pyD hd d=some p):Rep K H p v:=by
  cases d with
  | im i=>simp only[pyD,Option.some.injEq]at e;subst e;simp only[RD]at h;exact h.rep
  | mu n=>
    simp only[pyD]at e
    simp only[RD]at h
    obtain⟨a,hn,rfl⟩:=h
    split at e
    . next q=>
      obtain⟨is,e1,rfl⟩:=Option.map_eq_some_iff.mp e
      obtain⟨xs,e2,e3⟩:=hR.lst hn q
      rw[Ft e1]at e3
      simp only[Rep]
      exact⟨a,xs,rfl,SqL.of e2,e3.is.rep⟩
    . cases e
  | ro ns=>
    simp only[pyD,Option.some.injEq]at e;subst e
    obtain⟨a,xs,rfl,q,r⟩:=h.lst hR (hd:=hd) (ds:=ns.map λ n=>.im (.int n)) rfl
    simp only[Rep]
    refine⟨a,xs,rfl,q,RIs.rep (RDs.is (ρ:=ρ) ?_)⟩
    rw[List.map_map]
    exact r
  | tm _=>simp[pyD]at e
noncomputable def Ik(neg:Bool):D->D->Hd->Option (D × Hd):=λ d e hd=>match pyD hd d,pyD hd e with
  | some x,some y=>if x.canLay0=true/\y.canLay0=true/\min x.depth y.depth <= 60 then some (.im (.bl (if neg then !PyData.eqv x y else PyData.eqv x y)),hd)else none
  | _,_=>none
theorem Dr:RB K (Oh K) (Ik false):=by
  intro ρ H hd d e v u Q z hd' hR h1 h2 hf hQ
  unfold Ik at hf
  split at hf
  . next e1 e2=>
    split at hf
    . next c=>cases hf;exact⟨_,_,FI hR h1 e1,FI hR h2 e2,c.1,c.2.1,c.2.2,hQ ρ H _ .refl hR (by simp[RD,RI])⟩
    . cases hf
  . cases hf
theorem N1:RB K (Oe K) (Ik true):=by
  intro ρ H hd d e v u Q z hd' hR h1 h2 hf hQ
  unfold Ik at hf
  split at hf
  . next e1 e2=>
    split at hf
    . next c=>cases hf;exact⟨_,_,FI hR h1 e1,FI hR h2 e2,c.1,c.2.1,c.2.2,hQ ρ H _ .refl hR (by simp[RD,RI])⟩
    . cases hf
  . cases hf
noncomputable abbrev gEq:=Gm (FB false) (Ik false)
noncomputable abbrev gNe:=Gm (FB true) (Ik true)
noncomputable def gIx:D->D->Hd->Option (D × Hd)
  | d,.im (.int i),hd=>(Ar hd d).bind λ ds=>(atI ds i).map (·,hd)
  | _,_,_=>none
theorem LS{α β:Type}{xs:List α}{ys:List β}{i:Int}{y:β}(h:xs.length=ys.length)(e:atI ys i=some y):∃ (j:Nat),ys[j]? = some y/\∀ x,xs[j]? = some x->atI xs i=some x:=by
  unfold atI at e
  obtain⟨j,e1,e2⟩:=Option.bind_eq_some_iff.mp e
  exact⟨j,e2,λ x q=>by unfold atI;rw[h,e1];exact q⟩
noncomputable def JM(K:PySem.W.Frag):R2:=λ x y H Q=>Og K x y H Q ∨ Of K x y H Q
theorem Uo:RB K (JM K) gIx:=by
  intro ρ H hd d e v u Q z hd' hR h1 h2 hf hQ
  unfold gIx at hf
  split at hf
  . obtain⟨ds,e1,hf⟩:=Option.bind_eq_some_iff.mp hf
    obtain⟨w,e2,e3⟩:=Option.map_eq_some_iff.mp hf
    cases e3
    obtain⟨a,xs,rfl,q,r⟩:=h1.seq hR e1
    simp only[RD,RI]at h2
    subst h2
    obtain⟨j,j1,j2⟩:=LS r.len e2
    obtain⟨x,x1,x2⟩:=r.get j1
    rcases q with q|q
    . exact .inl ⟨a,xs,_,x,rfl,rfl,q,j2 x x1,hQ ρ H x .refl hR x2⟩
    . exact .inr ⟨a,xs,_,x,rfl,rfl,q,j2 x x1,hQ ρ H x .refl hR x2⟩
  . cases hf
noncomputable def DV(xs:List D)(lo hi:Option Int):List D:=(xs.drop (HT.sIx xs.length 0 lo)).take (HT.sIx xs.length xs.length hi - HT.sIx xs.length 0 lo)
theorem LO{ds:List D}{xs:List V}{lo hi:Option Int}(r:RDs K ρ H ds xs):RDs K ρ H (DV ds lo hi) (FC xs lo hi):=by
  unfold DV FC
  rw[r.len]
  exact(r.drop _).take _
noncomputable abbrev MO1:=Ls->Hd->Option (Option Int × Hd)
noncomputable def RO1(K:PySem.W.Frag)(t:TO)(m:MO1):Prop:=∀ (ρ:List Addr) (σ:St) (H:Hp) (hd:Hd) (ls:Ls) (Q:Option Int->Hp->Prop) (d:Option Int) (hd':Hd),RH K ρ H hd->RL K ρ H ls σ->m ls hd=some (d,hd') ->
  (∀ ρ' H',Ext ρ H ρ' H'->RH K ρ' H' hd'->Q d H')->t σ H Q
noncomputable def CL:MO1:=λ _ hd=>some (none,hd)
noncomputable def Dj(m:ME):MO1:=λ ls hd=>(m ls hd).bind λ p=>match p.1 with
  | .im (.int i)=>some (some i,p.2)
  | _=>none
theorem Qb:RO1 K IR CL:=by
  intro ρ σ H hd ls Q d hd' hR hL hm hQ
  cases hm
  exact hQ ρ H .refl hR
theorem Qa{t:TE}{m:ME}(h:RE K t m):RO1 K (Ld t) (Dj m):=by
  intro ρ σ H hd ls Q d hd' hR hL hm hQ
  obtain⟨⟨d1,h1⟩,e1,hm⟩:=Option.bind_eq_some_iff.mp hm
  dsimp only at hm
  split at hm
  . cases hm
    exact h ρ σ H hd ls _ _ _ hR hL e1 λ ρ1 H1 v x1 R1 r1=>⟨_,by simpa only[RD,RI]using r1,hQ ρ1 H1 x1 R1⟩
  . cases hm
noncomputable def KH(m:ME)(ml mh:MO1):ME:=λ ls hd=>(m ls hd).bind λ p=>(ml ls p.2).bind λ l=>(mh ls l.2).bind λ h=>(Ad p.1).bind λ ds=>
  if ¬ (HT.sIx ds.length 0 l.1=0/\HT.sIx ds.length ds.length h.1=ds.length)then some (B4 (DV ds l.1 h.1),h.2)else none
theorem Sz{t:TE}{tl th:TO}{m:ME}{ml mh:MO1}(h:RE K t m)(hl:RO1 K tl ml)(hh:RO1 K th mh):RE K (tSl (Lv K) t tl th) (KH m ml mh):=by
  intro ρ σ H hd ls Q d hd' hR hL hm hQ
  obtain⟨⟨d1,h1⟩,e1,hm⟩:=Option.bind_eq_some_iff.mp hm
  obtain⟨⟨d2,h2⟩,e2,hm⟩:=Option.bind_eq_some_iff.mp hm
  obtain⟨⟨d3,h3⟩,e3,hm⟩:=Option.bind_eq_some_iff.mp hm
  obtain⟨ds,e4,hm⟩:=Option.bind_eq_some_iff.mp hm
  dsimp only at e2 e3 e4 hm
  split at hm
  . next c=>
    cases hm
    refine h ρ σ H hd ls _ d1 h1 hR hL e1 λ ρ1 H1 v1 x1 R1 r1=>?_
    refine hl ρ1 σ H1 h1 ls _ d2 h2 R1 (hL.ext hR x1) e2 λ ρ2 H2 x2 R2=>?_
    refine hh ρ2 σ H2 h2 ls _ d3 _ R2 (hL.ext hR (x1.trans R1 x2)) e3 λ ρ3 H3 x3 R3=>?_
    obtain⟨a,xs,rfl,q,r⟩:=((r1.ext R1 x2).ext R2 x3).tup e4
    refine⟨a,xs,rfl,q,by rw[r.len];exact c,λ p hp=>?_⟩
    obtain⟨R4,x4⟩:=R3.hid (ho:=.tup (FC xs d2 d3)) hp
    exact hQ ρ3 _ _ (((x1.trans R1 x2).trans R2 x3).trans R3 x4) R4 (Cu (SqT.of AW) ((LO r).ext R3 x4))
  . cases hm
noncomputable def Ff(m:ME)(ml mh:MO1):MA:=λ ls hd=>(m ls hd).bind λ p=>(ml ls p.2).bind λ l=>(mh ls l.2).bind λ h=>(Av h.2 p.1).bind λ ds=>some (DV ds l.1 h.1,h.2)
theorem Sk{t:TE}{tl th:TO}{m:ME}{ml mh:MO1}(h:RE K t m)(hl:RO1 K tl ml)(hh:RO1 K th mh):RN K (tSl (Lw K) t tl th) (Ff m ml mh):=by
  intro ρ σ H hd ls Q d hd' hR hL hm hQ
  obtain⟨⟨d1,h1⟩,e1,hm⟩:=Option.bind_eq_some_iff.mp hm
  obtain⟨⟨d2,h2⟩,e2,hm⟩:=Option.bind_eq_some_iff.mp hm
  obtain⟨⟨d3,h3⟩,e3,hm⟩:=Option.bind_eq_some_iff.mp hm
  obtain⟨ds,e4,hm⟩:=Option.bind_eq_some_iff.mp hm
  dsimp only at e2 e3 e4 hm
  cases hm
  refine h ρ σ H hd ls _ d1 h1 hR hL e1 λ ρ1 H1 v1 x1 R1 r1=>?_
  refine hl ρ1 σ H1 h1 ls _ d2 h2 R1 (hL.ext hR x1) e2 λ ρ2 H2 x2 R2=>?_
  refine hh ρ2 σ H2 h2 ls _ d3 _ R2 (hL.ext hR (x1.trans R1 x2)) e3 λ ρ3 H3 x3 R3=>?_
  obtain⟨a,xs,rfl,q,r⟩:=RD.lst R3 ((r1.ext R1 x2).ext R2 x3) e4
  refine⟨a,xs,rfl,q,λ p hp=>?_⟩
  obtain⟨R4,x4⟩:=R3.hid (ho:=.lst (FC xs d2 d3)) hp
  have x123:=(x1.trans R1 x2).trans R2 x3
  exact hQ ρ3 _ p _ (x123.trans R3 x4) R4 (x123.none hR hp R3) (R3.out hp) AW ((LO r).ext R3 x4)
noncomputable def mCB(f:List D->Hd->Option (D × Hd))(ma:MA):ME:=λ ls hd=>(ma ls hd).bind λ p=>f p.1 p.2
theorem Pe{r:List V->Hp->VK->Prop}{f:List D->Hd->Option (D × Hd)}{t:TA}{m:MA}(hr:RF K r f)(h:RA K t m):RE K (tCB r t) (mCB f m):=by
  intro ρ σ H hd ls Q d hd' hR hL hm hQ
  obtain⟨⟨d1,h1⟩,e1,hm⟩:=Option.bind_eq_some_iff.mp hm
  refine h ρ σ H hd ls _ d1 h1 hR hL e1 λ ρ1 H1 v1 x1 R1 r1=>?_
  exact hr ρ1 H1 h1 d1 v1 Q d hd' R1 r1 hm λ ρ' H' w x2 R2 r2=>hQ ρ' H' w (x1.trans R1 x2) R2 r2
noncomputable def f1(tp:Bool)(g:List D->Option D):List D->Hd->Option (D × Hd)
  | [d],hd=>((if tp then Ar hd d else Av hd d)).bind λ ds=>(g ds).map (·,hd)
  | _,_=>none
theorem CB{tp:Bool}{r:List V->Hp->VK->Prop}{g:List D->Option D}(h:RG K tp r g):RF K r (f1 tp g):=by
  intro ρ H hd ds vs Q z hd' hR h1 hf hQ
  unfold f1 at hf
  split at hf
  . next d hd'=>
    obtain⟨es,e1,hf⟩:=Option.bind_eq_some_iff.mp hf
    obtain⟨w,e2,e3⟩:=Option.map_eq_some_iff.mp hf
    cases e3
    simp only[RDs]at h1
    obtain⟨x,r,rfl,rx,rfl⟩:=h1
    cases tp with
    | true=>
      rw[if_pos rfl]at e1
      obtain⟨a,xs,rfl,q,rr⟩:=rx.seq hR e1
      exact h ρ H hd a xs es Q z hR (q.imp id λ q=>⟨rfl,q⟩) rr e2 λ H' w x R r=>hQ ρ H' w x R r
    | false=>
      rw[if_neg Bool.false_ne_true]at e1
      obtain⟨a,xs,rfl,q,rr⟩:=rx.lst hR e1
      exact h ρ H hd a xs es Q z hR (.inl q) rr e2 λ H' w x R r=>hQ ρ H' w x R r
  . cases hf
noncomputable def E5(g:List D->Option D)(ml:MA):ME:=λ ls hd=>(ml ls hd).bind λ p=>(g p.1).map (·,p.2)
theorem My{tp:Bool}{r:List V->Hp->VK->Prop}{g:List D->Option D}{t:TE}{m:MA}(hr:RG K tp r g)(h:RN K t m):RE K (tCB r (C1 t CT)) (E5 g m):=by
  intro ρ σ H hd ls Q d hd' hR hL hm hQ
  obtain⟨⟨d1,h1⟩,e1,hm⟩:=Option.bind_eq_some_iff.mp hm
  obtain⟨w,e2,e3⟩:=Option.map_eq_some_iff.mp hm
  cases e3
  refine h ρ σ H hd ls _ d1 _ hR hL e1 λ ρ1 H1 a xs x1 R1 na oa ea r1=>?_
  exact hr ρ1 H1 _ a xs d1 Q d R1 (.inl (SqL.of ea)) r1 e2 λ H' w x R r=>hQ ρ1 H' w (x1.trans R1 x) R r
noncomputable def B3(ds:List D):Option D:=some (.im (.int ds.length))
theorem BS:RG K true (T6 K) B3:=by
  intro ρ H hd a xs ds Q z hR q r e hQ
  cases e
  refine⟨a,xs,rfl,q.imp id λ q=>q.2,?_⟩
  rw[r.len]
  exact hQ H _ .refl hR (by simp[RD,RI])
noncomputable def Dv(ds:List D):Option D:=some (B4 ds)
theorem Ju:RG K true (K0 K) Dv:=by
  intro ρ H hd a xs ds Q z hR q r e hQ
  cases e
  refine⟨a,xs,rfl,?_⟩
  rcases q with q|⟨_,q⟩
  . refine .inl ⟨q,λ p hp=>?_⟩
    obtain⟨R2,x2⟩:=hR.hid (ho:=.tup xs) hp
    exact hQ _ _ x2 R2 (Cu (SqT.of AW) (r.ext hR x2))
  . exact .inr ⟨q,hQ H _ .refl hR (Cu q r)⟩
noncomputable def HQ(ds:List D):Option D:=(BW ds).map λ ns=>.im (.int ns.sum)
noncomputable def VX(K:PySem.W.Frag):List V->Hp->VK->Prop:=λ xs H Q=>Pj K xs H Q ∨ Pi K xs H Q
theorem Hr:RG K true (VX K) HQ:=by
  intro ρ H hd a xs ds Q z hR q r e hQ
  obtain⟨ns,e1,rfl⟩:=Option.map_eq_some_iff.mp e
  rw[HV e1]at r
  have:=IU r
  subst this
  rcases q with q|⟨_,q⟩
  . exact .inl ⟨a,ns,rfl,q,hQ H _ .refl hR (by simp[RD,RI])⟩
  . exact .inr ⟨a,ns,rfl,q,hQ H _ .refl hR (by simp[RD,RI])⟩
noncomputable def P5(ds:List D):Option D:=(CO ds).map λ bs=>.im (.bl (bs.all id))
noncomputable def P4(ds:List D):Option D:=(CO ds).map λ bs=>.im (.bl (bs.any id))
theorem Sv:RG K false (T8 K) P5:=by
  intro ρ H hd a xs ds Q z hR q r e hQ
  obtain⟨ns,e1,rfl⟩:=Option.map_eq_some_iff.mp e
  rw[Io e1]at r
  have:=Jv r
  subst this
  rcases q with q|⟨q,_⟩
  . exact⟨a,ns,rfl,q,hQ H _ .refl hR (by simp[RD,RI])⟩
  . cases q
theorem Su:RG K false (T7 K) P4:=by
  intro ρ H hd a xs ds Q z hR q r e hQ
  obtain⟨ns,e1,rfl⟩:=Option.map_eq_some_iff.mp e
  rw[Io e1]at r
  have:=Jv r
  subst this
  rcases q with q|⟨q,_⟩
  . exact⟨a,ns,rfl,q,hQ H _ .refl hR (by simp[RD,RI])⟩
  . cases q
theorem Ii{α:Type}{xs:List α}(h:xs ≠ []):0 < xs.length:=by cases xs <;> simp_all
noncomputable def Pu:List D->Hd->Option (D × Hd)
  | [.im (.int i),.im (.int j)],hd=>some (.im (.int (if j > i then j else i)),hd)
  | _,_=>none
noncomputable def Pt:List D->Hd->Option (D × Hd)
  | [.im (.int i),.im (.int j)],hd=>some (.im (.int (if j < i then j else i)),hd)
  | _,_=>none
noncomputable def KP:List D->Hd->Option (D × Hd)
  | [.im (.int i)],hd=>some (.im (.int (if i < 0 then -i else i)),hd)
  | _,_=>none
theorem Sw:RF K (λ xs H Q=>∃ i,xs=[.int i]/\Q (.int (if i < 0 then -i else i)) H) KP:=by
  intro ρ H hd ds vs Q z hd' hR h1 hf hQ
  unfold KP at hf
  split at hf
  . cases hf
    simp only[RDs,RD,RI]at h1
    obtain⟨x,r,rfl,rfl,rfl⟩:=h1
    exact⟨_,rfl,hQ ρ H _ .refl hR (by simp[RD,RI])⟩
  . cases hf
noncomputable def V4(ma:ME):MA:=λ ls hd=>(ma ls hd).bind λ p=>(Ar p.2 p.1).map (·,p.2)
noncomputable def IA(ml:MA):MA:=ml
theorem OU{t:TE}{m:MA}(h:RN K t m):RN K (tCB (IX K) (C1 t CT)) (IA m):=by
  intro ρ σ H hd ls Q d hd' hR hL hm hQ
  refine h ρ σ H hd ls _ d _ hR hL hm λ ρ1 H1 a xs x1 R1 na oa ea r1=>?_
  refine⟨a,xs,rfl,.inl (SqL.of ea),λ l hl=>?_⟩
  obtain⟨R2,x2⟩:=R1.hid (ho:=.lst xs) hl
  exact hQ ρ1 _ l xs (x1.trans R1 x2) R2 (x1.none hR hl R1) (R1.out hl) AW (r1.ext R1 x2)
noncomputable def DU:I->Option V
  | .non=>some .non
  | .bl b=>some (.bl b)
  | .int i=>some (.int i)
  | .str x=>some (.str x)
  | .tup _=>none
noncomputable def C5:List D->Option (List V)
  | []=>some []
  | .im i :: r=>(DU i).bind λ v=>(C5 r).map (v :: ·)
  | _ :: _=>none
theorem HW{i:I}{v w:V}(e:DU i=some w)(h:RI K H i v):v=w/\Dk w=true:=by
  cases i with
  | tup _=>simp[DU]at e
  | _=>simp only[DU,Option.some.injEq]at e;subst e;exact⟨by simpa only[RI]using h,rfl⟩
theorem GN:∀ {ds:List D} {vs ws:List V},C5 ds=some ws->RDs K ρ H ds vs->vs=ws/\ws.all Dk=true
  | [],vs,ws,e,h=>by simp[C5]at e;subst e;simp only[RDs]at h;subst h;exact⟨rfl,rfl⟩
  | .im i :: r,vs,ws,e,h=>by
    simp only[C5]at e
    obtain⟨v,e1,e⟩:=Option.bind_eq_some_iff.mp e
    obtain⟨us,e2,rfl⟩:=Option.map_eq_some_iff.mp e
    simp only[RDs,RD]at h
    obtain⟨x,y,rfl,h1,h2⟩:=h
    obtain⟨rfl,f1⟩:=HW e1 h1
    obtain⟨rfl,f2⟩:=GN e2 h2
    exact⟨rfl,by simp[f1,f2]⟩
  | .mu _ :: _,_,_,e,_=>by simp[C5]at e
  | .tm _ :: _,_,_,e,_=>by simp[C5]at e
  | .ro _ :: _,_,_,e,_=>by simp[C5]at e
noncomputable def gIn(neg:Bool):D->D->Hd->Option (D × Hd)
  | .im i,e,hd=>(DU i).bind λ x=>(Ar hd e).bind λ ds=>(C5 ds).map λ xs=>(.im (.bl (if neg then !inV x xs else inV x xs)),hd)
  | _,_,_=>none
theorem GW{neg:Bool}:RB K (rIn K neg) (gIn neg):=by
  intro ρ H hd d e v u Q z hd' hR h1 h2 hf hQ
  unfold gIn at hf
  split at hf
  . obtain⟨x,e1,hf⟩:=Option.bind_eq_some_iff.mp hf
    obtain⟨ds,e2,hf⟩:=Option.bind_eq_some_iff.mp hf
    obtain⟨xs,e3,e4⟩:=Option.map_eq_some_iff.mp hf
    cases e4
    simp only[RD]at h1
    obtain⟨rfl,f1⟩:=HW e1 h1
    obtain⟨a,ys,rfl,q,r⟩:=h2.seq hR e2
    obtain⟨rfl,f2⟩:=GN e3 r
    exact⟨a,ys,rfl,q,f1,f2,hQ ρ H _ .refl hR (by simp[RD,RI])⟩
  . cases hf
noncomputable def mMt(f:D->List D->Hd->Option (D × Hd))(mo:ME)(ma:MA):ME:=λ ls hd=>(mo ls hd).bind λ p=>match Av p.2 p.1 with
  | some _=>(ma ls p.2).bind λ q=>f p.1 q.1 q.2
  | none=>none
noncomputable def RM(K:PySem.W.Frag)(r:V->List V->Hp->VK->Prop)(f:D->List D->Hd->Option (D × Hd)):Prop:=∀ (ρ:List Addr) (H:Hp) (hd:Hd) (d:D) (v:V) (ds:List D) (vs:List V) (Q:VK) (z:D) (hd':Hd),RH K ρ H hd->RD K ρ H d v->RDs K ρ H ds vs->f d ds hd=some (z,hd') ->
  (∀ ρ' H' w,Ext ρ H ρ' H'->RH K ρ' H' hd'->RD K ρ' H' z w->Q w H')->r v vs H Q
theorem Uk{r:V->List V->Hp->VK->Prop}{f:D->List D->Hd->Option (D × Hd)}{to:TE}{t:TA}{mo:ME}{ma:MA}(hr:RM K r f)(ho:RE K to mo)(ha:RA K t ma):RE K (tBM K "list" r to t) (mMt f mo ma):=by
  intro ρ σ H hd ls Q d hd' hR hL hm hQ
  obtain⟨⟨d1,h1⟩,e1,hm⟩:=Option.bind_eq_some_iff.mp hm
  dsimp only at hm
  split at hm
  . next e=>
    obtain⟨⟨d2,h2⟩,e2,hm⟩:=Option.bind_eq_some_iff.mp hm
    refine ho ρ σ H hd ls _ d1 h1 hR hL e1 λ ρ1 H1 v x1 R1 r1=>⟨?_,?_⟩
    . obtain⟨a,xs,rfl,q,_⟩:=r1.lst R1 e
      exact .inl ⟨rfl,xs,q⟩
    . exact ha ρ1 σ H1 h1 ls _ d2 h2 R1 (hL.ext hR x1) e2 λ ρ2 H2 vs x2 R2 r2=>hr ρ2 H2 h2 d1 v d2 vs Q d hd' R2 (r1.ext R1 x2) r2 hm λ ρ' H' w x3 R3 r3=>hQ ρ' H' w ((x1.trans R1 x2).trans R2 x3) R3 r3
  . cases hm
open Classical in
noncomputable def Bn:D->List D->Hd->Option (D × Hd)
  | .mu n,[x],hd=>match hd[n]? with
    | some (.lst ds)=>if Ev ds.length then some (.im .non,hd.set n (.lst (ds ++ [x])))else none
    | _=>none
  | _,_,_=>none
theorem G9:RM K L0 Bn:=by
  intro ρ H hd d v ds vs Q z hd' hR h1 h2 hf hQ
  unfold Bn at hf
  split at hf
  . split at hf
    . next q=>
      split at hf
      . next c=>
        cases hf
        simp only[RD]at h1
        obtain⟨a,hn,rfl⟩:=h1
        simp only[RDs]at h2
        obtain⟨x,r,rfl,rx,rfl⟩:=h2
        obtain⟨xs,e1,e2⟩:=hR.lst hn q
        obtain⟨R2,x2⟩:=hR.put hn (o:=.lst (_ ++ [_])) (ho:=.lst (xs ++ [x])) ⟨_,rfl,e2.app (.cons rx .nil)⟩
        exact⟨a,xs,x,rfl,rfl,e1,by rw[e2.len];exact c,hQ ρ _ _ x2 R2 (by simp[RD,RI])⟩
      . cases hf
    . cases hf
  . cases hf
end
end L2
namespace L2
open PySem PySem.Spec PyProof.Rows
section
variable{K:PySem.W.Frag}{ρ ρ':List Addr}{H H':Hp}{hd hd':Hd}
noncomputable def BD:MS:=λ ls hd=>some (.nx ls,hd)
theorem QU:RS K Lg BD:=by
  intro ρ σ H hd ls E f hd' hR hL hm hQ
  cases hm
  exact hQ ρ H .refl hR σ hL
noncomputable def AF(a b:MS):MS:=λ ls hd=>(a ls hd).bind λ p=>match p.1 with
  | .nx ls1=>b ls1 p.2
  | f=>some (f,p.2)
theorem Se{t u:TS}{a b:MS}(ha:RS K t a)(hb:RS K u b):RS K (O9 t u) (AF a b):=by
  intro ρ σ H hd ls E f hd' hR hL hm hQ
  obtain⟨⟨f1,h1⟩,e1,hm⟩:=Option.bind_eq_some_iff.mp hm
  refine ha ρ σ H hd ls { E with nx:=u E } f1 h1 hR hL e1 λ ρ1 H1 x1 R1=>?_
  cases f1 with
  | nx ls1=>
    intro σ1 L1
    exact hb ρ1 σ1 H1 h1 ls1 E f hd' R1 L1 hm λ ρ2 H2 x2 R2=>hQ ρ2 H2 (x1.trans R1 x2) R2
  | bk ls1=>cases hm;exact hQ ρ1 H1 x1 R1
  | ct ls1=>cases hm;exact hQ ρ1 H1 x1 R1
  | rt d=>cases hm;exact hQ ρ1 H1 x1 R1
noncomputable def Tw:MS:=λ ls hd=>some (.bk ls,hd)
noncomputable def V8:MS:=λ ls hd=>some (.ct ls,hd)
noncomputable def Bx(m:ME):MS:=λ ls hd=>(m ls hd).bind λ p=>some (.nx ls,p.2)
theorem QX{t:TE}{m:ME}(h:RE K t m):RS K (Li t) (Bx m):=by
  intro ρ σ H hd ls E f hd' hR hL hm hQ
  obtain⟨⟨d1,h1⟩,e1,hm⟩:=Option.bind_eq_some_iff.mp hm
  cases hm
  exact h ρ σ H hd ls _ d1 _ hR hL e1 λ ρ1 H1 v x1 R1 r1=>hQ ρ1 H1 x1 R1 σ (hL.ext hR x1)
noncomputable def Am(m:ME):MS:=λ ls hd=>(m ls hd).bind λ p=>some (.rt p.1,p.2)
theorem Sf{t:TE}{m:ME}(h:RE K t m):RS K (OA t) (Am m):=by
  intro ρ σ H hd ls E f hd' hR hL hm hQ
  obtain⟨⟨d1,h1⟩,e1,hm⟩:=Option.bind_eq_some_iff.mp hm
  cases hm
  exact h ρ σ H hd ls _ d1 _ hR hL e1 λ ρ1 H1 v x1 R1 r1=>hQ ρ1 H1 x1 R1 v r1
noncomputable def V2:MS:=λ _ hd=>some (.rt (.im .non),hd)
noncomputable def BX(c:MT)(a b:MS):MS:=λ ls hd=>(c ls hd).bind λ p=>if p.1=true then a ls p.2 else b ls p.2
theorem Ui{tc:TT}{t u:TS}{c:MT}{a b:MS}(hc:RT K tc c)(ha:RS K t a)(hb:RS K u b):RS K (OG tc t u) (BX c a b):=by
  intro ρ σ H hd ls E f hd' hR hL hm hQ
  obtain⟨⟨d1,h1⟩,e1,hm⟩:=Option.bind_eq_some_iff.mp hm
  refine hc ρ σ H hd ls _ d1 h1 hR hL e1 λ ρ1 H1 x1 R1=>?_
  cases d1 with
  | true=>
    rw[if_pos rfl]at hm ⊢
    exact ha ρ1 σ H1 h1 ls E f hd' R1 (hL.ext hR x1) hm λ ρ2 H2 x2 R2=>hQ ρ2 H2 (x1.trans R1 x2) R2
  | false=>
    rw[if_neg Bool.false_ne_true]at hm ⊢
    exact hb ρ1 σ H1 h1 ls E f hd' R1 (hL.ext hR x1) hm λ ρ2 H2 x2 R2=>hQ ρ2 H2 (x1.trans R1 x2) R2
noncomputable def GJ:MS:=λ _ _=>none
theorem OP:RS K Jc GJ:=by
  intro ρ σ H hd ls E f hd' hR hL hm hQ
  cases hm
noncomputable abbrev MG:=D->Ls->Hd->Option Ls
noncomputable abbrev MGs:=List D->Ls->Hd->Option Ls
noncomputable def RGt(K:PySem.W.Frag)(t:TG)(m:MG):Prop:=∀ (ρ:List Addr) (σ:St) (H:Hp) (hd:Hd) (ls ls':Ls) (d:D) (v:V) (Q:St->Hp->Prop),RH K ρ H hd->RL K ρ H ls σ->RD K ρ H d v->m d ls hd=some ls' ->
  (∀ σ',RL K ρ H ls' σ'->Q σ' H)->t v σ H Q
noncomputable def Ke(K:PySem.W.Frag)(t:TGs)(m:MGs):Prop:=∀ (ρ:List Addr) (σ:St) (H:Hp) (hd:Hd) (ls ls':Ls) (d:List D) (v:List V) (Q:St->Hp->Prop),RH K ρ H hd->RL K ρ H ls σ->RDs K ρ H d v->m d ls hd=some ls' ->
  (∀ σ',RL K ρ H ls' σ'->Q σ' H)->t v σ H Q
theorem RL.set{ls:Ls}{σ:St}{d:D}{v:V}(h:RL K ρ H ls σ)(i:Nat)(r:RD K ρ H d v):RL K ρ H (ls.set i (some d)) (σ.set i (some v)):=by
  refine⟨by simp[h.len],λ j e q=>?_⟩
  by_cases hij:i=j
  . subst hij
    have hl:i < ls.length:=by
      have:=(List.getElem?_eq_some_iff.mp q).1
      simpa using this
    rw[List.getElem?_set_self hl]at q
    cases q
    exact⟨v,by rw[List.getElem?_set_self (by rw[<- h.len];exact hl)],r⟩
  . rw[List.getElem?_set_ne hij]at q
    obtain⟨w,e1,e2⟩:=h.ob j e q
    exact⟨w,by rw[List.getElem?_set_ne hij];exact e1,e2⟩
noncomputable def AN(i:Nat):MG:=λ d ls _=>some (ls.set i (some d))
theorem IS{i:Nat}:RGt K (Fj i) (AN i):=by
  intro ρ σ H hd ls ls' d v Q hR hL hd hm hQ
  cases hm
  exact hQ _ (hL.set i hd)
noncomputable def Cw:MGs:=λ ds ls _=>match ds with
  | []=>some ls
  | _=>none
noncomputable def Ax(m:MG)(r:MGs):MGs:=λ ds ls hd=>match ds with
  | d :: es=>(m d ls hd).bind λ ls1=>r es ls1 hd
  | []=>none
theorem Qh:Ke K PB Cw:=by
  intro ρ σ H hd ls ls' d v Q hR hL hd hm hQ
  cases d with
  | nil=>
    simp only[RDs]at hd;subst hd
    cases hm
    exact⟨rfl,hQ _ hL⟩
  | cons a b=>cases hm
theorem OW{t:TG}{u:TGs}{m:MG}{r:MGs}(h:RGt K t m)(h':Ke K u r):Ke K (MP t u) (Ax m r):=by
  intro ρ σ H hd ls ls' d v Q hR hL hd hm hQ
  cases d with
  | nil=>cases hm
  | cons a b=>
    simp only[RDs]at hd
    obtain⟨x,y,rfl,h1,h2⟩:=hd
    obtain⟨ls1,e1,e2⟩:=Option.bind_eq_some_iff.mp hm
    exact⟨x,y,rfl,h ρ σ H _ ls ls1 a x _ hR hL h1 e1 λ σ1 L1=>h' ρ σ1 H _ ls1 ls' b y Q hR L1 h2 e2 hQ⟩
noncomputable def Cv(n:Nat)(r:MGs):MG:=λ d ls hd=>(Ad d).bind λ ds=>if ds.length=n then r ds ls hd else none
theorem Ss{n:Nat}{u:TGs}{r:MGs}(h':Ke K u r):RGt K (MN K n u) (Cv n r):=by
  intro ρ σ H hd ls ls' d v Q hR hL hd hm hQ
  obtain⟨ds,e1,hm⟩:=Option.bind_eq_some_iff.mp hm
  split at hm
  . next c=>
    obtain⟨a,xs,rfl,q,rr⟩:=hd.tup e1
    exact⟨a,xs,rfl,q,by rw[rr.len];exact c,h' ρ σ H _ ls ls' ds xs Q hR hL rr hm hQ⟩
  . cases hm
noncomputable def E6(m:ME)(g:MG):MS:=λ ls hd=>(m ls hd).bind λ p=>(g p.1 ls p.2).map λ ls'=>(.nx ls',p.2)
theorem Jr{t:TE}{m:ME}{g:TG}{n:MG}(h:RE K t m)(hg:RGt K g n):RS K (FX t g) (E6 m n):=by
  intro ρ σ H hd ls E f hd' hR hL hm hQ
  obtain⟨⟨d1,h1⟩,e1,hm⟩:=Option.bind_eq_some_iff.mp hm
  obtain⟨ls',e2,e3⟩:=Option.map_eq_some_iff.mp hm
  cases e3
  exact h ρ σ H hd ls _ d1 _ hR hL e1 λ ρ1 H1 v x1 R1 r1=>hg ρ1 σ H1 _ ls ls' d1 v _ R1 (hL.ext hR x1) r1 e2 λ σ' L'=>hQ ρ1 H1 x1 R1 σ' L'
noncomputable abbrev Ak(i:Nat)(m:ME):MS:=E6 m (AN i)
noncomputable def Cj(ix:List Nat)(ma:MA):MS:=λ ls hd=>(ma ls hd).bind λ p=>if p.1.length=ix.length then some (.nx ((ix.zip p.1).foldl (λ l q=>l.set q.1 (some q.2)) ls),p.2)else none
theorem Sg{i j:Nat}{t:TA}{m:MA}(h:RA K t m):RS K (OB i j t) (Cj [i,j] m):=by
  intro ρ σ H hd ls E f hd' hR hL hm hQ
  obtain⟨⟨d1,h1⟩,e1,hm⟩:=Option.bind_eq_some_iff.mp hm
  dsimp only at hm
  split at hm
  . next c=>
    cases hm
    refine h ρ σ H hd ls _ d1 _ hR hL e1 λ ρ1 H1 v x1 R1 r1=>?_
    match d1,c,r1,hQ with
    | [a,b],_,r1,hQ=>
      simp only[RDs]at r1
      obtain⟨x,r,rfl,ra,y,r2,rfl,rb,rfl⟩:=r1
      exact⟨x,y,rfl,hQ ρ1 H1 x1 R1 _ (((hL.ext hR x1).set i ra).set j rb)⟩
  . cases hm
noncomputable def Gc(i j k:Nat)(ma:MA):MS:=Cj [k,j,i] (λ ls hd=>(ma ls hd).map λ p=>(p.1.reverse,p.2))
theorem QQ{i j k:Nat}{t:TA}{m:MA}(h:RA K t m):RS K (Le i j k t) (Gc i j k m):=by
  intro ρ σ H hd ls E f hd' hR hL hm hQ
  obtain⟨⟨d1,h1⟩,e1,hm⟩:=Option.bind_eq_some_iff.mp hm
  obtain⟨⟨d2,h2⟩,e2,e3⟩:=Option.map_eq_some_iff.mp e1
  cases e3
  dsimp only at hm
  split at hm
  . next c=>
    cases hm
    refine h ρ σ H hd ls _ d2 _ hR hL e2 λ ρ1 H1 v x1 R1 r1=>?_
    have c:d2.length=3:=by simpa using c
    match d2,c,r1,hQ with
    | [a,b,e],_,r1,hQ=>
      simp only[RDs]at r1
      obtain⟨x,r,rfl,ra,y,r2,rfl,rb,z,r3,rfl,rc,rfl⟩:=r1
      exact⟨x,y,z,rfl,hQ ρ1 H1 x1 R1 _ ((((hL.ext hR x1).set k rc).set j rb).set i ra)⟩
  . cases hm
noncomputable abbrev Gd:=List (Nat × List D)
noncomputable abbrev MI:=Ls->Hd->Option ((List D × Gd) × Hd)
noncomputable def GOk(hd:Hd)(g:Gd):Prop:=∀ p ∈ g,hd[p.1]? = some (.lst p.2)
@[simp] theorem As(hd:Hd):GOk hd []:=λ p h=>by cases h
noncomputable def Kc(K:PySem.W.Frag)(ρ:List Addr)(H:Hp)(J:It)(ds:List D)(g:Gd):Prop:=∀ (ρ2:List Addr) (H2:Hp) (hd2:Hd),Ext ρ H ρ2 H2->RH K ρ2 H2 hd2->GOk hd2 g ->
  ∀ i:Nat,(i < ds.length->J.go i H2/\∀ x H3,J.yld i H2 x H3->∃ ρ3 d,Ext ρ2 H2 ρ3 H3/\ρ3=ρ2/\RH K ρ3 H3 hd2/\ds[i]? = some d/\RD K ρ3 H3 d x)/\(i=ds.length->J.stop i H2)
noncomputable def RIt(K:PySem.W.Frag)(t:TI)(m:MI):Prop:=∀ (ρ:List Addr) (σ:St) (H:Hp) (hd:Hd) (ls:Ls) (Q:It->Hp->Prop) (d:List D) (g:Gd) (hd':Hd),RH K ρ H hd->RL K ρ H ls σ->m ls hd=some ((d,g),hd') ->
  (∀ ρ' H' J,Ext ρ H ρ' H'->RH K ρ' H' hd'->GOk hd' g->Kc K ρ' H' J d g->Q J H')->t σ H Q
theorem LV{a:Addr}{xs:List V}{ds:List D}(hR:RH K ρ H hd)(q:SqT K H a xs)(r:RDs K ρ H ds xs)(g:Gd):Kc K ρ H (Itt K a) ds g:=by
  intro ρ2 H2 hd2 x2 R2 _ i
  have q2:=(x2.grow hR).sq q
  have r2:=r.ext hR x2
  have uniq:∀ ys,SqT K H2 a ys->True:=λ _ _=>trivial
  refine⟨λ hi=>?_,λ hi=>⟨xs,q2,by rw[r2.len,hi];exact Nat.le_refl _⟩⟩
  have e:ds[i]? = some ds[i]:=by simp[hi]
  obtain⟨x,x1,x3⟩:=r2.get e
  refine⟨⟨xs,x,q2,x1⟩,λ y H3 ⟨e3,hy⟩=>?_⟩
  subst e3
  have:=hy xs q2
  rw[x1]at this
  cases this
  exact⟨ρ2,_,.refl,rfl,R2,e,x3⟩
noncomputable def Dg(m:ME):MI:=λ ls hd=>(m ls hd).bind λ p=>(Ad p.1).map λ ds=>((ds,[]),p.2)
theorem Mv{t:TE}{m:ME}(h:RE K t m):RIt K (KO K t) (Dg m):=by
  intro ρ σ H hd ls Q d g hd' hR hL hm hQ
  obtain⟨⟨d1,h1⟩,e1,hm⟩:=Option.bind_eq_some_iff.mp hm
  obtain⟨ds,e2,e3⟩:=Option.map_eq_some_iff.mp hm
  cases e3
  refine h ρ σ H hd ls _ d1 _ hR hL e1 λ ρ1 H1 v x1 R1 r1=>?_
  obtain⟨a,xs,rfl,q,r⟩:=r1.tup e2
  exact⟨a,rfl,⟨xs,q⟩,hQ ρ1 H1 _ x1 R1 (As _) (LV R1 q r [])⟩
noncomputable def CD(m:ME):MI:=λ ls hd=>(m ls hd).bind λ p=>match p.1 with
  | .mu n=>match p.2[n]? with
    | some (.lst ds)=>some ((ds,[(n,ds)]),p.2)
    | _=>none
  | .ro ns=>some ((ns.map λ n=>.im (.int n),[]),p.2)
  | _=>none
theorem Kw{t:TE}{m:ME}(h:RE K t m):RIt K (IJ K t) (CD m):=by
  intro ρ σ H hd ls Q d g hd' hR hL hm hQ
  obtain⟨⟨d1,h1⟩,e1,hm⟩:=Option.bind_eq_some_iff.mp hm
  dsimp only at hm
  split at hm
  . next n=>
    split at hm
    . next ds q=>
      cases hm
      refine h ρ σ H hd ls _ _ _ hR hL e1 λ ρ1 H1 v x1 R1 r1=>?_
      simp only[RD]at r1
      obtain⟨a,hn,rfl⟩:=r1
      obtain⟨xs,e2,e3⟩:=R1.lst hn q
      refine⟨a,rfl,⟨xs,SqL.of e2⟩,hQ ρ1 H1 _ x1 R1 (λ p z=>by simp at z;subst z;exact q) ?_⟩
      intro ρ2 H2 hd2 x2 R2 G2 i
      have q2:=G2 (n,d) (by simp)
      have hn2:ρ2[n]? = some a:=by
        obtain⟨r,rfl,_⟩:=x2.pre
        rw[List.getElem?_append_left (List.getElem?_eq_some_iff.mp hn).1];exact hn
      obtain⟨ys,e4,e5⟩:=R2.lst hn2 q2
      refine⟨λ hi=>?_,λ hi=>⟨ys,SqL.of e4,by rw[e5.len,hi];exact Nat.le_refl _⟩⟩
      have e:d[i]? = some d[i]:=by simp[hi]
      obtain⟨x,y1,y2⟩:=e5.get e
      refine⟨⟨ys,x,SqL.of e4,y1⟩,λ y H3 ⟨e6,hy⟩=>?_⟩
      subst e6
      have:=hy ys (SqL.of e4)
      rw[y1]at this
      cases this
      exact⟨ρ2,_,.refl,rfl,R2,e,y2⟩
    . cases hm
  . next ns=>
    cases hm
    refine h ρ σ H hd ls _ _ _ hR hL e1 λ ρ1 H1 v x1 R1 r1=>?_
    simp only[RD]at r1
    obtain⟨a,rfl,q⟩:=r1
    refine⟨a,rfl,⟨_,q.sq⟩,hQ ρ1 H1 _ x1 R1 (As _) ?_⟩
    intro ρ2 H2 hd2 x2 R2 G2 i
    have q2:=(q.grow (x2.grow R1)).sq
    have e5:RDs K ρ2 H2 (ns.map λ n=>.im (.int n)) (ns.map V.int):=FO
    refine⟨λ hi=>?_,λ hi=>⟨_,q2,by rw[e5.len,hi];exact Nat.le_refl _⟩⟩
    have e:(ns.map λ n=>D.im (.int n))[i]? = some ((ns.map λ n=>D.im (.int n))[i]):=by simp[hi]
    obtain⟨x,y1,y2⟩:=e5.get e
    refine⟨⟨_,x,q2,y1⟩,λ y H3 ⟨e6,hy⟩=>?_⟩
    subst e6
    have:=hy _ q2
    rw[y1]at this
    cases this
    exact⟨ρ2,_,.refl,rfl,R2,e,y2⟩
  . cases hm
noncomputable def Tu(ml:MA):MI:=λ ls hd=>(ml ls hd).map λ p=>((p.1,[]),p.2)
noncomputable def AQ(lo:Int):Nat->List D
  | 0=>[]
  | n + 1=>.im (.int lo) :: AQ (lo + 1) n
@[simp] theorem Ht(lo:Int)(n:Nat):(AQ lo n).length=n:=by
  induction n generalizing lo with
  | zero=>rfl
  | succ n ih=>simp[AQ,ih]
theorem Hu{n:Nat}:∀ {lo:Int} {i:Nat},i < n->(AQ lo n)[i]? = some (.im (.int (lo + i))):=by
  induction n with
  | zero=>intro lo i h;omega
  | succ n ih=>
    intro lo i h
    cases i with
    | zero=>simp[AQ]
    | succ i=>
      simp only[AQ,List.getElem?_cons_succ]
      rw[ih (by omega)]
      congr 3
      push_cast
      omega
theorem Hc{lo:Int}{n:Nat}{g:Gd}:Kc K ρ H (Itr lo n) (AQ lo n) g:=by
  intro ρ2 H2 hd2 x2 R2 G2 i
  refine⟨λ hi=>?_,λ hi=>by rw[hi,Ht];exact Nat.le_refl _⟩
  rw[Ht]at hi
  refine⟨hi,λ x H3 ⟨e1,e2⟩=>?_⟩
  subst e1 e2
  exact⟨ρ2,_,.refl,rfl,R2,Hu hi,by simp[RD,RI]⟩
open Classical in
noncomputable def Eb(m:MA):MI:=λ ls hd=>(m ls hd).bind λ p=>match p.1 with
  | [.im (.int j)]=>if G8 j then some ((AQ 0 j.toNat,[]),p.2)else none
  | _=>none
theorem Qf{t:TA}{m:MA}(h:RA K t m):RIt K (MJ t) (Eb m):=by
  intro ρ σ H hd ls Q d g hd' hR hL hm hQ
  obtain⟨⟨d1,h1⟩,e1,hm⟩:=Option.bind_eq_some_iff.mp hm
  dsimp only at hm
  split at hm
  . next j=>
    split at hm
    . next c=>
      cases hm
      refine h ρ σ H hd ls _ _ _ hR hL e1 λ ρ1 H1 v x1 R1 r1=>?_
      simp only[RDs,RD,RI]at r1
      obtain⟨x,r,rfl,rfl,rfl⟩:=r1
      exact⟨j,rfl,c.1,c.2,hQ ρ1 H1 _ x1 R1 (As _) Hc⟩
    . cases hm
  . cases hm
open Classical in
noncomputable def Gf(m:MA):MI:=λ ls hd=>(m ls hd).bind λ p=>match p.1 with
  | [.im (.int i),.im (.int j)]=>if Lm i j then some ((AQ i (j - i).toNat,[]),p.2)else none
  | _=>none
theorem Qe{t:TA}{m:MA}(h:RA K t m):RIt K (MH t) (Gf m):=by
  intro ρ σ H hd ls Q d g hd' hR hL hm hQ
  obtain⟨⟨d1,h1⟩,e1,hm⟩:=Option.bind_eq_some_iff.mp hm
  dsimp only at hm
  split at hm
  . next i j=>
    split at hm
    . next c=>
      cases hm
      refine h ρ σ H hd ls _ _ _ hR hL e1 λ ρ1 H1 v x1 R1 r1=>?_
      simp only[RDs,RD,RI]at r1
      obtain⟨x,r,rfl,rfl,y,r2,rfl,rfl,rfl⟩:=r1
      exact⟨i,j,rfl,⟨c.1.1,c.1.2,c.2.1,c.2.2⟩,hQ ρ1 H1 _ x1 R1 (As _) Hc⟩
    . cases hm
  . cases hm
open Classical in
noncomputable def DT(n:MG)(b:MS)(g:Gd):List D->Ls->Hd->Option (Fl × Hd)
  | [],ls,hd=>some (.nx ls,hd)
  | d :: r,ls,hd=>(n d ls hd).bind λ ls1=>(b ls1 hd).bind λ p=>match p.1 with
    | .nx ls2=>if GOk p.2 g then DT n b g r ls2 p.2 else none
    | .ct ls2=>if GOk p.2 g then DT n b g r ls2 p.2 else none
    | .bk ls2=>some (.nx ls2,p.2)
    | .rt d=>some (.rt d,p.2)
noncomputable def Ck(mi:MI)(n:MG)(b:MS):MS:=λ ls hd=>(mi ls hd).bind λ p=>DT n b p.1.2 p.1.1 ls p.2
theorem Sh{wi:TI}{g:TG}{tb:TS}{mi:MI}{n:MG}{b:MS}(hi:RIt K wi mi)(hg:RGt K g n)(hb:RS K tb b):RS K (OH wi g tb) (Ck mi n b):=by
  intro ρ σ H hd ls E f hd' hR hL hm hQ
  obtain⟨⟨⟨ds,gd⟩,h1⟩,e1,hm⟩:=Option.bind_eq_some_iff.mp hm
  refine hi ρ σ H hd ls _ ds gd h1 hR hL e1 λ ρ1 H1 J x1 R1 G1 Y=>?_
  dsimp only at hm
  refine⟨λ i m σ2 H2=>m=ds.length - i/\i <= ds.length/\∃ ρ2 ls2 hd2,Ext ρ1 H1 ρ2 H2/\RH K ρ2 H2 hd2/\RL K ρ2 H2 ls2 σ2/\GOk hd2 gd/\DT n b gd (ds.drop i) ls2 hd2=some (f,hd'),
    ⟨ds.length,by simp,Nat.zero_le _,ρ1,ls,h1,.refl,R1,hL.ext hR x1,G1,by simpa using hm⟩,?_⟩
  rintro i m σ2 H2 ⟨rfl,hi,ρ2,ls2,hd2,x2,R2,L2',G2,hm2⟩
  obtain⟨Y1,Y2⟩:=Y ρ2 H2 hd2 x2 R2 G2 i
  by_cases hlt:i < ds.length
  . obtain⟨go,Y1⟩:=Y1 hlt
    have ed:ds.drop i=ds[i] :: ds.drop (i + 1):=List.drop_eq_getElem_cons hlt
    rw[ed]at hm2
    unfold DT at hm2
    obtain⟨ls3,e3,hm2⟩:=Option.bind_eq_some_iff.mp hm2
    obtain⟨⟨fl,hd4⟩,e4,hm2⟩:=Option.bind_eq_some_iff.mp hm2
    refine .inr ⟨go,λ σ' H'=>∃ ρ2 ls2 hd2,Ext ρ1 H1 ρ2 H'/\RH K ρ2 H' hd2/\RL K ρ2 H' ls2 σ'/\GOk hd2 gd/\DT n b gd (ds.drop (i + 1)) ls2 hd2=some (f,hd'),λ σ' H' z=>⟨ds.length - (i + 1),by omega,rfl,hlt,z⟩,λ x H3 y=>?_⟩
    obtain⟨ρ3,d3,x3,rfl,R3,e5,r3⟩:=Y1 x H3 y
    have e6:d3=ds[i]:=by
      have:ds[i]? = some ds[i]:=by simp[hlt]
      rw[this]at e5;exact(Option.some.inj e5).symm
    subst e6
    refine hg ρ3 σ2 H3 hd2 ls2 ls3 _ x _ R3 (L2'.ext R2 x3) r3 e3 λ σ4 L4=>?_
    refine hb ρ3 σ4 H3 hd2 ls3 _ fl hd4 R3 L4 e4 λ ρ5 H5 x5 R5=>?_
    have x15:=(x2.trans R2 x3).trans R3 x5
    cases fl with
    | nx ls5=>
      intro σ5 L5
      dsimp only at hm2
      split at hm2
      . next c=>exact⟨ρ5,ls5,hd4,x15,R5,L5,c,hm2⟩
      . cases hm2
    | ct ls5=>
      intro σ5 L5
      dsimp only at hm2
      split at hm2
      . next c=>exact⟨ρ5,ls5,hd4,x15,R5,L5,c,hm2⟩
      . cases hm2
    | bk ls5=>
      intro σ5 L5
      cases hm2
      exact hQ ρ5 H5 (x1.trans R1 x15) R5 σ5 L5
    | rt d5=>
      intro v5 r5
      cases hm2
      exact hQ ρ5 H5 (x1.trans R1 x15) R5 v5 r5
  . have e:i=ds.length:=by omega
    subst e
    rw[List.drop_length]at hm2
    unfold DT at hm2
    cases hm2
    exact .inl ⟨Y2 rfl,hQ ρ2 H2 (x1.trans R1 x2) R2 σ2 L2'⟩
open Classical in
noncomputable def B8(n:MG)(c:MT)(m:ME)(g:Gd):List D->Ls->Hd->Option (List D × Hd)
  | [],_,hd=>some ([],hd)
  | d :: r,ls,hd=>(n d ls hd).bind λ ls1=>(c ls1 hd).bind λ p=>if p.1=true then(m ls1 p.2).bind λ q=>if GOk q.2 g then(B8 n c m g r ls1 q.2).map λ z=>(q.1 :: z.1,z.2)else none else if GOk p.2 g then B8 n c m g r ls1 p.2 else none
noncomputable def Dl(k:Nat)(ix:List Nat)(ls:Ls):Ls:=List.replicate k none ++ ix.map λ i=>(ls[i]?).join
open Classical in
noncomputable def BP(k:Nat)(ix:List Nat)(mi:MI)(n:MG)(c:MT)(m:ME):MA:=λ ls hd=>(mi ls hd).bind λ p=>if BU p.1.1.length then B8 n c m p.1.2 p.1.1 (Dl k ix ls) p.2 else none
theorem LQ{k:Nat}{ix:List Nat}{ls:Ls}{σ:St}(h:RL K ρ H ls σ):RL K ρ H (Dl k ix ls) (Fr k ix σ):=by
  refine⟨by simp[Dl,Fr],λ i d e=>?_⟩
  unfold Dl at e
  unfold Fr
  by_cases hi:i < k
  . rw[List.getElem?_append_left (by simpa using hi),List.getElem?_replicate]at e
    split at e <;> cases e
  . have hi':k <= i:=Nat.not_lt.mp hi
    rw[List.getElem?_append_right (by simpa using hi'),List.length_replicate,List.getElem?_map]at e ⊢
    cases q:ix[i - k]? with
    | none=>rw[q]at e;cases e
    | some j=>
      rw[q]at e
      simp only[Option.map_some,Option.some.injEq]at e ⊢
      have e5:ls[j]? = some (some d):=by
        cases w:ls[j]? with
        | none=>rw[w]at e;cases e
        | some z=>rw[w]at e;simpa using e
      obtain⟨v,e6,e7⟩:=h.ob j d e5
      exact⟨v,by rw[e6];rfl,e7⟩
theorem Kv{k:Nat}{ix:List Nat}{wi:TI}{g:TG}{tf:TT}{te:TE}{mi:MI}{n:MG}{c:MT}{m:ME}(hi:RIt K wi mi)(hg:RGt K g n)(hf:RT K tf c)(he:RE K te m):RN K (Hi k ix wi g tf te) (BP k ix mi n c m):=by
  intro ρ σ H hd ls Q out hd' hR hL hm hQ
  obtain⟨⟨⟨ds,gd⟩,h1⟩,e1,hm⟩:=Option.bind_eq_some_iff.mp hm
  dsimp only at hm
  split at hm
  . next hlen=>
    have hlen:ds.length <= sizeLine:=hlen
    refine hi ρ σ H hd ls _ ds gd h1 hR hL e1 λ ρ1 H1 J x1 R1 G1 Y=>?_
    intro Da hDa
    obtain⟨R1',x1'⟩:=R1.hid (ho:=.lst []) hDa
    have oD:Da ∉ ρ1:=R1.out hDa
    have nD:H Da=none:=x1.none hR hDa R1
    refine⟨λ i mm σ2 ys H2=>mm=ds.length - i/\i <= ds.length/\∃ ρ2 ls2 hd2 es rest,Ext ρ1 (upd H1 Da (.lst ys)) ρ2 H2/\Ext ρ1 H1 ρ2 H2/\Da ∉ ρ2/\H2 Da=some (.lst ys)/\RH K ρ2 H2 hd2/\RL K ρ2 H2 ls2 σ2/\RDs K ρ2 H2 es ys/\es.length <= i/\GOk hd2 gd/\B8 n c m gd (ds.drop i) ls2 hd2=some (rest,hd')/\out=es ++ rest,
      ⟨ds.length,by simp,Nat.zero_le _,ρ1,_,h1,[],out,.refl,x1',oD,AW,R1',(LQ ((hL.ext hR x1).ext R1 x1')),.nil,Nat.le_refl _,G1,by simpa using hm,rfl⟩,?_⟩
    rintro i mm σ2 ys H2 ⟨rfl,hi,ρ2,ls2,hd2,es,rest,x2',x2,oD2,hD2,R2,L2',r2,hle,G2,hm2,rfl⟩
    refine⟨hD2,?_⟩
    obtain⟨Y1,Y2⟩:=Y ρ2 H2 hd2 x2 R2 G2 i
    by_cases hlt:i < ds.length
    . obtain⟨go,Y1⟩:=Y1 hlt
      have ed:ds.drop i=ds[i] :: ds.drop (i + 1):=List.drop_eq_getElem_cons hlt
      rw[ed]at hm2
      unfold B8 at hm2
      obtain⟨ls3,e3,hm2⟩:=Option.bind_eq_some_iff.mp hm2
      obtain⟨⟨bb,hd4⟩,e4,hm2⟩:=Option.bind_eq_some_iff.mp hm2
      refine .inr ⟨go,Nat.lt_of_le_of_lt (by rw[r2.len];exact hle) (by omega),λ σ' ys' H'=>∃ ρ2 ls2 hd2 es' rest',Ext ρ1 (upd H1 Da (.lst ys')) ρ2 H'/\Ext ρ1 H1 ρ2 H'/\Da ∉ ρ2/\H' Da=some (.lst ys')/\RH K ρ2 H' hd2/\RL K ρ2 H' ls2 σ'/\RDs K ρ2 H' es' ys'/\es'.length <= i + 1/\GOk hd2 gd/\B8 n c m gd (ds.drop (i + 1)) ls2 hd2=some (rest',hd')/\es ++ rest=es' ++ rest',λ σ' ys' H' z=>⟨ds.length - (i + 1),by omega,rfl,hlt,z⟩,λ x H3 y=>?_⟩
      obtain⟨ρ3,d3,x3,rfl,R3,e5,r3⟩:=Y1 x H3 y
      have e6:d3=ds[i]:=by
        have:ds[i]? = some ds[i]:=by simp[hlt]
        rw[this]at e5;exact(Option.some.inj e5).symm
      subst e6
      refine hg ρ3 σ2 H3 hd2 ls2 ls3 _ x _ R3 (L2'.ext R2 x3) r3 e3 λ σ4 L4=>?_
      refine hf ρ3 σ4 H3 hd2 ls3 _ bb hd4 R3 L4 e4 λ ρ5 H5 x5 R5=>?_
      have hD5:H5 Da=some (.lst ys):=x5.keep Da _ (x3.keep Da _ hD2 oD2 nt) oD2 nt
      have out5:Da ∉ ρ5:=by
        obtain⟨r,rfl,fr⟩:=x5.pre
        intro z
        rcases List.mem_append.mp z with z|z
        . exact oD2 z
        . have:=fr _ z
          rw[x3.keep Da _ hD2 oD2 nt]at this;cases this
      cases bb with
      | false=>
        rw[if_neg Bool.false_ne_true]at hm2 ⊢
        have y25:=x3.trans R3 x5
        split at hm2
        . next g5=>exact⟨ρ5,ls3,hd4,es,rest,x2'.trans R2 y25,(x2.trans R2 y25),out5,hD5,R5,L4.ext R3 x5,(r2.ext R2 y25),by omega,g5,hm2,rfl⟩
        . cases hm2
      | true=>
        rw[if_pos rfl]at hm2 ⊢
        obtain⟨⟨z,hd6⟩,e6,hm2⟩:=Option.bind_eq_some_iff.mp hm2
        obtain⟨g6,hm2⟩:GOk hd6 gd/\((B8 n c m gd (ds.drop (i + 1)) ls3 hd6).map λ q=>(z :: q.1,q.2))=some (rest,hd'):=by
          dsimp only at hm2
          split at hm2
          . next g6=>exact⟨g6,hm2⟩
          . cases hm2
        obtain⟨⟨zs,hd7⟩,e7,e8⟩:=Option.map_eq_some_iff.mp hm2
        cases e8
        refine he ρ5 σ4 H5 hd4 ls3 _ z hd6 R5 (L4.ext R3 x5) e6 λ ρ6 H6 v6 x6 R6 r6=>?_
        have hD6:H6 Da=some (.lst ys):=x6.keep Da _ hD5 out5 nt
        have out6:Da ∉ ρ6:=by
          obtain⟨r,rfl,fr⟩:=x6.pre
          intro z
          rcases List.mem_append.mp z with z|z
          . exact out5 z
          . have:=fr _ z
            rw[hD5]at this;cases this
        refine⟨hD6,?_⟩
        have y26:=(x3.trans R3 x5).trans R5 x6
        have gr:Grow H6 (upd H6 Da (.lst (ys ++ [v6]))):=Grow.refl.put (.lst hD6)
        have R7:=R6.hput (ho:=.lst (ys ++ [v6])) out6 hD6
        have x12:=x2.trans R2 y26
        have ext7:Ext ρ1 H1 ρ6 (upd H6 Da (.lst (ys ++ [v6]))):=⟨x12.pre,λ b o q nb t=>by
          have:b ≠ Da:=Aj q hDa
          rw[AO this];exact x12.keep b o q nb t,λ b ps q=>by
          have:b ≠ Da:=Aj q hDa
          rw[AO this];exact x12.tab b ps q⟩
        have ext8:Ext ρ1 (upd H1 Da (.lst (ys ++ [v6]))) ρ6 (upd H6 Da (.lst (ys ++ [v6]))):=by
          obtain⟨r,er,fr⟩:=x12.pre
          refine⟨⟨r,er,λ b hb=>?_⟩,λ b o q nb t=>?_,λ b ps q=>?_⟩
          . have:b ≠ Da:=λ z=>out6 (by rw[er,<- z];exact List.mem_append_right _ hb)
            rw[AO this];exact fr b hb
          . by_cases hb:b=Da
            . subst hb;rw[AW]at q ⊢;exact q
            . rw[AO hb]at q ⊢;exact x12.keep b o q nb t
          . by_cases hb:b=Da
            . subst hb;rw[AW]at q;cases q
            . rw[AO hb]at q ⊢;exact x12.tab b ps q
        refine⟨ρ6,ls3,hd6,es ++ [z],zs,ext8,ext7,out6,AW,R7,?_,?_,by simp;omega,g6,e7,by simp⟩
        . have L6:=(L4.ext R3 x5).ext R5 x6
          exact⟨L6.len,λ i d e=>let ⟨v,a,b⟩:=L6.ob i d e;⟨v,a,by simpa using b.mono gr []⟩⟩
        . have:=((r2.ext R2 y26).app (.cons r6 .nil)).mono gr []
          simpa using this
    . have e:i=ds.length:=by omega
      subst e
      rw[List.drop_length]at hm2
      unfold B8 at hm2
      cases hm2
      refine .inl ⟨Y2 rfl,?_⟩
      exact hQ ρ2 H2 Da ys (x1.trans R1 x2) R2 nD oD2 hD2 (by simpa using r2)
  . cases hm
end
end L2
namespace L2
open PySem PySem.Spec PyProof.Rows
mutual
noncomputable def clD(w:Nat):D->Bool
  | .im _=>true
  | .mu n=>decide (n < w)
  | .tm ds=>BB w ds
  | .ro _=>true
noncomputable def BB(w:Nat):List D->Bool
  | []=>true
  | d :: ds=>clD w d && BB w ds
end
noncomputable def Fq(w:Nat):List (Key × D)->Bool
  | []=>true
  | d :: ds=>clD w d.2 && Fq w ds
noncomputable def clO(w:Nat):MO->Bool
  | .lst ds=>BB w ds
  | .dic ds=>Fq w ds
section
variable{K:PySem.W.Frag}{ρ ρ' ρ1:List Addr}{H H' H1:Hp}{hd hd' h1 h2:Hd}
mutual
theorem RD.take(w:Nat):∀ {d:D} {v:V},RD K ρ H d v->clD w d=true->RD K (ρ.take w) H d v
  | .im i,v,h,_=>by simp only[RD]at h ⊢;exact h
  | .mu n,v,h,c=>by
    simp only[RD]at h ⊢
    obtain⟨a,e,q⟩:=h
    exact⟨a,by rw[List.getElem?_take_of_lt (by simpa [clD]using c)];exact e,q⟩
  | .tm ds,v,h,c=>by
    simp only[RD]at h ⊢
    obtain⟨a,xs,e,q,z⟩:=h
    exact⟨a,xs,e,q,RDs.take' w z (by simpa [clD]using c)⟩
  | .ro ns,v,h,c=>by simp only[RD]at h ⊢;exact h
theorem RDs.take'(w:Nat):∀ {d:List D} {v:List V},RDs K ρ H d v->BB w d=true->RDs K (ρ.take w) H d v
  | [],v,h,_=>by simpa only[RDs]using h
  | d :: ds,v,h,c=>by
    simp only[RDs]at h ⊢
    obtain⟨x,r',e,q,z⟩:=h
    have c:clD w d=true/\BB w ds=true:=by simpa [BB]using c
    exact⟨x,r',e,q.take w c.1,RDs.take' w z c.2⟩
end
theorem RKs.take(w:Nat):∀ {d:List (Key × D)} {v:List (Key × V)},RKs K ρ H d v->Fq w d=true->RKs K (ρ.take w) H d v
  | [],v,h,_=>by simpa only[RKs]using h
  | d :: ds,v,h,c=>by
    simp only[RKs]at h ⊢
    obtain⟨x,r',e,q1,q,z⟩:=h
    have c:clD w d.2=true/\Fq w ds=true:=by simpa [Fq]using c
    exact⟨x,r',e,q1,q.take w c.1,RKs.take w z c.2⟩
theorem RC.take(w:Nat){o:MO}{ho:HO}(h:RC K ρ H o ho)(c:clO w o=true):RC K (ρ.take w) H o ho:=by
  cases o with
  | lst ds=>obtain⟨xs,e,q⟩:=h;exact⟨xs,e,q.take' w c⟩
  | dic ds=>obtain⟨xs,e,q⟩:=h;exact⟨xs,e,q.take w c⟩
theorem RH.take(h:RH K ρ H hd)(w:Nat)(c:(hd.take w).all (clO w)=true):RH K (ρ.take w) H (hd.take w):=by
  refine⟨by simp[h.len],h.nd.sublist (List.take_sublist _ _),h.tabs,λ n o a e1 e2=>?_⟩
  have co:=List.all_eq_true.mp c o (List.mem_of_getElem? e1)
  have hn:n < w:=by
    have:=(List.getElem?_eq_some_iff.mp e1).1
    simp at this;omega
  rw[List.getElem?_take_of_lt hn]at e1 e2
  obtain⟨ho,q1,q2⟩:=h.ob n o a e1 e2
  exact⟨ho,q1,q2.take w co⟩
theorem RH.back(R1:RH K ρ1 H1 h1){w:Nat}(hw:w <= h1.length)(c1:(h1.take w).all (clO w)=true)(x:Ext (ρ1.take w) H1 ρ' H')(R':RH K ρ' H' h2)(c:(h2.take w).all (clO w)=true) :
    RH K ρ1 H' (h2.take w ++ h1.drop w)/\Ext ρ1 H1 ρ1 H'/\ρ'.take w=ρ1.take w:=by
  obtain⟨r,rfl,fr⟩:=x.pre
  have lw:(ρ1.take w).length=w:=by rw[List.length_take,R1.len];omega
  have l2:w <= h2.length:=by rw[<- R'.len];simp[lw]
  have tk:(ρ1.take w ++ r).take w=ρ1.take w:=by rw[List.take_append_of_le_length (by omega),List.take_take];simp
  refine⟨⟨?_,R1.nd,R'.tabs,λ n o a e1 e2=>?_⟩,⟨⟨[],by simp,by simp⟩,λ b o q nb t=>x.keep b o q (λ m=>nb (List.mem_of_mem_take m)) t,x.tab⟩,tk⟩
  . rw[List.length_append,List.length_take,List.length_drop,R1.len];omega
  . by_cases hn:n < w
    . rw[List.getElem?_append_left (by rw[List.length_take];omega),List.getElem?_take_of_lt hn]at e1
      have e3:(ρ1.take w ++ r)[n]? = some a:=by
        rw[List.getElem?_append_left (by omega),List.getElem?_take_of_lt hn];exact e2
      obtain⟨ho,q1,q2⟩:=R'.ob n o a e1 e3
      have co:=List.all_eq_true.mp c o (by
        have:(h2.take w)[n]? = some o:=by rw[List.getElem?_take_of_lt hn];exact e1
        exact List.mem_of_getElem? this)
      have q3:=q2.take w co
      rw[tk]at q3
      have q4:=q3.mono (Grow.refl (H:=H')) (ρ1.drop w)
      rw[List.take_append_drop]at q4
      exact⟨ho,q1,q4⟩
    . rw[List.getElem?_append_right (by rw[List.length_take];omega),List.length_take,List.getElem?_drop]at e1
      have e1:h1[n]? = some o:=by
        have:w + (n - min w h2.length)=n:=by omega
        rw[this]at e1;exact e1
      obtain⟨ho,q1,q2⟩:=R1.ob n o a e1 e2
      have out:a ∉ ρ1.take w:=λ m=>by
        obtain⟨k,hk⟩:=List.mem_iff_getElem?.mp m
        have kw:k < w:=by
          have:=(List.getElem?_eq_some_iff.mp hk).1
          rw[lw]at this;exact this
        rw[List.getElem?_take_of_lt kw]at hk
        have:=(List.getElem?_inj (List.getElem?_eq_some_iff.mp e2).1 R1.nd).mp (e2.trans hk.symm)
        omega
      have gr:=x.grow (R1.take w c1)
      exact⟨ho,x.keep a ho q1 out (λ ps z=>by rcases R1.mut (List.mem_of_getElem? e2)with⟨y,w⟩|⟨y,w⟩ <;> (rw[q1,z]at w;cases w)),by simpa using q2.mono gr []⟩
noncomputable def spF(K:PySem.W.Frag)(k:Nat)(F:List D->Hd->Option (D × Hd)):Sp:=λ vs H Q _=>vs.length=k/\∃ (ρ:List Addr) (hd:Hd) (ds:List D) (d:D) (hd':Hd),RH K ρ H hd/\RDs K ρ H ds vs/\F ds hd=some (d,hd') /\
  ∀ ρ' H' v,Ext ρ H ρ' H'->RH K ρ' H' hd'->RD K ρ' H' d v->Q v H'
noncomputable def mkF(k n:Nat)(m:MS):List D->Hd->Option (D × Hd):=λ ds hd=>if ds.length=k then(match m (ds.map some ++ List.replicate (n - k) none) hd with
  | some (.rt d,hd')=>some (d,hd')
  | some (.nx _,hd')=>some (.im .non,hd')
  | _=>none)else none
theorem Jt{N:List Str}:∀ {ds:List D} {vs:List V},RDs K ρ H ds vs->RL K ρ H (ds.map some ++ List.replicate (N.length - ds.length) none) (Cg N vs):=by
  intro ds vs r
  have hl:=r.len
  refine⟨by simp[Cg,hl],λ i d e=>?_⟩
  unfold Cg
  by_cases hi:i < ds.length
  . rw[List.getElem?_append_left (by simpa using hi),List.getElem?_map]at e
    have e':ds[i]? = some d:=by
      cases q:ds[i]? with
      | none=>rw[q]at e;cases e
      | some z=>rw[q]at e;simpa using e
    obtain⟨x,x1,x2⟩:=r.get e'
    exact⟨x,by rw[List.getElem?_append_left (by rw[List.length_map,hl];exact hi),List.getElem?_map,x1];rfl,x2⟩
  . rw[List.getElem?_append_right (by simpa using Nat.not_lt.mp hi),List.getElem?_replicate]at e
    split at e <;> cases e
theorem QC{k:Nat}{N:List Str}{m:MS}{t:TS}(h:RS K t m){vs:List V}{H:Hp}{Q:VK}{E:XK}(s:spF K k (mkF k N.length m) vs H Q E):t { nx:=λ _ H'=>Q .non H',rt:=Q } (Cg N vs) H:=by
  obtain⟨hk,ρ,hd,ds,d,hd',hR,hr,hF,hQ⟩:=s
  unfold mkF at hF
  split at hF
  . next hl=>
    subst hl
    split at hF
    . next q=>
      cases hF
      exact h ρ _ H hd _ _ _ _ hR (Jt hr) q λ ρ' H' x R v r=>hQ ρ' H' v x R r
    . next q=>
      cases hF
      exact h ρ _ H hd _ _ _ _ hR (Jt hr) q λ ρ' H' x R σ L=>hQ ρ' H' .non x R (by simp[RD,RI])
    . cases hF
  . cases hF
noncomputable def Cc(F:List D->Hd->Option (D × Hd))(ma:MA):ME:=λ ls hd=>(ma ls hd).bind λ p=>F p.1 p.2
theorem Oc{k:Nat}{F:List D->Hd->Option (D × Hd)}{t:TA}{m:MA}(h:RA K t m)(hk:∀ ds hd z,F ds hd=some z->ds.length=k):RE K (En (spF K k F) [] E0 t) (Cc F m):=by
  intro ρ σ H hd ls Q d hd' hR hL hm hQ
  obtain⟨⟨d1,h1⟩,e1,hm⟩:=Option.bind_eq_some_iff.mp hm
  refine h ρ σ H hd ls _ d1 h1 hR hL e1 λ ρ1 H1 v1 x1 R1 r1=>?_
  rw[List.append_nil]
  exact⟨by rw[r1.len];exact hk _ _ _ hm,ρ1,h1,d1,d,hd',R1,r1,hm,λ ρ' H' w x2 R2 r2=>hQ ρ' H' w (x1.trans R1 x2) R2 r2⟩
theorem AK{k n:Nat}{m:MS}:∀ ds hd z,mkF k n m ds hd=some z->ds.length=k:=λ ds hd z h=>by
  unfold mkF at h
  split at h
  . next e=>exact e
  . cases h
noncomputable def fin(w:Nat)(d:D)(h2 rest:Hd):Option (D × Hd):=if(h2.take w).all (clO w)=true then(match d with
    | .mu k=>if k < w then some (.mu k,h2.take w ++ rest)else(match h2[k]? with
      | some (.lst ds)=>if BB w ds=true then some (.mu (w + rest.length),h2.take w ++ rest ++ [.lst ds])else none
      | _=>none)
    | d=>if clD w d=true then some (d,h2.take w ++ rest)else none)else none
noncomputable def AI(w:Nat)(F:List D->Hd->Option (D × Hd))(ma:MA):ME:=λ ls hd=>(ma ls hd).bind λ p=>
  if w <= p.2.length/\BB w p.1=true/\(p.2.take w).all (clO w)=true then(F p.1 (p.2.take w)).bind λ r=>fin w r.1 r.2 (p.2.drop w)else none
theorem Oa{w k:Nat}{F:List D->Hd->Option (D × Hd)}{t:TA}{m:MA}(h:RA K t m)(hk:∀ ds hd z,F ds hd=some z->ds.length=k):RE K (En (spF K k F) [] E0 t) (AI w F m):=by
  intro ρ σ H hd ls Q d hd' hR hL hm hQ
  obtain⟨⟨d1,h1⟩,e1,hm⟩:=Option.bind_eq_some_iff.mp hm
  dsimp only at hm
  split at hm
  . next c=>
    obtain⟨c0,c1,c2⟩:=c
    obtain⟨⟨d2,h2⟩,e2,hm⟩:=Option.bind_eq_some_iff.mp hm
    refine h ρ σ H hd ls _ d1 h1 hR hL e1 λ ρ1 H1 v1 x1 R1 r1=>?_
    rw[List.append_nil]
    refine⟨by rw[r1.len];exact hk _ _ _ e2,ρ1.take w,h1.take w,d1,d2,h2,R1.take w c2,r1.take' w c1,e2,λ ρ' H' v x2 R2 r2=>?_⟩
    unfold fin at hm
    dsimp only at hm
    split at hm
    . next c3=>
      obtain⟨R3,x3,tk⟩:=R1.back c0 c2 x2 R2 c3
      have up:∀ {d:D} {v:V},RD K ρ' H' d v->clD w d=true->RD K ρ1 H' d v:=λ r c=>by
        have q:=r.take w c
        rw[tk]at q
        have q:=q.mono (Grow.refl (H:=H')) (ρ1.drop w)
        rw[List.take_append_drop]at q
        exact q
      have ups:∀ {d:List D} {v:List V},RDs K ρ' H' d v->BB w d=true->RDs K ρ1 H' d v:=λ r c=>by
        have q:=r.take' w c
        rw[tk]at q
        have q:=q.mono (Grow.refl (H:=H')) (ρ1.drop w)
        rw[List.take_append_drop]at q
        exact q
      split at hm
      . next k'=>
        split at hm
        . next hk'=>
          cases hm
          exact hQ ρ1 H' v (x1.trans R1 x3) R3 (up r2 (by simpa [clD]using hk'))
        . next hk'=>
          split at hm
          . next ds q=>
            split at hm
            . next c4=>
              cases hm
              simp only[RD]at r2
              obtain⟨a,ea,rfl⟩:=r2
              obtain⟨xs,l1,l2⟩:=R2.lst ea q
              have len3:=R3.len
              have out:a ∉ ρ1:=λ m=>by
                -- a is one of those made behind the first w
                obtain⟨r,er,fr⟩:=x2.pre
                have lw:(ρ1.take w).length=w:=by rw[List.length_take,R1.len];omega
                have ma:a ∈ r:=by
                  rw[er,List.getElem?_append_right (by rw[lw];omega)]at ea
                  exact List.mem_of_getElem? ea
                exact R1.out (fr a ma) m
              have na:H1 a=none:=by
                obtain⟨r,er,fr⟩:=x2.pre
                have lw:(ρ1.take w).length=w:=by rw[List.length_take,R1.len];omega
                have ma:a ∈ r:=by
                  rw[er,List.getElem?_append_right (by rw[lw];omega)]at ea
                  exact List.mem_of_getElem? ea
                exact fr a ma
              refine hQ (ρ1 ++ [a]) H' _ (x1.trans R1 (x3.name na)) (R3.name out l1 (ups l2 c4)) ?_
              simp only[RD]
              refine⟨a,?_,rfl⟩
              have:w + (List.drop w h1).length=ρ1.length:=by rw[List.length_drop,R1.len];omega
              rw[this];simp
            . cases hm
          . cases hm
      . next d' nd=>
        split at hm
        . next c4=>cases hm;exact hQ ρ1 H' v (x1.trans R1 x3) R3 (up r2 c4)
        . cases hm
    . cases hm
  . cases hm
noncomputable def BM(c:MT)(b:MS):Nat->Ls->Hd->Option (Fl × Hd)
  | 0,_,_=>none
  | k + 1,ls,hd=>(c ls hd).bind λ p=>if p.1=true then(b ls p.2).bind λ q=>(match q.1 with
      | .nx ls2=>BM c b k ls2 q.2
      | .ct ls2=>BM c b k ls2 q.2
      | .bk ls2=>some (.nx ls2,q.2)
      | .rt d=>some (.rt d,q.2))else some (.nx ls,p.2)
open Classical in
noncomputable def Du(c:MT)(b:MS):MS:=λ ls hd=>if h:∃ r k,BM c b k ls hd=some r then some h.choose else none
theorem Dh{c:MT}{b:MS}:∀ {k j:Nat} {ls:Ls} {hd:Hd} {r:Fl × Hd},BM c b k ls hd=some r->k <= j->BM c b j ls hd=some r
  | 0,_,_,_,_,h,_=>by cases h
  | k + 1,0,_,_,_,_,hj=>by omega
  | k + 1,j + 1,ls,hd,r,h,hj=>by
    unfold BM at h ⊢
    obtain⟨p,e1,h⟩:=Option.bind_eq_some_iff.mp h
    rw[e1]
    show(if p.1=true then _ else _)=_
    split at h
    . next c=>
      rw[if_pos c]
      obtain⟨q,e2,h⟩:=Option.bind_eq_some_iff.mp h
      rw[e2]
      obtain⟨f,hd2⟩:=q
      cases f with
      | nx ls2=>exact Dh h (by omega)
      | ct ls2=>exact Dh h (by omega)
      | bk ls2=>exact h
      | rt d=>exact h
    . next c=>rw[if_neg c];exact h
theorem NT{c:MT}{b:MS}{k:Nat}{ls:Ls}{hd:Hd}{r:Fl × Hd}(h:BM c b k ls hd=some r):Du c b ls hd=some r:=by
  unfold Du
  have ex:∃ r k,BM c b k ls hd=some r:=⟨r,k,h⟩
  rw[dif_pos ex]
  obtain⟨j,e⟩:=ex.choose_spec
  have e1:=Dh e (Nat.le_max_left j k)
  have e2:=Dh h (Nat.le_max_right j k)
  rw[e1]at e2
  exact e2
theorem ON{tc:TT}{tb:TS}{c:MT}{b:MS}(hc:RT K tc c)(hb:RS K tb b):RS K (Jb tc tb) (Du c b):=by
  intro ρ σ H hd ls E f hd' hR hL hm hQ
  obtain⟨k,hk⟩:∃ k,BM c b k ls hd=some (f,hd'):=by
    unfold Du at hm
    split at hm
    . next ex=>
      obtain⟨j,e⟩:=ex.choose_spec
      exact⟨j,by rw[e];exact hm⟩
    . cases hm
  refine⟨λ m σ2 H2=>∃ ρ2 ls2 hd2,Ext ρ H ρ2 H2/\RH K ρ2 H2 hd2/\RL K ρ2 H2 ls2 σ2/\BM c b m ls2 hd2=some (f,hd'),⟨k,ρ,ls,hd,.refl,hR,hL,hk⟩,?_⟩
  rintro m σ2 H2 ⟨ρ2,ls2,hd2,x2,R2,L2',hm2⟩
  cases m with
  | zero=>cases hm2
  | succ m=>
    unfold BM at hm2
    obtain⟨⟨bb,hd3⟩,e1,hm2⟩:=Option.bind_eq_some_iff.mp hm2
    refine hc ρ2 σ2 H2 hd2 ls2 _ bb hd3 R2 L2' e1 λ ρ3 H3 x3 R3=>?_
    cases bb with
    | false=>
      rw[if_neg Bool.false_ne_true]at hm2 ⊢
      cases hm2
      exact hQ ρ3 H3 (x2.trans R2 x3) R3 σ2 (L2'.ext R2 x3)
    | true=>
      rw[if_pos rfl]at hm2 ⊢
      obtain⟨⟨fl,hd4⟩,e2,hm2⟩:=Option.bind_eq_some_iff.mp hm2
      refine⟨λ σ' H'=>∃ ρ2 ls2 hd2,Ext ρ H ρ2 H'/\RH K ρ2 H' hd2/\RL K ρ2 H' ls2 σ'/\BM c b m ls2 hd2=some (f,hd'),λ σ' H' z=>⟨m,Nat.lt_succ_self m,z⟩,?_⟩
      refine hb ρ3 σ2 H3 hd3 ls2 _ fl hd4 R3 (L2'.ext R2 x3) e2 λ ρ5 H5 x5 R5=>?_
      have x15:=(x2.trans R2 x3).trans R3 x5
      cases fl with
      | nx ls5=>intro σ5 L5;exact⟨ρ5,ls5,hd4,x15,R5,L5,hm2⟩
      | ct ls5=>intro σ5 L5;exact⟨ρ5,ls5,hd4,x15,R5,L5,hm2⟩
      | bk ls5=>intro σ5 L5;cases hm2;exact hQ ρ5 H5 x15 R5 σ5 L5
      | rt d5=>intro v5 r5;cases hm2;exact hQ ρ5 H5 x15 R5 v5 r5
noncomputable def SM(kvs:List (Key × D))(k:Key):Option D:=(kvs.find? λ kv=>decide (kv.1=k)).map (·.2)
noncomputable def On(kvs:List (Key × D))(k:Key)(v:D):List (Key × D):=
  if(kvs.any λ kv=>decide (kv.1=k))=true then kvs.map (λ kv=>if kv.1=k then(kv.1,v)else kv)else kvs ++ [(k,v)]
noncomputable def GM:D->Option Key
  | .im (.int i)=>some (.inl i)
  | .im (.str x)=>some (.inr x)
  | _=>none
noncomputable def Il(hd:Hd):D->Option (List (Key × D))
  | .mu n=>match hd[n]? with
    | some (.dic kvs)=>some kvs
    | _=>none
  | _=>none
noncomputable def VB:D->D->Hd->Option (D × Hd):=λ d e hd=>(Il hd d).bind λ kvs=>(GM e).bind λ k=>(SM kvs k).map (·,hd)
open Classical in
noncomputable def V6(md my mv:ME):MS:=λ ls hd=>(mv ls hd).bind λ p=>(md ls p.2).bind λ q=>(my ls q.2).bind λ r=>(GM r.1).bind λ k=>match q.1 with
  | .mu n=>match r.2[n]? with
    | some (.dic kvs)=>if Ev kvs.length then some (.nx ls,r.2.set n (.dic (On kvs k p.1)))else none
    | _=>none
  | _=>none
noncomputable def FL:List (ME × ME)->Ls->Hd->Option (List (Key × D) × Hd)
  | [],_,hd=>some ([],hd)
  | (mk,mv) :: r,ls,hd=>(mk ls hd).bind λ p=>(mv ls p.2).bind λ q=>(FL r ls q.2).bind λ z=>(GM p.1).map λ k=>((k,q.1) :: z.1,z.2)
noncomputable def NO(kvs more:List (Key × D)):List (Key × D):=more.foldl (λ acc kv=>On acc kv.1 kv.2) kvs
noncomputable def V5(ms:List (ME × ME)):ME:=λ ls hd=>(FL ms ls hd).bind λ p=>if p.1.length <= 15 then some (.mu p.2.length,p.2 ++ [.dic (NO [] p.1)])else none
noncomputable def EF(mo mi mv:ME):MS:=λ ls hd=>(mv ls hd).bind λ p=>(mo ls p.2).bind λ q=>(mi ls q.2).bind λ r=>match q.1,r.1 with
  | .mu n,.im (.int i)=>match r.2[n]? with
    | some (.lst ds)=>(ixN ds.length i).map λ j=>(.nx ls,r.2.set n (.lst (ds.set j p.1)))
    | _=>none
  | _,_=>none
theorem QV{to ti tv:TE}{mo mi mv:ME}(ho:RE K to mo)(hi:RE K ti mi)(hv:RE K tv mv):RS K (FX tv (P9 to ti Lx)) (EF mo mi mv):=by
  intro ρ σ H hd0 ls E f hd' hR hL hm hQ
  obtain⟨⟨d1,h1⟩,e1,hm⟩:=Option.bind_eq_some_iff.mp hm
  obtain⟨⟨d2,h2⟩,e2,hm⟩:=Option.bind_eq_some_iff.mp hm
  obtain⟨⟨d3,h3⟩,e3,hm⟩:=Option.bind_eq_some_iff.mp hm
  dsimp only at hm
  split at hm
  . split at hm
    . next q=>
      obtain⟨j,e4,e5⟩:=Option.map_eq_some_iff.mp hm
      cases e5
      refine hv ρ σ H hd0 ls _ d1 h1 hR hL e1 λ ρ1 H1 v1 x1 R1 r1=>?_
      refine ho ρ1 σ H1 h1 ls _ _ h2 R1 (hL.ext hR x1) e2 λ ρ2 H2 v2 x2 R2 r2=>?_
      refine hi ρ2 σ H2 h2 ls _ _ _ R2 (hL.ext hR (x1.trans R1 x2)) e3 λ ρ3 H3 v3 x3 R3 r3=>?_
      have r2:=r2.ext R2 x3
      simp only[RD]at r2
      obtain⟨a,hn,rfl⟩:=r2
      simp only[RD,RI]at r3
      subst r3
      obtain⟨xs,l1,l2⟩:=R3.lst hn q
      obtain⟨R4,x4⟩:=R3.put hn (o:=.lst _) (ho:=.lst (xs.set j v1)) ⟨_,rfl,l2.set j ((r1.ext R1 x2).ext R2 x3)⟩
      have x13:=(x1.trans R1 x2).trans R2 x3
      exact⟨a,xs,_,j,rfl,rfl,l1,by rw[l2.len];exact e4,hQ ρ3 _ (x13.trans R3 x4) R4 σ ((hL.ext hR x13).ext R3 x4)⟩
    . cases hm
  . cases hm
noncomputable def Ih(i:Nat)(g:Int->Int->Int)(m:ME):MS:=λ ls hd=>match ls[i]? with
  | some (some (.im (.int x)))=>(m ls hd).bind λ p=>match p.1 with
    | .im (.int y)=>some (.nx (ls.set i (some (.im (.int (g x y))))),p.2)
    | _=>none
  | _=>none
theorem Si{i:Nat}{g:Int->Int->Int}{t:TE}{m:ME}(h:RE K t m):RS K (Je i t (ipI g)) (Ih i g m):=by
  intro ρ σ H hd0 ls E f hd' hR hL hm hQ
  unfold Ih at hm
  split at hm
  . next x e0=>
    obtain⟨⟨d1,h1⟩,e1,hm⟩:=Option.bind_eq_some_iff.mp hm
    dsimp only at hm
    split at hm
    . cases hm
      obtain⟨v,v1,v2⟩:=hL.ob i _ e0
      simp only[RD,RI]at v2
      subst v2
      refine⟨_,v1,h ρ σ H hd0 ls _ _ _ hR hL e1 λ ρ1 H1 w x1 R1 r1=>?_⟩
      simp only[RD,RI]at r1
      subst r1
      exact⟨_,_,rfl,rfl,hQ ρ1 H1 x1 R1 _ ((hL.ext hR x1).set i (by simp[RD,RI]))⟩
    . cases hm
  . cases hm
end
end L2
namespace L2
open PySem PySem.Spec PyProof.Rows
structure QG(K:PySem.W.Frag)(X:Cx)(e:Expr)(t:TG)(m:MG):Prop where
  p:PG X e t
  r:RGt K t m
structure QGs(K:PySem.W.Frag)(X:Cx)(e:List Expr)(t:TGs)(m:MGs):Prop where
  p:PGs X e t
  r:Ke K t m
structure QI(K:PySem.W.Frag)(X:Cx)(tg e:Expr)(t:TI)(m:MI):Prop where
  p:PI X tg e t
  r:RIt K t m
structure QF(K:PySem.W.Frag)(X:Cx)(e:List Expr)(t:TT)(m:MT):Prop where
  p:PF X e t
  r:RT K t m
structure QO(K:PySem.W.Frag)(X:Cx)(e:Option Expr)(t:TO)(m:MO1):Prop where
  p:PO X e t
  r:RO1 K t m
noncomputable def Pw(a b:List D):Prop:=a ≠ []/\BU (a.length + b.length)
open Classical in
noncomputable def IK:D->D->Hd->Option (D × Hd):=λ d e hd=>(Ad d).bind λ a=>(Ad e).bind λ b=>if Pw a b then some (B4 (a ++ b),hd)else none
theorem BN{K:PySem.W.Frag}:RB K (Ly K) IK:=by
  intro ρ H hd d e v u Q z hd' hR h1 h2 hf hQ
  unfold IK at hf
  obtain⟨a,e1,hf⟩:=Option.bind_eq_some_iff.mp hf
  obtain⟨b,e2,hf⟩:=Option.bind_eq_some_iff.mp hf
  split at hf
  . next c=>
    cases hf
    obtain⟨p,xs,rfl,q1,r1⟩:=h1.tup e1
    obtain⟨p2,ys,rfl,q2,r2⟩:=h2.tup e2
    have l1:=r1.len;have l2:=r2.len
    refine⟨p,p2,xs,ys,rfl,rfl,q1,q2,λ z=>c.1 (by rw[z]at l1;simpa using l1.symm),by rw[l1,l2];exact c.2,λ z=>?_,λ _ p3 hp=>?_⟩
    . have:b=[]:=by rw[z]at l2;simpa using l2.symm
      subst this
      exact hQ ρ H _ .refl hR (by rw[List.append_nil];exact Cu q1 r1)
    . obtain⟨R2,x2⟩:=hR.hid (ho:=.tup (xs ++ ys)) hp
      exact hQ ρ _ _ x2 R2 (Cu (SqT.of AW) ((r1.app r2).ext hR x2))
  . cases hf
noncomputable abbrev BK:=Gm MQ IK
noncomputable def Ez(neg:Bool)(m:ME):ME:=λ ls hd=>(m ls hd).bind λ p=>some (.im (.bl (match p.1 with
  | .im .non=>!neg
  | _=>neg)),p.2)
theorem Tr{K:PySem.W.Frag}{ρ:List Addr}{H:Hp}{d:D}{v:V}(h:RD K ρ H d v):decide (v=.non)=(match d with | .im .non=>true|_=>false):=by
  cases d with
  | im i=>
    cases i with
    | non=>simp only[RD,RI]at h;subst h;rfl
    | tup is=>simp only[RD,RI]at h;obtain⟨a,xs,rfl,_⟩:=h;rfl
    | _=>simp only[RD,RI]at h;subst h;rfl
  | mu n=>simp only[RD]at h;obtain⟨a,_,rfl⟩:=h;rfl
  | tm ds=>simp only[RD]at h;obtain⟨a,xs,rfl,_⟩:=h;rfl
  | ro ns=>simp only[RD]at h;obtain⟨a,rfl,_⟩:=h;rfl
theorem T3{K:PySem.W.Frag}{t:TE}{m:ME}(h:RE K t m):RE K (OF t) (Ez false m):=by
  intro ρ σ H hd ls Q d hd' hR hL hm hQ
  obtain⟨⟨d1,h1⟩,e1,hm⟩:=Option.bind_eq_some_iff.mp hm
  cases hm
  refine h ρ σ H hd ls _ d1 _ hR hL e1 λ ρ1 H1 v x1 R1 r1=>?_
  rw[Tr r1]
  refine hQ ρ1 H1 _ x1 R1 ?_
  simp only[RD,RI]
  cases d1 with
  | im i=>cases i <;> rfl
  | _=>rfl
theorem Qi{K:PySem.W.Frag}{t:TE}{m:ME}(h:RE K t m):RE K (Lf t) (Ez true m):=by
  intro ρ σ H hd ls Q d hd' hR hL hm hQ
  obtain⟨⟨d1,h1⟩,e1,hm⟩:=Option.bind_eq_some_iff.mp hm
  cases hm
  refine h ρ σ H hd ls _ d1 _ hR hL e1 λ ρ1 H1 v x1 R1 r1=>?_
  rw[Tr r1]
  refine hQ ρ1 H1 _ x1 R1 ?_
  simp only[RD,RI]
  cases d1 with
  | im i=>cases i <;> rfl
  | _=>rfl
noncomputable def HK(m:ME):ME:=λ ls hd=>(m ls hd).bind λ p=>match p.1 with
  | .im (.int i)=>some (.im (.int (-i)),p.2)
  | _=>none
theorem T1{K:PySem.W.Frag}{t:TE}{m:ME}(h:RE K t m):RE K (tUn (rU λ i=>.int (-i)) t) (HK m):=by
  intro ρ σ H hd ls Q d hd' hR hL hm hQ
  obtain⟨⟨d1,h1⟩,e1,hm⟩:=Option.bind_eq_some_iff.mp hm
  dsimp only at hm
  split at hm
  . cases hm
    exact h ρ σ H hd ls _ _ _ hR hL e1 λ ρ1 H1 v x1 R1 r1=>⟨_,by simpa only[RD,RI]using r1,hQ ρ1 H1 _ x1 R1 (by simp[RD,RI])⟩
  . cases hm
noncomputable def CN:MT:=λ _ hd=>some (true,hd)
theorem Sa{K:PySem.W.Frag}:RT K O7 CN:=by
  intro ρ σ H hd ls Q d hd' hR hL hm hQ
  cases hm
  exact hQ ρ H .refl hR
section
variable(K:PySem.W.Frag){X:Cx}{a b c e:Expr}{es:List Expr}{ta tb tc te:TE}{ma mb mc me:ME}{tA tB':TT}{nA nB:MT}{t:TA}{m:MA}{pos:Pos}{x:Str}
theorem qv(i:Nat){x:Str}{pos:Pos}(hN:X.N[i]? = some x:=by rfl)(hv:Vis X.env.scope x:=by first|exact Or.inl rfl|exact Or.inr (Or.inl rfl)|exact Or.inr (Or.inr rfl))(hd:(x == ("__debug__":Str))=false:=by decide)
    (hcd:(x == ("__classdict__":Str))=false:=by decide):QE K X (.Name x pos) (Lc i) (A0 i):=⟨NF hN hv hd hcd,Sx⟩
theorem A6{i:Int}{j pos}:QE K X (.Constant (.int i) j pos) (tC (.int i)) (mC (.int i)):=⟨Th,Lp λ _=>by simp[RI]⟩
theorem DO{i:Bool}{j pos}:QE K X (.Constant (.bool i) j pos) (tC (.bl i)) (mC (.bl i)):=⟨Uy,Lp λ _=>by simp[RI]⟩
theorem N6{j pos}:QE K X (.Constant .none j pos) (tC .non) (mC .non):=⟨Tf,Lp λ _=>by simp[RI]⟩
theorem N4{x:Str}{j pos}:QE K X (.Constant (.str x) j pos) (tC (.str x)) (mC (.str x)):=⟨Td,Lp λ _=>by simp[RI]⟩
theorem AS{op:Operator}{r:R2}{f:D->D->Hd->Option (D × Hd)}(ho:OpR X (binaryOp op) r)(hr:RB K r f)(ha:QE K X a ta ma)(hb:QE K X b tb mb):QE K X (.BinOp a op b pos) (tOp r ta tb) (mOp f ma mb):=⟨M3 ho ha.p hb.p,JL hr ha.r hb.r⟩
theorem K9(ha:QE K X a ta ma):QE K X (.UnaryOp .USub a pos) (tUn (rU λ i=>.int (-i)) ta) (HK ma):=⟨Uv SN ha.p,T1 ha.r⟩
theorem DN{op:CmpOp}{r:R2}{f:D->D->Hd->Option (D × Hd)}(ho:OpR X (compareOp op) r)(hr:RB K r f)(ha:QE K X a ta ma)(hb:QE K X b tb mb)(hm:behindInMarks op b=false:=by first|exact FK _|rfl):QE K X (.Compare a [op] [b] pos) (tOp r ta tb) (mOp f ma mb):=⟨L9 ho ha.p hb.p hm,JL hr ha.r hb.r⟩
theorem BF{op:CmpOp}{r:R2}{f:D->D->Hd->Option (D × Hd)}(ho:OpR X (compareOp op) r)(hr:RB K r f)(ha:QE K X a ta ma)(hb:QE K X b tb mb)(hm:behindInMarks op b=false:=by first|exact FK _|rfl):QT K X (.Compare a [op] [b] pos) (Em (tOp r ta tb)) (AT (mOp f ma mb)):=⟨Gb ho ha.p hb.p hm,DE (JL hr ha.r hb.r)⟩
theorem TB{j pos'}(ha:QE K X a ta ma):QT K X (.Compare a [.Is] [.Constant .none j pos'] pos) (tB (OF ta)) (AT (Ez false ma)):=⟨N8 (Tj ha.p),Sd (T3 ha.r)⟩
theorem Qq{j pos'}(ha:QE K X a ta ma):QT K X (.Compare a [.IsNot] [.Constant .none j pos'] pos) (tB (Lf ta)) (AT (Ez true ma)):=⟨N8 (Rf ha.p),Sd (Qi ha.r)⟩
theorem Ca(ha:QE K X a ta ma)(he:∀ whole,isTrue a X.env whole=(do let v <- whole;standAt a.pos;holding [v] (truthy v)):=by intro _;rfl)(hK:X.K=K:=by rfl) :
    QT K X a (λ σ H Q=>ta σ H λ x H'=>∃ k,Kd K x H' k/\Q k H') (Cy ma):=by
  subst hK
  exact⟨Oo ha.p he,OM ha.r⟩
theorem K2(ha:QT K X a tA nA):QT K X (.UnaryOp .Not a pos) (OD tA) (GI nA):=⟨TL ha.p,Sb ha.r⟩
theorem EK(ha:QT K X a tA nA):QW K X (.BoolOp .And [a] pos) tA nA:=⟨Qy ha.p,ha.r⟩
theorem T9(ha:QT K X a tA nA):QW K X (.BoolOp .Or [a] pos) tA nA:=⟨TJ ha.p,ha.r⟩
theorem FG{rest:List Expr}(ha:QT K X a tA nA)(hb:QW K X (.BoolOp .And (b :: rest) pos) tB' nB):QW K X (.BoolOp .And (a :: b :: rest) pos) (OI tA tB') (Ed nA nB):=⟨TK ha.p hb.p,Sc ha.r hb.r⟩
theorem Up{rest:List Expr}(ha:QT K X a tA nA)(hb:QW K X (.BoolOp .Or (b :: rest) pos) tB' nB):QW K X (.BoolOp .Or (a :: b :: rest) pos) (tOr tA tB') (mOr nA nB):=⟨Ut ha.p hb.p,Ug ha.r hb.r⟩
theorem QW.toT{K:PySem.W.Frag}{X:Cx}{e:Expr}{t:TT}{m:MT}(h:QW K X e t m):QT K X e t m:=⟨h.p.pt,h.r⟩
theorem N5{op}(ha:QE K X a ta ma):QE K X (.BoolOp op [a] pos) ta ma:=⟨Te ha.p,ha.r⟩
theorem TH{rest:List Expr}(ha:QE K X a ta ma)(hb:QE K X (.BoolOp .And (b :: rest) pos) tb mb):QE K X (.BoolOp .And (a :: b :: rest) pos) (Lj ta tb) (Gh ma mb):=⟨Ti ha.p hb.p,Qm ha.r hb.r⟩
theorem Uq{rest:List Expr}(ha:QE K X a ta ma)(hb:QE K X (.BoolOp .Or (b :: rest) pos) tb mb):QE K X (.BoolOp .Or (a :: b :: rest) pos) (OC ta tb) (KJ ma mb):=⟨Uw ha.p hb.p,T0 ha.r hb.r⟩
theorem HE(hc:QT K X c tA nA)(ha:QE K X a ta ma)(hb:QE K X b tb mb):QE K X (.IfExp c a b pos) (tIf tA ta tb) (mIf nA ma mb):=⟨Oy hc.p ha.p hb.p,Ul hc.r ha.r hb.r⟩
theorem A5:QA K X [] CT A7:=⟨DQ,T5⟩
theorem A1(ha:QE K X e te me)(hr:QA K X es t m)(hs:starEach (e :: es) X.env=(false,eval e X.env) :: starEach es X.env:=by rfl):QA K X (e :: es) (C1 te t) (A2 me m):=⟨Ci ha.p hr.p hs,Qo ha.r hr.r⟩
theorem CI{x1}(h:QA K X es t m):QE K X (.Tuple es x1 pos) (O8 t) (BT m):=⟨Tc h.p,Sy h.r⟩
theorem Bq(h:QA K X es t m):QN K X (.List es pos) (OE t) (C6 m):=⟨Tg h.p,Sn h.r⟩
theorem Ap(h:QN K X e te m):QE K X e te (B1 m):=⟨h.p,Mw h.r⟩
theorem AL(ha:QE K X a ta ma)(hb:QE K X b tb mb)(hs:Ip b:=by exact λ _ _=>rfl)(hK:X.K=K:=by rfl):QE K X (.Subscript a b pos) (tOp (JM K) ta tb) (mOp gIx ma mb):=⟨Pm ((KN K hK).or (LG K hK)) ha.p hb.p hs,JL Uo ha.r hb.r⟩
theorem GZ:QO K X none IR CL:=⟨RU,Qb⟩
theorem GY(h:QE K X e te me):QO K X (some e) (Ld te) (Dj me):=⟨RQ h.p,Qa h.r⟩
theorem TF{lo hi:Option Expr}{tl th:TO}{ml mh:MO1}{p2:Pos}(h:QE K X e te me)(hl:QO K X lo tl ml)(hh:QO K X hi th mh)(hK:X.K=K:=by rfl):QE K X (.Subscript e (.Slice lo hi none p2) pos) (tSl (Lv K) te tl th) (KH me ml mh):=⟨KB (QH K hK) h.p hl.p hh.p,Sz h.r hl.r hh.r⟩
theorem K4{lo hi:Option Expr}{tl th:TO}{ml mh:MO1}{p2:Pos}(h:QE K X e te me)(hl:QO K X lo tl ml)(hh:QO K X hi th mh)(hK:X.K=K:=by rfl):QN K X (.Subscript e (.Slice lo hi none p2) pos) (tSl (Lw K) te tl th) (Ff me ml mh):=⟨KB (OK K hK) h.p hl.p hh.p,Sk h.r hl.r hh.r⟩
theorem Bc{id:String}{p:Pos}{r:List V->Hp->VK->Prop}{f:List D->Hd->Option (D × Hd)}(hc:CallR X (.builtin id) r)(hr:RF K r f)(hm:X.mg x=none)(hv:bootBuiltins x=some (.builtin id))(ha:QA K X (e :: es) t m)(hg:Gl X x:=by rfl)(hn:x ≠ "__name__":=by decide)(hdb:(x == ("__debug__":Str))=false:=by decide)
    (he:starEach (e :: es) X.env=(false,eval e X.env) :: starEach es X.env:=by rfl) (hpl:(backTo pos (starEach es X.env)).any (·.1)=false:=by rfl):QE K X (.Call (.Name x p) (e :: es) [] pos) (tCB r t) (mCB f m):=⟨EW hc hg hm hv ha.p hn hdb he hpl,Pe hr ha.r⟩
theorem Us{id:String}{p:Pos}{r:List V->Hp->VK->Prop}{f:List D->Hd->Option (D × Hd)}(hc:CallR X (.type id) r)(hr:RF K r f)(hm:X.mg x=none)(hv:bootBuiltins x=some (.type id))(ha:QA K X (e :: es) t m)(hg:Gl X x:=by rfl)(hn:x ≠ "__name__":=by decide)(hdb:(x == ("__debug__":Str))=false:=by decide)
    (he:starEach (e :: es) X.env=(false,eval e X.env) :: starEach es X.env:=by rfl) (hpl:(backTo pos (starEach es X.env)).any (·.1)=false:=by rfl):QE K X (.Call (.Name x p) (e :: es) [] pos) (tCB r t) (mCB f m):=⟨Ds hc hg hm hv ha.p hn hdb he hpl,Pe hr ha.r⟩
theorem Hv{id:String}{p:Pos}{r:List V->Hp->VK->Prop}{tp:Bool}{g:List D->Option D}(hc:CallR X (.builtin id) r)(hr:RG K tp r g)(hm:X.mg x=none)(hv:bootBuiltins x=some (.builtin id))(ha:QN K X e te m)(hg:Gl X x:=by rfl)(hn:x ≠ "__name__":=by decide)(hdb:(x == ("__debug__":Str))=false:=by decide)
    (he:starEach [e] X.env=[(false,eval e X.env)]:=by rfl):QE K X (.Call (.Name x p) [e] [] pos) (tCB r (C1 te CT)) (E5 g m):=⟨EW hc hg hm hv (Ci ha.p DQ he) hn hdb he rfl,My hr ha.r⟩
theorem Ur{id:String}{p:Pos}{r:List V->Hp->VK->Prop}{tp:Bool}{g:List D->Option D}(hc:CallR X (.type id) r)(hr:RG K tp r g)(hm:X.mg x=none)(hv:bootBuiltins x=some (.type id))(ha:QN K X e te m)(hg:Gl X x:=by rfl)(hn:x ≠ "__name__":=by decide)(hdb:(x == ("__debug__":Str))=false:=by decide)
    (he:starEach [e] X.env=[(false,eval e X.env)]:=by rfl):QE K X (.Call (.Name x p) [e] [] pos) (tCB r (C1 te CT)) (E5 g m):=⟨Ds hc hg hm hv (Ci ha.p DQ he) hn hdb he rfl,My hr ha.r⟩
theorem Ol{p:Pos}(hm:X.mg "list"=none)(ha:QN K X e te m)(hg:Gl X "list":=by rfl)(he:starEach [e] X.env=[(false,eval e X.env)]:=by rfl)(hK:X.K=K:=by rfl):QN K X (.Call (.Name "list" p) [e] [] pos) (tCB (IX K) (C1 te CT)) (IA m):=⟨Ds (MZ K hK) hg hm LR (Ci ha.p DQ he) (by decide) (by decide) he rfl,OU ha.r⟩
theorem Ga{id:String}{r:V->List V->Hp->VK->Prop}{f:D->List D->Hd->Option (D × Hd)}{name:Str}{apos cpos:Pos}{o:Expr}{to:TE}{mo:ME}(slot:Slot "list" name id)(hty:typeOf (.builtin id)=pure (.type "method_descriptor"))(hm:MtM X id r)(hr:RM K r f)(ho:QE K X o to mo)(ha:QA K X (e :: es) t m)
    (hbase:attributeBase o name X.env (eval o X.env)=eval o X.env:=by rfl)
    (hfew:((backTo cpos (starEach (e :: es) X.env)).all (λ x=>!x.1) && (backToKw cpos (keywordEach [] X.env)).all (λ x=>x.1.isSome)
      && decide ((e :: es).length + ([]:List Keyword).length + (if([]:List Keyword).isEmpty then 0 else 1) < 30))=true:=by rfl)
    (hline:(apos.endLine == cpos.line)=true:=by rfl) (hs:starEach (e :: es) X.env=(false,eval e X.env) :: starEach es X.env:=by rfl) (hplain:(backTo cpos (starEach es X.env)).any (·.1)=false:=by rfl) (hK:X.K=K:=by rfl) :
    QE K X (.Call (.Attribute o name apos) (e :: es) [] cpos) (tBM K "list" r to t) (mMt f mo m):=by
  subst hK
  exact⟨Ux PySem.F.plainAttrs_list slot hty hm ho.p ha.p hbase hfew hline hs hplain,Uk hr ho.r ha.r⟩
theorem AM(w:Nat){j k:Nat}{f:Addr}{fd:FuncData}{ps:List Str}{n:Nat}{F:List D->Hd->Option (D × Hd)}{st:Stmt}{p:Pos}(G:FnOk X.prog X.w X.K X.mg X.base CX0 j f fd ps (spF K n F))(hr:Room k X.A)(DA:DefAt X.K X.mg x st f fd ps)(ha:QA K X (e :: es) t m)(hF:∀ ds hd z,F ds hd=some z->ds.length=n)
    (hjk:j <= k:=by decide) (hg:Gl X x:=by rfl) (hdb:(x == ("__debug__":Str))=false:=by decide) (he:starEach (e :: es) X.env=(false,eval e X.env) :: starEach es X.env:=by rfl) (hpl:(backTo pos (starEach es X.env)).any (·.1)=false:=by rfl) :
    QE K X (.Call (.Name x p) (e :: es) [] pos) (En (spF K n F) [] E0 t) (AI w F m):=⟨M4 G hr DA ha.p hjk hg hdb he hpl,Oa ha.r hF⟩
theorem Dd{j k:Nat}{f:Addr}{fd:FuncData}{ps:List Str}{n:Nat}{F:List D->Hd->Option (D × Hd)}{st:Stmt}{p:Pos}(G:FnOk X.prog X.w X.K X.mg X.base CX0 j f fd ps (spF K n F))(hr:Room k X.A)(DA:DefAt X.K X.mg x st f fd ps)(ha:QA K X (e :: es) t m)(hF:∀ ds hd z,F ds hd=some z->ds.length=n)
    (hjk:j <= k:=by decide) (hg:Gl X x:=by rfl) (hdb:(x == ("__debug__":Str))=false:=by decide) (he:starEach (e :: es) X.env=(false,eval e X.env) :: starEach es X.env:=by rfl) (hpl:(backTo pos (starEach es X.env)).any (·.1)=false:=by rfl) :
    QE K X (.Call (.Name x p) (e :: es) [] pos) (En (spF K n F) [] E0 t) (Cc F m):=⟨M4 G hr DA ha.p hjk hg hdb he hpl,Oc ha.r hF⟩
theorem AD{i:Nat}(hN:X.N.Nodup)(hi:X.N[i]? = some x)(hx:Loc X.env.scope x)(hf:X.fn x=true ∨ X.env.scope.names.lookup x=some .local:=by first|exact .inl rfl|exact .inr rfl|assumption):QG K X (.Name x pos) (Fj i) (AN i):=⟨Ra hN hi hx hf,IS⟩
theorem Bk:QGs K X [] PB Cw:=⟨RY,Qh⟩
theorem AR{tg:TG}{tgs:TGs}{n:MG}{ns:MGs}(h1:QG K X e tg n)(h2:QGs K X es tgs ns)(hs:(assignEach (e :: es) X.env).map (·.2)=assign e X.env :: (assignEach es X.env).map (·.2):=by rfl):QGs K X (e :: es) (MP tg tgs) (Ax n ns):=⟨Ow h1.p h2.p hs,OW h1.r h2.r⟩
theorem C9{k n:Nat}{tgs:TGs}{ns:MGs}(hc:X.calm=true)(h:QGs K X es tgs ns)(hK:X.K=K:=by rfl)(hn:(assignEach es X.env).length=n:=by rfl)(hst:(assignEach es X.env).findIdx? (·.1)=none:=by rfl):QG K X (.Tuple es k pos) (MN K n tgs) (Cv n ns):=⟨RZ K hc h.p hK hn hst,Ss h.r⟩
theorem DM{tg:Expr}(h:QE K X e te me)(hK:X.K=K:=by rfl):QI K X tg e (KO K te) (Dg me):=⟨L8 K h.p hK,Mv h.r⟩
theorem Ch{tg:Expr}(h:QE K X e te me)(hK:X.K=K:=by rfl):QI K X tg e (IJ K te) (CD me):=⟨KA K h.p hK,Kw h.r⟩
theorem EL{tg:Expr}{p:Pos}(hm:X.mg "range"=none)(ha:QA K X [a] t m)(hg:Gl X "range":=by rfl)(hs:starEach [a] X.env=[(false,eval a X.env)]:=by rfl):QI K X tg (.Call (.Name "range" p) [a] [] pos) (MJ t) (Eb m):=⟨ND hg hm ha.p hs,Qf ha.r⟩
theorem L7{tg:Expr}{p:Pos}(hm:X.mg "range"=none)(ha:QA K X [a,b] t m)(hg:Gl X "range":=by rfl)(hs:starEach [a,b] X.env=[(false,eval a X.env),(false,eval b X.env)]:=by rfl)(hs2:starEach [b] X.env=[(false,eval b X.env)]:=by rfl):QI K X tg (.Call (.Name "range" p) [a,b] [] pos) (MH t) (Gf m):=⟨NC hg hm ha.p hs hs2,Qe ha.r⟩
theorem Ba:QF K X [] O7 CN:=⟨Ta,Sa⟩
theorem K8(h:QT K X c tA nA):QF K X [c] tA nA:=⟨TZ h.p,h.r⟩
theorem BH{elt tg iter:Expr}{ifs:List Expr}{scope:Scope}{loc fr:List Str}{ix:List Nat}{wi:TI}{g:TG}{tf:TT}{te:TE}{mi:MI}{n:MG}{mf:MT}{mm:ME}(hc:X.calm=true)(S:CSc X scope fr ix)(hi:QI K X tg iter wi mi)
    (hg:∀ s H ex,QG K (cCx X (loc ++ fr) scope s H ex) tg g n) (hf:∀ s H ex,QF K (cCx X (loc ++ fr) scope s H ex) ifs tf mf) (he:∀ s H ex,QE K (cCx X (loc ++ fr) scope s H ex) elt te mm)
    (hs:∀ x,foldedSetIterable iter X.env x=pure x:=by intro _;rfl):QN K X (.ListComp elt [⟨tg,iter,ifs,0⟩] scope pos) (Hi loc.length ix wi g tf te) (BP loc.length ix mi n mf mm):=
  ⟨Rc hc S hi.p (λ s H ex=>(hg s H ex).p) (λ s H ex=>(hf s H ex).p) (λ s H ex=>(he s H ex).p) hs,Kv hi.r (hg X.s₀ X.H₀ []).r (hf X.s₀ X.H₀ []).r (he X.s₀ X.H₀ []).r⟩
theorem B7:QSs K X [] Lg BD:=⟨R8,QU⟩
theorem A8{st:Stmt}{rest:List Stmt}{u v:TS}{m1 m2:MS}(h1:QS K X st u m1)(h2:QSs K X rest v m2):QSs K X (st :: rest) (O9 u v) (AF m1 m2):=⟨Oq h1.p h2.p,Se h1.r h2.r⟩
theorem AC{st:Stmt}{u:TS}{m1:MS}(h1:QS K X st u m1):QSs K X [st] u m1:=⟨Qz h1.p,h1.r⟩
theorem DF(he:QE K X e te me)(hs:swapsWith e none pos.line X.env=pure false:=by rfl):QS K X (.Expr e pos) (Li te) (Bx me):=⟨RK he.p hs,QX he.r⟩
theorem Ac(he:QE K X e te me):QS K X (.Return (some e) pos) (OA te) (Am me):=⟨TQ he.p,Sf he.r⟩
theorem Bw{a b:List Stmt}{u v:TS}{m1 m2:MS}(hc:QT K X c tA nA)(ha:QSs K X a u m1)(hb:QSs K X b v m2):QS K X (.If c a b pos) (OG tA u v) (BX nA m1 m2):=⟨Uu hc.p ha.p hb.p,Ui hc.r ha.r hb.r⟩
theorem HD{st:Stmt}:QS K X st Jc GJ:=⟨Ot,OP⟩
theorem EU{tg:Expr}{g:TG}{n:MG}(he:QE K X e te me)(hg:QG K X tg g n)(hs:swapsWithSole [tg] e pos.line X.env=pure false:=by rfl)(hw:swappedStores [tg] e X.env=pure none:=by rfl)
    (h1:(assignEach [tg] X.env).map (·.2)=[assign tg X.env]:=by rfl):QS K X (.Assign [tg] e pos) (FX te g) (E6 me n):=⟨NA he.p hg.p hs hw h1,Jr he.r hg.r⟩
theorem AX{i:Nat}{pos':Pos}(hN:X.N.Nodup)(hi:X.N[i]? = some x)(hx:Loc X.env.scope x)(he:QE K X e te me)(hs:swapsWith e (some (.Name x pos')) pos.line X.env=pure false:=by rfl)(hf:X.fn x=true ∨ X.env.scope.names.lookup x=some .local:=by first|exact .inl rfl|exact .inr rfl|assumption) :
    QS K X (.Assign [.Name x pos'] e pos) (FX te (Fj i)) (Ak i me):=⟨TN hN hi hx he.p hs hf,Jr he.r IS⟩
theorem L3{i:Nat}{y:Str}{elt tg iter:Expr}{ifs:List Expr}{scope:Scope}{spos py:Pos}{loc fr:List Str}{ix:List Nat}{wi:TI}{g:TG}{tf:TT}{te:TE}{mi:MI}{n:MG}{mf:MT}{mm:ME}(hN:X.N.Nodup)(hiN:X.N[i]? = some y)(hy:X.env.scope.names.lookup y=some .local)
    (hc:X.calm=true) (S:CSc X scope fr ix) (hi:QI K X tg iter wi mi)
    (hg:∀ s H ex,QG K (cCx X (loc ++ fr) scope s H ex) tg g n) (hf:∀ s H ex,QF K (cCx X (loc ++ fr) scope s H ex) ifs tf mf) (he:∀ s H ex,QE K (cCx X (loc ++ fr) scope s H ex) elt te mm)
    (hsw:swapsWith (.ListComp elt [⟨tg,iter,ifs,0⟩] scope pos) (some (.Name y py)) spos.line X.env=pure true:=by rfl) (hs:∀ x,foldedSetIterable iter X.env x=pure x:=by intro _;rfl) :
    QS K X (.Assign [.Name y py] (.ListComp elt [⟨tg,iter,ifs,0⟩] scope pos) spos) (FX (Hi loc.length ix wi g tf te) (Fj i)) (Ak i (B1 (BP loc.length ix mi n mf mm))):=
  ⟨R9 hN hiN hy hc S hi.p (λ s H ex=>(hg s H ex).p) (λ s H ex=>(hf s H ex).p) (λ s H ex=>(he s H ex).p) hsw hs,Jr (Mw (Kv hi.r (hg X.s₀ X.H₀ []).r (hf X.s₀ X.H₀ []).r (he X.s₀ X.H₀ []).r)) IS⟩
theorem GB{i j:Nat}{x y:Str}{a b:Expr}{px py pt:Pos}{kt k2 pt2}(hc:X.calm=true)(hN:X.N.Nodup)(hi:X.N[i]? = some x)(hj:X.N[j]? = some y)(hij:i ≠ j)
    (hx:X.env.scope.names.lookup x=some .local) (hy:X.env.scope.names.lookup y=some .local) (ha:QA K X [a,b] t m)
    (hw:swappedStores [.Tuple [.Name x px,.Name y py] kt pt] (.Tuple [a,b] k2 pt2) X.env=pure (some [x,y]):=by rfl)
    (hs:swapsWithSole [.Tuple [.Name x px,.Name y py] kt pt] (.Tuple [a,b] k2 pt2) pos.line X.env=pure false:=by rfl) :
    QS K X (.Assign [.Tuple [.Name x px,.Name y py] kt pt] (.Tuple [a,b] k2 pt2) pos) (OB i j t) (Cj [i,j] m):=⟨TR hc hN hi hj hij hx hy ha.p hw,Sg ha.r⟩
theorem Qu{i j k:Nat}{x y z:Str}{a b c:Expr}{px py pz pt:Pos}{kt k2 pt2}(hc:X.calm=true)(hN:X.N.Nodup)(hi:X.N[i]? = some x)(hj:X.N[j]? = some y)(hk:X.N[k]? = some z)
    (hx:X.env.scope.names.lookup x=some .local) (hy:X.env.scope.names.lookup y=some .local) (hz:X.env.scope.names.lookup z=some .local) (ha:QA K X [a,b,c] t m)
    (hw:swappedStores [.Tuple [.Name x px,.Name y py,.Name z pz] kt pt] (.Tuple [a,b,c] k2 pt2) X.env=pure (some [x,y,z]):=by rfl)
    (hs:swapsWithSole [.Tuple [.Name x px,.Name y py,.Name z pz] kt pt] (.Tuple [a,b,c] k2 pt2) pos.line X.env=pure false:=by rfl) :
    QS K X (.Assign [.Tuple [.Name x px,.Name y py,.Name z pz] kt pt] (.Tuple [a,b,c] k2 pt2) pos) (Le i j k t) (Gc i j k m):=⟨RJ hc hN hi hj hk hx hy hz ha.p hw hs,QQ ha.r⟩
theorem FH{o i value:Expr}{pos':Pos}{to ti tv:TE}{mo mi mv:ME}(ho:QE K X o to mo)(hi:QE K X i ti mi)(hv:QE K X value tv mv)(hs:swapsWithSole [.Subscript o i pos'] value pos.line X.env=pure false:=by rfl)(hw:swappedStores [.Subscript o i pos'] value X.env=pure none:=by rfl)
    (h1:(assignEach [.Subscript o i pos'] X.env).map (·.2)=[assign (.Subscript o i pos') X.env]:=by rfl)
    (ha:∀ v,assign (.Subscript o i pos') X.env v=(do
      let ov <- holding [v] (eval o X.env)
      let iv <- holding [v,ov] (eval i X.env)
      standAt pos'
      holding [v,ov,iv] (setItem ov iv v)
      release [v,ov,iv] []):=by intro _;rfl):QS K X (.Assign [.Subscript o i pos'] value pos) (FX tv (P9 to ti Lx)) (EF mo mi mv):=⟨NA hv.p (TY ho.p hi.p OL ha) hs hw h1,QV ho.r hi.r hv.r⟩
theorem TC{i:Nat}{op:Operator}{g:Int->Int->Int}{pos':Pos}(hN:X.N.Nodup)(hi:X.N[i]? = some x)(hx:Loc X.env.scope x)(he:QE K X e te me)(ho:PIp X op (ipI g))(hf:X.fn x=true ∨ X.env.scope.names.lookup x=some .local:=by first|exact .inl rfl|exact .inr rfl|assumption) :
    QS K X (.AugAssign (.Name x pos') op e pos) (Je i te (ipI g)) (Ih i g me):=⟨N9 hN hi hx he.p ho hf,Si he.r⟩
theorem Cb{tg iter:Expr}{body:List Stmt}{wi:TI}{g:TG}{tb:TS}{mi:MI}{n:MG}{mb:MS}(hc:X.calm=true)(hi:QI K X tg iter wi mi)(hg:QG K X tg g n)(hb:QSs K X body tb mb)(hp:PassesOwn (model X.prog X.w) X.A X.env X.xe:=by exact PassesOwn.never)
    (hs:∀ x,foldedSetIterable iter X.env x=pure x:=by intro _;rfl):QS K X (.For tg iter body [] pos) (OH wi g tb) (Ck mi n mb):=⟨TU hp hc hi.p hg.p hb.p hs,Sh hi.r hg.r hb.r⟩
theorem K3{body:List Stmt}{tb:TS}{mb:MS}(hc:QT K X c tA nA)(hb:QSs K X body tb mb)(hp:PassesOwn (model X.prog X.w) X.A X.env X.xe:=by exact PassesOwn.never):QS K X (.While c body [] pos) (Jb tA tb) (Du nA mb):=⟨Os hp hc.p hb.p,ON hc.r hb.r⟩
end
theorem Ao{P:Program}{w:World}{K:PySem.W.Frag}{mg:Str->Option Value}{base:Heap}{x:Str}{st:Stmt}{f:Addr}{fd:FuncData}{N ps:List Str}{j:Nat}{m:MS}(DA:DefAt K mg x st f fd ps)(S:FnScope N ps (AA st))
    (h:∀ (cdv:Value) (A:Around) (outer:List Env) (s:Shared) (H:Hp) (E:XK),Room j (A.deeper (envOfC x (AA st) s.heap.objs.size f cdv))->∃ t,QSs K (HY CX0 P w K mg base N x (AA st) f cdv A outer s H E).nox (AU st) t m) :
    FnOk P w K mg base CX0 (j + 1) f fd ps (spF K ps.length (mkF ps.length N.length m)):=by
  refine DA.fn.ok S (λ vs H Q E h=>h.1) (λ cdv A outer s H vs Q E hr hs=>?_)
  obtain⟨t,q⟩:=h cdv A outer s H E hr
  exact⟨t,q.p,QC q.r hs⟩
end L2
namespace L2
open PySem PySem.Spec PyProof.Rows
section
variable{X:Cx}{pins:List (Addr × Obj)}{σ:List (Option V)}{H H':Hp}{s:Shared}{h':Heap}
theorem Inv.turns{tk:Nat}{fp:List Addr}(I:Inv X pins σ H s)(k:∀ b o,b ∉ fp->s.heap.get? b=some o->h'.get? b=some o)(hf:∀ b ∈ fp,CP X pins H b):Inv X pins σ H { s with heap:=h',toks:=tk }:=by
  have out:∀ b u,H b=some u->b ∉ fp:=λ b u e z=>by rw[(hf b z).1]at e;cases e
  have hL:X.env.locals ∉ fp:=λ z=>(hf _ z).2.1 rfl
  refine I.step (g':=s.gens) (d':=s.drawn) (ch:=fp) (λ b hb=>⟨(hf b hb).2.2.2.1,(hf b hb).2.1,(hf b hb).2.2.2.2.1,(hf b hb).2.2.2.2.2⟩) (λ b o _ _ hc e _=>k b o hc e) (λ b o _ _ hc e _=>⟨o.slots,k b o hc e⟩) (λ _ _ _ _ n=>n)
    (λ b o hc e=>⟨o,k b o hc e⟩) (λ _ _ e=>e) (λ _ _ _ e=>e) (λ b ps e=>⟨#[],by rw[e];simp⟩) (λ m hm=>?_) (λ b u e=>?_) I.bare
  . obtain⟨o,es,ep,ho,r⟩:=hm
    exact⟨o,es,ep,k _ o hL ho,r⟩
  . refine(I.hok b u e).stay (λ c v hc q=>k c v ?_ q) (λ _ q=>q) λ _ _ q=>q
    rcases hc with z|z
    . rw[z];exact out b u e
    . exact out c _ z
end
theorem Inv.turnsL{X:Cx}{pins:List (Addr × Obj)}{σ:List (Option V)}{H:Hp}{s:Shared}{h':Heap}{tk:Nat}{fp:List Addr}{a:Addr}{o:HO}(I:Inv X pins σ H s)(k:∀ b o,b ∉ fp->s.heap.get? b=some o->h'.get? b=some o)(hf:∀ b ∈ fp,CP X pins H b)(ha:s.heap.objs.size <= a)(new:ObjOk X.prog X.w (upd H a o) h' a o) :
    Inv X pins σ (upd H a o) { s with heap:=h',toks:=tk }:=by
  have out:∀ b u,H b=some u->b ∉ fp:=λ b u e z=>by rw[(hf b z).1]at e;cases e
  have hL:X.env.locals ∉ fp:=λ z=>(hf _ z).2.1 rfl
  have fr:H a=none:=I.hok.fresh ha
  refine I.step (g':=s.gens) (d':=s.drawn) (ch:=fp) (λ b hb=>⟨(hf b hb).2.2.2.1,(hf b hb).2.1,(hf b hb).2.2.2.2.1,(hf b hb).2.2.2.2.2⟩) (λ b o _ _ hc e _=>k b o hc e) (λ b o _ _ hc e _=>⟨o.slots,k b o hc e⟩)
    (λ b o _ e n=>by rw[AO (Nat.ne_of_lt (Nat.lt_of_lt_of_le (Heap.lt_size e) ha))];exact n) (λ b o hc e=>⟨o,k b o hc e⟩) (λ b xs e=>by rw[AO (Aj e fr)];exact e) (λ b o u e=>by rw[AO (Aj e fr)];exact e)
    (λ b ps e=>⟨#[],by rw[AO (Aj e fr),e];simp⟩) (λ m hm=>?_) (λ b u e=>?_) I.bare
  . obtain⟨o,es,ep,ho,r⟩:=hm
    exact⟨o,es,ep,k _ o hL ho,r⟩
  . by_cases hb:b=a
    . subst hb;rw[AW]at e;cases e;exact new
    . rw[AO hb]at e
      refine(I.hok b u e).stay (λ c v hc q=>k c v ?_ q) (λ c q=>by rw[AO (Aj q fr)];exact q) λ c xs q=>by rw[AO (Aj q fr)];exact q
      rcases hc with z|z
      . rw[z];exact out b u e
      . exact out c _ z
noncomputable def XU(tp:Bool)(h:Heap)(it l:Addr)(k:Nat):Prop:=match tp with
  | true=>h.IsTupleIter it l k
  | false=>h.IsListIter it l k
section
variable{prog:Program}{w:World}{A:Around}{E:Value->Shared->Prop}{s:Shared}{it l:Addr}{k:Nat}{xs:Array Value}{x:Value}
end
section
variable{prog:Program}{w:World}{A:Around}{E:Value->Shared->Prop}{s:Shared}{t1 t2:Bool}{z a b i1 i2 l1 l2:Addr}{j k:Nat}{xs ys:Array Value}{x y:Value}
end
noncomputable def SqS(K:PySem.W.Frag)(tp:Bool)(H:Hp)(a:Addr)(xs:List V):Prop:=match tp with
  | true=>SqT K H a xs
  | false=>SqL K H a xs
section
variable{X:Cx}{pins:List (Addr × Obj)}{σ:List (Option V)}{H:Hp}{s:Shared}
end
end L2
namespace L2
open PySem PySem.Spec PyProof.Rows
section
variable{prog:Program}{w:World}{A:Around}{E:Value->Shared->Prop}{s:Shared}
end
section
variable{X:Cx}
end
noncomputable def VN(K:PySem.W.Frag)(ρ:List Addr)(H:Hp)(tp:Bool)(a:Addr)(ds:List D)(g:Gd):Prop:=∀ (ρ2:List Addr) (H2:Hp) (hd2:Hd),Ext ρ H ρ2 H2->RH K ρ2 H2 hd2->GOk hd2 g->∃ xs,SqS K tp H2 a xs/\RDs K ρ2 H2 ds xs
noncomputable def RRw(K:PySem.W.Frag)(tp:Bool)(t:TE)(m:MI):Prop:=∀ (ρ:List Addr) (σ:St) (H:Hp) (hd:Hd) (ls:Ls) (Q:VK) (d:List D) (g:Gd) (hd':Hd),RH K ρ H hd->RL K ρ H ls σ->m ls hd=some ((d,g),hd') ->
  (∀ ρ' H' a,Ext ρ H ρ' H'->RH K ρ' H' hd'->GOk hd' g->VN K ρ' H' tp a d g->Q (.ref a) H')->t σ H Q
structure QR(K:PySem.W.Frag)(tp:Bool)(X:Cx)(e:Expr)(t:TE)(m:MI):Prop where
  p:PE X e t
  r:RRw K tp t m
section
variable{K:PySem.W.Frag}{ρ ρ':List Addr}{H H':Hp}{hd hd':Hd}
theorem QM{t:TE}{m:ME}(h:RE K t m):RRw K false t (CD m):=by
  intro ρ σ H hd ls Q d g hd' hR hL hm hQ
  obtain⟨⟨d1,h1⟩,e1,hm⟩:=Option.bind_eq_some_iff.mp hm
  dsimp only at hm
  split at hm
  . next n=>
    split at hm
    . next ds q=>
      cases hm
      refine h ρ σ H hd ls _ _ _ hR hL e1 λ ρ1 H1 v x1 R1 r1=>?_
      simp only[RD]at r1
      obtain⟨a,hn,rfl⟩:=r1
      refine hQ ρ1 H1 a x1 R1 (λ p z=>by simp at z;subst z;exact q) λ ρ2 H2 hd2 x2 R2 G2=>?_
      have hn2:ρ2[n]? = some a:=by
        obtain⟨r,rfl,_⟩:=x2.pre
        rw[List.getElem?_append_left (List.getElem?_eq_some_iff.mp hn).1];exact hn
      obtain⟨ys,e4,e5⟩:=R2.lst hn2 (G2 (n,d) (by simp))
      exact⟨ys,SqL.of e4,e5⟩
    . cases hm
  . next ns=>
    cases hm
    refine h ρ σ H hd ls _ _ _ hR hL e1 λ ρ1 H1 v x1 R1 r1=>?_
    simp only[RD]at r1
    obtain⟨a,rfl,q⟩:=r1
    exact hQ ρ1 H1 a x1 R1 (As _) λ ρ2 H2 hd2 x2 R2 _=>⟨_,(q.grow (x2.grow R1)).sq,FO⟩
  . cases hm
end
section
variable(K:PySem.W.Frag){X:Cx}{a b e:Expr}{ta tb te:TE}{me:ME}{m:MA}
theorem IY(h:QE K X e te me):QR K false X e te (CD me):=⟨h.p,QM h.r⟩
end
section
variable{K:PySem.W.Frag}
noncomputable def HL(ml:MA)(mb:ME):ME:=λ ls hd=>(ml ls hd).bind λ p=>(mb ls p.2).bind λ q=>match q.1 with
  | .im (.int i)=>(atI p.1 i).map (·,q.2)
  | _=>none
theorem T2{ta tb:TE}{ml:MA}{mb:ME}(ha:RN K ta ml)(hb:RE K tb mb):RE K (tOp (JM K) ta tb) (HL ml mb):=by
  intro ρ σ H hd ls Q d hd' hR hL hm hQ
  obtain⟨⟨d1,h1⟩,e1,hm⟩:=Option.bind_eq_some_iff.mp hm
  obtain⟨⟨d2,h2⟩,e2,hm⟩:=Option.bind_eq_some_iff.mp hm
  dsimp only at hm
  split at hm
  . obtain⟨w,e3,e4⟩:=Option.map_eq_some_iff.mp hm
    cases e4
    refine ha ρ σ H hd ls _ d1 h1 hR hL e1 λ ρ1 H1 a xs x1 R1 na oa ea r1=>?_
    refine hb ρ1 σ H1 h1 ls _ _ _ R1 (hL.ext hR x1) e2 λ ρ2 H2 v2 x2 R2 r2=>?_
    simp only[RD,RI]at r2
    subst r2
    have r1':=r1.ext R1 x2
    obtain⟨j,j1,j2⟩:=LS r1'.len e3
    obtain⟨x,y1,y2⟩:=r1'.get j1
    exact .inl ⟨a,xs,_,x,rfl,rfl,SqL.of (x2.keep a _ ea oa nt),j2 x y1,hQ ρ2 H2 x (x1.trans R1 x2) R2 y2⟩
  . cases hm
noncomputable def Fp(neg:Bool)(x y:PyData)(hd:Hd):Option (D × Hd):=if x.canLay0=true/\y.canLay0=true/\min x.depth y.depth <= 60 then some (.im (.bl (if neg then !PyData.eqv x y else PyData.eqv x y)),hd)else none
noncomputable def Fg(neg:Bool)(ma:ME)(ml:MA):ME:=λ ls hd=>(ma ls hd).bind λ p=>(ml ls p.2).bind λ q=>(pyD q.2 p.1).bind λ x=>(BL q.1).bind λ is=>Fp neg x (.list (I.pys is)) q.2
noncomputable def IB(neg:Bool)(ml mk:MA):ME:=λ ls hd=>(ml ls hd).bind λ p=>(mk ls p.2).bind λ q=>(BL p.1).bind λ is=>(BL q.1).bind λ js=>Fp neg (.list (I.pys is)) (.list (I.pys js)) q.2
noncomputable def rEN(K:PySem.W.Frag)(neg:Bool):R2:=λ x y H Q=>∃ d e,Rep K H d x/\Rep K H e y/\d.canLay0=true/\e.canLay0=true/\min d.depth e.depth <= 60/\Q (.bl (if neg then !PyData.eqv d e else PyData.eqv d e)) H
theorem IT{ρ:List Addr}{H:Hp}{a:Addr}{xs:List V}{ds:List D}{is:List I}(ea:H a=some (.lst xs))(r:RDs K ρ H ds xs)(e:BL ds=some is):Rep K H (.list (I.pys is)) (.ref a):=by
  rw[Ft e]at r
  simp only[Rep]
  exact⟨a,xs,rfl,SqL.of ea,r.is.rep⟩
theorem Ql{neg:Bool}{ta tb:TE}{ma:ME}{ml:MA}(ha:RE K ta ma)(hb:RN K tb ml):RE K (tOp (rEN K neg) ta tb) (Fg neg ma ml):=by
  intro ρ σ H hd ls Q d hd' hR hL hm hQ
  obtain⟨⟨d1,h1⟩,e1,hm⟩:=Option.bind_eq_some_iff.mp hm
  obtain⟨⟨d2,h2⟩,e2,hm⟩:=Option.bind_eq_some_iff.mp hm
  obtain⟨x,e3,hm⟩:=Option.bind_eq_some_iff.mp hm
  obtain⟨is,e4,hm⟩:=Option.bind_eq_some_iff.mp hm
  unfold Fp at hm
  split at hm
  . next c=>
    cases hm
    refine ha ρ σ H hd ls _ d1 h1 hR hL e1 λ ρ1 H1 v x1 R1 r1=>?_
    refine hb ρ1 σ H1 h1 ls _ d2 _ R1 (hL.ext hR x1) e2 λ ρ2 H2 a xs x2 R2 na oa ea r2=>?_
    exact⟨_,_,FI R2 (r1.ext R1 x2) e3,IT ea r2 e4,c.1,c.2.1,c.2.2,hQ ρ2 H2 _ (x1.trans R1 x2) R2 (by simp[RD,RI])⟩
  . cases hm
theorem Qk{neg:Bool}{ta tb:TE}{ml mk:MA}(ha:RN K ta ml)(hb:RN K tb mk):RE K (tOp (rEN K neg) ta tb) (IB neg ml mk):=by
  intro ρ σ H hd ls Q d hd' hR hL hm hQ
  obtain⟨⟨d1,h1⟩,e1,hm⟩:=Option.bind_eq_some_iff.mp hm
  obtain⟨⟨d2,h2⟩,e2,hm⟩:=Option.bind_eq_some_iff.mp hm
  obtain⟨is,e4,hm⟩:=Option.bind_eq_some_iff.mp hm
  obtain⟨js,e3,hm⟩:=Option.bind_eq_some_iff.mp hm
  unfold Fp at hm
  split at hm
  . next c=>
    cases hm
    refine ha ρ σ H hd ls _ d1 h1 hR hL e1 λ ρ1 H1 a xs x1 R1 na oa ea r1=>?_
    refine hb ρ1 σ H1 h1 ls _ d2 _ R1 (hL.ext hR x1) e2 λ ρ2 H2 b ys x2 R2 nb ob eb r2=>?_
    exact⟨_,_,IT (x2.keep a _ ea oa nt) (r1.ext R1 x2) e4,IT eb r2 e3,c.1,c.2.1,c.2.2,hQ ρ2 H2 _ (x1.trans R1 x2) R2 (by simp[RD,RI])⟩
  . cases hm
end
theorem NI(K:PySem.W.Frag){X:Cx}(hu:X.A.units + 64 < cLine)(hK:X.K=K:=by rfl):OpR X (compareOp .NotEq) (rEN K true):=Ia K hu hK
section
variable(K:PySem.W.Frag){X:Cx}{a b e:Expr}{ta tb te:TE}{ma mb me:ME}{m mk:MA}{pos:Pos}{op:CmpOp}{neg:Bool}
theorem N7(ha:QN K X a ta m)(hb:QE K X b tb mb)(hs:Ip b:=by exact λ _ _=>rfl)(hK:X.K=K:=by rfl):QE K X (.Subscript a b pos) (tOp (JM K) ta tb) (HL m mb):=⟨Pm ((KN K hK).or (LG K hK)) ha.p hb.p hs,T2 ha.r hb.r⟩
theorem Qt(ho:OpR X (compareOp op) (rEN K neg))(ha:QE K X a ta ma)(hb:QN K X b tb m)(hm:behindInMarks op b=false:=by first|exact FK _|rfl):QT K X (.Compare a [op] [b] pos) (Em (tOp (rEN K neg) ta tb)) (AT (Fg neg ma m)):=⟨Gb ho ha.p hb.p hm,DE (Ql ha.r hb.r)⟩
theorem Qs(ho:OpR X (compareOp op) (rEN K neg))(ha:QN K X a ta m)(hb:QN K X b tb mk)(hm:behindInMarks op b=false:=by first|exact FK _|rfl):QT K X (.Compare a [op] [b] pos) (Em (tOp (rEN K neg) ta tb)) (AT (IB neg m mk)):=⟨Gb ho ha.p hb.p hm,DE (Qk ha.r hb.r)⟩
end
end L2
namespace L2
open PySem PySem.Spec PyProof.Rows
noncomputable def CH(lo:Int):Nat->List V
  | 0=>[]
  | n + 1=>.int lo :: CH (lo + 1) n
theorem Lu(lo:Int)(n:Nat):(CH lo n).length=n:=by
  induction n generalizing lo with
  | zero=>rfl
  | succ n ih=>simp[CH,ih]
theorem Jx{K:PySem.W.Frag}{ρ:List Addr}{H:Hp}(lo:Int)(n:Nat):RDs K ρ H (AQ lo n) (CH lo n):=by
  induction n generalizing lo with
  | zero=>simp[AQ,CH,RDs]
  | succ n ih=>exact .cons (by simp[RD,RI]) (ih _)
theorem Hs{lo:Int}:∀ {n:Nat} {us:List Value},us.length=n->(∀ (j:Nat) (v:Value),us[j]? = some v->∃ t,v=.int (lo + j * 1) t)->Vals (CH lo n) us
  | 0,us,h,_=>by
    have:us=[]:=List.length_eq_zero_iff.mp h
    subst this;exact .nil
  | n + 1,[],h,_=>by simp at h
  | n + 1,u :: us,h,k=>by
    obtain⟨t,e⟩:=k 0 u rfl
    refine .cons ⟨t,by rw[e];simp⟩ (Hs (by simpa using h) λ j v q=>?_)
    obtain⟨t',e'⟩:=k (j + 1) v (by simpa using q)
    exact⟨t',by rw[e'];congr 1;push_cast;omega⟩
section
variable{prog:Program}{w:World}{A:Around}{E:Value->Shared->Prop}{s:Shared}
end
noncomputable def Ky:List V->Hp->VK->Prop:=λ xs H Q=>∃ j:Int,xs=[.int j]/\∀ p,H p=none->Q (.ref p) (upd H p (.rng 0 j))
noncomputable def Kx:List V->Hp->VK->Prop:=λ xs H Q=>∃ i j:Int,xs=[.int i,.int j]/\∀ p,H p=none->Q (.ref p) (upd H p (.rng i j))
noncomputable def K1:List V->Hp->VK->Prop:=λ xs H Q=>∃ a lo hi,xs=[.ref a]/\H a=some (.rng lo hi)/\(-(2 ^ 62) <= lo/\lo < 2 ^ 62/\-(2 ^ 62) <= hi/\hi < 2 ^ 62)/\(hi - lo).toNat <= 2 ^ 24/\∀ p,H p=none->Q (.ref p) (upd H p (.lst (CH lo (hi - lo).toNat)))
section
variable{X:Cx}
theorem call_rng1:CallR X (.type "range") Ky:=by
  intro pins s σ H xs us Q I r h
  obtain⟨j,rfl,q⟩:=h
  obtain⟨u,rfl,t,rfl⟩:=Cf r
  exact call_range_1 ⟨.ref s.heap.objs.size,_,I.laid (a:=s.heap.objs.size) (o:=.rng 0 j) (λ b o e=>Heap.get?_push_of_some _ e) (Nat.le_refl _) ⟨_,_,_,Heap.get?_push_size _ rfl⟩,rfl,q _ (I.hok.fresh (Nat.le_refl _))⟩
theorem Np:CallR X (.type "range") Kx:=by
  intro pins s σ H xs us Q I r h
  obtain⟨i,j,rfl,q⟩:=h
  obtain⟨u,v,rfl,⟨t,rfl⟩,⟨t',rfl⟩⟩:=Pa r
  exact call_range_2 ⟨.ref s.heap.objs.size,_,I.laid (a:=s.heap.objs.size) (o:=.rng i j) (λ b o e=>Heap.get?_push_of_some _ e) (Nat.le_refl _) ⟨_,_,_,Heap.get?_push_size _ rfl⟩,rfl,q _ (I.hok.fresh (Nat.le_refl _))⟩
theorem Uh{lo hi:Int}:Builtin.Range.rangeSize lo hi 1=((hi - lo).toNat:Nat):=by rw[rangeSize_one];split <;> omega
theorem MD{lo:Int}{n:Nat}{acc:Array Value}(it:ItemsOf (λ i v=>∃ t,v=.int (lo + i * 1) t) acc n):Vals (CH lo n) acc.toList:=Hs (by simpa using it.1) λ j v q=>it.2 j v (by simpa using q)
theorem MY(hc:X.calm=true):CallR X (.type "list") K1:=by
  intro pins s σ H xs us Q I r h
  obtain⟨a,lo,hi,rfl,ha,⟨b1,b2,b3,b4⟩,hz,q⟩:=h
  obtain⟨u,rfl,ru⟩:=Cf r
  cases ru
  obtain⟨t,u,v,hr⟩:∃ t u v,s.heap.get? a=some { cls:=.type "range",data:=.fields #[.int lo t,.int hi u,.int 1 v] }:=I.hok a _ ha
  refine call_list_range (I.ok.hd hc) hr (small_one b1 b2 b3 b4) Uh hz λ g tk acc c' kp e it=>?_
  exact⟨.ref s.heap.objs.size,_,I.laid (t':=tk) (o:=.lst _) kp (Nat.le_refl _) ⟨by rw[Lu,sizeLine_eq];omega,acc.toList,c',MD it,by simpa using e⟩,rfl,q _ (I.hok.fresh (Nat.le_refl _))⟩
end
section
variable{K:PySem.W.Frag}
open Classical in
noncomputable def GH(m:MA):MA:=λ ls hd=>(m ls hd).bind λ p=>match p.1 with
  | [.im (.int j)]=>if JK j then some (AQ 0 j.toNat,p.2)else none
  | [.im (.int i),.im (.int j)]=>if Pd i j then some (AQ i (j - i).toNat,p.2)else none
  | _=>none
noncomputable def N2:List V->Hp->VK->Prop:=λ xs H Q=>Ky xs H Q ∨ Kx xs H Q
theorem OT{t:TA}{m:MA}(h:RA K t m):RN K (tCB K1 (C1 (tCB N2 t) CT)) (GH m):=by
  intro ρ σ H hd ls Q d hd' hR hL hm hQ
  obtain⟨⟨d1,h1⟩,e1,hm⟩:=Option.bind_eq_some_iff.mp hm
  dsimp only at hm
  refine h ρ σ H hd ls _ d1 h1 hR hL e1 λ ρ1 H1 v x1 R1 r1=>?_
  split at hm
  . next j=>
    split at hm
    . next c=>
      have c:j < 2 ^ 24/\-(2 ^ 62) <= j:=c
      cases hm
      simp only[RDs,RD,RI]at r1
      obtain⟨x,r,rfl,rfl,rfl⟩:=r1
      refine .inl ⟨j,rfl,λ p hp=>⟨p,0,j,rfl,AW,⟨by decide,by decide,c.2,by omega⟩,by omega,λ l hl=>?_⟩⟩
      obtain⟨R2,x2⟩:=R1.hid (ho:=.rng 0 j) hp
      obtain⟨R3,x3⟩:=R2.hid (ho:=.lst (CH 0 (j - 0).toNat)) hl
      refine hQ ρ1 _ l (CH 0 (j - 0).toNat) ((x1.trans R1 x2).trans R2 x3) R3 ((x1.trans R1 x2).none hR hl R2) (R2.out hl) AW ?_
      rw[Int.sub_zero];exact Jx 0 _
    . cases hm
  . next i j=>
    split at hm
    . next c=>
      cases hm
      simp only[RDs,RD,RI]at r1
      obtain⟨x,r,rfl,rfl,y,r2,rfl,rfl,rfl⟩:=r1
      refine .inr ⟨i,j,rfl,λ p hp=>⟨p,i,j,rfl,AW,⟨c.1.1,c.1.2,c.2.1.1,c.2.1.2⟩,c.2.2,λ l hl=>?_⟩⟩
      obtain⟨R2,x2⟩:=R1.hid (ho:=.rng i j) hp
      obtain⟨R3,x3⟩:=R2.hid (ho:=.lst (CH i (j - i).toNat)) hl
      exact hQ ρ1 _ l (CH i (j - i).toNat) ((x1.trans R1 x2).trans R2 x3) R3 ((x1.trans R1 x2).none hR hl R2) (R2.out hl) AW (Jx i _)
    . cases hm
  . cases hm
noncomputable def V1(m:MA):ME:=λ ls hd=>(GH m ls hd).bind λ p=>some (B4 p.1,p.2)
theorem IZ:∀ {xs ys:List Int},xs.Perm ys->xs.Pairwise (· <= ·)->ys.Pairwise (· <= ·)->xs=ys:=λ {xs ys} p a b=>
  p.eq_of_pairwise (le:=(· <= ·)) (λ _ _ _ _ h1 h2=>Int.le_antisymm h1 h2) a b
noncomputable def Eo(xs:List Int):List Int:=xs.mergeSort (λ a b=>decide (a <= b))
theorem Hl(xs:List Int):(Eo xs).Perm xs:=List.mergeSort_perm ..
theorem G7(xs:List Int):(Eo xs).Pairwise (· <= ·):=by
  have:=List.pairwise_mergeSort (le:=λ a b:Int=>decide (a <= b)) (by intro a b c h1 h2;simp at *;omega) (by intro a b;simp;omega) xs
  exact this.imp (by simp)
noncomputable def EM(m:MI):MA:=λ ls hd=>(m ls hd).bind λ p=>(BW p.1.1).bind λ ns=>if ns.length < 64 then some ((Eo ns).map λ i=>.im (.int i),p.2)else none
theorem Lo{t:TE}{m:MI}(h:RRw K false t m):RN K (tCB (IW K) (C1 t CT)) (EM m):=by
  intro ρ σ H hd ls Q d hd' hR hL hm hQ
  obtain⟨⟨⟨d1,g1⟩,h1⟩,e1,hm⟩:=Option.bind_eq_some_iff.mp hm
  obtain⟨ns,e2,hm⟩:=Option.bind_eq_some_iff.mp hm
  split at hm
  . next c=>
    cases hm
    refine h ρ σ H hd ls _ d1 g1 _ hR hL e1 λ ρ1 H1 a x1 R1 G1 S1=>?_
    obtain⟨xs,q,r⟩:=S1 ρ1 H1 _ .refl R1 G1
    have e3:d1=ns.map λ i=>.im (.int i):=HV e2
    rw[e3]at r
    have:=IU r
    subst this
    refine⟨a,ns,rfl,q,c,λ p ns' hp pm pw=>?_⟩
    have:ns'=Eo ns:=IZ (pm.trans (Hl ns).symm) pw (G7 ns)
    subst this
    obtain⟨R2,x2⟩:=R1.hid (ho:=.lst ((Eo ns).map V.int)) hp
    exact hQ ρ1 _ p _ (x1.trans R1 x2) R2 (x1.none hR hp R1) (R1.out hp) AW FO
  . cases hm
end
section
variable(K:PySem.W.Frag){X:Cx}{a b e:Expr}{ta tb te:TE}{me:ME}{m:MA}{t:TA}{p p2 pos pos2:Pos}{es:List Expr}
theorem K5(hm:X.mg "list"=none)(hm2:X.mg "range"=none)(ha:QA K X (a :: es) t m)(hc:X.calm=true:=by rfl)(hg:Gl X "list":=by rfl)(hg2:Gl X "range":=by rfl)(he2:starEach (a :: es) X.env=(false,eval a X.env) :: starEach es X.env:=by rfl)(hpl:(backTo pos2 (starEach es X.env)).any (·.1)=false:=by rfl)
    (he:starEach [.Call (.Name "range" p2) (a :: es) [] pos2] X.env=[(false,eval (.Call (.Name "range" p2) (a :: es) [] pos2) X.env)]:=by rfl) :
    QN K X (.Call (.Name "list" p) [.Call (.Name "range" p2) (a :: es) [] pos2] [] pos) (tCB K1 (C1 (tCB N2 t) CT)) (GH m):=
  ⟨Ds (MY hc) hg hm LR (Ci (Ds (call_rng1.or Np) hg2 hm2 boot_range ha.p (by decide) (by decide) he2 hpl) DQ he) (by decide) (by decide) he rfl,OT ha.r⟩
theorem M0{mi:MI}(hm:X.mg "sorted"=none)(ha:QR K false X e te mi)(hg:Gl X "sorted":=by rfl)(he:starEach [e] X.env=[(false,eval e X.env)]:=by rfl)(hK:X.K=K:=by rfl):QN K X (.Call (.Name "sorted" p) [e] [] pos) (tCB (IW K) (C1 te CT)) (EM mi):=
  ⟨EW (KU K hK) hg hm J7 (Ci ha.p DQ he) (by decide) (by decide) he rfl,Lo ha.r⟩
end
end L2
namespace L2
structure BltA(mg:PySem.Str->Option PySem.Value):Prop where
  list:mg "list"=none
  tuple:mg "tuple"=none
  len:mg "len"=none
  range:mg "range"=none
  repr:mg "repr"=none
  sum:mg "sum"=none
  min:mg "min"=none
  max:mg "max"=none
  abs:mg "abs"=none
  all:mg "all"=none
  any:mg "any"=none
  sorted:mg "sorted"=none
  zip:mg "zip"=none
  isinstance:mg "isinstance"=none
  int:mg "int"=none
  bool:mg "bool"=none
  str:mg "str"=none
  set:mg "set"=none
  enumerate:mg "enumerate"=none
  reversed:mg "reversed"=none
  dict:mg "dict"=none
end L2
namespace L2
open PySem PySem.Spec PyProof.Rows
section
variable{ls:Ls}{hd:Hd}{a b c:MS}{ma mb mc:ME}{ta tb:MT}{m m1 m2:MA}{n:MG}{ns:MGs}{d e:D}
@[simp] theorem UB:AF a b ls hd=(a ls hd).bind λ p=>match p.1 with
  | .nx ls1=>b ls1 p.2
  | f=>some (f,p.2):=rfl
@[simp] theorem Vv:BD ls hd=some (.nx ls,hd):=rfl
@[simp] theorem W0:Bx ma ls hd=(ma ls hd).bind λ p=>some (.nx ls,p.2):=rfl
@[simp] theorem WU:Am ma ls hd=(ma ls hd).bind λ p=>some (.rt p.1,p.2):=rfl
@[simp] theorem Vq:V2 ls hd=some (.rt (.im .non),hd):=rfl
@[simp] theorem Vg:Tw ls hd=some (.bk ls,hd):=rfl
@[simp] theorem W4:V8 ls hd=some (.ct ls,hd):=rfl
@[simp] theorem Wb:BX ta a b ls hd=(ta ls hd).bind λ p=>if p.1=true then a ls p.2 else b ls p.2:=rfl
@[simp] theorem Ni:E6 ma n ls hd=(ma ls hd).bind λ p=>(n p.1 ls p.2).map λ ls'=>(.nx ls',p.2):=rfl
@[simp] theorem S3(i:Nat):AN i d ls hd=some (ls.set i (some d)):=rfl
@[simp] theorem Vs(k:Nat):Cv k ns d ls hd=(Ad d).bind λ ds=>if ds.length=k then ns ds ls hd else none:=rfl
@[simp] theorem Vc(d:D)(ds:List D):Ax n ns (d :: ds) ls hd=(n d ls hd).bind λ ls1=>ns ds ls1 hd:=rfl
@[simp] theorem Vu:Cw [] ls hd=some ls:=rfl
@[simp] theorem UD(ix:List Nat):Cj ix m ls hd=(m ls hd).bind λ p=>if p.1.length=ix.length then some (.nx ((ix.zip p.1).foldl (λ l q=>l.set q.1 (some q.2)) ls),p.2)else none:=rfl
@[simp] theorem Vr(i j k:Nat):Gc i j k m ls hd=Cj [k,j,i] (λ ls hd=>(m ls hd).map λ p=>(p.1.reverse,p.2)) ls hd:=rfl
@[simp] theorem Ng(i:Nat):A0 i ls hd=match ls[i]? with
  | some (some d)=>some (d,hd)
  | _=>none:=rfl
@[simp] theorem XT(i:I):mC i ls hd=some (.im i,hd):=rfl
@[simp] theorem X4(f:D->D->Hd->Option (D × Hd)):mOp f ma mb ls hd=(ma ls hd).bind λ p=>(mb ls p.2).bind λ q=>f p.1 q.1 q.2:=rfl
@[simp] theorem Wf:Ed ta tb ls hd=(ta ls hd).bind λ p=>if p.1=true then tb ls p.2 else some (false,p.2):=rfl
@[simp] theorem X2:mOr ta tb ls hd=(ta ls hd).bind λ p=>if p.1=true then some (true,p.2)else tb ls p.2:=rfl
@[simp] theorem WW:GI ta ls hd=(ta ls hd).bind λ p=>some (!p.1,p.2):=rfl
@[simp] theorem U8:Cy ma ls hd=(ma ls hd).bind λ p=>(E1 p.2 p.1).map (·,p.2):=rfl
@[simp] theorem S0:AT ma ls hd=(ma ls hd).bind λ p=>match p.1 with
  | .im (.bl b)=>some (b,p.2)
  | _=>none:=rfl
@[simp] theorem X5:mIf ta ma mb ls hd=(ta ls hd).bind λ p=>if p.1=true then ma ls p.2 else mb ls p.2:=rfl
@[simp] theorem W7:Gh ma mb ls hd=(AT ma ls hd).bind λ p=>if p.1=true then mb ls p.2 else some (.im (.bl false),p.2):=rfl
@[simp] theorem WV:KJ ma mb ls hd=(AT ma ls hd).bind λ p=>if p.1=true then some (.im (.bl true),p.2)else mb ls p.2:=rfl
@[simp] theorem Vt:V3 ma ls hd=(AT ma ls hd).bind λ p=>some (.im (.bl (!p.1)),p.2):=rfl
@[simp] theorem WX:A7 ls hd=some ([],hd):=rfl
@[simp] theorem W5:A2 ma m ls hd=(ma ls hd).bind λ p=>(m ls p.2).bind λ q=>some (p.1 :: q.1,q.2):=rfl
open Classical in
@[simp] theorem WQ:BT m ls hd=(m ls hd).bind λ p=>if BU p.1.length then some (B4 p.1,p.2)else none:=rfl
open Classical in
@[simp] theorem WZ:C6 m ls hd=(m ls hd).bind λ p=>if BU p.1.length then some (p.1,p.2)else none:=rfl
@[simp] theorem WY:B1 m ls hd=(m ls hd).bind λ p=>some (.mu p.2.length,p.2 ++ [.lst p.1]):=rfl
@[simp] theorem UE:HK ma ls hd=(ma ls hd).bind λ p=>match p.1 with
  | .im (.int i)=>some (.im (.int (-i)),p.2)
  | _=>none:=rfl
@[simp] theorem Wa(neg:Bool):Ez neg ma ls hd=(ma ls hd).bind λ p=>some (.im (.bl (match p.1 with
  | .im .non=>!neg
  | _=>neg)),p.2):=rfl
@[simp] theorem X6(g:Int->Int->Option I)(i j:Int):fI g (.im (.int i)) (.im (.int j)) hd=(g i j).map (.im ·,hd):=rfl
@[simp] theorem Vz(f g:D->D->Hd->Option (D × Hd)):Gm f g d e hd=match f d e hd with
  | some z=>some z
  | none=>g d e hd:=rfl
@[simp] theorem We(neg:Bool)(i j:Int):FB neg (.im (.int i)) (.im (.int j)) hd=some (.im (.bl (if neg then !decide (i=j)else decide (i=j))),hd):=by simp[FB,scI,Jn]
@[simp] theorem Wd(neg:Bool)(i j:Str):FB neg (.im (.str i)) (.im (.str j)) hd=some (.im (.bl (if neg then !decide (i=j)else decide (i=j))),hd):=by simp[FB,scI,Jn]
@[simp] theorem VG(i:Int):gIx d (.im (.int i)) hd=(Ar hd d).bind λ ds=>(atI ds i).map (·,hd):=rfl
@[simp] theorem W3:VB d e hd=(Il hd d).bind λ kvs=>(GM e).bind λ k=>(SM kvs k).map (·,hd):=rfl
@[simp] theorem X7(f:List D->Hd->Option (D × Hd)):mCB f m ls hd=(m ls hd).bind λ p=>f p.1 p.2:=rfl
@[simp] theorem VH(tp:Bool)(g:List D->Option D):f1 tp g [d] hd=((if tp then Ar hd d else Av hd d)).bind λ ds=>(g ds).map (·,hd):=rfl
@[simp] theorem UJ(g:List D->Option D):E5 g m ls hd=(m ls hd).bind λ p=>(g p.1).map (·,p.2):=rfl
@[simp] theorem VF(f:D->List D->Hd->Option (D × Hd)):mMt f ma m ls hd=(ma ls hd).bind λ p=>match Av p.2 p.1 with
  | some _=>(m ls p.2).bind λ q=>f p.1 q.1 q.2
  | none=>none:=rfl
@[simp] theorem Vx(i j:Int):Pu [.im (.int i),.im (.int j)] hd=some (.im (.int (if j > i then j else i)),hd):=rfl
@[simp] theorem Vw(i j:Int):Pt [.im (.int i),.im (.int j)] hd=some (.im (.int (if j < i then j else i)),hd):=rfl
@[simp] theorem Wg(i:Int):KP [.im (.int i)] hd=some (.im (.int (if i < 0 then -i else i)),hd):=rfl
@[simp] theorem UF:HL m ma ls hd=(m ls hd).bind λ p=>(ma ls p.2).bind λ q=>match q.1 with
  | .im (.int i)=>(atI p.1 i).map (·,q.2)
  | _=>none:=rfl
@[simp] theorem UG:Dg ma ls hd=(ma ls hd).bind λ p=>(Ad p.1).map λ ds=>((ds,[]),p.2):=rfl
@[simp] theorem UI:Tu m ls hd=(m ls hd).map λ p=>((p.1,[]),p.2):=rfl
@[simp] theorem Nh:CD ma ls hd=(ma ls hd).bind λ p=>match p.1 with
  | .mu n=>match p.2[n]? with
    | some (.lst ds)=>some ((ds,[(n,ds)]),p.2)
    | _=>none
  | .ro ns=>some ((ns.map λ n=>.im (.int n),[]),p.2)
  | _=>none:=rfl
open Classical in
@[simp] theorem UH:Eb m ls hd=(m ls hd).bind λ p=>match p.1 with
  | [.im (.int j)]=>if G8 j then some ((AQ 0 j.toNat,[]),p.2)else none
  | _=>none:=rfl
open Classical in
@[simp] theorem S5:Gf m ls hd=(m ls hd).bind λ p=>match p.1 with
  | [.im (.int i),.im (.int j)]=>if Lm i j then some ((AQ i (j - i).toNat,[]),p.2)else none
  | _=>none:=rfl
@[simp] theorem Wc(mi:MI):Ck mi n a ls hd=(mi ls hd).bind λ p=>DT n a p.1.2 p.1.1 ls p.2:=rfl
open Classical in
@[simp] theorem W6(k:Nat)(ix:List Nat)(mi:MI):BP k ix mi n ta ma ls hd=(mi ls hd).bind λ p=>if BU p.1.1.length then B8 n ta ma p.1.2 p.1.1 (Dl k ix ls) p.2 else none:=rfl
@[simp] theorem WN:CN ls hd=some (true,hd):=rfl
@[simp] theorem Vf(F:List D->Hd->Option (D × Hd)):Cc F m ls hd=(m ls hd).bind λ p=>F p.1 p.2:=rfl
@[simp] theorem VU:CL ls hd=some (none,hd):=rfl
@[simp] theorem S2:Dj ma ls hd=(ma ls hd).bind λ p=>match p.1 with
  | .im (.int i)=>some (some i,p.2)
  | _=>none:=rfl
@[simp] theorem Vy:V4 ma ls hd=(ma ls hd).bind λ p=>(Ar p.2 p.1).map (·,p.2):=rfl
@[simp] theorem Vd:IA m ls hd=m ls hd:=rfl
@[simp] theorem UA(ml mh:MO1):Ff ma ml mh ls hd=(ma ls hd).bind λ p=>(ml ls p.2).bind λ l=>(mh ls l.2).bind λ h=>(Av h.2 p.1).bind λ ds=>some (DV ds l.1 h.1,h.2):=rfl
@[simp] theorem U9(ml mh:MO1):KH ma ml mh ls hd=(ma ls hd).bind λ p=>(ml ls p.2).bind λ l=>(mh ls l.2).bind λ h=>(Ad p.1).bind λ ds=>if ¬ (HT.sIx ds.length 0 l.1=0/\HT.sIx ds.length ds.length h.1=ds.length)then some (B4 (DV ds l.1 h.1),h.2)else none:=rfl
@[simp] theorem Vp:V1 m ls hd=(GH m ls hd).bind λ p=>some (B4 p.1,p.2):=rfl
open Classical in
@[simp] theorem UC:GH m ls hd=(m ls hd).bind λ p=>match p.1 with
  | [.im (.int j)]=>if JK j then some (AQ 0 j.toNat,p.2)else none
  | [.im (.int i),.im (.int j)]=>if Pd i j then some (AQ i (j - i).toNat,p.2)else none
  | _=>none:=rfl
@[simp] theorem VS(mi:MI):EM mi ls hd=(mi ls hd).bind λ p=>(BW p.1.1).bind λ ns=>if ns.length < 64 then some ((Eo ns).map λ i=>.im (.int i),p.2)else none:=rfl
@[simp] theorem W2(ms:List (ME × ME)):V5 ms ls hd=(FL ms ls hd).bind λ p=>if p.1.length <= 15 then some (.mu p.2.length,p.2 ++ [.dic (NO [] p.1)])else none:=rfl
@[simp] theorem VT:FL [] ls hd=some ([],hd):=rfl
@[simp] theorem Vb(r:List (ME × ME)):FL ((ma,mb) :: r) ls hd=(ma ls hd).bind λ p=>(mb ls p.2).bind λ q=>(FL r ls q.2).bind λ z=>(GM p.1).map λ k=>((k,q.1) :: z.1,z.2):=rfl
open Classical in
@[simp] theorem W1:V6 ma mb mc ls hd=(mc ls hd).bind λ p=>(ma ls p.2).bind λ q=>(mb ls q.2).bind λ r=>(GM r.1).bind λ k=>match q.1 with
  | .mu n=>match r.2[n]? with
    | some (.dic kvs)=>if Ev kvs.length then some (.nx ls,r.2.set n (.dic (On kvs k p.1)))else none
    | _=>none
  | _=>none:=rfl
@[simp] theorem S4:EF ma mb mc ls hd=(mc ls hd).bind λ p=>(ma ls p.2).bind λ q=>(mb ls q.2).bind λ r=>match q.1,r.1 with
  | .mu n,.im (.int i)=>match r.2[n]? with
    | some (.lst ds)=>(ixN ds.length i).map λ j=>(.nx ls,r.2.set n (.lst (ds.set j p.1)))
    | _=>none
  | _,_=>none:=rfl
@[simp] theorem W8(is:List I):Ad (.im (.tup is))=some (is.map .im):=rfl
@[simp] theorem Wm(ds:List D):Ad (.tm ds)=some ds:=rfl
@[simp] theorem Wo(k:Nat):Ad (.mu k)=none:=rfl
@[simp] theorem Wn(k:List Int):Ad (.ro k)=none:=rfl
@[simp] theorem WJ(is:List I):Ar hd (.im (.tup is))=some (is.map .im):=rfl
@[simp] theorem Wu(ds:List D):Ar hd (.tm ds)=some ds:=rfl
@[simp] theorem Ww(k:Nat):Ar hd (.mu k)=Av hd (.mu k):=rfl
@[simp] theorem Wv(k:List Int):Ar hd (.ro k)=some (k.map λ n=>.im (.int n)):=rfl
@[simp] theorem Wy(k:Nat):Av hd (.mu k)=match hd[k]? with
    | some (.lst ds)=>some ds
    | _=>none:=rfl
@[simp] theorem Wx(k:List Int):Av hd (.ro k)=some (k.map λ n=>.im (.int n)):=rfl
@[simp] theorem X8(k:Nat):Il hd (.mu k)=match hd[k]? with
    | some (.dic ds)=>some ds
    | _=>none:=rfl
@[simp] theorem X1(i:Int):GM (.im (.int i))=some (.inl i):=rfl
@[simp] theorem Wz(i:Str):GM (.im (.str i))=some (.inr i):=rfl
@[simp] theorem Wl:BL []=some []:=rfl
@[simp] theorem XA(i:I)(r:List D):BL (.im i :: r)=(BL r).map (i :: ·):=rfl
@[simp] theorem WK:BW []=some []:=rfl
@[simp] theorem WM(i:Int)(r:List D):BW (.im (.int i) :: r)=(BW r).map (i :: ·):=rfl
@[simp] theorem Wj:CO []=some []:=rfl
@[simp] theorem X9(i:Bool)(r:List D):CO (.im (.bl i) :: r)=(CO r).map (i :: ·):=rfl
@[simp] theorem Fd(is:List I):B4 (is.map .im)=.im (.tup is):=by simp[B4]
@[simp] theorem VR:B4 []=.im (.tup []):=rfl
@[simp] theorem Vo(i:I):B4 [.im i]=.im (.tup [i]):=rfl
@[simp] theorem Vn(i j:I):B4 [.im i,.im j]=.im (.tup [i,j]):=rfl
@[simp] theorem Vm(i j k:I):B4 [.im i,.im j,.im k]=.im (.tup [i,j,k]):=rfl
@[simp] theorem Vl(i j k l:I):B4 [.im i,.im j,.im k,.im l]=.im (.tup [i,j,k,l]):=rfl
@[simp] theorem Wi(w:Nat)(i:I):clD w (.im i)=true:=by simp[clD]
@[simp] theorem Wh(w n:Nat):clD w (.mu n)=decide (n < w):=by simp[clD]
@[simp] theorem Vh(w:Nat):BB w []=true:=by simp[BB]
@[simp] theorem Nn(w:Nat)(d:D)(ds:List D):BB w (d :: ds)=(clD w d && BB w ds):=by simp[BB]
@[simp] theorem Eg{α:Type}(x:α)(r:List α):atI (x :: r) 0=some x:=DH (j:=0) rfl
@[simp] theorem FD{α:Type}(x y:α)(r:List α):atI (x :: y :: r) 1=some y:=DH (j:=1) rfl
@[simp] theorem Ha{α:Type}(x y z:α)(r:List α):atI (x :: y :: z :: r) 2=some z:=DH (j:=2) rfl
theorem DW{α:Type}{xs:List α}{i:Int}{k:Nat}{x:α}(hi:i=k)(h:xs[k]? = some x):atI xs i=some x:=by subst hi;exact DH h
@[simp] theorem Dw:BU 0:=AZ (by decide)
@[simp] theorem Ef:BU 1:=AZ (by decide)
@[simp] theorem IM:BU 2:=AZ (by decide)
@[simp] theorem IL:BU 3:=AZ (by decide)
@[simp] theorem Nd:BU 4:=AZ (by decide)
@[simp] theorem Nc:BU 5:=AZ (by decide)
open Classical in
@[simp] theorem UK(k:Nat)(x:D):Bn (.mu k) [x] hd=match hd[k]? with
    | some (.lst ds)=>if Ev ds.length then some (.im .non,hd.set k (.lst (ds ++ [x])))else none
    | _=>none:=rfl
theorem Nu{F:List D->Hd->Option (D × Hd)}{ds:List D}{hd1 h2:Hd}{i:I}(h1:m ls hd=some (ds,hd1))(hc:BB 0 ds=true)(hF:F ds []=some (.im i,h2)):AI 0 F m ls hd=some (.im i,hd1):=by
  simp[AI,h1,hc,hF,fin]
theorem KZ{w:Nat}{F:List D->Hd->Option (D × Hd)}{ds:List D}{pre pre' rest g:Hd}{i:I}(hw:pre.length=w)(hw':pre'.length=w)(h1:m ls hd=some (ds,pre ++ rest))(hc:BB w ds=true)(hp:pre.all (clO w)=true)(hp':pre'.all (clO w)=true)(hF:F ds pre=some (.im i,pre' ++ g)):AI w F m ls hd=some (.im i,pre' ++ rest):=by
  subst hw
  have e1:(pre ++ rest).take pre.length=pre:=by simp
  have e2:(pre' ++ g).take pre.length=pre':=by rw[<- hw'];simp
  simp only[AI,h1,Option.bind_some,e1,hc,hp,hF,fin,e2,hp']
  simp
end
end L2
namespace L2
open PySem PySem.Spec PyProof.Rows
section
variable{prog:Program}{w:World}{A:Around}{R:Result->Shared->Prop}{s:Shared}{elt tg iter tg2 iter2:Expr}{ifs ifs2:List Expr}{scope:Scope}{pos:Pos}{it acc:Value}{env:Env}
end
end L2
namespace L2
open PySem PySem.Spec PyProof.Rows
section
variable{X:Cx}
end
end L2
namespace L2
open PySem PySem.Spec PyProof.Rows
open Classical in
noncomputable def mIn(k:Nat)(n:MG)(c:MT)(m:ME)(g:Gd):List D->Ls->Hd->Option (Ls × Hd)
  | [],ls,hd=>some (ls,hd)
  | d :: r,ls,hd=>(n d ls hd).bind λ ls1=>(c ls1 hd).bind λ p=>if p.1=true then(m ls1 p.2).bind λ q=>(Bn (.mu k) [q.1] q.2).bind λ z=>if GOk z.2 g then mIn k n c m g r ls1 z.2 else none else if GOk p.2 g then mIn k n c m g r ls1 p.2 else none
open Classical in
noncomputable def MC(k:Nat)(n:MG)(c:MT)(mi:MI)(n2:MG)(c2:MT)(m:ME)(g:Gd):List D->Ls->Hd->Option Hd
  | [],ls,hd=>some hd
  | d :: r,ls,hd=>(n d ls hd).bind λ ls1=>(c ls1 hd).bind λ p=>if p.1=true then(mi ls1 p.2).bind λ q=>(mIn k n2 c2 m q.1.2 q.1.1 ls1 q.2).bind λ z=>if GOk z.2 g then MC k n c mi n2 c2 m g r z.1 z.2 else none else if GOk p.2 g then MC k n c mi n2 c2 m g r ls1 p.2 else none
noncomputable def Tv(j:Nat)(ix:List Nat)(mi:MI)(n:MG)(c:MT)(mi2:MI)(n2:MG)(c2:MT)(m:ME):ME:=λ ls hd=>(mi ls hd).bind λ p=>(MC p.2.length n c mi2 n2 c2 m p.1.2 p.1.1 (Dl j ix ls) (p.2 ++ [.lst []])).map λ h=>(.mu p.2.length,h)
section
variable{K:PySem.W.Frag}{ρ:List Addr}{H:Hp}{hd:Hd}
end
end L2
namespace L2
open PySem PySem.Spec PyProof.Rows
open Classical in
noncomputable def HP(ma mb:ME):MA:=λ ls hd=>(ma ls hd).bind λ p=>(mb ls p.2).bind λ q=>match p.1,q.1 with
  | .mu i,.mu j=>match q.2[i]?,q.2[j]? with
    | some (.lst xs),some (.lst ys)=>if BU (xs.length + ys.length)then some (xs ++ ys,q.2)else none
    | _,_=>none
  | _,_=>none
theorem So{K:PySem.W.Frag}{ta tb:TE}{ma mb:ME}(ha:RE K ta ma)(hb:RE K tb mb):RN K (tOp Oi ta tb) (HP ma mb):=by
  intro ρ σ H hd ls Q d hd' hR hL hm hQ
  obtain⟨⟨d1,h1⟩,e1,hm⟩:=Option.bind_eq_some_iff.mp hm
  obtain⟨⟨d2,h2⟩,e2,hm⟩:=Option.bind_eq_some_iff.mp hm
  dsimp only at hm
  split at hm
  . next i j=>
    split at hm
    . next xs ys q1 q2=>
      split at hm
      . next c=>
        cases hm
        refine ha ρ σ H hd ls _ _ h1 hR hL e1 λ ρ1 H1 v x1 R1 r1=>?_
        refine hb ρ1 σ H1 h1 ls _ _ _ R1 (hL.ext hR x1) e2 λ ρ2 H2 u x2 R2 r2=>?_
        have r1':=r1.ext R1 x2
        simp only[RD]at r1' r2
        obtain⟨a,ka,rfl⟩:=r1'
        obtain⟨b,kb,rfl⟩:=r2
        obtain⟨vs,f1,f2⟩:=R2.lst ka q1
        obtain⟨us,f3,f4⟩:=R2.lst kb q2
        refine⟨a,b,vs,us,rfl,rfl,f1,f3,by rw[f2.len,f4.len];exact c,λ p hp=>?_⟩
        obtain⟨R3,x3⟩:=R2.hid (ho:=.lst (vs ++ us)) hp
        have x12:=x1.trans R1 x2
        exact hQ ρ2 _ p _ (x12.trans R2 x3) R3 (x12.none hR hp R2) (R2.out hp) AW ((f2.app f4).ext R2 x3)
      . cases hm
    . cases hm
  . cases hm
theorem K6(K:PySem.W.Frag){X:Cx}{a b:Expr}{pos:Pos}{ta tb:TE}{ma mb:ME}(ha:QE K X a ta ma)(hb:QE K X b tb mb):QN K X (.BinOp a .Add b pos) (tOp Oi ta tb) (HP ma mb):=⟨M3 To ha.p hb.p,So ha.r hb.r⟩
@[simp] theorem Ve(j:Nat)(ix:List Nat)(mi mi2:MI)(n n2:MG)(c c2:MT)(m:ME)(ls:Ls)(hd:Hd):Tv j ix mi n c mi2 n2 c2 m ls hd=(mi ls hd).bind λ p=>(MC p.2.length n c mi2 n2 c2 m p.1.2 p.1.1 (Dl j ix ls) (p.2 ++ [.lst []])).map λ h=>(.mu p.2.length,h):=rfl
end L2
namespace L2
open PySem PySem.Spec PyProof.Rows PySem.W
section
variable(r:Nat->Int)(n:Nat)
noncomputable def PWp{α:Type}:KasT α->(α->Prop)->Prop
  | .ret a,Q=>Q a
  | .ask i j k,Q=>i < n/\j < n/\PWp (k (decide (r i < r j))) Q
noncomputable def kv(p:Array Nat)(i:Nat):Int:=r (p.getD i 0)
noncomputable def STo(p:Array Nat)(m:Nat):Prop:=∀ i j,i <= j->j < m->kv r p i <= kv r p j
noncomputable def DTo(p:Array Nat)(m:Nat):Prop:=∀ i j,i <= j->j < m->kv r p j <= kv r p i
noncomputable def EqL(p:Array Nat)(m q:Nat):Prop:=∀ k,m - (q + 1) <= k->k < m->kv r p k=kv r p (m - 1)
noncomputable def PAr(p:Array Nat):Prop:=p.Perm (List.range n).toArray
end
section
variable{r:Nat->Int}{n:Nat}
theorem PWp.bind{α β:Type}{f:α->KasT β}{Q:β->Prop}:∀ {t:KasT α},PWp r n t (λ a=>PWp r n (f a) Q)->PWp r n (t.bind f) Q
  | .ret _,h=>h
  | .ask i j k,h=>⟨h.1,h.2.1,PWp.bind h.2.2⟩
theorem PWp.mono{α:Type}{Q Q':α->Prop}:∀ {t:KasT α},PWp r n t Q->(∀ a,Q a->Q' a)->PWp r n t Q'
  | .ret _,h,q=>q _ h
  | .ask i j k,h,q=>⟨h.1,h.2.1,PWp.mono h.2.2 q⟩
theorem PWp.wp{α:Type}{cmp:Nat->Nat->(Bool->Shared->Prop)->Shared->Prop}{P:Shared->Prop}{Q:α->Shared->Prop}(hc:∀ i j C s,i < n->j < n->P s->(∀ s',P s'->C (decide (r i < r j)) s')->cmp i j C s):∀ {t:KasT α} {s:Shared},PWp r n t (λ a=>∀ s,P s->Q a s)->P s->t.kasWp cmp Q s
  | .ret _,s,h,p=>h s p
  | .ask i j k,s,h,p=>hc i j _ s h.1 h.2.1 p λ s' p'=>PWp.wp hc h.2.2 p'
theorem PAr.size{p:Array Nat}(h:PAr n p):p.size=n:=by have:=h.size_eq;simpa using this
theorem PAr.lt{p:Array Nat}(h:PAr n p){i:Nat}(hi:i < n):p.getD i 0 < n:=by
  have hs:=h.size
  have hi':i < p.size:=by omega
  have:p[i] ∈ (List.range n).toArray:=h.mem_iff.mp (Array.getElem_mem hi')
  have e:p.getD i 0=p[i]:=by simp[Array.getD,hi']
  rw[e]
  simpa using this
theorem IG{p:Array Nat}{i j:Nat}(hj:j <= p.size)(k:Nat):kv r (kas_rev p i j) k=if i <= k/\k < j then kv r p (i + j - 1 - k)else kv r p k:=by
  unfold kv kas_rev
  simp only[Array.getD_eq_getD_getElem?]
  rw[getElem?_mirror_all hj]
  split <;> rfl
theorem PAr.rev{p:Array Nat}(h:PAr n p)(i j:Nat):PAr n (kas_rev p i j):=(mirror_perm _ _ _ _).trans h
theorem LF{p:Array Nat}{m q:Nat}(hj:m <= p.size)(hq:q + 1 <= m)(h:EqL r p m q)(k:Nat):kv r (kas_rev p (m - (q + 1)) m) k=kv r p k:=by
  rw[IG hj]
  split
  . next c=>rw[h _ (by omega) (by omega),h k c.1 c.2]
  . rfl
theorem Kb{p:Array Nat}(pa:PAr n p):∀ (f m:Nat),1 <= m->m + f <= n->STo r p m->PWp r n (kas_asc p f m) λ m'=>m <= m'/\m' <= m + f/\STo r p m'/\(m' < m + f->kv r p m' < kv r p (m' - 1))
  | 0,m,h1,hn,hs=>⟨Nat.le_refl _,Nat.le_refl _,hs,λ h=>by omega⟩
  | f + 1,m,h1,hn,hs=>by
    refine⟨pa.lt (by omega),pa.lt (by omega),?_⟩
    by_cases c:r (p.getD m 0) < r (p.getD (m - 1) 0)
    . rw[decide_eq_true c]
      exact⟨Nat.le_refl _,by omega,hs,λ _=>c⟩
    . rw[decide_eq_false c]
      refine(Kb pa f (m + 1) (by omega) (by omega) ?_).mono λ m' h=>⟨by omega,by omega,h.2.2.1,λ z=>h.2.2.2 (by omega)⟩
      intro i j hij hj
      by_cases e:j < m
      . exact hs i j hij e
      . have:j=m:=by omega
        subst this
        by_cases e2:i=j
        . subst e2;exact Int.le_refl _
        . have:=hs i (j - 1) (by omega) (by omega)
          have:kv r p (j - 1) <= kv r p j:=by unfold kv;omega
          omega
theorem HX{p:Array Nat}{m:Nat}(h1:1 <= m)(h:DTo r p m)(c:kv r p m <= kv r p (m - 1)):DTo r p (m + 1):=by
  intro i j hij hj
  by_cases e:j < m
  . exact h i j hij e
  . have:j=m:=by omega
    subst this
    by_cases e2:i=j
    . subst e2;exact Int.le_refl _
    . have:=h i (j - 1) (by omega) (by omega)
      omega
theorem Go:∀ (f:Nat) (p:Array Nat) (m q:Nat),PAr n p->1 <= m->q + 1 <= m->m + f <= n->DTo r p m->EqL r p m q ->
    PWp r n (kas_desc f p m q) λ z=>PAr n z.1/\m <= z.2.1/\z.2.1 <= m + f/\DTo r z.1 z.2.1/\EqL r z.1 z.2.1 z.2.2/\z.2.2 + 1 <= z.2.1
  | 0,p,m,q,pa,h1,hq,hn,hd,he=>⟨pa,Nat.le_refl _,Nat.le_refl _,hd,he,hq⟩
  | f + 1,p,m,q,pa,h1,hq,hn,hd,he=>by
    refine⟨pa.lt (by omega),pa.lt (by omega),?_⟩
    have sz:=pa.size
    by_cases c:r (p.getD m 0) < r (p.getD (m - 1) 0)
    . rw[decide_eq_true c]
      have c':kv r p m <= kv r p (m - 1):=by unfold kv;omega
      dsimp only
      rw[if_pos rfl]
      by_cases hq0:q > 0
      . rw[if_pos hq0]
        have sm:=LF (r:=r) (p:=p) (m:=m) (q:=q) (by omega) hq he
        refine(Go f _ (m + 1) 0 (pa.rev _ _) (by omega) (by omega) (by omega) ?_ ?_).mono λ z h=>⟨h.1,by omega,by omega,h.2.2.2⟩
        . have:=HX h1 hd c'
          intro i j a b
          rw[sm,sm];exact this i j a b
        . intro k a b
          have:k=m:=by omega
          subst this;rfl
      . rw[if_neg hq0]
        refine(Go f p (m + 1) 0 pa (by omega) (by omega) (by omega) (HX h1 hd c') ?_).mono λ z h=>⟨h.1,by omega,by omega,h.2.2.2⟩
        intro k a b
        have:k=m:=by omega
        subst this;rfl
    . rw[decide_eq_false c];dsimp only;rw[if_neg Bool.false_ne_true]
      refine⟨pa.lt (by omega),pa.lt (by omega),?_⟩
      by_cases d:r (p.getD (m - 1) 0) < r (p.getD m 0)
      . rw[decide_eq_true d]
        exact⟨pa,Nat.le_refl _,by show m <= m + (f + 1);omega,hd,he,hq⟩
      . rw[decide_eq_false d];dsimp only;rw[if_neg Bool.false_ne_true]
        have e:kv r p m=kv r p (m - 1):=by unfold kv;omega
        refine(Go f p (m + 1) (q + 1) pa (by omega) (by omega) (by omega) (HX h1 hd (by omega)) ?_).mono λ z h=>⟨h.1,by omega,by omega,h.2.2.2⟩
        intro k a b
        by_cases e2:k=m
        . subst e2;rfl
        . have:=he k (by omega) (by omega)
          have e3:m + 1 - 1=m:=rfl
          rw[e3];omega
noncomputable def Run(z:Nat × Array Nat)(r:Nat->Int)(n:Nat):Prop:=PAr n z.2/\1 <= z.1/\z.1 <= n/\STo r z.2 z.1
theorem Ja{p:Array Nat}{m:Nat}(pa:PAr n p)(h1:1 <= m)(hn:m <= n)(hd:DTo r p m):PWp r n (kas_tail3 m n p) λ z=>Run z r n:=by
  have sz:=pa.size
  have st:STo r (kas_rev p 0 m) m:=by
    intro i j a b
    rw[IG (by omega),IG (by omega),if_pos ⟨by omega,by omega⟩,if_pos ⟨by omega,by omega⟩]
    exact hd _ _ (by omega) (by omega)
  refine PWp.bind ((Kb (pa.rev 0 m) (n - m) m h1 (by omega) st).mono λ m' h=>?_)
  exact⟨pa.rev 0 m,by show 1 <= m';omega,by show m' <= n;omega,h.2.2.1⟩
theorem Gv{p:Array Nat}{m:Nat}(pa:PAr n p)(hn:m + 1 <= n)(hd:DTo r p (m + 1)):PWp r n (kas_descPart m n p) λ z=>Run z r n:=by
  refine PWp.bind ((Go (n - (m + 1)) p (m + 1) 0 pa (by omega) (by omega) (by omega) hd ?_).mono λ z h=>?_)
  . intro k a b
    have:k=m:=by omega
    subst this;rfl
  . obtain⟨a,b,c,d,e,g⟩:=h
    have sz:=a.size
    by_cases hq:z.2.2 > 0
    . rw[if_pos hq]
      have sm:=LF (r:=r) (p:=z.1) (m:=z.2.1) (q:=z.2.2) (by omega) g e
      exact Ja (a.rev _ _) (by omega) (by omega) λ i j x y=>by rw[sm,sm];exact d i j x y
    . rw[if_neg hq]
      exact Ja a (by omega) (by omega) d
theorem PK(h1:1 <= n):PWp r n (kas_count n (List.toArray (List.range n))) λ z=>Run z r n:=by
  have pa:PAr n (List.range n).toArray:=.refl _
  have sz:=pa.size
  refine PWp.bind ((Kb pa (n - 1) 1 (by omega) (by omega) λ i j a b=>?_).mono λ m h=>?_)
  . have:i=j:=by omega
    subst this;exact Int.le_refl _
  . obtain⟨a,b,c,d⟩:=h
    by_cases e:(m == n)=true
    . rw[if_pos e]
      have:m=n:=by simpa using e
      exact⟨pa,by show 1 <= m;omega,by show m <= n;omega,c⟩
    . rw[if_neg e]
      have hne:m ≠ n:=by simpa using e
      have dd:=d (by omega)
      by_cases h2:m > 1
      . rw[if_pos h2]
        refine⟨pa.lt (by omega),pa.lt (by omega),?_⟩
        by_cases g:r ((List.range n).toArray.getD 0 0) < r ((List.range n).toArray.getD (m - 1) 0)
        . rw[decide_eq_true g]
          exact⟨pa,by show 1 <= m;omega,by show m <= n;omega,c⟩
        . rw[decide_eq_false g];dsimp only;rw[if_neg Bool.false_ne_true]
          have g':kv r (List.range n).toArray (m - 1) <= kv r (List.range n).toArray 0:=by unfold kv;omega
          have eq:∀ k,k < m->kv r (List.range n).toArray k=kv r (List.range n).toArray 0:=λ k hk=>by
            have x1:=c 0 k (by omega) hk
            have x2:=c k (m - 1) (by omega) (by omega)
            omega
          have rv:∀ k,kv r (kas_rev (List.range n).toArray 0 m) k=kv r (List.range n).toArray k:=λ k=>by
            rw[IG (by omega)]
            split
            . next z=>rw[eq _ (by omega),eq k z.2]
            . rfl
          refine Gv (pa.rev 0 m) (by omega) λ i j x y=>?_
          rw[rv,rv]
          by_cases z:j < m
          . rw[eq i (by omega),eq j z];exact Int.le_refl _
          . have:j=m:=by omega
            subst this
            by_cases z2:i=j
            . subst z2;exact Int.le_refl _
            . rw[eq i (by omega)]
              have:=eq (j - 1) (by omega)
              omega
      . rw[if_neg h2]
        have:m=1:=by omega
        subst this
        refine Gv pa (by omega) λ i j x y=>?_
        by_cases z:i=j
        . subst z;exact Int.le_refl _
        . have:i=0:=by omega
          have:j=1:=by omega
          subst i j
          have:kv r (List.range n).toArray 1 < kv r (List.range n).toArray 0:=dd
          omega
theorem HG{p:Array Nat}{k:Nat}(pa:PAr n p)(hk:k < n)(hs:STo r p k):∀ (f l q:Nat),l <= q->q <= k->q - l <= f->(∀ i,i < l->kv r p i <= kv r p k)->(∀ i,q <= i->i < k->kv r p k < kv r p i) ->
    PWp r n (kas_place p k f l q) λ m=>m <= k/\(∀ i,i < m->kv r p i <= kv r p k)/\∀ i,m <= i->i < k->kv r p k < kv r p i
  | 0,l,q,a,b,c,d,e=>⟨by omega,d,λ i x y=>e i (by omega) y⟩
  | f + 1,l,q,a,b,c,d,e=>by
    unfold kas_place
    by_cases h:l >= q
    . rw[if_pos h]
      exact⟨by omega,d,λ i x y=>e i (by omega) y⟩
    . rw[if_neg h]
      refine⟨pa.lt (by omega),pa.lt (by omega),?_⟩
      by_cases g:r (p.getD k 0) < r (p.getD ((l + q) / 2) 0)
      . rw[decide_eq_true g];dsimp only;rw[if_pos rfl]
        have g':kv r p k < kv r p ((l + q) / 2):=g
        refine HG pa hk hs f l ((l + q) / 2) (by omega) (by omega) (by omega) d λ i x y=>?_
        have:=hs ((l + q) / 2) i x y
        omega
      . rw[decide_eq_false g];dsimp only;rw[if_neg Bool.false_ne_true]
        have g':kv r p ((l + q) / 2) <= kv r p k:=by unfold kv;omega
        refine HG pa hk hs f ((l + q) / 2 + 1) q (by omega) (by omega) (by omega) (λ i x=>?_) e
        have:=hs i ((l + q) / 2) (by omega) (by omega)
        omega
theorem J0{p:Array Nat}{k d:Nat}(hk:k < p.size)(hd:d <= k)(i:Nat):kv r (bubble p k d) i=if i=k - d then kv r p k else if k - d < i/\i <= k then kv r p (i - 1)else kv r p i:=by
  unfold kv
  simp only[Array.getD_eq_getD_getElem?]
  rw[getElem?_bubble hk d hd]
  split
  . rfl
  . split <;> rfl
theorem Nw:∀ (f:Nat) (p:Array Nat) (k:Nat),PAr n p->k + f=n->STo r p k->PWp r n (kas_bin f p k) λ z=>PAr n z/\STo r z n
  | 0,p,k,pa,e,hs=>⟨pa,by
                                  have:k=n:=by omega
                                  subst this;exact hs⟩
  | f + 1,p,k,pa,e,hs=>by
    have sz:=pa.size
    refine PWp.bind ((HG pa (by omega) hs k 0 k (by omega) (by omega) (by omega) (λ i h=>by omega) (λ i a b=>by omega)).mono λ m h=>?_)
    obtain⟨a,b,c⟩:=h
    refine Nw f _ (k + 1) ((bubble_perm _ _ _).trans pa) (by omega) λ i j x y=>?_
    rw[J0 (by omega) (by omega),J0 (by omega) (by omega)]
    have ek:k - (k - m)=m:=by omega
    rw[ek]
    repeat' split
    . exact Int.le_refl _
    . exact Int.le_of_lt (c _ (by omega) (by omega))
    . omega
    . exact b _ (by omega)
    . exact hs _ _ (by omega) (by omega)
    . omega
    . exact b _ (by omega)
    . exact hs _ _ (by omega) (by omega)
    . exact hs _ _ (by omega) (by omega)
theorem QD(h1:1 <= n):PWp r n (kas_sort n) λ p=>PAr n p/\STo r p n:=by
  refine PWp.bind ((PK h1).mono λ z h=>?_)
  obtain⟨a,b,c,d⟩:=h
  by_cases e:z.1 < n
  . rw[if_pos e]
    have:max z.1 1=z.1:=by omega
    rw[this]
    exact Nw _ _ _ a (by omega) d
  . rw[if_neg e]
    have:z.1=n:=by omega
    exact⟨a,this ▸ d⟩
end
end L2
namespace L2
open PySem PySem.Spec PyProof.Rows PySem.W
noncomputable def PairAt(h:Heap)(v:Value)(p:Int × Int):Prop:=∃ (x:Addr) (o:Obj) (t u:Tok) (k:Nat),v=.ref x/\h.get? x=some o/\o.cls=.type "tuple"/\o.data=.seq #[.int p.1 t,.int p.2 u] k
noncomputable def CC(p:Int × Int):Int:=p.1 * 4000000000 + p.2
noncomputable def pok(p:Int × Int):Prop:=-1000000000 <= p.1/\p.1 <= 1000000000/\-1000000000 <= p.2/\p.2 <= 1000000000
section
variable{prog:Program}{w:World}{A:Around}{E:Value->Shared->Prop}{s:Shared}
theorem Ro{x y:Value}{p q:Int × Int}{C:Bool->Shared->Prop}(hx:PairAt s.heap x p)(hy:PairAt s.heap y q)(op:pok p)(oq:pok q)(h:C (decide (CC p < CC q)) s) :
    wpAny (model prog w) A (keyLt' (tuples' true) x y) C E s:=by
  obtain⟨a,o,t,u,k,rfl,ho,hc,hd⟩:=hx
  obtain⟨a2,o2,t2,u2,k2,rfl,ho2,hc2,hd2⟩:=hy
  obtain⟨p1,p2⟩:=p
  obtain⟨q1,q2⟩:=q
  unfold pok at op oq
  unfold CC at h
  dsimp only at op oq h
  refine kat_lt ho hd ho2 hd2 ?_
  refine kat_cons (wpAny_eqBool_int ?_)
  by_cases e1:p1=q1
  . have b1:(p1 == q1)=true:=by simp[e1]
    rw[b1]
    refine kat_yes (kat_cons (wpAny_eqBool_int ?_))
    by_cases e2:p2=q2
    . have b2:(p2 == q2)=true:=by simp[e2]
      rw[b2]
      refine kat_yes (kat_nil ?_)
      have:decide (p1 * 4000000000 + p2 < q1 * 4000000000 + q2)=false:=decide_eq_false (by omega)
      rw[this]at h
      exact h
    . have b2:(p2 == q2)=false:=by simp[e2]
      rw[b2]
      refine kat_no (kat_one _ _ (lt_int ?_))
      have:decide (p1 * 4000000000 + p2 < q1 * 4000000000 + q2)=decide (p2 < q2):=decide_eq_decide.mpr (by omega)
      rw[this]at h
      exact h
  . have b1:(p1 == q1)=false:=by simp[e1]
    rw[b1]
    refine kat_no (oneLt_int ?_)
    have:decide (p1 * 4000000000 + p2 < q1 * 4000000000 + q2)=decide (p1 < q1):=decide_eq_decide.mpr (by omega)
    rw[this]at h
    exact h
theorem Kq{h:Heap}:∀ {vs:List Value} {ps:List (Int × Int)},vs.length=ps.length->(∀ (i:Nat) (v:Value) (p:Int × Int),vs[i]? = some v->ps[i]? = some p->PairAt h v p)->∃ fs,KatTups h vs fs/\fs.length=vs.length/\∀ f ∈ fs,∃ i t,f=.int i t
  | [],[],_,_=>⟨[],.nil,rfl,λ _ z=>by cases z⟩
  | v :: vs,p :: ps,hl,hp=>by
    obtain⟨fs,a,b,c⟩:=Kq (vs:=vs) (ps:=ps) (by simpa using hl) λ i v q e1 e2=>hp (i + 1) v q (by simpa using e1) (by simpa using e2)
    obtain⟨x,o,t,u,k,rfl,ho,hc,hd⟩:=hp 0 v p rfl rfl
    exact⟨.int p.1 t :: fs,.cons ho hc hd rfl a,by simp[b],λ f hf=>by
      rcases List.mem_cons.mp hf with rfl|hf
      . exact⟨_,_,rfl⟩
      . exact c f hf⟩
noncomputable def EN(vs:List Value)(ps:List (Int × Int))(out:List Value):Prop:=∃ zs:List (Value × (Int × Int)),zs.Perm (vs.zip ps)/\(zs.map λ z=>CC z.2).Pairwise (· <= ·)/\out=zs.map (·.1)
theorem Mq{vs:List Value}{ps:List (Int × Int)}(hl:vs.length=ps.length){p:Array Nat}(pa:PAr vs.length p)(hs:STo (λ i=>CC (ps.getD i (0,0))) p vs.length):EN vs ps (p.toList.map λ i=>vs.getD i Value.none):=by
  have sz:=pa.size
  refine⟨p.toList.map λ i=>(vs.getD i Value.none,ps.getD i (0,0)),?_,?_,by rw[List.map_map];rfl⟩
  . have e:vs.zip ps=(List.range vs.length).map λ i=>(vs.getD i Value.none,ps.getD i (0,0)):=by
      refine List.ext_getElem? λ i=>?_
      by_cases hi:i < vs.length
      . have hi2:i < ps.length:=by omega
        rw[(List.getElem?_zip_eq_some (z:=(vs[i],ps[i]))).mpr ⟨by simp[hi],by simp[hi2]⟩]
        simp[hi,hi2]
      . rw[List.getElem?_eq_none (by simp;omega),List.getElem?_eq_none (by simp;omega)]
    rw[e]
    have:=Array.perm_iff_toList_perm.mp pa
    simpa using this.map _
  . rw[List.map_map,List.pairwise_iff_getElem]
    intro i j hi hj hij
    simp only[List.length_map,Array.length_toList]at hi hj
    have:=hs i j (by omega) (by omega)
    unfold kv at this
    simpa [Array.getD,hi,hj]using this
theorem Ll{a:Addr}{vs:List Value}{ps:List (Int × Int)}{n:Nat}{P:PySem.Fin->Shared->Prop}(ho:s.heap.get? a=some (seqObj "list" vs.toArray n))(hl:vs.length=ps.length)(h64:vs.length < 64)(hok:∀ p ∈ ps,pok p)
    (hp:∀ (i:Nat) (v:Value) (p:Int × Int),vs[i]? = some v->ps[i]? = some p->PairAt (s.heap.update a (Obj.mapSeq λ _=>#[])) v p)
    (h:∀ out:List Value,EN vs ps out->P (.done (.ret .none)) { s with heap:=sortedHeap s.heap a vs out.toArray }) :
    wpAny (model prog w) A (Builtin.«list.sort» ⟨[.ref a],[]⟩) P E s:=by
  have ha:=Heap.lt_size ho
  have line:vs.length <= sizeLine:=by rw[sizeLine_eq];omega
  obtain⟨e1,ho1⟩:∃ e1,(s.heap.update a (Obj.mapSeq λ _=>#[])).get? a=some (seqObj "list" #[] e1):=⟨_,get?_update_seq ho _⟩
  rw[list_sort_plain]
  refine wpAny_bind (listItems_at ho rfl (wpAny_bind (listUpdate_at ho rfl (wpAny_bind (seqEpoch_at ho1 rfl (wpAny_bind (wpAny_newTuple (wpAny_bind (wpAny_newList (wpAny_holding ?_) (Nat.zero_le _))) line)))) (by rw[List.size_toArray];exact line) (Nat.zero_le _))))
  have grow:∀ b o,(s.heap.update a (Obj.mapSeq λ _=>#[])).get? b=some o->(((s.heap.update a (Obj.mapSeq λ _=>#[])).push (seqObj "tuple" vs.toArray 0)).push (seqObj "list" #[] 0)).get? b=some o:=λ b o e=>Heap.get?_push_of_some _ (Heap.get?_push_of_some _ e)
  have ho6:=grow _ _ ho1
  generalize h6:((s.heap.update a (Obj.mapSeq λ _=>#[])).push (seqObj "tuple" vs.toArray 0)).push (seqObj "list" #[] 0)=hp6 at *
  have done:∀ out:List Value,EN vs ps out->P (.done (.ret .none)) { s with heap:=hp6.update a (Obj.mapSeq λ _=>out.toArray) }:=λ out z=>by
    have:=h out z
    unfold sortedHeap at this
    rw[h6]at this
    exact this
  show wpAny (model prog w) A _ P E { s with heap:=hp6 }
  dsimp only
  have pairs6:∀ (i:Nat) (v:Value) (p:Int × Int),vs[i]? = some v->ps[i]? = some p->PairAt hp6 v p:=λ i v p x y=>by
    obtain⟨x',o,t,u,k,e,q,c,d⟩:=hp i v p x y
    exact⟨x',o,t,u,k,e,grow _ _ q,c,d⟩
  by_cases h2:vs.toArray.size < 2
  . rw[if_pos h2,if_pos h2]
    refine wpAny_bind (wpAny_pure ?_)
    rw[StateT.run_pure]
    refine wpAny_bind (wpAny_pure ?_)
    dsimp only
    have hout:(arrOf (SortSt.mk' general' (vs.toArray.zip vs.toArray) #[] 7 none)).map (·.2)=vs.toArray:=by
      show(vs.toArray.zip vs.toArray).map (·.2)=vs.toArray
      apply Array.toList_inj.mp
      simp only[Array.toList_map,Array.toList_zip]
      exact List.map_snd_zip (Nat.le_refl _)
    rw[hout]
    refine wpAny_bind (seqEpoch_at ho6 rfl (wpAny_bind (listUpdate_at ho6 rfl ?_ (Nat.zero_le _) (by rw[List.size_toArray];omega))))
    simp only[bne_self_eq_false,Bool.false_eq_true,if_false]
    refine wpAny_pure (done vs ⟨vs.zip ps,.refl _,?_,?_⟩)
    . have hz:(vs.zip ps).length < 2:=by simp at h2 ⊢;omega
      cases hh:vs.zip ps with
      | nil=>exact .nil
      | cons z r=>
        cases r with
        | nil=>exact List.pairwise_singleton _ _
        | cons y t=>rw[hh]at hz;exact absurd hz (by simp)
    . rw[List.map_fst_zip (by omega)]
  . rw[if_neg h2,if_neg h2]
    have h2':2 <= vs.length:=by simp at h2;omega
    obtain⟨fs,t1,t2,t3⟩:=Kq hl pairs6
    have tT:∀ f ∈ fs,Looks (model prog w) hp6 (typeOf f) (Value.type "int"):=λ f hf=>by
      obtain⟨i,t,rfl⟩:=t3 f hf
      exact .of_pure rfl
    refine wpAny_bind (kat_kind (s:={ s with heap:=hp6 }) t1 (by omega) tT rfl ?_)
    have est:SortSt.mk' (tuples' true) (vs.toArray.zip vs.toArray) #[] 7 none=kas_st (tuples' true) (pairsOf vs) (List.toArray (List.range vs.length)):=by
      unfold kas_st
      rw[<- pairsOf_size vs,kas_range]
      rfl
    have ask:(kas_sort vs.length).kasWp (kas_cmp prog w A (tuples' true) (pairsOf vs)) (λ p s'=>s'={ s with heap:=hp6 }/\EN vs ps (p.toList.map λ i=>vs.getD i Value.none)) { s with heap:=hp6 }:=by
      rw[<- kas_ask_eq]
      refine PWp.wp (n:=vs.length) (r:=λ i=>CC (ps.getD i (0,0))) (P:=λ s'=>s'={ s with heap:=hp6 }) (λ i j C s' hi hj e hC=>?_) ((QD (by omega)).mono λ p z s' e=>⟨e,Mq hl z.1 z.2⟩) rfl
      subst e
      have pi:ps[i]? = some (ps.getD i (0,0)):=by simp[show i < ps.length by omega]
      have pj:ps[j]? = some (ps.getD j (0,0)):=by simp[show j < ps.length by omega]
      have vi:vs[i]? = some (vs.getD i Value.none):=by simp[hi]
      have vj:vs[j]? = some (vs.getD j Value.none):=by simp[hj]
      exact Ro (s:={ s with heap:=hp6 }) (pairs6 i _ _ vi pi) (pairs6 j _ _ vj pj) (hok _ (List.mem_of_getElem? pi)) (hok _ (List.mem_of_getElem? pj)) (hC _ rfl)
    have run:=kas_runs (E:=E) (Q:=λ _ st' s'=>∃ p:Array Nat,p.size=vs.length/\arrOf st'=p.map (kas_item (pairsOf vs))/\failedOf st'=none/\s'={ s with heap:=hp6 }/\EN vs ps (p.toList.map λ i=>vs.getD i Value.none)) h2' h64 (λ p st' s' x1 x2 x3 x4=>⟨p,x1,x2,x3,x4⟩) ask
    rw[<- est]at run
    refine wpAny_bind (wpAny_mono run ?_ λ _ _ e=>e)
    rintro⟨⟨⟩,st'⟩ s' ⟨p,hsz,har,hf,rfl,so⟩
    dsimp only
    have hout:(arrOf st').map (·.2)=(p.toList.map λ i=>vs.getD i Value.none).toArray:=by
      rw[har]
      apply Array.toList_inj.mp
      simp only[Array.toList_map,List.map_map]
      exact List.map_congr_left λ i _=>congrArg Prod.snd (kas_item_eq vs i)
    rw[hout]
    refine wpAny_bind (seqEpoch_at ho6 rfl (wpAny_bind (listUpdate_at ho6 rfl ?_ (Nat.zero_le _) (by simp[hsz];omega))))
    rw[hf]
    simp only[bne_self_eq_false,Bool.false_eq_true,if_false]
    exact wpAny_pure (done _ so)
end
end L2
namespace L2
open PySem PySem.Spec PyProof.Rows PySem.W
theorem PairAt.keep{h h':Heap}{v:Value}{p:Int × Int}(k:∀ b o,h.get? b=some o->h'.get? b=some o)(q:PairAt h v p):PairAt h' v p:=by
  obtain⟨x,o,t,u,n,e,ho,c,d⟩:=q
  exact⟨x,o,t,u,n,e,k _ _ ho,c,d⟩
section
variable{prog:Program}{w:World}{A:Around}{E:Value->Shared->Prop}{s:Shared}
theorem Jg{l:Addr}{vs:List Value}{ps:List (Int × Int)}{Q:Value->Shared->Prop}(hl:s.heap.IsList l vs.toArray)(hlen:vs.length=ps.length)(h64:vs.length < 64)(hok:∀ p ∈ ps,pok p)
    (hp:∀ (i:Nat) (v:Value) (p:Int × Int),vs[i]? = some v->ps[i]? = some p->PairAt s.heap v p)
    (h:∀ out:List Value,EN vs ps out->Q (.ref (s.heap.objs.size + 1)) { s with heap:=sortedAll s.heap vs out.toArray }) :
    wpAny (model prog w) A (call (.builtin "sorted") [.ref l]) Q E s:=by
  have line:vs.length <= sizeLine:=by rw[sizeLine_eq];omega
  refine Calls.call_function_entry kind_sorted plain_sorted entry_sorted (args_sorted1 _) ?_
  unfold Builtin.«sorted»
  refine wpAny_bind (m:=checkCount "sorted" 1 1 _) (wpAny_pure (wpAny_bind (collect_list hl (wpAny_bind (wpAny_newList ?_ line)) line)))
  have sz:((s.heap.push (seqObj "list" #[] 0)).update s.heap.objs.size (Obj.mapSeq (· ++ vs.toArray))).objs.size=s.heap.objs.size + 1:=by rw[Heap.size_update,size_push']
  have at1:(((s.heap.push (seqObj "list" #[] 0)).update s.heap.objs.size (Obj.mapSeq (· ++ vs.toArray))).push (seqObj "list" vs.toArray 0)).get? (s.heap.objs.size + 1)=some (seqObj "list" vs.toArray 0):=by
    have:=Heap.get?_push_size ((s.heap.push (seqObj "list" #[] 0)).update s.heap.objs.size (Obj.mapSeq (· ++ vs.toArray))) (o:=seqObj "list" vs.toArray 0) rfl
    rwa [sz]at this
  have old:∀ b o,s.heap.get? b=some o->((((s.heap.push (seqObj "list" #[] 0)).update s.heap.objs.size (Obj.mapSeq (· ++ vs.toArray))).push (seqObj "list" vs.toArray 0)).update (s.heap.objs.size + 1) (Obj.mapSeq λ _=>#[])).get? b=some o:=λ b o e=>by
    have lt:=Heap.lt_size e
    rw[Heap.get?_update_ne _ _ _ _ (Nat.ne_of_lt (Nat.lt_succ_of_lt lt)),Heap.get?_push_ne _ _ _ (by rw[sz];exact Nat.ne_of_lt (Nat.lt_succ_of_lt lt)),Heap.get?_update_ne _ _ _ _ (Nat.ne_of_lt lt),Heap.get?_push_ne _ _ _ (Nat.ne_of_lt lt)]
    exact e
  show wpAny _ _ _ _ _ { s with heap:=((s.heap.push (seqObj "list" #[] 0)).update s.heap.objs.size (Obj.mapSeq (· ++ vs.toArray))).push (seqObj "list" vs.toArray 0) }
  rw[sz]
  refine wpAny_bind (wpAny_holding (wpAny_call_entry slot_list_sort ⟨_,at1,rfl⟩ entry_list_sort (Ll at1 hlen h64 hok (λ i v p a b=>(hp i v p a b).keep old) λ out z=>⟨_,rfl,?_⟩) (args_list_sort _)))
  exact wpAny_pure ⟨_,rfl,h out z⟩
end
section
variable(K:PySem.W.Frag){X:Cx}
noncomputable def HC:List V->Hp->VK->Prop:=λ xs H Q=>∃ (a:Addr) (us:List V) (ps:List (Int × Int)),xs=[.ref a]/\SqL K H a us/\us.length=ps.length/\us.length < 64/\(∀ q ∈ ps,pok q) /\
  (∀ (i:Nat) (u:V) (q:Int × Int),us[i]? = some u->ps[i]? = some q->∃ x,u=.ref x/\SqT K H x [.int q.1,.int q.2]) /\
  ∀ (p:Addr) (zs:List (V × (Int × Int))),H p=none->zs.Perm (us.zip ps)->(zs.map λ z=>CC z.2).Pairwise (· <= ·)->Q (.ref p) (upd H p (.lst (zs.map (·.1))))
noncomputable def Fb:Value->V
  | .ref x=>.ref x
  | _=>.non
theorem JY:∀ {us:List V} {its:List Value} {i:Nat} {u:V},Vals us its->us[i]? = some u->∃ v,its[i]? = some v/\RelV u v
  | _,_,_,_,.nil,h=>by simp at h
  | _ :: _,_ :: _,0,_,.cons r _,h=>by
    simp at h;subst h;exact⟨_,rfl,r⟩
  | _ :: _,_ :: _,i + 1,_,.cons _ t,h=>JY (i:=i) t (by simpa using h)
theorem KT(hK:X.K=K:=by rfl):CallR X (.builtin "sorted") (HC K):=by
  subst hK
  intro pins s σ H xs us0 Q I r h
  obtain⟨a,us,ps,rfl,hq,hlen,h64,hok,hpr,q⟩:=h
  obtain⟨u,rfl,ru⟩:=Cf r
  cases ru
  obtain⟨its,rv,p,hz⟩:=I.list hq
  have hl2:us.length=its.length:=rv.length
  have point:∀ (i:Nat) (v:Value) (q:Int × Int),its[i]? = some v->ps[i]? = some q->(∃ x,us[i]? = some (.ref x)/\v=.ref x)/\PairAt s.heap v q:=by
    intro i v q e1 e2
    have hi:i < us.length:=by rw[hl2];exact(List.getElem?_eq_some_iff.mp e1).1
    have eu:us[i]? = some us[i]:=by simp[hi]
    obtain⟨x,ex,sq⟩:=hpr i _ q eu e2
    obtain⟨v',ev,rel⟩:=JY rv eu
    rw[e1]at ev
    cases ev
    rw[ex]at rel eu
    have rel:v=Value.ref x:=rel
    subst rel
    refine⟨⟨x,eu,rfl⟩,?_⟩
    obtain⟨jts,rj,⟨o,ho,hc,n,hd⟩,_⟩:=I.tuple sq
    cases rj with
    | cons r1 t1=>
      cases t1 with
      | cons r2 t2=>
        cases t2
        obtain⟨t,rfl⟩:=r1
        obtain⟨t',rfl⟩:=r2
        exact⟨x,o,t,t',n,rfl,ho,hc,hd⟩
  refine Jg (ps:=ps) p.isList (by omega) (by omega) hok (λ i v q a b=>(point i v q a b).2) λ out z=>?_
  obtain⟨zs,pm,pw,rfl⟩:=z
  obtain⟨e,he⟩:=sortedAll_at s.heap its (zs.map (·.1)).toArray
  have mz:∀ z ∈ zs,∃ x,z.1=.ref x:=λ z hz=>by
    have:=pm.mem_iff.mp hz
    obtain⟨i,hi⟩:=List.mem_iff_getElem?.mp this
    obtain⟨e1,e2⟩:=List.getElem?_zip_eq_some.mp hi
    obtain⟨⟨x,_,ex⟩,_⟩:=point i _ _ e1 e2
    exact⟨x,ex⟩
  have vz:∀ {zs:List (Value × (Int × Int))},(∀ z ∈ zs,∃ x,z.1=.ref x)->Vals (zs.map λ z=>Fb z.1) (zs.map (·.1)):=by
    intro zs
    induction zs with
    | nil=>intro _;exact .nil
    | cons z r ih=>
      intro h
      obtain⟨x,ex⟩:=h z List.mem_cons_self
      refine .cons ?_ (ih λ y hy=>h y (List.mem_cons_of_mem _ hy))
      show RelV (Fb z.1) z.1
      rw[ex];rfl
  have pm2:(zs.map λ z=>(Fb z.1,z.2)).Perm (us.zip ps):=by
    have:=pm.map λ z:Value × (Int × Int)=>(Fb z.1,z.2)
    have e:((its.zip ps).map λ z:Value × (Int × Int)=>(Fb z.1,z.2))=us.zip ps:=by
      refine List.ext_getElem? λ i=>?_
      by_cases hi:i < us.length
      . have h1:i < its.length:=by omega
        have h2:i < ps.length:=by omega
        have e1:its[i]? = some its[i]:=by simp[h1]
        have e2:ps[i]? = some ps[i]:=by simp[h2]
        obtain⟨⟨x,ex,ev⟩,_⟩:=point i _ _ e1 e2
        rw[List.getElem?_map,(List.getElem?_zip_eq_some (z:=(its[i],ps[i]))).mpr ⟨e1,e2⟩,(List.getElem?_zip_eq_some (z:=(V.ref x,ps[i]))).mpr ⟨ex,e2⟩,Option.map_some,ev]
        rfl
      . rw[List.getElem?_eq_none (by simp;omega),List.getElem?_eq_none (by simp;omega)]
    rwa [e]at this
  have pw2:((zs.map λ z=>(Fb z.1,z.2)).map λ z:V × (Int × Int)=>CC z.2).Pairwise (· <= ·):=by rw[List.map_map];exact pw
  have fin:=q (s.heap.objs.size + 1) _ (I.hok.fresh (Nat.le_succ _)) pm2 pw2
  have em:(zs.map λ z=>(Fb z.1,z.2)).map (·.1)=zs.map λ z=>Fb z.1:=by rw[List.map_map];rfl
  rw[em]at fin
  have zl:zs.length < 64:=by rw[pm.length_eq];simp;omega
  refine⟨.ref (s.heap.objs.size + 1),_,I.laid (a:=s.heap.objs.size + 1) (o:=.lst (zs.map λ z=>Fb z.1)) (t':=s.toks) (λ b o hb=>sortedAll_old hb) (Nat.le_succ _) ⟨?_,_,e,vz mz,he⟩,rfl,fin⟩
  rw[List.length_map]
  exact Nat.le_of_lt (Iv (by omega))
end
noncomputable def B9(p:Int × Int):D:=.im (.tup [.int p.1,.int p.2])
noncomputable def DP:List D->Option (List (Int × Int))
  | []=>some []
  | .im (.tup [.int a,.int b]) :: r=>(DP r).map ((a,b) :: ·)
  | _=>none
theorem NG:∀ {ds:List D} {ps:List (Int × Int)},DP ds=some ps->ds=ps.map B9:=by
  intro ds
  induction ds with
  | nil=>intro ps h;simp[DP]at h;subst h;rfl
  | cons d r ih=>
    intro ps h
    unfold DP at h
    split at h
    . next e=>cases e
    . next a b r' e=>
      cases e
      obtain⟨qs,e1,rfl⟩:=Option.map_eq_some_iff.mp h
      rw[ih e1]
      rfl
    . cases h
@[simp] theorem M5(ps:List (Int × Int)):DP (ps.map B9)=some ps:=by
  induction ps with
  | nil=>rfl
  | cons p r ih=>simp[DP,B9]at ih ⊢;exact ih
noncomputable def EC(ps:List (Int × Int)):List (Int × Int):=ps.mergeSort λ a b=>decide (CC a <= CC b)
theorem EB(ps:List (Int × Int)):(EC ps).Perm ps:=List.mergeSort_perm ..
theorem Jh(ps:List (Int × Int)):(EC ps).Pairwise λ a b=>CC a <= CC b:=by
  have:=List.pairwise_mergeSort (le:=λ a b:Int × Int=>decide (CC a <= CC b)) (by intro a b c h1 h2;simp at *;omega) (by intro a b;simp;omega) ps
  exact this.imp (by simp)
theorem Ou{p q:Int × Int}(a:pok p)(b:pok q)(h:CC p=CC q):p=q:=by
  unfold pok at a b
  unfold CC at h
  exact Prod.ext (by omega) (by omega)
open Classical in
noncomputable def EZ(m:MI):MA:=λ ls hd=>(m ls hd).bind λ p=>(DP p.1.1).bind λ ps=>if ps.length < 64/\∀ q ∈ ps,pok q then some ((EC ps).map B9,p.2)else none
section
variable{K:PySem.W.Frag}{ρ:List Addr}{H:Hp}{hd:Hd}
theorem Qn{p:Int × Int}{v:V}(h:RD K ρ H (B9 p) v):∃ x,v=.ref x/\SqT K H x [.int p.1,.int p.2]:=by
  simp only[B9,RD,RI,RIs]at h
  obtain⟨a,xs,rfl,q,x,r,rfl,rfl,y,r2,rfl,rfl,rfl⟩:=h
  exact⟨a,rfl,q⟩
theorem Ln{t:TE}{m:MI}(h:RRw K false t m):RN K (tCB (HC K) (C1 t CT)) (EZ m):=by
  intro ρ σ H hd ls Q d hd' hR hL hm hQ
  obtain⟨⟨⟨d1,g1⟩,h1⟩,e1,hm⟩:=Option.bind_eq_some_iff.mp hm
  obtain⟨ps,e2,hm⟩:=Option.bind_eq_some_iff.mp hm
  split at hm
  . next c=>
    cases hm
    refine h ρ σ H hd ls _ d1 g1 _ hR hL e1 λ ρ1 H1 a x1 R1 G1 S1=>?_
    obtain⟨xs,q,r⟩:=S1 ρ1 H1 _ .refl R1 G1
    have e2:DP d1=some ps:=e2
    rw[NG e2]at r
    have hl:xs.length=ps.length:=by simpa using r.len
    have each:∀ (i:Nat) (u:V) (q:Int × Int),xs[i]? = some u->ps[i]? = some q->RD K ρ1 H1 (B9 q) u:=λ i u q a b=>by
      obtain⟨x,e,z⟩:=r.get (i:=i) (d:=B9 q) (by simp[b])
      rw[a]at e;cases e;exact z
    refine⟨a,xs,ps,rfl,q,hl,by rw[hl];exact c.1,c.2,λ i u q a b=>Qn (each i u q a b),λ p zs hp pm pw=>?_⟩
    have es:zs.map (·.2)=EC ps:=by
      have pp:(zs.map (·.2)).Perm ps:=by
        have:=pm.map (λ z:V × (Int × Int)=>z.2)
        rwa [List.map_snd_zip (by omega)]at this
      refine(pp.trans (EB ps).symm).eq_of_pairwise (le:=λ a b=>CC a <= CC b) (λ x y hx hy l1 l2=>Ou (c.2 _ (pp.mem_iff.mp hx)) (c.2 _ ((EB ps).mem_iff.mp hy)) (Int.le_antisymm l1 l2)) ?_ (Jh ps)
      rw[List.pairwise_map]at pw ⊢
      exact pw
    obtain⟨R2,x2⟩:=R1.hid (ho:=.lst (zs.map (·.1))) hp
    have all:∀ z ∈ zs,RD K ρ1 H1 (B9 z.2) z.1:=λ z hz=>by
      obtain⟨i,hi⟩:=List.mem_iff_getElem?.mp (pm.mem_iff.mp hz)
      obtain⟨a1,a2⟩:=List.getElem?_zip_eq_some.mp hi
      exact each i _ _ a1 a2
    have rd:∀ {zs:List (V × (Int × Int))},(∀ z ∈ zs,RD K ρ1 H1 (B9 z.2) z.1)->RDs K ρ1 H1 ((zs.map (·.2)).map B9) (zs.map (·.1)):=by
      intro zs
      induction zs with
      | nil=>intro _;exact .nil
      | cons z r ih=>intro h;exact .cons (h z List.mem_cons_self) (ih λ y hy=>h y (List.mem_cons_of_mem _ hy))
    have rz:=rd all
    rw[es]at rz
    exact hQ ρ1 _ p _ (x1.trans R1 x2) R2 (x1.none hR hp R1) (R1.out hp) AW (rz.ext R1 x2)
  . cases hm
open Classical in
noncomputable def GO:D->List D->Hd->Option (D × Hd)
  | .mu n,[.im (.int i)],hd=>match hd[n]? with
    | some (.lst ds)=>if G8 i then(ixN ds.length i).bind λ k=>(ds[k]?).map λ y=>(y,hd.set n (.lst (ds.eraseIdx k)))else none
    | _=>none
  | _,_,_=>none
theorem RDs.erase:∀ {ds:List D} {xs:List V} (k:Nat),RDs K ρ H ds xs->RDs K ρ H (ds.eraseIdx k) (xs.eraseIdx k)
  | [],_,_,h=>by simp only[RDs]at h;subst h;simp[RDs]
  | d :: ds,_,0,h=>by simp only[RDs]at h;obtain⟨x,r,rfl,_,t⟩:=h;simpa using t
  | d :: ds,_,k + 1,h=>by
    simp only[RDs]at h
    obtain⟨x,r,rfl,a,t⟩:=h
    simpa using RDs.cons a (RDs.erase k t)
end
end L2
namespace L2
open PySem PySem.Spec PyProof.Rows PySem.W
theorem OV{K:PySem.W.Frag}:RM K N3 GO:=by
  intro ρ H hd d v ds vs Q z hd' hR h1 h2 hf hQ
  unfold GO at hf
  split at hf
  . split at hf
    . next q=>
      split at hf
      . next c=>
        obtain⟨k,e0,hf⟩:=Option.bind_eq_some_iff.mp hf
        obtain⟨y,e1,e3⟩:=Option.map_eq_some_iff.mp hf
        cases e3
        simp only[RD]at h1
        obtain⟨a,hn,rfl⟩:=h1
        simp only[RDs,RD,RI]at h2
        obtain⟨x,r,rfl,rfl,rfl⟩:=h2
        obtain⟨xs,f1,f2⟩:=hR.lst hn q
        obtain⟨x,x1,x3⟩:=f2.get e1
        obtain⟨R2,x2⟩:=hR.put hn (o:=.lst _) (ho:=.lst (xs.eraseIdx k)) ⟨_,rfl,f2.erase k⟩
        obtain⟨s1,s2,s3,s4⟩:=Ij e0
        have sz:=f2.len
        unfold G8 at c
        exact⟨a,xs,_,k,x,rfl,rfl,f1,by omega,by omega,by rw[sz];exact s1,x1,hQ ρ _ _ x2 R2 (x3.ext hR x2)⟩
      . cases hf
    . cases hf
  . cases hf
section
variable(K:PySem.W.Frag){X:Cx}{e:Expr}{te:TE}{p pos:Pos}
theorem Lz{mi:MI}(hm:X.mg "sorted"=none)(ha:QR K false X e te mi)(hg:Gl X "sorted":=by rfl)(he:starEach [e] X.env=[(false,eval e X.env)]:=by rfl)(hK:X.K=K:=by rfl):QN K X (.Call (.Name "sorted" p) [e] [] pos) (tCB (HC K) (C1 te CT)) (EZ mi):=
  ⟨EW (KT K hK) hg hm J7 (Ci ha.p DQ he) (by decide) (by decide) he rfl,Ln ha.r⟩
end
section
variable{ls:Ls}{hd:Hd}
open Classical in
@[simp] theorem PH(k:Nat)(i:Int):GO (.mu k) [.im (.int i)] hd=match hd[k]? with
    | some (.lst ds)=>if G8 i then(ixN ds.length i).bind λ j=>(ds[j]?).map λ y=>(y,hd.set k (.lst (ds.eraseIdx j)))else none
    | _=>none:=rfl
open Classical in
@[simp] theorem MU(mi:MI):EZ mi ls hd=(mi ls hd).bind λ p=>(DP p.1.1).bind λ ps=>if ps.length < 64/\∀ q ∈ ps,pok q then some ((EC ps).map B9,p.2)else none:=rfl
end
end L2
namespace L2
open PySem PySem.Spec PyProof.Rows PySem.W
noncomputable def E4(m:ME):MI:=λ ls hd=>match Dg m ls hd with
  | some z=>some z
  | none=>CD m ls hd
noncomputable def LI(K:PySem.W.Frag)(t:TE):TI:=λ σ H R=>KO K t σ H R ∨ IJ K t σ H R
theorem Sr{K:PySem.W.Frag}{t:TE}{m:ME}(h:RE K t m):RIt K (LI K t) (E4 m):=by
  intro ρ σ H hd ls Q d g hd' hR hL hm hQ
  unfold E4 at hm
  split at hm
  . next z e=>
    cases hm
    exact .inl (Mv h ρ σ H hd ls Q d g hd' hR hL e hQ)
  . exact .inr (Kw h ρ σ H hd ls Q d g hd' hR hL hm hQ)
theorem K7(K:PySem.W.Frag){X:Cx}{tg e:Expr}{t:TE}{m:ME}(h:QE K X e t m)(hK:X.K=K:=by rfl):QI K X tg e (LI K t) (E4 m):=
  ⟨λ pins s σ H R I q=>q.elim (λ q=>(L8 K h.p hK) pins s σ H R I q) λ q=>(KA K h.p hK) pins s σ H R I q,Sr h.r⟩
section
variable{m:ME}{ls:Ls}{hd hd':Hd}
theorem Ru{is:List I}(e:m ls hd=some (.im (.tup is),hd')):E4 m ls hd=some ((is.map .im,[]),hd'):=by unfold E4;simp[e]
theorem U3{k:Nat}{ds:List D}(e:m ls hd=some (.mu k,hd'))(h:hd'[k]? = some (.lst ds)):E4 m ls hd=some ((ds,[(k,ds)]),hd'):=by unfold E4;simp[e,h]
end
end L2
namespace L2
open PySem PySem.Spec PyProof.Rows PySem.W
end L2
namespace L2
open PySem PySem.Spec PyProof.Rows
section
variable{prog:Program}{w:World}{A:Around}{R:Result->Shared->Prop}{s:Shared}
theorem S9(k v target iter:Expr)(ifs:List Expr)(scope:Scope)(pos:Pos)(it acc:Value)(env:Env) :
    compTurn (.DictComp k v [⟨target,iter,ifs,0⟩] scope pos) 0 it acc env=(do
      standAt iter.pos
      match <- pyNext it with
      | none=>pure (.done .next)
      | some x=>
        letOwnedTupleGo target it x
        assign target env x
        let mut ok:=true
        for c in ifs do
          if ok then ok <- isTrue c env (eval c env)
        if ok then
          (do
            let kv <- eval k env
            let vv <- holding [kv] (eval v env)
            match acc with
            | .ref d=>do
              standAt { k.pos with endLine:=v.pos.endLine,endCol:=v.pos.endCol }
              holding [kv,vv] (dictSet d kv vv)
            | _=>unsupported "internal:dictcomp")
        again (.compLoop (.DictComp k v [⟨target,iter,ifs,0⟩] scope pos) 0 it acc env)):=by rfl
theorem KQ(elt target iter:Expr)(ifs:List Expr)(scope:Scope)(pos:Pos)(it acc:Value)(env:Env) :
    compTurn (.SetComp elt [⟨target,iter,ifs,0⟩] scope pos) 0 it acc env=(do
      standAt iter.pos
      match <- pyNext it with
      | none=>pure (.done .next)
      | some x=>
        letOwnedTupleGo target it x
        assign target env x
        let mut ok:=true
        for c in ifs do
          if ok then ok <- isTrue c env (eval c env)
        if ok then
          (do let v <- eval elt env;standAt elt.pos;let _ <- call (.builtin "set.add") [acc,v])
        again (.compLoop (.SetComp elt [⟨target,iter,ifs,0⟩] scope pos) 0 it acc env)):=by rfl
theorem Nl{e target iter:Expr}{ifs:List Expr}{it acc:Value}{env:Env}{emit:Sem Unit}(I:Nat->Shared->Prop)
    (hden:(model prog w).den (.compLoop e 0 it acc env)=(compTurn e 0 it acc env).onRaise (λ x=>do noteFrame x env;theTreesLotGoes x))
    (hund:A.under (.compLoop e 0 it acc env)=A)
    (hturn:compTurn e 0 it acc env=(do
      standAt iter.pos
      match <- pyNext it with
      | none=>pure (.done .next)
      | some x=>
        letOwnedTupleGo target it x
        assign target env x
        let mut ok:=true
        for c in ifs do
          if ok then ok <- isTrue c env (eval c env)
        if ok then emit
        again (.compLoop e 0 it acc env)))
    (turn:∀ n s,I n s->wpAny (model prog w) A (pyNext it) (λ r s₁=>match r with
      | none=>R (.ok .next) s₁
      | some v=>wpAny (model prog w) A (letOwnedTupleGo target it v) (λ _ s₁=>wpAny (model prog w) A (assign target env v) (λ _ s₂=>
          wpAny (model prog w) A (forIn ifs true λ c r=>if r=true then do let ok <- isTrue c env (eval c env);pure (ForInStep.yield ok)else pure (ForInStep.yield r)) (λ ok s₃=>
            if ok=true then wpAny (model prog w) A emit (λ _ s₅=>∃ m,m < n/\I m s₅) (λ _ _=>False) s₃
            else ∃ m,m < n/\I m s₃) (λ _ _=>False) s₂) (λ _ _=>False) s₁) (λ _ _=>False) s₁) (λ _ _=>False) s)
    (n:Nat) (h:I n s) :
    codeAny (model prog w) A (.compLoop e 0 it acc env) R s:=by
  refine codeAny_loop rfl I (λ n s hI=>?_) n h
  rw[hden,hund]
  refine wpAny_noted ?_
  rw[hturn]
  refine wpAny_bind (wpAny_standAt (wpAny_bind (wpAny_mono (turn n s hI) (λ r s₁ h₁=>?_) λ _ _ h'=>h'.elim)))
  cases r with
  | none=>exact wpAny_pure h₁
  | some v=>
    refine wpAny_bind (wpAny_mono h₁ (λ _ s₁ h₁=>?_) λ _ _ h'=>h'.elim)
    refine wpAny_bind (wpAny_mono h₁ (λ _ s₂ h₂=>wpAny_bind (wpAny_mono h₂ (λ ok s₃ h₃=>?_) λ _ _ h'=>h'.elim)) λ _ _ h'=>h'.elim)
    cases ok with
    | false=>exact wpAny_pure ⟨rfl,h₃⟩
    | true=>
      exact wpAny_bind (wpAny_mono h₃ (λ x s₄ h₄=>wpAny_pure ⟨rfl,h₄⟩) λ _ _ h'=>h'.elim)
theorem MX{e:Expr}{g:Comprehension}{gs:List Comprehension}{it acc:Value}{env:Env}(hcl:clausesOf e=g :: gs)(hasy:g.is_async=0)
    (hden:(model prog w).den (.compStart e 0 it acc env)=(compStart e 0 it acc env).onRaise (λ x=>do noteFrame x env;standAt theWindowsPlace))
    (hund:A.under (.compStart e 0 it acc env)=A)
    (h0:codeAny (model prog w) A (.compLoop e 0 it acc env) R s)
    (h:wpAny (model prog w) A (pyIter it) (λ it' s'=>codeAny (model prog w) A (.compLoop e 0 it' acc env) R s')
      (notedBy (model prog w) A env λ x s'=>R (.error x) s') s) :
    codeAny (model prog w) A (.compStart e 0 it acc env) R s:=by
  refine codeAny_of_tree ?_
  rw[hden,hund]
  refine wpAny_notedAt ?_
  have e1:((clausesOf e)[0]?).elim false (·.is_async != 0)=false:=by rw[hcl];simp[hasy]
  have e2:(clausesOf e)[0]? = some g:=by rw[hcl];rfl
  unfold compStart
  rw[e1,e2]
  show wpAny _ _ (ask >>= _) _ _ s
  refine wpAny_bind (wpAny_askSetting (wpAny_ite ?_))
  split
  . first
      | exact wpAny_bind (wpAny_pure (wpAny_pure (And.intro rfl h0)))
      | exact wpAny_pure (And.intro rfl h0)
  . first
      | exact wpAny_bind (wpAny_rule (wpAny_bind (wpAny_standAt (wpAny_bind (wpAny_mono h (λ it' s' h'=>wpAny_pure (And.intro rfl h')) λ _ _ x=>x)))))
      | (refine wpAny_bind (wpAny_rule ?_);show wpAny _ _ (standAt g.iter.pos >>= _) _ _ s;exact wpAny_bind (wpAny_standAt (wpAny_bind (wpAny_mono h (λ it' s' h'=>wpAny_pure (And.intro rfl h')) λ _ _ x=>x))))
end
noncomputable abbrev TM:=Addr->St->Hp->(Hp->Prop)->Prop
noncomputable def PM(X:Cx)(emit:Value->Env->Sem Unit)(t:TM):Prop:=
  ∀ (D:Addr) (pins:List (Addr × Obj)) (s:Shared) (σ:St) (H:Hp) (Q:Hp->Prop),Inv X pins σ H s->t D σ H Q->wpAny (model X.prog X.w) X.A (emit (.ref D) X.env) (λ _ s'=>∃ H',Inv X pins σ H' s'/\Q H') X.xe s
noncomputable def UX(J:It)(D:Addr)(o:HO)(σ0:St)(H0:Hp)(g:TG)(tf:TT)(tm:TM)(Q:VK):Prop:=∃ W:Nat->Nat->St->Hp->Prop,
  (∃ m,W 0 m σ0 (upd H0 D o))/\∀ i m σ H,W i m σ H ->
    ((J.stop i H/\Q (.ref D) H) ∨ (J.go i H/\∃ N:St->Hp->Prop,(∀ σ' H',N σ' H'->∃ m',m' < m/\W (i + 1) m' σ' H') /\
      ∀ x H',J.yld i H x H'->g x σ H' λ σ2 H2=>tf σ2 H2 λ b H3=>
        if b=true then tm D σ2 H3 λ H4=>N σ2 H4 else N σ2 H3))
noncomputable def Hh(o:HO)(n:Nat)(ix:List Nat)(wi:TI)(g:TG)(tf:TT)(tm:TM):TE:=λ σ H Q=>wi σ H λ J H1=>∀ D,H1 D=none->UX J D o (Fr n ix σ) H1 g tf tm Q
section
variable{X:Cx}
theorem Oz{e tg iter:Expr}{ifs:List Expr}{scope:Scope}{pos:Pos}{loc fr:List Str}{ix:List Nat}{wi:TI}{g:TG}{tf:TT}{tm:TM}{emit:Value->Env->Sem Unit}{newAcc:Sem Value}{ho:HO}
    (hc:X.calm=true) (S:CSc X scope fr ix) (hi:PI X tg iter wi)
    (hg:∀ s H ex,PG (cCx X (loc ++ fr) scope s H ex) tg g) (hf:∀ s H ex,PF (cCx X (loc ++ fr) scope s H ex) ifs tf) (he:∀ s H ex,PM (cCx X (loc ++ fr) scope s H ex) emit tm)
    (hev:eval e X.env=comprehension e scope X.env pos newAcc false (eval iter X.env))
    (hcl:clausesOf e=[⟨tg,iter,ifs,0⟩])
    (hturn:∀ it acc env,compTurn e 0 it acc env=(do
      standAt iter.pos
      match <- pyNext it with
      | none=>pure (.done .next)
      | some x=>
        letOwnedTupleGo tg it x
        assign tg env x
        let mut ok:=true
        for c in ifs do
          if ok then ok <- isTrue c env (eval c env)
        if ok then emit acc env
        again (.compLoop e 0 it acc env)))
    (hd1:∀ it acc env,(model X.prog X.w).den (.compLoop e 0 it acc env)=(compTurn e 0 it acc env).onRaise (λ x=>do noteFrame x env;theTreesLotGoes x))
    (hd2:∀ it acc env,(model X.prog X.w).den (.compStart e 0 it acc env)=(compStart e 0 it acc env).onRaise (λ x=>do noteFrame x env;standAt theWindowsPlace))
    (hu1:∀ it acc env,X.A.under (.compLoop e 0 it acc env)=X.A) (hu2:∀ it acc env,X.A.under (.compStart e 0 it acc env)=X.A)
    (hnew:∀ (pins:List (Addr × Obj)) (s:Shared) (σ:St) (H:Hp) (Q:Value->Shared->Prop),Inv X pins σ H s->(∀ ob,Inv X pins σ (upd H s.heap.objs.size ho) { s with heap:=s.heap.push ob }->Q (.ref s.heap.objs.size) { s with heap:=s.heap.push ob })->wpAny (model X.prog X.w) X.A newAcc Q X.xe s)
    (hs:∀ x,foldedSetIterable iter X.env x=pure x:=by intro _;rfl):PE X e (Hh ho loc.length ix wi g tf tm):=by
  intro pins s σ H Q I h
  rw[hev]
  have hnames:∀ y ∈ scope.names,y.2=.local->scope.names.lookup y.1=some .local:=λ y hy e=>by
    have:=List.all_eq_true.mp S.loc y hy
    rw[e]at this
    simpa using this
  refine wpAny_comprehension_free (use:=none) hcl hs (E7 (S.clos I.ok)) S.kind hnames (thn (hi pins s σ H _ I h) λ v s1 h1=>thn h1 λ itv s2 h2=>?_)
  obtain⟨it,fp,tn,J,H2,rfl,I2,T,st2,f2,hW⟩:=h2
  refine hnew pins s2 σ H2 _ I2 λ ob I3=>?_
  have fresh2:H2 s2.heap.objs.size=none:=I2.hok.fresh (Nat.le_refl _)
  obtain⟨W,⟨m0,w0⟩,turn⟩:=hW s2.heap.objs.size fresh2
  have lt2:∀ b ∈ fp,b < s2.heap.objs.size:=λ b hb=>let ⟨o,e,_⟩:=T.obj 0 _ st2 b hb;Heap.lt_size e
  have f3:∀ b ∈ fp,CP X pins (upd H2 s2.heap.objs.size ho) b:=λ b hb=>⟨by rw[AO (Nat.ne_of_lt (lt2 b hb))];exact(f2 b hb).1,(f2 b hb).2⟩
  have lt3:∀ b ∈ fp,b < (s2.heap.push ob).objs.size:=λ b hb=>by rw[Heap.size_push];exact Nat.lt_succ_of_lt (lt2 b hb)
  generalize hs3:({ s2 with heap:=s2.heap.push ob }:Shared)=s3 at *
  have lt3:∀ b ∈ fp,b < s3.heap.objs.size:=by rw[<- hs3];exact lt3
  have st3:tn 0 s3.heap:=T.keep _ _ _ st2 λ b hb o e=>by rw[<- hs3];exact Heap.get?_push_of_some _ e
  refine Ib λ h' hk hn ho' ha=>?_
  have I4:=HU (loc:=loc) S I3 f3 hk hn ho' ha lt3
  have fpX:∀ {H':Hp},(∀ b ∈ fp,H' b=none)->∀ b ∈ fp,CP (cCx X (loc ++ fr) scope s3 (upd H2 s2.heap.objs.size ho) fp) [] H' b:=λ hn b hb=>
    ⟨hn b hb,(I4.ok.exf b hb).1,I4.ok.exfs b hb,.inl hb,(I4.ok.exf b hb).2,λ p hp=>by cases hp⟩
  have loop:codeAny (model X.prog X.w) X.A (.compLoop e 0 (.ref it) (.ref s2.heap.objs.size) (Ma scope s3.heap.objs.size X.env))
      (compPost (model X.prog X.w) X.A X.xe none (EP X pins σ Q) (.ref s2.heap.objs.size) s3.heap.objs.size) { s3 with heap:=h' }:=by
    refine Nl (λ n s'=>∃ i σ' H',Inv (cCx X (loc ++ fr) scope s3 (upd H2 s2.heap.objs.size ho) fp) [] σ' H' s'/\tn i s'.heap/\(∀ b ∈ fp,H' b=none)/\W i n σ' H') (hd1 _ _ _) (hu1 _ _ _) (hturn _ _ _) ?_ m0
      ⟨0,_,_,I4,T.keep _ _ _ st3 λ b hb o e=>hk b o e,λ b hb=>(f3 b hb).1,w0⟩
    rintro n s5 ⟨i,σ5,H5,I5,st5,fr5,w5⟩
    have w5:=turn i n σ5 H5 w5
    rcases w5 with⟨stop,qn⟩|⟨go,N,hN,step⟩
    . refine thn (T.done (cCx X (loc ++ fr) scope s3 (upd H2 s2.heap.objs.size ho) fp) rfl rfl rfl hc i [] s5 σ5 H5 _ I5 (fpX fr5) st5 stop) λ r s6 ⟨hr,I6⟩=>?_
      subst hr
      obtain⟨m,hm,_⟩:=I6.loc
      refine⟨m,hm,λ h'' hs=>?_⟩
      have neC:∀ b o,s3.heap.get? b=some o->b ≠ s3.heap.objs.size:=λ b o e=>Nat.ne_of_lt (Heap.lt_size e)
      have un:=I6.base
      refine⟨.ref s2.heap.objs.size,H5,I3.call' (s':={ s6 with heap:=h'' }) (ch:=fp) I6.os ⟨λ b o e n hb hx=>?_,λ b o e n hb hx=>?_,un.free,λ b o e hx=>?_,un.tups,un.frzs,un.tbls⟩ ?_ I6.bare ?_,rfl,qn⟩
      . exact(hs.2 b (neC b o e)).trans (un.keep b o e n hb hx)
      . obtain⟨sl,q⟩:=un.slot b o e n hb hx
        exact⟨sl,(hs.2 b (neC b o e)).trans q⟩
      . obtain⟨o',q⟩:=un.there b o e hx
        exact⟨o',(hs.2 b (neC b o e)).trans q⟩
      . intro b ob e
        have hfree:H5 s3.heap.objs.size=none:=I6.free
        refine(I6.hok b ob e).stay (λ c w' hc q=>(hs.2 c ?_).trans q) (λ _ q=>q) λ _ _ q=>q
        intro z
        rcases hc with hc|hc
        . rw[<- hc,z,hfree]at e;cases e
        . rw[z,hfree]at hc;cases hc
      . intro b hb
        obtain⟨_,a2,_,a4,a5,a6⟩:=f3 b hb
        exact⟨a4,a2,a5,a6⟩
    . refine thn (T.item (cCx X (loc ++ fr) scope s3 (upd H2 s2.heap.objs.size ho) fp) rfl rfl rfl hc i [] s5 σ5 H5 _ I5 (fpX fr5) st5 go) λ r s6 ⟨u,hr,h6⟩=>?_
      subst hr
      refine thn h6 λ _ s7 ⟨x,H7,I7,r7,y7,st7,fr7⟩=>?_
      have I7':=I7.pinned (fpX fr7) (T.obj _ _ st7)
      have keepI:∀ {σ8:St} {H8:Hp} {s8:Shared},Inv (cCx X (loc ++ fr) scope s3 (upd H2 s2.heap.objs.size ho) fp) ([] ++ EV fp s7.heap) σ8 H8 s8->tn (i + 1) s8.heap/\∀ b ∈ fp,H8 b=none:=λ {σ8 H8 s8} I8=>by
        refine⟨T.keep _ _ _ st7 λ b hb o e=>(I8.pin (b,o) (List.mem_append_right _ (List.mem_append_right _ (C4 hb e)))).1,λ b hb=>?_⟩
        obtain⟨o,e,d⟩:=T.obj _ _ st7 b hb
        exact(I8.pin (b,o) (List.mem_append_right _ (List.mem_append_right _ (C4 hb e)))).2.1
      refine thn (hg s3 (upd H2 s2.heap.objs.size ho) fp _ s7 σ5 H7 x u _ I7' r7 (step x H7 y7)) λ _ s8 ⟨σ8,H8,I8,q8⟩=>?_
      refine thn (hf s3 (upd H2 s2.heap.objs.size ho) fp _ s8 σ8 H8 _ I8 q8) λ b s9 ⟨H9,I9,q9⟩=>?_
      cases b with
      | false=>
        rw[if_neg Bool.false_ne_true]at q9 ⊢
        obtain⟨m',hm,w9⟩:=hN _ _ q9
        exact⟨m',hm,i + 1,σ8,H9,I9.unpinned,(keepI I9).1,(keepI I9).2,w9⟩
      | true=>
        rw[if_pos rfl]at q9 ⊢
        refine thn (he s3 (upd H2 s2.heap.objs.size ho) fp _ _ s9 σ8 H9 _ I9 q9) λ e10 s10 ⟨H10,I10,n10⟩=>?_
        obtain⟨m',hm,w10⟩:=hN _ _ n10
        exact⟨m',hm,i + 1,σ8,_,I10.unpinned,(keepI I10).1,(keepI I10).2,w10⟩
  exact MX hcl rfl (hd2 _ _ _) (hu2 _ _ _) loop (T.self X.A 0 _ _ _ (T.keep _ _ _ st3 λ b hb o e=>hk b o e) loop)
noncomputable def JJ(te:TE):TM:=λ D σ H Q=>te σ H λ y H1=>∃ S n i,H1 D=some (.set S n)/\y=.int i/\n < 1000/\Q (upd H1 D (.set (λ k=>S k || decide (k=i)) (if S i then n else n + 1)))
noncomputable def MV(elt:Expr):Value->Env->Sem Unit:=λ acc env=>do let v <- eval elt env;standAt elt.pos;let _ <- call (.builtin "set.add") [acc,v]
theorem TV{elt:Expr}{te:TE}(he:PE X elt te):PM X (MV elt) (JJ te):=by
  intro D pins s σ H Q I h
  unfold MV
  refine wpAny_bind (thn (he pins s σ H _ I h) λ u s1 ⟨y,H1,I1,r1,S,n,i,e,ey,l,q2⟩=>?_)
  subst ey
  obtain⟨t,rfl⟩:∃ t,u=.int i t:=by
    cases u <;> simp_all [RelV]
  refine wpAny_bind (wpAny_standAt (wpAny_bind ?_))
  have ok:=I1.hok D _ e
  refine call_set_add (k:=i) (knd:=intKind X.prog X.w) ?_ rfl ok ?_ λ h' hs hS=>wpAny_pure ⟨_,?_,q2⟩
  . simp[intKind,Value.isInt]
  . exact Nat.lt_of_le_of_lt (by omega:n + 1 <= 1000) (by decide)
  . have he:∃ q,h'.get? D=some q:=let ⟨q,_,_,_,hq,_⟩:=hS;⟨q,hq⟩
    exact S7 I1 (by rw[e];exact True.intro) hs he hS
theorem Ox{elt tg iter:Expr}{ifs:List Expr}{scope:Scope}{pos:Pos}{loc fr:List Str}{ix:List Nat}{wi:TI}{g:TG}{tf:TT}{te:TE}
    (hc:X.calm=true) (S:CSc X scope fr ix) (hi:PI X tg iter wi)
    (hg:∀ s H ex,PG (cCx X (loc ++ fr) scope s H ex) tg g) (hf:∀ s H ex,PF (cCx X (loc ++ fr) scope s H ex) ifs tf) (he:∀ s H ex,PE (cCx X (loc ++ fr) scope s H ex) elt te)
    (hs:∀ x,foldedSetIterable iter X.env x=pure x:=by intro _;rfl):PE X (.SetComp elt [⟨tg,iter,ifs,0⟩] scope pos) (Hh (.set (λ _=>false) 0) loc.length ix wi g tf (JJ te)):=by
  refine Oz (emit:=MV elt) (newAcc:=newSet (.type "set")) (pos:=firstIterPos [⟨tg,iter,ifs,0⟩] pos) hc S hi hg hf (λ s H ex=>TV (he s H ex)) rfl rfl (λ it acc env=>KQ ..) (λ _ _ _=>rfl) (λ _ _ _=>rfl) (λ _ _ _=>rfl) (λ _ _ _=>rfl) (λ pins s σ H Q I h=>?_) hs
  refine wpAny_newSet_of (knd:=intKind X.prog X.w) λ led hS=>h _ ?_
  exact I.laid (a:=s.heap.objs.size) (o:=.set (λ _=>false) 0) (t':=s.toks) (λ _ _ q=>Heap.get?_push_of_some _ q) (Nat.le_refl _) hS
end
end L2
namespace L2
open PySem PySem.Spec PyProof.Rows
section
variable{K:PySem.W.Frag}{ρ ρ':List Addr}{H H':Hp}{hd hd':Hd}
theorem RH.hputO(h:RH K ρ H hd){a:Addr}(out:a ∉ ρ){o ho:HO}(hl:H a=some o)(c:Chg H a)(n1:∀ ps,o ≠ .tbl ps)(n2:∀ φ,o ≠ .ext φ):RH K ρ (upd H a ho) hd:=by
  have gr:Grow H (upd H a ho):=Grow.refl.put c
  refine⟨h.len,h.nd,h.tabs.upd (λ ps z=>n1 ps (Option.some.inj (hl.symm.trans z))) (λ ps z=>n2 ps (Option.some.inj (hl.symm.trans z))),λ m o' b e1 e2=>?_⟩
  obtain⟨ho',q1,q2⟩:=h.ob m o' b e1 e2
  have:b ≠ a:=λ z=>out (by rw[<- z];exact List.mem_of_getElem? e2)
  exact⟨ho',by rw[AO this];exact q1,by simpa using q2.mono gr []⟩
theorem Ext.outk(x:Ext ρ H ρ' H'){a:Addr}{o:HO}(h:H a=some o)(out:a ∉ ρ):a ∉ ρ':=by
  obtain⟨r,rfl,fr⟩:=x.pre
  intro z
  rcases List.mem_append.mp z with z|z
  . exact out z
  . have:=fr _ z
    rw[h]at this;cases this
structure Acc(K:PySem.W.Frag)(α:Type)(o0:HO)(a0:α) where
  rel:List Addr->Hp->α->HO->Prop
  mono:∀ {ρ:List Addr} {H H':Hp} {a:α} {o:HO} (r:List Addr),Grow H H'->rel ρ H a o->rel (ρ ++ r) H' a o
  chg:∀ {ρ:List Addr} {H:Hp} {a:α} {o:HO},rel ρ H a o->(∀ xs,o ≠ .tup xs)/\∀ z u,o ≠ .frz z u
  chg2:∀ {ρ:List Addr} {H:Hp} {a:α} {o:HO},rel ρ H a o->(∀ xs,o ≠ .tbl xs)/\∀ z,o ≠ .ext z
  init:∀ ρ H,rel ρ H a0 o0
noncomputable abbrev MM(α:Type):=Ls->Hd->α->Option (α × Hd)
noncomputable def RM1{α:Type}{o0:HO}{a0:α}(B:Acc K α o0 a0)(t:TM)(m:MM α):Prop:=∀ (ρ:List Addr) (σ:St) (H:Hp) (hd:Hd) (ls:Ls) (a a':α) (hd':Hd) (Da:Addr) (o:HO) (Q:Hp->Prop),RH K ρ H hd->RL K ρ H ls σ->Da ∉ ρ->H Da=some o->B.rel ρ H a o ->
  m ls hd a=some (a',hd')->(∀ ρ' H' o',Ext ρ H ρ' H'->RH K ρ' H' hd'->H' Da=some o->B.rel ρ' H' a' o'->Q (upd H' Da o'))->t Da σ H Q
open Classical in
noncomputable def mGo{α:Type}(n:MG)(c:MT)(me:MM α)(g:Gd):List D->Ls->Hd->α->Option (α × Hd)
  | [],_,hd,a=>some (a,hd)
  | d :: r,ls,hd,a=>(n d ls hd).bind λ ls1=>(c ls1 hd).bind λ p=>if p.1=true then(me ls1 p.2 a).bind λ q=>if GOk q.2 g then mGo n c me g r ls1 q.2 q.1 else none else if GOk p.2 g then mGo n c me g r ls1 p.2 a else none
noncomputable def ID{α:Type}(k:Nat)(ix:List Nat)(mi:MI)(n:MG)(c:MT)(a0:α)(me:MM α):Ls->Hd->Option (α × Hd):=λ ls hd=>(mi ls hd).bind λ p=>mGo n c me p.1.2 p.1.1 (Dl k ix ls) p.2 a0
noncomputable def RNG{α:Type}{o0:HO}{a0:α}(B:Acc K α o0 a0)(t:TE)(m:Ls->Hd->Option (α × Hd)):Prop:=∀ (ρ:List Addr) (σ:St) (H:Hp) (hd:Hd) (ls:Ls) (Q:VK) (a:α) (hd':Hd),RH K ρ H hd->RL K ρ H ls σ->m ls hd=some (a,hd') ->
  (∀ ρ' H' Da o,Ext ρ H ρ' H'->RH K ρ' H' hd'->H Da=none->Da ∉ ρ'->H' Da=some o->B.rel ρ' H' a o->Q (.ref Da) H')->t σ H Q
theorem OS{α:Type}{o0:HO}{a0:α}{B:Acc K α o0 a0}{k:Nat}{ix:List Nat}{wi:TI}{g:TG}{tf:TT}{tm:TM}{mi:MI}{n:MG}{c:MT}{m:MM α}(hi:RIt K wi mi)(hg:RGt K g n)(hf:RT K tf c)(he:RM1 B tm m):RNG B (Hh o0 k ix wi g tf tm) (ID k ix mi n c a0 m):=by
  intro ρ σ H hd ls Q out hd' hR hL hm hQ
  obtain⟨⟨⟨ds,gd⟩,h1⟩,e1,hm⟩:=Option.bind_eq_some_iff.mp hm
  dsimp only at hm
  refine hi ρ σ H hd ls _ ds gd h1 hR hL e1 λ ρ1 H1 J x1 R1 G1 Y=>?_
  intro Da hDa
  obtain⟨R1',x1'⟩:=R1.hid (ho:=o0) hDa
  have oD:Da ∉ ρ1:=R1.out hDa
  have nD:H Da=none:=x1.none hR hDa R1
  refine⟨λ i mm σ2 H2=>mm=ds.length - i/\i <= ds.length/\∃ ρ2 ls2 hd2 a2 o2,Ext ρ1 H1 ρ2 H2/\Da ∉ ρ2/\H2 Da=some o2/\RH K ρ2 H2 hd2/\RL K ρ2 H2 ls2 σ2/\B.rel ρ2 H2 a2 o2/\GOk hd2 gd/\mGo n c m gd (ds.drop i) ls2 hd2 a2=some (out,hd'),
    ⟨ds.length,by simp,Nat.zero_le _,ρ1,_,h1,a0,o0,x1',oD,AW,R1',(LQ ((hL.ext hR x1).ext R1 x1')),B.init _ _,G1,by simpa using hm⟩,?_⟩
  rintro i mm σ2 H2 ⟨rfl,hi,ρ2,ls2,hd2,a2,o2,x2,oD2,hD2,R2,L2',r2,G2,hm2⟩
  obtain⟨Y1,Y2⟩:=Y ρ2 H2 hd2 x2 R2 G2 i
  by_cases hlt:i < ds.length
  . obtain⟨go,Y1⟩:=Y1 hlt
    have ed:ds.drop i=ds[i] :: ds.drop (i + 1):=List.drop_eq_getElem_cons hlt
    rw[ed]at hm2
    unfold mGo at hm2
    obtain⟨ls3,e3,hm2⟩:=Option.bind_eq_some_iff.mp hm2
    obtain⟨⟨bb,hd4⟩,e4,hm2⟩:=Option.bind_eq_some_iff.mp hm2
    refine .inr ⟨go,λ σ' H'=>∃ ρ2 ls2 hd2 a2 o2,Ext ρ1 H1 ρ2 H'/\Da ∉ ρ2/\H' Da=some o2/\RH K ρ2 H' hd2/\RL K ρ2 H' ls2 σ'/\B.rel ρ2 H' a2 o2/\GOk hd2 gd/\mGo n c m gd (ds.drop (i + 1)) ls2 hd2 a2=some (out,hd'),λ σ' H' z=>⟨ds.length - (i + 1),by omega,rfl,hlt,z⟩,λ x H3 y=>?_⟩
    obtain⟨ρ3,d3,x3,rfl,R3,e5,r3⟩:=Y1 x H3 y
    have e6:d3=ds[i]:=by
      have:ds[i]? = some ds[i]:=by simp[hlt]
      rw[this]at e5;exact(Option.some.inj e5).symm
    subst e6
    refine hg ρ3 σ2 H3 hd2 ls2 ls3 _ x _ R3 (L2'.ext R2 x3) r3 e3 λ σ4 L4=>?_
    refine hf ρ3 σ4 H3 hd2 ls3 _ bb hd4 R3 L4 e4 λ ρ5 H5 x5 R5=>?_
    have hD3:H3 Da=some o2:=x3.keep Da _ hD2 oD2 (B.chg2 r2).1
    have hD5:H5 Da=some o2:=x5.keep Da _ hD3 oD2 (B.chg2 r2).1
    have out5:Da ∉ ρ5:=x5.outk hD3 oD2
    have y25:=x3.trans R3 x5
    have r5:B.rel ρ5 H5 a2 o2:=by
      obtain⟨r,rfl,fr⟩:=y25.pre
      exact B.mono r (y25.grow R2) r2
    cases bb with
    | false=>
      rw[if_neg Bool.false_ne_true]at hm2 ⊢
      split at hm2
      . next g5=>exact⟨ρ5,ls3,hd4,a2,o2,x2.trans R2 y25,out5,hD5,R5,L4.ext R3 x5,r5,g5,hm2⟩
      . cases hm2
    | true=>
      rw[if_pos rfl]at hm2 ⊢
      obtain⟨⟨z,hd6⟩,e6,hm2⟩:=Option.bind_eq_some_iff.mp hm2
      dsimp only at hm2
      split at hm2
      . next g6=>
        refine he ρ5 σ4 H5 hd4 ls3 a2 z hd6 Da o2 _ R5 (L4.ext R3 x5) out5 hD5 r5 e6 λ ρ6 H6 o6 x6 R6 hD6 r6=>?_
        have out6:Da ∉ ρ6:=x6.outk hD5 out5
        have c6:Chg H6 Da:=⟨λ xs z=>(B.chg r5).1 xs (by rw[hD6]at z;exact Option.some.inj z),λ x u z=>(B.chg r5).2 x u (by rw[hD6]at z;exact Option.some.inj z)⟩
        have gr:Grow H6 (upd H6 Da o6):=Grow.refl.put c6
        have R7:=R6.hputO (ho:=o6) out6 hD6 c6 (B.chg2 r5).1 (B.chg2 r5).2
        have x12:=(x2.trans R2 y25).trans R5 x6
        have ext7:Ext ρ1 H1 ρ6 (upd H6 Da o6):=⟨x12.pre,λ b o q nb t=>by
          have:b ≠ Da:=Aj q hDa
          rw[AO this];exact x12.keep b o q nb t,λ b ps q=>by
          have:b ≠ Da:=Aj q hDa
          rw[AO this];exact x12.tab b ps q⟩
        have L6:=(L4.ext R3 x5).ext R5 x6
        exact⟨ρ6,ls3,hd6,z,o6,ext7,out6,AW,R7,⟨L6.len,λ i d e=>let ⟨v,a,b⟩:=L6.ob i d e;⟨v,a,by simpa using b.mono gr []⟩⟩,by simpa using B.mono [] gr r6,g6,hm2⟩
      . cases hm2
  . have e:i=ds.length:=by omega
    subst e
    rw[List.drop_length]at hm2
    unfold mGo at hm2
    cases hm2
    exact .inl ⟨Y2 rfl,hQ ρ2 H2 Da o2 (x1.trans R1 x2) R2 nD oD2 hD2 r2⟩
noncomputable def E8(l:List Int)(i:Int):List Int:=if i ∈ l then l else l ++ [i]
noncomputable def UU(K:PySem.W.Frag):Acc K (List Int) (.set (λ _=>false) 0) [] where
  rel:=λ ρ H a o=>o=.set (λ k=>decide (k ∈ a)) a.length
  mono:=λ r g e=>e
  chg:=λ e=>⟨λ _ z=>(by subst e;cases z),λ _ _ z=>(by subst e;cases z)⟩
  chg2:=λ e=>⟨λ _ z=>(by subst e;cases z),λ _ z=>(by subst e;cases z)⟩
  init:=λ ρ H=>by simp
open Classical in
noncomputable def JO(me:ME):MM (List Int):=λ ls hd a=>(me ls hd).bind λ q=>match q.1 with
  | .im (.int i)=>if a.length < 1000 then some (E8 a i,q.2)else none
  | _=>none
theorem Sq{te:TE}{me:ME}(he:RE K te me):RM1 (UU K) (JJ te) (JO me):=by
  intro ρ σ H hd ls a a' hd' Da o Q hR hL out hD hrel hm hQ
  obtain⟨⟨d1,h1⟩,e1,hm⟩:=Option.bind_eq_some_iff.mp hm
  have hrel:o=.set (λ k=>decide (k ∈ a)) a.length:=hrel
  subst hrel
  dsimp only at hm
  split at hm
  . next i=>
    split at hm
    . next c=>
      cases hm
      refine he ρ σ H hd ls _ _ _ hR hL e1 λ ρ1 H1 v1 x1 R1 r1=>?_
      simp only[RD,RI]at r1
      subst r1
      have hD1:H1 Da=some (.set (λ k=>decide (k ∈ a)) a.length):=x1.keep Da _ hD out nt
      refine⟨_,_,i,hD1,rfl,c,hQ ρ1 H1 _ x1 R1 hD1 ?_⟩
      show HO.set _ _=HO.set _ _
      unfold E8
      by_cases hi:i ∈ a
      . simp only[hi,decide_true,if_true]
        congr 1
        funext k
        by_cases hk:k=i
        . subst hk;simp[hi]
        . simp[hk]
      . simp only[hi,decide_false,if_false,Bool.false_eq_true,List.length_append,List.length_singleton]
        congr 1
        funext k
        simp[List.mem_append]
    . cases hm
  . cases hm
noncomputable def Lh(t:TE):TE:=tCB (λ xs H Q=>∃ a S n,xs=[V.ref a]/\H a=some (.set S n)/\Q (.int n) H) (C1 t CT)
noncomputable def JN(m:Ls->Hd->Option (List Int × Hd)):ME:=λ ls hd=>(m ls hd).bind λ p=>some (.im (.int p.1.length),p.2)
theorem Qj{t:TE}{m:Ls->Hd->Option (List Int × Hd)}(h:RNG (UU K) t m):RE K (Lh t) (JN m):=by
  intro ρ σ H hd ls Q d hd' hR hL hm hQ
  obtain⟨⟨a,h1⟩,e1,hm⟩:=Option.bind_eq_some_iff.mp hm
  cases hm
  refine h ρ σ H hd ls _ a h1 hR hL e1 λ ρ1 H1 Da o x1 R1 nD oD hD r=>?_
  have r:o=.set (λ k=>decide (k ∈ a)) a.length:=r
  subst r
  exact⟨Da,_,_,rfl,hD,hQ ρ1 H1 _ x1 R1 (by simp[RD,RI])⟩
theorem Nq{X:Cx}:CallR X (.builtin "len") (λ xs H Q=>∃ a S n,xs=[V.ref a]/\H a=some (.set S n)/\Q (.int n) H):=by
  intro pins s σ H xs us Q I r h
  obtain⟨a,S,n,rfl,ha,q⟩:=h
  obtain⟨u,rfl,ru⟩:=Cf r
  cases ru
  obtain⟨o,es,ep,t,ho,hex,hd,_,_,hb,hf,rfl⟩:=I.hok a _ ha
  exact call_len_set ho hex hd hf (Int.lt_of_lt_of_le (Int.ofNat_lt.mpr hb) (by decide)) ⟨.int es.size,H,I.tok _,⟨_,rfl⟩,q⟩
theorem Rb{X:Cx}{e:Expr}{te:TE}{p pos:Pos}(hm:X.mg "len"=none)(ha:PE X e te)(hg:Gl X "len":=by rfl)
    (he:starEach [e] X.env=[(false,eval e X.env)]:=by rfl):PE X (.Call (.Name "len" p) [e] [] pos) (Lh te):=by
  exact EW (X:=X) (x:="len") (p:=p) (pos:=pos) Nq hg hm L2.bt_len (Ci ha DQ he) (by decide) (by decide) he (by rfl)
variable(K:PySem.W.Frag){X:Cx}
theorem Om{elt tg iter:Expr}{ifs:List Expr}{scope:Scope}{pos p pos':Pos}{loc fr:List Str}{ix:List Nat}{wi:TI}{g:TG}{tf:TT}{te:TE}{mi:MI}{n:MG}{mf:MT}{me:ME}(hm:X.mg "len"=none)(hc:X.calm=true)(S:CSc X scope fr ix)(hi:QI K X tg iter wi mi)
    (hg:∀ s H ex,QG K (cCx X (loc ++ fr) scope s H ex) tg g n) (hf:∀ s H ex,QF K (cCx X (loc ++ fr) scope s H ex) ifs tf mf) (he:∀ s H ex,QE K (cCx X (loc ++ fr) scope s H ex) elt te me)
    (hs:∀ x,foldedSetIterable iter X.env x=pure x:=by intro _;rfl) (hgl:Gl X "len":=by rfl)
    (hst:starEach [.SetComp elt [⟨tg,iter,ifs,0⟩] scope pos] X.env=[(false,eval (.SetComp elt [⟨tg,iter,ifs,0⟩] scope pos) X.env)]:=by rfl):QE K X (.Call (.Name "len" p) [.SetComp elt [⟨tg,iter,ifs,0⟩] scope pos] [] pos') (Lh (Hh (.set (λ _=>false) 0) loc.length ix wi g tf (JJ te))) (JN (ID loc.length ix mi n mf [] (JO me))):=
  ⟨Rb hm (Ox hc S hi.p (λ s H ex=>(hg s H ex).p) (λ s H ex=>(hf s H ex).p) (λ s H ex=>(he s H ex).p) hs) hgl hst,
   Qj (OS hi.r (hg X.s₀ X.H₀ []).r (hf X.s₀ X.H₀ []).r (Sq (he X.s₀ X.H₀ []).r))⟩
variable{a b:Expr}{ta tb:TE}{ma mb:ME}{pos:Pos}
end
end L2
namespace L2
open PySem PySem.Spec PyProof.Rows
noncomputable def WP{α:Type}(o:Option (α × Hd))(Q:α->Hd->Prop):Prop:=∃ z h,o=some (z,h)/\Q z h
noncomputable abbrev WS(m:MS)(ls:Ls)(hd:Hd)(Q:Fl->Hd->Prop):Prop:=WP (m ls hd) Q
noncomputable abbrev WE(m:ME)(ls:Ls)(hd:Hd)(Q:D->Hd->Prop):Prop:=WP (m ls hd) Q
noncomputable abbrev WT(m:MT)(ls:Ls)(hd:Hd)(Q:Bool->Hd->Prop):Prop:=WP (m ls hd) Q
noncomputable abbrev WA(m:MA)(ls:Ls)(hd:Hd)(Q:List D->Hd->Prop):Prop:=WP (m ls hd) Q
noncomputable abbrev WO(m:MO1)(ls:Ls)(hd:Hd)(Q:Option Int->Hd->Prop):Prop:=WP (m ls hd) Q
noncomputable abbrev WI(m:MI)(ls:Ls)(hd:Hd)(Q:List D × Gd->Hd->Prop):Prop:=WP (m ls hd) Q
noncomputable abbrev WF(F:List D->Hd->Option (D × Hd))(ds:List D)(hd:Hd)(Q:D->Hd->Prop):Prop:=WP (F ds hd) Q
section
variable{α β:Type}{o:Option (α × Hd)}{Q:α->Hd->Prop}{R:β->Hd->Prop}{ls:Ls}{hd:Hd}{d e:D}
theorem WP.some{z:α}{h:Hd}(q:Q z h):WP (some (z,h)) Q:=⟨z,h,rfl,q⟩
theorem WP.mono{Q':α->Hd->Prop}(h:WP o Q)(k:∀ z h,Q z h->Q' z h):WP o Q':=let ⟨z,x,e,q⟩:=h;⟨z,x,e,k z x q⟩
theorem WP.bind{f:α × Hd->Option (β × Hd)}(h:WP o λ z x=>WP (f (z,x)) R):WP (o.bind f) R:=by
  obtain⟨z,x,e,q⟩:=h
  rw[e];exact q
theorem WP.eq{z:α}{h:Hd}(e:o=Option.some (z,h))(q:Q z h):WP o Q:=⟨z,h,e,q⟩
end
section
variable{ls:Ls}{hd:Hd}{a b:MS}{ma mb mc:ME}{ta tb:MT}{m m1 m2:MA}{n:MG}{ns:MGs}{mi:MI}{d e:D}{i j:Nat}{QS:Fl->Hd->Prop}{QE:D->Hd->Prop}{QT:Bool->Hd->Prop}{QA:List D->Hd->Prop}{QO:Option Int->Hd->Prop}{QI:List D × Gd->Hd->Prop}
noncomputable def EA(b:MS)(Q:Fl->Hd->Prop):Fl->Hd->Prop
  | .nx l,h=>WS b l h Q
  | f,h=>Q f h
theorem AH(h:WS a ls hd (EA b QS)):WS (AF a b) ls hd QS:=by
  obtain⟨f,x,e,q⟩:=h
  show WP (AF a b ls hd) QS
  rw[UB,e]
  cases f <;> first|exact q|exact⟨_,_,rfl,q⟩
theorem A9{l:Ls}{h:Hd}(q:WS b l h QS):EA b QS (.nx l) h:=q
theorem JZ{h:Hd}(q:QS (.rt d) h):EA b QS (.rt d) h:=q
theorem An(h:QS (.nx ls) hd):WS BD ls hd QS:=⟨_,_,rfl,h⟩
theorem BE(h:WE ma ls hd λ d x=>QS (.rt d) x):WS (Am ma) ls hd QS:=WP.bind (h.mono λ _ _ q=>WP.some q)
theorem Aw(h:WE ma ls hd λ d x=>QS (.nx (ls.set i (some d))) x):WS (Ak i ma) ls hd QS:=by
  obtain⟨d,x,e,q⟩:=h
  exact⟨_,_,by simp only[Ni,e,Option.bind_some,S3,Option.map_some],q⟩
theorem EQ(h:WE ma ls hd λ d x=>∃ l,n d ls x=some l/\QS (.nx l) x):WS (E6 ma n) ls hd QS:=by
  obtain⟨d,x,e,l,e2,q⟩:=h
  exact⟨_,_,by simp only[Ni,e,Option.bind_some,e2,Option.map_some],q⟩
theorem Cz(h:WE ma ls hd λ _ x=>QS (.nx ls) x):WS (Bx ma) ls hd QS:=WP.bind (h.mono λ _ _ q=>WP.some q)
theorem Ua(h:WT ta ls hd λ c x=>if c=true then WS a ls x QS else WS b ls x QS):WS (BX ta a b) ls hd QS:=by
  refine WP.bind (h.mono λ c x q=>?_)
  dsimp only
  cases c <;> simpa using q
theorem Bz(h:WT ta ls hd λ c x=>(c=true->WS a ls x QS)/\(c=false->WS b ls x QS)):WS (BX ta a b) ls hd QS:=
  Ua (h.mono λ c x q=>by cases c <;> simp_all)
theorem JS{ix:List Nat}(h:WA m ls hd λ ds x=>ds.length=ix.length/\QS (.nx ((ix.zip ds).foldl (λ l q=>l.set q.1 (some q.2)) ls)) x):WS (Cj ix m) ls hd QS:=by
  obtain⟨d,x,e,q,q2⟩:=h
  exact⟨_,_,by simp only[UD,e,Option.bind_some,q,if_true],q2⟩
noncomputable def WL(n:MG)(b:MS)(g:Gd)(ds:List D)(ls:Ls)(hd:Hd)(Q:Fl->Hd->Prop):Prop:=WP (DT n b g ds ls hd) Q
theorem CF(h:WI mi ls hd λ p x=>WL n b p.2 p.1 ls x QS):WS (Ck mi n b) ls hd QS:=WP.bind (h.mono λ _ _ q=>q)
noncomputable def Hg(g:Gd)(P:Ls->Hd->Prop)(Q:Fl->Hd->Prop):Fl->Hd->Prop
  | .nx l,h=>GOk h g/\P l h
  | .ct l,h=>GOk h g/\P l h
  | .bk l,h=>Q (.nx l) h
  | .rt d,h=>Q (.rt d) h
theorem C8{g:Gd}(P:List D->Ls->Hd->Prop):∀ {ds:List D} {ls:Ls} {hd:Hd},P ds ls hd ->
    (∀ d r ls hd,P (d :: r) ls hd->∃ ls1,n d ls hd=some ls1/\WS b ls1 hd (Hg g (P r) QS))->(∀ ls hd,P [] ls hd->QS (.nx ls) hd)->WL n b g ds ls hd QS
  | [],ls,hd,h,_,z=>⟨_,_,by unfold DT;rfl,z _ _ h⟩
  | d :: r,ls,hd,h,k,z=>by
    obtain⟨ls1,e1,f,x,e2,q⟩:=k d r ls hd h
    unfold WL
    unfold DT
    rw[e1,Option.bind_some,e2,Option.bind_some]
    cases f with
    | nx l=>exact(show GOk x g/\P r l x from q).1 |> λ g1=>by dsimp only;rw[if_pos g1];exact C8 P q.2 k z
    | ct l=>exact(show GOk x g/\P r l x from q).1 |> λ g1=>by dsimp only;rw[if_pos g1];exact C8 P q.2 k z
    | bk l=>exact⟨_,_,rfl,q⟩
    | rt l=>exact⟨_,_,rfl,q⟩
theorem A3(h:ls[i]? = some (some d))(q:QE d hd):WE (A0 i) ls hd QE:=⟨d,hd,by rw[Ng,h],q⟩
theorem Ag{i:I}(q:QE (.im i) hd):WE (mC i) ls hd QE:=⟨_,_,rfl,q⟩
theorem AE{f:D->D->Hd->Option (D × Hd)}(h:WE ma ls hd λ d x=>WE mb ls x λ e y=>WP (f d e y) QE):WE (mOp f ma mb) ls hd QE:=WP.bind (h.mono λ _ _ q=>WP.bind (q.mono λ _ _ q=>q))
theorem Ub(h:WT ta ls hd λ c x=>if c=true then WE ma ls x QE else WE mb ls x QE):WE (mIf ta ma mb) ls hd QE:=by
  refine WP.bind (h.mono λ c x q=>?_)
  dsimp only
  cases c <;> simpa using q
theorem Mk(h:WT ta ls hd λ c x=>(c=true->WE ma ls x QE)/\(c=false->WE mb ls x QE)):WE (mIf ta ma mb) ls hd QE:=
  Ub (h.mono λ c x q=>by cases c <;> simp_all)
theorem ES(h:WA m ls hd λ ds x=>BU ds.length/\QE (B4 ds) x):WE (BT m) ls hd QE:=WP.bind (h.mono λ ds x q=>by dsimp only;rw[if_pos q.1];exact WP.some q.2)
theorem Aq(h:WA m ls hd λ ds x=>QE (.mu x.length) (x ++ [.lst ds])):WE (B1 m) ls hd QE:=WP.bind (h.mono λ _ _ q=>WP.some q)
theorem Dn{g:List D->Option D}(h:WA m ls hd λ ds x=>∃ d,g ds=some d/\QE d x):WE (E5 g m) ls hd QE:=by
  obtain⟨ds,x,e,d,e2,q⟩:=h
  exact⟨d,x,by simp only[UJ,e,Option.bind_some,e2,Option.map_some],q⟩
theorem Mi(h:WA m ls hd λ ds x=>WE ma ls x λ e y=>∃ i d,e=.im (.int i)/\atI ds i=some d/\QE d y):WE (HL m ma) ls hd QE:=by
  obtain⟨ds,x,e,d,y,e2,i,z,rfl,e4,q⟩:=h
  exact⟨z,y,by simp only[UF,e,Option.bind_some,e2,e4,Option.map_some],q⟩
theorem C7{f:List D->Hd->Option (D × Hd)}(h:WA m ls hd λ ds x=>WP (f ds x) QE):WE (mCB f m) ls hd QE:=WP.bind (h.mono λ _ _ q=>q)
theorem Hf{f:D->List D->Hd->Option (D × Hd)}(h:WE ma ls hd λ d x=>(∃ l,Av x d=some l)/\WA m ls x λ ds y=>WP (f d ds y) QE):WE (mMt f ma m) ls hd QE:=by
  obtain⟨d,x,e,⟨l,hl⟩,q⟩:=h
  unfold WE
  rw[VF,e,Option.bind_some]
  dsimp only
  rw[hl]
  exact WP.bind (q.mono λ _ _ q=>q)
theorem CS{F:List D->Hd->Option (D × Hd)}(h:WA m ls hd λ ds x=>WF F ds x QE):WE (Cc F m) ls hd QE:=WP.bind (h.mono λ _ _ q=>q)
theorem SJ(h:WE ma ls hd λ d x=>∃ i,d=.im (.int i)/\QE (.im (.int (-i))) x):WE (HK ma) ls hd QE:=by
  obtain⟨d,x,e,i,rfl,q⟩:=h
  exact⟨_,x,by simp only[UE,e,Option.bind_some],q⟩
theorem Q7(h:WT (AT ma) ls hd λ c x=>if c=true then WE mb ls x QE else QE (.im (.bl false)) x):WE (Gh ma mb) ls hd QE:=by
  refine WP.bind (h.mono λ c x q=>?_)
  dsimp only
  cases c
  . exact WP.some (by simpa using q)
  . simpa using q
theorem SI(h:WT (AT ma) ls hd λ c x=>if c=true then QE (.im (.bl true)) x else WE mb ls x QE):WE (KJ ma mb) ls hd QE:=by
  refine WP.bind (h.mono λ c x q=>?_)
  dsimp only
  cases c
  . simpa using q
  . exact WP.some (by simpa using q)
theorem B5(h:WE ma ls hd λ d x=>∃ b,d=.im (.bl b)/\QT b x):WT (AT ma) ls hd QT:=by
  obtain⟨d,x,e,b,rfl,q⟩:=h
  exact⟨b,x,by simp only[S0,e,Option.bind_some],q⟩
theorem Dm(h:WE ma ls hd λ d x=>∃ b,E1 x d=some b/\QT b x):WT (Cy ma) ls hd QT:=by
  obtain⟨d,x,e,b,e2,q⟩:=h
  exact⟨b,x,by simp only[U8,e,Option.bind_some,e2,Option.map_some],q⟩
theorem Fy(h:WT ta ls hd λ c x=>QT (!c) x):WT (GI ta) ls hd QT:=WP.bind (h.mono λ _ _ q=>WP.some q)
theorem Fz(h:WT ta ls hd λ c x=>if c=true then WT tb ls x QT else QT false x):WT (Ed ta tb) ls hd QT:=by
  refine WP.bind (h.mono λ c x q=>?_)
  dsimp only
  cases c
  . exact WP.some (by simpa using q)
  . simpa using q
theorem LW(h:WT ta ls hd λ c x=>if c=true then QT true x else WT tb ls x QT):WT (mOr ta tb) ls hd QT:=by
  refine WP.bind (h.mono λ c x q=>?_)
  dsimp only
  cases c
  . simpa using q
  . exact WP.some (by simpa using q)
theorem BZ(h:QT true hd):WT CN ls hd QT:=⟨_,_,rfl,h⟩
theorem AB(h:QA [] hd):WA A7 ls hd QA:=⟨_,_,rfl,h⟩
theorem A4(h:WE ma ls hd λ d x=>WA m ls x λ ds y=>QA (d :: ds) y):WA (A2 ma m) ls hd QA:=WP.bind (h.mono λ _ _ q=>WP.bind (q.mono λ _ _ q=>WP.some q))
theorem CG(h:WA m ls hd λ ds x=>BU ds.length/\QA ds x):WA (C6 m) ls hd QA:=WP.bind (h.mono λ ds x q=>by dsimp only;rw[if_pos q.1];exact WP.some q.2)
theorem Kn{k:Int}(e:m ls hd=some ([.im (.int k)],hd))(hk:JK k)(q:QA (AQ 0 k.toNat) hd):WA (GH m) ls hd QA:=⟨_,_,by simp only[UC,e,Option.bind_some,hk,if_true],q⟩
theorem Mm{ml mh:MO1}(h:WE ma ls hd λ d x=>WO ml ls x λ l y=>WO mh ls y λ u z=>∃ ds,Av z d=some ds/\QA (DV ds l u) z):WA (Ff ma ml mh) ls hd QA:=by
  obtain⟨d,x,e,l,y,e2,u,z,e3,ds,e4,q⟩:=h
  exact⟨_,z,by simp only[UA,e,Option.bind_some,e2,e3,e4],q⟩
theorem SH{ml mh:MO1}(h:WE ma ls hd λ d x=>WO ml ls x λ l y=>WO mh ls y λ u z=>∃ ds,Ad d=some ds/\¬ (HT.sIx ds.length 0 l=0/\HT.sIx ds.length ds.length u=ds.length)/\QE (B4 (DV ds l u)) z):WE (KH ma ml mh) ls hd QE:=by
  obtain⟨d,x,e,l,y,e2,u,z,e3,ds,e4,c,q⟩:=h
  exact⟨_,z,by simp only[U9,e,Option.bind_some,e2,e3,e4];rw[if_pos c],q⟩
theorem LY(h:QO none hd):WO CL ls hd QO:=⟨_,_,rfl,h⟩
theorem IQ(h:WE ma ls hd λ d x=>∃ i,d=.im (.int i)/\QO (some i) x):WO (Dj ma) ls hd QO:=by
  obtain⟨d,x,e,i,rfl,q⟩:=h
  exact⟨_,x,by simp only[S2,e,Option.bind_some],q⟩
theorem Gz(h:WA m ls hd λ ds x=>∃ k,ds=[.im (.int k)]/\G8 k/\QI (AQ 0 k.toNat,[]) x):WI (Eb m) ls hd QI:=by
  obtain⟨ds,x,e,k,rfl,c,q⟩:=h
  exact⟨_,x,by simp only[UH,e,Option.bind_some,c,if_true],q⟩
theorem JG(h:WA m ls hd λ ds x=>∃ j k,ds=[.im (.int j),.im (.int k)]/\Lm j k/\QI (AQ j (k - j).toNat,[]) x):WI (Gf m) ls hd QI:=by
  obtain⟨ds,x,e,j,k,rfl,c,q⟩:=h
  exact⟨_,x,by simp only[S5,e,Option.bind_some,c,if_true],q⟩
theorem Ey(h:WE ma ls hd λ d x=>∃ ds,Ad d=some ds/\QI (ds,[]) x):WI (Dg ma) ls hd QI:=by
  obtain⟨d,x,e,ds,e2,q⟩:=h
  exact⟨_,x,by simp only[UG,e,Option.bind_some,e2,Option.map_some],q⟩
theorem SG(h:WA m ls hd λ ds x=>QI (ds,[]) x):WI (Tu m) ls hd QI:=by
  obtain⟨ds,x,e,q⟩:=h
  exact⟨_,x,by simp only[UI,e,Option.map_some],q⟩
theorem Dz(h:WE ma ls hd λ d x=>∃ k ds,d=.mu k/\x[k]? = some (.lst ds)/\QI (ds,[(k,ds)]) x):WI (CD ma) ls hd QI:=by
  obtain⟨d,x,e,k,ds,rfl,e2,q⟩:=h
  exact⟨_,x,by simp only[Nh,e,Option.bind_some,e2],q⟩
theorem B6{k:Nat}{ix:List Nat}(h:WI mi ls hd λ p x=>BU p.1.length/\WP (B8 n ta ma p.2 p.1 (Dl k ix ls) x) QA):WA (BP k ix mi n ta ma) ls hd QA:=WP.bind (h.mono λ p x q=>by dsimp only;rw[if_pos q.1];exact q.2)
theorem JW{g:Gd}(P:List D->List D->Ls->Hd->Prop):∀ {ds es:List D} {ls:Ls} {hd:Hd},P ds es ls hd ->
    (∀ d r es ls hd,P (d :: r) es ls hd->∃ ls1,n d ls hd=some ls1/\WT ta ls1 hd λ c x=>if c=true then WE ma ls1 x λ z y=>GOk y g/\P r (es ++ [z]) ls1 y else GOk x g/\P r es ls1 x) ->
    WP (B8 n ta ma g ds ls hd) λ zs x=>∃ ls',P [] (es ++ zs) ls' x
  | [],es,ls,hd,h,k=>⟨_,_,by unfold B8;rfl,ls,by simpa using h⟩
  | d :: r,es,ls,hd,h,k=>by
    obtain⟨ls1,e1,c,x,e2,q⟩:=k d r es ls hd h
    unfold B8
    rw[e1,Option.bind_some,e2,Option.bind_some]
    cases c with
    | true=>
      rw[if_pos rfl]at q ⊢
      obtain⟨z,y,e3,g3,p3⟩:=q
      obtain⟨zs,y2,e4,ls',p4⟩:=JW P p3 k
      rw[e3,Option.bind_some]
      dsimp only
      rw[if_pos g3,e4]
      exact⟨z :: zs,y2,rfl,ls',by simpa using p4⟩
    | false=>
      rw[if_neg Bool.false_ne_true]at q ⊢
      dsimp only
      rw[if_pos q.1]
      exact JW P q.2 k
theorem G4{i j:Int}(q:QE (.im (.int (i + j))) hd):WP (BK (.im (.int i)) (.im (.int j)) hd) QE:=⟨_,_,by simp,q⟩
theorem He{i j:Int}(q:QE (.im (.int (i - j))) hd):WP (JP (.im (.int i)) (.im (.int j)) hd) QE:=⟨_,_,by simp,q⟩
theorem Cm{i j:Int}(c:CQ i j)(q:QE (.im (.int (i * j))) hd):WP (BY (.im (.int i)) (.im (.int j)) hd) QE:=⟨_,_,by simp[c],q⟩
theorem SC{i j:Int}(c:C3 j)(q:QE (.im (.int (i % j))) hd):WP (Ee (.im (.int i)) (.im (.int j)) hd) QE:=⟨_,_,by simp[c],q⟩
theorem Kl{i j:Int}(c:Gn j)(q:QE (.im (.int (i / j))) hd):WP (Fk (.im (.int i)) (.im (.int j)) hd) QE:=⟨_,_,by simp[c],q⟩
theorem Ek{i j:Int}(q:QE (.im (.bl (decide (i < j)))) hd):WP (gLt (.im (.int i)) (.im (.int j)) hd) QE:=⟨_,_,by simp,q⟩
theorem PV{i j:Int}(q:QE (.im (.bl (decide (i <= j)))) hd):WP (gLe (.im (.int i)) (.im (.int j)) hd) QE:=⟨_,_,by simp,q⟩
theorem PX{i j:Int}(q:QE (.im (.bl (decide (j < i)))) hd):WP (gGt (.im (.int i)) (.im (.int j)) hd) QE:=⟨_,_,by simp,q⟩
theorem LX{i j:Int}(q:QE (.im (.bl (decide (j <= i)))) hd):WP (gGe (.im (.int i)) (.im (.int j)) hd) QE:=⟨_,_,by simp,q⟩
theorem ER{i j:Int}(q:QE (.im (.bl (decide (i=j)))) hd):WP (gEq (.im (.int i)) (.im (.int j)) hd) QE:=⟨_,_,by simp,q⟩
theorem Md{i j:Int}(q:QE (.im (.bl (!decide (i=j)))) hd):WP (gNe (.im (.int i)) (.im (.int j)) hd) QE:=⟨_,_,by simp,q⟩
theorem Mf{i j:Str}(q:QE (.im (.bl (decide (i=j)))) hd):WP (gEq (.im (.str i)) (.im (.str j)) hd) QE:=⟨_,_,by simp,q⟩
theorem JT{i j:Str}(q:QE (.im (.bl (!decide (i=j)))) hd):WP (gNe (.im (.str i)) (.im (.str j)) hd) QE:=⟨_,_,by simp,q⟩
theorem AV{i:Int}{ds:List D}(e1:Ar hd d=some ds)(e2:atI ds i=some e)(q:QE e hd):WP (gIx d (.im (.int i)) hd) QE:=⟨_,_,by rw[VG,e1,Option.bind_some,e2];rfl,q⟩
theorem Kk{i j:Int}(q:QE (.im (.int (max i j))) hd):WP (Pu [.im (.int i),.im (.int j)] hd) QE:=⟨_,_,rfl,by have:(if j > i then j else i)=max i j:=(by split <;> omega);rw[this];exact q⟩
theorem Kj{i j:Int}(q:QE (.im (.int (min i j))) hd):WP (Pt [.im (.int i),.im (.int j)] hd) QE:=⟨_,_,rfl,by have:(if j < i then j else i)=min i j:=(by split <;> omega);rw[this];exact q⟩
theorem Ct{tp:Bool}{g:List D->Option D}{ds:List D}{z:D}(e1:(if tp then Ar hd d else Av hd d)=some ds)(e2:g ds=some z)(q:QE z hd):WP (f1 tp g [d] hd) QE:=⟨_,_,by rw[VH,e1,Option.bind_some,e2];rfl,q⟩
theorem JU{k:Nat}{x:D}{ds:List D}(e1:hd[k]? = some (.lst ds))(c:Ev ds.length)(q:QE (.im .non) (hd.set k (.lst (ds ++ [x])))):WP (Bn (.mu k) [x] hd) QE:=⟨_,_,by rw[UK,e1];simp only[c,if_true],q⟩
theorem IP(h:WE mc ls hd λ p x=>WE ma ls x λ q y=>WE mb ls y λ r z=>∃ w i j ds,q=.mu w/\r=.im (.int i)/\z[w]? = some (.lst ds)/\ixN ds.length i=some j/\QS (.nx ls) (z.set w (.lst (ds.set j p)))):WS (EF ma mb mc) ls hd QS:=by
  obtain⟨p,x,e1,q,y,e2,r,z,e3,w,i,j,ds,rfl,rfl,e5,c,qq⟩:=h
  exact⟨_,_,by simp only[S4,e1,Option.bind_some,e2,e3,e5,c,Option.map_some],qq⟩
theorem BJ{k n:Nat}{m:MS}{ds:List D}{Q:D->Hd->Prop}(hl:ds.length=k)(h:WS m (ds.map some ++ List.replicate (n - k) none) hd λ f x=>match f with
    | .rt d=>Q d x
    | .nx _=>Q (.im .non) x
    | _=>False):WF (mkF k n m) ds hd Q:=by
  obtain⟨f,x,e,q⟩:=h
  unfold WF mkF
  rw[if_pos hl,e]
  cases f with
  | nx l=>exact⟨_,_,rfl,q⟩
  | rt l=>exact⟨_,_,rfl,q⟩
  | bk l=>exact q.elim
  | ct l=>exact q.elim
theorem Az{F:List D->Hd->Option (D × Hd)}(h:WA m ls hd λ ds x=>BB 0 ds=true/\WF F ds [] λ d _=>∃ i,d=.im i/\QE (.im i) x):WE (AI 0 F m) ls hd QE:=by
  obtain⟨ds,x,e,c,d,y,e2,i,rfl,q⟩:=h
  exact⟨_,_,Nu e c e2,q⟩
end
structure Tap(T:Nat->MO->MO->Prop)(P:List D->Hd->Option (D × Hd)):Prop where
  cl:∀ {k:Nat} {a b:MO},T k a b->clO 2 a=true/\clO 2 b=true
  le:∀ {j k:Nat} {a b:MO},T k a b->j <= k->T j a b
  pick:∀ {k:Nat} {a b:MO} {many:Int},T (k + 1) a b->0 < many->many < 1073741824->∃ r a' b',0 <= r/\r < many/\P [.mu 1,.im (.int many)] [a,b]=some (.im (.int r),[a',b'])/\T k a' b'
section
variable{T:Nat->MO->MO->Prop}{P:List D->Hd->Option (D × Hd)}{a b:MO}{rest:Hd}{ls:Ls}{m:MA}{QE:D->Hd->Prop}{n c:Nat}
theorem Tap.draw(t:Tap T P)(hT:T (n + 1) a b){many:Int}{hd:Hd}(e:m ls hd=some ([.mu 1,.im (.int many)],a :: b :: rest))(h0:0 < many)(h1:many < 1073741824)
    (k:∀ r a' b',T n a' b'->0 <= r->r < many->QE (.im (.int r)) (a' :: b' :: rest)):WE (AI 2 P m) ls hd QE:=by
  obtain⟨r,a',b',p1,p2,e2,hT'⟩:=t.pick hT h0 h1
  refine⟨_,_,KZ (w:=2) (ds:=[.mu 1,.im (.int many)]) (pre:=[a,b]) (pre':=[a',b']) (rest:=rest) (g:=[]) rfl rfl e (by simp) ?_ ?_ (by simpa using e2),k r a' b' hT' p1 p2⟩
  . simp[t.cl hT]
  . simp[t.cl hT']
end
end L2
namespace L2
open PySem PySem.Spec PyProof.Rows
section
variable{K:PySem.W.Frag}{ρ ρ':List Addr}{H H':Hp}{hd hd':Hd}
noncomputable def FV(w:Nat)(ls:Ls):Ls:=ls.map λ o=>match o with
  | some d=>if clD w d=true then some d else none
  | none=>none
noncomputable def FW(w:Nat):Fl->Option Fl
  | .nx ls=>some (.nx (FV w ls))
  | .bk ls=>some (.bk (FV w ls))
  | .ct ls=>some (.ct (FV w ls))
  | .rt d=>if clD w d=true then some (.rt d)else none
noncomputable def I0(w:Nat)(m:MS):MS:=λ ls hd=>if hd.length <= w then(m ls hd).bind λ p=>if(p.2.take w).all (clO w)=true then(FW w p.1).map λ f=>(f,p.2.take w)else none else none
theorem RL.trim{ls:Ls}{σ:St}(h:RL K ρ H ls σ)(w:Nat):RL K (ρ.take w) H (FV w ls) σ:=by
  refine⟨by simp[FV,h.len],λ i d e=>?_⟩
  unfold FV at e
  rw[List.getElem?_map]at e
  cases q:ls[i]? with
  | none=>rw[q]at e;cases e
  | some o=>
    rw[q]at e
    cases o with
    | none=>simp at e
    | some z=>
      simp only[Option.map_some,Option.some.injEq]at e
      split at e
      . next c=>
        cases e
        obtain⟨v,e1,e2⟩:=h.ob i _ q
        exact⟨v,e1,e2.take w c⟩
      . cases e
theorem Ext.trim(x:Ext ρ H ρ' H'){w:Nat}(h:ρ.length <= w):Ext ρ H (ρ'.take w) H':=by
  obtain⟨r,rfl,fr⟩:=x.pre
  refine⟨⟨r.take (w - ρ.length),?_,λ b hb=>fr b (List.mem_of_mem_take hb)⟩,x.keep,x.tab⟩
  rw[List.take_append,List.take_of_length_le h]
theorem QP{t:TS}{m:MS}(w:Nat)(h:RS K t m):RS K t (I0 w m):=by
  intro ρ σ H hd ls E f hd' hR hL hm hQ
  unfold I0 at hm
  split at hm
  . next hw=>
    obtain⟨⟨f1,h1⟩,e1,hm⟩:=Option.bind_eq_some_iff.mp hm
    dsimp only at hm
    split at hm
    . next c=>
      obtain⟨f2,e2,e3⟩:=Option.map_eq_some_iff.mp hm
      cases e3
      refine h ρ σ H hd ls E f1 h1 hR hL e1 λ ρ1 H1 x1 R1=>?_
      have q:=hQ (ρ1.take w) H1 (x1.trim (by rw[hR.len];exact hw)) (R1.take w c)
      cases f1 with
      | nx l=>simp only[FW,Option.some.injEq]at e2;subst e2;exact λ σ' L=>q σ' (L.trim w)
      | bk l=>simp only[FW,Option.some.injEq]at e2;subst e2;exact λ σ' L=>q σ' (L.trim w)
      | ct l=>simp only[FW,Option.some.injEq]at e2;subst e2;exact λ σ' L=>q σ' (L.trim w)
      | rt d=>
        simp only[FW]at e2
        split at e2
        . next c2=>cases e2;exact λ v r=>q v (r.take w c2)
        . cases e2
    . cases hm
  . cases hm
theorem Py{w:Nat}{m:MS}{ls:Ls}{Q:Fl->Hd->Prop}(hw:hd.length <= w)(h:WS m ls hd λ f x=>(x.take w).all (clO w)=true/\∃ f',FW w f=some f'/\Q f' (x.take w)):WS (I0 w m) ls hd Q:=by
  obtain⟨f,x,e,c,f',e2,q⟩:=h
  exact⟨f',x.take w,by unfold I0;rw[if_pos hw,e,Option.bind_some];dsimp only;rw[if_pos c,e2];rfl,q⟩
noncomputable def GG(m:MS):MS:=λ ls hd=>I0 hd.length m ls hd
theorem OO{t:TS}{m:MS}(h:RS K t m):RS K t (GG m):=λ ρ σ H hd ls E f hd' hR hL hm hQ=>QP hd.length h ρ σ H hd ls E f hd' hR hL hm hQ
theorem Iw(K:PySem.W.Frag){X:Cx}{st:List Stmt}{t:TS}{m:MS}(h:QSs K X st t m):QSs K X st t (GG m):=⟨h.p,OO h.r⟩
theorem JR{m:MS}{ls:Ls}{Q:Fl->Hd->Prop}(h:WS m ls hd λ f x=>(x.take hd.length).all (clO hd.length)=true/\∃ f',FW hd.length f=some f'/\Q f' (x.take hd.length)):WS (GG m) ls hd Q:=Py (Nat.le_refl _) h
noncomputable def V7:ME:=λ _ hd=>some (.mu hd.length,hd ++ [.dic []])
theorem Km{ls:Ls}{Q:D->Hd->Prop}(q:Q (.mu hd.length) (hd ++ [.dic []])):WE V7 ls hd Q:=⟨_,_,rfl,q⟩
end
mutual
theorem KR{v w:Nat}(h:v <= w):∀ {d:D},clD v d=true->clD w d=true
  | .im i,_=>by simp
  | .mu n,c=>by simp at c ⊢;omega
  | .tm ds,c=>by rw[clD]at c ⊢;exact GQ h c
  | .ro ns,_=>by rw[clD]
theorem GQ{v w:Nat}(h:v <= w):∀ {ds:List D},BB v ds=true->BB w ds=true
  | [],_=>by simp
  | d :: ds,c=>by
    simp only[Nn,Bool.and_eq_true]at c ⊢
    exact⟨KR h c.1,GQ h c.2⟩
end
theorem J5{v w:Nat}(h:v <= w):∀ {ds:List (Key × D)},Fq v ds=true->Fq w ds=true
  | [],_=>by simp[Fq]
  | d :: ds,c=>by
    simp only[Fq,Bool.and_eq_true]at c ⊢
    exact⟨KR h c.1,J5 h c.2⟩
theorem PP{v w:Nat}(h:v <= w){o:MO}(c:clO v o=true):clO w o=true:=by
  cases o with
  | lst ds=>exact GQ h c
  | dic ds=>exact J5 h c
section
variable{T:Nat->MO->MO->Prop}{P:List D->Hd->Option (D × Hd)}{a b:MO}{rest:Hd}{ls:Ls}{m:MA}{QE:D->Hd->Prop}
theorem Tap.callX(t:Tap T P){n c:Nat}(hT:T (n + c) a b)(ex:Hd){w:Nat}{F:List D->Hd->Option (D × Hd)}{as:List D}{hd:Hd}{R:I->Prop}(e:m ls hd=some (.mu 1 :: as,a :: b :: (ex ++ rest)))(hw:w=ex.length + 2)(ha:BB w as=true)(hx:ex.all (clO w)=true)
    (hF:∀ a b,T (n + c) a b->WF F (.mu 1 :: as) (a :: b :: ex) λ d x=>∃ i a' b' g,d=.im i/\R i/\T n a' b'/\x=a' :: b' :: (ex ++ g))
    (k:∀ i a' b',T n a' b'->R i->QE (.im i) (a' :: b' :: (ex ++ rest))):WE (AI w F m) ls hd QE:=by
  subst hw
  have hcl:∀ o,clO 2 o=true->clO (ex.length + 2) o=true:=λ o h=>PP (by omega) h
  obtain⟨d,x,e2,i,a',b',g,rfl,hR,hT',rfl⟩:=hF a b hT
  refine⟨_,_,KZ (w:=ex.length + 2) (ds:=.mu 1 :: as) (pre:=a :: b :: ex) (pre':=a' :: b' :: ex) (rest:=rest) (g:=g) rfl rfl e (by simp[ha]) ?_ ?_ e2,k i a' b' hT' hR⟩
  . simp[hcl _ (t.cl hT).1,hcl _ (t.cl hT).2];simpa using hx
  . simp[hcl _ (t.cl hT').1,hcl _ (t.cl hT').2];simpa using hx
theorem Tap.call(t:Tap T P){n c:Nat}(hT:T (n + c) a b){F:List D->Hd->Option (D × Hd)}{as:List D}{hd:Hd}{R:I->Prop}(e:m ls hd=some (.mu 1 :: as,a :: b :: rest))(ha:BB 2 as=true)
    (hF:∀ a b,T (n + c) a b->WF F (.mu 1 :: as) [a,b] λ d x=>∃ i a' b' g,d=.im i/\R i/\T n a' b'/\x=a' :: b' :: g)
    (k:∀ i a' b',T n a' b'->R i->QE (.im i) (a' :: b' :: rest)):WE (AI 2 F m) ls hd QE:=
  t.callX hT [] (w:=2) e rfl ha rfl hF k
end
end L2
namespace L2
open PySem PySem.Spec PyProof.Rows
section
variable{ls:Ls}{hd:Hd}{b:MS}{c:MT}{Q:Fl->Hd->Prop}{QE:D->Hd->Prop}
noncomputable def Uc(P:Ls->Hd->Prop)(Q:Fl->Hd->Prop):Fl->Hd->Prop
  | .nx l,h=>P l h
  | .ct l,h=>P l h
  | .bk l,h=>Q (.nx l) h
  | .rt d,h=>Q (.rt d) h
theorem JQ(P:Nat->Ls->Hd->Prop){n:Nat}(h:P n ls hd)
    (k:∀ n ls hd,P n ls hd->WT c ls hd λ t x=>if t=true then WS b ls x (Uc (λ l y=>∃ m,m < n/\P m l y) Q)else Q (.nx ls) x):WS (Du c b) ls hd Q:=by
  have go:∀ n ls hd,P n ls hd->∃ j r,BM c b j ls hd=some r/\Q r.1 r.2:=by
    intro n
    induction n using Nat.strongRecOn with
    | ind n ih=>
      intro ls hd h
      obtain⟨t,x,e1,q⟩:=k n ls hd h
      cases t with
      | false=>
        rw[if_neg Bool.false_ne_true]at q
        exact⟨1,(.nx ls,x),by unfold BM;rw[e1];rfl,q⟩
      | true=>
        rw[if_pos rfl]at q
        obtain⟨f,y,e2,q⟩:=q
        cases f with
        | nx l=>
          obtain⟨m,hm,p⟩:=q
          obtain⟨j,r,e3,q3⟩:=ih m hm l y p
          exact⟨j + 1,r,by unfold BM;rw[e1,Option.bind_some,if_pos rfl,e2];exact e3,q3⟩
        | ct l=>
          obtain⟨m,hm,p⟩:=q
          obtain⟨j,r,e3,q3⟩:=ih m hm l y p
          exact⟨j + 1,r,by unfold BM;rw[e1,Option.bind_some,if_pos rfl,e2];exact e3,q3⟩
        | bk l=>exact⟨1,(.nx l,y),by unfold BM;rw[e1,Option.bind_some,if_pos rfl,e2];rfl,q⟩
        | rt d=>exact⟨1,(.rt d,y),by unfold BM;rw[e1,Option.bind_some,if_pos rfl,e2];rfl,q⟩
  obtain⟨j,⟨f,x⟩,e,q⟩:=go n ls hd h
  exact⟨f,x,NT e,q⟩
theorem O1{k j:Nat}{i:Int}{ds:List D}{z:D}(e1:hd[k]? = some (.lst ds))(hr:G8 i)(e2:ixN ds.length i=some j)(e3:ds[j]? = some z)(q:QE z (hd.set k (.lst (ds.eraseIdx j)))):WP (GO (.mu k) [.im (.int i)] hd) QE:=⟨_,_,by rw[PH,e1];simp[hr,e2,e3],q⟩
end
end L2
namespace Bd
open PySem L2
end Bd
namespace Bd
open PySem L2
structure Tp where
  cells:List Int
  nx:Int
  lf:Int
  tn:Int
noncomputable def JH(t:Tp):List (Key × D):=[(.inr "cells",.mu 0),(.inr "next",.im (.int t.nx)),(.inr "left",.im (.int t.lf)),(.inr "turn",.im (.int t.tn))]
noncomputable def tp(t:Tp):Hd:=[.lst (t.cells.map λ i=>.im (.int i)),.dic (JH t)]
@[simp] theorem WD(t:Tp):(tp t).length=2:=rfl
@[simp] theorem XI(t:Tp)(r:Hd):(tp t ++ r)[0]? = some (.lst (t.cells.map λ i=>.im (.int i))):=rfl
@[simp] theorem XH(t:Tp)(r:Hd):(tp t ++ r)[1]? = some (.dic (JH t)):=rfl
@[simp] theorem tp0(t:Tp):(tp t)[0]? = some (.lst (t.cells.map λ i=>.im (.int i))):=rfl
@[simp] theorem tp1(t:Tp):(tp t)[1]? = some (.dic (JH t)):=rfl
section
variable(t:Tp)(v:Int)
@[simp] theorem WH:(JH t).length=4:=rfl
end
theorem De:∀ ns:List Int,I.pys (ns.map I.int)=ns.map PyData.int
  | []=>by simp[I.pys]
  | n :: ns=>by simp[I.pys,I.py,De ns]
theorem DX(ns:List Int):BL (ns.map λ i=>D.im (.int i))=some (ns.map I.int):=by
  have:(ns.map λ i=>D.im (.int i))=(ns.map I.int).map D.im:=by rw[List.map_map];rfl
  rw[this];exact O0 _
theorem S6(ns:List Int):PyData.eqv (.list (ns.map PyData.int)) (.list [])=decide (ns=[]):=by
  cases ns <;> simp[PyData.eqv,PyData.eqvAll]
theorem P3(ns:List Int):(PyData.list (ns.map PyData.int)).canLay0=true:=by simp[PyData.canLay0,Gx]
theorem FQ(ns:List Int)(hd:Hd)(neg:Bool):Fp neg (.list (ns.map PyData.int)) (.list []) hd=some (.im (.bl (if neg then !decide (ns=[])else decide (ns=[]))),hd):=by
  unfold Fp
  rw[if_pos,S6]
  refine⟨P3 ns,by simp[PyData.canLay0,PyData.canLayAll0],?_⟩
  have:(PyData.list []).depth <= 1:=by simp[PyData.depth,PyData.depthAll]
  omega
end Bd
namespace Bd
open PySem L2
theorem EE{x:Int}(m:Int)(h:0 < m):0 <= x % m/\x % m < m:=⟨Int.emod_nonneg _ (by omega),Int.emod_lt_of_pos _ h⟩
theorem UQ(hd:Hd)(neg:Bool):Fp neg (.list []) (.list []) hd=some (.im (.bl (if neg then false else true)),hd):=by
  have:=FQ [] hd neg
  simpa using this
theorem VM{xs:List Int}(h:xs ≠ [])(n:Int):∃ c,atI (xs.map λ i=>D.im (.int i)) (n % (xs.length:Int))=some (.im (.int c)):=by
  have hl:0 < xs.length:=Ii h
  obtain⟨a,b⟩:=EE (x:=n) (xs.length:Int) (by omega)
  obtain⟨k,hk⟩:=Int.eq_ofNat_of_zero_le a
  have hk':k < xs.length:=by omega
  exact⟨xs[k],DW hk (by simp[hk'])⟩
theorem po1:M1 10 18:=by unfold M1;decide
end Bd
namespace Bd
open PySem L2
inductive Cost where
  | late (d:Int)|tardy (d w:Int)|miss (d w:Int)|ends (w:Int)|steps (rows:List (Int × Int))
noncomputable def VW(r:Int × Int):I:=.tup [.int r.1,.int r.2]
noncomputable def Pv:Cost->I
  | .late d=>.tup [.str "late",.int d]
  | .tardy d w=>.tup [.str "tardy",.int d,.int w]
  | .miss d w=>.tup [.str "miss",.int d,.int w]
  | .ends w=>.tup [.str "ends",.int w]
  | .steps rows=>.tup [.str "steps",.tup (rows.map VW)]
noncomputable def Kr(t:Int):List (Int × Int)->Int->Int
  | [],told=>told
  | (b,a) :: r,told=>if t < b then told else Kr t r a
noncomputable def Cost.at:Cost->Int->Int
  | .late d,t=>t - d
  | .tardy d w,t=>if t - d <= 0 then 0 else w * (t - d)
  | .miss d w,t=>if t - d <= 0 then 0 else w
  | .ends w,t=>w * t
  | .steps rows,t=>Kr t rows 0
theorem n1:¬ (("late":Str)="steps"):=by decide +kernel
theorem n2:¬ (("tardy":Str)="steps"):=by decide +kernel
theorem n3:¬ (("miss":Str)="steps"):=by decide +kernel
theorem n7:¬ (("miss":Str)="ends"):=by decide +kernel
theorem n8:¬ (("tardy":Str)="late"):=by decide +kernel
theorem n10:¬ (("miss":Str)="tardy"):=by decide +kernel
end Bd
namespace Bd
open PySem L2
@[simp high] theorem XG(t:Tp)(x:MO)(r:Hd):(tp t ++ (x :: r))[2]? = some x:=rfl
@[simp high] theorem XF(t:Tp)(x y:MO)(r:Hd):(tp t ++ (x :: y :: r))[3]? = some y:=rfl
@[simp high] theorem XE(t:Tp)(x y z:MO)(r:Hd):(tp t ++ (x :: y :: z :: r))[4]? = some z:=rfl
@[simp high] theorem Wq(t:Tp)(x y:MO)(r:Hd):(tp t ++ (x :: r)).set 2 y=tp t ++ (y :: r):=rfl
@[simp high] theorem Wp(t:Tp)(x y z:MO)(r:Hd):(tp t ++ (x :: y :: r)).set 3 z=tp t ++ (x :: z :: r):=rfl
theorem Nm(w:Nat)(ns:List Int):BB w (ns.map λ i=>D.im (.int i))=true:=by induction ns <;> simp_all [BB,clD]
end Bd
namespace Bd
open PySem L2
structure Wk where
  len:Int
  com:Int
  cost:Cost
noncomputable def DI(w:Wk):I:=.tup [.int w.len,.int w.com,Pv w.cost]
noncomputable abbrev SE(ws:List Wk):I:=.tup (ws.map DI)
end Bd
namespace L2
end L2
namespace Bd
open PySem L2
noncomputable abbrev M9(ks:List Nat):I:=.tup (ks.map λ k:Nat=>.int k)
end Bd
namespace L2
open PySem PySem.Spec PyProof.Rows
end L2
namespace Bd
open PySem L2
end Bd
namespace Bd
open PySem L2
theorem PJ(ns:List Int)(lo hi:Option Int):∃ cs:List Int,DV (ns.map λ n=>.im (.int n)) lo hi=cs.map λ n=>.im (.int n):=⟨(ns.drop _).take _,by unfold DV;rw[List.map_take,List.map_drop]⟩
end Bd
namespace Bd
open PySem L2
noncomputable abbrev AG(ks:List Nat):List D:=ks.map λ k:Nat=>D.im (.int (k:Int))
theorem LH{n:Nat}{i:Int}(a:0 <= i)(b:i < n):ixN n i=some i.toNat:=by unfold ixN;rw[if_pos a,if_pos b]
theorem Hw:∀ {a:List Nat} {k x:Nat},a[k]? = some x->(x :: a.eraseIdx k).Perm a
  | [],k,x,h=>by simp at h
  | y :: r,0,x,h=>by simp at h;subst h;exact .refl _
  | y :: r,k + 1,x,h=>by
    have ih:=Hw (a:=r) (k:=k) (x:=x) (by simpa using h)
    exact(List.Perm.swap y x _).trans (ih.cons y)
theorem J4{α β:Type}(f:α->β):∀ (l:List α) (k:Nat),(l.map f).eraseIdx k=(l.eraseIdx k).map f
  | [],k=>rfl
  | y :: r,0=>rfl
  | y :: r,k + 1=>by simp[J4 f r k]
theorem NE{a b:List Nat}{k x:Nat}(h:a[k]? = some x):(b ++ [x] ++ a.eraseIdx k).Perm (b ++ a):=by
  rw[List.append_assoc]
  exact List.Perm.append_left b (Hw h)
end Bd
namespace Bd
open PySem L2
theorem NM{seq:List Nat}{i a:Nat}(h:seq[i]? = some a):atI (AG seq) (i:Int)=some (.im (.int (a:Int))):=DW rfl (by simp[h])
end Bd
namespace Bd
open PySem L2
theorem ED(n:Nat):AQ 0 n=AG (List.range n):=by
  refine List.ext_getElem? λ i=>?_
  by_cases h:i < n
  . rw[Hu h];simp[h]
  . rw[List.getElem?_eq_none (by simp;omega),List.getElem?_eq_none (by simp;omega)]
end Bd
namespace Bd
open PySem L2
noncomputable abbrev intD(xs:List Int):List D:=xs.map λ x=>D.im (.int x)
theorem J3(xs:List Int):C5 (intD xs)=some (xs.map V.int):=by
  induction xs with
  | nil=>rfl
  | cons x r ih=>simp[C5,DU]at ih ⊢;exact ih
theorem P7(x:Int)(xs:List Int):inV (.int x) (xs.map V.int)=decide (x ∈ xs):=by
  unfold inV
  induction xs with
  | nil=>simp
  | cons y r ih=>
    simp only[List.map_cons,List.any_cons,ih,List.mem_cons]
    have:eqV (V.int y) (V.int x)=decide (x=y):=by
      unfold eqV
      by_cases h:x=y
      . subst h;simp
      . have h':¬ y=x:=λ z=>h z.symm
        simp[h,h']
    rw[this,Bool.decide_or]
theorem in_ints{hd:Hd}{d:D}{xs:List Int}(x:Int)(neg:Bool)(h:Ar hd d=some (intD xs)):gIn neg (.im (.int x)) d hd=some (.im (.bl (if neg then !decide (x ∈ xs)else decide (x ∈ xs))),hd):=by
  simp only[gIn,DU,Option.bind_some,h,J3,Option.map_some,P7]
theorem g0(hd:Hd)(x y:MO):(hd ++ [x,y])[hd.length]? = some x:=by simp
theorem g1(hd:Hd)(x y:MO):(hd ++ [x,y])[hd.length + 1]? = some y:=by simp
theorem t1(hd:Hd)(x y z:MO):(hd ++ [x,y]).set (hd.length + 1) z=hd ++ [x,z]:=by simp
end Bd
namespace L2
open PySem PySem.Spec PyProof.Rows
section
variable{ls:Ls}{hd:Hd}{QE:D->Hd->Prop}{QI:List D × Gd->Hd->Prop}{ma:ME}{n:MG}{ta:MT}{mi:MI}{m:MA}
theorem SD{d:D}{xs:List Int}{x:Int}{neg:Bool}(e1:Ar hd d=some (Bd.intD xs))(q:QE (.im (.bl (if neg then !decide (x ∈ xs)else decide (x ∈ xs)))) hd):WP (gIn neg (.im (.int x)) d hd) QE:=WP.eq (Bd.in_ints x neg e1) q
theorem SF(h:WE ma ls hd λ d x=>(∃ is,d=.im (.tup is)/\QI (is.map .im,[]) x) ∨ ∃ k ds,d=.mu k/\x[k]? = some (.lst ds)/\QI (ds,[(k,ds)]) x):WI (E4 ma) ls hd QI:=by
  obtain⟨d,x,e,h⟩:=h
  rcases h with⟨is,rfl,q⟩|⟨k,ds,rfl,e2,q⟩
  . exact⟨_,_,Ru e,q⟩
  . exact⟨_,_,U3 e e2,q⟩
theorem Q6{mm:Ls->Hd->Option (List Int × Hd)}(h:WP (mm ls hd) λ l x=>QE (.im (.int l.length)) x):WE (JN mm) ls hd QE:=WP.bind (h.mono λ _ _ q=>WP.some q)
theorem O3{α:Type}{k:Nat}{ix:List Nat}{a0:α}{me:MM α}{Q:α->Hd->Prop}(h:WI mi ls hd λ p x=>WP (mGo n ta me p.2 p.1 (Dl k ix ls) x a0) Q):WP (ID k ix mi n ta a0 me ls hd) Q:=WP.bind (h.mono λ _ _ q=>q)
theorem JV{α:Type}{me:MM α}{g:Gd}{Q:α->Hd->Prop}(P:List D->α->Ls->Hd->Prop):∀ {ds:List D} {a:α} {ls:Ls} {hd:Hd},P ds a ls hd ->
    (∀ d r a ls hd,P (d :: r) a ls hd->∃ ls1,n d ls hd=some ls1/\WT ta ls1 hd λ c x=>if c=true then WP (me ls1 x a) λ a' y=>GOk y g/\P r a' ls1 y else GOk x g/\P r a ls1 x) ->
    (∀ a ls hd,P [] a ls hd->Q a hd)->WP (mGo n ta me g ds ls hd a) Q
  | [],a,ls,hd,h,k,z=>⟨_,_,by unfold mGo;rfl,z _ _ _ h⟩
  | d :: r,a,ls,hd,h,k,z=>by
    obtain⟨ls1,e1,c,x,e2,q⟩:=k d r a ls hd h
    unfold mGo
    rw[e1,Option.bind_some,e2,Option.bind_some]
    cases c with
    | true=>
      rw[if_pos rfl]at q ⊢
      obtain⟨a',y,e3,g3,p3⟩:=q
      rw[e3,Option.bind_some]
      dsimp only
      rw[if_pos g3]
      exact JV P p3 k z
    | false=>
      rw[if_neg Bool.false_ne_true]at q ⊢
      dsimp only
      rw[if_pos q.1]
      exact JV P q.2 k z
theorem PZ{g:Gd}{QA:List D->Hd->Prop}(P:List D->List D->Ls->Hd->Prop){ds:List D}{ls:Ls}{hd:Hd}(h:P ds [] ls hd)
    (k:∀ d r es ls hd,P (d :: r) es ls hd->∃ ls1,n d ls hd=some ls1/\WT ta ls1 hd λ c x=>if c=true then WE ma ls1 x λ z y=>GOk y g/\P r (es ++ [z]) ls1 y else GOk x g/\P r es ls1 x)
    (z:∀ es ls hd,P [] es ls hd->QA es hd):WP (B8 n ta ma g ds ls hd) QA:=
  (JW P h k).mono λ zs x ⟨ls',q⟩=>z zs ls' x (by simpa using q)
theorem C0{α:Type}{g:Gd}{QA:List D->Hd->Prop}(inj:α->D)(f:α->Option D)(L:D->Ls->Prop)(l0:Ls){xs:List α}{hd:Hd}(hg:GOk hd g)
    (k:∀ x ∈ xs,∀ ls,ls=l0 ∨ (∃ d,L d ls)->∃ ls1,n (inj x) ls hd=some ls1/\L (inj x) ls1/\WT ta ls1 hd λ c y=>y=hd/\if c=true then ∃ z,f x=some z/\WE ma ls1 hd λ e y=>y=hd/\e=z else f x=none)
    (q:QA (xs.filterMap f) hd):WP (B8 n ta ma g (xs.map inj) l0 hd) QA:=by
  have go:∀ (xs':List α) (ls:Ls),(∀ x ∈ xs',x ∈ xs)->(ls=l0 ∨ ∃ d,L d ls)->B8 n ta ma g (xs'.map inj) ls hd=some (xs'.filterMap f,hd):=by
    intro xs'
    induction xs' with
    | nil=>intro ls _ _;unfold B8;rfl
    | cons x r ih=>
      intro ls hs hl
      obtain⟨ls1,e1,L1,c,y,e2,rfl,q⟩:=k x (hs x List.mem_cons_self) ls hl
      have ih:=ih ls1 (λ z hz=>hs z (List.mem_cons_of_mem _ hz)) (.inr ⟨_,L1⟩)
      rw[List.map_cons]
      unfold B8
      rw[e1,Option.bind_some,e2,Option.bind_some]
      cases c with
      | true=>
        rw[if_pos rfl]at q
        obtain⟨z,ez,e,y,e3,rfl,rfl⟩:=q
        rw[if_pos rfl,e3,Option.bind_some]
        dsimp only
        rw[if_pos hg,ih,List.filterMap_cons,ez]
        rfl
      | false=>
        rw[if_neg Bool.false_ne_true]at q
        rw[if_neg Bool.false_ne_true]
        dsimp only
        rw[if_pos hg,ih,List.filterMap_cons,q]
  exact⟨_,_,go xs l0 (λ _ h=>h) (.inl rfl),q⟩
end
end L2
namespace L2
open PySem PySem.Spec PyProof.Rows
mutual
noncomputable def shD(k:Nat):D->D
  | .im i=>.im i
  | .mu n=>.mu (n + k)
  | .tm ds=>.tm (E3 k ds)
  | .ro ns=>.ro ns
noncomputable def E3(k:Nat):List D->List D
  | []=>[]
  | d :: ds=>shD k d :: E3 k ds
end
noncomputable def Jm(k:Nat):List (Key × D)->List (Key × D)
  | []=>[]
  | d :: ds=>(d.1,shD k d.2) :: Jm k ds
noncomputable def shO(k:Nat):MO->MO
  | .lst ds=>.lst (E3 k ds)
  | .dic kvs=>.dic (Jm k kvs)
section
variable{K:PySem.W.Frag}{ρ ρ':List Addr}{H H':Hp}{hd hd':Hd}
mutual
theorem RD.shift(ρ1:List Addr):∀ {d:D} {v:V},RD K ρ H d v->RD K (ρ1 ++ ρ) H (shD ρ1.length d) v
  | .im i,v,h=>by simp only[RD,shD]at h ⊢;exact h
  | .mu n,v,h=>by
    simp only[RD,shD]at h ⊢
    obtain⟨a,e,q⟩:=h
    exact⟨a,by rw[List.getElem?_append_right (by omega),Nat.add_sub_cancel];exact e,q⟩
  | .tm ds,v,h=>by
    simp only[RD,shD]at h ⊢
    obtain⟨a,xs,e,q,z⟩:=h
    exact⟨a,xs,e,q,RDs.shift ρ1 z⟩
  | .ro ns,v,h=>by simp only[RD,shD]at h ⊢;exact h
theorem RDs.shift(ρ1:List Addr):∀ {d:List D} {v:List V},RDs K ρ H d v->RDs K (ρ1 ++ ρ) H (E3 ρ1.length d) v
  | [],v,h=>by simpa only[RDs,E3]using h
  | d :: ds,v,h=>by
    simp only[RDs,E3]at h ⊢
    obtain⟨x,r',e,q,z⟩:=h
    exact⟨x,r',e,q.shift ρ1,RDs.shift ρ1 z⟩
end
theorem RKs.shift(ρ1:List Addr):∀ {d:List (Key × D)} {v:List (Key × V)},RKs K ρ H d v->RKs K (ρ1 ++ ρ) H (Jm ρ1.length d) v
  | [],v,h=>by simpa only[RKs,Jm]using h
  | d :: ds,v,h=>by
    simp only[RKs,Jm]at h ⊢
    obtain⟨x,r',e,q1,q,z⟩:=h
    exact⟨x,r',e,q1,q.shift ρ1,RKs.shift ρ1 z⟩
theorem RC.shift(ρ1:List Addr){o:MO}{ho:HO}(h:RC K ρ H o ho):RC K (ρ1 ++ ρ) H (shO ρ1.length o) ho:=by
  cases o with
  | lst ds=>obtain⟨xs,e,q⟩:=h;exact⟨xs,e,q.shift ρ1⟩
  | dic ds=>obtain⟨xs,e,q⟩:=h;exact⟨xs,e,q.shift ρ1⟩
theorem RH.join{h1 h2:Hd}(R1:RH K ρ H h1)(x:Ext [] H ρ' H')(R2:RH K ρ' H' h2):RH K (ρ ++ ρ') H' (h1 ++ h2.map (shO ρ.length))/\Ext ρ H (ρ ++ ρ') H':=by
  obtain⟨r,er,fr⟩:=x.pre
  have er:ρ'=r:=by simpa using er
  subst er
  have kp:∀ b o,H b=some o->(∀ ps,o ≠ .tbl ps)->H' b=some o:=λ b o e t=>x.keep b o e (by simp) t
  have gr:Grow H H':=⟨λ b xs e=>kp b _ e nt,λ b o u e=>kp b _ e nt⟩
  refine⟨⟨by simp[R1.len,R2.len],?_,R2.tabs,λ n o a e1 e2=>?_⟩,⟨⟨ρ',rfl,fr⟩,λ b o e _ t=>kp b o e t,x.tab⟩⟩
  . rw[List.nodup_append]
    refine⟨R1.nd,R2.nd,λ a ha b hb z=>?_⟩
    subst z
    exact R1.out (fr a hb) ha
  . by_cases hn:n < ρ.length
    . rw[List.getElem?_append_left hn]at e2
      rw[List.getElem?_append_left (by rw[<- R1.len];exact hn)]at e1
      obtain⟨ho,q1,q2⟩:=R1.ob n o a e1 e2
      exact⟨ho,kp a ho q1 (λ ps z=>by rcases R1.mut (List.mem_of_getElem? e2)with⟨y,w⟩|⟨y,w⟩ <;> (rw[q1,z]at w;cases w)),q2.mono gr ρ'⟩
    . have hn':ρ.length <= n:=Nat.not_lt.mp hn
      rw[List.getElem?_append_right hn']at e2
      rw[List.getElem?_append_right (by rw[<- R1.len];exact hn'),List.getElem?_map,<- R1.len]at e1
      cases q:h2[n - ρ.length]? with
      | none=>rw[q]at e1;cases e1
      | some o2=>
        rw[q]at e1
        cases e1
        obtain⟨ho,q1,q2⟩:=R2.ob _ o2 a q e2
        exact⟨ho,q1,q2.shift ρ⟩
noncomputable def Ec(F:List D->Hd->Option (D × Hd))(ma:MA):ME:=λ ls hd=>(ma ls hd).bind λ p=>if BB 0 p.1=true then(F p.1 []).map λ r=>(shD p.2.length r.1,p.2 ++ r.2.map (shO p.2.length))else none
theorem Ob{k:Nat}{F:List D->Hd->Option (D × Hd)}{t:TA}{m:MA}(h:RA K t m)(hk:∀ ds hd z,F ds hd=some z->ds.length=k):RE K (En (spF K k F) [] E0 t) (Ec F m):=by
  intro ρ σ H hd ls Q d hd' hR hL hm hQ
  obtain⟨⟨d1,h1⟩,e1,hm⟩:=Option.bind_eq_some_iff.mp hm
  dsimp only at hm
  split at hm
  . next c1=>
    obtain⟨⟨d2,h2⟩,e2,e3⟩:=Option.map_eq_some_iff.mp hm
    cases e3
    refine h ρ σ H hd ls _ d1 h1 hR hL e1 λ ρ1 H1 v1 x1 R1 r1=>?_
    rw[List.append_nil]
    have R0:RH K [] H1 []:=by simpa using R1.take 0 (by simp)
    have r0:RDs K [] H1 d1 v1:=by simpa using r1.take' 0 c1
    refine⟨by rw[r1.len];exact hk _ _ _ e2,[],[],d1,d2,h2,R0,r0,e2,λ ρ' H' v x2 R2 r2=>?_⟩
    obtain⟨R3,x3⟩:=R1.join x2 R2
    rw[R1.len]at R3
    refine hQ (ρ1 ++ ρ') H' v (x1.trans R1 x3) R3 ?_
    have:=r2.shift ρ1
    rw[R1.len]at this
    exact this
  . cases hm
theorem HF(K:PySem.W.Frag){X:Cx}{e:Expr}{es:List Expr}{t:TA}{m:MA}{x:Str}{j k:Nat}{f:Addr}{fd:FuncData}{ps:List Str}{n:Nat}{F:List D->Hd->Option (D × Hd)}{st:Stmt}{p pos:Pos}(G:FnOk X.prog X.w X.K X.mg X.base CX0 j f fd ps (spF K n F))(hr:Room k X.A)(DA:DefAt X.K X.mg x st f fd ps)(ha:QA K X (e :: es) t m)(hF:∀ ds hd z,F ds hd=some z->ds.length=n)
    (hjk:j <= k:=by decide) (hg:Gl X x:=by rfl) (hdb:(x == ("__debug__":Str))=false:=by decide) (he:starEach (e :: es) X.env=(false,eval e X.env) :: starEach es X.env:=by rfl) (hpl:(backTo pos (starEach es X.env)).any (·.1)=false:=by rfl) :
    QE K X (.Call (.Name x p) (e :: es) [] pos) (En (spF K n F) [] E0 t) (Ec F m):=⟨M4 G hr DA ha.p hjk hg hdb he hpl,Ob ha.r hF⟩
noncomputable def HM(neg:Bool)(ma:ME)(ml:MA):ME:=λ ls hd=>(ma ls hd).bind λ p=>(ml ls p.2).bind λ q=>match p.1 with
  | .im i=>(DU i).bind λ x=>(C5 q.1).map λ xs=>(.im (.bl (if neg then !inV x xs else inV x xs)),q.2)
  | _=>none
theorem Mx{neg:Bool}{ta tb:TE}{ma:ME}{ml:MA}(ha:RE K ta ma)(hb:RN K tb ml):RE K (tOp (rIn K neg) ta tb) (HM neg ma ml):=by
  intro ρ σ H hd ls Q d hd' hR hL hm hQ
  obtain⟨⟨d1,h1⟩,e1,hm⟩:=Option.bind_eq_some_iff.mp hm
  obtain⟨⟨d2,h2⟩,e2,hm⟩:=Option.bind_eq_some_iff.mp hm
  dsimp only at hm
  split at hm
  . obtain⟨x,e3,hm⟩:=Option.bind_eq_some_iff.mp hm
    obtain⟨xs,e4,e5⟩:=Option.map_eq_some_iff.mp hm
    cases e5
    refine ha ρ σ H hd ls _ _ h1 hR hL e1 λ ρ1 H1 v1 x1 R1 r1=>?_
    refine hb ρ1 σ H1 h1 ls _ d2 _ R1 (hL.ext hR x1) e2 λ ρ2 H2 a ys x2 R2 na oa ea r2=>?_
    have r1:=r1.ext R1 x2
    simp only[RD]at r1
    obtain⟨rfl,f1⟩:=HW e3 r1
    obtain⟨rfl,f2⟩:=GN e4 r2
    exact⟨a,ys,rfl,.inl (SqL.of ea),f1,f2,hQ ρ2 H2 _ (x1.trans R1 x2) R2 (by simp[RD,RI])⟩
  . cases hm
theorem Qx(K:PySem.W.Frag){X:Cx}{a b:Expr}{ta tb:TE}{ma:ME}{ml:MA}{pos:Pos}{op:CmpOp}{neg:Bool}(ho:OpR X (compareOp op) (rIn K neg))(ha:QE K X a ta ma)(hb:QN K X b tb ml)(hm:behindInMarks op b=false:=by first|exact FK _|rfl):QE K X (.Compare a [op] [b] pos) (tOp (rIn K neg) ta tb) (HM neg ma ml):=⟨L9 ho ha.p hb.p hm,Mx ha.r hb.r⟩
theorem Qr(K:PySem.W.Frag){X:Cx}{a b:Expr}{ta tb:TE}{ma:ME}{ml:MA}{pos:Pos}{op:CmpOp}{neg:Bool}(ho:OpR X (compareOp op) (rIn K neg))(ha:QE K X a ta ma)(hb:QN K X b tb ml)(hm:behindInMarks op b=false:=by first|exact FK _|rfl):QT K X (.Compare a [op] [b] pos) (Em (tOp (rIn K neg) ta tb)) (AT (HM neg ma ml)):=⟨Gb ho ha.p hb.p hm,DE (Mx ha.r hb.r)⟩
open Classical in
noncomputable def KI(ml:MA)(mb:ME):MA:=λ ls hd=>(ml ls hd).bind λ p=>(mb ls p.2).bind λ q=>match q.1 with
  | .im (.int k)=>if(0 <= k/\k <= 1000)/\BU (p.1.length * k.toNat)then some ((List.replicate k.toNat p.1).flatten,q.2)else none
  | _=>none
theorem RDs.rep{ds:List D}{xs:List V}(r:RDs K ρ H ds xs):∀ n,RDs K ρ H (List.replicate n ds).flatten (List.replicate n xs).flatten
  | 0=>by simp[RDs]
  | n + 1=>by
    simp only[List.replicate_succ,List.flatten_cons]
    exact r.app (r.rep n)
theorem Sl{ta tb:TE}{ml:MA}{mb:ME}(ha:RN K ta ml)(hb:RE K tb mb):RN K (tOp Od ta tb) (KI ml mb):=by
  intro ρ σ H hd ls Q d hd' hR hL hm hQ
  obtain⟨⟨d1,h1⟩,e1,hm⟩:=Option.bind_eq_some_iff.mp hm
  obtain⟨⟨d2,h2⟩,e2,hm⟩:=Option.bind_eq_some_iff.mp hm
  dsimp only at hm
  split at hm
  . next k=>
    split at hm
    . next c=>
      cases hm
      refine ha ρ σ H hd ls _ d1 h1 hR hL e1 λ ρ1 H1 a xs x1 R1 na oa ea r1=>?_
      refine hb ρ1 σ H1 h1 ls _ _ _ R1 (hL.ext hR x1) e2 λ ρ2 H2 v2 x2 R2 r2=>?_
      simp only[RD,RI]at r2
      subst r2
      have ea2:=x2.keep a _ ea oa nt
      refine⟨a,k,xs,rfl,rfl,ea2,by omega,by omega,by rw[r1.len];exact c.2,λ p hp=>?_⟩
      obtain⟨R3,x3⟩:=R2.hid (ho:=.lst (List.replicate k.toNat xs).flatten) hp
      have x12:=x1.trans R1 x2
      exact hQ ρ2 _ p _ (x12.trans R2 x3) R3 (x12.none hR hp R2) (R2.out hp) AW (((r1.ext R1 x2).rep k.toNat).ext R2 x3)
    . cases hm
  . cases hm
theorem TD(K:PySem.W.Frag){X:Cx}{a b:Expr}{ta tb:TE}{ml:MA}{mb:ME}{pos:Pos}(ha:QN K X a ta ml)(hb:QE K X b tb mb):QN K X (.BinOp a .Mult b pos) (tOp Od ta tb) (KI ml mb):=⟨M3 Tk ha.p hb.p,Sl ha.r hb.r⟩
end
section
variable{ls:Ls}{hd:Hd}{ma mb:ME}{m ml:MA}{QE:D->Hd->Prop}{QA:List D->Hd->Prop}
theorem HA{F:List D->Hd->Option (D × Hd)}(h:WA m ls hd λ ds x=>BB 0 ds=true/\WF F ds [] λ d y=>QE (shD x.length d) (x ++ y.map (shO x.length))):WE (Ec F m) ls hd QE:=by
  obtain⟨ds,x,e,c,d,y,e2,q⟩:=h
  exact⟨_,_,by simp only[Ec,e,Option.bind_some,c,if_true,e2,Option.map_some],q⟩
theorem Mj{neg:Bool}(h:WE ma ls hd λ d x=>WA ml ls x λ ds y=>∃ i v vs,d=.im i/\DU i=some v/\C5 ds=some vs/\QE (.im (.bl (if neg then !inV v vs else inV v vs))) y):WE (HM neg ma ml) ls hd QE:=by
  obtain⟨d,x,e1,ds,y,e2,i,v,vs,rfl,e3,e4,q⟩:=h
  exact⟨_,_,by simp only[HM,e1,Option.bind_some,e2,e3,e4,Option.map_some],q⟩
end
end L2
namespace L2
open PySem PySem.Spec PyProof.Rows
section
variable{ls:Ls}{hd:Hd}{ma:ME}{n n2:MG}{c c2:MT}{mi mi2:MI}{QE:D->Hd->Prop}
end
noncomputable abbrev blD(bs:List Bool):List D:=bs.map λ b=>D.im (.bl b)
end L2
namespace L2
open PySem PySem.Spec PyProof.Rows
section
variable{X:Cx}{pins:List (Addr × Obj)}{σ:St}{H:Hp}{s:Shared}{A:Around}{E:Value->Shared->Prop}{Q:Value->Shared->Prop}
end
section
variable{K:PySem.W.Frag}{ρ ρ':List Addr}{H H':Hp}{hd hd':Hd}
end
section
variable{ls:Ls}{hd:Hd}{ma mo mi me:ME}{QE:D->Hd->Prop}{QS:Fl->Hd->Prop}
end
end L2
namespace L2
open PySem PySem.Spec PyProof.Rows
section
variable{X:Cx}{a:Expr}{ta:TE}
end
section
variable(K:PySem.W.Frag){X:Cx}{a:Expr}{ta:TE}{ma:ME}{b:Bool}{j:_}{pos pos':Pos}
end
end L2
namespace L2
open PySem PySem.Spec PyProof.Rows
structure EAt(h:Heap)(e it l:Addr)(i:Nat):Prop where
  e:∃ old,IsEnum h e it i old
  r:h.IsListIter it l i
noncomputable def Ite(K:PySem.W.Frag)(a:Addr):It:=
  ⟨λ i H=>∃ xs x,SqL K H a xs/\xs[i]? = some x,
   λ i H x H'=>∃ p v,H p=none/\H'=upd H p (.tup [.int (i:Int),v])/\x=.ref p/\∀ xs,SqL K H a xs->xs[i]? = some v,
   λ i H=>∃ xs,SqL K H a xs/\xs.length <= i⟩
theorem Mo{P:Program}{w:World}{K:PySem.W.Frag}{elts:List Expr}{kk:Nat}{tpos:Pos}{e it l:Addr}(ne:e ≠ it):Turn P w K (.Tuple elts kk tpos) (Ite K l) [e,it] e (λ i h=>EAt h e it l i) where
  mem:=by simp
  obj:=λ i h st c hc=>by
    obtain⟨⟨old,he⟩,hr⟩:=st
    simp only[List.mem_cons,List.not_mem_nil,or_false]at hc
    rcases hc with rfl|rfl
    . exact⟨_,he,λ v z=>by cases(show Data.fields _=Data.cell v from z)⟩
    . obtain⟨o,q,_,d⟩:=hr;exact⟨o,q,λ v z=>by rw[d]at z;cases z⟩
  keep:=λ i h h' st k=>by
    obtain⟨⟨old,he⟩,o,q,r⟩:=st
    exact⟨⟨old,k e (by simp) _ he⟩,o,k it (by simp) _ q,r⟩
  item:=by
    intro X hP hw hK hc i pins s σ H E I hf st hg
    subst hP hw hK
    obtain⟨xs,x,h1,hx⟩:=hg
    obtain⟨its,r,pl,hz⟩:=I.list h1
    obtain⟨u,hu,ru⟩:=r.get hx
    obtain⟨⟨old,he⟩,hr⟩:=st
    refine wpAny_pyNext_enum_item he hr pl.isList (x:=u) (by simpa using hu) ne λ g ho hr' ht hsz kp=>⟨_,rfl,?_⟩
    refine wpAny_letOwnedTupleGo_enum ho λ g' e' sb=>?_
    have hle:e < s.heap.objs.size:=Heap.lt_size he
    have kp2:∀ c o,c ∉ [e,it]->s.heap.get? c=some o->g'.get? c=some o:=λ c o nc q=>by
      simp only[List.mem_cons,List.not_mem_nil,or_false,not_or]at nc
      exact sb.extBut _ _ nc.1 (kp c o nc.1 nc.2 q)
    have hT:s.heap.objs.size ≠ e:=Nat.ne_of_gt hle
    have hpair:g'.get? s.heap.objs.size=some { cls:=.type "tuple",data:=.seq #[.int i s.toks,u] }:=sb.extBut _ _ hT ht
    have fresh:H s.heap.objs.size=none:=I.hok.fresh (Nat.le_refl _)
    have I2:Inv X pins σ (upd H s.heap.objs.size (.tup [.int (i:Int),x])) { s with heap:=g',toks:=s.toks + 1 }:=I.turnsL (tk:=s.toks + 1) (o:=.tup [.int (i:Int),x]) kp2 hf (Nat.le_refl _)
      (show ObjOk X.prog X.w _ g' _ (.tup [.int (i:Int),x])from⟨by show 2 <= sizeLine;decide,[.int i s.toks,u],.cons ⟨_,rfl⟩ (.cons ru .nil),⟨_,hpair,rfl,⟨_,rfl⟩,rfl⟩⟩)
    refine⟨.ref s.heap.objs.size,_,I2,rfl,⟨s.heap.objs.size,x,fresh,rfl,rfl,λ xs' q=>by rw[I.list_inj q h1];exact hx⟩,⟨⟨u,?_⟩,?_⟩,λ c hc=>?_⟩
    . have:=e'
      rw[show((i:Int) + 1)=((i + 1:Nat):Int) by omega]at this
      exact this
    . exact hr'.extBut sb.extBut (Ne.symm ne)
    . have lt:c < s.heap.objs.size:=by
        simp only[List.mem_cons,List.not_mem_nil,or_false]at hc
        rcases hc with rfl|rfl
        . exact hle
        . obtain⟨o,q,_⟩:=hr;exact Heap.lt_size q
      rw[AO (Nat.ne_of_lt lt)]
      exact(hf c hc).1
  done:=by
    intro X hP hw hK hc i pins s σ H E I hf st hg
    subst hP hw hK
    obtain⟨xs,h1,hend⟩:=hg
    obtain⟨its,r,pl,hz⟩:=I.list h1
    have l1':=r.length
    obtain⟨⟨old,he⟩,hr⟩:=st
    refine wpAny_pyNext_enum_end (show X.A.handled=none from I.ok.hd hc) he hr pl.isList (by simp;omega) λ g x=>⟨rfl,?_⟩
    exact I.turns (tk:=s.toks) (λ c o nc q=>by
      simp only[List.mem_cons,List.not_mem_nil,or_false,not_or]at nc
      exact x c o nc.2 q) hf
  self:=λ _ _ _ _ _ st h=>by
    obtain⟨⟨old,he⟩,hr⟩:=st
    exact wpAny_pyIter_enum he h
noncomputable def MK(K:PySem.W.Frag)(ta:TA):TI:=λ σ H R=>ta σ H λ vs H1=>∃ a xs,vs=[.ref a]/\SqL K H1 a xs/\R (Ite K a) H1
theorem Im:bootBuiltins "enumerate"=some (.type "enumerate"):=by decide +kernel
section
variable{X:Cx}
theorem RX(K:PySem.W.Frag){a:Expr}{ta:TA}{elts:List Expr}{kk:Nat}{tpos p pos:Pos}(hg:Gl X "enumerate")(hm:X.mg "enumerate"=none)(ha:PA X [a] ta)(hK:X.K=K:=by rfl)(hs:starEach [a] X.env=[(false,eval a X.env)]:=by rfl) :
    PI X (.Tuple elts kk tpos) (.Call (.Name "enumerate" p) [a] [] pos) (MK K ta):=by
  subst hK
  intro pins s σ H R I h
  refine Call_ (GL I hg hm Im (PyProof.Rows.callWith_type1 (thn (ha pos pins s σ H _ I h) λ us s1 ⟨vs,H1,I1,r1,q1⟩=>?_) hs rfl))
  obtain⟨l,xs,e,c,q⟩:=q1
  subst e
  obtain⟨u,rfl,ru⟩:=r1.one
  cases ru
  obtain⟨its,r,pl,hz⟩:=I1.list c
  refine call_enumerate_list pl.isList λ g he hr hsz kp=>wpAny_pyIter_enum he ?_
  refine⟨_,_,_,_,H1,rfl,I1.kept (t':=s1.toks) kp,Mo (Nat.ne_of_gt (Nat.lt_succ_self _)),⟨⟨_,he⟩,hr⟩,λ c hc=>?_,q⟩
  simp only[List.mem_cons,List.not_mem_nil,or_false]at hc
  have le:s1.heap.objs.size <= c:=by
    rcases hc with rfl|rfl
    . exact Nat.le_add_right _ _
    . exact Nat.le_refl _
  exact I1.fpOk le (I1.hok.fresh le)
end
section
variable{K:PySem.W.Frag}
noncomputable def IC(ma:MI):MI:=λ ls hd=>(ma ls hd).map λ p=>((p.1.1.zipIdx.map λ q=>B4 [.im (.int (q.2:Int)),q.1],p.1.2),p.2)
theorem Qg{ta:TE}{ma:MI}(ha:RRw K false ta ma):RIt K (MK K (C1 ta CT)) (IC ma):=by
  intro ρ σ H hd ls Q d g hd' hR hL hm hQ
  obtain⟨⟨⟨d1,g1⟩,h1⟩,e1,e2⟩:=Option.map_eq_some_iff.mp hm
  cases e2
  refine ha ρ σ H hd ls _ d1 g1 h1 hR hL e1 λ ρ1 H1 a x1 R1 G1 S1=>?_
  obtain⟨xs,c1,r1⟩:=S1 ρ1 H1 _ .refl R1 G1
  refine⟨a,xs,rfl,c1,hQ ρ1 H1 _ x1 R1 G1 ?_⟩
  intro ρ3 H3 hd3 x3 R3 G3 i
  obtain⟨xs,c1,r1⟩:=S1 ρ3 H3 _ x3 R3 G3
  have l1:=r1.len
  refine⟨λ hi=>?_,λ hi=>⟨xs,c1,?_⟩⟩
  . have hi:i < d1.length:=by simpa using hi
    have i1:d1[i]? = some (d1[i]'hi):=List.getElem?_eq_getElem _
    obtain⟨x,x4,x5⟩:=r1.get i1
    refine⟨⟨xs,x,c1,x4⟩,λ z H4 hz=>?_⟩
    obtain⟨p,v,fp,rfl,rfl,hv⟩:=hz
    have ev:=hv xs c1;rw[x4]at ev;cases ev
    obtain⟨R4,x6⟩:=R3.hid (ho:=.tup [.int (i:Int),x]) fp
    refine⟨ρ3,B4 [.im (.int (i:Int)),d1[i]'hi],x6,rfl,R4,?_,Cu (SqT.of AW) (.cons (by simp[RD,RI]) (.cons (x5.ext R3 x6) .nil))⟩
    simp[i1]
  . have hi:i=d1.length:=by simpa using hi
    omega
theorem Qw(K:PySem.W.Frag){X:Cx}{a:Expr}{ta:TE}{ma:MI}{elts:List Expr}{kk:Nat}{tpos p pos:Pos}(hm:X.mg "enumerate"=none)(ha:QR K false X a ta ma)(hg:Gl X "enumerate":=by rfl)(hK:X.K=K:=by rfl)(hs:starEach [a] X.env=[(false,eval a X.env)]:=by rfl) :
    QI K X (.Tuple elts kk tpos) (.Call (.Name "enumerate" p) [a] [] pos) (MK K (C1 ta CT)) (IC ma):=⟨RX K hg hm (Ci ha.p DQ hs) hK hs,Qg ha.r⟩
theorem Q5{ma:MI}{ls:Ls}{hd:Hd}{QI:List D × Gd->Hd->Prop}(h:WI ma ls hd λ p x=>QI (p.1.zipIdx.map λ q=>B4 [.im (.int (q.2:Int)),q.1],p.2) x):WI (IC ma) ls hd QI:=by
  obtain⟨p,x,e,q⟩:=h
  exact⟨_,_,by simp only[IC,e,Option.map_some],q⟩
end
noncomputable def Kz:V->List V->Hp->VK->Prop:=λ x vs H Q=>∃ (l:Addr) (xs:List V) (i:Int) (k:Nat) (y:V),x=.ref l/\vs=[.int i,y]/\i=(k:Int)/\H l=some (.lst xs)/\k <= xs.length/\xs.length < sizeLine/\Q .non (upd H l (.lst (xs.take k ++ y :: xs.drop k)))
theorem NN{X:Cx}:MtM X "list.insert" Kz:=by
  intro pins s σ H x vs v us Q I rx rv h
  obtain⟨l,xs,i,k,y,rfl,rfl,hi,hH,hk,hz,q⟩:=h
  cases rx
  obtain⟨u,w,rfl,ru,rw'⟩:=Pa rv
  obtain⟨t,rfl⟩:=ru
  obtain⟨z,its,n,r,hl,e⟩:=I.lstM hH
  have h1:its.toArray.size <= sizeLine:=by rw[List.size_toArray,<- hl];exact z
  have hkl:k <= its.length:=by rw[<- hl];exact hk
  have hf:¬ (!Builtin.List.listFitsIndex i)=true:=by
    have h3:=FN
    have h4:=Nat.lt_of_le_of_lt hk hz
    rw[fitsIndex_both (k:=i) (by omega) (by omega)];decide
  have M:=AutoSeq1.list_insert_list_int_val_1 l its.toArray n i t w hf
  have M:=M h1
  refine call_meets F.slot_list_insert ⟨_,e,rfl⟩ F.entry_list_insert (F.args_list_insert_3 _ _ _) M ⟨e,?_⟩
  . refine⟨.non,_,I.lset (its':=its.take k ++ w :: its.drop k) hH e ?_ ((r.take k).append (.cons rw' (r.drop k))) ?_,rfl,q⟩
    . show((its.toArray.extract 0 (if i < 0 then(i + (its.toArray.size:Int)).toNat else min i.toNat its.toArray.size)).push w ++ its.toArray.extract (if i < 0 then(i + (its.toArray.size:Int)).toNat else min i.toNat its.toArray.size))=_
      have e1:(if i < 0 then(i + (its.toArray.size:Int)).toNat else min i.toNat its.toArray.size)=k:=by
        rw[if_neg (by omega),hi,Int.toNat_natCast,List.size_toArray];omega
      rw[e1]
      apply Array.ext'
      simp[List.extract_eq_drop_take]
      try exact List.take_of_length_le (by simp)
    . rw[List.length_append,List.length_take,List.length_cons,List.length_drop]
      have:=Nat.succ_le_of_lt hz
      rw[Nat.min_eq_left hk]
      omega
open Classical in
noncomputable def FP:D->List D->Hd->Option (D × Hd)
  | .mu n,[.im (.int i),y],hd=>match hd[n]? with
    | some (.lst ds)=>if 0 <= i/\i <= ds.length/\Ev ds.length then some (.im .non,hd.set n (.lst (ds.take i.toNat ++ y :: ds.drop i.toNat)))else none
    | _=>none
  | _,_,_=>none
section
variable{K:PySem.W.Frag}{ρ ρ':List Addr}{H H':Hp}{hd hd':Hd}
theorem RDs.takeD:∀ {ds:List D} {xs:List V} (k:Nat),RDs K ρ H ds xs->RDs K ρ H (ds.take k) (xs.take k)
  | [],xs,k,h=>by simp only[RDs]at h;subst h;simp[RDs]
  | d :: ds,xs,0,h=>by simp[RDs]
  | d :: ds,xs,k + 1,h=>by
    simp only[RDs]at h
    obtain⟨x,r,rfl,h1,h2⟩:=h
    simp only[List.take_succ_cons,RDs]
    exact⟨x,_,rfl,h1,RDs.takeD k h2⟩
theorem RDs.dropD:∀ {ds:List D} {xs:List V} (k:Nat),RDs K ρ H ds xs->RDs K ρ H (ds.drop k) (xs.drop k)
  | [],xs,k,h=>by simp only[RDs]at h;subst h;simp[RDs]
  | d :: ds,xs,0,h=>by simpa using h
  | d :: ds,xs,k + 1,h=>by
    simp only[RDs]at h
    obtain⟨x,r,rfl,h1,h2⟩:=h
    simp only[List.drop_succ_cons]
    exact RDs.dropD k h2
theorem Mu:RM K Kz FP:=by
  intro ρ H hd d v ds vs Q z hd' hR h1 h2 hf hQ
  unfold FP at hf
  split at hf
  . next n i y=>
    split at hf
    . next es q=>
      split at hf
      . next c=>
        cases hf
        simp only[RD]at h1
        obtain⟨a,hn,rfl⟩:=h1
        simp only[RDs,RD,RI]at h2
        obtain⟨x,r,rfl,rfl,y',r',rfl,hy,rfl⟩:=h2
        obtain⟨xs,f1,f2⟩:=hR.lst hn q
        have l:=f2.len
        obtain⟨R2,x2⟩:=hR.put hn (o:=.lst (es.take i.toNat ++ y :: es.drop i.toNat)) (ho:=.lst (xs.take i.toNat ++ y' :: xs.drop i.toNat)) ⟨_,rfl,(RDs.takeD _ f2).app (.cons hy (RDs.dropD _ f2))⟩
        exact⟨a,xs,i,i.toNat,y',rfl,rfl,by omega,f1,by omega,by rw[l];exact c.2.2,hQ ρ _ _ x2 R2 (by simp[RD,RI])⟩
      . cases hf
    . cases hf
  . cases hf
end
theorem Me{hd:Hd}{k:Nat}{i:Int}{y:D}{ds:List D}{QE:D->Hd->Prop}(e1:hd[k]? = some (.lst ds))(c1:0 <= i)(c2:i <= ds.length)(c3:Ev ds.length)(q:QE (.im .non) (hd.set k (.lst (ds.take i.toNat ++ y :: ds.drop i.toNat)))):WP (FP (.mu k) [.im (.int i),y] hd) QE:=by
  refine⟨_,_,?_,q⟩
  simp only[FP,e1,c1,c2,c3,and_self,if_true]
end L2
namespace HT
open PySem PySem.Spec PyProof.Rows
section
variable{prog:Program}{w:World}{A:Around}{E:Value->Shared->Prop}{s:Shared}
end
end HT
namespace L2
open PySem PySem.Spec PyProof.Rows
section
variable{X:Cx}
end
section
variable{K:PySem.W.Frag}{ρ ρ':List Addr}{H H':Hp}{hd hd':Hd}
end
section
variable{X:Cx}
end
section
variable{X:Cx}
end
end L2
namespace L2
open PySem PySem.Spec PyProof.Rows
section
variable{prog:Program}{w:World}{A:Around}{E:Value->Shared->Prop}{s:Shared}
end
end L2
namespace L2
open PySem PySem.Spec PyProof.Rows
section
variable(K:PySem.W.Frag){X:Cx}
end
section
variable{K:PySem.W.Frag}
end
end L2
namespace L2
end L2
namespace L2
open PySem PySem.Spec PyProof.Rows
section
variable{K:PySem.W.Frag}{ρ ρ':List Addr}{H H':Hp}{hd hd':Hd}
end
section
variable{hd:Hd}{QE:D->Hd->Prop}
end
end L2
namespace L2
open PySem PySem.Spec PyProof.Rows PySem.W
section
variable{prog:Program}{w:World}{A:Around}{E:Value->Shared->Prop}{s:Shared}
end
end L2
namespace L2
open PySem PySem.Spec PyProof.Rows PySem.W
section
variable{X:Cx}{pins:List (Addr × Obj)}{σ:St}{H:Hp}{s:Shared}{a:Addr}
end
end L2
namespace L2
open PySem PySem.Spec PyProof.Rows PySem.W
section
variable{X:Cx}{pins:List (Addr × Obj)}{σ:St}{H:Hp}{s:Shared}
end
end L2
namespace L2
open PySem PySem.Spec PyProof.Rows PySem.W
section
variable{X:Cx}{c P:Addr}{scope:Scope}{fr:List Str}{ix:List Nat}{prm:Str}{params:Arguments}{body e:Expr}{p pos lpos kpos:Pos}{te tb:TE}
end
end L2
namespace L2
open PySem PySem.Spec PyProof.Rows PySem.W
section
variable{K:PySem.W.Frag}{ρ:List Addr}{H:Hp}{hd:Hd}
end
end L2
namespace L2
open PySem PySem.Spec PyProof.Rows PySem.W
end L2
namespace HT
open PySem PyProof.Rows
end HT
namespace L2
open PySem PySem.Spec PyProof.Rows
section
variable{X:Cx}
end
section
variable{K:PySem.W.Frag}
end
end L2
namespace HT
open PySem PyProof.Rows
open PySem.AutoSeq1 (wpAny_loadPart')
section
variable{prog:Program}{w:World}{A:Around}{E:Value->Shared->Prop}{s:Shared}
end
end HT
namespace L2
open PySem PySem.Spec PyProof.Rows
end L2
namespace HS
open PySem PyProof.Rows
open PySem.AutoSeq1 (wpAny_loadPart')
open Sem (wp)
noncomputable abbrev st(t:Tok):List (Str × Value):=[(Str.ofString "start",.int 1 t)]
section
variable{prog:Program}{w:World}{A:Around}{E:Value->Shared->Prop}{s:Shared}
end
end HS
namespace L2
open PySem PySem.Spec PyProof.Rows
section
variable{K:PySem.W.Frag}
end
end L2
namespace HR
open PySem PyProof.Rows
open Sem (wp)
section
variable{prog:Program}{w:World}{A:Around}{E:Value->Shared->Prop}{s:Shared}
end
section
variable{prog:Program}{w:World}{A:Around}{R:Result->Shared->Prop}
end
section
variable{prog:Program}{w:World}{A:Around}{R:Result->Shared->Prop}{s:Shared}
end
section
variable{prog:Program}{w:World}{A:Around}{E:Value->Shared->Prop}{s:Shared}
end
end HR
namespace L2
open PySem PySem.Spec PyProof.Rows
section
variable{K:PySem.W.Frag}
end
end L2
namespace L2
open PySem PySem.Spec PyProof.Rows PySem.W
section
variable{X:Cx}{pins:List (Addr × Obj)}{σ:St}{l f It S:Addr}{src:Hp->List V->Prop}{G:Hp->Prop}{tb:TE}{cap:St}{Q:VK}{E:Value->Shared->Prop}
end
end L2
namespace L2
open PySem PySem.Spec PyProof.Rows PySem.W
section
variable{X:Cx}{c P:Addr}{scope:Scope}{fr:List Str}{ix:List Nat}{prm:Str}{params:Arguments}{body e:Expr}{p pos lpos kpos:Pos}{te tb:TE}
end
end L2
namespace L2
open PySem PySem.Spec PyProof.Rows PySem.W
section
variable{K:PySem.W.Frag}{hd:Hd}
end
end L2
namespace L2
open PySem PySem.Spec PyProof.Rows PySem.W
section
variable{X:Cx}{pins:List (Addr × Obj)}{σ:St}{l f It S:Addr}{src:Hp->List V->Prop}{G:Hp->Prop}{tb:TE}{cap:St}{Q:VK}{E:Value->Shared->Prop}
end
section
variable{X:Cx}{c P:Addr}{scope:Scope}{fr:List Str}{ix:List Nat}{prm:Str}{params:Arguments}{body e:Expr}{p pos lpos kpos:Pos}{te tb:TE}
end
section
variable{K:PySem.W.Frag}{hd:Hd}
end
end L2
namespace L2
open PySem PySem.Spec PyProof.Rows PySem.W
section
variable{K:PySem.W.Frag}{hd:Hd}
end
section
variable{X:Cx}{pins:List (Addr × Obj)}{σ:St}{l f It S:Addr}{src:Hp->List V->Prop}{G:Hp->Prop}{tb:TE}{cap:St}{Q:VK}{E:Value->Shared->Prop}
end
section
variable{X:Cx}{c P:Addr}{scope:Scope}{fr:List Str}{ix:List Nat}{prm:Str}{params:Arguments}{body e:Expr}{p pos lpos kpos:Pos}{te tb:TE}
end
section
variable{K:PySem.W.Frag}{hd:Hd}
end
end L2
namespace L2
open PySem PySem.Spec PyProof.Rows PySem.W
end L2
namespace L2
open PySem PySem.Spec PyProof.Rows
section
variable{X:Cx}{pos p2:Pos}
end
end L2
namespace L2
open PySem PySem.Spec PyProof.Rows
section
variable{K:PySem.W.Frag}
variable{X:Cx}{pos:Pos}
end
end L2
namespace L2
open PySem PySem.Spec PyProof.Rows
section
variable{X:Cx}{e stp:Expr}{te ts:TE}{pos p2:Pos}
end
end L2
namespace L2
open PySem PySem.Spec PyProof.Rows
section
variable{K:PySem.W.Frag}{ρ:List Addr}{H:Hp}
variable{X:Cx}{e stp:Expr}{te ts:TE}{m:MA}{ms:ME}{pos p2:Pos}
end
end L2
namespace L2
open PySem PySem.Spec PyProof.Rows
section
variable{K:PySem.W.Frag}
end
end L2
namespace HT
open PySem PySem.Spec PyProof.Rows
section
variable{prog:Program}{w:World}{A:Around}{E:Value->Shared->Prop}{s:Shared}
end
end HT
namespace L2
open PySem PySem.Spec PyProof.Rows
section
variable{X:Cx}{e stp:Expr}{te ts:TE}{pos p2:Pos}
end
section
variable{K:PySem.W.Frag}{X:Cx}{e stp:Expr}{te ts:TE}{m ms:ME}{pos p2:Pos}
end
end L2
namespace L2
open PySem PySem.Spec PyProof.Rows
theorem JD:seqSlot? (.type "list") (dunderI "add")=pure (some (.builtin "list.__iadd__")):=PySem.seqSlot_of F.slot_list_iadd.lookup (by decide +kernel)
theorem O2{M:Model}{A:Around}{E:Value->Shared->Prop}{s:Shared}{a b:Value}{Q:Value->Shared->Prop}(ha:s.TypeIs a "list")(hb:s.TypeIs b "list")
    (hc:wpAny M A (call (.builtin "list.__iadd__") [a,b]) Q E s):wpAny M A (inplaceOp .Add a b) Q E s:=by
  unfold inplaceOp
  refine wpAny_holding ?_
  have hfi:fillsInplaceSlot (.type "list") "add" (Operator.Add == .Add)=pure false:=by
    unfold fillsInplaceSlot
    show(typeLookup (.type "list") (dunderI "add") >>= λ fi=>pure (fi.isSome && !isSeqSlot fi))=pure false
    rw[F.slot_list_iadd.lookup,pure_bind]
    have:isSeqSlot (some (.builtin "list.__iadd__"))=true:=by decide +kernel
    rw[this];rfl
  refine wpAny_bind (wpAny_typeOf ha (wpAny_bind (wpAny_of_eq hfi ?_)))
  show wpAny M A (if false=true then _ else _) Q E s
  rw[if_neg Bool.false_ne_true]
  refine wpAny_bind (wpAny_binaryOp1_none (nm:="add") ha hb noFill_list_add ?_)
  refine wpAny_bind (wpAny_of_eq JD ?_)
  exact wpAny_bind (wpAny_rule hc)
noncomputable def ipL:TIp:=λ x y H Q=>∃ l b xs zs,x=.ref l/\y=.ref b/\H l=some (.lst xs)/\H b=some (.lst zs)/\xs.length + zs.length <= sizeLine/\Q (.ref l) (upd H l (.lst (xs ++ zs)))
theorem Rv{X:Cx}:PIp X .Add ipL:=by
  intro pins s σ H x y v u Q I rx ry h
  obtain⟨l,b,xs,zs,rfl,rfl,hH,hB,hz,q⟩:=h
  cases rx
  cases ry
  obtain⟨z,its,n,r,hl,e⟩:=I.lstM hH
  obtain⟨z2,its2,n2,r2,hl2,e2⟩:=I.lstM hB
  have hsz:its.toArray.size + its2.toArray.size <= sizeLine:=by rw[List.size_toArray,List.size_toArray];omega
  have hlong:¬ (!its.toArray.isEmpty && Builtin.List.listTooLong (its.toArray.size + its2.toArray.size))=true:=by
    rw[Fc hsz,Bool.and_false]
    exact Bool.false_ne_true
  refine O2 ⟨_,e,rfl⟩ ⟨_,e2,rfl⟩ (call_meets F.slot_list_iadd ⟨_,e,rfl⟩ F.entry_list_iadd (F.args_list_iadd_2 _ _)
    (AutoSeq1.list___iadd___list_list_0 l its.toArray n b its2.toArray n2 hlong (by rw[List.size_toArray];omega) (by omega)) ⟨e,e2,?_⟩)
  refine⟨.ref l,_,I.lset (its':=its ++ its2) hH e (by simp) (r.append r2) ?_,rfl,q⟩
  rw[List.length_append]
  omega
theorem Rz(l:Addr)(items:Array Value)(n:Nat)(b:Addr)(items2:Array Value)(n2:Nat)(dd:Option Addr)(sl:Array (Option Value))(hs0:¬(!items.isEmpty && Builtin.List.listTooLong (items.size + items2.size))=true)(hs1:items.size <= sizeLine)(hs2:items.size + items2.size <= sizeLine + 1) :
    Meets (Builtin.«list.extend» ⟨[.ref l,.ref b],[]⟩) (λ _ R s=>s.heap.get? l=some { cls:=.type "list",dict:=none,data:=.seq items n,slots:=#[] }/\s.heap.get? b=some { cls:=.type "tuple",dict:=dd,data:=.seq items2 n2,slots:=sl }/\R (.ok (.ret Value.none)) { s with heap:=s.heap.update l (Obj.mapSeq λ x=>x ++ items2),toks:=s.toks }):=
  .of_wp λ prog w A R s h=>by
    obtain⟨hp,g,d,tk,os⟩:=s;obtain⟨hl,hb,h⟩:=h;have f1:=AutoSeq1.idx_int;have f2:=AutoSeq1.sub_tuple_tuple;have f3:=AutoSeq1.sub_list_list;have f4:=AutoSeq1.sub_tuple_list;have f5:=AutoSeq1.sub_list_tuple;
    have hz':(items ++ items2).size <= sizeLine + 1:=by rw[Array.size_append];exact hs2
    wp_walk using (wpAny_updateSeq hl rfl (hz:=hs1) (_hz':=hz')),AutoSeq1.wpAny_loadPart' hl,AutoSeq1.wpAny_loadPart' hb;exact⟨_,rfl,h⟩
noncomputable def Pk(K:PySem.W.Frag):V->List V->Hp->VK->Prop:=λ x vs H Q=>∃ l b xs zs,x=.ref l/\vs=[.ref b]/\H l=some (.lst xs)/\SqT K H b zs/\xs.length + zs.length <= sizeLine/\Q .non (upd H l (.lst (xs ++ zs)))
theorem Rk{X:Cx}{K:PySem.W.Frag}(hK:X.K=K:=by rfl):MtM X "list.extend" (Pk K):=by
  subst hK
  intro pins s σ H x vs v us Q I rx rv h
  obtain⟨l,b,xs,zs,rfl,rfl,hH,hB,hz,q⟩:=h
  cases rx
  obtain⟨u,rfl,ru⟩:=rv.one
  cases ru
  obtain⟨z,its,n,r,hl,e⟩:=I.lstM hH
  obtain⟨its2,r2,⟨⟨c2,dd,da,sl⟩,e2,rfl,n2,rfl⟩,_⟩:=I.tuple hB
  have hl2:=r2.length
  have hsz:its.toArray.size + its2.toArray.size <= sizeLine:=by rw[List.size_toArray,List.size_toArray];omega
  have hlong:¬ (!its.toArray.isEmpty && Builtin.List.listTooLong (its.toArray.size + its2.toArray.size))=true:=by
    rw[Fc hsz,Bool.and_false]
    exact Bool.false_ne_true
  refine call_meets F.slot_list_extend ⟨_,e,rfl⟩ F.entry_list_extend (F.args_list_extend_2 _ _)
    (Rz l its.toArray n b its2.toArray n2 dd sl hlong (by rw[List.size_toArray];omega) (by omega)) ⟨e,e2,?_⟩
  refine⟨.non,_,I.lset (its':=its ++ its2) hH e (by simp) (r.append r2) ?_,rfl,q⟩
  rw[List.length_append]
  omega
section
variable{K:PySem.W.Frag}
open Classical in
noncomputable def Gk:D->List D->Hd->Option (D × Hd)
  | .mu n,[d],hd=>match hd[n]?,Ad d with
    | some (.lst ds),some es=>if BU (ds.length + es.length)then some (.im .non,hd.set n (.lst (ds ++ es)))else none
    | _,_=>none
  | _,_,_=>none
theorem Qd:RM K (Pk K) Gk:=by
  intro ρ H hd d v ds vs Q z hd' hR h1 h2 hf hQ
  unfold Gk at hf
  split at hf
  . next n d1=>
    split at hf
    . next es1 es2 q1 q2=>
      split at hf
      . next c=>
        cases hf
        simp only[RD]at h1
        obtain⟨a,hn,rfl⟩:=h1
        simp only[RDs]at h2
        obtain⟨x,r,rfl,hm,rfl⟩:=h2
        obtain⟨b,ys,rfl,g1,g2⟩:=hm.tup q2
        obtain⟨xs,f1,f2⟩:=hR.lst hn q1
        have l1:=f2.len;have l2:=g2.len
        obtain⟨R2,x2⟩:=hR.put hn (o:=.lst (es1 ++ es2)) (ho:=.lst (xs ++ ys)) ⟨_,rfl,f2.app g2⟩
        exact⟨a,b,xs,ys,rfl,rfl,f1,g1,by rw[l1,l2];exact c,hQ ρ _ _ x2 R2 (by simp[RD,RI])⟩
      . cases hf
    . cases hf
  . cases hf
open Classical in
noncomputable def Gg(i:Nat)(m:ME):MS:=λ ls hd=>match ls[i]? with
  | some (some (.mu n))=>(m ls hd).bind λ p=>match p.1 with
    | .mu k=>match p.2[n]?,p.2[k]? with
      | some (.lst ds),some (.lst es)=>if BU (ds.length + es.length)then some (.nx (ls.set i (some (.mu n))),p.2.set n (.lst (ds ++ es)))else none
      | _,_=>none
    | _=>none
  | _=>none
theorem QY{i:Nat}{t:TE}{m:ME}(h:RE K t m):RS K (Je i t ipL) (Gg i m):=by
  intro ρ σ H hd0 ls E f hd' hR hL hm hQ
  unfold Gg at hm
  split at hm
  . next n e0=>
    obtain⟨⟨d1,h1⟩,e1,hm⟩:=Option.bind_eq_some_iff.mp hm
    dsimp only at hm
    split at hm
    . next k=>
      split at hm
      . next ds es q1 q2=>
        split at hm
        . next c=>
          cases hm
          obtain⟨v,v1,v2⟩:=hL.ob i _ e0
          refine⟨_,v1,h ρ σ H hd0 ls _ _ _ hR hL e1 λ ρ1 H1 w x1 R1 r1=>?_⟩
          have v3:=v2.ext hR x1
          simp only[RD]at v3 r1
          obtain⟨a,hn,rfl⟩:=v3
          obtain⟨b,hm,rfl⟩:=r1
          obtain⟨xs,f1,f2⟩:=R1.lst hn q1
          obtain⟨ys,g1,g2⟩:=R1.lst hm q2
          have l1:=f2.len;have l2:=g2.len
          obtain⟨R2,x2⟩:=R1.put hn (o:=.lst (ds ++ es)) (ho:=.lst (xs ++ ys)) ⟨_,rfl,f2.app g2⟩
          refine⟨a,b,xs,ys,rfl,rfl,f1,g1,by rw[l1,l2];exact c,hQ ρ1 _ (x1.trans R1 x2) R2 _ ((hL.ext hR (x1.trans R1 x2)).set i ?_)⟩
          simp only[RD]
          exact⟨a,hn,rfl⟩
        . cases hm
      . cases hm
    . cases hm
  . cases hm
theorem Qv{X:Cx}{i:Nat}{x:Str}{e:Expr}{te:TE}{me:ME}{pos pos':Pos}(hN:X.N.Nodup)(hi:X.N[i]? = some x)(hx:Loc X.env.scope x)(he:QE K X e te me)(hf:X.fn x=true ∨ X.env.scope.names.lookup x=some .local:=by first|exact .inl rfl|exact .inr rfl|assumption) :
    QS K X (.AugAssign (.Name x pos') .Add e pos) (Je i te ipL) (Gg i me):=⟨N9 hN hi hx he.p Rv hf,QY he.r⟩
noncomputable def FM(f g:D->D->Hd->Option (D × Hd))(ma mb mc:ME):ME:=λ ls hd=>(ma ls hd).bind λ p=>(mb ls p.2).bind λ q=>(f p.1 q.1 q.2).bind λ r=>match r.1 with
  | .im (.bl k)=>if k=true then(mc ls r.2).bind λ u=>g q.1 u.1 u.2 else some (.im (.bl false),r.2)
  | _=>none
theorem OZ{r r':R2}{f g:D->D->Hd->Option (D × Hd)}{ta tb tc:TE}{ma mb mc:ME}(hr:RB K r f)(hr':RB K r' g)(ha:RE K ta ma)(hb:RE K tb mb)(hc:RE K tc mc):RE K (Jd r r' ta tb tc) (FM f g ma mb mc):=by
  intro ρ σ H hd ls Q d hd' hR hL hm hQ
  obtain⟨⟨d1,h1⟩,e1,hm⟩:=Option.bind_eq_some_iff.mp hm
  obtain⟨⟨d2,h2⟩,e2,hm⟩:=Option.bind_eq_some_iff.mp hm
  obtain⟨⟨d3,h3⟩,e3,hm⟩:=Option.bind_eq_some_iff.mp hm
  dsimp only at hm
  refine ha ρ σ H hd ls _ d1 h1 hR hL e1 λ ρ1 H1 v1 x1 R1 r1=>?_
  refine hb ρ1 σ H1 h1 ls _ d2 h2 R1 (hL.ext hR x1) e2 λ ρ2 H2 v2 x2 R2 r2=>?_
  refine hr ρ2 H2 h2 d1 d2 v1 v2 _ d3 h3 R2 (r1.ext R1 x2) r2 e3 λ ρ3 H3 w x3 R3 r3=>?_
  have X3:=(x1.trans R1 x2).trans R2 x3
  split at hm
  . next k=>
    simp only[RD,RI]at r3
    refine⟨k,r3,?_⟩
    cases k with
    | false=>
      simp only[Bool.false_eq_true,if_false]at hm ⊢
      cases hm
      exact hQ ρ3 H3 _ X3 R3 (by simp[RD,RI])
    | true=>
      simp only[if_true]at hm ⊢
      obtain⟨⟨d4,h4⟩,e4,hm⟩:=Option.bind_eq_some_iff.mp hm
      refine hc ρ3 σ H3 h3 ls _ d4 h4 R3 (hL.ext hR X3) e4 λ ρ4 H4 v4 x4 R4 r4=>?_
      exact hr' ρ4 H4 h4 d2 d4 v2 v4 Q d hd' R4 ((r2.ext R2 x3).ext R3 x4) r4 hm λ ρ' H' w x5 R5 r5=>hQ ρ' H' w ((X3.trans R3 x4).trans R4 x5) R5 r5
  . cases hm
theorem Oj{X:Cx}{a b c:Expr}{ta tb tc:TE}{ma mb mc:ME}{pos:Pos}{op op':CmpOp}{r r':R2}{f g:D->D->Hd->Option (D × Hd)}(ho:OpR X (compareOp op) r)(hr:RB K r f)(ho':OpR X (compareOp op') r')(hr':RB K r' g)(ha:QE K X a ta ma)(hb:QE K X b tb mb)(hc:QE K X c tc mc)
    (hm:lastMarks [op,op'] [b,c]=false:=by with_unfolding_all rfl):QT K X (.Compare a [op,op'] [b,c] pos) (Em (Jd r r' ta tb tc)) (AT (FM f g ma mb mc)):=⟨Op ho ho' ha.p hb.p hc.p hm,DE (OZ hr hr' ha.r hb.r hc.r)⟩
theorem O5{f g:D->D->Hd->Option (D × Hd)}{ma mb mc:ME}{ls:Ls}{hd:Hd}{Q:D->Hd->Prop}(h:WE ma ls hd λ d x=>WE mb ls x λ e y=>WP (f d e y) λ r z=>∃ k,r=.im (.bl k)/\(k=true->WE mc ls z λ u w=>WP (g e u w) Q)/\(k=false->Q (.im (.bl false)) z)):WE (FM f g ma mb mc) ls hd Q:=by
  obtain⟨d,x,e1,e,y,e2,r,z,e3,k,rfl,h1,h2⟩:=h
  cases k with
  | false=>exact⟨_,_,by simp only[FM,e1,e2,e3,Option.bind_some,Bool.false_eq_true,if_false],h2 rfl⟩
  | true=>
    obtain⟨u,w,e4,v,t,e5,q⟩:=h1 rfl
    exact⟨v,t,by simp only[FM,e1,e2,e3,Option.bind_some,if_true,e4,e5],q⟩
theorem Q2{n:Nat}{d:D}{ds es:List D}{hd:Hd}{Q:D->Hd->Prop}(e1:hd[n]? = some (.lst ds))(e2:Ad d=some es)(c:BU (ds.length + es.length))(q:Q (.im .non) (hd.set n (.lst (ds ++ es)))):WP (Gk (.mu n) [d] hd) Q:=⟨_,_,by simp only[Gk,e1,e2,c,if_true],q⟩
theorem Q0{i n:Nat}{m:ME}{ls:Ls}{hd:Hd}{Q:Fl->Hd->Prop}(e:ls[i]? = some (some (.mu n)))(h:WE m ls hd λ d y=>∃ k ds es,d=.mu k/\y[n]? = some (.lst ds)/\y[k]? = some (.lst es)/\BU (ds.length + es.length)/\Q (.nx (ls.set i (some (.mu n)))) (y.set n (.lst (ds ++ es)))):WS (Gg i m) ls hd Q:=by
  obtain⟨d,y,e1,k,ds,es,rfl,q1,q2,c,q⟩:=h
  exact⟨_,_,by unfold Gg;rw[e];simp only[e1,Option.bind_some,q1,q2,c,if_true],q⟩
end
end L2
namespace T70
open PySem L2
noncomputable def top(i:Nat):Stmt:=PySem.Challenge.pw_benchdays_k70_whole_blocks_hold_together.main.body.getD i (.Pass ⟨0,0,0,0⟩)
noncomputable abbrev B2:Stmt:=top 4
theorem sc_common_divisor:FnScope ["one","other"] ["one","other"] (AA B2):=⟨rfl,rfl,rfl,by decide +kernel,rfl,by decide +kernel,by decide +kernel⟩
@[reducible] noncomputable def EY:MS:=(AF (Ak 0 (mCB KP (A2 (A0 0) A7)))
    (AF (Du (AT (mOp gNe (A0 1) (mC (.int 0))))
      (Cj [0,1] (A2 (A0 1) (A2 (mOp Ee (A0 0) (A0 1)) A7))))
    (Am (A0 0))))
noncomputable def Bu:List D->Hd->Option (D × Hd):=mkF 2 2 EY
noncomputable abbrev C2:Stmt:=top 5
theorem sc_fraction:FnScope ["top","bottom","shared"] ["top","bottom"] (AA C2):=⟨rfl,rfl,rfl,by decide +kernel,rfl,by decide +kernel,by decide +kernel⟩
@[reducible] noncomputable def Hz:MS:=(AF (BX (AT (mOp gLt (A0 1) (mC (.int 0))))
      (Cj [0,1] (A2 (HK (A0 0)) (A2 (HK (A0 1)) A7)))
      BD)
    (AF (Ak 2 (AI 0 Bu (A2 (A0 0) (A2 (A0 1) A7))))
    (Am (BT (A2 (mOp Fk (A0 0) (A0 2)) (A2 (mOp Fk (A0 1) (A0 2)) A7))))))
noncomputable def Db:List D->Hd->Option (D × Hd):=mkF 2 3 Hz
noncomputable abbrev CV:Stmt:=top 6
theorem QL:FnScope ["one","other"] ["one","other"] (AA CV):=⟨rfl,rfl,rfl,by decide +kernel,rfl,by decide +kernel,by decide +kernel⟩
@[reducible] noncomputable def NS:MS:=(Am (mOp gLt (mOp BY (mOp gIx (A0 0) (mC (.int 0))) (mOp gIx (A0 1) (mC (.int 1)))) (mOp BY (mOp gIx (A0 1) (mC (.int 0))) (mOp gIx (A0 0) (mC (.int 1))))))
noncomputable def DZ:List D->Hd->Option (D × Hd):=mkF 2 2 NS
noncomputable abbrev Bj:Stmt:=top 7
theorem sc_falling:FnScope ["ratios","row","k","ratio"] ["ratios"] (AA Bj):=⟨rfl,rfl,rfl,by decide +kernel,rfl,by decide +kernel,by decide +kernel⟩
@[reducible] noncomputable def Iy:MS:=(AF (Ak 1 (B1 (C6 A7)))
    (AF (Ck (IC (CD (A0 0))) (Cv 2 (Ax (AN 2) (Ax (AN 3) Cw)))
      (Bx (mMt FP (A0 1) (A2 (E5 B3 (BP 1 [0,3] (CD (A0 1)) (AN 0) (GI (Cy (AI 0 DZ (A2 (mOp gIx (A0 1) (A0 0)) (A2 (A0 2) A7))))) (A0 0))) (A2 (A0 2) A7)))))
    (Am (A0 1))))
noncomputable def Ce:List D->Hd->Option (D × Hd):=mkF 1 4 Iy
noncomputable abbrev Bh:Stmt:=top 9
theorem Jp:FnScope ["works","some"] ["works","some"] (AA Bh):=⟨rfl,rfl,rfl,by decide +kernel,rfl,by decide +kernel,by decide +kernel⟩
@[reducible] noncomputable def Gq:MS:=(Am (E5 HQ (BP 1 [0] (Dg (A0 1)) (AN 0) CN (mOp gIx (mOp gIx (A0 1) (A0 0)) (mC (.int 0))))))
noncomputable def Cr:List D->Hd->Option (D × Hd):=mkF 2 2 Gq
noncomputable abbrev BI:Stmt:=top 10
theorem sc_same_coming:FnScope ["works","coming"] ["works"] (AA BI):=⟨rfl,rfl,rfl,by decide +kernel,rfl,by decide +kernel,by decide +kernel⟩
@[reducible] noncomputable def Fw:MS:=(AF (Ak 1 (mOp gIx (mOp gIx (A0 0) (mC (.int 0))) (mC (.int 1))))
    (AF (BX (Cy (E5 P5 (BP 1 [1] (Dg (A0 0)) (AN 0) CN (mOp gEq (mOp gIx (A0 0) (mC (.int 1))) (A0 1)))))
      (Am (A0 1))
      BD)
    (Am (mC .non))))
noncomputable def CK:List D->Hd->Option (D × Hd):=mkF 1 2 Fw
noncomputable abbrev BR:Stmt:=top 11
theorem sc_one_coming:FnScope ["works","coming"] ["works"] (AA BR):=⟨rfl,rfl,rfl,by decide +kernel,rfl,by decide +kernel,by decide +kernel⟩
@[reducible] noncomputable def GE:MS:=(AF (Ak 1 (AI 0 CK (A2 (A0 0) A7)))
    (AF (BX (AT (Ez false (A0 1)))
      GJ
      BD)
    (Am (A0 1))))
noncomputable def Cd:List D->Hd->Option (D × Hd):=mkF 1 2 GE
noncomputable abbrev Ai:Stmt:=top 12
theorem FE:FnScope ["works","word"] ["works","word"] (AA Ai):=⟨rfl,rfl,rfl,by decide +kernel,rfl,by decide +kernel,by decide +kernel⟩
@[reducible] noncomputable def DS:MS:=(BX (Cy (E5 P4 (BP 1 [1] (Dg (A0 0)) (AN 0) CN (mOp gNe (mOp gIx (mOp gIx (A0 0) (mC (.int 2))) (mC (.int 0))) (A0 1)))))
      GJ
      BD)
noncomputable def BG:List D->Hd->Option (D × Hd):=mkF 2 2 DS
noncomputable abbrev Bf:Stmt:=top 13
theorem Jo:FnScope ["work"] ["work"] (AA Bf):=⟨rfl,rfl,rfl,by decide +kernel,rfl,by decide +kernel,by decide +kernel⟩
@[reducible] noncomputable def Gp:MS:=(Am (mOp gIx (mOp gIx (A0 0) (mC (.int 2))) (HK (mC (.int 1)))))
noncomputable def Cq:List D->Hd->Option (D × Hd):=mkF 1 1 Gp
noncomputable abbrev Ay:Stmt:=top 15
theorem sc_weighted_coming:FnScope ["works","coming"] ["works"] (AA Ay):=⟨rfl,rfl,rfl,by decide +kernel,rfl,by decide +kernel,by decide +kernel⟩
@[reducible] noncomputable def E9:MS:=(AF (Ak 1 (AI 0 Cd (A2 (A0 0) A7)))
    (AF (Bx (AI 0 BG (A2 (A0 0) (A2 (mC (.str "ends")) A7))))
    (Am (A0 1))))
noncomputable def Bb:List D->Hd->Option (D × Hd):=mkF 1 2 E9
noncomputable abbrev BO:Stmt:=top 16
theorem Kh:FnScope ["works","some"] ["works","some"] (AA BO):=⟨rfl,rfl,rfl,by decide +kernel,rfl,by decide +kernel,by decide +kernel⟩
@[reducible] noncomputable def Hy:MS:=(Am (AI 0 Db (A2 (E5 HQ (BP 1 [0] (Dg (A0 1)) (AN 0) CN (AI 0 Cq (A2 (mOp gIx (A0 1) (A0 0)) A7)))) (A2 (AI 0 Cr (A2 (A0 0) (A2 (A0 1) A7))) A7))))
noncomputable def Be:List D->Hd->Option (D × Hd):=mkF 2 2 Hy
noncomputable abbrev CA:Stmt:=top 21
theorem sc_row_of:FnScope ["works","wishes","a","line","block","many"] ["works","wishes","a"] (AA CA):=⟨rfl,rfl,rfl,by decide +kernel,rfl,by decide +kernel,by decide +kernel⟩
@[reducible] noncomputable def HJ(Dy:List D->Hd->Option (D × Hd)):MS:=(AF (Ak 3 (Cc Dy (A2 (A0 0) (A2 (A0 1) (A2 (B1 (BP 2 [2] (Dg (A0 1)) (Cv 2 (Ax (AN 0) (Ax (AN 1) Cw))) (AT (mOp gEq (A0 0) (A0 2))) (A0 1))) A7)))))
    (AF (Ak 4 (BT (A2 (A0 2) A7)))
    (AF (Ak 5 (mC (.int 0)))
    (AF (Du (Ed (AT (mOp gLt (A0 5) (mCB (f1 true B3) (A2 (A0 3) A7)))) (Cy (AI 0 DZ (A2 (AI 0 Be (A2 (A0 0) (A2 (A0 4) A7))) (A2 (AI 0 Be (A2 (A0 0) (A2 (mOp gIx (A0 3) (A0 5)) A7))) A7)))))
      (AF (Ak 4 (mOp BK (A0 4) (mOp gIx (A0 3) (A0 5))))
    (Ih 5 (λ i j=>i + j) (mC (.int 1)))))
    (Am (BT (A2 (A0 4) (A2 (B1 (Ff (A0 3) CL (Dj (A0 5)))) (A2 (B1 (Ff (A0 3) (Dj (A0 5)) CL)) A7)))))))))
noncomputable abbrev Bg:Stmt:=top 22
theorem sc_line_of:FnScope ["works","wishes","some","blocks","a","block","taken","left"] ["works","wishes","some"] (AA Bg):=⟨rfl,rfl,rfl,by decide +kernel,rfl,by decide +kernel,by decide +kernel⟩
@[reducible] noncomputable def GF(Hb:List D->Hd->Option (D × Hd)):MS:=(AF (Ak 3 (B1 (C6 A7)))
    (AF (Ck (CD (A0 2)) (AN 4)
      (GG (AF (E6 (Ec Hb (A2 (A0 0) (A2 (A0 1) (A2 (A0 4) A7)))) (Cv 3 (Ax (AN 5) (Ax (AN 6) (Ax (AN 7) Cw)))))
    (Gg 3 (B1 (HP (B1 (C6 (A2 (A0 5) A7))) (A0 7)))))))
    (Am (B1 (BP 1 [3] (CD (Cc Ce (A2 (B1 (BP 1 [0] (CD (A0 3)) (AN 0) CN (AI 0 Be (A2 (A0 1) (A2 (A0 0) A7))))) A7))) (AN 0) CN (mOp gIx (A0 1) (A0 0)))))))
noncomputable def RR:Nat->(List D->Hd->Option (D × Hd)) × (List D->Hd->Option (D × Hd))
  | 0=>(λ _ _=>none,λ _ _=>none)
  | n + 1=>(mkF 3 6 (HJ (RR n).2),mkF 3 8 (GF (RR n).1))
noncomputable abbrev Eh(n:Nat):List D->Hd->Option (D × Hd):=(RR n).1
theorem Jz:∀ n ds hd z,Eh n ds hd=some z->ds.length=3
  | 0,_,_,_,h=>nomatch h
  | n + 1,ds,hd,z,h=>AK ds hd z h
noncomputable abbrev Hb:List D->Hd->Option (D × Hd):=Eh 18
noncomputable abbrev Dx(n:Nat):List D->Hd->Option (D × Hd):=(RR n).2
theorem Fv:∀ n ds hd z,Dx n ds hd=some z->ds.length=3
  | 0,_,_,_,h=>nomatch h
  | n + 1,ds,hd,z,h=>AK ds hd z h
noncomputable abbrev Dy:List D->Hd->Option (D × Hd):=Dx 18
noncomputable abbrev Bi:Stmt:=top 18
theorem Jq:FnScope ["many","wishes"] ["many","wishes"] (AA Bi):=⟨rfl,rfl,rfl,by decide +kernel,rfl,by decide +kernel,by decide +kernel⟩
@[reducible] noncomputable def Gs:MS:=(Am (mOp gEq (JN (ID 2 [] (Dg (A0 1)) (Cv 2 (Ax (AN 0) (Ax (AN 1) Cw))) CN [] (JO (A0 1)))) (mCB (f1 true B3) (A2 (A0 1) A7))))
noncomputable def Cs:List D->Hd->Option (D × Hd):=mkF 2 2 Gs
noncomputable abbrev At:Stmt:=top 20
theorem Fx:FnScope ["works","wishes"] ["works","wishes"] (AA At):=⟨rfl,rfl,rfl,by decide +kernel,rfl,by decide +kernel,by decide +kernel⟩
@[reducible] noncomputable def Dt:MS:=(AF (Bx (AI 0 Bb (A2 (A0 0) A7)))
    (BX (GI (Cy (AI 0 Cs (A2 (mCB (f1 true B3) (A2 (A0 0) A7)) (A2 (A0 1) A7)))))
      GJ
      BD))
noncomputable def BV:List D->Hd->Option (D × Hd):=mkF 2 2 Dt
noncomputable abbrev CW:Stmt:=top 23
theorem sc_joined:FnScope ["works","wishes","seconds"] ["works","wishes"] (AA CW):=⟨rfl,rfl,rfl,by decide +kernel,rfl,by decide +kernel,by decide +kernel⟩
@[reducible] noncomputable def KF:MS:=(AF (Bx (AI 0 BV (A2 (A0 0) (A2 (A0 1) A7))))
    (AF (Ak 2 (B1 (BP 2 [] (Dg (A0 1)) (Cv 2 (Ax (AN 0) (Ax (AN 1) Cw))) CN (A0 1))))
    (Am (Cc Dy (A2 (A0 0) (A2 (A0 1) (A2 (B1 (BP 1 [2] (Eb (A2 (mCB (f1 true B3) (A2 (A0 0) A7)) A7)) (AN 0) (AT (mOp (gIn true) (A0 0) (A0 1))) (A0 0))) A7)))))))
noncomputable def Ei:List D->Hd->Option (D × Hd):=mkF 2 3 KF
noncomputable abbrev Do:Stmt:=top 25
theorem QK:FnScope ["_law_script"] ["_law_script"] (AA Do):=⟨rfl,rfl,rfl,by decide +kernel,rfl,by decide +kernel,by decide +kernel⟩
@[reducible] noncomputable def NP:MS:=(Am (B1 (C6 (A2 (B1 (IA (Ff (A0 0) CL (Dj (mC (.int 63)))))) (A2 (mC (.int 0)) (A2 (mC (.int 0)) (A2 (mC (.int 0)) A7)))))))
noncomputable def GS:List D->Hd->Option (D × Hd):=mkF 1 1 NP
noncomputable abbrev Cn:Stmt:=top 26
theorem sc_pick:FnScope ["_law_tape_here","_law_many","_law_found","_law_at","_law_cell","_law_mixed"] ["_law_tape_here","_law_many"] (AA Cn):=⟨rfl,rfl,rfl,by decide +kernel,rfl,by decide +kernel,by decide +kernel⟩
@[reducible] noncomputable def NR:MS:=(AF (EF (A0 0) (mC (.int 3)) (mOp BK (mOp gIx (A0 0) (mC (.int 3))) (mC (.int 1))))
    (AF (BX (AT (mOp gGt (mOp gIx (A0 0) (mC (.int 2))) (mC (.int 0))))
      (AF (Ak 2 (mOp Ee (mOp gIx (A0 0) (mC (.int 2))) (A0 1)))
    (AF (EF (A0 0) (mC (.int 2)) (mOp Fk (mOp gIx (A0 0) (mC (.int 2))) (A0 1)))
    (Am (A0 2))))
      BD)
    (AF (Ak 3 (mOp gIx (A0 0) (mC (.int 1))))
    (AF (EF (A0 0) (mC (.int 1)) (mOp BK (A0 3) (mC (.int 1))))
    (AF (Ak 4 (mIf (AT (Fg true (mOp gIx (A0 0) (mC (.int 0))) (C6 A7))) (mOp gIx (mOp gIx (A0 0) (mC (.int 0))) (mOp Ee (A0 3) (mCB (f1 true B3) (A2 (mOp gIx (A0 0) (mC (.int 0))) A7)))) (mC (.int 6))))
    (AF (BX (Ed (AT (mOp gGe (A0 4) (mOp U6 (mC (.int 10)) (mC (.int 18))))) (AT (mOp gLt (A0 3) (mCB (f1 true B3) (A2 (mOp gIx (A0 0) (mC (.int 0))) A7)))))
      (AF (EF (A0 0) (mC (.int 2)) (mOp Fk (A0 4) (A0 1)))
    (Am (mOp Ee (A0 4) (A0 1))))
      BD)
    (AF (Ak 5 (mOp Ee (mOp BK (mOp BK (mOp Ee (A0 4) (mC (.int 2147483647))) (mOp BY (mC (.int 40503)) (mOp gIx (A0 0) (mC (.int 3))))) (mC (.int 11))) (mC (.int 2147483629))))
    (AF (Ak 5 (mOp Ee (mOp BK (mOp BK (mOp BY (A0 5) (A0 5)) (mOp BY (mC (.int 25717)) (mOp gIx (A0 0) (mC (.int 3))))) (mC (.int 3))) (mC (.int 2147483587))))
    (AF (Ak 5 (mOp Ee (mOp BK (mOp BK (mOp BY (A0 5) (A0 5)) (mOp BY (mC (.int 16807)) (A0 5))) (mC (.int 1))) (mC (.int 2147483579))))
    (Am (mOp Ee (mOp Fk (A0 5) (mC (.int 256))) (A0 1))))))))))))
noncomputable def Ab:List D->Hd->Option (D × Hd):=mkF 2 6 NR
noncomputable abbrev DB:Stmt:=top 27
theorem sc_works:FnScope ["_law_tape_here","_law_many","_law_long","_law_heavy","_law_low","_law_coming","_law_found","_law_j","_law_length","_law_weight","_law_one","_law_small","_law_by"] ["_law_tape_here","_law_many"] (AA DB):=⟨rfl,rfl,rfl,by decide +kernel,rfl,by decide +kernel,by decide +kernel⟩
@[reducible] noncomputable def LA:MS:=(AF (E6 (HL (C6 (A2 (BT (A2 (mC (.int 20)) (A2 (mC (.int 10)) (A2 (mC (.int 0)) A7)))) (A2 (BT (A2 (mC (.int 3)) (A2 (mC (.int 3)) (A2 (mC (.int 0)) A7)))) (A2 (BT (A2 (mC (.int 20)) (A2 (mC (.int 2)) (A2 (mC (.int 0)) A7)))) (A2 (BT (A2 (mC (.int 1000000)) (A2 (mC (.int 1000001)) (A2 (mC (.int 0)) A7)))) A7))))) (AI 2 Ab (A2 (A0 0) (A2 (mC (.int 4)) A7)))) (Cv 3 (Ax (AN 2) (Ax (AN 3) (Ax (AN 4) Cw)))))
    (AF (BX (Ed (AT (mOp gEq (A0 2) (mC (.int 1000000)))) (AT (mOp gEq (AI 2 Ab (A2 (A0 0) (A2 (mC (.int 2)) A7))) (mC (.int 0)))))
      (E6 (BT (A2 (mC (.int 8)) (A2 (mC (.int 9)) (A2 (mC (.int 999992)) A7)))) (Cv 3 (Ax (AN 2) (Ax (AN 3) (Ax (AN 4) Cw)))))
      BD)
    (AF (Ak 5 (HL (C6 (A2 (mC (.int 0)) (A2 (AI 2 Ab (A2 (A0 0) (A2 (mC (.int 61)) A7))) A7))) (AI 2 Ab (A2 (A0 0) (A2 (mC (.int 2)) A7)))))
    (AF (Ak 6 (B1 (C6 A7)))
    (AF (Ck (Eb (A2 (A0 1) A7)) (AN 7)
      (AF (Cj [8,9] (A2 (mOp BK (mOp BK (mC (.int 1)) (A0 4)) (AI 2 Ab (A2 (A0 0) (A2 (A0 2) A7)))) (A2 (mOp BK (A0 4) (AI 2 Ab (A2 (A0 0) (A2 (A0 3) A7)))) A7)))
    (AF (BX (Ed (AT (mOp gGt (A0 7) (mC (.int 0)))) (AT (mOp gEq (AI 2 Ab (A2 (A0 0) (A2 (mC (.int 3)) A7))) (mC (.int 0)))))
      (AF (Ak 10 (mOp gIx (A0 6) (AI 2 Ab (A2 (A0 0) (A2 (A0 7) A7)))))
    (AF (Ak 11 (Gh (mOp gLe (mOp BY (mOp gIx (A0 10) (mC (.int 0))) (mC (.int 3))) (A0 2)) (mOp gLt (mOp BY (mOp gIx (mOp gIx (A0 10) (mC (.int 2))) (mC (.int 1))) (mC (.int 3))) (A0 3))))
    (AF (Ak 12 (mIf (Cy (A0 11)) (mOp BK (mC (.int 1)) (AI 2 Ab (A2 (A0 0) (A2 (mC (.int 3)) A7)))) (mC (.int 1))))
    (Cj [8,9] (A2 (mOp BY (mOp gIx (A0 10) (mC (.int 0))) (A0 12)) (A2 (mOp BY (mOp gIx (mOp gIx (A0 10) (mC (.int 2))) (mC (.int 1))) (A0 12)) A7))))))
      BD)
    (Bx (mMt Bn (A0 6) (A2 (BT (A2 (A0 8) (A2 (A0 5) (A2 (BT (A2 (mC (.str "ends")) (A2 (A0 9) A7))) A7)))) A7))))))
    (Am (mCB (f1 true Dv) (A2 (A0 6) A7))))))))
noncomputable def FT:List D->Hd->Option (D × Hd):=mkF 2 13 LA
noncomputable abbrev CY:Stmt:=top 28
theorem sc_forest:FnScope ["_law_tape_here","_law_many","_law_left","_law_row","_law_found","_law_turn","_law_way","_law_i","_law_first"] ["_law_tape_here","_law_many"] (AA CY):=⟨rfl,rfl,rfl,by decide +kernel,rfl,by decide +kernel,by decide +kernel⟩
@[reducible] noncomputable def KG:MS:=(AF (Gc 2 3 4 (A2 (B1 (GH (A2 (A0 1) A7))) (A2 (B1 (C6 A7)) (A2 (B1 (C6 A7)) A7))))
    (AF (Ck (Eb (A2 (A0 1) A7)) (AN 5)
      (Bx (mMt Bn (A0 3) (A2 (mMt GO (A0 2) (A2 (AI 2 Ab (A2 (A0 0) (A2 (mCB (f1 true B3) (A2 (A0 2) A7)) A7))) A7)) A7))))
    (AF (Ak 6 (AI 2 Ab (A2 (A0 0) (A2 (mC (.int 4)) A7))))
    (AF (Ck (Gf (A2 (mC (.int 1)) (A2 (A0 1) A7))) (AN 7)
      (BX (AT (mOp gGt (AI 2 Ab (A2 (A0 0) (A2 (mC (.int 4)) A7))) (mC (.int 0))))
      (AF (Ak 8 (mIf (AT (mOp gEq (A0 6) (mC (.int 0)))) (mOp gIx (A0 3) (mOp JP (A0 7) (mC (.int 1)))) (mOp gIx (A0 3) (AI 2 Ab (A2 (A0 0) (A2 (A0 7) A7))))))
    (Bx (mMt Bn (A0 4) (A2 (BT (A2 (A0 8) (A2 (mOp gIx (A0 3) (A0 7)) A7))) A7))))
      BD))
    (Am (E5 Dv (EZ (CD (A0 4)))))))))
noncomputable def Ej:List D->Hd->Option (D × Hd):=mkF 2 9 KG
noncomputable abbrev DK:Stmt:=top 29
theorem sc_sums:FnScope ["_law_works_here","_law_some","_law_weights","_law_lengths"] ["_law_works_here","_law_some"] (AA DK):=⟨rfl,rfl,rfl,by decide +kernel,rfl,by decide +kernel,by decide +kernel⟩
@[reducible] noncomputable def NQ:MS:=(AF (Cj [2,3] (A2 (B1 (BP 1 [0] (E4 (A0 1)) (AN 0) CN (mOp gIx (mOp gIx (mOp gIx (A0 1) (A0 0)) (mC (.int 2))) (mC (.int 1))))) (A2 (B1 (BP 1 [0] (E4 (A0 1)) (AN 0) CN (mOp gIx (mOp gIx (A0 1) (A0 0)) (mC (.int 0))))) A7)))
    (Am (BT (A2 (mCB (f1 true HQ) (A2 (A0 2) A7)) (A2 (mCB (f1 true HQ) (A2 (A0 3) A7)) A7)))))
noncomputable def DY:List D->Hd->Option (D × Hd):=mkF 2 4 NQ
noncomputable abbrev DC:Stmt:=top 30
theorem sc_parts:FnScope ["_law_many","_law_found","_law_k"] ["_law_many"] (AA DC):=⟨rfl,rfl,rfl,by decide +kernel,rfl,by decide +kernel,by decide +kernel⟩
@[reducible] noncomputable def LC:MS:=(AF (Ak 1 (B1 (C6 (A2 (B1 (C6 A7)) A7))))
    (AF (Ck (Eb (A2 (A0 0) A7)) (AN 2)
      (Ak 1 (B1 (HP (A0 1) (B1 (BP 1 [2] (CD (A0 1)) (AN 0) CN (B1 (HP (A0 0) (B1 (C6 (A2 (A0 1) A7)))))))))))
    (Am (A0 1))))
noncomputable def FU:List D->Hd->Option (D × Hd):=mkF 1 3 LC
noncomputable abbrev DD:Stmt:=top 31
theorem sc_holds:FnScope ["_law_works_here","_law_up","_law_block","_law_whole","_law_low","_law_places","_law_part","_law_whole_up","_law_here","_law_here_low"] ["_law_works_here","_law_up","_law_block"] (AA DD):=⟨rfl,rfl,rfl,by decide +kernel,rfl,by decide +kernel,by decide +kernel⟩
@[reducible] noncomputable def LD:MS:=(AF (BX (AT (mOp (gIn false) (mOp gIx (A0 1) (mOp gIx (A0 2) (mC (.int 0)))) (A0 2)))
      (Am (mC (.bl false)))
      BD)
    (AF (BX (AT (HM false (mC (.bl false)) (BP 1 [1,2] (Gf (A2 (mC (.int 1)) (A2 (mCB (f1 true B3) (A2 (A0 2) A7)) A7))) (AN 0) CN (mOp (gIn false) (mOp gIx (A0 1) (mOp gIx (A0 2) (A0 0))) (KH (A0 2) CL (Dj (A0 0)))))))
      (Am (mC (.bl false)))
      BD)
    (AF (E6 (AI 0 DY (A2 (A0 0) (A2 (A0 2) A7))) (Cv 2 (Ax (AN 3) (Ax (AN 4) Cw))))
    (AF (Ck (E4 (Ec FU (A2 (mCB (f1 true B3) (A2 (A0 2) A7)) A7))) (AN 5)
      (AF (Ak 6 (B1 (BP 1 [2] (CD (A0 5)) (AN 0) CN (mOp gIx (A0 1) (A0 0)))))
    (AF (Ak 7 (HM true (mC (.bl false)) (BP 1 [1,6,2] (CD (A0 6)) (AN 0) CN (KJ (mOp (gIn false) (mOp gIx (A0 1) (A0 0)) (A0 2)) (mOp (gIn true) (mOp gIx (A0 1) (A0 0)) (A0 3))))))
    (BX (Ed (Cy (A0 7)) (AT (FM gLt gLt (mC (.int 0)) (mCB (f1 true B3) (A2 (A0 6) A7)) (mCB (f1 true B3) (A2 (A0 2) A7)))))
      (AF (E6 (Cc DY (A2 (A0 0) (A2 (A0 6) A7))) (Cv 2 (Ax (AN 8) (Ax (AN 9) Cw))))
    (BX (AT (mOp gGe (mOp BY (A0 8) (A0 4)) (mOp BY (A0 3) (A0 9))))
      (Am (mC (.bl false)))
      BD))
      BD))))
    (Am (mC (.bl true)))))))
noncomputable def EO:List D->Hd->Option (D × Hd):=mkF 3 10 LD
noncomputable abbrev Di:Stmt:=top 32
theorem sc_law:FnScope ["_law_script","_law_tape_here","_law_turn","_law_works_here","_law_wishes","_law_up","_law_a","_law_b","_law_seen","_law_blocks","_law_block","_law_k","_law_one","_law_low","_law_other","_law_other_low"] ["_law_script"] (AA Di):=⟨rfl,rfl,rfl,by decide +kernel,rfl,by decide +kernel,by decide +kernel⟩
@[reducible] noncomputable def Pp:MS:=(AF (Ak 1 (Cc GS (A2 (A0 0) A7)))
    (AF (Ck (Eb (A2 (mC (.int 2)) A7)) (AN 2)
      (GG (AF (Ak 3 (AI 2 FT (A2 (A0 1) (A2 (mOp BK (mC (.int 1)) (AI 2 Ab (A2 (A0 1) (A2 (mC (.int 8)) A7)))) A7))))
    (AF (Ak 4 (AI 2 Ej (A2 (A0 1) (A2 (mCB (f1 true B3) (A2 (A0 3) A7)) A7))))
    (AF (Ak 5 (B1 (KI (C6 (A2 (mC .non) A7)) (mCB (f1 true B3) (A2 (A0 3) A7)))))
    (AF (Ck (Dg (A0 4)) (Cv 2 (Ax (AN 6) (Ax (AN 7) Cw)))
      (EF (A0 5) (A0 7) (A0 6)))
    (AF (Ak 8 (B1 (C6 A7)))
    (AF (Ak 9 (Ec Ei (A2 (A0 3) (A2 (A0 4) A7))))
    (AF (Ck (CD (A0 9)) (AN 10)
      (AF (BX (mOr (AT (mOp gEq (mCB (f1 true B3) (A2 (A0 10) A7)) (mC (.int 0)))) (Ed (AT (Ez true (mOp gIx (A0 5) (mOp gIx (A0 10) (mC (.int 0)))))) (AT (mOp (gIn true) (mOp gIx (A0 5) (mOp gIx (A0 10) (mC (.int 0)))) (A0 8)))))
      (Am (mC (.bl false)))
      BD)
    (AF (Bx (mMt Gk (A0 8) (A2 (A0 10) A7)))
    (BX (GI (Cy (Cc EO (A2 (A0 3) (A2 (A0 5) (A2 (A0 10) A7))))))
      (Am (mC (.bl false)))
      BD))))
    (AF (BX (AT (IB true (EM (CD (A0 8))) (GH (A2 (mCB (f1 true B3) (A2 (A0 3) A7)) A7))))
      (Am (mC (.bl false)))
      BD)
    (Ck (Eb (A2 (mOp JP (mCB (f1 true B3) (A2 (A0 9) A7)) (mC (.int 1))) A7)) (AN 11)
      (AF (E6 (AI 0 DY (A2 (A0 3) (A2 (mOp gIx (A0 9) (A0 11)) A7))) (Cv 2 (Ax (AN 12) (Ax (AN 13) Cw))))
    (AF (E6 (AI 0 DY (A2 (A0 3) (A2 (mOp gIx (A0 9) (mOp BK (A0 11) (mC (.int 1)))) A7))) (Cv 2 (Ax (AN 14) (Ax (AN 15) Cw))))
    (BX (AT (mOp gLt (mOp BY (A0 12) (A0 15)) (mOp BY (A0 14) (A0 13))))
      (Am (mC (.bl false)))
      BD))))))))))))))
    (Am (mC (.bl true)))))
noncomputable def F_law:List D->Hd->Option (D × Hd):=mkF 1 16 Pp
section
variable{P:Program}{w:World}{K:PySem.W.Frag}{mg:Str->Option Value}{base:Heap}
theorem ok_common_divisor{f_common_divisor:Addr}{d_common_divisor:FuncData}(DA:DefAt K mg "common_divisor" B2 f_common_divisor d_common_divisor ["one","other"]) (B:BltA mg):FnOk P w K mg base CX0 1 f_common_divisor d_common_divisor ["one","other"] (spF K 2 Bu):=by
  refine Ao (N:=["one","other"]) (m:=EY) DA sc_common_divisor λ cdv A outer s H E hr=>?_
  exact⟨_,(A8 K (AX K (i:=0) sc_common_divisor.nd rfl (by first|exact Or.inl rfl|exact Or.inr rfl) (Bc K PQ Sw B.abs L2.bt_abs (A1 K (qv K 0) (A5 K))))
    (A8 K (K3 K (BF K ((Pn).or (Ia K hr.units)) (Ah N0 N1) (qv K 1) (A6 K))
      (AC K (GB K (i:=0) (j:=1) rfl sc_common_divisor.nd rfl rfl (by decide) rfl rfl (A1 K (qv K 1) (A1 K (AS K DR DL (qv K 0) (qv K 1)) (A5 K))))))
    (AC K (Ac K (qv K 0)))))⟩
theorem ok_fraction{f_fraction f_common_divisor:Addr}{d_fraction d_common_divisor:FuncData}(DA:DefAt K mg "fraction" C2 f_fraction d_fraction ["top","bottom"])(D_common_divisor:DefAt K mg "common_divisor" B2 f_common_divisor d_common_divisor ["one","other"])(G_common_divisor:FnOk P w K mg base CX0 1 f_common_divisor d_common_divisor ["one","other"] (spF K 2 Bu))(B:BltA mg):FnOk P w K mg base CX0 2 f_fraction d_fraction ["top","bottom"] (spF K 2 Db):=by
  refine Ao (N:=["top","bottom","shared"]) (m:=Hz) DA sc_fraction λ cdv A outer s H E hr=>?_
  exact⟨_,(A8 K (Bw K (BF K Es Ep (qv K 1) (A6 K))
      (AC K (GB K (i:=0) (j:=1) rfl sc_fraction.nd rfl rfl (by decide) rfl rfl (A1 K (K9 K (qv K 0)) (A1 K (K9 K (qv K 1)) (A5 K)))))
      (B7 K))
    (A8 K (AX K (i:=2) sc_fraction.nd rfl (by first|exact Or.inl rfl|exact Or.inr rfl) (AM K 0 G_common_divisor hr D_common_divisor (A1 K (qv K 0) (A1 K (qv K 1) (A5 K))) AK))
    (AC K (Ac K (CI K (A1 K (AS K FJ FF (qv K 0) (qv K 2)) (A1 K (AS K FJ FF (qv K 1) (qv K 2)) (A5 K))))))))⟩
theorem ok_less{f_less:Addr}{d_less:FuncData}(DA:DefAt K mg "less" CV f_less d_less ["one","other"]) (B:BltA mg):FnOk P w K mg base CX0 1 f_less d_less ["one","other"] (spF K 2 DZ):=by
  refine Ao (N:=["one","other"]) (m:=NS) DA QL λ cdv A outer s H E hr=>?_
  exact⟨_,(AC K (Ac K (DN K Es Ep (AS K Br Bo (AL K (qv K 0) (A6 K)) (AL K (qv K 1) (A6 K))) (AS K Br Bo (AL K (qv K 1) (A6 K)) (AL K (qv K 0) (A6 K))))))⟩
theorem ok_falling{f_falling f_less:Addr}{d_falling d_less:FuncData}(DA:DefAt K mg "falling" Bj f_falling d_falling ["ratios"])(D_less:DefAt K mg "less" CV f_less d_less ["one","other"])(G_less:FnOk P w K mg base CX0 1 f_less d_less ["one","other"] (spF K 2 DZ))(B:BltA mg):FnOk P w K mg base CX0 2 f_falling d_falling ["ratios"] (spF K 1 Ce):=by
  refine Ao (N:=["ratios","row","k","ratio"]) (m:=Iy) DA sc_falling λ cdv A outer s H E hr=>?_
  exact⟨_,(A8 K (AX K (i:=1) sc_falling.nd rfl (by first|exact Or.inl rfl|exact Or.inr rfl) (Ap K (Bq K (A5 K))))
    (A8 K (Cb K rfl (Qw K B.enumerate (IY K (qv K 0))) (C9 K (n:=2) rfl (AR K (AD K (i:=2) sc_falling.nd rfl (by first|exact Or.inl rfl|exact Or.inr rfl)) (AR K (AD K (i:=3) sc_falling.nd rfl (by first|exact Or.inl rfl|exact Or.inr rfl)) (Bk K))))
      (AC K (DF K (Ga K PySem.F.slot_list_insert PySem.F.type_list_insert NN Mu (qv K 1) (A1 K (Hv K (Au K) BS B.len L2.bt_len (BH K (loc:=["j"]) (fr:=["ratios","ratio"]) (ix:=[0,3]) rfl ⟨rfl,by decide +kernel,rfl,rfl,rfl,by decide +kernel⟩ (Ch K (qv K 1)) (λ _ _ _=>(AD K (i:=0) (show(["j","ratios","ratio"]:List Str).Nodup from by decide +kernel) rfl (by first|exact Or.inl rfl|exact Or.inr rfl))) (λ _ _ _=>(K8 K (K2 K (Ca K (AM K 0 G_less hr D_less (A1 K (AL K (qv K 1) (qv K 0)) (A1 K (qv K 2) (A5 K))) AK))))) (λ _ _ _=>(qv K 0)))) (A1 K (qv K 2) (A5 K)))))))
    (AC K (Ac K (qv K 1)))))⟩
theorem ok_length_of{f_length_of:Addr}{d_length_of:FuncData}(DA:DefAt K mg "length_of" Bh f_length_of d_length_of ["works","some"]) (B:BltA mg):FnOk P w K mg base CX0 1 f_length_of d_length_of ["works","some"] (spF K 2 Cr):=by
  refine Ao (N:=["works","some"]) (m:=Gq) DA Jp λ cdv A outer s H E hr=>?_
  exact⟨_,(AC K (Ac K (Hv K ((Ew K rfl).or (EI K rfl)) Hr B.sum L2.bt_sum (BH K (loc:=["j"]) (fr:=["works"]) (ix:=[0]) rfl ⟨rfl,by decide +kernel,rfl,rfl,rfl,by decide +kernel⟩ (DM K (qv K 1)) (λ _ _ _=>(AD K (i:=0) (show(["j","works"]:List Str).Nodup from by decide +kernel) rfl (by first|exact Or.inl rfl|exact Or.inr rfl))) (λ _ _ _=>(Ba K)) (λ _ _ _=>(AL K (AL K (qv K 1) (qv K 0)) (A6 K)))))))⟩
theorem ok_same_coming{f_same_coming:Addr}{d_same_coming:FuncData}(DA:DefAt K mg "same_coming" BI f_same_coming d_same_coming ["works"]) (B:BltA mg):FnOk P w K mg base CX0 1 f_same_coming d_same_coming ["works"] (spF K 1 CK):=by
  refine Ao (N:=["works","coming"]) (m:=Fw) DA sc_same_coming λ cdv A outer s H E hr=>?_
  exact⟨_,(A8 K (AX K (i:=1) sc_same_coming.nd rfl (by first|exact Or.inl rfl|exact Or.inr rfl) (AL K (AL K (qv K 0) (A6 K)) (A6 K)))
    (A8 K (Bw K (Ca K (Hv K (Nt K rfl) Sv B.all L2.bt_all (BH K (loc:=["work"]) (fr:=["coming"]) (ix:=[1]) rfl ⟨rfl,by decide +kernel,rfl,rfl,rfl,by decide +kernel⟩ (DM K (qv K 0)) (λ _ _ _=>(AD K (i:=0) (show(["work","coming"]:List Str).Nodup from by decide +kernel) rfl (by first|exact Or.inl rfl|exact Or.inr rfl))) (λ _ _ _=>(Ba K)) (λ _ _ _=>(DN K ((Et).or (DG K hr.units)) (Ah Dq Dr) (AL K (qv K 0) (A6 K)) (qv K 1))))))
      (AC K (Ac K (qv K 1)))
      (B7 K))
    (AC K (Ac K (N6 K)))))⟩
theorem ok_one_coming{f_one_coming f_same_coming:Addr}{d_one_coming d_same_coming:FuncData}(DA:DefAt K mg "one_coming" BR f_one_coming d_one_coming ["works"])(D_same_coming:DefAt K mg "same_coming" BI f_same_coming d_same_coming ["works"])(G_same_coming:FnOk P w K mg base CX0 1 f_same_coming d_same_coming ["works"] (spF K 1 CK))(B:BltA mg):FnOk P w K mg base CX0 2 f_one_coming d_one_coming ["works"] (spF K 1 Cd):=by
  refine Ao (N:=["works","coming"]) (m:=GE) DA sc_one_coming λ cdv A outer s H E hr=>?_
  exact⟨_,(A8 K (AX K (i:=1) sc_one_coming.nd rfl (by first|exact Or.inl rfl|exact Or.inr rfl) (AM K 0 G_same_coming hr D_same_coming (A1 K (qv K 0) (A5 K)) AK))
    (A8 K (Bw K (TB K (qv K 1))
      (AC K (HD K))
      (B7 K))
    (AC K (Ac K (qv K 1)))))⟩
theorem ok_refuse_other_costs{f_refuse_other_costs:Addr}{d_refuse_other_costs:FuncData}(DA:DefAt K mg "refuse_other_costs" Ai f_refuse_other_costs d_refuse_other_costs ["works","word"]) (B:BltA mg):FnOk P w K mg base CX0 1 f_refuse_other_costs d_refuse_other_costs ["works","word"] (spF K 2 BG):=by
  refine Ao (N:=["works","word"]) (m:=DS) DA FE λ cdv A outer s H E hr=>?_
  exact⟨_,(AC K (Bw K (Ca K (Hv K (Nr K rfl) Su B.any L2.bt_any (BH K (loc:=["work"]) (fr:=["word"]) (ix:=[1]) rfl ⟨rfl,by decide +kernel,rfl,rfl,rfl,by decide +kernel⟩ (DM K (qv K 0)) (λ _ _ _=>(AD K (i:=0) (show(["work","word"]:List Str).Nodup from by decide +kernel) rfl (by first|exact Or.inl rfl|exact Or.inr rfl))) (λ _ _ _=>(Ba K)) (λ _ _ _=>(DN K ((Pn).or (Ia K hr.units)) (Ah N0 N1) (AL K (AL K (qv K 0) (A6 K)) (A6 K)) (qv K 1))))))
      (AC K (HD K))
      (B7 K)))⟩
theorem ok_weight_of{f_weight_of:Addr}{d_weight_of:FuncData}(DA:DefAt K mg "weight_of" Bf f_weight_of d_weight_of ["work"]) (B:BltA mg):FnOk P w K mg base CX0 1 f_weight_of d_weight_of ["work"] (spF K 1 Cq):=by
  refine Ao (N:=["work"]) (m:=Gp) DA Jo λ cdv A outer s H E hr=>?_
  exact⟨_,(AC K (Ac K (AL K (AL K (qv K 0) (A6 K)) (K9 K (A6 K)))))⟩
theorem ok_weighted_coming{f_weighted_coming f_one_coming f_refuse_other_costs:Addr}{d_weighted_coming d_one_coming d_refuse_other_costs:FuncData}(DA:DefAt K mg "weighted_coming" Ay f_weighted_coming d_weighted_coming ["works"])(D_one_coming:DefAt K mg "one_coming" BR f_one_coming d_one_coming ["works"])(G_one_coming:FnOk P w K mg base CX0 2 f_one_coming d_one_coming ["works"] (spF K 1 Cd))(D_refuse_other_costs:DefAt K mg "refuse_other_costs" Ai f_refuse_other_costs d_refuse_other_costs ["works","word"])(G_refuse_other_costs:FnOk P w K mg base CX0 1 f_refuse_other_costs d_refuse_other_costs ["works","word"] (spF K 2 BG))(B:BltA mg):FnOk P w K mg base CX0 3 f_weighted_coming d_weighted_coming ["works"] (spF K 1 Bb):=by
  refine Ao (N:=["works","coming"]) (m:=E9) DA sc_weighted_coming λ cdv A outer s H E hr=>?_
  exact⟨_,(A8 K (AX K (i:=1) sc_weighted_coming.nd rfl (by first|exact Or.inl rfl|exact Or.inr rfl) (AM K 0 G_one_coming hr D_one_coming (A1 K (qv K 0) (A5 K)) AK))
    (A8 K (DF K (AM K 0 G_refuse_other_costs hr D_refuse_other_costs (A1 K (qv K 0) (A1 K (N4 K) (A5 K))) AK))
    (AC K (Ac K (qv K 1)))))⟩
theorem ok_ratio_of{f_ratio_of f_fraction f_length_of f_weight_of:Addr}{d_ratio_of d_fraction d_length_of d_weight_of:FuncData}(DA:DefAt K mg "ratio_of" BO f_ratio_of d_ratio_of ["works","some"])(D_fraction:DefAt K mg "fraction" C2 f_fraction d_fraction ["top","bottom"])(G_fraction:FnOk P w K mg base CX0 2 f_fraction d_fraction ["top","bottom"] (spF K 2 Db))(D_length_of:DefAt K mg "length_of" Bh f_length_of d_length_of ["works","some"])(G_length_of:FnOk P w K mg base CX0 1 f_length_of d_length_of ["works","some"] (spF K 2 Cr))(D_weight_of:DefAt K mg "weight_of" Bf f_weight_of d_weight_of ["work"])(G_weight_of:FnOk P w K mg base CX0 1 f_weight_of d_weight_of ["work"] (spF K 1 Cq))(B:BltA mg):FnOk P w K mg base CX0 3 f_ratio_of d_ratio_of ["works","some"] (spF K 2 Be):=by
  refine Ao (N:=["works","some"]) (m:=Hy) DA Kh λ cdv A outer s H E hr=>?_
  exact⟨_,(AC K (Ac K (AM K 0 G_fraction hr D_fraction (A1 K (Hv K ((Ew K rfl).or (EI K rfl)) Hr B.sum L2.bt_sum (BH K (loc:=["j"]) (fr:=["works"]) (ix:=[0]) rfl ⟨rfl,by decide +kernel,rfl,rfl,rfl,by decide +kernel⟩ (DM K (qv K 1)) (λ _ _ _=>(AD K (i:=0) (show(["j","works"]:List Str).Nodup from by decide +kernel) rfl (by first|exact Or.inl rfl|exact Or.inr rfl))) (λ _ _ _=>(Ba K)) (λ _ _ _=>(AM K 0 G_weight_of hr D_weight_of (A1 K (AL K (qv K 1) (qv K 0)) (A5 K)) AK)))) (A1 K (AM K 0 G_length_of hr D_length_of (A1 K (qv K 0) (A1 K (qv K 1) (A5 K))) AK) (A5 K))) AK)))⟩
theorem okm{f_row_of f_line_of f_less f_falling f_ratio_of:Addr}{d_row_of d_line_of d_less d_falling d_ratio_of:FuncData}(D_row_of:DefAt K mg "row_of" CA f_row_of d_row_of ["works","wishes","a"])(D_line_of:DefAt K mg "line_of" Bg f_line_of d_line_of ["works","wishes","some"])(D_less:DefAt K mg "less" CV f_less d_less ["one","other"])(G_less:FnOk P w K mg base CX0 1 f_less d_less ["one","other"] (spF K 2 DZ))(D_falling:DefAt K mg "falling" Bj f_falling d_falling ["ratios"])(G_falling:FnOk P w K mg base CX0 2 f_falling d_falling ["ratios"] (spF K 1 Ce))(D_ratio_of:DefAt K mg "ratio_of" BO f_ratio_of d_ratio_of ["works","some"])(G_ratio_of:FnOk P w K mg base CX0 3 f_ratio_of d_ratio_of ["works","some"] (spF K 2 Be))(B:BltA mg):∀ n,FnOk P w K mg base CX0 (n + 4) f_row_of d_row_of ["works","wishes","a"] (spF K 3 (Eh n))/\FnOk P w K mg base CX0 (n + 4) f_line_of d_line_of ["works","wishes","some"] (spF K 3 (Dx n))
  | 0=>⟨⟨λ vs H Q E h=>h.1,λ A outer s H args us vs Q E hr e0 hb hv h=>by obtain⟨_,_,_,_,_,_,_,_,e,_⟩:=h;cases e⟩,⟨λ vs H Q E h=>h.1,λ A outer s H args us vs Q E hr e0 hb hv h=>by obtain⟨_,_,_,_,_,_,_,_,e,_⟩:=h;cases e⟩⟩
  | n + 1=>by
    have ih:=okm D_row_of D_line_of D_less G_less D_falling G_falling D_ratio_of G_ratio_of B n
    constructor
    . refine Ao (j:=n + 4) (N:=["works","wishes","a","line","block","many"]) (m:=HJ (Dx n)) D_row_of sc_row_of λ cdv A outer s H E hr=>?_
      exact⟨_,(A8 K (AX K (i:=3) sc_row_of.nd rfl (by first|exact Or.inl rfl|exact Or.inr rfl) (Dd K ih.2 hr D_line_of (A1 K (qv K 0) (A1 K (qv K 1) (A1 K (Ap K (BH K (loc:=["one","b"]) (fr:=["a"]) (ix:=[2]) rfl ⟨rfl,by decide +kernel,rfl,rfl,rfl,by decide +kernel⟩ (DM K (qv K 1)) (λ _ _ _=>(C9 K (n:=2) rfl (AR K (AD K (i:=0) (show(["one","b","a"]:List Str).Nodup from by decide +kernel) rfl (by first|exact Or.inl rfl|exact Or.inr rfl)) (AR K (AD K (i:=1) (show(["one","b","a"]:List Str).Nodup from by decide +kernel) rfl (by first|exact Or.inl rfl|exact Or.inr rfl)) (Bk K))))) (λ _ _ _=>(K8 K (BF K ((Et).or (DG K hr.units)) (Ah Dq Dr) (qv K 0) (qv K 2)))) (λ _ _ _=>(qv K 1)))) (A5 K)))) (Fv _) (Nat.le_refl _)))
    (A8 K (AX K (i:=4) sc_row_of.nd rfl (by first|exact Or.inl rfl|exact Or.inr rfl) (CI K (A1 K (qv K 2) (A5 K))))
    (A8 K (AX K (i:=5) sc_row_of.nd rfl (by first|exact Or.inl rfl|exact Or.inr rfl) (A6 K))
    (A8 K (K3 K (QW.toT (FG K (BF K Es Ep (qv K 5) (Bc K (Au K) (CB BS) B.len L2.bt_len (A1 K (qv K 3) (A5 K)))) (EK K (Ca K (AM K 0 G_less hr D_less (A1 K (AM K 0 G_ratio_of hr D_ratio_of (A1 K (qv K 0) (A1 K (qv K 4) (A5 K))) AK (by omega)) (A1 K (AM K 0 G_ratio_of hr D_ratio_of (A1 K (qv K 0) (A1 K (AL K (qv K 3) (qv K 5)) (A5 K))) AK (by omega)) (A5 K))) AK (by omega))))))
      (A8 K (AX K (i:=4) sc_row_of.nd rfl (by first|exact Or.inl rfl|exact Or.inr rfl) (AS K ((Bs).or (BA K)) (Ah Bp BN) (qv K 4) (AL K (qv K 3) (qv K 5))))
    (AC K (TC K (i:=5) sc_row_of.nd rfl (by first|exact Or.inl rfl|exact Or.inr rfl) (A6 K) U4))))
    (AC K (Ac K (CI K (A1 K (qv K 4) (A1 K (Ap K (K4 K (qv K 3) (GZ K) (GY K (qv K 5)))) (A1 K (Ap K (K4 K (qv K 3) (GY K (qv K 5)) (GZ K))) (A5 K)))))))))))⟩
    . refine Ao (j:=n + 4) (N:=["works","wishes","some","blocks","a","block","taken","left"]) (m:=GF (Eh n)) D_line_of sc_line_of λ cdv A outer s H E hr=>?_
      exact⟨_,(A8 K (AX K (i:=3) sc_line_of.nd rfl (by first|exact Or.inl rfl|exact Or.inr rfl) (Ap K (Bq K (A5 K))))
    (A8 K (Cb K rfl (Ch K (qv K 2)) (AD K (i:=4) sc_line_of.nd rfl (by first|exact Or.inl rfl|exact Or.inr rfl))
      (Iw K (A8 K (EU K (HF K ih.1 hr D_row_of (A1 K (qv K 0) (A1 K (qv K 1) (A1 K (qv K 4) (A5 K)))) (Jz _) (Nat.le_refl _)) (C9 K (n:=3) rfl (AR K (AD K (i:=5) sc_line_of.nd rfl (by first|exact Or.inl rfl|exact Or.inr rfl)) (AR K (AD K (i:=6) sc_line_of.nd rfl (by first|exact Or.inl rfl|exact Or.inr rfl)) (AR K (AD K (i:=7) sc_line_of.nd rfl (by first|exact Or.inl rfl|exact Or.inr rfl)) (Bk K))))))
    (AC K (Qv (i:=3) sc_line_of.nd rfl (by first|exact Or.inl rfl|exact Or.inr rfl) (Ap K (K6 K (Ap K (Bq K (A1 K (qv K 5) (A5 K)))) (qv K 7))))))))
    (AC K (Ac K (Ap K (BH K (loc:=["k"]) (fr:=["blocks"]) (ix:=[3]) rfl ⟨rfl,by decide +kernel,rfl,rfl,rfl,by decide +kernel⟩ (Ch K (Dd K G_falling hr D_falling (A1 K (Ap K (BH K (loc:=["block"]) (fr:=["works"]) (ix:=[0]) rfl ⟨rfl,by decide +kernel,rfl,rfl,rfl,by decide +kernel⟩ (Ch K (qv K 3)) (λ _ _ _=>(AD K (i:=0) (show(["block","works"]:List Str).Nodup from by decide +kernel) rfl (by first|exact Or.inl rfl|exact Or.inr rfl))) (λ _ _ _=>(Ba K)) (λ _ _ _=>(AM K 0 G_ratio_of hr D_ratio_of (A1 K (qv K 1) (A1 K (qv K 0) (A5 K))) AK (by omega))))) (A5 K)) AK (by omega))) (λ _ _ _=>(AD K (i:=0) (show(["k","blocks"]:List Str).Nodup from by decide +kernel) rfl (by first|exact Or.inl rfl|exact Or.inr rfl))) (λ _ _ _=>(Ba K)) (λ _ _ _=>(AL K (qv K 1) (qv K 0)))))))))⟩
theorem ok_row_of{f_row_of f_line_of f_less f_falling f_ratio_of:Addr}{d_row_of d_line_of d_less d_falling d_ratio_of:FuncData}(DA:DefAt K mg "row_of" CA f_row_of d_row_of ["works","wishes","a"])(D_less:DefAt K mg "less" CV f_less d_less ["one","other"])(G_less:FnOk P w K mg base CX0 1 f_less d_less ["one","other"] (spF K 2 DZ))(D_falling:DefAt K mg "falling" Bj f_falling d_falling ["ratios"])(G_falling:FnOk P w K mg base CX0 2 f_falling d_falling ["ratios"] (spF K 1 Ce))(D_ratio_of:DefAt K mg "ratio_of" BO f_ratio_of d_ratio_of ["works","some"])(G_ratio_of:FnOk P w K mg base CX0 3 f_ratio_of d_ratio_of ["works","some"] (spF K 2 Be))(D_line_of:DefAt K mg "line_of" Bg f_line_of d_line_of ["works","wishes","some"])(B:BltA mg):FnOk P w K mg base CX0 22 f_row_of d_row_of ["works","wishes","a"] (spF K 3 Hb):=(okm DA D_line_of D_less G_less D_falling G_falling D_ratio_of G_ratio_of B 18).1
theorem ok_line_of{f_row_of f_line_of f_less f_falling f_ratio_of:Addr}{d_row_of d_line_of d_less d_falling d_ratio_of:FuncData}(DA:DefAt K mg "line_of" Bg f_line_of d_line_of ["works","wishes","some"])(D_less:DefAt K mg "less" CV f_less d_less ["one","other"])(G_less:FnOk P w K mg base CX0 1 f_less d_less ["one","other"] (spF K 2 DZ))(D_falling:DefAt K mg "falling" Bj f_falling d_falling ["ratios"])(G_falling:FnOk P w K mg base CX0 2 f_falling d_falling ["ratios"] (spF K 1 Ce))(D_ratio_of:DefAt K mg "ratio_of" BO f_ratio_of d_ratio_of ["works","some"])(G_ratio_of:FnOk P w K mg base CX0 3 f_ratio_of d_ratio_of ["works","some"] (spF K 2 Be))(D_row_of:DefAt K mg "row_of" CA f_row_of d_row_of ["works","wishes","a"])(B:BltA mg):FnOk P w K mg base CX0 22 f_line_of d_line_of ["works","wishes","some"] (spF K 3 Dy):=(okm D_row_of DA D_less G_less D_falling G_falling D_ratio_of G_ratio_of B 18).2
theorem ok_is_forest{f_is_forest:Addr}{d_is_forest:FuncData}(DA:DefAt K mg "is_forest" Bi f_is_forest d_is_forest ["many","wishes"]) (B:BltA mg):FnOk P w K mg base CX0 1 f_is_forest d_is_forest ["many","wishes"] (spF K 2 Cs):=by
  refine Ao (N:=["many","wishes"]) (m:=Gs) DA Jq λ cdv A outer s H E hr=>?_
  exact⟨_,(AC K (Ac K (DN K ((Et).or (DG K hr.units)) (Ah Dq Dr) (Om K (loc:=["a","b"]) (fr:=[]) (ix:=[]) B.len rfl ⟨rfl,by decide +kernel,rfl,rfl,rfl,by decide +kernel⟩ (DM K (qv K 1)) (λ _ _ _=>(C9 K (n:=2) rfl (AR K (AD K (i:=0) (show(["a","b"]:List Str).Nodup from by decide +kernel) rfl (by first|exact Or.inl rfl|exact Or.inr rfl)) (AR K (AD K (i:=1) (show(["a","b"]:List Str).Nodup from by decide +kernel) rfl (by first|exact Or.inl rfl|exact Or.inr rfl)) (Bk K))))) (λ _ _ _=>(Ba K)) (λ _ _ _=>(qv K 1))) (Bc K (Au K) (CB BS) B.len L2.bt_len (A1 K (qv K 1) (A5 K))))))⟩
theorem ok_refuse_no_forest{f_refuse_no_forest f_weighted_coming f_is_forest:Addr}{d_refuse_no_forest d_weighted_coming d_is_forest:FuncData}(DA:DefAt K mg "refuse_no_forest" At f_refuse_no_forest d_refuse_no_forest ["works","wishes"])(D_weighted_coming:DefAt K mg "weighted_coming" Ay f_weighted_coming d_weighted_coming ["works"])(G_weighted_coming:FnOk P w K mg base CX0 3 f_weighted_coming d_weighted_coming ["works"] (spF K 1 Bb))(D_is_forest:DefAt K mg "is_forest" Bi f_is_forest d_is_forest ["many","wishes"])(G_is_forest:FnOk P w K mg base CX0 1 f_is_forest d_is_forest ["many","wishes"] (spF K 2 Cs))(B:BltA mg):FnOk P w K mg base CX0 4 f_refuse_no_forest d_refuse_no_forest ["works","wishes"] (spF K 2 BV):=by
  refine Ao (N:=["works","wishes"]) (m:=Dt) DA Fx λ cdv A outer s H E hr=>?_
  exact⟨_,(A8 K (DF K (AM K 0 G_weighted_coming hr D_weighted_coming (A1 K (qv K 0) (A5 K)) AK))
    (AC K (Bw K (K2 K (Ca K (AM K 0 G_is_forest hr D_is_forest (A1 K (Bc K (Au K) (CB BS) B.len L2.bt_len (A1 K (qv K 0) (A5 K))) (A1 K (qv K 1) (A5 K))) AK)))
      (AC K (HD K))
      (B7 K))))⟩
theorem ok_joined{f_joined f_refuse_no_forest f_line_of:Addr}{d_joined d_refuse_no_forest d_line_of:FuncData}(DA:DefAt K mg "joined" CW f_joined d_joined ["works","wishes"])(D_refuse_no_forest:DefAt K mg "refuse_no_forest" At f_refuse_no_forest d_refuse_no_forest ["works","wishes"])(G_refuse_no_forest:FnOk P w K mg base CX0 4 f_refuse_no_forest d_refuse_no_forest ["works","wishes"] (spF K 2 BV))(D_line_of:DefAt K mg "line_of" Bg f_line_of d_line_of ["works","wishes","some"])(G_line_of:FnOk P w K mg base CX0 22 f_line_of d_line_of ["works","wishes","some"] (spF K 3 Dy))(B:BltA mg):FnOk P w K mg base CX0 23 f_joined d_joined ["works","wishes"] (spF K 2 Ei):=by
  refine Ao (N:=["works","wishes","seconds"]) (m:=KF) DA sc_joined λ cdv A outer s H E hr=>?_
  exact⟨_,(A8 K (DF K (AM K 0 G_refuse_no_forest hr D_refuse_no_forest (A1 K (qv K 0) (A1 K (qv K 1) (A5 K))) AK))
    (A8 K (by first|exact L3 K (i:=2) (loc:=["a","b"]) (fr:=[]) (ix:=[]) sc_joined.nd rfl rfl rfl ⟨rfl,by decide +kernel,rfl,rfl,rfl,by decide +kernel⟩ (DM K (qv K 1)) (λ _ _ _=>(C9 K (n:=2) rfl (AR K (AD K (i:=0) (show(["a","b"]:List Str).Nodup from by decide +kernel) rfl (by first|exact Or.inl rfl|exact Or.inr rfl)) (AR K (AD K (i:=1) (show(["a","b"]:List Str).Nodup from by decide +kernel) rfl (by first|exact Or.inl rfl|exact Or.inr rfl)) (Bk K))))) (λ _ _ _=>(Ba K)) (λ _ _ _=>(qv K 1))|exact AX K (i:=2) sc_joined.nd rfl (by first|exact Or.inl rfl|exact Or.inr rfl) (Ap K (BH K (loc:=["a","b"]) (fr:=[]) (ix:=[]) rfl ⟨rfl,by decide +kernel,rfl,rfl,rfl,by decide +kernel⟩ (DM K (qv K 1)) (λ _ _ _=>(C9 K (n:=2) rfl (AR K (AD K (i:=0) (show(["a","b"]:List Str).Nodup from by decide +kernel) rfl (by first|exact Or.inl rfl|exact Or.inr rfl)) (AR K (AD K (i:=1) (show(["a","b"]:List Str).Nodup from by decide +kernel) rfl (by first|exact Or.inl rfl|exact Or.inr rfl)) (Bk K))))) (λ _ _ _=>(Ba K)) (λ _ _ _=>(qv K 1)))))
    (AC K (Ac K (Dd K G_line_of hr D_line_of (A1 K (qv K 0) (A1 K (qv K 1) (A1 K (Ap K (BH K (loc:=["a"]) (fr:=["seconds"]) (ix:=[2]) rfl ⟨rfl,by decide +kernel,rfl,rfl,rfl,by decide +kernel⟩ (EL K B.range (A1 K (Bc K (Au K) (CB BS) B.len L2.bt_len (A1 K (qv K 0) (A5 K))) (A5 K))) (λ _ _ _=>(AD K (i:=0) (show(["a","seconds"]:List Str).Nodup from by decide +kernel) rfl (by first|exact Or.inl rfl|exact Or.inr rfl))) (λ _ _ _=>(K8 K (BF K (Er K) GW (qv K 0) (qv K 1)))) (λ _ _ _=>(qv K 0)))) (A5 K)))) (Fv 18))))))⟩
theorem ok_tape{f_tape:Addr}{d_tape:FuncData}(DA:DefAt K mg "_law_tape" Do f_tape d_tape ["_law_script"]) (B:BltA mg):FnOk P w K mg base CX0 1 f_tape d_tape ["_law_script"] (spF K 1 GS):=by
  refine Ao (N:=["_law_script"]) (m:=NP) DA QK λ cdv A outer s H E hr=>?_
  exact⟨_,(AC K (Ac K (Ap K (Bq K (A1 K (Ap K (Ol K B.list (K4 K (qv K 0) (GZ K) (GY K (A6 K))))) (A1 K (A6 K) (A1 K (A6 K) (A1 K (A6 K) (A5 K)))))))))⟩
theorem ok_pick{f_pick:Addr}{d_pick:FuncData}(DA:DefAt K mg "_law_pick" Cn f_pick d_pick ["_law_tape_here","_law_many"]) (B:BltA mg):FnOk P w K mg base CX0 1 f_pick d_pick ["_law_tape_here","_law_many"] (spF K 2 Ab):=by
  refine Ao (N:=["_law_tape_here","_law_many","_law_found","_law_at","_law_cell","_law_mixed"]) (m:=NR) DA sc_pick λ cdv A outer s H E hr=>?_
  exact⟨_,(A8 K (FH K (qv K 0) (A6 K) (AS K ((Bs).or (BA K)) (Ah Bp BN) (AL K (qv K 0) (A6 K)) (A6 K)))
    (A8 K (Bw K (BF K M7 Lq (AL K (qv K 0) (A6 K)) (A6 K))
      (A8 K (AX K (i:=2) sc_pick.nd rfl (by first|exact Or.inl rfl|exact Or.inr rfl) (AS K DR DL (AL K (qv K 0) (A6 K)) (qv K 1)))
    (A8 K (FH K (qv K 0) (A6 K) (AS K FJ FF (AL K (qv K 0) (A6 K)) (qv K 1)))
    (AC K (Ac K (qv K 2)))))
      (B7 K))
    (A8 K (AX K (i:=3) sc_pick.nd rfl (by first|exact Or.inl rfl|exact Or.inr rfl) (AL K (qv K 0) (A6 K)))
    (A8 K (FH K (qv K 0) (A6 K) (AS K ((Bs).or (BA K)) (Ah Bp BN) (qv K 3) (A6 K)))
    (A8 K (AX K (i:=4) sc_pick.nd rfl (by first|exact Or.inl rfl|exact Or.inr rfl) (HE K (Qt K (NI K hr.units) (AL K (qv K 0) (A6 K)) (Bq K (A5 K))) (AL K (AL K (qv K 0) (A6 K)) (AS K DR DL (qv K 3) (Bc K (Au K) (CB BS) B.len L2.bt_len (A1 K (AL K (qv K 0) (A6 K)) (A5 K))))) (A6 K)))
    (A8 K (Bw K (QW.toT (FG K (BF K Po Pf (qv K 4) (AS K Tl T4 (A6 K) (A6 K))) (EK K (BF K Es Ep (qv K 3) (Bc K (Au K) (CB BS) B.len L2.bt_len (A1 K (AL K (qv K 0) (A6 K)) (A5 K)))))))
      (A8 K (FH K (qv K 0) (A6 K) (AS K FJ FF (qv K 4) (qv K 1)))
    (AC K (Ac K (AS K DR DL (qv K 4) (qv K 1)))))
      (B7 K))
    (A8 K (AX K (i:=5) sc_pick.nd rfl (by first|exact Or.inl rfl|exact Or.inr rfl) (AS K DR DL (AS K ((Bs).or (BA K)) (Ah Bp BN) (AS K ((Bs).or (BA K)) (Ah Bp BN) (AS K DR DL (qv K 4) (A6 K)) (AS K Br Bo (A6 K) (AL K (qv K 0) (A6 K)))) (A6 K)) (A6 K)))
    (A8 K (AX K (i:=5) sc_pick.nd rfl (by first|exact Or.inl rfl|exact Or.inr rfl) (AS K DR DL (AS K ((Bs).or (BA K)) (Ah Bp BN) (AS K ((Bs).or (BA K)) (Ah Bp BN) (AS K Br Bo (qv K 5) (qv K 5)) (AS K Br Bo (A6 K) (AL K (qv K 0) (A6 K)))) (A6 K)) (A6 K)))
    (A8 K (AX K (i:=5) sc_pick.nd rfl (by first|exact Or.inl rfl|exact Or.inr rfl) (AS K DR DL (AS K ((Bs).or (BA K)) (Ah Bp BN) (AS K ((Bs).or (BA K)) (Ah Bp BN) (AS K Br Bo (qv K 5) (qv K 5)) (AS K Br Bo (A6 K) (qv K 5))) (A6 K)) (A6 K)))
    (AC K (Ac K (AS K DR DL (AS K FJ FF (qv K 5) (A6 K)) (qv K 1)))))))))))))⟩
theorem ok_works{f_works f_pick:Addr}{d_works d_pick:FuncData}(DA:DefAt K mg "_law_works" DB f_works d_works ["_law_tape_here","_law_many"])(D_pick:DefAt K mg "_law_pick" Cn f_pick d_pick ["_law_tape_here","_law_many"])(G_pick:FnOk P w K mg base CX0 1 f_pick d_pick ["_law_tape_here","_law_many"] (spF K 2 Ab))(B:BltA mg):FnOk P w K mg base CX0 2 f_works d_works ["_law_tape_here","_law_many"] (spF K 2 FT):=by
  refine Ao (N:=["_law_tape_here","_law_many","_law_long","_law_heavy","_law_low","_law_coming","_law_found","_law_j","_law_length","_law_weight","_law_one","_law_small","_law_by"]) (m:=LA) DA sc_works λ cdv A outer s H E hr=>?_
  exact⟨_,(A8 K (EU K (N7 K (Bq K (A1 K (CI K (A1 K (A6 K) (A1 K (A6 K) (A1 K (A6 K) (A5 K))))) (A1 K (CI K (A1 K (A6 K) (A1 K (A6 K) (A1 K (A6 K) (A5 K))))) (A1 K (CI K (A1 K (A6 K) (A1 K (A6 K) (A1 K (A6 K) (A5 K))))) (A1 K (CI K (A1 K (A6 K) (A1 K (A6 K) (A1 K (A6 K) (A5 K))))) (A5 K)))))) (AM K 2 G_pick hr D_pick (A1 K (qv K 0) (A1 K (A6 K) (A5 K))) AK)) (C9 K (n:=3) rfl (AR K (AD K (i:=2) sc_works.nd rfl (by first|exact Or.inl rfl|exact Or.inr rfl)) (AR K (AD K (i:=3) sc_works.nd rfl (by first|exact Or.inl rfl|exact Or.inr rfl)) (AR K (AD K (i:=4) sc_works.nd rfl (by first|exact Or.inl rfl|exact Or.inr rfl)) (Bk K))))))
    (A8 K (Bw K (QW.toT (FG K (BF K ((Et).or (DG K hr.units)) (Ah Dq Dr) (qv K 2) (A6 K)) (EK K (BF K ((Et).or (DG K hr.units)) (Ah Dq Dr) (AM K 2 G_pick hr D_pick (A1 K (qv K 0) (A1 K (A6 K) (A5 K))) AK) (A6 K)))))
      (AC K (EU K (CI K (A1 K (A6 K) (A1 K (A6 K) (A1 K (A6 K) (A5 K))))) (C9 K (n:=3) rfl (AR K (AD K (i:=2) sc_works.nd rfl (by first|exact Or.inl rfl|exact Or.inr rfl)) (AR K (AD K (i:=3) sc_works.nd rfl (by first|exact Or.inl rfl|exact Or.inr rfl)) (AR K (AD K (i:=4) sc_works.nd rfl (by first|exact Or.inl rfl|exact Or.inr rfl)) (Bk K)))))))
      (B7 K))
    (A8 K (AX K (i:=5) sc_works.nd rfl (by first|exact Or.inl rfl|exact Or.inr rfl) (N7 K (Bq K (A1 K (A6 K) (A1 K (AM K 2 G_pick hr D_pick (A1 K (qv K 0) (A1 K (A6 K) (A5 K))) AK) (A5 K)))) (AM K 2 G_pick hr D_pick (A1 K (qv K 0) (A1 K (A6 K) (A5 K))) AK)))
    (A8 K (AX K (i:=6) sc_works.nd rfl (by first|exact Or.inl rfl|exact Or.inr rfl) (Ap K (Bq K (A5 K))))
    (A8 K (Cb K rfl (EL K B.range (A1 K (qv K 1) (A5 K))) (AD K (i:=7) sc_works.nd rfl (by first|exact Or.inl rfl|exact Or.inr rfl))
      (A8 K (GB K (i:=8) (j:=9) rfl sc_works.nd rfl rfl (by decide) rfl rfl (A1 K (AS K ((Bs).or (BA K)) (Ah Bp BN) (AS K ((Bs).or (BA K)) (Ah Bp BN) (A6 K) (qv K 4)) (AM K 2 G_pick hr D_pick (A1 K (qv K 0) (A1 K (qv K 2) (A5 K))) AK)) (A1 K (AS K ((Bs).or (BA K)) (Ah Bp BN) (qv K 4) (AM K 2 G_pick hr D_pick (A1 K (qv K 0) (A1 K (qv K 3) (A5 K))) AK)) (A5 K))))
    (A8 K (Bw K (QW.toT (FG K (BF K M7 Lq (qv K 7) (A6 K)) (EK K (BF K ((Et).or (DG K hr.units)) (Ah Dq Dr) (AM K 2 G_pick hr D_pick (A1 K (qv K 0) (A1 K (A6 K) (A5 K))) AK) (A6 K)))))
      (A8 K (AX K (i:=10) sc_works.nd rfl (by first|exact Or.inl rfl|exact Or.inr rfl) (AL K (qv K 6) (AM K 2 G_pick hr D_pick (A1 K (qv K 0) (A1 K (qv K 7) (A5 K))) AK)))
    (A8 K (AX K (i:=11) sc_works.nd rfl (by first|exact Or.inl rfl|exact Or.inr rfl) (TH K (DN K V0 Um (AS K Br Bo (AL K (qv K 10) (A6 K)) (A6 K)) (qv K 2)) (N5 K (DN K Es Ep (AS K Br Bo (AL K (AL K (qv K 10) (A6 K)) (A6 K)) (A6 K)) (qv K 3)))))
    (A8 K (AX K (i:=12) sc_works.nd rfl (by first|exact Or.inl rfl|exact Or.inr rfl) (HE K (Ca K (qv K 11)) (AS K ((Bs).or (BA K)) (Ah Bp BN) (A6 K) (AM K 2 G_pick hr D_pick (A1 K (qv K 0) (A1 K (A6 K) (A5 K))) AK)) (A6 K)))
    (AC K (GB K (i:=8) (j:=9) rfl sc_works.nd rfl rfl (by decide) rfl rfl (A1 K (AS K Br Bo (AL K (qv K 10) (A6 K)) (qv K 12)) (A1 K (AS K Br Bo (AL K (AL K (qv K 10) (A6 K)) (A6 K)) (qv K 12)) (A5 K))))))))
      (B7 K))
    (AC K (DF K (Ga K PySem.F.slot_list_append PySem.F.type_list_append Eu G9 (qv K 6) (A1 K (CI K (A1 K (qv K 8) (A1 K (qv K 5) (A1 K (CI K (A1 K (N4 K) (A1 K (qv K 9) (A5 K)))) (A5 K))))) (A5 K))))))))
    (AC K (Ac K (Us K (Gy K) (CB Ju) B.tuple L2.bt_tuple (A1 K (qv K 6) (A5 K))))))))))⟩
theorem ok_forest{f_forest f_pick:Addr}{d_forest d_pick:FuncData}(DA:DefAt K mg "_law_forest" CY f_forest d_forest ["_law_tape_here","_law_many"])(D_pick:DefAt K mg "_law_pick" Cn f_pick d_pick ["_law_tape_here","_law_many"])(G_pick:FnOk P w K mg base CX0 1 f_pick d_pick ["_law_tape_here","_law_many"] (spF K 2 Ab))(B:BltA mg):FnOk P w K mg base CX0 2 f_forest d_forest ["_law_tape_here","_law_many"] (spF K 2 Ej):=by
  refine Ao (N:=["_law_tape_here","_law_many","_law_left","_law_row","_law_found","_law_turn","_law_way","_law_i","_law_first"]) (m:=KG) DA sc_forest λ cdv A outer s H E hr=>?_
  exact⟨_,(A8 K (Qu K (i:=2) (j:=3) (k:=4) rfl sc_forest.nd rfl rfl rfl rfl rfl rfl (A1 K (Ap K (K5 K B.list B.range (A1 K (qv K 1) (A5 K)))) (A1 K (Ap K (Bq K (A5 K))) (A1 K (Ap K (Bq K (A5 K))) (A5 K)))))
    (A8 K (Cb K rfl (EL K B.range (A1 K (qv K 1) (A5 K))) (AD K (i:=5) sc_forest.nd rfl (by first|exact Or.inl rfl|exact Or.inr rfl))
      (AC K (DF K (Ga K PySem.F.slot_list_append PySem.F.type_list_append Eu G9 (qv K 3) (A1 K (Ga K PySem.F.slot_list_pop PySem.F.type_list_pop P1 OV (qv K 2) (A1 K (AM K 2 G_pick hr D_pick (A1 K (qv K 0) (A1 K (Bc K (Au K) (CB BS) B.len L2.bt_len (A1 K (qv K 2) (A5 K))) (A5 K))) AK) (A5 K))) (A5 K))))))
    (A8 K (AX K (i:=6) sc_forest.nd rfl (by first|exact Or.inl rfl|exact Or.inr rfl) (AM K 2 G_pick hr D_pick (A1 K (qv K 0) (A1 K (A6 K) (A5 K))) AK))
    (A8 K (Cb K rfl (L7 K B.range (A1 K (A6 K) (A1 K (qv K 1) (A5 K)))) (AD K (i:=7) sc_forest.nd rfl (by first|exact Or.inl rfl|exact Or.inr rfl))
      (AC K (Bw K (BF K M7 Lq (AM K 2 G_pick hr D_pick (A1 K (qv K 0) (A1 K (A6 K) (A5 K))) AK) (A6 K))
      (A8 K (AX K (i:=8) sc_forest.nd rfl (by first|exact Or.inl rfl|exact Or.inr rfl) (HE K (BF K ((Et).or (DG K hr.units)) (Ah Dq Dr) (qv K 6) (A6 K)) (AL K (qv K 3) (AS K NH Mz (qv K 7) (A6 K))) (AL K (qv K 3) (AM K 2 G_pick hr D_pick (A1 K (qv K 0) (A1 K (qv K 7) (A5 K))) AK))))
    (AC K (DF K (Ga K PySem.F.slot_list_append PySem.F.type_list_append Eu G9 (qv K 4) (A1 K (CI K (A1 K (qv K 8) (A1 K (AL K (qv K 3) (qv K 7)) (A5 K)))) (A5 K))))))
      (B7 K))))
    (AC K (Ac K (Ur K (Gy K) Ju B.tuple L2.bt_tuple (Lz K B.sorted (IY K (qv K 4))))))))))⟩
theorem ok_sums{f_sums:Addr}{d_sums:FuncData}(DA:DefAt K mg "_law_sums" DK f_sums d_sums ["_law_works_here","_law_some"]) (B:BltA mg):FnOk P w K mg base CX0 1 f_sums d_sums ["_law_works_here","_law_some"] (spF K 2 DY):=by
  refine Ao (N:=["_law_works_here","_law_some","_law_weights","_law_lengths"]) (m:=NQ) DA sc_sums λ cdv A outer s H E hr=>?_
  exact⟨_,(A8 K (GB K (i:=2) (j:=3) rfl sc_sums.nd rfl rfl (by decide) rfl rfl (A1 K (Ap K (BH K (loc:=["_law_j"]) (fr:=["_law_works_here"]) (ix:=[0]) rfl ⟨rfl,by decide +kernel,rfl,rfl,rfl,by decide +kernel⟩ (K7 K (qv K 1)) (λ _ _ _=>(AD K (i:=0) (show(["_law_j","_law_works_here"]:List Str).Nodup from by decide +kernel) rfl (by first|exact Or.inl rfl|exact Or.inr rfl))) (λ _ _ _=>(Ba K)) (λ _ _ _=>(AL K (AL K (AL K (qv K 1) (qv K 0)) (A6 K)) (A6 K))))) (A1 K (Ap K (BH K (loc:=["_law_j"]) (fr:=["_law_works_here"]) (ix:=[0]) rfl ⟨rfl,by decide +kernel,rfl,rfl,rfl,by decide +kernel⟩ (K7 K (qv K 1)) (λ _ _ _=>(AD K (i:=0) (show(["_law_j","_law_works_here"]:List Str).Nodup from by decide +kernel) rfl (by first|exact Or.inl rfl|exact Or.inr rfl))) (λ _ _ _=>(Ba K)) (λ _ _ _=>(AL K (AL K (qv K 1) (qv K 0)) (A6 K))))) (A5 K))))
    (AC K (Ac K (CI K (A1 K (Bc K ((Ew K rfl).or (EI K rfl)) (CB Hr) B.sum L2.bt_sum (A1 K (qv K 2) (A5 K))) (A1 K (Bc K ((Ew K rfl).or (EI K rfl)) (CB Hr) B.sum L2.bt_sum (A1 K (qv K 3) (A5 K))) (A5 K)))))))⟩
theorem ok_parts{f_parts:Addr}{d_parts:FuncData}(DA:DefAt K mg "_law_parts" DC f_parts d_parts ["_law_many"]) (B:BltA mg):FnOk P w K mg base CX0 1 f_parts d_parts ["_law_many"] (spF K 1 FU):=by
  refine Ao (N:=["_law_many","_law_found","_law_k"]) (m:=LC) DA sc_parts λ cdv A outer s H E hr=>?_
  exact⟨_,(A8 K (AX K (i:=1) sc_parts.nd rfl (by first|exact Or.inl rfl|exact Or.inr rfl) (Ap K (Bq K (A1 K (Ap K (Bq K (A5 K))) (A5 K)))))
    (A8 K (Cb K rfl (EL K B.range (A1 K (qv K 0) (A5 K))) (AD K (i:=2) sc_parts.nd rfl (by first|exact Or.inl rfl|exact Or.inr rfl))
      (AC K (AX K (i:=1) sc_parts.nd rfl (by first|exact Or.inl rfl|exact Or.inr rfl) (Ap K (K6 K (qv K 1) (Ap K (BH K (loc:=["_law_part"]) (fr:=["_law_k"]) (ix:=[2]) rfl ⟨rfl,by decide +kernel,rfl,rfl,rfl,by decide +kernel⟩ (Ch K (qv K 1)) (λ _ _ _=>(AD K (i:=0) (show(["_law_part","_law_k"]:List Str).Nodup from by decide +kernel) rfl (by first|exact Or.inl rfl|exact Or.inr rfl))) (λ _ _ _=>(Ba K)) (λ _ _ _=>(Ap K (K6 K (qv K 0) (Ap K (Bq K (A1 K (qv K 1) (A5 K))))))))))))))
    (AC K (Ac K (qv K 1)))))⟩
theorem ok_holds{f_holds f_sums f_parts:Addr}{d_holds d_sums d_parts:FuncData}(DA:DefAt K mg "_law_holds" DD f_holds d_holds ["_law_works_here","_law_up","_law_block"])(D_sums:DefAt K mg "_law_sums" DK f_sums d_sums ["_law_works_here","_law_some"])(G_sums:FnOk P w K mg base CX0 1 f_sums d_sums ["_law_works_here","_law_some"] (spF K 2 DY))(D_parts:DefAt K mg "_law_parts" DC f_parts d_parts ["_law_many"])(G_parts:FnOk P w K mg base CX0 1 f_parts d_parts ["_law_many"] (spF K 1 FU))(B:BltA mg):FnOk P w K mg base CX0 2 f_holds d_holds ["_law_works_here","_law_up","_law_block"] (spF K 3 EO):=by
  refine Ao (N:=["_law_works_here","_law_up","_law_block","_law_whole","_law_low","_law_places","_law_part","_law_whole_up","_law_here","_law_here_low"]) (m:=LD) DA sc_holds λ cdv A outer s H E hr=>?_
  exact⟨_,(A8 K (Bw K (BF K (Hx K) GW (AL K (qv K 1) (AL K (qv K 2) (A6 K))) (qv K 2))
      (AC K (Ac K (DO K)))
      (B7 K))
    (A8 K (Bw K (Qr K (Hx K) (DO K) (BH K (loc:=["_law_k"]) (fr:=["_law_up","_law_block"]) (ix:=[1,2]) rfl ⟨rfl,by decide +kernel,rfl,rfl,rfl,by decide +kernel⟩ (L7 K B.range (A1 K (A6 K) (A1 K (Bc K (Au K) (CB BS) B.len L2.bt_len (A1 K (qv K 2) (A5 K))) (A5 K)))) (λ _ _ _=>(AD K (i:=0) (show(["_law_k","_law_up","_law_block"]:List Str).Nodup from by decide +kernel) rfl (by first|exact Or.inl rfl|exact Or.inr rfl))) (λ _ _ _=>(Ba K)) (λ _ _ _=>(DN K (Hx K) GW (AL K (qv K 1) (AL K (qv K 2) (qv K 0))) (TF K (qv K 2) (GZ K) (GY K (qv K 0)))))))
      (AC K (Ac K (DO K)))
      (B7 K))
    (A8 K (EU K (AM K 0 G_sums hr D_sums (A1 K (qv K 0) (A1 K (qv K 2) (A5 K))) AK) (C9 K (n:=2) rfl (AR K (AD K (i:=3) sc_holds.nd rfl (by first|exact Or.inl rfl|exact Or.inr rfl)) (AR K (AD K (i:=4) sc_holds.nd rfl (by first|exact Or.inl rfl|exact Or.inr rfl)) (Bk K)))))
    (A8 K (Cb K rfl (K7 K (HF K G_parts hr D_parts (A1 K (Bc K (Au K) (CB BS) B.len L2.bt_len (A1 K (qv K 2) (A5 K))) (A5 K)) AK)) (AD K (i:=5) sc_holds.nd rfl (by first|exact Or.inl rfl|exact Or.inr rfl))
      (A8 K (by first|exact L3 K (i:=6) (loc:=["_law_k"]) (fr:=["_law_block"]) (ix:=[2]) sc_holds.nd rfl rfl rfl ⟨rfl,by decide +kernel,rfl,rfl,rfl,by decide +kernel⟩ (Ch K (qv K 5)) (λ _ _ _=>(AD K (i:=0) (show(["_law_k","_law_block"]:List Str).Nodup from by decide +kernel) rfl (by first|exact Or.inl rfl|exact Or.inr rfl))) (λ _ _ _=>(Ba K)) (λ _ _ _=>(AL K (qv K 1) (qv K 0)))|exact AX K (i:=6) sc_holds.nd rfl (by first|exact Or.inl rfl|exact Or.inr rfl) (Ap K (BH K (loc:=["_law_k"]) (fr:=["_law_block"]) (ix:=[2]) rfl ⟨rfl,by decide +kernel,rfl,rfl,rfl,by decide +kernel⟩ (Ch K (qv K 5)) (λ _ _ _=>(AD K (i:=0) (show(["_law_k","_law_block"]:List Str).Nodup from by decide +kernel) rfl (by first|exact Or.inl rfl|exact Or.inr rfl))) (λ _ _ _=>(Ba K)) (λ _ _ _=>(AL K (qv K 1) (qv K 0))))))
    (A8 K (AX K (i:=7) sc_holds.nd rfl (by first|exact Or.inl rfl|exact Or.inr rfl) (Qx K (Er K) (DO K) (BH K (loc:=["_law_j"]) (fr:=["_law_up","_law_part","_law_block"]) (ix:=[1,6,2]) rfl ⟨rfl,by decide +kernel,rfl,rfl,rfl,by decide +kernel⟩ (Ch K (qv K 6)) (λ _ _ _=>(AD K (i:=0) (show(["_law_j","_law_up","_law_part","_law_block"]:List Str).Nodup from by decide +kernel) rfl (by first|exact Or.inl rfl|exact Or.inr rfl))) (λ _ _ _=>(Ba K)) (λ _ _ _=>(Uq K (DN K (Hx K) GW (AL K (qv K 1) (qv K 0)) (qv K 2)) (N5 K (DN K (Er K) GW (AL K (qv K 1) (qv K 0)) (qv K 3))))))))
    (AC K (Bw K (QW.toT (FG K (Ca K (qv K 7)) (EK K (Oj Es Ep Es Ep (A6 K) (Bc K (Au K) (CB BS) B.len L2.bt_len (A1 K (qv K 6) (A5 K))) (Bc K (Au K) (CB BS) B.len L2.bt_len (A1 K (qv K 2) (A5 K)))))))
      (A8 K (EU K (Dd K G_sums hr D_sums (A1 K (qv K 0) (A1 K (qv K 6) (A5 K))) AK) (C9 K (n:=2) rfl (AR K (AD K (i:=8) sc_holds.nd rfl (by first|exact Or.inl rfl|exact Or.inr rfl)) (AR K (AD K (i:=9) sc_holds.nd rfl (by first|exact Or.inl rfl|exact Or.inr rfl)) (Bk K)))))
    (AC K (Bw K (BF K Po Pf (AS K Br Bo (qv K 8) (qv K 4)) (AS K Br Bo (qv K 3) (qv K 9)))
      (AC K (Ac K (DO K)))
      (B7 K))))
      (B7 K))))))
    (AC K (Ac K (DO K)))))))⟩
theorem ok_law{f_law f_joined f_tape f_pick f_works f_forest f_sums f_holds:Addr}{d_law d_joined d_tape d_pick d_works d_forest d_sums d_holds:FuncData}(DA:DefAt K mg "law" Di f_law d_law ["_law_script"])(D_joined:DefAt K mg "joined" CW f_joined d_joined ["works","wishes"])(G_joined:FnOk P w K mg base CX0 23 f_joined d_joined ["works","wishes"] (spF K 2 Ei))(D_tape:DefAt K mg "_law_tape" Do f_tape d_tape ["_law_script"])(G_tape:FnOk P w K mg base CX0 1 f_tape d_tape ["_law_script"] (spF K 1 GS))(D_pick:DefAt K mg "_law_pick" Cn f_pick d_pick ["_law_tape_here","_law_many"])(G_pick:FnOk P w K mg base CX0 1 f_pick d_pick ["_law_tape_here","_law_many"] (spF K 2 Ab))(D_works:DefAt K mg "_law_works" DB f_works d_works ["_law_tape_here","_law_many"])(G_works:FnOk P w K mg base CX0 2 f_works d_works ["_law_tape_here","_law_many"] (spF K 2 FT))(D_forest:DefAt K mg "_law_forest" CY f_forest d_forest ["_law_tape_here","_law_many"])(G_forest:FnOk P w K mg base CX0 2 f_forest d_forest ["_law_tape_here","_law_many"] (spF K 2 Ej))(D_sums:DefAt K mg "_law_sums" DK f_sums d_sums ["_law_works_here","_law_some"])(G_sums:FnOk P w K mg base CX0 1 f_sums d_sums ["_law_works_here","_law_some"] (spF K 2 DY))(D_holds:DefAt K mg "_law_holds" DD f_holds d_holds ["_law_works_here","_law_up","_law_block"])(G_holds:FnOk P w K mg base CX0 2 f_holds d_holds ["_law_works_here","_law_up","_law_block"] (spF K 3 EO))(B:BltA mg):FnOk P w K mg base CX0 24 f_law d_law ["_law_script"] (spF K 1 F_law):=by
  refine Ao (N:=["_law_script","_law_tape_here","_law_turn","_law_works_here","_law_wishes","_law_up","_law_a","_law_b","_law_seen","_law_blocks","_law_block","_law_k","_law_one","_law_low","_law_other","_law_other_low"]) (m:=Pp) DA sc_law λ cdv A outer s H E hr=>?_
  exact⟨_,(A8 K (AX K (i:=1) sc_law.nd rfl (by first|exact Or.inl rfl|exact Or.inr rfl) (Dd K G_tape hr D_tape (A1 K (qv K 0) (A5 K)) AK))
    (A8 K (Cb K rfl (EL K B.range (A1 K (A6 K) (A5 K))) (AD K (i:=2) sc_law.nd rfl (by first|exact Or.inl rfl|exact Or.inr rfl))
      (Iw K (A8 K (AX K (i:=3) sc_law.nd rfl (by first|exact Or.inl rfl|exact Or.inr rfl) (AM K 2 G_works hr D_works (A1 K (qv K 1) (A1 K (AS K ((Bs).or (BA K)) (Ah Bp BN) (A6 K) (AM K 2 G_pick hr D_pick (A1 K (qv K 1) (A1 K (A6 K) (A5 K))) AK)) (A5 K))) AK))
    (A8 K (AX K (i:=4) sc_law.nd rfl (by first|exact Or.inl rfl|exact Or.inr rfl) (AM K 2 G_forest hr D_forest (A1 K (qv K 1) (A1 K (Bc K (Au K) (CB BS) B.len L2.bt_len (A1 K (qv K 3) (A5 K))) (A5 K))) AK))
    (A8 K (AX K (i:=5) sc_law.nd rfl (by first|exact Or.inl rfl|exact Or.inr rfl) (Ap K (TD K (Bq K (A1 K (N6 K) (A5 K))) (Bc K (Au K) (CB BS) B.len L2.bt_len (A1 K (qv K 3) (A5 K))))))
    (A8 K (Cb K rfl (DM K (qv K 4)) (C9 K (n:=2) rfl (AR K (AD K (i:=6) sc_law.nd rfl (by first|exact Or.inl rfl|exact Or.inr rfl)) (AR K (AD K (i:=7) sc_law.nd rfl (by first|exact Or.inl rfl|exact Or.inr rfl)) (Bk K))))
      (AC K (FH K (qv K 5) (qv K 7) (qv K 6))))
    (A8 K (AX K (i:=8) sc_law.nd rfl (by first|exact Or.inl rfl|exact Or.inr rfl) (Ap K (Bq K (A5 K))))
    (A8 K (AX K (i:=9) sc_law.nd rfl (by first|exact Or.inl rfl|exact Or.inr rfl) (HF K G_joined hr D_joined (A1 K (qv K 3) (A1 K (qv K 4) (A5 K))) AK))
    (A8 K (Cb K rfl (Ch K (qv K 9)) (AD K (i:=10) sc_law.nd rfl (by first|exact Or.inl rfl|exact Or.inr rfl))
      (A8 K (Bw K (QW.toT (Up K (BF K ((Et).or (DG K hr.units)) (Ah Dq Dr) (Bc K (Au K) (CB BS) B.len L2.bt_len (A1 K (qv K 10) (A5 K))) (A6 K)) (T9 K (QW.toT (FG K (Qq K (AL K (qv K 5) (AL K (qv K 10) (A6 K)))) (EK K (BF K (Er K) GW (AL K (qv K 5) (AL K (qv K 10) (A6 K))) (qv K 8))))))))
      (AC K (Ac K (DO K)))
      (B7 K))
    (A8 K (DF K (Ga K PySem.F.slot_list_extend PySem.F.type_list_extend Rk Qd (qv K 8) (A1 K (qv K 10) (A5 K))))
    (AC K (Bw K (K2 K (Ca K (Dd K G_holds hr D_holds (A1 K (qv K 3) (A1 K (qv K 5) (A1 K (qv K 10) (A5 K)))) AK)))
      (AC K (Ac K (DO K)))
      (B7 K))))))
    (A8 K (Bw K (Qs K (NI K hr.units) (M0 K B.sorted (IY K (qv K 8))) (K5 K B.list B.range (A1 K (Bc K (Au K) (CB BS) B.len L2.bt_len (A1 K (qv K 3) (A5 K))) (A5 K))))
      (AC K (Ac K (DO K)))
      (B7 K))
    (AC K (Cb K rfl (EL K B.range (A1 K (AS K NH Mz (Bc K (Au K) (CB BS) B.len L2.bt_len (A1 K (qv K 9) (A5 K))) (A6 K)) (A5 K))) (AD K (i:=11) sc_law.nd rfl (by first|exact Or.inl rfl|exact Or.inr rfl))
      (A8 K (EU K (AM K 0 G_sums hr D_sums (A1 K (qv K 3) (A1 K (AL K (qv K 9) (qv K 11)) (A5 K))) AK) (C9 K (n:=2) rfl (AR K (AD K (i:=12) sc_law.nd rfl (by first|exact Or.inl rfl|exact Or.inr rfl)) (AR K (AD K (i:=13) sc_law.nd rfl (by first|exact Or.inl rfl|exact Or.inr rfl)) (Bk K)))))
    (A8 K (EU K (AM K 0 G_sums hr D_sums (A1 K (qv K 3) (A1 K (AL K (qv K 9) (AS K ((Bs).or (BA K)) (Ah Bp BN) (qv K 11) (A6 K))) (A5 K))) AK) (C9 K (n:=2) rfl (AR K (AD K (i:=14) sc_law.nd rfl (by first|exact Or.inl rfl|exact Or.inr rfl)) (AR K (AD K (i:=15) sc_law.nd rfl (by first|exact Or.inl rfl|exact Or.inr rfl)) (Bk K)))))
    (AC K (Bw K (BF K Es Ep (AS K Br Bo (qv K 12) (qv K 15)) (AS K Br Bo (qv K 14) (qv K 13)))
      (AC K (Ac K (DO K)))
      (B7 K)))))))))))))))))
    (AC K (Ac K (DO K)))))⟩
end
end T70
namespace Bd
open PySem L2
end Bd
namespace Rw
open PySem L2 Bd
end Rw
namespace L2
open PySem PySem.Spec PyProof.Rows
section
variable{hd:Hd}{QE:D->Hd->Prop}{d:D}
end
end L2
namespace Bt
open PySem L2 Bd
noncomputable def Bv(t:Tp):List D:=[.mu 0,.im (.int t.nx),.im (.int t.lf),.im (.int t.tn)]
noncomputable def tl(t:Tp):Hd:=[.lst (t.cells.map λ i=>.im (.int i)),.lst (Bv t)]
@[simp] theorem WG(t:Tp):(tl t).length=2:=rfl
@[simp] theorem XN(t:Tp)(r:Hd):(tl t ++ r)[0]? = some (.lst (t.cells.map λ i=>.im (.int i))):=rfl
@[simp] theorem XM(t:Tp)(r:Hd):(tl t ++ r)[1]? = some (.lst (Bv t)):=rfl
@[simp] theorem tl0(t:Tp):(tl t)[0]? = some (.lst (t.cells.map λ i=>.im (.int i))):=rfl
@[simp] theorem tl1(t:Tp):(tl t)[1]? = some (.lst (Bv t)):=rfl
@[simp] theorem tln(t:Tp):(Bv t).length=4:=rfl
section
variable(t:Tp)(v:Int)
@[simp] theorem XS:atI (Bv t) 0=some (.mu 0):=DH (j:=0) rfl
@[simp] theorem XR:atI (Bv t) 1=some (.im (.int t.nx)):=DH (j:=1) rfl
@[simp] theorem XQ:atI (Bv t) 2=some (.im (.int t.lf)):=DH (j:=2) rfl
@[simp] theorem XO:atI (Bv t) 3=some (.im (.int t.tn)):=DH (j:=3) rfl
@[simp] theorem XD:ixN 4 1=some 1:=rfl
@[simp] theorem XC:ixN 4 2=some 2:=rfl
@[simp] theorem XB:ixN 4 3=some 3:=rfl
@[simp] theorem WC:(Bv t).set 1 (.im (.int v))=Bv { t with nx:=v }:=rfl
@[simp] theorem WB:(Bv t).set 2 (.im (.int v))=Bv { t with lf:=v }:=rfl
@[simp] theorem W9:(Bv t).set 3 (.im (.int v))=Bv { t with tn:=v }:=rfl
end
@[simp] theorem Wr(t t':Tp)(h:t'.cells=t.cells):(tl t).set 1 (.lst (Bv t'))=tl t':=by unfold tl;rw[h];rfl
@[simp high] theorem XL(t:Tp)(x:MO)(r:Hd):(tl t ++ (x :: r))[2]? = some x:=rfl
@[simp high] theorem XJ(t:Tp)(x y:MO)(r:Hd):(tl t ++ (x :: y :: r))[3]? = some y:=rfl
@[simp high] theorem Wt(t:Tp)(x y:MO)(r:Hd):(tl t ++ (x :: r)).set 2 y=tl t ++ (y :: r):=rfl
@[simp high] theorem Ws(t:Tp)(x y z:MO)(r:Hd):(tl t ++ (x :: y :: r)).set 3 z=tl t ++ (x :: z :: r):=rfl
@[simp] theorem Ue(t:Tp):(tl t).all (clO 2)=true:=by simp[tl,clO,Nm,Bv,clD,BB]
structure DrawL(P:List D->Hd->Option (D × Hd))(τ:Tp)(many:Int)(r:Int)(τ':Tp):Prop where
  lo:0 <= r
  hi:r < many
  eq:P [.mu 1,.im (.int many)] (tl τ)=some (.im (.int r),tl τ')
section
variable{P:List D->Hd->Option (D × Hd)}{τ τ':Tp}{many r:Int}
end
end Bt
namespace T70
open PySem L2 Bd Bt
local macro_rules | `(tactic| sizeOf_list_dec) => `(tactic| first | (with_reducible refine A9 ?_; try dsimp only [List.set_cons_zero, List.set_cons_succ, List.map_cons, List.map_nil, List.cons_append, List.nil_append, List.replicate, Nat.reduceSub, Int.reduceToNat]) | with_reducible refine JZ ?_ | with_reducible refine AH ?_ | with_reducible refine Aw ?_ | with_reducible refine BE ?_ | with_reducible refine Cz ?_ | with_reducible refine An ?_ | with_reducible refine Bz ?_ | with_reducible refine JS ?_ | with_reducible refine IP ?_ | with_reducible refine CF ?_ | with_reducible refine A3 (d := _) rfl ?_ | with_reducible refine Ag ?_ | with_reducible refine AE ?_ | with_reducible refine ES ?_ | with_reducible refine Aq ?_ | with_reducible refine Dn ?_ | with_reducible refine Mi ?_ | with_reducible refine C7 ?_ | with_reducible refine Hf ?_ | with_reducible refine CS ?_ | with_reducible refine Km ?_ | with_reducible refine B5 ?_ | with_reducible refine Fy ?_ | with_reducible refine Fz ?_ | with_reducible refine LW ?_ | with_reducible refine BZ ?_ | with_reducible refine AB ?_ | with_reducible refine A4 ?_ | with_reducible refine CG ?_ | with_reducible refine B6 ?_ | with_reducible refine Gz ?_ | with_reducible refine JG ?_ | with_reducible refine Ey ?_ | with_reducible refine SG ?_ | with_reducible refine Dz ?_ | with_reducible refine G4 ?_ | with_reducible refine He ?_ | with_reducible refine Ek ?_ | with_reducible refine PV ?_ | with_reducible refine PX ?_ | with_reducible refine LX ?_ | with_reducible refine ER ?_ | with_reducible refine Md ?_ | with_reducible refine Mf ?_ | with_reducible refine JT ?_ | with_reducible refine Kk ?_ | with_reducible refine Kj ?_ | with_reducible refine ⟨_, rfl, ?_⟩ | refine AV rfl (Eg _ _) ?_ | refine AV rfl (FD _ _ _) ?_ | refine AV rfl (Ha _ _ _ _) ?_ | refine ⟨_, _, _, _, rfl, rfl, rfl, rfl, ?_⟩ | refine ⟨⟨_, rfl⟩, ?_⟩ | refine ⟨IM, ?_⟩ | refine ⟨IL, ?_⟩ | refine ⟨Nd, ?_⟩ | refine ⟨Nc, ?_⟩ | refine ⟨Dw, ?_⟩ | refine ⟨Ef, ?_⟩ | with_reducible refine we_nilEN ?_)
noncomputable def Fe(cell turn:Int):Int:=(cell % 2147483647 + 40503 * turn + 11) % 2147483629
noncomputable def Ig(x turn:Int):Int:=(x * x + 25717 * turn + 3) % 2147483587
noncomputable def Tt(x:Int):Int:=(x * x + 16807 * x + 1) % 2147483579
theorem mk1(j:Int):CQ 40503 j:=Bm (by decide) (by decide)
theorem mk2(j:Int):CQ 25717 j:=Bm (by decide) (by decide)
theorem mk3(j:Int):CQ 16807 j:=Bm (by decide) (by decide)
theorem mo1:C3 2147483587:=by unfold C3;decide
theorem mo2:C3 2147483629:=by unfold C3;decide
theorem mo3:C3 2147483647:=by unfold C3;decide
theorem mo4:C3 2147483579:=by unfold C3;decide
theorem di1:Gn 256:=by unfold Gn;decide
theorem RV(τ:Tp)(many:Int)(h0:0 < many)(h1:many < 1073741824):∃ r τ',DrawL Ab τ many r τ':=by
  have hm:C3 many:=h0
  have hv:Gn many:=⟨h0,h1⟩
  by_cases hl:τ.lf > 0
  . refine⟨τ.lf % many,{ τ with tn:=τ.tn + 1,lf:=τ.lf / many },(EE many h0).1,(EE many h0).2,?_⟩
    simp[Ab,mkF,hl,hm,hv]
  . have key:∀ cell:Int,(if τ.cells=[]then cell=6 else atI (τ.cells.map λ i=>D.im (.int i)) (τ.nx % (τ.cells.length:Int))=some (.im (.int cell))) ->
        ∃ r τ',DrawL Ab τ many r τ':=by
      intro cell hcell
      have b1:=EE (x:=cell % 2147483647 + 40503 * (τ.tn + 1) + 11) 2147483629 (by decide)
      have b2:=EE (x:=Fe cell (τ.tn + 1) * Fe cell (τ.tn + 1) + 25717 * (τ.tn + 1) + 3) 2147483587 (by decide)
      have c1:∀ j,CQ (Fe cell (τ.tn + 1)) j:=λ j=>Bm (by unfold Fe;omega) (by unfold Fe;omega)
      have c2:∀ j,CQ (Ig (Fe cell (τ.tn + 1)) (τ.tn + 1)) j:=λ j=>Bm (by unfold Ig;omega) (by unfold Ig;omega)
      by_cases hb:cell >= 1000000000000000000/\τ.nx < (τ.cells.length:Int)
      . refine⟨cell % many,{ τ with tn:=τ.tn + 1,nx:=τ.nx + 1,lf:=cell / many },(EE many h0).1,(EE many h0).2,?_⟩
        by_cases hc:τ.cells=[]
        . rw[if_pos hc]at hcell;subst hcell;omega
        . rw[if_neg hc]at hcell
          have hl0:0 < τ.cells.length:=Ii hc
          have hl0':C3 (τ.cells.length:Int):=by unfold C3;omega
          simp[Ab,mkF,hl,hm,hv,mk1,mk2,mk3,mo1,mo2,mo3,mo4,di1,po1,Fg,pyD,DX,De,I.pys,FQ,hc,hcell,hl0',hb.1,hb.2,B3]
      . refine⟨Tt (Ig (Fe cell (τ.tn + 1)) (τ.tn + 1)) / 256 % many,{ τ with tn:=τ.tn + 1,nx:=τ.nx + 1 },(EE many h0).1,(EE many h0).2,?_⟩
        have hb':1000000000000000000 <= cell->¬ τ.nx < (τ.cells.length:Int):=λ a b=>hb ⟨a,b⟩
        unfold Fe at c1 c2
        unfold Ig at c2
        unfold Tt Ig Fe
        by_cases hc:τ.cells=[]
        . rw[if_pos hc]at hcell;subst hcell
          simp only[Int.reduceMod]at c1 c2
          simp[Ab,mkF,hl,hm,hv,mk1,mk2,mk3,mo1,mo2,mo3,mo4,di1,po1,Fg,pyD,DX,De,I.pys,FQ,UQ,hc,B3,c1,c2]
        . rw[if_neg hc]at hcell
          have hl0:0 < τ.cells.length:=Ii hc
          have hl0':C3 (τ.cells.length:Int):=by unfold C3;omega
          by_cases hd:1000000000000000000 <= cell
          . simp[Ab,mkF,hl,hm,hv,mk1,mk2,mk3,mo1,mo2,mo3,mo4,di1,po1,Fg,pyD,DX,De,I.pys,FQ,hc,hcell,hl0',B3,c1,c2,hd,hb' hd]
          . simp[Ab,mkF,hl,hm,hv,mk1,mk2,mk3,mo1,mo2,mo3,mo4,di1,po1,Fg,pyD,DX,De,I.pys,FQ,hc,hcell,hl0',B3,c1,c2,hd]
    by_cases hc:τ.cells=[]
    . exact key 6 (by rw[if_pos hc])
    . obtain⟨c,e⟩:=VM hc τ.nx
      exact key c (by rw[if_neg hc];exact e)
theorem QB(ns:List Int):∃ τ,GS [.ro ns] []=some (.mu 1,tl τ):=by
  obtain⟨cs,e⟩:=PJ ns none (some 63)
  refine⟨⟨cs,0,0,0⟩,?_⟩
  simp[GS,mkF,e,tl,Bv]
noncomputable def T(_:Nat)(a b:MO):Prop:=∃ τ:Tp,tl τ=[a,b]
theorem tap:Tap T Ab where
  cl:=by
    rintro k a b ⟨τ,e⟩
    have:=Ue τ
    rw[e]at this
    simpa using this
  le:=λ h _=>h
  pick:=by
    rintro k a b many ⟨τ,e⟩ h0 h1
    obtain⟨r,τ',d⟩:=RV τ many h0 h1
    refine⟨r,.lst (τ'.cells.map λ i=>.im (.int i)),.lst (Bv τ'),d.lo,d.hi,?_,τ',rfl⟩
    rw[<- e]
    exact d.eq
noncomputable abbrev wk(c:Int)(p:Int × Int):Wk:=⟨p.1,c,.ends p.2⟩
noncomputable abbrev Ae(c:Int)(ws:List (Int × Int)):I:=SE (ws.map (wk c))
structure WOk(c:Int)(ws:List (Int × Int)):Prop where
  c0:0 <= c
  c1:c <= 60
  n1:1 <= ws.length
  n8:ws.length <= 8
  each:∀ p ∈ ws,1 <= p.1/\p.1 <= 1000000/\0 <= p.2/\p.2 <= 1000000
noncomputable abbrev wkD(c:Int)(p:Int × Int):D:=.im (DI (wk c p))
theorem Ts(c:Int)(ws:List (Int × Int)):B4 (ws.map (wkD c))=.im (Ae c ws):=by
  have:ws.map (wkD c)=((ws.map (wk c)).map DI).map D.im:=by simp
  rw[this,Fd]
set_option maxHeartbeats 2000000 in
theorem Q4{n:Nat}(h1:1 <= n)(hn:n <= 8):∀ a b,T 0 a b->WF FT [.mu 1,.im (.int (n:Int))] [a,b] λ d x=>∃ i a' b' g,d=.im i/\(∃ c ws,i=Ae c ws/\ws.length=n/\WOk c ws)/\T 0 a' b'/\x=a' :: b' :: g:=by
  intro a b hT
  unfold FT
  refine BJ rfl ?_
  refine AH (EQ ?_)
  repeat sizeOf_list_dec
  refine tap.draw (n:=0) (rest:=[]) hT rfl (by decide) (by decide) λ r1 a b hT pr1 qr1=>?_
  have key:∀ (Q:Fl->Hd->Prop),(∀ c ws a' b' g,ws.length=n->WOk c ws->T 0 a' b'->Q (.rt (.im (Ae c ws))) (a' :: b' :: g))->∀ (lg hv lw:Int),0 < lg->lg <= 1000000->0 < hv->hv <= 1000001->0 <= lw->lw + lg <= 1000000->lw + hv <= 1000001->∀ a b,T 0 a b->WS (AF (Ak 5 (HL (C6 (A2 (mC (.int 0)) (A2 (AI 2 Ab (A2 (A0 0) (A2 (mC (.int 61)) A7))) A7))) (AI 2 Ab (A2 (A0 0) (A2 (mC (.int 2)) A7)))))
    (AF (Ak 6 (B1 (C6 A7)))
    (AF (Ck (Eb (A2 (A0 1) A7)) (AN 7)
      (AF (Cj [8,9] (A2 (mOp BK (mOp BK (mC (.int 1)) (A0 4)) (AI 2 Ab (A2 (A0 0) (A2 (A0 2) A7)))) (A2 (mOp BK (A0 4) (AI 2 Ab (A2 (A0 0) (A2 (A0 3) A7)))) A7)))
    (AF (BX (Ed (AT (mOp gGt (A0 7) (mC (.int 0)))) (AT (mOp gEq (AI 2 Ab (A2 (A0 0) (A2 (mC (.int 3)) A7))) (mC (.int 0)))))
      (AF (Ak 10 (mOp gIx (A0 6) (AI 2 Ab (A2 (A0 0) (A2 (A0 7) A7)))))
    (AF (Ak 11 (Gh (mOp gLe (mOp BY (mOp gIx (A0 10) (mC (.int 0))) (mC (.int 3))) (A0 2)) (mOp gLt (mOp BY (mOp gIx (mOp gIx (A0 10) (mC (.int 2))) (mC (.int 1))) (mC (.int 3))) (A0 3))))
    (AF (Ak 12 (mIf (Cy (A0 11)) (mOp BK (mC (.int 1)) (AI 2 Ab (A2 (A0 0) (A2 (mC (.int 3)) A7)))) (mC (.int 1))))
    (Cj [8,9] (A2 (mOp BY (mOp gIx (A0 10) (mC (.int 0))) (A0 12)) (A2 (mOp BY (mOp gIx (mOp gIx (A0 10) (mC (.int 2))) (mC (.int 1))) (A0 12)) A7))))))
      BD)
    (Bx (mMt Bn (A0 6) (A2 (BT (A2 (A0 8) (A2 (A0 5) (A2 (BT (A2 (mC (.str "ends")) (A2 (A0 9) A7))) A7)))) A7))))))
    (Am (mCB (f1 true Dv) (A2 (A0 6) A7)))))) [some (.mu 1),some (.im (.int (n:Int))),some (.im (.int lg)),some (.im (.int hv)),some (.im (.int lw)),none,none,none,none,none,none,none,none] [a,b] Q:=by
    intro Q hQ lg hv lw g1 g2 g3 g4 g5 g6 g7 a b hT
    repeat sizeOf_list_dec
    refine tap.draw (n:=0) hT rfl (by first|decide|omega) (by first|decide|omega) λ r2 a b hT pr2 qr2=>?_
    repeat sizeOf_list_dec
    refine tap.draw (n:=0) hT rfl (by first|decide|omega) (by first|decide|omega) λ r3 a b hT pr3 qr3=>?_
    obtain⟨c,hc,hc0,hc1⟩:∃ c:Int,atI [D.im (.int 0),D.im (.int r2)] r3=some (D.im (.int c))/\0 <= c/\c <= 60:=by
      rcases(show r3=0 ∨ r3=1 by omega)with rfl|rfl
      . exact⟨0,Eg _ _,by omega,by omega⟩
      . exact⟨r2,FD _ _ _,by omega,by omega⟩
    refine⟨_,_,rfl,hc,?_⟩
    repeat sizeOf_list_dec
    refine⟨Dc (by omega) (by omega),?_⟩
    rw[Int.toNat_natCast]
    refine C8 (λ r ls hd=>∃ (ws:List (Int × Int)) (j:Nat) (a b:MO) (z7 z8 z9 z10 z11 z12:Option D),r=AQ (j:Int) (n - j)/\j <= n/\ws.length=j/\(∀ p ∈ ws,1 <= p.1/\p.1 <= 1000000/\0 <= p.2/\p.2 <= 1000000)/\ls=[some (.mu 1),some (.im (.int (n:Int))),some (.im (.int lg)),some (.im (.int hv)),some (.im (.int lw)),some (.im (.int c)),some (.mu 2),z7,z8,z9,z10,z11,z12]/\hd=[a,b,.lst (ws.map (wkD c))]/\T 0 a b) ?_ ?_ ?_
    . exact⟨[],0,a,b,none,none,none,none,none,none,rfl,by omega,rfl,by simp,rfl,rfl,hT⟩
    . rintro d r ls hd ⟨ws,j,a,b,z7,z8,z9,z10,z11,z12,er,hj,lw',hw,rfl,rfl,hT⟩
      obtain⟨m,hm⟩:∃ m,n - j=m + 1:=by
        cases q:n - j with
        | zero=>rw[q]at er;cases er
        | succ m=>exact⟨m,rfl⟩
      rw[hm,AQ]at er
      obtain⟨rfl,rfl⟩:=List.cons.inj er
      have ej:((j:Int) + 1)=((j + 1:Nat):Int):=by omega
      have em:m=n - (j + 1):=by omega
      refine⟨_,rfl,?_⟩
      dsimp only[List.set_cons_zero,List.set_cons_succ]
      repeat sizeOf_list_dec
      refine tap.draw (n:=0) hT rfl (by first|decide|omega) (by first|decide|omega) λ r4 a b hT pr4 qr4=>?_
      repeat sizeOf_list_dec
      refine tap.draw (n:=0) hT rfl (by first|decide|omega) (by first|decide|omega) λ r5 a b hT pr5 qr5=>?_
      repeat sizeOf_list_dec
      have fin:∀ (x y:Int) a b (z10 z11 z12:Option D),1 <= x->x <= 1000000->0 <= y->y <= 1000000->T 0 a b->WS (Bx (mMt Bn (A0 6) (A2 (BT (A2 (A0 8) (A2 (A0 5) (A2 (BT (A2 (mC (.str "ends")) (A2 (A0 9) A7))) A7)))) A7))) [some (.mu 1),some (.im (.int (n:Int))),some (.im (.int lg)),some (.im (.int hv)),some (.im (.int lw)),some (.im (.int c)),some (.mu 2),some (.im (.int (j:Int))),some (.im (.int x)),some (.im (.int y)),z10,z11,z12] [a,b,.lst (ws.map (wkD c))] (Hg [] (λ ls hd=>∃ (ws:List (Int × Int)) (j':Nat) (a b:MO) (z7 z8 z9 z10 z11 z12:Option D),AQ ((j:Int) + 1) m=AQ (j':Int) (n - j')/\j' <= n/\ws.length=j'/\(∀ p ∈ ws,1 <= p.1/\p.1 <= 1000000/\0 <= p.2/\p.2 <= 1000000)/\ls=[some (.mu 1),some (.im (.int (n:Int))),some (.im (.int lg)),some (.im (.int hv)),some (.im (.int lw)),some (.im (.int c)),some (.mu 2),z7,z8,z9,z10,z11,z12]/\hd=[a,b,.lst (ws.map (wkD c))]/\T 0 a b) (EA (Am (mCB (f1 true Dv) (A2 (A0 6) A7))) Q)):=by
        intro x y a b z10 z11 z12 k1 k2 k3 k4 hT
        repeat sizeOf_list_dec
        refine JU rfl (Fm (by simp;omega)) ?_
        refine⟨As _,ws ++ [(x,y)],j + 1,a,b,_,_,_,_,_,_,by rw[ej,em],by omega,by simp[lw'],?_,rfl,?_,hT⟩
        . intro p hp
          rcases List.mem_append.mp hp with h|h
          . exact hw p h
          . simp at h;subst h;exact⟨k1,k2,k3,k4⟩
        . simp[wkD,DI,Pv,B4,BL]
      refine⟨rfl,A9 ?_⟩
      change WS _ [some (.mu 1),some (.im (.int (n:Int))),some (.im (.int lg)),some (.im (.int hv)),some (.im (.int lw)),some (.im (.int c)),some (.mu 2),some (.im (.int (j:Int))),some (.im (.int (1 + lw + r4))),some (.im (.int (lw + r5))),z10,z11,z12] _ _
      repeat sizeOf_list_dec
      by_cases hj0:(0:Int) < (j:Int)
      . rw[if_pos (by simpa using hj0)]
        repeat sizeOf_list_dec
        refine tap.draw (n:=0) hT rfl (by first|decide|omega) (by first|decide|omega) λ r6 a b hT pr6 qr6=>?_
        repeat sizeOf_list_dec
        refine⟨λ _=>?_,λ _=>An (A9 (fin _ _ a b _ _ _ (by omega) (by omega) (by omega) (by omega) hT))⟩
        repeat sizeOf_list_dec
        refine tap.draw (n:=0) (many:=(j:Int)) (rest:=[.lst (ws.map (wkD c))]) hT rfl (by omega) (by omega) λ r7 a b hT pr7 qr7=>?_
        obtain⟨u,rfl⟩:∃ u:Nat,r7=(u:Int):=⟨r7.toNat,by omega⟩
        have hu:u < ws.length:=by omega
        have hp:=hw ws[u] (List.getElem_mem hu)
        generalize hpu:ws[u]=p at hp
        obtain⟨x,y⟩:=p
        dsimp only at hp
        refine AV (ds:=ws.map (wkD c)) (e:=wkD c (x,y)) rfl (DW rfl (by simp[hu,hpu])) ?_
        repeat sizeOf_list_dec
        have mx:∀ i,CQ x i:=λ i=>Bm (by omega) (by omega)
        have my:∀ i,CQ y i:=λ i=>Bm (by omega) (by omega)
        refine Q7 (B5 ?_)
        repeat sizeOf_list_dec
        refine Cm (mx _) ?_
        repeat sizeOf_list_dec
        have tail:∀ (sm:Bool) a b,T 0 a b->(sm=true->x * 3 <= lg/\y * 3 < hv)->WS (AF (Ak 12 (mIf (Cy (A0 11)) (mOp BK (mC (.int 1)) (AI 2 Ab (A2 (A0 0) (A2 (mC (.int 3)) A7)))) (mC (.int 1))))
            (Cj [8,9] (A2 (mOp BY (mOp gIx (A0 10) (mC (.int 0))) (A0 12)) (A2 (mOp BY (mOp gIx (mOp gIx (A0 10) (mC (.int 2))) (mC (.int 1))) (A0 12)) A7)))) [some (.mu 1),some (.im (.int (n:Int))),some (.im (.int lg)),some (.im (.int hv)),some (.im (.int lw)),some (.im (.int c)),some (.mu 2),some (.im (.int (j:Int))),some (.im (.int (1 + lw + r4))),some (.im (.int (lw + r5))),some (wkD c (x,y)),some (.im (.bl sm)),z12] [a,b,.lst (ws.map (wkD c))] (λ f hd=>EA (Bx (mMt Bn (A0 6) (A2 (BT (A2 (A0 8) (A2 (A0 5) (A2 (BT (A2 (mC (.str "ends")) (A2 (A0 9) A7))) A7)))) A7))) (Hg [] (λ ls hd=>∃ (ws:List (Int × Int)) (j':Nat) (a b:MO) (z7 z8 z9 z10 z11 z12:Option D),AQ ((j:Int) + 1) m=AQ (j':Int) (n - j')/\j' <= n/\ws.length=j'/\(∀ p ∈ ws,1 <= p.1/\p.1 <= 1000000/\0 <= p.2/\p.2 <= 1000000)/\ls=[some (.mu 1),some (.im (.int (n:Int))),some (.im (.int lg)),some (.im (.int hv)),some (.im (.int lw)),some (.im (.int c)),some (.mu 2),z7,z8,z9,z10,z11,z12]/\hd=[a,b,.lst (ws.map (wkD c))]/\T 0 a b) (EA (Am (mCB (f1 true Dv) (A2 (A0 6) A7))) Q)) f hd):=by
          intro sm a b hT hsm
          have step:∀ (v:Int) a b,T 0 a b->1 <= v->v <= 3->(v=1 ∨ (x * 3 <= lg/\y * 3 < hv))->WS (Cj [8,9] (A2 (mOp BY (mOp gIx (A0 10) (mC (.int 0))) (A0 12)) (A2 (mOp BY (mOp gIx (mOp gIx (A0 10) (mC (.int 2))) (mC (.int 1))) (A0 12)) A7))) [some (.mu 1),some (.im (.int (n:Int))),some (.im (.int lg)),some (.im (.int hv)),some (.im (.int lw)),some (.im (.int c)),some (.mu 2),some (.im (.int (j:Int))),some (.im (.int (1 + lw + r4))),some (.im (.int (lw + r5))),some (wkD c (x,y)),some (.im (.bl sm)),some (.im (.int v))] [a,b,.lst (ws.map (wkD c))] (λ f hd=>EA (Bx (mMt Bn (A0 6) (A2 (BT (A2 (A0 8) (A2 (A0 5) (A2 (BT (A2 (mC (.str "ends")) (A2 (A0 9) A7))) A7)))) A7))) (Hg [] (λ ls hd=>∃ (ws:List (Int × Int)) (j':Nat) (a b:MO) (z7 z8 z9 z10 z11 z12:Option D),AQ ((j:Int) + 1) m=AQ (j':Int) (n - j')/\j' <= n/\ws.length=j'/\(∀ p ∈ ws,1 <= p.1/\p.1 <= 1000000/\0 <= p.2/\p.2 <= 1000000)/\ls=[some (.mu 1),some (.im (.int (n:Int))),some (.im (.int lg)),some (.im (.int hv)),some (.im (.int lw)),some (.im (.int c)),some (.mu 2),z7,z8,z9,z10,z11,z12]/\hd=[a,b,.lst (ws.map (wkD c))]/\T 0 a b) (EA (Am (mCB (f1 true Dv) (A2 (A0 6) A7))) Q)) f hd):=by
            intro v a b hT v1 v3 hv'
            repeat sizeOf_list_dec
            refine Cm (mx _) ?_
            repeat sizeOf_list_dec
            refine Cm (my _) ?_
            repeat sizeOf_list_dec
            refine⟨rfl,A9 ?_⟩
            have bx:1 <= x * v/\x * v <= 1000000/\0 <= y * v/\y * v <= 1000000:=by
              rcases(show v=1 ∨ v=2 ∨ v=3 by omega)with rfl|rfl|rfl
              . omega
              . rcases hv' with h|h
                . omega
                . omega
              . rcases hv' with h|h
                . omega
                . omega
            exact fin (x * v) (y * v) a b _ _ _ bx.1 bx.2.1 bx.2.2.1 bx.2.2.2 hT
          refine AH (Aw (Mk (Dm (A3 rfl ⟨_,rfl,?_⟩))))
          refine⟨λ h=>?_,λ h=>Ag (A9 (step 1 a b hT (by omega) (by omega) (.inl rfl)))⟩
          repeat sizeOf_list_dec
          refine tap.draw (n:=0) hT rfl (by decide) (by decide) λ r8 a b hT pr8 qr8=>?_
          exact G4 (A9 (step (1 + r8) a b hT (by omega) (by omega) (.inr (hsm h))))
        by_cases hs1:x * 3 <= lg
        . rw[if_pos (by simpa using hs1)]
          refine AE (AE (AE (AE (A3 rfl (Ag (AV rfl (Ha _ _ _ _) ?_))))))
          refine Ag (AV rfl (FD _ _ _) (Ag (Cm (my _) (A3 rfl (Ek (A9 (tail _ a b hT λ h=>⟨hs1,by simpa using h⟩)))))))
        . rw[if_neg (by simpa using hs1)]
          exact A9 (tail false a b hT λ h=>by cases h)
      . rw[if_neg (by simpa using hj0)]
        exact⟨(λ h=>by cases h),λ _=>An (A9 (fin _ _ a b _ _ _ (by omega) (by omega) (by omega) (by omega) hT))⟩
    . rintro ls hd ⟨ws,j,a,b,z7,z8,z9,z10,z11,z12,er,hj,lw',hw,rfl,rfl,hT⟩
      have hj':j=n:=by
        cases q:n - j with
        | zero=>omega
        | succ m=>rw[q]at er;cases er
      repeat sizeOf_list_dec
      refine Ct rfl rfl ?_
      rw[Ts]
      exact hQ c ws a b _ (by omega) ⟨hc0,hc1,by omega,by omega,hw⟩ hT
  have Cg:∀ (lg hv lw:Int),0 < lg->lg <= 1000000->0 < hv->hv <= 1000001->0 <= lw->lw + lg <= 1000000->lw + hv <= 1000001->True:=λ _ _ _ _ _ _ _ _ _ _=>trivial
  rcases(show r1=0 ∨ r1=1 ∨ r1=2 ∨ r1=3 by omega)with rfl|rfl|rfl|rfl
  . refine⟨_,_,rfl,Eg _ _,⟨[some (.mu 1),some (.im (.int (n:Int))),some (.im (.int 20)),some (.im (.int 10)),some (.im (.int 0)),none,none,none,none,none,none,none,none],rfl,A9 ?_⟩⟩
    repeat sizeOf_list_dec
    rw[if_neg (by decide)]
    refine⟨(λ h=>by cases h),λ _=>An (A9 (key _ ?_ 20 10 0 (by omega) (by omega) (by omega) (by omega) (by omega) (by omega) (by omega) a b hT))⟩
    exact λ c ws a' b' g e1 e2 e3=>⟨_,a',b',g,rfl,⟨c,ws,rfl,e1,e2⟩,e3,rfl⟩
  . refine⟨_,_,rfl,FD _ _ _,⟨[some (.mu 1),some (.im (.int (n:Int))),some (.im (.int 3)),some (.im (.int 3)),some (.im (.int 0)),none,none,none,none,none,none,none,none],rfl,A9 ?_⟩⟩
    repeat sizeOf_list_dec
    rw[if_neg (by decide)]
    refine⟨(λ h=>by cases h),λ _=>An (A9 (key _ ?_ 3 3 0 (by omega) (by omega) (by omega) (by omega) (by omega) (by omega) (by omega) a b hT))⟩
    exact λ c ws a' b' g e1 e2 e3=>⟨_,a',b',g,rfl,⟨c,ws,rfl,e1,e2⟩,e3,rfl⟩
  . refine⟨_,_,rfl,Ha _ _ _ _,⟨[some (.mu 1),some (.im (.int (n:Int))),some (.im (.int 20)),some (.im (.int 2)),some (.im (.int 0)),none,none,none,none,none,none,none,none],rfl,A9 ?_⟩⟩
    repeat sizeOf_list_dec
    rw[if_neg (by decide)]
    refine⟨(λ h=>by cases h),λ _=>An (A9 (key _ ?_ 20 2 0 (by omega) (by omega) (by omega) (by omega) (by omega) (by omega) (by omega) a b hT))⟩
    exact λ c ws a' b' g e1 e2 e3=>⟨_,a',b',g,rfl,⟨c,ws,rfl,e1,e2⟩,e3,rfl⟩
  . refine⟨_,_,rfl,DW (k:=3) rfl rfl,⟨[some (.mu 1),some (.im (.int (n:Int))),some (.im (.int 1000000)),some (.im (.int 1000001)),some (.im (.int 0)),none,none,none,none,none,none,none,none],rfl,A9 ?_⟩⟩
    repeat sizeOf_list_dec
    rw[if_pos (by decide)]
    repeat sizeOf_list_dec
    refine tap.draw (n:=0) hT rfl (by decide) (by decide) λ r8 a b hT pr8 qr8=>?_
    repeat sizeOf_list_dec
    refine⟨λ h=>?_,λ _=>An (A9 (key _ ?_ 1000000 1000001 0 (by omega) (by omega) (by omega) (by omega) (by omega) (by omega) (by omega) a b hT))⟩
    . refine EQ (ES (A4 (Ag (A4 (Ag (A4 (Ag (AB ⟨IL,?_⟩))))))))
      refine⟨[some (.mu 1),some (.im (.int (n:Int))),some (.im (.int 8)),some (.im (.int 9)),some (.im (.int 999992)),none,none,none,none,none,none,none,none],rfl,A9 (key _ ?_ 8 9 999992 (by omega) (by omega) (by omega) (by omega) (by omega) (by omega) (by omega) a b hT)⟩
      exact λ c ws a' b' g e1 e2 e3=>⟨_,a',b',g,rfl,⟨c,ws,rfl,e1,e2⟩,e3,rfl⟩
    . exact λ c ws a' b' g e1 e2 e3=>⟨_,a',b',g,rfl,⟨c,ws,rfl,e1,e2⟩,e3,rfl⟩
end T70
namespace Fs
noncomputable def Sm(f:Nat->Int)(B:List Nat):Int:=(B.map f).sum
theorem Jk(f:Nat->Int):Sm f []=0:=rfl
theorem EJ(f:Nat->Int)(x:Nat)(B:List Nat):Sm f (x :: B)=f x + Sm f B:=by simp[Sm]
theorem Hn(f:Nat->Int)(A B:List Nat):Sm f (A ++ B)=Sm f A + Sm f B:=by simp[Sm,List.sum_append]
theorem FZ(f:Nat->Int)(p:Nat->Bool)(B:List Nat):Sm f (B.filter p) + Sm f (B.filter λ x=>!p x)=Sm f B:=by
  induction B with
  | nil=>rfl
  | cons x r ih=>
    rw[List.filter_cons,List.filter_cons,EJ]
    cases h:p x <;> simp[EJ] <;> omega
theorem Pc{f:Nat->Int}{B:List Nat}(h:∀ x ∈ B,0 <= f x):0 <= Sm f B:=by
  induction B with
  | nil=>simp[Jk]
  | cons x r ih=>
    have:=h x (by simp);have:=ih λ y hy=>h y (by simp[hy])
    rw[EJ];omega
theorem Hm{f:Nat->Int}{B:List Nat}(h:∀ x ∈ B,0 < f x)(hB:B ≠ []):0 < Sm f B:=by
  cases B with
  | nil=>exact absurd rfl hB
  | cons x r=>
    have:=h x (by simp);have:=Pc (f:=f) (B:=r) λ y hy=>Int.le_of_lt (h y (by simp[hy]))
    rw[EJ];omega
theorem rtr{a b c d e f:Int}(hd:0 < d)(hb:0 <= b)(hf:0 <= f)(h1:c * b <= a * d)(h2:e * d <= c * f):e * b <= a * f:=by
  have k1:c * b * f <= a * d * f:=Int.mul_le_mul_of_nonneg_right h1 hf
  have k2:e * d * b <= c * f * b:=Int.mul_le_mul_of_nonneg_right h2 hb
  have e1:c * b * f=c * f * b:=by rw[Int.mul_assoc,Int.mul_comm b f,<- Int.mul_assoc]
  have e2:a * d * f=a * f * d:=by rw[Int.mul_assoc,Int.mul_comm d f,<- Int.mul_assoc]
  have e3:e * d * b=e * b * d:=by rw[Int.mul_assoc,Int.mul_comm d b,<- Int.mul_assoc]
  exact Int.le_of_mul_le_mul_right (by omega:e * b * d <= a * f * d) hd
theorem VV{a b c d e f:Int}(hd:0 < d)(hb:0 < b)(hf:0 <= f)(h1:c * b <= a * d)(h2:e * d < c * f):e * b < a * f:=by
  have k1:c * b * f <= a * d * f:=Int.mul_le_mul_of_nonneg_right h1 hf
  have k2:e * d * b < c * f * b:=Int.mul_lt_mul_of_pos_right h2 hb
  have e1:c * b * f=c * f * b:=by rw[Int.mul_assoc,Int.mul_comm b f,<- Int.mul_assoc]
  have e2:a * d * f=a * f * d:=by rw[Int.mul_assoc,Int.mul_comm d f,<- Int.mul_assoc]
  have e3:e * d * b=e * b * d:=by rw[Int.mul_assoc,Int.mul_comm d b,<- Int.mul_assoc]
  exact Int.lt_of_mul_lt_mul_right (by omega:e * b * d < a * f * d) (Int.le_of_lt hd)
variable(up:Nat->Option Nat)(pos:Nat->Nat)(l w:Nat->Int)
noncomputable abbrev Ge(A B:List Nat):Prop:=Sm w B * Sm l A <= Sm w A * Sm l B
noncomputable abbrev Lt(A B:List Nat):Prop:=Sm w A * Sm l B < Sm w B * Sm l A
noncomputable def Cl(B:List Nat)(p:Nat->Bool):Prop:=∀ v ∈ B,p v=true->∀ u,up v=some u->u ∈ B->p u=true
noncomputable def Ord:List Nat->List Nat->Prop
  | _,[]=>True
  | s,v :: r=>(∃ u ∈ s,up v=some u)/\Ord (v :: s) r
structure Hold(B:List Nat):Prop where
  ex:∃ h t,B=h :: t/\Ord up [h] t/\∀ v ∈ B,pos h <= pos v
  part:∀ p,Cl up B p->(∃ v ∈ B,p v=true)->(∃ v ∈ B,p v=false)->Sm w (B.filter p) * Sm l B < Sm w B * Sm l (B.filter p)
inductive Anc:Nat->Nat->Prop
  | refl (a:Nat):Anc a a
  | step {a u v:Nat}:Anc a u->up v=some u->Anc a v
structure Line(S:List Nat)(bs:List (List Nat)):Prop where
  mem:∀ v,v ∈ bs.flatten ↔ ∃ a ∈ S,Anc up a v
  nd:bs.flatten.Nodup
  hold:∀ B ∈ bs,Hold up pos l w B
  fall:bs.Pairwise (Ge l w)
  par:∀ X B Y,bs=X ++ B :: Y->∃ h t,B=h :: t/\(h ∈ S ∨ ∃ u ∈ X.flatten,up h=some u)
structure Pre(S:List Nat)(bs:List (List Nat)):Prop where
  mem:∀ v,v ∈ bs.flatten ↔ ∃ a ∈ S,Anc up a v
  nd:bs.flatten.Nodup
  hold:∀ B ∈ bs,Hold up pos l w B
  par:∀ (i:Nat) (B:List Nat),bs[i]? = some B->∃ h t,B=h :: t/\(h ∈ S ∨ ∃ (j:Nat) (A:List Nat) (u:Nat),j < i/\bs[j]? = some A/\u ∈ A/\up h=some u/\Ge l w A B)
variable{up pos l w}
theorem Ord.mono:∀ {r s s':List Nat},(∀ x ∈ s,x ∈ s')->Ord up s r->Ord up s' r
  | [],_,_,_,_=>trivial
  | v :: r,s,s',h,⟨⟨u,hu,e⟩,o⟩=>⟨⟨u,h u hu,e⟩,o.mono λ x hx=>by rcases List.mem_cons.mp hx with rfl|hx;exact List.mem_cons_self;exact List.mem_cons_of_mem _ (h x hx)⟩
theorem Ord.app:∀ {r r' s:List Nat},Ord up s r->Ord up (r ++ s) r'->Ord up s (r ++ r')
  | [],_,_,_,h=>h
  | v :: r,r',s,⟨h,o⟩,h'=>⟨h,o.app (h'.mono λ x hx=>by
      rcases List.mem_append.mp hx with hx|hx
      . rcases List.mem_cons.mp hx with rfl|hx
        . simp
        . simp[hx]
      . simp[hx])⟩
theorem Ord.get:∀ {r s:List Nat} {i v:Nat},Ord up s r->r[i]? = some v->∃ u,up v=some u/\(u ∈ s ∨ u ∈ r.take i)
  | [],_,_,_,_,e=>by simp at e
  | x :: r,s,0,v,⟨⟨u,hu,e1⟩,_⟩,e=>by simp at e;subst e;exact⟨u,e1,.inl hu⟩
  | x :: r,s,i + 1,v,⟨_,o⟩,e=>by
    obtain⟨u,e1,h⟩:=o.get (i:=i) (v:=v) (by simpa using e)
    refine⟨u,e1,?_⟩
    rcases h with h|h
    . rcases List.mem_cons.mp h with rfl|h
      . exact .inr (by simp)
      . exact .inl h
    . exact .inr (by simp[h])
section
variable(hup:∀ v u,up v=some u->pos u < pos v)(hl:∀ v,0 < l v)
theorem Anc.trans{a b v:Nat}(h:Anc up a b)(h':Anc up b v):Anc up a v:=by
  induction h' with
  | refl=>exact h
  | step _ e ih=>exact .step ih e
include hup in
theorem Anc.ps{a v:Nat}(h:Anc up a v):pos a <= pos v:=by
  induction h with
  | refl=>exact Nat.le_refl _
  | step _ e ih=>have:=hup _ _ e;omega
theorem Anc.iff{a v:Nat}:Anc up a v ↔ v=a ∨ ∃ c,up c=some a/\Anc up c v:=by
  constructor
  . intro h
    induction h with
    | refl=>exact .inl rfl
    | step _ e ih=>
      rcases ih with rfl|⟨c,e1,h⟩
      . exact .inr ⟨_,e,.refl _⟩
      . exact .inr ⟨c,e1,.step h e⟩
  . rintro(rfl|⟨c,e,h⟩)
    . exact .refl _
    . exact Anc.trans (.step (.refl _) e) h
theorem Anc.two{a b v:Nat}(h:Anc up a v)(h':Anc up b v):Anc up a b ∨ Anc up b a:=by
  induction h with
  | refl=>exact .inr h'
  | step h1 e ih=>
    cases h' with
    | refl=>exact .inl (.step h1 e)
    | step h2 e2=>rw[e]at e2;cases e2;exact ih h2
include hup in
theorem QZ{B:List Nat}{h:Nat}{p:Nat->Bool}(c:∀ v ∈ B,v=h ∨ ∃ u ∈ B,up v=some u)(k:Cl up B p):∀ n v,pos v <= n->v ∈ B->p v=true->p h=true:=by
  intro n
  induction n with
  | zero=>
    intro v hn hv q
    rcases c v hv with rfl|⟨u,hu,e⟩
    . exact q
    . have:=hup _ _ e;omega
  | succ n ih=>
    intro v hn hv q
    rcases c v hv with rfl|⟨u,hu,e⟩
    . exact q
    . have:=hup _ _ e
      exact ih u (by omega) hu (k v hv q u e hu)
theorem VJ{B:List Nat}{p:Nat->Bool}(h:Sm w (B.filter p) * Sm l B < Sm w B * Sm l (B.filter p)):Sm w B * Sm l (B.filter λ x=>!p x) < Sm w (B.filter λ x=>!p x) * Sm l B:=by
  have e1:=FZ w p B;have e2:=FZ l p B
  have k1:=Int.mul_add (Sm w B) (Sm l (B.filter p)) (Sm l (B.filter λ x=>!p x))
  have k2:=Int.add_mul (Sm w (B.filter p)) (Sm w (B.filter λ x=>!p x)) (Sm l B)
  rw[e2]at k1;rw[e1]at k2
  omega
theorem UP{B:List Nat}{p:Nat->Bool}(h:Sm w B * Sm l (B.filter λ x=>!p x) < Sm w (B.filter λ x=>!p x) * Sm l B):Sm w (B.filter p) * Sm l B < Sm w B * Sm l (B.filter p):=by
  have e1:=FZ w p B;have e2:=FZ l p B
  have k1:=Int.mul_add (Sm w B) (Sm l (B.filter p)) (Sm l (B.filter λ x=>!p x))
  have k2:=Int.add_mul (Sm w (B.filter p)) (Sm w (B.filter λ x=>!p x)) (Sm l B)
  rw[e2]at k1;rw[e1]at k2
  omega
theorem Ps{B:List Nat}{p:Nat->Bool}(h:Hold up pos l w B)(c:Cl up B p):Sm w B * Sm l (B.filter λ x=>!p x) <= Sm w (B.filter λ x=>!p x) * Sm l B:=by
  by_cases t:∃ v ∈ B,p v=true
  . by_cases f:∃ v ∈ B,p v=false
    . exact Int.le_of_lt (VJ (h.part p c t f))
    . have:(B.filter λ x=>!p x)=[]:=List.filter_eq_nil_iff.mpr λ v hv q=>f ⟨v,hv,by simpa using q⟩
      rw[this];simp[Jk]
  . have:(B.filter λ x=>!p x)=B:=List.filter_eq_self.mpr λ v hv=>by
      cases e:p v with
      | true=>exact absurd ⟨v,hv,e⟩ t
      | false=>rfl
    rw[this];exact Int.le_refl _
theorem DJ{bs:List (List Nat)}{m:Nat}{A:List Nat}(e:bs[m]? = some A):(bs.take (m + 1)).flatten=(bs.take m).flatten ++ A:=by
  rw[List.take_succ,e];simp
include hl in
theorem jm{a:Nat}{S:List Nat}{bs:List (List Nat)}(L:Line up pos l w S bs):∀ m A,bs[m]? = some A->∀ p,Cl up (a :: (bs.take (m + 1)).flatten) p->p a=true ->
    Sm w A * Sm l ((a :: (bs.take (m + 1)).flatten).filter λ x=>!p x) <= Sm w ((a :: (bs.take (m + 1)).flatten).filter λ x=>!p x) * Sm l A:=by
  intro m
  have hA:∀ {m:Nat} {A:List Nat},bs[m]? = some A->A ∈ bs:=λ e=>List.mem_of_getElem? e
  have lp:∀ {A:List Nat},A ∈ bs->0 < Sm l A:=λ h=>Hm (λ x _=>hl x) (by obtain⟨_,_,e,_⟩:=(L.hold _ h).ex;rw[e];simp)
  induction m with
  | zero=>
    intro A e p c pa
    have:=Ps (L.hold A (hA e)) (p:=p) λ v hv q u eu hu=>c v (by rw[DJ e];simp[hv]) q u eu (by rw[DJ e];simp[hu])
    rw[DJ e]
    simpa [List.filter_cons,pa]using this
  | succ m ih=>
    intro A e p c pa
    have hm:m < bs.length:=by have:=(List.getElem?_eq_some_iff.mp e).1;omega
    have e0:bs[m]? = some bs[m]:=List.getElem?_eq_getElem hm
    have c0:Cl up (a :: (bs.take (m + 1)).flatten) p:=λ v hv q u eu hu=>c v (by rw[DJ e];rcases List.mem_cons.mp hv with rfl|hv;simp;simp only[List.mem_cons,List.mem_append];exact .inr (.inl hv)) q u eu (by rw[DJ e];rcases List.mem_cons.mp hu with rfl|hu;simp;simp only[List.mem_cons,List.mem_append];exact .inr (.inl hu))
    have h1:=ih _ e0 p c0 pa
    have h2:=Ps (L.hold A (hA e)) (p:=p) λ v hv q u eu hu=>c v (by rw[DJ e];simp[hv]) q u eu (by rw[DJ e];simp[hu])
    have hf:Ge l w bs[m] A:=by
      obtain⟨hi,rfl⟩:=List.getElem?_eq_some_iff.mp e
      exact(List.pairwise_iff_getElem.mp L.fall) m (m + 1) hm hi (by omega)
    rw[DJ e,<- List.cons_append,List.filter_append,Hn,Hn]
    have h3:=rtr (lp (hA e0)) (Pc λ x _=>Int.le_of_lt (hl x)) (Int.le_of_lt (lp (hA e))) h1 hf
    rw[Int.mul_add,Int.add_mul]
    omega
include hup hl in
theorem OR{a:Nat}{ch:List Nat}{bs:List (List Nat)}(hch:∀ b,b ∈ ch ↔ up b=some a)(L:Line up pos l w ch bs){m:Nat}(hm:m <= bs.length)(lt:∀ i B,i < m->bs[i]? = some B->Lt l w (a :: (bs.take i).flatten) B)
    (stop:∀ B,bs[m]? = some B->¬ Lt l w (a :: (bs.take m).flatten) B):Line up pos l w [a] ((a :: (bs.take m).flatten) :: bs.drop m):=by
  have fl:((a :: (bs.take m).flatten) :: bs.drop m).flatten=a :: bs.flatten:=by
    rw[List.flatten_cons,List.cons_append,<- List.flatten_append,List.take_append_drop]
  have hm1:∀ v,v ∈ a :: bs.flatten ↔ Anc up a v:=by
    intro v
    rw[List.mem_cons,L.mem,Anc.iff]
    constructor
    . rintro(h|⟨c,hc,h⟩)
      . exact .inl h
      . exact .inr ⟨c,(hch c).mp hc,h⟩
    . rintro(h|⟨c,hc,h⟩)
      . exact .inl h
      . exact .inr ⟨c,(hch c).mpr hc,h⟩
  have na:a ∉ bs.flatten:=by
    intro h
    obtain⟨c,hc,h⟩:=(L.mem a).mp h
    have:=h.ps hup;have:=hup _ _ ((hch c).mp hc);omega
  have ord:∀ m,m <= bs.length->Ord up [a] (bs.take m).flatten:=by
    intro m
    induction m with
    | zero=>intro _;simp[Ord]
    | succ m ih=>
      intro hm
      have e:bs[m]? = some bs[m]:=List.getElem?_eq_getElem hm
      rw[DJ e]
      refine(ih (by omega)).app ?_
      obtain⟨h,t,eB,ho,_⟩:=(L.hold bs[m] (List.getElem_mem hm)).ex
      obtain⟨h',t',eB',hp⟩:=L.par (bs.take m) bs[m] (bs.drop (m + 1)) (by rw[<- List.drop_eq_getElem_cons hm,List.take_append_drop])
      rw[eB]at eB'
      obtain⟨rfl,rfl⟩:=List.cons.inj eB'
      rw[eB]
      refine⟨?_,ho.mono (by intro x hx;simp at hx;subst hx;simp)⟩
      rcases hp with hp|⟨u,hu,e⟩
      . exact⟨a,by simp,(hch h).mp hp⟩
      . exact⟨u,List.mem_append_left _ hu,e⟩
  have sub:∀ v ∈ a :: (bs.take m).flatten,v ∈ a :: bs.flatten:=λ v hv=>by
    rcases List.mem_cons.mp hv with rfl|hv
    . simp
    . obtain⟨B,h1,h2⟩:=List.mem_flatten.mp hv
      exact List.mem_cons_of_mem _ (List.mem_flatten.mpr ⟨B,List.mem_of_mem_take h1,h2⟩)
  have lp:∀ {A:List Nat},A ∈ bs->0 < Sm l A:=λ h=>Hm (λ x _=>hl x) (by obtain⟨_,_,e,_⟩:=(L.hold _ h).ex;rw[e];simp)
  have lc:0 < Sm l (a :: (bs.take m).flatten):=Hm (λ x _=>hl x) (by simp)
  constructor
  . intro v;rw[fl,hm1];simp
  . rw[fl];exact List.nodup_cons.mpr ⟨na,L.nd⟩
  . intro B hB
    refine(List.mem_cons.mp hB).elim (λ eB=>?_) λ hB=>L.hold B (List.mem_of_mem_drop hB)
    subst eB
    refine⟨⟨a,_,rfl,ord m hm,λ v hv=>((hm1 v).mp (sub v hv)).ps hup⟩,λ p c t f=>?_⟩
    have chain:∀ v ∈ a :: (bs.take m).flatten,v=a ∨ ∃ u ∈ a :: (bs.take m).flatten,up v=some u:=by
      intro v hv
      rcases List.mem_cons.mp hv with rfl|hv
      . exact .inl rfl
      . obtain⟨i,hi,e⟩:=List.mem_iff_getElem.mp hv
        obtain⟨u,e1,h⟩:=(ord m hm).get (i:=i) (v:=v) (by rw[List.getElem?_eq_getElem hi,e])
        refine .inr ⟨u,?_,e1⟩
        rcases h with h|h
        . simp at h;subst h;simp
        . exact List.mem_cons_of_mem _ (List.mem_of_mem_take h)
    obtain⟨v,hv,pv⟩:=t
    have pa:p a=true:=QZ hup chain c (pos v) v (Nat.le_refl _) hv pv
    cases m with
    | zero=>
      obtain⟨v,hv,q⟩:=f
      simp at hv;subst hv
      rw[pa]at q;cases q
    | succ m=>
      have e:bs[m]? = some bs[m]:=List.getElem?_eq_getElem hm
      have hB:bs[m] ∈ bs:=List.getElem_mem hm
      have j:=jm hl L m _ e p c pa
      have k:=lt m _ (by omega) e
      have k2:Sm w (a :: (bs.take (m + 1)).flatten) * Sm l bs[m] < Sm w bs[m] * Sm l (a :: (bs.take (m + 1)).flatten):=by
        rw[DJ e,<- List.cons_append,Hn,Hn,Int.add_mul,Int.mul_add]
        unfold Lt at k
        omega
      refine UP (VV (lp hB) (Hm (λ x _=>hl x) ?_) (Int.le_of_lt lc) j k2)
      obtain⟨v,hv,q⟩:=f
      intro z
      have:v ∈ ((a :: (bs.take (m + 1)).flatten).filter λ x=>!p x):=List.mem_filter.mpr ⟨hv,by simp[q]⟩
      rw[z]at this;cases this
  . refine List.pairwise_cons.mpr ⟨λ B hB=>?_,L.fall.sublist (List.drop_sublist _ _)⟩
    have hlt:m < bs.length:=by
      rcases Nat.lt_or_ge m bs.length with h|h
      . exact h
      . rw[List.drop_eq_nil_of_le h]at hB;cases hB
    have e:bs[m]? = some bs[m]:=List.getElem?_eq_getElem hlt
    have s:=stop _ e
    have g0:Ge l w (a :: (bs.take m).flatten) bs[m]:=by unfold Lt at s;unfold Ge;omega
    rw[List.drop_eq_getElem_cons hlt]at hB
    rcases List.mem_cons.mp hB with rfl|hB
    . exact g0
    . obtain⟨i,hi,e2⟩:=List.mem_iff_getElem.mp hB
      have hi':m + 1 + i < bs.length:=by simp at hi;omega
      have e3:B=bs[m + 1 + i]:=by rw[<- e2];simp
      subst e3
      have g1:=(List.pairwise_iff_getElem.mp L.fall) m (m + 1 + i) hlt hi' (by omega)
      exact rtr (lp (List.getElem_mem hlt)) (Int.le_of_lt lc) (Int.le_of_lt (lp (List.getElem_mem hi'))) g0 g1
  . intro X B Y eq
    cases X with
    | nil=>simp at eq;rw[<- eq.1];exact⟨a,_,rfl,.inl (by simp)⟩
    | cons C X=>
      simp only[List.cons_append,List.cons.injEq]at eq
      obtain⟨rfl,eq⟩:=eq
      obtain⟨h,t,eB,hp⟩:=L.par (bs.take m ++ X) B Y (by rw[List.append_assoc,<- eq,List.take_append_drop])
      refine⟨h,t,eB,.inr ?_⟩
      rcases hp with hp|⟨u,hu,e⟩
      . exact⟨a,by simp,(hch h).mp hp⟩
      . refine⟨u,?_,e⟩
        rw[List.flatten_append]at hu
        rw[List.flatten_cons,List.cons_append]
        exact List.mem_cons_of_mem _ hu
theorem RO:Pre up pos l w [] []:=⟨by simp,by simp,by simp,by simp⟩
theorem RP{S:List Nat}{bs g:List (List Nat)}{a:Nat}(P:Pre up pos l w S bs)(L:Line up pos l w [a] g)(sib:∀ b ∈ S,∀ v,Anc up a v->Anc up b v->False):Pre up pos l w (S ++ [a]) (bs ++ g):=by
  constructor
  . intro v
    rw[List.flatten_append,List.mem_append,P.mem,L.mem]
    constructor
    . rintro(⟨b,hb,h⟩|⟨b,hb,h⟩)
      . exact⟨b,by simp[hb],h⟩
      . exact⟨b,List.mem_append_right _ hb,h⟩
    . rintro⟨b,hb,h⟩
      rcases List.mem_append.mp hb with hb|hb
      . exact .inl ⟨b,hb,h⟩
      . exact .inr ⟨b,hb,h⟩
  . rw[List.flatten_append]
    refine List.nodup_append.mpr ⟨P.nd,L.nd,λ x hx y hy e=>?_⟩
    subst e
    obtain⟨b,hb,h⟩:=(P.mem x).mp hx
    obtain⟨c,hc,h'⟩:=(L.mem x).mp hy
    simp at hc;subst hc
    exact sib b hb x h' h
  . intro B hB
    rcases List.mem_append.mp hB with h|h
    . exact P.hold B h
    . exact L.hold B h
  . intro i B e
    rcases Nat.lt_or_ge i bs.length with hi|hi
    . rw[List.getElem?_append_left hi]at e
      obtain⟨h,t,eB,hp⟩:=P.par i B e
      refine⟨h,t,eB,?_⟩
      rcases hp with hp|⟨j,A,u,hj,eA,hu,e1,ge⟩
      . exact .inl (by simp[hp])
      . exact .inr ⟨j,A,u,hj,by rw[List.getElem?_append_left (by omega)];exact eA,hu,e1,ge⟩
    . rw[List.getElem?_append_right hi]at e
      obtain⟨hg,eg⟩:=List.getElem?_eq_some_iff.mp e
      obtain⟨h,t,eB,hp⟩:=L.par (g.take (i - bs.length)) B (g.drop (i - bs.length + 1)) (by rw[<- eg,<- List.drop_eq_getElem_cons hg,List.take_append_drop])
      refine⟨h,t,eB,?_⟩
      rcases hp with hp|⟨u,hu,e1⟩
      . exact .inl (List.mem_append_right _ hp)
      . obtain⟨A,hA,hu⟩:=List.mem_flatten.mp hu
        obtain⟨j,hj,eA⟩:=List.mem_iff_getElem.mp hA
        have hj':j < i - bs.length/\j < g.length:=by simp at hj;omega
        have eA':g[j]=A:=by rw[<- eA];simp
        refine .inr ⟨bs.length + j,A,u,by omega,?_,hu,e1,?_⟩
        . rw[List.getElem?_append_right (by omega),Nat.add_sub_cancel_left,List.getElem?_eq_getElem hj'.2,eA']
        . rw[<- eA',<- eg]
          exact(List.pairwise_iff_getElem.mp L.fall) j (i - bs.length) hj'.2 hg hj'.1
theorem Mr{S:List Nat}{bs:List (List Nat)}{row:List Nat}(P:Pre up pos l w S bs)(pm:row.Perm (List.range bs.length))(pw:row.Pairwise λ x y=>Ge l w (bs.getD x []) (bs.getD y [])/\(Ge l w (bs.getD y []) (bs.getD x [])->x < y)):Line up pos l w S (row.map λ x=>bs.getD x []):=by
  have e0:(List.range bs.length).map (λ x=>bs.getD x [])=bs:=by
    refine List.ext_getElem (by simp) λ i h1 h2=>?_
    simp[h2]
  have pm1:(row.map λ x=>bs.getD x []).Perm bs:=by
    have:=pm.map λ x=>bs.getD x []
    rwa [e0]at this
  have pf:=pm1.flatten
  constructor
  . intro v;rw[pf.mem_iff];exact P.mem v
  . exact pf.nodup_iff.mpr P.nd
  . intro B hB;exact P.hold B (pm1.mem_iff.mp hB)
  . rw[List.pairwise_map];exact pw.imp λ h=>h.1
  . intro X B Y eq
    obtain⟨X0,Z,er,eX,eZ⟩:=List.map_eq_append_iff.mp eq
    obtain⟨y,Y0,rfl,eB,eY⟩:=List.map_eq_cons_iff.mp eZ
    have hy:y < bs.length:=by
                                  have:y ∈ row:=by rw[er];simp
                                  simpa using pm.mem_iff.mp this
    have ey:bs[y]? = some B:=by rw[List.getElem?_eq_getElem hy,<- eB];simp[hy]
    obtain⟨h,t,e,hp⟩:=P.par y B ey
    refine⟨h,t,e,?_⟩
    rcases hp with hp|⟨j,A,u,hj,eA,hu,e1,ge⟩
    . exact .inl hp
    . refine .inr ⟨u,?_,e1⟩
      have ejA:bs.getD j []=A:=by simp[List.getD,eA]
      have hjr:j ∈ row:=pm.mem_iff.mpr (by simp;omega)
      rw[er]at hjr pw
      have hjX:j ∈ X0:=by
        rcases List.mem_append.mp hjr with h1|h1
        . exact h1
        . rcases List.mem_cons.mp h1 with h1|h1
          . omega
          . have:=((List.pairwise_cons.mp (List.pairwise_append.mp pw).2.1).1 j h1).2
            rw[ejA,eB]at this
            have:=this ge
            omega
      rw[<- eX]
      exact List.mem_flatten.mpr ⟨A,List.mem_map.mpr ⟨j,hjX,ejA⟩,hu⟩
end
end Fs
namespace T70
open PySem L2 Bd Bt Fs
noncomputable def lf(ws:List (Int × Int))(k:Nat):Int:=((ws[k]?).map (·.1)).getD 1
noncomputable def wf(ws:List (Int × Int))(k:Nat):Int:=((ws[k]?).map (·.2)).getD 0
theorem G5{c:Int}{ws:List (Int × Int)}{k:Nat}(hk:k < ws.length):atI (((ws.map (wk c)).map DI).map D.im) (k:Int)=some (wkD c (lf ws k,wf ws k)):=DW rfl (by simp[hk,lf,wf])
theorem NV{c:Int}{ws:List (Int × Int)}(W:WOk c ws){k:Nat}(hk:k < ws.length):1 <= lf ws k/\lf ws k <= 1000000/\0 <= wf ws k/\wf ws k <= 1000000:=by
  have:=W.each ws[k] (List.getElem_mem hk)
  simp[lf,wf,hk];omega
theorem VY{c:Int}{ws:List (Int × Int)}(W:WOk c ws)(k:Nat):0 < lf ws k:=by
  rcases Nat.lt_or_ge k ws.length with h|h
  . have:=(NV W h).1;omega
  . simp[lf,h]
structure Bl(n:Nat)(B:List Nat):Prop where
  ne:B ≠ []
  le:B.length <= 8
  lt:∀ k ∈ B,k < n
theorem OJ{c:Int}{ws:List (Int × Int)}(W:WOk c ws):∀ (B:List Nat),(∀ k ∈ B,k < ws.length)->(B.length:Int) <= Sm (lf ws) B/\Sm (lf ws) B <= 1000000 * B.length/\0 <= Sm (wf ws) B/\Sm (wf ws) B <= 1000000 * B.length
  | [],_=>by simp[Jk]
  | x :: r,h=>by
    have ih:=OJ W r λ k hk=>h k (by simp[hk])
    have:=NV W (h x (by simp))
    rw[EJ,EJ]
    simp only[List.length_cons]
    omega
theorem HZ{c:Int}{ws:List (Int × Int)}(W:WOk c ws){B:List Nat}(b:Bl ws.length B):1 <= Sm (lf ws) B/\Sm (lf ws) B <= 8000000/\0 <= Sm (wf ws) B/\Sm (wf ws) B <= 8000000:=by
  have:=OJ W B b.lt
  have:=b.le
  have:1 <= B.length:=List.length_pos_iff.mpr b.ne
  omega
local macro_rules | `(tactic| sizeOf_list_dec) => `(tactic| first | (with_reducible refine A9 ?_; try dsimp only [List.set_cons_zero, List.set_cons_succ, List.map_cons, List.map_nil, List.cons_append, List.nil_append, List.replicate, Nat.reduceSub, Int.reduceToNat]) | with_reducible refine JZ ?_ | with_reducible refine AH ?_ | with_reducible refine Aw ?_ | with_reducible refine BE ?_ | with_reducible refine Cz ?_ | with_reducible refine An ?_ | with_reducible refine Bz ?_ | with_reducible refine JS ?_ | with_reducible refine IP ?_ | with_reducible refine CF ?_ | with_reducible refine A3 (d := _) rfl ?_ | with_reducible refine Ag ?_ | with_reducible refine AE ?_ | with_reducible refine ES ?_ | with_reducible refine Aq ?_ | with_reducible refine Dn ?_ | with_reducible refine Mi ?_ | with_reducible refine C7 ?_ | with_reducible refine Hf ?_ | with_reducible refine CS ?_ | with_reducible refine Km ?_ | with_reducible refine B5 ?_ | with_reducible refine Fy ?_ | with_reducible refine Fz ?_ | with_reducible refine LW ?_ | with_reducible refine BZ ?_ | with_reducible refine AB ?_ | with_reducible refine A4 ?_ | with_reducible refine CG ?_ | with_reducible refine B6 ?_ | with_reducible refine Gz ?_ | with_reducible refine JG ?_ | with_reducible refine Ey ?_ | with_reducible refine SG ?_ | with_reducible refine Dz ?_ | with_reducible refine G4 ?_ | with_reducible refine He ?_ | with_reducible refine Ek ?_ | with_reducible refine PV ?_ | with_reducible refine PX ?_ | with_reducible refine LX ?_ | with_reducible refine ER ?_ | with_reducible refine Md ?_ | with_reducible refine Mf ?_ | with_reducible refine JT ?_ | with_reducible refine Kk ?_ | with_reducible refine Kj ?_ | with_reducible refine ⟨_, rfl, ?_⟩ | refine AV rfl (Eg _ _) ?_ | refine AV rfl (FD _ _ _) ?_ | refine AV rfl (Ha _ _ _ _) ?_ | refine ⟨_, _, _, _, rfl, rfl, rfl, rfl, ?_⟩ | refine ⟨⟨_, rfl⟩, ?_⟩ | refine ⟨IM, ?_⟩ | refine ⟨IL, ?_⟩ | refine ⟨Nd, ?_⟩ | refine ⟨Nc, ?_⟩ | refine ⟨Dw, ?_⟩ | refine ⟨Ef, ?_⟩ | with_reducible refine we_nilEN ?_)
theorem VA{a b:Nat}(hb:0 < b):WF Bu [.im (.int (a:Int)),.im (.int (b:Int))] [] λ d x=>d=.im (.int (Nat.gcd a b:Nat)):=by
  unfold Bu
  refine BJ rfl ?_
  repeat sizeOf_list_dec
  refine WP.eq (z:=.im (.int (a:Int))) (h:=[]) (by simp[KP];omega) ?_
  refine A9 ?_
  change WS _ [some (.im (.int (a:Int))),some (.im (.int (b:Int)))] _ _
  refine AH (JQ (λ m ls hd=>∃ x y:Nat,m=y/\Nat.gcd x y=Nat.gcd a b/\ls=[some (.im (.int (x:Int))),some (.im (.int (y:Int)))]/\hd=[]) (n:=b) ⟨a,b,rfl,rfl,rfl,rfl⟩ ?_)
  rintro m ls hd ⟨x,y,rfl,hg,rfl,rfl⟩
  repeat sizeOf_list_dec
  by_cases hy:m=0
  . subst hy
    rw[if_neg (by simp)]
    repeat sizeOf_list_dec
    show D.im (.int (x:Int))=_
    rw[<- hg,Nat.gcd_zero_right]
  . rw[if_pos (by simp;omega)]
    repeat sizeOf_list_dec
    refine SC (show C3 (m:Int) by unfold C3;omega) ?_
    repeat sizeOf_list_dec
    refine⟨rfl,?_⟩
    exact⟨x % m,Nat.mod_lt _ (by omega),m,x % m,rfl,by rw[<- hg,Nat.gcd_comm x m,Nat.gcd_rec m x,Nat.gcd_comm],by simp,rfl⟩
theorem MR{a b:Nat}(hb:0 < b)(hB:b <= 100000000):WF Db [.im (.int (a:Int)),.im (.int (b:Int))] [] λ d x=>∃ s p q:Nat,0 < s/\a=p * s/\b=q * s/\d=.im (.tup [.int (p:Int),.int (q:Int)]):=by
  have hs:0 < Nat.gcd a b:=Nat.gcd_pos_of_pos_right _ hb
  have hs2:Nat.gcd a b <= b:=Nat.gcd_le_right _ hb
  obtain⟨p,hp⟩:=Nat.gcd_dvd_left a b
  obtain⟨q,hq⟩:=Nat.gcd_dvd_right a b
  unfold Db
  refine BJ rfl ?_
  repeat sizeOf_list_dec
  refine⟨(λ h=>by simp at h;omega),λ _=>An (A9 ?_)⟩
  refine AH (Aw (Az ?_))
  repeat sizeOf_list_dec
  refine⟨by simp,(VA hb).mono ?_⟩
  rintro d x rfl
  refine⟨_,rfl,?_⟩
  have dv:Gn ((Nat.gcd a b:Nat):Int):=⟨by omega,by omega⟩
  repeat sizeOf_list_dec
  refine Kl dv ?_
  repeat sizeOf_list_dec
  refine Kl dv ?_
  repeat sizeOf_list_dec
  refine⟨Nat.gcd a b,p,q,hs,by rw[Nat.mul_comm];exact hp,by rw[Nat.mul_comm];exact hq,?_⟩
  have e1:(a:Int) / ((Nat.gcd a b:Nat):Int)=(p:Int):=by
    have:a / Nat.gcd a b=p:=Nat.div_eq_of_eq_mul_right hs hp
    rw[<- this];rfl
  have e2:(b:Int) / ((Nat.gcd a b:Nat):Int)=(q:Int):=by
    have:b / Nat.gcd a b=q:=Nat.div_eq_of_eq_mul_right hs hq
    rw[<- this];rfl
  rw[e1,e2]
  rfl
structure Rat'(w l:Int)(r:Int × Int):Prop where
  ex:∃ s p q:Nat,0 < s/\w=((p * s:Nat):Int)/\l=((q * s:Nat):Int)/\r=((p:Int),(q:Int))
theorem Jw{w l w' l':Int}{r r':Int × Int}(h:Rat' w l r)(h':Rat' w' l' r'):(r.1 * r'.2 < r'.1 * r.2) ↔ w * l' < w' * l:=by
  obtain⟨s,p,q,hs,rfl,rfl,rfl⟩:=h.ex
  obtain⟨s',p',q',hs',rfl,rfl,rfl⟩:=h'.ex
  dsimp only
  have e1:((p * s:Nat):Int) * ((q' * s':Nat):Int)=(p * q':Int) * ((s * s':Nat):Int):=by
    push_cast;rw[Int.mul_assoc,Int.mul_assoc,Int.mul_left_comm (s:Int)]
  have e2:((p' * s':Nat):Int) * ((q * s:Nat):Int)=(p' * q:Int) * ((s * s':Nat):Int):=by
    push_cast;rw[Int.mul_assoc,Int.mul_assoc,Int.mul_left_comm (s':Int),Int.mul_comm (s':Int) (s:Int)]
  rw[e1,e2]
  have hp:(0:Int) < ((s * s':Nat):Int):=by have:=Nat.mul_pos hs hs';omega
  constructor
  . intro h;exact Int.mul_lt_mul_of_pos_right h hp
  . intro h;exact Int.lt_of_mul_lt_mul_right h (Int.le_of_lt hp)
noncomputable abbrev CZ(r:Int × Int):D:=B9 r
theorem NW{r r':Int × Int}(b1:∀ j,CQ r.1 j)(b2:∀ j,CQ r'.1 j):WF DZ [CZ r,CZ r'] [] λ d x=>d=.im (.bl (decide (r.1 * r'.2 < r'.1 * r.2))):=by
  unfold DZ
  refine BJ rfl ?_
  refine BE (AE (AE (AE (A3 rfl (Ag (AV rfl (Eg _ _) ?_))))))
  refine AE (A3 rfl (Ag (AV rfl (FD _ _ _) (Cm (b1 _) ?_))))
  refine AE (AE (A3 rfl (Ag (AV rfl (Eg _ _) ?_))))
  refine AE (A3 rfl (Ag (AV rfl (FD _ _ _) (Cm (b2 _) (Ek ?_)))))
  rfl
theorem pre{p:Nat->Prop}[DecidablePred p]:∀ {row:List Nat},row.Pairwise (λ x y=>p y->p x)->(∀ x ∈ row.take (row.filter λ x=>decide (p x)).length,p x)/\∀ x ∈ row.drop (row.filter λ x=>decide (p x)).length,¬ p x
  | [],_=>by simp
  | x :: r,h=>by
    rw[List.pairwise_cons]at h
    by_cases hx:p x
    . have ih:=pre h.2
      rw[List.filter_cons,if_pos (by simpa using hx)]
      simp only[List.length_cons,List.take_succ_cons,List.drop_succ_cons]
      refine⟨λ y hy=>?_,ih.2⟩
      rcases List.mem_cons.mp hy with rfl|hy
      . exact hx
      . exact ih.1 y hy
    . have hn:∀ y ∈ r,¬ p y:=λ y hy q=>hx (h.1 y hy q)
      have:((x :: r).filter λ x=>decide (p x))=[]:=by
        refine List.filter_eq_nil_iff.mpr λ y hy=>?_
        rcases List.mem_cons.mp hy with rfl|hy
        . simpa using hx
        . simpa using hn y hy
      rw[this]
      refine⟨by simp,λ y hy=>?_⟩
      have hy:y ∈ x :: r:=by simpa using hy
      rcases List.mem_cons.mp hy with rfl|hy
      . exact hx
      . exact hn y hy
structure Rs(n:Nat)(fl fw:Nat->Int):Prop where
  n8:n <= 8
  b:∀ k,k < n->1 <= fl k/\fl k <= 8000000/\0 <= fw k/\fw k <= 8000000
section
variable{n:Nat}{fl fw:Nat->Int}
noncomputable abbrev le(fl fw:Nat->Int)(x y:Nat):Prop:=fw y * fl x <= fw x * fl y
noncomputable abbrev lE(fl fw:Nat->Int)(x y:Nat):Prop:=le fl fw x y/\(le fl fw y x->x < y)
theorem U5(W:Rs n fl fw){row:List Nat}{k:Nat}(hk:k < n)(pm:row.Perm (List.range k))(pw:row.Pairwise (lE fl fw)) :
    (row.take (row.filter λ x=>decide (le fl fw x k)).length ++ k :: row.drop (row.filter λ x=>decide (le fl fw x k)).length).Perm (List.range (k + 1))/\(row.take (row.filter λ x=>decide (le fl fw x k)).length ++ k :: row.drop (row.filter λ x=>decide (le fl fw x k)).length).Pairwise (lE fl fw):=by
  have hin:∀ x ∈ row,x < k:=λ x hx=>by simpa using pm.mem_iff.mp hx
  have P:=pre (p:=λ x=>le fl fw x k) (row:=row) (List.Pairwise.imp_of_mem (λ {x y} hx hy h q=>by
    have b1:=W.b x (by have:=hin x hx;omega);have b2:=W.b y (by have:=hin y hy;omega);have b3:=W.b k hk
    exact rtr (by omega) (by omega) (by omega) h.1 q) pw)
  generalize (row.filter λ x=>decide (le fl fw x k)).length=p at *
  constructor
  . have h1:(row.take p ++ k :: row.drop p).Perm (k :: row):=by
      have:=List.perm_middle (a:=k) (l₁:=row.take p) (l₂:=row.drop p)
      rwa [List.take_append_drop]at this
    refine h1.trans ?_
    rw[List.range_succ]
    exact((List.Perm.cons k pm).trans (List.perm_append_singleton k _).symm)
  . have hs:(row.take p ++ row.drop p).Pairwise (lE fl fw):=by rw[List.take_append_drop];exact pw
    rw[List.pairwise_append]at hs ⊢
    refine⟨hs.1,List.pairwise_cons.mpr ⟨λ y hy=>?_,hs.2.1⟩,λ x hx y hy=>?_⟩
    . have:=P.2 y hy
      refine⟨?_,λ q=>absurd q this⟩
      unfold le at this ⊢
      omega
    . rcases List.mem_cons.mp hy with rfl|hy
      . exact⟨P.1 x hx,λ _=>hin x (List.mem_of_mem_take hx)⟩
      . exact hs.2.2 x hx y hy
theorem VE(p:Nat->Prop)[DecidablePred p](L:List Nat):(L.filterMap λ a=>if p a then some (D.im (.int (a:Int)))else none).length=(L.filter λ a=>decide (p a)).length:=by
  induction L with
  | nil=>rfl
  | cons x r ih=>
    rw[List.filterMap_cons,List.filter_cons]
    by_cases h:p x
    . simp[h,ih]
    . simp[h,ih]
theorem sv{hd:Hd}{m:Nat}{ds:List D}(e:hd[m]? = some (.lst ds)):Ar hd (.mu m)=some ds:=by simp[Ar,Ad,Av,e]
theorem hl{hd g:Hd}{m:Nat}{o:MO}(e:hd[m]? = some o):(hd ++ g)[m]? = some o:=by rw[List.getElem?_append_left (List.getElem?_eq_some_iff.mp e).1];exact e
theorem hn{hd g:Hd}{o:MO}:(hd ++ o :: g)[hd.length]? = some o:=by simp
inductive IF(rs:List (Int × Int))(E:List D)(m:Nat)(hd0:Hd)(fl fw:Nat->Int):List D->Ls->Hd->Prop
  | mk (row:List Nat) (j:Nat) (z2 z3:Option D) (hj:j <= E.length) (pm:row.Perm (List.range j)) (pw:row.Pairwise (lE fl fw)):IF rs E m hd0 fl fw (E.drop j) [some (.mu m),some (.mu hd0.length),z2,z3] (hd0 ++ [.lst (AG row)])
theorem Nf(W:Rs n fl fw){rs:List (Int × Int)}(hr:rs.length=n)(R:∀ k,(hk:k < rs.length)->Rat' (fw k) (fl k) rs[k]){hd:Hd}{m:Nat}(em:hd[m]? = some (.lst (rs.map CZ))) :
    WF Ce [.mu m] hd λ d x=>∃ row:List Nat,d=.mu hd.length/\x=hd ++ [.lst (AG row)]/\row.Perm (List.range n)/\row.Pairwise (lE fl fw):=by
  have n8:=W.n8
  have rb:∀ k (hk:k < rs.length) j,CQ rs[k].1 j:=λ k hk j=>by
    obtain⟨s,p,q,hs,e1,e2,e3⟩:=(R k hk).ex
    have b:=W.b k (by omega)
    have h2:p <= p * s:=Nat.le_mul_of_pos_right _ hs
    rw[e3]
    exact Bm (by dsimp only;omega) (by dsimp only;omega)
  unfold Ce
  refine BJ rfl ?_
  refine AH (Aw (Aq (CG (AB ⟨Dw,A9 ?_⟩))))
  refine AH (CF (Q5 (Dz (A3 rfl ⟨m,_,rfl,hl em,?_⟩))))
  dsimp only
  generalize hE:((rs.map CZ).zipIdx.map λ q=>B4 [.im (.int (q.2:Int)),q.1])=E
  have El:E.length=rs.length:=by rw[<- hE];simp
  have Ea:∀ j (hj:j < E.length),E[j]=.im (.tup [.int (j:Int),.tup [.int rs[j].1,.int rs[j].2]]):=by
    intro j hj
    subst hE
    simp[CZ,B9,B4,BL]
  have gk:∀ row:List Nat,GOk (hd ++ [.lst (AG row)]) [(m,rs.map CZ)]:=λ row p hp=>by simp at hp;subst hp;exact hl em
  refine C8 (IF rs E m hd fl fw) (.mk [] 0 none none (by omega) (by simp) (by simp)) ?_ ?_
  . intro d r ls hd' hI
    generalize er:d :: r=er' at hI
    cases hI with
    | mk row j z2 z3 hj pm pw=>
    have hj':j < E.length:=by
      rcases Nat.lt_or_ge j E.length with h|h
      . exact h
      . rw[List.drop_eq_nil_of_le h]at er;cases er
    rw[List.drop_eq_getElem_cons hj',Ea j hj']at er
    obtain⟨rfl,rfl⟩:=List.cons.inj er
    have hjr:j < rs.length:=by omega
    have rl:row.length=j:=by simpa using pm.length_eq
    have hin:∀ x ∈ row,x < j:=λ x hx=>by simpa using pm.mem_iff.mp hx
    refine⟨[some (.mu m),some (.mu hd.length),some (.im (.int (j:Int))),some (CZ rs[j])],rfl,?_⟩
    refine Cz (Hf (A3 rfl ⟨⟨AG row,by simp[Av]⟩,A4 (Dn (B6 (Dz (A3 rfl ⟨hd.length,_,rfl,hn,?_⟩))))⟩))
    refine⟨AZ (by simp;omega),?_⟩
    refine C0 (λ k:Nat=>D.im (.int (k:Int))) (λ x=>if le fl fw x j then some (.im (.int (x:Int)))else none) (λ _ ls=>∃ x,ls=[some x,some (.mu m),some (CZ rs[j])]) _ (by intro p hp;simp at hp;subst hp;exact hn) ?_ ?_
    . rintro x hx ls hls
      have hxr:x < rs.length:=by have:=hin x hx;omega
      refine⟨[some (.im (.int (x:Int))),some (.mu m),some (CZ rs[j])],by rcases hls with rfl|⟨_,x,rfl⟩ <;> rfl,⟨_,rfl⟩,?_⟩
      refine Fy (Dm (Az (A4 (AE (A3 rfl (A3 rfl (AV (ds:=rs.map CZ) (e:=CZ rs[x]) (sv (hl em)) (DW rfl (by simp[hxr])) ?_)))))))
      refine A4 (A3 rfl (AB ⟨by simp[CZ,B9],(NW (rb x hxr) (rb j hjr)).mono ?_⟩))
      rintro d y rfl
      refine⟨_,rfl,_,rfl,rfl,?_⟩
      have q:=Jw (R x hxr) (R j hjr)
      have q2:¬ (fw x * fl j < fw j * fl x) ↔ le fl fw x j:=by unfold le;omega
      by_cases h:le fl fw x j
      . rw[if_pos (by simp;have:=q2.mpr h;have:=mt q.mp this;omega)]
        exact⟨_,if_pos h,A3 rfl ⟨rfl,rfl⟩⟩
      . rw[if_neg (by simp;have:=mt q2.mp h;have:=q.mpr (by omega);omega)]
        exact if_neg h
    refine⟨_,rfl,?_⟩
    rw[VE]
    refine A4 (A3 rfl (AB ?_))
    have ff:=List.length_filter_le (λ x=>decide (le fl fw x j)) row
    refine Me (ds:=AG row) hn (by omega) (by simp;omega) (Fm (by simp;omega)) ?_
    obtain⟨a1,a2⟩:=U5 W (by omega) pm pw
    refine⟨?_,?_⟩
    . intro p hp;simp at hp;subst hp
      rw[List.set_append_right _ _ (Nat.le_refl _)]
      exact hl em
    . have e2:(hd ++ [MO.lst (AG row)]).set hd.length (.lst ((AG row).take (((row.filter λ a=>decide (le fl fw a j)).length:Int)).toNat ++ D.im (.int (j:Int)) :: (AG row).drop (((row.filter λ a=>decide (le fl fw a j)).length:Int)).toNat))=hd ++ [.lst (AG (row.take (row.filter λ x=>decide (le fl fw x j)).length ++ j :: row.drop (row.filter λ x=>decide (le fl fw x j)).length))]:=by
        simp[AG]
      rw[e2]
      exact .mk _ (j + 1) _ _ (by omega) a1 a2
  . intro ls hd' hI
    generalize er:([]:List D)=er' at hI
    cases hI with
    | mk row j z2 z3 hj pm pw=>
    have hj':j=n:=by
      rcases Nat.lt_or_ge j E.length with h|h
      . rw[List.drop_eq_getElem_cons h]at er;cases er
      . omega
    subst hj'
    refine A9 (BE (A3 rfl ?_))
    exact⟨row,rfl,rfl,pm,pw⟩
end
theorem Mg(c:Int)(ws:List (Int × Int)):((ws.map (wk c)).map DI).map D.im=ws.map (wkD c):=by simp
theorem PL{c:Int}{ws:List (Int × Int)}(W:WOk c ws):WF Cd [.im (Ae c ws)] [] λ d x=>d=.im (.int c):=by
  have n1:=W.n1;have n8:=W.n8
  unfold Cd
  refine BJ rfl ?_
  refine AH (Aw (Az (A4 (A3 rfl (AB ⟨by simp,?_⟩)))))
  have S:WF CK [.im (Ae c ws)] [] λ d x=>d=.im (.int c):=by
    unfold CK
    refine BJ rfl ?_
    refine AH (Aw (AE (AE (A3 rfl (Ag (AV rfl (G5 (k:=0) (by omega)) ?_))))))
    refine Ag (AV rfl (FD _ _ _) (A9 ?_))
    refine AH (Bz (Dm (Dn (B6 (Ey (A3 rfl ⟨_,rfl,?_⟩))))))
    rw[Mg]
    refine⟨AZ (by simp;omega),?_⟩
    refine C0 (wkD c) (λ _=>some (.im (.bl true))) (λ _ ls=>∃ x,ls=[some x,some (.im (.int c))]) _ (As _) ?_ ?_
    . rintro p hp ls hls
      refine⟨[some (wkD c p),some (.im (.int c))],by rcases hls with rfl|⟨_,x,rfl⟩ <;> rfl,⟨_,rfl⟩,BZ ⟨rfl,?_⟩⟩
      rw[if_pos rfl]
      refine⟨_,rfl,AE (AE (A3 rfl (Ag (AV rfl (FD _ _ _) (A3 rfl (ER ⟨rfl,?_⟩))))))⟩
      simp
    have e:(ws.filterMap λ _=>some (D.im (.bl true)))=blD (ws.map λ _=>true):=by simp[blD]
    rw[e]
    refine⟨_,by rw[P5,Ka];rfl,_,rfl,?_⟩
    refine⟨λ _=>?_,(λ h=>by simp at h)⟩
    exact BE (A3 rfl rfl)
  refine S.mono ?_
  rintro d x rfl
  refine⟨_,rfl,A9 ?_⟩
  refine AH (Bz (B5 ?_))
  refine WP.eq (z:=.im (.bl false)) (h:=[]) (by simp[Ez]) ⟨_,rfl,(λ h=>by cases h),λ _=>An (A9 ?_)⟩
  exact BE (A3 rfl rfl)
theorem OX{c:Int}{ws:List (Int × Int)}(W:WOk c ws):WF BG [.im (Ae c ws),.im (.str "ends")] [] λ d x=>d=.im .non:=by
  have n8:=W.n8
  unfold BG
  refine BJ rfl ?_
  refine Bz (Dm (Dn (B6 (Ey (A3 rfl ⟨_,rfl,?_⟩)))))
  rw[Mg]
  refine⟨AZ (by simp;omega),?_⟩
  refine C0 (wkD c) (λ _=>some (.im (.bl false))) (λ _ ls=>∃ x,ls=[some x,some (.im (.str "ends"))]) _ (As _) ?_ ?_
  . rintro p hp ls hls
    refine⟨[some (wkD c p),some (.im (.str "ends"))],by rcases hls with rfl|⟨_,x,rfl⟩ <;> rfl,⟨_,rfl⟩,BZ ⟨rfl,?_⟩⟩
    rw[if_pos rfl]
    refine⟨_,rfl,AE (AE (AE (A3 rfl (Ag (AV rfl (Ha _ _ _ _) (Ag (AV rfl (Eg _ _) (A3 rfl (JT ⟨rfl,?_⟩)))))))))⟩
    simp
  have e:(ws.filterMap λ _=>some (D.im (.bl false)))=blD (ws.map λ _=>false):=by simp[blD]
  rw[e]
  refine⟨_,by rw[P4,Ka];rfl,_,rfl,?_⟩
  exact⟨(λ h=>by simp at h),λ _=>An rfl⟩
theorem LZ{c:Int}{ws:List (Int × Int)}(W:WOk c ws):WF Bb [.im (Ae c ws)] [] λ d x=>d=.im (.int c):=by
  unfold Bb
  refine BJ rfl ?_
  refine AH (Aw (Az (A4 (A3 rfl (AB ⟨by simp,(PL W).mono ?_⟩)))))
  rintro d x rfl
  refine⟨_,rfl,A9 ?_⟩
  refine AH (Cz (Az (A4 (A3 rfl (A4 (Ag (AB ⟨by simp,(OX W).mono ?_⟩)))))))
  rintro d x rfl
  exact⟨_,rfl,A9 (BE (A3 rfl rfl))⟩
theorem O4(c:Int)(p:Int × Int):WF Cq [wkD c p] [] λ d x=>d=.im (.int p.2):=by
  unfold Cq
  refine BJ rfl ?_
  refine BE (AE (AE (A3 rfl (Ag (AV rfl (Ha _ _ _ _) ?_)))))
  refine SJ (Ag ⟨_,rfl,?_⟩)
  refine AV (ds:=[.im (.str "ends"),.im (.int p.2)]) (e:=.im (.int p.2)) rfl ?_ rfl
  rfl
theorem Fh(f:Nat->Int)(B:List Nat):HQ (B.map λ k=>D.im (.int (f k)))=some (.im (.int (Sm f B))):=by
  have:(B.map λ k=>D.im (.int (f k)))=(B.map f).map λ i=>D.im (.int i):=by simp
  rw[this]
  unfold HQ
  rw[J1]
  rfl
theorem Df(B:List Nat):(B.map λ k:Nat=>I.int (k:Int)).map D.im=B.map λ k:Nat=>D.im (.int (k:Int)):=by simp
theorem Gj(f:Nat->D)(B:List Nat):(B.filterMap λ k=>some (f k))=B.map f:=by simp
theorem P2{c:Int}{ws:List (Int × Int)}(W:WOk c ws){B:List Nat}(b:Bl ws.length B):WF Cr [.im (Ae c ws),.im (M9 B)] [] λ d x=>d=.im (.int (Sm (lf ws) B)):=by
  have:=b.le
  unfold Cr
  refine BJ rfl ?_
  refine BE (Dn (B6 (Ey (A3 rfl ⟨_,rfl,?_⟩))))
  rw[Df]
  refine⟨AZ (by simp;omega),?_⟩
  refine C0 (xs:=B) (λ k:Nat=>D.im (.int (k:Int))) (λ k=>some (.im (.int (lf ws k)))) (λ _ ls=>∃ x,ls=[some x,some (.im (Ae c ws))]) _ (As _) ?_ ?_
  . rintro x hx ls hls
    refine⟨[some (.im (.int (x:Int))),some (.im (Ae c ws))],by rcases hls with rfl|⟨_,x,rfl⟩ <;> rfl,⟨_,rfl⟩,BZ ⟨rfl,?_⟩⟩
    rw[if_pos rfl]
    exact⟨_,rfl,AE (AE (A3 rfl (A3 rfl (AV rfl (G5 (b.lt x hx)) (Ag (AV rfl (Eg _ _) ⟨rfl,rfl⟩))))))⟩
  . rw[Gj]
    exact⟨_,Fh _ _,rfl⟩
theorem IV{c:Int}{ws:List (Int × Int)}(W:WOk c ws){B:List Nat}(b:Bl ws.length B):WF Be [.im (Ae c ws),.im (M9 B)] [] λ d x=>∃ r,d=CZ r/\Rat' (Sm (wf ws) B) (Sm (lf ws) B) r:=by
  have bb:=HZ W b;have:=b.le
  unfold Be
  refine BJ rfl ?_
  refine BE (Az (A4 (Dn (B6 (Ey (A3 rfl ⟨_,rfl,?_⟩))))))
  rw[Df]
  refine⟨AZ (by simp;omega),?_⟩
  refine C0 (xs:=B) (λ k:Nat=>D.im (.int (k:Int))) (λ k=>some (.im (.int (wf ws k)))) (λ _ ls=>∃ x,ls=[some x,some (.im (Ae c ws))]) _ (As _) ?_ ?_
  . rintro x hx ls hls
    refine⟨[some (.im (.int (x:Int))),some (.im (Ae c ws))],by rcases hls with rfl|⟨_,x,rfl⟩ <;> rfl,⟨_,rfl⟩,BZ ⟨rfl,?_⟩⟩
    rw[if_pos rfl]
    refine⟨_,rfl,Az (A4 (AE (A3 rfl (A3 rfl (AV rfl (G5 (b.lt x hx)) (AB ⟨by simp[wkD,DI],(O4 c _).mono ?_⟩))))))⟩
    rintro d y rfl
    exact⟨_,rfl,rfl,rfl⟩
  rw[Gj]
  refine⟨_,Fh _ _,?_⟩
  refine A4 (Az (A4 (A3 rfl (A4 (A3 rfl (AB ⟨by simp,(P2 W b).mono ?_⟩))))))
  rintro d x rfl
  refine⟨_,rfl,AB ⟨by simp,?_⟩⟩
  obtain⟨wn,hwn⟩:∃ wn:Nat,Sm (wf ws) B=(wn:Int):=⟨(Sm (wf ws) B).toNat,by omega⟩
  obtain⟨ln,hln⟩:∃ ln:Nat,Sm (lf ws) B=(ln:Int):=⟨(Sm (lf ws) B).toNat,by omega⟩
  rw[hwn,hln]
  refine(MR (a:=wn) (b:=ln) (by omega) (by omega)).mono ?_
  rintro d x ⟨s,p,q,hs,e1,e2,rfl⟩
  exact⟨_,rfl,((p:Int),(q:Int)),rfl,⟨s,p,q,hs,by rw[e1],by rw[e2],rfl⟩⟩
noncomputable abbrev prI(q:Nat × Nat):I:=.tup [.int (q.1:Int),.int (q.2:Int)]
noncomputable abbrev fI(P:List (Nat × Nat)):I:=.tup (P.map prI)
noncomputable abbrev AJ(B:List Nat):D:=.im (M9 B)
theorem Q3{is js:List I}{hd:Hd}{QE:D->Hd->Prop}(h0:is ≠ [])(h1:is.length + js.length <= 100)(q:QE (.im (.tup (is ++ js))) hd):WP (BK (.im (.tup is)) (.im (.tup js)) hd) QE:=by
  have cat:Pw (is.map D.im) (js.map D.im):=⟨by simpa using h0,AZ (by simp;omega)⟩
  refine WP.eq (z:=.im (.tup (is ++ js))) (h:=hd) ?_ q
  show(match MQ (.im (.tup is)) (.im (.tup js)) hd with|some z=>some z|none=>IK (.im (.tup is)) (.im (.tup js)) hd)=_
  rw[show MQ (.im (.tup is)) (.im (.tup js)) hd=none from rfl]
  unfold IK
  rw[show Ad (.im (.tup is))=some (is.map D.im)from rfl,show Ad (.im (.tup js))=some (js.map D.im)from rfl,Option.bind_some,Option.bind_some,if_pos cat,<- List.map_append,Fd]
theorem JX{ma mb:ME}{ls:Ls}{hd:Hd}{QA:List D->Hd->Prop}(h:WE ma ls hd λ d x=>WE mb ls x λ e y=>∃ i j xs ys,d=.mu i/\e=.mu j/\y[i]? = some (.lst xs)/\y[j]? = some (.lst ys)/\BU (xs.length + ys.length)/\QA (xs ++ ys) y):WA (HP ma mb) ls hd QA:=by
  obtain⟨d,x,e1,e,y,e2,i,j,xs,ys,rfl,rfl,e3,e4,c,q⟩:=h
  exact⟨_,_,by simp only[HP,e1,Option.bind_some,e2,e3,e4,c,if_true],q⟩
theorem SA{i:Nat}{g:Int->Int->Int}{m:ME}{ls:Ls}{hd:Hd}{x:Int}{Q:Fl->Hd->Prop}(e:ls[i]? = some (some (.im (.int x))))(h:WE m ls hd λ d y=>∃ k,d=.im (.int k)/\Q (.nx (ls.set i (some (.im (.int (g x k)))))) y):WS (Ih i g m) ls hd Q:=by
  obtain⟨d,y,e1,k,rfl,q⟩:=h
  exact⟨_,_,by unfold Ih;rw[e];simp only[e1,Option.bind_some],q⟩
theorem UN(xs:List D)(k:Nat):DV xs none (some (k:Int))=xs.take k:=by
  unfold DV
  rw[HT.sIx_none,HT.sIx_nat,Nat.sub_zero,List.drop_zero]
  by_cases h:k <= xs.length
  . rw[Nat.min_eq_left h]
  . rw[Nat.min_eq_right (by omega),List.take_length,List.take_of_length_le (by omega)]
theorem UO(xs:List D)(k:Nat):DV xs (some (k:Int)) none=xs.drop k:=by
  unfold DV
  rw[HT.sIx_none,HT.sIx_nat]
  by_cases h:k <= xs.length
  . rw[Nat.min_eq_left h,List.take_of_length_le (by simp)]
  . rw[Nat.min_eq_right (by omega),List.drop_length,List.drop_eq_nil_of_le (by omega)];simp
structure Fo(n:Nat)(P:List (Nat × Nat))(up:Nat->Option Nat)(pos:Nat->Nat):Prop where
  n8:n <= 8
  lt:∀ q ∈ P,q.1 < n/\q.2 < n
  nd:(P.map (·.2)).Nodup
  hup:∀ a b,up b=some a ↔ (a,b) ∈ P
  dn:∀ v u,up v=some u->pos u < pos v
  p8:∀ v,v < n->pos v < 8
structure SOk(n:Nat)(up:Nat->Option Nat)(S:List Nat):Prop where
  nd:S.Nodup
  lt:∀ a ∈ S,a < n
  same:∃ o,∀ a ∈ S,up a=o
noncomputable def ch(P:List (Nat × Nat))(a:Nat):List Nat:=P.filterMap λ q=>if q.1=a then some q.2 else none
theorem ch_mem{P:List (Nat × Nat)}{a b:Nat}:b ∈ ch P a ↔ (a,b) ∈ P:=by
  unfold ch
  rw[List.mem_filterMap]
  constructor
  . rintro⟨⟨x,y⟩,h,e⟩
    by_cases q:x=a
    . subst q;simp at e;subst e;exact h
    . simp[q]at e
  . intro h;exact⟨_,h,by simp⟩
theorem UT(P:List (Nat × Nat))(a:Nat):(ch P a).Sublist (P.map (·.2)):=by
  induction P with
  | nil=>exact .slnil
  | cons q r ih=>
    unfold ch at ih ⊢
    rw[List.filterMap_cons]
    by_cases e:q.1=a
    . simp only[e,if_true,List.map_cons];exact ih.cons₂ _
    . simp only[e,if_false,List.map_cons];exact ih.cons _
theorem VL(P:List (Nat × Nat))(a:Nat):(P.filterMap λ q=>if q.1=a then some (D.im (.int (q.2:Int)))else none)=AG (ch P a):=by
  induction P with
  | nil=>rfl
  | cons q r ih=>
    unfold ch at ih ⊢
    rw[List.filterMap_cons,List.filterMap_cons]
    by_cases e:q.1=a
    . simp only[e,if_true,AG,List.map_cons];rw[ih]
    . simp only[e,if_false];exact ih
theorem IE{n:Nat}{o:List Nat}(h:o.Nodup)(h2:∀ k ∈ o,k < n):o.length <= n:=by
  have:=List.Nodup.length_le_of_subset h (l₂:=List.range n) λ k hk=>by simpa using h2 k hk
  simpa using this
theorem KL:∀ {bs:List (List Nat)},(∀ B ∈ bs,B ≠ [])->bs.length <= bs.flatten.length
  | [],_=>by simp
  | B :: r,h=>by
    have:=KL (bs:=r) λ C hC=>h C (by simp[hC])
    have:=List.length_pos_iff.mpr (h B (by simp))
    simp only[List.length_cons,List.flatten_cons,List.length_append];omega
theorem Rq{bs:List (List Nat)}{B:List Nat}(h:B ∈ bs):B.length <= bs.flatten.length:=by
  obtain⟨X,Y,rfl⟩:=List.append_of_mem h
  simp only[List.flatten_append,List.flatten_cons,List.length_append];omega
section
variable{c:Int}{ws:List (Int × Int)}{P:List (Nat × Nat)}{up:Nat->Option Nat}{pos:Nat->Nat}
theorem Nz(F:Fo ws.length P up pos){a v:Nat}(ha:a < ws.length)(h:Anc up a v):v < ws.length:=by
  cases h with
  | refl=>exact ha
  | step _ e=>exact(F.lt _ ((F.hup _ _).mp e)).2
theorem sib(F:Fo ws.length P up pos){S:List Nat}(s:SOk ws.length up S){a b v:Nat}(ha:a ∈ S)(hb:b ∈ S)(h:Anc up a v)(h':Anc up b v):a=b:=by
  obtain⟨o,ho⟩:=s.same
  have key:∀ a b,a ∈ S->b ∈ S->Anc up a b->a=b:=by
    intro a b ha hb h
    cases h with
    | refl=>rfl
    | step h1 e=>
      have e2:=ho a ha;have e3:=ho b hb
      have e4:up a=some _:=e2.trans (e3.symm.trans e)
      have:=F.dn _ _ e4;have:=h1.ps F.dn
      omega
  rcases Anc.two h h' with h|h
  . exact key a b ha hb h
  . exact(key b a hb ha h).symm
theorem Jj(F:Fo ws.length P up pos)(a:Nat):SOk ws.length up (ch P a):=
  ⟨F.nd.sublist (UT P a),λ b hb=>(F.lt _ (ch_mem.mp hb)).2,some a,λ b hb=>(F.hup a b).mpr (ch_mem.mp hb)⟩
structure LB(n:Nat)(bs:List (List Nat)):Prop where
  lt:∀ v ∈ bs.flatten,v < n
  fl:bs.flatten.length <= 8
  le:bs.length <= 8
  bl:∀ B ∈ bs,Bl n B
theorem LJ{l w:Nat->Int}{B:List Nat}(h:Hold up pos l w B):B ≠ []:=by
  obtain⟨_,_,e,_⟩:=h.ex;rw[e];simp
theorem Pq{bs:List (List Nat)}(n8:ws.length <= 8)(nd:bs.flatten.Nodup)(lt:∀ v ∈ bs.flatten,v < ws.length)(ne:∀ B ∈ bs,B ≠ []):LB ws.length bs:=by
  have h1:=IE nd lt;have h2:=KL ne
  exact⟨lt,by omega,by omega,λ B hB=>⟨ne B hB,by have:=Rq hB;omega,λ k hk=>lt k (List.mem_flatten.mpr ⟨B,hB,hk⟩)⟩⟩
theorem KK(F:Fo ws.length P up pos){S:List Nat}{bs:List (List Nat)}(hS:∀ a ∈ S,a < ws.length)(L:Line up pos (lf ws) (wf ws) S bs):LB ws.length bs:=
  Pq F.n8 L.nd (λ v hv=>by obtain⟨a,ha,h⟩:=(L.mem v).mp hv;exact Nz F (hS a ha) h) λ B hB=>LJ (L.hold B hB)
theorem na(F:Fo ws.length P up pos){a:Nat}{bs:List (List Nat)}(L:Line up pos (lf ws) (wf ws) (ch P a) bs):a ∉ bs.flatten:=by
  intro h
  obtain⟨b,hb,h⟩:=(L.mem a).mp h
  have:=h.ps F.dn;have:=F.dn _ _ ((F.hup a b).mpr (ch_mem.mp hb));omega
theorem VI(F:Fo ws.length P up pos){a:Nat}(ha:a < ws.length){bs:List (List Nat)}(L:Line up pos (lf ws) (wf ws) (ch P a) bs)(m:Nat):Bl ws.length (a :: (bs.take m).flatten):=by
  have b:=KK F (Jj F a).lt L
  have h:=IE (n:=ws.length) (List.nodup_cons.mpr ⟨na F L,L.nd⟩) λ k hk=>by
    rcases List.mem_cons.mp hk with rfl|hk
    . exact ha
    . exact b.lt k hk
  have sub:((bs.take m).flatten).Sublist bs.flatten:=by
    have e:=congrArg List.flatten (List.take_append_drop m bs)
    rw[List.flatten_append]at e
    rw[<- e]
    exact List.sublist_append_left _ _
  have:=sub.length_le;have n8:=F.n8
  simp only[List.length_cons]at h
  have hq:∀ k ∈ a :: (bs.take m).flatten,k < ws.length:=λ k hk=>by
    rcases List.mem_cons.mp hk with rfl|hk
    . exact ha
    . exact b.lt k (sub.subset hk)
  exact⟨by simp,by simp only[List.length_cons];omega,hq⟩
theorem Ph{w l:Int}{r:Int × Int}(h:Rat' w l r)(hw:w <= 8000000)(j:Int):CQ r.1 j:=by
  obtain⟨s,p,q,hs,e1,e2,e3⟩:=h.ex
  have h2:p <= p * s:=Nat.le_mul_of_pos_right _ hs
  rw[e3]
  exact Bm (by dsimp only;omega) (by dsimp only;omega)
noncomputable def Mc(c:Int)(ws:List (Int × Int))(P:List (Nat × Nat))(up:Nat->Option Nat)(pos:Nat->Nat)(k:Nat):Prop:=∀ a:Nat,a < ws.length->2 * (8 - pos a) <= k ->
  WF (Eh k) [.im (Ae c ws),.im (fI P),.im (.int (a:Int))] [] λ d x=>∃ (B:List Nat) (left:List (List Nat)) (i j:Nat),d=.tm [AJ B,.mu i,.mu j]/\x[j]? = some (.lst (left.map AJ))/\Line up pos (lf ws) (wf ws) [a] (B :: left)
noncomputable def HN(hd:Hd):Prop:=∀ o ∈ hd,∃ ns:List Nat,o=.lst (AG ns)
noncomputable def Kg(c:Int)(ws:List (Int × Int))(P:List (Nat × Nat))(up:Nat->Option Nat)(pos:Nat->Nat)(k:Nat):Prop:=∀ (S:List Nat) (hd:Hd) (m:Nat),HN hd->SOk ws.length up S->hd[m]? = some (.lst (AG S))->1 <= k->(∀ a ∈ S,2 * (8 - pos a) + 1 <= k) ->
  WF (Dx k) [.im (Ae c ws),.im (fI P),.mu m] hd λ d x=>∃ (bs:List (List Nat)) (i:Nat) (g:Hd),d=.mu i/\x=hd ++ g/\x[i]? = some (.lst (bs.map AJ))/\Line up pos (lf ws) (wf ws) S bs
theorem GC(P:List (Nat × Nat)):(P.map prI).map D.im=P.map λ q=>D.im (prI q):=by simp
inductive I_row(c:Int)(ws:List (Int × Int))(P:List (Nat × Nat))(bs:List (List Nat))(a i:Nat)(hd0:Hd):Nat->Ls->Hd->Prop
  | mk (m:Nat) (hm:m <= bs.length) (lt:∀ (i:Nat) (B:List Nat),i < m->bs[i]? = some B->Lt (lf ws) (wf ws) (a :: (bs.take i).flatten) B) :
    I_row c ws P bs a i hd0 (bs.length - m) [some (.im (Ae c ws)),some (.im (fI P)),some (.im (.int (a:Int))),some (.mu i),some (AJ (a :: (bs.take m).flatten)),some (.im (.int (m:Int)))] hd0
theorem OQ(W:WOk c ws)(F:Fo ws.length P up pos){k:Nat}(h:Kg c ws P up pos k):Mc c ws P up pos (k + 1):=by
  intro a ha hk
  have pl:P.length <= 8:=by
    have:=IE F.nd λ b hb=>by obtain⟨q,hq,rfl⟩:=List.mem_map.mp hb;exact(F.lt q hq).2
    have n8:=F.n8
    simp at this;omega
  have pa:=F.p8 a ha
  show WF (mkF 3 6 (HJ (RR k).2)) _ _ _
  refine BJ rfl ?_
  refine AH (Aw (CS (A4 (A3 rfl (A4 (A3 rfl (A4 (Aq (B6 (Ey (A3 rfl ⟨_,rfl,?_⟩)))))))))))
  rw[GC]
  refine⟨AZ (by simp;omega),?_⟩
  refine C0 (λ q:Nat × Nat=>D.im (prI q)) (λ q=>if q.1=a then some (.im (.int (q.2:Int)))else none) (λ _ ls=>∃ x y,ls=[some x,some y,some (.im (.int (a:Int)))]) _ (As _) ?_ ?_
  . rintro q hq ls hls
    refine⟨[some (.im (.int (q.1:Int))),some (.im (.int (q.2:Int))),some (.im (.int (a:Int)))],by rcases hls with rfl|⟨_,x,y,rfl⟩ <;> rfl,⟨_,_,rfl⟩,B5 (AE (A3 rfl (A3 rfl (ER ⟨_,rfl,rfl,?_⟩))))⟩
    by_cases e:q.1=a
    . rw[if_pos (by simp[e])];exact⟨_,if_pos e,A3 rfl ⟨rfl,rfl⟩⟩
    . rw[if_neg (by simp;omega)];exact if_neg e
  rw[VL]
  refine AB ((h (ch P a) _ 0 (by intro o ho;exact⟨ch P a,by simpa using ho⟩) (Jj F a) rfl (by omega) λ b hb=>by have:=F.dn _ _ ((F.hup a b).mpr (ch_mem.mp hb));omega).mono ?_)
  rintro d x ⟨bs,i,g,rfl,rfl,e,L⟩
  generalize hx:([] ++ [MO.lst (AG (ch P a))] ++ g:Hd)=hd1 at e ⊢
  have b:=KK F (Jj F a).lt L
  refine A9 (AH (Aw (ES (A4 (A3 rfl (AB ⟨Ef,A9 ?_⟩))))))
  refine AH (Aw (Ag (A9 ?_)))
  have fin:∀ m,m <= bs.length->(∀ (i:Nat) (B:List Nat),i < m->bs[i]? = some B->Lt (lf ws) (wf ws) (a :: (bs.take i).flatten) B)->(∀ B,bs[m]? = some B->¬ Lt (lf ws) (wf ws) (a :: (bs.take m).flatten) B) ->
      WS (Am (BT (A2 (A0 4) (A2 (B1 (Ff (A0 3) CL (Dj (A0 5)))) (A2 (B1 (Ff (A0 3) (Dj (A0 5)) CL)) A7))))) [some (.im (Ae c ws)),some (.im (fI P)),some (.im (.int (a:Int))),some (.mu i),some (AJ (a :: (bs.take m).flatten)),some (.im (.int (m:Int)))] hd1 λ f x=>match f with
        | .rt d=>∃ (B:List Nat) (left:List (List Nat)) (i j:Nat),d=.tm [AJ B,.mu i,.mu j]/\x[j]? = some (.lst (left.map AJ))/\Line up pos (lf ws) (wf ws) [a] (B :: left)
        | .nx _=>∃ (B:List Nat) (left:List (List Nat)) (i j:Nat),D.im .non=.tm [AJ B,.mu i,.mu j]/\x[j]? = some (.lst (left.map AJ))/\Line up pos (lf ws) (wf ws) [a] (B :: left)
        | _=>False:=by
    intro m hm lt stop
    refine BE (ES (A4 (A3 rfl (A4 (Aq (Mm (A3 rfl (LY (IQ (A3 rfl ⟨_,rfl,_,by rw[Av,e],?_⟩))))))))))
    refine A4 (Aq (Mm (A3 rfl (IQ (A3 rfl ⟨_,rfl,LY ⟨_,by rw[Av,hl e],?_⟩⟩)))))
    refine AB ⟨IL,_,_,_,_,rfl,?_,OR F.dn (VY W) (λ b=>ch_mem.trans (F.hup a b).symm) L hm lt stop⟩
    rw[hn,UO,List.map_drop]
  refine AH (JQ (I_row c ws P bs a i hd1) (n:=bs.length - 0) (.mk 0 (by omega) (by intro i B hi;omega)) ?_)
  intro N ls hd' hI
  cases hI with
  | mk m hm lt=>
  refine Fz (B5 (AE (A3 rfl (C7 (A4 (A3 rfl (AB (Ct (ds:=bs.map AJ) (z:=.im (.int (bs.length:Int))) (sv e) (by simp[B3]) (Ek ⟨_,rfl,?_⟩)))))))))
  by_cases hm':m < bs.length
  . rw[if_pos (by simpa using hm')]
    have em:bs[m]? = some bs[m]:=List.getElem?_eq_getElem hm'
    have b1:=VI F ha L m;have b2:=b.bl bs[m] (List.getElem_mem hm')
    refine Dm (Az (A4 (Az (A4 (A3 rfl (A4 (A3 rfl (AB ⟨by simp,(IV W b1).mono ?_⟩))))))))
    rintro d x ⟨r1,rfl,R1⟩
    refine⟨_,rfl,A4 (Az (A4 (A3 rfl (A4 (AE (A3 rfl (A3 rfl (AV (ds:=bs.map AJ) (e:=AJ bs[m]) (sv e) (DW rfl (by simp[hm'])) (AB ⟨by simp,(IV W b2).mono ?_⟩)))))))))⟩
    rintro d x ⟨r2,rfl,R2⟩
    refine⟨_,rfl,AB ⟨by simp[CZ,B9],(NW (Ph R1 (HZ W b1).2.2.2) (Ph R2 (HZ W b2).2.2.2)).mono ?_⟩⟩
    rintro d x rfl
    refine⟨_,rfl,_,rfl,?_⟩
    have q:=Jw R1 R2
    by_cases hlt:Lt (lf ws) (wf ws) (a :: (bs.take m).flatten) bs[m]
    . rw[if_pos (by simpa using q.mpr hlt)]
      have l1:=b1.le;have l2:=b2.le
      refine AH (Aw (AE (A3 rfl (AE (A3 rfl (A3 rfl (AV (ds:=bs.map AJ) (e:=AJ bs[m]) (sv e) (DW rfl (by simp[hm'])) (Q3 (by simp) (by rw[List.length_map,List.length_map];omega) (A9 ?_)))))))))
      refine SA (x:=(m:Int)) rfl (Ag ⟨_,rfl,bs.length - (m + 1),by omega,?_⟩)
      have e1:D.im (.tup ((a :: (bs.take m).flatten).map (λ k:Nat=>I.int (k:Int)) ++ bs[m].map λ k:Nat=>I.int (k:Int)))=AJ (a :: (bs.take (m + 1)).flatten):=by
        rw[DJ em];simp
      rw[e1]
      exact .mk (m + 1) (by omega) λ i B hi eB=>by
        rcases Nat.lt_or_ge i m with h|h
        . exact lt i B h eB
        . have:i=m:=by omega
          subst this
          rw[em]at eB;cases eB;exact hlt
    . rw[if_neg (by simpa using mt q.mp hlt)]
      exact A9 (fin m hm lt λ B eB=>by rw[em]at eB;cases eB;exact hlt)
  . rw[if_neg (by simpa using hm')]
    exact A9 (fin m hm lt λ B eB=>by have:=(List.getElem?_eq_some_iff.mp eB).1;omega)
end
section
variable{c:Int}{ws:List (Int × Int)}{P:List (Nat × Nat)}{up:Nat->Option Nat}{pos:Nat->Nat}
noncomputable def GV(w:Nat)(o:Option D):Option D:=match o with
  | some d=>if clD w d=true then some d else none
  | none=>none
theorem O6(w:Nat)(ls:Ls):FV w ls=ls.map (GV w):=rfl
theorem Ud(w:Nat)(i:I):GV w (some (.im i))=some (.im i):=rfl
theorem Pb{w n:Nat}(h:n < w):GV w (some (.mu n))=some (.mu n):=by simp[GV,clD,h]
theorem Ms(k:Nat)(L:List (List Nat)):E3 k (L.map AJ)=L.map AJ:=by
  induction L with
  | nil=>rfl
  | cons x r ih=>simp only[List.map_cons,E3,shD];rw[ih]
theorem US(w:Nat)(L:List (List Nat)):BB w (L.map AJ)=true:=by
  induction L with
  | nil=>rfl
  | cons x r ih=>simp only[List.map_cons,BB,clD,Bool.true_and];exact ih
theorem UR(w:Nat)(L:List Nat):BB w (AG L)=true:=by
  induction L with
  | nil=>rfl
  | cons x r ih=>simp only[AG,List.map_cons,BB,clD,Bool.true_and];exact ih
theorem HN.all{hd:Hd}(h:HN hd)(w:Nat):hd.all (clO w)=true:=List.all_eq_true.mpr λ o ho=>by
  obtain⟨ns,rfl⟩:=h o ho
  exact UR w ns
theorem tk1(hd:Hd)(y:MO)(r:Hd):(hd ++ y :: r).take (hd.length + 1)=hd ++ [y]:=by
  rw[List.take_append,List.take_of_length_le (by omega),show hd.length + 1 - hd.length=1 by omega];rfl
inductive I_rat(c:Int)(ws:List (Int × Int))(bs:List (List Nat))(hd0:Hd)(r es:List D)(ls:Ls)(hd:Hd):Prop
  | mk (dn rest:List (List Nat)) (rs:List (Int × Int)) (z:Option D) (e:bs=dn ++ rest) (er:r=rest.map AJ) (ee:es=rs.map CZ) (hl:rs.length=dn.length) (R:∀ k (hk:k < rs.length),Rat' (Sm (wf ws) (bs.getD k [])) (Sm (lf ws) (bs.getD k [])) rs[k]) (el:ls=[z,some (.im (Ae c ws))]) (eh:hd=hd0):I_rat c ws bs hd0 r es ls hd
inductive I_line(c:Int)(ws:List (Int × Int))(P:List (Nat × Nat))(up:Nat->Option Nat)(pos:Nat->Nat)(S:List Nat)(m:Nat)(hd0:Hd)(r:List D)(ls:Ls)(hd:Hd):Prop
  | mk (dn rest:List Nat) (bs:List (List Nat)) (z4 z5 z6 z7:Option D) (e:S=dn ++ rest) (er:r=AG rest) (pr:Pre up pos (lf ws) (wf ws) dn bs) (el:ls=[some (.im (Ae c ws)),some (.im (fI P)),some (.mu m),some (.mu hd0.length),z4,z5,z6,z7]) (eh:hd=hd0 ++ [.lst (bs.map AJ)]):I_line c ws P up pos S m hd0 r ls hd
theorem Pl(F:Fo ws.length P up pos){S:List Nat}{bs:List (List Nat)}(hS:∀ a ∈ S,a < ws.length)(L:Pre up pos (lf ws) (wf ws) S bs):LB ws.length bs:=
  Pq F.n8 L.nd (λ v hv=>by obtain⟨a,ha,h⟩:=(L.mem v).mp hv;exact Nz F (hS a ha) h) λ B hB=>LJ (L.hold B hB)
theorem NU(W:WOk c ws)(F:Fo ws.length P up pos){k:Nat}(h:Mc c ws P up pos k):Kg c ws P up pos (k + 1):=by
  intro S hd m hN s em _ hk
  have ml:m < hd.length:=(List.getElem?_eq_some_iff.mp em).1
  show WF (mkF 3 8 (GF (RR k).1)) _ _ _
  refine BJ rfl ?_
  refine AH (Aw (Aq (CG (AB ⟨Dw,A9 ?_⟩))))
  refine AH (CF (Dz (A3 rfl ⟨m,_,rfl,hl em,?_⟩)))
  dsimp only
  refine C8 (I_line c ws P up pos S m hd) (.mk [] S [] none none none none rfl rfl RO rfl rfl) ?_ ?_
  . intro d r ls hd' hI
    obtain⟨dn,rest,bs,z4,z5,z6,z7,e,er,pr,rfl,rfl⟩:=hI
    cases rest with
    | nil=>cases er
    | cons a rest=>
    obtain⟨rfl,rfl⟩:=List.cons.inj er
    have ha:a ∈ S:=by rw[e];simp
    have hdn:∀ b ∈ dn,b ∈ S:=λ b hb=>by rw[e];simp[hb]
    refine⟨[some (.im (Ae c ws)),some (.im (fI P)),some (.mu m),some (.mu hd.length),some (.im (.int (a:Int))),z5,z6,z7],rfl,?_⟩
    refine JR (AH (EQ (HA (A4 (A3 rfl (A4 (A3 rfl (A4 (A3 rfl (AB ⟨by simp,(h a (s.lt a ha) (by have:=hk a ha;omega)).mono ?_⟩))))))))))
    rintro d x ⟨B,left,i,j,rfl,ej,L⟩
    refine⟨[some (.im (Ae c ws)),some (.im (fI P)),some (.mu m),some (.mu hd.length),some (.im (.int (a:Int))),some (AJ B),some (.mu (i + (hd ++ [MO.lst (bs.map AJ)]).length)),some (.mu (j + (hd ++ [MO.lst (bs.map AJ)]).length))],rfl,A9 ?_⟩
    generalize hw:(hd ++ [MO.lst (bs.map AJ)]).length=w
    have hw':w=hd.length + 1:=by rw[<- hw];simp
    have pr2:Pre up pos (lf ws) (wf ws) (dn ++ [a]) (bs ++ B :: left):=RP pr L λ b hb v h1 h2=>by
      have:=sib F s ha (hdn b hb) h1 h2
      subst this
      have nd:=s.nd
      rw[e]at nd
      exact(List.nodup_append.mp nd).2.2 a hb a (by simp) rfl
    have b2:=Pl F (λ b hb=>by rcases List.mem_append.mp hb with hb|hb;exact s.lt b (hdn b hb);simp at hb;subst hb;exact s.lt b ha) pr2
    have ll:=b2.le
    simp only[List.length_append,List.length_cons]at ll
    have ej':(x.map (shO w))[j]? = some (.lst (left.map AJ)):=by rw[List.getElem?_map,ej,Option.map_some];simp only[shO];rw[Ms]
    refine Q0 rfl (Aq (JX (Aq (CG (A4 (A3 rfl (AB ⟨Ef,A3 rfl ?_⟩)))))))
    refine⟨_,_,[AJ B],left.map AJ,rfl,rfl,hn,hl (by rw[List.getElem?_append_right (by omega),show j + w - (hd ++ [MO.lst (bs.map AJ)]).length=j by omega];exact ej'),AZ (by simp;omega),?_⟩
    refine⟨_,bs.map AJ,[AJ B] ++ left.map AJ,rfl,hl (hl (hl hn)),hn,AZ (by simp;omega),?_⟩
    have e1:(((hd ++ [MO.lst (bs.map AJ)] ++ x.map (shO w) ++ [MO.lst [AJ B]] ++ [MO.lst ([AJ B] ++ left.map AJ)]).set hd.length (.lst (bs.map AJ ++ ([AJ B] ++ left.map AJ)))).take w)=hd ++ [.lst ((bs ++ B :: left).map AJ)]:=by
      rw[hw']
      simp only[List.append_assoc,List.cons_append,List.nil_append,List.set_append_right _ _ (Nat.le_refl _),Nat.sub_self,List.set_cons_zero]
      rw[tk1]
      simp
    rw[e1]
    refine⟨?_,?_⟩
    . rw[List.all_append,hN.all,Bool.true_and]
      simp only[List.all_cons,List.all_nil,Bool.and_true,clO]
      exact US _ _
    refine⟨_,rfl,?_,?_⟩
    . intro p hp;simp at hp;subst hp;exact hl em
    . rw[O6]
      refine .mk (dn ++ [a]) rest (bs ++ B :: left) (some (.im (.int (a:Int)))) (some (AJ B)) (GV w (some (.mu (i + w)))) (GV w (some (.mu (j + w)))) (by rw[e];simp) rfl pr2 ?_ rfl
      simp only[List.set_cons_succ,List.set_cons_zero,List.map_cons,List.map_nil,Ud]
      rw[Pb (by omega:m < _),Pb (by omega:hd.length < _)]
  . intro ls hd' hI
    obtain⟨dn,rest,bs,z4,z5,z6,z7,e,er,pr,rfl,rfl⟩:=hI
    have:rest=[]:=by cases rest with
      | nil=>rfl
      | cons _ _=>cases er
    subst this
    rw[List.append_nil]at e
    subst e
    have b:=Pl F s.lt pr
    have n8:=b.le
    refine A9 (BE (Aq (B6 (Dz (CS (A4 (Aq (B6 (Dz (A3 rfl ⟨hd.length,_,rfl,hn,?_⟩))))))))))
    refine⟨AZ (by simp;omega),?_⟩
    refine PZ (I_rat c ws bs (hd ++ [.lst (bs.map AJ)])) (.mk [] bs [] none rfl rfl rfl rfl (by intro k hk;simp at hk) rfl rfl) ?_ ?_
    . intro d r es ls hd' hI
      obtain⟨dn,rest,rs,z,e,er,rfl,hl',R,rfl,rfl⟩:=hI
      cases rest with
      | nil=>cases er
      | cons B rest=>
      obtain⟨rfl,rfl⟩:=List.cons.inj er
      refine⟨[some (AJ B),some (.im (Ae c ws))],rfl,BZ ?_⟩
      rw[if_pos rfl]
      have bB:=b.bl B (by rw[e];simp)
      refine Az (A4 (A3 rfl (A4 (A3 rfl (AB ⟨by simp,(IV W bB).mono ?_⟩)))))
      rintro d x ⟨r,rfl,hr⟩
      refine⟨_,rfl,?_,?_⟩
      . intro p hp;simp at hp;subst hp;exact hn
      . refine .mk (dn ++ [B]) rest (rs ++ [r]) _ (by rw[e];simp) rfl (by simp[CZ,B9]) (by simp[hl']) ?_ rfl rfl
        intro k hk'
        rcases Nat.lt_or_ge k rs.length with h|h
        . rw[List.getElem_append_left h];exact R k h
        . have e5:k=dn.length:=by simp at hk';omega
          have e6:bs.getD k []=B:=by rw[e,e5];simp[List.getD]
          rw[e6,List.getElem_append_right h]
          simpa using hr
    intro es ls hd' hI
    obtain⟨dn,rest,rs,z,e,er,rfl,hl',R,rfl,rfl⟩:=hI
    have:rest=[]:=by cases rest with
      | nil=>rfl
      | cons _ _=>cases er
    subst this
    rw[List.append_nil]at e
    have hr:rs.length=bs.length:=by rw[e];exact hl'
    have WR:Rs bs.length (λ k=>Sm (lf ws) (bs.getD k [])) (λ k=>Sm (wf ws) (bs.getD k [])):=⟨n8,λ k hk=>by
      have:bs.getD k []=bs[k]:=by simp[hk]
      simp only[this]
      exact HZ W (b.bl _ (List.getElem_mem hk))⟩
    refine AB ((Nf WR hr R hn).mono ?_)
    rintro d x ⟨row,rfl,rfl,pm,pw⟩
    have rl:row.length=bs.length:=by simpa using pm.length_eq
    refine⟨_,AG row,rfl,hn,AZ (by simp;omega),?_⟩
    refine C0 (xs:=row) (λ k:Nat=>D.im (.int (k:Int))) (λ k=>some (AJ (bs.getD k []))) (λ _ ls=>∃ x,ls=[some x,some (.mu hd.length)]) _ (by intro p hp;rw[List.mem_singleton]at hp;subst hp;exact hn) ?_ ?_
    . rintro x hx ls hls
      have hxb:x < bs.length:=by simpa using pm.mem_iff.mp hx
      refine⟨[some (.im (.int (x:Int))),some (.mu hd.length)],by rcases hls with rfl|⟨_,x,rfl⟩ <;> rfl,⟨_,rfl⟩,BZ ⟨rfl,?_⟩⟩
      rw[if_pos rfl]
      refine⟨_,rfl,AE (A3 rfl (A3 rfl (AV (ds:=bs.map AJ) (e:=AJ (bs.getD x [])) (sv (hl (hl hn))) (DW rfl (by simp[hxb])) ⟨rfl,rfl⟩)))⟩
    refine⟨row.map λ k=>bs.getD k [],_,[.lst (bs.map AJ),.lst (rs.map CZ),.lst (AG row),.lst ((row.map λ k=>bs.getD k []).map AJ)],rfl,by simp,?_,Mr pr pm pw⟩
    rw[hn];simp
end
section
variable{c:Int}{ws:List (Int × Int)}{P:List (Nat × Nat)}{up:Nat->Option Nat}{pos:Nat->Nat}
theorem rl(W:WOk c ws)(F:Fo ws.length P up pos):∀ k,Mc c ws P up pos k/\Kg c ws P up pos k
  | 0=>⟨λ a ha h=>by have:=F.p8 a ha;omega,λ S hd m _ _ _ h=>by omega⟩
  | k + 1=>⟨OQ W F (rl W F k).2,NU W F (rl W F k).1⟩
theorem Ex:∀ (l acc:List Int),acc.Nodup->(l.foldl E8 acc).length <= acc.length + l.length/\((l.foldl E8 acc).length=acc.length + l.length ↔ (acc ++ l).Nodup)
  | [],acc,h=>by simp[h]
  | x :: r,acc,h=>by
    rw[List.foldl_cons]
    by_cases hx:x ∈ acc
    . have e:E8 acc x=acc:=by simp[E8,hx]
      rw[e]
      obtain⟨a,b⟩:=Ex r acc h
      refine⟨by simp;omega,?_⟩
      constructor
      . intro z;simp at z;omega
      . intro z
        have:=List.nodup_append.mp z
        exact absurd rfl (this.2.2 x hx x List.mem_cons_self)
    . have e:E8 acc x=acc ++ [x]:=by simp[E8,hx]
      rw[e]
      have h':(acc ++ [x]).Nodup:=by
        rw[List.nodup_append]
        exact⟨h,by simp,λ a ha b hb z=>by simp at hb;subst hb;subst z;exact hx ha⟩
      obtain⟨a,b⟩:=Ex r (acc ++ [x]) h'
      simp only[List.length_append,List.length_cons,List.length_nil,List.append_assoc,List.cons_append,List.nil_append]at a b ⊢
      exact⟨by omega,by rw[<- b];omega⟩
theorem M6(F:Fo ws.length P up pos):P.length <= 8:=by
  have:=IE F.nd λ b hb=>by obtain⟨q,hq,rfl⟩:=List.mem_map.mp hb;exact(F.lt q hq).2
  have n8:=F.n8;simp at this;omega
noncomputable abbrev E2(P:List (Nat × Nat)):List Int:=P.map λ q=>(q.2:Int)
inductive I_fo(P:List (Nat × Nat))(r:List D)(acc:List Int)(ls:Ls)(hd:Hd):Prop
  | mk (dn rest:List (Nat × Nat)) (z0 z1:Option D) (ep:P=dn ++ rest) (er:r=rest.map λ q=>D.im (prI q)) (el:ls=[z0,z1]) (eh:hd=[]) (ea:acc=(E2 dn).foldl E8 []):I_fo P r acc ls hd
theorem PD(F:Fo ws.length P up pos):WF Cs [.im (.int (ws.length:Int)),.im (fI P)] [] λ d x=>d=.im (.bl true):=by
  have pl:=M6 F
  unfold Cs
  refine BJ rfl ?_
  refine BE (AE (Q6 (O3 (Ey (A3 rfl ⟨_,rfl,?_⟩)))))
  rw[GC]
  refine JV (I_fo P) (.mk [] P none none rfl rfl rfl rfl rfl) ?_ ?_
  . intro d r acc ls hd hI
    obtain⟨dn,rest,z0,z1,ep,er,rfl,rfl,rfl⟩:=hI
    cases rest with
    | nil=>cases er
    | cons p rest=>
      obtain⟨rfl,rfl⟩:=List.cons.inj er
      refine⟨[some (.im (.int (p.1:Int))),some (.im (.int (p.2:Int)))],rfl,BZ ?_⟩
      rw[if_pos rfl]
      have l1:=(Ex (E2 dn) [] (by simp)).1
      have l2:=congrArg List.length ep
      simp at l1 l2
      refine WP.eq (z:=E8 ((E2 dn).foldl E8 []) (p.2:Int)) (h:=[]) ?_ ⟨As _,.mk (dn ++ [p]) rest _ _ (by rw[ep];simp) rfl rfl rfl (by simp[E2])⟩
      have:((E2 dn).foldl E8 []).length < 1000:=by omega
      simp[JO,this]
  . intro acc ls hd hI
    obtain⟨dn,rest,z0,z1,ep,er,rfl,rfl,rfl⟩:=hI
    have:rest=[]:=by cases rest with
      | nil=>rfl
      | cons _ _=>cases er
    subst this
    simp only[List.append_nil]at ep
    subst ep
    refine C7 (A4 (A3 rfl (AB (Ct (ds:=P.map λ q=>D.im (prI q)) (z:=.im (.int (P.length:Int))) (by rw[<- GC];rfl) (by simp[B3]) (ER ?_)))))
    have h:=(Ex (E2 P) [] (by simp)).2
    have nd:(E2 P).Nodup:=by
      have e:E2 P=(P.map (·.2)).map λ k:Nat=>(k:Int):=by simp[E2]
      rw[e]
      exact List.Pairwise.map _ (λ a b h=>λ z=>h (by omega)) F.nd
    have:=h.mpr (by simpa using nd)
    simp only[List.length_nil,Nat.zero_add,List.length_map]at this
    show D.im (.bl (decide _))=_
    rw[this]
    simp
theorem OY(W:WOk c ws)(F:Fo ws.length P up pos):WF BV [.im (Ae c ws),.im (fI P)] [] λ d x=>d=.im .non:=by
  have n8:=W.n8
  unfold BV
  refine BJ rfl ?_
  refine AH (Cz (Az (A4 (A3 rfl (AB ⟨by simp,(LZ W).mono ?_⟩)))))
  rintro d x rfl
  refine⟨_,rfl,A9 ?_⟩
  refine Bz (Fy (Dm (Az (A4 (C7 (A4 (A3 rfl (AB (Ct (ds:=((ws.map (wk c)).map DI).map D.im) (z:=.im (.int (ws.length:Int))) rfl (by simp[B3]) ?_)))))))))
  refine A4 (A3 rfl (AB ⟨by simp,(PD F).mono ?_⟩))
  rintro d x rfl
  exact⟨_,rfl,_,rfl,(λ h=>by cases h),λ _=>An rfl⟩
noncomputable abbrev Fa(n:Nat)(P:List (Nat × Nat)):List Nat:=(List.range n).filter λ a=>decide (a ∉ P.map (·.2))
theorem Kt(F:Fo ws.length P up pos){a:Nat}(h:a ∈ Fa ws.length P):up a=none:=by
  have h2:=(List.mem_filter.mp h).2
  simp only[decide_eq_true_eq]at h2
  cases e:up a with
  | none=>rfl
  | some u=>exact absurd (List.mem_map.mpr ⟨(u,a),(F.hup u a).mp e,rfl⟩) h2
theorem Ji(F:Fo ws.length P up pos):SOk ws.length up (Fa ws.length P):=
  ⟨(List.nodup_range).filter _,λ a ha=>by simpa using (List.mem_filter.mp ha).1,none,λ a ha=>Kt F ha⟩
theorem P6(W:WOk c ws)(F:Fo ws.length P up pos):WF Ei [.im (Ae c ws),.im (fI P)] [] λ d x=>∃ (bs:List (List Nat)) (i:Nat),d=.mu i/\x[i]? = some (.lst (bs.map AJ))/\Line up pos (lf ws) (wf ws) (Fa ws.length P) bs:=by
  have n8:=W.n8;have pl:=M6 F
  unfold Ei
  refine BJ rfl ?_
  refine AH (Cz (Az (A4 (A3 rfl (A4 (A3 rfl (AB ⟨by simp,(OY W F).mono ?_⟩)))))))
  rintro d x rfl
  refine⟨_,rfl,A9 ?_⟩
  refine AH (Aw (Aq (B6 (Ey (A3 rfl ⟨_,rfl,?_⟩)))))
  rw[GC]
  refine⟨AZ (by simp;omega),?_⟩
  refine C0 (xs:=P) (λ q:Nat × Nat=>D.im (prI q)) (λ q=>some (.im (.int (q.2:Int)))) (λ _ ls=>∃ x y,ls=[some x,some y]) _ (As _) ?_ ?_
  . rintro q hq ls hls
    refine⟨[some (.im (.int (q.1:Int))),some (.im (.int (q.2:Int)))],by rcases hls with rfl|⟨_,x,y,rfl⟩ <;> rfl,⟨_,_,rfl⟩,BZ ⟨rfl,?_⟩⟩
    rw[if_pos rfl]
    exact⟨_,rfl,A3 rfl ⟨rfl,rfl⟩⟩
  have e0:(P.filterMap λ q=>some (D.im (.int (q.2:Int))))=AG (P.map (·.2)):=by simp[AG]
  rw[e0]
  refine A9 (BE (CS (A4 (A3 rfl (A4 (A3 rfl (A4 (Aq (B6 (Gz (A4 (C7 (A4 (A3 rfl (AB ?_)))))))))))))))
  refine Ct (ds:=((ws.map (wk c)).map DI).map D.im) (z:=.im (.int (ws.length:Int))) rfl (by simp[B3]) ?_
  refine AB ⟨_,rfl,Dc (by omega) (by omega),AZ (by simp;omega),?_⟩
  rw[Int.toNat_natCast,ED]
  refine C0 (xs:=List.range ws.length) (λ k:Nat=>D.im (.int (k:Int))) (λ k=>if k ∉ P.map (·.2)then some (.im (.int (k:Int)))else none) (λ _ ls=>∃ x,ls=[some x,some (.mu 0)]) _ (As _) ?_ ?_
  . rintro k hk ls hls
    refine⟨[some (.im (.int (k:Int))),some (.mu 0)],by rcases hls with rfl|⟨_,x,rfl⟩ <;> rfl,⟨_,rfl⟩,?_⟩
    refine B5 (AE (A3 rfl (A3 rfl (SD (xs:=E2 P) (by simp[Ar,Ad,Av,AG]) ⟨_,rfl,rfl,?_⟩))))
    have q:((k:Int) ∈ E2 P) ↔ k ∈ P.map (·.2):=by
      simp only[E2,List.mem_map]
      constructor
      . rintro⟨q,h,e⟩;exact⟨q,h,by omega⟩
      . rintro⟨q,h,e⟩;exact⟨q,h,by omega⟩
    by_cases e:k ∈ P.map (·.2)
    . rw[if_neg (by simp only[if_true];rw[decide_eq_true (q.mpr e)];simp)];exact if_neg (by simpa using e)
    . rw[if_pos (by simp only[if_true];rw[decide_eq_false (mt q.mp e)];rfl)];exact⟨_,if_pos e,A3 rfl ⟨rfl,rfl⟩⟩
  have e1:((List.range ws.length).filterMap λ k:Nat=>if k ∉ P.map (·.2)then some (D.im (.int (k:Int)))else none)=AG (Fa ws.length P):=by
    unfold Fa
    induction List.range ws.length with
    | nil=>rfl
    | cons x r ih=>
      rw[List.filterMap_cons,List.filter_cons]
      by_cases h:x ∈ P.map (·.2)
      . simp only[h,not_true,if_false,decide_false];exact ih
      . simp only[h,not_false_eq_true,if_true,decide_true,AG,List.map_cons];rw[ih]
  rw[e1]
  refine AB (((rl W F 18).2 (Fa ws.length P) _ 1 ?_ (Ji F) rfl (by omega) λ a ha=>by omega).mono ?_)
  . intro o ho
    simp only[List.nil_append,List.cons_append,List.mem_cons,List.not_mem_nil,or_false]at ho
    rcases ho with rfl|rfl
    . exact⟨_,rfl⟩
    . exact⟨_,rfl⟩
  . rintro d x ⟨bs,i,g,rfl,rfl,e,L⟩
    exact⟨bs,i,rfl,e,L⟩
end
theorem Pz{i j k:Nat}{m:MA}{ls:Ls}{hd:Hd}{QS:Fl->Hd->Prop}(h:WA m ls hd λ ds x=>∃ d1 d2 d3,ds=[d1,d2,d3]/\QS (.nx (((ls.set k (some d3)).set j (some d2)).set i (some d1))) x):WS (Gc i j k m) ls hd QS:=by
  obtain⟨ds,x,e,d1,d2,d3,rfl,q⟩:=h
  exact⟨_,_,by simp[Gc,Cj,e],q⟩
noncomputable abbrev cs(q:Nat × Nat):Int × Int:=((q.1:Int),(q.2:Int))
theorem Ks:∀ {P:List (Nat × Nat)},(P.map (·.2)).Nodup->∀ q ∈ P,∀ q' ∈ P,q.2=q'.2->q=q'
  | [],_,q,h,_,_,_=>by cases h
  | x :: r,nd,q,h,q',h',e=>by
    rw[List.map_cons,List.nodup_cons]at nd
    rcases List.mem_cons.mp h with e1|g
    . rcases List.mem_cons.mp h' with e2|g'
      . rw[e1,e2]
      . exact absurd (List.mem_map.mpr ⟨q',g',by rw[<- e,e1]⟩) nd.1
    . rcases List.mem_cons.mp h' with e2|g'
      . exact absurd (List.mem_map.mpr ⟨q,g,by rw[e,e2]⟩) nd.1
      . exact Ks nd.2 q g q' g' e
noncomputable def upF(P:List (Nat × Nat))(b:Nat):Option Nat:=(P.find? λ q=>q.2 == b).map (·.1)
theorem Kp{P:List (Nat × Nat)}(nd:(P.map (·.2)).Nodup)(a b:Nat):upF P b=some a ↔ (a,b) ∈ P:=by
  unfold upF
  constructor
  . intro h
    obtain⟨q,e,e2⟩:=Option.map_eq_some_iff.mp h
    have h1:=List.mem_of_find?_eq_some e
    have h2:=List.find?_some e
    simp at h2
    obtain⟨x,y⟩:=q
    simp at h2 e2
    subst h2;subst e2
    exact h1
  . intro h
    cases e:P.find? λ q=>q.2 == b with
    | none=>have:=List.find?_eq_none.mp e _ h;simp at this
    | some q=>
      have h1:=List.mem_of_find?_eq_some e
      have h2:=List.find?_some e
      simp at h2
      have:=Ks nd q h1 (a,b) h h2
      rw[this];rfl
noncomputable def Al(seq:List Nat)(P:List (Nat × Nat)):Prop:=∀ q ∈ P,∃ i j:Nat,i < j/\seq[i]? = some q.1/\seq[j]? = some q.2
theorem Na{seq:List Nat}(nd:seq.Nodup){j v:Nat}(e:seq[j]? = some v):seq.idxOf v=j:=by
  obtain⟨hj,rfl⟩:=List.getElem?_eq_some_iff.mp e
  exact nd.idxOf_getElem j hj
theorem VC{n:Nat}{seq:List Nat}{P:List (Nat × Nat)}(n8:n <= 8)(pm:seq.Perm (List.range n))(nd:(P.map (·.2)).Nodup)(al:Al seq P):Fo n P (upF P) (λ v=>seq.idxOf v):=by
  have sl:seq.length=n:=by simpa using pm.length_eq
  have snd:seq.Nodup:=pm.nodup_iff.mpr List.nodup_range
  have hin:∀ {i v:Nat},seq[i]? = some v->v < n:=λ e=>by simpa using pm.mem_iff.mp (List.mem_of_getElem? e)
  refine⟨n8,λ q hq=>?_,nd,Kp nd,λ v u e=>?_,λ v hv=>?_⟩
  . obtain⟨i,j,_,e1,e2⟩:=al q hq
    exact⟨hin e1,hin e2⟩
  . obtain⟨i,j,h,e1,e2⟩:=al _ ((Kp nd u v).mp e)
    rw[Na snd e1,Na snd e2];exact h
  . have:=List.idxOf_lt_length_iff.mpr (pm.mem_iff.mpr (by simpa using hv:v ∈ List.range n))
    omega
theorem SS(P:List (Nat × Nat)):∃ P':List (Nat × Nat),P'.Perm P/\EC (P.map cs)=P'.map cs:=by
  refine⟨(EC (P.map cs)).map λ p=>(p.1.toNat,p.2.toNat),?_,?_⟩
  . have:=(EB (P.map cs)).map λ p:Int × Int=>(p.1.toNat,p.2.toNat)
    refine this.trans ?_
    rw[List.map_map]
    have e:P.map ((λ p:Int × Int=>(p.1.toNat,p.2.toNat)) ∘ cs)=P:=by
      conv=>rhs;rw[<- List.map_id P]
      exact List.map_congr_left λ q _=>by simp[cs]
    rw[e]
  . rw[List.map_map]
    conv=>lhs;rw[<- List.map_id (EC (P.map cs))]
    refine List.map_congr_left λ p hp=>?_
    obtain⟨q,_,rfl⟩:=List.mem_map.mp ((EB _).mem_iff.mp hp)
    simp[cs]
inductive I_d1(n:Nat)(r:List D)(ls:Ls)(hd:Hd):Prop
  | mk (left seq:List Nat) (k:Nat) (a b:MO) (z:Option D) (er:r=AQ (k:Int) (n - k)) (hk:k <= n) (el:ls=[some (.mu 1),some (.im (.int (n:Int))),some (.mu 2),some (.mu 3),some (.mu 4),z,none,none,none]) (eh:hd=[a,b,.lst (AG left),.lst (AG seq),.lst []]) (hT:T 0 a b) (ll:left.length=n - k) (pm:(seq ++ left).Perm (List.range n)):I_d1 n r ls hd
inductive I_d2(n:Nat)(seq:List Nat)(w:Int)(z5:Option D)(r:List D)(ls:Ls)(hd:Hd):Prop
  | mk (P:List (Nat × Nat)) (k:Nat) (a b:MO) (z7 z8:Option D) (er:r=AQ (k:Int) (n - k)) (hk:k <= n) (k1:1 <= k) (el:ls=[some (.mu 1),some (.im (.int (n:Int))),some (.mu 2),some (.mu 3),some (.mu 4),z5,some (.im (.int w)),z7,z8]) (eh:hd=[a,b,.lst [],.lst (AG seq),.lst ((P.map cs).map B9)]) (hT:T 0 a b) (sub:(P.map (·.2)).Sublist (seq.take k)) (al:Al seq P):I_d2 n seq w z5 r ls hd
theorem UM{n:Nat}(n1:1 <= n)(n8:n <= 8)(a b:MO)(hT:T 0 a b):WF Ej [.mu 1,.im (.int (n:Int))] [a,b] λ d x=>∃ i a' b' g,d=.im i/\(∃ P up pos,i=fI P/\Fo n P up pos)/\T 0 a' b'/\x=a' :: b' :: g:=by
  unfold Ej
  refine BJ rfl ?_
  refine AH (Pz (A4 (Aq (Kn rfl (Js (by omega) (by omega)) (A4 (Aq (CG (AB ⟨Dw,A4 (Aq (CG (AB ⟨Dw,AB ⟨_,_,_,rfl,?_⟩⟩)))⟩))))))))
  refine A9 ?_
  rw[Int.toNat_natCast,ED]
  refine AH (CF (Gz (A4 (A3 rfl (AB ⟨_,rfl,Dc (by omega) (by omega),?_⟩)))))
  rw[Int.toNat_natCast]
  refine C8 (I_d1 n) (.mk (List.range n) [] 0 a b none (by simp) (by omega) rfl rfl hT (by simp) (by simp)) ?_ ?_
  . intro d r ls hd hI
    obtain⟨left,seq,j,a,b,z,er,hj,rfl,rfl,hT,ll,pm⟩:=hI
    obtain⟨m,hm⟩:∃ m,n - j=m + 1:=by
      cases q:n - j with
      | zero=>rw[q]at er;cases er
      | succ m=>exact⟨m,rfl⟩
    rw[hm,AQ]at er
    obtain⟨rfl,rfl⟩:=List.cons.inj er
    have ej:((j:Int) + 1)=((j + 1:Nat):Int):=by omega
    have em:m=n - (j + 1):=by omega
    have sl:seq.length + left.length=n:=by simpa using pm.length_eq
    refine⟨_,rfl,?_⟩
    dsimp only[List.set_cons_zero,List.set_cons_succ]
    repeat sizeOf_list_dec
    refine tap.draw (many:=(left.length:Int)) (rest:=[.lst (AG left),.lst (AG seq),.lst []]) (n:=0) hT (by simp[B3]) (by omega) (by omega) λ r a b hT pr qr=>?_
    repeat sizeOf_list_dec
    have hr:r.toNat < left.length:=by omega
    have e1:left[r.toNat]? = some left[r.toNat]:=by simp[hr]
    refine O1 rfl (Dc (by omega) (by omega)) (LH (n:=(AG left).length) pr (by simp;omega)) (by simp[e1];rfl) ?_
    repeat sizeOf_list_dec
    refine JU rfl (Fm (by simp;omega)) ?_
    have er2:(AG left).eraseIdx r.toNat=AG (left.eraseIdx r.toNat):=J4 _ _ _
    have es:AG seq ++ [D.im (.int ((left[r.toNat]:Nat):Int))]=AG (seq ++ [left[r.toNat]]):=by simp[AG]
    refine⟨As _,.mk (left.eraseIdx r.toNat) (seq ++ [left[r.toNat]]) (j + 1) a b _ (by rw[ej,em]) (by omega) rfl ?_ hT (by rw[List.length_eraseIdx,if_pos hr];omega) ((NE e1).trans pm)⟩
    rw[<- er2,<- es]
    rfl
  . intro ls hd hI
    obtain⟨left,seq,j,a,b,z,er,hj,rfl,rfl,hT,ll,pm⟩:=hI
    have hj':j=n:=by
      cases q:n - j with
      | zero=>omega
      | succ m=>rw[q]at er;cases er
    have l0:left=[]:=List.length_eq_zero_iff.mp (by omega)
    subst l0
    rw[List.append_nil]at pm
    have sl:seq.length=n:=by simpa using pm.length_eq
    have sin:∀ {i:Nat} (hi:i < seq.length),seq[i] < n:=λ hi=>by simpa using pm.mem_iff.mp (List.getElem_mem hi)
    repeat sizeOf_list_dec
    refine tap.draw (n:=0) (rest:=[.lst [],.lst (AG seq),.lst []]) hT rfl (by decide) (by decide) λ w a b hT pw qw=>?_
    refine A9 (AH (CF (JG (A4 (Ag (A4 (A3 rfl (AB ⟨_,_,rfl,Ku (by omega) (by omega) (by omega) (by omega),?_⟩))))))))
    have e0:((n:Int) - 1).toNat=n - 1:=by omega
    rw[e0]
    refine C8 (I_d2 n seq w z) (.mk [] 1 a b none none rfl n1 (by omega) rfl rfl hT (by simp) (by intro q hq;cases hq)) ?_ ?_
    . intro d r ls hd hI
      obtain⟨P,j,a,b,z7,z8,er,hj,j1,rfl,rfl,hT,sub,al⟩:=hI
      obtain⟨m,hm⟩:∃ m,n - j=m + 1:=by
        cases q:n - j with
        | zero=>rw[q]at er;cases er
        | succ m=>exact⟨m,rfl⟩
      rw[hm,AQ]at er
      obtain⟨rfl,rfl⟩:=List.cons.inj er
      have ej:((j:Int) + 1)=((j + 1:Nat):Int):=by omega
      have em:m=n - (j + 1):=by omega
      have hjs:j < seq.length:=by omega
      have pl:P.length <= 8:=by have:=sub.length_le;simp at this;omega
      have tk:seq.take (j + 1)=seq.take j ++ [seq[j]]:=by rw[List.take_succ,List.getElem?_eq_getElem hjs];rfl
      refine⟨_,rfl,?_⟩
      dsimp only[List.set_cons_zero,List.set_cons_succ]
      repeat sizeOf_list_dec
      refine tap.draw (n:=0) (rest:=[.lst [],.lst (AG seq),.lst ((P.map cs).map B9)]) hT rfl (by decide) (by decide) λ r1 a b hT pr1 qr1=>?_
      repeat sizeOf_list_dec
      have fin:∀ (a b:MO) (i:Nat) (hi:i < j),T 0 a b->WS (Bx (mMt Bn (A0 4) (A2 (BT (A2 (A0 8) (A2 (mOp gIx (A0 3) (A0 7)) A7))) A7))) [some (.mu 1),some (.im (.int (n:Int))),some (.mu 2),some (.mu 3),some (.mu 4),z,some (.im (.int w)),some (.im (.int (j:Int))),some (.im (.int ((seq[i]'(by omega):Nat):Int)))] [a,b,.lst [],.lst (AG seq),.lst ((P.map cs).map B9)] (Hg [] (I_d2 n seq w z (AQ ((j:Int) + 1) m)) (EA (Am (E5 Dv (EZ (CD (A0 4))))) λ f x=>match f with
          | .rt d=>∃ i a' b' g,d=.im i/\(∃ P up pos,i=fI P/\Fo n P up pos)/\T 0 a' b'/\x=a' :: b' :: g
          | .nx _=>∃ i a' b' g,D.im .non=.im i/\(∃ P up pos,i=fI P/\Fo n P up pos)/\T 0 a' b'/\x=a' :: b' :: g
          | _=>False)):=by
        intro a b i hi hT
        refine Cz (Hf (A3 rfl ⟨⟨_,rfl⟩,A4 (ES (A4 (A3 rfl (A4 (AE (A3 rfl (A3 rfl (AV rfl (NM (List.getElem?_eq_getElem hjs)) (AB ⟨IM,AB ?_⟩)))))))))⟩))
        refine JU rfl (Fm (by simp;omega)) ⟨As _,.mk (P ++ [(seq[i],seq[j])]) (j + 1) a b _ _ (by rw[ej,em]) (by omega) (by omega) rfl ?_ hT ?_ ?_⟩
        . simp[B4,BL,B9]
        . rw[tk,List.map_append];exact sub.append (List.Sublist.refl _)
        . intro q hq
          rcases List.mem_append.mp hq with h|h
          . exact al q h
          . rw[List.mem_singleton]at h;subst h
            exact⟨i,j,hi,by simp,by simp⟩
      refine⟨λ hb=>?_,λ hb=>An ⟨As _,.mk P (j + 1) a b _ _ (by rw[ej,em]) (by omega) (by omega) rfl rfl hT (by rw[tk];exact sub.trans (List.sublist_append_left _ _)) al⟩⟩
      refine AH (Aw (Mk (B5 (AE (A3 rfl (Ag (ER ⟨_,rfl,?_,?_⟩)))))))
      . intro _
        refine AE (A3 rfl (AE (A3 rfl (Ag (He ?_)))))
        have h1:j - 1 < seq.length:=by omega
        refine AV rfl (DW (k:=j - 1) (x:=.im (.int ((seq[j - 1]:Nat):Int))) (by omega) (by simp[h1])) (A9 ?_)
        exact fin a b (j - 1) (by omega) hT
      . intro _
        refine AE (A3 rfl ?_)
        refine tap.draw (n:=0) (many:=(j:Int)) (rest:=[.lst [],.lst (AG seq),.lst ((P.map cs).map B9)]) hT rfl (by omega) (by omega) λ r2 a b hT pr2 qr2=>?_
        have h2:r2.toNat < seq.length:=by omega
        refine AV rfl (DW (k:=r2.toNat) (x:=.im (.int ((seq[r2.toNat]:Nat):Int))) (by omega) (by simp[h2])) (A9 ?_)
        exact fin a b r2.toNat (by omega) hT
    . intro ls hd hI
      obtain⟨P,j,a,b,z7,z8,er,hj,j1,rfl,rfl,hT,sub,al⟩:=hI
      have pl:P.length <= 8:=by have:=sub.length_le;simp at this;omega
      obtain⟨P',pp,eP⟩:=SS P
      have c64:(P.map cs).length < 64/\∀ q ∈ P.map cs,pok q:=by
        refine⟨by simp;omega,λ q hq=>?_⟩
        obtain⟨q,hq',rfl⟩:=List.mem_map.mp hq
        obtain⟨i,k,_,e1,e2⟩:=al q hq'
        have h1:q.1 < n:=by simpa using pm.mem_iff.mp (List.mem_of_getElem? e1)
        have h2:q.2 < n:=by simpa using pm.mem_iff.mp (List.mem_of_getElem? e2)
        exact⟨by show -1000000000 <= (q.1:Int);omega,by show(q.1:Int) <= 1000000000;omega,by show -1000000000 <= (q.2:Int);omega,by show(q.2:Int) <= 1000000000;omega⟩
      have nd:(P.map (·.2)).Nodup:=(pm.nodup_iff.mpr List.nodup_range).sublist (sub.trans (List.take_sublist _ _))
      refine A9 (BE (Dn ?_))
      refine WP.eq (z:=(EC (P.map cs)).map B9) (h:=[a,b,.lst [],.lst (AG seq),.lst ((P.map cs).map B9)]) ?_ ?_
      . simp only[MU,Nh,Ng,List.getElem?_cons_succ,List.getElem?_cons_zero,Option.bind_some,M5]
        rw[if_pos c64]
      . refine⟨_,rfl,fI P',a,b,_,?_,⟨P',_,_,rfl,VC n8 pm ((pp.map (·.2)).nodup_iff.mpr nd) λ q hq=>al q (pp.mem_iff.mp hq)⟩,hT,rfl⟩
        rw[eP,List.map_map]
        have:P'.map (B9 ∘ cs)=(P'.map prI).map D.im:=by rw[List.map_map];rfl
        rw[this,Fd]
section
variable{c:Int}{ws:List (Int × Int)}
noncomputable def SB(hd:Hd)(d:D)(B:List Nat):Prop:=d=AJ B ∨ ∃ k,d=.mu k/\hd[k]? = some (.lst (AG B))
theorem SB.grow{hd:Hd}{d:D}{B:List Nat}(h:SB hd d B)(r:Hd):SB (hd ++ r) d B:=by
  rcases h with h|⟨k,h,e⟩
  . exact .inl h
  . exact .inr ⟨k,h,hl e⟩
theorem PY{i:Nat}{ls:Ls}{hd:Hd}{d:D}{B:List Nat}{QI:List D × Gd->Hd->Prop}(h:SB hd d B)(e:ls[i]? = some (some d))(q:∀ g:Gd,(∀ r,GOk (hd ++ r) g)->QI (AG B,g) hd):WI (E4 (A0 i)) ls hd QI:=by
  refine SF (A3 e ?_)
  rcases h with rfl|⟨k,rfl,e1⟩
  . refine .inl ⟨_,rfl,?_⟩
    rw[Df]
    exact q [] λ r=>As _
  . refine .inr ⟨k,_,rfl,e1,q _ λ r p hp=>?_⟩
    rw[List.mem_singleton]at hp;subst hp;exact hl e1
theorem Hj(W:WOk c ws){hd:Hd}{d:D}{B:List Nat}(h:SB hd d B)(lt:∀ k ∈ B,k < ws.length)(le:B.length <= 8):WF DY [.im (Ae c ws),d] hd λ e x=>e=.im (.tup [.int (Sm (wf ws) B),.int (Sm (lf ws) B)])/\∃ g,x=hd ++ g:=by
  unfold DY
  refine BJ rfl ?_
  refine AH (JS (A4 (Aq (B6 (PY h rfl λ g hg=>⟨AZ (by simp;omega),?_⟩)))))
  refine C0 (xs:=B) (λ k:Nat=>D.im (.int (k:Int))) (λ k=>some (.im (.int (wf ws k)))) (λ _ ls=>∃ x,ls=[some x,some (.im (Ae c ws))]) _ (by have:=hg [];rwa [List.append_nil]at this) ?_ ?_
  . rintro x hx ls hls
    refine⟨[some (.im (.int (x:Int))),some (.im (Ae c ws))],by rcases hls with rfl|⟨_,x,rfl⟩ <;> rfl,⟨_,rfl⟩,BZ ⟨rfl,?_⟩⟩
    rw[if_pos rfl]
    exact⟨_,rfl,AE (AE (AE (A3 rfl (A3 rfl (AV rfl (G5 (lt x hx)) (Ag (AV rfl (Ha _ _ _ _) (Ag (AV rfl (FD _ _ _) ⟨rfl,rfl⟩)))))))))⟩
  rw[Gj]
  refine A4 (Aq (B6 (PY (h.grow _) rfl λ g hg=>⟨AZ (by simp;omega),?_⟩)))
  refine C0 (xs:=B) (λ k:Nat=>D.im (.int (k:Int))) (λ k=>some (.im (.int (lf ws k)))) (λ _ ls=>∃ x,ls=[some x,some (.im (Ae c ws))]) _ (by have:=hg [];rwa [List.append_nil]at this) ?_ ?_
  . rintro x hx ls hls
    refine⟨[some (.im (.int (x:Int))),some (.im (Ae c ws))],by rcases hls with rfl|⟨_,x,rfl⟩ <;> rfl,⟨_,rfl⟩,BZ ⟨rfl,?_⟩⟩
    rw[if_pos rfl]
    exact⟨_,rfl,AE (AE (A3 rfl (A3 rfl (AV rfl (G5 (lt x hx)) (Ag (AV rfl (Eg _ _) ⟨rfl,rfl⟩))))))⟩
  rw[Gj]
  refine AB ⟨rfl,A9 ?_⟩
  refine BE (ES (A4 (C7 (A4 (A3 rfl (AB (Ct (ds:=B.map λ k=>D.im (.int (wf ws k))) (sv (hl hn)) (Fh _ _) ?_)))))))
  refine A4 (C7 (A4 (A3 rfl (AB (Ct (ds:=B.map λ k=>D.im (.int (lf ws k))) (sv hn) (Fh _ _) (AB ⟨IM,rfl,_,by rw[List.append_assoc]⟩))))))
inductive I_pa(n:Nat)(r:List D)(ls:Ls)(hd:Hd):Prop
  | mk (k i:Nat) (z:Option D) (ps:List Nat) (er:r=AQ (k:Int) (n - k)) (hk:k <= n) (el:ls=[some (.im (.int (n:Int))),some (.mu i),z]) (ei:hd[i]? = some (.lst (ps.map D.mu))) (lp:ps.length=2 ^ k) (hp:∀ p ∈ ps,∃ L:List Nat,hd[p]? = some (.lst (AG L))/\L.Sublist (List.range k)):I_pa n r ls hd
inductive I_pb(hd0:Hd)(k i:Nat)(ps:List Nat)(r es:List D)(ls:Ls)(hd:Hd):Prop
  | mk (dn rest qs:List Nat) (z:Option D) (g:Hd) (e:ps=dn ++ rest) (er:r=rest.map D.mu) (ee:es=qs.map D.mu) (el:ls=[z,some (.im (.int (k:Int)))]) (eh:hd=hd0 ++ g) (lq:qs.length=dn.length) (hq:∀ q ∈ qs,∃ L:List Nat,hd[q]? = some (.lst (AG L))/\L.Sublist (List.range (k + 1))):I_pb hd0 k i ps r es ls hd
theorem Rg{n:Nat}(hn8:n <= 8):WF FU [.im (.int (n:Int))] [] λ d x=>∃ (i:Nat) (ps:List Nat),d=.mu i/\x[i]? = some (.lst (ps.map D.mu))/\∀ p ∈ ps,∃ L:List Nat,x[p]? = some (.lst (AG L))/\L.Sublist (List.range n):=by
  unfold FU
  refine BJ rfl ?_
  refine AH (Aw (Aq (CG (A4 (Aq (CG (AB ⟨Dw,AB ⟨Ef,A9 ?_⟩⟩)))))))
  refine AH (CF (Gz (A4 (A3 rfl (AB ⟨_,rfl,Dc (by omega) (by omega),?_⟩)))))
  rw[Int.toNat_natCast]
  refine C8 (I_pa n) (.mk 0 1 none [0] (by simp) (by omega) rfl rfl rfl (by intro p hp;rw[List.mem_singleton]at hp;subst hp;exact⟨[],rfl,by simp⟩)) ?_ ?_
  . intro d r ls hd hI
    obtain⟨k,i,z,ps,er,hk,rfl,ei,lp,hp⟩:=hI
    obtain⟨m,hm⟩:∃ m,n - k=m + 1:=by
      cases q:n - k with
      | zero=>rw[q]at er;cases er
      | succ m=>exact⟨m,rfl⟩
    rw[hm,AQ]at er
    obtain⟨rfl,rfl⟩:=List.cons.inj er
    have ej:((k:Int) + 1)=((k + 1:Nat):Int):=by omega
    have em:m=n - (k + 1):=by omega
    have l256:ps.length <= 256:=by rw[lp];exact Nat.le_trans (Nat.pow_le_pow_right (by omega) (by omega:k <= 8)) (by decide)
    refine⟨[some (.im (.int (n:Int))),some (.mu i),some (.im (.int (k:Int)))],rfl,?_⟩
    refine Aw (Aq (JX (A3 rfl (Aq (B6 (Dz (A3 rfl ⟨i,_,rfl,ei,AZ (by simp;omega),?_⟩)))))))
    refine PZ (I_pb hd k i ps) (.mk [] ps [] none [] rfl rfl rfl rfl (by simp) rfl (by simp)) ?_ ?_
    . intro d r es ls hd' hI
      obtain⟨dn,rest,qs,z,g,e,er,rfl,rfl,rfl,lq,hq⟩:=hI
      cases rest with
      | nil=>cases er
      | cons p rest=>
      obtain⟨rfl,rfl⟩:=List.cons.inj er
      obtain⟨L,eL,sL⟩:=hp p (by rw[e];simp)
      have lL:=sL.length_le
      simp at lL
      refine⟨[some (.mu p),some (.im (.int (k:Int)))],rfl,BZ ?_⟩
      rw[if_pos rfl]
      refine Aq (JX (A3 rfl (Aq (CG (A4 (A3 rfl (AB ⟨Ef,p,_,AG L,[.im (.int (k:Int))],rfl,rfl,hl (hl eL),hn,AZ (by simp;omega),?_⟩)))))))
      refine⟨?_,?_⟩
      . intro p hp;rw[List.mem_singleton]at hp;subst hp;exact hl (hl (hl ei))
      . have eN:AG L ++ [D.im (.int (k:Int))]=AG (L ++ [k]):=by simp[AG]
        rw[eN]
        refine .mk (dn ++ [p]) rest (qs ++ [_]) _ _ (by rw[e];simp) rfl (by rw[List.map_append];rfl) rfl (by rw[List.append_assoc,List.append_assoc]) (by simp[lq]) ?_
        intro q hq'
        rcases List.mem_append.mp hq' with h|h
        . obtain⟨L',e',s'⟩:=hq q h
          exact⟨L',hl (hl e'),s'⟩
        . rw[List.mem_singleton]at h;subst h
          exact⟨L ++ [k],hn,by rw[List.range_succ];exact sL.append (List.Sublist.refl _)⟩
    . intro es ls hd' hI
      obtain⟨dn,rest,qs,z,g,e,er,rfl,rfl,rfl,lq,hq⟩:=hI
      have:rest=[]:=by cases rest with
        | nil=>rfl
        | cons _ _=>cases er
      subst this
      rw[List.append_nil]at e
      refine⟨i,_,ps.map D.mu,qs.map D.mu,rfl,rfl,hl (hl ei),hn,AZ (by simp[lq,<- e];omega),?_⟩
      refine⟨As _,.mk (k + 1) _ _ (ps ++ qs) (by rw[ej,em]) (by omega) rfl (by rw[hn,List.map_append]) (by rw[List.length_append,lq,<- e,lp,Nat.pow_succ];omega) ?_⟩
      intro p hp'
      rcases List.mem_append.mp hp' with h|h
      . obtain⟨L,e',s'⟩:=hp p h
        exact⟨L,hl (hl (hl e')),s'.trans (by rw[List.range_succ];exact List.sublist_append_left _ _)⟩
      . obtain⟨L,e',s'⟩:=hq p h
        exact⟨L,hl (hl e'),s'⟩
  . intro ls hd hI
    obtain⟨k,i,z,ps,er,hk,rfl,ei,lp,hp⟩:=hI
    have hk':k=n:=by
      cases q:n - k with
      | zero=>omega
      | succ m=>rw[q]at er;cases er
    subst hk'
    exact A9 (BE (A3 rfl ⟨i,ps,rfl,ei,hp⟩))
end
noncomputable def upD(o:Option Nat):D:=match o with
  | none=>.im .non
  | some k=>.im (.int (k:Int))
noncomputable def inO(o:Option Nat)(B:List Nat):Bool:=match o with
  | none=>false
  | some k=>decide (k ∈ B)
theorem Rx(xs:List Int):inV .non (xs.map V.int)=false:=by
  unfold inV
  induction xs with
  | nil=>rfl
  | cons y r ih=>simp only[List.map_cons,List.any_cons,ih];rfl
theorem Ic(B:List Nat):AG B=intD (B.map λ k:Nat=>(k:Int)):=by simp[AG,intD]
theorem G0{neg:Bool}{o:Option Nat}{d:D}{B:List Nat}{hd:Hd}{QE:D->Hd->Prop}(e:Ar hd d=some (AG B))(q:QE (.im (.bl (if neg then !inO o B else inO o B))) hd):WP (gIn neg (upD o) d hd) QE:=by
  rw[Ic]at e
  cases o with
  | none=>
    refine WP.eq (z:=.im (.bl (if neg then !false else false))) (h:=hd) ?_ q
    simp only[upD,gIn,DU,Option.bind_some,e,J3,Option.map_some,Rx]
  | some k=>
    have h:decide ((k:Int) ∈ B.map λ k:Nat=>(k:Int))=inO (some k) B:=by
      unfold inO
      refine decide_eq_decide.mpr ?_
      rw[List.mem_map]
      constructor
      . rintro⟨a,h,e⟩;have:a=k:=by omega
        subst this;exact h
      . intro h;exact⟨k,h,rfl⟩
    refine WP.eq (in_ints (k:Int) neg e) ?_
    rw[h];exact q
theorem LK(L:List Bool):C5 (L.map λ b=>D.im (.bl b))=some (L.map V.bl):=by
  induction L with
  | nil=>rfl
  | cons x r ih=>simp only[List.map_cons,C5,DU,Option.bind_some,ih,Option.map_some]
theorem NZ(L:List Bool):inV (.bl false) (L.map V.bl)=decide (false ∈ L):=by
  unfold inV
  induction L with
  | nil=>rfl
  | cons x r ih=>
    rw[List.map_cons,List.any_cons,ih]
    cases x <;> simp[eqV]
theorem Qc(m:Nat):∀ j:Nat,AQ (j:Int) m=AG (List.range' j m):=by
  induction m with
  | zero=>intro j;rfl
  | succ m ih=>
    intro j
    rw[AQ,List.range'_succ,AG,List.map_cons]
    have:=ih (j + 1)
    rw[show((j:Int) + 1)=((j + 1:Nat):Int) by omega,this]
theorem Hk{A B:List Nat}(s:A.Sublist B)(nd:B.Nodup):B.filter (λ v=>decide (v ∈ A))=A:=by
  induction s with
  | slnil=>rfl
  | cons a s ih=>
    rw[List.nodup_cons]at nd
    rw[List.filter_cons,if_neg (by simpa using λ h=>nd.1 (s.subset h))]
    exact ih nd.2
  | @cons_cons A B a s ih=>
    rw[List.nodup_cons]at nd
    rw[List.filter_cons,if_pos (by simp)]
    have:B.filter (λ v=>decide (v ∈ a :: A))=B.filter (λ v=>decide (v ∈ A)):=List.filter_congr λ v hv=>by
      have:v ≠ a:=λ z=>nd.1 (z ▸ hv)
      simp[this]
    rw[this,ih nd.2]
theorem Nx{B:List Nat}{k:Nat}(hk:k < B.length):atI (AG B) (k:Int)=some (.im (.int ((B.getD k 0:Nat):Int))):=NM (by simp[hk])
theorem FY(hd:Hd)(B:List Nat):Ar hd (AJ B)=some (AG B):=by simp only[Ar,Ad];rw[Df]
theorem GT{B:List Nat}{hd:Hd}{QE:D->Hd->Prop}(q:QE (.im (.int (B.length:Int))) hd):WP (f1 true B3 [AJ B] hd) QE:=Ct (ds:=AG B) (z:=.im (.int (B.length:Int))) (FY hd B) (by simp[B3]) q
theorem Q1{k:Nat}{B:List Nat}{hd:Hd}{QE:D->Hd->Prop}(e:hd[k]? = some (.lst (AG B)))(q:QE (.im (.int (B.length:Int))) hd):WP (f1 true B3 [.mu k] hd) QE:=Ct (ds:=AG B) (z:=.im (.int (B.length:Int))) (sv e) (by simp[B3]) q
theorem SW(k:Nat)(l:List Nat):E3 k (l.map D.mu)=(l.map (· + k)).map D.mu:=by
  induction l with
  | nil=>rfl
  | cons x r ih=>simp only[List.map_cons,E3,shD];rw[ih]
theorem SV(k:Nat)(l:List Nat):E3 k (AG l)=AG l:=by
  induction l with
  | nil=>rfl
  | cons x r ih=>simp only[AG,List.map_cons,E3,shD]at ih ⊢;rw[ih]
theorem U7(f:Nat->Bool)(B:List Nat):(B.filterMap λ k=>some (D.im (.bl (f k))))=(B.map f).map λ b=>D.im (.bl b):=by simp
theorem Va(f:Nat->Nat)(B:List Nat):(B.filterMap λ k=>some (D.im (.int (f k:Int))))=AG (B.map f):=by simp[AG]
noncomputable abbrev upL(n:Nat)(up:Nat->Option Nat):List D:=(List.range n).map λ v=>upD (up v)
section
variable{c:Int}{ws:List (Int × Int)}{P:List (Nat × Nat)}{up:Nat->Option Nat}{pos:Nat->Nat}
theorem GU{hd:Hd}{u n v:Nat}(e:hd[u]? = some (.lst (upL n up)))(hv:v < n):WP (gIx (.mu u) (.im (.int (v:Int))) hd) λ d x=>d=upD (up v)/\hd=x:=
  AV (ds:=upL n up) (e:=upD (up v)) (sv e) (DW rfl (by simp[hv])) ⟨rfl,rfl⟩
inductive I_ho(c:Int)(ws:List (Int × Int))(u:Nat)(B:List Nat)(H:Hd)(ps:List Nat)(r:List D)(ls:Ls)(hd:Hd):Prop
  | mk (rest:List Nat) (z5 z6 z7 z8 z9:Option D) (g:Hd) (sub:∀ p ∈ rest,p ∈ ps) (er:r=rest.map D.mu) (el:ls=[some (.im (Ae c ws)),some (.mu u),some (AJ B),some (.im (.int (Sm (wf ws) B))),some (.im (.int (Sm (lf ws) B))),z5,z6,z7,z8,z9]) (eh:hd=H ++ g):I_ho c ws u B H ps r ls hd
theorem Ry(W:WOk c ws)(F:Fo ws.length P up pos){B:List Nat}(hB:Hold up pos (lf ws) (wf ws) B)(b:Bl ws.length B)(nd:B.Nodup){hd:Hd}{u:Nat}(eu:hd[u]? = some (.lst (upL ws.length up))) :
    WF EO [.im (Ae c ws),.mu u,AJ B] hd λ d x=>d=.im (.bl true)/\∃ g,x=hd ++ g:=by
  have b8:=b.le
  obtain⟨h,t,rfl,ho,hpos⟩:=hB.ex
  have bb:=HZ W b
  have tl:t.length <= 7:=by simp at b8;omega
  have up0:inO (up h) (h :: t)=false:=by
    cases e:up h with
    | none=>rfl
    | some k=>
      have k1:=F.dn _ _ e
      unfold inO
      refine decide_eq_false λ hk=>?_
      have:=hpos k hk;omega
  unfold EO
  refine BJ rfl ?_
  refine AH (Bz (B5 (AE (AE (A3 rfl (AE (A3 rfl (Ag (AV (FY _ _) (Eg _ _) ((GU eu (b.lt h (by simp))).mono ?_))))))))))
  rintro d x ⟨rfl,rfl⟩
  refine A3 rfl (G0 (FY _ _) ⟨_,rfl,?_⟩)
  rw[up0]
  refine⟨(λ h=>by cases h),λ _=>An (A9 ?_)⟩
  refine AH (Bz (B5 (Mj (Ag (B6 (JG (A4 (Ag (A4 (C7 (A4 (A3 rfl (AB (GT ?_))))))))))))))
  refine AB ⟨_,_,rfl,Ku (by omega) (by omega) (by omega) (by omega),AZ (by simp;omega),?_⟩
  have e1:AQ 1 (((h :: t).length:Int) - 1).toNat=AG (List.range' 1 t.length):=by
    rw[show(((h :: t).length:Int) - 1).toNat=t.length by simp]
    exact Qc t.length 1
  rw[e1]
  refine C0 (xs:=List.range' 1 t.length) (λ k:Nat=>D.im (.int (k:Int))) (λ k=>some (.im (.bl ((λ _=>true) k)))) (λ _ ls=>∃ x,ls=[some x,some (.mu u),some (AJ (h :: t))]) _ (As _) ?_ ?_
  . rintro k hk ls hls
    have hk1:1 <= k/\k < 1 + t.length:=by simpa using hk
    have hkl:k < (h :: t).length:=by simp;omega
    refine⟨[some (.im (.int (k:Int))),some (.mu u),some (AJ (h :: t))],by rcases hls with rfl|⟨_,x,rfl⟩ <;> rfl,⟨_,rfl⟩,BZ ⟨rfl,?_⟩⟩
    rw[if_pos rfl]
    refine⟨_,rfl,AE (AE (A3 rfl (AE (A3 rfl (A3 rfl (AV (FY _ _) (Nx hkl) ((GU eu (b.lt _ ?_)).mono ?_)))))))⟩
    . rw[List.getD_eq_getElem?_getD,List.getElem?_eq_getElem hkl];exact List.getElem_mem hkl
    rintro d x ⟨rfl,rfl⟩
    refine SH (A3 rfl (LY (IQ (A3 rfl ⟨_,rfl,_,rfl,?_,?_⟩))))
    . rw[HT.sIx_nat]
      simp only[List.length_map]
      omega
    rw[UN,Df,<- List.map_take,<- Df,Fd]
    refine G0 (FY _ _) ⟨rfl,?_⟩
    obtain⟨k',rfl⟩:∃ k',k=k' + 1:=⟨k - 1,by omega⟩
    have hkt:k' < t.length:=by omega
    obtain⟨v,e2,hv⟩:=ho.get (i:=k') (v:=t[k']) (List.getElem?_eq_getElem hkt)
    have e3:(h :: t).getD (k' + 1) 0=t[k']:=by simp[hkt]
    rw[e3,e2]
    have:v ∈ (h :: t).take (k' + 1):=by
      rw[List.take_succ_cons]
      rcases hv with hv|hv
      . simp at hv;subst hv;simp
      . simp[hv]
    simp only[Bool.false_eq_true,if_false]
    rw[show inO (some v) ((h :: t).take (k' + 1))=true from decide_eq_true this]
  rw[U7]
  refine⟨_,_,_,rfl,rfl,LK _,_,rfl,?_⟩
  rw[NZ]
  have nf:decide (false ∈ (List.range' 1 t.length).map λ _=>true)=false:=decide_eq_false (by simp)
  rw[nf]
  refine⟨(λ h=>by cases h),λ _=>An (A9 ?_)⟩
  refine AH (EQ (Az (A4 (A3 rfl (A4 (A3 rfl (AB ⟨by simp,(Hj W (.inl rfl) b.lt b.le).mono ?_⟩)))))))
  rintro d x ⟨rfl,_⟩
  refine⟨_,rfl,[some (.im (Ae c ws)),some (.mu u),some (AJ (h :: t)),some (.im (.int (Sm (wf ws) (h :: t)))),some (.im (.int (Sm (lf ws) (h :: t)))),none,none,none,none,none],rfl,A9 ?_⟩
  refine AH (CF (SF (HA (A4 (C7 (A4 (A3 rfl (AB (GT ?_)))))))))
  refine AB ⟨by simp,(Rg b.le).mono ?_⟩
  rintro d y ⟨i,ps,rfl,ei,hp⟩
  have ei':(hd ++ y.map (shO hd.length))[i + hd.length]? = some (.lst ((ps.map (· + hd.length)).map D.mu)):=by
    rw[List.getElem?_append_right (by omega),Nat.add_sub_cancel,List.getElem?_map,ei,Option.map_some]
    simp only[shO];rw[SW]
  have hp':∀ p ∈ ps.map (· + hd.length),∃ L:List Nat,(hd ++ y.map (shO hd.length))[p]? = some (.lst (AG L))/\L.Sublist (List.range (h :: t).length):=by
    intro p hp0
    obtain⟨q,hq,rfl⟩:=List.mem_map.mp hp0
    obtain⟨L,e,s⟩:=hp q hq
    refine⟨L,?_,s⟩
    rw[List.getElem?_append_right (by omega),Nat.add_sub_cancel,List.getElem?_map,e,Option.map_some]
    simp only[shO];rw[SV]
  refine .inr ⟨_,_,rfl,ei',?_⟩
  have eu':(hd ++ y.map (shO hd.length))[u]? = some (.lst (upL ws.length up)):=hl eu
  have hfin:∃ g,hd ++ y.map (shO hd.length)=hd ++ g:=⟨_,rfl⟩
  generalize ps.map (· + hd.length)=ps' at ei' hp' ⊢
  generalize hd ++ y.map (shO hd.length)=H at ei' hp' eu' hfin ⊢
  obtain⟨g0,hg0⟩:=hfin
  refine C8 (I_ho c ws u (h :: t) H ps') (.mk ps' none none none none none [] (λ p h=>h) rfl rfl (by simp)) ?_ ?_
  . intro d r ls hd' hI
    obtain⟨rest,z5,z6,z7,z8,z9,g,sub,er,rfl,rfl⟩:=hI
    cases rest with
    | nil=>cases er
    | cons p rest=>
    obtain⟨rfl,rfl⟩:=List.cons.inj er
    obtain⟨L,eL,sL⟩:=hp' p (sub p (by simp))
    have lL:=sL.length_le
    simp only[List.length_range]at lL
    have hL:∀ k ∈ L,k < (h :: t).length:=λ k hk=>by simpa using sL.subset hk
    have gk:∀ r:Hd,GOk (H ++ g ++ r) [(i + hd.length,ps'.map D.mu)]:=λ r q hq=>by
      rw[List.mem_singleton]at hq;subst hq;exact hl (hl ei')
    refine⟨[some (.im (Ae c ws)),some (.mu u),some (AJ (h :: t)),some (.im (.int (Sm (wf ws) (h :: t)))),some (.im (.int (Sm (lf ws) (h :: t)))),some (.mu p),z6,z7,z8,z9],rfl,?_⟩
    refine AH (Aw (Aq (B6 (Dz (A3 rfl ⟨p,_,rfl,hl eL,AZ (by simp;simp at lL b8;omega),?_⟩)))))
    refine C0 (xs:=L) (λ k:Nat=>D.im (.int (k:Int))) (λ k=>some (.im (.int (((h :: t).getD k 0:Nat):Int)))) (λ _ ls=>∃ x,ls=[some x,some (AJ (h :: t))]) _ (by intro q hq;rw[List.mem_singleton]at hq;subst hq;exact hl eL) ?_ ?_
    . rintro k hk ls hls
      refine⟨[some (.im (.int (k:Int))),some (AJ (h :: t))],by rcases hls with rfl|⟨_,x,rfl⟩ <;> rfl,⟨_,rfl⟩,BZ ⟨rfl,?_⟩⟩
      rw[if_pos rfl]
      exact⟨_,rfl,AE (A3 rfl (A3 rfl (AV (FY _ _) (Nx (hL k hk)) ⟨rfl,rfl⟩)))⟩
    rw[Va (λ k=>(h :: t).getD k 0)]
    have sA:(L.map λ k=>(h :: t).getD k 0).Sublist (h :: t):=by
      have e0:(List.range (h :: t).length).map (λ k=>(h :: t).getD k 0)=h :: t:=by
        refine List.ext_getElem (by simp) λ i h1 h2=>?_
        rw[List.getElem_map,List.getElem_range,List.getD_eq_getElem?_getD,List.getElem?_eq_getElem h2];rfl
      have:=sL.map λ k=>(h :: t).getD k 0
      rwa [e0]at this
    generalize (L.map λ k=>(h :: t).getD k 0)=A at sA ⊢
    have lA:=sA.length_le
    have hA:∀ k ∈ A,k < ws.length:=λ k hk=>b.lt k (sA.subset hk)
    have eA:(H ++ g ++ [MO.lst (AG A)])[(H ++ g).length]? = some (.lst (AG A)):=hn
    have eu2:(H ++ g ++ [MO.lst (AG A)])[u]? = some (.lst (upL ws.length up)):=hl (hl eu')
    refine A9 (AH (Aw (Mj (Ag (B6 (Dz (A3 rfl ⟨_,_,rfl,eA,AZ (by simp;simp at lA b8;omega),?_⟩)))))))
    refine C0 (xs:=A) (λ k:Nat=>D.im (.int (k:Int))) (λ k=>some (.im (.bl ((λ k=>inO (up k) A || !inO (up k) (h :: t)) k)))) (λ _ ls=>∃ x,ls=[some x,some (.mu u),some (.mu (H ++ g).length),some (AJ (h :: t))]) _ (by intro q hq;rw[List.mem_singleton]at hq;subst hq;exact eA) ?_ ?_
    . rintro k hk ls hls
      refine⟨[some (.im (.int (k:Int))),some (.mu u),some (.mu (H ++ g).length),some (AJ (h :: t))],by rcases hls with rfl|⟨_,x,rfl⟩ <;> rfl,⟨_,rfl⟩,BZ ⟨rfl,?_⟩⟩
      rw[if_pos rfl]
      refine⟨_,rfl,SI (B5 (AE (AE (A3 rfl (A3 rfl ((GU eu2 (hA k hk)).mono ?_))))))⟩
      rintro d x ⟨rfl,rfl⟩
      refine A3 rfl (G0 (sv eA) ⟨_,rfl,?_⟩)
      simp only[Bool.false_eq_true,if_false]
      cases e5:inO (up k) A with
      | true=>rw[if_pos rfl];exact⟨trivial,by simp⟩
      | false=>
        rw[if_neg (by simp)]
        refine AE (AE (A3 rfl (A3 rfl ((GU eu2 (hA k hk)).mono ?_))))
        rintro d x ⟨rfl,rfl⟩
        exact A3 rfl (G0 (FY _ _) ⟨rfl,by simp⟩)
    rw[U7]
    refine⟨_,_,_,rfl,rfl,LK _,A9 ?_⟩
    rw[NZ]
    refine Bz (Fz (Dm (A3 rfl ⟨_,rfl,?_⟩)))
    have fin:∀ (z6 z7 z8 z9:Option D) (g':Hd),I_ho c ws u (h :: t) H ps' (rest.map D.mu) [some (.im (Ae c ws)),some (.mu u),some (AJ (h :: t)),some (.im (.int (Sm (wf ws) (h :: t)))),some (.im (.int (Sm (lf ws) (h :: t)))),some (.mu p),z6,z7,z8,z9] (H ++ g ++ [MO.lst (AG A)] ++ g'):=λ z6 z7 z8 z9 g'=>
      .mk rest _ _ _ _ _ (g ++ [MO.lst (AG A)] ++ g') (λ q hq=>sub q (by simp[hq])) rfl rfl (by simp)
    by_cases cl:false ∈ A.map λ k=>inO (up k) A || !inO (up k) (h :: t)
    . simp only[cl,decide_true,if_true,Bool.not_true,Bool.false_eq_true,if_false]
      refine⟨(λ h=>by cases h),λ _=>An ⟨?_,?_⟩⟩
      . have:=gk [MO.lst (AG A)];exact this
      . have:=fin (some (.mu (H ++ g).length)) (some (.im (.bl false))) z8 z9 [];rw[List.append_nil]at this;exact this
    . simp only[cl,decide_false,if_true,Bool.not_false]
      have go:∀ (z8 z9:Option D) (g':Hd),GOk (H ++ g ++ [MO.lst (AG A)] ++ g') [(i + hd.length,ps'.map D.mu)]/\I_ho c ws u (h :: t) H ps' (rest.map D.mu) [some (.im (Ae c ws)),some (.mu u),some (AJ (h :: t)),some (.im (.int (Sm (wf ws) (h :: t)))),some (.im (.int (Sm (lf ws) (h :: t)))),some (.mu p),some (.mu (H ++ g).length),some (.im (.bl true)),z8,z9] (H ++ g ++ [MO.lst (AG A)] ++ g'):=λ z8 z9 g'=>by
        have:=gk ([MO.lst (AG A)] ++ g')
        rw[<- List.append_assoc]at this
        exact⟨this,fin _ _ z8 z9 g'⟩
      have go0:=go z8 z9 []
      rw[List.append_nil]at go0
      have cB:A.length <= 8:=by omega
      have sb:=OJ W A hA
      refine B5 (O5 (Ag (C7 (A4 (A3 rfl (AB (Q1 eA (Ek ⟨_,rfl,?_,?_⟩))))))))
      . intro h0
        have h0:=of_decide_eq_true h0
        refine C7 (A4 (A3 rfl (AB (GT (Ek ⟨_,rfl,?_,?_⟩)))))
        . intro h1
          have h1:=of_decide_eq_true h1
          refine AH (EQ (CS (A4 (A3 rfl (A4 (A3 rfl (AB ((Hj W (.inr ⟨_,rfl,eA⟩) hA cB).mono ?_))))))))
          rintro d x ⟨rfl,g',rfl⟩
          refine⟨[some (.im (Ae c ws)),some (.mu u),some (AJ (h :: t)),some (.im (.int (Sm (wf ws) (h :: t)))),some (.im (.int (Sm (lf ws) (h :: t)))),some (.mu p),some (.mu (H ++ g).length),some (.im (.bl true)),some (.im (.int (Sm (wf ws) A))),some (.im (.int (Sm (lf ws) A)))],rfl,A9 ?_⟩
          refine Bz (B5 (AE (AE (A3 rfl (A3 rfl (Cm (Bm (by omega) (by omega)) (AE (A3 rfl (A3 rfl (Cm (Bm (by omega) (by omega)) (LX ⟨_,rfl,?_,?_⟩)))))))))))
          . intro h2
            exfalso
            have h2:=of_decide_eq_true h2
            have pt:=hB.part (λ v=>decide (v ∈ A)) ?_ ?_ ?_
            . rw[Hk sA nd]at pt
              omega
            . intro v hv pv x ev hx
              have hvA:v ∈ A:=of_decide_eq_true pv
              refine decide_eq_true ?_
              have e6:(inO (up v) A || !inO (up v) (h :: t))=true:=by
                cases e7:(inO (up v) A || !inO (up v) (h :: t))with
                | true=>rfl
                | false=>exact absurd (List.mem_map.mpr ⟨v,hvA,e7⟩) cl
              rw[ev]at e6
              have e8:inO (some x) (h :: t)=true:=decide_eq_true hx
              rw[e8,Bool.not_true,Bool.or_false]at e6
              exact of_decide_eq_true e6
            . obtain⟨v,hv⟩:∃ v,v ∈ A:=List.exists_mem_of_length_pos (by omega)
              exact⟨v,sA.subset hv,decide_eq_true hv⟩
            . refine Classical.byContradiction λ hno=>?_
              have:(h :: t).filter (λ v=>decide (v ∈ A))=h :: t:=List.filter_eq_self.mpr λ v hv=>by
                cases e9:decide (v ∈ A)with
                | true=>rfl
                | false=>exact absurd ⟨v,hv,e9⟩ hno
              rw[Hk sA nd]at this
              rw[this]at h1
              omega
          . intro _
            exact An (go _ _ g')
        . intro _
          exact An go0
      . intro _
        exact⟨_,rfl,(λ h=>by cases h),λ _=>An go0⟩
  . intro ls hd' hI
    obtain⟨rest,z5,z6,z7,z8,z9,g,sub,er,rfl,rfl⟩:=hI
    refine A9 (BE (Ag ⟨rfl,g0 ++ g,?_⟩))
    rw[hg0,List.append_assoc]
end
theorem Nv{F:List D->Hd->Option (D × Hd)}{m:MA}{ls:Ls}{hd:Hd}{QE:D->Hd->Prop}(h:WA m ls hd λ ds x=>∃ (a b:MO) (rest:Hd) (as:List D) (R:I->Prop),x=a :: b :: rest/\ds=.mu 1 :: as/\T 0 a b/\BB 2 as=true/\(∀ a b,T 0 a b->WF F (.mu 1 :: as) [a,b] λ d x=>∃ i a' b' g,d=.im i/\R i/\T 0 a' b'/\x=a' :: b' :: g)/\∀ i a' b',T 0 a' b'->R i->QE (.im i) (a' :: b' :: rest)):WE (AI 2 F m) ls hd QE:=by
  obtain⟨ds,x,e,a,b,rest,as,R,rfl,rfl,hT,hc,hF,k⟩:=h
  exact tap.call (n:=0) (c:=0) hT e hc hF k
theorem SL{ml:MA}{mb:ME}{ls:Ls}{hd:Hd}{QA:List D->Hd->Prop}(h:WA ml ls hd λ ds x=>WE mb ls x λ e y=>∃ k,e=.im (.int k)/\(0 <= k/\k <= 1000)/\BU (ds.length * k.toNat)/\QA (List.replicate k.toNat ds).flatten y):WA (KI ml mb) ls hd QA:=by
  obtain⟨ds,x,e1,d,y,e2,k,rfl,h1,h2,q⟩:=h
  exact⟨_,_,by simp only[KI,e1,Option.bind_some,e2,h1,h2,and_self,if_true],q⟩
theorem Ml{mi:MI}{ls:Ls}{hd:Hd}{QA:List D->Hd->Prop}(h:WI mi ls hd λ p x=>∃ ns:List Int,p.1=intD ns/\ns.length < 64/\QA (intD (Eo ns)) x):WA (EM mi) ls hd QA:=by
  obtain⟨p,x,e,ns,e1,hl,q⟩:=h
  refine⟨_,_,?_,q⟩
  simp only[EM,e,Option.bind_some,e1,show BW (intD ns)=some ns from J1 ns,hl,if_true]
theorem Gu:∀ ns:List Int,PyData.eqvAll (ns.map PyData.int) (ns.map PyData.int)=true
  | []=>by simp[PyData.eqvAll]
  | n :: r=>by simp[PyData.eqvAll,PyData.eqv,Gu r]
theorem KM(ns:List Int):(PyData.list (ns.map PyData.int)).canLay0=true:=by
  rw[PyData.canLay0]
  induction ns with
  | nil=>rfl
  | cons x r ih=>simp[PyData.canLayAll0,PyData.canLay0]at ih ⊢;try exact ih
theorem IN:∀ ns:List Int,PyData.depthAll (ns.map PyData.int)=0
  | []=>by simp[PyData.depthAll]
  | n :: r=>by simp[PyData.depthAll,PyData.depth,IN r]
theorem PN(ns:List Int)(hd:Hd)(neg:Bool):Fp neg (.list (ns.map PyData.int)) (.list (ns.map PyData.int)) hd=some (.im (.bl (!neg)),hd):=by
  unfold Fp
  rw[if_pos]
  . simp[PyData.eqv,Gu]
  . refine⟨KM ns,KM ns,?_⟩
    simp[PyData.depth,IN]
theorem Mh{neg:Bool}{ma ml:MA}{ls:Ls}{hd:Hd}{QE:D->Hd->Prop}{ns:List Int}(h:WA ma ls hd λ es x=>es=intD ns/\WA ml ls x λ ds y=>ds=intD ns/\QE (.im (.bl (!neg))) y):WE (IB neg ma ml) ls hd QE:=by
  obtain⟨es,x,e1,rfl,ds,y,e2,rfl,q⟩:=h
  refine⟨_,y,?_,q⟩
  unfold IB
  rw[e1]
  simp only[Option.bind_some,e2]
  simp only[intD,DX,Option.bind_some,De,PN]
theorem Lk{o:List Nat}{n:Nat}(pm:o.Perm (List.range n)):Eo (o.map λ k:Nat=>(k:Int))=(List.range n).map λ k:Nat=>(k:Int):=by
  refine((Hl _).trans (pm.map _)).eq_of_pairwise (le:=(· <= ·)) (λ a b _ _ h1 h2=>Int.le_antisymm h1 h2) (G7 _) ?_
  rw[List.pairwise_map]
  exact List.pairwise_lt_range.imp λ h=>by omega
theorem SK{neg:Bool}{ma:ME}{ls:Ls}{hd:Hd}{QE:D->Hd->Prop}(h:WE ma ls hd λ d x=>∃ o:Option Nat,d=upD o/\QE (.im (.bl (if o.isNone then !neg else neg))) x):WE (Ez neg ma) ls hd QE:=by
  obtain⟨d,x,e,o,rfl,q⟩:=h
  refine⟨_,x,?_,q⟩
  simp only[Ez,e,Option.bind_some]
  cases o <;> rfl
noncomputable def uP(up:Nat->Option Nat)(dn:List (Nat × Nat))(v:Nat):Option Nat:=if v ∈ dn.map (·.2)then up v else none
theorem SX{n b:Nat}{f g:Nat->D}{x:D}(hx:g b=x)(hf:∀ v,v ≠ b->f v=g v):((List.range n).map f).set b x=(List.range n).map g:=by
  refine List.ext_getElem (by simp) λ i h1 h2=>?_
  rw[List.getElem_set]
  by_cases h:b=i
  . subst h;rw[if_pos rfl,<- hx];simp
  . rw[if_neg h,List.getElem_map,List.getElem_map,List.getElem_range,hf i (λ z=>h z.symm)]
section
variable{c:Int}{ws:List (Int × Int)}{P:List (Nat × Nat)}{up:Nat->Option Nat}{pos:Nat->Nat}
theorem Q8(F:Fo ws.length P up pos){dn rest:List (Nat × Nat)}{q:Nat × Nat}(e:P=dn ++ q :: rest):((List.range ws.length).map λ v=>upD (uP up dn v)).set q.2 (.im (.int (q.1:Int)))=(List.range ws.length).map λ v=>upD (uP up (dn ++ [q]) v):=by
  have hq:up q.2=some q.1:=(F.hup q.1 q.2).mpr (by rw[e];simp)
  refine SX ?_ λ v hv=>?_
  . unfold uP
    rw[if_pos (by simp),hq];rfl
  . unfold uP
    have:(v ∈ (dn ++ [q]).map (·.2)) ↔ v ∈ dn.map (·.2):=by
      rw[List.map_append,List.mem_append]
      simp only[List.map_cons,List.map_nil,List.mem_singleton]
      exact⟨λ h=>h.resolve_right hv,.inl⟩
    by_cases h:v ∈ dn.map (·.2)
    . rw[if_pos h,if_pos (this.mpr h)]
    . rw[if_neg h,if_neg (mt this.mp h)]
theorem SO(F:Fo ws.length P up pos):((List.range ws.length).map λ v=>upD (uP up P v))=upL ws.length up:=by
  refine List.map_congr_left λ v _=>?_
  unfold uP
  by_cases h:v ∈ P.map (·.2)
  . rw[if_pos h]
  . rw[if_neg h]
    cases e:up v with
    | none=>rfl
    | some u=>exact absurd (List.mem_map.mpr ⟨(u,v),(F.hup u v).mp e,rfl⟩) h
theorem Sj(F:Fo ws.length P up pos):∀ k v,pos v <= k->v < ws.length->∃ a ∈ Fa ws.length P,Anc up a v:=by
  intro k
  induction k with
  | zero=>
    intro v hk hv
    cases e:up v with
    | none=>exact⟨v,List.mem_filter.mpr ⟨by simpa using hv,decide_eq_true λ h=>by
        obtain⟨q,hq,rfl⟩:=List.mem_map.mp h
        have:=(F.hup q.1 q.2).mpr hq
        rw[e]at this;cases this⟩,.refl _⟩
    | some u=>have:=F.dn _ _ e;omega
  | succ k ih=>
    intro v hk hv
    cases e:up v with
    | none=>exact⟨v,List.mem_filter.mpr ⟨by simpa using hv,decide_eq_true λ h=>by
        obtain⟨q,hq,rfl⟩:=List.mem_map.mp h
        have:=(F.hup q.1 q.2).mpr hq
        rw[e]at this;cases this⟩,.refl _⟩
    | some u=>
      have:=F.dn _ _ e
      obtain⟨a,ha,h⟩:=ih u (by omega) (F.lt _ ((F.hup u v).mp e)).1
      exact⟨a,ha,.step h e⟩
theorem Rj{A:List Nat}{n:Nat}(nd:A.Nodup)(h:∀ v,v ∈ A ↔ v < n):A.Perm (List.range n):=by
  rw[List.perm_ext_iff_of_nodup nd List.nodup_range]
  intro v;rw[h];simp
inductive I_up(ns:List Int)(c:Int)(ws:List (Int × Int))(P:List (Nat × Nat))(up:Nat->Option Nat)(a b:MO)(z2:Option D)(r:List D)(ls:Ls)(hd:Hd):Prop
  | mk (dn rest:List (Nat × Nat)) (z6 z7 z8 z9 z10 z11 z12 z13 z14 z15:Option D) (e:P=dn ++ rest) (er:r=rest.map λ q=>D.im (prI q)) (el:ls=[some (.ro ns),some (.mu 1),z2,some (.im (Ae c ws)),some (.im (fI P)),some (.mu 2),z6,z7,z8,z9,z10,z11,z12,z13,z14,z15]) (eh:hd=[a,b,.lst ((List.range ws.length).map λ v=>upD (uP up dn v))]):I_up ns c ws P up a b z2 r ls hd
inductive I_bl(ns:List Int)(c:Int)(ws:List (Int × Int))(P:List (Nat × Nat))(up:Nat->Option Nat)(a b:MO)(z2 z6 z7:Option D)(i:Nat)(bs:List (List Nat))(y:Hd)(r:List D)(ls:Ls)(hd:Hd):Prop
  | mk (dn rest:List (List Nat)) (z10 z11 z12 z13 z14 z15:Option D) (g:Hd) (e:bs=dn ++ rest) (er:r=rest.map AJ) (el:ls=[some (.ro ns),some (.mu 1),z2,some (.im (Ae c ws)),some (.im (fI P)),some (.mu 2),z6,z7,some (.mu 3),some (.mu (i + 4)),z10,z11,z12,z13,z14,z15]) (eh:hd=[a,b,.lst (upL ws.length up),.lst (AG dn.flatten)] ++ (y ++ g)):I_bl ns c ws P up a b z2 z6 z7 i bs y r ls hd
inductive I_la(ns:List Int)(c:Int)(ws:List (Int × Int))(P:List (Nat × Nat))(z2 z6 z7 z10:Option D)(i:Nat)(bs:List (List Nat))(h0:Hd)(r:List D)(ls:Ls)(hd:Hd):Prop
  | mk (rest:List Nat) (z11 z12 z13 z14 z15:Option D) (er:r=AG rest) (hr:∀ k ∈ rest,k + 1 < bs.length) (el:ls=[some (.ro ns),some (.mu 1),z2,some (.im (Ae c ws)),some (.im (fI P)),some (.mu 2),z6,z7,some (.mu 3),some (.mu (i + 4)),z10,z11,z12,z13,z14,z15]) (eh:hd=h0):I_la ns c ws P z2 z6 z7 z10 i bs h0 r ls hd
end
inductive I_law(ns:List Int)(r:List D)(ls:Ls)(hd:Hd):Prop
  | mk (a b:MO) (z2 z3 z4 z5 z6 z7 z8 z9 z10 z11 z12 z13 z14 z15:Option D) (el:ls=[some (.ro ns),some (.mu 1),z2,z3,z4,z5,z6,z7,z8,z9,z10,z11,z12,z13,z14,z15]) (eh:hd=[a,b]) (hT:T 0 a b):I_law ns r ls hd
theorem V9(ns:List Int):WF F_law [.ro ns] [] λ d x=>d=.im (.bl true):=by
  unfold F_law
  refine BJ rfl ?_
  obtain⟨τ,q⟩:=QB ns
  refine AH (Aw (CS (A4 (A3 rfl (AB (WP.eq q (A9 ?_)))))))
  refine AH (CF (Gz (A4 (Ag (AB ⟨_,rfl,Dc (by decide) (by decide),?_⟩)))))
  refine C8 (I_law ns) (.mk _ _ none none none none none none none none none none none none none none rfl rfl ⟨τ,rfl⟩) ?_ ?_
  . intro d r ls hd hI
    obtain⟨a,b,z2,z3,z4,z5,z6,z7,z8,z9,z10,z11,z12,z13,z14,z15,rfl,rfl,hT⟩:=hI
    refine⟨[some (.ro ns),some (.mu 1),some d,z3,z4,z5,z6,z7,z8,z9,z10,z11,z12,z13,z14,z15],rfl,?_⟩
    generalize some d=z2
    refine JR (AH (Aw (Nv (A4 (A3 rfl (A4 (AE (Ag ?_))))))))
    refine tap.draw (n:=0) hT rfl (by decide) (by decide) λ r1 a b hT pr1 qr1=>?_
    refine G4 (AB ?_)
    obtain⟨n,hn',hn1,hn8⟩:∃ n:Nat,1 + r1=(n:Int)/\1 <= n/\n <= 8:=⟨(1 + r1).toNat,by omega,by omega,by omega⟩
    rw[hn']
    refine⟨a,b,[],_,_,rfl,rfl,hT,by simp,Q4 hn1 hn8,?_⟩
    rintro i a b hT ⟨c,ws,rfl,rfl,W⟩
    refine A9 (AH (Aw (Nv (A4 (A3 rfl (A4 (C7 (A4 (A3 rfl (AB ?_))))))))))
    refine Ct (ds:=((ws.map (wk c)).map DI).map D.im) (z:=.im (.int (ws.length:Int))) rfl (by simp[B3]) ?_
    refine AB ⟨a,b,[],_,_,rfl,rfl,hT,by simp,λ a b hT=>UM hn1 hn8 a b hT,?_⟩
    rintro i a b hT ⟨P,up,pos,rfl,F⟩
    have pl:=M6 F
    refine A9 (AH (Aw (Aq (SL (CG (A4 (Ag (AB ⟨Ef,C7 (A4 (A3 rfl (AB ?_)))⟩))))))))
    refine Ct (ds:=((ws.map (wk c)).map DI).map D.im) (z:=.im (.int (ws.length:Int))) rfl (by simp[B3]) ?_
    refine⟨_,rfl,⟨by omega,by omega⟩,AZ (by simp;omega),A9 ?_⟩
    have e0:(List.replicate (ws.length:Int).toNat [D.im .non]).flatten=(List.range ws.length).map λ v=>upD (uP up [] v):=by
      rw[Int.toNat_natCast]
      refine List.ext_getElem (by simp) λ i h1 h2=>?_
      simp[uP,upD]
    rw[e0]
    refine AH (CF (Ey (A3 rfl ⟨_,rfl,?_⟩)))
    rw[GC]
    refine C8 (I_up ns c ws P up a b z2) (.mk [] P _ _ _ _ _ _ _ _ _ _ rfl rfl rfl rfl) ?_ ?_
    . intro d r ls hd hI
      obtain⟨dn,rest,z6,z7,z8,z9,z10,z11,z12,z13,z14,z15,e,er,rfl,rfl⟩:=hI
      cases rest with
      | nil=>cases er
      | cons q rest=>
      obtain⟨rfl,rfl⟩:=List.cons.inj er
      have hq:=(F.lt q (by rw[e];simp)).2
      refine⟨[some (.ro ns),some (.mu 1),z2,some (.im (Ae c ws)),some (.im (fI P)),some (.mu 2),some (.im (.int (q.1:Int))),some (.im (.int (q.2:Int))),z8,z9,z10,z11,z12,z13,z14,z15],rfl,?_⟩
      refine IP (A3 rfl (A3 rfl (A3 rfl ⟨2,(q.2:Int),q.2,_,rfl,rfl,rfl,LH (by omega) (by simp;omega),As _,?_⟩)))
      have:=Q8 F e
      refine .mk (dn ++ [q]) rest _ _ _ _ _ _ _ _ _ _ (by rw[e];simp) rfl rfl ?_
      rw[<- this];rfl
    intro ls hd hI
    obtain⟨dn,rest,z6,z7,z8,z9,z10,z11,z12,z13,z14,z15,e,er,rfl,rfl⟩:=hI
    have:rest=[]:=by cases rest with
      | nil=>rfl
      | cons _ _=>cases er
    subst this
    rw[List.append_nil]at e
    subst e
    rw[SO F]
    refine A9 (AH (Aw (Aq (CG (AB ⟨Dw,A9 ?_⟩)))))
    refine AH (Aw (HA (A4 (A3 rfl (A4 (A3 rfl (AB ⟨by simp,(P6 W F).mono ?_⟩)))))))
    rintro d y0 ⟨bs,i,rfl,ei,L⟩
    have lb:=KK F (Ji F).lt L
    have fl8:=lb.fl;have le8:=lb.le
    have ei':(y0.map (shO 4))[i]? = some (.lst (bs.map AJ)):=by rw[List.getElem?_map,ei,Option.map_some];simp only[shO];rw[Ms]
    refine A9 ?_
    show WS _ [some (.ro ns),some (.mu 1),z2,some (.im (Ae c ws)),some (.im (fI P)),some (.mu 2),z6,z7,some (.mu 3),some (.mu (i + 4)),z10,z11,z12,z13,z14,z15] ([a,b,.lst (upL ws.length up),.lst []] ++ y0.map (shO 4)) _
    generalize y0.map (shO 4)=y at ei' ⊢
    have gb:∀ (s:List D) (g:Hd),([a,b,MO.lst (upL ws.length up),.lst s] ++ (y ++ g))[i + 4]? = some (.lst (bs.map AJ)):=λ s g=>by
      show(y ++ g)[i]? = _
      exact hl ei'
    have gb0:=gb [] []
    rw[List.append_nil]at gb0
    refine AH (CF (Dz (A3 rfl ⟨i + 4,_,rfl,gb0,?_⟩)))
    refine C8 (I_bl ns c ws P up a b z2 z6 z7 i bs y) (.mk [] bs _ _ _ _ _ _ [] rfl rfl rfl (by rw[List.append_nil];rfl)) ?_ ?_
    . intro d r ls hd hI
      obtain⟨dn,rest,z10,z11,z12,z13,z14,z15,g,e,er,rfl,rfl⟩:=hI
      cases rest with
      | nil=>cases er
      | cons B rest=>
      obtain⟨rfl,rfl⟩:=List.cons.inj er
      have hBm:B ∈ bs:=by rw[e];simp
      have hB:=L.hold B hBm
      have bB:=lb.bl B hBm
      have ndB:B.Nodup:=by
        have:=L.nd
        rw[e,List.flatten_append,List.flatten_cons]at this
        exact(List.nodup_append.mp (List.nodup_append.mp this).2.1).1
      have fdn:dn.flatten.length + B.length <= 8:=by
        have:=fl8
        rw[e,List.flatten_append,List.flatten_cons,List.length_append,List.length_append]at this
        omega
      obtain⟨h,t,eB,hp⟩:=L.par dn B rest e
      have eu:∀ s g,([a,b,MO.lst (upL ws.length up),.lst s] ++ (y ++ g))[2]? = some (.lst (upL ws.length up)):=λ s g=>rfl
      have hh:h < ws.length:=bB.lt h (by rw[eB];simp)
      have b0:atI (AG B) 0=some (.im (.int (h:Int))):=by rw[eB];exact Eg _ _
      refine⟨[some (.ro ns),some (.mu 1),z2,some (.im (Ae c ws)),some (.im (fI P)),some (.mu 2),z6,z7,some (.mu 3),some (.mu (i + 4)),some (AJ B),z11,z12,z13,z14,z15],rfl,?_⟩
      refine AH (Bz (LW (B5 (AE (C7 (A4 (A3 rfl (AB (GT (Ag (ER ⟨_,rfl,?_⟩)))))))))))
      have l0:decide ((B.length:Int)=0)=false:=decide_eq_false (by rw[eB];simp;omega)
      rw[l0,if_neg (by simp)]
      have next:∀ Q:Fl->Hd->Prop,(∀ ls x,GOk x [(i + 4,bs.map AJ)]/\I_bl ns c ws P up a b z2 z6 z7 i bs y (rest.map AJ) ls x->Q (.nx ls) x)->WS (AF (Bx (mMt Gk (A0 8) (A2 (A0 10) A7)))
          (BX (GI (Cy (Cc EO (A2 (A0 3) (A2 (A0 5) (A2 (A0 10) A7))))))
            (Am (mC (.bl false)))
            BD)) [some (.ro ns),some (.mu 1),z2,some (.im (Ae c ws)),some (.im (fI P)),some (.mu 2),z6,z7,some (.mu 3),some (.mu (i + 4)),some (AJ B),z11,z12,z13,z14,z15] ([a,b,.lst (upL ws.length up),.lst (AG dn.flatten)] ++ (y ++ g)) Q:=by
        intro Q hQ
        refine AH (Cz (Hf (A3 rfl ⟨⟨_,rfl⟩,A4 (A3 rfl (AB (Q2 rfl rfl (AZ (by rw[List.length_map,List.length_map,List.length_map];omega)) (A9 ?_))))⟩)))
        have e5:AG dn.flatten ++ (B.map λ k:Nat=>I.int (k:Int)).map D.im=AG (dn ++ [B]).flatten:=by rw[Df];simp[AG]
        rw[e5]
        show WS _ _ ([a,b,.lst (upL ws.length up),.lst (AG (dn ++ [B]).flatten)] ++ (y ++ g)) _
        refine Bz (Fy (Dm (CS (A4 (A3 rfl (A4 (A3 rfl (A4 (A3 rfl (AB ((Ry W F hB bB ndB (eu _ g)).mono ?_)))))))))))
        rintro d x ⟨rfl,g',rfl⟩
        refine⟨_,rfl,(λ h=>by cases h),λ _=>An (hQ _ _ ⟨?_,?_⟩)⟩
        . intro p hp;rw[List.mem_singleton]at hp;subst hp;rw[List.append_assoc,List.append_assoc];exact gb _ _
        . exact .mk (dn ++ [B]) rest _ _ _ _ _ _ (g ++ g') (by rw[e];simp) rfl rfl (by rw[List.append_assoc,List.append_assoc])
      have sk:=λ Q hQ=>next Q hQ
      refine Fz (B5 (SK (AE (A3 rfl (AE (A3 rfl (Ag (AV (FY _ _) b0 ((GU (eu _ g) hh).mono ?_)))))))))
      rintro d x ⟨rfl,rfl⟩
      refine⟨_,rfl,_,rfl,?_⟩
      cases eo:up h with
      | none=>
        rw[if_neg (by simp)]
        exact⟨(λ h=>by cases h),λ _=>An (A9 (next _ λ ls x h=>h))⟩
      | some k=>
        rw[if_pos (by simp)]
        refine B5 (AE (AE (A3 rfl (AE (A3 rfl (Ag (AV (FY _ _) b0 ((GU (eu _ g) hh).mono ?_))))))))
        rintro d x ⟨rfl,rfl⟩
        refine A3 rfl (G0 (B:=dn.flatten) (sv rfl) ⟨_,rfl,?_⟩)
        have hk:inO (up h) dn.flatten=true:=by
          rw[eo]
          rcases hp with hp|⟨u,hu,e6⟩
          . have:=Kt F hp;rw[eo]at this;cases this
          . rw[eo]at e6;cases e6;exact decide_eq_true hu
        rw[hk]
        exact⟨(λ h=>by cases h),λ _=>An (A9 (next _ λ ls x h=>h))⟩
    intro ls hd hI
    obtain⟨dn,rest,z10,z11,z12,z13,z14,z15,g,e,er,rfl,rfl⟩:=hI
    have:rest=[]:=by cases rest with
      | nil=>rfl
      | cons _ _=>cases er
    subst this
    rw[List.append_nil]at e
    subst e
    have pm:bs.flatten.Perm (List.range ws.length):=Rj L.nd λ v=>⟨lb.lt v,λ hv=>(L.mem v).mpr (Sj F (pos v) v (Nat.le_refl _) hv)⟩
    refine A9 (AH (Bz (B5 (Mh (ns:=(List.range ws.length).map λ k:Nat=>(k:Int)) (Ml (Dz (A3 rfl ⟨3,_,rfl,rfl,bs.flatten.map (λ k:Nat=>(k:Int)),Ic _,by rw[List.length_map];omega,?_⟩)))))))
    refine⟨by rw[Lk pm],Kn (k:=(ws.length:Int)) (by simp[B3]) (Js (by omega) (by omega)) ⟨?_,_,rfl,(λ h=>by cases h),λ _=>An (A9 ?_)⟩⟩
    . rw[Int.toNat_natCast,ED,Ic]
    refine CF (Gz (A4 (AE (C7 (A4 (A3 rfl (AB (Ct (ds:=bs.map AJ) (z:=.im (.int (bs.length:Int))) (sv (gb _ g)) (by simp[B3]) (Ag (He (AB ⟨_,rfl,Dc (by omega) (by omega),?_⟩)))))))))))
    have e7:AQ 0 ((bs.length:Int) - 1).toNat=AG (List.range (bs.length - 1)):=by rw[show((bs.length:Int) - 1).toNat=bs.length - 1 by omega,ED]
    rw[e7]
    refine C8 (I_la ns c ws P z2 z6 z7 z10 i bs ([a,b,.lst (upL ws.length up),.lst (AG bs.flatten)] ++ (y ++ g))) (.mk (List.range (bs.length - 1)) _ _ _ _ _ rfl (by intro k hk;simp at hk;omega) rfl rfl) ?_ ?_
    . intro d r ls hd hI
      obtain⟨rest,z11,z12,z13,z14,z15,er,hr,rfl,rfl⟩:=hI
      cases rest with
      | nil=>cases er
      | cons k rest=>
      obtain⟨rfl,rfl⟩:=List.cons.inj er
      have k2:=hr k (by simp)
      have k1:k < bs.length:=by omega
      have b1:=lb.bl bs[k] (List.getElem_mem k1);have b2:=lb.bl bs[k + 1] (List.getElem_mem k2)
      have m1:=HZ W b1;have m2:=HZ W b2
      have ge:=(List.pairwise_iff_getElem.mp L.fall) k (k + 1) k1 k2 (by omega)
      refine⟨[some (.ro ns),some (.mu 1),z2,some (.im (Ae c ws)),some (.im (fI P)),some (.mu 2),z6,z7,some (.mu 3),some (.mu (i + 4)),z10,some (.im (.int (k:Int))),z12,z13,z14,z15],rfl,?_⟩
      refine AH (EQ (Az (A4 (A3 rfl (A4 (AE (A3 rfl (A3 rfl (AV (ds:=bs.map AJ) (e:=AJ bs[k]) (sv (gb _ g)) (DW rfl (by simp[k1])) (AB ⟨by simp,(Hj W (.inl rfl) b1.lt b1.le).mono ?_⟩))))))))))
      rintro d x ⟨rfl,_⟩
      refine⟨_,rfl,[some (.ro ns),some (.mu 1),z2,some (.im (Ae c ws)),some (.im (fI P)),some (.mu 2),z6,z7,some (.mu 3),some (.mu (i + 4)),z10,some (.im (.int (k:Int))),some (.im (.int (Sm (wf ws) bs[k]))),some (.im (.int (Sm (lf ws) bs[k]))),z14,z15],rfl,A9 ?_⟩
      refine AH (EQ (Az (A4 (A3 rfl (A4 (AE (A3 rfl (AE (A3 rfl (Ag (G4 ?_)))))))))))
      refine AV (ds:=bs.map AJ) (e:=AJ bs[k + 1]) (sv (gb _ g)) (DW (k:=k + 1) (by omega) (by simp[k2])) (AB ⟨by simp,(Hj W (.inl rfl) b2.lt b2.le).mono ?_⟩)
      rintro d x ⟨rfl,_⟩
      refine⟨_,rfl,[some (.ro ns),some (.mu 1),z2,some (.im (Ae c ws)),some (.im (fI P)),some (.mu 2),z6,z7,some (.mu 3),some (.mu (i + 4)),z10,some (.im (.int (k:Int))),some (.im (.int (Sm (wf ws) bs[k]))),some (.im (.int (Sm (lf ws) bs[k]))),some (.im (.int (Sm (wf ws) bs[k + 1]))),some (.im (.int (Sm (lf ws) bs[k + 1])))],rfl,A9 ?_⟩
      refine Bz (B5 (AE (AE (A3 rfl (A3 rfl (Cm (Bm (by omega) (by omega)) (AE (A3 rfl (A3 rfl (Cm (Bm (by omega) (by omega)) (Ek ⟨_,rfl,?_,?_⟩)))))))))))
      . intro h2
        have h2:=of_decide_eq_true h2
        unfold Ge at ge
        omega
      . intro _
        refine An ⟨As _,.mk rest _ _ _ _ _ rfl (λ q hq=>hr q (by simp[hq])) rfl rfl⟩
    . intro ls hd hI
      obtain⟨rest,z11,z12,z13,z14,z15,er,hr,rfl,rfl⟩:=hI
      have ca:=tap.cl hT
      exact⟨by simp[ca.1,ca.2],_,rfl,As _,.mk a b _ _ _ _ _ _ _ _ _ _ _ _ _ _ rfl rfl hT⟩
  . intro ls hd hI
    obtain⟨a,b,z2,z3,z4,z5,z6,z7,z8,z9,z10,z11,z12,z13,z14,z15,rfl,rfl,hT⟩:=hI
    exact A9 (BE (Ag rfl))
theorem law_eq(ns:List Int):∃ hd,F_law [.ro ns] []=some (.im (.bl true),hd):=by
  obtain⟨d,x,e,rfl⟩:=V9 ns
  exact⟨x,e⟩
end T70
namespace L2
open PySem PySem.Spec PyProof.Rows PySem.W
noncomputable abbrev Tb:=Addr × Str × Nat × Nat
noncomputable def Rn(ts:List Tb):Obj:={ cls:=.str "tables" 0,data:=.fields (ts.flatMap λ t=>[.ref t.1,.str t.2.1 0,.int t.2.2.1 0,.int t.2.2.2 0]).toArray }
noncomputable def AY(K:PySem.W.Frag)(ts:List Tb):PySem.W.Frag:=(K.filter λ p=>!(ts.map (·.1)).contains p.1) ++ [(mainGlobals,Rn ts)]
theorem Mp:∀ ts:List Tb,JI (ts.flatMap λ t=>[Value.ref t.1,.str t.2.1 0,.int t.2.2.1 0,.int t.2.2.2 0])=ts.map λ t=>(t.1,t.2.1,⟨t.2.2.1,t.2.2.2,0,0⟩)
  | []=>rfl
  | t :: r=>by
    rw[List.flatMap_cons,List.map_cons,<- Mp r]
    rfl
theorem Ir(K:PySem.W.Frag)(ts:List Tb):G6 (AY K ts)=ts.map λ t=>(t.1,t.2.1,⟨t.2.2.1,t.2.2.2,0,0⟩):=by
  unfold G6 AY
  rw[List.getLast?_concat]
  show JI _=_
  rw[<- Mp ts]
theorem FA{L:List Addr}{a:Addr}(ha:a ∉ L):∀ K:PySem.W.Frag,(K.filter λ p=>!L.contains p.1).lookup a=K.lookup a
  | []=>rfl
  | (b,o) :: r=>by
    have ih:=FA ha r
    rw[List.filter_cons]
    by_cases hb:b ∈ L
    . have h1:(!L.contains (b,o).1)=false:=by simp[hb]
      have h2:(a == b)=false:=beq_eq_false_iff_ne.mpr λ z=>ha (z ▸ hb)
      rw[if_neg (by rw[h1];decide),List.lookup_cons,h2,ih]
    . have h1:(!L.contains (b,o).1)=true:=by simp[hb]
      rw[if_pos h1,List.lookup_cons,List.lookup_cons,ih]
theorem GK{L:List Addr}{P:Addr}(hP:P ∈ L):∀ K:PySem.W.Frag,(K.filter λ p=>!L.contains p.1).lookup P=none
  | []=>rfl
  | (b,o) :: r=>by
    have ih:=GK hP r
    rw[List.filter_cons]
    by_cases hb:b ∈ L
    . rw[if_neg (by simp[hb])];exact ih
    . have h2:(P == b)=false:=beq_eq_false_iff_ne.mpr λ z=>hb (z ▸ hP)
      rw[if_pos (by simp[hb]),List.lookup_cons,h2];exact ih
section
variable{K:PySem.W.Frag}{ts:List Tb}
theorem GD{a:Addr}{o:Obj}(ha:a ∉ ts.map (·.1))(e:K.lookup a=some o):(AY K ts).lookup a=some o:=by
  unfold AY
  rw[List.lookup_append,FA ha,e];rfl
theorem Rm{h:Heap}(X:K.In h){g:Obj}(hg:K.lookup mainGlobals=some g)(hP:mainGlobals ∉ ts.map (·.1)):(AY K ts).In h:=λ a o e=>by
  unfold AY at e
  rw[List.lookup_append]at e
  by_cases ha:a ∈ ts.map (·.1)
  . rw[GK ha,Option.none_or]at e
    have h2:(a == mainGlobals)=false:=beq_eq_false_iff_ne.mpr λ z=>hP (z ▸ ha)
    rw[List.lookup_cons,h2]at e;cases e
  . rw[FA ha]at e
    cases k:K.lookup a with
    | some o'=>rw[k]at e;cases e;exact X _ _ k
    | none=>
      rw[k,Option.none_or,List.lookup_cons]at e
      by_cases hm:a=mainGlobals
      . subst hm;rw[hg]at k;cases k
      . rw[beq_eq_false_iff_ne.mpr hm]at e;cases e
theorem Rl(hM:mainGlobals ∉ ts.map (·.1)){P:Addr}(hP:P ∈ ts.map (·.1)):(AY K ts).lookup P=none:=by
  unfold AY
  have h2:(P == mainGlobals)=false:=beq_eq_false_iff_ne.mpr λ z=>hM (z ▸ hP)
  rw[List.lookup_append,GK hP,Option.none_or,List.lookup_cons,h2]
  rfl
theorem Fun.mark{x:Str}{st:Stmt}{f:Addr}{fd:FuncData}(D:Fun K x x st f fd){h:Heap}(X:K.In h)(hP:∀ P ∈ ts.map (·.1),h.get? P=some (tabObj #[])):Fun (AY K ts) x x st f fd:=by
  have neP:∀ a o,K.lookup a=some o->o ≠ tabObj #[]->a ∉ ts.map (·.1):=λ a o e n z=>by
    have:=X _ _ e
    rw[hP a z]at this;exact n (Option.some.inj this).symm
  obtain⟨⟨oc,od,kV,doc,pm,an,cdv,ct,osl,rfl,lk,hcd⟩,kp⟩:=D
  have hf:f ∉ ts.map (·.1):=neP f _ lk (λ z=>by cases z)
  refine⟨⟨oc,od,kV,doc,pm,an,cdv,ct,osl,rfl,GD hf lk,?_⟩,?_⟩
  . unfold codeIn at hcd ⊢
    split at hcd
    . next c0=>
      split at hcd
      . next vs sl k=>
        have hc:c0 ∉ ts.map (·.1):=neP c0 _ k (λ z=>by
          have:vs=#[]:=by injection z with _ _ z _;injection z
          rw[this]at hcd;cases hcd)
        simp only[GD hc k]
        exact hcd
      . cases hcd
    . cases hcd
  . unfold keepIn
    simp only[GD hf lk]
end
theorem Uj{K:PySem.W.Frag}{H:Hp}{a:Addr}{xs:List V}(hS:SqL K H a xs)(hO:∀ ys,H a ≠ some (.lst ys)):RoL K H a xs:=by
  rcases hS with(h|h)|h
  . exact absurd h (hO xs)
  . exact .inl h
  . exact .inr h
theorem NX{Pg:Program}{w:World}{K:PySem.W.Frag}{mg mb:Str->Option Value}{k:Nat}{fa a:Addr}{fd:FuncData}{x:Str}{ts:List Tb}{s₁:Shared}{vs:List Value}{ns:List Int}{F:List D->Hd->Option (D × Hd)}
    (KX:K.In s₁.heap) (hns:s₁.heap.Ns mainGlobals mg) (hb:s₁.heap.Ns builtinsNs mb) (hbb:∀ x:Str,x ≠ "__name__"->mb x=bootBuiltins x) (hlim:s₁.heap.NoLimit) (hg:s₁.gens=#[])
    (ha:s₁.heap.get? a=some { cls:=.type "list",data:=.seq vs.toArray }) (hi:IntsAre vs ns) (hl:ns.length <= sizeLine) (hr:Room k callerA)
    (hT:∀ P ∈ ts.map (·.1),∃ cc,s₁.heap.TableAt cc P #[]) (hPK:∀ P ∈ ts.map (·.1),K.lookup P=none) (htab:G6 K=ts.map λ t=>(t.1,t.2.1,⟨t.2.2.1,t.2.2.2,0,0⟩))
    (Fn:∀ base:Heap,K.In base->base.Ns mainGlobals mg->(∀ b o,b ∉ ts.map (·.1)->b ≠ a->s₁.heap.get? b=some o->base.get? b=some o)->FnOk Pg w K mg base CX0 k fa fd [x] (spF K 1 F)) (hbind:∀ (s:Shared) (u:Value),BindsTo s fd ⟨[u],[]⟩ [(x,u)])
    (hF:∃ hd',F [.ro ns] []=some (.im (.bl true),hd')) :
    codeAny (model Pg w) callerA (.call (.ref fa) ⟨[.ref a],[]⟩) (λ r s'=>r=.ok (.ret (.bool true))/\OldK s₁.heap s'.heap/\s'.os=s₁.os/\AllBare s'.gens) s₁:=by
  have rv:=Iq hi
  have lenV:=hi.length
  have hP:∀ P ∈ ts.map (·.1),s₁.heap.get? P=some (tabObj #[]):=λ P h=>let ⟨cc,t⟩:=hT P h;t.2
  have haP:a ∉ ts.map (·.1):=λ z=>by rw[hP a z]at ha;cases ha
  have core:∀ H:Hp,(∀ b,b ∉ ts.map (·.1)->H b=none ∨ ∃ o xs,H b=some (.frz o (.lst xs)))->(∀ P ∈ ts.map (·.1),H P=some (.tbl #[]))->SqL K H a (ns.map V.int)->HOk Pg w H s₁.heap->(∀ b,H b ≠ none->b=a ∨ b ∈ ts.map (·.1))->(H a ≠ none->K.lookup a=none) ->
      codeAny (model Pg w) callerA (.call (.ref fa) ⟨[.ref a],[]⟩) (λ r s'=>r=.ok (.ret (.bool true))/\OldK s₁.heap s'.heap/\s'.os=s₁.os/\AllBare s'.gens) s₁:=by
    intro H hO hHP hS hok hA hK
    have base_of:∀ {b:Addr} {o:Obj},s₁.heap.get? b=some o->H b=none->(Fi s₁.heap H).get? b=some o:=λ e n=>P8 e n
    have noA:∀ {b:Addr} {o:Obj} {es:Array DictEntry} {ep:Nat},s₁.heap.get? b=some o->o.data=.dict es ep->H b=none:=λ {b o es ep} e d=>by
      cases q:H b with
      | none=>rfl
      | some u=>
        rcases hA b (by rw[q];simp)with e'|e'
        . subst e'
          rw[ha]at e;cases e
          have d':Data.seq vs.toArray _=Data.dict es ep:=d
          cases d'
        . rw[hP b e']at e;cases e
          cases d
    have nsK:∀ {b:Addr} {m:Str->Option Value},s₁.heap.Ns b m->(Fi s₁.heap H).Ns b m:=λ {b m} ⟨o,es,ep,e,d,r⟩=>⟨o,es,ep,base_of e (noA e d),d,r⟩
    have hKb:K.In (Fi s₁.heap H):=λ b o e=>base_of (KX b o e) (by
      cases q:H b with
      | none=>rfl
      | some u=>
        rcases hA b (by rw[q];simp)with e'|e'
        . subst e'
          rw[hK (by rw[q];simp)]at e;cases e
        . rw[hPK b e']at e;cases e)
    have hM:Mod K mg (Fi s₁.heap H):=⟨hKb,nsK hns,⟨mb,nsK hb,hbb⟩,let ⟨mc,h1,h2⟩:=hlim;⟨mc,nsK h1,h2⟩⟩
    have e0:Env0 Pg w K mg (Fi s₁.heap H) callerA [] s₁ H:=⟨rfl,hM,λ b o e=>Ri e,Nat.le_of_eq (Nb _ _),trivial,λ b hb=>absurd (show b ∈ ([]:List Addr)from hb) (by simp),hok,.of_eq hg⟩
    have hsp:spF K 1 F [.ref a] H (λ v _=>v=.bl true) λ _ _ _=>False:=by
      obtain⟨hd',e⟩:=hF
      refine⟨rfl,[],[],[.ro ns],.im (.bl true),hd',⟨rfl,List.nodup_nil,λ y hy=>?_,λ n o a h=>by simp at h⟩,?_,e,λ ρ' H' v _ _ r=>?_⟩
      . rw[htab]at hy
        obtain⟨t,ht,rfl⟩:=List.mem_map.mp hy
        exact⟨#[],hHP t.1 (List.mem_map.mpr ⟨t,ht,rfl⟩),.inl rfl⟩
      . simp only[RDs,RD]
        refine⟨_,_,rfl,⟨a,rfl,Uj hS λ ys z=>?_⟩,rfl⟩
        rcases hO a haP with q|⟨o,ys,q⟩ <;> (rw[q]at z;cases z)
      . simpa only[RD,RI]using r
    refine codeAny_mono ((Fn _ hKb (nsK hns) λ b o n1 n2 e=>base_of e (by
      cases q:H b with
      | none=>rfl
      | some u=>
                  rcases hA b (by rw[q];simp)with e'|e'
                  . exact absurd e' n2
                  . exact absurd e' n1)).run callerA [] s₁ H ⟨[.ref a],[]⟩ [.ref a] [.ref a] _ _ hr e0 (hbind s₁ (.ref a)) (.cons rfl .nil) hsp) λ r s' h=>?_
    cases r with
    | error e=>exact h.elim
    | ok fl=>
      cases fl with
      | next=>exact False.elim h
      | brk=>exact False.elim h
      | cont=>exact False.elim h
      | ret u=>
        obtain⟨v,H',os,bare,un,hok',r',q⟩:=h
        have q':v=.bl true:=q
        subst q'
        obtain rfl:u=Value.bool true:=r'
        have keep:∀ b o,b ∉ ts.map (·.1)->s₁.heap.get? b=some o->s'.heap.get? b=some o:=λ b o nb e=>by
          cases q:H b with
          | none=>exact un.keep b o e q (by intro z;exact absurd (show b ∈ ([]:List Addr)from z) (by simp)) (by simp)
          | some u=>
            rcases hO b nb with z|⟨ob,xs,z⟩
            . rw[q]at z;cases z
            . have z2:=un.frzs b ob _ z
              obtain⟨e1,_⟩:=hok b _ z
              obtain⟨e2,_⟩:=hok' b _ z2
              rw[e]at e1;cases e1
              exact e2
        refine⟨rfl,⟨λ b o e=>?_,λ b o e=>?_⟩,os,bare⟩
        . by_cases nb:b ∈ ts.map (·.1)
          . obtain⟨cc,tb⟩:=hT b nb
            obtain⟨more,hm⟩:=un.tbls b #[] (hHP b nb)
            have hb':s'.heap.get? b=some (tabObj (#[] ++ more)):=hok' b _ hm
            rw[hP b nb]at e;cases e
            exact .inr (.inl ⟨tb.isCodeTable,rfl,#[],more,rfl,hb'⟩)
          . exact .inl (keep b o nb e)
        . by_cases nb:b ∈ ts.map (·.1)
          . obtain⟨more,hm⟩:=un.tbls b #[] (hHP b nb)
            exact⟨_,hok' b _ hm⟩
          . exact⟨o,keep b o nb e⟩
  cases hk:K.lookup a with
  | some o=>
    have e:=KX a o hk
    rw[ha]at e
    cases e
    refine core (λ b=>if b ∈ ts.map (·.1)then some (.tbl #[])else none) (λ b nb=>.inl (if_neg nb)) (λ P hp=>if_pos hp) (.inr ⟨_,vs.toArray,_,hk,rfl,rfl,rfl,by rw[List.size_toArray,lenV];exact hl,by simpa using rv⟩) (λ b u z=>?_) (λ b z=>?_) λ z=>absurd (if_neg haP) z
    . by_cases hb:b ∈ ts.map (·.1)
      . have z':=(if_pos hb).symm.trans z
        cases z'
        exact hP b hb
      . have z':=(if_neg hb).symm.trans z
        cases z'
    . by_cases hb:b ∈ ts.map (·.1)
      . exact .inr hb
      . exact absurd (if_neg hb) z
  | none=>
    refine core (λ b=>if b ∈ ts.map (·.1)then some (.tbl #[])else if b=a then some (.frz { cls:=.type "list",data:=.seq vs.toArray } (.lst (ns.map V.int)))else none) (λ b nb=>?_) (λ P hp=>if_pos hp) (.inl (.inr ⟨{ cls:=.type "list",data:=.seq vs.toArray },(if_neg haP).trans (if_pos rfl)⟩)) (λ b u z=>?_) (λ b z=>?_) λ _=>hk
    . rw[if_neg nb]
      by_cases hb:b=a
      . exact .inr ⟨_,_,if_pos hb⟩
      . exact .inl (if_neg hb)
    . by_cases hp:b ∈ ts.map (·.1)
      . have z':=(if_pos hp).symm.trans z
        cases z'
        exact hP b hp
      . have z:=(if_neg hp).symm.trans z
        by_cases hb:b=a
        . have z':=(if_pos hb).symm.trans z
          cases z'
          subst hb
          exact⟨ha,by rw[List.length_map];exact hl,vs,_,rv,ha⟩
        . have z':=(if_neg hb).symm.trans z
          cases z'
    . by_cases hp:b ∈ ts.map (·.1)
      . exact .inr hp
      . by_cases hb:b=a
        . exact .inl hb
        . exact absurd ((if_neg hp).trans (if_neg hb)) z
theorem walkL{l:PySem.W.OpenLaw}{n k:Nat}{q:Program}{loose:List Str}{XP:(Str->Option Value)->Heap->Prop}{YP:World->Heap->Prop}{d:DefRec}{K:Params->PySem.W.Frag}{F:List D->Hd->Option (D × Hd)}(xs:List (Str × Str × Nat × Nat))
    (hn:l.most=some n) (hn2:n <= sizeLine) (hdf:d.params.defaults=[]) (hr:Room k callerA) (hdr:∀ x ∈ xs,∃ dr,(recsOf q).find? (λ e=>e.name == x.1)=some dr)
    (hF:∀ ns:List Int,∃ hd',F [.ro ns] []=some (.im (.bl true),hd'))
    (hY:∀ (w:World) (h:Heap),YP w h->(K w.params).In h)
    (G:∀ (w:World) (mg:Str->Option Value) (fa:Addr) (h:Heap) (c P:Str->Addr),(K w.params).In h->h.Ns mainGlobals mg->mg d.name=some (.ref fa) ->
      (∀ x ∈ xs,h.get? (P x.1)=some (tabObj #[])/\CodeHd h (c x.1) (P x.1)/\∃ a o fd,mg x.1=some (.ref a)/\h.get? a=some o/\o.data=.func fd/\fd.code=.ref (c x.1)) ->
      (∃ g,(K w.params).lookup mainGlobals=some g)/\∃ fd:FuncData,(∀ (s:Shared) (u:Value),BindsTo s fd ⟨[u],[]⟩ [("_law_script",u)]) /\
        ∀ base:Heap,(AY (K w.params) (xs.map λ x=>(P x.1,x.2))).In base->base.Ns mainGlobals mg->(∀ x ∈ xs,CodeHd base (c x.1) (P x.1))->(∀ x ∈ xs,base.BuiltinsAt mg (P x.1))->FnOk l.prog w (AY (K w.params) (xs.map λ x=>(P x.1,x.2))) mg base CX0 k fa fd ["_law_script"] (spF (AY (K w.params) (xs.map λ x=>(P x.1,x.2))) 1 F)) :
    PySem.W.WalkO q loose XP YP l.row.toRowW d [] (λ f vs=>PySem.call f vs):=by
  refine Att.attach_call hn hdf λ w s₀ s₁ mg mb fa o pm cd doc a vs ns Gr Y ho hd hcd hmg hobj hints hlen hg=>?_
  have KX:=hY w _ Y
  have each:∀ x:Str,∃ cp:Addr × Addr,(∃ y ∈ xs,y.1=x)->(∃ cc,s₁.heap.TableAt cc cp.2 #[])/\CodeHd s₁.heap cp.1 cp.2/\∃ a o fd,mg x=some (.ref a)/\s₁.heap.get? a=some o/\o.data=.func fd/\fd.code=.ref cp.1:=by
    intro x
    by_cases hx:∃ y ∈ xs,y.1=x
    . obtain⟨y,hy,rfl⟩:=hx
      obtain⟨dr,hdr⟩:=hdr y hy
      have hnm:dr.name=y.1:=beq_iff_eq.mp (List.find?_some (p:=λ e:DefRec=>e.name == y.1) hdr)
      obtain⟨a',o',fd',c,P,h1,h2,h3,h4,h5,h6⟩:=Gr.T.tab dr (List.mem_of_find?_eq_some hdr)
      rw[hnm]at h1
      exact⟨(c,P),λ _=>⟨⟨_,h6⟩,CodeHd.of h5 h6,a',o',fd',h1,h2,h3,h4⟩⟩
    . exact⟨(0,0),λ h=>absurd h hx⟩
  obtain⟨cp,hcp⟩:=Classical.skolem.mp each
  have hcp:∀ x ∈ xs,(∃ cc,s₁.heap.TableAt cc (cp x.1).2 #[])/\CodeHd s₁.heap (cp x.1).1 (cp x.1).2/\∃ a o fd,mg x.1=some (.ref a)/\s₁.heap.get? a=some o/\o.data=.func fd/\fd.code=.ref (cp x.1).1:=λ x hx=>hcp x.1 ⟨x,hx,rfl⟩
  have hts:∀ P ∈ (xs.map λ x=>((cp x.1).2,x.2)).map (·.1),∃ x ∈ xs,P=(cp x.1).2:=λ P hP=>by
    obtain⟨t,ht,rfl⟩:=List.mem_map.mp hP
    obtain⟨x,hx,rfl⟩:=List.mem_map.mp ht
    exact⟨x,hx,rfl⟩
  have hP:∀ x ∈ xs,s₁.heap.get? (cp x.1).2=some (tabObj #[]):=λ x hx=>by
    obtain⟨⟨cc,t⟩,_⟩:=hcp x hx;exact t.2
  have hmP:mainGlobals ∉ (xs.map λ x=>((cp x.1).2,x.2)).map (·.1):=λ z=>by
    obtain⟨x,hx,ez⟩:=hts _ z
    obtain⟨o,es,ep,e,dd,_⟩:=Gr.T.g
    rw[ez,hP x hx]at e;cases e;cases dd
  obtain⟨⟨g,hgl⟩,fd,hb,hFn⟩:=G w mg fa _ (λ x=>(cp x).1) (λ x=>(cp x).2) KX Gr.T.g hmg λ x hx=>⟨hP x hx,(hcp x hx).2⟩
  refine NX (ts:=xs.map λ x=>((cp x.1).2,x.2)) (K:=AY (K w.params) (xs.map λ x=>((cp x.1).2,x.2))) (Rm KX hgl hmP) Gr.T.g Gr.T.b Gr.T.builtins Gr.T.nolimit hg hobj hints (Nat.le_trans hlen hn2) hr (λ P hp=>by obtain⟨x,hx,rfl⟩:=hts P hp;exact(hcp x hx).1) (λ P hp=>Rl hmP hp) (Ir _ _) (λ base kb nb keep=>hFn base kb nb (λ x hx=>?_) λ x hx=>?_) hb (hF ns)
  . obtain⟨oc,vs',file,tf,flags,tg,inF,text,tt,e1,r1,r2,r3,r4,r5,r6,r7,r8,hne⟩:=(hcp x hx).2.1
    have hn:(cp x.1).1 ∉ (xs.map λ x=>((cp x.1).2,x.2)).map (·.1):=λ z=>by
      obtain⟨y,hy,ez⟩:=hts _ z
      rw[ez,hP y hy]at e1;cases e1;cases r1
    exact⟨oc,vs',file,tf,flags,tg,inF,text,tt,keep (cp x.1).1 oc hn (λ z=>by rw[z,hobj]at e1;cases e1;exact absurd (show Value.type "list"=Value.type "code" from r1) (by decide)) e1,r1,r2,r3,r4,r5,r6,r7,r8,hne⟩
  . obtain⟨bm,ob,b1,b2,b3,b4,b5,b6⟩:=Gr.T.bmain
    have nP:∀ y ∈ xs,bm ≠ (cp y.1).2:=λ y hy z=>by rw[z,hP y hy]at b3;cases b3;cases b4
    have hn:bm ∉ (xs.map λ x=>((cp x.1).2,x.2)).map (·.1):=λ z=>by
      obtain⟨y,hy,ez⟩:=hts _ z
      exact nP y hy ez
    refine⟨bm,ob,b1,b2,λ z=>?_,nP x hx,keep bm ob hn (λ z=>by rw[z,hobj]at b3;cases b3;exact absurd (show Value.type "list"=Value.type "module" from b4) (by decide)) b3,b4,b5,b6⟩
    obtain⟨o,es,ep,e,dd,_⟩:=Gr.T.g
    rw[<- z,b3]at e;cases e;rw[b6]at dd;cases dd
end L2
namespace T70
open PySem L2 PySem.W PyProof.Rows
noncomputable abbrev xS:List (Str × Str × Nat × Nat):=[]
noncomputable abbrev tS(P:Str->Addr):List Tb:=xS.map λ x=>(P x.1,x.2)
theorem all_mk{l:PySem.W.OpenLaw}{w:World}{K:PySem.W.Frag}{h:Heap}{mg:Str->Option Value}{fa f0 f1 f2 f3 f4 f5 f6 f7 f8 f9 f10 f11 f12 f13 f14 f15 f16 f17 f18 f19 f20 f21 f22 f23:Addr}(X:K.In h)(G:h.Ns mainGlobals mg){c P:Str->Addr}(hfa:mg "law"=some (.ref fa))(hx:∀ x ∈ xS,h.get? (P x.1)=some (tabObj #[])/\CodeHd h (c x.1) (P x.1)/\∃ a o fd,mg x.1=some (.ref a)/\h.get? a=some o/\o.data=.func fd/\fd.code=.ref (c x.1))
    {od0 an0 od1 an1 od2 an2 od3 an3 od4 an4 od5 an5 od6 an6 od7 an7 od8 an8 od9 an9 od10 an10 od11 an11 od12 an12 od13 an13 od14 an14 od15 an15 od16 an16 od17 an17 od18 an18 od19 an19 od20 an20 od21 an21 od22 an22 od23 an23:Option Addr} {sl0 sl1 sl2 sl3 sl4 sl5 sl6 sl7 sl8 sl9 sl10 sl11 sl12 sl13 sl14 sl15 sl16 sl17 sl18 sl19 sl20 sl21 sl22 sl23:Array (Option Value)} {oc0 kV0 dc0 pm0 cd0 ct0 oc1 kV1 dc1 pm1 cd1 ct1 oc2 kV2 dc2 pm2 cd2 ct2 oc3 kV3 dc3 pm3 cd3 ct3 oc4 kV4 dc4 pm4 cd4 ct4 oc5 kV5 dc5 pm5 cd5 ct5 oc6 kV6 dc6 pm6 cd6 ct6 oc7 kV7 dc7 pm7 cd7 ct7 oc8 kV8 dc8 pm8 cd8 ct8 oc9 kV9 dc9 pm9 cd9 ct9 oc10 kV10 dc10 pm10 cd10 ct10 oc11 kV11 dc11 pm11 cd11 ct11 oc12 kV12 dc12 pm12 cd12 ct12 oc13 kV13 dc13 pm13 cd13 ct13 oc14 kV14 dc14 pm14 cd14 ct14 oc15 kV15 dc15 pm15 cd15 ct15 oc16 kV16 dc16 pm16 cd16 ct16 oc17 kV17 dc17 pm17 cd17 ct17 oc18 kV18 dc18 pm18 cd18 ct18 oc19 kV19 dc19 pm19 cd19 ct19 oc20 kV20 dc20 pm20 cd20 ct20 oc21 kV21 dc21 pm21 cd21 ct21 oc22 kV22 dc22 pm22 cd22 ct22 oc23 kV23 dc23 pm23 cd23 ct23:Value}
     (a0:PySem.W.nsIn K mainGlobals "law"=some (some (.ref f0))) (l0:K.lookup f0=some ⟨oc0,od0,.func (PySem.W.fnOf "law" "law" (Aa Di) (AU Di) (AA Di) .none kV0 dc0 pm0 an0 cd0 ct0),sl0⟩) (c0:PySem.W.codeIn K cd0 "law"=true) (k0:PySem.W.keepIn K (.ref f0)=true)
    (a1:PySem.W.nsIn K mainGlobals "same_coming"=some (some (.ref f1))) (l1:K.lookup f1=some ⟨oc1,od1,.func (PySem.W.fnOf "same_coming" "same_coming" (Aa BI) (AU BI) (AA BI) .none kV1 dc1 pm1 an1 cd1 ct1),sl1⟩) (c1:PySem.W.codeIn K cd1 "same_coming"=true) (k1:PySem.W.keepIn K (.ref f1)=true)
    (a2:PySem.W.nsIn K mainGlobals "one_coming"=some (some (.ref f2))) (l2:K.lookup f2=some ⟨oc2,od2,.func (PySem.W.fnOf "one_coming" "one_coming" (Aa BR) (AU BR) (AA BR) .none kV2 dc2 pm2 an2 cd2 ct2),sl2⟩) (c2:PySem.W.codeIn K cd2 "one_coming"=true) (k2:PySem.W.keepIn K (.ref f2)=true)
    (a3:PySem.W.nsIn K mainGlobals "refuse_other_costs"=some (some (.ref f3))) (l3:K.lookup f3=some ⟨oc3,od3,.func (PySem.W.fnOf "refuse_other_costs" "refuse_other_costs" (Aa Ai) (AU Ai) (AA Ai) .none kV3 dc3 pm3 an3 cd3 ct3),sl3⟩) (c3:PySem.W.codeIn K cd3 "refuse_other_costs"=true) (k3:PySem.W.keepIn K (.ref f3)=true)
    (a4:PySem.W.nsIn K mainGlobals "weighted_coming"=some (some (.ref f4))) (l4:K.lookup f4=some ⟨oc4,od4,.func (PySem.W.fnOf "weighted_coming" "weighted_coming" (Aa Ay) (AU Ay) (AA Ay) .none kV4 dc4 pm4 an4 cd4 ct4),sl4⟩) (c4:PySem.W.codeIn K cd4 "weighted_coming"=true) (k4:PySem.W.keepIn K (.ref f4)=true)
    (a5:PySem.W.nsIn K mainGlobals "is_forest"=some (some (.ref f5))) (l5:K.lookup f5=some ⟨oc5,od5,.func (PySem.W.fnOf "is_forest" "is_forest" (Aa Bi) (AU Bi) (AA Bi) .none kV5 dc5 pm5 an5 cd5 ct5),sl5⟩) (c5:PySem.W.codeIn K cd5 "is_forest"=true) (k5:PySem.W.keepIn K (.ref f5)=true)
    (a6:PySem.W.nsIn K mainGlobals "refuse_no_forest"=some (some (.ref f6))) (l6:K.lookup f6=some ⟨oc6,od6,.func (PySem.W.fnOf "refuse_no_forest" "refuse_no_forest" (Aa At) (AU At) (AA At) .none kV6 dc6 pm6 an6 cd6 ct6),sl6⟩) (c6:PySem.W.codeIn K cd6 "refuse_no_forest"=true) (k6:PySem.W.keepIn K (.ref f6)=true)
    (a7:PySem.W.nsIn K mainGlobals "less"=some (some (.ref f7))) (l7:K.lookup f7=some ⟨oc7,od7,.func (PySem.W.fnOf "less" "less" (Aa CV) (AU CV) (AA CV) .none kV7 dc7 pm7 an7 cd7 ct7),sl7⟩) (c7:PySem.W.codeIn K cd7 "less"=true) (k7:PySem.W.keepIn K (.ref f7)=true)
    (a8:PySem.W.nsIn K mainGlobals "falling"=some (some (.ref f8))) (l8:K.lookup f8=some ⟨oc8,od8,.func (PySem.W.fnOf "falling" "falling" (Aa Bj) (AU Bj) (AA Bj) .none kV8 dc8 pm8 an8 cd8 ct8),sl8⟩) (c8:PySem.W.codeIn K cd8 "falling"=true) (k8:PySem.W.keepIn K (.ref f8)=true)
    (a9:PySem.W.nsIn K mainGlobals "common_divisor"=some (some (.ref f9))) (l9:K.lookup f9=some ⟨oc9,od9,.func (PySem.W.fnOf "common_divisor" "common_divisor" (Aa B2) (AU B2) (AA B2) .none kV9 dc9 pm9 an9 cd9 ct9),sl9⟩) (c9:PySem.W.codeIn K cd9 "common_divisor"=true) (k9:PySem.W.keepIn K (.ref f9)=true)
    (a10:PySem.W.nsIn K mainGlobals "fraction"=some (some (.ref f10))) (l10:K.lookup f10=some ⟨oc10,od10,.func (PySem.W.fnOf "fraction" "fraction" (Aa C2) (AU C2) (AA C2) .none kV10 dc10 pm10 an10 cd10 ct10),sl10⟩) (c10:PySem.W.codeIn K cd10 "fraction"=true) (k10:PySem.W.keepIn K (.ref f10)=true)
    (a11:PySem.W.nsIn K mainGlobals "length_of"=some (some (.ref f11))) (l11:K.lookup f11=some ⟨oc11,od11,.func (PySem.W.fnOf "length_of" "length_of" (Aa Bh) (AU Bh) (AA Bh) .none kV11 dc11 pm11 an11 cd11 ct11),sl11⟩) (c11:PySem.W.codeIn K cd11 "length_of"=true) (k11:PySem.W.keepIn K (.ref f11)=true)
    (a12:PySem.W.nsIn K mainGlobals "weight_of"=some (some (.ref f12))) (l12:K.lookup f12=some ⟨oc12,od12,.func (PySem.W.fnOf "weight_of" "weight_of" (Aa Bf) (AU Bf) (AA Bf) .none kV12 dc12 pm12 an12 cd12 ct12),sl12⟩) (c12:PySem.W.codeIn K cd12 "weight_of"=true) (k12:PySem.W.keepIn K (.ref f12)=true)
    (a13:PySem.W.nsIn K mainGlobals "ratio_of"=some (some (.ref f13))) (l13:K.lookup f13=some ⟨oc13,od13,.func (PySem.W.fnOf "ratio_of" "ratio_of" (Aa BO) (AU BO) (AA BO) .none kV13 dc13 pm13 an13 cd13 ct13),sl13⟩) (c13:PySem.W.codeIn K cd13 "ratio_of"=true) (k13:PySem.W.keepIn K (.ref f13)=true)
    (a14:PySem.W.nsIn K mainGlobals "row_of"=some (some (.ref f14))) (l14:K.lookup f14=some ⟨oc14,od14,.func (PySem.W.fnOf "row_of" "row_of" (Aa CA) (AU CA) (AA CA) .none kV14 dc14 pm14 an14 cd14 ct14),sl14⟩) (c14:PySem.W.codeIn K cd14 "row_of"=true) (k14:PySem.W.keepIn K (.ref f14)=true)
    (a15:PySem.W.nsIn K mainGlobals "line_of"=some (some (.ref f15))) (l15:K.lookup f15=some ⟨oc15,od15,.func (PySem.W.fnOf "line_of" "line_of" (Aa Bg) (AU Bg) (AA Bg) .none kV15 dc15 pm15 an15 cd15 ct15),sl15⟩) (c15:PySem.W.codeIn K cd15 "line_of"=true) (k15:PySem.W.keepIn K (.ref f15)=true)
    (a16:PySem.W.nsIn K mainGlobals "joined"=some (some (.ref f16))) (l16:K.lookup f16=some ⟨oc16,od16,.func (PySem.W.fnOf "joined" "joined" (Aa CW) (AU CW) (AA CW) .none kV16 dc16 pm16 an16 cd16 ct16),sl16⟩) (c16:PySem.W.codeIn K cd16 "joined"=true) (k16:PySem.W.keepIn K (.ref f16)=true)
    (a17:PySem.W.nsIn K mainGlobals "_law_tape"=some (some (.ref f17))) (l17:K.lookup f17=some ⟨oc17,od17,.func (PySem.W.fnOf "_law_tape" "_law_tape" (Aa Do) (AU Do) (AA Do) .none kV17 dc17 pm17 an17 cd17 ct17),sl17⟩) (c17:PySem.W.codeIn K cd17 "_law_tape"=true) (k17:PySem.W.keepIn K (.ref f17)=true)
    (a18:PySem.W.nsIn K mainGlobals "_law_pick"=some (some (.ref f18))) (l18:K.lookup f18=some ⟨oc18,od18,.func (PySem.W.fnOf "_law_pick" "_law_pick" (Aa Cn) (AU Cn) (AA Cn) .none kV18 dc18 pm18 an18 cd18 ct18),sl18⟩) (c18:PySem.W.codeIn K cd18 "_law_pick"=true) (k18:PySem.W.keepIn K (.ref f18)=true)
    (a19:PySem.W.nsIn K mainGlobals "_law_works"=some (some (.ref f19))) (l19:K.lookup f19=some ⟨oc19,od19,.func (PySem.W.fnOf "_law_works" "_law_works" (Aa DB) (AU DB) (AA DB) .none kV19 dc19 pm19 an19 cd19 ct19),sl19⟩) (c19:PySem.W.codeIn K cd19 "_law_works"=true) (k19:PySem.W.keepIn K (.ref f19)=true)
    (a20:PySem.W.nsIn K mainGlobals "_law_forest"=some (some (.ref f20))) (l20:K.lookup f20=some ⟨oc20,od20,.func (PySem.W.fnOf "_law_forest" "_law_forest" (Aa CY) (AU CY) (AA CY) .none kV20 dc20 pm20 an20 cd20 ct20),sl20⟩) (c20:PySem.W.codeIn K cd20 "_law_forest"=true) (k20:PySem.W.keepIn K (.ref f20)=true)
    (a21:PySem.W.nsIn K mainGlobals "_law_sums"=some (some (.ref f21))) (l21:K.lookup f21=some ⟨oc21,od21,.func (PySem.W.fnOf "_law_sums" "_law_sums" (Aa DK) (AU DK) (AA DK) .none kV21 dc21 pm21 an21 cd21 ct21),sl21⟩) (c21:PySem.W.codeIn K cd21 "_law_sums"=true) (k21:PySem.W.keepIn K (.ref f21)=true)
    (a22:PySem.W.nsIn K mainGlobals "_law_parts"=some (some (.ref f22))) (l22:K.lookup f22=some ⟨oc22,od22,.func (PySem.W.fnOf "_law_parts" "_law_parts" (Aa DC) (AU DC) (AA DC) .none kV22 dc22 pm22 an22 cd22 ct22),sl22⟩) (c22:PySem.W.codeIn K cd22 "_law_parts"=true) (k22:PySem.W.keepIn K (.ref f22)=true)
    (a23:PySem.W.nsIn K mainGlobals "_law_holds"=some (some (.ref f23))) (l23:K.lookup f23=some ⟨oc23,od23,.func (PySem.W.fnOf "_law_holds" "_law_holds" (Aa DD) (AU DD) (AA DD) .none kV23 dc23 pm23 an23 cd23 ct23),sl23⟩) (c23:PySem.W.codeIn K cd23 "_law_holds"=true) (k23:PySem.W.keepIn K (.ref f23)=true)
    (z_list:PySem.W.nsIn K mainGlobals "list"=some none)
    (z_tuple:PySem.W.nsIn K mainGlobals "tuple"=some none)
    (z_len:PySem.W.nsIn K mainGlobals "len"=some none)
    (z_range:PySem.W.nsIn K mainGlobals "range"=some none)
    (z_repr:PySem.W.nsIn K mainGlobals "repr"=some none)
    (z_sum:PySem.W.nsIn K mainGlobals "sum"=some none)
    (z_min:PySem.W.nsIn K mainGlobals "min"=some none)
    (z_max:PySem.W.nsIn K mainGlobals "max"=some none)
    (z_abs:PySem.W.nsIn K mainGlobals "abs"=some none)
    (z_all:PySem.W.nsIn K mainGlobals "all"=some none)
    (z_any:PySem.W.nsIn K mainGlobals "any"=some none)
    (z_sorted:PySem.W.nsIn K mainGlobals "sorted"=some none)
    (z_zip:PySem.W.nsIn K mainGlobals "zip"=some none)
    (z_isinstance:PySem.W.nsIn K mainGlobals "isinstance"=some none)
    (z_int:PySem.W.nsIn K mainGlobals "int"=some none)
    (z_bool:PySem.W.nsIn K mainGlobals "bool"=some none)
    (z_str:PySem.W.nsIn K mainGlobals "str"=some none)
    (z_set:PySem.W.nsIn K mainGlobals "set"=some none)
    (z_enumerate:PySem.W.nsIn K mainGlobals "enumerate"=some none)
    (z_reversed:PySem.W.nsIn K mainGlobals "reversed"=some none)
    (z_dict:PySem.W.nsIn K mainGlobals "dict"=some none) :
    (∃ g,K.lookup mainGlobals=some g)/\∃ fd:FuncData,(∀ (s:Shared) (v:Value),BindsTo s fd ⟨[v],[]⟩ [("_law_script",v)])/\∀ base:Heap,(AY K (tS P)).In base->base.Ns mainGlobals mg->(∀ x ∈ xS,CodeHd base (c x.1) (P x.1))->(∀ x ∈ xS,base.BuiltinsAt mg (P x.1))->FnOk l.prog w (AY K (tS P)) mg base CX0 24 fa fd ["_law_script"] (spF (AY K (tS P)) 1 F_law):=by
  have hP:∀ P' ∈ (tS P).map (·.1),h.get? P'=some (tabObj #[]):=λ P' hp=>by
    obtain⟨t,ht,rfl⟩:=List.mem_map.mp hp
    obtain⟨x,hxx,rfl⟩:=List.mem_map.mp ht
    exact(hx x hxx).1
  have e:=hfa.symm.trans (PySem.W.mg_of X G a0)
  cases e
  have F0:=Fun.mark (ts:=tS P) (B0 (st:=Di) l0 c0 k0) X hP
  have D0:DefAt (AY K (tS P)) mg "law" Di _ _ ["_law_script"]:=⟨F0,PySem.W.mg_of X G a0,F0.binds (ps:=["_law_script"]) λ _ _ _ _ _ _ us hl=>match us,hl with | [_],_=>rfl⟩
  have F1:=Fun.mark (ts:=tS P) (B0 (st:=BI) l1 c1 k1) X hP
  have D1:DefAt (AY K (tS P)) mg "same_coming" BI _ _ ["works"]:=⟨F1,PySem.W.mg_of X G a1,F1.binds (ps:=["works"]) λ _ _ _ _ _ _ us hl=>match us,hl with | [_],_=>rfl⟩
  have F2:=Fun.mark (ts:=tS P) (B0 (st:=BR) l2 c2 k2) X hP
  have D2:DefAt (AY K (tS P)) mg "one_coming" BR _ _ ["works"]:=⟨F2,PySem.W.mg_of X G a2,F2.binds (ps:=["works"]) λ _ _ _ _ _ _ us hl=>match us,hl with | [_],_=>rfl⟩
  have F3:=Fun.mark (ts:=tS P) (B0 (st:=Ai) l3 c3 k3) X hP
  have D3:DefAt (AY K (tS P)) mg "refuse_other_costs" Ai _ _ ["works","word"]:=⟨F3,PySem.W.mg_of X G a3,F3.binds (ps:=["works","word"]) λ _ _ _ _ _ _ us hl=>match us,hl with | [_,_],_=>rfl⟩
  have F4:=Fun.mark (ts:=tS P) (B0 (st:=Ay) l4 c4 k4) X hP
  have D4:DefAt (AY K (tS P)) mg "weighted_coming" Ay _ _ ["works"]:=⟨F4,PySem.W.mg_of X G a4,F4.binds (ps:=["works"]) λ _ _ _ _ _ _ us hl=>match us,hl with | [_],_=>rfl⟩
  have F5:=Fun.mark (ts:=tS P) (B0 (st:=Bi) l5 c5 k5) X hP
  have D5:DefAt (AY K (tS P)) mg "is_forest" Bi _ _ ["many","wishes"]:=⟨F5,PySem.W.mg_of X G a5,F5.binds (ps:=["many","wishes"]) λ _ _ _ _ _ _ us hl=>match us,hl with | [_,_],_=>rfl⟩
  have F6:=Fun.mark (ts:=tS P) (B0 (st:=At) l6 c6 k6) X hP
  have D6:DefAt (AY K (tS P)) mg "refuse_no_forest" At _ _ ["works","wishes"]:=⟨F6,PySem.W.mg_of X G a6,F6.binds (ps:=["works","wishes"]) λ _ _ _ _ _ _ us hl=>match us,hl with | [_,_],_=>rfl⟩
  have F7:=Fun.mark (ts:=tS P) (B0 (st:=CV) l7 c7 k7) X hP
  have D7:DefAt (AY K (tS P)) mg "less" CV _ _ ["one","other"]:=⟨F7,PySem.W.mg_of X G a7,F7.binds (ps:=["one","other"]) λ _ _ _ _ _ _ us hl=>match us,hl with | [_,_],_=>rfl⟩
  have F8:=Fun.mark (ts:=tS P) (B0 (st:=Bj) l8 c8 k8) X hP
  have D8:DefAt (AY K (tS P)) mg "falling" Bj _ _ ["ratios"]:=⟨F8,PySem.W.mg_of X G a8,F8.binds (ps:=["ratios"]) λ _ _ _ _ _ _ us hl=>match us,hl with | [_],_=>rfl⟩
  have F9:=Fun.mark (ts:=tS P) (B0 (st:=B2) l9 c9 k9) X hP
  have D9:DefAt (AY K (tS P)) mg "common_divisor" B2 _ _ ["one","other"]:=⟨F9,PySem.W.mg_of X G a9,F9.binds (ps:=["one","other"]) λ _ _ _ _ _ _ us hl=>match us,hl with | [_,_],_=>rfl⟩
  have F10:=Fun.mark (ts:=tS P) (B0 (st:=C2) l10 c10 k10) X hP
  have D10:DefAt (AY K (tS P)) mg "fraction" C2 _ _ ["top","bottom"]:=⟨F10,PySem.W.mg_of X G a10,F10.binds (ps:=["top","bottom"]) λ _ _ _ _ _ _ us hl=>match us,hl with | [_,_],_=>rfl⟩
  have F11:=Fun.mark (ts:=tS P) (B0 (st:=Bh) l11 c11 k11) X hP
  have D11:DefAt (AY K (tS P)) mg "length_of" Bh _ _ ["works","some"]:=⟨F11,PySem.W.mg_of X G a11,F11.binds (ps:=["works","some"]) λ _ _ _ _ _ _ us hl=>match us,hl with | [_,_],_=>rfl⟩
  have F12:=Fun.mark (ts:=tS P) (B0 (st:=Bf) l12 c12 k12) X hP
  have D12:DefAt (AY K (tS P)) mg "weight_of" Bf _ _ ["work"]:=⟨F12,PySem.W.mg_of X G a12,F12.binds (ps:=["work"]) λ _ _ _ _ _ _ us hl=>match us,hl with | [_],_=>rfl⟩
  have F13:=Fun.mark (ts:=tS P) (B0 (st:=BO) l13 c13 k13) X hP
  have D13:DefAt (AY K (tS P)) mg "ratio_of" BO _ _ ["works","some"]:=⟨F13,PySem.W.mg_of X G a13,F13.binds (ps:=["works","some"]) λ _ _ _ _ _ _ us hl=>match us,hl with | [_,_],_=>rfl⟩
  have F14:=Fun.mark (ts:=tS P) (B0 (st:=CA) l14 c14 k14) X hP
  have D14:DefAt (AY K (tS P)) mg "row_of" CA _ _ ["works","wishes","a"]:=⟨F14,PySem.W.mg_of X G a14,F14.binds (ps:=["works","wishes","a"]) λ _ _ _ _ _ _ us hl=>match us,hl with | [_,_,_],_=>rfl⟩
  have F15:=Fun.mark (ts:=tS P) (B0 (st:=Bg) l15 c15 k15) X hP
  have D15:DefAt (AY K (tS P)) mg "line_of" Bg _ _ ["works","wishes","some"]:=⟨F15,PySem.W.mg_of X G a15,F15.binds (ps:=["works","wishes","some"]) λ _ _ _ _ _ _ us hl=>match us,hl with | [_,_,_],_=>rfl⟩
  have F16:=Fun.mark (ts:=tS P) (B0 (st:=CW) l16 c16 k16) X hP
  have D16:DefAt (AY K (tS P)) mg "joined" CW _ _ ["works","wishes"]:=⟨F16,PySem.W.mg_of X G a16,F16.binds (ps:=["works","wishes"]) λ _ _ _ _ _ _ us hl=>match us,hl with | [_,_],_=>rfl⟩
  have F17:=Fun.mark (ts:=tS P) (B0 (st:=Do) l17 c17 k17) X hP
  have D17:DefAt (AY K (tS P)) mg "_law_tape" Do _ _ ["_law_script"]:=⟨F17,PySem.W.mg_of X G a17,F17.binds (ps:=["_law_script"]) λ _ _ _ _ _ _ us hl=>match us,hl with | [_],_=>rfl⟩
  have F18:=Fun.mark (ts:=tS P) (B0 (st:=Cn) l18 c18 k18) X hP
  have D18:DefAt (AY K (tS P)) mg "_law_pick" Cn _ _ ["_law_tape_here","_law_many"]:=⟨F18,PySem.W.mg_of X G a18,F18.binds (ps:=["_law_tape_here","_law_many"]) λ _ _ _ _ _ _ us hl=>match us,hl with | [_,_],_=>rfl⟩
  have F19:=Fun.mark (ts:=tS P) (B0 (st:=DB) l19 c19 k19) X hP
  have D19:DefAt (AY K (tS P)) mg "_law_works" DB _ _ ["_law_tape_here","_law_many"]:=⟨F19,PySem.W.mg_of X G a19,F19.binds (ps:=["_law_tape_here","_law_many"]) λ _ _ _ _ _ _ us hl=>match us,hl with | [_,_],_=>rfl⟩
  have F20:=Fun.mark (ts:=tS P) (B0 (st:=CY) l20 c20 k20) X hP
  have D20:DefAt (AY K (tS P)) mg "_law_forest" CY _ _ ["_law_tape_here","_law_many"]:=⟨F20,PySem.W.mg_of X G a20,F20.binds (ps:=["_law_tape_here","_law_many"]) λ _ _ _ _ _ _ us hl=>match us,hl with | [_,_],_=>rfl⟩
  have F21:=Fun.mark (ts:=tS P) (B0 (st:=DK) l21 c21 k21) X hP
  have D21:DefAt (AY K (tS P)) mg "_law_sums" DK _ _ ["_law_works_here","_law_some"]:=⟨F21,PySem.W.mg_of X G a21,F21.binds (ps:=["_law_works_here","_law_some"]) λ _ _ _ _ _ _ us hl=>match us,hl with | [_,_],_=>rfl⟩
  have F22:=Fun.mark (ts:=tS P) (B0 (st:=DC) l22 c22 k22) X hP
  have D22:DefAt (AY K (tS P)) mg "_law_parts" DC _ _ ["_law_many"]:=⟨F22,PySem.W.mg_of X G a22,F22.binds (ps:=["_law_many"]) λ _ _ _ _ _ _ us hl=>match us,hl with | [_],_=>rfl⟩
  have F23:=Fun.mark (ts:=tS P) (B0 (st:=DD) l23 c23 k23) X hP
  have D23:DefAt (AY K (tS P)) mg "_law_holds" DD _ _ ["_law_works_here","_law_up","_law_block"]:=⟨F23,PySem.W.mg_of X G a23,F23.binds (ps:=["_law_works_here","_law_up","_law_block"]) λ _ _ _ _ _ _ us hl=>match us,hl with | [_,_,_],_=>rfl⟩
  have B:BltA mg:=⟨PySem.W.mg_none_of X G z_list,PySem.W.mg_none_of X G z_tuple,PySem.W.mg_none_of X G z_len,PySem.W.mg_none_of X G z_range,PySem.W.mg_none_of X G z_repr,PySem.W.mg_none_of X G z_sum,PySem.W.mg_none_of X G z_min,PySem.W.mg_none_of X G z_max,PySem.W.mg_none_of X G z_abs,PySem.W.mg_none_of X G z_all,PySem.W.mg_none_of X G z_any,PySem.W.mg_none_of X G z_sorted,PySem.W.mg_none_of X G z_zip,PySem.W.mg_none_of X G z_isinstance,PySem.W.mg_none_of X G z_int,PySem.W.mg_none_of X G z_bool,PySem.W.mg_none_of X G z_str,PySem.W.mg_none_of X G z_set,PySem.W.mg_none_of X G z_enumerate,PySem.W.mg_none_of X G z_reversed,PySem.W.mg_none_of X G z_dict⟩

  have nd:((G6 (AY K (tS P))).map (·.1)).Nodup:=by rw[Ir];simp
  have hg:∃ g,K.lookup mainGlobals=some g:=by
    cases e:K.lookup mainGlobals with
    | some g=>exact⟨g,rfl⟩
    | none=>have z:=a0;unfold PySem.W.nsIn at z;rw[e]at z;cases z
  refine⟨hg,PySem.W.fnOf "law" "law" (Aa Di) (AU Di) (AA Di) .none kV0 dc0 pm0 an0 cd0 ct0,λ s v=>.of_eq rfl,λ base _ _ hd bl=>?_⟩

  have G_same_coming:=T70.ok_same_coming (P:=l.prog) (w:=w) (base:=base) D1  B
  have G_one_coming:=T70.ok_one_coming (P:=l.prog) (w:=w) (base:=base) D2 D1 G_same_coming B
  have G_refuse_other_costs:=T70.ok_refuse_other_costs (P:=l.prog) (w:=w) (base:=base) D3  B
  have G_weighted_coming:=T70.ok_weighted_coming (P:=l.prog) (w:=w) (base:=base) D4 D2 G_one_coming D3 G_refuse_other_costs B
  have G_is_forest:=T70.ok_is_forest (P:=l.prog) (w:=w) (base:=base) D5  B
  have G_refuse_no_forest:=T70.ok_refuse_no_forest (P:=l.prog) (w:=w) (base:=base) D6 D4 G_weighted_coming D5 G_is_forest B
  have G_less:=T70.ok_less (P:=l.prog) (w:=w) (base:=base) D7  B
  have G_falling:=T70.ok_falling (P:=l.prog) (w:=w) (base:=base) D8 D7 G_less B
  have G_common_divisor:=T70.ok_common_divisor (P:=l.prog) (w:=w) (base:=base) D9  B
  have G_fraction:=T70.ok_fraction (P:=l.prog) (w:=w) (base:=base) D10 D9 G_common_divisor B
  have G_length_of:=T70.ok_length_of (P:=l.prog) (w:=w) (base:=base) D11  B
  have G_weight_of:=T70.ok_weight_of (P:=l.prog) (w:=w) (base:=base) D12  B
  have G_ratio_of:=T70.ok_ratio_of (P:=l.prog) (w:=w) (base:=base) D13 D10 G_fraction D11 G_length_of D12 G_weight_of B
  have G_row_of:=T70.ok_row_of (P:=l.prog) (w:=w) (base:=base) D14 D7 G_less D8 G_falling D13 G_ratio_of D15 B
  have G_line_of:=T70.ok_line_of (P:=l.prog) (w:=w) (base:=base) D15 D7 G_less D8 G_falling D13 G_ratio_of D14 B
  have G_joined:=T70.ok_joined (P:=l.prog) (w:=w) (base:=base) D16 D6 G_refuse_no_forest D15 G_line_of B
  have G_tape:=T70.ok_tape (P:=l.prog) (w:=w) (base:=base) D17  B
  have G_pick:=T70.ok_pick (P:=l.prog) (w:=w) (base:=base) D18  B
  have G_works:=T70.ok_works (P:=l.prog) (w:=w) (base:=base) D19 D18 G_pick B
  have G_forest:=T70.ok_forest (P:=l.prog) (w:=w) (base:=base) D20 D18 G_pick B
  have G_sums:=T70.ok_sums (P:=l.prog) (w:=w) (base:=base) D21  B
  have G_parts:=T70.ok_parts (P:=l.prog) (w:=w) (base:=base) D22  B
  have G_holds:=T70.ok_holds (P:=l.prog) (w:=w) (base:=base) D23 D21 G_sums D22 G_parts B
  have G_law:=T70.ok_law (P:=l.prog) (w:=w) (base:=base) D0 D16 G_joined D17 G_tape D18 G_pick D19 G_works D20 G_forest D21 G_sums D23 G_holds B
  exact G_law
end T70
open PySem PySem.W PyProof.Rows
set_option maxRecDepth 100000 in
set_option maxHeartbeats 0 in
theorem PySem.Challenge.cw_benchdays_k70_whole_blocks_hold_together_holds : PySem.Challenge.rw_benchdays_k70_whole_blocks_hold_together.Holds := by
  w_on;o_law;k_head;(case hw=>w_witness2)
  k_fill
  refine L2.walkL T70.xS (l:=PySem.Challenge.rw_benchdays_k70_whole_blocks_hold_together) (n:=63) (k:=24) (F:=T70.F_law) rfl (by decide) rfl ⟨rfl,by decide,by decide,rfl⟩ (by intro x hx;cases hx) T70.law_eq (λ w h Y=>PySem.W.kIn_of Y) ?F
  case F=>
    intro w mg fa h c P KX G hmg hx
    refine' T70.all_mk KX G hmg hx ?a0 ?l0 ?c0 ?k0 ?a1 ?l1 ?c1 ?k1 ?a2 ?l2 ?c2 ?k2 ?a3 ?l3 ?c3 ?k3 ?a4 ?l4 ?c4 ?k4 ?a5 ?l5 ?c5 ?k5 ?a6 ?l6 ?c6 ?k6 ?a7 ?l7 ?c7 ?k7 ?a8 ?l8 ?c8 ?k8 ?a9 ?l9 ?c9 ?k9 ?a10 ?l10 ?c10 ?k10 ?a11 ?l11 ?c11 ?k11 ?a12 ?l12 ?c12 ?k12 ?a13 ?l13 ?c13 ?k13 ?a14 ?l14 ?c14 ?k14 ?a15 ?l15 ?c15 ?k15 ?a16 ?l16 ?c16 ?k16 ?a17 ?l17 ?c17 ?k17 ?a18 ?l18 ?c18 ?k18 ?a19 ?l19 ?c19 ?k19 ?a20 ?l20 ?c20 ?k20 ?a21 ?l21 ?c21 ?k21 ?a22 ?l22 ?c22 ?k22 ?a23 ?l23 ?c23 ?k23 ?z_list ?z_tuple ?z_len ?z_range ?z_repr ?z_sum ?z_min ?z_max ?z_abs ?z_all ?z_any ?z_sorted ?z_zip ?z_isinstance ?z_int ?z_bool ?z_str ?z_set ?z_enumerate ?z_reversed ?z_dict
    (case a0=>k_is)
    (case l0=>k_is)
    (case c0=>k_is)
    (case k0=>k_is)
    (case a1=>k_is)
    (case l1=>k_is)
    (case c1=>k_is)
    (case k1=>k_is)
    (case a2=>k_is)
    (case l2=>k_is)
    (case c2=>k_is)
    (case k2=>k_is)
    (case a3=>k_is)
    (case l3=>k_is)
    (case c3=>k_is)
    (case k3=>k_is)
    (case a4=>k_is)
    (case l4=>k_is)
    (case c4=>k_is)
    (case k4=>k_is)
    (case a5=>k_is)
    (case l5=>k_is)
    (case c5=>k_is)
    (case k5=>k_is)
    (case a6=>k_is)
    (case l6=>k_is)
    (case c6=>k_is)
    (case k6=>k_is)
    (case a7=>k_is)
    (case l7=>k_is)
    (case c7=>k_is)
    (case k7=>k_is)
    (case a8=>k_is)
    (case l8=>k_is)
    (case c8=>k_is)
    (case k8=>k_is)
    (case a9=>k_is)
    (case l9=>k_is)
    (case c9=>k_is)
    (case k9=>k_is)
    (case a10=>k_is)
    (case l10=>k_is)
    (case c10=>k_is)
    (case k10=>k_is)
    (case a11=>k_is)
    (case l11=>k_is)
    (case c11=>k_is)
    (case k11=>k_is)
    (case a12=>k_is)
    (case l12=>k_is)
    (case c12=>k_is)
    (case k12=>k_is)
    (case a13=>k_is)
    (case l13=>k_is)
    (case c13=>k_is)
    (case k13=>k_is)
    (case a14=>k_is)
    (case l14=>k_is)
    (case c14=>k_is)
    (case k14=>k_is)
    (case a15=>k_is)
    (case l15=>k_is)
    (case c15=>k_is)
    (case k15=>k_is)
    (case a16=>k_is)
    (case l16=>k_is)
    (case c16=>k_is)
    (case k16=>k_is)
    (case a17=>k_is)
    (case l17=>k_is)
    (case c17=>k_is)
    (case k17=>k_is)
    (case a18=>k_is)
    (case l18=>k_is)
    (case c18=>k_is)
    (case k18=>k_is)
    (case a19=>k_is)
    (case l19=>k_is)
    (case c19=>k_is)
    (case k19=>k_is)
    (case a20=>k_is)
    (case l20=>k_is)
    (case c20=>k_is)
    (case k20=>k_is)
    (case a21=>k_is)
    (case l21=>k_is)
    (case c21=>k_is)
    (case k21=>k_is)
    (case a22=>k_is)
    (case l22=>k_is)
    (case c22=>k_is)
    (case k22=>k_is)
    (case a23=>k_is)
    (case l23=>k_is)
    (case c23=>k_is)
    (case k23=>k_is)
    (case z_list=>k_is)
    (case z_tuple=>k_is)
    (case z_len=>k_is)
    (case z_range=>k_is)
    (case z_repr=>k_is)
    (case z_sum=>k_is)
    (case z_min=>k_is)
    (case z_max=>k_is)
    (case z_abs=>k_is)
    (case z_all=>k_is)
    (case z_any=>k_is)
    (case z_sorted=>k_is)
    (case z_zip=>k_is)
    (case z_isinstance=>k_is)
    (case z_int=>k_is)
    (case z_bool=>k_is)
    (case z_str=>k_is)
    (case z_set=>k_is)
    (case z_enumerate=>k_is)
    (case z_reversed=>k_is)
    (case z_dict=>k_is)
