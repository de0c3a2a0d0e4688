import PyProof.Rows.All
import Wide.All
import OpenK.AllK
import Wide.FinOn
import Lean
import PyProof.EqAt
import PyProof.EqKinds
import PyProof.TupleCall
import KE.KSortKey
import PyProof.ListMulRoad
import PyProof.Draws
import PyProof.EnumMake
import PyProof.ListNew
import KE.KRevIter
import KE.KMinKey
import PySem.Challenge.RW_benchdays_k12_ends_and_costs
set_option Elab.async false
set_option linter.all false
set_option maxRecDepth 100000
set_option compiler.extract_closed false
local macro_rules | `(tactic| omega) => `(tactic| first | lia | omega (config := {}))
namespace L2
open PySem PySem.Spec PyProof.Rows
noncomputable abbrev Key:=Sum Int Str
noncomputable def Gx:Key->Value->Bool
  | .inl k,v=>Value.isInt k v
  | .inr x,v=>Value.isStrOf x v
noncomputable def Wm(w:World):Key->Int
  | .inl k=>hashInt k
  | .inr x=>hashStr w x
theorem Bh:∀ {k:Key} {v:Value},Gx k v=true->(∃ i t,k=Sum.inl i/\v=Value.int i t) ∨ (∃ x t,k=Sum.inr x/\v=Value.str x t)
  | .inl i,v,h=>by
    obtain⟨t,e⟩:=Value.isInt_shape (k:=i) (v:=v) h
    exact .inl ⟨i,t,rfl,e⟩
  | .inr x,v,h=>by
    obtain⟨t,e⟩:=Value.isStrOf_shape (x:=x) (v:=v) h
    exact .inr ⟨x,t,rfl,e⟩
theorem Oh(i:Int)(t:Tok):Gx (.inl i) (.int i t)=true:=by simp[Gx,Value.isInt]
theorem Og(x:Str)(t:Tok):Gx (.inr x) (.str x t)=true:=by simp[Gx,Value.isStrOf]
theorem VC(a b:Int):decide ((Sum.inl a:Key)=Sum.inl b)=(a == b):=by
  by_cases e:a=b
  . subst e;simp
  . have h:¬ (Sum.inl a:Key)=Sum.inl b:=λ q=>e (Sum.inl.inj q)
    rw[decide_eq_false h]
    exact(beq_eq_false_iff_ne.mpr e).symm
theorem V9(a b:Str):decide ((Sum.inr a:Key)=Sum.inr b)=decide (a=b):=by
  by_cases e:a=b
  . subst e;simp
  . have h:¬ (Sum.inr a:Key)=Sum.inr b:=λ q=>e (Sum.inr.inj q)
    rw[decide_eq_false h,decide_eq_false e]
theorem VB(a:Int)(b:Str):decide ((Sum.inl a:Key)=Sum.inr b)=false:=decide_eq_false (λ q=>nomatch q)
theorem VA(a:Str)(b:Int):decide ((Sum.inr a:Key)=Sum.inl b)=false:=decide_eq_false (λ q=>nomatch q)
noncomputable def BZ(prog:Program)(w:World):PySem.KeyKind prog w Key where
  is:=Gx
  hash:=Wm w
  inj:=λ v a b ha hb=>by
    rcases Bh ha with⟨i,t,rfl,rfl⟩|⟨x,t,rfl,rfl⟩
    . rcases Bh hb with⟨j,u,rfl,e⟩|⟨y,u,rfl,e⟩
      . injection e with e1 _;rw[e1]
      . exact nomatch e
    . rcases Bh hb with⟨j,u,rfl,e⟩|⟨y,u,rfl,e⟩
      . exact nomatch e
      . injection e with e1 _;rw[e1]
  byValue:=λ k v h=>by
    rcases Bh h with⟨i,t,rfl,rfl⟩|⟨x,t,rfl,rfl⟩ <;> rfl
  pyHash:=λ hv h=>by
    rcases Bh hv with⟨i,t,rfl,rfl⟩|⟨x,t,rfl,rfl⟩
    . exact wpAny_pyHash_int h
    . exact wpAny_pyHash_str h
  eqBool:=λ hu hv h=>by
    rcases Bh hu with⟨i,t,rfl,rfl⟩|⟨x,t,rfl,rfl⟩
    . rcases Bh hv with⟨j,u,rfl,rfl⟩|⟨y,u,rfl,rfl⟩
      . rw[VC]at h;exact wpAny_eqBool_int h
      . rw[VB]at h;exact SeqAt.EqAt.int_str i t y u _ _ _ _ h
    . rcases Bh hv with⟨j,u,rfl,rfl⟩|⟨y,u,rfl,rfl⟩
      . rw[VA]at h;exact SeqAt.EqAt.str_int x t j u _ _ _ _ h
      . rw[V9]at h;exact wpAny_eqBool_str h
  «strs»:=λ k x t v h=>by
    rcases Bh h with⟨i,u,rfl,e⟩|⟨y,u,rfl,e⟩
    . exact nomatch e
    . injection e with e1 _
      subst e1
      cases v <;> rfl
theorem Lh(prog:Program)(w:World)(i:Int)(t:Tok):(BZ prog w).is (.inl i) (.int i t)=true:=Oh i t
theorem Lg(prog:Program)(w:World)(x:Str)(t:Tok):(BZ prog w).is (.inr x) (.str x t)=true:=Og x t
end L2
namespace L2
open PySem PySem.Spec PyProof.Rows
inductive V where
  | non|bl (b:Bool)|int (i:Int)|str (x:Str)|byt (b:Array UInt8)|flt (b:UInt64)|ref (a:Addr)|ty (n:String)
  deriving DecidableEq
noncomputable def RelV:V->Value->Prop
  | .non,u=>u=Value.none
  | .bl b,u=>u=Value.bool b
  | .int i,u=>∃ t,u=Value.int i t
  | .str x,u=>∃ t,u=Value.str x t
  | .byt b,u=>∃ t,u=Value.bytes b t
  | .flt b,u=>∃ t,u=Value.float b t
  | .ref a,u=>u=Value.ref a
  | .ty n,u=>u=Value.type n
noncomputable abbrev Vals:List V->List Value->Prop:=Paired RelV
theorem Vals.length{xs:List V}{us:List Value}(r:Vals xs us):xs.length=us.length:=Paired.length r
theorem Vals.get:∀ {xs:List V} {us:List Value} {i:Nat} {x:V},Vals xs us->xs[i]? = some x->∃ u,us[i]? = some u/\RelV x u
  | _,_,_,_,.nil,e=>by simp at e
  | _,_,0,_,.cons r _,e=>by simp at e;subst e;exact⟨_,rfl,r⟩
  | _,_,i + 1,x,.cons _ t,e=>by
    obtain⟨u,h1,h2⟩:=Vals.get (i:=i) (x:=x) t (by simpa using e)
    exact⟨u,by simpa using h1,h2⟩
theorem Vals.set{x:V}{u:Value}(r:RelV x u):∀ {xs:List V} {us:List Value} (i:Nat),Vals xs us->Vals (xs.set i x) (us.set i u)
  | _,_,_,.nil=>.nil
  | _,_,0,.cons _ t=>.cons r t
  | _,_,i + 1,.cons q t=>.cons q (Vals.set r i t)
theorem Vals.append:∀ {xs ys:List V} {us ws:List Value},Vals xs us->Vals ys ws->Vals (xs ++ ys) (us ++ ws)
  | _,_,_,_,.nil,s=>s
  | _,_,_,_,.cons r t,s=>.cons r (Vals.append t s)
theorem Vals.take:∀ {xs:List V} {us:List Value} (n:Nat),Vals xs us->Vals (xs.take n) (us.take n)
  | _,_,0,_=>.nil
  | _,_,_ + 1,.nil=>.nil
  | _,_,n + 1,.cons r t=>.cons r (Vals.take n t)
theorem Vals.drop:∀ {xs:List V} {us:List Value} (n:Nat),Vals xs us->Vals (xs.drop n) (us.drop n)
  | _,_,0,r=>r
  | _,_,_ + 1,.nil=>.nil
  | _,_,n + 1,.cons _ t=>Vals.drop n t
noncomputable def RelO:Option V->Option Value->Prop
  | some v,some u=>RelV v u
  | none,none=>True
  | _,_=>False
noncomputable def KV{κ:Type}:List (κ × V)->List (κ × Value)->Prop:=Paired λ(p:κ × V) (q:κ × Value)=>p.1=q.1/\RelV p.2 q.2
noncomputable def kV:Key->V
  | .inl i=>.int i
  | .inr x=>.str x
inductive HO where
  /-- a list -/
  | lst (xs:List V)
  /-- a tuple (never changes) -/
  | tup (xs:List V)
  /-- a dict whose keys are ints and texts;one whose keys are tuples of ints and texts (the empty one is both) -/
  | dK (kvs:List (Key × V))|dT (kvs:List (List Key × V))
  /-- a set of ints: its members,its size -/
  | set (S:Int->Bool) (n:Nat)
  /-- an instance of the class at C,its dict at dx,its attributes -/
  | ins (C dx:Addr) (fs:List (Str × V))
  /-- the dict of the instance at x -/
  | own (x:Addr)
  /-- the dict of an exception -/
  | xd (fs:List (Str × V))
  /-- a bound method,f of x -/
  | met (f x:Addr)
  /-- a range object lo,lo + 1,.. below hi -/
  | rng (lo hi:Int)
  /-- a thing that is known to the object (the script;a dict while a loop walks it): read,never written while it is so -/
  | frz (o:Obj) (u:HO)
  /-- a code object's table -/
  | tbl (ps:Array Value)
  /-- any other thing,by what is true of its one object (a def of one's own: SetO a S n:=HO.ext λ h=>..) -/
  | ext (φ:Heap->Prop)
noncomputable abbrev Hp:=Addr->Option HO
noncomputable def upd(H:Hp)(a:Addr)(o:HO):Hp:=λ b=>if b=a then some o else H b
theorem AT{H:Hp}{a:Addr}{o:HO}:upd H a o a=some o:=by unfold upd;rw[if_pos rfl]
theorem AD{H:Hp}{a b:Addr}{o:HO}(h:b ≠ a):upd H a o b=H b:=by unfold upd;rw[if_neg h]
theorem W1{H:Hp}{a b:Addr}{o u:HO}(h:H a=some o)(h':H b=some u)(d:o ≠ u):a ≠ b:=by
  intro e;subst e;rw[h]at h';exact d (Option.some.inj h')
theorem AX{H:Hp}{a b:Addr}{o:HO}(h:H a=some o)(h':H b=none):a ≠ b:=by
  intro e;subst e;rw[h]at h';cases h'
noncomputable def IsTupD(h:Heap)(a:Addr)(items:Array Value):Prop:=∃ o,h.get? a=some o/\o.cls=.type "tuple"/\(∃ n,o.data=.seq items n)/\o.dict=none
theorem IsTupD.t{h:Heap}{a:Addr}{items:Array Value}(x:IsTupD h a items):IsTup h a items:=let ⟨o,e,c,d,_⟩:=x;⟨o,e,c,d⟩
theorem IsTupD.new(h:Heap)(items:Array Value):IsTupD (h.push { cls:=.type "tuple",data:=.seq items }) h.objs.size items:=⟨_,Heap.get?_push_size _ rfl,rfl,⟨_,rfl⟩,rfl⟩
section
variable(P:Program)(w:World)
noncomputable def ObjOk(H:Hp)(h:Heap)(a:Addr):HO->Prop
  | .lst xs=>xs.length <= sizeLine/\∃ (its:List Value) (n:Nat),Vals xs its/\h.get? a=some { cls:=.type "list",data:=.seq its.toArray n }
  | .tup xs=>xs.length <= sizeLine/\∃ its:List Value,Vals xs its/\IsTupD h a its.toArray
  | .dK kvs=>kvs.length <= sizeLine/\(a == sysModules)=false/\∃ vs,KV kvs vs/\h.DictOf (BZ P w) a vs
  | .dT kvs=>kvs.length <= sizeLine/\(a == sysModules)=false/\∃ xs:List (List Key × Addr × Value),
      Paired (λ(p:List Key × V) (q:List Key × Addr × Value)=>p.1=q.1/\H q.2.1=some (.tup (p.1.map kV))/\RelV p.2 q.2.2) kvs xs /\
      ∃ o es ep,h.get? a=some o/\o.ExactDict/\o.data=.dict es ep/\es.toList=xs.map (entryOfKey (tupleKind (BZ P w)))/\(xs.map (·.1)).Nodup
  | .set S n=>h.SetOf (intKind P w) a S n
  | .ins C dx fs=>H dx=some (.own a)/\fs.length <= 1000/\dx ≠ a/\h.get? a=some (PySem.W.instObj C dx) /\
      ∃ mA,h.Ns1 dx mA/\(∀ f,RelO (fs.lookup f) (mA f))/\PySem.Within mA (fs.map (·.1))
  | .own _=>∃ o,h.get? a=some o
  | .xd fs=>∃ mA,h.Ns1 a mA/\∀ f,RelO (fs.lookup f) (mA f)
  | .rng lo hi=>∃ t u v,h.get? a=some { cls:=.type "range",data:=.fields #[.int lo t,.int hi u,.int 1 v] }
  | .frz o u=>h.get? a=some o/\ObjOk H h a u
  | .tbl ps=>h.get? a=some { cls:=.none,data:=.fields ps }
  | .met f x=>h.get? a=some (PySem.W.methodObj (.ref f) (.ref x))
  | .ext φ=>φ h/\(∃ o,h.get? a=some o)/\∀ h1 h2:Heap,φ h1->(∀ o,h1.get? a=some o->h2.get? a=some o)->φ h2
noncomputable def HOk(H:Hp)(h:Heap):Prop:=∀ a o,H a=some o->ObjOk P w H h a o
end
section
variable{P:Program}{w:World}{H H':Hp}{h h':Heap}{a:Addr}{o:HO}
theorem ObjOk.lt(x:ObjOk P w H h a o):a < h.objs.size:=by
  cases o with
  | lst xs=>obtain⟨_,_,_,_,e⟩:=x;exact Heap.lt_size e
  | tup xs=>obtain⟨_,_,_,o,e,_⟩:=x;exact Heap.lt_size e
  | dK kvs=>obtain⟨_,_,_,_,o,_,_,e,_⟩:=x;exact Heap.lt_size e
  | dT kvs=>obtain⟨_,_,_,_,o,_,_,e,_⟩:=x;exact Heap.lt_size e
  | set S n=>obtain⟨o,_,_,_,e,_⟩:=x;exact Heap.lt_size e
  | ins C dx fs=>obtain⟨_,_,_,e,_⟩:=x;exact Heap.lt_size e
  | own y=>obtain⟨_,e⟩:=x;exact Heap.lt_size e
  | xd fs=>obtain⟨_,⟨_,_,_,e,_⟩,_⟩:=x;exact Heap.lt_size e
  | rng lo hi=>obtain⟨_,_,_,e⟩:=x;exact Heap.lt_size e
  | frz ob u=>obtain⟨e,_⟩:=x;exact Heap.lt_size e
  | tbl ps=>exact Heap.lt_size (show h.get? a=some _ from x)
  | met f y=>exact Heap.lt_size (show h.get? a=some _ from x)
  | ext φ=>obtain⟨_,⟨_,e⟩,_⟩:=x;exact Heap.lt_size e
theorem Paired.mapP{α β:Type}{F G:α->β->Prop}:∀ {l₁:List α} {l₂:List β},Paired F l₁ l₂->(∀ a b,F a b->G a b)->Paired G l₁ l₂
  | _,_,.nil,_=>.nil
  | _,_,.cons r t,f=>.cons (f _ _ r) (Paired.mapP t f)
theorem ObjOk.stay(x:ObjOk P w H h a o)(k:∀ b u,(b=a ∨ H b=some (.own a))->h.get? b=some u->h'.get? b=some u)
    (ho:∀ b,H b=some (.own a)->H' b=some (.own a)) (ht:∀ b xs,H b=some (.tup xs)->H' b=some (.tup xs)):ObjOk P w H' h' a o:=by
  induction o with
  | lst xs=>obtain⟨z,its,n,r,e⟩:=x;exact⟨z,its,n,r,k _ _ (.inl rfl) e⟩
  | tup xs=>obtain⟨z,its,r,ob,e,c⟩:=x;exact⟨z,its,r,ob,k _ _ (.inl rfl) e,c⟩
  | dK kvs=>obtain⟨z,y,vs,r,ob,es,ep,e,c⟩:=x;exact⟨z,y,vs,r,ob,es,ep,k _ _ (.inl rfl) e,c⟩
  | dT kvs=>
    obtain⟨z,y,xs,r,ob,es,ep,e,c⟩:=x
    exact⟨z,y,xs,Paired.mapP r λ p q z=>⟨z.1,ht _ _ z.2.1,z.2.2⟩,ob,es,ep,k _ _ (.inl rfl) e,c⟩
  | set S n=>obtain⟨ob,es,ep,t,e,c⟩:=x;exact⟨ob,es,ep,t,k _ _ (.inl rfl) e,c⟩
  | ins C dx fs=>
    obtain⟨d,z,ne,e,mA,⟨od,es,ep,e2,c⟩,r⟩:=x
    exact⟨ho _ d,z,ne,k _ _ (.inl rfl) e,mA,⟨od,es,ep,k _ _ (.inr d) e2,c⟩,r⟩
  | own y=>obtain⟨ob,e⟩:=x;exact⟨ob,k _ _ (.inl rfl) e⟩
  | xd fs=>obtain⟨mA,⟨od,es,ep,e,c⟩,r⟩:=x;exact⟨mA,⟨od,es,ep,k _ _ (.inl rfl) e,c⟩,r⟩
  | rng lo hi=>obtain⟨t,u,v,e⟩:=x;exact⟨t,u,v,k _ _ (.inl rfl) e⟩
  | frz ob u ih=>obtain⟨e,q⟩:=x;exact⟨k _ _ (.inl rfl) e,ih q⟩
  | tbl ps=>
    have e:h.get? a=some { cls:=.none,data:=.fields ps }:=x
    show h'.get? a=some { cls:=.none,data:=.fields ps }
    exact k a _ (.inl rfl) e
  | met f y=>
    have e:h.get? a=some (PySem.W.methodObj (.ref f) (.ref y)):=x
    show h'.get? a=some (PySem.W.methodObj (.ref f) (.ref y))
    exact k a _ (.inl rfl) e
  | ext φ=>obtain⟨p,⟨o,e⟩,st⟩:=x;exact⟨st _ _ p λ o q=>k _ _ (.inl rfl) q,⟨o,k _ _ (.inl rfl) e⟩,st⟩
theorem HOk.lt(x:HOk P w H h)(e:H a=some o):a < h.objs.size:=(x a o e).lt
theorem HOk.fresh(x:HOk P w H h)(e:h.objs.size <= a):H a=none:=by
  cases q:H a with
  | none=>rfl
  | some u=>exact absurd (Nat.lt_of_lt_of_le (x.lt q) e) (Nat.lt_irrefl _)
theorem HOk.kept(x:HOk P w H h)(k:∀ b u,h.get? b=some u->h'.get? b=some u):HOk P w H h':=λ a o e=>
  (x a o e).stay (λ b u _ q=>k b u q) (λ _ q=>q) λ _ _ q=>q
theorem HOk.laid(x:HOk P w H h)(k:∀ b u,h.get? b=some u->h'.get? b=some u)(hp:h.objs.size <= a)(new:ObjOk P w (upd H a o) h' a o):HOk P w (upd H a o) h':=λ b u e=>by
  have hn:=x.fresh hp
  by_cases hb:b=a
  . subst hb;rw[AT]at e;cases e;exact new
  . rw[AD hb]at e
    exact(x b u e).stay (λ c v _ q=>k c v q) (λ c q=>by rw[AD (AX q hn)];exact q) λ c xs q=>by rw[AD (AX q hn)];exact q
end
noncomputable def Rd(H:Hp)(a:Addr)(u:HO):Prop:=H a=some u ∨ ∃ o,H a=some (.frz o u)
theorem Rd.ok{P:Program}{w:World}{H:Hp}{h:Heap}{a:Addr}{u:HO}(r:Rd H a u)(x:HOk P w H h):ObjOk P w H h a u:=by
  rcases r with r|⟨o,r⟩
  . exact x a u r
  . obtain⟨_,q⟩:=x a _ r
    exact q
noncomputable def Mut:Option HO->Prop
  | some (.lst _)=>True
  | some (.dK _)=>True
  | some (.dT _)=>True
  | some (.set _ _)=>True
  | some (.ins _ _ _)=>True
  | some (.ext _)=>True
  | _=>False
section
variable{P:Program}{w:World}{H:Hp}{h h':Heap}{x e:Addr}{o':HO}
theorem HOk.write(ok:HOk P w H h)(mu:Mut (H x))(he:e=x ∨ H e=some (.own x))(k:∀ b u,b ≠ e->h.get? b=some u->h'.get? b=some u)(heo:∃ u,h'.get? e=some u)
    (new:ObjOk P w (upd H x o') h' x o'):HOk P w (upd H x o') h':=λ b u q=>by
  have nown:∀ c y,H c=some (.own y)->c ≠ x:=λ c y r z=>by subst z;rw[r]at mu;exact mu
  have ntup:∀ c xs,H c=some (.tup xs)->c ≠ x:=λ c xs r z=>by subst z;rw[r]at mu;exact mu
  by_cases hb:b=x
  . subst hb;rw[AT]at q;cases q;exact new
  . rw[AD hb]at q
    by_cases hbe:b=e
    . have q':H b=some (.own x):=by
        rcases he with z|z
        . exact absurd (hbe.trans z) hb
        . rw[hbe];exact z
      rw[q]at q';cases q'
      obtain⟨v,hv⟩:=heo
      exact⟨v,by rw[hbe];exact hv⟩
    . refine(ok b u q).stay (λ c v hc r=>k c v ?_ r) (λ c r=>by rw[AD (nown c b r)];exact r) λ c xs r=>by rw[AD (ntup c xs r)];exact r
      rcases hc with rfl|hc
      . exact hbe
      . rintro rfl
        rcases he with z|z
        . exact nown c b hc z
        . rw[hc]at z;cases z;exact hb rfl
end
structure Un(fs ex:List Addr)(H H':Hp)(h h':Heap):Prop where
  keep:∀ b o,h.get? b=some o->H b=none->b ∉ fs->b ∉ ex->h'.get? b=some o
  slot:∀ b o,h.get? b=some o->H b=none->b ∈ fs->b ∉ ex->∃ sl,h'.get? b=some { o with slots:=sl }
  free:∀ b o,h.get? b=some o->H b=none->b ∉ ex->H' b=none
  there:∀ b o,h.get? b=some o->b ∉ ex->∃ o',h'.get? b=some o'
  tups:∀ b xs,H b=some (.tup xs)->H' b=some (.tup xs)
  frzs:∀ b o u,H b=some (.frz o u)->H' b=some (.frz o u)
  tbls:∀ b ps,H b=some (.tbl ps)->∃ more,H' b=some (.tbl (ps ++ more))
section
variable{fs fs' ex ex':List Addr}{H H1 H2:Hp}{h h1 h2 h':Heap}{a x e:Addr}{o:HO}
theorem Un.any(u:Un fs ex H H1 h h1){b:Addr}{ob:Obj}(q:h.get? b=some ob)(n:H b=none)(hx:b ∉ ex):∃ sl,h1.get? b=some { ob with slots:=sl }:=by
  by_cases hb:b ∈ fs
  . exact u.slot b ob q n hb hx
  . exact⟨ob.slots,u.keep b ob q n hb hx⟩
theorem Un.kept(k:∀ b u,h.get? b=some u->h'.get? b=some u):Un fs ex H H h h':=
  ⟨λ b ob q _ _ _=>k b ob q,λ b ob q _ _ _=>⟨ob.slots,k b ob q⟩,λ _ _ _ n _=>n,λ b ob q _=>⟨ob,k b ob q⟩,λ _ _ q=>q,λ _ _ _ q=>q,λ _ ps q=>⟨#[],by rw[q];simp⟩⟩
theorem Un.refl:Un fs ex H H h h:=Un.kept λ _ _ q=>q
theorem Un.laid(k:∀ b u,h.get? b=some u->h'.get? b=some u)(hp:h.objs.size <= a)(hn:H a=none):Un fs ex H (upd H a o) h h' where
  keep:=λ b u q _ _ _=>k b u q
  slot:=λ b u q _ _ _=>⟨u.slots,k b u q⟩
  free:=λ b u q n _=>by rw[AD (Nat.ne_of_lt (Nat.lt_of_lt_of_le (Heap.lt_size q) hp))];exact n
  there:=λ b u q _=>⟨u,k b u q⟩
  tups:=λ b xs q=>by rw[AD (AX q hn)];exact q
  frzs:=λ b u xs q=>by rw[AD (AX q hn)];exact q
  tbls:=λ b ps q=>⟨#[],by rw[AD (AX q hn),q];simp⟩
theorem Un.write(mu:Mut (H x))(he:e=x ∨ H e=some (.own x))(k:∀ b u,b ≠ e->h.get? b=some u->h'.get? b=some u)(heo:∃ u,h'.get? e=some u):Un fs ex H (upd H x o) h h':=by
  have hx:∀ b,H b=none->b ≠ x:=λ b n z=>by subst z;rw[n]at mu;exact mu
  have hb:∀ b,H b=none->b ≠ e:=λ b n z=>by
    subst z
    rcases he with r|r
    . exact hx b n r
    . rw[n]at r;cases r
  have hm:∀ b u,H b=some u->¬ Mut (some u)->b ≠ x:=λ b u q nm z=>by subst z;rw[q]at mu;exact nm mu
  refine⟨λ b u q n _ _=>k b u (hb b n) q,λ b u q n _ _=>⟨u.slots,k b u (hb b n) q⟩,λ b u q n _=>by rw[AD (hx b n)];exact n,λ b u q _=>?_,
    λ b xs q=>by rw[AD (hm b _ q λ z=>z)];exact q,λ b u xs q=>by rw[AD (hm b _ q λ z=>z)];exact q,λ b ps q=>⟨#[],by rw[AD (hm b _ q λ z=>z),q];simp⟩⟩
  by_cases hbe:b=e
  . subst hbe;exact heo
  . exact⟨u,k b u hbe q⟩
end
noncomputable def trk(h:Heap)(H:Hp):List Addr:=(List.range h.objs.size).filter λ a=>(H a).isSome
noncomputable def Fu(h:Heap)(H:Hp):Heap:=PySem.W.hideAll h (trk h H)
theorem Oj(h:Heap)(H:Hp):(Fu h H).objs.size=h.objs.size:=PySem.W.hideAll_size _ _
theorem Qq{h:Heap}{H:Hp}{b:Addr}{o:Obj}(e:h.get? b=some o)(n:H b=none):(Fu h H).get? b=some o:=
  PySem.W.hideAll_get _ e λ hm=>by
    have q:(H b).isSome=true:=(List.mem_filter.mp hm).2
    rw[n]at q;simp at q
theorem TJ{h:Heap}{H:Hp}{b:Addr}{o:Obj}(e:(Fu h H).get? b=some o):h.get? b=some o/\H b=none:=by
  have e':h.get? b=some o:=PySem.W.of_hideAll (trk h H) e
  refine⟨e',?_⟩
  cases q:H b with
  | none=>rfl
  | some x=>
    have hm:b ∈ trk h H:=List.mem_filter.mpr ⟨List.mem_range.mpr (Heap.lt_size e'),by simp[q]⟩
    have z:(Fu h H).get? b=none:=PySem.W.hideAll_none (trk h H) hm
    rw[z]at e;cases e
noncomputable def Tr(g h:Heap)(L:Addr):List (Addr × Obj):=(List.range h.objs.size).filterMap λ a=>if a=L ∨ (g.get? a).isSome=true then none else(h.get? a).map λ o=>(a,o)
noncomputable def rest(g h:Heap)(L d:Addr):List (Addr × Obj):=(Tr g h L).filter λ p=>decide (p.1 ≠ d)
end L2
namespace L2
open PySem PySem.Spec PyProof.Rows
structure Mod(K:PySem.W.Frag)(mg:Str->Option Value)(base:Heap):Prop where
  kin:K.In base
  glob:base.Ns mainGlobals mg
  blt:∃ mb,base.Ns builtinsNs mb/\∀ x:Str,x ≠ "__name__"->mb x=bootBuiltins x
  nolimit:base.NoLimit
structure Cx where
  prog:Program
  w:World
  K:PySem.W.Frag
  mg:Str->Option Value
  base:Heap
  A:Around
  N:List Str
  s₀:Shared
  H₀:Hp
  env:Env
  outer:List Env
  stack:List Env
  ex:List Addr
  fn:Str->Bool
  calm:Bool
  pn:List (Addr × Obj)
  xe:Value->Shared->Prop
noncomputable def frs(l:List Env):List Addr:=l.filterMap (·.frame)
noncomputable abbrev Cx.fs(X:Cx):List Addr:=frs X.outer
noncomputable def Vis(sc:Scope)(x:Str):Prop:=sc.names.lookup x=some .local ∨ sc.names.lookup x=some .cell ∨ sc.names.lookup x=some .free
noncomputable def Loc(sc:Scope)(x:Str):Prop:=sc.names.lookup x=some .local ∨ sc.names.lookup x=some .cell
noncomputable def X0(env:Env)(h:Heap)(m:Str->Option Value)(x:Str)(u:Value):Prop:=
  (env.kindOf x=some .local/\m x=some u) ∨ ((env.kindOf x=some .cell ∨ env.kindOf x=some .free)/\∃ c,env.cells.lookup x=some c/\h.IsCell c (some u))
structure Cx.Ok(X:Cx):Prop where
  mod:Mod X.K X.mg X.base
  kind:X.env.scope.kind=.function
  glob:X.env.globals=mainGlobals
  blt:X.env.builtins=builtinsNs
  above:X.s₀.heap.objs.size <= X.env.locals
  inj:∀ x y c,X.env.cells.lookup x=some c->X.env.cells.lookup y=some c->x=y
  has:∀ x,(X.env.kindOf x=some .cell ∨ X.env.kindOf x=some .free)->∃ c,X.env.cells.lookup x=some c
  cab:∀ x c,X.fn x=true->X.env.cells.lookup x=some c->X.s₀.heap.objs.size <= c
  hd:X.calm=true->X.A.handled=none
  frames:X.A.frames=some X.stack
  stk:X.stack=X.outer ∨ (X.stack=X.env :: X.outer/\X.env.frame=some X.env.locals)
  exf:∀ b ∈ X.ex,b ≠ X.env.locals/\∀ x c,X.env.cells.lookup x=some c->c ≠ b
  bs:∀ b o,X.base.get? b=some o->X.s₀.heap.get? b=some o/\X.H₀ b=none
  bsz:X.base.objs.size <= X.s₀.heap.objs.size
  noex:∀ b o,X.base.get? b=some o->b ∉ X.ex
  exfs:∀ b ∈ X.ex,b ∉ X.fs
  funs:X.s₀.heap.FunFrames X.base X.outer
  frf:∀ b ∈ X.fs,X.H₀ b=none
structure Inv(X:Cx)(pins:List (Addr × Obj))(σ:List (Option V))(H:Hp)(s:Shared):Prop where
  ok:X.Ok
  os:s.os=X.s₀.os
  bare:AllBare s.gens
  base:Un X.fs X.ex X.H₀ H X.s₀.heap s.heap
  loc:∃ m,s.heap.Ns X.env.locals m/\∀ (i:Nat) (x:Str) (v:V),X.N[i]? = some x->σ[i]? = some (some v)->Vis X.env.scope x->∃ u,RelV v u/\X0 X.env s.heap m x u
  cell:∀ x c,X.env.cells.lookup x=some c->∃ v,s.heap.IsCell c v
  free:H X.env.locals=none
  freeC:∀ x c,X.env.cells.lookup x=some c->H c=none
  pin:∀ p ∈ X.pn ++ pins,s.heap.get? p.1=some p.2/\H p.1=none/\p.1 ≠ X.env.locals/\p.1 ∉ X.fs/\∀ v,p.2.data ≠ .cell v
  hok:HOk X.prog X.w H s.heap
  len:σ.length=X.N.length
section
variable{X:Cx}{pins:List (Addr × Obj)}{σ:List (Option V)}{H H':Hp}{s:Shared}{h':Heap}
theorem Cx.Ok.nofr(ok:X.Ok){b:Addr}{o:Obj}(e:X.base.get? b=some o):b ∉ X.fs:=λ hb=>by
  have:=(ok.funs.mem hb).1
  rw[e]at this;cases this
theorem Inv.bs(I:Inv X pins σ H s):∀ b o,X.base.get? b=some o->s.heap.get? b=some o/\H b=none:=λ b o e=>
  ⟨I.base.keep b o (I.ok.bs b o e).1 (I.ok.bs b o e).2 (I.ok.nofr e) (I.ok.noex b o e),I.base.free b o (I.ok.bs b o e).1 (I.ok.bs b o e).2 (I.ok.noex b o e)⟩
theorem Inv.bk(I:Inv X pins σ H s):∀ b o,X.base.get? b=some o->s.heap.get? b=some o:=λ b o e=>(I.bs b o e).1
theorem Inv.mod(I:Inv X pins σ H s):Mod X.K X.mg X.base:=I.ok.mod
theorem Inv.kIn(I:Inv X pins σ H s):X.K.In s.heap:=I.ok.mod.kin.keeps I.bk
theorem Inv.nolimit(I:Inv X pins σ H s):s.heap.NoLimit:=I.ok.mod.nolimit.keeps I.bk
theorem Inv.lt(I:Inv X pins σ H s):X.env.locals < s.heap.objs.size:=let ⟨_,hn,_⟩:=I.loc;hn.lt
theorem Inv.sz(I:Inv X pins σ H s):X.s₀.heap.objs.size <= s.heap.objs.size:=Nat.le_trans I.ok.above (Nat.le_of_lt I.lt)
theorem Inv.nofs(I:Inv X pins σ H s){a:Addr}(h:s.heap.objs.size <= a):a ∉ X.fs:=λ hb=>by
  obtain⟨_,o,ho,_⟩:=I.ok.funs.mem hb
  exact absurd (Nat.lt_of_lt_of_le (Heap.lt_size ho) (Nat.le_trans I.sz h)) (Nat.lt_irrefl _)
theorem Inv.cne(I:Inv X pins σ H s):∀ x c,X.env.cells.lookup x=some c->c ≠ X.env.locals:=λ x c e z=>by
  obtain⟨v,o,ho,hd⟩:=I.cell x c e
  obtain⟨m,⟨o',es,ep,ho',hd',_⟩,_⟩:=I.loc
  rw[z,ho']at ho;cases ho;rw[hd']at hd;cases hd
theorem Inv.funs(I:Inv X pins σ H s):s.heap.FunFrames X.base X.outer:=by
  have all:∀ (l:List Env),(∀ b ∈ frs l,b ∈ X.fs)->X.s₀.heap.FunFrames X.base l->s.heap.FunFrames X.base l:=by
    intro l
    induction l with
    | nil=>intro _ _;trivial
    | cons env r ih=>
      intro hs hl
      obtain⟨hk,⟨L,o,hf,hn,ho,hd⟩,hr⟩:=hl
      have hL:L ∈ X.fs:=hs L (by unfold frs;rw[List.filterMap_cons,hf];exact List.mem_cons_self)
      obtain⟨sl,e⟩:=I.base.slot L o ho (I.ok.frf L hL) hL λ z=>I.ok.exfs L z hL
      exact⟨hk,⟨L,_,hf,hn,e,hd⟩,ih (λ b hb=>hs b (by unfold frs;rw[List.filterMap_cons,hf];exact List.mem_cons_of_mem _ hb)) hr⟩
  exact all X.outer (λ _ hb=>hb) I.ok.funs
theorem Inv.stack(I:Inv X pins σ H s):s.heap.FunFrames X.base X.stack:=by
  rcases I.ok.stk with e|⟨e,hf⟩
  . rw[e];exact I.funs
  . rw[e]
    obtain⟨m,hn,_⟩:=I.loc
    refine .cons (by rw[I.ok.kind];decide) hf hn ?_ I.funs
    exact Heap.get?_none_of_le (Nat.le_trans I.ok.bsz I.ok.above)
theorem Inv.stkSub(I:Inv X pins σ H s):∀ b ∈ frs X.stack,b ∈ X.env.locals :: X.fs:=λ b hb=>by
  rcases I.ok.stk with e|⟨e,hf⟩
  . rw[e]at hb;exact List.mem_cons_of_mem _ hb
  . rw[e]at hb
    unfold frs at hb
    rw[List.filterMap_cons,hf]at hb
    exact hb
theorem Inv.stkFree(I:Inv X pins σ H s):∀ b ∈ frs X.stack,H b=none:=λ b hb=>by
  rcases List.mem_cons.mp (I.stkSub b hb)with e|hb
  . rw[e];exact I.free
  . obtain⟨_,o,ho,_⟩:=I.ok.funs.mem hb
    exact I.base.free b o ho (I.ok.frf b hb) λ z=>I.ok.exfs b z hb
theorem Inv.step{g':Array GenState}{t':Nat}{d':Drawn}{ch:List Addr}(I:Inv X pins σ H s)
    (hch:∀ b ∈ ch,(b ∈ X.ex ∨ X.s₀.heap.objs.size <= b)/\b ≠ X.env.locals/\(∀ x c,X.env.cells.lookup x=some c->c ≠ b)/\∀ p ∈ X.pn ++ pins,p.1 ≠ b)
    (keep:∀ b o,b ≠ X.env.locals->b ∉ X.fs->b ∉ ch->s.heap.get? b=some o->H b=none->h'.get? b=some o)
    (slot:∀ b o,b ≠ X.env.locals->b ∈ X.fs->b ∉ ch->s.heap.get? b=some o->H b=none->∃ sl,h'.get? b=some { o with slots:=sl }) (free:∀ b o,b ∉ ch->s.heap.get? b=some o->H b=none->H' b=none)
    (there:∀ b o,b ∉ ch->s.heap.get? b=some o->∃ o',h'.get? b=some o')
    (tups:∀ b xs,H b=some (.tup xs)->H' b=some (.tup xs)) (frzs:∀ b o u,H b=some (.frz o u)->H' b=some (.frz o u)) (tbls:∀ b ps,H b=some (.tbl ps)->∃ more,H' b=some (.tbl (ps ++ more)))
    (ns:∀ m,s.heap.Ns X.env.locals m->h'.Ns X.env.locals m) (hok:HOk X.prog X.w H' h') (hg:AllBare g') :
    Inv X pins σ H' { s with heap:=h',gens:=g',drawn:=d',toks:=t' }:=by
  have neL:∀ b o,X.s₀.heap.get? b=some o->b ≠ X.env.locals:=λ b o e=>Nat.ne_of_lt (Nat.lt_of_lt_of_le (Heap.lt_size e) I.ok.above)
  have neC:∀ b o,X.s₀.heap.get? b=some o->b ∉ X.ex->b ∉ ch:=λ b o e hx hb=>by
    rcases(hch b hb).1 with z|z
    . exact hx z
    . exact absurd (Nat.lt_of_lt_of_le (Heap.lt_size e) z) (Nat.lt_irrefl _)
  have cellK:∀ x c,X.env.cells.lookup x=some c->∀ v,s.heap.IsCell c v->h'.IsCell c v:=λ x c e v ⟨o,ho,hd⟩=>by
    have nch:c ∉ ch:=λ z=>(hch c z).2.2.1 x c e rfl
    by_cases hc:c ∈ X.fs
    . obtain⟨sl,q⟩:=slot c o (I.cne x c e) hc nch ho (I.freeC x c e)
      exact⟨_,q,hd⟩
    . exact⟨o,keep c o (I.cne x c e) hc nch ho (I.freeC x c e),hd⟩
  refine⟨I.ok,I.os,hg,⟨λ b o e n hb hx=>?_,λ b o e n hb hx=>?_,λ b o e n hx=>?_,λ b o e hx=>?_,λ b xs e=>tups b xs (I.base.tups b xs e),λ b o xs e=>frzs b o xs (I.base.frzs b o xs e),λ b ps e=>?_⟩,?_,λ x c e=>?_,?_,λ x c e=>?_,λ p hp=>?_,hok,I.len⟩
  . exact keep b o (neL b o e) hb (neC b o e hx) (I.base.keep b o e n hb hx) (I.base.free b o e n hx)
  . obtain⟨sl,e1⟩:=I.base.slot b o e n hb hx
    obtain⟨sl',e2⟩:=slot b _ (neL b o e) hb (neC b o e hx) e1 (I.base.free b o e n hx)
    exact⟨sl',e2⟩
  . obtain⟨o',e1⟩:=I.base.there b o e hx
    exact free b o' (neC b o e hx) e1 (I.base.free b o e n hx)
  . obtain⟨o',e1⟩:=I.base.there b o e hx
    exact there b o' (neC b o e hx) e1
  . obtain⟨m1,e1⟩:=I.base.tbls b ps e
    obtain⟨m2,e2⟩:=tbls b _ e1
    exact⟨m1 ++ m2,by rw[e2,Array.append_assoc]⟩
  . obtain⟨m,hn,hl⟩:=I.loc
    refine⟨m,ns m hn,λ i x v e1 e2 e3=>?_⟩
    obtain⟨u,r,l⟩:=hl i x v e1 e2 e3
    refine⟨u,r,?_⟩
    rcases l with l|⟨k,c,e,z⟩
    . exact .inl l
    . exact .inr ⟨k,c,e,cellK x c e _ z⟩
  . obtain⟨v,z⟩:=I.cell x c e
    exact⟨v,cellK x c e v z⟩
  . obtain⟨m,⟨o,_,_,ho,_⟩,_⟩:=I.loc
    exact free _ o (λ z=>(hch _ z).2.1 rfl) ho I.free
  . obtain⟨v,o,ho,hd⟩:=I.cell x c e
    exact free c o (λ z=>(hch c z).2.2.1 x c e rfl) ho (I.freeC x c e)
  . obtain⟨e,n,ne,nf,d⟩:=I.pin p hp
    have nch:p.1 ∉ ch:=λ z=>(hch p.1 z).2.2.2 p hp rfl
    exact⟨keep p.1 p.2 ne nf nch e n,free p.1 p.2 nch e n,ne,nf,d⟩
theorem Inv.un{t':Nat}(I:Inv X pins σ H s)(u:Un X.fs [] H H' s.heap h')(hok:HOk X.prog X.w H' h'):Inv X pins σ H' { s with heap:=h',toks:=t' }:=by
  obtain⟨m,⟨o,es,ep,ho,r⟩,_⟩:=id I.loc
  obtain⟨sl,hL⟩:=u.any ho I.free (by simp)
  exact I.step (g':=s.gens) (d':=s.drawn) (ch:=[]) (λ _ z=>nomatch z) (λ b o _ hb _ e n=>u.keep b o e n hb (by simp)) (λ b o _ hb _ e n=>u.slot b o e n hb (by simp)) (λ b o _ e n=>u.free b o e n (by simp)) (λ b o _ e=>u.there b o e (by simp)) u.tups u.frzs u.tbls (λ m' hm=>by
    obtain⟨o',es',ep',ho',r'⟩:=hm
    rw[ho]at ho';cases ho'
    exact⟨_,es',ep',hL,r'⟩) hok I.bare
theorem Inv.call{g':Array GenState}{t':Nat}{d':Drawn}{ch:List Addr}(I:Inv X pins σ H s)(u:Un (frs X.stack) ch H H' s.heap h')(hok:HOk X.prog X.w H' h')(hg:AllBare g')
    (hch:∀ b ∈ ch,(b ∈ X.ex ∨ X.s₀.heap.objs.size <= b)/\b ≠ X.env.locals/\(∀ x c,X.env.cells.lookup x=some c->c ≠ b)/\∀ p ∈ X.pn ++ pins,p.1 ≠ b) :
    Inv X pins σ H' { s with heap:=h',gens:=g',drawn:=d',toks:=t' }:=by
  obtain⟨m,⟨o,es,ep,ho,r⟩,_⟩:=id I.loc
  obtain⟨sl,hL⟩:=u.any ho I.free λ z=>(hch _ z).2.1 rfl
  exact I.step (ch:=ch) hch (λ b o hL hb hc e n=>u.keep b o e n (λ z=>(List.mem_cons.mp (I.stkSub b z)).elim hL hb) hc) (λ b o _ _ hc e n=>u.any e n hc) (λ b o hc e n=>u.free b o e n hc) (λ b o hc e=>u.there b o e hc) u.tups u.frzs u.tbls (λ m' hm=>by
    obtain⟨o',es',ep',ho',r'⟩:=hm
    rw[ho]at ho';cases ho'
    exact⟨_,es',ep',hL,r'⟩) hok hg
theorem Inv.turned{t':Nat}{it:Addr}(I:Inv X pins σ H s)(k:∀ b o,b ≠ it->s.heap.get? b=some o->h'.get? b=some o)(hn:H it=none)(hL:it ≠ X.env.locals)
    (h1:it ∈ X.ex ∨ X.s₀.heap.objs.size <= it) (h2:∀ x c,X.env.cells.lookup x=some c->c ≠ it) (h3:∀ p ∈ X.pn ++ pins,p.1 ≠ it):Inv X pins σ H { s with heap:=h',toks:=t' }:=by
  have nit:∀ b u,H b=some u->b ≠ it:=λ b u e z=>by rw[z,hn]at e;cases e
  refine I.step (g':=s.gens) (d':=s.drawn) (ch:=[it]) (λ b hb=>?_) (λ b o _ _ hc e _=>k b o (λ z=>hc (by simp[z])) e) (λ b o _ _ hc e _=>⟨o.slots,k b o (λ z=>hc (by simp[z])) e⟩) (λ _ _ _ _ n=>n)
    (λ b o hc e=>⟨o,k b o (λ z=>hc (by simp[z])) e⟩) (λ _ _ e=>e) (λ _ _ _ e=>e) (λ b ps e=>⟨#[],by rw[e];simp⟩) (λ m hm=>?_) (λ b u e=>?_) I.bare
  . have e:b=it:=by simpa using hb
    subst e
    exact⟨h1,hL,h2,h3⟩
  . obtain⟨o,es,ep,ho,r⟩:=hm
    exact⟨o,es,ep,k _ o (Ne.symm hL) ho,r⟩
  . refine(I.hok b u e).stay (λ c v hc q=>k c v ?_ q) (λ _ q=>q) λ _ _ q=>q
    rcases hc with z|z
    . rw[z];exact nit b u e
    . exact nit c _ z
theorem Inv.tok(I:Inv X pins σ H s)(t:Nat):Inv X pins σ H { s with toks:=t }:=I.un (h':=s.heap) (t':=t) Un.refl I.hok
theorem Inv.kept{t':Nat}(I:Inv X pins σ H s)(k:∀ b u,s.heap.get? b=some u->h'.get? b=some u):Inv X pins σ H { s with heap:=h',toks:=t' }:=I.un (Un.kept k) (I.hok.kept k)
theorem Inv.laid{a:Addr}{o:HO}{t':Nat}(I:Inv X pins σ H s)(k:∀ b u,s.heap.get? b=some u->h'.get? b=some u)(hp:s.heap.objs.size <= a)(new:ObjOk X.prog X.w (upd H a o) h' a o) :
    Inv X pins σ (upd H a o) { s with heap:=h',toks:=t' }:=I.un (Un.laid k hp (I.hok.fresh hp)) (I.hok.laid k hp new)
theorem Inv.write{x e:Addr}{o:HO}{t':Nat}(I:Inv X pins σ H s)(mu:Mut (H x))(he:e=x ∨ H e=some (.own x))(k:∀ b u,b ≠ e->s.heap.get? b=some u->h'.get? b=some u)(heo:∃ u,h'.get? e=some u)
    (new:ObjOk X.prog X.w (upd H x o) h' x o):Inv X pins σ (upd H x o) { s with heap:=h',toks:=t' }:=I.un (Un.write mu he k heo) (I.hok.write mu he k heo new)
theorem Inv.pins_of{pins':List (Addr × Obj)}(I:Inv X pins σ H s)(h:∀ p ∈ pins',s.heap.get? p.1=some p.2/\H p.1=none/\p.1 ≠ X.env.locals/\p.1 ∉ X.fs/\∀ v,p.2.data ≠ .cell v):Inv X pins' σ H s:=
  ⟨I.ok,I.os,I.bare,I.base,I.loc,I.cell,I.free,I.freeC,λ p hp=>(List.mem_append.mp hp).elim (λ z=>I.pin p (List.mem_append_left _ z)) (h p),I.hok,I.len⟩
theorem Kq{N:List Str}(hN:N.Nodup){i j:Nat}{x:Str}(a:N[i]? = some x)(b:N[j]? = some x):i=j:=by
  obtain⟨h1,e1⟩:=List.getElem?_eq_some_iff.mp a
  obtain⟨h2,e2⟩:=List.getElem?_eq_some_iff.mp b
  exact(List.getElem_inj hN).mp (e1.trans e2.symm)
theorem JN{M:Model}{A:Around}{E:Value->Shared->Prop}{i:Nat}{x:Str}{v:V}{u:Value}{Q:Unit->Shared->Prop}(I:Inv X pins σ H s)(hN:X.N.Nodup)(hi:X.N[i]? = some x)(hx:Loc X.env.scope x)(r:RelV v u)
    (h:∀ s',Inv X pins (σ.set i (some v)) H s'->(∃ a,Heap.SameBut a s.heap s'.heap/\(a=X.env.locals ∨ X.env.cells.lookup x=some a))->Q () s') (hf:X.fn x=true ∨ X.env.scope.names.lookup x=some .local:=by first|exact .inl rfl|exact .inr rfl|assumption):wpAny M A (storeName X.env x u) Q E s:=by
  obtain⟨m,hn,hl⟩:=id I.loc
  have hcls:(X.env.scope.kind == .class || (X.env.scope.kind == .module && X.env.locals != X.env.globals))=false:=by rw[I.ok.kind];rfl
  have hiσ:i < σ.length:=by rw[I.len];exact(List.getElem?_eq_some_iff.mp hi).1
  have cne:=I.cne
  have tracked:∀ {a:Addr} {h':Heap},(∃ o,s.heap.get? a=some o/\H a=none)->Heap.SameBut a s.heap h'->HOk X.prog X.w H h':=λ {a h'} ha hs b ob e=>by
    obtain⟨_,_,hfree⟩:=ha
    refine(I.hok b ob e).stay (λ c w' hc q=>(hs.2 c ?_).trans q) (λ _ q=>q) λ _ _ q=>q
    rintro rfl
    rcases hc with rfl|hc
    . rw[hfree]at e;cases e
    . rw[hfree]at hc;cases hc
  rcases hx with hk|hk
  . refine wpAny_storeName_local hk hn (λ h' hn' hs=>?_) hcls
    obtain⟨oL,_,_,hoL,_⟩:=id hn
    refine h _ ⟨I.ok,I.os,I.bare,⟨λ b o e n hb hx=>?_,λ b o e n hb hx=>?_,I.base.free,λ b o e hx=>?_,I.base.tups,I.base.frzs,I.base.tbls⟩,⟨_,hn',λ j y v' e1 e2 e3=>?_⟩,λ y c e=>?_,I.free,I.freeC,λ p hp=>?_,tracked ⟨oL,hoL,I.free⟩ hs,by simpa using I.len⟩ ⟨_,hs,.inl rfl⟩
    . exact(hs.2 b (Nat.ne_of_lt (Nat.lt_of_lt_of_le (Heap.lt_size e) I.ok.above))).trans (I.base.keep b o e n hb hx)
    . obtain⟨sl,e1⟩:=I.base.slot b o e n hb hx
      exact⟨sl,(hs.2 b (Nat.ne_of_lt (Nat.lt_of_lt_of_le (Heap.lt_size e) I.ok.above))).trans e1⟩
    . obtain⟨o',e1⟩:=I.base.there b o e hx
      exact⟨o',(hs.2 b (Nat.ne_of_lt (Nat.lt_of_lt_of_le (Heap.lt_size e) I.ok.above))).trans e1⟩
    . by_cases hj:j=i
      . subst hj
        rw[hi]at e1;cases e1
        rw[List.getElem?_set_self hiσ]at e2
        cases e2
        exact⟨u,r,.inl ⟨hk,by simp⟩⟩
      . rw[List.getElem?_set_ne (Ne.symm hj)]at e2
        obtain⟨u',r',q⟩:=hl j y v' e1 e2 e3
        refine⟨u',r',?_⟩
        rcases q with⟨k,e⟩|⟨k,c,e,z⟩
        . refine .inl ⟨k,?_⟩
          have:y ≠ x:=λ e=>hj (Kq hN e1 (e ▸ hi))
          simp[this,e]
        . exact .inr ⟨k,c,e,z.sameBut hs (cne y c e)⟩
    . obtain⟨w',z⟩:=I.cell y c e
      exact⟨w',z.sameBut hs (cne y c e)⟩
    . obtain⟨e,n,ne,nf,d⟩:=I.pin p hp
      exact⟨(hs.2 p.1 ne).trans e,n,ne,nf,d⟩
  . have hfn:X.fn x=true:=by
      rcases hf with z|z
      . exact z
      . rw[z]at hk;cases hk
    obtain⟨c,hc⟩:=I.ok.has x (.inl hk)
    obtain⟨w',z⟩:=I.cell x c hc
    refine wpAny_storeName_cell I.ok.kind hk hc z (λ h' hc' hs=>?_)
    obtain⟨oc,hoc,hocd⟩:=id z
    refine h { s with heap:=h' } ⟨I.ok,I.os,I.bare,⟨λ b o e n hb hx=>?_,λ b o e n hb hx=>?_,I.base.free,λ b o e hx=>?_,I.base.tups,I.base.frzs,I.base.tbls⟩,⟨m,hn.sameBut hs (Ne.symm (cne x c hc)),λ j y v' e1 e2 e3=>?_⟩,λ y c' e=>?_,I.free,I.freeC,λ p hp=>?_,tracked ⟨oc,hoc,I.freeC x c hc⟩ hs,by simpa using I.len⟩ ⟨c,hs,.inr hc⟩
    . exact(hs.2 b (Nat.ne_of_lt (Nat.lt_of_lt_of_le (Heap.lt_size e) (I.ok.cab x c hfn hc)))).trans (I.base.keep b o e n hb hx)
    . obtain⟨sl,e1⟩:=I.base.slot b o e n hb hx
      exact⟨sl,(hs.2 b (Nat.ne_of_lt (Nat.lt_of_lt_of_le (Heap.lt_size e) (I.ok.cab x c hfn hc)))).trans e1⟩
    . obtain⟨o',e1⟩:=I.base.there b o e hx
      exact⟨o',(hs.2 b (Nat.ne_of_lt (Nat.lt_of_lt_of_le (Heap.lt_size e) (I.ok.cab x c hfn hc)))).trans e1⟩
    . by_cases hj:j=i
      . subst hj
        rw[hi]at e1;cases e1
        rw[List.getElem?_set_self hiσ]at e2
        cases e2
        exact⟨u,r,.inr ⟨.inl hk,c,hc,hc'⟩⟩
      . rw[List.getElem?_set_ne (Ne.symm hj)]at e2
        obtain⟨u',r',q⟩:=hl j y v' e1 e2 e3
        refine⟨u',r',?_⟩
        rcases q with q|⟨k,c',e,z'⟩
        . exact .inl q
        . refine .inr ⟨k,c',e,z'.sameBut hs ?_⟩
          rintro rfl
          exact hj (Kq hN e1 (I.ok.inj _ _ _ e hc ▸ hi))
    . by_cases hcc:c'=c
      . subst hcc;exact⟨_,hc'⟩
      . obtain⟨w2,z2⟩:=I.cell y c' e
        exact⟨w2,z2.sameBut hs hcc⟩
    . obtain⟨e,n,ne,nf,d⟩:=I.pin p hp
      refine⟨(hs.2 p.1 ?_).trans e,n,ne,nf,d⟩
      intro q
      rw[q,hoc]at e
      have q':oc=p.2:=Option.some.inj e
      exact d w' (by rw[<- q'];exact hocd)
theorem DV{M:Model}{A:Around}{E:Value->Shared->Prop}{i:Nat}{x:Str}{v:V}{u:Value}{Q:Unit->Shared->Prop}(I:Inv X pins σ H s)(hN:X.N.Nodup)(hi:X.N[i]? = some x)(hx:Loc X.env.scope x)(r:RelV v u)
    (h:∀ s',Inv X pins (σ.set i (some v)) H s'->Q () s') (hf:X.fn x=true ∨ X.env.scope.names.lookup x=some .local:=by first|exact .inl rfl|exact .inr rfl|assumption):wpAny M A (storeName X.env x u) Q E s:=
  JN I hN hi hx r (λ s' I' _=>h s' I') hf
theorem Inv.call'{s':Shared}{ch:List Addr}(I:Inv X pins σ H s)(ho:s'.os=s.os)(u:Un (frs X.stack) ch H H' s.heap s'.heap)(hok:HOk X.prog X.w H' s'.heap)(hg:AllBare s'.gens)
    (hch:∀ b ∈ ch,(b ∈ X.ex ∨ X.s₀.heap.objs.size <= b)/\b ≠ X.env.locals/\(∀ x c,X.env.cells.lookup x=some c->c ≠ b)/\∀ p ∈ X.pn ++ pins,p.1 ≠ b):Inv X pins σ H' s':=by
  obtain⟨h',g',d',t',o'⟩:=s'
  have e:o'=s.os:=ho
  subst e
  exact I.call (g':=g') (t':=t') (d':=d') u hok hg hch
end
noncomputable abbrev XK:=Value->Option Addr->Hp->Prop
noncomputable abbrev St:=List (Option V)
noncomputable abbrev VK:=V->Hp->Prop
noncomputable abbrev TE:=St->Hp->VK->Prop
noncomputable abbrev TT:=St->Hp->(Bool->Hp->Prop)->Prop
noncomputable abbrev TA:=St->Hp->(List V->Hp->Prop)->Prop
structure Ends where
  nx:St->Hp->Prop
  rt:VK
  bk:St->Hp->Prop:=λ _ _=>False
  ct:St->Hp->Prop:=λ _ _=>False
noncomputable abbrev TS:=Ends->St->Hp->Prop
noncomputable def EP(X:Cx)(pins:List (Addr × Obj))(σ:St)(Q:VK)(u:Value)(s':Shared):Prop:=∃ v H',Inv X pins σ H' s'/\RelV v u/\Q v H'
noncomputable def TP(X:Cx)(pins:List (Addr × Obj))(σ:St)(Q:Bool->Hp->Prop)(b:Bool)(s':Shared):Prop:=∃ H',Inv X pins σ H' s'/\Q b H'
noncomputable def AP(X:Cx)(pins:List (Addr × Obj))(σ:St)(Q:List V->Hp->Prop)(us:List Value)(s':Shared):Prop:=∃ vs H',Inv X pins σ H' s'/\Vals vs us/\Q vs H'
noncomputable def SP(X:Cx)(pins:List (Addr × Obj))(D:Ends)(f:Flow)(s':Shared):Prop:=
  match f with
  | .next=>∃ σ' H',Inv X pins σ' H' s'/\D.nx σ' H'
  | .brk=>∃ σ' H',Inv X pins σ' H' s'/\D.bk σ' H'
  | .cont=>∃ σ' H',Inv X pins σ' H' s'/\D.ct σ' H'
  | .ret u=>∃ v σ' H',Inv X pins σ' H' s'/\RelV v u/\D.rt v H'
noncomputable def PE(X:Cx)(e:Expr)(t:TE):Prop:=
  ∀ (pins:List (Addr × Obj)) (s:Shared) (σ:St) (H:Hp) (Q:VK),Inv X pins σ H s->t σ H Q->wpAny (model X.prog X.w) X.A (eval e X.env) (EP X pins σ Q) X.xe s
noncomputable def PT(X:Cx)(e:Expr)(t:TT):Prop:=
  ∀ (pins:List (Addr × Obj)) (s:Shared) (σ:St) (H:Hp) (Q:Bool->Hp->Prop),Inv X pins σ H s->t σ H Q->wpAny (model X.prog X.w) X.A (isTrue e X.env (eval e X.env)) (TP X pins σ Q) X.xe s
noncomputable def PW(X:Cx)(e:Expr)(t:TT):Prop:=
  ∀ (whole:Sem Value) (pins:List (Addr × Obj)) (s:Shared) (σ:St) (H:Hp) (Q:Bool->Hp->Prop),Inv X pins σ H s->t σ H Q->wpAny (model X.prog X.w) X.A (isTrue e X.env whole) (TP X pins σ Q) X.xe s
theorem PW.pt{X:Cx}{e:Expr}{t:TT}(h:PW X e t):PT X e t:=h _
noncomputable def PA(X:Cx)(es:List Expr)(t:TA):Prop:=
  ∀ (pos:Pos) (pins:List (Addr × Obj)) (s:Shared) (σ:St) (H:Hp) (Q:List V->Hp->Prop),Inv X pins σ H s->t σ H Q->wpAny (model X.prog X.w) X.A (spliced (backTo pos (starEach es X.env))) (AP X pins σ Q) X.xe s
noncomputable def PS(X:Cx)(st:Stmt)(t:TS):Prop:=
  ∀ (pins:List (Addr × Obj)) (s:Shared) (σ:St) (H:Hp) (D:Ends),Inv X pins σ H s->t D σ H->wpAny (model X.prog X.w) X.A (exec st X.env) (SP X pins D) X.xe s
noncomputable def PSs(X:Cx)(st:List Stmt)(t:TS):Prop:=
  ∀ (pins:List (Addr × Obj)) (s:Shared) (σ:St) (H:Hp) (D:Ends),Inv X pins σ H s->t D σ H->wpAny (model X.prog X.w) X.A (execs st X.env) (SP X pins D) X.xe s
theorem thn{α:Type}{t:Sem α}{Q Q':α->Shared->Prop}{M:Model}{A:Around}{E:Value->Shared->Prop}{s:Shared}(h:wpAny M A t Q E s)(hQ:∀ a s,Q a s->Q' a s):wpAny M A t Q' E s:=wpAny_mono h hQ λ _ _ x=>x
end L2
namespace L2
open PySem PySem.Spec PyProof.Rows
section
variable{X:Cx}
theorem bin{a b:Expr}{ta tb:TE}(ha:PE X a ta)(hb:PE X b tb){pins:List (Addr × Obj)}{s:Shared}{σ:St}{H:Hp}{R:V->V->Hp->Prop}(I:Inv X pins σ H s)(h:ta σ H λ x H1=>tb σ H1 λ y H2=>R x y H2)
    {α:Type} {Q:α->Shared->Prop} {f:Value->Value->Sem α}
    (hf:∀ v u s2 x y H2,Inv X pins σ H2 s2->RelV x v->RelV y u->R x y H2->wpAny (model X.prog X.w) X.A (f v u) Q X.xe s2) :
    wpAny (model X.prog X.w) X.A (eval a X.env) (λ v s₁=>wpAny (model X.prog X.w) X.A (eval b X.env) (λ u s₂=>wpAny (model X.prog X.w) X.A (f v u) Q X.xe s₂) X.xe s₁) X.xe s:=by
  refine thn (ha pins s σ H _ I h) λ v s1 ⟨x,H1,I1,r1,q1⟩=>?_
  refine thn (hb pins s1 σ H1 _ I1 q1) λ u s2 ⟨y,H2,I2,r2,q2⟩=>?_
  exact hf v u s2 x y H2 I2 r1 r2 q2
noncomputable def Pa(i:Nat):TE:=λ σ H Q=>∃ v,σ[i]? = some (some v)/\Q v H
noncomputable def tC(v:V):TE:=λ _ H Q=>Q v H
theorem Up{i:Nat}{x:Str}{pos:Pos}(hN:X.N[i]? = some x)(hv:Vis X.env.scope x)(hd:(x == ("__debug__":Str))=false:=by decide)(hcd:(x == ("__classdict__":Str))=false:=by decide):PE X (.Name x pos) (Pa i):=by
  intro pins s σ H Q I h
  obtain⟨v,e,h⟩:=h
  obtain⟨m,hn,hl⟩:=I.loc
  obtain⟨u,r,l⟩:=hl i x v hN e hv
  have fin:EP X pins σ Q u s:=⟨v,H,I,r,h⟩
  rcases l with⟨hk,hm⟩|⟨hk,c,hc,hcell⟩
  . exact wpAny_Name (wpAny_loadName_local I.ok.kind hk hn hm fin) hd
  . rcases hk with hk|hk
    . exact wpAny_Name (wpAny_loadName_cell I.ok.kind hk hc hcell fin) hd
    . exact wpAny_Name (wpAny_loadName_free I.ok.kind hk hc hcell fin hcd) hd
theorem Ux{i j pos}:PE X (.Constant (.int i) j pos) (tC (.int i)):=λ _ _ _ H _ I h=>wpAny_Constant_int ⟨.int i,H,I.tok _,⟨_,rfl⟩,h⟩
theorem Vw{b j pos}:PE X (.Constant (.bool b) j pos) (tC (.bl b)):=λ _ _ _ H _ I h=>Constant_bool ⟨.bl b,H,I,rfl,h⟩
theorem Ur{x j pos}:PE X (.Constant (.str x) j pos) (tC (.str x)):=λ _ _ _ H _ I h=>Calls.Constant_str ⟨.str x,H,I.tok _,⟨_,rfl⟩,h⟩
noncomputable def Gl(X:Cx)(x:Str):Prop:=X.env.kindOf x=some .globalImplicit
theorem TQ{E:Value->Shared->Prop}{pins:List (Addr × Obj)}{s:Shared}{σ:St}{H:Hp}{x:Str}{u:Value}{pos:Pos}{Q:Value->Shared->Prop}(I:Inv X pins σ H s)(hg:Gl X x)(hm:X.mg x=some u)(h:Q u s)
    (hd:(x == ("__debug__":Str))=false:=by decide):wpAny (model X.prog X.w) X.A (eval (.Name x pos) X.env) Q E s:=
  Calls.Name_function_global I.ok.kind hg (Calls.loadGlobal_global (by rw[I.ok.glob];exact I.mod.glob.keeps I.bk) hm h) hd
theorem EN{E:Value->Shared->Prop}{pins:List (Addr × Obj)}{s:Shared}{σ:St}{H:Hp}{x:Str}{u:Value}{pos:Pos}{Q:Value->Shared->Prop}(I:Inv X pins σ H s)(hg:Gl X x)(hm:X.mg x=none)(hv:bootBuiltins x=some u)(h:Q u s)
    (hn:x ≠ "__name__":=by decide) (hd:(x == ("__debug__":Str))=false:=by decide):wpAny (model X.prog X.w) X.A (eval (.Name x pos) X.env) Q E s:=by
  obtain⟨mb,h1,h2⟩:=I.mod.blt
  exact Calls.Name_function_global I.ok.kind hg (Calls.loadGlobal_builtin (by rw[I.ok.glob];exact I.mod.glob.keeps I.bk) hm (by rw[I.ok.blt];exact h1.keeps I.bk) ((h2 x hn).trans hv) h) hd
variable{a b:Expr}{ta tb:TE}{pos:Pos}
noncomputable def PC(X:Cx)(op:CmpOp)(a b:Expr)(t:TE):Prop:=
  ∀ (pins:List (Addr × Obj)) (s:Shared) (σ:St) (H:Hp) (Q:VK),Inv X pins σ H s->t σ H Q ->
    wpAny (model X.prog X.w) X.A (eval a X.env) (λ v s₁=>wpAny (model X.prog X.w) X.A (eval b X.env) (λ u s₂=>wpAny (model X.prog X.w) X.A (compareOp op v u) (EP X pins σ Q) X.xe s₂) X.xe s₁) X.xe s
theorem Qg(b:Expr){op:CmpOp}(h:op ≠ .In)(h2:op ≠ .NotIn):behindInMarks op b=false:=by
  have e1:(op == CmpOp.In)=false:=by cases op <;> first|rfl|exact absurd rfl h
  have e2:(op == CmpOp.NotIn)=false:=by cases op <;> first|rfl|exact absurd rfl h2
  cases b <;> simp[behindInMarks,e1,e2]
noncomputable def tB(t:TE):TT:=λ σ H Q=>t σ H λ x H1=>∃ c,x=.bl c/\Q c H1
theorem Uc{op:CmpOp}{t:TE}(h:PC X op a b t)(h1:behindInMarks op b=false:=by first|exact Qg _ (by decide) (by decide)|rfl):PT X (.Compare a [op] [b] pos) (tB t):=by
  intro pins s σ H Q I hw
  refine wpAny_isTrue_Compare1 (thn (h pins s σ H _ I hw) λ v s1 h1=>thn h1 λ u s2 h2=>thn h2 λ c s3 ⟨x,H1,I1,r1,q1⟩=>?_) h1
  obtain⟨d,rfl,q⟩:=q1
  cases r1
  exact wpAny_truthy_bool ⟨H1,I1,q⟩
variable{tA tB':TT}{rest:List Expr}
noncomputable def Pq(t u:TT):TT:=λ σ H Q=>t σ H λ c H1=>if c=true then u σ H1 Q else Q false H1
noncomputable def tOr(t u:TT):TT:=λ σ H Q=>t σ H λ c H1=>if c=true then Q true H1 else u σ H1 Q
noncomputable def Pi(t:TT):TT:=λ σ H Q=>t σ H λ c H1=>Q (!c) H1
theorem Sn(ha:PT X a tA):PW X (.BoolOp .And [a] pos) tA:=by
  intro wh pins s σ H Q I h
  refine isTrue_and (thn (ha pins s σ H Q I h) λ c s1 e=>?_)
  cases c with
  | true=>exact isTrue_and_nil e
  | false=>exact e
theorem UZ(ha:PT X a tA):PW X (.BoolOp .Or [a] pos) tA:=by
  intro wh pins s σ H Q I h
  refine isTrue_or (thn (ha pins s σ H Q I h) λ c s1 e=>?_)
  cases c with
  | false=>exact isTrue_or_nil e
  | true=>exact e
theorem Ua(ha:PT X a tA)(hb:PW X (.BoolOp .And (b :: rest) pos) tB'):PW X (.BoolOp .And (a :: b :: rest) pos) (Pq tA tB'):=by
  intro wh pins s σ H Q I h
  refine isTrue_and (thn (ha pins s σ H _ I h) λ c s1 ⟨H1,I1,q1⟩=>?_)
  cases c with
  | true=>exact hb wh pins s1 σ H1 Q I1 q1
  | false=>exact⟨H1,I1,q1⟩
theorem Vr(ha:PT X a tA)(hb:PW X (.BoolOp .Or (b :: rest) pos) tB'):PW X (.BoolOp .Or (a :: b :: rest) pos) (tOr tA tB'):=by
  intro wh pins s σ H Q I h
  refine isTrue_or (thn (ha pins s σ H _ I h) λ c s1 ⟨H1,I1,q1⟩=>?_)
  cases c with
  | true=>exact⟨H1,I1,q1⟩
  | false=>exact hb wh pins s1 σ H1 Q I1 q1
theorem Ub(ha:PT X a tA):PT X (.UnaryOp .Not a pos) (Pi tA):=by
  intro pins s σ H Q I h
  exact isTrue_not (ha pins s σ H (λ c H1=>Q (!c) H1) I h)
noncomputable def Mw(ta tb:TE):TE:=λ σ H Q=>ta σ H λ x H1=>∃ c,x=.bl c/\if c=true then tb σ H1 Q else Q (.bl false) H1
noncomputable def Mr(ta:TE):TE:=λ σ H Q=>ta σ H λ x H1=>∃ c,x=.bl c/\Q (.bl (!c)) H1
theorem Ut{op}{t:TE}(h:PE X a t):PE X (.BoolOp op [a] pos) t:=λ pins s σ H Q I hw=>BoolOp_one (h pins s σ H Q I hw)
theorem Uz(ha:PE X a ta)(hb:PE X (.BoolOp .And (b :: rest) pos) tb):PE X (.BoolOp .And (a :: b :: rest) pos) (Mw ta tb):=by
  intro pins s σ H Q I h
  refine BoolOp_and (thn (ha pins s σ H _ I h) λ v s1 ⟨x,H1,I1,r1,q1⟩=>?_)
  obtain⟨c,rfl,q1⟩:=q1
  cases r1
  refine wpAny_truthy_bool ?_
  cases c with
  | true=>exact hb pins s1 σ H1 Q I1 q1
  | false=>exact⟨.bl false,H1,I1,rfl,q1⟩
theorem Uu(ha:PE X a ta):PE X (.UnaryOp .Not a pos) (Mr ta):=by
  intro pins s σ H Q I h
  refine UnaryOp_ (thn (ha pins s σ H _ I h) λ v s1 ⟨x,H1,I1,r1,q1⟩=>?_)
  obtain⟨c,rfl,q1⟩:=q1
  cases r1
  exact not_of (wpAny_truthy_bool ⟨.bl (!c),H1,I1,rfl,q1⟩)
noncomputable def tIf(t:TT)(ta tb:TE):TE:=λ σ H Q=>t σ H λ c H1=>if c=true then ta σ H1 Q else tb σ H1 Q
theorem Qc{c:Expr}(hc:PT X c tA)(ha:PE X a ta)(hb:PE X b tb):PE X (.IfExp c a b pos) (tIf tA ta tb):=by
  intro pins s σ H Q I h
  refine wpAny_IfExp (thn (hc pins s σ H _ I h) λ d s1 ⟨H1,I1,q1⟩=>?_)
  cases d with
  | true=>exact ha pins s1 σ H1 Q I1 q1
  | false=>exact hb pins s1 σ H1 Q I1 q1
end
end L2
namespace L2
open PySem PySem.Spec PyProof.Rows
noncomputable def SqL(K:PySem.W.Frag)(H:Hp)(a:Addr)(xs:List V):Prop:=
  Rd H a (.lst xs) ∨
    ∃ (o:Obj) (its:Array Value) (n:Nat),K.lookup a=some o/\o.cls=.type "list"/\o.dict=none/\o.data=.seq its n/\its.size <= sizeLine/\Vals xs its.toList
noncomputable def SqT(K:PySem.W.Frag)(H:Hp)(a:Addr)(xs:List V):Prop:=
  Rd H a (.tup xs) ∨
    ∃ (o:Obj) (its:Array Value) (n:Nat),K.lookup a=some o/\o.cls=.type "tuple"/\o.dict=none/\o.data=.seq its n/\its.size <= sizeLine/\Vals xs its.toList
noncomputable def Wy:Value->Option V
  | .none=>some .non
  | .bool b=>some (.bl b)
  | .int i _=>some (.int i)
  | .str x _=>some (.str x)
  | .bytes b _=>some (.byt b)
  | .float b _=>some (.flt b)
  | .ref a=>some (.ref a)
  | .type n=>some (.ty n)
  | _=>none
theorem RelV.abs{x:V}{u:Value}(r:RelV x u):Wy u=some x:=by
  cases x with
  | non=>cases r;rfl
  | bl _=>cases r;rfl
  | int _=>obtain⟨t,rfl⟩:=r;rfl
  | str _=>obtain⟨t,rfl⟩:=r;rfl
  | byt _=>obtain⟨t,rfl⟩:=r;rfl
  | flt _=>obtain⟨t,rfl⟩:=r;rfl
  | ref _=>cases r;rfl
  | ty _=>cases r;rfl
theorem RelV.inj{x y:V}{u:Value}(r:RelV x u)(q:RelV y u):x=y:=Option.some.inj (r.abs.symm.trans q.abs)
theorem Vals.inj:∀ {xs ys:List V} {us:List Value},Vals xs us->Vals ys us->xs=ys
  | _,_,_,.nil,.nil=>rfl
  | _,_,_,.cons r t,.cons r' t'=>by rw[r.inj r',Vals.inj t t']
section
variable{X:Cx}{pins:List (Addr × Obj)}{σ:St}{H:Hp}{s:Shared}{a:Addr}{xs ys:List V}
theorem SqL.of{K:PySem.W.Frag}(h:H a=some (.lst xs)):SqL K H a xs:=.inl (.inl h)
theorem SqT.of{K:PySem.W.Frag}(h:H a=some (.tup xs)):SqT K H a xs:=.inl (.inl h)
theorem Inv.list(I:Inv X pins σ H s)(h:SqL X.K H a xs):∃ its:List Value,Vals xs its/\PlainL s.heap a its.toArray/\xs.length <= sizeLine:=by
  rcases h with h|⟨o,its,n,hk,hc,hd,hs,hz,r⟩
  . obtain⟨z,its,n,r,e⟩:=h.ok I.hok
    exact⟨its,r,⟨_,n,e,rfl,rfl,rfl⟩,z⟩
  . refine⟨its.toList,r,⟨o,n,I.kIn a o hk,hc,hd,by simpa using hs⟩,?_⟩
    have e:=r.length
    simp only[Array.length_toList]at e
    omega
theorem Inv.tuple(I:Inv X pins σ H s)(h:SqT X.K H a xs):∃ its:List Value,Vals xs its/\IsTup s.heap a its.toArray/\xs.length <= sizeLine:=by
  rcases h with h|⟨o,its,n,hk,hc,_,hs,hz,r⟩
  . obtain⟨z,its,r,p⟩:=h.ok I.hok
    exact⟨its,r,p.t,z⟩
  . refine⟨its.toList,r,⟨o,I.kIn a o hk,hc,n,by simpa using hs⟩,?_⟩
    have e:=r.length
    simp only[Array.length_toList]at e
    omega
theorem Inv.tupleD(I:Inv X pins σ H s)(h:SqT X.K H a xs):∃ ob,s.heap.get? a=some ob/\ob.cls=.type "tuple"/\ob.dict=none:=by
  rcases h with h|⟨o,its,n,hk,hc,hd,_⟩
  . obtain⟨_,_,_,o,e,c,_,d⟩:=h.ok I.hok
    exact⟨o,e,c,d⟩
  . exact⟨o,I.kIn a o hk,hc,hd⟩
theorem Inv.list_inj(I:Inv X pins σ H s)(h:SqL X.K H a xs)(h':SqL X.K H a ys):xs=ys:=by
  obtain⟨its,r,⟨o,n,e,_,_,d⟩,_⟩:=I.list h
  obtain⟨its',r',⟨o',n',e',_,_,d'⟩,_⟩:=I.list h'
  rw[e]at e';cases e'
  rw[d]at d'
  injection d' with d1 _
  have:its=its':=by simpa using congrArg Array.toList d1
  subst this
  exact r.inj r'
theorem Inv.tuple_inj(I:Inv X pins σ H s)(h:SqT X.K H a xs)(h':SqT X.K H a ys):xs=ys:=by
  obtain⟨its,r,⟨o,e,_,n,d⟩,_⟩:=I.tuple h
  obtain⟨its',r',⟨o',e',_,n',d'⟩,_⟩:=I.tuple h'
  rw[e]at e';cases e'
  rw[d]at d'
  injection d' with d1 _
  have:its=its':=by simpa using congrArg Array.toList d1
  subst this
  exact r.inj r'
end
noncomputable abbrev Cx.wish(X:Cx)(E:Value->Shared->Prop):Cx:={ X with xe:=E }
noncomputable abbrev Cx.nox(X:Cx):Cx:=X.wish λ _ _=>False
theorem Cx.Ok.wish{X:Cx}(ok:X.Ok)(E:Value->Shared->Prop):(X.wish E).Ok:=
  ⟨ok.mod,ok.kind,ok.glob,ok.blt,ok.above,ok.inj,ok.has,ok.cab,ok.hd,ok.frames,ok.stk,ok.exf,ok.bs,ok.bsz,ok.noex,ok.exfs,ok.funs,ok.frf⟩
theorem Cx.Ok.unwish{X:Cx}{E:Value->Shared->Prop}(ok:(X.wish E).Ok):X.Ok:=
  ⟨ok.mod,ok.kind,ok.glob,ok.blt,ok.above,ok.inj,ok.has,ok.cab,ok.hd,ok.frames,ok.stk,ok.exf,ok.bs,ok.bsz,ok.noex,ok.exfs,ok.funs,ok.frf⟩
section
variable{X:Cx}{pins:List (Addr × Obj)}{σ:St}{H:Hp}{s:Shared}{E:Value->Shared->Prop}
theorem Inv.wish(I:Inv X pins σ H s)(E:Value->Shared->Prop):Inv (X.wish E) pins σ H s:=⟨I.ok.wish E,I.os,I.bare,I.base,I.loc,I.cell,I.free,I.freeC,I.pin,I.hok,I.len⟩
theorem Inv.unwish(I:Inv (X.wish E) pins σ H s):Inv X pins σ H s:=⟨I.ok.unwish,I.os,I.bare,I.base,I.loc,I.cell,I.free,I.freeC,I.pin,I.hok,I.len⟩
theorem SP.unwish{D:Ends}{f:Flow}{s':Shared}(h:SP (X.wish E) pins D f s'):SP X pins D f s':=by
  cases f with
  | next=>obtain⟨σ',H',I,q⟩:=h;exact⟨σ',H',I.unwish,q⟩
  | brk=>obtain⟨σ',H',I,q⟩:=h;exact⟨σ',H',I.unwish,q⟩
  | cont=>obtain⟨σ',H',I,q⟩:=h;exact⟨σ',H',I.unwish,q⟩
  | ret u=>obtain⟨v,σ',H',I,r,q⟩:=h;exact⟨v,σ',H',I.unwish,r,q⟩
theorem PSs.nox{st:List Stmt}{t:TS}(h:PSs X.nox st t):PSs X st t:=λ pins s σ H D I hw=>
  wpAny_mono (h pins s σ H D (I.wish _) hw) (λ _ _ q=>q.unwish) λ _ _ z=>False.elim z
end
section
variable{X:Cx}{st:Stmt}{rest:List Stmt}{t u:TS}{e:Expr}{te:TE}{pos:Pos}
noncomputable def Ms:TS:=λ D σ H=>D.nx σ H
noncomputable def Pd(t u:TS):TS:=λ D σ H=>t { D with nx:=u D } σ H
theorem Sq:PSs X [] Ms:=λ _ _ σ H _ I h=>wpAny_execs_nil ⟨σ,H,I,h⟩
theorem QQ(h1:PS X st t)(h2:PSs X rest u):PSs X (st :: rest) (Pd t u):=by
  intro pins s σ H D I h
  refine wpAny_execs_cons (thn (h1 pins s σ H { D with nx:=u D } I h) λ f s1 q=>?_)
  cases f with
  | next=>
    obtain⟨σ',H',I',q⟩:=q
    exact h2 pins s1 σ' H' D I' q
  | ret v=>exact q
  | brk=>exact q
  | cont=>exact q
theorem So(h1:PS X st t):PSs X [st] t:=by
  intro pins s σ H D I h
  refine wpAny_execs_cons (thn (h1 pins s σ H D I h) λ f s1 q=>?_)
  cases f with
  | next=>exact wpAny_execs_nil q
  | ret v=>exact q
  | brk=>exact q
  | cont=>exact q
theorem Inv.quiet{pins:List (Addr × Obj)}{σ:St}{H:Hp}{s:Shared}(I:Inv X pins σ H s):interactive X.env=false:=by simp[interactive,I.ok.kind]
noncomputable def Mt(te:TE):TS:=λ D σ H=>te σ H λ _ H1=>D.nx σ H1
theorem Su(he:PE X e te)(hs:swapsWith e none pos.line X.env=pure false:=by rfl):PS X (.Expr e pos) (Mt te):=by
  intro pins s σ H D I h
  exact wpAny_Expr_any (thn (he pins s σ H _ I h) λ v s1 ⟨x,H1,I1,r1,q1⟩=>⟨σ,H1,I1,q1⟩) I.quiet hs
noncomputable def Pf(te:TE):TS:=λ D σ H=>te σ H D.rt
theorem Ue(he:PE X e te):PS X (.Return (some e) pos) (Pf te):=by
  intro pins s σ H D I h
  exact wpAny_Return_some (thn (he pins s σ H _ I h) λ v s1 ⟨x,H1,I1,r1,q1⟩=>⟨x,σ,H1,I1,r1,q1⟩)
noncomputable def Pn(c:TT)(t u:TS):TS:=λ D σ H=>c σ H λ b H1=>if b=true then t D σ H1 else u D σ H1
theorem Vs{c:Expr}{a b:List Stmt}{tc:TT}(hc:PT X c tc)(ha:PSs X a t)(hb:PSs X b u):PS X (.If c a b pos) (Pn tc t u):=by
  intro pins s σ H D I h
  refine wpAny_If (thn (hc pins s σ H _ I h) λ d s1 ⟨H1,I1,q1⟩=>?_)
  cases d with
  | true=>exact ha pins s1 σ H1 D I1 q1
  | false=>exact hb pins s1 σ H1 D I1 q1
end
noncomputable abbrev TG:=V->St->Hp->(St->Hp->Prop)->Prop
noncomputable abbrev TGs:=List V->St->Hp->(St->Hp->Prop)->Prop
noncomputable def PG(X:Cx)(target:Expr)(t:TG):Prop:=
  ∀ (pins:List (Addr × Obj)) (s:Shared) (σ:St) (H:Hp) (v:V) (u:Value) (Q:St->Hp->Prop),Inv X pins σ H s->RelV v u->t v σ H Q ->
    wpAny (model X.prog X.w) X.A (assign target X.env u) (λ _ s'=>∃ σ' H',Inv X pins σ' H' s'/\Q σ' H') X.xe s
noncomputable def PGs(X:Cx)(ts:List Expr)(t:TGs):Prop:=
  ∀ (pins:List (Addr × Obj)) (s:Shared) (σ:St) (H:Hp) (vs:List V) (us:List Value) (Q:St->Hp->Prop),Inv X pins σ H s->Vals vs us->t vs σ H Q ->
    wpAny (model X.prog X.w) X.A (assignInOrder ((assignEach ts X.env).map (·.2)) us) (λ _ s'=>∃ σ' H',Inv X pins σ' H' s'/\Q σ' H') X.xe s
noncomputable abbrev RQ:=V->V->V->Hp->(Hp->Prop)->Prop
noncomputable def VT(X:Cx)(t:RQ):Prop:=
  ∀ (pins:List (Addr × Obj)) (s:Shared) (σ:St) (H:Hp) (o i v:V) (ov iv u:Value) (Q:Hp->Prop),Inv X pins σ H s->RelV o ov->RelV i iv->RelV v u->t o i v H Q ->
    wpAny (model X.prog X.w) X.A (setItem ov iv u) (λ _ s'=>∃ H',Inv X pins σ H' s'/\Q H') X.xe s
section
variable{X:Cx}{pos:Pos}
noncomputable def Fv(i:Nat):TG:=λ v σ H Q=>Q (σ.set i (some v)) H
theorem T5{i:Nat}{x:Str}(hN:X.N.Nodup)(hi:X.N[i]? = some x)(hx:Loc X.env.scope x)(hf:X.fn x=true ∨ X.env.scope.names.lookup x=some .local:=by first|exact .inl rfl|exact .inr rfl|assumption):PG X (.Name x pos) (Fv i):=by
  intro pins s σ H v u Q I r h
  exact wpAny_assign_Name (DV I hN hi hx r (λ s' I'=>⟨_,H,I',h⟩) hf)
noncomputable def Qt:TGs:=λ vs σ H Q=>vs=[]/\Q σ H
noncomputable def Nb(t:TG)(u:TGs):TGs:=λ vs σ H Q=>∃ v r,vs=v :: r/\t v σ H λ σ' H'=>u r σ' H' Q
theorem T3:PGs X [] Qt:=by
  intro pins s σ H vs us Q I r h
  obtain⟨e,h⟩:=h
  subst e
  cases r
  exact assignInOrder_nil ⟨σ,H,I,h⟩
theorem QZ{e:Expr}{es:List Expr}{t:TG}{u:TGs}(h1:PG X e t)(h2:PGs X es u)
    (hs:(assignEach (e :: es) X.env).map (·.2)=assign e X.env :: (assignEach es X.env).map (·.2):=by rfl):PGs X (e :: es) (Nb t u):=by
  intro pins s σ H vs us Q I r h
  obtain⟨v,vr,e1,h⟩:=h
  subst e1
  cases r with
  | cons r rr=>
    rw[hs]
    refine assignInOrder_cons (thn (h1 pins s σ H _ _ _ I r h) λ _ s1 ⟨σ1,H1,I1,q1⟩=>?_)
    exact h2 pins s1 σ1 H1 _ _ Q I1 rr q1
noncomputable def Na(K:PySem.W.Frag)(n:Nat)(t:TGs):TG:=λ v σ H Q=>∃ a xs,v=.ref a/\SqT K H a xs/\xs.length=n/\t xs σ H Q
theorem Uk{es:List Expr}{k:Nat}{t:TGs}{n:Nat}(hc:X.calm=true)(h:PGs X es t)
    (hn:(assignEach es X.env).length=n:=by rfl) (hst:(assignEach es X.env).findIdx? (·.1)=none:=by rfl):PG X (.Tuple es k pos) (Na X.K n t):=by
  intro pins s σ H v u Q I r hw
  obtain⟨a,xs,e1,hq,hl,hw⟩:=hw
  subst e1
  cases r
  obtain⟨its,rv,ht,hz⟩:=I.tuple hq
  refine assign_Tuple_tuple (I.ok.hd hc) ht (by simp[hn,<- hl,rv.length]) hst λ h' hx=>?_
  have I1:Inv X pins σ H { s with heap:=h' }:=I.kept (t':=s.toks) λ b o e=>hx b o (Nat.ne_of_lt (Heap.lt_size e)) e
  exact h pins _ σ H xs _ Q I1 (by simpa using rv) hw
noncomputable def Qr(to ti:TE)(t:RQ):TG:=λ v σ H Q=>to σ H λ o H1=>ti σ H1 λ i H2=>t o i v H2 λ H3=>Q σ H3
theorem Ul{o i:Expr}{to ti:TE}{t:RQ}(ho:PE X o to)(hi:PE X i ti)(hs:VT X t)
    (ha:∀ v,assign (.Subscript o i pos) X.env v=(do
      let ov <- holding [v] (eval o X.env)
      let iv <- holding [v,ov] (eval i X.env)
      standAt pos
      holding [v,ov,iv] (setItem ov iv v)
      release [v,ov,iv] []):=by intro _;rfl):PG X (.Subscript o i pos) (Qr to ti t):=by
  intro pins s σ H v u Q I r h
  rw[ha]
  refine wpAny_bind (wpAny_holding (thn (ho pins s σ H _ I h) λ ov s1 ⟨x,H1,I1,r1,q1⟩=>?_))
  refine wpAny_bind (wpAny_holding (thn (hi pins s1 σ H1 _ I1 q1) λ iv s2 ⟨y,H2,I2,r2,q2⟩=>?_))
  refine wpAny_bind (wpAny_standAt (wpAny_bind (wpAny_holding (thn (hs pins s2 σ H2 x y v ov iv u _ I2 r1 r2 r q2) λ _ s3 ⟨H3,I3,q3⟩=>?_))))
  exact wpAny_release ⟨σ,H3,I3,q3⟩
noncomputable def FZ(te:TE)(g:TG):TS:=λ D σ H=>te σ H λ x H1=>g x σ H1 D.nx
theorem OM{tg e:Expr}{te:TE}{g:TG}(he:PE X e te)(hg:PG X tg g)(hs:swapsWithSole [tg] e pos.line X.env=pure false:=by rfl)(hw:swappedStores [tg] e X.env=pure none:=by rfl)
    (h1:(assignEach [tg] X.env).map (·.2)=[assign tg X.env]:=by rfl):PS X (.Assign [tg] e pos) (FZ te g):=by
  intro pins s σ H D I h
  refine wpAny_Assign_stores (thn (he pins s σ H _ I h) λ v s1 ⟨x,H1,I1,r1,q1⟩=>?_) hs hw
  rw[h1]
  exact thn (hg pins s1 σ H1 x v _ I1 r1 q1) λ _ s2 q=>q
theorem Ud{i:Nat}{x:Str}{e:Expr}{te:TE}{pos':Pos}(hN:X.N.Nodup)(hi:X.N[i]? = some x)(hx:Loc X.env.scope x)(he:PE X e te)(hs:swapsWith e (some (.Name x pos')) pos.line X.env=pure false:=by rfl)(hf:X.fn x=true ∨ X.env.scope.names.lookup x=some .local:=by first|exact .inl rfl|exact .inr rfl|assumption) :
    PS X (.Assign [.Name x pos'] e pos) (FZ te (Fv i)):=by
  intro pins s σ H D I h
  refine wpAny_Assign_Name (thn (he pins s σ H _ I h) λ v s1 ⟨y,H1,I1,r1,q1⟩=>?_) hs
  exact DV I1 hN hi hx r1 (λ s2 I2=>⟨_,H1,I2,q1⟩) hf
noncomputable def Ph(i j:Nat)(ta:TA):TS:=λ D σ H=>ta σ H λ vs H1=>∃ v w,vs=[v,w]/\D.nx ((σ.set i (some v)).set j (some w)) H1
theorem Uf{i j:Nat}{x y:Str}{a b:Expr}{ta:TA}{px py pt:Pos}{kt k2 pt2}(hc:X.calm=true)(hN:X.N.Nodup)(hi:X.N[i]? = some x)(hj:X.N[j]? = some y)(hij:i ≠ j)
    (hx:X.env.scope.names.lookup x=some .local) (hy:X.env.scope.names.lookup y=some .local) (ha:PA X [a,b] ta)
    (hw:swappedStores [.Tuple [.Name x px,.Name y py] kt pt] (.Tuple [a,b] k2 pt2) X.env=pure (some [x,y]))
    (hs:swapsWithSole [.Tuple [.Name x px,.Name y py] kt pt] (.Tuple [a,b] k2 pt2) pos.line X.env=pure false:=by rfl) :
    PS X (.Assign [.Tuple [.Name x px,.Name y py] kt pt] (.Tuple [a,b] k2 pt2) pos) (Ph i j ta):=by
  intro pins s σ H D I h
  rw[exec_Assign_arm]
  refine wpAny_bind (wpAny_standAt ?_)
  rw[hs]
  refine wpAny_bind (wpAny_pure ?_)
  rw[if_neg (by decide)]
  refine wpAny_bind (Tuple_ (thn (ha _ pins s σ H _ I h) λ us s1 ⟨vs,H1,I1,r1,q1⟩=>?_))
  obtain⟨v,w,e1,q1⟩:=q1
  subst e1
  obtain⟨u1,u2,rfl,rv,rw'⟩:∃ u1 u2,us=[u1,u2]/\RelV v u1/\RelV w u2:=by
    cases r1 with
    | cons p q=>
      cases q with
      | cons p' q'=>
        cases q'
        exact⟨_,_,rfl,p,p'⟩
  refine wpAny_newObj_type ?_ (by show 2 <= sizeLine;decide)
  have I2:Inv X pins σ H1 { s1 with heap:=s1.heap.push { cls:=.type "tuple",data:=.seq [u1,u2].toArray } }:=I1.kept (t':=s1.toks) λ b o e=>Heap.get?_push_of_some _ e
  rw[hw]
  refine wpAny_bind (wpAny_pure ?_)
  show wpAny (model X.prog X.w) X.A (do rule "assign.swapped-stores";let items <- unpackItems (.ref s1.heap.objs.size) 2 none;assignInOrder [λ v=>bindName X.env y v,λ v=>bindName X.env x v] items.reverse;pure Flow.next) _ _ _
  refine wpAny_bind (wpAny_rule (wpAny_bind (unpackItems_tuple (items:=#[u1,u2]) (I.ok.hd hc) (IsTup.new s1.heap _) λ h' hx'=>?_)))
  have I3:=I2.kept (h':=h') (t':=s1.toks) λ b o e=>hx' b o (Nat.ne_of_lt (Heap.lt_size e)) e
  show wpAny _ _ (assignInOrder [λ v=>bindName X.env y v,λ v=>bindName X.env x v] [u2,u1] >>= λ _=>pure Flow.next) _ _ _
  refine wpAny_bind (assignInOrder_cons (wpAny_bindName (DV I3 hN hj (.inl hy) rw' (λ s2 I4=>?_) (.inr hy))))
  refine assignInOrder_cons (wpAny_bindName (DV I4 hN hi (.inl hx) rv (λ s3 I5=>assignInOrder_nil (wpAny_pure ?_)) (.inr hx)))
  rw[List.set_comm _ _ (Ne.symm hij)]at I5
  exact⟨_,H1,I5,q1⟩
end
section
variable{X:Cx}{pos:Pos}
end
structure It where
  go:Nat->Hp->Prop
  yld:Nat->Hp->V->Hp->Prop
  stop:Nat->Hp->Prop
noncomputable def FpOk(X:Cx)(pins:List (Addr × Obj))(H:Hp)(b:Addr):Prop:=
  H b=none/\b ≠ X.env.locals/\b ∉ X.fs/\(b ∈ X.ex ∨ X.s₀.heap.objs.size <= b)/\(∀ x c,X.env.cells.lookup x=some c->c ≠ b)/\∀ p ∈ X.pn ++ pins,p.1 ≠ b
theorem Inv.fpOk{X:Cx}{pins:List (Addr × Obj)}{σ:St}{H H':Hp}{s:Shared}{b:Addr}(I:Inv X pins σ H s)(hb:s.heap.objs.size <= b)(hn:H' b=none):FpOk X pins H' b:=by
  refine⟨hn,Nat.ne_of_gt (Nat.lt_of_lt_of_le I.lt hb),I.nofs hb,.inr (Nat.le_trans I.sz hb),λ x c e z=>?_,λ p hp z=>?_⟩
  . obtain⟨v,q⟩:=I.cell x c e
    exact absurd (Nat.lt_of_lt_of_le q.lt (by rw[z];exact hb)) (Nat.lt_irrefl _)
  . exact absurd (Nat.lt_of_lt_of_le (Heap.lt_size (I.pin p hp).1) (by rw[z];exact hb)) (Nat.lt_irrefl _)
structure Turn(P:Program)(w:World)(K:PySem.W.Frag)(tg:Expr)(J:It)(fp:List Addr)(it:Addr)(tn:Nat->Heap->Prop):Prop where
  mem:it ∈ fp
  obj:∀ i h,tn i h->∀ b ∈ fp,∃ o,h.get? b=some o/\∀ v,o.data ≠ .cell v
  keep:∀ i h h',tn i h->(∀ b ∈ fp,∀ o,h.get? b=some o->h'.get? b=some o)->tn i h'
  item:∀ (X:Cx),X.prog=P->X.w=w->X.K=K->X.calm=true->∀ (i:Nat) (pins:List (Addr × Obj)) (s:Shared) (σ:St) (H:Hp) (E:Value->Shared->Prop),Inv X pins σ H s->(∀ b ∈ fp,FpOk X pins H b)->tn i s.heap->J.go i H ->
    wpAny (model P w) X.A (pyNext (.ref it)) (λ r s1=>∃ u,r=some u /\
      wpAny (model P w) X.A (letOwnedTupleGo tg (.ref it) u) (λ _ s2=>∃ x H',Inv X pins σ H' s2/\RelV x u/\J.yld i H x H'/\tn (i + 1) s2.heap/\∀ b ∈ fp,H' b=none) E s1) E s
  done:∀ (X:Cx),X.prog=P->X.w=w->X.K=K->X.calm=true->∀ (i:Nat) (pins:List (Addr × Obj)) (s:Shared) (σ:St) (H:Hp) (E:Value->Shared->Prop),Inv X pins σ H s->(∀ b ∈ fp,FpOk X pins H b)->tn i s.heap->J.stop i H ->
    wpAny (model P w) X.A (pyNext (.ref it)) (λ r s1=>r=none/\Inv X pins σ H s1) E s
  self:∀ (A:Around) (i:Nat) (s:Shared) (Q:Value->Shared->Prop) (E:Value->Shared->Prop),tn i s.heap->Q (.ref it) s->wpAny (model P w) A (pyIter (.ref it)) Q E s
noncomputable abbrev TI:=St->Hp->(It->Hp->Prop)->Prop
noncomputable def PIE(X:Cx)(pins:List (Addr × Obj))(σ:St)(tg:Expr)(R:It->Hp->Prop)(itv:Value)(s2:Shared):Prop:=
  ∃ (it:Addr) (fp:List Addr) (tn:Nat->Heap->Prop) (J:It) (H':Hp),itv=.ref it/\Inv X pins σ H' s2/\Turn X.prog X.w X.K tg J fp it tn/\tn 0 s2.heap/\(∀ b ∈ fp,FpOk X pins H' b)/\R J H'
noncomputable def PI(X:Cx)(tg iter:Expr)(wi:TI):Prop:=
  ∀ (pins:List (Addr × Obj)) (s:Shared) (σ:St) (H:Hp) (R:It->Hp->Prop),Inv X pins σ H s->wi σ H R ->
    wpAny (model X.prog X.w) X.A (eval iter X.env) (λ v s1=>wpAny (model X.prog X.w) X.A (pyIter v) (PIE X pins σ tg R) X.xe s1) X.xe s
theorem NZ{M:Model}{A:Around}{E:Value->Shared->Prop}{s:Shared}{tg:Expr}{it:Addr}{u:Value}{o:Obj}{n:String}{vs:Array Value}{Q:Unit->Shared->Prop}(ho:s.heap.get? it=some o)(hc:o.cls=.type n)(hd:o.data=.fields vs)
    (hn:["enumerate","zip","dict_itemiterator","dict_reverseitemiterator","odict_iterator","itertools.zip_longest","itertools.pairwise"].contains n=false) (hQ:Q () s):wpAny M A (letOwnedTupleGo tg (.ref it) u) Q E s:=by
  unfold letOwnedTupleGo
  cases tg <;> first
    | exact wpAny_pure hQ
    | (cases u <;> first
        | exact wpAny_pure hQ
        | (refine wpAny_bind (wpAny_load ho ?_)
           rw[hc,hd]
           show wpAny M A (if(["enumerate","zip","dict_itemiterator","dict_reverseitemiterator","odict_iterator","itertools.zip_longest","itertools.pairwise"].contains n && vs[0]? == some (rawInt _))=true then _ else _) Q E s
           rw[if_neg (by intro h;rw[hn,Bool.false_and]at h;cases h)]
           exact wpAny_pure hQ))
noncomputable def Itl(K:PySem.W.Frag)(a:Addr):It:=
  ⟨λ i H=>∃ xs x,SqL K H a xs/\xs[i]? = some x,λ i H x H'=>H'=H/\∀ xs,SqL K H a xs->xs[i]? = some x,λ i H=>∃ xs,SqL K H a xs/\xs.length <= i⟩
noncomputable def Itt(K:PySem.W.Frag)(a:Addr):It:=
  ⟨λ i H=>∃ xs x,SqT K H a xs/\xs[i]? = some x,λ i H x H'=>H'=H/\∀ xs,SqT K H a xs->xs[i]? = some x,λ i H=>∃ xs,SqT K H a xs/\xs.length <= i⟩
noncomputable def Itr(lo:Int)(n:Nat):It:=⟨λ i _=>i < n,λ i H x H'=>H'=H/\x=.int (lo + i),λ i _=>n <= i⟩
theorem O1{P:Program}{w:World}{K:PySem.W.Frag}{tg:Expr}(a it:Addr):Turn P w K tg (Itl K a) [it] it (λ i h=>h.IsListIter it a i) where
  mem:=by simp
  obj:=λ i h st b hb=>by
    have e:b=it:=by simpa using hb
    subst e
    obtain⟨o,e,c,d⟩:=st
    exact⟨o,e,λ v z=>by rw[d]at z;cases z⟩
  keep:=λ i h h' st k=>st.at λ o e=>k it (by simp) o e
  item:=by
    intro X hP hw hK hc i pins s σ H E I hf st hg
    subst hP hw hK
    obtain⟨xs,x,hq,hx⟩:=hg
    obtain⟨its,rv,p,hz⟩:=I.list hq
    obtain⟨u,hu,ru⟩:=rv.get hx
    obtain⟨f0,f1,f2,f3,f4,f5⟩:=hf it (by simp)
    refine wpAny_pyNext_list_item st p.isList (x:=u) (by simpa using hu) λ h' st' sb=>?_
    have I1:Inv X pins σ H { s with heap:=h' }:=I.turned (t':=s.toks) (λ b o hb e=>(sb.2 b hb).trans e) f0 f1 f3 f4 f5
    obtain⟨o,e,c,d⟩:=id st'
    exact⟨u,rfl,NZ (s:={ s with heap:=h' }) e c d (by decide) ⟨x,H,I1,ru,⟨rfl,λ ys hy=>by rw[I.list_inj hy hq];exact hx⟩,st',λ b hb=>(hf b hb).1⟩⟩
  done:=by
    intro X hP hw hK hc i pins s σ H E I hf st hg
    subst hP hw hK
    obtain⟨xs,hq,hx⟩:=hg
    obtain⟨its,rv,p,hz⟩:=I.list hq
    obtain⟨f0,f1,f2,f3,f4,f5⟩:=hf it (by simp)
    have hl:=rv.length
    exact wpAny_pyNext_list_end (I.ok.hd hc) st p.isList (by simp;omega) λ h' eb=>⟨rfl,I.turned (t':=s.toks) (λ b o hb e=>eb b o hb e) f0 f1 f3 f4 f5⟩
  self:=λ _ _ _ _ _ st h=>wpAny_pyIter_listiter st h
theorem Mm{P:Program}{w:World}{K:PySem.W.Frag}{tg:Expr}(a it:Addr):Turn P w K tg (Itt K a) [it] it (λ i h=>h.IsTupleIter it a i) where
  mem:=by simp
  obj:=λ i h st b hb=>by
    have e:b=it:=by simpa using hb
    subst e
    obtain⟨o,e,c,d⟩:=st
    exact⟨o,e,λ v z=>by rw[d]at z;cases z⟩
  keep:=λ i h h' st k=>st.at λ o e=>k it (by simp) o e
  item:=by
    intro X hP hw hK hc i pins s σ H E I hf st hg
    subst hP hw hK
    obtain⟨xs,x,hq,hx⟩:=hg
    obtain⟨its,rv,p,hz⟩:=I.tuple hq
    obtain⟨u,hu,ru⟩:=rv.get hx
    obtain⟨f0,f1,f2,f3,f4,f5⟩:=hf it (by simp)
    refine wpAny_pyNext_tuple_item st (show s.heap.IsTuple a its.toArray from p) (x:=u) (by simpa using hu) λ h' st' sb=>?_
    have I1:Inv X pins σ H { s with heap:=h' }:=I.turned (t':=s.toks) (λ b o hb e=>(sb.2 b hb).trans e) f0 f1 f3 f4 f5
    obtain⟨o,e,c,d⟩:=id st'
    exact⟨u,rfl,NZ (s:={ s with heap:=h' }) e c d (by decide) ⟨x,H,I1,ru,⟨rfl,λ ys hy=>by rw[I.tuple_inj hy hq];exact hx⟩,st',λ b hb=>(hf b hb).1⟩⟩
  done:=by
    intro X hP hw hK hc i pins s σ H E I hf st hg
    subst hP hw hK
    obtain⟨xs,hq,hx⟩:=hg
    obtain⟨its,rv,p,hz⟩:=I.tuple hq
    obtain⟨f0,f1,f2,f3,f4,f5⟩:=hf it (by simp)
    have hl:=rv.length
    exact wpAny_pyNext_tuple_end (I.ok.hd hc) st (show s.heap.IsTuple a its.toArray from p) (by simp;omega) λ h' eb=>⟨rfl,I.turned (t':=s.toks) (λ b o hb e=>eb b o hb e) f0 f1 f3 f4 f5⟩
  self:=λ _ _ _ _ _ st h=>wpAny_pyIter_tupleiter st h
theorem Mn{P:Program}{w:World}{K:PySem.W.Frag}{tg:Expr}(it:Addr)(lo:Int)(n:Nat):Turn P w K tg (Itr lo n) [it] it (λ i h=>IsRangeIter h it (lo + (i:Nat) * 1) ((n:Int) - (i:Nat)) 1) where
  mem:=by simp
  obj:=λ i h st b hb=>by
    have e:b=it:=by simpa using hb
    subst e
    exact⟨_,st,λ v z=>by
      have z':Data.fields _=Data.cell v:=z
      cases z'⟩
  keep:=λ i h h' st k=>k it (by simp) _ st
  item:=by
    intro X hP hw hK hc i pins s σ H E I hf st hg
    subst hP hw hK
    obtain⟨f0,f1,f2,f3,f4,f5⟩:=hf it (by simp)
    have W:=Walks.range (prog:=X.prog) (w:=X.w) (I.ok.hd hc) it lo 1 n
    refine W.item i s _ _ hg st λ v h' tk hv st' kk=>?_
    obtain⟨t,rfl⟩:=hv
    have I1:Inv X pins σ H { s with heap:=h',toks:=tk }:=I.turned (λ b o hb e=>kk b o (by simpa using hb) e) f0 f1 f3 f4 f5
    refine⟨_,rfl,NZ (s:={ s with heap:=h',toks:=tk }) (n:="range_iterator") st' rfl rfl (by decide) ⟨.int (lo + i),H,I1,⟨t,?_⟩,⟨rfl,rfl⟩,st',λ b hb=>(hf b hb).1⟩⟩
    rw[Int.mul_one]
  done:=by
    intro X hP hw hK hc i pins s σ H E I hf st hg
    subst hP hw hK
    obtain⟨f0,f1,f2,f3,f4,f5⟩:=hf it (by simp)
    exact wpAny_pyNext_range_end (I.ok.hd hc) st (by have:n <= i:=hg;omega) λ h' eb=>⟨rfl,I.turned (t':=s.toks) (λ b o hb e=>eb b o hb e) f0 f1 f3 f4 f5⟩
  self:=λ _ _ _ _ _ st h=>wpAny_pyIter_rangeiter st h
end L2
namespace L2
open PySem PySem.Spec PyProof.Rows
section
variable{X:Cx}{tg:Expr}
noncomputable def K6(K:PySem.W.Frag)(tl:TE):TI:=λ σ H R=>tl σ H λ x H1=>∃ a,x=.ref a/\(∃ xs,SqL K H1 a xs)/\R (Itl K a) H1
noncomputable def NW(K:PySem.W.Frag)(tl:TE):TI:=λ σ H R=>tl σ H λ x H1=>∃ a,x=.ref a/\(∃ xs,SqT K H1 a xs)/\R (Itt K a) H1
theorem T2{l:Expr}{tl:TE}(hl:PE X l tl):PI X tg l (K6 X.K tl):=by
  intro pins s σ H R I h
  refine thn (hl pins s σ H _ I h) λ v s1 ⟨x,H1,I1,r1,q1⟩=>?_
  obtain⟨a,e,⟨xs,hq⟩,q⟩:=q1
  subst e
  cases r1
  obtain⟨its,rv,p,hz⟩:=I1.list hq
  refine wpAny_pyIter_list p.isList ?_
  refine⟨s1.heap.objs.size,[s1.heap.objs.size],_,_,H1,rfl,I1.kept (t':=s1.toks) λ b o e=>Heap.get?_push_of_some _ e,O1 a _,⟨_,Heap.get?_push_size _ rfl,rfl,rfl⟩,λ b hb=>?_,q⟩
  have e:b=s1.heap.objs.size:=by simpa using hb
  subst e
  exact I1.fpOk (Nat.le_refl _) (I1.hok.fresh (Nat.le_refl _))
theorem Uj{l:Expr}{tl:TE}(hl:PE X l tl):PI X tg l (NW X.K tl):=by
  intro pins s σ H R I h
  refine thn (hl pins s σ H _ I h) λ v s1 ⟨x,H1,I1,r1,q1⟩=>?_
  obtain⟨a,e,⟨xs,hq⟩,q⟩:=q1
  subst e
  cases r1
  obtain⟨its,rv,p,hz⟩:=I1.tuple hq
  refine wpAny_pyIter_tuple (show s1.heap.IsTuple a its.toArray from p) ?_
  refine⟨s1.heap.objs.size,[s1.heap.objs.size],_,_,H1,rfl,I1.kept (t':=s1.toks) λ b o e=>Heap.get?_push_of_some _ e,Mm a _,⟨_,Heap.get?_push_size _ rfl,rfl,rfl⟩,λ b hb=>?_,q⟩
  have e:b=s1.heap.objs.size:=by simpa using hb
  subst e
  exact I1.fpOk (Nat.le_refl _) (I1.hok.fresh (Nat.le_refl _))
theorem Kf{pins:List (Addr × Obj)}{σ:St}{H:Hp}{s:Shared}{R:It->Hp->Prop}{E:Value->Shared->Prop}{lo hi:Int}{t u v:Tok}{tk:Nat}(I:Inv X pins σ H s)(h1:-(2 ^ 62) <= lo)(h2:lo < 2 ^ 62)(h3:-(2 ^ 62) <= hi)(h4:hi < 2 ^ 62)
    (q:R (Itr lo (hi - lo).toNat) H):wpAny (model X.prog X.w) X.A (pyIter (.ref s.heap.objs.size)) (PIE X pins σ tg R) E { s with heap:=s.heap.push { cls:=.type "range",data:=.fields #[.int lo t,.int hi u,.int 1 v] },toks:=tk }:=by
  refine wpAny_pyIter_range (IsRange.new ..) (small_one h1 h2 h3 h4) ?_
  have I1:Inv X pins σ H { s with heap:=s.heap.push { cls:=.type "range",data:=.fields #[.int lo t,.int hi u,.int 1 v] },toks:=tk }:=I.kept λ b o e=>Heap.get?_push_of_some _ e
  refine⟨(s.heap.push { cls:=.type "range",data:=.fields #[.int lo t,.int hi u,.int 1 v] }).objs.size,[(s.heap.push { cls:=.type "range",data:=.fields #[.int lo t,.int hi u,.int 1 v] }).objs.size],_,_,H,rfl,
    I1.kept (t':=tk) λ b o e=>Heap.get?_push_of_some _ e,Mn _ lo (hi - lo).toNat,?_,λ b hb=>?_,q⟩
  . have e1:lo + ((0:Nat):Int) * 1=lo:=by simp
    have e2:(((hi - lo).toNat:Nat):Int) - ((0:Nat):Int)=Builtin.Range.rangeSize lo hi 1:=by rw[rangeSize_one];split <;> omega
    show IsRangeIter _ _ (lo + ((0:Nat):Int) * 1) ((((hi - lo).toNat:Nat):Int) - ((0:Nat):Int)) 1
    rw[e1,e2]
    exact Heap.get?_push_size _ rfl
  . have e:b=(s.heap.push { cls:=.type "range",data:=.fields #[.int lo t,.int hi u,.int 1 v] }).objs.size:=by simpa using hb
    subst e
    exact I1.fpOk (Nat.le_refl _) (I1.hok.fresh (Nat.le_refl _))
noncomputable def NY(ta:TA):TI:=λ σ H R=>ta σ H λ vs H1=>∃ j:Int,vs=[.int j]/\-(2 ^ 62) <= j/\j < 2 ^ 62/\R (Itr 0 j.toNat) H1
noncomputable def NX(ta:TA):TI:=λ σ H R=>ta σ H λ vs H1=>∃ i j:Int,vs=[.int i,.int j]/\(-(2 ^ 62) <= i/\i < 2 ^ 62/\-(2 ^ 62) <= j/\j < 2 ^ 62)/\R (Itr i (j - i).toNat) H1
theorem OQ{a:Expr}{ta:TA}{p pos:Pos}(hg:Gl X "range")(hm:X.mg "range"=none)(ha:PA X [a] ta)(hs:starEach [a] X.env=[(false,eval a X.env)]:=by rfl):PI X tg (.Call (.Name "range" p) [a] [] pos) (NY ta):=by
  intro pins s σ H R I h
  refine Call_ (EN I hg hm boot_range (PyProof.Rows.callWith_type1 (thn (ha pos pins s σ H _ I h) λ us s1 ⟨vs,H1,I1,r1,q1⟩=>?_) hs rfl))
  obtain⟨j,e,q1,q2,q⟩:=q1
  subst e
  cases r1 with
  | cons r rr=>
    cases rr
    obtain⟨t,rfl⟩:=r
    exact call_range_1 (Kf I1 (by omega) (by omega) q1 q2 (by simpa using q))
theorem OP{a b:Expr}{ta:TA}{p pos:Pos}(hg:Gl X "range")(hm:X.mg "range"=none)(ha:PA X [a,b] ta)(hs:starEach [a,b] X.env=[(false,eval a X.env),(false,eval b X.env)]:=by rfl)(hs2:starEach [b] X.env=[(false,eval b X.env)]:=by rfl) :
    PI X tg (.Call (.Name "range" p) [a,b] [] pos) (NX ta):=by
  intro pins s σ H R I h
  refine Call_ (EN I hg hm boot_range (PyProof.Rows.callWith_type1 (thn (ha pos pins s σ H _ I h) λ us s1 ⟨vs,H1,I1,r1,q1⟩=>?_) (by rw[hs,hs2]) (by rw[hs2];rfl)))
  obtain⟨i,j,e,⟨q1,q2,q3,q4⟩,q⟩:=q1
  subst e
  cases r1 with
  | cons r rr=>
    cases rr with
    | cons r' rr=>
      cases rr
      obtain⟨t,rfl⟩:=r
      obtain⟨t',rfl⟩:=r'
      exact call_range_2 (Kf I1 q1 q2 q3 q4 q)
noncomputable def Po(wi:TI)(g:TG)(tb:TS):TS:=λ D σ H=>wi σ H λ J H1=>∃ W:Nat->Nat->St->Hp->Prop,(∃ m,W 0 m σ H1)/\∀ i m σ H,W i m σ H ->
  (J.stop i H/\D.nx σ H) ∨ (J.go i H/\∃ N:St->Hp->Prop,(∀ σ' H',N σ' H'->∃ m',m' < m/\W (i + 1) m' σ' H')/\∀ x H',J.yld i H x H'->g x σ H' λ σ2 H2=>tb { D with nx:=N,ct:=N,bk:=D.nx } σ2 H2)
noncomputable def FJ(fp:List Addr)(h:Heap):List (Addr × Obj):=fp.filterMap λ b=>(h.get? b).map λ o=>(b,o)
theorem DC{fp:List Addr}{h:Heap}{b:Addr}{o:Obj}(hb:b ∈ fp)(e:h.get? b=some o):(b,o) ∈ FJ fp h:=List.mem_filterMap.mpr ⟨b,hb,by rw[e];rfl⟩
theorem OY{fp:List Addr}{h:Heap}{p:Addr × Obj}(hp:p ∈ FJ fp h):p.1 ∈ fp/\h.get? p.1=some p.2:=by
  obtain⟨b,hb,e⟩:=List.mem_filterMap.mp hp
  cases q:h.get? b with
  | none=>rw[q]at e;cases e
  | some o=>
    rw[q]at e
    have e':(b,o)=p:=Option.some.inj e
    subst e'
    exact⟨hb,q⟩
theorem Inv.pinned{pins:List (Addr × Obj)}{σ:St}{H:Hp}{s:Shared}{fp:List Addr}(I:Inv X pins σ H s)(hf:∀ b ∈ fp,FpOk X pins H b)(ho:∀ b ∈ fp,∃ o,s.heap.get? b=some o/\∀ v,o.data ≠ .cell v):Inv X (pins ++ FJ fp s.heap) σ H s:=
  I.pins_of λ p hp=>(List.mem_append.mp hp).elim (λ z=>I.pin p (List.mem_append_right _ z)) λ z=>by
    obtain⟨hb,e⟩:=OY z
    obtain⟨f0,f1,f2,_⟩:=hf p.1 hb
    obtain⟨o,e',d⟩:=ho p.1 hb
    rw[e]at e';cases e'
    exact⟨e,f0,f1,f2,d⟩
theorem Inv.unpinned{pins pl:List (Addr × Obj)}{σ:St}{H:Hp}{s:Shared}(I:Inv X (pins ++ pl) σ H s):Inv X pins σ H s:=I.pins_of λ p hp=>I.pin p (List.mem_append_right _ (List.mem_append_left _ hp))
theorem Ug{iter:Expr}{body:List Stmt}{wi:TI}{g:TG}{tb:TS}{pos:Pos}(hp:PassesOwn (model X.prog X.w) X.A X.env X.xe)(hc:X.calm=true)(hi:PI X tg iter wi)(hg:PG X tg g)(hb:PSs X body tb)
    (hs:∀ x,foldedSetIterable iter X.env x=pure x:=by intro _;rfl):PS X (.For tg iter body [] pos) (Po wi g tb):=by
  intro pins s σ H D I h
  refine wpAny_For (thn (hi pins s σ H _ I h) λ v s1 h1=>thn h1 λ itv s2 h2=>?_) hs
  obtain⟨it,fp,tn,J,H2,e,I2,T,st2,f2,W,⟨m0,w0⟩,turn⟩:=h2
  subst e
  -- what stays true of the iterator's objects through the loop
  have stat:∀ {H':Hp},(∀ b ∈ fp,H' b=none)->∀ b ∈ fp,FpOk X pins H' b:=λ hn b hb=>⟨hn b hb,(f2 b hb).2⟩
  refine codeAny_forLoop_any (λ n s'=>∃ i σ' H',Inv X pins σ' H' s'/\tn i s'.heap/\(∀ b ∈ fp,H' b=none)/\W i n σ' H') ?_ m0 ⟨0,σ,H2,I2,st2,λ b hb=>(f2 b hb).1,w0⟩
  rintro n s3 ⟨i,σ3,H3,I3,st3,fr3,w3⟩
  rcases turn i n σ3 H3 w3 with⟨stop,qn⟩|⟨go,N,hN,step⟩
  . refine wpAny_passesOwn hp (thn (T.done X rfl rfl rfl hc i pins s3 σ3 H3 X.xe I3 (stat fr3) st3 stop) λ r s4 ⟨hr,I4⟩=>?_)
    subst hr
    exact wpAny_execs_nil ⟨σ3,H3,I4,qn⟩
  . refine wpAny_passesOwn hp (thn (T.item X rfl rfl rfl hc i pins s3 σ3 H3 X.xe I3 (stat fr3) st3 go) λ r s4 ⟨u,hr,h4⟩=>?_)
    subst hr
    refine wpAny_passesOwn hp (thn h4 λ _ s5 ⟨x,H5,I5,r5,y5,st5,fr5⟩=>?_)
    have I5':=I5.pinned (stat fr5) (T.obj _ _ st5)
    refine wpAny_passesOwn hp (thn (hg _ s5 σ3 H5 x u _ I5' r5 (step x H5 y5)) λ _ s6 ⟨σ6,H6,I6,q6⟩=>?_)
    refine wpAny_passesOwn hp (thn (hb _ s6 σ6 H6 _ I6 q6) λ f s7 q7=>?_)
    have again:∀ {σ7:St} {H7:Hp},Inv X (pins ++ FJ fp s5.heap) σ7 H7 s7->N σ7 H7->∃ m,m < n/\∃ i σ' H',Inv X pins σ' H' s7/\tn i s7.heap/\(∀ b ∈ fp,H' b=none)/\W i m σ' H':=λ {σ7 H7} I7 n7=>by
      obtain⟨m',hm,w7⟩:=hN σ7 H7 n7
      refine⟨m',hm,i + 1,σ7,H7,I7.unpinned,T.keep _ _ _ st5 λ b hb o e=>(I7.pin (b,o) (List.mem_append_right _ (List.mem_append_right _ (DC hb e)))).1,λ b hb=>?_,w7⟩
      obtain⟨o,e,d⟩:=T.obj _ _ st5 b hb
      exact(I7.pin (b,o) (List.mem_append_right _ (List.mem_append_right _ (DC hb e)))).2.1
    cases f with
    | next=>obtain⟨σ7,H7,I7,n7⟩:=q7;exact again I7 n7
    | cont=>obtain⟨σ7,H7,I7,n7⟩:=q7;exact again I7 n7
    | brk=>obtain⟨σ7,H7,I7,q7⟩:=q7;exact⟨σ7,H7,I7.unpinned,q7⟩
    | ret v=>obtain⟨x7,σ7,H7,I7,r7,q7⟩:=q7;exact⟨x7,σ7,H7,I7.unpinned,r7,q7⟩
end
end L2
namespace L2
open PySem PySem.Spec PyProof.Rows
noncomputable abbrev R2:=V->V->Hp->VK->Prop
noncomputable def OpR(X:Cx)(f:Value->Value->Sem Value)(r:R2):Prop:=
  ∀ (pins:List (Addr × Obj)) (s:Shared) (σ:St) (H:Hp) (x y:V) (v u:Value) (Q:VK),Inv X pins σ H s->RelV x v->RelV y u->r x y H Q ->
    wpAny (model X.prog X.w) X.A (f v u) (EP X pins σ Q) X.xe s
noncomputable def UnR(X:Cx)(f:Value->Sem Value)(r:V->Hp->VK->Prop):Prop:=
  ∀ (pins:List (Addr × Obj)) (s:Shared) (σ:St) (H:Hp) (x:V) (v:Value) (Q:VK),Inv X pins σ H s->RelV x v->r x H Q ->
    wpAny (model X.prog X.w) X.A (f v) (EP X pins σ Q) X.xe s
noncomputable def CallR(X:Cx)(f:Value)(r:List V->Hp->VK->Prop):Prop:=
  ∀ (pins:List (Addr × Obj)) (s:Shared) (σ:St) (H:Hp) (xs:List V) (us:List Value) (Q:VK),Inv X pins σ H s->Vals xs us->r xs H Q ->
    wpAny (model X.prog X.w) X.A (call f us) (EP X pins σ Q) X.xe s
noncomputable def Wz(X:Cx)(r:V->Hp->(Bool->Hp->Prop)->Prop):Prop:=
  ∀ (pins:List (Addr × Obj)) (s:Shared) (σ:St) (H:Hp) (x:V) (v:Value) (Q:Bool->Hp->Prop),Inv X pins σ H s->RelV x v->r x H Q ->
    wpAny (model X.prog X.w) X.A (truthy v) (TP X pins σ Q) X.xe s
noncomputable def tOp(r:R2)(ta tb:TE):TE:=λ σ H Q=>ta σ H λ x H1=>tb σ H1 λ y H2=>r x y H2 Q
noncomputable def tUn(r:V->Hp->VK->Prop)(ta:TE):TE:=λ σ H Q=>ta σ H λ x H1=>r x H1 Q
noncomputable def rI(C:Int->Int->Prop)(g:Int->Int->V):R2:=λ x y H Q=>∃ i j,x=.int i/\y=.int j/\C i j/\Q (g i j) H
noncomputable def rI0(g:Int->Int->V):R2:=λ x y H Q=>∃ i j,x=.int i/\y=.int j/\Q (g i j) H
noncomputable def rU(g:Int->V):V->Hp->VK->Prop:=λ x H Q=>∃ i,x=.int i/\Q (g i) H
section
variable{X:Cx}{a b c:Expr}{ta tb tc:TE}{pos:Pos}
theorem RP(ha:PE X a ta)(hb:PE X b tb){pins:List (Addr × Obj)}{s:Shared}{σ:St}{H:Hp}{R:V->V->Hp->Prop}(I:Inv X pins σ H s)
    (h:ta σ H λ x H1=>tb σ H1 λ y H2=>R x y H2) {Q:Value->Shared->Prop} {f:Value->Value->Sem Value}
    (hf:∀ v u s2 x y H2,Inv X pins σ H2 s2->RelV x v->RelV y u->R x y H2->wpAny (model X.prog X.w) X.A (f v u) Q X.xe s2) :
    wpAny (model X.prog X.w) X.A (eval a X.env) (λ v s₁=>wpAny (model X.prog X.w) X.A (eval b X.env) (λ u s₂=>wpAny (model X.prog X.w) X.A (f v u) Q X.xe s₂) X.xe s₁) X.xe s:=by
  refine thn (ha pins s σ H _ I h) λ v s1 ⟨x,H1,I1,r1,q1⟩=>?_
  refine thn (hb pins s1 σ H1 _ I1 q1) λ u s2 ⟨y,H2,I2,r2,q2⟩=>?_
  exact hf v u s2 x y H2 I2 r1 r2 q2
theorem Vu{op:Operator}{r:R2}(ho:OpR X (binaryOp op) r)(ha:PE X a ta)(hb:PE X b tb):PE X (.BinOp a op b pos) (tOp r ta tb):=by
  intro pins s σ H Q I h
  exact wpAny_BinOp (RP ha hb I h λ v u s2 x y H2 I2 rx ry q=>ho pins s2 σ H2 x y v u Q I2 rx ry q)
theorem Vt{op:UnaryOp}{r:V->Hp->VK->Prop}(ho:UnR X (unaryOp op) r)(ha:PE X a ta):PE X (.UnaryOp op a pos) (tUn r ta):=by
  intro pins s σ H Q I h
  exact UnaryOp_ (thn (ha pins s σ H _ I h) λ v s1 ⟨x,H1,I1,r1,q1⟩=>ho pins s1 σ H1 x v Q I1 r1 q1)
theorem opI{f:Value->Value->Sem Value}{C:Int->Int->Prop}{g:Int->Int->Int}
    (rule:∀ (i j:Int) (t u:Tok) (s:Shared) (Q:Value->Shared->Prop) (E:Value->Shared->Prop),C i j->Q (.int (g i j) s.toks) { s with toks:=s.toks + 1 }->wpAny (model X.prog X.w) X.A (f (.int i t) (.int j u)) Q E s) :
    OpR X f (rI C λ i j=>.int (g i j)):=by
  intro pins s σ H x y v u Q I rx ry h
  obtain⟨i,j,rfl,rfl,hc,q⟩:=h
  obtain⟨t,rfl⟩:=rx
  obtain⟨t',rfl⟩:=ry
  exact rule i j t t' s _ _ hc ⟨.int (g i j),H,I.tok _,⟨_,rfl⟩,q⟩
theorem V3{f:Value->Value->Sem Value}{g:Int->Int->Int}
    (rule:∀ (i j:Int) (t u:Tok) (s:Shared) (Q:Value->Shared->Prop) (E:Value->Shared->Prop),Q (.int (g i j) s.toks) { s with toks:=s.toks + 1 }->wpAny (model X.prog X.w) X.A (f (.int i t) (.int j u)) Q E s) :
    OpR X f (rI0 λ i j=>.int (g i j)):=by
  intro pins s σ H x y v u Q I rx ry h
  obtain⟨i,j,rfl,rfl,q⟩:=h
  obtain⟨t,rfl⟩:=rx
  obtain⟨t',rfl⟩:=ry
  exact rule i j t t' s _ _ ⟨.int (g i j),H,I.tok _,⟨_,rfl⟩,q⟩
theorem NK{f:Value->Value->Sem Value}{g:Int->Int->Bool}
    (rule:∀ (i j:Int) (t u:Tok) (s:Shared) (Q:Value->Shared->Prop) (E:Value->Shared->Prop),Q (.bool (g i j)) s->wpAny (model X.prog X.w) X.A (f (.int i t) (.int j u)) Q E s) :
    OpR X f (rI0 λ i j=>.bl (g i j)):=by
  intro pins s σ H x y v u Q I rx ry h
  obtain⟨i,j,rfl,rfl,q⟩:=h
  obtain⟨t,rfl⟩:=rx
  obtain⟨t',rfl⟩:=ry
  exact rule i j t t' s _ _ ⟨.bl (g i j),H,I,rfl,q⟩
noncomputable def VW(i j:Int):Prop:=0 < j/\j < 1073741824
noncomputable def VU(i j:Int):Prop:=0 <= j/\j <= 1000000/\i.natAbs < 2 ^ 64
noncomputable def CMul(i j:Int):Prop:=(-(2 ^ 64) < i/\i < 2 ^ 64) ∨ (-(2 ^ 64) < j/\j < 2 ^ 64)
theorem CMul.ok{i j:Int}(h:CMul i j):IntMulOk i j:=by
  rcases h with⟨h1,h2⟩|⟨h1,h2⟩
  . exact .of_left (intBits_le_64 h1 h2)
  . exact .of_right (intBits_le_64 h1 h2)
theorem B4:OpR X (binaryOp .Add) (rI0 λ i j=>.int (i + j)):=V3 λ _ _ _ _ _ _ _ q=>add_int q
theorem Ds:OpR X (binaryOp .Sub) (rI0 λ i j=>.int (i - j)):=V3 λ _ _ _ _ _ _ _ q=>sub_int q
theorem DM:OpR X (binaryOp .Mult) (rI CMul λ i j=>.int (i * j)):=opI λ _ _ _ _ _ _ _ hc q=>mul_int q hc.ok
theorem J1:OpR X (binaryOp .FloorDiv) (rI VW λ i j=>.int (i / j)):=opI λ i j _ _ _ _ _ hc q=>by
  have h1:(0:Int) < j:=hc.1
  have h2:j < 1073741824:=hc.2
  exact floordiv_int (by omega) (by rw[Int.fdiv_eq_ediv_of_nonneg i (by omega)];exact q) (.inl (PyProof.noPylong_small (by omega)))
theorem EK:OpR X (binaryOp .Mod) (rI (λ _ j=>0 < j) λ i j=>.int (i % j)):=opI λ i j _ _ _ _ _ hc q=>by
  have h1:(0:Int) < j:=hc
  exact mod_int' (by omega) (by rw[Int.fmod_eq_emod_of_nonneg i (by omega)];exact q)
theorem V0:OpR X (binaryOp .Pow) (rI VU λ i j=>.int (i ^ j.toNat)):=opI λ _ _ _ _ _ _ _ hc q=>pow_int_small hc.1 hc.2.1 hc.2.2 q
theorem unI{f:Value->Sem Value}{g:Int->Int}
    (rule:∀ (i:Int) (t:Tok) (s:Shared) (Q:Value->Shared->Prop) (E:Value->Shared->Prop),Q (.int (g i) s.toks) { s with toks:=s.toks + 1 }->wpAny (model X.prog X.w) X.A (f (.int i t)) Q E s) :
    UnR X f (rU λ i=>.int (g i)):=by
  intro pins s σ H x v Q I rx h
  obtain⟨i,rfl,q⟩:=h
  obtain⟨t,rfl⟩:=rx
  exact rule i t s _ _ ⟨.int (g i),H,I.tok _,⟨_,rfl⟩,q⟩
theorem Tw:UnR X (unaryOp .USub) (rU λ i=>.int (-i)):=unI λ _ _ _ _ _ q=>neg_int q
end
noncomputable def KU:V->V->Bool
  | .non,.non=>true | .non,.int _=>true | .int _,.non=>true | .non,.bl _=>true | .bl _,.non=>true | .non,.str _=>true | .str _,.non=>true
  | .int _,.int _=>true | .bl _,.bl _=>true | .str _,.str _=>true | .byt _,.byt _=>true
  | .int _,.str _=>true | .str _,.int _=>true | .bl _,.str _=>true | .str _,.bl _=>true
  | _,_=>false
noncomputable def rEq:R2:=λ x y H Q=>KU x y=true/\Q (.bl (decide (x=y))) H
noncomputable def rNe:R2:=λ x y H Q=>KU x y=true/\Q (.bl (!decide (x=y))) H
theorem Ma{i j:Int}:decide (V.int i=V.int j)=(i == j):=by
  rw[Bool.eq_iff_iff]
  simp
theorem Oz{i j:Bool}:decide (V.bl i=V.bl j)=(i == j):=by
  rw[Bool.eq_iff_iff]
  simp
theorem MZ{i j:Str}:decide (V.str i=V.str j)=(i == j):=by
  rw[Bool.eq_iff_iff]
  simp
theorem Mb{i j:Array UInt8}:decide (V.byt i=V.byt j)=(i.toList == j.toList):=by
  rw[Bool.eq_iff_iff]
  cases i
  cases j
  simp
section
variable{X:Cx}{a b c:Expr}{ta tb tc:TE}{pos:Pos}
theorem Aw{pins:List (Addr × Obj)}{σ:St}{H:Hp}{s:Shared}{Q:VK}{k k':Bool}(I:Inv X pins σ H s)(q:Q (.bl k) H)(e:k=k'):EP X pins σ Q (.bool k') s:=by
  subst e
  exact⟨.bl k,H,I,rfl,q⟩
theorem Bu:OpR X (compareOp .Eq) rEq:=by
  intro pins s σ H x y v u Q I rx ry h
  obtain⟨hs,q⟩:=h
  cases x with
  | non=>
    cases rx
    cases y with
    | non=>cases ry;exact PySem.EqNone.eq_none_none (Aw I q (by simp))
    | bl j=>cases ry;exact PySem.EqNone.eq_none_bool (Aw I q (by simp))
    | int j=>obtain⟨t',rfl⟩:=ry;exact PySem.EqNone.eq_none_int (Aw I q (by simp))
    | str j=>obtain⟨t',rfl⟩:=ry;exact PySem.EqNone.eq_none_str (Aw I q (by simp))
    | _=>exact absurd (show false=true from hs) Bool.false_ne_true
  | bl i=>
    cases rx
    cases y with
    | non=>cases ry;exact PySem.EqNone.eq_bool_none (Aw I q (by simp))
    | bl j=>cases ry;exact eq_bool (Aw I q Oz)
    | str j=>obtain⟨t',rfl⟩:=ry;exact PySem.EqMixed.eq_bool_str (Aw I q (by simp))
    | _=>exact absurd (show false=true from hs) Bool.false_ne_true
  | int i=>
    obtain⟨t,rfl⟩:=rx
    cases y with
    | non=>cases ry;exact PySem.EqNone.eq_int_none (Aw I q (by simp))
    | int j=>obtain⟨t',rfl⟩:=ry;exact eq_int (Aw I q Ma)
    | str j=>obtain⟨t',rfl⟩:=ry;exact PySem.EqMixed.eq_int_str (Aw I q (by simp))
    | _=>exact absurd (show false=true from hs) Bool.false_ne_true
  | str i=>
    obtain⟨t,rfl⟩:=rx
    cases y with
    | non=>cases ry;exact PySem.EqNone.eq_str_none (Aw I q (by simp))
    | bl j=>cases ry;exact PySem.EqMixed.eq_str_bool (Aw I q (by simp))
    | int j=>obtain⟨t',rfl⟩:=ry;exact PySem.EqMixed.eq_str_int (Aw I q (by simp))
    | str j=>obtain⟨t',rfl⟩:=ry;exact eq_str (Aw I q MZ)
    | _=>exact absurd (show false=true from hs) Bool.false_ne_true
  | byt i=>
    obtain⟨t,rfl⟩:=rx
    cases y with
    | byt j=>obtain⟨t',rfl⟩:=ry;exact PySem.W.eq_bytes (Aw I q Mb)
    | _=>exact absurd (show false=true from hs) Bool.false_ne_true
  | _=>cases y <;> exact absurd (show false=true from hs) Bool.false_ne_true
theorem IK:OpR X (compareOp .NotEq) rNe:=by
  intro pins s σ H x y v u Q I rx ry h
  obtain⟨hs,q⟩:=h
  cases x with
  | non=>
    cases rx
    cases y with
    | non=>cases ry;exact PySem.EqNone.ne_none_none (Aw I q (by simp))
    | bl j=>cases ry;exact PySem.EqNone.ne_none_bool (Aw I q (by simp))
    | int j=>obtain⟨t',rfl⟩:=ry;exact PySem.EqNone.ne_none_int (Aw I q (by simp))
    | str j=>obtain⟨t',rfl⟩:=ry;exact PySem.EqNone.ne_none_str (Aw I q (by simp))
    | _=>exact absurd (show false=true from hs) Bool.false_ne_true
  | bl i=>
    cases rx
    cases y with
    | non=>cases ry;exact PySem.EqNone.ne_bool_none (Aw I q (by simp))
    | bl j=>cases ry;exact ne_bool (Aw I q (congrArg not Oz))
    | str j=>obtain⟨t',rfl⟩:=ry;exact PySem.EqMixed.ne_bool_str (Aw I q (by simp))
    | _=>exact absurd (show false=true from hs) Bool.false_ne_true
  | int i=>
    obtain⟨t,rfl⟩:=rx
    cases y with
    | non=>cases ry;exact PySem.EqNone.ne_int_none (Aw I q (by simp))
    | int j=>obtain⟨t',rfl⟩:=ry;exact ne_int (Aw I q (congrArg not Ma))
    | str j=>obtain⟨t',rfl⟩:=ry;exact PySem.EqMixed.ne_int_str (Aw I q (by simp))
    | _=>exact absurd (show false=true from hs) Bool.false_ne_true
  | str i=>
    obtain⟨t,rfl⟩:=rx
    cases y with
    | non=>cases ry;exact PySem.EqNone.ne_str_none (Aw I q (by simp))
    | bl j=>cases ry;exact PySem.EqMixed.ne_str_bool (Aw I q (by simp))
    | int j=>obtain⟨t',rfl⟩:=ry;exact PySem.EqMixed.ne_str_int (Aw I q (by simp))
    | str j=>obtain⟨t',rfl⟩:=ry;exact ne_str (Aw I q (congrArg not MZ))
    | _=>exact absurd (show false=true from hs) Bool.false_ne_true
  | byt i=>
    obtain⟨t,rfl⟩:=rx
    cases y with
    | byt j=>obtain⟨t',rfl⟩:=ry;exact PySem.W.ne_bytes (Aw I q (congrArg not Mb))
    | _=>exact absurd (show false=true from hs) Bool.false_ne_true
  | _=>cases y <;> exact absurd (show false=true from hs) Bool.false_ne_true
theorem K2:OpR X (compareOp .Lt) (rI0 λ i j=>.bl (decide (i < j))):=NK λ _ _ _ _ _ _ _ q=>lt_int q
theorem NJ:OpR X (compareOp .LtE) (rI0 λ i j=>.bl (decide (i <= j))):=NK λ _ _ _ _ _ _ _ q=>le_int q
theorem Fj:OpR X (compareOp .Gt) (rI0 λ i j=>.bl (decide (j < i))):=NK λ _ _ _ _ _ _ _ q=>gt_int q
theorem Vz:OpR X (compareOp .GtE) (rI0 λ i j=>.bl (decide (j <= i))):=NK λ _ _ _ _ _ _ _ q=>ge_int q
theorem OpR.or{f:Value->Value->Sem Value}{r r':R2}(h:OpR X f r)(h':OpR X f r'):OpR X f (λ x y H Q=>r x y H Q ∨ r' x y H Q):=by
  intro pins s σ H x y v u Q I rx ry q
  rcases q with q|q
  . exact h pins s σ H x y v u Q I rx ry q
  . exact h' pins s σ H x y v u Q I rx ry q
theorem GQ(b:Expr){op:CmpOp}(h:op ≠ .In:=by decide)(h2:op ≠ .NotIn:=by decide):behindInMarks op b=false:=by
  have e1:(op == CmpOp.In)=false:=by cases op <;> first|rfl|exact absurd rfl h
  have e2:(op == CmpOp.NotIn)=false:=by cases op <;> first|rfl|exact absurd rfl h2
  cases b <;> simp[behindInMarks,e1,e2]
theorem MC{op:CmpOp}{r:R2}(ho:OpR X (compareOp op) r)(ha:PE X a ta)(hb:PE X b tb)(hm:behindInMarks op b=false):PE X (.Compare a [op] [b] pos) (tOp r ta tb):=by
  intro pins s σ H Q I h
  exact wpAny_Compare1 (RP ha hb I h λ v u s2 x y H2 I2 rx ry q=>ho pins s2 σ H2 x y v u Q I2 rx ry q) hm
noncomputable def Hv(t:TE):TT:=λ σ H Q=>t σ H λ x H'=>∃ k,x=.bl k/\Q k H'
theorem Iz{op:CmpOp}{r:R2}(ho:OpR X (compareOp op) r)(ha:PE X a ta)(hb:PE X b tb)(hm:behindInMarks op b=false):PT X (.Compare a [op] [b] pos) (Hv (tOp r ta tb)):=by
  intro pins s σ H Q I h
  refine wpAny_isTrue_Compare1 (thn (ha pins s σ H _ I h) λ v s1 ⟨x,H1,I1,r1,q1⟩=>thn (hb pins s1 σ H1 _ I1 q1) λ u s2 ⟨y,H2,I2,r2,q2⟩=>
    thn (ho pins s2 σ H2 x y v u _ I2 r1 r2 q2) λ c s3 ⟨z,H3,I3,r3,k,e,q3⟩=>?_) hm
  subst e
  cases r3
  exact wpAny_truthy_bool ⟨H3,I3,q3⟩
noncomputable def LX(K:PySem.W.Frag)(x:V)(H:Hp)(k:Bool):Prop:=
  match x with
  | .non=>k=false
  | .bl b=>k=b
  | .int i=>k=(i != 0)
  | .str y=>y.length <= sizeLine/\k=((y.length:Int) != 0)
  | .byt y=>y.size <= sizeLine/\k=((y.size:Int) != 0)
  | .ref p=>(∃ xs,SqL K H p xs/\k=!xs.isEmpty) ∨ (∃ xs,SqT K H p xs/\k=!xs.isEmpty) ∨ ∃ kvs,H p=some (.dK kvs)/\k=!kvs.isEmpty
  | _=>False
theorem NT{κ:Type}{kvs:List (κ × V)}{vs:List (κ × Value)}(r:KV kvs vs):(!vs.isEmpty)=!kvs.isEmpty:=by
  cases r <;> rfl
theorem IW{xs:List V}{its:List Value}(r:Vals xs its):(!its.toArray.isEmpty)=!xs.isEmpty:=by
  cases r <;> simp
theorem GY:(sizeLine:Nat) < 2 ^ 63:=by rw[sizeLine_eq];decide
theorem Tz:Wz X (λ x H Q=>∃ k,LX X.K x H k/\Q k H):=by
  intro pins s σ H x v Q I rx h
  obtain⟨k,e,q⟩:=h
  have hl:=GY
  have hs:sizeLine=16777216:=sizeLine_eq
  cases x with
  | non=>
    cases rx
    have e':k=false:=e
    subst e'
    exact truthy_none ⟨H,I,q⟩
  | bl b=>
    cases rx
    have e':k=b:=e
    subst e'
    exact wpAny_truthy_bool ⟨H,I,q⟩
  | int i=>
    obtain⟨t,rfl⟩:=rx
    have e':k=(i != 0):=e
    subst e'
    exact PySem.P.truthy_int ⟨H,I,q⟩
  | str y=>
    obtain⟨t,rfl⟩:=rx
    obtain⟨hy,e'⟩:y.length <= sizeLine/\k=((y.length:Int) != 0):=e
    subst e'
    exact PySem.P.truthy_str (by omega) ⟨H,I.tok _,q⟩
  | byt y=>
    obtain⟨t,rfl⟩:=rx
    obtain⟨hy,e'⟩:y.size <= sizeLine/\k=((y.size:Int) != 0):=e
    subst e'
    exact PySem.W.truthy_bytes (by omega) ⟨H,I.tok _,q⟩
  | ref p=>
    cases rx
    have e':(∃ xs,SqL X.K H p xs/\k=!xs.isEmpty) ∨ (∃ xs,SqT X.K H p xs/\k=!xs.isEmpty) ∨ ∃ kvs,H p=some (.dK kvs)/\k=!kvs.isEmpty:=e
    rcases e' with⟨xs,hx,e'⟩|⟨xs,hx,e'⟩|⟨kvs,hx,e'⟩
    . subst e'
      obtain⟨its,r,pl,hz⟩:=I.list hx
      have hlen:=r.length
      exact wpAny_truthy_list pl.isList (by simp only[List.size_toArray];omega) ⟨H,I.tok _,by rw[IW r];exact q⟩
    . subst e'
      obtain⟨its,r,pl,hz⟩:=I.tuple hx
      have hlen:=r.length
      exact truthy_tuple pl (by simp only[List.size_toArray];omega) ⟨H,I.tok _,by rw[IW r];exact q⟩
    . subst e'
      obtain⟨hz,hS,vs,r,m⟩:kvs.length <= sizeLine/\(p == sysModules)=false/\∃ vs,KV kvs vs/\s.heap.DictOf (BZ X.prog X.w) p vs:=I.hok p _ hx
      have hlen:kvs.length=vs.length:=Paired.length r
      exact wpAny_truthy_dict hS m (by omega) ⟨H,I.tok _,by rw[NT r];exact q⟩
  | _=>exact(show False from e).elim
theorem QP(ha:PE X a ta)(he:∀ whole,isTrue a X.env whole=(do let v <- whole;standAt a.pos;holding [v] (truthy v))) :
    PT X a (λ σ H Q=>ta σ H λ x H'=>∃ k,LX X.K x H' k/\Q k H'):=by
  intro pins s σ H Q I h
  exact isTrue_plain (thn (ha pins s σ H _ I h) λ v s1 ⟨x,H1,I1,r1,q1⟩=>Tz pins s1 σ H1 x v Q I1 r1 q1) (he _)
theorem CK{x:V}{us:List Value}(r:Vals [x] us):∃ u,us=[u]/\RelV x u:=by
  cases r with
  | cons r1 r2=>cases r2;exact⟨_,rfl,r1⟩
theorem Jx{x y:V}{us:List Value}(r:Vals [x,y] us):∃ u w',us=[u,w']/\RelV x u/\RelV y w':=by
  cases r with
  | cons r1 r2=>
    cases r2 with
    | cons r3 r4=>cases r4;exact⟨_,_,rfl,r1,r3⟩
theorem P9(hc:X.calm=true):CallR X (.builtin "max") (λ xs H Q=>∃ i j,xs=[.int i,.int j]/\Q (.int (if j > i then j else i)) H):=by
  intro pins s σ H xs us Q I r h
  obtain⟨i,j,rfl,q⟩:=h
  obtain⟨u,w',rfl,⟨t,rfl⟩,⟨t',rfl⟩⟩:=Jx r
  refine max_two_ints (I.ok.hd hc) λ h' tk k=>⟨_,H,I.kept k,?_,q⟩
  by_cases hj:j > i
  . rw[if_pos hj,if_pos hj];exact⟨_,rfl⟩
  . rw[if_neg hj,if_neg hj];exact⟨_,rfl⟩
theorem P8(hc:X.calm=true):CallR X (.builtin "min") (λ xs H Q=>∃ i j,xs=[.int i,.int j]/\Q (.int (if j < i then j else i)) H):=by
  intro pins s σ H xs us Q I r h
  obtain⟨i,j,rfl,q⟩:=h
  obtain⟨u,w',rfl,⟨t,rfl⟩,⟨t',rfl⟩⟩:=Jx r
  refine min_two_ints (I.ok.hd hc) λ h' tk k=>⟨_,H,I.kept k,?_,q⟩
  by_cases hj:j < i
  . rw[if_pos hj,if_pos hj];exact⟨_,rfl⟩
  . rw[if_neg hj,if_neg hj];exact⟨_,rfl⟩
theorem Jl:CallR X (.type "int") (λ xs H Q=>(∃ i,xs=[.int i]/\Q (.int i) H) ∨ ∃ k,xs=[.bl k]/\Q (.int (if k then 1 else 0)) H):=by
  intro pins s σ H xs us Q I r h
  rcases h with⟨i,rfl,q⟩|⟨k,rfl,q⟩
  . obtain⟨u,rfl,t,rfl⟩:=CK r
    exact call_int_int ⟨.int i,H,I,⟨_,rfl⟩,q⟩
  . obtain⟨u,rfl,r1⟩:=CK r
    cases r1
    exact call_int_bool ⟨.int (if k then 1 else 0),H,I.tok _,⟨_,rfl⟩,q⟩
end
end L2
namespace L2
open PySem PySem.Spec PyProof.Rows
section
variable{prog:Program}{w:World}{A:Around}{E:Value->Shared->Prop}{s:Shared}{K:PySem.W.Frag}{x dx C f:Addr}{mA:Str->Option Value}{name:Str}{v:Value}
end
theorem RelO.some_of{v:V}{o:Option Value}(r:RelO (some v) o):∃ u,o=some u/\RelV v u:=by
  cases o with
  | none=>exact(show False from r).elim
  | some u=>exact⟨u,rfl,r⟩
section
variable{P:Program}{w:World}{H H':Hp}{h h':Heap}{a C dx:Addr}{fs fs':List (Str × V)}
end
section
variable{X:Cx}{pins:List (Addr × Obj)}{σ:St}{H:Hp}{s:Shared}{a C dx:Addr}{fs:List (Str × V)}{f:Str}{v:V}{A:Around}{E:Value->Shared->Prop}
end
section
variable{X:Cx}{o e value:Expr}{f:Str}{pos pos' tpos:Pos}{ta tv:TE}
end
section
variable{X:Cx}{pins:List (Addr × Obj)}{σ:St}{H:Hp}{s:Shared}{A:Around}{E:Value->Shared->Prop}{Q:Value->Shared->Prop}{c:Value}{b:Bool}
end
end L2
namespace L2
open PySem PySem.Spec PyProof.Rows
structure Room(k:Nat)(A:Around):Prop where
  hd:A.handled=none
  dp:A.depth + 3 * k + 5 < recursionLimit
  un:A.units + 16 * k + 200 < cLine
  gd:A.guards=some []
theorem Room.mono{j k:Nat}{A:Around}(r:Room k A)(h:j <= k):Room j A:=⟨r.hd,by have:=r.dp;omega,by have:=r.un;omega,r.gd⟩
theorem Room.deeper{k:Nat}{A:Around}(r:Room (k + 1) A)(env:Env):Room k (A.deeper env):=
  ⟨r.hd,by have:=r.dp;show A.depth + 1 + 3 * k + 5 < _;omega,by have:=r.un;show A.units + 3 + 16 * k + 200 < _;omega,by first|exact r.gd|(simpa [Around.deeper,Around.under,Code.guards,Code.isGuard,pushGuards]using r.gd)⟩
theorem Room.in1{k:Nat}{A:Around}(r:Room (k + 1) A):Room k A.in1:=
  ⟨r.hd,by have:=r.dp;show A.depth + 3 * k + 5 < _;omega,by have:=r.un;show A.units + 1 + 16 * k + 200 < _;omega,r.gd⟩
theorem Room.depth{k:Nat}{A:Around}(r:Room k A):A.depth < recursionLimit:=by have:=r.dp;omega
theorem Room.units{k:Nat}{A:Around}(r:Room k A):A.units + 64 < cLine:=by have:=r.un;omega
noncomputable def Cn:TA:=λ _ H Q=>Q [] H
noncomputable def Bs(ta:TE)(tr:TA):TA:=λ σ H Q=>ta σ H λ x H1=>tr σ H1 λ xs H2=>Q (x :: xs) H2
section
variable{X:Cx}{e:Expr}{es:List Expr}{te:TE}{t:TA}{pos:Pos}
theorem Dr:PA X [] Cn:=λ _ _ _ _ H Q I h=>Calls.spliced_nil ⟨[],H,I,.nil,h⟩
theorem Ch(ha:PE X e te)(hr:PA X es t)(hs:starEach (e :: es) X.env=(false,eval e X.env) :: starEach es X.env:=by rfl):PA X (e :: es) (Bs te t):=by
  intro pos pins s σ H Q I h
  rw[hs]
  show wpAny _ _ (spliced ((false,eval e X.env) :: backTo pos (starEach es X.env))) _ _ s
  refine Calls.spliced_cons (thn (ha pins s σ H _ I h) λ u s1 ⟨x,H1,I1,r1,q1⟩=>?_)
  exact thn (hr pos pins s1 σ H1 _ I1 q1) λ us s2 ⟨xs,H2,I2,r2,q2⟩=>⟨x :: xs,H2,I2,.cons r1 r2,q2⟩
noncomputable def Pb(t:TA):TE:=λ σ H Q=>t σ H λ xs H1=>xs.length <= sizeLine/\∀ p,H1 p=none->Q (.ref p) (upd H1 p (.tup xs))
noncomputable def Pj(t:TA):TE:=λ σ H Q=>t σ H λ xs H1=>xs.length <= sizeLine/\∀ p,H1 p=none->Q (.ref p) (upd H1 p (.lst xs))
theorem Uq{x1}(h:PA X es t):PE X (.Tuple es x1 pos) (Pb t):=by
  intro pins s σ H Q I hq
  refine wpAny_Tuple_spliced (thn (h pos pins s σ H _ I hq) λ us s1 ⟨xs,H1,I1,r,z,q⟩=>⟨by rw[<- r.length];exact z,?_⟩)
  have hf:H1 s1.heap.objs.size=none:=I1.hok.fresh (Nat.le_refl _)
  refine⟨.ref s1.heap.objs.size,upd H1 s1.heap.objs.size (.tup xs),I1.laid (t':=s1.toks) (λ b u e=>Heap.get?_push_of_some _ e) (Nat.le_refl _) ?_,rfl,q _ hf⟩
  exact⟨z,us,r,⟨_,Heap.get?_push_size _ rfl,rfl,⟨_,rfl⟩,rfl⟩⟩
theorem Uv(h:PA X es t):PE X (.List es pos) (Pj t):=by
  intro pins s σ H Q I hq
  refine wpAny_List_spliced (thn (h pos pins s σ H _ I hq) λ us s1 ⟨xs,H1,I1,r,z,q⟩=>⟨by rw[<- r.length];exact z,?_⟩)
  have hf:H1 s1.heap.objs.size=none:=I1.hok.fresh (Nat.le_refl _)
  refine⟨.ref s1.heap.objs.size,upd H1 s1.heap.objs.size (.lst xs),I1.laid (t':=s1.toks) (λ b u e=>Heap.get?_push_of_some _ e) (Nat.le_refl _) ?_,rfl,q _ hf⟩
  exact⟨z,us,0,r,Heap.get?_push_size _ rfl⟩
end
noncomputable abbrev Sp:=List V->Hp->VK->XK->Prop
noncomputable abbrev CXT:=List Env->Hp->Shared->XK->Value->Shared->Prop
structure Env0(P:Program)(w:World)(K:PySem.W.Frag)(mg:Str->Option Value)(base:Heap)(A:Around)(outer:List Env)(s:Shared)(H:Hp):Prop where
  frames:A.frames=some outer
  mod:Mod K mg base
  bs:∀ b o,base.get? b=some o->s.heap.get? b=some o/\H b=none
  bsz:base.objs.size <= s.heap.objs.size
  funs:s.heap.FunFrames base outer
  frf:∀ b ∈ frs outer,H b=none
  hok:HOk P w H s.heap
  bare:AllBare s.gens
noncomputable def CE(outer:List Env)(P:Program)(w:World)(H:Hp)(s:Shared)(Q:VK)(u:Value)(s':Shared):Prop:=
  ∃ v H',s'.os=s.os/\AllBare s'.gens/\Un (frs outer) [] H H' s.heap s'.heap/\HOk P w H' s'.heap/\RelV v u/\Q v H'
noncomputable def CR(CX:CXT)(outer:List Env)(P:Program)(w:World)(H:Hp)(s:Shared)(Q:VK)(E:XK)(r:Result)(s':Shared):Prop:=
  match r with
  | .ok (.ret u)=>CE outer P w H s Q u s'
  | .ok _=>False
  | .error e=>CX outer H s E e s'
structure FnOk(P:Program)(w:World)(K:PySem.W.Frag)(mg:Str->Option Value)(base:Heap)(CX:CXT)(k:Nat)(f:Addr)(fd:FuncData)(ps:List Str)(sp:Sp):Prop where
  len:∀ vs H Q E,sp vs H Q E->vs.length=ps.length
  run:∀ (A:Around) (outer:List Env) (s:Shared) (H:Hp) (args:Args) (us:List Value) (vs:List V) (Q:VK) (E:XK),Room k A->Env0 P w K mg base A outer s H->BindsTo s fd args (ps.zip us)->Vals vs us->sp vs H Q E ->
    codeAny (model P w) A (.call (.ref f) args) (CR CX outer P w H s Q E) s
theorem FnOk.mono{P:Program}{w:World}{K:PySem.W.Frag}{mg:Str->Option Value}{base:Heap}{CX:CXT}{j k:Nat}{f:Addr}{fd:FuncData}{ps:List Str}{sp:Sp}(F:FnOk P w K mg base CX j f fd ps sp)(h:j <= k) :
    FnOk P w K mg base CX k f fd ps sp:=⟨F.len,λ A outer s H args us vs Q E hr=>F.run A outer s H args us vs Q E (hr.mono h)⟩
section
variable{X:Cx}{pins:List (Addr × Obj)}{σ:St}{H:Hp}{s s':Shared}
theorem Inv.env0(I:Inv X pins σ H s):Env0 X.prog X.w X.K X.mg X.base X.A X.stack s H:=
  ⟨I.ok.frames,I.ok.mod,I.bs,Nat.le_trans I.ok.bsz I.sz,I.stack,I.stkFree,I.hok,I.bare⟩
theorem Inv.after{Q:VK}{u:Value}(I:Inv X pins σ H s)(h:CE X.stack X.prog X.w H s Q u s'):EP X pins σ Q u s':=by
  obtain⟨v,H',os,bare,un,hok,r,q⟩:=h
  obtain⟨hh,g,d,t,os'⟩:=s'
  obtain rfl:os'=s.os:=os
  exact⟨v,H',I.call (h':=hh) (g':=g) (d':=d) (t':=t) (ch:=[]) un hok bare (λ b z=>absurd z (by simp)),r,q⟩
end
noncomputable def Gm(sp:Sp)(dvs:List V)(E:XK)(t:TA):TE:=λ σ H Q=>t σ H λ vs H1=>sp (vs ++ dvs) H1 Q E
noncomputable def Binds(K:PySem.W.Frag)(fd:FuncData)(ps:List Str)(ds:List Value):Prop:=
  ∀ (s:Shared) (us:List Value),K.In s.heap->(us ++ ds).length=ps.length->BindsTo s fd ⟨us,[]⟩ (ps.zip (us ++ ds))
theorem Binds.all{K:PySem.W.Frag}{fd:FuncData}{ps:List Str}(h:∀ us:List Value,us.length=ps.length->bindArgs fd ⟨us,[]⟩=pure (ps.zip us)):Binds K fd ps []:=λ s us _ hl=>by
  rw[List.append_nil]at hl ⊢
  exact .of_eq (h us hl)
noncomputable def LZ(CX:CXT)(X:Cx)(E:XK):Prop:=∀ (pins:List (Addr × Obj)) (σ:St) (H:Hp) (s:Shared) (e:Value) (s':Shared),Inv X pins σ H s->CX X.stack H s E e s'->X.xe e s'
section
variable{X:Cx}{CX:CXT}{k:Nat}{f C:Addr}{fd:FuncData}{ps:List Str}{sp:Sp}{dvs:List V}{ds:List Value}{E:XK}{x m:Str}{p pos apos:Pos}{e o:Expr}{es:List Expr}{ta:TE}{t:TA}
theorem U5{pins:List (Addr × Obj)}{σ:St}{H:Hp}{s:Shared}{Q:VK}{us:List Value}{vs:List V}(F:FnOk X.prog X.w X.K X.mg X.base CX k f fd ps sp)(hr:Room k X.A)(hb:Binds X.K fd ps ds)(hd:Vals dvs ds)(hx:LZ CX X E)
    (I:Inv X pins σ H s) (r:Vals vs us) (h:sp (vs ++ dvs) H Q E):wpAny (model X.prog X.w) X.A (call (.ref f) us) (EP X pins σ Q) X.xe s:=by
  have r2:Vals (vs ++ dvs) (us ++ ds):=r.append hd
  have hl:(us ++ ds).length=ps.length:=by rw[<- r2.length];exact F.len _ _ _ _ h
  refine wpAny_call (codeAny_mono (F.run X.A X.stack s H ⟨us,[]⟩ (us ++ ds) (vs ++ dvs) Q E hr I.env0 (hb s us I.kIn hl) r2 h) λ r s' hq=>?_)
  cases r with
  | error e=>exact hx pins σ H s e s' I hq
  | ok fl=>
    cases fl with
    | ret u=>exact I.after hq
    | next=>exact False.elim hq
    | brk=>exact False.elim hq
    | cont=>exact False.elim hq
theorem TB(F:FnOk X.prog X.w X.K X.mg X.base CX k f fd ps sp)(hr:Room k X.A)(hg:Gl X x)(hm:X.mg x=some (.ref f))(hk:PySem.W.keepIn X.K (.ref f)=true)(hb:Binds X.K fd ps ds)(hd:Vals dvs ds)(hx:LZ CX X E)
    (ha:PA X (e :: es) t) (hdb:(x == ("__debug__":Str))=false:=by decide) (he:starEach (e :: es) X.env=(false,eval e X.env) :: starEach es X.env:=by rfl) (hpl:(backTo pos (starEach es X.env)).any (·.1)=false:=by rfl) :
    PE X (.Call (.Name x p) (e :: es) [] pos) (Gm sp dvs E t):=by
  intro pins s σ H Q I h
  refine wpAny_Call_Name_kw (TQ I hg hm ?_ hdb)
  refine PySem.W.callWith_K (h₀:=X.base) I.ok.mod.kin hk (thn (ha pos pins s σ H _ I h) λ us s1 ⟨vs,H1,I1,r,q⟩=>⟨I1.kIn,?_⟩) he hpl
  exact U5 F hr hb hd hx I1 r q
end
section
variable{X:Cx}{CX:CXT}{k:Nat}{f C:Addr}{fd:FuncData}{ps ks:List Str}{sp:Sp}{E:XK}{x m:Str}{p pos apos kpos:Pos}{e o:Expr}{es:List Expr}{kws:List Keyword}{te ta:TE}{t tk:TA}{nm:Option Str}
variable{g:List Value->List Value->List Value}{gV:List V->List V->List V}
end
structure FnScope(N P:List Str)(sc:Scope):Prop where
  kind:sc.kind=.function
  co:sc.isCoroutine=false
  gen:sc.isGenerator=false
  nd:N.Nodup
  pre:N.take P.length=P
  par:∀ x ∈ P,sc.names.lookup x=some .local ∨ sc.names.lookup x=some .cell
  nofree:∀ y ∈ sc.names,y.2 ≠ .free
theorem Jp{kindOf:Str->Option NameKind}{x:Str}:∀ {binds:List (Str × Value)} {m:Str->Option Value},(∀ v,(x,v) ∉ binds)->bindL kindOf binds m x=m x
  | [],_,_=>rfl
  | (n,v) :: r,m,h=>by
    unfold bindL
    rw[Jp λ w hw=>h w (List.mem_cons_of_mem _ hw)]
    split
    . have:x ≠ n:=by rintro rfl;exact h v List.mem_cons_self
      simp[this]
    . rfl
theorem Jr{kindOf:Str->Option NameKind}{x:Str}:∀ {binds:List (Str × Value)} {m:Str->Option Value},(∀ v,(x,v) ∉ binds)->bindC kindOf binds m x=m x
  | [],_,_=>rfl
  | (n,v) :: r,m,h=>by
    unfold bindC
    rw[Jr λ w hw=>h w (List.mem_cons_of_mem _ hw)]
    split
    . rfl
    . have:x ≠ n:=by rintro rfl;exact h v List.mem_cons_self
      simp[this]
theorem Jq{kindOf:Str->Option NameKind}{x:Str}{v:Value}:∀ {P:List Str} {vs:List Value} {i:Nat} {m:Str->Option Value},P.Nodup->P[i]? = some x->vs[i]? = some v->kindOf x=some .local ->
    bindL kindOf (P.zip vs) m x=some v
  | [],_,_,_,_,h,_,_=>by simp at h
  | _ :: _,[],_,_,_,_,h,_=>by simp at h
  | p :: P,w :: vs,0,m,nd,h1,h2,hk=>by
    simp at h1 h2;subst h1;subst h2
    show bindL kindOf ((p,w) :: P.zip vs) m p=_
    unfold bindL
    rw[Jp λ v hv=>(List.nodup_cons.mp nd).1 (List.of_mem_zip hv).1,if_pos hk]
    simp
  | p :: P,w :: vs,i + 1,m,nd,h1,h2,hk=>by
    show bindL kindOf ((p,w) :: P.zip vs) m x=_
    unfold bindL
    exact Jq (i:=i) (List.nodup_cons.mp nd).2 (by simpa using h1) (by simpa using h2) hk
theorem Js{kindOf:Str->Option NameKind}{x:Str}{v:Value}:∀ {P:List Str} {vs:List Value} {i:Nat} {m:Str->Option Value},P.Nodup->P[i]? = some x->vs[i]? = some v->kindOf x ≠ some .local ->
    bindC kindOf (P.zip vs) m x=some v
  | [],_,_,_,_,h,_,_=>by simp at h
  | _ :: _,[],_,_,_,_,h,_=>by simp at h
  | p :: P,w :: vs,0,m,nd,h1,h2,hk=>by
    simp at h1 h2;subst h1;subst h2
    show bindC kindOf ((p,w) :: P.zip vs) m p=_
    unfold bindC
    rw[Jr λ v hv=>(List.nodup_cons.mp nd).1 (List.of_mem_zip hv).1,if_neg hk]
    simp
  | p :: P,w :: vs,i + 1,m,nd,h1,h2,hk=>by
    show bindC kindOf ((p,w) :: P.zip vs) m x=_
    unfold bindC
    exact Js (i:=i) (List.nodup_cons.mp nd).2 (by simpa using h1) (by simpa using h2) hk
noncomputable def DR(N:List Str)(vs:List V):St:=vs.map some ++ List.replicate (N.length - vs.length) none
noncomputable def Ga(CX:CXT)(P:Program)(w:World)(K:PySem.W.Frag)(mg:Str->Option Value)(base:Heap)(N:List Str)(qual:Str)(scope:Scope)(f:Addr)(cd:Value)(A:Around)(outer:List Env)(s:Shared)(H:Hp)(E:XK):Cx where
  prog:=P
  w:=w
  K:=K
  mg:=mg
  base:=base
  A:=A.deeper (envOfC qual scope s.heap.objs.size f cd)
  N:=N
  s₀:=s
  H₀:=H
  env:=envOfC qual scope s.heap.objs.size f cd
  outer:=outer
  stack:=envOfC qual scope s.heap.objs.size f cd :: outer
  ex:=[]
  calm:=true
  fn:=λ _=>true
  pn:=[]
  xe:=λ e s'=>wpAny (model P w) (A.deeper (envOfC qual scope s.heap.objs.size f cd)) (leaving (envOfC qual scope s.heap.objs.size f cd) e) (λ _ s''=>CX outer H s E e s'') (λ e' s''=>CX outer H s E e' s'') s'
theorem LO{sc:Scope}{n:Nat}{x:Str}(h:sc.names.lookup x=some .cell):∃ c,(cellsFrom n sc.names []).lookup x=some c:=by
  have q:=PySem.W.cellsFrom_some sc.names n [] (.inl h)
  exact Option.isSome_iff_exists.mp q
theorem Oi{CX:CXT}{P:Program}{w:World}{K:PySem.W.Frag}{mg:Str->Option Value}{base:Heap}{N ps:List Str}{qual:Str}{scope:Scope}{f:Addr}{cd:Value}{A:Around}{outer:List Env}{s s1:Shared}{H:Hp}{E:XK}{us:List Value}{vs:List V}
    (S:FnScope N ps scope) (hd:A.handled=none) (e0:Env0 P w K mg base A outer s H) (hl:vs.length=ps.length) (r:Vals vs us)
    (x:InCallC s s.heap.objs.size (bindL (envOfC qual scope s.heap.objs.size f cd).kindOf (ps.zip us) λ _=>none) (cellsFrom (s.heap.objs.size + 1) scope.names []) (bindC (envOfC qual scope s.heap.objs.size f cd).kindOf (ps.zip us) λ _=>none) s1) :
    Inv (Ga CX P w K mg base N qual scope f cd A outer s H E) [] (DR N vs) H s1:=by
  have hpl:ps.length <= N.length:=by have:=congrArg List.length S.pre;rw[List.length_take]at this;omega
  obtain⟨h1,tk,rfl,hk⟩:=x.done
  have noA:∀ b:Addr,b ∉ (Ga CX P w K mg base N qual scope f cd A outer s H E).ex:=λ b z=>absurd (show b ∈ ([]:List Addr)from z) (by simp)
  refine⟨⟨e0.mod,S.kind,rfl,rfl,Nat.le_refl _,λ y z c h1 h2=>?_,λ y hy=>?_,λ y c _ h=>?_,λ _=>hd,Around.frames_deeper e0.frames,.inr ⟨rfl,rfl⟩,λ b z=>absurd z (noA b),e0.bs,e0.bsz,λ b _ _=>noA b,λ b z=>absurd z (noA b),e0.funs,e0.frf⟩,
    rfl,e0.bare,Un.kept hk,⟨_,x.toInCall.ns,λ i y v h1 h2 h3=>?_⟩,λ y c h=>⟨_,x.cell y c h⟩,e0.hok.fresh (Nat.le_refl _),λ y c h=>?_,λ p hp=>absurd (show p ∈ ([]:List (Addr × Obj))from hp) (by simp),e0.hok.kept hk,?_⟩
  . exact name_of_addr x.apart (PySem.mem_of_lookup h1) (PySem.mem_of_lookup h2)
  . have hy:scope.names.lookup y=some .cell ∨ scope.names.lookup y=some .free:=hy
    rcases hy with hy|hy
    . exact LO hy
    . exact absurd rfl (S.nofree _ (PySem.mem_of_lookup hy))
  . exact Nat.le_of_lt (x.above y c (PySem.mem_of_lookup h))
  . have hi:i < vs.length:=by
      unfold DR at h2
      by_cases hi:i < vs.length
      . exact hi
      . rw[List.getElem?_append_right (by simpa using hi)]at h2
        rw[List.getElem?_replicate]at h2
        split at h2 <;> cases h2
    have ha:vs[i]? = some v:=by
      unfold DR at h2
      rw[List.getElem?_append_left (by simpa using hi),List.getElem?_map]at h2
      cases e:vs[i]? with
      | none=>rw[e]at h2;cases h2
      | some a=>rw[e]at h2;cases h2;rfl
    obtain⟨u,hu,rv⟩:=r.get ha
    have hp:ps[i]? = some y:=by
      rw[<- S.pre,List.getElem?_take_of_lt (by omega)];exact h1
    have ndP:ps.Nodup:=by rw[<- S.pre];exact S.nd.sublist (List.take_sublist _ _)
    refine⟨u,rv,?_⟩
    rcases S.par y (List.mem_of_getElem? hp)with k|k
    . exact .inl ⟨k,Jq ndP hp hu k⟩
    . obtain⟨c,e⟩:=LO (n:=s.heap.objs.size + 1) k
      refine .inr ⟨.inl k,c,e,?_⟩
      have q:=x.cell y c e
      rw[Js ndP hp hu (by show scope.names.lookup y ≠ _;rw[k];decide)]at q
      exact q
  . exact e0.hok.fresh (Nat.le_of_lt (x.above y c (PySem.mem_of_lookup h)))
  . unfold DR
    show _=N.length
    rw[List.length_append,List.length_map,List.length_replicate]
    omega
theorem Rl{CX:CXT}{P:Program}{w:World}{K:PySem.W.Frag}{mg:Str->Option Value}{base:Heap}{k:Nat}{f:Addr}{name qual:Str}{params:Arguments}{body:List Stmt}{scope:Scope}{dV kV doc pm cdv ct oc:Value}{an od:Option Addr}
    {osl:Array (Option Value)} {N ps:List Str} {sp:Sp} (lk:K.lookup f=some ⟨oc,od,.func (PySem.W.fnOf name qual params body scope dV kV doc pm an cdv ct),osl⟩) (hcd:PySem.W.codeIn K cdv qual=true) (S:FnScope N ps scope)
    (len:∀ vs H Q E,sp vs H Q E->vs.length=ps.length)
    (hbody:∀ (A:Around) (outer:List Env) (s:Shared) (H:Hp) (vs:List V) (Q:VK) (E:XK),Room k (A.deeper (envOfC qual scope s.heap.objs.size f cdv))->sp vs H Q E ->
      ∃ t,PSs (Ga CX P w K mg base N qual scope f cdv A outer s H E) body t/\t { nx:=λ _ H'=>Q .non H',rt:=Q } (DR N vs) H) :
    FnOk P w K mg base CX (k + 1) f (PySem.W.fnOf name qual params body scope dV kV doc pm an cdv ct) ps sp:=by
  refine⟨len,λ A outer s H args us vs Q E hr e0 hb r hsp=>?_⟩
  have hl:=len _ _ _ _ hsp
  have KX:K.In s.heap:=e0.mod.kin.keeps λ b o e=>(e0.bs b o e).1
  have lim:s.heap.NoLimit:=e0.mod.nolimit.keeps λ b o e=>(e0.bs b o e).1
  have hkind:∀ y ∈ ps.zip us,scope.names.lookup y.1=some .local ∨ (scope.names.lookup y.1=some .cell/\((cellsFrom (s.heap.objs.size + 1) scope.names []).lookup y.1).isSome=true):=λ⟨n,v⟩ hy=>by
    rcases S.par n (List.of_mem_zip hy).1 with q|q
    . exact .inl q
    . exact .inr ⟨q,PySem.W.cellsFrom_some _ _ _ (.inl q)⟩
  refine codeAny_call_function hr.depth (KX _ _ lk) rfl S.co S.gen rfl (PySem.W.codeRec_of KX hcd) (hb _ _ _ _ ?_)
  refine wpAny_newFunctionEnv_cells S.kind hkind λ env he s1 x=>?_
  subst he
  refine⟨lim.keeps x.toInCall.keep,codeAny_func ?_⟩
  obtain⟨t,ht,hq⟩:=hbody A outer s H vs Q E (hr.deeper _) hsp
  have I:Inv (Ga CX P w K mg base N qual scope f cdv A outer s H E) [] (DR N vs) H s1:=Oi S hr.hd e0 hl r x
  refine wpAny_mono (ht [] s1 (DR N vs) H _ I hq) (λ fl s' hs=>?_) λ e s' hs=>hs
  have fin:∀ {σ':St} {H':Hp} {v:V} {u:Value},Inv (Ga CX P w K mg base N qual scope f cdv A outer s H E) [] σ' H' s'->RelV v u->Q v H'->CE outer P w H s Q u s':=
    λ {σ' H' v u} J rv q=>⟨v,H',J.os,J.bare,J.base,J.hok,rv,q⟩
  cases fl with
  | ret u=>
    obtain⟨v,σ',H',J,rv,q⟩:=hs
    exact fin J rv q
  | next=>
    obtain⟨σ',H',J,q⟩:=hs
    exact fin (v:=V.non) (u:=Value.none) J rfl q
  | brk=>
    obtain⟨_,_,_,q⟩:=hs
    exact False.elim q
  | cont=>
    obtain⟨_,_,_,q⟩:=hs
    exact False.elim q
end L2
namespace L2
open PySem PySem.Spec PyProof.Rows
section
variable{X:Cx}{x:Str}{p pos:Pos}{e:Expr}{es:List Expr}{t:TA}{id T:String}{r:List V->Hp->VK->Prop}
noncomputable def tCB(r:List V->Hp->VK->Prop)(t:TA):TE:=λ σ H Q=>t σ H λ vs H1=>r vs H1 Q
theorem Fi(hc:CallR X (.builtin id) r)(hg:Gl X x)(hm:X.mg x=none)(hv:bootBuiltins x=some (.builtin id))(ha:PA X (e :: es) t)(hn:x ≠ "__name__":=by decide)(hdb:(x == ("__debug__":Str))=false:=by decide)
    (he:starEach (e :: es) X.env=(false,eval e X.env) :: starEach es X.env:=by rfl) (hpl:(backTo pos (starEach es X.env)).any (·.1)=false:=by rfl):PE X (.Call (.Name x p) (e :: es) [] pos) (tCB r t):=by
  intro pins s σ H Q I h
  refine wpAny_Call_Name_kw (EN I hg hm hv ?_ hn hdb)
  exact PyProof.Rows.callWith_builtin1 (thn (ha pos pins s σ H _ I h) λ us s1 ⟨vs,H1,I1,r1,q1⟩=>hc pins s1 σ H1 vs us Q I1 r1 q1) he hpl
theorem Dj(hc:CallR X (.type T) r)(hg:Gl X x)(hm:X.mg x=none)(hv:bootBuiltins x=some (.type T))(ha:PA X (e :: es) t)(hn:x ≠ "__name__":=by decide)(hdb:(x == ("__debug__":Str))=false:=by decide)
    (he:starEach (e :: es) X.env=(false,eval e X.env) :: starEach es X.env:=by rfl) (hpl:(backTo pos (starEach es X.env)).any (·.1)=false:=by rfl):PE X (.Call (.Name x p) (e :: es) [] pos) (tCB r t):=by
  intro pins s σ H Q I h
  refine wpAny_Call_Name_kw (EN I hg hm hv ?_ hn hdb)
  exact PyProof.Rows.callWith_type1 (thn (ha pos pins s σ H _ I h) λ us s1 ⟨vs,H1,I1,r1,q1⟩=>hc pins s1 σ H1 vs us Q I1 r1 q1) he hpl
end
end L2
namespace HT
open PySem PyProof.Rows
section
open PySem.SeqAt
open PySem.AutoSeq1 (wpAny_loadPart')
open PySem.MeetsSeq PySem.MeetsSeq2 PySem.MeetsSeq3
end
section
variable{prog:Program}{w:World}{A:Around}{E:Value->Shared->Prop}{s:Shared}
theorem cat_tup{t b:Addr}{vs ws:List Value}{Q:Value->Shared->Prop}(ht:IsTup s.heap t vs.toArray)(hb:IsTup s.heap b ws.toArray)(hv:vs ≠ [])
    (h1:ws=[]->Q (.ref t) s) (h2:ws ≠ []->Q (.ref s.heap.objs.size) { s with heap:=s.heap.push { cls:=.type "tuple",data:=.seq (vs ++ ws).toArray } })
    (hsz:vs.length + ws.length <= sizeLine):wpAny (model prog w) A (binaryOp .Add (.ref t) (.ref b)) Q E s:=by
  obtain⟨⟨cls,dd,data,sl⟩,ho,hc,n,hd⟩:=id ht
  obtain⟨⟨cls2,dd2,data2,sl2⟩,ho2,hc2,n2,hd2⟩:=id hb
  simp only at hc hd hc2 hd2
  subst hc hd hc2 hd2
  have e:vs.toArray ++ ws.toArray=(vs ++ ws).toArray:=by simp
  by_cases hw:ws=[]
  . exact concat_meets ⟨_,ho,rfl⟩ ⟨_,ho2,rfl⟩ noFill_tuple_add seq_tuple_add PySem.F.slot_tuple_add PySem.F.entry_tuple_add (PySem.F.args_tuple_add_2 _ _)
      (tuple_addW1 t b vs.toArray ws.toArray n n2 dd dd2 sl sl2 (by simpa using hv) (by simp[hw])) ⟨ho,ho2,h1 hw⟩
  . refine concat_meets ⟨_,ho,rfl⟩ ⟨_,ho2,rfl⟩ noFill_tuple_add seq_tuple_add PySem.F.slot_tuple_add PySem.F.entry_tuple_add (PySem.F.args_tuple_add_2 _ _)
      (tuple_addW2 t b vs.toArray ws.toArray n n2 dd dd2 sl sl2 (by simpa using hv) (by simpa using hw) (by rw[List.size_toArray,List.size_toArray];exact hsz)) ⟨ho,ho2,?_⟩
    rw[e]
    exact h2 hw
noncomputable def sIx(n d:Nat):Option Int->Nat
  | none=>d
  | some v=>if v < 0 then(v + (n:Int)).toNat else min v.toNat n
theorem sIx_none(n d:Nat):sIx n d none=d:=rfl
theorem sIx_nat(n d k:Nat):sIx n d (some (k:Int))=min k n:=by
  show(if(k:Int) < 0 then((k:Int) + (n:Int)).toNat else min (k:Int).toNat n)=min k n
  rw[if_neg (by omega),Int.toNat_natCast]
end
end HT
namespace L2
open PySem PySem.Spec PyProof.Rows
noncomputable abbrev TO:=St->Hp->(Option Int->Hp->Prop)->Prop
noncomputable def PO(X:Cx)(e:Option Expr)(t:TO):Prop:=
  ∀ (pins:List (Addr × Obj)) (s:Shared) (σ:St) (H:Hp) (Q:Option Int->Hp->Prop),Inv X pins σ H s->t σ H Q ->
    wpAny (model X.prog X.w) X.A (evalPart e X.env) (λ u s'=>∃ o H',Inv X pins σ H' s'/\IsPart u o/\Q o H') X.xe s
noncomputable def Iq:TO:=λ _ H Q=>Q none H
noncomputable def Mp(t:TE):TO:=λ σ H Q=>t σ H λ x H1=>∃ i,x=.int i/\Q (some i) H1
section
variable{X:Cx}{e:Expr}{te:TE}{lo hi:Option Expr}{tl th:TO}{pos p2:Pos}
theorem Sy:PO X none Iq:=by
  intro pins s σ H Q I h
  rw[evalPart_none]
  exact wpAny_pure ⟨none,H,I,.none,h⟩
theorem Sx(h:PE X e te):PO X (some e) (Mp te):=by
  intro pins s σ H Q I hw
  rw[evalPart_some]
  refine thn (h pins s σ H _ I hw) λ u s1 ⟨x,H1,I1,r1,q1⟩=>?_
  obtain⟨i,rfl,q⟩:=q1
  obtain⟨t,rfl⟩:=r1
  exact⟨some i,H1,I1,.int i t,q⟩
noncomputable def SlR(X:Cx)(r:V->Option Int->Option Int->Hp->VK->Prop):Prop:=
  ∀ (pins:List (Addr × Obj)) (s:Shared) (σ:St) (H:Hp) (x:V) (v vl vu:Value) (lo hi:Option Int) (sl:Addr) (Q:VK),Inv X pins σ H s->RelV x v->s.heap.IsSliceOf sl vl vu .none->IsPart vl lo->IsPart vu hi->r x lo hi H Q ->
    ∃ T id,typeLookup (.type T) "__getitem__"=pure (some (.builtin id))/\s.TypeIs v T/\wpAny (model X.prog X.w) X.A (getItem v (.ref sl)) (EP X pins σ Q) X.xe s
noncomputable def tSl(r:V->Option Int->Option Int->Hp->VK->Prop)(te:TE)(tl th:TO):TE:=λ σ H Q=>te σ H λ x H1=>tl σ H1 λ l H2=>th σ H2 λ u H3=>r x l u H3 Q
theorem Qb{r:V->Option Int->Option Int->Hp->VK->Prop}(hr:SlR X r)(he:PE X e te)(hl:PO X lo tl)(hu:PO X hi th):PE X (.Subscript e (.Slice lo hi none p2) pos) (tSl r te tl th):=by
  intro pins s σ H Q I h
  refine Subscript_ (thn (he pins s σ H _ I h) λ v s1 ⟨x,H1,I1,r1,q1⟩=>?_)
  refine wpAny_Slice (thn (hl pins s1 σ H1 _ I1 q1) λ vl s2 ⟨l,H2,I2,pl,q2⟩=>thn (hu pins s2 σ H2 _ I2 q2) λ vu s3 ⟨u,H3,I3,pu,q3⟩=>?_)
  rw[evalPart_none]
  refine wpAny_pure ?_
  have I4:Inv X pins σ H3 { s3 with heap:=s3.heap.push { cls:=.type "slice",data:=.fields #[vl,vu,.none] } }:=I3.kept (t':=s3.toks) λ b ob q=>Heap.get?_push_of_some _ q
  obtain⟨T,id,hT,ht,hg⟩:=hr pins { s3 with heap:=s3.heap.push { cls:=.type "slice",data:=.fields #[vl,vu,.none] } } σ H3 x v vl vu l u s3.heap.objs.size Q I4 r1 (Heap.IsSliceOf.new ..) pl pu q3
  show wpAny (model X.prog X.w) X.A (subscriptTail e (.Slice lo hi none p2) v (.ref s3.heap.objs.size)) (EP X pins σ Q) X.xe { s3 with heap:=s3.heap.push { cls:=.type "slice",data:=.fields #[vl,vu,.none] } }
  exact tail_any (ops:=[.ref s3.heap.objs.size,v]) ht hT hg (by with_unfolding_all rfl)
noncomputable def Hj(xs:List V)(lo hi:Option Int):List V:=(xs.drop (HT.sIx xs.length 0 lo)).take (HT.sIx xs.length xs.length hi - HT.sIx xs.length 0 lo)
theorem Lj(xs:List V)(lo hi:Option Int):(Hj xs lo hi).length <= xs.length:=by
  unfold Hj
  rw[List.length_take,List.length_drop]
  omega
noncomputable def NB(K:PySem.W.Frag):R2:=λ x y H Q=>∃ a b xs ys,x=.ref a/\y=.ref b/\SqT K H a xs/\SqT K H b ys/\xs ≠ []/\xs.length + ys.length <= sizeLine /\
  (ys=[]->Q (.ref a) H)/\(ys ≠ []->∀ p,H p=none->Q (.ref p) (upd H p (.tup (xs ++ ys))))
theorem Vals.nil_iff{xs:List V}{us:List Value}(r:Vals xs us):us=[] ↔ xs=[]:=by
  cases r with
  | nil=>simp
  | cons _ _=>simp
theorem TD:OpR X (binaryOp .Add) (NB X.K):=by
  intro pins s σ H x y v u Q I rx ry h
  obtain⟨a,b,xs,ys,rfl,rfl,ha,hb,hx,hz,q1,q2⟩:=h
  cases rx
  cases ry
  obtain⟨its,r1,p1,_⟩:=I.tuple ha
  obtain⟨its2,r2,p2,_⟩:=I.tuple hb
  refine HT.cat_tup p1 p2 (λ z=>hx (r1.nil_iff.mp z)) (λ z=>⟨.ref a,H,I,rfl,q1 (r2.nil_iff.mp z)⟩) (λ z=>?_) (by rw[<- r1.length,<- r2.length];exact hz)
  refine⟨.ref s.heap.objs.size,_,I.laid (t':=s.toks) (o:=.tup (xs ++ ys)) (λ b ob q=>Heap.get?_push_of_some _ q) (Nat.le_refl _) ?_,rfl,q2 (λ w=>z (r2.nil_iff.mpr w)) _ (I.hok.fresh (Nat.le_refl _))⟩
  exact⟨by rw[List.length_append];exact hz,_,r1.append r2,IsTupD.new _ _⟩
end
end L2
namespace L2
open PySem PySem.Spec PyProof.Rows
noncomputable def ixN(n:Nat)(i:Int):Option Nat:=if 0 <= i then(if i < n then some i.toNat else none)else if -(n:Int) <= i then some (i + n).toNat else none
noncomputable def atI{α:Type}(xs:List α)(i:Int):Option α:=(ixN xs.length i).bind λ j=>xs[j]?
theorem JC{n:Nat}{i:Int}{j:Nat}(h:ixN n i=some j):seqIndex? i n=some j/\j < n/\-(n:Int) <= i/\i < n:=by
  unfold ixN at h
  by_cases h0:0 <= i
  . rw[if_pos h0]at h
    by_cases h1:i < n
    . rw[if_pos h1]at h
      have e:i.toNat=j:=Option.some.inj h
      exact⟨by rw[seqIndex_of h0 h1,e],by omega,by omega,h1⟩
    . rw[if_neg h1]at h;cases h
  . rw[if_neg h0]at h
    by_cases h1:-(n:Int) <= i
    . rw[if_pos h1]at h
      have e:(i + n).toNat=j:=Option.some.inj h
      exact⟨by rw[seqIndex_neg (by omega) h1,e],by omega,h1,by omega⟩
    . rw[if_neg h1]at h;cases h
theorem Mi{α:Type}{xs:List α}{i:Int}{v:α}(h:atI xs i=some v):∃ j,seqIndex? i xs.length=some j/\xs[j]? = some v/\j < xs.length/\-(xs.length:Int) <= i/\i < xs.length:=by
  unfold atI at h
  cases e:ixN xs.length i with
  | none=>rw[e]at h;cases h
  | some j=>
    rw[e]at h
    obtain⟨h1,h2,h3,h4⟩:=JC e
    exact⟨j,h1,h,h2,h3,h4⟩
theorem FU{α:Type}{xs:List α}{j:Nat}{v:α}(h:xs[j]? = some v):atI xs (j:Int)=some v:=by
  have hj:j < xs.length:=(List.getElem?_eq_some_iff.mp h).1
  have e:ixN xs.length (j:Int)=some j:=by
    unfold ixN
    rw[if_pos (by omega),if_pos (by omega)];simp
  unfold atI;rw[e];exact h
noncomputable def JI(b:Expr):Prop:=∀ o i,subscripted b false o i=operate [o,i] (getItem o i)
noncomputable def IxR(X:Cx)(r:R2):Prop:=
  ∀ (value slice:Expr) (pins:List (Addr × Obj)) (s:Shared) (σ:St) (H:Hp) (x y:V) (v u:Value) (Q:VK),Inv X pins σ H s->RelV x v->RelV y u->r x y H Q ->
    subscripted slice false v u=operate [v,u] (getItem v u)->wpAny (model X.prog X.w) X.A (subscriptTail value slice v u) (EP X pins σ Q) X.xe s
noncomputable def MtR(X:Cx)(id:String)(r:V->List V->Hp->VK->Prop):Prop:=
  ∀ (pins:List (Addr × Obj)) (s:Shared) (σ:St) (H:Hp) (x:V) (xs:List V) (v:Value) (us:List Value) (Q:VK),Inv X pins σ H s->RelV x v->Vals xs us->r x xs H Q ->
    wpAny (model X.prog X.w) X.A (call (.builtin id) (v :: us)) (EP X pins σ Q) X.xe s
section
variable{X:Cx}{a b:Expr}{ta tb:TE}{pos:Pos}
theorem IxR.or{r r':R2}(h:IxR X r)(h':IxR X r'):IxR X (λ x y H Q=>r x y H Q ∨ r' x y H Q):=by
  intro value slice pins s σ H x y v u Q I rx ry q hs
  rcases q with q|q
  . exact h value slice pins s σ H x y v u Q I rx ry q hs
  . exact h' value slice pins s σ H x y v u Q I rx ry q hs
theorem Rh{r:R2}(hr:IxR X r)(ha:PE X a ta)(hb:PE X b tb)(hs:JI b):PE X (.Subscript a b pos) (tOp r ta tb):=by
  intro pins s σ H Q I h
  exact Subscript_ (RP ha hb I h λ v u s2 x y H2 I2 rx ry q=>hr a b pins s2 σ H2 x y v u Q I2 rx ry q (hs _ _))
noncomputable def QC(K:PySem.W.Frag):R2:=λ x y H Q=>∃ p xs i v,x=.ref p/\y=.int i/\SqL K H p xs/\atI xs i=some v/\Q v H
noncomputable def QB(K:PySem.W.Frag):R2:=λ x y H Q=>∃ p xs i v,x=.ref p/\y=.int i/\SqT K H p xs/\atI xs i=some v/\Q v H
theorem TY:IxR X (QC X.K):=by
  intro value slice pins s σ H x y v u Q I rx ry h hs
  obtain⟨p,xs,i,z,rfl,rfl,hq,he,q⟩:=h
  cases rx
  obtain⟨t,rfl⟩:=ry
  obtain⟨its,r,pl,hz⟩:=I.list hq
  obtain⟨j,h1,h2,h3,h4,h5⟩:=Mi he
  obtain⟨w,ew,rw'⟩:=r.get h2
  have hl:=r.length
  have hn:=GY
  have fin:EP X pins σ Q w s:=⟨z,H,I,rw',q⟩
  by_cases h0:0 <= i
  . have hj:i.toNat=j:=by
      rw[seqIndex_of h0 h5]at h1
      exact Option.some.inj h1
    exact item_listR pl.isList h0 (by omega) (by rw[hj];simpa using ew) fin hs
  . have hj:(i + (its.toArray.size:Int)).toNat=j:=by
      rw[seqIndex_neg (by omega) h4]at h1
      rw[List.size_toArray,<- hl]
      exact Option.some.inj h1
    exact subscriptTail_builtinR (x:=w) pl.isList.typeIs slot_list_getitem.lookup
      (wpAny_getItem_list_neg (Q:=λ r s'=>r=w/\EP X pins σ Q r s') pl.isList (by omega) (by rw[List.size_toArray] <;> omega) (by omega) (by rw[hj];simpa using ew) ⟨rfl,fin⟩) hs
theorem VE:IxR X (QB X.K):=by
  intro value slice pins s σ H x y v u Q I rx ry h hs
  obtain⟨p,xs,i,z,rfl,rfl,hq,he,q⟩:=h
  cases rx
  obtain⟨t,rfl⟩:=ry
  obtain⟨its,r,pl,hz⟩:=I.tuple hq
  obtain⟨j,h1,h2,h3,h4,h5⟩:=Mi he
  obtain⟨w,ew,rw'⟩:=r.get h2
  have hl:=r.length
  have hn:=GY
  have fin:EP X pins σ Q w s:=⟨z,H,I,rw',q⟩
  exact subscriptTail_builtinR (x:=w) pl.typeIs slot_tuple_getitem.lookup
    (getItem_tuple (j:=j) (Q:=λ r s'=>r=w/\EP X pins σ Q r s') pl (by omega) (by omega) (by rw[List.size_toArray,<- hl];exact h1) (by simpa using ew) ⟨rfl,fin⟩) hs
theorem NL(its:List Value)(n j:Nat)(u:Value):Obj.mapSeq (·.setIfInBounds j u) { cls:=.type "list",data:=.seq its.toArray n }={ cls:=.type "list",data:=.seq (its.set j u).toArray n }:=by
  simp[Obj.mapSeq]
theorem Inv.lst{pins:List (Addr × Obj)}{σ:St}{H:Hp}{s:Shared}{p:Addr}{xs:List V}(I:Inv X pins σ H s)(h:H p=some (.lst xs)) :
    ∃ (its:List Value) (n:Nat),Vals xs its/\s.heap.get? p=some { cls:=.type "list",data:=.seq its.toArray n }/\xs.length <= sizeLine:=by
  obtain⟨z,its,n,r,e⟩:=I.hok p _ h
  exact⟨its,n,r,e,z⟩
theorem Inv.lstUpd{pins:List (Addr × Obj)}{σ:St}{H:Hp}{s:Shared}{p:Addr}{xs ys:List V}{its its':List Value}{n n':Nat}{f:Obj->Obj}(I:Inv X pins σ H s)(h:H p=some (.lst xs))
    (ho:s.heap.get? p=some { cls:=.type "list",data:=.seq its.toArray n }) (hf:f { cls:=.type "list",data:=.seq its.toArray n }={ cls:=.type "list",data:=.seq its'.toArray n' }) (r:Vals ys its') (hz:ys.length <= sizeLine) (t:Nat) :
    Inv X pins σ (upd H p (.lst ys)) { s with heap:=s.heap.update p f,toks:=t }:=by
  have e:(s.heap.update p f).get? p=some { cls:=.type "list",data:=.seq its'.toArray n' }:=by
    rw[Heap.get?_update_self f ho (by rw[hf] <;> rfl),hf]
  refine I.write (x:=p) (e:=p) (by rw[h];trivial) (.inl rfl) (λ b u hb q=>(Heap.get?_update_other _ _ (Ne.symm hb)).trans q) ⟨_,e⟩ ?_
  exact⟨hz,its',n',r,e⟩
noncomputable def N9:V->V->V->Hp->(Hp->Prop)->Prop:=λ o i v H Q=>∃ p xs k j,o=.ref p/\i=.int k/\H p=some (.lst xs)/\ixN xs.length k=some j/\Q (upd H p (.lst (xs.set j v)))
theorem Pu:VT X N9:=by
  intro pins s σ H o i v ov iv u Q I ro ri rv h
  obtain⟨p,xs,k,j,rfl,rfl,hp,hj,q⟩:=h
  cases ro
  obtain⟨t,rfl⟩:=ri
  obtain⟨its,n,r,ho,hz⟩:=I.lst hp
  obtain⟨h1,h2,h3,h4⟩:=JC hj
  have hl:=r.length
  have hn:=GY
  have I':Inv X pins σ (upd H p (.lst (xs.set j v))) { s with heap:=s.heap.update p (Obj.mapSeq (·.setIfInBounds j u)) }:=
    I.lstUpd hp ho (NL its n j u) (r.set rv j) (by rw[List.length_set];exact hz) s.toks
  by_cases h0:0 <= k
  . have hk:k.toNat=j:=by
      rw[seqIndex_of h0 h4]at h1
      exact Option.some.inj h1
    exact PySem.W.ki_setAt ho h0 (by omega) (by rw[List.size_toArray,<- hl];exact h4) (by rw[hk];exact⟨_,I',q⟩)
  . have hk:(k + (its.toArray.size:Int)).toNat=j:=by
      rw[seqIndex_neg (by omega) h3]at h1
      rw[List.size_toArray,<- hl]
      exact Option.some.inj h1
    exact PySem.W.ki_setBack ho (by omega) (by rw[List.size_toArray,<- hl];exact h3) (by omega) (by rw[hk];exact⟨_,I',q⟩)
theorem KS(lo hi:Option Int)(n:Nat):(sliceBounds lo hi none n).1=((HT.sIx n 0 lo:Nat):Int)/\(sliceBounds lo hi none n).2.1=((HT.sIx n n hi:Nat):Int)/\(sliceBounds lo hi none n).2.2=1:=by
  refine⟨?_,?_,rfl⟩
  . cases lo with
    | none=>simp[sliceBounds,HT.sIx]
    | some i=>
      simp only[sliceBounds,HT.sIx,Option.getD_none,show(1:Int) > 0 by decide,if_true]
      by_cases h:i < 0
      . simp only[h,if_true] <;> omega
      . simp only[h,if_false] <;> omega
  . cases hi with
    | none=>simp[sliceBounds,HT.sIx]
    | some i=>
      simp only[sliceBounds,HT.sIx,Option.getD_none,show(1:Int) > 0 by decide,if_true]
      by_cases h:i < 0
      . simp only[h,if_true] <;> omega
      . simp only[h,if_false] <;> omega
theorem Jt(its:List Value)(lo hi:Option Int):slicePick its.toArray lo hi none=((its.drop (HT.sIx its.length 0 lo)).take (HT.sIx its.length its.length hi - HT.sIx its.length 0 lo)).toArray:=by
  obtain⟨h1,h2,h3⟩:=KS lo hi its.toArray.size
  unfold slicePick
  rw[h1,h2,h3]
  simp only[sliceRange_one,pick_run,List.size_toArray] <;> rfl
noncomputable def N8(K:PySem.W.Frag):V->Option Int->Option Int->Hp->VK->Prop:=λ x lo hi H Q=>∃ a xs,x=.ref a/\SqL K H a xs/\∀ p,H p=none->Q (.ref p) (upd H p (.lst (Hj xs lo hi)))
theorem SA:SlR X (N8 X.K):=by
  intro pins s σ H x v vl vu lo hi sl Q I rx hs pl pu h
  obtain⟨a,xs,rfl,hx,q⟩:=h
  cases rx
  obtain⟨its,r,ht,hz⟩:=I.list hx
  have hlen:=r.length
  refine⟨"list",_,slot_list_getitem.lookup,ht.isList.typeIs,?_⟩
  refine wpAny_getItem_list_slice ht.isList hs pl pu .none (by simp) ?_ (by rw[List.size_toArray] <;> omega)
  rw[Jt,<- hlen]
  refine⟨.ref s.heap.objs.size,_,I.laid (t':=s.toks) (o:=.lst (Hj xs lo hi)) (λ b ob q=>Heap.get?_push_of_some _ q) (Nat.le_refl _) ?_,rfl,q _ (I.hok.fresh (Nat.le_refl _))⟩
  exact⟨Nat.le_trans (Lj xs lo hi) hz,_,0,(r.drop (HT.sIx xs.length 0 lo)).take (HT.sIx xs.length xs.length hi - HT.sIx xs.length 0 lo),Heap.get?_push_size _ rfl⟩
noncomputable def EB:V->Bool
  | .non=>true
  | .bl _=>true
  | .int _=>true
  | .str _=>true
  | _=>false
noncomputable def eqV:V->V->Bool
  | .non,.non=>true
  | .bl a,.bl b=>a == b
  | .bl a,.int b=>(if a then 1 else 0) == b
  | .int a,.bl b=>a == (if b then 1 else 0)
  | .int a,.int b=>a == b
  | .str a,.str b=>a == b
  | _,_=>false
theorem VO{A:Around}{s:Shared}{y x:V}{u v:Value}(ry:RelV y u)(rx:RelV x v)(fy:EB y=true)(fx:EB x=true):SeqAt.EqAt A s u v (eqV y x):=by
  cases y with
  | non=>
    cases ry
    cases x with
    | non=>cases rx;exact SeqAt.EqAt.same _
    | bl b=>cases rx;exact SeqAt.EqAt.none_bool b
    | int b=>obtain⟨t,rfl⟩:=rx;exact SeqAt.EqAt.none_int b t
    | str b=>obtain⟨t,rfl⟩:=rx;exact SeqAt.EqAt.none_str b t
    | _=>exact absurd (show false=true from fx) Bool.false_ne_true
  | bl a=>
    cases ry
    cases x with
    | non=>cases rx;exact SeqAt.EqAt.bool_none a
    | bl b=>cases rx;exact SeqAt.EqAt.bool_bool a b
    | int b=>obtain⟨t,rfl⟩:=rx;exact SeqAt.EqAt.bool_int a b t
    | str b=>obtain⟨t,rfl⟩:=rx;exact SeqAt.EqAt.bool_str a b t
    | _=>exact absurd (show false=true from fx) Bool.false_ne_true
  | int a=>
    obtain⟨t',rfl⟩:=ry
    cases x with
    | non=>cases rx;exact SeqAt.EqAt.int_none a t'
    | bl b=>cases rx;exact SeqAt.EqAt.int_bool a t' b
    | int b=>obtain⟨t,rfl⟩:=rx;exact SeqAt.EqAt.int_int a t' b t
    | str b=>obtain⟨t,rfl⟩:=rx;exact SeqAt.EqAt.int_str a t' b t
    | _=>exact absurd (show false=true from fx) Bool.false_ne_true
  | str a=>
    obtain⟨t',rfl⟩:=ry
    cases x with
    | non=>cases rx;exact SeqAt.EqAt.str_none a t'
    | bl b=>cases rx;exact SeqAt.EqAt.str_bool a t' b
    | int b=>obtain⟨t,rfl⟩:=rx;exact SeqAt.EqAt.str_int a t' b t
    | str b=>obtain⟨t,rfl⟩:=rx;exact SeqAt.EqAt.str_str a t' b t
    | _=>exact absurd (show false=true from fx) Bool.false_ne_true
  | _=>exact absurd (show false=true from fy) Bool.false_ne_true
noncomputable def eqU(x:V)(u:Value):Bool:=match u with
  | .none=>eqV .non x
  | .bool b=>eqV (.bl b) x
  | .int i _=>eqV (.int i) x
  | .str z _=>eqV (.str z) x
  | _=>false
theorem Ox{x y:V}{u:Value}(r:RelV y u)(f:EB y=true):eqU x u=eqV y x:=by
  cases y with
  | non=>cases r;rfl
  | bl b=>cases r;rfl
  | int i=>obtain⟨t,rfl⟩:=r;rfl
  | str z=>obtain⟨t,rfl⟩:=r;rfl
  | _=>exact absurd (show false=true from f) Bool.false_ne_true
theorem JH{x:V}:∀ {xs:List V} {us:List Value},Vals xs us->xs.all EB=true->us.any (eqU x)=xs.any λ y=>eqV y x
  | _,_,.nil,_=>rfl
  | y :: xs,u :: us,.cons r t,f=>by
    rw[List.all_cons,Bool.and_eq_true]at f
    rw[List.any_cons,List.any_cons,Ox r f.1,JH t f.2]
theorem He{A:Around}{s:Shared}{x:V}{v:Value}(rx:RelV x v)(fx:EB x=true):∀ {xs:List V} {us:List Value},Vals xs us->xs.all EB=true->∀ u ∈ us,SeqAt.EqAt A s u v (eqU x u)
  | _,_,.nil,_=>λ u hu=>by cases hu
  | y :: xs,u :: us,.cons r t,f=>λ u' hu=>by
    rw[List.all_cons,Bool.and_eq_true]at f
    rcases List.mem_cons.mp hu with rfl|hu
    . rw[Ox r f.1];exact VO r rx f.1 fx
    . exact He rx fx t f.2 u' hu
noncomputable def inV(x:V)(xs:List V):Bool:=xs.any λ y=>eqV y x
noncomputable def rIn(K:PySem.W.Frag)(neg:Bool):R2:=λ x y H Q=>∃ p xs,y=.ref p/\(SqL K H p xs ∨ SqT K H p xs)/\EB x=true/\xs.all EB=true/\Q (.bl (if neg then !inV x xs else inV x xs)) H
theorem Kp:OpR X (compareOp .NotIn) (rIn X.K true):=by
  intro pins s σ H x y v u Q I rx ry h
  obtain⟨p,xs,rfl,hq,fx,fs,q⟩:=h
  cases ry
  rcases hq with hq|hq
  . obtain⟨its,r,pl,hz⟩:=I.list hq
    refine SeqAt.notIn_listAt (eqU x) pl.isList (λ w hw=>He rx fx r fs w (by simpa using hw)) ⟨.bl _,H,I,rfl,?_⟩
    rw[show its.toArray.any (eqU x)=its.any (eqU x) by simp,JH r fs]
    exact q
  . obtain⟨its,r,pl,hz⟩:=I.tuple hq
    refine SeqAt.notIn_tupleAt (eqU x) pl (λ w hw=>He rx fx r fs w (by simpa using hw)) ⟨.bl _,H,I,rfl,?_⟩
    rw[show its.toArray.any (eqU x)=its.any (eqU x) by simp,JH r fs]
    exact q
theorem LS:CallR X (.builtin "len") (λ xs H Q=>∃ p ys,xs=[.ref p]/\(SqL X.K H p ys ∨ SqT X.K H p ys)/\Q (.int ys.length) H):=by
  intro pins s σ H xs us Q I r h
  obtain⟨p,ys,rfl,hq,q⟩:=h
  obtain⟨u,rfl,rx⟩:=CK r
  cases rx
  have hn:=GY
  rcases hq with hq|hq
  . obtain⟨its,r',pl,hz⟩:=I.list hq
    have hlen:=r'.length
    exact Calls.call_len_list pl.isList (by simp only[List.size_toArray] <;> omega) ⟨.int ys.length,H,I.tok _,⟨s.toks + 1,by rw[List.size_toArray,hlen]⟩,q⟩
  . obtain⟨its,r',pl,hz⟩:=I.tuple hq
    have hlen:=r'.length
    exact len_tuple pl (by simp only[List.size_toArray] <;> omega) ⟨.int ys.length,H,I.tok _,⟨s.toks + 1,by rw[List.size_toArray,hlen]⟩,q⟩
theorem CallR.or{f:Value}{r r':List V->Hp->VK->Prop}(h:CallR X f r)(h':CallR X f r'):CallR X f (λ xs H Q=>r xs H Q ∨ r' xs H Q):=by
  intro pins s σ H xs us Q I rs q
  rcases q with q|q
  . exact h pins s σ H xs us Q I rs q
  . exact h' pins s σ H xs us Q I rs q
theorem LR:CallR X (.type "list") (λ xs H Q=>∃ p ys,xs=[.ref p]/\(SqL X.K H p ys ∨ SqT X.K H p ys)/\∀ l,H l=none->Q (.ref l) (upd H l (.lst ys))):=by
  intro pins s σ H xs us Q I r h
  obtain⟨p,ys,rfl,hq,q⟩:=h
  obtain⟨u,rfl,rx⟩:=CK r
  cases rx
  have fin:∀ (its:List Value),Vals ys its->ys.length <= sizeLine->∀ (h':Heap) (c':Nat),(∀ b o',s.heap.get? b=some o'->h'.get? b=some o') ->
      h'.get? s.heap.objs.size=some { cls:=.type "list",dict:=none,data:=.seq its.toArray c',slots:=#[] }->EP X pins σ Q (.ref s.heap.objs.size) { s with heap:=h' }:=λ its r' hz h' c' kp e=>
    ⟨.ref s.heap.objs.size,_,I.laid (t':=s.toks) kp (Nat.le_refl _) (show ObjOk X.prog X.w _ h' _ (.lst ys)from⟨hz,its,c',r',e⟩),rfl,q _ (I.hok.fresh (Nat.le_refl _))⟩
  rcases hq with hq|hq
  . obtain⟨its,r',pl,hz⟩:=I.list hq
    have hlen:=r'.length
    obtain⟨o,ho,hc,n,hd⟩:=pl.isList
    exact call_list_seq p (.inl rfl) ho hc hd (λ h' c' kp e=>fin its r' hz h' c' kp e) (by simp only[List.size_toArray] <;> omega)
  . obtain⟨its,r',pl,hz⟩:=I.tuple hq
    have hlen:=r'.length
    obtain⟨o,ho,hc,n,hd⟩:=pl
    exact call_list_seq p (.inr rfl) ho hc hd (λ h' c' kp e=>fin its r' hz h' c' kp e) (by simp only[List.size_toArray] <;> omega)
theorem Jv:CallR X (.type "tuple") (λ xs H Q=>∃ p ys,xs=[.ref p]/\((SqL X.K H p ys/\∀ l,H l=none->Q (.ref l) (upd H l (.tup ys))) ∨ (SqT X.K H p ys/\Q (.ref p) H))):=by
  intro pins s σ H xs us Q I r h
  obtain⟨p,ys,rfl,h⟩:=h
  obtain⟨u,rfl,rx⟩:=CK r
  cases rx
  rcases h with⟨hq,q⟩|⟨hq,q⟩
  . obtain⟨its,r',pl,hz⟩:=I.list hq
    have hlen:=r'.length
    refine call_tuple_list pl.isList (λ h' kp=>?_) (by simp only[List.size_toArray] <;> omega)
    have I1:Inv X pins σ H { s with heap:=h' }:=I.kept (t':=s.toks) kp
    have I2:Inv X pins σ (upd H h'.objs.size (.tup ys)) { s with heap:=h'.push { cls:=.type "tuple",data:=.seq its.toArray } }:=
      I1.laid (t':=s.toks) (λ b o e=>Heap.get?_push_of_some _ e) (Nat.le_refl _) (show ObjOk X.prog X.w _ _ _ (.tup ys)from⟨hz,its,r',IsTupD.new _ _⟩)
    exact⟨.ref h'.objs.size,_,I2,rfl,q _ (I1.hok.fresh (Nat.le_refl _))⟩
  . obtain⟨its,r',pl,hz⟩:=I.tuple hq
    exact call_tuple_same pl ⟨.ref p,H,I,rfl,q⟩
noncomputable def tyV(K:PySem.W.Frag)(T:String)(x:V)(H:Hp):Prop:=match x with
  | .str _=>T="str"
  | .int _=>T="int"
  | .ref p=>(T="list"/\∃ xs,SqL K H p xs) ∨ (T="tuple"/\∃ o,K.lookup p=some o/\o.cls=.type "tuple"/\o.dict=none) ∨
      (T="dict"/\((∃ kvs,H p=some (.dK kvs)) ∨ ∃ kvs,H p=some (.dT kvs))) ∨ (T="set"/\∃ S n,H p=some (.set S n))
  | _=>False
theorem Tx{pins:List (Addr × Obj)}{σ:St}{H:Hp}{s:Shared}{T:String}{x:V}{v:Value}(I:Inv X pins σ H s)(r:RelV x v)(ty:tyV X.K T x H) :
    s.TypeIs v T/\∀ a,v=.ref a->∃ ob,s.heap.get? a=some ob/\ob.dict=none:=by
  cases x with
  | str z=>
    obtain⟨t,rfl⟩:=r
    cases(show T="str" from ty)
    exact⟨typeIs_str s z t,λ _ e=>nomatch e⟩
  | int i=>
    obtain⟨t,rfl⟩:=r
    cases(show T="int" from ty)
    exact⟨typeIs_int s i t,λ _ e=>nomatch e⟩
  | ref p=>
    cases r
    rcases ty with⟨rfl,xs,hq⟩|⟨rfl,o,hk,hc,hd⟩|⟨rfl,hk⟩|⟨rfl,S,n,hk⟩
    . obtain⟨its,_,pl,_⟩:=I.list hq
      refine⟨pl.isList.typeIs,λ a e=>?_⟩
      cases e
      obtain⟨o,n,e,c,hd,_⟩:=pl
      exact⟨o,e,hd⟩
    . refine⟨⟨o,I.kIn p o hk,hc⟩,λ a e=>?_⟩
      cases e
      exact⟨o,I.kIn _ o hk,hd⟩
    . have z:∃ o,s.heap.get? p=some o/\o.ExactDict:=by
        rcases hk with⟨kvs,hk⟩|⟨kvs,hk⟩
        . obtain⟨_,_,_,_,o,_,_,e,ex,_⟩:=I.hok p _ hk
          exact⟨o,e,ex⟩
        . obtain⟨_,_,_,_,o,_,_,e,ex,_⟩:=I.hok p _ hk
          exact⟨o,e,ex⟩
      obtain⟨o,e,ex⟩:=z
      refine⟨⟨o,e,ex.1⟩,λ a e2=>?_⟩
      cases e2
      exact⟨o,e,ex.2.1⟩
    . obtain⟨o,_,_,_,e,ex,_⟩:=I.hok p _ hk
      refine⟨⟨o,e,ex.1⟩,λ a e2=>?_⟩
      cases e2
      exact⟨o,e,ex.2.1⟩
  | _=>exact False.elim ty
noncomputable def tBM(K:PySem.W.Frag)(T:String)(r:V->List V->Hp->VK->Prop)(to:TE)(t:TA):TE:=λ σ H Q=>to σ H λ x H1=>tyV K T x H1/\t σ H1 λ xs H2=>r x xs H2 Q
variable{o e:Expr}{es:List Expr}{to:TE}{t:TA}{name:Str}{apos cpos:Pos}{T id:String}{r:V->List V->Hp->VK->Prop}
theorem Vv(pa:PlainAttrs T)(slot:Slot T name id)(hty:typeOf (.builtin id)=pure (.type "method_descriptor"))(hm:MtR X id r)(ho:PE X o to)(ha:PA X (e :: es) t)
    (hbase:attributeBase o name X.env (eval o X.env)=eval o X.env:=by rfl)
    (hfew:((backTo cpos (starEach (e :: es) X.env)).all (λ x=>!x.1) && (backToKw cpos (keywordEach [] X.env)).all (λ x=>x.1.isSome)
      && decide ((e :: es).length + ([]:List Keyword).length + (if([]:List Keyword).isEmpty then 0 else 1) < 30))=true:=by rfl)
    (hline:(apos.endLine == cpos.line)=true:=by rfl) (hs:starEach (e :: es) X.env=(false,eval e X.env) :: starEach es X.env:=by rfl) (hplain:(backTo cpos (starEach es X.env)).any (·.1)=false:=by rfl) :
    PE X (.Call (.Attribute o name apos) (e :: es) [] cpos) (tBM X.K T r to t):=by
  intro pins s σ H Q I h
  refine wpAny_Call_method_late hbase hfew hline rfl (thn (ho pins s σ H _ I h) λ v s1 ⟨x,H1,I1,r1,ty,q1⟩=>?_)
  obtain⟨h1,h2⟩:=Tx I1 r1 ty
  refine⟨T,id,pa,slot,hty,h1,h2,?_⟩
  have hA:=ha cpos pins s1 σ H1 _ I1 q1
  rw[hs]at hA ⊢
  refine Calls.callWith_builtin (by show(false || (backTo cpos (starEach es X.env)).any (·.1))=false;rw[hplain] <;> rfl) (Calls.evalArgs_plain ?_)
  exact thn hA λ us s2 ⟨vs,H2,I2,r2,q2⟩=>hm pins s2 σ H2 x vs v us Q I2 r1 r2 q2
end
end L2
namespace L2
open PySem PySem.Spec PyProof.Rows
noncomputable def MtM(X:Cx)(id:String)(r:V->List V->Hp->VK->Prop):Prop:=
  ∀ (pins:List (Addr × Obj)) (s:Shared) (σ:St) (H:Hp) (x:V) (xs:List V) (v:Value) (us:List Value) (Q:VK),Inv X pins σ H s->RelV x v->Vals xs us->r x xs H Q ->
    wpAny (model X.prog X.w) X.A (call (.builtin id) (v :: us)) (EP X pins σ Q) X.xe s
theorem Vals.one:∀ {x:V} {us:List Value},Vals [x] us->∃ u,us=[u]/\RelV x u
  | _,_,.cons r .nil=>⟨_,rfl,r⟩
theorem Vals.eraseIdx:∀ {xs:List V} {us:List Value} (i:Nat),Vals xs us->Vals (xs.eraseIdx i) (us.eraseIdx i)
  | _,_,_,.nil=>.nil
  | _,_,0,.cons _ t=>t
  | _,_,i + 1,.cons r t=>.cons r (Vals.eraseIdx i t)
theorem JW{α:Type}:∀ (l:List α) (i:Nat),(l.eraseIdx i).length <= l.length
  | [],_=>Nat.le_refl _
  | _ :: _,0=>Nat.le_succ _
  | _ :: r,i + 1=>Nat.succ_le_succ (JW r i)
section
variable{X:Cx}{pins:List (Addr × Obj)}{σ:St}{H:Hp}{s:Shared}{l b:Addr}{xs ys zs:List V}
theorem Inv.lset{its its':List Value}{n:Nat}{f:Array Value->Array Value}{t':Nat}(I:Inv X pins σ H s)(hH:H l=some (.lst xs))
    (e:s.heap.get? l=some { cls:=.type "list",data:=.seq its.toArray n }) (hf:f its.toArray=its'.toArray) (hv:Vals ys its') (hz:ys.length <= sizeLine) :
    Inv X pins σ (upd H l (.lst ys)) { s with heap:=s.heap.update l (Obj.mapSeq f),toks:=t' }:=by
  have q:=PySem.IsL.update e f
  rw[hf]at q
  refine I.write (x:=l) (e:=l) (by rw[hH];exact trivial) (.inl rfl) (λ b' u hb hu=>(Heap.get?_update_other s.heap (Obj.mapSeq f) (Ne.symm hb)).trans hu) ⟨_,q⟩ ?_
  exact⟨hz,its',_,hv,q⟩
theorem Inv.lnew{its:List Value}{t':Nat}(I:Inv X pins σ H s)(hv:Vals ys its)(hz:ys.length <= sizeLine) :
    Inv X pins σ (upd H s.heap.objs.size (.lst ys)) { s with heap:=s.heap.push { cls:=.type "list",data:=.seq its.toArray },toks:=t' }:=
  I.laid (λ _ _ q=>Heap.get?_push_of_some _ q) (Nat.le_refl _) ⟨hz,its,0,hv,Heap.get?_push_size _ rfl⟩
theorem Inv.lstM(I:Inv X pins σ H s)(hH:H l=some (.lst xs)):xs.length <= sizeLine/\∃ (its:List Value) (n:Nat),Vals xs its/\xs.length=its.length/\s.heap.get? l=some { cls:=.type "list",data:=.seq its.toArray n }:=by
  obtain⟨z,its,n,r,e⟩:=I.hok l _ hH
  exact⟨z,its,n,r,r.length,e⟩
end
section
variable{X:Cx}
noncomputable def M7:V->List V->Hp->VK->Prop:=λ x vs H Q=>∃ l xs y,x=.ref l/\vs=[y]/\H l=some (.lst xs)/\xs.length < sizeLine/\Q .non (upd H l (.lst (xs ++ [y])))
theorem CD:MtM X "list.append" M7:=by
  intro pins s σ H x vs v us Q I rx rv h
  obtain⟨l,xs,y,rfl,rfl,hH,hz,q⟩:=h
  cases rx
  obtain⟨u,rfl,ru⟩:=rv.one
  obtain⟨z,its,n,r,hl,e⟩:=I.lstM hH
  refine call_meets F.slot_list_append ⟨_,e,rfl⟩ F.entry_list_append (F.args_list_append_2 _ _) (PySem.list_append l its.toArray n u (by rw[List.size_toArray];omega)) ⟨e,?_⟩
  refine⟨.non,_,I.lset (its':=its ++ [u]) hH e (by simp) (r.append (.cons ru .nil)) ?_,rfl,q⟩
  rw[List.length_append,List.length_singleton]
  omega
noncomputable def OE:V->List V->Hp->VK->Prop:=λ x vs H Q=>∃ l xs i k y,x=.ref l/\vs=[.int i]/\H l=some (.lst xs)/\-(2 ^ 63) <= i/\i < 2 ^ 63/\seqIndex? i xs.length=some k/\xs[k]? = some y/\Q y (upd H l (.lst (xs.eraseIdx k)))
theorem Qh:MtM X "list.pop" OE:=by
  intro pins s σ H x vs v us Q I rx rv h
  obtain⟨l,xs,i,k,y,rfl,rfl,hH,h1,h2,hk,hy,q⟩:=h
  cases rx
  obtain⟨u,rfl,ru⟩:=rv.one
  obtain⟨t,rfl⟩:=ru
  obtain⟨z,its,n,r,hl,e⟩:=I.lstM hH
  obtain⟨w,hw,rw'⟩:=r.get hy
  refine call_meets F.slot_list_pop ⟨_,e,rfl⟩ F.entry_list_pop (F.args_list_pop_2 _ _)
    (MeetsSeq.list_pop_at l its.toArray n i t k w (fitsIndex_both h1 h2) (by rw[List.size_toArray,<- hl];exact hk) (by rw[<- Array.getElem?_toList];exact hw) (by rw[List.size_toArray];omega)) ⟨e,?_⟩
  refine⟨y,_,I.lset (its':=its.eraseIdx k) hH e ?_ (r.eraseIdx k) ?_,rw',q⟩
  . show its.toArray.eraseIdxIfInBounds k=(its.eraseIdx k).toArray
    rw[List.eraseIdxIfInBounds_toArray]
  . have:=JW xs k
    omega
end
section
variable{prog:Program}{w:World}{A:Around}{E:Value->Shared->Prop}{s:Shared}
end
section
variable{X:Cx}
end
end L2
namespace Att
open PySem PySem.W PySem.Calls PyProof.Rows
theorem IX{P:Params}{h:Heap}:∀ (ns:List Int) (vs:List Value),WellAll P h vs (ns.map WData.int)->IntsAre vs ns:=by
  intro ns
  induction ns with
  | nil=>
    intro vs w
    rw[List.map_nil]at w
    cases w
    exact .nil
  | cons n ns ih=>
    intro vs w
    rw[List.map_cons]at w
    cases w with
    | cons a b=>
      cases a
      exact .cons _ _ (ih _ b)
theorem O6{l:OpenLaw}{n:Nat}(hn:l.most=some n){P:Params}{h:Heap}{args:List WData}{vals:List Value}
    (hpre:l.row.toRowW.claim.pre args=true) (hwl:WellAll P h vals args) :
    ∃ a vs ns,vals=[Value.ref a]/\args=[WData.list (ns.map WData.int)]/\h.get? a=some { cls:=.type "list",data:=.seq vs.toArray }/\IntsAre vs ns/\ns.length <= n:=by
  have hsh:WShape.hasAll [] args [.list .int]=true:=(pre_splitW hpre).1
  have hc:l.pre.holds [] { args:=args }=true:=(pre_splitW hpre).2
  obtain⟨d,r,rfl,h1,h2⟩:=hasAllW_cons hsh
  obtain rfl:=hasAllW_nil h2
  obtain⟨xs,rfl,h3⟩:=hasW_list h1
  obtain⟨ns,rfl⟩:=items_int h3
  have hlen:ns.length <= n:=by
    unfold OpenLaw.pre at hc
    have h4:(WTm.not (.lt (.lit (.int (n:Int))) (.len (.arg 0)))).holds [] { args:=[.list (ns.map .int)] }=true:=by
      have h4:=(holds_andW hc).1
      rw[hn]at h4
      exact h4
    have h5:=condW_of h4 (w_not (w_lt w_lit (w_len_list (w_arg rfl))))
    rw[List.length_map]at h5
    refine Nat.le_of_not_lt λ q=>?_
    have q':(n:Int) < ((ns.length:Nat):Int):=by omega
    first
      | (rw[decide_eq_true q']at h5;exact absurd h5 (by decide))
      | (simp at h5;omega)
  cases hwl with
  | cons w1 w2=>
    cases w2
    cases w1 with
    | list ho hall=>exact⟨_,_,ns,rfl,rfl,ho,IX ns _ hall,hlen⟩
theorem ON(l:OpenLaw)(args:List WData):l.row.toRowW.claim.post args (.bool true) args=true:=
  postW_of (r:=l.row.toRowW) (X:=(true == true))
    (show WShape.has [] (.bool true) .bool=true by first|rfl|decide|simp[WShape.has,WShape.arms,WShape.armsAll])
    (show(WTm.eq .res (.lit (.bool true))).value [] { args:=args,res:=some (.bool true),after:=args }=some (.bool (true == true))from w_eq_bool (w_res rfl) w_lit) rfl
theorem attach_call{l:OpenLaw}{n:Nat}{q:Program}{loose:List Str}{XP:(Str->Option Value)->Heap->Prop}{YP:World->Heap->Prop}{d:DefRec}
    (hn:l.most=some n) (hdf:d.params.defaults=[])
    (call:∀ (w:World) (s₀ s₁:Shared) (mg mb:Str->Option Value) (fa:Addr) (o:Obj) (pm cd doc:Value) (a:Addr) (vs:List Value) (ns:List Int),
      Ground q loose [] XP w s₀ mg mb s₁.heap->YP w s₁.heap ->
      s₁.heap.get? fa=some o->o.data=.func (docDef d.name d.params d.body d.scope pm cd doc)->s₁.heap.CodeRec cd d.name->mg d.name=some (.ref fa) ->
      s₁.heap.get? a=some { cls:=.type "list",data:=.seq vs.toArray }->IntsAre vs ns->ns.length <= n->s₁.gens=#[] ->
      codeAny (model l.prog w) callerA (.call (.ref fa) ⟨[.ref a],[]⟩) (λ r s'=>r=.ok (.ret (.bool true))/\OldK s₁.heap s'.heap/\s'.os=s₁.os/\AllBare s'.gens) s₁) :
    WalkO q loose XP YP l.row.toRowW d [] (λ f vs=>PySem.call f vs):=by
  intro w s₀ s₁ mg mb G Y fa o pm cd doc dV kV ho hd hcd hD hmg hg args vals as hpre hlay hrd hwl hlo
  obtain rfl:dV=.none:=Dflts.none hD hdf
  obtain rfl:kV=.none:=Dflts.noKw hD
  obtain⟨a,vs,ns,rfl,rfl,hobj,hints,hlen⟩:=O6 hn hpre hwl
  refine enter_call (codeAny_mono (call w s₀ s₁ mg mb fa o pm cd doc a vs ns G Y ho (fd_plain hd) hcd hmg hobj hints hlen hg) λ r s' hq=>?_)
  obtain⟨rfl,h2,h3,h4⟩:=hq
  exact⟨.inl ⟨.bool true,.bool true,[],rfl,λ _=>rfl,.bool true,ON l _,λ _=>⟨List.Pairwise.nil,λ _ hm=>(nomatch hm)⟩⟩,h2,h3,h4⟩
section
variable{prog:Program}{w:World}{A:Around}{E:Value->Shared->Prop}{s:Shared}{K:Frag}
end
end Att
namespace L2
open PySem PySem.Spec PyProof.Rows
theorem JL:∀ {vs:List Value} {ns:List Int},IntsAre vs ns->Vals (ns.map V.int) vs
  | _,_,.nil=>.nil
  | _,_,.cons n t h=>.cons ⟨t,rfl⟩ (JL h)
end L2
namespace L2
open PySem PySem.Spec PyProof.Rows
end L2
namespace L2
open PySem PySem.Spec PyProof.Rows
noncomputable def Ar(s:Stmt):Arguments:=match s with
  | .FunctionDef _ a _ _ _ _ _ _ _ _=>a
  | _=>{ posonlyargs:=[],args:=[],vararg:=none,kwonlyargs:=[],kw_defaults:=[],kwarg:=none,defaults:=[] }
noncomputable def Ai(s:Stmt):List Stmt:=match s with
  | .FunctionDef _ _ b _ _ _ _ _ _ _=>b
  | _=>[]
noncomputable def AF(s:Stmt):Scope:=match s with
  | .FunctionDef _ _ _ _ _ _ sc _ _ _=>sc
  | _=>{ kind:=.function,names:=[],isGenerator:=false,isCoroutine:=false }
noncomputable abbrev CX0:CXT:=λ _ _ _ _ _ _=>False
noncomputable abbrev E0:XK:=λ _ _ _=>False
theorem Vx{X:Cx}:LZ CX0 X E0:=λ _ _ _ _ _ _ _ h=>h.elim
structure Fun(K:PySem.W.Frag)(x qual:Str)(st:Stmt)(f:Addr)(fd:FuncData):Prop where
  ex:∃ (oc:Value) (od:Option Addr) (kV doc pm:Value) (an:Option Addr) (cdv ct:Value) (osl:Array (Option Value)),
    fd=PySem.W.fnOf x qual (Ar st) (Ai st) (AF st) .none kV doc pm an cdv ct/\K.lookup f=some ⟨oc,od,.func fd,osl⟩/\PySem.W.codeIn K cdv qual=true
  kp:PySem.W.keepIn K (.ref f)=true
section
variable{P:Program}{w:World}{K:PySem.W.Frag}{mg:Str->Option Value}{base:Heap}
theorem Fun.ok{x qual:Str}{st:Stmt}{f:Addr}{fd:FuncData}{N ps:List Str}{k:Nat}{sp:Sp}(F:Fun K x qual st f fd)(S:FnScope N ps (AF st))(len:∀ vs H Q E,sp vs H Q E->vs.length=ps.length)
    (hbody:∀ (cdv:Value) (A:Around) (outer:List Env) (s:Shared) (H:Hp) (vs:List V) (Q:VK) (E:XK),Room k (A.deeper (envOfC qual (AF st) s.heap.objs.size f cdv))->sp vs H Q E ->
      ∃ t,PSs (Ga CX0 P w K mg base N qual (AF st) f cdv A outer s H E).nox (Ai st) t/\t { nx:=λ _ H'=>Q .non H',rt:=Q } (DR N vs) H):FnOk P w K mg base CX0 (k + 1) f fd ps sp:=by
  obtain⟨oc,od,kV,doc,pm,an,cdv,ct,osl,rfl,lk,hcd⟩:=F.ex
  refine Rl lk hcd S len λ A outer s H vs Q E hr hsp=>?_
  obtain⟨t,h,q⟩:=hbody cdv A outer s H vs Q E hr hsp
  exact⟨t,h.nox,q⟩
theorem Fun.binds{x qual:Str}{st:Stmt}{f:Addr}{fd:FuncData}{ps:List Str}(F:Fun K x qual st f fd)
    (h:∀ (kV doc pm:Value) (an:Option Addr) (cdv ct:Value) (us:List Value),us.length=ps.length->bindArgs (PySem.W.fnOf x qual (Ar st) (Ai st) (AF st) .none kV doc pm an cdv ct) ⟨us,[]⟩=pure (ps.zip us)):Binds K fd ps []:=by
  obtain⟨oc,od,kV,doc,pm,an,cdv,ct,osl,rfl,lk,hcd⟩:=F.ex
  exact .all (h kV doc pm an cdv ct)
theorem BO{x qual:Str}{st:Stmt}{f:Addr}{oc:Value}{od an:Option Addr}{osl:Array (Option Value)}{kV doc pm cdv ct:Value}(l:K.lookup f=some ⟨oc,od,.func (PySem.W.fnOf x qual (Ar st) (Ai st) (AF st) .none kV doc pm an cdv ct),osl⟩)
    (c:PySem.W.codeIn K cdv qual=true) (k:PySem.W.keepIn K (.ref f)=true):Fun K x qual st f (PySem.W.fnOf x qual (Ar st) (Ai st) (AF st) .none kV doc pm an cdv ct):=⟨⟨oc,od,kV,doc,pm,an,cdv,ct,osl,rfl,l,c⟩,k⟩
end
theorem DF{A:Around}{k:Nat}(hr:Room k A):A.units + 1 < cLine:=Nat.lt_of_le_of_lt (Nat.add_le_add_left (by decide:1 <= 64) _) hr.units
theorem JO{n:Nat}(h:n <= 1000):n < sizeLine:=Nat.lt_of_le_of_lt h (by decide)
section
variable{X:Cx}
end
end L2
namespace L2
open PySem PySem.Spec PyProof.Rows
section
variable{κ:Type}[DecidableEq κ]
noncomputable def Dz(kvs:List (κ × V))(k:κ):Option V:=(kvs.find? λ kv=>decide (kv.1=k)).map (·.2)
noncomputable def CZ(kvs:List (κ × V))(k:κ)(v:V):List (κ × V):=
  if(kvs.any λ kv=>decide (kv.1=k))=true then kvs.map (λ kv=>if kv.1=k then(kv.1,v)else kv)else kvs ++ [(k,v)]
theorem Eh{p:κ × V}{r:List (κ × V)}{k:κ}(e:p.1=k):Dz (p :: r) k=some p.2:=by simp[Dz,List.find?_cons,e]
theorem Ei{p:κ × V}{r:List (κ × V)}{k:κ}(e:¬ p.1=k):Dz (p :: r) k=Dz r k:=by simp[Dz,List.find?_cons,e]
theorem KG(k:κ):∀ kvs:List (κ × V),(kvs.any λ kv=>decide (kv.1=k))=(Dz kvs k).isSome
  | []=>rfl
  | p :: r=>by
    rw[List.any_cons]
    by_cases e:p.1=k
    . simp only[Eh e,decide_eq_true e,Bool.true_or,Option.isSome_some]
    . rw[Ei e,decide_eq_false e,Bool.false_or];exact KG k r
theorem FA(kvs:List (κ × V))(k:κ)(v:V):(CZ kvs k v).length <= kvs.length + 1:=by
  unfold CZ
  split
  . rw[List.length_map];omega
  . rw[List.length_append,List.length_cons,List.length_nil];omega
theorem RelO.isSome_eq{o:Option V}{u:Option Value}(r:RelO o u):o.isSome=u.isSome:=by
  cases o with
  | none=>cases u with
    | none=>rfl
    | some _=>exact(show False from r).elim
  | some _=>cases u with
    | none=>exact(show False from r).elim
    | some _=>rfl
theorem KV.val{kvs:List (κ × V)}{vs:List (κ × Value)}(r:KV kvs vs)(k:κ):RelO (Dz kvs k) (valueAt vs k):=by
  unfold KV at r
  induction r with
  | nil=>exact True.intro
  | @cons p q ps qs h t ih=>
    obtain⟨h1,h2⟩:=h
    by_cases e:p.1=k
    . have e':q.1=k:=h1.symm.trans e
      have b:valueAt (q :: qs) k=some q.2:=by simp[valueAt,List.find?_cons,e']
      rw[Eh e,b];exact h2
    . have e':¬ q.1=k:=λ z=>e (h1.trans z)
      have b:valueAt (q :: qs) k=valueAt qs k:=by simp[valueAt,List.find?_cons,e']
      rw[Ei e,b];exact ih
theorem KV.any{kvs:List (κ × V)}{vs:List (κ × Value)}(r:KV kvs vs)(k:κ):(kvs.any λ kv=>decide (kv.1=k))=vs.any λ kv=>decide (kv.1=k):=by
  unfold KV at r
  induction r with
  | nil=>rfl
  | cons h t ih=>rw[List.any_cons,List.any_cons,ih,h.1]
theorem KV.repl{kvs:List (κ × V)}{vs:List (κ × Value)}(r:KV kvs vs)(k:κ){y:V}{u:Value}(ry:RelV y u) :
    KV (kvs.map λ kv=>if kv.1=k then(kv.1,y)else kv) (vs.map λ kv=>if kv.1=k then(kv.1,u)else kv):=by
  unfold KV at r ⊢
  induction r with
  | nil=>exact .nil
  | @cons p q ps qs h t ih=>
    rw[List.map_cons,List.map_cons]
    refine .cons ?_ ih
    obtain⟨h1,h2⟩:=h
    by_cases e:p.1=k
    . rw[if_pos e,if_pos (h1.symm.trans e)];exact⟨h1,ry⟩
    . rw[if_neg e,if_neg (λ z=>e (h1.trans z))];exact⟨h1,h2⟩
theorem KV.put{kvs:List (κ × V)}{vs:List (κ × Value)}(r:KV kvs vs)(k:κ){y:V}{u:Value}(ry:RelV y u):KV (CZ kvs k y) (stored vs k u):=by
  unfold CZ stored
  rw[r.any k]
  by_cases e:(vs.any λ kv=>decide (kv.1=k))=true
  . rw[if_pos e,if_pos e];exact r.repl k ry
  . rw[if_neg e,if_neg e];exact Paired.snoc r ⟨rfl,ry⟩
theorem KV.length{kvs:List (κ × V)}{vs:List (κ × Value)}(r:KV kvs vs):kvs.length=vs.length:=Paired.length r
end
theorem K5{P:Program}{w:World}{k:Key}{u:Value}(r:RelV (kV k) u):(BZ P w).is k u=true:=by
  cases k with
  | inl i=>obtain⟨t,e⟩:=(show ∃ t,u=Value.int i t from r);subst e;exact Lh P w i t
  | inr x=>obtain⟨t,e⟩:=(show ∃ t,u=Value.str x t from r);subst e;exact Lg P w x t
theorem Jb{P:Program}{w:World}:∀ {ks:List Key} {us:List Value},Vals (ks.map kV) us->ItemsAre (BZ P w) ks us
  | [],_,r=>by rw[List.map_nil]at r;cases r;exact .nil
  | k :: ks,_,r=>by
    rw[List.map_cons]at r
    cases r with
    | cons h t=>exact .cons (K5 h) (Jb t)
noncomputable abbrev KT(H:Hp):List (List Key × V)->List (List Key × Addr × Value)->Prop:=Paired λ p q=>p.1=q.1/\H q.2.1=some (.tup (p.1.map kV))/\RelV p.2 q.2.2
theorem KT.val{H:Hp}{kvs:List (List Key × V)}{xs:List (List Key × Addr × Value)}(r:KT H kvs xs)(k:List Key):RelO (Dz kvs k) ((atKey xs k).map (·.2)):=by
  induction r with
  | nil=>exact True.intro
  | @cons p q ps qs h t ih=>
    obtain⟨h1,_,h2⟩:=h
    by_cases e:p.1=k
    . have e':q.1=k:=h1.symm.trans e
      have b:atKey (q :: qs) k=some q.2:=by simp[atKey,List.find?_cons,e']
      rw[Eh e,b];exact h2
    . have e':¬ q.1=k:=λ z=>e (h1.trans z)
      have b:atKey (q :: qs) k=atKey qs k:=by simp[atKey,List.find?_cons,e']
      rw[Ei e,b];exact ih
theorem KT.repl{H:Hp}{kvs:List (List Key × V)}{xs:List (List Key × Addr × Value)}(r:KT H kvs xs)(k:List Key){y:V}{u:Value}(ry:RelV y u) :
    KT H (kvs.map λ kv=>if kv.1=k then(kv.1,y)else kv) (xs.map (putAt k u)):=by
  induction r with
  | nil=>exact .nil
  | @cons p q ps qs h t ih=>
    rw[List.map_cons,List.map_cons]
    refine .cons ?_ ih
    obtain⟨h1,h2,h3⟩:=h
    unfold putAt
    by_cases e:p.1=k
    . rw[if_pos e,if_pos (h1.symm.trans e)];exact⟨h1,h2,ry⟩
    . rw[if_neg e,if_neg (λ z=>e (h1.trans z))];exact⟨h1,h2,h3⟩
theorem KT.put{H:Hp}{kvs:List (List Key × V)}{xs:List (List Key × Addr × Value)}(r:KT H kvs xs)(k:List Key){b:Addr}{y:V}{u:Value}(hb:H b=some (.tup (k.map kV)))(ry:RelV y u) :
    KT H (CZ kvs k y) (storedH xs k b u):=by
  have e:(kvs.any λ kv=>decide (kv.1=k))=(atKey xs k).isSome:=by
    rw[KG,(r.val k).isSome_eq,Option.isSome_map]
  unfold CZ storedH
  rw[e]
  by_cases q:(atKey xs k).isSome=true
  . rw[if_pos q,if_pos q];exact r.repl k ry
  . rw[if_neg q,if_neg q];exact Paired.snoc r ⟨rfl,hb,ry⟩
theorem KT.keeps{H H':Hp}{kvs:List (List Key × V)}{xs:List (List Key × Addr × Value)}(r:KT H kvs xs)(ht:∀ b ys,H b=some (.tup ys)->H' b=some (.tup ys)):KT H' kvs xs:=
  Paired.mapP r λ _ _ z=>⟨z.1,ht _ _ z.2.1,z.2.2⟩
section
variable{P:Program}{w:World}{H:Hp}{h:Heap}{a:Addr}
theorem Rc{u:HO}(ok:HOk P w H h)(e:Rd H a u):ObjOk P w H h a u:=e.ok ok
theorem Nj{kvs:List (Key × V)}(ok:HOk P w H h)(e:Rd H a (.dK kvs)):kvs.length <= sizeLine/\(a == sysModules)=false/\∃ vs,KV kvs vs/\h.DictOf (BZ P w) a vs:=
  show ObjOk P w H h a (.dK kvs)from Rc ok e
theorem Rn{kvs:List (Key × V)}(ok:HOk P w H h)(e:H a=some (.dK kvs)):kvs.length <= sizeLine/\(a == sysModules)=false/\∃ vs,KV kvs vs/\h.DictOf (BZ P w) a vs:=Nj ok (.inl e)
theorem Kv{ks:List Key}(ok:HOk P w H h)(e:H a=some (.tup (ks.map kV))):(tupleKind (BZ P w)).is h ks a:=by
  obtain⟨_,its,r,o,h1,h2,⟨n,h3⟩,_⟩:=(show ObjOk P w H h a (.tup (ks.map kV))from ok a _ e)
  exact⟨o,its.toArray,n,h1,h2,h3,by simpa using Jb r⟩
theorem Ni{kvs:List (List Key × V)}(ok:HOk P w H h)(e:Rd H a (.dT kvs)):kvs.length <= sizeLine/\(a == sysModules)=false /\
    ∃ xs,KT H kvs xs/\h.DictOfH (tupleKind (BZ P w)) a xs:=by
  obtain⟨z,y,xs,r,o,es,ep,h1,h2,h3,h4,h5⟩:=(show ObjOk P w H h a (.dT kvs)from Rc ok e)
  refine⟨z,y,xs,r,o,es,ep,h1,h2,h3,h4,λ x hx=>?_,h5⟩
  have all:∀ {l:List (List Key × V)} {m:List (List Key × Addr × Value)},KT H l m->∀ x ∈ m,(tupleKind (BZ P w)).is h x.1 x.2.1:=by
    intro l m q
    induction q with
    | nil=>intro x hx;exact nomatch hx
    | @cons p q ps qs hq t ih=>
      intro x hx
      rcases List.mem_cons.mp hx with e|hx
      . subst e
        exact Kv ok (by rw[<- hq.1];exact hq.2.1)
      . exact ih x hx
  exact all r x hx
theorem WH{kvs:List (List Key × V)}(ok:HOk P w H h)(e:H a=some (.dT kvs)):kvs.length <= sizeLine/\(a == sysModules)=false /\
    ∃ xs,KT H kvs xs/\h.DictOfH (tupleKind (BZ P w)) a xs:=Ni ok (.inl e)
end
noncomputable def DGet(H:Hp)(a:Addr)(y:V)(r:Option V):Prop:=
  (∃ kvs k,Rd H a (.dK kvs)/\y=kV k/\r=Dz kvs k) ∨ ∃ kvs k b,Rd H a (.dT kvs)/\y=.ref b/\H b=some (.tup (k.map kV))/\r=Dz kvs k
noncomputable def DPut(H:Hp)(a:Addr)(y v:V)(H':Hp):Prop:=
  (∃ kvs k,H a=some (.dK kvs)/\y=kV k/\kvs.length < sizeLine/\H'=upd H a (.dK (CZ kvs k v))) ∨
  ∃ kvs k b,H a=some (.dT kvs)/\y=.ref b/\H b=some (.tup (k.map kV))/\kvs.length < sizeLine/\H'=upd H a (.dT (CZ kvs k v))
theorem DGet.k{H:Hp}{a:Addr}{kvs:List (Key × V)}{k:Key}(e:H a=some (.dK kvs)):DGet H a (kV k) (Dz kvs k):=.inl ⟨kvs,k,.inl e,rfl,rfl⟩
theorem DPut.k{H:Hp}{a:Addr}{kvs:List (Key × V)}{k:Key}{v:V}(e:H a=some (.dK kvs))(hl:kvs.length < sizeLine):DPut H a (kV k) v (upd H a (.dK (CZ kvs k v))):=.inl ⟨kvs,k,e,rfl,hl,rfl⟩
section
variable{X:Cx}{pins:List (Addr × Obj)}{σ:St}{H:Hp}{s:Shared}{a:Addr}{y v:V}{u r:Value}{o:Option V}{A:Around}{E:Value->Shared->Prop}
theorem Inv.big(I:Inv X pins σ H s):sysModules < s.heap.objs.size:=by
  have h:mainGlobals < s.heap.objs.size:=(I.mod.glob.keeps I.bk).lt
  exact Nat.lt_trans (by decide) h
theorem P1{Q:Value->Shared->Prop}(hu:A.units + 1 < cLine)(I:Inv X pins σ H s)(g:DGet H a y (some v))(ry:RelV y u)(h:∀ w' s',Inv X pins σ H s'->RelV v w'->Q w' s') :
    wpAny (model X.prog X.w) A (getItem (.ref a) u) Q E s:=by
  rcases g with⟨kvs,k,e,ey,l⟩|⟨kvs,k,b,e,ey,eb,l⟩
  . subst ey
    obtain⟨z,hd,vs,rel,dd⟩:=Nj I.hok e
    obtain⟨w',hw,rw'⟩:=RelO.some_of (v:=v) (o:=valueAt vs k) (by rw[l];exact rel.val k)
    exact wpAny_getItem_of (K5 ry) dd.mapOf hw (h w' _ (I.tok _) rw')
  . subst ey
    cases(show u=Value.ref b from ry)
    obtain⟨z,hd,xs,rel,dd⟩:=Ni I.hok e
    obtain⟨w',hw,rw'⟩:=RelO.some_of (v:=v) (o:=(atKey xs k).map (·.2)) (by rw[l];exact rel.val k)
    obtain⟨p,hp,hp2⟩:=Option.map_eq_some_iff.mp hw
    refine wpAny_getItem_heap (tupleKind_room_in1 hu) (Kv I.hok eb) dd hp ?_
    rw[hp2]
    exact h w' _ (I.tok _) rw'
theorem JG{h':Heap}{t':Nat}{ob:HO}(I:Inv X pins σ H s)(mu:Mut (H a))(hs:Heap.SameBut a s.heap h')(he:∃ q,h'.get? a=some q)(new:ObjOk X.prog X.w (upd H a ob) h' a ob) :
    Inv X pins σ (upd H a ob) { s with heap:=h',toks:=t' }:=
  I.write (x:=a) (e:=a) mu (.inl rfl) (λ b q hb z=>(hs.2 b hb).trans z) he new
theorem Oy{P:Program}{w:World}{H':Hp}{h':Heap}{kvs:List (Key × V)}{vs:List (Key × Value)}(z:kvs.length <= sizeLine)(hd:(a == sysModules)=false)(rel:KV kvs vs)(dd:h'.DictOf (BZ P w) a vs) :
    ObjOk P w H' h' a (.dK kvs):=⟨z,hd,vs,rel,dd⟩
theorem P0{H':Hp}{Q:Unit->Shared->Prop}(hu:A.units + 1 < cLine)(I:Inv X pins σ H s)(g:DPut H a y v H')(ry:RelV y u)(rv:RelV v r)(h:∀ s',Inv X pins σ H' s'->Q () s') :
    wpAny (model X.prog X.w) A (setItem (.ref a) u r) Q E s:=by
  rcases g with⟨kvs,k,e,ey,l,eH⟩|⟨kvs,k,b,e,ey,eb,l,eH⟩
  . subst ey eH
    obtain⟨z,hd,vs,rel,dd⟩:=Rn I.hok e
    have hz:vs.length <= sizeLine:=by rw[<- rel.length];exact z
    have hl:(CZ kvs k v).length <= sizeLine:=by have:=FA kvs k v;omega
    refine wpAny_setItem_pairs (hsz:=hz) (K5 ry) dd λ h' dd' hs=>h _ ?_
    have he:∃ q,h'.get? a=some q:=let ⟨q,_,_,hq,_⟩:=dd';⟨q,hq⟩
    exact JG I (by rw[e];exact True.intro) hs he (Oy hl hd (rel.put k rv) dd')
  . subst ey eH
    cases(show u=Value.ref b from ry)
    obtain⟨z,hd,xs,rel,dd⟩:=WH I.hok e
    have hz:xs.length <= sizeLine:=by rw[<- Paired.length rel];exact z
    have hl:(CZ kvs k v).length <= sizeLine:=by have:=FA kvs k v;omega
    refine wpAny_setItem_heap (hsz:=hz) (tupleKind_room_in1 hu) (Kv I.hok eb) dd λ h' dd' hs=>h _ ?_
    obtain⟨q,es,ep,hq,h2,h3,h4,_,h5⟩:=dd'
    refine JG I (by rw[e];exact True.intro) hs ⟨q,hq⟩ ⟨hl,hd,_,(rel.put k eb rv).keeps λ c ys ec=>?_,q,es,ep,hq,h2,h3,h4,h5⟩
    rw[AD (W1 ec e (λ z=>nomatch z))]
    exact ec
end
section
variable{X:Cx}{pins:List (Addr × Obj)}{σ:St}{H:Hp}{s:Shared}{a:Addr}{kvs:List (Key × V)}{k:Key}{u:Value}{A:Around}{E:Value->Shared->Prop}
end
noncomputable def RV(i:Expr):Prop:=∀ ov iv,subscripted i false ov iv=operate [ov,iv] (getItem ov iv)
theorem S7{prog:Program}{w:World}{A:Around}{E:Value->Shared->Prop}{s:Shared}{env:Env}{value slice:Expr}{pos:Pos}{T id:String}{Q:Value->Shared->Prop}
    (hl:typeLookup (.type T) "__getitem__"=pure (some (.builtin id))) (hs:RV slice)
    (h:wpAny (model prog w) A (eval value env) (λ o s₁=>wpAny (model prog w) A (eval slice env) (λ i s₂=>s₂.TypeIs o T/\wpAny (model prog w) A (getItem o i) Q E s₂) E s₁) E s) :
    wpAny (model prog w) A (eval (.Subscript value slice pos) env) Q E s:=by
  refine Subscript_ (wpAny_mono h (λ o s₁ h₁=>wpAny_mono h₁ (λ i s₂ h₂=>?_) λ _ _ x=>x) λ _ _ x=>x)
  obtain⟨hT,h₂⟩:=h₂
  unfold subscriptTail
  refine wpAny_bind ?_
  rw[getitemInPython_of_ne hT.not_modules]
  refine wpAny_bind (wpAny_specialOf hT hl ?_)
  have fin:wpAny (model prog w) A (subscripted slice false o i) (λ r s₃=>wpAny (model prog w) A (letTemporaryGo value o r >>= λ _=>pure r) Q E s₃) E s₂:=by
    rw[hs o i]
    exact wpAny_operating (wpAny_mono h₂ (λ r s₃ h₃=>wpAny_bind (wpAny_letTemporaryGo (wpAny_pure h₃))) λ _ _ x=>x)
  first
    | exact wpAny_pure (wpAny_bind fin)
    | exact wpAny_bind (wpAny_pure (wpAny_bind fin))
    | exact wpAny_bind fin
theorem Li{X:Cx}{pins:List (Addr × Obj)}{σ:St}{H:Hp}{s:Shared}{a:Addr}{y:V}{o:Option V}(I:Inv X pins σ H s)(g:DGet H a y o):s.TypeIs (.ref a) "dict":=by
  rcases g with⟨kvs,k,e,_,_⟩|⟨kvs,k,b,e,_,_,_⟩
  . obtain⟨_,_,vs,_,dd⟩:=Nj I.hok e
    exact dd.typeIs
  . obtain⟨_,_,xs,_,dd⟩:=Ni I.hok e
    exact dd.typeIs
noncomputable def Mv(td ty:TE):TE:=λ σ H Q=>td σ H λ x H1=>ty σ H1 λ y H2=>∃ a v,x=.ref a/\DGet H2 a y (some v)/\Q v H2
noncomputable def N1(td ty tv:TE):TS:=λ D σ H=>tv σ H λ v H1=>td σ H1 λ x H2=>ty σ H2 λ y H3=>∃ a H4,x=.ref a/\DPut H3 a y v H4/\D.nx σ H4
section
variable{X:Cx}{o i e value:Expr}{pos pos' tpos:Pos}{td ty tv:TE}
theorem T8(hu:X.A.units + 1 < cLine)(ho:PE X o td)(hi:PE X i ty)(hs:RV i):PE X (.Subscript o i pos) (Mv td ty):=by
  intro pins s σ H Q I h
  refine S7 PySem.F.slot_dict_getitem.lookup hs (thn (ho pins s σ H _ I h) λ u s1 ⟨x,H1,I1,rx,q1⟩=>thn (hi pins s1 σ H1 _ I1 q1) λ iv s2 ⟨y,H2,I2,ry,a,v,ex,g,q2⟩=>?_)
  subst ex
  obtain rfl:u=Value.ref a:=rx
  exact⟨Li I2 g,P1 hu I2 g ry λ w' s3 I3 rw'=>⟨v,H2,I3,rw',q2⟩⟩
theorem Sv(hu:X.A.units + 1 < cLine)(ho:PE X o td)(hi:PE X i ty)(hv:PE X value tv)(hs:swapsWith value (some (.Subscript o i pos')) pos.line X.env=pure false) :
    PS X (.Assign [.Subscript o i pos'] value pos) (N1 td ty tv):=by
  intro pins s σ H D I h
  refine wpAny_Assign_Subscript (thn (hv pins s σ H _ I h) λ r s1 ⟨v,H1,I1,rv,q1⟩=>thn (ho pins s1 σ H1 _ I1 q1) λ u s2 ⟨x,H2,I2,rx,q2⟩=>thn (hi pins s2 σ H2 _ I2 q2) λ iv s3 ⟨y,H3,I3,ry,a,H4,ex,g,q3⟩=>?_) hs
  subst ex
  obtain rfl:u=Value.ref a:=rx
  exact P0 hu I3 g ry rv λ s4 I4=>⟨σ,H4,I4,q3⟩
end
theorem LK{P:Program}{w:World}{H:Hp}(h:Heap)(hb:sysModules < h.objs.size):ObjOk P w H (h.push { cls:=.type "dict",data:=.dict #[] }) h.objs.size (.dK []):=
  ⟨Nat.zero_le _,beq_eq_false_iff_ne.mpr (Ne.symm (Nat.ne_of_lt hb)),[],.nil,Heap.DictOf.new h⟩
noncomputable def KM:TE:=λ _ H Q=>∀ p,H p=none->Q (.ref p) (upd H p (.dK []))
section
variable{X:Cx}{pos:Pos}
theorem Qd:PE X (.Dict [] [] pos) KM:=λ pins s σ H Q I h=>
  wpAny_Dict_empty ⟨.ref s.heap.objs.size,_,I.laid (a:=s.heap.objs.size) (o:=.dK []) (t':=s.toks) (λ _ _ q=>Heap.get?_push_of_some _ q) (Nat.le_refl _) (LK s.heap I.big),rfl,h _ (I.hok.fresh (Nat.le_refl _))⟩
end
noncomputable def GD:List (TE × TE)->St->Hp->(List (V × V)->Hp->Prop)->Prop
  | [],_,H,Q=>Q [] H
  | (tk,tv) :: r,σ,H,Q=>tk σ H λ x H1=>tv σ H1 λ y H2=>GD r σ H2 λ ps H3=>Q ((x,y) :: ps) H3
noncomputable abbrev VV:List (V × V)->List (Value × Value)->Prop:=Paired λ p q=>RelV p.1 q.1/\RelV p.2 q.2
noncomputable def PPs(X:Cx)(pos:Pos)(keys:List (Option Expr))(values:List Expr)(trs:List (TE × TE)):Prop:=
  ∀ (pins:List (Addr × Obj)) (s:Shared) (σ:St) (H:Hp) (Q:List (V × V)->Hp->Prop),Inv X pins σ H s->GD trs σ H Q ->
    wpAny (model X.prog X.w) X.A (evalPairs (pairTrees keys values X.env pos)) (λ vs s'=>∃ ps H',Inv X pins σ H' s'/\VV ps vs/\Q ps H') X.xe s
theorem Sw{X:Cx}{pos:Pos}:PPs X pos [] [] []:=λ pins s σ H Q I h=>pairTrees_nil_walk ⟨[],H,I,.nil,h⟩
theorem QU{X:Cx}{pos:Pos}{k v:Expr}{ks:List (Option Expr)}{vs:List Expr}{tk tv:TE}{trs:List (TE × TE)}(hk:PE X k tk)(hv:PE X v tv)(hr:PPs X pos ks vs trs) :
    PPs X pos (some k :: ks) (v :: vs) ((tk,tv) :: trs):=λ pins s σ H Q I h=>
  pairTrees_cons_walk (thn (hk pins s σ H _ I h) λ u s1 ⟨x,H1,I1,rx,q1⟩=>thn (hv pins s1 σ H1 _ I1 q1) λ w2 s2 ⟨y,H2,I2,ry,q2⟩=>
    thn (hr pins s2 σ H2 _ I2 q2) λ ws s3 ⟨ps,H3,I3,rel,q3⟩=>⟨(x,y) :: ps,H3,I3,.cons ⟨rx,ry⟩ rel,q3⟩)
noncomputable def EL(kvs more:List (Key × V)):List (Key × V):=more.foldl (λ acc kv=>CZ acc kv.1 kv.2) kvs
theorem KV.merge:∀ {more:List (Key × V)} {rs:List (Key × Value)} {kvs:List (Key × V)} {vs:List (Key × Value)},KV more rs->KV kvs vs->KV (EL kvs more) (merged vs rs):=by
  intro more rs kvs vs r
  unfold KV at r
  induction r generalizing kvs vs with
  | nil=>intro q;exact q
  | @cons p q ps qs h t ih=>
    intro r0
    have e:KV (CZ kvs p.1 p.2) (stored vs q.1 q.2):=by
      have:=r0.put p.1 h.2
      rw[<- h.1];exact this
    exact ih e
theorem G7:∀ (more kvs:List (Key × V)),(EL kvs more).length <= kvs.length + more.length
  | [],kvs=>by show kvs.length <= kvs.length + 0;omega
  | p :: r,kvs=>by
    have h1:=G7 r (CZ kvs p.1 p.2)
    have h2:=FA kvs p.1 p.2
    show(EL (CZ kvs p.1 p.2) r).length <= _
    rw[List.length_cons];omega
theorem Ih{P:Program}{w:World}:∀ {kvs:List (Key × V)} {ws:List (Value × Value)},VV (kvs.map λ kv=>(kV kv.1,kv.2)) ws->∃ rs,Carries (BZ P w) ws rs/\KV kvs rs
  | [],_,r=>by rw[List.map_nil]at r;cases r;exact⟨[],True.intro,.nil⟩
  | p :: kvs,_,r=>by
    rw[List.map_cons]at r
    cases r with
    | @cons a b as bs h t=>
      obtain⟨rs,c,q⟩:=Ih (P:=P) (w:=w) t
      obtain⟨b1,b2⟩:=b
      exact⟨(p.1,b2) :: rs,⟨K5 h.1,rfl,c⟩,.cons ⟨rfl,h.2⟩ q⟩
noncomputable def Mu(trs:List (TE × TE)):TE:=λ σ H Q=>∀ p,H p=none->GD trs σ (upd H p (.dK [])) λ ps H2=>H2 p=some (.dK [])/\∃ kvs:List (Key × V),ps=kvs.map (λ kv=>(kV kv.1,kv.2))/\kvs.length <= 15/\Q (.ref p) (upd H2 p (.dK (EL [] kvs)))
theorem T7{X:Cx}{pos:Pos}{keys:List (Option Expr)}{values:List Expr}{trs:List (TE × TE)}(h:PPs X pos keys values trs)(hall:keys.all (·.isSome)=true)(hl:keys.length=values.length)(h0:keys ≠ [])
    (h15:keys.length <= 15):PE X (.Dict keys values pos) (Mu trs):=by
  intro pins s σ H Q I q
  have hn:=I.hok.fresh (Nat.le_refl s.heap.objs.size)
  have I1:=I.laid (a:=s.heap.objs.size) (o:=.dK []) (h':=s.heap.push { cls:=.type "dict",data:=.dict #[] }) (t':=s.toks) (λ _ _ q=>Heap.get?_push_of_some _ q) (Nat.le_refl _) (LK s.heap I.big)
  refine wpAny_Dict_walk (knd:=BZ X.prog X.w) hall hl h0 h15 (thn (h pins _ σ _ _ I1 (q _ hn)) λ ws s2 ⟨ps,H2,I2,rel,e,kvs,ep,lk,q2⟩=>?_)
  subst ep
  obtain⟨rs,c,rk⟩:=Ih (P:=X.prog) (w:=X.w) rel
  obtain⟨z,hd,vs0,r0,dd⟩:=Rn I2.hok e
  cases r0
  refine⟨rs,c,dd,λ h' dd' hs=>⟨.ref s.heap.objs.size,_,?_,rfl,q2⟩⟩
  have hz:(EL [] kvs).length <= sizeLine:=by
    have h1:=G7 kvs []
    rw[List.length_nil]at h1
    rw[sizeLine_eq];omega
  have he:∃ q,h'.get? s.heap.objs.size=some q:=let ⟨q,_,_,hq,_⟩:=dd';⟨q,hq⟩
  exact JG I2 (by rw[e];exact True.intro) hs he (Oy hz hd (rk.merge .nil) dd')
section
variable{X:Cx}{pins:List (Addr × Obj)}{σ:St}{H:Hp}{s:Shared}{a:Addr}{y d:V}{u r:Value}{o:Option V}{A:Around}{E:Value->Shared->Prop}
end
section
variable{X:Cx}{o e f:Expr}{apos cpos:Pos}{td ty tx:TE}
end
section
variable{X:Cx}{pins:List (Addr × Obj)}{σ:St}{H:Hp}{s:Shared}{a:Addr}{kvs:List (Key × V)}{A:Around}{E:Value->Shared->Prop}
end
section
variable{X:Cx}{pins:List (Addr × Obj)}{σ:St}{H:Hp}{s:Shared}{a:Addr}{y:V}{u:Value}{A:Around}{E:Value->Shared->Prop}
end
end L2
namespace L2
open PySem PySem.Spec PyProof.Rows
section
variable{X:Cx}
end
section
variable{κ:Type}[DecidableEq κ]
end
end L2
namespace L2
open PySem PySem.Spec PyProof.Rows
noncomputable def As(cells:List (Str × Addr)):List (Str × NameKind)->List (Str × Addr)->List (Str × Addr)
  | [],acc=>acc
  | (n,k) :: r,acc=>if k == .free then As cells r ((n,(cells.lookup n).getD 0) :: acc)else As cells r acc
theorem FT{env:Env}(f:Str × NameKind->List (Str × Addr)->Sem (ForInStep (List (Str × Addr))))
    (hf:∀ name kind cs,f (name,kind) cs=if(kind == NameKind.free)=true then(do let a <- cellOf env name;pure (ForInStep.yield ((name,a) :: cs)))else pure (ForInStep.yield cs)) :
    ∀ (names:List (Str × NameKind)) (acc:List (Str × Addr)),(∀ y ∈ names,y.2=.free->∃ c,env.cells.lookup y.1=some c)->forIn names acc f=pure (As env.cells names acc)
  | [],acc,_=>rfl
  | (n,k) :: r,acc,hy=>by
    rw[List.forIn_cons,hf]
    have ih:=λ a=>FT f hf r a λ z hz=>hy z (List.mem_cons_of_mem _ hz)
    by_cases hk:(k == NameKind.free)=true
    . obtain⟨c,hc⟩:=hy (n,k) List.mem_cons_self (by simpa using hk)
      have hc:env.cells.lookup n=some c:=hc
      have e1:cellOf env n=pure c:=by unfold cellOf;rw[hc]
      rw[if_pos hk,e1]
      show forIn r ((n,c) :: acc) f=_
      have e2:As env.cells ((n,k) :: r) acc=As env.cells r ((n,c) :: acc):=by
        rw[As,if_pos hk,hc]
        rfl
      rw[ih,e2]
    . rw[if_neg hk]
      show forIn r acc f=_
      have e2:As env.cells ((n,k) :: r) acc=As env.cells r acc:=by
        rw[As,if_neg hk]
      rw[ih,e2]
theorem EQ{scope:Scope}{env:Env}(h:∀ y ∈ scope.names,y.2=.free->∃ c,env.cells.lookup y.1=some c):closureFor scope env=pure (As env.cells scope.names []):=by
  unfold closureFor
  dsimp only
  rw[FT _ (λ name kind cs=>rfl) scope.names [] h]
  rfl
theorem Dx{cells:List (Str × Addr)}:∀ {names:List (Str × NameKind)} {acc:List (Str × Addr)},(∀ y ∈ names,y.2=.free->∃ c,cells.lookup y.1=some c)->(∀ x c,acc.lookup x=some c->cells.lookup x=some c) ->
    ∀ x c,(As cells names acc).lookup x=some c->cells.lookup x=some c
  | [],_,_,ha,x,c,e=>ha x c e
  | (n,k) :: r,acc,hy,ha,x,c,e=>by
    unfold As at e
    have hr:∀ y ∈ r,y.2=.free->∃ c,cells.lookup y.1=some c:=λ z hz=>hy z (List.mem_cons_of_mem _ hz)
    by_cases hk:(k == NameKind.free)=true
    . rw[if_pos hk]at e
      refine Dx hr (λ z d q=>?_) x c e
      obtain⟨c0,hc0⟩:=hy (n,k) List.mem_cons_self (by simpa using hk)
      have hc0:cells.lookup n=some c0:=hc0
      rw[List.lookup_cons]at q
      by_cases hz:(z == n)=true
      . rw[hz,hc0]at q
        have:z=n:=by simpa using hz
        subst this
        simpa [hc0]using q
      . have hz':(z == n)=false:=by simpa using hz
        rw[hz']at q
        exact ha z d q
    . rw[if_neg hk]at e
      exact Dx hr ha x c e
theorem DH{cells:List (Str × Addr)}:∀ {names:List (Str × NameKind)} {acc:List (Str × Addr)} {x:Str},((acc.lookup x).isSome=true ∨ (x,NameKind.free) ∈ names)->((As cells names acc).lookup x).isSome=true
  | [],_,_,h=>h.elim id λ z=>by cases z
  | (n,k) :: r,acc,x,h=>by
    unfold As
    by_cases hk:(k == NameKind.free)=true
    . rw[if_pos hk]
      refine DH ?_
      by_cases hx:(x == n)=true
      . exact .inl (by rw[List.lookup_cons,hx];rfl)
      . have hx':(x == n)=false:=by simpa using hx
        rcases h with h|h
        . exact .inl (by rw[List.lookup_cons,hx'];exact h)
        . rcases List.mem_cons.mp h with h|h
          . cases h;simp at hx
          . exact .inr h
    . rw[if_neg hk]
      refine DH ?_
      rcases h with h|h
      . exact .inl h
      . rcases List.mem_cons.mp h with h|h
        . cases h;simp at hk
        . exact .inr h
noncomputable def Cj:Nat->List (Str × NameKind)->List (Str × Addr)
  | _,[]=>[]
  | n,(x,k) :: r=>if k == .cell then Cj (n + 1) r ++ [(x,n)]else Cj n r
theorem C8:∀ (names:List (Str × NameKind)) (n:Nat) (acc:List (Str × Addr)),cellsFrom n names acc=Cj n names ++ acc
  | [],_,_=>rfl
  | (x,k) :: r,n,acc=>by
    unfold cellsFrom Cj
    by_cases hk:(k == NameKind.cell)=true
    . rw[if_pos hk,if_pos hk,C8 r (n + 1),List.append_assoc];rfl
    . rw[if_neg hk,if_neg hk,C8 r n]
theorem Hb:∀ (names:List (Str × NameKind)) (n:Nat) (x:Str) (c:Addr),(Cj n names).lookup x=some c->(x,NameKind.cell) ∈ names
  | [],_,_,_,e=>by cases e
  | (y,k) :: r,n,x,c,e=>by
    unfold Cj at e
    by_cases hk:(k == NameKind.cell)=true
    . rw[if_pos hk]at e
      have hk':k=.cell:=by simpa using hk
      rw[List.lookup_append]at e
      cases q:(Cj (n + 1) r).lookup x with
      | some d=>exact List.mem_cons_of_mem _ (Hb r _ x d q)
      | none=>
        rw[q]at e
        simp only[Option.none_or,List.lookup_cons]at e
        by_cases hx:(x == y)=true
        . have:x=y:=by simpa using hx
          subst this;subst hk'
          exact List.mem_cons_self
        . have hx':(x == y)=false:=by simpa using hx
          rw[hx']at e;cases e
    . rw[if_neg hk]at e
      exact List.mem_cons_of_mem _ (Hb r n x c e)
theorem Hc:∀ (names:List (Str × NameKind)) (n:Nat) (x:Str),(x,NameKind.cell) ∈ names->∃ c,(Cj n names).lookup x=some c
  | [],_,_,h=>by cases h
  | (y,k) :: r,n,x,h=>by
    unfold Cj
    by_cases hk:(k == NameKind.cell)=true
    . rw[if_pos hk,List.lookup_append]
      rcases List.mem_cons.mp h with h|h
      . obtain⟨rfl,rfl⟩:=Prod.mk.inj h
        cases q:(Cj (n + 1) r).lookup x with
        | some d=>exact⟨d,rfl⟩
        | none=>exact⟨n,by simp[List.lookup_cons]⟩
      . obtain⟨c,hc⟩:=Hc r (n + 1) x h
        exact⟨c,by rw[hc];rfl⟩
    . rw[if_neg hk]
      rcases List.mem_cons.mp h with h|h
      . cases h;simp at hk
      . exact Hc r n x h
noncomputable def RO(scope:Scope)(C:Addr)(env:Env):Env:=
  { scope:=relabel scope env,locals:=C,globals:=env.globals,cells:=cellsFrom (C + 1) scope.names (As env.cells scope.names []),qual:=env.qual,func:=none,code:=env.code,frame:=env.frame,builtins:=env.builtins }
theorem MF{M:Model}{A:Around}{E:Value->Shared->Prop}{s:Shared}{scope:Scope}{cl:List (Str × Addr)}{env:Env}{Q:Env->Shared->Prop}
    (hQ:∀ h',(∀ b o,s.heap.get? b=some o->h'.get? b=some o)->h'.Ns s.heap.objs.size (λ _=>none)->(∀ x c,(Cj (s.heap.objs.size + 1) scope.names).lookup x=some c->h'.IsCell c none/\s.heap.objs.size < c) ->
      ((Cj (s.heap.objs.size + 1) scope.names).Pairwise λ x y=>x.2 ≠ y.2) ->
      Q { scope:=scope,locals:=s.heap.objs.size,globals:=env.globals,cells:=cellsFrom (s.heap.objs.size + 1) scope.names cl,qual:=env.qual,func:=none,code:=env.code,frame:=env.frame,builtins:=env.builtins } { s with heap:=h' }) :
    wpAny M A (newFunctionEnv scope env.globals cl [] env.qual none .none (some env)) Q E s:=by
  simp only[newFunctionEnv,Option.isSome_some,if_true]
  refine wpAny_bind (wpAny_alloc ?_)
  refine wpAny_bind (wpAny_layCells _ (λ name kind cells=>by cases hkc:kind == NameKind.cell <;> simp[hkc]) _ _ _ _ ?_)
  have ok:=cellsFrom_ok scope.names (s.heap.push { cls:=.type "dict",data:=.dict #[] }) (s.heap.objs.size + 1) [] ⟨λ _ _ hm=>(nomatch hm),List.Pairwise.nil⟩ (by rw[Heap.size_push];exact Nat.le_refl _)
  rw[Heap.size_push,C8,List.append_nil]at ok
  rw[show({ s with heap:=s.heap.push { cls:=.type "dict",data:=.dict #[] } }:Shared).heap.objs.size=s.heap.objs.size + 1 from Heap.size_push ..]
  refine wpAny_bind (wpAny_pure (wpAny_pure ?_))
  exact hQ _ (λ b o e=>pushCells_keeps _ _ b o (Heap.get?_push_of_some _ e)) ((Heap.Ns.new s.heap (.type "dict")).keeps (pushCells_keeps _ _)) (λ x c hc=>⟨(ok.empty x c (mem_of_lookup hc)).1,(ok.empty x c (mem_of_lookup hc)).2⟩) ok.apart
end L2
namespace L2
open PySem PySem.Spec PyProof.Rows
theorem JT:∀ {names:List (Str × NameKind)} {x:Str} {k k':NameKind},(names.map (·.1)).Nodup->(x,k) ∈ names->(x,k') ∈ names->k=k'
  | [],_,_,_,_,h,_=>by cases h
  | (y,q) :: r,x,k,k',nd,h,h'=>by
    have nd:(y :: r.map (·.1)).Nodup:=nd
    obtain⟨n1,n2⟩:=List.nodup_cons.mp nd
    have out:∀ {z:NameKind},(y,z) ∈ r->False:=λ m=>n1 (List.mem_map.mpr ⟨_,m,rfl⟩)
    rcases List.mem_cons.mp h with e|e <;> rcases List.mem_cons.mp h' with e'|e'
    . cases e;cases e';rfl
    . cases e;exact(out e').elim
    . cases e';exact(out e).elim
    . exact JT n2 e e'
theorem G5{env:Env}{x:Str}:∀ {names:List (Str × NameKind)},names.lookup x=some .free ->
    (names.map λ(n,k)=>if(k == NameKind.free && env.scope.kind == .function && env.kindOf n == some .cell)then(n,NameKind.cell)else(n,k)).lookup x=some .cell ∨
    (names.map λ(n,k)=>if(k == NameKind.free && env.scope.kind == .function && env.kindOf n == some .cell)then(n,NameKind.cell)else(n,k)).lookup x=some .free
  | [],h=>by simp at h
  | (n,k) :: r,h=>by
    have ih:=@G5 env x r
    show List.lookup x ((if(k == NameKind.free && env.scope.kind == .function && env.kindOf n == some .cell)=true then(n,NameKind.cell)else(n,k)) :: _)=_ ∨ List.lookup x ((if(k == NameKind.free && env.scope.kind == .function && env.kindOf n == some .cell)=true then(n,NameKind.cell)else(n,k)) :: _)=_
    cases hx:x == n with
    | true=>
      simp only[List.lookup_cons,hx]at h
      cases h
      by_cases hc:(NameKind.free == NameKind.free && env.scope.kind == .function && env.kindOf n == some .cell)=true
      . rw[if_pos hc];exact .inl (by simp only[List.lookup_cons,hx])
      . rw[if_neg hc];exact .inr (by simp only[List.lookup_cons,hx])
    | false=>
      simp only[List.lookup_cons,hx]at h
      by_cases hc:(k == NameKind.free && env.scope.kind == .function && env.kindOf n == some .cell)=true
      . rw[if_pos hc];simp only[List.lookup_cons,hx];exact ih h
      . rw[if_neg hc];simp only[List.lookup_cons,hx];exact ih h
theorem GH{env:Env}{x:Str}:∀ {names:List (Str × NameKind)},
    ((names.map λ(n,k)=>if(k == NameKind.free && env.scope.kind == .function && env.kindOf n == some .cell)then(n,NameKind.cell)else(n,k)).lookup x=some .cell ∨
    (names.map λ(n,k)=>if(k == NameKind.free && env.scope.kind == .function && env.kindOf n == some .cell)then(n,NameKind.cell)else(n,k)).lookup x=some .free) ->
    names.lookup x=some .cell ∨ names.lookup x=some .free
  | [],h=>by simp at h
  | (n,k) :: r,h=>by
    have ih:=@GH env x r
    have h:List.lookup x ((if(k == NameKind.free && env.scope.kind == .function && env.kindOf n == some .cell)=true then(n,NameKind.cell)else(n,k)) :: _)=_ ∨ List.lookup x ((if(k == NameKind.free && env.scope.kind == .function && env.kindOf n == some .cell)=true then(n,NameKind.cell)else(n,k)) :: _)=_:=h
    cases hx:x == n with
    | true=>
      by_cases hc:(k == NameKind.free && env.scope.kind == .function && env.kindOf n == some .cell)=true
      . have hk:k=.free:=by
          have:=(Bool.and_eq_true _ _ ▸ (Bool.and_eq_true _ _ ▸ hc).1:(k == NameKind.free)=true/\_).1
          simpa using this
        exact .inr (by simp only[List.lookup_cons,hx,hk])
      . rw[if_neg hc]at h
        simp only[List.lookup_cons,hx]at h ⊢
        exact h
    | false=>
      simp only[List.lookup_cons,hx]
      refine ih ?_
      by_cases hc:(k == NameKind.free && env.scope.kind == .function && env.kindOf n == some .cell)=true
      . rw[if_pos hc]at h;simp only[List.lookup_cons,hx]at h;exact h
      . rw[if_neg hc]at h;simp only[List.lookup_cons,hx]at h;exact h
noncomputable def cCx(X:Cx)(N':List Str)(scope:Scope)(s:Shared)(H:Hp)(ex:List Addr):Cx:=
  { X with N:=N',s₀:=s,H₀:=H,env:=RO scope s.heap.objs.size X.env,outer:=X.stack,ex:=ex,fn:=λ x=>decide ((x,NameKind.cell) ∈ scope.names),pn:=[],xe:=λ _ _=>False }
structure CSc(X:Cx)(scope:Scope)(fr:List Str)(ix:List Nat):Prop where
  kind:scope.kind=.function
  nd:(scope.names.map (·.1)).Nodup
  free:(scope.names.all λ y=>y.2 != .free || X.env.kindOf y.1 == some .cell || X.env.kindOf y.1 == some .free)=true
  frs:(fr.all λ x=>scope.names.lookup x == some .free)=true
  ixs:fr.map some=ix.map λ i=>X.N[i]?
  loc:(scope.names.all λ y=>y.2 != .local || scope.names.lookup y.1 == some .local)=true
noncomputable def Gf(n:Nat)(ix:List Nat)(σ:St):St:=List.replicate n none ++ ix.map λ i=>(σ[i]?).join
section
variable{X:Cx}{scope:Scope}{fr loc:List Str}{ix:List Nat}{pins:List (Addr × Obj)}{σ:St}{H:Hp}{s:Shared}
theorem CSc.outer(S:CSc X scope fr ix){y:Str × NameKind}(hy:y ∈ scope.names)(e:y.2=.free):X.env.kindOf y.1=some .cell ∨ X.env.kindOf y.1=some .free:=by
  have h:=List.all_eq_true.mp S.free y hy
  rw[e]at h
  simpa using h
theorem CSc.clos(S:CSc X scope fr ix)(ok:X.Ok):∀ y ∈ scope.names,y.2=.free->∃ c,X.env.cells.lookup y.1=some c:=λ y hy e=>ok.has y.1 (S.outer hy e)
theorem DP(S:CSc X scope fr ix)(ok:X.Ok){n:Nat}{x:Str}{c:Addr}(e:(cellsFrom n scope.names (As X.env.cells scope.names [])).lookup x=some c) :
    (Cj n scope.names).lookup x=some c ∨ X.env.cells.lookup x=some c:=by
  rw[C8,List.lookup_append]at e
  cases q:(Cj n scope.names).lookup x with
  | some d=>rw[q]at e;exact .inl e
  | none=>
    rw[q]at e
    exact .inr (Dx (S.clos ok) (λ _ _ z=>by simp at z) x c e)
theorem Kz(S:CSc X scope fr ix)(I:Inv X pins σ H s){ex:List Addr}(hex:∀ b ∈ ex,FpOk X pins H b){h':Heap}(hk:∀ b o,s.heap.get? b=some o->h'.get? b=some o)(hn:h'.Ns s.heap.objs.size λ _=>none)
    (ho:∀ x c,(Cj (s.heap.objs.size + 1) scope.names).lookup x=some c->h'.IsCell c none/\s.heap.objs.size < c) (ha:(Cj (s.heap.objs.size + 1) scope.names).Pairwise λ x y=>x.2 ≠ y.2) (hlt:∀ b ∈ ex,b < s.heap.objs.size) :
    Inv (cCx X (loc ++ fr) scope s H ex) [] (Gf loc.length ix σ) H { s with heap:=h' }:=by
  have old:∀ x c,X.env.cells.lookup x=some c->c < s.heap.objs.size:=λ x c e=>let ⟨v,z⟩:=I.cell x c e;z.lt
  have lenix:fr.length=ix.length:=by simpa using congrArg List.length S.ixs
  refine⟨⟨I.ok.mod,?_,I.ok.glob,I.ok.blt,Nat.le_refl _,?_,?_,?_,I.ok.hd,I.ok.frames,.inl rfl,?_,I.bs,Nat.le_trans I.ok.bsz I.sz,?_,?_,I.stack,I.stkFree⟩,rfl,I.bare,Un.kept hk,⟨_,hn,?_⟩,?_,I.hok.fresh (Nat.le_refl _),?_,?_,I.hok.kept hk,?_⟩
  . exact S.kind
  . intro x y c e1 e2
    rcases DP S I.ok e1 with a|a <;> rcases DP S I.ok e2 with b|b
    . exact name_of_addr ha (PySem.mem_of_lookup a) (PySem.mem_of_lookup b)
    . exact absurd (Nat.lt_trans (ho x c a).2 (old y c b)) (Nat.lt_irrefl _)
    . exact absurd (Nat.lt_trans (ho y c b).2 (old x c a)) (Nat.lt_irrefl _)
    . exact I.ok.inj x y c a b
  . intro x hx
    rcases GH hx with e|e
    . exact Option.isSome_iff_exists.mp (PySem.W.cellsFrom_some _ _ _ (.inl e))
    . exact Option.isSome_iff_exists.mp (PySem.W.cellsFrom_some _ _ _ (.inr (DH (.inr (PySem.mem_of_lookup e)))))
  . intro x c hf e
    have hf:(x,NameKind.cell) ∈ scope.names:=of_decide_eq_true hf
    obtain⟨d,hd⟩:=Hc scope.names (s.heap.objs.size + 1) x hf
    have e':(cellsFrom (s.heap.objs.size + 1) scope.names (As X.env.cells scope.names [])).lookup x=some c:=e
    rw[C8,List.lookup_append,hd]at e'
    cases e'
    exact Nat.le_of_lt (ho x _ hd).2
  . intro b hb
    refine⟨Nat.ne_of_lt (hlt b hb),λ x c e z=>?_⟩
    rcases DP S I.ok e with a|a
    . exact absurd (Nat.lt_trans (ho x c a).2 (by rw[z];exact hlt b hb)) (Nat.lt_irrefl _)
    . exact(hex b hb).2.2.2.2.1 x c a z
  . intro b o e hb
    rcases(hex b hb).2.2.2.1 with z|z
    . exact I.ok.noex b o e z
    . exact absurd (Nat.lt_of_lt_of_le (Heap.lt_size (I.ok.bs b o e).1) z) (Nat.lt_irrefl _)
  . intro b hb hf
    rcases List.mem_cons.mp (I.stkSub b hf)with z|z
    . exact(hex b hb).2.1 z
    . exact(hex b hb).2.2.1 z
  . intro i x v e1 e2 e3
    have e1:(loc ++ fr)[i]? = some x:=e1
    unfold Gf at e2
    by_cases hi:i < loc.length
    . rw[List.getElem?_append_left (by simpa using hi),List.getElem?_replicate]at e2
      split at e2 <;> cases e2
    . have hi':loc.length <= i:=Nat.not_lt.mp hi
      rw[List.getElem?_append_right (by simpa using hi')]at e2
      rw[List.getElem?_append_right hi']at e1
      rw[List.length_replicate,List.getElem?_map]at e2
      generalize hj:i - loc.length=j at e1 e2
      have e4:(fr.map some)[j]? = some (some x):=by rw[List.getElem?_map,e1];rfl
      rw[S.ixs,List.getElem?_map]at e4
      cases q:ix[j]? with
      | none=>rw[q]at e2;cases e2
      | some k=>
        rw[q]at e2 e4
        have e2:(σ[k]?).join=some v:=Option.some.inj e2
        have e4:X.N[k]? = some x:=Option.some.inj e4
        have e5:σ[k]? = some (some v):=by
          cases w:σ[k]? with
          | none=>rw[w]at e2;cases e2
          | some z=>rw[w]at e2;simpa using e2
        have hfx:=List.all_eq_true.mp S.frs x (List.mem_of_getElem? e1)
        have hfx:scope.names.lookup x=some .free:=by simpa using hfx
        have hmem:=PySem.mem_of_lookup hfx
        have hout:=S.outer hmem rfl
        obtain⟨m,hm,hl⟩:=I.loc
        obtain⟨u,r,l⟩:=hl k x v e4 e5 (.inr hout)
        refine⟨u,r,.inr ⟨G5 hfx,?_⟩⟩
        rcases l with⟨kk,_⟩|⟨kk,c,ec,z⟩
        . rcases hout with w|w
          . rw[kk]at w;cases w
          . rw[kk]at w;cases w
        . have own0:(Cj (s.heap.objs.size + 1) scope.names).lookup x=none:=by
            cases w:(Cj (s.heap.objs.size + 1) scope.names).lookup x with
            | none=>rfl
            | some d=>exact absurd (JT S.nd (Hb _ _ _ _ w) hmem) (by decide)
          have hc:(As X.env.cells scope.names []).lookup x=some c:=by
            obtain⟨d,hd⟩:=Option.isSome_iff_exists.mp (DH (cells:=X.env.cells) (acc:=[]) (.inr hmem))
            have:=Dx (S.clos I.ok) (λ _ _ z=>by simp at z) x d hd
            rw[ec]at this;cases this
            exact hd
          refine⟨c,?_,z.keeps hk⟩
          show(cellsFrom (s.heap.objs.size + 1) scope.names (As X.env.cells scope.names [])).lookup x=some c
          rw[C8,List.lookup_append,own0,hc]
          rfl
  . intro x c e
    rcases DP S I.ok e with a|a
    . exact⟨_,(ho x c a).1⟩
    . obtain⟨v,z⟩:=I.cell x c a
      exact⟨v,z.keeps hk⟩
  . intro x c e
    rcases DP S I.ok e with a|a
    . exact I.hok.fresh (Nat.le_of_lt (ho x c a).2)
    . exact I.freeC x c a
  . intro p hp
    cases hp
  . unfold Gf
    show _=(loc ++ fr).length
    simp[lenix]
end
end L2
namespace L2
open PySem PySem.Spec PyProof.Rows
section
variable{prog:Program}{w:World}{A:Around}{R:Result->Shared->Prop}{s:Shared}
theorem Gb{elt target iter:Expr}{ifs:List Expr}{scope:Scope}{pos:Pos}{it acc:Value}{env:Env}(I:Nat->Shared->Prop)
    (turn:∀ n s,I n s->wpAny (model prog w) A (pyNext it) (λ r s₁=>match r with
      | none=>R (.ok .next) s₁
      | some v=>wpAny (model prog w) A (letOwnedTupleGo target it v) (λ _ s₁=>wpAny (model prog w) A (assign target env v) (λ _ s₂=>
          wpAny (model prog w) A (forIn ifs true λ c r=>if r=true then do let ok <- isTrue c env (eval c env);pure (ForInStep.yield ok)else pure (ForInStep.yield r)) (λ ok s₃=>
            if ok=true then wpAny (model prog w) A (eval elt env) (λ x s₄=>
              wpAny (model prog w) A (call (.builtin "list.append") [acc,x]) (λ _ s₅=>∃ m,m < n/\I m s₅) (λ _ _=>False) s₄) (λ _ _=>False) s₃
            else ∃ m,m < n/\I m s₃) (λ _ _=>False) s₂) (λ _ _=>False) s₁) (λ _ _=>False) s₁) (λ _ _=>False) s)
    (n:Nat) (h:I n s) :
    codeAny (model prog w) A (.compLoop (.ListComp elt [⟨target,iter,ifs,0⟩] scope pos) 0 it acc env) R s:=by
  refine codeAny_loop rfl I (λ n s hI=>?_) n h
  show wpAny _ A ((compTurn (.ListComp elt [⟨target,iter,ifs,0⟩] scope pos) 0 it acc env).onRaise (λ x=>do noteFrame x env;theTreesLotGoes x)) _ _ s
  refine wpAny_noted ?_
  rw[compTurn_list]
  refine wpAny_bind (wpAny_standAt (wpAny_bind (wpAny_mono (turn n s hI) (λ r s₁ h₁=>?_) λ _ _ h'=>h'.elim)))
  cases r with
  | none=>exact wpAny_pure h₁
  | some v=>
    refine wpAny_bind (wpAny_mono h₁ (λ _ s₁ h₁=>?_) λ _ _ h'=>h'.elim)
    refine wpAny_bind (wpAny_mono h₁ (λ _ s₂ h₂=>wpAny_bind (wpAny_mono h₂ (λ ok s₃ h₃=>?_) λ _ _ h'=>h'.elim)) λ _ _ h'=>h'.elim)
    cases ok with
    | false=>exact wpAny_pure ⟨rfl,h₃⟩
    | true=>
      exact wpAny_bind (wpAny_bind (wpAny_mono h₃ (λ x s₄ h₄=>wpAny_bind (wpAny_mono h₄ (λ _ s₅ h₅=>wpAny_pure (wpAny_pure ⟨rfl,h₅⟩)) λ _ _ h'=>h'.elim)) λ _ _ h'=>h'.elim))
end
noncomputable def PF(X:Cx)(ifs:List Expr)(t:TT):Prop:=
  ∀ (pins:List (Addr × Obj)) (s:Shared) (σ:St) (H:Hp) (Q:Bool->Hp->Prop),Inv X pins σ H s->t σ H Q ->
    wpAny (model X.prog X.w) X.A (forIn ifs true λ c r=>if r=true then do let ok <- isTrue c X.env (eval c X.env);pure (ForInStep.yield ok)else pure (ForInStep.yield r)) (TP X pins σ Q) X.xe s
noncomputable def PZ:TT:=λ _ H Q=>Q true H
theorem Uo{X:Cx}:PF X [] PZ:=λ pins s σ H Q I h=>wpAny_tests_nil ⟨H,I,h⟩
theorem Um{X:Cx}{c:Expr}{t:TT}(h:PT X c t):PF X [c] t:=λ pins s σ H Q I q=>wpAny_tests_one (h pins s σ H Q I q)
noncomputable def Ro(J:It)(D:Addr)(σ0:St)(H0:Hp)(g:TG)(tf:TT)(te:TE)(Q:VK):Prop:=∃ W:Nat->Nat->St->List V->Hp->Prop,
  (∃ m,W 0 m σ0 [] (upd H0 D (.lst [])))/\∀ i m σ ys H,W i m σ ys H->H D=some (.lst ys) /\
    ((J.stop i H/\Q (.ref D) H) ∨ (J.go i H/\ys.length < sizeLine/\∃ N:St->List V->Hp->Prop,(∀ σ' ys' H',N σ' ys' H'->∃ m',m' < m/\W (i + 1) m' σ' ys' H') /\
      ∀ x H',J.yld i H x H'->g x σ H' λ σ2 H2=>tf σ2 H2 λ b H3=>
        if b=true then te σ2 H3 λ v H4=>H4 D=some (.lst ys)/\N σ2 (ys ++ [v]) (upd H4 D (.lst (ys ++ [v])))
        else N σ2 ys H3))
noncomputable def Hw(n:Nat)(ix:List Nat)(wi:TI)(g:TG)(tf:TT)(te:TE):TE:=λ σ H Q=>wi σ H λ J H1=>∀ D,H1 D=none->Ro J D (Gf n ix σ) H1 g tf te Q
section
variable{X:Cx}
theorem PD{pins:List (Addr × Obj)}{σ:St}{H:Hp}{s:Shared}{D:Addr}{ys:List V}{x:V}{u:Value}{Q:Value->Shared->Prop}{E:Value->Shared->Prop}(I:Inv X pins σ H s)(hD:H D=some (.lst ys))(r:RelV x u)(hz:ys.length < sizeLine)
    (h:∀ v s',Inv X pins σ (upd H D (.lst (ys ++ [x]))) s'->Q v s'):wpAny (model X.prog X.w) X.A (call (.builtin "list.append") [.ref D,u]) Q E s:=by
  have I':=I.wish λ _ _=>False
  have q:=CD (X:=X.wish λ _ _=>False) pins s σ H (.ref D) [x] (.ref D) [u] (λ v H'=>H'=upd H D (.lst (ys ++ [x]))) I' rfl (.cons r .nil) ⟨D,ys,x,rfl,rfl,hD,hz,rfl⟩
  refine wpAny_mono q (λ v s' ⟨v',H',I2,_,e⟩=>?_) λ _ _ z=>False.elim z
  subst e
  exact h v s' I2.unwish
theorem T9{elt tg iter:Expr}{ifs:List Expr}{scope:Scope}{pos:Pos}{loc fr:List Str}{ix:List Nat}{wi:TI}{g:TG}{tf:TT}{te:TE}(hc:X.calm=true)(S:CSc X scope fr ix)(hi:PI X tg iter wi)
    (hg:∀ s H ex,PG (cCx X (loc ++ fr) scope s H ex) tg g) (hf:∀ s H ex,PF (cCx X (loc ++ fr) scope s H ex) ifs tf) (he:∀ s H ex,PE (cCx X (loc ++ fr) scope s H ex) elt te)
    (hs:∀ x,foldedSetIterable iter X.env x=pure x:=by intro _;rfl):PE X (.ListComp elt [⟨tg,iter,ifs,0⟩] scope pos) (Hw loc.length ix wi g tf te):=by
  intro pins s σ H Q I h
  rw[eval_ListComp]
  have hnames:∀ y ∈ scope.names,y.2=.local->scope.names.lookup y.1=some .local:=λ y hy e=>by
    have:=List.all_eq_true.mp S.loc y hy
    rw[e]at this
    simpa using this
  refine wpAny_comprehension_free (use:=none) rfl hs (EQ (S.clos I.ok)) S.kind hnames (thn (hi pins s σ H _ I h) λ v s1 h1=>thn h1 λ itv s2 h2=>?_)
  obtain⟨it,fp,tn,J,H2,rfl,I2,T,st2,f2,hW⟩:=h2
  refine wpAny_newObj_type ?_
  have fresh2:H2 s2.heap.objs.size=none:=I2.hok.fresh (Nat.le_refl _)
  have I3:=I2.lnew (its:=[]) (ys:=[]) (t':=s2.toks) .nil (Nat.zero_le _)
  obtain⟨W,⟨m0,w0⟩,turn⟩:=hW s2.heap.objs.size fresh2
  have lt2:∀ b ∈ fp,b < s2.heap.objs.size:=λ b hb=>let ⟨o,e,_⟩:=T.obj 0 _ st2 b hb;Heap.lt_size e
  have f3:∀ b ∈ fp,FpOk X pins (upd H2 s2.heap.objs.size (.lst [])) b:=λ b hb=>⟨by rw[AD (Nat.ne_of_lt (lt2 b hb))];exact(f2 b hb).1,(f2 b hb).2⟩
  have lt3:∀ b ∈ fp,b < (s2.heap.push { cls:=.type "list",data:=.seq ([]:List Value).toArray }).objs.size:=λ b hb=>by rw[Heap.size_push];exact Nat.lt_succ_of_lt (lt2 b hb)
  generalize hs3:({ s2 with heap:=s2.heap.push { cls:=.type "list",data:=.seq ([]:List Value).toArray } }:Shared)=s3 at *
  have lt3:∀ b ∈ fp,b < s3.heap.objs.size:=by rw[<- hs3];exact lt3
  have st3:tn 0 s3.heap:=T.keep _ _ _ st2 λ b hb o e=>by rw[<- hs3];exact Heap.get?_push_of_some _ e
  refine MF λ h' hk hn ho ha=>?_
  have I4:=Kz (loc:=loc) S I3 f3 hk hn ho ha lt3
  have fpX:∀ {H':Hp},(∀ b ∈ fp,H' b=none)->∀ b ∈ fp,FpOk (cCx X (loc ++ fr) scope s3 (upd H2 s2.heap.objs.size (.lst [])) fp) [] H' b:=λ hn b hb=>
    ⟨hn b hb,(I4.ok.exf b hb).1,I4.ok.exfs b hb,.inl hb,(I4.ok.exf b hb).2,λ p hp=>by cases hp⟩
  have loop:codeAny (model X.prog X.w) X.A (.compLoop (.ListComp elt [⟨tg,iter,ifs,0⟩] scope pos) 0 (.ref it) (.ref s2.heap.objs.size) (RO scope s3.heap.objs.size X.env))
      (compPost (model X.prog X.w) X.A X.xe none (EP X pins σ Q) (.ref s2.heap.objs.size) s3.heap.objs.size) { s3 with heap:=h' }:=by
    refine Gb (λ n s'=>∃ i σ' ys H',Inv (cCx X (loc ++ fr) scope s3 (upd H2 s2.heap.objs.size (.lst [])) fp) [] σ' H' s'/\tn i s'.heap/\(∀ b ∈ fp,H' b=none)/\W i n σ' ys H') ?_ m0
      ⟨0,_,[],_,I4,T.keep _ _ _ st3 λ b hb o e=>hk b o e,λ b hb=>(f3 b hb).1,w0⟩
    rintro n s5 ⟨i,σ5,ys,H5,I5,st5,fr5,w5⟩
    obtain⟨hD,w5⟩:=turn i n σ5 ys H5 w5
    rcases w5 with⟨stop,qn⟩|⟨go,hz,N,hN,step⟩
    . refine thn (T.done (cCx X (loc ++ fr) scope s3 (upd H2 s2.heap.objs.size (.lst [])) fp) rfl rfl rfl hc i [] s5 σ5 H5 _ I5 (fpX fr5) st5 stop) λ r s6 ⟨hr,I6⟩=>?_
      subst hr
      obtain⟨m,hm,_⟩:=I6.loc
      refine⟨m,hm,λ h'' hs=>?_⟩
      have neC:∀ b o,s3.heap.get? b=some o->b ≠ s3.heap.objs.size:=λ b o e=>Nat.ne_of_lt (Heap.lt_size e)
      have un:=I6.base
      refine⟨.ref s2.heap.objs.size,H5,I3.call' (s':={ s6 with heap:=h'' }) (ch:=fp) I6.os ⟨λ b o e n hb hx=>?_,λ b o e n hb hx=>?_,un.free,λ b o e hx=>?_,un.tups,un.frzs,un.tbls⟩ ?_ I6.bare ?_,rfl,qn⟩
      . exact(hs.2 b (neC b o e)).trans (un.keep b o e n hb hx)
      . obtain⟨sl,q⟩:=un.slot b o e n hb hx
        exact⟨sl,(hs.2 b (neC b o e)).trans q⟩
      . obtain⟨o',q⟩:=un.there b o e hx
        exact⟨o',(hs.2 b (neC b o e)).trans q⟩
      . intro b ob e
        have hfree:H5 s3.heap.objs.size=none:=I6.free
        refine(I6.hok b ob e).stay (λ c w' hc q=>(hs.2 c ?_).trans q) (λ _ q=>q) λ _ _ q=>q
        intro z
        rcases hc with hc|hc
        . rw[<- hc,z,hfree]at e;cases e
        . rw[z,hfree]at hc;cases hc
      . intro b hb
        obtain⟨_,a2,_,a4,a5,a6⟩:=f3 b hb
        exact⟨a4,a2,a5,a6⟩
    . refine thn (T.item (cCx X (loc ++ fr) scope s3 (upd H2 s2.heap.objs.size (.lst [])) fp) rfl rfl rfl hc i [] s5 σ5 H5 _ I5 (fpX fr5) st5 go) λ r s6 ⟨u,hr,h6⟩=>?_
      subst hr
      refine thn h6 λ _ s7 ⟨x,H7,I7,r7,y7,st7,fr7⟩=>?_
      have I7':=I7.pinned (fpX fr7) (T.obj _ _ st7)
      have keepI:∀ {σ8:St} {H8:Hp} {s8:Shared},Inv (cCx X (loc ++ fr) scope s3 (upd H2 s2.heap.objs.size (.lst [])) fp) ([] ++ FJ fp s7.heap) σ8 H8 s8->tn (i + 1) s8.heap/\∀ b ∈ fp,H8 b=none:=λ {σ8 H8 s8} I8=>by
        refine⟨T.keep _ _ _ st7 λ b hb o e=>(I8.pin (b,o) (List.mem_append_right _ (List.mem_append_right _ (DC hb e)))).1,λ b hb=>?_⟩
        obtain⟨o,e,d⟩:=T.obj _ _ st7 b hb
        exact(I8.pin (b,o) (List.mem_append_right _ (List.mem_append_right _ (DC hb e)))).2.1
      refine thn (hg s3 (upd H2 s2.heap.objs.size (.lst [])) fp _ s7 σ5 H7 x u _ I7' r7 (step x H7 y7)) λ _ s8 ⟨σ8,H8,I8,q8⟩=>?_
      refine thn (hf s3 (upd H2 s2.heap.objs.size (.lst [])) fp _ s8 σ8 H8 _ I8 q8) λ b s9 ⟨H9,I9,q9⟩=>?_
      cases b with
      | false=>
        rw[if_neg Bool.false_ne_true]at q9 ⊢
        obtain⟨m',hm,w9⟩:=hN _ _ _ q9
        exact⟨m',hm,i + 1,σ8,ys,H9,I9.unpinned,(keepI I9).1,(keepI I9).2,w9⟩
      | true=>
        rw[if_pos rfl]at q9 ⊢
        refine thn (he s3 (upd H2 s2.heap.objs.size (.lst [])) fp _ s9 σ8 H9 _ I9 q9) λ e10 s10 ⟨v10,H10,I10,r10,hD10,n10⟩=>?_
        obtain⟨m',hm,w10⟩:=hN _ _ _ n10
        refine PD (X:=cCx X (loc ++ fr) scope s3 (upd H2 s2.heap.objs.size (.lst [])) fp) I10 hD10 r10 hz λ _ s11 I11=>?_
        exact⟨m',hm,i + 1,σ8,_,_,I11.unpinned,(keepI I11).1,(keepI I11).2,w10⟩
  exact codeAny_compStart_list loop (T.self X.A 0 _ _ _ (T.keep _ _ _ st3 λ b hb o e=>hk b o e) loop)
end
end L2
namespace L2
open PySem PySem.Spec PyProof.Rows
section
variable{X:Cx}
theorem Nm{elt tg iter:Expr}{ifs:List Expr}{scope:Scope}{pos:Pos}{loc fr:List Str}{ix:List Nat}{g:TG}{tf:TT}{te:TE}{pins:List (Addr × Obj)}{σ:St}{Q:VK}{it:Addr}{fp:List Addr}{tn:Nat->Heap->Prop}{J:It}{H2:Hp}{s2:Shared}{E:Value->Shared->Prop}
    {RR:Value->Addr->Result->Shared->Prop} (hc:X.calm=true) (S:CSc X scope fr ix)
    (hg:∀ s H ex,PG (cCx X (loc ++ fr) scope s H ex) tg g) (hf:∀ s H ex,PF (cCx X (loc ++ fr) scope s H ex) ifs tf) (he:∀ s H ex,PE (cCx X (loc ++ fr) scope s H ex) elt te)
    (I2:Inv X pins σ H2 s2) (T:Turn X.prog X.w X.K tg J fp it tn) (st2:tn 0 s2.heap) (f2:∀ b ∈ fp,FpOk X pins H2 b) (hW:∀ D,H2 D=none->Ro J D (Gf loc.length ix σ) H2 g tf te Q)
    (hfin:∀ (s3 s6:Shared) (H5:Hp) (σ5:St) (D:Addr),Inv X pins σ (upd H2 D (.lst [])) s3->Inv (cCx X (loc ++ fr) scope s3 (upd H2 D (.lst [])) fp) [] σ5 H5 s6->(∀ b ∈ fp,FpOk X pins (upd H2 D (.lst [])) b)->Q (.ref D) H5->RR (.ref D) s3.heap.objs.size (.ok .next) s6) :
    wpAny (model X.prog X.w) X.A (newList []) (λ acc s₃=>wpAny (model X.prog X.w) X.A (newFunctionEnv scope X.env.globals (As X.env.cells scope.names []) [] X.env.qual none .none (some X.env)) (λ cenv s₄=>
      codeAny (model X.prog X.w) X.A (.compStart (.ListComp elt [⟨tg,iter,ifs,0⟩] scope pos) 0 (.ref it) acc { cenv with scope:=relabel scope X.env }) (RR acc cenv.locals) s₄) E s₃) E s2:=by
  refine wpAny_newObj_type ?_
  have fresh2:H2 s2.heap.objs.size=none:=I2.hok.fresh (Nat.le_refl _)
  have I3:=I2.lnew (its:=[]) (ys:=[]) (t':=s2.toks) .nil (Nat.zero_le _)
  obtain⟨W,⟨m0,w0⟩,turn⟩:=hW s2.heap.objs.size fresh2
  have lt2:∀ b ∈ fp,b < s2.heap.objs.size:=λ b hb=>let ⟨o,e,_⟩:=T.obj 0 _ st2 b hb;Heap.lt_size e
  have f3:∀ b ∈ fp,FpOk X pins (upd H2 s2.heap.objs.size (.lst [])) b:=λ b hb=>⟨by rw[AD (Nat.ne_of_lt (lt2 b hb))];exact(f2 b hb).1,(f2 b hb).2⟩
  have lt3:∀ b ∈ fp,b < (s2.heap.push { cls:=.type "list",data:=.seq ([]:List Value).toArray }).objs.size:=λ b hb=>by rw[Heap.size_push];exact Nat.lt_succ_of_lt (lt2 b hb)
  generalize hs3:({ s2 with heap:=s2.heap.push { cls:=.type "list",data:=.seq ([]:List Value).toArray } }:Shared)=s3 at *
  have lt3:∀ b ∈ fp,b < s3.heap.objs.size:=by rw[<- hs3];exact lt3
  have st3:tn 0 s3.heap:=T.keep _ _ _ st2 λ b hb o e=>by rw[<- hs3];exact Heap.get?_push_of_some _ e
  refine MF λ h' hk hn ho ha=>?_
  have I4:=Kz (loc:=loc) S I3 f3 hk hn ho ha lt3
  have fpX:∀ {H':Hp},(∀ b ∈ fp,H' b=none)->∀ b ∈ fp,FpOk (cCx X (loc ++ fr) scope s3 (upd H2 s2.heap.objs.size (.lst [])) fp) [] H' b:=λ hn b hb=>
    ⟨hn b hb,(I4.ok.exf b hb).1,I4.ok.exfs b hb,.inl hb,(I4.ok.exf b hb).2,λ p hp=>by cases hp⟩
  have loop:codeAny (model X.prog X.w) X.A (.compLoop (.ListComp elt [⟨tg,iter,ifs,0⟩] scope pos) 0 (.ref it) (.ref s2.heap.objs.size) (RO scope s3.heap.objs.size X.env))
      (RR (.ref s2.heap.objs.size) s3.heap.objs.size) { s3 with heap:=h' }:=by
    refine Gb (λ n s'=>∃ i σ' ys H',Inv (cCx X (loc ++ fr) scope s3 (upd H2 s2.heap.objs.size (.lst [])) fp) [] σ' H' s'/\tn i s'.heap/\(∀ b ∈ fp,H' b=none)/\W i n σ' ys H') ?_ m0
      ⟨0,_,[],_,I4,T.keep _ _ _ st3 λ b hb o e=>hk b o e,λ b hb=>(f3 b hb).1,w0⟩
    rintro n s5 ⟨i,σ5,ys,H5,I5,st5,fr5,w5⟩
    obtain⟨hD,w5⟩:=turn i n σ5 ys H5 w5
    rcases w5 with⟨stop,qn⟩|⟨go,hz,N,hN,step⟩
    . refine thn (T.done (cCx X (loc ++ fr) scope s3 (upd H2 s2.heap.objs.size (.lst [])) fp) rfl rfl rfl hc i [] s5 σ5 H5 _ I5 (fpX fr5) st5 stop) λ r s6 ⟨hr,I6⟩=>?_
      subst hr
      exact hfin s3 s6 H5 σ5 s2.heap.objs.size I3 I6 f3 qn
    . refine thn (T.item (cCx X (loc ++ fr) scope s3 (upd H2 s2.heap.objs.size (.lst [])) fp) rfl rfl rfl hc i [] s5 σ5 H5 _ I5 (fpX fr5) st5 go) λ r s6 ⟨u,hr,h6⟩=>?_
      subst hr
      refine thn h6 λ _ s7 ⟨x,H7,I7,r7,y7,st7,fr7⟩=>?_
      have I7':=I7.pinned (fpX fr7) (T.obj _ _ st7)
      have keepI:∀ {σ8:St} {H8:Hp} {s8:Shared},Inv (cCx X (loc ++ fr) scope s3 (upd H2 s2.heap.objs.size (.lst [])) fp) ([] ++ FJ fp s7.heap) σ8 H8 s8->tn (i + 1) s8.heap/\∀ b ∈ fp,H8 b=none:=λ {σ8 H8 s8} I8=>by
        refine⟨T.keep _ _ _ st7 λ b hb o e=>(I8.pin (b,o) (List.mem_append_right _ (List.mem_append_right _ (DC hb e)))).1,λ b hb=>?_⟩
        obtain⟨o,e,d⟩:=T.obj _ _ st7 b hb
        exact(I8.pin (b,o) (List.mem_append_right _ (List.mem_append_right _ (DC hb e)))).2.1
      refine thn (hg s3 (upd H2 s2.heap.objs.size (.lst [])) fp _ s7 σ5 H7 x u _ I7' r7 (step x H7 y7)) λ _ s8 ⟨σ8,H8,I8,q8⟩=>?_
      refine thn (hf s3 (upd H2 s2.heap.objs.size (.lst [])) fp _ s8 σ8 H8 _ I8 q8) λ b s9 ⟨H9,I9,q9⟩=>?_
      cases b with
      | false=>
        rw[if_neg Bool.false_ne_true]at q9 ⊢
        obtain⟨m',hm,w9⟩:=hN _ _ _ q9
        exact⟨m',hm,i + 1,σ8,ys,H9,I9.unpinned,(keepI I9).1,(keepI I9).2,w9⟩
      | true=>
        rw[if_pos rfl]at q9 ⊢
        refine thn (he s3 (upd H2 s2.heap.objs.size (.lst [])) fp _ s9 σ8 H9 _ I9 q9) λ e10 s10 ⟨v10,H10,I10,r10,hD10,n10⟩=>?_
        obtain⟨m',hm,w10⟩:=hN _ _ _ n10
        refine PD (X:=cCx X (loc ++ fr) scope s3 (upd H2 s2.heap.objs.size (.lst [])) fp) I10 hD10 r10 hz λ _ s11 I11=>?_
        exact⟨m',hm,i + 1,σ8,_,_,I11.unpinned,(keepI I11).1,(keepI I11).2,w10⟩
  exact codeAny_compStart_list loop (T.self X.A 0 _ _ _ (T.keep _ _ _ st3 λ b hb o e=>hk b o e) loop)
theorem Lm{scope:Scope}{N':List Str}{fp:List Addr}{pins:List (Addr × Obj)}{σ σ5:St}{H3 H5:Hp}{s3 s6:Shared}{h'':Heap}(I3:Inv X pins σ H3 s3)(I6:Inv (cCx X N' scope s3 H3 fp) [] σ5 H5 s6)(f3:∀ b ∈ fp,FpOk X pins H3 b)
    (hs:Heap.SameBut s3.heap.objs.size s6.heap h''):Inv X pins σ H5 { s6 with heap:=h'' }:=by
  have neC:∀ b o,s3.heap.get? b=some o->b ≠ s3.heap.objs.size:=λ b o e=>Nat.ne_of_lt (Heap.lt_size e)
  have un:=I6.base
  refine I3.call' (s':={ s6 with heap:=h'' }) (ch:=fp) I6.os ⟨λ b o e n hb hx=>?_,λ b o e n hb hx=>?_,un.free,λ b o e hx=>?_,un.tups,un.frzs,un.tbls⟩ ?_ I6.bare ?_
  . exact(hs.2 b (neC b o e)).trans (un.keep b o e n hb hx)
  . obtain⟨sl,q⟩:=un.slot b o e n hb hx
    exact⟨sl,(hs.2 b (neC b o e)).trans q⟩
  . obtain⟨o',q⟩:=un.there b o e hx
    exact⟨o',(hs.2 b (neC b o e)).trans q⟩
  . intro b ob e
    have hfree:H5 s3.heap.objs.size=none:=I6.free
    refine(I6.hok b ob e).stay (λ c w' hc q=>(hs.2 c ?_).trans q) (λ _ q=>q) λ _ _ q=>q
    intro z
    rcases hc with hc|hc
    . rw[<- hc,z,hfree]at e;cases e
    . rw[z,hfree]at hc;cases hc
  . intro b hb
    obtain⟨_,a2,_,a4,a5,a6⟩:=f3 b hb
    exact⟨a4,a2,a5,a6⟩
theorem Sr{i:Nat}{y:Str}{elt tg iter:Expr}{ifs:List Expr}{scope:Scope}{pos spos py:Pos}{loc fr:List Str}{ix:List Nat}{wi:TI}{g:TG}{tf:TT}{te:TE}(hN:X.N.Nodup)(hiN:X.N[i]? = some y)(hy:X.env.scope.names.lookup y=some .local)
    (hc:X.calm=true) (S:CSc X scope fr ix) (hi:PI X tg iter wi)
    (hg:∀ s H ex,PG (cCx X (loc ++ fr) scope s H ex) tg g) (hf:∀ s H ex,PF (cCx X (loc ++ fr) scope s H ex) ifs tf) (he:∀ s H ex,PE (cCx X (loc ++ fr) scope s H ex) elt te)
    (hsw:swapsWith (.ListComp elt [⟨tg,iter,ifs,0⟩] scope pos) (some (.Name y py)) spos.line X.env=pure true:=by rfl) (hs:∀ x,foldedSetIterable iter X.env x=pure x:=by intro _;rfl) :
    PS X (.Assign [.Name y py] (.ListComp elt [⟨tg,iter,ifs,0⟩] scope pos) spos) (FZ (Hw loc.length ix wi g tf te) (Fv i)):=by
  intro pins s σ H D I h
  have hnames:∀ y ∈ scope.names,y.2=.local->scope.names.lookup y.1=some .local:=λ y hy e=>by
    have:=List.all_eq_true.mp S.loc y hy
    rw[e]at this
    simpa using this
  rw[exec_Assign_Name_used _ _ _ _ hsw]
  refine wpAny_bind (wpAny_standAt (wpAny_bind ?_))
  show wpAny _ _ (do let _ <- comprehension (.ListComp elt [⟨tg,iter,ifs,0⟩] scope pos) scope X.env _ (newList []) false (eval iter X.env) (some (assign (.Name y py) X.env))) _ _ s
  refine wpAny_bind (wpAny_mono (wpAny_comprehension_free (use:=some (assign (.Name y py) X.env)) (Q:=λ _ s'=>SP X pins D .next s') rfl hs (EQ (S.clos I.ok)) S.kind hnames
    (thn (hi pins s σ H _ I h) λ v s1 h1=>thn h1 λ itv s2 h2=>?_)) (λ _ s' hq=>wpAny_pure (wpAny_pure hq)) λ _ _ e=>e)
  obtain⟨it,fp,tn,J,H2,rfl,I2,T,st2,f2,hW⟩:=h2
  refine Nm (RR:=λ acc C=>compPost (model X.prog X.w) X.A X.xe (some (assign (.Name y py) X.env)) (λ _ s'=>SP X pins D .next s') acc C) hc S hg hf he I2 T st2 f2 hW λ s3 s6 H5 σ5 L I3 I6 f3 q=>?_
  have J6:Inv X pins σ H5 s6:=Lm (h'':=s6.heap) I3 I6 f3 (.refl ..)
  obtain⟨m,hm,_⟩:=I6.loc
  have hm:s6.heap.Ns s3.heap.objs.size m:=hm
  have hL:s3.heap.objs.size ≠ X.env.locals:=Ne.symm (Nat.ne_of_lt I3.lt)
  show wpAny _ _ (assign (.Name y py) X.env (.ref L)) _ _ s6
  refine wpAny_assign_Name (JN (v:=.ref L) J6 hN hiN (.inl hy) rfl (λ s7 I7 ⟨a,sb,ha⟩=>?_) (.inr hy))
  have hca:s3.heap.objs.size ≠ a:=by
    rcases ha with rfl|ha
    . exact hL
    . obtain⟨v,z⟩:=I3.cell y a ha
      exact Ne.symm (Nat.ne_of_lt z.lt)
  refine⟨m,hm.sameBut sb hca,λ h' hs'=>?_⟩
  refine⟨_,H5,I7.turned (t':=s7.toks) (it:=s3.heap.objs.size) (λ b o hb e=>(hs'.2 b hb).trans e) I6.free hL (.inr I3.sz) (λ x c e z=>?_) (λ p hp z=>?_),q⟩
  . obtain⟨v,w⟩:=I3.cell x c e
    exact absurd w.lt (by rw[z];exact Nat.lt_irrefl _)
  . exact absurd (Heap.lt_size (I3.pin p hp).1) (by rw[z];exact Nat.lt_irrefl _)
end
end L2
namespace L2
open PySem PySem.Spec PyProof.Rows
mutual
noncomputable def Rep(K:PySem.W.Frag)(H:Hp):PyData->V->Prop
  | .none,v=>v=.non
  | .bool b,v=>v=.bl b
  | .int i,v=>v=.int i
  | .str x,v=>v=.str x
  | .list ds,v=>∃ a xs,v=.ref a/\SqL K H a xs/\Cg K H ds xs
  | .tuple ds,v=>∃ a xs,v=.ref a/\SqT K H a xs/\Cg K H ds xs
  | .dict _,_=>False
noncomputable def Cg(K:PySem.W.Frag)(H:Hp):List PyData->List V->Prop
  | [],xs=>xs=[]
  | d :: ds,xs=>∃ x r,xs=x :: r/\Rep K H d x/\Cg K H ds r
end
section
variable{X:Cx}{pins:List (Addr × Obj)}{σ:St}{H:Hp}{s:Shared}
mutual
theorem Dg(I:Inv X pins σ H s):∀ (d:PyData) (v:V) (u:Value),Rep X.K H d v->RelV v u->∃ as,Reads s.heap u d as
  | .none,v,u,h,r=>by
    have h:v=.non:=by simpa only[Rep]using h
    subst h;cases r;exact⟨_,.none⟩
  | .bool b,v,u,h,r=>by
    have h:v=.bl b:=by simpa only[Rep]using h
    subst h;cases r;exact⟨_,.bool b⟩
  | .int i,v,u,h,r=>by
    have h:v=.int i:=by simpa only[Rep]using h
    subst h;obtain⟨t,rfl⟩:=r;exact⟨_,.int i t⟩
  | .str x,v,u,h,r=>by
    have h:v=.str x:=by simpa only[Rep]using h
    subst h;obtain⟨t,rfl⟩:=r;exact⟨_,.str x t⟩
  | .list ds,v,u,h,r=>by
    have h:∃ a xs,v=.ref a/\SqL X.K H a xs/\Cg X.K H ds xs:=by simpa only[Rep]using h
    obtain⟨a,xs,rfl,hq,ha⟩:=h
    cases r
    obtain⟨its,rv,⟨o,n,e,c,_,dd⟩,hz⟩:=I.list hq
    obtain⟨as,q⟩:=Ek I ds xs its ha rv
    exact⟨_,.list e c dd (by simpa using q)⟩
  | .tuple ds,v,u,h,r=>by
    have h:∃ a xs,v=.ref a/\SqT X.K H a xs/\Cg X.K H ds xs:=by simpa only[Rep]using h
    obtain⟨a,xs,rfl,hq,ha⟩:=h
    cases r
    obtain⟨its,rv,⟨o,e,c,n,dd⟩,hz⟩:=I.tuple hq
    obtain⟨as,q⟩:=Ek I ds xs its ha rv
    exact⟨_,.tuple e c dd (by simpa using q)⟩
  | .dict _,v,u,h,r=>by
    have h:False:=by simpa only[Rep]using h
    exact h.elim
theorem Ek(I:Inv X pins σ H s):∀ (ds:List PyData) (xs:List V) (us:List Value),Cg X.K H ds xs->Vals xs us->∃ as,ReadsAll s.heap us ds as
  | [],xs,us,h,r=>by
    have h:xs=[]:=by simpa only[Cg]using h
    subst h;cases r;exact⟨_,.nil⟩
  | d :: ds,xs,us,h,r=>by
    have h:∃ x r,xs=x :: r/\Rep X.K H d x/\Cg X.K H ds r:=by simpa only[Cg]using h
    obtain⟨x,rr,rfl,h1,h2⟩:=h
    cases r with
    | cons r1 r2=>
      obtain⟨as,q1⟩:=Dg I d _ _ h1 r1
      obtain⟨bs,q2⟩:=Ek I ds _ _ h2 r2
      exact⟨_,.cons q1 q2⟩
end
end
structure Grow(H H':Hp):Prop where
  tup:∀ b xs,H b=some (.tup xs)->H' b=some (.tup xs)
  frz:∀ b o u,H b=some (.frz o u)->H' b=some (.frz o u)
theorem Grow.refl{H:Hp}:Grow H H:=⟨λ _ _ h=>h,λ _ _ _ h=>h⟩
noncomputable def Chg(H:Hp)(p:Addr):Prop:=(∀ xs,H p ≠ some (.tup xs))/\∀ o u,H p ≠ some (.frz o u)
theorem Grow.put{H H':Hp}{p:Addr}{o:HO}(a:Grow H H')(h:Chg H' p):Grow H (upd H' p o):=⟨λ c xs e=>by
  have q:=a.tup c xs e
  have n:c ≠ p:=λ z=>h.1 xs (by rw[<- z];exact q)
  rw[AD n];exact q,λ c z u e=>by
  have q:=a.frz c z u e
  have n:c ≠ p:=λ w=>h.2 z u (by rw[<- w];exact q)
  rw[AD n];exact q⟩
theorem Chg.lst{H:Hp}{p:Addr}{xs:List V}(h:H p=some (.lst xs)):Chg H p:=⟨(λ _ e=>by rw[h]at e;cases e),(λ _ _ e=>by rw[h]at e;cases e)⟩
theorem Grow.sq{K:PySem.W.Frag}{H H':Hp}{a:Addr}{xs:List V}(g:Grow H H')(h:SqT K H a xs):SqT K H' a xs:=by
  rcases h with(h|⟨o,h⟩)|h
  . exact .inl (.inl (g.tup _ _ h))
  . exact .inl (.inr ⟨o,g.frz _ _ _ h⟩)
  . exact .inr h
section
variable{X:Cx}
noncomputable def NA(K:PySem.W.Frag):List V->Hp->VK->Prop:=λ xs H Q=>∃ x d,xs=[x]/\Rep K H d x/\d.showable=true/\d.hasDict=false/\isDisplay d=true/\d.depth <= 30/\d.shown.length <= sizeLine/\Q (.str d.shown) H
theorem Nn(hg:X.A.guards=some [])(hu:X.A.units + 64 < cLine):CallR X (.builtin "repr") (NA X.K):=by
  intro pins s σ H xs us Q I r h
  obtain⟨x,d,rfl,hr,hs,hd,hi,hdep,hsz,q⟩:=h
  obtain⟨u,rfl,ru⟩:=CK r
  obtain⟨as,hR⟩:=Dg I d x u hr ru
  obtain⟨a,rfl⟩:=isRef_of_reads hR hi
  exact repr_of_reads' hR hs (PyData.noDict_hsm hd) hg (by omega) (λ _ _ e=>e) (λ h' u tk hk=>⟨.str d.shown,H,I.kept hk,⟨_,rfl⟩,q⟩) hsz
noncomputable def Q9(K:PySem.W.Frag):R2:=λ x y H Q=>∃ d e,Rep K H d x/\Rep K H e y/\d.canLay0=true/\e.canLay0=true/\min d.depth e.depth <= 60/\Q (.bl (!PyData.eqv d e)) H
noncomputable def QD(K:PySem.W.Frag):R2:=λ x y H Q=>∃ d e,Rep K H d x/\Rep K H e y/\d.canLay0=true/\e.canLay0=true/\min d.depth e.depth <= 60/\Q (.bl (PyData.eqv d e)) H
theorem V1(hu:X.A.units + 64 < cLine):OpR X (compareOp .NotEq) (Q9 X.K):=by
  intro pins s σ H x y v u Q I rx ry h
  obtain⟨d,e,h1,h2,c1,c2,hm,q⟩:=h
  obtain⟨as,q1⟩:=Dg I d x v h1 rx
  obtain⟨bs,q2⟩:=Dg I e y u h2 ry
  exact PySem.SeqAt.compareNe_reads q1 q2 c1 c2 (by omega) ⟨.bl _,H,I,rfl,q⟩
theorem V2(hu:X.A.units + 64 < cLine):OpR X (compareOp .Eq) (QD X.K):=by
  intro pins s σ H x y v u Q I rx ry h
  obtain⟨d,e,h1,h2,c1,c2,hm,q⟩:=h
  obtain⟨as,q1⟩:=Dg I d x v h1 rx
  obtain⟨bs,q2⟩:=Dg I e y u h2 ry
  exact PySem.SeqAt.compareEq_reads q1 q2 c1 c2 (by omega) ⟨.bl _,H,I,rfl,q⟩
theorem Ed:∀ {ns:List Int} {us:List Value},Vals (ns.map V.int) us->IntsAre us ns
  | [],_,.nil=>.nil
  | n :: ns,_,.cons r t=>by obtain⟨k,rfl⟩:=r;exact .cons _ _ (Ed t)
theorem P6(hc:X.calm=true):CallR X (.builtin "sum") (λ xs H Q=>∃ (a:Addr) (ns:List Int),xs=[.ref a]/\SqL X.K H a (ns.map V.int)/\Q (.int ns.sum) H):=by
  intro pins s σ H xs us Q I r h
  obtain⟨a,ns,rfl,hq,q⟩:=h
  obtain⟨u,rfl,ru⟩:=CK r
  cases ru
  obtain⟨its,rv,p,hz⟩:=I.list hq
  have hi:=Ed rv
  obtain⟨xs,hx⟩:=hi.allInts.items
  have hl':s.heap.IsList a (intItems xs):=hx ▸ p.isList
  refine sum_intListG (I.ok.hd hc) hl' λ h' tk t' hk=>?_
  have e1:ns=xs.toList.map (·.1):=by
    rw[<- nums_intItems,<- hx]
    exact(show numsOf its.toArray.toList=ns from hi.numsOf).symm
  have e2:preSum (numAt xs) xs.size=ns.sum:=by
    rw[preSum_eq,List.take_of_length_le (by simp),e1]
  rw[e2]
  exact⟨.int ns.sum,H,I.kept hk,⟨_,rfl⟩,q⟩
end
end L2
namespace L2
open PySem PySem.Spec PyProof.Rows
section
variable(K:PySem.W.Frag){X:Cx}
theorem Ky(hK:X.K=K:=by rfl):IxR X (QC K):=by subst hK;exact TY
theorem MQ(hK:X.K=K:=by rfl):IxR X (QB K):=by subst hK;exact VE
theorem Pt(hK:X.K=K:=by rfl):SlR X (N8 K):=by subst hK;exact SA
theorem OT(hK:X.K=K:=by rfl):OpR X (compareOp .NotIn) (rIn K true):=by subst hK;exact Kp
theorem BA(hu:X.A.units + 64 < cLine)(hK:X.K=K:=by rfl):OpR X (compareOp .Eq) (QD K):=by subst hK;exact V2 hu
theorem Ea(hu:X.A.units + 64 < cLine)(hK:X.K=K:=by rfl):OpR X (compareOp .NotEq) (Q9 K):=by subst hK;exact V1 hu
theorem Ap(hK:X.K=K:=by rfl):OpR X (binaryOp .Add) (NB K):=by subst hK;exact TD
noncomputable def UU:List V->Hp->VK->Prop:=λ xs H Q=>∃ p ys,xs=[.ref p]/\(SqL K H p ys ∨ SqT K H p ys)/\Q (.int ys.length) H
theorem Bz(hK:X.K=K:=by rfl):CallR X (.builtin "len") (UU K):=by subst hK;exact LS
noncomputable def Iw:List V->Hp->VK->Prop:=λ xs H Q=>∃ p ys,xs=[.ref p]/\(SqL K H p ys ∨ SqT K H p ys)/\∀ l,H l=none->Q (.ref l) (upd H l (.lst ys))
theorem Np(hK:X.K=K:=by rfl):CallR X (.type "list") (Iw K):=by subst hK;exact LR
noncomputable def Kg:List V->Hp->VK->Prop:=λ xs H Q=>∃ p ys,xs=[.ref p]/\((SqL K H p ys/\∀ l,H l=none->Q (.ref l) (upd H l (.tup ys))) ∨ (SqT K H p ys/\Q (.ref p) H))
theorem BG(hK:X.K=K:=by rfl):CallR X (.type "tuple") (Kg K):=by subst hK;exact Jv
theorem BH(hg:X.A.guards=some [])(hu:X.A.units + 64 < cLine)(hK:X.K=K:=by rfl):CallR X (.builtin "repr") (NA K):=by subst hK;exact Nn hg hu
noncomputable def Rf:List V->Hp->VK->Prop:=λ xs H Q=>∃ (a:Addr) (ns:List Int),xs=[.ref a]/\SqL K H a (ns.map V.int)/\Q (.int ns.sum) H
theorem Jj(hc:X.calm=true)(hK:X.K=K:=by rfl):CallR X (.builtin "sum") (Rf K):=by subst hK;exact P6 hc
theorem QY{tg l:Expr}{tl:TE}(hl:PE X l tl)(hK:X.K=K:=by rfl):PI X tg l (K6 K tl):=by subst hK;exact T2 hl
theorem T1{tg l:Expr}{tl:TE}(hl:PE X l tl)(hK:X.K=K:=by rfl):PI X tg l (NW K tl):=by subst hK;exact Uj hl
theorem T4{pos:Pos}{es:List Expr}{k:Nat}{t:TGs}{n:Nat}(hc:X.calm=true)(h:PGs X es t)(hK:X.K=K:=by rfl)
    (hn:(assignEach es X.env).length=n:=by rfl) (hst:(assignEach es X.env).findIdx? (·.1)=none:=by rfl):PG X (.Tuple es k pos) (Na K n t):=by
  subst hK
  exact Uk hc h hn hst
end
section
variable(K:PySem.W.Frag){X:Cx}
end
end L2
namespace L2
open PySem PySem.Spec PyProof.Rows
section
variable(K:PySem.W.Frag){X:Cx}
theorem Jo:∀ {bs:List Bool} {us:List Value} {i:Nat} {v:Value},Vals (bs.map V.bl) us->us[i]? = some v->∃ b,bs[i]? = some b/\v=.bool b
  | [],_,_,_,.nil,e=>by simp at e
  | b :: bs,_,0,_,.cons r _,e=>by simp at e;subst e;exact⟨b,rfl,r⟩
  | b :: bs,_,i + 1,_,.cons _ t,e=>by
    obtain⟨c,h1,h2⟩:=Jo (i:=i) t (by simpa using e)
    exact⟨c,by simpa using h1,h2⟩
noncomputable def UV:List V->Hp->VK->Prop:=λ xs H Q=>∃ (a:Addr) (bs:List Bool),xs=[.ref a]/\SqL K H a (bs.map V.bl)/\Q (.bl (bs.all id)) H
theorem Jm(hc:X.calm=true)(hK:X.K=K:=by rfl):CallR X (.builtin "all") (UV K):=by
  subst hK
  intro pins s σ H xs us Q I r h
  obtain⟨a,bs,rfl,hq,q⟩:=h
  obtain⟨u,rfl,ru⟩:=CK r
  cases ru
  obtain⟨its,rv,p,hz⟩:=I.list hq
  have hl:=p.isList
  have hlen:=rv.length
  have hlt:a < s.heap.objs.size:=by obtain⟨_,e,_⟩:=hl;exact Heap.lt_size e
  refine call_all_walk (wpAny_pyIter_list hl ?_)
  refine⟨s.heap.objs.size,[s.heap.objs.size,a],[s.heap.objs.size],its.toArray.size,_,_,λ i=>(bs[i]?).getD true,rfl,Walks.list (A:=X.A.in1) (I.ok.hd hc) _ a (Nat.ne_of_lt hlt) its.toArray,
    ⟨⟨_,Heap.get?_push_size _ rfl,rfl,rfl⟩,hl.push _⟩,λ i v s' Q' E' hP hQ=>?_,λ h' tk hk=>?_⟩
  . obtain⟨b,e,rfl⟩:=Jo rv (by simpa using hP)
    simp only[e,Option.getD_some]at hQ
    exact wpAny_truthy_bool hQ
  . have e:((List.range its.toArray.size).all λ i=>(bs[i]?).getD true)=bs.all id:=by
      rw[List.size_toArray,<- hlen,List.length_map];exact LSm.range_all bs
    rw[e]
    exact⟨.bl _,H,I.kept (LSm.kept_iter hk),rfl,q⟩
theorem Lp:∀ {ns:List Int} {us:List Value},IntsAre us ns->Vals (ns.map V.int) us
  | [],_,.nil=>.nil
  | _ :: _,_,.cons _ _ t=>.cons ⟨_,rfl⟩ (Lp t)
noncomputable def Vq:List V->Hp->VK->Prop:=λ xs H Q=>∃ (a:Addr) (ns:List Int),xs=[.ref a]/\SqL K H a (ns.map V.int)/\0 < ns.length/\∀ M:Int,M ∈ ns->(∀ x ∈ ns,x <= M)->Q (.int M) H
theorem WW(hc:X.calm=true)(hK:X.K=K:=by rfl):CallR X (.builtin "max") (Vq K):=by
  subst hK
  intro pins s σ H xs us Q I r h
  obtain⟨a,ns,rfl,hq,hne,q⟩:=h
  obtain⟨u,rfl,ru⟩:=CK r
  cases ru
  obtain⟨its,rv,p,hz⟩:=I.list hq
  have hi:=Ed rv
  obtain⟨ys,e⟩:=hi.allInts.items
  have hns:ns=ys.toList.map (·.1):=by
    rw[<- hi.numsOf,<- nums_intItems,<- e]
  have hsz:0 < ys.size:=by
    have h3:=hne;rw[hns,List.length_map,Array.length_toList]at h3;exact h3
  have hl:=p.isList
  rw[e]at hl
  refine max_intList (I.ok.hd hc) hl hsz λ v h' tk hv hk=>?_
  obtain⟨t,rfl⟩:=intItems_at hv
  obtain⟨h1,h2⟩:=argBest_gt (numAt ys) (ys.size - 1)
  refine⟨.int _,H,I.kept hk,⟨t,rfl⟩,q _ ?_ λ x hx=>?_⟩
  . rw[hns,numAt_eq];exact getD_mem (by rw[List.length_map,Array.length_toList];omega)
  . rw[hns]at hx
    obtain⟨j,hj,rfl⟩:=mem_getD hx
    rw[List.length_map,Array.length_toList]at hj
    rw[<- numAt_eq];exact h2 j (by omega)
noncomputable def Rg:List V->Hp->VK->Prop:=λ xs H Q=>∃ (a:Addr) (ns:List Int),xs=[.ref a]/\SqL K H a (ns.map V.int)/\0 < ns.length/\∀ M:Int,M ∈ ns->(∀ x ∈ ns,M <= x)->Q (.int M) H
theorem P7(hc:X.calm=true)(hK:X.K=K:=by rfl):CallR X (.builtin "min") (Rg K):=by
  subst hK
  intro pins s σ H xs us Q I r h
  obtain⟨a,ns,rfl,hq,hne,q⟩:=h
  obtain⟨u,rfl,ru⟩:=CK r
  cases ru
  obtain⟨its,rv,p,hz⟩:=I.list hq
  have hi:=Ed rv
  obtain⟨ys,e⟩:=hi.allInts.items
  have hns:ns=ys.toList.map (·.1):=by
    rw[<- hi.numsOf,<- nums_intItems,<- e]
  have hsz:0 < ys.size:=by
    have h3:=hne;rw[hns,List.length_map,Array.length_toList]at h3;exact h3
  have hl:=p.isList
  rw[e]at hl
  refine min_intList (I.ok.hd hc) hl hsz λ v h' tk hv hk=>?_
  obtain⟨t,rfl⟩:=intItems_at hv
  obtain⟨h1,h2⟩:=argBest_lt (numAt ys) (ys.size - 1)
  refine⟨.int _,H,I.kept hk,⟨t,rfl⟩,q _ ?_ λ x hx=>?_⟩
  . rw[hns,numAt_eq];exact getD_mem (by rw[List.length_map,Array.length_toList];omega)
  . rw[hns]at hx
    obtain⟨j,hj,rfl⟩:=mem_getD hx
    rw[List.length_map,Array.length_toList]at hj
    rw[<- numAt_eq];exact h2 j (by omega)
end
end L2
namespace L2
open PySem PySem.Spec PyProof.Rows
section
variable{prog:Program}{w:World}{A:Around}{E:Value->Shared->Prop}{s:Shared}{l:Addr}{xs:Array (Int × Tok)}
theorem Ju{Q:Value->Shared->Prop}(hl:s.heap.IsTuple l (intItems xs))
    (h:∀ s₂:Shared,s₂={ s with heap:=s.heap.push { cls:=.type "tuple_iterator",data:=.fields #[.ref l,.int 0 0] } } ->
      (s₂.heap.IsTupleIter s.heap.objs.size l 0/\s₂.heap.IsTuple l (intItems xs))->(∀ b ∈ [s.heap.objs.size,l],b < s₂.heap.objs.size)->l ≠ s.heap.objs.size->Q (.ref s.heap.objs.size) s₂) :
    wpAny (model prog w) A (pyIter (.ref l)) Q E s:=by
  have hlt:l < s.heap.objs.size:=by obtain⟨_,e,_⟩:=hl;exact Heap.lt_size e
  refine wpAny_pyIter_tuple hl (h _ rfl ⟨⟨_,Heap.get?_push_size _ rfl,rfl,rfl⟩,hl.push _⟩ (λ b hb=>?_) (Nat.ne_of_lt hlt))
  show b < (s.heap.push _).objs.size
  rw[Heap.size_push]
  rcases List.mem_cons.mp hb with rfl|hb
  . exact Nat.lt_succ_self _
  . rcases List.mem_cons.mp hb with rfl|hb
    . exact Nat.lt_succ_of_lt hlt
    . cases hb
theorem OV{h':Heap}{o:Obj}(hk:∀ b x,b ∉ [s.heap.objs.size]->(s.heap.push o).get? b=some x->h'.get? b=some x):∀ b x,s.heap.get? b=some x->h'.get? b=some x:=
  λ b x e=>hk b x (λ hm=>by rw[List.mem_singleton.mp hm]at e;exact Nat.lt_irrefl _ (Heap.lt_size e)) (Heap.get?_push_of_some _ e)
theorem KO{Q:Value->Shared->Prop}(hh:A.handled=none)(hl:s.heap.IsTuple l (intItems xs))
    (h:∀ h' tk t',(∀ b o,s.heap.get? b=some o->h'.get? b=some o)->Q (.int (preSum (numAt xs) xs.size) t') { s with heap:=h',toks:=tk }) :
    wpAny (model prog w) A (call (.builtin "sum") [.ref l]) Q E s:=by
  refine call_sum_walkG (Ju hl λ s₂ e st hfp hlI=>?_)
  subst e
  refine⟨_,_,_,_,_,_,numAt xs,rfl,Walks.tuple (A:=A.in1) hh _ l hlI (intItems xs),st,hfp,(λ _ _=>intItems_at),λ h' tk t' hk=>?_⟩
  have:=h h' tk t' (OV hk)
  simpa [intItems]using this
end
section
variable(K:PySem.W.Frag){X:Cx}
noncomputable def Re:List V->Hp->VK->Prop:=λ xs H Q=>∃ (a:Addr) (ns:List Int),xs=[.ref a]/\SqT K H a (ns.map V.int)/\Q (.int ns.sum) H
theorem Ii(hc:X.calm=true)(hK:X.K=K:=by rfl):CallR X (.builtin "sum") (Re K):=by
  subst hK
  intro pins s σ H xs us Q I r h
  obtain⟨a,ns,rfl,hq,q⟩:=h
  obtain⟨u,rfl,ru⟩:=CK r
  cases ru
  obtain⟨its,rv,p,hz⟩:=I.tuple hq
  have hi:=Ed rv
  obtain⟨xs,hx⟩:=hi.allInts.items
  have hl':s.heap.IsTuple a (intItems xs):=hx ▸ (show s.heap.IsTuple a its.toArray from p)
  refine KO (I.ok.hd hc) hl' λ h' tk t' hk=>?_
  have e1:ns=xs.toList.map (·.1):=by
    rw[<- nums_intItems,<- hx]
    exact(show numsOf its.toArray.toList=ns from hi.numsOf).symm
  have e2:preSum (numAt xs) xs.size=ns.sum:=by
    rw[preSum_eq,List.take_of_length_le (by simp),e1]
  rw[e2]
  exact⟨.int ns.sum,H,I.kept hk,⟨_,rfl⟩,q⟩
end
end L2
namespace L2
open PySem PySem.Spec PyProof.Rows
structure DefAt(K:PySem.W.Frag)(mg:Str->Option Value)(x:Str)(st:Stmt)(f:Addr)(fd:FuncData)(ps:List Str):Prop where
  fn:Fun K x x st f fd
  mg:mg x=some (.ref f)
  bd:Binds K fd ps []
theorem Ri{X:Cx}{j k:Nat}{f:Addr}{fd:FuncData}{ps:List Str}{sp:Sp}{x:Str}{st:Stmt}{e:Expr}{es:List Expr}{t:TA}{p pos:Pos}(F:FnOk X.prog X.w X.K X.mg X.base CX0 j f fd ps sp)(hr:Room k X.A)(D:DefAt X.K X.mg x st f fd ps)(ha:PA X (e :: es) t)
    (hjk:j <= k:=by decide) (hg:Gl X x:=by rfl) (hdb:(x == ("__debug__":Str))=false:=by decide) (he:starEach (e :: es) X.env=(false,eval e X.env) :: starEach es X.env:=by rfl) (hpl:(backTo pos (starEach es X.env)).any (·.1)=false:=by rfl) :
    PE X (.Call (.Name x p) (e :: es) [] pos) (Gm sp [] E0 t):=
  TB (F.mono hjk) hr hg D.mg D.fn.kp D.bd .nil Vx ha hdb he hpl
noncomputable def Mq(i j k:Nat)(ta:TA):TS:=λ D σ H=>ta σ H λ vs H1=>∃ v w z,vs=[v,w,z]/\D.nx (((σ.set k (some z)).set j (some w)).set i (some v)) H1
theorem Ss{X:Cx}{i j k:Nat}{x y z:Str}{a b c:Expr}{ta:TA}{px py pz pt pos:Pos}{kt k2 pt2}(hc:X.calm=true)(hN:X.N.Nodup)(hi:X.N[i]? = some x)(hj:X.N[j]? = some y)(hk:X.N[k]? = some z)
    (hx:X.env.scope.names.lookup x=some .local) (hy:X.env.scope.names.lookup y=some .local) (hz:X.env.scope.names.lookup z=some .local) (ha:PA X [a,b,c] ta)
    (hw:swappedStores [.Tuple [.Name x px,.Name y py,.Name z pz] kt pt] (.Tuple [a,b,c] k2 pt2) X.env=pure (some [x,y,z]))
    (hs:swapsWithSole [.Tuple [.Name x px,.Name y py,.Name z pz] kt pt] (.Tuple [a,b,c] k2 pt2) pos.line X.env=pure false:=by rfl) :
    PS X (.Assign [.Tuple [.Name x px,.Name y py,.Name z pz] kt pt] (.Tuple [a,b,c] k2 pt2) pos) (Mq i j k ta):=by
  intro pins s σ H D I h
  rw[exec_Assign_arm]
  refine wpAny_bind (wpAny_standAt ?_)
  rw[hs]
  refine wpAny_bind (wpAny_pure ?_)
  rw[if_neg (by decide)]
  refine wpAny_bind (Tuple_ (thn (ha _ pins s σ H _ I h) λ us s1 ⟨vs,H1,I1,r1,q1⟩=>?_))
  obtain⟨v,w,q,e1,q1⟩:=q1
  subst e1
  obtain⟨u1,u2,u3,rfl,rv,rw',rq⟩:∃ u1 u2 u3,us=[u1,u2,u3]/\RelV v u1/\RelV w u2/\RelV q u3:=by
    cases r1 with
    | cons p1 q1=>
      cases q1 with
      | cons p2 q2=>
        cases q2 with
        | cons p3 q3=>
          cases q3
          exact⟨_,_,_,rfl,p1,p2,p3⟩
  refine wpAny_newObj_type ?_ (by show 3 <= sizeLine;decide)
  have I2:Inv X pins σ H1 { s1 with heap:=s1.heap.push { cls:=.type "tuple",data:=.seq [u1,u2,u3].toArray } }:=I1.kept (t':=s1.toks) λ b o e=>Heap.get?_push_of_some _ e
  rw[hw]
  refine wpAny_bind (wpAny_pure ?_)
  show wpAny (model X.prog X.w) X.A (do rule "assign.swapped-stores";let items <- unpackItems (.ref s1.heap.objs.size) 3 none;assignInOrder [λ v=>bindName X.env z v,λ v=>bindName X.env y v,λ v=>bindName X.env x v] items.reverse;pure Flow.next) _ _ _
  refine wpAny_bind (wpAny_rule (wpAny_bind (unpackItems_tuple (items:=#[u1,u2,u3]) (I.ok.hd hc) (IsTup.new s1.heap _) λ h' hx'=>?_)))
  have I3:=I2.kept (h':=h') (t':=s1.toks) λ b o e=>hx' b o (Nat.ne_of_lt (Heap.lt_size e)) e
  show wpAny _ _ (assignInOrder [λ v=>bindName X.env z v,λ v=>bindName X.env y v,λ v=>bindName X.env x v] [u3,u2,u1] >>= λ _=>pure Flow.next) _ _ _
  refine wpAny_bind (assignInOrder_cons (wpAny_bindName (DV I3 hN hk (.inl hz) rq (λ s2 I4=>?_) (.inr hz))))
  refine assignInOrder_cons (wpAny_bindName (DV I4 hN hj (.inl hy) rw' (λ s3 I5=>?_) (.inr hy)))
  refine assignInOrder_cons (wpAny_bindName (DV I5 hN hi (.inl hx) rv (λ s4 I6=>assignInOrder_nil (wpAny_pure ?_)) (.inr hx)))
  exact⟨_,H1,I6,q1⟩
theorem Mf:bootBuiltins "list"=some (.type "list"):=by decide +kernel
theorem bt_tuple:bootBuiltins "tuple"=some (.type "tuple"):=by decide +kernel
theorem bt_int:bootBuiltins "int"=some (.type "int"):=by decide +kernel
theorem bt_len:bootBuiltins "len"=some (.builtin "len"):=by decide +kernel
theorem bt_repr:bootBuiltins "repr"=some (.builtin "repr"):=by decide +kernel
theorem bt_sum:bootBuiltins "sum"=some (.builtin "sum"):=by decide +kernel
theorem bt_min:bootBuiltins "min"=some (.builtin "min"):=by decide +kernel
theorem bt_max:bootBuiltins "max"=some (.builtin "max"):=by decide +kernel
theorem Gh:bootBuiltins "sorted"=some (.builtin "sorted"):=by decide +kernel
theorem bt_all:bootBuiltins "all"=some (.builtin "all"):=by decide +kernel
theorem Jw:bootBuiltins "isinstance"=some (.builtin "isinstance"):=by decide +kernel
theorem ne1:¬ (("cells":Str)="next"):=by decide +kernel
theorem ne2:¬ (("cells":Str)="left"):=by decide +kernel
theorem ne3:¬ (("cells":Str)="turn"):=by decide +kernel
theorem ne4:¬ (("next":Str)="left"):=by decide +kernel
theorem ne5:¬ (("next":Str)="turn"):=by decide +kernel
theorem ne6:¬ (("left":Str)="turn"):=by decide +kernel
theorem Wg:¬ (("left":Str)="next"):=by decide +kernel
theorem Wf:¬ (("turn":Str)="next"):=by decide +kernel
theorem We:¬ (("turn":Str)="left"):=by decide +kernel
section
variable(c:Addr)(n l u v:Int)
end
mutual
theorem HK:∀ ns:List Int,PyData.canLayAll0 (ns.map PyData.int)=true
  | []=>by simp[PyData.canLayAll0]
  | n :: ns=>by simp[PyData.canLayAll0,PyData.canLay0,HK ns]
end
end L2
namespace L2
open PySem PySem.Spec PyProof.Rows PySem.W
noncomputable def lCx(X:Cx)(A:Around)(N':List Str)(qual:Str)(scope:Scope)(f:Addr)(cd:Value)(cl:List (Str × Addr))(s:Shared)(H:Hp):Cx:=
  { X with N:=N',s₀:=s,H₀:=H,A:=A.deeper (envX qual scope s.heap.objs.size f cd cl),env:=envX qual scope s.heap.objs.size f cd cl,outer:=X.stack,stack:=envX qual scope s.heap.objs.size f cd cl :: X.stack,ex:=[],fn:=λ _=>false,calm:=true,pn:=[],xe:=λ _ _=>False }
structure LSc(scope:Scope)(p:Str):Prop where
  nocell:(scope.names.all λ y=>y.2 != .cell)=true
  par:scope.names.lookup p=some .local
  co:scope.isCoroutine=false
  gen:scope.isGenerator=false
section
variable{X:Cx}{scope:Scope}{fr:List Str}{ix:List Nat}{pins:List (Addr × Obj)}{σ:St}{H:Hp}{s:Shared}{p:Str}
theorem LSc.ne(L:LSc scope p):∀ y ∈ scope.names,y.2 ≠ .cell:=λ y hy e=>by
  have:=List.all_eq_true.mp L.nocell y hy
  rw[e]at this
  revert this;decide
theorem Tc(S:CSc X scope fr ix)(L:LSc scope p)(I:Inv X pins σ H s){A:Around}(hf:A.frames=X.A.frames)(hh:A.handled=none){qual:Str}{f:Addr}{cd:Value}{h':Heap}{x:V}{u:Value}{t':Nat}
    (hk:∀ b o,s.heap.get? b=some o->h'.get? b=some o) (hn:h'.Ns s.heap.objs.size λ y=>if y=p then some u else none) (r:RelV x u) :
    Inv (lCx X A (p :: fr) qual scope f cd (As X.env.cells scope.names []) s H) [] (some x :: ix.map λ i=>(σ[i]?).join) H { s with heap:=h',toks:=t' }:=by
  have lenix:fr.length=ix.length:=by simpa using congrArg List.length S.ixs
  have co:∀ x c,(As X.env.cells scope.names []).lookup x=some c->X.env.cells.lookup x=some c:=λ x c e=>Dx (S.clos I.ok) (λ _ _ z=>by simp at z) x c e
  refine⟨⟨I.ok.mod,S.kind,rfl,rfl,Nat.le_refl _,?_,?_,?_,λ _=>hh,Around.frames_deeper (hf.trans I.ok.frames),.inr ⟨rfl,rfl⟩,?_,I.bs,Nat.le_trans I.ok.bsz I.sz,?_,?_,I.stack,I.stkFree⟩,rfl,I.bare,Un.kept hk,⟨_,hn,?_⟩,?_,I.hok.fresh (Nat.le_refl _),?_,?_,I.hok.kept hk,?_⟩
  . intro x y c e1 e2
    exact I.ok.inj x y c (co x c e1) (co y c e2)
  . intro x hx
    rcases hx with e|e
    . exact absurd rfl (L.ne (x,.cell) (PySem.mem_of_lookup e))
    . exact Option.isSome_iff_exists.mp (DH (.inr (PySem.mem_of_lookup e)))
  . intro x c hf;cases hf
  . intro b hb;cases hb
  . intro b o e hb;cases hb
  . intro b hb;cases hb
  . intro i y v e1 e2 e3
    cases i with
    | zero=>
      have e1:some p=some y:=e1
      have e2:some (some x)=some (some v):=e2
      cases e1;cases e2
      exact⟨u,r,.inl ⟨L.par,if_pos rfl⟩⟩
    | succ j=>
      have e1:fr[j]? = some y:=e1
      have e2:(ix.map λ i=>(σ[i]?).join)[j]? = some (some v):=e2
      rw[List.getElem?_map]at e2
      have e4:(fr.map some)[j]? = some (some y):=by rw[List.getElem?_map,e1];rfl
      rw[S.ixs,List.getElem?_map]at e4
      cases q:ix[j]? with
      | none=>rw[q]at e2;cases e2
      | some k=>
        rw[q]at e2 e4
        have e2:(σ[k]?).join=some v:=Option.some.inj e2
        have e4:X.N[k]? = some y:=Option.some.inj e4
        have e5:σ[k]? = some (some v):=by
          cases w:σ[k]? with
          | none=>rw[w]at e2;cases e2
          | some z=>rw[w]at e2;simpa using e2
        have hfx:=List.all_eq_true.mp S.frs y (List.mem_of_getElem? e1)
        have hfx:scope.names.lookup y=some .free:=by simpa using hfx
        have hmem:=PySem.mem_of_lookup hfx
        have hout:=S.outer hmem rfl
        obtain⟨m,hm,hl⟩:=I.loc
        obtain⟨u',r',l⟩:=hl k y v e4 e5 (.inr hout)
        refine⟨u',r',.inr ⟨.inr hfx,?_⟩⟩
        rcases l with⟨kk,_⟩|⟨kk,c,ec,z⟩
        . rcases hout with w|w
          . rw[kk]at w;cases w
          . rw[kk]at w;cases w
        . obtain⟨d,hd⟩:=Option.isSome_iff_exists.mp (DH (cells:=X.env.cells) (acc:=[]) (.inr hmem))
          have:=co y d hd
          rw[ec]at this;cases this
          exact⟨c,hd,z.keeps hk⟩
  . intro x c e
    obtain⟨v,z⟩:=I.cell x c (co x c e)
    exact⟨v,z.keeps hk⟩
  . intro x c e
    exact I.freeC x c (co x c e)
  . intro p hp;cases hp
  . show(_ :: _:List (Option V)).length=(p :: fr).length
    simp[lenix]
theorem Qm(S:CSc X scope fr ix)(L:LSc scope p)(I:Inv X pins σ H s){A:Around}(hf:A.frames=X.A.frames)(hr:Room 1 A){qual:Str}{f:Addr}{cd ctv pm:Value}{params:Arguments}{body:Expr}{x:V}{u:Value}{tb:TE}{Q:VK}
    (ho:s.heap.get? f=some { cls:=.type "function",data:=.func (kla_fn "<lambda>" qual params body scope (As X.env.cells scope.names []) pm cd ctv) }) (hcd:s.heap.CodeRec cd qual)
    (hb:∀ us:Value,bindArgs (kla_fn "<lambda>" qual params body scope (As X.env.cells scope.names []) pm cd ctv) ⟨[us],[]⟩=pure [(p,us)])
    (he:∀ (s:Shared) (H:Hp),PE (lCx X A (p :: fr) qual scope f cd (As X.env.cells scope.names []) s H) body tb) (r:RelV x u) (h:tb (some x :: ix.map λ i=>(σ[i]?).join) H Q) :
    wpAny (model X.prog X.w) A (call (.ref f) [u]) (EP X pins σ Q) (λ _ _=>False) s:=by
  refine wpAny_call (codeAny_mono (R:=λ res s'=>match res with | .ok (.ret u)=>EP X pins σ Q u s'|_=>False) (kla_callFunE hr.depth ho rfl L.co L.gen rfl hcd ?_) ?_)
  . rw[hb]
    refine wpAny_pure ?_
    refine wpAny_newFunctionEnv L.ne (λ y hy=>by rw[List.mem_singleton]at hy;subst hy;exact L.par) (λ h' hns hsb=>⟨?_,?_⟩) S.kind
    . have hk:∀ b o,s.heap.get? b=some o->h'.get? b=some o:=λ b o e=>(hsb.2 b (Nat.ne_of_lt (Heap.lt_size e))).trans (Heap.get?_push_of_some _ e)
      exact I.nolimit.keeps hk
    . have hk:∀ b o,s.heap.get? b=some o->h'.get? b=some o:=λ b o e=>(hsb.2 b (Nat.ne_of_lt (Heap.lt_size e))).trans (Heap.get?_push_of_some _ e)
      have hns':h'.Ns s.heap.objs.size λ y=>if y=p then some u else none:=by
        have e:(λ y=>([(p,u)]:List (Str × Value)).reverse.lookup y)=λ y=>if y=p then some u else none:=by
          funext y
          simp only[List.reverse_cons,List.reverse_nil,List.nil_append,List.lookup_cons,List.lookup_nil]
          by_cases hy:y=p
          . subst hy;simp
          . have hb':(y == p)=false:=beq_eq_false_iff_ne.mpr hy
            simp[hb',hy]
        rw[<- e];exact hns
      have J:=Tc (t':=s.toks + 1) (qual:=qual) (f:=f) (cd:=cd) S L I hf hr.hd hk hns' r
      refine kla_codeExpr (wpAny_mono (he s H [] _ _ H Q J h) (λ v s' hv=>?_) λ _ _ z=>z.elim)
      obtain⟨y,H',J',ry,q⟩:=hv
      obtain⟨hh,g,d,t,os'⟩:=s'
      obtain rfl:os'=s.os:=J'.os
      exact⟨y,H',I.call (h':=hh) (g':=g) (d':=d) (t':=t) (ch:=[]) J'.base J'.hok J'.bare (λ b z=>absurd z (by simp)),ry,q⟩
  . intro res s' hq
    cases res with
    | error e=>exact hq
    | ok fl=>
      cases fl with
      | ret u=>exact hq
      | next=>exact hq
      | brk=>exact hq
      | cont=>exact hq
end
end L2
namespace L2
open PySem PySem.Spec PyProof.Rows PySem.W
noncomputable def cdF(c:Addr)(q:Str):Heap->Prop:=λ h=>h.CodeRec (.ref c) q
noncomputable def Ik(H:Hp)(q:Str)(pos:Pos)(ps:Array Value):Prop:=ps=#[] ∨ ∃ c,ps=#[rawInt pos.line,rawInt pos.col,.ref c]/\H c=some (.ext (cdF c q))
noncomputable def TabStep(P:Addr)(q:Str)(pos:Pos)(H H':Hp):Prop:=H'=H ∨ ∃ c,H c=none/\c ≠ P/\H'=upd (upd H P (.tbl #[rawInt pos.line,rawInt pos.col,.ref c])) c (.ext (cdF c q))
structure LamAt(X:Cx)(c P:Addr):Prop where
  code:X.env.code=.ref c
  hd:CodeHd X.base c P
  bl:X.base.BuiltinsAt X.mg P
section
variable{X:Cx}{pins:List (Addr × Obj)}{σ:St}{H:Hp}{s:Shared}{c P:Addr}{scope:Scope}{fr:List Str}{ix:List Nat}
theorem Ta(I:Inv X pins σ H s){q:Str}{ps:Array Value}{ps':Array Value}(hP:H P=some (.tbl ps)){c':Addr}{h':Heap}{t':Nat}(hx:∀ b o,b ≠ P->s.heap.get? b=some o->h'.get? b=some o)(hc:s.heap.objs.size <= c')
    (hrec:h'.CodeRec (.ref c') q) (htb:h'.get? P=some (tabObj (ps ++ ps'))):Inv X pins σ (upd (upd H P (.tbl (ps ++ ps'))) c' (.ext (cdF c' q))) { s with heap:=h',toks:=t' }:=by
  have hcn:H c'=none:=I.hok.fresh hc
  have hPc:P ≠ c':=AX hP hcn
  have nP:∀ b,H b=none->b ≠ P:=λ b n z=>by subst z;rw[hP]at n;cases n
  have other:∀ b,b ≠ P->b ≠ c'->upd (upd H P (.tbl (ps ++ ps'))) c' (.ext (cdF c' q)) b=H b:=λ b h1 h2=>by rw[AD h2,AD h1]
  have ne':∀ b u,H b=some u->b ≠ c':=λ b u e=>AX e hcn
  refine I.un (h':=h') (t':=t') ⟨λ b o e n _ _=>hx b o (nP b n) e,λ b o e n _ _=>⟨o.slots,hx b o (nP b n) e⟩,λ b o e n _=>?_,λ b o e _=>?_,λ b xs e=>?_,λ b o u e=>?_,λ b qs e=>?_⟩ λ b u e=>?_
  . rw[other b (nP b n) (Nat.ne_of_lt (Nat.lt_of_lt_of_le (Heap.lt_size e) hc))];exact n
  . by_cases z:b=P
    . subst z;exact⟨_,htb⟩
    . exact⟨o,hx b o z e⟩
  . rw[other b (λ z=>by subst z;rw[hP]at e;cases e) (ne' b _ e)];exact e
  . rw[other b (λ z=>by subst z;rw[hP]at e;cases e) (ne' b _ e)];exact e
  . by_cases z:b=P
    . subst z
      rw[hP]at e;cases e
      exact⟨ps',by rw[AD hPc,AT]⟩
    . exact⟨#[],by rw[other b z (ne' b _ e),e];simp⟩
  . by_cases z:b=c'
    . subst z
      rw[AT]at e;cases e
      obtain⟨c0,o,vs,t,e0,r⟩:=id hrec
      cases e0
      refine⟨hrec,⟨o,r.1⟩,λ h1 h2 q1 k=>?_⟩
      obtain⟨c1,o1,vs1,t1,e1,g1,r1⟩:=q1
      cases e1
      exact⟨_,o1,vs1,t1,rfl,k _ g1,r1⟩
    . by_cases z2:b=P
      . subst z2
        rw[AD hPc,AT]at e;cases e
        exact htb
      . rw[other b z2 z]at e
        refine(I.hok b u e).stay (λ d v hd q=>hx d v ?_ q) (λ d q=>?_) λ d xs q=>?_
        . rcases hd with rfl|hd
          . exact z2
          . intro y;subst y;rw[hP]at hd;cases hd
        . rw[other d (λ y=>by subst y;rw[hP]at q;cases q) (ne' d _ q)];exact q
        . rw[other d (λ y=>by subst y;rw[hP]at q;cases q) (ne' d _ q)];exact q
structure Made(X:Cx)(scope:Scope)(params:Arguments)(body:Expr)(P:Addr)(q:Str)(pos:Pos)(s:Shared)(H H':Hp)(f:Addr)(cd ctv:Value)(s':Shared):Prop where
  fn:s'.heap.get? f=some { cls:=.type "function",data:=.func (kla_fn "<lambda>" q params body scope (As X.env.cells scope.names []) ((X.mg "__name__").getD .none) cd ctv) }
  cdc:∃ c,cd=.ref c/\H' c=some (.ext (cdF c q))
  step:TabStep P q pos H H'
  new:s.heap.objs.size <= f
  fre:H' f=none
theorem Ql(S:CSc X scope fr ix)(LA:LamAt X c P)(I:Inv X pins σ H s){A:Around}{E:Value->Shared->Prop}{params:Arguments}{body:Expr}{pos:Pos}{ps:Array Value}{Q:Value->Shared->Prop}(hdef:defaultsOf params X.env=([],[]))
    (hP:H P=some (.tbl ps)) (hg:Ik H (X.env.qual ++ "<lambda>") pos ps)
    (h:∀ f cd ctv H' s',Inv X pins σ H' s'->Made X scope params body P (X.env.qual ++ "<lambda>") pos s H H' f cd ctv s'->Q (.ref f) s') :
    wpAny (model X.prog X.w) A (eval (.Lambda params body scope pos) X.env) Q E s:=by
  have hcl:closureFor scope X.env=pure (As X.env.cells scope.names []):=EQ (S.clos I.ok)
  have hns:=I.mod.glob.keeps I.bk
  have hb:=LA.bl.keeps I.bk
  have hcd:=LA.hd.keeps I.bk
  have hobj:s.heap.get? P=some (tabObj ps):=I.hok P _ hP
  have hgP:mainGlobals ≠ P:=λ z=>by
    obtain⟨o,es,ep,e,hd,_⟩:=hns
    rw[z,hobj]at e;cases e;cases hd
  refine kla_eval hdef ?_
  rcases hg with rfl|⟨c',rfl,hc'⟩
  . refine kla_makeFunction hcl I.ok.glob hns LA.code hcd hobj trivial rfl hgP hb λ c' ctv h' tk hx hge hlt hrec htb=>?_
    have hx':∀ b o,b ≠ P->s.heap.get? b=some o->(h'.push (kla_obj "<lambda>" (X.env.qual ++ "<lambda>") params body scope (As X.env.cells scope.names []) ((X.mg "__name__").getD .none) c' ctv)).get? b=some o:=λ b o n e=>Heap.get?_push_of_some _ (hx b o n e)
    have J:=Ta (t':=tk) I hP hx' hge (hrec.push _) (Heap.get?_push_of_some _ htb)
    refine h _ _ ctv _ _ J ⟨Heap.get?_push_size _ rfl,⟨c',rfl,AT⟩,.inr ⟨c',I.hok.fresh hge,(AX hP (I.hok.fresh hge)).symm,?_⟩,?_,?_⟩
    . simp
    . exact Nat.le_trans hge (Nat.le_of_lt hlt)
    . have hs:s.heap.objs.size <= h'.objs.size:=Nat.le_trans hge (Nat.le_of_lt hlt)
      rw[AD (Nat.ne_of_gt hlt),AD (Nat.ne_of_gt (Nat.lt_of_lt_of_le (Heap.lt_size hobj) hs))]
      exact I.hok.fresh hs
  . have hrec:s.heap.CodeRec (.ref c') (X.env.qual ++ "<lambda>"):=(I.hok c' _ hc').1
    have hf:codeAmong pos (#[rawInt pos.line,rawInt pos.col,Value.ref c']:Array Value).toList=some (.ref c'):=by simp[codeAmong,rawInt]
    refine kla_makeFunctionHit hcl I.ok.glob hns LA.code hcd hobj (by simp[TriplesOk,rawInt]) hf hb λ ctv h' tk hk hsz=>?_
    have hk':∀ b o,s.heap.get? b=some o->(h'.push { cls:=.type "function",data:=.func (kla_fn "<lambda>" (X.env.qual ++ "<lambda>") params body scope (As X.env.cells scope.names []) ((X.mg "__name__").getD .none) (.ref c') ctv) }).get? b=some o:=λ b o e=>Heap.get?_push_of_some _ (hk b o e)
    exact h _ _ ctv _ _ (I.kept (t':=tk) hk') ⟨Heap.get?_push_size _ rfl,⟨c',rfl,hc'⟩,.inl rfl,hsz,I.hok.fresh hsz⟩
end
end L2
namespace L2
open PySem PySem.Spec PyProof.Rows
inductive I where
  | non|bl (b:Bool)|int (i:Int)|str (x:Str)|tup (ds:List I)
inductive D where
  | im (i:I)|mu (n:Nat)|tm (ds:List D)|ro (ns:List Int)
inductive MO where
  | lst (ds:List D)|dic (kvs:List (Key × D))
noncomputable abbrev Hd:=List MO
noncomputable abbrev Ls:=List (Option D)
noncomputable def RoL(K:PySem.W.Frag)(H:Hp)(a:Addr)(xs:List V):Prop:=(∃ o,H a=some (.frz o (.lst xs))) ∨
  ∃ (o:Obj) (its:Array Value) (n:Nat),K.lookup a=some o/\o.cls=.type "list"/\o.dict=none/\o.data=.seq its n/\its.size <= sizeLine/\Vals xs its.toList
theorem RoL.sq{K:PySem.W.Frag}{H:Hp}{a:Addr}{xs:List V}(h:RoL K H a xs):SqL K H a xs:=by
  rcases h with⟨o,h⟩|h
  . exact .inl (.inr ⟨o,h⟩)
  . exact .inr h
theorem RoL.grow{K:PySem.W.Frag}{H H':Hp}{a:Addr}{xs:List V}(g:Grow H H')(h:RoL K H a xs):RoL K H' a xs:=by
  rcases h with⟨o,h⟩|h
  . exact .inl ⟨o,g.frz _ _ _ h⟩
  . exact .inr h
noncomputable def Ck(n:Nat):Prop:=n <= sizeLine
noncomputable def DG(n:Nat):Prop:=n < sizeLine
noncomputable def Dt(i j:Int):Prop:=(-(2 ^ 64) < i/\i < 2 ^ 64) ∨ (-(2 ^ 64) < j/\j < 2 ^ 64)
noncomputable def NE(i j:Int):Prop:=0 <= j/\j <= 1000000/\i.natAbs < 2 ^ 64
noncomputable def K7(j:Int):Prop:=0 < j/\j < 1073741824
noncomputable def DT(j:Int):Prop:=0 < j
noncomputable def Ej(j:Int):Prop:=-(2 ^ 62) <= j/\j < 2 ^ 62
noncomputable def Kc(i j:Int):Prop:=(-(2 ^ 62) <= i/\i < 2 ^ 62)/\-(2 ^ 62) <= j/\j < 2 ^ 62
noncomputable def IB(j:Int):Prop:=j < 2 ^ 24/\-(2 ^ 62) <= j
noncomputable def Ra(i j:Int):Prop:=(-(2 ^ 62) <= i/\i < 2 ^ 62)/\(-(2 ^ 62) <= j/\j < 2 ^ 62)/\(j - i).toNat <= 2 ^ 24
theorem BC{n:Nat}(h:n <= 1000000):Ck n:=Nat.le_trans h (by rw[sizeLine_eq];decide)
theorem CJ{n:Nat}(h:n < 1000000):DG n:=Nat.lt_of_lt_of_le h (by rw[sizeLine_eq];decide)
theorem Ci{i j:Int}(a:-1000000000000 <= i)(b:i <= 1000000000000):Dt i j:=.inl ⟨by omega,by omega⟩
theorem CN{j:Int}(a:-1000000000000 <= j)(b:j <= 1000000000000):Ej j:=⟨by omega,by omega⟩
theorem Lx{i j:Int}(a:-1000000000000 <= i)(b:i <= 1000000000000)(c:-1000000000000 <= j)(d:j <= 1000000000000):Kc i j:=⟨⟨by omega,by omega⟩,by omega,by omega⟩
theorem Kb{j:Int}(a:-1000000000000 <= j)(b:j <= 1000000):IB j:=⟨by omega,by omega⟩
section
variable(K:PySem.W.Frag)
mutual
noncomputable def RI(H:Hp):I->V->Prop
  | .non,v=>v=.non
  | .bl b,v=>v=.bl b
  | .int i,v=>v=.int i
  | .str x,v=>v=.str x
  | .tup ds,v=>∃ a xs,v=.ref a/\SqT K H a xs/\RIs H ds xs
noncomputable def RIs(H:Hp):List I->List V->Prop
  | [],xs=>xs=[]
  | d :: ds,xs=>∃ x r,xs=x :: r/\RI H d x/\RIs H ds r
end
mutual
noncomputable def RD(ρ:List Addr)(H:Hp):D->V->Prop
  | .im i,v=>RI K H i v
  | .mu n,v=>∃ a,ρ[n]? = some a/\v=.ref a
  | .tm ds,v=>∃ a xs,v=.ref a/\SqT K H a xs/\RDs ρ H ds xs
  | .ro ns,v=>∃ a,v=.ref a/\RoL K H a (ns.map V.int)
noncomputable def RDs(ρ:List Addr)(H:Hp):List D->List V->Prop
  | [],xs=>xs=[]
  | d :: ds,xs=>∃ x r,xs=x :: r/\RD ρ H d x/\RDs ρ H ds r
end
noncomputable def RKs(ρ:List Addr)(H:Hp):List (Key × D)->List (Key × V)->Prop
  | [],xs=>xs=[]
  | d :: ds,xs=>∃ x r,xs=x :: r/\x.1=d.1/\RD K ρ H d.2 x.2/\RKs ρ H ds r
noncomputable def RC(ρ:List Addr)(H:Hp):MO->HO->Prop
  | .lst ds,o=>∃ xs,o=.lst xs/\RDs K ρ H ds xs
  | .dic kvs,o=>∃ kv,o=.dK kv/\RKs K ρ H kvs kv
noncomputable def Jy:List Value->List (Addr × Str × Pos)
  | .ref P :: .str q _ :: .int l _ :: .int c _ :: r=>(P,q,⟨l.toNat,c.toNat,0,0⟩) :: Jy r
  | _=>[]
noncomputable def Vf(o:Obj):List (Addr × Str × Pos):=match o.cls,o.data with
  | .str _ _,.fields vs=>Jy vs.toList
  | _,_=>[]
noncomputable def Do(K:PySem.W.Frag):List (Addr × Str × Pos):=match K.getLast? with
  | some p=>Vf p.2
  | none=>[]
noncomputable def TabsOk(K:PySem.W.Frag)(H:Hp):Prop:=∀ x ∈ Do K,∃ ps,H x.1=some (.tbl ps)/\Ik H x.2.1 x.2.2 ps
structure RH(ρ:List Addr)(H:Hp)(hd:Hd):Prop where
  len:ρ.length=hd.length
  nd:ρ.Nodup
  tabs:TabsOk K H
  ob:∀ (n:Nat) (o:MO) (a:Addr),hd[n]? = some o->ρ[n]? = some a->∃ ho,H a=some ho/\RC K ρ H o ho
structure RL(ρ:List Addr)(H:Hp)(ls:Ls)(σ:St):Prop where
  len:ls.length=σ.length
  ob:∀ (i:Nat) (d:D),ls[i]? = some (some d)->∃ v,σ[i]? = some (some v)/\RD K ρ H d v
end
structure Ext(ρ:List Addr)(H:Hp)(ρ':List Addr)(H':Hp):Prop where
  pre:∃ r,ρ'=ρ ++ r/\∀ b ∈ r,H b=none
  keep:∀ b o,H b=some o->b ∉ ρ->(∀ ps,o ≠ .tbl ps)->H' b=some o
  tab:∀ b ps,H b=some (.tbl ps)->∃ ps',H' b=some (.tbl ps')
theorem nt{o:HO}(h:match o with | .tbl _=>False|_=>True:=by trivial):∀ ps,o ≠ .tbl ps:=λ ps e=>by subst e;exact h
theorem TabsOk.upd{K:PySem.W.Frag}{H:Hp}(t:TabsOk K H){a:Addr}{ho:HO}(h1:∀ ps,H a ≠ some (.tbl ps))(h2:∀ φ,H a ≠ some (.ext φ)):TabsOk K (upd H a ho):=λ x hx=>by
  obtain⟨ps,e,g⟩:=t x hx
  have ne:x.1 ≠ a:=λ z=>h1 ps (by rw[<- z];exact e)
  refine⟨ps,by rw[AD ne];exact e,?_⟩
  rcases g with g|⟨c,g1,g2⟩
  . exact .inl g
  . have nc:c ≠ a:=λ z=>h2 _ (by rw[<- z];exact g2)
    exact .inr ⟨c,g1,by rw[AD nc];exact g2⟩
section
variable{K:PySem.W.Frag}{ρ ρ' ρ1 ρ2:List Addr}{H H' H1 H2:Hp}{hd hd' hd1:Hd}
mutual
theorem RI.grow(g:Grow H H'):∀ {i:I} {v:V},RI K H i v->RI K H' i v
  | .non,v,h=>by simpa only[RI]using h
  | .bl b,v,h=>by simpa only[RI]using h
  | .int b,v,h=>by simpa only[RI]using h
  | .str b,v,h=>by simpa only[RI]using h
  | .tup ds,v,h=>by
    simp only[RI]at h ⊢
    obtain⟨a,xs,e,q,r⟩:=h
    exact⟨a,xs,e,g.sq q,RIs.grow g r⟩
theorem RIs.grow(g:Grow H H'):∀ {i:List I} {v:List V},RIs K H i v->RIs K H' i v
  | [],v,h=>by simpa only[RIs]using h
  | d :: ds,v,h=>by
    simp only[RIs]at h ⊢
    obtain⟨x,r,e,q,z⟩:=h
    exact⟨x,r,e,q.grow g,RIs.grow g z⟩
end
theorem RH.mut(h:RH K ρ H hd){a:Addr}(m:a ∈ ρ):(∃ xs,H a=some (.lst xs)) ∨ ∃ kv,H a=some (.dK kv):=by
  obtain⟨n,e⟩:=List.mem_iff_getElem?.mp m
  have hn:n < hd.length:=by rw[<- h.len];exact(List.getElem?_eq_some_iff.mp e).1
  obtain⟨ho,e1,e2⟩:=h.ob n hd[n] a (by simp[hn]) e
  cases q:hd[n]with
  | lst ds=>rw[q]at e2;obtain⟨xs,rfl,_⟩:=e2;exact .inl ⟨xs,e1⟩
  | dic ds=>rw[q]at e2;obtain⟨xs,rfl,_⟩:=e2;exact .inr ⟨xs,e1⟩
theorem RH.tup_out(h:RH K ρ H hd){a:Addr}{xs:List V}(e:H a=some (.tup xs)):a ∉ ρ:=λ m=>by
  rcases h.mut m with⟨y,z⟩|⟨y,z⟩ <;> (rw[e]at z;cases z)
theorem RH.frz_out(h:RH K ρ H hd){a:Addr}{o:Obj}{u:HO}(e:H a=some (.frz o u)):a ∉ ρ:=λ m=>by
  rcases h.mut m with⟨y,z⟩|⟨y,z⟩ <;> (rw[e]at z;cases z)
theorem Ext.grow(e:Ext ρ H ρ' H')(h:RH K ρ H hd):Grow H H':=⟨λ b xs q=>e.keep b _ q (h.tup_out q) nt,λ b o u q=>e.keep b _ q (h.frz_out q) nt⟩
theorem Ext.refl:Ext ρ H ρ H:=⟨⟨[],by simp,by simp⟩,λ _ _ h _ _=>h,λ _ ps h=>⟨ps,h⟩⟩
theorem Ext.trans(e:Ext ρ H ρ1 H1)(h0:RH K ρ1 H1 hd1)(e2:Ext ρ1 H1 ρ2 H2):Ext ρ H ρ2 H2:=by
  obtain⟨r1,rfl,f1⟩:=e.pre
  obtain⟨r2,rfl,f2⟩:=e2.pre
  refine⟨⟨r1 ++ r2,by simp,λ b m=>?_⟩,λ b o q n t=>?_,λ b ps q=>?_⟩
  . rcases List.mem_append.mp m with m|m
    . exact f1 b m
    . have z:=f2 b m
      cases q:H b with
      | none=>rfl
      | some o=>
        by_cases n:b ∈ ρ
        . rcases h0.mut (List.mem_append_left r1 n)with⟨y,w⟩|⟨y,w⟩ <;> (rw[z]at w;cases w)
        . by_cases t:∃ ps,o=.tbl ps
          . obtain⟨ps,rfl⟩:=t
            obtain⟨ps',this⟩:=e.tab b ps q
            rw[z]at this;cases this
          . have:=e.keep b o q n λ ps y=>t ⟨ps,y⟩
            rw[z]at this;cases this
  . refine e2.keep b o (e.keep b o q n t) (λ m=>?_) t
    rcases List.mem_append.mp m with m|m
    . exact n m
    . have:=f1 b m;rw[q]at this;cases this
  . obtain⟨ps',q'⟩:=e.tab b ps q
    exact e2.tab b ps' q'
mutual
theorem RD.mono(g:Grow H H')(r:List Addr):∀ {d:D} {v:V},RD K ρ H d v->RD K (ρ ++ r) H' d v
  | .im i,v,h=>by simp only[RD]at h ⊢;exact h.grow g
  | .mu n,v,h=>by
    simp only[RD]at h ⊢
    obtain⟨a,e,q⟩:=h
    exact⟨a,by rw[List.getElem?_append_left (List.getElem?_eq_some_iff.mp e).1];exact e,q⟩
  | .tm ds,v,h=>by
    simp only[RD]at h ⊢
    obtain⟨a,xs,e,q,z⟩:=h
    exact⟨a,xs,e,g.sq q,RDs.mono g r z⟩
  | .ro ns,v,h=>by
    simp only[RD]at h ⊢
    obtain⟨a,e,q⟩:=h
    exact⟨a,e,q.grow g⟩
theorem RDs.mono(g:Grow H H')(r:List Addr):∀ {d:List D} {v:List V},RDs K ρ H d v->RDs K (ρ ++ r) H' d v
  | [],v,h=>by simpa only[RDs]using h
  | d :: ds,v,h=>by
    simp only[RDs]at h ⊢
    obtain⟨x,r',e,q,z⟩:=h
    exact⟨x,r',e,q.mono g r,RDs.mono g r z⟩
end
theorem RKs.mono(g:Grow H H')(r:List Addr):∀ {d:List (Key × D)} {v:List (Key × V)},RKs K ρ H d v->RKs K (ρ ++ r) H' d v
  | [],v,h=>by simpa only[RKs]using h
  | d :: ds,v,h=>by
    simp only[RKs]at h ⊢
    obtain⟨x,r',e,q1,q,z⟩:=h
    exact⟨x,r',e,q1,q.mono g r,RKs.mono g r z⟩
theorem RC.mono(g:Grow H H')(r:List Addr){o:MO}{ho:HO}(h:RC K ρ H o ho):RC K (ρ ++ r) H' o ho:=by
  cases o with
  | lst ds=>obtain⟨xs,e,q⟩:=h;exact⟨xs,e,q.mono g r⟩
  | dic ds=>obtain⟨xs,e,q⟩:=h;exact⟨xs,e,q.mono g r⟩
theorem RD.ext(h:RH K ρ H hd)(e:Ext ρ H ρ' H'){d:D}{v:V}(q:RD K ρ H d v):RD K ρ' H' d v:=by
  obtain⟨r,rfl,_⟩:=e.pre
  exact q.mono (e.grow h) r
theorem RDs.ext(h:RH K ρ H hd)(e:Ext ρ H ρ' H'){d:List D}{v:List V}(q:RDs K ρ H d v):RDs K ρ' H' d v:=by
  obtain⟨r,rfl,_⟩:=e.pre
  exact q.mono (e.grow h) r
theorem RL.ext(h:RH K ρ H hd)(e:Ext ρ H ρ' H'){ls:Ls}{σ:St}(q:RL K ρ H ls σ):RL K ρ' H' ls σ:=
  ⟨q.len,λ i d z=>let ⟨v,a,b⟩:=q.ob i d z;⟨v,a,b.ext h e⟩⟩
theorem RDs.len:∀ {ds:List D} {xs:List V},RDs K ρ H ds xs->xs.length=ds.length
  | [],xs,h=>by simp only[RDs]at h;rw[h];rfl
  | d :: ds,xs,h=>by
    simp only[RDs]at h
    obtain⟨x,r,rfl,_,z⟩:=h
    simp[RDs.len z]
theorem RDs.get:∀ {ds:List D} {xs:List V} {i:Nat} {d:D},RDs K ρ H ds xs->ds[i]? = some d->∃ x,xs[i]? = some x/\RD K ρ H d x
  | [],xs,i,d,h,e=>by simp at e
  | d :: ds,xs,0,e,h,q=>by
    simp only[RDs]at h
    obtain⟨x,r,rfl,z,_⟩:=h
    simp at q;subst q
    exact⟨x,rfl,z⟩
  | d :: ds,xs,i + 1,e,h,q=>by
    simp only[RDs]at h
    obtain⟨x,r,rfl,_,z⟩:=h
    obtain⟨y,a,b⟩:=RDs.get (i:=i) z (by simpa using q)
    exact⟨y,by simpa using a,b⟩
theorem RDs.nil:RDs K ρ H [] []:=by simp[RDs]
theorem RDs.cons{d:D}{v:V}{ds:List D}{vs:List V}(h:RD K ρ H d v)(t:RDs K ρ H ds vs):RDs K ρ H (d :: ds) (v :: vs):=by
  simp only[RDs];exact⟨v,vs,rfl,h,t⟩
theorem RDs.app:∀ {ds es:List D} {xs ys:List V},RDs K ρ H ds xs->RDs K ρ H es ys->RDs K ρ H (ds ++ es) (xs ++ ys)
  | [],es,xs,ys,h,t=>by simp only[RDs]at h;subst h;simpa using t
  | d :: ds,es,xs,ys,h,t=>by
    simp only[RDs]at h
    obtain⟨x,r,rfl,z,q⟩:=h
    simp only[List.cons_append]
    exact .cons z (q.app t)
theorem RDs.set:∀ {ds:List D} {xs:List V} {d:D} {v:V} (i:Nat),RDs K ρ H ds xs->RD K ρ H d v->RDs K ρ H (ds.set i d) (xs.set i v)
  | [],xs,d,v,i,h,t=>by simp only[RDs]at h;subst h;simp[RDs]
  | d :: ds,xs,e,v,0,h,t=>by
    simp only[RDs]at h
    obtain⟨x,r,rfl,z,q⟩:=h
    simpa using RDs.cons t q
  | d :: ds,xs,e,v,i + 1,h,t=>by
    simp only[RDs]at h
    obtain⟨x,r,rfl,z,q⟩:=h
    simpa using RDs.cons z (q.set i t)
theorem RDs.drop:∀ {ds:List D} {xs:List V} (n:Nat),RDs K ρ H ds xs->RDs K ρ H (ds.drop n) (xs.drop n)
  | ds,xs,0,h=>by simpa using h
  | [],xs,n + 1,h=>by simp only[RDs]at h;subst h;simp[RDs]
  | d :: ds,xs,n + 1,h=>by
    simp only[RDs]at h
    obtain⟨x,r,rfl,z,q⟩:=h
    simpa using q.drop n
theorem RDs.take:∀ {ds:List D} {xs:List V} (n:Nat),RDs K ρ H ds xs->RDs K ρ H (ds.take n) (xs.take n)
  | ds,xs,0,h=>by simp[RDs]
  | [],xs,n + 1,h=>by simp only[RDs]at h;subst h;simp[RDs]
  | d :: ds,xs,n + 1,h=>by
    simp only[RDs]at h
    obtain⟨x,r,rfl,z,q⟩:=h
    simpa using RDs.cons z (q.take n)
theorem RIs.ds:∀ {is:List I} {xs:List V},RIs K H is xs->RDs K ρ H (is.map D.im) xs
  | [],xs,h=>by simpa only[RIs,RDs,List.map_nil]using h
  | i :: is,xs,h=>by
    simp only[RIs]at h
    obtain⟨x,r,rfl,z,q⟩:=h
    exact .cons (by simpa only[RD]using z) q.ds
theorem RDs.is:∀ {is:List I} {xs:List V},RDs K ρ H (is.map D.im) xs->RIs K H is xs
  | [],xs,h=>by simpa only[RIs,RDs,List.map_nil]using h
  | i :: is,xs,h=>by
    simp only[List.map_cons,RDs]at h
    obtain⟨x,r,rfl,z,q⟩:=h
    simp only[RIs]
    exact⟨x,r,rfl,by simpa only[RD]using z,q.is⟩
theorem RH.new(h:RH K ρ H hd){a:Addr}(ha:H a=none){o:MO}{ho:HO}(c:RC K ρ H o ho):RH K (ρ ++ [a]) (upd H a ho) (hd ++ [o])/\Ext ρ H (ρ ++ [a]) (upd H a ho):=by
  have out:a ∉ ρ:=λ m=>by rcases h.mut m with⟨y,z⟩|⟨y,z⟩ <;> (rw[ha]at z;cases z)
  have ex:Ext ρ H (ρ ++ [a]) (upd H a ho):=⟨⟨[a],rfl,λ b m=>by simp at m;subst m;exact ha⟩,λ b o q n _=>by rw[AD (AX q ha)];exact q,λ b ps q=>⟨ps,by rw[AD (AX q ha)];exact q⟩⟩
  refine⟨⟨by simp[h.len],?_,h.tabs.upd (by simp[ha]) (by simp[ha]),λ n o' b e1 e2=>?_⟩,ex⟩
  . rw[List.nodup_append]
    refine⟨h.nd,by simp,λ x hx y hy z=>?_⟩
    simp at hy;subst hy;subst z;exact out hx
  . have gr:=ex.grow h
    by_cases hn:n < ρ.length
    . rw[List.getElem?_append_left hn]at e2
      rw[List.getElem?_append_left (by rw[<- h.len];exact hn)]at e1
      obtain⟨ho',q1,q2⟩:=h.ob n o' b e1 e2
      exact⟨ho',by rw[AD (AX q1 ha)];exact q1,q2.mono gr [a]⟩
    . have hn':n=ρ.length:=by
        have:=(List.getElem?_eq_some_iff.mp e2).1
        simp at this;omega
      subst hn'
      simp at e2
      rw[h.len]at e1
      simp at e1
      subst e1;subst e2
      exact⟨ho,AT,c.mono gr [a]⟩
theorem RH.put(h:RH K ρ H hd){n:Nat}{a:Addr}(hn:ρ[n]? = some a){o:MO}{ho:HO}(c:RC K ρ H o ho):RH K ρ (upd H a ho) (hd.set n o)/\Ext ρ H ρ (upd H a ho):=by
  have ha:=h.mut (List.mem_of_getElem? hn)
  have n1:∀ ps,H a ≠ some (.tbl ps):=λ ps e=>by rcases ha with⟨y,z⟩|⟨y,z⟩ <;> (rw[e]at z;cases z)
  have n2:∀ φ,H a ≠ some (.ext φ):=λ ps e=>by rcases ha with⟨y,z⟩|⟨y,z⟩ <;> (rw[e]at z;cases z)
  have ex:Ext ρ H ρ (upd H a ho):=⟨⟨[],by simp,by simp⟩,λ b o q m _=>by
    have:b ≠ a:=λ z=>m (by rw[z];exact List.mem_of_getElem? hn)
    rw[AD this];exact q,λ b ps q=>⟨ps,(AD (show b ≠ a from λ z=>n1 ps (by rw[<- z];exact q))).trans q⟩⟩
  have gr:=ex.grow h
  refine⟨⟨by simp[h.len],h.nd,h.tabs.upd n1 n2,λ m o' b e1 e2=>?_⟩,ex⟩
  have hm:m < hd.length:=by rw[<- h.len];exact(List.getElem?_eq_some_iff.mp e2).1
  by_cases hmn:m=n
  . subst hmn
    rw[hn]at e2;cases e2
    rw[List.getElem?_set_self hm]at e1
    cases e1
    exact⟨ho,AT,by simpa using c.mono gr []⟩
  . rw[List.getElem?_set_ne (λ z=>hmn z.symm)]at e1
    obtain⟨ho',q1,q2⟩:=h.ob m o' b e1 e2
    have:b ≠ a:=λ z=>by
      subst z
      have l1:=(List.getElem?_eq_some_iff.mp e2).1
      have l2:=(List.getElem?_eq_some_iff.mp hn).1
      exact hmn ((List.getElem?_inj l1 h.nd).mp (e2.trans hn.symm))
    exact⟨ho',by rw[AD this];exact q1,by simpa using q2.mono gr []⟩
theorem RH.lst(h:RH K ρ H hd){n:Nat}{a:Addr}{ds:List D}(hn:ρ[n]? = some a)(e:hd[n]? = some (.lst ds)):∃ xs,H a=some (.lst xs)/\RDs K ρ H ds xs:=by
  obtain⟨ho,q,xs,rfl,r⟩:=h.ob n _ a e hn
  exact⟨xs,q,r⟩
theorem RH.dic(h:RH K ρ H hd){n:Nat}{a:Addr}{ds:List (Key × D)}(hn:ρ[n]? = some a)(e:hd[n]? = some (.dic ds)):∃ xs,H a=some (.dK xs)/\RKs K ρ H ds xs:=by
  obtain⟨ho,q,xs,rfl,r⟩:=h.ob n _ a e hn
  exact⟨xs,q,r⟩
theorem RH.hid(h:RH K ρ H hd){a:Addr}(ha:H a=none){ho:HO}:RH K ρ (upd H a ho) hd/\Ext ρ H ρ (upd H a ho):=by
  have out:a ∉ ρ:=λ m=>by rcases h.mut m with⟨y,z⟩|⟨y,z⟩ <;> (rw[ha]at z;cases z)
  have ex:Ext ρ H ρ (upd H a ho):=⟨⟨[],by simp,by simp⟩,λ b o q n _=>by rw[AD (AX q ha)];exact q,λ b ps q=>⟨ps,by rw[AD (AX q ha)];exact q⟩⟩
  have gr:=ex.grow h
  refine⟨⟨h.len,h.nd,h.tabs.upd (by simp[ha]) (by simp[ha]),λ m o' b e1 e2=>?_⟩,ex⟩
  obtain⟨ho',q1,q2⟩:=h.ob m o' b e1 e2
  exact⟨ho',by rw[AD (AX q1 ha)];exact q1,by simpa using q2.mono gr []⟩
theorem RH.hput(h:RH K ρ H hd){a:Addr}(out:a ∉ ρ){xs:List V}{ho:HO}(hl:H a=some (.lst xs)):RH K ρ (upd H a ho) hd:=by
  have gr:Grow H (upd H a ho):=Grow.refl.put (.lst hl)
  refine⟨h.len,h.nd,h.tabs.upd (by simp[hl]) (by simp[hl]),λ m o' b e1 e2=>?_⟩
  obtain⟨ho',q1,q2⟩:=h.ob m o' b e1 e2
  have:b ≠ a:=λ z=>out (by rw[<- z];exact List.mem_of_getElem? e2)
  exact⟨ho',by rw[AD this];exact q1,by simpa using q2.mono gr []⟩
end
end L2
namespace L2
open PySem PySem.Spec PyProof.Rows
noncomputable abbrev ME:=Ls->Hd->Option (D × Hd)
noncomputable abbrev MT:=Ls->Hd->Option (Bool × Hd)
noncomputable abbrev MA:=Ls->Hd->Option (List D × Hd)
inductive Fl where
  | nx (ls:Ls)|rt (d:D)|bk (ls:Ls)|ct (ls:Ls)
noncomputable abbrev MS:=Ls->Hd->Option (Fl × Hd)
section
variable(K:PySem.W.Frag)
noncomputable def RE(t:TE)(m:ME):Prop:=∀ (ρ:List Addr) (σ:St) (H:Hp) (hd:Hd) (ls:Ls) (Q:VK) (d:D) (hd':Hd),RH K ρ H hd->RL K ρ H ls σ->m ls hd=some (d,hd') ->
  (∀ ρ' H' v,Ext ρ H ρ' H'->RH K ρ' H' hd'->RD K ρ' H' d v->Q v H')->t σ H Q
noncomputable def RT(t:TT)(m:MT):Prop:=∀ (ρ:List Addr) (σ:St) (H:Hp) (hd:Hd) (ls:Ls) (Q:Bool->Hp->Prop) (d:Bool) (hd':Hd),RH K ρ H hd->RL K ρ H ls σ->m ls hd=some (d,hd') ->
  (∀ ρ' H',Ext ρ H ρ' H'->RH K ρ' H' hd'->Q d H')->t σ H Q
noncomputable def RA(t:TA)(m:MA):Prop:=∀ (ρ:List Addr) (σ:St) (H:Hp) (hd:Hd) (ls:Ls) (Q:List V->Hp->Prop) (d:List D) (hd':Hd),RH K ρ H hd->RL K ρ H ls σ->m ls hd=some (d,hd') ->
  (∀ ρ' H' v,Ext ρ H ρ' H'->RH K ρ' H' hd'->RDs K ρ' H' d v->Q v H')->t σ H Q
noncomputable def RN(t:TE)(m:MA):Prop:=∀ (ρ:List Addr) (σ:St) (H:Hp) (hd:Hd) (ls:Ls) (Q:VK) (d:List D) (hd':Hd),RH K ρ H hd->RL K ρ H ls σ->m ls hd=some (d,hd') ->
  (∀ ρ' H' a xs,Ext ρ H ρ' H'->RH K ρ' H' hd'->H a=none->a ∉ ρ'->H' a=some (.lst xs)->RDs K ρ' H' d xs->Q (.ref a) H')->t σ H Q
noncomputable def WQ(E:Ends)(ρ:List Addr)(H:Hp):Fl->Prop
  | .nx ls=>∀ σ,RL K ρ H ls σ->E.nx σ H
  | .bk ls=>∀ σ,RL K ρ H ls σ->E.bk σ H
  | .ct ls=>∀ σ,RL K ρ H ls σ->E.ct σ H
  | .rt d=>∀ v,RD K ρ H d v->E.rt v H
noncomputable def RS(t:TS)(m:MS):Prop:=∀ (ρ:List Addr) (σ:St) (H:Hp) (hd:Hd) (ls:Ls) (E:Ends) (f:Fl) (hd':Hd),RH K ρ H hd->RL K ρ H ls σ->m ls hd=some (f,hd') ->
  (∀ ρ' H',Ext ρ H ρ' H'->RH K ρ' H' hd'->WQ K E ρ' H' f)->t E σ H
noncomputable def RB(r:R2)(f:D->D->Hd->Option (D × Hd)):Prop:=∀ (ρ:List Addr) (H:Hp) (hd:Hd) (d e:D) (v u:V) (Q:VK) (z:D) (hd':Hd),RH K ρ H hd->RD K ρ H d v->RD K ρ H e u->f d e hd=some (z,hd') ->
  (∀ ρ' H' w,Ext ρ H ρ' H'->RH K ρ' H' hd'->RD K ρ' H' z w->Q w H')->r v u H Q
noncomputable def RF(r:List V->Hp->VK->Prop)(f:List D->Hd->Option (D × Hd)):Prop:=∀ (ρ:List Addr) (H:Hp) (hd:Hd) (ds:List D) (vs:List V) (Q:VK) (z:D) (hd':Hd),RH K ρ H hd->RDs K ρ H ds vs->f ds hd=some (z,hd') ->
  (∀ ρ' H' w,Ext ρ H ρ' H'->RH K ρ' H' hd'->RD K ρ' H' z w->Q w H')->r vs H Q
noncomputable def RG(tp:Bool)(r:List V->Hp->VK->Prop)(g:List D->Option D):Prop:=∀ (ρ:List Addr) (H:Hp) (hd:Hd) (a:Addr) (xs:List V) (ds:List D) (Q:VK) (z:D),RH K ρ H hd->(SqL K H a xs ∨ (tp=true/\SqT K H a xs))->RDs K ρ H ds xs->g ds=some z ->
  (∀ H' w,Ext ρ H ρ H'->RH K ρ H' hd->RD K ρ H' z w->Q w H')->r [.ref a] H Q
end
structure QE(K:PySem.W.Frag)(X:Cx)(e:Expr)(t:TE)(m:ME):Prop where
  p:PE X e t
  r:RE K t m
structure QT(K:PySem.W.Frag)(X:Cx)(e:Expr)(t:TT)(m:MT):Prop where
  p:PT X e t
  r:RT K t m
structure QW(K:PySem.W.Frag)(X:Cx)(e:Expr)(t:TT)(m:MT):Prop where
  p:PW X e t
  r:RT K t m
structure QA(K:PySem.W.Frag)(X:Cx)(e:List Expr)(t:TA)(m:MA):Prop where
  p:PA X e t
  r:RA K t m
structure QN(K:PySem.W.Frag)(X:Cx)(e:Expr)(t:TE)(m:MA):Prop where
  p:PE X e t
  r:RN K t m
structure QS(K:PySem.W.Frag)(X:Cx)(e:Stmt)(t:TS)(m:MS):Prop where
  p:PS X e t
  r:RS K t m
structure QSs(K:PySem.W.Frag)(X:Cx)(e:List Stmt)(t:TS)(m:MS):Prop where
  p:PSs X e t
  r:RS K t m
noncomputable def At:D->Option (List D)
  | .im (.tup is)=>some (is.map .im)
  | .tm ds=>some ds
  | _=>none
noncomputable def BM(hd:Hd):D->Option (List D)
  | .mu n=>match hd[n]? with
    | some (.lst ds)=>some ds
    | _=>none
  | .ro ns=>some (ns.map λ n=>.im (.int n))
  | _=>none
noncomputable def BI(hd:Hd)(d:D):Option (List D):=match At d with
  | some ds=>some ds
  | none=>BM hd d
noncomputable def Be:List D->Option (List I)
  | []=>some []
  | .im i :: r=>(Be r).map (i :: ·)
  | _ :: _=>none
noncomputable def Ao(ds:List D):D:=match Be ds with
  | some is=>.im (.tup is)
  | none=>.tm ds
noncomputable def BD:List D->Option (List Int)
  | []=>some []
  | .im (.int i) :: r=>(BD r).map (i :: ·)
  | _ :: _=>none
noncomputable def Cb:List D->Option (List Bool)
  | []=>some []
  | .im (.bl i) :: r=>(Cb r).map (i :: ·)
  | _ :: _=>none
section
variable{K:PySem.W.Frag}{ρ ρ':List Addr}{H H':Hp}{hd hd':Hd}
theorem G4:∀ {ds:List D} {is:List I},Be ds=some is->ds=is.map .im
  | [],is,h=>by simp[Be]at h;subst h;rfl
  | .im i :: r,is,h=>by
    simp only[Be,Option.map_eq_some_iff]at h
    obtain⟨js,e,rfl⟩:=h
    simp[G4 e]
  | .mu _ :: _,is,h=>by simp[Be]at h
  | .tm _ :: _,is,h=>by simp[Be]at h
  | .ro _ :: _,is,h=>by simp[Be]at h
theorem Db:∀ {ds:List D} {is:List Int},BD ds=some is->ds=is.map λ i=>.im (.int i)
  | [],is,h=>by simp[BD]at h;subst h;rfl
  | .im (.int i) :: r,is,h=>by
    simp only[BD,Option.map_eq_some_iff]at h
    obtain⟨js,e,rfl⟩:=h
    simp[Db e]
  | .im (.bl _) :: _,is,h=>by simp[BD]at h
  | .im (.str _) :: _,is,h=>by simp[BD]at h
  | .im .non :: _,is,h=>by simp[BD]at h
  | .im (.tup _) :: _,is,h=>by simp[BD]at h
  | .mu _ :: _,is,h=>by simp[BD]at h
  | .tm _ :: _,is,h=>by simp[BD]at h
  | .ro _ :: _,is,h=>by simp[BD]at h
theorem Mg:∀ {ds:List D} {is:List Bool},Cb ds=some is->ds=is.map λ i=>.im (.bl i)
  | [],is,h=>by simp[Cb]at h;subst h;rfl
  | .im (.bl i) :: r,is,h=>by
    simp only[Cb,Option.map_eq_some_iff]at h
    obtain⟨js,e,rfl⟩:=h
    simp[Mg e]
  | .im (.int _) :: _,is,h=>by simp[Cb]at h
  | .im (.str _) :: _,is,h=>by simp[Cb]at h
  | .im .non :: _,is,h=>by simp[Cb]at h
  | .im (.tup _) :: _,is,h=>by simp[Cb]at h
  | .mu _ :: _,is,h=>by simp[Cb]at h
  | .tm _ :: _,is,h=>by simp[Cb]at h
  | .ro _ :: _,is,h=>by simp[Cb]at h
@[simp] theorem PH(is:List I):Be (is.map .im)=some is:=by induction is <;> simp_all [Be]
@[simp] theorem EO(is:List Int):BD (is.map λ i=>.im (.int i))=some is:=by induction is <;> simp_all [BD]
@[simp] theorem LU(is:List Bool):Cb (is.map λ i=>.im (.bl i))=some is:=by induction is <;> simp_all [Cb]
theorem Gn:∀ {ns:List Int} {xs:List V},RDs K ρ H (ns.map λ i=>.im (.int i)) xs->xs=ns.map V.int
  | [],xs,h=>by simpa [RDs]using h
  | n :: ns,xs,h=>by
    simp only[List.map_cons,RDs,RD,RI]at h
    obtain⟨x,r,rfl,rfl,z⟩:=h
    rw[Gn z];rfl
theorem Ec:∀ {ns:List Int},RDs K ρ H (ns.map λ i=>.im (.int i)) (ns.map V.int)
  | []=>by simp[RDs]
  | n :: ns=>by simp only[List.map_cons];exact .cons (by simp[RD,RI]) Ec
theorem OC:∀ {ns:List Bool} {xs:List V},RDs K ρ H (ns.map λ i=>.im (.bl i)) xs->xs=ns.map V.bl
  | [],xs,h=>by simpa [RDs]using h
  | n :: ns,xs,h=>by
    simp only[List.map_cons,RDs,RD,RI]at h
    obtain⟨x,r,rfl,rfl,z⟩:=h
    rw[OC z];rfl
theorem RD.tup{d:D}{v:V}{ds:List D}(h:RD K ρ H d v)(e:At d=some ds):∃ a xs,v=.ref a/\SqT K H a xs/\RDs K ρ H ds xs:=by
  cases d with
  | im i=>
    cases i with
    | tup is=>
      simp only[At,Option.some.injEq]at e
      subst e
      simp only[RD,RI]at h
      obtain⟨a,xs,rfl,q,r⟩:=h
      exact⟨a,xs,rfl,q,r.ds⟩
    | _=>simp[At]at e
  | tm es=>
    simp only[At,Option.some.injEq]at e
    subst e
    simpa only[RD]using h
  | _=>simp[At]at e
theorem RD.lst{d:D}{v:V}{ds:List D}(hR:RH K ρ H hd)(h:RD K ρ H d v)(e:BM hd d=some ds):∃ a xs,v=.ref a/\SqL K H a xs/\RDs K ρ H ds xs:=by
  cases d with
  | mu n=>
    simp only[BM]at e
    simp only[RD]at h
    obtain⟨a,hn,rfl⟩:=h
    split at e
    . next q=>
      cases e
      obtain⟨xs,e1,e2⟩:=hR.lst hn q
      exact⟨a,xs,rfl,SqL.of e1,e2⟩
    . cases e
  | ro ns=>
    simp only[BM,Option.some.injEq]at e
    subst e
    simp only[RD]at h
    obtain⟨a,rfl,q⟩:=h
    exact⟨a,_,rfl,q.sq,Ec⟩
  | _=>simp[BM]at e
theorem RD.seq{d:D}{v:V}{ds:List D}(hR:RH K ρ H hd)(h:RD K ρ H d v)(e:BI hd d=some ds):∃ a xs,v=.ref a/\(SqL K H a xs ∨ SqT K H a xs)/\RDs K ρ H ds xs:=by
  unfold BI at e
  split at e
  . next q=>
    cases e
    obtain⟨a,xs,e1,e2,e3⟩:=h.tup q
    exact⟨a,xs,e1,.inr e2,e3⟩
  . obtain⟨a,xs,e1,e2,e3⟩:=h.lst hR e
    exact⟨a,xs,e1,.inl e2,e3⟩
theorem DX{ds:List D}{a:Addr}{xs:List V}(q:SqT K H a xs)(r:RDs K ρ H ds xs):RD K ρ H (Ao ds) (.ref a):=by
  unfold Ao
  split
  . next e=>
    rw[G4 e]at r
    simp only[RD,RI]
    exact⟨a,xs,rfl,q,r.is⟩
  . simp only[RD]
    exact⟨a,xs,rfl,q,r⟩
noncomputable def A0(i:Nat):ME:=λ ls hd=>match ls[i]? with
  | some (some d)=>some (d,hd)
  | _=>none
theorem UL{i:Nat}:RE K (Pa i) (A0 i):=by
  intro ρ σ H hd ls Q d hd' hR hL hm hQ
  unfold A0 at hm
  split at hm
  . next e=>
    cases hm
    obtain⟨v,e1,e2⟩:=hL.ob i _ e
    exact⟨v,e1,hQ ρ H v .refl hR e2⟩
  . cases hm
noncomputable def mC(i:I):ME:=λ _ hd=>some (.im i,hd)
theorem Q8{v:V}{i:I}(h:∀ H,RI K H i v):RE K (tC v) (mC i):=by
  intro ρ σ H hd ls Q d hd' hR hL hm hQ
  cases hm
  exact hQ ρ H v .refl hR (by simpa only[RD]using h H)
noncomputable def mOp(f:D->D->Hd->Option (D × Hd))(ma mb:ME):ME:=λ ls hd=>(ma ls hd).bind λ p=>(mb ls p.2).bind λ q=>f p.1 q.1 q.2
theorem Jz{r:R2}{f:D->D->Hd->Option (D × Hd)}{ta tb:TE}{ma mb:ME}(hr:RB K r f)(ha:RE K ta ma)(hb:RE K tb mb):RE K (tOp r ta tb) (mOp f ma mb):=by
  intro ρ σ H hd ls Q d hd' hR hL hm hQ
  obtain⟨⟨d1,h1⟩,e1,hm⟩:=Option.bind_eq_some_iff.mp hm
  obtain⟨⟨d2,h2⟩,e2,hm⟩:=Option.bind_eq_some_iff.mp hm
  refine ha ρ σ H hd ls _ d1 h1 hR hL e1 λ ρ1 H1 v1 x1 R1 r1=>?_
  refine hb ρ1 σ H1 h1 ls _ d2 h2 R1 (hL.ext hR x1) e2 λ ρ2 H2 v2 x2 R2 r2=>?_
  exact hr ρ2 H2 h2 d1 d2 v1 v2 Q d hd' R2 (r1.ext R1 x2) r2 hm λ ρ' H' w x3 R3 r3=>hQ ρ' H' w ((x1.trans R1 x2).trans R2 x3) R3 r3
noncomputable def GW(ta tb:MT):MT:=λ ls hd=>(ta ls hd).bind λ p=>if p.1=true then tb ls p.2 else some (false,p.2)
noncomputable def mOr(ta tb:MT):MT:=λ ls hd=>(ta ls hd).bind λ p=>if p.1=true then some (true,p.2)else tb ls p.2
noncomputable def Fr(ta:MT):MT:=λ ls hd=>(ta ls hd).bind λ p=>some (!p.1,p.2)
theorem U9{ta tb:TT}{ma mb:MT}(ha:RT K ta ma)(hb:RT K tb mb):RT K (Pq ta tb) (GW ma mb):=by
  intro ρ σ H hd ls Q d hd' hR hL hm hQ
  obtain⟨⟨d1,h1⟩,e1,hm⟩:=Option.bind_eq_some_iff.mp hm
  refine ha ρ σ H hd ls _ d1 h1 hR hL e1 λ ρ1 H1 x1 R1=>?_
  cases d1 with
  | true=>
    rw[if_pos rfl]at hm ⊢
    exact hb ρ1 σ H1 h1 ls Q d hd' R1 (hL.ext hR x1) hm λ ρ2 H2 x2 R2=>hQ ρ2 H2 (x1.trans R1 x2) R2
  | false=>
    rw[if_neg Bool.false_ne_true]at hm ⊢
    cases hm
    exact hQ ρ1 H1 x1 R1
theorem Vi{ta tb:TT}{ma mb:MT}(ha:RT K ta ma)(hb:RT K tb mb):RT K (tOr ta tb) (mOr ma mb):=by
  intro ρ σ H hd ls Q d hd' hR hL hm hQ
  obtain⟨⟨d1,h1⟩,e1,hm⟩:=Option.bind_eq_some_iff.mp hm
  refine ha ρ σ H hd ls _ d1 h1 hR hL e1 λ ρ1 H1 x1 R1=>?_
  cases d1 with
  | true=>
    rw[if_pos rfl]at hm ⊢
    cases hm
    exact hQ ρ1 H1 x1 R1
  | false=>
    rw[if_neg Bool.false_ne_true]at hm ⊢
    exact hb ρ1 σ H1 h1 ls Q d hd' R1 (hL.ext hR x1) hm λ ρ2 H2 x2 R2=>hQ ρ2 H2 (x1.trans R1 x2) R2
theorem U8{ta:TT}{ma:MT}(ha:RT K ta ma):RT K (Pi ta) (Fr ma):=by
  intro ρ σ H hd ls Q d hd' hR hL hm hQ
  obtain⟨⟨d1,h1⟩,e1,hm⟩:=Option.bind_eq_some_iff.mp hm
  cases hm
  exact ha ρ σ H hd ls _ d1 h1 hR hL e1 λ ρ1 H1 x1 R1=>hQ ρ1 H1 x1 R1
open Classical in
noncomputable def Dn(hd:Hd):D->Option Bool
  | .im .non=>some false
  | .im (.bl b)=>some b
  | .im (.int i)=>some (i != 0)
  | .im (.str x)=>if Ck x.length then some ((x.length:Int) != 0)else none
  | .im (.tup is)=>some (!is.isEmpty)
  | .tm is=>some (!is.isEmpty)
  | .ro ns=>some (!ns.isEmpty)
  | .mu n=>match hd[n]? with
    | some (.lst ds)=>some (!ds.isEmpty)
    | some (.dic ds)=>some (!ds.isEmpty)
    | none=>none
theorem DN{α β:Type}{xs:List α}{ys:List β}(h:xs.length=ys.length):xs.isEmpty=ys.isEmpty:=by
  cases xs <;> cases ys <;> simp_all
theorem RKs.len:∀ {ds:List (Key × D)} {xs:List (Key × V)},RKs K ρ H ds xs->xs.length=ds.length
  | [],xs,h=>by simp only[RKs]at h;rw[h];rfl
  | d :: ds,xs,h=>by
    simp only[RKs]at h
    obtain⟨x,r,rfl,_,_,z⟩:=h
    simp[RKs.len z]
theorem S5{d:D}{v:V}{b:Bool}(hR:RH K ρ H hd)(h:RD K ρ H d v)(e:Dn hd d=some b):LX K v H b:=by
  cases d with
  | im i=>
    cases i with
    | non=>simp only[RD,RI]at h;subst h;simp only[Dn,Option.some.injEq]at e;subst e;exact rfl
    | bl c=>simp only[RD,RI]at h;subst h;simp only[Dn,Option.some.injEq]at e;subst e;exact rfl
    | int c=>simp only[RD,RI]at h;subst h;simp only[Dn,Option.some.injEq]at e;subst e;exact rfl
    | str c=>
      simp only[RD,RI]at h;subst h;simp only[Dn]at e
      split at e
      . next z=>cases e;exact⟨z,rfl⟩
      . cases e
    | tup is=>
      obtain⟨a,xs,rfl,q,r⟩:=h.tup (ds:=is.map .im) rfl
      simp only[Dn,Option.some.injEq]at e;subst e
      exact .inr (.inl ⟨xs,q,by rw[DN (show xs.length=is.length by simpa using r.len)]⟩)
  | tm ds=>
    obtain⟨a,xs,rfl,q,r⟩:=h.tup (ds:=ds) rfl
    simp only[Dn,Option.some.injEq]at e;subst e
    exact .inr (.inl ⟨xs,q,by rw[DN r.len]⟩)
  | ro ns=>
    obtain⟨a,xs,rfl,q,r⟩:=h.lst hR (hd:=hd) (ds:=ns.map λ n=>.im (.int n)) rfl
    simp only[Dn,Option.some.injEq]at e;subst e
    exact .inl ⟨xs,q,by rw[DN (show xs.length=ns.length by simpa using r.len)]⟩
  | mu n=>
    simp only[RD]at h
    obtain⟨a,hn,rfl⟩:=h
    simp only[Dn]at e
    split at e
    . next q=>
      cases e
      obtain⟨xs,e1,e2⟩:=hR.lst hn q
      exact .inl ⟨xs,SqL.of e1,by rw[DN e2.len]⟩
    . next q=>
      cases e
      obtain⟨xs,e1,e2⟩:=hR.dic hn q
      exact .inr (.inr ⟨xs,e1,by rw[DN e2.len]⟩)
    . cases e
noncomputable def Dv(ma:ME):MT:=λ ls hd=>(ma ls hd).bind λ p=>(Dn p.2 p.1).map (·,p.2)
theorem Px{ta:TE}{ma:ME}(ha:RE K ta ma):RT K (λ σ H Q=>ta σ H λ x H'=>∃ k,LX K x H' k/\Q k H') (Dv ma):=by
  intro ρ σ H hd ls Q d hd' hR hL hm hQ
  obtain⟨⟨d1,h1⟩,e1,hm⟩:=Option.bind_eq_some_iff.mp hm
  obtain⟨b,e2,e3⟩:=Option.map_eq_some_iff.mp hm
  cases e3
  exact ha ρ σ H hd ls _ d1 h1 hR hL e1 λ ρ1 H1 v x1 R1 r1=>⟨_,S5 R1 r1 e2,hQ ρ1 H1 x1 R1⟩
noncomputable def AQ(ma:ME):MT:=λ ls hd=>(ma ls hd).bind λ p=>match p.1 with
  | .im (.bl b)=>some (b,p.2)
  | _=>none
theorem EY{ta:TE}{ma:ME}(ha:RE K ta ma):RT K (Hv ta) (AQ ma):=by
  intro ρ σ H hd ls Q d hd' hR hL hm hQ
  obtain⟨⟨d1,h1⟩,e1,hm⟩:=Option.bind_eq_some_iff.mp hm
  dsimp only at hm
  split at hm
  . cases hm
    exact ha ρ σ H hd ls _ _ _ hR hL e1 λ ρ1 H1 v x1 R1 r1=>⟨_,by simpa only[RD,RI]using r1,hQ ρ1 H1 x1 R1⟩
  . cases hm
theorem Wc{ta:TE}{ma:ME}(ha:RE K ta ma):RT K (tB ta) (AQ ma):=EY ha
noncomputable def mIf(c:MT)(ma mb:ME):ME:=λ ls hd=>(c ls hd).bind λ p=>if p.1=true then ma ls p.2 else mb ls p.2
theorem Vm{tc:TT}{c:MT}{ta tb:TE}{ma mb:ME}(hc:RT K tc c)(ha:RE K ta ma)(hb:RE K tb mb):RE K (tIf tc ta tb) (mIf c ma mb):=by
  intro ρ σ H hd ls Q d hd' hR hL hm hQ
  obtain⟨⟨d1,h1⟩,e1,hm⟩:=Option.bind_eq_some_iff.mp hm
  refine hc ρ σ H hd ls _ d1 h1 hR hL e1 λ ρ1 H1 x1 R1=>?_
  cases d1 with
  | true=>
    rw[if_pos rfl]at hm ⊢
    exact ha ρ1 σ H1 h1 ls Q d hd' R1 (hL.ext hR x1) hm λ ρ2 H2 v x2 R2 r2=>hQ ρ2 H2 v (x1.trans R1 x2) R2 r2
  | false=>
    rw[if_neg Bool.false_ne_true]at hm ⊢
    exact hb ρ1 σ H1 h1 ls Q d hd' R1 (hL.ext hR x1) hm λ ρ2 H2 v x2 R2 r2=>hQ ρ2 H2 v (x1.trans R1 x2) R2 r2
noncomputable def Gv(ma mb:ME):ME:=λ ls hd=>(AQ ma ls hd).bind λ p=>if p.1=true then mb ls p.2 else some (.im (.bl false),p.2)
noncomputable def Wi(ma mb:ME):ME:=λ ls hd=>(AQ ma ls hd).bind λ p=>if p.1=true then some (.im (.bl true),p.2)else mb ls p.2
noncomputable def IS(ma:ME):ME:=λ ls hd=>(AQ ma ls hd).bind λ p=>some (.im (.bl (!p.1)),p.2)
theorem Sa{ta tb:TE}{ma mb:ME}(ha:RE K ta ma)(hb:RE K tb mb):RE K (Mw ta tb) (Gv ma mb):=by
  intro ρ σ H hd ls Q d hd' hR hL hm hQ
  obtain⟨⟨d1,h1⟩,e1,hm⟩:=Option.bind_eq_some_iff.mp hm
  refine EY ha ρ σ H hd ls (λ c H1=>if c=true then tb σ H1 Q else Q (.bl false) H1) d1 h1 hR hL e1 λ ρ1 H1 x1 R1=>?_
  cases d1 with
  | true=>
    rw[if_pos rfl]at hm ⊢
    exact hb ρ1 σ H1 h1 ls Q d hd' R1 (hL.ext hR x1) hm λ ρ2 H2 v x2 R2 r2=>hQ ρ2 H2 v (x1.trans R1 x2) R2 r2
  | false=>
    rw[if_neg Bool.false_ne_true]at hm ⊢
    cases hm
    exact hQ ρ1 H1 _ x1 R1 (by simp[RD,RI])
theorem SV{ta:TE}{ma:ME}(ha:RE K ta ma):RE K (Mr ta) (IS ma):=by
  intro ρ σ H hd ls Q d hd' hR hL hm hQ
  obtain⟨⟨d1,h1⟩,e1,hm⟩:=Option.bind_eq_some_iff.mp hm
  cases hm
  exact EY ha ρ σ H hd ls (λ c H1=>Q (.bl (!c)) H1) d1 h1 hR hL e1 λ ρ1 H1 x1 R1=>hQ ρ1 H1 _ x1 R1 (by simp[RD,RI])
noncomputable def A4:MA:=λ _ hd=>some ([],hd)
noncomputable def A1(ma:ME)(mr:MA):MA:=λ ls hd=>(ma ls hd).bind λ p=>(mr ls p.2).bind λ q=>some (p.1 :: q.1,q.2)
theorem UT:RA K Cn A4:=by
  intro ρ σ H hd ls Q d hd' hR hL hm hQ
  cases hm
  exact hQ ρ H [] .refl hR .nil
theorem Sb{ta:TE}{tr:TA}{ma:ME}{mr:MA}(ha:RE K ta ma)(hr:RA K tr mr):RA K (Bs ta tr) (A1 ma mr):=by
  intro ρ σ H hd ls Q d hd' hR hL hm hQ
  obtain⟨⟨d1,h1⟩,e1,hm⟩:=Option.bind_eq_some_iff.mp hm
  obtain⟨⟨d2,h2⟩,e2,hm⟩:=Option.bind_eq_some_iff.mp hm
  cases hm
  refine ha ρ σ H hd ls _ d1 h1 hR hL e1 λ ρ1 H1 v1 x1 R1 r1=>?_
  exact hr ρ1 σ H1 h1 ls _ d2 _ R1 (hL.ext hR x1) e2 λ ρ2 H2 v2 x2 R2 r2=>hQ ρ2 H2 _ (x1.trans R1 x2) R2 (.cons (r1.ext R1 x2) r2)
open Classical in
noncomputable def BQ(ma:MA):ME:=λ ls hd=>(ma ls hd).bind λ p=>if Ck p.1.length then some (Ao p.1,p.2)else none
theorem UM{t:TA}{m:MA}(h:RA K t m):RE K (Pb t) (BQ m):=by
  intro ρ σ H hd ls Q d hd' hR hL hm hQ
  obtain⟨⟨d1,h1⟩,e1,hm⟩:=Option.bind_eq_some_iff.mp hm
  dsimp only at hm
  split at hm
  . next z=>
    cases hm
    refine h ρ σ H hd ls _ d1 _ hR hL e1 λ ρ1 H1 v1 x1 R1 r1=>⟨by rw[r1.len];exact z,λ p hp=>?_⟩
    obtain⟨R2,x2⟩:=R1.hid (ho:=.tup v1) hp
    exact hQ ρ1 _ _ (x1.trans R1 x2) R2 (DX (SqT.of AT) (r1.ext R1 x2))
  . cases hm
open Classical in
noncomputable def BE(ma:MA):MA:=λ ls hd=>(ma ls hd).bind λ p=>if Ck p.1.length then some (p.1,p.2)else none
theorem RH.out(hR:RH K ρ H hd){a:Addr}(h:H a=none):a ∉ ρ:=λ m=>by rcases hR.mut m with⟨y,z⟩|⟨y,z⟩ <;> (rw[h]at z;cases z)
theorem Ext.none(e:Ext ρ H ρ' H')(hR:RH K ρ H hd){a:Addr}(h:H' a=none)(hR':RH K ρ' H' hd'):H a=none:=by
  cases q:H a with
  | none=>rfl
  | some o=>
    by_cases m:a ∈ ρ
    . obtain⟨r,rfl,_⟩:=e.pre
      exact absurd (List.mem_append_left r m) (hR'.out h)
    . by_cases t:∃ ps,o=.tbl ps
      . obtain⟨ps,rfl⟩:=t
        obtain⟨ps',this⟩:=e.tab a ps q
        rw[h]at this;cases this
      . rw[e.keep a o q m λ ps y=>t ⟨ps,y⟩]at h;cases h
theorem UF{t:TA}{m:MA}(h:RA K t m):RN K (Pj t) (BE m):=by
  intro ρ σ H hd ls Q d hd' hR hL hm hQ
  obtain⟨⟨d1,h1⟩,e1,hm⟩:=Option.bind_eq_some_iff.mp hm
  dsimp only at hm
  split at hm
  . next z=>
    cases hm
    refine h ρ σ H hd ls _ _ _ hR hL e1 λ ρ1 H1 v1 x1 R1 r1=>⟨by rw[r1.len];exact z,λ p hp=>?_⟩
    obtain⟨R2,x2⟩:=R1.hid (ho:=.lst v1) hp
    exact hQ ρ1 _ p v1 (x1.trans R1 x2) R2 (x1.none hR hp R1) (R1.out hp) AT (r1.ext R1 x2)
  . cases hm
noncomputable def BV(ml:MA):ME:=λ ls hd=>(ml ls hd).bind λ p=>some (.mu p.2.length,p.2 ++ [.lst p.1])
theorem RH.name(hR:RH K ρ H hd){a:Addr}{xs:List V}{ds:List D}(out:a ∉ ρ)(e:H a=some (.lst xs))(r:RDs K ρ H ds xs):RH K (ρ ++ [a]) H (hd ++ [.lst ds]):=by
  have mono:∀ {o:MO} {ho:HO},RC K ρ H o ho->RC K (ρ ++ [a]) H o ho:=λ c=>c.mono Grow.refl [a]
  refine⟨by simp[hR.len],?_,hR.tabs,λ n o' b e1 e2=>?_⟩
  . rw[List.nodup_append]
    refine⟨hR.nd,by simp,λ x hx y hy z=>?_⟩
    simp at hy;subst hy;subst z;exact out hx
  . by_cases hn:n < ρ.length
    . rw[List.getElem?_append_left hn]at e2
      rw[List.getElem?_append_left (by rw[<- hR.len];exact hn)]at e1
      obtain⟨ho',q1,q2⟩:=hR.ob n o' b e1 e2
      exact⟨ho',q1,mono q2⟩
    . have hn':n=ρ.length:=by
        have:=(List.getElem?_eq_some_iff.mp e2).1
        simp at this;omega
      subst hn'
      simp at e2
      rw[hR.len]at e1
      simp at e1
      subst e1;subst e2
      exact⟨_,e,mono ⟨xs,rfl,r⟩⟩
theorem Ext.name(e:Ext ρ H ρ' H'){a:Addr}(h:H a=Option.none):Ext ρ H (ρ' ++ [a]) H':=by
  obtain⟨r,rfl,f⟩:=e.pre
  refine⟨⟨r ++ [a],by simp,λ b m=>?_⟩,e.keep,e.tab⟩
  rcases List.mem_append.mp m with m|m
  . exact f b m
  . simp at m;subst m;exact h
theorem OA{t:TE}{m:MA}(h:RN K t m):RE K t (BV m):=by
  intro ρ σ H hd ls Q d hd' hR hL hm hQ
  obtain⟨⟨d1,h1⟩,e1,hm⟩:=Option.bind_eq_some_iff.mp hm
  cases hm
  refine h ρ σ H hd ls Q d1 h1 hR hL e1 λ ρ1 H1 a xs x1 R1 na oa ea r1=>?_
  refine hQ (ρ1 ++ [a]) H1 _ (x1.name na) (R1.name oa ea r1) ?_
  simp only[RD]
  exact⟨a,by rw[<- R1.len];simp,rfl⟩
end
end L2
namespace L2
open PySem PySem.Spec PyProof.Rows
section
variable{K:PySem.W.Frag}{ρ ρ':List Addr}{H H':Hp}{hd hd':Hd}
noncomputable def fI(g:Int->Int->Option I):D->D->Hd->Option (D × Hd)
  | .im (.int i),.im (.int j),hd=>(g i j).map (.im ·,hd)
  | _,_,_=>none
theorem N5{C:Int->Int->Prop}{g:Int->Int->V}{f:Int->Int->Option I}(h:∀ i j z,f i j=some z->C i j/\∀ H,RI K H z (g i j)):RB K (rI C g) (fI f):=by
  intro ρ H hd d e v u Q z hd' hR h1 h2 hf hQ
  unfold fI at hf
  split at hf
  . simp only[RD,RI]at h1 h2
    subst h1 h2
    obtain⟨w,e1,e2⟩:=Option.map_eq_some_iff.mp hf
    cases e2
    obtain⟨c,r⟩:=h _ _ _ e1
    exact⟨_,_,rfl,rfl,c,hQ ρ H _ .refl hR (by simpa only[RD]using r H)⟩
  . cases hf
theorem Go{g:Int->Int->V}{f:Int->Int->I}(h:∀ i j H,RI K H (f i j) (g i j)):RB K (rI0 g) (fI λ i j=>some (f i j)):=by
  intro ρ H hd d e v u Q z hd' hR h1 h2 hf hQ
  unfold fI at hf
  split at hf
  . simp only[RD,RI]at h1 h2
    subst h1 h2
    cases hf
    exact⟨_,_,rfl,rfl,hQ ρ H _ .refl hR (by simpa only[RD]using h _ _ H)⟩
  . cases hf
noncomputable def HB(f g:D->D->Hd->Option (D × Hd)):D->D->Hd->Option (D × Hd):=λ d e hd=>match f d e hd with
  | some z=>some z
  | none=>g d e hd
theorem AO{r r':R2}{f g:D->D->Hd->Option (D × Hd)}(h:RB K r f)(h':RB K r' g):RB K (λ x y H Q=>r x y H Q ∨ r' x y H Q) (HB f g):=by
  intro ρ H hd d e v u Q z hd' hR h1 h2 hf hQ
  unfold HB at hf
  split at hf
  . next q=>cases hf;exact .inl (h ρ H hd d e v u Q z hd' hR h1 h2 q hQ)
  . exact .inr (h' ρ H hd d e v u Q z hd' hR h1 h2 hf hQ)
noncomputable abbrev Qu:D->D->Hd->Option (D × Hd):=fI λ i j=>some (.int (i + j))
noncomputable abbrev CL:D->D->Hd->Option (D × Hd):=fI λ i j=>some (.int (i - j))
theorem B3:RB K (rI0 λ i j=>.int (i + j)) Qu:=Go λ _ _ _=>by simp[RI]
theorem Dq:RB K (rI0 λ i j=>.int (i - j)) CL:=Go λ _ _ _=>by simp[RI]
open Classical in
noncomputable abbrev CV:D->D->Hd->Option (D × Hd):=fI λ i j=>if Dt i j then some (.int (i * j))else none
theorem DK:RB K (rI CMul λ i j=>.int (i * j)) CV:=N5 λ i j z h=>by
  split at h
  . next q=>cases h;exact⟨q,λ _=>by simp[RI]⟩
  . cases h
open Classical in
noncomputable abbrev Ct:D->D->Hd->Option (D × Hd):=fI λ i j=>if DT j then some (.int (i % j))else none
theorem EJ:RB K (rI (λ _ j=>0 < j) λ i j=>.int (i % j)) Ct:=N5 λ i j z h=>by
  split at h
  . next q=>cases h;exact⟨q,λ _=>by simp[RI]⟩
  . cases h
open Classical in
noncomputable abbrev Fw:D->D->Hd->Option (D × Hd):=fI λ i j=>if K7 j then some (.int (i / j))else none
theorem Iv:RB K (rI VW λ i j=>.int (i / j)) Fw:=N5 λ i j z h=>by
  split at h
  . next q=>cases h;exact⟨q,λ _=>by simp[RI]⟩
  . cases h
open Classical in
noncomputable abbrev Qs:D->D->Hd->Option (D × Hd):=fI λ i j=>if NE i j then some (.int (i ^ j.toNat))else none
theorem US:RB K (rI VU λ i j=>.int (i ^ j.toNat)) Qs:=N5 λ i j z h=>by
  split at h
  . next q=>cases h;exact⟨q,λ _=>by simp[RI]⟩
  . cases h
noncomputable abbrev gLt:D->D->Hd->Option (D × Hd):=fI λ i j=>some (.bl (decide (i < j)))
noncomputable abbrev gLe:D->D->Hd->Option (D × Hd):=fI λ i j=>some (.bl (decide (i <= j)))
noncomputable abbrev gGt:D->D->Hd->Option (D × Hd):=fI λ i j=>some (.bl (decide (j < i)))
noncomputable abbrev gGe:D->D->Hd->Option (D × Hd):=fI λ i j=>some (.bl (decide (j <= i)))
theorem K0:RB K (rI0 λ i j=>.bl (decide (i < j))) gLt:=Go λ _ _ _=>by simp[RI]
theorem N4:RB K (rI0 λ i j=>.bl (decide (i <= j))) gLe:=Go λ _ _ _=>by simp[RI]
theorem Fd:RB K (rI0 λ i j=>.bl (decide (j < i))) gGt:=Go λ _ _ _=>by simp[RI]
theorem Vp:RB K (rI0 λ i j=>.bl (decide (j <= i))) gGe:=Go λ _ _ _=>by simp[RI]
noncomputable def scI:I->Option V
  | .non=>some .non
  | .bl b=>some (.bl b)
  | .int i=>some (.int i)
  | .str x=>some (.str x)
  | .tup _=>none
theorem IA{i:I}{v w:V}(e:scI i=some w)(h:RI K H i v):v=w:=by
  cases i with
  | tup _=>simp[scI]at e
  | _=>simp only[scI,Option.some.injEq]at e;subst e;simpa only[RI]using h
noncomputable def FB(neg:Bool):D->D->Hd->Option (D × Hd)
  | .im i,.im j,hd=>match scI i,scI j with
    | some x,some y=>if KU x y=true then some (.im (.bl (if neg then !decide (x=y)else decide (x=y))),hd)else none
    | _,_=>none
  | _,_,_=>none
theorem BT:RB K rEq (FB false):=by
  intro ρ H hd d e v u Q z hd' hR h1 h2 hf hQ
  unfold FB at hf
  split at hf
  . split at hf
    . next x y e1 e2=>
      split at hf
      . next s=>
        cases hf
        simp only[RD]at h1 h2
        rw[IA e1 h1,IA e2 h2]
        exact⟨s,hQ ρ H _ .refl hR (by simp[RD,RI])⟩
      . cases hf
    . cases hf
  . cases hf
theorem GI:RB K rNe (FB true):=by
  intro ρ H hd d e v u Q z hd' hR h1 h2 hf hQ
  unfold FB at hf
  split at hf
  . split at hf
    . next x y e1 e2=>
      split at hf
      . next s=>
        cases hf
        simp only[RD]at h1 h2
        rw[IA e1 h1,IA e2 h2]
        exact⟨s,hQ ρ H _ .refl hR (by simp[RD,RI])⟩
      . cases hf
    . cases hf
  . cases hf
mutual
noncomputable def I.py:I->PyData
  | .non=>.none
  | .bl b=>.bool b
  | .int i=>.int i
  | .str x=>.str x
  | .tup ds=>.tuple (I.pys ds)
noncomputable def I.pys:List I->List PyData
  | []=>[]
  | d :: ds=>I.py d :: I.pys ds
end
mutual
theorem RI.rep:∀ {i:I} {v:V},RI K H i v->Rep K H i.py v
  | .non,v,h=>by simpa only[RI,I.py,Rep]using h
  | .bl _,v,h=>by simpa only[RI,I.py,Rep]using h
  | .int _,v,h=>by simpa only[RI,I.py,Rep]using h
  | .str _,v,h=>by simpa only[RI,I.py,Rep]using h
  | .tup ds,v,h=>by
    simp only[RI]at h
    obtain⟨a,xs,e,q,r⟩:=h
    simp only[I.py,Rep]
    exact⟨a,xs,e,q,RIs.rep r⟩
theorem RIs.rep:∀ {i:List I} {v:List V},RIs K H i v->Cg K H (I.pys i) v
  | [],v,h=>by simpa only[RIs,I.pys,Cg]using h
  | d :: ds,v,h=>by
    simp only[RIs]at h
    obtain⟨x,r,e,q,z⟩:=h
    simp only[I.pys,Cg]
    exact⟨x,r,e,q.rep,RIs.rep z⟩
end
noncomputable def pyD(hd:Hd):D->Option PyData
  | .im i=>some i.py
  | .mu n=>match hd[n]? with
    | some (.lst ds)=>(Be ds).map λ is=>.list (I.pys is)
    | _=>none
  | .ro ns=>some (.list (I.pys (ns.map I.int)))
  | _=>none
theorem EZ{d:D}{v:V}{p:PyData}(hR:RH K ρ H hd)(h:RD K ρ H d v)(e:pyD hd d=some p):Rep K H p v:=by
  cases d with
  | im i=>simp only[pyD,Option.some.injEq]at e;subst e;simp only[RD]at h;exact h.rep
  | mu n=>
    simp only[pyD]at e
    simp only[RD]at h
    obtain⟨a,hn,rfl⟩:=h
    split at e
    . next q=>
      obtain⟨is,e1,rfl⟩:=Option.map_eq_some_iff.mp e
      obtain⟨xs,e2,e3⟩:=hR.lst hn q
      rw[G4 e1]at e3
      simp only[Rep]
      exact⟨a,xs,rfl,SqL.of e2,e3.is.rep⟩
    . cases e
  | ro ns=>
    simp only[pyD,Option.some.injEq]at e;subst e
    obtain⟨a,xs,rfl,q,r⟩:=h.lst hR (hd:=hd) (ds:=ns.map λ n=>.im (.int n)) rfl
    simp only[Rep]
    refine⟨a,xs,rfl,q,RIs.rep (RDs.is (ρ:=ρ) ?_)⟩
    rw[List.map_map]
    exact r
  | tm _=>simp[pyD]at e
noncomputable def JE(neg:Bool):D->D->Hd->Option (D × Hd):=λ d e hd=>match pyD hd d,pyD hd e with
  | some x,some y=>if x.canLay0=true/\y.canLay0=true/\min x.depth y.depth <= 60 then some (.im (.bl (if neg then !PyData.eqv x y else PyData.eqv x y)),hd)else none
  | _,_=>none
theorem BU:RB K (QD K) (JE false):=by
  intro ρ H hd d e v u Q z hd' hR h1 h2 hf hQ
  unfold JE at hf
  split at hf
  . next e1 e2=>
    split at hf
    . next c=>cases hf;exact⟨_,_,EZ hR h1 e1,EZ hR h2 e2,c.1,c.2.1,c.2.2,hQ ρ H _ .refl hR (by simp[RD,RI])⟩
    . cases hf
  . cases hf
theorem GJ:RB K (Q9 K) (JE true):=by
  intro ρ H hd d e v u Q z hd' hR h1 h2 hf hQ
  unfold JE at hf
  split at hf
  . next e1 e2=>
    split at hf
    . next c=>cases hf;exact⟨_,_,EZ hR h1 e1,EZ hR h2 e2,c.1,c.2.1,c.2.2,hQ ρ H _ .refl hR (by simp[RD,RI])⟩
    . cases hf
  . cases hf
noncomputable abbrev gEq:=HB (FB false) (JE false)
noncomputable abbrev gNe:=HB (FB true) (JE true)
noncomputable def gIx:D->D->Hd->Option (D × Hd)
  | d,.im (.int i),hd=>(BI hd d).bind λ ds=>(atI ds i).map (·,hd)
  | _,_,_=>none
theorem Mh{α β:Type}{xs:List α}{ys:List β}{i:Int}{y:β}(h:xs.length=ys.length)(e:atI ys i=some y):∃ (j:Nat),ys[j]? = some y/\∀ x,xs[j]? = some x->atI xs i=some x:=by
  unfold atI at e
  obtain⟨j,e1,e2⟩:=Option.bind_eq_some_iff.mp e
  exact⟨j,e2,λ x q=>by unfold atI;rw[h,e1];exact q⟩
noncomputable def K1(K:PySem.W.Frag):R2:=λ x y H Q=>QC K x y H Q ∨ QB K x y H Q
theorem Vn:RB K (K1 K) gIx:=by
  intro ρ H hd d e v u Q z hd' hR h1 h2 hf hQ
  unfold gIx at hf
  split at hf
  . obtain⟨ds,e1,hf⟩:=Option.bind_eq_some_iff.mp hf
    obtain⟨w,e2,e3⟩:=Option.map_eq_some_iff.mp hf
    cases e3
    obtain⟨a,xs,rfl,q,r⟩:=h1.seq hR e1
    simp only[RD,RI]at h2
    subst h2
    obtain⟨j,j1,j2⟩:=Mh r.len e2
    obtain⟨x,x1,x2⟩:=r.get j1
    rcases q with q|q
    . exact .inl ⟨a,xs,_,x,rfl,rfl,q,j2 x x1,hQ ρ H x .refl hR x2⟩
    . exact .inr ⟨a,xs,_,x,rfl,rfl,q,j2 x x1,hQ ρ H x .refl hR x2⟩
  . cases hf
noncomputable def Eo(xs:List D)(lo hi:Option Int):List D:=(xs.drop (HT.sIx xs.length 0 lo)).take (HT.sIx xs.length xs.length hi - HT.sIx xs.length 0 lo)
theorem Tl{ds:List D}{xs:List V}{lo hi:Option Int}(r:RDs K ρ H ds xs):RDs K ρ H (Eo ds lo hi) (Hj xs lo hi):=by
  unfold Eo Hj
  rw[r.len]
  exact(r.drop _).take _
noncomputable abbrev MO1:=Ls->Hd->Option (Option Int × Hd)
noncomputable def RO1(K:PySem.W.Frag)(t:TO)(m:MO1):Prop:=∀ (ρ:List Addr) (σ:St) (H:Hp) (hd:Hd) (ls:Ls) (Q:Option Int->Hp->Prop) (d:Option Int) (hd':Hd),RH K ρ H hd->RL K ρ H ls σ->m ls hd=some (d,hd') ->
  (∀ ρ' H',Ext ρ H ρ' H'->RH K ρ' H' hd'->Q d H')->t σ H Q
noncomputable def E2:MO1:=λ _ hd=>some (none,hd)
noncomputable def Fq(m:ME):MO1:=λ ls hd=>(m ls hd).bind λ p=>match p.1 with
  | .im (.int i)=>some (some i,p.2)
  | _=>none
theorem SK:RO1 K Iq E2:=by
  intro ρ σ H hd ls Q d hd' hR hL hm hQ
  cases hm
  exact hQ ρ H .refl hR
theorem SJ{t:TE}{m:ME}(h:RE K t m):RO1 K (Mp t) (Fq m):=by
  intro ρ σ H hd ls Q d hd' hR hL hm hQ
  obtain⟨⟨d1,h1⟩,e1,hm⟩:=Option.bind_eq_some_iff.mp hm
  dsimp only at hm
  split at hm
  . cases hm
    exact h ρ σ H hd ls _ _ _ hR hL e1 λ ρ1 H1 v x1 R1 r1=>⟨_,by simpa only[RD,RI]using r1,hQ ρ1 H1 x1 R1⟩
  . cases hm
noncomputable def Wh(m:ME)(ml mh:MO1):ME:=λ ls hd=>(m ls hd).bind λ p=>(ml ls p.2).bind λ l=>(mh ls l.2).bind λ h=>(At p.1).bind λ ds=>
  if ¬ (HT.sIx ds.length 0 l.1=0/\HT.sIx ds.length ds.length h.1=ds.length)then some (Ao (Eo ds l.1 h.1),h.2)else none
noncomputable def Hf(m:ME)(ml mh:MO1):MA:=λ ls hd=>(m ls hd).bind λ p=>(ml ls p.2).bind λ l=>(mh ls l.2).bind λ h=>(BM h.2 p.1).bind λ ds=>some (Eo ds l.1 h.1,h.2)
theorem UE{t:TE}{tl th:TO}{m:ME}{ml mh:MO1}(h:RE K t m)(hl:RO1 K tl ml)(hh:RO1 K th mh):RN K (tSl (N8 K) t tl th) (Hf m ml mh):=by
  intro ρ σ H hd ls Q d hd' hR hL hm hQ
  obtain⟨⟨d1,h1⟩,e1,hm⟩:=Option.bind_eq_some_iff.mp hm
  obtain⟨⟨d2,h2⟩,e2,hm⟩:=Option.bind_eq_some_iff.mp hm
  obtain⟨⟨d3,h3⟩,e3,hm⟩:=Option.bind_eq_some_iff.mp hm
  obtain⟨ds,e4,hm⟩:=Option.bind_eq_some_iff.mp hm
  dsimp only at e2 e3 e4 hm
  cases hm
  refine h ρ σ H hd ls _ d1 h1 hR hL e1 λ ρ1 H1 v1 x1 R1 r1=>?_
  refine hl ρ1 σ H1 h1 ls _ d2 h2 R1 (hL.ext hR x1) e2 λ ρ2 H2 x2 R2=>?_
  refine hh ρ2 σ H2 h2 ls _ d3 _ R2 (hL.ext hR (x1.trans R1 x2)) e3 λ ρ3 H3 x3 R3=>?_
  obtain⟨a,xs,rfl,q,r⟩:=RD.lst R3 ((r1.ext R1 x2).ext R2 x3) e4
  refine⟨a,xs,rfl,q,λ p hp=>?_⟩
  obtain⟨R4,x4⟩:=R3.hid (ho:=.lst (Hj xs d2 d3)) hp
  have x123:=(x1.trans R1 x2).trans R2 x3
  exact hQ ρ3 _ p _ (x123.trans R3 x4) R4 (x123.none hR hp R3) (R3.out hp) AT ((Tl r).ext R3 x4)
noncomputable def mCB(f:List D->Hd->Option (D × Hd))(ma:MA):ME:=λ ls hd=>(ma ls hd).bind λ p=>f p.1 p.2
theorem Rb{r:List V->Hp->VK->Prop}{f:List D->Hd->Option (D × Hd)}{t:TA}{m:MA}(hr:RF K r f)(h:RA K t m):RE K (tCB r t) (mCB f m):=by
  intro ρ σ H hd ls Q d hd' hR hL hm hQ
  obtain⟨⟨d1,h1⟩,e1,hm⟩:=Option.bind_eq_some_iff.mp hm
  refine h ρ σ H hd ls _ d1 h1 hR hL e1 λ ρ1 H1 v1 x1 R1 r1=>?_
  exact hr ρ1 H1 h1 d1 v1 Q d hd' R1 r1 hm λ ρ' H' w x2 R2 r2=>hQ ρ' H' w (x1.trans R1 x2) R2 r2
noncomputable def f1(tp:Bool)(g:List D->Option D):List D->Hd->Option (D × Hd)
  | [d],hd=>((if tp then BI hd d else BM hd d)).bind λ ds=>(g ds).map (·,hd)
  | _,_=>none
theorem DW{tp:Bool}{r:List V->Hp->VK->Prop}{g:List D->Option D}(h:RG K tp r g):RF K r (f1 tp g):=by
  intro ρ H hd ds vs Q z hd' hR h1 hf hQ
  unfold f1 at hf
  split at hf
  . next d hd'=>
    obtain⟨es,e1,hf⟩:=Option.bind_eq_some_iff.mp hf
    obtain⟨w,e2,e3⟩:=Option.map_eq_some_iff.mp hf
    cases e3
    simp only[RDs]at h1
    obtain⟨x,r,rfl,rx,rfl⟩:=h1
    cases tp with
    | true=>
      rw[if_pos rfl]at e1
      obtain⟨a,xs,rfl,q,rr⟩:=rx.seq hR e1
      exact h ρ H hd a xs es Q z hR (q.imp id λ q=>⟨rfl,q⟩) rr e2 λ H' w x R r=>hQ ρ H' w x R r
    | false=>
      rw[if_neg Bool.false_ne_true]at e1
      obtain⟨a,xs,rfl,q,rr⟩:=rx.lst hR e1
      exact h ρ H hd a xs es Q z hR (.inl q) rr e2 λ H' w x R r=>hQ ρ H' w x R r
  . cases hf
noncomputable def CU(g:List D->Option D)(ml:MA):ME:=λ ls hd=>(ml ls hd).bind λ p=>(g p.1).map (·,p.2)
theorem OB{tp:Bool}{r:List V->Hp->VK->Prop}{g:List D->Option D}{t:TE}{m:MA}(hr:RG K tp r g)(h:RN K t m):RE K (tCB r (Bs t Cn)) (CU g m):=by
  intro ρ σ H hd ls Q d hd' hR hL hm hQ
  obtain⟨⟨d1,h1⟩,e1,hm⟩:=Option.bind_eq_some_iff.mp hm
  obtain⟨w,e2,e3⟩:=Option.map_eq_some_iff.mp hm
  cases e3
  refine h ρ σ H hd ls _ d1 _ hR hL e1 λ ρ1 H1 a xs x1 R1 na oa ea r1=>?_
  exact hr ρ1 H1 _ a xs d1 Q d R1 (.inl (SqL.of ea)) r1 e2 λ H' w x R r=>hQ ρ1 H' w (x1.trans R1 x) R r
noncomputable def C6(ds:List D):Option D:=some (.im (.int ds.length))
theorem rg_len:RG K true (UU K) C6:=by
  intro ρ H hd a xs ds Q z hR q r e hQ
  cases e
  refine⟨a,xs,rfl,q.imp id λ q=>q.2,?_⟩
  rw[r.len]
  exact hQ H _ .refl hR (by simp[RD,RI])
noncomputable def B5(ds:List D):Option D:=some (Ao ds)
theorem Bq:RG K true (Kg K) B5:=by
  intro ρ H hd a xs ds Q z hR q r e hQ
  cases e
  refine⟨a,xs,rfl,?_⟩
  rcases q with q|⟨_,q⟩
  . refine .inl ⟨q,λ p hp=>?_⟩
    obtain⟨R2,x2⟩:=hR.hid (ho:=.tup xs) hp
    exact hQ _ _ x2 R2 (DX (SqT.of AT) (r.ext hR x2))
  . exact .inr ⟨q,hQ H _ .refl hR (DX q r)⟩
noncomputable def Kw(ds:List D):Option D:=(BD ds).map λ ns=>.im (.int ns.sum)
noncomputable def Wd(K:PySem.W.Frag):List V->Hp->VK->Prop:=λ xs H Q=>Rf K xs H Q ∨ Re K xs H Q
theorem O7:RG K true (Wd K) Kw:=by
  intro ρ H hd a xs ds Q z hR q r e hQ
  obtain⟨ns,e1,rfl⟩:=Option.map_eq_some_iff.mp e
  rw[Db e1]at r
  have:=Gn r
  subst this
  rcases q with q|⟨_,q⟩
  . exact .inl ⟨a,ns,rfl,q,hQ H _ .refl hR (by simp[RD,RI])⟩
  . exact .inr ⟨a,ns,rfl,q,hQ H _ .refl hR (by simp[RD,RI])⟩
noncomputable def Kx(ds:List D):Option D:=(Cb ds).map λ bs=>.im (.bl (bs.all id))
theorem O8:RG K false (UV K) Kx:=by
  intro ρ H hd a xs ds Q z hR q r e hQ
  obtain⟨ns,e1,rfl⟩:=Option.map_eq_some_iff.mp e
  rw[Mg e1]at r
  have:=OC r
  subst this
  rcases q with q|⟨q,_⟩
  . exact⟨a,ns,rfl,q,hQ H _ .refl hR (by simp[RD,RI])⟩
  . cases q
noncomputable def J8:List Int->Int
  | []=>0
  | [x]=>x
  | x :: r=>if J8 r > x then J8 r else x
noncomputable def Fm:List Int->Int
  | []=>0
  | [x]=>x
  | x :: r=>if Fm r < x then Fm r else x
theorem Oc:∀ {xs:List Int},xs ≠ []->J8 xs ∈ xs/\∀ x ∈ xs,x <= J8 xs
  | [],h=>absurd rfl h
  | [x],_=>by simp[J8]
  | x :: y :: r,_=>by
    obtain⟨h1,h2⟩:=Oc (xs:=y :: r) (by simp)
    rw[J8]
    split
    . next h=>exact⟨List.mem_cons_of_mem _ h1,λ z m=>by rcases List.mem_cons.mp m with rfl|m;omega;exact h2 z m⟩
    . next h=>exact⟨List.mem_cons_self,λ z m=>by rcases List.mem_cons.mp m with rfl|m;omega;exact Int.le_trans (h2 z m) (by omega)⟩
    . simp
theorem GR:∀ {xs:List Int},xs ≠ []->Fm xs ∈ xs/\∀ x ∈ xs,Fm xs <= x
  | [],h=>absurd rfl h
  | [x],_=>by simp[Fm]
  | x :: y :: r,_=>by
    obtain⟨h1,h2⟩:=GR (xs:=y :: r) (by simp)
    rw[Fm]
    split
    . next h=>exact⟨List.mem_cons_of_mem _ h1,λ z m=>by rcases List.mem_cons.mp m with rfl|m;omega;exact h2 z m⟩
    . next h=>exact⟨List.mem_cons_self,λ z m=>by rcases List.mem_cons.mp m with rfl|m;omega;exact Int.le_trans (by omega) (h2 z m)⟩
    . simp
noncomputable def NR(ds:List D):Option D:=(BD ds).bind λ ns=>if ns=[]then none else some (.im (.int (Fm ns)))
theorem Gw{α:Type}{xs:List α}(h:xs ≠ []):0 < xs.length:=by cases xs <;> simp_all
theorem UK:RG K false (Rg K) NR:=by
  intro ρ H hd a xs ds Q z hR q r e hQ
  obtain⟨ns,e1,e⟩:=Option.bind_eq_some_iff.mp e
  split at e
  . cases e
  . next hn=>
    cases e
    rw[Db e1]at r
    have:=Gn r
    subst this
    have u:∀ M:Int,M ∈ ns->(∀ x ∈ ns,M <= x)->M=Fm ns:=λ M m1 m2=>by
      obtain⟨n1,n2⟩:=GR hn
      have:=n2 M m1;have:=m2 _ n1;omega
    rcases q with q|⟨q,_⟩
    . exact⟨a,ns,rfl,q,Gw hn,λ M m1 m2=>by rw[u M m1 m2];exact hQ H _ .refl hR (by simp[RD,RI])⟩
    . cases q
noncomputable def Gz:List D->Hd->Option (D × Hd)
  | [.im (.int i),.im (.int j)],hd=>some (.im (.int (if j > i then j else i)),hd)
  | _,_=>none
noncomputable def IZ:List D->Hd->Option (D × Hd)
  | [.im (.int i),.im (.int j)],hd=>some (.im (.int (if j < i then j else i)),hd)
  | _,_=>none
theorem SS:RF K (λ xs H Q=>∃ i j,xs=[.int i,.int j]/\Q (.int (if j > i then j else i)) H) Gz:=by
  intro ρ H hd ds vs Q z hd' hR h1 hf hQ
  unfold Gz at hf
  split at hf
  . cases hf
    simp only[RDs,RD,RI]at h1
    obtain⟨x,r,rfl,rfl,y,r2,rfl,rfl,rfl⟩:=h1
    exact⟨_,_,rfl,hQ ρ H _ .refl hR (by simp[RD,RI])⟩
  . cases hf
theorem SR:RF K (λ xs H Q=>∃ i j,xs=[.int i,.int j]/\Q (.int (if j < i then j else i)) H) IZ:=by
  intro ρ H hd ds vs Q z hd' hR h1 hf hQ
  unfold IZ at hf
  split at hf
  . cases hf
    simp only[RDs,RD,RI]at h1
    obtain⟨x,r,rfl,rfl,y,r2,rfl,rfl,rfl⟩:=h1
    exact⟨_,_,rfl,hQ ρ H _ .refl hR (by simp[RD,RI])⟩
  . cases hf
noncomputable def Wo:List D->Hd->Option (D × Hd)
  | [.im (.int i)],hd=>some (.im (.int (if i < 0 then -i else i)),hd)
  | _,_=>none
noncomputable def W5(ma:ME):MA:=λ ls hd=>(ma ls hd).bind λ p=>(BI p.2 p.1).map (·,p.2)
noncomputable def GV(ml:MA):MA:=ml
theorem Q2{t:TE}{m:MA}(h:RN K t m):RN K (tCB (Iw K) (Bs t Cn)) (GV m):=by
  intro ρ σ H hd ls Q d hd' hR hL hm hQ
  refine h ρ σ H hd ls _ d _ hR hL hm λ ρ1 H1 a xs x1 R1 na oa ea r1=>?_
  refine⟨a,xs,rfl,.inl (SqL.of ea),λ l hl=>?_⟩
  obtain⟨R2,x2⟩:=R1.hid (ho:=.lst xs) hl
  exact hQ ρ1 _ l xs (x1.trans R1 x2) R2 (x1.none hR hl R1) (R1.out hl) AT (r1.ext R1 x2)
noncomputable def Ce(d:PyData):Prop:=d.showable=true/\d.hasDict=false/\isDisplay d=true/\d.depth <= 30/\d.shown.length <= sizeLine
open Classical in
noncomputable def CG:List D->Hd->Option (D × Hd)
  | [d],hd=>match pyD hd d with
    | some p=>if Ce p then some (.im (.str p.shown),hd)else none
    | none=>none
  | _,_=>none
theorem C7:RF K (NA K) CG:=by
  intro ρ H hd ds vs Q z hd' hR h1 hf hQ
  unfold CG at hf
  split at hf
  . split at hf
    . next p e=>
      split at hf
      . next c=>
        cases hf
        simp only[RDs]at h1
        obtain⟨x,r,rfl,rx,rfl⟩:=h1
        exact⟨x,p,rfl,EZ hR rx e,c.1,c.2.1,c.2.2.1,c.2.2.2.1,c.2.2.2.2,hQ ρ H _ .refl hR (by simp[RD,RI])⟩
      . cases hf
    . cases hf
  . cases hf
noncomputable def Fx:I->Option V
  | .non=>some .non
  | .bl b=>some (.bl b)
  | .int i=>some (.int i)
  | .str x=>some (.str x)
  | .tup _=>none
noncomputable def DO:List D->Option (List V)
  | []=>some []
  | .im i :: r=>(Fx i).bind λ v=>(DO r).map (v :: ·)
  | _ :: _=>none
theorem LB{i:I}{v w:V}(e:Fx i=some w)(h:RI K H i v):v=w/\EB w=true:=by
  cases i with
  | tup _=>simp[Fx]at e
  | _=>simp only[Fx,Option.some.injEq]at e;subst e;exact⟨by simpa only[RI]using h,rfl⟩
theorem Jd:∀ {ds:List D} {vs ws:List V},DO ds=some ws->RDs K ρ H ds vs->vs=ws/\ws.all EB=true
  | [],vs,ws,e,h=>by simp[DO]at e;subst e;simp only[RDs]at h;subst h;exact⟨rfl,rfl⟩
  | .im i :: r,vs,ws,e,h=>by
    simp only[DO]at e
    obtain⟨v,e1,e⟩:=Option.bind_eq_some_iff.mp e
    obtain⟨us,e2,rfl⟩:=Option.map_eq_some_iff.mp e
    simp only[RDs,RD]at h
    obtain⟨x,y,rfl,h1,h2⟩:=h
    obtain⟨rfl,f1⟩:=LB e1 h1
    obtain⟨rfl,f2⟩:=Jd e2 h2
    exact⟨rfl,by simp[f1,f2]⟩
  | .mu _ :: _,_,_,e,_=>by simp[DO]at e
  | .tm _ :: _,_,_,e,_=>by simp[DO]at e
  | .ro _ :: _,_,_,e,_=>by simp[DO]at e
noncomputable def gIn(neg:Bool):D->D->Hd->Option (D × Hd)
  | .im i,e,hd=>(Fx i).bind λ x=>(BI hd e).bind λ ds=>(DO ds).map λ xs=>(.im (.bl (if neg then !inV x xs else inV x xs)),hd)
  | _,_,_=>none
theorem Vo{neg:Bool}:RB K (rIn K neg) (gIn neg):=by
  intro ρ H hd d e v u Q z hd' hR h1 h2 hf hQ
  unfold gIn at hf
  split at hf
  . obtain⟨x,e1,hf⟩:=Option.bind_eq_some_iff.mp hf
    obtain⟨ds,e2,hf⟩:=Option.bind_eq_some_iff.mp hf
    obtain⟨xs,e3,e4⟩:=Option.map_eq_some_iff.mp hf
    cases e4
    simp only[RD]at h1
    obtain⟨rfl,f1⟩:=LB e1 h1
    obtain⟨a,ys,rfl,q,r⟩:=h2.seq hR e2
    obtain⟨rfl,f2⟩:=Jd e3 r
    exact⟨a,ys,rfl,q,f1,f2,hQ ρ H _ .refl hR (by simp[RD,RI])⟩
  . cases hf
noncomputable def mMt(f:D->List D->Hd->Option (D × Hd))(mo:ME)(ma:MA):ME:=λ ls hd=>(mo ls hd).bind λ p=>match BM p.2 p.1 with
  | some _=>(ma ls p.2).bind λ q=>f p.1 q.1 q.2
  | none=>none
noncomputable def RM(K:PySem.W.Frag)(r:V->List V->Hp->VK->Prop)(f:D->List D->Hd->Option (D × Hd)):Prop:=∀ (ρ:List Addr) (H:Hp) (hd:Hd) (d:D) (v:V) (ds:List D) (vs:List V) (Q:VK) (z:D) (hd':Hd),RH K ρ H hd->RD K ρ H d v->RDs K ρ H ds vs->f d ds hd=some (z,hd') ->
  (∀ ρ' H' w,Ext ρ H ρ' H'->RH K ρ' H' hd'->RD K ρ' H' z w->Q w H')->r v vs H Q
theorem Vl{r:V->List V->Hp->VK->Prop}{f:D->List D->Hd->Option (D × Hd)}{to:TE}{t:TA}{mo:ME}{ma:MA}(hr:RM K r f)(ho:RE K to mo)(ha:RA K t ma):RE K (tBM K "list" r to t) (mMt f mo ma):=by
  intro ρ σ H hd ls Q d hd' hR hL hm hQ
  obtain⟨⟨d1,h1⟩,e1,hm⟩:=Option.bind_eq_some_iff.mp hm
  dsimp only at hm
  split at hm
  . next e=>
    obtain⟨⟨d2,h2⟩,e2,hm⟩:=Option.bind_eq_some_iff.mp hm
    refine ho ρ σ H hd ls _ d1 h1 hR hL e1 λ ρ1 H1 v x1 R1 r1=>⟨?_,?_⟩
    . obtain⟨a,xs,rfl,q,_⟩:=r1.lst R1 e
      exact .inl ⟨rfl,xs,q⟩
    . exact ha ρ1 σ H1 h1 ls _ d2 h2 R1 (hL.ext hR x1) e2 λ ρ2 H2 vs x2 R2 r2=>hr ρ2 H2 h2 d1 v d2 vs Q d hd' R2 (r1.ext R1 x2) r2 hm λ ρ' H' w x3 R3 r3=>hQ ρ' H' w ((x1.trans R1 x2).trans R2 x3) R3 r3
  . cases hm
open Classical in
noncomputable def B8:D->List D->Hd->Option (D × Hd)
  | .mu n,[x],hd=>match hd[n]? with
    | some (.lst ds)=>if DG ds.length then some (.im .non,hd.set n (.lst (ds ++ [x])))else none
    | _=>none
  | _,_,_=>none
theorem CY:RM K M7 B8:=by
  intro ρ H hd d v ds vs Q z hd' hR h1 h2 hf hQ
  unfold B8 at hf
  split at hf
  . split at hf
    . next q=>
      split at hf
      . next c=>
        cases hf
        simp only[RD]at h1
        obtain⟨a,hn,rfl⟩:=h1
        simp only[RDs]at h2
        obtain⟨x,r,rfl,rx,rfl⟩:=h2
        obtain⟨xs,e1,e2⟩:=hR.lst hn q
        obtain⟨R2,x2⟩:=hR.put hn (o:=.lst (_ ++ [_])) (ho:=.lst (xs ++ [x])) ⟨_,rfl,e2.app (.cons rx .nil)⟩
        exact⟨a,xs,x,rfl,rfl,e1,by rw[e2.len];exact c,hQ ρ _ _ x2 R2 (by simp[RD,RI])⟩
      . cases hf
    . cases hf
  . cases hf
end
end L2
namespace L2
open PySem PySem.Spec PyProof.Rows
section
variable{K:PySem.W.Frag}{ρ ρ':List Addr}{H H':Hp}{hd hd':Hd}
noncomputable def Ag:MS:=λ ls hd=>some (.nx ls,hd)
theorem SF:RS K Ms Ag:=by
  intro ρ σ H hd ls E f hd' hR hL hm hQ
  cases hm
  exact hQ ρ H .refl hR σ hL
noncomputable def A8(a b:MS):MS:=λ ls hd=>(a ls hd).bind λ p=>match p.1 with
  | .nx ls1=>b ls1 p.2
  | f=>some (f,p.2)
theorem UA{t u:TS}{a b:MS}(ha:RS K t a)(hb:RS K u b):RS K (Pd t u) (A8 a b):=by
  intro ρ σ H hd ls E f hd' hR hL hm hQ
  obtain⟨⟨f1,h1⟩,e1,hm⟩:=Option.bind_eq_some_iff.mp hm
  refine ha ρ σ H hd ls { E with nx:=u E } f1 h1 hR hL e1 λ ρ1 H1 x1 R1=>?_
  cases f1 with
  | nx ls1=>
    intro σ1 L1
    exact hb ρ1 σ1 H1 h1 ls1 E f hd' R1 L1 hm λ ρ2 H2 x2 R2=>hQ ρ2 H2 (x1.trans R1 x2) R2
  | bk ls1=>cases hm;exact hQ ρ1 H1 x1 R1
  | ct ls1=>cases hm;exact hQ ρ1 H1 x1 R1
  | rt d=>cases hm;exact hQ ρ1 H1 x1 R1
noncomputable def V8:MS:=λ ls hd=>some (.bk ls,hd)
noncomputable def W6:MS:=λ ls hd=>some (.ct ls,hd)
noncomputable def Bo(m:ME):MS:=λ ls hd=>(m ls hd).bind λ p=>some (.nx ls,p.2)
theorem SH{t:TE}{m:ME}(h:RE K t m):RS K (Mt t) (Bo m):=by
  intro ρ σ H hd ls E f hd' hR hL hm hQ
  obtain⟨⟨d1,h1⟩,e1,hm⟩:=Option.bind_eq_some_iff.mp hm
  cases hm
  exact h ρ σ H hd ls _ d1 _ hR hL e1 λ ρ1 H1 v x1 R1 r1=>hQ ρ1 H1 x1 R1 σ (hL.ext hR x1)
noncomputable def AY(m:ME):MS:=λ ls hd=>(m ls hd).bind λ p=>some (.rt p.1,p.2)
theorem UB{t:TE}{m:ME}(h:RE K t m):RS K (Pf t) (AY m):=by
  intro ρ σ H hd ls E f hd' hR hL hm hQ
  obtain⟨⟨d1,h1⟩,e1,hm⟩:=Option.bind_eq_some_iff.mp hm
  cases hm
  exact h ρ σ H hd ls _ d1 _ hR hL e1 λ ρ1 H1 v x1 R1 r1=>hQ ρ1 H1 x1 R1 v r1
noncomputable def W4:MS:=λ _ hd=>some (.rt (.im .non),hd)
noncomputable def Au(c:MT)(a b:MS):MS:=λ ls hd=>(c ls hd).bind λ p=>if p.1=true then a ls p.2 else b ls p.2
theorem Vj{tc:TT}{t u:TS}{c:MT}{a b:MS}(hc:RT K tc c)(ha:RS K t a)(hb:RS K u b):RS K (Pn tc t u) (Au c a b):=by
  intro ρ σ H hd ls E f hd' hR hL hm hQ
  obtain⟨⟨d1,h1⟩,e1,hm⟩:=Option.bind_eq_some_iff.mp hm
  refine hc ρ σ H hd ls _ d1 h1 hR hL e1 λ ρ1 H1 x1 R1=>?_
  cases d1 with
  | true=>
    rw[if_pos rfl]at hm ⊢
    exact ha ρ1 σ H1 h1 ls E f hd' R1 (hL.ext hR x1) hm λ ρ2 H2 x2 R2=>hQ ρ2 H2 (x1.trans R1 x2) R2
  | false=>
    rw[if_neg Bool.false_ne_true]at hm ⊢
    exact hb ρ1 σ H1 h1 ls E f hd' R1 (hL.ext hR x1) hm λ ρ2 H2 x2 R2=>hQ ρ2 H2 (x1.trans R1 x2) R2
noncomputable abbrev MG:=D->Ls->Hd->Option Ls
noncomputable abbrev MGs:=List D->Ls->Hd->Option Ls
noncomputable def RGt(K:PySem.W.Frag)(t:TG)(m:MG):Prop:=∀ (ρ:List Addr) (σ:St) (H:Hp) (hd:Hd) (ls ls':Ls) (d:D) (v:V) (Q:St->Hp->Prop),RH K ρ H hd->RL K ρ H ls σ->RD K ρ H d v->m d ls hd=some ls' ->
  (∀ σ',RL K ρ H ls' σ'->Q σ' H)->t v σ H Q
noncomputable def LY(K:PySem.W.Frag)(t:TGs)(m:MGs):Prop:=∀ (ρ:List Addr) (σ:St) (H:Hp) (hd:Hd) (ls ls':Ls) (d:List D) (v:List V) (Q:St->Hp->Prop),RH K ρ H hd->RL K ρ H ls σ->RDs K ρ H d v->m d ls hd=some ls' ->
  (∀ σ',RL K ρ H ls' σ'->Q σ' H)->t v σ H Q
theorem RL.set{ls:Ls}{σ:St}{d:D}{v:V}(h:RL K ρ H ls σ)(i:Nat)(r:RD K ρ H d v):RL K ρ H (ls.set i (some d)) (σ.set i (some v)):=by
  refine⟨by simp[h.len],λ j e q=>?_⟩
  by_cases hij:i=j
  . subst hij
    have hl:i < ls.length:=by
      have:=(List.getElem?_eq_some_iff.mp q).1
      simpa using this
    rw[List.getElem?_set_self hl]at q
    cases q
    exact⟨v,by rw[List.getElem?_set_self (by rw[<- h.len];exact hl)],r⟩
  . rw[List.getElem?_set_ne hij]at q
    obtain⟨w,e1,e2⟩:=h.ob j e q
    exact⟨w,by rw[List.getElem?_set_ne hij];exact e1,e2⟩
noncomputable def AG(i:Nat):MG:=λ d ls _=>some (ls.set i (some d))
theorem Is{i:Nat}:RGt K (Fv i) (AG i):=by
  intro ρ σ H hd ls ls' d v Q hR hL hd hm hQ
  cases hm
  exact hQ _ (hL.set i hd)
noncomputable def CI:MGs:=λ ds ls _=>match ds with
  | []=>some ls
  | _=>none
noncomputable def Ad(m:MG)(r:MGs):MGs:=λ ds ls hd=>match ds with
  | d :: es=>(m d ls hd).bind λ ls1=>r es ls1 hd
  | []=>none
theorem SQ:LY K Qt CI:=by
  intro ρ σ H hd ls ls' d v Q hR hL hd hm hQ
  cases d with
  | nil=>
    simp only[RDs]at hd;subst hd
    cases hm
    exact⟨rfl,hQ _ hL⟩
  | cons a b=>cases hm
theorem Q4{t:TG}{u:TGs}{m:MG}{r:MGs}(h:RGt K t m)(h':LY K u r):LY K (Nb t u) (Ad m r):=by
  intro ρ σ H hd ls ls' d v Q hR hL hd hm hQ
  cases d with
  | nil=>cases hm
  | cons a b=>
    simp only[RDs]at hd
    obtain⟨x,y,rfl,h1,h2⟩:=hd
    obtain⟨ls1,e1,e2⟩:=Option.bind_eq_some_iff.mp hm
    exact⟨x,y,rfl,h ρ σ H _ ls ls1 a x _ hR hL h1 e1 λ σ1 L1=>h' ρ σ1 H _ ls1 ls' b y Q hR L1 h2 e2 hQ⟩
noncomputable def CH(n:Nat)(r:MGs):MG:=λ d ls hd=>(At d).bind λ ds=>if ds.length=n then r ds ls hd else none
theorem UJ{n:Nat}{u:TGs}{r:MGs}(h':LY K u r):RGt K (Na K n u) (CH n r):=by
  intro ρ σ H hd ls ls' d v Q hR hL hd hm hQ
  obtain⟨ds,e1,hm⟩:=Option.bind_eq_some_iff.mp hm
  split at hm
  . next c=>
    obtain⟨a,xs,rfl,q,rr⟩:=hd.tup e1
    exact⟨a,xs,rfl,q,by rw[rr.len];exact c,h' ρ σ H _ ls ls' ds xs Q hR hL rr hm hQ⟩
  . cases hm
noncomputable def Fs(m:ME)(g:MG):MS:=λ ls hd=>(m ls hd).bind λ p=>(g p.1 ls p.2).map λ ls'=>(.nx ls',p.2)
theorem KZ{t:TE}{m:ME}{g:TG}{n:MG}(h:RE K t m)(hg:RGt K g n):RS K (FZ t g) (Fs m n):=by
  intro ρ σ H hd ls E f hd' hR hL hm hQ
  obtain⟨⟨d1,h1⟩,e1,hm⟩:=Option.bind_eq_some_iff.mp hm
  obtain⟨ls',e2,e3⟩:=Option.map_eq_some_iff.mp hm
  cases e3
  exact h ρ σ H hd ls _ d1 _ hR hL e1 λ ρ1 H1 v x1 R1 r1=>hg ρ1 σ H1 _ ls ls' d1 v _ R1 (hL.ext hR x1) r1 e2 λ σ' L'=>hQ ρ1 H1 x1 R1 σ' L'
noncomputable abbrev AK(i:Nat)(m:ME):MS:=Fs m (AG i)
noncomputable def Hg(ix:List Nat)(ma:MA):MS:=λ ls hd=>(ma ls hd).bind λ p=>if p.1.length=ix.length then some (.nx ((ix.zip p.1).foldl (λ l q=>l.set q.1 (some q.2)) ls),p.2)else none
theorem UC{i j:Nat}{t:TA}{m:MA}(h:RA K t m):RS K (Ph i j t) (Hg [i,j] m):=by
  intro ρ σ H hd ls E f hd' hR hL hm hQ
  obtain⟨⟨d1,h1⟩,e1,hm⟩:=Option.bind_eq_some_iff.mp hm
  dsimp only at hm
  split at hm
  . next c=>
    cases hm
    refine h ρ σ H hd ls _ d1 _ hR hL e1 λ ρ1 H1 v x1 R1 r1=>?_
    match d1,c,r1,hQ with
    | [a,b],_,r1,hQ=>
      simp only[RDs]at r1
      obtain⟨x,r,rfl,ra,y,r2,rfl,rb,rfl⟩:=r1
      exact⟨x,y,rfl,hQ ρ1 H1 x1 R1 _ (((hL.ext hR x1).set i ra).set j rb)⟩
  . cases hm
noncomputable def IR(i j k:Nat)(ma:MA):MS:=Hg [k,j,i] (λ ls hd=>(ma ls hd).map λ p=>(p.1.reverse,p.2))
theorem SE{i j k:Nat}{t:TA}{m:MA}(h:RA K t m):RS K (Mq i j k t) (IR i j k m):=by
  intro ρ σ H hd ls E f hd' hR hL hm hQ
  obtain⟨⟨d1,h1⟩,e1,hm⟩:=Option.bind_eq_some_iff.mp hm
  obtain⟨⟨d2,h2⟩,e2,e3⟩:=Option.map_eq_some_iff.mp e1
  cases e3
  dsimp only at hm
  split at hm
  . next c=>
    cases hm
    refine h ρ σ H hd ls _ d2 _ hR hL e2 λ ρ1 H1 v x1 R1 r1=>?_
    have c:d2.length=3:=by simpa using c
    match d2,c,r1,hQ with
    | [a,b,e],_,r1,hQ=>
      simp only[RDs]at r1
      obtain⟨x,r,rfl,ra,y,r2,rfl,rb,z,r3,rfl,rc,rfl⟩:=r1
      exact⟨x,y,z,rfl,hQ ρ1 H1 x1 R1 _ ((((hL.ext hR x1).set k rc).set j rb).set i ra)⟩
  . cases hm
noncomputable abbrev Gd:=List (Nat × List D)
noncomputable abbrev MI:=Ls->Hd->Option ((List D × Gd) × Hd)
noncomputable def GOk(hd:Hd)(g:Gd):Prop:=∀ p ∈ g,hd[p.1]? = some (.lst p.2)
@[simp] theorem AV(hd:Hd):GOk hd []:=λ p h=>by cases h
noncomputable def LW(K:PySem.W.Frag)(ρ:List Addr)(H:Hp)(J:It)(ds:List D)(g:Gd):Prop:=∀ (ρ2:List Addr) (H2:Hp) (hd2:Hd),Ext ρ H ρ2 H2->RH K ρ2 H2 hd2->GOk hd2 g ->
  ∀ i:Nat,(i < ds.length->J.go i H2/\∀ x H3,J.yld i H2 x H3->∃ ρ3 d,Ext ρ2 H2 ρ3 H3/\ρ3=ρ2/\RH K ρ3 H3 hd2/\ds[i]? = some d/\RD K ρ3 H3 d x)/\(i=ds.length->J.stop i H2)
noncomputable def RIt(K:PySem.W.Frag)(t:TI)(m:MI):Prop:=∀ (ρ:List Addr) (σ:St) (H:Hp) (hd:Hd) (ls:Ls) (Q:It->Hp->Prop) (d:List D) (g:Gd) (hd':Hd),RH K ρ H hd->RL K ρ H ls σ->m ls hd=some ((d,g),hd') ->
  (∀ ρ' H' J,Ext ρ H ρ' H'->RH K ρ' H' hd'->GOk hd' g->LW K ρ' H' J d g->Q J H')->t σ H Q
theorem Mj{a:Addr}{xs:List V}{ds:List D}(hR:RH K ρ H hd)(q:SqT K H a xs)(r:RDs K ρ H ds xs)(g:Gd):LW K ρ H (Itt K a) ds g:=by
  intro ρ2 H2 hd2 x2 R2 _ i
  have q2:=(x2.grow hR).sq q
  have r2:=r.ext hR x2
  have uniq:∀ ys,SqT K H2 a ys->True:=λ _ _=>trivial
  refine⟨λ hi=>?_,λ hi=>⟨xs,q2,by rw[r2.len,hi];exact Nat.le_refl _⟩⟩
  have e:ds[i]? = some ds[i]:=by simp[hi]
  obtain⟨x,x1,x3⟩:=r2.get e
  refine⟨⟨xs,x,q2,x1⟩,λ y H3 ⟨e3,hy⟩=>?_⟩
  subst e3
  have:=hy xs q2
  rw[x1]at this
  cases this
  exact⟨ρ2,_,.refl,rfl,R2,e,x3⟩
noncomputable def Bg(m:ME):MI:=λ ls hd=>(m ls hd).bind λ p=>(At p.1).map λ ds=>((ds,[]),p.2)
theorem UI{t:TE}{m:ME}(h:RE K t m):RIt K (NW K t) (Bg m):=by
  intro ρ σ H hd ls Q d g hd' hR hL hm hQ
  obtain⟨⟨d1,h1⟩,e1,hm⟩:=Option.bind_eq_some_iff.mp hm
  obtain⟨ds,e2,e3⟩:=Option.map_eq_some_iff.mp hm
  cases e3
  refine h ρ σ H hd ls _ d1 _ hR hL e1 λ ρ1 H1 v x1 R1 r1=>?_
  obtain⟨a,xs,rfl,q,r⟩:=r1.tup e2
  exact⟨a,rfl,⟨xs,q⟩,hQ ρ1 H1 _ x1 R1 (AV _) (Mj R1 q r [])⟩
noncomputable def Em(m:ME):MI:=λ ls hd=>(m ls hd).bind λ p=>match p.1 with
  | .mu n=>match p.2[n]? with
    | some (.lst ds)=>some ((ds,[(n,ds)]),p.2)
    | _=>none
  | .ro ns=>some ((ns.map λ n=>.im (.int n),[]),p.2)
  | _=>none
theorem SO{t:TE}{m:ME}(h:RE K t m):RIt K (K6 K t) (Em m):=by
  intro ρ σ H hd ls Q d g hd' hR hL hm hQ
  obtain⟨⟨d1,h1⟩,e1,hm⟩:=Option.bind_eq_some_iff.mp hm
  dsimp only at hm
  split at hm
  . next n=>
    split at hm
    . next ds q=>
      cases hm
      refine h ρ σ H hd ls _ _ _ hR hL e1 λ ρ1 H1 v x1 R1 r1=>?_
      simp only[RD]at r1
      obtain⟨a,hn,rfl⟩:=r1
      obtain⟨xs,e2,e3⟩:=R1.lst hn q
      refine⟨a,rfl,⟨xs,SqL.of e2⟩,hQ ρ1 H1 _ x1 R1 (λ p z=>by simp at z;subst z;exact q) ?_⟩
      intro ρ2 H2 hd2 x2 R2 G2 i
      have q2:=G2 (n,d) (by simp)
      have hn2:ρ2[n]? = some a:=by
        obtain⟨r,rfl,_⟩:=x2.pre
        rw[List.getElem?_append_left (List.getElem?_eq_some_iff.mp hn).1];exact hn
      obtain⟨ys,e4,e5⟩:=R2.lst hn2 q2
      refine⟨λ hi=>?_,λ hi=>⟨ys,SqL.of e4,by rw[e5.len,hi];exact Nat.le_refl _⟩⟩
      have e:d[i]? = some d[i]:=by simp[hi]
      obtain⟨x,y1,y2⟩:=e5.get e
      refine⟨⟨ys,x,SqL.of e4,y1⟩,λ y H3 ⟨e6,hy⟩=>?_⟩
      subst e6
      have:=hy ys (SqL.of e4)
      rw[y1]at this
      cases this
      exact⟨ρ2,_,.refl,rfl,R2,e,y2⟩
    . cases hm
  . next ns=>
    cases hm
    refine h ρ σ H hd ls _ _ _ hR hL e1 λ ρ1 H1 v x1 R1 r1=>?_
    simp only[RD]at r1
    obtain⟨a,rfl,q⟩:=r1
    refine⟨a,rfl,⟨_,q.sq⟩,hQ ρ1 H1 _ x1 R1 (AV _) ?_⟩
    intro ρ2 H2 hd2 x2 R2 G2 i
    have q2:=(q.grow (x2.grow R1)).sq
    have e5:RDs K ρ2 H2 (ns.map λ n=>.im (.int n)) (ns.map V.int):=Ec
    refine⟨λ hi=>?_,λ hi=>⟨_,q2,by rw[e5.len,hi];exact Nat.le_refl _⟩⟩
    have e:(ns.map λ n=>D.im (.int n))[i]? = some ((ns.map λ n=>D.im (.int n))[i]):=by simp[hi]
    obtain⟨x,y1,y2⟩:=e5.get e
    refine⟨⟨_,x,q2,y1⟩,λ y H3 ⟨e6,hy⟩=>?_⟩
    subst e6
    have:=hy _ q2
    rw[y1]at this
    cases this
    exact⟨ρ2,_,.refl,rfl,R2,e,y2⟩
  . cases hm
noncomputable def Wj(ml:MA):MI:=λ ls hd=>(ml ls hd).map λ p=>((p.1,[]),p.2)
noncomputable def Ac(lo:Int):Nat->List D
  | 0=>[]
  | n + 1=>.im (.int lo) :: Ac (lo + 1) n
@[simp] theorem ES(lo:Int)(n:Nat):(Ac lo n).length=n:=by
  induction n generalizing lo with
  | zero=>rfl
  | succ n ih=>simp[Ac,ih]
theorem ID{n:Nat}:∀ {lo:Int} {i:Nat},i < n->(Ac lo n)[i]? = some (.im (.int (lo + i))):=by
  induction n with
  | zero=>intro lo i h;omega
  | succ n ih=>
    intro lo i h
    cases i with
    | zero=>simp[Ac]
    | succ i=>
      simp only[Ac,List.getElem?_cons_succ]
      rw[ih (by omega)]
      congr 3
      push_cast
      omega
theorem Hl{lo:Int}{n:Nat}{g:Gd}:LW K ρ H (Itr lo n) (Ac lo n) g:=by
  intro ρ2 H2 hd2 x2 R2 G2 i
  refine⟨λ hi=>?_,λ hi=>by rw[hi,ES];exact Nat.le_refl _⟩
  rw[ES]at hi
  refine⟨hi,λ x H3 ⟨e1,e2⟩=>?_⟩
  subst e1 e2
  exact⟨ρ2,_,.refl,rfl,R2,ID hi,by simp[RD,RI]⟩
open Classical in
noncomputable def Ca(m:MA):MI:=λ ls hd=>(m ls hd).bind λ p=>match p.1 with
  | [.im (.int j)]=>if Ej j then some ((Ac 0 j.toNat,[]),p.2)else none
  | _=>none
theorem SN{t:TA}{m:MA}(h:RA K t m):RIt K (NY t) (Ca m):=by
  intro ρ σ H hd ls Q d g hd' hR hL hm hQ
  obtain⟨⟨d1,h1⟩,e1,hm⟩:=Option.bind_eq_some_iff.mp hm
  dsimp only at hm
  split at hm
  . next j=>
    split at hm
    . next c=>
      cases hm
      refine h ρ σ H hd ls _ _ _ hR hL e1 λ ρ1 H1 v x1 R1 r1=>?_
      simp only[RDs,RD,RI]at r1
      obtain⟨x,r,rfl,rfl,rfl⟩:=r1
      exact⟨j,rfl,c.1,c.2,hQ ρ1 H1 _ x1 R1 (AV _) Hl⟩
    . cases hm
  . cases hm
open Classical in
noncomputable def Dw(m:MA):MI:=λ ls hd=>(m ls hd).bind λ p=>match p.1 with
  | [.im (.int i),.im (.int j)]=>if Kc i j then some ((Ac i (j - i).toNat,[]),p.2)else none
  | _=>none
theorem SM{t:TA}{m:MA}(h:RA K t m):RIt K (NX t) (Dw m):=by
  intro ρ σ H hd ls Q d g hd' hR hL hm hQ
  obtain⟨⟨d1,h1⟩,e1,hm⟩:=Option.bind_eq_some_iff.mp hm
  dsimp only at hm
  split at hm
  . next i j=>
    split at hm
    . next c=>
      cases hm
      refine h ρ σ H hd ls _ _ _ hR hL e1 λ ρ1 H1 v x1 R1 r1=>?_
      simp only[RDs,RD,RI]at r1
      obtain⟨x,r,rfl,rfl,y,r2,rfl,rfl,rfl⟩:=r1
      exact⟨i,j,rfl,⟨c.1.1,c.1.2,c.2.1,c.2.2⟩,hQ ρ1 H1 _ x1 R1 (AV _) Hl⟩
    . cases hm
  . cases hm
open Classical in
noncomputable def BL(n:MG)(b:MS)(g:Gd):List D->Ls->Hd->Option (Fl × Hd)
  | [],ls,hd=>some (.nx ls,hd)
  | d :: r,ls,hd=>(n d ls hd).bind λ ls1=>(b ls1 hd).bind λ p=>match p.1 with
    | .nx ls2=>if GOk p.2 g then BL n b g r ls2 p.2 else none
    | .ct ls2=>if GOk p.2 g then BL n b g r ls2 p.2 else none
    | .bk ls2=>some (.nx ls2,p.2)
    | .rt d=>some (.rt d,p.2)
noncomputable def BW(mi:MI)(n:MG)(b:MS):MS:=λ ls hd=>(mi ls hd).bind λ p=>BL n b p.1.2 p.1.1 ls p.2
theorem UD{wi:TI}{g:TG}{tb:TS}{mi:MI}{n:MG}{b:MS}(hi:RIt K wi mi)(hg:RGt K g n)(hb:RS K tb b):RS K (Po wi g tb) (BW mi n b):=by
  intro ρ σ H hd ls E f hd' hR hL hm hQ
  obtain⟨⟨⟨ds,gd⟩,h1⟩,e1,hm⟩:=Option.bind_eq_some_iff.mp hm
  refine hi ρ σ H hd ls _ ds gd h1 hR hL e1 λ ρ1 H1 J x1 R1 G1 Y=>?_
  dsimp only at hm
  refine⟨λ i m σ2 H2=>m=ds.length - i/\i <= ds.length/\∃ ρ2 ls2 hd2,Ext ρ1 H1 ρ2 H2/\RH K ρ2 H2 hd2/\RL K ρ2 H2 ls2 σ2/\GOk hd2 gd/\BL n b gd (ds.drop i) ls2 hd2=some (f,hd'),
    ⟨ds.length,by simp,Nat.zero_le _,ρ1,ls,h1,.refl,R1,hL.ext hR x1,G1,by simpa using hm⟩,?_⟩
  rintro i m σ2 H2 ⟨rfl,hi,ρ2,ls2,hd2,x2,R2,L2',G2,hm2⟩
  obtain⟨Y1,Y2⟩:=Y ρ2 H2 hd2 x2 R2 G2 i
  by_cases hlt:i < ds.length
  . obtain⟨go,Y1⟩:=Y1 hlt
    have ed:ds.drop i=ds[i] :: ds.drop (i + 1):=List.drop_eq_getElem_cons hlt
    rw[ed]at hm2
    unfold BL at hm2
    obtain⟨ls3,e3,hm2⟩:=Option.bind_eq_some_iff.mp hm2
    obtain⟨⟨fl,hd4⟩,e4,hm2⟩:=Option.bind_eq_some_iff.mp hm2
    refine .inr ⟨go,λ σ' H'=>∃ ρ2 ls2 hd2,Ext ρ1 H1 ρ2 H'/\RH K ρ2 H' hd2/\RL K ρ2 H' ls2 σ'/\GOk hd2 gd/\BL n b gd (ds.drop (i + 1)) ls2 hd2=some (f,hd'),λ σ' H' z=>⟨ds.length - (i + 1),by omega,rfl,hlt,z⟩,λ x H3 y=>?_⟩
    obtain⟨ρ3,d3,x3,rfl,R3,e5,r3⟩:=Y1 x H3 y
    have e6:d3=ds[i]:=by
      have:ds[i]? = some ds[i]:=by simp[hlt]
      rw[this]at e5;exact(Option.some.inj e5).symm
    subst e6
    refine hg ρ3 σ2 H3 hd2 ls2 ls3 _ x _ R3 (L2'.ext R2 x3) r3 e3 λ σ4 L4=>?_
    refine hb ρ3 σ4 H3 hd2 ls3 _ fl hd4 R3 L4 e4 λ ρ5 H5 x5 R5=>?_
    have x15:=(x2.trans R2 x3).trans R3 x5
    cases fl with
    | nx ls5=>
      intro σ5 L5
      dsimp only at hm2
      split at hm2
      . next c=>exact⟨ρ5,ls5,hd4,x15,R5,L5,c,hm2⟩
      . cases hm2
    | ct ls5=>
      intro σ5 L5
      dsimp only at hm2
      split at hm2
      . next c=>exact⟨ρ5,ls5,hd4,x15,R5,L5,c,hm2⟩
      . cases hm2
    | bk ls5=>
      intro σ5 L5
      cases hm2
      exact hQ ρ5 H5 (x1.trans R1 x15) R5 σ5 L5
    | rt d5=>
      intro v5 r5
      cases hm2
      exact hQ ρ5 H5 (x1.trans R1 x15) R5 v5 r5
  . have e:i=ds.length:=by omega
    subst e
    rw[List.drop_length]at hm2
    unfold BL at hm2
    cases hm2
    exact .inl ⟨Y2 rfl,hQ ρ2 H2 (x1.trans R1 x2) R2 σ2 L2'⟩
open Classical in
noncomputable def B2(n:MG)(c:MT)(m:ME)(g:Gd):List D->Ls->Hd->Option (List D × Hd)
  | [],_,hd=>some ([],hd)
  | d :: r,ls,hd=>(n d ls hd).bind λ ls1=>(c ls1 hd).bind λ p=>if p.1=true then(m ls1 p.2).bind λ q=>if GOk q.2 g then(B2 n c m g r ls1 q.2).map λ z=>(q.1 :: z.1,z.2)else none else if GOk p.2 g then B2 n c m g r ls1 p.2 else none
noncomputable def EC(k:Nat)(ix:List Nat)(ls:Ls):Ls:=List.replicate k none ++ ix.map λ i=>(ls[i]?).join
open Classical in
noncomputable def Bc(k:Nat)(ix:List Nat)(mi:MI)(n:MG)(c:MT)(m:ME):MA:=λ ls hd=>(mi ls hd).bind λ p=>if Ck p.1.1.length then B2 n c m p.1.2 p.1.1 (EC k ix ls) p.2 else none
theorem Tn{k:Nat}{ix:List Nat}{ls:Ls}{σ:St}(h:RL K ρ H ls σ):RL K ρ H (EC k ix ls) (Gf k ix σ):=by
  refine⟨by simp[EC,Gf],λ i d e=>?_⟩
  unfold EC at e
  unfold Gf
  by_cases hi:i < k
  . rw[List.getElem?_append_left (by simpa using hi),List.getElem?_replicate]at e
    split at e <;> cases e
  . have hi':k <= i:=Nat.not_lt.mp hi
    rw[List.getElem?_append_right (by simpa using hi'),List.length_replicate,List.getElem?_map]at e ⊢
    cases q:ix[i - k]? with
    | none=>rw[q]at e;cases e
    | some j=>
      rw[q]at e
      simp only[Option.map_some,Option.some.injEq]at e ⊢
      have e5:ls[j]? = some (some d):=by
        cases w:ls[j]? with
        | none=>rw[w]at e;cases e
        | some z=>rw[w]at e;simpa using e
      obtain⟨v,e6,e7⟩:=h.ob j d e5
      exact⟨v,by rw[e6];rfl,e7⟩
theorem Ly{k:Nat}{ix:List Nat}{wi:TI}{g:TG}{tf:TT}{te:TE}{mi:MI}{n:MG}{c:MT}{m:ME}(hi:RIt K wi mi)(hg:RGt K g n)(hf:RT K tf c)(he:RE K te m):RN K (Hw k ix wi g tf te) (Bc k ix mi n c m):=by
  intro ρ σ H hd ls Q out hd' hR hL hm hQ
  obtain⟨⟨⟨ds,gd⟩,h1⟩,e1,hm⟩:=Option.bind_eq_some_iff.mp hm
  dsimp only at hm
  split at hm
  . next hlen=>
    have hlen:ds.length <= sizeLine:=hlen
    refine hi ρ σ H hd ls _ ds gd h1 hR hL e1 λ ρ1 H1 J x1 R1 G1 Y=>?_
    intro Da hDa
    obtain⟨R1',x1'⟩:=R1.hid (ho:=.lst []) hDa
    have oD:Da ∉ ρ1:=R1.out hDa
    have nD:H Da=none:=x1.none hR hDa R1
    refine⟨λ i mm σ2 ys H2=>mm=ds.length - i/\i <= ds.length/\∃ ρ2 ls2 hd2 es rest,Ext ρ1 (upd H1 Da (.lst ys)) ρ2 H2/\Ext ρ1 H1 ρ2 H2/\Da ∉ ρ2/\H2 Da=some (.lst ys)/\RH K ρ2 H2 hd2/\RL K ρ2 H2 ls2 σ2/\RDs K ρ2 H2 es ys/\es.length <= i/\GOk hd2 gd/\B2 n c m gd (ds.drop i) ls2 hd2=some (rest,hd')/\out=es ++ rest,
      ⟨ds.length,by simp,Nat.zero_le _,ρ1,_,h1,[],out,.refl,x1',oD,AT,R1',(Tn ((hL.ext hR x1).ext R1 x1')),.nil,Nat.le_refl _,G1,by simpa using hm,rfl⟩,?_⟩
    rintro i mm σ2 ys H2 ⟨rfl,hi,ρ2,ls2,hd2,es,rest,x2',x2,oD2,hD2,R2,L2',r2,hle,G2,hm2,rfl⟩
    refine⟨hD2,?_⟩
    obtain⟨Y1,Y2⟩:=Y ρ2 H2 hd2 x2 R2 G2 i
    by_cases hlt:i < ds.length
    . obtain⟨go,Y1⟩:=Y1 hlt
      have ed:ds.drop i=ds[i] :: ds.drop (i + 1):=List.drop_eq_getElem_cons hlt
      rw[ed]at hm2
      unfold B2 at hm2
      obtain⟨ls3,e3,hm2⟩:=Option.bind_eq_some_iff.mp hm2
      obtain⟨⟨bb,hd4⟩,e4,hm2⟩:=Option.bind_eq_some_iff.mp hm2
      refine .inr ⟨go,Nat.lt_of_le_of_lt (by rw[r2.len];exact hle) (by omega),λ σ' ys' H'=>∃ ρ2 ls2 hd2 es' rest',Ext ρ1 (upd H1 Da (.lst ys')) ρ2 H'/\Ext ρ1 H1 ρ2 H'/\Da ∉ ρ2/\H' Da=some (.lst ys')/\RH K ρ2 H' hd2/\RL K ρ2 H' ls2 σ'/\RDs K ρ2 H' es' ys'/\es'.length <= i + 1/\GOk hd2 gd/\B2 n c m gd (ds.drop (i + 1)) ls2 hd2=some (rest',hd')/\es ++ rest=es' ++ rest',λ σ' ys' H' z=>⟨ds.length - (i + 1),by omega,rfl,hlt,z⟩,λ x H3 y=>?_⟩
      obtain⟨ρ3,d3,x3,rfl,R3,e5,r3⟩:=Y1 x H3 y
      have e6:d3=ds[i]:=by
        have:ds[i]? = some ds[i]:=by simp[hlt]
        rw[this]at e5;exact(Option.some.inj e5).symm
      subst e6
      refine hg ρ3 σ2 H3 hd2 ls2 ls3 _ x _ R3 (L2'.ext R2 x3) r3 e3 λ σ4 L4=>?_
      refine hf ρ3 σ4 H3 hd2 ls3 _ bb hd4 R3 L4 e4 λ ρ5 H5 x5 R5=>?_
      have hD5:H5 Da=some (.lst ys):=x5.keep Da _ (x3.keep Da _ hD2 oD2 nt) oD2 nt
      have out5:Da ∉ ρ5:=by
        obtain⟨r,rfl,fr⟩:=x5.pre
        intro z
        rcases List.mem_append.mp z with z|z
        . exact oD2 z
        . have:=fr _ z
          rw[x3.keep Da _ hD2 oD2 nt]at this;cases this
      cases bb with
      | false=>
        rw[if_neg Bool.false_ne_true]at hm2 ⊢
        have y25:=x3.trans R3 x5
        split at hm2
        . next g5=>exact⟨ρ5,ls3,hd4,es,rest,x2'.trans R2 y25,(x2.trans R2 y25),out5,hD5,R5,L4.ext R3 x5,(r2.ext R2 y25),by omega,g5,hm2,rfl⟩
        . cases hm2
      | true=>
        rw[if_pos rfl]at hm2 ⊢
        obtain⟨⟨z,hd6⟩,e6,hm2⟩:=Option.bind_eq_some_iff.mp hm2
        obtain⟨g6,hm2⟩:GOk hd6 gd/\((B2 n c m gd (ds.drop (i + 1)) ls3 hd6).map λ q=>(z :: q.1,q.2))=some (rest,hd'):=by
          dsimp only at hm2
          split at hm2
          . next g6=>exact⟨g6,hm2⟩
          . cases hm2
        obtain⟨⟨zs,hd7⟩,e7,e8⟩:=Option.map_eq_some_iff.mp hm2
        cases e8
        refine he ρ5 σ4 H5 hd4 ls3 _ z hd6 R5 (L4.ext R3 x5) e6 λ ρ6 H6 v6 x6 R6 r6=>?_
        have hD6:H6 Da=some (.lst ys):=x6.keep Da _ hD5 out5 nt
        have out6:Da ∉ ρ6:=by
          obtain⟨r,rfl,fr⟩:=x6.pre
          intro z
          rcases List.mem_append.mp z with z|z
          . exact out5 z
          . have:=fr _ z
            rw[hD5]at this;cases this
        refine⟨hD6,?_⟩
        have y26:=(x3.trans R3 x5).trans R5 x6
        have gr:Grow H6 (upd H6 Da (.lst (ys ++ [v6]))):=Grow.refl.put (.lst hD6)
        have R7:=R6.hput (ho:=.lst (ys ++ [v6])) out6 hD6
        have x12:=x2.trans R2 y26
        have ext7:Ext ρ1 H1 ρ6 (upd H6 Da (.lst (ys ++ [v6]))):=⟨x12.pre,λ b o q nb t=>by
          have:b ≠ Da:=AX q hDa
          rw[AD this];exact x12.keep b o q nb t,λ b ps q=>by
          have:b ≠ Da:=AX q hDa
          rw[AD this];exact x12.tab b ps q⟩
        have ext8:Ext ρ1 (upd H1 Da (.lst (ys ++ [v6]))) ρ6 (upd H6 Da (.lst (ys ++ [v6]))):=by
          obtain⟨r,er,fr⟩:=x12.pre
          refine⟨⟨r,er,λ b hb=>?_⟩,λ b o q nb t=>?_,λ b ps q=>?_⟩
          . have:b ≠ Da:=λ z=>out6 (by rw[er,<- z];exact List.mem_append_right _ hb)
            rw[AD this];exact fr b hb
          . by_cases hb:b=Da
            . subst hb;rw[AT]at q ⊢;exact q
            . rw[AD hb]at q ⊢;exact x12.keep b o q nb t
          . by_cases hb:b=Da
            . subst hb;rw[AT]at q;cases q
            . rw[AD hb]at q ⊢;exact x12.tab b ps q
        refine⟨ρ6,ls3,hd6,es ++ [z],zs,ext8,ext7,out6,AT,R7,?_,?_,by simp;omega,g6,e7,by simp⟩
        . have L6:=(L4.ext R3 x5).ext R5 x6
          exact⟨L6.len,λ i d e=>let ⟨v,a,b⟩:=L6.ob i d e;⟨v,a,by simpa using b.mono gr []⟩⟩
        . have:=((r2.ext R2 y26).app (.cons r6 .nil)).mono gr []
          simpa using this
    . have e:i=ds.length:=by omega
      subst e
      rw[List.drop_length]at hm2
      unfold B2 at hm2
      cases hm2
      refine .inl ⟨Y2 rfl,?_⟩
      exact hQ ρ2 H2 Da ys (x1.trans R1 x2) R2 nD oD2 hD2 (by simpa using r2)
  . cases hm
end
end L2
namespace L2
open PySem PySem.Spec PyProof.Rows
mutual
noncomputable def clD(w:Nat):D->Bool
  | .im _=>true
  | .mu n=>decide (n < w)
  | .tm ds=>BF w ds
  | .ro _=>true
noncomputable def BF(w:Nat):List D->Bool
  | []=>true
  | d :: ds=>clD w d && BF w ds
end
noncomputable def FC(w:Nat):List (Key × D)->Bool
  | []=>true
  | d :: ds=>clD w d.2 && FC w ds
noncomputable def clO(w:Nat):MO->Bool
  | .lst ds=>BF w ds
  | .dic ds=>FC w ds
section
variable{K:PySem.W.Frag}{ρ ρ' ρ1:List Addr}{H H' H1:Hp}{hd hd' h1 h2:Hd}
@[simp] theorem Ww{w:Nat}(a b:List D):BF w (a ++ b)=(BF w a && BF w b):=by induction a <;> simp_all [BF,Bool.and_assoc]
mutual
theorem RD.take(w:Nat):∀ {d:D} {v:V},RD K ρ H d v->clD w d=true->RD K (ρ.take w) H d v
  | .im i,v,h,_=>by simp only[RD]at h ⊢;exact h
  | .mu n,v,h,c=>by
    simp only[RD]at h ⊢
    obtain⟨a,e,q⟩:=h
    exact⟨a,by rw[List.getElem?_take_of_lt (by simpa [clD]using c)];exact e,q⟩
  | .tm ds,v,h,c=>by
    simp only[RD]at h ⊢
    obtain⟨a,xs,e,q,z⟩:=h
    exact⟨a,xs,e,q,RDs.take' w z (by simpa [clD]using c)⟩
  | .ro ns,v,h,c=>by simp only[RD]at h ⊢;exact h
theorem RDs.take'(w:Nat):∀ {d:List D} {v:List V},RDs K ρ H d v->BF w d=true->RDs K (ρ.take w) H d v
  | [],v,h,_=>by simpa only[RDs]using h
  | d :: ds,v,h,c=>by
    simp only[RDs]at h ⊢
    obtain⟨x,r',e,q,z⟩:=h
    have c:clD w d=true/\BF w ds=true:=by simpa [BF]using c
    exact⟨x,r',e,q.take w c.1,RDs.take' w z c.2⟩
end
theorem RKs.take(w:Nat):∀ {d:List (Key × D)} {v:List (Key × V)},RKs K ρ H d v->FC w d=true->RKs K (ρ.take w) H d v
  | [],v,h,_=>by simpa only[RKs]using h
  | d :: ds,v,h,c=>by
    simp only[RKs]at h ⊢
    obtain⟨x,r',e,q1,q,z⟩:=h
    have c:clD w d.2=true/\FC w ds=true:=by simpa [FC]using c
    exact⟨x,r',e,q1,q.take w c.1,RKs.take w z c.2⟩
theorem RC.take(w:Nat){o:MO}{ho:HO}(h:RC K ρ H o ho)(c:clO w o=true):RC K (ρ.take w) H o ho:=by
  cases o with
  | lst ds=>obtain⟨xs,e,q⟩:=h;exact⟨xs,e,q.take' w c⟩
  | dic ds=>obtain⟨xs,e,q⟩:=h;exact⟨xs,e,q.take w c⟩
theorem RH.take(h:RH K ρ H hd)(w:Nat)(c:(hd.take w).all (clO w)=true):RH K (ρ.take w) H (hd.take w):=by
  refine⟨by simp[h.len],h.nd.sublist (List.take_sublist _ _),h.tabs,λ n o a e1 e2=>?_⟩
  have co:=List.all_eq_true.mp c o (List.mem_of_getElem? e1)
  have hn:n < w:=by
    have:=(List.getElem?_eq_some_iff.mp e1).1
    simp at this;omega
  rw[List.getElem?_take_of_lt hn]at e1 e2
  obtain⟨ho,q1,q2⟩:=h.ob n o a e1 e2
  exact⟨ho,q1,q2.take w co⟩
theorem RH.back(R1:RH K ρ1 H1 h1){w:Nat}(hw:w <= h1.length)(c1:(h1.take w).all (clO w)=true)(x:Ext (ρ1.take w) H1 ρ' H')(R':RH K ρ' H' h2)(c:(h2.take w).all (clO w)=true) :
    RH K ρ1 H' (h2.take w ++ h1.drop w)/\Ext ρ1 H1 ρ1 H'/\ρ'.take w=ρ1.take w:=by
  obtain⟨r,rfl,fr⟩:=x.pre
  have lw:(ρ1.take w).length=w:=by rw[List.length_take,R1.len];omega
  have l2:w <= h2.length:=by rw[<- R'.len];simp[lw]
  have tk:(ρ1.take w ++ r).take w=ρ1.take w:=by rw[List.take_append_of_le_length (by omega),List.take_take];simp
  refine⟨⟨?_,R1.nd,R'.tabs,λ n o a e1 e2=>?_⟩,⟨⟨[],by simp,by simp⟩,λ b o q nb t=>x.keep b o q (λ m=>nb (List.mem_of_mem_take m)) t,x.tab⟩,tk⟩
  . rw[List.length_append,List.length_take,List.length_drop,R1.len];omega
  . by_cases hn:n < w
    . rw[List.getElem?_append_left (by rw[List.length_take];omega),List.getElem?_take_of_lt hn]at e1
      have e3:(ρ1.take w ++ r)[n]? = some a:=by
        rw[List.getElem?_append_left (by omega),List.getElem?_take_of_lt hn];exact e2
      obtain⟨ho,q1,q2⟩:=R'.ob n o a e1 e3
      have co:=List.all_eq_true.mp c o (by
        have:(h2.take w)[n]? = some o:=by rw[List.getElem?_take_of_lt hn];exact e1
        exact List.mem_of_getElem? this)
      have q3:=q2.take w co
      rw[tk]at q3
      have q4:=q3.mono (Grow.refl (H:=H')) (ρ1.drop w)
      rw[List.take_append_drop]at q4
      exact⟨ho,q1,q4⟩
    . rw[List.getElem?_append_right (by rw[List.length_take];omega),List.length_take,List.getElem?_drop]at e1
      have e1:h1[n]? = some o:=by
        have:w + (n - min w h2.length)=n:=by omega
        rw[this]at e1;exact e1
      obtain⟨ho,q1,q2⟩:=R1.ob n o a e1 e2
      have out:a ∉ ρ1.take w:=λ m=>by
        obtain⟨k,hk⟩:=List.mem_iff_getElem?.mp m
        have kw:k < w:=by
          have:=(List.getElem?_eq_some_iff.mp hk).1
          rw[lw]at this;exact this
        rw[List.getElem?_take_of_lt kw]at hk
        have:=(List.getElem?_inj (List.getElem?_eq_some_iff.mp e2).1 R1.nd).mp (e2.trans hk.symm)
        omega
      have gr:=x.grow (R1.take w c1)
      exact⟨ho,x.keep a ho q1 out (λ ps z=>by rcases R1.mut (List.mem_of_getElem? e2)with⟨y,w⟩|⟨y,w⟩ <;> (rw[q1,z]at w;cases w)),by simpa using q2.mono gr []⟩
noncomputable def spF(K:PySem.W.Frag)(k:Nat)(F:List D->Hd->Option (D × Hd)):Sp:=λ vs H Q _=>vs.length=k/\∃ (ρ:List Addr) (hd:Hd) (ds:List D) (d:D) (hd':Hd),RH K ρ H hd/\RDs K ρ H ds vs/\F ds hd=some (d,hd') /\
  ∀ ρ' H' v,Ext ρ H ρ' H'->RH K ρ' H' hd'->RD K ρ' H' d v->Q v H'
noncomputable def mkF(k n:Nat)(m:MS):List D->Hd->Option (D × Hd):=λ ds hd=>if ds.length=k then(match m (ds.map some ++ List.replicate (n - k) none) hd with
  | some (.rt d,hd')=>some (d,hd')
  | some (.nx _,hd')=>some (.im .non,hd')
  | _=>none)else none
theorem Kd{N:List Str}:∀ {ds:List D} {vs:List V},RDs K ρ H ds vs->RL K ρ H (ds.map some ++ List.replicate (N.length - ds.length) none) (DR N vs):=by
  intro ds vs r
  have hl:=r.len
  refine⟨by simp[DR,hl],λ i d e=>?_⟩
  unfold DR
  by_cases hi:i < ds.length
  . rw[List.getElem?_append_left (by simpa using hi),List.getElem?_map]at e
    have e':ds[i]? = some d:=by
      cases q:ds[i]? with
      | none=>rw[q]at e;cases e
      | some z=>rw[q]at e;simpa using e
    obtain⟨x,x1,x2⟩:=r.get e'
    exact⟨x,by rw[List.getElem?_append_left (by rw[List.length_map,hl];exact hi),List.getElem?_map,x1];rfl,x2⟩
  . rw[List.getElem?_append_right (by simpa using Nat.not_lt.mp hi),List.getElem?_replicate]at e
    split at e <;> cases e
theorem Lq{k:Nat}{N:List Str}{m:MS}{t:TS}(h:RS K t m){vs:List V}{H:Hp}{Q:VK}{E:XK}(s:spF K k (mkF k N.length m) vs H Q E):t { nx:=λ _ H'=>Q .non H',rt:=Q } (DR N vs) H:=by
  obtain⟨hk,ρ,hd,ds,d,hd',hR,hr,hF,hQ⟩:=s
  unfold mkF at hF
  split at hF
  . next hl=>
    subst hl
    split at hF
    . next q=>
      cases hF
      exact h ρ _ H hd _ _ _ _ hR (Kd hr) q λ ρ' H' x R v r=>hQ ρ' H' v x R r
    . next q=>
      cases hF
      exact h ρ _ H hd _ _ _ _ hR (Kd hr) q λ ρ' H' x R σ L=>hQ ρ' H' .non x R (by simp[RD,RI])
    . cases hF
  . cases hF
noncomputable def FM(F:List D->Hd->Option (D × Hd))(ma:MA):ME:=λ ls hd=>(ma ls hd).bind λ p=>F p.1 p.2
theorem Q7{k:Nat}{F:List D->Hd->Option (D × Hd)}{t:TA}{m:MA}(h:RA K t m)(hk:∀ ds hd z,F ds hd=some z->ds.length=k):RE K (Gm (spF K k F) [] E0 t) (FM F m):=by
  intro ρ σ H hd ls Q d hd' hR hL hm hQ
  obtain⟨⟨d1,h1⟩,e1,hm⟩:=Option.bind_eq_some_iff.mp hm
  refine h ρ σ H hd ls _ d1 h1 hR hL e1 λ ρ1 H1 v1 x1 R1 r1=>?_
  rw[List.append_nil]
  exact⟨by rw[r1.len];exact hk _ _ _ hm,ρ1,h1,d1,d,hd',R1,r1,hm,λ ρ' H' w x2 R2 r2=>hQ ρ' H' w (x1.trans R1 x2) R2 r2⟩
theorem AR{k n:Nat}{m:MS}:∀ ds hd z,mkF k n m ds hd=some z->ds.length=k:=λ ds hd z h=>by
  unfold mkF at h
  split at h
  . next e=>exact e
  . cases h
noncomputable def fin(w:Nat)(d:D)(h2 rest:Hd):Option (D × Hd):=if(h2.take w).all (clO w)=true then(match d with
    | .mu k=>if k < w then some (.mu k,h2.take w ++ rest)else(match h2[k]? with
      | some (.lst ds)=>if BF w ds=true then some (.mu (w + rest.length),h2.take w ++ rest ++ [.lst ds])else none
      | _=>none)
    | d=>if clD w d=true then some (d,h2.take w ++ rest)else none)else none
noncomputable def AA(w:Nat)(F:List D->Hd->Option (D × Hd))(ma:MA):ME:=λ ls hd=>(ma ls hd).bind λ p=>
  if w <= p.2.length/\BF w p.1=true/\(p.2.take w).all (clO w)=true then(F p.1 (p.2.take w)).bind λ r=>fin w r.1 r.2 (p.2.drop w)else none
theorem Q6{w k:Nat}{F:List D->Hd->Option (D × Hd)}{t:TA}{m:MA}(h:RA K t m)(hk:∀ ds hd z,F ds hd=some z->ds.length=k):RE K (Gm (spF K k F) [] E0 t) (AA w F m):=by
  intro ρ σ H hd ls Q d hd' hR hL hm hQ
  obtain⟨⟨d1,h1⟩,e1,hm⟩:=Option.bind_eq_some_iff.mp hm
  dsimp only at hm
  split at hm
  . next c=>
    obtain⟨c0,c1,c2⟩:=c
    obtain⟨⟨d2,h2⟩,e2,hm⟩:=Option.bind_eq_some_iff.mp hm
    refine h ρ σ H hd ls _ d1 h1 hR hL e1 λ ρ1 H1 v1 x1 R1 r1=>?_
    rw[List.append_nil]
    refine⟨by rw[r1.len];exact hk _ _ _ e2,ρ1.take w,h1.take w,d1,d2,h2,R1.take w c2,r1.take' w c1,e2,λ ρ' H' v x2 R2 r2=>?_⟩
    unfold fin at hm
    dsimp only at hm
    split at hm
    . next c3=>
      obtain⟨R3,x3,tk⟩:=R1.back c0 c2 x2 R2 c3
      have up:∀ {d:D} {v:V},RD K ρ' H' d v->clD w d=true->RD K ρ1 H' d v:=λ r c=>by
        have q:=r.take w c
        rw[tk]at q
        have q:=q.mono (Grow.refl (H:=H')) (ρ1.drop w)
        rw[List.take_append_drop]at q
        exact q
      have ups:∀ {d:List D} {v:List V},RDs K ρ' H' d v->BF w d=true->RDs K ρ1 H' d v:=λ r c=>by
        have q:=r.take' w c
        rw[tk]at q
        have q:=q.mono (Grow.refl (H:=H')) (ρ1.drop w)
        rw[List.take_append_drop]at q
        exact q
      split at hm
      . next k'=>
        split at hm
        . next hk'=>
          cases hm
          exact hQ ρ1 H' v (x1.trans R1 x3) R3 (up r2 (by simpa [clD]using hk'))
        . next hk'=>
          split at hm
          . next ds q=>
            split at hm
            . next c4=>
              cases hm
              simp only[RD]at r2
              obtain⟨a,ea,rfl⟩:=r2
              obtain⟨xs,l1,l2⟩:=R2.lst ea q
              have len3:=R3.len
              have out:a ∉ ρ1:=λ m=>by
                -- a is one of those made behind the first w
                obtain⟨r,er,fr⟩:=x2.pre
                have lw:(ρ1.take w).length=w:=by rw[List.length_take,R1.len];omega
                have ma:a ∈ r:=by
                  rw[er,List.getElem?_append_right (by rw[lw];omega)]at ea
                  exact List.mem_of_getElem? ea
                exact R1.out (fr a ma) m
              have na:H1 a=none:=by
                obtain⟨r,er,fr⟩:=x2.pre
                have lw:(ρ1.take w).length=w:=by rw[List.length_take,R1.len];omega
                have ma:a ∈ r:=by
                  rw[er,List.getElem?_append_right (by rw[lw];omega)]at ea
                  exact List.mem_of_getElem? ea
                exact fr a ma
              refine hQ (ρ1 ++ [a]) H' _ (x1.trans R1 (x3.name na)) (R3.name out l1 (ups l2 c4)) ?_
              simp only[RD]
              refine⟨a,?_,rfl⟩
              have:w + (List.drop w h1).length=ρ1.length:=by rw[List.length_drop,R1.len];omega
              rw[this];simp
            . cases hm
          . cases hm
      . next d' nd=>
        split at hm
        . next c4=>cases hm;exact hQ ρ1 H' v (x1.trans R1 x3) R3 (up r2 c4)
        . cases hm
    . cases hm
  . cases hm
noncomputable def BK(kvs:List (Key × D))(k:Key):Option D:=(kvs.find? λ kv=>decide (kv.1=k)).map (·.2)
noncomputable def CS(kvs:List (Key × D))(k:Key)(v:D):List (Key × D):=
  if(kvs.any λ kv=>decide (kv.1=k))=true then kvs.map (λ kv=>if kv.1=k then(kv.1,v)else kv)else kvs ++ [(k,v)]
theorem RKs.val:∀ {kvs:List (Key × D)} {xs:List (Key × V)} {k:Key} {d:D},RKs K ρ H kvs xs->BK kvs k=some d->∃ v,Dz xs k=some v/\RD K ρ H d v
  | [],xs,k,d,h,e=>by simp[BK]at e
  | p :: kvs,xs,k,d,h,e=>by
    simp only[RKs]at h
    obtain⟨x,r,rfl,e1,r1,r2⟩:=h
    by_cases hk:p.1=k
    . rw[Eh (e1.trans hk)]
      simp[BK,List.find?_cons,hk]at e
      subst e
      exact⟨_,rfl,r1⟩
    . rw[Ei (by rw[e1];exact hk)]
      simp only[BK,List.find?_cons,hk,decide_false]at e
      exact RKs.val r2 e
theorem RKs.valN:∀ {kvs:List (Key × D)} {xs:List (Key × V)} {k:Key},RKs K ρ H kvs xs->(Dz xs k).isSome=(BK kvs k).isSome
  | [],xs,k,h=>by simp only[RKs]at h;subst h;rfl
  | p :: kvs,xs,k,h=>by
    simp only[RKs]at h
    obtain⟨x,r,rfl,e1,r1,r2⟩:=h
    by_cases hk:p.1=k
    . rw[Eh (e1.trans hk)];simp[BK,List.find?_cons,hk]
    . rw[Ei (by rw[e1];exact hk)];simp only[BK,List.find?_cons,hk,decide_false];exact RKs.valN r2
theorem RKs.any:∀ {kvs:List (Key × D)} {xs:List (Key × V)} {k:Key},RKs K ρ H kvs xs->(xs.any λ kv=>decide (kv.1=k))=(kvs.any λ kv=>decide (kv.1=k))
  | [],xs,k,h=>by simp only[RKs]at h;subst h;rfl
  | p :: kvs,xs,k,h=>by
    simp only[RKs]at h
    obtain⟨x,r,rfl,e1,r1,r2⟩:=h
    simp only[List.any_cons,e1,RKs.any r2]
theorem RKs.upd:∀ {kvs:List (Key × D)} {xs:List (Key × V)} {k:Key} {d:D} {v:V},RKs K ρ H kvs xs->RD K ρ H d v->RKs K ρ H (kvs.map (λ kv=>if kv.1=k then(kv.1,d)else kv)) (xs.map (λ kv=>if kv.1=k then(kv.1,v)else kv))
  | [],xs,k,d,v,h,_=>by simp only[RKs]at h;subst h;simp[RKs]
  | p :: kvs,xs,k,d,v,h,q=>by
    simp only[RKs]at h
    obtain⟨x,r,rfl,e1,r1,r2⟩:=h
    simp only[List.map_cons,RKs]
    refine⟨_,_,rfl,?_,?_,RKs.upd r2 q⟩
    . rw[e1];split <;> simp[e1]
    . rw[e1];split
      . exact q
      . exact r1
theorem RKs.app:∀ {kvs ks:List (Key × D)} {xs ys:List (Key × V)},RKs K ρ H kvs xs->RKs K ρ H ks ys->RKs K ρ H (kvs ++ ks) (xs ++ ys)
  | [],ks,xs,ys,h,t=>by simp only[RKs]at h;subst h;simpa using t
  | d :: ds,ks,xs,ys,h,t=>by
    simp only[RKs]at h
    obtain⟨x,r,rfl,e,z,q⟩:=h
    simp only[List.cons_append,RKs]
    exact⟨_,_,rfl,e,z,q.app t⟩
theorem RKs.put{kvs:List (Key × D)}{xs:List (Key × V)}{k:Key}{d:D}{v:V}(h:RKs K ρ H kvs xs)(q:RD K ρ H d v):RKs K ρ H (CS kvs k d) (CZ xs k v):=by
  unfold CS CZ
  rw[h.any]
  split
  . exact h.upd q
  . exact h.app (by simp only[RKs];exact⟨_,_,rfl,rfl,q,rfl⟩)
noncomputable def DZ:D->Option Key
  | .im (.int i)=>some (.inl i)
  | .im (.str x)=>some (.inr x)
  | _=>none
theorem JB{d:D}{v:V}{k:Key}(h:RD K ρ H d v)(e:DZ d=some k):v=kV k:=by
  cases d with
  | im i=>
    cases i with
    | int i=>simp only[DZ,Option.some.injEq]at e;subst e;simp only[RD,RI]at h;exact h
    | str i=>simp only[DZ,Option.some.injEq]at e;subst e;simp only[RD,RI]at h;exact h
    | _=>simp[DZ]at e
  | _=>simp[DZ]at e
noncomputable def E5(hd:Hd):D->Option (List (Key × D))
  | .mu n=>match hd[n]? with
    | some (.dic kvs)=>some kvs
    | _=>none
  | _=>none
theorem RD.dic{d:D}{v:V}{kvs:List (Key × D)}(hR:RH K ρ H hd)(h:RD K ρ H d v)(e:E5 hd d=some kvs):∃ n a xs,d=.mu n/\v=.ref a/\ρ[n]? = some a/\H a=some (.dK xs)/\RKs K ρ H kvs xs:=by
  cases d with
  | mu n=>
    simp only[E5]at e
    simp only[RD]at h
    obtain⟨a,hn,rfl⟩:=h
    split at e
    . next q=>
      cases e
      obtain⟨xs,e1,e2⟩:=hR.dic hn q
      exact⟨n,a,xs,rfl,rfl,hn,e1,e2⟩
    . cases e
  | _=>simp[E5]at e
noncomputable def Bv:D->D->Hd->Option (D × Hd):=λ d e hd=>(E5 hd d).bind λ kvs=>(DZ e).bind λ k=>(BK kvs k).map (·,hd)
theorem SZ{td ty:TE}{md my:ME}(hd:RE K td md)(hy:RE K ty my):RE K (Mv td ty) (mOp Bv md my):=by
  intro ρ σ H hd0 ls Q d hd' hR hL hm hQ
  obtain⟨⟨d1,h1⟩,e1,hm⟩:=Option.bind_eq_some_iff.mp hm
  obtain⟨⟨d2,h2⟩,e2,hm⟩:=Option.bind_eq_some_iff.mp hm
  obtain⟨kvs,e3,hm⟩:=Option.bind_eq_some_iff.mp hm
  obtain⟨k,e4,hm⟩:=Option.bind_eq_some_iff.mp hm
  obtain⟨w,e5,e6⟩:=Option.map_eq_some_iff.mp hm
  cases e6
  refine hd ρ σ H hd0 ls _ d1 h1 hR hL e1 λ ρ1 H1 v1 x1 R1 r1=>?_
  refine hy ρ1 σ H1 h1 ls _ d2 _ R1 (hL.ext hR x1) e2 λ ρ2 H2 v2 x2 R2 r2=>?_
  obtain⟨n,a,xs,rfl,rfl,hn,l1,l2⟩:=RD.dic R2 (r1.ext R1 x2) e3
  have:=JB r2 e4
  subst this
  obtain⟨v,v1,v2⟩:=l2.val e5
  exact⟨a,v,rfl,v1 ▸ DGet.k l1,hQ ρ2 H2 v (x1.trans R1 x2) R2 v2⟩
open Classical in
noncomputable def DE(md my mv:ME):MS:=λ ls hd=>(mv ls hd).bind λ p=>(md ls p.2).bind λ q=>(my ls q.2).bind λ r=>(DZ r.1).bind λ k=>match q.1 with
  | .mu n=>match r.2[n]? with
    | some (.dic kvs)=>if DG kvs.length then some (.nx ls,r.2.set n (.dic (CS kvs k p.1)))else none
    | _=>none
  | _=>none
theorem SI{td ty tv:TE}{md my mv:ME}(hd:RE K td md)(hy:RE K ty my)(hv:RE K tv mv):RS K (N1 td ty tv) (DE md my mv):=by
  intro ρ σ H hd0 ls E f hd' hR hL hm hQ
  obtain⟨⟨d1,h1⟩,e1,hm⟩:=Option.bind_eq_some_iff.mp hm
  obtain⟨⟨d2,h2⟩,e2,hm⟩:=Option.bind_eq_some_iff.mp hm
  obtain⟨⟨d3,h3⟩,e3,hm⟩:=Option.bind_eq_some_iff.mp hm
  obtain⟨k,e4,hm⟩:=Option.bind_eq_some_iff.mp hm
  dsimp only at hm
  split at hm
  . split at hm
    . next q=>
      split at hm
      . next c=>
        cases hm
        refine hv ρ σ H hd0 ls _ d1 h1 hR hL e1 λ ρ1 H1 v1 x1 R1 r1=>?_
        refine hd ρ1 σ H1 h1 ls _ _ h2 R1 (hL.ext hR x1) e2 λ ρ2 H2 v2 x2 R2 r2=>?_
        refine hy ρ2 σ H2 h2 ls _ d3 _ R2 (hL.ext hR (x1.trans R1 x2)) e3 λ ρ3 H3 v3 x3 R3 r3=>?_
        have r2:=r2.ext R2 x3
        simp only[RD]at r2
        obtain⟨a,hn,rfl⟩:=r2
        obtain⟨xs,l1,l2⟩:=R3.dic hn q
        have:=JB r3 e4
        subst this
        obtain⟨R4,x4⟩:=R3.put hn (o:=.dic (CS _ k d1)) (ho:=.dK (CZ xs k v1)) ⟨_,rfl,l2.put ((r1.ext R1 x2).ext R2 x3)⟩
        have x13:=(x1.trans R1 x2).trans R2 x3
        exact⟨a,_,rfl,DPut.k l1 (by rw[l2.len];exact c),hQ ρ3 _ (x13.trans R3 x4) R4 σ ((hL.ext hR x13).ext R3 x4)⟩
      . cases hm
    . cases hm
  . cases hm
noncomputable def EM:List (ME × ME)->Ls->Hd->Option (List (Key × D) × Hd)
  | [],_,hd=>some ([],hd)
  | (mk,mv) :: r,ls,hd=>(mk ls hd).bind λ p=>(mv ls p.2).bind λ q=>(EM r ls q.2).bind λ z=>(DZ p.1).map λ k=>((k,q.1) :: z.1,z.2)
noncomputable def FK(kvs more:List (Key × D)):List (Key × D):=more.foldl (λ acc kv=>CS acc kv.1 kv.2) kvs
theorem RKs.merge:∀ {more kvs:List (Key × D)} {ms xs:List (Key × V)},RKs K ρ H more ms->RKs K ρ H kvs xs->RKs K ρ H (FK kvs more) (EL xs ms)
  | [],kvs,ms,xs,h,t=>by simp only[RKs]at h;subst h;exact t
  | d :: ds,kvs,ms,xs,h,t=>by
    simp only[RKs]at h
    obtain⟨x,r,rfl,e,z,q⟩:=h
    show RKs K ρ H (FK (CS kvs d.1 d.2) ds) (EL (CZ xs x.1 x.2) r)
    rw[e]
    exact q.merge (t.put z)
noncomputable def RPs(K:PySem.W.Frag):List (TE × TE)->List (ME × ME)->Prop
  | [],[]=>True
  | t :: ts,m :: ms=>RE K t.1 m.1/\RE K t.2 m.2/\RPs K ts ms
  | _,_=>False
theorem Ko:∀ {trs:List (TE × TE)} {ms:List (ME × ME)},RPs K trs ms->∀ (ρ:List Addr) (σ:St) (H:Hp) (hd:Hd) (ls:Ls) (Q:List (V × V)->Hp->Prop) (kvs:List (Key × D)) (hd':Hd),RH K ρ H hd->RL K ρ H ls σ->EM ms ls hd=some (kvs,hd') ->
    (∀ ρ' H' xs,Ext ρ H ρ' H'->RH K ρ' H' hd'->RKs K ρ' H' kvs xs->Q (xs.map λ kv=>(kV kv.1,kv.2)) H')->GD trs σ H Q
  | [],[],_,ρ,σ,H,hd,ls,Q,kvs,hd',hR,hL,hm,hQ=>by
    cases hm
    exact hQ ρ H [] .refl hR (by simp[RKs])
  | (tk,tv) :: ts,(mk,mv) :: ms,⟨a,b,c⟩,ρ,σ,H,hd,ls,Q,kvs,hd',hR,hL,hm,hQ=>by
    unfold EM at hm
    obtain⟨⟨d1,h1⟩,e1,hm⟩:=Option.bind_eq_some_iff.mp hm
    obtain⟨⟨d2,h2⟩,e2,hm⟩:=Option.bind_eq_some_iff.mp hm
    obtain⟨⟨d3,h3⟩,e3,hm⟩:=Option.bind_eq_some_iff.mp hm
    obtain⟨k,e4,e5⟩:=Option.map_eq_some_iff.mp hm
    cases e5
    unfold GD
    refine a ρ σ H hd ls _ d1 h1 hR hL e1 λ ρ1 H1 v1 x1 R1 r1=>?_
    refine b ρ1 σ H1 h1 ls _ d2 h2 R1 (hL.ext hR x1) e2 λ ρ2 H2 v2 x2 R2 r2=>?_
    refine Ko c ρ2 σ H2 h2 ls _ d3 _ R2 (hL.ext hR (x1.trans R1 x2)) e3 λ ρ3 H3 xs x3 R3 r3=>?_
    have:=JB r1 e4
    subst this
    exact hQ ρ3 H3 ((k,v2) :: xs) ((x1.trans R1 x2).trans R2 x3) R3 (by simp only[RKs];exact⟨_,_,rfl,rfl,r2.ext R2 x3,r3⟩)
  | [],_ :: _,h,_,_,_,_,_,_,_,_,_,_,_,_=>h.elim
  | _ :: _,[],h,_,_,_,_,_,_,_,_,_,_,_,_=>h.elim
noncomputable def IT(ms:List (ME × ME)):ME:=λ ls hd=>(EM ms ls hd).bind λ p=>if p.1.length <= 15 then some (.mu p.2.length,p.2 ++ [.dic (FK [] p.1)])else none
theorem RH.nameD(hR:RH K ρ H hd){a:Addr}{xs:List (Key × V)}{kvs:List (Key × D)}(out:a ∉ ρ){o:HO}(e:H a=some o)(ht:∀ ys,o ≠ .tup ys)(hf:∀ x u,o ≠ .frz x u)(r:RKs K ρ H kvs xs)(h1:∀ ps,o ≠ .tbl ps:=by intro _ z;cases z)(h2:∀ φ,o ≠ .ext φ:=by intro _ z;cases z):RH K (ρ ++ [a]) (upd H a (.dK xs)) (hd ++ [.dic kvs]):=by
  have gr:Grow H (upd H a (.dK xs)):=Grow.refl.put ⟨λ ys z=>ht ys (by rw[e]at z;exact Option.some.inj z),λ x u z=>hf x u (by rw[e]at z;exact Option.some.inj z)⟩
  refine⟨by simp[hR.len],?_,hR.tabs.upd (λ ps z=>h1 ps (Option.some.inj (e.symm.trans z))) (λ ps z=>h2 ps (Option.some.inj (e.symm.trans z))),λ n o' b e1 e2=>?_⟩
  . rw[List.nodup_append]
    refine⟨hR.nd,by simp,λ x hx y hy z=>?_⟩
    simp at hy;subst hy;subst z;exact out hx
  . by_cases hn:n < ρ.length
    . rw[List.getElem?_append_left hn]at e2
      rw[List.getElem?_append_left (by rw[<- hR.len];exact hn)]at e1
      obtain⟨ho',q1,q2⟩:=hR.ob n o' b e1 e2
      have:b ≠ a:=λ z=>out (by rw[<- z];exact List.mem_of_getElem? e2)
      exact⟨ho',by rw[AD this];exact q1,q2.mono gr [a]⟩
    . have hn':n=ρ.length:=by
        have:=(List.getElem?_eq_some_iff.mp e2).1
        simp at this;omega
      subst hn'
      simp at e2
      rw[hR.len]at e1
      simp at e1
      subst e1;subst e2
      exact⟨_,AT,⟨xs,rfl,r.mono gr [_]⟩⟩
theorem SY{trs:List (TE × TE)}{ms:List (ME × ME)}(h:RPs K trs ms):RE K (Mu trs) (IT ms):=by
  intro ρ σ H hd ls Q d hd' hR hL hm hQ
  obtain⟨⟨kvs,h1⟩,e1,hm⟩:=Option.bind_eq_some_iff.mp hm
  dsimp only at hm
  split at hm
  . next c=>
    cases hm
    intro p hp
    obtain⟨R0,x0⟩:=hR.hid (ho:=.dK []) hp
    refine Ko h ρ σ _ hd ls _ kvs h1 R0 (hL.ext hR x0) e1 λ ρ1 H1 xs x1 R1 r1=>?_
    have hp1:H1 p=some (.dK []):=x1.keep p _ AT (hR.out hp) nt
    have op:p ∉ ρ1:=by
      obtain⟨r,rfl,fr⟩:=x1.pre
      intro z
      rcases List.mem_append.mp z with z|z
      . exact hR.out hp z
      . have:=fr _ z
        rw[AT]at this;cases this
    refine⟨hp1,xs,rfl,by rw[r1.len];exact c,?_⟩
    have mm:RKs K ρ1 H1 (FK [] kvs) (EL [] xs):=r1.merge (by simp[RKs])
    have R2:=R1.nameD op hp1 (λ _ z=>by cases z) (λ _ _ z=>by cases z) mm
    have x01:=x0.trans R0 x1
    refine hQ (ρ1 ++ [p]) _ _ ?_ R2 ?_
    . obtain⟨r,er,fr⟩:=x01.pre
      refine⟨⟨r ++ [p],by rw[er];simp,λ b m=>?_⟩,λ b o q nb t=>?_,λ b ps q=>?_⟩
      . rcases List.mem_append.mp m with m|m
        . exact fr b m
        . simp at m;subst m;exact hp
      . have:b ≠ p:=AX q hp
        rw[AD this];exact x01.keep b o q nb t
      . have:b ≠ p:=AX q hp
        rw[AD this];exact x01.tab b ps q
    . simp only[RD]
      exact⟨p,by rw[<- R1.len];simp,rfl⟩
  . cases hm
noncomputable def Ev(mo mi mv:ME):MS:=λ ls hd=>(mv ls hd).bind λ p=>(mo ls p.2).bind λ q=>(mi ls q.2).bind λ r=>match q.1,r.1 with
  | .mu n,.im (.int i)=>match r.2[n]? with
    | some (.lst ds)=>(ixN ds.length i).map λ j=>(.nx ls,r.2.set n (.lst (ds.set j p.1)))
    | _=>none
  | _,_=>none
theorem SG{to ti tv:TE}{mo mi mv:ME}(ho:RE K to mo)(hi:RE K ti mi)(hv:RE K tv mv):RS K (FZ tv (Qr to ti N9)) (Ev mo mi mv):=by
  intro ρ σ H hd0 ls E f hd' hR hL hm hQ
  obtain⟨⟨d1,h1⟩,e1,hm⟩:=Option.bind_eq_some_iff.mp hm
  obtain⟨⟨d2,h2⟩,e2,hm⟩:=Option.bind_eq_some_iff.mp hm
  obtain⟨⟨d3,h3⟩,e3,hm⟩:=Option.bind_eq_some_iff.mp hm
  dsimp only at hm
  split at hm
  . split at hm
    . next q=>
      obtain⟨j,e4,e5⟩:=Option.map_eq_some_iff.mp hm
      cases e5
      refine hv ρ σ H hd0 ls _ d1 h1 hR hL e1 λ ρ1 H1 v1 x1 R1 r1=>?_
      refine ho ρ1 σ H1 h1 ls _ _ h2 R1 (hL.ext hR x1) e2 λ ρ2 H2 v2 x2 R2 r2=>?_
      refine hi ρ2 σ H2 h2 ls _ _ _ R2 (hL.ext hR (x1.trans R1 x2)) e3 λ ρ3 H3 v3 x3 R3 r3=>?_
      have r2:=r2.ext R2 x3
      simp only[RD]at r2
      obtain⟨a,hn,rfl⟩:=r2
      simp only[RD,RI]at r3
      subst r3
      obtain⟨xs,l1,l2⟩:=R3.lst hn q
      obtain⟨R4,x4⟩:=R3.put hn (o:=.lst _) (ho:=.lst (xs.set j v1)) ⟨_,rfl,l2.set j ((r1.ext R1 x2).ext R2 x3)⟩
      have x13:=(x1.trans R1 x2).trans R2 x3
      exact⟨a,xs,_,j,rfl,rfl,l1,by rw[l2.len];exact e4,hQ ρ3 _ (x13.trans R3 x4) R4 σ ((hL.ext hR x13).ext R3 x4)⟩
    . cases hm
  . cases hm
end
end L2
namespace L2
open PySem PySem.Spec PyProof.Rows
structure QG(K:PySem.W.Frag)(X:Cx)(e:Expr)(t:TG)(m:MG):Prop where
  p:PG X e t
  r:RGt K t m
structure QGs(K:PySem.W.Frag)(X:Cx)(e:List Expr)(t:TGs)(m:MGs):Prop where
  p:PGs X e t
  r:LY K t m
structure QI(K:PySem.W.Frag)(X:Cx)(tg e:Expr)(t:TI)(m:MI):Prop where
  p:PI X tg e t
  r:RIt K t m
structure QF(K:PySem.W.Frag)(X:Cx)(e:List Expr)(t:TT)(m:MT):Prop where
  p:PF X e t
  r:RT K t m
structure QO(K:PySem.W.Frag)(X:Cx)(e:Option Expr)(t:TO)(m:MO1):Prop where
  p:PO X e t
  r:RO1 K t m
structure QPs(K:PySem.W.Frag)(X:Cx)(pos:Pos)(keys:List (Option Expr))(values:List Expr)(t:List (TE × TE))(m:List (ME × ME)):Prop where
  p:PPs X pos keys values t
  r:RPs K t m
noncomputable def WK(a b:List D):Prop:=a ≠ []/\Ck (a.length + b.length)
open Classical in
noncomputable def Nc:D->D->Hd->Option (D × Hd):=λ d e hd=>(At d).bind λ a=>(At e).bind λ b=>if WK a b then some (Ao (a ++ b),hd)else none
theorem Ax{K:PySem.W.Frag}:RB K (NB K) Nc:=by
  intro ρ H hd d e v u Q z hd' hR h1 h2 hf hQ
  unfold Nc at hf
  obtain⟨a,e1,hf⟩:=Option.bind_eq_some_iff.mp hf
  obtain⟨b,e2,hf⟩:=Option.bind_eq_some_iff.mp hf
  split at hf
  . next c=>
    cases hf
    obtain⟨p,xs,rfl,q1,r1⟩:=h1.tup e1
    obtain⟨p2,ys,rfl,q2,r2⟩:=h2.tup e2
    have l1:=r1.len;have l2:=r2.len
    refine⟨p,p2,xs,ys,rfl,rfl,q1,q2,λ z=>c.1 (by rw[z]at l1;simpa using l1.symm),by rw[l1,l2];exact c.2,λ z=>?_,λ _ p3 hp=>?_⟩
    . have:b=[]:=by rw[z]at l2;simpa using l2.symm
      subst this
      exact hQ ρ H _ .refl hR (by rw[List.append_nil];exact DX q1 r1)
    . obtain⟨R2,x2⟩:=hR.hid (ho:=.tup (xs ++ ys)) hp
      exact hQ ρ _ _ x2 R2 (DX (SqT.of AT) ((r1.app r2).ext hR x2))
  . cases hf
noncomputable abbrev Aa:=HB Qu Nc
noncomputable def Wl(neg:Bool)(m:ME):ME:=λ ls hd=>(m ls hd).bind λ p=>some (.im (.bl (match p.1 with
  | .im .non=>!neg
  | _=>neg)),p.2)
noncomputable def J9(m:ME):ME:=λ ls hd=>(m ls hd).bind λ p=>match p.1 with
  | .im (.int i)=>some (.im (.int (-i)),p.2)
  | _=>none
theorem UN{K:PySem.W.Frag}{t:TE}{m:ME}(h:RE K t m):RE K (tUn (rU λ i=>.int (-i)) t) (J9 m):=by
  intro ρ σ H hd ls Q d hd' hR hL hm hQ
  obtain⟨⟨d1,h1⟩,e1,hm⟩:=Option.bind_eq_some_iff.mp hm
  dsimp only at hm
  split at hm
  . cases hm
    exact h ρ σ H hd ls _ _ _ hR hL e1 λ ρ1 H1 v x1 R1 r1=>⟨_,by simpa only[RD,RI]using r1,hQ ρ1 H1 _ x1 R1 (by simp[RD,RI])⟩
  . cases hm
noncomputable def CT:MT:=λ _ hd=>some (true,hd)
theorem U7{K:PySem.W.Frag}:RT K PZ CT:=by
  intro ρ σ H hd ls Q d hd' hR hL hm hQ
  cases hm
  exact hQ ρ H .refl hR
section
variable(K:PySem.W.Frag){X:Cx}{a b c e:Expr}{es:List Expr}{ta tb tc te:TE}{ma mb mc me:ME}{tA tB':TT}{nA nB:MT}{t:TA}{m:MA}{pos:Pos}{x:Str}
theorem qv(i:Nat){x:Str}{pos:Pos}(hN:X.N[i]? = some x:=by rfl)(hv:Vis X.env.scope x:=by first|exact Or.inl rfl|exact Or.inr (Or.inl rfl)|exact Or.inr (Or.inr rfl))(hd:(x == ("__debug__":Str))=false:=by decide)
    (hcd:(x == ("__classdict__":Str))=false:=by decide):QE K X (.Name x pos) (Pa i) (A0 i):=⟨Up hN hv hd hcd,UL⟩
theorem A7{i:Int}{j pos}:QE K X (.Constant (.int i) j pos) (tC (.int i)) (mC (.int i)):=⟨Ux,Q8 λ _=>by simp[RI]⟩
theorem EU{i:Bool}{j pos}:QE K X (.Constant (.bool i) j pos) (tC (.bl i)) (mC (.bl i)):=⟨Vw,Q8 λ _=>by simp[RI]⟩
theorem Av{x:Str}{j pos}:QE K X (.Constant (.str x) j pos) (tC (.str x)) (mC (.str x)):=⟨Ur,Q8 λ _=>by simp[RI]⟩
theorem AW{op:Operator}{r:R2}{f:D->D->Hd->Option (D × Hd)}(ho:OpR X (binaryOp op) r)(hr:RB K r f)(ha:QE K X a ta ma)(hb:QE K X b tb mb):QE K X (.BinOp a op b pos) (tOp r ta tb) (mOp f ma mb):=⟨Vu ho ha.p hb.p,Jz hr ha.r hb.r⟩
theorem OI(ha:QE K X a ta ma):QE K X (.UnaryOp .USub a pos) (tUn (rU λ i=>.int (-i)) ta) (J9 ma):=⟨Vt Tw ha.p,UN ha.r⟩
theorem FI{op:CmpOp}{r:R2}{f:D->D->Hd->Option (D × Hd)}(ho:OpR X (compareOp op) r)(hr:RB K r f)(ha:QE K X a ta ma)(hb:QE K X b tb mb)(hm:behindInMarks op b=false:=by first|exact GQ _|rfl):QE K X (.Compare a [op] [b] pos) (tOp r ta tb) (mOp f ma mb):=⟨MC ho ha.p hb.p hm,Jz hr ha.r hb.r⟩
theorem Am{op:CmpOp}{r:R2}{f:D->D->Hd->Option (D × Hd)}(ho:OpR X (compareOp op) r)(hr:RB K r f)(ha:QE K X a ta ma)(hb:QE K X b tb mb)(hm:behindInMarks op b=false:=by first|exact GQ _|rfl):QT K X (.Compare a [op] [b] pos) (Hv (tOp r ta tb)) (AQ (mOp f ma mb)):=⟨Iz ho ha.p hb.p hm,EY (Jz hr ha.r hb.r)⟩
theorem DY(ha:QE K X a ta ma)(he:∀ whole,isTrue a X.env whole=(do let v <- whole;standAt a.pos;holding [v] (truthy v)):=by intro _;rfl)(hK:X.K=K:=by rfl) :
    QT K X a (λ σ H Q=>ta σ H λ x H'=>∃ k,LX K x H' k/\Q k H') (Dv ma):=by
  subst hK
  exact⟨QP ha.p he,Px ha.r⟩
theorem GM(ha:QT K X a tA nA):QT K X (.UnaryOp .Not a pos) (Pi tA) (Fr nA):=⟨Ub ha.p,U8 ha.r⟩
theorem Ix(ha:QT K X a tA nA):QW K X (.BoolOp .And [a] pos) tA nA:=⟨Sn ha.p,ha.r⟩
theorem GL(ha:QT K X a tA nA):QW K X (.BoolOp .Or [a] pos) tA nA:=⟨UZ ha.p,ha.r⟩
theorem Ki{rest:List Expr}(ha:QT K X a tA nA)(hb:QW K X (.BoolOp .And (b :: rest) pos) tB' nB):QW K X (.BoolOp .And (a :: b :: rest) pos) (Pq tA tB') (GW nA nB):=⟨Ua ha.p hb.p,U9 ha.r hb.r⟩
theorem IF{rest:List Expr}(ha:QT K X a tA nA)(hb:QW K X (.BoolOp .Or (b :: rest) pos) tB' nB):QW K X (.BoolOp .Or (a :: b :: rest) pos) (tOr tA tB') (mOr nA nB):=⟨Vr ha.p hb.p,Vi ha.r hb.r⟩
theorem QW.toT{K:PySem.W.Frag}{X:Cx}{e:Expr}{t:TT}{m:MT}(h:QW K X e t m):QT K X e t m:=⟨h.p.pt,h.r⟩
theorem OH{op}(ha:QE K X a ta ma):QE K X (.BoolOp op [a] pos) ta ma:=⟨Ut ha.p,ha.r⟩
theorem OK{rest:List Expr}(ha:QE K X a ta ma)(hb:QE K X (.BoolOp .And (b :: rest) pos) tb mb):QE K X (.BoolOp .And (a :: b :: rest) pos) (Mw ta tb) (Gv ma mb):=⟨Uz ha.p hb.p,Sa ha.r hb.r⟩
theorem UY(ha:QE K X a ta ma):QE K X (.UnaryOp .Not a pos) (Mr ta) (IS ma):=⟨Uu ha.p,SV ha.r⟩
theorem Ff(hc:QT K X c tA nA)(ha:QE K X a ta ma)(hb:QE K X b tb mb):QE K X (.IfExp c a b pos) (tIf tA ta tb) (mIf nA ma mb):=⟨Qc hc.p ha.p hb.p,Vm hc.r ha.r hb.r⟩
theorem A5:QA K X [] Cn A4:=⟨Dr,UT⟩
theorem A2(ha:QE K X e te me)(hr:QA K X es t m)(hs:starEach (e :: es) X.env=(false,eval e X.env) :: starEach es X.env:=by rfl):QA K X (e :: es) (Bs te t) (A1 me m):=⟨Ch ha.p hr.p hs,Sb ha.r hr.r⟩
theorem C3{x1}(h:QA K X es t m):QE K X (.Tuple es x1 pos) (Pb t) (BQ m):=⟨Uq h.p,UM h.r⟩
theorem Bl(h:QA K X es t m):QN K X (.List es pos) (Pj t) (BE m):=⟨Uv h.p,UF h.r⟩
theorem C4(h:QN K X e te m):QE K X e te (BV m):=⟨h.p,OA h.r⟩
theorem Af(ha:QE K X a ta ma)(hb:QE K X b tb mb)(hs:JI b:=by exact λ _ _=>rfl)(hK:X.K=K:=by rfl):QE K X (.Subscript a b pos) (tOp (K1 K) ta tb) (mOp gIx ma mb):=⟨Rh ((Ky K hK).or (MQ K hK)) ha.p hb.p hs,Jz Vn ha.r hb.r⟩
theorem Di(hu:X.A.units + 1 < cLine)(ha:QE K X a ta ma)(hb:QE K X b tb mb)(hs:RV b:=by exact λ _ _=>rfl):QE K X (.Subscript a b pos) (Mv ta tb) (mOp Bv ma mb):=⟨T8 hu ha.p hb.p hs,SZ ha.r hb.r⟩
theorem MB:QO K X none Iq E2:=⟨Sy,SK⟩
theorem M9(h:QE K X e te me):QO K X (some e) (Mp te) (Fq me):=⟨Sx h.p,SJ h.r⟩
theorem OG{lo hi:Option Expr}{tl th:TO}{ml mh:MO1}{p2:Pos}(h:QE K X e te me)(hl:QO K X lo tl ml)(hh:QO K X hi th mh)(hK:X.K=K:=by rfl):QN K X (.Subscript e (.Slice lo hi none p2) pos) (tSl (N8 K) te tl th) (Hf me ml mh):=⟨Qb (Pt K hK) h.p hl.p hh.p,UE h.r hl.r hh.r⟩
theorem BR{id:String}{p:Pos}{r:List V->Hp->VK->Prop}{f:List D->Hd->Option (D × Hd)}(hc:CallR X (.builtin id) r)(hr:RF K r f)(hm:X.mg x=none)(hv:bootBuiltins x=some (.builtin id))(ha:QA K X (e :: es) t m)(hg:Gl X x:=by rfl)(hn:x ≠ "__name__":=by decide)(hdb:(x == ("__debug__":Str))=false:=by decide)
    (he:starEach (e :: es) X.env=(false,eval e X.env) :: starEach es X.env:=by rfl) (hpl:(backTo pos (starEach es X.env)).any (·.1)=false:=by rfl):QE K X (.Call (.Name x p) (e :: es) [] pos) (tCB r t) (mCB f m):=⟨Fi hc hg hm hv ha.p hn hdb he hpl,Rb hr ha.r⟩
theorem Fh{id:String}{p:Pos}{r:List V->Hp->VK->Prop}{f:List D->Hd->Option (D × Hd)}(hc:CallR X (.type id) r)(hr:RF K r f)(hm:X.mg x=none)(hv:bootBuiltins x=some (.type id))(ha:QA K X (e :: es) t m)(hg:Gl X x:=by rfl)(hn:x ≠ "__name__":=by decide)(hdb:(x == ("__debug__":Str))=false:=by decide)
    (he:starEach (e :: es) X.env=(false,eval e X.env) :: starEach es X.env:=by rfl) (hpl:(backTo pos (starEach es X.env)).any (·.1)=false:=by rfl):QE K X (.Call (.Name x p) (e :: es) [] pos) (tCB r t) (mCB f m):=⟨Dj hc hg hm hv ha.p hn hdb he hpl,Rb hr ha.r⟩
theorem IH{id:String}{p:Pos}{r:List V->Hp->VK->Prop}{tp:Bool}{g:List D->Option D}(hc:CallR X (.builtin id) r)(hr:RG K tp r g)(hm:X.mg x=none)(hv:bootBuiltins x=some (.builtin id))(ha:QN K X e te m)(hg:Gl X x:=by rfl)(hn:x ≠ "__name__":=by decide)(hdb:(x == ("__debug__":Str))=false:=by decide)
    (he:starEach [e] X.env=[(false,eval e X.env)]:=by rfl):QE K X (.Call (.Name x p) [e] [] pos) (tCB r (Bs te Cn)) (CU g m):=⟨Fi hc hg hm hv (Ch ha.p Dr he) hn hdb he rfl,OB hr ha.r⟩
theorem Fg{id:String}{p:Pos}{r:List V->Hp->VK->Prop}{tp:Bool}{g:List D->Option D}(hc:CallR X (.type id) r)(hr:RG K tp r g)(hm:X.mg x=none)(hv:bootBuiltins x=some (.type id))(ha:QN K X e te m)(hg:Gl X x:=by rfl)(hn:x ≠ "__name__":=by decide)(hdb:(x == ("__debug__":Str))=false:=by decide)
    (he:starEach [e] X.env=[(false,eval e X.env)]:=by rfl):QE K X (.Call (.Name x p) [e] [] pos) (tCB r (Bs te Cn)) (CU g m):=⟨Dj hc hg hm hv (Ch ha.p Dr he) hn hdb he rfl,OB hr ha.r⟩
theorem QK{p:Pos}(hm:X.mg "list"=none)(ha:QN K X e te m)(hg:Gl X "list":=by rfl)(he:starEach [e] X.env=[(false,eval e X.env)]:=by rfl)(hK:X.K=K:=by rfl):QN K X (.Call (.Name "list" p) [e] [] pos) (tCB (Iw K) (Bs te Cn)) (GV m):=⟨Dj (Np K hK) hg hm Mf (Ch ha.p Dr he) (by decide) (by decide) he rfl,Q2 ha.r⟩
theorem ET{id:String}{r:V->List V->Hp->VK->Prop}{f:D->List D->Hd->Option (D × Hd)}{name:Str}{apos cpos:Pos}{o:Expr}{to:TE}{mo:ME}(slot:Slot "list" name id)(hty:typeOf (.builtin id)=pure (.type "method_descriptor"))(hm:MtM X id r)(hr:RM K r f)(ho:QE K X o to mo)(ha:QA K X (e :: es) t m)
    (hbase:attributeBase o name X.env (eval o X.env)=eval o X.env:=by rfl)
    (hfew:((backTo cpos (starEach (e :: es) X.env)).all (λ x=>!x.1) && (backToKw cpos (keywordEach [] X.env)).all (λ x=>x.1.isSome)
      && decide ((e :: es).length + ([]:List Keyword).length + (if([]:List Keyword).isEmpty then 0 else 1) < 30))=true:=by rfl)
    (hline:(apos.endLine == cpos.line)=true:=by rfl) (hs:starEach (e :: es) X.env=(false,eval e X.env) :: starEach es X.env:=by rfl) (hplain:(backTo cpos (starEach es X.env)).any (·.1)=false:=by rfl) (hK:X.K=K:=by rfl) :
    QE K X (.Call (.Attribute o name apos) (e :: es) [] cpos) (tBM K "list" r to t) (mMt f mo m):=by
  subst hK
  exact⟨Vv PySem.F.plainAttrs_list slot hty hm ho.p ha.p hbase hfew hline hs hplain,Vl hr ho.r ha.r⟩
theorem AI(w:Nat){j k:Nat}{f:Addr}{fd:FuncData}{ps:List Str}{n:Nat}{F:List D->Hd->Option (D × Hd)}{st:Stmt}{p:Pos}(G:FnOk X.prog X.w X.K X.mg X.base CX0 j f fd ps (spF K n F))(hr:Room k X.A)(DA:DefAt X.K X.mg x st f fd ps)(ha:QA K X (e :: es) t m)(hF:∀ ds hd z,F ds hd=some z->ds.length=n)
    (hjk:j <= k:=by decide) (hg:Gl X x:=by rfl) (hdb:(x == ("__debug__":Str))=false:=by decide) (he:starEach (e :: es) X.env=(false,eval e X.env) :: starEach es X.env:=by rfl) (hpl:(backTo pos (starEach es X.env)).any (·.1)=false:=by rfl) :
    QE K X (.Call (.Name x p) (e :: es) [] pos) (Gm (spF K n F) [] E0 t) (AA w F m):=⟨Ri G hr DA ha.p hjk hg hdb he hpl,Q6 ha.r hF⟩
theorem Km{j k:Nat}{f:Addr}{fd:FuncData}{ps:List Str}{n:Nat}{F:List D->Hd->Option (D × Hd)}{st:Stmt}{p:Pos}(G:FnOk X.prog X.w X.K X.mg X.base CX0 j f fd ps (spF K n F))(hr:Room k X.A)(DA:DefAt X.K X.mg x st f fd ps)(ha:QA K X (e :: es) t m)(hF:∀ ds hd z,F ds hd=some z->ds.length=n)
    (hjk:j <= k:=by decide) (hg:Gl X x:=by rfl) (hdb:(x == ("__debug__":Str))=false:=by decide) (he:starEach (e :: es) X.env=(false,eval e X.env) :: starEach es X.env:=by rfl) (hpl:(backTo pos (starEach es X.env)).any (·.1)=false:=by rfl) :
    QE K X (.Call (.Name x p) (e :: es) [] pos) (Gm (spF K n F) [] E0 t) (FM F m):=⟨Ri G hr DA ha.p hjk hg hdb he hpl,Q7 ha.r hF⟩
theorem Sg{pos:Pos}:QPs K X pos [] [] [] []:=⟨Sw,trivial⟩
theorem Fe{pos:Pos}{k v:Expr}{ks:List (Option Expr)}{vs:List Expr}{tk tv:TE}{mk mv:ME}{trs:List (TE × TE)}{ms:List (ME × ME)}(hk:QE K X k tk mk)(hv:QE K X v tv mv)(hr:QPs K X pos ks vs trs ms):QPs K X pos (some k :: ks) (v :: vs) ((tk,tv) :: trs) ((mk,mv) :: ms):=⟨QU hk.p hv.p hr.p,hk.r,hv.r,hr.r⟩
theorem Sl{pos:Pos}{keys:List (Option Expr)}{values:List Expr}{trs:List (TE × TE)}{ms:List (ME × ME)}(h:QPs K X pos keys values trs ms)(hall:keys.all (·.isSome)=true:=by rfl)(hl:keys.length=values.length:=by rfl)(h0:keys ≠ []:=by simp)
    (h15:keys.length <= 15:=by decide):QE K X (.Dict keys values pos) (Mu trs) (IT ms):=⟨T7 h.p hall hl h0 h15,SY h.r⟩
theorem AM{i:Nat}(hN:X.N.Nodup)(hi:X.N[i]? = some x)(hx:Loc X.env.scope x)(hf:X.fn x=true ∨ X.env.scope.names.lookup x=some .local:=by first|exact .inl rfl|exact .inr rfl|assumption):QG K X (.Name x pos) (Fv i) (AG i):=⟨T5 hN hi hx hf,Is⟩
theorem CP:QGs K X [] Qt CI:=⟨T3,SQ⟩
theorem Aj{tg:TG}{tgs:TGs}{n:MG}{ns:MGs}(h1:QG K X e tg n)(h2:QGs K X es tgs ns)(hs:(assignEach (e :: es) X.env).map (·.2)=assign e X.env :: (assignEach es X.env).map (·.2):=by rfl):QGs K X (e :: es) (Nb tg tgs) (Ad n ns):=⟨QZ h1.p h2.p hs,Q4 h1.r h2.r⟩
theorem Cp{k n:Nat}{tgs:TGs}{ns:MGs}(hc:X.calm=true)(h:QGs K X es tgs ns)(hK:X.K=K:=by rfl)(hn:(assignEach es X.env).length=n:=by rfl)(hst:(assignEach es X.env).findIdx? (·.1)=none:=by rfl):QG K X (.Tuple es k pos) (Na K n tgs) (CH n ns):=⟨T4 K hc h.p hK hn hst,UJ h.r⟩
theorem C2{tg:Expr}(h:QE K X e te me)(hK:X.K=K:=by rfl):QI K X tg e (NW K te) (Bg me):=⟨T1 K h.p hK,UI h.r⟩
theorem Gs{tg:Expr}(h:QE K X e te me)(hK:X.K=K:=by rfl):QI K X tg e (K6 K te) (Em me):=⟨QY K h.p hK,SO h.r⟩
theorem CO{tg:Expr}{p:Pos}(hm:X.mg "range"=none)(ha:QA K X [a] t m)(hg:Gl X "range":=by rfl)(hs:starEach [a] X.env=[(false,eval a X.env)]:=by rfl):QI K X tg (.Call (.Name "range" p) [a] [] pos) (NY t) (Ca m):=⟨OQ hg hm ha.p hs,SN ha.r⟩
theorem Iy{tg:Expr}{p:Pos}(hm:X.mg "range"=none)(ha:QA K X [a,b] t m)(hg:Gl X "range":=by rfl)(hs:starEach [a,b] X.env=[(false,eval a X.env),(false,eval b X.env)]:=by rfl)(hs2:starEach [b] X.env=[(false,eval b X.env)]:=by rfl):QI K X tg (.Call (.Name "range" p) [a,b] [] pos) (NX t) (Dw m):=⟨OP hg hm ha.p hs hs2,SM ha.r⟩
theorem CQ:QF K X [] PZ CT:=⟨Uo,U7⟩
theorem GO(h:QT K X c tA nA):QF K X [c] tA nA:=⟨Um h.p,h.r⟩
theorem Bn{elt tg iter:Expr}{ifs:List Expr}{scope:Scope}{loc fr:List Str}{ix:List Nat}{wi:TI}{g:TG}{tf:TT}{te:TE}{mi:MI}{n:MG}{mf:MT}{mm:ME}(hc:X.calm=true)(S:CSc X scope fr ix)(hi:QI K X tg iter wi mi)
    (hg:∀ s H ex,QG K (cCx X (loc ++ fr) scope s H ex) tg g n) (hf:∀ s H ex,QF K (cCx X (loc ++ fr) scope s H ex) ifs tf mf) (he:∀ s H ex,QE K (cCx X (loc ++ fr) scope s H ex) elt te mm)
    (hs:∀ x,foldedSetIterable iter X.env x=pure x:=by intro _;rfl):QN K X (.ListComp elt [⟨tg,iter,ifs,0⟩] scope pos) (Hw loc.length ix wi g tf te) (Bc loc.length ix mi n mf mm):=
  ⟨T9 hc S hi.p (λ s H ex=>(hg s H ex).p) (λ s H ex=>(hf s H ex).p) (λ s H ex=>(he s H ex).p) hs,Ly hi.r (hg X.s₀ X.H₀ []).r (hf X.s₀ X.H₀ []).r (he X.s₀ X.H₀ []).r⟩
theorem An:QSs K X [] Ms Ag:=⟨Sq,SF⟩
theorem A6{st:Stmt}{rest:List Stmt}{u v:TS}{m1 m2:MS}(h1:QS K X st u m1)(h2:QSs K X rest v m2):QSs K X (st :: rest) (Pd u v) (A8 m1 m2):=⟨QQ h1.p h2.p,UA h1.r h2.r⟩
theorem AC{st:Stmt}{u:TS}{m1:MS}(h1:QS K X st u m1):QSs K X [st] u m1:=⟨So h1.p,h1.r⟩
theorem Dh(he:QE K X e te me)(hs:swapsWith e none pos.line X.env=pure false:=by rfl):QS K X (.Expr e pos) (Mt te) (Bo me):=⟨Su he.p hs,SH he.r⟩
theorem AZ(he:QE K X e te me):QS K X (.Return (some e) pos) (Pf te) (AY me):=⟨Ue he.p,UB he.r⟩
theorem B6{a b:List Stmt}{u v:TS}{m1 m2:MS}(hc:QT K X c tA nA)(ha:QSs K X a u m1)(hb:QSs K X b v m2):QS K X (.If c a b pos) (Pn tA u v) (Au nA m1 m2):=⟨Vs hc.p ha.p hb.p,Vj hc.r ha.r hb.r⟩
theorem OF{tg:Expr}{g:TG}{n:MG}(he:QE K X e te me)(hg:QG K X tg g n)(hs:swapsWithSole [tg] e pos.line X.env=pure false:=by rfl)(hw:swappedStores [tg] e X.env=pure none:=by rfl)
    (h1:(assignEach [tg] X.env).map (·.2)=[assign tg X.env]:=by rfl):QS K X (.Assign [tg] e pos) (FZ te g) (Fs me n):=⟨OM he.p hg.p hs hw h1,KZ he.r hg.r⟩
theorem AS{i:Nat}{pos':Pos}(hN:X.N.Nodup)(hi:X.N[i]? = some x)(hx:Loc X.env.scope x)(he:QE K X e te me)(hs:swapsWith e (some (.Name x pos')) pos.line X.env=pure false:=by rfl)(hf:X.fn x=true ∨ X.env.scope.names.lookup x=some .local:=by first|exact .inl rfl|exact .inr rfl|assumption) :
    QS K X (.Assign [.Name x pos'] e pos) (FZ te (Fv i)) (AK i me):=⟨Ud hN hi hx he.p hs hf,KZ he.r Is⟩
theorem Gq{i:Nat}{y:Str}{elt tg iter:Expr}{ifs:List Expr}{scope:Scope}{spos py:Pos}{loc fr:List Str}{ix:List Nat}{wi:TI}{g:TG}{tf:TT}{te:TE}{mi:MI}{n:MG}{mf:MT}{mm:ME}(hN:X.N.Nodup)(hiN:X.N[i]? = some y)(hy:X.env.scope.names.lookup y=some .local)
    (hc:X.calm=true) (S:CSc X scope fr ix) (hi:QI K X tg iter wi mi)
    (hg:∀ s H ex,QG K (cCx X (loc ++ fr) scope s H ex) tg g n) (hf:∀ s H ex,QF K (cCx X (loc ++ fr) scope s H ex) ifs tf mf) (he:∀ s H ex,QE K (cCx X (loc ++ fr) scope s H ex) elt te mm)
    (hsw:swapsWith (.ListComp elt [⟨tg,iter,ifs,0⟩] scope pos) (some (.Name y py)) spos.line X.env=pure true:=by rfl) (hs:∀ x,foldedSetIterable iter X.env x=pure x:=by intro _;rfl) :
    QS K X (.Assign [.Name y py] (.ListComp elt [⟨tg,iter,ifs,0⟩] scope pos) spos) (FZ (Hw loc.length ix wi g tf te) (Fv i)) (AK i (BV (Bc loc.length ix mi n mf mm))):=
  ⟨Sr hN hiN hy hc S hi.p (λ s H ex=>(hg s H ex).p) (λ s H ex=>(hf s H ex).p) (λ s H ex=>(he s H ex).p) hsw hs,KZ (OA (Ly hi.r (hg X.s₀ X.H₀ []).r (hf X.s₀ X.H₀ []).r (he X.s₀ X.H₀ []).r)) Is⟩
theorem UW{i j:Nat}{x y:Str}{a b:Expr}{px py pt:Pos}{kt k2 pt2}(hc:X.calm=true)(hN:X.N.Nodup)(hi:X.N[i]? = some x)(hj:X.N[j]? = some y)(hij:i ≠ j)
    (hx:X.env.scope.names.lookup x=some .local) (hy:X.env.scope.names.lookup y=some .local) (ha:QA K X [a,b] t m)
    (hw:swappedStores [.Tuple [.Name x px,.Name y py] kt pt] (.Tuple [a,b] k2 pt2) X.env=pure (some [x,y]):=by rfl)
    (hs:swapsWithSole [.Tuple [.Name x px,.Name y py] kt pt] (.Tuple [a,b] k2 pt2) pos.line X.env=pure false:=by rfl) :
    QS K X (.Assign [.Tuple [.Name x px,.Name y py] kt pt] (.Tuple [a,b] k2 pt2) pos) (Ph i j t) (Hg [i,j] m):=⟨Uf hc hN hi hj hij hx hy ha.p hw,UC ha.r⟩
theorem Se{i j k:Nat}{x y z:Str}{a b c:Expr}{px py pz pt:Pos}{kt k2 pt2}(hc:X.calm=true)(hN:X.N.Nodup)(hi:X.N[i]? = some x)(hj:X.N[j]? = some y)(hk:X.N[k]? = some z)
    (hx:X.env.scope.names.lookup x=some .local) (hy:X.env.scope.names.lookup y=some .local) (hz:X.env.scope.names.lookup z=some .local) (ha:QA K X [a,b,c] t m)
    (hw:swappedStores [.Tuple [.Name x px,.Name y py,.Name z pz] kt pt] (.Tuple [a,b,c] k2 pt2) X.env=pure (some [x,y,z]):=by rfl)
    (hs:swapsWithSole [.Tuple [.Name x px,.Name y py,.Name z pz] kt pt] (.Tuple [a,b,c] k2 pt2) pos.line X.env=pure false:=by rfl) :
    QS K X (.Assign [.Tuple [.Name x px,.Name y py,.Name z pz] kt pt] (.Tuple [a,b,c] k2 pt2) pos) (Mq i j k t) (IR i j k m):=⟨Ss hc hN hi hj hk hx hy hz ha.p hw hs,SE ha.r⟩
theorem FH{o i value:Expr}{pos':Pos}{td ty tv:TE}{md my mv:ME}(hu:X.A.units + 1 < cLine)(ho:QE K X o td md)(hi:QE K X i ty my)(hv:QE K X value tv mv)(hs:swapsWith value (some (.Subscript o i pos')) pos.line X.env=pure false:=by rfl) :
    QS K X (.Assign [.Subscript o i pos'] value pos) (N1 td ty tv) (DE md my mv):=⟨Sv hu ho.p hi.p hv.p hs,SI ho.r hi.r hv.r⟩
theorem M8{o i value:Expr}{pos':Pos}{to ti tv:TE}{mo mi mv:ME}(ho:QE K X o to mo)(hi:QE K X i ti mi)(hv:QE K X value tv mv)(hs:swapsWithSole [.Subscript o i pos'] value pos.line X.env=pure false:=by rfl)(hw:swappedStores [.Subscript o i pos'] value X.env=pure none:=by rfl)
    (h1:(assignEach [.Subscript o i pos'] X.env).map (·.2)=[assign (.Subscript o i pos') X.env]:=by rfl)
    (ha:∀ v,assign (.Subscript o i pos') X.env v=(do
      let ov <- holding [v] (eval o X.env)
      let iv <- holding [v,ov] (eval i X.env)
      standAt pos'
      holding [v,ov,iv] (setItem ov iv v)
      release [v,ov,iv] []):=by intro _;rfl):QS K X (.Assign [.Subscript o i pos'] value pos) (FZ tv (Qr to ti N9)) (Ev mo mi mv):=⟨OM hv.p (Ul ho.p hi.p Pu ha) hs hw h1,SG ho.r hi.r hv.r⟩
theorem Br{tg iter:Expr}{body:List Stmt}{wi:TI}{g:TG}{tb:TS}{mi:MI}{n:MG}{mb:MS}(hc:X.calm=true)(hi:QI K X tg iter wi mi)(hg:QG K X tg g n)(hb:QSs K X body tb mb)(hp:PassesOwn (model X.prog X.w) X.A X.env X.xe:=by exact PassesOwn.never)
    (hs:∀ x,foldedSetIterable iter X.env x=pure x:=by intro _;rfl):QS K X (.For tg iter body [] pos) (Po wi g tb) (BW mi n mb):=⟨Ug hp hc hi.p hg.p hb.p hs,UD hi.r hg.r hb.r⟩
end
theorem BB{P:Program}{w:World}{K:PySem.W.Frag}{mg:Str->Option Value}{base:Heap}{x:Str}{st:Stmt}{f:Addr}{fd:FuncData}{N ps:List Str}{j:Nat}{m:MS}(DA:DefAt K mg x st f fd ps)(S:FnScope N ps (AF st))
    (h:∀ (cdv:Value) (A:Around) (outer:List Env) (s:Shared) (H:Hp) (E:XK),Room j (A.deeper (envOfC x (AF st) s.heap.objs.size f cdv))->∃ t,QSs K (Ga CX0 P w K mg base N x (AF st) f cdv A outer s H E).nox (Ai st) t m) :
    FnOk P w K mg base CX0 (j + 1) f fd ps (spF K ps.length (mkF ps.length N.length m)):=by
  refine DA.fn.ok S (λ vs H Q E h=>h.1) (λ cdv A outer s H vs Q E hr hs=>?_)
  obtain⟨t,q⟩:=h cdv A outer s H E hr
  exact⟨t,q.p,Lq q.r hs⟩
end L2
namespace L2
open PySem PySem.Spec PyProof.Rows
section
variable{X:Cx}{pins:List (Addr × Obj)}{σ:List (Option V)}{H H':Hp}{s:Shared}{h':Heap}
theorem Inv.turns{tk:Nat}{fp:List Addr}(I:Inv X pins σ H s)(k:∀ b o,b ∉ fp->s.heap.get? b=some o->h'.get? b=some o)(hf:∀ b ∈ fp,FpOk X pins H b):Inv X pins σ H { s with heap:=h',toks:=tk }:=by
  have out:∀ b u,H b=some u->b ∉ fp:=λ b u e z=>by rw[(hf b z).1]at e;cases e
  have hL:X.env.locals ∉ fp:=λ z=>(hf _ z).2.1 rfl
  refine I.step (g':=s.gens) (d':=s.drawn) (ch:=fp) (λ b hb=>⟨(hf b hb).2.2.2.1,(hf b hb).2.1,(hf b hb).2.2.2.2.1,(hf b hb).2.2.2.2.2⟩) (λ b o _ _ hc e _=>k b o hc e) (λ b o _ _ hc e _=>⟨o.slots,k b o hc e⟩) (λ _ _ _ _ n=>n)
    (λ b o hc e=>⟨o,k b o hc e⟩) (λ _ _ e=>e) (λ _ _ _ e=>e) (λ b ps e=>⟨#[],by rw[e];simp⟩) (λ m hm=>?_) (λ b u e=>?_) I.bare
  . obtain⟨o,es,ep,ho,r⟩:=hm
    exact⟨o,es,ep,k _ o hL ho,r⟩
  . refine(I.hok b u e).stay (λ c v hc q=>k c v ?_ q) (λ _ q=>q) λ _ _ q=>q
    rcases hc with z|z
    . rw[z];exact out b u e
    . exact out c _ z
end
theorem Inv.turnsL{X:Cx}{pins:List (Addr × Obj)}{σ:List (Option V)}{H:Hp}{s:Shared}{h':Heap}{tk:Nat}{fp:List Addr}{a:Addr}{o:HO}(I:Inv X pins σ H s)(k:∀ b o,b ∉ fp->s.heap.get? b=some o->h'.get? b=some o)(hf:∀ b ∈ fp,FpOk X pins H b)(ha:s.heap.objs.size <= a)(new:ObjOk X.prog X.w (upd H a o) h' a o) :
    Inv X pins σ (upd H a o) { s with heap:=h',toks:=tk }:=by
  have out:∀ b u,H b=some u->b ∉ fp:=λ b u e z=>by rw[(hf b z).1]at e;cases e
  have hL:X.env.locals ∉ fp:=λ z=>(hf _ z).2.1 rfl
  have fr:H a=none:=I.hok.fresh ha
  refine I.step (g':=s.gens) (d':=s.drawn) (ch:=fp) (λ b hb=>⟨(hf b hb).2.2.2.1,(hf b hb).2.1,(hf b hb).2.2.2.2.1,(hf b hb).2.2.2.2.2⟩) (λ b o _ _ hc e _=>k b o hc e) (λ b o _ _ hc e _=>⟨o.slots,k b o hc e⟩)
    (λ b o _ e n=>by rw[AD (Nat.ne_of_lt (Nat.lt_of_lt_of_le (Heap.lt_size e) ha))];exact n) (λ b o hc e=>⟨o,k b o hc e⟩) (λ b xs e=>by rw[AD (AX e fr)];exact e) (λ b o u e=>by rw[AD (AX e fr)];exact e)
    (λ b ps e=>⟨#[],by rw[AD (AX e fr),e];simp⟩) (λ m hm=>?_) (λ b u e=>?_) I.bare
  . obtain⟨o,es,ep,ho,r⟩:=hm
    exact⟨o,es,ep,k _ o hL ho,r⟩
  . by_cases hb:b=a
    . subst hb;rw[AT]at e;cases e;exact new
    . rw[AD hb]at e
      refine(I.hok b u e).stay (λ c v hc q=>k c v ?_ q) (λ c q=>by rw[AD (AX q fr)];exact q) λ c xs q=>by rw[AD (AX q fr)];exact q
      rcases hc with z|z
      . rw[z];exact out b u e
      . exact out c _ z
noncomputable def RowI(tp:Bool)(h:Heap)(it l:Addr)(k:Nat):Prop:=match tp with
  | true=>h.IsTupleIter it l k
  | false=>h.IsListIter it l k
noncomputable def RowL(tp:Bool)(h:Heap)(l:Addr)(xs:Array Value):Prop:=match tp with
  | true=>h.IsTuple l xs
  | false=>h.IsList l xs
theorem RowI.at{tp:Bool}{h h':Heap}{it l:Addr}{k:Nat}(x:RowI tp h it l k)(e:∀ o,h.get? it=some o->h'.get? it=some o):RowI tp h' it l k:=by
  cases tp with
  | true=>exact Heap.IsTupleIter.at x e
  | false=>exact Heap.IsListIter.at x e
theorem RowL.at{tp:Bool}{h h':Heap}{l:Addr}{xs:Array Value}(x:RowL tp h l xs)(e:∀ o,h.get? l=some o->h'.get? l=some o):RowL tp h' l xs:=by
  cases tp with
  | true=>obtain⟨o,e1,r⟩:=(show h.IsTuple l xs from x);exact⟨o,e _ e1,r⟩
  | false=>obtain⟨o,e1,r⟩:=(show h.IsList l xs from x);exact⟨o,e _ e1,r⟩
theorem RowI.obj{tp:Bool}{h:Heap}{it l:Addr}{k:Nat}(x:RowI tp h it l k):∃ o,h.get? it=some o/\o.data=.fields #[.ref l,.int k 0]:=by
  cases tp with
  | true=>obtain⟨o,e,_,d⟩:=(show h.IsTupleIter it l k from x);exact⟨o,e,d⟩
  | false=>obtain⟨o,e,_,d⟩:=(show h.IsListIter it l k from x);exact⟨o,e,d⟩
theorem RowL.obj{tp:Bool}{h:Heap}{l:Addr}{xs:Array Value}(x:RowL tp h l xs):∃ o n,h.get? l=some o/\o.data=.seq xs n:=by
  cases tp with
  | true=>obtain⟨o,e,_,n,d⟩:=(show h.IsTuple l xs from x);exact⟨o,n,e,d⟩
  | false=>obtain⟨o,e,_,n,d⟩:=(show h.IsList l xs from x);exact⟨o,n,e,d⟩
section
variable{prog:Program}{w:World}{A:Around}{E:Value->Shared->Prop}{s:Shared}{it l:Addr}{k:Nat}{xs:Array Value}{x:Value}
theorem PX(hit:s.heap.IsTupleIter it l k)(hl:s.heap.IsTuple l xs)(hx:xs[k]? = some x){Q:Value->Shared->Prop}(hQ:∀ g,g.IsTupleIter it l (k + 1)->Heap.SameBut it s.heap g->Q x { s with heap:=g }) :
    wpAny (model prog w) A (Builtin.SmallTypes.nextOf (.ref it)) Q E s:=by
  obtain⟨o,eo,ec,ed⟩:=id hit
  obtain⟨ol,el,_,nl,edl⟩:=hl
  unfold Builtin.SmallTypes.nextOf
  refine wpAny_bind (wpAny_callSpecial?_slot (name:=Str.ofString "__next__") hit.typeIs PyProof.Rows.slot_tupleiter_next (wpAny_call_entry PyProof.Rows.slot_tupleiter_next hit.typeIs PyProof.Rows.entry_tupleiter_next ?_ (PyProof.Rows.args_tupleiter_next _)))
  show wpAny _ _ (field (.ref it) 0 >>= _) _ _ s
  refine wpAny_bind (wpAny_field eo ed (x:=.ref l) rfl ?_)
  show wpAny _ _ (if(Value.ref l == Value.none)=true then _ else _) _ _ s
  rw[if_neg (show ¬ (Value.ref l == Value.none)=true from Bool.false_ne_true)]
  show wpAny _ _ (field (.ref it) 1 >>= _) _ _ s
  refine wpAny_bind (wpAny_field eo ed (x:=.int k 0) rfl ?_)
  show wpAny _ _ (seqItems? (.ref l) >>= _) _ _ s
  refine wpAny_bind (wpAny_seqItems el edl ?_)
  simp only[Int.toNat_natCast,hx]
  refine wpAny_bind (wpAny_setField eo ed (by simp) (wpAny_pure ⟨x,rfl,wpAny_pure (hQ _ ⟨_,Heap.get?_update_self _ eo (Obj.isFreed_of_fields (Obj.data_mapFields ed _)),(Obj.cls_mapFields ..).trans ec,?_⟩ (Heap.SameBut.update ..))⟩))
  rw[Obj.data_mapFields ed];simp[rawInt]
theorem PV(hh:A.handled=none)(hit:s.heap.IsTupleIter it l k)(hl:s.heap.IsTuple l xs)(hx:xs[k]? = none){Q:Value->Shared->Prop}(hE:∀ g e,Heap.ExtBut it s.heap g->(∃ o,g.get? e=some o/\o.cls=.type "StopIteration")->E (.ref e) { s with heap:=g }) :
    wpAny (model prog w) A (Builtin.SmallTypes.nextOf (.ref it)) Q E s:=by
  obtain⟨o,eo,ec,ed⟩:=id hit
  obtain⟨ol,el,_,nl,edl⟩:=hl
  unfold Builtin.SmallTypes.nextOf
  refine wpAny_bind (wpAny_callSpecial?_slot (name:=Str.ofString "__next__") hit.typeIs PyProof.Rows.slot_tupleiter_next (wpAny_call_entry PyProof.Rows.slot_tupleiter_next hit.typeIs PyProof.Rows.entry_tupleiter_next ?_ (PyProof.Rows.args_tupleiter_next _)))
  show wpAny _ _ (field (.ref it) 0 >>= _) _ _ s
  refine wpAny_bind (wpAny_field eo ed (x:=.ref l) rfl ?_)
  show wpAny _ _ (if(Value.ref l == Value.none)=true then _ else _) _ _ s
  rw[if_neg (show ¬ (Value.ref l == Value.none)=true from Bool.false_ne_true)]
  show wpAny _ _ (field (.ref it) 1 >>= _) _ _ s
  refine wpAny_bind (wpAny_field eo ed (x:=.int k 0) rfl ?_)
  show wpAny _ _ (seqItems? (.ref l) >>= _) _ _ s
  refine wpAny_bind (wpAny_seqItems el edl ?_)
  simp only[Int.toNat_natCast,hx]
  refine wpAny_bind (wpAny_rule (wpAny_bind (wpAny_setField eo ed (by simp) ?_)))
  show wpAny _ _ (newExc (.type "StopIteration") [] >>= _) _ _ _
  refine wpAny_bind ?_
  simp only[newExc,newTuple]
  refine wpAny_bind (wpAny_newObj_type ?_ (by size_fits))
  refine wpAny_bind (m:=firstArgMember _ _) (wpAny_of_eq (a:=Value.none) (by first|rfl|(simp only[firstArgMember];rfl)) ?_)
  refine wpAny_newObj_type ?_ (by size_fits)
  simp only[raiseNew]
  refine wpAny_bind (wpAny_handled ?_)
  first|rw[show A.in1.handled=none from hh]|rw[hh]
  exact wpAny_bind (wpAny_pure (wpAny_throw (hE _ _ (((Heap.SameBut.update ..).extBut.push _).push _) ⟨_,Heap.get?_push_size _ rfl,rfl⟩)))
theorem HV{tp:Bool}(hit:RowI tp s.heap it l k)(hl:RowL tp s.heap l xs)(hx:xs[k]? = some x){Q:Value->Shared->Prop}(hQ:∀ g,RowI tp g it l (k + 1)->Heap.SameBut it s.heap g->Q x { s with heap:=g }) :
    wpAny (model prog w) A (Builtin.SmallTypes.nextOf (.ref it)) Q E s:=by
  cases tp with
  | true=>exact PX hit hl hx hQ
  | false=>exact wpAny_nextOf_list_item hit hl hx hQ
theorem Ka{tp:Bool}(hh:A.handled=none)(hit:RowI tp s.heap it l k)(hl:RowL tp s.heap l xs)(hx:xs[k]? = none){Q:Value->Shared->Prop}(hE:∀ g e,Heap.ExtBut it s.heap g->(∃ o,g.get? e=some o/\o.cls=.type "StopIteration")->E (.ref e) { s with heap:=g }) :
    wpAny (model prog w) A (Builtin.SmallTypes.nextOf (.ref it)) Q E s:=by
  cases tp with
  | true=>exact PV hh hit hl hx hE
  | false=>exact wpAny_nextOf_list_end hh hit hl hx hE
end
structure ZAt(t1 t2:Bool)(h:Heap)(z a b i1 i2 l1 l2:Addr)(f0:Value)(j k:Nat):Prop where
  z:IsZip h z a b f0
  p:IsPair h a (.ref i1) (.ref i2)
  o:∃ u v,IsPair h b u v
  r1:RowI t1 h i1 l1 j
  r2:RowI t2 h i2 l2 k
structure ZNe(z a b i1 i2 l1 l2:Addr):Prop where
  az:a ≠ z
  bz:b ≠ z
  iz:i1 ≠ z
  jz:i2 ≠ z
  ab:a ≠ b
  ai:a ≠ i1
  aj:a ≠ i2
  bi:b ≠ i1
  bj:b ≠ i2
  ij:i1 ≠ i2
  lz:l1 ≠ z
  lb:l1 ≠ b
  li:l1 ≠ i1
  lj:l1 ≠ i2
  mz:l2 ≠ z
  mb:l2 ≠ b
  mi:l2 ≠ i1
  mj:l2 ≠ i2
section
variable{prog:Program}{w:World}{A:Around}{E:Value->Shared->Prop}{s:Shared}{t1 t2:Bool}{z a b i1 i2 l1 l2:Addr}{j k:Nat}{xs ys:Array Value}{x y:Value}
noncomputable abbrev Nt(z b i1 i2:Addr)(h h':Heap):Prop:=∀ c o,c ≠ z->c ≠ b->c ≠ i1->c ≠ i2->h.get? c=some o->h'.get? c=some o
theorem PK(N:ZNe z a b i1 i2 l1 l2)(Z:ZAt t1 t2 s.heap z a b i1 i2 l1 l2 .none j k)(hl1:RowL t1 s.heap l1 xs)(hl2:RowL t2 s.heap l2 ys)(hx:xs[j]? = some x)(hy:ys[k]? = some y){Q:Value->Shared->Prop}
    (hQ:∀ g,ZAt t1 t2 g z a b i1 i2 l1 l2 (rawInt s.heap.objs.size) (j + 1) (k + 1)->IsPair g s.heap.objs.size x y->Nt z b i1 i2 s.heap g->Q (.ref s.heap.objs.size) { s with heap:=g }) :
    wpAny (model prog w) A (Builtin.«zip.__next__» ⟨[.ref z],[]⟩) (λ fin s'=>∃ v,fin=.done (.ret v)/\Q v s') E s:=by
  obtain⟨hz,hp,⟨u,v,hb⟩,q1,q2⟩:=Z
  show wpAny _ _ (field (.ref z) 2 >>= _) _ _ _
  refine wpAny_bind (wpAny_field hz rfl (x:=.bool false) rfl ?_)
  show wpAny _ _ (field (.ref z) 3 >>= _) _ _ _
  refine wpAny_bind (wpAny_field hz rfl (x:=.ref a) rfl (wpAny_bind (wpAny_seqItems hp rfl ?_)))
  show wpAny _ _ (Builtin.SmallTypes.ownedTupleIsFree (.ref z) >>= _) _ _ _
  unfold Builtin.SmallTypes.ownedTupleIsFree
  refine wpAny_bind (wpAny_bind (wpAny_field hz rfl (x:=.none) rfl (wpAny_pure ?_)))
  simp only[if_true]
  refine wpAny_bind (wpAny_rule (wpAny_bind (wpAny_field hz rfl (x:=.ref b) rfl ?_)))
  refine wpAny_bind (wpAny_setField_rec hz (by simp) λ g1 z1 s1=>?_)
  have z1:IsZip g1 z a b .ellipsis:=z1
  refine wpAny_bind ?_
  simp only[List.zipIdx_cons,List.zipIdx_nil,List.forIn_cons,List.forIn_nil]
  refine wpAny_bind (wpAny_bind (wpAny_onRaise ?_))
  show wpAny _ _ (Builtin.SmallTypes.nextOf (.ref i1) >>= _) _ _ _
  refine wpAny_bind (HV (s:={ s with heap:=g1 }) (q1.at λ o e=>s1.extBut _ _ N.iz e) (hl1.at λ o e=>s1.extBut _ _ N.lz e) hx λ g2 r2 s2=>wpAny_pure ?_)
  have b2:IsPair g2 b u v:=s2.extBut _ _ N.bi (s1.extBut _ _ N.bz hb)
  refine wpAny_bind (wpAny_seqItems b2 rfl (wpAny_bind (wpAny_updateSeq_pair b2 λ g3 b3 s3=>?_)))
  have b3:IsPair g3 b x v:=b3
  refine wpAny_bind (wpAny_letGo (wpAny_pure (wpAny_bind (wpAny_bind (wpAny_onRaise ?_)))))
  show wpAny _ _ (Builtin.SmallTypes.nextOf (.ref i2) >>= _) _ _ _
  have q3:RowI t2 g3 i2 l2 k:=q2.at λ o e=>s3.extBut _ _ N.bj.symm (s2.extBut _ _ N.ij.symm (s1.extBut _ _ N.jz e))
  have m3:RowL t2 g3 l2 ys:=hl2.at λ o e=>s3.extBut _ _ N.mb (s2.extBut _ _ N.mi (s1.extBut _ _ N.mz e))
  refine wpAny_bind (HV (s:={ s with heap:=g3 }) q3 m3 hy λ g4 r4 s4=>wpAny_pure ?_)
  have b4:IsPair g4 b x v:=s4.extBut _ _ N.bj b3
  refine wpAny_bind (wpAny_seqItems b4 rfl (wpAny_bind (wpAny_updateSeq_pair b4 λ g5 b5 s5=>?_)))
  have b5:IsPair g5 b x y:=b5
  refine wpAny_bind (wpAny_letGo (wpAny_pure (wpAny_pure (wpAny_bind (wpAny_seqItems b5 rfl (wpAny_bind (wpAny_newTuple ?_)))))))
  have sz:g5.objs.size=s.heap.objs.size:=by rw[s5.1,s4.1,s3.1,s2.1,s1.1]
  have z5:IsZip g5 z a b .ellipsis:=s5.extBut _ _ N.bz.symm (s4.extBut _ _ N.jz.symm (s3.extBut _ _ N.bz.symm (s2.extBut _ _ N.iz.symm z1)))
  have kp:Nt z b i1 i2 s.heap g5:=λ c o c1 c2 c3 c4 e=>s5.extBut _ _ c2 (s4.extBut _ _ c4 (s3.extBut _ _ c2 (s2.extBut _ _ c3 (s1.extBut _ _ c1 e))))
  have w1:RowI t1 g5 i1 l1 (j + 1):=r2.at λ o e=>s5.extBut _ _ N.bi.symm (s4.extBut _ _ N.ij (s3.extBut _ _ N.bi.symm e))
  have w2:RowI t2 g5 i2 l2 (k + 1):=r4.at λ o e=>s5.extBut _ _ N.bj.symm e
  have zlt:=Heap.lt_size z5
  show wpAny _ _ (Builtin.SmallTypes.ownedTupleHandOut (.ref z) (.ref g5.objs.size) >>= _) _ _ _
  unfold Builtin.SmallTypes.ownedTupleHandOut
  have z6:IsZip (g5.push { cls:=.type "tuple",data:=.seq #[x,y] }) z a b .ellipsis:=Heap.get?_push_of_some _ z5
  refine wpAny_bind (wpAny_bind (wpAny_setField_rec z6 (by simp) λ g7 z7 s7=>?_))
  have z7:IsZip g7 z a b (rawInt g5.objs.size):=z7
  refine wpAny_setField_rec z7 (by simp) λ g8 z8 s8=>wpAny_pure ⟨_,rfl,?_⟩
  have z8:IsZip g8 z a b (rawInt g5.objs.size):=z8
  have up:∀ c o,c ≠ z->g5.get? c=some o->g8.get? c=some o:=λ c o c1 e=>s8.extBut _ _ c1 (s7.extBut _ _ c1 (Heap.get?_push_of_some _ e))
  have t8:IsPair g8 g5.objs.size x y:=s8.extBut _ _ (Nat.ne_of_gt zlt) (s7.extBut _ _ (Nat.ne_of_gt zlt) (Heap.get?_push_size _ rfl))
  show Q (.ref g5.objs.size) _
  rw[sz]at z8 t8 ⊢
  exact hQ g8 ⟨z8,up _ _ N.az (kp _ _ N.az N.ab N.ai N.aj hp),⟨_,_,up _ _ N.bz b5⟩,w1.at λ o e=>up _ o N.iz e,w2.at λ o e=>up _ o N.jz e⟩ t8 λ c o c1 c2 c3 c4 e=>up c o c1 (kp c o c1 c2 c3 c4 e)
theorem PJ(hh:A.handled=none)(N:ZNe z a b i1 i2 l1 l2)(Z:ZAt t1 t2 s.heap z a b i1 i2 l1 l2 .none j k)(hl1:RowL t1 s.heap l1 xs)(hl2:RowL t2 s.heap l2 ys)(hend:xs[j]? = none ∨ ys[k]? = none){Q:Fin->Shared->Prop}
    (hE:∀ g e,Nt z b i1 i2 s.heap g->(∃ o,g.get? e=some o/\o.cls=.type "StopIteration")->E (.ref e) { s with heap:=g }) :
    wpAny (model prog w) A (Builtin.«zip.__next__» ⟨[.ref z],[]⟩) Q E s:=by
  obtain⟨hz,hp,⟨u,v,hb⟩,q1,q2⟩:=Z
  show wpAny _ _ (field (.ref z) 2 >>= _) _ _ _
  refine wpAny_bind (wpAny_field hz rfl (x:=.bool false) rfl ?_)
  show wpAny _ _ (field (.ref z) 3 >>= _) _ _ _
  refine wpAny_bind (wpAny_field hz rfl (x:=.ref a) rfl (wpAny_bind (wpAny_seqItems hp rfl ?_)))
  show wpAny _ _ (Builtin.SmallTypes.ownedTupleIsFree (.ref z) >>= _) _ _ _
  unfold Builtin.SmallTypes.ownedTupleIsFree
  refine wpAny_bind (wpAny_bind (wpAny_field hz rfl (x:=.none) rfl (wpAny_pure ?_)))
  simp only[if_true]
  refine wpAny_bind (wpAny_rule (wpAny_bind (wpAny_field hz rfl (x:=.ref b) rfl ?_)))
  refine wpAny_bind (wpAny_setField_rec hz (by simp) λ g1 z1 s1=>?_)
  have z1:IsZip g1 z a b .ellipsis:=z1
  refine wpAny_bind ?_
  simp only[List.zipIdx_cons,List.zipIdx_nil,List.forIn_cons,List.forIn_nil]
  refine wpAny_bind (wpAny_bind (wpAny_onRaise ?_))
  show wpAny _ _ (Builtin.SmallTypes.nextOf (.ref i1) >>= _) _ _ _
  have o1:RowI t1 g1 i1 l1 j:=q1.at λ o e=>s1.extBut _ _ N.iz e
  have m1:RowL t1 g1 l1 xs:=hl1.at λ o e=>s1.extBut _ _ N.lz e
  cases hx:xs[j]? with
  | none=>
    refine wpAny_bind (Ka (s:={ s with heap:=g1 }) hh o1 m1 hx λ g2 e s2 he=>?_)
    obtain⟨oe,he1,he2⟩:=he
    have z2:IsZip g2 z a b .ellipsis:=s2 _ _ N.iz.symm z1
    have ne:e ≠ z:=λ q=>by subst q;rw[z2]at he1;cases he1;simp at he2
    exact wpAny_setField_rec z2 (by simp) λ g3 _ s3=>hE g3 e (λ c o c1 _ c3 _ q=>s3.extBut _ _ c1 (s2 _ _ c3 (s1.extBut _ _ c1 q))) ⟨oe,s3.extBut _ _ ne he1,he2⟩
  | some x=>
    have hy:ys[k]? = none:=by
      rcases hend with q|q
      . rw[hx]at q;cases q
      . exact q
    refine wpAny_bind (HV (s:={ s with heap:=g1 }) o1 m1 hx λ g2 r2 s2=>wpAny_pure ?_)
    have b2:IsPair g2 b u v:=s2.extBut _ _ N.bi (s1.extBut _ _ N.bz hb)
    refine wpAny_bind (wpAny_seqItems b2 rfl (wpAny_bind (wpAny_updateSeq_pair b2 λ g3 b3 s3=>?_)))
    refine wpAny_bind (wpAny_letGo (wpAny_pure (wpAny_bind (wpAny_bind (wpAny_onRaise ?_)))))
    show wpAny _ _ (Builtin.SmallTypes.nextOf (.ref i2) >>= _) _ _ _
    have q3:RowI t2 g3 i2 l2 k:=q2.at λ o e=>s3.extBut _ _ N.bj.symm (s2.extBut _ _ N.ij.symm (s1.extBut _ _ N.jz e))
    have m3:RowL t2 g3 l2 ys:=hl2.at λ o e=>s3.extBut _ _ N.mb (s2.extBut _ _ N.mi (s1.extBut _ _ N.mz e))
    refine wpAny_bind (Ka (s:={ s with heap:=g3 }) hh q3 m3 hy λ g4 e s4 he=>?_)
    obtain⟨oe,he1,he2⟩:=he
    have z4:IsZip g4 z a b .ellipsis:=s4 _ _ N.jz.symm (s3.extBut _ _ N.bz.symm (s2.extBut _ _ N.iz.symm z1))
    have ne:e ≠ z:=λ q=>by subst q;rw[z4]at he1;cases he1;simp at he2
    exact wpAny_setField_rec z4 (by simp) λ g5 _ s5=>hE g5 e (λ c o c1 c2 c3 c4 q=>s5.extBut _ _ c1 (s4 _ _ c4 (s3.extBut _ _ c2 (s2.extBut _ _ c3 (s1.extBut _ _ c1 q))))) ⟨oe,s5.extBut _ _ ne he1,he2⟩
end
noncomputable def SqS(K:PySem.W.Frag)(tp:Bool)(H:Hp)(a:Addr)(xs:List V):Prop:=match tp with
  | true=>SqT K H a xs
  | false=>SqL K H a xs
noncomputable def Itz(K:PySem.W.Frag)(t1 t2:Bool)(a b:Addr):It:=
  ⟨λ i H=>∃ xs ys x y,SqS K t1 H a xs/\SqS K t2 H b ys/\xs[i]? = some x/\ys[i]? = some y,
   λ i H x H'=>∃ p u v,H p=none/\H'=upd H p (.tup [u,v])/\x=.ref p/\(∀ xs,SqS K t1 H a xs->xs[i]? = some u)/\∀ ys,SqS K t2 H b ys->ys[i]? = some v,
   λ i H=>∃ xs ys,SqS K t1 H a xs/\SqS K t2 H b ys/\(xs.length <= i ∨ ys.length <= i)⟩
section
variable{X:Cx}{pins:List (Addr × Obj)}{σ:List (Option V)}{H:Hp}{s:Shared}
theorem Inv.row{tp:Bool}{a:Addr}{xs:List V}(I:Inv X pins σ H s)(h:SqS X.K tp H a xs):∃ its:List Value,Vals xs its/\RowL tp s.heap a its.toArray/\xs.length <= sizeLine:=by
  cases tp with
  | true=>obtain⟨its,r,p,z⟩:=I.tuple h;exact⟨its,r,(show s.heap.IsTuple a its.toArray from p),z⟩
  | false=>obtain⟨its,r,p,z⟩:=I.list h;exact⟨its,r,p.isList,z⟩
theorem Inv.row_inj{tp:Bool}{a:Addr}{xs ys:List V}(I:Inv X pins σ H s)(h:SqS X.K tp H a xs)(h':SqS X.K tp H a ys):xs=ys:=by
  cases tp with
  | true=>exact I.tuple_inj h h'
  | false=>exact I.list_inj h h'
end
theorem RowL.lt{tp:Bool}{h:Heap}{l:Addr}{xs:Array Value}(x:RowL tp h l xs):l < h.objs.size:=by
  obtain⟨o,n,e,_⟩:=x.obj;exact Heap.lt_size e
theorem Ts{M:Model}{A:Around}{E:Value->Shared->Prop}{s:Shared}{elts:List Expr}{x1}{pos:Pos}{z a b T:Addr}{Q:Unit->Shared->Prop}(hz:IsZip s.heap z a b (rawInt T)){prog:Program}{w:World}
    (hQ:∀ g,IsZip g z a b .none->Heap.SameBut z s.heap g->Q () { s with heap:=g }):wpAny (model prog w) A (letOwnedTupleGo (.Tuple elts x1 pos) (.ref z) (.ref T)) Q E s:=wpAny_letOwnedTupleGo_zip hz hQ
theorem PU{P:Program}{w:World}{K:PySem.W.Frag}{elts:List Expr}{kk:Nat}{tpos:Pos}{t1 t2:Bool}{z a b i1 i2 l1 l2:Addr}(N:ZNe z a b i1 i2 l1 l2):Turn P w K (.Tuple elts kk tpos) (Itz K t1 t2 l1 l2) [z,a,b,i1,i2] z (λ i h=>ZAt t1 t2 h z a b i1 i2 l1 l2 .none i i) where
  mem:=by simp
  obj:=λ i h st c hc=>by
    obtain⟨hz,hp,⟨u,v,hb⟩,q1,q2⟩:=st
    simp only[List.mem_cons,List.not_mem_nil,or_false]at hc
    rcases hc with rfl|rfl|rfl|rfl|rfl
    . exact⟨_,hz,λ v z=>by cases(show Data.fields _=Data.cell v from z)⟩
    . exact⟨_,hp,λ v z=>by cases(show Data.seq _ _=Data.cell v from z)⟩
    . exact⟨_,hb,λ v z=>by cases(show Data.seq _ _=Data.cell v from z)⟩
    . obtain⟨o,e,d⟩:=q1.obj;exact⟨o,e,λ v z=>by rw[d]at z;cases z⟩
    . obtain⟨o,e,d⟩:=q2.obj;exact⟨o,e,λ v z=>by rw[d]at z;cases z⟩
  keep:=λ i h h' st k=>by
    obtain⟨hz,hp,⟨u,v,hb⟩,q1,q2⟩:=st
    exact⟨k z (by simp) _ hz,k a (by simp) _ hp,⟨u,v,k b (by simp) _ hb⟩,q1.at λ o e=>k i1 (by simp) o e,q2.at λ o e=>k i2 (by simp) o e⟩
  item:=by
    intro X hP hw hK hc i pins s σ H E I hf st hg
    subst hP hw hK
    obtain⟨xs,ys,x,y,h1,h2,hx,hy⟩:=hg
    obtain⟨ix,rx,px,zx⟩:=I.row h1
    obtain⟨iy,ry,py,zy⟩:=I.row h2
    obtain⟨u,hu,ru⟩:=rx.get hx
    obtain⟨v,hv,rv⟩:=ry.get hy
    have hT:s.TypeIs (.ref z) "zip":=⟨_,st.z,rfl⟩
    unfold pyNext
    refine wpAny_bind (wpAny_attempt (wpAny_callSpecial?_slot (name:=Str.ofString "__next__") hT F.slot_zip_next (wpAny_call_entry F.slot_zip_next hT F.entry_zip_next
      (PK N st px py (x:=u) (y:=v) (by simpa using hu) (by simpa using hv) λ g Z g5 kp=>wpAny_pure ⟨_,rfl,?_⟩) (F.args_zip_next_1 _))))
    refine Ts (M:=model X.prog X.w) (s:={ s with heap:=g }) Z.z λ g' z' sb=>?_
    have kp2:∀ c o,c ∉ [z,a,b,i1,i2]->s.heap.get? c=some o->g'.get? c=some o:=λ c o nc e=>by
      simp only[List.mem_cons,List.not_mem_nil,or_false,not_or]at nc
      exact sb.extBut _ _ nc.1 (kp c o nc.1 nc.2.2.1 nc.2.2.2.1 nc.2.2.2.2 e)
    have hTz:s.heap.objs.size ≠ z:=Nat.ne_of_gt (Heap.lt_size st.z)
    have hpair:IsPair g' s.heap.objs.size u v:=sb.extBut _ _ hTz g5
    have fresh:H s.heap.objs.size=none:=I.hok.fresh (Nat.le_refl _)
    have I2:Inv X pins σ (upd H s.heap.objs.size (.tup [x,y])) { s with heap:=g' }:=I.turnsL (tk:=s.toks) (o:=.tup [x,y]) kp2 hf (Nat.le_refl _)
      (show ObjOk X.prog X.w _ g' _ (.tup [x,y])from⟨by show 2 <= sizeLine;decide,[u,v],.cons ru (.cons rv .nil),⟨_,hpair,rfl,⟨_,rfl⟩,rfl⟩⟩)
    refine⟨.ref s.heap.objs.size,_,I2,rfl,⟨_,x,y,fresh,rfl,rfl,λ xs' q=>by rw[I.row_inj q h1];exact hx,λ ys' q=>by rw[I.row_inj q h2];exact hy⟩,⟨z',?_,?_,?_,?_⟩,λ c hc=>?_⟩
    . exact sb.extBut _ _ N.az Z.p
    . obtain⟨p,q,e⟩:=Z.o;exact⟨p,q,sb.extBut _ _ N.bz e⟩
    . exact Z.r1.at λ o e=>sb.extBut _ _ N.iz e
    . exact Z.r2.at λ o e=>sb.extBut _ _ N.jz e
    . have lt:c < s.heap.objs.size:=by
        obtain⟨hz,hp,⟨u,v,hb⟩,q1,q2⟩:=st
        simp only[List.mem_cons,List.not_mem_nil,or_false]at hc
        rcases hc with rfl|rfl|rfl|rfl|rfl
        . exact Heap.lt_size hz
        . exact Heap.lt_size hp
        . exact Heap.lt_size hb
        . obtain⟨o,e,_⟩:=q1.obj;exact Heap.lt_size e
        . obtain⟨o,e,_⟩:=q2.obj;exact Heap.lt_size e
      rw[AD (Nat.ne_of_lt lt)]
      exact(hf c hc).1
  done:=by
    intro X hP hw hK hc i pins s σ H E I hf st hg
    subst hP hw hK
    obtain⟨xs,ys,h1,h2,hend⟩:=hg
    obtain⟨ix,rx,px,zx⟩:=I.row h1
    obtain⟨iy,ry,py,zy⟩:=I.row h2
    have l1':=rx.length
    have l2':=ry.length
    have hT:s.TypeIs (.ref z) "zip":=⟨_,st.z,rfl⟩
    unfold pyNext
    refine wpAny_bind (wpAny_attempt (wpAny_callSpecial?_slot (name:=Str.ofString "__next__") hT F.slot_zip_next (wpAny_call_entry F.slot_zip_next hT F.entry_zip_next
      (PJ (A:=X.A.in1) (show X.A.in1.handled=none from I.ok.hd hc) N st px py (hend.imp (λ q=>by simp;omega) λ q=>by simp;omega) λ g e kp he=>?_) (F.args_zip_next_1 _))))
    obtain⟨o,ho,hcl⟩:=he
    refine wpAny_bind (wpAny_isInstance (T:="StopIteration") (b:=true) ⟨o,ho,hcl⟩ isSubtype_stop (wpAny_pure ⟨rfl,?_⟩))
    exact I.turns (tk:=s.toks) (λ c o nc e=>by
      simp only[List.mem_cons,List.not_mem_nil,or_false,not_or]at nc
      exact kp c o nc.1 nc.2.2.1 nc.2.2.2.1 nc.2.2.2.2 e) hf
  self:=λ _ _ _ _ _ st h=>wpAny_pyIter_zip st.z h
end L2
namespace L2
open PySem PySem.Spec PyProof.Rows
noncomputable abbrev E9(tp:Bool)(l:Addr):Obj:={ cls:=.type (match tp with|true=>"tuple_iterator" | false=>"list_iterator"),data:=.fields #[.ref l,.int 0 0] }
noncomputable abbrev zh1(t1:Bool)(h:Heap)(l1:Addr):Heap:=h.push (E9 t1 l1)
noncomputable abbrev zh2(t1 t2:Bool)(h:Heap)(l1 l2:Addr):Heap:=(zh1 t1 h l1).push (E9 t2 l2)
noncomputable abbrev zh3(t1 t2:Bool)(h:Heap)(l1 l2:Addr):Heap:=(zh2 t1 t2 h l1 l2).push { cls:=.type "tuple",data:=.seq #[.ref h.objs.size,.ref (zh1 t1 h l1).objs.size] }
noncomputable abbrev zh4(t1 t2:Bool)(h:Heap)(l1 l2:Addr):Heap:=(zh3 t1 t2 h l1 l2).push { cls:=.type "tuple",data:=.seq #[.none,.none] }
noncomputable abbrev zh5(t1 t2:Bool)(h:Heap)(l1 l2:Addr):Heap:=(zh4 t1 t2 h l1 l2).push { cls:=.type "zip",data:=.fields #[.none,.bool false,.bool false,.ref (zh2 t1 t2 h l1 l2).objs.size,.ref (zh3 t1 t2 h l1 l2).objs.size] }
set_option maxHeartbeats 4000000 in
theorem PL(t1 t2:Bool)(l1 l2:Addr)(xs ys:Array Value) :
    Meets (Builtin.«zip.__new__» ⟨[.type "zip",.ref l1,.ref l2],[]⟩) (λ _ R s=>RowL t1 s.heap l1 xs/\RowL t2 s.heap l2 ys/\R (.ok (.ret (.ref (zh4 t1 t2 s.heap l1 l2).objs.size))) { s with heap:=zh5 t1 t2 s.heap l1 l2 }):=
  .of_wp λ prog w A R s h=>by
    obtain⟨hp,g,d,tk,os⟩:=s
    obtain⟨q1,q2,h⟩:=h
    have hsub:=sub_zip
    have q2':RowL t2 (hp.push (E9 t1 l1)) l2 ys:=q2.at λ o e=>Heap.get?_push_of_some _ e
    cases t1 <;> cases t2
    . have p1:Heap.IsList (Shared.heap ⟨hp,g,d,tk,os⟩) l1 xs:=q1
      have p2:Heap.IsList (Shared.heap ⟨hp.push (E9 false l1),g,d,tk,os⟩) l2 ys:=q2'
      wp_walk using wpAny_pyIter_list p1,wpAny_pyIter_list p2
      exact⟨_,rfl,h⟩
    . have p1:Heap.IsList (Shared.heap ⟨hp,g,d,tk,os⟩) l1 xs:=q1
      have p2:Heap.IsTuple (Shared.heap ⟨hp.push (E9 false l1),g,d,tk,os⟩) l2 ys:=q2'
      wp_walk using wpAny_pyIter_list p1,wpAny_pyIter_tuple p2
      exact⟨_,rfl,h⟩
    . have p1:Heap.IsTuple (Shared.heap ⟨hp,g,d,tk,os⟩) l1 xs:=q1
      have p2:Heap.IsList (Shared.heap ⟨hp.push (E9 true l1),g,d,tk,os⟩) l2 ys:=q2'
      wp_walk using wpAny_pyIter_tuple p1,wpAny_pyIter_list p2
      exact⟨_,rfl,h⟩
    . have p1:Heap.IsTuple (Shared.heap ⟨hp,g,d,tk,os⟩) l1 xs:=q1
      have p2:Heap.IsTuple (Shared.heap ⟨hp.push (E9 true l1),g,d,tk,os⟩) l2 ys:=q2'
      wp_walk using wpAny_pyIter_tuple p1,wpAny_pyIter_tuple p2
      exact⟨_,rfl,h⟩
theorem Rq{n l1 l2:Addr}(h1:l1 < n)(h2:l2 < n):ZNe (n + 4) (n + 2) (n + 3) n (n + 1) l1 l2:=by
  have k1:@LT.lt Nat _ l1 n:=h1
  have k2:@LT.lt Nat _ l2 n:=h2
  constructor <;> (intro z;have z:@Eq Nat _ _:=z;omega)
theorem Lw{tp:Bool}{h:Heap}{a l:Addr}(e:h.get? a=some (E9 tp l)):RowI tp h a l 0:=by
  cases tp with
  | true=>exact⟨_,e,rfl,rfl⟩
  | false=>exact⟨_,e,rfl,rfl⟩
section
variable{prog:Program}{w:World}{A:Around}{E:Value->Shared->Prop}{s:Shared}
theorem PM{t1 t2:Bool}{l1 l2:Addr}{xs ys:Array Value}{Q:Value->Shared->Prop}(q1:RowL t1 s.heap l1 xs)(q2:RowL t2 s.heap l2 ys)
    (h:∀ g,ZAt t1 t2 g (s.heap.objs.size + 4) (s.heap.objs.size + 2) (s.heap.objs.size + 3) s.heap.objs.size (s.heap.objs.size + 1) l1 l2 .none 0 0->(∀ c o,s.heap.get? c=some o->g.get? c=some o)->Q (.ref (s.heap.objs.size + 4)) { s with heap:=g }) :
    wpAny (model prog w) A (call (.type "zip") [.ref l1,.ref l2]) Q E s:=by
  refine callType_new F.called_zip (by decide) (F.typeCall_zip_2 _ _) (F.newCall_zip_2 _ _) (λ obj=>F.args_object_init_3 obj _ _) F.entry_zip_new (PL t1 t2 l1 l2 xs ys) ⟨q1,q2,?_⟩
  have n1:(zh1 t1 s.heap l1).objs.size=s.heap.objs.size + 1:=Heap.size_push ..
  have n2:(zh2 t1 t2 s.heap l1 l2).objs.size=s.heap.objs.size + 2:=by rw[Heap.size_push,n1]
  have n3:(zh3 t1 t2 s.heap l1 l2).objs.size=s.heap.objs.size + 3:=by rw[Heap.size_push,n2]
  have n4:(zh4 t1 t2 s.heap l1 l2).objs.size=s.heap.objs.size + 4:=by rw[Heap.size_push,n3]
  have up:∀ {g:Heap} {c:Addr} {o x:Obj},g.get? c=some o->(g.push x).get? c=some o:=λ e=>Heap.get?_push_of_some _ e
  have e5:(zh5 t1 t2 s.heap l1 l2).get? (zh4 t1 t2 s.heap l1 l2).objs.size=some _:=Heap.get?_push_size _ rfl
  have e4:(zh5 t1 t2 s.heap l1 l2).get? (zh3 t1 t2 s.heap l1 l2).objs.size=some _:=up (Heap.get?_push_size _ rfl)
  have e3:(zh5 t1 t2 s.heap l1 l2).get? (zh2 t1 t2 s.heap l1 l2).objs.size=some _:=up (up (Heap.get?_push_size _ rfl))
  have e2:(zh5 t1 t2 s.heap l1 l2).get? (zh1 t1 s.heap l1).objs.size=some (E9 t2 l2):=up (up (up (Heap.get?_push_size _ (by cases t2 <;> rfl))))
  have e1:(zh5 t1 t2 s.heap l1 l2).get? s.heap.objs.size=some (E9 t1 l1):=up (up (up (up (Heap.get?_push_size _ (by cases t1 <;> rfl)))))
  show _/\_
  rw[n2,n3,n4]at e5
  rw[n1,n2]at e3
  rw[n3]at e4
  rw[n1]at e2
  rw[n4]
  exact⟨⟨_,e5,rfl⟩,h _ ⟨e5,e3,⟨_,_,e4⟩,Lw e1,Lw e2⟩ λ c o x=>up (up (up (up (up x))))⟩
end
noncomputable def NV(K:PySem.W.Frag)(t1 t2:Bool)(ta:TA):TI:=λ σ H R=>ta σ H λ vs H1=>∃ a b xs ys,vs=[.ref a,.ref b]/\SqS K t1 H1 a xs/\SqS K t2 H1 b ys/\R (Itz K t1 t2 a b) H1
section
variable{X:Cx}
theorem Ui{t1 t2:Bool}{a b:Expr}{ta:TA}{elts:List Expr}{kk:Nat}{tpos p pos:Pos}(hg:Gl X "zip")(hm:X.mg "zip"=none)(ha:PA X [a,b] ta)(hs:starEach [a,b] X.env=[(false,eval a X.env),(false,eval b X.env)]:=by rfl)(hs2:starEach [b] X.env=[(false,eval b X.env)]:=by rfl) :
    PI X (.Tuple elts kk tpos) (.Call (.Name "zip" p) [a,b] [] pos) (NV X.K t1 t2 ta):=by
  intro pins s σ H R I h
  refine Call_ (EN I hg hm boot_zip (PyProof.Rows.callWith_type1 (thn (ha pos pins s σ H _ I h) λ us s1 ⟨vs,H1,I1,r1,q1⟩=>?_) (by rw[hs,hs2]) (by rw[hs2];rfl)))
  obtain⟨l1,l2,xs,ys,e,c1,c2,q⟩:=q1
  subst e
  obtain⟨u,v,rfl,ru,rv⟩:=Jx r1
  cases ru
  cases rv
  obtain⟨ix,rx,px,zx⟩:=I1.row c1
  obtain⟨iy,ry,py,zy⟩:=I1.row c2
  refine PM px py λ g Z kp=>wpAny_pyIter_zip Z.z ?_
  refine⟨_,_,_,_,H1,rfl,I1.kept (t':=s1.toks) kp,PU (Rq px.lt py.lt),Z,λ c hc=>?_,q⟩
  simp only[List.mem_cons,List.not_mem_nil,or_false]at hc
  have le:s1.heap.objs.size <= c:=by
    rcases hc with rfl|rfl|rfl|rfl|rfl
    . exact Nat.le_add_right _ _
    . exact Nat.le_add_right _ _
    . exact Nat.le_add_right _ _
    . exact Nat.le_refl _
    . exact Nat.le_add_right _ _
  exact I1.fpOk le (I1.hok.fresh le)
theorem T0(K:PySem.W.Frag){t1 t2:Bool}{a b:Expr}{ta:TA}{elts:List Expr}{kk:Nat}{tpos p pos:Pos}(hg:Gl X "zip")(hm:X.mg "zip"=none)(ha:PA X [a,b] ta)(hK:X.K=K:=by rfl)(hs:starEach [a,b] X.env=[(false,eval a X.env),(false,eval b X.env)]:=by rfl)(hs2:starEach [b] X.env=[(false,eval b X.env)]:=by rfl) :
    PI X (.Tuple elts kk tpos) (.Call (.Name "zip" p) [a,b] [] pos) (NV K t1 t2 ta):=by subst hK;exact Ui hg hm ha hs hs2
end
noncomputable def WO(K:PySem.W.Frag)(ρ:List Addr)(H:Hp)(tp:Bool)(a:Addr)(ds:List D)(g:Gd):Prop:=∀ (ρ2:List Addr) (H2:Hp) (hd2:Hd),Ext ρ H ρ2 H2->RH K ρ2 H2 hd2->GOk hd2 g->∃ xs,SqS K tp H2 a xs/\RDs K ρ2 H2 ds xs
noncomputable def RRw(K:PySem.W.Frag)(tp:Bool)(t:TE)(m:MI):Prop:=∀ (ρ:List Addr) (σ:St) (H:Hp) (hd:Hd) (ls:Ls) (Q:VK) (d:List D) (g:Gd) (hd':Hd),RH K ρ H hd->RL K ρ H ls σ->m ls hd=some ((d,g),hd') ->
  (∀ ρ' H' a,Ext ρ H ρ' H'->RH K ρ' H' hd'->GOk hd' g->WO K ρ' H' tp a d g->Q (.ref a) H')->t σ H Q
structure QR(K:PySem.W.Frag)(tp:Bool)(X:Cx)(e:Expr)(t:TE)(m:MI):Prop where
  p:PE X e t
  r:RRw K tp t m
section
variable{K:PySem.W.Frag}{ρ ρ':List Addr}{H H':Hp}{hd hd':Hd}
theorem U3{t:TE}{m:ME}(h:RE K t m):RRw K true t (Bg m):=by
  intro ρ σ H hd ls Q d g hd' hR hL hm hQ
  obtain⟨⟨d1,h1⟩,e1,hm⟩:=Option.bind_eq_some_iff.mp hm
  obtain⟨ds,e2,e3⟩:=Option.map_eq_some_iff.mp hm
  cases e3
  refine h ρ σ H hd ls _ d1 _ hR hL e1 λ ρ1 H1 v x1 R1 r1=>?_
  obtain⟨a,xs,rfl,q,r⟩:=r1.tup e2
  exact hQ ρ1 H1 a x1 R1 (AV _) λ ρ2 H2 hd2 x2 R2 _=>⟨xs,(x2.grow R1).sq q,r.ext R1 x2⟩
theorem SC{t:TE}{m:ME}(h:RE K t m):RRw K false t (Em m):=by
  intro ρ σ H hd ls Q d g hd' hR hL hm hQ
  obtain⟨⟨d1,h1⟩,e1,hm⟩:=Option.bind_eq_some_iff.mp hm
  dsimp only at hm
  split at hm
  . next n=>
    split at hm
    . next ds q=>
      cases hm
      refine h ρ σ H hd ls _ _ _ hR hL e1 λ ρ1 H1 v x1 R1 r1=>?_
      simp only[RD]at r1
      obtain⟨a,hn,rfl⟩:=r1
      refine hQ ρ1 H1 a x1 R1 (λ p z=>by simp at z;subst z;exact q) λ ρ2 H2 hd2 x2 R2 G2=>?_
      have hn2:ρ2[n]? = some a:=by
        obtain⟨r,rfl,_⟩:=x2.pre
        rw[List.getElem?_append_left (List.getElem?_eq_some_iff.mp hn).1];exact hn
      obtain⟨ys,e4,e5⟩:=R2.lst hn2 (G2 (n,d) (by simp))
      exact⟨ys,SqL.of e4,e5⟩
    . cases hm
  . next ns=>
    cases hm
    refine h ρ σ H hd ls _ _ _ hR hL e1 λ ρ1 H1 v x1 R1 r1=>?_
    simp only[RD]at r1
    obtain⟨a,rfl,q⟩:=r1
    exact hQ ρ1 H1 a x1 R1 (AV _) λ ρ2 H2 hd2 x2 R2 _=>⟨_,(q.grow (x2.grow R1)).sq,Ec⟩
  . cases hm
open Classical in
noncomputable def Kr(ma mb:MI):MI:=λ ls hd=>(ma ls hd).bind λ p=>(mb ls p.2).bind λ q=>if GOk q.2 p.1.2 then some ((List.zipWith (λ x y=>Ao [x,y]) p.1.1 q.1.1,p.1.2 ++ q.1.2),q.2)else none
theorem UH{t1 t2:Bool}{ta tb:TE}{ma mb:MI}(ha:RRw K t1 ta ma)(hb:RRw K t2 tb mb):RIt K (NV K t1 t2 (Bs ta (Bs tb Cn))) (Kr ma mb):=by
  intro ρ σ H hd ls Q d g hd' hR hL hm hQ
  obtain⟨⟨⟨d1,g1⟩,h1⟩,e1,hm⟩:=Option.bind_eq_some_iff.mp hm
  obtain⟨⟨⟨d2,g2⟩,h2⟩,e2,hm⟩:=Option.bind_eq_some_iff.mp hm
  dsimp only at hm
  split at hm
  . next gk=>
    cases hm
    refine ha ρ σ H hd ls _ d1 g1 h1 hR hL e1 λ ρ1 H1 a x1 R1 G1 S1=>?_
    refine hb ρ1 σ H1 h1 ls _ d2 g2 _ R1 (hL.ext hR x1) e2 λ ρ2 H2 b x2 R2 G2 S2=>?_
    obtain⟨xs,c1,r1⟩:=S1 ρ2 H2 _ x2 R2 gk
    obtain⟨ys,c2,r2⟩:=S2 ρ2 H2 _ .refl R2 G2
    refine⟨a,b,xs,ys,rfl,c1,c2,hQ ρ2 H2 _ (x1.trans R1 x2) R2 (λ p hp=>(List.mem_append.mp hp).elim (gk p) (G2 p)) ?_⟩
    intro ρ3 H3 hd3 x3 R3 G3 i
    obtain⟨xs,c1,r1⟩:=S1 ρ3 H3 _ (x2.trans R2 x3) R3 λ p hp=>G3 p (List.mem_append_left _ hp)
    obtain⟨ys,c2,r2⟩:=S2 ρ3 H3 _ x3 R3 λ p hp=>G3 p (List.mem_append_right _ hp)
    have l1:=r1.len;have l2:=r2.len
    refine⟨λ hi=>?_,λ hi=>⟨xs,ys,c1,c2,?_⟩⟩
    . simp only[List.length_zipWith]at hi
      have i1:d1[i]? = some (d1[i]'(by omega)):=List.getElem?_eq_getElem _
      have i2:d2[i]? = some (d2[i]'(by omega)):=List.getElem?_eq_getElem _
      obtain⟨x,x4,x5⟩:=r1.get i1
      obtain⟨y,y4,y5⟩:=r2.get i2
      refine⟨⟨xs,ys,x,y,c1,c2,x4,y4⟩,λ z H4 hz=>?_⟩
      obtain⟨p,u,v,fp,rfl,rfl,hu,hv⟩:=hz
      have eu:=hu xs c1;rw[x4]at eu;cases eu
      have ev:=hv ys c2;rw[y4]at ev;cases ev
      obtain⟨R4,x6⟩:=R3.hid (ho:=.tup [x,y]) fp
      refine⟨ρ3,Ao [d1[i]'(by omega),d2[i]'(by omega)],x6,rfl,R4,?_,DX (SqT.of AT) (.cons (x5.ext R3 x6) (.cons (y5.ext R3 x6) .nil))⟩
      simp[List.getElem?_zipWith,i1,i2]
    . simp only[List.length_zipWith]at hi
      omega
  . cases hm
end
section
variable(K:PySem.W.Frag){X:Cx}{a b e:Expr}{ta tb te:TE}{me:ME}{m:MA}
theorem Kj(h:QE K X e te me):QR K true X e te (Bg me):=⟨h.p,U3 h.r⟩
theorem Sf(h:QE K X e te me):QR K false X e te (Em me):=⟨h.p,SC h.r⟩
theorem UX{t1 t2:Bool}{ma mb:MI}{elts:List Expr}{kk:Nat}{tpos p pos:Pos}(hm:X.mg "zip"=none)(ha:QR K t1 X a ta ma)(hb:QR K t2 X b tb mb)(hg:Gl X "zip":=by rfl)(hK:X.K=K:=by rfl)(hs:starEach [a,b] X.env=[(false,eval a X.env),(false,eval b X.env)]:=by rfl)(hs2:starEach [b] X.env=[(false,eval b X.env)]:=by rfl) :
    QI K X (.Tuple elts kk tpos) (.Call (.Name "zip" p) [a,b] [] pos) (NV K t1 t2 (Bs ta (Bs tb Cn))) (Kr ma mb):=⟨T0 K hg hm (Ch ha.p (Ch hb.p Dr hs2) (by rw[hs,hs2])) hK hs hs2,UH ha.r hb.r⟩
end
section
variable{K:PySem.W.Frag}
noncomputable def E3(ml:MA)(mb:ME):ME:=λ ls hd=>(ml ls hd).bind λ p=>(mb ls p.2).bind λ q=>match q.1 with
  | .im (.int i)=>(atI p.1 i).map (·,q.2)
  | _=>none
theorem UP{ta tb:TE}{ml:MA}{mb:ME}(ha:RN K ta ml)(hb:RE K tb mb):RE K (tOp (K1 K) ta tb) (E3 ml mb):=by
  intro ρ σ H hd ls Q d hd' hR hL hm hQ
  obtain⟨⟨d1,h1⟩,e1,hm⟩:=Option.bind_eq_some_iff.mp hm
  obtain⟨⟨d2,h2⟩,e2,hm⟩:=Option.bind_eq_some_iff.mp hm
  dsimp only at hm
  split at hm
  . obtain⟨w,e3,e4⟩:=Option.map_eq_some_iff.mp hm
    cases e4
    refine ha ρ σ H hd ls _ d1 h1 hR hL e1 λ ρ1 H1 a xs x1 R1 na oa ea r1=>?_
    refine hb ρ1 σ H1 h1 ls _ _ _ R1 (hL.ext hR x1) e2 λ ρ2 H2 v2 x2 R2 r2=>?_
    simp only[RD,RI]at r2
    subst r2
    have r1':=r1.ext R1 x2
    obtain⟨j,j1,j2⟩:=Mh r1'.len e3
    obtain⟨x,y1,y2⟩:=r1'.get j1
    exact .inl ⟨a,xs,_,x,rfl,rfl,SqL.of (x2.keep a _ ea oa nt),j2 x y1,hQ ρ2 H2 x (x1.trans R1 x2) R2 y2⟩
  . cases hm
noncomputable def Fz(neg:Bool)(x y:PyData)(hd:Hd):Option (D × Hd):=if x.canLay0=true/\y.canLay0=true/\min x.depth y.depth <= 60 then some (.im (.bl (if neg then !PyData.eqv x y else PyData.eqv x y)),hd)else none
noncomputable def DD(neg:Bool)(ma:ME)(ml:MA):ME:=λ ls hd=>(ma ls hd).bind λ p=>(ml ls p.2).bind λ q=>(pyD q.2 p.1).bind λ x=>(Be q.1).bind λ is=>Fz neg x (.list (I.pys is)) q.2
noncomputable def EW(neg:Bool)(ml mk:MA):ME:=λ ls hd=>(ml ls hd).bind λ p=>(mk ls p.2).bind λ q=>(Be p.1).bind λ is=>(Be q.1).bind λ js=>Fz neg (.list (I.pys is)) (.list (I.pys js)) q.2
noncomputable def rEN(K:PySem.W.Frag)(neg:Bool):R2:=λ x y H Q=>∃ d e,Rep K H d x/\Rep K H e y/\d.canLay0=true/\e.canLay0=true/\min d.depth e.depth <= 60/\Q (.bl (if neg then !PyData.eqv d e else PyData.eqv d e)) H
theorem Iu{ρ:List Addr}{H:Hp}{a:Addr}{xs:List V}{ds:List D}{is:List I}(ea:H a=some (.lst xs))(r:RDs K ρ H ds xs)(e:Be ds=some is):Rep K H (.list (I.pys is)) (.ref a):=by
  rw[G4 e]at r
  simp only[Rep]
  exact⟨a,xs,rfl,SqL.of ea,r.is.rep⟩
theorem SW{neg:Bool}{ta tb:TE}{ma:ME}{ml:MA}(ha:RE K ta ma)(hb:RN K tb ml):RE K (tOp (rEN K neg) ta tb) (DD neg ma ml):=by
  intro ρ σ H hd ls Q d hd' hR hL hm hQ
  obtain⟨⟨d1,h1⟩,e1,hm⟩:=Option.bind_eq_some_iff.mp hm
  obtain⟨⟨d2,h2⟩,e2,hm⟩:=Option.bind_eq_some_iff.mp hm
  obtain⟨x,e3,hm⟩:=Option.bind_eq_some_iff.mp hm
  obtain⟨is,e4,hm⟩:=Option.bind_eq_some_iff.mp hm
  unfold Fz at hm
  split at hm
  . next c=>
    cases hm
    refine ha ρ σ H hd ls _ d1 h1 hR hL e1 λ ρ1 H1 v x1 R1 r1=>?_
    refine hb ρ1 σ H1 h1 ls _ d2 _ R1 (hL.ext hR x1) e2 λ ρ2 H2 a xs x2 R2 na oa ea r2=>?_
    exact⟨_,_,EZ R2 (r1.ext R1 x2) e3,Iu ea r2 e4,c.1,c.2.1,c.2.2,hQ ρ2 H2 _ (x1.trans R1 x2) R2 (by simp[RD,RI])⟩
  . cases hm
theorem M2{neg:Bool}{ta tb:TE}{ml mk:MA}(ha:RN K ta ml)(hb:RN K tb mk):RE K (tOp (rEN K neg) ta tb) (EW neg ml mk):=by
  intro ρ σ H hd ls Q d hd' hR hL hm hQ
  obtain⟨⟨d1,h1⟩,e1,hm⟩:=Option.bind_eq_some_iff.mp hm
  obtain⟨⟨d2,h2⟩,e2,hm⟩:=Option.bind_eq_some_iff.mp hm
  obtain⟨is,e4,hm⟩:=Option.bind_eq_some_iff.mp hm
  obtain⟨js,e3,hm⟩:=Option.bind_eq_some_iff.mp hm
  unfold Fz at hm
  split at hm
  . next c=>
    cases hm
    refine ha ρ σ H hd ls _ d1 h1 hR hL e1 λ ρ1 H1 a xs x1 R1 na oa ea r1=>?_
    refine hb ρ1 σ H1 h1 ls _ d2 _ R1 (hL.ext hR x1) e2 λ ρ2 H2 b ys x2 R2 nb ob eb r2=>?_
    exact⟨_,_,Iu (x2.keep a _ ea oa nt) (r1.ext R1 x2) e4,Iu eb r2 e3,c.1,c.2.1,c.2.2,hQ ρ2 H2 _ (x1.trans R1 x2) R2 (by simp[RD,RI])⟩
  . cases hm
end
theorem OU(K:PySem.W.Frag){X:Cx}(hu:X.A.units + 64 < cLine)(hK:X.K=K:=by rfl):OpR X (compareOp .Eq) (rEN K false):=BA K hu hK
theorem IJ(K:PySem.W.Frag){X:Cx}(hu:X.A.units + 64 < cLine)(hK:X.K=K:=by rfl):OpR X (compareOp .NotEq) (rEN K true):=Ea K hu hK
section
variable(K:PySem.W.Frag){X:Cx}{a b e:Expr}{ta tb te:TE}{ma mb me:ME}{m mk:MA}{pos:Pos}{op:CmpOp}{neg:Bool}
theorem IG(ha:QN K X a ta m)(hb:QE K X b tb mb)(hs:JI b:=by exact λ _ _=>rfl)(hK:X.K=K:=by rfl):QE K X (.Subscript a b pos) (tOp (K1 K) ta tb) (E3 m mb):=⟨Rh ((Ky K hK).or (MQ K hK)) ha.p hb.p hs,UP ha.r hb.r⟩
theorem Sj(ho:OpR X (compareOp op) (rEN K neg))(ha:QN K X a ta m)(hb:QN K X b tb mk)(hm:behindInMarks op b=false:=by first|exact GQ _|rfl):QE K X (.Compare a [op] [b] pos) (tOp (rEN K neg) ta tb) (EW neg m mk):=⟨MC ho ha.p hb.p hm,M2 ha.r hb.r⟩
theorem Gp(ho:OpR X (compareOp op) (rEN K neg))(ha:QE K X a ta ma)(hb:QN K X b tb m)(hm:behindInMarks op b=false:=by first|exact GQ _|rfl):QT K X (.Compare a [op] [b] pos) (Hv (tOp (rEN K neg) ta tb)) (AQ (DD neg ma m)):=⟨Iz ho ha.p hb.p hm,EY (SW ha.r hb.r)⟩
theorem Sd(ho:OpR X (compareOp op) (rEN K neg))(ha:QN K X a ta m)(hb:QN K X b tb mk)(hm:behindInMarks op b=false:=by first|exact GQ _|rfl):QT K X (.Compare a [op] [b] pos) (Hv (tOp (rEN K neg) ta tb)) (AQ (EW neg m mk)):=⟨Iz ho ha.p hb.p hm,EY (M2 ha.r hb.r)⟩
end
end L2
namespace L2
open PySem PySem.Spec PyProof.Rows
noncomputable def C1(lo:Int):Nat->List V
  | 0=>[]
  | n + 1=>.int lo :: C1 (lo + 1) n
theorem N7(lo:Int)(n:Nat):(C1 lo n).length=n:=by
  induction n generalizing lo with
  | zero=>rfl
  | succ n ih=>simp[C1,ih]
theorem Ke{K:PySem.W.Frag}{ρ:List Addr}{H:Hp}(lo:Int)(n:Nat):RDs K ρ H (Ac lo n) (C1 lo n):=by
  induction n generalizing lo with
  | zero=>simp[Ac,C1,RDs]
  | succ n ih=>exact .cons (by simp[RD,RI]) (ih _)
theorem IC{lo:Int}:∀ {n:Nat} {us:List Value},us.length=n->(∀ (j:Nat) (v:Value),us[j]? = some v->∃ t,v=.int (lo + j * 1) t)->Vals (C1 lo n) us
  | 0,us,h,_=>by
    have:us=[]:=List.length_eq_zero_iff.mp h
    subst this;exact .nil
  | n + 1,[],h,_=>by simp at h
  | n + 1,u :: us,h,k=>by
    obtain⟨t,e⟩:=k 0 u rfl
    refine .cons ⟨t,by rw[e];simp⟩ (IC (by simpa using h) λ j v q=>?_)
    obtain⟨t',e'⟩:=k (j + 1) v (by simpa using q)
    exact⟨t',by rw[e'];congr 1;push_cast;omega⟩
section
variable{prog:Program}{w:World}{A:Around}{E:Value->Shared->Prop}{s:Shared}
theorem Lf{Q:List Value->Shared->Prop}{r:Addr}{a b c:Int}{t u v:Tok}{n:Nat}(hh:A.handled=none)(hr:IsRange s.heap r a b c t u v)(hsm:Builtin.Range.small a b c=true)(hn:Builtin.Range.rangeSize a b c=n)(hl:n <= 2 ^ 24)
    (hQ:∀ g tk (acc:Array Value),(∀ b o,s.heap.get? b=some o->g.get? b=some o)->ItemsOf (λ i v=>∃ t,v=.int (a + i * c) t) acc n->Q acc.toList { s with heap:=g,toks:=tk }) :
    wpAny (model prog w) A (collect (.ref r)) Q E s:=by
  unfold collect
  refine wpAny_bind (wpAny_runValue (codeAny_builtin F.entry_proto_collect ?_))
  rw[Around.under_plainId F.plain_proto_collect _]
  show wpAny _ A.in1 (newList [] >>= λ l=>again (.builtin "list.__iadd__" ⟨[l,.ref r],[]⟩)) _ _ s
  refine wpAny_bind (wpAny_newObj_type (wpAny_pure ⟨plainId_quiet F.plain_list_iadd _,codeAny_builtin F.entry_list_iadd ?_⟩))
  rw[Around.under_plainId F.plain_list_iadd _]
  show wpAny _ A.in1 (Builtin.List.listExtendWith (.ref s.heap.objs.size) (.ref r) (.ref s.heap.objs.size)) _ _ _
  have e0:(s.heap.push { cls:=.type "list",data:=.seq ([]:List Value).toArray }).get? s.heap.objs.size=some { cls:=.type "list",data:=.seq #[] 0 }:=Heap.get?_push_size _ rfl
  have fin:∀ g tk (acc:Array Value) c',(∀ b o,b ≠ s.heap.objs.size->(s.heap.push { cls:=.type "list",data:=.seq ([]:List Value).toArray }).get? b=some o->g.get? b=some o)->g.get? s.heap.objs.size=some { cls:=.type "list",dict:=none,data:=.seq acc c',slots:=#[] }->ItemsOf (λ i v=>∃ t,v=.int (a + i * c) t) acc n ->
      wpAny (model prog w) A (load s.heap.objs.size >>= λ o=>match o.data with|Data.seq xs epoch=>pure xs.toList|x=>unsupported "internal:collect") Q E { s with heap:=g,toks:=tk }:=λ g tk acc c' kp eS it=>
    wpAny_bind (wpAny_load eS (wpAny_pure (hQ g tk acc (λ b o q=>kp b o (Nat.ne_of_lt (Heap.lt_size q)) (Heap.get?_push_of_some _ q)) it)))
  refine wpAny_mono (wpAny_extend_range (A:=A) (R:=λ r s'=>r=.ok (.ret (.ref s.heap.objs.size))/\∃ g tk,s'={ s with heap:=g,toks:=tk }/\wpAny (model prog w) A (load s.heap.objs.size >>= λ o=>match o.data with|Data.seq xs epoch=>pure xs.toList|x=>unsupported "internal:collect") Q E s')
    (s:={ s with heap:=s.heap.push { cls:=.type "list",data:=.seq ([]:List Value).toArray } }) hh (Heap.get?_push_of_some _ hr) hsm hn hl s.heap.objs.size (.ref s.heap.objs.size) 0 e0 λ g tk acc c' kp eS it=>⟨rfl,g,tk,rfl,fin g tk acc c' kp eS it⟩) (λ fn s' h=>?_) (λ e s' h=>absurd h.1 (by simp))
  cases fn with
  | done f=>
    obtain⟨e,_,_,_,q⟩:=h
    cases e
    exact q
  | again c'=>exact⟨h.1,codeAny_mono h.2 λ r s'' hr=>by obtain⟨rfl,_,_,_,q⟩:=hr;exact q⟩
end
noncomputable def M5:List V->Hp->VK->Prop:=λ xs H Q=>∃ j:Int,xs=[.int j]/\∀ p,H p=none->Q (.ref p) (upd H p (.rng 0 j))
noncomputable def M4:List V->Hp->VK->Prop:=λ xs H Q=>∃ i j:Int,xs=[.int i,.int j]/\∀ p,H p=none->Q (.ref p) (upd H p (.rng i j))
noncomputable def Kh:List V->Hp->VK->Prop:=λ xs H Q=>∃ a lo hi,xs=[.ref a]/\H a=some (.rng lo hi)/\(-(2 ^ 62) <= lo/\lo < 2 ^ 62/\-(2 ^ 62) <= hi/\hi < 2 ^ 62)/\(hi - lo).toNat <= 2 ^ 24/\∀ p,H p=none->Q (.ref p) (upd H p (.lst (C1 lo (hi - lo).toNat)))
section
variable{X:Cx}
theorem call_rng1:CallR X (.type "range") M5:=by
  intro pins s σ H xs us Q I r h
  obtain⟨j,rfl,q⟩:=h
  obtain⟨u,rfl,t,rfl⟩:=CK r
  exact call_range_1 ⟨.ref s.heap.objs.size,_,I.laid (a:=s.heap.objs.size) (o:=.rng 0 j) (λ b o e=>Heap.get?_push_of_some _ e) (Nat.le_refl _) ⟨_,_,_,Heap.get?_push_size _ rfl⟩,rfl,q _ (I.hok.fresh (Nat.le_refl _))⟩
theorem Jk:CallR X (.type "range") M4:=by
  intro pins s σ H xs us Q I r h
  obtain⟨i,j,rfl,q⟩:=h
  obtain⟨u,v,rfl,⟨t,rfl⟩,⟨t',rfl⟩⟩:=Jx r
  exact call_range_2 ⟨.ref s.heap.objs.size,_,I.laid (a:=s.heap.objs.size) (o:=.rng i j) (λ b o e=>Heap.get?_push_of_some _ e) (Nat.le_refl _) ⟨_,_,_,Heap.get?_push_size _ rfl⟩,rfl,q _ (I.hok.fresh (Nat.le_refl _))⟩
theorem RZ{lo hi:Int}:Builtin.Range.rangeSize lo hi 1=((hi - lo).toNat:Nat):=by rw[rangeSize_one];split <;> omega
theorem IV{lo:Int}{n:Nat}{acc:Array Value}(it:ItemsOf (λ i v=>∃ t,v=.int (lo + i * 1) t) acc n):Vals (C1 lo n) acc.toList:=IC (by simpa using it.1) λ j v q=>it.2 j v (by simpa using q)
theorem No(hc:X.calm=true):CallR X (.type "list") Kh:=by
  intro pins s σ H xs us Q I r h
  obtain⟨a,lo,hi,rfl,ha,⟨b1,b2,b3,b4⟩,hz,q⟩:=h
  obtain⟨u,rfl,ru⟩:=CK r
  cases ru
  obtain⟨t,u,v,hr⟩:∃ t u v,s.heap.get? a=some { cls:=.type "range",data:=.fields #[.int lo t,.int hi u,.int 1 v] }:=I.hok a _ ha
  refine call_list_range (I.ok.hd hc) hr (small_one b1 b2 b3 b4) RZ hz λ g tk acc c' kp e it=>?_
  exact⟨.ref s.heap.objs.size,_,I.laid (t':=tk) (o:=.lst _) kp (Nat.le_refl _) ⟨by rw[N7,sizeLine_eq];omega,acc.toList,c',IV it,by simpa using e⟩,rfl,q _ (I.hok.fresh (Nat.le_refl _))⟩
end
section
variable{K:PySem.W.Frag}
open Classical in
noncomputable def Fp(m:MA):MA:=λ ls hd=>(m ls hd).bind λ p=>match p.1 with
  | [.im (.int j)]=>if IB j then some (Ac 0 j.toNat,p.2)else none
  | [.im (.int i),.im (.int j)]=>if Ra i j then some (Ac i (j - i).toNat,p.2)else none
  | _=>none
noncomputable def IE:List V->Hp->VK->Prop:=λ xs H Q=>M5 xs H Q ∨ M4 xs H Q
theorem Q0{t:TA}{m:MA}(h:RA K t m):RN K (tCB Kh (Bs (tCB IE t) Cn)) (Fp m):=by
  intro ρ σ H hd ls Q d hd' hR hL hm hQ
  obtain⟨⟨d1,h1⟩,e1,hm⟩:=Option.bind_eq_some_iff.mp hm
  dsimp only at hm
  refine h ρ σ H hd ls _ d1 h1 hR hL e1 λ ρ1 H1 v x1 R1 r1=>?_
  split at hm
  . next j=>
    split at hm
    . next c=>
      have c:j < 2 ^ 24/\-(2 ^ 62) <= j:=c
      cases hm
      simp only[RDs,RD,RI]at r1
      obtain⟨x,r,rfl,rfl,rfl⟩:=r1
      refine .inl ⟨j,rfl,λ p hp=>⟨p,0,j,rfl,AT,⟨by decide,by decide,c.2,by omega⟩,by omega,λ l hl=>?_⟩⟩
      obtain⟨R2,x2⟩:=R1.hid (ho:=.rng 0 j) hp
      obtain⟨R3,x3⟩:=R2.hid (ho:=.lst (C1 0 (j - 0).toNat)) hl
      refine hQ ρ1 _ l (C1 0 (j - 0).toNat) ((x1.trans R1 x2).trans R2 x3) R3 ((x1.trans R1 x2).none hR hl R2) (R2.out hl) AT ?_
      rw[Int.sub_zero];exact Ke 0 _
    . cases hm
  . next i j=>
    split at hm
    . next c=>
      cases hm
      simp only[RDs,RD,RI]at r1
      obtain⟨x,r,rfl,rfl,y,r2,rfl,rfl,rfl⟩:=r1
      refine .inr ⟨i,j,rfl,λ p hp=>⟨p,i,j,rfl,AT,⟨c.1.1,c.1.2,c.2.1.1,c.2.1.2⟩,c.2.2,λ l hl=>?_⟩⟩
      obtain⟨R2,x2⟩:=R1.hid (ho:=.rng i j) hp
      obtain⟨R3,x3⟩:=R2.hid (ho:=.lst (C1 i (j - i).toNat)) hl
      exact hQ ρ1 _ l (C1 i (j - i).toNat) ((x1.trans R1 x2).trans R2 x3) R3 ((x1.trans R1 x2).none hR hl R2) (R2.out hl) AT (Ke i _)
    . cases hm
  . cases hm
noncomputable def W3(m:MA):ME:=λ ls hd=>(Fp m ls hd).bind λ p=>some (Ao p.1,p.2)
theorem J0:∀ {xs ys:List Int},xs.Perm ys->xs.Pairwise (· <= ·)->ys.Pairwise (· <= ·)->xs=ys:=λ {xs ys} p a b=>
  p.eq_of_pairwise (le:=(· <= ·)) (λ _ _ _ _ h1 h2=>Int.le_antisymm h1 h2) a b
noncomputable def Es(xs:List Int):List Int:=xs.mergeSort (λ a b=>decide (a <= b))
theorem I0(xs:List Int):(Es xs).Perm xs:=List.mergeSort_perm ..
theorem GF(xs:List Int):(Es xs).Pairwise (· <= ·):=by
  have:=List.pairwise_mergeSort (le:=λ a b:Int=>decide (a <= b)) (by intro a b c h1 h2;simp at *;omega) (by intro a b;simp;omega) xs
  exact this.imp (by simp)
noncomputable def Eb(m:MI):MA:=λ ls hd=>(m ls hd).bind λ p=>(BD p.1.1).bind λ ns=>if ns.length < 64 then some ((Es ns).map λ i=>.im (.int i),p.2)else none
end
section
variable(K:PySem.W.Frag){X:Cx}{a b e:Expr}{ta tb te:TE}{me:ME}{m:MA}{t:TA}{p p2 pos pos2:Pos}{es:List Expr}
theorem Kk(hm:X.mg "list"=none)(hm2:X.mg "range"=none)(ha:QA K X (a :: es) t m)(hc:X.calm=true:=by rfl)(hg:Gl X "list":=by rfl)(hg2:Gl X "range":=by rfl)(he2:starEach (a :: es) X.env=(false,eval a X.env) :: starEach es X.env:=by rfl)(hpl:(backTo pos2 (starEach es X.env)).any (·.1)=false:=by rfl)
    (he:starEach [.Call (.Name "range" p2) (a :: es) [] pos2] X.env=[(false,eval (.Call (.Name "range" p2) (a :: es) [] pos2) X.env)]:=by rfl) :
    QN K X (.Call (.Name "list" p) [.Call (.Name "range" p2) (a :: es) [] pos2] [] pos) (tCB Kh (Bs (tCB IE t) Cn)) (Fp m):=
  ⟨Dj (No hc) hg hm Mf (Ch (Dj (call_rng1.or Jk) hg2 hm2 boot_range ha.p (by decide) (by decide) he2 hpl) Dr he) (by decide) (by decide) he rfl,Q0 ha.r⟩
end
end L2
namespace L2
structure BltA(mg:PySem.Str->Option PySem.Value):Prop where
  list:mg "list"=none
  tuple:mg "tuple"=none
  len:mg "len"=none
  range:mg "range"=none
  repr:mg "repr"=none
  sum:mg "sum"=none
  min:mg "min"=none
  max:mg "max"=none
  abs:mg "abs"=none
  all:mg "all"=none
  any:mg "any"=none
  sorted:mg "sorted"=none
  zip:mg "zip"=none
  isinstance:mg "isinstance"=none
  int:mg "int"=none
  bool:mg "bool"=none
  str:mg "str"=none
  set:mg "set"=none
  enumerate:mg "enumerate"=none
  reversed:mg "reversed"=none
  dict:mg "dict"=none
end L2
namespace L2
open PySem PySem.Spec PyProof.Rows
section
variable{ls:Ls}{hd:Hd}{a b c:MS}{ma mb mc:ME}{ta tb:MT}{m m1 m2:MA}{n:MG}{ns:MGs}{d e:D}
@[simp] theorem Cv:A8 a b ls hd=(a ls hd).bind λ p=>match p.1 with
  | .nx ls1=>b ls1 p.2
  | f=>some (f,p.2):=rfl
@[simp] theorem XE:Ag ls hd=some (.nx ls,hd):=rfl
@[simp] theorem MW:Bo ma ls hd=(ma ls hd).bind λ p=>some (.nx ls,p.2):=rfl
@[simp] theorem Os:AY ma ls hd=(ma ls hd).bind λ p=>some (.rt p.1,p.2):=rfl
@[simp] theorem X9:W4 ls hd=some (.rt (.im .non),hd):=rfl
@[simp] theorem Wu:V8 ls hd=some (.bk ls,hd):=rfl
@[simp] theorem XJ:W6 ls hd=some (.ct ls,hd):=rfl
@[simp] theorem Ow:Au ta a b ls hd=(ta ls hd).bind λ p=>if p.1=true then a ls p.2 else b ls p.2:=rfl
@[simp] theorem Cf:Fs ma n ls hd=(ma ls hd).bind λ p=>(n p.1 ls p.2).map λ ls'=>(.nx ls',p.2):=rfl
@[simp] theorem Ee(i:Nat):AG i d ls hd=some (ls.set i (some d)):=rfl
@[simp] theorem XB(k:Nat):CH k ns d ls hd=(At d).bind λ ds=>if ds.length=k then ns ds ls hd else none:=rfl
@[simp] theorem Wq(d:D)(ds:List D):Ad n ns (d :: ds) ls hd=(n d ls hd).bind λ ls1=>ns ds ls1 hd:=rfl
@[simp] theorem XD:CI [] ls hd=some ls:=rfl
@[simp] theorem XT(ix:List Nat):Hg ix m ls hd=(m ls hd).bind λ p=>if p.1.length=ix.length then some (.nx ((ix.zip p.1).foldl (λ l q=>l.set q.1 (some q.2)) ls),p.2)else none:=rfl
@[simp] theorem XA(i j k:Nat):IR i j k m ls hd=Hg [k,j,i] (λ ls hd=>(m ls hd).map λ p=>(p.1.reverse,p.2)) ls hd:=rfl
@[simp] theorem Cu(i:Nat):A0 i ls hd=match ls[i]? with
  | some (some d)=>some (d,hd)
  | _=>none:=rfl
@[simp] theorem LH(i:I):mC i ls hd=some (.im i,hd):=rfl
@[simp] theorem Ia(f:D->D->Hd->Option (D × Hd)):mOp f ma mb ls hd=(ma ls hd).bind λ p=>(mb ls p.2).bind λ q=>f p.1 q.1 q.2:=rfl
@[simp] theorem XZ:GW ta tb ls hd=(ta ls hd).bind λ p=>if p.1=true then tb ls p.2 else some (false,p.2):=rfl
@[simp] theorem Xo:mOr ta tb ls hd=(ta ls hd).bind λ p=>if p.1=true then some (true,p.2)else tb ls p.2:=rfl
@[simp] theorem XV:Fr ta ls hd=(ta ls hd).bind λ p=>some (!p.1,p.2):=rfl
@[simp] theorem Op:Dv ma ls hd=(ma ls hd).bind λ p=>(Dn p.2 p.1).map (·,p.2):=rfl
@[simp] theorem JF:AQ ma ls hd=(ma ls hd).bind λ p=>match p.1 with
  | .im (.bl b)=>some (b,p.2)
  | _=>none:=rfl
@[simp] theorem WC:mIf ta ma mb ls hd=(ta ls hd).bind λ p=>if p.1=true then ma ls p.2 else mb ls p.2:=rfl
@[simp] theorem XL:Gv ma mb ls hd=(AQ ma ls hd).bind λ p=>if p.1=true then mb ls p.2 else some (.im (.bl false),p.2):=rfl
@[simp] theorem XU:Wi ma mb ls hd=(AQ ma ls hd).bind λ p=>if p.1=true then some (.im (.bl true),p.2)else mb ls p.2:=rfl
@[simp] theorem XC:IS ma ls hd=(AQ ma ls hd).bind λ p=>some (.im (.bl (!p.1)),p.2):=rfl
@[simp] theorem FQ:A4 ls hd=some ([],hd):=rfl
@[simp] theorem FR:A1 ma m ls hd=(ma ls hd).bind λ p=>(m ls p.2).bind λ q=>some (p.1 :: q.1,q.2):=rfl
open Classical in
@[simp] theorem VI:BQ m ls hd=(m ls hd).bind λ p=>if Ck p.1.length then some (Ao p.1,p.2)else none:=rfl
open Classical in
@[simp] theorem LF:BE m ls hd=(m ls hd).bind λ p=>if Ck p.1.length then some (p.1,p.2)else none:=rfl
@[simp] theorem Ib:BV m ls hd=(m ls hd).bind λ p=>some (.mu p.2.length,p.2 ++ [.lst p.1]):=rfl
@[simp] theorem VL:J9 ma ls hd=(ma ls hd).bind λ p=>match p.1 with
  | .im (.int i)=>some (.im (.int (-i)),p.2)
  | _=>none:=rfl
@[simp] theorem XX(neg:Bool):Wl neg ma ls hd=(ma ls hd).bind λ p=>some (.im (.bl (match p.1 with
  | .im .non=>!neg
  | _=>neg)),p.2):=rfl
@[simp] theorem WD(g:Int->Int->Option I)(i j:Int):fI g (.im (.int i)) (.im (.int j)) hd=(g i j).map (.im ·,hd):=rfl
@[simp] theorem MV(f g:D->D->Hd->Option (D × Hd)):HB f g d e hd=match f d e hd with
  | some z=>some z
  | none=>g d e hd:=rfl
@[simp] theorem VN(neg:Bool)(i j:Int):FB neg (.im (.int i)) (.im (.int j)) hd=some (.im (.bl (if neg then !decide (i=j)else decide (i=j))),hd):=by simp[FB,scI,KU]
@[simp] theorem XY(neg:Bool)(i j:Str):FB neg (.im (.str i)) (.im (.str j)) hd=some (.im (.bl (if neg then !decide (i=j)else decide (i=j))),hd):=by simp[FB,scI,KU]
@[simp] theorem Ng(i:Int):gIx d (.im (.int i)) hd=(BI hd d).bind λ ds=>(atI ds i).map (·,hd):=rfl
@[simp] theorem Tj:Bv d e hd=(E5 hd d).bind λ kvs=>(DZ e).bind λ k=>(BK kvs k).map (·,hd):=rfl
@[simp] theorem Xp(f:List D->Hd->Option (D × Hd)):mCB f m ls hd=(m ls hd).bind λ p=>f p.1 p.2:=rfl
@[simp] theorem WG(tp:Bool)(g:List D->Option D):f1 tp g [d] hd=((if tp then BI hd d else BM hd d)).bind λ ds=>(g ds).map (·,hd):=rfl
@[simp] theorem LG(g:List D->Option D):CU g m ls hd=(m ls hd).bind λ p=>(g p.1).map (·,p.2):=rfl
@[simp] theorem Nf(f:D->List D->Hd->Option (D × Hd)):mMt f ma m ls hd=(ma ls hd).bind λ p=>match BM p.2 p.1 with
  | some _=>(m ls p.2).bind λ q=>f p.1 q.1 q.2
  | none=>none:=rfl
@[simp] theorem XG(i j:Int):Gz [.im (.int i),.im (.int j)] hd=some (.im (.int (if j > i then j else i)),hd):=rfl
@[simp] theorem XF(i j:Int):IZ [.im (.int i),.im (.int j)] hd=some (.im (.int (if j < i then j else i)),hd):=rfl
@[simp] theorem Xa(i:Int):Wo [.im (.int i)] hd=some (.im (.int (if i < 0 then -i else i)),hd):=rfl
@[simp] theorem VM:E3 m ma ls hd=(m ls hd).bind λ p=>(ma ls p.2).bind λ q=>match q.1 with
  | .im (.int i)=>(atI p.1 i).map (·,q.2)
  | _=>none:=rfl
@[simp] theorem Ic:Bg ma ls hd=(ma ls hd).bind λ p=>(At p.1).map λ ds=>((ds,[]),p.2):=rfl
@[simp] theorem XW:Wj m ls hd=(m ls hd).map λ p=>((p.1,[]),p.2):=rfl
@[simp] theorem Ov:Em ma ls hd=(ma ls hd).bind λ p=>match p.1 with
  | .mu n=>match p.2[n]? with
    | some (.lst ds)=>some ((ds,[(n,ds)]),p.2)
    | _=>none
  | .ro ns=>some ((ns.map λ n=>.im (.int n),[]),p.2)
  | _=>none:=rfl
open Classical in
@[simp] theorem Ou:Ca m ls hd=(m ls hd).bind λ p=>match p.1 with
  | [.im (.int j)]=>if Ej j then some ((Ac 0 j.toNat,[]),p.2)else none
  | _=>none:=rfl
open Classical in
@[simp] theorem MU:Dw m ls hd=(m ls hd).bind λ p=>match p.1 with
  | [.im (.int i),.im (.int j)]=>if Kc i j then some ((Ac i (j - i).toNat,[]),p.2)else none
  | _=>none:=rfl
@[simp] theorem Ie(mi:MI):BW mi n a ls hd=(mi ls hd).bind λ p=>BL n a p.1.2 p.1.1 ls p.2:=rfl
open Classical in
@[simp] theorem MX(k:Nat)(ix:List Nat)(mi:MI):Bc k ix mi n ta ma ls hd=(mi ls hd).bind λ p=>if Ck p.1.1.length then B2 n ta ma p.1.2 p.1.1 (EC k ix ls) p.2 else none:=rfl
@[simp] theorem XR:CT ls hd=some (true,hd):=rfl
@[simp] theorem Wt(F:List D->Hd->Option (D × Hd)):FM F m ls hd=(m ls hd).bind λ p=>F p.1 p.2:=rfl
@[simp] theorem Ot:E2 ls hd=some (none,hd):=rfl
@[simp] theorem Tg:Fq ma ls hd=(ma ls hd).bind λ p=>match p.1 with
  | .im (.int i)=>some (some i,p.2)
  | _=>none:=rfl
@[simp] theorem XH:W5 ma ls hd=(ma ls hd).bind λ p=>(BI p.2 p.1).map (·,p.2):=rfl
@[simp] theorem Wr:GV m ls hd=m ls hd:=rfl
@[simp] theorem VJ(ml mh:MO1):Hf ma ml mh ls hd=(ma ls hd).bind λ p=>(ml ls p.2).bind λ l=>(mh ls l.2).bind λ h=>(BM h.2 p.1).bind λ ds=>some (Eo ds l.1 h.1,h.2):=rfl
@[simp] theorem XS(ml mh:MO1):Wh ma ml mh ls hd=(ma ls hd).bind λ p=>(ml ls p.2).bind λ l=>(mh ls l.2).bind λ h=>(At p.1).bind λ ds=>if ¬ (HT.sIx ds.length 0 l.1=0/\HT.sIx ds.length ds.length h.1=ds.length)then some (Ao (Eo ds l.1 h.1),h.2)else none:=rfl
@[simp] theorem X8:W3 m ls hd=(Fp m ls hd).bind λ p=>some (Ao p.1,p.2):=rfl
open Classical in
@[simp] theorem Oq:Fp m ls hd=(m ls hd).bind λ p=>match p.1 with
  | [.im (.int j)]=>if IB j then some (Ac 0 j.toNat,p.2)else none
  | [.im (.int i),.im (.int j)]=>if Ra i j then some (Ac i (j - i).toNat,p.2)else none
  | _=>none:=rfl
@[simp] theorem WU(mi:MI):Eb mi ls hd=(mi ls hd).bind λ p=>(BD p.1.1).bind λ ns=>if ns.length < 64 then some ((Es ns).map λ i=>.im (.int i),p.2)else none:=rfl
@[simp] theorem XI(ms:List (ME × ME)):IT ms ls hd=(EM ms ls hd).bind λ p=>if p.1.length <= 15 then some (.mu p.2.length,p.2 ++ [.dic (FK [] p.1)])else none:=rfl
@[simp] theorem WV:EM [] ls hd=some ([],hd):=rfl
@[simp] theorem Wp(r:List (ME × ME)):EM ((ma,mb) :: r) ls hd=(ma ls hd).bind λ p=>(mb ls p.2).bind λ q=>(EM r ls q.2).bind λ z=>(DZ p.1).map λ k=>((k,q.1) :: z.1,z.2):=rfl
open Classical in
@[simp] theorem Ti:DE ma mb mc ls hd=(mc ls hd).bind λ p=>(ma ls p.2).bind λ q=>(mb ls q.2).bind λ r=>(DZ r.1).bind λ k=>match q.1 with
  | .mu n=>match r.2[n]? with
    | some (.dic kvs)=>if DG kvs.length then some (.nx ls,r.2.set n (.dic (CS kvs k p.1)))else none
    | _=>none
  | _=>none:=rfl
@[simp] theorem Th:Ev ma mb mc ls hd=(mc ls hd).bind λ p=>(ma ls p.2).bind λ q=>(mb ls q.2).bind λ r=>match q.1,r.1 with
  | .mu n,.im (.int i)=>match r.2[n]? with
    | some (.lst ds)=>(ixN ds.length i).map λ j=>(.nx ls,r.2.set n (.lst (ds.set j p.1)))
    | _=>none
  | _,_=>none:=rfl
@[simp] theorem KJ(is:List I):At (.im (.tup is))=some (is.map .im):=rfl
@[simp] theorem Xf(ds:List D):At (.tm ds)=some ds:=rfl
@[simp] theorem Xh(k:Nat):At (.mu k)=none:=rfl
@[simp] theorem Xg(k:List Int):At (.ro k)=none:=rfl
@[simp] theorem Hx(is:List I):BI hd (.im (.tup is))=some (is.map .im):=rfl
@[simp] theorem Xj(ds:List D):BI hd (.tm ds)=some ds:=rfl
@[simp] theorem Vg(k:Nat):BI hd (.mu k)=BM hd (.mu k):=rfl
@[simp] theorem Xk(k:List Int):BI hd (.ro k)=some (k.map λ n=>.im (.int n)):=rfl
@[simp] theorem NN(k:Nat):BM hd (.mu k)=match hd[k]? with
    | some (.lst ds)=>some ds
    | _=>none:=rfl
@[simp] theorem Xl(k:List Int):BM hd (.ro k)=some (k.map λ n=>.im (.int n)):=rfl
@[simp] theorem Xq(k:Nat):E5 hd (.mu k)=match hd[k]? with
    | some (.dic ds)=>some ds
    | _=>none:=rfl
@[simp] theorem Xn(i:Int):DZ (.im (.int i))=some (.inl i):=rfl
@[simp] theorem Xm(i:Str):DZ (.im (.str i))=some (.inr i):=rfl
@[simp] theorem Xe:Be []=some []:=rfl
@[simp] theorem Xs(i:I)(r:List D):Be (.im i :: r)=(Be r).map (i :: ·):=rfl
@[simp] theorem XN:BD []=some []:=rfl
@[simp] theorem XO(i:Int)(r:List D):BD (.im (.int i) :: r)=(BD r).map (i :: ·):=rfl
@[simp] theorem Xd:Cb []=some []:=rfl
@[simp] theorem Xr(i:Bool)(r:List D):Cb (.im (.bl i) :: r)=(Cb r).map (i :: ·):=rfl
@[simp] theorem Cr(is:List I):Ao (is.map .im)=.im (.tup is):=by simp[Ao]
@[simp] theorem WR:Ao []=.im (.tup []):=rfl
@[simp] theorem X6(i:I):Ao [.im i]=.im (.tup [i]):=rfl
@[simp] theorem MJ(i j:I):Ao [.im i,.im j]=.im (.tup [i,j]):=rfl
@[simp] theorem X5(i j k:I):Ao [.im i,.im j,.im k]=.im (.tup [i,j,k]):=rfl
@[simp] theorem X4(i j k l:I):Ao [.im i,.im j,.im k,.im l]=.im (.tup [i,j,k,l]):=rfl
@[simp] theorem Xc(w:Nat)(i:I):clD w (.im i)=true:=by simp[clD]
@[simp] theorem Xb(w n:Nat):clD w (.mu n)=decide (n < w):=by simp[clD]
@[simp] theorem Wv(w:Nat):BF w []=true:=by simp[BF]
@[simp] theorem P5(w:Nat)(d:D)(ds:List D):BF w (d :: ds)=(clD w d && BF w ds):=by simp[BF]
@[simp] theorem BY{α:Type}(x:α)(r:List α):atI (x :: r) 0=some x:=FU (j:=0) rfl
@[simp] theorem E7{α:Type}(x y:α)(r:List α):atI (x :: y :: r) 1=some y:=FU (j:=1) rfl
@[simp] theorem Nq{α:Type}(x y z:α)(r:List α):atI (x :: y :: z :: r) 2=some z:=FU (j:=2) rfl
theorem Gi{α:Type}{xs:List α}{i:Int}{k:Nat}{x:α}(hi:i=k)(h:xs[k]? = some x):atI xs i=some x:=by subst hi;exact FU h
@[simp] theorem Oo:Ck 0:=BC (by decide)
@[simp] theorem FP:Ck 2:=BC (by decide)
@[simp] theorem On:Ck 3:=BC (by decide)
@[simp] theorem XQ:Ck 4:=BC (by decide)
@[simp] theorem X7:DG 4:=CJ (by decide)
open Classical in
@[simp] theorem LI(k:Nat)(x:D):B8 (.mu k) [x] hd=match hd[k]? with
    | some (.lst ds)=>if DG ds.length then some (.im .non,hd.set k (.lst (ds ++ [x])))else none
    | _=>none:=rfl
theorem Gg{F:List D->Hd->Option (D × Hd)}{ds:List D}{hd1 h2:Hd}{i:I}(h1:m ls hd=some (ds,hd1))(hc:BF 0 ds=true)(hF:F ds []=some (.im i,h2)):AA 0 F m ls hd=some (.im i,hd1):=by
  simp[AA,h1,hc,hF,fin]
theorem G0{w:Nat}{F:List D->Hd->Option (D × Hd)}{ds:List D}{pre pre' rest g:Hd}{i:I}(hw:pre.length=w)(hw':pre'.length=w)(h1:m ls hd=some (ds,pre ++ rest))(hc:BF w ds=true)(hp:pre.all (clO w)=true)(hp':pre'.all (clO w)=true)(hF:F ds pre=some (.im i,pre' ++ g)):AA w F m ls hd=some (.im i,pre' ++ rest):=by
  subst hw
  have e1:(pre ++ rest).take pre.length=pre:=by simp
  have e2:(pre' ++ g).take pre.length=pre':=by rw[<- hw'];simp
  simp only[AA,h1,Option.bind_some,e1,hc,hp,hF,fin,e2,hp']
  simp
end
theorem Cs{n:MG}{b:MS}{g:Gd}{ls:Ls}{hd:Hd}:BL n b g [] ls hd=some (.nx ls,hd):=by unfold BL;rfl
theorem CF{n:MG}{b:MS}{g:Gd}{d:D}{r:List D}{ls ls1 ls2:Ls}{hd hd2:Hd}(h1:n d ls hd=some ls1)(h2:b ls1 hd=some (.nx ls2,hd2))(h3:GOk hd2 g):BL n b g (d :: r) ls hd=BL n b g r ls2 hd2:=by
  conv=>lhs;unfold BL
  simp[h1,h2,h3]
theorem Qj{n:MG}{b:MS}{g:Gd}{d v:D}{r:List D}{ls ls1:Ls}{hd hd2:Hd}(h1:n d ls hd=some ls1)(h2:b ls1 hd=some (.rt v,hd2)):BL n b g (d :: r) ls hd=some (.rt v,hd2):=by
  conv=>lhs;unfold BL
  simp[h1,h2]
end L2
namespace L2
open PySem PySem.Spec PyProof.Rows
section
variable{prog:Program}{w:World}{A:Around}{R:Result->Shared->Prop}{s:Shared}{elt tg iter tg2 iter2:Expr}{ifs ifs2:List Expr}{scope:Scope}{pos:Pos}{it acc:Value}{env:Env}
end
end L2
namespace L2
open PySem PySem.Spec PyProof.Rows
section
variable{X:Cx}
end
end L2
namespace L2
open PySem PySem.Spec PyProof.Rows
open Classical in
noncomputable def mIn(k:Nat)(n:MG)(c:MT)(m:ME)(g:Gd):List D->Ls->Hd->Option (Ls × Hd)
  | [],ls,hd=>some (ls,hd)
  | d :: r,ls,hd=>(n d ls hd).bind λ ls1=>(c ls1 hd).bind λ p=>if p.1=true then(m ls1 p.2).bind λ q=>(B8 (.mu k) [q.1] q.2).bind λ z=>if GOk z.2 g then mIn k n c m g r ls1 z.2 else none else if GOk p.2 g then mIn k n c m g r ls1 p.2 else none
open Classical in
noncomputable def NM(k:Nat)(n:MG)(c:MT)(mi:MI)(n2:MG)(c2:MT)(m:ME)(g:Gd):List D->Ls->Hd->Option Hd
  | [],ls,hd=>some hd
  | d :: r,ls,hd=>(n d ls hd).bind λ ls1=>(c ls1 hd).bind λ p=>if p.1=true then(mi ls1 p.2).bind λ q=>(mIn k n2 c2 m q.1.2 q.1.1 ls1 q.2).bind λ z=>if GOk z.2 g then NM k n c mi n2 c2 m g r z.1 z.2 else none else if GOk p.2 g then NM k n c mi n2 c2 m g r ls1 p.2 else none
noncomputable def V7(j:Nat)(ix:List Nat)(mi:MI)(n:MG)(c:MT)(mi2:MI)(n2:MG)(c2:MT)(m:ME):ME:=λ ls hd=>(mi ls hd).bind λ p=>(NM p.2.length n c mi2 n2 c2 m p.1.2 p.1.1 (EC j ix ls) (p.2 ++ [.lst []])).map λ h=>(.mu p.2.length,h)
section
variable{K:PySem.W.Frag}{ρ:List Addr}{H:Hp}{hd:Hd}
end
end L2
namespace L2
open PySem PySem.Spec PyProof.Rows
@[simp] theorem Ws(j:Nat)(ix:List Nat)(mi mi2:MI)(n n2:MG)(c c2:MT)(m:ME)(ls:Ls)(hd:Hd):V7 j ix mi n c mi2 n2 c2 m ls hd=(mi ls hd).bind λ p=>(NM p.2.length n c mi2 n2 c2 m p.1.2 p.1.1 (EC j ix ls) (p.2 ++ [.lst []])).map λ h=>(.mu p.2.length,h):=rfl
end L2
namespace L2
open PySem PySem.Spec PyProof.Rows PySem.W
section
variable(r:Nat->Int)(n:Nat)
noncomputable def PWp{α:Type}:KasT α->(α->Prop)->Prop
  | .ret a,Q=>Q a
  | .ask i j k,Q=>i < n/\j < n/\PWp (k (decide (r i < r j))) Q
noncomputable def kv(p:Array Nat)(i:Nat):Int:=r (p.getD i 0)
noncomputable def STo(p:Array Nat)(m:Nat):Prop:=∀ i j,i <= j->j < m->kv r p i <= kv r p j
noncomputable def DTo(p:Array Nat)(m:Nat):Prop:=∀ i j,i <= j->j < m->kv r p j <= kv r p i
noncomputable def EqL(p:Array Nat)(m q:Nat):Prop:=∀ k,m - (q + 1) <= k->k < m->kv r p k=kv r p (m - 1)
noncomputable def PAr(p:Array Nat):Prop:=p.Perm (List.range n).toArray
end
section
variable{r:Nat->Int}{n:Nat}
theorem PWp.bind{α β:Type}{f:α->KasT β}{Q:β->Prop}:∀ {t:KasT α},PWp r n t (λ a=>PWp r n (f a) Q)->PWp r n (t.bind f) Q
  | .ret _,h=>h
  | .ask i j k,h=>⟨h.1,h.2.1,PWp.bind h.2.2⟩
theorem PWp.mono{α:Type}{Q Q':α->Prop}:∀ {t:KasT α},PWp r n t Q->(∀ a,Q a->Q' a)->PWp r n t Q'
  | .ret _,h,q=>q _ h
  | .ask i j k,h,q=>⟨h.1,h.2.1,PWp.mono h.2.2 q⟩
theorem PWp.wp{α:Type}{cmp:Nat->Nat->(Bool->Shared->Prop)->Shared->Prop}{P:Shared->Prop}{Q:α->Shared->Prop}(hc:∀ i j C s,i < n->j < n->P s->(∀ s',P s'->C (decide (r i < r j)) s')->cmp i j C s):∀ {t:KasT α} {s:Shared},PWp r n t (λ a=>∀ s,P s->Q a s)->P s->t.kasWp cmp Q s
  | .ret _,s,h,p=>h s p
  | .ask i j k,s,h,p=>hc i j _ s h.1 h.2.1 p λ s' p'=>PWp.wp hc h.2.2 p'
theorem PAr.size{p:Array Nat}(h:PAr n p):p.size=n:=by have:=h.size_eq;simpa using this
theorem PAr.lt{p:Array Nat}(h:PAr n p){i:Nat}(hi:i < n):p.getD i 0 < n:=by
  have hs:=h.size
  have hi':i < p.size:=by omega
  have:p[i] ∈ (List.range n).toArray:=h.mem_iff.mp (Array.getElem_mem hi')
  have e:p.getD i 0=p[i]:=by simp[Array.getD,hi']
  rw[e]
  simpa using this
theorem IU{p:Array Nat}{i j:Nat}(hj:j <= p.size)(k:Nat):kv r (kas_rev p i j) k=if i <= k/\k < j then kv r p (i + j - 1 - k)else kv r p k:=by
  unfold kv kas_rev
  simp only[Array.getD_eq_getD_getElem?]
  rw[getElem?_mirror_all hj]
  split <;> rfl
theorem PAr.rev{p:Array Nat}(h:PAr n p)(i j:Nat):PAr n (kas_rev p i j):=(mirror_perm _ _ _ _).trans h
theorem MN{p:Array Nat}{m q:Nat}(hj:m <= p.size)(hq:q + 1 <= m)(h:EqL r p m q)(k:Nat):kv r (kas_rev p (m - (q + 1)) m) k=kv r p k:=by
  rw[IU hj]
  split
  . next c=>rw[h _ (by omega) (by omega),h k c.1 c.2]
  . rfl
theorem LV{p:Array Nat}(pa:PAr n p):∀ (f m:Nat),1 <= m->m + f <= n->STo r p m->PWp r n (kas_asc p f m) λ m'=>m <= m'/\m' <= m + f/\STo r p m'/\(m' < m + f->kv r p m' < kv r p (m' - 1))
  | 0,m,h1,hn,hs=>⟨Nat.le_refl _,Nat.le_refl _,hs,λ h=>by omega⟩
  | f + 1,m,h1,hn,hs=>by
    refine⟨pa.lt (by omega),pa.lt (by omega),?_⟩
    by_cases c:r (p.getD m 0) < r (p.getD (m - 1) 0)
    . rw[decide_eq_true c]
      exact⟨Nat.le_refl _,by omega,hs,λ _=>c⟩
    . rw[decide_eq_false c]
      refine(LV pa f (m + 1) (by omega) (by omega) ?_).mono λ m' h=>⟨by omega,by omega,h.2.2.1,λ z=>h.2.2.2 (by omega)⟩
      intro i j hij hj
      by_cases e:j < m
      . exact hs i j hij e
      . have:j=m:=by omega
        subst this
        by_cases e2:i=j
        . subst e2;exact Int.le_refl _
        . have:=hs i (j - 1) (by omega) (by omega)
          have:kv r p (j - 1) <= kv r p j:=by unfold kv;omega
          omega
theorem Hi{p:Array Nat}{m:Nat}(h1:1 <= m)(h:DTo r p m)(c:kv r p m <= kv r p (m - 1)):DTo r p (m + 1):=by
  intro i j hij hj
  by_cases e:j < m
  . exact h i j hij e
  . have:j=m:=by omega
    subst this
    by_cases e2:i=j
    . subst e2;exact Int.le_refl _
    . have:=h i (j - 1) (by omega) (by omega)
      omega
theorem HC:∀ (f:Nat) (p:Array Nat) (m q:Nat),PAr n p->1 <= m->q + 1 <= m->m + f <= n->DTo r p m->EqL r p m q ->
    PWp r n (kas_desc f p m q) λ z=>PAr n z.1/\m <= z.2.1/\z.2.1 <= m + f/\DTo r z.1 z.2.1/\EqL r z.1 z.2.1 z.2.2/\z.2.2 + 1 <= z.2.1
  | 0,p,m,q,pa,h1,hq,hn,hd,he=>⟨pa,Nat.le_refl _,Nat.le_refl _,hd,he,hq⟩
  | f + 1,p,m,q,pa,h1,hq,hn,hd,he=>by
    refine⟨pa.lt (by omega),pa.lt (by omega),?_⟩
    have sz:=pa.size
    by_cases c:r (p.getD m 0) < r (p.getD (m - 1) 0)
    . rw[decide_eq_true c]
      have c':kv r p m <= kv r p (m - 1):=by unfold kv;omega
      dsimp only
      rw[if_pos rfl]
      by_cases hq0:q > 0
      . rw[if_pos hq0]
        have sm:=MN (r:=r) (p:=p) (m:=m) (q:=q) (by omega) hq he
        refine(HC f _ (m + 1) 0 (pa.rev _ _) (by omega) (by omega) (by omega) ?_ ?_).mono λ z h=>⟨h.1,by omega,by omega,h.2.2.2⟩
        . have:=Hi h1 hd c'
          intro i j a b
          rw[sm,sm];exact this i j a b
        . intro k a b
          have:k=m:=by omega
          subst this;rfl
      . rw[if_neg hq0]
        refine(HC f p (m + 1) 0 pa (by omega) (by omega) (by omega) (Hi h1 hd c') ?_).mono λ z h=>⟨h.1,by omega,by omega,h.2.2.2⟩
        intro k a b
        have:k=m:=by omega
        subst this;rfl
    . rw[decide_eq_false c];dsimp only;rw[if_neg Bool.false_ne_true]
      refine⟨pa.lt (by omega),pa.lt (by omega),?_⟩
      by_cases d:r (p.getD (m - 1) 0) < r (p.getD m 0)
      . rw[decide_eq_true d]
        exact⟨pa,Nat.le_refl _,by show m <= m + (f + 1);omega,hd,he,hq⟩
      . rw[decide_eq_false d];dsimp only;rw[if_neg Bool.false_ne_true]
        have e:kv r p m=kv r p (m - 1):=by unfold kv;omega
        refine(HC f p (m + 1) (q + 1) pa (by omega) (by omega) (by omega) (Hi h1 hd (by omega)) ?_).mono λ z h=>⟨h.1,by omega,by omega,h.2.2.2⟩
        intro k a b
        by_cases e2:k=m
        . subst e2;rfl
        . have:=he k (by omega) (by omega)
          have e3:m + 1 - 1=m:=rfl
          rw[e3];omega
noncomputable def Run(z:Nat × Array Nat)(r:Nat->Int)(n:Nat):Prop:=PAr n z.2/\1 <= z.1/\z.1 <= n/\STo r z.2 z.1
theorem KK{p:Array Nat}{m:Nat}(pa:PAr n p)(h1:1 <= m)(hn:m <= n)(hd:DTo r p m):PWp r n (kas_tail3 m n p) λ z=>Run z r n:=by
  have sz:=pa.size
  have st:STo r (kas_rev p 0 m) m:=by
    intro i j a b
    rw[IU (by omega),IU (by omega),if_pos ⟨by omega,by omega⟩,if_pos ⟨by omega,by omega⟩]
    exact hd _ _ (by omega) (by omega)
  refine PWp.bind ((LV (pa.rev 0 m) (n - m) m h1 (by omega) st).mono λ m' h=>?_)
  exact⟨pa.rev 0 m,by show 1 <= m';omega,by show m' <= n;omega,h.2.2.1⟩
theorem HI{p:Array Nat}{m:Nat}(pa:PAr n p)(hn:m + 1 <= n)(hd:DTo r p (m + 1)):PWp r n (kas_descPart m n p) λ z=>Run z r n:=by
  refine PWp.bind ((HC (n - (m + 1)) p (m + 1) 0 pa (by omega) (by omega) (by omega) hd ?_).mono λ z h=>?_)
  . intro k a b
    have:k=m:=by omega
    subst this;rfl
  . obtain⟨a,b,c,d,e,g⟩:=h
    have sz:=a.size
    by_cases hq:z.2.2 > 0
    . rw[if_pos hq]
      have sm:=MN (r:=r) (p:=z.1) (m:=z.2.1) (q:=z.2.2) (by omega) g e
      exact KK (a.rev _ _) (by omega) (by omega) λ i j x y=>by rw[sm,sm];exact d i j x y
    . rw[if_neg hq]
      exact KK a (by omega) (by omega) d
theorem Qz(h1:1 <= n):PWp r n (kas_count n (List.toArray (List.range n))) λ z=>Run z r n:=by
  have pa:PAr n (List.range n).toArray:=.refl _
  have sz:=pa.size
  refine PWp.bind ((LV pa (n - 1) 1 (by omega) (by omega) λ i j a b=>?_).mono λ m h=>?_)
  . have:i=j:=by omega
    subst this;exact Int.le_refl _
  . obtain⟨a,b,c,d⟩:=h
    by_cases e:(m == n)=true
    . rw[if_pos e]
      have:m=n:=by simpa using e
      exact⟨pa,by show 1 <= m;omega,by show m <= n;omega,c⟩
    . rw[if_neg e]
      have hne:m ≠ n:=by simpa using e
      have dd:=d (by omega)
      by_cases h2:m > 1
      . rw[if_pos h2]
        refine⟨pa.lt (by omega),pa.lt (by omega),?_⟩
        by_cases g:r ((List.range n).toArray.getD 0 0) < r ((List.range n).toArray.getD (m - 1) 0)
        . rw[decide_eq_true g]
          exact⟨pa,by show 1 <= m;omega,by show m <= n;omega,c⟩
        . rw[decide_eq_false g];dsimp only;rw[if_neg Bool.false_ne_true]
          have g':kv r (List.range n).toArray (m - 1) <= kv r (List.range n).toArray 0:=by unfold kv;omega
          have eq:∀ k,k < m->kv r (List.range n).toArray k=kv r (List.range n).toArray 0:=λ k hk=>by
            have x1:=c 0 k (by omega) hk
            have x2:=c k (m - 1) (by omega) (by omega)
            omega
          have rv:∀ k,kv r (kas_rev (List.range n).toArray 0 m) k=kv r (List.range n).toArray k:=λ k=>by
            rw[IU (by omega)]
            split
            . next z=>rw[eq _ (by omega),eq k z.2]
            . rfl
          refine HI (pa.rev 0 m) (by omega) λ i j x y=>?_
          rw[rv,rv]
          by_cases z:j < m
          . rw[eq i (by omega),eq j z];exact Int.le_refl _
          . have:j=m:=by omega
            subst this
            by_cases z2:i=j
            . subst z2;exact Int.le_refl _
            . rw[eq i (by omega)]
              have:=eq (j - 1) (by omega)
              omega
      . rw[if_neg h2]
        have:m=1:=by omega
        subst this
        refine HI pa (by omega) λ i j x y=>?_
        by_cases z:i=j
        . subst z;exact Int.le_refl _
        . have:i=0:=by omega
          have:j=1:=by omega
          subst i j
          have:kv r (List.range n).toArray 1 < kv r (List.range n).toArray 0:=dd
          omega
theorem HZ{p:Array Nat}{k:Nat}(pa:PAr n p)(hk:k < n)(hs:STo r p k):∀ (f l q:Nat),l <= q->q <= k->q - l <= f->(∀ i,i < l->kv r p i <= kv r p k)->(∀ i,q <= i->i < k->kv r p k < kv r p i) ->
    PWp r n (kas_place p k f l q) λ m=>m <= k/\(∀ i,i < m->kv r p i <= kv r p k)/\∀ i,m <= i->i < k->kv r p k < kv r p i
  | 0,l,q,a,b,c,d,e=>⟨by omega,d,λ i x y=>e i (by omega) y⟩
  | f + 1,l,q,a,b,c,d,e=>by
    unfold kas_place
    by_cases h:l >= q
    . rw[if_pos h]
      exact⟨by omega,d,λ i x y=>e i (by omega) y⟩
    . rw[if_neg h]
      refine⟨pa.lt (by omega),pa.lt (by omega),?_⟩
      by_cases g:r (p.getD k 0) < r (p.getD ((l + q) / 2) 0)
      . rw[decide_eq_true g];dsimp only;rw[if_pos rfl]
        have g':kv r p k < kv r p ((l + q) / 2):=g
        refine HZ pa hk hs f l ((l + q) / 2) (by omega) (by omega) (by omega) d λ i x y=>?_
        have:=hs ((l + q) / 2) i x y
        omega
      . rw[decide_eq_false g];dsimp only;rw[if_neg Bool.false_ne_true]
        have g':kv r p ((l + q) / 2) <= kv r p k:=by unfold kv;omega
        refine HZ pa hk hs f ((l + q) / 2 + 1) q (by omega) (by omega) (by omega) (λ i x=>?_) e
        have:=hs i ((l + q) / 2) (by omega) (by omega)
        omega
theorem JY{p:Array Nat}{k d:Nat}(hk:k < p.size)(hd:d <= k)(i:Nat):kv r (bubble p k d) i=if i=k - d then kv r p k else if k - d < i/\i <= k then kv r p (i - 1)else kv r p i:=by
  unfold kv
  simp only[Array.getD_eq_getD_getElem?]
  rw[getElem?_bubble hk d hd]
  split
  . rfl
  . split <;> rfl
theorem PB:∀ (f:Nat) (p:Array Nat) (k:Nat),PAr n p->k + f=n->STo r p k->PWp r n (kas_bin f p k) λ z=>PAr n z/\STo r z n
  | 0,p,k,pa,e,hs=>⟨pa,by
                                  have:k=n:=by omega
                                  subst this;exact hs⟩
  | f + 1,p,k,pa,e,hs=>by
    have sz:=pa.size
    refine PWp.bind ((HZ pa (by omega) hs k 0 k (by omega) (by omega) (by omega) (λ i h=>by omega) (λ i a b=>by omega)).mono λ m h=>?_)
    obtain⟨a,b,c⟩:=h
    refine PB f _ (k + 1) ((bubble_perm _ _ _).trans pa) (by omega) λ i j x y=>?_
    rw[JY (by omega) (by omega),JY (by omega) (by omega)]
    have ek:k - (k - m)=m:=by omega
    rw[ek]
    repeat' split
    . exact Int.le_refl _
    . exact Int.le_of_lt (c _ (by omega) (by omega))
    . omega
    . exact b _ (by omega)
    . exact hs _ _ (by omega) (by omega)
    . omega
    . exact b _ (by omega)
    . exact hs _ _ (by omega) (by omega)
    . exact hs _ _ (by omega) (by omega)
theorem Lr(h1:1 <= n):PWp r n (kas_sort n) λ p=>PAr n p/\STo r p n:=by
  refine PWp.bind ((Qz h1).mono λ z h=>?_)
  obtain⟨a,b,c,d⟩:=h
  by_cases e:z.1 < n
  . rw[if_pos e]
    have:max z.1 1=z.1:=by omega
    rw[this]
    exact PB _ _ _ a (by omega) d
  . rw[if_neg e]
    have:z.1=n:=by omega
    exact⟨a,this ▸ d⟩
end
end L2
namespace L2
open PySem PySem.Spec PyProof.Rows PySem.W
noncomputable def PairAt(h:Heap)(v:Value)(p:Int × Int):Prop:=∃ (x:Addr) (o:Obj) (t u:Tok) (k:Nat),v=.ref x/\h.get? x=some o/\o.cls=.type "tuple"/\o.data=.seq #[.int p.1 t,.int p.2 u] k
noncomputable def Bb(p:Int × Int):Int:=p.1 * 4000000000 + p.2
noncomputable def pok(p:Int × Int):Prop:=-1000000000 <= p.1/\p.1 <= 1000000000/\-1000000000 <= p.2/\p.2 <= 1000000000
section
variable{prog:Program}{w:World}{A:Around}{E:Value->Shared->Prop}{s:Shared}
theorem MM{x y:Value}{p q:Int × Int}{C:Bool->Shared->Prop}(hx:PairAt s.heap x p)(hy:PairAt s.heap y q)(op:pok p)(oq:pok q)(h:C (decide (Bb p < Bb q)) s) :
    wpAny (model prog w) A (keyLt' (tuples' true) x y) C E s:=by
  obtain⟨a,o,t,u,k,rfl,ho,hc,hd⟩:=hx
  obtain⟨a2,o2,t2,u2,k2,rfl,ho2,hc2,hd2⟩:=hy
  obtain⟨p1,p2⟩:=p
  obtain⟨q1,q2⟩:=q
  unfold pok at op oq
  unfold Bb at h
  dsimp only at op oq h
  refine kat_lt ho hd ho2 hd2 ?_
  refine kat_cons (wpAny_eqBool_int ?_)
  by_cases e1:p1=q1
  . have b1:(p1 == q1)=true:=by simp[e1]
    rw[b1]
    refine kat_yes (kat_cons (wpAny_eqBool_int ?_))
    by_cases e2:p2=q2
    . have b2:(p2 == q2)=true:=by simp[e2]
      rw[b2]
      refine kat_yes (kat_nil ?_)
      have:decide (p1 * 4000000000 + p2 < q1 * 4000000000 + q2)=false:=decide_eq_false (by omega)
      rw[this]at h
      exact h
    . have b2:(p2 == q2)=false:=by simp[e2]
      rw[b2]
      refine kat_no (kat_one _ _ (lt_int ?_))
      have:decide (p1 * 4000000000 + p2 < q1 * 4000000000 + q2)=decide (p2 < q2):=decide_eq_decide.mpr (by omega)
      rw[this]at h
      exact h
  . have b1:(p1 == q1)=false:=by simp[e1]
    rw[b1]
    refine kat_no (oneLt_int ?_)
    have:decide (p1 * 4000000000 + p2 < q1 * 4000000000 + q2)=decide (p1 < q1):=decide_eq_decide.mpr (by omega)
    rw[this]at h
    exact h
theorem Ip{h:Heap}:∀ {vs:List Value} {ps:List (Int × Int)},vs.length=ps.length->(∀ (i:Nat) (v:Value) (p:Int × Int),vs[i]? = some v->ps[i]? = some p->PairAt h v p)->∃ fs,KatTups h vs fs/\fs.length=vs.length/\∀ f ∈ fs,∃ i t,f=.int i t
  | [],[],_,_=>⟨[],.nil,rfl,λ _ z=>by cases z⟩
  | v :: vs,p :: ps,hl,hp=>by
    obtain⟨fs,a,b,c⟩:=Ip (vs:=vs) (ps:=ps) (by simpa using hl) λ i v q e1 e2=>hp (i + 1) v q (by simpa using e1) (by simpa using e2)
    obtain⟨x,o,t,u,k,rfl,ho,hc,hd⟩:=hp 0 v p rfl rfl
    exact⟨.int p.1 t :: fs,.cons ho hc hd rfl a,by simp[b],λ f hf=>by
      rcases List.mem_cons.mp hf with rfl|hf
      . exact⟨_,_,rfl⟩
      . exact c f hf⟩
noncomputable def Ef(vs:List Value)(ps:List (Int × Int))(out:List Value):Prop:=∃ zs:List (Value × (Int × Int)),zs.Perm (vs.zip ps)/\(zs.map λ z=>Bb z.2).Pairwise (· <= ·)/\out=zs.map (·.1)
theorem O5{vs:List Value}{ps:List (Int × Int)}(hl:vs.length=ps.length){p:Array Nat}(pa:PAr vs.length p)(hs:STo (λ i=>Bb (ps.getD i (0,0))) p vs.length):Ef vs ps (p.toList.map λ i=>vs.getD i Value.none):=by
  have sz:=pa.size
  refine⟨p.toList.map λ i=>(vs.getD i Value.none,ps.getD i (0,0)),?_,?_,by rw[List.map_map];rfl⟩
  . have e:vs.zip ps=(List.range vs.length).map λ i=>(vs.getD i Value.none,ps.getD i (0,0)):=by
      refine List.ext_getElem? λ i=>?_
      by_cases hi:i < vs.length
      . have hi2:i < ps.length:=by omega
        rw[(List.getElem?_zip_eq_some (z:=(vs[i],ps[i]))).mpr ⟨by simp[hi],by simp[hi2]⟩]
        simp[hi,hi2]
      . rw[List.getElem?_eq_none (by simp;omega),List.getElem?_eq_none (by simp;omega)]
    rw[e]
    have:=Array.perm_iff_toList_perm.mp pa
    simpa using this.map _
  . rw[List.map_map,List.pairwise_iff_getElem]
    intro i j hi hj hij
    simp only[List.length_map,Array.length_toList]at hi hj
    have:=hs i j (by omega) (by omega)
    unfold kv at this
    simpa [Array.getD,hi,hj]using this
theorem Mz{a:Addr}{vs:List Value}{ps:List (Int × Int)}{n:Nat}{P:PySem.Fin->Shared->Prop}(ho:s.heap.get? a=some (seqObj "list" vs.toArray n))(hl:vs.length=ps.length)(h64:vs.length < 64)(hok:∀ p ∈ ps,pok p)
    (hp:∀ (i:Nat) (v:Value) (p:Int × Int),vs[i]? = some v->ps[i]? = some p->PairAt (s.heap.update a (Obj.mapSeq λ _=>#[])) v p)
    (h:∀ out:List Value,Ef vs ps out->P (.done (.ret .none)) { s with heap:=sortedHeap s.heap a vs out.toArray }) :
    wpAny (model prog w) A (Builtin.«list.sort» ⟨[.ref a],[]⟩) P E s:=by
  have ha:=Heap.lt_size ho
  have line:vs.length <= sizeLine:=by rw[sizeLine_eq];omega
  obtain⟨e1,ho1⟩:∃ e1,(s.heap.update a (Obj.mapSeq λ _=>#[])).get? a=some (seqObj "list" #[] e1):=⟨_,get?_update_seq ho _⟩
  rw[list_sort_plain]
  refine wpAny_bind (listItems_at ho rfl (wpAny_bind (listUpdate_at ho rfl (wpAny_bind (seqEpoch_at ho1 rfl (wpAny_bind (wpAny_newTuple (wpAny_bind (wpAny_newList (wpAny_holding ?_) (Nat.zero_le _))) line)))) (by rw[List.size_toArray];exact line) (Nat.zero_le _))))
  have grow:∀ b o,(s.heap.update a (Obj.mapSeq λ _=>#[])).get? b=some o->(((s.heap.update a (Obj.mapSeq λ _=>#[])).push (seqObj "tuple" vs.toArray 0)).push (seqObj "list" #[] 0)).get? b=some o:=λ b o e=>Heap.get?_push_of_some _ (Heap.get?_push_of_some _ e)
  have ho6:=grow _ _ ho1
  generalize h6:((s.heap.update a (Obj.mapSeq λ _=>#[])).push (seqObj "tuple" vs.toArray 0)).push (seqObj "list" #[] 0)=hp6 at *
  have done:∀ out:List Value,Ef vs ps out->P (.done (.ret .none)) { s with heap:=hp6.update a (Obj.mapSeq λ _=>out.toArray) }:=λ out z=>by
    have:=h out z
    unfold sortedHeap at this
    rw[h6]at this
    exact this
  show wpAny (model prog w) A _ P E { s with heap:=hp6 }
  dsimp only
  have pairs6:∀ (i:Nat) (v:Value) (p:Int × Int),vs[i]? = some v->ps[i]? = some p->PairAt hp6 v p:=λ i v p x y=>by
    obtain⟨x',o,t,u,k,e,q,c,d⟩:=hp i v p x y
    exact⟨x',o,t,u,k,e,grow _ _ q,c,d⟩
  by_cases h2:vs.toArray.size < 2
  . rw[if_pos h2,if_pos h2]
    refine wpAny_bind (wpAny_pure ?_)
    rw[StateT.run_pure]
    refine wpAny_bind (wpAny_pure ?_)
    dsimp only
    have hout:(arrOf (SortSt.mk' general' (vs.toArray.zip vs.toArray) #[] 7 none)).map (·.2)=vs.toArray:=by
      show(vs.toArray.zip vs.toArray).map (·.2)=vs.toArray
      apply Array.toList_inj.mp
      simp only[Array.toList_map,Array.toList_zip]
      exact List.map_snd_zip (Nat.le_refl _)
    rw[hout]
    refine wpAny_bind (seqEpoch_at ho6 rfl (wpAny_bind (listUpdate_at ho6 rfl ?_ (Nat.zero_le _) (by rw[List.size_toArray];omega))))
    simp only[bne_self_eq_false,Bool.false_eq_true,if_false]
    refine wpAny_pure (done vs ⟨vs.zip ps,.refl _,?_,?_⟩)
    . have hz:(vs.zip ps).length < 2:=by simp at h2 ⊢;omega
      cases hh:vs.zip ps with
      | nil=>exact .nil
      | cons z r=>
        cases r with
        | nil=>exact List.pairwise_singleton _ _
        | cons y t=>rw[hh]at hz;exact absurd hz (by simp)
    . rw[List.map_fst_zip (by omega)]
  . rw[if_neg h2,if_neg h2]
    have h2':2 <= vs.length:=by simp at h2;omega
    obtain⟨fs,t1,t2,t3⟩:=Ip hl pairs6
    have tT:∀ f ∈ fs,Looks (model prog w) hp6 (typeOf f) (Value.type "int"):=λ f hf=>by
      obtain⟨i,t,rfl⟩:=t3 f hf
      exact .of_pure rfl
    refine wpAny_bind (kat_kind (s:={ s with heap:=hp6 }) t1 (by omega) tT rfl ?_)
    have est:SortSt.mk' (tuples' true) (vs.toArray.zip vs.toArray) #[] 7 none=kas_st (tuples' true) (pairsOf vs) (List.toArray (List.range vs.length)):=by
      unfold kas_st
      rw[<- pairsOf_size vs,kas_range]
      rfl
    have ask:(kas_sort vs.length).kasWp (kas_cmp prog w A (tuples' true) (pairsOf vs)) (λ p s'=>s'={ s with heap:=hp6 }/\Ef vs ps (p.toList.map λ i=>vs.getD i Value.none)) { s with heap:=hp6 }:=by
      rw[<- kas_ask_eq]
      refine PWp.wp (n:=vs.length) (r:=λ i=>Bb (ps.getD i (0,0))) (P:=λ s'=>s'={ s with heap:=hp6 }) (λ i j C s' hi hj e hC=>?_) ((Lr (by omega)).mono λ p z s' e=>⟨e,O5 hl z.1 z.2⟩) rfl
      subst e
      have pi:ps[i]? = some (ps.getD i (0,0)):=by simp[show i < ps.length by omega]
      have pj:ps[j]? = some (ps.getD j (0,0)):=by simp[show j < ps.length by omega]
      have vi:vs[i]? = some (vs.getD i Value.none):=by simp[hi]
      have vj:vs[j]? = some (vs.getD j Value.none):=by simp[hj]
      exact MM (s:={ s with heap:=hp6 }) (pairs6 i _ _ vi pi) (pairs6 j _ _ vj pj) (hok _ (List.mem_of_getElem? pi)) (hok _ (List.mem_of_getElem? pj)) (hC _ rfl)
    have run:=kas_runs (E:=E) (Q:=λ _ st' s'=>∃ p:Array Nat,p.size=vs.length/\arrOf st'=p.map (kas_item (pairsOf vs))/\failedOf st'=none/\s'={ s with heap:=hp6 }/\Ef vs ps (p.toList.map λ i=>vs.getD i Value.none)) h2' h64 (λ p st' s' x1 x2 x3 x4=>⟨p,x1,x2,x3,x4⟩) ask
    rw[<- est]at run
    refine wpAny_bind (wpAny_mono run ?_ λ _ _ e=>e)
    rintro⟨⟨⟩,st'⟩ s' ⟨p,hsz,har,hf,rfl,so⟩
    dsimp only
    have hout:(arrOf st').map (·.2)=(p.toList.map λ i=>vs.getD i Value.none).toArray:=by
      rw[har]
      apply Array.toList_inj.mp
      simp only[Array.toList_map,List.map_map]
      exact List.map_congr_left λ i _=>congrArg Prod.snd (kas_item_eq vs i)
    rw[hout]
    refine wpAny_bind (seqEpoch_at ho6 rfl (wpAny_bind (listUpdate_at ho6 rfl ?_ (Nat.zero_le _) (by simp[hsz];omega))))
    rw[hf]
    simp only[bne_self_eq_false,Bool.false_eq_true,if_false]
    exact wpAny_pure (done _ so)
end
end L2
namespace L2
open PySem PySem.Spec PyProof.Rows PySem.W
theorem PairAt.keep{h h':Heap}{v:Value}{p:Int × Int}(k:∀ b o,h.get? b=some o->h'.get? b=some o)(q:PairAt h v p):PairAt h' v p:=by
  obtain⟨x,o,t,u,n,e,ho,c,d⟩:=q
  exact⟨x,o,t,u,n,e,k _ _ ho,c,d⟩
section
variable{prog:Program}{w:World}{A:Around}{E:Value->Shared->Prop}{s:Shared}
theorem KQ{l:Addr}{vs:List Value}{ps:List (Int × Int)}{Q:Value->Shared->Prop}(hl:s.heap.IsList l vs.toArray)(hlen:vs.length=ps.length)(h64:vs.length < 64)(hok:∀ p ∈ ps,pok p)
    (hp:∀ (i:Nat) (v:Value) (p:Int × Int),vs[i]? = some v->ps[i]? = some p->PairAt s.heap v p)
    (h:∀ out:List Value,Ef vs ps out->Q (.ref (s.heap.objs.size + 1)) { s with heap:=sortedAll s.heap vs out.toArray }) :
    wpAny (model prog w) A (call (.builtin "sorted") [.ref l]) Q E s:=by
  have line:vs.length <= sizeLine:=by rw[sizeLine_eq];omega
  refine Calls.call_function_entry kind_sorted plain_sorted entry_sorted (args_sorted1 _) ?_
  unfold Builtin.«sorted»
  refine wpAny_bind (m:=checkCount "sorted" 1 1 _) (wpAny_pure (wpAny_bind (collect_list hl (wpAny_bind (wpAny_newList ?_ line)) line)))
  have sz:((s.heap.push (seqObj "list" #[] 0)).update s.heap.objs.size (Obj.mapSeq (· ++ vs.toArray))).objs.size=s.heap.objs.size + 1:=by rw[Heap.size_update,size_push']
  have at1:(((s.heap.push (seqObj "list" #[] 0)).update s.heap.objs.size (Obj.mapSeq (· ++ vs.toArray))).push (seqObj "list" vs.toArray 0)).get? (s.heap.objs.size + 1)=some (seqObj "list" vs.toArray 0):=by
    have:=Heap.get?_push_size ((s.heap.push (seqObj "list" #[] 0)).update s.heap.objs.size (Obj.mapSeq (· ++ vs.toArray))) (o:=seqObj "list" vs.toArray 0) rfl
    rwa [sz]at this
  have old:∀ b o,s.heap.get? b=some o->((((s.heap.push (seqObj "list" #[] 0)).update s.heap.objs.size (Obj.mapSeq (· ++ vs.toArray))).push (seqObj "list" vs.toArray 0)).update (s.heap.objs.size + 1) (Obj.mapSeq λ _=>#[])).get? b=some o:=λ b o e=>by
    have lt:=Heap.lt_size e
    rw[Heap.get?_update_ne _ _ _ _ (Nat.ne_of_lt (Nat.lt_succ_of_lt lt)),Heap.get?_push_ne _ _ _ (by rw[sz];exact Nat.ne_of_lt (Nat.lt_succ_of_lt lt)),Heap.get?_update_ne _ _ _ _ (Nat.ne_of_lt lt),Heap.get?_push_ne _ _ _ (Nat.ne_of_lt lt)]
    exact e
  show wpAny _ _ _ _ _ { s with heap:=((s.heap.push (seqObj "list" #[] 0)).update s.heap.objs.size (Obj.mapSeq (· ++ vs.toArray))).push (seqObj "list" vs.toArray 0) }
  rw[sz]
  refine wpAny_bind (wpAny_holding (wpAny_call_entry slot_list_sort ⟨_,at1,rfl⟩ entry_list_sort (Mz at1 hlen h64 hok (λ i v p a b=>(hp i v p a b).keep old) λ out z=>⟨_,rfl,?_⟩) (args_list_sort _)))
  exact wpAny_pure ⟨_,rfl,h out z⟩
end
section
variable(K:PySem.W.Frag){X:Cx}
noncomputable def HY:List V->Hp->VK->Prop:=λ xs H Q=>∃ (a:Addr) (us:List V) (ps:List (Int × Int)),xs=[.ref a]/\SqL K H a us/\us.length=ps.length/\us.length < 64/\(∀ q ∈ ps,pok q) /\
  (∀ (i:Nat) (u:V) (q:Int × Int),us[i]? = some u->ps[i]? = some q->∃ x,u=.ref x/\SqT K H x [.int q.1,.int q.2]) /\
  ∀ (p:Addr) (zs:List (V × (Int × Int))),H p=none->zs.Perm (us.zip ps)->(zs.map λ z=>Bb z.2).Pairwise (· <= ·)->Q (.ref p) (upd H p (.lst (zs.map (·.1))))
noncomputable def Fc:Value->V
  | .ref x=>.ref x
  | _=>.non
theorem HP:∀ {us:List V} {its:List Value} {i:Nat} {u:V},Vals us its->us[i]? = some u->∃ v,its[i]? = some v/\RelV u v
  | _,_,_,_,.nil,h=>by simp at h
  | _ :: _,_ :: _,0,_,.cons r _,h=>by
    simp at h;subst h;exact⟨_,rfl,r⟩
  | _ :: _,_ :: _,i + 1,_,.cons _ t,h=>HP (i:=i) t (by simpa using h)
theorem LQ(hK:X.K=K:=by rfl):CallR X (.builtin "sorted") (HY K):=by
  subst hK
  intro pins s σ H xs us0 Q I r h
  obtain⟨a,us,ps,rfl,hq,hlen,h64,hok,hpr,q⟩:=h
  obtain⟨u,rfl,ru⟩:=CK r
  cases ru
  obtain⟨its,rv,p,hz⟩:=I.list hq
  have hl2:us.length=its.length:=rv.length
  have point:∀ (i:Nat) (v:Value) (q:Int × Int),its[i]? = some v->ps[i]? = some q->(∃ x,us[i]? = some (.ref x)/\v=.ref x)/\PairAt s.heap v q:=by
    intro i v q e1 e2
    have hi:i < us.length:=by rw[hl2];exact(List.getElem?_eq_some_iff.mp e1).1
    have eu:us[i]? = some us[i]:=by simp[hi]
    obtain⟨x,ex,sq⟩:=hpr i _ q eu e2
    obtain⟨v',ev,rel⟩:=HP rv eu
    rw[e1]at ev
    cases ev
    rw[ex]at rel eu
    have rel:v=Value.ref x:=rel
    subst rel
    refine⟨⟨x,eu,rfl⟩,?_⟩
    obtain⟨jts,rj,⟨o,ho,hc,n,hd⟩,_⟩:=I.tuple sq
    cases rj with
    | cons r1 t1=>
      cases t1 with
      | cons r2 t2=>
        cases t2
        obtain⟨t,rfl⟩:=r1
        obtain⟨t',rfl⟩:=r2
        exact⟨x,o,t,t',n,rfl,ho,hc,hd⟩
  refine KQ (ps:=ps) p.isList (by omega) (by omega) hok (λ i v q a b=>(point i v q a b).2) λ out z=>?_
  obtain⟨zs,pm,pw,rfl⟩:=z
  obtain⟨e,he⟩:=sortedAll_at s.heap its (zs.map (·.1)).toArray
  have mz:∀ z ∈ zs,∃ x,z.1=.ref x:=λ z hz=>by
    have:=pm.mem_iff.mp hz
    obtain⟨i,hi⟩:=List.mem_iff_getElem?.mp this
    obtain⟨e1,e2⟩:=List.getElem?_zip_eq_some.mp hi
    obtain⟨⟨x,_,ex⟩,_⟩:=point i _ _ e1 e2
    exact⟨x,ex⟩
  have vz:∀ {zs:List (Value × (Int × Int))},(∀ z ∈ zs,∃ x,z.1=.ref x)->Vals (zs.map λ z=>Fc z.1) (zs.map (·.1)):=by
    intro zs
    induction zs with
    | nil=>intro _;exact .nil
    | cons z r ih=>
      intro h
      obtain⟨x,ex⟩:=h z List.mem_cons_self
      refine .cons ?_ (ih λ y hy=>h y (List.mem_cons_of_mem _ hy))
      show RelV (Fc z.1) z.1
      rw[ex];rfl
  have pm2:(zs.map λ z=>(Fc z.1,z.2)).Perm (us.zip ps):=by
    have:=pm.map λ z:Value × (Int × Int)=>(Fc z.1,z.2)
    have e:((its.zip ps).map λ z:Value × (Int × Int)=>(Fc z.1,z.2))=us.zip ps:=by
      refine List.ext_getElem? λ i=>?_
      by_cases hi:i < us.length
      . have h1:i < its.length:=by omega
        have h2:i < ps.length:=by omega
        have e1:its[i]? = some its[i]:=by simp[h1]
        have e2:ps[i]? = some ps[i]:=by simp[h2]
        obtain⟨⟨x,ex,ev⟩,_⟩:=point i _ _ e1 e2
        rw[List.getElem?_map,(List.getElem?_zip_eq_some (z:=(its[i],ps[i]))).mpr ⟨e1,e2⟩,(List.getElem?_zip_eq_some (z:=(V.ref x,ps[i]))).mpr ⟨ex,e2⟩,Option.map_some,ev]
        rfl
      . rw[List.getElem?_eq_none (by simp;omega),List.getElem?_eq_none (by simp;omega)]
    rwa [e]at this
  have pw2:((zs.map λ z=>(Fc z.1,z.2)).map λ z:V × (Int × Int)=>Bb z.2).Pairwise (· <= ·):=by rw[List.map_map];exact pw
  have fin:=q (s.heap.objs.size + 1) _ (I.hok.fresh (Nat.le_succ _)) pm2 pw2
  have em:(zs.map λ z=>(Fc z.1,z.2)).map (·.1)=zs.map λ z=>Fc z.1:=by rw[List.map_map];rfl
  rw[em]at fin
  have zl:zs.length < 64:=by rw[pm.length_eq];simp;omega
  refine⟨.ref (s.heap.objs.size + 1),_,I.laid (a:=s.heap.objs.size + 1) (o:=.lst (zs.map λ z=>Fc z.1)) (t':=s.toks) (λ b o hb=>sortedAll_old hb) (Nat.le_succ _) ⟨?_,_,e,vz mz,he⟩,rfl,fin⟩
  rw[List.length_map]
  exact Nat.le_of_lt (JO (by omega))
end
noncomputable def B1(p:Int × Int):D:=.im (.tup [.int p.1,.int p.2])
noncomputable def DL:List D->Option (List (Int × Int))
  | []=>some []
  | .im (.tup [.int a,.int b]) :: r=>(DL r).map ((a,b) :: ·)
  | _=>none
theorem GP:∀ {ds:List D} {ps:List (Int × Int)},DL ds=some ps->ds=ps.map B1:=by
  intro ds
  induction ds with
  | nil=>intro ps h;simp[DL]at h;subst h;rfl
  | cons d r ih=>
    intro ps h
    unfold DL at h
    split at h
    . next e=>cases e
    . next a b r' e=>
      cases e
      obtain⟨qs,e1,rfl⟩:=Option.map_eq_some_iff.mp h
      rw[ih e1]
      rfl
    . cases h
@[simp] theorem NH(ps:List (Int × Int)):DL (ps.map B1)=some ps:=by
  induction ps with
  | nil=>rfl
  | cons p r ih=>simp[DL,B1]at ih ⊢;exact ih
noncomputable def C5(ps:List (Int × Int)):List (Int × Int):=ps.mergeSort λ a b=>decide (Bb a <= Bb b)
theorem Fa(ps:List (Int × Int)):(C5 ps).Perm ps:=List.mergeSort_perm ..
theorem GE(ps:List (Int × Int)):(C5 ps).Pairwise λ a b=>Bb a <= Bb b:=by
  have:=List.pairwise_mergeSort (le:=λ a b:Int × Int=>decide (Bb a <= Bb b)) (by intro a b c h1 h2;simp at *;omega) (by intro a b;simp;omega) ps
  exact this.imp (by simp)
theorem QV{p q:Int × Int}(a:pok p)(b:pok q)(h:Bb p=Bb q):p=q:=by
  unfold pok at a b
  unfold Bb at h
  exact Prod.ext (by omega) (by omega)
open Classical in
noncomputable def El(m:MI):MA:=λ ls hd=>(m ls hd).bind λ p=>(DL p.1.1).bind λ ps=>if ps.length < 64/\∀ q ∈ ps,pok q then some ((C5 ps).map B1,p.2)else none
section
variable{K:PySem.W.Frag}{ρ:List Addr}{H:Hp}{hd:Hd}
theorem M3{p:Int × Int}{v:V}(h:RD K ρ H (B1 p) v):∃ x,v=.ref x/\SqT K H x [.int p.1,.int p.2]:=by
  simp only[B1,RD,RI,RIs]at h
  obtain⟨a,xs,rfl,q,x,r,rfl,rfl,y,r2,rfl,rfl,rfl⟩:=h
  exact⟨a,rfl,q⟩
theorem N3{t:TE}{m:MI}(h:RRw K false t m):RN K (tCB (HY K) (Bs t Cn)) (El m):=by
  intro ρ σ H hd ls Q d hd' hR hL hm hQ
  obtain⟨⟨⟨d1,g1⟩,h1⟩,e1,hm⟩:=Option.bind_eq_some_iff.mp hm
  obtain⟨ps,e2,hm⟩:=Option.bind_eq_some_iff.mp hm
  split at hm
  . next c=>
    cases hm
    refine h ρ σ H hd ls _ d1 g1 _ hR hL e1 λ ρ1 H1 a x1 R1 G1 S1=>?_
    obtain⟨xs,q,r⟩:=S1 ρ1 H1 _ .refl R1 G1
    have e2:DL d1=some ps:=e2
    rw[GP e2]at r
    have hl:xs.length=ps.length:=by simpa using r.len
    have each:∀ (i:Nat) (u:V) (q:Int × Int),xs[i]? = some u->ps[i]? = some q->RD K ρ1 H1 (B1 q) u:=λ i u q a b=>by
      obtain⟨x,e,z⟩:=r.get (i:=i) (d:=B1 q) (by simp[b])
      rw[a]at e;cases e;exact z
    refine⟨a,xs,ps,rfl,q,hl,by rw[hl];exact c.1,c.2,λ i u q a b=>M3 (each i u q a b),λ p zs hp pm pw=>?_⟩
    have es:zs.map (·.2)=C5 ps:=by
      have pp:(zs.map (·.2)).Perm ps:=by
        have:=pm.map (λ z:V × (Int × Int)=>z.2)
        rwa [List.map_snd_zip (by omega)]at this
      refine(pp.trans (Fa ps).symm).eq_of_pairwise (le:=λ a b=>Bb a <= Bb b) (λ x y hx hy l1 l2=>QV (c.2 _ (pp.mem_iff.mp hx)) (c.2 _ ((Fa ps).mem_iff.mp hy)) (Int.le_antisymm l1 l2)) ?_ (GE ps)
      rw[List.pairwise_map]at pw ⊢
      exact pw
    obtain⟨R2,x2⟩:=R1.hid (ho:=.lst (zs.map (·.1))) hp
    have all:∀ z ∈ zs,RD K ρ1 H1 (B1 z.2) z.1:=λ z hz=>by
      obtain⟨i,hi⟩:=List.mem_iff_getElem?.mp (pm.mem_iff.mp hz)
      obtain⟨a1,a2⟩:=List.getElem?_zip_eq_some.mp hi
      exact each i _ _ a1 a2
    have rd:∀ {zs:List (V × (Int × Int))},(∀ z ∈ zs,RD K ρ1 H1 (B1 z.2) z.1)->RDs K ρ1 H1 ((zs.map (·.2)).map B1) (zs.map (·.1)):=by
      intro zs
      induction zs with
      | nil=>intro _;exact .nil
      | cons z r ih=>intro h;exact .cons (h z List.mem_cons_self) (ih λ y hy=>h y (List.mem_cons_of_mem _ hy))
    have rz:=rd all
    rw[es]at rz
    exact hQ ρ1 _ p _ (x1.trans R1 x2) R2 (x1.none hR hp R1) (R1.out hp) AT (rz.ext R1 x2)
  . cases hm
open Classical in
noncomputable def GZ:D->List D->Hd->Option (D × Hd)
  | .mu n,[.im (.int i)],hd=>match hd[n]? with
    | some (.lst ds)=>if Ej i then(ixN ds.length i).bind λ k=>(ds[k]?).map λ y=>(y,hd.set n (.lst (ds.eraseIdx k)))else none
    | _=>none
  | _,_,_=>none
theorem RDs.erase:∀ {ds:List D} {xs:List V} (k:Nat),RDs K ρ H ds xs->RDs K ρ H (ds.eraseIdx k) (xs.eraseIdx k)
  | [],_,_,h=>by simp only[RDs]at h;subst h;simp[RDs]
  | d :: ds,_,0,h=>by simp only[RDs]at h;obtain⟨x,r,rfl,_,t⟩:=h;simpa using t
  | d :: ds,_,k + 1,h=>by
    simp only[RDs]at h
    obtain⟨x,r,rfl,a,t⟩:=h
    simpa using RDs.cons a (RDs.erase k t)
end
end L2
namespace L2
open PySem PySem.Spec PyProof.Rows PySem.W
theorem Q3{K:PySem.W.Frag}:RM K OE GZ:=by
  intro ρ H hd d v ds vs Q z hd' hR h1 h2 hf hQ
  unfold GZ at hf
  split at hf
  . split at hf
    . next q=>
      split at hf
      . next c=>
        obtain⟨k,e0,hf⟩:=Option.bind_eq_some_iff.mp hf
        obtain⟨y,e1,e3⟩:=Option.map_eq_some_iff.mp hf
        cases e3
        simp only[RD]at h1
        obtain⟨a,hn,rfl⟩:=h1
        simp only[RDs,RD,RI]at h2
        obtain⟨x,r,rfl,rfl,rfl⟩:=h2
        obtain⟨xs,f1,f2⟩:=hR.lst hn q
        obtain⟨x,x1,x3⟩:=f2.get e1
        obtain⟨R2,x2⟩:=hR.put hn (o:=.lst _) (ho:=.lst (xs.eraseIdx k)) ⟨_,rfl,f2.erase k⟩
        obtain⟨s1,s2,s3,s4⟩:=JC e0
        have sz:=f2.len
        unfold Ej at c
        exact⟨a,xs,_,k,x,rfl,rfl,f1,by omega,by omega,by rw[sz];exact s1,x1,hQ ρ _ _ x2 R2 (x3.ext hR x2)⟩
      . cases hf
    . cases hf
  . cases hf
section
variable(K:PySem.W.Frag){X:Cx}{e:Expr}{te:TE}{p pos:Pos}
theorem ND{mi:MI}(hm:X.mg "sorted"=none)(ha:QR K false X e te mi)(hg:Gl X "sorted":=by rfl)(he:starEach [e] X.env=[(false,eval e X.env)]:=by rfl)(hK:X.K=K:=by rfl):QN K X (.Call (.Name "sorted" p) [e] [] pos) (tCB (HY K) (Bs te Cn)) (El mi):=
  ⟨Fi (LQ K hK) hg hm Gh (Ch ha.p Dr he) (by decide) (by decide) he rfl,N3 ha.r⟩
end
section
variable{ls:Ls}{hd:Hd}
open Classical in
@[simp] theorem Qv(k:Nat)(i:Int):GZ (.mu k) [.im (.int i)] hd=match hd[k]? with
    | some (.lst ds)=>if Ej i then(ixN ds.length i).bind λ j=>(ds[j]?).map λ y=>(y,hd.set k (.lst (ds.eraseIdx j)))else none
    | _=>none:=rfl
open Classical in
@[simp] theorem Nd(mi:MI):El mi ls hd=(mi ls hd).bind λ p=>(DL p.1.1).bind λ ps=>if ps.length < 64/\∀ q ∈ ps,pok q then some ((C5 ps).map B1,p.2)else none:=rfl
end
end L2
namespace L2
open PySem PySem.Spec PyProof.Rows PySem.W
section
variable{m:ME}{ls:Ls}{hd hd':Hd}
end
end L2
namespace L2
open PySem PySem.Spec PyProof.Rows PySem.W
noncomputable def OS(p:Int × Int):I:=.tup [.int p.1,.int p.2]
end L2
namespace L2
open PySem PySem.Spec PyProof.Rows
section
variable{prog:Program}{w:World}{A:Around}{R:Result->Shared->Prop}{s:Shared}
end
section
variable{X:Cx}
end
end L2
namespace L2
open PySem PySem.Spec PyProof.Rows
section
variable{K:PySem.W.Frag}{ρ ρ':List Addr}{H H':Hp}{hd hd':Hd}
variable(K:PySem.W.Frag){X:Cx}
variable{a b:Expr}{ta tb:TE}{ma mb:ME}{pos:Pos}
end
end L2
namespace L2
open PySem PySem.Spec PyProof.Rows
noncomputable def WP{α:Type}(o:Option (α × Hd))(Q:α->Hd->Prop):Prop:=∃ z h,o=some (z,h)/\Q z h
noncomputable abbrev WS(m:MS)(ls:Ls)(hd:Hd)(Q:Fl->Hd->Prop):Prop:=WP (m ls hd) Q
noncomputable abbrev WE(m:ME)(ls:Ls)(hd:Hd)(Q:D->Hd->Prop):Prop:=WP (m ls hd) Q
noncomputable abbrev WT(m:MT)(ls:Ls)(hd:Hd)(Q:Bool->Hd->Prop):Prop:=WP (m ls hd) Q
noncomputable abbrev WA(m:MA)(ls:Ls)(hd:Hd)(Q:List D->Hd->Prop):Prop:=WP (m ls hd) Q
noncomputable abbrev WI(m:MI)(ls:Ls)(hd:Hd)(Q:List D × Gd->Hd->Prop):Prop:=WP (m ls hd) Q
noncomputable abbrev WF(F:List D->Hd->Option (D × Hd))(ds:List D)(hd:Hd)(Q:D->Hd->Prop):Prop:=WP (F ds hd) Q
section
variable{α β:Type}{o:Option (α × Hd)}{Q:α->Hd->Prop}{R:β->Hd->Prop}{ls:Ls}{hd:Hd}{d e:D}
theorem WP.some{z:α}{h:Hd}(q:Q z h):WP (some (z,h)) Q:=⟨z,h,rfl,q⟩
theorem WP.mono{Q':α->Hd->Prop}(h:WP o Q)(k:∀ z h,Q z h->Q' z h):WP o Q':=let ⟨z,x,e,q⟩:=h;⟨z,x,e,k z x q⟩
theorem WP.bind{f:α × Hd->Option (β × Hd)}(h:WP o λ z x=>WP (f (z,x)) R):WP (o.bind f) R:=by
  obtain⟨z,x,e,q⟩:=h
  rw[e];exact q
theorem WP.eq{z:α}{h:Hd}(e:o=Option.some (z,h))(q:Q z h):WP o Q:=⟨z,h,e,q⟩
end
section
variable{ls:Ls}{hd:Hd}{a b:MS}{ma mb mc:ME}{ta tb:MT}{m m1 m2:MA}{n:MG}{ns:MGs}{mi:MI}{d e:D}{i j:Nat}{QS:Fl->Hd->Prop}{QE:D->Hd->Prop}{QT:Bool->Hd->Prop}{QA:List D->Hd->Prop}{QO:Option Int->Hd->Prop}{QI:List D × Gd->Hd->Prop}
noncomputable def RX(b:MS)(Q:Fl->Hd->Prop):Fl->Hd->Prop
  | .nx l,h=>WS b l h Q
  | f,h=>Q f h
theorem AH(h:WS a ls hd (RX b QS)):WS (A8 a b) ls hd QS:=by
  obtain⟨f,x,e,q⟩:=h
  show WP (A8 a b ls hd) QS
  rw[Cv,e]
  cases f <;> first|exact q|exact⟨_,_,rfl,q⟩
theorem AE{l:Ls}{h:Hd}(q:WS b l h QS):RX b QS (.nx l) h:=q
theorem Al(h:QS (.nx ls) hd):WS Ag ls hd QS:=⟨_,_,rfl,h⟩
theorem BN(h:WE ma ls hd λ d x=>QS (.rt d) x):WS (AY ma) ls hd QS:=WP.bind (h.mono λ _ _ q=>WP.some q)
theorem Ay(h:WE ma ls hd λ d x=>QS (.nx (ls.set i (some d))) x):WS (AK i ma) ls hd QS:=by
  obtain⟨d,x,e,q⟩:=h
  exact⟨_,_,by simp only[Cf,e,Option.bind_some,Ee,Option.map_some],q⟩
theorem Tt(h:WE ma ls hd λ d x=>∃ l,n d ls x=some l/\QS (.nx l) x):WS (Fs ma n) ls hd QS:=by
  obtain⟨d,x,e,l,e2,q⟩:=h
  exact⟨_,_,by simp only[Cf,e,Option.bind_some,e2,Option.map_some],q⟩
theorem Im(h:WE ma ls hd λ _ x=>QS (.nx ls) x):WS (Bo ma) ls hd QS:=WP.bind (h.mono λ _ _ q=>WP.some q)
theorem VX(h:WT ta ls hd λ c x=>if c=true then WS a ls x QS else WS b ls x QS):WS (Au ta a b) ls hd QS:=by
  refine WP.bind (h.mono λ c x q=>?_)
  dsimp only
  cases c <;> simpa using q
theorem Ae(h:WT ta ls hd λ c x=>(c=true->WS a ls x QS)/\(c=false->WS b ls x QS)):WS (Au ta a b) ls hd QS:=
  VX (h.mono λ c x q=>by cases c <;> simp_all)
noncomputable def WL(n:MG)(b:MS)(g:Gd)(ds:List D)(ls:Ls)(hd:Hd)(Q:Fl->Hd->Prop):Prop:=WP (BL n b g ds ls hd) Q
theorem EE(h:WI mi ls hd λ p x=>WL n b p.2 p.1 ls x QS):WS (BW mi n b) ls hd QS:=WP.bind (h.mono λ _ _ q=>q)
noncomputable def Vc(g:Gd)(P:Ls->Hd->Prop)(Q:Fl->Hd->Prop):Fl->Hd->Prop
  | .nx l,h=>GOk h g/\P l h
  | .ct l,h=>GOk h g/\P l h
  | .bk l,h=>Q (.nx l) h
  | .rt d,h=>Q (.rt d) h
theorem DI{g:Gd}(P:List D->Ls->Hd->Prop):∀ {ds:List D} {ls:Ls} {hd:Hd},P ds ls hd ->
    (∀ d r ls hd,P (d :: r) ls hd->∃ ls1,n d ls hd=some ls1/\WS b ls1 hd (Vc g (P r) QS))->(∀ ls hd,P [] ls hd->QS (.nx ls) hd)->WL n b g ds ls hd QS
  | [],ls,hd,h,_,z=>⟨_,_,by unfold BL;rfl,z _ _ h⟩
  | d :: r,ls,hd,h,k,z=>by
    obtain⟨ls1,e1,f,x,e2,q⟩:=k d r ls hd h
    unfold WL
    unfold BL
    rw[e1,Option.bind_some,e2,Option.bind_some]
    cases f with
    | nx l=>exact(show GOk x g/\P r l x from q).1 |> λ g1=>by dsimp only;rw[if_pos g1];exact DI P q.2 k z
    | ct l=>exact(show GOk x g/\P r l x from q).1 |> λ g1=>by dsimp only;rw[if_pos g1];exact DI P q.2 k z
    | bk l=>exact⟨_,_,rfl,q⟩
    | rt l=>exact⟨_,_,rfl,q⟩
theorem A3(h:ls[i]? = some (some d))(q:QE d hd):WE (A0 i) ls hd QE:=⟨d,hd,by rw[Cu,h],q⟩
theorem AL{i:I}(q:QE (.im i) hd):WE (mC i) ls hd QE:=⟨_,_,rfl,q⟩
theorem AB{f:D->D->Hd->Option (D × Hd)}(h:WE ma ls hd λ d x=>WE mb ls x λ e y=>WP (f d e y) QE):WE (mOp f ma mb) ls hd QE:=WP.bind (h.mono λ _ _ q=>WP.bind (q.mono λ _ _ q=>q))
theorem Va(h:WT ta ls hd λ c x=>if c=true then WE ma ls x QE else WE mb ls x QE):WE (mIf ta ma mb) ls hd QE:=by
  refine WP.bind (h.mono λ c x q=>?_)
  dsimp only
  cases c <;> simpa using q
theorem Hs(h:WT ta ls hd λ c x=>(c=true->WE ma ls x QE)/\(c=false->WE mb ls x QE)):WE (mIf ta ma mb) ls hd QE:=
  Va (h.mono λ c x q=>by cases c <;> simp_all)
theorem FF(h:WA m ls hd λ ds x=>Ck ds.length/\QE (Ao ds) x):WE (BQ m) ls hd QE:=WP.bind (h.mono λ ds x q=>by dsimp only;rw[if_pos q.1];exact WP.some q.2)
theorem FG(h:WA m ls hd λ ds x=>QE (.mu x.length) (x ++ [.lst ds])):WE (BV m) ls hd QE:=WP.bind (h.mono λ _ _ q=>WP.some q)
theorem Dm{g:List D->Option D}(h:WA m ls hd λ ds x=>∃ d,g ds=some d/\QE d x):WE (CU g m) ls hd QE:=by
  obtain⟨ds,x,e,d,e2,q⟩:=h
  exact⟨d,x,by simp only[LG,e,Option.bind_some,e2,Option.map_some],q⟩
theorem Bm{f:List D->Hd->Option (D × Hd)}(h:WA m ls hd λ ds x=>WP (f ds x) QE):WE (mCB f m) ls hd QE:=WP.bind (h.mono λ _ _ q=>q)
theorem Ml{f:D->List D->Hd->Option (D × Hd)}(h:WE ma ls hd λ d x=>(∃ l,BM x d=some l)/\WA m ls x λ ds y=>WP (f d ds y) QE):WE (mMt f ma m) ls hd QE:=by
  obtain⟨d,x,e,⟨l,hl⟩,q⟩:=h
  unfold WE
  rw[Nf,e,Option.bind_some]
  dsimp only
  rw[hl]
  exact WP.bind (q.mono λ _ _ q=>q)
theorem KC{F:List D->Hd->Option (D × Hd)}(h:WA m ls hd λ ds x=>WF F ds x QE):WE (FM F m) ls hd QE:=WP.bind (h.mono λ _ _ q=>q)
theorem Nx(h:WE ma ls hd λ d x=>∃ i,d=.im (.int i)/\QE (.im (.int (-i))) x):WE (J9 ma) ls hd QE:=by
  obtain⟨d,x,e,i,rfl,q⟩:=h
  exact⟨_,x,by simp only[VL,e,Option.bind_some],q⟩
theorem Lo(h:WT (AQ ma) ls hd λ c x=>if c=true then WE mb ls x QE else QE (.im (.bl false)) x):WE (Gv ma mb) ls hd QE:=by
  refine WP.bind (h.mono λ c x q=>?_)
  dsimp only
  cases c
  . exact WP.some (by simpa using q)
  . simpa using q
theorem Rz(h:WT (AQ ma) ls hd λ c x=>QE (.im (.bl (!c))) x):WE (IS ma) ls hd QE:=WP.bind (h.mono λ _ _ q=>WP.some q)
theorem AN(h:WE ma ls hd λ d x=>∃ b,d=.im (.bl b)/\QT b x):WT (AQ ma) ls hd QT:=by
  obtain⟨d,x,e,b,rfl,q⟩:=h
  exact⟨b,x,by simp only[JF,e,Option.bind_some],q⟩
theorem FD(h:WE ma ls hd λ d x=>∃ b,Dn x d=some b/\QT b x):WT (Dv ma) ls hd QT:=by
  obtain⟨d,x,e,b,e2,q⟩:=h
  exact⟨b,x,by simp only[Op,e,Option.bind_some,e2,Option.map_some],q⟩
theorem G9(h:WT ta ls hd λ c x=>QT (!c) x):WT (Fr ta) ls hd QT:=WP.bind (h.mono λ _ _ q=>WP.some q)
theorem Hn(h:WT ta ls hd λ c x=>if c=true then WT tb ls x QT else QT false x):WT (GW ta tb) ls hd QT:=by
  refine WP.bind (h.mono λ c x q=>?_)
  dsimp only
  cases c
  . exact WP.some (by simpa using q)
  . simpa using q
theorem Hm(h:WT ta ls hd λ c x=>if c=true then QT true x else WT tb ls x QT):WT (mOr ta tb) ls hd QT:=by
  refine WP.bind (h.mono λ c x q=>?_)
  dsimp only
  cases c
  . simpa using q
  . exact WP.some (by simpa using q)
theorem ED(h:QT true hd):WT CT ls hd QT:=⟨_,_,rfl,h⟩
theorem AJ(h:QA [] hd):WA A4 ls hd QA:=⟨_,_,rfl,h⟩
theorem A9(h:WE ma ls hd λ d x=>WA m ls x λ ds y=>QA (d :: ds) y):WA (A1 ma m) ls hd QA:=WP.bind (h.mono λ _ _ q=>WP.bind (q.mono λ _ _ q=>WP.some q))
theorem KF(h:WA m ls hd λ ds x=>Ck ds.length/\QA ds x):WA (BE m) ls hd QA:=WP.bind (h.mono λ ds x q=>by dsimp only;rw[if_pos q.1];exact WP.some q.2)
theorem S3{k:Int}(e:m ls hd=some ([.im (.int k)],hd))(hk:IB k)(q:QA (Ac 0 k.toNat) hd):WA (Fp m) ls hd QA:=⟨_,_,by simp only[Oq,e,Option.bind_some,hk,if_true],q⟩
theorem HM(h:WA m ls hd λ ds x=>∃ k,ds=[.im (.int k)]/\Ej k/\QI (Ac 0 k.toNat,[]) x):WI (Ca m) ls hd QI:=by
  obtain⟨ds,x,e,k,rfl,c,q⟩:=h
  exact⟨_,x,by simp only[Ou,e,Option.bind_some,c,if_true],q⟩
theorem VZ(h:WA m ls hd λ ds x=>∃ j k,ds=[.im (.int j),.im (.int k)]/\Kc j k/\QI (Ac j (k - j).toNat,[]) x):WI (Dw m) ls hd QI:=by
  obtain⟨ds,x,e,j,k,rfl,c,q⟩:=h
  exact⟨_,x,by simp only[MU,e,Option.bind_some,c,if_true],q⟩
theorem FW(h:WE ma ls hd λ d x=>∃ ds,At d=some ds/\QI (ds,[]) x):WI (Bg ma) ls hd QI:=by
  obtain⟨d,x,e,ds,e2,q⟩:=h
  exact⟨_,x,by simp only[Ic,e,Option.bind_some,e2,Option.map_some],q⟩
theorem PP(h:WE ma ls hd λ d x=>∃ k ds,d=.mu k/\x[k]? = some (.lst ds)/\QI (ds,[(k,ds)]) x):WI (Em ma) ls hd QI:=by
  obtain⟨d,x,e,k,ds,rfl,e2,q⟩:=h
  exact⟨_,x,by simp only[Ov,e,Option.bind_some,e2],q⟩
theorem CM{k:Nat}{ix:List Nat}(h:WI mi ls hd λ p x=>Ck p.1.length/\WP (B2 n ta ma p.2 p.1 (EC k ix ls) x) QA):WA (Bc k ix mi n ta ma) ls hd QA:=WP.bind (h.mono λ p x q=>by dsimp only;rw[if_pos q.1];exact q.2)
theorem KD{g:Gd}(P:List D->List D->Ls->Hd->Prop):∀ {ds es:List D} {ls:Ls} {hd:Hd},P ds es ls hd ->
    (∀ d r es ls hd,P (d :: r) es ls hd->∃ ls1,n d ls hd=some ls1/\WT ta ls1 hd λ c x=>if c=true then WE ma ls1 x λ z y=>GOk y g/\P r (es ++ [z]) ls1 y else GOk x g/\P r es ls1 x) ->
    WP (B2 n ta ma g ds ls hd) λ zs x=>∃ ls',P [] (es ++ zs) ls' x
  | [],es,ls,hd,h,k=>⟨_,_,by unfold B2;rfl,ls,by simpa using h⟩
  | d :: r,es,ls,hd,h,k=>by
    obtain⟨ls1,e1,c,x,e2,q⟩:=k d r es ls hd h
    unfold B2
    rw[e1,Option.bind_some,e2,Option.bind_some]
    cases c with
    | true=>
      rw[if_pos rfl]at q ⊢
      obtain⟨z,y,e3,g3,p3⟩:=q
      obtain⟨zs,y2,e4,ls',p4⟩:=KD P p3 k
      rw[e3,Option.bind_some]
      dsimp only
      rw[if_pos g3,e4]
      exact⟨z :: zs,y2,rfl,ls',by simpa using p4⟩
    | false=>
      rw[if_neg Bool.false_ne_true]at q ⊢
      dsimp only
      rw[if_pos q.1]
      exact KD P q.2 k
theorem Dk{i j:Int}(q:QE (.im (.int (i + j))) hd):WP (Aa (.im (.int i)) (.im (.int j)) hd) QE:=⟨_,_,by simp,q⟩
theorem FE{i j:Int}(q:QE (.im (.int (i - j))) hd):WP (CL (.im (.int i)) (.im (.int j)) hd) QE:=⟨_,_,by simp,q⟩
theorem Nv{i j:Int}(c:Dt i j)(q:QE (.im (.int (i * j))) hd):WP (CV (.im (.int i)) (.im (.int j)) hd) QE:=⟨_,_,by simp[c],q⟩
theorem RW{i j:Int}(q:QE (.im (.bl (decide (i < j)))) hd):WP (gLt (.im (.int i)) (.im (.int j)) hd) QE:=⟨_,_,by simp,q⟩
theorem VY{i j:Int}(q:QE (.im (.bl (decide (i <= j)))) hd):WP (gLe (.im (.int i)) (.im (.int j)) hd) QE:=⟨_,_,by simp,q⟩
theorem Ho{i j:Int}(q:QE (.im (.bl (decide (j < i)))) hd):WP (gGt (.im (.int i)) (.im (.int j)) hd) QE:=⟨_,_,by simp,q⟩
theorem Hq{i j:Int}(q:QE (.im (.bl (decide (i=j)))) hd):WP (gEq (.im (.int i)) (.im (.int j)) hd) QE:=⟨_,_,by simp,q⟩
theorem B9{i j:Str}(q:QE (.im (.bl (decide (i=j)))) hd):WP (gEq (.im (.str i)) (.im (.str j)) hd) QE:=⟨_,_,by simp,q⟩
theorem GA{i j:Str}(q:QE (.im (.bl (!decide (i=j)))) hd):WP (gNe (.im (.str i)) (.im (.str j)) hd) QE:=⟨_,_,by simp,q⟩
theorem Ab{i:Int}{ds:List D}(e1:BI hd d=some ds)(e2:atI ds i=some e)(q:QE e hd):WP (gIx d (.im (.int i)) hd) QE:=⟨_,_,by rw[Ng,e1,Option.bind_some,e2];rfl,q⟩
theorem Rv{k:Key}{kvs:List (Key × D)}{z:D}(e1:E5 hd d=some kvs)(e2:DZ e=some k)(e3:BK kvs k=some z)(q:QE z hd):WP (Bv d e hd) QE:=⟨_,_,by rw[Tj,e1,Option.bind_some,e2,Option.bind_some,e3];rfl,q⟩
theorem Gk{tp:Bool}{g:List D->Option D}{ds:List D}{z:D}(e1:(if tp then BI hd d else BM hd d)=some ds)(e2:g ds=some z)(q:QE z hd):WP (f1 tp g [d] hd) QE:=⟨_,_,by rw[WG,e1,Option.bind_some,e2];rfl,q⟩
theorem KA{k:Nat}{x:D}{ds:List D}(e1:hd[k]? = some (.lst ds))(c:DG ds.length)(q:QE (.im .non) (hd.set k (.lst (ds ++ [x])))):WP (B8 (.mu k) [x] hd) QE:=⟨_,_,by rw[LI,e1];simp only[c,if_true],q⟩
theorem Rt{k:Key}{w:Nat}(h:WE mc ls hd λ p x=>WE ma ls x λ q y=>WE mb ls y λ r z=>∃ w k kvs,q=.mu w/\DZ r=some k/\z[w]? = some (.dic kvs)/\DG kvs.length/\QS (.nx ls) (z.set w (.dic (CS kvs k p)))):WS (DE ma mb mc) ls hd QS:=by
  obtain⟨p,x,e1,q,y,e2,r,z,e3,w,k,kvs,rfl,e4,e5,c,qq⟩:=h
  exact⟨_,_,by simp only[Ti,e1,Option.bind_some,e2,e3,e4,e5,c,if_true],qq⟩
theorem Rs(h:WE mc ls hd λ p x=>WE ma ls x λ q y=>WE mb ls y λ r z=>∃ w i j ds,q=.mu w/\r=.im (.int i)/\z[w]? = some (.lst ds)/\ixN ds.length i=some j/\QS (.nx ls) (z.set w (.lst (ds.set j p)))):WS (Ev ma mb mc) ls hd QS:=by
  obtain⟨p,x,e1,q,y,e2,r,z,e3,w,i,j,ds,rfl,rfl,e5,c,qq⟩:=h
  exact⟨_,_,by simp only[Th,e1,Option.bind_some,e2,e3,e5,c,Option.map_some],qq⟩
theorem Dl{k n:Nat}{m:MS}{ds:List D}{Q:D->Hd->Prop}(hl:ds.length=k)(h:WS m (ds.map some ++ List.replicate (n - k) none) hd λ f x=>match f with
    | .rt d=>Q d x
    | .nx _=>Q (.im .non) x
    | _=>False):WF (mkF k n m) ds hd Q:=by
  obtain⟨f,x,e,q⟩:=h
  unfold WF mkF
  rw[if_pos hl,e]
  cases f with
  | nx l=>exact⟨_,_,rfl,q⟩
  | rt l=>exact⟨_,_,rfl,q⟩
  | bk l=>exact q.elim
  | ct l=>exact q.elim
theorem BJ{F:List D->Hd->Option (D × Hd)}(h:WA m ls hd λ ds x=>BF 0 ds=true/\WF F ds [] λ d _=>∃ i,d=.im i/\QE (.im i) x):WE (AA 0 F m) ls hd QE:=by
  obtain⟨ds,x,e,c,d,y,e2,i,rfl,q⟩:=h
  exact⟨_,_,Gg e c e2,q⟩
end
structure Tap(T:Nat->MO->MO->Prop)(P:List D->Hd->Option (D × Hd)):Prop where
  cl:∀ {k:Nat} {a b:MO},T k a b->clO 2 a=true/\clO 2 b=true
  le:∀ {j k:Nat} {a b:MO},T k a b->j <= k->T j a b
  pick:∀ {k:Nat} {a b:MO} {many:Int},T (k + 1) a b->0 < many->many < 1073741824->∃ r a' b',0 <= r/\r < many/\P [.mu 1,.im (.int many)] [a,b]=some (.im (.int r),[a',b'])/\T k a' b'
section
variable{T:Nat->MO->MO->Prop}{P:List D->Hd->Option (D × Hd)}{a b:MO}{rest:Hd}{ls:Ls}{m:MA}{QE:D->Hd->Prop}{n c:Nat}
theorem Tap.draw(t:Tap T P)(hT:T (n + 1) a b){many:Int}{hd:Hd}(e:m ls hd=some ([.mu 1,.im (.int many)],a :: b :: rest))(h0:0 < many)(h1:many < 1073741824)
    (k:∀ r a' b',T n a' b'->0 <= r->r < many->QE (.im (.int r)) (a' :: b' :: rest)):WE (AA 2 P m) ls hd QE:=by
  obtain⟨r,a',b',p1,p2,e2,hT'⟩:=t.pick hT h0 h1
  refine⟨_,_,G0 (w:=2) (ds:=[.mu 1,.im (.int many)]) (pre:=[a,b]) (pre':=[a',b']) (rest:=rest) (g:=[]) rfl rfl e (by simp) ?_ ?_ (by simpa using e2),k r a' b' hT' p1 p2⟩
  . simp[t.cl hT]
  . simp[t.cl hT']
end
end L2
namespace L2
open PySem PySem.Spec PyProof.Rows
section
variable{K:PySem.W.Frag}{ρ ρ':List Addr}{H H':Hp}{hd hd':Hd}
noncomputable def FX(w:Nat)(ls:Ls):Ls:=ls.map λ o=>match o with
  | some d=>if clD w d=true then some d else none
  | none=>none
noncomputable def FY(w:Nat):Fl->Option Fl
  | .nx ls=>some (.nx (FX w ls))
  | .bk ls=>some (.bk (FX w ls))
  | .ct ls=>some (.ct (FX w ls))
  | .rt d=>if clD w d=true then some (.rt d)else none
noncomputable def IM(w:Nat)(m:MS):MS:=λ ls hd=>if hd.length <= w then(m ls hd).bind λ p=>if(p.2.take w).all (clO w)=true then(FY w p.1).map λ f=>(f,p.2.take w)else none else none
theorem RL.trim{ls:Ls}{σ:St}(h:RL K ρ H ls σ)(w:Nat):RL K (ρ.take w) H (FX w ls) σ:=by
  refine⟨by simp[FX,h.len],λ i d e=>?_⟩
  unfold FX at e
  rw[List.getElem?_map]at e
  cases q:ls[i]? with
  | none=>rw[q]at e;cases e
  | some o=>
    rw[q]at e
    cases o with
    | none=>simp at e
    | some z=>
      simp only[Option.map_some,Option.some.injEq]at e
      split at e
      . next c=>
        cases e
        obtain⟨v,e1,e2⟩:=h.ob i _ q
        exact⟨v,e1,e2.take w c⟩
      . cases e
theorem Ext.trim(x:Ext ρ H ρ' H'){w:Nat}(h:ρ.length <= w):Ext ρ H (ρ'.take w) H':=by
  obtain⟨r,rfl,fr⟩:=x.pre
  refine⟨⟨r.take (w - ρ.length),?_,λ b hb=>fr b (List.mem_of_mem_take hb)⟩,x.keep,x.tab⟩
  rw[List.take_append,List.take_of_length_le h]
theorem SD{t:TS}{m:MS}(w:Nat)(h:RS K t m):RS K t (IM w m):=by
  intro ρ σ H hd ls E f hd' hR hL hm hQ
  unfold IM at hm
  split at hm
  . next hw=>
    obtain⟨⟨f1,h1⟩,e1,hm⟩:=Option.bind_eq_some_iff.mp hm
    dsimp only at hm
    split at hm
    . next c=>
      obtain⟨f2,e2,e3⟩:=Option.map_eq_some_iff.mp hm
      cases e3
      refine h ρ σ H hd ls E f1 h1 hR hL e1 λ ρ1 H1 x1 R1=>?_
      have q:=hQ (ρ1.take w) H1 (x1.trim (by rw[hR.len];exact hw)) (R1.take w c)
      cases f1 with
      | nx l=>simp only[FY,Option.some.injEq]at e2;subst e2;exact λ σ' L=>q σ' (L.trim w)
      | bk l=>simp only[FY,Option.some.injEq]at e2;subst e2;exact λ σ' L=>q σ' (L.trim w)
      | ct l=>simp only[FY,Option.some.injEq]at e2;subst e2;exact λ σ' L=>q σ' (L.trim w)
      | rt d=>
        simp only[FY]at e2
        split at e2
        . next c2=>cases e2;exact λ v r=>q v (r.take w c2)
        . cases e2
    . cases hm
  . cases hm
theorem Rr{w:Nat}{m:MS}{ls:Ls}{Q:Fl->Hd->Prop}(hw:hd.length <= w)(h:WS m ls hd λ f x=>(x.take w).all (clO w)=true/\∃ f',FY w f=some f'/\Q f' (x.take w)):WS (IM w m) ls hd Q:=by
  obtain⟨f,x,e,c,f',e2,q⟩:=h
  exact⟨f',x.take w,by unfold IM;rw[if_pos hw,e,Option.bind_some];dsimp only;rw[if_pos c,e2];rfl,q⟩
noncomputable def FL(m:MS):MS:=λ ls hd=>IM hd.length m ls hd
theorem Py{t:TS}{m:MS}(h:RS K t m):RS K t (FL m):=λ ρ σ H hd ls E f hd' hR hL hm hQ=>SD hd.length h ρ σ H hd ls E f hd' hR hL hm hQ
theorem GN(K:PySem.W.Frag){X:Cx}{st:List Stmt}{t:TS}{m:MS}(h:QSs K X st t m):QSs K X st t (FL m):=⟨h.p,Py h.r⟩
theorem HL{m:MS}{ls:Ls}{Q:Fl->Hd->Prop}(h:WS m ls hd λ f x=>(x.take hd.length).all (clO hd.length)=true/\∃ f',FY hd.length f=some f'/\Q f' (x.take hd.length)):WS (FL m) ls hd Q:=Rr (Nat.le_refl _) h
noncomputable def K3:ME:=λ _ hd=>some (.mu hd.length,hd ++ [.dic []])
theorem SX:RE K KM K3:=by
  intro ρ σ H hd ls Q d hd' hR hL hm hQ
  cases hm
  intro p hp
  obtain⟨R0,x0⟩:=hR.new hp (o:=.dic []) (ho:=.dK []) ⟨[],rfl,by simp[RKs]⟩
  refine hQ (ρ ++ [p]) _ _ x0 R0 ?_
  simp only[RD]
  exact⟨p,by rw[<- hR.len];simp,rfl⟩
theorem Sk(K:PySem.W.Frag){X:Cx}{pos:Pos}:QE K X (.Dict [] [] pos) KM K3:=⟨Qd,SX⟩
theorem S0{ls:Ls}{Q:D->Hd->Prop}(q:Q (.mu hd.length) (hd ++ [.dic []])):WE K3 ls hd Q:=⟨_,_,rfl,q⟩
end
mutual
theorem LN{v w:Nat}(h:v <= w):∀ {d:D},clD v d=true->clD w d=true
  | .im i,_=>by simp
  | .mu n,c=>by simp at c ⊢;omega
  | .tm ds,c=>by rw[clD]at c ⊢;exact Ge h c
  | .ro ns,_=>by rw[clD]
theorem Ge{v w:Nat}(h:v <= w):∀ {ds:List D},BF v ds=true->BF w ds=true
  | [],_=>by simp
  | d :: ds,c=>by
    simp only[P5,Bool.and_eq_true]at c ⊢
    exact⟨LN h c.1,Ge h c.2⟩
end
theorem Ji{v w:Nat}(h:v <= w):∀ {ds:List (Key × D)},FC v ds=true->FC w ds=true
  | [],_=>by simp[FC]
  | d :: ds,c=>by
    simp only[FC,Bool.and_eq_true]at c ⊢
    exact⟨LN h c.1,Ji h c.2⟩
theorem Dd{v w:Nat}(h:v <= w){o:MO}(c:clO v o=true):clO w o=true:=by
  cases o with
  | lst ds=>exact Ge h c
  | dic ds=>exact Ji h c
section
variable{T:Nat->MO->MO->Prop}{P:List D->Hd->Option (D × Hd)}{a b:MO}{rest:Hd}{ls:Ls}{m:MA}{QE:D->Hd->Prop}
theorem Tap.callX(t:Tap T P){n c:Nat}(hT:T (n + c) a b)(ex:Hd){w:Nat}{F:List D->Hd->Option (D × Hd)}{as:List D}{hd:Hd}{R:I->Prop}(e:m ls hd=some (.mu 1 :: as,a :: b :: (ex ++ rest)))(hw:w=ex.length + 2)(ha:BF w as=true)(hx:ex.all (clO w)=true)
    (hF:∀ a b,T (n + c) a b->WF F (.mu 1 :: as) (a :: b :: ex) λ d x=>∃ i a' b' g,d=.im i/\R i/\T n a' b'/\x=a' :: b' :: (ex ++ g))
    (k:∀ i a' b',T n a' b'->R i->QE (.im i) (a' :: b' :: (ex ++ rest))):WE (AA w F m) ls hd QE:=by
  subst hw
  have hcl:∀ o,clO 2 o=true->clO (ex.length + 2) o=true:=λ o h=>Dd (by omega) h
  obtain⟨d,x,e2,i,a',b',g,rfl,hR,hT',rfl⟩:=hF a b hT
  refine⟨_,_,G0 (w:=ex.length + 2) (ds:=.mu 1 :: as) (pre:=a :: b :: ex) (pre':=a' :: b' :: ex) (rest:=rest) (g:=g) rfl rfl e (by simp[ha]) ?_ ?_ e2,k i a' b' hT' hR⟩
  . simp[hcl _ (t.cl hT).1,hcl _ (t.cl hT).2];simpa using hx
  . simp[hcl _ (t.cl hT').1,hcl _ (t.cl hT').2];simpa using hx
theorem Tap.call(t:Tap T P){n c:Nat}(hT:T (n + c) a b){F:List D->Hd->Option (D × Hd)}{as:List D}{hd:Hd}{R:I->Prop}(e:m ls hd=some (.mu 1 :: as,a :: b :: rest))(ha:BF 2 as=true)
    (hF:∀ a b,T (n + c) a b->WF F (.mu 1 :: as) [a,b] λ d x=>∃ i a' b' g,d=.im i/\R i/\T n a' b'/\x=a' :: b' :: g)
    (k:∀ i a' b',T n a' b'->R i->QE (.im i) (a' :: b' :: rest)):WE (AA 2 F m) ls hd QE:=
  t.callX hT [] (w:=2) e rfl ha rfl hF k
end
end L2
namespace L2
open PySem PySem.Spec PyProof.Rows
section
variable{ls:Ls}{hd:Hd}{b:MS}{c:MT}{Q:Fl->Hd->Prop}{QE:D->Hd->Prop}
end
end L2
namespace Bd
open PySem L2
@[reducible] noncomputable def m_steps_at:MS:=(A8 (AK 2 (mC (.int 0)))
    (A8 (BW (Bg (A0 0)) (CH 2 (Ad (AG 3) (Ad (AG 4) CI)))
      (A8 (Au (AQ (mOp gGt (A0 3) (A0 1)))
      (AY (A0 2))
      Ag)
    (AK 2 (A0 4))))
    (AY (A0 2))))
noncomputable def F_steps_at:List D->Hd->Option (D × Hd):=mkF 2 5 m_steps_at
@[reducible] noncomputable def m_cost_at:MS:=(A8 (AK 2 (mOp gIx (A0 0) (mC (.int 0))))
    (A8 (Au (AQ (mOp gEq (A0 2) (mC (.str "steps"))))
      (AY (AA 0 F_steps_at (A1 (mOp gIx (A0 0) (mC (.int 1))) (A1 (A0 1) A4))))
      Ag)
    (A8 (Au (AQ (mOp gEq (A0 2) (mC (.str "ends"))))
      (AY (mOp CV (mOp gIx (A0 0) (mC (.int 1))) (A0 1)))
      Ag)
    (A8 (AK 3 (mOp CL (A0 1) (mOp gIx (A0 0) (mC (.int 1)))))
    (A8 (Au (AQ (mOp gEq (A0 2) (mC (.str "late"))))
      (AY (A0 3))
      Ag)
    (A8 (Au (AQ (mOp gLe (A0 3) (mC (.int 0))))
      (AY (mC (.int 0)))
      Ag)
    (A8 (Au (AQ (mOp gEq (A0 2) (mC (.str "tardy"))))
      (AY (mOp CV (mOp gIx (A0 0) (mC (.int 2))) (A0 3)))
      Ag)
    (AY (mOp gIx (A0 0) (mC (.int 2)))))))))))
noncomputable def F_cost_at:List D->Hd->Option (D × Hd):=mkF 2 4 m_cost_at
@[reducible] noncomputable def m_costs_of:MS:=(AY (CU B5 (Bc 2 [] (Kr (Bg (A0 0)) (Bg (A0 1))) (CH 2 (Ad (AG 0) (Ad (AG 1) CI))) CT (AA 0 F_cost_at (A1 (mOp gIx (A0 0) (mC (.int 2))) (A1 (A0 1) A4))))))
noncomputable def F_costs_of:List D->Hd->Option (D × Hd):=mkF 2 2 m_costs_of
@[reducible] noncomputable def m_run:MS:=(A8 (AK 2 (BV (BE A4)))
    (A8 (AK 3 (mC (.int 0)))
    (A8 (BW (Bg (A0 1)) (AG 4)
      (A8 (Fs (mOp gIx (A0 0) (A0 4)) (CH 3 (Ad (AG 5) (Ad (AG 6) (Ad (AG 7) CI)))))
    (A8 (AK 8 (mCB Gz (A1 (A0 6) (A1 (A0 3) A4))))
    (A8 (AK 3 (mOp Aa (A0 8) (A0 5)))
    (Bo (mMt B8 (A0 2) (A1 (BQ (A1 (A0 4) (A1 (A0 8) (A1 (A0 3) A4)))) A4)))))))
    (AY (mCB (f1 true B5) (A1 (A0 2) A4))))))
noncomputable def F_run:List D->Hd->Option (D × Hd):=mkF 2 9 m_run
@[reducible] noncomputable def m_ends_of:MS:=(A8 (AK 2 (BV (Bc 1 [] (Bg (A0 0)) (AG 0) CT (mC (.int 0)))))
    (A8 (BW (Bg (A0 1)) (CH 3 (Ad (AG 3) (Ad (AG 4) (Ad (AG 5) CI))))
      (Ev (A0 2) (A0 3) (A0 5)))
    (AY (mCB (f1 true B5) (A1 (A0 2) A4)))))
noncomputable def F_ends_of:List D->Hd->Option (D × Hd):=mkF 2 6 m_ends_of
@[reducible] noncomputable def m_tape:MS:=(AY (IT [((mC (.str "cells")),(BV (GV (Hf (A0 0) E2 (Fq (mC (.int 63))))))),((mC (.str "next")),(mC (.int 0))),((mC (.str "left")),(mC (.int 0))),((mC (.str "turn")),(mC (.int 0)))]))
noncomputable def F_tape:List D->Hd->Option (D × Hd):=mkF 1 1 m_tape
@[reducible] noncomputable def m_pick:MS:=(A8 (DE (A0 0) (mC (.str "turn")) (mOp Aa (mOp Bv (A0 0) (mC (.str "turn"))) (mC (.int 1))))
    (A8 (Au (AQ (mOp gGt (mOp Bv (A0 0) (mC (.str "left"))) (mC (.int 0))))
      (A8 (AK 2 (mOp Ct (mOp Bv (A0 0) (mC (.str "left"))) (A0 1)))
    (A8 (DE (A0 0) (mC (.str "left")) (mOp Fw (mOp Bv (A0 0) (mC (.str "left"))) (A0 1)))
    (AY (A0 2))))
      Ag)
    (A8 (IR 3 4 5 (A1 (mOp Bv (A0 0) (mC (.str "cells"))) (A1 (mOp Bv (A0 0) (mC (.str "next"))) (A1 (mOp Bv (A0 0) (mC (.str "turn"))) A4))))
    (A8 (AK 6 (mIf (AQ (DD true (A0 3) (BE A4))) (mOp gIx (A0 3) (mOp Ct (A0 4) (mCB (f1 true C6) (A1 (A0 3) A4)))) (mC (.int 23))))
    (A8 (DE (A0 0) (mC (.str "next")) (mOp Aa (A0 4) (mC (.int 1))))
    (A8 (Au (GW (AQ (mOp gGe (A0 6) (mOp Qs (mC (.int 10)) (mC (.int 18))))) (AQ (mOp gLt (A0 4) (mCB (f1 true C6) (A1 (A0 3) A4)))))
      (A8 (DE (A0 0) (mC (.str "left")) (mOp Fw (A0 6) (A0 1)))
    (AY (mOp Ct (A0 6) (A0 1))))
      Ag)
    (A8 (AK 7 (mOp Ct (mOp Aa (mOp Aa (mOp Ct (A0 6) (mC (.int 2147483587))) (mOp CV (mC (.int 104729)) (A0 5))) (mC (.int 17))) (mC (.int 2147483629))))
    (A8 (AK 7 (mOp Ct (mOp Aa (mOp CV (A0 7) (A0 7)) (mOp CV (mC (.int 48271)) (A0 5))) (mC (.int 2147483647))))
    (A8 (AK 7 (mOp Ct (mOp Aa (mOp Aa (mOp CV (A0 7) (A0 7)) (mOp CV (mC (.int 7919)) (A0 7))) (A0 5)) (mC (.int 2147483629))))
    (AY (mOp Ct (mOp Fw (A0 7) (mC (.int 128))) (A0 1))))))))))))
noncomputable def F_pick:List D->Hd->Option (D × Hd):=mkF 2 8 m_pick
@[reducible] noncomputable def m_cost:MS:=(A8 (AK 2 (mIf (AQ (mOp gEq (AA 2 F_pick (A1 (A0 0) (A1 (mC (.int 4)) A4))) (mC (.int 0)))) (mOp CL (AA 2 F_pick (A1 (A0 0) (A1 (mC (.int 500)) A4))) (mC (.int 99))) (mOp CL (AA 2 F_pick (A1 (A0 0) (A1 (mC (.int 40)) A4))) (mC (.int 5)))))
    (A8 (AK 3 (AA 2 F_pick (A1 (A0 0) (A1 (mC (.int 10)) A4))))
    (A8 (Au (AQ (mOp gLt (A0 1) (mC (.int 4))))
      (AY (E3 (BE (A1 (BQ (A1 (mC (.str "late")) (A1 (A0 2) A4))) (A1 (BQ (A1 (mC (.str "tardy")) (A1 (A0 2) (A1 (A0 3) A4)))) (A1 (BQ (A1 (mC (.str "miss")) (A1 (A0 2) (A1 (A0 3) A4)))) (A1 (BQ (A1 (mC (.str "ends")) (A1 (A0 3) A4))) A4))))) (A0 1)))
      Ag)
    (A8 (Hg [4,5] (A1 (mCB IZ (A1 (A0 2) (A1 (mC (.int 200)) A4))) (A1 (mC (.int 0)) A4)))
    (A8 (AK 6 (BV (BE A4)))
    (A8 (BW (Ca (A1 (mOp Aa (mC (.int 1)) (AA 2 F_pick (A1 (A0 0) (A1 (mC (.int 5)) A4)))) A4)) (AG 7)
      (A8 (AK 4 (mOp Aa (mOp Aa (A0 4) (mC (.int 1))) (AA 2 F_pick (A1 (A0 0) (A1 (mC (.int 40)) A4)))))
    (A8 (AK 5 (mOp Aa (A0 5) (AA 2 F_pick (A1 (A0 0) (A1 (mC (.int 20)) A4)))))
    (Bo (mMt B8 (A0 6) (A1 (BQ (A1 (A0 4) (A1 (A0 5) A4))) A4))))))
    (AY (BQ (A1 (mC (.str "steps")) (A1 (mCB (f1 true B5) (A1 (A0 6) A4)) A4))))))))))
noncomputable def F_cost:List D->Hd->Option (D × Hd):=mkF 2 8 m_cost
@[reducible] noncomputable def m_works:MS:=(A8 (AK 3 (mOp CV (AA 2 F_pick (A1 (A0 0) (A1 (mC (.int 61)) A4))) (AA 2 F_pick (A1 (A0 0) (A1 (mC (.int 2)) A4)))))
    (A8 (AK 4 (E3 (BE (A1 (mC (.int 3)) (A1 (mC (.int 20)) A4))) (AA 2 F_pick (A1 (A0 0) (A1 (mC (.int 2)) A4)))))
    (A8 (AK 5 (BV (BE A4)))
    (A8 (BW (Ca (A1 (A0 1) A4)) (AG 6)
      (A8 (AK 7 (mIf (Dv (A0 2)) (A0 3) (AA 2 F_pick (A1 (A0 0) (A1 (E3 (BE (A1 (mC (.int 8)) (A1 (mC (.int 61)) A4))) (AA 2 F_pick (A1 (A0 0) (A1 (mC (.int 2)) A4)))) A4)))))
    (Bo (mMt B8 (A0 5) (A1 (BQ (A1 (mOp Aa (mC (.int 1)) (AA 2 F_pick (A1 (A0 0) (A1 (A0 4) A4)))) (A1 (A0 7) (A1 (AA 2 F_cost (A1 (A0 0) (A1 (AA 2 F_pick (A1 (A0 0) (A1 (mC (.int 5)) A4))) A4))) A4)))) A4)))))
    (AY (mCB (f1 true B5) (A1 (A0 5) A4)))))))
noncomputable def F_works:List D->Hd->Option (D × Hd):=mkF 3 8 m_works
end Bd
namespace Bd
open PySem L2
structure Tp where
  cells:List Int
  nx:Int
  lf:Int
  tn:Int
noncomputable def BP(t:Tp):List (Key × D):=[(.inr "cells",.mu 0),(.inr "next",.im (.int t.nx)),(.inr "left",.im (.int t.lf)),(.inr "turn",.im (.int t.tn))]
noncomputable def tp(t:Tp):Hd:=[.lst (t.cells.map λ i=>.im (.int i)),.dic (BP t)]
@[simp] theorem O3(t:Tp):(tp t).length=2:=rfl
@[simp] theorem Xu(t:Tp)(r:Hd):(tp t ++ r)[0]? = some (.lst (t.cells.map λ i=>.im (.int i))):=rfl
@[simp] theorem Xt(t:Tp)(r:Hd):(tp t ++ r)[1]? = some (.dic (BP t)):=rfl
@[simp] theorem tp0(t:Tp):(tp t)[0]? = some (.lst (t.cells.map λ i=>.im (.int i))):=rfl
@[simp] theorem tp1(t:Tp):(tp t)[1]? = some (.dic (BP t)):=rfl
@[simp] theorem Xi(t t':Tp)(h:t'.cells=t.cells):(tp t).set 1 (.dic (BP t'))=tp t':=by unfold tp;rw[h];rfl
section
variable(t:Tp)(v:Int)
@[simp] theorem Wb:BK (BP t) (.inr "cells")=some (.mu 0):=by simp[BK,BP]
@[simp] theorem X2:BK (BP t) (.inr "next")=some (.im (.int t.nx)):=by simp[BK,BP,ne1]
@[simp] theorem X3:BK (BP t) (.inr "left")=some (.im (.int t.lf)):=by simp[BK,BP,ne2,ne4]
@[simp] theorem X1:BK (BP t) (.inr "turn")=some (.im (.int t.tn)):=by simp[BK,BP,ne3,ne5,ne6]
@[simp] theorem WZ:CS (BP t) (.inr "next") (.im (.int v))=BP { t with nx:=v }:=by simp[CS,BP,ne1,Wg,Wf]
@[simp] theorem Wa:CS (BP t) (.inr "left") (.im (.int v))=BP { t with lf:=v }:=by simp[CS,BP,ne2,ne4,We]
@[simp] theorem WY:CS (BP t) (.inr "turn") (.im (.int v))=BP { t with tn:=v }:=by simp[CS,BP,ne3,ne5,ne6]
@[simp] theorem XM:(BP t).length=4:=rfl
end
theorem Cq:∀ ns:List Int,I.pys (ns.map I.int)=ns.map PyData.int
  | []=>by simp[I.pys]
  | n :: ns=>by simp[I.pys,I.py,Cq ns]
theorem Cc(ns:List Int):Be (ns.map λ i=>D.im (.int i))=some (ns.map I.int):=by
  have:(ns.map λ i=>D.im (.int i))=(ns.map I.int).map D.im:=by rw[List.map_map];rfl
  rw[this];exact PH _
theorem Tk(ns:List Int):PyData.eqv (.list (ns.map PyData.int)) (.list [])=decide (ns=[]):=by
  cases ns <;> simp[PyData.eqv,PyData.eqvAll]
theorem Qk(ns:List Int):(PyData.list (ns.map PyData.int)).canLay0=true:=by simp[PyData.canLay0,HK]
theorem E6(ns:List Int)(hd:Hd)(neg:Bool):Fz neg (.list (ns.map PyData.int)) (.list []) hd=some (.im (.bl (if neg then !decide (ns=[])else decide (ns=[]))),hd):=by
  unfold Fz
  rw[if_pos,Tk]
  refine⟨Qk ns,by simp[PyData.canLay0,PyData.canLayAll0],?_⟩
  have:(PyData.list []).depth <= 1:=by simp[PyData.depth,PyData.depthAll]
  omega
end Bd
namespace Bd
open PySem L2
theorem EV{x:Int}(m:Int)(h:0 < m):0 <= x % m/\x % m < m:=⟨Int.emod_nonneg _ (by omega),Int.emod_lt_of_pos _ h⟩
noncomputable def Fk(cell turn:Int):Int:=(cell % 2147483587 + 104729 * turn + 17) % 2147483629
noncomputable def J7(x turn:Int):Int:=(x * x + 48271 * turn) % 2147483647
noncomputable def V5(x turn:Int):Int:=(x * x + 7919 * x + turn) % 2147483629
theorem VQ(hd:Hd)(neg:Bool):Fz neg (.list []) (.list []) hd=some (.im (.bl (if neg then false else true)),hd):=by
  have:=E6 [] hd neg
  simpa using this
theorem WM{xs:List Int}(h:xs ≠ [])(n:Int):∃ c,atI (xs.map λ i=>D.im (.int i)) (n % (xs.length:Int))=some (.im (.int c)):=by
  have hl:0 < xs.length:=Gw h
  obtain⟨a,b⟩:=EV (x:=n) (xs.length:Int) (by omega)
  obtain⟨k,hk⟩:=Int.eq_ofNat_of_zero_le a
  have hk':k < xs.length:=by omega
  exact⟨xs[k],Gi hk (by simp[hk'])⟩
theorem mk1(j:Int):Dt 104729 j:=Ci (by decide) (by decide)
theorem mk2(j:Int):Dt 48271 j:=Ci (by decide) (by decide)
theorem mk3(j:Int):Dt 7919 j:=Ci (by decide) (by decide)
theorem mo1:DT 2147483587:=by unfold DT;decide
theorem mo2:DT 2147483629:=by unfold DT;decide
theorem mo3:DT 2147483647:=by unfold DT;decide
theorem di1:K7 128:=by unfold K7;decide
theorem po1:NE 10 18:=by unfold NE;decide
theorem Sz(τ:Tp)(many:Int)(h0:0 < many)(h1:many < 1073741824):∃ r τ',F_pick [.mu 1,.im (.int many)] (tp τ)=some (.im (.int r),tp τ')/\0 <= r/\r < many/\τ'.cells=τ.cells:=by
  have hm:DT many:=h0
  have hv:K7 many:=⟨h0,h1⟩
  by_cases hl:τ.lf > 0
  . refine⟨τ.lf % many,{ τ with tn:=τ.tn + 1,lf:=τ.lf / many },?_,(EV many h0).1,(EV many h0).2,rfl⟩
    simp[F_pick,mkF,hl,hm,hv]
  . have key:∀ cell:Int,(if τ.cells=[]then cell=23 else atI (τ.cells.map λ i=>D.im (.int i)) (τ.nx % (τ.cells.length:Int))=some (.im (.int cell))) ->
        ∃ r τ',F_pick [.mu 1,.im (.int many)] (tp τ)=some (.im (.int r),tp τ')/\0 <= r/\r < many/\τ'.cells=τ.cells:=by
      intro cell hcell
      have b1:=EV (x:=cell % 2147483587 + 104729 * (τ.tn + 1) + 17) 2147483629 (by decide)
      have b2:=EV (x:=Fk cell (τ.tn + 1) * Fk cell (τ.tn + 1) + 48271 * (τ.tn + 1)) 2147483647 (by decide)
      have c1:∀ j,Dt (Fk cell (τ.tn + 1)) j:=λ j=>Ci (by unfold Fk;omega) (by unfold Fk;omega)
      have c2:∀ j,Dt (J7 (Fk cell (τ.tn + 1)) (τ.tn + 1)) j:=λ j=>Ci (by unfold J7;omega) (by unfold J7;omega)
      by_cases hb:cell >= 1000000000000000000/\τ.nx < (τ.cells.length:Int)
      . refine⟨cell % many,{ τ with tn:=τ.tn + 1,nx:=τ.nx + 1,lf:=cell / many },?_,(EV many h0).1,(EV many h0).2,rfl⟩
        by_cases hc:τ.cells=[]
        . rw[if_pos hc]at hcell;subst hcell;omega
        . rw[if_neg hc]at hcell
          have hl0:0 < τ.cells.length:=Gw hc
          have hl0':DT (τ.cells.length:Int):=by unfold DT;omega
          simp[F_pick,mkF,hl,hm,hv,mk1,mk2,mk3,mo1,mo2,mo3,di1,po1,DD,pyD,Cc,Cq,I.pys,E6,hc,hcell,hl0',hb.1,hb.2,C6]
      . refine⟨V5 (J7 (Fk cell (τ.tn + 1)) (τ.tn + 1)) (τ.tn + 1) / 128 % many,{ τ with tn:=τ.tn + 1,nx:=τ.nx + 1 },?_,(EV many h0).1,(EV many h0).2,rfl⟩
        have hb':1000000000000000000 <= cell->¬ τ.nx < (τ.cells.length:Int):=λ a b=>hb ⟨a,b⟩
        unfold Fk at c1 c2
        unfold J7 at c2
        unfold V5 J7 Fk
        by_cases hc:τ.cells=[]
        . rw[if_pos hc]at hcell;subst hcell
          simp only[Int.reduceMod]at c1 c2
          simp[F_pick,mkF,hl,hm,hv,mk1,mk2,mk3,mo1,mo2,mo3,di1,po1,DD,pyD,Cc,Cq,I.pys,E6,VQ,hc,C6,c1,c2]
        . rw[if_neg hc]at hcell
          have hl0:0 < τ.cells.length:=Gw hc
          have hl0':DT (τ.cells.length:Int):=by unfold DT;omega
          by_cases hd:1000000000000000000 <= cell
          . simp[F_pick,mkF,hl,hm,hv,mk1,mk2,mk3,mo1,mo2,mo3,di1,po1,DD,pyD,Cc,Cq,I.pys,E6,hc,hcell,hl0',C6,c1,c2,hd,hb' hd]
          . simp[F_pick,mkF,hl,hm,hv,mk1,mk2,mk3,mo1,mo2,mo3,di1,po1,DD,pyD,Cc,Cq,I.pys,E6,hc,hcell,hl0',C6,c1,c2,hd]
    by_cases hc:τ.cells=[]
    . exact key 23 (by rw[if_pos hc])
    . obtain⟨c,e⟩:=WM hc τ.nx
      exact key c (by rw[if_neg hc];exact e)
end Bd
namespace Bd
open PySem L2
inductive Cost where
  | late (d:Int)|tardy (d w:Int)|miss (d w:Int)|ends (w:Int)|steps (rows:List (Int × Int))
noncomputable def Bf(r:Int × Int):I:=.tup [.int r.1,.int r.2]
noncomputable def B0:Cost->I
  | .late d=>.tup [.str "late",.int d]
  | .tardy d w=>.tup [.str "tardy",.int d,.int w]
  | .miss d w=>.tup [.str "miss",.int d,.int w]
  | .ends w=>.tup [.str "ends",.int w]
  | .steps rows=>.tup [.str "steps",.tup (rows.map Bf)]
noncomputable def B7(t:Int):List (Int × Int)->Int->Int
  | [],told=>told
  | (b,a) :: r,told=>if t < b then told else B7 t r a
noncomputable def Cost.at:Cost->Int->Int
  | .late d,t=>t - d
  | .tardy d w,t=>if t - d <= 0 then 0 else w * (t - d)
  | .miss d w,t=>if t - d <= 0 then 0 else w
  | .ends w,t=>w * t
  | .steps rows,t=>B7 t rows 0
noncomputable def Cost.wok:Cost->Prop
  | .tardy _ w=>0 <= w/\w <= 1000000
  | .miss _ w=>0 <= w/\w <= 1000000
  | .ends w=>0 <= w/\w <= 1000000
  | _=>True
theorem n1:¬ (("late":Str)="steps"):=by decide +kernel
theorem n2:¬ (("tardy":Str)="steps"):=by decide +kernel
theorem n3:¬ (("miss":Str)="steps"):=by decide +kernel
theorem n4:¬ (("ends":Str)="steps"):=by decide +kernel
theorem n5:¬ (("late":Str)="ends"):=by decide +kernel
theorem n6:¬ (("tardy":Str)="ends"):=by decide +kernel
theorem n7:¬ (("miss":Str)="ends"):=by decide +kernel
theorem n8:¬ (("tardy":Str)="late"):=by decide +kernel
theorem n9:¬ (("miss":Str)="late"):=by decide +kernel
theorem n10:¬ (("miss":Str)="tardy"):=by decide +kernel
theorem Hz(t:Int)(z:D)(hd:Hd):∀ (rows:List (Int × Int)) (told:Int) (x y:Option D),∃ fl x' y',BL (CH 2 (Ad (AG 3) (Ad (AG 4) CI))) (A8 (Au (AQ (mOp gGt (A0 3) (A0 1))) (AY (A0 2)) Ag) (AK 2 (A0 4))) [] ((rows.map Bf).map .im)
      [some z,some (.im (.int t)),some (.im (.int told)),x,y] hd=some (fl,hd)/\(fl=.rt (.im (.int (B7 t rows told))) ∨ fl=.nx [some z,some (.im (.int t)),some (.im (.int (B7 t rows told))),x',y'])
  | [],told,x,y=>⟨_,x,y,Cs,.inr rfl⟩
  | (b,a) :: rows,told,x,y=>by
    by_cases h:t < b
    . refine⟨_,x,y,Qj (ls1:=[some z,some (.im (.int t)),some (.im (.int told)),some (.im (.int b)),some (.im (.int a))]) (by simp[Bf]) (v:=.im (.int told)) (hd2:=hd) ?_,.inl ?_⟩
      . simp[h]
      . simp[B7,h]
    . obtain⟨fl,x',y',e,q⟩:=Hz t z hd rows a (some (.im (.int b))) (some (.im (.int a)))
      refine⟨fl,x',y',?_,?_⟩
      . rw[<- e]
        refine CF (ls1:=[some z,some (.im (.int t)),some (.im (.int told)),some (.im (.int b)),some (.im (.int a))]) (by simp[Bf]) ?_ (AV _)
        simp[h]
      . simpa [B7,h]using q
theorem Lc(rows:List (Int × Int))(t:Int):F_steps_at [.im (.tup (rows.map Bf)),.im (.int t)] []=some (.im (.int (B7 t rows 0)),[]):=by
  obtain⟨fl,x',y',e,q⟩:=Hz t (.im (.tup (rows.map Bf))) [] rows 0 none none
  rcases q with rfl|rfl
  . simp[F_steps_at,mkF]at e ⊢
    simp[e]
  . simp[F_steps_at,mkF]at e ⊢
    simp[e]
theorem Nl(c:Cost)(t:Int)(h:c.wok):F_cost_at [.im (B0 c),.im (.int t)] []=some (.im (.int (c.at t)),[]):=by
  cases c with
  | late d=>simp[F_cost_at,mkF,B0,n1,n5,Cost.at]
  | tardy d w=>
    have b1:∀ j,Dt w j:=λ j=>Ci (by obtain⟨a,b⟩:=h;omega) (by obtain⟨a,b⟩:=h;omega)
    by_cases q:t - d <= 0
    . simp[F_cost_at,mkF,B0,n2,n6,n8,Cost.at,q]
    . simp[F_cost_at,mkF,B0,n2,n6,n8,Cost.at,q,b1]
  | miss d w=>
    by_cases q:t - d <= 0
    . simp[F_cost_at,mkF,B0,n3,n7,n9,Cost.at,q]
    . simp[F_cost_at,mkF,B0,n3,n7,n9,n10,Cost.at,q]
  | ends w=>
    have b1:∀ j,Dt w j:=λ j=>Ci (by obtain⟨a,b⟩:=h;omega) (by obtain⟨a,b⟩:=h;omega)
    simp[F_cost_at,mkF,B0,n4,Cost.at,b1]
  | steps rows=>
    have:=Gg (m:=A1 (mOp gIx (A0 0) (mC (.int 1))) (A1 (A0 1) A4)) (ls:=[some (.im (B0 (.steps rows))),some (.im (.int t)),some (.im (.str "steps")),none]) (hd:=[]) (hd1:=[]) (F:=F_steps_at) (ds:=[.im (.tup (rows.map Bf)),.im (.int t)]) (by simp[B0]) (by simp) (Lc rows t)
    simp[B0]at this
    simp[F_cost_at,mkF,B0,Cost.at,this]
end Bd
namespace Bd
open PySem L2
@[simp high] theorem WX(t:Tp)(x:MO)(r:Hd):(tp t ++ (x :: r))[2]? = some x:=rfl
@[simp high] theorem U1(t:Tp)(x y:MO)(r:Hd):(tp t ++ (x :: y :: r))[3]? = some y:=rfl
@[simp high] theorem U0(t:Tp)(x y z:MO)(r:Hd):(tp t ++ (x :: y :: z :: r))[4]? = some z:=rfl
@[simp high] theorem Ve(t:Tp)(x y:MO)(r:Hd):(tp t ++ (x :: r)).set 2 y=tp t ++ (y :: r):=rfl
@[simp high] theorem Vd(t:Tp)(x y z:MO)(r:Hd):(tp t ++ (x :: y :: r)).set 3 z=tp t ++ (x :: z :: r):=rfl
theorem Cw(w:Nat)(ns:List Int):BF w (ns.map λ i=>D.im (.int i))=true:=by induction ns <;> simp_all [BF,clD]
@[simp] theorem Hu(t:Tp):(tp t).all (clO 2)=true:=by simp[tp,clO,Cw,BP,FC,clD]
structure Drawn(τ:Tp)(many:Int)(r:Int)(τ':Tp):Prop where
  lo:0 <= r
  hi:r < many
  cl:τ'.cells=τ.cells
  eq:F_pick [.mu 1,.im (.int many)] (tp τ)=some (.im (.int r),tp τ')
theorem Drawn.gen{τ τ':Tp}{many r:Int}(h:Drawn τ many r τ'){ls:Ls}{hd rest:Hd}{m:MA}(e:m ls hd=some ([.mu 1,.im (.int many)],tp τ ++ rest)):AA 2 F_pick m ls hd=some (.im (.int r),tp τ' ++ rest):=
  G0 (w:=2) (ds:=[.mu 1,.im (.int many)]) (pre:=tp τ) (pre':=tp τ') (rest:=rest) (g:=[]) rfl rfl e (by simp) (Hu _) (Hu _) (by rw[List.append_nil];exact h.eq)
theorem Drawn.genN{τ τ':Tp}{many r:Int}(h:Drawn τ many r τ'){ls:Ls}{hd:Hd}{m:MA}(e:m ls hd=some ([.mu 1,.im (.int many)],tp τ)):AA 2 F_pick m ls hd=some (.im (.int r),tp τ'):=by
  have:=h.gen (rest:=[]) (e:=by rw[List.append_nil];exact e)
  rwa [List.append_nil]at this
theorem Drawn.c{τ τ':Tp}{many r:Int}(h:Drawn τ many r τ')(ls:Ls)(rest:Hd)(i:Nat)(hi:ls[i]? = some (some (.mu 1))):AA 2 F_pick (A1 (A0 i) (A1 (mC (.int many)) A4)) ls (tp τ ++ rest)=some (.im (.int r),tp τ' ++ rest):=h.gen (by simp[hi])
theorem Drawn.cN{τ τ':Tp}{many r:Int}(h:Drawn τ many r τ')(ls:Ls)(i:Nat)(hi:ls[i]? = some (some (.mu 1))):AA 2 F_pick (A1 (A0 i) (A1 (mC (.int many)) A4)) ls (tp τ)=some (.im (.int r),tp τ'):=h.genN (by simp[hi])
theorem Drawn.v{τ τ':Tp}{many r:Int}(h:Drawn τ many r τ')(ls:Ls)(rest:Hd)(i j:Nat)(hi:ls[i]? = some (some (.mu 1)))(hj:ls[j]? = some (some (.im (.int many)))):AA 2 F_pick (A1 (A0 i) (A1 (A0 j) A4)) ls (tp τ ++ rest)=some (.im (.int r),tp τ' ++ rest):=h.gen (by simp[hi,hj])
theorem draw(τ:Tp)(many:Int)(h0:0 < many)(h1:many < 1073741824):∃ r τ',Drawn τ many r τ':=by
  obtain⟨r,τ',e,a,b,c⟩:=Sz τ many h0 h1
  exact⟨r,τ',a,b,c,e⟩
noncomputable def RowsOk(lo bot:Int):List (Int × Int)->Prop
  | []=>True
  | (b,a) :: r=>lo < b/\b <= lo + 40/\bot <= a/\a <= bot + 19/\RowsOk b a r
noncomputable def Cost.ok:Cost->Prop
  | .late d=>-99 <= d/\d <= 400
  | .tardy d w=>(-99 <= d/\d <= 400)/\0 <= w/\w <= 9
  | .miss d w=>(-99 <= d/\d <= 400)/\0 <= w/\w <= 9
  | .ends w=>0 <= w/\w <= 9
  | .steps rows=>rows ≠ []/\rows.length <= 5/\∃ lo,-99 <= lo/\lo <= 200/\RowsOk lo 0 rows
theorem Cost.ok.wok{c:Cost}(h:c.ok):c.wok:=by
  cases c <;> simp only[Cost.ok,Cost.wok]at * <;> omega
theorem RowsOk.snoc:∀ {rows:List (Int × Int)} {lo bot b a:Int},RowsOk lo bot rows->(rows.getLastD (lo,bot)).1 < b->b <= (rows.getLastD (lo,bot)).1 + 40->(rows.getLastD (lo,bot)).2 <= a->a <= (rows.getLastD (lo,bot)).2 + 19->RowsOk lo bot (rows ++ [(b,a)])
  | [],lo,bot,b,a,h,h1,h2,h3,h4=>⟨h1,h2,h3,h4,trivial⟩
  | (x,y) :: r,lo,bot,b,a,⟨p1,p2,p3,p4,p5⟩,h1,h2,h3,h4=>by
    have e:((x,y) :: r).getLastD (lo,bot)=r.getLastD (x,y):=by cases r <;> rfl
    rw[e]at h1 h2 h3 h4
    exact⟨p1,p2,p3,p4,RowsOk.snoc p5 h1 h2 h3 h4⟩
noncomputable abbrev R9:MS:=(A8 (AK 4 (mOp Aa (mOp Aa (A0 4) (mC (.int 1))) (AA 2 F_pick (A1 (A0 0) (A1 (mC (.int 40)) A4)))))
    (A8 (AK 5 (mOp Aa (A0 5) (AA 2 F_pick (A1 (A0 0) (A1 (mC (.int 20)) A4)))))
    (Bo (mMt B8 (A0 6) (A1 (BQ (A1 (A0 4) (A1 (A0 5) A4))) A4)))))
theorem Jh(w way due wt:D)(lo:Int):∀ (k:Nat) (τ:Tp) (rows:List (Int × Int)) (z:Option D) (ds:List D),ds.length=k->rows.length + k <= 5->RowsOk lo 0 rows->∃ τ' rows' s t z',BL (AG 7) R9 [] ds
      [some (.mu 1),some way,some due,some wt,some (.im (.int (rows.getLastD (lo,0)).1)),some (.im (.int (rows.getLastD (lo,0)).2)),some (.mu 2),z] (tp τ ++ [.lst ((rows.map Bf).map .im)]) =
      some (.nx [some (.mu 1),some way,some due,some wt,s,t,some (.mu 2),z'],tp τ' ++ [.lst ((rows'.map Bf).map .im)])/\rows'.length=rows.length + k/\RowsOk lo 0 rows'/\τ'.cells=τ.cells
  | 0,τ,rows,z,ds,hk,hr,hR=>by
    have:ds=[]:=List.length_eq_zero_iff.mp hk
    subst this
    exact⟨τ,rows,_,_,z,Cs,rfl,hR,rfl⟩
  | k + 1,τ,rows,z,[],hk,hr,hR=>by simp at hk
  | k + 1,τ,rows,z,d :: ds,hk,hr,hR=>by
    obtain⟨r1,τ1,d1⟩:=draw τ 40 (by decide) (by decide)
    obtain⟨r2,τ2,d2⟩:=draw τ1 20 (by decide) (by decide)
    have a1:=d1.lo;have b1:=d1.hi;have c1:=d1.cl;have a2:=d2.lo;have b2:=d2.hi;have c2:=d2.cl
    have e1:=d1.c
    have e2:=d2.c
    have hl:DG rows.length:=CJ (by omega)
    have lst:(rows ++ [((rows.getLastD (lo,0)).1 + 1 + r1,(rows.getLastD (lo,0)).2 + r2)]).getLastD (lo,0)=((rows.getLastD (lo,0)).1 + 1 + r1,(rows.getLastD (lo,0)).2 + r2):=by simp
    obtain⟨τ',rows',s,t,z',e,l,R,c⟩:=Jh w way due wt lo k τ2 (rows ++ [((rows.getLastD (lo,0)).1 + 1 + r1,(rows.getLastD (lo,0)).2 + r2)]) (some d) ds (by simpa using hk) (by simp;omega) (hR.snoc (by omega) (by omega) (by omega) (by omega))
    refine⟨τ',rows',s,t,z',?_,by rw[l];simp;omega,R,by rw[c,c2,c1]⟩
    rw[<- e,lst]
    refine CF (ls1:=[some (.mu 1),some way,some due,some wt,some (.im (.int (rows.getLastD (lo,0)).1)),some (.im (.int (rows.getLastD (lo,0)).2)),some (.mu 2),some d]) rfl ?_ (AV _)
    have q:(tp τ2 ++ [MO.lst ((rows.map Bf).map D.im)])[2]? = some (.lst ((rows.map Bf).map D.im)):=rfl
    have q2:∀ x,(tp τ2 ++ [MO.lst ((rows.map Bf).map D.im)]).set 2 x=tp τ2 ++ [x]:=λ _=>rfl
    simp[e1,e2,hl,Bf]
theorem P4(τ:Tp)(way:Int)(h0:0 <= way)(h4:way < 5):∃ c τ' g,F_cost [.mu 1,.im (.int way)] (tp τ)=some (.im (B0 c),tp τ' ++ g)/\c.ok/\τ'.cells=τ.cells:=by
  obtain⟨r1,τ1,d1'⟩:=draw τ 4 (by decide) (by decide)
  have a1:=d1'.lo;have b1:=d1'.hi;have c1:=d1'.cl;have e1:=d1'.cN
  have key:∀ (due:Int) (τ2:Tp),-99 <= due->due <= 400->τ2.cells=τ.cells ->
      (∀ (ls:Ls),ls[0]? = some (some (.mu 1))->mIf (AQ (mOp gEq (AA 2 F_pick (A1 (A0 0) (A1 (mC (.int 4)) A4))) (mC (.int 0)))) (mOp CL (AA 2 F_pick (A1 (A0 0) (A1 (mC (.int 500)) A4))) (mC (.int 99))) (mOp CL (AA 2 F_pick (A1 (A0 0) (A1 (mC (.int 40)) A4))) (mC (.int 5))) ls (tp τ)=some (.im (.int due),tp τ2)) ->
      ∃ c τ' g,F_cost [.mu 1,.im (.int way)] (tp τ)=some (.im (B0 c),tp τ' ++ g)/\c.ok/\τ'.cells=τ.cells:=by
    intro due τ2 d1 d2 hc hE
    obtain⟨r3,τ3,d3'⟩:=draw τ2 10 (by decide) (by decide)
    have a3:=d3'.lo;have b3:=d3'.hi;have c3:=d3'.cl;have e3:=d3'.cN
    have hE:=hE [some (.mu 1),some (.im (.int way)),none,none,none,none,none,none] rfl
    have cases4:way=0 ∨ way=1 ∨ way=2 ∨ way=3 ∨ way=4:=by omega
    have e0:∀ (x y z u:D),atI [x,y,z,u] 3=some u:=λ x y z u=>FU (j:=3) rfl
    rcases cases4 with rfl|rfl|rfl|rfl|rfl
    . refine⟨.late due,τ3,[],?_,⟨d1,d2⟩,by rw[c3,hc]⟩
      simp only[F_cost,mkF,m_cost,Cv,Cf,List.map_cons,List.map_nil,List.length_cons,List.length_nil,List.cons_append,List.nil_append,List.replicate,Nat.reduceAdd,Nat.reduceSub,if_true]at hE ⊢
      rw[hE]
      simp[e3,B0]
    . refine⟨.tardy due r3,τ3,[],?_,⟨⟨d1,d2⟩,by omega,by omega⟩,by rw[c3,hc]⟩
      simp only[F_cost,mkF,m_cost,Cv,Cf,List.map_cons,List.map_nil,List.length_cons,List.length_nil,List.cons_append,List.nil_append,List.replicate,Nat.reduceAdd,Nat.reduceSub,if_true]at hE ⊢
      rw[hE]
      simp[e3,B0]
    . refine⟨.miss due r3,τ3,[],?_,⟨⟨d1,d2⟩,by omega,by omega⟩,by rw[c3,hc]⟩
      simp only[F_cost,mkF,m_cost,Cv,Cf,List.map_cons,List.map_nil,List.length_cons,List.length_nil,List.cons_append,List.nil_append,List.replicate,Nat.reduceAdd,Nat.reduceSub,if_true]at hE ⊢
      rw[hE]
      simp[e3,B0]
    . refine⟨.ends r3,τ3,[],?_,⟨by omega,by omega⟩,by rw[c3,hc]⟩
      simp only[F_cost,mkF,m_cost,Cv,Cf,List.map_cons,List.map_nil,List.length_cons,List.length_nil,List.cons_append,List.nil_append,List.replicate,Nat.reduceAdd,Nat.reduceSub,if_true]at hE ⊢
      rw[hE]
      simp[e3,B0,e0]
    . obtain⟨r4,τ4,d4'⟩:=draw τ3 5 (by decide) (by decide)
      have a4:=d4'.lo;have b4:=d4'.hi;have c4:=d4'.cl;have e4:=d4'.c
      obtain⟨τ',rows',s,t,z',e,l,R,c⟩:=Jh (.im .non) (.im (.int 4)) (.im (.int due)) (.im (.int r3)) (if 200 < due then 200 else due) (1 + r4).toNat τ4 [] none (Ac 0 (1 + r4).toNat) (ES _ _) (by simp;omega) trivial
      refine⟨.steps rows',τ',[.lst ((rows'.map Bf).map .im)],?_,⟨?_,by simp at l;omega,_,?_,?_,R⟩,by rw[c,c4,c3,hc]⟩
      . simp only[F_cost,mkF,m_cost,Cv,Cf,List.map_cons,List.map_nil,List.length_cons,List.length_nil,List.cons_append,List.nil_append,List.replicate,Nat.reduceAdd,Nat.reduceSub,if_true]at hE ⊢
        rw[hE]
        have q:(tp τ' ++ [MO.lst ((rows'.map Bf).map D.im)])[2]? = some (.lst ((rows'.map Bf).map D.im)):=rfl
        have bd:Ej (1 + r4):=CN (by omega) (by omega)
        have nil0:tp τ3 ++ [MO.lst ([]:List D)]=tp τ3 ++ [.lst ((([]:List (Int × Int)).map Bf).map .im)]:=rfl
        have e':=e
        simp only[List.getLastD_nil,List.map_nil]at e'
        have e'':(D.im ∘ Bf)=λ r=>D.im (Bf r):=rfl
        simp only[List.map_map]at e'
        have tt:Ao (List.map (D.im ∘ Bf) rows')=.im (.tup (rows'.map Bf)):=by rw[<- List.map_map];exact Cr _
        simp[e3,e4,bd,e',B5,B0,tt]
      . intro z;rw[z]at l;simp at l;omega
      . split <;> omega
      . split <;> omega
  by_cases h:r1=0
  . obtain⟨r2,τ2,d2'⟩:=draw τ1 500 (by decide) (by decide)
    have a2:=d2'.lo;have b2:=d2'.hi;have c2:=d2'.cl;have e2:=d2'.cN
    exact key (r2 - 99) τ2 (by omega) (by omega) (by rw[c2,c1]) λ ls hls=>by simp[e1,e2,hls,h]
  . obtain⟨r2,τ2,d2'⟩:=draw τ1 40 (by decide) (by decide)
    have a2:=d2'.lo;have b2:=d2'.hi;have c2:=d2'.cl;have e2:=d2'.cN
    exact key (r2 - 5) τ2 (by omega) (by omega) (by rw[c2,c1]) λ ls hls=>by simp[e1,e2,hls,h]
end Bd
namespace Bd
open PySem L2
structure Wk where
  len:Int
  com:Int
  cost:Cost
noncomputable def Az(w:Wk):I:=.tup [.int w.len,.int w.com,B0 w.cost]
structure Wk.ok(w:Wk):Prop where
  l1:1 <= w.len
  l2:w.len <= 20
  c1:0 <= w.com
  c2:w.com <= 60
  co:w.cost.ok
noncomputable abbrev AU(ws:List Wk):I:=.tup (ws.map Az)
structure DrawnI(F:List D->Hd->Option (D × Hd))(τ:Tp)(as:List D)(i:I)(τ':Tp):Prop where
  cl:τ'.cells=τ.cells
  eq:∃ g,F (.mu 1 :: as) (tp τ)=some (.im i,tp τ' ++ g)
theorem DrawnI.gen{F:List D->Hd->Option (D × Hd)}{τ τ':Tp}{as:List D}{i:I}(h:DrawnI F τ as i τ'){ls:Ls}{hd rest:Hd}{m:MA}(e:m ls hd=some (.mu 1 :: as,tp τ ++ rest))(ha:BF 2 as=true):AA 2 F m ls hd=some (.im i,tp τ' ++ rest):=by
  obtain⟨g,q⟩:=h.eq
  exact G0 (w:=2) (ds:=.mu 1 :: as) (pre:=tp τ) (pre':=tp τ') (rest:=rest) (g:=g) rfl rfl e (by simp[ha]) (Hu _) (Hu _) q
theorem Qw(τ:Tp)(way:Int)(h0:0 <= way)(h4:way < 5):∃ c τ',c.ok/\DrawnI F_cost τ [.im (.int way)] (B0 c) τ':=by
  obtain⟨c,τ',g,e,a,b⟩:=P4 τ way h0 h4
  exact⟨c,τ',a,b,g,e⟩
noncomputable abbrev JK:MS:=(A8 (AK 7 (mIf (Dv (A0 2)) (A0 3) (AA 2 F_pick (A1 (A0 0) (A1 (E3 (BE (A1 (mC (.int 8)) (A1 (mC (.int 61)) A4))) (AA 2 F_pick (A1 (A0 0) (A1 (mC (.int 2)) A4)))) A4)))))
    (Bo (mMt B8 (A0 5) (A1 (BQ (A1 (mOp Aa (mC (.int 1)) (AA 2 F_pick (A1 (A0 0) (A1 (A0 4) A4)))) (A1 (A0 7) (A1 (AA 2 F_cost (A1 (A0 0) (A1 (AA 2 F_pick (A1 (A0 0) (A1 (mC (.int 5)) A4))) A4))) A4)))) A4))))
theorem Ll(alike:Bool)(begin_:Int)(hb:0 <= begin_/\begin_ <= 60)(τ:Tp):∃ com τ',(0 <= com/\com <= 60)/\(alike=true->com=begin_)/\τ'.cells=τ.cells/\∀ (ls:Ls) (rest:Hd),ls[0]? = some (some (.mu 1))->ls[2]? = some (some (.im (.bl alike)))->ls[3]? = some (some (.im (.int begin_))) ->
    mIf (Dv (A0 2)) (A0 3) (AA 2 F_pick (A1 (A0 0) (A1 (E3 (BE (A1 (mC (.int 8)) (A1 (mC (.int 61)) A4))) (AA 2 F_pick (A1 (A0 0) (A1 (mC (.int 2)) A4)))) A4))) ls (tp τ ++ rest)=some (.im (.int com),tp τ' ++ rest):=by
  cases alike with
  | true=>exact⟨begin_,τ,hb,λ _=>rfl,rfl,λ ls rest h0 h2 h3=>by simp[h2,h3,Dn]⟩
  | false=>
    obtain⟨r1,τ1,d1⟩:=draw τ 2 (by decide) (by decide)
    have e1:=d1.c
    have a1:=d1.lo;have b1:=d1.hi
    have hx:∃ x:Int,(x=8 ∨ x=61)/\atI [D.im (.int 8),D.im (.int 61)] r1=some (.im (.int x)):=by
      have:r1=0 ∨ r1=1:=by omega
      rcases this with rfl|rfl
      . exact⟨8,.inl rfl,BY _ _⟩
      . exact⟨61,.inr rfl,E7 _ _ _⟩
    obtain⟨x,hx1,hx2⟩:=hx
    obtain⟨r2,τ2,d2⟩:=draw τ1 x (by omega) (by omega)
    have a2:=d2.lo;have b2:=d2.hi
    refine⟨r2,τ2,by omega,(λ h=>by cases h),by rw[d2.cl,d1.cl],λ ls rest h0 h2 h3=>?_⟩
    simp only[WC,Op,Cu,h2,Option.bind_some,Dn,Option.map_some,Bool.false_eq_true,if_false]
    exact d2.gen (by simp[h0,e1,hx2])
theorem Hr(alike:Bool)(begin_ wide:Int)(many:D)(hb:0 <= begin_/\begin_ <= 60)(hw:0 < wide/\wide <= 20):∀ (k:Nat) (τ:Tp) (ws:List Wk) (z z2:Option D) (ds:List D),ds.length=k->ws.length + k <= 1000->(∀ w ∈ ws,w.ok/\(alike=true->w.com=begin_))->∃ (τ':Tp) (ws':List Wk) (z' z2':Option D),BL (AG 6) JK [] ds
      [some (.mu 1),some many,some (.im (.bl alike)),some (.im (.int begin_)),some (.im (.int wide)),some (.mu 2),z,z2] (tp τ ++ [.lst (ws.map λ w=>.im (Az w))]) =
      some (.nx [some (.mu 1),some many,some (.im (.bl alike)),some (.im (.int begin_)),some (.im (.int wide)),some (.mu 2),z',z2'],tp τ' ++ [.lst (ws'.map λ w=>.im (Az w))])/\ws'.length=ws.length + k/\(∀ w ∈ ws',w.ok/\(alike=true->w.com=begin_))/\τ'.cells=τ.cells
  | 0,τ,ws,z,z2,ds,hk,hr,hR=>by
    have:ds=[]:=List.length_eq_zero_iff.mp hk
    subst this
    exact⟨τ,ws,z,z2,Cs,rfl,hR,rfl⟩
  | k + 1,τ,ws,z,z2,[],hk,hr,hR=>by simp at hk
  | k + 1,τ,ws,z,z2,d :: ds,hk,hr,hR=>by
    obtain⟨com,τ1,hc,hal,c1,e1⟩:=Ll alike begin_ hb τ
    obtain⟨r2,τ2,d2⟩:=draw τ1 wide hw.1 (by omega)
    have e2:=d2.v
    have a2:=d2.lo;have b2:=d2.hi
    obtain⟨r3,τ3,d3⟩:=draw τ2 5 (by decide) (by decide)
    have e3:=d3.c
    obtain⟨co,τ4,hco,d4⟩:=Qw τ3 r3 d3.lo d3.hi
    have hl:DG ws.length:=CJ (by omega)
    obtain⟨τ',ws',z',z2',e,l,R,c⟩:=Hr alike begin_ wide many hb hw k τ4 (ws ++ [⟨1 + r2,com,co⟩]) (some d) (some (.im (.int com))) ds (by simpa using hk) (by simp;omega) (by
      intro w hw'
      rcases List.mem_append.mp hw' with h|h
      . exact hR w h
      . simp at h;subst h;exact⟨⟨by simp;omega,by simp;omega,hc.1,hc.2,hco⟩,hal⟩)
    refine⟨τ',ws',z',z2',?_,by rw[l];simp;omega,R,by rw[c,d4.cl,d3.cl,d2.cl,c1]⟩
    rw[<- e]
    refine CF (ls1:=[some (.mu 1),some many,some (.im (.bl alike)),some (.im (.int begin_)),some (.im (.int wide)),some (.mu 2),some d,z2]) rfl ?_ (AV _)
    have f1:=e1 [some (.mu 1),some many,some (.im (.bl alike)),some (.im (.int begin_)),some (.im (.int wide)),some (.mu 2),some d,z2] [.lst (ws.map λ w=>.im (Az w))] rfl rfl rfl
    have f4:=d4.gen (ls:=[some (.mu 1),some many,some (.im (.bl alike)),some (.im (.int begin_)),some (.im (.int wide)),some (.mu 2),some d,some (.im (.int com))]) (hd:=tp τ2 ++ [.lst (ws.map λ w=>.im (Az w))]) (rest:=[.lst (ws.map λ w=>.im (Az w))]) (m:=A1 (A0 0) (A1 (AA 2 F_pick (A1 (A0 0) (A1 (mC (.int 5)) A4))) A4)) (by simp[e3]) (by simp)
    simp only[JK,Cv,Cf,f1,Option.bind_some,Ee,Option.map_some]
    simp[e2,f4,hl]
    simp[Az]
theorem Mk(τ:Tp)(many:Int)(alike:Bool)(h0:0 <= many)(h8:many <= 100):∃ (ws:List Wk) (τ':Tp),(ws.length=many.toNat/\(∀ w ∈ ws,w.ok)/\(alike=true->∃ b,∀ w ∈ ws,w.com=b))/\DrawnI F_works τ [.im (.int many),.im (.bl alike)] (AU ws) τ':=by
  obtain⟨r1,τ1,d1⟩:=draw τ 61 (by decide) (by decide)
  obtain⟨r2,τ2,d2⟩:=draw τ1 2 (by decide) (by decide)
  obtain⟨r3,τ3,d3⟩:=draw τ2 2 (by decide) (by decide)
  have e1:=d1.cN;have e2:=d2.cN;have e3:=d3.cN
  have a1:=d1.lo;have b1:=d1.hi;have a2:=d2.lo;have b2:=d2.hi;have a3:=d3.lo;have b3:=d3.hi
  have hx:∃ x:Int,(x=3 ∨ x=20)/\atI [D.im (.int 3),D.im (.int 20)] r3=some (.im (.int x)):=by
    have:r3=0 ∨ r3=1:=by omega
    rcases this with rfl|rfl
    . exact⟨3,.inl rfl,BY _ _⟩
    . exact⟨20,.inr rfl,E7 _ _ _⟩
  obtain⟨x,hx1,hx2⟩:=hx
  have hb:0 <= r1 * r2/\r1 * r2 <= 60:=by
    have:r2=0 ∨ r2=1:=by omega
    rcases this with rfl|rfl <;> omega
  obtain⟨τ',ws',z',z2',e,l,R,c⟩:=Hr alike (r1 * r2) x (.im (.int many)) hb (by omega) many.toNat τ3 [] none none (Ac 0 many.toNat) (ES _ _) (by simp;omega) (by simp)
  refine⟨ws',τ',⟨by simpa using l,λ w hw=>(R w hw).1,λ ha=>⟨r1 * r2,λ w hw=>(R w hw).2 ha⟩⟩,by rw[c,d3.cl,d2.cl,d1.cl],[.lst (ws'.map λ w=>.im (Az w))],?_⟩
  have bm:∀ j,Dt r1 j:=λ j=>Ci (by omega) (by omega)
  have bd:Ej many:=CN (by omega) (by omega)
  have tt:Ao (ws'.map λ w=>D.im (Az w))=.im (AU ws'):=by
    have:(ws'.map λ w=>D.im (Az w))=(ws'.map Az).map D.im:=by rw[List.map_map];rfl
    rw[this];exact Cr _
  simp only[List.map_nil]at e
  simp[F_works,mkF,e1,e2,e3,bm,hx2,bd,e,B5,tt]
end Bd
namespace L2
theorem LL{α:Type}{n:MG}{c:MT}{m:ME}{g:Gd}{hd:Hd}(hg:GOk hd g)(f:α->D)(k:α->Option D):∀ {xs:List α} {ls:Ls} (P:Ls->Prop),P ls ->
    (∀ x ∈ xs,∀ ls,P ls->∃ ls1,n (f x) ls hd=some ls1/\P ls1/\((k x=none/\c ls1 hd=some (false,hd)) ∨ ∃ z,k x=some z/\c ls1 hd=some (true,hd)/\m ls1 hd=some (z,hd)))->B2 n c m g (xs.map f) ls hd=some (xs.filterMap k,hd)
  | [],ls,P,h,_=>by unfold B2;rfl
  | x :: r,ls,P,h,q=>by
    obtain⟨ls1,e1,p1,q1⟩:=q x List.mem_cons_self ls h
    have ih:=LL hg f k (xs:=r) (ls:=ls1) P p1 λ d hd ls hp=>q d (List.mem_cons_of_mem _ hd) ls hp
    rw[List.map_cons]
    unfold B2
    rcases q1 with⟨kn,c1⟩|⟨z,kz,c1,m1⟩
    . simp[e1,c1,hg,ih,kn]
    . simp[e1,c1,m1,hg,ih,kz]
theorem LM{α:Type}{n:MG}{m:ME}{g:Gd}{hd:Hd}(hg:GOk hd g)(f:α->D)(k:α->D){xs:List α}{ls:Ls}(P:Ls->Prop)(h:P ls)
    (q:∀ x ∈ xs,∀ ls,P ls->∃ ls1,n (f x) ls hd=some ls1/\P ls1/\m ls1 hd=some (k x,hd)):B2 n CT m g (xs.map f) ls hd=some (xs.map k,hd):=by
  have:=LL (c:=CT) hg f (λ x=>some (k x)) (xs:=xs) P h λ x hx ls hp=>by
    obtain⟨ls1,e1,p1,e2⟩:=q x hx ls hp
    exact⟨ls1,e1,p1,.inr ⟨_,rfl,rfl,e2⟩⟩
  rw[this]
  simp
end L2
namespace Bd
open PySem L2
noncomputable abbrev BS(es:List Int):I:=.tup (es.map I.int)
noncomputable def FS(ws:List Wk)(es:List Int):List Int:=List.zipWith (λ w e=>w.cost.at e) ws es
theorem Nu(ws:List Wk)(es:List Int):List.zipWith (λ x y=>Ao [x,y]) ((ws.map Az).map D.im) ((es.map I.int).map D.im)=(List.zip ws es).map λ p=>D.im (.tup [Az p.1,.int p.2]):=by
  induction ws generalizing es with
  | nil=>simp
  | cons w ws ih=>
    cases es with
    | nil=>simp
    | cons e es=>simp only[List.map_cons,List.zipWith_cons_cons,List.zip_cons_cons,MJ,ih]
theorem Nk(ws:List Wk)(es:List Int):(List.zip ws es).map (λ p=>p.1.cost.at p.2)=FS ws es:=by
  unfold FS
  rw[List.zip_eq_zipWith,List.map_zipWith]
theorem Td(ns:List Int):(ns.map λ i=>D.im (.int i))=(ns.map I.int).map D.im:=by rw[List.map_map];rfl
theorem Du(ns:List Int):Ao (ns.map λ i=>D.im (.int i))=.im (BS ns):=by rw[Td];exact Cr _
theorem Lk(ws:List Wk)(es:List Int)(h:∀ w ∈ ws,w.cost.wok)(hl:ws.length <= 1000):F_costs_of [.im (AU ws),.im (BS es)] []=some (.im (BS (FS ws es)),[]):=by
  have hz:Ck (List.zip ws es).length:=BC (by simp;omega)
  have hc:=LM (hd:=[]) (n:=CH 2 (Ad (AG 0) (Ad (AG 1) CI))) (m:=AA 0 F_cost_at (A1 (mOp gIx (A0 0) (mC (.int 2))) (A1 (A0 1) A4))) (AV []) (λ p:Wk × Int=>D.im (.tup [Az p.1,.int p.2])) (λ p=>.im (.int (p.1.cost.at p.2))) (xs:=List.zip ws es) (ls:=[none,none]) (λ ls=>ls.length=2) rfl λ p hp ls hls=>by
    match ls,hls with
    | [a,b],_=>
      refine⟨[some (.im (Az p.1)),some (.im (.int p.2))],by simp,rfl,?_⟩
      exact Gg (ds:=[.im (B0 p.1.cost),.im (.int p.2)]) (by simp[Az]) (by simp) (Nl p.1.cost p.2 (h p.1 (List.of_mem_zip hp).1))
  have hi:List.map (λ p:Wk × Int=>D.im (.int (p.1.cost.at p.2))) (List.zip ws es)=(FS ws es).map λ i=>D.im (.int i):=by rw[<- Nk,List.map_map];rfl
  have gk:GOk [] []:=AV []
  simp only[F_costs_of,mkF,m_costs_of,Os,LG,MX,Kr,Ic,Cu,List.map_cons,List.map_nil,List.length_cons,List.length_nil,List.cons_append,List.nil_append,List.replicate,Nat.reduceAdd,Nat.reduceSub,if_true,List.getElem?_cons_zero,List.getElem?_cons_succ,Option.bind_some,KJ,Option.map_some,gk,Nu,List.length_map,hz,EC,List.append_nil]
  rw[hc,hi]
  simp[B5,Du]
noncomputable def Ak(p:Nat × Int × Int):I:=.tup [.int p.1,.int p.2.1,.int p.2.2]
noncomputable def Bt(ws:List Wk):List Nat->Int->List (Nat × Int × Int)
  | [],_=>[]
  | k :: r,e=>match ws[k]? with
    | some w=>(k,(if e > w.com then e else w.com),(if e > w.com then e else w.com) + w.len) :: Bt ws r ((if e > w.com then e else w.com) + w.len)
    | none=>[]
noncomputable abbrev Cl(ks:List Nat):I:=.tup (ks.map λ k:Nat=>.int k)
theorem Qi{α:Type}(ws:List α):ws.map (λ _=>D.im (.int 0))=(List.replicate ws.length 0).map λ i=>D.im (.int i):=by induction ws <;> simp_all [List.replicate_succ]
noncomputable abbrev Lu:MS:=(A8 (Fs (mOp gIx (A0 0) (A0 4)) (CH 3 (Ad (AG 5) (Ad (AG 6) (Ad (AG 7) CI)))))
    (A8 (AK 8 (mCB Gz (A1 (A0 6) (A1 (A0 3) A4))))
    (A8 (AK 3 (mOp Aa (A0 8) (A0 5)))
    (Bo (mMt B8 (A0 2) (A1 (BQ (A1 (A0 4) (A1 (A0 8) (A1 (A0 3) A4)))) A4))))))
theorem KY(ws:List Wk)(o:D):∀ (ks:List Nat) (e:Int) (ps:List (Nat × Int × Int)) (a b c d f:Option D),(∀ k ∈ ks,k < ws.length)->ps.length + ks.length <= 1000->∃ e' a' b' c' d' f',BL (AG 4) Lu [] (ks.map λ k:Nat=>.im (.int k))
      [some (.im (AU ws)),some o,some (.mu 0),some (.im (.int e)),a,b,c,d,f] [.lst (ps.map λ p=>.im (Ak p))]=some (.nx [some (.im (AU ws)),some o,some (.mu 0),e',a',b',c',d',f'],[.lst ((ps ++ Bt ws ks e).map λ p=>.im (Ak p))])
  | [],e,ps,a,b,c,d,f,_,_=>⟨_,a,b,c,d,f,by simp[Bt,Cs];rfl⟩
  | k :: ks,e,ps,a,b,c,d,f,h,hl=>by
    have hk:=h k List.mem_cons_self
    have hw:ws[k]? = some ws[k]:=by simp[hk]
    generalize ws[k]=w at hw
    obtain⟨e',a',b',c',d',f',q⟩:=KY ws o ks ((if e > w.com then e else w.com) + w.len) (ps ++ [(k,(if e > w.com then e else w.com),(if e > w.com then e else w.com) + w.len)]) (some (.im (.int k))) (some (.im (.int w.len))) (some (.im (.int w.com))) (some (.im (B0 w.cost))) (some (.im (.int (if e > w.com then e else w.com)))) (λ k hk=>h k (List.mem_cons_of_mem _ hk)) (by simp at hl ⊢;omega)
    refine⟨e',a',b',c',d',f',?_⟩
    have hp:DG ps.length:=CJ (by simp at hl;omega)
    have at1:atI ((ws.map Az).map D.im) (k:Int)=some (.im (Az w)):=Gi rfl (by simp[hw])
    rw[show Bt ws (k :: ks) e=(k,(if e > w.com then e else w.com),(if e > w.com then e else w.com) + w.len) :: Bt ws ks ((if e > w.com then e else w.com) + w.len) by rw[Bt,hw]]
    rw[List.append_assoc]at q
    rw[List.singleton_append]at q
    rw[<- q,List.map_cons]
    refine CF (ls1:=[some (.im (AU ws)),some o,some (.mu 0),some (.im (.int e)),some (.im (.int k)),b,c,d,f]) rfl ?_ (AV _)
    simp only[Lu,Cv,Cf,Ia,Cu,List.getElem?_cons_zero,List.getElem?_cons_succ,Option.bind_some,Ng,Hx,at1,Option.map_some]
    simp[Az,hp,Ak]
theorem U6(ws:List Wk)(ks:List Nat)(h:∀ k ∈ ks,k < ws.length)(hl:ks.length <= 1000):∃ g,F_run [.im (AU ws),.im (Cl ks)] []=some (.im (.tup ((Bt ws ks 0).map Ak)),g):=by
  obtain⟨e',a',b',c',d',f',q⟩:=KY ws (.im (Cl ks)) ks 0 [] none none none none none h (by simpa using hl)
  have tt:∀ ps:List (Nat × Int × Int),Ao (ps.map λ p=>D.im (Ak p))=.im (.tup (ps.map Ak)):=λ ps=>by
    have:(ps.map λ p=>D.im (Ak p))=(ps.map Ak).map D.im:=by rw[List.map_map];rfl
    rw[this];exact Cr _
  have kk:(ks.map λ k:Nat=>I.int k).map D.im=ks.map λ k:Nat=>D.im (.int k):=by rw[List.map_map];rfl
  simp only[List.map_nil,List.nil_append]at q
  refine⟨[.lst ((Bt ws ks 0).map λ p=>.im (Ak p))],?_⟩
  simp only[F_run,mkF,m_run,Cv,Cf,Ib,LF,FQ,LH,Ie,Ic,Cu,List.map_cons,List.map_nil,List.length_cons,List.length_nil,List.cons_append,List.nil_append,List.replicate,Nat.reduceAdd,Nat.reduceSub,if_true,Option.bind_some,Oo,Ee,Option.map_some,List.set_cons_succ,List.set_cons_zero,List.getElem?_cons_zero,List.getElem?_cons_succ,KJ,kk]
  rw[q]
  simp[B5,tt]
noncomputable def EX(es:List Int):List (Nat × Int × Int)->List Int
  | []=>es
  | p :: r=>EX (es.set p.1 p.2.2) r
theorem Jf(w o:D):∀ (ps:List (Nat × Int × Int)) (es:List Int) (a b c:Option D),(∀ p ∈ ps,p.1 < es.length)->∃ a' b' c',BL (CH 3 (Ad (AG 3) (Ad (AG 4) (Ad (AG 5) CI)))) (Ev (A0 2) (A0 3) (A0 5)) [] (ps.map λ p=>.im (Ak p))
      [some w,some o,some (.mu 0),a,b,c] [.lst (es.map λ i=>.im (.int i))]=some (.nx [some w,some o,some (.mu 0),a',b',c'],[.lst ((EX es ps).map λ i=>.im (.int i))])
  | [],es,a,b,c,_=>⟨a,b,c,Cs⟩
  | (k,x,y) :: ps,es,a,b,c,h=>by
    obtain⟨a',b',c',q⟩:=Jf w o ps (es.set k y) (some (.im (.int k))) (some (.im (.int x))) (some (.im (.int y))) (λ p hp=>by simpa using h p (List.mem_cons_of_mem _ hp))
    refine⟨a',b',c',?_⟩
    have hk:k < es.length:=h _ List.mem_cons_self
    have ix:ixN es.length (k:Int)=some k:=by unfold ixN;rw[if_pos (by omega),if_pos (by omega)];simp
    rw[show EX es ((k,x,y) :: ps)=EX (es.set k y) ps from rfl,<- q,List.map_cons]
    refine CF (ls1:=[some w,some o,some (.mu 0),some (.im (.int k)),some (.im (.int x)),some (.im (.int y))]) (by simp[Ak]) ?_ (AV _)
    simp[ix]
theorem Nh(ws:List Wk)(ps:List (Nat × Int × Int))(h:∀ p ∈ ps,p.1 < ws.length)(hl:ws.length <= 1000):∃ g,F_ends_of [.im (AU ws),.im (.tup (ps.map Ak))] []=some (.im (BS (EX (List.replicate ws.length 0) ps)),g):=by
  obtain⟨a',b',c',q⟩:=Jf (.im (AU ws)) (.im (.tup (ps.map Ak))) ps (List.replicate ws.length 0) none none none (λ p hp=>by simpa using h p hp)
  have hz:Ck ws.length:=BC (by omega)
  have hc:=LM (hd:=[]) (n:=AG 0) (m:=mC (.int 0)) (AV []) (λ w:Wk=>D.im (Az w)) (λ _=>.im (.int 0)) (xs:=ws) (ls:=[none]) (λ ls=>ls.length=1) rfl λ w hw ls hls=>by
    match ls,hls with
    | [a],_=>exact⟨[some (.im (Az w))],rfl,rfl,rfl⟩
  have hr:=Qi ws
  have w1:(ws.map Az).map D.im=ws.map λ w=>D.im (Az w):=by rw[List.map_map];rfl
  have p1:(ps.map Ak).map D.im=ps.map λ p=>D.im (Ak p):=by rw[List.map_map];rfl
  rw[hr]at hc
  refine⟨[.lst ((EX (List.replicate ws.length 0) ps).map λ i=>.im (.int i))],?_⟩
  simp only[F_ends_of,mkF,m_ends_of,Cv,Cf,Ib,MX,Ic,Cu,Ie,List.map_cons,List.map_nil,List.length_cons,List.length_nil,List.cons_append,List.nil_append,List.replicate,Nat.reduceAdd,Nat.reduceSub,if_true,List.getElem?_cons_zero,List.getElem?_cons_succ,Option.bind_some,KJ,Option.map_some,w1,p1,List.length_map,hz,EC,List.append_nil,hc,Ee,List.set_cons_succ,List.set_cons_zero]
  rw[q]
  simp[B5,Du]
end Bd
namespace L2
open PySem PySem.Spec PyProof.Rows
structure OkP(w dp:Nat)(d:PyData):Prop where
  sh:d.showable=true
  lay:d.canLay0=true
  it:d.intsShort 13=true
  dp:d.depth <= dp
  wt:d.weight <= w
structure OkPs(w dp n:Nat)(ds:List PyData):Prop where
  sh:PyData.showableAll ds=true
  lay:PyData.canLayAll0 ds=true
  it:PyData.intsShortAll 13 ds=true
  dp:PyData.depthAll ds <= dp
  wt:PyData.weightAll ds <= n * (w + 1)
noncomputable def sm(i:Int):Prop:=-1000000000 <= i/\i <= 1000000000
theorem OkP.int{i:Int}(h:sm i):OkP 40 0 (.int i):=by
  have h1:i.natAbs < 10 ^ 10:=by obtain⟨a,b⟩:=h;omega
  have h0:i.natAbs < 2 ^ 38:=by obtain⟨a,b⟩:=h;omega
  have lg:i.natAbs.log2 < 38:=by
    by_cases z:i.natAbs=0
    . rw[z];decide
    . exact(Nat.log2_lt z).mpr h0
  refine⟨?_,by simp[PyData.canLay0],?_,by simp[PyData.depth],?_⟩
  . simp only[PyData.showable];exact decide_eq_true (by omega)
  . simp only[PyData.intsShort,PyData.shown]
    refine decide_eq_true ?_
    have h2:=int_text_length_le10 (a:=i) (k:=10) (by decide) h1
    rw[PySem.ofString_length]
    omega
  . simp only[PyData.weight]
    split <;> omega
theorem OkP.mono{w w' dp dp':Nat}{d:PyData}(h:OkP w dp d)(a:w <= w')(b:dp <= dp'):OkP w' dp' d:=⟨h.sh,h.lay,h.it,Nat.le_trans h.dp b,Nat.le_trans h.wt a⟩
theorem OkPs.nil{w dp:Nat}:OkPs w dp 0 []:=⟨by simp[PyData.showableAll],by simp[PyData.canLayAll0],by simp[PyData.intsShortAll],by simp[PyData.depthAll],by simp[PyData.weightAll]⟩
theorem OkPs.cons{w dp n:Nat}{d:PyData}{ds:List PyData}(h:OkP w dp d)(t:OkPs w dp n ds):OkPs w dp (n + 1) (d :: ds):=by
  refine⟨by simp[PyData.showableAll,h.sh,t.sh],by simp[PyData.canLayAll0,h.lay,t.lay],by simp[PyData.intsShortAll,h.it,t.it],?_,?_⟩
  . simp only[PyData.depthAll];exact Nat.max_le.mpr ⟨h.dp,t.dp⟩
  . simp only[PyData.weightAll]
    have:=h.wt;have:=t.wt
    rw[Nat.add_mul];omega
theorem OkPs.tup{w dp n:Nat}{ds:List PyData}(t:OkPs w dp n ds):OkP (n * (w + 1)) (dp + 1) (.tuple ds):=by
  refine⟨?_,?_,?_,?_,?_⟩
  . rw[PyData.showable];exact t.sh
  . rw[PyData.canLay0];exact t.lay
  . rw[PyData.intsShort];exact t.it
  . rw[PyData.depth];have:=t.dp;omega
  . rw[PyData.weight];exact t.wt
theorem OkP.repr{w dp:Nat}{d:PyData}(h:OkP w dp d)(hd:isDisplay d=true)(h1:dp <= 30)(h2:w <= 2 ^ 20):Ce d:=by
  have hl:d.layable0=true:=by
    unfold PyData.layable0
    rw[h.lay,decide_eq_true (show d.depth <= 64 by have:=h.dp;omega),decide_eq_true (show d.weight <= 2 ^ 20 by have:=h.wt;omega)]
    rfl
  exact⟨h.sh,PyData.hasDict_of_canLay d h.lay,hd,Nat.le_trans h.dp h1,Nat.le_trans (PyProof.Rows.shown_le13 hl h.it) (by decide)⟩
theorem OW{w dp:Nat}:∀ {is:List I},(∀ i ∈ is,OkP w dp i.py)->OkPs w dp is.length (I.pys is)
  | [],_=>by simp only[I.pys];exact OkPs.nil
  | i :: is,h=>by simp only[I.pys,List.length_cons];exact(OW λ j hj=>h j (List.mem_cons_of_mem _ hj)).cons (h i List.mem_cons_self)
theorem C0{w dp:Nat}{is:List I}(h:∀ i ∈ is,OkP w dp i.py):OkP (is.length * (w + 1)) (dp + 1) (I.py (.tup is)):=by
  rw[I.py];exact(OW h).tup
theorem DB{i:Int}(h:sm i):OkP 40 0 (I.py (.int i)):=by rw[I.py];exact .int h
end L2
namespace Bd
open PySem L2
theorem TH(x:Str)(h:x="late" ∨ x="tardy" ∨ x="miss" ∨ x="ends" ∨ x="steps"):OkP 40 0 (I.py (.str x)):=by
  rw[I.py]
  rcases h with rfl|rfl|rfl|rfl|rfl <;> exact⟨by decide +kernel,by decide +kernel,by decide +kernel,by decide +kernel,by decide +kernel⟩
theorem Lv:∀ {rows:List (Int × Int)} {lo bot:Int},RowsOk lo bot rows->rows.length <= 5->-99 <= lo->0 <= bot->lo <= 200 + 40 * (5 - rows.length)->bot <= 19 * (5 - rows.length)->∀ r ∈ rows,sm r.1/\sm r.2
  | [],_,_,_,_,_,_,_,_=>λ r h=>by cases h
  | (b,a) :: rows,lo,bot,⟨h1,h2,h3,h4,h5⟩,hl,p1,p2,p3,p4=>λ r h=>by
    simp only[List.length_cons]at hl p3 p4
    rcases List.mem_cons.mp h with rfl|h
    . exact⟨⟨by show -1000000000 <= b;omega,by show b <= 1000000000;omega⟩,⟨by show -1000000000 <= a;omega,by show a <= 1000000000;omega⟩⟩
    . exact Lv h5 (by omega) (by omega) (by omega) (by omega) (by omega) r h
theorem ok_cost{c:Cost}(h:c.ok):OkP 1000 3 (I.py (B0 c)):=by
  have i1:∀ {i:Int},sm i->OkP 40 2 (I.py (.int i)):=λ h=>(DB h).mono (by omega) (by omega)
  have s1:∀ {x:Str},(x="late" ∨ x="tardy" ∨ x="miss" ∨ x="ends" ∨ x="steps")->OkP 40 2 (I.py (.str x)):=λ h=>(TH _ h).mono (by omega) (by omega)
  cases c with
  | late d=>
    refine(C0 (w:=40) (dp:=2) (is:=[.str "late",.int d]) λ i hi=>?_).mono (by simp) (by omega)
    simp at hi
    rcases hi with rfl|rfl
    . exact s1 (by simp)
    . exact i1 ⟨by have:=h.1;omega,by have:=h.2;omega⟩
  | tardy d w=>
    refine(C0 (w:=40) (dp:=2) (is:=[.str "tardy",.int d,.int w]) λ i hi=>?_).mono (by simp) (by omega)
    obtain⟨⟨h1,h2⟩,h3,h4⟩:=h
    simp at hi
    rcases hi with rfl|rfl|rfl
    . exact s1 (by simp)
    . exact i1 ⟨by omega,by omega⟩
    . exact i1 ⟨by omega,by omega⟩
  | miss d w=>
    refine(C0 (w:=40) (dp:=2) (is:=[.str "miss",.int d,.int w]) λ i hi=>?_).mono (by simp) (by omega)
    obtain⟨⟨h1,h2⟩,h3,h4⟩:=h
    simp at hi
    rcases hi with rfl|rfl|rfl
    . exact s1 (by simp)
    . exact i1 ⟨by omega,by omega⟩
    . exact i1 ⟨by omega,by omega⟩
  | ends w=>
    refine(C0 (w:=40) (dp:=2) (is:=[.str "ends",.int w]) λ i hi=>?_).mono (by simp) (by omega)
    obtain⟨h3,h4⟩:=h
    simp at hi
    rcases hi with rfl|rfl
    . exact s1 (by simp)
    . exact i1 ⟨by omega,by omega⟩
  | steps rows=>
    obtain⟨h1,h2,lo,h3,h4,h5⟩:=h
    have hr:=Lv h5 h2 h3 (by omega) (by omega) (by omega)
    have hrow:OkP 420 2 (I.py (.tup (rows.map Bf))):=by
      refine(C0 (w:=82) (dp:=1) (is:=rows.map Bf) λ i hi=>?_).mono (by simp;omega) (by omega)
      obtain⟨r,hr1,rfl⟩:=List.mem_map.mp hi
      refine(C0 (w:=40) (dp:=0) (is:=[.int r.1,.int r.2]) λ j hj=>?_).mono (by simp) (by omega)
      simp at hj
      rcases hj with rfl|rfl
      . exact DB (hr r hr1).1
      . exact DB (hr r hr1).2
    refine(C0 (w:=420) (dp:=2) (is:=[.str "steps",.tup (rows.map Bf)]) λ i hi=>?_).mono (by simp) (by omega)
    simp at hi
    rcases hi with rfl|rfl
    . exact(s1 (by simp)).mono (by omega) (by omega)
    . exact hrow
theorem TF{w:Wk}(h:w.ok):OkP 3003 4 (I.py (Az w)):=by
  refine(C0 (w:=1000) (dp:=3) (is:=[.int w.len,.int w.com,B0 w.cost]) λ i hi=>?_).mono (by simp) (by omega)
  have:=h.l1;have:=h.l2;have:=h.c1;have:=h.c2
  simp at hi
  rcases hi with rfl|rfl|rfl
  . exact(DB ⟨by omega,by omega⟩).mono (by omega) (by omega)
  . exact(DB ⟨by omega,by omega⟩).mono (by omega) (by omega)
  . exact ok_cost h.co
theorem ok_works{ws:List Wk}(h:∀ w ∈ ws,w.ok)(hl:ws.length <= 20):OkP 60080 5 (I.py (AU ws)):=by
  refine(C0 (w:=3003) (dp:=4) (is:=ws.map Az) λ i hi=>?_).mono (by simp;omega) (by omega)
  obtain⟨w,h1,rfl⟩:=List.mem_map.mp hi
  exact TF (h w h1)
end Bd
namespace Bd
open PySem L2
theorem Qy(ns:List Int)(lo hi:Option Int):∃ cs:List Int,Eo (ns.map λ n=>.im (.int n)) lo hi=cs.map λ n=>.im (.int n):=⟨(ns.drop _).take _,by unfold Eo;rw[List.map_take,List.map_drop]⟩
theorem S6(ns:List Int):∃ τ,F_tape [.ro ns] []=some (.mu 1,tp τ):=by
  obtain⟨cs,e⟩:=Qy ns none (some 63)
  refine⟨⟨cs,0,0,0⟩,?_⟩
  simp[F_tape,mkF,e,FK,CS,ne1,ne2,ne3,ne4,ne5,ne6,tp,BP]
end Bd
namespace Bd
open PySem L2
noncomputable abbrev Ha:MS:=(Bo (mMt B8 (A0 3) (A1 (mMt GZ (A0 2) (A1 (AA 2 F_pick (A1 (A0 0) (A1 (mCB (f1 true C6) (A1 (A0 2) A4)) A4))) A4)) A4)))
noncomputable abbrev Eg:MS:=(Au (AQ (mOp gEq (AA 2 F_pick (A1 (A0 0) (A1 (A0 5) A4))) (mC (.int 0))))
      (Bo (mMt B8 (A0 6) (A1 (BQ (A1 (mOp gIx (A0 3) (A0 7)) (A1 (mOp gIx (A0 3) (A0 8)) A4))) A4)))
      Ag)
@[reducible] noncomputable def m_wishes:MS:=(A8 (AK 2 (BV (Fp (A1 (A0 1) A4))))
    (A8 (AK 3 (BV (BE A4)))
    (A8 (BW (Ca (A1 (A0 1) A4)) (AG 4) Ha)
    (A8 (AK 5 (E3 (BE (A1 (mC (.int 2)) (A1 (mC (.int 3)) (A1 (mC (.int 6)) A4)))) (AA 2 F_pick (A1 (A0 0) (A1 (mC (.int 3)) A4)))))
    (A8 (AK 6 (BV (BE A4)))
    (A8 (BW (Ca (A1 (A0 1) A4)) (AG 7)
      (BW (Dw (A1 (mOp Aa (A0 7) (mC (.int 1))) (A1 (A0 1) A4))) (AG 8) Eg))
    (AY (CU B5 (Hf (BV (El (Em (A0 6)))) E2 (Fq (mC (.int 16))))))))))))
noncomputable def F_wishes:List D->Hd->Option (D × Hd):=mkF 2 9 m_wishes
noncomputable abbrev Ah(ks:List Nat):List D:=ks.map λ k:Nat=>D.im (.int (k:Int))
theorem MR{n:Nat}{i:Int}(a:0 <= i)(b:i < n):ixN n i=some i.toNat:=by unfold ixN;rw[if_pos a,if_pos b]
theorem II:∀ {a:List Nat} {k x:Nat},a[k]? = some x->(x :: a.eraseIdx k).Perm a
  | [],k,x,h=>by simp at h
  | y :: r,0,x,h=>by simp at h;subst h;exact .refl _
  | y :: r,k + 1,x,h=>by
    have ih:=II (a:=r) (k:=k) (x:=x) (by simpa using h)
    exact(List.Perm.swap y x _).trans (ih.cons y)
theorem Je{α β:Type}(f:α->β):∀ (l:List α) (k:Nat),(l.map f).eraseIdx k=(l.eraseIdx k).map f
  | [],k=>rfl
  | y :: r,0=>rfl
  | y :: r,k + 1=>by simp[Je f r k]
theorem OR{a b:List Nat}{k x:Nat}(h:a[k]? = some x):(b ++ [x] ++ a.eraseIdx k).Perm (b ++ a):=by
  rw[List.append_assoc]
  exact List.Perm.append_left b (II h)
theorem JS(s1 s4' s5 s6 s7 s8:Option D):∀ (ds:List D) (τ:Tp) (left seq:List Nat) (z:Option D),left.length=ds.length->seq.length + ds.length <= 1000->∃ (τ':Tp) (seq':List Nat) (z':Option D),
    BL (AG 4) Ha [] ds [some (.mu 1),s1,some (.mu 2),some (.mu 3),z,s5,s6,s7,s8] (tp τ ++ [.lst (Ah left),.lst (Ah seq)]) =
      some (.nx [some (.mu 1),s1,some (.mu 2),some (.mu 3),z',s5,s6,s7,s8],tp τ' ++ [.lst [],.lst (Ah seq')])/\seq'.Perm (seq ++ left)
  | [],τ,left,seq,z,hl,_=>by
    have:left=[]:=List.length_eq_zero_iff.mp hl
    subst this
    exact⟨τ,seq,z,Cs,by simp⟩
  | d :: ds,τ,left,seq,z,hl,hs=>by
    simp only[List.length_cons]at hl hs
    obtain⟨r,τ1,d1⟩:=draw τ (left.length:Int) (by omega) (by omega)
    have a1:=d1.lo;have b1:=d1.hi
    have hr:r.toNat < left.length:=by omega
    have e1:left[r.toNat]? = some left[r.toNat]:=by simp[hr]
    obtain⟨τ',seq',z',q,pm⟩:=JS s1 s4' s5 s6 s7 s8 ds τ1 (left.eraseIdx r.toNat) (seq ++ [left[r.toNat]]) (some d) (by rw[List.length_eraseIdx,if_pos hr];omega) (by simp;omega)
    refine⟨τ',seq',z',?_,pm.trans (OR e1)⟩
    rw[<- q]
    refine CF (ls1:=[some (.mu 1),s1,some (.mu 2),some (.mu 3),some d,s5,s6,s7,s8]) rfl ?_ (AV _)
    have ge:=d1.gen (ls:=[some (.mu 1),s1,some (.mu 2),some (.mu 3),some d,s5,s6,s7,s8]) (hd:=tp τ ++ [.lst (Ah left),.lst (Ah seq)]) (rest:=[.lst (Ah left),.lst (Ah seq)]) (m:=A1 (A0 0) (A1 (mCB (f1 true C6) (A1 (A0 2) A4)) A4)) (by simp[C6])
    have rg:Ej r:=CN (by omega) (by omega)
    have ix:ixN left.length r=some r.toNat:=MR a1 (by omega)
    have hf:DG seq.length:=CJ (by omega)
    have er:(Ah left).eraseIdx r.toNat=Ah (left.eraseIdx r.toNat):=Je _ _ _
    simp only[Ha,MW,Nf,Cu,List.getElem?_cons_zero,List.getElem?_cons_succ,Option.bind_some,NN,WX,U1,FR,ge,FQ,Qv,rg,if_true,List.length_map,ix,List.getElem?_map,e1,Option.map_some,er,Ve,LI,hf,Vd]
    simp
end Bd
namespace Bd
open PySem L2
noncomputable def NI(p:Int × Int):I:=.tup [.int p.1,.int p.2]
noncomputable def Along(seq:List Nat)(ps:List (Int × Int)):Prop:=∀ p ∈ ps,∃ i j a b:Nat,i < j/\seq[i]? = some a/\seq[j]? = some b/\p=((a:Int),(b:Int))
theorem Ob{seq:List Nat}{i a:Nat}(h:seq[i]? = some a):atI (Ah seq) (i:Int)=some (.im (.int (a:Int))):=Gi rfl (by simp[h])
theorem GB(seq:List Nat)(dense:Int)(hd:0 < dense/\dense <= 100)(s1 z4:Option D)(i:Nat):∀ (k j:Nat) (τ:Tp) (ps:List (Int × Int)) (z:Option D),i < j->j + k <= seq.length->ps.length + k <= 1000->Along seq ps->∃ (τ':Tp) (ps':List (Int × Int)) (z':Option D),
    BL (AG 8) Eg [] (Ac (j:Int) k) [some (.mu 1),s1,some (.mu 2),some (.mu 3),z4,some (.im (.int dense)),some (.mu 4),some (.im (.int (i:Int))),z] (tp τ ++ [.lst [],.lst (Ah seq),.lst (ps.map B1)]) =
      some (.nx [some (.mu 1),s1,some (.mu 2),some (.mu 3),z4,some (.im (.int dense)),some (.mu 4),some (.im (.int (i:Int))),z'],tp τ' ++ [.lst [],.lst (Ah seq),.lst (ps'.map B1)])/\ps'.length <= ps.length + k/\Along seq ps'
  | 0,j,τ,ps,z,_,_,_,ho=>⟨τ,ps,z,Cs,Nat.le_refl _,ho⟩
  | k + 1,j,τ,ps,z,hij,hj,hl,ho=>by
    obtain⟨r,τ1,d1⟩:=draw τ dense hd.1 (by omega)
    have e1:=d1.v
    have hj1:j < seq.length:=by omega
    have hi1:i < seq.length:=by omega
    have sj:seq[j]? = some seq[j]:=by simp[hj1]
    have si:seq[i]? = some seq[i]:=by simp[hi1]
    have ai:=Ob si
    have aj:=Ob sj
    have ej:((j:Int) + 1)=((j + 1:Nat):Int):=by omega
    have hf:DG ps.length:=CJ (by omega)
    by_cases h:r=0
    . obtain⟨τ',ps',z',q,l,o⟩:=GB seq dense hd s1 z4 i k (j + 1) τ1 (ps ++ [((seq[i]:Int),(seq[j]:Int))]) (some (.im (.int (j:Int)))) (by omega) (by omega) (by simp;omega) (by
        intro p hp
        rcases List.mem_append.mp hp with hp|hp
        . exact ho p hp
        . simp at hp;exact⟨i,j,_,_,hij,si,sj,hp⟩)
      refine⟨τ',ps',z',?_,by simp at l;omega,o⟩
      rw[<- q,Ac,ej]
      refine CF (ls1:=[some (.mu 1),s1,some (.mu 2),some (.mu 3),z4,some (.im (.int dense)),some (.mu 4),some (.im (.int (i:Int))),some (.im (.int (j:Int)))]) rfl ?_ (AV _)
      simp only[Eg,Ow,JF,Ia]
      rw[e1 _ _ _ _ rfl rfl]
      simp only[Option.bind_some,LH,MV,VN,h,decide_true,Bool.false_eq_true,if_false,if_true,MW,Nf,Cu,List.getElem?_cons_zero,List.getElem?_cons_succ,NN,U0,FR,VI,Ia,Ng,Vg,U1,ai,aj,Option.map_some,FQ,List.length_cons,List.length_nil,Nat.reduceAdd,FP,MJ,LI,List.length_map,hf]
      simp[B1,tp]
    . obtain⟨τ',ps',z',q,l,o⟩:=GB seq dense hd s1 z4 i k (j + 1) τ1 ps (some (.im (.int (j:Int)))) (by omega) (by omega) (by omega) ho
      refine⟨τ',ps',z',?_,by omega,o⟩
      rw[<- q,Ac,ej]
      refine CF (ls1:=[some (.mu 1),s1,some (.mu 2),some (.mu 3),z4,some (.im (.int dense)),some (.mu 4),some (.im (.int (i:Int))),some (.im (.int (j:Int)))]) rfl ?_ (AV _)
      simp only[Eg,Ow,JF,Ia]
      rw[e1 _ _ _ _ rfl rfl]
      simp[h]
theorem HF(seq:List Nat)(hn:seq.length <= 8)(dense:Int)(hd:0 < dense/\dense <= 100)(z4:Option D):∀ (k i:Nat) (τ:Tp) (ps:List (Int × Int)) (z7 z8:Option D),i + k=seq.length->ps.length <= 7 * i->Along seq ps->∃ (τ':Tp) (ps':List (Int × Int)) (z7' z8':Option D),
    BL (AG 7) (BW (Dw (A1 (mOp Aa (A0 7) (mC (.int 1))) (A1 (A0 1) A4))) (AG 8) Eg) [] (Ac (i:Int) k) [some (.mu 1),some (.im (.int (seq.length:Int))),some (.mu 2),some (.mu 3),z4,some (.im (.int dense)),some (.mu 4),z7,z8] (tp τ ++ [.lst [],.lst (Ah seq),.lst (ps.map B1)]) =
      some (.nx [some (.mu 1),some (.im (.int (seq.length:Int))),some (.mu 2),some (.mu 3),z4,some (.im (.int dense)),some (.mu 4),z7',z8'],tp τ' ++ [.lst [],.lst (Ah seq),.lst (ps'.map B1)])/\ps'.length <= 7 * seq.length/\Along seq ps'
  | 0,i,τ,ps,z7,z8,hi,hl,ho=>⟨τ,ps,z7,z8,Cs,by omega,ho⟩
  | k + 1,i,τ,ps,z7,z8,hi,hl,ho=>by
    obtain⟨τ1,ps1,y8,q1,l1,o1⟩:=GB seq dense hd (some (.im (.int (seq.length:Int)))) z4 i (seq.length - (i + 1)) (i + 1) τ ps z8 (by omega) (by omega) (by omega) ho
    obtain⟨τ',ps',x7,x8,q,l,o⟩:=HF seq hn dense hd z4 k (i + 1) τ1 ps1 (some (.im (.int (i:Int)))) y8 (by omega) (by omega) o1
    refine⟨τ',ps',x7,x8,?_,l,o⟩
    have ei:((i:Int) + 1)=((i + 1:Nat):Int):=by omega
    rw[<- q,Ac,ei]
    refine CF (ls1:=[some (.mu 1),some (.im (.int (seq.length:Int))),some (.mu 2),some (.mu 3),z4,some (.im (.int dense)),some (.mu 4),some (.im (.int (i:Int))),z8]) rfl ?_ (AV _)
    have rg:Kc ((i + 1:Nat):Int) (seq.length:Int):=Lx (by omega) (by omega) (by omega) (by omega)
    have en:((seq.length:Int) - ((i + 1:Nat):Int)).toNat=seq.length - (i + 1):=by omega
    have e0:(Dw (A1 (mOp Aa (A0 7) (mC (.int 1))) (A1 (A0 1) A4))) [some (.mu 1),some (.im (.int (seq.length:Int))),some (.mu 2),some (.mu 3),z4,some (.im (.int dense)),some (.mu 4),some (.im (.int (i:Int))),z8] (tp τ ++ [.lst [],.lst (Ah seq),.lst (ps.map B1)])=some ((Ac ((i + 1:Nat):Int) (seq.length - (i + 1)),[]),tp τ ++ [.lst [],.lst (Ah seq),.lst (ps.map B1)]):=by
      simp only[MU,FR,Ia,Cu,List.getElem?_cons_zero,List.getElem?_cons_succ,Option.bind_some,LH,Aa,MV,Qu,WD,Option.map_some,FQ,ei,rg,if_true,en]
    rw[Ie,e0]
    exact q1
end Bd
namespace Bd
open PySem L2
theorem Qx(xs:List D)(k:Nat):Eo xs none (some (k:Int))=xs.take k:=by
  unfold Eo
  rw[HT.sIx_none,HT.sIx_nat,Nat.sub_zero,List.drop_zero]
  by_cases h:k <= xs.length
  . rw[Nat.min_eq_left h]
  . rw[Nat.min_eq_right (by omega),List.take_length,List.take_of_length_le (by omega)]
theorem ER(n:Nat):Ac 0 n=Ah (List.range n):=by
  refine List.ext_getElem? λ i=>?_
  by_cases h:i < n
  . rw[ID h];simp[h]
  . rw[List.getElem?_eq_none (by simp;omega),List.getElem?_eq_none (by simp;omega)]
theorem Along.pok{seq:List Nat}{n:Nat}(hp:seq.Perm (List.range n))(hn:n <= 1000){ps:List (Int × Int)}(h:Along seq ps):∀ p ∈ ps,pok p:=by
  intro p hp'
  obtain⟨i,j,a,b,_,ea,eb,rfl⟩:=h p hp'
  have ha:a < n:=by simpa using hp.mem_iff.mp (List.mem_of_getElem? ea)
  have hb:b < n:=by simpa using hp.mem_iff.mp (List.mem_of_getElem? eb)
  exact⟨by show -1000000000 <= (a:Int);omega,by show(a:Int) <= 1000000000;omega,by show -1000000000 <= (b:Int);omega,by show(b:Int) <= 1000000000;omega⟩
theorem Lb(τ:Tp)(n:Nat)(hn:n <= 8):∃ (seq:List Nat) (ps:List (Int × Int)) (τ':Tp) (g:Hd),seq.Perm (List.range n)/\Along seq ps/\ps.length <= 16/\ps.Pairwise (λ a b=>Bb a <= Bb b)/\F_wishes [.mu 1,.im (.int (n:Int))] (tp τ)=some (.im (.tup (ps.map NI)),tp τ' ++ g):=by
  obtain⟨τ1,seq,z4,q1,pm⟩:=JS (some (.im (.int (n:Int)))) none none none none none (Ac 0 n) τ (List.range n) [] none (by simp) (by simp;omega)
  simp only[List.nil_append]at pm
  have sl:seq.length=n:=by simpa using pm.length_eq
  obtain⟨r,τ2,d2⟩:=draw τ1 3 (by decide) (by decide)
  have e2:=d2.c
  have a2:=d2.lo;have b2:=d2.hi
  have hx:∃ x:Int,(0 < x/\x <= 100)/\atI [D.im (.int 2),.im (.int 3),.im (.int 6)] r=some (.im (.int x)):=by
    have:r=0 ∨ r=1 ∨ r=2:=by omega
    rcases this with rfl|rfl|rfl
    . exact⟨2,by omega,BY _ _⟩
    . exact⟨3,by omega,E7 _ _ _⟩
    . exact⟨6,by omega,Nq _ _ _ _⟩
  obtain⟨dense,hd,hx⟩:=hx
  obtain⟨τ3,ps,z7,z8,q3,l3,o3⟩:=HF seq (by omega) dense hd z4 n 0 τ2 [] none none (by omega) (by simp) (λ p h=>by cases h)
  have pk:=o3.pok pm (by omega)
  have sub:((C5 ps).take 16).Sublist (C5 ps):=List.take_sublist _ _
  refine⟨seq,(C5 ps).take 16,τ3,[.lst [],.lst (Ah seq),.lst (ps.map B1),.lst ((C5 ps).map B1)],pm,λ p h=>o3 p ((Fa ps).mem_iff.mp (sub.subset h)),by simp;omega,(GE ps).sublist sub,?_⟩
  have rgl:IB (n:Int):=Kb (by omega) (by omega)
  have rg:Ej (n:Int):=CN (by omega) (by omega)
  have c64:ps.length < 64/\∀ q ∈ ps,pok q:=⟨by omega,pk⟩
  have cut:=Qx ((C5 ps).map B1) 16
  have mk:Ao (((C5 ps).map B1).take 16)=.im (.tup (((C5 ps).take 16).map NI)):=by
    have:((C5 ps).map B1).take 16=(((C5 ps).take 16).map NI).map D.im:=by rw[<- List.map_take,List.map_map];rfl
    rw[this,Cr]
  rw[sl]at q3
  rw[show((0:Nat):Int)=0 from rfl]at q3
  simp only[List.map_nil]at q1 q3
  rw[<- ER]at q1
  have cut':Eo ((C5 ps).map B1) none (some 16)=((C5 ps).map B1).take 16:=cut
  have tp5:(tp τ3 ++ [MO.lst [],MO.lst (Ah seq),MO.lst (ps.map B1),MO.lst ((C5 ps).map B1)])[5]? = some (.lst ((C5 ps).map B1)):=rfl
  simp only[F_wishes,mkF,m_wishes,Cv,Cf,Ib,Oq,FR,FQ,Cu,List.map_cons,List.map_nil,List.length_cons,List.length_nil,List.cons_append,List.nil_append,List.replicate,Nat.reduceAdd,Nat.reduceSub,if_true,List.getElem?_cons_zero,List.getElem?_cons_succ,Option.bind_some,rgl,Int.toNat_natCast,Ee,Option.map_some,List.set_cons_succ,List.set_cons_zero,O3,LF,Oo,List.length_append,List.append_assoc,Ie,Ou,rg,q1]
  rw[VM]
  simp only[LF,FR,LH,FQ,Option.bind_some,List.length_cons,List.length_nil,Nat.reduceAdd,On,if_true]
  rw[e2 _ _ _ rfl]
  simp only[Option.bind_some,hx,Option.map_some,Ee,List.set_cons_succ,List.set_cons_zero,List.append_assoc,List.cons_append,List.nil_append,O3,List.length_append,List.length_cons,List.length_nil,Nat.reduceAdd,rg,if_true,Int.toNat_natCast,q3,Os,LG,VJ,Ib,Nd,Ov,Cu,List.getElem?_cons_zero,List.getElem?_cons_succ,U0,NH,if_pos c64,Ot,Tg,LH,NN,tp5,cut',B5,mk]
end Bd
namespace Bd
open PySem L2
noncomputable abbrev intD(xs:List Int):List D:=xs.map λ x=>D.im (.int x)
theorem Om(xs:List Int):DO (intD xs)=some (xs.map V.int):=by
  induction xs with
  | nil=>rfl
  | cons x r ih=>simp[DO,Fx]at ih ⊢;exact ih
theorem Qp(x:Int)(xs:List Int):inV (.int x) (xs.map V.int)=decide (x ∈ xs):=by
  unfold inV
  induction xs with
  | nil=>simp
  | cons y r ih=>
    simp only[List.map_cons,List.any_cons,ih,List.mem_cons]
    have:eqV (V.int y) (V.int x)=decide (x=y):=by
      unfold eqV
      by_cases h:x=y
      . subst h;simp
      . have h':¬ y=x:=λ z=>h z.symm
        simp[h,h']
    rw[this,Bool.decide_or]
theorem in_ints{hd:Hd}{d:D}{xs:List Int}(x:Int)(neg:Bool)(h:BI hd d=some (intD xs)):gIn neg (.im (.int x)) d hd=some (.im (.bl (if neg then !decide (x ∈ xs)else decide (x ∈ xs))),hd):=by
  simp only[gIn,Fx,Option.bind_some,h,Om,Option.map_some,Qp]
theorem g1(hd:Hd)(x y:MO):(hd ++ [x,y])[hd.length + 1]? = some y:=by simp
theorem t1(hd:Hd)(x y z:MO):(hd ++ [x,y]).set (hd.length + 1) z=hd ++ [x,z]:=by simp
end Bd
namespace L2
open PySem PySem.Spec PyProof.Rows
theorem Cm(p:Key × D)(r:List (Key × D))(k:Key):BK (p :: r) k=if p.1=k then some p.2 else BK r k:=by
  unfold BK
  rw[List.find?_cons]
  by_cases e:p.1=k <;> simp[e]
theorem KI(k:Key):∀ kvs:List (Key × D),(kvs.any λ kv=>decide (kv.1=k))=(BK kvs k).isSome
  | []=>rfl
  | p :: r=>by
    rw[List.any_cons,Cm]
    by_cases e:p.1=k
    . simp[e]
    . rw[if_neg e,decide_eq_false e,Bool.false_or];exact KI k r
theorem KH(k j:Key)(y:D):∀ kvs:List (Key × D),BK (kvs.map λ kv=>if kv.1=k then(kv.1,y)else kv) j=(BK kvs j).map λ x=>if j=k then y else x
  | []=>rfl
  | p :: r=>by
    have ih:=KH k j y r
    rw[List.map_cons,Cm,Cm,ih]
    by_cases h:p.1=k
    . rw[if_pos h]
      by_cases e:p.1=j
      . have:j=k:=e.symm.trans h
        simp[e,this]
      . simp[e]
    . rw[if_neg h]
      by_cases e:p.1=j
      . have:¬ j=k:=λ z=>h (e.trans z)
        simp[e,this]
      . simp[e]
theorem JM(k j:Key)(y:D):∀ kvs:List (Key × D),BK kvs k=none->BK (kvs ++ [(k,y)]) j=if j=k then some y else BK kvs j
  | [],_=>by
    rw[List.nil_append,Cm]
    by_cases e:k=j
    . subst e;simp
    . have:¬ j=k:=λ z=>e z.symm
      simp[e,this]
  | p :: r,hn=>by
    rw[Cm]at hn
    have hk:¬ p.1=k:=λ z=>by rw[if_pos z]at hn;cases hn
    rw[if_neg hk]at hn
    have ih:=JM k j y r hn
    rw[List.cons_append,Cm,Cm,ih]
    by_cases e:p.1=j
    . have:¬ j=k:=λ z=>hk (e.trans z)
      simp[e,this]
    . simp[e]
theorem PR(kvs:List (Key × D))(k j:Key)(y:D):BK (CS kvs k y) j=if j=k then some y else BK kvs j:=by
  unfold CS
  rw[KI]
  by_cases a:(BK kvs k).isSome=true
  . rw[if_pos a,KH]
    by_cases e:j=k
    . subst e
      obtain⟨x,hx⟩:=Option.isSome_iff_exists.mp a
      simp[hx]
    . simp[e]
  . rw[if_neg a]
    exact JM k j y kvs (by simpa using a)
theorem QM(kvs:List (Key × D))(k:Key)(y:D):(CS kvs k y).length <= kvs.length + 1:=by
  unfold CS
  split <;> simp
noncomputable def DicI(kvs:List (Key × D))(g:Nat->Option Int):Prop:=∀ k:Nat,BK kvs (.inl (k:Int))=(g k).map λ v=>.im (.int v)
theorem DicI.put{kvs:List (Key × D)}{g:Nat->Option Int}(h:DicI kvs g)(k:Nat)(v:Int):DicI (CS kvs (.inl (k:Int)) (.im (.int v))) λ j=>if j=k then some v else g j:=λ j=>by
  rw[PR]
  by_cases e:j=k
  . subst e;simp
  . have:¬ (Sum.inl (j:Int):Key)=Sum.inl (k:Int):=λ z=>e (by have:=Sum.inl.inj z;omega)
    rw[if_neg this];dsimp only;rw[if_neg e];exact h j
section
variable{ls:Ls}{hd:Hd}{QE:D->Hd->Prop}{QI:List D × Gd->Hd->Prop}{ma:ME}{n:MG}{ta:MT}{mi:MI}{m:MA}
theorem Tu{d:D}{xs:List Int}{x:Int}{neg:Bool}(e1:BI hd d=some (Bd.intD xs))(q:QE (.im (.bl (if neg then !decide (x ∈ xs)else decide (x ∈ xs)))) hd):WP (gIn neg (.im (.int x)) d hd) QE:=WP.eq (Bd.in_ints x neg e1) q
theorem Vb{g:Gd}{QA:List D->Hd->Prop}(P:List D->List D->Ls->Hd->Prop){ds:List D}{ls:Ls}{hd:Hd}(h:P ds [] ls hd)
    (k:∀ d r es ls hd,P (d :: r) es ls hd->∃ ls1,n d ls hd=some ls1/\WT ta ls1 hd λ c x=>if c=true then WE ma ls1 x λ z y=>GOk y g/\P r (es ++ [z]) ls1 y else GOk x g/\P r es ls1 x)
    (z:∀ es ls hd,P [] es ls hd->QA es hd):WP (B2 n ta ma g ds ls hd) QA:=
  (KD P h k).mono λ zs x ⟨ls',q⟩=>z zs ls' x (by simpa using q)
theorem DJ{α:Type}{g:Gd}{QA:List D->Hd->Prop}(inj:α->D)(f:α->Option D)(L:D->Ls->Prop)(l0:Ls){xs:List α}{hd:Hd}(hg:GOk hd g)
    (k:∀ x ∈ xs,∀ ls,ls=l0 ∨ (∃ d,L d ls)->∃ ls1,n (inj x) ls hd=some ls1/\L (inj x) ls1/\WT ta ls1 hd λ c y=>y=hd/\if c=true then ∃ z,f x=some z/\WE ma ls1 hd λ e y=>y=hd/\e=z else f x=none)
    (q:QA (xs.filterMap f) hd):WP (B2 n ta ma g (xs.map inj) l0 hd) QA:=by
  have go:∀ (xs':List α) (ls:Ls),(∀ x ∈ xs',x ∈ xs)->(ls=l0 ∨ ∃ d,L d ls)->B2 n ta ma g (xs'.map inj) ls hd=some (xs'.filterMap f,hd):=by
    intro xs'
    induction xs' with
    | nil=>intro ls _ _;unfold B2;rfl
    | cons x r ih=>
      intro ls hs hl
      obtain⟨ls1,e1,L1,c,y,e2,rfl,q⟩:=k x (hs x List.mem_cons_self) ls hl
      have ih:=ih ls1 (λ z hz=>hs z (List.mem_cons_of_mem _ hz)) (.inr ⟨_,L1⟩)
      rw[List.map_cons]
      unfold B2
      rw[e1,Option.bind_some,e2,Option.bind_some]
      cases c with
      | true=>
        rw[if_pos rfl]at q
        obtain⟨z,ez,e,y,e3,rfl,rfl⟩:=q
        rw[if_pos rfl,e3,Option.bind_some]
        dsimp only
        rw[if_pos hg,ih,List.filterMap_cons,ez]
        rfl
      | false=>
        rw[if_neg Bool.false_ne_true]at q
        rw[if_neg Bool.false_ne_true]
        dsimp only
        rw[if_pos hg,ih,List.filterMap_cons,q]
  exact⟨_,_,go xs l0 (λ _ h=>h) (.inl rfl),q⟩
end
end L2
namespace L2
open PySem PySem.Spec PyProof.Rows
section
variable{K:PySem.W.Frag}{ρ ρ':List Addr}{H H':Hp}{hd hd':Hd}
end
section
variable{ls:Ls}{hd:Hd}{ma mb:ME}{m ml:MA}{QE:D->Hd->Prop}{QA:List D->Hd->Prop}
end
end L2
namespace L2
open PySem PySem.Spec PyProof.Rows
section
variable{ls:Ls}{hd:Hd}{ma:ME}{n n2:MG}{c c2:MT}{mi mi2:MI}{QE:D->Hd->Prop}
end
noncomputable abbrev blD(bs:List Bool):List D:=bs.map λ b=>D.im (.bl b)
end L2
namespace L2
open PySem PySem.Spec PyProof.Rows
inductive Ty where
  | int|bool|str|tuple|list
  deriving DecidableEq
noncomputable def Ty.nm:Ty->String
  | .int=>"int" | .bool=>"bool" | .str=>"str" | .tuple=>"tuple" | .list=>"list"
noncomputable def IsT(K:PySem.W.Frag)(T:Ty)(H:Hp)(v:V)(b:Bool):Prop:=
  (v=.non/\b=false) ∨ (∃ x,v=.bl x/\b=decide (T=.int ∨ T=.bool)) ∨ (∃ i,v=.int i/\b=decide (T=.int)) ∨ (∃ x,v=.str x/\b=decide (T=.str)) ∨
  (∃ a xs,v=.ref a/\SqL K H a xs/\b=decide (T=.list)) ∨ ∃ a xs,v=.ref a/\SqT K H a xs/\b=decide (T=.tuple)
section
variable{X:Cx}{pins:List (Addr × Obj)}{σ:St}{H:Hp}{s:Shared}{A:Around}{E:Value->Shared->Prop}{Q:Value->Shared->Prop}
theorem VF{T:Ty}{v:V}{u:Value}{b:Bool}(I:Inv X pins σ H s)(r:RelV v u)(h:IsT X.K T H v b)(q:∀ tk,Q (.bool b) { s with toks:=tk }):wpAny (model X.prog X.w) A (call (.builtin "isinstance") [u,.type T.nm]) Q E s:=by
  have q0:=q s.toks
  have q1:=q (s.toks + 1)
  rcases h with⟨rfl,rfl⟩|⟨x,rfl,rfl⟩|⟨i,rfl,rfl⟩|⟨x,rfl,rfl⟩|⟨a,xs,rfl,hl,rfl⟩|⟨a,xs,rfl,ht,rfl⟩
  . cases(show u=Value.none from r)
    cases T
    . exact IsiPair.NoneType_int q1
    . exact IsiPair.NoneType_bool q1
    . exact IsiPair.NoneType_str q1
    . exact IsiPair.NoneType_tuple q1
    . exact IsiPair.NoneType_list q1
  . cases(show u=Value.bool x from r)
    cases T
    . first|exact IsiPair.bool_int q0|exact IsiPair.bool_int q1
    . first|exact IsiPair.bool_bool q0|exact IsiPair.bool_bool q1
    . exact IsiPair.bool_str q1
    . exact IsiPair.bool_tuple q1
    . exact IsiPair.bool_list q1
  . obtain⟨t,rfl⟩:=(show ∃ t,u=Value.int i t from r)
    cases T
    . exact IsiPair.int_int q0
    . exact IsiPair.int_bool q1
    . exact IsiPair.int_str q1
    . exact IsiPair.int_tuple q1
    . exact IsiPair.int_list q1
  . obtain⟨t,rfl⟩:=(show ∃ t,u=Value.str x t from r)
    cases T
    . exact IsiPair.str_int q1
    . exact IsiPair.str_bool q1
    . exact IsiPair.str_str q0
    . exact IsiPair.str_tuple q1
    . exact IsiPair.str_list q1
  . cases(show u=Value.ref a from r)
    obtain⟨its,_,⟨o,n,e,c,_,_⟩,_⟩:=I.list hl
    cases T
    . exact IsiPair.list_int e c q1
    . exact IsiPair.list_bool e c q1
    . exact IsiPair.list_str e c q1
    . exact IsiPair.list_tuple e c q1
    . exact IsiPair.list_list e c q0
  . cases(show u=Value.ref a from r)
    obtain⟨its,_,⟨o,e,c,_⟩,_⟩:=I.tuple ht
    cases T
    . exact IsiPair.tuple_int e c q1
    . exact IsiPair.tuple_bool e c q1
    . exact IsiPair.tuple_str e c q1
    . exact IsiPair.tuple_tuple e c q0
    . exact IsiPair.tuple_list e c q1
end
noncomputable def Pk(K:PySem.W.Frag)(T:Ty)(te:TE):TE:=λ σ H Q=>te σ H λ v H1=>∃ b,IsT K T H1 v b/\Q (.bl b) H1
theorem Uw(K:PySem.W.Frag){X:Cx}(T:Ty){e:Expr}{te:TE}{x:Str}{p px pos:Pos}(hm:X.mg "isinstance"=none)(hmT:X.mg x=none)(hvT:bootBuiltins x=some (.type T.nm))(he:PE X e te)
    (hv:bootBuiltins "isinstance"=some (.builtin "isinstance")) (hK:X.K=K) (hg:Gl X "isinstance") (hgT:Gl X x) (hnT:x ≠ "__name__") (hdT:(x == ("__debug__":Str))=false)
    (hs:starEach [e,.Name x px] X.env=[(false,eval e X.env),(false,eval (.Name x px) X.env)]) (hs2:starEach [.Name x px] X.env=[(false,eval (.Name x px) X.env)]):PE X (.Call (.Name "isinstance" p) [e,.Name x px] [] pos) (Pk K T te):=by
  subst hK
  intro pins s σ H Q I h
  refine wpAny_Call_Name_kw (EN I hg hm hv ?_)
  have go:wpAny (model X.prog X.w) X.A (spliced (backTo pos (starEach [e,.Name x px] X.env))) (λ vs s₁=>wpAny (model X.prog X.w) X.A (call (.builtin "isinstance") vs) (EP X pins σ Q) X.xe s₁) X.xe s:=by
    rw[hs]
    show wpAny _ _ (spliced ((false,eval e X.env) :: backTo pos [(false,eval (.Name x px) X.env)])) _ _ s
    refine Calls.spliced_cons (thn (he pins s σ H _ I h) λ u s1 ⟨v,H1,I1,r1,b,ib,q1⟩=>?_)
    show wpAny _ _ (spliced ((false,eval (.Name x px) X.env) :: backTo pos [])) _ _ s1
    refine Calls.spliced_cons (EN I1 hgT hmT hvT ?_ hnT hdT)
    refine Calls.spliced_nil ?_
    exact VF I1 r1 ib λ tk=>⟨.bl b,H1,I1.tok _,rfl,q1⟩
  exact PyProof.Rows.callWith_builtin1 go (by rw[hs,hs2]) (by rw[hs2];rfl)
section
variable{K:PySem.W.Frag}{ρ ρ':List Addr}{H H':Hp}{hd hd':Hd}
noncomputable def isD(T:Ty)(hd:Hd):D->Option Bool
  | .im .non=>some false
  | .im (.bl _)=>some (decide (T=.int ∨ T=.bool))
  | .im (.int _)=>some (decide (T=.int))
  | .im (.str _)=>some (decide (T=.str))
  | .im (.tup _)=>some (decide (T=.tuple))
  | .tm _=>some (decide (T=.tuple))
  | .ro _=>some (decide (T=.list))
  | .mu n=>match hd[n]? with
    | some (.lst _)=>some (decide (T=.list))
    | _=>none
theorem VG{T:Ty}{d:D}{v:V}{b:Bool}(hR:RH K ρ H hd)(h:RD K ρ H d v)(e:isD T hd d=some b):IsT K T H v b:=by
  cases d with
  | im i=>
    cases i with
    | non=>simp only[RD,RI]at h;subst h;simp only[isD,Option.some.injEq]at e;exact .inl ⟨rfl,e.symm⟩
    | bl c=>simp only[RD,RI]at h;subst h;simp only[isD,Option.some.injEq]at e;exact .inr (.inl ⟨c,rfl,e.symm⟩)
    | int c=>simp only[RD,RI]at h;subst h;simp only[isD,Option.some.injEq]at e;exact .inr (.inr (.inl ⟨c,rfl,e.symm⟩))
    | str c=>simp only[RD,RI]at h;subst h;simp only[isD,Option.some.injEq]at e;exact .inr (.inr (.inr (.inl ⟨c,rfl,e.symm⟩)))
    | tup is=>
      obtain⟨a,xs,rfl,q,r⟩:=h.tup (ds:=is.map .im) rfl
      simp only[isD,Option.some.injEq]at e
      exact .inr (.inr (.inr (.inr (.inr ⟨a,xs,rfl,q,e.symm⟩))))
  | tm ds=>
    obtain⟨a,xs,rfl,q,r⟩:=h.tup (ds:=ds) rfl
    simp only[isD,Option.some.injEq]at e
    exact .inr (.inr (.inr (.inr (.inr ⟨a,xs,rfl,q,e.symm⟩))))
  | ro ns=>
    obtain⟨a,xs,rfl,q,r⟩:=h.lst hR (hd:=hd) (ds:=ns.map λ n=>.im (.int n)) rfl
    simp only[isD,Option.some.injEq]at e
    exact .inr (.inr (.inr (.inr (.inl ⟨a,xs,rfl,q,e.symm⟩))))
  | mu n=>
    simp only[isD]at e
    split at e
    . next q=>
      cases e
      simp only[RD]at h
      obtain⟨a,hn,rfl⟩:=h
      obtain⟨xs,e1,e2⟩:=hR.lst hn q
      exact .inr (.inr (.inr (.inr (.inl ⟨a,xs,rfl,SqL.of e1,rfl⟩))))
    . cases e
noncomputable def Hh(T:Ty)(ma:ME):ME:=λ ls hd=>(ma ls hd).bind λ p=>(isD T p.2 p.1).map λ b=>(.im (.bl b),p.2)
theorem UQ{T:Ty}{te:TE}{me:ME}(h:RE K te me):RE K (Pk K T te) (Hh T me):=by
  intro ρ σ H hd ls Q d hd' hR hL hm hQ
  obtain⟨⟨d1,h1⟩,e1,hm⟩:=Option.bind_eq_some_iff.mp hm
  obtain⟨b,e2,e3⟩:=Option.map_eq_some_iff.mp hm
  cases e3
  exact h ρ σ H hd ls _ d1 _ hR hL e1 λ ρ1 H1 v x1 R1 r1=>⟨b,VG R1 r1 e2,hQ ρ1 H1 _ x1 R1 (by simp[RD,RI])⟩
theorem Ij:∀ T:Ty,bootBuiltins T.nm=some (.type T.nm)
  | .int=>by decide +kernel
  | .bool=>by decide +kernel
  | .str=>by decide +kernel
  | .tuple=>by decide +kernel
  | .list=>by decide +kernel
theorem Kl(K:PySem.W.Frag){X:Cx}(T:Ty){e:Expr}{te:TE}{me:ME}{x:Str}{p px pos:Pos}(hm:X.mg "isinstance"=none)(hmT:X.mg x=none)(he:QE K X e te me)(hx:bootBuiltins x=some (.type T.nm):=by first|exact Ij .int|exact Ij .bool|exact Ij .str|exact Ij .tuple|exact Ij .list)(hK:X.K=K:=by rfl)(hg:Gl X "isinstance":=by rfl)(hgT:Gl X x:=by rfl)
    (hnT:x ≠ "__name__":=by decide) (hdT:(x == ("__debug__":Str))=false:=by decide)
    (hs:starEach [e,.Name x px] X.env=[(false,eval e X.env),(false,eval (.Name x px) X.env)]:=by rfl) (hs2:starEach [.Name x px] X.env=[(false,eval (.Name x px) X.env)]:=by rfl):QE K X (.Call (.Name "isinstance" p) [e,.Name x px] [] pos) (Pk K T te) (Hh T me):=
  ⟨Uw K T hm hmT hx he.p Jw hK hg hgT hnT hdT hs hs2,UQ he.r⟩
theorem RDs.ints:∀ {ns:List Int} {xs:List V},RDs K ρ H (ns.map λ x=>D.im (.int x)) xs->xs=ns.map V.int
  | [],xs,h=>by simpa only[RDs,List.map_nil]using h
  | n :: ns,xs,h=>by
    simp only[List.map_cons,RDs,RD,RI]at h
    obtain⟨x,r,rfl,rfl,t⟩:=h
    rw[RDs.ints t];rfl
end
section
variable{ls:Ls}{hd:Hd}{ma mo mi me:ME}{QE:D->Hd->Prop}{QS:Fl->Hd->Prop}
theorem KB{T:Ty}(h:WE ma ls hd λ d x=>∃ b,isD T x d=some b/\QE (.im (.bl b)) x):WE (Hh T ma) ls hd QE:=by
  obtain⟨d,x,e,b,e2,q⟩:=h
  exact⟨_,_,by simp only[Hh,e,Option.bind_some,e2,Option.map_some],q⟩
end
end L2
namespace L2
open PySem PySem.Spec PyProof.Rows
noncomputable def Pm(neg b:Bool)(ta:TE):TE:=λ σ H Q=>ta σ H λ x H1=>∃ c,x=.bl c/\Q (.bl (if neg then !decide (c=b)else decide (c=b))) H1
section
variable{X:Cx}{a:Expr}{ta:TE}
theorem Qo{M:Model}{A:Around}{E:Value->Shared->Prop}{s:Shared}{Q:Value->Shared->Prop}(c b:Bool)(h:Q (.bool (!decide (c=b))) s):wpAny M A (compareOp .IsNot (.bool c) (.bool b)) Q E s:=by
  cases c <;> cases b <;> exact wpAny_pure h
theorem TC{b:Bool}{j pos'}(ha:PE X a ta):PC X .IsNot a (.Constant (.bool b) j pos') (Pm true b ta):=by
  intro pins s σ H Q I h
  refine thn (ha pins s σ H _ I h) λ v s1 ⟨x,H1,I1,r1,c,ex,q1⟩=>?_
  subst ex
  cases(show v=Value.bool c from r1)
  exact Constant_bool (Qo c b ⟨.bl _,H1,I1,rfl,q1⟩)
end
noncomputable def Ks(neg b:Bool)(ma:ME):ME:=λ ls hd=>(ma ls hd).bind λ p=>match p.1 with
  | .im (.bl c)=>some (.im (.bl (if neg then !decide (c=b)else decide (c=b))),p.2)
  | _=>none
theorem UR{K:PySem.W.Frag}{neg b:Bool}{ta:TE}{ma:ME}(h:RE K ta ma):RE K (Pm neg b ta) (Ks neg b ma):=by
  intro ρ σ H hd ls Q d hd' hR hL hm hQ
  obtain⟨⟨d1,h1⟩,e1,hm⟩:=Option.bind_eq_some_iff.mp hm
  dsimp only at hm
  split at hm
  . cases hm
    exact h ρ σ H hd ls _ _ _ hR hL e1 λ ρ1 H1 v x1 R1 r1=>⟨_,by simpa only[RD,RI]using r1,hQ ρ1 H1 _ x1 R1 (by simp[RD,RI])⟩
  . cases hm
section
variable(K:PySem.W.Frag){X:Cx}{a:Expr}{ta:TE}{ma:ME}{b:Bool}{j:_}{pos pos':Pos}
theorem Sc{j}(ha:QE K X a ta ma):QT K X (.Compare a [.IsNot] [.Constant (.bool b) j pos'] pos) (tB (Pm true b ta)) (AQ (Ks true b ma)):=⟨Uc (TC ha.p),Wc (UR ha.r)⟩
end
theorem Tv{neg b:Bool}{ma:ME}{ls:Ls}{hd:Hd}{QE:D->Hd->Prop}(h:WE ma ls hd λ d x=>∃ c,d=.im (.bl c)/\QE (.im (.bl (if neg then !decide (c=b)else decide (c=b)))) x):WE (Ks neg b ma) ls hd QE:=by
  obtain⟨d,x,e,c,rfl,q⟩:=h
  exact⟨_,_,by simp only[Ks,e,Option.bind_some],q⟩
end L2
namespace L2
open PySem PySem.Spec PyProof.Rows
section
variable{X:Cx}
end
section
variable{K:PySem.W.Frag}
end
section
variable{K:PySem.W.Frag}{ρ ρ':List Addr}{H H':Hp}{hd hd':Hd}
end
end L2
namespace HT
open PySem PySem.Spec PyProof.Rows
section
variable{prog:Program}{w:World}{A:Around}{E:Value->Shared->Prop}{s:Shared}
end
end HT
namespace L2
open PySem PySem.Spec PyProof.Rows
section
variable{X:Cx}
end
section
variable{K:PySem.W.Frag}{ρ ρ':List Addr}{H H':Hp}{hd hd':Hd}
end
section
variable{X:Cx}
end
section
variable{X:Cx}
end
end L2
namespace L2
open PySem PySem.Spec PyProof.Rows
section
variable{prog:Program}{w:World}{A:Around}{E:Value->Shared->Prop}{s:Shared}
theorem HJ{l:Addr}{vs:List Value}{Q:List Value->Shared->Prop}(hl:IsTup s.heap l vs.toArray)
    (h:Q vs { s with heap:=(s.heap.push (seqObj "list" #[] 0)).update s.heap.objs.size (Obj.mapSeq (· ++ vs.toArray)) }) (hsz:vs.length <= sizeLine:=by size_fits) :
    wpAny (model prog w) A (collect (.ref l)) Q E s:=by
  obtain⟨o,ho,hc,n,hd⟩:=id hl
  unfold collect
  refine wpAny_bind (wpAny_runValue (codeAny_builtin entry_proto_collect' ?_))
  show wpAny _ _ (do again (.builtin "list.__iadd__" ⟨[<- newList [],.ref l],[]⟩)) _ _ s
  refine wpAny_bind (wpAny_newList (wpAny_pure ⟨Code.quiet_builtin _ (by decide +kernel),codeAny_builtin entry_list_iadd' ?_⟩))
  show wpAny _ _ (Builtin.List.listExtendWith (.ref s.heap.objs.size) (.ref l) (.ref s.heap.objs.size)) _ _ { s with heap:=s.heap.push (seqObj "list" #[] 0) }
  unfold Builtin.List.listExtendWith
  have ho':(s.heap.push (seqObj "list" #[] 0)).get? l=some o:=Heap.get?_push_of_some _ ho
  refine wpAny_bind (wpAny_typeOf (T:="tuple") ⟨o,ho',hc⟩ ?_)
  have ht:(Value.type "tuple" == Value.type "tuple")=true:=by rfl
  rw[if_pos (by rw[ht];simp)]
  refine wpAny_bind (listItems_at ho' hd ?_)
  refine wpAny_bind (listItems_at (xs:=#[]) (n:=0) (Heap.get?_push_size _ rfl) rfl ?_)
  rw[if_neg (by simp)]
  refine wpAny_bind (listUpdate_at (xs:=#[]) (n:=0) (Heap.get?_push_size _ rfl) rfl ?_ (Nat.zero_le _) (by show(#[] ++ vs.toArray).size <= sizeLine + 1;simp only[Array.size_append,List.size_toArray,List.length_nil];omega))
  refine wpAny_pure ?_
  show wpAny (model prog w) A (do
      let o <- load s.heap.objs.size
      match o.data with
      | .seq xs _=>pure xs.toList
      | _=>unsupported "internal:collect") Q E { s with heap:=(s.heap.push (seqObj "list" #[] 0)).update s.heap.objs.size (Obj.mapSeq (· ++ vs.toArray)) }
  refine wpAny_bind (wpAny_load (get?_update_seq (Heap.get?_push_size _ rfl) _) ?_)
  show wpAny _ _ (pure ((#[]:Array Value) ++ vs.toArray).toList) Q E _
  rw[show((#[]:Array Value) ++ vs.toArray).toList=vs by simp]
  exact wpAny_pure h
theorem KR{l:Addr}{vs:List Value}{ns:List Int}{Q:Value->Shared->Prop}(hl:IsTup s.heap l vs.toArray)(hI:IntsAre vs ns)(h64:vs.length < 64)
    (h:∀ (out:Array Value) (ns':List Int),IntsAre out.toList ns'->ns'.Perm ns->ns'.Pairwise (· <= ·)->Q (.ref (s.heap.objs.size + 1)) { s with heap:=sortedAll s.heap vs out }) :
    wpAny (model prog w) A (call (.builtin "sorted") [.ref l]) Q E s:=by
  refine Calls.call_function_entry kind_sorted plain_sorted entry_sorted (args_sorted1 _) ?_
  unfold Builtin.«sorted»
  refine wpAny_bind (m:=checkCount "sorted" 1 1 _) (wpAny_pure ?_)
  refine wpAny_bind (HJ hl ?_)
  refine wpAny_bind (wpAny_newList ?_)
  have hsz:((s.heap.push (seqObj "list" #[] 0)).update s.heap.objs.size (Obj.mapSeq (· ++ vs.toArray))).objs.size=s.heap.objs.size + 1:=by
    rw[Heap.size_update,size_push']
  have hoL:(((s.heap.push (seqObj "list" #[] 0)).update s.heap.objs.size (Obj.mapSeq (· ++ vs.toArray))).push (seqObj "list" vs.toArray 0)).get? (s.heap.objs.size + 1)=some (seqObj "list" vs.toArray 0):=by
    rw[<- hsz];exact Heap.get?_push_size _ rfl
  show wpAny _ _ _ _ _ { s with heap:=((s.heap.push (seqObj "list" #[] 0)).update s.heap.objs.size (Obj.mapSeq (· ++ vs.toArray))).push (seqObj "list" vs.toArray 0) }
  rw[hsz]
  refine wpAny_bind (wpAny_holding (wpAny_call_entry slot_list_sort ⟨_,hoL,rfl⟩ entry_list_sort (list_sort_tree hoL hI h64 λ out ns' a1 a2 a3=>⟨_,rfl,?_⟩) (args_list_sort _)))
  exact wpAny_pure ⟨_,rfl,h out ns' a1 a2 a3⟩
end
end L2
namespace L2
open PySem PySem.Spec PyProof.Rows
section
variable(K:PySem.W.Frag){X:Cx}
noncomputable def HX:List V->Hp->VK->Prop:=λ xs H Q=>∃ (a:Addr) (ns:List Int),xs=[.ref a]/\SqT K H a (ns.map V.int)/\ns.length < 64/\∀ (p:Addr) (ns':List Int),H p=none->ns'.Perm ns->ns'.Pairwise (· <= ·)->Q (.ref p) (upd H p (.lst (ns'.map V.int)))
theorem LP(hK:X.K=K:=by rfl):CallR X (.builtin "sorted") (HX K):=by
  subst hK
  intro pins s σ H xs us Q I r h
  obtain⟨a,ns,rfl,hq,h64,q⟩:=h
  obtain⟨u,rfl,ru⟩:=CK r
  cases ru
  obtain⟨its,rv,p,hz⟩:=I.tuple hq
  have hlen:=rv.length
  rw[List.length_map]at hlen
  refine KR p (Ed rv) (by omega) λ out ns' a1 a2 a3=>?_
  obtain⟨e,he⟩:=sortedAll_at s.heap its out
  have hl':ns'.length=ns.length:=a2.length_eq
  refine⟨.ref (s.heap.objs.size + 1),_,I.laid (a:=s.heap.objs.size + 1) (o:=.lst (ns'.map V.int)) (t':=s.toks) (λ b o hb=>sortedAll_old hb) (Nat.le_succ _) ⟨?_,out.toList,e,Lp a1,he⟩,rfl,q _ _ (I.hok.fresh (Nat.le_succ _)) a2 a3⟩
  rw[List.length_map,hl']
  exact Nat.le_of_lt (JO (by omega))
end
section
variable{K:PySem.W.Frag}
theorem N2{t:TE}{m:MI}(h:RRw K true t m):RN K (tCB (HX K) (Bs t Cn)) (Eb m):=by
  intro ρ σ H hd ls Q d hd' hR hL hm hQ
  obtain⟨⟨⟨d1,g1⟩,h1⟩,e1,hm⟩:=Option.bind_eq_some_iff.mp hm
  obtain⟨ns,e2,hm⟩:=Option.bind_eq_some_iff.mp hm
  split at hm
  . next c=>
    cases hm
    refine h ρ σ H hd ls _ d1 g1 _ hR hL e1 λ ρ1 H1 a x1 R1 G1 S1=>?_
    obtain⟨xs,q,r⟩:=S1 ρ1 H1 _ .refl R1 G1
    have e3:d1=ns.map λ i=>.im (.int i):=Db e2
    rw[e3]at r
    have:=Gn r
    subst this
    refine⟨a,ns,rfl,q,c,λ p ns' hp pm pw=>?_⟩
    have:ns'=Es ns:=J0 (pm.trans (I0 ns).symm) pw (GF ns)
    subst this
    obtain⟨R2,x2⟩:=R1.hid (ho:=.lst ((Es ns).map V.int)) hp
    exact hQ ρ1 _ p _ (x1.trans R1 x2) R2 (x1.none hR hp R1) (R1.out hp) AT Ec
  . cases hm
theorem NC(K:PySem.W.Frag){X:Cx}{e:Expr}{te:TE}{mi:MI}{p pos:Pos}(hm:X.mg "sorted"=none)(ha:QR K true X e te mi)(hg:Gl X "sorted":=by rfl)(he:starEach [e] X.env=[(false,eval e X.env)]:=by rfl)(hK:X.K=K:=by rfl):QN K X (.Call (.Name "sorted" p) [e] [] pos) (tCB (HX K) (Bs te Cn)) (Eb mi):=
  ⟨Fi (LP K hK) hg hm Gh (Ch ha.p Dr he) (by decide) (by decide) he rfl,N2 ha.r⟩
end
end L2
namespace L2
end L2
namespace L2
open PySem PySem.Spec PyProof.Rows
section
variable{K:PySem.W.Frag}{ρ ρ':List Addr}{H H':Hp}{hd hd':Hd}
noncomputable def LD:List D->Hd->Option (D × Hd)
  | [.im (.int i)],hd=>some (.im (.int i),hd)
  | [.im (.bl b)],hd=>some (.im (.int (if b then 1 else 0)),hd)
  | _,_=>none
theorem O9:RF K (λ xs H Q=>(∃ i,xs=[.int i]/\Q (.int i) H) ∨ ∃ k,xs=[.bl k]/\Q (.int (if k then 1 else 0)) H) LD:=by
  intro ρ H hd ds vs Q z hd' hR h1 hf hQ
  unfold LD at hf
  split at hf
  . cases hf
    simp only[RDs,RD,RI]at h1
    obtain⟨x,r,rfl,rfl,rfl⟩:=h1
    exact .inl ⟨_,rfl,hQ ρ H _ .refl hR (by simp[RD,RI])⟩
  . cases hf
    simp only[RDs,RD,RI]at h1
    obtain⟨x,r,rfl,rfl,rfl⟩:=h1
    exact .inr ⟨_,rfl,hQ ρ H _ .refl hR (by simp[RD,RI])⟩
  . cases hf
end
section
variable{hd:Hd}{QE:D->Hd->Prop}
theorem Ln{b:Bool}(q:QE (.im (.int (if b then 1 else 0))) hd):WP (LD [.im (.bl b)] hd) QE:=⟨_,_,rfl,q⟩
end
end L2
namespace L2
open PySem PySem.Spec PyProof.Rows PySem.W
inductive KeysOk(h:Heap):List Value->List Int->Prop
  | kI {ks:List Value} {kz:List Int}:IntsAre ks kz->KeysOk h ks kz
  | kP {ks:List Value} {ps:List (Int × Int)}:ks.length=ps.length->(∀ (i:Nat) (v:Value) (p:Int × Int),ks[i]? = some v->ps[i]? = some p->PairAt h v p)->(∀ p ∈ ps,pok p)->KeysOk h ks (ps.map Bb)
theorem KeysOk.len{h:Heap}{ks:List Value}{kz:List Int}(K:KeysOk h ks kz):kz.length=ks.length:=by
  cases K with
  | kI i=>have:=i.length;omega
  | kP hl _ _=>simp[hl]
theorem Ft:∀ {ks:List Value} {kz:List Int} {i:Nat},IntsAre ks kz->i < ks.length->∃ t,ks.getD i .none=.int (kz.getD i 0) t
  | _,_,0,.cons ..,_=>⟨_,rfl⟩
  | _,_,i + 1,.cons _ _ h,hi=>by
    obtain⟨t,e⟩:=Ft (i:=i) h (by simpa using hi)
    exact⟨t,by simpa using e⟩
section
variable{prog:Program}{w:World}{A:Around}{E:Value->Shared->Prop}{s:Shared}
theorem Qn{ks:List Value}{kz:List Int}(K:KeysOk s.heap ks kz)(h2:2 <= ks.length){Q:SortKind->Shared->Prop}
    (h:∀ κ,(∀ (i j:Nat) (C:Bool->Shared->Prop),i < ks.length->j < ks.length->C (decide (kz.getD i 0 < kz.getD j 0)) s->wpAny (model prog w) A (keyLt' κ (ks.getD i .none) (ks.getD j .none)) C (λ _ _=>False) s)->Q κ s) :
    wpAny (model prog w) A (keyKind' ks.toArray) Q E s:=by
  cases K with
  | kI hk=>
    rw[ksk_kind (kz:=kz) (by simpa using hk) (by simpa using h2)]
    refine wpAny_pure (h _ λ i j C hi hj hC=>?_)
    obtain⟨t,e1⟩:=Ft hk hi
    obtain⟨u,e2⟩:=Ft hk hj
    rw[e1,e2]
    exact kat_lt_int hC
  | @kP ps hl hp hok=>
    obtain⟨fs,t1,t2,t3⟩:=Ip hl hp
    have tT:∀ f ∈ fs,Looks (model prog w) s.heap (typeOf f) (Value.type "int"):=λ f hf=>by
      obtain⟨i,t,rfl⟩:=t3 f hf
      exact .of_pure rfl
    refine kat_kind t1 (by omega) tT rfl (h _ λ i j C hi hj hC=>?_)
    have pi:ps[i]? = some (ps.getD i (0,0)):=by simp[show i < ps.length by omega]
    have pj:ps[j]? = some (ps.getD j (0,0)):=by simp[show j < ps.length by omega]
    have vi:ks[i]? = some (ks.getD i Value.none):=by simp[hi]
    have vj:ks[j]? = some (ks.getD j Value.none):=by simp[hj]
    have ei:(ps.map Bb).getD i 0=Bb (ps.getD i (0,0)):=by simp[show i < ps.length by omega]
    have ej:(ps.map Bb).getD j 0=Bb (ps.getD j (0,0)):=by simp[show j < ps.length by omega]
    rw[ei,ej]at hC
    exact MM (hp i _ _ vi pi) (hp j _ _ vj pj) (hok _ (List.mem_of_getElem? pi)) (hok _ (List.mem_of_getElem? pj)) hC
theorem TV{vs:List Value}{kz:List Int}(hl:kz.length=vs.length){p:Array Nat}(pa:PAr vs.length p)(hs:STo (λ i=>kz.getD i 0) p vs.length):KskOut false kz vs (p.toList.map λ i=>vs.getD i Value.none):=by
  have sz:=pa.size
  refine⟨p.toList.map λ i=>(kz.getD i 0,vs.getD i Value.none),?_,by rw[List.map_map];rfl,?_⟩
  . have e:kz.zip vs=(List.range vs.length).map λ i=>(kz.getD i 0,vs.getD i Value.none):=by
      refine List.ext_getElem? λ i=>?_
      by_cases hi:i < vs.length
      . have hi2:i < kz.length:=by omega
        rw[(List.getElem?_zip_eq_some (z:=(kz[i],vs[i]))).mpr ⟨by simp[hi2],by simp[hi]⟩]
        simp[hi,hi2]
      . rw[List.getElem?_eq_none (by simp;omega),List.getElem?_eq_none (by simp;omega)]
    rw[e]
    have:=Array.perm_iff_toList_perm.mp pa
    simpa using this.map _
  . rw[List.pairwise_map,List.pairwise_iff_getElem]
    intro i j hi hj hij
    simp only[Array.length_toList]at hi hj
    have:=hs i j (by omega) (by omega)
    unfold kv at this
    simpa [Array.getD,hi,hj]using this
theorem TW{a kS:Addr}{e e1:Nat}{ks vs:List Value}{kz:List Int}{P:PySem.Fin->Shared->Prop}(nk:s.heap.get? kS=some (seqObj "list" ks.toArray e))(na:s.heap.get? a=some (seqObj "list" #[] e1))(hka:kS ≠ a)(K:KeysOk s.heap ks kz)(hl:ks.length=vs.length)(h64:vs.length < 64)
    (h:∀ out:List Value,KskOut false kz vs out->P (.done (.ret .none)) { s with heap:=(s.heap.update kS (Obj.mapSeq λ _=>#[])).update a (Obj.mapSeq λ _=>out.toArray) }) :
    wpAny (model prog w) A (ksk_end a false vs.toArray e1 (.ref kS) ks.toArray) P E s:=by
  have hz:kz.length=vs.length:=by have:=K.len;omega
  have s1:=Heap.SameBut.update s.heap kS (Obj.mapSeq λ _=>(#[]:Array Value))
  have na1:(s.heap.update kS (Obj.mapSeq λ _=>(#[]:Array Value))).get? a=some (seqObj "list" #[] e1):=(s1.2 a hka.symm).trans na
  have tail:∀ (st:SortSt) (out:List Value),(arrOf st).map (·.2)=out.toArray->out.length=vs.length->failedOf st=none->KskOut false kz vs out->wpAny (model prog w) A (ksk_tail a false e1 (.ref kS) st) P E s:=by
    intro st out ho hlo hf so
    unfold ksk_tail
    dsimp only
    refine wpAny_bind (listUpdate_at nk rfl ?_ (by simp[sizeLine_eq];omega) (Nat.zero_le _))
    refine wpAny_bind (wpAny_letGo ?_)
    refine wpAny_bind (seqEpoch_at na1 rfl ?_)
    simp only[Bool.false_eq_true,if_false]
    rw[ho]
    refine wpAny_bind (listUpdate_at na1 rfl ?_ (Nat.zero_le _) (by rw[List.size_toArray,sizeLine_eq];omega))
    rw[hf]
    simp only[bne_self_eq_false,Bool.false_eq_true,if_false]
    exact wpAny_pure (h out so)
  unfold ksk_end
  simp only[Bool.false_eq_true,if_false]
  by_cases h2:vs.toArray.size < 2
  . rw[if_pos h2,if_pos h2]
    refine wpAny_bind (wpAny_pure ?_)
    rw[StateT.run_pure]
    refine wpAny_bind (wpAny_pure ?_)
    dsimp only
    refine tail _ vs ?_ rfl rfl ⟨kz.zip vs,.refl _,?_,?_⟩
    . show(ks.toArray.zip vs.toArray).map (·.2)=vs.toArray
      apply Array.toList_inj.mp
      simp only[Array.toList_map,Array.toList_zip]
      exact List.map_snd_zip (by omega)
    . exact(List.map_snd_zip (by omega)).symm
    . have hzl:(kz.zip vs).length < 2:=by simp at h2 ⊢;omega
      cases hh:kz.zip vs with
      | nil=>exact .nil
      | cons z r=>
        cases r with
        | nil=>exact List.pairwise_singleton _ _
        | cons y t=>rw[hh]at hzl;exact absurd hzl (by simp)
  . rw[if_neg h2,if_neg h2]
    have h2':2 <= vs.length:=by simp at h2;omega
    refine wpAny_bind (Qn K (by omega) λ κ cmp=>?_)
    have hsz:(ks.toArray.zip vs.toArray).size=vs.length:=by simp[hl]
    have it:∀ i,i < vs.length->kas_item (ks.toArray.zip vs.toArray) i=(ks.getD i .none,vs.getD i .none):=λ i hi=>by
      unfold kas_item
      have h1:i < ks.length:=by omega
      have h3:i < (ks.toArray.zip vs.toArray).size:=by omega
      have e:(ks.toArray.zip vs.toArray).getD i (Value.none,Value.none)=(ks.toArray.zip vs.toArray)[i]:=by simp only[Array.getD,h3,dite_true];rfl
      have e2:(ks.toArray.zip vs.toArray)[i]=(ks[i],vs[i]):=by rw[Array.getElem_zip];simp
      rw[e,e2]
      simp[h1,hi]
    have est:SortSt.mk' κ (ks.toArray.zip vs.toArray) #[] 7 none=kas_st κ (ks.toArray.zip vs.toArray) (List.toArray (List.range vs.length)):=by
      unfold kas_st
      rw[<- hsz,kas_range]
    have ask:(kas_sort vs.length).kasWp (kas_cmp prog w A κ (ks.toArray.zip vs.toArray)) (λ p s'=>s'=s/\PAr vs.length p/\STo (λ i=>kz.getD i 0) p vs.length) s:=by
      refine PWp.wp (n:=vs.length) (r:=λ i=>kz.getD i 0) (P:=λ s'=>s'=s) (λ i j C s' hi hj e hC=>?_) ((Lr (by omega)).mono λ p z s' e=>⟨e,z.1,z.2⟩) rfl
      subst e
      unfold kas_cmp
      rw[it i hi,it j hj]
      exact cmp i j C (by omega) (by omega) (hC _ rfl)
    have run:=kas_runs (E:=E) (Q:=λ _ st' s'=>∃ p:Array Nat,arrOf st'=p.map (kas_item (ks.toArray.zip vs.toArray))/\failedOf st'=none/\s'=s/\PAr vs.length p/\STo (λ i=>kz.getD i 0) p vs.length) h2' h64 (λ p st' s' x1 x2 x3 x4=>⟨p,x2,x3,x4⟩) ask
    rw[<- est]at run
    refine wpAny_bind (wpAny_mono run ?_ λ _ _ e=>e)
    rintro⟨⟨⟩,st'⟩ s' ⟨p,har,hf,rfl,pa,so⟩
    dsimp only
    refine tail st' (p.toList.map λ i=>vs.getD i Value.none) ?_ ?_ hf (TV hz pa so)
    . rw[har]
      apply Array.toList_inj.mp
      simp only[Array.toList_map,List.map_map,List.toList_toArray]
      refine List.map_congr_left λ i hi=>?_
      have hi':i < vs.length:=by
        have:=(Array.perm_iff_toList_perm.mp pa).mem_iff.mp hi
        simpa using this
      exact congrArg Prod.snd (it i hi')
    . simp[pa.size]
end
end L2
namespace L2
open PySem PySem.Spec PyProof.Rows PySem.W
noncomputable def Gy(G:Hp->Prop)(tb:TE)(cap:St):List Int->Hp->(List V->Hp->Prop)->Prop
  | [],H,Q=>Q [] H
  | n :: r,H,Q=>G H/\tb (some (.int n) :: cap) H λ k H1=>Gy G tb cap r H1 λ ks H2=>Q (k :: ks) H2
noncomputable def HE(K:PySem.W.Frag)(H:Hp)(ks:List V)(kz:List Int):Prop:=ks=kz.map V.int ∨ ∃ ps:List (Int × Int),kz=ps.map Bb/\(∀ p ∈ ps,pok p)/\ks.length=ps.length/\∀ (i:Nat) (k:V) (p:Int × Int),ks[i]? = some k->ps[i]? = some p->∃ x,k=.ref x/\SqT K H x [.int p.1,.int p.2]
noncomputable def Hk(kz ns ms:List Int):Prop:=∃ zs:List (Int × Int),zs.Perm (kz.zip ns)/\zs.Pairwise (λ a b=>a.1 <= b.1)/\ms=zs.map (·.2)
noncomputable def EA:Value->Int
  | .int n _=>n
  | _=>0
theorem L3:∀ {vs:List Value} {ns:List Int},IntsAre vs ns->vs.map EA=ns
  | _,_,.nil=>rfl
  | _,_,.cons _ _ h=>by rw[List.map_cons,L3 h];rfl
theorem L7:∀ {vs:List Value} {ns:List Int},IntsAre vs ns->∀ v ∈ vs,∃ t,v=.int (EA v) t
  | _,_,.nil,v,h=>by cases h
  | _,_,.cons _ _ h,v,hv=>by
    rcases List.mem_cons.mp hv with rfl|hv
    . exact⟨_,rfl⟩
    . exact L7 h v hv
theorem Ey:∀ {xs:List V} {vs:List Value} {ns:List Int},xs=ns.map V.int->Vals xs vs->IntsAre vs ns
  | _,_,[],e,h=>by subst e;cases h;exact .nil
  | _,_,n :: r,e,h=>by
    subst e
    cases h with
    | cons a b=>obtain⟨t,rfl⟩:=a;exact .cons n t (Ey rfl b)
theorem Ht:∀ {vs:List Value},(∀ v ∈ vs,∃ t,v=Value.int (EA v) t)->Vals ((vs.map EA).map V.int) vs
  | [],_=>.nil
  | v :: r,h=>by
    refine .cons ?_ (Ht λ w hw=>h w (List.mem_cons_of_mem _ hw))
    obtain⟨t,e⟩:=h v List.mem_cons_self
    exact⟨t,e⟩
theorem Vy{kz ns:List Int}{vs out:List Value}(hi:IntsAre vs ns)(so:KskOut false kz vs out):Hk kz ns (out.map EA)/\∀ v ∈ out,∃ t,v=Value.int (EA v) t:=by
  obtain⟨zs,pm,rfl,pw⟩:=so
  refine⟨⟨zs.map λ z=>(z.1,EA z.2),?_,?_,by rw[List.map_map,List.map_map];rfl⟩,?_⟩
  . have:=pm.map λ z:Int × Value=>(z.1,EA z.2)
    have e:((kz.zip vs).map λ z:Int × Value=>(z.1,EA z.2))=kz.zip ns:=by
      rw[<- L3 hi,List.zip_map_right]
      rfl
    rwa [e]at this
  . rw[List.pairwise_map]
    exact pw.imp λ h=>by simpa using h
  . intro v hv
    obtain⟨z,hz,rfl⟩:=List.mem_map.mp hv
    have:=pm.mem_iff.mp hz
    exact L7 hi _ (List.of_mem_zip this).2
section
variable{X:Cx}{pins:List (Addr × Obj)}{σ:St}{H:Hp}{s:Shared}{a:Addr}
theorem Inv.adopt{o:HO}(I:Inv X pins σ H s)(f:FpOk X pins H a)(h0:X.s₀.heap.objs.size <= a)(new:ObjOk X.prog X.w (upd H a o) s.heap a o):Inv X pins σ (upd H a o) s:=by
  obtain⟨hn,hL,hfs,_,hc,hp⟩:=f
  have nb:∀ b u,H b=some u->b ≠ a:=λ b u e=>AX e hn
  have n0:∀ b o,X.s₀.heap.get? b=some o->b ≠ a:=λ b o e=>Nat.ne_of_lt (Nat.lt_of_lt_of_le (Heap.lt_size e) h0)
  refine⟨I.ok,I.os,I.bare,⟨I.base.keep,I.base.slot,λ b o e n hx=>?_,I.base.there,λ b xs e=>?_,λ b o u e=>?_,λ b ps e=>?_⟩,I.loc,I.cell,?_,λ x c e=>?_,λ p hp'=>?_,λ b u e=>?_,I.len⟩
  . rw[AD (n0 b o e)];exact I.base.free b o e n hx
  . have:=I.base.tups b xs e
    rw[AD (nb b _ this)];exact this
  . have:=I.base.frzs b o u e
    rw[AD (nb b _ this)];exact this
  . obtain⟨m,e1⟩:=I.base.tbls b ps e
    exact⟨m,by rw[AD (nb b _ e1)];exact e1⟩
  . rw[AD (λ z=>hL z.symm)];exact I.free
  . rw[AD (hc x c e)];exact I.freeC x c e
  . obtain⟨q1,q2,q3⟩:=I.pin p hp'
    exact⟨q1,by rw[AD (hp p hp')];exact q2,q3⟩
  . by_cases z:b=a
    . subst z
      rw[AT]at e;cases e
      exact new
    . rw[AD z]at e
      exact(I.hok b u e).stay (λ _ _ _ q=>q) (λ d q=>by rw[AD (nb d _ q)];exact q) λ d xs q=>by rw[AD (nb d _ q)];exact q
theorem TU(I:Inv X pins σ H s){ks:List V}{kz:List Int}{us:List Value}(k:HE X.K H ks kz)(r:Vals ks us):KeysOk s.heap us kz:=by
  rcases k with rfl|⟨ps,rfl,hok,hl,hp⟩
  . exact .kI (Ey rfl r)
  . refine .kP (by rw[<- r.length];exact hl) (λ i v p e1 e2=>?_) hok
    have hi:i < ks.length:=by rw[hl];exact(List.getElem?_eq_some_iff.mp e2).1
    have ek:ks[i]? = some ks[i]:=by simp[hi]
    obtain⟨x,ex,sq⟩:=hp i _ p ek e2
    obtain⟨v',ev,rel⟩:=HP r ek
    rw[e1]at ev
    cases ev
    rw[ex]at rel
    have rel:v=Value.ref x:=rel
    subst rel
    obtain⟨jts,rj,⟨o,ho,hc,n,hd⟩,_⟩:=I.tuple sq
    cases rj with
    | cons r1 t1=>
      cases t1 with
      | cons r2 t2=>
        cases t2
        obtain⟨t,rfl⟩:=r1
        obtain⟨t',rfl⟩:=r2
        exact⟨x,o,t,t',n,rfl,ho,hc,hd⟩
end
end L2
namespace L2
open PySem PySem.Spec PyProof.Rows PySem.W
section
variable{X:Cx}{pins:List (Addr × Obj)}{σ:St}{H:Hp}{s:Shared}
theorem Inv.turn1{b:Addr}{o:Obj}{h':Heap}{t':Nat}(I:Inv X ((b,o) :: pins) σ H s)(f:FpOk X pins H b)(hs:Heap.SameBut b s.heap h'):Inv X pins σ H { s with heap:=h',toks:=t' }:=by
  have J:Inv X pins σ H s:=I.pins_of λ p hp=>I.pin p (List.mem_append_right _ (List.mem_cons_of_mem _ hp))
  obtain⟨hn,hL,_,h1,h2,h3⟩:=f
  exact J.turned (λ c u n e=>(hs.2 c n).trans e) hn hL h1 h2 h3
theorem FpOk.more{b c:Addr}{o:Obj}(f:FpOk X pins H b)(h:c ≠ b):FpOk X ((c,o) :: pins) H b:=by
  obtain⟨a1,a2,a3,a4,a5,a6⟩:=f
  refine⟨a1,a2,a3,a4,a5,λ p hp=>?_⟩
  rcases List.mem_append.mp hp with q|q
  . exact a6 p (List.mem_append_left _ q)
  . rcases List.mem_cons.mp q with rfl|q
    . exact h
    . exact a6 p (List.mem_append_right _ q)
theorem Inv.repin{b:Addr}{o:Obj}(I:Inv X pins σ H s)(f:FpOk X pins H b)(e:s.heap.get? b=some o)(hd:∀ v,o.data ≠ .cell v):Inv X ((b,o) :: pins) σ H s:=
  I.pins_of λ p hp=>by
    rcases List.mem_cons.mp hp with rfl|hp
    . exact⟨e,f.1,f.2.1,f.2.2.1,hd⟩
    . exact I.pin p (List.mem_append_right _ hp)
theorem Mx{l:Value}{f:Addr}{ns:List Int}{G:Hp->Prop}{tb:TE}{cap:St}{Q:VK}{E:Value->Shared->Prop}(I:Inv X pins σ H s)(h64:ns.length < 64)
    (hcol:∀ (Q:List Value->Shared->Prop) (E:Value->Shared->Prop),(∀ (g:Heap) (tk:Nat) (vs:List Value),(∀ b o,s.heap.get? b=some o->g.get? b=some o)->IntsAre vs ns->Q vs { s with heap:=g,toks:=tk })->wpAny (model X.prog X.w) X.A.in1 (collect l) Q E s)
    (turn:∀ (pins':List (Addr × Obj)) (H1:Hp) (s1:Shared) (n:Int) (u:Value) (Q1:VK),(∀ p ∈ pins,p ∈ pins')->Inv X pins' σ H1 s1->RelV (.int n) u->G H1->tb (some (.int n) :: cap) H1 Q1->wpAny (model X.prog X.w) X.A.in1.in1 (call (.ref f) [u]) (EP X pins' σ Q1) (λ _ _=>False) s1)
    (h:Gy G tb cap ns H λ ks H3=>∃ kz,HE X.K H3 ks kz/\∀ p ms,H3 p=none->Hk kz ns ms->Q (.ref p) (upd H3 p (.lst (ms.map V.int)))) :
    wpAny (model X.prog X.w) X.A (call (.builtin "sorted") [l] [(Str.ofString "key",.ref f)]) (EP X pins σ Q) E s:=by
  refine call_function_entry_kw kind_sorted plain_sorted entry_sorted (ksk_s1 _ _) ?_
  unfold Builtin.«sorted»
  refine wpAny_bind (m:=checkCount "sorted" 1 1 _) (wpAny_pure ?_)
  refine wpAny_bind (hcol _ _ λ g tk vs keep0 hi=>?_)
  replace I:Inv X pins σ H { s with heap:=g,toks:=tk }:=I.kept (t':=tk) keep0
  clear hcol
  generalize { s with heap:=g,toks:=tk }=s at I ⊢
  clear keep0 g tk
  have line:vs.length <= sizeLine:=by have:=hi.length;rw[sizeLine_eq];omega
  have h64:vs.length < 64:=by have:=hi.length;omega
  refine wpAny_bind (wpAny_newList ?_ line)
  show wpAny _ _ _ _ _ { s with heap:=s.heap.push (seqObj "list" vs.toArray 0) }
  have hoL:(s.heap.push (seqObj "list" vs.toArray 0)).get? s.heap.objs.size=some (seqObj "list" vs.toArray 0):=Heap.get?_push_size _ rfl
  have keep1:∀ b o,s.heap.get? b=some o->(s.heap.push (seqObj "list" vs.toArray 0)).get? b=some o:=λ b o q=>Heap.get?_push_of_some _ q
  have sz1:(s.heap.push (seqObj "list" vs.toArray 0)).objs.size=s.heap.objs.size + 1:=by rw[size_push']
  generalize s.heap.push (seqObj "list" vs.toArray 0)=h1 at hoL keep1 sz1 ⊢
  have fa:∀ H',H' s.heap.objs.size=none->FpOk X pins H' s.heap.objs.size:=λ H' hn=>I.fpOk (Nat.le_refl _) hn
  have fk:∀ H',H' (s.heap.objs.size + 2)=none->FpOk X pins H' (s.heap.objs.size + 2):=λ H' hn=>I.fpOk (by omega) hn
  refine wpAny_bind (wpAny_holding (wpAny_call_entry_kw slot_list_sort ⟨_,hoL,rfl⟩ entry_list_sort ?_ (ksk_l1 _ _)))
  show wpAny (model X.prog X.w) X.A.in1.in1 (Builtin.«list.sort» ⟨[.ref (s.heap.objs.size)],[(Str.ofString "key",.ref f)]⟩) _ _ _
  rw[ksk_t1]
  have u1:=Heap.SameBut.update h1 (s.heap.objs.size) (Obj.mapSeq λ _=>(#[]:Array Value))
  obtain⟨e1,ho1⟩:∃ e1,(h1.update (s.heap.objs.size) (Obj.mapSeq λ _=>(#[]:Array Value))).get? (s.heap.objs.size)=some (seqObj "list" #[] e1):=⟨_,get?_update_seq hoL λ _=>#[]⟩
  have sz2:(h1.update (s.heap.objs.size) (Obj.mapSeq λ _=>(#[]:Array Value))).objs.size=s.heap.objs.size + 1:=by rw[Heap.size_update,sz1]
  have keep2:∀ b o,s.heap.get? b=some o->(h1.update (s.heap.objs.size) (Obj.mapSeq λ _=>(#[]:Array Value))).get? b=some o:=λ b o q=>(u1.2 b (Nat.ne_of_lt (Heap.lt_size q))).trans (keep1 b o q)
  unfold ksk_tree
  refine wpAny_bind (listItems_at hoL rfl ?_)
  refine wpAny_bind (listUpdate_at hoL rfl ?_ (by rw[List.size_toArray,sizeLine_eq];omega) (Nat.zero_le _))
  refine wpAny_bind (seqEpoch_at ho1 rfl ?_)
  generalize h1.update (s.heap.objs.size) (Obj.mapSeq λ _=>(#[]:Array Value))=h2 at ho1 sz2 keep2 ⊢
  refine wpAny_bind (wpAny_newTuple ?_ (by show vs.length <= _;exact line))
  refine wpAny_bind (wpAny_newList ?_ (Nat.zero_le _))
  have sz3:(h2.push (seqObj "tuple" vs.toArray 0)).objs.size=s.heap.objs.size + 2:=by rw[size_push',sz2]
  have okS:((h2.push (seqObj "tuple" vs.toArray 0)).push (seqObj "list" #[] 0)).get? (s.heap.objs.size + 2)=some (seqObj "list" #[] 0):=by rw[<- sz3];exact Heap.get?_push_size _ rfl
  have oa4:((h2.push (seqObj "tuple" vs.toArray 0)).push (seqObj "list" #[] 0)).get? (s.heap.objs.size)=some (seqObj "list" #[] e1):=Heap.get?_push_of_some _ (Heap.get?_push_of_some _ ho1)
  have keep4:∀ b o,s.heap.get? b=some o->((h2.push (seqObj "tuple" vs.toArray 0)).push (seqObj "list" #[] 0)).get? b=some o:=λ b o q=>Heap.get?_push_of_some _ (Heap.get?_push_of_some _ (keep2 b o q))
  have ekS:∀ o:Obj,Value.ref ((({ s with heap:=h2.push o }:Shared)).heap.objs.size)=Value.ref (h2.push o).objs.size:=λ _=>rfl
  refine wpAny_holding ?_
  have goal:∀ kS:Addr,kS=s.heap.objs.size + 2->wpAny (model X.prog X.w) X.A.in1.in1 (ksk_rest (s.heap.objs.size) (.ref f) false vs.toArray e1 (.ref kS)) (λ fin s'=>∃ v,fin=PySem.Fin.done (.ret v)/\wpAny (model X.prog X.w) X.A.in1 (ret (.ref (s.heap.objs.size))) (λ fin s'=>∃ v,fin=PySem.Fin.done (.ret v)/\EP X pins σ Q v s') E s') E { s with heap:=(h2.push (seqObj "tuple" vs.toArray 0)).push (seqObj "list" #[] 0) }:=by
    intro kS ek
    rw[ek]
    have fresh0:H (s.heap.objs.size)=none/\H (s.heap.objs.size + 2)=none:=⟨I.hok.fresh (by omega),I.hok.fresh (by omega)⟩
    have I4:Inv X pins σ H { s with heap:=(h2.push (seqObj "tuple" vs.toArray 0)).push (seqObj "list" #[] 0) }:=I.kept (t':=s.toks) keep4
    have nak:s.heap.objs.size ≠ s.heap.objs.size + 2:=by omega
    have I5:=(I4.repin (fk H fresh0.2) okS (λ v z=>by cases z)).repin ((fa H fresh0.1).more nak.symm) oa4 (λ v z=>by cases z)
    unfold ksk_rest
    refine wpAny_bind (wpAny_rule ?_)
    first
      | rw[List.forIn_toArray]
      | (rw[<- Array.forIn_toList];simp only[List.toList_toArray])
      | rw[<- Array.forIn_toList]
    refine wpAny_bind (ksk_fold (λ i s'=>∃ (H':Hp) (kA:Array Value) (e:Nat) (ks:List V),Inv X ((s.heap.objs.size,seqObj "list" #[] e1) :: (s.heap.objs.size + 2,seqObj "list" kA e) :: pins) σ H' s'/\Vals ks kA.toList/\kA.size=i /\
      Gy G tb cap (ns.drop i) H' λ ks' H3=>∃ kz,HE X.K H3 (ks ++ ks') kz/\∀ p ms,H3 p=none->Hk kz ns ms->Q (.ref p) (upd H3 p (.lst (ms.map V.int)))) vs 0 _ ⟨H,#[],0,[],I5,.nil,rfl,h⟩ ?step ?done)
    case step=>
      rintro j x s' hx ⟨H',kA,e,ks,J,rk,hsz,hgo⟩
      simp only[Nat.zero_add]at hsz hgo ⊢
      have hj:j < vs.length:=(List.getElem?_eq_some_iff.mp hx).1
      have hjn:j < ns.length:=by have:=hi.length;omega
      have enx:ns[j]? = some ns[j]:=by simp[hjn]
      have edr:ns.drop j=ns[j] :: ns.drop (j + 1):=List.drop_eq_getElem_cons hjn
      rw[edr]at hgo
      obtain⟨hG,hgo⟩:=hgo
      have rx:RelV (.int ns[j]) x:=by
        obtain⟨t,et⟩:=Ft hi hj
        have:vs.getD j .none=x:=by simp[List.getD,hx]
        rw[this]at et
        have:ns.getD j 0=ns[j]:=by simp[hjn]
        rw[this]at et
        exact⟨t,et⟩
      refine wpAny_bind (wpAny_attempt (wpAny_mono (turn _ H' s' ns[j] x _ (λ p hp=>List.mem_cons_of_mem _ (List.mem_cons_of_mem _ hp)) J rx hG hgo) (λ v s'' he=>?_) λ _ _ hF=>hF.elim))
      obtain⟨k,H2,J2,r2,hgo2⟩:=he
      dsimp only
      have pk:=J2.pin (s.heap.objs.size + 2,seqObj "list" kA e) (List.mem_append_right _ (List.mem_cons_of_mem _ List.mem_cons_self))
      have pa:=J2.pin (s.heap.objs.size,seqObj "list" #[] e1) (List.mem_append_right _ List.mem_cons_self)
      have u2:=Heap.SameBut.update s''.heap (s.heap.objs.size + 2) (Obj.mapSeq (·.push v))
      obtain⟨c2,hc2⟩:∃ c2,(s''.heap.update (s.heap.objs.size + 2) (Obj.mapSeq (·.push v))).get? (s.heap.objs.size + 2)=some (seqObj "list" (kA.push v) c2):=⟨_,get?_update_seq pk.1 (·.push v)⟩
      refine wpAny_bind (listUpdate_at pk.1 rfl ?_ (by rw[sizeLine_eq];omega) (Nat.le_trans (Nat.le_of_eq (Array.size_push ..)) (by rw[sizeLine_eq];omega)))
      have J3:Inv X ((s.heap.objs.size + 2,seqObj "list" kA e) :: pins) σ H2 s'':=J2.pins_of λ p hp=>J2.pin p (List.mem_append_right _ (List.mem_cons_of_mem _ hp))
      have J4:Inv X pins σ H2 { s'' with heap:=s''.heap.update (s.heap.objs.size + 2) (Obj.mapSeq (·.push v)) }:=J3.turn1 (t':=s''.toks) (fk H2 pk.2.1) u2
      have oa:(s''.heap.update (s.heap.objs.size + 2) (Obj.mapSeq (·.push v))).get? (s.heap.objs.size)=some (seqObj "list" #[] e1):=(u2.2 _ nak).trans pa.1
      have J5:=(J4.repin (fk H2 pk.2.1) hc2 (λ v z=>by cases z)).repin ((fa H2 pa.2.1).more nak.symm) oa (λ v z=>by cases z)
      refine wpAny_pure ⟨rfl,H2,kA.push v,c2,ks ++ [k],J5,?_,by simp[hsz],?_⟩
      . rw[Array.toList_push];exact rk.append (.cons r2 .nil)
      . simpa [List.append_assoc]using hgo2
    case done=>
      rintro s' ⟨H',kA,e,ks,J,rk,hsz,hgo⟩
      have hdr:ns.drop (0 + vs.length)=[]:=List.drop_of_length_le (by have:=hi.length;omega)
      rw[hdr]at hgo
      obtain⟨kz,kv,fin⟩:∃ kz,HE X.K H' (ks ++ []) kz/\∀ p ms,H' p=none->Hk kz ns ms->Q (.ref p) (upd H' p (.lst (ms.map V.int))):=hgo
      rw[List.append_nil]at kv
      have pk:=J.pin (s.heap.objs.size + 2,seqObj "list" kA e) (List.mem_append_right _ (List.mem_cons_of_mem _ List.mem_cons_self))
      have pa:=J.pin (s.heap.objs.size,seqObj "list" #[] e1) (List.mem_append_right _ List.mem_cons_self)
      refine wpAny_bind (listItems_at pk.1 rfl ?_)
      have ekA:kA=kA.toList.toArray:=by simp
      rw[ekA]at pk ⊢
      have lk:kA.toList.length=vs.length:=by rw[Array.length_toList];omega
      refine TW pk.1 pa.1 nak.symm (TU J kv rk) lk h64 λ out so=>⟨_,rfl,wpAny_pure ⟨_,rfl,?_⟩⟩
      obtain⟨on,oi⟩:=Vy hi so
      have u5:=Heap.SameBut.update s'.heap (s.heap.objs.size + 2) (Obj.mapSeq λ _=>(#[]:Array Value))
      have oa:(s'.heap.update (s.heap.objs.size + 2) (Obj.mapSeq λ _=>(#[]:Array Value))).get? (s.heap.objs.size)=some (seqObj "list" #[] e1):=(u5.2 _ nak).trans pa.1
      have u6:=Heap.SameBut.update (s'.heap.update (s.heap.objs.size + 2) (Obj.mapSeq λ _=>(#[]:Array Value))) (s.heap.objs.size) (Obj.mapSeq λ _=>out.toArray)
      obtain⟨c6,hc6⟩:∃ c6,((s'.heap.update (s.heap.objs.size + 2) (Obj.mapSeq λ _=>(#[]:Array Value))).update (s.heap.objs.size) (Obj.mapSeq λ _=>out.toArray)).get? (s.heap.objs.size)=some (seqObj "list" out.toArray c6):=⟨_,get?_update_seq oa λ _=>out.toArray⟩
      have J3:Inv X ((s.heap.objs.size + 2,seqObj "list" kA e) :: pins) σ H' s':=J.pins_of λ p hp=>J.pin p (List.mem_append_right _ (List.mem_cons_of_mem _ hp))
      have J4:Inv X pins σ H' { s' with heap:=s'.heap.update (s.heap.objs.size + 2) (Obj.mapSeq λ _=>(#[]:Array Value)) }:=J3.turn1 (t':=s'.toks) (fk H' pk.2.1) u5
      have J5:Inv X pins σ H' { s' with heap:=(s'.heap.update (s.heap.objs.size + 2) (Obj.mapSeq λ _=>(#[]:Array Value))).update (s.heap.objs.size) (Obj.mapSeq λ _=>out.toArray) }:=(J4.repin (fa H' pa.2.1) oa (λ v z=>by cases z)).turn1 (t':=s'.toks) (fa H' pa.2.1) u6
      have lo:out.length < 64:=by
        obtain⟨zs,pm,rfl,_⟩:=so
        have:=pm.length_eq
        simp at this ⊢;omega
      have J6:=J5.adopt (o:=.lst ((out.map EA).map V.int)) (fa H' pa.2.1) (I.sz) ⟨by simp[sizeLine_eq];omega,out,c6,Ht oi,hc6⟩
      exact⟨.ref _,_,J6,rfl,fin _ _ pa.2.1 on⟩
  exact goal _ sz3
end
end L2
namespace L2
open PySem PySem.Spec PyProof.Rows PySem.W
noncomputable def Src(K:PySem.W.Frag)(H:Hp)(a:Addr)(ns:List Int):Prop:=SqT K H a (ns.map V.int) ∨ ∃ n:Nat,n < 64/\H a=some (.rng 0 n)/\ns=(List.range n).map λ k:Nat=>(k:Int)
noncomputable def KL(K:PySem.W.Frag)(P:Addr)(q:Str)(pos:Pos)(ix:List Nat)(te tb:TE):TE:=λ σ H Q=>te σ H λ v H1=>∃ (a:Addr) (ns:List Int) (ps:Array Value),v=.ref a/\Src K H1 a ns/\ns.length < 64/\H1 P=some (.tbl ps)/\Ik H1 q pos ps /\
  ∀ H2 c,TabStep P q pos H1 H2->H2 c=some (.ext (cdF c q))->Gy (λ H=>H c=some (.ext (cdF c q))) tb (ix.map λ i=>(σ[i]?).join) ns H2 λ ks H3=>∃ kz,HE K H3 ks kz/\∀ p ms,H3 p=none->Hk kz ns ms->Q (.ref p) (upd H3 p (.lst (ms.map V.int)))
theorem TabStep.rd{P:Addr}{q:Str}{pos:Pos}{H H':Hp}{ps:Array Value}(t:TabStep P q pos H H')(hP:H P=some (.tbl ps)){a:Addr}{xs:List V}(r:Rd H a (.tup xs)):Rd H' a (.tup xs):=by
  rcases t with rfl|⟨c,hc,_,rfl⟩
  . exact r
  . have ne:∀ u,H a=some u->(∀ ps,u ≠ .tbl ps)->upd (upd H P (.tbl #[rawInt pos.line,rawInt pos.col,.ref c])) c (.ext (cdF c q)) a=some u:=λ u e n=>by
      rw[AD (AX e hc),AD (λ z=>by subst z;rw[hP]at e;cases e;exact n _ rfl)];exact e
    rcases r with r|⟨o,r⟩
    . exact .inl (ne _ r λ ps z=>by cases z)
    . exact .inr ⟨o,ne _ r λ ps z=>by cases z⟩
theorem TabStep.sqt{K:PySem.W.Frag}{P:Addr}{q:Str}{pos:Pos}{H H':Hp}{ps:Array Value}(t:TabStep P q pos H H')(hP:H P=some (.tbl ps)){a:Addr}{xs:List V}(r:SqT K H a xs):SqT K H' a xs:=by
  rcases r with r|r
  . exact .inl (t.rd hP r)
  . exact .inr r
theorem TabStep.src{K:PySem.W.Frag}{P:Addr}{q:Str}{pos:Pos}{H H':Hp}{ps:Array Value}(t:TabStep P q pos H H')(hP:H P=some (.tbl ps)){a:Addr}{ns:List Int}(r:Src K H a ns):Src K H' a ns:=by
  rcases r with r|⟨n,h,e,z⟩
  . exact .inl (t.sqt hP r)
  . refine .inr ⟨n,h,?_,z⟩
    rcases t with rfl|⟨c,hc,_,rfl⟩
    . exact e
    . rw[AD (AX e hc),AD (λ z=>by subst z;rw[hP]at e;cases e)];exact e
theorem NU{n:Nat}{acc:Array Value}(it:ItemsOf (λ i v=>∃ t,v=.int (0 + i * 1) t) acc n):IntsAre acc.toList ((List.range n).map λ k:Nat=>(k:Int)):=by
  have:=IV (lo:=0) it
  have e:C1 0 n=((List.range n).map λ k:Nat=>(k:Int)).map V.int:=by
    have:∀ (lo:Nat) (n:Nat),C1 (lo:Int) n=((List.range' lo n).map λ k:Nat=>(k:Int)).map V.int:=by
      intro lo n
      induction n generalizing lo with
      | zero=>rfl
      | succ n ih=>rw[C1,List.range'_succ];simp only[List.map_cons];rw[<- ih (lo + 1)];rfl
    rw[List.range_eq_range']
    exact this 0 n
  rw[e]at this
  exact Ey rfl this
section
variable{X:Cx}{c P:Addr}{scope:Scope}{fr:List Str}{ix:List Nat}{prm:Str}{params:Arguments}{body e:Expr}{p pos lpos kpos:Pos}{te tb:TE}
theorem Qa(LA:LamAt X c P)(S:CSc X scope fr ix)(L:LSc scope prm)(hr:Room 3 X.A)(hcm:X.calm=true)(hg:Gl X "sorted")(hm:X.mg "sorted"=none)
    (hbind:∀ (cl:List (Str × Addr)) (pm cd ctv us:Value),bindArgs (kla_fn "<lambda>" (X.env.qual ++ "<lambda>") params body scope cl pm cd ctv) ⟨[us],[]⟩=pure [(prm,us)])
    (he:PE X e te) (hb:∀ (f:Addr) (cd:Value) (s:Shared) (H:Hp),PE (lCx X X.A.in1.in1 (prm :: fr) (X.env.qual ++ "<lambda>") scope f cd (As X.env.cells scope.names []) s H) body tb)
    (hdef:defaultsOf params X.env=([],[]):=by rfl) (hs:starEach [e] X.env=[(false,eval e X.env)]:=by rfl) :
    PE X (.Call (.Name "sorted" p) [e] [⟨some "key",.Lambda params body scope lpos,kpos⟩] pos) (KL X.K P (X.env.qual ++ "<lambda>") lpos ix te tb):=by
  intro pins s σ H Q I h
  have PAe:PA X [e] (Bs te Cn):=Ch he Dr hs
  refine wpAny_Call_Name_kw (EN (u:=.builtin "sorted") I hg hm Gh ?_)
  have pl:(backTo pos (starEach [e] X.env)).any (·.1)=false:=by rw[hs];rfl
  refine callWith_builtin_kwB pl rfl (evalArgs_kw2 (env:=X.env) (e:=e) (rest:=[]) (kws:=[⟨some "key",.Lambda params body scope lpos,kpos⟩]) rfl (thn (PAe pos pins s σ H (λ vs H1=>match vs with
    | [v]=>∃ (a:Addr) (ns:List Int) (ps:Array Value),v=.ref a/\Src X.K H1 a ns/\ns.length < 64/\H1 P=some (.tbl ps)/\Ik H1 (X.env.qual ++ "<lambda>") lpos ps /\
        ∀ H2 c,TabStep P (X.env.qual ++ "<lambda>") lpos H1 H2->H2 c=some (.ext (cdF c (X.env.qual ++ "<lambda>")))->Gy (λ H=>H c=some (.ext (cdF c (X.env.qual ++ "<lambda>")))) tb (ix.map λ i=>(σ[i]?).join) ns H2 λ ks H3=>∃ kz,HE X.K H3 ks kz/\∀ p ms,H3 p=none->Hk kz ns ms->Q (.ref p) (upd H3 p (.lst (ms.map V.int)))
    | _=>False) I h) λ us s1 hq=>?_) hs)
  obtain⟨vs,H1,I1,r,q⟩:=hq
  match vs,q with
  | [v],q=>
  obtain⟨a,ns,ps,rfl,sq,h64,hP,hg1,go⟩:=q
  obtain⟨u,rfl,ru⟩:=CK r
  cases ru
  show wpAny _ _ (evalAll [(do let v <- eval (.Lambda params body scope lpos) X.env;standAt pos;pure v)]) _ _ s1
  refine wpAny_evalAll_cons (wpAny_bind (Ql S LA I1 hdef hP hg1 λ f cd ctv H2 s2 I2 M=>wpAny_bind (wpAny_standAt (wpAny_pure (wpAny_evalAll_nil ?_)))))
  show wpAny _ _ (call (.builtin "sorted") [.ref a] [(Str.ofString "key",.ref f)]) _ _ s2
  have sq2:=M.step.src hP sq
  obtain⟨c',rfl,hc'⟩:=M.cdc
  have ff:FpOk X pins H2 f:=I1.fpOk M.new M.fre
  have I3:=I2.repin ff M.fn (λ v z=>by cases z)
  refine wpAny_mono (Mx (pins:=(f,_) :: pins) I3 h64 (λ Q E hq=>?_) (λ pins' H' s' n u Q1 sub J ru hG hq=>?_) (go H2 c' M.step hc')) (λ v s' hv=>?_) λ _ _ z=>z
  . rcases sq2 with sq2|⟨n,hn,er,rfl⟩
    . obtain⟨its,rv,tp,_⟩:=I2.tuple sq2
      have hi:IntsAre its ns:=Ey rfl rv
      have hlen:its.length <= sizeLine:=by have:=hi.length;rw[sizeLine_eq];omega
      refine HJ tp (hq _ s2.toks its (λ b o q=>?_) hi) hlen
      have hlt:b < s2.heap.objs.size:=Heap.lt_size q
      rw[Heap.get?_update_ne _ _ _ _ (Nat.ne_of_lt hlt),Heap.get?_push_ne _ _ _ (Nat.ne_of_lt hlt)]
      exact q
    . obtain⟨t,u,v,hr'⟩:∃ t u v,s2.heap.get? a=some { cls:=.type "range",data:=.fields #[.int 0 t,.int n u,.int 1 v] }:=I2.hok a _ er
      refine Lf (n:=n) (I2.ok.hd hcm) hr' (small_one (by omega) (by omega) (by omega) (by omega)) (by rw[RZ];omega) (by omega) λ g tk acc kp it=>hq g tk _ kp (NU it)
  . have pf:=J.pin (f,_) (List.mem_append_right _ (sub _ List.mem_cons_self))
    exact Qm (A:=X.A.in1.in1) (f:=f) S L J rfl hr.in1.in1 pf.1 (J.hok c' _ hG).1 (λ us=>hbind _ _ _ _ us) (λ s H=>hb f _ s H) ru hq
  . obtain⟨y,H',J,ry,qy⟩:=hv
    exact⟨y,H',J.pins_of λ p hp=>J.pin p (List.mem_append_right _ (List.mem_cons_of_mem _ hp)),ry,qy⟩
end
end L2
namespace L2
open PySem PySem.Spec PyProof.Rows PySem.W
noncomputable def K9(K:PySem.W.Frag)(P:Addr)(q:Str)(pos:Pos):Prop:=∃ p':Pos,(P,q,p') ∈ Do K/\((Do K).map (·.1)).Nodup/\p'.line=pos.line/\p'.col=pos.col
open Classical in
noncomputable def FO(ds:List D):Option (List Int):=match BD ds with
  | some ns=>some ns
  | none=>match DL ds with
    | some ps=>if ∀ p ∈ ps,pok p then some (ps.map Bb)else none
    | none=>none
open Classical in
noncomputable def Ex(mb:ME)(cap:Ls)(hd:Hd):List Int->Option (List D)
  | []=>some []
  | n :: r=>match mb (some (.im (.int n)) :: cap) hd with
    | some (k,h)=>match Ex mb cap hd r with
      | some ks=>if h=hd then some (k :: ks)else none
      | none=>none
    | none=>none
theorem Ja{mb:ME}{cap:Ls}{hd:Hd}:∀ {ns:List Int} {ks:List D},Ex mb cap hd ns=some ks->ks.length=ns.length
  | [],ks,e=>by cases e;rfl
  | n :: r,ks,e=>by
    unfold Ex at e
    split at e
    . split at e
      . next ks' e2=>
        split at e
        . cases e;simp[Ja e2]
        . cases e
      . cases e
    . cases e
theorem NP{ds:List D}{kz:List Int}(e:FO ds=some kz):kz.length=ds.length:=by
  unfold FO at e
  split at e
  . next ns e6=>cases e;rw[Db e6];simp
  . split at e
    . next ps e6=>
      split at e
      . cases e;rw[GP e6];simp
      . cases e
    . cases e
noncomputable def Er(kz ns:List Int):List Int:=((kz.zip ns).mergeSort λ a b=>decide (a.1 <= b.1)).map (·.2)
theorem Qe{kz ns ms:List Int}(nd:kz.Nodup)(hl:kz.length=ns.length)(o:Hk kz ns ms):ms=Er kz ns:=by
  obtain⟨zs,pm,pw,rfl⟩:=o
  have pm2:((kz.zip ns).mergeSort λ a b=>decide (a.1 <= b.1)).Perm (kz.zip ns):=List.mergeSort_perm ..
  have pw2:((kz.zip ns).mergeSort λ a b=>decide (a.1 <= b.1)).Pairwise λ a b=>a.1 <= b.1:=by
    have:=List.pairwise_mergeSort (le:=λ a b:Int × Int=>decide (a.1 <= b.1)) (by intro a b c h1 h2;simp at *;omega) (by intro a b;simp;omega) (kz.zip ns)
    exact this.imp (by simp)
  have inj:∀ a ∈ kz.zip ns,∀ b ∈ kz.zip ns,a.1=b.1->a=b:=by
    intro a ha b hb e
    obtain⟨i,hi⟩:=List.mem_iff_getElem?.mp ha
    obtain⟨j,hj⟩:=List.mem_iff_getElem?.mp hb
    obtain⟨i1,i2⟩:=List.getElem?_zip_eq_some.mp hi
    obtain⟨j1,j2⟩:=List.getElem?_zip_eq_some.mp hj
    rw[e]at i1
    have:i=j:=(List.getElem?_inj (List.getElem?_eq_some_iff.mp i1).1 nd).mp (i1.trans j1.symm)
    subst this
    rw[i2]at j2
    exact Prod.ext e (Option.some.inj j2)
  have:zs=(kz.zip ns).mergeSort λ a b=>decide (a.1 <= b.1):=
    (pm.trans pm2.symm).eq_of_pairwise (le:=λ a b=>a.1 <= b.1) (λ a b ha hb h1 h2=>inj a (pm.mem_iff.mp ha) b (pm2.mem_iff.mp hb) (Int.le_antisymm h1 h2)) pw pw2
  rw[this];rfl
noncomputable def IY(m:MA):Ls->Hd->Option (List Int × Hd):=λ ls hd=>(m ls hd).bind λ p=>match p.1 with
  | [.im (.int j)]=>if 0 <= j/\j < 64 then some ((List.range j.toNat).map λ k:Nat=>(k:Int),p.2)else none
  | _=>none
open Classical in
noncomputable def IN(src:Ls->Hd->Option (List Int × Hd))(ix:List Nat)(mb:ME):MA:=λ ls hd=>(src ls hd).bind λ p=>(Ex mb (ix.map λ i=>(ls[i]?).join) p.2 p.1).bind λ ks=>(FO ks).bind λ kz=>
  if p.1.length < 64/\kz.Nodup then some ((Er kz p.1).map λ i=>.im (.int i),p.2)else none
noncomputable abbrev ML(m:MA)(ix:List Nat)(mb:ME):MA:=IN (IY m) ix mb
noncomputable def RU(K:PySem.W.Frag)(te:TE)(src:Ls->Hd->Option (List Int × Hd)):Prop:=∀ (ρ:List Addr) (σ:St) (H:Hp) (hd:Hd) (ls:Ls) (Q:VK) (ns:List Int) (hd':Hd),RH K ρ H hd->RL K ρ H ls σ->src ls hd=some (ns,hd') ->
  (∀ ρ1 H1 a,Ext ρ H ρ1 H1->RH K ρ1 H1 hd'->Src K H1 a ns->Q (.ref a) H1)->te σ H Q
section
variable{K:PySem.W.Frag}{ρ:List Addr}{H:Hp}{hd:Hd}
theorem PY{P:Addr}{q:Str}{pos:Pos}{H2:Hp}{ps:Array Value}(R:RH K ρ H hd)(hP:H P=some (.tbl ps))(t:TabStep P q pos H H2)(TI:K9 K P q pos):RH K ρ H2 hd/\Ext ρ H ρ H2:=by
  rcases t with rfl|⟨c,hc,ncP,rfl⟩
  . exact⟨R,.refl⟩
  . obtain⟨p',et,nd,e1,e2⟩:=TI
    have nP:∀ b,b ∈ ρ->b ≠ P:=λ b hb z=>by
      subst z
      rcases R.mut hb with⟨y,w⟩|⟨y,w⟩ <;> (rw[hP]at w;cases w)
    have nc:∀ b u,H b=some u->b ≠ c:=λ b u e=>AX e hc
    have ex:Ext ρ H ρ (upd (upd H P (.tbl #[rawInt pos.line,rawInt pos.col,.ref c])) c (.ext (cdF c q))):=by
      refine⟨⟨[],by simp,by simp⟩,λ b o e nb nt'=>?_,λ b ps e=>?_⟩
      . rw[AD (nc b _ e),AD (λ z=>by subst z;rw[hP]at e;cases e;exact nt' _ rfl)];exact e
      . by_cases z:b=P
        . subst z;exact⟨_,by rw[AD (nc _ _ hP),AT]⟩
        . exact⟨ps,by rw[AD (nc b _ e),AD z];exact e⟩
    refine⟨⟨R.len,R.nd,λ x hx=>?_,λ n o a h1 h2=>?_⟩,ex⟩
    . by_cases hxP:x.1=P
      . have ex:x=(P,q,p'):=by
          obtain⟨i,hi⟩:=List.mem_iff_getElem?.mp hx
          obtain⟨j,hj⟩:=List.mem_iff_getElem?.mp et
          have i1:((Do K).map (·.1))[i]? = some P:=by rw[List.getElem?_map,hi];simp[hxP]
          have j1:((Do K).map (·.1))[j]? = some P:=by rw[List.getElem?_map,hj];rfl
          have:i=j:=(List.getElem?_inj (List.getElem?_eq_some_iff.mp i1).1 nd).mp (i1.trans j1.symm)
          subst this
          exact Option.some.inj (hi.symm.trans hj)
        subst ex
        refine⟨#[rawInt pos.line,rawInt pos.col,.ref c],by rw[AD (nc _ _ hP),AT],.inr ⟨c,?_,AT⟩⟩
        show #[rawInt pos.line,rawInt pos.col,Value.ref c]=#[rawInt p'.line,rawInt p'.col,Value.ref c]
        rw[e1,e2]
      . obtain⟨ps',hx1,hG⟩:=R.tabs x hx
        refine⟨ps',by rw[AD (nc _ _ hx1),AD hxP];exact hx1,?_⟩
        rcases hG with g|⟨c',g1,g2⟩
        . exact .inl g
        . exact .inr ⟨c',g1,by rw[AD (nc _ _ g2),AD (λ z=>by subst z;rw[hP]at g2;cases g2)];exact g2⟩
    . obtain⟨ho,q1,q2⟩:=R.ob n o a h1 h2
      exact⟨ho,by rw[AD (nc a _ q1),AD (nP a (List.mem_of_getElem? h2))];exact q1,by simpa using q2.mono (ex.grow R) []⟩
theorem MP{tb:TE}{mb:ME}{ix:List Nat}{q:Str}{c:Addr}(hb:RE K tb mb){ls:Ls}{σ:St}:∀ {ns:List Int} {kds:List D} {ρ:List Addr} {H:Hp} {Q:List V->Hp->Prop},RH K ρ H hd->RL K ρ H ls σ->H c=some (.ext (cdF c q)) ->
    Ex mb (ix.map λ i=>(ls[i]?).join) hd ns=some kds->(∀ ρ' H' ks,Ext ρ H ρ' H'->RH K ρ' H' hd->RDs K ρ' H' kds ks->Q ks H')->Gy (λ H=>H c=some (.ext (cdF c q))) tb (ix.map λ i=>(σ[i]?).join) ns H Q
  | [],kds,ρ,H,Q,R,L,hc,e,k=>by
    cases e
    exact k ρ H [] .refl R (by simp[RDs])
  | n :: r,kds,ρ,H,Q,R,L,hc,e,k=>by
    unfold Ex at e
    split at e
    . next kd h e1=>
      split at e
      . next ks e2=>
        split at e
        . next eh=>
          cases e
          rw[eh]at e1
          refine⟨hc,hb ρ _ H _ (some (.im (.int n)) :: ix.map λ i=>(ls[i]?).join) _ kd _ R ⟨by simp,λ i d ei=>?_⟩ e1 λ ρ1 H1 v1 x1 R1 r1=>?_⟩
          . cases i with
            | zero=>cases ei;exact⟨.int n,rfl,by simp[RD,RI]⟩
            | succ j=>
              have ei:(ix.map λ i=>(ls[i]?).join)[j]? = some (some d):=ei
              rw[List.getElem?_map]at ei
              cases qj:ix[j]? with
              | none=>rw[qj]at ei;cases ei
              | some m=>
                rw[qj]at ei
                have ei:(ls[m]?).join=some d:=Option.some.inj ei
                have em:ls[m]? = some (some d):=by
                  cases w:ls[m]? with
                  | none=>rw[w]at ei;cases ei
                  | some z=>rw[w]at ei;simpa using ei
                obtain⟨v,ev,rv⟩:=L.ob m d em
                refine⟨v,?_,rv⟩
                show(ix.map λ i=>(σ[i]?).join)[j]? = some (some v)
                rw[List.getElem?_map,qj]
                simp[ev]
          . have oc:c ∉ ρ:=λ m=>by rcases R.mut m with⟨y,w⟩|⟨y,w⟩ <;> (rw[hc]at w;cases w)
            refine MP hb R1 (L.ext R x1) (x1.keep c _ hc oc nt) e2 λ ρ2 H2 ks2 x2 R2 r2=>?_
            exact k ρ2 H2 (v1 :: ks2) (x1.trans R1 x2) R2 (.cons (r1.ext R1 x2) r2)
        . cases e
      . cases e
    . cases e
theorem S9{t:TA}{m:MA}(h:RA K t m):RU K (tCB IE t) (IY m):=by
  intro ρ σ H hd ls Q ns hd' hR hL hm k
  obtain⟨⟨d1,h1⟩,e1,hm⟩:=Option.bind_eq_some_iff.mp hm
  dsimp only at hm
  refine h ρ σ H hd ls _ d1 h1 hR hL e1 λ ρ1 H1 v x1 R1 r1=>?_
  split at hm
  . next j=>
    split at hm
    . next c=>
      cases hm
      simp only[RDs,RD,RI]at r1
      obtain⟨x,r,rfl,rfl,rfl⟩:=r1
      refine .inl ⟨j,rfl,λ p hp=>?_⟩
      obtain⟨R2,x2⟩:=R1.hid (ho:=.rng 0 j) hp
      refine k ρ1 _ p (x1.trans R1 x2) R2 (.inr ⟨j.toNat,by omega,?_,rfl⟩)
      rw[AT,Int.toNat_of_nonneg c.1]
    . cases hm
  . cases hm
theorem Pz{te tb:TE}{src:Ls->Hd->Option (List Int × Hd)}{mb:ME}{P:Addr}{q:Str}{pos:Pos}{ix:List Nat}(hi:RU K te src)(hb:RE K tb mb)(TI:K9 K P q pos):RN K (KL K P q pos ix te tb) (IN src ix mb):=by
  intro ρ σ H hd ls Q d hd' hR hL hm hQ
  obtain⟨⟨ns,h1⟩,e1,hm⟩:=Option.bind_eq_some_iff.mp hm
  obtain⟨kds,e4,hm⟩:=Option.bind_eq_some_iff.mp hm
  obtain⟨kz,e5,hm⟩:=Option.bind_eq_some_iff.mp hm
  dsimp only at hm e4
  split at hm
  . next cc=>
    cases hm
    refine hi ρ σ H hd ls _ ns _ hR hL e1 λ ρ1 H1 a x1 R1 sq=>?_
    obtain⟨p',et,_,l1,l2⟩:=id TI
    obtain⟨ps,hP,hG⟩:=R1.tabs (P,q,p') et
    have hG':Ik H1 q pos ps:=by
      rcases hG with g|⟨c,g1,g2⟩
      . exact .inl g
      . refine .inr ⟨c,?_,g2⟩
        rw[g1]
        show #[rawInt p'.line,rawInt p'.col,Value.ref c]=_
        rw[l1,l2]
    refine⟨a,ns,ps,rfl,sq,cc.1,hP,hG',λ H2 c step hc=>?_⟩
    obtain⟨R2,x2⟩:=PY R1 hP step TI
    have x12:=x1.trans R1 x2
    refine MP hb R2 (hL.ext hR x12) hc e4 λ ρ3 H3 ks x3 R3 r3=>?_
    have x13:=x12.trans R2 x3
    refine⟨kz,?_,λ p ms hp out=>?_⟩
    . unfold FO at e5
      split at e5
      . next ns' e6=>
        cases e5
        rw[Db e6]at r3
        exact .inl r3.ints
      . split at e5
        . next ps' e6=>
          split at e5
          . next ok=>
            cases e5
            rw[GP e6]at r3
            refine .inr ⟨ps',rfl,ok,by have:=r3.len;simp at this;omega,λ i k p ek ep=>?_⟩
            obtain⟨w,ew,rw_⟩:=r3.get (i:=i) (d:=B1 p) (by rw[List.getElem?_map,ep];rfl)
            rw[ek]at ew
            cases ew
            exact M3 rw_
          . cases e5
        . cases e5
    . have lz:kz.length=ns.length:=by
        rw[NP e5,Ja e4]
      have:=Qe cc.2 lz out
      subst this
      obtain⟨R4,x4⟩:=R3.hid (ho:=.lst ((Er kz ns).map V.int)) hp
      exact hQ ρ3 _ p _ (x13.trans R3 x4) R4 (x13.none hR hp R3) (R3.out hp) AT Ec
  . cases hm
end
end L2
namespace L2
open PySem PySem.Spec PyProof.Rows PySem.W
structure LamC(K:PySem.W.Frag)(mg:Str->Option Value)(base:Heap)(fd:FuncData)(c P:Addr)(q:Str)(pos:Pos):Prop where
  code:fd.code=.ref c
  hd:CodeHd base c P
  bl:base.BuiltinsAt mg P
  ti:K9 K P q pos
structure QSrc(K:PySem.W.Frag)(X:Cx)(e:Expr)(te:TE)(src:Ls->Hd->Option (List Int × Hd)):Prop where
  p:PE X e te
  r:RU K te src
theorem QH(K:PySem.W.Frag){X:Cx}{a:Expr}{t:TA}{m:MA}{p2 pos2:Pos}(hm2:X.mg "range"=none)(ha:QA K X [a] t m)(hg2:Gl X "range":=by rfl)(he2:starEach [a] X.env=[(false,eval a X.env)]:=by rfl):QSrc K X (.Call (.Name "range" p2) [a] [] pos2) (tCB IE t) (IY m):=
  ⟨Dj (call_rng1.or Jk) hg2 hm2 boot_range ha.p (by decide) (by decide) he2 rfl,S9 ha.r⟩
theorem QJ(K:PySem.W.Frag){src:Ls->Hd->Option (List Int × Hd)}{X:Cx}{c P:Addr}{scope:Scope}{fr:List Str}{ix:List Nat}{prm:Str}{params:Arguments}{body e:Expr}{p pos lpos kpos:Pos}{te tb:TE}{mb:ME}{k:Nat}(LA:LamAt X c P)(TI:K9 K P (X.env.qual ++ "<lambda>") lpos)(S:CSc X scope fr ix)(L:LSc scope prm)(hr:Room k X.A)(h3:3 <= k)(hm:X.mg "sorted"=none)
    (he:QSrc K X e te src) (hb:∀ (f:Addr) (cd:Value) (s:Shared) (H:Hp),QE K (lCx X X.A.in1.in1 (prm :: fr) (X.env.qual ++ "<lambda>") scope f cd (As X.env.cells scope.names []) s H) body tb mb)
    (hbind:∀ (cl:List (Str × Addr)) (pm cd ctv us:Value),bindArgs (kla_fn "<lambda>" (X.env.qual ++ "<lambda>") params body scope cl pm cd ctv) ⟨[us],[]⟩=pure [(prm,us)])
    (hcm:X.calm=true:=by rfl) (hg:Gl X "sorted":=by rfl) (hdef:defaultsOf params X.env=([],[]):=by rfl) (hs:starEach [e] X.env=[(false,eval e X.env)]:=by rfl) (hK:X.K=K:=by rfl) :
    QN K X (.Call (.Name "sorted" p) [e] [⟨some "key",.Lambda params body scope lpos,kpos⟩] pos) (KL K P (X.env.qual ++ "<lambda>") lpos ix te tb) (IN src ix mb):=by
  subst hK
  exact⟨Qa LA S L (hr.mono h3) hcm hg hm hbind he.p (λ f cd s H=>(hb f cd s H).p) hdef hs,Pz he.r (hb 0 .none X.s₀ X.H₀).r TI⟩
theorem Qf{P:Program}{w:World}{K:PySem.W.Frag}{mg:Str->Option Value}{base:Heap}{x:Str}{st:Stmt}{f:Addr}{fd:FuncData}{N ps:List Str}{j:Nat}{m:MS}(DA:DefAt K mg x st f fd ps)(S:FnScope N ps (AF st))
    (h:∀ (cdv:Value) (A:Around) (outer:List Env) (s:Shared) (H:Hp) (E:XK),fd.code=cdv->Room j (A.deeper (envOfC x (AF st) s.heap.objs.size f cdv))->∃ t,QSs K (Ga CX0 P w K mg base N x (AF st) f cdv A outer s H E).nox (Ai st) t m) :
    FnOk P w K mg base CX0 (j + 1) f fd ps (spF K ps.length (mkF ps.length N.length m)):=by
  obtain⟨F,hmg,bd⟩:=DA
  obtain⟨⟨oc,od,kV,doc,pm,an,cdv,ct,osl,rfl,lk,hcd⟩,kp⟩:=F
  refine Rl lk hcd S (λ vs H Q E h=>h.1) λ A outer s H vs Q E hr hs=>?_
  obtain⟨t,q⟩:=h cdv A outer s H E rfl hr
  exact⟨t,q.p.nox,Lq q.r hs⟩
theorem N0(g:Int->Int)(ns:List Int):(Er (ns.map g) ns).Perm ns/\(Er (ns.map g) ns).Pairwise λ a b=>g a <= g b:=by
  have pm:(((ns.map g).zip ns).mergeSort λ a b=>decide (a.1 <= b.1)).Perm ((ns.map g).zip ns):=List.mergeSort_perm ..
  have pw:(((ns.map g).zip ns).mergeSort λ a b=>decide (a.1 <= b.1)).Pairwise λ a b=>a.1 <= b.1:=by
    have:=List.pairwise_mergeSort (le:=λ a b:Int × Int=>decide (a.1 <= b.1)) (by intro a b c h1 h2;simp at *;omega) (by intro a b;simp;omega) ((ns.map g).zip ns)
    exact this.imp (by simp)
  have ez:(ns.map g).zip ns=ns.map λ n=>(g n,n):=by
    clear pm pw
    induction ns with
    | nil=>rfl
    | cons n r ih=>simp[ih]
  have el:∀ a ∈ (((ns.map g).zip ns).mergeSort λ a b=>decide (a.1 <= b.1)),a.1=g a.2:=λ a ha=>by
    have:=pm.mem_iff.mp ha
    rw[ez]at this
    obtain⟨n,_,rfl⟩:=List.mem_map.mp this
    rfl
  refine⟨?_,?_⟩
  . have:=pm.map (·.2)
    unfold Er
    refine this.trans ?_
    rw[ez,List.map_map]
    have:((λ x:Int × Int=>x.2) ∘ λ n=>(g n,n))=id:=rfl
    rw[this,List.map_id]
  . unfold Er
    rw[List.pairwise_map]
    exact pw.imp_of_mem λ {a b} ha hb h=>by rw[<- el a ha,<- el b hb];exact h
theorem JZ{mb:ME}{cap:Ls}{hd:Hd}(kf:Int->D):∀ {ns:List Int},(∀ n ∈ ns,mb (some (.im (.int n)) :: cap) hd=some (kf n,hd))->Ex mb cap hd ns=some (ns.map kf)
  | [],_=>rfl
  | n :: r,h=>by
    unfold Ex
    rw[h n List.mem_cons_self,JZ kf λ m hm=>h m (List.mem_cons_of_mem _ hm)]
    simp
theorem OZ{g:Int->Int}{ns:List Int}(nd:ns.Nodup)(h:∀ a ∈ ns,∀ b ∈ ns,g a=g b->a=b):(ns.map g).Nodup:=by
  rw[List.nodup_iff_pairwise_ne,List.pairwise_map]
  exact(List.nodup_iff_pairwise_ne.mp nd).imp_of_mem λ {a b} ha hb hne e=>hne (h a ha b hb e)
end L2
namespace HT
open PySem PyProof.Rows
end HT
namespace L2
open PySem PySem.Spec PyProof.Rows
section
variable{X:Cx}
end
section
variable{K:PySem.W.Frag}
end
end L2
namespace HT
open PySem PyProof.Rows
open PySem.AutoSeq1 (wpAny_loadPart')
section
variable{prog:Program}{w:World}{A:Around}{E:Value->Shared->Prop}{s:Shared}
end
end HT
namespace L2
open PySem PySem.Spec PyProof.Rows
end L2
namespace HS
open PySem PyProof.Rows
open PySem.AutoSeq1 (wpAny_loadPart')
open Sem (wp)
noncomputable abbrev st(t:Tok):List (Str × Value):=[(Str.ofString "start",.int 1 t)]
section
variable{prog:Program}{w:World}{A:Around}{E:Value->Shared->Prop}{s:Shared}
end
end HS
namespace L2
open PySem PySem.Spec PyProof.Rows
section
variable{K:PySem.W.Frag}
end
end L2
namespace HR
open PySem PyProof.Rows
open Sem (wp)
section
variable{prog:Program}{w:World}{A:Around}{E:Value->Shared->Prop}{s:Shared}
end
section
variable{prog:Program}{w:World}{A:Around}{R:Result->Shared->Prop}
end
section
variable{prog:Program}{w:World}{A:Around}{R:Result->Shared->Prop}{s:Shared}
end
section
variable{prog:Program}{w:World}{A:Around}{E:Value->Shared->Prop}{s:Shared}
end
end HR
namespace L2
open PySem PySem.Spec PyProof.Rows
section
variable{K:PySem.W.Frag}
end
end L2
namespace L2
open PySem PySem.Spec PyProof.Rows PySem.W
section
variable{X:Cx}{pins:List (Addr × Obj)}{σ:St}{l f It S:Addr}{src:Hp->List V->Prop}{G:Hp->Prop}{tb:TE}{cap:St}{Q:VK}{E:Value->Shared->Prop}
end
end L2
namespace L2
open PySem PySem.Spec PyProof.Rows PySem.W
section
variable{X:Cx}{c P:Addr}{scope:Scope}{fr:List Str}{ix:List Nat}{prm:Str}{params:Arguments}{body e:Expr}{p pos lpos kpos:Pos}{te tb:TE}
end
end L2
namespace L2
open PySem PySem.Spec PyProof.Rows PySem.W
section
variable{K:PySem.W.Frag}{hd:Hd}
end
end L2
namespace L2
open PySem PySem.Spec PyProof.Rows PySem.W
section
variable{X:Cx}{pins:List (Addr × Obj)}{σ:St}{l f It S:Addr}{src:Hp->List V->Prop}{G:Hp->Prop}{tb:TE}{cap:St}{Q:VK}{E:Value->Shared->Prop}
end
section
variable{X:Cx}{c P:Addr}{scope:Scope}{fr:List Str}{ix:List Nat}{prm:Str}{params:Arguments}{body e:Expr}{p pos lpos kpos:Pos}{te tb:TE}
end
section
variable{K:PySem.W.Frag}{hd:Hd}
end
end L2
namespace L2
open PySem PySem.Spec PyProof.Rows PySem.W
section
variable{K:PySem.W.Frag}{hd:Hd}
end
section
variable{X:Cx}{pins:List (Addr × Obj)}{σ:St}{l f It S:Addr}{src:Hp->List V->Prop}{G:Hp->Prop}{tb:TE}{cap:St}{Q:VK}{E:Value->Shared->Prop}
end
section
variable{X:Cx}{c P:Addr}{scope:Scope}{fr:List Str}{ix:List Nat}{prm:Str}{params:Arguments}{body e:Expr}{p pos lpos kpos:Pos}{te tb:TE}
end
section
variable{K:PySem.W.Frag}{hd:Hd}
end
end L2
namespace L2
open PySem PySem.Spec PyProof.Rows PySem.W
end L2
namespace L2
open PySem PySem.Spec PyProof.Rows
section
variable{X:Cx}{pos p2:Pos}
end
end L2
namespace L2
open PySem PySem.Spec PyProof.Rows
section
variable{K:PySem.W.Frag}
variable{X:Cx}{pos:Pos}
end
end L2
namespace L2
open PySem PySem.Spec PyProof.Rows
theorem pick_all:∀ L:List Value,(List.range L.length).filterMap (λ i=>L[i]?)=L
  | []=>rfl
  | x :: r=>by
    rw[List.length_cons,List.range_succ_eq_map,List.filterMap_cons]
    simp only[List.getElem?_cons_zero,List.filterMap_map]
    congr 1
    have:=pick_all r
    simpa [Function.comp_def]using this
theorem QX(items:Array Value):slicePick items none none (some (-1))=items.toList.reverse.toArray:=by
  unfold slicePick
  congr 1
  have e1:(sliceBounds none none (some (-1)) items.size)=((items.size:Int) - 1,-1,-1):=by simp[sliceBounds]
  rw[e1]
  have e2:sliceRange ((items.size:Int) - 1) (-1) (-1)=(List.range items.size).map λ k=>items.size - 1 - k:=by
    unfold sliceRange
    have c0:((if(-1:Int) > 0 then(if((items.size:Int) - 1) < -1 then((-1) - ((items.size:Int) - 1) + (-1) - 1) / (-1)else 0)else(if((items.size:Int) - 1) > -1 then(((items.size:Int) - 1) - (-1) - (-1) - 1) / (-(-1))else 0)):Int).toNat=items.size:=by
      rw[if_neg (by decide)]
      split
      . rw[show(-(-1):Int)=1 from rfl,Int.ediv_one];omega
      . omega
    dsimp only
    rw[c0]
    refine List.map_congr_left λ k hk=>?_
    have:=List.mem_range.mp hk
    show((items.size:Int) - 1 + -1 * (k:Int)).toNat=items.size - 1 - k
    omega
  rw[e2]
  have e3:((List.range items.size).map λ k=>items.size - 1 - k)=(List.range items.size).reverse:=by
    refine List.ext_getElem (by simp) λ i h1 h2=>?_
    simp[List.getElem_reverse]
  rw[e3,List.filterMap_reverse]
  congr 1
  have:=pick_all items.toList
  simpa using this
theorem HN:∀ {xs:List V} {us:List Value},Vals xs us->Vals xs.reverse us.reverse
  | _,_,.nil=>.nil
  | _,_,.cons r t=>by
    rw[List.reverse_cons,List.reverse_cons]
    exact Vals.append (HN t) (.cons r .nil)
section
variable{X:Cx}{e stp:Expr}{te ts:TE}{pos p2:Pos}
noncomputable def Pe(K:PySem.W.Frag)(te ts:TE):TE:=λ σ H Q=>te σ H λ x H1=>ts σ H1 λ y H2=>y=.int (-1)/\∃ a xs,x=.ref a/\SqL K H2 a xs/\∀ p,H2 p=none->Q (.ref p) (upd H2 p (.lst xs.reverse))
theorem Us(he:PE X e te)(hs:PE X stp ts):PE X (.Subscript e (.Slice none none (some stp) p2) pos) (Pe X.K te ts):=by
  intro pins s σ H Q I h
  refine Subscript_ (thn (he pins s σ H _ I h) λ v s1 ⟨x,H1,I1,r1,q1⟩=>?_)
  refine wpAny_Slice ?_
  rw[evalPart_none]
  refine wpAny_pure (wpAny_pure ?_)
  rw[evalPart_some]
  refine thn (hs pins s1 σ H1 _ I1 q1) λ vs s3 ⟨y,H3,I3,r3,q3⟩=>?_
  obtain⟨rfl,a,xs,rfl,hx,q⟩:=q3
  obtain⟨t,rfl⟩:=r3
  cases r1
  have I4:Inv X pins σ H3 { s3 with heap:=s3.heap.push { cls:=.type "slice",data:=.fields #[.none,.none,.int (-1) t] } }:=I3.kept (t':=s3.toks) λ b ob q=>Heap.get?_push_of_some _ q
  obtain⟨its,r,ht,hz⟩:=I4.list hx
  have hlen:=r.length
  have hg:wpAny (model X.prog X.w) X.A (getItem (.ref a) (.ref s3.heap.objs.size)) (EP X pins σ Q) X.xe { s3 with heap:=s3.heap.push { cls:=.type "slice",data:=.fields #[.none,.none,.int (-1) t] } }:=by
    refine wpAny_getItem_list_slice ht.isList (Heap.IsSliceOf.new ..) .none .none (.int (-1) t) (by simp) ?_ (by rw[List.size_toArray] <;> omega)
    rw[QX]
    refine⟨.ref _,_,I4.laid (t':=s3.toks) (o:=.lst xs.reverse) (λ b ob q=>Heap.get?_push_of_some _ q) (Nat.le_refl _) ?_,rfl,q _ (I4.hok.fresh (Nat.le_refl _))⟩
    refine⟨by rw[List.length_reverse];exact hz,its.reverse,0,?_,?_⟩
    . exact HN r
    . exact Heap.get?_push_size _ rfl
  show wpAny (model X.prog X.w) X.A (subscriptTail e (.Slice none none (some stp) p2) (.ref a) (.ref s3.heap.objs.size)) (EP X pins σ Q) X.xe { s3 with heap:=s3.heap.push { cls:=.type "slice",data:=.fields #[.none,.none,.int (-1) t] } }
  exact tail_any (ops:=[.ref a,.ref s3.heap.objs.size]) ht.isList.typeIs slot_list_getitem.lookup hg (by with_unfolding_all rfl)
end
end L2
namespace L2
open PySem PySem.Spec PyProof.Rows
section
variable{K:PySem.W.Frag}{ρ:List Addr}{H:Hp}
theorem RDs.rev:∀ {ds:List D} {xs:List V},RDs K ρ H ds xs->RDs K ρ H ds.reverse xs.reverse
  | [],xs,h=>by simp only[RDs]at h;subst h;simp[RDs]
  | d :: ds,xs,h=>by
    simp only[RDs]at h
    obtain⟨x,r,rfl,rx,h⟩:=h
    rw[List.reverse_cons,List.reverse_cons]
    exact(RDs.rev h).app (.cons rx .nil)
variable{X:Cx}{e stp:Expr}{te ts:TE}{m:MA}{ms:ME}{pos p2:Pos}
end
end L2
namespace L2
open PySem PySem.Spec PyProof.Rows
theorem Ol{M:Model}{A:Around}{E:Value->Shared->Prop}{s:Shared}{β:Type}{n:Nat}{b:β}{f:Nat->β->Sem (ForInStep β)}{Q:β->Shared->Prop}(h:wpAny M A (forIn (List.range' 0 n) b f) Q E s):wpAny M A (forIn ([:n]:Std.Legacy.Range) b f) Q E s:=by
  rw[Std.Legacy.Range.forIn_eq_forIn_range']
  simpa only[Std.Legacy.Range.size,Nat.sub_zero,Nat.add_sub_cancel,Nat.div_one]using h
theorem O2(a:Addr)(its:Array Value)(k:Nat)(dd:Option Addr)(sl:Array (Option Value))(x:Value)(e:Value->Bool)(j:Nat)(hj:j < its.size)(yes:e its[j]=true)(no:∀ m (hm:m < its.size),m < j->e its[m]=false) :
    Meets (Builtin.«tuple.index» ⟨[.ref a,x],[]⟩) (λ A R s=>s.heap.get? a=some { cls:=.type "tuple",dict:=dd,data:=.seq its k,slots:=sl }/\(∀ y,y ∈ its->PySem.SeqAt.EqAt A.in1 s y x (e y))/\R (.ok (.ret (.int j s.toks))) { s with toks:=s.toks + 1 }):=
  .of_wp λ prog w A R s0 hh=>by
    obtain⟨hp,gs,dr,tk,os⟩:=s0
    obtain⟨h1,h2,h3⟩:=hh
    wp_walk using AutoSeq1.wpAny_loadPart' h1,Ol
    rw[Nat.min_self]
    refine wpAny_forIn_list _ (λ rest b s'=>b.1=none/\s'=⟨hp,gs,dr,tk,os⟩/\∃ i,i <= j/\rest=List.range' i (its.size - i)) _ ?_ ?_ _ _ ⟨rfl,rfl,0,Nat.zero_le _,rfl⟩
    . rintro z rest b s' ⟨hb,rfl,i,hi,hr⟩
      have lt:i < its.size:=by omega
      obtain⟨rfl,hr⟩:z=i/\rest=List.range' (i + 1) (its.size - (i + 1)):=by
        rw[show its.size - i=(its.size - (i + 1)) + 1 by omega,List.range'_succ]at hr
        exact List.cons.inj hr
      rw[Array.getElem?_eq_getElem lt]
      refine wpAny_bind (h2 _ (Array.getElem_mem lt) prog w _ _ ?_)
      by_cases q:z=j
      . subst q
        rw[yes]
        wp_walk
        exact⟨_,rfl,h3⟩
      . rw[no z lt (by omega)]
        wp_walk
        exact⟨rfl,rfl,z + 1,by omega,hr⟩
    . rintro⟨b1,b2⟩ s' ⟨hb,rfl,i,hi,hr⟩
      rw[show its.size - i=(its.size - (i + 1)) + 1 by omega,List.range'_succ]at hr
      cases hr
noncomputable def M6(K:PySem.W.Frag):V->List V->Hp->VK->Prop:=λ x vs H Q=>∃ (a:Addr) (ns:List Int) (i:Int),x=.ref a/\vs=[.int i]/\SqT K H a (ns.map V.int)/\i ∈ ns/\Q (.int (ns.idxOf i:Nat)) H
theorem Jc{i:Int}:∀ (L:List Int) (m:Nat),m < L.idxOf i->L[m]? ≠ some i
  | [],m,h=>by simp at h
  | y :: r,m,h=>by
    rw[List.idxOf_cons]at h
    by_cases hy:y=i
    . simp[hy]at h
    . have hy':(y == i)=false:=by simpa using hy
      rw[hy']at h
      cases m with
      | zero=>simpa using hy
      | succ m=>simpa using Jc r m (by simpa using h)
theorem JU{X:Cx}:MtM X "tuple.index" (M6 X.K):=by
  intro pins s σ H x vs v us Q I rx rv h
  obtain⟨a,ns,i,rfl,rfl,hT,hi,q⟩:=h
  cases rx
  obtain⟨u,rfl,ru⟩:=rv.one
  obtain⟨t,rfl⟩:=ru
  obtain⟨its,r,⟨⟨cl,dd,dt,sl⟩,e,c,k,hd⟩,z⟩:=I.tuple hT
  simp only at c hd
  subst c hd
  have li:its.length=ns.length:=by rw[<- r.length];simp
  have hj:ns.idxOf i < ns.length:=List.idxOf_lt_length_iff.mpr hi
  have itsI:∀ (m:Nat) (hm:m < its.toArray.size),∃ t,its.toArray[m]=.int (ns.getD m 0) t:=by
    intro m hm
    have hm':m < ns.length:=by simpa [li]using hm
    have e1:(ns.map V.int)[m]? = some (.int (ns.getD m 0)):=by simp[hm']
    obtain⟨w,hw,rw'⟩:=r.get e1
    obtain⟨t,rfl⟩:=rw'
    exact⟨t,(List.getElem?_eq_some_iff.mp hw).2⟩
  refine call_meets F.slot_tuple_index ⟨_,e,rfl⟩ F.entry_tuple_index (F.args_tuple_index_2 _ _)
    (O2 a its.toArray k dd sl (.int i t) (λ y=>match y with | .int n _=>n == i|_=>false) (ns.idxOf i) (by rw[List.size_toArray,li];exact hj) ?_ ?_) ⟨e,?_,?_⟩
  . obtain⟨t',e'⟩:=itsI (ns.idxOf i) (by rw[List.size_toArray,li];exact hj)
    rw[e']
    have:ns.getD (ns.idxOf i) 0=i:=by simp[hj]
    rw[this];exact beq_self_eq_true i
  . intro m hm hmk
    obtain⟨t',e'⟩:=itsI m hm
    rw[e']
    have hm':m < ns.length:=by simpa [li]using hm
    have:=Jc ns m hmk
    have:ns.getD m 0 ≠ i:=λ z=>this (by rw[<- z];simp[hm'])
    simpa using this
  . intro y hy
    obtain⟨m,hm,rfl⟩:=Array.mem_iff_getElem.mp hy
    obtain⟨t',e'⟩:=itsI m hm
    rw[e']
    exact(PySem.MeetsSeq.EqGives.int _ _ _ _).at _ _
  . exact⟨.int (ns.idxOf i:Nat),H,I.tok _,⟨_,rfl⟩,q⟩
section
variable{K:PySem.W.Frag}
noncomputable def Pp(K:PySem.W.Frag)(r:V->List V->Hp->VK->Prop)(to:TE)(t:TA):TE:=λ σ H Q=>to σ H λ x H1=>(∃ a xs,x=.ref a/\SqT K H1 a xs)/\t σ H1 λ xs H2=>r x xs H2 Q
theorem Uy{X:Cx}{o e:Expr}{es:List Expr}{to:TE}{t:TA}{name:Str}{apos cpos:Pos}{id:String}{r:V->List V->Hp->VK->Prop}(slot:Slot "tuple" name id)(hty:typeOf (.builtin id)=pure (.type "method_descriptor"))(hm:MtM X id r)(ho:PE X o to)(ha:PA X (e :: es) t)
    (hbase:attributeBase o name X.env (eval o X.env)=eval o X.env)
    (hfew:((backTo cpos (starEach (e :: es) X.env)).all (λ x=>!x.1) && (backToKw cpos (keywordEach [] X.env)).all (λ x=>x.1.isSome) && decide ((e :: es).length + ([]:List Keyword).length + (if([]:List Keyword).isEmpty then 0 else 1) < 30))=true)
    (hline:(apos.endLine == cpos.line)=true) (hs:starEach (e :: es) X.env=(false,eval e X.env) :: starEach es X.env) (hplain:(backTo cpos (starEach es X.env)).any (·.1)=false) :
    PE X (.Call (.Attribute o name apos) (e :: es) [] cpos) (Pp X.K r to t):=by
  intro pins s σ H Q I h
  refine wpAny_Call_method_late hbase hfew hline rfl (thn (ho pins s σ H _ I h) λ v s1 ⟨x,H1,I1,r1,⟨a,xs,ex,hT⟩,q1⟩=>?_)
  subst ex
  cases r1
  obtain⟨ob,e1,e2,e3⟩:=I1.tupleD hT
  refine⟨"tuple",id,PySem.F.plainAttrs_tuple,slot,hty,⟨ob,e1,e2⟩,λ b eb=>by cases eb;exact⟨ob,e1,e3⟩,?_⟩
  have hA:=ha cpos pins s1 σ H1 _ I1 q1
  rw[hs]at hA ⊢
  refine Calls.callWith_builtin (by show(false || (backTo cpos (starEach es X.env)).any (·.1))=false;rw[hplain] <;> rfl) (Calls.evalArgs_plain ?_)
  exact thn hA λ us s2 ⟨vs,H2,I2,r2,q2⟩=>hm pins s2 σ H2 (.ref a) vs (.ref a) us Q I2 rfl r2 q2
noncomputable def JA(f:D->List D->Hd->Option (D × Hd))(mo:ME)(ma:MA):ME:=λ ls hd=>(mo ls hd).bind λ p=>match At p.1 with
  | some _=>(ma ls p.2).bind λ q=>f p.1 q.1 q.2
  | none=>none
theorem UO{r:V->List V->Hp->VK->Prop}{f:D->List D->Hd->Option (D × Hd)}{to:TE}{t:TA}{mo:ME}{ma:MA}(hr:RM K r f)(ho:RE K to mo)(ha:RA K t ma):RE K (Pp K r to t) (JA f mo ma):=by
  intro ρ σ H hd ls Q d hd' hR hL hm hQ
  obtain⟨⟨d1,h1⟩,e1,hm⟩:=Option.bind_eq_some_iff.mp hm
  dsimp only at hm
  split at hm
  . next ds e=>
    obtain⟨⟨d2,h2⟩,e2,hm⟩:=Option.bind_eq_some_iff.mp hm
    refine ho ρ σ H hd ls _ d1 h1 hR hL e1 λ ρ1 H1 v x1 R1 r1=>⟨?_,?_⟩
    . obtain⟨a,xs,rfl,q,_⟩:=r1.tup e
      exact⟨a,xs,rfl,q⟩
    . exact ha ρ1 σ H1 h1 ls _ d2 h2 R1 (hL.ext hR x1) e2 λ ρ2 H2 vs x2 R2 r2=>hr ρ2 H2 h2 d1 v d2 vs Q d hd' R2 (r1.ext R1 x2) r2 hm λ ρ' H' w x3 R3 r3=>hQ ρ' H' w ((x1.trans R1 x2).trans R2 x3) R3 r3
  . cases hm
open Classical in
noncomputable def HA:D->List D->Hd->Option (D × Hd):=λ d ds hd=>(At d).bind λ es=>(BD es).bind λ ns=>match ds with
  | [.im (.int i)]=>if i ∈ ns then some (.im (.int (ns.idxOf i:Nat)),hd)else none
  | _=>none
theorem JQ:RM K (M6 K) HA:=by
  intro ρ H hd d v ds vs Q z hd' hR h1 h2 hf hQ
  obtain⟨es,e1,hf⟩:=Option.bind_eq_some_iff.mp hf
  obtain⟨ns,e2,hf⟩:=Option.bind_eq_some_iff.mp hf
  split at hf
  . split at hf
    . next c=>
      cases hf
      obtain⟨a,xs,rfl,q,r⟩:=h1.tup e1
      rw[Db e2]at r
      have ex:=r.ints
      subst ex
      simp only[RDs,RD,RI]at h2
      obtain⟨x,r2,rfl,rfl,rfl⟩:=h2
      exact⟨a,ns,_,rfl,rfl,q,c,hQ ρ H _ .refl hR (by simp[RD,RI])⟩
    . cases hf
  . cases hf
theorem OJ(K:PySem.W.Frag){X:Cx}{e:Expr}{es:List Expr}{t:TA}{m:MA}{id:String}{r:V->List V->Hp->VK->Prop}{f:D->List D->Hd->Option (D × Hd)}{name:Str}{apos cpos:Pos}{o:Expr}{to:TE}{mo:ME}(slot:Slot "tuple" name id)(hty:typeOf (.builtin id)=pure (.type "method_descriptor"))(hm:MtM X id r)(hr:RM K r f)(ho:QE K X o to mo)(ha:QA K X (e :: es) t m)
    (hbase:attributeBase o name X.env (eval o X.env)=eval o X.env:=by rfl)
    (hfew:((backTo cpos (starEach (e :: es) X.env)).all (λ x=>!x.1) && (backToKw cpos (keywordEach [] X.env)).all (λ x=>x.1.isSome)
      && decide ((e :: es).length + ([]:List Keyword).length + (if([]:List Keyword).isEmpty then 0 else 1) < 30))=true:=by rfl)
    (hline:(apos.endLine == cpos.line)=true:=by rfl) (hs:starEach (e :: es) X.env=(false,eval e X.env) :: starEach es X.env:=by rfl) (hplain:(backTo cpos (starEach es X.env)).any (·.1)=false:=by rfl) (hK:X.K=K:=by rfl) :
    QE K X (.Call (.Attribute o name apos) (e :: es) [] cpos) (Pp K r to t) (JA f mo m):=by
  subst hK
  exact⟨Uy slot hty hm ho.p ha.p hbase hfew hline hs hplain,UO hr ho.r ha.r⟩
end
theorem Ny{f:D->List D->Hd->Option (D × Hd)}{ma:ME}{m:MA}{ls:Ls}{hd:Hd}{QE:D->Hd->Prop}(h:WE ma ls hd λ d x=>(∃ l,At d=some l)/\WA m ls x λ ds y=>WP (f d ds y) QE):WE (JA f ma m) ls hd QE:=by
  obtain⟨d,x,e,⟨l,e1⟩,ds,y,e2,z,y2,e3,q⟩:=h
  exact⟨z,y2,by simp only[JA,e,Option.bind_some,e1,e2,e3],q⟩
theorem JJ{d:D}{es:List D}{ns:List Int}{i:Int}{hd:Hd}{QE:D->Hd->Prop}(e1:At d=some es)(e2:BD es=some ns)(c:i ∈ ns)(q:QE (.im (.int (ns.idxOf i:Nat))) hd):WP (HA d [.im (.int i)] hd) QE:=by
  refine⟨_,_,?_,q⟩
  show(At d).bind _=_
  rw[e1]
  simp[e2,c]
end L2
namespace HT
open PySem PySem.Spec PyProof.Rows
section
variable{prog:Program}{w:World}{A:Around}{E:Value->Shared->Prop}{s:Shared}
theorem Nr(n:Nat):Builtin.Slice.sliceAdjust none none (-1) (n:Int)=((n:Int) - 1,-1):=by
  unfold Builtin.Slice.sliceAdjust
  simp
theorem NF(n:Nat):Builtin.Slice.slicePlaces ((n:Int) - 1) (-1) (-1)=n:=by
  unfold Builtin.Slice.slicePlaces
  simp
  try omega
theorem HQ{sl:Addr}{n:Nat}{t:Tok}{Q:Int × Int × Nat->Shared->Prop}(hs:s.heap.IsSliceOf sl .none .none (.int (-1) t))(h:Q ((n:Int) - 1,-1,n) s):wpAny (model prog w) A (Builtin.Slice.sliceApplied (.ref sl) (pure (n:Int))) Q E s:=by
  obtain⟨os,hos,hcs,hds⟩:=id hs
  unfold Builtin.Slice.sliceApplied Builtin.Slice.sliceFields
  refine wpAny_bind (wpAny_bind (wpAny_field hos hds (x:=.none) rfl (wpAny_bind (wpAny_field hos hds (x:=.none) rfl (wpAny_bind (wpAny_field hos hds (x:=.int (-1) t) rfl (wpAny_pure ?_)))))))
  refine wpAny_bind (slicePart_int ?_)
  show wpAny _ _ (if((-1:Int) == 0)=true then _ else _) _ _ s
  rw[if_neg (by decide)]
  refine wpAny_bind (slicePart_none (wpAny_bind (slicePart_none (wpAny_bind (wpAny_pure ?_)))))
  show wpAny _ _ (match Builtin.Slice.sliceAdjust none none (-1) (n:Int)with|(lo,hi)=>pure (lo,(-1:Int),Builtin.Slice.slicePlaces lo hi (-1))) _ _ s
  rw[Nr n]
  show wpAny _ _ (pure ((n:Int) - 1,(-1:Int),Builtin.Slice.slicePlaces ((n:Int) - 1) (-1) (-1))) _ _ s
  rw[NF]
  exact wpAny_pure h
theorem L9{α β:Type}{f g:α->Option β}:∀ {l:List α},(∀ x ∈ l,f x=g x)->l.filterMap f=l.filterMap g
  | [],_=>rfl
  | x :: l,h=>by rw[List.filterMap_cons,List.filterMap_cons,h x List.mem_cons_self,L9 λ y hy=>h y (List.mem_cons_of_mem _ hy)]
theorem OO(xs:Array Value):((List.range xs.size).filterMap λ(m:Nat)=>xs[((xs.size:Int) - 1 + (m:Int) * (-1)).toNat]?).toArray=xs.toList.reverse.toArray:=by
  congr 1
  have e:(List.range xs.size).filterMap (λ(m:Nat)=>xs[((xs.size:Int) - 1 + (m:Int) * (-1)).toNat]?)=(List.range xs.toList.reverse.length).filterMap λ i=>xs.toList.reverse[i]? := by
    rw[List.length_reverse,Array.length_toList]
    refine L9 λ m hm=>?_
    have hm:m < xs.size:=by simpa using hm
    rw[List.getElem?_reverse (by simpa using hm)]
    simp only[Array.length_toList,Array.getElem?_toList]
    congr 1
    omega
  rw[e]
  exact L2.pick_all _
theorem getItem_tuple_rev{t sl:Addr}{items:Array Value}{k:Tok}{Q:Value->Shared->Prop}(ht:IsTup s.heap t items)(hs:s.heap.IsSliceOf sl .none .none (.int (-1) k))(h:Q (.ref s.heap.objs.size) { s with heap:=s.heap.push { cls:=.type "tuple",data:=.seq items.toList.reverse.toArray } })(hsz:items.size <= sizeLine):wpAny (model prog w) A (getItem (.ref t) (.ref sl)) Q E s:=by
  have hsize:sizeOk (.seq items.toList.reverse.toArray):=by
    show items.toList.reverse.toArray.size <= sizeLine
    simpa using hsz
  obtain⟨os,hos,hcs,hds⟩:=id hs
  have hTs:s.TypeIs (.ref sl) "slice":=⟨os,hos,hcs⟩
  unfold getItem
  try with_reducible refine wpAny_holding ?_
  first|refine wpAny_bind (wpAny_pure ?_)|skip
  refine wpAny_bind (wpAny_sequenceKey ht.typeIs (by decide) ?_)
  refine wpAny_bind (wpAny_callSpecial?_slot (name:=Str.ofString "__getitem__") ht.typeIs PyProof.Rows.slot_tuple_getitem
    (wpAny_call_entry PyProof.Rows.slot_tuple_getitem ht.typeIs entry_tuple_getitem ?_ (args_tuple_getitem _ _)))
  show wpAny _ _ (Builtin.Tuple.tupleItemsOf (.ref t) >>= _) _ _ s
  refine wpAny_bind (tupleItemsOf_ ht ?_)
  refine wpAny_bind (wpAny_typeOf hTs ?_)
  rw[if_pos (by decide)]
  refine wpAny_bind (HQ hs ?_)
  show wpAny _ _ (if((((items.size:Int) - 1) == 0 && (-1:Int) == 1 && items.size == items.size)=true)then _ else _) _ _ s
  rw[if_neg (by simp),OO]
  first
    | exact wpAny_bind (m:=Builtin.Tuple.tupleExact _) (wpAny_newObj_type (wpAny_pure ⟨_,rfl,wpAny_pure h⟩) hsize)
    | exact wpAny_bind (m:=Builtin.Tuple.tupleExact _) (wpAny_newObj_type (wpAny_bind (wpAny_pure (wpAny_pure ⟨_,rfl,wpAny_pure h⟩))) hsize)
    | exact wpAny_bind (wpAny_bind (m:=Builtin.Tuple.tupleExact _) (wpAny_newObj_type (wpAny_pure (wpAny_pure ⟨_,rfl,wpAny_pure h⟩)) hsize))
    | exact wpAny_bind (wpAny_bind (m:=Builtin.Tuple.tupleExact _) (wpAny_newObj_type (wpAny_pure ⟨_,rfl,wpAny_pure h⟩) hsize))
end
end HT
namespace L2
open PySem PySem.Spec PyProof.Rows
section
variable{X:Cx}{e stp:Expr}{te ts:TE}{pos p2:Pos}
noncomputable def Mo(K:PySem.W.Frag)(te ts:TE):TE:=λ σ H Q=>te σ H λ x H1=>ts σ H1 λ y H2=>y=.int (-1)/\∃ a xs,x=.ref a/\SqT K H2 a xs/\∀ p,H2 p=none->Q (.ref p) (upd H2 p (.tup xs.reverse))
theorem T6(he:PE X e te)(hs:PE X stp ts):PE X (.Subscript e (.Slice none none (some stp) p2) pos) (Mo X.K te ts):=by
  intro pins s σ H Q I h
  refine Subscript_ (thn (he pins s σ H _ I h) λ v s1 ⟨x,H1,I1,r1,q1⟩=>?_)
  refine wpAny_Slice ?_
  rw[evalPart_none]
  refine wpAny_pure (wpAny_pure ?_)
  rw[evalPart_some]
  refine thn (hs pins s1 σ H1 _ I1 q1) λ vs s3 ⟨y,H3,I3,r3,q3⟩=>?_
  obtain⟨rfl,a,xs,rfl,hx,q⟩:=q3
  obtain⟨t,rfl⟩:=r3
  cases r1
  have I4:Inv X pins σ H3 { s3 with heap:=s3.heap.push { cls:=.type "slice",data:=.fields #[.none,.none,.int (-1) t] } }:=I3.kept (t':=s3.toks) λ b ob q=>Heap.get?_push_of_some _ q
  obtain⟨its,r,ht,hz⟩:=I4.tuple hx
  have hlen:=r.length
  have hg:wpAny (model X.prog X.w) X.A (getItem (.ref a) (.ref s3.heap.objs.size)) (EP X pins σ Q) X.xe { s3 with heap:=s3.heap.push { cls:=.type "slice",data:=.fields #[.none,.none,.int (-1) t] } }:=by
    refine HT.getItem_tuple_rev ht (Heap.IsSliceOf.new ..) ?_ (by rw[List.size_toArray] <;> omega)
    refine⟨.ref _,_,I4.laid (t':=s3.toks) (o:=.tup xs.reverse) (λ b ob q=>Heap.get?_push_of_some _ q) (Nat.le_refl _) ?_,rfl,q _ (I4.hok.fresh (Nat.le_refl _))⟩
    exact⟨by rw[List.length_reverse];exact hz,its.reverse,HN r,IsTupD.new _ _⟩
  show wpAny (model X.prog X.w) X.A (subscriptTail e (.Slice none none (some stp) p2) (.ref a) (.ref s3.heap.objs.size)) (EP X pins σ Q) X.xe { s3 with heap:=s3.heap.push { cls:=.type "slice",data:=.fields #[.none,.none,.int (-1) t] } }
  exact tail_any (ops:=[.ref a,.ref s3.heap.objs.size]) ht.typeIs PyProof.Rows.slot_tuple_getitem.lookup hg (by with_unfolding_all rfl)
end
section
variable{K:PySem.W.Frag}{X:Cx}{e stp:Expr}{te ts:TE}{m ms:ME}{pos p2:Pos}
noncomputable def IP(m ms:ME):ME:=λ ls hd=>(m ls hd).bind λ p=>(ms ls p.2).bind λ q=>match q.1 with
  | .im (.int i)=>if i=-1 then(At p.1).map λ ds=>(Ao ds.reverse,q.2)else none
  | _=>none
theorem SU(h:RE K te m)(hs:RE K ts ms):RE K (Mo K te ts) (IP m ms):=by
  intro ρ σ H hd ls Q d hd' hR hL hm hQ
  obtain⟨⟨d1,h1⟩,e1,hm⟩:=Option.bind_eq_some_iff.mp hm
  obtain⟨⟨d2,h2⟩,e2,hm⟩:=Option.bind_eq_some_iff.mp hm
  dsimp only at e2 hm
  split at hm
  . split at hm
    . next hi=>
      obtain⟨ds,e3,e4⟩:=Option.map_eq_some_iff.mp hm
      cases e4
      subst hi
      refine h ρ σ H hd ls _ d1 h1 hR hL e1 λ ρ1 H1 v1 x1 R1 r1=>?_
      refine hs ρ1 σ H1 h1 ls _ _ _ R1 (hL.ext hR x1) e2 λ ρ2 H2 v x2 R2 r2=>?_
      simp only[RD,RI]at r2
      obtain⟨a,xs,rfl,q,r⟩:=(r1.ext R1 x2).tup e3
      refine⟨r2,a,xs,rfl,q,λ p hp=>?_⟩
      obtain⟨R3,x3⟩:=R2.hid (ho:=.tup xs.reverse) hp
      exact hQ ρ2 _ _ ((x1.trans R1 x2).trans R2 x3) R3 (DX (SqT.of AT) ((RDs.rev r).ext R2 x3))
    . cases hm
  . cases hm
theorem Si(h:QE K X e te m)(hs:QE K X stp ts ms)(hK:X.K=K:=by rfl):QE K X (.Subscript e (.Slice none none (some stp) p2) pos) (Mo K te ts) (IP m ms):=by
  subst hK
  exact⟨T6 h.p hs.p,SU h.r hs.r⟩
theorem Ry{ls:Ls}{hd:Hd}{Q:D->Hd->Prop}(h:WE m ls hd λ d x=>WE ms ls x λ i y=>i=.im (.int (-1))/\∃ ds,At d=some ds/\Q (Ao ds.reverse) y):WE (IP m ms) ls hd Q:=by
  obtain⟨d,x,e1,i,y,e2,rfl,ds,e3,q⟩:=h
  exact⟨_,_,by simp only[IP,e1,e2,Option.bind_some,if_true,e3,Option.map_some],q⟩
noncomputable def IQ(m ms:ME):MA:=λ ls hd=>(m ls hd).bind λ p=>(ms ls p.2).bind λ q=>match q.1 with
  | .im (.int i)=>if i=-1 then(BM q.2 p.1).map λ ds=>(ds.reverse,q.2)else none
  | _=>none
theorem SL(h:RE K te m)(hs:RE K ts ms):RN K (Pe K te ts) (IQ m ms):=by
  intro ρ σ H hd ls Q d hd' hR hL hm hQ
  obtain⟨⟨d1,h1⟩,e1,hm⟩:=Option.bind_eq_some_iff.mp hm
  obtain⟨⟨d2,h2⟩,e2,hm⟩:=Option.bind_eq_some_iff.mp hm
  dsimp only at e2 hm
  split at hm
  . split at hm
    . next hi=>
      obtain⟨ds,e3,e4⟩:=Option.map_eq_some_iff.mp hm
      cases e4
      subst hi
      refine h ρ σ H hd ls _ d1 h1 hR hL e1 λ ρ1 H1 v1 x1 R1 r1=>?_
      refine hs ρ1 σ H1 h1 ls _ _ _ R1 (hL.ext hR x1) e2 λ ρ2 H2 v x2 R2 r2=>?_
      simp only[RD,RI]at r2
      obtain⟨a,xs,rfl,q,r⟩:=(r1.ext R1 x2).lst R2 e3
      refine⟨r2,a,xs,rfl,q,λ p hp=>?_⟩
      obtain⟨R3,x3⟩:=R2.hid (ho:=.lst xs.reverse) hp
      have x12:=x1.trans R1 x2
      exact hQ ρ2 _ p _ (x12.trans R2 x3) R3 (x12.none hR hp R2) (R2.out hp) AT ((RDs.rev r).ext R2 x3)
    . cases hm
  . cases hm
theorem Sh(h:QE K X e te m)(hs:QE K X stp ts ms)(hK:X.K=K:=by rfl):QN K X (.Subscript e (.Slice none none (some stp) p2) pos) (Pe K te ts) (IQ m ms):=by
  subst hK
  exact⟨Us h.p hs.p,SL h.r hs.r⟩
theorem S4{ls:Ls}{hd:Hd}{Q:List D->Hd->Prop}(h:WE m ls hd λ d x=>WE ms ls x λ i y=>i=.im (.int (-1))/\∃ ds,BM y d=some ds/\Q ds.reverse y):WA (IQ m ms) ls hd Q:=by
  obtain⟨d,x,e1,i,y,e2,rfl,ds,e3,q⟩:=h
  exact⟨_,_,by simp only[IQ,e1,e2,Option.bind_some,if_true,e3,Option.map_some],q⟩
end
end L2
namespace T12
open PySem L2
noncomputable def top(i:Nat):Stmt:=PySem.Challenge.pw_benchdays_k12_ends_and_costs.main.body.getD i (.Pass ⟨0,0,0,0⟩)
noncomputable abbrev Bw:Stmt:=top 1
theorem KW:FnScope ["thing"] ["thing"] (AF Bw):=⟨rfl,rfl,rfl,by decide +kernel,rfl,by decide +kernel,by decide +kernel⟩
@[reducible] noncomputable def HG:MS:=(AY (Gv (Hh .int (A0 0)) (IS (Hh .bool (A0 0)))))
noncomputable def DQ:List D->Hd->Option (D × Hd):=mkF 1 1 HG
noncomputable abbrev Bx:Stmt:=top 3
theorem sc_ends_of:FnScope ["works","plan","ends","work","begin","end"] ["works","plan"] (AF Bx):=⟨rfl,rfl,rfl,by decide +kernel,rfl,by decide +kernel,by decide +kernel⟩
@[reducible] noncomputable def m_ends_of:MS:=(A8 (AK 2 (BV (Bc 1 [] (Bg (A0 0)) (AG 0) CT (mC (.int 0)))))
    (A8 (BW (Bg (A0 1)) (CH 3 (Ad (AG 3) (Ad (AG 4) (Ad (AG 5) CI))))
      (Ev (A0 2) (A0 3) (A0 5)))
    (AY (mCB (f1 true B5) (A1 (A0 2) A4)))))
noncomputable def F_ends_of:List D->Hd->Option (D × Hd):=mkF 2 6 m_ends_of
noncomputable abbrev Bj:Stmt:=top 4
theorem sc_by_ends:FnScope ["works","plan","ends"] ["works","plan"] (AF Bj):=⟨rfl,rfl,rfl,by decide +kernel,rfl,by decide +kernel,by decide +kernel⟩
@[reducible] noncomputable def JV:MS:=(A8 (AK 2 (AA 0 F_ends_of (A1 (A0 0) (A1 (A0 1) A4))))
    (AY (CU B5 (ML (A1 (mCB (f1 true C6) (A1 (A0 0) A4)) A4) [2] (mOp gIx (A0 1) (A0 0))))))
noncomputable def Cz:List D->Hd->Option (D × Hd):=mkF 2 3 JV
noncomputable abbrev CA:Stmt:=top 6
theorem sc_steps_at:FnScope ["rows","t","told","begin","amount"] ["rows","t"] (AF CA):=⟨rfl,rfl,rfl,by decide +kernel,rfl,by decide +kernel,by decide +kernel⟩
@[reducible] noncomputable def m_steps_at:MS:=(A8 (AK 2 (mC (.int 0)))
    (A8 (BW (Bg (A0 0)) (CH 2 (Ad (AG 3) (Ad (AG 4) CI)))
      (A8 (Au (AQ (mOp gGt (A0 3) (A0 1)))
      (AY (A0 2))
      Ag)
    (AK 2 (A0 4))))
    (AY (A0 2))))
noncomputable def F_steps_at:List D->Hd->Option (D × Hd):=mkF 2 5 m_steps_at
noncomputable abbrev CW:Stmt:=top 7
theorem sc_cost_at:FnScope ["cost","t","word","above"] ["cost","t"] (AF CW):=⟨rfl,rfl,rfl,by decide +kernel,rfl,by decide +kernel,by decide +kernel⟩
@[reducible] noncomputable def m_cost_at:MS:=(A8 (AK 2 (mOp gIx (A0 0) (mC (.int 0))))
    (A8 (Au (AQ (mOp gEq (A0 2) (mC (.str "steps"))))
      (AY (AA 0 F_steps_at (A1 (mOp gIx (A0 0) (mC (.int 1))) (A1 (A0 1) A4))))
      Ag)
    (A8 (Au (AQ (mOp gEq (A0 2) (mC (.str "ends"))))
      (AY (mOp CV (mOp gIx (A0 0) (mC (.int 1))) (A0 1)))
      Ag)
    (A8 (AK 3 (mOp CL (A0 1) (mOp gIx (A0 0) (mC (.int 1)))))
    (A8 (Au (AQ (mOp gEq (A0 2) (mC (.str "late"))))
      (AY (A0 3))
      Ag)
    (A8 (Au (AQ (mOp gLe (A0 3) (mC (.int 0))))
      (AY (mC (.int 0)))
      Ag)
    (A8 (Au (AQ (mOp gEq (A0 2) (mC (.str "tardy"))))
      (AY (mOp CV (mOp gIx (A0 0) (mC (.int 2))) (A0 3)))
      Ag)
    (AY (mOp gIx (A0 0) (mC (.int 2)))))))))))
noncomputable def F_cost_at:List D->Hd->Option (D × Hd):=mkF 2 4 m_cost_at
noncomputable abbrev CB:Stmt:=top 9
theorem Ld:FnScope ["works","wishes","thing"] ["works","wishes","thing"] (AF CB):=⟨rfl,rfl,rfl,by decide +kernel,rfl,by decide +kernel,by decide +kernel⟩
@[reducible] noncomputable def IL:MS:=(A8 (Au (mOr (Fr (Dv (Hh .tuple (A0 2)))) (Fr (Dv (CU Kx (Bc 1 [] (Bg (A0 2)) (AG 0) CT (AA 0 DQ (A1 (A0 0) A4)))))))
      (AY (mC (.bl false)))
      Ag)
    (A8 (Au (AQ (EW true (Eb (Bg (A0 2))) (Fp (A1 (mCB (f1 true C6) (A1 (A0 0) A4)) A4))))
      (AY (mC (.bl false)))
      Ag)
    (AY (CU Kx (Bc 2 [2] (Bg (A0 1)) (CH 2 (Ad (AG 0) (Ad (AG 1) CI))) CT (mOp gLt (JA HA (A0 2) (A1 (A0 0) A4)) (JA HA (A0 2) (A1 (A0 1) A4))))))))
noncomputable def Dy:List D->Hd->Option (D × Hd):=mkF 3 3 IL
noncomputable abbrev Et:Stmt:=top 10
theorem sc_run:FnScope ["works","order","pieces","end","work","length","coming","cost","begin"] ["works","order"] (AF Et):=⟨rfl,rfl,rfl,by decide +kernel,rfl,by decide +kernel,by decide +kernel⟩
@[reducible] noncomputable def m_run:MS:=(A8 (AK 2 (BV (BE A4)))
    (A8 (AK 3 (mC (.int 0)))
    (A8 (BW (Bg (A0 1)) (AG 4)
      (A8 (Fs (mOp gIx (A0 0) (A0 4)) (CH 3 (Ad (AG 5) (Ad (AG 6) (Ad (AG 7) CI)))))
    (A8 (AK 8 (mCB Gz (A1 (A0 6) (A1 (A0 3) A4))))
    (A8 (AK 3 (mOp Aa (A0 8) (A0 5)))
    (Bo (mMt B8 (A0 2) (A1 (BQ (A1 (A0 4) (A1 (A0 8) (A1 (A0 3) A4)))) A4)))))))
    (AY (mCB (f1 true B5) (A1 (A0 2) A4))))))
noncomputable def F_run:List D->Hd->Option (D × Hd):=mkF 2 9 m_run
noncomputable abbrev CC:Stmt:=top 12
theorem Le:FnScope ["works","ends"] ["works","ends"] (AF CC):=⟨rfl,rfl,rfl,by decide +kernel,rfl,by decide +kernel,by decide +kernel⟩
@[reducible] noncomputable def m_costs_of:MS:=(AY (CU B5 (Bc 2 [] (Kr (Bg (A0 0)) (Bg (A0 1))) (CH 2 (Ad (AG 0) (Ad (AG 1) CI))) CT (AA 0 F_cost_at (A1 (mOp gIx (A0 0) (mC (.int 2))) (A1 (A0 1) A4))))))
noncomputable def F_costs_of:List D->Hd->Option (D × Hd):=mkF 2 2 m_costs_of
noncomputable abbrev EF:Stmt:=top 14
theorem SB:FnScope ["_law_script"] ["_law_script"] (AF EF):=⟨rfl,rfl,rfl,by decide +kernel,rfl,by decide +kernel,by decide +kernel⟩
@[reducible] noncomputable def m_tape:MS:=(AY (IT [((mC (.str "cells")),(BV (GV (Hf (A0 0) E2 (Fq (mC (.int 63))))))),((mC (.str "next")),(mC (.int 0))),((mC (.str "left")),(mC (.int 0))),((mC (.str "turn")),(mC (.int 0)))]))
noncomputable def F_tape:List D->Hd->Option (D × Hd):=mkF 1 1 m_tape
noncomputable abbrev Cd:Stmt:=top 15
theorem sc_pick:FnScope ["_law_tape_here","_law_many","_law_found","_law_cells","_law_at_here","_law_turn","_law_cell","_law_mixed"] ["_law_tape_here","_law_many"] (AF Cd):=⟨rfl,rfl,rfl,by decide +kernel,rfl,by decide +kernel,by decide +kernel⟩
@[reducible] noncomputable def m_pick:MS:=(A8 (DE (A0 0) (mC (.str "turn")) (mOp Aa (mOp Bv (A0 0) (mC (.str "turn"))) (mC (.int 1))))
    (A8 (Au (AQ (mOp gGt (mOp Bv (A0 0) (mC (.str "left"))) (mC (.int 0))))
      (A8 (AK 2 (mOp Ct (mOp Bv (A0 0) (mC (.str "left"))) (A0 1)))
    (A8 (DE (A0 0) (mC (.str "left")) (mOp Fw (mOp Bv (A0 0) (mC (.str "left"))) (A0 1)))
    (AY (A0 2))))
      Ag)
    (A8 (IR 3 4 5 (A1 (mOp Bv (A0 0) (mC (.str "cells"))) (A1 (mOp Bv (A0 0) (mC (.str "next"))) (A1 (mOp Bv (A0 0) (mC (.str "turn"))) A4))))
    (A8 (AK 6 (mIf (AQ (DD true (A0 3) (BE A4))) (mOp gIx (A0 3) (mOp Ct (A0 4) (mCB (f1 true C6) (A1 (A0 3) A4)))) (mC (.int 23))))
    (A8 (DE (A0 0) (mC (.str "next")) (mOp Aa (A0 4) (mC (.int 1))))
    (A8 (Au (GW (AQ (mOp gGe (A0 6) (mOp Qs (mC (.int 10)) (mC (.int 18))))) (AQ (mOp gLt (A0 4) (mCB (f1 true C6) (A1 (A0 3) A4)))))
      (A8 (DE (A0 0) (mC (.str "left")) (mOp Fw (A0 6) (A0 1)))
    (AY (mOp Ct (A0 6) (A0 1))))
      Ag)
    (A8 (AK 7 (mOp Ct (mOp Aa (mOp Aa (mOp Ct (A0 6) (mC (.int 2147483587))) (mOp CV (mC (.int 104729)) (A0 5))) (mC (.int 17))) (mC (.int 2147483629))))
    (A8 (AK 7 (mOp Ct (mOp Aa (mOp CV (A0 7) (A0 7)) (mOp CV (mC (.int 48271)) (A0 5))) (mC (.int 2147483647))))
    (A8 (AK 7 (mOp Ct (mOp Aa (mOp Aa (mOp CV (A0 7) (A0 7)) (mOp CV (mC (.int 7919)) (A0 7))) (A0 5)) (mC (.int 2147483629))))
    (AY (mOp Ct (mOp Fw (A0 7) (mC (.int 128))) (A0 1))))))))))))
noncomputable def F_pick:List D->Hd->Option (D × Hd):=mkF 2 8 m_pick
noncomputable abbrev EI:Stmt:=top 16
theorem sc_cost:FnScope ["_law_tape_here","_law_way","_law_due","_law_weight","_law_start","_law_told","_law_rows","_law_k"] ["_law_tape_here","_law_way"] (AF EI):=⟨rfl,rfl,rfl,by decide +kernel,rfl,by decide +kernel,by decide +kernel⟩
@[reducible] noncomputable def m_cost:MS:=(A8 (AK 2 (mIf (AQ (mOp gEq (AA 2 F_pick (A1 (A0 0) (A1 (mC (.int 4)) A4))) (mC (.int 0)))) (mOp CL (AA 2 F_pick (A1 (A0 0) (A1 (mC (.int 500)) A4))) (mC (.int 99))) (mOp CL (AA 2 F_pick (A1 (A0 0) (A1 (mC (.int 40)) A4))) (mC (.int 5)))))
    (A8 (AK 3 (AA 2 F_pick (A1 (A0 0) (A1 (mC (.int 10)) A4))))
    (A8 (Au (AQ (mOp gLt (A0 1) (mC (.int 4))))
      (AY (E3 (BE (A1 (BQ (A1 (mC (.str "late")) (A1 (A0 2) A4))) (A1 (BQ (A1 (mC (.str "tardy")) (A1 (A0 2) (A1 (A0 3) A4)))) (A1 (BQ (A1 (mC (.str "miss")) (A1 (A0 2) (A1 (A0 3) A4)))) (A1 (BQ (A1 (mC (.str "ends")) (A1 (A0 3) A4))) A4))))) (A0 1)))
      Ag)
    (A8 (Hg [4,5] (A1 (mCB IZ (A1 (A0 2) (A1 (mC (.int 200)) A4))) (A1 (mC (.int 0)) A4)))
    (A8 (AK 6 (BV (BE A4)))
    (A8 (BW (Ca (A1 (mOp Aa (mC (.int 1)) (AA 2 F_pick (A1 (A0 0) (A1 (mC (.int 5)) A4)))) A4)) (AG 7)
      (A8 (AK 4 (mOp Aa (mOp Aa (A0 4) (mC (.int 1))) (AA 2 F_pick (A1 (A0 0) (A1 (mC (.int 40)) A4)))))
    (A8 (AK 5 (mOp Aa (A0 5) (AA 2 F_pick (A1 (A0 0) (A1 (mC (.int 20)) A4)))))
    (Bo (mMt B8 (A0 6) (A1 (BQ (A1 (A0 4) (A1 (A0 5) A4))) A4))))))
    (AY (BQ (A1 (mC (.str "steps")) (A1 (mCB (f1 true B5) (A1 (A0 6) A4)) A4))))))))))
noncomputable def F_cost:List D->Hd->Option (D × Hd):=mkF 2 8 m_cost
noncomputable abbrev De:Stmt:=top 17
theorem sc_works:FnScope ["_law_tape_here","_law_many","_law_alike","_law_begin_here","_law_wide","_law_found","_law_k","_law_coming"] ["_law_tape_here","_law_many","_law_alike"] (AF De):=⟨rfl,rfl,rfl,by decide +kernel,rfl,by decide +kernel,by decide +kernel⟩
@[reducible] noncomputable def m_works:MS:=(A8 (AK 3 (mOp CV (AA 2 F_pick (A1 (A0 0) (A1 (mC (.int 61)) A4))) (AA 2 F_pick (A1 (A0 0) (A1 (mC (.int 2)) A4)))))
    (A8 (AK 4 (E3 (BE (A1 (mC (.int 3)) (A1 (mC (.int 20)) A4))) (AA 2 F_pick (A1 (A0 0) (A1 (mC (.int 2)) A4)))))
    (A8 (AK 5 (BV (BE A4)))
    (A8 (BW (Ca (A1 (A0 1) A4)) (AG 6)
      (A8 (AK 7 (mIf (Dv (A0 2)) (A0 3) (AA 2 F_pick (A1 (A0 0) (A1 (E3 (BE (A1 (mC (.int 8)) (A1 (mC (.int 61)) A4))) (AA 2 F_pick (A1 (A0 0) (A1 (mC (.int 2)) A4)))) A4)))))
    (Bo (mMt B8 (A0 5) (A1 (BQ (A1 (mOp Aa (mC (.int 1)) (AA 2 F_pick (A1 (A0 0) (A1 (A0 4) A4)))) (A1 (A0 7) (A1 (AA 2 F_cost (A1 (A0 0) (A1 (AA 2 F_pick (A1 (A0 0) (A1 (mC (.int 5)) A4))) A4))) A4)))) A4)))))
    (AY (mCB (f1 true B5) (A1 (A0 5) A4)))))))
noncomputable def F_works:List D->Hd->Option (D × Hd):=mkF 3 8 m_works
noncomputable abbrev Co:Stmt:=top 18
theorem sc_wishes:FnScope ["_law_tape_here","_law_many","_law_left","_law_seq","_law_k","_law_dense","_law_found","_law_i","_law_j"] ["_law_tape_here","_law_many"] (AF Co):=⟨rfl,rfl,rfl,by decide +kernel,rfl,by decide +kernel,by decide +kernel⟩
@[reducible] noncomputable def m_wishes:MS:=(A8 (AK 2 (BV (Fp (A1 (A0 1) A4))))
    (A8 (AK 3 (BV (BE A4)))
    (A8 (BW (Ca (A1 (A0 1) A4)) (AG 4)
      (Bo (mMt B8 (A0 3) (A1 (mMt GZ (A0 2) (A1 (AA 2 F_pick (A1 (A0 0) (A1 (mCB (f1 true C6) (A1 (A0 2) A4)) A4))) A4)) A4))))
    (A8 (AK 5 (E3 (BE (A1 (mC (.int 2)) (A1 (mC (.int 3)) (A1 (mC (.int 6)) A4)))) (AA 2 F_pick (A1 (A0 0) (A1 (mC (.int 3)) A4)))))
    (A8 (AK 6 (BV (BE A4)))
    (A8 (BW (Ca (A1 (A0 1) A4)) (AG 7)
      (BW (Dw (A1 (mOp Aa (A0 7) (mC (.int 1))) (A1 (A0 1) A4))) (AG 8)
      (Au (AQ (mOp gEq (AA 2 F_pick (A1 (A0 0) (A1 (A0 5) A4))) (mC (.int 0))))
      (Bo (mMt B8 (A0 6) (A1 (BQ (A1 (mOp gIx (A0 3) (A0 7)) (A1 (mOp gIx (A0 3) (A0 8)) A4))) A4)))
      Ag)))
    (AY (CU B5 (Hf (BV (El (Em (A0 6)))) E2 (Fq (mC (.int 16))))))))))))
noncomputable def F_wishes:List D->Hd->Option (D × Hd):=mkF 2 9 m_wishes
noncomputable abbrev Eu:Stmt:=top 19
theorem sc_may:FnScope ["_law_works_here","_law_wishes_here","_law_left","_law_work","_law_firsts"] ["_law_works_here","_law_wishes_here","_law_left","_law_work"] (AF Eu):=⟨rfl,rfl,rfl,by decide +kernel,rfl,by decide +kernel,by decide +kernel⟩
@[reducible] noncomputable def Rj:MS:=(A8 (AK 4 (BV (Bc 2 [3] (Bg (A0 1)) (CH 2 (Ad (AG 0) (Ad (AG 1) CI))) (AQ (mOp gEq (A0 1) (A0 2))) (A0 0))))
    (AY (Gv (mOp gGt (mOp gIx (A0 2) (A0 3)) (mC (.int 0))) (EW false (Bc 1 [2] (Em (A0 4)) (AG 0) (AQ (mOp gGt (mOp gIx (A0 1) (A0 0)) (mC (.int 0)))) (A0 0)) (BE A4)))))
noncomputable def Il:List D->Hd->Option (D × Hd):=mkF 4 5 Rj
noncomputable abbrev EH:Stmt:=top 20
theorem sc_plan:FnScope ["_law_tape_here","_law_works_here","_law_wishes_here","_law_left","_law_found","_law_now","_law_gaps","_law_turn","_law_some","_law_work","_law_here","_law_days"] ["_law_tape_here","_law_works_here","_law_wishes_here"] (AF EH):=⟨rfl,rfl,rfl,by decide +kernel,rfl,by decide +kernel,by decide +kernel⟩
@[reducible] noncomputable def Oe:MS:=(A8 (AK 3 (BV (Bc 1 [] (Bg (A0 1)) (AG 0) CT (mOp gIx (A0 0) (mC (.int 0))))))
    (A8 (AK 4 (BV (BE A4)))
    (A8 (Fs (BQ (A1 (mC (.int 0)) (A1 (mC (.int 4)) A4))) (CH 2 (Ad (AG 5) (Ad (AG 6) CI))))
    (A8 (BW (Ca (A1 (mC (.int 60)) A4)) (AG 7)
      (FL (A8 (AK 8 (BV (BE A4)))
    (A8 (BW (Ca (A1 (mCB (f1 true C6) (A1 (A0 1) A4)) A4)) (AG 9)
      (FL (Au (Dv (FM Il (A1 (A0 1) (A1 (A0 2) (A1 (A0 3) (A1 (A0 9) A4))))))
      (Bo (mMt B8 (A0 8) (A1 (A0 9) A4)))
      Ag)))
    (A8 (AK 10 (BV (Bc 1 [1,5] (Em (A0 8)) (AG 0) (AQ (mOp gLe (mOp gIx (mOp gIx (A0 1) (A0 0)) (mC (.int 1))) (A0 2))) (A0 0))))
    (Au (GW (AQ (DD false (A0 10) (BE A4))) (AQ (DD true (A0 8) (BE A4))))
      (AK 5 (CU NR (Bc 1 [1] (Em (A0 8)) (AG 0) CT (mOp gIx (mOp gIx (A0 1) (A0 0)) (mC (.int 1))))))
      (Au (AQ (DD true (A0 10) (BE A4)))
      (A8 (AK 9 (mOp gIx (A0 10) (AA 2 F_pick (A1 (A0 0) (A1 (mCB (f1 true C6) (A1 (A0 10) A4)) A4)))))
    (A8 (AK 11 (mOp gIx (A0 3) (A0 9)))
    (A8 (Au (AQ (mOp gLt (mCB (f1 true C6) (A1 (A0 4) A4)) (mC (.int 30))))
      (AK 11 (mOp Aa (mC (.int 1)) (AA 2 F_pick (A1 (A0 0) (A1 (A0 11) A4)))))
      Ag)
    (A8 (Bo (mMt B8 (A0 4) (A1 (BQ (A1 (A0 9) (A1 (A0 5) (A1 (mOp Aa (A0 5) (A0 11)) A4)))) A4)))
    (A8 (Ev (A0 3) (A0 9) (mOp CL (mOp gIx (A0 3) (A0 9)) (A0 11)))
    (A8 (AK 5 (mOp Aa (A0 5) (A0 11)))
    (Au (GW (AQ (mOp gGt (A0 6) (mC (.int 0)))) (AQ (mOp gEq (AA 2 F_pick (A1 (A0 0) (A1 (mC (.int 6)) A4))) (mC (.int 0)))))
      (A8 (AK 6 (mOp CL (A0 6) (mC (.int 1))))
    (AK 5 (mOp Aa (mOp Aa (A0 5) (mC (.int 1))) (AA 2 F_pick (A1 (A0 0) (A1 (mC (.int 4)) A4))))))
      Ag)))))))
      Ag)))))))
    (AY (mCB (f1 true B5) (A1 (A0 4) A4)))))))
noncomputable def Gj:List D->Hd->Option (D × Hd):=mkF 3 12 Oe
noncomputable abbrev Df:Stmt:=top 21
theorem Pv:FnScope ["_law_cost_here"] ["_law_cost_here"] (AF Df):=⟨rfl,rfl,rfl,by decide +kernel,rfl,by decide +kernel,by decide +kernel⟩
@[reducible] noncomputable def MK:MS:=(A8 (Au (AQ (mOp gEq (mOp gIx (A0 0) (mC (.int 0))) (mC (.str "ends"))))
      (AY (mC (.int 0)))
      Ag)
    (AY (mIf (AQ (mOp gEq (mOp gIx (A0 0) (mC (.int 0))) (mC (.str "steps")))) (mOp CL (mOp gIx (mOp gIx (mOp gIx (A0 0) (mC (.int 1))) (mC (.int 0))) (mC (.int 0))) (mC (.int 1))) (mOp gIx (A0 0) (mC (.int 1))))))
noncomputable def FV:List D->Hd->Option (D × Hd):=mkF 1 1 MK
noncomputable abbrev EG:Stmt:=top 22
theorem sc_rise:FnScope ["_law_cost_here","_law_t","_law_former","_law_start","_law_told"] ["_law_cost_here","_law_t"] (AF EG):=⟨rfl,rfl,rfl,by decide +kernel,rfl,by decide +kernel,by decide +kernel⟩
@[reducible] noncomputable def Od:MS:=(A8 (Au (AQ (mOp gEq (mOp gIx (A0 0) (mC (.int 0))) (mC (.str "late"))))
      (AY (mC (.int 1)))
      Ag)
    (A8 (Au (AQ (mOp gEq (mOp gIx (A0 0) (mC (.int 0))) (mC (.str "ends"))))
      (AY (mOp gIx (A0 0) (mC (.int 1))))
      Ag)
    (A8 (Au (AQ (mOp gEq (mOp gIx (A0 0) (mC (.int 0))) (mC (.str "tardy"))))
      (AY (mOp CV (mOp gIx (A0 0) (mC (.int 2))) (mCB LD (A1 (mOp gGt (A0 1) (mOp gIx (A0 0) (mC (.int 1)))) A4))))
      Ag)
    (A8 (Au (AQ (mOp gEq (mOp gIx (A0 0) (mC (.int 0))) (mC (.str "miss"))))
      (AY (mOp CV (mOp gIx (A0 0) (mC (.int 2))) (mCB LD (A1 (mOp gEq (A0 1) (mOp Aa (mOp gIx (A0 0) (mC (.int 1))) (mC (.int 1)))) A4))))
      Ag)
    (A8 (AK 2 (mC (.int 0)))
    (A8 (BW (Bg (mOp gIx (A0 0) (mC (.int 1)))) (CH 2 (Ad (AG 3) (Ad (AG 4) CI)))
      (A8 (Au (AQ (mOp gEq (A0 3) (A0 1)))
      (AY (mOp CL (A0 4) (A0 2)))
      Ag)
    (AK 2 (A0 4))))
    (AY (mC (.int 0)))))))))
noncomputable def Ep:List D->Hd->Option (D × Hd):=mkF 2 5 Od
noncomputable abbrev GG:Stmt:=top 23
theorem sc_at:FnScope ["_law_cost_here","_law_t","_law_begin_here"] ["_law_cost_here","_law_t"] (AF GG):=⟨rfl,rfl,rfl,by decide +kernel,rfl,by decide +kernel,by decide +kernel⟩
@[reducible] noncomputable def V6:MS:=(A8 (AK 2 (AA 0 FV (A1 (A0 0) A4)))
    (A8 (Au (AQ (mOp gGt (A0 1) (A0 2)))
      (AY (CU Kw (Bc 1 [0] (Dw (A1 (mOp Aa (A0 2) (mC (.int 1))) (A1 (mOp Aa (A0 1) (mC (.int 1))) A4))) (AG 0) CT (AA 0 Ep (A1 (A0 1) (A1 (A0 0) A4))))))
      Ag)
    (AY (mOp CL (mC (.int 0)) (CU Kw (Bc 1 [0] (Dw (A1 (mOp Aa (A0 1) (mC (.int 1))) (A1 (mOp Aa (A0 2) (mC (.int 1))) A4))) (AG 0) CT (AA 0 Ep (A1 (A0 1) (A1 (A0 0) A4)))))))))
noncomputable def La:List D->Hd->Option (D × Hd):=mkF 2 3 V6
noncomputable abbrev Bi:Stmt:=top 24
theorem sc_plan_right:FnScope ["_law_works_here","_law_wishes_here","_law_plan_here","_law_last","_law_seq","_law_work","_law_start","_law_end","_law_ends","_law_order","_law_kept","_law_turn"] ["_law_works_here","_law_wishes_here","_law_plan_here"] (AF Bi):=⟨rfl,rfl,rfl,by decide +kernel,rfl,by decide +kernel,by decide +kernel⟩
@[reducible] noncomputable def GU:MS:=(A8 (AK 3 K3)
    (A8 (AK 4 (BV (BE A4)))
    (A8 (BW (Bg (A0 2)) (CH 3 (Ad (AG 5) (Ad (AG 6) (Ad (AG 7) CI))))
      (DE (A0 3) (A0 5) (A0 7)))
    (A8 (BW (Bg (IP (A0 2) (J9 (mC (.int 1))))) (CH 3 (Ad (AG 5) (Ad (AG 6) (Ad (AG 7) CI))))
      (Au (AQ (mOp (gIn true) (A0 5) (A0 4)))
      (Bo (mMt B8 (A0 4) (A1 (A0 5) A4)))
      Ag))
    (A8 (AK 8 (CU B5 (Bc 1 [3] (Ca (A1 (mCB (f1 true C6) (A1 (A0 0) A4)) A4)) (AG 0) CT (mOp Bv (A0 1) (A0 0)))))
    (A8 (AK 9 (CU B5 (IQ (A0 4) (J9 (mC (.int 1))))))
    (A8 (AK 10 (mCB CG (A1 (BQ (A1 (A0 0) (A1 (A0 2) A4))) A4)))
    (A8 (BW (Ca (A1 (mC (.int 2)) A4)) (AG 11)
      (A8 (Au (mOr (AQ (mOp gNe (mCB CG (A1 (AA 0 F_ends_of (A1 (A0 0) (A1 (A0 2) A4))) A4)) (mCB CG (A1 (A0 8) A4)))) (AQ (mOp gNe (mCB CG (A1 (AA 0 Cz (A1 (A0 0) (A1 (A0 2) A4))) A4)) (mCB CG (A1 (A0 9) A4)))))
      (AY (mC (.bl false)))
      Ag)
    (Au (mOr (AQ (Ks true true (AA 0 Dy (A1 (A0 0) (A1 (A0 1) (A1 (AA 0 Cz (A1 (A0 0) (A1 (A0 2) A4))) A4)))))) (AQ (mOp gNe (mCB CG (A1 (BQ (A1 (A0 0) (A1 (A0 2) A4))) A4)) (A0 10))))
      (AY (mC (.bl false)))
      Ag)))
    (AY (mOp gEq (mCB CG (A1 (AA 0 Cz (A1 (A0 0) (A1 (AA 0 F_run (A1 (A0 0) (A1 (A0 9) A4))) A4))) A4)) (mCB CG (A1 (A0 9) A4))))))))))))
noncomputable def Cy:List D->Hd->Option (D × Hd):=mkF 3 12 GU
noncomputable abbrev Ba:Stmt:=top 25
theorem sc_costs_right:FnScope ["_law_works_here","_law_ends","_law_kept","_law_due","_law_turn"] ["_law_works_here","_law_ends"] (AF Ba):=⟨rfl,rfl,rfl,by decide +kernel,rfl,by decide +kernel,by decide +kernel⟩
@[reducible] noncomputable def G6:MS:=(A8 (AK 2 (mCB CG (A1 (BQ (A1 (A0 0) (A1 (A0 1) A4))) A4)))
    (A8 (AK 3 (CU B5 (Bc 1 [0,1] (Ca (A1 (mCB (f1 true C6) (A1 (A0 0) A4)) A4)) (AG 0) CT (AA 0 La (A1 (mOp gIx (mOp gIx (A0 1) (A0 0)) (mC (.int 2))) (A1 (mOp gIx (A0 2) (A0 0)) A4))))))
    (A8 (BW (Ca (A1 (mC (.int 2)) A4)) (AG 4)
      (Au (mOr (AQ (mOp gNe (mCB CG (A1 (AA 0 F_costs_of (A1 (A0 0) (A1 (A0 1) A4))) A4)) (mCB CG (A1 (A0 3) A4)))) (AQ (mOp gNe (mCB CG (A1 (BQ (A1 (A0 0) (A1 (A0 1) A4))) A4)) (A0 2))))
      (AY (mC (.bl false)))
      Ag))
    (AY (mC (.bl true))))))
noncomputable def C9:List D->Hd->Option (D × Hd):=mkF 2 5 G6
noncomputable abbrev E8:Stmt:=top 26
theorem sc_law:FnScope ["_law_script","_law_tape_here","_law_k","_law_many","_law_works_here","_law_wishes_here","_law_plan_here","_law_any_ends"] ["_law_script"] (AF E8):=⟨rfl,rfl,rfl,by decide +kernel,rfl,by decide +kernel,by decide +kernel⟩
@[reducible] noncomputable def Rk:MS:=(A8 (AK 1 (FM F_tape (A1 (A0 0) A4)))
    (A8 (BW (Ca (A1 (mC (.int 3)) A4)) (AG 2)
      (FL (A8 (AK 3 (mOp Aa (mC (.int 1)) (AA 2 F_pick (A1 (A0 1) (A1 (mC (.int 8)) A4)))))
    (A8 (AK 4 (AA 2 F_works (A1 (A0 1) (A1 (A0 3) (A1 (mOp gEq (A0 2) (mC (.int 0))) A4)))))
    (A8 (AK 5 (AA 2 F_wishes (A1 (A0 1) (A1 (A0 3) A4))))
    (A8 (AK 6 (AA 2 Gj (A1 (A0 1) (A1 (A0 4) (A1 (A0 5) A4)))))
    (A8 (AK 7 (CU B5 (Bc 1 [1] (Bg (A0 4)) (AG 0) CT (mOp CL (AA 2 F_pick (A1 (A0 1) (A1 (mC (.int 1999)) A4))) (mC (.int 999))))))
    (A8 (Au (Fr (Dv (AA 0 Cy (A1 (A0 4) (A1 (A0 5) (A1 (A0 6) A4))))))
      (AY (mC (.bl false)))
      Ag)
    (Au (mOr (Fr (Dv (AA 0 C9 (A1 (A0 4) (A1 (AA 0 F_ends_of (A1 (A0 4) (A1 (A0 6) A4))) A4))))) (Fr (Dv (AA 0 C9 (A1 (A0 4) (A1 (A0 7) A4))))))
      (AY (mC (.bl false)))
      Ag)))))))))
    (AY (mC (.bl true)))))
noncomputable def F_law:List D->Hd->Option (D × Hd):=mkF 1 8 Rk
section
variable{P:Program}{w:World}{K:PySem.W.Frag}{mg:Str->Option Value}{base:Heap}
theorem ok_is_number{f_is_number:Addr}{d_is_number:FuncData}(DA:DefAt K mg "is_number" Bw f_is_number d_is_number ["thing"]) (B:BltA mg):FnOk P w K mg base CX0 1 f_is_number d_is_number ["thing"] (spF K 1 DQ):=by
  refine BB (N:=["thing"]) (m:=HG) DA KW λ cdv A outer s H E hr=>?_
  exact⟨_,(AC K (AZ K (OK K (Kl K .int B.isinstance B.int (qv K 0)) (OH K (UY K (Kl K .bool B.isinstance B.bool (qv K 0)))))))⟩
theorem ok_ends_of{f_ends_of:Addr}{d_ends_of:FuncData}(DA:DefAt K mg "ends_of" Bx f_ends_of d_ends_of ["works","plan"]) (B:BltA mg):FnOk P w K mg base CX0 1 f_ends_of d_ends_of ["works","plan"] (spF K 2 F_ends_of):=by
  refine BB (N:=["works","plan","ends","work","begin","end"]) (m:=m_ends_of) DA sc_ends_of λ cdv A outer s H E hr=>?_
  exact⟨_,(A6 K (by first|exact Gq K (i:=2) (loc:=["work"]) (fr:=[]) (ix:=[]) sc_ends_of.nd rfl rfl rfl ⟨rfl,by decide +kernel,rfl,rfl,rfl,by decide +kernel⟩ (C2 K (qv K 0)) (λ _ _ _=>(AM K (i:=0) (show(["work"]:List Str).Nodup from by decide +kernel) rfl (by first|exact Or.inl rfl|exact Or.inr rfl))) (λ _ _ _=>(CQ K)) (λ _ _ _=>(A7 K))|exact AS K (i:=2) sc_ends_of.nd rfl (by first|exact Or.inl rfl|exact Or.inr rfl) (C4 K (Bn K (loc:=["work"]) (fr:=[]) (ix:=[]) rfl ⟨rfl,by decide +kernel,rfl,rfl,rfl,by decide +kernel⟩ (C2 K (qv K 0)) (λ _ _ _=>(AM K (i:=0) (show(["work"]:List Str).Nodup from by decide +kernel) rfl (by first|exact Or.inl rfl|exact Or.inr rfl))) (λ _ _ _=>(CQ K)) (λ _ _ _=>(A7 K)))))
    (A6 K (Br K rfl (C2 K (qv K 1)) (Cp K (n:=3) rfl (Aj K (AM K (i:=3) sc_ends_of.nd rfl (by first|exact Or.inl rfl|exact Or.inr rfl)) (Aj K (AM K (i:=4) sc_ends_of.nd rfl (by first|exact Or.inl rfl|exact Or.inr rfl)) (Aj K (AM K (i:=5) sc_ends_of.nd rfl (by first|exact Or.inl rfl|exact Or.inr rfl)) (CP K)))))
      (AC K (M8 K (qv K 2) (qv K 3) (qv K 5))))
    (AC K (AZ K (Fh K (BG K) (DW Bq) B.tuple L2.bt_tuple (A2 K (qv K 2) (A5 K)))))))⟩
theorem ok_by_ends{f_by_ends f_ends_of:Addr}{d_by_ends d_ends_of:FuncData}(DA:DefAt K mg "by_ends" Bj f_by_ends d_by_ends ["works","plan"])(D_ends_of:DefAt K mg "ends_of" Bx f_ends_of d_ends_of ["works","plan"])(G_ends_of:FnOk P w K mg base CX0 1 f_ends_of d_ends_of ["works","plan"] (spF K 2 F_ends_of)){c_by_ends P_by_ends:Addr}(LC:LamC K mg base d_by_ends c_by_ends P_by_ends ((("by_ends":Str) ++ ".<locals>.") ++ "<lambda>") ⟨12,47,12,70⟩)(B:BltA mg):FnOk P w K mg base CX0 4 f_by_ends d_by_ends ["works","plan"] (spF K 2 Cz):=by
  refine Qf (N:=["works","plan","ends"]) (m:=JV) DA sc_by_ends λ cdv A outer s H E hcd hr=>?_
  exact⟨_,(A6 K (AS K (i:=2) sc_by_ends.nd rfl (by first|exact Or.inl rfl|exact Or.inr rfl) (AI K 0 G_ends_of hr D_ends_of (A2 K (qv K 0) (A2 K (qv K 1) (A5 K))) AR))
    (AC K (AZ K (Fg K (BG K) Bq B.tuple L2.bt_tuple (QJ K (prm:="work") (fr:=["ends"]) (ix:=[2]) ⟨hcd.symm.trans LC.code,LC.hd,LC.bl⟩ LC.ti ⟨rfl,by decide +kernel,rfl,rfl,rfl,by decide +kernel⟩ ⟨rfl,rfl,rfl,rfl⟩ hr (by decide) B.sorted (QH K B.range (A2 K (BR K (Bz K) (DW rg_len) B.len L2.bt_len (A2 K (qv K 0) (A5 K))) (A5 K))) (λ _ _ _ _=>(Af K (qv K 1) (qv K 0))) (λ _ _ _ _ _=>rfl))))))⟩
theorem ok_steps_at{f_steps_at:Addr}{d_steps_at:FuncData}(DA:DefAt K mg "steps_at" CA f_steps_at d_steps_at ["rows","t"]) (B:BltA mg):FnOk P w K mg base CX0 1 f_steps_at d_steps_at ["rows","t"] (spF K 2 F_steps_at):=by
  refine BB (N:=["rows","t","told","begin","amount"]) (m:=m_steps_at) DA sc_steps_at λ cdv A outer s H E hr=>?_
  exact⟨_,(A6 K (AS K (i:=2) sc_steps_at.nd rfl (by first|exact Or.inl rfl|exact Or.inr rfl) (A7 K))
    (A6 K (Br K rfl (C2 K (qv K 0)) (Cp K (n:=2) rfl (Aj K (AM K (i:=3) sc_steps_at.nd rfl (by first|exact Or.inl rfl|exact Or.inr rfl)) (Aj K (AM K (i:=4) sc_steps_at.nd rfl (by first|exact Or.inl rfl|exact Or.inr rfl)) (CP K))))
      (A6 K (B6 K (Am K Fj Fd (qv K 3) (qv K 1))
      (AC K (AZ K (qv K 2)))
      (An K))
    (AC K (AS K (i:=2) sc_steps_at.nd rfl (by first|exact Or.inl rfl|exact Or.inr rfl) (qv K 4)))))
    (AC K (AZ K (qv K 2)))))⟩
theorem ok_cost_at{f_cost_at f_steps_at:Addr}{d_cost_at d_steps_at:FuncData}(DA:DefAt K mg "cost_at" CW f_cost_at d_cost_at ["cost","t"])(D_steps_at:DefAt K mg "steps_at" CA f_steps_at d_steps_at ["rows","t"])(G_steps_at:FnOk P w K mg base CX0 1 f_steps_at d_steps_at ["rows","t"] (spF K 2 F_steps_at))(B:BltA mg):FnOk P w K mg base CX0 2 f_cost_at d_cost_at ["cost","t"] (spF K 2 F_cost_at):=by
  refine BB (N:=["cost","t","word","above"]) (m:=m_cost_at) DA sc_cost_at λ cdv A outer s H E hr=>?_
  exact⟨_,(A6 K (AS K (i:=2) sc_cost_at.nd rfl (by first|exact Or.inl rfl|exact Or.inr rfl) (Af K (qv K 0) (A7 K)))
    (A6 K (B6 K (Am K ((Bu).or (BA K hr.units)) (AO BT BU) (qv K 2) (Av K))
      (AC K (AZ K (AI K 0 G_steps_at hr D_steps_at (A2 K (Af K (qv K 0) (A7 K)) (A2 K (qv K 1) (A5 K))) AR)))
      (An K))
    (A6 K (B6 K (Am K ((Bu).or (BA K hr.units)) (AO BT BU) (qv K 2) (Av K))
      (AC K (AZ K (AW K DM DK (Af K (qv K 0) (A7 K)) (qv K 1))))
      (An K))
    (A6 K (AS K (i:=3) sc_cost_at.nd rfl (by first|exact Or.inl rfl|exact Or.inr rfl) (AW K Ds Dq (qv K 1) (Af K (qv K 0) (A7 K))))
    (A6 K (B6 K (Am K ((Bu).or (BA K hr.units)) (AO BT BU) (qv K 2) (Av K))
      (AC K (AZ K (qv K 3)))
      (An K))
    (A6 K (B6 K (Am K NJ N4 (qv K 3) (A7 K))
      (AC K (AZ K (A7 K)))
      (An K))
    (A6 K (B6 K (Am K ((Bu).or (BA K hr.units)) (AO BT BU) (qv K 2) (Av K))
      (AC K (AZ K (AW K DM DK (Af K (qv K 0) (A7 K)) (qv K 3))))
      (An K))
    (AC K (AZ K (Af K (qv K 0) (A7 K)))))))))))⟩
theorem ok_is_order{f_is_order f_is_number:Addr}{d_is_order d_is_number:FuncData}(DA:DefAt K mg "is_order" CB f_is_order d_is_order ["works","wishes","thing"])(D_is_number:DefAt K mg "is_number" Bw f_is_number d_is_number ["thing"])(G_is_number:FnOk P w K mg base CX0 1 f_is_number d_is_number ["thing"] (spF K 1 DQ))(B:BltA mg):FnOk P w K mg base CX0 2 f_is_order d_is_order ["works","wishes","thing"] (spF K 3 Dy):=by
  refine BB (N:=["works","wishes","thing"]) (m:=IL) DA Ld λ cdv A outer s H E hr=>?_
  exact⟨_,(A6 K (B6 K (QW.toT (IF K (GM K (DY K (Kl K .tuple B.isinstance B.tuple (qv K 2)))) (GL K (GM K (DY K (IH K (Jm K rfl) O8 B.all L2.bt_all (Bn K (loc:=["entry"]) (fr:=[]) (ix:=[]) rfl ⟨rfl,by decide +kernel,rfl,rfl,rfl,by decide +kernel⟩ (C2 K (qv K 2)) (λ _ _ _=>(AM K (i:=0) (show(["entry"]:List Str).Nodup from by decide +kernel) rfl (by first|exact Or.inl rfl|exact Or.inr rfl))) (λ _ _ _=>(CQ K)) (λ _ _ _=>(AI K 0 G_is_number hr D_is_number (A2 K (qv K 0) (A5 K)) AR)))))))))
      (AC K (AZ K (EU K)))
      (An K))
    (A6 K (B6 K (Sd K (IJ K hr.units) (NC K B.sorted (Kj K (qv K 2))) (Kk K B.list B.range (A2 K (BR K (Bz K) (DW rg_len) B.len L2.bt_len (A2 K (qv K 0) (A5 K))) (A5 K))))
      (AC K (AZ K (EU K)))
      (An K))
    (AC K (AZ K (IH K (Jm K rfl) O8 B.all L2.bt_all (Bn K (loc:=["a","b"]) (fr:=["thing"]) (ix:=[2]) rfl ⟨rfl,by decide +kernel,rfl,rfl,rfl,by decide +kernel⟩ (C2 K (qv K 1)) (λ _ _ _=>(Cp K (n:=2) rfl (Aj K (AM K (i:=0) (show(["a","b","thing"]:List Str).Nodup from by decide +kernel) rfl (by first|exact Or.inl rfl|exact Or.inr rfl)) (Aj K (AM K (i:=1) (show(["a","b","thing"]:List Str).Nodup from by decide +kernel) rfl (by first|exact Or.inl rfl|exact Or.inr rfl)) (CP K))))) (λ _ _ _=>(CQ K)) (λ _ _ _=>(FI K K2 K0 (OJ K PySem.F.slot_tuple_index PySem.F.type_tuple_index JU JQ (qv K 2) (A2 K (qv K 0) (A5 K))) (OJ K PySem.F.slot_tuple_index PySem.F.type_tuple_index JU JQ (qv K 2) (A2 K (qv K 1) (A5 K)))))))))))⟩
theorem ok_run{Fy:Addr}{d_run:FuncData}(DA:DefAt K mg "run" Et Fy d_run ["works","order"]) (B:BltA mg):FnOk P w K mg base CX0 1 Fy d_run ["works","order"] (spF K 2 F_run):=by
  refine BB (N:=["works","order","pieces","end","work","length","coming","cost","begin"]) (m:=m_run) DA sc_run λ cdv A outer s H E hr=>?_
  exact⟨_,(A6 K (AS K (i:=2) sc_run.nd rfl (by first|exact Or.inl rfl|exact Or.inr rfl) (C4 K (Bl K (A5 K))))
    (A6 K (AS K (i:=3) sc_run.nd rfl (by first|exact Or.inl rfl|exact Or.inr rfl) (A7 K))
    (A6 K (Br K rfl (C2 K (qv K 1)) (AM K (i:=4) sc_run.nd rfl (by first|exact Or.inl rfl|exact Or.inr rfl))
      (A6 K (OF K (Af K (qv K 0) (qv K 4)) (Cp K (n:=3) rfl (Aj K (AM K (i:=5) sc_run.nd rfl (by first|exact Or.inl rfl|exact Or.inr rfl)) (Aj K (AM K (i:=6) sc_run.nd rfl (by first|exact Or.inl rfl|exact Or.inr rfl)) (Aj K (AM K (i:=7) sc_run.nd rfl (by first|exact Or.inl rfl|exact Or.inr rfl)) (CP K))))))
    (A6 K (AS K (i:=8) sc_run.nd rfl (by first|exact Or.inl rfl|exact Or.inr rfl) (BR K (P9 rfl) SS B.max L2.bt_max (A2 K (qv K 6) (A2 K (qv K 3) (A5 K)))))
    (A6 K (AS K (i:=3) sc_run.nd rfl (by first|exact Or.inl rfl|exact Or.inr rfl) (AW K ((B4).or (Ap K)) (AO B3 Ax) (qv K 8) (qv K 5)))
    (AC K (Dh K (ET K PySem.F.slot_list_append PySem.F.type_list_append CD CY (qv K 2) (A2 K (C3 K (A2 K (qv K 4) (A2 K (qv K 8) (A2 K (qv K 3) (A5 K))))) (A5 K)))))))))
    (AC K (AZ K (Fh K (BG K) (DW Bq) B.tuple L2.bt_tuple (A2 K (qv K 2) (A5 K))))))))⟩
theorem ok_costs_of{f_costs_of f_cost_at:Addr}{d_costs_of d_cost_at:FuncData}(DA:DefAt K mg "costs_of" CC f_costs_of d_costs_of ["works","ends"])(D_cost_at:DefAt K mg "cost_at" CW f_cost_at d_cost_at ["cost","t"])(G_cost_at:FnOk P w K mg base CX0 2 f_cost_at d_cost_at ["cost","t"] (spF K 2 F_cost_at))(B:BltA mg):FnOk P w K mg base CX0 3 f_costs_of d_costs_of ["works","ends"] (spF K 2 F_costs_of):=by
  refine BB (N:=["works","ends"]) (m:=m_costs_of) DA Le λ cdv A outer s H E hr=>?_
  exact⟨_,(AC K (AZ K (Fg K (BG K) Bq B.tuple L2.bt_tuple (Bn K (loc:=["work","end"]) (fr:=[]) (ix:=[]) rfl ⟨rfl,by decide +kernel,rfl,rfl,rfl,by decide +kernel⟩ (UX K B.zip (Kj K (qv K 0)) (Kj K (qv K 1))) (λ _ _ _=>(Cp K (n:=2) rfl (Aj K (AM K (i:=0) (show(["work","end"]:List Str).Nodup from by decide +kernel) rfl (by first|exact Or.inl rfl|exact Or.inr rfl)) (Aj K (AM K (i:=1) (show(["work","end"]:List Str).Nodup from by decide +kernel) rfl (by first|exact Or.inl rfl|exact Or.inr rfl)) (CP K))))) (λ _ _ _=>(CQ K)) (λ _ _ _=>(AI K 0 G_cost_at hr D_cost_at (A2 K (Af K (qv K 0) (A7 K)) (A2 K (qv K 1) (A5 K))) AR))))))⟩
theorem ok_tape{En:Addr}{d_tape:FuncData}(DA:DefAt K mg "_law_tape" EF En d_tape ["_law_script"]) (B:BltA mg):FnOk P w K mg base CX0 1 En d_tape ["_law_script"] (spF K 1 F_tape):=by
  refine BB (N:=["_law_script"]) (m:=m_tape) DA SB λ cdv A outer s H E hr=>?_
  exact⟨_,(AC K (AZ K (Sl K (Fe K (Av K) (C4 K (QK K B.list (OG K (qv K 0) (MB K) (M9 K (A7 K))))) (Fe K (Av K) (A7 K) (Fe K (Av K) (A7 K) (Fe K (Av K) (A7 K) (Sg K))))))))⟩
theorem ok_pick{BX:Addr}{d_pick:FuncData}(DA:DefAt K mg "_law_pick" Cd BX d_pick ["_law_tape_here","_law_many"]) (B:BltA mg):FnOk P w K mg base CX0 1 BX d_pick ["_law_tape_here","_law_many"] (spF K 2 F_pick):=by
  refine BB (N:=["_law_tape_here","_law_many","_law_found","_law_cells","_law_at_here","_law_turn","_law_cell","_law_mixed"]) (m:=m_pick) DA sc_pick λ cdv A outer s H E hr=>?_
  exact⟨_,(A6 K (FH K (DF hr) (qv K 0) (Av K) (AW K ((B4).or (Ap K)) (AO B3 Ax) (Di K (DF hr) (qv K 0) (Av K)) (A7 K)))
    (A6 K (B6 K (Am K Fj Fd (Di K (DF hr) (qv K 0) (Av K)) (A7 K))
      (A6 K (AS K (i:=2) sc_pick.nd rfl (by first|exact Or.inl rfl|exact Or.inr rfl) (AW K EK EJ (Di K (DF hr) (qv K 0) (Av K)) (qv K 1)))
    (A6 K (FH K (DF hr) (qv K 0) (Av K) (AW K J1 Iv (Di K (DF hr) (qv K 0) (Av K)) (qv K 1)))
    (AC K (AZ K (qv K 2)))))
      (An K))
    (A6 K (Se K (i:=3) (j:=4) (k:=5) rfl sc_pick.nd rfl rfl rfl rfl rfl rfl (A2 K (Di K (DF hr) (qv K 0) (Av K)) (A2 K (Di K (DF hr) (qv K 0) (Av K)) (A2 K (Di K (DF hr) (qv K 0) (Av K)) (A5 K)))))
    (A6 K (AS K (i:=6) sc_pick.nd rfl (by first|exact Or.inl rfl|exact Or.inr rfl) (Ff K (Gp K (IJ K hr.units) (qv K 3) (Bl K (A5 K))) (Af K (qv K 3) (AW K EK EJ (qv K 4) (BR K (Bz K) (DW rg_len) B.len L2.bt_len (A2 K (qv K 3) (A5 K))))) (A7 K)))
    (A6 K (FH K (DF hr) (qv K 0) (Av K) (AW K ((B4).or (Ap K)) (AO B3 Ax) (qv K 4) (A7 K)))
    (A6 K (B6 K (QW.toT (Ki K (Am K Vz Vp (qv K 6) (AW K V0 US (A7 K) (A7 K))) (Ix K (Am K K2 K0 (qv K 4) (BR K (Bz K) (DW rg_len) B.len L2.bt_len (A2 K (qv K 3) (A5 K)))))))
      (A6 K (FH K (DF hr) (qv K 0) (Av K) (AW K J1 Iv (qv K 6) (qv K 1)))
    (AC K (AZ K (AW K EK EJ (qv K 6) (qv K 1)))))
      (An K))
    (A6 K (AS K (i:=7) sc_pick.nd rfl (by first|exact Or.inl rfl|exact Or.inr rfl) (AW K EK EJ (AW K ((B4).or (Ap K)) (AO B3 Ax) (AW K ((B4).or (Ap K)) (AO B3 Ax) (AW K EK EJ (qv K 6) (A7 K)) (AW K DM DK (A7 K) (qv K 5))) (A7 K)) (A7 K)))
    (A6 K (AS K (i:=7) sc_pick.nd rfl (by first|exact Or.inl rfl|exact Or.inr rfl) (AW K EK EJ (AW K ((B4).or (Ap K)) (AO B3 Ax) (AW K DM DK (qv K 7) (qv K 7)) (AW K DM DK (A7 K) (qv K 5))) (A7 K)))
    (A6 K (AS K (i:=7) sc_pick.nd rfl (by first|exact Or.inl rfl|exact Or.inr rfl) (AW K EK EJ (AW K ((B4).or (Ap K)) (AO B3 Ax) (AW K ((B4).or (Ap K)) (AO B3 Ax) (AW K DM DK (qv K 7) (qv K 7)) (AW K DM DK (A7 K) (qv K 7))) (qv K 5)) (A7 K)))
    (AC K (AZ K (AW K EK EJ (AW K J1 Iv (qv K 7) (A7 K)) (qv K 1)))))))))))))⟩
theorem ok_cost{f_cost BX:Addr}{d_cost d_pick:FuncData}(DA:DefAt K mg "_law_cost" EI f_cost d_cost ["_law_tape_here","_law_way"])(D_pick:DefAt K mg "_law_pick" Cd BX d_pick ["_law_tape_here","_law_many"])(G_pick:FnOk P w K mg base CX0 1 BX d_pick ["_law_tape_here","_law_many"] (spF K 2 F_pick))(B:BltA mg):FnOk P w K mg base CX0 2 f_cost d_cost ["_law_tape_here","_law_way"] (spF K 2 F_cost):=by
  refine BB (N:=["_law_tape_here","_law_way","_law_due","_law_weight","_law_start","_law_told","_law_rows","_law_k"]) (m:=m_cost) DA sc_cost λ cdv A outer s H E hr=>?_
  exact⟨_,(A6 K (AS K (i:=2) sc_cost.nd rfl (by first|exact Or.inl rfl|exact Or.inr rfl) (Ff K (Am K ((Bu).or (BA K hr.units)) (AO BT BU) (AI K 2 G_pick hr D_pick (A2 K (qv K 0) (A2 K (A7 K) (A5 K))) AR) (A7 K)) (AW K Ds Dq (AI K 2 G_pick hr D_pick (A2 K (qv K 0) (A2 K (A7 K) (A5 K))) AR) (A7 K)) (AW K Ds Dq (AI K 2 G_pick hr D_pick (A2 K (qv K 0) (A2 K (A7 K) (A5 K))) AR) (A7 K))))
    (A6 K (AS K (i:=3) sc_cost.nd rfl (by first|exact Or.inl rfl|exact Or.inr rfl) (AI K 2 G_pick hr D_pick (A2 K (qv K 0) (A2 K (A7 K) (A5 K))) AR))
    (A6 K (B6 K (Am K K2 K0 (qv K 1) (A7 K))
      (AC K (AZ K (IG K (Bl K (A2 K (C3 K (A2 K (Av K) (A2 K (qv K 2) (A5 K)))) (A2 K (C3 K (A2 K (Av K) (A2 K (qv K 2) (A2 K (qv K 3) (A5 K))))) (A2 K (C3 K (A2 K (Av K) (A2 K (qv K 2) (A2 K (qv K 3) (A5 K))))) (A2 K (C3 K (A2 K (Av K) (A2 K (qv K 3) (A5 K)))) (A5 K)))))) (qv K 1))))
      (An K))
    (A6 K (UW K (i:=4) (j:=5) rfl sc_cost.nd rfl rfl (by decide) rfl rfl (A2 K (BR K (P8 rfl) SR B.min L2.bt_min (A2 K (qv K 2) (A2 K (A7 K) (A5 K)))) (A2 K (A7 K) (A5 K))))
    (A6 K (AS K (i:=6) sc_cost.nd rfl (by first|exact Or.inl rfl|exact Or.inr rfl) (C4 K (Bl K (A5 K))))
    (A6 K (Br K rfl (CO K B.range (A2 K (AW K ((B4).or (Ap K)) (AO B3 Ax) (A7 K) (AI K 2 G_pick hr D_pick (A2 K (qv K 0) (A2 K (A7 K) (A5 K))) AR)) (A5 K))) (AM K (i:=7) sc_cost.nd rfl (by first|exact Or.inl rfl|exact Or.inr rfl))
      (A6 K (AS K (i:=4) sc_cost.nd rfl (by first|exact Or.inl rfl|exact Or.inr rfl) (AW K ((B4).or (Ap K)) (AO B3 Ax) (AW K ((B4).or (Ap K)) (AO B3 Ax) (qv K 4) (A7 K)) (AI K 2 G_pick hr D_pick (A2 K (qv K 0) (A2 K (A7 K) (A5 K))) AR)))
    (A6 K (AS K (i:=5) sc_cost.nd rfl (by first|exact Or.inl rfl|exact Or.inr rfl) (AW K ((B4).or (Ap K)) (AO B3 Ax) (qv K 5) (AI K 2 G_pick hr D_pick (A2 K (qv K 0) (A2 K (A7 K) (A5 K))) AR)))
    (AC K (Dh K (ET K PySem.F.slot_list_append PySem.F.type_list_append CD CY (qv K 6) (A2 K (C3 K (A2 K (qv K 4) (A2 K (qv K 5) (A5 K)))) (A5 K))))))))
    (AC K (AZ K (C3 K (A2 K (Av K) (A2 K (Fh K (BG K) (DW Bq) B.tuple L2.bt_tuple (A2 K (qv K 6) (A5 K))) (A5 K))))))))))))⟩
theorem ok_works{E4 BX f_cost:Addr}{d_works d_pick d_cost:FuncData}(DA:DefAt K mg "_law_works" De E4 d_works ["_law_tape_here","_law_many","_law_alike"])(D_pick:DefAt K mg "_law_pick" Cd BX d_pick ["_law_tape_here","_law_many"])(G_pick:FnOk P w K mg base CX0 1 BX d_pick ["_law_tape_here","_law_many"] (spF K 2 F_pick))(D_cost:DefAt K mg "_law_cost" EI f_cost d_cost ["_law_tape_here","_law_way"])(G_cost:FnOk P w K mg base CX0 2 f_cost d_cost ["_law_tape_here","_law_way"] (spF K 2 F_cost))(B:BltA mg):FnOk P w K mg base CX0 3 E4 d_works ["_law_tape_here","_law_many","_law_alike"] (spF K 3 F_works):=by
  refine BB (N:=["_law_tape_here","_law_many","_law_alike","_law_begin_here","_law_wide","_law_found","_law_k","_law_coming"]) (m:=m_works) DA sc_works λ cdv A outer s H E hr=>?_
  exact⟨_,(A6 K (AS K (i:=3) sc_works.nd rfl (by first|exact Or.inl rfl|exact Or.inr rfl) (AW K DM DK (AI K 2 G_pick hr D_pick (A2 K (qv K 0) (A2 K (A7 K) (A5 K))) AR) (AI K 2 G_pick hr D_pick (A2 K (qv K 0) (A2 K (A7 K) (A5 K))) AR)))
    (A6 K (AS K (i:=4) sc_works.nd rfl (by first|exact Or.inl rfl|exact Or.inr rfl) (IG K (Bl K (A2 K (A7 K) (A2 K (A7 K) (A5 K)))) (AI K 2 G_pick hr D_pick (A2 K (qv K 0) (A2 K (A7 K) (A5 K))) AR)))
    (A6 K (AS K (i:=5) sc_works.nd rfl (by first|exact Or.inl rfl|exact Or.inr rfl) (C4 K (Bl K (A5 K))))
    (A6 K (Br K rfl (CO K B.range (A2 K (qv K 1) (A5 K))) (AM K (i:=6) sc_works.nd rfl (by first|exact Or.inl rfl|exact Or.inr rfl))
      (A6 K (AS K (i:=7) sc_works.nd rfl (by first|exact Or.inl rfl|exact Or.inr rfl) (Ff K (DY K (qv K 2)) (qv K 3) (AI K 2 G_pick hr D_pick (A2 K (qv K 0) (A2 K (IG K (Bl K (A2 K (A7 K) (A2 K (A7 K) (A5 K)))) (AI K 2 G_pick hr D_pick (A2 K (qv K 0) (A2 K (A7 K) (A5 K))) AR)) (A5 K))) AR)))
    (AC K (Dh K (ET K PySem.F.slot_list_append PySem.F.type_list_append CD CY (qv K 5) (A2 K (C3 K (A2 K (AW K ((B4).or (Ap K)) (AO B3 Ax) (A7 K) (AI K 2 G_pick hr D_pick (A2 K (qv K 0) (A2 K (qv K 4) (A5 K))) AR)) (A2 K (qv K 7) (A2 K (AI K 2 G_cost hr D_cost (A2 K (qv K 0) (A2 K (AI K 2 G_pick hr D_pick (A2 K (qv K 0) (A2 K (A7 K) (A5 K))) AR) (A5 K))) AR) (A5 K))))) (A5 K)))))))
    (AC K (AZ K (Fh K (BG K) (DW Bq) B.tuple L2.bt_tuple (A2 K (qv K 5) (A5 K)))))))))⟩
theorem ok_wishes{Dc BX:Addr}{d_wishes d_pick:FuncData}(DA:DefAt K mg "_law_wishes" Co Dc d_wishes ["_law_tape_here","_law_many"])(D_pick:DefAt K mg "_law_pick" Cd BX d_pick ["_law_tape_here","_law_many"])(G_pick:FnOk P w K mg base CX0 1 BX d_pick ["_law_tape_here","_law_many"] (spF K 2 F_pick))(B:BltA mg):FnOk P w K mg base CX0 2 Dc d_wishes ["_law_tape_here","_law_many"] (spF K 2 F_wishes):=by
  refine BB (N:=["_law_tape_here","_law_many","_law_left","_law_seq","_law_k","_law_dense","_law_found","_law_i","_law_j"]) (m:=m_wishes) DA sc_wishes λ cdv A outer s H E hr=>?_
  exact⟨_,(A6 K (AS K (i:=2) sc_wishes.nd rfl (by first|exact Or.inl rfl|exact Or.inr rfl) (C4 K (Kk K B.list B.range (A2 K (qv K 1) (A5 K)))))
    (A6 K (AS K (i:=3) sc_wishes.nd rfl (by first|exact Or.inl rfl|exact Or.inr rfl) (C4 K (Bl K (A5 K))))
    (A6 K (Br K rfl (CO K B.range (A2 K (qv K 1) (A5 K))) (AM K (i:=4) sc_wishes.nd rfl (by first|exact Or.inl rfl|exact Or.inr rfl))
      (AC K (Dh K (ET K PySem.F.slot_list_append PySem.F.type_list_append CD CY (qv K 3) (A2 K (ET K PySem.F.slot_list_pop PySem.F.type_list_pop Qh Q3 (qv K 2) (A2 K (AI K 2 G_pick hr D_pick (A2 K (qv K 0) (A2 K (BR K (Bz K) (DW rg_len) B.len L2.bt_len (A2 K (qv K 2) (A5 K))) (A5 K))) AR) (A5 K))) (A5 K))))))
    (A6 K (AS K (i:=5) sc_wishes.nd rfl (by first|exact Or.inl rfl|exact Or.inr rfl) (IG K (Bl K (A2 K (A7 K) (A2 K (A7 K) (A2 K (A7 K) (A5 K))))) (AI K 2 G_pick hr D_pick (A2 K (qv K 0) (A2 K (A7 K) (A5 K))) AR)))
    (A6 K (AS K (i:=6) sc_wishes.nd rfl (by first|exact Or.inl rfl|exact Or.inr rfl) (C4 K (Bl K (A5 K))))
    (A6 K (Br K rfl (CO K B.range (A2 K (qv K 1) (A5 K))) (AM K (i:=7) sc_wishes.nd rfl (by first|exact Or.inl rfl|exact Or.inr rfl))
      (AC K (Br K rfl (Iy K B.range (A2 K (AW K ((B4).or (Ap K)) (AO B3 Ax) (qv K 7) (A7 K)) (A2 K (qv K 1) (A5 K)))) (AM K (i:=8) sc_wishes.nd rfl (by first|exact Or.inl rfl|exact Or.inr rfl))
      (AC K (B6 K (Am K ((Bu).or (BA K hr.units)) (AO BT BU) (AI K 2 G_pick hr D_pick (A2 K (qv K 0) (A2 K (qv K 5) (A5 K))) AR) (A7 K))
      (AC K (Dh K (ET K PySem.F.slot_list_append PySem.F.type_list_append CD CY (qv K 6) (A2 K (C3 K (A2 K (Af K (qv K 3) (qv K 7)) (A2 K (Af K (qv K 3) (qv K 8)) (A5 K)))) (A5 K)))))
      (An K))))))
    (AC K (AZ K (Fg K (BG K) Bq B.tuple L2.bt_tuple (OG K (C4 K (ND K B.sorted (Sf K (qv K 6)))) (MB K) (M9 K (A7 K))))))))))))⟩
theorem ok_may{f_may:Addr}{d_may:FuncData}(DA:DefAt K mg "_law_may" Eu f_may d_may ["_law_works_here","_law_wishes_here","_law_left","_law_work"]) (B:BltA mg):FnOk P w K mg base CX0 1 f_may d_may ["_law_works_here","_law_wishes_here","_law_left","_law_work"] (spF K 4 Il):=by
  refine BB (N:=["_law_works_here","_law_wishes_here","_law_left","_law_work","_law_firsts"]) (m:=Rj) DA sc_may λ cdv A outer s H E hr=>?_
  exact⟨_,(A6 K (by first|exact Gq K (i:=4) (loc:=["_law_a","_law_after"]) (fr:=["_law_work"]) (ix:=[3]) sc_may.nd rfl rfl rfl ⟨rfl,by decide +kernel,rfl,rfl,rfl,by decide +kernel⟩ (C2 K (qv K 1)) (λ _ _ _=>(Cp K (n:=2) rfl (Aj K (AM K (i:=0) (show(["_law_a","_law_after","_law_work"]:List Str).Nodup from by decide +kernel) rfl (by first|exact Or.inl rfl|exact Or.inr rfl)) (Aj K (AM K (i:=1) (show(["_law_a","_law_after","_law_work"]:List Str).Nodup from by decide +kernel) rfl (by first|exact Or.inl rfl|exact Or.inr rfl)) (CP K))))) (λ _ _ _=>(GO K (Am K ((Bu).or (BA K hr.units)) (AO BT BU) (qv K 1) (qv K 2)))) (λ _ _ _=>(qv K 0))|exact AS K (i:=4) sc_may.nd rfl (by first|exact Or.inl rfl|exact Or.inr rfl) (C4 K (Bn K (loc:=["_law_a","_law_after"]) (fr:=["_law_work"]) (ix:=[3]) rfl ⟨rfl,by decide +kernel,rfl,rfl,rfl,by decide +kernel⟩ (C2 K (qv K 1)) (λ _ _ _=>(Cp K (n:=2) rfl (Aj K (AM K (i:=0) (show(["_law_a","_law_after","_law_work"]:List Str).Nodup from by decide +kernel) rfl (by first|exact Or.inl rfl|exact Or.inr rfl)) (Aj K (AM K (i:=1) (show(["_law_a","_law_after","_law_work"]:List Str).Nodup from by decide +kernel) rfl (by first|exact Or.inl rfl|exact Or.inr rfl)) (CP K))))) (λ _ _ _=>(GO K (Am K ((Bu).or (BA K hr.units)) (AO BT BU) (qv K 1) (qv K 2)))) (λ _ _ _=>(qv K 0)))))
    (AC K (AZ K (OK K (FI K Fj Fd (Af K (qv K 2) (qv K 3)) (A7 K)) (OH K (Sj K (OU K hr.units) (Bn K (loc:=["_law_a"]) (fr:=["_law_left"]) (ix:=[2]) rfl ⟨rfl,by decide +kernel,rfl,rfl,rfl,by decide +kernel⟩ (Gs K (qv K 4)) (λ _ _ _=>(AM K (i:=0) (show(["_law_a","_law_left"]:List Str).Nodup from by decide +kernel) rfl (by first|exact Or.inl rfl|exact Or.inr rfl))) (λ _ _ _=>(GO K (Am K Fj Fd (Af K (qv K 1) (qv K 0)) (A7 K)))) (λ _ _ _=>(qv K 0))) (Bl K (A5 K))))))))⟩
theorem ok_plan{f_plan BX f_may:Addr}{d_plan d_pick d_may:FuncData}(DA:DefAt K mg "_law_plan" EH f_plan d_plan ["_law_tape_here","_law_works_here","_law_wishes_here"])(D_pick:DefAt K mg "_law_pick" Cd BX d_pick ["_law_tape_here","_law_many"])(G_pick:FnOk P w K mg base CX0 1 BX d_pick ["_law_tape_here","_law_many"] (spF K 2 F_pick))(D_may:DefAt K mg "_law_may" Eu f_may d_may ["_law_works_here","_law_wishes_here","_law_left","_law_work"])(G_may:FnOk P w K mg base CX0 1 f_may d_may ["_law_works_here","_law_wishes_here","_law_left","_law_work"] (spF K 4 Il))(B:BltA mg):FnOk P w K mg base CX0 2 f_plan d_plan ["_law_tape_here","_law_works_here","_law_wishes_here"] (spF K 3 Gj):=by
  refine BB (N:=["_law_tape_here","_law_works_here","_law_wishes_here","_law_left","_law_found","_law_now","_law_gaps","_law_turn","_law_some","_law_work","_law_here","_law_days"]) (m:=Oe) DA sc_plan λ cdv A outer s H E hr=>?_
  exact⟨_,(A6 K (by first|exact Gq K (i:=3) (loc:=["_law_work"]) (fr:=[]) (ix:=[]) sc_plan.nd rfl rfl rfl ⟨rfl,by decide +kernel,rfl,rfl,rfl,by decide +kernel⟩ (C2 K (qv K 1)) (λ _ _ _=>(AM K (i:=0) (show(["_law_work"]:List Str).Nodup from by decide +kernel) rfl (by first|exact Or.inl rfl|exact Or.inr rfl))) (λ _ _ _=>(CQ K)) (λ _ _ _=>(Af K (qv K 0) (A7 K)))|exact AS K (i:=3) sc_plan.nd rfl (by first|exact Or.inl rfl|exact Or.inr rfl) (C4 K (Bn K (loc:=["_law_work"]) (fr:=[]) (ix:=[]) rfl ⟨rfl,by decide +kernel,rfl,rfl,rfl,by decide +kernel⟩ (C2 K (qv K 1)) (λ _ _ _=>(AM K (i:=0) (show(["_law_work"]:List Str).Nodup from by decide +kernel) rfl (by first|exact Or.inl rfl|exact Or.inr rfl))) (λ _ _ _=>(CQ K)) (λ _ _ _=>(Af K (qv K 0) (A7 K))))))
    (A6 K (AS K (i:=4) sc_plan.nd rfl (by first|exact Or.inl rfl|exact Or.inr rfl) (C4 K (Bl K (A5 K))))
    (A6 K (OF K (C3 K (A2 K (A7 K) (A2 K (A7 K) (A5 K)))) (Cp K (n:=2) rfl (Aj K (AM K (i:=5) sc_plan.nd rfl (by first|exact Or.inl rfl|exact Or.inr rfl)) (Aj K (AM K (i:=6) sc_plan.nd rfl (by first|exact Or.inl rfl|exact Or.inr rfl)) (CP K)))))
    (A6 K (Br K rfl (CO K B.range (A2 K (A7 K) (A5 K))) (AM K (i:=7) sc_plan.nd rfl (by first|exact Or.inl rfl|exact Or.inr rfl))
      (GN K (A6 K (AS K (i:=8) sc_plan.nd rfl (by first|exact Or.inl rfl|exact Or.inr rfl) (C4 K (Bl K (A5 K))))
    (A6 K (Br K rfl (CO K B.range (A2 K (BR K (Bz K) (DW rg_len) B.len L2.bt_len (A2 K (qv K 1) (A5 K))) (A5 K))) (AM K (i:=9) sc_plan.nd rfl (by first|exact Or.inl rfl|exact Or.inr rfl))
      (GN K (AC K (B6 K (DY K (Km K G_may hr D_may (A2 K (qv K 1) (A2 K (qv K 2) (A2 K (qv K 3) (A2 K (qv K 9) (A5 K))))) AR))
      (AC K (Dh K (ET K PySem.F.slot_list_append PySem.F.type_list_append CD CY (qv K 8) (A2 K (qv K 9) (A5 K)))))
      (An K)))))
    (A6 K (by first|exact Gq K (i:=10) (loc:=["_law_work"]) (fr:=["_law_works_here","_law_now"]) (ix:=[1,5]) sc_plan.nd rfl rfl rfl ⟨rfl,by decide +kernel,rfl,rfl,rfl,by decide +kernel⟩ (Gs K (qv K 8)) (λ _ _ _=>(AM K (i:=0) (show(["_law_work","_law_works_here","_law_now"]:List Str).Nodup from by decide +kernel) rfl (by first|exact Or.inl rfl|exact Or.inr rfl))) (λ _ _ _=>(GO K (Am K NJ N4 (Af K (Af K (qv K 1) (qv K 0)) (A7 K)) (qv K 2)))) (λ _ _ _=>(qv K 0))|exact AS K (i:=10) sc_plan.nd rfl (by first|exact Or.inl rfl|exact Or.inr rfl) (C4 K (Bn K (loc:=["_law_work"]) (fr:=["_law_works_here","_law_now"]) (ix:=[1,5]) rfl ⟨rfl,by decide +kernel,rfl,rfl,rfl,by decide +kernel⟩ (Gs K (qv K 8)) (λ _ _ _=>(AM K (i:=0) (show(["_law_work","_law_works_here","_law_now"]:List Str).Nodup from by decide +kernel) rfl (by first|exact Or.inl rfl|exact Or.inr rfl))) (λ _ _ _=>(GO K (Am K NJ N4 (Af K (Af K (qv K 1) (qv K 0)) (A7 K)) (qv K 2)))) (λ _ _ _=>(qv K 0)))))
    (AC K (B6 K (QW.toT (Ki K (Gp K (OU K hr.units) (qv K 10) (Bl K (A5 K))) (Ix K (Gp K (IJ K hr.units) (qv K 8) (Bl K (A5 K))))))
      (AC K (AS K (i:=5) sc_plan.nd rfl (by first|exact Or.inl rfl|exact Or.inr rfl) (IH K (P7 K rfl) UK B.min L2.bt_min (Bn K (loc:=["_law_work"]) (fr:=["_law_works_here"]) (ix:=[1]) rfl ⟨rfl,by decide +kernel,rfl,rfl,rfl,by decide +kernel⟩ (Gs K (qv K 8)) (λ _ _ _=>(AM K (i:=0) (show(["_law_work","_law_works_here"]:List Str).Nodup from by decide +kernel) rfl (by first|exact Or.inl rfl|exact Or.inr rfl))) (λ _ _ _=>(CQ K)) (λ _ _ _=>(Af K (Af K (qv K 1) (qv K 0)) (A7 K)))))))
      (AC K (B6 K (Gp K (IJ K hr.units) (qv K 10) (Bl K (A5 K)))
      (A6 K (AS K (i:=9) sc_plan.nd rfl (by first|exact Or.inl rfl|exact Or.inr rfl) (Af K (qv K 10) (AI K 2 G_pick hr D_pick (A2 K (qv K 0) (A2 K (BR K (Bz K) (DW rg_len) B.len L2.bt_len (A2 K (qv K 10) (A5 K))) (A5 K))) AR)))
    (A6 K (AS K (i:=11) sc_plan.nd rfl (by first|exact Or.inl rfl|exact Or.inr rfl) (Af K (qv K 3) (qv K 9)))
    (A6 K (B6 K (Am K K2 K0 (BR K (Bz K) (DW rg_len) B.len L2.bt_len (A2 K (qv K 4) (A5 K))) (A7 K))
      (AC K (AS K (i:=11) sc_plan.nd rfl (by first|exact Or.inl rfl|exact Or.inr rfl) (AW K ((B4).or (Ap K)) (AO B3 Ax) (A7 K) (AI K 2 G_pick hr D_pick (A2 K (qv K 0) (A2 K (qv K 11) (A5 K))) AR))))
      (An K))
    (A6 K (Dh K (ET K PySem.F.slot_list_append PySem.F.type_list_append CD CY (qv K 4) (A2 K (C3 K (A2 K (qv K 9) (A2 K (qv K 5) (A2 K (AW K ((B4).or (Ap K)) (AO B3 Ax) (qv K 5) (qv K 11)) (A5 K))))) (A5 K))))
    (A6 K (M8 K (qv K 3) (qv K 9) (AW K Ds Dq (Af K (qv K 3) (qv K 9)) (qv K 11)))
    (A6 K (AS K (i:=5) sc_plan.nd rfl (by first|exact Or.inl rfl|exact Or.inr rfl) (AW K ((B4).or (Ap K)) (AO B3 Ax) (qv K 5) (qv K 11)))
    (AC K (B6 K (QW.toT (Ki K (Am K Fj Fd (qv K 6) (A7 K)) (Ix K (Am K ((Bu).or (BA K hr.units)) (AO BT BU) (AI K 2 G_pick hr D_pick (A2 K (qv K 0) (A2 K (A7 K) (A5 K))) AR) (A7 K)))))
      (A6 K (AS K (i:=6) sc_plan.nd rfl (by first|exact Or.inl rfl|exact Or.inr rfl) (AW K Ds Dq (qv K 6) (A7 K)))
    (AC K (AS K (i:=5) sc_plan.nd rfl (by first|exact Or.inl rfl|exact Or.inr rfl) (AW K ((B4).or (Ap K)) (AO B3 Ax) (AW K ((B4).or (Ap K)) (AO B3 Ax) (qv K 5) (A7 K)) (AI K 2 G_pick hr D_pick (A2 K (qv K 0) (A2 K (A7 K) (A5 K))) AR)))))
      (An K)))))))))
      (An K))))))))))
    (AC K (AZ K (Fh K (BG K) (DW Bq) B.tuple L2.bt_tuple (A2 K (qv K 4) (A5 K)))))))))⟩
theorem ok_begin{f_begin:Addr}{d_begin:FuncData}(DA:DefAt K mg "_law_begin" Df f_begin d_begin ["_law_cost_here"]) (B:BltA mg):FnOk P w K mg base CX0 1 f_begin d_begin ["_law_cost_here"] (spF K 1 FV):=by
  refine BB (N:=["_law_cost_here"]) (m:=MK) DA Pv λ cdv A outer s H E hr=>?_
  exact⟨_,(A6 K (B6 K (Am K ((Bu).or (BA K hr.units)) (AO BT BU) (Af K (qv K 0) (A7 K)) (Av K))
      (AC K (AZ K (A7 K)))
      (An K))
    (AC K (AZ K (Ff K (Am K ((Bu).or (BA K hr.units)) (AO BT BU) (Af K (qv K 0) (A7 K)) (Av K)) (AW K Ds Dq (Af K (Af K (Af K (qv K 0) (A7 K)) (A7 K)) (A7 K)) (A7 K)) (Af K (qv K 0) (A7 K))))))⟩
theorem ok_rise{f_rise:Addr}{d_rise:FuncData}(DA:DefAt K mg "_law_rise" EG f_rise d_rise ["_law_cost_here","_law_t"]) (B:BltA mg):FnOk P w K mg base CX0 1 f_rise d_rise ["_law_cost_here","_law_t"] (spF K 2 Ep):=by
  refine BB (N:=["_law_cost_here","_law_t","_law_former","_law_start","_law_told"]) (m:=Od) DA sc_rise λ cdv A outer s H E hr=>?_
  exact⟨_,(A6 K (B6 K (Am K ((Bu).or (BA K hr.units)) (AO BT BU) (Af K (qv K 0) (A7 K)) (Av K))
      (AC K (AZ K (A7 K)))
      (An K))
    (A6 K (B6 K (Am K ((Bu).or (BA K hr.units)) (AO BT BU) (Af K (qv K 0) (A7 K)) (Av K))
      (AC K (AZ K (Af K (qv K 0) (A7 K))))
      (An K))
    (A6 K (B6 K (Am K ((Bu).or (BA K hr.units)) (AO BT BU) (Af K (qv K 0) (A7 K)) (Av K))
      (AC K (AZ K (AW K DM DK (Af K (qv K 0) (A7 K)) (Fh K Jl O9 B.int L2.bt_int (A2 K (FI K Fj Fd (qv K 1) (Af K (qv K 0) (A7 K))) (A5 K))))))
      (An K))
    (A6 K (B6 K (Am K ((Bu).or (BA K hr.units)) (AO BT BU) (Af K (qv K 0) (A7 K)) (Av K))
      (AC K (AZ K (AW K DM DK (Af K (qv K 0) (A7 K)) (Fh K Jl O9 B.int L2.bt_int (A2 K (FI K ((Bu).or (BA K hr.units)) (AO BT BU) (qv K 1) (AW K ((B4).or (Ap K)) (AO B3 Ax) (Af K (qv K 0) (A7 K)) (A7 K))) (A5 K))))))
      (An K))
    (A6 K (AS K (i:=2) sc_rise.nd rfl (by first|exact Or.inl rfl|exact Or.inr rfl) (A7 K))
    (A6 K (Br K rfl (C2 K (Af K (qv K 0) (A7 K))) (Cp K (n:=2) rfl (Aj K (AM K (i:=3) sc_rise.nd rfl (by first|exact Or.inl rfl|exact Or.inr rfl)) (Aj K (AM K (i:=4) sc_rise.nd rfl (by first|exact Or.inl rfl|exact Or.inr rfl)) (CP K))))
      (A6 K (B6 K (Am K ((Bu).or (BA K hr.units)) (AO BT BU) (qv K 3) (qv K 1))
      (AC K (AZ K (AW K Ds Dq (qv K 4) (qv K 2))))
      (An K))
    (AC K (AS K (i:=2) sc_rise.nd rfl (by first|exact Or.inl rfl|exact Or.inr rfl) (qv K 4)))))
    (AC K (AZ K (A7 K)))))))))⟩
theorem ok_at{f_at f_begin f_rise:Addr}{d_at d_begin d_rise:FuncData}(DA:DefAt K mg "_law_at" GG f_at d_at ["_law_cost_here","_law_t"])(D_begin:DefAt K mg "_law_begin" Df f_begin d_begin ["_law_cost_here"])(G_begin:FnOk P w K mg base CX0 1 f_begin d_begin ["_law_cost_here"] (spF K 1 FV))(D_rise:DefAt K mg "_law_rise" EG f_rise d_rise ["_law_cost_here","_law_t"])(G_rise:FnOk P w K mg base CX0 1 f_rise d_rise ["_law_cost_here","_law_t"] (spF K 2 Ep))(B:BltA mg):FnOk P w K mg base CX0 2 f_at d_at ["_law_cost_here","_law_t"] (spF K 2 La):=by
  refine BB (N:=["_law_cost_here","_law_t","_law_begin_here"]) (m:=V6) DA sc_at λ cdv A outer s H E hr=>?_
  exact⟨_,(A6 K (AS K (i:=2) sc_at.nd rfl (by first|exact Or.inl rfl|exact Or.inr rfl) (AI K 0 G_begin hr D_begin (A2 K (qv K 0) (A5 K)) AR))
    (A6 K (B6 K (Am K Fj Fd (qv K 1) (qv K 2))
      (AC K (AZ K (IH K ((Jj K rfl).or (Ii K rfl)) O7 B.sum L2.bt_sum (Bn K (loc:=["_law_k"]) (fr:=["_law_cost_here"]) (ix:=[0]) rfl ⟨rfl,by decide +kernel,rfl,rfl,rfl,by decide +kernel⟩ (Iy K B.range (A2 K (AW K ((B4).or (Ap K)) (AO B3 Ax) (qv K 2) (A7 K)) (A2 K (AW K ((B4).or (Ap K)) (AO B3 Ax) (qv K 1) (A7 K)) (A5 K)))) (λ _ _ _=>(AM K (i:=0) (show(["_law_k","_law_cost_here"]:List Str).Nodup from by decide +kernel) rfl (by first|exact Or.inl rfl|exact Or.inr rfl))) (λ _ _ _=>(CQ K)) (λ _ _ _=>(AI K 0 G_rise hr D_rise (A2 K (qv K 1) (A2 K (qv K 0) (A5 K))) AR))))))
      (An K))
    (AC K (AZ K (AW K Ds Dq (A7 K) (IH K ((Jj K rfl).or (Ii K rfl)) O7 B.sum L2.bt_sum (Bn K (loc:=["_law_k"]) (fr:=["_law_cost_here"]) (ix:=[0]) rfl ⟨rfl,by decide +kernel,rfl,rfl,rfl,by decide +kernel⟩ (Iy K B.range (A2 K (AW K ((B4).or (Ap K)) (AO B3 Ax) (qv K 1) (A7 K)) (A2 K (AW K ((B4).or (Ap K)) (AO B3 Ax) (qv K 2) (A7 K)) (A5 K)))) (λ _ _ _=>(AM K (i:=0) (show(["_law_k","_law_cost_here"]:List Str).Nodup from by decide +kernel) rfl (by first|exact Or.inl rfl|exact Or.inr rfl))) (λ _ _ _=>(CQ K)) (λ _ _ _=>(AI K 0 G_rise hr D_rise (A2 K (qv K 1) (A2 K (qv K 0) (A5 K))) AR)))))))))⟩
theorem ok_plan_right{f_plan_right f_ends_of f_by_ends f_is_order Fy:Addr}{d_plan_right d_ends_of d_by_ends d_is_order d_run:FuncData}(DA:DefAt K mg "_law_plan_right" Bi f_plan_right d_plan_right ["_law_works_here","_law_wishes_here","_law_plan_here"])(D_ends_of:DefAt K mg "ends_of" Bx f_ends_of d_ends_of ["works","plan"])(G_ends_of:FnOk P w K mg base CX0 1 f_ends_of d_ends_of ["works","plan"] (spF K 2 F_ends_of))(D_by_ends:DefAt K mg "by_ends" Bj f_by_ends d_by_ends ["works","plan"])(G_by_ends:FnOk P w K mg base CX0 4 f_by_ends d_by_ends ["works","plan"] (spF K 2 Cz))(D_is_order:DefAt K mg "is_order" CB f_is_order d_is_order ["works","wishes","thing"])(G_is_order:FnOk P w K mg base CX0 2 f_is_order d_is_order ["works","wishes","thing"] (spF K 3 Dy))(D_run:DefAt K mg "run" Et Fy d_run ["works","order"])(G_run:FnOk P w K mg base CX0 1 Fy d_run ["works","order"] (spF K 2 F_run))(B:BltA mg):FnOk P w K mg base CX0 5 f_plan_right d_plan_right ["_law_works_here","_law_wishes_here","_law_plan_here"] (spF K 3 Cy):=by
  refine BB (N:=["_law_works_here","_law_wishes_here","_law_plan_here","_law_last","_law_seq","_law_work","_law_start","_law_end","_law_ends","_law_order","_law_kept","_law_turn"]) (m:=GU) DA sc_plan_right λ cdv A outer s H E hr=>?_
  exact⟨_,(A6 K (AS K (i:=3) sc_plan_right.nd rfl (by first|exact Or.inl rfl|exact Or.inr rfl) (Sk K))
    (A6 K (AS K (i:=4) sc_plan_right.nd rfl (by first|exact Or.inl rfl|exact Or.inr rfl) (C4 K (Bl K (A5 K))))
    (A6 K (Br K rfl (C2 K (qv K 2)) (Cp K (n:=3) rfl (Aj K (AM K (i:=5) sc_plan_right.nd rfl (by first|exact Or.inl rfl|exact Or.inr rfl)) (Aj K (AM K (i:=6) sc_plan_right.nd rfl (by first|exact Or.inl rfl|exact Or.inr rfl)) (Aj K (AM K (i:=7) sc_plan_right.nd rfl (by first|exact Or.inl rfl|exact Or.inr rfl)) (CP K)))))
      (AC K (FH K (DF hr) (qv K 3) (qv K 5) (qv K 7))))
    (A6 K (Br K rfl (C2 K (Si (qv K 2) (OI K (A7 K)))) (Cp K (n:=3) rfl (Aj K (AM K (i:=5) sc_plan_right.nd rfl (by first|exact Or.inl rfl|exact Or.inr rfl)) (Aj K (AM K (i:=6) sc_plan_right.nd rfl (by first|exact Or.inl rfl|exact Or.inr rfl)) (Aj K (AM K (i:=7) sc_plan_right.nd rfl (by first|exact Or.inl rfl|exact Or.inr rfl)) (CP K)))))
      (AC K (B6 K (Am K (OT K) Vo (qv K 5) (qv K 4))
      (AC K (Dh K (ET K PySem.F.slot_list_append PySem.F.type_list_append CD CY (qv K 4) (A2 K (qv K 5) (A5 K)))))
      (An K))))
    (A6 K (AS K (i:=8) sc_plan_right.nd rfl (by first|exact Or.inl rfl|exact Or.inr rfl) (Fg K (BG K) Bq B.tuple L2.bt_tuple (Bn K (loc:=["_law_work"]) (fr:=["_law_last"]) (ix:=[3]) rfl ⟨rfl,by decide +kernel,rfl,rfl,rfl,by decide +kernel⟩ (CO K B.range (A2 K (BR K (Bz K) (DW rg_len) B.len L2.bt_len (A2 K (qv K 0) (A5 K))) (A5 K))) (λ _ _ _=>(AM K (i:=0) (show(["_law_work","_law_last"]:List Str).Nodup from by decide +kernel) rfl (by first|exact Or.inl rfl|exact Or.inr rfl))) (λ _ _ _=>(CQ K)) (λ _ _ _=>(Di K (DF hr) (qv K 1) (qv K 0))))))
    (A6 K (AS K (i:=9) sc_plan_right.nd rfl (by first|exact Or.inl rfl|exact Or.inr rfl) (Fg K (BG K) Bq B.tuple L2.bt_tuple (Sh (qv K 4) (OI K (A7 K)))))
    (A6 K (AS K (i:=10) sc_plan_right.nd rfl (by first|exact Or.inl rfl|exact Or.inr rfl) (BR K (BH K hr.gd hr.units) C7 B.repr L2.bt_repr (A2 K (C3 K (A2 K (qv K 0) (A2 K (qv K 2) (A5 K)))) (A5 K))))
    (A6 K (Br K rfl (CO K B.range (A2 K (A7 K) (A5 K))) (AM K (i:=11) sc_plan_right.nd rfl (by first|exact Or.inl rfl|exact Or.inr rfl))
      (A6 K (B6 K (QW.toT (IF K (Am K ((IK).or (Ea K hr.units)) (AO GI GJ) (BR K (BH K hr.gd hr.units) C7 B.repr L2.bt_repr (A2 K (AI K 0 G_ends_of hr D_ends_of (A2 K (qv K 0) (A2 K (qv K 2) (A5 K))) AR) (A5 K))) (BR K (BH K hr.gd hr.units) C7 B.repr L2.bt_repr (A2 K (qv K 8) (A5 K)))) (GL K (Am K ((IK).or (Ea K hr.units)) (AO GI GJ) (BR K (BH K hr.gd hr.units) C7 B.repr L2.bt_repr (A2 K (AI K 0 G_by_ends hr D_by_ends (A2 K (qv K 0) (A2 K (qv K 2) (A5 K))) AR) (A5 K))) (BR K (BH K hr.gd hr.units) C7 B.repr L2.bt_repr (A2 K (qv K 9) (A5 K)))))))
      (AC K (AZ K (EU K)))
      (An K))
    (AC K (B6 K (QW.toT (IF K (Sc K (AI K 0 G_is_order hr D_is_order (A2 K (qv K 0) (A2 K (qv K 1) (A2 K (AI K 0 G_by_ends hr D_by_ends (A2 K (qv K 0) (A2 K (qv K 2) (A5 K))) AR) (A5 K)))) AR)) (GL K (Am K ((IK).or (Ea K hr.units)) (AO GI GJ) (BR K (BH K hr.gd hr.units) C7 B.repr L2.bt_repr (A2 K (C3 K (A2 K (qv K 0) (A2 K (qv K 2) (A5 K)))) (A5 K))) (qv K 10)))))
      (AC K (AZ K (EU K)))
      (An K)))))
    (AC K (AZ K (FI K ((Bu).or (BA K hr.units)) (AO BT BU) (BR K (BH K hr.gd hr.units) C7 B.repr L2.bt_repr (A2 K (AI K 0 G_by_ends hr D_by_ends (A2 K (qv K 0) (A2 K (AI K 0 G_run hr D_run (A2 K (qv K 0) (A2 K (qv K 9) (A5 K))) AR) (A5 K))) AR) (A5 K))) (BR K (BH K hr.gd hr.units) C7 B.repr L2.bt_repr (A2 K (qv K 9) (A5 K))))))))))))))⟩
theorem ok_costs_right{f_costs_right f_costs_of f_at:Addr}{d_costs_right d_costs_of d_at:FuncData}(DA:DefAt K mg "_law_costs_right" Ba f_costs_right d_costs_right ["_law_works_here","_law_ends"])(D_costs_of:DefAt K mg "costs_of" CC f_costs_of d_costs_of ["works","ends"])(G_costs_of:FnOk P w K mg base CX0 3 f_costs_of d_costs_of ["works","ends"] (spF K 2 F_costs_of))(D_at:DefAt K mg "_law_at" GG f_at d_at ["_law_cost_here","_law_t"])(G_at:FnOk P w K mg base CX0 2 f_at d_at ["_law_cost_here","_law_t"] (spF K 2 La))(B:BltA mg):FnOk P w K mg base CX0 4 f_costs_right d_costs_right ["_law_works_here","_law_ends"] (spF K 2 C9):=by
  refine BB (N:=["_law_works_here","_law_ends","_law_kept","_law_due","_law_turn"]) (m:=G6) DA sc_costs_right λ cdv A outer s H E hr=>?_
  exact⟨_,(A6 K (AS K (i:=2) sc_costs_right.nd rfl (by first|exact Or.inl rfl|exact Or.inr rfl) (BR K (BH K hr.gd hr.units) C7 B.repr L2.bt_repr (A2 K (C3 K (A2 K (qv K 0) (A2 K (qv K 1) (A5 K)))) (A5 K))))
    (A6 K (AS K (i:=3) sc_costs_right.nd rfl (by first|exact Or.inl rfl|exact Or.inr rfl) (Fg K (BG K) Bq B.tuple L2.bt_tuple (Bn K (loc:=["_law_k"]) (fr:=["_law_works_here","_law_ends"]) (ix:=[0,1]) rfl ⟨rfl,by decide +kernel,rfl,rfl,rfl,by decide +kernel⟩ (CO K B.range (A2 K (BR K (Bz K) (DW rg_len) B.len L2.bt_len (A2 K (qv K 0) (A5 K))) (A5 K))) (λ _ _ _=>(AM K (i:=0) (show(["_law_k","_law_works_here","_law_ends"]:List Str).Nodup from by decide +kernel) rfl (by first|exact Or.inl rfl|exact Or.inr rfl))) (λ _ _ _=>(CQ K)) (λ _ _ _=>(AI K 0 G_at hr D_at (A2 K (Af K (Af K (qv K 1) (qv K 0)) (A7 K)) (A2 K (Af K (qv K 2) (qv K 0)) (A5 K))) AR)))))
    (A6 K (Br K rfl (CO K B.range (A2 K (A7 K) (A5 K))) (AM K (i:=4) sc_costs_right.nd rfl (by first|exact Or.inl rfl|exact Or.inr rfl))
      (AC K (B6 K (QW.toT (IF K (Am K ((IK).or (Ea K hr.units)) (AO GI GJ) (BR K (BH K hr.gd hr.units) C7 B.repr L2.bt_repr (A2 K (AI K 0 G_costs_of hr D_costs_of (A2 K (qv K 0) (A2 K (qv K 1) (A5 K))) AR) (A5 K))) (BR K (BH K hr.gd hr.units) C7 B.repr L2.bt_repr (A2 K (qv K 3) (A5 K)))) (GL K (Am K ((IK).or (Ea K hr.units)) (AO GI GJ) (BR K (BH K hr.gd hr.units) C7 B.repr L2.bt_repr (A2 K (C3 K (A2 K (qv K 0) (A2 K (qv K 1) (A5 K)))) (A5 K))) (qv K 2)))))
      (AC K (AZ K (EU K)))
      (An K))))
    (AC K (AZ K (EU K))))))⟩
theorem ok_law{f_law f_ends_of En BX E4 Dc f_plan f_plan_right f_costs_right:Addr}{d_law d_ends_of d_tape d_pick d_works d_wishes d_plan d_plan_right d_costs_right:FuncData}(DA:DefAt K mg "law" E8 f_law d_law ["_law_script"])(D_ends_of:DefAt K mg "ends_of" Bx f_ends_of d_ends_of ["works","plan"])(G_ends_of:FnOk P w K mg base CX0 1 f_ends_of d_ends_of ["works","plan"] (spF K 2 F_ends_of))(D_tape:DefAt K mg "_law_tape" EF En d_tape ["_law_script"])(G_tape:FnOk P w K mg base CX0 1 En d_tape ["_law_script"] (spF K 1 F_tape))(D_pick:DefAt K mg "_law_pick" Cd BX d_pick ["_law_tape_here","_law_many"])(G_pick:FnOk P w K mg base CX0 1 BX d_pick ["_law_tape_here","_law_many"] (spF K 2 F_pick))(D_works:DefAt K mg "_law_works" De E4 d_works ["_law_tape_here","_law_many","_law_alike"])(G_works:FnOk P w K mg base CX0 3 E4 d_works ["_law_tape_here","_law_many","_law_alike"] (spF K 3 F_works))(D_wishes:DefAt K mg "_law_wishes" Co Dc d_wishes ["_law_tape_here","_law_many"])(G_wishes:FnOk P w K mg base CX0 2 Dc d_wishes ["_law_tape_here","_law_many"] (spF K 2 F_wishes))(D_plan:DefAt K mg "_law_plan" EH f_plan d_plan ["_law_tape_here","_law_works_here","_law_wishes_here"])(G_plan:FnOk P w K mg base CX0 2 f_plan d_plan ["_law_tape_here","_law_works_here","_law_wishes_here"] (spF K 3 Gj))(D_plan_right:DefAt K mg "_law_plan_right" Bi f_plan_right d_plan_right ["_law_works_here","_law_wishes_here","_law_plan_here"])(G_plan_right:FnOk P w K mg base CX0 5 f_plan_right d_plan_right ["_law_works_here","_law_wishes_here","_law_plan_here"] (spF K 3 Cy))(D_costs_right:DefAt K mg "_law_costs_right" Ba f_costs_right d_costs_right ["_law_works_here","_law_ends"])(G_costs_right:FnOk P w K mg base CX0 4 f_costs_right d_costs_right ["_law_works_here","_law_ends"] (spF K 2 C9))(B:BltA mg):FnOk P w K mg base CX0 6 f_law d_law ["_law_script"] (spF K 1 F_law):=by
  refine BB (N:=["_law_script","_law_tape_here","_law_k","_law_many","_law_works_here","_law_wishes_here","_law_plan_here","_law_any_ends"]) (m:=Rk) DA sc_law λ cdv A outer s H E hr=>?_
  exact⟨_,(A6 K (AS K (i:=1) sc_law.nd rfl (by first|exact Or.inl rfl|exact Or.inr rfl) (Km K G_tape hr D_tape (A2 K (qv K 0) (A5 K)) AR))
    (A6 K (Br K rfl (CO K B.range (A2 K (A7 K) (A5 K))) (AM K (i:=2) sc_law.nd rfl (by first|exact Or.inl rfl|exact Or.inr rfl))
      (GN K (A6 K (AS K (i:=3) sc_law.nd rfl (by first|exact Or.inl rfl|exact Or.inr rfl) (AW K ((B4).or (Ap K)) (AO B3 Ax) (A7 K) (AI K 2 G_pick hr D_pick (A2 K (qv K 1) (A2 K (A7 K) (A5 K))) AR)))
    (A6 K (AS K (i:=4) sc_law.nd rfl (by first|exact Or.inl rfl|exact Or.inr rfl) (AI K 2 G_works hr D_works (A2 K (qv K 1) (A2 K (qv K 3) (A2 K (FI K ((Bu).or (BA K hr.units)) (AO BT BU) (qv K 2) (A7 K)) (A5 K)))) AR))
    (A6 K (AS K (i:=5) sc_law.nd rfl (by first|exact Or.inl rfl|exact Or.inr rfl) (AI K 2 G_wishes hr D_wishes (A2 K (qv K 1) (A2 K (qv K 3) (A5 K))) AR))
    (A6 K (AS K (i:=6) sc_law.nd rfl (by first|exact Or.inl rfl|exact Or.inr rfl) (AI K 2 G_plan hr D_plan (A2 K (qv K 1) (A2 K (qv K 4) (A2 K (qv K 5) (A5 K)))) AR))
    (A6 K (AS K (i:=7) sc_law.nd rfl (by first|exact Or.inl rfl|exact Or.inr rfl) (Fg K (BG K) Bq B.tuple L2.bt_tuple (Bn K (loc:=["_law_work"]) (fr:=["_law_tape_here"]) (ix:=[1]) rfl ⟨rfl,by decide +kernel,rfl,rfl,rfl,by decide +kernel⟩ (C2 K (qv K 4)) (λ _ _ _=>(AM K (i:=0) (show(["_law_work","_law_tape_here"]:List Str).Nodup from by decide +kernel) rfl (by first|exact Or.inl rfl|exact Or.inr rfl))) (λ _ _ _=>(CQ K)) (λ _ _ _=>(AW K Ds Dq (AI K 2 G_pick hr D_pick (A2 K (qv K 1) (A2 K (A7 K) (A5 K))) AR) (A7 K))))))
    (A6 K (B6 K (GM K (DY K (AI K 0 G_plan_right hr D_plan_right (A2 K (qv K 4) (A2 K (qv K 5) (A2 K (qv K 6) (A5 K)))) AR)))
      (AC K (AZ K (EU K)))
      (An K))
    (AC K (B6 K (QW.toT (IF K (GM K (DY K (AI K 0 G_costs_right hr D_costs_right (A2 K (qv K 4) (A2 K (AI K 0 G_ends_of hr D_ends_of (A2 K (qv K 4) (A2 K (qv K 6) (A5 K))) AR) (A5 K))) AR))) (GL K (GM K (DY K (AI K 0 G_costs_right hr D_costs_right (A2 K (qv K 4) (A2 K (qv K 7) (A5 K))) AR))))))
      (AC K (AZ K (EU K)))
      (An K)))))))))))
    (AC K (AZ K (EU K)))))⟩
end
end T12
namespace Bd
open PySem L2
end Bd
namespace Rw
open PySem L2 Bd
theorem pairs_im(ps:List (Int × Int)):(ps.map OS).map D.im=ps.map B1:=by rw[List.map_map];rfl
end Rw
namespace L2
open PySem PySem.Spec PyProof.Rows
section
variable{hd:Hd}{QE:D->Hd->Prop}{d:D}
theorem Ru{p:PyData}(e:pyD hd d=some p)(ok:Ce p)(q:QE (.im (.str p.shown)) hd):WP (CG [d] hd) QE:=⟨_,_,by simp[CG,e,ok],q⟩
theorem Bp{i:I}(ok:Ce i.py)(q:QE (.im (.str i.py.shown)) hd):WP (CG [.im i] hd) QE:=Ru rfl ok q
end
end L2
namespace Pl
open PySem L2 Bd
noncomputable abbrev Pc:=Nat × Int × Int
noncomputable def last:List Pc->Nat->Int->Int
  | [],_,v=>v
  | p :: r,k,v=>last r k (if p.1=k then p.2.2 else v)
noncomputable def dn:List Pc->Nat->Int
  | [],_=>0
  | p :: r,k=>(if p.1=k then p.2.2 - p.2.1 else 0) + dn r k
theorem Jg:∀ (ps:List Pc) (es:List Int) (k:Nat),(EX es ps)[k]? = (es[k]?).map (last ps k)
  | [],es,k=>by
    show es[k]? = (es[k]?).map id
    rw[Option.map_id_fun];rfl
  | p :: r,es,k=>by
    rw[EX,Jg r,List.getElem?_set]
    by_cases h:p.1=k
    . subst h
      by_cases hk:p.1 < es.length
      . simp[hk,last]
      . simp[hk]
    . simp only[h,if_false,last]
theorem ends_map{n:Nat}(ps:List Pc):EX (List.replicate n 0) ps=(List.range n).map λ k=>last ps k 0:=by
  refine List.ext_getElem? λ i=>?_
  rw[Jg]
  by_cases hi:i < n
  . simp[hi]
  . simp[hi]
theorem last_no{k:Nat}{v:Int}:∀ {ps:List Pc},(∀ p ∈ ps,p.1 ≠ k)->last ps k v=v
  | [],_=>rfl
  | p :: r,h=>by
    rw[last,if_neg (h p List.mem_cons_self)]
    exact last_no λ q hq=>h q (List.mem_cons_of_mem _ hq)
theorem last_in{k:Nat}:∀ {ps:List Pc} {v:Int},(∃ p ∈ ps,p.1=k)->∃ p ∈ ps,p.1=k/\last ps k v=p.2.2
  | [],v,h=>by obtain⟨p,hp,_⟩:=h;cases hp
  | p :: r,v,h=>by
    rw[last]
    by_cases q:∃ p ∈ r,p.1=k
    . obtain⟨z,h1,h2,h3⟩:=last_in (v:=if p.1=k then p.2.2 else v) q
      exact⟨z,List.mem_cons_of_mem _ h1,h2,h3⟩
    . have hp:p.1=k:=by
        obtain⟨z,hz,e⟩:=h
        rcases List.mem_cons.mp hz with rfl|hz
        . exact e
        . exact absurd ⟨z,hz,e⟩ q
      refine⟨p,List.mem_cons_self,hp,?_⟩
      rw[if_pos hp]
      exact last_no λ z hz e=>q ⟨z,hz,e⟩
structure Ok(n:Nat)(c:Int)(ps:List Pc):Prop where
  ch:ps.Pairwise λ p q=>p.2.2 <= q.2.1
  ea:∀ p ∈ ps,p.1 < n/\c <= p.2.1/\p.2.1 < p.2.2
theorem Ok.tail{n:Nat}{c:Int}{p:Pc}{r:List Pc}(h:Ok n c (p :: r)):Ok n c r:=⟨(List.pairwise_cons.mp h.ch).2,λ q hq=>h.ea q (List.mem_cons_of_mem _ hq)⟩
theorem last_ge{n:Nat}{c:Int}{k:Nat}:∀ {ps:List Pc} {v:Int},Ok n c ps->∀ p ∈ ps,p.1=k->p.2.2 <= last ps k v
  | [],_,_,p,hp,_=>by cases hp
  | q :: r,v,O,p,hp,e=>by
    rw[last]
    rcases List.mem_cons.mp hp with rfl|hp
    . rw[if_pos e]
      by_cases z:∃ p ∈ r,p.1=k
      . obtain⟨y,h1,h2,h3⟩:=last_in (v:=p.2.2) z
        rw[h3]
        have a:=(List.pairwise_cons.mp O.ch).1 y h1
        have b:=(O.ea y (List.mem_cons_of_mem _ h1)).2.2
        omega
      . rw[last_no λ y hy e=>z ⟨y,hy,e⟩]
        exact Int.le_refl _
    . exact last_ge O.tail p hp e
theorem tri{n:Nat}{c:Int}:∀ {ps:List Pc},Ok n c ps->∀ p ∈ ps,∀ q ∈ ps,p=q ∨ p.2.2 <= q.2.1 ∨ q.2.2 <= p.2.1
  | [],_,p,hp,_,_=>by cases hp
  | y :: r,O,p,hp,q,hq=>by
    have h:=(List.pairwise_cons.mp O.ch).1
    rcases List.mem_cons.mp hp with e1|h1
    . rcases List.mem_cons.mp hq with e2|h2
      . exact .inl (e1.trans e2.symm)
      . rw[e1];exact .inr (.inl (h q h2))
    . rcases List.mem_cons.mp hq with e2|h2
      . rw[e2];exact .inr (.inr (h p h1))
      . exact tri O.tail p h1 q h2
structure Full(n:Nat)(c:Int)(l:Nat->Int)(ps:List Pc):Prop where
  ok:Ok n c ps
  l1:∀ k,k < n->1 <= l k
  all:∀ k,k < n->dn ps k=l k
theorem Rm{k:Nat}:∀ {ps:List Pc},(∀ p ∈ ps,p.1 ≠ k)->dn ps k=0
  | [],_=>rfl
  | p :: r,h=>by
    rw[dn,if_neg (h p List.mem_cons_self),Rm λ q hq=>h q (List.mem_cons_of_mem _ hq)];rfl
section
variable{n:Nat}{c:Int}{l:Nat->Int}{ps:List Pc}
theorem Full.has(F:Full n c l ps){k:Nat}(hk:k < n):∃ p ∈ ps,p.1=k:=by
  refine Classical.byContradiction λ h=>?_
  have:=Rm (k:=k) (ps:=ps) λ p hp e=>h ⟨p,hp,e⟩
  have h1:=F.all k hk
  have h2:=F.l1 k hk
  omega
noncomputable abbrev E(ps:List Pc)(k:Nat):Int:=last ps k 0
theorem Full.inj(F:Full n c l ps){j k:Nat}(hj:j < n)(hk:k < n)(e:E ps j=E ps k):j=k:=by
  obtain⟨p,p1,p2,p3⟩:=last_in (v:=0) (F.has hj)
  obtain⟨q,q1,q2,q3⟩:=last_in (v:=0) (F.has hk)
  have a:=(F.ok.ea p p1).2.2
  have b:=(F.ok.ea q q1).2.2
  rcases tri F.ok p p1 q q1 with h|h|h
  . rw[<- p2,<- q2,h]
  . simp only[E]at e;omega
  . simp only[E]at e;omega
theorem sum_ite(a:Nat)(x:Int):∀ {S:List Nat},S.Nodup->(S.map λ j=>if a=j then x else 0).sum=if a ∈ S then x else 0
  | [],_=>by simp
  | y :: r,nd=>by
    obtain⟨h1,h2⟩:=List.nodup_cons.mp nd
    rw[List.map_cons,List.sum_cons,sum_ite a x h2]
    by_cases e:a=y
    . subst e;simp[h1]
    . simp[e]
theorem sum_add(f g:Nat->Int):∀ S:List Nat,(S.map λ j=>f j + g j).sum=(S.map f).sum + (S.map g).sum
  | []=>by simp
  | y :: r=>by simp only[List.map_cons,List.sum_cons,sum_add f g r];omega
end
end Pl
namespace T12
open PySem L2 Bd
theorem BX:F_pick=Bd.F_pick:=rfl
theorem En:F_tape=Bd.F_tape:=rfl
theorem Dc:F_wishes=Bd.F_wishes:=rfl
theorem E4:F_works=Bd.F_works:=rfl
theorem Fy:F_run=Bd.F_run:=rfl
theorem VH:F_ends_of=Bd.F_ends_of:=rfl
theorem Tf:F_costs_of=Bd.F_costs_of:=rfl
noncomputable def T(_:Nat)(a b:MO):Prop:=∃ τ:Tp,tp τ=[a,b]
theorem tap:Tap T F_pick where
  cl:=by
    rintro k a b ⟨τ,e⟩
    have:=Hu τ
    rw[e]at this
    simpa using this
  le:=λ h _=>h
  pick:=by
    rintro k a b many ⟨τ,e⟩ h0 h1
    obtain⟨r,τ',d⟩:=draw τ many h0 h1
    refine⟨r,.lst (τ'.cells.map λ i=>.im (.int i)),.dic (BP τ'),d.lo,d.hi,?_,τ',rfl⟩
    rw[<- e,BX]
    exact d.eq
noncomputable abbrev wI(ps:List (Int × Int)):I:=.tup (ps.map OS)
theorem PQ{neg:Bool}{ml:MA}{ls:Ls}{hd:Hd}{QE:D->Hd->Prop}(h:WA ml ls hd λ ds x=>∃ ns:List Int,ds=intD ns/\QE (.im (.bl (if neg then !decide (ns=[])else decide (ns=[])))) x):WE (EW neg ml (BE A4)) ls hd QE:=by
  obtain⟨ds,x,e,ns,rfl,q⟩:=h
  refine⟨_,x,?_,q⟩
  unfold EW
  rw[e]
  simp[Cc,Cq,I.pys,E6]
theorem DU{neg:Bool}{ma:ME}{ls:Ls}{hd:Hd}{QE:D->Hd->Prop}(h:WE ma ls hd λ d x=>∃ ns:List Int,pyD x d=some (.list (ns.map PyData.int))/\QE (.im (.bl (if neg then !decide (ns=[])else decide (ns=[])))) x):WE (DD neg ma (BE A4)) ls hd QE:=by
  obtain⟨d,x,e,ns,e2,q⟩:=h
  refine⟨_,x,?_,q⟩
  unfold DD
  rw[e]
  simp[e2,I.pys,E6]
theorem Gu(ks:List Nat):(ks.map λ k:Nat=>I.int (k:Int)).map D.im=Ah ks:=by simp[Ah]
theorem MH(ks:List Nat):Ao (Ah ks)=.im (Cl ks):=by rw[<- Gu,Cr]
theorem E1(L:List Nat):Ah L=intD (L.map λ k:Nat=>(k:Int)):=by simp[Ah,intD]
theorem Wn(p:Nat->Prop)[DecidablePred p](L:List Nat):(L.filterMap λ a=>if p a then some (D.im (.int (a:Int)))else none)=Ah (L.filter λ a=>decide (p a)):=by
  induction L with
  | nil=>rfl
  | cons x r ih=>
    rw[List.filterMap_cons,List.filter_cons]
    by_cases h:p x
    . simp[h,ih,Ah]
    . simp[h,ih,Ah]
theorem Md(w:Nat)(ks:List Nat):BF w (Ah ks)=true:=by rw[E1];exact Cw w _
theorem HD(n:Nat)(ds:List D):clO n (.lst ds)=BF n ds:=rfl
theorem Gc{α:Type}(n:Nat)(f:α->I)(l:List α):BF n (l.map λ x=>D.im (f x))=true:=by induction l <;> simp_all
theorem Sm{hd:Hd}{k:Nat}{ns:List Int}(e:hd[k]? = some (.lst (intD ns))):pyD hd (.mu k)=some (.list (ns.map PyData.int)):=by
  show(match hd[k]? with|some (.lst ds)=>(Be ds).map λ is=>PyData.list (I.pys is)|_=>none)=_
  rw[e]
  show(Be (ns.map λ i=>D.im (.int i))).map _=_
  rw[Cc,Option.map_some,Cq]
structure Wsh(n:Nat)(ps:List (Int × Int)):Prop where
  len:ps.length <= 16
  al:∃ seq:List Nat,seq.Perm (List.range n)/\Along seq ps
theorem Wsh.nats{n:Nat}{ps:List (Int × Int)}(h:Wsh n ps):∀ p ∈ ps,∃ a b:Nat,p=((a:Int),(b:Int))/\a < n/\b < n:=λ p hp=>by
  obtain⟨seq,pm,al⟩:=h.al
  obtain⟨i,j,a,b,_,e1,e2,e⟩:=al p hp
  exact⟨a,b,e,by simpa using pm.mem_iff.mp (List.mem_of_getElem? e1),by simpa using pm.mem_iff.mp (List.mem_of_getElem? e2)⟩
theorem PN{n:Nat}(hn:n <= 8):∀ a b,T 0 a b->WF F_wishes [.mu 1,.im (.int (n:Int))] [a,b] λ d x=>∃ i a' b' g,d=.im i/\(∃ ps,i=wI ps/\Wsh n ps)/\T 0 a' b'/\x=a' :: b' :: g:=by
  rintro a b ⟨τ,e⟩
  obtain⟨seq,ps,τ',g,pm,al,l,_,q⟩:=Lb τ n hn
  rw[Dc,<- e]
  exact WP.eq q ⟨_,_,_,g,rfl,⟨ps,rfl,l,seq,pm,al⟩,⟨τ',rfl⟩,rfl⟩
theorem Rx{n:Nat}(hn:n <= 8)(al:Bool):∀ a b,T 0 a b->WF F_works [.mu 1,.im (.int (n:Int)),.im (.bl al)] [a,b] λ d x=>∃ i a' b' g,d=.im i/\(∃ ws,i=AU ws/\ws.length=n/\∀ w ∈ ws,w.ok)/\T 0 a' b'/\x=a' :: b' :: g:=by
  rintro a b ⟨τ,e⟩
  obtain⟨ws,τ',⟨l,ok,_⟩,q⟩:=Mk τ (n:Int) al (by omega) (by omega)
  obtain⟨g,q⟩:=q.eq
  rw[E4,<- e]
  exact WP.eq q ⟨_,_,_,g,rfl,⟨ws,rfl,by simpa using l,ok⟩,⟨τ',rfl⟩,rfl⟩
noncomputable def lf(left:List Int)(k:Nat):Int:=left[k]?.getD 0
theorem K4{left:List Int}{k:Nat}(hk:k < left.length):atI (intD left) (k:Int)=some (.im (.int (lf left k))):=Gi rfl (by simp[intD,lf,hk])
noncomputable def fi(W:List (Int × Int))(k:Nat):List Int:=W.filterMap λ p=>if p.2=(k:Int)then some p.1 else none
noncomputable def Fo(W:List (Int × Int))(left:List Int)(k:Nat):Bool:=decide (0 < lf left k) && decide (((fi W k).filter λ a=>decide (0 < lf left a.toNat))=[])
theorem fi_mem{W:List (Int × Int)}{k:Nat}{a:Int}:a ∈ fi W k ↔ (a,(k:Int)) ∈ W:=by
  unfold fi
  rw[List.mem_filterMap]
  constructor
  . rintro⟨p,hp,e⟩
    split at e
    . next c=>cases e;rw[<- c];exact hp
    . cases e
  . intro h
    exact⟨_,h,if_pos rfl⟩
theorem may_iff{W:List (Int × Int)}{left:List Int}{k:Nat}:Fo W left k=true ↔ 0 < lf left k/\∀ a:Int,(a,(k:Int)) ∈ W->lf left a.toNat <= 0:=by
  unfold Fo
  rw[Bool.and_eq_true,decide_eq_true_eq,decide_eq_true_eq,List.filter_eq_nil_iff]
  refine and_congr_right λ _=>⟨λ h a ha=>?_,λ h a ha=>?_⟩
  . have:=h a (fi_mem.mpr ha)
    simp at this;omega
  . have:=h a (fi_mem.mp ha)
    simp;omega
theorem WB(p:Int->Prop)[DecidablePred p](L:List Int):(L.filterMap λ a=>if p a then some (D.im (.int a))else none)=intD (L.filter λ a=>decide (p a)):=by
  induction L with
  | nil=>rfl
  | cons x r ih=>
    rw[List.filterMap_cons,List.filter_cons]
    by_cases h:p x
    . simp[h,ih,intD]
    . simp[h,ih,intD]
theorem W2{ws:List Wk}{W:List (Int × Int)}{left:List Int}{k:Nat}{hd:Hd}(hW:Wsh left.length W)(hk:k < left.length)(e:hd[2]? = some (.lst (intD left))) :
    WF Il [.im (AU ws),.im (wI W),.mu 2,.im (.int (k:Int))] hd λ d x=>d=.im (.bl (Fo W left k))/\∃ g,x=hd ++ g:=by
  have hl:=hW.len
  unfold Il
  refine Dl rfl ?_
  refine AH (Ay (FG (CM (FW (A3 rfl ⟨_,rfl,?_⟩)))))
  rw[Rw.pairs_im]
  refine⟨BC (by simp;omega),?_⟩
  refine DJ (λ p:Int × Int=>B1 p) (λ p=>if p.2=(k:Int)then some (.im (.int p.1))else none) (λ _ ls=>∃ x1 x2,ls=[some x1,some x2,some (.im (.int (k:Int)))]) _ (AV _) ?_ ?_
  . rintro p hp ls hls
    refine⟨[some (.im (.int p.1)),some (.im (.int p.2)),some (.im (.int (k:Int)))],by rcases hls with rfl|⟨_,x,y,rfl⟩ <;> rfl,⟨_,_,rfl⟩,AN (AB (A3 rfl (A3 rfl (Hq ⟨_,rfl,rfl,?_⟩))))⟩
    by_cases h:p.2=(k:Int)
    . rw[if_pos (by simpa using h)]
      exact⟨_,if_pos h,A3 rfl ⟨rfl,rfl⟩⟩
    . rw[if_neg (by simpa using h)]
      exact if_neg h
  have e1:(W.filterMap λ p=>if p.2=(k:Int)then some (D.im (.int p.1))else none)=intD (fi W k):=by
    unfold fi intD
    rw[List.map_filterMap]
    congr 1
    funext p
    split <;> rfl
  rw[e1]
  refine AE ?_
  change WS _ [some (.im (AU ws)),some (.im (wI W)),some (.mu 2),some (.im (.int (k:Int))),some (.mu hd.length)] (hd ++ [.lst (intD (fi W k))]) _
  have h2:2 < hd.length:=(List.getElem?_eq_some_iff.mp e).1
  obtain⟨H,hH⟩:∃ H,H=hd ++ [MO.lst (intD (fi W k))]:=⟨_,rfl⟩
  rw[<- hH]
  have e2:H[2]? = some (.lst (intD left)):=by rw[hH,List.getElem?_append_left h2];exact e
  have e3:H[hd.length]? = some (.lst (intD (fi W k))):=by rw[hH,List.getElem?_append_right (Nat.le_refl _),Nat.sub_self];rfl
  have fl:(fi W k).length <= 16:=Nat.le_trans (List.length_filterMap_le _ _) hl
  refine BN (Lo (AN (AB (AB (A3 rfl (A3 rfl (Ab (ds:=intD left) (by simp[BI,e2]) (K4 hk) (AL (Ho ⟨_,rfl,?_⟩)))))))))
  by_cases c:0 < lf left k
  . rw[if_pos (by simpa using c)]
    refine PQ (CM (PP (A3 rfl ⟨hd.length,intD (fi W k),rfl,e3,BC (by simp[intD];omega),?_⟩)))
    refine DJ (λ a:Int=>D.im (.int a)) (λ a=>if 0 < lf left a.toNat then some (.im (.int a))else none) (λ _ ls=>∃ x,ls=[some x,some (.mu 2)]) _ (by intro q hq;rw[List.mem_singleton]at hq;subst hq;exact e3) ?_ ?_
    . rintro a ha ls hls
      obtain⟨a,b,ep,h1,_⟩:=hW.nats _ (fi_mem.mp ha)
      obtain⟨rfl,_⟩:=Prod.mk.inj ep
      refine⟨[some (.im (.int (a:Int))),some (.mu 2)],by rcases hls with rfl|⟨_,x,rfl⟩ <;> rfl,⟨_,rfl⟩,AN (AB (AB (A3 rfl (A3 rfl (Ab (ds:=intD left) (by simp[BI,e2]) (K4 h1) (AL (Ho ⟨_,rfl,rfl,?_⟩)))))))⟩
      by_cases h:0 < lf left a
      . rw[if_pos (by simpa using h)]
        exact⟨_,if_pos (by simpa using h),A3 rfl ⟨rfl,rfl⟩⟩
      . rw[if_neg (by simpa using h)]
        exact if_neg (by simpa using h)
    . rw[WB λ a=>0 < lf left a.toNat]
      refine⟨_,rfl,?_,_,hH⟩
      simp[Fo,c]
  . rw[if_neg (by simpa using c)]
    exact⟨by simp[Fo,c],_,hH⟩
noncomputable abbrev pcD(P:List Pl.Pc):List D:=P.map λ p=>.im (Ak p)
theorem V4(P:List Pl.Pc):Ao (pcD P)=.im (.tup (P.map Ak)):=by
  have:pcD P=(P.map Ak).map D.im:=by simp[pcD]
  rw[this,Cr]
theorem Io{ws:List Wk}{k:Nat}(hk:k < ws.length):atI ((ws.map Az).map D.im) (k:Int)=some (.im (Az ws[k])):=Gi rfl (by simp[hk])
noncomputable def ln(ws:List Wk)(k:Nat):Int:=((ws[k]?).map Wk.len).getD 0
theorem NO{ws:List Wk}{k:Nat}(hk:k < ws.length):(ws[k]).len=ln ws k:=by simp[ln,hk]
structure Ew(ws:List Wk):Prop where
  n1:1 <= ws.length
  n8:ws.length <= 8
  ok:∀ w ∈ ws,w.ok
noncomputable def cm(ws:List Wk)(k:Nat):Int:=((ws[k]?).map Wk.com).getD 0
theorem K8{ws:List Wk}{k:Nat}(hk:k < ws.length):(ws[k]).com=cm ws k:=by simp[cm,hk]
section
variable{ws:List Wk}{W:List (Int × Int)}
theorem Ew.l1(E:Ew ws){k:Nat}(hk:k < ws.length):1 <= ln ws k:=by
  rw[<- NO hk];exact(E.ok _ (List.getElem_mem hk)).l1
theorem Ew.l2(E:Ew ws){k:Nat}(hk:k < ws.length):ln ws k <= 20:=by
  rw[<- NO hk];exact(E.ok _ (List.getElem_mem hk)).l2
theorem FN{left:List Int}{k j:Nat}{v:Int}(hk:k < left.length):lf (left.set k v) j=if j=k then v else lf left j:=by
  unfold lf
  rw[List.getElem?_set]
  by_cases h:k=j
  . subst h;simp[hk]
  . have:¬ j=k:=λ z=>h z.symm
    simp[h,this]
theorem MY(q:Pl.Pc)(j:Nat):∀ P:List Pl.Pc,Pl.dn (P ++ [q]) j=Pl.dn P j + (if q.1=j then q.2.2 - q.2.1 else 0)
  | []=>by simp[Pl.dn]
  | p :: r=>by rw[List.cons_append,Pl.dn,Pl.dn,MY q j r];omega
noncomputable def cnt(n:Nat)(left:List Int):Int:=((List.range n).map λ k=>if 0 < lf left k then(1:Int)else 0).sum
theorem Dp{f g:Nat->Int}:∀ {S:List Nat},(∀ j ∈ S,f j <= g j)->(S.map f).sum <= (S.map g).sum
  | [],_=>by simp
  | x :: r,h=>by
    have:=Dp (S:=r) λ j hj=>h j (List.mem_cons_of_mem _ hj)
    have:=h x List.mem_cons_self
    simp only[List.map_cons,List.sum_cons];omega
theorem Ir{n k:Nat}(hk:k < n):((List.range n).map λ j=>if k=j then(1:Int)else 0).sum=1:=by
  rw[Pl.sum_ite k 1 List.nodup_range,if_pos (by simpa using hk)]
theorem Mc{n:Nat}{left:List Int}{k:Nat}(hk:k < n)(h:0 < lf left k):1 <= cnt n left:=by
  rw[<- Ir hk]
  refine Dp λ j _=>?_
  by_cases e:k=j
  . subst e;simp[h]
  . rw[if_neg e];split <;> omega
theorem VP{n:Nat}(left:List Int):cnt n left <= n:=by
  have:=Dp (f:=λ k=>if 0 < lf left k then(1:Int)else 0) (g:=λ _=>1) (S:=List.range n) λ j _=>by split <;> omega
  have e:((List.range n).map λ _=>(1:Int)).sum=n:=by
    rw[List.map_const',List.length_range]
    induction n with
    | zero=>rfl
    | succ m ih=>simp[List.replicate_succ];omega
  rw[e]at this
  exact this
theorem RJ{n:Nat}{left:List Int}{k:Nat}{v:Int}(hk:k < left.length)(h:v <= lf left k):cnt n (left.set k v) <= cnt n left:=by
  refine Dp λ j _=>?_
  rw[FN hk]
  by_cases e:j=k
  . subst e;rw[if_pos rfl];split <;> split <;> omega
  . rw[if_neg e];exact Int.le_refl _
theorem Tm{n:Nat}{left:List Int}{k:Nat}(hn:k < n)(hk:k < left.length)(h:0 < lf left k):cnt n (left.set k 0) + 1 <= cnt n left:=by
  rw[<- Ir hn]
  unfold cnt
  rw[<- Pl.sum_add]
  refine Dp λ j _=>?_
  rw[FN hk]
  by_cases e:j=k
  . subst e;simp[h]
  . have:¬ k=j:=λ z=>e z.symm
    rw[if_neg e,if_neg this];omega
structure Pst(ws:List Wk)(W:List (Int × Int))(left:List Int)(P:List Pl.Pc)(now:Int):Prop where
  ll:left.length=ws.length
  lv:∀ k,k < ws.length->lf left k=ln ws k - Pl.dn P k
  l0:∀ k,k < ws.length->0 <= lf left k
  ok:Pl.Ok ws.length 0 P
  n0:0 <= now
  le:∀ p ∈ P,p.2.2 <= now
  wi:∀ a b:Nat,((a:Int),(b:Int)) ∈ W->∀ p ∈ P,p.1=b->lf left a=0/\∀ q ∈ P,q.1=a->q.2.2 <= p.2.1
theorem Pst.later{left:List Int}{P:List Pl.Pc}{now now':Int}(S:Pst ws W left P now)(h:now <= now'):Pst ws W left P now':=
  ⟨S.ll,S.lv,S.l0,S.ok,Int.le_trans S.n0 h,λ p hp=>Int.le_trans (S.le p hp) h,S.wi⟩
theorem Pst.step{left:List Int}{P:List Pl.Pc}{now:Int}(S:Pst ws W left P now)(hW:Wsh ws.length W){k:Nat}{days:Int}(hk:k < ws.length)(h1:1 <= days)(h2:days <= lf left k)(hm:∀ a:Int,(a,(k:Int)) ∈ W->lf left a.toNat <= 0) :
    Pst ws W (left.set k (lf left k - days)) (P ++ [(k,now,now + days)]) (now + days):=by
  have hl:k < left.length:=by rw[S.ll];exact hk
  refine⟨by rw[List.length_set];exact S.ll,λ j hj=>?_,λ j hj=>?_,⟨?_,λ p hp=>?_⟩,by have:=S.n0;omega,λ p hp=>?_,λ a b hab p hp e=>?_⟩
  . rw[FN hl,MY]
    have:=S.lv j hj
    by_cases q:j=k
    . subst q;simp only[if_true];omega
    . have q2:¬ k=j:=λ z=>q z.symm
      simp only[q,q2,if_false];omega
  . rw[FN hl]
    split
    . omega
    . exact S.l0 j hj
  . rw[List.pairwise_append]
    refine⟨S.ok.ch,by simp,λ p hp q hq=>?_⟩
    rw[List.mem_singleton]at hq;subst hq
    exact S.le p hp
  . rcases List.mem_append.mp hp with h|h
    . exact S.ok.ea p h
    . rw[List.mem_singleton]at h;subst h
      exact⟨hk,S.n0,by show now < now + days;omega⟩
  . rcases List.mem_append.mp hp with h|h
    . have:=S.le p h;omega
    . rw[List.mem_singleton]at h;subst h;exact Int.le_refl _
  . obtain⟨a',b',ep,ha,hb⟩:=hW.nats _ hab
    have ak:lf left a=0->a ≠ k:=λ z q=>by rw[q]at z;omega
    rcases List.mem_append.mp hp with h|h
    . obtain⟨z1,z2⟩:=S.wi a b hab p h e
      have hne:=ak z1
      refine⟨by rw[FN hl,if_neg hne];exact z1,λ q hq eq=>?_⟩
      rcases List.mem_append.mp hq with g|g
      . exact z2 q g eq
      . rw[List.mem_singleton]at g;subst g;exact absurd eq.symm hne
    . rw[List.mem_singleton]at h;subst h
      have e:k=b:=e
      subst e
      have z0:=hm (a:Int) hab
      rw[Int.toNat_natCast]at z0
      have haw:a < ws.length:=by
        have:=(Prod.mk.inj ep).1
        omega
      have z1:lf left a=0:=Int.le_antisymm z0 (S.l0 a haw)
      have hne:=ak z1
      refine⟨by rw[FN hl,if_neg hne];exact z1,λ q hq eq=>?_⟩
      rcases List.mem_append.mp hq with g|g
      . exact S.le q g
      . rw[List.mem_singleton]at g;subst g;exact absurd eq.symm hne
theorem Kt:∀ {seq L:List Nat},(∀ x ∈ L,x ∈ seq)->L ≠ []->∃ (x j:Nat),x ∈ L/\seq[j]? = some x/\∀ (y i:Nat),y ∈ L->seq[i]? = some y->j <= i
  | [],L,hs,hne=>by
    obtain⟨x,hx⟩:=List.exists_mem_of_ne_nil L hne
    simpa using hs x hx
  | s :: r,L,hs,hne=>by
    by_cases h:s ∈ L
    . exact⟨s,0,h,rfl,λ y i _ _=>by omega⟩
    . have hs':∀ x ∈ L,x ∈ r:=λ x hx=>by
        rcases List.mem_cons.mp (hs x hx)with rfl|q
        . exact absurd hx h
        . exact q
      obtain⟨x,j,hx,e,m⟩:=Kt hs' hne
      refine⟨x,j + 1,hx,by simpa using e,λ y i hy he=>?_⟩
      cases i with
      | zero=>simp at he;subst he;exact absurd hy h
      | succ i=>have:=m y i hy (by simpa using he);omega
theorem Ps{n:Nat}(hW:Wsh n W){left:List Int}{k:Nat}(hk:k < n)(h:0 < lf left k):∃ x,x < n/\Fo W left x=true:=by
  obtain⟨seq,pm,al⟩:=hW.al
  have nd:seq.Nodup:=pm.nodup_iff.mpr List.nodup_range
  obtain⟨x,j,hx,ex,mx⟩:=Kt (seq:=seq) (L:=(List.range n).filter λ k=>decide (0 < lf left k)) (λ x hx=>pm.mem_iff.mpr (List.mem_filter.mp hx).1) (List.ne_nil_of_mem (List.mem_filter.mpr ⟨by simpa using hk,by simpa using h⟩))
  obtain⟨h1,h2⟩:=List.mem_filter.mp hx
  refine⟨x,by simpa using h1,may_iff.mpr ⟨by simpa using h2,λ a ha=>?_⟩⟩
  obtain⟨i',j',a',b',hij,ea,eb,e⟩:=al _ ha
  obtain⟨e1,e2⟩:=Prod.mk.inj e
  have e2:x=b':=by omega
  subst e2 e1
  rw[Int.toNat_natCast]
  refine Classical.byContradiction λ q=>?_
  have g:=mx a' i' (List.mem_filter.mpr ⟨by simpa using pm.mem_iff.mp (List.mem_of_getElem? ea),by simp;omega⟩) ea
  have l1:=(List.getElem?_eq_some_iff.mp ex).1
  have:j=j':=(List.getElem?_inj l1 nd).mp (by rw[ex,eb])
  omega
theorem U2{n:Nat}(hW:Wsh n W){left:List Int}(h:((List.range n).filter (Fo W left))=[]):cnt n left <= 0:=by
  have e:(List.range n).map (λ k=>if 0 < lf left k then(1:Int)else 0)=(List.range n).map λ _=>0:=by
    refine List.map_congr_left λ k hk=>?_
    refine if_neg λ q=>?_
    obtain⟨x,hx,hm⟩:=Ps hW (by simpa using hk) q
    exact List.filter_eq_nil_iff.mp h x (by simpa using hx) hm
  unfold cnt
  rw[e]
  have:∀ S:List Nat,(S.map λ _=>(0:Int)).sum=0:=λ S=>by induction S <;> simp_all
  rw[this];exact Int.le_refl _
end
theorem TR{ns:List Int}(h:ns ≠ []):NR (intD ns)=some (.im (.int (Fm ns))):=by unfold NR;rw[show BD (intD ns)=some ns from EO ns];simp[h]
theorem JD(ks:List Nat)(g:Nat->Int):(ks.filterMap λ k=>some (D.im (.int (g k))))=intD (ks.map g):=by simp[intD]
noncomputable abbrev GS(n:Nat)(W:List (Int × Int))(left:List Int)(j:Nat):List Nat:=(List.range j).filter (Fo W left)
inductive I_so(ws:List Wk)(W:List (Int × Int))(left:List Int)(H:Hd)(now gaps:Int)(r:List D)(ls:Ls)(hd:Hd):Prop
  | mk (j:Nat) (z7 z9 z10 z11:Option D) (h0:r=Ac (j:Int) (ws.length - j)) (h1:j <= ws.length) (h2:ls=[some (.mu 1),some (.im (AU ws)),some (.im (wI W)),some (.mu 2),some (.mu 3),some (.im (.int now)),some (.im (.int gaps)),z7,some (.mu 4),z9,z10,z11]) (h3:hd=H ++ [.lst (Ah (GS ws.length W left j))]):I_so ws W left H now gaps r ls hd
noncomputable def jl(ws:List Wk)(now:Int):Int:=((List.range ws.length).map λ k=>if now < cm ws k then(1:Int)else 0).sum
noncomputable def mu(ws:List Wk)(left:List Int)(P:List Pl.Pc)(now:Int):Int:=(if P.length < 30 then 30 - (P.length:Int)else 0) + cnt ws.length left + jl ws now
inductive I_pl(ws:List Wk)(W:List (Int × Int))(r:List D)(ls:Ls)(hd:Hd):Prop
  | mk (left:List Int) (P:List Pl.Pc) (now gaps:Int) (a b:MO) (z7 z8 z9 z10 z11:Option D)
      (h1:ls=[some (.mu 1),some (.im (AU ws)),some (.im (wI W)),some (.mu 2),some (.mu 3),some (.im (.int now)),some (.im (.int gaps)),z7,z8,z9,z10,z11]) (h2:hd=[a,b,.lst (intD left),.lst (pcD P)]) (h3:T 0 a b) (h4:Pst ws W left P now)
      (h5:cnt ws.length left <= 0 ∨ mu ws left P now <= r.length) (h6:P.length + r.length <= 60) (h7:now + 30 * (r.length:Int) <= 1860):I_pl ws W r ls hd
section
variable{ws:List Wk}{W:List (Int × Int)}
theorem Pr(E:Ew ws):Pst ws W (ws.map Wk.len) [] 0:=by
  refine⟨by simp,λ k hk=>?_,λ k hk=>?_,⟨.nil,(by intro p hp;cases hp)⟩,Int.le_refl _,(by intro p hp;cases hp),(by intro a b _ p hp;cases hp)⟩
  . simp[lf,ln,Pl.dn]
  . have:=E.l1 hk
    have e:lf (ws.map Wk.len) k=ln ws k:=by simp[lf,ln]
    omega
theorem N6{n j:Nat}{d:D}{r:List D}(h:d :: r=Ac (j:Int) (n - j)):j < n/\d=.im (.int (j:Int))/\r=Ac ((j + 1:Nat):Int) (n - (j + 1)):=by
  cases q:n - j with
  | zero=>rw[q]at h;cases h
  | succ m=>
    rw[q,Ac]at h
    obtain⟨h1,h2⟩:=List.cons.inj h
    have em:m=n - (j + 1):=by omega
    exact⟨by omega,h1,by rw[h2,em];rfl⟩
theorem OD{n j:Nat}(h:([]:List D)=Ac (j:Int) (n - j))(hj:j <= n):j=n:=by
  cases q:n - j with
  | zero=>omega
  | succ m=>rw[q,Ac]at h;cases h
theorem QL(left:List Int)(k:Nat)(v:Int):(intD left).set k (.im (.int v))=intD (left.set k v):=by simp[intD,List.map_set]
theorem W8(now:Int):jl ws now <= ws.length:=by
  have:=Dp (f:=λ k=>if now < cm ws k then(1:Int)else 0) (g:=λ _=>1) (S:=List.range ws.length) λ j _=>by split <;> omega
  have e:∀ n:Nat,((List.range n).map λ _=>(1:Int)).sum=n:=λ n=>by
    rw[List.map_const',List.length_range]
    induction n with
    | zero=>rfl
    | succ m ih=>simp[List.replicate_succ];omega
  rw[e]at this
  exact this
theorem W9(now:Int):0 <= jl ws now:=by
  have:=Dp (f:=λ _=>0) (g:=λ k=>if now < cm ws k then(1:Int)else 0) (S:=List.range ws.length) λ j _=>by split <;> omega
  have e:∀ S:List Nat,(S.map λ _=>(0:Int)).sum=0:=λ S=>by induction S <;> simp_all
  rw[e]at this;exact this
theorem TX{now now':Int}(h:now <= now'):jl ws now' <= jl ws now:=by
  refine Dp λ j _=>?_
  split <;> split <;> omega
theorem VD{now:Int}{k:Nat}(hk:k < ws.length)(h:now < cm ws k):jl ws (cm ws k) + 1 <= jl ws now:=by
  rw[<- Ir hk]
  unfold jl
  rw[<- Pl.sum_add]
  refine Dp λ j _=>?_
  by_cases e:k=j
  . subst e;simp[h]
  . rw[if_neg e];split <;> split <;> omega
theorem TK{left:List Int}{P:List Pl.Pc}{q:Pl.Pc}{now now' days:Int}{k:Nat}(hn:k < ws.length)(hl:k < left.length)(hnow:now <= now')(d1:1 <= days)(d2:days <= lf left k)(d3:P.length < 30 ∨ days=lf left k):mu ws (left.set k (lf left k - days)) (P ++ [q]) now' + 1 <= mu ws left P now:=by
  unfold mu
  rw[List.length_append,List.length_singleton]
  have hj:=TX (ws:=ws) hnow
  rcases d3 with h|h
  . have:=RJ (n:=ws.length) (v:=lf left k - days) hl (by omega)
    rw[if_pos h]
    split <;> omega
  . rw[h,Int.sub_self]
    have:=Tm hn hl (by omega)
    split <;> split <;> omega
theorem WJ{n:Nat}{left:List Int}(h:cnt n left <= 0){k:Nat}(hk:k < n):lf left k <= 0:=by
  refine Classical.byContradiction λ q=>?_
  have:=Mc hk (show 0 < lf left k by omega)
  omega
theorem Te{left:List Int}{P:List Pl.Pc}{now:Int}(E:Ew ws)(S:Pst ws W left P now)(h:cnt ws.length left <= 0):Pl.Full ws.length 0 (ln ws) P/\∀ a b:Nat,a < ws.length->((a:Int),(b:Int)) ∈ W->∀ p ∈ P,p.1=b->Pl.E P a <= p.2.1:=by
  have F:Pl.Full ws.length 0 (ln ws) P:=⟨S.ok,λ k hk=>E.l1 hk,λ k hk=>by
    have h1:=S.lv k hk
    have h2:=S.l0 k hk
    have h3:=WJ h hk
    omega⟩
  refine⟨F,λ a b ha hab p hp e=>?_⟩
  obtain⟨q,q1,q2,q3⟩:=Pl.last_in (v:=0) (F.has ha)
  have:=(S.wi a b hab p hp e).2 q q1 q2
  simp only[Pl.E];omega
set_option maxHeartbeats 2000000 in
theorem Uh(E:Ew ws)(hW:Wsh ws.length W):∀ a b,T 0 a b->WF Gj [.mu 1,.im (AU ws),.im (wI W)] [a,b] λ d x=>∃ i a' b' g,d=.im i/\(∃ P:List Pl.Pc,i=.tup (P.map Ak)/\P.length <= 60/\(∀ p ∈ P,p.2.2 <= 1860)/\Pl.Full ws.length 0 (ln ws) P/\∀ a b:Nat,((a:Int),(b:Int)) ∈ W->∀ p ∈ P,p.1=b->Pl.E P a <= p.2.1)/\T 0 a' b'/\x=a' :: b' :: g:=by
  intro a b hT
  have n8:=E.n8
  unfold Gj
  refine Dl rfl ?_
  refine AH (Ay (FG (CM (FW (A3 rfl ⟨_,rfl,BC (by simp;omega),?_⟩)))))
  rw[show(ws.map Az).map D.im=ws.map λ w=>D.im (Az w) by simp]
  refine DJ (λ w=>D.im (Az w)) (λ w:Wk=>some (.im (.int w.len))) (λ _ ls=>∃ x,ls=[some x]) _ (AV _) ?_ ?_
  . rintro w hw ls hls
    refine⟨[some (.im (Az w))],by rcases hls with rfl|⟨_,x,rfl⟩ <;> rfl,⟨_,rfl⟩,ED ⟨rfl,?_⟩⟩
    rw[if_pos rfl]
    exact⟨_,rfl,AB (A3 rfl (AL (Ab rfl (BY _ _) ⟨rfl,rfl⟩)))⟩
  have e0:(ws.filterMap λ w=>some (D.im (.int w.len)))=intD (ws.map Wk.len):=by simp[intD]
  rw[e0]
  refine AE (AH (Ay (FG (KF (AJ ⟨BC (by simp),AE ?_⟩)))))
  refine AH (Tt (FF (A9 (AL (A9 (AL (AJ ⟨FP,_,rfl,AE ?_⟩)))))))
  change WS _ [some (.mu 1),some (.im (AU ws)),some (.im (wI W)),some (.mu 2),some (.mu 3),some (.im (.int 0)),some (.im (.int 4)),none,none,none,none,none] [a,b,.lst (intD (ws.map Wk.len)),.lst (pcD [])] _
  refine AH (EE (HM (A9 (AL (AJ ⟨_,rfl,CN (by decide) (by decide),?_⟩)))))
  refine DI (I_pl ws W) ⟨ws.map Wk.len,[],0,4,a,b,none,none,none,none,none,rfl,rfl,hT,Pr E,?_,by simp,by simp⟩ ?_ ?_
  . right
    have:=VP (n:=ws.length) (ws.map Wk.len)
    have:=W8 (ws:=ws) 0
    have lr:((Ac 0 (Int.toNat 60)).length:Int)=60:=by simp
    rw[lr]
    unfold mu
    split <;> simp at * <;> omega
  . rintro t r ls hd ⟨left,P,now,gaps,a,b,z7,z8,z9,z10,z11,rfl,rfl,hT,S,hmu,hlen,hnow⟩
    refine⟨_,rfl,?_⟩
    dsimp only[List.set_cons_zero,List.set_cons_succ]
    simp only[List.length_cons]at hmu hlen hnow
    refine HL ?_
    refine AH (Ay (FG (KF (AJ ⟨BC (by simp),AE ?_⟩))))
    have ca:=tap.cl hT
    have ll:=S.ll
    have hWl:Wsh left.length W:=by rw[ll];exact hW
    refine AH (EE (HM (A9 (Bm (A9 (A3 rfl (AJ (Gk rfl rfl ?_))))))))
    have eln:(((ws.map Az).map D.im).length:Int)=(ws.length:Int):=by simp
    rw[eln]
    refine AJ ⟨_,rfl,CN (by omega) (by omega),?_⟩
    rw[Int.toNat_natCast]
    change WL _ _ _ _ [some (.mu 1),some (.im (AU ws)),some (.im (wI W)),some (.mu 2),some (.mu 3),some (.im (.int now)),some (.im (.int gaps)),some t,some (.mu 4),z9,z10,z11] [a,b,.lst (intD left),.lst (pcD P),.lst []] _
    refine DI (I_so ws W left [a,b,.lst (intD left),.lst (pcD P)] now gaps) ⟨0,some t,z9,z10,z11,rfl,by omega,rfl,rfl⟩ ?_ ?_
    . rintro d r' ls hd ⟨j,z7,z9,z10,z11,er,hj,rfl,rfl⟩
      obtain⟨hjn,rfl,rfl⟩:=N6 er
      refine⟨_,rfl,?_⟩
      dsimp only[List.set_cons_zero,List.set_cons_succ,List.cons_append,List.nil_append]
      refine HL (Ae (FD (KC (A9 (A3 rfl (A9 (A3 rfl (A9 (A3 rfl (A9 (A3 rfl (AJ ((W2 (ws:=ws) hWl (by omega:j < left.length) rfl).mono ?_)))))))))))))
      rintro d x ⟨rfl,g,rfl⟩
      have fl:(GS ws.length W left j).length <= j:=Nat.le_trans (List.length_filter_le _ _) (by simp)
      have c5a:=Dd (w:=5) (by omega) ca.1
      have c5b:=Dd (w:=5) (by omega) ca.2
      refine⟨_,rfl,λ hm=>?_,λ hm=>Al ?_⟩
      . refine Im (Ml (A3 rfl ⟨⟨_,rfl⟩,A9 (A3 rfl (AJ (KA rfl (CJ (by simp;omega)) ?_)))⟩))
        refine⟨?_,_,rfl,AV _,j + 1,_,_,_,_,rfl,by omega,rfl,?_⟩
        . simp[c5a,c5b,HD,Gc,Cw,Md,intD]
        . simp[GS,List.range_succ,hm]
      . refine⟨?_,_,rfl,AV _,j + 1,_,_,_,_,rfl,by omega,rfl,?_⟩
        . simp[c5a,c5b,HD,Gc,Cw,Md,intD]
        . simp[GS,List.range_succ,hm]
    . rintro ls hd ⟨j,z7,z9,z10,z11,er,hj,rfl,rfl⟩
      have:=OD er hj
      subst this
      clear er hj
      refine AE ?_
      have hL:∀ k ∈ GS ws.length W left ws.length,k < ws.length/\Fo W left k=true:=λ k hk=>by
        obtain⟨h1,h2⟩:=List.mem_filter.mp hk
        exact⟨by simpa using h1,h2⟩
      have hL0:GS ws.length W left ws.length=[]->cnt ws.length left <= 0:=U2 hW
      have fl:(GS ws.length W left ws.length).length <= ws.length:=Nat.le_trans (List.length_filter_le _ _) (by simp)
      generalize GS ws.length W left ws.length=L at hL hL0 fl
      dsimp only[List.cons_append,List.nil_append]
      have c4a:=Dd (w:=4) (by omega) ca.1
      have c4b:=Dd (w:=4) (by omega) ca.2
      have pyL:∀ {hd:Hd} {k:Nat} {M:List Nat},hd[k]? = some (.lst (Ah M))->pyD hd (.mu k)=some (.list ((M.map λ k:Nat=>(k:Int)).map PyData.int)):=λ {hd k M} e=>Sm (by rw[<- E1];exact e)
      refine AH (Ay (FG (CM (PP (A3 rfl ⟨4,Ah L,rfl,rfl,BC (by simp;omega),?_⟩)))))
      refine DJ (λ k:Nat=>D.im (.int (k:Int))) (λ k=>if cm ws k <= now then some (.im (.int (k:Int)))else none) (λ _ ls=>∃ x,ls=[some x,some (.im (AU ws)),some (.im (.int now))]) _ (by intro q hq;rw[List.mem_singleton]at hq;subst hq;rfl) ?_ ?_
      . rintro k hk ls hls
        have hkn:=(hL k hk).1
        refine⟨[some (.im (.int (k:Int))),some (.im (AU ws)),some (.im (.int now))],by rcases hls with rfl|⟨_,x,rfl⟩ <;> rfl,⟨_,rfl⟩,AN (AB (AB (AB (A3 rfl (A3 rfl (Ab (by rw[Hx]) (Io hkn) (AL (Ab rfl (E7 _ _ _) ?_))))))))⟩
        rw[K8 hkn]
        refine A3 rfl (VY ⟨_,rfl,rfl,?_⟩)
        by_cases h:cm ws k <= now
        . rw[if_pos (by simpa using h)]
          exact⟨_,if_pos h,A3 rfl ⟨rfl,rfl⟩⟩
        . rw[if_neg (by simpa using h)]
          exact if_neg h
      rw[Wn λ k=>cm ws k <= now]
      refine AE ?_
      obtain⟨M,hM⟩:∃ M,M=L.filter λ k=>decide (cm ws k <= now):=⟨_,rfl⟩
      rw[<- hM]
      have hML:∀ k ∈ M,k ∈ L:=λ k hk=>by rw[hM]at hk;exact(List.mem_filter.mp hk).1
      have flM:M.length <= L.length:=by rw[hM];exact List.length_filter_le _ _
      by_cases hne:L=[]
      . have hM0:M=[]:=by rw[hM,hne];rfl
        rw[hM0]
        refine Ae (Hn (AN (DU (A3 rfl ⟨_,pyL (M:=[]) rfl,_,rfl,?_⟩))))
        rw[if_pos (by simp)]
        refine AN (DU (A3 rfl ⟨_,pyL (M:=L) rfl,_,rfl,λ h=>?_,λ _=>?_⟩))
        . rw[hne]at h;simp at h
        refine Ae (AN (DU (A3 rfl ⟨_,pyL (M:=[]) rfl,_,rfl,λ h=>?_,λ _=>Al ?_⟩)))
        . simp at h
        refine⟨?_,_,rfl,AV _,left,P,now,gaps,a,b,_,_,_,_,_,rfl,rfl,hT,S,.inl (hL0 hne),by omega,by omega⟩
        simp[c4a,c4b,HD,Gc,Cw,intD]
      have L0:=List.length_pos_iff.mpr hne
      have hmu:mu ws left P now <= ((r.length + 1:Nat):Int):=by
        rcases hmu with h|h
        . obtain⟨k,hk⟩:=List.exists_mem_of_ne_nil L hne
          have:=Mc (hL k hk).1 (may_iff.mp (hL k hk).2).1
          omega
        . exact h
      by_cases hMn:M ≠ []
      . have M0:=List.length_pos_iff.mpr hMn
        refine Ae (Hn (AN (DU (A3 rfl ⟨_,pyL (M:=M) rfl,_,rfl,?_⟩))))
        rw[if_neg (by simpa using hMn)]
        refine⟨(λ h=>by cases h),λ _=>?_⟩
        refine Ae (AN (DU (A3 rfl ⟨_,pyL (M:=M) rfl,_,rfl,λ _=>?_,λ h=>?_⟩)))
        rotate_left
        . exact absurd (by simpa using h) hMn
        refine AH (Ay (AB (A3 rfl (tap.draw (n:=0) (many:=(M.length:Int)) (rest:=[.lst (intD left),.lst (pcD P),.lst (Ah L),.lst (Ah M)]) hT (by simp[C6]) (by omega) (by omega) λ s a b hT ps qs=>?_))))
        have hs:s.toNat < M.length:=by omega
        obtain⟨hk,hm⟩:=hL M[s.toNat] (hML _ (List.getElem_mem hs))
        refine Ab (ds:=Ah M) rfl (Gi (k:=s.toNat) (x:=.im (.int (M[s.toNat]:Int))) (by omega) (by simp[Ah,hs])) (AE ?_)
        generalize M[s.toNat]=k at hk hm
        obtain⟨m1,m2⟩:=may_iff.mp hm
        have hkl:k < left.length:=by omega
        have u20:lf left k <= 20:=by
          have h1:=S.lv k hk
          have h2:=E.l2 hk
          have h3:0 <= Pl.dn P k:=by
            have:∀ (Q:List Pl.Pc),(∀ p ∈ Q,p.2.1 < p.2.2)->0 <= Pl.dn Q k:=by
              intro Q
              induction Q with
              | nil=>intro _;exact Int.le_refl _
              | cons p Q ih=>
                intro h
                have h1:=ih λ q hq=>h q (List.mem_cons_of_mem _ hq)
                have h2:=h p List.mem_cons_self
                rw[Pl.dn];split <;> omega
            exact this P λ p hp=>(S.ok.ea p hp).2.2
          omega
        refine AH (Ay (AB (A3 rfl (A3 rfl (Ab (ds:=intD left) rfl (K4 hkl) (AE ?_))))))
        change WS _ [some (.mu 1),some (.im (AU ws)),some (.im (wI W)),some (.mu 2),some (.mu 3),some (.im (.int now)),some (.im (.int gaps)),z7,some (.mu 4),some (.im (.int (k:Int))),some (.mu 5),some (.im (.int (lf left k)))] [a,b,.lst (intD left),.lst (pcD P),.lst (Ah L),.lst (Ah M)] _
        refine AH (WP.mono (Q:=λ f x=>∃ days a b,f=Fl.nx [some (.mu 1),some (.im (AU ws)),some (.im (wI W)),some (.mu 2),some (.mu 3),some (.im (.int now)),some (.im (.int gaps)),z7,some (.mu 4),some (.im (.int (k:Int))),some (.mu 5),some (.im (.int days))]/\x=[a,b,.lst (intD left),.lst (pcD P),.lst (Ah L),.lst (Ah M)]/\T 0 a b/\1 <= days/\days <= lf left k/\(P.length < 30 ∨ days=lf left k)) ?_ ?_)
        . refine Ae (AN (AB (Bm (A9 (A3 rfl (AJ (Gk rfl rfl (AL (RW ⟨_,rfl,λ h=>?_,λ h=>Al ?_⟩)))))))))
          . refine Ay (AB (AL (tap.draw (n:=0) (many:=lf left k) (rest:=[.lst (intD left),.lst (pcD P),.lst (Ah L),.lst (Ah M)]) hT rfl (by omega) (by omega) λ s a b hT ps qs=>Dk ?_)))
            refine⟨1 + s,a,b,rfl,rfl,hT,by omega,by omega,.inl ?_⟩
            have:=of_decide_eq_true h
            simp at this;omega
          . exact⟨lf left k,a,b,rfl,rfl,hT,by omega,Int.le_refl _,.inr rfl⟩
        rintro f x ⟨days,a,b,rfl,rfl,hT,d1,d2,d3⟩
        refine AE ?_
        refine AH (Im (Ml (A3 rfl ⟨⟨_,rfl⟩,A9 (FF (A9 (A3 rfl (A9 (A3 rfl (A9 (AB (A3 rfl (A3 rfl (Dk (AJ ⟨On,AJ (KA rfl (CJ (by simp;omega)) (AE ?_))⟩)))))))))))⟩)))
        refine AH (Rs (AB (AB (A3 rfl (A3 rfl (Ab (ds:=intD left) rfl (K4 hkl) (A3 rfl (FE (A3 rfl (A3 rfl ⟨2,(k:Int),k,intD left,rfl,rfl,rfl,MR (n:=(intD left).length) (by omega) (by simp[intD];omega),AE ?_⟩))))))))))
        rw[QL]
        refine AH (Ay (AB (A3 rfl (A3 rfl (Dk (AE ?_))))))
        have ep:pcD P ++ [Ao [D.im (.int (k:Int)),.im (.int now),.im (.int (now + days))]]=pcD (P ++ [(k,now,now + days)]):=by
          simp[pcD,Ak,Ao,Be]
        have S':=S.step hW hk d1 d2 m2
        have fin:∀ now',now + days <= now'->Pst ws W (left.set k (lf left k - days)) (P ++ [(k,now,now + days)]) now'/\mu ws (left.set k (lf left k - days)) (P ++ [(k,now,now + days)]) now' <= r.length:=λ now' h=>by
          have:=TK (ws:=ws) (q:=(k,now,now + days)) (now:=now) (now':=now') hk hkl (by omega) d1 d2 d3
          exact⟨S'.later h,by omega⟩
        have pl:(P ++ [(k,now,now + days)]).length + r.length <= 60:=by simp;omega
        have done_:∀ (a b:MO),T 0 a b->∀ now',now + days <= now'->now' <= now + days + 5->∀ gaps',([a,b,MO.lst (intD (left.set k (lf left k - days))),.lst (pcD P ++ [Ao [D.im (.int (k:Int)),.im (.int now),.im (.int (now + days))]])].all (clO 4)=true)/\I_pl ws W r [some (.mu 1),some (.im (AU ws)),some (.im (wI W)),some (.mu 2),some (.mu 3),some (.im (.int now')),some (.im (.int gaps')),FX 4 [z7] |>.headD none,none,some (.im (.int (k:Int))),none,some (.im (.int days))] [a,b,MO.lst (intD (left.set k (lf left k - days))),.lst (pcD P ++ [Ao [D.im (.int (k:Int)),.im (.int now),.im (.int (now + days))]])]:=by
          intro a b hT now' h h' gaps'
          have ca:=tap.cl hT
          obtain⟨f1,f2⟩:=fin now' h
          rw[ep]
          refine⟨?_,_,_,now',gaps',a,b,_,_,_,_,_,rfl,rfl,hT,f1,.inr f2,pl,by omega⟩
          have c3:BF 4 (intD (left.set k (lf left k - days)))=true:=Cw 4 _
          have c4:BF 4 (pcD (P ++ [(k,now,now + days)]))=true:=Gc 4 Ak _
          show(clO 4 a && (clO 4 b && (BF 4 (intD (left.set k (lf left k - days))) && (BF 4 (pcD (P ++ [(k,now,now + days)])) && true))))=true
          rw[Dd (w:=4) (by omega) ca.1,Dd (w:=4) (by omega) ca.2,c3,c4];rfl
        refine Ae (Hn (AN (AB (A3 rfl (AL (Ho ⟨_,rfl,?_⟩))))))
        by_cases hg:0 < gaps
        . rw[if_pos (by simpa using hg)]
          refine AN (AB (tap.draw (n:=0) (many:=6) (rest:=[.lst (intD (left.set k (lf left k - days))),.lst (pcD P ++ [Ao [D.im (.int (k:Int)),.im (.int now),.im (.int (now + days))]]),.lst (Ah L),.lst (Ah M)]) hT rfl (by decide) (by decide) λ s a b hT ps qs=>AL (Hq ⟨_,rfl,λ h=>?_,λ h=>Al ?_⟩)))
          . refine AH (Ay (AB (A3 rfl (AL (FE (AE ?_))))))
            refine Ay (AB (AB (A3 rfl (AL (Dk (tap.draw (n:=0) (many:=4) (rest:=[.lst (intD (left.set k (lf left k - days))),.lst (pcD P ++ [Ao [D.im (.int (k:Int)),.im (.int now),.im (.int (now + days))]]),.lst (Ah L),.lst (Ah M)]) hT rfl (by decide) (by decide) λ s a b hT ps qs=>Dk ?_))))))
            obtain⟨q1,q2⟩:=done_ a b hT (now + days + 1 + s) (by omega) (by omega) (gaps - 1)
            exact⟨q1,_,rfl,AV _,q2⟩
          . obtain⟨q1,q2⟩:=done_ a b hT (now + days) (by omega) (by omega) gaps
            exact⟨q1,_,rfl,AV _,q2⟩
        . rw[if_neg (by simpa using hg)]
          refine⟨(λ h=>by cases h),λ _=>Al ?_⟩
          obtain⟨q1,q2⟩:=done_ a b hT (now + days) (by omega) (by omega) gaps
          exact⟨q1,_,rfl,AV _,q2⟩
      . have hM0:M=[]:=Classical.byContradiction hMn
        rw[hM0]
        have far:∀ k ∈ L,now < cm ws k:=λ k hk=>by
          rw[hM]at hM0
          have:=List.filter_eq_nil_iff.mp hM0 k hk
          simp at this;omega
        refine Ae (Hn (AN (DU (A3 rfl ⟨_,pyL (M:=[]) rfl,_,rfl,?_⟩))))
        rw[if_pos (by simp)]
        refine AN (DU (A3 rfl ⟨_,pyL (M:=L) rfl,_,rfl,λ _=>?_,λ h=>?_⟩))
        rotate_left
        . exact absurd (by simpa using h) hne
        refine Ay (Dm (CM (PP (A3 rfl ⟨4,Ah L,rfl,rfl,BC (by simp;omega),?_⟩))))
        refine DJ (λ k:Nat=>D.im (.int (k:Int))) (λ k=>some (.im (.int (cm ws k)))) (λ _ ls=>∃ x,ls=[some x,some (.im (AU ws))]) _ (by intro q hq;rw[List.mem_singleton]at hq;subst hq;rfl) ?_ ?_
        . rintro k hk ls hls
          have hkn:=(hL k hk).1
          refine⟨[some (.im (.int (k:Int))),some (.im (AU ws))],by rcases hls with rfl|⟨_,x,rfl⟩ <;> rfl,⟨_,rfl⟩,ED ⟨rfl,?_⟩⟩
          rw[if_pos rfl]
          refine⟨_,rfl,AB (AB (A3 rfl (A3 rfl (Ab (by rw[Hx]) (Io hkn) (AL (Ab rfl (E7 _ _ _) ?_))))))⟩
          rw[K8 hkn]
          exact⟨rfl,rfl⟩
        rw[JD L (cm ws)]
        obtain⟨k,hk,ek⟩:=List.mem_map.mp (GR (xs:=L.map (cm ws)) (by simpa using hne)).1
        refine⟨_,TR (by simpa using hne),?_⟩
        rw[<- ek]
        have hf:=far k hk
        refine⟨?_,_,rfl,AV _,left,P,cm ws k,gaps,a,b,_,_,_,_,_,rfl,rfl,hT,S.later (by omega),.inr ?_,by omega,?_⟩
        . simp[c4a,c4b,HD,Gc,Cw,intD]
        . have:=VD (hL k hk).1 hf
          unfold mu at hmu ⊢
          omega
        . have h1:=(E.ok _ (List.getElem_mem (hL k hk).1)).c2
          rw[K8 (hL k hk).1]at h1
          omega
  . rintro ls hd ⟨left,P,now,gaps,a,b,z7,z8,z9,z10,z11,rfl,rfl,hT,S,hmu,hlen,hnow⟩
    have h0:cnt ws.length left <= 0:=by
      rcases hmu with h|h
      . exact h
      . simp only[List.length_nil]at h
        have:=W9 (ws:=ws) now
        unfold mu at h
        split at h <;> omega
    obtain⟨F,w⟩:=Te E S h0
    refine AE (BN (Bm (A9 (A3 rfl (AJ (Gk rfl rfl ?_))))))
    rw[V4]
    refine⟨_,a,b,_,rfl,⟨P,rfl,by omega,λ p hp=>?_,F,λ a b hab p hp e=>?_⟩,hT,rfl⟩
    . have:=S.le p hp
      simp only[List.length_nil]at hnow
      omega
    . obtain⟨a',b',ep,ha,_⟩:=hW.nats _ hab
      have:=(Prod.mk.inj ep).1
      exact w a b (by omega) hab p hp e
end
theorem TZ(i:Int):WF DQ [.im (.int i)] [] λ d x=>d=.im (.bl true):=by
  unfold DQ
  refine Dl rfl ?_
  refine BN (Lo (AN (KB (A3 rfl ⟨_,rfl,_,rfl,?_⟩))))
  rw[if_pos (by decide)]
  exact Rz (AN (KB (A3 rfl ⟨_,rfl,_,rfl,rfl⟩)))
theorem NG(P:List Pl.Pc):(P.map Ak).map D.im=pcD P:=by simp[pcD]
theorem HH:∀ ns:List Int,PyData.eqvAll (ns.map PyData.int) (ns.map PyData.int)=true
  | []=>by simp[PyData.eqvAll]
  | n :: r=>by simp[PyData.eqvAll,PyData.eqv,HH r]
theorem Ig:∀ ns:List Int,PyData.depthAll (ns.map PyData.int)=0
  | []=>by simp[PyData.depthAll]
  | n :: r=>by simp[PyData.depthAll,PyData.depth,Ig r]
theorem Ku(ns:List Int):(PyData.list (ns.map PyData.int)).canLay0=true:=by
  rw[PyData.canLay0]
  induction ns with
  | nil=>rfl
  | cons x r ih=>simp[PyData.canLayAll0,PyData.canLay0]at ih ⊢;try exact ih
theorem RK(ns:List Int)(hd:Hd)(neg:Bool):Fz neg (.list (ns.map PyData.int)) (.list (ns.map PyData.int)) hd=some (.im (.bl (!neg)),hd):=by
  unfold Fz
  rw[if_pos]
  . simp[PyData.eqv,HH]
  . refine⟨Ku ns,Ku ns,?_⟩
    simp[PyData.depth,Ig]
theorem Nw{neg:Bool}{ma ml:MA}{ls:Ls}{hd:Hd}{QE:D->Hd->Prop}{ns:List Int}(h:WA ma ls hd λ es x=>es=intD ns/\WA ml ls x λ ds y=>ds=intD ns/\QE (.im (.bl (!neg))) y):WE (EW neg ma ml) ls hd QE:=by
  obtain⟨es,x,e1,rfl,ds,y,e2,rfl,q⟩:=h
  refine⟨_,y,?_,q⟩
  unfold EW
  rw[e1]
  simp only[Option.bind_some,e2]
  simp only[intD,Cc,Option.bind_some,Cq,RK]
section
variable{ws:List Wk}
theorem LJ{P:List Pl.Pc}(n8:ws.length <= 8)(hP:∀ p ∈ P,p.1 < ws.length):WF F_ends_of [.im (AU ws),.im (.tup (P.map Ak))] [] λ d x=>d=.im (BS ((List.range ws.length).map (Pl.E P))):=by
  obtain⟨g,e⟩:=Nh ws P hP (by omega)
  rw[Pl.ends_map]at e
  exact WP.eq (VH ▸ e) rfl
end
theorem O0{m:MA}{mb:ME}{ix:List Nat}{ls:Ls}{hd:Hd}{QA:List D->Hd->Prop}(h:WA m ls hd λ ds x=>∃ n:Nat,ds=[.im (.int (n:Int))]/\n < 64/\∃ kf:Nat->Int,(∀ a b,a < n->b < n->kf a=kf b->a=b) /\
      (∀ k:Nat,k < n->mb (some (.im (.int (k:Int))) :: ix.map λ i=>(ls[i]?).join) x=some (.im (.int (kf k)),x))/\∀ o:List Nat,o.Perm (List.range n)->o.Pairwise (λ a b=>kf a < kf b)->QA (Ah o) x):WA (ML m ix mb) ls hd QA:=by
  obtain⟨ds,x,e,n,rfl,hn,kf,inj,ek,q⟩:=h
  obtain⟨ns,hns⟩:∃ ns,ns=(List.range n).map λ k:Nat=>(k:Int):=⟨_,rfl⟩
  have mem:∀ z ∈ ns,∃ k:Nat,k < n/\z=k:=λ z hz=>by
    rw[hns]at hz
    obtain⟨k,hk,rfl⟩:=List.mem_map.mp hz
    exact⟨k,by simpa using hk,rfl⟩
  have e2:=JZ (mb:=mb) (cap:=ix.map λ i=>(ls[i]?).join) (hd:=x) (ns:=ns) (λ z=>D.im (.int (kf z.toNat))) λ z hz=>by
    obtain⟨k,hk,rfl⟩:=mem z hz
    exact ek k hk
  have e3:FO (ns.map λ z=>D.im (.int (kf z.toNat)))=some (ns.map λ z=>kf z.toNat):=by
    unfold FO
    have:BD (ns.map λ z=>D.im (.int (kf z.toNat)))=some (ns.map λ z=>kf z.toNat):=by
      have:=EO (ns.map λ z=>kf z.toNat)
      rw[List.map_map]at this
      exact this
    rw[this]
  have nd:ns.Nodup:=by
    rw[hns,List.nodup_iff_pairwise_ne,List.pairwise_map]
    exact(List.nodup_iff_pairwise_ne.mp List.nodup_range).imp λ h=>by omega
  have nk:=OZ (g:=λ z=>kf z.toNat) nd λ a ha b hb e=>by
    obtain⟨i,hi,rfl⟩:=mem a ha
    obtain⟨j,hj,rfl⟩:=mem b hb
    rw[inj i j hi hj (by simpa using e)]
  obtain⟨pm,pw⟩:=N0 (λ z=>kf z.toNat) ns
  generalize hms:Er (ns.map λ z=>kf z.toNat) ns=ms at pm pw
  have em:ms=(ms.map Int.toNat).map λ k:Nat=>(k:Int):=by
    rw[List.map_map]
    have:ms.map id=ms.map ((λ k:Nat=>(k:Int)) ∘ Int.toNat):=List.map_congr_left λ z hz=>by
      obtain⟨k,hk,rfl⟩:=mem z (pm.mem_iff.mp hz)
      simp
    rw[<- this,List.map_id]
  have pm2:(ms.map Int.toNat).Perm (List.range n):=by
    have:=pm.map Int.toNat
    rw[hns,List.map_map]at this
    have e:(List.range n).map (Int.toNat ∘ λ k:Nat=>(k:Int))=List.range n:=by
      have:(Int.toNat ∘ λ k:Nat=>(k:Int))=id:=by funext k;simp
      rw[this,List.map_id]
    rw[e]at this;exact this
  have nd2:(ms.map Int.toNat).Nodup:=pm2.nodup_iff.mpr List.nodup_range
  have pw2:(ms.map Int.toNat).Pairwise λ a b=>kf a < kf b:=by
    have h1:(ms.map Int.toNat).Pairwise λ a b=>kf a <= kf b:=List.pairwise_map.mpr pw
    refine(h1.and (List.nodup_iff_pairwise_ne.mp nd2)).imp_of_mem λ {a b} ha hb h=>?_
    have hne:kf a ≠ kf b:=λ z=>h.2 (inj a b (by simpa using pm2.mem_iff.mp ha) (by simpa using pm2.mem_iff.mp hb) z)
    have:=h.1
    omega
  refine⟨Ah (ms.map Int.toNat),x,?_,q _ pm2 pw2⟩
  have c:(0:Int) <= n/\(n:Int) < 64:=by omega
  have e1:IY m ls hd=some (ns,x):=by
    simp only[IY,e,Option.bind_some,if_pos c,Int.toNat_natCast,hns]
  have hl:ns.length < 64:=by rw[hns];simpa using hn
  simp only[IN,e1,Option.bind_some,e2,e3,hl,nk,and_self,if_true,hms]
  rw[E1,<- em]
theorem Nz{mi:MI}{ls:Ls}{hd:Hd}{QA:List D->Hd->Prop}(h:WI mi ls hd λ p x=>∃ ns:List Int,p.1=intD ns/\ns.length < 64/\QA (intD (Es ns)) x):WA (Eb mi) ls hd QA:=by
  obtain⟨p,x,e,ns,e1,hl,q⟩:=h
  refine⟨_,_,?_,q⟩
  simp only[Eb,e,Option.bind_some,e1,show BD (intD ns)=some ns from EO ns,hl,if_true]
section
variable{ws:List Wk}
theorem Jn(n8:ws.length <= 8){P:List Pl.Pc}(hP:∀ p ∈ P,p.1 < ws.length)(inj:∀ i j,i < ws.length->j < ws.length->Pl.E P i=Pl.E P j->i=j) :
    WF Cz [.im (AU ws),.im (.tup (P.map Ak))] [] λ d x=>∃ o:List Nat,d=.im (Cl o)/\o.Perm (List.range ws.length)/\o.Pairwise λ i j=>Pl.E P i < Pl.E P j:=by
  unfold Cz
  refine Dl rfl ?_
  refine AH (Ay (BJ (A9 (A3 rfl (A9 (A3 rfl (AJ ⟨by simp,(LJ n8 hP).mono ?_⟩)))))))
  rintro d x rfl
  refine⟨_,rfl,AE ?_⟩
  refine BN (Dm (O0 (A9 (Bm (A9 (A3 rfl (AJ (Gk rfl rfl (AJ ⟨ws.length,by simp,by omega,Pl.E P,inj,λ k hk=>?_,λ o pm pw=>⟨_,rfl,o,MH o,pm,pw⟩⟩)))))))))
  have w:WE (mOp gIx (A0 1) (A0 0)) [some (.im (.int (k:Int))),some (.im (BS ((List.range ws.length).map (Pl.E P))))] [] λ d x=>d=.im (.int (Pl.E P k))/\x=[]:=
    AB (A3 rfl (A3 rfl (Ab (e:=.im (.int (Pl.E P k))) rfl (Gi rfl (by simp[hk])) ⟨rfl,rfl⟩)))
  obtain⟨d,x,e,rfl,rfl⟩:=w
  exact e
theorem L8(o:List Nat)(a:Nat):(o.map λ k:Nat=>(k:Int)).idxOf (a:Int)=o.idxOf a:=by
  induction o with
  | nil=>rfl
  | cons x r ih=>
    rw[List.map_cons,List.idxOf_cons,List.idxOf_cons,ih]
    by_cases h:x=a
    . subst h;simp
    . have h1:((x:Int) == (a:Int))=false:=by simp;omega
      have h2:(x == a)=false:=by simpa using h
      rw[h1,h2]
theorem My{o:List Nat}{n:Nat}(pm:o.Perm (List.range n)):Es (o.map λ k:Nat=>(k:Int))=(List.range n).map λ k:Nat=>(k:Int):=by
  refine((I0 _).trans (pm.map _)).eq_of_pairwise (le:=(· <= ·)) (λ a b _ _ h1 h2=>Int.le_antisymm h1 h2) (GF _) ?_
  rw[List.pairwise_map]
  exact List.pairwise_lt_range.imp λ h=>by omega
noncomputable def Rp(W:List (Int × Int))(o:List Nat):Prop:=∀ q ∈ W,o.idxOf q.1.toNat < o.idxOf q.2.toNat
theorem NS(n8:ws.length <= 8){o:List Nat}(pm:o.Perm (List.range ws.length)){W:List (Int × Int)}(hW:Wsh ws.length W) :
    WF Dy [.im (AU ws),.im (wI W),.im (Cl o)] [] λ d x=>∃ b:Bool,d=.im (.bl b)/\(b=true ↔ Rp W o):=by
  have h16:=hW.len
  have ol:o.length=ws.length:=by simpa using pm.length_eq
  have mem:∀ k,k < ws.length->k ∈ o:=λ k hk=>pm.mem_iff.mpr (by simpa using hk)
  unfold Dy
  refine Dl rfl ?_
  refine AH (Ae (Hm (G9 (FD (KB (A3 rfl ⟨_,rfl,_,rfl,?_⟩))))))
  rw[if_neg (by decide)]
  refine G9 (FD (Dm (CM (FW (A3 rfl ⟨_,rfl,BC (by simp;omega),?_⟩)))))
  rw[Gu]
  refine DJ (λ k:Nat=>D.im (.int (k:Int))) (λ _=>some (.im (.bl true))) (λ _ ls=>∃ x,ls=[some x]) _ (AV _) ?_ ?_
  . rintro k hk ls hls
    refine⟨[some (.im (.int (k:Int)))],by rcases hls with rfl|⟨_,x,rfl⟩ <;> rfl,⟨_,rfl⟩,ED ⟨rfl,?_⟩⟩
    rw[if_pos rfl]
    refine⟨_,rfl,BJ (A9 (A3 rfl (AJ ⟨by simp,(TZ (k:Int)).mono ?_⟩)))⟩
    rintro d x rfl
    exact⟨_,rfl,rfl,rfl⟩
  have e:(o.filterMap λ _=>some (D.im (.bl true)))=blD (o.map λ _=>true):=by simp[blD]
  rw[e]
  refine⟨_,by rw[Kx,show Cb (blD _)=some _ from LU _];rfl,_,rfl,(λ h=>by simp at h),λ _=>Al (AE ?_)⟩
  have eln:(((ws.map Az).map D.im).length:Int)=(ws.length:Int):=by simp
  refine AH (Ae (AN (Nw (ns:=(List.range ws.length).map λ k:Nat=>(k:Int)) (Nz (FW (A3 rfl ⟨_,rfl,o.map λ k:Nat=>(k:Int),?_,by simp;omega,?_⟩))))))
  . show(o.map λ k:Nat=>I.int (k:Int)).map D.im=_
    rw[Gu,E1]
  refine⟨by rw[My pm],S3 (k:=(ws.length:Int)) (by simp[C6]) (Kb (by omega) (by omega)) ⟨?_,_,rfl,(λ h=>by cases h),λ _=>Al (AE ?_)⟩⟩
  . rw[Int.toNat_natCast,ER,E1]
  refine BN (Dm (CM (FW (A3 rfl ⟨_,rfl,?_⟩))))
  rw[Rw.pairs_im]
  refine⟨BC (by simp;omega),?_⟩
  refine DJ (λ p:Int × Int=>B1 p) (λ p=>some (.im (.bl (decide (o.idxOf p.1.toNat < o.idxOf p.2.toNat))))) (λ _ ls=>∃ x1 x2,ls=[some x1,some x2,some (.im (Cl o))]) _ (AV _) ?_ ?_
  . rintro p hp ls hls
    obtain⟨a,b,rfl,ha,hb⟩:=hW.nats p hp
    have vi:BD ((o.map λ k:Nat=>I.int (k:Int)).map D.im)=some (o.map λ k:Nat=>(k:Int)):=by
      rw[Gu,E1];exact EO _
    have ia:(a:Int) ∈ o.map λ k:Nat=>(k:Int):=List.mem_map.mpr ⟨a,mem a ha,rfl⟩
    have ib:(b:Int) ∈ o.map λ k:Nat=>(k:Int):=List.mem_map.mpr ⟨b,mem b hb,rfl⟩
    refine⟨[some (.im (.int (a:Int))),some (.im (.int (b:Int))),some (.im (Cl o))],by rcases hls with rfl|⟨_,x,y,rfl⟩ <;> rfl,⟨_,_,rfl⟩,ED ⟨rfl,?_⟩⟩
    rw[if_pos rfl]
    refine⟨_,rfl,AB (Ny (A3 rfl ⟨⟨_,rfl⟩,A9 (A3 rfl (AJ (JJ rfl vi ia (Ny (A3 rfl ⟨⟨_,rfl⟩,A9 (A3 rfl (AJ (JJ rfl vi ib (RW ⟨rfl,?_⟩))))⟩)))))⟩))⟩
    rw[L8,L8]
    simp
  have e2:(W.filterMap λ p=>some (D.im (.bl (decide (o.idxOf p.1.toNat < o.idxOf p.2.toNat)))))=blD (W.map λ p=>decide (o.idxOf p.1.toNat < o.idxOf p.2.toNat)):=by simp[blD]
  rw[e2]
  refine⟨_,by rw[Kx,show Cb (blD _)=some _ from LU _];rfl,_,rfl,?_⟩
  rw[List.all_map,List.all_eq_true]
  exact⟨λ h q hq=>by simpa using h q hq,λ h q hq=>by simpa using h q hq⟩
end
section
variable{ws:List Wk}
theorem JP{k:Nat}{r:List Nat}{t:Int}(hk:k < ws.length):Bt ws (k :: r) t=(k,max t (cm ws k),max t (cm ws k) + ln ws k) :: Bt ws r (max t (cm ws k) + ln ws k):=by
  have h:(if t > cm ws k then t else cm ws k)=max t (cm ws k):=by split <;> omega
  rw[Bt,List.getElem?_eq_getElem hk]
  simp only[K8 hk,NO hk,h]
theorem HU:∀ {ks:List Nat} {t:Int},(∀ k ∈ ks,k < ws.length)->∀ p ∈ Bt ws ks t,p.1 ∈ ks
  | [],t,_,p,h=>by simp[Bt]at h
  | k :: ks,t,hk,p,h=>by
    rw[JP (hk k (by simp))]at h
    rcases List.mem_cons.mp h with rfl|h
    . simp
    . exact List.mem_cons_of_mem _ (HU (λ j hj=>hk j (List.mem_cons_of_mem _ hj)) p h)
theorem JR(E:Ew ws):∀ {ks:List Nat} {t:Int},(∀ k ∈ ks,k < ws.length)->ks.Nodup->(ks.Pairwise λ i j=>∀ v w,Pl.last (Bt ws ks t) i v < Pl.last (Bt ws ks t) j w)/\∀ k ∈ ks,∀ v,t < Pl.last (Bt ws ks t) k v
  | [],t,_,_=>⟨.nil,(by intro k hk;cases hk)⟩
  | k :: ks,t,hn,nd=>by
    obtain⟨n1,n2⟩:=List.nodup_cons.mp nd
    have hk:=hn k (by simp)
    have l1:=E.l1 hk
    obtain⟨h1,h2⟩:=JR E (ks:=ks) (t:=max t (cm ws k) + ln ws k) (λ j hj=>hn j (List.mem_cons_of_mem _ hj)) n2
    rw[JP hk]
    have ek:∀ v,Pl.last ((k,max t (cm ws k),max t (cm ws k) + ln ws k) :: Bt ws ks (max t (cm ws k) + ln ws k)) k v=max t (cm ws k) + ln ws k:=λ v=>by
      rw[Pl.last,if_pos rfl,Pl.last_no λ p hp e=>?_]
      have:=HU (λ j hj=>hn j (List.mem_cons_of_mem _ hj)) p hp
      rw[e]at this;exact n1 this
    have ej:∀ j ∈ ks,∀ v,Pl.last ((k,max t (cm ws k),max t (cm ws k) + ln ws k) :: Bt ws ks (max t (cm ws k) + ln ws k)) j v=Pl.last (Bt ws ks (max t (cm ws k) + ln ws k)) j v:=λ j hj v=>by
      rw[Pl.last,if_neg λ e:k=j=>n1 (by rw[e];exact hj)]
    refine⟨List.pairwise_cons.mpr ⟨λ j hj v w=>?_,h1.imp_of_mem λ {i j} hi hj h v w=>?_⟩,λ j hj v=>?_⟩
    . rw[ek,ej j hj];exact h2 j hj w
    . rw[ej i hi,ej j hj];exact h v w
    . rcases List.mem_cons.mp hj with rfl|hj
      . rw[ek];omega
      . rw[ej j hj];have:=h2 j hj v;omega
theorem Pw(E:Ew ws){o:List Nat}(pm:o.Perm (List.range ws.length)):o.Pairwise λ i j=>Pl.E (Bt ws o 0) i < Pl.E (Bt ws o 0) j:=
  (JR E (t:=0) (λ j hj=>by simpa using pm.mem_iff.mp hj) (pm.nodup_iff.mpr List.nodup_range)).1.imp λ h=>h 0 0
theorem Vh(E:Ew ws){o:List Nat}(pm:o.Perm (List.range ws.length)):WF F_run [.im (AU ws),.im (Cl o)] [] λ d x=>d=.im (.tup ((Bt ws o 0).map Ak)):=by
  have n8:=E.n8
  have hn:∀ j ∈ o,j < ws.length:=λ j hj=>by simpa using pm.mem_iff.mp hj
  obtain⟨g,e⟩:=U6 ws o hn (by have:o.length=ws.length:=(by simpa using pm.length_eq);omega)
  exact WP.eq (Fy ▸ e) rfl
theorem U4{o:List Nat}(pm:o.Perm (List.range ws.length)):∀ p ∈ Bt ws o 0,p.1 < ws.length:=λ p hp=>by
  have hn:∀ j ∈ o,j < ws.length:=λ j hj=>by simpa using pm.mem_iff.mp hj
  exact hn _ (HU hn p hp)
noncomputable def cst(ws:List Wk)(k:Nat):Cost:=((ws[k]?).map Wk.cost).getD (.late 0)
theorem P3{k:Nat}(hk:k < ws.length):(ws[k]).cost=cst ws k:=by simp[cst,hk]
theorem P2(E:Ew ws){k:Nat}(hk:k < ws.length):(cst ws k).ok:=by
  rw[<- P3 hk];exact(E.ok ws[k] (List.getElem_mem hk)).co
theorem R8(g:Nat->Int):FS ws ((List.range ws.length).map g)=(List.range ws.length).map λ k=>(cst ws k).at (g k):=by
  refine List.ext_getElem? λ i=>?_
  unfold FS
  rw[List.getElem?_zipWith]
  by_cases hi:i < ws.length
  . simp[hi,cst]
  . simp[hi]
end
noncomputable def beg:Cost->Int
  | .late d=>d | .tardy d _=>d | .miss d _=>d | .ends _=>0 | .steps rows=>(rows.headD (1,0)).1 - 1
noncomputable def DS(t:Int):List (Int × Int)->Int->Int
  | [],_=>0
  | (b,a) :: r,x=>if b=t then a - x else DS t r a
noncomputable def Fb:Cost->Int->Int
  | .late _,_=>1
  | .tardy d w,t=>w * (if d < t then 1 else 0)
  | .miss d w,t=>w * (if t=d + 1 then 1 else 0)
  | .ends w,_=>w
  | .steps rows,t=>DS t rows 0
theorem Lz{t:Int}:∀ {rows:List (Int × Int)} {lo x:Int},RowsOk lo x rows->t <= lo->DS t rows x=0
  | [],_,_,_,_=>rfl
  | (b,a) :: r,lo,x,⟨h1,_,_,_,h5⟩,h=>by
    rw[DS,if_neg (by omega)]
    exact Lz h5 (by omega)
theorem S8{t:Int}:∀ {rows:List (Int × Int)} {lo x:Int},RowsOk lo x rows->t <= lo->B7 t rows x=x
  | [],_,_,_,_=>rfl
  | (b,a) :: r,lo,x,⟨h1,_⟩,h=>by
    rw[B7,if_pos (by omega)]
theorem Hy(t:Int):∀ {rows:List (Int × Int)} {lo x:Int},RowsOk lo x rows->B7 t rows x - B7 (t - 1) rows x=DS t rows x
  | [],_,x,_=>by simp[B7,DS]
  | (b,a) :: r,lo,x,⟨h1,h2,h3,h4,h5⟩=>by
    rw[B7,B7,DS]
    by_cases c1:b=t
    . rw[if_neg (by omega),if_pos (by omega),if_pos c1,S8 h5 (by omega)]
    . rw[if_neg c1]
      by_cases c2:t < b
      . rw[if_pos c2,if_pos (by omega),Lz h5 (by omega)];omega
      . rw[if_neg c2,if_neg (by omega)]
        exact Hy t h5
theorem Tq{c:Cost}(h:c.ok)(t:Int):c.at t - c.at (t - 1)=Fb c t:=by
  cases c with
  | late d=>show(t - d) - (t - 1 - d)=1;omega
  | tardy d w=>
    show(if t - d <= 0 then 0 else w * (t - d)) - (if t - 1 - d <= 0 then 0 else w * (t - 1 - d))=w * (if d < t then 1 else 0)
    by_cases c1:t - d <= 0
    . rw[if_pos c1,if_pos (by omega),if_neg (by omega)];simp
    . rw[if_neg c1,show(if d < t then(1:Int)else 0)=1 from if_pos (by omega),Int.mul_one]
      by_cases c2:t - 1 - d <= 0
      . rw[if_pos c2,show t - d=1 by omega];simp
      . rw[if_neg c2,<- Int.mul_sub,show t - d - (t - 1 - d)=1 by omega,Int.mul_one]
  | miss d w=>
    show(if t - d <= 0 then 0 else w) - (if t - 1 - d <= 0 then 0 else w)=w * (if t=d + 1 then 1 else 0)
    by_cases c1:t=d + 1
    . rw[if_pos c1,if_neg (by omega),if_pos (by omega)];simp
    . rw[if_neg c1,Int.mul_zero]
      by_cases c2:t - d <= 0
      . rw[if_pos c2,if_pos (by omega)];rfl
      . rw[if_neg c2,if_neg (by omega)];omega
  | ends w=>
    show w * t - w * (t - 1)=w
    rw[<- Int.mul_sub,show t - (t - 1)=1 by omega,Int.mul_one]
  | steps rows=>
    obtain⟨_,_,lo,_,_,h⟩:=h
    exact Hy t h
theorem VS{c:Cost}(h:c.ok):c.at (beg c)=0:=by
  cases c with
  | late d=>show d - d=0;omega
  | tardy d w=>show(if d - d <= 0 then 0 else w * (d - d))=0;rw[if_pos (by omega)]
  | miss d w=>show(if d - d <= 0 then 0 else w)=0;rw[if_pos (by omega)]
  | ends w=>show w * 0=0;simp
  | steps rows=>
    obtain⟨h0,_⟩:=h
    cases rows with
    | nil=>exact absurd rfl h0
    | cons p r=>show B7 (p.1 - 1) (p :: r) 0=0;obtain⟨b,a⟩:=p;rw[B7,if_pos (by show b - 1 < b;omega)]
theorem VR{c:Cost}(h:c.ok):-1000 <= beg c/\beg c <= 1000:=by
  cases c with
  | late d=>obtain⟨a,b⟩:=h;show -1000 <= d/\d <= 1000;omega
  | tardy d w=>obtain⟨⟨a,b⟩,_⟩:=h;show -1000 <= d/\d <= 1000;omega
  | miss d w=>obtain⟨⟨a,b⟩,_⟩:=h;show -1000 <= d/\d <= 1000;omega
  | ends w=>show -1000 <= (0:Int)/\(0:Int) <= 1000;omega
  | steps rows=>
    obtain⟨h0,_,lo,l1,l2,h⟩:=h
    cases rows with
    | nil=>exact absurd rfl h0
    | cons p r=>obtain⟨b,a⟩:=p;obtain⟨h1,h2,_⟩:=h;show -1000 <= b - 1/\b - 1 <= 1000;omega
noncomputable def rg:Int->Nat->List Int
  | _,0=>[]
  | j,n + 1=>j :: rg (j + 1) n
theorem GK:∀ (n:Nat) (j:Int),Ac j n=(rg j n).map λ i=>D.im (.int i)
  | 0,j=>rfl
  | n + 1,j=>by rw[Ac,rg,List.map_cons,GK n]
theorem rg_len:∀ (n:Nat) (j:Int),(rg j n).length=n
  | 0,_=>rfl
  | n + 1,j=>by rw[rg,List.length_cons,rg_len n]
theorem KN{c:Cost}(h:c.ok):∀ (n:Nat) (s:Int),((rg (s + 1) n).map (Fb c)).sum=c.at (s + n) - c.at s
  | 0,s=>by simp[rg]
  | n + 1,s=>by
    rw[rg,List.map_cons,List.sum_cons,KN h n (s + 1),<- Tq h (s + 1)]
    have e1:s + 1 - 1=s:=by omega
    have e2:s + 1 + (n:Int)=s + ((n + 1:Nat):Int):=by omega
    rw[e1,e2];omega
theorem s1:¬ (("tardy":Str)="late"):=by decide +kernel
theorem s2:¬ (("miss":Str)="late"):=by decide +kernel
theorem s3:¬ (("ends":Str)="late"):=by decide +kernel
theorem s4:¬ (("steps":Str)="late"):=by decide +kernel
theorem s5:¬ (("steps":Str)="ends"):=by decide +kernel
theorem s6:¬ (("steps":Str)="tardy"):=by decide +kernel
theorem s7:¬ (("steps":Str)="miss"):=by decide +kernel
theorem s8:¬ (("miss":Str)="tardy"):=by decide +kernel
theorem To(c:Cost)(h:c.ok):WF FV [.im (B0 c)] [] λ d x=>d=.im (.int (beg c)):=by
  unfold FV
  refine Dl rfl ?_
  cases c with
  | ends w=>
    refine AH (Ae (AN (AB (AB (A3 rfl (AL (Ab rfl (BY _ _) (AL (B9 ⟨_,rfl,λ _=>?_,(λ h=>by simp at h)⟩)))))))))
    exact BN (AL rfl)
  | late d=>
    refine AH (Ae (AN (AB (AB (A3 rfl (AL (Ab rfl (BY _ _) (AL (B9 ⟨_,rfl,(λ h=>by simp[n5]at h),λ _=>Al (AE ?_)⟩)))))))))
    refine BN (Hs (AN (AB (AB (A3 rfl (AL (Ab rfl (BY _ _) (AL (B9 ⟨_,rfl,(λ h=>by simp[n1]at h),λ _=>?_⟩)))))))))
    exact AB (A3 rfl (AL (Ab rfl (E7 _ _ _) rfl)))
  | tardy d w=>
    refine AH (Ae (AN (AB (AB (A3 rfl (AL (Ab rfl (BY _ _) (AL (B9 ⟨_,rfl,(λ h=>by simp[n6]at h),λ _=>Al (AE ?_)⟩)))))))))
    refine BN (Hs (AN (AB (AB (A3 rfl (AL (Ab rfl (BY _ _) (AL (B9 ⟨_,rfl,(λ h=>by simp[n2]at h),λ _=>?_⟩)))))))))
    exact AB (A3 rfl (AL (Ab rfl (E7 _ _ _) rfl)))
  | miss d w=>
    refine AH (Ae (AN (AB (AB (A3 rfl (AL (Ab rfl (BY _ _) (AL (B9 ⟨_,rfl,(λ h=>by simp[n7]at h),λ _=>Al (AE ?_)⟩)))))))))
    refine BN (Hs (AN (AB (AB (A3 rfl (AL (Ab rfl (BY _ _) (AL (B9 ⟨_,rfl,(λ h=>by simp[n3]at h),λ _=>?_⟩)))))))))
    exact AB (A3 rfl (AL (Ab rfl (E7 _ _ _) rfl)))
  | steps rows=>
    refine AH (Ae (AN (AB (AB (A3 rfl (AL (Ab rfl (BY _ _) (AL (B9 ⟨_,rfl,(λ h=>by simp[s5]at h),λ _=>Al (AE ?_)⟩)))))))))
    refine BN (Hs (AN (AB (AB (A3 rfl (AL (Ab rfl (BY _ _) (AL (B9 ⟨_,rfl,λ _=>?_,(λ h=>by simp at h)⟩)))))))))
    cases rows with
    | nil=>exact absurd rfl h.1
    | cons p r=>
      exact AB (AB (AB (AB (A3 rfl (AL (Ab rfl (E7 _ _ _) (AL (Ab rfl (BY _ _) (AL (Ab rfl (BY _ _) (AL (FE rfl))))))))))))
inductive I_ri(rows:List (Int × Int))(t:Int)(ci:I)(r:List D)(ls:Ls)(hd:Hd):Prop
  | mk (rest:List (Int × Int)) (x:Int) (z3 z4:Option D) (h0:r=rest.map λ q=>D.im (Bf q)) (h1:ls=[some (.im ci),some (.im (.int t)),some (.im (.int x)),z3,z4]) (h2:hd=[]) (h3:DS t rows 0=DS t rest x):I_ri rows t ci r ls hd
theorem UG(c:Cost)(h:c.ok)(t:Int):WF Ep [.im (B0 c),.im (.int t)] [] λ d x=>d=.im (.int (Fb c t)):=by
  have hw:=h.wok
  unfold Ep
  refine Dl rfl ?_
  cases c with
  | late d=>
    refine AH (Ae (AN (AB (AB (A3 rfl (AL (Ab rfl (BY _ _) (AL (B9 ⟨_,rfl,λ _=>?_,(λ h=>by simp at h)⟩)))))))))
    exact BN (AL rfl)
  | ends w=>
    refine AH (Ae (AN (AB (AB (A3 rfl (AL (Ab rfl (BY _ _) (AL (B9 ⟨_,rfl,(λ h=>by simp[s3]at h),λ _=>Al (AE ?_)⟩)))))))))
    refine AH (Ae (AN (AB (AB (A3 rfl (AL (Ab rfl (BY _ _) (AL (B9 ⟨_,rfl,λ _=>?_,(λ h=>by simp at h)⟩)))))))))
    exact BN (AB (A3 rfl (AL (Ab rfl (E7 _ _ _) rfl))))
  | tardy d w=>
    refine AH (Ae (AN (AB (AB (A3 rfl (AL (Ab rfl (BY _ _) (AL (B9 ⟨_,rfl,(λ h=>by simp[s1]at h),λ _=>Al (AE ?_)⟩)))))))))
    refine AH (Ae (AN (AB (AB (A3 rfl (AL (Ab rfl (BY _ _) (AL (B9 ⟨_,rfl,(λ h=>by simp[n6]at h),λ _=>Al (AE ?_)⟩)))))))))
    refine AH (Ae (AN (AB (AB (A3 rfl (AL (Ab rfl (BY _ _) (AL (B9 ⟨_,rfl,λ _=>?_,(λ h=>by simp at h)⟩)))))))))
    refine BN (AB (AB (A3 rfl (AL (Ab rfl (Nq _ _ _ _) (Bm (A9 (AB (A3 rfl (AB (A3 rfl (AL (Ab rfl (E7 _ _ _) (Ho (AJ (Ln (Nv (Ci (by have:=hw.1;omega) (by have:=hw.2;omega)) ?_)))))))))))))))))
    show D.im (.int _)=D.im (.int _)
    simp[Fb]
  | miss d w=>
    refine AH (Ae (AN (AB (AB (A3 rfl (AL (Ab rfl (BY _ _) (AL (B9 ⟨_,rfl,(λ h=>by simp[s2]at h),λ _=>Al (AE ?_)⟩)))))))))
    refine AH (Ae (AN (AB (AB (A3 rfl (AL (Ab rfl (BY _ _) (AL (B9 ⟨_,rfl,(λ h=>by simp[n7]at h),λ _=>Al (AE ?_)⟩)))))))))
    refine AH (Ae (AN (AB (AB (A3 rfl (AL (Ab rfl (BY _ _) (AL (B9 ⟨_,rfl,(λ h=>by simp[s8]at h),λ _=>Al (AE ?_)⟩)))))))))
    refine AH (Ae (AN (AB (AB (A3 rfl (AL (Ab rfl (BY _ _) (AL (B9 ⟨_,rfl,λ _=>?_,(λ h=>by simp at h)⟩)))))))))
    refine BN (AB (AB (A3 rfl (AL (Ab rfl (Nq _ _ _ _) (Bm (A9 (AB (A3 rfl (AB (AB (A3 rfl (AL (Ab rfl (E7 _ _ _) (AL (Dk (Hq (AJ (Ln (Nv (Ci (by have:=hw.1;omega) (by have:=hw.2;omega)) ?_))))))))))))))))))))
    show D.im (.int _)=D.im (.int _)
    simp[Fb]
  | steps rows=>
    refine AH (Ae (AN (AB (AB (A3 rfl (AL (Ab rfl (BY _ _) (AL (B9 ⟨_,rfl,(λ h=>by simp[s4]at h),λ _=>Al (AE ?_)⟩)))))))))
    refine AH (Ae (AN (AB (AB (A3 rfl (AL (Ab rfl (BY _ _) (AL (B9 ⟨_,rfl,(λ h=>by simp[s5]at h),λ _=>Al (AE ?_)⟩)))))))))
    refine AH (Ae (AN (AB (AB (A3 rfl (AL (Ab rfl (BY _ _) (AL (B9 ⟨_,rfl,(λ h=>by simp[s6]at h),λ _=>Al (AE ?_)⟩)))))))))
    refine AH (Ae (AN (AB (AB (A3 rfl (AL (Ab rfl (BY _ _) (AL (B9 ⟨_,rfl,(λ h=>by simp[s7]at h),λ _=>Al (AE ?_)⟩)))))))))
    refine AH (Ay (AL (AE ?_)))
    refine AH (EE (FW (AB (A3 rfl (AL (Ab rfl (E7 _ _ _) ⟨_,rfl,?_⟩))))))
    rw[show(rows.map Bf).map D.im=rows.map λ q=>D.im (Bf q) by simp]
    refine DI (I_ri rows t (B0 (.steps rows))) ⟨rows,0,none,none,rfl,rfl,rfl,rfl⟩ ?_ ?_
    . rintro d r ls hd ⟨rest,x,z3,z4,er,rfl,rfl,hr⟩
      cases rest with
      | nil=>cases er
      | cons q rest=>
        obtain⟨rfl,rfl⟩:=List.cons.inj er
        obtain⟨b,a⟩:=q
        refine⟨[some (.im (B0 (.steps rows))),some (.im (.int t)),some (.im (.int x)),some (.im (.int b)),some (.im (.int a))],rfl,?_⟩
        rw[DS]at hr
        refine AH (Ae (AN (AB (A3 rfl (A3 rfl (Hq ⟨_,rfl,λ hb=>?_,λ hb=>Al (AE ?_)⟩))))))
        . have hb:b=t:=by simpa using hb
          rw[if_pos hb]at hr
          refine BN (AB (A3 rfl (A3 rfl (FE ?_))))
          show D.im (.int (a - x))=.im (.int (DS t rows 0))
          rw[hr]
        . have hb:¬ b=t:=by simpa using hb
          rw[if_neg hb]at hr
          exact Ay (A3 rfl ⟨AV _,rest,a,_,_,rfl,rfl,rfl,hr⟩)
    . rintro ls hd ⟨rest,x,z3,z4,er,rfl,rfl,hr⟩
      have:rest=[]:=by cases rest with
        | nil=>rfl
        | cons t r=>cases er
      subst this
      refine AE (BN (AL ?_))
      show D.im (.int 0)=.im (.int (DS t rows 0))
      rw[hr];rfl
theorem RY(c:Cost)(h:c.ok)(s:Int)(n:Nat)(hn:n <= 100000)(hs:-100000 <= s/\s <= 100000){z1 z2:Option D}{ma mb:ME}(ea:∀ hd,ma [some (.im (B0 c)),z1,z2] hd=some (.im (.int s),hd))(eb:∀ hd,mb [some (.im (B0 c)),z1,z2] hd=some (.im (.int (s + n)),hd)){QE:D->Hd->Prop}(q:QE (.im (.int (c.at (s + n) - c.at s))) []) :
    WE (CU Kw (Bc 1 [0] (Dw (A1 (mOp Aa ma (mC (.int 1))) (A1 (mOp Aa mb (mC (.int 1))) A4))) (AG 0) CT (AA 0 Ep (A1 (A0 1) (A1 (A0 0) A4))))) [some (.im (B0 c)),z1,z2] [] QE:=by
  refine Dm (CM (VZ (A9 (AB (WP.eq (ea []) (AL (Dk (A9 (AB (WP.eq (eb []) (AL (Dk (AJ ⟨_,_,rfl,Lx (by omega) (by omega) (by omega) (by omega),?_⟩)))))))))))))
  rw[show(s + (n:Int) + 1 - (s + 1)).toNat=n by omega,GK]
  refine⟨BC (by rw[List.length_map,rg_len];omega),?_⟩
  refine DJ (λ i:Int=>D.im (.int i)) (λ i=>some (.im (.int (Fb c i)))) (λ _ ls=>∃ x,ls=[some x,some (.im (B0 c))]) _ (AV _) ?_ ?_
  . rintro i hi ls hls
    refine⟨[some (.im (.int i)),some (.im (B0 c))],by rcases hls with rfl|⟨_,x,rfl⟩ <;> rfl,⟨_,rfl⟩,ED ⟨rfl,?_⟩⟩
    rw[if_pos rfl]
    refine⟨_,rfl,BJ (A9 (A3 rfl (A9 (A3 rfl (AJ ⟨by simp,(UG c h i).mono ?_⟩)))))⟩
    rintro d x rfl
    exact⟨_,rfl,rfl,rfl⟩
  have e:((rg (s + 1) n).filterMap λ i=>some (D.im (.int (Fb c i))))=intD ((rg (s + 1) n).map (Fb c)):=by simp[intD]
  rw[e]
  refine⟨_,by unfold Kw;rw[show BD (intD _)=some _ from EO _];rfl,?_⟩
  show QE (.im (.int ((rg (s + 1) n).map (Fb c)).sum)) []
  rw[KN h]
  exact q
theorem Wx(c:Cost)(h:c.ok){t:Int}(ht:-10000 <= t/\t <= 10000):WF La [.im (B0 c),.im (.int t)] [] λ d x=>d=.im (.int (c.at t)):=by
  have hb:=VR h
  have h0:=VS h
  unfold La
  refine Dl rfl ?_
  refine AH (Ay (BJ (A9 (A3 rfl (AJ ⟨by simp,(To c h).mono ?_⟩)))))
  rintro d x rfl
  refine⟨_,rfl,AE ?_⟩
  change WS _ [some (.im (B0 c)),some (.im (.int t)),some (.im (.int (beg c)))] [] _
  refine AH (Ae (AN (AB (A3 rfl (A3 rfl (Ho ⟨_,rfl,λ hg=>?_,λ hg=>Al (AE ?_)⟩))))))
  . have hg:beg c < t:=by simpa using hg
    refine BN (RY c h (beg c) (t - beg c).toNat (by omega) (by omega) (λ hd=>by simp) (λ hd=>?_) ?_)
    . simp;omega
    . rw[show beg c + ((t - beg c).toNat:Int)=t by omega,h0]
      show D.im (.int (c.at t - 0))=_
      rw[Int.sub_zero]
  . have hg:¬ beg c < t:=by simpa using hg
    refine BN (AB (AL (RY c h t (beg c - t).toNat (by omega) (by omega) (λ hd=>by simp) (λ hd=>?_) (FE ?_))))
    . simp;omega
    . rw[show t + ((beg c - t).toNat:Int)=beg c by omega,h0]
      show D.im (.int (0 - (0 - c.at t)))=_
      rw[show(0:Int) - (0 - c.at t)=c.at t by omega]
theorem MD{es:List Int}(h:∀ e ∈ es,-1000000 <= e/\e <= 1000000)(hl:es.length <= 8):OkP 400 1 (I.py (BS es)):=by
  refine(C0 (w:=40) (dp:=0) (is:=es.map I.int) λ i hi=>?_).mono (by rw[List.length_map];omega) (by omega)
  obtain⟨k,h1,rfl⟩:=List.mem_map.mp hi
  have:=h k h1
  exact DB ⟨by omega,by omega⟩
theorem HW{es:List Int}(h:∀ e ∈ es,-1000000 <= e/\e <= 1000000)(hl:es.length <= 8):Ce (I.py (BS es)):=OkP.repr (MD h hl) (by rw[I.py];rfl) (by omega) (by omega)
theorem Oa(o:List Nat):Cl o=BS (o.map λ k:Nat=>(k:Int)):=by simp[Cl,BS]
theorem Q5{o:List Nat}(hk:∀ k ∈ o,k < 100)(hl:o.length <= 8):Ce (I.py (Cl o)):=by
  rw[Oa]
  refine HW (λ e he=>?_) (by simpa using hl)
  obtain⟨k,h1,rfl⟩:=List.mem_map.mp he
  have:=hk k h1
  omega
theorem M1{ws:List Wk}(hw:∀ w ∈ ws,w.ok)(hws:ws.length <= 8){i:I}(hi:OkP 20000 4 i.py):Ce (I.py (.tup [AU ws,i])):=by
  refine OkP.repr (w:=121000) (dp:=6) ((C0 (w:=60080) (dp:=5) (is:=[AU ws,i]) λ j hj=>?_).mono (by simp) (by omega)) (by rw[I.py];rfl) (by omega) (by omega)
  simp only[List.mem_cons,List.not_mem_nil,or_false]at hj
  rcases hj with rfl|rfl
  . exact Bd.ok_works hw (by omega)
  . exact hi.mono (by omega) (by omega)
theorem OX{P:List Pl.Pc}(hl:P.length <= 60)(h:∀ p ∈ P,p.1 < 100/\0 <= p.2.1/\p.2.1 <= 10000/\0 <= p.2.2/\p.2.2 <= 10000):OkP 20000 4 (I.py (.tup (P.map Ak))):=by
  refine(C0 (w:=123) (dp:=1) (is:=P.map Ak) λ i hi=>?_).mono (by rw[List.length_map];omega) (by omega)
  obtain⟨p,hp,rfl⟩:=List.mem_map.mp hi
  obtain⟨h1,h2,h3,h4,h5⟩:=h p hp
  refine(C0 (is:=[.int (p.1:Int),.int p.2.1,.int p.2.2]) (w:=40) (dp:=0) λ i hi=>?_).mono (by simp) (by omega)
  simp only[List.mem_cons,List.not_mem_nil,or_false]at hi
  rcases hi with rfl|rfl|rfl
  . exact DB ⟨by omega,by omega⟩
  . exact DB ⟨by omega,by omega⟩
  . exact DB ⟨by omega,by omega⟩
theorem KP(t:Int):∀ {rows:List (Int × Int)} {lo x:Int} (n:Nat),rows.length <= n->RowsOk lo x rows->x <= B7 t rows x/\B7 t rows x <= x + 19 * n
  | [],_,x,n,_,_=>by show x <= x/\x <= x + 19 * n;omega
  | (b,a) :: r,lo,x,n,hn,h=>by
    obtain⟨_,_,h3,h4,h5⟩:=h
    simp only[List.length_cons]at hn
    obtain⟨m,rfl⟩:∃ m,n=m + 1:=⟨n - 1,by omega⟩
    have:=KP t m (by omega) h5
    unfold B7
    split <;> omega
theorem WN{c:Cost}(h:c.ok){t:Int}(ht:-10000 <= t/\t <= 10000):-1000000 <= c.at t/\c.at t <= 1000000:=by
  cases c with
  | late d=>obtain⟨a,b⟩:=h;show -1000000 <= t - d/\t - d <= 1000000;omega
  | tardy d w=>
    obtain⟨⟨a,b⟩,w0,w9⟩:=h
    show -1000000 <= (if t - d <= 0 then 0 else w * (t - d))/\(if t - d <= 0 then 0 else w * (t - d)) <= 1000000
    split
    . omega
    . have p1:0 <= w * (t - d):=Int.mul_nonneg w0 (by omega)
      have p2:w * (t - d) <= 9 * (t - d):=Int.mul_le_mul_of_nonneg_right w9 (by omega)
      omega
  | miss d w=>
    obtain⟨_,w0,w9⟩:=h
    show -1000000 <= (if t - d <= 0 then 0 else w)/\(if t - d <= 0 then 0 else w) <= 1000000
    split <;> omega
  | ends w=>
    obtain⟨w0,w9⟩:=h
    show -1000000 <= w * t/\w * t <= 1000000
    by_cases z:0 <= t
    . have p1:0 <= w * t:=Int.mul_nonneg w0 z
      have p2:w * t <= 9 * t:=Int.mul_le_mul_of_nonneg_right w9 z
      omega
    . have p1:0 <= w * (-t):=Int.mul_nonneg w0 (by omega)
      have p2:w * (-t) <= 9 * (-t):=Int.mul_le_mul_of_nonneg_right w9 (by omega)
      rw[Int.mul_neg]at p1 p2
      omega
  | steps rows=>
    obtain⟨_,l,lo,_,_,h⟩:=h
    have:=KP t 5 l h
    show -1000000 <= B7 t rows 0/\B7 t rows 0 <= 1000000
    omega
inductive I_two(ws:List Wk)(es:I)(k:Str)(du:I)(r:List D)(ls:Ls)(hd:Hd):Prop
  | mk (z:Option D) (h1:ls=[some (.im (AU ws)),some (.im es),some (.im (.str k)),some (.im du),z]) (h2:hd=[]):I_two ws es k du r ls hd
section
variable{ws:List Wk}
theorem G8(E:Ew ws)(g:Nat->Int)(hg:∀ k,k < ws.length->-10000 <= g k/\g k <= 10000):WF C9 [.im (AU ws),.im (BS ((List.range ws.length).map g))] [] λ d x=>d=.im (.bl true):=by
  have n8:=E.n8
  have hwok:∀ w ∈ ws,w.cost.wok:=λ w hw=>(E.ok w hw).co.wok
  have b1:∀ e ∈ (List.range ws.length).map g,-1000000 <= e/\e <= 1000000:=λ e he=>by
    obtain⟨k,hk,rfl⟩:=List.mem_map.mp he
    have:=hg k (by simpa using hk)
    omega
  have b2:∀ e ∈ (List.range ws.length).map λ k=>(cst ws k).at (g k),-1000000 <= e/\e <= 1000000:=λ e he=>by
    obtain⟨k,hk,rfl⟩:=List.mem_map.mp he
    have hk:k < ws.length:=by simpa using hk
    exact WN (P2 E hk) (hg k hk)
  have k1:Ce (I.py (.tup [AU ws,BS ((List.range ws.length).map g)])):=M1 E.ok n8 ((MD b1 (by simpa using n8)).mono (by omega) (by omega))
  have k2:Ce (I.py (BS ((List.range ws.length).map λ k=>(cst ws k).at (g k)))):=HW b2 (by simpa using n8)
  have mk2:Ao [D.im (AU ws),.im (BS ((List.range ws.length).map g))]=.im (.tup [AU ws,BS ((List.range ws.length).map g)]):=rfl
  unfold C9
  refine Dl rfl ?_
  refine AH (Ay (Bm (A9 (FF (A9 (A3 rfl (A9 (A3 rfl (AJ ⟨FP,AJ (Bp k1 (AE ?_))⟩)))))))))
  refine AH (Ay (Dm (CM (HM (A9 (Bm (A9 (A3 rfl (AJ (Gk rfl rfl ?_))))))))))
  have eln:(((ws.map Az).map D.im).length:Int)=(ws.length:Int):=by simp
  rw[eln]
  refine AJ ⟨_,rfl,CN (by omega) (by omega),?_⟩
  rw[Int.toNat_natCast,ER]
  refine⟨BC (by simp;omega),?_⟩
  refine DJ (λ k:Nat=>D.im (.int (k:Int))) (λ k=>some (.im (.int ((cst ws k).at (g k))))) (λ _ ls=>∃ x,ls=[some x,some (.im (AU ws)),some (.im (BS ((List.range ws.length).map g)))]) _ (AV _) ?_ ?_
  . rintro k hk ls hls
    have hk:k < ws.length:=by simpa using hk
    refine⟨[some (.im (.int (k:Int))),some (.im (AU ws)),some (.im (BS ((List.range ws.length).map g)))],by rcases hls with rfl|⟨_,x,rfl⟩ <;> rfl,⟨_,rfl⟩,ED ⟨rfl,?_⟩⟩
    rw[if_pos rfl]
    refine⟨_,rfl,BJ (A9 (AB (AB (A3 rfl (A3 rfl (Ab (by rw[Hx]) (Io hk) (AL (Ab rfl (Nq _ _ _ _) ?_))))))))⟩
    rw[P3 hk]
    refine A9 (AB (A3 rfl (A3 rfl (Ab (e:=.im (.int (g k))) rfl (Gi rfl (by simp[hk])) (AJ ⟨by simp,(Wx _ (P2 E hk) (hg k hk)).mono ?_⟩)))))
    rintro d x rfl
    exact⟨_,rfl,rfl,rfl⟩
  rw[JD]
  refine⟨_,rfl,AE ?_⟩
  have mt:Ao (intD ((List.range ws.length).map λ k=>(cst ws k).at (g k)))=.im (BS ((List.range ws.length).map λ k=>(cst ws k).at (g k))):=Du _
  rw[mt]
  refine AH (EE (HM (A9 (AL (AJ ⟨_,rfl,CN (by decide) (by decide),?_⟩)))))
  refine DI (I_two ws _ _ _) ⟨none,rfl,rfl⟩ ?_ ?_
  . rintro d r ls hd ⟨z,rfl,rfl⟩
    refine⟨_,rfl,?_⟩
    dsimp only[List.set_cons_zero,List.set_cons_succ]
    have c1:F_costs_of [.im (AU ws),.im (BS ((List.range ws.length).map g))] []=some (.im (BS ((List.range ws.length).map λ k=>(cst ws k).at (g k))),[]):=by
      rw[Tf,Lk ws _ hwok (by omega),R8]
    refine Ae (Hm (AN (AB (Bm (A9 (BJ (A9 (A3 rfl (A9 (A3 rfl (AJ ⟨by simp,WP.eq c1 ⟨_,rfl,AJ (Bp k2 (Bm (A9 (A3 rfl (AJ (Bp k2 (GA ⟨_,rfl,?_⟩)))))))⟩⟩)))))))))))
    rw[if_neg (by simp)]
    refine AN (AB (Bm (A9 (FF (A9 (A3 rfl (A9 (A3 rfl (AJ ⟨FP,AJ (Bp k1 (A3 rfl (GA ⟨_,rfl,(λ h=>by simp at h),λ _=>Al ?_⟩)))⟩)))))))))
    exact⟨AV _,_,rfl,rfl⟩
  . rintro ls hd ⟨z,rfl,rfl⟩
    exact AE (BN (AL rfl))
end
structure By(ws:List Wk)(P:List Pl.Pc)(o:List Nat):Prop where
  pm:o.Perm (List.range ws.length)
  pw:o.Pairwise λ i j=>Pl.E P i < Pl.E P j
theorem Me{ws:List Wk}{P:List Pl.Pc}{o o':List Nat}(B:By ws P o)(B':By ws P o'):o=o':=
  (B.pm.trans B'.pm.symm).eq_of_pairwise (le:=λ i j=>Pl.E P i < Pl.E P j) (λ a b _ _ h1 h2=>by omega) B.pw B'.pw
theorem OL{f:Nat->Int}:∀ {o:List Nat},o.Pairwise (λ i j=>f i < f j)->∀ {i j:Nat},i ∈ o->j ∈ o->f i=f j->i=j
  | [],_,i,j,hi,_,_=>by cases hi
  | x :: r,pw,i,j,hi,hj,e=>by
    obtain⟨h1,h2⟩:=List.pairwise_cons.mp pw
    rcases List.mem_cons.mp hi with e1|g1
    . rcases List.mem_cons.mp hj with e2|g2
      . rw[e1,e2]
      . have:=h1 j g2;rw[e1]at e;omega
    . rcases List.mem_cons.mp hj with e2|g2
      . have:=h1 i g1;rw[e2]at e;omega
      . exact OL h2 g1 g2 e
theorem NQ{ws:List Wk}{P:List Pl.Pc}(F:Pl.Full ws.length 0 (ln ws) P){o:List Nat}(B:By ws P o){W:List (Int × Int)}(hW:Wsh ws.length W)(h:∀ a b:Nat,((a:Int),(b:Int)) ∈ W->∀ p ∈ P,p.1=b->Pl.E P a <= p.2.1):Rp W o:=by
  intro q hq
  obtain⟨a,b,rfl,ha,hb⟩:=hW.nats q hq
  simp only[Int.toNat_natCast]
  obtain⟨p,p1,p2,p3⟩:=Pl.last_in (v:=0) (F.has hb)
  have h1:=h a b hq p p1 p2
  have h2:=(F.ok.ea p p1).2.2
  have h3:Pl.E P a < Pl.E P b:=by
    simp only[Pl.E]at h1 ⊢
    omega
  have ia:=List.idxOf_lt_length_iff.mpr (B.pm.mem_iff.mpr (by simpa using ha:a ∈ List.range ws.length))
  have ib:=List.idxOf_lt_length_iff.mpr (B.pm.mem_iff.mpr (by simpa using hb:b ∈ List.range ws.length))
  refine Classical.byContradiction λ z=>?_
  have z:o.idxOf b <= o.idxOf a:=by omega
  rcases Nat.lt_or_eq_of_le z with z|z
  . have:=List.pairwise_iff_getElem.mp B.pw (o.idxOf b) (o.idxOf a) ib ia z
    rw[List.getElem_idxOf,List.getElem_idxOf]at this
    omega
  . have e1:o[o.idxOf b]=b:=List.getElem_idxOf ib
    have e2:o[o.idxOf a]=a:=List.getElem_idxOf ia
    have:a=b:=by rw[<- e1,<- e2];simp only[z]
    rw[this]at h3;omega
structure Bk(P d0:List Pl.Pc)(sq:List Nat):Prop where
  inn:∀ q ∈ d0,q.1 ∈ sq
  out:∀ k ∈ sq,∃ q ∈ d0,q.1=k/\Pl.E P k=q.2.2
  nd:sq.Nodup
  pw:sq.Pairwise λ i j=>Pl.E P j < Pl.E P i
theorem Bk.next{n:Nat}{P d0 rest:List Pl.Pc}{sq:List Nat}{p:Pl.Pc}(O:Pl.Ok n 0 P)(e:P.reverse=d0 ++ p :: rest)(B:Bk P d0 sq):if p.1 ∈ sq then Bk P (d0 ++ [p]) sq else Bk P (d0 ++ [p]) (sq ++ [p.1]):=by
  have eP:P=rest.reverse ++ (p :: d0.reverse):=by
    have:=congrArg List.reverse e
    rw[List.reverse_reverse]at this
    rw[this];simp
  have hp:p ∈ P:=by rw[eP];simp
  have ch:=O.ch
  rw[eP,List.pairwise_append]at ch
  have late:∀ q ∈ d0,p.2.2 <= q.2.1:=λ q hq=>(List.pairwise_cons.mp ch.2.1).1 q (by simpa using hq)
  have early:∀ q ∈ rest,q.2.2 <= p.2.1:=λ q hq=>ch.2.2 q (by simpa using hq) p (by simp)
  have hd:∀ q ∈ d0,q ∈ P:=λ q hq=>by rw[eP];simp[hq]
  split
  . next c=>
    refine⟨λ q hq=>?_,λ k hk=>?_,B.nd,B.pw⟩
    . rcases List.mem_append.mp hq with h|h
      . exact B.inn q h
      . rw[List.mem_singleton]at h;rw[h];exact c
    . obtain⟨q,q1,q2⟩:=B.out k hk
      exact⟨q,List.mem_append_left _ q1,q2⟩
  . next c=>
    have ee:Pl.E P p.1=p.2.2:=by
      obtain⟨q,q1,q2,q3⟩:=Pl.last_in (v:=0) (k:=p.1) ⟨p,hp,rfl⟩
      have ge:=Pl.last_ge (v:=0) O p hp rfl
      have lp:=(O.ea p hp).2.2
      have q1':=q1
      rw[eP]at q1'
      rcases List.mem_append.mp q1' with h|h
      . have:=early q (by simpa using h)
        simp only[Pl.E];omega
      . rcases List.mem_cons.mp h with h|h
        . simp only[Pl.E];rw[q3,h]
        . exact absurd (by rw[<- q2];exact B.inn q (by simpa using h)) c
    refine⟨λ q hq=>?_,λ k hk=>?_,?_,?_⟩
    . rcases List.mem_append.mp hq with h|h
      . exact List.mem_append_left _ (B.inn q h)
      . rw[List.mem_singleton]at h;rw[h];simp
    . rcases List.mem_append.mp hk with h|h
      . obtain⟨q,q1,q2⟩:=B.out k h
        exact⟨q,List.mem_append_left _ q1,q2⟩
      . rw[List.mem_singleton]at h;exact⟨p,by simp,h.symm,by rw[h];exact ee⟩
    . rw[List.nodup_append]
      refine⟨B.nd,by simp,λ a ha b hb=>?_⟩
      rw[List.mem_singleton]at hb
      intro z;rw[z,hb]at ha;exact c ha
    . rw[List.pairwise_append]
      refine⟨B.pw,by simp,λ i hi j hj=>?_⟩
      rw[List.mem_singleton]at hj
      obtain⟨q,q1,q2,q3⟩:=B.out i hi
      have h1:=late q q1
      have h2:=(O.ea q (hd q q1)).2.2
      rw[hj,ee,q3];omega
theorem Bk.by{ws:List Wk}{P:List Pl.Pc}{sq:List Nat}(F:Pl.Full ws.length 0 (ln ws) P)(B:Bk P P.reverse sq):By ws P sq.reverse:=by
  refine⟨?_,List.pairwise_reverse.mpr B.pw⟩
  refine(List.reverse_perm sq).trans ?_
  rw[List.perm_ext_iff_of_nodup B.nd List.nodup_range]
  intro k
  constructor
  . intro h
    obtain⟨q,q1,q2,_⟩:=B.out k h
    have:=(F.ok.ea q (by simpa using q1)).1
    rw[q2]at this;simpa using this
  . intro h
    obtain⟨q,q1,q2⟩:=F.has (by simpa using h:k < ws.length)
    rw[<- q2];exact B.inn q (by simpa using q1)
inductive I_l1(ws:List Wk)(W:List (Int × Int))(P:List Pl.Pc)(r:List D)(ls:Ls)(hd:Hd):Prop
  | mk (d0 rest:List Pl.Pc) (kvs:List (Key × D)) (z5 z6 z7:Option D) (h0:P=d0 ++ rest) (h1:r=pcD rest) (h2:ls=[some (.im (AU ws)),some (.im (wI W)),some (.im (.tup (P.map Ak))),some (.mu 0),some (.mu 1),z5,z6,z7,none,none,none,none]) (h3:hd=[.dic kvs,.lst []]) (h4:DicI kvs λ k=>if(∃ p ∈ d0,p.1=k)then some (Pl.last d0 k 0)else none) (h5:kvs.length <= d0.length):I_l1 ws W P r ls hd
open Classical in
inductive I_l2(ws:List Wk)(W:List (Int × Int))(P:List Pl.Pc)(dic:MO)(r:List D)(ls:Ls)(hd:Hd):Prop
  | mk (d0 rest:List Pl.Pc) (sq:List Nat) (z5 z6 z7:Option D) (h0:P.reverse=d0 ++ rest) (h1:r=pcD rest) (h2:ls=[some (.im (AU ws)),some (.im (wI W)),some (.im (.tup (P.map Ak))),some (.mu 0),some (.mu 1),z5,z6,z7,none,none,none,none]) (h3:hd=[dic,.lst (Ah sq)]) (h4:Bk P d0 sq):I_l2 ws W P dic r ls hd
theorem JX(q:Pl.Pc)(k:Nat):∀ (P:List Pl.Pc) (v:Int),Pl.last (P ++ [q]) k v=if q.1=k then q.2.2 else Pl.last P k v
  | [],v=>rfl
  | p :: r,v=>by rw[List.cons_append,Pl.last,Pl.last,JX q k r]
inductive I_l3(ws:List Wk)(W:List (Int × Int))(P:List Pl.Pc)(o:List Nat)(kp:Str)(a b:MO)(r:List D)(ls:Ls)(hd:Hd):Prop
  | mk (z5 z6 z7 z11:Option D) (h2:ls=[some (.im (AU ws)),some (.im (wI W)),some (.im (.tup (P.map Ak))),some (.mu 0),some (.mu 1),z5,z6,z7,some (.im (BS ((List.range ws.length).map (Pl.E P)))),some (.im (Cl o)),some (.im (.str kp)),z11]) (h3:hd=[a,b]):I_l3 ws W P o kp a b r ls hd
section
variable{ws:List Wk}
set_option maxHeartbeats 2000000 in
theorem Kn(E:Ew ws){P:List Pl.Pc}(F:Pl.Full ws.length 0 (ln ws) P)(hl:P.length <= 60)(hb:∀ p ∈ P,p.2.2 <= 1860){W:List (Int × Int)}(hW:Wsh ws.length W)(hK:∀ a b:Nat,((a:Int),(b:Int)) ∈ W->∀ p ∈ P,p.1=b->Pl.E P a <= p.2.1) :
    WF Cy [.im (AU ws),.im (wI W),.im (.tup (P.map Ak))] [] λ d x=>d=.im (.bl true):=by
  have n8:=E.n8
  have hP:∀ p ∈ P,p.1 < ws.length:=λ p hp=>(F.ok.ea p hp).1
  unfold Cy
  refine Dl rfl ?_
  refine AH (Ay (S0 (AE ?_)))
  refine AH (Ay (FG (KF (AJ ⟨BC (by simp),AE ?_⟩))))
  refine AH (EE (FW (A3 rfl ⟨_,rfl,?_⟩)))
  rw[NG]
  refine DI (I_l1 ws W P) ⟨[],P,[],none,none,none,rfl,rfl,rfl,rfl,(λ k=>by simp[BK]),by simp⟩ ?_ ?_
  . rintro d r ls hd ⟨d0,rest,kvs,z5,z6,z7,e1,er,rfl,rfl,hk,lk⟩
    cases rest with
    | nil=>cases er
    | cons p rest=>
      obtain⟨rfl,rfl⟩:=List.cons.inj er
      obtain⟨k,b,e⟩:=p
      have l1:=congrArg List.length e1
      simp only[List.length_append,List.length_cons]at l1
      refine⟨[some (.im (AU ws)),some (.im (wI W)),some (.im (.tup (P.map Ak))),some (.mu 0),some (.mu 1),some (.im (.int (k:Int))),some (.im (.int b)),some (.im (.int e)),none,none,none,none],rfl,?_⟩
      refine Rt (k:=.inl (k:Int)) (w:=0) (A3 rfl (A3 rfl (A3 rfl ⟨0,.inl (k:Int),kvs,rfl,rfl,rfl,CJ (by omega),?_⟩)))
      refine⟨AV _,d0 ++ [(k,b,e)],rest,_,_,_,_,by rw[e1];simp,rfl,rfl,rfl,?_,?_⟩
      . have:=hk.put k e
        refine λ j=>(this j).trans ?_
        congr 1
        dsimp only
        rw[JX]
        by_cases ej:j=k
        . subst ej;simp
        . have ej2:¬ k=j:=λ z=>ej z.symm
          have ee:(∃ p ∈ d0 ++ [(k,b,e)],p.1=j) ↔ ∃ p ∈ d0,p.1=j:=by
            constructor
            . rintro⟨p,hp,h⟩
              rcases List.mem_append.mp hp with q|q
              . exact⟨p,q,h⟩
              . rw[List.mem_singleton]at q;rw[q]at h;exact absurd h ej2
            . rintro⟨p,hp,h⟩
              exact⟨p,List.mem_append_left _ hp,h⟩
          simp only[ej,ej2,if_false,ee]
      . have:=QM kvs (.inl (k:Int)) (.im (.int e))
        simp;omega
  rintro ls hd ⟨d0,rest,kvs,z5,z6,z7,e1,er,rfl,rfl,hk,lk⟩
  have:rest=[]:=by cases rest with
    | nil=>rfl
    | cons t r=>cases er
  subst this
  rw[List.append_nil]at e1
  subst e1
  have hk2:∀ k,k < ws.length->BK kvs (.inl (k:Int))=some (.im (.int (Pl.E P k))):=λ k hkn=>by
    rw[hk k]
    dsimp only
    rw[if_pos (F.has hkn)];rfl
  clear hk er
  refine AE (AH (EE (FW (Ry (A3 rfl (Nx (AL ⟨_,rfl,rfl,_,rfl,?_⟩)))))))
  rw[NG,show(pcD P).reverse=(P.reverse.map Ak).map D.im by simp[pcD],Cr]
  refine⟨_,rfl,?_⟩
  rw[NG]
  refine DI (I_l2 ws W P (.dic kvs)) ⟨[],P.reverse,[],z5,z6,z7,rfl,rfl,rfl,rfl,⟨(by intro q hq;cases hq),(by intro k hk;cases hk),.nil,.nil⟩⟩ ?_ ?_
  . rintro d r ls hd ⟨d0,rest,sq,y5,y6,y7,e1,er,rfl,rfl,B⟩
    cases rest with
    | nil=>cases er
    | cons p rest=>
      obtain⟨rfl,rfl⟩:=List.cons.inj er
      have N:=B.next F.ok e1
      have sl:sq.length <= 8:=by
        have:=List.Nodup.length_le_of_subset B.nd (l₂:=List.range ws.length) λ k hk=>by
          obtain⟨q,q1,q2,_⟩:=B.out k hk
          have:q ∈ P:=by
            have:q ∈ P.reverse:=by rw[e1];exact List.mem_append_left _ q1
            simpa using this
          rw[<- q2];simpa using hP q this
        simp at this;omega
      obtain⟨k,b,e⟩:=p
      refine⟨[some (.im (AU ws)),some (.im (wI W)),some (.im (.tup (P.map Ak))),some (.mu 0),some (.mu 1),some (.im (.int (k:Int))),some (.im (.int b)),some (.im (.int e)),none,none,none,none],rfl,?_⟩
      have mem:((k:Int) ∈ sq.map λ j:Nat=>(j:Int)) ↔ k ∈ sq:=by
        constructor
        . intro h
          obtain⟨j,hj,ej⟩:=List.mem_map.mp h
          have:j=k:=by omega
          rw[<- this];exact hj
        . exact λ h=>List.mem_map.mpr ⟨k,h,rfl⟩
      refine Ae (AN (AB (A3 rfl (A3 rfl (Tu (xs:=sq.map λ j:Nat=>(j:Int)) (by rw[<- E1];rfl) ⟨_,rfl,λ h=>?_,λ h=>Al ?_⟩)))))
      . have h:k ∉ sq:=λ z=>by simp[mem,z]at h
        rw[if_neg h]at N
        refine Im (Ml (A3 rfl ⟨⟨_,rfl⟩,A9 (A3 rfl (AJ (KA rfl (CJ (by simp;omega)) ?_)))⟩))
        exact⟨AV _,d0 ++ [(k,b,e)],rest,sq ++ [k],_,_,_,by rw[e1];simp,rfl,rfl,by simp[Ah],N⟩
      . have h:k ∈ sq:=Classical.byContradiction λ z=>by simp[mem,z]at h
        rw[if_pos h]at N
        exact⟨AV _,d0 ++ [(k,b,e)],rest,sq,_,_,_,by rw[e1];simp,rfl,rfl,rfl,N⟩
  rintro ls hd ⟨d0,rest,sq,y5,y6,y7,e1,er,rfl,rfl,B⟩
  have:rest=[]:=by cases rest with
    | nil=>rfl
    | cons t r=>cases er
  subst this
  rw[List.append_nil]at e1
  subst e1
  have By0:=B.by F
  clear er
  refine AE (AH (Ay (Dm (CM (HM (A9 (Bm (A9 (A3 rfl (AJ (Gk rfl rfl ?_)))))))))))
  have eln:(((ws.map Az).map D.im).length:Int)=(ws.length:Int):=by simp
  rw[eln]
  refine AJ ⟨_,rfl,CN (by omega) (by omega),?_⟩
  rw[Int.toNat_natCast,ER]
  refine⟨BC (by simp;omega),?_⟩
  refine DJ (λ k:Nat=>D.im (.int (k:Int))) (λ k=>some (.im (.int (Pl.E P k)))) (λ _ ls=>∃ x,ls=[some x,some (.mu 0)]) _ (AV _) ?_ ?_
  . rintro k hk ls hls
    have hk:k < ws.length:=by simpa using hk
    refine⟨[some (.im (.int (k:Int))),some (.mu 0)],by rcases hls with rfl|⟨_,x,rfl⟩ <;> rfl,⟨_,rfl⟩,ED ⟨rfl,?_⟩⟩
    rw[if_pos rfl]
    exact⟨_,rfl,AB (A3 rfl (A3 rfl (Rv (k:=.inl (k:Int)) rfl rfl (hk2 k hk) ⟨rfl,rfl⟩)))⟩
  rw[JD]
  refine⟨_,rfl,AE ?_⟩
  have mt:Ao (intD ((List.range ws.length).map (Pl.E P)))=.im (BS ((List.range ws.length).map (Pl.E P))):=Du _
  rw[mt]
  refine AH (Ay (Dm (S4 (A3 rfl (Nx (AL ⟨_,rfl,rfl,Ah sq,rfl,_,rfl,AE ?_⟩))))))
  have mo:Ao (Ah sq).reverse=.im (Cl sq.reverse):=by rw[<- MH];simp[Ah]
  rw[mo]
  generalize sq.reverse=o at By0
  have pm:=By0.pm
  have ol:o.length=ws.length:=by simpa using pm.length_eq
  have k1:Ce (I.py (.tup [AU ws,.tup (P.map Ak)])):=M1 E.ok n8 (OX hl λ p hp=>by
    have h1:=F.ok.ea p hp
    have h2:=hb p hp
    omega)
  have be:∀ e ∈ (List.range ws.length).map (Pl.E P),-1000000 <= e/\e <= 1000000:=λ e he=>by
    obtain⟨k,hk,rfl⟩:=List.mem_map.mp he
    obtain⟨p,p1,p2,p3⟩:=Pl.last_in (v:=0) (F.has (by simpa using hk))
    have h1:=F.ok.ea p p1
    have h2:=hb p p1
    simp only[Pl.E];omega
  have k2:Ce (I.py (BS ((List.range ws.length).map (Pl.E P)))):=HW be (by simpa using n8)
  have k3:Ce (I.py (Cl o)):=Q5 (λ k hk=>by have:k < ws.length:=(by simpa using pm.mem_iff.mp hk);omega) (by omega)
  refine AH (Ay (Bm (A9 (FF (A9 (A3 rfl (A9 (A3 rfl (AJ ⟨FP,AJ (Bp k1 (AE ?_))⟩)))))))))
  refine AH (EE (HM (A9 (AL (AJ ⟨_,rfl,CN (by decide) (by decide),?_⟩)))))
  refine DI (I_l3 ws W P o _ (.dic kvs) (.lst (Ah sq))) ⟨_,_,_,none,rfl,rfl⟩ ?_ ?_
  . rintro d r ls hd ⟨x5,x6,x7,x11,rfl,rfl⟩
    refine⟨_,rfl,?_⟩
    dsimp only[List.set_cons_zero,List.set_cons_succ]
    have be_w:=Jn n8 hP λ i j hi hj e=>F.inj hi hj e
    refine AH (Ae (Hm (AN (AB (Bm (A9 (BJ (A9 (A3 rfl (A9 (A3 rfl (AJ ⟨by simp,(LJ n8 hP).mono ?_⟩))))))))))))
    rintro d x rfl
    refine⟨_,rfl,AJ (Bp k2 (Bm (A9 (A3 rfl (AJ (Bp k2 (GA ⟨_,rfl,?_⟩)))))))⟩
    rw[if_neg (by simp)]
    refine AN (AB (Bm (A9 (BJ (A9 (A3 rfl (A9 (A3 rfl (AJ ⟨by simp,be_w.mono ?_⟩)))))))))
    rintro d x ⟨o',rfl,pm',pw'⟩
    have:o'=o:=Me ⟨pm',pw'⟩ By0
    subst this
    refine⟨_,rfl,AJ (Bp k3 (Bm (A9 (A3 rfl (AJ (Bp k3 (GA ⟨_,rfl,(λ h=>by simp at h),λ _=>Al (AE ?_)⟩)))))))⟩
    refine Ae (Hm (AN (Tv (BJ (A9 (A3 rfl (A9 (A3 rfl (A9 (BJ (A9 (A3 rfl (A9 (A3 rfl (AJ ⟨by simp,be_w.mono ?_⟩)))))))))))))))
    rintro d x ⟨o2,rfl,pm2,pw2⟩
    refine⟨_,rfl,AJ ⟨by simp,(NS n8 pm2 hW).mono ?_⟩⟩
    rintro d x ⟨b,rfl,hb2⟩
    have:b=true:=hb2.mpr (NQ F ⟨pm2,pw2⟩ hW hK)
    subst this
    refine⟨_,rfl,_,rfl,_,rfl,?_⟩
    rw[if_neg (by decide)]
    refine AN (AB (Bm (A9 (FF (A9 (A3 rfl (A9 (A3 rfl (AJ ⟨FP,AJ (Bp k1 (A3 rfl (GA ⟨_,rfl,(λ h=>by simp at h),λ _=>Al ?_⟩)))⟩)))))))))
    exact⟨AV _,_,_,_,_,rfl,rfl⟩
  . rintro ls hd ⟨x5,x6,x7,x11,rfl,rfl⟩
    have rr:=Pw E pm
    refine AE (BN (AB (Bm (A9 (BJ (A9 (A3 rfl (A9 (BJ (A9 (A3 rfl (A9 (A3 rfl (AJ ⟨by simp,(Vh E pm).mono ?_⟩))))))))))))))
    rintro d x rfl
    refine⟨_,rfl,AJ ⟨by simp,(Jn n8 (U4 pm) λ i j hi hj e=>OL rr (pm.mem_iff.mpr (by simpa using hi)) (pm.mem_iff.mpr (by simpa using hj)) e).mono ?_⟩⟩
    rintro d x ⟨o',rfl,pm',pw'⟩
    have:o'=o:=Me (P:=Bt ws o 0) ⟨pm',pw'⟩ ⟨pm,rr⟩
    subst this
    refine⟨_,rfl,AJ (Bp k3 (Bm (A9 (A3 rfl (AJ (Bp k3 (B9 ?_)))))))⟩
    simp
end
inductive I_law(ns:List Int)(r:List D)(ls:Ls)(hd:Hd):Prop
  | mk (a b:MO) (z2 z3 z4 z5 z6 z7:Option D) (h0:ls=[some (.ro ns),some (.mu 1),z2,z3,z4,z5,z6,z7]) (h1:hd=[a,b]) (h2:T 0 a b) (h3:∀ d ∈ r,∃ i:Int,d=.im (.int i)):I_law ns r ls hd
inductive I_any(n:Nat)(W0:D)(r es:List D)(ls:Ls)(hd:Hd):Prop
  | mk (gs:List Int) (a b:MO) (z:Option D) (h0:es=intD gs) (h1:∀ e ∈ gs,-999 <= e/\e <= 999) (h2:gs.length + r.length=n) (h3:ls=[z,some W0]) (h4:hd=[a,b]) (h5:T 0 a b):I_any n W0 r es ls hd
set_option maxHeartbeats 2000000 in
theorem W7(ns:List Int):WF F_law [.ro ns] [] λ d x=>d=.im (.bl true):=by
  unfold F_law
  refine Dl rfl ?_
  obtain⟨τ,et⟩:=S6 ns
  refine AH (Ay (KC (A9 (A3 rfl (AJ (WP.eq (En ▸ et) (AE ?_)))))))
  refine AH (EE (HM (A9 (AL (AJ ⟨_,rfl,CN (by decide) (by decide),?_⟩)))))
  rw[GK]
  refine DI (I_law ns) ⟨_,_,none,none,none,none,none,none,rfl,rfl,⟨τ,rfl⟩,λ d hd=>?_⟩ ?_ ?_
  . obtain⟨i,_,rfl⟩:=List.mem_map.mp hd
    exact⟨i,rfl⟩
  . rintro t r ls hd ⟨a,b,z2,z3,z4,z5,z6,z7,rfl,rfl,hT,hr⟩
    obtain⟨i,rfl⟩:=hr t (by simp)
    have hr':∀ d ∈ r,∃ i:Int,d=.im (.int i):=λ d hd=>hr d (List.mem_cons_of_mem _ hd)
    refine⟨_,rfl,?_⟩
    dsimp only[List.set_cons_zero,List.set_cons_succ]
    refine HL ?_
    refine AH (Ay (AB (AL (tap.draw (n:=0) (many:=8) (rest:=[]) hT rfl (by decide) (by decide) λ s a b hT ps qs=>Dk (AE ?_)))))
    obtain⟨n,hn⟩:∃ n:Nat,1 + s=(n:Int):=⟨(1 + s).toNat,by omega⟩
    rw[hn]
    refine AH (Ay ?_)
    refine tap.call (n:=0) (c:=0) hT (as:=[.im (.int (n:Int)),.im (.bl (decide (i=0)))]) (rest:=[]) (by simp) rfl (Rx (by omega) _) ?_
    rintro j a b hT ⟨ws,rfl,hl,hok⟩
    have E:Ew ws:=⟨by omega,by omega,hok⟩
    have n8:=E.n8
    clear hok
    rw[<- hl]
    refine AE (AH (Ay ?_))
    refine tap.call (n:=0) (c:=0) hT (as:=[.im (.int (ws.length:Int))]) (rest:=[]) (by simp) rfl (PN n8) ?_
    rintro j a b hT ⟨W,rfl,hW⟩
    refine AE (AH (Ay ?_))
    refine tap.call (n:=0) (c:=0) hT (as:=[.im (AU ws),.im (wI W)]) (rest:=[]) (by simp) (by simp) (Uh E hW) ?_
    rintro j a b hT ⟨P,rfl,hPl,hPb,F,hK⟩
    have hP:∀ p ∈ P,p.1 < ws.length:=λ p hp=>(F.ok.ea p hp).1
    refine AE (AH (Ay (Dm (CM (FW (A3 rfl ⟨_,rfl,BC (by simp;omega),?_⟩))))))
    refine Vb (I_any ws.length (.mu 1)) ⟨[],a,b,none,rfl,(by intro e he;cases he),by simp,rfl,rfl,hT⟩ ?_ ?_
    . rintro d r es ls hd ⟨gs,a,b,z,rfl,hg,hlen,rfl,rfl,hT⟩
      refine⟨[some d,some (.mu 1)],rfl,ED ?_⟩
      rw[if_pos rfl]
      refine AB (tap.draw (n:=0) (many:=1999) (rest:=[]) hT rfl (by decide) (by decide) λ s a b hT ps qs=>AL (FE ⟨AV _,gs ++ [s - 999],a,b,_,by simp[intD],λ e he=>?_,by simp at hlen ⊢;omega,rfl,rfl,hT⟩))
      rcases List.mem_append.mp he with h|h
      . exact hg e h
      . rw[List.mem_singleton]at h;omega
    rintro es ls hd ⟨gs,a,b,z,rfl,hg,hlen,rfl,rfl,hT⟩
    have hlen:gs.length=ws.length:=by simpa using hlen
    have eg:gs=(List.range ws.length).map λ k=>gs[k]?.getD 0:=by
      refine List.ext_getElem? λ i=>?_
      by_cases hi:i < ws.length
      . have:i < gs.length:=by omega
        simp[hi,this]
      . have:gs.length <= i:=by omega
        simp[hi,this]
    have hgb:∀ k,k < ws.length->-10000 <= gs[k]?.getD 0/\gs[k]?.getD 0 <= 10000:=λ k hk=>by
      have h1:k < gs.length:=by omega
      have:=hg gs[k] (List.getElem_mem h1)
      simp[h1];omega
    have mt:Ao (intD gs)=.im (BS ((List.range ws.length).map λ k=>gs[k]?.getD 0)):=by rw[<- eg];exact Du _
    refine⟨_,rfl,AE ?_⟩
    rw[mt]
    have heb:∀ k,k < ws.length->-10000 <= Pl.E P k/\Pl.E P k <= 10000:=λ k hk=>by
      obtain⟨p,p1,p2,p3⟩:=Pl.last_in (v:=0) (F.has hk)
      have h1:=F.ok.ea p p1
      have h2:=hPb p p1
      simp only[Pl.E];omega
    refine AH (Ae (G9 (FD (BJ (A9 (A3 rfl (A9 (A3 rfl (A9 (A3 rfl (AJ ⟨by simp,(Kn E F hPl hPb hW hK).mono ?_⟩)))))))))))
    rintro d x rfl
    refine⟨_,rfl,_,rfl,(λ h=>by cases h),λ _=>Al (AE ?_)⟩
    refine Ae (Hm (G9 (FD (BJ (A9 (A3 rfl (A9 (BJ (A9 (A3 rfl (A9 (A3 rfl (AJ ⟨by simp,(LJ n8 hP).mono ?_⟩)))))))))))))
    rintro d x rfl
    refine⟨_,rfl,AJ ⟨by simp,(G8 E (Pl.E P) heb).mono ?_⟩⟩
    rintro d x rfl
    refine⟨_,rfl,_,rfl,?_⟩
    rw[if_neg (by decide)]
    refine G9 (FD (BJ (A9 (A3 rfl (A9 (A3 rfl (AJ ⟨by simp,(G8 E (λ k=>gs[k]?.getD 0) hgb).mono ?_⟩)))))))
    rintro d x rfl
    refine⟨_,rfl,_,rfl,(λ h=>by cases h),λ _=>Al ?_⟩
    have ca:=tap.cl hT
    exact⟨by simp[ca.1,ca.2],_,rfl,AV _,a,b,_,_,_,_,_,_,rfl,rfl,hT,hr'⟩
  . rintro ls hd ⟨a,b,z2,z3,z4,z5,z6,z7,rfl,rfl,hT,_⟩
    exact AE (BN (AL rfl))
theorem law_eq(ns:List Int):∃ hd,F_law [.ro ns] []=some (.im (.bl true),hd):=by
  obtain⟨d,x,e,rfl⟩:=W7 ns
  exact⟨x,e⟩
end T12
namespace L2
open PySem PySem.Spec PyProof.Rows PySem.W
noncomputable abbrev Tb:=Addr × Str × Nat × Nat
noncomputable def TN(ts:List Tb):Obj:={ cls:=.str "tables" 0,data:=.fields (ts.flatMap λ t=>[.ref t.1,.str t.2.1 0,.int t.2.2.1 0,.int t.2.2.2 0]).toArray }
noncomputable def Aq(K:PySem.W.Frag)(ts:List Tb):PySem.W.Frag:=(K.filter λ p=>!(ts.map (·.1)).contains p.1) ++ [(mainGlobals,TN ts)]
theorem O4:∀ ts:List Tb,Jy (ts.flatMap λ t=>[Value.ref t.1,.str t.2.1 0,.int t.2.2.1 0,.int t.2.2.2 0])=ts.map λ t=>(t.1,t.2.1,⟨t.2.2.1,t.2.2.2,0,0⟩)
  | []=>rfl
  | t :: r=>by
    rw[List.flatMap_cons,List.map_cons,<- O4 r]
    rfl
theorem GC(K:PySem.W.Frag)(ts:List Tb):Do (Aq K ts)=ts.map λ t=>(t.1,t.2.1,⟨t.2.2.1,t.2.2.2,0,0⟩):=by
  unfold Do Aq
  rw[List.getLast?_concat]
  show Jy _=_
  rw[<- O4 ts]
theorem Ez{L:List Addr}{a:Addr}(ha:a ∉ L):∀ K:PySem.W.Frag,(K.filter λ p=>!L.contains p.1).lookup a=K.lookup a
  | []=>rfl
  | (b,o) :: r=>by
    have ih:=Ez ha r
    rw[List.filter_cons]
    by_cases hb:b ∈ L
    . have h1:(!L.contains (b,o).1)=false:=by simp[hb]
      have h2:(a == b)=false:=beq_eq_false_iff_ne.mpr λ z=>ha (z ▸ hb)
      rw[if_neg (by rw[h1];decide),List.lookup_cons,h2,ih]
    . have h1:(!L.contains (b,o).1)=true:=by simp[hb]
      rw[if_pos h1,List.lookup_cons,List.lookup_cons,ih]
theorem GX{L:List Addr}{P:Addr}(hP:P ∈ L):∀ K:PySem.W.Frag,(K.filter λ p=>!L.contains p.1).lookup P=none
  | []=>rfl
  | (b,o) :: r=>by
    have ih:=GX hP r
    rw[List.filter_cons]
    by_cases hb:b ∈ L
    . rw[if_neg (by simp[hb])];exact ih
    . have h2:(P == b)=false:=beq_eq_false_iff_ne.mpr λ z=>hb (z ▸ hP)
      rw[if_pos (by simp[hb]),List.lookup_cons,h2];exact ih
section
variable{K:PySem.W.Frag}{ts:List Tb}
theorem GT{a:Addr}{o:Obj}(ha:a ∉ ts.map (·.1))(e:K.lookup a=some o):(Aq K ts).lookup a=some o:=by
  unfold Aq
  rw[List.lookup_append,Ez ha,e];rfl
theorem TM{h:Heap}(X:K.In h){g:Obj}(hg:K.lookup mainGlobals=some g)(hP:mainGlobals ∉ ts.map (·.1)):(Aq K ts).In h:=λ a o e=>by
  unfold Aq at e
  rw[List.lookup_append]at e
  by_cases ha:a ∈ ts.map (·.1)
  . rw[GX ha,Option.none_or]at e
    have h2:(a == mainGlobals)=false:=beq_eq_false_iff_ne.mpr λ z=>hP (z ▸ ha)
    rw[List.lookup_cons,h2]at e;cases e
  . rw[Ez ha]at e
    cases k:K.lookup a with
    | some o'=>rw[k]at e;cases e;exact X _ _ k
    | none=>
      rw[k,Option.none_or,List.lookup_cons]at e
      by_cases hm:a=mainGlobals
      . subst hm;rw[hg]at k;cases k
      . rw[beq_eq_false_iff_ne.mpr hm]at e;cases e
theorem TL(hM:mainGlobals ∉ ts.map (·.1)){P:Addr}(hP:P ∈ ts.map (·.1)):(Aq K ts).lookup P=none:=by
  unfold Aq
  have h2:(P == mainGlobals)=false:=beq_eq_false_iff_ne.mpr λ z=>hM (z ▸ hP)
  rw[List.lookup_append,GX hP,Option.none_or,List.lookup_cons,h2]
  rfl
theorem Fun.mark{x:Str}{st:Stmt}{f:Addr}{fd:FuncData}(D:Fun K x x st f fd){h:Heap}(X:K.In h)(hP:∀ P ∈ ts.map (·.1),h.get? P=some (tabObj #[])):Fun (Aq K ts) x x st f fd:=by
  have neP:∀ a o,K.lookup a=some o->o ≠ tabObj #[]->a ∉ ts.map (·.1):=λ a o e n z=>by
    have:=X _ _ e
    rw[hP a z]at this;exact n (Option.some.inj this).symm
  obtain⟨⟨oc,od,kV,doc,pm,an,cdv,ct,osl,rfl,lk,hcd⟩,kp⟩:=D
  have hf:f ∉ ts.map (·.1):=neP f _ lk (λ z=>by cases z)
  refine⟨⟨oc,od,kV,doc,pm,an,cdv,ct,osl,rfl,GT hf lk,?_⟩,?_⟩
  . unfold codeIn at hcd ⊢
    split at hcd
    . next c0=>
      split at hcd
      . next vs sl k=>
        have hc:c0 ∉ ts.map (·.1):=neP c0 _ k (λ z=>by
          have:vs=#[]:=by injection z with _ _ z _;injection z
          rw[this]at hcd;cases hcd)
        simp only[GT hc k]
        exact hcd
      . cases hcd
    . cases hcd
  . unfold keepIn
    simp only[GT hf lk]
end
theorem Vk{K:PySem.W.Frag}{H:Hp}{a:Addr}{xs:List V}(hS:SqL K H a xs)(hO:∀ ys,H a ≠ some (.lst ys)):RoL K H a xs:=by
  rcases hS with(h|h)|h
  . exact absurd h (hO xs)
  . exact .inl h
  . exact .inr h
theorem Of{Pg:Program}{w:World}{K:PySem.W.Frag}{mg mb:Str->Option Value}{k:Nat}{fa a:Addr}{fd:FuncData}{x:Str}{ts:List Tb}{s₁:Shared}{vs:List Value}{ns:List Int}{F:List D->Hd->Option (D × Hd)}
    (KX:K.In s₁.heap) (hns:s₁.heap.Ns mainGlobals mg) (hb:s₁.heap.Ns builtinsNs mb) (hbb:∀ x:Str,x ≠ "__name__"->mb x=bootBuiltins x) (hlim:s₁.heap.NoLimit) (hg:s₁.gens=#[])
    (ha:s₁.heap.get? a=some { cls:=.type "list",data:=.seq vs.toArray }) (hi:IntsAre vs ns) (hl:ns.length <= sizeLine) (hr:Room k callerA)
    (hT:∀ P ∈ ts.map (·.1),∃ cc,s₁.heap.TableAt cc P #[]) (hPK:∀ P ∈ ts.map (·.1),K.lookup P=none) (htab:Do K=ts.map λ t=>(t.1,t.2.1,⟨t.2.2.1,t.2.2.2,0,0⟩))
    (Fn:∀ base:Heap,K.In base->base.Ns mainGlobals mg->(∀ b o,b ∉ ts.map (·.1)->b ≠ a->s₁.heap.get? b=some o->base.get? b=some o)->FnOk Pg w K mg base CX0 k fa fd [x] (spF K 1 F)) (hbind:∀ (s:Shared) (u:Value),BindsTo s fd ⟨[u],[]⟩ [(x,u)])
    (hF:∃ hd',F [.ro ns] []=some (.im (.bl true),hd')) :
    codeAny (model Pg w) callerA (.call (.ref fa) ⟨[.ref a],[]⟩) (λ r s'=>r=.ok (.ret (.bool true))/\OldK s₁.heap s'.heap/\s'.os=s₁.os/\AllBare s'.gens) s₁:=by
  have rv:=JL hi
  have lenV:=hi.length
  have hP:∀ P ∈ ts.map (·.1),s₁.heap.get? P=some (tabObj #[]):=λ P h=>let ⟨cc,t⟩:=hT P h;t.2
  have haP:a ∉ ts.map (·.1):=λ z=>by rw[hP a z]at ha;cases ha
  have core:∀ H:Hp,(∀ b,b ∉ ts.map (·.1)->H b=none ∨ ∃ o xs,H b=some (.frz o (.lst xs)))->(∀ P ∈ ts.map (·.1),H P=some (.tbl #[]))->SqL K H a (ns.map V.int)->HOk Pg w H s₁.heap->(∀ b,H b ≠ none->b=a ∨ b ∈ ts.map (·.1))->(H a ≠ none->K.lookup a=none) ->
      codeAny (model Pg w) callerA (.call (.ref fa) ⟨[.ref a],[]⟩) (λ r s'=>r=.ok (.ret (.bool true))/\OldK s₁.heap s'.heap/\s'.os=s₁.os/\AllBare s'.gens) s₁:=by
    intro H hO hHP hS hok hA hK
    have base_of:∀ {b:Addr} {o:Obj},s₁.heap.get? b=some o->H b=none->(Fu s₁.heap H).get? b=some o:=λ e n=>Qq e n
    have noA:∀ {b:Addr} {o:Obj} {es:Array DictEntry} {ep:Nat},s₁.heap.get? b=some o->o.data=.dict es ep->H b=none:=λ {b o es ep} e d=>by
      cases q:H b with
      | none=>rfl
      | some u=>
        rcases hA b (by rw[q];simp)with e'|e'
        . subst e'
          rw[ha]at e;cases e
          have d':Data.seq vs.toArray _=Data.dict es ep:=d
          cases d'
        . rw[hP b e']at e;cases e
          cases d
    have nsK:∀ {b:Addr} {m:Str->Option Value},s₁.heap.Ns b m->(Fu s₁.heap H).Ns b m:=λ {b m} ⟨o,es,ep,e,d,r⟩=>⟨o,es,ep,base_of e (noA e d),d,r⟩
    have hKb:K.In (Fu s₁.heap H):=λ b o e=>base_of (KX b o e) (by
      cases q:H b with
      | none=>rfl
      | some u=>
        rcases hA b (by rw[q];simp)with e'|e'
        . subst e'
          rw[hK (by rw[q];simp)]at e;cases e
        . rw[hPK b e']at e;cases e)
    have hM:Mod K mg (Fu s₁.heap H):=⟨hKb,nsK hns,⟨mb,nsK hb,hbb⟩,let ⟨mc,h1,h2⟩:=hlim;⟨mc,nsK h1,h2⟩⟩
    have e0:Env0 Pg w K mg (Fu s₁.heap H) callerA [] s₁ H:=⟨rfl,hM,λ b o e=>TJ e,Nat.le_of_eq (Oj _ _),trivial,λ b hb=>absurd (show b ∈ ([]:List Addr)from hb) (by simp),hok,.of_eq hg⟩
    have hsp:spF K 1 F [.ref a] H (λ v _=>v=.bl true) λ _ _ _=>False:=by
      obtain⟨hd',e⟩:=hF
      refine⟨rfl,[],[],[.ro ns],.im (.bl true),hd',⟨rfl,List.nodup_nil,λ y hy=>?_,λ n o a h=>by simp at h⟩,?_,e,λ ρ' H' v _ _ r=>?_⟩
      . rw[htab]at hy
        obtain⟨t,ht,rfl⟩:=List.mem_map.mp hy
        exact⟨#[],hHP t.1 (List.mem_map.mpr ⟨t,ht,rfl⟩),.inl rfl⟩
      . simp only[RDs,RD]
        refine⟨_,_,rfl,⟨a,rfl,Vk hS λ ys z=>?_⟩,rfl⟩
        rcases hO a haP with q|⟨o,ys,q⟩ <;> (rw[q]at z;cases z)
      . simpa only[RD,RI]using r
    refine codeAny_mono ((Fn _ hKb (nsK hns) λ b o n1 n2 e=>base_of e (by
      cases q:H b with
      | none=>rfl
      | some u=>
                  rcases hA b (by rw[q];simp)with e'|e'
                  . exact absurd e' n2
                  . exact absurd e' n1)).run callerA [] s₁ H ⟨[.ref a],[]⟩ [.ref a] [.ref a] _ _ hr e0 (hbind s₁ (.ref a)) (.cons rfl .nil) hsp) λ r s' h=>?_
    cases r with
    | error e=>exact h.elim
    | ok fl=>
      cases fl with
      | next=>exact False.elim h
      | brk=>exact False.elim h
      | cont=>exact False.elim h
      | ret u=>
        obtain⟨v,H',os,bare,un,hok',r',q⟩:=h
        have q':v=.bl true:=q
        subst q'
        obtain rfl:u=Value.bool true:=r'
        have keep:∀ b o,b ∉ ts.map (·.1)->s₁.heap.get? b=some o->s'.heap.get? b=some o:=λ b o nb e=>by
          cases q:H b with
          | none=>exact un.keep b o e q (by intro z;exact absurd (show b ∈ ([]:List Addr)from z) (by simp)) (by simp)
          | some u=>
            rcases hO b nb with z|⟨ob,xs,z⟩
            . rw[q]at z;cases z
            . have z2:=un.frzs b ob _ z
              obtain⟨e1,_⟩:=hok b _ z
              obtain⟨e2,_⟩:=hok' b _ z2
              rw[e]at e1;cases e1
              exact e2
        refine⟨rfl,⟨λ b o e=>?_,λ b o e=>?_⟩,os,bare⟩
        . by_cases nb:b ∈ ts.map (·.1)
          . obtain⟨cc,tb⟩:=hT b nb
            obtain⟨more,hm⟩:=un.tbls b #[] (hHP b nb)
            have hb':s'.heap.get? b=some (tabObj (#[] ++ more)):=hok' b _ hm
            rw[hP b nb]at e;cases e
            exact .inr (.inl ⟨tb.isCodeTable,rfl,#[],more,rfl,hb'⟩)
          . exact .inl (keep b o nb e)
        . by_cases nb:b ∈ ts.map (·.1)
          . obtain⟨more,hm⟩:=un.tbls b #[] (hHP b nb)
            exact⟨_,hok' b _ hm⟩
          . exact⟨o,keep b o nb e⟩
  cases hk:K.lookup a with
  | some o=>
    have e:=KX a o hk
    rw[ha]at e
    cases e
    refine core (λ b=>if b ∈ ts.map (·.1)then some (.tbl #[])else none) (λ b nb=>.inl (if_neg nb)) (λ P hp=>if_pos hp) (.inr ⟨_,vs.toArray,_,hk,rfl,rfl,rfl,by rw[List.size_toArray,lenV];exact hl,by simpa using rv⟩) (λ b u z=>?_) (λ b z=>?_) λ z=>absurd (if_neg haP) z
    . by_cases hb:b ∈ ts.map (·.1)
      . have z':=(if_pos hb).symm.trans z
        cases z'
        exact hP b hb
      . have z':=(if_neg hb).symm.trans z
        cases z'
    . by_cases hb:b ∈ ts.map (·.1)
      . exact .inr hb
      . exact absurd (if_neg hb) z
  | none=>
    refine core (λ b=>if b ∈ ts.map (·.1)then some (.tbl #[])else if b=a then some (.frz { cls:=.type "list",data:=.seq vs.toArray } (.lst (ns.map V.int)))else none) (λ b nb=>?_) (λ P hp=>if_pos hp) (.inl (.inr ⟨{ cls:=.type "list",data:=.seq vs.toArray },(if_neg haP).trans (if_pos rfl)⟩)) (λ b u z=>?_) (λ b z=>?_) λ _=>hk
    . rw[if_neg nb]
      by_cases hb:b=a
      . exact .inr ⟨_,_,if_pos hb⟩
      . exact .inl (if_neg hb)
    . by_cases hp:b ∈ ts.map (·.1)
      . have z':=(if_pos hp).symm.trans z
        cases z'
        exact hP b hp
      . have z:=(if_neg hp).symm.trans z
        by_cases hb:b=a
        . have z':=(if_pos hb).symm.trans z
          cases z'
          subst hb
          exact⟨ha,by rw[List.length_map];exact hl,vs,_,rv,ha⟩
        . have z':=(if_neg hb).symm.trans z
          cases z'
    . by_cases hp:b ∈ ts.map (·.1)
      . exact .inr hp
      . by_cases hb:b=a
        . exact .inl hb
        . exact absurd ((if_neg hp).trans (if_neg hb)) z
theorem walkL{l:PySem.W.OpenLaw}{n k:Nat}{q:Program}{loose:List Str}{XP:(Str->Option Value)->Heap->Prop}{YP:World->Heap->Prop}{d:DefRec}{K:Params->PySem.W.Frag}{F:List D->Hd->Option (D × Hd)}(xs:List (Str × Str × Nat × Nat))
    (hn:l.most=some n) (hn2:n <= sizeLine) (hdf:d.params.defaults=[]) (hr:Room k callerA) (hdr:∀ x ∈ xs,∃ dr,(recsOf q).find? (λ e=>e.name == x.1)=some dr)
    (hF:∀ ns:List Int,∃ hd',F [.ro ns] []=some (.im (.bl true),hd'))
    (hY:∀ (w:World) (h:Heap),YP w h->(K w.params).In h)
    (G:∀ (w:World) (mg:Str->Option Value) (fa:Addr) (h:Heap) (c P:Str->Addr),(K w.params).In h->h.Ns mainGlobals mg->mg d.name=some (.ref fa) ->
      (∀ x ∈ xs,h.get? (P x.1)=some (tabObj #[])/\CodeHd h (c x.1) (P x.1)/\∃ a o fd,mg x.1=some (.ref a)/\h.get? a=some o/\o.data=.func fd/\fd.code=.ref (c x.1)) ->
      (∃ g,(K w.params).lookup mainGlobals=some g)/\∃ fd:FuncData,(∀ (s:Shared) (u:Value),BindsTo s fd ⟨[u],[]⟩ [("_law_script",u)]) /\
        ∀ base:Heap,(Aq (K w.params) (xs.map λ x=>(P x.1,x.2))).In base->base.Ns mainGlobals mg->(∀ x ∈ xs,CodeHd base (c x.1) (P x.1))->(∀ x ∈ xs,base.BuiltinsAt mg (P x.1))->FnOk l.prog w (Aq (K w.params) (xs.map λ x=>(P x.1,x.2))) mg base CX0 k fa fd ["_law_script"] (spF (Aq (K w.params) (xs.map λ x=>(P x.1,x.2))) 1 F)) :
    PySem.W.WalkO q loose XP YP l.row.toRowW d [] (λ f vs=>PySem.call f vs):=by
  refine Att.attach_call hn hdf λ w s₀ s₁ mg mb fa o pm cd doc a vs ns Gr Y ho hd hcd hmg hobj hints hlen hg=>?_
  have KX:=hY w _ Y
  have each:∀ x:Str,∃ cp:Addr × Addr,(∃ y ∈ xs,y.1=x)->(∃ cc,s₁.heap.TableAt cc cp.2 #[])/\CodeHd s₁.heap cp.1 cp.2/\∃ a o fd,mg x=some (.ref a)/\s₁.heap.get? a=some o/\o.data=.func fd/\fd.code=.ref cp.1:=by
    intro x
    by_cases hx:∃ y ∈ xs,y.1=x
    . obtain⟨y,hy,rfl⟩:=hx
      obtain⟨dr,hdr⟩:=hdr y hy
      have hnm:dr.name=y.1:=beq_iff_eq.mp (List.find?_some (p:=λ e:DefRec=>e.name == y.1) hdr)
      obtain⟨a',o',fd',c,P,h1,h2,h3,h4,h5,h6⟩:=Gr.T.tab dr (List.mem_of_find?_eq_some hdr)
      rw[hnm]at h1
      exact⟨(c,P),λ _=>⟨⟨_,h6⟩,CodeHd.of h5 h6,a',o',fd',h1,h2,h3,h4⟩⟩
    . exact⟨(0,0),λ h=>absurd h hx⟩
  obtain⟨cp,hcp⟩:=Classical.skolem.mp each
  have hcp:∀ x ∈ xs,(∃ cc,s₁.heap.TableAt cc (cp x.1).2 #[])/\CodeHd s₁.heap (cp x.1).1 (cp x.1).2/\∃ a o fd,mg x.1=some (.ref a)/\s₁.heap.get? a=some o/\o.data=.func fd/\fd.code=.ref (cp x.1).1:=λ x hx=>hcp x.1 ⟨x,hx,rfl⟩
  have hts:∀ P ∈ (xs.map λ x=>((cp x.1).2,x.2)).map (·.1),∃ x ∈ xs,P=(cp x.1).2:=λ P hP=>by
    obtain⟨t,ht,rfl⟩:=List.mem_map.mp hP
    obtain⟨x,hx,rfl⟩:=List.mem_map.mp ht
    exact⟨x,hx,rfl⟩
  have hP:∀ x ∈ xs,s₁.heap.get? (cp x.1).2=some (tabObj #[]):=λ x hx=>by
    obtain⟨⟨cc,t⟩,_⟩:=hcp x hx;exact t.2
  have hmP:mainGlobals ∉ (xs.map λ x=>((cp x.1).2,x.2)).map (·.1):=λ z=>by
    obtain⟨x,hx,ez⟩:=hts _ z
    obtain⟨o,es,ep,e,dd,_⟩:=Gr.T.g
    rw[ez,hP x hx]at e;cases e;cases dd
  obtain⟨⟨g,hgl⟩,fd,hb,hFn⟩:=G w mg fa _ (λ x=>(cp x).1) (λ x=>(cp x).2) KX Gr.T.g hmg λ x hx=>⟨hP x hx,(hcp x hx).2⟩
  refine Of (ts:=xs.map λ x=>((cp x.1).2,x.2)) (K:=Aq (K w.params) (xs.map λ x=>((cp x.1).2,x.2))) (TM KX hgl hmP) Gr.T.g Gr.T.b Gr.T.builtins Gr.T.nolimit hg hobj hints (Nat.le_trans hlen hn2) hr (λ P hp=>by obtain⟨x,hx,rfl⟩:=hts P hp;exact(hcp x hx).1) (λ P hp=>TL hmP hp) (GC _ _) (λ base kb nb keep=>hFn base kb nb (λ x hx=>?_) λ x hx=>?_) hb (hF ns)
  . obtain⟨oc,vs',file,tf,flags,tg,inF,text,tt,e1,r1,r2,r3,r4,r5,r6,r7,r8,hne⟩:=(hcp x hx).2.1
    have hn:(cp x.1).1 ∉ (xs.map λ x=>((cp x.1).2,x.2)).map (·.1):=λ z=>by
      obtain⟨y,hy,ez⟩:=hts _ z
      rw[ez,hP y hy]at e1;cases e1;cases r1
    exact⟨oc,vs',file,tf,flags,tg,inF,text,tt,keep (cp x.1).1 oc hn (λ z=>by rw[z,hobj]at e1;cases e1;exact absurd (show Value.type "list"=Value.type "code" from r1) (by decide)) e1,r1,r2,r3,r4,r5,r6,r7,r8,hne⟩
  . obtain⟨bm,ob,b1,b2,b3,b4,b5,b6⟩:=Gr.T.bmain
    have nP:∀ y ∈ xs,bm ≠ (cp y.1).2:=λ y hy z=>by rw[z,hP y hy]at b3;cases b3;cases b4
    have hn:bm ∉ (xs.map λ x=>((cp x.1).2,x.2)).map (·.1):=λ z=>by
      obtain⟨y,hy,ez⟩:=hts _ z
      exact nP y hy ez
    refine⟨bm,ob,b1,b2,λ z=>?_,nP x hx,keep bm ob hn (λ z=>by rw[z,hobj]at b3;cases b3;exact absurd (show Value.type "list"=Value.type "module" from b4) (by decide)) b3,b4,b5,b6⟩
    obtain⟨o,es,ep,e,dd,_⟩:=Gr.T.g
    rw[<- z,b3]at e;cases e;rw[b6]at dd;cases dd
end L2
namespace T12
open PySem L2 PySem.W PyProof.Rows
noncomputable abbrev x_by_ends:Str × Str × Nat × Nat:=("by_ends",((("by_ends":Str) ++ ".<locals>.") ++ "<lambda>"),12,47)
noncomputable abbrev xS:List (Str × Str × Nat × Nat):=[x_by_ends]
noncomputable abbrev tS(P:Str->Addr):List Tb:=xS.map λ x=>(P x.1,x.2)
theorem all_mk{l:PySem.W.OpenLaw}{w:World}{K:PySem.W.Frag}{h:Heap}{mg:Str->Option Value}{fa f0 f1 f2 f3 f4 f5 f6 f7 f8 f9 f10 f11 f12 f13 f14 f15 f16 f17 f18 f19 f20:Addr}(X:K.In h)(G:h.Ns mainGlobals mg){c P:Str->Addr}(hfa:mg "law"=some (.ref fa))(hx:∀ x ∈ xS,h.get? (P x.1)=some (tabObj #[])/\CodeHd h (c x.1) (P x.1)/\∃ a o fd,mg x.1=some (.ref a)/\h.get? a=some o/\o.data=.func fd/\fd.code=.ref (c x.1))
    {od0 an0 od1 an1 od2 an2 od3 an3 od4 an4 od5 an5 od6 an6 od7 an7 od8 an8 od9 an9 od10 an10 od11 an11 od12 an12 od13 an13 od14 an14 od15 an15 od16 an16 od17 an17 od18 an18 od19 an19 od20 an20:Option Addr} {sl0 sl1 sl2 sl3 sl4 sl5 sl6 sl7 sl8 sl9 sl10 sl11 sl12 sl13 sl14 sl15 sl16 sl17 sl18 sl19 sl20:Array (Option Value)} {oc0 kV0 dc0 pm0 cd0 ct0 oc1 kV1 dc1 pm1 cd1 ct1 oc2 kV2 dc2 pm2 cd2 ct2 oc3 kV3 dc3 pm3 cd3 ct3 oc4 kV4 dc4 pm4 cd4 ct4 oc5 kV5 dc5 pm5 cd5 ct5 oc6 kV6 dc6 pm6 cd6 ct6 oc7 kV7 dc7 pm7 cd7 ct7 oc8 kV8 dc8 pm8 cd8 ct8 oc9 kV9 dc9 pm9 cd9 ct9 oc10 kV10 dc10 pm10 cd10 ct10 oc11 kV11 dc11 pm11 cd11 ct11 oc12 kV12 dc12 pm12 cd12 ct12 oc13 kV13 dc13 pm13 cd13 ct13 oc14 kV14 dc14 pm14 cd14 ct14 oc15 kV15 dc15 pm15 cd15 ct15 oc16 kV16 dc16 pm16 cd16 ct16 oc17 kV17 dc17 pm17 cd17 ct17 oc18 kV18 dc18 pm18 cd18 ct18 oc19 kV19 dc19 pm19 cd19 ct19 oc20 kV20 dc20 pm20 cd20 ct20:Value}
     (a0:PySem.W.nsIn K mainGlobals "law"=some (some (.ref f0))) (l0:K.lookup f0=some ⟨oc0,od0,.func (PySem.W.fnOf "law" "law" (Ar E8) (Ai E8) (AF E8) .none kV0 dc0 pm0 an0 cd0 ct0),sl0⟩) (c0:PySem.W.codeIn K cd0 "law"=true) (k0:PySem.W.keepIn K (.ref f0)=true)
    (a1:PySem.W.nsIn K mainGlobals "ends_of"=some (some (.ref f1))) (l1:K.lookup f1=some ⟨oc1,od1,.func (PySem.W.fnOf "ends_of" "ends_of" (Ar Bx) (Ai Bx) (AF Bx) .none kV1 dc1 pm1 an1 cd1 ct1),sl1⟩) (c1:PySem.W.codeIn K cd1 "ends_of"=true) (k1:PySem.W.keepIn K (.ref f1)=true)
    (a2:PySem.W.nsIn K mainGlobals "_law_tape"=some (some (.ref f2))) (l2:K.lookup f2=some ⟨oc2,od2,.func (PySem.W.fnOf "_law_tape" "_law_tape" (Ar EF) (Ai EF) (AF EF) .none kV2 dc2 pm2 an2 cd2 ct2),sl2⟩) (c2:PySem.W.codeIn K cd2 "_law_tape"=true) (k2:PySem.W.keepIn K (.ref f2)=true)
    (a3:PySem.W.nsIn K mainGlobals "_law_pick"=some (some (.ref f3))) (l3:K.lookup f3=some ⟨oc3,od3,.func (PySem.W.fnOf "_law_pick" "_law_pick" (Ar Cd) (Ai Cd) (AF Cd) .none kV3 dc3 pm3 an3 cd3 ct3),sl3⟩) (c3:PySem.W.codeIn K cd3 "_law_pick"=true) (k3:PySem.W.keepIn K (.ref f3)=true)
    (a4:PySem.W.nsIn K mainGlobals "_law_cost"=some (some (.ref f4))) (l4:K.lookup f4=some ⟨oc4,od4,.func (PySem.W.fnOf "_law_cost" "_law_cost" (Ar EI) (Ai EI) (AF EI) .none kV4 dc4 pm4 an4 cd4 ct4),sl4⟩) (c4:PySem.W.codeIn K cd4 "_law_cost"=true) (k4:PySem.W.keepIn K (.ref f4)=true)
    (a5:PySem.W.nsIn K mainGlobals "_law_works"=some (some (.ref f5))) (l5:K.lookup f5=some ⟨oc5,od5,.func (PySem.W.fnOf "_law_works" "_law_works" (Ar De) (Ai De) (AF De) .none kV5 dc5 pm5 an5 cd5 ct5),sl5⟩) (c5:PySem.W.codeIn K cd5 "_law_works"=true) (k5:PySem.W.keepIn K (.ref f5)=true)
    (a6:PySem.W.nsIn K mainGlobals "_law_wishes"=some (some (.ref f6))) (l6:K.lookup f6=some ⟨oc6,od6,.func (PySem.W.fnOf "_law_wishes" "_law_wishes" (Ar Co) (Ai Co) (AF Co) .none kV6 dc6 pm6 an6 cd6 ct6),sl6⟩) (c6:PySem.W.codeIn K cd6 "_law_wishes"=true) (k6:PySem.W.keepIn K (.ref f6)=true)
    (a7:PySem.W.nsIn K mainGlobals "_law_may"=some (some (.ref f7))) (l7:K.lookup f7=some ⟨oc7,od7,.func (PySem.W.fnOf "_law_may" "_law_may" (Ar Eu) (Ai Eu) (AF Eu) .none kV7 dc7 pm7 an7 cd7 ct7),sl7⟩) (c7:PySem.W.codeIn K cd7 "_law_may"=true) (k7:PySem.W.keepIn K (.ref f7)=true)
    (a8:PySem.W.nsIn K mainGlobals "_law_plan"=some (some (.ref f8))) (l8:K.lookup f8=some ⟨oc8,od8,.func (PySem.W.fnOf "_law_plan" "_law_plan" (Ar EH) (Ai EH) (AF EH) .none kV8 dc8 pm8 an8 cd8 ct8),sl8⟩) (c8:PySem.W.codeIn K cd8 "_law_plan"=true) (k8:PySem.W.keepIn K (.ref f8)=true)
    (a9:PySem.W.nsIn K mainGlobals "by_ends"=some (some (.ref f9))) (l9:K.lookup f9=some ⟨oc9,od9,.func (PySem.W.fnOf "by_ends" "by_ends" (Ar Bj) (Ai Bj) (AF Bj) .none kV9 dc9 pm9 an9 cd9 ct9),sl9⟩) (c9:PySem.W.codeIn K cd9 "by_ends"=true) (k9:PySem.W.keepIn K (.ref f9)=true)
    (a10:PySem.W.nsIn K mainGlobals "is_number"=some (some (.ref f10))) (l10:K.lookup f10=some ⟨oc10,od10,.func (PySem.W.fnOf "is_number" "is_number" (Ar Bw) (Ai Bw) (AF Bw) .none kV10 dc10 pm10 an10 cd10 ct10),sl10⟩) (c10:PySem.W.codeIn K cd10 "is_number"=true) (k10:PySem.W.keepIn K (.ref f10)=true)
    (a11:PySem.W.nsIn K mainGlobals "is_order"=some (some (.ref f11))) (l11:K.lookup f11=some ⟨oc11,od11,.func (PySem.W.fnOf "is_order" "is_order" (Ar CB) (Ai CB) (AF CB) .none kV11 dc11 pm11 an11 cd11 ct11),sl11⟩) (c11:PySem.W.codeIn K cd11 "is_order"=true) (k11:PySem.W.keepIn K (.ref f11)=true)
    (a12:PySem.W.nsIn K mainGlobals "run"=some (some (.ref f12))) (l12:K.lookup f12=some ⟨oc12,od12,.func (PySem.W.fnOf "run" "run" (Ar Et) (Ai Et) (AF Et) .none kV12 dc12 pm12 an12 cd12 ct12),sl12⟩) (c12:PySem.W.codeIn K cd12 "run"=true) (k12:PySem.W.keepIn K (.ref f12)=true)
    (a13:PySem.W.nsIn K mainGlobals "_law_plan_right"=some (some (.ref f13))) (l13:K.lookup f13=some ⟨oc13,od13,.func (PySem.W.fnOf "_law_plan_right" "_law_plan_right" (Ar Bi) (Ai Bi) (AF Bi) .none kV13 dc13 pm13 an13 cd13 ct13),sl13⟩) (c13:PySem.W.codeIn K cd13 "_law_plan_right"=true) (k13:PySem.W.keepIn K (.ref f13)=true)
    (a14:PySem.W.nsIn K mainGlobals "steps_at"=some (some (.ref f14))) (l14:K.lookup f14=some ⟨oc14,od14,.func (PySem.W.fnOf "steps_at" "steps_at" (Ar CA) (Ai CA) (AF CA) .none kV14 dc14 pm14 an14 cd14 ct14),sl14⟩) (c14:PySem.W.codeIn K cd14 "steps_at"=true) (k14:PySem.W.keepIn K (.ref f14)=true)
    (a15:PySem.W.nsIn K mainGlobals "cost_at"=some (some (.ref f15))) (l15:K.lookup f15=some ⟨oc15,od15,.func (PySem.W.fnOf "cost_at" "cost_at" (Ar CW) (Ai CW) (AF CW) .none kV15 dc15 pm15 an15 cd15 ct15),sl15⟩) (c15:PySem.W.codeIn K cd15 "cost_at"=true) (k15:PySem.W.keepIn K (.ref f15)=true)
    (a16:PySem.W.nsIn K mainGlobals "costs_of"=some (some (.ref f16))) (l16:K.lookup f16=some ⟨oc16,od16,.func (PySem.W.fnOf "costs_of" "costs_of" (Ar CC) (Ai CC) (AF CC) .none kV16 dc16 pm16 an16 cd16 ct16),sl16⟩) (c16:PySem.W.codeIn K cd16 "costs_of"=true) (k16:PySem.W.keepIn K (.ref f16)=true)
    (a17:PySem.W.nsIn K mainGlobals "_law_begin"=some (some (.ref f17))) (l17:K.lookup f17=some ⟨oc17,od17,.func (PySem.W.fnOf "_law_begin" "_law_begin" (Ar Df) (Ai Df) (AF Df) .none kV17 dc17 pm17 an17 cd17 ct17),sl17⟩) (c17:PySem.W.codeIn K cd17 "_law_begin"=true) (k17:PySem.W.keepIn K (.ref f17)=true)
    (a18:PySem.W.nsIn K mainGlobals "_law_rise"=some (some (.ref f18))) (l18:K.lookup f18=some ⟨oc18,od18,.func (PySem.W.fnOf "_law_rise" "_law_rise" (Ar EG) (Ai EG) (AF EG) .none kV18 dc18 pm18 an18 cd18 ct18),sl18⟩) (c18:PySem.W.codeIn K cd18 "_law_rise"=true) (k18:PySem.W.keepIn K (.ref f18)=true)
    (a19:PySem.W.nsIn K mainGlobals "_law_at"=some (some (.ref f19))) (l19:K.lookup f19=some ⟨oc19,od19,.func (PySem.W.fnOf "_law_at" "_law_at" (Ar GG) (Ai GG) (AF GG) .none kV19 dc19 pm19 an19 cd19 ct19),sl19⟩) (c19:PySem.W.codeIn K cd19 "_law_at"=true) (k19:PySem.W.keepIn K (.ref f19)=true)
    (a20:PySem.W.nsIn K mainGlobals "_law_costs_right"=some (some (.ref f20))) (l20:K.lookup f20=some ⟨oc20,od20,.func (PySem.W.fnOf "_law_costs_right" "_law_costs_right" (Ar Ba) (Ai Ba) (AF Ba) .none kV20 dc20 pm20 an20 cd20 ct20),sl20⟩) (c20:PySem.W.codeIn K cd20 "_law_costs_right"=true) (k20:PySem.W.keepIn K (.ref f20)=true)
    (z_list:PySem.W.nsIn K mainGlobals "list"=some none)
    (z_tuple:PySem.W.nsIn K mainGlobals "tuple"=some none)
    (z_len:PySem.W.nsIn K mainGlobals "len"=some none)
    (z_range:PySem.W.nsIn K mainGlobals "range"=some none)
    (z_repr:PySem.W.nsIn K mainGlobals "repr"=some none)
    (z_sum:PySem.W.nsIn K mainGlobals "sum"=some none)
    (z_min:PySem.W.nsIn K mainGlobals "min"=some none)
    (z_max:PySem.W.nsIn K mainGlobals "max"=some none)
    (z_abs:PySem.W.nsIn K mainGlobals "abs"=some none)
    (z_all:PySem.W.nsIn K mainGlobals "all"=some none)
    (z_any:PySem.W.nsIn K mainGlobals "any"=some none)
    (z_sorted:PySem.W.nsIn K mainGlobals "sorted"=some none)
    (z_zip:PySem.W.nsIn K mainGlobals "zip"=some none)
    (z_isinstance:PySem.W.nsIn K mainGlobals "isinstance"=some none)
    (z_int:PySem.W.nsIn K mainGlobals "int"=some none)
    (z_bool:PySem.W.nsIn K mainGlobals "bool"=some none)
    (z_str:PySem.W.nsIn K mainGlobals "str"=some none)
    (z_set:PySem.W.nsIn K mainGlobals "set"=some none)
    (z_enumerate:PySem.W.nsIn K mainGlobals "enumerate"=some none)
    (z_reversed:PySem.W.nsIn K mainGlobals "reversed"=some none)
    (z_dict:PySem.W.nsIn K mainGlobals "dict"=some none) :
    (∃ g,K.lookup mainGlobals=some g)/\∃ fd:FuncData,(∀ (s:Shared) (v:Value),BindsTo s fd ⟨[v],[]⟩ [("_law_script",v)])/\∀ base:Heap,(Aq K (tS P)).In base->base.Ns mainGlobals mg->(∀ x ∈ xS,CodeHd base (c x.1) (P x.1))->(∀ x ∈ xS,base.BuiltinsAt mg (P x.1))->FnOk l.prog w (Aq K (tS P)) mg base CX0 6 fa fd ["_law_script"] (spF (Aq K (tS P)) 1 F_law):=by
  have hP:∀ P' ∈ (tS P).map (·.1),h.get? P'=some (tabObj #[]):=λ P' hp=>by
    obtain⟨t,ht,rfl⟩:=List.mem_map.mp hp
    obtain⟨x,hxx,rfl⟩:=List.mem_map.mp ht
    exact(hx x hxx).1
  have e:=hfa.symm.trans (PySem.W.mg_of X G a0)
  cases e
  have F0:=Fun.mark (ts:=tS P) (BO (st:=E8) l0 c0 k0) X hP
  have D0:DefAt (Aq K (tS P)) mg "law" E8 _ _ ["_law_script"]:=⟨F0,PySem.W.mg_of X G a0,F0.binds (ps:=["_law_script"]) λ _ _ _ _ _ _ us hl=>match us,hl with | [_],_=>rfl⟩
  have F1:=Fun.mark (ts:=tS P) (BO (st:=Bx) l1 c1 k1) X hP
  have D1:DefAt (Aq K (tS P)) mg "ends_of" Bx _ _ ["works","plan"]:=⟨F1,PySem.W.mg_of X G a1,F1.binds (ps:=["works","plan"]) λ _ _ _ _ _ _ us hl=>match us,hl with | [_,_],_=>rfl⟩
  have F2:=Fun.mark (ts:=tS P) (BO (st:=EF) l2 c2 k2) X hP
  have D2:DefAt (Aq K (tS P)) mg "_law_tape" EF _ _ ["_law_script"]:=⟨F2,PySem.W.mg_of X G a2,F2.binds (ps:=["_law_script"]) λ _ _ _ _ _ _ us hl=>match us,hl with | [_],_=>rfl⟩
  have F3:=Fun.mark (ts:=tS P) (BO (st:=Cd) l3 c3 k3) X hP
  have D3:DefAt (Aq K (tS P)) mg "_law_pick" Cd _ _ ["_law_tape_here","_law_many"]:=⟨F3,PySem.W.mg_of X G a3,F3.binds (ps:=["_law_tape_here","_law_many"]) λ _ _ _ _ _ _ us hl=>match us,hl with | [_,_],_=>rfl⟩
  have F4:=Fun.mark (ts:=tS P) (BO (st:=EI) l4 c4 k4) X hP
  have D4:DefAt (Aq K (tS P)) mg "_law_cost" EI _ _ ["_law_tape_here","_law_way"]:=⟨F4,PySem.W.mg_of X G a4,F4.binds (ps:=["_law_tape_here","_law_way"]) λ _ _ _ _ _ _ us hl=>match us,hl with | [_,_],_=>rfl⟩
  have F5:=Fun.mark (ts:=tS P) (BO (st:=De) l5 c5 k5) X hP
  have D5:DefAt (Aq K (tS P)) mg "_law_works" De _ _ ["_law_tape_here","_law_many","_law_alike"]:=⟨F5,PySem.W.mg_of X G a5,F5.binds (ps:=["_law_tape_here","_law_many","_law_alike"]) λ _ _ _ _ _ _ us hl=>match us,hl with | [_,_,_],_=>rfl⟩
  have F6:=Fun.mark (ts:=tS P) (BO (st:=Co) l6 c6 k6) X hP
  have D6:DefAt (Aq K (tS P)) mg "_law_wishes" Co _ _ ["_law_tape_here","_law_many"]:=⟨F6,PySem.W.mg_of X G a6,F6.binds (ps:=["_law_tape_here","_law_many"]) λ _ _ _ _ _ _ us hl=>match us,hl with | [_,_],_=>rfl⟩
  have F7:=Fun.mark (ts:=tS P) (BO (st:=Eu) l7 c7 k7) X hP
  have D7:DefAt (Aq K (tS P)) mg "_law_may" Eu _ _ ["_law_works_here","_law_wishes_here","_law_left","_law_work"]:=⟨F7,PySem.W.mg_of X G a7,F7.binds (ps:=["_law_works_here","_law_wishes_here","_law_left","_law_work"]) λ _ _ _ _ _ _ us hl=>match us,hl with | [_,_,_,_],_=>rfl⟩
  have F8:=Fun.mark (ts:=tS P) (BO (st:=EH) l8 c8 k8) X hP
  have D8:DefAt (Aq K (tS P)) mg "_law_plan" EH _ _ ["_law_tape_here","_law_works_here","_law_wishes_here"]:=⟨F8,PySem.W.mg_of X G a8,F8.binds (ps:=["_law_tape_here","_law_works_here","_law_wishes_here"]) λ _ _ _ _ _ _ us hl=>match us,hl with | [_,_,_],_=>rfl⟩
  have F9:=Fun.mark (ts:=tS P) (BO (st:=Bj) l9 c9 k9) X hP
  have D9:DefAt (Aq K (tS P)) mg "by_ends" Bj _ _ ["works","plan"]:=⟨F9,PySem.W.mg_of X G a9,F9.binds (ps:=["works","plan"]) λ _ _ _ _ _ _ us hl=>match us,hl with | [_,_],_=>rfl⟩
  have F10:=Fun.mark (ts:=tS P) (BO (st:=Bw) l10 c10 k10) X hP
  have D10:DefAt (Aq K (tS P)) mg "is_number" Bw _ _ ["thing"]:=⟨F10,PySem.W.mg_of X G a10,F10.binds (ps:=["thing"]) λ _ _ _ _ _ _ us hl=>match us,hl with | [_],_=>rfl⟩
  have F11:=Fun.mark (ts:=tS P) (BO (st:=CB) l11 c11 k11) X hP
  have D11:DefAt (Aq K (tS P)) mg "is_order" CB _ _ ["works","wishes","thing"]:=⟨F11,PySem.W.mg_of X G a11,F11.binds (ps:=["works","wishes","thing"]) λ _ _ _ _ _ _ us hl=>match us,hl with | [_,_,_],_=>rfl⟩
  have F12:=Fun.mark (ts:=tS P) (BO (st:=Et) l12 c12 k12) X hP
  have D12:DefAt (Aq K (tS P)) mg "run" Et _ _ ["works","order"]:=⟨F12,PySem.W.mg_of X G a12,F12.binds (ps:=["works","order"]) λ _ _ _ _ _ _ us hl=>match us,hl with | [_,_],_=>rfl⟩
  have F13:=Fun.mark (ts:=tS P) (BO (st:=Bi) l13 c13 k13) X hP
  have D13:DefAt (Aq K (tS P)) mg "_law_plan_right" Bi _ _ ["_law_works_here","_law_wishes_here","_law_plan_here"]:=⟨F13,PySem.W.mg_of X G a13,F13.binds (ps:=["_law_works_here","_law_wishes_here","_law_plan_here"]) λ _ _ _ _ _ _ us hl=>match us,hl with | [_,_,_],_=>rfl⟩
  have F14:=Fun.mark (ts:=tS P) (BO (st:=CA) l14 c14 k14) X hP
  have D14:DefAt (Aq K (tS P)) mg "steps_at" CA _ _ ["rows","t"]:=⟨F14,PySem.W.mg_of X G a14,F14.binds (ps:=["rows","t"]) λ _ _ _ _ _ _ us hl=>match us,hl with | [_,_],_=>rfl⟩
  have F15:=Fun.mark (ts:=tS P) (BO (st:=CW) l15 c15 k15) X hP
  have D15:DefAt (Aq K (tS P)) mg "cost_at" CW _ _ ["cost","t"]:=⟨F15,PySem.W.mg_of X G a15,F15.binds (ps:=["cost","t"]) λ _ _ _ _ _ _ us hl=>match us,hl with | [_,_],_=>rfl⟩
  have F16:=Fun.mark (ts:=tS P) (BO (st:=CC) l16 c16 k16) X hP
  have D16:DefAt (Aq K (tS P)) mg "costs_of" CC _ _ ["works","ends"]:=⟨F16,PySem.W.mg_of X G a16,F16.binds (ps:=["works","ends"]) λ _ _ _ _ _ _ us hl=>match us,hl with | [_,_],_=>rfl⟩
  have F17:=Fun.mark (ts:=tS P) (BO (st:=Df) l17 c17 k17) X hP
  have D17:DefAt (Aq K (tS P)) mg "_law_begin" Df _ _ ["_law_cost_here"]:=⟨F17,PySem.W.mg_of X G a17,F17.binds (ps:=["_law_cost_here"]) λ _ _ _ _ _ _ us hl=>match us,hl with | [_],_=>rfl⟩
  have F18:=Fun.mark (ts:=tS P) (BO (st:=EG) l18 c18 k18) X hP
  have D18:DefAt (Aq K (tS P)) mg "_law_rise" EG _ _ ["_law_cost_here","_law_t"]:=⟨F18,PySem.W.mg_of X G a18,F18.binds (ps:=["_law_cost_here","_law_t"]) λ _ _ _ _ _ _ us hl=>match us,hl with | [_,_],_=>rfl⟩
  have F19:=Fun.mark (ts:=tS P) (BO (st:=GG) l19 c19 k19) X hP
  have D19:DefAt (Aq K (tS P)) mg "_law_at" GG _ _ ["_law_cost_here","_law_t"]:=⟨F19,PySem.W.mg_of X G a19,F19.binds (ps:=["_law_cost_here","_law_t"]) λ _ _ _ _ _ _ us hl=>match us,hl with | [_,_],_=>rfl⟩
  have F20:=Fun.mark (ts:=tS P) (BO (st:=Ba) l20 c20 k20) X hP
  have D20:DefAt (Aq K (tS P)) mg "_law_costs_right" Ba _ _ ["_law_works_here","_law_ends"]:=⟨F20,PySem.W.mg_of X G a20,F20.binds (ps:=["_law_works_here","_law_ends"]) λ _ _ _ _ _ _ us hl=>match us,hl with | [_,_],_=>rfl⟩
  have B:BltA mg:=⟨PySem.W.mg_none_of X G z_list,PySem.W.mg_none_of X G z_tuple,PySem.W.mg_none_of X G z_len,PySem.W.mg_none_of X G z_range,PySem.W.mg_none_of X G z_repr,PySem.W.mg_none_of X G z_sum,PySem.W.mg_none_of X G z_min,PySem.W.mg_none_of X G z_max,PySem.W.mg_none_of X G z_abs,PySem.W.mg_none_of X G z_all,PySem.W.mg_none_of X G z_any,PySem.W.mg_none_of X G z_sorted,PySem.W.mg_none_of X G z_zip,PySem.W.mg_none_of X G z_isinstance,PySem.W.mg_none_of X G z_int,PySem.W.mg_none_of X G z_bool,PySem.W.mg_none_of X G z_str,PySem.W.mg_none_of X G z_set,PySem.W.mg_none_of X G z_enumerate,PySem.W.mg_none_of X G z_reversed,PySem.W.mg_none_of X G z_dict⟩
  have hcd_by_ends:(cd9:Value)=.ref (c "by_ends"):=by
    obtain⟨_,_,a,ob,fd,h1,h2,h3,h4⟩:=hx _ (show x_by_ends ∈ xS by simp[xS])
    have e1:=h1.symm.trans (PySem.W.mg_of X G a9)
    cases e1
    have e2:=h2.symm.trans (X _ _ l9)
    cases e2
    cases h3
    exact h4
  have nd:((Do (Aq K (tS P))).map (·.1)).Nodup:=by rw[GC];simp
  have hg:∃ g,K.lookup mainGlobals=some g:=by
    cases e:K.lookup mainGlobals with
    | some g=>exact⟨g,rfl⟩
    | none=>have z:=a0;unfold PySem.W.nsIn at z;rw[e]at z;cases z
  refine⟨hg,PySem.W.fnOf "law" "law" (Ar E8) (Ai E8) (AF E8) .none kV0 dc0 pm0 an0 cd0 ct0,λ s v=>.of_eq rfl,λ base _ _ hd bl=>?_⟩
  have LC_by_ends:LamC (Aq K (tS P)) mg base (PySem.W.fnOf "by_ends" "by_ends" (Ar Bj) (Ai Bj) (AF Bj) .none kV9 dc9 pm9 an9 cd9 ct9) (c "by_ends") (P "by_ends") ((("by_ends":Str) ++ ".<locals>.") ++ "<lambda>") ⟨12,47,12,70⟩:=⟨hcd_by_ends,hd _ (show x_by_ends ∈ xS by simp[xS]),bl _ (show x_by_ends ∈ xS by simp[xS]),⟨12,47,0,0⟩,by rw[GC];exact List.mem_map.mpr ⟨(P x_by_ends.1,x_by_ends.2),List.mem_map.mpr ⟨x_by_ends,by simp[xS],rfl⟩,rfl⟩,nd,rfl,rfl⟩
  have G_ends_of:=T12.ok_ends_of (P:=l.prog) (w:=w) (base:=base) D1  B
  have G_tape:=T12.ok_tape (P:=l.prog) (w:=w) (base:=base) D2  B
  have G_pick:=T12.ok_pick (P:=l.prog) (w:=w) (base:=base) D3  B
  have G_cost:=T12.ok_cost (P:=l.prog) (w:=w) (base:=base) D4 D3 G_pick B
  have G_works:=T12.ok_works (P:=l.prog) (w:=w) (base:=base) D5 D3 G_pick D4 G_cost B
  have G_wishes:=T12.ok_wishes (P:=l.prog) (w:=w) (base:=base) D6 D3 G_pick B
  have G_may:=T12.ok_may (P:=l.prog) (w:=w) (base:=base) D7  B
  have G_plan:=T12.ok_plan (P:=l.prog) (w:=w) (base:=base) D8 D3 G_pick D7 G_may B
  have G_by_ends:=T12.ok_by_ends (P:=l.prog) (w:=w) (base:=base) D9 D1 G_ends_of LC_by_ends B
  have G_is_number:=T12.ok_is_number (P:=l.prog) (w:=w) (base:=base) D10  B
  have G_is_order:=T12.ok_is_order (P:=l.prog) (w:=w) (base:=base) D11 D10 G_is_number B
  have G_run:=T12.ok_run (P:=l.prog) (w:=w) (base:=base) D12  B
  have G_plan_right:=T12.ok_plan_right (P:=l.prog) (w:=w) (base:=base) D13 D1 G_ends_of D9 G_by_ends D11 G_is_order D12 G_run B
  have G_steps_at:=T12.ok_steps_at (P:=l.prog) (w:=w) (base:=base) D14  B
  have G_cost_at:=T12.ok_cost_at (P:=l.prog) (w:=w) (base:=base) D15 D14 G_steps_at B
  have G_costs_of:=T12.ok_costs_of (P:=l.prog) (w:=w) (base:=base) D16 D15 G_cost_at B
  have G_begin:=T12.ok_begin (P:=l.prog) (w:=w) (base:=base) D17  B
  have G_rise:=T12.ok_rise (P:=l.prog) (w:=w) (base:=base) D18  B
  have G_at:=T12.ok_at (P:=l.prog) (w:=w) (base:=base) D19 D17 G_begin D18 G_rise B
  have G_costs_right:=T12.ok_costs_right (P:=l.prog) (w:=w) (base:=base) D20 D16 G_costs_of D19 G_at B
  have G_law:=T12.ok_law (P:=l.prog) (w:=w) (base:=base) D0 D1 G_ends_of D2 G_tape D3 G_pick D5 G_works D6 G_wishes D8 G_plan D13 G_plan_right D20 G_costs_right B
  exact G_law
end T12
open PySem PySem.W PyProof.Rows
set_option maxRecDepth 100000 in
set_option maxHeartbeats 0 in
theorem PySem.Challenge.cw_benchdays_k12_ends_and_costs_holds : PySem.Challenge.rw_benchdays_k12_ends_and_costs.Holds := by
  w_on;o_law;k_head;(case hw=>w_witness2)
  k_fill
  refine L2.walkL T12.xS (l:=PySem.Challenge.rw_benchdays_k12_ends_and_costs) (n:=63) (k:=6) (F:=T12.F_law) rfl (by decide) rfl ⟨rfl,by decide,by decide,rfl⟩ (by intro x hx;simp only[T12.xS,List.mem_cons,List.not_mem_nil,or_false]at hx;subst hx;exact⟨_,rfl⟩) T12.law_eq (λ w h Y=>PySem.W.km_in_of Y) ?F
  case F=>
    intro w mg fa h c P KX G hmg hx
    refine' T12.all_mk KX G hmg hx ?a0 ?l0 ?c0 ?k0 ?a1 ?l1 ?c1 ?k1 ?a2 ?l2 ?c2 ?k2 ?a3 ?l3 ?c3 ?k3 ?a4 ?l4 ?c4 ?k4 ?a5 ?l5 ?c5 ?k5 ?a6 ?l6 ?c6 ?k6 ?a7 ?l7 ?c7 ?k7 ?a8 ?l8 ?c8 ?k8 ?a9 ?l9 ?c9 ?k9 ?a10 ?l10 ?c10 ?k10 ?a11 ?l11 ?c11 ?k11 ?a12 ?l12 ?c12 ?k12 ?a13 ?l13 ?c13 ?k13 ?a14 ?l14 ?c14 ?k14 ?a15 ?l15 ?c15 ?k15 ?a16 ?l16 ?c16 ?k16 ?a17 ?l17 ?c17 ?k17 ?a18 ?l18 ?c18 ?k18 ?a19 ?l19 ?c19 ?k19 ?a20 ?l20 ?c20 ?k20 ?z_list ?z_tuple ?z_len ?z_range ?z_repr ?z_sum ?z_min ?z_max ?z_abs ?z_all ?z_any ?z_sorted ?z_zip ?z_isinstance ?z_int ?z_bool ?z_str ?z_set ?z_enumerate ?z_reversed ?z_dict
    (case a0=>k_is)
    (case l0=>k_is)
    (case c0=>k_is)
    (case k0=>k_is)
    (case a1=>k_is)
    (case l1=>k_is)
    (case c1=>k_is)
    (case k1=>k_is)
    (case a2=>k_is)
    (case l2=>k_is)
    (case c2=>k_is)
    (case k2=>k_is)
    (case a3=>k_is)
    (case l3=>k_is)
    (case c3=>k_is)
    (case k3=>k_is)
    (case a4=>k_is)
    (case l4=>k_is)
    (case c4=>k_is)
    (case k4=>k_is)
    (case a5=>k_is)
    (case l5=>k_is)
    (case c5=>k_is)
    (case k5=>k_is)
    (case a6=>k_is)
    (case l6=>k_is)
    (case c6=>k_is)
    (case k6=>k_is)
    (case a7=>k_is)
    (case l7=>k_is)
    (case c7=>k_is)
    (case k7=>k_is)
    (case a8=>k_is)
    (case l8=>k_is)
    (case c8=>k_is)
    (case k8=>k_is)
    (case a9=>k_is)
    (case l9=>k_is)
    (case c9=>k_is)
    (case k9=>k_is)
    (case a10=>k_is)
    (case l10=>k_is)
    (case c10=>k_is)
    (case k10=>k_is)
    (case a11=>k_is)
    (case l11=>k_is)
    (case c11=>k_is)
    (case k11=>k_is)
    (case a12=>k_is)
    (case l12=>k_is)
    (case c12=>k_is)
    (case k12=>k_is)
    (case a13=>k_is)
    (case l13=>k_is)
    (case c13=>k_is)
    (case k13=>k_is)
    (case a14=>k_is)
    (case l14=>k_is)
    (case c14=>k_is)
    (case k14=>k_is)
    (case a15=>k_is)
    (case l15=>k_is)
    (case c15=>k_is)
    (case k15=>k_is)
    (case a16=>k_is)
    (case l16=>k_is)
    (case c16=>k_is)
    (case k16=>k_is)
    (case a17=>k_is)
    (case l17=>k_is)
    (case c17=>k_is)
    (case k17=>k_is)
    (case a18=>k_is)
    (case l18=>k_is)
    (case c18=>k_is)
    (case k18=>k_is)
    (case a19=>k_is)
    (case l19=>k_is)
    (case c19=>k_is)
    (case k19=>k_is)
    (case a20=>k_is)
    (case l20=>k_is)
    (case c20=>k_is)
    (case k20=>k_is)
    (case z_list=>k_is)
    (case z_tuple=>k_is)
    (case z_len=>k_is)
    (case z_range=>k_is)
    (case z_repr=>k_is)
    (case z_sum=>k_is)
    (case z_min=>k_is)
    (case z_max=>k_is)
    (case z_abs=>k_is)
    (case z_all=>k_is)
    (case z_any=>k_is)
    (case z_sorted=>k_is)
    (case z_zip=>k_is)
    (case z_isinstance=>k_is)
    (case z_int=>k_is)
    (case z_bool=>k_is)
    (case z_str=>k_is)
    (case z_set=>k_is)
    (case z_enumerate=>k_is)
    (case z_reversed=>k_is)
    (case z_dict=>k_is)
