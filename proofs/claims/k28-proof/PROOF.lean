import PyProof.Rows.All
import Wide.All
import OpenK.AllK
import Wide.FinOn
import Lean
import PyProof.EqAt
import PyProof.EqKinds
import PyProof.TupleCall
import KE.KSortKey
import PyProof.ListMulRoad
import PyProof.Draws
import PyProof.EnumMake
import PyProof.ListNew
import KE.KRevIter
import KE.KMinKey
import PySem.Challenge.RW_benchdays_k28_whole_last_first_is_best
set_option Elab.async false
set_option linter.all false
set_option maxRecDepth 100000
set_option compiler.extract_closed false
local macro_rules | `(tactic| omega) => `(tactic| first | lia | omega (config := {}))
namespace L2
open PySem PySem.Spec PyProof.Rows
noncomputable abbrev Key:=Sum Int Str
noncomputable def Gw:Key->Value->Bool
  | .inl k,v=>Value.isInt k v
  | .inr x,v=>Value.isStrOf x v
noncomputable def Wn(w:World):Key->Int
  | .inl k=>hashInt k
  | .inr x=>hashStr w x
theorem BT:∀ {k:Key} {v:Value},Gw k v=true->(∃ i t,k=Sum.inl i/\v=Value.int i t) ∨ (∃ x t,k=Sum.inr x/\v=Value.str x t)
  | .inl i,v,h=>by
    obtain⟨t,e⟩:=Value.isInt_shape (k:=i) (v:=v) h
    exact .inl ⟨i,t,rfl,e⟩
  | .inr x,v,h=>by
    obtain⟨t,e⟩:=Value.isStrOf_shape (x:=x) (v:=v) h
    exact .inr ⟨x,t,rfl,e⟩
theorem Ob(i:Int)(t:Tok):Gw (.inl i) (.int i t)=true:=by simp[Gw,Value.isInt]
theorem Oa(x:Str)(t:Tok):Gw (.inr x) (.str x t)=true:=by simp[Gw,Value.isStrOf]
theorem VL(a b:Int):decide ((Sum.inl a:Key)=Sum.inl b)=(a == b):=by
  by_cases e:a=b
  . subst e;simp
  . have h:¬ (Sum.inl a:Key)=Sum.inl b:=λ q=>e (Sum.inl.inj q)
    rw[decide_eq_false h]
    exact(beq_eq_false_iff_ne.mpr e).symm
theorem VH(a b:Str):decide ((Sum.inr a:Key)=Sum.inr b)=decide (a=b):=by
  by_cases e:a=b
  . subst e;simp
  . have h:¬ (Sum.inr a:Key)=Sum.inr b:=λ q=>e (Sum.inr.inj q)
    rw[decide_eq_false h,decide_eq_false e]
theorem VJ(a:Int)(b:Str):decide ((Sum.inl a:Key)=Sum.inr b)=false:=decide_eq_false (λ q=>nomatch q)
theorem VI(a:Str)(b:Int):decide ((Sum.inr a:Key)=Sum.inl b)=false:=decide_eq_false (λ q=>nomatch q)
noncomputable def Bf(prog:Program)(w:World):PySem.KeyKind prog w Key where
  is:=Gw
  hash:=Wn w
  inj:=λ v a b ha hb=>by
    rcases BT ha with⟨i,t,rfl,rfl⟩|⟨x,t,rfl,rfl⟩
    . rcases BT hb with⟨j,u,rfl,e⟩|⟨y,u,rfl,e⟩
      . injection e with e1 _;rw[e1]
      . exact nomatch e
    . rcases BT hb with⟨j,u,rfl,e⟩|⟨y,u,rfl,e⟩
      . exact nomatch e
      . injection e with e1 _;rw[e1]
  byValue:=λ k v h=>by
    rcases BT h with⟨i,t,rfl,rfl⟩|⟨x,t,rfl,rfl⟩ <;> rfl
  pyHash:=λ hv h=>by
    rcases BT hv with⟨i,t,rfl,rfl⟩|⟨x,t,rfl,rfl⟩
    . exact wpAny_pyHash_int h
    . exact wpAny_pyHash_str h
  eqBool:=λ hu hv h=>by
    rcases BT hu with⟨i,t,rfl,rfl⟩|⟨x,t,rfl,rfl⟩
    . rcases BT hv with⟨j,u,rfl,rfl⟩|⟨y,u,rfl,rfl⟩
      . rw[VL]at h;exact wpAny_eqBool_int h
      . rw[VJ]at h;exact SeqAt.EqAt.int_str i t y u _ _ _ _ h
    . rcases BT hv with⟨j,u,rfl,rfl⟩|⟨y,u,rfl,rfl⟩
      . rw[VI]at h;exact SeqAt.EqAt.str_int x t j u _ _ _ _ h
      . rw[VH]at h;exact wpAny_eqBool_str h
  «strs»:=λ k x t v h=>by
    rcases BT h with⟨i,u,rfl,e⟩|⟨y,u,rfl,e⟩
    . exact nomatch e
    . injection e with e1 _
      subst e1
      cases v <;> rfl
theorem Lu(prog:Program)(w:World)(i:Int)(t:Tok):(Bf prog w).is (.inl i) (.int i t)=true:=Ob i t
theorem Lr(prog:Program)(w:World)(x:Str)(t:Tok):(Bf prog w).is (.inr x) (.str x t)=true:=Oa x t
end L2
namespace L2
open PySem PySem.Spec PyProof.Rows
inductive V where
  | non|bl (b:Bool)|int (i:Int)|str (x:Str)|byt (b:Array UInt8)|flt (b:UInt64)|ref (a:Addr)|ty (n:String)
  deriving DecidableEq
noncomputable def RelV:V->Value->Prop
  | .non,u=>u=Value.none
  | .bl b,u=>u=Value.bool b
  | .int i,u=>∃ t,u=Value.int i t
  | .str x,u=>∃ t,u=Value.str x t
  | .byt b,u=>∃ t,u=Value.bytes b t
  | .flt b,u=>∃ t,u=Value.float b t
  | .ref a,u=>u=Value.ref a
  | .ty n,u=>u=Value.type n
noncomputable abbrev Vals:List V->List Value->Prop:=Paired RelV
theorem Vals.length{xs:List V}{us:List Value}(r:Vals xs us):xs.length=us.length:=Paired.length r
theorem Vals.get:∀ {xs:List V} {us:List Value} {i:Nat} {x:V},Vals xs us->xs[i]? = some x->∃ u,us[i]? = some u/\RelV x u
  | _,_,_,_,.nil,e=>by simp at e
  | _,_,0,_,.cons r _,e=>by simp at e;subst e;exact⟨_,rfl,r⟩
  | _,_,i + 1,x,.cons _ t,e=>by
    obtain⟨u,h1,h2⟩:=Vals.get (i:=i) (x:=x) t (by simpa using e)
    exact⟨u,by simpa using h1,h2⟩
theorem Vals.set{x:V}{u:Value}(r:RelV x u):∀ {xs:List V} {us:List Value} (i:Nat),Vals xs us->Vals (xs.set i x) (us.set i u)
  | _,_,_,.nil=>.nil
  | _,_,0,.cons _ t=>.cons r t
  | _,_,i + 1,.cons q t=>.cons q (Vals.set r i t)
theorem Vals.append:∀ {xs ys:List V} {us ws:List Value},Vals xs us->Vals ys ws->Vals (xs ++ ys) (us ++ ws)
  | _,_,_,_,.nil,s=>s
  | _,_,_,_,.cons r t,s=>.cons r (Vals.append t s)
theorem Vals.take:∀ {xs:List V} {us:List Value} (n:Nat),Vals xs us->Vals (xs.take n) (us.take n)
  | _,_,0,_=>.nil
  | _,_,_ + 1,.nil=>.nil
  | _,_,n + 1,.cons r t=>.cons r (Vals.take n t)
theorem Vals.drop:∀ {xs:List V} {us:List Value} (n:Nat),Vals xs us->Vals (xs.drop n) (us.drop n)
  | _,_,0,r=>r
  | _,_,_ + 1,.nil=>.nil
  | _,_,n + 1,.cons _ t=>Vals.drop n t
noncomputable def RelO:Option V->Option Value->Prop
  | some v,some u=>RelV v u
  | none,none=>True
  | _,_=>False
noncomputable def KV{κ:Type}:List (κ × V)->List (κ × Value)->Prop:=Paired λ(p:κ × V) (q:κ × Value)=>p.1=q.1/\RelV p.2 q.2
noncomputable def kV:Key->V
  | .inl i=>.int i
  | .inr x=>.str x
inductive HO where
  /-- a list -/
  | lst (xs:List V)
  /-- a tuple (never changes) -/
  | tup (xs:List V)
  /-- a dict whose keys are ints and texts;one whose keys are tuples of ints and texts (the empty one is both) -/
  | dK (kvs:List (Key × V))|dT (kvs:List (List Key × V))
  /-- a set of ints: its members,its size -/
  | set (S:Int->Bool) (n:Nat)
  /-- an instance of the class at C,its dict at dx,its attributes -/
  | ins (C dx:Addr) (fs:List (Str × V))
  /-- the dict of the instance at x -/
  | own (x:Addr)
  /-- the dict of an exception -/
  | xd (fs:List (Str × V))
  /-- a bound method,f of x -/
  | met (f x:Addr)
  /-- a range object lo,lo + 1,.. below hi -/
  | rng (lo hi:Int)
  /-- a thing that is known to the object (the script;a dict while a loop walks it): read,never written while it is so -/
  | frz (o:Obj) (u:HO)
  /-- a code object's table -/
  | tbl (ps:Array Value)
  /-- any other thing,by what is true of its one object (a def of one's own: SetO a S n:=HO.ext λ h=>..) -/
  | ext (φ:Heap->Prop)
noncomputable abbrev Hp:=Addr->Option HO
noncomputable def upd(H:Hp)(a:Addr)(o:HO):Hp:=λ b=>if b=a then some o else H b
theorem AK{H:Hp}{a:Addr}{o:HO}:upd H a o a=some o:=by unfold upd;rw[if_pos rfl]
theorem AF{H:Hp}{a b:Addr}{o:HO}(h:b ≠ a):upd H a o b=H b:=by unfold upd;rw[if_neg h]
theorem W2{H:Hp}{a b:Addr}{o u:HO}(h:H a=some o)(h':H b=some u)(d:o ≠ u):a ≠ b:=by
  intro e;subst e;rw[h]at h';exact d (Option.some.inj h')
theorem Ar{H:Hp}{a b:Addr}{o:HO}(h:H a=some o)(h':H b=none):a ≠ b:=by
  intro e;subst e;rw[h]at h';cases h'
section
variable(P:Program)(w:World)
noncomputable def ObjOk(H:Hp)(h:Heap)(a:Addr):HO->Prop
  | .lst xs=>xs.length <= sizeLine/\∃ (its:List Value) (n:Nat),Vals xs its/\h.get? a=some { cls:=.type "list",data:=.seq its.toArray n }
  | .tup xs=>xs.length <= sizeLine/\∃ its:List Value,Vals xs its/\IsTup h a its.toArray
  | .dK kvs=>kvs.length <= sizeLine/\(a == sysModules)=false/\∃ vs,KV kvs vs/\h.DictOf (Bf P w) a vs
  | .dT kvs=>kvs.length <= sizeLine/\(a == sysModules)=false/\∃ xs:List (List Key × Addr × Value),
      Paired (λ(p:List Key × V) (q:List Key × Addr × Value)=>p.1=q.1/\H q.2.1=some (.tup (p.1.map kV))/\RelV p.2 q.2.2) kvs xs /\
      ∃ o es ep,h.get? a=some o/\o.ExactDict/\o.data=.dict es ep/\es.toList=xs.map (entryOfKey (tupleKind (Bf P w)))/\(xs.map (·.1)).Nodup
  | .set S n=>h.SetOf (intKind P w) a S n
  | .ins C dx fs=>H dx=some (.own a)/\fs.length <= 1000/\dx ≠ a/\h.get? a=some (PySem.W.instObj C dx) /\
      ∃ mA,h.Ns1 dx mA/\(∀ f,RelO (fs.lookup f) (mA f))/\PySem.Within mA (fs.map (·.1))
  | .own _=>∃ o,h.get? a=some o
  | .xd fs=>∃ mA,h.Ns1 a mA/\∀ f,RelO (fs.lookup f) (mA f)
  | .rng lo hi=>∃ t u v,h.get? a=some { cls:=.type "range",data:=.fields #[.int lo t,.int hi u,.int 1 v] }
  | .frz o u=>h.get? a=some o/\ObjOk H h a u
  | .tbl ps=>h.get? a=some { cls:=.none,data:=.fields ps }
  | .met f x=>h.get? a=some (PySem.W.methodObj (.ref f) (.ref x))
  | .ext φ=>φ h/\(∃ o,h.get? a=some o)/\∀ h1 h2:Heap,φ h1->(∀ o,h1.get? a=some o->h2.get? a=some o)->φ h2
noncomputable def HOk(H:Hp)(h:Heap):Prop:=∀ a o,H a=some o->ObjOk P w H h a o
end
section
variable{P:Program}{w:World}{H H':Hp}{h h':Heap}{a:Addr}{o:HO}
theorem ObjOk.lt(x:ObjOk P w H h a o):a < h.objs.size:=by
  cases o with
  | lst xs=>obtain⟨_,_,_,_,e⟩:=x;exact Heap.lt_size e
  | tup xs=>obtain⟨_,_,_,p⟩:=x;exact p.lt
  | dK kvs=>obtain⟨_,_,_,_,o,_,_,e,_⟩:=x;exact Heap.lt_size e
  | dT kvs=>obtain⟨_,_,_,_,o,_,_,e,_⟩:=x;exact Heap.lt_size e
  | set S n=>obtain⟨o,_,_,_,e,_⟩:=x;exact Heap.lt_size e
  | ins C dx fs=>obtain⟨_,_,_,e,_⟩:=x;exact Heap.lt_size e
  | own y=>obtain⟨_,e⟩:=x;exact Heap.lt_size e
  | xd fs=>obtain⟨_,⟨_,_,_,e,_⟩,_⟩:=x;exact Heap.lt_size e
  | rng lo hi=>obtain⟨_,_,_,e⟩:=x;exact Heap.lt_size e
  | frz ob u=>obtain⟨e,_⟩:=x;exact Heap.lt_size e
  | tbl ps=>exact Heap.lt_size (show h.get? a=some _ from x)
  | met f y=>exact Heap.lt_size (show h.get? a=some _ from x)
  | ext φ=>obtain⟨_,⟨_,e⟩,_⟩:=x;exact Heap.lt_size e
theorem Paired.mapP{α β:Type}{F G:α->β->Prop}:∀ {l₁:List α} {l₂:List β},Paired F l₁ l₂->(∀ a b,F a b->G a b)->Paired G l₁ l₂
  | _,_,.nil,_=>.nil
  | _,_,.cons r t,f=>.cons (f _ _ r) (Paired.mapP t f)
theorem ObjOk.stay(x:ObjOk P w H h a o)(k:∀ b u,(b=a ∨ H b=some (.own a))->h.get? b=some u->h'.get? b=some u)
    (ho:∀ b,H b=some (.own a)->H' b=some (.own a)) (ht:∀ b xs,H b=some (.tup xs)->H' b=some (.tup xs)):ObjOk P w H' h' a o:=by
  induction o with
  | lst xs=>obtain⟨z,its,n,r,e⟩:=x;exact⟨z,its,n,r,k _ _ (.inl rfl) e⟩
  | tup xs=>obtain⟨z,its,r,ob,e,c⟩:=x;exact⟨z,its,r,ob,k _ _ (.inl rfl) e,c⟩
  | dK kvs=>obtain⟨z,y,vs,r,ob,es,ep,e,c⟩:=x;exact⟨z,y,vs,r,ob,es,ep,k _ _ (.inl rfl) e,c⟩
  | dT kvs=>
    obtain⟨z,y,xs,r,ob,es,ep,e,c⟩:=x
    exact⟨z,y,xs,Paired.mapP r λ p q z=>⟨z.1,ht _ _ z.2.1,z.2.2⟩,ob,es,ep,k _ _ (.inl rfl) e,c⟩
  | set S n=>obtain⟨ob,es,ep,t,e,c⟩:=x;exact⟨ob,es,ep,t,k _ _ (.inl rfl) e,c⟩
  | ins C dx fs=>
    obtain⟨d,z,ne,e,mA,⟨od,es,ep,e2,c⟩,r⟩:=x
    exact⟨ho _ d,z,ne,k _ _ (.inl rfl) e,mA,⟨od,es,ep,k _ _ (.inr d) e2,c⟩,r⟩
  | own y=>obtain⟨ob,e⟩:=x;exact⟨ob,k _ _ (.inl rfl) e⟩
  | xd fs=>obtain⟨mA,⟨od,es,ep,e,c⟩,r⟩:=x;exact⟨mA,⟨od,es,ep,k _ _ (.inl rfl) e,c⟩,r⟩
  | rng lo hi=>obtain⟨t,u,v,e⟩:=x;exact⟨t,u,v,k _ _ (.inl rfl) e⟩
  | frz ob u ih=>obtain⟨e,q⟩:=x;exact⟨k _ _ (.inl rfl) e,ih q⟩
  | tbl ps=>
    have e:h.get? a=some { cls:=.none,data:=.fields ps }:=x
    show h'.get? a=some { cls:=.none,data:=.fields ps }
    exact k a _ (.inl rfl) e
  | met f y=>
    have e:h.get? a=some (PySem.W.methodObj (.ref f) (.ref y)):=x
    show h'.get? a=some (PySem.W.methodObj (.ref f) (.ref y))
    exact k a _ (.inl rfl) e
  | ext φ=>obtain⟨p,⟨o,e⟩,st⟩:=x;exact⟨st _ _ p λ o q=>k _ _ (.inl rfl) q,⟨o,k _ _ (.inl rfl) e⟩,st⟩
theorem HOk.lt(x:HOk P w H h)(e:H a=some o):a < h.objs.size:=(x a o e).lt
theorem HOk.fresh(x:HOk P w H h)(e:h.objs.size <= a):H a=none:=by
  cases q:H a with
  | none=>rfl
  | some u=>exact absurd (Nat.lt_of_lt_of_le (x.lt q) e) (Nat.lt_irrefl _)
theorem HOk.kept(x:HOk P w H h)(k:∀ b u,h.get? b=some u->h'.get? b=some u):HOk P w H h':=λ a o e=>
  (x a o e).stay (λ b u _ q=>k b u q) (λ _ q=>q) λ _ _ q=>q
theorem HOk.laid(x:HOk P w H h)(k:∀ b u,h.get? b=some u->h'.get? b=some u)(hp:h.objs.size <= a)(new:ObjOk P w (upd H a o) h' a o):HOk P w (upd H a o) h':=λ b u e=>by
  have hn:=x.fresh hp
  by_cases hb:b=a
  . subst hb;rw[AK]at e;cases e;exact new
  . rw[AF hb]at e
    exact(x b u e).stay (λ c v _ q=>k c v q) (λ c q=>by rw[AF (Ar q hn)];exact q) λ c xs q=>by rw[AF (Ar q hn)];exact q
end
noncomputable def Rd(H:Hp)(a:Addr)(u:HO):Prop:=H a=some u ∨ ∃ o,H a=some (.frz o u)
theorem Rd.ok{P:Program}{w:World}{H:Hp}{h:Heap}{a:Addr}{u:HO}(r:Rd H a u)(x:HOk P w H h):ObjOk P w H h a u:=by
  rcases r with r|⟨o,r⟩
  . exact x a u r
  . obtain⟨_,q⟩:=x a _ r
    exact q
noncomputable def Mut:Option HO->Prop
  | some (.lst _)=>True
  | some (.dK _)=>True
  | some (.dT _)=>True
  | some (.set _ _)=>True
  | some (.ins _ _ _)=>True
  | some (.ext _)=>True
  | _=>False
section
variable{P:Program}{w:World}{H:Hp}{h h':Heap}{x e:Addr}{o':HO}
theorem HOk.write(ok:HOk P w H h)(mu:Mut (H x))(he:e=x ∨ H e=some (.own x))(k:∀ b u,b ≠ e->h.get? b=some u->h'.get? b=some u)(heo:∃ u,h'.get? e=some u)
    (new:ObjOk P w (upd H x o') h' x o'):HOk P w (upd H x o') h':=λ b u q=>by
  have nown:∀ c y,H c=some (.own y)->c ≠ x:=λ c y r z=>by subst z;rw[r]at mu;exact mu
  have ntup:∀ c xs,H c=some (.tup xs)->c ≠ x:=λ c xs r z=>by subst z;rw[r]at mu;exact mu
  by_cases hb:b=x
  . subst hb;rw[AK]at q;cases q;exact new
  . rw[AF hb]at q
    by_cases hbe:b=e
    . have q':H b=some (.own x):=by
        rcases he with z|z
        . exact absurd (hbe.trans z) hb
        . rw[hbe];exact z
      rw[q]at q';cases q'
      obtain⟨v,hv⟩:=heo
      exact⟨v,by rw[hbe];exact hv⟩
    . refine(ok b u q).stay (λ c v hc r=>k c v ?_ r) (λ c r=>by rw[AF (nown c b r)];exact r) λ c xs r=>by rw[AF (ntup c xs r)];exact r
      rcases hc with rfl|hc
      . exact hbe
      . rintro rfl
        rcases he with z|z
        . exact nown c b hc z
        . rw[hc]at z;cases z;exact hb rfl
end
structure Un(fs ex:List Addr)(H H':Hp)(h h':Heap):Prop where
  keep:∀ b o,h.get? b=some o->H b=none->b ∉ fs->b ∉ ex->h'.get? b=some o
  slot:∀ b o,h.get? b=some o->H b=none->b ∈ fs->b ∉ ex->∃ sl,h'.get? b=some { o with slots:=sl }
  free:∀ b o,h.get? b=some o->H b=none->b ∉ ex->H' b=none
  there:∀ b o,h.get? b=some o->b ∉ ex->∃ o',h'.get? b=some o'
  tups:∀ b xs,H b=some (.tup xs)->H' b=some (.tup xs)
  frzs:∀ b o u,H b=some (.frz o u)->H' b=some (.frz o u)
  tbls:∀ b ps,H b=some (.tbl ps)->∃ more,H' b=some (.tbl (ps ++ more))
section
variable{fs fs' ex ex':List Addr}{H H1 H2:Hp}{h h1 h2 h':Heap}{a x e:Addr}{o:HO}
theorem Un.any(u:Un fs ex H H1 h h1){b:Addr}{ob:Obj}(q:h.get? b=some ob)(n:H b=none)(hx:b ∉ ex):∃ sl,h1.get? b=some { ob with slots:=sl }:=by
  by_cases hb:b ∈ fs
  . exact u.slot b ob q n hb hx
  . exact⟨ob.slots,u.keep b ob q n hb hx⟩
theorem Un.kept(k:∀ b u,h.get? b=some u->h'.get? b=some u):Un fs ex H H h h':=
  ⟨λ b ob q _ _ _=>k b ob q,λ b ob q _ _ _=>⟨ob.slots,k b ob q⟩,λ _ _ _ n _=>n,λ b ob q _=>⟨ob,k b ob q⟩,λ _ _ q=>q,λ _ _ _ q=>q,λ _ ps q=>⟨#[],by rw[q];simp⟩⟩
theorem Un.refl:Un fs ex H H h h:=Un.kept λ _ _ q=>q
theorem Un.laid(k:∀ b u,h.get? b=some u->h'.get? b=some u)(hp:h.objs.size <= a)(hn:H a=none):Un fs ex H (upd H a o) h h' where
  keep:=λ b u q _ _ _=>k b u q
  slot:=λ b u q _ _ _=>⟨u.slots,k b u q⟩
  free:=λ b u q n _=>by rw[AF (Nat.ne_of_lt (Nat.lt_of_lt_of_le (Heap.lt_size q) hp))];exact n
  there:=λ b u q _=>⟨u,k b u q⟩
  tups:=λ b xs q=>by rw[AF (Ar q hn)];exact q
  frzs:=λ b u xs q=>by rw[AF (Ar q hn)];exact q
  tbls:=λ b ps q=>⟨#[],by rw[AF (Ar q hn),q];simp⟩
theorem Un.write(mu:Mut (H x))(he:e=x ∨ H e=some (.own x))(k:∀ b u,b ≠ e->h.get? b=some u->h'.get? b=some u)(heo:∃ u,h'.get? e=some u):Un fs ex H (upd H x o) h h':=by
  have hx:∀ b,H b=none->b ≠ x:=λ b n z=>by subst z;rw[n]at mu;exact mu
  have hb:∀ b,H b=none->b ≠ e:=λ b n z=>by
    subst z
    rcases he with r|r
    . exact hx b n r
    . rw[n]at r;cases r
  have hm:∀ b u,H b=some u->¬ Mut (some u)->b ≠ x:=λ b u q nm z=>by subst z;rw[q]at mu;exact nm mu
  refine⟨λ b u q n _ _=>k b u (hb b n) q,λ b u q n _ _=>⟨u.slots,k b u (hb b n) q⟩,λ b u q n _=>by rw[AF (hx b n)];exact n,λ b u q _=>?_,
    λ b xs q=>by rw[AF (hm b _ q λ z=>z)];exact q,λ b u xs q=>by rw[AF (hm b _ q λ z=>z)];exact q,λ b ps q=>⟨#[],by rw[AF (hm b _ q λ z=>z),q];simp⟩⟩
  by_cases hbe:b=e
  . subst hbe;exact heo
  . exact⟨u,k b u hbe q⟩
end
noncomputable def trk(h:Heap)(H:Hp):List Addr:=(List.range h.objs.size).filter λ a=>(H a).isSome
noncomputable def G5(h:Heap)(H:Hp):Heap:=PySem.W.hideAll h (trk h H)
theorem Oe(h:Heap)(H:Hp):(G5 h H).objs.size=h.objs.size:=PySem.W.hideAll_size _ _
theorem Qp{h:Heap}{H:Hp}{b:Addr}{o:Obj}(e:h.get? b=some o)(n:H b=none):(G5 h H).get? b=some o:=
  PySem.W.hideAll_get _ e λ hm=>by
    have q:(H b).isSome=true:=(List.mem_filter.mp hm).2
    rw[n]at q;simp at q
theorem T6{h:Heap}{H:Hp}{b:Addr}{o:Obj}(e:(G5 h H).get? b=some o):h.get? b=some o/\H b=none:=by
  have e':h.get? b=some o:=PySem.W.of_hideAll (trk h H) e
  refine⟨e',?_⟩
  cases q:H b with
  | none=>rfl
  | some x=>
    have hm:b ∈ trk h H:=List.mem_filter.mpr ⟨List.mem_range.mpr (Heap.lt_size e'),by simp[q]⟩
    have z:(G5 h H).get? b=none:=PySem.W.hideAll_none (trk h H) hm
    rw[z]at e;cases e
noncomputable def Tr(g h:Heap)(L:Addr):List (Addr × Obj):=(List.range h.objs.size).filterMap λ a=>if a=L ∨ (g.get? a).isSome=true then none else(h.get? a).map λ o=>(a,o)
noncomputable def rest(g h:Heap)(L d:Addr):List (Addr × Obj):=(Tr g h L).filter λ p=>decide (p.1 ≠ d)
end L2
namespace L2
open PySem PySem.Spec PyProof.Rows
structure Mod(K:PySem.W.Frag)(mg:Str->Option Value)(base:Heap):Prop where
  kin:K.In base
  glob:base.Ns mainGlobals mg
  blt:∃ mb,base.Ns builtinsNs mb/\∀ x:Str,x ≠ "__name__"->mb x=bootBuiltins x
  nolimit:base.NoLimit
structure Cx where
  prog:Program
  w:World
  K:PySem.W.Frag
  mg:Str->Option Value
  base:Heap
  A:Around
  N:List Str
  s₀:Shared
  H₀:Hp
  env:Env
  outer:List Env
  stack:List Env
  ex:List Addr
  fn:Str->Bool
  calm:Bool
  pn:List (Addr × Obj)
  xe:Value->Shared->Prop
noncomputable def frs(l:List Env):List Addr:=l.filterMap (·.frame)
noncomputable abbrev Cx.fs(X:Cx):List Addr:=frs X.outer
noncomputable def Vis(sc:Scope)(x:Str):Prop:=sc.names.lookup x=some .local ∨ sc.names.lookup x=some .cell ∨ sc.names.lookup x=some .free
noncomputable def Loc(sc:Scope)(x:Str):Prop:=sc.names.lookup x=some .local ∨ sc.names.lookup x=some .cell
noncomputable def X1(env:Env)(h:Heap)(m:Str->Option Value)(x:Str)(u:Value):Prop:=
  (env.kindOf x=some .local/\m x=some u) ∨ ((env.kindOf x=some .cell ∨ env.kindOf x=some .free)/\∃ c,env.cells.lookup x=some c/\h.IsCell c (some u))
structure Cx.Ok(X:Cx):Prop where
  mod:Mod X.K X.mg X.base
  kind:X.env.scope.kind=.function
  glob:X.env.globals=mainGlobals
  blt:X.env.builtins=builtinsNs
  above:X.s₀.heap.objs.size <= X.env.locals
  inj:∀ x y c,X.env.cells.lookup x=some c->X.env.cells.lookup y=some c->x=y
  has:∀ x,(X.env.kindOf x=some .cell ∨ X.env.kindOf x=some .free)->∃ c,X.env.cells.lookup x=some c
  cab:∀ x c,X.fn x=true->X.env.cells.lookup x=some c->X.s₀.heap.objs.size <= c
  hd:X.calm=true->X.A.handled=none
  frames:X.A.frames=some X.stack
  stk:X.stack=X.outer ∨ (X.stack=X.env :: X.outer/\X.env.frame=some X.env.locals)
  exf:∀ b ∈ X.ex,b ≠ X.env.locals/\∀ x c,X.env.cells.lookup x=some c->c ≠ b
  bs:∀ b o,X.base.get? b=some o->X.s₀.heap.get? b=some o/\X.H₀ b=none
  bsz:X.base.objs.size <= X.s₀.heap.objs.size
  noex:∀ b o,X.base.get? b=some o->b ∉ X.ex
  exfs:∀ b ∈ X.ex,b ∉ X.fs
  funs:X.s₀.heap.FunFrames X.base X.outer
  frf:∀ b ∈ X.fs,X.H₀ b=none
structure Inv(X:Cx)(pins:List (Addr × Obj))(σ:List (Option V))(H:Hp)(s:Shared):Prop where
  ok:X.Ok
  os:s.os=X.s₀.os
  bare:AllBare s.gens
  base:Un X.fs X.ex X.H₀ H X.s₀.heap s.heap
  loc:∃ m,s.heap.Ns X.env.locals m/\∀ (i:Nat) (x:Str) (v:V),X.N[i]? = some x->σ[i]? = some (some v)->Vis X.env.scope x->∃ u,RelV v u/\X1 X.env s.heap m x u
  cell:∀ x c,X.env.cells.lookup x=some c->∃ v,s.heap.IsCell c v
  free:H X.env.locals=none
  freeC:∀ x c,X.env.cells.lookup x=some c->H c=none
  pin:∀ p ∈ X.pn ++ pins,s.heap.get? p.1=some p.2/\H p.1=none/\p.1 ≠ X.env.locals/\p.1 ∉ X.fs/\∀ v,p.2.data ≠ .cell v
  hok:HOk X.prog X.w H s.heap
  len:σ.length=X.N.length
section
variable{X:Cx}{pins:List (Addr × Obj)}{σ:List (Option V)}{H H':Hp}{s:Shared}{h':Heap}
theorem Cx.Ok.nofr(ok:X.Ok){b:Addr}{o:Obj}(e:X.base.get? b=some o):b ∉ X.fs:=λ hb=>by
  have:=(ok.funs.mem hb).1
  rw[e]at this;cases this
theorem Inv.bs(I:Inv X pins σ H s):∀ b o,X.base.get? b=some o->s.heap.get? b=some o/\H b=none:=λ b o e=>
  ⟨I.base.keep b o (I.ok.bs b o e).1 (I.ok.bs b o e).2 (I.ok.nofr e) (I.ok.noex b o e),I.base.free b o (I.ok.bs b o e).1 (I.ok.bs b o e).2 (I.ok.noex b o e)⟩
theorem Inv.bk(I:Inv X pins σ H s):∀ b o,X.base.get? b=some o->s.heap.get? b=some o:=λ b o e=>(I.bs b o e).1
theorem Inv.mod(I:Inv X pins σ H s):Mod X.K X.mg X.base:=I.ok.mod
theorem Inv.kIn(I:Inv X pins σ H s):X.K.In s.heap:=I.ok.mod.kin.keeps I.bk
theorem Inv.nolimit(I:Inv X pins σ H s):s.heap.NoLimit:=I.ok.mod.nolimit.keeps I.bk
theorem Inv.fr(I:Inv X pins σ H s):∃ m,Fr X.base X.env.locals s.heap m:=
  let ⟨m,hn,_⟩:=I.loc
  ⟨m,hn,I.bk,Nat.le_trans I.ok.bsz I.ok.above⟩
theorem Inv.lt(I:Inv X pins σ H s):X.env.locals < s.heap.objs.size:=let ⟨_,hn,_⟩:=I.loc;hn.lt
theorem Inv.sz(I:Inv X pins σ H s):X.s₀.heap.objs.size <= s.heap.objs.size:=Nat.le_trans I.ok.above (Nat.le_of_lt I.lt)
theorem Inv.nofs(I:Inv X pins σ H s){a:Addr}(h:s.heap.objs.size <= a):a ∉ X.fs:=λ hb=>by
  obtain⟨_,o,ho,_⟩:=I.ok.funs.mem hb
  exact absurd (Nat.lt_of_lt_of_le (Heap.lt_size ho) (Nat.le_trans I.sz h)) (Nat.lt_irrefl _)
theorem Inv.cne(I:Inv X pins σ H s):∀ x c,X.env.cells.lookup x=some c->c ≠ X.env.locals:=λ x c e z=>by
  obtain⟨v,o,ho,hd⟩:=I.cell x c e
  obtain⟨m,⟨o',es,ep,ho',hd',_⟩,_⟩:=I.loc
  rw[z,ho']at ho;cases ho;rw[hd']at hd;cases hd
theorem Inv.funs(I:Inv X pins σ H s):s.heap.FunFrames X.base X.outer:=by
  have all:∀ (l:List Env),(∀ b ∈ frs l,b ∈ X.fs)->X.s₀.heap.FunFrames X.base l->s.heap.FunFrames X.base l:=by
    intro l
    induction l with
    | nil=>intro _ _;trivial
    | cons env r ih=>
      intro hs hl
      obtain⟨hk,⟨L,o,hf,hn,ho,hd⟩,hr⟩:=hl
      have hL:L ∈ X.fs:=hs L (by unfold frs;rw[List.filterMap_cons,hf];exact List.mem_cons_self)
      obtain⟨sl,e⟩:=I.base.slot L o ho (I.ok.frf L hL) hL λ z=>I.ok.exfs L z hL
      exact⟨hk,⟨L,_,hf,hn,e,hd⟩,ih (λ b hb=>hs b (by unfold frs;rw[List.filterMap_cons,hf];exact List.mem_cons_of_mem _ hb)) hr⟩
  exact all X.outer (λ _ hb=>hb) I.ok.funs
theorem Inv.stack(I:Inv X pins σ H s):s.heap.FunFrames X.base X.stack:=by
  rcases I.ok.stk with e|⟨e,hf⟩
  . rw[e];exact I.funs
  . rw[e]
    obtain⟨m,hn,_⟩:=I.loc
    refine .cons (by rw[I.ok.kind];decide) hf hn ?_ I.funs
    exact Heap.get?_none_of_le (Nat.le_trans I.ok.bsz I.ok.above)
theorem Inv.stkSub(I:Inv X pins σ H s):∀ b ∈ frs X.stack,b ∈ X.env.locals :: X.fs:=λ b hb=>by
  rcases I.ok.stk with e|⟨e,hf⟩
  . rw[e]at hb;exact List.mem_cons_of_mem _ hb
  . rw[e]at hb
    unfold frs at hb
    rw[List.filterMap_cons,hf]at hb
    exact hb
theorem Inv.stkFree(I:Inv X pins σ H s):∀ b ∈ frs X.stack,H b=none:=λ b hb=>by
  rcases List.mem_cons.mp (I.stkSub b hb)with e|hb
  . rw[e];exact I.free
  . obtain⟨_,o,ho,_⟩:=I.ok.funs.mem hb
    exact I.base.free b o ho (I.ok.frf b hb) λ z=>I.ok.exfs b z hb
theorem Inv.step{g':Array GenState}{t':Nat}{d':Drawn}{ch:List Addr}(I:Inv X pins σ H s)
    (hch:∀ b ∈ ch,(b ∈ X.ex ∨ X.s₀.heap.objs.size <= b)/\b ≠ X.env.locals/\(∀ x c,X.env.cells.lookup x=some c->c ≠ b)/\∀ p ∈ X.pn ++ pins,p.1 ≠ b)
    (keep:∀ b o,b ≠ X.env.locals->b ∉ X.fs->b ∉ ch->s.heap.get? b=some o->H b=none->h'.get? b=some o)
    (slot:∀ b o,b ≠ X.env.locals->b ∈ X.fs->b ∉ ch->s.heap.get? b=some o->H b=none->∃ sl,h'.get? b=some { o with slots:=sl }) (free:∀ b o,b ∉ ch->s.heap.get? b=some o->H b=none->H' b=none)
    (there:∀ b o,b ∉ ch->s.heap.get? b=some o->∃ o',h'.get? b=some o')
    (tups:∀ b xs,H b=some (.tup xs)->H' b=some (.tup xs)) (frzs:∀ b o u,H b=some (.frz o u)->H' b=some (.frz o u)) (tbls:∀ b ps,H b=some (.tbl ps)->∃ more,H' b=some (.tbl (ps ++ more)))
    (ns:∀ m,s.heap.Ns X.env.locals m->h'.Ns X.env.locals m) (hok:HOk X.prog X.w H' h') (hg:AllBare g') :
    Inv X pins σ H' { s with heap:=h',gens:=g',drawn:=d',toks:=t' }:=by
  have neL:∀ b o,X.s₀.heap.get? b=some o->b ≠ X.env.locals:=λ b o e=>Nat.ne_of_lt (Nat.lt_of_lt_of_le (Heap.lt_size e) I.ok.above)
  have neC:∀ b o,X.s₀.heap.get? b=some o->b ∉ X.ex->b ∉ ch:=λ b o e hx hb=>by
    rcases(hch b hb).1 with z|z
    . exact hx z
    . exact absurd (Nat.lt_of_lt_of_le (Heap.lt_size e) z) (Nat.lt_irrefl _)
  have cellK:∀ x c,X.env.cells.lookup x=some c->∀ v,s.heap.IsCell c v->h'.IsCell c v:=λ x c e v ⟨o,ho,hd⟩=>by
    have nch:c ∉ ch:=λ z=>(hch c z).2.2.1 x c e rfl
    by_cases hc:c ∈ X.fs
    . obtain⟨sl,q⟩:=slot c o (I.cne x c e) hc nch ho (I.freeC x c e)
      exact⟨_,q,hd⟩
    . exact⟨o,keep c o (I.cne x c e) hc nch ho (I.freeC x c e),hd⟩
  refine⟨I.ok,I.os,hg,⟨λ b o e n hb hx=>?_,λ b o e n hb hx=>?_,λ b o e n hx=>?_,λ b o e hx=>?_,λ b xs e=>tups b xs (I.base.tups b xs e),λ b o xs e=>frzs b o xs (I.base.frzs b o xs e),λ b ps e=>?_⟩,?_,λ x c e=>?_,?_,λ x c e=>?_,λ p hp=>?_,hok,I.len⟩
  . exact keep b o (neL b o e) hb (neC b o e hx) (I.base.keep b o e n hb hx) (I.base.free b o e n hx)
  . obtain⟨sl,e1⟩:=I.base.slot b o e n hb hx
    obtain⟨sl',e2⟩:=slot b _ (neL b o e) hb (neC b o e hx) e1 (I.base.free b o e n hx)
    exact⟨sl',e2⟩
  . obtain⟨o',e1⟩:=I.base.there b o e hx
    exact free b o' (neC b o e hx) e1 (I.base.free b o e n hx)
  . obtain⟨o',e1⟩:=I.base.there b o e hx
    exact there b o' (neC b o e hx) e1
  . obtain⟨m1,e1⟩:=I.base.tbls b ps e
    obtain⟨m2,e2⟩:=tbls b _ e1
    exact⟨m1 ++ m2,by rw[e2,Array.append_assoc]⟩
  . obtain⟨m,hn,hl⟩:=I.loc
    refine⟨m,ns m hn,λ i x v e1 e2 e3=>?_⟩
    obtain⟨u,r,l⟩:=hl i x v e1 e2 e3
    refine⟨u,r,?_⟩
    rcases l with l|⟨k,c,e,z⟩
    . exact .inl l
    . exact .inr ⟨k,c,e,cellK x c e _ z⟩
  . obtain⟨v,z⟩:=I.cell x c e
    exact⟨v,cellK x c e v z⟩
  . obtain⟨m,⟨o,_,_,ho,_⟩,_⟩:=I.loc
    exact free _ o (λ z=>(hch _ z).2.1 rfl) ho I.free
  . obtain⟨v,o,ho,hd⟩:=I.cell x c e
    exact free c o (λ z=>(hch c z).2.2.1 x c e rfl) ho (I.freeC x c e)
  . obtain⟨e,n,ne,nf,d⟩:=I.pin p hp
    have nch:p.1 ∉ ch:=λ z=>(hch p.1 z).2.2.2 p hp rfl
    exact⟨keep p.1 p.2 ne nf nch e n,free p.1 p.2 nch e n,ne,nf,d⟩
theorem Inv.un{t':Nat}(I:Inv X pins σ H s)(u:Un X.fs [] H H' s.heap h')(hok:HOk X.prog X.w H' h'):Inv X pins σ H' { s with heap:=h',toks:=t' }:=by
  obtain⟨m,⟨o,es,ep,ho,r⟩,_⟩:=id I.loc
  obtain⟨sl,hL⟩:=u.any ho I.free (by simp)
  exact I.step (g':=s.gens) (d':=s.drawn) (ch:=[]) (λ _ z=>nomatch z) (λ b o _ hb _ e n=>u.keep b o e n hb (by simp)) (λ b o _ hb _ e n=>u.slot b o e n hb (by simp)) (λ b o _ e n=>u.free b o e n (by simp)) (λ b o _ e=>u.there b o e (by simp)) u.tups u.frzs u.tbls (λ m' hm=>by
    obtain⟨o',es',ep',ho',r'⟩:=hm
    rw[ho]at ho';cases ho'
    exact⟨_,es',ep',hL,r'⟩) hok I.bare
theorem Inv.call{g':Array GenState}{t':Nat}{d':Drawn}{ch:List Addr}(I:Inv X pins σ H s)(u:Un (frs X.stack) ch H H' s.heap h')(hok:HOk X.prog X.w H' h')(hg:AllBare g')
    (hch:∀ b ∈ ch,(b ∈ X.ex ∨ X.s₀.heap.objs.size <= b)/\b ≠ X.env.locals/\(∀ x c,X.env.cells.lookup x=some c->c ≠ b)/\∀ p ∈ X.pn ++ pins,p.1 ≠ b) :
    Inv X pins σ H' { s with heap:=h',gens:=g',drawn:=d',toks:=t' }:=by
  obtain⟨m,⟨o,es,ep,ho,r⟩,_⟩:=id I.loc
  obtain⟨sl,hL⟩:=u.any ho I.free λ z=>(hch _ z).2.1 rfl
  exact I.step (ch:=ch) hch (λ b o hL hb hc e n=>u.keep b o e n (λ z=>(List.mem_cons.mp (I.stkSub b z)).elim hL hb) hc) (λ b o _ _ hc e n=>u.any e n hc) (λ b o hc e n=>u.free b o e n hc) (λ b o hc e=>u.there b o e hc) u.tups u.frzs u.tbls (λ m' hm=>by
    obtain⟨o',es',ep',ho',r'⟩:=hm
    rw[ho]at ho';cases ho'
    exact⟨_,es',ep',hL,r'⟩) hok hg
theorem Inv.turned{t':Nat}{it:Addr}(I:Inv X pins σ H s)(k:∀ b o,b ≠ it->s.heap.get? b=some o->h'.get? b=some o)(hn:H it=none)(hL:it ≠ X.env.locals)
    (h1:it ∈ X.ex ∨ X.s₀.heap.objs.size <= it) (h2:∀ x c,X.env.cells.lookup x=some c->c ≠ it) (h3:∀ p ∈ X.pn ++ pins,p.1 ≠ it):Inv X pins σ H { s with heap:=h',toks:=t' }:=by
  have nit:∀ b u,H b=some u->b ≠ it:=λ b u e z=>by rw[z,hn]at e;cases e
  refine I.step (g':=s.gens) (d':=s.drawn) (ch:=[it]) (λ b hb=>?_) (λ b o _ _ hc e _=>k b o (λ z=>hc (by simp[z])) e) (λ b o _ _ hc e _=>⟨o.slots,k b o (λ z=>hc (by simp[z])) e⟩) (λ _ _ _ _ n=>n)
    (λ b o hc e=>⟨o,k b o (λ z=>hc (by simp[z])) e⟩) (λ _ _ e=>e) (λ _ _ _ e=>e) (λ b ps e=>⟨#[],by rw[e];simp⟩) (λ m hm=>?_) (λ b u e=>?_) I.bare
  . have e:b=it:=by simpa using hb
    subst e
    exact⟨h1,hL,h2,h3⟩
  . obtain⟨o,es,ep,ho,r⟩:=hm
    exact⟨o,es,ep,k _ o (Ne.symm hL) ho,r⟩
  . refine(I.hok b u e).stay (λ c v hc q=>k c v ?_ q) (λ _ q=>q) λ _ _ q=>q
    rcases hc with z|z
    . rw[z];exact nit b u e
    . exact nit c _ z
theorem Inv.tok(I:Inv X pins σ H s)(t:Nat):Inv X pins σ H { s with toks:=t }:=I.un (h':=s.heap) (t':=t) Un.refl I.hok
theorem Inv.kept{t':Nat}(I:Inv X pins σ H s)(k:∀ b u,s.heap.get? b=some u->h'.get? b=some u):Inv X pins σ H { s with heap:=h',toks:=t' }:=I.un (Un.kept k) (I.hok.kept k)
theorem Inv.laid{a:Addr}{o:HO}{t':Nat}(I:Inv X pins σ H s)(k:∀ b u,s.heap.get? b=some u->h'.get? b=some u)(hp:s.heap.objs.size <= a)(new:ObjOk X.prog X.w (upd H a o) h' a o) :
    Inv X pins σ (upd H a o) { s with heap:=h',toks:=t' }:=I.un (Un.laid k hp (I.hok.fresh hp)) (I.hok.laid k hp new)
theorem Inv.write{x e:Addr}{o:HO}{t':Nat}(I:Inv X pins σ H s)(mu:Mut (H x))(he:e=x ∨ H e=some (.own x))(k:∀ b u,b ≠ e->s.heap.get? b=some u->h'.get? b=some u)(heo:∃ u,h'.get? e=some u)
    (new:ObjOk X.prog X.w (upd H x o) h' x o):Inv X pins σ (upd H x o) { s with heap:=h',toks:=t' }:=I.un (Un.write mu he k heo) (I.hok.write mu he k heo new)
theorem Inv.pins_of{pins':List (Addr × Obj)}(I:Inv X pins σ H s)(h:∀ p ∈ pins',s.heap.get? p.1=some p.2/\H p.1=none/\p.1 ≠ X.env.locals/\p.1 ∉ X.fs/\∀ v,p.2.data ≠ .cell v):Inv X pins' σ H s:=
  ⟨I.ok,I.os,I.bare,I.base,I.loc,I.cell,I.free,I.freeC,λ p hp=>(List.mem_append.mp hp).elim (λ z=>I.pin p (List.mem_append_left _ z)) (h p),I.hok,I.len⟩
theorem L3{N:List Str}(hN:N.Nodup){i j:Nat}{x:Str}(a:N[i]? = some x)(b:N[j]? = some x):i=j:=by
  obtain⟨h1,e1⟩:=List.getElem?_eq_some_iff.mp a
  obtain⟨h2,e2⟩:=List.getElem?_eq_some_iff.mp b
  exact(List.getElem_inj hN).mp (e1.trans e2.symm)
theorem JY{M:Model}{A:Around}{E:Value->Shared->Prop}{i:Nat}{x:Str}{v:V}{u:Value}{Q:Unit->Shared->Prop}(I:Inv X pins σ H s)(hN:X.N.Nodup)(hi:X.N[i]? = some x)(hx:Loc X.env.scope x)(r:RelV v u)
    (h:∀ s',Inv X pins (σ.set i (some v)) H s'->(∃ a,Heap.SameBut a s.heap s'.heap/\(a=X.env.locals ∨ X.env.cells.lookup x=some a))->Q () s') (hf:X.fn x=true ∨ X.env.scope.names.lookup x=some .local:=by first|exact .inl rfl|exact .inr rfl|assumption):wpAny M A (storeName X.env x u) Q E s:=by
  obtain⟨m,hn,hl⟩:=id I.loc
  have hcls:(X.env.scope.kind == .class || (X.env.scope.kind == .module && X.env.locals != X.env.globals))=false:=by rw[I.ok.kind];rfl
  have hiσ:i < σ.length:=by rw[I.len];exact(List.getElem?_eq_some_iff.mp hi).1
  have cne:=I.cne
  have tracked:∀ {a:Addr} {h':Heap},(∃ o,s.heap.get? a=some o/\H a=none)->Heap.SameBut a s.heap h'->HOk X.prog X.w H h':=λ {a h'} ha hs b ob e=>by
    obtain⟨_,_,hfree⟩:=ha
    refine(I.hok b ob e).stay (λ c w' hc q=>(hs.2 c ?_).trans q) (λ _ q=>q) λ _ _ q=>q
    rintro rfl
    rcases hc with rfl|hc
    . rw[hfree]at e;cases e
    . rw[hfree]at hc;cases hc
  rcases hx with hk|hk
  . refine wpAny_storeName_local hk hn (λ h' hn' hs=>?_) hcls
    obtain⟨oL,_,_,hoL,_⟩:=id hn
    refine h _ ⟨I.ok,I.os,I.bare,⟨λ b o e n hb hx=>?_,λ b o e n hb hx=>?_,I.base.free,λ b o e hx=>?_,I.base.tups,I.base.frzs,I.base.tbls⟩,⟨_,hn',λ j y v' e1 e2 e3=>?_⟩,λ y c e=>?_,I.free,I.freeC,λ p hp=>?_,tracked ⟨oL,hoL,I.free⟩ hs,by simpa using I.len⟩ ⟨_,hs,.inl rfl⟩
    . exact(hs.2 b (Nat.ne_of_lt (Nat.lt_of_lt_of_le (Heap.lt_size e) I.ok.above))).trans (I.base.keep b o e n hb hx)
    . obtain⟨sl,e1⟩:=I.base.slot b o e n hb hx
      exact⟨sl,(hs.2 b (Nat.ne_of_lt (Nat.lt_of_lt_of_le (Heap.lt_size e) I.ok.above))).trans e1⟩
    . obtain⟨o',e1⟩:=I.base.there b o e hx
      exact⟨o',(hs.2 b (Nat.ne_of_lt (Nat.lt_of_lt_of_le (Heap.lt_size e) I.ok.above))).trans e1⟩
    . by_cases hj:j=i
      . subst hj
        rw[hi]at e1;cases e1
        rw[List.getElem?_set_self hiσ]at e2
        cases e2
        exact⟨u,r,.inl ⟨hk,by simp⟩⟩
      . rw[List.getElem?_set_ne (Ne.symm hj)]at e2
        obtain⟨u',r',q⟩:=hl j y v' e1 e2 e3
        refine⟨u',r',?_⟩
        rcases q with⟨k,e⟩|⟨k,c,e,z⟩
        . refine .inl ⟨k,?_⟩
          have:y ≠ x:=λ e=>hj (L3 hN e1 (e ▸ hi))
          simp[this,e]
        . exact .inr ⟨k,c,e,z.sameBut hs (cne y c e)⟩
    . obtain⟨w',z⟩:=I.cell y c e
      exact⟨w',z.sameBut hs (cne y c e)⟩
    . obtain⟨e,n,ne,nf,d⟩:=I.pin p hp
      exact⟨(hs.2 p.1 ne).trans e,n,ne,nf,d⟩
  . have hfn:X.fn x=true:=by
      rcases hf with z|z
      . exact z
      . rw[z]at hk;cases hk
    obtain⟨c,hc⟩:=I.ok.has x (.inl hk)
    obtain⟨w',z⟩:=I.cell x c hc
    refine wpAny_storeName_cell I.ok.kind hk hc z (λ h' hc' hs=>?_)
    obtain⟨oc,hoc,hocd⟩:=id z
    refine h { s with heap:=h' } ⟨I.ok,I.os,I.bare,⟨λ b o e n hb hx=>?_,λ b o e n hb hx=>?_,I.base.free,λ b o e hx=>?_,I.base.tups,I.base.frzs,I.base.tbls⟩,⟨m,hn.sameBut hs (Ne.symm (cne x c hc)),λ j y v' e1 e2 e3=>?_⟩,λ y c' e=>?_,I.free,I.freeC,λ p hp=>?_,tracked ⟨oc,hoc,I.freeC x c hc⟩ hs,by simpa using I.len⟩ ⟨c,hs,.inr hc⟩
    . exact(hs.2 b (Nat.ne_of_lt (Nat.lt_of_lt_of_le (Heap.lt_size e) (I.ok.cab x c hfn hc)))).trans (I.base.keep b o e n hb hx)
    . obtain⟨sl,e1⟩:=I.base.slot b o e n hb hx
      exact⟨sl,(hs.2 b (Nat.ne_of_lt (Nat.lt_of_lt_of_le (Heap.lt_size e) (I.ok.cab x c hfn hc)))).trans e1⟩
    . obtain⟨o',e1⟩:=I.base.there b o e hx
      exact⟨o',(hs.2 b (Nat.ne_of_lt (Nat.lt_of_lt_of_le (Heap.lt_size e) (I.ok.cab x c hfn hc)))).trans e1⟩
    . by_cases hj:j=i
      . subst hj
        rw[hi]at e1;cases e1
        rw[List.getElem?_set_self hiσ]at e2
        cases e2
        exact⟨u,r,.inr ⟨.inl hk,c,hc,hc'⟩⟩
      . rw[List.getElem?_set_ne (Ne.symm hj)]at e2
        obtain⟨u',r',q⟩:=hl j y v' e1 e2 e3
        refine⟨u',r',?_⟩
        rcases q with q|⟨k,c',e,z'⟩
        . exact .inl q
        . refine .inr ⟨k,c',e,z'.sameBut hs ?_⟩
          rintro rfl
          exact hj (L3 hN e1 (I.ok.inj _ _ _ e hc ▸ hi))
    . by_cases hcc:c'=c
      . subst hcc;exact⟨_,hc'⟩
      . obtain⟨w2,z2⟩:=I.cell y c' e
        exact⟨w2,z2.sameBut hs hcc⟩
    . obtain⟨e,n,ne,nf,d⟩:=I.pin p hp
      refine⟨(hs.2 p.1 ?_).trans e,n,ne,nf,d⟩
      intro q
      rw[q,hoc]at e
      have q':oc=p.2:=Option.some.inj e
      exact d w' (by rw[<- q'];exact hocd)
theorem Ke{M:Model}{A:Around}{E:Value->Shared->Prop}{i:Nat}{x:Str}{v:V}{u:Value}{Q:Unit->Shared->Prop}(I:Inv X pins σ H s)(hN:X.N.Nodup)(hi:X.N[i]? = some x)(hx:Loc X.env.scope x)(r:RelV v u)
    (h:∀ s',Inv X pins (σ.set i (some v)) H s'->Q () s') (hf:X.fn x=true ∨ X.env.scope.names.lookup x=some .local:=by first|exact .inl rfl|exact .inr rfl|assumption):wpAny M A (storeName X.env x u) Q E s:=
  JY I hN hi hx r (λ s' I' _=>h s' I') hf
theorem Inv.call'{s':Shared}{ch:List Addr}(I:Inv X pins σ H s)(ho:s'.os=s.os)(u:Un (frs X.stack) ch H H' s.heap s'.heap)(hok:HOk X.prog X.w H' s'.heap)(hg:AllBare s'.gens)
    (hch:∀ b ∈ ch,(b ∈ X.ex ∨ X.s₀.heap.objs.size <= b)/\b ≠ X.env.locals/\(∀ x c,X.env.cells.lookup x=some c->c ≠ b)/\∀ p ∈ X.pn ++ pins,p.1 ≠ b):Inv X pins σ H' s':=by
  obtain⟨h',g',d',t',o'⟩:=s'
  have e:o'=s.os:=ho
  subst e
  exact I.call (g':=g') (t':=t') (d':=d') u hok hg hch
end
noncomputable abbrev XK:=Value->Option Addr->Hp->Prop
noncomputable abbrev St:=List (Option V)
noncomputable abbrev VK:=V->Hp->Prop
noncomputable abbrev TE:=St->Hp->VK->Prop
noncomputable abbrev TT:=St->Hp->(Bool->Hp->Prop)->Prop
noncomputable abbrev TA:=St->Hp->(List V->Hp->Prop)->Prop
structure Ends where
  nx:St->Hp->Prop
  rt:VK
  bk:St->Hp->Prop:=λ _ _=>False
  ct:St->Hp->Prop:=λ _ _=>False
noncomputable abbrev TS:=Ends->St->Hp->Prop
noncomputable def EP(X:Cx)(pins:List (Addr × Obj))(σ:St)(Q:VK)(u:Value)(s':Shared):Prop:=∃ v H',Inv X pins σ H' s'/\RelV v u/\Q v H'
noncomputable def TP(X:Cx)(pins:List (Addr × Obj))(σ:St)(Q:Bool->Hp->Prop)(b:Bool)(s':Shared):Prop:=∃ H',Inv X pins σ H' s'/\Q b H'
noncomputable def AP(X:Cx)(pins:List (Addr × Obj))(σ:St)(Q:List V->Hp->Prop)(us:List Value)(s':Shared):Prop:=∃ vs H',Inv X pins σ H' s'/\Vals vs us/\Q vs H'
noncomputable def SP(X:Cx)(pins:List (Addr × Obj))(D:Ends)(f:Flow)(s':Shared):Prop:=
  match f with
  | .next=>∃ σ' H',Inv X pins σ' H' s'/\D.nx σ' H'
  | .brk=>∃ σ' H',Inv X pins σ' H' s'/\D.bk σ' H'
  | .cont=>∃ σ' H',Inv X pins σ' H' s'/\D.ct σ' H'
  | .ret u=>∃ v σ' H',Inv X pins σ' H' s'/\RelV v u/\D.rt v H'
noncomputable def PE(X:Cx)(e:Expr)(t:TE):Prop:=
  ∀ (pins:List (Addr × Obj)) (s:Shared) (σ:St) (H:Hp) (Q:VK),Inv X pins σ H s->t σ H Q->wpAny (model X.prog X.w) X.A (eval e X.env) (EP X pins σ Q) X.xe s
noncomputable def PT(X:Cx)(e:Expr)(t:TT):Prop:=
  ∀ (pins:List (Addr × Obj)) (s:Shared) (σ:St) (H:Hp) (Q:Bool->Hp->Prop),Inv X pins σ H s->t σ H Q->wpAny (model X.prog X.w) X.A (isTrue e X.env (eval e X.env)) (TP X pins σ Q) X.xe s
noncomputable def PW(X:Cx)(e:Expr)(t:TT):Prop:=
  ∀ (whole:Sem Value) (pins:List (Addr × Obj)) (s:Shared) (σ:St) (H:Hp) (Q:Bool->Hp->Prop),Inv X pins σ H s->t σ H Q->wpAny (model X.prog X.w) X.A (isTrue e X.env whole) (TP X pins σ Q) X.xe s
theorem PW.pt{X:Cx}{e:Expr}{t:TT}(h:PW X e t):PT X e t:=h _
noncomputable def PA(X:Cx)(es:List Expr)(t:TA):Prop:=
  ∀ (pos:Pos) (pins:List (Addr × Obj)) (s:Shared) (σ:St) (H:Hp) (Q:List V->Hp->Prop),Inv X pins σ H s->t σ H Q->wpAny (model X.prog X.w) X.A (spliced (backTo pos (starEach es X.env))) (AP X pins σ Q) X.xe s
noncomputable def PS(X:Cx)(st:Stmt)(t:TS):Prop:=
  ∀ (pins:List (Addr × Obj)) (s:Shared) (σ:St) (H:Hp) (D:Ends),Inv X pins σ H s->t D σ H->wpAny (model X.prog X.w) X.A (exec st X.env) (SP X pins D) X.xe s
noncomputable def PSs(X:Cx)(st:List Stmt)(t:TS):Prop:=
  ∀ (pins:List (Addr × Obj)) (s:Shared) (σ:St) (H:Hp) (D:Ends),Inv X pins σ H s->t D σ H->wpAny (model X.prog X.w) X.A (execs st X.env) (SP X pins D) X.xe s
theorem thn{α:Type}{t:Sem α}{Q Q':α->Shared->Prop}{M:Model}{A:Around}{E:Value->Shared->Prop}{s:Shared}(h:wpAny M A t Q E s)(hQ:∀ a s,Q a s->Q' a s):wpAny M A t Q' E s:=wpAny_mono h hQ λ _ _ x=>x
end L2
namespace L2
open PySem PySem.Spec PyProof.Rows
section
variable{X:Cx}
theorem bin{a b:Expr}{ta tb:TE}(ha:PE X a ta)(hb:PE X b tb){pins:List (Addr × Obj)}{s:Shared}{σ:St}{H:Hp}{R:V->V->Hp->Prop}(I:Inv X pins σ H s)(h:ta σ H λ x H1=>tb σ H1 λ y H2=>R x y H2)
    {α:Type} {Q:α->Shared->Prop} {f:Value->Value->Sem α}
    (hf:∀ v u s2 x y H2,Inv X pins σ H2 s2->RelV x v->RelV y u->R x y H2->wpAny (model X.prog X.w) X.A (f v u) Q X.xe s2) :
    wpAny (model X.prog X.w) X.A (eval a X.env) (λ v s₁=>wpAny (model X.prog X.w) X.A (eval b X.env) (λ u s₂=>wpAny (model X.prog X.w) X.A (f v u) Q X.xe s₂) X.xe s₁) X.xe s:=by
  refine thn (ha pins s σ H _ I h) λ v s1 ⟨x,H1,I1,r1,q1⟩=>?_
  refine thn (hb pins s1 σ H1 _ I1 q1) λ u s2 ⟨y,H2,I2,r2,q2⟩=>?_
  exact hf v u s2 x y H2 I2 r1 r2 q2
noncomputable def PP(i:Nat):TE:=λ σ H Q=>∃ v,σ[i]? = some (some v)/\Q v H
noncomputable def tC(v:V):TE:=λ _ H Q=>Q v H
theorem Ut{i:Nat}{x:Str}{pos:Pos}(hN:X.N[i]? = some x)(hv:Vis X.env.scope x)(hd:(x == ("__debug__":Str))=false:=by decide)(hcd:(x == ("__classdict__":Str))=false:=by decide):PE X (.Name x pos) (PP i):=by
  intro pins s σ H Q I h
  obtain⟨v,e,h⟩:=h
  obtain⟨m,hn,hl⟩:=I.loc
  obtain⟨u,r,l⟩:=hl i x v hN e hv
  have fin:EP X pins σ Q u s:=⟨v,H,I,r,h⟩
  rcases l with⟨hk,hm⟩|⟨hk,c,hc,hcell⟩
  . exact wpAny_Name (wpAny_loadName_local I.ok.kind hk hn hm fin) hd
  . rcases hk with hk|hk
    . exact wpAny_Name (wpAny_loadName_cell I.ok.kind hk hc hcell fin) hd
    . exact wpAny_Name (wpAny_loadName_free I.ok.kind hk hc hcell fin hcd) hd
theorem Uy{i j pos}:PE X (.Constant (.int i) j pos) (tC (.int i)):=λ _ _ _ H _ I h=>wpAny_Constant_int ⟨.int i,H,I.tok _,⟨_,rfl⟩,h⟩
theorem Vw{b j pos}:PE X (.Constant (.bool b) j pos) (tC (.bl b)):=λ _ _ _ H _ I h=>Constant_bool ⟨.bl b,H,I,rfl,h⟩
theorem Uw{j pos}:PE X (.Constant .none j pos) (tC .non):=λ _ _ _ H _ I h=>Constant_none ⟨.non,H,I,rfl,h⟩
theorem Uv{x j pos}:PE X (.Constant (.str x) j pos) (tC (.str x)):=λ _ _ _ H _ I h=>Calls.Constant_str ⟨.str x,H,I.tok _,⟨_,rfl⟩,h⟩
noncomputable def Gl(X:Cx)(x:Str):Prop:=X.env.kindOf x=some .globalImplicit
theorem MV{E:Value->Shared->Prop}{pins:List (Addr × Obj)}{s:Shared}{σ:St}{H:Hp}{x:Str}{u:Value}{pos:Pos}{Q:Value->Shared->Prop}(I:Inv X pins σ H s)(hg:Gl X x)(hm:X.mg x=some u)(h:Q u s)
    (hd:(x == ("__debug__":Str))=false:=by decide):wpAny (model X.prog X.w) X.A (eval (.Name x pos) X.env) Q E s:=
  Calls.Name_function_global I.ok.kind hg (Calls.loadGlobal_global (by rw[I.ok.glob];exact I.mod.glob.keeps I.bk) hm h) hd
theorem GT{E:Value->Shared->Prop}{pins:List (Addr × Obj)}{s:Shared}{σ:St}{H:Hp}{x:Str}{u:Value}{pos:Pos}{Q:Value->Shared->Prop}(I:Inv X pins σ H s)(hg:Gl X x)(hm:X.mg x=none)(hv:bootBuiltins x=some u)(h:Q u s)
    (hn:x ≠ "__name__":=by decide) (hd:(x == ("__debug__":Str))=false:=by decide):wpAny (model X.prog X.w) X.A (eval (.Name x pos) X.env) Q E s:=by
  obtain⟨mb,h1,h2⟩:=I.mod.blt
  exact Calls.Name_function_global I.ok.kind hg (Calls.loadGlobal_builtin (by rw[I.ok.glob];exact I.mod.glob.keeps I.bk) hm (by rw[I.ok.blt];exact h1.keeps I.bk) ((h2 x hn).trans hv) h) hd
variable{a b:Expr}{ta tb:TE}{pos:Pos}
noncomputable def PC(X:Cx)(op:CmpOp)(a b:Expr)(t:TE):Prop:=
  ∀ (pins:List (Addr × Obj)) (s:Shared) (σ:St) (H:Hp) (Q:VK),Inv X pins σ H s->t σ H Q ->
    wpAny (model X.prog X.w) X.A (eval a X.env) (λ v s₁=>wpAny (model X.prog X.w) X.A (eval b X.env) (λ u s₂=>wpAny (model X.prog X.w) X.A (compareOp op v u) (EP X pins σ Q) X.xe s₂) X.xe s₁) X.xe s
theorem Qd(b:Expr){op:CmpOp}(h:op ≠ .In)(h2:op ≠ .NotIn):behindInMarks op b=false:=by
  have e1:(op == CmpOp.In)=false:=by cases op <;> first|rfl|exact absurd rfl h
  have e2:(op == CmpOp.NotIn)=false:=by cases op <;> first|rfl|exact absurd rfl h2
  cases b <;> simp[behindInMarks,e1,e2]
noncomputable def PY(ta:TE):TE:=λ σ H Q=>ta σ H λ x H1=>Q (.bl (decide (x=.non))) H1
theorem RelV.none_iff{x:V}{v:Value}(r:RelV x v):(v == Value.none)=decide (x=.non):=by
  cases x with
  | non=>cases r;rfl
  | bl _=>cases r;rfl
  | int _=>obtain⟨t,rfl⟩:=r;rfl
  | str _=>obtain⟨t,rfl⟩:=r;rfl
  | byt _=>obtain⟨t,rfl⟩:=r;rfl
  | flt _=>obtain⟨t,rfl⟩:=r;rfl
  | ref _=>cases r;rfl
  | ty _=>cases r;rfl
theorem V1{j pos'}(ha:PE X a ta):PC X .Is a (.Constant .none j pos') (PY ta):=by
  intro pins s σ H Q I h
  refine thn (ha pins s σ H _ I h) λ v s1 ⟨x,H1,I1,r1,q1⟩=>?_
  exact Constant_none (is_none_gen ⟨.bl _,H1,I1,by rw[r1.none_iff];rfl,q1⟩)
noncomputable def tB(t:TE):TT:=λ σ H Q=>t σ H λ x H1=>∃ c,x=.bl c/\Q c H1
theorem OD{op:CmpOp}{t:TE}(h:PC X op a b t)(h1:behindInMarks op b=false:=by first|exact Qd _ (by decide) (by decide)|rfl):PT X (.Compare a [op] [b] pos) (tB t):=by
  intro pins s σ H Q I hw
  refine wpAny_isTrue_Compare1 (thn (h pins s σ H _ I hw) λ v s1 h1=>thn h1 λ u s2 h2=>thn h2 λ c s3 ⟨x,H1,I1,r1,q1⟩=>?_) h1
  obtain⟨d,rfl,q⟩:=q1
  cases r1
  exact wpAny_truthy_bool ⟨H1,I1,q⟩
variable{tA tB':TT}{rest:List Expr}
noncomputable def Pd(t u:TT):TT:=λ σ H Q=>t σ H λ c H1=>if c=true then u σ H1 Q else Q false H1
noncomputable def tOr(t u:TT):TT:=λ σ H Q=>t σ H λ c H1=>if c=true then Q true H1 else u σ H1 Q
noncomputable def PV(t:TT):TT:=λ σ H Q=>t σ H λ c H1=>Q (!c) H1
theorem Sg(ha:PT X a tA):PW X (.BoolOp .And [a] pos) tA:=by
  intro wh pins s σ H Q I h
  refine isTrue_and (thn (ha pins s σ H Q I h) λ c s1 e=>?_)
  cases c with
  | true=>exact isTrue_and_nil e
  | false=>exact e
theorem Uf(ha:PT X a tA):PW X (.BoolOp .Or [a] pos) tA:=by
  intro wh pins s σ H Q I h
  refine isTrue_or (thn (ha pins s σ H Q I h) λ c s1 e=>?_)
  cases c with
  | false=>exact isTrue_or_nil e
  | true=>exact e
theorem Ug(ha:PT X a tA)(hb:PW X (.BoolOp .And (b :: rest) pos) tB'):PW X (.BoolOp .And (a :: b :: rest) pos) (Pd tA tB'):=by
  intro wh pins s σ H Q I h
  refine isTrue_and (thn (ha pins s σ H _ I h) λ c s1 ⟨H1,I1,q1⟩=>?_)
  cases c with
  | true=>exact hb wh pins s1 σ H1 Q I1 q1
  | false=>exact⟨H1,I1,q1⟩
theorem Vt(ha:PT X a tA)(hb:PW X (.BoolOp .Or (b :: rest) pos) tB'):PW X (.BoolOp .Or (a :: b :: rest) pos) (tOr tA tB'):=by
  intro wh pins s σ H Q I h
  refine isTrue_or (thn (ha pins s σ H _ I h) λ c s1 ⟨H1,I1,q1⟩=>?_)
  cases c with
  | true=>exact⟨H1,I1,q1⟩
  | false=>exact hb wh pins s1 σ H1 Q I1 q1
theorem Uh(ha:PT X a tA):PT X (.UnaryOp .Not a pos) (PV tA):=by
  intro pins s σ H Q I h
  exact isTrue_not (ha pins s σ H (λ c H1=>Q (!c) H1) I h)
noncomputable def tIf(t:TT)(ta tb:TE):TE:=λ σ H Q=>t σ H λ c H1=>if c=true then ta σ H1 Q else tb σ H1 Q
theorem QU{c:Expr}(hc:PT X c tA)(ha:PE X a ta)(hb:PE X b tb):PE X (.IfExp c a b pos) (tIf tA ta tb):=by
  intro pins s σ H Q I h
  refine wpAny_IfExp (thn (hc pins s σ H _ I h) λ d s1 ⟨H1,I1,q1⟩=>?_)
  cases d with
  | true=>exact ha pins s1 σ H1 Q I1 q1
  | false=>exact hb pins s1 σ H1 Q I1 q1
end
end L2
namespace L2
open PySem PySem.Spec PyProof.Rows
noncomputable def SqL(K:PySem.W.Frag)(H:Hp)(a:Addr)(xs:List V):Prop:=
  Rd H a (.lst xs) ∨
    ∃ (o:Obj) (its:Array Value) (n:Nat),K.lookup a=some o/\o.cls=.type "list"/\o.dict=none/\o.data=.seq its n/\its.size <= sizeLine/\Vals xs its.toList
noncomputable def SqT(K:PySem.W.Frag)(H:Hp)(a:Addr)(xs:List V):Prop:=
  Rd H a (.tup xs) ∨
    ∃ (o:Obj) (its:Array Value) (n:Nat),K.lookup a=some o/\o.cls=.type "tuple"/\o.data=.seq its n/\its.size <= sizeLine/\Vals xs its.toList
noncomputable def Wz:Value->Option V
  | .none=>some .non
  | .bool b=>some (.bl b)
  | .int i _=>some (.int i)
  | .str x _=>some (.str x)
  | .bytes b _=>some (.byt b)
  | .float b _=>some (.flt b)
  | .ref a=>some (.ref a)
  | .type n=>some (.ty n)
  | _=>none
theorem RelV.abs{x:V}{u:Value}(r:RelV x u):Wz u=some x:=by
  cases x with
  | non=>cases r;rfl
  | bl _=>cases r;rfl
  | int _=>obtain⟨t,rfl⟩:=r;rfl
  | str _=>obtain⟨t,rfl⟩:=r;rfl
  | byt _=>obtain⟨t,rfl⟩:=r;rfl
  | flt _=>obtain⟨t,rfl⟩:=r;rfl
  | ref _=>cases r;rfl
  | ty _=>cases r;rfl
theorem RelV.inj{x y:V}{u:Value}(r:RelV x u)(q:RelV y u):x=y:=Option.some.inj (r.abs.symm.trans q.abs)
theorem Vals.inj:∀ {xs ys:List V} {us:List Value},Vals xs us->Vals ys us->xs=ys
  | _,_,_,.nil,.nil=>rfl
  | _,_,_,.cons r t,.cons r' t'=>by rw[r.inj r',Vals.inj t t']
section
variable{X:Cx}{pins:List (Addr × Obj)}{σ:St}{H:Hp}{s:Shared}{a:Addr}{xs ys:List V}
theorem SqL.of{K:PySem.W.Frag}(h:H a=some (.lst xs)):SqL K H a xs:=.inl (.inl h)
theorem SqT.of{K:PySem.W.Frag}(h:H a=some (.tup xs)):SqT K H a xs:=.inl (.inl h)
theorem Inv.list(I:Inv X pins σ H s)(h:SqL X.K H a xs):∃ its:List Value,Vals xs its/\PlainL s.heap a its.toArray/\xs.length <= sizeLine:=by
  rcases h with h|⟨o,its,n,hk,hc,hd,hs,hz,r⟩
  . obtain⟨z,its,n,r,e⟩:=h.ok I.hok
    exact⟨its,r,⟨_,n,e,rfl,rfl,rfl⟩,z⟩
  . refine⟨its.toList,r,⟨o,n,I.kIn a o hk,hc,hd,by simpa using hs⟩,?_⟩
    have e:=r.length
    simp only[Array.length_toList]at e
    omega
theorem Inv.tuple(I:Inv X pins σ H s)(h:SqT X.K H a xs):∃ its:List Value,Vals xs its/\IsTup s.heap a its.toArray/\xs.length <= sizeLine:=by
  rcases h with h|⟨o,its,n,hk,hc,hs,hz,r⟩
  . obtain⟨z,its,r,p⟩:=h.ok I.hok
    exact⟨its,r,p,z⟩
  . refine⟨its.toList,r,⟨o,I.kIn a o hk,hc,n,by simpa using hs⟩,?_⟩
    have e:=r.length
    simp only[Array.length_toList]at e
    omega
theorem Inv.list_inj(I:Inv X pins σ H s)(h:SqL X.K H a xs)(h':SqL X.K H a ys):xs=ys:=by
  obtain⟨its,r,⟨o,n,e,_,_,d⟩,_⟩:=I.list h
  obtain⟨its',r',⟨o',n',e',_,_,d'⟩,_⟩:=I.list h'
  rw[e]at e';cases e'
  rw[d]at d'
  injection d' with d1 _
  have:its=its':=by simpa using congrArg Array.toList d1
  subst this
  exact r.inj r'
theorem Inv.tuple_inj(I:Inv X pins σ H s)(h:SqT X.K H a xs)(h':SqT X.K H a ys):xs=ys:=by
  obtain⟨its,r,⟨o,e,_,n,d⟩,_⟩:=I.tuple h
  obtain⟨its',r',⟨o',e',_,n',d'⟩,_⟩:=I.tuple h'
  rw[e]at e';cases e'
  rw[d]at d'
  injection d' with d1 _
  have:its=its':=by simpa using congrArg Array.toList d1
  subst this
  exact r.inj r'
end
noncomputable abbrev Cx.wish(X:Cx)(E:Value->Shared->Prop):Cx:={ X with xe:=E }
noncomputable abbrev Cx.nox(X:Cx):Cx:=X.wish λ _ _=>False
theorem Cx.Ok.wish{X:Cx}(ok:X.Ok)(E:Value->Shared->Prop):(X.wish E).Ok:=
  ⟨ok.mod,ok.kind,ok.glob,ok.blt,ok.above,ok.inj,ok.has,ok.cab,ok.hd,ok.frames,ok.stk,ok.exf,ok.bs,ok.bsz,ok.noex,ok.exfs,ok.funs,ok.frf⟩
theorem Cx.Ok.unwish{X:Cx}{E:Value->Shared->Prop}(ok:(X.wish E).Ok):X.Ok:=
  ⟨ok.mod,ok.kind,ok.glob,ok.blt,ok.above,ok.inj,ok.has,ok.cab,ok.hd,ok.frames,ok.stk,ok.exf,ok.bs,ok.bsz,ok.noex,ok.exfs,ok.funs,ok.frf⟩
section
variable{X:Cx}{pins:List (Addr × Obj)}{σ:St}{H:Hp}{s:Shared}{E:Value->Shared->Prop}
theorem Inv.wish(I:Inv X pins σ H s)(E:Value->Shared->Prop):Inv (X.wish E) pins σ H s:=⟨I.ok.wish E,I.os,I.bare,I.base,I.loc,I.cell,I.free,I.freeC,I.pin,I.hok,I.len⟩
theorem Inv.unwish(I:Inv (X.wish E) pins σ H s):Inv X pins σ H s:=⟨I.ok.unwish,I.os,I.bare,I.base,I.loc,I.cell,I.free,I.freeC,I.pin,I.hok,I.len⟩
theorem SP.unwish{D:Ends}{f:Flow}{s':Shared}(h:SP (X.wish E) pins D f s'):SP X pins D f s':=by
  cases f with
  | next=>obtain⟨σ',H',I,q⟩:=h;exact⟨σ',H',I.unwish,q⟩
  | brk=>obtain⟨σ',H',I,q⟩:=h;exact⟨σ',H',I.unwish,q⟩
  | cont=>obtain⟨σ',H',I,q⟩:=h;exact⟨σ',H',I.unwish,q⟩
  | ret u=>obtain⟨v,σ',H',I,r,q⟩:=h;exact⟨v,σ',H',I.unwish,r,q⟩
theorem PSs.nox{st:List Stmt}{t:TS}(h:PSs X.nox st t):PSs X st t:=λ pins s σ H D I hw=>
  wpAny_mono (h pins s σ H D (I.wish _) hw) (λ _ _ q=>q.unwish) λ _ _ z=>False.elim z
end
section
variable{X:Cx}{st:Stmt}{rest:List Stmt}{t u:TS}{e:Expr}{te:TE}{pos:Pos}
noncomputable def N0:TS:=λ D σ H=>D.nx σ H
noncomputable def PR(t u:TS):TS:=λ D σ H=>t { D with nx:=u D } σ H
theorem Si:PSs X [] N0:=λ _ _ σ H _ I h=>wpAny_execs_nil ⟨σ,H,I,h⟩
theorem QH(h1:PS X st t)(h2:PSs X rest u):PSs X (st :: rest) (PR t u):=by
  intro pins s σ H D I h
  refine wpAny_execs_cons (thn (h1 pins s σ H { D with nx:=u D } I h) λ f s1 q=>?_)
  cases f with
  | next=>
    obtain⟨σ',H',I',q⟩:=q
    exact h2 pins s1 σ' H' D I' q
  | ret v=>exact q
  | brk=>exact q
  | cont=>exact q
theorem Sh(h1:PS X st t):PSs X [st] t:=by
  intro pins s σ H D I h
  refine wpAny_execs_cons (thn (h1 pins s σ H D I h) λ f s1 q=>?_)
  cases f with
  | next=>exact wpAny_execs_nil q
  | ret v=>exact q
  | brk=>exact q
  | cont=>exact q
theorem Inv.quiet{pins:List (Addr × Obj)}{σ:St}{H:Hp}{s:Shared}(I:Inv X pins σ H s):interactive X.env=false:=by simp[interactive,I.ok.kind]
noncomputable def N2(te:TE):TS:=λ D σ H=>te σ H λ _ H1=>D.nx σ H1
theorem Sk(he:PE X e te)(hs:swapsWith e none pos.line X.env=pure false:=by rfl):PS X (.Expr e pos) (N2 te):=by
  intro pins s σ H D I h
  exact wpAny_Expr_any (thn (he pins s σ H _ I h) λ v s1 ⟨x,H1,I1,r1,q1⟩=>⟨σ,H1,I1,q1⟩) I.quiet hs
noncomputable def PU(te:TE):TS:=λ D σ H=>te σ H D.rt
theorem Uk(he:PE X e te):PS X (.Return (some e) pos) (PU te):=by
  intro pins s σ H D I h
  exact wpAny_Return_some (thn (he pins s σ H _ I h) λ v s1 ⟨x,H1,I1,r1,q1⟩=>⟨x,σ,H1,I1,r1,q1⟩)
noncomputable def PZ(c:TT)(t u:TS):TS:=λ D σ H=>c σ H λ b H1=>if b=true then t D σ H1 else u D σ H1
theorem Vu{c:Expr}{a b:List Stmt}{tc:TT}(hc:PT X c tc)(ha:PSs X a t)(hb:PSs X b u):PS X (.If c a b pos) (PZ tc t u):=by
  intro pins s σ H D I h
  refine wpAny_If (thn (hc pins s σ H _ I h) λ d s1 ⟨H1,I1,q1⟩=>?_)
  cases d with
  | true=>exact ha pins s1 σ H1 D I1 q1
  | false=>exact hb pins s1 σ H1 D I1 q1
noncomputable def Kb:TS:=λ _ _ _=>False
theorem QK:PS X st Kb:=λ _ _ _ _ _ _ h=>h.elim
end
noncomputable abbrev TG:=V->St->Hp->(St->Hp->Prop)->Prop
noncomputable abbrev TGs:=List V->St->Hp->(St->Hp->Prop)->Prop
noncomputable def PG(X:Cx)(target:Expr)(t:TG):Prop:=
  ∀ (pins:List (Addr × Obj)) (s:Shared) (σ:St) (H:Hp) (v:V) (u:Value) (Q:St->Hp->Prop),Inv X pins σ H s->RelV v u->t v σ H Q ->
    wpAny (model X.prog X.w) X.A (assign target X.env u) (λ _ s'=>∃ σ' H',Inv X pins σ' H' s'/\Q σ' H') X.xe s
noncomputable def PGs(X:Cx)(ts:List Expr)(t:TGs):Prop:=
  ∀ (pins:List (Addr × Obj)) (s:Shared) (σ:St) (H:Hp) (vs:List V) (us:List Value) (Q:St->Hp->Prop),Inv X pins σ H s->Vals vs us->t vs σ H Q ->
    wpAny (model X.prog X.w) X.A (assignInOrder ((assignEach ts X.env).map (·.2)) us) (λ _ s'=>∃ σ' H',Inv X pins σ' H' s'/\Q σ' H') X.xe s
noncomputable abbrev RO:=V->V->V->Hp->(Hp->Prop)->Prop
noncomputable def Vb(X:Cx)(t:RO):Prop:=
  ∀ (pins:List (Addr × Obj)) (s:Shared) (σ:St) (H:Hp) (o i v:V) (ov iv u:Value) (Q:Hp->Prop),Inv X pins σ H s->RelV o ov->RelV i iv->RelV v u->t o i v H Q ->
    wpAny (model X.prog X.w) X.A (setItem ov iv u) (λ _ s'=>∃ H',Inv X pins σ H' s'/\Q H') X.xe s
section
variable{X:Cx}{pos:Pos}
noncomputable def G7(i:Nat):TG:=λ v σ H Q=>Q (σ.set i (some v)) H
theorem Sv{i:Nat}{x:Str}(hN:X.N.Nodup)(hi:X.N[i]? = some x)(hx:Loc X.env.scope x)(hf:X.fn x=true ∨ X.env.scope.names.lookup x=some .local:=by first|exact .inl rfl|exact .inr rfl|assumption):PG X (.Name x pos) (G7 i):=by
  intro pins s σ H v u Q I r h
  exact wpAny_assign_Name (Ke I hN hi hx r (λ s' I'=>⟨_,H,I',h⟩) hf)
noncomputable def Qt:TGs:=λ vs σ H Q=>vs=[]/\Q σ H
noncomputable def NV(t:TG)(u:TGs):TGs:=λ vs σ H Q=>∃ v r,vs=v :: r/\t v σ H λ σ' H'=>u r σ' H' Q
theorem Ss:PGs X [] Qt:=by
  intro pins s σ H vs us Q I r h
  obtain⟨e,h⟩:=h
  subst e
  cases r
  exact assignInOrder_nil ⟨σ,H,I,h⟩
theorem QM{e:Expr}{es:List Expr}{t:TG}{u:TGs}(h1:PG X e t)(h2:PGs X es u)
    (hs:(assignEach (e :: es) X.env).map (·.2)=assign e X.env :: (assignEach es X.env).map (·.2):=by rfl):PGs X (e :: es) (NV t u):=by
  intro pins s σ H vs us Q I r h
  obtain⟨v,vr,e1,h⟩:=h
  subst e1
  cases r with
  | cons r rr=>
    rw[hs]
    refine assignInOrder_cons (thn (h1 pins s σ H _ _ _ I r h) λ _ s1 ⟨σ1,H1,I1,q1⟩=>?_)
    exact h2 pins s1 σ1 H1 _ _ Q I1 rr q1
noncomputable def NU(K:PySem.W.Frag)(n:Nat)(t:TGs):TG:=λ v σ H Q=>∃ a xs,v=.ref a/\SqT K H a xs/\xs.length=n/\t xs σ H Q
theorem Uo{es:List Expr}{k:Nat}{t:TGs}{n:Nat}(hc:X.calm=true)(h:PGs X es t)
    (hn:(assignEach es X.env).length=n:=by rfl) (hst:(assignEach es X.env).findIdx? (·.1)=none:=by rfl):PG X (.Tuple es k pos) (NU X.K n t):=by
  intro pins s σ H v u Q I r hw
  obtain⟨a,xs,e1,hq,hl,hw⟩:=hw
  subst e1
  cases r
  obtain⟨its,rv,ht,hz⟩:=I.tuple hq
  refine assign_Tuple_tuple (I.ok.hd hc) ht (by simp[hn,<- hl,rv.length]) hst λ h' hx=>?_
  have I1:Inv X pins σ H { s with heap:=h' }:=I.kept (t':=s.toks) λ b o e=>hx b o (Nat.ne_of_lt (Heap.lt_size e)) e
  exact h pins _ σ H xs _ Q I1 (by simpa using rv) hw
noncomputable def Qr(to ti:TE)(t:RO):TG:=λ v σ H Q=>to σ H λ o H1=>ti σ H1 λ i H2=>t o i v H2 λ H3=>Q σ H3
theorem Uq{o i:Expr}{to ti:TE}{t:RO}(ho:PE X o to)(hi:PE X i ti)(hs:Vb X t)
    (ha:∀ v,assign (.Subscript o i pos) X.env v=(do
      let ov <- holding [v] (eval o X.env)
      let iv <- holding [v,ov] (eval i X.env)
      standAt pos
      holding [v,ov,iv] (setItem ov iv v)
      release [v,ov,iv] []):=by intro _;rfl):PG X (.Subscript o i pos) (Qr to ti t):=by
  intro pins s σ H v u Q I r h
  rw[ha]
  refine wpAny_bind (wpAny_holding (thn (ho pins s σ H _ I h) λ ov s1 ⟨x,H1,I1,r1,q1⟩=>?_))
  refine wpAny_bind (wpAny_holding (thn (hi pins s1 σ H1 _ I1 q1) λ iv s2 ⟨y,H2,I2,r2,q2⟩=>?_))
  refine wpAny_bind (wpAny_standAt (wpAny_bind (wpAny_holding (thn (hs pins s2 σ H2 x y v ov iv u _ I2 r1 r2 r q2) λ _ s3 ⟨H3,I3,q3⟩=>?_))))
  exact wpAny_release ⟨σ,H3,I3,q3⟩
noncomputable def Fp(te:TE)(g:TG):TS:=λ D σ H=>te σ H λ x H1=>g x σ H1 D.nx
theorem OE{tg e:Expr}{te:TE}{g:TG}(he:PE X e te)(hg:PG X tg g)(hs:swapsWithSole [tg] e pos.line X.env=pure false:=by rfl)(hw:swappedStores [tg] e X.env=pure none:=by rfl)
    (h1:(assignEach [tg] X.env).map (·.2)=[assign tg X.env]:=by rfl):PS X (.Assign [tg] e pos) (Fp te g):=by
  intro pins s σ H D I h
  refine wpAny_Assign_stores (thn (he pins s σ H _ I h) λ v s1 ⟨x,H1,I1,r1,q1⟩=>?_) hs hw
  rw[h1]
  exact thn (hg pins s1 σ H1 x v _ I1 r1 q1) λ _ s2 q=>q
theorem Uj{i:Nat}{x:Str}{e:Expr}{te:TE}{pos':Pos}(hN:X.N.Nodup)(hi:X.N[i]? = some x)(hx:Loc X.env.scope x)(he:PE X e te)(hs:swapsWith e (some (.Name x pos')) pos.line X.env=pure false:=by rfl)(hf:X.fn x=true ∨ X.env.scope.names.lookup x=some .local:=by first|exact .inl rfl|exact .inr rfl|assumption) :
    PS X (.Assign [.Name x pos'] e pos) (Fp te (G7 i)):=by
  intro pins s σ H D I h
  refine wpAny_Assign_Name (thn (he pins s σ H _ I h) λ v s1 ⟨y,H1,I1,r1,q1⟩=>?_) hs
  exact Ke I1 hN hi hx r1 (λ s2 I2=>⟨_,H1,I2,q1⟩) hf
end
section
variable{X:Cx}{pos:Pos}
noncomputable def Ka(c:TT)(tb:TS):TS:=λ D σ H=>∃ W:Nat->St->Hp->Prop,(∃ m,W m σ H)/\∀ m σ H,W m σ H ->
  c σ H λ b H1=>if b=true then ∃ N:St->Hp->Prop,(∀ σ' H',N σ' H'->∃ m',m' < m/\W m' σ' H')/\tb { D with nx:=N,ct:=N,bk:=D.nx } σ H1 else D.nx σ H1
theorem QJ{c:Expr}{body:List Stmt}{tc:TT}{tb:TS}(hp:PassesOwn (model X.prog X.w) X.A X.env X.xe)(hc:PT X c tc)(hb:PSs X body tb):PS X (.While c body [] pos) (Ka tc tb):=by
  intro pins s σ H D I h
  obtain⟨W,⟨m0,w0⟩,turn⟩:=h
  refine wpAny_While (codeAny_whileLoop (λ n s'=>∃ σ' H',Inv X pins σ' H' s'/\W n σ' H') ?_ m0 ⟨σ,H,I,w0⟩)
  rintro n s1 ⟨σ1,H1,I1,w1⟩
  refine wpAny_passesOwn hp (thn (hc pins s1 σ1 H1 _ I1 (turn n σ1 H1 w1)) λ b s2 ⟨H2,I2,q2⟩=>?_)
  cases b with
  | true=>
    obtain⟨N,hN,q2⟩:=q2
    rw[if_pos rfl]
    refine wpAny_passesOwn hp (thn (hb pins s2 σ1 H2 _ I2 q2) λ f s3 q3=>?_)
    cases f with
    | next=>
      obtain⟨σ3,H3,I3,n3⟩:=q3
      obtain⟨m',hm,w3⟩:=hN σ3 H3 n3
      exact⟨m',hm,σ3,H3,I3,w3⟩
    | cont=>
      obtain⟨σ3,H3,I3,n3⟩:=q3
      obtain⟨m',hm,w3⟩:=hN σ3 H3 n3
      exact⟨m',hm,σ3,H3,I3,w3⟩
    | brk=>exact q3
    | ret v=>exact q3
  | false=>
    rw[if_neg Bool.false_ne_true]
    exact wpAny_execs_nil ⟨σ1,H2,I2,q2⟩
end
structure It where
  go:Nat->Hp->Prop
  yld:Nat->Hp->V->Hp->Prop
  stop:Nat->Hp->Prop
noncomputable def FpOk(X:Cx)(pins:List (Addr × Obj))(H:Hp)(b:Addr):Prop:=
  H b=none/\b ≠ X.env.locals/\b ∉ X.fs/\(b ∈ X.ex ∨ X.s₀.heap.objs.size <= b)/\(∀ x c,X.env.cells.lookup x=some c->c ≠ b)/\∀ p ∈ X.pn ++ pins,p.1 ≠ b
theorem Inv.fpOk{X:Cx}{pins:List (Addr × Obj)}{σ:St}{H H':Hp}{s:Shared}{b:Addr}(I:Inv X pins σ H s)(hb:s.heap.objs.size <= b)(hn:H' b=none):FpOk X pins H' b:=by
  refine⟨hn,Nat.ne_of_gt (Nat.lt_of_lt_of_le I.lt hb),I.nofs hb,.inr (Nat.le_trans I.sz hb),λ x c e z=>?_,λ p hp z=>?_⟩
  . obtain⟨v,q⟩:=I.cell x c e
    exact absurd (Nat.lt_of_lt_of_le q.lt (by rw[z];exact hb)) (Nat.lt_irrefl _)
  . exact absurd (Nat.lt_of_lt_of_le (Heap.lt_size (I.pin p hp).1) (by rw[z];exact hb)) (Nat.lt_irrefl _)
structure Turn(P:Program)(w:World)(K:PySem.W.Frag)(tg:Expr)(J:It)(fp:List Addr)(it:Addr)(tn:Nat->Heap->Prop):Prop where
  mem:it ∈ fp
  obj:∀ i h,tn i h->∀ b ∈ fp,∃ o,h.get? b=some o/\∀ v,o.data ≠ .cell v
  keep:∀ i h h',tn i h->(∀ b ∈ fp,∀ o,h.get? b=some o->h'.get? b=some o)->tn i h'
  item:∀ (X:Cx),X.prog=P->X.w=w->X.K=K->X.calm=true->∀ (i:Nat) (pins:List (Addr × Obj)) (s:Shared) (σ:St) (H:Hp) (E:Value->Shared->Prop),Inv X pins σ H s->(∀ b ∈ fp,FpOk X pins H b)->tn i s.heap->J.go i H ->
    wpAny (model P w) X.A (pyNext (.ref it)) (λ r s1=>∃ u,r=some u /\
      wpAny (model P w) X.A (letOwnedTupleGo tg (.ref it) u) (λ _ s2=>∃ x H',Inv X pins σ H' s2/\RelV x u/\J.yld i H x H'/\tn (i + 1) s2.heap/\∀ b ∈ fp,H' b=none) E s1) E s
  done:∀ (X:Cx),X.prog=P->X.w=w->X.K=K->X.calm=true->∀ (i:Nat) (pins:List (Addr × Obj)) (s:Shared) (σ:St) (H:Hp) (E:Value->Shared->Prop),Inv X pins σ H s->(∀ b ∈ fp,FpOk X pins H b)->tn i s.heap->J.stop i H ->
    wpAny (model P w) X.A (pyNext (.ref it)) (λ r s1=>r=none/\Inv X pins σ H s1) E s
  self:∀ (A:Around) (i:Nat) (s:Shared) (Q:Value->Shared->Prop) (E:Value->Shared->Prop),tn i s.heap->Q (.ref it) s->wpAny (model P w) A (pyIter (.ref it)) Q E s
noncomputable abbrev TI:=St->Hp->(It->Hp->Prop)->Prop
noncomputable def PIE(X:Cx)(pins:List (Addr × Obj))(σ:St)(tg:Expr)(R:It->Hp->Prop)(itv:Value)(s2:Shared):Prop:=
  ∃ (it:Addr) (fp:List Addr) (tn:Nat->Heap->Prop) (J:It) (H':Hp),itv=.ref it/\Inv X pins σ H' s2/\Turn X.prog X.w X.K tg J fp it tn/\tn 0 s2.heap/\(∀ b ∈ fp,FpOk X pins H' b)/\R J H'
noncomputable def PI(X:Cx)(tg iter:Expr)(wi:TI):Prop:=
  ∀ (pins:List (Addr × Obj)) (s:Shared) (σ:St) (H:Hp) (R:It->Hp->Prop),Inv X pins σ H s->wi σ H R ->
    wpAny (model X.prog X.w) X.A (eval iter X.env) (λ v s1=>wpAny (model X.prog X.w) X.A (pyIter v) (PIE X pins σ tg R) X.xe s1) X.xe s
theorem NT{M:Model}{A:Around}{E:Value->Shared->Prop}{s:Shared}{tg:Expr}{it:Addr}{u:Value}{o:Obj}{n:String}{vs:Array Value}{Q:Unit->Shared->Prop}(ho:s.heap.get? it=some o)(hc:o.cls=.type n)(hd:o.data=.fields vs)
    (hn:["enumerate","zip","dict_itemiterator","dict_reverseitemiterator","odict_iterator","itertools.zip_longest","itertools.pairwise"].contains n=false) (hQ:Q () s):wpAny M A (letOwnedTupleGo tg (.ref it) u) Q E s:=by
  unfold letOwnedTupleGo
  cases tg <;> first
    | exact wpAny_pure hQ
    | (cases u <;> first
        | exact wpAny_pure hQ
        | (refine wpAny_bind (wpAny_load ho ?_)
           rw[hc,hd]
           show wpAny M A (if(["enumerate","zip","dict_itemiterator","dict_reverseitemiterator","odict_iterator","itertools.zip_longest","itertools.pairwise"].contains n && vs[0]? == some (rawInt _))=true then _ else _) Q E s
           rw[if_neg (by intro h;rw[hn,Bool.false_and]at h;cases h)]
           exact wpAny_pure hQ))
noncomputable def Itl(K:PySem.W.Frag)(a:Addr):It:=
  ⟨λ i H=>∃ xs x,SqL K H a xs/\xs[i]? = some x,λ i H x H'=>H'=H/\∀ xs,SqL K H a xs->xs[i]? = some x,λ i H=>∃ xs,SqL K H a xs/\xs.length <= i⟩
noncomputable def Itt(K:PySem.W.Frag)(a:Addr):It:=
  ⟨λ i H=>∃ xs x,SqT K H a xs/\xs[i]? = some x,λ i H x H'=>H'=H/\∀ xs,SqT K H a xs->xs[i]? = some x,λ i H=>∃ xs,SqT K H a xs/\xs.length <= i⟩
noncomputable def Itr(lo:Int)(n:Nat):It:=⟨λ i _=>i < n,λ i H x H'=>H'=H/\x=.int (lo + i),λ i _=>n <= i⟩
theorem Nv{P:Program}{w:World}{K:PySem.W.Frag}{tg:Expr}(a it:Addr):Turn P w K tg (Itl K a) [it] it (λ i h=>h.IsListIter it a i) where
  mem:=by simp
  obj:=λ i h st b hb=>by
    have e:b=it:=by simpa using hb
    subst e
    obtain⟨o,e,c,d⟩:=st
    exact⟨o,e,λ v z=>by rw[d]at z;cases z⟩
  keep:=λ i h h' st k=>st.at λ o e=>k it (by simp) o e
  item:=by
    intro X hP hw hK hc i pins s σ H E I hf st hg
    subst hP hw hK
    obtain⟨xs,x,hq,hx⟩:=hg
    obtain⟨its,rv,p,hz⟩:=I.list hq
    obtain⟨u,hu,ru⟩:=rv.get hx
    obtain⟨f0,f1,f2,f3,f4,f5⟩:=hf it (by simp)
    refine wpAny_pyNext_list_item st p.isList (x:=u) (by simpa using hu) λ h' st' sb=>?_
    have I1:Inv X pins σ H { s with heap:=h' }:=I.turned (t':=s.toks) (λ b o hb e=>(sb.2 b hb).trans e) f0 f1 f3 f4 f5
    obtain⟨o,e,c,d⟩:=id st'
    exact⟨u,rfl,NT (s:={ s with heap:=h' }) e c d (by decide) ⟨x,H,I1,ru,⟨rfl,λ ys hy=>by rw[I.list_inj hy hq];exact hx⟩,st',λ b hb=>(hf b hb).1⟩⟩
  done:=by
    intro X hP hw hK hc i pins s σ H E I hf st hg
    subst hP hw hK
    obtain⟨xs,hq,hx⟩:=hg
    obtain⟨its,rv,p,hz⟩:=I.list hq
    obtain⟨f0,f1,f2,f3,f4,f5⟩:=hf it (by simp)
    have hl:=rv.length
    exact wpAny_pyNext_list_end (I.ok.hd hc) st p.isList (by simp;omega) λ h' eb=>⟨rfl,I.turned (t':=s.toks) (λ b o hb e=>eb b o hb e) f0 f1 f3 f4 f5⟩
  self:=λ _ _ _ _ _ st h=>wpAny_pyIter_listiter st h
theorem Mv{P:Program}{w:World}{K:PySem.W.Frag}{tg:Expr}(a it:Addr):Turn P w K tg (Itt K a) [it] it (λ i h=>h.IsTupleIter it a i) where
  mem:=by simp
  obj:=λ i h st b hb=>by
    have e:b=it:=by simpa using hb
    subst e
    obtain⟨o,e,c,d⟩:=st
    exact⟨o,e,λ v z=>by rw[d]at z;cases z⟩
  keep:=λ i h h' st k=>st.at λ o e=>k it (by simp) o e
  item:=by
    intro X hP hw hK hc i pins s σ H E I hf st hg
    subst hP hw hK
    obtain⟨xs,x,hq,hx⟩:=hg
    obtain⟨its,rv,p,hz⟩:=I.tuple hq
    obtain⟨u,hu,ru⟩:=rv.get hx
    obtain⟨f0,f1,f2,f3,f4,f5⟩:=hf it (by simp)
    refine wpAny_pyNext_tuple_item st (show s.heap.IsTuple a its.toArray from p) (x:=u) (by simpa using hu) λ h' st' sb=>?_
    have I1:Inv X pins σ H { s with heap:=h' }:=I.turned (t':=s.toks) (λ b o hb e=>(sb.2 b hb).trans e) f0 f1 f3 f4 f5
    obtain⟨o,e,c,d⟩:=id st'
    exact⟨u,rfl,NT (s:={ s with heap:=h' }) e c d (by decide) ⟨x,H,I1,ru,⟨rfl,λ ys hy=>by rw[I.tuple_inj hy hq];exact hx⟩,st',λ b hb=>(hf b hb).1⟩⟩
  done:=by
    intro X hP hw hK hc i pins s σ H E I hf st hg
    subst hP hw hK
    obtain⟨xs,hq,hx⟩:=hg
    obtain⟨its,rv,p,hz⟩:=I.tuple hq
    obtain⟨f0,f1,f2,f3,f4,f5⟩:=hf it (by simp)
    have hl:=rv.length
    exact wpAny_pyNext_tuple_end (I.ok.hd hc) st (show s.heap.IsTuple a its.toArray from p) (by simp;omega) λ h' eb=>⟨rfl,I.turned (t':=s.toks) (λ b o hb e=>eb b o hb e) f0 f1 f3 f4 f5⟩
  self:=λ _ _ _ _ _ st h=>wpAny_pyIter_tupleiter st h
theorem Mw{P:Program}{w:World}{K:PySem.W.Frag}{tg:Expr}(it:Addr)(lo:Int)(n:Nat):Turn P w K tg (Itr lo n) [it] it (λ i h=>IsRangeIter h it (lo + (i:Nat) * 1) ((n:Int) - (i:Nat)) 1) where
  mem:=by simp
  obj:=λ i h st b hb=>by
    have e:b=it:=by simpa using hb
    subst e
    exact⟨_,st,λ v z=>by
      have z':Data.fields _=Data.cell v:=z
      cases z'⟩
  keep:=λ i h h' st k=>k it (by simp) _ st
  item:=by
    intro X hP hw hK hc i pins s σ H E I hf st hg
    subst hP hw hK
    obtain⟨f0,f1,f2,f3,f4,f5⟩:=hf it (by simp)
    have W:=Walks.range (prog:=X.prog) (w:=X.w) (I.ok.hd hc) it lo 1 n
    refine W.item i s _ _ hg st λ v h' tk hv st' kk=>?_
    obtain⟨t,rfl⟩:=hv
    have I1:Inv X pins σ H { s with heap:=h',toks:=tk }:=I.turned (λ b o hb e=>kk b o (by simpa using hb) e) f0 f1 f3 f4 f5
    refine⟨_,rfl,NT (s:={ s with heap:=h',toks:=tk }) (n:="range_iterator") st' rfl rfl (by decide) ⟨.int (lo + i),H,I1,⟨t,?_⟩,⟨rfl,rfl⟩,st',λ b hb=>(hf b hb).1⟩⟩
    rw[Int.mul_one]
  done:=by
    intro X hP hw hK hc i pins s σ H E I hf st hg
    subst hP hw hK
    obtain⟨f0,f1,f2,f3,f4,f5⟩:=hf it (by simp)
    exact wpAny_pyNext_range_end (I.ok.hd hc) st (by have:n <= i:=hg;omega) λ h' eb=>⟨rfl,I.turned (t':=s.toks) (λ b o hb e=>eb b o hb e) f0 f1 f3 f4 f5⟩
  self:=λ _ _ _ _ _ st h=>wpAny_pyIter_rangeiter st h
end L2
namespace L2
open PySem PySem.Spec PyProof.Rows
section
variable{X:Cx}{tg:Expr}
noncomputable def IZ(K:PySem.W.Frag)(tl:TE):TI:=λ σ H R=>tl σ H λ x H1=>∃ a,x=.ref a/\(∃ xs,SqL K H1 a xs)/\R (Itl K a) H1
noncomputable def LP(K:PySem.W.Frag)(tl:TE):TI:=λ σ H R=>tl σ H λ x H1=>∃ a,x=.ref a/\(∃ xs,SqT K H1 a xs)/\R (Itt K a) H1
theorem Sr{l:Expr}{tl:TE}(hl:PE X l tl):PI X tg l (IZ X.K tl):=by
  intro pins s σ H R I h
  refine thn (hl pins s σ H _ I h) λ v s1 ⟨x,H1,I1,r1,q1⟩=>?_
  obtain⟨a,e,⟨xs,hq⟩,q⟩:=q1
  subst e
  cases r1
  obtain⟨its,rv,p,hz⟩:=I1.list hq
  refine wpAny_pyIter_list p.isList ?_
  refine⟨s1.heap.objs.size,[s1.heap.objs.size],_,_,H1,rfl,I1.kept (t':=s1.toks) λ b o e=>Heap.get?_push_of_some _ e,Nv a _,⟨_,Heap.get?_push_size _ rfl,rfl,rfl⟩,λ b hb=>?_,q⟩
  have e:b=s1.heap.objs.size:=by simpa using hb
  subst e
  exact I1.fpOk (Nat.le_refl _) (I1.hok.fresh (Nat.le_refl _))
theorem Um{l:Expr}{tl:TE}(hl:PE X l tl):PI X tg l (LP X.K tl):=by
  intro pins s σ H R I h
  refine thn (hl pins s σ H _ I h) λ v s1 ⟨x,H1,I1,r1,q1⟩=>?_
  obtain⟨a,e,⟨xs,hq⟩,q⟩:=q1
  subst e
  cases r1
  obtain⟨its,rv,p,hz⟩:=I1.tuple hq
  refine wpAny_pyIter_tuple (show s1.heap.IsTuple a its.toArray from p) ?_
  refine⟨s1.heap.objs.size,[s1.heap.objs.size],_,_,H1,rfl,I1.kept (t':=s1.toks) λ b o e=>Heap.get?_push_of_some _ e,Mv a _,⟨_,Heap.get?_push_size _ rfl,rfl,rfl⟩,λ b hb=>?_,q⟩
  have e:b=s1.heap.objs.size:=by simpa using hb
  subst e
  exact I1.fpOk (Nat.le_refl _) (I1.hok.fresh (Nat.le_refl _))
theorem Px{pins:List (Addr × Obj)}{σ:St}{H:Hp}{s:Shared}{R:It->Hp->Prop}{E:Value->Shared->Prop}{lo hi:Int}{t u v:Tok}{tk:Nat}(I:Inv X pins σ H s)(h1:-(2 ^ 62) <= lo)(h2:lo < 2 ^ 62)(h3:-(2 ^ 62) <= hi)(h4:hi < 2 ^ 62)
    (q:R (Itr lo (hi - lo).toNat) H):wpAny (model X.prog X.w) X.A (pyIter (.ref s.heap.objs.size)) (PIE X pins σ tg R) E { s with heap:=s.heap.push { cls:=.type "range",data:=.fields #[.int lo t,.int hi u,.int 1 v] },toks:=tk }:=by
  refine wpAny_pyIter_range (IsRange.new ..) (small_one h1 h2 h3 h4) ?_
  have I1:Inv X pins σ H { s with heap:=s.heap.push { cls:=.type "range",data:=.fields #[.int lo t,.int hi u,.int 1 v] },toks:=tk }:=I.kept λ b o e=>Heap.get?_push_of_some _ e
  refine⟨(s.heap.push { cls:=.type "range",data:=.fields #[.int lo t,.int hi u,.int 1 v] }).objs.size,[(s.heap.push { cls:=.type "range",data:=.fields #[.int lo t,.int hi u,.int 1 v] }).objs.size],_,_,H,rfl,
    I1.kept (t':=tk) λ b o e=>Heap.get?_push_of_some _ e,Mw _ lo (hi - lo).toNat,?_,λ b hb=>?_,q⟩
  . have e1:lo + ((0:Nat):Int) * 1=lo:=by simp
    have e2:(((hi - lo).toNat:Nat):Int) - ((0:Nat):Int)=Builtin.Range.rangeSize lo hi 1:=by rw[rangeSize_one];split <;> omega
    show IsRangeIter _ _ (lo + ((0:Nat):Int) * 1) ((((hi - lo).toNat:Nat):Int) - ((0:Nat):Int)) 1
    rw[e1,e2]
    exact Heap.get?_push_size _ rfl
  . have e:b=(s.heap.push { cls:=.type "range",data:=.fields #[.int lo t,.int hi u,.int 1 v] }).objs.size:=by simpa using hb
    subst e
    exact I1.fpOk (Nat.le_refl _) (I1.hok.fresh (Nat.le_refl _))
noncomputable def NS(ta:TA):TI:=λ σ H R=>ta σ H λ vs H1=>∃ j:Int,vs=[.int j]/\-(2 ^ 62) <= j/\j < 2 ^ 62/\R (Itr 0 j.toNat) H1
theorem OG{a:Expr}{ta:TA}{p pos:Pos}(hg:Gl X "range")(hm:X.mg "range"=none)(ha:PA X [a] ta)(hs:starEach [a] X.env=[(false,eval a X.env)]:=by rfl):PI X tg (.Call (.Name "range" p) [a] [] pos) (NS ta):=by
  intro pins s σ H R I h
  refine Call_ (GT I hg hm boot_range (PyProof.Rows.callWith_type1 (thn (ha pos pins s σ H _ I h) λ us s1 ⟨vs,H1,I1,r1,q1⟩=>?_) hs rfl))
  obtain⟨j,e,q1,q2,q⟩:=q1
  subst e
  cases r1 with
  | cons r rr=>
    cases rr
    obtain⟨t,rfl⟩:=r
    exact call_range_1 (Px I1 (by omega) (by omega) q1 q2 (by simpa using q))
noncomputable def Pa(wi:TI)(g:TG)(tb:TS):TS:=λ D σ H=>wi σ H λ J H1=>∃ W:Nat->Nat->St->Hp->Prop,(∃ m,W 0 m σ H1)/\∀ i m σ H,W i m σ H ->
  (J.stop i H/\D.nx σ H) ∨ (J.go i H/\∃ N:St->Hp->Prop,(∀ σ' H',N σ' H'->∃ m',m' < m/\W (i + 1) m' σ' H')/\∀ x H',J.yld i H x H'->g x σ H' λ σ2 H2=>tb { D with nx:=N,ct:=N,bk:=D.nx } σ2 H2)
noncomputable def Ei(fp:List Addr)(h:Heap):List (Addr × Obj):=fp.filterMap λ b=>(h.get? b).map λ o=>(b,o)
theorem CH{fp:List Addr}{h:Heap}{b:Addr}{o:Obj}(hb:b ∈ fp)(e:h.get? b=some o):(b,o) ∈ Ei fp h:=List.mem_filterMap.mpr ⟨b,hb,by rw[e];rfl⟩
theorem OP{fp:List Addr}{h:Heap}{p:Addr × Obj}(hp:p ∈ Ei fp h):p.1 ∈ fp/\h.get? p.1=some p.2:=by
  obtain⟨b,hb,e⟩:=List.mem_filterMap.mp hp
  cases q:h.get? b with
  | none=>rw[q]at e;cases e
  | some o=>
    rw[q]at e
    have e':(b,o)=p:=Option.some.inj e
    subst e'
    exact⟨hb,q⟩
theorem Inv.pinned{pins:List (Addr × Obj)}{σ:St}{H:Hp}{s:Shared}{fp:List Addr}(I:Inv X pins σ H s)(hf:∀ b ∈ fp,FpOk X pins H b)(ho:∀ b ∈ fp,∃ o,s.heap.get? b=some o/\∀ v,o.data ≠ .cell v):Inv X (pins ++ Ei fp s.heap) σ H s:=
  I.pins_of λ p hp=>(List.mem_append.mp hp).elim (λ z=>I.pin p (List.mem_append_right _ z)) λ z=>by
    obtain⟨hb,e⟩:=OP z
    obtain⟨f0,f1,f2,_⟩:=hf p.1 hb
    obtain⟨o,e',d⟩:=ho p.1 hb
    rw[e]at e';cases e'
    exact⟨e,f0,f1,f2,d⟩
theorem Inv.unpinned{pins pl:List (Addr × Obj)}{σ:St}{H:Hp}{s:Shared}(I:Inv X (pins ++ pl) σ H s):Inv X pins σ H s:=I.pins_of λ p hp=>I.pin p (List.mem_append_right _ (List.mem_append_left _ hp))
theorem Ul{iter:Expr}{body:List Stmt}{wi:TI}{g:TG}{tb:TS}{pos:Pos}(hp:PassesOwn (model X.prog X.w) X.A X.env X.xe)(hc:X.calm=true)(hi:PI X tg iter wi)(hg:PG X tg g)(hb:PSs X body tb)
    (hs:∀ x,foldedSetIterable iter X.env x=pure x:=by intro _;rfl):PS X (.For tg iter body [] pos) (Pa wi g tb):=by
  intro pins s σ H D I h
  refine wpAny_For (thn (hi pins s σ H _ I h) λ v s1 h1=>thn h1 λ itv s2 h2=>?_) hs
  obtain⟨it,fp,tn,J,H2,e,I2,T,st2,f2,W,⟨m0,w0⟩,turn⟩:=h2
  subst e
  -- what stays true of the iterator's objects through the loop
  have stat:∀ {H':Hp},(∀ b ∈ fp,H' b=none)->∀ b ∈ fp,FpOk X pins H' b:=λ hn b hb=>⟨hn b hb,(f2 b hb).2⟩
  refine codeAny_forLoop_any (λ n s'=>∃ i σ' H',Inv X pins σ' H' s'/\tn i s'.heap/\(∀ b ∈ fp,H' b=none)/\W i n σ' H') ?_ m0 ⟨0,σ,H2,I2,st2,λ b hb=>(f2 b hb).1,w0⟩
  rintro n s3 ⟨i,σ3,H3,I3,st3,fr3,w3⟩
  rcases turn i n σ3 H3 w3 with⟨stop,qn⟩|⟨go,N,hN,step⟩
  . refine wpAny_passesOwn hp (thn (T.done X rfl rfl rfl hc i pins s3 σ3 H3 X.xe I3 (stat fr3) st3 stop) λ r s4 ⟨hr,I4⟩=>?_)
    subst hr
    exact wpAny_execs_nil ⟨σ3,H3,I4,qn⟩
  . refine wpAny_passesOwn hp (thn (T.item X rfl rfl rfl hc i pins s3 σ3 H3 X.xe I3 (stat fr3) st3 go) λ r s4 ⟨u,hr,h4⟩=>?_)
    subst hr
    refine wpAny_passesOwn hp (thn h4 λ _ s5 ⟨x,H5,I5,r5,y5,st5,fr5⟩=>?_)
    have I5':=I5.pinned (stat fr5) (T.obj _ _ st5)
    refine wpAny_passesOwn hp (thn (hg _ s5 σ3 H5 x u _ I5' r5 (step x H5 y5)) λ _ s6 ⟨σ6,H6,I6,q6⟩=>?_)
    refine wpAny_passesOwn hp (thn (hb _ s6 σ6 H6 _ I6 q6) λ f s7 q7=>?_)
    have again:∀ {σ7:St} {H7:Hp},Inv X (pins ++ Ei fp s5.heap) σ7 H7 s7->N σ7 H7->∃ m,m < n/\∃ i σ' H',Inv X pins σ' H' s7/\tn i s7.heap/\(∀ b ∈ fp,H' b=none)/\W i m σ' H':=λ {σ7 H7} I7 n7=>by
      obtain⟨m',hm,w7⟩:=hN σ7 H7 n7
      refine⟨m',hm,i + 1,σ7,H7,I7.unpinned,T.keep _ _ _ st5 λ b hb o e=>(I7.pin (b,o) (List.mem_append_right _ (List.mem_append_right _ (CH hb e)))).1,λ b hb=>?_,w7⟩
      obtain⟨o,e,d⟩:=T.obj _ _ st5 b hb
      exact(I7.pin (b,o) (List.mem_append_right _ (List.mem_append_right _ (CH hb e)))).2.1
    cases f with
    | next=>obtain⟨σ7,H7,I7,n7⟩:=q7;exact again I7 n7
    | cont=>obtain⟨σ7,H7,I7,n7⟩:=q7;exact again I7 n7
    | brk=>obtain⟨σ7,H7,I7,q7⟩:=q7;exact⟨σ7,H7,I7.unpinned,q7⟩
    | ret v=>obtain⟨x7,σ7,H7,I7,r7,q7⟩:=q7;exact⟨x7,σ7,H7,I7.unpinned,r7,q7⟩
end
end L2
namespace L2
open PySem PySem.Spec PyProof.Rows
noncomputable abbrev R2:=V->V->Hp->VK->Prop
noncomputable def OpR(X:Cx)(f:Value->Value->Sem Value)(r:R2):Prop:=
  ∀ (pins:List (Addr × Obj)) (s:Shared) (σ:St) (H:Hp) (x y:V) (v u:Value) (Q:VK),Inv X pins σ H s->RelV x v->RelV y u->r x y H Q ->
    wpAny (model X.prog X.w) X.A (f v u) (EP X pins σ Q) X.xe s
noncomputable def CallR(X:Cx)(f:Value)(r:List V->Hp->VK->Prop):Prop:=
  ∀ (pins:List (Addr × Obj)) (s:Shared) (σ:St) (H:Hp) (xs:List V) (us:List Value) (Q:VK),Inv X pins σ H s->Vals xs us->r xs H Q ->
    wpAny (model X.prog X.w) X.A (call f us) (EP X pins σ Q) X.xe s
noncomputable def X0(X:Cx)(r:V->Hp->(Bool->Hp->Prop)->Prop):Prop:=
  ∀ (pins:List (Addr × Obj)) (s:Shared) (σ:St) (H:Hp) (x:V) (v:Value) (Q:Bool->Hp->Prop),Inv X pins σ H s->RelV x v->r x H Q ->
    wpAny (model X.prog X.w) X.A (truthy v) (TP X pins σ Q) X.xe s
noncomputable def tOp(r:R2)(ta tb:TE):TE:=λ σ H Q=>ta σ H λ x H1=>tb σ H1 λ y H2=>r x y H2 Q
noncomputable def rI(C:Int->Int->Prop)(g:Int->Int->V):R2:=λ x y H Q=>∃ i j,x=.int i/\y=.int j/\C i j/\Q (g i j) H
noncomputable def rI0(g:Int->Int->V):R2:=λ x y H Q=>∃ i j,x=.int i/\y=.int j/\Q (g i j) H
section
variable{X:Cx}{a b c:Expr}{ta tb tc:TE}{pos:Pos}
theorem RJ(ha:PE X a ta)(hb:PE X b tb){pins:List (Addr × Obj)}{s:Shared}{σ:St}{H:Hp}{R:V->V->Hp->Prop}(I:Inv X pins σ H s)
    (h:ta σ H λ x H1=>tb σ H1 λ y H2=>R x y H2) {Q:Value->Shared->Prop} {f:Value->Value->Sem Value}
    (hf:∀ v u s2 x y H2,Inv X pins σ H2 s2->RelV x v->RelV y u->R x y H2->wpAny (model X.prog X.w) X.A (f v u) Q X.xe s2) :
    wpAny (model X.prog X.w) X.A (eval a X.env) (λ v s₁=>wpAny (model X.prog X.w) X.A (eval b X.env) (λ u s₂=>wpAny (model X.prog X.w) X.A (f v u) Q X.xe s₂) X.xe s₁) X.xe s:=by
  refine thn (ha pins s σ H _ I h) λ v s1 ⟨x,H1,I1,r1,q1⟩=>?_
  refine thn (hb pins s1 σ H1 _ I1 q1) λ u s2 ⟨y,H2,I2,r2,q2⟩=>?_
  exact hf v u s2 x y H2 I2 r1 r2 q2
theorem NK{op:Operator}{r:R2}(ho:OpR X (binaryOp op) r)(ha:PE X a ta)(hb:PE X b tb):PE X (.BinOp a op b pos) (tOp r ta tb):=by
  intro pins s σ H Q I h
  exact wpAny_BinOp (RJ ha hb I h λ v u s2 x y H2 I2 rx ry q=>ho pins s2 σ H2 x y v u Q I2 rx ry q)
theorem opI{f:Value->Value->Sem Value}{C:Int->Int->Prop}{g:Int->Int->Int}
    (rule:∀ (i j:Int) (t u:Tok) (s:Shared) (Q:Value->Shared->Prop) (E:Value->Shared->Prop),C i j->Q (.int (g i j) s.toks) { s with toks:=s.toks + 1 }->wpAny (model X.prog X.w) X.A (f (.int i t) (.int j u)) Q E s) :
    OpR X f (rI C λ i j=>.int (g i j)):=by
  intro pins s σ H x y v u Q I rx ry h
  obtain⟨i,j,rfl,rfl,hc,q⟩:=h
  obtain⟨t,rfl⟩:=rx
  obtain⟨t',rfl⟩:=ry
  exact rule i j t t' s _ _ hc ⟨.int (g i j),H,I.tok _,⟨_,rfl⟩,q⟩
theorem VA{f:Value->Value->Sem Value}{g:Int->Int->Int}
    (rule:∀ (i j:Int) (t u:Tok) (s:Shared) (Q:Value->Shared->Prop) (E:Value->Shared->Prop),Q (.int (g i j) s.toks) { s with toks:=s.toks + 1 }->wpAny (model X.prog X.w) X.A (f (.int i t) (.int j u)) Q E s) :
    OpR X f (rI0 λ i j=>.int (g i j)):=by
  intro pins s σ H x y v u Q I rx ry h
  obtain⟨i,j,rfl,rfl,q⟩:=h
  obtain⟨t,rfl⟩:=rx
  obtain⟨t',rfl⟩:=ry
  exact rule i j t t' s _ _ ⟨.int (g i j),H,I.tok _,⟨_,rfl⟩,q⟩
theorem NM{f:Value->Value->Sem Value}{g:Int->Int->Bool}
    (rule:∀ (i j:Int) (t u:Tok) (s:Shared) (Q:Value->Shared->Prop) (E:Value->Shared->Prop),Q (.bool (g i j)) s->wpAny (model X.prog X.w) X.A (f (.int i t) (.int j u)) Q E s) :
    OpR X f (rI0 λ i j=>.bl (g i j)):=by
  intro pins s σ H x y v u Q I rx ry h
  obtain⟨i,j,rfl,rfl,q⟩:=h
  obtain⟨t,rfl⟩:=rx
  obtain⟨t',rfl⟩:=ry
  exact rule i j t t' s _ _ ⟨.bl (g i j),H,I,rfl,q⟩
noncomputable def Ve(i j:Int):Prop:=0 < j/\j < 1073741824
noncomputable def Vd(i j:Int):Prop:=0 <= j/\j <= 1000000/\i.natAbs < 2 ^ 64
noncomputable def CMul(i j:Int):Prop:=(-(2 ^ 64) < i/\i < 2 ^ 64) ∨ (-(2 ^ 64) < j/\j < 2 ^ 64)
theorem CMul.ok{i j:Int}(h:CMul i j):IntMulOk i j:=by
  rcases h with⟨h1,h2⟩|⟨h1,h2⟩
  . exact .of_left (intBits_le_64 h1 h2)
  . exact .of_right (intBits_le_64 h1 h2)
theorem Bc:OpR X (binaryOp .Add) (rI0 λ i j=>.int (i + j)):=VA λ _ _ _ _ _ _ _ q=>add_int q
theorem FW:OpR X (binaryOp .Sub) (rI0 λ i j=>.int (i - j)):=VA λ _ _ _ _ _ _ _ q=>sub_int q
theorem Cc:OpR X (binaryOp .Mult) (rI CMul λ i j=>.int (i * j)):=opI λ _ _ _ _ _ _ _ hc q=>mul_int q hc.ok
theorem JE:OpR X (binaryOp .FloorDiv) (rI Ve λ i j=>.int (i / j)):=opI λ i j _ _ _ _ _ hc q=>by
  have h1:(0:Int) < j:=hc.1
  have h2:j < 1073741824:=hc.2
  exact floordiv_int (by omega) (by rw[Int.fdiv_eq_ediv_of_nonneg i (by omega)];exact q) (.inl (PyProof.noPylong_small (by omega)))
theorem EI:OpR X (binaryOp .Mod) (rI (λ _ j=>0 < j) λ i j=>.int (i % j)):=opI λ i j _ _ _ _ _ hc q=>by
  have h1:(0:Int) < j:=hc
  exact mod_int' (by omega) (by rw[Int.fmod_eq_emod_of_nonneg i (by omega)];exact q)
theorem V5:OpR X (binaryOp .Pow) (rI Vd λ i j=>.int (i ^ j.toNat)):=opI λ _ _ _ _ _ _ _ hc q=>pow_int_small hc.1 hc.2.1 hc.2.2 q
end
noncomputable def Kk:V->V->Bool
  | .non,.non=>true | .non,.int _=>true | .int _,.non=>true | .non,.bl _=>true | .bl _,.non=>true | .non,.str _=>true | .str _,.non=>true
  | .int _,.int _=>true | .bl _,.bl _=>true | .str _,.str _=>true | .byt _,.byt _=>true
  | .int _,.str _=>true | .str _,.int _=>true | .bl _,.str _=>true | .str _,.bl _=>true
  | _,_=>false
noncomputable def rEq:R2:=λ x y H Q=>Kk x y=true/\Q (.bl (decide (x=y))) H
noncomputable def rNe:R2:=λ x y H Q=>Kk x y=true/\Q (.bl (!decide (x=y))) H
theorem Me{i j:Int}:decide (V.int i=V.int j)=(i == j):=by
  rw[Bool.eq_iff_iff]
  simp
theorem Oq{i j:Bool}:decide (V.bl i=V.bl j)=(i == j):=by
  rw[Bool.eq_iff_iff]
  simp
theorem Md{i j:Str}:decide (V.str i=V.str j)=(i == j):=by
  rw[Bool.eq_iff_iff]
  simp
theorem Mf{i j:Array UInt8}:decide (V.byt i=V.byt j)=(i.toList == j.toList):=by
  rw[Bool.eq_iff_iff]
  cases i
  cases j
  simp
section
variable{X:Cx}{a b c:Expr}{ta tb tc:TE}{pos:Pos}
theorem Ak{pins:List (Addr × Obj)}{σ:St}{H:Hp}{s:Shared}{Q:VK}{k k':Bool}(I:Inv X pins σ H s)(q:Q (.bl k) H)(e:k=k'):EP X pins σ Q (.bool k') s:=by
  subst e
  exact⟨.bl k,H,I,rfl,q⟩
theorem CG:OpR X (compareOp .Eq) rEq:=by
  intro pins s σ H x y v u Q I rx ry h
  obtain⟨hs,q⟩:=h
  cases x with
  | non=>
    cases rx
    cases y with
    | non=>cases ry;exact PySem.EqNone.eq_none_none (Ak I q (by simp))
    | bl j=>cases ry;exact PySem.EqNone.eq_none_bool (Ak I q (by simp))
    | int j=>obtain⟨t',rfl⟩:=ry;exact PySem.EqNone.eq_none_int (Ak I q (by simp))
    | str j=>obtain⟨t',rfl⟩:=ry;exact PySem.EqNone.eq_none_str (Ak I q (by simp))
    | _=>exact absurd (show false=true from hs) Bool.false_ne_true
  | bl i=>
    cases rx
    cases y with
    | non=>cases ry;exact PySem.EqNone.eq_bool_none (Ak I q (by simp))
    | bl j=>cases ry;exact eq_bool (Ak I q Oq)
    | str j=>obtain⟨t',rfl⟩:=ry;exact PySem.EqMixed.eq_bool_str (Ak I q (by simp))
    | _=>exact absurd (show false=true from hs) Bool.false_ne_true
  | int i=>
    obtain⟨t,rfl⟩:=rx
    cases y with
    | non=>cases ry;exact PySem.EqNone.eq_int_none (Ak I q (by simp))
    | int j=>obtain⟨t',rfl⟩:=ry;exact eq_int (Ak I q Me)
    | str j=>obtain⟨t',rfl⟩:=ry;exact PySem.EqMixed.eq_int_str (Ak I q (by simp))
    | _=>exact absurd (show false=true from hs) Bool.false_ne_true
  | str i=>
    obtain⟨t,rfl⟩:=rx
    cases y with
    | non=>cases ry;exact PySem.EqNone.eq_str_none (Ak I q (by simp))
    | bl j=>cases ry;exact PySem.EqMixed.eq_str_bool (Ak I q (by simp))
    | int j=>obtain⟨t',rfl⟩:=ry;exact PySem.EqMixed.eq_str_int (Ak I q (by simp))
    | str j=>obtain⟨t',rfl⟩:=ry;exact eq_str (Ak I q Md)
    | _=>exact absurd (show false=true from hs) Bool.false_ne_true
  | byt i=>
    obtain⟨t,rfl⟩:=rx
    cases y with
    | byt j=>obtain⟨t',rfl⟩:=ry;exact PySem.W.eq_bytes (Ak I q Mf)
    | _=>exact absurd (show false=true from hs) Bool.false_ne_true
  | _=>cases y <;> exact absurd (show false=true from hs) Bool.false_ne_true
theorem K8:OpR X (compareOp .NotEq) rNe:=by
  intro pins s σ H x y v u Q I rx ry h
  obtain⟨hs,q⟩:=h
  cases x with
  | non=>
    cases rx
    cases y with
    | non=>cases ry;exact PySem.EqNone.ne_none_none (Ak I q (by simp))
    | bl j=>cases ry;exact PySem.EqNone.ne_none_bool (Ak I q (by simp))
    | int j=>obtain⟨t',rfl⟩:=ry;exact PySem.EqNone.ne_none_int (Ak I q (by simp))
    | str j=>obtain⟨t',rfl⟩:=ry;exact PySem.EqNone.ne_none_str (Ak I q (by simp))
    | _=>exact absurd (show false=true from hs) Bool.false_ne_true
  | bl i=>
    cases rx
    cases y with
    | non=>cases ry;exact PySem.EqNone.ne_bool_none (Ak I q (by simp))
    | bl j=>cases ry;exact ne_bool (Ak I q (congrArg not Oq))
    | str j=>obtain⟨t',rfl⟩:=ry;exact PySem.EqMixed.ne_bool_str (Ak I q (by simp))
    | _=>exact absurd (show false=true from hs) Bool.false_ne_true
  | int i=>
    obtain⟨t,rfl⟩:=rx
    cases y with
    | non=>cases ry;exact PySem.EqNone.ne_int_none (Ak I q (by simp))
    | int j=>obtain⟨t',rfl⟩:=ry;exact ne_int (Ak I q (congrArg not Me))
    | str j=>obtain⟨t',rfl⟩:=ry;exact PySem.EqMixed.ne_int_str (Ak I q (by simp))
    | _=>exact absurd (show false=true from hs) Bool.false_ne_true
  | str i=>
    obtain⟨t,rfl⟩:=rx
    cases y with
    | non=>cases ry;exact PySem.EqNone.ne_str_none (Ak I q (by simp))
    | bl j=>cases ry;exact PySem.EqMixed.ne_str_bool (Ak I q (by simp))
    | int j=>obtain⟨t',rfl⟩:=ry;exact PySem.EqMixed.ne_str_int (Ak I q (by simp))
    | str j=>obtain⟨t',rfl⟩:=ry;exact ne_str (Ak I q (congrArg not Md))
    | _=>exact absurd (show false=true from hs) Bool.false_ne_true
  | byt i=>
    obtain⟨t,rfl⟩:=rx
    cases y with
    | byt j=>obtain⟨t',rfl⟩:=ry;exact PySem.W.ne_bytes (Ak I q (congrArg not Mf))
    | _=>exact absurd (show false=true from hs) Bool.false_ne_true
  | _=>cases y <;> exact absurd (show false=true from hs) Bool.false_ne_true
theorem Vy:OpR X (compareOp .Lt) (rI0 λ i j=>.bl (decide (i < j))):=NM λ _ _ _ _ _ _ _ q=>lt_int q
theorem Ro:OpR X (compareOp .LtE) (rI0 λ i j=>.bl (decide (i <= j))):=NM λ _ _ _ _ _ _ _ q=>le_int q
theorem NL:OpR X (compareOp .Gt) (rI0 λ i j=>.bl (decide (j < i))):=NM λ _ _ _ _ _ _ _ q=>gt_int q
theorem Vz:OpR X (compareOp .GtE) (rI0 λ i j=>.bl (decide (j <= i))):=NM λ _ _ _ _ _ _ _ q=>ge_int q
theorem OpR.or{f:Value->Value->Sem Value}{r r':R2}(h:OpR X f r)(h':OpR X f r'):OpR X f (λ x y H Q=>r x y H Q ∨ r' x y H Q):=by
  intro pins s σ H x y v u Q I rx ry q
  rcases q with q|q
  . exact h pins s σ H x y v u Q I rx ry q
  . exact h' pins s σ H x y v u Q I rx ry q
theorem L0(b:Expr){op:CmpOp}(h:op ≠ .In:=by decide)(h2:op ≠ .NotIn:=by decide):behindInMarks op b=false:=by
  have e1:(op == CmpOp.In)=false:=by cases op <;> first|rfl|exact absurd rfl h
  have e2:(op == CmpOp.NotIn)=false:=by cases op <;> first|rfl|exact absurd rfl h2
  cases b <;> simp[behindInMarks,e1,e2]
theorem Sz{op:CmpOp}{r:R2}(ho:OpR X (compareOp op) r)(ha:PE X a ta)(hb:PE X b tb)(hm:behindInMarks op b=false):PE X (.Compare a [op] [b] pos) (tOp r ta tb):=by
  intro pins s σ H Q I h
  exact wpAny_Compare1 (RJ ha hb I h λ v u s2 x y H2 I2 rx ry q=>ho pins s2 σ H2 x y v u Q I2 rx ry q) hm
noncomputable def K3(t:TE):TT:=λ σ H Q=>t σ H λ x H'=>∃ k,x=.bl k/\Q k H'
theorem ML{op:CmpOp}{r:R2}(ho:OpR X (compareOp op) r)(ha:PE X a ta)(hb:PE X b tb)(hm:behindInMarks op b=false):PT X (.Compare a [op] [b] pos) (K3 (tOp r ta tb)):=by
  intro pins s σ H Q I h
  refine wpAny_isTrue_Compare1 (thn (ha pins s σ H _ I h) λ v s1 ⟨x,H1,I1,r1,q1⟩=>thn (hb pins s1 σ H1 _ I1 q1) λ u s2 ⟨y,H2,I2,r2,q2⟩=>
    thn (ho pins s2 σ H2 x y v u _ I2 r1 r2 q2) λ c s3 ⟨z,H3,I3,r3,k,e,q3⟩=>?_) hm
  subst e
  cases r3
  exact wpAny_truthy_bool ⟨H3,I3,q3⟩
noncomputable def Ll(K:PySem.W.Frag)(x:V)(H:Hp)(k:Bool):Prop:=
  match x with
  | .non=>k=false
  | .bl b=>k=b
  | .int i=>k=(i != 0)
  | .str y=>y.length <= sizeLine/\k=((y.length:Int) != 0)
  | .byt y=>y.size <= sizeLine/\k=((y.size:Int) != 0)
  | .ref p=>(∃ xs,SqL K H p xs/\k=!xs.isEmpty) ∨ (∃ xs,SqT K H p xs/\k=!xs.isEmpty) ∨ ∃ kvs,H p=some (.dK kvs)/\k=!kvs.isEmpty
  | _=>False
theorem NR{κ:Type}{kvs:List (κ × V)}{vs:List (κ × Value)}(r:KV kvs vs):(!vs.isEmpty)=!kvs.isEmpty:=by
  cases r <;> rfl
theorem IX{xs:List V}{its:List Value}(r:Vals xs its):(!its.toArray.isEmpty)=!xs.isEmpty:=by
  cases r <;> simp
theorem Fd:(sizeLine:Nat) < 2 ^ 63:=by rw[sizeLine_eq];decide
theorem U0:X0 X (λ x H Q=>∃ k,Ll X.K x H k/\Q k H):=by
  intro pins s σ H x v Q I rx h
  obtain⟨k,e,q⟩:=h
  have hl:=Fd
  have hs:sizeLine=16777216:=sizeLine_eq
  cases x with
  | non=>
    cases rx
    have e':k=false:=e
    subst e'
    exact truthy_none ⟨H,I,q⟩
  | bl b=>
    cases rx
    have e':k=b:=e
    subst e'
    exact wpAny_truthy_bool ⟨H,I,q⟩
  | int i=>
    obtain⟨t,rfl⟩:=rx
    have e':k=(i != 0):=e
    subst e'
    exact PySem.P.truthy_int ⟨H,I,q⟩
  | str y=>
    obtain⟨t,rfl⟩:=rx
    obtain⟨hy,e'⟩:y.length <= sizeLine/\k=((y.length:Int) != 0):=e
    subst e'
    exact PySem.P.truthy_str (by omega) ⟨H,I.tok _,q⟩
  | byt y=>
    obtain⟨t,rfl⟩:=rx
    obtain⟨hy,e'⟩:y.size <= sizeLine/\k=((y.size:Int) != 0):=e
    subst e'
    exact PySem.W.truthy_bytes (by omega) ⟨H,I.tok _,q⟩
  | ref p=>
    cases rx
    have e':(∃ xs,SqL X.K H p xs/\k=!xs.isEmpty) ∨ (∃ xs,SqT X.K H p xs/\k=!xs.isEmpty) ∨ ∃ kvs,H p=some (.dK kvs)/\k=!kvs.isEmpty:=e
    rcases e' with⟨xs,hx,e'⟩|⟨xs,hx,e'⟩|⟨kvs,hx,e'⟩
    . subst e'
      obtain⟨its,r,pl,hz⟩:=I.list hx
      have hlen:=r.length
      exact wpAny_truthy_list pl.isList (by simp only[List.size_toArray];omega) ⟨H,I.tok _,by rw[IX r];exact q⟩
    . subst e'
      obtain⟨its,r,pl,hz⟩:=I.tuple hx
      have hlen:=r.length
      exact truthy_tuple pl (by simp only[List.size_toArray];omega) ⟨H,I.tok _,by rw[IX r];exact q⟩
    . subst e'
      obtain⟨hz,hS,vs,r,m⟩:kvs.length <= sizeLine/\(p == sysModules)=false/\∃ vs,KV kvs vs/\s.heap.DictOf (Bf X.prog X.w) p vs:=I.hok p _ hx
      have hlen:kvs.length=vs.length:=Paired.length r
      exact wpAny_truthy_dict hS m (by omega) ⟨H,I.tok _,by rw[NR r];exact q⟩
  | _=>exact(show False from e).elim
theorem QD(ha:PE X a ta)(he:∀ whole,isTrue a X.env whole=(do let v <- whole;standAt a.pos;holding [v] (truthy v))) :
    PT X a (λ σ H Q=>ta σ H λ x H'=>∃ k,Ll X.K x H' k/\Q k H'):=by
  intro pins s σ H Q I h
  exact isTrue_plain (thn (ha pins s σ H _ I h) λ v s1 ⟨x,H1,I1,r1,q1⟩=>U0 pins s1 σ H1 x v Q I1 r1 q1) (he _)
theorem Bn{x:V}{us:List Value}(r:Vals [x] us):∃ u,us=[u]/\RelV x u:=by
  cases r with
  | cons r1 r2=>cases r2;exact⟨_,rfl,r1⟩
theorem K0{x y:V}{us:List Value}(r:Vals [x,y] us):∃ u w',us=[u,w']/\RelV x u/\RelV y w':=by
  cases r with
  | cons r1 r2=>
    cases r2 with
    | cons r3 r4=>cases r4;exact⟨_,_,rfl,r1,r3⟩
theorem FI(hc:X.calm=true):CallR X (.builtin "max") (λ xs H Q=>∃ i j,xs=[.int i,.int j]/\Q (.int (if j > i then j else i)) H):=by
  intro pins s σ H xs us Q I r h
  obtain⟨i,j,rfl,q⟩:=h
  obtain⟨u,w',rfl,⟨t,rfl⟩,⟨t',rfl⟩⟩:=K0 r
  refine max_two_ints (I.ok.hd hc) λ h' tk k=>⟨_,H,I.kept k,?_,q⟩
  by_cases hj:j > i
  . rw[if_pos hj,if_pos hj];exact⟨_,rfl⟩
  . rw[if_neg hj,if_neg hj];exact⟨_,rfl⟩
theorem Oz(hc:X.calm=true):CallR X (.builtin "min") (λ xs H Q=>∃ i j,xs=[.int i,.int j]/\Q (.int (if j < i then j else i)) H):=by
  intro pins s σ H xs us Q I r h
  obtain⟨i,j,rfl,q⟩:=h
  obtain⟨u,w',rfl,⟨t,rfl⟩,⟨t',rfl⟩⟩:=K0 r
  refine min_two_ints (I.ok.hd hc) λ h' tk k=>⟨_,H,I.kept k,?_,q⟩
  by_cases hj:j < i
  . rw[if_pos hj,if_pos hj];exact⟨_,rfl⟩
  . rw[if_neg hj,if_neg hj];exact⟨_,rfl⟩
theorem P0:CallR X (.type "int") (λ xs H Q=>(∃ i,xs=[.int i]/\Q (.int i) H) ∨ ∃ k,xs=[.bl k]/\Q (.int (if k then 1 else 0)) H):=by
  intro pins s σ H xs us Q I r h
  rcases h with⟨i,rfl,q⟩|⟨k,rfl,q⟩
  . obtain⟨u,rfl,t,rfl⟩:=Bn r
    exact call_int_int ⟨.int i,H,I,⟨_,rfl⟩,q⟩
  . obtain⟨u,rfl,r1⟩:=Bn r
    cases r1
    exact call_int_bool ⟨.int (if k then 1 else 0),H,I.tok _,⟨_,rfl⟩,q⟩
end
end L2
namespace L2
open PySem PySem.Spec PyProof.Rows
section
variable{prog:Program}{w:World}{A:Around}{E:Value->Shared->Prop}{s:Shared}{K:PySem.W.Frag}{x dx C f:Addr}{mA:Str->Option Value}{name:Str}{v:Value}
end
theorem RelO.some_of{v:V}{o:Option Value}(r:RelO (some v) o):∃ u,o=some u/\RelV v u:=by
  cases o with
  | none=>exact(show False from r).elim
  | some u=>exact⟨u,rfl,r⟩
section
variable{P:Program}{w:World}{H H':Hp}{h h':Heap}{a C dx:Addr}{fs fs':List (Str × V)}
end
section
variable{X:Cx}{pins:List (Addr × Obj)}{σ:St}{H:Hp}{s:Shared}{a C dx:Addr}{fs:List (Str × V)}{f:Str}{v:V}{A:Around}{E:Value->Shared->Prop}
end
section
variable{X:Cx}{o e value:Expr}{f:Str}{pos pos' tpos:Pos}{ta tv:TE}
end
section
variable{X:Cx}{pins:List (Addr × Obj)}{σ:St}{H:Hp}{s:Shared}{A:Around}{E:Value->Shared->Prop}{Q:Value->Shared->Prop}{c:Value}{b:Bool}
end
end L2
namespace L2
open PySem PySem.Spec PyProof.Rows
structure Room(k:Nat)(A:Around):Prop where
  hd:A.handled=none
  dp:A.depth + 3 * k + 5 < recursionLimit
  un:A.units + 16 * k + 200 < cLine
  gd:A.guards=some []
theorem Room.mono{j k:Nat}{A:Around}(r:Room k A)(h:j <= k):Room j A:=⟨r.hd,by have:=r.dp;omega,by have:=r.un;omega,r.gd⟩
theorem Room.deeper{k:Nat}{A:Around}(r:Room (k + 1) A)(env:Env):Room k (A.deeper env):=
  ⟨r.hd,by have:=r.dp;show A.depth + 1 + 3 * k + 5 < _;omega,by have:=r.un;show A.units + 3 + 16 * k + 200 < _;omega,by first|exact r.gd|(simpa [Around.deeper,Around.under,Code.guards,Code.isGuard,pushGuards]using r.gd)⟩
theorem Room.in1{k:Nat}{A:Around}(r:Room (k + 1) A):Room k A.in1:=
  ⟨r.hd,by have:=r.dp;show A.depth + 3 * k + 5 < _;omega,by have:=r.un;show A.units + 1 + 16 * k + 200 < _;omega,r.gd⟩
theorem Room.depth{k:Nat}{A:Around}(r:Room k A):A.depth < recursionLimit:=by have:=r.dp;omega
theorem Room.units{k:Nat}{A:Around}(r:Room k A):A.units + 64 < cLine:=by have:=r.un;omega
noncomputable def C0:TA:=λ _ H Q=>Q [] H
noncomputable def Bw(ta:TE)(tr:TA):TA:=λ σ H Q=>ta σ H λ x H1=>tr σ H1 λ xs H2=>Q (x :: xs) H2
section
variable{X:Cx}{e:Expr}{es:List Expr}{te:TE}{t:TA}{pos:Pos}
theorem DT:PA X [] C0:=λ _ _ _ _ H Q I h=>Calls.spliced_nil ⟨[],H,I,.nil,h⟩
theorem Cg(ha:PE X e te)(hr:PA X es t)(hs:starEach (e :: es) X.env=(false,eval e X.env) :: starEach es X.env:=by rfl):PA X (e :: es) (Bw te t):=by
  intro pos pins s σ H Q I h
  rw[hs]
  show wpAny _ _ (spliced ((false,eval e X.env) :: backTo pos (starEach es X.env))) _ _ s
  refine Calls.spliced_cons (thn (ha pins s σ H _ I h) λ u s1 ⟨x,H1,I1,r1,q1⟩=>?_)
  exact thn (hr pos pins s1 σ H1 _ I1 q1) λ us s2 ⟨xs,H2,I2,r2,q2⟩=>⟨x :: xs,H2,I2,.cons r1 r2,q2⟩
noncomputable def PQ(t:TA):TE:=λ σ H Q=>t σ H λ xs H1=>xs.length <= sizeLine/\∀ p,H1 p=none->Q (.ref p) (upd H1 p (.tup xs))
noncomputable def PX(t:TA):TE:=λ σ H Q=>t σ H λ xs H1=>xs.length <= sizeLine/\∀ p,H1 p=none->Q (.ref p) (upd H1 p (.lst xs))
theorem Uu{x1}(h:PA X es t):PE X (.Tuple es x1 pos) (PQ t):=by
  intro pins s σ H Q I hq
  refine wpAny_Tuple_spliced (thn (h pos pins s σ H _ I hq) λ us s1 ⟨xs,H1,I1,r,z,q⟩=>⟨by rw[<- r.length];exact z,?_⟩)
  have hf:H1 s1.heap.objs.size=none:=I1.hok.fresh (Nat.le_refl _)
  refine⟨.ref s1.heap.objs.size,upd H1 s1.heap.objs.size (.tup xs),I1.laid (t':=s1.toks) (λ b u e=>Heap.get?_push_of_some _ e) (Nat.le_refl _) ?_,rfl,q _ hf⟩
  exact⟨z,us,r,⟨_,Heap.get?_push_size _ rfl,rfl,_,rfl⟩⟩
theorem Ux(h:PA X es t):PE X (.List es pos) (PX t):=by
  intro pins s σ H Q I hq
  refine wpAny_List_spliced (thn (h pos pins s σ H _ I hq) λ us s1 ⟨xs,H1,I1,r,z,q⟩=>⟨by rw[<- r.length];exact z,?_⟩)
  have hf:H1 s1.heap.objs.size=none:=I1.hok.fresh (Nat.le_refl _)
  refine⟨.ref s1.heap.objs.size,upd H1 s1.heap.objs.size (.lst xs),I1.laid (t':=s1.toks) (λ b u e=>Heap.get?_push_of_some _ e) (Nat.le_refl _) ?_,rfl,q _ hf⟩
  exact⟨z,us,0,r,Heap.get?_push_size _ rfl⟩
end
noncomputable abbrev Sp:=List V->Hp->VK->XK->Prop
noncomputable abbrev CXT:=List Env->Hp->Shared->XK->Value->Shared->Prop
structure Env0(P:Program)(w:World)(K:PySem.W.Frag)(mg:Str->Option Value)(base:Heap)(A:Around)(outer:List Env)(s:Shared)(H:Hp):Prop where
  frames:A.frames=some outer
  mod:Mod K mg base
  bs:∀ b o,base.get? b=some o->s.heap.get? b=some o/\H b=none
  bsz:base.objs.size <= s.heap.objs.size
  funs:s.heap.FunFrames base outer
  frf:∀ b ∈ frs outer,H b=none
  hok:HOk P w H s.heap
  bare:AllBare s.gens
noncomputable def CE(outer:List Env)(P:Program)(w:World)(H:Hp)(s:Shared)(Q:VK)(u:Value)(s':Shared):Prop:=
  ∃ v H',s'.os=s.os/\AllBare s'.gens/\Un (frs outer) [] H H' s.heap s'.heap/\HOk P w H' s'.heap/\RelV v u/\Q v H'
noncomputable def CR(CX:CXT)(outer:List Env)(P:Program)(w:World)(H:Hp)(s:Shared)(Q:VK)(E:XK)(r:Result)(s':Shared):Prop:=
  match r with
  | .ok (.ret u)=>CE outer P w H s Q u s'
  | .ok _=>False
  | .error e=>CX outer H s E e s'
structure FnOk(P:Program)(w:World)(K:PySem.W.Frag)(mg:Str->Option Value)(base:Heap)(CX:CXT)(k:Nat)(f:Addr)(fd:FuncData)(ps:List Str)(sp:Sp):Prop where
  len:∀ vs H Q E,sp vs H Q E->vs.length=ps.length
  run:∀ (A:Around) (outer:List Env) (s:Shared) (H:Hp) (args:Args) (us:List Value) (vs:List V) (Q:VK) (E:XK),Room k A->Env0 P w K mg base A outer s H->BindsTo s fd args (ps.zip us)->Vals vs us->sp vs H Q E ->
    codeAny (model P w) A (.call (.ref f) args) (CR CX outer P w H s Q E) s
theorem FnOk.mono{P:Program}{w:World}{K:PySem.W.Frag}{mg:Str->Option Value}{base:Heap}{CX:CXT}{j k:Nat}{f:Addr}{fd:FuncData}{ps:List Str}{sp:Sp}(F:FnOk P w K mg base CX j f fd ps sp)(h:j <= k) :
    FnOk P w K mg base CX k f fd ps sp:=⟨F.len,λ A outer s H args us vs Q E hr=>F.run A outer s H args us vs Q E (hr.mono h)⟩
section
variable{X:Cx}{pins:List (Addr × Obj)}{σ:St}{H:Hp}{s s':Shared}
theorem Inv.env0(I:Inv X pins σ H s):Env0 X.prog X.w X.K X.mg X.base X.A X.stack s H:=
  ⟨I.ok.frames,I.ok.mod,I.bs,Nat.le_trans I.ok.bsz I.sz,I.stack,I.stkFree,I.hok,I.bare⟩
theorem Inv.after{Q:VK}{u:Value}(I:Inv X pins σ H s)(h:CE X.stack X.prog X.w H s Q u s'):EP X pins σ Q u s':=by
  obtain⟨v,H',os,bare,un,hok,r,q⟩:=h
  obtain⟨hh,g,d,t,os'⟩:=s'
  obtain rfl:os'=s.os:=os
  exact⟨v,H',I.call (h':=hh) (g':=g) (d':=d) (t':=t) (ch:=[]) un hok bare (λ b z=>absurd z (by simp)),r,q⟩
end
noncomputable def EO(sp:Sp)(dvs:List V)(E:XK)(t:TA):TE:=λ σ H Q=>t σ H λ vs H1=>sp (vs ++ dvs) H1 Q E
noncomputable def Binds(K:PySem.W.Frag)(fd:FuncData)(ps:List Str)(ds:List Value):Prop:=
  ∀ (s:Shared) (us:List Value),K.In s.heap->(us ++ ds).length=ps.length->BindsTo s fd ⟨us,[]⟩ (ps.zip (us ++ ds))
theorem Binds.all{K:PySem.W.Frag}{fd:FuncData}{ps:List Str}(h:∀ us:List Value,us.length=ps.length->bindArgs fd ⟨us,[]⟩=pure (ps.zip us)):Binds K fd ps []:=λ s us _ hl=>by
  rw[List.append_nil]at hl ⊢
  exact .of_eq (h us hl)
noncomputable def Im(CX:CXT)(X:Cx)(E:XK):Prop:=∀ (pins:List (Addr × Obj)) (σ:St) (H:Hp) (s:Shared) (e:Value) (s':Shared),Inv X pins σ H s->CX X.stack H s E e s'->X.xe e s'
section
variable{X:Cx}{CX:CXT}{k:Nat}{f C:Addr}{fd:FuncData}{ps:List Str}{sp:Sp}{dvs:List V}{ds:List Value}{E:XK}{x m:Str}{p pos apos:Pos}{e o:Expr}{es:List Expr}{ta:TE}{t:TA}
theorem O2{pins:List (Addr × Obj)}{σ:St}{H:Hp}{s:Shared}{Q:VK}{us:List Value}{vs:List V}(F:FnOk X.prog X.w X.K X.mg X.base CX k f fd ps sp)(hr:Room k X.A)(hb:Binds X.K fd ps ds)(hd:Vals dvs ds)(hx:Im CX X E)
    (I:Inv X pins σ H s) (r:Vals vs us) (h:sp (vs ++ dvs) H Q E):wpAny (model X.prog X.w) X.A (call (.ref f) us) (EP X pins σ Q) X.xe s:=by
  have r2:Vals (vs ++ dvs) (us ++ ds):=r.append hd
  have hl:(us ++ ds).length=ps.length:=by rw[<- r2.length];exact F.len _ _ _ _ h
  refine wpAny_call (codeAny_mono (F.run X.A X.stack s H ⟨us,[]⟩ (us ++ ds) (vs ++ dvs) Q E hr I.env0 (hb s us I.kIn hl) r2 h) λ r s' hq=>?_)
  cases r with
  | error e=>exact hx pins σ H s e s' I hq
  | ok fl=>
    cases fl with
    | ret u=>exact I.after hq
    | next=>exact False.elim hq
    | brk=>exact False.elim hq
    | cont=>exact False.elim hq
theorem T0(F:FnOk X.prog X.w X.K X.mg X.base CX k f fd ps sp)(hr:Room k X.A)(hg:Gl X x)(hm:X.mg x=some (.ref f))(hk:PySem.W.keepIn X.K (.ref f)=true)(hb:Binds X.K fd ps ds)(hd:Vals dvs ds)(hx:Im CX X E)
    (ha:PA X (e :: es) t) (hdb:(x == ("__debug__":Str))=false:=by decide) (he:starEach (e :: es) X.env=(false,eval e X.env) :: starEach es X.env:=by rfl) (hpl:(backTo pos (starEach es X.env)).any (·.1)=false:=by rfl) :
    PE X (.Call (.Name x p) (e :: es) [] pos) (EO sp dvs E t):=by
  intro pins s σ H Q I h
  refine wpAny_Call_Name_kw (MV I hg hm ?_ hdb)
  refine PySem.W.callWith_K (h₀:=X.base) I.ok.mod.kin hk (thn (ha pos pins s σ H _ I h) λ us s1 ⟨vs,H1,I1,r,q⟩=>⟨I1.kIn,?_⟩) he hpl
  exact O2 F hr hb hd hx I1 r q
theorem QY(F:FnOk X.prog X.w X.K X.mg X.base CX k f fd ps sp)(hr:Room k X.A)(hg:Gl X x)(hm:X.mg x=some (.ref f))(hk:PySem.W.keepIn X.K (.ref f)=true)(hb:Binds X.K fd ps ds)(hd:Vals dvs ds)(hx:Im CX X E)
    (hdb:(x == ("__debug__":Str))=false:=by decide):PE X (.Call (.Name x p) [] [] pos) (EO sp dvs E C0):=by
  intro pins s σ H Q I h
  refine wpAny_Call_Name_kw (MV I hg hm ?_ hdb)
  exact PySem.W.callWith_K0 I.kIn hk (O2 (us:=[]) F hr hb hd hx I .nil h)
end
section
variable{X:Cx}{CX:CXT}{k:Nat}{f C:Addr}{fd:FuncData}{ps ks:List Str}{sp:Sp}{E:XK}{x m:Str}{p pos apos kpos:Pos}{e o:Expr}{es:List Expr}{kws:List Keyword}{te ta:TE}{t tk:TA}{nm:Option Str}
variable{g:List Value->List Value->List Value}{gV:List V->List V->List V}
end
structure FnScope(N P:List Str)(sc:Scope):Prop where
  kind:sc.kind=.function
  co:sc.isCoroutine=false
  gen:sc.isGenerator=false
  nd:N.Nodup
  pre:N.take P.length=P
  par:∀ x ∈ P,sc.names.lookup x=some .local ∨ sc.names.lookup x=some .cell
  nofree:∀ y ∈ sc.names,y.2 ≠ .free
theorem Jr{kindOf:Str->Option NameKind}{x:Str}:∀ {binds:List (Str × Value)} {m:Str->Option Value},(∀ v,(x,v) ∉ binds)->bindL kindOf binds m x=m x
  | [],_,_=>rfl
  | (n,v) :: r,m,h=>by
    unfold bindL
    rw[Jr λ w hw=>h w (List.mem_cons_of_mem _ hw)]
    split
    . have:x ≠ n:=by rintro rfl;exact h v List.mem_cons_self
      simp[this]
    . rfl
theorem Jt{kindOf:Str->Option NameKind}{x:Str}:∀ {binds:List (Str × Value)} {m:Str->Option Value},(∀ v,(x,v) ∉ binds)->bindC kindOf binds m x=m x
  | [],_,_=>rfl
  | (n,v) :: r,m,h=>by
    unfold bindC
    rw[Jt λ w hw=>h w (List.mem_cons_of_mem _ hw)]
    split
    . rfl
    . have:x ≠ n:=by rintro rfl;exact h v List.mem_cons_self
      simp[this]
theorem Js{kindOf:Str->Option NameKind}{x:Str}{v:Value}:∀ {P:List Str} {vs:List Value} {i:Nat} {m:Str->Option Value},P.Nodup->P[i]? = some x->vs[i]? = some v->kindOf x=some .local ->
    bindL kindOf (P.zip vs) m x=some v
  | [],_,_,_,_,h,_,_=>by simp at h
  | _ :: _,[],_,_,_,_,h,_=>by simp at h
  | p :: P,w :: vs,0,m,nd,h1,h2,hk=>by
    simp at h1 h2;subst h1;subst h2
    show bindL kindOf ((p,w) :: P.zip vs) m p=_
    unfold bindL
    rw[Jr λ v hv=>(List.nodup_cons.mp nd).1 (List.of_mem_zip hv).1,if_pos hk]
    simp
  | p :: P,w :: vs,i + 1,m,nd,h1,h2,hk=>by
    show bindL kindOf ((p,w) :: P.zip vs) m x=_
    unfold bindL
    exact Js (i:=i) (List.nodup_cons.mp nd).2 (by simpa using h1) (by simpa using h2) hk
theorem Ju{kindOf:Str->Option NameKind}{x:Str}{v:Value}:∀ {P:List Str} {vs:List Value} {i:Nat} {m:Str->Option Value},P.Nodup->P[i]? = some x->vs[i]? = some v->kindOf x ≠ some .local ->
    bindC kindOf (P.zip vs) m x=some v
  | [],_,_,_,_,h,_,_=>by simp at h
  | _ :: _,[],_,_,_,_,h,_=>by simp at h
  | p :: P,w :: vs,0,m,nd,h1,h2,hk=>by
    simp at h1 h2;subst h1;subst h2
    show bindC kindOf ((p,w) :: P.zip vs) m p=_
    unfold bindC
    rw[Jt λ v hv=>(List.nodup_cons.mp nd).1 (List.of_mem_zip hv).1,if_neg hk]
    simp
  | p :: P,w :: vs,i + 1,m,nd,h1,h2,hk=>by
    show bindC kindOf ((p,w) :: P.zip vs) m x=_
    unfold bindC
    exact Ju (i:=i) (List.nodup_cons.mp nd).2 (by simpa using h1) (by simpa using h2) hk
noncomputable def DX(N:List Str)(vs:List V):St:=vs.map some ++ List.replicate (N.length - vs.length) none
noncomputable def GY(CX:CXT)(P:Program)(w:World)(K:PySem.W.Frag)(mg:Str->Option Value)(base:Heap)(N:List Str)(qual:Str)(scope:Scope)(f:Addr)(cd:Value)(A:Around)(outer:List Env)(s:Shared)(H:Hp)(E:XK):Cx where
  prog:=P
  w:=w
  K:=K
  mg:=mg
  base:=base
  A:=A.deeper (envOfC qual scope s.heap.objs.size f cd)
  N:=N
  s₀:=s
  H₀:=H
  env:=envOfC qual scope s.heap.objs.size f cd
  outer:=outer
  stack:=envOfC qual scope s.heap.objs.size f cd :: outer
  ex:=[]
  calm:=true
  fn:=λ _=>true
  pn:=[]
  xe:=λ e s'=>wpAny (model P w) (A.deeper (envOfC qual scope s.heap.objs.size f cd)) (leaving (envOfC qual scope s.heap.objs.size f cd) e) (λ _ s''=>CX outer H s E e s'') (λ e' s''=>CX outer H s E e' s'') s'
theorem Lc{sc:Scope}{n:Nat}{x:Str}(h:sc.names.lookup x=some .cell):∃ c,(cellsFrom n sc.names []).lookup x=some c:=by
  have q:=PySem.W.cellsFrom_some sc.names n [] (.inl h)
  exact Option.isSome_iff_exists.mp q
theorem Oc{CX:CXT}{P:Program}{w:World}{K:PySem.W.Frag}{mg:Str->Option Value}{base:Heap}{N ps:List Str}{qual:Str}{scope:Scope}{f:Addr}{cd:Value}{A:Around}{outer:List Env}{s s1:Shared}{H:Hp}{E:XK}{us:List Value}{vs:List V}
    (S:FnScope N ps scope) (hd:A.handled=none) (e0:Env0 P w K mg base A outer s H) (hl:vs.length=ps.length) (r:Vals vs us)
    (x:InCallC s s.heap.objs.size (bindL (envOfC qual scope s.heap.objs.size f cd).kindOf (ps.zip us) λ _=>none) (cellsFrom (s.heap.objs.size + 1) scope.names []) (bindC (envOfC qual scope s.heap.objs.size f cd).kindOf (ps.zip us) λ _=>none) s1) :
    Inv (GY CX P w K mg base N qual scope f cd A outer s H E) [] (DX N vs) H s1:=by
  have hpl:ps.length <= N.length:=by have:=congrArg List.length S.pre;rw[List.length_take]at this;omega
  obtain⟨h1,tk,rfl,hk⟩:=x.done
  have noA:∀ b:Addr,b ∉ (GY CX P w K mg base N qual scope f cd A outer s H E).ex:=λ b z=>absurd (show b ∈ ([]:List Addr)from z) (by simp)
  refine⟨⟨e0.mod,S.kind,rfl,rfl,Nat.le_refl _,λ y z c h1 h2=>?_,λ y hy=>?_,λ y c _ h=>?_,λ _=>hd,Around.frames_deeper e0.frames,.inr ⟨rfl,rfl⟩,λ b z=>absurd z (noA b),e0.bs,e0.bsz,λ b _ _=>noA b,λ b z=>absurd z (noA b),e0.funs,e0.frf⟩,
    rfl,e0.bare,Un.kept hk,⟨_,x.toInCall.ns,λ i y v h1 h2 h3=>?_⟩,λ y c h=>⟨_,x.cell y c h⟩,e0.hok.fresh (Nat.le_refl _),λ y c h=>?_,λ p hp=>absurd (show p ∈ ([]:List (Addr × Obj))from hp) (by simp),e0.hok.kept hk,?_⟩
  . exact name_of_addr x.apart (PySem.mem_of_lookup h1) (PySem.mem_of_lookup h2)
  . have hy:scope.names.lookup y=some .cell ∨ scope.names.lookup y=some .free:=hy
    rcases hy with hy|hy
    . exact Lc hy
    . exact absurd rfl (S.nofree _ (PySem.mem_of_lookup hy))
  . exact Nat.le_of_lt (x.above y c (PySem.mem_of_lookup h))
  . have hi:i < vs.length:=by
      unfold DX at h2
      by_cases hi:i < vs.length
      . exact hi
      . rw[List.getElem?_append_right (by simpa using hi)]at h2
        rw[List.getElem?_replicate]at h2
        split at h2 <;> cases h2
    have ha:vs[i]? = some v:=by
      unfold DX at h2
      rw[List.getElem?_append_left (by simpa using hi),List.getElem?_map]at h2
      cases e:vs[i]? with
      | none=>rw[e]at h2;cases h2
      | some a=>rw[e]at h2;cases h2;rfl
    obtain⟨u,hu,rv⟩:=r.get ha
    have hp:ps[i]? = some y:=by
      rw[<- S.pre,List.getElem?_take_of_lt (by omega)];exact h1
    have ndP:ps.Nodup:=by rw[<- S.pre];exact S.nd.sublist (List.take_sublist _ _)
    refine⟨u,rv,?_⟩
    rcases S.par y (List.mem_of_getElem? hp)with k|k
    . exact .inl ⟨k,Js ndP hp hu k⟩
    . obtain⟨c,e⟩:=Lc (n:=s.heap.objs.size + 1) k
      refine .inr ⟨.inl k,c,e,?_⟩
      have q:=x.cell y c e
      rw[Ju ndP hp hu (by show scope.names.lookup y ≠ _;rw[k];decide)]at q
      exact q
  . exact e0.hok.fresh (Nat.le_of_lt (x.above y c (PySem.mem_of_lookup h)))
  . unfold DX
    show _=N.length
    rw[List.length_append,List.length_map,List.length_replicate]
    omega
theorem Rt{CX:CXT}{P:Program}{w:World}{K:PySem.W.Frag}{mg:Str->Option Value}{base:Heap}{k:Nat}{f:Addr}{name qual:Str}{params:Arguments}{body:List Stmt}{scope:Scope}{dV kV doc pm cdv ct oc:Value}{an od:Option Addr}
    {osl:Array (Option Value)} {N ps:List Str} {sp:Sp} (lk:K.lookup f=some ⟨oc,od,.func (PySem.W.fnOf name qual params body scope dV kV doc pm an cdv ct),osl⟩) (hcd:PySem.W.codeIn K cdv qual=true) (S:FnScope N ps scope)
    (len:∀ vs H Q E,sp vs H Q E->vs.length=ps.length)
    (hbody:∀ (A:Around) (outer:List Env) (s:Shared) (H:Hp) (vs:List V) (Q:VK) (E:XK),Room k (A.deeper (envOfC qual scope s.heap.objs.size f cdv))->sp vs H Q E ->
      ∃ t,PSs (GY CX P w K mg base N qual scope f cdv A outer s H E) body t/\t { nx:=λ _ H'=>Q .non H',rt:=Q } (DX N vs) H) :
    FnOk P w K mg base CX (k + 1) f (PySem.W.fnOf name qual params body scope dV kV doc pm an cdv ct) ps sp:=by
  refine⟨len,λ A outer s H args us vs Q E hr e0 hb r hsp=>?_⟩
  have hl:=len _ _ _ _ hsp
  have KX:K.In s.heap:=e0.mod.kin.keeps λ b o e=>(e0.bs b o e).1
  have lim:s.heap.NoLimit:=e0.mod.nolimit.keeps λ b o e=>(e0.bs b o e).1
  have hkind:∀ y ∈ ps.zip us,scope.names.lookup y.1=some .local ∨ (scope.names.lookup y.1=some .cell/\((cellsFrom (s.heap.objs.size + 1) scope.names []).lookup y.1).isSome=true):=λ⟨n,v⟩ hy=>by
    rcases S.par n (List.of_mem_zip hy).1 with q|q
    . exact .inl q
    . exact .inr ⟨q,PySem.W.cellsFrom_some _ _ _ (.inl q)⟩
  refine codeAny_call_function hr.depth (KX _ _ lk) rfl S.co S.gen rfl (PySem.W.codeRec_of KX hcd) (hb _ _ _ _ ?_)
  refine wpAny_newFunctionEnv_cells S.kind hkind λ env he s1 x=>?_
  subst he
  refine⟨lim.keeps x.toInCall.keep,codeAny_func ?_⟩
  obtain⟨t,ht,hq⟩:=hbody A outer s H vs Q E (hr.deeper _) hsp
  have I:Inv (GY CX P w K mg base N qual scope f cdv A outer s H E) [] (DX N vs) H s1:=Oc S hr.hd e0 hl r x
  refine wpAny_mono (ht [] s1 (DX N vs) H _ I hq) (λ fl s' hs=>?_) λ e s' hs=>hs
  have fin:∀ {σ':St} {H':Hp} {v:V} {u:Value},Inv (GY CX P w K mg base N qual scope f cdv A outer s H E) [] σ' H' s'->RelV v u->Q v H'->CE outer P w H s Q u s':=
    λ {σ' H' v u} J rv q=>⟨v,H',J.os,J.bare,J.base,J.hok,rv,q⟩
  cases fl with
  | ret u=>
    obtain⟨v,σ',H',J,rv,q⟩:=hs
    exact fin J rv q
  | next=>
    obtain⟨σ',H',J,q⟩:=hs
    exact fin (v:=V.non) (u:=Value.none) J rfl q
  | brk=>
    obtain⟨_,_,_,q⟩:=hs
    exact False.elim q
  | cont=>
    obtain⟨_,_,_,q⟩:=hs
    exact False.elim q
end L2
namespace L2
open PySem PySem.Spec PyProof.Rows
section
variable{X:Cx}{x:Str}{p pos:Pos}{e:Expr}{es:List Expr}{t:TA}{id T:String}{r:List V->Hp->VK->Prop}
noncomputable def tCB(r:List V->Hp->VK->Prop)(t:TA):TE:=λ σ H Q=>t σ H λ vs H1=>r vs H1 Q
theorem Fz(hc:CallR X (.builtin id) r)(hg:Gl X x)(hm:X.mg x=none)(hv:bootBuiltins x=some (.builtin id))(ha:PA X (e :: es) t)(hn:x ≠ "__name__":=by decide)(hdb:(x == ("__debug__":Str))=false:=by decide)
    (he:starEach (e :: es) X.env=(false,eval e X.env) :: starEach es X.env:=by rfl) (hpl:(backTo pos (starEach es X.env)).any (·.1)=false:=by rfl):PE X (.Call (.Name x p) (e :: es) [] pos) (tCB r t):=by
  intro pins s σ H Q I h
  refine wpAny_Call_Name_kw (GT I hg hm hv ?_ hn hdb)
  exact PyProof.Rows.callWith_builtin1 (thn (ha pos pins s σ H _ I h) λ us s1 ⟨vs,H1,I1,r1,q1⟩=>hc pins s1 σ H1 vs us Q I1 r1 q1) he hpl
theorem Cz(hc:CallR X (.type T) r)(hg:Gl X x)(hm:X.mg x=none)(hv:bootBuiltins x=some (.type T))(ha:PA X (e :: es) t)(hn:x ≠ "__name__":=by decide)(hdb:(x == ("__debug__":Str))=false:=by decide)
    (he:starEach (e :: es) X.env=(false,eval e X.env) :: starEach es X.env:=by rfl) (hpl:(backTo pos (starEach es X.env)).any (·.1)=false:=by rfl):PE X (.Call (.Name x p) (e :: es) [] pos) (tCB r t):=by
  intro pins s σ H Q I h
  refine wpAny_Call_Name_kw (GT I hg hm hv ?_ hn hdb)
  exact PyProof.Rows.callWith_type1 (thn (ha pos pins s σ H _ I h) λ us s1 ⟨vs,H1,I1,r1,q1⟩=>hc pins s1 σ H1 vs us Q I1 r1 q1) he hpl
end
end L2
namespace HT
open PySem PyProof.Rows
section
open PySem.SeqAt
open PySem.AutoSeq1 (wpAny_loadPart')
open PySem.MeetsSeq PySem.MeetsSeq2 PySem.MeetsSeq3
end
section
variable{prog:Program}{w:World}{A:Around}{E:Value->Shared->Prop}{s:Shared}
theorem cat_tup{t b:Addr}{vs ws:List Value}{Q:Value->Shared->Prop}(ht:IsTup s.heap t vs.toArray)(hb:IsTup s.heap b ws.toArray)(hv:vs ≠ [])
    (h1:ws=[]->Q (.ref t) s) (h2:ws ≠ []->Q (.ref s.heap.objs.size) { s with heap:=s.heap.push { cls:=.type "tuple",data:=.seq (vs ++ ws).toArray } })
    (hsz:vs.length + ws.length <= sizeLine):wpAny (model prog w) A (binaryOp .Add (.ref t) (.ref b)) Q E s:=by
  obtain⟨⟨cls,dd,data,sl⟩,ho,hc,n,hd⟩:=id ht
  obtain⟨⟨cls2,dd2,data2,sl2⟩,ho2,hc2,n2,hd2⟩:=id hb
  simp only at hc hd hc2 hd2
  subst hc hd hc2 hd2
  have e:vs.toArray ++ ws.toArray=(vs ++ ws).toArray:=by simp
  by_cases hw:ws=[]
  . exact concat_meets ⟨_,ho,rfl⟩ ⟨_,ho2,rfl⟩ noFill_tuple_add seq_tuple_add PySem.F.slot_tuple_add PySem.F.entry_tuple_add (PySem.F.args_tuple_add_2 _ _)
      (tuple_addW1 t b vs.toArray ws.toArray n n2 dd dd2 sl sl2 (by simpa using hv) (by simp[hw])) ⟨ho,ho2,h1 hw⟩
  . refine concat_meets ⟨_,ho,rfl⟩ ⟨_,ho2,rfl⟩ noFill_tuple_add seq_tuple_add PySem.F.slot_tuple_add PySem.F.entry_tuple_add (PySem.F.args_tuple_add_2 _ _)
      (tuple_addW2 t b vs.toArray ws.toArray n n2 dd dd2 sl sl2 (by simpa using hv) (by simpa using hw) (by rw[List.size_toArray,List.size_toArray];exact hsz)) ⟨ho,ho2,?_⟩
    rw[e]
    exact h2 hw
noncomputable def sIx(n d:Nat):Option Int->Nat
  | none=>d
  | some v=>if v < 0 then(v + (n:Int)).toNat else min v.toNat n
theorem sIx_none(n d:Nat):sIx n d none=d:=rfl
theorem sIx_nat(n d k:Nat):sIx n d (some (k:Int))=min k n:=by
  show(if(k:Int) < 0 then((k:Int) + (n:Int)).toNat else min (k:Int).toNat n)=min k n
  rw[if_neg (by omega),Int.toNat_natCast]
end
end HT
namespace L2
open PySem PySem.Spec PyProof.Rows
noncomputable abbrev TO:=St->Hp->(Option Int->Hp->Prop)->Prop
noncomputable def PO(X:Cx)(e:Option Expr)(t:TO):Prop:=
  ∀ (pins:List (Addr × Obj)) (s:Shared) (σ:St) (H:Hp) (Q:Option Int->Hp->Prop),Inv X pins σ H s->t σ H Q ->
    wpAny (model X.prog X.w) X.A (evalPart e X.env) (λ u s'=>∃ o H',Inv X pins σ H' s'/\IsPart u o/\Q o H') X.xe s
noncomputable def Iv:TO:=λ _ H Q=>Q none H
noncomputable def Mz(t:TE):TO:=λ σ H Q=>t σ H λ x H1=>∃ i,x=.int i/\Q (some i) H1
section
variable{X:Cx}{e:Expr}{te:TE}{lo hi:Option Expr}{tl th:TO}{pos p2:Pos}
theorem So:PO X none Iv:=by
  intro pins s σ H Q I h
  rw[evalPart_none]
  exact wpAny_pure ⟨none,H,I,.none,h⟩
theorem Sm(h:PE X e te):PO X (some e) (Mz te):=by
  intro pins s σ H Q I hw
  rw[evalPart_some]
  refine thn (h pins s σ H _ I hw) λ u s1 ⟨x,H1,I1,r1,q1⟩=>?_
  obtain⟨i,rfl,q⟩:=q1
  obtain⟨t,rfl⟩:=r1
  exact⟨some i,H1,I1,.int i t,q⟩
noncomputable def SlR(X:Cx)(r:V->Option Int->Option Int->Hp->VK->Prop):Prop:=
  ∀ (pins:List (Addr × Obj)) (s:Shared) (σ:St) (H:Hp) (x:V) (v vl vu:Value) (lo hi:Option Int) (sl:Addr) (Q:VK),Inv X pins σ H s->RelV x v->s.heap.IsSliceOf sl vl vu .none->IsPart vl lo->IsPart vu hi->r x lo hi H Q ->
    ∃ T id,typeLookup (.type T) "__getitem__"=pure (some (.builtin id))/\s.TypeIs v T/\wpAny (model X.prog X.w) X.A (getItem v (.ref sl)) (EP X pins σ Q) X.xe s
noncomputable def tSl(r:V->Option Int->Option Int->Hp->VK->Prop)(te:TE)(tl th:TO):TE:=λ σ H Q=>te σ H λ x H1=>tl σ H1 λ l H2=>th σ H2 λ u H3=>r x l u H3 Q
theorem QP{r:V->Option Int->Option Int->Hp->VK->Prop}(hr:SlR X r)(he:PE X e te)(hl:PO X lo tl)(hu:PO X hi th):PE X (.Subscript e (.Slice lo hi none p2) pos) (tSl r te tl th):=by
  intro pins s σ H Q I h
  refine Subscript_ (thn (he pins s σ H _ I h) λ v s1 ⟨x,H1,I1,r1,q1⟩=>?_)
  refine wpAny_Slice (thn (hl pins s1 σ H1 _ I1 q1) λ vl s2 ⟨l,H2,I2,pl,q2⟩=>thn (hu pins s2 σ H2 _ I2 q2) λ vu s3 ⟨u,H3,I3,pu,q3⟩=>?_)
  rw[evalPart_none]
  refine wpAny_pure ?_
  have I4:Inv X pins σ H3 { s3 with heap:=s3.heap.push { cls:=.type "slice",data:=.fields #[vl,vu,.none] } }:=I3.kept (t':=s3.toks) λ b ob q=>Heap.get?_push_of_some _ q
  obtain⟨T,id,hT,ht,hg⟩:=hr pins { s3 with heap:=s3.heap.push { cls:=.type "slice",data:=.fields #[vl,vu,.none] } } σ H3 x v vl vu l u s3.heap.objs.size Q I4 r1 (Heap.IsSliceOf.new ..) pl pu q3
  show wpAny (model X.prog X.w) X.A (subscriptTail e (.Slice lo hi none p2) v (.ref s3.heap.objs.size)) (EP X pins σ Q) X.xe { s3 with heap:=s3.heap.push { cls:=.type "slice",data:=.fields #[vl,vu,.none] } }
  exact tail_any (ops:=[.ref s3.heap.objs.size,v]) ht hT hg (by with_unfolding_all rfl)
noncomputable def Hk(xs:List V)(lo hi:Option Int):List V:=(xs.drop (HT.sIx xs.length 0 lo)).take (HT.sIx xs.length xs.length hi - HT.sIx xs.length 0 lo)
theorem Lw(xs:List V)(lo hi:Option Int):(Hk xs lo hi).length <= xs.length:=by
  unfold Hk
  rw[List.length_take,List.length_drop]
  omega
noncomputable def NF(K:PySem.W.Frag):R2:=λ x y H Q=>∃ a b xs ys,x=.ref a/\y=.ref b/\SqT K H a xs/\SqT K H b ys/\xs ≠ []/\xs.length + ys.length <= sizeLine /\
  (ys=[]->Q (.ref a) H)/\(ys ≠ []->∀ p,H p=none->Q (.ref p) (upd H p (.tup (xs ++ ys))))
theorem Vals.nil_iff{xs:List V}{us:List Value}(r:Vals xs us):us=[] ↔ xs=[]:=by
  cases r with
  | nil=>simp
  | cons _ _=>simp
theorem T3:OpR X (binaryOp .Add) (NF X.K):=by
  intro pins s σ H x y v u Q I rx ry h
  obtain⟨a,b,xs,ys,rfl,rfl,ha,hb,hx,hz,q1,q2⟩:=h
  cases rx
  cases ry
  obtain⟨its,r1,p1,_⟩:=I.tuple ha
  obtain⟨its2,r2,p2,_⟩:=I.tuple hb
  refine HT.cat_tup p1 p2 (λ z=>hx (r1.nil_iff.mp z)) (λ z=>⟨.ref a,H,I,rfl,q1 (r2.nil_iff.mp z)⟩) (λ z=>?_) (by rw[<- r1.length,<- r2.length];exact hz)
  refine⟨.ref s.heap.objs.size,_,I.laid (t':=s.toks) (o:=.tup (xs ++ ys)) (λ b ob q=>Heap.get?_push_of_some _ q) (Nat.le_refl _) ?_,rfl,q2 (λ w=>z (r2.nil_iff.mpr w)) _ (I.hok.fresh (Nat.le_refl _))⟩
  exact⟨by rw[List.length_append];exact hz,_,r1.append r2,IsTup.new _ _⟩
end
end L2
namespace L2
open PySem PySem.Spec PyProof.Rows
noncomputable def ixN(n:Nat)(i:Int):Option Nat:=if 0 <= i then(if i < n then some i.toNat else none)else if -(n:Int) <= i then some (i + n).toNat else none
noncomputable def atI{α:Type}(xs:List α)(i:Int):Option α:=(ixN xs.length i).bind λ j=>xs[j]?
theorem JL{n:Nat}{i:Int}{j:Nat}(h:ixN n i=some j):seqIndex? i n=some j/\j < n/\-(n:Int) <= i/\i < n:=by
  unfold ixN at h
  by_cases h0:0 <= i
  . rw[if_pos h0]at h
    by_cases h1:i < n
    . rw[if_pos h1]at h
      have e:i.toNat=j:=Option.some.inj h
      exact⟨by rw[seqIndex_of h0 h1,e],by omega,by omega,h1⟩
    . rw[if_neg h1]at h;cases h
  . rw[if_neg h0]at h
    by_cases h1:-(n:Int) <= i
    . rw[if_pos h1]at h
      have e:(i + n).toNat=j:=Option.some.inj h
      exact⟨by rw[seqIndex_neg (by omega) h1,e],by omega,h1,by omega⟩
    . rw[if_neg h1]at h;cases h
theorem Mm{α:Type}{xs:List α}{i:Int}{v:α}(h:atI xs i=some v):∃ j,seqIndex? i xs.length=some j/\xs[j]? = some v/\j < xs.length/\-(xs.length:Int) <= i/\i < xs.length:=by
  unfold atI at h
  cases e:ixN xs.length i with
  | none=>rw[e]at h;cases h
  | some j=>
    rw[e]at h
    obtain⟨h1,h2,h3,h4⟩:=JL e
    exact⟨j,h1,h,h2,h3,h4⟩
theorem Bi{α:Type}{xs:List α}{j:Nat}{v:α}(h:xs[j]? = some v):atI xs (j:Int)=some v:=by
  have hj:j < xs.length:=(List.getElem?_eq_some_iff.mp h).1
  have e:ixN xs.length (j:Int)=some j:=by
    unfold ixN
    rw[if_pos (by omega),if_pos (by omega)];simp
  unfold atI;rw[e];exact h
noncomputable def JU(b:Expr):Prop:=∀ o i,subscripted b false o i=operate [o,i] (getItem o i)
noncomputable def IxR(X:Cx)(r:R2):Prop:=
  ∀ (value slice:Expr) (pins:List (Addr × Obj)) (s:Shared) (σ:St) (H:Hp) (x y:V) (v u:Value) (Q:VK),Inv X pins σ H s->RelV x v->RelV y u->r x y H Q ->
    subscripted slice false v u=operate [v,u] (getItem v u)->wpAny (model X.prog X.w) X.A (subscriptTail value slice v u) (EP X pins σ Q) X.xe s
noncomputable def MtR(X:Cx)(id:String)(r:V->List V->Hp->VK->Prop):Prop:=
  ∀ (pins:List (Addr × Obj)) (s:Shared) (σ:St) (H:Hp) (x:V) (xs:List V) (v:Value) (us:List Value) (Q:VK),Inv X pins σ H s->RelV x v->Vals xs us->r x xs H Q ->
    wpAny (model X.prog X.w) X.A (call (.builtin id) (v :: us)) (EP X pins σ Q) X.xe s
section
variable{X:Cx}{a b:Expr}{ta tb:TE}{pos:Pos}
theorem IxR.or{r r':R2}(h:IxR X r)(h':IxR X r'):IxR X (λ x y H Q=>r x y H Q ∨ r' x y H Q):=by
  intro value slice pins s σ H x y v u Q I rx ry q hs
  rcases q with q|q
  . exact h value slice pins s σ H x y v u Q I rx ry q hs
  . exact h' value slice pins s σ H x y v u Q I rx ry q hs
theorem Rl{r:R2}(hr:IxR X r)(ha:PE X a ta)(hb:PE X b tb)(hs:JU b):PE X (.Subscript a b pos) (tOp r ta tb):=by
  intro pins s σ H Q I h
  exact Subscript_ (RJ ha hb I h λ v u s2 x y H2 I2 rx ry q=>hr a b pins s2 σ H2 x y v u Q I2 rx ry q (hs _ _))
noncomputable def Q3(K:PySem.W.Frag):R2:=λ x y H Q=>∃ p xs i v,x=.ref p/\y=.int i/\SqL K H p xs/\atI xs i=some v/\Q v H
noncomputable def Q2(K:PySem.W.Frag):R2:=λ x y H Q=>∃ p xs i v,x=.ref p/\y=.int i/\SqT K H p xs/\atI xs i=some v/\Q v H
theorem TN:IxR X (Q3 X.K):=by
  intro value slice pins s σ H x y v u Q I rx ry h hs
  obtain⟨p,xs,i,z,rfl,rfl,hq,he,q⟩:=h
  cases rx
  obtain⟨t,rfl⟩:=ry
  obtain⟨its,r,pl,hz⟩:=I.list hq
  obtain⟨j,h1,h2,h3,h4,h5⟩:=Mm he
  obtain⟨w,ew,rw'⟩:=r.get h2
  have hl:=r.length
  have hn:=Fd
  have fin:EP X pins σ Q w s:=⟨z,H,I,rw',q⟩
  by_cases h0:0 <= i
  . have hj:i.toNat=j:=by
      rw[seqIndex_of h0 h5]at h1
      exact Option.some.inj h1
    exact item_listR pl.isList h0 (by omega) (by rw[hj];simpa using ew) fin hs
  . have hj:(i + (its.toArray.size:Int)).toNat=j:=by
      rw[seqIndex_neg (by omega) h4]at h1
      rw[List.size_toArray,<- hl]
      exact Option.some.inj h1
    exact subscriptTail_builtinR (x:=w) pl.isList.typeIs slot_list_getitem.lookup
      (wpAny_getItem_list_neg (Q:=λ r s'=>r=w/\EP X pins σ Q r s') pl.isList (by omega) (by rw[List.size_toArray] <;> omega) (by omega) (by rw[hj];simpa using ew) ⟨rfl,fin⟩) hs
theorem VM:IxR X (Q2 X.K):=by
  intro value slice pins s σ H x y v u Q I rx ry h hs
  obtain⟨p,xs,i,z,rfl,rfl,hq,he,q⟩:=h
  cases rx
  obtain⟨t,rfl⟩:=ry
  obtain⟨its,r,pl,hz⟩:=I.tuple hq
  obtain⟨j,h1,h2,h3,h4,h5⟩:=Mm he
  obtain⟨w,ew,rw'⟩:=r.get h2
  have hl:=r.length
  have hn:=Fd
  have fin:EP X pins σ Q w s:=⟨z,H,I,rw',q⟩
  exact subscriptTail_builtinR (x:=w) pl.typeIs slot_tuple_getitem.lookup
    (getItem_tuple (j:=j) (Q:=λ r s'=>r=w/\EP X pins σ Q r s') pl (by omega) (by omega) (by rw[List.size_toArray,<- hl];exact h1) (by simpa using ew) ⟨rfl,fin⟩) hs
theorem NN(its:List Value)(n j:Nat)(u:Value):Obj.mapSeq (·.setIfInBounds j u) { cls:=.type "list",data:=.seq its.toArray n }={ cls:=.type "list",data:=.seq (its.set j u).toArray n }:=by
  simp[Obj.mapSeq]
theorem Inv.lst{pins:List (Addr × Obj)}{σ:St}{H:Hp}{s:Shared}{p:Addr}{xs:List V}(I:Inv X pins σ H s)(h:H p=some (.lst xs)) :
    ∃ (its:List Value) (n:Nat),Vals xs its/\s.heap.get? p=some { cls:=.type "list",data:=.seq its.toArray n }/\xs.length <= sizeLine:=by
  obtain⟨z,its,n,r,e⟩:=I.hok p _ h
  exact⟨its,n,r,e,z⟩
theorem Inv.lstUpd{pins:List (Addr × Obj)}{σ:St}{H:Hp}{s:Shared}{p:Addr}{xs ys:List V}{its its':List Value}{n n':Nat}{f:Obj->Obj}(I:Inv X pins σ H s)(h:H p=some (.lst xs))
    (ho:s.heap.get? p=some { cls:=.type "list",data:=.seq its.toArray n }) (hf:f { cls:=.type "list",data:=.seq its.toArray n }={ cls:=.type "list",data:=.seq its'.toArray n' }) (r:Vals ys its') (hz:ys.length <= sizeLine) (t:Nat) :
    Inv X pins σ (upd H p (.lst ys)) { s with heap:=s.heap.update p f,toks:=t }:=by
  have e:(s.heap.update p f).get? p=some { cls:=.type "list",data:=.seq its'.toArray n' }:=by
    rw[Heap.get?_update_self f ho (by rw[hf] <;> rfl),hf]
  refine I.write (x:=p) (e:=p) (by rw[h];trivial) (.inl rfl) (λ b u hb q=>(Heap.get?_update_other _ _ (Ne.symm hb)).trans q) ⟨_,e⟩ ?_
  exact⟨hz,its',n',r,e⟩
noncomputable def NE:V->V->V->Hp->(Hp->Prop)->Prop:=λ o i v H Q=>∃ p xs k j,o=.ref p/\i=.int k/\H p=some (.lst xs)/\ixN xs.length k=some j/\Q (upd H p (.lst (xs.set j v)))
theorem Ph:Vb X NE:=by
  intro pins s σ H o i v ov iv u Q I ro ri rv h
  obtain⟨p,xs,k,j,rfl,rfl,hp,hj,q⟩:=h
  cases ro
  obtain⟨t,rfl⟩:=ri
  obtain⟨its,n,r,ho,hz⟩:=I.lst hp
  obtain⟨h1,h2,h3,h4⟩:=JL hj
  have hl:=r.length
  have hn:=Fd
  have I':Inv X pins σ (upd H p (.lst (xs.set j v))) { s with heap:=s.heap.update p (Obj.mapSeq (·.setIfInBounds j u)) }:=
    I.lstUpd hp ho (NN its n j u) (r.set rv j) (by rw[List.length_set];exact hz) s.toks
  by_cases h0:0 <= k
  . have hk:k.toNat=j:=by
      rw[seqIndex_of h0 h4]at h1
      exact Option.some.inj h1
    exact PySem.W.ki_setAt ho h0 (by omega) (by rw[List.size_toArray,<- hl];exact h4) (by rw[hk];exact⟨_,I',q⟩)
  . have hk:(k + (its.toArray.size:Int)).toNat=j:=by
      rw[seqIndex_neg (by omega) h3]at h1
      rw[List.size_toArray,<- hl]
      exact Option.some.inj h1
    exact PySem.W.ki_setBack ho (by omega) (by rw[List.size_toArray,<- hl];exact h3) (by omega) (by rw[hk];exact⟨_,I',q⟩)
theorem Kj(lo hi:Option Int)(n:Nat):(sliceBounds lo hi none n).1=((HT.sIx n 0 lo:Nat):Int)/\(sliceBounds lo hi none n).2.1=((HT.sIx n n hi:Nat):Int)/\(sliceBounds lo hi none n).2.2=1:=by
  refine⟨?_,?_,rfl⟩
  . cases lo with
    | none=>simp[sliceBounds,HT.sIx]
    | some i=>
      simp only[sliceBounds,HT.sIx,Option.getD_none,show(1:Int) > 0 by decide,if_true]
      by_cases h:i < 0
      . simp only[h,if_true] <;> omega
      . simp only[h,if_false] <;> omega
  . cases hi with
    | none=>simp[sliceBounds,HT.sIx]
    | some i=>
      simp only[sliceBounds,HT.sIx,Option.getD_none,show(1:Int) > 0 by decide,if_true]
      by_cases h:i < 0
      . simp only[h,if_true] <;> omega
      . simp only[h,if_false] <;> omega
theorem Jv(its:List Value)(lo hi:Option Int):slicePick its.toArray lo hi none=((its.drop (HT.sIx its.length 0 lo)).take (HT.sIx its.length its.length hi - HT.sIx its.length 0 lo)).toArray:=by
  obtain⟨h1,h2,h3⟩:=Kj lo hi its.toArray.size
  unfold slicePick
  rw[h1,h2,h3]
  simp only[sliceRange_one,pick_run,List.size_toArray] <;> rfl
noncomputable def ND(K:PySem.W.Frag):V->Option Int->Option Int->Hp->VK->Prop:=λ x lo hi H Q=>∃ a xs,x=.ref a/\SqL K H a xs/\∀ p,H p=none->Q (.ref p) (upd H p (.lst (Hk xs lo hi)))
theorem SD:SlR X (ND X.K):=by
  intro pins s σ H x v vl vu lo hi sl Q I rx hs pl pu h
  obtain⟨a,xs,rfl,hx,q⟩:=h
  cases rx
  obtain⟨its,r,ht,hz⟩:=I.list hx
  have hlen:=r.length
  refine⟨"list",_,slot_list_getitem.lookup,ht.isList.typeIs,?_⟩
  refine wpAny_getItem_list_slice ht.isList hs pl pu .none (by simp) ?_ (by rw[List.size_toArray] <;> omega)
  rw[Jv,<- hlen]
  refine⟨.ref s.heap.objs.size,_,I.laid (t':=s.toks) (o:=.lst (Hk xs lo hi)) (λ b ob q=>Heap.get?_push_of_some _ q) (Nat.le_refl _) ?_,rfl,q _ (I.hok.fresh (Nat.le_refl _))⟩
  exact⟨Nat.le_trans (Lw xs lo hi) hz,_,0,(r.drop (HT.sIx xs.length 0 lo)).take (HT.sIx xs.length xs.length hi - HT.sIx xs.length 0 lo),Heap.get?_push_size _ rfl⟩
noncomputable def EB:V->Bool
  | .non=>true
  | .bl _=>true
  | .int _=>true
  | .str _=>true
  | _=>false
noncomputable def eqV:V->V->Bool
  | .non,.non=>true
  | .bl a,.bl b=>a == b
  | .bl a,.int b=>(if a then 1 else 0) == b
  | .int a,.bl b=>a == (if b then 1 else 0)
  | .int a,.int b=>a == b
  | .str a,.str b=>a == b
  | _,_=>false
theorem VY{A:Around}{s:Shared}{y x:V}{u v:Value}(ry:RelV y u)(rx:RelV x v)(fy:EB y=true)(fx:EB x=true):SeqAt.EqAt A s u v (eqV y x):=by
  cases y with
  | non=>
    cases ry
    cases x with
    | non=>cases rx;exact SeqAt.EqAt.same _
    | bl b=>cases rx;exact SeqAt.EqAt.none_bool b
    | int b=>obtain⟨t,rfl⟩:=rx;exact SeqAt.EqAt.none_int b t
    | str b=>obtain⟨t,rfl⟩:=rx;exact SeqAt.EqAt.none_str b t
    | _=>exact absurd (show false=true from fx) Bool.false_ne_true
  | bl a=>
    cases ry
    cases x with
    | non=>cases rx;exact SeqAt.EqAt.bool_none a
    | bl b=>cases rx;exact SeqAt.EqAt.bool_bool a b
    | int b=>obtain⟨t,rfl⟩:=rx;exact SeqAt.EqAt.bool_int a b t
    | str b=>obtain⟨t,rfl⟩:=rx;exact SeqAt.EqAt.bool_str a b t
    | _=>exact absurd (show false=true from fx) Bool.false_ne_true
  | int a=>
    obtain⟨t',rfl⟩:=ry
    cases x with
    | non=>cases rx;exact SeqAt.EqAt.int_none a t'
    | bl b=>cases rx;exact SeqAt.EqAt.int_bool a t' b
    | int b=>obtain⟨t,rfl⟩:=rx;exact SeqAt.EqAt.int_int a t' b t
    | str b=>obtain⟨t,rfl⟩:=rx;exact SeqAt.EqAt.int_str a t' b t
    | _=>exact absurd (show false=true from fx) Bool.false_ne_true
  | str a=>
    obtain⟨t',rfl⟩:=ry
    cases x with
    | non=>cases rx;exact SeqAt.EqAt.str_none a t'
    | bl b=>cases rx;exact SeqAt.EqAt.str_bool a t' b
    | int b=>obtain⟨t,rfl⟩:=rx;exact SeqAt.EqAt.str_int a t' b t
    | str b=>obtain⟨t,rfl⟩:=rx;exact SeqAt.EqAt.str_str a t' b t
    | _=>exact absurd (show false=true from fx) Bool.false_ne_true
  | _=>exact absurd (show false=true from fy) Bool.false_ne_true
noncomputable def eqU(x:V)(u:Value):Bool:=match u with
  | .none=>eqV .non x
  | .bool b=>eqV (.bl b) x
  | .int i _=>eqV (.int i) x
  | .str z _=>eqV (.str z) x
  | _=>false
theorem Oo{x y:V}{u:Value}(r:RelV y u)(f:EB y=true):eqU x u=eqV y x:=by
  cases y with
  | non=>cases r;rfl
  | bl b=>cases r;rfl
  | int i=>obtain⟨t,rfl⟩:=r;rfl
  | str z=>obtain⟨t,rfl⟩:=r;rfl
  | _=>exact absurd (show false=true from f) Bool.false_ne_true
theorem Fj{x:V}:∀ {xs:List V} {us:List Value},Vals xs us->xs.all EB=true->us.any (eqU x)=xs.any λ y=>eqV y x
  | _,_,.nil,_=>rfl
  | y :: xs,u :: us,.cons r t,f=>by
    rw[List.all_cons,Bool.and_eq_true]at f
    rw[List.any_cons,List.any_cons,Oo r f.1,Fj t f.2]
theorem Ej{A:Around}{s:Shared}{x:V}{v:Value}(rx:RelV x v)(fx:EB x=true):∀ {xs:List V} {us:List Value},Vals xs us->xs.all EB=true->∀ u ∈ us,SeqAt.EqAt A s u v (eqU x u)
  | _,_,.nil,_=>λ u hu=>by cases hu
  | y :: xs,u :: us,.cons r t,f=>λ u' hu=>by
    rw[List.all_cons,Bool.and_eq_true]at f
    rcases List.mem_cons.mp hu with rfl|hu
    . rw[Oo r f.1];exact VY r rx f.1 fx
    . exact Ej rx fx t f.2 u' hu
noncomputable def inV(x:V)(xs:List V):Bool:=xs.any λ y=>eqV y x
noncomputable def rIn(K:PySem.W.Frag)(neg:Bool):R2:=λ x y H Q=>∃ p xs,y=.ref p/\(SqL K H p xs ∨ SqT K H p xs)/\EB x=true/\xs.all EB=true/\Q (.bl (if neg then !inV x xs else inV x xs)) H
theorem OL:OpR X (compareOp .In) (rIn X.K false):=by
  intro pins s σ H x y v u Q I rx ry h
  obtain⟨p,xs,rfl,hq,fx,fs,q⟩:=h
  cases ry
  rcases hq with hq|hq
  . obtain⟨its,r,pl,hz⟩:=I.list hq
    refine SeqAt.in_listAt (eqU x) pl.isList (λ w hw=>Ej rx fx r fs w (by simpa using hw)) ⟨.bl _,H,I,rfl,?_⟩
    rw[show its.toArray.any (eqU x)=its.any (eqU x) by simp,Fj r fs]
    exact q
  . obtain⟨its,r,pl,hz⟩:=I.tuple hq
    refine SeqAt.in_tupleAt (eqU x) pl (λ w hw=>Ej rx fx r fs w (by simpa using hw)) ⟨.bl _,H,I,rfl,?_⟩
    rw[show its.toArray.any (eqU x)=its.any (eqU x) by simp,Fj r fs]
    exact q
theorem Kx:OpR X (compareOp .NotIn) (rIn X.K true):=by
  intro pins s σ H x y v u Q I rx ry h
  obtain⟨p,xs,rfl,hq,fx,fs,q⟩:=h
  cases ry
  rcases hq with hq|hq
  . obtain⟨its,r,pl,hz⟩:=I.list hq
    refine SeqAt.notIn_listAt (eqU x) pl.isList (λ w hw=>Ej rx fx r fs w (by simpa using hw)) ⟨.bl _,H,I,rfl,?_⟩
    rw[show its.toArray.any (eqU x)=its.any (eqU x) by simp,Fj r fs]
    exact q
  . obtain⟨its,r,pl,hz⟩:=I.tuple hq
    refine SeqAt.notIn_tupleAt (eqU x) pl (λ w hw=>Ej rx fx r fs w (by simpa using hw)) ⟨.bl _,H,I,rfl,?_⟩
    rw[show its.toArray.any (eqU x)=its.any (eqU x) by simp,Fj r fs]
    exact q
theorem Lg:CallR X (.builtin "len") (λ xs H Q=>∃ p ys,xs=[.ref p]/\(SqL X.K H p ys ∨ SqT X.K H p ys)/\Q (.int ys.length) H):=by
  intro pins s σ H xs us Q I r h
  obtain⟨p,ys,rfl,hq,q⟩:=h
  obtain⟨u,rfl,rx⟩:=Bn r
  cases rx
  have hn:=Fd
  rcases hq with hq|hq
  . obtain⟨its,r',pl,hz⟩:=I.list hq
    have hlen:=r'.length
    exact Calls.call_len_list pl.isList (by simp only[List.size_toArray] <;> omega) ⟨.int ys.length,H,I.tok _,⟨s.toks + 1,by rw[List.size_toArray,hlen]⟩,q⟩
  . obtain⟨its,r',pl,hz⟩:=I.tuple hq
    have hlen:=r'.length
    exact len_tuple pl (by simp only[List.size_toArray] <;> omega) ⟨.int ys.length,H,I.tok _,⟨s.toks + 1,by rw[List.size_toArray,hlen]⟩,q⟩
theorem CallR.or{f:Value}{r r':List V->Hp->VK->Prop}(h:CallR X f r)(h':CallR X f r'):CallR X f (λ xs H Q=>r xs H Q ∨ r' xs H Q):=by
  intro pins s σ H xs us Q I rs q
  rcases q with q|q
  . exact h pins s σ H xs us Q I rs q
  . exact h' pins s σ H xs us Q I rs q
theorem Lf:CallR X (.type "list") (λ xs H Q=>∃ p ys,xs=[.ref p]/\(SqL X.K H p ys ∨ SqT X.K H p ys)/\∀ l,H l=none->Q (.ref l) (upd H l (.lst ys))):=by
  intro pins s σ H xs us Q I r h
  obtain⟨p,ys,rfl,hq,q⟩:=h
  obtain⟨u,rfl,rx⟩:=Bn r
  cases rx
  have fin:∀ (its:List Value),Vals ys its->ys.length <= sizeLine->∀ (h':Heap) (c':Nat),(∀ b o',s.heap.get? b=some o'->h'.get? b=some o') ->
      h'.get? s.heap.objs.size=some { cls:=.type "list",dict:=none,data:=.seq its.toArray c',slots:=#[] }->EP X pins σ Q (.ref s.heap.objs.size) { s with heap:=h' }:=λ its r' hz h' c' kp e=>
    ⟨.ref s.heap.objs.size,_,I.laid (t':=s.toks) kp (Nat.le_refl _) (show ObjOk X.prog X.w _ h' _ (.lst ys)from⟨hz,its,c',r',e⟩),rfl,q _ (I.hok.fresh (Nat.le_refl _))⟩
  rcases hq with hq|hq
  . obtain⟨its,r',pl,hz⟩:=I.list hq
    have hlen:=r'.length
    obtain⟨o,ho,hc,n,hd⟩:=pl.isList
    exact call_list_seq p (.inl rfl) ho hc hd (λ h' c' kp e=>fin its r' hz h' c' kp e) (by simp only[List.size_toArray] <;> omega)
  . obtain⟨its,r',pl,hz⟩:=I.tuple hq
    have hlen:=r'.length
    obtain⟨o,ho,hc,n,hd⟩:=pl
    exact call_list_seq p (.inr rfl) ho hc hd (λ h' c' kp e=>fin its r' hz h' c' kp e) (by simp only[List.size_toArray] <;> omega)
theorem Jx:CallR X (.type "tuple") (λ xs H Q=>∃ p ys,xs=[.ref p]/\((SqL X.K H p ys/\∀ l,H l=none->Q (.ref l) (upd H l (.tup ys))) ∨ (SqT X.K H p ys/\Q (.ref p) H))):=by
  intro pins s σ H xs us Q I r h
  obtain⟨p,ys,rfl,h⟩:=h
  obtain⟨u,rfl,rx⟩:=Bn r
  cases rx
  rcases h with⟨hq,q⟩|⟨hq,q⟩
  . obtain⟨its,r',pl,hz⟩:=I.list hq
    have hlen:=r'.length
    refine call_tuple_list pl.isList (λ h' kp=>?_) (by simp only[List.size_toArray] <;> omega)
    have I1:Inv X pins σ H { s with heap:=h' }:=I.kept (t':=s.toks) kp
    have I2:Inv X pins σ (upd H h'.objs.size (.tup ys)) { s with heap:=h'.push { cls:=.type "tuple",data:=.seq its.toArray } }:=
      I1.laid (t':=s.toks) (λ b o e=>Heap.get?_push_of_some _ e) (Nat.le_refl _) (show ObjOk X.prog X.w _ _ _ (.tup ys)from⟨hz,its,r',IsTup.new _ _⟩)
    exact⟨.ref h'.objs.size,_,I2,rfl,q _ (I1.hok.fresh (Nat.le_refl _))⟩
  . obtain⟨its,r',pl,hz⟩:=I.tuple hq
    exact call_tuple_same pl ⟨.ref p,H,I,rfl,q⟩
noncomputable def tyV(K:PySem.W.Frag)(T:String)(x:V)(H:Hp):Prop:=match x with
  | .str _=>T="str"
  | .int _=>T="int"
  | .ref p=>(T="list"/\∃ xs,SqL K H p xs) ∨ (T="tuple"/\∃ o,K.lookup p=some o/\o.cls=.type "tuple"/\o.dict=none) ∨
      (T="dict"/\((∃ kvs,H p=some (.dK kvs)) ∨ ∃ kvs,H p=some (.dT kvs))) ∨ (T="set"/\∃ S n,H p=some (.set S n))
  | _=>False
theorem Nu{pins:List (Addr × Obj)}{σ:St}{H:Hp}{s:Shared}{T:String}{x:V}{v:Value}(I:Inv X pins σ H s)(r:RelV x v)(ty:tyV X.K T x H) :
    s.TypeIs v T/\∀ a,v=.ref a->∃ ob,s.heap.get? a=some ob/\ob.dict=none:=by
  cases x with
  | str z=>
    obtain⟨t,rfl⟩:=r
    cases(show T="str" from ty)
    exact⟨typeIs_str s z t,λ _ e=>nomatch e⟩
  | int i=>
    obtain⟨t,rfl⟩:=r
    cases(show T="int" from ty)
    exact⟨typeIs_int s i t,λ _ e=>nomatch e⟩
  | ref p=>
    cases r
    rcases ty with⟨rfl,xs,hq⟩|⟨rfl,o,hk,hc,hd⟩|⟨rfl,hk⟩|⟨rfl,S,n,hk⟩
    . obtain⟨its,_,pl,_⟩:=I.list hq
      refine⟨pl.isList.typeIs,λ a e=>?_⟩
      cases e
      obtain⟨o,n,e,c,hd,_⟩:=pl
      exact⟨o,e,hd⟩
    . refine⟨⟨o,I.kIn p o hk,hc⟩,λ a e=>?_⟩
      cases e
      exact⟨o,I.kIn _ o hk,hd⟩
    . have z:∃ o,s.heap.get? p=some o/\o.ExactDict:=by
        rcases hk with⟨kvs,hk⟩|⟨kvs,hk⟩
        . obtain⟨_,_,_,_,o,_,_,e,ex,_⟩:=I.hok p _ hk
          exact⟨o,e,ex⟩
        . obtain⟨_,_,_,_,o,_,_,e,ex,_⟩:=I.hok p _ hk
          exact⟨o,e,ex⟩
      obtain⟨o,e,ex⟩:=z
      refine⟨⟨o,e,ex.1⟩,λ a e2=>?_⟩
      cases e2
      exact⟨o,e,ex.2.1⟩
    . obtain⟨o,_,_,_,e,ex,_⟩:=I.hok p _ hk
      refine⟨⟨o,e,ex.1⟩,λ a e2=>?_⟩
      cases e2
      exact⟨o,e,ex.2.1⟩
  | _=>exact False.elim ty
noncomputable def Pc(K:PySem.W.Frag)(T:String)(r:V->List V->Hp->VK->Prop)(to:TE):TE:=λ σ H Q=>to σ H λ x H1=>tyV K T x H1/\r x [] H1 Q
noncomputable def tBM(K:PySem.W.Frag)(T:String)(r:V->List V->Hp->VK->Prop)(to:TE)(t:TA):TE:=λ σ H Q=>to σ H λ x H1=>tyV K T x H1/\t σ H1 λ xs H2=>r x xs H2 Q
variable{o e:Expr}{es:List Expr}{to:TE}{t:TA}{name:Str}{apos cpos:Pos}{T id:String}{r:V->List V->Hp->VK->Prop}
theorem Uz(pa:PlainAttrs T)(slot:Slot T name id)(hty:typeOf (.builtin id)=pure (.type "method_descriptor"))(hm:MtR X id r)(ho:PE X o to)
    (hbase:attributeBase o name X.env (eval o X.env)=eval o X.env:=by rfl) (hline:(apos.endLine == cpos.line)=true:=by rfl):PE X (.Call (.Attribute o name apos) [] [] cpos) (Pc X.K T r to):=by
  intro pins s σ H Q I h
  refine wpAny_Call_method0_late hbase hline (thn (ho pins s σ H _ I h) λ v s1 ⟨x,H1,I1,r1,ty,q1⟩=>?_)
  obtain⟨h1,h2⟩:=Nu I1 r1 ty
  exact⟨T,id,pa,slot,hty,h1,h2,Calls.callWith_builtin rfl (PySem.evalArgs_none (hm pins s1 σ H1 x [] v [] Q I1 r1 .nil q1))⟩
theorem Vv(pa:PlainAttrs T)(slot:Slot T name id)(hty:typeOf (.builtin id)=pure (.type "method_descriptor"))(hm:MtR X id r)(ho:PE X o to)(ha:PA X (e :: es) t)
    (hbase:attributeBase o name X.env (eval o X.env)=eval o X.env:=by rfl)
    (hfew:((backTo cpos (starEach (e :: es) X.env)).all (λ x=>!x.1) && (backToKw cpos (keywordEach [] X.env)).all (λ x=>x.1.isSome)
      && decide ((e :: es).length + ([]:List Keyword).length + (if([]:List Keyword).isEmpty then 0 else 1) < 30))=true:=by rfl)
    (hline:(apos.endLine == cpos.line)=true:=by rfl) (hs:starEach (e :: es) X.env=(false,eval e X.env) :: starEach es X.env:=by rfl) (hplain:(backTo cpos (starEach es X.env)).any (·.1)=false:=by rfl) :
    PE X (.Call (.Attribute o name apos) (e :: es) [] cpos) (tBM X.K T r to t):=by
  intro pins s σ H Q I h
  refine wpAny_Call_method_late hbase hfew hline rfl (thn (ho pins s σ H _ I h) λ v s1 ⟨x,H1,I1,r1,ty,q1⟩=>?_)
  obtain⟨h1,h2⟩:=Nu I1 r1 ty
  refine⟨T,id,pa,slot,hty,h1,h2,?_⟩
  have hA:=ha cpos pins s1 σ H1 _ I1 q1
  rw[hs]at hA ⊢
  refine Calls.callWith_builtin (by show(false || (backTo cpos (starEach es X.env)).any (·.1))=false;rw[hplain] <;> rfl) (Calls.evalArgs_plain ?_)
  exact thn hA λ us s2 ⟨vs,H2,I2,r2,q2⟩=>hm pins s2 σ H2 x vs v us Q I2 r1 r2 q2
end
end L2
namespace L2
open PySem PySem.Spec PyProof.Rows
noncomputable def MtM(X:Cx)(id:String)(r:V->List V->Hp->VK->Prop):Prop:=
  ∀ (pins:List (Addr × Obj)) (s:Shared) (σ:St) (H:Hp) (x:V) (xs:List V) (v:Value) (us:List Value) (Q:VK),Inv X pins σ H s->RelV x v->Vals xs us->r x xs H Q ->
    wpAny (model X.prog X.w) X.A (call (.builtin id) (v :: us)) (EP X pins σ Q) X.xe s
theorem Vals.one:∀ {x:V} {us:List Value},Vals [x] us->∃ u,us=[u]/\RelV x u
  | _,_,.cons r .nil=>⟨_,rfl,r⟩
theorem Vals.zero:∀ {us:List Value},Vals [] us->us=[]
  | _,.nil=>rfl
theorem Vals.dropLast{xs:List V}{us:List Value}(h:Vals xs us):Vals xs.dropLast us.dropLast:=by
  induction h with
  | nil=>exact .nil
  | cons r t ih=>
    cases t with
    | nil=>exact .nil
    | cons q t'=>exact .cons r ih
theorem Vals.eraseIdx:∀ {xs:List V} {us:List Value} (i:Nat),Vals xs us->Vals (xs.eraseIdx i) (us.eraseIdx i)
  | _,_,_,.nil=>.nil
  | _,_,0,.cons _ t=>t
  | _,_,i + 1,.cons r t=>.cons r (Vals.eraseIdx i t)
theorem Vals.rep{xs:List V}{us:List Value}(h:Vals xs us):∀ k:Nat,Vals (List.replicate k xs).flatten (List.replicate k us).flatten
  | 0=>.nil
  | k + 1=>by
    rw[List.replicate_succ,List.replicate_succ,List.flatten_cons,List.flatten_cons]
    exact Vals.append h (Vals.rep h k)
theorem NZ{α:Type}(l:List α):l.eraseIdx (l.length - 1)=l.dropLast:=by
  induction l with
  | nil=>rfl
  | cons a r ih=>
    cases r with
    | nil=>rfl
    | cons b r=>
      have e:(a :: b :: r).length - 1=((b :: r).length - 1) + 1:=by
        have h1:(a :: b :: r).length=r.length + 2:=rfl
        have h2:(b :: r).length=r.length + 1:=rfl
        omega
      rw[e,List.eraseIdx_cons_succ,ih]
      all_goals rfl
theorem Jg{α:Type}:∀ (l:List α) (i:Nat),(l.eraseIdx i).length <= l.length
  | [],_=>Nat.le_refl _
  | _ :: _,0=>Nat.le_succ _
  | _ :: r,i + 1=>Nat.succ_le_succ (Jg r i)
theorem Jj(its:List Value):∀ (k:Nat) (acc:List Value),
    List.foldl (λ x1 x2=>x1 ++ x2) acc.toArray (List.replicate k its.toArray)=(acc ++ (List.replicate k its).flatten).toArray
  | 0,acc=>by simp
  | k + 1,acc=>by
    have e:acc.toArray ++ its.toArray=(acc ++ its).toArray:=by simp
    have e2:(acc ++ its) ++ (List.replicate k its).flatten=acc ++ (List.replicate (k + 1) its).flatten:=by
      rw[List.replicate_succ,List.flatten_cons,List.append_assoc]
    rw[<- e2,<- Jj its k (acc ++ its),<- e,List.replicate_succ,List.foldl_cons]
section
variable{X:Cx}{pins:List (Addr × Obj)}{σ:St}{H:Hp}{s:Shared}{l b:Addr}{xs ys zs:List V}
theorem Inv.lset{its its':List Value}{n:Nat}{f:Array Value->Array Value}{t':Nat}(I:Inv X pins σ H s)(hH:H l=some (.lst xs))
    (e:s.heap.get? l=some { cls:=.type "list",data:=.seq its.toArray n }) (hf:f its.toArray=its'.toArray) (hv:Vals ys its') (hz:ys.length <= sizeLine) :
    Inv X pins σ (upd H l (.lst ys)) { s with heap:=s.heap.update l (Obj.mapSeq f),toks:=t' }:=by
  have q:=PySem.IsL.update e f
  rw[hf]at q
  refine I.write (x:=l) (e:=l) (by rw[hH];exact trivial) (.inl rfl) (λ b' u hb hu=>(Heap.get?_update_other s.heap (Obj.mapSeq f) (Ne.symm hb)).trans hu) ⟨_,q⟩ ?_
  exact⟨hz,its',_,hv,q⟩
theorem Inv.lnew{its:List Value}{t':Nat}(I:Inv X pins σ H s)(hv:Vals ys its)(hz:ys.length <= sizeLine) :
    Inv X pins σ (upd H s.heap.objs.size (.lst ys)) { s with heap:=s.heap.push { cls:=.type "list",data:=.seq its.toArray },toks:=t' }:=
  I.laid (λ _ _ q=>Heap.get?_push_of_some _ q) (Nat.le_refl _) ⟨hz,its,0,hv,Heap.get?_push_size _ rfl⟩
theorem Inv.fresh(I:Inv X pins σ H s):H s.heap.objs.size=none:=I.hok.fresh (Nat.le_refl _)
theorem Inv.lstM(I:Inv X pins σ H s)(hH:H l=some (.lst xs)):xs.length <= sizeLine/\∃ (its:List Value) (n:Nat),Vals xs its/\xs.length=its.length/\s.heap.get? l=some { cls:=.type "list",data:=.seq its.toArray n }:=by
  obtain⟨z,its,n,r,e⟩:=I.hok l _ hH
  exact⟨z,its,n,r,r.length,e⟩
theorem Kz{n:Nat}(h:n <= sizeLine):Builtin.List.listTooLong n=false:=by
  unfold Builtin.List.listTooLong
  exact decide_eq_false (by omega)
end
section
variable{X:Cx}
noncomputable def MB:V->List V->Hp->VK->Prop:=λ x vs H Q=>∃ l xs y,x=.ref l/\vs=[y]/\H l=some (.lst xs)/\xs.length < sizeLine/\Q .non (upd H l (.lst (xs ++ [y])))
theorem Bq:MtM X "list.append" MB:=by
  intro pins s σ H x vs v us Q I rx rv h
  obtain⟨l,xs,y,rfl,rfl,hH,hz,q⟩:=h
  cases rx
  obtain⟨u,rfl,ru⟩:=rv.one
  obtain⟨z,its,n,r,hl,e⟩:=I.lstM hH
  refine call_meets F.slot_list_append ⟨_,e,rfl⟩ F.entry_list_append (F.args_list_append_2 _ _) (PySem.list_append l its.toArray n u (by rw[List.size_toArray];omega)) ⟨e,?_⟩
  refine⟨.non,_,I.lset (its':=its ++ [u]) hH e (by simp) (r.append (.cons ru .nil)) ?_,rfl,q⟩
  rw[List.length_append,List.length_singleton]
  omega
noncomputable def Sd:V->List V->Hp->VK->Prop:=λ x vs H Q=>∃ l b xs zs,x=.ref l/\vs=[.ref b]/\H l=some (.lst xs)/\H b=some (.lst zs)/\xs.length + zs.length <= sizeLine/\Q .non (upd H l (.lst (xs ++ zs)))
theorem WY:MtM X "list.extend" Sd:=by
  intro pins s σ H x vs v us Q I rx rv h
  obtain⟨l,b,xs,zs,rfl,rfl,hH,hB,hz,q⟩:=h
  cases rx
  obtain⟨u,rfl,ru⟩:=rv.one
  cases ru
  obtain⟨z,its,n,r,hl,e⟩:=I.lstM hH
  obtain⟨z2,its2,n2,r2,hl2,e2⟩:=I.lstM hB
  have hsz:its.toArray.size + its2.toArray.size <= sizeLine:=by rw[List.size_toArray,List.size_toArray];omega
  have hlong:¬ (!its.toArray.isEmpty && Builtin.List.listTooLong (its.toArray.size + its2.toArray.size))=true:=by
    rw[Kz hsz,Bool.and_false]
    exact Bool.false_ne_true
  refine call_meets F.slot_list_extend ⟨_,e,rfl⟩ F.entry_list_extend (F.args_list_extend_2 _ _)
    (AutoSeq1.list_extend_list_list_0 l its.toArray n b its2.toArray n2 hlong (by rw[List.size_toArray];omega) (by omega)) ⟨e,e2,?_⟩
  refine⟨.non,_,I.lset (its':=its ++ its2) hH e (by simp) (r.append r2) ?_,rfl,q⟩
  rw[List.length_append]
  omega
noncomputable def UT:V->List V->Hp->VK->Prop:=λ x vs H Q=>∃ l xs y,x=.ref l/\vs=[]/\H l=some (.lst xs)/\xs[xs.length - 1]? = some y/\Q y (upd H l (.lst xs.dropLast))
theorem VD:MtM X "list.pop" UT:=by
  intro pins s σ H x vs v us Q I rx rv h
  obtain⟨l,xs,y,rfl,rfl,hH,hy,q⟩:=h
  cases rx
  have hus:=rv.zero
  subst hus
  obtain⟨z,its,n,r,hl,e⟩:=I.lstM hH
  obtain⟨u,hu,ru⟩:=r.get hy
  have hy':its.toArray[its.toArray.size - 1]? = some u:=by
    show its.toArray[its.length - 1]? = some u
    rw[<- Array.getElem?_toList,<- hl]
    exact hu
  refine call_meets F.slot_list_pop ⟨_,e,rfl⟩ F.entry_list_pop (F.args_list_pop_1 _) (MeetsSeq.list_pop_last l its.toArray n u hy' (by rw[List.size_toArray];omega)) ⟨e,?_⟩
  refine⟨y,_,I.lset (its':=its.dropLast) hH e ?_ r.dropLast ?_,ru,q⟩
  . show its.toArray.eraseIdxIfInBounds (its.toArray.size - 1)=its.dropLast.toArray
    rw[List.size_toArray,List.eraseIdxIfInBounds_toArray,NZ]
  . rw[List.length_dropLast]
    omega
noncomputable def O8:V->List V->Hp->VK->Prop:=λ x vs H Q=>∃ l xs i k y,x=.ref l/\vs=[.int i]/\H l=some (.lst xs)/\-(2 ^ 63) <= i/\i < 2 ^ 63/\seqIndex? i xs.length=some k/\xs[k]? = some y/\Q y (upd H l (.lst (xs.eraseIdx k)))
theorem Qe:MtM X "list.pop" O8:=by
  intro pins s σ H x vs v us Q I rx rv h
  obtain⟨l,xs,i,k,y,rfl,rfl,hH,h1,h2,hk,hy,q⟩:=h
  cases rx
  obtain⟨u,rfl,ru⟩:=rv.one
  obtain⟨t,rfl⟩:=ru
  obtain⟨z,its,n,r,hl,e⟩:=I.lstM hH
  obtain⟨w,hw,rw'⟩:=r.get hy
  refine call_meets F.slot_list_pop ⟨_,e,rfl⟩ F.entry_list_pop (F.args_list_pop_2 _ _)
    (MeetsSeq.list_pop_at l its.toArray n i t k w (fitsIndex_both h1 h2) (by rw[List.size_toArray,<- hl];exact hk) (by rw[<- Array.getElem?_toList];exact hw) (by rw[List.size_toArray];omega)) ⟨e,?_⟩
  refine⟨y,_,I.lset (its':=its.eraseIdx k) hH e ?_ (r.eraseIdx k) ?_,rw',q⟩
  . show its.toArray.eraseIdxIfInBounds k=(its.eraseIdx k).toArray
    rw[List.eraseIdxIfInBounds_toArray]
  . have:=Jg xs k
    omega
noncomputable def Q5:R2:=λ x y H Q=>∃ l b xs zs,x=.ref l/\y=.ref b/\H l=some (.lst xs)/\H b=some (.lst zs)/\xs.length + zs.length <= sizeLine/\∀ p,H p=none->Q (.ref p) (upd H p (.lst (xs ++ zs)))
theorem V9:OpR X (binaryOp .Add) Q5:=by
  intro pins s σ H x y v u Q I rx ry h
  obtain⟨l,b,xs,zs,rfl,rfl,hH,hB,hz,q⟩:=h
  cases rx
  cases ry
  obtain⟨z,its,n,r,hl,e⟩:=I.lstM hH
  obtain⟨z2,its2,n2,r2,hl2,e2⟩:=I.lstM hB
  refine PySem.P.add_list e e2 ?_ (by rw[List.size_toArray,List.size_toArray];omega)
  have ea:its.toArray ++ its2.toArray=(its ++ its2).toArray:=by simp
  rw[ea]
  exact⟨.ref _,_,I.lnew (t':=s.toks) (r.append r2) (by rw[List.length_append];omega),rfl,q _ I.fresh⟩
noncomputable def Pz:R2:=λ x y H Q=>∃ l k xs,x=.ref l/\y=.int k/\H l=some (.lst xs)/\-(2 ^ 63) <= k/\k < 2 ^ 63/\xs.length * k.toNat <= sizeLine /\
  ∀ p,H p=none->Q (.ref p) (upd H p (.lst (List.replicate k.toNat xs).flatten))
theorem TH{α:Type}(xs:List α)(k:Nat):(List.replicate k xs).flatten.length=k * xs.length:=by
  induction k with
  | zero=>simp
  | succ k ih=>rw[List.replicate_succ,List.flatten_cons,List.length_append,ih,Nat.succ_mul,Nat.add_comm]
theorem V3:OpR X (binaryOp .Mult) Pz:=by
  intro pins s σ H x y v u Q I rx ry h
  obtain⟨l,k,xs,rfl,rfl,hH,h1,h2,hz,q⟩:=h
  cases rx
  obtain⟨t,rfl⟩:=ry
  obtain⟨z,its,n,r,hl,e⟩:=I.lstM hH
  have hlen:its.toArray.size * k.toNat <= sizeLine:=by rw[List.size_toArray,<- hl];exact hz
  have hcap:¬ its.toArray.size * k.toNat > (2 ^ 63 - 1) / 8:=by
    have:(sizeLine:Nat) <= (2 ^ 63 - 1) / 8:=by decide
    omega
  have hfit:¬ (!Builtin.List.listFitsIndex k)=true:=by
    rw[fitsIndex_both h1 h2]
    exact Bool.false_ne_true
  have hlong:¬ Builtin.List.listTooLong (its.toArray.size * k.toNat)=true:=by
    rw[Kz hlen]
    exact Bool.false_ne_true
  have hnew:List.foldl (λ x1 x2=>x1 ++ x2) #[] (List.replicate (if its.toArray.isEmpty=true then 0 else k.toNat) its.toArray)=(List.replicate k.toNat its).flatten.toArray:=by
    have f0:∀ m:Nat,List.foldl (λ x1 x2=>x1 ++ x2) #[] (List.replicate m its.toArray)=(List.replicate m its).flatten.toArray:=λ m=>by
      have:=Jj its m []
      rw[List.nil_append]at this
      exact this
    rw[f0]
    cases its with
    | nil=>simp
    | cons a r'=>rw[if_neg (by simp)]
  refine wpAny_binaryOp_repeat_ref (T:="list") (U:="int") (by decide) ⟨_,e,rfl⟩ (λ s'=>typeIs_int s' k t) noFill_list_mul F.fills_int_mul F.slot_int_rmul repeat_list F.slot_int_index.lookup
    (call_meets F.slot_int_rmul (typeIs_int s k t) F.entry_int_rmul (F.args_int_rmul_2 _ _) (int___rmul___int_list k t l its.toArray n)
      ⟨e,rfl,⟨_,e,rfl⟩,call_meets F.slot_list_mul ⟨_,e,rfl⟩ F.entry_list_mul (F.args_list_mul_2 _ _) (AutoListH.list___mul___list_int_3 l its.toArray n k t hfit hcap hlong) ⟨e,?_⟩⟩)
  rw[hnew]
  exact⟨.ref _,_,I.lnew (t':=s.toks) (r.rep k.toNat) (by rw[TH,Nat.mul_comm];exact hz),rfl,q _ I.fresh⟩
end
section
variable{prog:Program}{w:World}{A:Around}{E:Value->Shared->Prop}{s:Shared}
end
section
variable{X:Cx}
end
end L2
namespace Att
open PySem PySem.W PySem.Calls PyProof.Rows
theorem IY{P:Params}{h:Heap}:∀ (ns:List Int) (vs:List Value),WellAll P h vs (ns.map WData.int)->IntsAre vs ns:=by
  intro ns
  induction ns with
  | nil=>
    intro vs w
    rw[List.map_nil]at w
    cases w
    exact .nil
  | cons n ns ih=>
    intro vs w
    rw[List.map_cons]at w
    cases w with
    | cons a b=>
      cases a
      exact .cons _ _ (ih _ b)
theorem O0{l:OpenLaw}{n:Nat}(hn:l.most=some n){P:Params}{h:Heap}{args:List WData}{vals:List Value}
    (hpre:l.row.toRowW.claim.pre args=true) (hwl:WellAll P h vals args) :
    ∃ a vs ns,vals=[Value.ref a]/\args=[WData.list (ns.map WData.int)]/\h.get? a=some { cls:=.type "list",data:=.seq vs.toArray }/\IntsAre vs ns/\ns.length <= n:=by
  have hsh:WShape.hasAll [] args [.list .int]=true:=(pre_splitW hpre).1
  have hc:l.pre.holds [] { args:=args }=true:=(pre_splitW hpre).2
  obtain⟨d,r,rfl,h1,h2⟩:=hasAllW_cons hsh
  obtain rfl:=hasAllW_nil h2
  obtain⟨xs,rfl,h3⟩:=hasW_list h1
  obtain⟨ns,rfl⟩:=items_int h3
  have hlen:ns.length <= n:=by
    unfold OpenLaw.pre at hc
    have h4:(WTm.not (.lt (.lit (.int (n:Int))) (.len (.arg 0)))).holds [] { args:=[.list (ns.map .int)] }=true:=by
      have h4:=(holds_andW hc).1
      rw[hn]at h4
      exact h4
    have h5:=condW_of h4 (w_not (w_lt w_lit (w_len_list (w_arg rfl))))
    rw[List.length_map]at h5
    refine Nat.le_of_not_lt λ q=>?_
    have q':(n:Int) < ((ns.length:Nat):Int):=by omega
    first
      | (rw[decide_eq_true q']at h5;exact absurd h5 (by decide))
      | (simp at h5;omega)
  cases hwl with
  | cons w1 w2=>
    cases w2
    cases w1 with
    | list ho hall=>exact⟨_,_,ns,rfl,rfl,ho,IY ns _ hall,hlen⟩
theorem OF(l:OpenLaw)(args:List WData):l.row.toRowW.claim.post args (.bool true) args=true:=
  postW_of (r:=l.row.toRowW) (X:=(true == true))
    (show WShape.has [] (.bool true) .bool=true by first|rfl|decide|simp[WShape.has,WShape.arms,WShape.armsAll])
    (show(WTm.eq .res (.lit (.bool true))).value [] { args:=args,res:=some (.bool true),after:=args }=some (.bool (true == true))from w_eq_bool (w_res rfl) w_lit) rfl
theorem attach_call{l:OpenLaw}{n:Nat}{q:Program}{loose:List Str}{XP:(Str->Option Value)->Heap->Prop}{YP:World->Heap->Prop}{d:DefRec}
    (hn:l.most=some n) (hdf:d.params.defaults=[])
    (call:∀ (w:World) (s₀ s₁:Shared) (mg mb:Str->Option Value) (fa:Addr) (o:Obj) (pm cd doc:Value) (a:Addr) (vs:List Value) (ns:List Int),
      Ground q loose [] XP w s₀ mg mb s₁.heap->YP w s₁.heap ->
      s₁.heap.get? fa=some o->o.data=.func (docDef d.name d.params d.body d.scope pm cd doc)->s₁.heap.CodeRec cd d.name->mg d.name=some (.ref fa) ->
      s₁.heap.get? a=some { cls:=.type "list",data:=.seq vs.toArray }->IntsAre vs ns->ns.length <= n->s₁.gens=#[] ->
      codeAny (model l.prog w) callerA (.call (.ref fa) ⟨[.ref a],[]⟩) (λ r s'=>r=.ok (.ret (.bool true))/\OldK s₁.heap s'.heap/\s'.os=s₁.os/\AllBare s'.gens) s₁) :
    WalkO q loose XP YP l.row.toRowW d [] (λ f vs=>PySem.call f vs):=by
  intro w s₀ s₁ mg mb G Y fa o pm cd doc dV kV ho hd hcd hD hmg hg args vals as hpre hlay hrd hwl hlo
  obtain rfl:dV=.none:=Dflts.none hD hdf
  obtain rfl:kV=.none:=Dflts.noKw hD
  obtain⟨a,vs,ns,rfl,rfl,hobj,hints,hlen⟩:=O0 hn hpre hwl
  refine enter_call (codeAny_mono (call w s₀ s₁ mg mb fa o pm cd doc a vs ns G Y ho (fd_plain hd) hcd hmg hobj hints hlen hg) λ r s' hq=>?_)
  obtain⟨rfl,h2,h3,h4⟩:=hq
  exact⟨.inl ⟨.bool true,.bool true,[],rfl,λ _=>rfl,.bool true,OF l _,λ _=>⟨List.Pairwise.nil,λ _ hm=>(nomatch hm)⟩⟩,h2,h3,h4⟩
section
variable{prog:Program}{w:World}{A:Around}{E:Value->Shared->Prop}{s:Shared}{K:Frag}
end
end Att
namespace L2
open PySem PySem.Spec PyProof.Rows
theorem JW:∀ {vs:List Value} {ns:List Int},IntsAre vs ns->Vals (ns.map V.int) vs
  | _,_,.nil=>.nil
  | _,_,.cons n t h=>.cons ⟨t,rfl⟩ (JW h)
end L2
namespace L2
open PySem PySem.Spec PyProof.Rows
end L2
namespace L2
open PySem PySem.Spec PyProof.Rows
noncomputable def AX(s:Stmt):Arguments:=match s with
  | .FunctionDef _ a _ _ _ _ _ _ _ _=>a
  | _=>{ posonlyargs:=[],args:=[],vararg:=none,kwonlyargs:=[],kw_defaults:=[],kwarg:=none,defaults:=[] }
noncomputable def AU(s:Stmt):List Stmt:=match s with
  | .FunctionDef _ _ b _ _ _ _ _ _ _=>b
  | _=>[]
noncomputable def A8(s:Stmt):Scope:=match s with
  | .FunctionDef _ _ _ _ _ _ sc _ _ _=>sc
  | _=>{ kind:=.function,names:=[],isGenerator:=false,isCoroutine:=false }
noncomputable abbrev CX0:CXT:=λ _ _ _ _ _ _=>False
noncomputable abbrev E0:XK:=λ _ _ _=>False
theorem Rn{X:Cx}:Im CX0 X E0:=λ _ _ _ _ _ _ _ h=>h.elim
structure Fun(K:PySem.W.Frag)(x qual:Str)(st:Stmt)(f:Addr)(fd:FuncData):Prop where
  ex:∃ (oc:Value) (od:Option Addr) (kV doc pm:Value) (an:Option Addr) (cdv ct:Value) (osl:Array (Option Value)),
    fd=PySem.W.fnOf x qual (AX st) (AU st) (A8 st) .none kV doc pm an cdv ct/\K.lookup f=some ⟨oc,od,.func fd,osl⟩/\PySem.W.codeIn K cdv qual=true
  kp:PySem.W.keepIn K (.ref f)=true
section
variable{P:Program}{w:World}{K:PySem.W.Frag}{mg:Str->Option Value}{base:Heap}
theorem Fun.ok{x qual:Str}{st:Stmt}{f:Addr}{fd:FuncData}{N ps:List Str}{k:Nat}{sp:Sp}(F:Fun K x qual st f fd)(S:FnScope N ps (A8 st))(len:∀ vs H Q E,sp vs H Q E->vs.length=ps.length)
    (hbody:∀ (cdv:Value) (A:Around) (outer:List Env) (s:Shared) (H:Hp) (vs:List V) (Q:VK) (E:XK),Room k (A.deeper (envOfC qual (A8 st) s.heap.objs.size f cdv))->sp vs H Q E ->
      ∃ t,PSs (GY CX0 P w K mg base N qual (A8 st) f cdv A outer s H E).nox (AU st) t/\t { nx:=λ _ H'=>Q .non H',rt:=Q } (DX N vs) H):FnOk P w K mg base CX0 (k + 1) f fd ps sp:=by
  obtain⟨oc,od,kV,doc,pm,an,cdv,ct,osl,rfl,lk,hcd⟩:=F.ex
  refine Rt lk hcd S len λ A outer s H vs Q E hr hsp=>?_
  obtain⟨t,h,q⟩:=hbody cdv A outer s H vs Q E hr hsp
  exact⟨t,h.nox,q⟩
theorem Fun.binds{x qual:Str}{st:Stmt}{f:Addr}{fd:FuncData}{ps:List Str}(F:Fun K x qual st f fd)
    (h:∀ (kV doc pm:Value) (an:Option Addr) (cdv ct:Value) (us:List Value),us.length=ps.length->bindArgs (PySem.W.fnOf x qual (AX st) (AU st) (A8 st) .none kV doc pm an cdv ct) ⟨us,[]⟩=pure (ps.zip us)):Binds K fd ps []:=by
  obtain⟨oc,od,kV,doc,pm,an,cdv,ct,osl,rfl,lk,hcd⟩:=F.ex
  exact .all (h kV doc pm an cdv ct)
theorem Av{x qual:Str}{st:Stmt}{f:Addr}{oc:Value}{od an:Option Addr}{osl:Array (Option Value)}{kV doc pm cdv ct:Value}(l:K.lookup f=some ⟨oc,od,.func (PySem.W.fnOf x qual (AX st) (AU st) (A8 st) .none kV doc pm an cdv ct),osl⟩)
    (c:PySem.W.codeIn K cdv qual=true) (k:PySem.W.keepIn K (.ref f)=true):Fun K x qual st f (PySem.W.fnOf x qual (AX st) (AU st) (A8 st) .none kV doc pm an cdv ct):=⟨⟨oc,od,kV,doc,pm,an,cdv,ct,osl,rfl,l,c⟩,k⟩
end
theorem FF{A:Around}{k:Nat}(hr:Room k A):A.units + 1 < cLine:=Nat.lt_of_le_of_lt (Nat.add_le_add_left (by decide:1 <= 64) _) hr.units
theorem Ja{n:Nat}(h:n <= 1000):n < sizeLine:=Nat.lt_of_le_of_lt h (by decide)
section
variable{X:Cx}
end
end L2
namespace L2
open PySem PySem.Spec PyProof.Rows
section
variable{κ:Type}[DecidableEq κ]
noncomputable def E5(kvs:List (κ × V))(k:κ):Option V:=(kvs.find? λ kv=>decide (kv.1=k)).map (·.2)
noncomputable def Cy(kvs:List (κ × V))(k:κ)(v:V):List (κ × V):=
  if(kvs.any λ kv=>decide (kv.1=k))=true then kvs.map (λ kv=>if kv.1=k then(kv.1,v)else kv)else kvs ++ [(k,v)]
theorem Ee{p:κ × V}{r:List (κ × V)}{k:κ}(e:p.1=k):E5 (p :: r) k=some p.2:=by simp[E5,List.find?_cons,e]
theorem Ef{p:κ × V}{r:List (κ × V)}{k:κ}(e:¬ p.1=k):E5 (p :: r) k=E5 r k:=by simp[E5,List.find?_cons,e]
theorem KR(k:κ):∀ kvs:List (κ × V),(kvs.any λ kv=>decide (kv.1=k))=(E5 kvs k).isSome
  | []=>rfl
  | p :: r=>by
    rw[List.any_cons]
    by_cases e:p.1=k
    . simp only[Ee e,decide_eq_true e,Bool.true_or,Option.isSome_some]
    . rw[Ef e,decide_eq_false e,Bool.false_or];exact KR k r
theorem FM(kvs:List (κ × V))(k:κ)(v:V):(Cy kvs k v).length <= kvs.length + 1:=by
  unfold Cy
  split
  . rw[List.length_map];omega
  . rw[List.length_append,List.length_cons,List.length_nil];omega
theorem RelO.isSome_eq{o:Option V}{u:Option Value}(r:RelO o u):o.isSome=u.isSome:=by
  cases o with
  | none=>cases u with
    | none=>rfl
    | some _=>exact(show False from r).elim
  | some _=>cases u with
    | none=>exact(show False from r).elim
    | some _=>rfl
theorem KV.val{kvs:List (κ × V)}{vs:List (κ × Value)}(r:KV kvs vs)(k:κ):RelO (E5 kvs k) (valueAt vs k):=by
  unfold KV at r
  induction r with
  | nil=>exact True.intro
  | @cons p q ps qs h t ih=>
    obtain⟨h1,h2⟩:=h
    by_cases e:p.1=k
    . have e':q.1=k:=h1.symm.trans e
      have b:valueAt (q :: qs) k=some q.2:=by simp[valueAt,List.find?_cons,e']
      rw[Ee e,b];exact h2
    . have e':¬ q.1=k:=λ z=>e (h1.trans z)
      have b:valueAt (q :: qs) k=valueAt qs k:=by simp[valueAt,List.find?_cons,e']
      rw[Ef e,b];exact ih
theorem KV.any{kvs:List (κ × V)}{vs:List (κ × Value)}(r:KV kvs vs)(k:κ):(kvs.any λ kv=>decide (kv.1=k))=vs.any λ kv=>decide (kv.1=k):=by
  unfold KV at r
  induction r with
  | nil=>rfl
  | cons h t ih=>rw[List.any_cons,List.any_cons,ih,h.1]
theorem KV.repl{kvs:List (κ × V)}{vs:List (κ × Value)}(r:KV kvs vs)(k:κ){y:V}{u:Value}(ry:RelV y u) :
    KV (kvs.map λ kv=>if kv.1=k then(kv.1,y)else kv) (vs.map λ kv=>if kv.1=k then(kv.1,u)else kv):=by
  unfold KV at r ⊢
  induction r with
  | nil=>exact .nil
  | @cons p q ps qs h t ih=>
    rw[List.map_cons,List.map_cons]
    refine .cons ?_ ih
    obtain⟨h1,h2⟩:=h
    by_cases e:p.1=k
    . rw[if_pos e,if_pos (h1.symm.trans e)];exact⟨h1,ry⟩
    . rw[if_neg e,if_neg (λ z=>e (h1.trans z))];exact⟨h1,h2⟩
theorem KV.put{kvs:List (κ × V)}{vs:List (κ × Value)}(r:KV kvs vs)(k:κ){y:V}{u:Value}(ry:RelV y u):KV (Cy kvs k y) (stored vs k u):=by
  unfold Cy stored
  rw[r.any k]
  by_cases e:(vs.any λ kv=>decide (kv.1=k))=true
  . rw[if_pos e,if_pos e];exact r.repl k ry
  . rw[if_neg e,if_neg e];exact Paired.snoc r ⟨rfl,ry⟩
theorem KV.length{kvs:List (κ × V)}{vs:List (κ × Value)}(r:KV kvs vs):kvs.length=vs.length:=Paired.length r
end
theorem IV{P:Program}{w:World}{k:Key}{u:Value}(r:RelV (kV k) u):(Bf P w).is k u=true:=by
  cases k with
  | inl i=>obtain⟨t,e⟩:=(show ∃ t,u=Value.int i t from r);subst e;exact Lu P w i t
  | inr x=>obtain⟨t,e⟩:=(show ∃ t,u=Value.str x t from r);subst e;exact Lr P w x t
theorem Ji{P:Program}{w:World}:∀ {ks:List Key} {us:List Value},Vals (ks.map kV) us->ItemsAre (Bf P w) ks us
  | [],_,r=>by rw[List.map_nil]at r;cases r;exact .nil
  | k :: ks,_,r=>by
    rw[List.map_cons]at r
    cases r with
    | cons h t=>exact .cons (IV h) (Ji t)
noncomputable abbrev KT(H:Hp):List (List Key × V)->List (List Key × Addr × Value)->Prop:=Paired λ p q=>p.1=q.1/\H q.2.1=some (.tup (p.1.map kV))/\RelV p.2 q.2.2
theorem KT.val{H:Hp}{kvs:List (List Key × V)}{xs:List (List Key × Addr × Value)}(r:KT H kvs xs)(k:List Key):RelO (E5 kvs k) ((atKey xs k).map (·.2)):=by
  induction r with
  | nil=>exact True.intro
  | @cons p q ps qs h t ih=>
    obtain⟨h1,_,h2⟩:=h
    by_cases e:p.1=k
    . have e':q.1=k:=h1.symm.trans e
      have b:atKey (q :: qs) k=some q.2:=by simp[atKey,List.find?_cons,e']
      rw[Ee e,b];exact h2
    . have e':¬ q.1=k:=λ z=>e (h1.trans z)
      have b:atKey (q :: qs) k=atKey qs k:=by simp[atKey,List.find?_cons,e']
      rw[Ef e,b];exact ih
theorem KT.repl{H:Hp}{kvs:List (List Key × V)}{xs:List (List Key × Addr × Value)}(r:KT H kvs xs)(k:List Key){y:V}{u:Value}(ry:RelV y u) :
    KT H (kvs.map λ kv=>if kv.1=k then(kv.1,y)else kv) (xs.map (putAt k u)):=by
  induction r with
  | nil=>exact .nil
  | @cons p q ps qs h t ih=>
    rw[List.map_cons,List.map_cons]
    refine .cons ?_ ih
    obtain⟨h1,h2,h3⟩:=h
    unfold putAt
    by_cases e:p.1=k
    . rw[if_pos e,if_pos (h1.symm.trans e)];exact⟨h1,h2,ry⟩
    . rw[if_neg e,if_neg (λ z=>e (h1.trans z))];exact⟨h1,h2,h3⟩
theorem KT.put{H:Hp}{kvs:List (List Key × V)}{xs:List (List Key × Addr × Value)}(r:KT H kvs xs)(k:List Key){b:Addr}{y:V}{u:Value}(hb:H b=some (.tup (k.map kV)))(ry:RelV y u) :
    KT H (Cy kvs k y) (storedH xs k b u):=by
  have e:(kvs.any λ kv=>decide (kv.1=k))=(atKey xs k).isSome:=by
    rw[KR,(r.val k).isSome_eq,Option.isSome_map]
  unfold Cy storedH
  rw[e]
  by_cases q:(atKey xs k).isSome=true
  . rw[if_pos q,if_pos q];exact r.repl k ry
  . rw[if_neg q,if_neg q];exact Paired.snoc r ⟨rfl,hb,ry⟩
theorem KT.keeps{H H':Hp}{kvs:List (List Key × V)}{xs:List (List Key × Addr × Value)}(r:KT H kvs xs)(ht:∀ b ys,H b=some (.tup ys)->H' b=some (.tup ys)):KT H' kvs xs:=
  Paired.mapP r λ _ _ z=>⟨z.1,ht _ _ z.2.1,z.2.2⟩
section
variable{P:Program}{w:World}{H:Hp}{h:Heap}{a:Addr}
theorem RY{u:HO}(ok:HOk P w H h)(e:Rd H a u):ObjOk P w H h a u:=e.ok ok
theorem KC{kvs:List (Key × V)}(ok:HOk P w H h)(e:Rd H a (.dK kvs)):kvs.length <= sizeLine/\(a == sysModules)=false/\∃ vs,KV kvs vs/\h.DictOf (Bf P w) a vs:=
  show ObjOk P w H h a (.dK kvs)from RY ok e
theorem Ru{kvs:List (Key × V)}(ok:HOk P w H h)(e:H a=some (.dK kvs)):kvs.length <= sizeLine/\(a == sysModules)=false/\∃ vs,KV kvs vs/\h.DictOf (Bf P w) a vs:=KC ok (.inl e)
theorem IU{ks:List Key}(ok:HOk P w H h)(e:H a=some (.tup (ks.map kV))):(tupleKind (Bf P w)).is h ks a:=by
  obtain⟨_,its,r,o,h1,h2,n,h3⟩:=(show ObjOk P w H h a (.tup (ks.map kV))from ok a _ e)
  exact⟨o,its.toArray,n,h1,h2,h3,by simpa using Ji r⟩
theorem KB{kvs:List (List Key × V)}(ok:HOk P w H h)(e:Rd H a (.dT kvs)):kvs.length <= sizeLine/\(a == sysModules)=false /\
    ∃ xs,KT H kvs xs/\h.DictOfH (tupleKind (Bf P w)) a xs:=by
  obtain⟨z,y,xs,r,o,es,ep,h1,h2,h3,h4,h5⟩:=(show ObjOk P w H h a (.dT kvs)from RY ok e)
  refine⟨z,y,xs,r,o,es,ep,h1,h2,h3,h4,λ x hx=>?_,h5⟩
  have all:∀ {l:List (List Key × V)} {m:List (List Key × Addr × Value)},KT H l m->∀ x ∈ m,(tupleKind (Bf P w)).is h x.1 x.2.1:=by
    intro l m q
    induction q with
    | nil=>intro x hx;exact nomatch hx
    | @cons p q ps qs hq t ih=>
      intro x hx
      rcases List.mem_cons.mp hx with e|hx
      . subst e
        exact IU ok (by rw[<- hq.1];exact hq.2.1)
      . exact ih x hx
  exact all r x hx
theorem WQ{kvs:List (List Key × V)}(ok:HOk P w H h)(e:H a=some (.dT kvs)):kvs.length <= sizeLine/\(a == sysModules)=false /\
    ∃ xs,KT H kvs xs/\h.DictOfH (tupleKind (Bf P w)) a xs:=KB ok (.inl e)
end
noncomputable def DGet(H:Hp)(a:Addr)(y:V)(r:Option V):Prop:=
  (∃ kvs k,Rd H a (.dK kvs)/\y=kV k/\r=E5 kvs k) ∨ ∃ kvs k b,Rd H a (.dT kvs)/\y=.ref b/\H b=some (.tup (k.map kV))/\r=E5 kvs k
noncomputable def DPut(H:Hp)(a:Addr)(y v:V)(H':Hp):Prop:=
  (∃ kvs k,H a=some (.dK kvs)/\y=kV k/\kvs.length < sizeLine/\H'=upd H a (.dK (Cy kvs k v))) ∨
  ∃ kvs k b,H a=some (.dT kvs)/\y=.ref b/\H b=some (.tup (k.map kV))/\kvs.length < sizeLine/\H'=upd H a (.dT (Cy kvs k v))
theorem DGet.k{H:Hp}{a:Addr}{kvs:List (Key × V)}{k:Key}(e:H a=some (.dK kvs)):DGet H a (kV k) (E5 kvs k):=.inl ⟨kvs,k,.inl e,rfl,rfl⟩
theorem DPut.k{H:Hp}{a:Addr}{kvs:List (Key × V)}{k:Key}{v:V}(e:H a=some (.dK kvs))(hl:kvs.length < sizeLine):DPut H a (kV k) v (upd H a (.dK (Cy kvs k v))):=.inl ⟨kvs,k,e,rfl,hl,rfl⟩
section
variable{X:Cx}{pins:List (Addr × Obj)}{σ:St}{H:Hp}{s:Shared}{a:Addr}{y v:V}{u r:Value}{o:Option V}{A:Around}{E:Value->Shared->Prop}
theorem Inv.big(I:Inv X pins σ H s):sysModules < s.heap.objs.size:=by
  have h:mainGlobals < s.heap.objs.size:=(I.mod.glob.keeps I.bk).lt
  exact Nat.lt_trans (by decide) h
theorem Ot{Q:Value->Shared->Prop}(hu:A.units + 1 < cLine)(I:Inv X pins σ H s)(g:DGet H a y (some v))(ry:RelV y u)(h:∀ w' s',Inv X pins σ H s'->RelV v w'->Q w' s') :
    wpAny (model X.prog X.w) A (getItem (.ref a) u) Q E s:=by
  rcases g with⟨kvs,k,e,ey,l⟩|⟨kvs,k,b,e,ey,eb,l⟩
  . subst ey
    obtain⟨z,hd,vs,rel,dd⟩:=KC I.hok e
    obtain⟨w',hw,rw'⟩:=RelO.some_of (v:=v) (o:=valueAt vs k) (by rw[l];exact rel.val k)
    exact wpAny_getItem_of (IV ry) dd.mapOf hw (h w' _ (I.tok _) rw')
  . subst ey
    cases(show u=Value.ref b from ry)
    obtain⟨z,hd,xs,rel,dd⟩:=KB I.hok e
    obtain⟨w',hw,rw'⟩:=RelO.some_of (v:=v) (o:=(atKey xs k).map (·.2)) (by rw[l];exact rel.val k)
    obtain⟨p,hp,hp2⟩:=Option.map_eq_some_iff.mp hw
    refine wpAny_getItem_heap (tupleKind_room_in1 hu) (IU I.hok eb) dd hp ?_
    rw[hp2]
    exact h w' _ (I.tok _) rw'
theorem Ww{Q:Value->Shared->Prop}(hu:A.units + 1 < cLine)(I:Inv X pins σ H s)(g:DGet H a y o)(ry:RelV y u)(h:∀ s',Inv X pins σ H s'->Q (.bool o.isSome) s') :
    wpAny (model X.prog X.w) A (compareOp .In u (.ref a)) Q E s:=by
  rcases g with⟨kvs,k,e,ey,l⟩|⟨kvs,k,b,e,ey,eb,l⟩
  . subst ey
    obtain⟨z,hd,vs,rel,dd⟩:=KC I.hok e
    refine wpAny_in_of (IV ry) hd dd.mapOf ?_
    rw[<- (rel.val k).isSome_eq,<- l]
    exact h _ (I.tok _)
  . subst ey
    cases(show u=Value.ref b from ry)
    obtain⟨z,hd,xs,rel,dd⟩:=KB I.hok e
    refine wpAny_in_heap (tupleKind_room_in1 hu) (IU I.hok eb) hd dd ?_
    have q:=(rel.val k).isSome_eq
    rw[Option.isSome_map]at q
    rw[<- q,<- l]
    exact h _ (I.tok _)
theorem JQ{h':Heap}{t':Nat}{ob:HO}(I:Inv X pins σ H s)(mu:Mut (H a))(hs:Heap.SameBut a s.heap h')(he:∃ q,h'.get? a=some q)(new:ObjOk X.prog X.w (upd H a ob) h' a ob) :
    Inv X pins σ (upd H a ob) { s with heap:=h',toks:=t' }:=
  I.write (x:=a) (e:=a) mu (.inl rfl) (λ b q hb z=>(hs.2 b hb).trans z) he new
theorem Op{P:Program}{w:World}{H':Hp}{h':Heap}{kvs:List (Key × V)}{vs:List (Key × Value)}(z:kvs.length <= sizeLine)(hd:(a == sysModules)=false)(rel:KV kvs vs)(dd:h'.DictOf (Bf P w) a vs) :
    ObjOk P w H' h' a (.dK kvs):=⟨z,hd,vs,rel,dd⟩
theorem Os{H':Hp}{Q:Unit->Shared->Prop}(hu:A.units + 1 < cLine)(I:Inv X pins σ H s)(g:DPut H a y v H')(ry:RelV y u)(rv:RelV v r)(h:∀ s',Inv X pins σ H' s'->Q () s') :
    wpAny (model X.prog X.w) A (setItem (.ref a) u r) Q E s:=by
  rcases g with⟨kvs,k,e,ey,l,eH⟩|⟨kvs,k,b,e,ey,eb,l,eH⟩
  . subst ey eH
    obtain⟨z,hd,vs,rel,dd⟩:=Ru I.hok e
    have hz:vs.length <= sizeLine:=by rw[<- rel.length];exact z
    have hl:(Cy kvs k v).length <= sizeLine:=by have:=FM kvs k v;omega
    refine wpAny_setItem_pairs (hsz:=hz) (IV ry) dd λ h' dd' hs=>h _ ?_
    have he:∃ q,h'.get? a=some q:=let ⟨q,_,_,hq,_⟩:=dd';⟨q,hq⟩
    exact JQ I (by rw[e];exact True.intro) hs he (Op hl hd (rel.put k rv) dd')
  . subst ey eH
    cases(show u=Value.ref b from ry)
    obtain⟨z,hd,xs,rel,dd⟩:=WQ I.hok e
    have hz:xs.length <= sizeLine:=by rw[<- Paired.length rel];exact z
    have hl:(Cy kvs k v).length <= sizeLine:=by have:=FM kvs k v;omega
    refine wpAny_setItem_heap (hsz:=hz) (tupleKind_room_in1 hu) (IU I.hok eb) dd λ h' dd' hs=>h _ ?_
    obtain⟨q,es,ep,hq,h2,h3,h4,_,h5⟩:=dd'
    refine JQ I (by rw[e];exact True.intro) hs ⟨q,hq⟩ ⟨hl,hd,_,(rel.put k eb rv).keeps λ c ys ec=>?_,q,es,ep,hq,h2,h3,h4,h5⟩
    rw[AF (W2 ec e (λ z=>nomatch z))]
    exact ec
end
section
variable{X:Cx}{pins:List (Addr × Obj)}{σ:St}{H:Hp}{s:Shared}{a:Addr}{kvs:List (Key × V)}{k:Key}{u:Value}{A:Around}{E:Value->Shared->Prop}
end
noncomputable def RP(i:Expr):Prop:=∀ ov iv,subscripted i false ov iv=operate [ov,iv] (getItem ov iv)
theorem SB{prog:Program}{w:World}{A:Around}{E:Value->Shared->Prop}{s:Shared}{env:Env}{value slice:Expr}{pos:Pos}{T id:String}{Q:Value->Shared->Prop}
    (hl:typeLookup (.type T) "__getitem__"=pure (some (.builtin id))) (hs:RP slice)
    (h:wpAny (model prog w) A (eval value env) (λ o s₁=>wpAny (model prog w) A (eval slice env) (λ i s₂=>s₂.TypeIs o T/\wpAny (model prog w) A (getItem o i) Q E s₂) E s₁) E s) :
    wpAny (model prog w) A (eval (.Subscript value slice pos) env) Q E s:=by
  refine Subscript_ (wpAny_mono h (λ o s₁ h₁=>wpAny_mono h₁ (λ i s₂ h₂=>?_) λ _ _ x=>x) λ _ _ x=>x)
  obtain⟨hT,h₂⟩:=h₂
  unfold subscriptTail
  refine wpAny_bind ?_
  rw[getitemInPython_of_ne hT.not_modules]
  refine wpAny_bind (wpAny_specialOf hT hl ?_)
  have fin:wpAny (model prog w) A (subscripted slice false o i) (λ r s₃=>wpAny (model prog w) A (letTemporaryGo value o r >>= λ _=>pure r) Q E s₃) E s₂:=by
    rw[hs o i]
    exact wpAny_operating (wpAny_mono h₂ (λ r s₃ h₃=>wpAny_bind (wpAny_letTemporaryGo (wpAny_pure h₃))) λ _ _ x=>x)
  first
    | exact wpAny_pure (wpAny_bind fin)
    | exact wpAny_bind (wpAny_pure (wpAny_bind fin))
    | exact wpAny_bind fin
theorem Lv{X:Cx}{pins:List (Addr × Obj)}{σ:St}{H:Hp}{s:Shared}{a:Addr}{y:V}{o:Option V}(I:Inv X pins σ H s)(g:DGet H a y o):s.TypeIs (.ref a) "dict":=by
  rcases g with⟨kvs,k,e,_,_⟩|⟨kvs,k,b,e,_,_,_⟩
  . obtain⟨_,_,vs,_,dd⟩:=KC I.hok e
    exact dd.typeIs
  . obtain⟨_,_,xs,_,dd⟩:=KB I.hok e
    exact dd.typeIs
noncomputable def N3(td ty:TE):TE:=λ σ H Q=>td σ H λ x H1=>ty σ H1 λ y H2=>∃ a v,x=.ref a/\DGet H2 a y (some v)/\Q v H2
noncomputable def Pb(ty td:TE):TE:=λ σ H Q=>ty σ H λ y H1=>td σ H1 λ x H2=>∃ a o,x=.ref a/\DGet H2 a y o/\Q (.bl o.isSome) H2
noncomputable def N6(td ty tv:TE):TS:=λ D σ H=>tv σ H λ v H1=>td σ H1 λ x H2=>ty σ H2 λ y H3=>∃ a H4,x=.ref a/\DPut H3 a y v H4/\D.nx σ H4
section
variable{X:Cx}{o i e value:Expr}{pos pos' tpos:Pos}{td ty tv:TE}
theorem Sx(hu:X.A.units + 1 < cLine)(ho:PE X o td)(hi:PE X i ty)(hs:RP i):PE X (.Subscript o i pos) (N3 td ty):=by
  intro pins s σ H Q I h
  refine SB PySem.F.slot_dict_getitem.lookup hs (thn (ho pins s σ H _ I h) λ u s1 ⟨x,H1,I1,rx,q1⟩=>thn (hi pins s1 σ H1 _ I1 q1) λ iv s2 ⟨y,H2,I2,ry,a,v,ex,g,q2⟩=>?_)
  subst ex
  obtain rfl:u=Value.ref a:=rx
  exact⟨Lv I2 g,Ot hu I2 g ry λ w' s3 I3 rw'=>⟨v,H2,I3,rw',q2⟩⟩
theorem V2(hu:X.A.units + 1 < cLine)(hi:PE X i ty)(ho:PE X o td):PC X .In i o (Pb ty td):=by
  intro pins s σ H Q I h
  refine thn (hi pins s σ H _ I h) λ iv s1 ⟨y,H1,I1,ry,q1⟩=>thn (ho pins s1 σ H1 _ I1 q1) λ u s2 ⟨x,H2,I2,rx,a,ov,ex,g,q2⟩=>?_
  subst ex
  obtain rfl:u=Value.ref a:=rx
  exact Ww hu I2 g ry λ s3 I3=>⟨.bl ov.isSome,H2,I3,rfl,q2⟩
theorem Sl(hu:X.A.units + 1 < cLine)(ho:PE X o td)(hi:PE X i ty)(hv:PE X value tv)(hs:swapsWith value (some (.Subscript o i pos')) pos.line X.env=pure false) :
    PS X (.Assign [.Subscript o i pos'] value pos) (N6 td ty tv):=by
  intro pins s σ H D I h
  refine wpAny_Assign_Subscript (thn (hv pins s σ H _ I h) λ r s1 ⟨v,H1,I1,rv,q1⟩=>thn (ho pins s1 σ H1 _ I1 q1) λ u s2 ⟨x,H2,I2,rx,q2⟩=>thn (hi pins s2 σ H2 _ I2 q2) λ iv s3 ⟨y,H3,I3,ry,a,H4,ex,g,q3⟩=>?_) hs
  subst ex
  obtain rfl:u=Value.ref a:=rx
  exact Os hu I3 g ry rv λ s4 I4=>⟨σ,H4,I4,q3⟩
end
theorem Qw{P:Program}{w:World}{H:Hp}(h:Heap)(hb:sysModules < h.objs.size):ObjOk P w H (h.push { cls:=.type "dict",data:=.dict #[] }) h.objs.size (.dK []):=
  ⟨Nat.zero_le _,beq_eq_false_iff_ne.mpr (Ne.symm (Nat.ne_of_lt hb)),[],.nil,Heap.DictOf.new h⟩
section
variable{X:Cx}{pos:Pos}
end
section
variable{X:Cx}{pins:List (Addr × Obj)}{σ:St}{H:Hp}{s:Shared}{a:Addr}{y d:V}{u r:Value}{o:Option V}{A:Around}{E:Value->Shared->Prop}
end
section
variable{X:Cx}{o e f:Expr}{apos cpos:Pos}{td ty tx:TE}
end
section
variable{X:Cx}{pins:List (Addr × Obj)}{σ:St}{H:Hp}{s:Shared}{a:Addr}{kvs:List (Key × V)}{A:Around}{E:Value->Shared->Prop}
end
section
variable{X:Cx}{pins:List (Addr × Obj)}{σ:St}{H:Hp}{s:Shared}{a:Addr}{y:V}{u:Value}{A:Around}{E:Value->Shared->Prop}
end
end L2
namespace L2
open PySem PySem.Spec PyProof.Rows
section
variable{X:Cx}
end
section
variable{κ:Type}[DecidableEq κ]
end
end L2
namespace L2
open PySem PySem.Spec PyProof.Rows
noncomputable def Af(cells:List (Str × Addr)):List (Str × NameKind)->List (Str × Addr)->List (Str × Addr)
  | [],acc=>acc
  | (n,k) :: r,acc=>if k == .free then Af cells r ((n,(cells.lookup n).getD 0) :: acc)else Af cells r acc
theorem Fh{env:Env}(f:Str × NameKind->List (Str × Addr)->Sem (ForInStep (List (Str × Addr))))
    (hf:∀ name kind cs,f (name,kind) cs=if(kind == NameKind.free)=true then(do let a <- cellOf env name;pure (ForInStep.yield ((name,a) :: cs)))else pure (ForInStep.yield cs)) :
    ∀ (names:List (Str × NameKind)) (acc:List (Str × Addr)),(∀ y ∈ names,y.2=.free->∃ c,env.cells.lookup y.1=some c)->forIn names acc f=pure (Af env.cells names acc)
  | [],acc,_=>rfl
  | (n,k) :: r,acc,hy=>by
    rw[List.forIn_cons,hf]
    have ih:=λ a=>Fh f hf r a λ z hz=>hy z (List.mem_cons_of_mem _ hz)
    by_cases hk:(k == NameKind.free)=true
    . obtain⟨c,hc⟩:=hy (n,k) List.mem_cons_self (by simpa using hk)
      have hc:env.cells.lookup n=some c:=hc
      have e1:cellOf env n=pure c:=by unfold cellOf;rw[hc]
      rw[if_pos hk,e1]
      show forIn r ((n,c) :: acc) f=_
      have e2:Af env.cells ((n,k) :: r) acc=Af env.cells r ((n,c) :: acc):=by
        rw[Af,if_pos hk,hc]
        rfl
      rw[ih,e2]
    . rw[if_neg hk]
      show forIn r acc f=_
      have e2:Af env.cells ((n,k) :: r) acc=Af env.cells r acc:=by
        rw[Af,if_neg hk]
      rw[ih,e2]
theorem DY{scope:Scope}{env:Env}(h:∀ y ∈ scope.names,y.2=.free->∃ c,env.cells.lookup y.1=some c):closureFor scope env=pure (Af env.cells scope.names []):=by
  unfold closureFor
  dsimp only
  rw[Fh _ (λ name kind cs=>rfl) scope.names [] h]
  rfl
theorem E3{cells:List (Str × Addr)}:∀ {names:List (Str × NameKind)} {acc:List (Str × Addr)},(∀ y ∈ names,y.2=.free->∃ c,cells.lookup y.1=some c)->(∀ x c,acc.lookup x=some c->cells.lookup x=some c) ->
    ∀ x c,(Af cells names acc).lookup x=some c->cells.lookup x=some c
  | [],_,_,ha,x,c,e=>ha x c e
  | (n,k) :: r,acc,hy,ha,x,c,e=>by
    unfold Af at e
    have hr:∀ y ∈ r,y.2=.free->∃ c,cells.lookup y.1=some c:=λ z hz=>hy z (List.mem_cons_of_mem _ hz)
    by_cases hk:(k == NameKind.free)=true
    . rw[if_pos hk]at e
      refine E3 hr (λ z d q=>?_) x c e
      obtain⟨c0,hc0⟩:=hy (n,k) List.mem_cons_self (by simpa using hk)
      have hc0:cells.lookup n=some c0:=hc0
      rw[List.lookup_cons]at q
      by_cases hz:(z == n)=true
      . rw[hz,hc0]at q
        have:z=n:=by simpa using hz
        subst this
        simpa [hc0]using q
      . have hz':(z == n)=false:=by simpa using hz
        rw[hz']at q
        exact ha z d q
    . rw[if_neg hk]at e
      exact E3 hr ha x c e
theorem DO{cells:List (Str × Addr)}:∀ {names:List (Str × NameKind)} {acc:List (Str × Addr)} {x:Str},((acc.lookup x).isSome=true ∨ (x,NameKind.free) ∈ names)->((Af cells names acc).lookup x).isSome=true
  | [],_,_,h=>h.elim id λ z=>by cases z
  | (n,k) :: r,acc,x,h=>by
    unfold Af
    by_cases hk:(k == NameKind.free)=true
    . rw[if_pos hk]
      refine DO ?_
      by_cases hx:(x == n)=true
      . exact .inl (by rw[List.lookup_cons,hx];rfl)
      . have hx':(x == n)=false:=by simpa using hx
        rcases h with h|h
        . exact .inl (by rw[List.lookup_cons,hx'];exact h)
        . rcases List.mem_cons.mp h with h|h
          . cases h;simp at hx
          . exact .inr h
    . rw[if_neg hk]
      refine DO ?_
      rcases h with h|h
      . exact .inl h
      . rcases List.mem_cons.mp h with h|h
        . cases h;simp at hk
        . exact .inr h
noncomputable def Ch:Nat->List (Str × NameKind)->List (Str × Addr)
  | _,[]=>[]
  | n,(x,k) :: r=>if k == .cell then Ch (n + 1) r ++ [(x,n)]else Ch n r
theorem C5:∀ (names:List (Str × NameKind)) (n:Nat) (acc:List (Str × Addr)),cellsFrom n names acc=Ch n names ++ acc
  | [],_,_=>rfl
  | (x,k) :: r,n,acc=>by
    unfold cellsFrom Ch
    by_cases hk:(k == NameKind.cell)=true
    . rw[if_pos hk,if_pos hk,C5 r (n + 1),List.append_assoc];rfl
    . rw[if_neg hk,if_neg hk,C5 r n]
theorem HZ:∀ (names:List (Str × NameKind)) (n:Nat) (x:Str) (c:Addr),(Ch n names).lookup x=some c->(x,NameKind.cell) ∈ names
  | [],_,_,_,e=>by cases e
  | (y,k) :: r,n,x,c,e=>by
    unfold Ch at e
    by_cases hk:(k == NameKind.cell)=true
    . rw[if_pos hk]at e
      have hk':k=.cell:=by simpa using hk
      rw[List.lookup_append]at e
      cases q:(Ch (n + 1) r).lookup x with
      | some d=>exact List.mem_cons_of_mem _ (HZ r _ x d q)
      | none=>
        rw[q]at e
        simp only[Option.none_or,List.lookup_cons]at e
        by_cases hx:(x == y)=true
        . have:x=y:=by simpa using hx
          subst this;subst hk'
          exact List.mem_cons_self
        . have hx':(x == y)=false:=by simpa using hx
          rw[hx']at e;cases e
    . rw[if_neg hk]at e
      exact List.mem_cons_of_mem _ (HZ r n x c e)
theorem Ha:∀ (names:List (Str × NameKind)) (n:Nat) (x:Str),(x,NameKind.cell) ∈ names->∃ c,(Ch n names).lookup x=some c
  | [],_,_,h=>by cases h
  | (y,k) :: r,n,x,h=>by
    unfold Ch
    by_cases hk:(k == NameKind.cell)=true
    . rw[if_pos hk,List.lookup_append]
      rcases List.mem_cons.mp h with h|h
      . obtain⟨rfl,rfl⟩:=Prod.mk.inj h
        cases q:(Ch (n + 1) r).lookup x with
        | some d=>exact⟨d,rfl⟩
        | none=>exact⟨n,by simp[List.lookup_cons]⟩
      . obtain⟨c,hc⟩:=Ha r (n + 1) x h
        exact⟨c,by rw[hc];rfl⟩
    . rw[if_neg hk]
      rcases List.mem_cons.mp h with h|h
      . cases h;simp at hk
      . exact Ha r n x h
noncomputable def Nl(scope:Scope)(C:Addr)(env:Env):Env:=
  { scope:=relabel scope env,locals:=C,globals:=env.globals,cells:=cellsFrom (C + 1) scope.names (Af env.cells scope.names []),qual:=env.qual,func:=none,code:=env.code,frame:=env.frame,builtins:=env.builtins }
theorem JG{M:Model}{A:Around}{E:Value->Shared->Prop}{s:Shared}{scope:Scope}{cl:List (Str × Addr)}{env:Env}{Q:Env->Shared->Prop}
    (hQ:∀ h',(∀ b o,s.heap.get? b=some o->h'.get? b=some o)->h'.Ns s.heap.objs.size (λ _=>none)->(∀ x c,(Ch (s.heap.objs.size + 1) scope.names).lookup x=some c->h'.IsCell c none/\s.heap.objs.size < c) ->
      ((Ch (s.heap.objs.size + 1) scope.names).Pairwise λ x y=>x.2 ≠ y.2) ->
      Q { scope:=scope,locals:=s.heap.objs.size,globals:=env.globals,cells:=cellsFrom (s.heap.objs.size + 1) scope.names cl,qual:=env.qual,func:=none,code:=env.code,frame:=env.frame,builtins:=env.builtins } { s with heap:=h' }) :
    wpAny M A (newFunctionEnv scope env.globals cl [] env.qual none .none (some env)) Q E s:=by
  simp only[newFunctionEnv,Option.isSome_some,if_true]
  refine wpAny_bind (wpAny_alloc ?_)
  refine wpAny_bind (wpAny_layCells _ (λ name kind cells=>by cases hkc:kind == NameKind.cell <;> simp[hkc]) _ _ _ _ ?_)
  have ok:=cellsFrom_ok scope.names (s.heap.push { cls:=.type "dict",data:=.dict #[] }) (s.heap.objs.size + 1) [] ⟨λ _ _ hm=>(nomatch hm),List.Pairwise.nil⟩ (by rw[Heap.size_push];exact Nat.le_refl _)
  rw[Heap.size_push,C5,List.append_nil]at ok
  rw[show({ s with heap:=s.heap.push { cls:=.type "dict",data:=.dict #[] } }:Shared).heap.objs.size=s.heap.objs.size + 1 from Heap.size_push ..]
  refine wpAny_bind (wpAny_pure (wpAny_pure ?_))
  exact hQ _ (λ b o e=>pushCells_keeps _ _ b o (Heap.get?_push_of_some _ e)) ((Heap.Ns.new s.heap (.type "dict")).keeps (pushCells_keeps _ _)) (λ x c hc=>⟨(ok.empty x c (mem_of_lookup hc)).1,(ok.empty x c (mem_of_lookup hc)).2⟩) ok.apart
end L2
namespace L2
open PySem PySem.Spec PyProof.Rows
theorem Jd:∀ {names:List (Str × NameKind)} {x:Str} {k k':NameKind},(names.map (·.1)).Nodup->(x,k) ∈ names->(x,k') ∈ names->k=k'
  | [],_,_,_,_,h,_=>by cases h
  | (y,q) :: r,x,k,k',nd,h,h'=>by
    have nd:(y :: r.map (·.1)).Nodup:=nd
    obtain⟨n1,n2⟩:=List.nodup_cons.mp nd
    have out:∀ {z:NameKind},(y,z) ∈ r->False:=λ m=>n1 (List.mem_map.mpr ⟨_,m,rfl⟩)
    rcases List.mem_cons.mp h with e|e <;> rcases List.mem_cons.mp h' with e'|e'
    . cases e;cases e';rfl
    . cases e;exact(out e').elim
    . cases e';exact(out e).elim
    . exact Jd n2 e e'
theorem GE{env:Env}{x:Str}:∀ {names:List (Str × NameKind)},names.lookup x=some .free ->
    (names.map λ(n,k)=>if(k == NameKind.free && env.scope.kind == .function && env.kindOf n == some .cell)then(n,NameKind.cell)else(n,k)).lookup x=some .cell ∨
    (names.map λ(n,k)=>if(k == NameKind.free && env.scope.kind == .function && env.kindOf n == some .cell)then(n,NameKind.cell)else(n,k)).lookup x=some .free
  | [],h=>by simp at h
  | (n,k) :: r,h=>by
    have ih:=@GE env x r
    show List.lookup x ((if(k == NameKind.free && env.scope.kind == .function && env.kindOf n == some .cell)=true then(n,NameKind.cell)else(n,k)) :: _)=_ ∨ List.lookup x ((if(k == NameKind.free && env.scope.kind == .function && env.kindOf n == some .cell)=true then(n,NameKind.cell)else(n,k)) :: _)=_
    cases hx:x == n with
    | true=>
      simp only[List.lookup_cons,hx]at h
      cases h
      by_cases hc:(NameKind.free == NameKind.free && env.scope.kind == .function && env.kindOf n == some .cell)=true
      . rw[if_pos hc];exact .inl (by simp only[List.lookup_cons,hx])
      . rw[if_neg hc];exact .inr (by simp only[List.lookup_cons,hx])
    | false=>
      simp only[List.lookup_cons,hx]at h
      by_cases hc:(k == NameKind.free && env.scope.kind == .function && env.kindOf n == some .cell)=true
      . rw[if_pos hc];simp only[List.lookup_cons,hx];exact ih h
      . rw[if_neg hc];simp only[List.lookup_cons,hx];exact ih h
theorem GK{env:Env}{x:Str}:∀ {names:List (Str × NameKind)},
    ((names.map λ(n,k)=>if(k == NameKind.free && env.scope.kind == .function && env.kindOf n == some .cell)then(n,NameKind.cell)else(n,k)).lookup x=some .cell ∨
    (names.map λ(n,k)=>if(k == NameKind.free && env.scope.kind == .function && env.kindOf n == some .cell)then(n,NameKind.cell)else(n,k)).lookup x=some .free) ->
    names.lookup x=some .cell ∨ names.lookup x=some .free
  | [],h=>by simp at h
  | (n,k) :: r,h=>by
    have ih:=@GK env x r
    have h:List.lookup x ((if(k == NameKind.free && env.scope.kind == .function && env.kindOf n == some .cell)=true then(n,NameKind.cell)else(n,k)) :: _)=_ ∨ List.lookup x ((if(k == NameKind.free && env.scope.kind == .function && env.kindOf n == some .cell)=true then(n,NameKind.cell)else(n,k)) :: _)=_:=h
    cases hx:x == n with
    | true=>
      by_cases hc:(k == NameKind.free && env.scope.kind == .function && env.kindOf n == some .cell)=true
      . have hk:k=.free:=by
          have:=(Bool.and_eq_true _ _ ▸ (Bool.and_eq_true _ _ ▸ hc).1:(k == NameKind.free)=true/\_).1
          simpa using this
        exact .inr (by simp only[List.lookup_cons,hx,hk])
      . rw[if_neg hc]at h
        simp only[List.lookup_cons,hx]at h ⊢
        exact h
    | false=>
      simp only[List.lookup_cons,hx]
      refine ih ?_
      by_cases hc:(k == NameKind.free && env.scope.kind == .function && env.kindOf n == some .cell)=true
      . rw[if_pos hc]at h;simp only[List.lookup_cons,hx]at h;exact h
      . rw[if_neg hc]at h;simp only[List.lookup_cons,hx]at h;exact h
noncomputable def cCx(X:Cx)(N':List Str)(scope:Scope)(s:Shared)(H:Hp)(ex:List Addr):Cx:=
  { X with N:=N',s₀:=s,H₀:=H,env:=Nl scope s.heap.objs.size X.env,outer:=X.stack,ex:=ex,fn:=λ x=>decide ((x,NameKind.cell) ∈ scope.names),pn:=[],xe:=λ _ _=>False }
structure CSc(X:Cx)(scope:Scope)(fr:List Str)(ix:List Nat):Prop where
  kind:scope.kind=.function
  nd:(scope.names.map (·.1)).Nodup
  free:(scope.names.all λ y=>y.2 != .free || X.env.kindOf y.1 == some .cell || X.env.kindOf y.1 == some .free)=true
  frs:(fr.all λ x=>scope.names.lookup x == some .free)=true
  ixs:fr.map some=ix.map λ i=>X.N[i]?
  loc:(scope.names.all λ y=>y.2 != .local || scope.names.lookup y.1 == some .local)=true
noncomputable def GB(n:Nat)(ix:List Nat)(σ:St):St:=List.replicate n none ++ ix.map λ i=>(σ[i]?).join
section
variable{X:Cx}{scope:Scope}{fr loc:List Str}{ix:List Nat}{pins:List (Addr × Obj)}{σ:St}{H:Hp}{s:Shared}
theorem CSc.outer(S:CSc X scope fr ix){y:Str × NameKind}(hy:y ∈ scope.names)(e:y.2=.free):X.env.kindOf y.1=some .cell ∨ X.env.kindOf y.1=some .free:=by
  have h:=List.all_eq_true.mp S.free y hy
  rw[e]at h
  simpa using h
theorem CSc.clos(S:CSc X scope fr ix)(ok:X.Ok):∀ y ∈ scope.names,y.2=.free->∃ c,X.env.cells.lookup y.1=some c:=λ y hy e=>ok.has y.1 (S.outer hy e)
theorem DW(S:CSc X scope fr ix)(ok:X.Ok){n:Nat}{x:Str}{c:Addr}(e:(cellsFrom n scope.names (Af X.env.cells scope.names [])).lookup x=some c) :
    (Ch n scope.names).lookup x=some c ∨ X.env.cells.lookup x=some c:=by
  rw[C5,List.lookup_append]at e
  cases q:(Ch n scope.names).lookup x with
  | some d=>rw[q]at e;exact .inl e
  | none=>
    rw[q]at e
    exact .inr (E3 (S.clos ok) (λ _ _ z=>by simp at z) x c e)
theorem Hf(S:CSc X scope fr ix)(I:Inv X pins σ H s){ex:List Addr}(hex:∀ b ∈ ex,FpOk X pins H b){h':Heap}(hk:∀ b o,s.heap.get? b=some o->h'.get? b=some o)(hn:h'.Ns s.heap.objs.size λ _=>none)
    (ho:∀ x c,(Ch (s.heap.objs.size + 1) scope.names).lookup x=some c->h'.IsCell c none/\s.heap.objs.size < c) (ha:(Ch (s.heap.objs.size + 1) scope.names).Pairwise λ x y=>x.2 ≠ y.2) (hlt:∀ b ∈ ex,b < s.heap.objs.size) :
    Inv (cCx X (loc ++ fr) scope s H ex) [] (GB loc.length ix σ) H { s with heap:=h' }:=by
  have old:∀ x c,X.env.cells.lookup x=some c->c < s.heap.objs.size:=λ x c e=>let ⟨v,z⟩:=I.cell x c e;z.lt
  have lenix:fr.length=ix.length:=by simpa using congrArg List.length S.ixs
  refine⟨⟨I.ok.mod,?_,I.ok.glob,I.ok.blt,Nat.le_refl _,?_,?_,?_,I.ok.hd,I.ok.frames,.inl rfl,?_,I.bs,Nat.le_trans I.ok.bsz I.sz,?_,?_,I.stack,I.stkFree⟩,rfl,I.bare,Un.kept hk,⟨_,hn,?_⟩,?_,I.hok.fresh (Nat.le_refl _),?_,?_,I.hok.kept hk,?_⟩
  . exact S.kind
  . intro x y c e1 e2
    rcases DW S I.ok e1 with a|a <;> rcases DW S I.ok e2 with b|b
    . exact name_of_addr ha (PySem.mem_of_lookup a) (PySem.mem_of_lookup b)
    . exact absurd (Nat.lt_trans (ho x c a).2 (old y c b)) (Nat.lt_irrefl _)
    . exact absurd (Nat.lt_trans (ho y c b).2 (old x c a)) (Nat.lt_irrefl _)
    . exact I.ok.inj x y c a b
  . intro x hx
    rcases GK hx with e|e
    . exact Option.isSome_iff_exists.mp (PySem.W.cellsFrom_some _ _ _ (.inl e))
    . exact Option.isSome_iff_exists.mp (PySem.W.cellsFrom_some _ _ _ (.inr (DO (.inr (PySem.mem_of_lookup e)))))
  . intro x c hf e
    have hf:(x,NameKind.cell) ∈ scope.names:=of_decide_eq_true hf
    obtain⟨d,hd⟩:=Ha scope.names (s.heap.objs.size + 1) x hf
    have e':(cellsFrom (s.heap.objs.size + 1) scope.names (Af X.env.cells scope.names [])).lookup x=some c:=e
    rw[C5,List.lookup_append,hd]at e'
    cases e'
    exact Nat.le_of_lt (ho x _ hd).2
  . intro b hb
    refine⟨Nat.ne_of_lt (hlt b hb),λ x c e z=>?_⟩
    rcases DW S I.ok e with a|a
    . exact absurd (Nat.lt_trans (ho x c a).2 (by rw[z];exact hlt b hb)) (Nat.lt_irrefl _)
    . exact(hex b hb).2.2.2.2.1 x c a z
  . intro b o e hb
    rcases(hex b hb).2.2.2.1 with z|z
    . exact I.ok.noex b o e z
    . exact absurd (Nat.lt_of_lt_of_le (Heap.lt_size (I.ok.bs b o e).1) z) (Nat.lt_irrefl _)
  . intro b hb hf
    rcases List.mem_cons.mp (I.stkSub b hf)with z|z
    . exact(hex b hb).2.1 z
    . exact(hex b hb).2.2.1 z
  . intro i x v e1 e2 e3
    have e1:(loc ++ fr)[i]? = some x:=e1
    unfold GB at e2
    by_cases hi:i < loc.length
    . rw[List.getElem?_append_left (by simpa using hi),List.getElem?_replicate]at e2
      split at e2 <;> cases e2
    . have hi':loc.length <= i:=Nat.not_lt.mp hi
      rw[List.getElem?_append_right (by simpa using hi')]at e2
      rw[List.getElem?_append_right hi']at e1
      rw[List.length_replicate,List.getElem?_map]at e2
      generalize hj:i - loc.length=j at e1 e2
      have e4:(fr.map some)[j]? = some (some x):=by rw[List.getElem?_map,e1];rfl
      rw[S.ixs,List.getElem?_map]at e4
      cases q:ix[j]? with
      | none=>rw[q]at e2;cases e2
      | some k=>
        rw[q]at e2 e4
        have e2:(σ[k]?).join=some v:=Option.some.inj e2
        have e4:X.N[k]? = some x:=Option.some.inj e4
        have e5:σ[k]? = some (some v):=by
          cases w:σ[k]? with
          | none=>rw[w]at e2;cases e2
          | some z=>rw[w]at e2;simpa using e2
        have hfx:=List.all_eq_true.mp S.frs x (List.mem_of_getElem? e1)
        have hfx:scope.names.lookup x=some .free:=by simpa using hfx
        have hmem:=PySem.mem_of_lookup hfx
        have hout:=S.outer hmem rfl
        obtain⟨m,hm,hl⟩:=I.loc
        obtain⟨u,r,l⟩:=hl k x v e4 e5 (.inr hout)
        refine⟨u,r,.inr ⟨GE hfx,?_⟩⟩
        rcases l with⟨kk,_⟩|⟨kk,c,ec,z⟩
        . rcases hout with w|w
          . rw[kk]at w;cases w
          . rw[kk]at w;cases w
        . have own0:(Ch (s.heap.objs.size + 1) scope.names).lookup x=none:=by
            cases w:(Ch (s.heap.objs.size + 1) scope.names).lookup x with
            | none=>rfl
            | some d=>exact absurd (Jd S.nd (HZ _ _ _ _ w) hmem) (by decide)
          have hc:(Af X.env.cells scope.names []).lookup x=some c:=by
            obtain⟨d,hd⟩:=Option.isSome_iff_exists.mp (DO (cells:=X.env.cells) (acc:=[]) (.inr hmem))
            have:=E3 (S.clos I.ok) (λ _ _ z=>by simp at z) x d hd
            rw[ec]at this;cases this
            exact hd
          refine⟨c,?_,z.keeps hk⟩
          show(cellsFrom (s.heap.objs.size + 1) scope.names (Af X.env.cells scope.names [])).lookup x=some c
          rw[C5,List.lookup_append,own0,hc]
          rfl
  . intro x c e
    rcases DW S I.ok e with a|a
    . exact⟨_,(ho x c a).1⟩
    . obtain⟨v,z⟩:=I.cell x c a
      exact⟨v,z.keeps hk⟩
  . intro x c e
    rcases DW S I.ok e with a|a
    . exact I.hok.fresh (Nat.le_of_lt (ho x c a).2)
    . exact I.freeC x c a
  . intro p hp
    cases hp
  . unfold GB
    show _=(loc ++ fr).length
    simp[lenix]
end
end L2
namespace L2
open PySem PySem.Spec PyProof.Rows
section
variable{prog:Program}{w:World}{A:Around}{R:Result->Shared->Prop}{s:Shared}
theorem GZ{elt target iter:Expr}{ifs:List Expr}{scope:Scope}{pos:Pos}{it acc:Value}{env:Env}(I:Nat->Shared->Prop)
    (turn:∀ n s,I n s->wpAny (model prog w) A (pyNext it) (λ r s₁=>match r with
      | none=>R (.ok .next) s₁
      | some v=>wpAny (model prog w) A (letOwnedTupleGo target it v) (λ _ s₁=>wpAny (model prog w) A (assign target env v) (λ _ s₂=>
          wpAny (model prog w) A (forIn ifs true λ c r=>if r=true then do let ok <- isTrue c env (eval c env);pure (ForInStep.yield ok)else pure (ForInStep.yield r)) (λ ok s₃=>
            if ok=true then wpAny (model prog w) A (eval elt env) (λ x s₄=>
              wpAny (model prog w) A (call (.builtin "list.append") [acc,x]) (λ _ s₅=>∃ m,m < n/\I m s₅) (λ _ _=>False) s₄) (λ _ _=>False) s₃
            else ∃ m,m < n/\I m s₃) (λ _ _=>False) s₂) (λ _ _=>False) s₁) (λ _ _=>False) s₁) (λ _ _=>False) s)
    (n:Nat) (h:I n s) :
    codeAny (model prog w) A (.compLoop (.ListComp elt [⟨target,iter,ifs,0⟩] scope pos) 0 it acc env) R s:=by
  refine codeAny_loop rfl I (λ n s hI=>?_) n h
  show wpAny _ A ((compTurn (.ListComp elt [⟨target,iter,ifs,0⟩] scope pos) 0 it acc env).onRaise (λ x=>do noteFrame x env;theTreesLotGoes x)) _ _ s
  refine wpAny_noted ?_
  rw[compTurn_list]
  refine wpAny_bind (wpAny_standAt (wpAny_bind (wpAny_mono (turn n s hI) (λ r s₁ h₁=>?_) λ _ _ h'=>h'.elim)))
  cases r with
  | none=>exact wpAny_pure h₁
  | some v=>
    refine wpAny_bind (wpAny_mono h₁ (λ _ s₁ h₁=>?_) λ _ _ h'=>h'.elim)
    refine wpAny_bind (wpAny_mono h₁ (λ _ s₂ h₂=>wpAny_bind (wpAny_mono h₂ (λ ok s₃ h₃=>?_) λ _ _ h'=>h'.elim)) λ _ _ h'=>h'.elim)
    cases ok with
    | false=>exact wpAny_pure ⟨rfl,h₃⟩
    | true=>
      exact wpAny_bind (wpAny_bind (wpAny_mono h₃ (λ x s₄ h₄=>wpAny_bind (wpAny_mono h₄ (λ _ s₅ h₅=>wpAny_pure (wpAny_pure ⟨rfl,h₅⟩)) λ _ _ h'=>h'.elim)) λ _ _ h'=>h'.elim))
end
noncomputable def PF(X:Cx)(ifs:List Expr)(t:TT):Prop:=
  ∀ (pins:List (Addr × Obj)) (s:Shared) (σ:St) (H:Hp) (Q:Bool->Hp->Prop),Inv X pins σ H s->t σ H Q ->
    wpAny (model X.prog X.w) X.A (forIn ifs true λ c r=>if r=true then do let ok <- isTrue c X.env (eval c X.env);pure (ForInStep.yield ok)else pure (ForInStep.yield r)) (TP X pins σ Q) X.xe s
noncomputable def PN:TT:=λ _ H Q=>Q true H
theorem Us{X:Cx}:PF X [] PN:=λ pins s σ H Q I h=>wpAny_tests_nil ⟨H,I,h⟩
theorem Ur{X:Cx}{c:Expr}{t:TT}(h:PT X c t):PF X [c] t:=λ pins s σ H Q I q=>wpAny_tests_one (h pins s σ H Q I q)
noncomputable def Ry(J:It)(D:Addr)(σ0:St)(H0:Hp)(g:TG)(tf:TT)(te:TE)(Q:VK):Prop:=∃ W:Nat->Nat->St->List V->Hp->Prop,
  (∃ m,W 0 m σ0 [] (upd H0 D (.lst [])))/\∀ i m σ ys H,W i m σ ys H->H D=some (.lst ys) /\
    ((J.stop i H/\Q (.ref D) H) ∨ (J.go i H/\ys.length < sizeLine/\∃ N:St->List V->Hp->Prop,(∀ σ' ys' H',N σ' ys' H'->∃ m',m' < m/\W (i + 1) m' σ' ys' H') /\
      ∀ x H',J.yld i H x H'->g x σ H' λ σ2 H2=>tf σ2 H2 λ b H3=>
        if b=true then te σ2 H3 λ v H4=>H4 D=some (.lst ys)/\N σ2 (ys ++ [v]) (upd H4 D (.lst (ys ++ [v])))
        else N σ2 ys H3))
noncomputable def Ht(n:Nat)(ix:List Nat)(wi:TI)(g:TG)(tf:TT)(te:TE):TE:=λ σ H Q=>wi σ H λ J H1=>∀ D,H1 D=none->Ry J D (GB n ix σ) H1 g tf te Q
section
variable{X:Cx}
theorem P4{pins:List (Addr × Obj)}{σ:St}{H:Hp}{s:Shared}{D:Addr}{ys:List V}{x:V}{u:Value}{Q:Value->Shared->Prop}{E:Value->Shared->Prop}(I:Inv X pins σ H s)(hD:H D=some (.lst ys))(r:RelV x u)(hz:ys.length < sizeLine)
    (h:∀ v s',Inv X pins σ (upd H D (.lst (ys ++ [x]))) s'->Q v s'):wpAny (model X.prog X.w) X.A (call (.builtin "list.append") [.ref D,u]) Q E s:=by
  have I':=I.wish λ _ _=>False
  have q:=Bq (X:=X.wish λ _ _=>False) pins s σ H (.ref D) [x] (.ref D) [u] (λ v H'=>H'=upd H D (.lst (ys ++ [x]))) I' rfl (.cons r .nil) ⟨D,ys,x,rfl,rfl,hD,hz,rfl⟩
  refine wpAny_mono q (λ v s' ⟨v',H',I2,_,e⟩=>?_) λ _ _ z=>False.elim z
  subst e
  exact h v s' I2.unwish
theorem Sy{elt tg iter:Expr}{ifs:List Expr}{scope:Scope}{pos:Pos}{loc fr:List Str}{ix:List Nat}{wi:TI}{g:TG}{tf:TT}{te:TE}(hc:X.calm=true)(S:CSc X scope fr ix)(hi:PI X tg iter wi)
    (hg:∀ s H ex,PG (cCx X (loc ++ fr) scope s H ex) tg g) (hf:∀ s H ex,PF (cCx X (loc ++ fr) scope s H ex) ifs tf) (he:∀ s H ex,PE (cCx X (loc ++ fr) scope s H ex) elt te)
    (hs:∀ x,foldedSetIterable iter X.env x=pure x:=by intro _;rfl):PE X (.ListComp elt [⟨tg,iter,ifs,0⟩] scope pos) (Ht loc.length ix wi g tf te):=by
  intro pins s σ H Q I h
  rw[eval_ListComp]
  have hnames:∀ y ∈ scope.names,y.2=.local->scope.names.lookup y.1=some .local:=λ y hy e=>by
    have:=List.all_eq_true.mp S.loc y hy
    rw[e]at this
    simpa using this
  refine wpAny_comprehension_free (use:=none) rfl hs (DY (S.clos I.ok)) S.kind hnames (thn (hi pins s σ H _ I h) λ v s1 h1=>thn h1 λ itv s2 h2=>?_)
  obtain⟨it,fp,tn,J,H2,rfl,I2,T,st2,f2,hW⟩:=h2
  refine wpAny_newObj_type ?_
  have fresh2:H2 s2.heap.objs.size=none:=I2.hok.fresh (Nat.le_refl _)
  have I3:=I2.lnew (its:=[]) (ys:=[]) (t':=s2.toks) .nil (Nat.zero_le _)
  obtain⟨W,⟨m0,w0⟩,turn⟩:=hW s2.heap.objs.size fresh2
  have lt2:∀ b ∈ fp,b < s2.heap.objs.size:=λ b hb=>let ⟨o,e,_⟩:=T.obj 0 _ st2 b hb;Heap.lt_size e
  have f3:∀ b ∈ fp,FpOk X pins (upd H2 s2.heap.objs.size (.lst [])) b:=λ b hb=>⟨by rw[AF (Nat.ne_of_lt (lt2 b hb))];exact(f2 b hb).1,(f2 b hb).2⟩
  have lt3:∀ b ∈ fp,b < (s2.heap.push { cls:=.type "list",data:=.seq ([]:List Value).toArray }).objs.size:=λ b hb=>by rw[Heap.size_push];exact Nat.lt_succ_of_lt (lt2 b hb)
  generalize hs3:({ s2 with heap:=s2.heap.push { cls:=.type "list",data:=.seq ([]:List Value).toArray } }:Shared)=s3 at *
  have lt3:∀ b ∈ fp,b < s3.heap.objs.size:=by rw[<- hs3];exact lt3
  have st3:tn 0 s3.heap:=T.keep _ _ _ st2 λ b hb o e=>by rw[<- hs3];exact Heap.get?_push_of_some _ e
  refine JG λ h' hk hn ho ha=>?_
  have I4:=Hf (loc:=loc) S I3 f3 hk hn ho ha lt3
  have fpX:∀ {H':Hp},(∀ b ∈ fp,H' b=none)->∀ b ∈ fp,FpOk (cCx X (loc ++ fr) scope s3 (upd H2 s2.heap.objs.size (.lst [])) fp) [] H' b:=λ hn b hb=>
    ⟨hn b hb,(I4.ok.exf b hb).1,I4.ok.exfs b hb,.inl hb,(I4.ok.exf b hb).2,λ p hp=>by cases hp⟩
  have loop:codeAny (model X.prog X.w) X.A (.compLoop (.ListComp elt [⟨tg,iter,ifs,0⟩] scope pos) 0 (.ref it) (.ref s2.heap.objs.size) (Nl scope s3.heap.objs.size X.env))
      (compPost (model X.prog X.w) X.A X.xe none (EP X pins σ Q) (.ref s2.heap.objs.size) s3.heap.objs.size) { s3 with heap:=h' }:=by
    refine GZ (λ n s'=>∃ i σ' ys H',Inv (cCx X (loc ++ fr) scope s3 (upd H2 s2.heap.objs.size (.lst [])) fp) [] σ' H' s'/\tn i s'.heap/\(∀ b ∈ fp,H' b=none)/\W i n σ' ys H') ?_ m0
      ⟨0,_,[],_,I4,T.keep _ _ _ st3 λ b hb o e=>hk b o e,λ b hb=>(f3 b hb).1,w0⟩
    rintro n s5 ⟨i,σ5,ys,H5,I5,st5,fr5,w5⟩
    obtain⟨hD,w5⟩:=turn i n σ5 ys H5 w5
    rcases w5 with⟨stop,qn⟩|⟨go,hz,N,hN,step⟩
    . refine thn (T.done (cCx X (loc ++ fr) scope s3 (upd H2 s2.heap.objs.size (.lst [])) fp) rfl rfl rfl hc i [] s5 σ5 H5 _ I5 (fpX fr5) st5 stop) λ r s6 ⟨hr,I6⟩=>?_
      subst hr
      obtain⟨m,hm,_⟩:=I6.loc
      refine⟨m,hm,λ h'' hs=>?_⟩
      have neC:∀ b o,s3.heap.get? b=some o->b ≠ s3.heap.objs.size:=λ b o e=>Nat.ne_of_lt (Heap.lt_size e)
      have un:=I6.base
      refine⟨.ref s2.heap.objs.size,H5,I3.call' (s':={ s6 with heap:=h'' }) (ch:=fp) I6.os ⟨λ b o e n hb hx=>?_,λ b o e n hb hx=>?_,un.free,λ b o e hx=>?_,un.tups,un.frzs,un.tbls⟩ ?_ I6.bare ?_,rfl,qn⟩
      . exact(hs.2 b (neC b o e)).trans (un.keep b o e n hb hx)
      . obtain⟨sl,q⟩:=un.slot b o e n hb hx
        exact⟨sl,(hs.2 b (neC b o e)).trans q⟩
      . obtain⟨o',q⟩:=un.there b o e hx
        exact⟨o',(hs.2 b (neC b o e)).trans q⟩
      . intro b ob e
        have hfree:H5 s3.heap.objs.size=none:=I6.free
        refine(I6.hok b ob e).stay (λ c w' hc q=>(hs.2 c ?_).trans q) (λ _ q=>q) λ _ _ q=>q
        intro z
        rcases hc with hc|hc
        . rw[<- hc,z,hfree]at e;cases e
        . rw[z,hfree]at hc;cases hc
      . intro b hb
        obtain⟨_,a2,_,a4,a5,a6⟩:=f3 b hb
        exact⟨a4,a2,a5,a6⟩
    . refine thn (T.item (cCx X (loc ++ fr) scope s3 (upd H2 s2.heap.objs.size (.lst [])) fp) rfl rfl rfl hc i [] s5 σ5 H5 _ I5 (fpX fr5) st5 go) λ r s6 ⟨u,hr,h6⟩=>?_
      subst hr
      refine thn h6 λ _ s7 ⟨x,H7,I7,r7,y7,st7,fr7⟩=>?_
      have I7':=I7.pinned (fpX fr7) (T.obj _ _ st7)
      have keepI:∀ {σ8:St} {H8:Hp} {s8:Shared},Inv (cCx X (loc ++ fr) scope s3 (upd H2 s2.heap.objs.size (.lst [])) fp) ([] ++ Ei fp s7.heap) σ8 H8 s8->tn (i + 1) s8.heap/\∀ b ∈ fp,H8 b=none:=λ {σ8 H8 s8} I8=>by
        refine⟨T.keep _ _ _ st7 λ b hb o e=>(I8.pin (b,o) (List.mem_append_right _ (List.mem_append_right _ (CH hb e)))).1,λ b hb=>?_⟩
        obtain⟨o,e,d⟩:=T.obj _ _ st7 b hb
        exact(I8.pin (b,o) (List.mem_append_right _ (List.mem_append_right _ (CH hb e)))).2.1
      refine thn (hg s3 (upd H2 s2.heap.objs.size (.lst [])) fp _ s7 σ5 H7 x u _ I7' r7 (step x H7 y7)) λ _ s8 ⟨σ8,H8,I8,q8⟩=>?_
      refine thn (hf s3 (upd H2 s2.heap.objs.size (.lst [])) fp _ s8 σ8 H8 _ I8 q8) λ b s9 ⟨H9,I9,q9⟩=>?_
      cases b with
      | false=>
        rw[if_neg Bool.false_ne_true]at q9 ⊢
        obtain⟨m',hm,w9⟩:=hN _ _ _ q9
        exact⟨m',hm,i + 1,σ8,ys,H9,I9.unpinned,(keepI I9).1,(keepI I9).2,w9⟩
      | true=>
        rw[if_pos rfl]at q9 ⊢
        refine thn (he s3 (upd H2 s2.heap.objs.size (.lst [])) fp _ s9 σ8 H9 _ I9 q9) λ e10 s10 ⟨v10,H10,I10,r10,hD10,n10⟩=>?_
        obtain⟨m',hm,w10⟩:=hN _ _ _ n10
        refine P4 (X:=cCx X (loc ++ fr) scope s3 (upd H2 s2.heap.objs.size (.lst [])) fp) I10 hD10 r10 hz λ _ s11 I11=>?_
        exact⟨m',hm,i + 1,σ8,_,_,I11.unpinned,(keepI I11).1,(keepI I11).2,w10⟩
  exact codeAny_compStart_list loop (T.self X.A 0 _ _ _ (T.keep _ _ _ st3 λ b hb o e=>hk b o e) loop)
end
end L2
namespace L2
open PySem PySem.Spec PyProof.Rows
section
variable{X:Cx}
theorem Nd{elt tg iter:Expr}{ifs:List Expr}{scope:Scope}{pos:Pos}{loc fr:List Str}{ix:List Nat}{g:TG}{tf:TT}{te:TE}{pins:List (Addr × Obj)}{σ:St}{Q:VK}{it:Addr}{fp:List Addr}{tn:Nat->Heap->Prop}{J:It}{H2:Hp}{s2:Shared}{E:Value->Shared->Prop}
    {RR:Value->Addr->Result->Shared->Prop} (hc:X.calm=true) (S:CSc X scope fr ix)
    (hg:∀ s H ex,PG (cCx X (loc ++ fr) scope s H ex) tg g) (hf:∀ s H ex,PF (cCx X (loc ++ fr) scope s H ex) ifs tf) (he:∀ s H ex,PE (cCx X (loc ++ fr) scope s H ex) elt te)
    (I2:Inv X pins σ H2 s2) (T:Turn X.prog X.w X.K tg J fp it tn) (st2:tn 0 s2.heap) (f2:∀ b ∈ fp,FpOk X pins H2 b) (hW:∀ D,H2 D=none->Ry J D (GB loc.length ix σ) H2 g tf te Q)
    (hfin:∀ (s3 s6:Shared) (H5:Hp) (σ5:St) (D:Addr),Inv X pins σ (upd H2 D (.lst [])) s3->Inv (cCx X (loc ++ fr) scope s3 (upd H2 D (.lst [])) fp) [] σ5 H5 s6->(∀ b ∈ fp,FpOk X pins (upd H2 D (.lst [])) b)->Q (.ref D) H5->RR (.ref D) s3.heap.objs.size (.ok .next) s6) :
    wpAny (model X.prog X.w) X.A (newList []) (λ acc s₃=>wpAny (model X.prog X.w) X.A (newFunctionEnv scope X.env.globals (Af X.env.cells scope.names []) [] X.env.qual none .none (some X.env)) (λ cenv s₄=>
      codeAny (model X.prog X.w) X.A (.compStart (.ListComp elt [⟨tg,iter,ifs,0⟩] scope pos) 0 (.ref it) acc { cenv with scope:=relabel scope X.env }) (RR acc cenv.locals) s₄) E s₃) E s2:=by
  refine wpAny_newObj_type ?_
  have fresh2:H2 s2.heap.objs.size=none:=I2.hok.fresh (Nat.le_refl _)
  have I3:=I2.lnew (its:=[]) (ys:=[]) (t':=s2.toks) .nil (Nat.zero_le _)
  obtain⟨W,⟨m0,w0⟩,turn⟩:=hW s2.heap.objs.size fresh2
  have lt2:∀ b ∈ fp,b < s2.heap.objs.size:=λ b hb=>let ⟨o,e,_⟩:=T.obj 0 _ st2 b hb;Heap.lt_size e
  have f3:∀ b ∈ fp,FpOk X pins (upd H2 s2.heap.objs.size (.lst [])) b:=λ b hb=>⟨by rw[AF (Nat.ne_of_lt (lt2 b hb))];exact(f2 b hb).1,(f2 b hb).2⟩
  have lt3:∀ b ∈ fp,b < (s2.heap.push { cls:=.type "list",data:=.seq ([]:List Value).toArray }).objs.size:=λ b hb=>by rw[Heap.size_push];exact Nat.lt_succ_of_lt (lt2 b hb)
  generalize hs3:({ s2 with heap:=s2.heap.push { cls:=.type "list",data:=.seq ([]:List Value).toArray } }:Shared)=s3 at *
  have lt3:∀ b ∈ fp,b < s3.heap.objs.size:=by rw[<- hs3];exact lt3
  have st3:tn 0 s3.heap:=T.keep _ _ _ st2 λ b hb o e=>by rw[<- hs3];exact Heap.get?_push_of_some _ e
  refine JG λ h' hk hn ho ha=>?_
  have I4:=Hf (loc:=loc) S I3 f3 hk hn ho ha lt3
  have fpX:∀ {H':Hp},(∀ b ∈ fp,H' b=none)->∀ b ∈ fp,FpOk (cCx X (loc ++ fr) scope s3 (upd H2 s2.heap.objs.size (.lst [])) fp) [] H' b:=λ hn b hb=>
    ⟨hn b hb,(I4.ok.exf b hb).1,I4.ok.exfs b hb,.inl hb,(I4.ok.exf b hb).2,λ p hp=>by cases hp⟩
  have loop:codeAny (model X.prog X.w) X.A (.compLoop (.ListComp elt [⟨tg,iter,ifs,0⟩] scope pos) 0 (.ref it) (.ref s2.heap.objs.size) (Nl scope s3.heap.objs.size X.env))
      (RR (.ref s2.heap.objs.size) s3.heap.objs.size) { s3 with heap:=h' }:=by
    refine GZ (λ n s'=>∃ i σ' ys H',Inv (cCx X (loc ++ fr) scope s3 (upd H2 s2.heap.objs.size (.lst [])) fp) [] σ' H' s'/\tn i s'.heap/\(∀ b ∈ fp,H' b=none)/\W i n σ' ys H') ?_ m0
      ⟨0,_,[],_,I4,T.keep _ _ _ st3 λ b hb o e=>hk b o e,λ b hb=>(f3 b hb).1,w0⟩
    rintro n s5 ⟨i,σ5,ys,H5,I5,st5,fr5,w5⟩
    obtain⟨hD,w5⟩:=turn i n σ5 ys H5 w5
    rcases w5 with⟨stop,qn⟩|⟨go,hz,N,hN,step⟩
    . refine thn (T.done (cCx X (loc ++ fr) scope s3 (upd H2 s2.heap.objs.size (.lst [])) fp) rfl rfl rfl hc i [] s5 σ5 H5 _ I5 (fpX fr5) st5 stop) λ r s6 ⟨hr,I6⟩=>?_
      subst hr
      exact hfin s3 s6 H5 σ5 s2.heap.objs.size I3 I6 f3 qn
    . refine thn (T.item (cCx X (loc ++ fr) scope s3 (upd H2 s2.heap.objs.size (.lst [])) fp) rfl rfl rfl hc i [] s5 σ5 H5 _ I5 (fpX fr5) st5 go) λ r s6 ⟨u,hr,h6⟩=>?_
      subst hr
      refine thn h6 λ _ s7 ⟨x,H7,I7,r7,y7,st7,fr7⟩=>?_
      have I7':=I7.pinned (fpX fr7) (T.obj _ _ st7)
      have keepI:∀ {σ8:St} {H8:Hp} {s8:Shared},Inv (cCx X (loc ++ fr) scope s3 (upd H2 s2.heap.objs.size (.lst [])) fp) ([] ++ Ei fp s7.heap) σ8 H8 s8->tn (i + 1) s8.heap/\∀ b ∈ fp,H8 b=none:=λ {σ8 H8 s8} I8=>by
        refine⟨T.keep _ _ _ st7 λ b hb o e=>(I8.pin (b,o) (List.mem_append_right _ (List.mem_append_right _ (CH hb e)))).1,λ b hb=>?_⟩
        obtain⟨o,e,d⟩:=T.obj _ _ st7 b hb
        exact(I8.pin (b,o) (List.mem_append_right _ (List.mem_append_right _ (CH hb e)))).2.1
      refine thn (hg s3 (upd H2 s2.heap.objs.size (.lst [])) fp _ s7 σ5 H7 x u _ I7' r7 (step x H7 y7)) λ _ s8 ⟨σ8,H8,I8,q8⟩=>?_
      refine thn (hf s3 (upd H2 s2.heap.objs.size (.lst [])) fp _ s8 σ8 H8 _ I8 q8) λ b s9 ⟨H9,I9,q9⟩=>?_
      cases b with
      | false=>
        rw[if_neg Bool.false_ne_true]at q9 ⊢
        obtain⟨m',hm,w9⟩:=hN _ _ _ q9
        exact⟨m',hm,i + 1,σ8,ys,H9,I9.unpinned,(keepI I9).1,(keepI I9).2,w9⟩
      | true=>
        rw[if_pos rfl]at q9 ⊢
        refine thn (he s3 (upd H2 s2.heap.objs.size (.lst [])) fp _ s9 σ8 H9 _ I9 q9) λ e10 s10 ⟨v10,H10,I10,r10,hD10,n10⟩=>?_
        obtain⟨m',hm,w10⟩:=hN _ _ _ n10
        refine P4 (X:=cCx X (loc ++ fr) scope s3 (upd H2 s2.heap.objs.size (.lst [])) fp) I10 hD10 r10 hz λ _ s11 I11=>?_
        exact⟨m',hm,i + 1,σ8,_,_,I11.unpinned,(keepI I11).1,(keepI I11).2,w10⟩
  exact codeAny_compStart_list loop (T.self X.A 0 _ _ _ (T.keep _ _ _ st3 λ b hb o e=>hk b o e) loop)
theorem Ly{scope:Scope}{N':List Str}{fp:List Addr}{pins:List (Addr × Obj)}{σ σ5:St}{H3 H5:Hp}{s3 s6:Shared}{h'':Heap}(I3:Inv X pins σ H3 s3)(I6:Inv (cCx X N' scope s3 H3 fp) [] σ5 H5 s6)(f3:∀ b ∈ fp,FpOk X pins H3 b)
    (hs:Heap.SameBut s3.heap.objs.size s6.heap h''):Inv X pins σ H5 { s6 with heap:=h'' }:=by
  have neC:∀ b o,s3.heap.get? b=some o->b ≠ s3.heap.objs.size:=λ b o e=>Nat.ne_of_lt (Heap.lt_size e)
  have un:=I6.base
  refine I3.call' (s':={ s6 with heap:=h'' }) (ch:=fp) I6.os ⟨λ b o e n hb hx=>?_,λ b o e n hb hx=>?_,un.free,λ b o e hx=>?_,un.tups,un.frzs,un.tbls⟩ ?_ I6.bare ?_
  . exact(hs.2 b (neC b o e)).trans (un.keep b o e n hb hx)
  . obtain⟨sl,q⟩:=un.slot b o e n hb hx
    exact⟨sl,(hs.2 b (neC b o e)).trans q⟩
  . obtain⟨o',q⟩:=un.there b o e hx
    exact⟨o',(hs.2 b (neC b o e)).trans q⟩
  . intro b ob e
    have hfree:H5 s3.heap.objs.size=none:=I6.free
    refine(I6.hok b ob e).stay (λ c w' hc q=>(hs.2 c ?_).trans q) (λ _ q=>q) λ _ _ q=>q
    intro z
    rcases hc with hc|hc
    . rw[<- hc,z,hfree]at e;cases e
    . rw[z,hfree]at hc;cases hc
  . intro b hb
    obtain⟨_,a2,_,a4,a5,a6⟩:=f3 b hb
    exact⟨a4,a2,a5,a6⟩
theorem Sj{i:Nat}{y:Str}{elt tg iter:Expr}{ifs:List Expr}{scope:Scope}{pos spos py:Pos}{loc fr:List Str}{ix:List Nat}{wi:TI}{g:TG}{tf:TT}{te:TE}(hN:X.N.Nodup)(hiN:X.N[i]? = some y)(hy:X.env.scope.names.lookup y=some .local)
    (hc:X.calm=true) (S:CSc X scope fr ix) (hi:PI X tg iter wi)
    (hg:∀ s H ex,PG (cCx X (loc ++ fr) scope s H ex) tg g) (hf:∀ s H ex,PF (cCx X (loc ++ fr) scope s H ex) ifs tf) (he:∀ s H ex,PE (cCx X (loc ++ fr) scope s H ex) elt te)
    (hsw:swapsWith (.ListComp elt [⟨tg,iter,ifs,0⟩] scope pos) (some (.Name y py)) spos.line X.env=pure true:=by rfl) (hs:∀ x,foldedSetIterable iter X.env x=pure x:=by intro _;rfl) :
    PS X (.Assign [.Name y py] (.ListComp elt [⟨tg,iter,ifs,0⟩] scope pos) spos) (Fp (Ht loc.length ix wi g tf te) (G7 i)):=by
  intro pins s σ H D I h
  have hnames:∀ y ∈ scope.names,y.2=.local->scope.names.lookup y.1=some .local:=λ y hy e=>by
    have:=List.all_eq_true.mp S.loc y hy
    rw[e]at this
    simpa using this
  rw[exec_Assign_Name_used _ _ _ _ hsw]
  refine wpAny_bind (wpAny_standAt (wpAny_bind ?_))
  show wpAny _ _ (do let _ <- comprehension (.ListComp elt [⟨tg,iter,ifs,0⟩] scope pos) scope X.env _ (newList []) false (eval iter X.env) (some (assign (.Name y py) X.env))) _ _ s
  refine wpAny_bind (wpAny_mono (wpAny_comprehension_free (use:=some (assign (.Name y py) X.env)) (Q:=λ _ s'=>SP X pins D .next s') rfl hs (DY (S.clos I.ok)) S.kind hnames
    (thn (hi pins s σ H _ I h) λ v s1 h1=>thn h1 λ itv s2 h2=>?_)) (λ _ s' hq=>wpAny_pure (wpAny_pure hq)) λ _ _ e=>e)
  obtain⟨it,fp,tn,J,H2,rfl,I2,T,st2,f2,hW⟩:=h2
  refine Nd (RR:=λ acc C=>compPost (model X.prog X.w) X.A X.xe (some (assign (.Name y py) X.env)) (λ _ s'=>SP X pins D .next s') acc C) hc S hg hf he I2 T st2 f2 hW λ s3 s6 H5 σ5 L I3 I6 f3 q=>?_
  have J6:Inv X pins σ H5 s6:=Ly (h'':=s6.heap) I3 I6 f3 (.refl ..)
  obtain⟨m,hm,_⟩:=I6.loc
  have hm:s6.heap.Ns s3.heap.objs.size m:=hm
  have hL:s3.heap.objs.size ≠ X.env.locals:=Ne.symm (Nat.ne_of_lt I3.lt)
  show wpAny _ _ (assign (.Name y py) X.env (.ref L)) _ _ s6
  refine wpAny_assign_Name (JY (v:=.ref L) J6 hN hiN (.inl hy) rfl (λ s7 I7 ⟨a,sb,ha⟩=>?_) (.inr hy))
  have hca:s3.heap.objs.size ≠ a:=by
    rcases ha with rfl|ha
    . exact hL
    . obtain⟨v,z⟩:=I3.cell y a ha
      exact Ne.symm (Nat.ne_of_lt z.lt)
  refine⟨m,hm.sameBut sb hca,λ h' hs'=>?_⟩
  refine⟨_,H5,I7.turned (t':=s7.toks) (it:=s3.heap.objs.size) (λ b o hb e=>(hs'.2 b hb).trans e) I6.free hL (.inr I3.sz) (λ x c e z=>?_) (λ p hp z=>?_),q⟩
  . obtain⟨v,w⟩:=I3.cell x c e
    exact absurd w.lt (by rw[z];exact Nat.lt_irrefl _)
  . exact absurd (Heap.lt_size (I3.pin p hp).1) (by rw[z];exact Nat.lt_irrefl _)
end
end L2
namespace L2
open PySem PySem.Spec PyProof.Rows
mutual
noncomputable def Rep(K:PySem.W.Frag)(H:Hp):PyData->V->Prop
  | .none,v=>v=.non
  | .bool b,v=>v=.bl b
  | .int i,v=>v=.int i
  | .str x,v=>v=.str x
  | .list ds,v=>∃ a xs,v=.ref a/\SqL K H a xs/\RepAll K H ds xs
  | .tuple ds,v=>∃ a xs,v=.ref a/\SqT K H a xs/\RepAll K H ds xs
  | .dict _,_=>False
noncomputable def RepAll(K:PySem.W.Frag)(H:Hp):List PyData->List V->Prop
  | [],xs=>xs=[]
  | d :: ds,xs=>∃ x r,xs=x :: r/\Rep K H d x/\RepAll K H ds r
end
section
variable{X:Cx}{pins:List (Addr × Obj)}{σ:St}{H:Hp}{s:Shared}
mutual
theorem Cv(I:Inv X pins σ H s):∀ (d:PyData) (v:V) (u:Value),Rep X.K H d v->RelV v u->∃ as,Reads s.heap u d as
  | .none,v,u,h,r=>by
    have h:v=.non:=by simpa only[Rep]using h
    subst h;cases r;exact⟨_,.none⟩
  | .bool b,v,u,h,r=>by
    have h:v=.bl b:=by simpa only[Rep]using h
    subst h;cases r;exact⟨_,.bool b⟩
  | .int i,v,u,h,r=>by
    have h:v=.int i:=by simpa only[Rep]using h
    subst h;obtain⟨t,rfl⟩:=r;exact⟨_,.int i t⟩
  | .str x,v,u,h,r=>by
    have h:v=.str x:=by simpa only[Rep]using h
    subst h;obtain⟨t,rfl⟩:=r;exact⟨_,.str x t⟩
  | .list ds,v,u,h,r=>by
    have h:∃ a xs,v=.ref a/\SqL X.K H a xs/\RepAll X.K H ds xs:=by simpa only[Rep]using h
    obtain⟨a,xs,rfl,hq,ha⟩:=h
    cases r
    obtain⟨its,rv,⟨o,n,e,c,_,dd⟩,hz⟩:=I.list hq
    obtain⟨as,q⟩:=Eh I ds xs its ha rv
    exact⟨_,.list e c dd (by simpa using q)⟩
  | .tuple ds,v,u,h,r=>by
    have h:∃ a xs,v=.ref a/\SqT X.K H a xs/\RepAll X.K H ds xs:=by simpa only[Rep]using h
    obtain⟨a,xs,rfl,hq,ha⟩:=h
    cases r
    obtain⟨its,rv,⟨o,e,c,n,dd⟩,hz⟩:=I.tuple hq
    obtain⟨as,q⟩:=Eh I ds xs its ha rv
    exact⟨_,.tuple e c dd (by simpa using q)⟩
  | .dict _,v,u,h,r=>by
    have h:False:=by simpa only[Rep]using h
    exact h.elim
theorem Eh(I:Inv X pins σ H s):∀ (ds:List PyData) (xs:List V) (us:List Value),RepAll X.K H ds xs->Vals xs us->∃ as,ReadsAll s.heap us ds as
  | [],xs,us,h,r=>by
    have h:xs=[]:=by simpa only[RepAll]using h
    subst h;cases r;exact⟨_,.nil⟩
  | d :: ds,xs,us,h,r=>by
    have h:∃ x r,xs=x :: r/\Rep X.K H d x/\RepAll X.K H ds r:=by simpa only[RepAll]using h
    obtain⟨x,rr,rfl,h1,h2⟩:=h
    cases r with
    | cons r1 r2=>
      obtain⟨as,q1⟩:=Cv I d _ _ h1 r1
      obtain⟨bs,q2⟩:=Eh I ds _ _ h2 r2
      exact⟨_,.cons q1 q2⟩
end
end
structure Grow(H H':Hp):Prop where
  tup:∀ b xs,H b=some (.tup xs)->H' b=some (.tup xs)
  frz:∀ b o u,H b=some (.frz o u)->H' b=some (.frz o u)
theorem Grow.refl{H:Hp}:Grow H H:=⟨λ _ _ h=>h,λ _ _ _ h=>h⟩
noncomputable def Chg(H:Hp)(p:Addr):Prop:=(∀ xs,H p ≠ some (.tup xs))/\∀ o u,H p ≠ some (.frz o u)
theorem Grow.put{H H':Hp}{p:Addr}{o:HO}(a:Grow H H')(h:Chg H' p):Grow H (upd H' p o):=⟨λ c xs e=>by
  have q:=a.tup c xs e
  have n:c ≠ p:=λ z=>h.1 xs (by rw[<- z];exact q)
  rw[AF n];exact q,λ c z u e=>by
  have q:=a.frz c z u e
  have n:c ≠ p:=λ w=>h.2 z u (by rw[<- w];exact q)
  rw[AF n];exact q⟩
theorem Chg.lst{H:Hp}{p:Addr}{xs:List V}(h:H p=some (.lst xs)):Chg H p:=⟨(λ _ e=>by rw[h]at e;cases e),(λ _ _ e=>by rw[h]at e;cases e)⟩
theorem Grow.sq{K:PySem.W.Frag}{H H':Hp}{a:Addr}{xs:List V}(g:Grow H H')(h:SqT K H a xs):SqT K H' a xs:=by
  rcases h with(h|⟨o,h⟩)|h
  . exact .inl (.inl (g.tup _ _ h))
  . exact .inl (.inr ⟨o,g.frz _ _ _ h⟩)
  . exact .inr h
mutual
/-- no list in it -/
noncomputable def Imm:PyData->Bool
  | .none | .bool _ | .int _ | .str _=>true
  | .list _=>false
  | .tuple ds=>Gg ds
  | .dict _=>false
noncomputable def Gg:List PyData->Bool
  | []=>true
  | d :: ds=>Imm d && Gg ds
end
mutual
theorem Rep.grow{K:PySem.W.Frag}{H H':Hp}(g:Grow H H'):∀ (d:PyData) (v:V),Imm d=true->Rep K H d v->Rep K H' d v
  | .none,v,_,h=>by simpa only[Rep]using h
  | .bool b,v,_,h=>by simpa only[Rep]using h
  | .int i,v,_,h=>by simpa only[Rep]using h
  | .str x,v,_,h=>by simpa only[Rep]using h
  | .list ds,v,m,h=>by simp[Imm]at m
  | .tuple ds,v,m,h=>by
    have h:∃ a xs,v=.ref a/\SqT K H a xs/\RepAll K H ds xs:=by simpa only[Rep]using h
    obtain⟨a,xs,e,hq,ha⟩:=h
    simp only[Rep]
    exact⟨a,xs,e,g.sq hq,RepAll.grow g ds xs (by simpa only[Imm]using m) ha⟩
  | .dict _,v,m,h=>by simp[Imm]at m
theorem RepAll.grow{K:PySem.W.Frag}{H H':Hp}(g:Grow H H'):∀ (ds:List PyData) (xs:List V),Gg ds=true->RepAll K H ds xs->RepAll K H' ds xs
  | [],xs,_,h=>by simpa only[RepAll]using h
  | d :: ds,xs,m,h=>by
    have h:∃ x r,xs=x :: r/\Rep K H d x/\RepAll K H ds r:=by simpa only[RepAll]using h
    obtain⟨x,r,e,h1,h2⟩:=h
    have m:Imm d=true/\Gg ds=true:=by simpa [Gg]using m
    simp only[RepAll]
    exact⟨x,r,e,Rep.grow g d x m.1 h1,RepAll.grow g ds r m.2 h2⟩
end
section
variable{X:Cx}
noncomputable def Q0(K:PySem.W.Frag):R2:=λ x y H Q=>∃ d e,Rep K H d x/\Rep K H e y/\d.canLay0=true/\e.canLay0=true/\min d.depth e.depth <= 60/\Q (.bl (!PyData.eqv d e)) H
noncomputable def Q4(K:PySem.W.Frag):R2:=λ x y H Q=>∃ d e,Rep K H d x/\Rep K H e y/\d.canLay0=true/\e.canLay0=true/\min d.depth e.depth <= 60/\Q (.bl (PyData.eqv d e)) H
theorem V6(hu:X.A.units + 64 < cLine):OpR X (compareOp .NotEq) (Q0 X.K):=by
  intro pins s σ H x y v u Q I rx ry h
  obtain⟨d,e,h1,h2,c1,c2,hm,q⟩:=h
  obtain⟨as,q1⟩:=Cv I d x v h1 rx
  obtain⟨bs,q2⟩:=Cv I e y u h2 ry
  exact PySem.SeqAt.compareNe_reads q1 q2 c1 c2 (by omega) ⟨.bl _,H,I,rfl,q⟩
theorem V8(hu:X.A.units + 64 < cLine):OpR X (compareOp .Eq) (Q4 X.K):=by
  intro pins s σ H x y v u Q I rx ry h
  obtain⟨d,e,h1,h2,c1,c2,hm,q⟩:=h
  obtain⟨as,q1⟩:=Cv I d x v h1 rx
  obtain⟨bs,q2⟩:=Cv I e y u h2 ry
  exact PySem.SeqAt.compareEq_reads q1 q2 c1 c2 (by omega) ⟨.bl _,H,I,rfl,q⟩
theorem E7:∀ {ns:List Int} {us:List Value},Vals (ns.map V.int) us->IntsAre us ns
  | [],_,.nil=>.nil
  | n :: ns,_,.cons r t=>by obtain⟨k,rfl⟩:=r;exact .cons _ _ (E7 t)
theorem Ox(hc:X.calm=true):CallR X (.builtin "sum") (λ xs H Q=>∃ (a:Addr) (ns:List Int),xs=[.ref a]/\SqL X.K H a (ns.map V.int)/\Q (.int ns.sum) H):=by
  intro pins s σ H xs us Q I r h
  obtain⟨a,ns,rfl,hq,q⟩:=h
  obtain⟨u,rfl,ru⟩:=Bn r
  cases ru
  obtain⟨its,rv,p,hz⟩:=I.list hq
  have hi:=E7 rv
  obtain⟨xs,hx⟩:=hi.allInts.items
  have hl':s.heap.IsList a (intItems xs):=hx ▸ p.isList
  refine sum_intListG (I.ok.hd hc) hl' λ h' tk t' hk=>?_
  have e1:ns=xs.toList.map (·.1):=by
    rw[<- nums_intItems,<- hx]
    exact(show numsOf its.toArray.toList=ns from hi.numsOf).symm
  have e2:preSum (numAt xs) xs.size=ns.sum:=by
    rw[preSum_eq,List.take_of_length_le (by simp),e1]
  rw[e2]
  exact⟨.int ns.sum,H,I.kept hk,⟨_,rfl⟩,q⟩
end
end L2
namespace L2
open PySem PySem.Spec PyProof.Rows
section
variable(K:PySem.W.Frag){X:Cx}
theorem LO(hK:X.K=K:=by rfl):IxR X (Q3 K):=by subst hK;exact TN
theorem MX(hK:X.K=K:=by rfl):IxR X (Q2 K):=by subst hK;exact VM
theorem Pf(hK:X.K=K:=by rfl):SlR X (ND K):=by subst hK;exact SD
theorem OM(hK:X.K=K:=by rfl):OpR X (compareOp .In) (rIn K false):=by subst hK;exact OL
theorem FA(hK:X.K=K:=by rfl):OpR X (compareOp .NotIn) (rIn K true):=by subst hK;exact Kx
theorem BC(hu:X.A.units + 64 < cLine)(hK:X.K=K:=by rfl):OpR X (compareOp .Eq) (Q4 K):=by subst hK;exact V8 hu
theorem FX(hu:X.A.units + 64 < cLine)(hK:X.K=K:=by rfl):OpR X (compareOp .NotEq) (Q0 K):=by subst hK;exact V6 hu
theorem B6(hK:X.K=K:=by rfl):OpR X (binaryOp .Add) (NF K):=by subst hK;exact T3
noncomputable def UU:List V->Hp->VK->Prop:=λ xs H Q=>∃ p ys,xs=[.ref p]/\(SqL K H p ys ∨ SqT K H p ys)/\Q (.int ys.length) H
theorem BI(hK:X.K=K:=by rfl):CallR X (.builtin "len") (UU K):=by subst hK;exact Lg
noncomputable def J8:List V->Hp->VK->Prop:=λ xs H Q=>∃ p ys,xs=[.ref p]/\(SqL K H p ys ∨ SqT K H p ys)/\∀ l,H l=none->Q (.ref l) (upd H l (.lst ys))
theorem Nj(hK:X.K=K:=by rfl):CallR X (.type "list") (J8 K):=by subst hK;exact Lf
noncomputable def Ks:List V->Hp->VK->Prop:=λ xs H Q=>∃ p ys,xs=[.ref p]/\((SqL K H p ys/\∀ l,H l=none->Q (.ref l) (upd H l (.tup ys))) ∨ (SqT K H p ys/\Q (.ref p) H))
theorem Bs(hK:X.K=K:=by rfl):CallR X (.type "tuple") (Ks K):=by subst hK;exact Jx
noncomputable def Rb:List V->Hp->VK->Prop:=λ xs H Q=>∃ (a:Addr) (ns:List Int),xs=[.ref a]/\SqL K H a (ns.map V.int)/\Q (.int ns.sum) H
theorem Oy(hc:X.calm=true)(hK:X.K=K:=by rfl):CallR X (.builtin "sum") (Rb K):=by subst hK;exact Ox hc
theorem Kw{tg l:Expr}{tl:TE}(hl:PE X l tl)(hK:X.K=K:=by rfl):PI X tg l (IZ K tl):=by subst hK;exact Sr hl
theorem MN{tg l:Expr}{tl:TE}(hl:PE X l tl)(hK:X.K=K:=by rfl):PI X tg l (LP K tl):=by subst hK;exact Um hl
theorem Su{pos:Pos}{es:List Expr}{k:Nat}{t:TGs}{n:Nat}(hc:X.calm=true)(h:PGs X es t)(hK:X.K=K:=by rfl)
    (hn:(assignEach es X.env).length=n:=by rfl) (hst:(assignEach es X.env).findIdx? (·.1)=none:=by rfl):PG X (.Tuple es k pos) (NU K n t):=by
  subst hK
  exact Uo hc h hn hst
end
section
variable(K:PySem.W.Frag){X:Cx}
end
end L2
namespace L2
open PySem PySem.Spec PyProof.Rows
section
variable(K:PySem.W.Frag){X:Cx}
theorem Ge:∀ {bs:List Bool} {us:List Value} {i:Nat} {v:Value},Vals (bs.map V.bl) us->us[i]? = some v->∃ b,bs[i]? = some b/\v=.bool b
  | [],_,_,_,.nil,e=>by simp at e
  | b :: bs,_,0,_,.cons r _,e=>by simp at e;subst e;exact⟨b,rfl,r⟩
  | b :: bs,_,i + 1,_,.cons _ t,e=>by
    obtain⟨c,h1,h2⟩:=Ge (i:=i) t (by simpa using e)
    exact⟨c,by simpa using h1,h2⟩
noncomputable def UW:List V->Hp->VK->Prop:=λ xs H Q=>∃ (a:Addr) (bs:List Bool),xs=[.ref a]/\SqL K H a (bs.map V.bl)/\Q (.bl (bs.all id)) H
noncomputable def UV:List V->Hp->VK->Prop:=λ xs H Q=>∃ (a:Addr) (bs:List Bool),xs=[.ref a]/\SqL K H a (bs.map V.bl)/\Q (.bl (bs.any id)) H
theorem P2(hc:X.calm=true)(hK:X.K=K:=by rfl):CallR X (.builtin "all") (UW K):=by
  subst hK
  intro pins s σ H xs us Q I r h
  obtain⟨a,bs,rfl,hq,q⟩:=h
  obtain⟨u,rfl,ru⟩:=Bn r
  cases ru
  obtain⟨its,rv,p,hz⟩:=I.list hq
  have hl:=p.isList
  have hlen:=rv.length
  have hlt:a < s.heap.objs.size:=by obtain⟨_,e,_⟩:=hl;exact Heap.lt_size e
  refine call_all_walk (wpAny_pyIter_list hl ?_)
  refine⟨s.heap.objs.size,[s.heap.objs.size,a],[s.heap.objs.size],its.toArray.size,_,_,λ i=>(bs[i]?).getD true,rfl,Walks.list (A:=X.A.in1) (I.ok.hd hc) _ a (Nat.ne_of_lt hlt) its.toArray,
    ⟨⟨_,Heap.get?_push_size _ rfl,rfl,rfl⟩,hl.push _⟩,λ i v s' Q' E' hP hQ=>?_,λ h' tk hk=>?_⟩
  . obtain⟨b,e,rfl⟩:=Ge rv (by simpa using hP)
    simp only[e,Option.getD_some]at hQ
    exact wpAny_truthy_bool hQ
  . have e:((List.range its.toArray.size).all λ i=>(bs[i]?).getD true)=bs.all id:=by
      rw[List.size_toArray,<- hlen,List.length_map];exact LSm.range_all bs
    rw[e]
    exact⟨.bl _,H,I.kept (LSm.kept_iter hk),rfl,q⟩
theorem P1(hc:X.calm=true)(hK:X.K=K:=by rfl):CallR X (.builtin "any") (UV K):=by
  subst hK
  intro pins s σ H xs us Q I r h
  obtain⟨a,bs,rfl,hq,q⟩:=h
  obtain⟨u,rfl,ru⟩:=Bn r
  cases ru
  obtain⟨its,rv,p,hz⟩:=I.list hq
  have hl:=p.isList
  have hlen:=rv.length
  have hlt:a < s.heap.objs.size:=by obtain⟨_,e,_⟩:=hl;exact Heap.lt_size e
  refine call_any_walk (wpAny_pyIter_list hl ?_)
  refine⟨s.heap.objs.size,[s.heap.objs.size,a],[s.heap.objs.size],its.toArray.size,_,_,λ i=>(bs[i]?).getD false,rfl,Walks.list (A:=X.A.in1) (I.ok.hd hc) _ a (Nat.ne_of_lt hlt) its.toArray,
    ⟨⟨_,Heap.get?_push_size _ rfl,rfl,rfl⟩,hl.push _⟩,λ i v s' Q' E' hP hQ=>?_,λ h' tk hk=>?_⟩
  . obtain⟨b,e,rfl⟩:=Ge rv (by simpa using hP)
    simp only[e,Option.getD_some]at hQ
    exact wpAny_truthy_bool hQ
  . have e:((List.range its.toArray.size).any λ i=>(bs[i]?).getD false)=bs.any id:=by
      rw[List.size_toArray,<- hlen,List.length_map];exact LSm.range_any bs
    rw[e]
    exact⟨.bl _,H,I.kept (LSm.kept_iter hk),rfl,q⟩
noncomputable def J0:List V->Hp->VK->Prop:=λ xs H Q=>∃ (a:Addr) (ns:List Int),xs=[.ref a]/\SqL K H a (ns.map V.int)/\ns.length < 64/\∀ (p:Addr) (ns':List Int),H p=none->ns'.Perm ns->ns'.Pairwise (· <= ·)->Q (.ref p) (upd H p (.lst (ns'.map V.int)))
theorem M0:∀ {ns:List Int} {us:List Value},IntsAre us ns->Vals (ns.map V.int) us
  | [],_,.nil=>.nil
  | _ :: _,_,.cons _ _ t=>.cons ⟨_,rfl⟩ (M0 t)
theorem Le(hK:X.K=K:=by rfl):CallR X (.builtin "sorted") (J0 K):=by
  subst hK
  intro pins s σ H xs us Q I r h
  obtain⟨a,ns,rfl,hq,h64,q⟩:=h
  obtain⟨u,rfl,ru⟩:=Bn r
  cases ru
  obtain⟨its,rv,p,hz⟩:=I.list hq
  have hlen:=rv.length
  rw[List.length_map]at hlen
  refine sorted_ints p.isList (E7 rv) (by omega) λ out ns' a1 a2 a3=>?_
  obtain⟨e,he⟩:=sortedAll_at s.heap its out
  have hl':ns'.length=ns.length:=a2.length_eq
  refine⟨.ref (s.heap.objs.size + 1),_,I.laid (a:=s.heap.objs.size + 1) (o:=.lst (ns'.map V.int)) (t':=s.toks) (λ b o hb=>sortedAll_old hb) (Nat.le_succ _) ⟨?_,out.toList,e,M0 a1,he⟩,rfl,q _ _ (I.hok.fresh (Nat.le_succ _)) a2 a3⟩
  rw[List.length_map,hl']
  exact Nat.le_of_lt (Ja (by omega))
noncomputable def Rh:List V->Hp->VK->Prop:=λ xs H Q=>∃ (a:Addr) (ns:List Int),xs=[.ref a]/\SqL K H a (ns.map V.int)/\0 < ns.length/\∀ M:Int,M ∈ ns->(∀ x ∈ ns,x <= M)->Q (.int M) H
theorem Jp(hc:X.calm=true)(hK:X.K=K:=by rfl):CallR X (.builtin "max") (Rh K):=by
  subst hK
  intro pins s σ H xs us Q I r h
  obtain⟨a,ns,rfl,hq,hne,q⟩:=h
  obtain⟨u,rfl,ru⟩:=Bn r
  cases ru
  obtain⟨its,rv,p,hz⟩:=I.list hq
  have hi:=E7 rv
  obtain⟨ys,e⟩:=hi.allInts.items
  have hns:ns=ys.toList.map (·.1):=by
    rw[<- hi.numsOf,<- nums_intItems,<- e]
  have hsz:0 < ys.size:=by
    have h3:=hne;rw[hns,List.length_map,Array.length_toList]at h3;exact h3
  have hl:=p.isList
  rw[e]at hl
  refine max_intList (I.ok.hd hc) hl hsz λ v h' tk hv hk=>?_
  obtain⟨t,rfl⟩:=intItems_at hv
  obtain⟨h1,h2⟩:=argBest_gt (numAt ys) (ys.size - 1)
  refine⟨.int _,H,I.kept hk,⟨t,rfl⟩,q _ ?_ λ x hx=>?_⟩
  . rw[hns,numAt_eq];exact getD_mem (by rw[List.length_map,Array.length_toList];omega)
  . rw[hns]at hx
    obtain⟨j,hj,rfl⟩:=mem_getD hx
    rw[List.length_map,Array.length_toList]at hj
    rw[<- numAt_eq];exact h2 j (by omega)
noncomputable def Rf:List V->Hp->VK->Prop:=λ xs H Q=>∃ (a:Addr) (ns:List Int),xs=[.ref a]/\SqL K H a (ns.map V.int)/\0 < ns.length/\∀ M:Int,M ∈ ns->(∀ x ∈ ns,M <= x)->Q (.int M) H
theorem Gb(hc:X.calm=true)(hK:X.K=K:=by rfl):CallR X (.builtin "min") (Rf K):=by
  subst hK
  intro pins s σ H xs us Q I r h
  obtain⟨a,ns,rfl,hq,hne,q⟩:=h
  obtain⟨u,rfl,ru⟩:=Bn r
  cases ru
  obtain⟨its,rv,p,hz⟩:=I.list hq
  have hi:=E7 rv
  obtain⟨ys,e⟩:=hi.allInts.items
  have hns:ns=ys.toList.map (·.1):=by
    rw[<- hi.numsOf,<- nums_intItems,<- e]
  have hsz:0 < ys.size:=by
    have h3:=hne;rw[hns,List.length_map,Array.length_toList]at h3;exact h3
  have hl:=p.isList
  rw[e]at hl
  refine min_intList (I.ok.hd hc) hl hsz λ v h' tk hv hk=>?_
  obtain⟨t,rfl⟩:=intItems_at hv
  obtain⟨h1,h2⟩:=argBest_lt (numAt ys) (ys.size - 1)
  refine⟨.int _,H,I.kept hk,⟨t,rfl⟩,q _ ?_ λ x hx=>?_⟩
  . rw[hns,numAt_eq];exact getD_mem (by rw[List.length_map,Array.length_toList];omega)
  . rw[hns]at hx
    obtain⟨j,hj,rfl⟩:=mem_getD hx
    rw[List.length_map,Array.length_toList]at hj
    rw[<- numAt_eq];exact h2 j (by omega)
end
end L2
namespace L2
open PySem PySem.Spec PyProof.Rows
section
variable{prog:Program}{w:World}{A:Around}{E:Value->Shared->Prop}{s:Shared}{l:Addr}{xs:Array (Int × Tok)}
theorem GG{Q:Value->Shared->Prop}(hl:s.heap.IsTuple l (intItems xs))
    (h:∀ s₂:Shared,s₂={ s with heap:=s.heap.push { cls:=.type "tuple_iterator",data:=.fields #[.ref l,.int 0 0] } } ->
      (s₂.heap.IsTupleIter s.heap.objs.size l 0/\s₂.heap.IsTuple l (intItems xs))->(∀ b ∈ [s.heap.objs.size,l],b < s₂.heap.objs.size)->l ≠ s.heap.objs.size->Q (.ref s.heap.objs.size) s₂) :
    wpAny (model prog w) A (pyIter (.ref l)) Q E s:=by
  have hlt:l < s.heap.objs.size:=by obtain⟨_,e,_⟩:=hl;exact Heap.lt_size e
  refine wpAny_pyIter_tuple hl (h _ rfl ⟨⟨_,Heap.get?_push_size _ rfl,rfl,rfl⟩,hl.push _⟩ (λ b hb=>?_) (Nat.ne_of_lt hlt))
  show b < (s.heap.push _).objs.size
  rw[Heap.size_push]
  rcases List.mem_cons.mp hb with rfl|hb
  . exact Nat.lt_succ_self _
  . rcases List.mem_cons.mp hb with rfl|hb
    . exact Nat.lt_succ_of_lt hlt
    . cases hb
theorem Jc{h':Heap}{o:Obj}(hk:∀ b x,b ∉ [s.heap.objs.size]->(s.heap.push o).get? b=some x->h'.get? b=some x):∀ b x,s.heap.get? b=some x->h'.get? b=some x:=
  λ b x e=>hk b x (λ hm=>by rw[List.mem_singleton.mp hm]at e;exact Nat.lt_irrefl _ (Heap.lt_size e)) (Heap.get?_push_of_some _ e)
theorem Kd{Q:Value->Shared->Prop}(hh:A.handled=none)(hl:s.heap.IsTuple l (intItems xs))
    (h:∀ h' tk t',(∀ b o,s.heap.get? b=some o->h'.get? b=some o)->Q (.int (preSum (numAt xs) xs.size) t') { s with heap:=h',toks:=tk }) :
    wpAny (model prog w) A (call (.builtin "sum") [.ref l]) Q E s:=by
  refine call_sum_walkG (GG hl λ s₂ e st hfp hlI=>?_)
  subst e
  refine⟨_,_,_,_,_,_,numAt xs,rfl,Walks.tuple (A:=A.in1) hh _ l hlI (intItems xs),st,hfp,(λ _ _=>intItems_at),λ h' tk t' hk=>?_⟩
  have:=h h' tk t' (Jc hk)
  simpa [intItems]using this
theorem L7{Q:Value->Shared->Prop}(hh:A.handled=none)(hl:s.heap.IsTuple l (intItems xs))(hne:0 < xs.size)
    (h:∀ v h' tk,(intItems xs)[argBest (λ i j=>decide (numAt xs i > numAt xs j)) (xs.size - 1)]? = some v->(∀ b o,s.heap.get? b=some o->h'.get? b=some o)->Q v { s with heap:=h',toks:=tk }) :
    wpAny (model prog w) A (call (.builtin "max") [.ref l]) Q E s:=by
  refine call_max_walk (GG hl λ s₂ e st hfp hlI=>?_)
  subst e
  refine⟨_,_,_,_,_,_,_,rfl,Walks.tuple (A:=A.in1) hh _ l hlI (intItems xs),st,hfp,by simpa [intItems]using hne,CmpOf.ints_gt (numAt xs) (λ _ _=>intItems_at),λ v h' tk hP hk=>?_⟩
  exact h v h' tk (by simpa [intItems]using hP) (Jc hk)
end
section
variable(K:PySem.W.Frag){X:Cx}
noncomputable def Ra:List V->Hp->VK->Prop:=λ xs H Q=>∃ (a:Addr) (ns:List Int),xs=[.ref a]/\SqT K H a (ns.map V.int)/\Q (.int ns.sum) H
theorem Nh(hc:X.calm=true)(hK:X.K=K:=by rfl):CallR X (.builtin "sum") (Ra K):=by
  subst hK
  intro pins s σ H xs us Q I r h
  obtain⟨a,ns,rfl,hq,q⟩:=h
  obtain⟨u,rfl,ru⟩:=Bn r
  cases ru
  obtain⟨its,rv,p,hz⟩:=I.tuple hq
  have hi:=E7 rv
  obtain⟨xs,hx⟩:=hi.allInts.items
  have hl':s.heap.IsTuple a (intItems xs):=hx ▸ (show s.heap.IsTuple a its.toArray from p)
  refine Kd (I.ok.hd hc) hl' λ h' tk t' hk=>?_
  have e1:ns=xs.toList.map (·.1):=by
    rw[<- nums_intItems,<- hx]
    exact(show numsOf its.toArray.toList=ns from hi.numsOf).symm
  have e2:preSum (numAt xs) xs.size=ns.sum:=by
    rw[preSum_eq,List.take_of_length_le (by simp),e1]
  rw[e2]
  exact⟨.int ns.sum,H,I.kept hk,⟨_,rfl⟩,q⟩
noncomputable def Rg:List V->Hp->VK->Prop:=λ xs H Q=>∃ (a:Addr) (ns:List Int),xs=[.ref a]/\SqT K H a (ns.map V.int)/\0 < ns.length/\∀ M:Int,M ∈ ns->(∀ x ∈ ns,x <= M)->Q (.int M) H
theorem Ik(hc:X.calm=true)(hK:X.K=K:=by rfl):CallR X (.builtin "max") (Rg K):=by
  subst hK
  intro pins s σ H xs us Q I r h
  obtain⟨a,ns,rfl,hq,hne,q⟩:=h
  obtain⟨u,rfl,ru⟩:=Bn r
  cases ru
  obtain⟨its,rv,p,hz⟩:=I.tuple hq
  have hi:=E7 rv
  obtain⟨ys,e⟩:=hi.allInts.items
  have hns:ns=ys.toList.map (·.1):=by
    rw[<- hi.numsOf,<- nums_intItems,<- e]
  have hsz:0 < ys.size:=by
    have h3:=hne;rw[hns,List.length_map,Array.length_toList]at h3;exact h3
  have hl:s.heap.IsTuple a (intItems ys):=e ▸ (show s.heap.IsTuple a its.toArray from p)
  refine L7 (I.ok.hd hc) hl hsz λ v h' tk hv hk=>?_
  obtain⟨t,rfl⟩:=intItems_at hv
  obtain⟨h1,h2⟩:=argBest_gt (numAt ys) (ys.size - 1)
  refine⟨.int _,H,I.kept hk,⟨t,rfl⟩,q _ ?_ λ x hx=>?_⟩
  . rw[hns,numAt_eq];exact getD_mem (by rw[List.length_map,Array.length_toList];omega)
  . rw[hns]at hx
    obtain⟨j,hj,rfl⟩:=mem_getD hx
    rw[List.length_map,Array.length_toList]at hj
    rw[<- numAt_eq];exact h2 j (by omega)
end
end L2
namespace L2
open PySem PySem.Spec PyProof.Rows
structure DefAt(K:PySem.W.Frag)(mg:Str->Option Value)(x:Str)(st:Stmt)(f:Addr)(fd:FuncData)(ps:List Str):Prop where
  fn:Fun K x x st f fd
  mg:mg x=some (.ref f)
  bd:Binds K fd ps []
theorem Rm{X:Cx}{j k:Nat}{f:Addr}{fd:FuncData}{ps:List Str}{sp:Sp}{x:Str}{st:Stmt}{e:Expr}{es:List Expr}{t:TA}{p pos:Pos}(F:FnOk X.prog X.w X.K X.mg X.base CX0 j f fd ps sp)(hr:Room k X.A)(D:DefAt X.K X.mg x st f fd ps)(ha:PA X (e :: es) t)
    (hjk:j <= k:=by decide) (hg:Gl X x:=by rfl) (hdb:(x == ("__debug__":Str))=false:=by decide) (he:starEach (e :: es) X.env=(false,eval e X.env) :: starEach es X.env:=by rfl) (hpl:(backTo pos (starEach es X.env)).any (·.1)=false:=by rfl) :
    PE X (.Call (.Name x p) (e :: es) [] pos) (EO sp [] E0 t):=
  T0 (F.mono hjk) hr hg D.mg D.fn.kp D.bd .nil Rn ha hdb he hpl
theorem Mj:bootBuiltins "list"=some (.type "list"):=by decide +kernel
theorem bt_tuple:bootBuiltins "tuple"=some (.type "tuple"):=by decide +kernel
theorem bt_int:bootBuiltins "int"=some (.type "int"):=by decide +kernel
theorem bt_len:bootBuiltins "len"=some (.builtin "len"):=by decide +kernel
theorem bt_sum:bootBuiltins "sum"=some (.builtin "sum"):=by decide +kernel
theorem bt_min:bootBuiltins "min"=some (.builtin "min"):=by decide +kernel
theorem bt_max:bootBuiltins "max"=some (.builtin "max"):=by decide +kernel
theorem Jq:bootBuiltins "sorted"=some (.builtin "sorted"):=by decide +kernel
theorem bt_all:bootBuiltins "all"=some (.builtin "all"):=by decide +kernel
theorem bt_any:bootBuiltins "any"=some (.builtin "any"):=by decide +kernel
section
variable(c:Addr)(n l u v:Int)
end
mutual
theorem HK:∀ ns:List Int,PyData.canLayAll0 (ns.map PyData.int)=true
  | []=>by simp[PyData.canLayAll0]
  | n :: ns=>by simp[PyData.canLayAll0,PyData.canLay0,HK ns]
end
end L2
namespace L2
open PySem PySem.Spec PyProof.Rows PySem.W
noncomputable def lCx(X:Cx)(A:Around)(N':List Str)(qual:Str)(scope:Scope)(f:Addr)(cd:Value)(cl:List (Str × Addr))(s:Shared)(H:Hp):Cx:=
  { X with N:=N',s₀:=s,H₀:=H,A:=A.deeper (envX qual scope s.heap.objs.size f cd cl),env:=envX qual scope s.heap.objs.size f cd cl,outer:=X.stack,stack:=envX qual scope s.heap.objs.size f cd cl :: X.stack,ex:=[],fn:=λ _=>false,calm:=true,pn:=[],xe:=λ _ _=>False }
structure LSc(scope:Scope)(p:Str):Prop where
  nocell:(scope.names.all λ y=>y.2 != .cell)=true
  par:scope.names.lookup p=some .local
  co:scope.isCoroutine=false
  gen:scope.isGenerator=false
section
variable{X:Cx}{scope:Scope}{fr:List Str}{ix:List Nat}{pins:List (Addr × Obj)}{σ:St}{H:Hp}{s:Shared}{p:Str}
theorem LSc.ne(L:LSc scope p):∀ y ∈ scope.names,y.2 ≠ .cell:=λ y hy e=>by
  have:=List.all_eq_true.mp L.nocell y hy
  rw[e]at this
  revert this;decide
theorem TV(S:CSc X scope fr ix)(L:LSc scope p)(I:Inv X pins σ H s){A:Around}(hf:A.frames=X.A.frames)(hh:A.handled=none){qual:Str}{f:Addr}{cd:Value}{h':Heap}{x:V}{u:Value}{t':Nat}
    (hk:∀ b o,s.heap.get? b=some o->h'.get? b=some o) (hn:h'.Ns s.heap.objs.size λ y=>if y=p then some u else none) (r:RelV x u) :
    Inv (lCx X A (p :: fr) qual scope f cd (Af X.env.cells scope.names []) s H) [] (some x :: ix.map λ i=>(σ[i]?).join) H { s with heap:=h',toks:=t' }:=by
  have lenix:fr.length=ix.length:=by simpa using congrArg List.length S.ixs
  have co:∀ x c,(Af X.env.cells scope.names []).lookup x=some c->X.env.cells.lookup x=some c:=λ x c e=>E3 (S.clos I.ok) (λ _ _ z=>by simp at z) x c e
  refine⟨⟨I.ok.mod,S.kind,rfl,rfl,Nat.le_refl _,?_,?_,?_,λ _=>hh,Around.frames_deeper (hf.trans I.ok.frames),.inr ⟨rfl,rfl⟩,?_,I.bs,Nat.le_trans I.ok.bsz I.sz,?_,?_,I.stack,I.stkFree⟩,rfl,I.bare,Un.kept hk,⟨_,hn,?_⟩,?_,I.hok.fresh (Nat.le_refl _),?_,?_,I.hok.kept hk,?_⟩
  . intro x y c e1 e2
    exact I.ok.inj x y c (co x c e1) (co y c e2)
  . intro x hx
    rcases hx with e|e
    . exact absurd rfl (L.ne (x,.cell) (PySem.mem_of_lookup e))
    . exact Option.isSome_iff_exists.mp (DO (.inr (PySem.mem_of_lookup e)))
  . intro x c hf;cases hf
  . intro b hb;cases hb
  . intro b o e hb;cases hb
  . intro b hb;cases hb
  . intro i y v e1 e2 e3
    cases i with
    | zero=>
      have e1:some p=some y:=e1
      have e2:some (some x)=some (some v):=e2
      cases e1;cases e2
      exact⟨u,r,.inl ⟨L.par,if_pos rfl⟩⟩
    | succ j=>
      have e1:fr[j]? = some y:=e1
      have e2:(ix.map λ i=>(σ[i]?).join)[j]? = some (some v):=e2
      rw[List.getElem?_map]at e2
      have e4:(fr.map some)[j]? = some (some y):=by rw[List.getElem?_map,e1];rfl
      rw[S.ixs,List.getElem?_map]at e4
      cases q:ix[j]? with
      | none=>rw[q]at e2;cases e2
      | some k=>
        rw[q]at e2 e4
        have e2:(σ[k]?).join=some v:=Option.some.inj e2
        have e4:X.N[k]? = some y:=Option.some.inj e4
        have e5:σ[k]? = some (some v):=by
          cases w:σ[k]? with
          | none=>rw[w]at e2;cases e2
          | some z=>rw[w]at e2;simpa using e2
        have hfx:=List.all_eq_true.mp S.frs y (List.mem_of_getElem? e1)
        have hfx:scope.names.lookup y=some .free:=by simpa using hfx
        have hmem:=PySem.mem_of_lookup hfx
        have hout:=S.outer hmem rfl
        obtain⟨m,hm,hl⟩:=I.loc
        obtain⟨u',r',l⟩:=hl k y v e4 e5 (.inr hout)
        refine⟨u',r',.inr ⟨.inr hfx,?_⟩⟩
        rcases l with⟨kk,_⟩|⟨kk,c,ec,z⟩
        . rcases hout with w|w
          . rw[kk]at w;cases w
          . rw[kk]at w;cases w
        . obtain⟨d,hd⟩:=Option.isSome_iff_exists.mp (DO (cells:=X.env.cells) (acc:=[]) (.inr hmem))
          have:=co y d hd
          rw[ec]at this;cases this
          exact⟨c,hd,z.keeps hk⟩
  . intro x c e
    obtain⟨v,z⟩:=I.cell x c (co x c e)
    exact⟨v,z.keeps hk⟩
  . intro x c e
    exact I.freeC x c (co x c e)
  . intro p hp;cases hp
  . show(_ :: _:List (Option V)).length=(p :: fr).length
    simp[lenix]
theorem LM(S:CSc X scope fr ix)(L:LSc scope p)(I:Inv X pins σ H s){A:Around}(hf:A.frames=X.A.frames)(hr:Room 1 A){qual:Str}{f:Addr}{cd ctv pm:Value}{params:Arguments}{body:Expr}{x:V}{u:Value}{tb:TE}{Q:VK}
    (ho:s.heap.get? f=some { cls:=.type "function",data:=.func (kla_fn "<lambda>" qual params body scope (Af X.env.cells scope.names []) pm cd ctv) }) (hcd:s.heap.CodeRec cd qual)
    (hb:∀ us:Value,bindArgs (kla_fn "<lambda>" qual params body scope (Af X.env.cells scope.names []) pm cd ctv) ⟨[us],[]⟩=pure [(p,us)])
    (he:∀ (s:Shared) (H:Hp),PE (lCx X A (p :: fr) qual scope f cd (Af X.env.cells scope.names []) s H) body tb) (r:RelV x u) (h:tb (some x :: ix.map λ i=>(σ[i]?).join) H Q) :
    wpAny (model X.prog X.w) A (call (.ref f) [u]) (EP X pins σ Q) (λ _ _=>False) s:=by
  refine wpAny_call (codeAny_mono (R:=λ res s'=>match res with | .ok (.ret u)=>EP X pins σ Q u s'|_=>False) (kla_callFunE hr.depth ho rfl L.co L.gen rfl hcd ?_) ?_)
  . rw[hb]
    refine wpAny_pure ?_
    refine wpAny_newFunctionEnv L.ne (λ y hy=>by rw[List.mem_singleton]at hy;subst hy;exact L.par) (λ h' hns hsb=>⟨?_,?_⟩) S.kind
    . have hk:∀ b o,s.heap.get? b=some o->h'.get? b=some o:=λ b o e=>(hsb.2 b (Nat.ne_of_lt (Heap.lt_size e))).trans (Heap.get?_push_of_some _ e)
      exact I.nolimit.keeps hk
    . have hk:∀ b o,s.heap.get? b=some o->h'.get? b=some o:=λ b o e=>(hsb.2 b (Nat.ne_of_lt (Heap.lt_size e))).trans (Heap.get?_push_of_some _ e)
      have hns':h'.Ns s.heap.objs.size λ y=>if y=p then some u else none:=by
        have e:(λ y=>([(p,u)]:List (Str × Value)).reverse.lookup y)=λ y=>if y=p then some u else none:=by
          funext y
          simp only[List.reverse_cons,List.reverse_nil,List.nil_append,List.lookup_cons,List.lookup_nil]
          by_cases hy:y=p
          . subst hy;simp
          . have hb':(y == p)=false:=beq_eq_false_iff_ne.mpr hy
            simp[hb',hy]
        rw[<- e];exact hns
      have J:=TV (t':=s.toks + 1) (qual:=qual) (f:=f) (cd:=cd) S L I hf hr.hd hk hns' r
      refine kla_codeExpr (wpAny_mono (he s H [] _ _ H Q J h) (λ v s' hv=>?_) λ _ _ z=>z.elim)
      obtain⟨y,H',J',ry,q⟩:=hv
      obtain⟨hh,g,d,t,os'⟩:=s'
      obtain rfl:os'=s.os:=J'.os
      exact⟨y,H',I.call (h':=hh) (g':=g) (d':=d) (t':=t) (ch:=[]) J'.base J'.hok J'.bare (λ b z=>absurd z (by simp)),ry,q⟩
  . intro res s' hq
    cases res with
    | error e=>exact hq
    | ok fl=>
      cases fl with
      | ret u=>exact hq
      | next=>exact hq
      | brk=>exact hq
      | cont=>exact hq
end
end L2
namespace L2
open PySem PySem.Spec PyProof.Rows PySem.W
noncomputable def cdF(c:Addr)(q:Str):Heap->Prop:=λ h=>h.CodeRec (.ref c) q
noncomputable def FJ(H:Hp)(q:Str)(pos:Pos)(ps:Array Value):Prop:=ps=#[] ∨ ∃ c,ps=#[rawInt pos.line,rawInt pos.col,.ref c]/\H c=some (.ext (cdF c q))
noncomputable def EX(P:Addr)(q:Str)(pos:Pos)(H H':Hp):Prop:=H'=H ∨ ∃ c,H c=none/\c ≠ P/\H'=upd (upd H P (.tbl #[rawInt pos.line,rawInt pos.col,.ref c])) c (.ext (cdF c q))
structure LamAt(X:Cx)(c P:Addr):Prop where
  code:X.env.code=.ref c
  hd:CodeHd X.base c P
  bl:X.base.BuiltinsAt X.mg P
section
variable{X:Cx}{pins:List (Addr × Obj)}{σ:St}{H:Hp}{s:Shared}{c P:Addr}{scope:Scope}{fr:List Str}{ix:List Nat}
theorem TU(I:Inv X pins σ H s){q:Str}{ps:Array Value}{ps':Array Value}(hP:H P=some (.tbl ps)){c':Addr}{h':Heap}{t':Nat}(hx:∀ b o,b ≠ P->s.heap.get? b=some o->h'.get? b=some o)(hc:s.heap.objs.size <= c')
    (hrec:h'.CodeRec (.ref c') q) (htb:h'.get? P=some (tabObj (ps ++ ps'))):Inv X pins σ (upd (upd H P (.tbl (ps ++ ps'))) c' (.ext (cdF c' q))) { s with heap:=h',toks:=t' }:=by
  have hcn:H c'=none:=I.hok.fresh hc
  have hPc:P ≠ c':=Ar hP hcn
  have nP:∀ b,H b=none->b ≠ P:=λ b n z=>by subst z;rw[hP]at n;cases n
  have other:∀ b,b ≠ P->b ≠ c'->upd (upd H P (.tbl (ps ++ ps'))) c' (.ext (cdF c' q)) b=H b:=λ b h1 h2=>by rw[AF h2,AF h1]
  have ne':∀ b u,H b=some u->b ≠ c':=λ b u e=>Ar e hcn
  refine I.un (h':=h') (t':=t') ⟨λ b o e n _ _=>hx b o (nP b n) e,λ b o e n _ _=>⟨o.slots,hx b o (nP b n) e⟩,λ b o e n _=>?_,λ b o e _=>?_,λ b xs e=>?_,λ b o u e=>?_,λ b qs e=>?_⟩ λ b u e=>?_
  . rw[other b (nP b n) (Nat.ne_of_lt (Nat.lt_of_lt_of_le (Heap.lt_size e) hc))];exact n
  . by_cases z:b=P
    . subst z;exact⟨_,htb⟩
    . exact⟨o,hx b o z e⟩
  . rw[other b (λ z=>by subst z;rw[hP]at e;cases e) (ne' b _ e)];exact e
  . rw[other b (λ z=>by subst z;rw[hP]at e;cases e) (ne' b _ e)];exact e
  . by_cases z:b=P
    . subst z
      rw[hP]at e;cases e
      exact⟨ps',by rw[AF hPc,AK]⟩
    . exact⟨#[],by rw[other b z (ne' b _ e),e];simp⟩
  . by_cases z:b=c'
    . subst z
      rw[AK]at e;cases e
      obtain⟨c0,o,vs,t,e0,r⟩:=id hrec
      cases e0
      refine⟨hrec,⟨o,r.1⟩,λ h1 h2 q1 k=>?_⟩
      obtain⟨c1,o1,vs1,t1,e1,g1,r1⟩:=q1
      cases e1
      exact⟨_,o1,vs1,t1,rfl,k _ g1,r1⟩
    . by_cases z2:b=P
      . subst z2
        rw[AF hPc,AK]at e;cases e
        exact htb
      . rw[other b z2 z]at e
        refine(I.hok b u e).stay (λ d v hd q=>hx d v ?_ q) (λ d q=>?_) λ d xs q=>?_
        . rcases hd with rfl|hd
          . exact z2
          . intro y;subst y;rw[hP]at hd;cases hd
        . rw[other d (λ y=>by subst y;rw[hP]at q;cases q) (ne' d _ q)];exact q
        . rw[other d (λ y=>by subst y;rw[hP]at q;cases q) (ne' d _ q)];exact q
structure Made(X:Cx)(scope:Scope)(params:Arguments)(body:Expr)(P:Addr)(q:Str)(pos:Pos)(s:Shared)(H H':Hp)(f:Addr)(cd ctv:Value)(s':Shared):Prop where
  fn:s'.heap.get? f=some { cls:=.type "function",data:=.func (kla_fn "<lambda>" q params body scope (Af X.env.cells scope.names []) ((X.mg "__name__").getD .none) cd ctv) }
  cdc:∃ c,cd=.ref c/\H' c=some (.ext (cdF c q))
  step:EX P q pos H H'
  new:s.heap.objs.size <= f
  fre:H' f=none
theorem LL(S:CSc X scope fr ix)(LA:LamAt X c P)(I:Inv X pins σ H s){A:Around}{E:Value->Shared->Prop}{params:Arguments}{body:Expr}{pos:Pos}{ps:Array Value}{Q:Value->Shared->Prop}(hdef:defaultsOf params X.env=([],[]))
    (hP:H P=some (.tbl ps)) (hg:FJ H (X.env.qual ++ "<lambda>") pos ps)
    (h:∀ f cd ctv H' s',Inv X pins σ H' s'->Made X scope params body P (X.env.qual ++ "<lambda>") pos s H H' f cd ctv s'->Q (.ref f) s') :
    wpAny (model X.prog X.w) A (eval (.Lambda params body scope pos) X.env) Q E s:=by
  have hcl:closureFor scope X.env=pure (Af X.env.cells scope.names []):=DY (S.clos I.ok)
  have hns:=I.mod.glob.keeps I.bk
  have hb:=LA.bl.keeps I.bk
  have hcd:=LA.hd.keeps I.bk
  have hobj:s.heap.get? P=some (tabObj ps):=I.hok P _ hP
  have hgP:mainGlobals ≠ P:=λ z=>by
    obtain⟨o,es,ep,e,hd,_⟩:=hns
    rw[z,hobj]at e;cases e;cases hd
  refine kla_eval hdef ?_
  rcases hg with rfl|⟨c',rfl,hc'⟩
  . refine kla_makeFunction hcl I.ok.glob hns LA.code hcd hobj trivial rfl hgP hb λ c' ctv h' tk hx hge hlt hrec htb=>?_
    have hx':∀ b o,b ≠ P->s.heap.get? b=some o->(h'.push (kla_obj "<lambda>" (X.env.qual ++ "<lambda>") params body scope (Af X.env.cells scope.names []) ((X.mg "__name__").getD .none) c' ctv)).get? b=some o:=λ b o n e=>Heap.get?_push_of_some _ (hx b o n e)
    have J:=TU (t':=tk) I hP hx' hge (hrec.push _) (Heap.get?_push_of_some _ htb)
    refine h _ _ ctv _ _ J ⟨Heap.get?_push_size _ rfl,⟨c',rfl,AK⟩,.inr ⟨c',I.hok.fresh hge,(Ar hP (I.hok.fresh hge)).symm,?_⟩,?_,?_⟩
    . simp
    . exact Nat.le_trans hge (Nat.le_of_lt hlt)
    . have hs:s.heap.objs.size <= h'.objs.size:=Nat.le_trans hge (Nat.le_of_lt hlt)
      rw[AF (Nat.ne_of_gt hlt),AF (Nat.ne_of_gt (Nat.lt_of_lt_of_le (Heap.lt_size hobj) hs))]
      exact I.hok.fresh hs
  . have hrec:s.heap.CodeRec (.ref c') (X.env.qual ++ "<lambda>"):=(I.hok c' _ hc').1
    have hf:codeAmong pos (#[rawInt pos.line,rawInt pos.col,Value.ref c']:Array Value).toList=some (.ref c'):=by simp[codeAmong,rawInt]
    refine kla_makeFunctionHit hcl I.ok.glob hns LA.code hcd hobj (by simp[TriplesOk,rawInt]) hf hb λ ctv h' tk hk hsz=>?_
    have hk':∀ b o,s.heap.get? b=some o->(h'.push { cls:=.type "function",data:=.func (kla_fn "<lambda>" (X.env.qual ++ "<lambda>") params body scope (Af X.env.cells scope.names []) ((X.mg "__name__").getD .none) (.ref c') ctv) }).get? b=some o:=λ b o e=>Heap.get?_push_of_some _ (hk b o e)
    exact h _ _ ctv _ _ (I.kept (t':=tk) hk') ⟨Heap.get?_push_size _ rfl,⟨c',rfl,hc'⟩,.inl rfl,hsz,I.hok.fresh hsz⟩
end
end L2
namespace L2
open PySem PySem.Spec PyProof.Rows
inductive I where
  | non|bl (b:Bool)|int (i:Int)|str (x:Str)|tup (ds:List I)
inductive D where
  | im (i:I)|mu (n:Nat)|tm (ds:List D)|ro (ns:List Int)
inductive MO where
  | lst (ds:List D)|dic (kvs:List (Key × D))
noncomputable abbrev Hd:=List MO
noncomputable abbrev Ls:=List (Option D)
noncomputable def RoL(K:PySem.W.Frag)(H:Hp)(a:Addr)(xs:List V):Prop:=(∃ o,H a=some (.frz o (.lst xs))) ∨
  ∃ (o:Obj) (its:Array Value) (n:Nat),K.lookup a=some o/\o.cls=.type "list"/\o.dict=none/\o.data=.seq its n/\its.size <= sizeLine/\Vals xs its.toList
theorem RoL.sq{K:PySem.W.Frag}{H:Hp}{a:Addr}{xs:List V}(h:RoL K H a xs):SqL K H a xs:=by
  rcases h with⟨o,h⟩|h
  . exact .inl (.inr ⟨o,h⟩)
  . exact .inr h
theorem RoL.grow{K:PySem.W.Frag}{H H':Hp}{a:Addr}{xs:List V}(g:Grow H H')(h:RoL K H a xs):RoL K H' a xs:=by
  rcases h with⟨o,h⟩|h
  . exact .inl ⟨o,g.frz _ _ _ h⟩
  . exact .inr h
noncomputable def C2(n:Nat):Prop:=n <= sizeLine
noncomputable def DN(n:Nat):Prop:=n < sizeLine
noncomputable def EQ(i j:Int):Prop:=(-(2 ^ 64) < i/\i < 2 ^ 64) ∨ (-(2 ^ 64) < j/\j < 2 ^ 64)
noncomputable def NJ(i j:Int):Prop:=0 <= j/\j <= 1000000/\i.natAbs < 2 ^ 64
noncomputable def KD(j:Int):Prop:=0 < j/\j < 1073741824
noncomputable def ER(j:Int):Prop:=0 < j
noncomputable def Ft(j:Int):Prop:=-(2 ^ 62) <= j/\j < 2 ^ 62
noncomputable def Pq(i j:Int):Prop:=(-(2 ^ 62) <= i/\i < 2 ^ 62)/\-(2 ^ 62) <= j/\j < 2 ^ 62
noncomputable def Gn(j:Int):Prop:=j < 2 ^ 24/\-(2 ^ 62) <= j
noncomputable def RV(i j:Int):Prop:=(-(2 ^ 62) <= i/\i < 2 ^ 62)/\(-(2 ^ 62) <= j/\j < 2 ^ 62)/\(j - i).toNat <= 2 ^ 24
theorem Ag{n:Nat}(h:n <= 1000000):C2 n:=Nat.le_trans h (by rw[sizeLine_eq];decide)
theorem Bk{n:Nat}(h:n < 1000000):DN n:=Nat.lt_of_lt_of_le h (by rw[sizeLine_eq];decide)
theorem Dm{i j:Int}(a:-1000000000000 <= i)(b:i <= 1000000000000):EQ i j:=.inl ⟨by omega,by omega⟩
theorem Gu{i j:Int}(a:-1000000000000 <= j)(b:j <= 1000000000000):EQ i j:=.inr ⟨by omega,by omega⟩
theorem Dk{j:Int}(a:-1000000000000 <= j)(b:j <= 1000000000000):Ft j:=⟨by omega,by omega⟩
theorem HV{j:Int}(a:-1000000000000 <= j)(b:j <= 1000000):Gn j:=⟨by omega,by omega⟩
section
variable(K:PySem.W.Frag)
mutual
noncomputable def RI(H:Hp):I->V->Prop
  | .non,v=>v=.non
  | .bl b,v=>v=.bl b
  | .int i,v=>v=.int i
  | .str x,v=>v=.str x
  | .tup ds,v=>∃ a xs,v=.ref a/\SqT K H a xs/\RIs H ds xs
noncomputable def RIs(H:Hp):List I->List V->Prop
  | [],xs=>xs=[]
  | d :: ds,xs=>∃ x r,xs=x :: r/\RI H d x/\RIs H ds r
end
mutual
noncomputable def RD(ρ:List Addr)(H:Hp):D->V->Prop
  | .im i,v=>RI K H i v
  | .mu n,v=>∃ a,ρ[n]? = some a/\v=.ref a
  | .tm ds,v=>∃ a xs,v=.ref a/\SqT K H a xs/\RDs ρ H ds xs
  | .ro ns,v=>∃ a,v=.ref a/\RoL K H a (ns.map V.int)
noncomputable def RDs(ρ:List Addr)(H:Hp):List D->List V->Prop
  | [],xs=>xs=[]
  | d :: ds,xs=>∃ x r,xs=x :: r/\RD ρ H d x/\RDs ρ H ds r
end
noncomputable def RKs(ρ:List Addr)(H:Hp):List (Key × D)->List (Key × V)->Prop
  | [],xs=>xs=[]
  | d :: ds,xs=>∃ x r,xs=x :: r/\x.1=d.1/\RD K ρ H d.2 x.2/\RKs ρ H ds r
noncomputable def RC(ρ:List Addr)(H:Hp):MO->HO->Prop
  | .lst ds,o=>∃ xs,o=.lst xs/\RDs K ρ H ds xs
  | .dic kvs,o=>∃ kv,o=.dK kv/\RKs K ρ H kvs kv
noncomputable def K2:List Value->List (Addr × Str × Pos)
  | .ref P :: .str q _ :: .int l _ :: .int c _ :: r=>(P,q,⟨l.toNat,c.toNat,0,0⟩) :: K2 r
  | _=>[]
noncomputable def Vj(o:Obj):List (Addr × Str × Pos):=match o.cls,o.data with
  | .str _ _,.fields vs=>K2 vs.toList
  | _,_=>[]
noncomputable def Dr(K:PySem.W.Frag):List (Addr × Str × Pos):=match K.getLast? with
  | some p=>Vj p.2
  | none=>[]
noncomputable def TabsOk(K:PySem.W.Frag)(H:Hp):Prop:=∀ x ∈ Dr K,∃ ps,H x.1=some (.tbl ps)/\FJ H x.2.1 x.2.2 ps
structure RH(ρ:List Addr)(H:Hp)(hd:Hd):Prop where
  len:ρ.length=hd.length
  nd:ρ.Nodup
  tabs:TabsOk K H
  ob:∀ (n:Nat) (o:MO) (a:Addr),hd[n]? = some o->ρ[n]? = some a->∃ ho,H a=some ho/\RC K ρ H o ho
structure RL(ρ:List Addr)(H:Hp)(ls:Ls)(σ:St):Prop where
  len:ls.length=σ.length
  ob:∀ (i:Nat) (d:D),ls[i]? = some (some d)->∃ v,σ[i]? = some (some v)/\RD K ρ H d v
end
structure Ext(ρ:List Addr)(H:Hp)(ρ':List Addr)(H':Hp):Prop where
  pre:∃ r,ρ'=ρ ++ r/\∀ b ∈ r,H b=none
  keep:∀ b o,H b=some o->b ∉ ρ->(∀ ps,o ≠ .tbl ps)->H' b=some o
  tab:∀ b ps,H b=some (.tbl ps)->∃ ps',H' b=some (.tbl ps')
theorem nt{o:HO}(h:match o with | .tbl _=>False|_=>True:=by trivial):∀ ps,o ≠ .tbl ps:=λ ps e=>by subst e;exact h
theorem TabsOk.upd{K:PySem.W.Frag}{H:Hp}(t:TabsOk K H){a:Addr}{ho:HO}(h1:∀ ps,H a ≠ some (.tbl ps))(h2:∀ φ,H a ≠ some (.ext φ)):TabsOk K (upd H a ho):=λ x hx=>by
  obtain⟨ps,e,g⟩:=t x hx
  have ne:x.1 ≠ a:=λ z=>h1 ps (by rw[<- z];exact e)
  refine⟨ps,by rw[AF ne];exact e,?_⟩
  rcases g with g|⟨c,g1,g2⟩
  . exact .inl g
  . have nc:c ≠ a:=λ z=>h2 _ (by rw[<- z];exact g2)
    exact .inr ⟨c,g1,by rw[AF nc];exact g2⟩
section
variable{K:PySem.W.Frag}{ρ ρ' ρ1 ρ2:List Addr}{H H' H1 H2:Hp}{hd hd' hd1:Hd}
mutual
theorem RI.grow(g:Grow H H'):∀ {i:I} {v:V},RI K H i v->RI K H' i v
  | .non,v,h=>by simpa only[RI]using h
  | .bl b,v,h=>by simpa only[RI]using h
  | .int b,v,h=>by simpa only[RI]using h
  | .str b,v,h=>by simpa only[RI]using h
  | .tup ds,v,h=>by
    simp only[RI]at h ⊢
    obtain⟨a,xs,e,q,r⟩:=h
    exact⟨a,xs,e,g.sq q,RIs.grow g r⟩
theorem RIs.grow(g:Grow H H'):∀ {i:List I} {v:List V},RIs K H i v->RIs K H' i v
  | [],v,h=>by simpa only[RIs]using h
  | d :: ds,v,h=>by
    simp only[RIs]at h ⊢
    obtain⟨x,r,e,q,z⟩:=h
    exact⟨x,r,e,q.grow g,RIs.grow g z⟩
end
theorem RH.mut(h:RH K ρ H hd){a:Addr}(m:a ∈ ρ):(∃ xs,H a=some (.lst xs)) ∨ ∃ kv,H a=some (.dK kv):=by
  obtain⟨n,e⟩:=List.mem_iff_getElem?.mp m
  have hn:n < hd.length:=by rw[<- h.len];exact(List.getElem?_eq_some_iff.mp e).1
  obtain⟨ho,e1,e2⟩:=h.ob n hd[n] a (by simp[hn]) e
  cases q:hd[n]with
  | lst ds=>rw[q]at e2;obtain⟨xs,rfl,_⟩:=e2;exact .inl ⟨xs,e1⟩
  | dic ds=>rw[q]at e2;obtain⟨xs,rfl,_⟩:=e2;exact .inr ⟨xs,e1⟩
theorem RH.tup_out(h:RH K ρ H hd){a:Addr}{xs:List V}(e:H a=some (.tup xs)):a ∉ ρ:=λ m=>by
  rcases h.mut m with⟨y,z⟩|⟨y,z⟩ <;> (rw[e]at z;cases z)
theorem RH.frz_out(h:RH K ρ H hd){a:Addr}{o:Obj}{u:HO}(e:H a=some (.frz o u)):a ∉ ρ:=λ m=>by
  rcases h.mut m with⟨y,z⟩|⟨y,z⟩ <;> (rw[e]at z;cases z)
theorem Ext.grow(e:Ext ρ H ρ' H')(h:RH K ρ H hd):Grow H H':=⟨λ b xs q=>e.keep b _ q (h.tup_out q) nt,λ b o u q=>e.keep b _ q (h.frz_out q) nt⟩
theorem Ext.refl:Ext ρ H ρ H:=⟨⟨[],by simp,by simp⟩,λ _ _ h _ _=>h,λ _ ps h=>⟨ps,h⟩⟩
theorem Ext.trans(e:Ext ρ H ρ1 H1)(h0:RH K ρ1 H1 hd1)(e2:Ext ρ1 H1 ρ2 H2):Ext ρ H ρ2 H2:=by
  obtain⟨r1,rfl,f1⟩:=e.pre
  obtain⟨r2,rfl,f2⟩:=e2.pre
  refine⟨⟨r1 ++ r2,by simp,λ b m=>?_⟩,λ b o q n t=>?_,λ b ps q=>?_⟩
  . rcases List.mem_append.mp m with m|m
    . exact f1 b m
    . have z:=f2 b m
      cases q:H b with
      | none=>rfl
      | some o=>
        by_cases n:b ∈ ρ
        . rcases h0.mut (List.mem_append_left r1 n)with⟨y,w⟩|⟨y,w⟩ <;> (rw[z]at w;cases w)
        . by_cases t:∃ ps,o=.tbl ps
          . obtain⟨ps,rfl⟩:=t
            obtain⟨ps',this⟩:=e.tab b ps q
            rw[z]at this;cases this
          . have:=e.keep b o q n λ ps y=>t ⟨ps,y⟩
            rw[z]at this;cases this
  . refine e2.keep b o (e.keep b o q n t) (λ m=>?_) t
    rcases List.mem_append.mp m with m|m
    . exact n m
    . have:=f1 b m;rw[q]at this;cases this
  . obtain⟨ps',q'⟩:=e.tab b ps q
    exact e2.tab b ps' q'
mutual
theorem RD.mono(g:Grow H H')(r:List Addr):∀ {d:D} {v:V},RD K ρ H d v->RD K (ρ ++ r) H' d v
  | .im i,v,h=>by simp only[RD]at h ⊢;exact h.grow g
  | .mu n,v,h=>by
    simp only[RD]at h ⊢
    obtain⟨a,e,q⟩:=h
    exact⟨a,by rw[List.getElem?_append_left (List.getElem?_eq_some_iff.mp e).1];exact e,q⟩
  | .tm ds,v,h=>by
    simp only[RD]at h ⊢
    obtain⟨a,xs,e,q,z⟩:=h
    exact⟨a,xs,e,g.sq q,RDs.mono g r z⟩
  | .ro ns,v,h=>by
    simp only[RD]at h ⊢
    obtain⟨a,e,q⟩:=h
    exact⟨a,e,q.grow g⟩
theorem RDs.mono(g:Grow H H')(r:List Addr):∀ {d:List D} {v:List V},RDs K ρ H d v->RDs K (ρ ++ r) H' d v
  | [],v,h=>by simpa only[RDs]using h
  | d :: ds,v,h=>by
    simp only[RDs]at h ⊢
    obtain⟨x,r',e,q,z⟩:=h
    exact⟨x,r',e,q.mono g r,RDs.mono g r z⟩
end
theorem RKs.mono(g:Grow H H')(r:List Addr):∀ {d:List (Key × D)} {v:List (Key × V)},RKs K ρ H d v->RKs K (ρ ++ r) H' d v
  | [],v,h=>by simpa only[RKs]using h
  | d :: ds,v,h=>by
    simp only[RKs]at h ⊢
    obtain⟨x,r',e,q1,q,z⟩:=h
    exact⟨x,r',e,q1,q.mono g r,RKs.mono g r z⟩
theorem RC.mono(g:Grow H H')(r:List Addr){o:MO}{ho:HO}(h:RC K ρ H o ho):RC K (ρ ++ r) H' o ho:=by
  cases o with
  | lst ds=>obtain⟨xs,e,q⟩:=h;exact⟨xs,e,q.mono g r⟩
  | dic ds=>obtain⟨xs,e,q⟩:=h;exact⟨xs,e,q.mono g r⟩
theorem RD.ext(h:RH K ρ H hd)(e:Ext ρ H ρ' H'){d:D}{v:V}(q:RD K ρ H d v):RD K ρ' H' d v:=by
  obtain⟨r,rfl,_⟩:=e.pre
  exact q.mono (e.grow h) r
theorem RDs.ext(h:RH K ρ H hd)(e:Ext ρ H ρ' H'){d:List D}{v:List V}(q:RDs K ρ H d v):RDs K ρ' H' d v:=by
  obtain⟨r,rfl,_⟩:=e.pre
  exact q.mono (e.grow h) r
theorem RL.ext(h:RH K ρ H hd)(e:Ext ρ H ρ' H'){ls:Ls}{σ:St}(q:RL K ρ H ls σ):RL K ρ' H' ls σ:=
  ⟨q.len,λ i d z=>let ⟨v,a,b⟩:=q.ob i d z;⟨v,a,b.ext h e⟩⟩
theorem RDs.len:∀ {ds:List D} {xs:List V},RDs K ρ H ds xs->xs.length=ds.length
  | [],xs,h=>by simp only[RDs]at h;rw[h];rfl
  | d :: ds,xs,h=>by
    simp only[RDs]at h
    obtain⟨x,r,rfl,_,z⟩:=h
    simp[RDs.len z]
theorem RDs.get:∀ {ds:List D} {xs:List V} {i:Nat} {d:D},RDs K ρ H ds xs->ds[i]? = some d->∃ x,xs[i]? = some x/\RD K ρ H d x
  | [],xs,i,d,h,e=>by simp at e
  | d :: ds,xs,0,e,h,q=>by
    simp only[RDs]at h
    obtain⟨x,r,rfl,z,_⟩:=h
    simp at q;subst q
    exact⟨x,rfl,z⟩
  | d :: ds,xs,i + 1,e,h,q=>by
    simp only[RDs]at h
    obtain⟨x,r,rfl,_,z⟩:=h
    obtain⟨y,a,b⟩:=RDs.get (i:=i) z (by simpa using q)
    exact⟨y,by simpa using a,b⟩
theorem RDs.nil:RDs K ρ H [] []:=by simp[RDs]
theorem RDs.cons{d:D}{v:V}{ds:List D}{vs:List V}(h:RD K ρ H d v)(t:RDs K ρ H ds vs):RDs K ρ H (d :: ds) (v :: vs):=by
  simp only[RDs];exact⟨v,vs,rfl,h,t⟩
theorem RDs.app:∀ {ds es:List D} {xs ys:List V},RDs K ρ H ds xs->RDs K ρ H es ys->RDs K ρ H (ds ++ es) (xs ++ ys)
  | [],es,xs,ys,h,t=>by simp only[RDs]at h;subst h;simpa using t
  | d :: ds,es,xs,ys,h,t=>by
    simp only[RDs]at h
    obtain⟨x,r,rfl,z,q⟩:=h
    simp only[List.cons_append]
    exact .cons z (q.app t)
theorem RDs.set:∀ {ds:List D} {xs:List V} {d:D} {v:V} (i:Nat),RDs K ρ H ds xs->RD K ρ H d v->RDs K ρ H (ds.set i d) (xs.set i v)
  | [],xs,d,v,i,h,t=>by simp only[RDs]at h;subst h;simp[RDs]
  | d :: ds,xs,e,v,0,h,t=>by
    simp only[RDs]at h
    obtain⟨x,r,rfl,z,q⟩:=h
    simpa using RDs.cons t q
  | d :: ds,xs,e,v,i + 1,h,t=>by
    simp only[RDs]at h
    obtain⟨x,r,rfl,z,q⟩:=h
    simpa using RDs.cons z (q.set i t)
theorem RDs.drop:∀ {ds:List D} {xs:List V} (n:Nat),RDs K ρ H ds xs->RDs K ρ H (ds.drop n) (xs.drop n)
  | ds,xs,0,h=>by simpa using h
  | [],xs,n + 1,h=>by simp only[RDs]at h;subst h;simp[RDs]
  | d :: ds,xs,n + 1,h=>by
    simp only[RDs]at h
    obtain⟨x,r,rfl,z,q⟩:=h
    simpa using q.drop n
theorem RDs.take:∀ {ds:List D} {xs:List V} (n:Nat),RDs K ρ H ds xs->RDs K ρ H (ds.take n) (xs.take n)
  | ds,xs,0,h=>by simp[RDs]
  | [],xs,n + 1,h=>by simp only[RDs]at h;subst h;simp[RDs]
  | d :: ds,xs,n + 1,h=>by
    simp only[RDs]at h
    obtain⟨x,r,rfl,z,q⟩:=h
    simpa using RDs.cons z (q.take n)
theorem RIs.ds:∀ {is:List I} {xs:List V},RIs K H is xs->RDs K ρ H (is.map D.im) xs
  | [],xs,h=>by simpa only[RIs,RDs,List.map_nil]using h
  | i :: is,xs,h=>by
    simp only[RIs]at h
    obtain⟨x,r,rfl,z,q⟩:=h
    exact .cons (by simpa only[RD]using z) q.ds
theorem RDs.is:∀ {is:List I} {xs:List V},RDs K ρ H (is.map D.im) xs->RIs K H is xs
  | [],xs,h=>by simpa only[RIs,RDs,List.map_nil]using h
  | i :: is,xs,h=>by
    simp only[List.map_cons,RDs]at h
    obtain⟨x,r,rfl,z,q⟩:=h
    simp only[RIs]
    exact⟨x,r,rfl,by simpa only[RD]using z,q.is⟩
theorem RH.put(h:RH K ρ H hd){n:Nat}{a:Addr}(hn:ρ[n]? = some a){o:MO}{ho:HO}(c:RC K ρ H o ho):RH K ρ (upd H a ho) (hd.set n o)/\Ext ρ H ρ (upd H a ho):=by
  have ha:=h.mut (List.mem_of_getElem? hn)
  have n1:∀ ps,H a ≠ some (.tbl ps):=λ ps e=>by rcases ha with⟨y,z⟩|⟨y,z⟩ <;> (rw[e]at z;cases z)
  have n2:∀ φ,H a ≠ some (.ext φ):=λ ps e=>by rcases ha with⟨y,z⟩|⟨y,z⟩ <;> (rw[e]at z;cases z)
  have ex:Ext ρ H ρ (upd H a ho):=⟨⟨[],by simp,by simp⟩,λ b o q m _=>by
    have:b ≠ a:=λ z=>m (by rw[z];exact List.mem_of_getElem? hn)
    rw[AF this];exact q,λ b ps q=>⟨ps,(AF (show b ≠ a from λ z=>n1 ps (by rw[<- z];exact q))).trans q⟩⟩
  have gr:=ex.grow h
  refine⟨⟨by simp[h.len],h.nd,h.tabs.upd n1 n2,λ m o' b e1 e2=>?_⟩,ex⟩
  have hm:m < hd.length:=by rw[<- h.len];exact(List.getElem?_eq_some_iff.mp e2).1
  by_cases hmn:m=n
  . subst hmn
    rw[hn]at e2;cases e2
    rw[List.getElem?_set_self hm]at e1
    cases e1
    exact⟨ho,AK,by simpa using c.mono gr []⟩
  . rw[List.getElem?_set_ne (λ z=>hmn z.symm)]at e1
    obtain⟨ho',q1,q2⟩:=h.ob m o' b e1 e2
    have:b ≠ a:=λ z=>by
      subst z
      have l1:=(List.getElem?_eq_some_iff.mp e2).1
      have l2:=(List.getElem?_eq_some_iff.mp hn).1
      exact hmn ((List.getElem?_inj l1 h.nd).mp (e2.trans hn.symm))
    exact⟨ho',by rw[AF this];exact q1,by simpa using q2.mono gr []⟩
theorem RH.lst(h:RH K ρ H hd){n:Nat}{a:Addr}{ds:List D}(hn:ρ[n]? = some a)(e:hd[n]? = some (.lst ds)):∃ xs,H a=some (.lst xs)/\RDs K ρ H ds xs:=by
  obtain⟨ho,q,xs,rfl,r⟩:=h.ob n _ a e hn
  exact⟨xs,q,r⟩
theorem RH.dic(h:RH K ρ H hd){n:Nat}{a:Addr}{ds:List (Key × D)}(hn:ρ[n]? = some a)(e:hd[n]? = some (.dic ds)):∃ xs,H a=some (.dK xs)/\RKs K ρ H ds xs:=by
  obtain⟨ho,q,xs,rfl,r⟩:=h.ob n _ a e hn
  exact⟨xs,q,r⟩
theorem RH.hid(h:RH K ρ H hd){a:Addr}(ha:H a=none){ho:HO}:RH K ρ (upd H a ho) hd/\Ext ρ H ρ (upd H a ho):=by
  have out:a ∉ ρ:=λ m=>by rcases h.mut m with⟨y,z⟩|⟨y,z⟩ <;> (rw[ha]at z;cases z)
  have ex:Ext ρ H ρ (upd H a ho):=⟨⟨[],by simp,by simp⟩,λ b o q n _=>by rw[AF (Ar q ha)];exact q,λ b ps q=>⟨ps,by rw[AF (Ar q ha)];exact q⟩⟩
  have gr:=ex.grow h
  refine⟨⟨h.len,h.nd,h.tabs.upd (by simp[ha]) (by simp[ha]),λ m o' b e1 e2=>?_⟩,ex⟩
  obtain⟨ho',q1,q2⟩:=h.ob m o' b e1 e2
  exact⟨ho',by rw[AF (Ar q1 ha)];exact q1,by simpa using q2.mono gr []⟩
theorem RH.hput(h:RH K ρ H hd){a:Addr}(out:a ∉ ρ){xs:List V}{ho:HO}(hl:H a=some (.lst xs)):RH K ρ (upd H a ho) hd:=by
  have gr:Grow H (upd H a ho):=Grow.refl.put (.lst hl)
  refine⟨h.len,h.nd,h.tabs.upd (by simp[hl]) (by simp[hl]),λ m o' b e1 e2=>?_⟩
  obtain⟨ho',q1,q2⟩:=h.ob m o' b e1 e2
  have:b ≠ a:=λ z=>out (by rw[<- z];exact List.mem_of_getElem? e2)
  exact⟨ho',by rw[AF this];exact q1,by simpa using q2.mono gr []⟩
end
end L2
namespace L2
open PySem PySem.Spec PyProof.Rows
noncomputable abbrev ME:=Ls->Hd->Option (D × Hd)
noncomputable abbrev MT:=Ls->Hd->Option (Bool × Hd)
noncomputable abbrev MA:=Ls->Hd->Option (List D × Hd)
inductive Fl where
  | nx (ls:Ls)|rt (d:D)|bk (ls:Ls)|ct (ls:Ls)
noncomputable abbrev MS:=Ls->Hd->Option (Fl × Hd)
section
variable(K:PySem.W.Frag)
noncomputable def RE(t:TE)(m:ME):Prop:=∀ (ρ:List Addr) (σ:St) (H:Hp) (hd:Hd) (ls:Ls) (Q:VK) (d:D) (hd':Hd),RH K ρ H hd->RL K ρ H ls σ->m ls hd=some (d,hd') ->
  (∀ ρ' H' v,Ext ρ H ρ' H'->RH K ρ' H' hd'->RD K ρ' H' d v->Q v H')->t σ H Q
noncomputable def RT(t:TT)(m:MT):Prop:=∀ (ρ:List Addr) (σ:St) (H:Hp) (hd:Hd) (ls:Ls) (Q:Bool->Hp->Prop) (d:Bool) (hd':Hd),RH K ρ H hd->RL K ρ H ls σ->m ls hd=some (d,hd') ->
  (∀ ρ' H',Ext ρ H ρ' H'->RH K ρ' H' hd'->Q d H')->t σ H Q
noncomputable def RA(t:TA)(m:MA):Prop:=∀ (ρ:List Addr) (σ:St) (H:Hp) (hd:Hd) (ls:Ls) (Q:List V->Hp->Prop) (d:List D) (hd':Hd),RH K ρ H hd->RL K ρ H ls σ->m ls hd=some (d,hd') ->
  (∀ ρ' H' v,Ext ρ H ρ' H'->RH K ρ' H' hd'->RDs K ρ' H' d v->Q v H')->t σ H Q
noncomputable def RN(t:TE)(m:MA):Prop:=∀ (ρ:List Addr) (σ:St) (H:Hp) (hd:Hd) (ls:Ls) (Q:VK) (d:List D) (hd':Hd),RH K ρ H hd->RL K ρ H ls σ->m ls hd=some (d,hd') ->
  (∀ ρ' H' a xs,Ext ρ H ρ' H'->RH K ρ' H' hd'->H a=none->a ∉ ρ'->H' a=some (.lst xs)->RDs K ρ' H' d xs->Q (.ref a) H')->t σ H Q
noncomputable def WX(E:Ends)(ρ:List Addr)(H:Hp):Fl->Prop
  | .nx ls=>∀ σ,RL K ρ H ls σ->E.nx σ H
  | .bk ls=>∀ σ,RL K ρ H ls σ->E.bk σ H
  | .ct ls=>∀ σ,RL K ρ H ls σ->E.ct σ H
  | .rt d=>∀ v,RD K ρ H d v->E.rt v H
noncomputable def RS(t:TS)(m:MS):Prop:=∀ (ρ:List Addr) (σ:St) (H:Hp) (hd:Hd) (ls:Ls) (E:Ends) (f:Fl) (hd':Hd),RH K ρ H hd->RL K ρ H ls σ->m ls hd=some (f,hd') ->
  (∀ ρ' H',Ext ρ H ρ' H'->RH K ρ' H' hd'->WX K E ρ' H' f)->t E σ H
noncomputable def RB(r:R2)(f:D->D->Hd->Option (D × Hd)):Prop:=∀ (ρ:List Addr) (H:Hp) (hd:Hd) (d e:D) (v u:V) (Q:VK) (z:D) (hd':Hd),RH K ρ H hd->RD K ρ H d v->RD K ρ H e u->f d e hd=some (z,hd') ->
  (∀ ρ' H' w,Ext ρ H ρ' H'->RH K ρ' H' hd'->RD K ρ' H' z w->Q w H')->r v u H Q
noncomputable def RF(r:List V->Hp->VK->Prop)(f:List D->Hd->Option (D × Hd)):Prop:=∀ (ρ:List Addr) (H:Hp) (hd:Hd) (ds:List D) (vs:List V) (Q:VK) (z:D) (hd':Hd),RH K ρ H hd->RDs K ρ H ds vs->f ds hd=some (z,hd') ->
  (∀ ρ' H' w,Ext ρ H ρ' H'->RH K ρ' H' hd'->RD K ρ' H' z w->Q w H')->r vs H Q
noncomputable def RG(tp:Bool)(r:List V->Hp->VK->Prop)(g:List D->Option D):Prop:=∀ (ρ:List Addr) (H:Hp) (hd:Hd) (a:Addr) (xs:List V) (ds:List D) (Q:VK) (z:D),RH K ρ H hd->(SqL K H a xs ∨ (tp=true/\SqT K H a xs))->RDs K ρ H ds xs->g ds=some z ->
  (∀ H' w,Ext ρ H ρ H'->RH K ρ H' hd->RD K ρ H' z w->Q w H')->r [.ref a] H Q
end
structure QE(K:PySem.W.Frag)(X:Cx)(e:Expr)(t:TE)(m:ME):Prop where
  p:PE X e t
  r:RE K t m
structure QT(K:PySem.W.Frag)(X:Cx)(e:Expr)(t:TT)(m:MT):Prop where
  p:PT X e t
  r:RT K t m
structure QW(K:PySem.W.Frag)(X:Cx)(e:Expr)(t:TT)(m:MT):Prop where
  p:PW X e t
  r:RT K t m
structure QA(K:PySem.W.Frag)(X:Cx)(e:List Expr)(t:TA)(m:MA):Prop where
  p:PA X e t
  r:RA K t m
structure QN(K:PySem.W.Frag)(X:Cx)(e:Expr)(t:TE)(m:MA):Prop where
  p:PE X e t
  r:RN K t m
structure QS(K:PySem.W.Frag)(X:Cx)(e:Stmt)(t:TS)(m:MS):Prop where
  p:PS X e t
  r:RS K t m
structure QSs(K:PySem.W.Frag)(X:Cx)(e:List Stmt)(t:TS)(m:MS):Prop where
  p:PSs X e t
  r:RS K t m
noncomputable def Ac:D->Option (List D)
  | .im (.tup is)=>some (is.map .im)
  | .tm ds=>some ds
  | _=>none
noncomputable def Ax(hd:Hd):D->Option (List D)
  | .mu n=>match hd[n]? with
    | some (.lst ds)=>some ds
    | _=>none
  | .ro ns=>some (ns.map λ n=>.im (.int n))
  | _=>none
noncomputable def B2(hd:Hd)(d:D):Option (List D):=match Ac d with
  | some ds=>some ds
  | none=>Ax hd d
noncomputable def Bj:List D->Option (List I)
  | []=>some []
  | .im i :: r=>(Bj r).map (i :: ·)
  | _ :: _=>none
noncomputable def BF(ds:List D):D:=match Bj ds with
  | some is=>.im (.tup is)
  | none=>.tm ds
noncomputable def BN:List D->Option (List Int)
  | []=>some []
  | .im (.int i) :: r=>(BN r).map (i :: ·)
  | _ :: _=>none
noncomputable def CW:List D->Option (List Bool)
  | []=>some []
  | .im (.bl i) :: r=>(CW r).map (i :: ·)
  | _ :: _=>none
section
variable{K:PySem.W.Frag}{ρ ρ':List Addr}{H H':Hp}{hd hd':Hd}
theorem GD:∀ {ds:List D} {is:List I},Bj ds=some is->ds=is.map .im
  | [],is,h=>by simp[Bj]at h;subst h;rfl
  | .im i :: r,is,h=>by
    simp only[Bj,Option.map_eq_some_iff]at h
    obtain⟨js,e,rfl⟩:=h
    simp[GD e]
  | .mu _ :: _,is,h=>by simp[Bj]at h
  | .tm _ :: _,is,h=>by simp[Bj]at h
  | .ro _ :: _,is,h=>by simp[Bj]at h
theorem Eo:∀ {ds:List D} {is:List Int},BN ds=some is->ds=is.map λ i=>.im (.int i)
  | [],is,h=>by simp[BN]at h;subst h;rfl
  | .im (.int i) :: r,is,h=>by
    simp only[BN,Option.map_eq_some_iff]at h
    obtain⟨js,e,rfl⟩:=h
    simp[Eo e]
  | .im (.bl _) :: _,is,h=>by simp[BN]at h
  | .im (.str _) :: _,is,h=>by simp[BN]at h
  | .im .non :: _,is,h=>by simp[BN]at h
  | .im (.tup _) :: _,is,h=>by simp[BN]at h
  | .mu _ :: _,is,h=>by simp[BN]at h
  | .tm _ :: _,is,h=>by simp[BN]at h
  | .ro _ :: _,is,h=>by simp[BN]at h
theorem JR:∀ {ds:List D} {is:List Bool},CW ds=some is->ds=is.map λ i=>.im (.bl i)
  | [],is,h=>by simp[CW]at h;subst h;rfl
  | .im (.bl i) :: r,is,h=>by
    simp only[CW,Option.map_eq_some_iff]at h
    obtain⟨js,e,rfl⟩:=h
    simp[JR e]
  | .im (.int _) :: _,is,h=>by simp[CW]at h
  | .im (.str _) :: _,is,h=>by simp[CW]at h
  | .im .non :: _,is,h=>by simp[CW]at h
  | .im (.tup _) :: _,is,h=>by simp[CW]at h
  | .mu _ :: _,is,h=>by simp[CW]at h
  | .tm _ :: _,is,h=>by simp[CW]at h
  | .ro _ :: _,is,h=>by simp[CW]at h
@[simp] theorem allIm_map(is:List I):Bj (is.map .im)=some is:=by induction is <;> simp_all [Bj]
@[simp] theorem Od(is:List Int):BN (is.map λ i=>.im (.int i))=some is:=by induction is <;> simp_all [BN]
@[simp] theorem blsD_map(is:List Bool):CW (is.map λ i=>.im (.bl i))=some is:=by induction is <;> simp_all [CW]
theorem FS:∀ {ns:List Int} {xs:List V},RDs K ρ H (ns.map λ i=>.im (.int i)) xs->xs=ns.map V.int
  | [],xs,h=>by simpa [RDs]using h
  | n :: ns,xs,h=>by
    simp only[List.map_cons,RDs,RD,RI]at h
    obtain⟨x,r,rfl,rfl,z⟩:=h
    rw[FS z];rfl
theorem Ff:∀ {ns:List Int},RDs K ρ H (ns.map λ i=>.im (.int i)) (ns.map V.int)
  | []=>by simp[RDs]
  | n :: ns=>by simp only[List.map_cons];exact .cons (by simp[RD,RI]) Ff
theorem Kq:∀ {ns:List Bool} {xs:List V},RDs K ρ H (ns.map λ i=>.im (.bl i)) xs->xs=ns.map V.bl
  | [],xs,h=>by simpa [RDs]using h
  | n :: ns,xs,h=>by
    simp only[List.map_cons,RDs,RD,RI]at h
    obtain⟨x,r,rfl,rfl,z⟩:=h
    rw[Kq z];rfl
theorem RD.tup{d:D}{v:V}{ds:List D}(h:RD K ρ H d v)(e:Ac d=some ds):∃ a xs,v=.ref a/\SqT K H a xs/\RDs K ρ H ds xs:=by
  cases d with
  | im i=>
    cases i with
    | tup is=>
      simp only[Ac,Option.some.injEq]at e
      subst e
      simp only[RD,RI]at h
      obtain⟨a,xs,rfl,q,r⟩:=h
      exact⟨a,xs,rfl,q,r.ds⟩
    | _=>simp[Ac]at e
  | tm es=>
    simp only[Ac,Option.some.injEq]at e
    subst e
    simpa only[RD]using h
  | _=>simp[Ac]at e
theorem RD.lst{d:D}{v:V}{ds:List D}(hR:RH K ρ H hd)(h:RD K ρ H d v)(e:Ax hd d=some ds):∃ a xs,v=.ref a/\SqL K H a xs/\RDs K ρ H ds xs:=by
  cases d with
  | mu n=>
    simp only[Ax]at e
    simp only[RD]at h
    obtain⟨a,hn,rfl⟩:=h
    split at e
    . next q=>
      cases e
      obtain⟨xs,e1,e2⟩:=hR.lst hn q
      exact⟨a,xs,rfl,SqL.of e1,e2⟩
    . cases e
  | ro ns=>
    simp only[Ax,Option.some.injEq]at e
    subst e
    simp only[RD]at h
    obtain⟨a,rfl,q⟩:=h
    exact⟨a,_,rfl,q.sq,Ff⟩
  | _=>simp[Ax]at e
theorem RD.seq{d:D}{v:V}{ds:List D}(hR:RH K ρ H hd)(h:RD K ρ H d v)(e:B2 hd d=some ds):∃ a xs,v=.ref a/\(SqL K H a xs ∨ SqT K H a xs)/\RDs K ρ H ds xs:=by
  unfold B2 at e
  split at e
  . next q=>
    cases e
    obtain⟨a,xs,e1,e2,e3⟩:=h.tup q
    exact⟨a,xs,e1,.inr e2,e3⟩
  . obtain⟨a,xs,e1,e2,e3⟩:=h.lst hR e
    exact⟨a,xs,e1,.inl e2,e3⟩
theorem Cw{ds:List D}{a:Addr}{xs:List V}(q:SqT K H a xs)(r:RDs K ρ H ds xs):RD K ρ H (BF ds) (.ref a):=by
  unfold BF
  split
  . next e=>
    rw[GD e]at r
    simp only[RD,RI]
    exact⟨a,xs,rfl,q,r.is⟩
  . simp only[RD]
    exact⟨a,xs,rfl,q,r⟩
noncomputable def A0(i:Nat):ME:=λ ls hd=>match ls[i]? with
  | some (some d)=>some (d,hd)
  | _=>none
theorem UL{i:Nat}:RE K (PP i) (A0 i):=by
  intro ρ σ H hd ls Q d hd' hR hL hm hQ
  unfold A0 at hm
  split at hm
  . next e=>
    cases hm
    obtain⟨v,e1,e2⟩:=hL.ob i _ e
    exact⟨v,e1,hQ ρ H v .refl hR e2⟩
  . cases hm
noncomputable def mC(i:I):ME:=λ _ hd=>some (.im i,hd)
theorem NA{v:V}{i:I}(h:∀ H,RI K H i v):RE K (tC v) (mC i):=by
  intro ρ σ H hd ls Q d hd' hR hL hm hQ
  cases hm
  exact hQ ρ H v .refl hR (by simpa only[RD]using h H)
noncomputable def mOp(f:D->D->Hd->Option (D × Hd))(ma mb:ME):ME:=λ ls hd=>(ma ls hd).bind λ p=>(mb ls p.2).bind λ q=>f p.1 q.1 q.2
theorem K4{r:R2}{f:D->D->Hd->Option (D × Hd)}{ta tb:TE}{ma mb:ME}(hr:RB K r f)(ha:RE K ta ma)(hb:RE K tb mb):RE K (tOp r ta tb) (mOp f ma mb):=by
  intro ρ σ H hd ls Q d hd' hR hL hm hQ
  obtain⟨⟨d1,h1⟩,e1,hm⟩:=Option.bind_eq_some_iff.mp hm
  obtain⟨⟨d2,h2⟩,e2,hm⟩:=Option.bind_eq_some_iff.mp hm
  refine ha ρ σ H hd ls _ d1 h1 hR hL e1 λ ρ1 H1 v1 x1 R1 r1=>?_
  refine hb ρ1 σ H1 h1 ls _ d2 h2 R1 (hL.ext hR x1) e2 λ ρ2 H2 v2 x2 R2 r2=>?_
  exact hr ρ2 H2 h2 d1 d2 v1 v2 Q d hd' R2 (r1.ext R1 x2) r2 hm λ ρ' H' w x3 R3 r3=>hQ ρ' H' w ((x1.trans R1 x2).trans R2 x3) R3 r3
noncomputable def E2(ta tb:MT):MT:=λ ls hd=>(ta ls hd).bind λ p=>if p.1=true then tb ls p.2 else some (false,p.2)
noncomputable def mOr(ta tb:MT):MT:=λ ls hd=>(ta ls hd).bind λ p=>if p.1=true then some (true,p.2)else tb ls p.2
noncomputable def LG(ta:MT):MT:=λ ls hd=>(ta ls hd).bind λ p=>some (!p.1,p.2)
theorem U3{ta tb:TT}{ma mb:MT}(ha:RT K ta ma)(hb:RT K tb mb):RT K (Pd ta tb) (E2 ma mb):=by
  intro ρ σ H hd ls Q d hd' hR hL hm hQ
  obtain⟨⟨d1,h1⟩,e1,hm⟩:=Option.bind_eq_some_iff.mp hm
  refine ha ρ σ H hd ls _ d1 h1 hR hL e1 λ ρ1 H1 x1 R1=>?_
  cases d1 with
  | true=>
    rw[if_pos rfl]at hm ⊢
    exact hb ρ1 σ H1 h1 ls Q d hd' R1 (hL.ext hR x1) hm λ ρ2 H2 x2 R2=>hQ ρ2 H2 (x1.trans R1 x2) R2
  | false=>
    rw[if_neg Bool.false_ne_true]at hm ⊢
    cases hm
    exact hQ ρ1 H1 x1 R1
theorem Vm{ta tb:TT}{ma mb:MT}(ha:RT K ta ma)(hb:RT K tb mb):RT K (tOr ta tb) (mOr ma mb):=by
  intro ρ σ H hd ls Q d hd' hR hL hm hQ
  obtain⟨⟨d1,h1⟩,e1,hm⟩:=Option.bind_eq_some_iff.mp hm
  refine ha ρ σ H hd ls _ d1 h1 hR hL e1 λ ρ1 H1 x1 R1=>?_
  cases d1 with
  | true=>
    rw[if_pos rfl]at hm ⊢
    cases hm
    exact hQ ρ1 H1 x1 R1
  | false=>
    rw[if_neg Bool.false_ne_true]at hm ⊢
    exact hb ρ1 σ H1 h1 ls Q d hd' R1 (hL.ext hR x1) hm λ ρ2 H2 x2 R2=>hQ ρ2 H2 (x1.trans R1 x2) R2
theorem U2{ta:TT}{ma:MT}(ha:RT K ta ma):RT K (PV ta) (LG ma):=by
  intro ρ σ H hd ls Q d hd' hR hL hm hQ
  obtain⟨⟨d1,h1⟩,e1,hm⟩:=Option.bind_eq_some_iff.mp hm
  cases hm
  exact ha ρ σ H hd ls _ d1 h1 hR hL e1 λ ρ1 H1 x1 R1=>hQ ρ1 H1 x1 R1
open Classical in
noncomputable def Dc(hd:Hd):D->Option Bool
  | .im .non=>some false
  | .im (.bl b)=>some b
  | .im (.int i)=>some (i != 0)
  | .im (.str x)=>if C2 x.length then some ((x.length:Int) != 0)else none
  | .im (.tup is)=>some (!is.isEmpty)
  | .tm is=>some (!is.isEmpty)
  | .ro ns=>some (!ns.isEmpty)
  | .mu n=>match hd[n]? with
    | some (.lst ds)=>some (!ds.isEmpty)
    | some (.dic ds)=>some (!ds.isEmpty)
    | none=>none
theorem DU{α β:Type}{xs:List α}{ys:List β}(h:xs.length=ys.length):xs.isEmpty=ys.isEmpty:=by
  cases xs <;> cases ys <;> simp_all
theorem RKs.len:∀ {ds:List (Key × D)} {xs:List (Key × V)},RKs K ρ H ds xs->xs.length=ds.length
  | [],xs,h=>by simp only[RKs]at h;rw[h];rfl
  | d :: ds,xs,h=>by
    simp only[RKs]at h
    obtain⟨x,r,rfl,_,_,z⟩:=h
    simp[RKs.len z]
theorem SA{d:D}{v:V}{b:Bool}(hR:RH K ρ H hd)(h:RD K ρ H d v)(e:Dc hd d=some b):Ll K v H b:=by
  cases d with
  | im i=>
    cases i with
    | non=>simp only[RD,RI]at h;subst h;simp only[Dc,Option.some.injEq]at e;subst e;exact rfl
    | bl c=>simp only[RD,RI]at h;subst h;simp only[Dc,Option.some.injEq]at e;subst e;exact rfl
    | int c=>simp only[RD,RI]at h;subst h;simp only[Dc,Option.some.injEq]at e;subst e;exact rfl
    | str c=>
      simp only[RD,RI]at h;subst h;simp only[Dc]at e
      split at e
      . next z=>cases e;exact⟨z,rfl⟩
      . cases e
    | tup is=>
      obtain⟨a,xs,rfl,q,r⟩:=h.tup (ds:=is.map .im) rfl
      simp only[Dc,Option.some.injEq]at e;subst e
      exact .inr (.inl ⟨xs,q,by rw[DU (show xs.length=is.length by simpa using r.len)]⟩)
  | tm ds=>
    obtain⟨a,xs,rfl,q,r⟩:=h.tup (ds:=ds) rfl
    simp only[Dc,Option.some.injEq]at e;subst e
    exact .inr (.inl ⟨xs,q,by rw[DU r.len]⟩)
  | ro ns=>
    obtain⟨a,xs,rfl,q,r⟩:=h.lst hR (hd:=hd) (ds:=ns.map λ n=>.im (.int n)) rfl
    simp only[Dc,Option.some.injEq]at e;subst e
    exact .inl ⟨xs,q,by rw[DU (show xs.length=ns.length by simpa using r.len)]⟩
  | mu n=>
    simp only[RD]at h
    obtain⟨a,hn,rfl⟩:=h
    simp only[Dc]at e
    split at e
    . next q=>
      cases e
      obtain⟨xs,e1,e2⟩:=hR.lst hn q
      exact .inl ⟨xs,SqL.of e1,by rw[DU e2.len]⟩
    . next q=>
      cases e
      obtain⟨xs,e1,e2⟩:=hR.dic hn q
      exact .inr (.inr ⟨xs,e1,by rw[DU e2.len]⟩)
    . cases e
noncomputable def Em(ma:ME):MT:=λ ls hd=>(ma ls hd).bind λ p=>(Dc p.2 p.1).map (·,p.2)
theorem Pl{ta:TE}{ma:ME}(ha:RE K ta ma):RT K (λ σ H Q=>ta σ H λ x H'=>∃ k,Ll K x H' k/\Q k H') (Em ma):=by
  intro ρ σ H hd ls Q d hd' hR hL hm hQ
  obtain⟨⟨d1,h1⟩,e1,hm⟩:=Option.bind_eq_some_iff.mp hm
  obtain⟨b,e2,e3⟩:=Option.map_eq_some_iff.mp hm
  cases e3
  exact ha ρ σ H hd ls _ d1 h1 hR hL e1 λ ρ1 H1 v x1 R1 r1=>⟨_,SA R1 r1 e2,hQ ρ1 H1 x1 R1⟩
noncomputable def AI(ma:ME):MT:=λ ls hd=>(ma ls hd).bind λ p=>match p.1 with
  | .im (.bl b)=>some (b,p.2)
  | _=>none
theorem Iw{ta:TE}{ma:ME}(ha:RE K ta ma):RT K (K3 ta) (AI ma):=by
  intro ρ σ H hd ls Q d hd' hR hL hm hQ
  obtain⟨⟨d1,h1⟩,e1,hm⟩:=Option.bind_eq_some_iff.mp hm
  dsimp only at hm
  split at hm
  . cases hm
    exact ha ρ σ H hd ls _ _ _ hR hL e1 λ ρ1 H1 v x1 R1 r1=>⟨_,by simpa only[RD,RI]using r1,hQ ρ1 H1 x1 R1⟩
  . cases hm
theorem U4{ta:TE}{ma:ME}(ha:RE K ta ma):RT K (tB ta) (AI ma):=Iw ha
noncomputable def mIf(c:MT)(ma mb:ME):ME:=λ ls hd=>(c ls hd).bind λ p=>if p.1=true then ma ls p.2 else mb ls p.2
theorem Vp{tc:TT}{c:MT}{ta tb:TE}{ma mb:ME}(hc:RT K tc c)(ha:RE K ta ma)(hb:RE K tb mb):RE K (tIf tc ta tb) (mIf c ma mb):=by
  intro ρ σ H hd ls Q d hd' hR hL hm hQ
  obtain⟨⟨d1,h1⟩,e1,hm⟩:=Option.bind_eq_some_iff.mp hm
  refine hc ρ σ H hd ls _ d1 h1 hR hL e1 λ ρ1 H1 x1 R1=>?_
  cases d1 with
  | true=>
    rw[if_pos rfl]at hm ⊢
    exact ha ρ1 σ H1 h1 ls Q d hd' R1 (hL.ext hR x1) hm λ ρ2 H2 v x2 R2 r2=>hQ ρ2 H2 v (x1.trans R1 x2) R2 r2
  | false=>
    rw[if_neg Bool.false_ne_true]at hm ⊢
    exact hb ρ1 σ H1 h1 ls Q d hd' R1 (hL.ext hR x1) hm λ ρ2 H2 v x2 R2 r2=>hQ ρ2 H2 v (x1.trans R1 x2) R2 r2
noncomputable def WD(ma mb:ME):ME:=λ ls hd=>(AI ma ls hd).bind λ p=>if p.1=true then mb ls p.2 else some (.im (.bl false),p.2)
noncomputable def Wl(ma mb:ME):ME:=λ ls hd=>(AI ma ls hd).bind λ p=>if p.1=true then some (.im (.bl true),p.2)else mb ls p.2
noncomputable def W7(ma:ME):ME:=λ ls hd=>(AI ma ls hd).bind λ p=>some (.im (.bl (!p.1)),p.2)
noncomputable def A6:MA:=λ _ hd=>some ([],hd)
noncomputable def A2(ma:ME)(mr:MA):MA:=λ ls hd=>(ma ls hd).bind λ p=>(mr ls p.2).bind λ q=>some (p.1 :: q.1,q.2)
theorem Kr:RA K C0 A6:=by
  intro ρ σ H hd ls Q d hd' hR hL hm hQ
  cases hm
  exact hQ ρ H [] .refl hR .nil
theorem Sc{ta:TE}{tr:TA}{ma:ME}{mr:MA}(ha:RE K ta ma)(hr:RA K tr mr):RA K (Bw ta tr) (A2 ma mr):=by
  intro ρ σ H hd ls Q d hd' hR hL hm hQ
  obtain⟨⟨d1,h1⟩,e1,hm⟩:=Option.bind_eq_some_iff.mp hm
  obtain⟨⟨d2,h2⟩,e2,hm⟩:=Option.bind_eq_some_iff.mp hm
  cases hm
  refine ha ρ σ H hd ls _ d1 h1 hR hL e1 λ ρ1 H1 v1 x1 R1 r1=>?_
  exact hr ρ1 σ H1 h1 ls _ d2 _ R1 (hL.ext hR x1) e2 λ ρ2 H2 v2 x2 R2 r2=>hQ ρ2 H2 _ (x1.trans R1 x2) R2 (.cons (r1.ext R1 x2) r2)
open Classical in
noncomputable def DD(ma:MA):ME:=λ ls hd=>(ma ls hd).bind λ p=>if C2 p.1.length then some (BF p.1,p.2)else none
theorem UM{t:TA}{m:MA}(h:RA K t m):RE K (PQ t) (DD m):=by
  intro ρ σ H hd ls Q d hd' hR hL hm hQ
  obtain⟨⟨d1,h1⟩,e1,hm⟩:=Option.bind_eq_some_iff.mp hm
  dsimp only at hm
  split at hm
  . next z=>
    cases hm
    refine h ρ σ H hd ls _ d1 _ hR hL e1 λ ρ1 H1 v1 x1 R1 r1=>⟨by rw[r1.len];exact z,λ p hp=>?_⟩
    obtain⟨R2,x2⟩:=R1.hid (ho:=.tup v1) hp
    exact hQ ρ1 _ _ (x1.trans R1 x2) R2 (Cw (SqT.of AK) (r1.ext R1 x2))
  . cases hm
open Classical in
noncomputable def BA(ma:MA):MA:=λ ls hd=>(ma ls hd).bind λ p=>if C2 p.1.length then some (p.1,p.2)else none
theorem RH.out(hR:RH K ρ H hd){a:Addr}(h:H a=none):a ∉ ρ:=λ m=>by rcases hR.mut m with⟨y,z⟩|⟨y,z⟩ <;> (rw[h]at z;cases z)
theorem Ext.none(e:Ext ρ H ρ' H')(hR:RH K ρ H hd){a:Addr}(h:H' a=none)(hR':RH K ρ' H' hd'):H a=none:=by
  cases q:H a with
  | none=>rfl
  | some o=>
    by_cases m:a ∈ ρ
    . obtain⟨r,rfl,_⟩:=e.pre
      exact absurd (List.mem_append_left r m) (hR'.out h)
    . by_cases t:∃ ps,o=.tbl ps
      . obtain⟨ps,rfl⟩:=t
        obtain⟨ps',this⟩:=e.tab a ps q
        rw[h]at this;cases this
      . rw[e.keep a o q m λ ps y=>t ⟨ps,y⟩]at h;cases h
theorem UB{t:TA}{m:MA}(h:RA K t m):RN K (PX t) (BA m):=by
  intro ρ σ H hd ls Q d hd' hR hL hm hQ
  obtain⟨⟨d1,h1⟩,e1,hm⟩:=Option.bind_eq_some_iff.mp hm
  dsimp only at hm
  split at hm
  . next z=>
    cases hm
    refine h ρ σ H hd ls _ _ _ hR hL e1 λ ρ1 H1 v1 x1 R1 r1=>⟨by rw[r1.len];exact z,λ p hp=>?_⟩
    obtain⟨R2,x2⟩:=R1.hid (ho:=.lst v1) hp
    exact hQ ρ1 _ p v1 (x1.trans R1 x2) R2 (x1.none hR hp R1) (R1.out hp) AK (r1.ext R1 x2)
  . cases hm
noncomputable def B9(ml:MA):ME:=λ ls hd=>(ml ls hd).bind λ p=>some (.mu p.2.length,p.2 ++ [.lst p.1])
theorem RH.name(hR:RH K ρ H hd){a:Addr}{xs:List V}{ds:List D}(out:a ∉ ρ)(e:H a=some (.lst xs))(r:RDs K ρ H ds xs):RH K (ρ ++ [a]) H (hd ++ [.lst ds]):=by
  have mono:∀ {o:MO} {ho:HO},RC K ρ H o ho->RC K (ρ ++ [a]) H o ho:=λ c=>c.mono Grow.refl [a]
  refine⟨by simp[hR.len],?_,hR.tabs,λ n o' b e1 e2=>?_⟩
  . rw[List.nodup_append]
    refine⟨hR.nd,by simp,λ x hx y hy z=>?_⟩
    simp at hy;subst hy;subst z;exact out hx
  . by_cases hn:n < ρ.length
    . rw[List.getElem?_append_left hn]at e2
      rw[List.getElem?_append_left (by rw[<- hR.len];exact hn)]at e1
      obtain⟨ho',q1,q2⟩:=hR.ob n o' b e1 e2
      exact⟨ho',q1,mono q2⟩
    . have hn':n=ρ.length:=by
        have:=(List.getElem?_eq_some_iff.mp e2).1
        simp at this;omega
      subst hn'
      simp at e2
      rw[hR.len]at e1
      simp at e1
      subst e1;subst e2
      exact⟨_,e,mono ⟨xs,rfl,r⟩⟩
theorem Ext.name(e:Ext ρ H ρ' H'){a:Addr}(h:H a=Option.none):Ext ρ H (ρ' ++ [a]) H':=by
  obtain⟨r,rfl,f⟩:=e.pre
  refine⟨⟨r ++ [a],by simp,λ b m=>?_⟩,e.keep,e.tab⟩
  rcases List.mem_append.mp m with m|m
  . exact f b m
  . simp at m;subst m;exact h
theorem O6{t:TE}{m:MA}(h:RN K t m):RE K t (B9 m):=by
  intro ρ σ H hd ls Q d hd' hR hL hm hQ
  obtain⟨⟨d1,h1⟩,e1,hm⟩:=Option.bind_eq_some_iff.mp hm
  cases hm
  refine h ρ σ H hd ls Q d1 h1 hR hL e1 λ ρ1 H1 a xs x1 R1 na oa ea r1=>?_
  refine hQ (ρ1 ++ [a]) H1 _ (x1.name na) (R1.name oa ea r1) ?_
  simp only[RD]
  exact⟨a,by rw[<- R1.len];simp,rfl⟩
end
end L2
namespace L2
open PySem PySem.Spec PyProof.Rows
section
variable{K:PySem.W.Frag}{ρ ρ':List Addr}{H H':Hp}{hd hd':Hd}
noncomputable def fI(g:Int->Int->Option I):D->D->Hd->Option (D × Hd)
  | .im (.int i),.im (.int j),hd=>(g i j).map (.im ·,hd)
  | _,_,_=>none
theorem NC{C:Int->Int->Prop}{g:Int->Int->V}{f:Int->Int->Option I}(h:∀ i j z,f i j=some z->C i j/\∀ H,RI K H z (g i j)):RB K (rI C g) (fI f):=by
  intro ρ H hd d e v u Q z hd' hR h1 h2 hf hQ
  unfold fI at hf
  split at hf
  . simp only[RD,RI]at h1 h2
    subst h1 h2
    obtain⟨w,e1,e2⟩:=Option.map_eq_some_iff.mp hf
    cases e2
    obtain⟨c,r⟩:=h _ _ _ e1
    exact⟨_,_,rfl,rfl,c,hQ ρ H _ .refl hR (by simpa only[RD]using r H)⟩
  . cases hf
theorem Gq{g:Int->Int->V}{f:Int->Int->I}(h:∀ i j H,RI K H (f i j) (g i j)):RB K (rI0 g) (fI λ i j=>some (f i j)):=by
  intro ρ H hd d e v u Q z hd' hR h1 h2 hf hQ
  unfold fI at hf
  split at hf
  . simp only[RD,RI]at h1 h2
    subst h1 h2
    cases hf
    exact⟨_,_,rfl,rfl,hQ ρ H _ .refl hR (by simpa only[RD]using h _ _ H)⟩
  . cases hf
noncomputable def G9(f g:D->D->Hd->Option (D × Hd)):D->D->Hd->Option (D × Hd):=λ d e hd=>match f d e hd with
  | some z=>some z
  | none=>g d e hd
theorem AN{r r':R2}{f g:D->D->Hd->Option (D × Hd)}(h:RB K r f)(h':RB K r' g):RB K (λ x y H Q=>r x y H Q ∨ r' x y H Q) (G9 f g):=by
  intro ρ H hd d e v u Q z hd' hR h1 h2 hf hQ
  unfold G9 at hf
  split at hf
  . next q=>cases hf;exact .inl (h ρ H hd d e v u Q z hd' hR h1 h2 q hQ)
  . exact .inr (h' ρ H hd d e v u Q z hd' hR h1 h2 hf hQ)
noncomputable abbrev JN:D->D->Hd->Option (D × Hd):=fI λ i j=>some (.int (i + j))
noncomputable abbrev ES:D->D->Hd->Option (D × Hd):=fI λ i j=>some (.int (i - j))
theorem Ba:RB K (rI0 λ i j=>.int (i + j)) JN:=Gq λ _ _ _=>by simp[RI]
theorem FT:RB K (rI0 λ i j=>.int (i - j)) ES:=Gq λ _ _ _=>by simp[RI]
open Classical in
noncomputable abbrev Bt:D->D->Hd->Option (D × Hd):=fI λ i j=>if EQ i j then some (.int (i * j))else none
theorem Cb:RB K (rI CMul λ i j=>.int (i * j)) Bt:=NC λ i j z h=>by
  split at h
  . next q=>cases h;exact⟨q,λ _=>by simp[RI]⟩
  . cases h
open Classical in
noncomputable abbrev De:D->D->Hd->Option (D × Hd):=fI λ i j=>if ER j then some (.int (i % j))else none
theorem EH:RB K (rI (λ _ j=>0 < j) λ i j=>.int (i % j)) De:=NC λ i j z h=>by
  split at h
  . next q=>cases h;exact⟨q,λ _=>by simp[RI]⟩
  . cases h
open Classical in
noncomputable abbrev Gz:D->D->Hd->Option (D × Hd):=fI λ i j=>if KD j then some (.int (i / j))else none
theorem Iy:RB K (rI Ve λ i j=>.int (i / j)) Gz:=NC λ i j z h=>by
  split at h
  . next q=>cases h;exact⟨q,λ _=>by simp[RI]⟩
  . cases h
open Classical in
noncomputable abbrev Qs:D->D->Hd->Option (D × Hd):=fI λ i j=>if NJ i j then some (.int (i ^ j.toNat))else none
theorem US:RB K (rI Vd λ i j=>.int (i ^ j.toNat)) Qs:=NC λ i j z h=>by
  split at h
  . next q=>cases h;exact⟨q,λ _=>by simp[RI]⟩
  . cases h
noncomputable abbrev gLt:D->D->Hd->Option (D × Hd):=fI λ i j=>some (.bl (decide (i < j)))
noncomputable abbrev gLe:D->D->Hd->Option (D × Hd):=fI λ i j=>some (.bl (decide (i <= j)))
noncomputable abbrev gGt:D->D->Hd->Option (D × Hd):=fI λ i j=>some (.bl (decide (j < i)))
noncomputable abbrev gGe:D->D->Hd->Option (D × Hd):=fI λ i j=>some (.bl (decide (j <= i)))
theorem Vq:RB K (rI0 λ i j=>.bl (decide (i < j))) gLt:=Gq λ _ _ _=>by simp[RI]
theorem RZ:RB K (rI0 λ i j=>.bl (decide (i <= j))) gLe:=Gq λ _ _ _=>by simp[RI]
theorem NB:RB K (rI0 λ i j=>.bl (decide (j < i))) gGt:=Gq λ _ _ _=>by simp[RI]
theorem Vs:RB K (rI0 λ i j=>.bl (decide (j <= i))) gGe:=Gq λ _ _ _=>by simp[RI]
noncomputable def scI:I->Option V
  | .non=>some .non
  | .bl b=>some (.bl b)
  | .int i=>some (.int i)
  | .str x=>some (.str x)
  | .tup _=>none
theorem Hx{i:I}{v w:V}(e:scI i=some w)(h:RI K H i v):v=w:=by
  cases i with
  | tup _=>simp[scI]at e
  | _=>simp only[scI,Option.some.injEq]at e;subst e;simpa only[RI]using h
noncomputable def FN(neg:Bool):D->D->Hd->Option (D × Hd)
  | .im i,.im j,hd=>match scI i,scI j with
    | some x,some y=>if Kk x y=true then some (.im (.bl (if neg then !decide (x=y)else decide (x=y))),hd)else none
    | _,_=>none
  | _,_,_=>none
theorem BY:RB K rEq (FN false):=by
  intro ρ H hd d e v u Q z hd' hR h1 h2 hf hQ
  unfold FN at hf
  split at hf
  . split at hf
    . next x y e1 e2=>
      split at hf
      . next s=>
        cases hf
        simp only[RD]at h1 h2
        rw[Hx e1 h1,Hx e2 h2]
        exact⟨s,hQ ρ H _ .refl hR (by simp[RD,RI])⟩
      . cases hf
    . cases hf
  . cases hf
theorem Hz:RB K rNe (FN true):=by
  intro ρ H hd d e v u Q z hd' hR h1 h2 hf hQ
  unfold FN at hf
  split at hf
  . split at hf
    . next x y e1 e2=>
      split at hf
      . next s=>
        cases hf
        simp only[RD]at h1 h2
        rw[Hx e1 h1,Hx e2 h2]
        exact⟨s,hQ ρ H _ .refl hR (by simp[RD,RI])⟩
      . cases hf
    . cases hf
  . cases hf
mutual
noncomputable def I.py:I->PyData
  | .non=>.none
  | .bl b=>.bool b
  | .int i=>.int i
  | .str x=>.str x
  | .tup ds=>.tuple (I.pys ds)
noncomputable def I.pys:List I->List PyData
  | []=>[]
  | d :: ds=>I.py d :: I.pys ds
end
mutual
theorem RI.rep:∀ {i:I} {v:V},RI K H i v->Rep K H i.py v
  | .non,v,h=>by simpa only[RI,I.py,Rep]using h
  | .bl _,v,h=>by simpa only[RI,I.py,Rep]using h
  | .int _,v,h=>by simpa only[RI,I.py,Rep]using h
  | .str _,v,h=>by simpa only[RI,I.py,Rep]using h
  | .tup ds,v,h=>by
    simp only[RI]at h
    obtain⟨a,xs,e,q,r⟩:=h
    simp only[I.py,Rep]
    exact⟨a,xs,e,q,RIs.rep r⟩
theorem RIs.rep:∀ {i:List I} {v:List V},RIs K H i v->RepAll K H (I.pys i) v
  | [],v,h=>by simpa only[RIs,I.pys,RepAll]using h
  | d :: ds,v,h=>by
    simp only[RIs]at h
    obtain⟨x,r,e,q,z⟩:=h
    simp only[I.pys,RepAll]
    exact⟨x,r,e,q.rep,RIs.rep z⟩
end
noncomputable def pyD(hd:Hd):D->Option PyData
  | .im i=>some i.py
  | .mu n=>match hd[n]? with
    | some (.lst ds)=>(Bj ds).map λ is=>.list (I.pys is)
    | _=>none
  | .ro ns=>some (.list (I.pys (ns.map I.int)))
  | _=>none
theorem EV{d:D}{v:V}{p:PyData}(hR:RH K ρ H hd)(h:RD K ρ H d v)(e:pyD hd d=some p):Rep K H p v:=by
  cases d with
  | im i=>simp only[pyD,Option.some.injEq]at e;subst e;simp only[RD]at h;exact h.rep
  | mu n=>
    simp only[pyD]at e
    simp only[RD]at h
    obtain⟨a,hn,rfl⟩:=h
    split at e
    . next q=>
      obtain⟨is,e1,rfl⟩:=Option.map_eq_some_iff.mp e
      obtain⟨xs,e2,e3⟩:=hR.lst hn q
      rw[GD e1]at e3
      simp only[Rep]
      exact⟨a,xs,rfl,SqL.of e2,e3.is.rep⟩
    . cases e
  | ro ns=>
    simp only[pyD,Option.some.injEq]at e;subst e
    obtain⟨a,xs,rfl,q,r⟩:=h.lst hR (hd:=hd) (ds:=ns.map λ n=>.im (.int n)) rfl
    simp only[Rep]
    refine⟨a,xs,rfl,q,RIs.rep (RDs.is (ρ:=ρ) ?_)⟩
    rw[List.map_map]
    exact r
  | tm _=>simp[pyD]at e
noncomputable def JM(neg:Bool):D->D->Hd->Option (D × Hd):=λ d e hd=>match pyD hd d,pyD hd e with
  | some x,some y=>if x.canLay0=true/\y.canLay0=true/\min x.depth y.depth <= 60 then some (.im (.bl (if neg then !PyData.eqv x y else PyData.eqv x y)),hd)else none
  | _,_=>none
theorem BZ:RB K (Q4 K) (JM false):=by
  intro ρ H hd d e v u Q z hd' hR h1 h2 hf hQ
  unfold JM at hf
  split at hf
  . next e1 e2=>
    split at hf
    . next c=>cases hf;exact⟨_,_,EV hR h1 e1,EV hR h2 e2,c.1,c.2.1,c.2.2,hQ ρ H _ .refl hR (by simp[RD,RI])⟩
    . cases hf
  . cases hf
theorem I0:RB K (Q0 K) (JM true):=by
  intro ρ H hd d e v u Q z hd' hR h1 h2 hf hQ
  unfold JM at hf
  split at hf
  . next e1 e2=>
    split at hf
    . next c=>cases hf;exact⟨_,_,EV hR h1 e1,EV hR h2 e2,c.1,c.2.1,c.2.2,hQ ρ H _ .refl hR (by simp[RD,RI])⟩
    . cases hf
  . cases hf
noncomputable abbrev gEq:=G9 (FN false) (JM false)
noncomputable abbrev gNe:=G9 (FN true) (JM true)
noncomputable def gIx:D->D->Hd->Option (D × Hd)
  | d,.im (.int i),hd=>(B2 hd d).bind λ ds=>(atI ds i).map (·,hd)
  | _,_,_=>none
theorem Ml{α β:Type}{xs:List α}{ys:List β}{i:Int}{y:β}(h:xs.length=ys.length)(e:atI ys i=some y):∃ (j:Nat),ys[j]? = some y/\∀ x,xs[j]? = some x->atI xs i=some x:=by
  unfold atI at e
  obtain⟨j,e1,e2⟩:=Option.bind_eq_some_iff.mp e
  exact⟨j,e2,λ x q=>by unfold atI;rw[h,e1];exact q⟩
noncomputable def K5(K:PySem.W.Frag):R2:=λ x y H Q=>Q3 K x y H Q ∨ Q2 K x y H Q
theorem Vr:RB K (K5 K) gIx:=by
  intro ρ H hd d e v u Q z hd' hR h1 h2 hf hQ
  unfold gIx at hf
  split at hf
  . obtain⟨ds,e1,hf⟩:=Option.bind_eq_some_iff.mp hf
    obtain⟨w,e2,e3⟩:=Option.map_eq_some_iff.mp hf
    cases e3
    obtain⟨a,xs,rfl,q,r⟩:=h1.seq hR e1
    simp only[RD,RI]at h2
    subst h2
    obtain⟨j,j1,j2⟩:=Ml r.len e2
    obtain⟨x,x1,x2⟩:=r.get j1
    rcases q with q|q
    . exact .inl ⟨a,xs,_,x,rfl,rfl,q,j2 x x1,hQ ρ H x .refl hR x2⟩
    . exact .inr ⟨a,xs,_,x,rfl,rfl,q,j2 x x1,hQ ρ H x .refl hR x2⟩
  . cases hf
noncomputable def Ep(xs:List D)(lo hi:Option Int):List D:=(xs.drop (HT.sIx xs.length 0 lo)).take (HT.sIx xs.length xs.length hi - HT.sIx xs.length 0 lo)
theorem Th{ds:List D}{xs:List V}{lo hi:Option Int}(r:RDs K ρ H ds xs):RDs K ρ H (Ep ds lo hi) (Hk xs lo hi):=by
  unfold Ep Hk
  rw[r.len]
  exact(r.drop _).take _
noncomputable abbrev MO1:=Ls->Hd->Option (Option Int × Hd)
noncomputable def RO1(K:PySem.W.Frag)(t:TO)(m:MO1):Prop:=∀ (ρ:List Addr) (σ:St) (H:Hp) (hd:Hd) (ls:Ls) (Q:Option Int->Hp->Prop) (d:Option Int) (hd':Hd),RH K ρ H hd->RL K ρ H ls σ->m ls hd=some (d,hd') ->
  (∀ ρ' H',Ext ρ H ρ' H'->RH K ρ' H' hd'->Q d H')->t σ H Q
noncomputable def Fb:MO1:=λ _ hd=>some (none,hd)
noncomputable def IP(m:ME):MO1:=λ ls hd=>(m ls hd).bind λ p=>match p.1 with
  | .im (.int i)=>some (some i,p.2)
  | _=>none
theorem SN:RO1 K Iv Fb:=by
  intro ρ σ H hd ls Q d hd' hR hL hm hQ
  cases hm
  exact hQ ρ H .refl hR
theorem SM{t:TE}{m:ME}(h:RE K t m):RO1 K (Mz t) (IP m):=by
  intro ρ σ H hd ls Q d hd' hR hL hm hQ
  obtain⟨⟨d1,h1⟩,e1,hm⟩:=Option.bind_eq_some_iff.mp hm
  dsimp only at hm
  split at hm
  . cases hm
    exact h ρ σ H hd ls _ _ _ hR hL e1 λ ρ1 H1 v x1 R1 r1=>⟨_,by simpa only[RD,RI]using r1,hQ ρ1 H1 x1 R1⟩
  . cases hm
noncomputable def Wk(m:ME)(ml mh:MO1):ME:=λ ls hd=>(m ls hd).bind λ p=>(ml ls p.2).bind λ l=>(mh ls l.2).bind λ h=>(Ac p.1).bind λ ds=>
  if ¬ (HT.sIx ds.length 0 l.1=0/\HT.sIx ds.length ds.length h.1=ds.length)then some (BF (Ep ds l.1 h.1),h.2)else none
noncomputable def LD(m:ME)(ml mh:MO1):MA:=λ ls hd=>(m ls hd).bind λ p=>(ml ls p.2).bind λ l=>(mh ls l.2).bind λ h=>(Ax h.2 p.1).bind λ ds=>some (Ep ds l.1 h.1,h.2)
theorem U9{t:TE}{tl th:TO}{m:ME}{ml mh:MO1}(h:RE K t m)(hl:RO1 K tl ml)(hh:RO1 K th mh):RN K (tSl (ND K) t tl th) (LD m ml mh):=by
  intro ρ σ H hd ls Q d hd' hR hL hm hQ
  obtain⟨⟨d1,h1⟩,e1,hm⟩:=Option.bind_eq_some_iff.mp hm
  obtain⟨⟨d2,h2⟩,e2,hm⟩:=Option.bind_eq_some_iff.mp hm
  obtain⟨⟨d3,h3⟩,e3,hm⟩:=Option.bind_eq_some_iff.mp hm
  obtain⟨ds,e4,hm⟩:=Option.bind_eq_some_iff.mp hm
  dsimp only at e2 e3 e4 hm
  cases hm
  refine h ρ σ H hd ls _ d1 h1 hR hL e1 λ ρ1 H1 v1 x1 R1 r1=>?_
  refine hl ρ1 σ H1 h1 ls _ d2 h2 R1 (hL.ext hR x1) e2 λ ρ2 H2 x2 R2=>?_
  refine hh ρ2 σ H2 h2 ls _ d3 _ R2 (hL.ext hR (x1.trans R1 x2)) e3 λ ρ3 H3 x3 R3=>?_
  obtain⟨a,xs,rfl,q,r⟩:=RD.lst R3 ((r1.ext R1 x2).ext R2 x3) e4
  refine⟨a,xs,rfl,q,λ p hp=>?_⟩
  obtain⟨R4,x4⟩:=R3.hid (ho:=.lst (Hk xs d2 d3)) hp
  have x123:=(x1.trans R1 x2).trans R2 x3
  exact hQ ρ3 _ p _ (x123.trans R3 x4) R4 (x123.none hR hp R3) (R3.out hp) AK ((Th r).ext R3 x4)
noncomputable def mCB(f:List D->Hd->Option (D × Hd))(ma:MA):ME:=λ ls hd=>(ma ls hd).bind λ p=>f p.1 p.2
theorem RX{r:List V->Hp->VK->Prop}{f:List D->Hd->Option (D × Hd)}{t:TA}{m:MA}(hr:RF K r f)(h:RA K t m):RE K (tCB r t) (mCB f m):=by
  intro ρ σ H hd ls Q d hd' hR hL hm hQ
  obtain⟨⟨d1,h1⟩,e1,hm⟩:=Option.bind_eq_some_iff.mp hm
  refine h ρ σ H hd ls _ d1 h1 hR hL e1 λ ρ1 H1 v1 x1 R1 r1=>?_
  exact hr ρ1 H1 h1 d1 v1 Q d hd' R1 r1 hm λ ρ' H' w x2 R2 r2=>hQ ρ' H' w (x1.trans R1 x2) R2 r2
noncomputable def f1(tp:Bool)(g:List D->Option D):List D->Hd->Option (D × Hd)
  | [d],hd=>((if tp then B2 hd d else Ax hd d)).bind λ ds=>(g ds).map (·,hd)
  | _,_=>none
theorem Cu{tp:Bool}{r:List V->Hp->VK->Prop}{g:List D->Option D}(h:RG K tp r g):RF K r (f1 tp g):=by
  intro ρ H hd ds vs Q z hd' hR h1 hf hQ
  unfold f1 at hf
  split at hf
  . next d hd'=>
    obtain⟨es,e1,hf⟩:=Option.bind_eq_some_iff.mp hf
    obtain⟨w,e2,e3⟩:=Option.map_eq_some_iff.mp hf
    cases e3
    simp only[RDs]at h1
    obtain⟨x,r,rfl,rx,rfl⟩:=h1
    cases tp with
    | true=>
      rw[if_pos rfl]at e1
      obtain⟨a,xs,rfl,q,rr⟩:=rx.seq hR e1
      exact h ρ H hd a xs es Q z hR (q.imp id λ q=>⟨rfl,q⟩) rr e2 λ H' w x R r=>hQ ρ H' w x R r
    | false=>
      rw[if_neg Bool.false_ne_true]at e1
      obtain⟨a,xs,rfl,q,rr⟩:=rx.lst hR e1
      exact h ρ H hd a xs es Q z hR (.inl q) rr e2 λ H' w x R r=>hQ ρ H' w x R r
  . cases hf
noncomputable def CN(g:List D->Option D)(ml:MA):ME:=λ ls hd=>(ml ls hd).bind λ p=>(g p.1).map (·,p.2)
theorem O7{tp:Bool}{r:List V->Hp->VK->Prop}{g:List D->Option D}{t:TE}{m:MA}(hr:RG K tp r g)(h:RN K t m):RE K (tCB r (Bw t C0)) (CN g m):=by
  intro ρ σ H hd ls Q d hd' hR hL hm hQ
  obtain⟨⟨d1,h1⟩,e1,hm⟩:=Option.bind_eq_some_iff.mp hm
  obtain⟨w,e2,e3⟩:=Option.map_eq_some_iff.mp hm
  cases e3
  refine h ρ σ H hd ls _ d1 _ hR hL e1 λ ρ1 H1 a xs x1 R1 na oa ea r1=>?_
  exact hr ρ1 H1 _ a xs d1 Q d R1 (.inl (SqL.of ea)) r1 e2 λ H' w x R r=>hQ ρ1 H' w (x1.trans R1 x) R r
noncomputable def Ci(ds:List D):Option D:=some (.im (.int ds.length))
theorem CL:RG K true (UU K) Ci:=by
  intro ρ H hd a xs ds Q z hR q r e hQ
  cases e
  refine⟨a,xs,rfl,q.imp id λ q=>q.2,?_⟩
  rw[r.len]
  exact hQ H _ .refl hR (by simp[RD,RI])
noncomputable def Cd(ds:List D):Option D:=some (BF ds)
theorem Ct:RG K true (Ks K) Cd:=by
  intro ρ H hd a xs ds Q z hR q r e hQ
  cases e
  refine⟨a,xs,rfl,?_⟩
  rcases q with q|⟨_,q⟩
  . refine .inl ⟨q,λ p hp=>?_⟩
    obtain⟨R2,x2⟩:=hR.hid (ho:=.tup xs) hp
    exact hQ _ _ x2 R2 (Cw (SqT.of AK) (r.ext hR x2))
  . exact .inr ⟨q,hQ H _ .refl hR (Cw q r)⟩
noncomputable def LN(ds:List D):Option D:=(BN ds).map λ ns=>.im (.int ns.sum)
noncomputable def Wc(K:PySem.W.Frag):List V->Hp->VK->Prop:=λ xs H Q=>Rb K xs H Q ∨ Ra K xs H Q
theorem UH:RG K true (Wc K) LN:=by
  intro ρ H hd a xs ds Q z hR q r e hQ
  obtain⟨ns,e1,rfl⟩:=Option.map_eq_some_iff.mp e
  rw[Eo e1]at r
  have:=FS r
  subst this
  rcases q with q|⟨_,q⟩
  . exact .inl ⟨a,ns,rfl,q,hQ H _ .refl hR (by simp[RD,RI])⟩
  . exact .inr ⟨a,ns,rfl,q,hQ H _ .refl hR (by simp[RD,RI])⟩
noncomputable def Qn(ds:List D):Option D:=(CW ds).map λ bs=>.im (.bl (bs.all id))
noncomputable def Qm(ds:List D):Option D:=(CW ds).map λ bs=>.im (.bl (bs.any id))
theorem UJ:RG K false (UW K) Qn:=by
  intro ρ H hd a xs ds Q z hR q r e hQ
  obtain⟨ns,e1,rfl⟩:=Option.map_eq_some_iff.mp e
  rw[JR e1]at r
  have:=Kq r
  subst this
  rcases q with q|⟨q,_⟩
  . exact⟨a,ns,rfl,q,hQ H _ .refl hR (by simp[RD,RI])⟩
  . cases q
theorem UI:RG K false (UV K) Qm:=by
  intro ρ H hd a xs ds Q z hR q r e hQ
  obtain⟨ns,e1,rfl⟩:=Option.map_eq_some_iff.mp e
  rw[JR e1]at r
  have:=Kq r
  subst this
  rcases q with q|⟨q,_⟩
  . exact⟨a,ns,rfl,q,hQ H _ .refl hR (by simp[RD,RI])⟩
  . cases q
noncomputable def DB:List Int->Int
  | []=>0
  | [x]=>x
  | x :: r=>if DB r > x then DB r else x
noncomputable def Dd:List Int->Int
  | []=>0
  | [x]=>x
  | x :: r=>if Dd r < x then Dd r else x
theorem Br:∀ {xs:List Int},xs ≠ []->DB xs ∈ xs/\∀ x ∈ xs,x <= DB xs
  | [],h=>absurd rfl h
  | [x],_=>by simp[DB]
  | x :: y :: r,_=>by
    obtain⟨h1,h2⟩:=Br (xs:=y :: r) (by simp)
    rw[DB]
    split
    . next h=>exact⟨List.mem_cons_of_mem _ h1,λ z m=>by rcases List.mem_cons.mp m with rfl|m;omega;exact h2 z m⟩
    . next h=>exact⟨List.mem_cons_self,λ z m=>by rcases List.mem_cons.mp m with rfl|m;omega;exact Int.le_trans (h2 z m) (by omega)⟩
    . simp
theorem Dn:∀ {xs:List Int},xs ≠ []->Dd xs ∈ xs/\∀ x ∈ xs,Dd xs <= x
  | [],h=>absurd rfl h
  | [x],_=>by simp[Dd]
  | x :: y :: r,_=>by
    obtain⟨h1,h2⟩:=Dn (xs:=y :: r) (by simp)
    rw[Dd]
    split
    . next h=>exact⟨List.mem_cons_of_mem _ h1,λ z m=>by rcases List.mem_cons.mp m with rfl|m;omega;exact h2 z m⟩
    . next h=>exact⟨List.mem_cons_self,λ z m=>by rcases List.mem_cons.mp m with rfl|m;omega;exact Int.le_trans (by omega) (h2 z m)⟩
    . simp
noncomputable def He(ds:List D):Option D:=(BN ds).bind λ ns=>if ns=[]then none else some (.im (.int (DB ns)))
noncomputable def JK(ds:List D):Option D:=(BN ds).bind λ ns=>if ns=[]then none else some (.im (.int (Dd ns)))
noncomputable def Wd(K:PySem.W.Frag):List V->Hp->VK->Prop:=λ xs H Q=>Rh K xs H Q ∨ Rg K xs H Q
theorem Fe{α:Type}{xs:List α}(h:xs ≠ []):0 < xs.length:=by cases xs <;> simp_all
theorem O5:RG K true (Wd K) He:=by
  intro ρ H hd a xs ds Q z hR q r e hQ
  obtain⟨ns,e1,e⟩:=Option.bind_eq_some_iff.mp e
  split at e
  . cases e
  . next hn=>
    cases e
    rw[Eo e1]at r
    have:=FS r
    subst this
    have u:∀ M:Int,M ∈ ns->(∀ x ∈ ns,x <= M)->M=DB ns:=λ M m1 m2=>by
      obtain⟨n1,n2⟩:=Br hn
      have:=n2 M m1;have:=m2 _ n1;omega
    rcases q with q|⟨_,q⟩
    . exact .inl ⟨a,ns,rfl,q,Fe hn,λ M m1 m2=>by rw[u M m1 m2];exact hQ H _ .refl hR (by simp[RD,RI])⟩
    . exact .inr ⟨a,ns,rfl,q,Fe hn,λ M m1 m2=>by rw[u M m1 m2];exact hQ H _ .refl hR (by simp[RD,RI])⟩
theorem Ko:RG K false (Rf K) JK:=by
  intro ρ H hd a xs ds Q z hR q r e hQ
  obtain⟨ns,e1,e⟩:=Option.bind_eq_some_iff.mp e
  split at e
  . cases e
  . next hn=>
    cases e
    rw[Eo e1]at r
    have:=FS r
    subst this
    have u:∀ M:Int,M ∈ ns->(∀ x ∈ ns,M <= x)->M=Dd ns:=λ M m1 m2=>by
      obtain⟨n1,n2⟩:=Dn hn
      have:=n2 M m1;have:=m2 _ n1;omega
    rcases q with q|⟨q,_⟩
    . exact⟨a,ns,rfl,q,Fe hn,λ M m1 m2=>by rw[u M m1 m2];exact hQ H _ .refl hR (by simp[RD,RI])⟩
    . cases q
noncomputable def ET:List D->Hd->Option (D × Hd)
  | [.im (.int i),.im (.int j)],hd=>some (.im (.int (if j > i then j else i)),hd)
  | _,_=>none
noncomputable def Ie:List D->Hd->Option (D × Hd)
  | [.im (.int i),.im (.int j)],hd=>some (.im (.int (if j < i then j else i)),hd)
  | _,_=>none
theorem Go:RF K (λ xs H Q=>∃ i j,xs=[.int i,.int j]/\Q (.int (if j > i then j else i)) H) ET:=by
  intro ρ H hd ds vs Q z hd' hR h1 hf hQ
  unfold ET at hf
  split at hf
  . cases hf
    simp only[RDs,RD,RI]at h1
    obtain⟨x,r,rfl,rfl,y,r2,rfl,rfl,rfl⟩:=h1
    exact⟨_,_,rfl,hQ ρ H _ .refl hR (by simp[RD,RI])⟩
  . cases hf
theorem SR:RF K (λ xs H Q=>∃ i j,xs=[.int i,.int j]/\Q (.int (if j < i then j else i)) H) Ie:=by
  intro ρ H hd ds vs Q z hd' hR h1 hf hQ
  unfold Ie at hf
  split at hf
  . cases hf
    simp only[RDs,RD,RI]at h1
    obtain⟨x,r,rfl,rfl,y,r2,rfl,rfl,rfl⟩:=h1
    exact⟨_,_,rfl,hQ ρ H _ .refl hR (by simp[RD,RI])⟩
  . cases hf
noncomputable def Wp:List D->Hd->Option (D × Hd)
  | [.im (.int i)],hd=>some (.im (.int (if i < 0 then -i else i)),hd)
  | _,_=>none
noncomputable def W8(ma:ME):MA:=λ ls hd=>(ma ls hd).bind λ p=>(B2 p.2 p.1).map (·,p.2)
noncomputable def IQ(ml:MA):MA:=ml
theorem Ps{t:TE}{m:MA}(h:RN K t m):RN K (tCB (J8 K) (Bw t C0)) (IQ m):=by
  intro ρ σ H hd ls Q d hd' hR hL hm hQ
  refine h ρ σ H hd ls _ d _ hR hL hm λ ρ1 H1 a xs x1 R1 na oa ea r1=>?_
  refine⟨a,xs,rfl,.inl (SqL.of ea),λ l hl=>?_⟩
  obtain⟨R2,x2⟩:=R1.hid (ho:=.lst xs) hl
  exact hQ ρ1 _ l xs (x1.trans R1 x2) R2 (x1.none hR hl R1) (R1.out hl) AK (r1.ext R1 x2)
noncomputable def FH:I->Option V
  | .non=>some .non
  | .bl b=>some (.bl b)
  | .int i=>some (.int i)
  | .str x=>some (.str x)
  | .tup _=>none
noncomputable def DF:List D->Option (List V)
  | []=>some []
  | .im i :: r=>(FH i).bind λ v=>(DF r).map (v :: ·)
  | _ :: _=>none
theorem LR{i:I}{v w:V}(e:FH i=some w)(h:RI K H i v):v=w/\EB w=true:=by
  cases i with
  | tup _=>simp[FH]at e
  | _=>simp only[FH,Option.some.injEq]at e;subst e;exact⟨by simpa only[RI]using h,rfl⟩
theorem Jk:∀ {ds:List D} {vs ws:List V},DF ds=some ws->RDs K ρ H ds vs->vs=ws/\ws.all EB=true
  | [],vs,ws,e,h=>by simp[DF]at e;subst e;simp only[RDs]at h;subst h;exact⟨rfl,rfl⟩
  | .im i :: r,vs,ws,e,h=>by
    simp only[DF]at e
    obtain⟨v,e1,e⟩:=Option.bind_eq_some_iff.mp e
    obtain⟨us,e2,rfl⟩:=Option.map_eq_some_iff.mp e
    simp only[RDs,RD]at h
    obtain⟨x,y,rfl,h1,h2⟩:=h
    obtain⟨rfl,f1⟩:=LR e1 h1
    obtain⟨rfl,f2⟩:=Jk e2 h2
    exact⟨rfl,by simp[f1,f2]⟩
  | .mu _ :: _,_,_,e,_=>by simp[DF]at e
  | .tm _ :: _,_,_,e,_=>by simp[DF]at e
  | .ro _ :: _,_,_,e,_=>by simp[DF]at e
noncomputable def gIn(neg:Bool):D->D->Hd->Option (D × Hd)
  | .im i,e,hd=>(FH i).bind λ x=>(B2 hd e).bind λ ds=>(DF ds).map λ xs=>(.im (.bl (if neg then !inV x xs else inV x xs)),hd)
  | _,_,_=>none
theorem Gp{neg:Bool}:RB K (rIn K neg) (gIn neg):=by
  intro ρ H hd d e v u Q z hd' hR h1 h2 hf hQ
  unfold gIn at hf
  split at hf
  . obtain⟨x,e1,hf⟩:=Option.bind_eq_some_iff.mp hf
    obtain⟨ds,e2,hf⟩:=Option.bind_eq_some_iff.mp hf
    obtain⟨xs,e3,e4⟩:=Option.map_eq_some_iff.mp hf
    cases e4
    simp only[RD]at h1
    obtain⟨rfl,f1⟩:=LR e1 h1
    obtain⟨a,ys,rfl,q,r⟩:=h2.seq hR e2
    obtain⟨rfl,f2⟩:=Jk e3 r
    exact⟨a,ys,rfl,q,f1,f2,hQ ρ H _ .refl hR (by simp[RD,RI])⟩
  . cases hf
noncomputable def mMt(f:D->List D->Hd->Option (D × Hd))(mo:ME)(ma:MA):ME:=λ ls hd=>(mo ls hd).bind λ p=>match Ax p.2 p.1 with
  | some _=>(ma ls p.2).bind λ q=>f p.1 q.1 q.2
  | none=>none
noncomputable def RM(K:PySem.W.Frag)(r:V->List V->Hp->VK->Prop)(f:D->List D->Hd->Option (D × Hd)):Prop:=∀ (ρ:List Addr) (H:Hp) (hd:Hd) (d:D) (v:V) (ds:List D) (vs:List V) (Q:VK) (z:D) (hd':Hd),RH K ρ H hd->RD K ρ H d v->RDs K ρ H ds vs->f d ds hd=some (z,hd') ->
  (∀ ρ' H' w,Ext ρ H ρ' H'->RH K ρ' H' hd'->RD K ρ' H' z w->Q w H')->r v vs H Q
theorem RW{r:V->List V->Hp->VK->Prop}{f:D->List D->Hd->Option (D × Hd)}{to:TE}{t:TA}{mo:ME}{ma:MA}(hr:RM K r f)(ho:RE K to mo)(ha:RA K t ma):RE K (tBM K "list" r to t) (mMt f mo ma):=by
  intro ρ σ H hd ls Q d hd' hR hL hm hQ
  obtain⟨⟨d1,h1⟩,e1,hm⟩:=Option.bind_eq_some_iff.mp hm
  dsimp only at hm
  split at hm
  . next e=>
    obtain⟨⟨d2,h2⟩,e2,hm⟩:=Option.bind_eq_some_iff.mp hm
    refine ho ρ σ H hd ls _ d1 h1 hR hL e1 λ ρ1 H1 v x1 R1 r1=>⟨?_,?_⟩
    . obtain⟨a,xs,rfl,q,_⟩:=r1.lst R1 e
      exact .inl ⟨rfl,xs,q⟩
    . exact ha ρ1 σ H1 h1 ls _ d2 h2 R1 (hL.ext hR x1) e2 λ ρ2 H2 vs x2 R2 r2=>hr ρ2 H2 h2 d1 v d2 vs Q d hd' R2 (r1.ext R1 x2) r2 hm λ ρ' H' w x3 R3 r3=>hQ ρ' H' w ((x1.trans R1 x2).trans R2 x3) R3 r3
  . cases hm
theorem UN{r:V->List V->Hp->VK->Prop}{f:D->List D->Hd->Option (D × Hd)}{to:TE}{mo:ME}(hr:RM K r f)(ho:RE K to mo):RE K (Pc K "list" r to) (mMt f mo A6):=RW (t:=C0) hr ho Kr
open Classical in
noncomputable def BE:D->List D->Hd->Option (D × Hd)
  | .mu n,[x],hd=>match hd[n]? with
    | some (.lst ds)=>if DN ds.length then some (.im .non,hd.set n (.lst (ds ++ [x])))else none
    | _=>none
  | _,_,_=>none
theorem CD:RM K MB BE:=by
  intro ρ H hd d v ds vs Q z hd' hR h1 h2 hf hQ
  unfold BE at hf
  split at hf
  . split at hf
    . next q=>
      split at hf
      . next c=>
        cases hf
        simp only[RD]at h1
        obtain⟨a,hn,rfl⟩:=h1
        simp only[RDs]at h2
        obtain⟨x,r,rfl,rx,rfl⟩:=h2
        obtain⟨xs,e1,e2⟩:=hR.lst hn q
        obtain⟨R2,x2⟩:=hR.put hn (o:=.lst (_ ++ [_])) (ho:=.lst (xs ++ [x])) ⟨_,rfl,e2.app (.cons rx .nil)⟩
        exact⟨a,xs,x,rfl,rfl,e1,by rw[e2.len];exact c,hQ ρ _ _ x2 R2 (by simp[RD,RI])⟩
      . cases hf
    . cases hf
  . cases hf
noncomputable def Hi:D->List D->Hd->Option (D × Hd)
  | .mu n,[],hd=>match hd[n]? with
    | some (.lst ds)=>(ds[ds.length - 1]?).map λ y=>(y,hd.set n (.lst ds.dropLast))
    | _=>none
  | _,_,_=>none
theorem RDs.dropLast{ds:List D}{xs:List V}(h:RDs K ρ H ds xs):RDs K ρ H ds.dropLast xs.dropLast:=by
  rw[List.dropLast_eq_take,List.dropLast_eq_take,h.len]
  exact h.take _
theorem UE:RM K UT Hi:=by
  intro ρ H hd d v ds vs Q z hd' hR h1 h2 hf hQ
  unfold Hi at hf
  split at hf
  . split at hf
    . next q=>
      obtain⟨y,e0,e3⟩:=Option.map_eq_some_iff.mp hf
      cases e3
      simp only[RD]at h1
      obtain⟨a,hn,rfl⟩:=h1
      simp only[RDs]at h2
      subst h2
      obtain⟨xs,e1,e2⟩:=hR.lst hn q
      obtain⟨x,x1,x3⟩:=e2.get e0
      obtain⟨R2,x2⟩:=hR.put hn (o:=.lst _) (ho:=.lst xs.dropLast) ⟨_,rfl,e2.dropLast⟩
      exact⟨a,xs,x,rfl,rfl,e1,by rw[e2.len];exact x1,hQ ρ _ _ x2 R2 (x3.ext hR x2)⟩
    . cases hf
  . cases hf
end
end L2
namespace L2
open PySem PySem.Spec PyProof.Rows
section
variable{K:PySem.W.Frag}{ρ ρ':List Addr}{H H':Hp}{hd hd':Hd}
noncomputable def Am:MS:=λ ls hd=>some (.nx ls,hd)
theorem SI:RS K N0 Am:=by
  intro ρ σ H hd ls E f hd' hR hL hm hQ
  cases hm
  exact hQ ρ H .refl hR σ hL
noncomputable def AA(a b:MS):MS:=λ ls hd=>(a ls hd).bind λ p=>match p.1 with
  | .nx ls1=>b ls1 p.2
  | f=>some (f,p.2)
theorem U5{t u:TS}{a b:MS}(ha:RS K t a)(hb:RS K u b):RS K (PR t u) (AA a b):=by
  intro ρ σ H hd ls E f hd' hR hL hm hQ
  obtain⟨⟨f1,h1⟩,e1,hm⟩:=Option.bind_eq_some_iff.mp hm
  refine ha ρ σ H hd ls { E with nx:=u E } f1 h1 hR hL e1 λ ρ1 H1 x1 R1=>?_
  cases f1 with
  | nx ls1=>
    intro σ1 L1
    exact hb ρ1 σ1 H1 h1 ls1 E f hd' R1 L1 hm λ ρ2 H2 x2 R2=>hQ ρ2 H2 (x1.trans R1 x2) R2
  | bk ls1=>cases hm;exact hQ ρ1 H1 x1 R1
  | ct ls1=>cases hm;exact hQ ρ1 H1 x1 R1
  | rt d=>cases hm;exact hQ ρ1 H1 x1 R1
noncomputable def VG:MS:=λ ls hd=>some (.bk ls,hd)
noncomputable def WC:MS:=λ ls hd=>some (.ct ls,hd)
noncomputable def By(m:ME):MS:=λ ls hd=>(m ls hd).bind λ p=>some (.nx ls,p.2)
theorem SK{t:TE}{m:ME}(h:RE K t m):RS K (N2 t) (By m):=by
  intro ρ σ H hd ls E f hd' hR hL hm hQ
  obtain⟨⟨d1,h1⟩,e1,hm⟩:=Option.bind_eq_some_iff.mp hm
  cases hm
  exact h ρ σ H hd ls _ d1 _ hR hL e1 λ ρ1 H1 v x1 R1 r1=>hQ ρ1 H1 x1 R1 σ (hL.ext hR x1)
noncomputable def AV(m:ME):MS:=λ ls hd=>(m ls hd).bind λ p=>some (.rt p.1,p.2)
theorem U6{t:TE}{m:ME}(h:RE K t m):RS K (PU t) (AV m):=by
  intro ρ σ H hd ls E f hd' hR hL hm hQ
  obtain⟨⟨d1,h1⟩,e1,hm⟩:=Option.bind_eq_some_iff.mp hm
  cases hm
  exact h ρ σ H hd ls _ d1 _ hR hL e1 λ ρ1 H1 v x1 R1 r1=>hQ ρ1 H1 x1 R1 v r1
noncomputable def W4:MS:=λ _ hd=>some (.rt (.im .non),hd)
noncomputable def Az(c:MT)(a b:MS):MS:=λ ls hd=>(c ls hd).bind λ p=>if p.1=true then a ls p.2 else b ls p.2
theorem Vn{tc:TT}{t u:TS}{c:MT}{a b:MS}(hc:RT K tc c)(ha:RS K t a)(hb:RS K u b):RS K (PZ tc t u) (Az c a b):=by
  intro ρ σ H hd ls E f hd' hR hL hm hQ
  obtain⟨⟨d1,h1⟩,e1,hm⟩:=Option.bind_eq_some_iff.mp hm
  refine hc ρ σ H hd ls _ d1 h1 hR hL e1 λ ρ1 H1 x1 R1=>?_
  cases d1 with
  | true=>
    rw[if_pos rfl]at hm ⊢
    exact ha ρ1 σ H1 h1 ls E f hd' R1 (hL.ext hR x1) hm λ ρ2 H2 x2 R2=>hQ ρ2 H2 (x1.trans R1 x2) R2
  | false=>
    rw[if_neg Bool.false_ne_true]at hm ⊢
    exact hb ρ1 σ H1 h1 ls E f hd' R1 (hL.ext hR x1) hm λ ρ2 H2 x2 R2=>hQ ρ2 H2 (x1.trans R1 x2) R2
noncomputable def LH:MS:=λ _ _=>none
theorem Po:RS K Kb LH:=by
  intro ρ σ H hd ls E f hd' hR hL hm hQ
  cases hm
noncomputable abbrev MG:=D->Ls->Hd->Option Ls
noncomputable abbrev MGs:=List D->Ls->Hd->Option Ls
noncomputable def RGt(K:PySem.W.Frag)(t:TG)(m:MG):Prop:=∀ (ρ:List Addr) (σ:St) (H:Hp) (hd:Hd) (ls ls':Ls) (d:D) (v:V) (Q:St->Hp->Prop),RH K ρ H hd->RL K ρ H ls σ->RD K ρ H d v->m d ls hd=some ls' ->
  (∀ σ',RL K ρ H ls' σ'->Q σ' H)->t v σ H Q
noncomputable def Ln(K:PySem.W.Frag)(t:TGs)(m:MGs):Prop:=∀ (ρ:List Addr) (σ:St) (H:Hp) (hd:Hd) (ls ls':Ls) (d:List D) (v:List V) (Q:St->Hp->Prop),RH K ρ H hd->RL K ρ H ls σ->RDs K ρ H d v->m d ls hd=some ls' ->
  (∀ σ',RL K ρ H ls' σ'->Q σ' H)->t v σ H Q
theorem RL.set{ls:Ls}{σ:St}{d:D}{v:V}(h:RL K ρ H ls σ)(i:Nat)(r:RD K ρ H d v):RL K ρ H (ls.set i (some d)) (σ.set i (some v)):=by
  refine⟨by simp[h.len],λ j e q=>?_⟩
  by_cases hij:i=j
  . subst hij
    have hl:i < ls.length:=by
      have:=(List.getElem?_eq_some_iff.mp q).1
      simpa using this
    rw[List.getElem?_set_self hl]at q
    cases q
    exact⟨v,by rw[List.getElem?_set_self (by rw[<- h.len];exact hl)],r⟩
  . rw[List.getElem?_set_ne hij]at q
    obtain⟨w,e1,e2⟩:=h.ob j e q
    exact⟨w,by rw[List.getElem?_set_ne hij];exact e1,e2⟩
noncomputable def AS(i:Nat):MG:=λ d ls _=>some (ls.set i (some d))
theorem Ix{i:Nat}:RGt K (G7 i) (AS i):=by
  intro ρ σ H hd ls ls' d v Q hR hL hd hm hQ
  cases hm
  exact hQ _ (hL.set i hd)
noncomputable def DR:MGs:=λ ds ls _=>match ds with
  | []=>some ls
  | _=>none
noncomputable def B1(m:MG)(r:MGs):MGs:=λ ds ls hd=>match ds with
  | d :: es=>(m d ls hd).bind λ ls1=>r es ls1 hd
  | []=>none
theorem SQ:Ln K Qt DR:=by
  intro ρ σ H hd ls ls' d v Q hR hL hd hm hQ
  cases d with
  | nil=>
    simp only[RDs]at hd;subst hd
    cases hm
    exact⟨rfl,hQ _ hL⟩
  | cons a b=>cases hm
theorem Pu{t:TG}{u:TGs}{m:MG}{r:MGs}(h:RGt K t m)(h':Ln K u r):Ln K (NV t u) (B1 m r):=by
  intro ρ σ H hd ls ls' d v Q hR hL hd hm hQ
  cases d with
  | nil=>cases hm
  | cons a b=>
    simp only[RDs]at hd
    obtain⟨x,y,rfl,h1,h2⟩:=hd
    obtain⟨ls1,e1,e2⟩:=Option.bind_eq_some_iff.mp hm
    exact⟨x,y,rfl,h ρ σ H _ ls ls1 a x _ hR hL h1 e1 λ σ1 L1=>h' ρ σ1 H _ ls1 ls' b y Q hR L1 h2 e2 hQ⟩
noncomputable def DQ(n:Nat)(r:MGs):MG:=λ d ls hd=>(Ac d).bind λ ds=>if ds.length=n then r ds ls hd else none
theorem UG{n:Nat}{u:TGs}{r:MGs}(h':Ln K u r):RGt K (NU K n u) (DQ n r):=by
  intro ρ σ H hd ls ls' d v Q hR hL hd hm hQ
  obtain⟨ds,e1,hm⟩:=Option.bind_eq_some_iff.mp hm
  split at hm
  . next c=>
    obtain⟨a,xs,rfl,q,rr⟩:=hd.tup e1
    exact⟨a,xs,rfl,q,by rw[rr.len];exact c,h' ρ σ H _ ls ls' ds xs Q hR hL rr hm hQ⟩
  . cases hm
noncomputable def JH(m:ME)(g:MG):MS:=λ ls hd=>(m ls hd).bind λ p=>(g p.1 ls p.2).map λ ls'=>(.nx ls',p.2)
theorem Km{t:TE}{m:ME}{g:TG}{n:MG}(h:RE K t m)(hg:RGt K g n):RS K (Fp t g) (JH m n):=by
  intro ρ σ H hd ls E f hd' hR hL hm hQ
  obtain⟨⟨d1,h1⟩,e1,hm⟩:=Option.bind_eq_some_iff.mp hm
  obtain⟨ls',e2,e3⟩:=Option.map_eq_some_iff.mp hm
  cases e3
  exact h ρ σ H hd ls _ d1 _ hR hL e1 λ ρ1 H1 v x1 R1 r1=>hg ρ1 σ H1 _ ls ls' d1 v _ R1 (hL.ext hR x1) r1 e2 λ σ' L'=>hQ ρ1 H1 x1 R1 σ' L'
noncomputable abbrev AL(i:Nat)(m:ME):MS:=JH m (AS i)
noncomputable def NO(ix:List Nat)(ma:MA):MS:=λ ls hd=>(ma ls hd).bind λ p=>if p.1.length=ix.length then some (.nx ((ix.zip p.1).foldl (λ l q=>l.set q.1 (some q.2)) ls),p.2)else none
noncomputable def W6(i j k:Nat)(ma:MA):MS:=NO [k,j,i] (λ ls hd=>(ma ls hd).map λ p=>(p.1.reverse,p.2))
noncomputable abbrev Gd:=List (Nat × List D)
noncomputable abbrev MI:=Ls->Hd->Option ((List D × Gd) × Hd)
noncomputable def GOk(hd:Hd)(g:Gd):Prop:=∀ p ∈ g,hd[p.1]? = some (.lst p.2)
@[simp] theorem AZ(hd:Hd):GOk hd []:=λ p h=>by cases h
noncomputable def Lk(K:PySem.W.Frag)(ρ:List Addr)(H:Hp)(J:It)(ds:List D)(g:Gd):Prop:=∀ (ρ2:List Addr) (H2:Hp) (hd2:Hd),Ext ρ H ρ2 H2->RH K ρ2 H2 hd2->GOk hd2 g ->
  ∀ i:Nat,(i < ds.length->J.go i H2/\∀ x H3,J.yld i H2 x H3->∃ ρ3 d,Ext ρ2 H2 ρ3 H3/\ρ3=ρ2/\RH K ρ3 H3 hd2/\ds[i]? = some d/\RD K ρ3 H3 d x)/\(i=ds.length->J.stop i H2)
noncomputable def RIt(K:PySem.W.Frag)(t:TI)(m:MI):Prop:=∀ (ρ:List Addr) (σ:St) (H:Hp) (hd:Hd) (ls:Ls) (Q:It->Hp->Prop) (d:List D) (g:Gd) (hd':Hd),RH K ρ H hd->RL K ρ H ls σ->m ls hd=some ((d,g),hd') ->
  (∀ ρ' H' J,Ext ρ H ρ' H'->RH K ρ' H' hd'->GOk hd' g->Lk K ρ' H' J d g->Q J H')->t σ H Q
theorem Mn{a:Addr}{xs:List V}{ds:List D}(hR:RH K ρ H hd)(q:SqT K H a xs)(r:RDs K ρ H ds xs)(g:Gd):Lk K ρ H (Itt K a) ds g:=by
  intro ρ2 H2 hd2 x2 R2 _ i
  have q2:=(x2.grow hR).sq q
  have r2:=r.ext hR x2
  have uniq:∀ ys,SqT K H2 a ys->True:=λ _ _=>trivial
  refine⟨λ hi=>?_,λ hi=>⟨xs,q2,by rw[r2.len,hi];exact Nat.le_refl _⟩⟩
  have e:ds[i]? = some ds[i]:=by simp[hi]
  obtain⟨x,x1,x3⟩:=r2.get e
  refine⟨⟨xs,x,q2,x1⟩,λ y H3 ⟨e3,hy⟩=>?_⟩
  subst e3
  have:=hy xs q2
  rw[x1]at this
  cases this
  exact⟨ρ2,_,.refl,rfl,R2,e,x3⟩
noncomputable def C1(m:ME):MI:=λ ls hd=>(m ls hd).bind λ p=>(Ac p.1).map λ ds=>((ds,[]),p.2)
theorem O4{t:TE}{m:ME}(h:RE K t m):RIt K (LP K t) (C1 m):=by
  intro ρ σ H hd ls Q d g hd' hR hL hm hQ
  obtain⟨⟨d1,h1⟩,e1,hm⟩:=Option.bind_eq_some_iff.mp hm
  obtain⟨ds,e2,e3⟩:=Option.map_eq_some_iff.mp hm
  cases e3
  refine h ρ σ H hd ls _ d1 _ hR hL e1 λ ρ1 H1 v x1 R1 r1=>?_
  obtain⟨a,xs,rfl,q,r⟩:=r1.tup e2
  exact⟨a,rfl,⟨xs,q⟩,hQ ρ1 H1 _ x1 R1 (AZ _) (Mn R1 q r [])⟩
noncomputable def Dz(m:ME):MI:=λ ls hd=>(m ls hd).bind λ p=>match p.1 with
  | .mu n=>match p.2[n]? with
    | some (.lst ds)=>some ((ds,[(n,ds)]),p.2)
    | _=>none
  | .ro ns=>some ((ns.map λ n=>.im (.int n),[]),p.2)
  | _=>none
theorem M6{t:TE}{m:ME}(h:RE K t m):RIt K (IZ K t) (Dz m):=by
  intro ρ σ H hd ls Q d g hd' hR hL hm hQ
  obtain⟨⟨d1,h1⟩,e1,hm⟩:=Option.bind_eq_some_iff.mp hm
  dsimp only at hm
  split at hm
  . next n=>
    split at hm
    . next ds q=>
      cases hm
      refine h ρ σ H hd ls _ _ _ hR hL e1 λ ρ1 H1 v x1 R1 r1=>?_
      simp only[RD]at r1
      obtain⟨a,hn,rfl⟩:=r1
      obtain⟨xs,e2,e3⟩:=R1.lst hn q
      refine⟨a,rfl,⟨xs,SqL.of e2⟩,hQ ρ1 H1 _ x1 R1 (λ p z=>by simp at z;subst z;exact q) ?_⟩
      intro ρ2 H2 hd2 x2 R2 G2 i
      have q2:=G2 (n,d) (by simp)
      have hn2:ρ2[n]? = some a:=by
        obtain⟨r,rfl,_⟩:=x2.pre
        rw[List.getElem?_append_left (List.getElem?_eq_some_iff.mp hn).1];exact hn
      obtain⟨ys,e4,e5⟩:=R2.lst hn2 q2
      refine⟨λ hi=>?_,λ hi=>⟨ys,SqL.of e4,by rw[e5.len,hi];exact Nat.le_refl _⟩⟩
      have e:d[i]? = some d[i]:=by simp[hi]
      obtain⟨x,y1,y2⟩:=e5.get e
      refine⟨⟨ys,x,SqL.of e4,y1⟩,λ y H3 ⟨e6,hy⟩=>?_⟩
      subst e6
      have:=hy ys (SqL.of e4)
      rw[y1]at this
      cases this
      exact⟨ρ2,_,.refl,rfl,R2,e,y2⟩
    . cases hm
  . next ns=>
    cases hm
    refine h ρ σ H hd ls _ _ _ hR hL e1 λ ρ1 H1 v x1 R1 r1=>?_
    simp only[RD]at r1
    obtain⟨a,rfl,q⟩:=r1
    refine⟨a,rfl,⟨_,q.sq⟩,hQ ρ1 H1 _ x1 R1 (AZ _) ?_⟩
    intro ρ2 H2 hd2 x2 R2 G2 i
    have q2:=(q.grow (x2.grow R1)).sq
    have e5:RDs K ρ2 H2 (ns.map λ n=>.im (.int n)) (ns.map V.int):=Ff
    refine⟨λ hi=>?_,λ hi=>⟨_,q2,by rw[e5.len,hi];exact Nat.le_refl _⟩⟩
    have e:(ns.map λ n=>D.im (.int n))[i]? = some ((ns.map λ n=>D.im (.int n))[i]):=by simp[hi]
    obtain⟨x,y1,y2⟩:=e5.get e
    refine⟨⟨_,x,q2,y1⟩,λ y H3 ⟨e6,hy⟩=>?_⟩
    subst e6
    have:=hy _ q2
    rw[y1]at this
    cases this
    exact⟨ρ2,_,.refl,rfl,R2,e,y2⟩
  . cases hm
noncomputable def VE(ml:MA):MI:=λ ls hd=>(ml ls hd).map λ p=>((p.1,[]),p.2)
noncomputable def At(lo:Int):Nat->List D
  | 0=>[]
  | n + 1=>.im (.int lo) :: At (lo + 1) n
@[simp] theorem IC(lo:Int)(n:Nat):(At lo n).length=n:=by
  induction n generalizing lo with
  | zero=>rfl
  | succ n ih=>simp[At,ih]
theorem ID{n:Nat}:∀ {lo:Int} {i:Nat},i < n->(At lo n)[i]? = some (.im (.int (lo + i))):=by
  induction n with
  | zero=>intro lo i h;omega
  | succ n ih=>
    intro lo i h
    cases i with
    | zero=>simp[At]
    | succ i=>
      simp only[At,List.getElem?_cons_succ]
      rw[ih (by omega)]
      congr 3
      push_cast
      omega
theorem Mo{lo:Int}{n:Nat}{g:Gd}:Lk K ρ H (Itr lo n) (At lo n) g:=by
  intro ρ2 H2 hd2 x2 R2 G2 i
  refine⟨λ hi=>?_,λ hi=>by rw[hi,IC];exact Nat.le_refl _⟩
  rw[IC]at hi
  refine⟨hi,λ x H3 ⟨e1,e2⟩=>?_⟩
  subst e1 e2
  exact⟨ρ2,_,.refl,rfl,R2,ID hi,by simp[RD,RI]⟩
open Classical in
noncomputable def EM(m:MA):MI:=λ ls hd=>(m ls hd).bind λ p=>match p.1 with
  | [.im (.int j)]=>if Ft j then some ((At 0 j.toNat,[]),p.2)else none
  | _=>none
theorem SO{t:TA}{m:MA}(h:RA K t m):RIt K (NS t) (EM m):=by
  intro ρ σ H hd ls Q d g hd' hR hL hm hQ
  obtain⟨⟨d1,h1⟩,e1,hm⟩:=Option.bind_eq_some_iff.mp hm
  dsimp only at hm
  split at hm
  . next j=>
    split at hm
    . next c=>
      cases hm
      refine h ρ σ H hd ls _ _ _ hR hL e1 λ ρ1 H1 v x1 R1 r1=>?_
      simp only[RDs,RD,RI]at r1
      obtain⟨x,r,rfl,rfl,rfl⟩:=r1
      exact⟨j,rfl,c.1,c.2,hQ ρ1 H1 _ x1 R1 (AZ _) Mo⟩
    . cases hm
  . cases hm
open Classical in
noncomputable def Rr(m:MA):MI:=λ ls hd=>(m ls hd).bind λ p=>match p.1 with
  | [.im (.int i),.im (.int j)]=>if Pq i j then some ((At i (j - i).toNat,[]),p.2)else none
  | _=>none
open Classical in
noncomputable def Bg(n:MG)(b:MS)(g:Gd):List D->Ls->Hd->Option (Fl × Hd)
  | [],ls,hd=>some (.nx ls,hd)
  | d :: r,ls,hd=>(n d ls hd).bind λ ls1=>(b ls1 hd).bind λ p=>match p.1 with
    | .nx ls2=>if GOk p.2 g then Bg n b g r ls2 p.2 else none
    | .ct ls2=>if GOk p.2 g then Bg n b g r ls2 p.2 else none
    | .bk ls2=>some (.nx ls2,p.2)
    | .rt d=>some (.rt d,p.2)
noncomputable def CJ(mi:MI)(n:MG)(b:MS):MS:=λ ls hd=>(mi ls hd).bind λ p=>Bg n b p.1.2 p.1.1 ls p.2
theorem U7{wi:TI}{g:TG}{tb:TS}{mi:MI}{n:MG}{b:MS}(hi:RIt K wi mi)(hg:RGt K g n)(hb:RS K tb b):RS K (Pa wi g tb) (CJ mi n b):=by
  intro ρ σ H hd ls E f hd' hR hL hm hQ
  obtain⟨⟨⟨ds,gd⟩,h1⟩,e1,hm⟩:=Option.bind_eq_some_iff.mp hm
  refine hi ρ σ H hd ls _ ds gd h1 hR hL e1 λ ρ1 H1 J x1 R1 G1 Y=>?_
  dsimp only at hm
  refine⟨λ i m σ2 H2=>m=ds.length - i/\i <= ds.length/\∃ ρ2 ls2 hd2,Ext ρ1 H1 ρ2 H2/\RH K ρ2 H2 hd2/\RL K ρ2 H2 ls2 σ2/\GOk hd2 gd/\Bg n b gd (ds.drop i) ls2 hd2=some (f,hd'),
    ⟨ds.length,by simp,Nat.zero_le _,ρ1,ls,h1,.refl,R1,hL.ext hR x1,G1,by simpa using hm⟩,?_⟩
  rintro i m σ2 H2 ⟨rfl,hi,ρ2,ls2,hd2,x2,R2,L2',G2,hm2⟩
  obtain⟨Y1,Y2⟩:=Y ρ2 H2 hd2 x2 R2 G2 i
  by_cases hlt:i < ds.length
  . obtain⟨go,Y1⟩:=Y1 hlt
    have ed:ds.drop i=ds[i] :: ds.drop (i + 1):=List.drop_eq_getElem_cons hlt
    rw[ed]at hm2
    unfold Bg at hm2
    obtain⟨ls3,e3,hm2⟩:=Option.bind_eq_some_iff.mp hm2
    obtain⟨⟨fl,hd4⟩,e4,hm2⟩:=Option.bind_eq_some_iff.mp hm2
    refine .inr ⟨go,λ σ' H'=>∃ ρ2 ls2 hd2,Ext ρ1 H1 ρ2 H'/\RH K ρ2 H' hd2/\RL K ρ2 H' ls2 σ'/\GOk hd2 gd/\Bg n b gd (ds.drop (i + 1)) ls2 hd2=some (f,hd'),λ σ' H' z=>⟨ds.length - (i + 1),by omega,rfl,hlt,z⟩,λ x H3 y=>?_⟩
    obtain⟨ρ3,d3,x3,rfl,R3,e5,r3⟩:=Y1 x H3 y
    have e6:d3=ds[i]:=by
      have:ds[i]? = some ds[i]:=by simp[hlt]
      rw[this]at e5;exact(Option.some.inj e5).symm
    subst e6
    refine hg ρ3 σ2 H3 hd2 ls2 ls3 _ x _ R3 (L2'.ext R2 x3) r3 e3 λ σ4 L4=>?_
    refine hb ρ3 σ4 H3 hd2 ls3 _ fl hd4 R3 L4 e4 λ ρ5 H5 x5 R5=>?_
    have x15:=(x2.trans R2 x3).trans R3 x5
    cases fl with
    | nx ls5=>
      intro σ5 L5
      dsimp only at hm2
      split at hm2
      . next c=>exact⟨ρ5,ls5,hd4,x15,R5,L5,c,hm2⟩
      . cases hm2
    | ct ls5=>
      intro σ5 L5
      dsimp only at hm2
      split at hm2
      . next c=>exact⟨ρ5,ls5,hd4,x15,R5,L5,c,hm2⟩
      . cases hm2
    | bk ls5=>
      intro σ5 L5
      cases hm2
      exact hQ ρ5 H5 (x1.trans R1 x15) R5 σ5 L5
    | rt d5=>
      intro v5 r5
      cases hm2
      exact hQ ρ5 H5 (x1.trans R1 x15) R5 v5 r5
  . have e:i=ds.length:=by omega
    subst e
    rw[List.drop_length]at hm2
    unfold Bg at hm2
    cases hm2
    exact .inl ⟨Y2 rfl,hQ ρ2 H2 (x1.trans R1 x2) R2 σ2 L2'⟩
open Classical in
noncomputable def BD(n:MG)(c:MT)(m:ME)(g:Gd):List D->Ls->Hd->Option (List D × Hd)
  | [],_,hd=>some ([],hd)
  | d :: r,ls,hd=>(n d ls hd).bind λ ls1=>(c ls1 hd).bind λ p=>if p.1=true then(m ls1 p.2).bind λ q=>if GOk q.2 g then(BD n c m g r ls1 q.2).map λ z=>(q.1 :: z.1,z.2)else none else if GOk p.2 g then BD n c m g r ls1 p.2 else none
noncomputable def Db(k:Nat)(ix:List Nat)(ls:Ls):Ls:=List.replicate k none ++ ix.map λ i=>(ls[i]?).join
open Classical in
noncomputable def Bz(k:Nat)(ix:List Nat)(mi:MI)(n:MG)(c:MT)(m:ME):MA:=λ ls hd=>(mi ls hd).bind λ p=>if C2 p.1.1.length then BD n c m p.1.2 p.1.1 (Db k ix ls) p.2 else none
theorem Mi{k:Nat}{ix:List Nat}{ls:Ls}{σ:St}(h:RL K ρ H ls σ):RL K ρ H (Db k ix ls) (GB k ix σ):=by
  refine⟨by simp[Db,GB],λ i d e=>?_⟩
  unfold Db at e
  unfold GB
  by_cases hi:i < k
  . rw[List.getElem?_append_left (by simpa using hi),List.getElem?_replicate]at e
    split at e <;> cases e
  . have hi':k <= i:=Nat.not_lt.mp hi
    rw[List.getElem?_append_right (by simpa using hi'),List.length_replicate,List.getElem?_map]at e ⊢
    cases q:ix[i - k]? with
    | none=>rw[q]at e;cases e
    | some j=>
      rw[q]at e
      simp only[Option.map_some,Option.some.injEq]at e ⊢
      have e5:ls[j]? = some (some d):=by
        cases w:ls[j]? with
        | none=>rw[w]at e;cases e
        | some z=>rw[w]at e;simpa using e
      obtain⟨v,e6,e7⟩:=h.ob j d e5
      exact⟨v,by rw[e6];rfl,e7⟩
theorem M5{k:Nat}{ix:List Nat}{wi:TI}{g:TG}{tf:TT}{te:TE}{mi:MI}{n:MG}{c:MT}{m:ME}(hi:RIt K wi mi)(hg:RGt K g n)(hf:RT K tf c)(he:RE K te m):RN K (Ht k ix wi g tf te) (Bz k ix mi n c m):=by
  intro ρ σ H hd ls Q out hd' hR hL hm hQ
  obtain⟨⟨⟨ds,gd⟩,h1⟩,e1,hm⟩:=Option.bind_eq_some_iff.mp hm
  dsimp only at hm
  split at hm
  . next hlen=>
    have hlen:ds.length <= sizeLine:=hlen
    refine hi ρ σ H hd ls _ ds gd h1 hR hL e1 λ ρ1 H1 J x1 R1 G1 Y=>?_
    intro Da hDa
    obtain⟨R1',x1'⟩:=R1.hid (ho:=.lst []) hDa
    have oD:Da ∉ ρ1:=R1.out hDa
    have nD:H Da=none:=x1.none hR hDa R1
    refine⟨λ i mm σ2 ys H2=>mm=ds.length - i/\i <= ds.length/\∃ ρ2 ls2 hd2 es rest,Ext ρ1 (upd H1 Da (.lst ys)) ρ2 H2/\Ext ρ1 H1 ρ2 H2/\Da ∉ ρ2/\H2 Da=some (.lst ys)/\RH K ρ2 H2 hd2/\RL K ρ2 H2 ls2 σ2/\RDs K ρ2 H2 es ys/\es.length <= i/\GOk hd2 gd/\BD n c m gd (ds.drop i) ls2 hd2=some (rest,hd')/\out=es ++ rest,
      ⟨ds.length,by simp,Nat.zero_le _,ρ1,_,h1,[],out,.refl,x1',oD,AK,R1',(Mi ((hL.ext hR x1).ext R1 x1')),.nil,Nat.le_refl _,G1,by simpa using hm,rfl⟩,?_⟩
    rintro i mm σ2 ys H2 ⟨rfl,hi,ρ2,ls2,hd2,es,rest,x2',x2,oD2,hD2,R2,L2',r2,hle,G2,hm2,rfl⟩
    refine⟨hD2,?_⟩
    obtain⟨Y1,Y2⟩:=Y ρ2 H2 hd2 x2 R2 G2 i
    by_cases hlt:i < ds.length
    . obtain⟨go,Y1⟩:=Y1 hlt
      have ed:ds.drop i=ds[i] :: ds.drop (i + 1):=List.drop_eq_getElem_cons hlt
      rw[ed]at hm2
      unfold BD at hm2
      obtain⟨ls3,e3,hm2⟩:=Option.bind_eq_some_iff.mp hm2
      obtain⟨⟨bb,hd4⟩,e4,hm2⟩:=Option.bind_eq_some_iff.mp hm2
      refine .inr ⟨go,Nat.lt_of_le_of_lt (by rw[r2.len];exact hle) (by omega),λ σ' ys' H'=>∃ ρ2 ls2 hd2 es' rest',Ext ρ1 (upd H1 Da (.lst ys')) ρ2 H'/\Ext ρ1 H1 ρ2 H'/\Da ∉ ρ2/\H' Da=some (.lst ys')/\RH K ρ2 H' hd2/\RL K ρ2 H' ls2 σ'/\RDs K ρ2 H' es' ys'/\es'.length <= i + 1/\GOk hd2 gd/\BD n c m gd (ds.drop (i + 1)) ls2 hd2=some (rest',hd')/\es ++ rest=es' ++ rest',λ σ' ys' H' z=>⟨ds.length - (i + 1),by omega,rfl,hlt,z⟩,λ x H3 y=>?_⟩
      obtain⟨ρ3,d3,x3,rfl,R3,e5,r3⟩:=Y1 x H3 y
      have e6:d3=ds[i]:=by
        have:ds[i]? = some ds[i]:=by simp[hlt]
        rw[this]at e5;exact(Option.some.inj e5).symm
      subst e6
      refine hg ρ3 σ2 H3 hd2 ls2 ls3 _ x _ R3 (L2'.ext R2 x3) r3 e3 λ σ4 L4=>?_
      refine hf ρ3 σ4 H3 hd2 ls3 _ bb hd4 R3 L4 e4 λ ρ5 H5 x5 R5=>?_
      have hD5:H5 Da=some (.lst ys):=x5.keep Da _ (x3.keep Da _ hD2 oD2 nt) oD2 nt
      have out5:Da ∉ ρ5:=by
        obtain⟨r,rfl,fr⟩:=x5.pre
        intro z
        rcases List.mem_append.mp z with z|z
        . exact oD2 z
        . have:=fr _ z
          rw[x3.keep Da _ hD2 oD2 nt]at this;cases this
      cases bb with
      | false=>
        rw[if_neg Bool.false_ne_true]at hm2 ⊢
        have y25:=x3.trans R3 x5
        split at hm2
        . next g5=>exact⟨ρ5,ls3,hd4,es,rest,x2'.trans R2 y25,(x2.trans R2 y25),out5,hD5,R5,L4.ext R3 x5,(r2.ext R2 y25),by omega,g5,hm2,rfl⟩
        . cases hm2
      | true=>
        rw[if_pos rfl]at hm2 ⊢
        obtain⟨⟨z,hd6⟩,e6,hm2⟩:=Option.bind_eq_some_iff.mp hm2
        obtain⟨g6,hm2⟩:GOk hd6 gd/\((BD n c m gd (ds.drop (i + 1)) ls3 hd6).map λ q=>(z :: q.1,q.2))=some (rest,hd'):=by
          dsimp only at hm2
          split at hm2
          . next g6=>exact⟨g6,hm2⟩
          . cases hm2
        obtain⟨⟨zs,hd7⟩,e7,e8⟩:=Option.map_eq_some_iff.mp hm2
        cases e8
        refine he ρ5 σ4 H5 hd4 ls3 _ z hd6 R5 (L4.ext R3 x5) e6 λ ρ6 H6 v6 x6 R6 r6=>?_
        have hD6:H6 Da=some (.lst ys):=x6.keep Da _ hD5 out5 nt
        have out6:Da ∉ ρ6:=by
          obtain⟨r,rfl,fr⟩:=x6.pre
          intro z
          rcases List.mem_append.mp z with z|z
          . exact out5 z
          . have:=fr _ z
            rw[hD5]at this;cases this
        refine⟨hD6,?_⟩
        have y26:=(x3.trans R3 x5).trans R5 x6
        have gr:Grow H6 (upd H6 Da (.lst (ys ++ [v6]))):=Grow.refl.put (.lst hD6)
        have R7:=R6.hput (ho:=.lst (ys ++ [v6])) out6 hD6
        have x12:=x2.trans R2 y26
        have ext7:Ext ρ1 H1 ρ6 (upd H6 Da (.lst (ys ++ [v6]))):=⟨x12.pre,λ b o q nb t=>by
          have:b ≠ Da:=Ar q hDa
          rw[AF this];exact x12.keep b o q nb t,λ b ps q=>by
          have:b ≠ Da:=Ar q hDa
          rw[AF this];exact x12.tab b ps q⟩
        have ext8:Ext ρ1 (upd H1 Da (.lst (ys ++ [v6]))) ρ6 (upd H6 Da (.lst (ys ++ [v6]))):=by
          obtain⟨r,er,fr⟩:=x12.pre
          refine⟨⟨r,er,λ b hb=>?_⟩,λ b o q nb t=>?_,λ b ps q=>?_⟩
          . have:b ≠ Da:=λ z=>out6 (by rw[er,<- z];exact List.mem_append_right _ hb)
            rw[AF this];exact fr b hb
          . by_cases hb:b=Da
            . subst hb;rw[AK]at q ⊢;exact q
            . rw[AF hb]at q ⊢;exact x12.keep b o q nb t
          . by_cases hb:b=Da
            . subst hb;rw[AK]at q;cases q
            . rw[AF hb]at q ⊢;exact x12.tab b ps q
        refine⟨ρ6,ls3,hd6,es ++ [z],zs,ext8,ext7,out6,AK,R7,?_,?_,by simp;omega,g6,e7,by simp⟩
        . have L6:=(L4.ext R3 x5).ext R5 x6
          exact⟨L6.len,λ i d e=>let ⟨v,a,b⟩:=L6.ob i d e;⟨v,a,by simpa using b.mono gr []⟩⟩
        . have:=((r2.ext R2 y26).app (.cons r6 .nil)).mono gr []
          simpa using this
    . have e:i=ds.length:=by omega
      subst e
      rw[List.drop_length]at hm2
      unfold BD at hm2
      cases hm2
      refine .inl ⟨Y2 rfl,?_⟩
      exact hQ ρ2 H2 Da ys (x1.trans R1 x2) R2 nD oD2 hD2 (by simpa using r2)
  . cases hm
end
end L2
namespace L2
open PySem PySem.Spec PyProof.Rows
mutual
noncomputable def clD(w:Nat):D->Bool
  | .im _=>true
  | .mu n=>decide (n < w)
  | .tm ds=>BB w ds
  | .ro _=>true
noncomputable def BB(w:Nat):List D->Bool
  | []=>true
  | d :: ds=>clD w d && BB w ds
end
noncomputable def GA(w:Nat):List (Key × D)->Bool
  | []=>true
  | d :: ds=>clD w d.2 && GA w ds
noncomputable def clO(w:Nat):MO->Bool
  | .lst ds=>BB w ds
  | .dic ds=>GA w ds
section
variable{K:PySem.W.Frag}{ρ ρ' ρ1:List Addr}{H H' H1:Hp}{hd hd' h1 h2:Hd}
@[simp] theorem Wy{w:Nat}(a b:List D):BB w (a ++ b)=(BB w a && BB w b):=by induction a <;> simp_all [BB,Bool.and_assoc]
mutual
theorem RD.take(w:Nat):∀ {d:D} {v:V},RD K ρ H d v->clD w d=true->RD K (ρ.take w) H d v
  | .im i,v,h,_=>by simp only[RD]at h ⊢;exact h
  | .mu n,v,h,c=>by
    simp only[RD]at h ⊢
    obtain⟨a,e,q⟩:=h
    exact⟨a,by rw[List.getElem?_take_of_lt (by simpa [clD]using c)];exact e,q⟩
  | .tm ds,v,h,c=>by
    simp only[RD]at h ⊢
    obtain⟨a,xs,e,q,z⟩:=h
    exact⟨a,xs,e,q,RDs.take' w z (by simpa [clD]using c)⟩
  | .ro ns,v,h,c=>by simp only[RD]at h ⊢;exact h
theorem RDs.take'(w:Nat):∀ {d:List D} {v:List V},RDs K ρ H d v->BB w d=true->RDs K (ρ.take w) H d v
  | [],v,h,_=>by simpa only[RDs]using h
  | d :: ds,v,h,c=>by
    simp only[RDs]at h ⊢
    obtain⟨x,r',e,q,z⟩:=h
    have c:clD w d=true/\BB w ds=true:=by simpa [BB]using c
    exact⟨x,r',e,q.take w c.1,RDs.take' w z c.2⟩
end
theorem RKs.take(w:Nat):∀ {d:List (Key × D)} {v:List (Key × V)},RKs K ρ H d v->GA w d=true->RKs K (ρ.take w) H d v
  | [],v,h,_=>by simpa only[RKs]using h
  | d :: ds,v,h,c=>by
    simp only[RKs]at h ⊢
    obtain⟨x,r',e,q1,q,z⟩:=h
    have c:clD w d.2=true/\GA w ds=true:=by simpa [GA]using c
    exact⟨x,r',e,q1,q.take w c.1,RKs.take w z c.2⟩
theorem RC.take(w:Nat){o:MO}{ho:HO}(h:RC K ρ H o ho)(c:clO w o=true):RC K (ρ.take w) H o ho:=by
  cases o with
  | lst ds=>obtain⟨xs,e,q⟩:=h;exact⟨xs,e,q.take' w c⟩
  | dic ds=>obtain⟨xs,e,q⟩:=h;exact⟨xs,e,q.take w c⟩
theorem RH.take(h:RH K ρ H hd)(w:Nat)(c:(hd.take w).all (clO w)=true):RH K (ρ.take w) H (hd.take w):=by
  refine⟨by simp[h.len],h.nd.sublist (List.take_sublist _ _),h.tabs,λ n o a e1 e2=>?_⟩
  have co:=List.all_eq_true.mp c o (List.mem_of_getElem? e1)
  have hn:n < w:=by
    have:=(List.getElem?_eq_some_iff.mp e1).1
    simp at this;omega
  rw[List.getElem?_take_of_lt hn]at e1 e2
  obtain⟨ho,q1,q2⟩:=h.ob n o a e1 e2
  exact⟨ho,q1,q2.take w co⟩
theorem RH.back(R1:RH K ρ1 H1 h1){w:Nat}(hw:w <= h1.length)(c1:(h1.take w).all (clO w)=true)(x:Ext (ρ1.take w) H1 ρ' H')(R':RH K ρ' H' h2)(c:(h2.take w).all (clO w)=true) :
    RH K ρ1 H' (h2.take w ++ h1.drop w)/\Ext ρ1 H1 ρ1 H'/\ρ'.take w=ρ1.take w:=by
  obtain⟨r,rfl,fr⟩:=x.pre
  have lw:(ρ1.take w).length=w:=by rw[List.length_take,R1.len];omega
  have l2:w <= h2.length:=by rw[<- R'.len];simp[lw]
  have tk:(ρ1.take w ++ r).take w=ρ1.take w:=by rw[List.take_append_of_le_length (by omega),List.take_take];simp
  refine⟨⟨?_,R1.nd,R'.tabs,λ n o a e1 e2=>?_⟩,⟨⟨[],by simp,by simp⟩,λ b o q nb t=>x.keep b o q (λ m=>nb (List.mem_of_mem_take m)) t,x.tab⟩,tk⟩
  . rw[List.length_append,List.length_take,List.length_drop,R1.len];omega
  . by_cases hn:n < w
    . rw[List.getElem?_append_left (by rw[List.length_take];omega),List.getElem?_take_of_lt hn]at e1
      have e3:(ρ1.take w ++ r)[n]? = some a:=by
        rw[List.getElem?_append_left (by omega),List.getElem?_take_of_lt hn];exact e2
      obtain⟨ho,q1,q2⟩:=R'.ob n o a e1 e3
      have co:=List.all_eq_true.mp c o (by
        have:(h2.take w)[n]? = some o:=by rw[List.getElem?_take_of_lt hn];exact e1
        exact List.mem_of_getElem? this)
      have q3:=q2.take w co
      rw[tk]at q3
      have q4:=q3.mono (Grow.refl (H:=H')) (ρ1.drop w)
      rw[List.take_append_drop]at q4
      exact⟨ho,q1,q4⟩
    . rw[List.getElem?_append_right (by rw[List.length_take];omega),List.length_take,List.getElem?_drop]at e1
      have e1:h1[n]? = some o:=by
        have:w + (n - min w h2.length)=n:=by omega
        rw[this]at e1;exact e1
      obtain⟨ho,q1,q2⟩:=R1.ob n o a e1 e2
      have out:a ∉ ρ1.take w:=λ m=>by
        obtain⟨k,hk⟩:=List.mem_iff_getElem?.mp m
        have kw:k < w:=by
          have:=(List.getElem?_eq_some_iff.mp hk).1
          rw[lw]at this;exact this
        rw[List.getElem?_take_of_lt kw]at hk
        have:=(List.getElem?_inj (List.getElem?_eq_some_iff.mp e2).1 R1.nd).mp (e2.trans hk.symm)
        omega
      have gr:=x.grow (R1.take w c1)
      exact⟨ho,x.keep a ho q1 out (λ ps z=>by rcases R1.mut (List.mem_of_getElem? e2)with⟨y,w⟩|⟨y,w⟩ <;> (rw[q1,z]at w;cases w)),by simpa using q2.mono gr []⟩
noncomputable def spF(K:PySem.W.Frag)(k:Nat)(F:List D->Hd->Option (D × Hd)):Sp:=λ vs H Q _=>vs.length=k/\∃ (ρ:List Addr) (hd:Hd) (ds:List D) (d:D) (hd':Hd),RH K ρ H hd/\RDs K ρ H ds vs/\F ds hd=some (d,hd') /\
  ∀ ρ' H' v,Ext ρ H ρ' H'->RH K ρ' H' hd'->RD K ρ' H' d v->Q v H'
noncomputable def mkF(k n:Nat)(m:MS):List D->Hd->Option (D × Hd):=λ ds hd=>if ds.length=k then(match m (ds.map some ++ List.replicate (n - k) none) hd with
  | some (.rt d,hd')=>some (d,hd')
  | some (.nx _,hd')=>some (.im .non,hd')
  | _=>none)else none
theorem Kn{N:List Str}:∀ {ds:List D} {vs:List V},RDs K ρ H ds vs->RL K ρ H (ds.map some ++ List.replicate (N.length - ds.length) none) (DX N vs):=by
  intro ds vs r
  have hl:=r.len
  refine⟨by simp[DX,hl],λ i d e=>?_⟩
  unfold DX
  by_cases hi:i < ds.length
  . rw[List.getElem?_append_left (by simpa using hi),List.getElem?_map]at e
    have e':ds[i]? = some d:=by
      cases q:ds[i]? with
      | none=>rw[q]at e;cases e
      | some z=>rw[q]at e;simpa using e
    obtain⟨x,x1,x2⟩:=r.get e'
    exact⟨x,by rw[List.getElem?_append_left (by rw[List.length_map,hl];exact hi),List.getElem?_map,x1];rfl,x2⟩
  . rw[List.getElem?_append_right (by simpa using Nat.not_lt.mp hi),List.getElem?_replicate]at e
    split at e <;> cases e
theorem M4{k:Nat}{N:List Str}{m:MS}{t:TS}(h:RS K t m){vs:List V}{H:Hp}{Q:VK}{E:XK}(s:spF K k (mkF k N.length m) vs H Q E):t { nx:=λ _ H'=>Q .non H',rt:=Q } (DX N vs) H:=by
  obtain⟨hk,ρ,hd,ds,d,hd',hR,hr,hF,hQ⟩:=s
  unfold mkF at hF
  split at hF
  . next hl=>
    subst hl
    split at hF
    . next q=>
      cases hF
      exact h ρ _ H hd _ _ _ _ hR (Kn hr) q λ ρ' H' x R v r=>hQ ρ' H' v x R r
    . next q=>
      cases hF
      exact h ρ _ H hd _ _ _ _ hR (Kn hr) q λ ρ' H' x R σ L=>hQ ρ' H' .non x R (by simp[RD,RI])
    . cases hF
  . cases hF
noncomputable def E1(F:List D->Hd->Option (D × Hd))(ma:MA):ME:=λ ls hd=>(ma ls hd).bind λ p=>F p.1 p.2
theorem Pw{k:Nat}{F:List D->Hd->Option (D × Hd)}{t:TA}{m:MA}(h:RA K t m)(hk:∀ ds hd z,F ds hd=some z->ds.length=k):RE K (EO (spF K k F) [] E0 t) (E1 F m):=by
  intro ρ σ H hd ls Q d hd' hR hL hm hQ
  obtain⟨⟨d1,h1⟩,e1,hm⟩:=Option.bind_eq_some_iff.mp hm
  refine h ρ σ H hd ls _ d1 h1 hR hL e1 λ ρ1 H1 v1 x1 R1 r1=>?_
  rw[List.append_nil]
  exact⟨by rw[r1.len];exact hk _ _ _ hm,ρ1,h1,d1,d,hd',R1,r1,hm,λ ρ' H' w x2 R2 r2=>hQ ρ' H' w (x1.trans R1 x2) R2 r2⟩
theorem AE{k n:Nat}{m:MS}:∀ ds hd z,mkF k n m ds hd=some z->ds.length=k:=λ ds hd z h=>by
  unfold mkF at h
  split at h
  . next e=>exact e
  . cases h
noncomputable def fin(w:Nat)(d:D)(h2 rest:Hd):Option (D × Hd):=if(h2.take w).all (clO w)=true then(match d with
    | .mu k=>if k < w then some (.mu k,h2.take w ++ rest)else(match h2[k]? with
      | some (.lst ds)=>if BB w ds=true then some (.mu (w + rest.length),h2.take w ++ rest ++ [.lst ds])else none
      | _=>none)
    | d=>if clD w d=true then some (d,h2.take w ++ rest)else none)else none
noncomputable def AC(w:Nat)(F:List D->Hd->Option (D × Hd))(ma:MA):ME:=λ ls hd=>(ma ls hd).bind λ p=>
  if w <= p.2.length/\BB w p.1=true/\(p.2.take w).all (clO w)=true then(F p.1 (p.2.take w)).bind λ r=>fin w r.1 r.2 (p.2.drop w)else none
theorem Kp{w k:Nat}{F:List D->Hd->Option (D × Hd)}{t:TA}{m:MA}(h:RA K t m)(hk:∀ ds hd z,F ds hd=some z->ds.length=k):RE K (EO (spF K k F) [] E0 t) (AC w F m):=by
  intro ρ σ H hd ls Q d hd' hR hL hm hQ
  obtain⟨⟨d1,h1⟩,e1,hm⟩:=Option.bind_eq_some_iff.mp hm
  dsimp only at hm
  split at hm
  . next c=>
    obtain⟨c0,c1,c2⟩:=c
    obtain⟨⟨d2,h2⟩,e2,hm⟩:=Option.bind_eq_some_iff.mp hm
    refine h ρ σ H hd ls _ d1 h1 hR hL e1 λ ρ1 H1 v1 x1 R1 r1=>?_
    rw[List.append_nil]
    refine⟨by rw[r1.len];exact hk _ _ _ e2,ρ1.take w,h1.take w,d1,d2,h2,R1.take w c2,r1.take' w c1,e2,λ ρ' H' v x2 R2 r2=>?_⟩
    unfold fin at hm
    dsimp only at hm
    split at hm
    . next c3=>
      obtain⟨R3,x3,tk⟩:=R1.back c0 c2 x2 R2 c3
      have up:∀ {d:D} {v:V},RD K ρ' H' d v->clD w d=true->RD K ρ1 H' d v:=λ r c=>by
        have q:=r.take w c
        rw[tk]at q
        have q:=q.mono (Grow.refl (H:=H')) (ρ1.drop w)
        rw[List.take_append_drop]at q
        exact q
      have ups:∀ {d:List D} {v:List V},RDs K ρ' H' d v->BB w d=true->RDs K ρ1 H' d v:=λ r c=>by
        have q:=r.take' w c
        rw[tk]at q
        have q:=q.mono (Grow.refl (H:=H')) (ρ1.drop w)
        rw[List.take_append_drop]at q
        exact q
      split at hm
      . next k'=>
        split at hm
        . next hk'=>
          cases hm
          exact hQ ρ1 H' v (x1.trans R1 x3) R3 (up r2 (by simpa [clD]using hk'))
        . next hk'=>
          split at hm
          . next ds q=>
            split at hm
            . next c4=>
              cases hm
              simp only[RD]at r2
              obtain⟨a,ea,rfl⟩:=r2
              obtain⟨xs,l1,l2⟩:=R2.lst ea q
              have len3:=R3.len
              have out:a ∉ ρ1:=λ m=>by
                -- a is one of those made behind the first w
                obtain⟨r,er,fr⟩:=x2.pre
                have lw:(ρ1.take w).length=w:=by rw[List.length_take,R1.len];omega
                have ma:a ∈ r:=by
                  rw[er,List.getElem?_append_right (by rw[lw];omega)]at ea
                  exact List.mem_of_getElem? ea
                exact R1.out (fr a ma) m
              have na:H1 a=none:=by
                obtain⟨r,er,fr⟩:=x2.pre
                have lw:(ρ1.take w).length=w:=by rw[List.length_take,R1.len];omega
                have ma:a ∈ r:=by
                  rw[er,List.getElem?_append_right (by rw[lw];omega)]at ea
                  exact List.mem_of_getElem? ea
                exact fr a ma
              refine hQ (ρ1 ++ [a]) H' _ (x1.trans R1 (x3.name na)) (R3.name out l1 (ups l2 c4)) ?_
              simp only[RD]
              refine⟨a,?_,rfl⟩
              have:w + (List.drop w h1).length=ρ1.length:=by rw[List.length_drop,R1.len];omega
              rw[this];simp
            . cases hm
          . cases hm
      . next d' nd=>
        split at hm
        . next c4=>cases hm;exact hQ ρ1 H' v (x1.trans R1 x3) R3 (up r2 c4)
        . cases hm
    . cases hm
  . cases hm
noncomputable def B8(c:MT)(b:MS):Nat->Ls->Hd->Option (Fl × Hd)
  | 0,_,_=>none
  | k + 1,ls,hd=>(c ls hd).bind λ p=>if p.1=true then(b ls p.2).bind λ q=>(match q.1 with
      | .nx ls2=>B8 c b k ls2 q.2
      | .ct ls2=>B8 c b k ls2 q.2
      | .bk ls2=>some (.nx ls2,q.2)
      | .rt d=>some (.rt d,q.2))else some (.nx ls,p.2)
open Classical in
noncomputable def DC(c:MT)(b:MS):MS:=λ ls hd=>if h:∃ r k,B8 c b k ls hd=some r then some h.choose else none
theorem E8{c:MT}{b:MS}:∀ {k j:Nat} {ls:Ls} {hd:Hd} {r:Fl × Hd},B8 c b k ls hd=some r->k <= j->B8 c b j ls hd=some r
  | 0,_,_,_,_,h,_=>by cases h
  | k + 1,0,_,_,_,_,hj=>by omega
  | k + 1,j + 1,ls,hd,r,h,hj=>by
    unfold B8 at h ⊢
    obtain⟨p,e1,h⟩:=Option.bind_eq_some_iff.mp h
    rw[e1]
    show(if p.1=true then _ else _)=_
    split at h
    . next c=>
      rw[if_pos c]
      obtain⟨q,e2,h⟩:=Option.bind_eq_some_iff.mp h
      rw[e2]
      obtain⟨f,hd2⟩:=q
      cases f with
      | nx ls2=>exact E8 h (by omega)
      | ct ls2=>exact E8 h (by omega)
      | bk ls2=>exact h
      | rt d=>exact h
    . next c=>rw[if_neg c];exact h
theorem Jf{c:MT}{b:MS}{k:Nat}{ls:Ls}{hd:Hd}{r:Fl × Hd}(h:B8 c b k ls hd=some r):DC c b ls hd=some r:=by
  unfold DC
  have ex:∃ r k,B8 c b k ls hd=some r:=⟨r,k,h⟩
  rw[dif_pos ex]
  obtain⟨j,e⟩:=ex.choose_spec
  have e1:=E8 e (Nat.le_max_left j k)
  have e2:=E8 h (Nat.le_max_right j k)
  rw[e1]at e2
  exact e2
theorem Pm{tc:TT}{tb:TS}{c:MT}{b:MS}(hc:RT K tc c)(hb:RS K tb b):RS K (Ka tc tb) (DC c b):=by
  intro ρ σ H hd ls E f hd' hR hL hm hQ
  obtain⟨k,hk⟩:∃ k,B8 c b k ls hd=some (f,hd'):=by
    unfold DC at hm
    split at hm
    . next ex=>
      obtain⟨j,e⟩:=ex.choose_spec
      exact⟨j,by rw[e];exact hm⟩
    . cases hm
  refine⟨λ m σ2 H2=>∃ ρ2 ls2 hd2,Ext ρ H ρ2 H2/\RH K ρ2 H2 hd2/\RL K ρ2 H2 ls2 σ2/\B8 c b m ls2 hd2=some (f,hd'),⟨k,ρ,ls,hd,.refl,hR,hL,hk⟩,?_⟩
  rintro m σ2 H2 ⟨ρ2,ls2,hd2,x2,R2,L2',hm2⟩
  cases m with
  | zero=>cases hm2
  | succ m=>
    unfold B8 at hm2
    obtain⟨⟨bb,hd3⟩,e1,hm2⟩:=Option.bind_eq_some_iff.mp hm2
    refine hc ρ2 σ2 H2 hd2 ls2 _ bb hd3 R2 L2' e1 λ ρ3 H3 x3 R3=>?_
    cases bb with
    | false=>
      rw[if_neg Bool.false_ne_true]at hm2 ⊢
      cases hm2
      exact hQ ρ3 H3 (x2.trans R2 x3) R3 σ2 (L2'.ext R2 x3)
    | true=>
      rw[if_pos rfl]at hm2 ⊢
      obtain⟨⟨fl,hd4⟩,e2,hm2⟩:=Option.bind_eq_some_iff.mp hm2
      refine⟨λ σ' H'=>∃ ρ2 ls2 hd2,Ext ρ H ρ2 H'/\RH K ρ2 H' hd2/\RL K ρ2 H' ls2 σ'/\B8 c b m ls2 hd2=some (f,hd'),λ σ' H' z=>⟨m,Nat.lt_succ_self m,z⟩,?_⟩
      refine hb ρ3 σ2 H3 hd3 ls2 _ fl hd4 R3 (L2'.ext R2 x3) e2 λ ρ5 H5 x5 R5=>?_
      have x15:=(x2.trans R2 x3).trans R3 x5
      cases fl with
      | nx ls5=>intro σ5 L5;exact⟨ρ5,ls5,hd4,x15,R5,L5,hm2⟩
      | ct ls5=>intro σ5 L5;exact⟨ρ5,ls5,hd4,x15,R5,L5,hm2⟩
      | bk ls5=>intro σ5 L5;cases hm2;exact hQ ρ5 H5 x15 R5 σ5 L5
      | rt d5=>intro v5 r5;cases hm2;exact hQ ρ5 H5 x15 R5 v5 r5
noncomputable def BM(kvs:List (Key × D))(k:Key):Option D:=(kvs.find? λ kv=>decide (kv.1=k)).map (·.2)
noncomputable def Dw(kvs:List (Key × D))(k:Key)(v:D):List (Key × D):=
  if(kvs.any λ kv=>decide (kv.1=k))=true then kvs.map (λ kv=>if kv.1=k then(kv.1,v)else kv)else kvs ++ [(k,v)]
theorem RKs.val:∀ {kvs:List (Key × D)} {xs:List (Key × V)} {k:Key} {d:D},RKs K ρ H kvs xs->BM kvs k=some d->∃ v,E5 xs k=some v/\RD K ρ H d v
  | [],xs,k,d,h,e=>by simp[BM]at e
  | p :: kvs,xs,k,d,h,e=>by
    simp only[RKs]at h
    obtain⟨x,r,rfl,e1,r1,r2⟩:=h
    by_cases hk:p.1=k
    . rw[Ee (e1.trans hk)]
      simp[BM,List.find?_cons,hk]at e
      subst e
      exact⟨_,rfl,r1⟩
    . rw[Ef (by rw[e1];exact hk)]
      simp only[BM,List.find?_cons,hk,decide_false]at e
      exact RKs.val r2 e
theorem RKs.valN:∀ {kvs:List (Key × D)} {xs:List (Key × V)} {k:Key},RKs K ρ H kvs xs->(E5 xs k).isSome=(BM kvs k).isSome
  | [],xs,k,h=>by simp only[RKs]at h;subst h;rfl
  | p :: kvs,xs,k,h=>by
    simp only[RKs]at h
    obtain⟨x,r,rfl,e1,r1,r2⟩:=h
    by_cases hk:p.1=k
    . rw[Ee (e1.trans hk)];simp[BM,List.find?_cons,hk]
    . rw[Ef (by rw[e1];exact hk)];simp only[BM,List.find?_cons,hk,decide_false];exact RKs.valN r2
theorem RKs.any:∀ {kvs:List (Key × D)} {xs:List (Key × V)} {k:Key},RKs K ρ H kvs xs->(xs.any λ kv=>decide (kv.1=k))=(kvs.any λ kv=>decide (kv.1=k))
  | [],xs,k,h=>by simp only[RKs]at h;subst h;rfl
  | p :: kvs,xs,k,h=>by
    simp only[RKs]at h
    obtain⟨x,r,rfl,e1,r1,r2⟩:=h
    simp only[List.any_cons,e1,RKs.any r2]
theorem RKs.upd:∀ {kvs:List (Key × D)} {xs:List (Key × V)} {k:Key} {d:D} {v:V},RKs K ρ H kvs xs->RD K ρ H d v->RKs K ρ H (kvs.map (λ kv=>if kv.1=k then(kv.1,d)else kv)) (xs.map (λ kv=>if kv.1=k then(kv.1,v)else kv))
  | [],xs,k,d,v,h,_=>by simp only[RKs]at h;subst h;simp[RKs]
  | p :: kvs,xs,k,d,v,h,q=>by
    simp only[RKs]at h
    obtain⟨x,r,rfl,e1,r1,r2⟩:=h
    simp only[List.map_cons,RKs]
    refine⟨_,_,rfl,?_,?_,RKs.upd r2 q⟩
    . rw[e1];split <;> simp[e1]
    . rw[e1];split
      . exact q
      . exact r1
theorem RKs.app:∀ {kvs ks:List (Key × D)} {xs ys:List (Key × V)},RKs K ρ H kvs xs->RKs K ρ H ks ys->RKs K ρ H (kvs ++ ks) (xs ++ ys)
  | [],ks,xs,ys,h,t=>by simp only[RKs]at h;subst h;simpa using t
  | d :: ds,ks,xs,ys,h,t=>by
    simp only[RKs]at h
    obtain⟨x,r,rfl,e,z,q⟩:=h
    simp only[List.cons_append,RKs]
    exact⟨_,_,rfl,e,z,q.app t⟩
theorem RKs.put{kvs:List (Key × D)}{xs:List (Key × V)}{k:Key}{d:D}{v:V}(h:RKs K ρ H kvs xs)(q:RD K ρ H d v):RKs K ρ H (Dw kvs k d) (Cy xs k v):=by
  unfold Dw Cy
  rw[h.any]
  split
  . exact h.upd q
  . exact h.app (by simp only[RKs];exact⟨_,_,rfl,rfl,q,rfl⟩)
noncomputable def CV:D->Option Key
  | .im (.int i)=>some (.inl i)
  | .im (.str x)=>some (.inr x)
  | _=>none
theorem Gx{d:D}{v:V}{k:Key}(h:RD K ρ H d v)(e:CV d=some k):v=kV k:=by
  cases d with
  | im i=>
    cases i with
    | int i=>simp only[CV,Option.some.injEq]at e;subst e;simp only[RD,RI]at h;exact h
    | str i=>simp only[CV,Option.some.injEq]at e;subst e;simp only[RD,RI]at h;exact h
    | _=>simp[CV]at e
  | _=>simp[CV]at e
noncomputable def CO(hd:Hd):D->Option (List (Key × D))
  | .mu n=>match hd[n]? with
    | some (.dic kvs)=>some kvs
    | _=>none
  | _=>none
theorem RD.dic{d:D}{v:V}{kvs:List (Key × D)}(hR:RH K ρ H hd)(h:RD K ρ H d v)(e:CO hd d=some kvs):∃ n a xs,d=.mu n/\v=.ref a/\ρ[n]? = some a/\H a=some (.dK xs)/\RKs K ρ H kvs xs:=by
  cases d with
  | mu n=>
    simp only[CO]at e
    simp only[RD]at h
    obtain⟨a,hn,rfl⟩:=h
    split at e
    . next q=>
      cases e
      obtain⟨xs,e1,e2⟩:=hR.dic hn q
      exact⟨n,a,xs,rfl,rfl,hn,e1,e2⟩
    . cases e
  | _=>simp[CO]at e
noncomputable def FG:D->D->Hd->Option (D × Hd):=λ d e hd=>(CO hd d).bind λ kvs=>(CV e).bind λ k=>(BM kvs k).map (·,hd)
theorem SY{td ty:TE}{md my:ME}(hd:RE K td md)(hy:RE K ty my):RE K (N3 td ty) (mOp FG md my):=by
  intro ρ σ H hd0 ls Q d hd' hR hL hm hQ
  obtain⟨⟨d1,h1⟩,e1,hm⟩:=Option.bind_eq_some_iff.mp hm
  obtain⟨⟨d2,h2⟩,e2,hm⟩:=Option.bind_eq_some_iff.mp hm
  obtain⟨kvs,e3,hm⟩:=Option.bind_eq_some_iff.mp hm
  obtain⟨k,e4,hm⟩:=Option.bind_eq_some_iff.mp hm
  obtain⟨w,e5,e6⟩:=Option.map_eq_some_iff.mp hm
  cases e6
  refine hd ρ σ H hd0 ls _ d1 h1 hR hL e1 λ ρ1 H1 v1 x1 R1 r1=>?_
  refine hy ρ1 σ H1 h1 ls _ d2 _ R1 (hL.ext hR x1) e2 λ ρ2 H2 v2 x2 R2 r2=>?_
  obtain⟨n,a,xs,rfl,rfl,hn,l1,l2⟩:=RD.dic R2 (r1.ext R1 x2) e3
  have:=Gx r2 e4
  subst this
  obtain⟨v,v1,v2⟩:=l2.val e5
  exact⟨a,v,rfl,v1 ▸ DGet.k l1,hQ ρ2 H2 v (x1.trans R1 x2) R2 v2⟩
noncomputable def Hg(neg:Bool):D->D->Hd->Option (D × Hd):=λ e d hd=>(CO hd d).bind λ kvs=>(CV e).map λ k=>(.im (.bl (if neg then !(BM kvs k).isSome else(BM kvs k).isSome)),hd)
theorem UQ{td ty:TE}{md my:ME}(hd:RE K td md)(hy:RE K ty my):RE K (Pb ty td) (mOp (Hg false) my md):=by
  intro ρ σ H hd0 ls Q d hd' hR hL hm hQ
  obtain⟨⟨d1,h1⟩,e1,hm⟩:=Option.bind_eq_some_iff.mp hm
  obtain⟨⟨d2,h2⟩,e2,hm⟩:=Option.bind_eq_some_iff.mp hm
  obtain⟨kvs,e3,hm⟩:=Option.bind_eq_some_iff.mp hm
  obtain⟨k,e4,e6⟩:=Option.map_eq_some_iff.mp hm
  cases e6
  refine hy ρ σ H hd0 ls _ d1 h1 hR hL e1 λ ρ1 H1 v1 x1 R1 r1=>?_
  refine hd ρ1 σ H1 h1 ls _ d2 _ R1 (hL.ext hR x1) e2 λ ρ2 H2 v2 x2 R2 r2=>?_
  obtain⟨n,a,xs,rfl,rfl,hn,l1,l2⟩:=RD.dic R2 r2 e3
  have:=Gx r1 e4
  subst this
  refine⟨a,_,rfl,DGet.k l1,?_⟩
  rw[l2.valN]
  exact hQ ρ2 H2 _ (x1.trans R1 x2) R2 (by simp[RD,RI])
open Classical in
noncomputable def IR(md my mv:ME):MS:=λ ls hd=>(mv ls hd).bind λ p=>(md ls p.2).bind λ q=>(my ls q.2).bind λ r=>(CV r.1).bind λ k=>match q.1 with
  | .mu n=>match r.2[n]? with
    | some (.dic kvs)=>if DN kvs.length then some (.nx ls,r.2.set n (.dic (Dw kvs k p.1)))else none
    | _=>none
  | _=>none
theorem SL{td ty tv:TE}{md my mv:ME}(hd:RE K td md)(hy:RE K ty my)(hv:RE K tv mv):RS K (N6 td ty tv) (IR md my mv):=by
  intro ρ σ H hd0 ls E f hd' hR hL hm hQ
  obtain⟨⟨d1,h1⟩,e1,hm⟩:=Option.bind_eq_some_iff.mp hm
  obtain⟨⟨d2,h2⟩,e2,hm⟩:=Option.bind_eq_some_iff.mp hm
  obtain⟨⟨d3,h3⟩,e3,hm⟩:=Option.bind_eq_some_iff.mp hm
  obtain⟨k,e4,hm⟩:=Option.bind_eq_some_iff.mp hm
  dsimp only at hm
  split at hm
  . split at hm
    . next q=>
      split at hm
      . next c=>
        cases hm
        refine hv ρ σ H hd0 ls _ d1 h1 hR hL e1 λ ρ1 H1 v1 x1 R1 r1=>?_
        refine hd ρ1 σ H1 h1 ls _ _ h2 R1 (hL.ext hR x1) e2 λ ρ2 H2 v2 x2 R2 r2=>?_
        refine hy ρ2 σ H2 h2 ls _ d3 _ R2 (hL.ext hR (x1.trans R1 x2)) e3 λ ρ3 H3 v3 x3 R3 r3=>?_
        have r2:=r2.ext R2 x3
        simp only[RD]at r2
        obtain⟨a,hn,rfl⟩:=r2
        obtain⟨xs,l1,l2⟩:=R3.dic hn q
        have:=Gx r3 e4
        subst this
        obtain⟨R4,x4⟩:=R3.put hn (o:=.dic (Dw _ k d1)) (ho:=.dK (Cy xs k v1)) ⟨_,rfl,l2.put ((r1.ext R1 x2).ext R2 x3)⟩
        have x13:=(x1.trans R1 x2).trans R2 x3
        exact⟨a,_,rfl,DPut.k l1 (by rw[l2.len];exact c),hQ ρ3 _ (x13.trans R3 x4) R4 σ ((hL.ext hR x13).ext R3 x4)⟩
      . cases hm
    . cases hm
  . cases hm
noncomputable def Fa:List (ME × ME)->Ls->Hd->Option (List (Key × D) × Hd)
  | [],_,hd=>some ([],hd)
  | (mk,mv) :: r,ls,hd=>(mk ls hd).bind λ p=>(mv ls p.2).bind λ q=>(Fa r ls q.2).bind λ z=>(CV p.1).map λ k=>((k,q.1) :: z.1,z.2)
noncomputable def OT(kvs more:List (Key × D)):List (Key × D):=more.foldl (λ acc kv=>Dw acc kv.1 kv.2) kvs
noncomputable def W9(ms:List (ME × ME)):ME:=λ ls hd=>(Fa ms ls hd).bind λ p=>if p.1.length <= 15 then some (.mu p.2.length,p.2 ++ [.dic (OT [] p.1)])else none
theorem RH.nameD(hR:RH K ρ H hd){a:Addr}{xs:List (Key × V)}{kvs:List (Key × D)}(out:a ∉ ρ){o:HO}(e:H a=some o)(ht:∀ ys,o ≠ .tup ys)(hf:∀ x u,o ≠ .frz x u)(r:RKs K ρ H kvs xs)(h1:∀ ps,o ≠ .tbl ps:=by intro _ z;cases z)(h2:∀ φ,o ≠ .ext φ:=by intro _ z;cases z):RH K (ρ ++ [a]) (upd H a (.dK xs)) (hd ++ [.dic kvs]):=by
  have gr:Grow H (upd H a (.dK xs)):=Grow.refl.put ⟨λ ys z=>ht ys (by rw[e]at z;exact Option.some.inj z),λ x u z=>hf x u (by rw[e]at z;exact Option.some.inj z)⟩
  refine⟨by simp[hR.len],?_,hR.tabs.upd (λ ps z=>h1 ps (Option.some.inj (e.symm.trans z))) (λ ps z=>h2 ps (Option.some.inj (e.symm.trans z))),λ n o' b e1 e2=>?_⟩
  . rw[List.nodup_append]
    refine⟨hR.nd,by simp,λ x hx y hy z=>?_⟩
    simp at hy;subst hy;subst z;exact out hx
  . by_cases hn:n < ρ.length
    . rw[List.getElem?_append_left hn]at e2
      rw[List.getElem?_append_left (by rw[<- hR.len];exact hn)]at e1
      obtain⟨ho',q1,q2⟩:=hR.ob n o' b e1 e2
      have:b ≠ a:=λ z=>out (by rw[<- z];exact List.mem_of_getElem? e2)
      exact⟨ho',by rw[AF this];exact q1,q2.mono gr [a]⟩
    . have hn':n=ρ.length:=by
        have:=(List.getElem?_eq_some_iff.mp e2).1
        simp at this;omega
      subst hn'
      simp at e2
      rw[hR.len]at e1
      simp at e1
      subst e1;subst e2
      exact⟨_,AK,⟨xs,rfl,r.mono gr [_]⟩⟩
noncomputable def FD(mo mi mv:ME):MS:=λ ls hd=>(mv ls hd).bind λ p=>(mo ls p.2).bind λ q=>(mi ls q.2).bind λ r=>match q.1,r.1 with
  | .mu n,.im (.int i)=>match r.2[n]? with
    | some (.lst ds)=>(ixN ds.length i).map λ j=>(.nx ls,r.2.set n (.lst (ds.set j p.1)))
    | _=>none
  | _,_=>none
theorem SJ{to ti tv:TE}{mo mi mv:ME}(ho:RE K to mo)(hi:RE K ti mi)(hv:RE K tv mv):RS K (Fp tv (Qr to ti NE)) (FD mo mi mv):=by
  intro ρ σ H hd0 ls E f hd' hR hL hm hQ
  obtain⟨⟨d1,h1⟩,e1,hm⟩:=Option.bind_eq_some_iff.mp hm
  obtain⟨⟨d2,h2⟩,e2,hm⟩:=Option.bind_eq_some_iff.mp hm
  obtain⟨⟨d3,h3⟩,e3,hm⟩:=Option.bind_eq_some_iff.mp hm
  dsimp only at hm
  split at hm
  . split at hm
    . next q=>
      obtain⟨j,e4,e5⟩:=Option.map_eq_some_iff.mp hm
      cases e5
      refine hv ρ σ H hd0 ls _ d1 h1 hR hL e1 λ ρ1 H1 v1 x1 R1 r1=>?_
      refine ho ρ1 σ H1 h1 ls _ _ h2 R1 (hL.ext hR x1) e2 λ ρ2 H2 v2 x2 R2 r2=>?_
      refine hi ρ2 σ H2 h2 ls _ _ _ R2 (hL.ext hR (x1.trans R1 x2)) e3 λ ρ3 H3 v3 x3 R3 r3=>?_
      have r2:=r2.ext R2 x3
      simp only[RD]at r2
      obtain⟨a,hn,rfl⟩:=r2
      simp only[RD,RI]at r3
      subst r3
      obtain⟨xs,l1,l2⟩:=R3.lst hn q
      obtain⟨R4,x4⟩:=R3.put hn (o:=.lst _) (ho:=.lst (xs.set j v1)) ⟨_,rfl,l2.set j ((r1.ext R1 x2).ext R2 x3)⟩
      have x13:=(x1.trans R1 x2).trans R2 x3
      exact⟨a,xs,_,j,rfl,rfl,l1,by rw[l2.len];exact e4,hQ ρ3 _ (x13.trans R3 x4) R4 σ ((hL.ext hR x13).ext R3 x4)⟩
    . cases hm
  . cases hm
end
end L2
namespace L2
open PySem PySem.Spec PyProof.Rows
structure QG(K:PySem.W.Frag)(X:Cx)(e:Expr)(t:TG)(m:MG):Prop where
  p:PG X e t
  r:RGt K t m
structure QGs(K:PySem.W.Frag)(X:Cx)(e:List Expr)(t:TGs)(m:MGs):Prop where
  p:PGs X e t
  r:Ln K t m
structure QI(K:PySem.W.Frag)(X:Cx)(tg e:Expr)(t:TI)(m:MI):Prop where
  p:PI X tg e t
  r:RIt K t m
structure QF(K:PySem.W.Frag)(X:Cx)(e:List Expr)(t:TT)(m:MT):Prop where
  p:PF X e t
  r:RT K t m
structure QO(K:PySem.W.Frag)(X:Cx)(e:Option Expr)(t:TO)(m:MO1):Prop where
  p:PO X e t
  r:RO1 K t m
noncomputable def Rv(a b:List D):Prop:=a ≠ []/\C2 (a.length + b.length)
open Classical in
noncomputable def G8:D->D->Hd->Option (D × Hd):=λ d e hd=>(Ac d).bind λ a=>(Ac e).bind λ b=>if Rv a b then some (BF (a ++ b),hd)else none
theorem BH{K:PySem.W.Frag}:RB K (NF K) G8:=by
  intro ρ H hd d e v u Q z hd' hR h1 h2 hf hQ
  unfold G8 at hf
  obtain⟨a,e1,hf⟩:=Option.bind_eq_some_iff.mp hf
  obtain⟨b,e2,hf⟩:=Option.bind_eq_some_iff.mp hf
  split at hf
  . next c=>
    cases hf
    obtain⟨p,xs,rfl,q1,r1⟩:=h1.tup e1
    obtain⟨p2,ys,rfl,q2,r2⟩:=h2.tup e2
    have l1:=r1.len;have l2:=r2.len
    refine⟨p,p2,xs,ys,rfl,rfl,q1,q2,λ z=>c.1 (by rw[z]at l1;simpa using l1.symm),by rw[l1,l2];exact c.2,λ z=>?_,λ _ p3 hp=>?_⟩
    . have:b=[]:=by rw[z]at l2;simpa using l2.symm
      subst this
      exact hQ ρ H _ .refl hR (by rw[List.append_nil];exact Cw q1 r1)
    . obtain⟨R2,x2⟩:=hR.hid (ho:=.tup (xs ++ ys)) hp
      exact hQ ρ _ _ x2 R2 (Cw (SqT.of AK) ((r1.app r2).ext hR x2))
  . cases hf
noncomputable abbrev B7:=G9 JN G8
noncomputable def LI(neg:Bool)(m:ME):ME:=λ ls hd=>(m ls hd).bind λ p=>some (.im (.bl (match p.1 with
  | .im .non=>!neg
  | _=>neg)),p.2)
theorem Wj{K:PySem.W.Frag}{ρ:List Addr}{H:Hp}{d:D}{v:V}(h:RD K ρ H d v):decide (v=.non)=(match d with | .im .non=>true|_=>false):=by
  cases d with
  | im i=>
    cases i with
    | non=>simp only[RD,RI]at h;subst h;rfl
    | tup is=>simp only[RD,RI]at h;obtain⟨a,xs,rfl,_⟩:=h;rfl
    | _=>simp only[RD,RI]at h;subst h;rfl
  | mu n=>simp only[RD]at h;obtain⟨a,_,rfl⟩:=h;rfl
  | tm ds=>simp only[RD]at h;obtain⟨a,xs,rfl,_⟩:=h;rfl
  | ro ns=>simp only[RD]at h;obtain⟨a,rfl,_⟩:=h;rfl
theorem UP{K:PySem.W.Frag}{t:TE}{m:ME}(h:RE K t m):RE K (PY t) (LI false m):=by
  intro ρ σ H hd ls Q d hd' hR hL hm hQ
  obtain⟨⟨d1,h1⟩,e1,hm⟩:=Option.bind_eq_some_iff.mp hm
  cases hm
  refine h ρ σ H hd ls _ d1 _ hR hL e1 λ ρ1 H1 v x1 R1 r1=>?_
  rw[Wj r1]
  refine hQ ρ1 H1 _ x1 R1 ?_
  simp only[RD,RI]
  cases d1 with
  | im i=>cases i <;> rfl
  | _=>rfl
noncomputable def Wm(m:ME):ME:=λ ls hd=>(m ls hd).bind λ p=>match p.1 with
  | .im (.int i)=>some (.im (.int (-i)),p.2)
  | _=>none
noncomputable def Dy:MT:=λ _ hd=>some (true,hd)
theorem U1{K:PySem.W.Frag}:RT K PN Dy:=by
  intro ρ σ H hd ls Q d hd' hR hL hm hQ
  cases hm
  exact hQ ρ H .refl hR
section
variable(K:PySem.W.Frag){X:Cx}{a b c e:Expr}{es:List Expr}{ta tb tc te:TE}{ma mb mc me:ME}{tA tB':TT}{nA nB:MT}{t:TA}{m:MA}{pos:Pos}{x:Str}
theorem qv(i:Nat){x:Str}{pos:Pos}(hN:X.N[i]? = some x:=by rfl)(hv:Vis X.env.scope x:=by first|exact Or.inl rfl|exact Or.inr (Or.inl rfl)|exact Or.inr (Or.inr rfl))(hd:(x == ("__debug__":Str))=false:=by decide)
    (hcd:(x == ("__classdict__":Str))=false:=by decide):QE K X (.Name x pos) (PP i) (A0 i):=⟨Ut hN hv hd hcd,UL⟩
theorem A7{i:Int}{j pos}:QE K X (.Constant (.int i) j pos) (tC (.int i)) (mC (.int i)):=⟨Uy,NA λ _=>by simp[RI]⟩
theorem NI{i:Bool}{j pos}:QE K X (.Constant (.bool i) j pos) (tC (.bl i)) (mC (.bl i)):=⟨Vw,NA λ _=>by simp[RI]⟩
theorem Ud{j pos}:QE K X (.Constant .none j pos) (tC .non) (mC .non):=⟨Uw,NA λ _=>by simp[RI]⟩
theorem Bm{x:Str}{j pos}:QE K X (.Constant (.str x) j pos) (tC (.str x)) (mC (.str x)):=⟨Uv,NA λ _=>by simp[RI]⟩
theorem AW{op:Operator}{r:R2}{f:D->D->Hd->Option (D × Hd)}(ho:OpR X (binaryOp op) r)(hr:RB K r f)(ha:QE K X a ta ma)(hb:QE K X b tb mb):QE K X (.BinOp a op b pos) (tOp r ta tb) (mOp f ma mb):=⟨NK ho ha.p hb.p,K4 hr ha.r hb.r⟩
theorem Ku{op:CmpOp}{r:R2}{f:D->D->Hd->Option (D × Hd)}(ho:OpR X (compareOp op) r)(hr:RB K r f)(ha:QE K X a ta ma)(hb:QE K X b tb mb)(hm:behindInMarks op b=false:=by first|exact L0 _|rfl):QE K X (.Compare a [op] [b] pos) (tOp r ta tb) (mOp f ma mb):=⟨Sz ho ha.p hb.p hm,K4 hr ha.r hb.r⟩
theorem Ai{op:CmpOp}{r:R2}{f:D->D->Hd->Option (D × Hd)}(ho:OpR X (compareOp op) r)(hr:RB K r f)(ha:QE K X a ta ma)(hb:QE K X b tb mb)(hm:behindInMarks op b=false:=by first|exact L0 _|rfl):QT K X (.Compare a [op] [b] pos) (K3 (tOp r ta tb)) (AI (mOp f ma mb)):=⟨ML ho ha.p hb.p hm,Iw (K4 hr ha.r hb.r)⟩
theorem UY{j pos'}(ha:QE K X a ta ma):QT K X (.Compare a [.Is] [.Constant .none j pos'] pos) (tB (PY ta)) (AI (LI false ma)):=⟨OD (V1 ha.p),U4 (UP ha.r)⟩
theorem Fw(ha:QE K X a ta ma)(he:∀ whole,isTrue a X.env whole=(do let v <- whole;standAt a.pos;holding [v] (truthy v)):=by intro _;rfl)(hK:X.K=K:=by rfl) :
    QT K X a (λ σ H Q=>ta σ H λ x H'=>∃ k,Ll K x H' k/\Q k H') (Em ma):=by
  subst hK
  exact⟨QD ha.p he,Pl ha.r⟩
theorem UX(ha:QT K X a tA nA):QT K X (.UnaryOp .Not a pos) (PV tA) (LG nA):=⟨Uh ha.p,U2 ha.r⟩
theorem DJ(ha:QT K X a tA nA):QW K X (.BoolOp .And [a] pos) tA nA:=⟨Sg ha.p,ha.r⟩
theorem O9(ha:QT K X a tA nA):QW K X (.BoolOp .Or [a] pos) tA nA:=⟨Uf ha.p,ha.r⟩
theorem Ds{rest:List Expr}(ha:QT K X a tA nA)(hb:QW K X (.BoolOp .And (b :: rest) pos) tB' nB):QW K X (.BoolOp .And (a :: b :: rest) pos) (Pd tA tB') (E2 nA nB):=⟨Ug ha.p hb.p,U3 ha.r hb.r⟩
theorem Rj{rest:List Expr}(ha:QT K X a tA nA)(hb:QW K X (.BoolOp .Or (b :: rest) pos) tB' nB):QW K X (.BoolOp .Or (a :: b :: rest) pos) (tOr tA tB') (mOr nA nB):=⟨Vt ha.p hb.p,Vm ha.r hb.r⟩
theorem QW.toT{K:PySem.W.Frag}{X:Cx}{e:Expr}{t:TT}{m:MT}(h:QW K X e t m):QT K X e t m:=⟨h.p.pt,h.r⟩
theorem QB(hc:QT K X c tA nA)(ha:QE K X a ta ma)(hb:QE K X b tb mb):QE K X (.IfExp c a b pos) (tIf tA ta tb) (mIf nA ma mb):=⟨QU hc.p ha.p hb.p,Vp hc.r ha.r hb.r⟩
theorem A3:QA K X [] C0 A6:=⟨DT,Kr⟩
theorem A1(ha:QE K X e te me)(hr:QA K X es t m)(hs:starEach (e :: es) X.env=(false,eval e X.env) :: starEach es X.env:=by rfl):QA K X (e :: es) (Bw te t) (A2 me m):=⟨Cg ha.p hr.p hs,Sc ha.r hr.r⟩
theorem CM{x1}(h:QA K X es t m):QE K X (.Tuple es x1 pos) (PQ t) (DD m):=⟨Uu h.p,UM h.r⟩
theorem B5(h:QA K X es t m):QN K X (.List es pos) (PX t) (BA m):=⟨Ux h.p,UB h.r⟩
theorem B0(h:QN K X e te m):QE K X e te (B9 m):=⟨h.p,O6 h.r⟩
theorem AR(ha:QE K X a ta ma)(hb:QE K X b tb mb)(hs:JU b:=by exact λ _ _=>rfl)(hK:X.K=K:=by rfl):QE K X (.Subscript a b pos) (tOp (K5 K) ta tb) (mOp gIx ma mb):=⟨Rl ((LO K hK).or (MX K hK)) ha.p hb.p hs,K4 Vr ha.r hb.r⟩
theorem JB(hu:X.A.units + 1 < cLine)(ha:QE K X a ta ma)(hb:QE K X b tb mb)(hs:RP b:=by exact λ _ _=>rfl):QE K X (.Subscript a b pos) (N3 ta tb) (mOp FG ma mb):=⟨Sx hu ha.p hb.p hs,SY ha.r hb.r⟩
theorem MH:QO K X none Iv Fb:=⟨So,SN⟩
theorem MF(h:QE K X e te me):QO K X (some e) (Mz te) (IP me):=⟨Sm h.p,SM h.r⟩
theorem OA{lo hi:Option Expr}{tl th:TO}{ml mh:MO1}{p2:Pos}(h:QE K X e te me)(hl:QO K X lo tl ml)(hh:QO K X hi th mh)(hK:X.K=K:=by rfl):QN K X (.Subscript e (.Slice lo hi none p2) pos) (tSl (ND K) te tl th) (LD me ml mh):=⟨QP (Pf K hK) h.p hl.p hh.p,U9 h.r hl.r hh.r⟩
theorem Bx{id:String}{p:Pos}{r:List V->Hp->VK->Prop}{f:List D->Hd->Option (D × Hd)}(hc:CallR X (.builtin id) r)(hr:RF K r f)(hm:X.mg x=none)(hv:bootBuiltins x=some (.builtin id))(ha:QA K X (e :: es) t m)(hg:Gl X x:=by rfl)(hn:x ≠ "__name__":=by decide)(hdb:(x == ("__debug__":Str))=false:=by decide)
    (he:starEach (e :: es) X.env=(false,eval e X.env) :: starEach es X.env:=by rfl) (hpl:(backTo pos (starEach es X.env)).any (·.1)=false:=by rfl):QE K X (.Call (.Name x p) (e :: es) [] pos) (tCB r t) (mCB f m):=⟨Fz hc hg hm hv ha.p hn hdb he hpl,RX hr ha.r⟩
theorem IG{id:String}{p:Pos}{r:List V->Hp->VK->Prop}{f:List D->Hd->Option (D × Hd)}(hc:CallR X (.type id) r)(hr:RF K r f)(hm:X.mg x=none)(hv:bootBuiltins x=some (.type id))(ha:QA K X (e :: es) t m)(hg:Gl X x:=by rfl)(hn:x ≠ "__name__":=by decide)(hdb:(x == ("__debug__":Str))=false:=by decide)
    (he:starEach (e :: es) X.env=(false,eval e X.env) :: starEach es X.env:=by rfl) (hpl:(backTo pos (starEach es X.env)).any (·.1)=false:=by rfl):QE K X (.Call (.Name x p) (e :: es) [] pos) (tCB r t) (mCB f m):=⟨Cz hc hg hm hv ha.p hn hdb he hpl,RX hr ha.r⟩
theorem Ez{id:String}{p:Pos}{r:List V->Hp->VK->Prop}{tp:Bool}{g:List D->Option D}(hc:CallR X (.builtin id) r)(hr:RG K tp r g)(hm:X.mg x=none)(hv:bootBuiltins x=some (.builtin id))(ha:QN K X e te m)(hg:Gl X x:=by rfl)(hn:x ≠ "__name__":=by decide)(hdb:(x == ("__debug__":Str))=false:=by decide)
    (he:starEach [e] X.env=[(false,eval e X.env)]:=by rfl):QE K X (.Call (.Name x p) [e] [] pos) (tCB r (Bw te C0)) (CN g m):=⟨Fz hc hg hm hv (Cg ha.p DT he) hn hdb he rfl,O7 hr ha.r⟩
theorem K6{id:String}{p:Pos}{r:List V->Hp->VK->Prop}{tp:Bool}{g:List D->Option D}(hc:CallR X (.type id) r)(hr:RG K tp r g)(hm:X.mg x=none)(hv:bootBuiltins x=some (.type id))(ha:QN K X e te m)(hg:Gl X x:=by rfl)(hn:x ≠ "__name__":=by decide)(hdb:(x == ("__debug__":Str))=false:=by decide)
    (he:starEach [e] X.env=[(false,eval e X.env)]:=by rfl):QE K X (.Call (.Name x p) [e] [] pos) (tCB r (Bw te C0)) (CN g m):=⟨Cz hc hg hm hv (Cg ha.p DT he) hn hdb he rfl,O7 hr ha.r⟩
theorem Q8{p:Pos}(hm:X.mg "list"=none)(ha:QN K X e te m)(hg:Gl X "list":=by rfl)(he:starEach [e] X.env=[(false,eval e X.env)]:=by rfl)(hK:X.K=K:=by rfl):QN K X (.Call (.Name "list" p) [e] [] pos) (tCB (J8 K) (Bw te C0)) (IQ m):=⟨Cz (Nj K hK) hg hm Mj (Cg ha.p DT he) (by decide) (by decide) he rfl,Ps ha.r⟩
theorem Dv{id:String}{r:V->List V->Hp->VK->Prop}{f:D->List D->Hd->Option (D × Hd)}{name:Str}{apos cpos:Pos}{o:Expr}{to:TE}{mo:ME}(slot:Slot "list" name id)(hty:typeOf (.builtin id)=pure (.type "method_descriptor"))(hm:MtM X id r)(hr:RM K r f)(ho:QE K X o to mo)(ha:QA K X (e :: es) t m)
    (hbase:attributeBase o name X.env (eval o X.env)=eval o X.env:=by rfl)
    (hfew:((backTo cpos (starEach (e :: es) X.env)).all (λ x=>!x.1) && (backToKw cpos (keywordEach [] X.env)).all (λ x=>x.1.isSome)
      && decide ((e :: es).length + ([]:List Keyword).length + (if([]:List Keyword).isEmpty then 0 else 1) < 30))=true:=by rfl)
    (hline:(apos.endLine == cpos.line)=true:=by rfl) (hs:starEach (e :: es) X.env=(false,eval e X.env) :: starEach es X.env:=by rfl) (hplain:(backTo cpos (starEach es X.env)).any (·.1)=false:=by rfl) (hK:X.K=K:=by rfl) :
    QE K X (.Call (.Attribute o name apos) (e :: es) [] cpos) (tBM K "list" r to t) (mMt f mo m):=by
  subst hK
  exact⟨Vv PySem.F.plainAttrs_list slot hty hm ho.p ha.p hbase hfew hline hs hplain,RW hr ho.r ha.r⟩
theorem Ue{id:String}{r:V->List V->Hp->VK->Prop}{f:D->List D->Hd->Option (D × Hd)}{name:Str}{apos cpos:Pos}{o:Expr}{to:TE}{mo:ME}(slot:Slot "list" name id)(hty:typeOf (.builtin id)=pure (.type "method_descriptor"))(hm:MtM X id r)(hr:RM K r f)(ho:QE K X o to mo)
    (hbase:attributeBase o name X.env (eval o X.env)=eval o X.env:=by rfl) (hline:(apos.endLine == cpos.line)=true:=by rfl) (hK:X.K=K:=by rfl) :
    QE K X (.Call (.Attribute o name apos) [] [] cpos) (Pc K "list" r to) (mMt f mo A6):=by
  subst hK
  exact⟨Uz PySem.F.plainAttrs_list slot hty hm ho.p hbase hline,UN hr ho.r⟩
theorem AD(w:Nat){j k:Nat}{f:Addr}{fd:FuncData}{ps:List Str}{n:Nat}{F:List D->Hd->Option (D × Hd)}{st:Stmt}{p:Pos}(G:FnOk X.prog X.w X.K X.mg X.base CX0 j f fd ps (spF K n F))(hr:Room k X.A)(DA:DefAt X.K X.mg x st f fd ps)(ha:QA K X (e :: es) t m)(hF:∀ ds hd z,F ds hd=some z->ds.length=n)
    (hjk:j <= k:=by decide) (hg:Gl X x:=by rfl) (hdb:(x == ("__debug__":Str))=false:=by decide) (he:starEach (e :: es) X.env=(false,eval e X.env) :: starEach es X.env:=by rfl) (hpl:(backTo pos (starEach es X.env)).any (·.1)=false:=by rfl) :
    QE K X (.Call (.Name x p) (e :: es) [] pos) (EO (spF K n F) [] E0 t) (AC w F m):=⟨Rm G hr DA ha.p hjk hg hdb he hpl,Kp ha.r hF⟩
theorem Fx{j k:Nat}{f:Addr}{fd:FuncData}{ps:List Str}{n:Nat}{F:List D->Hd->Option (D × Hd)}{st:Stmt}{p:Pos}(G:FnOk X.prog X.w X.K X.mg X.base CX0 j f fd ps (spF K n F))(hr:Room k X.A)(DA:DefAt X.K X.mg x st f fd ps)(ha:QA K X (e :: es) t m)(hF:∀ ds hd z,F ds hd=some z->ds.length=n)
    (hjk:j <= k:=by decide) (hg:Gl X x:=by rfl) (hdb:(x == ("__debug__":Str))=false:=by decide) (he:starEach (e :: es) X.env=(false,eval e X.env) :: starEach es X.env:=by rfl) (hpl:(backTo pos (starEach es X.env)).any (·.1)=false:=by rfl) :
    QE K X (.Call (.Name x p) (e :: es) [] pos) (EO (spF K n F) [] E0 t) (E1 F m):=⟨Rm G hr DA ha.p hjk hg hdb he hpl,Pw ha.r hF⟩
theorem AO{i:Nat}(hN:X.N.Nodup)(hi:X.N[i]? = some x)(hx:Loc X.env.scope x)(hf:X.fn x=true ∨ X.env.scope.names.lookup x=some .local:=by first|exact .inl rfl|exact .inr rfl|assumption):QG K X (.Name x pos) (G7 i) (AS i):=⟨Sv hN hi hx hf,Ix⟩
theorem DK:QGs K X [] Qt DR:=⟨Ss,SQ⟩
theorem Ay{tg:TG}{tgs:TGs}{n:MG}{ns:MGs}(h1:QG K X e tg n)(h2:QGs K X es tgs ns)(hs:(assignEach (e :: es) X.env).map (·.2)=assign e X.env :: (assignEach es X.env).map (·.2):=by rfl):QGs K X (e :: es) (NV tg tgs) (B1 n ns):=⟨QM h1.p h2.p hs,Pu h1.r h2.r⟩
theorem Dt{k n:Nat}{tgs:TGs}{ns:MGs}(hc:X.calm=true)(h:QGs K X es tgs ns)(hK:X.K=K:=by rfl)(hn:(assignEach es X.env).length=n:=by rfl)(hst:(assignEach es X.env).findIdx? (·.1)=none:=by rfl):QG K X (.Tuple es k pos) (NU K n tgs) (DQ n ns):=⟨Su K hc h.p hK hn hst,UG h.r⟩
theorem Bb{tg:Expr}(h:QE K X e te me)(hK:X.K=K:=by rfl):QI K X tg e (LP K te) (C1 me):=⟨MN K h.p hK,O4 h.r⟩
theorem JA{tg:Expr}(h:QE K X e te me)(hK:X.K=K:=by rfl):QI K X tg e (IZ K te) (Dz me):=⟨Kw K h.p hK,M6 h.r⟩
theorem Dl{tg:Expr}{p:Pos}(hm:X.mg "range"=none)(ha:QA K X [a] t m)(hg:Gl X "range":=by rfl)(hs:starEach [a] X.env=[(false,eval a X.env)]:=by rfl):QI K X tg (.Call (.Name "range" p) [a] [] pos) (NS t) (EM m):=⟨OG hg hm ha.p hs,SO ha.r⟩
theorem Du:QF K X [] PN Dy:=⟨Us,U1⟩
theorem FU(h:QT K X c tA nA):QF K X [c] tA nA:=⟨Ur h.p,h.r⟩
theorem C4{elt tg iter:Expr}{ifs:List Expr}{scope:Scope}{loc fr:List Str}{ix:List Nat}{wi:TI}{g:TG}{tf:TT}{te:TE}{mi:MI}{n:MG}{mf:MT}{mm:ME}(hc:X.calm=true)(S:CSc X scope fr ix)(hi:QI K X tg iter wi mi)
    (hg:∀ s H ex,QG K (cCx X (loc ++ fr) scope s H ex) tg g n) (hf:∀ s H ex,QF K (cCx X (loc ++ fr) scope s H ex) ifs tf mf) (he:∀ s H ex,QE K (cCx X (loc ++ fr) scope s H ex) elt te mm)
    (hs:∀ x,foldedSetIterable iter X.env x=pure x:=by intro _;rfl):QN K X (.ListComp elt [⟨tg,iter,ifs,0⟩] scope pos) (Ht loc.length ix wi g tf te) (Bz loc.length ix mi n mf mm):=
  ⟨Sy hc S hi.p (λ s H ex=>(hg s H ex).p) (λ s H ex=>(hf s H ex).p) (λ s H ex=>(he s H ex).p) hs,M5 hi.r (hg X.s₀ X.H₀ []).r (hf X.s₀ X.H₀ []).r (he X.s₀ X.H₀ []).r⟩
theorem Au:QSs K X [] N0 Am:=⟨Si,SI⟩
theorem A4{st:Stmt}{rest:List Stmt}{u v:TS}{m1 m2:MS}(h1:QS K X st u m1)(h2:QSs K X rest v m2):QSs K X (st :: rest) (PR u v) (AA m1 m2):=⟨QH h1.p h2.p,U5 h1.r h2.r⟩
theorem AB{st:Stmt}{u:TS}{m1:MS}(h1:QS K X st u m1):QSs K X [st] u m1:=⟨Sh h1.p,h1.r⟩
theorem Cf(he:QE K X e te me)(hs:swapsWith e none pos.line X.env=pure false:=by rfl):QS K X (.Expr e pos) (N2 te) (By me):=⟨Sk he.p hs,SK he.r⟩
theorem AQ(he:QE K X e te me):QS K X (.Return (some e) pos) (PU te) (AV me):=⟨Uk he.p,U6 he.r⟩
theorem BJ{a b:List Stmt}{u v:TS}{m1 m2:MS}(hc:QT K X c tA nA)(ha:QSs K X a u m1)(hb:QSs K X b v m2):QS K X (.If c a b pos) (PZ tA u v) (Az nA m1 m2):=⟨Vu hc.p ha.p hb.p,Vn hc.r ha.r hb.r⟩
theorem Q6{st:Stmt}:QS K X st Kb LH:=⟨QK,Po⟩
theorem UZ{tg:Expr}{g:TG}{n:MG}(he:QE K X e te me)(hg:QG K X tg g n)(hs:swapsWithSole [tg] e pos.line X.env=pure false:=by rfl)(hw:swappedStores [tg] e X.env=pure none:=by rfl)
    (h1:(assignEach [tg] X.env).map (·.2)=[assign tg X.env]:=by rfl):QS K X (.Assign [tg] e pos) (Fp te g) (JH me n):=⟨OE he.p hg.p hs hw h1,Km he.r hg.r⟩
theorem AG{i:Nat}{pos':Pos}(hN:X.N.Nodup)(hi:X.N[i]? = some x)(hx:Loc X.env.scope x)(he:QE K X e te me)(hs:swapsWith e (some (.Name x pos')) pos.line X.env=pure false:=by rfl)(hf:X.fn x=true ∨ X.env.scope.names.lookup x=some .local:=by first|exact .inl rfl|exact .inr rfl|assumption) :
    QS K X (.Assign [.Name x pos'] e pos) (Fp te (G7 i)) (AL i me):=⟨Uj hN hi hx he.p hs hf,Km he.r Ix⟩
theorem MC{i:Nat}{y:Str}{elt tg iter:Expr}{ifs:List Expr}{scope:Scope}{spos py:Pos}{loc fr:List Str}{ix:List Nat}{wi:TI}{g:TG}{tf:TT}{te:TE}{mi:MI}{n:MG}{mf:MT}{mm:ME}(hN:X.N.Nodup)(hiN:X.N[i]? = some y)(hy:X.env.scope.names.lookup y=some .local)
    (hc:X.calm=true) (S:CSc X scope fr ix) (hi:QI K X tg iter wi mi)
    (hg:∀ s H ex,QG K (cCx X (loc ++ fr) scope s H ex) tg g n) (hf:∀ s H ex,QF K (cCx X (loc ++ fr) scope s H ex) ifs tf mf) (he:∀ s H ex,QE K (cCx X (loc ++ fr) scope s H ex) elt te mm)
    (hsw:swapsWith (.ListComp elt [⟨tg,iter,ifs,0⟩] scope pos) (some (.Name y py)) spos.line X.env=pure true:=by rfl) (hs:∀ x,foldedSetIterable iter X.env x=pure x:=by intro _;rfl) :
    QS K X (.Assign [.Name y py] (.ListComp elt [⟨tg,iter,ifs,0⟩] scope pos) spos) (Fp (Ht loc.length ix wi g tf te) (G7 i)) (AL i (B9 (Bz loc.length ix mi n mf mm))):=
  ⟨Sj hN hiN hy hc S hi.p (λ s H ex=>(hg s H ex).p) (λ s H ex=>(hf s H ex).p) (λ s H ex=>(he s H ex).p) hsw hs,Km (O6 (M5 hi.r (hg X.s₀ X.H₀ []).r (hf X.s₀ X.H₀ []).r (he X.s₀ X.H₀ []).r)) Ix⟩
theorem Se{o i value:Expr}{pos':Pos}{td ty tv:TE}{md my mv:ME}(hu:X.A.units + 1 < cLine)(ho:QE K X o td md)(hi:QE K X i ty my)(hv:QE K X value tv mv)(hs:swapsWith value (some (.Subscript o i pos')) pos.line X.env=pure false:=by rfl) :
    QS K X (.Assign [.Subscript o i pos'] value pos) (N6 td ty tv) (IR md my mv):=⟨Sl hu ho.p hi.p hv.p hs,SL ho.r hi.r hv.r⟩
theorem Gs{o i value:Expr}{pos':Pos}{to ti tv:TE}{mo mi mv:ME}(ho:QE K X o to mo)(hi:QE K X i ti mi)(hv:QE K X value tv mv)(hs:swapsWithSole [.Subscript o i pos'] value pos.line X.env=pure false:=by rfl)(hw:swappedStores [.Subscript o i pos'] value X.env=pure none:=by rfl)
    (h1:(assignEach [.Subscript o i pos'] X.env).map (·.2)=[assign (.Subscript o i pos') X.env]:=by rfl)
    (ha:∀ v,assign (.Subscript o i pos') X.env v=(do
      let ov <- holding [v] (eval o X.env)
      let iv <- holding [v,ov] (eval i X.env)
      standAt pos'
      holding [v,ov,iv] (setItem ov iv v)
      release [v,ov,iv] []):=by intro _;rfl):QS K X (.Assign [.Subscript o i pos'] value pos) (Fp tv (Qr to ti NE)) (FD mo mi mv):=⟨OE hv.p (Uq ho.p hi.p Ph ha) hs hw h1,SJ ho.r hi.r hv.r⟩
theorem CF{tg iter:Expr}{body:List Stmt}{wi:TI}{g:TG}{tb:TS}{mi:MI}{n:MG}{mb:MS}(hc:X.calm=true)(hi:QI K X tg iter wi mi)(hg:QG K X tg g n)(hb:QSs K X body tb mb)(hp:PassesOwn (model X.prog X.w) X.A X.env X.xe:=by exact PassesOwn.never)
    (hs:∀ x,foldedSetIterable iter X.env x=pure x:=by intro _;rfl):QS K X (.For tg iter body [] pos) (Pa wi g tb) (CJ mi n mb):=⟨Ul hp hc hi.p hg.p hb.p hs,U7 hi.r hg.r hb.r⟩
theorem HX{body:List Stmt}{tb:TS}{mb:MS}(hc:QT K X c tA nA)(hb:QSs K X body tb mb)(hp:PassesOwn (model X.prog X.w) X.A X.env X.xe:=by exact PassesOwn.never):QS K X (.While c body [] pos) (Ka tA tb) (DC nA mb):=⟨QJ hp hc.p hb.p,Pm hc.r hb.r⟩
end
theorem Aq{P:Program}{w:World}{K:PySem.W.Frag}{mg:Str->Option Value}{base:Heap}{x:Str}{st:Stmt}{f:Addr}{fd:FuncData}{N ps:List Str}{j:Nat}{m:MS}(DA:DefAt K mg x st f fd ps)(S:FnScope N ps (A8 st))
    (h:∀ (cdv:Value) (A:Around) (outer:List Env) (s:Shared) (H:Hp) (E:XK),Room j (A.deeper (envOfC x (A8 st) s.heap.objs.size f cdv))->∃ t,QSs K (GY CX0 P w K mg base N x (A8 st) f cdv A outer s H E).nox (AU st) t m) :
    FnOk P w K mg base CX0 (j + 1) f fd ps (spF K ps.length (mkF ps.length N.length m)):=by
  refine DA.fn.ok S (λ vs H Q E h=>h.1) (λ cdv A outer s H vs Q E hr hs=>?_)
  obtain⟨t,q⟩:=h cdv A outer s H E hr
  exact⟨t,q.p,M4 q.r hs⟩
end L2
namespace L2
open PySem PySem.Spec PyProof.Rows
section
variable{X:Cx}{pins:List (Addr × Obj)}{σ:List (Option V)}{H H':Hp}{s:Shared}{h':Heap}
end
noncomputable def Y3(tp:Bool)(h:Heap)(it l:Addr)(k:Nat):Prop:=match tp with
  | true=>h.IsTupleIter it l k
  | false=>h.IsListIter it l k
section
variable{prog:Program}{w:World}{A:Around}{E:Value->Shared->Prop}{s:Shared}{it l:Addr}{k:Nat}{xs:Array Value}{x:Value}
end
section
variable{prog:Program}{w:World}{A:Around}{E:Value->Shared->Prop}{s:Shared}{t1 t2:Bool}{z a b i1 i2 l1 l2:Addr}{j k:Nat}{xs ys:Array Value}{x y:Value}
end
noncomputable def SqS(K:PySem.W.Frag)(tp:Bool)(H:Hp)(a:Addr)(xs:List V):Prop:=match tp with
  | true=>SqT K H a xs
  | false=>SqL K H a xs
section
variable{X:Cx}{pins:List (Addr × Obj)}{σ:List (Option V)}{H:Hp}{s:Shared}
end
end L2
namespace L2
open PySem PySem.Spec PyProof.Rows
section
variable{prog:Program}{w:World}{A:Around}{E:Value->Shared->Prop}{s:Shared}
end
section
variable{X:Cx}
end
noncomputable def WW(K:PySem.W.Frag)(ρ:List Addr)(H:Hp)(tp:Bool)(a:Addr)(ds:List D)(g:Gd):Prop:=∀ (ρ2:List Addr) (H2:Hp) (hd2:Hd),Ext ρ H ρ2 H2->RH K ρ2 H2 hd2->GOk hd2 g->∃ xs,SqS K tp H2 a xs/\RDs K ρ2 H2 ds xs
noncomputable def RRw(K:PySem.W.Frag)(tp:Bool)(t:TE)(m:MI):Prop:=∀ (ρ:List Addr) (σ:St) (H:Hp) (hd:Hd) (ls:Ls) (Q:VK) (d:List D) (g:Gd) (hd':Hd),RH K ρ H hd->RL K ρ H ls σ->m ls hd=some ((d,g),hd') ->
  (∀ ρ' H' a,Ext ρ H ρ' H'->RH K ρ' H' hd'->GOk hd' g->WW K ρ' H' tp a d g->Q (.ref a) H')->t σ H Q
structure QR(K:PySem.W.Frag)(tp:Bool)(X:Cx)(e:Expr)(t:TE)(m:MI):Prop where
  p:PE X e t
  r:RRw K tp t m
section
variable{K:PySem.W.Frag}{ρ ρ':List Addr}{H H':Hp}{hd hd':Hd}
theorem SG{t:TE}{m:ME}(h:RE K t m):RRw K false t (Dz m):=by
  intro ρ σ H hd ls Q d g hd' hR hL hm hQ
  obtain⟨⟨d1,h1⟩,e1,hm⟩:=Option.bind_eq_some_iff.mp hm
  dsimp only at hm
  split at hm
  . next n=>
    split at hm
    . next ds q=>
      cases hm
      refine h ρ σ H hd ls _ _ _ hR hL e1 λ ρ1 H1 v x1 R1 r1=>?_
      simp only[RD]at r1
      obtain⟨a,hn,rfl⟩:=r1
      refine hQ ρ1 H1 a x1 R1 (λ p z=>by simp at z;subst z;exact q) λ ρ2 H2 hd2 x2 R2 G2=>?_
      have hn2:ρ2[n]? = some a:=by
        obtain⟨r,rfl,_⟩:=x2.pre
        rw[List.getElem?_append_left (List.getElem?_eq_some_iff.mp hn).1];exact hn
      obtain⟨ys,e4,e5⟩:=R2.lst hn2 (G2 (n,d) (by simp))
      exact⟨ys,SqL.of e4,e5⟩
    . cases hm
  . next ns=>
    cases hm
    refine h ρ σ H hd ls _ _ _ hR hL e1 λ ρ1 H1 v x1 R1 r1=>?_
    simp only[RD]at r1
    obtain⟨a,rfl,q⟩:=r1
    exact hQ ρ1 H1 a x1 R1 (AZ _) λ ρ2 H2 hd2 x2 R2 _=>⟨_,(q.grow (x2.grow R1)).sq,Ff⟩
  . cases hm
end
section
variable(K:PySem.W.Frag){X:Cx}{a b e:Expr}{ta tb te:TE}{me:ME}{m:MA}
theorem MD(h:QE K X e te me):QR K false X e te (Dz me):=⟨h.p,SG h.r⟩
end
section
variable{K:PySem.W.Frag}
noncomputable def Hc(ml:MA)(mb:ME):ME:=λ ls hd=>(ml ls hd).bind λ p=>(mb ls p.2).bind λ q=>match q.1 with
  | .im (.int i)=>(atI p.1 i).map (·,q.2)
  | _=>none
theorem UO{ta tb:TE}{ml:MA}{mb:ME}(ha:RN K ta ml)(hb:RE K tb mb):RE K (tOp (K5 K) ta tb) (Hc ml mb):=by
  intro ρ σ H hd ls Q d hd' hR hL hm hQ
  obtain⟨⟨d1,h1⟩,e1,hm⟩:=Option.bind_eq_some_iff.mp hm
  obtain⟨⟨d2,h2⟩,e2,hm⟩:=Option.bind_eq_some_iff.mp hm
  dsimp only at hm
  split at hm
  . obtain⟨w,e3,e4⟩:=Option.map_eq_some_iff.mp hm
    cases e4
    refine ha ρ σ H hd ls _ d1 h1 hR hL e1 λ ρ1 H1 a xs x1 R1 na oa ea r1=>?_
    refine hb ρ1 σ H1 h1 ls _ _ _ R1 (hL.ext hR x1) e2 λ ρ2 H2 v2 x2 R2 r2=>?_
    simp only[RD,RI]at r2
    subst r2
    have r1':=r1.ext R1 x2
    obtain⟨j,j1,j2⟩:=Ml r1'.len e3
    obtain⟨x,y1,y2⟩:=r1'.get j1
    exact .inl ⟨a,xs,_,x,rfl,rfl,SqL.of (x2.keep a _ ea oa nt),j2 x y1,hQ ρ2 H2 x (x1.trans R1 x2) R2 y2⟩
  . cases hm
noncomputable def Na(neg:Bool)(x y:PyData)(hd:Hd):Option (D × Hd):=if x.canLay0=true/\y.canLay0=true/\min x.depth y.depth <= 60 then some (.im (.bl (if neg then !PyData.eqv x y else PyData.eqv x y)),hd)else none
noncomputable def G4(neg:Bool)(ma:ME)(ml:MA):ME:=λ ls hd=>(ma ls hd).bind λ p=>(ml ls p.2).bind λ q=>(pyD q.2 p.1).bind λ x=>(Bj q.1).bind λ is=>Na neg x (.list (I.pys is)) q.2
noncomputable def rEN(K:PySem.W.Frag)(neg:Bool):R2:=λ x y H Q=>∃ d e,Rep K H d x/\Rep K H e y/\d.canLay0=true/\e.canLay0=true/\min d.depth e.depth <= 60/\Q (.bl (if neg then !PyData.eqv d e else PyData.eqv d e)) H
theorem SS{ρ:List Addr}{H:Hp}{a:Addr}{xs:List V}{ds:List D}{is:List I}(ea:H a=some (.lst xs))(r:RDs K ρ H ds xs)(e:Bj ds=some is):Rep K H (.list (I.pys is)) (.ref a):=by
  rw[GD e]at r
  simp only[Rep]
  exact⟨a,xs,rfl,SqL.of ea,r.is.rep⟩
theorem SX{neg:Bool}{ta tb:TE}{ma:ME}{ml:MA}(ha:RE K ta ma)(hb:RN K tb ml):RE K (tOp (rEN K neg) ta tb) (G4 neg ma ml):=by
  intro ρ σ H hd ls Q d hd' hR hL hm hQ
  obtain⟨⟨d1,h1⟩,e1,hm⟩:=Option.bind_eq_some_iff.mp hm
  obtain⟨⟨d2,h2⟩,e2,hm⟩:=Option.bind_eq_some_iff.mp hm
  obtain⟨x,e3,hm⟩:=Option.bind_eq_some_iff.mp hm
  obtain⟨is,e4,hm⟩:=Option.bind_eq_some_iff.mp hm
  unfold Na at hm
  split at hm
  . next c=>
    cases hm
    refine ha ρ σ H hd ls _ d1 h1 hR hL e1 λ ρ1 H1 v x1 R1 r1=>?_
    refine hb ρ1 σ H1 h1 ls _ d2 _ R1 (hL.ext hR x1) e2 λ ρ2 H2 a xs x2 R2 na oa ea r2=>?_
    exact⟨_,_,EV R2 (r1.ext R1 x2) e3,SS ea r2 e4,c.1,c.2.1,c.2.2,hQ ρ2 H2 _ (x1.trans R1 x2) R2 (by simp[RD,RI])⟩
  . cases hm
end
theorem V7(K:PySem.W.Frag){X:Cx}(hu:X.A.units + 64 < cLine)(hK:X.K=K:=by rfl):OpR X (compareOp .Eq) (rEN K false):=BC K hu hK
theorem OK(K:PySem.W.Frag){X:Cx}(hu:X.A.units + 64 < cLine)(hK:X.K=K:=by rfl):OpR X (compareOp .NotEq) (rEN K true):=FX K hu hK
section
variable(K:PySem.W.Frag){X:Cx}{a b e:Expr}{ta tb te:TE}{ma mb me:ME}{m mk:MA}{pos:Pos}{op:CmpOp}{neg:Bool}
theorem OB(ha:QN K X a ta m)(hb:QE K X b tb mb)(hs:JU b:=by exact λ _ _=>rfl)(hK:X.K=K:=by rfl):QE K X (.Subscript a b pos) (tOp (K5 K) ta tb) (Hc m mb):=⟨Rl ((LO K hK).or (MX K hK)) ha.p hb.p hs,UO ha.r hb.r⟩
theorem J9(ho:OpR X (compareOp op) (rEN K neg))(ha:QE K X a ta ma)(hb:QN K X b tb m)(hm:behindInMarks op b=false:=by first|exact L0 _|rfl):QT K X (.Compare a [op] [b] pos) (K3 (tOp (rEN K neg) ta tb)) (AI (G4 neg ma m)):=⟨ML ho ha.p hb.p hm,Iw (SX ha.r hb.r)⟩
end
end L2
namespace L2
open PySem PySem.Spec PyProof.Rows
noncomputable def Bl(lo:Int):Nat->List V
  | 0=>[]
  | n + 1=>.int lo :: Bl (lo + 1) n
theorem IB(lo:Int)(n:Nat):(Bl lo n).length=n:=by
  induction n generalizing lo with
  | zero=>rfl
  | succ n ih=>simp[Bl,ih]
theorem Fv{K:PySem.W.Frag}{ρ:List Addr}{H:Hp}(lo:Int)(n:Nat):RDs K ρ H (At lo n) (Bl lo n):=by
  induction n generalizing lo with
  | zero=>simp[At,Bl,RDs]
  | succ n ih=>exact .cons (by simp[RD,RI]) (ih _)
theorem IA{lo:Int}:∀ {n:Nat} {us:List Value},us.length=n->(∀ (j:Nat) (v:Value),us[j]? = some v->∃ t,v=.int (lo + j * 1) t)->Vals (Bl lo n) us
  | 0,us,h,_=>by
    have:us=[]:=List.length_eq_zero_iff.mp h
    subst this;exact .nil
  | n + 1,[],h,_=>by simp at h
  | n + 1,u :: us,h,k=>by
    obtain⟨t,e⟩:=k 0 u rfl
    refine .cons ⟨t,by rw[e];simp⟩ (IA (by simpa using h) λ j v q=>?_)
    obtain⟨t',e'⟩:=k (j + 1) v (by simpa using q)
    exact⟨t',by rw[e'];congr 1;push_cast;omega⟩
section
variable{prog:Program}{w:World}{A:Around}{E:Value->Shared->Prop}{s:Shared}
theorem Lq{Q:List Value->Shared->Prop}{r:Addr}{a b c:Int}{t u v:Tok}{n:Nat}(hh:A.handled=none)(hr:IsRange s.heap r a b c t u v)(hsm:Builtin.Range.small a b c=true)(hn:Builtin.Range.rangeSize a b c=n)(hl:n <= 2 ^ 24)
    (hQ:∀ g tk (acc:Array Value),(∀ b o,s.heap.get? b=some o->g.get? b=some o)->ItemsOf (λ i v=>∃ t,v=.int (a + i * c) t) acc n->Q acc.toList { s with heap:=g,toks:=tk }) :
    wpAny (model prog w) A (collect (.ref r)) Q E s:=by
  unfold collect
  refine wpAny_bind (wpAny_runValue (codeAny_builtin F.entry_proto_collect ?_))
  rw[Around.under_plainId F.plain_proto_collect _]
  show wpAny _ A.in1 (newList [] >>= λ l=>again (.builtin "list.__iadd__" ⟨[l,.ref r],[]⟩)) _ _ s
  refine wpAny_bind (wpAny_newObj_type (wpAny_pure ⟨plainId_quiet F.plain_list_iadd _,codeAny_builtin F.entry_list_iadd ?_⟩))
  rw[Around.under_plainId F.plain_list_iadd _]
  show wpAny _ A.in1 (Builtin.List.listExtendWith (.ref s.heap.objs.size) (.ref r) (.ref s.heap.objs.size)) _ _ _
  have e0:(s.heap.push { cls:=.type "list",data:=.seq ([]:List Value).toArray }).get? s.heap.objs.size=some { cls:=.type "list",data:=.seq #[] 0 }:=Heap.get?_push_size _ rfl
  have fin:∀ g tk (acc:Array Value) c',(∀ b o,b ≠ s.heap.objs.size->(s.heap.push { cls:=.type "list",data:=.seq ([]:List Value).toArray }).get? b=some o->g.get? b=some o)->g.get? s.heap.objs.size=some { cls:=.type "list",dict:=none,data:=.seq acc c',slots:=#[] }->ItemsOf (λ i v=>∃ t,v=.int (a + i * c) t) acc n ->
      wpAny (model prog w) A (load s.heap.objs.size >>= λ o=>match o.data with|Data.seq xs epoch=>pure xs.toList|x=>unsupported "internal:collect") Q E { s with heap:=g,toks:=tk }:=λ g tk acc c' kp eS it=>
    wpAny_bind (wpAny_load eS (wpAny_pure (hQ g tk acc (λ b o q=>kp b o (Nat.ne_of_lt (Heap.lt_size q)) (Heap.get?_push_of_some _ q)) it)))
  refine wpAny_mono (wpAny_extend_range (A:=A) (R:=λ r s'=>r=.ok (.ret (.ref s.heap.objs.size))/\∃ g tk,s'={ s with heap:=g,toks:=tk }/\wpAny (model prog w) A (load s.heap.objs.size >>= λ o=>match o.data with|Data.seq xs epoch=>pure xs.toList|x=>unsupported "internal:collect") Q E s')
    (s:={ s with heap:=s.heap.push { cls:=.type "list",data:=.seq ([]:List Value).toArray } }) hh (Heap.get?_push_of_some _ hr) hsm hn hl s.heap.objs.size (.ref s.heap.objs.size) 0 e0 λ g tk acc c' kp eS it=>⟨rfl,g,tk,rfl,fin g tk acc c' kp eS it⟩) (λ fn s' h=>?_) (λ e s' h=>absurd h.1 (by simp))
  cases fn with
  | done f=>
    obtain⟨e,_,_,_,q⟩:=h
    cases e
    exact q
  | again c'=>exact⟨h.1,codeAny_mono h.2 λ r s'' hr=>by obtain⟨rfl,_,_,_,q⟩:=hr;exact q⟩
theorem KW(r:Addr)(a b c:Int)(t u v:Tok)(n:Nat)(hsm:Builtin.Range.small a b c=true)(hn:Builtin.Range.rangeSize a b c=n)(hl:n <= 2 ^ 24) :
    Meets (Builtin.«tuple.__new__» ⟨[.type "tuple",.ref r],[]⟩)
      (λ(A:Around) (R:Result->Shared->Prop) (s:Shared)=>A.handled=none/\IsRange s.heap r a b c t u v/\∀ (g:Heap) (tk:Nat) (acc:Array Value),(∀ b o,s.heap.get? b=some o->g.get? b=some o)->ItemsOf (λ i v=>∃ t,v=.int (a + i * c) t) acc n->R (.ok (.ret (.ref g.objs.size))) { s with heap:=g.push { cls:=.type "tuple",data:=.seq acc },toks:=tk }):=
  .of_wp λ prog w A R s h=>by
    obtain⟨hp,gg,d,tk,os⟩:=s
    obtain⟨hh,hr,h⟩:=h
    have hsub:=sub_tuple_self
    have hinit:=init_tuple_lookup
    have hmh:=madeHere_tuple
    have hT:Shared.TypeIs ⟨hp,gg,d,tk,os⟩ (.ref r) "range":=⟨_,hr,rfl⟩
    have hh':A.in1.handled=none:=hh
    wp_walk using wpAny_typeOf hT,wpAny_loadPart' hr,Lq hh' hr hsm hn hl
    intro g tk2 acc kp it
    show wpAny _ _ (Builtin.Tuple.tupleExact acc.toList.toArray >>= λ v=>ret v) _ _ _
    unfold Builtin.Tuple.tupleExact
    refine wpAny_bind (wpAny_newObj_type ?_ (by show acc.toList.toArray.size <= sizeLine;rw[sizeLine_eq];have:=it.1;simp only[Array.toArray_toList];omega))
    refine wpAny_pure ⟨_,rfl,?_⟩
    have e:acc.toList.toArray=acc:=by simp
    rw[e]
    exact h g tk2 acc kp it
end
noncomputable def M8:List V->Hp->VK->Prop:=λ xs H Q=>∃ j:Int,xs=[.int j]/\∀ p,H p=none->Q (.ref p) (upd H p (.rng 0 j))
noncomputable def M7:List V->Hp->VK->Prop:=λ xs H Q=>∃ i j:Int,xs=[.int i,.int j]/\∀ p,H p=none->Q (.ref p) (upd H p (.rng i j))
noncomputable def Kt:List V->Hp->VK->Prop:=λ xs H Q=>∃ a lo hi,xs=[.ref a]/\H a=some (.rng lo hi)/\(-(2 ^ 62) <= lo/\lo < 2 ^ 62/\-(2 ^ 62) <= hi/\hi < 2 ^ 62)/\(hi - lo).toNat <= 2 ^ 24/\∀ p,H p=none->Q (.ref p) (upd H p (.lst (Bl lo (hi - lo).toNat)))
noncomputable def Iz:List V->Hp->VK->Prop:=λ xs H Q=>∃ a lo hi,xs=[.ref a]/\H a=some (.rng lo hi)/\(-(2 ^ 62) <= lo/\lo < 2 ^ 62/\-(2 ^ 62) <= hi/\hi < 2 ^ 62)/\(hi - lo).toNat <= 2 ^ 24/\∀ p,H p=none->Q (.ref p) (upd H p (.tup (Bl lo (hi - lo).toNat)))
section
variable{X:Cx}
theorem call_rng1:CallR X (.type "range") M8:=by
  intro pins s σ H xs us Q I r h
  obtain⟨j,rfl,q⟩:=h
  obtain⟨u,rfl,t,rfl⟩:=Bn r
  exact call_range_1 ⟨.ref s.heap.objs.size,_,I.laid (a:=s.heap.objs.size) (o:=.rng 0 j) (λ b o e=>Heap.get?_push_of_some _ e) (Nat.le_refl _) ⟨_,_,_,Heap.get?_push_size _ rfl⟩,rfl,q _ (I.hok.fresh (Nat.le_refl _))⟩
theorem Jo:CallR X (.type "range") M7:=by
  intro pins s σ H xs us Q I r h
  obtain⟨i,j,rfl,q⟩:=h
  obtain⟨u,v,rfl,⟨t,rfl⟩,⟨t',rfl⟩⟩:=K0 r
  exact call_range_2 ⟨.ref s.heap.objs.size,_,I.laid (a:=s.heap.objs.size) (o:=.rng i j) (λ b o e=>Heap.get?_push_of_some _ e) (Nat.le_refl _) ⟨_,_,_,Heap.get?_push_size _ rfl⟩,rfl,q _ (I.hok.fresh (Nat.le_refl _))⟩
theorem RU{lo hi:Int}:Builtin.Range.rangeSize lo hi 1=((hi - lo).toNat:Nat):=by rw[rangeSize_one];split <;> omega
theorem IW{lo:Int}{n:Nat}{acc:Array Value}(it:ItemsOf (λ i v=>∃ t,v=.int (lo + i * 1) t) acc n):Vals (Bl lo n) acc.toList:=IA (by simpa using it.1) λ j v q=>it.2 j v (by simpa using q)
theorem Ni(hc:X.calm=true):CallR X (.type "list") Kt:=by
  intro pins s σ H xs us Q I r h
  obtain⟨a,lo,hi,rfl,ha,⟨b1,b2,b3,b4⟩,hz,q⟩:=h
  obtain⟨u,rfl,ru⟩:=Bn r
  cases ru
  obtain⟨t,u,v,hr⟩:∃ t u v,s.heap.get? a=some { cls:=.type "range",data:=.fields #[.int lo t,.int hi u,.int 1 v] }:=I.hok a _ ha
  refine call_list_range (I.ok.hd hc) hr (small_one b1 b2 b3 b4) RU hz λ g tk acc c' kp e it=>?_
  exact⟨.ref s.heap.objs.size,_,I.laid (t':=tk) (o:=.lst _) kp (Nat.le_refl _) ⟨by rw[IB,sizeLine_eq];omega,acc.toList,c',IW it,by simpa using e⟩,rfl,q _ (I.hok.fresh (Nat.le_refl _))⟩
theorem Lx(hc:X.calm=true):CallR X (.type "tuple") Iz:=by
  intro pins s σ H xs us Q I r h
  obtain⟨a,lo,hi,rfl,ha,⟨b1,b2,b3,b4⟩,hz,q⟩:=h
  obtain⟨u,rfl,ru⟩:=Bn r
  cases ru
  obtain⟨t,u,v,hr⟩:∃ t u v,s.heap.get? a=some { cls:=.type "range",data:=.fields #[.int lo t,.int hi u,.int 1 v] }:=I.hok a _ ha
  refine callType_new F.called_tuple (by decide) (F.typeCall_tuple_1 _) (F.newCall_tuple_1 _) (λ obj=>F.args_object_init_2 obj _) F.entry_tuple_new (KW a lo hi 1 t u v _ (small_one b1 b2 b3 b4) RU hz)
    ⟨I.ok.hd hc,hr,λ g tk acc kp it=>⟨⟨_,Heap.get?_push_size _ rfl,rfl⟩,?_⟩⟩
  have I1:Inv X pins σ H { s with heap:=g,toks:=tk }:=I.kept kp
  exact⟨.ref g.objs.size,_,I1.laid (t':=tk) (o:=.tup (Bl lo (hi - lo).toNat)) (λ b o e=>Heap.get?_push_of_some _ e) (Nat.le_refl _) ⟨by rw[IB,sizeLine_eq];omega,acc.toList,IW it,⟨_,Heap.get?_push_size _ rfl,rfl,0,by simp⟩⟩,rfl,q _ (I1.hok.fresh (Nat.le_refl _))⟩
end
section
variable{K:PySem.W.Frag}
open Classical in
noncomputable def Hb(m:MA):MA:=λ ls hd=>(m ls hd).bind λ p=>match p.1 with
  | [.im (.int j)]=>if Gn j then some (At 0 j.toNat,p.2)else none
  | [.im (.int i),.im (.int j)]=>if RV i j then some (At i (j - i).toNat,p.2)else none
  | _=>none
noncomputable def IE:List V->Hp->VK->Prop:=λ xs H Q=>M8 xs H Q ∨ M7 xs H Q
theorem Pr{t:TA}{m:MA}(h:RA K t m):RN K (tCB Kt (Bw (tCB IE t) C0)) (Hb m):=by
  intro ρ σ H hd ls Q d hd' hR hL hm hQ
  obtain⟨⟨d1,h1⟩,e1,hm⟩:=Option.bind_eq_some_iff.mp hm
  dsimp only at hm
  refine h ρ σ H hd ls _ d1 h1 hR hL e1 λ ρ1 H1 v x1 R1 r1=>?_
  split at hm
  . next j=>
    split at hm
    . next c=>
      have c:j < 2 ^ 24/\-(2 ^ 62) <= j:=c
      cases hm
      simp only[RDs,RD,RI]at r1
      obtain⟨x,r,rfl,rfl,rfl⟩:=r1
      refine .inl ⟨j,rfl,λ p hp=>⟨p,0,j,rfl,AK,⟨by decide,by decide,c.2,by omega⟩,by omega,λ l hl=>?_⟩⟩
      obtain⟨R2,x2⟩:=R1.hid (ho:=.rng 0 j) hp
      obtain⟨R3,x3⟩:=R2.hid (ho:=.lst (Bl 0 (j - 0).toNat)) hl
      refine hQ ρ1 _ l (Bl 0 (j - 0).toNat) ((x1.trans R1 x2).trans R2 x3) R3 ((x1.trans R1 x2).none hR hl R2) (R2.out hl) AK ?_
      rw[Int.sub_zero];exact Fv 0 _
    . cases hm
  . next i j=>
    split at hm
    . next c=>
      cases hm
      simp only[RDs,RD,RI]at r1
      obtain⟨x,r,rfl,rfl,y,r2,rfl,rfl,rfl⟩:=r1
      refine .inr ⟨i,j,rfl,λ p hp=>⟨p,i,j,rfl,AK,⟨c.1.1,c.1.2,c.2.1.1,c.2.1.2⟩,c.2.2,λ l hl=>?_⟩⟩
      obtain⟨R2,x2⟩:=R1.hid (ho:=.rng i j) hp
      obtain⟨R3,x3⟩:=R2.hid (ho:=.lst (Bl i (j - i).toNat)) hl
      exact hQ ρ1 _ l (Bl i (j - i).toNat) ((x1.trans R1 x2).trans R2 x3) R3 ((x1.trans R1 x2).none hR hl R2) (R2.out hl) AK (Fv i _)
    . cases hm
  . cases hm
noncomputable def IL(m:MA):ME:=λ ls hd=>(Hb m ls hd).bind λ p=>some (BF p.1,p.2)
theorem SU{t:TA}{m:MA}(h:RA K t m):RE K (tCB Iz (Bw (tCB IE t) C0)) (IL m):=by
  intro ρ σ H hd ls Q d hd' hR hL hm hQ
  obtain⟨⟨dd,h0⟩,e0,hm⟩:=Option.bind_eq_some_iff.mp hm
  cases hm
  obtain⟨⟨d1,h1⟩,e1,hm⟩:=Option.bind_eq_some_iff.mp e0
  dsimp only at hm
  refine h ρ σ H hd ls _ d1 h1 hR hL e1 λ ρ1 H1 v x1 R1 r1=>?_
  split at hm
  . next j=>
    split at hm
    . next c=>
      have c:j < 2 ^ 24/\-(2 ^ 62) <= j:=c
      cases hm
      simp only[RDs,RD,RI]at r1
      obtain⟨x,r,rfl,rfl,rfl⟩:=r1
      refine .inl ⟨j,rfl,λ p hp=>⟨p,0,j,rfl,AK,⟨by decide,by decide,c.2,by omega⟩,by omega,λ l hl=>?_⟩⟩
      obtain⟨R2,x2⟩:=R1.hid (ho:=.rng 0 j) hp
      obtain⟨R3,x3⟩:=R2.hid (ho:=.tup (Bl 0 (j - 0).toNat)) hl
      refine hQ ρ1 _ _ ((x1.trans R1 x2).trans R2 x3) R3 (Cw (SqT.of AK) ?_)
      rw[Int.sub_zero];exact Fv 0 _
    . cases hm
  . next i j=>
    split at hm
    . next c=>
      cases hm
      simp only[RDs,RD,RI]at r1
      obtain⟨x,r,rfl,rfl,y,r2,rfl,rfl,rfl⟩:=r1
      refine .inr ⟨i,j,rfl,λ p hp=>⟨p,i,j,rfl,AK,⟨c.1.1,c.1.2,c.2.1.1,c.2.1.2⟩,c.2.2,λ l hl=>?_⟩⟩
      obtain⟨R2,x2⟩:=R1.hid (ho:=.rng i j) hp
      obtain⟨R3,x3⟩:=R2.hid (ho:=.tup (Bl i (j - i).toNat)) hl
      exact hQ ρ1 _ _ ((x1.trans R1 x2).trans R2 x3) R3 (Cw (SqT.of AK) (Fv i _))
    . cases hm
  . cases hm
theorem JD:∀ {xs ys:List Int},xs.Perm ys->xs.Pairwise (· <= ·)->ys.Pairwise (· <= ·)->xs=ys:=λ {xs ys} p a b=>
  p.eq_of_pairwise (le:=(· <= ·)) (λ _ _ _ _ h1 h2=>Int.le_antisymm h1 h2) a b
noncomputable def C8(xs:List Int):List Int:=xs.mergeSort (λ a b=>decide (a <= b))
theorem Hw(xs:List Int):(C8 xs).Perm xs:=List.mergeSort_perm ..
theorem Ki(xs:List Int):(C8 xs).Pairwise (· <= ·):=by
  have:=List.pairwise_mergeSort (le:=λ a b:Int=>decide (a <= b)) (by intro a b c h1 h2;simp at *;omega) (by intro a b;simp;omega) xs
  exact this.imp (by simp)
noncomputable def EW(m:MI):MA:=λ ls hd=>(m ls hd).bind λ p=>(BN p.1.1).bind λ ns=>if ns.length < 64 then some ((C8 ns).map λ i=>.im (.int i),p.2)else none
theorem N8{t:TE}{m:MI}(h:RRw K false t m):RN K (tCB (J0 K) (Bw t C0)) (EW m):=by
  intro ρ σ H hd ls Q d hd' hR hL hm hQ
  obtain⟨⟨⟨d1,g1⟩,h1⟩,e1,hm⟩:=Option.bind_eq_some_iff.mp hm
  obtain⟨ns,e2,hm⟩:=Option.bind_eq_some_iff.mp hm
  split at hm
  . next c=>
    cases hm
    refine h ρ σ H hd ls _ d1 g1 _ hR hL e1 λ ρ1 H1 a x1 R1 G1 S1=>?_
    obtain⟨xs,q,r⟩:=S1 ρ1 H1 _ .refl R1 G1
    have e3:d1=ns.map λ i=>.im (.int i):=Eo e2
    rw[e3]at r
    have:=FS r
    subst this
    refine⟨a,ns,rfl,q,c,λ p ns' hp pm pw=>?_⟩
    have:ns'=C8 ns:=JD (pm.trans (Hw ns).symm) pw (Ki ns)
    subst this
    obtain⟨R2,x2⟩:=R1.hid (ho:=.lst ((C8 ns).map V.int)) hp
    exact hQ ρ1 _ p _ (x1.trans R1 x2) R2 (x1.none hR hp R1) (R1.out hp) AK Ff
  . cases hm
end
section
variable(K:PySem.W.Frag){X:Cx}{a b e:Expr}{ta tb te:TE}{me:ME}{m:MA}{t:TA}{p p2 pos pos2:Pos}{es:List Expr}
theorem Q7(hm:X.mg "list"=none)(hm2:X.mg "range"=none)(ha:QA K X (a :: es) t m)(hc:X.calm=true:=by rfl)(hg:Gl X "list":=by rfl)(hg2:Gl X "range":=by rfl)(he2:starEach (a :: es) X.env=(false,eval a X.env) :: starEach es X.env:=by rfl)(hpl:(backTo pos2 (starEach es X.env)).any (·.1)=false:=by rfl)
    (he:starEach [.Call (.Name "range" p2) (a :: es) [] pos2] X.env=[(false,eval (.Call (.Name "range" p2) (a :: es) [] pos2) X.env)]:=by rfl) :
    QN K X (.Call (.Name "list" p) [.Call (.Name "range" p2) (a :: es) [] pos2] [] pos) (tCB Kt (Bw (tCB IE t) C0)) (Hb m):=
  ⟨Cz (Ni hc) hg hm Mj (Cg (Cz (call_rng1.or Jo) hg2 hm2 boot_range ha.p (by decide) (by decide) he2 hpl) DT he) (by decide) (by decide) he rfl,Pr ha.r⟩
theorem MJ(hm:X.mg "tuple"=none)(hm2:X.mg "range"=none)(ha:QA K X (a :: es) t m)(hc:X.calm=true:=by rfl)(hg:Gl X "tuple":=by rfl)(hg2:Gl X "range":=by rfl)(he2:starEach (a :: es) X.env=(false,eval a X.env) :: starEach es X.env:=by rfl)(hpl:(backTo pos2 (starEach es X.env)).any (·.1)=false:=by rfl)
    (he:starEach [.Call (.Name "range" p2) (a :: es) [] pos2] X.env=[(false,eval (.Call (.Name "range" p2) (a :: es) [] pos2) X.env)]:=by rfl) :
    QE K X (.Call (.Name "tuple" p) [.Call (.Name "range" p2) (a :: es) [] pos2] [] pos) (tCB Iz (Bw (tCB IE t) C0)) (IL m):=
  ⟨Cz (Lx hc) hg hm bt_tuple (Cg (Cz (call_rng1.or Jo) hg2 hm2 boot_range ha.p (by decide) (by decide) he2 hpl) DT he) (by decide) (by decide) he rfl,SU ha.r⟩
theorem NH{mi:MI}(hm:X.mg "sorted"=none)(ha:QR K false X e te mi)(hg:Gl X "sorted":=by rfl)(he:starEach [e] X.env=[(false,eval e X.env)]:=by rfl)(hK:X.K=K:=by rfl):QN K X (.Call (.Name "sorted" p) [e] [] pos) (tCB (J0 K) (Bw te C0)) (EW mi):=
  ⟨Fz (Le K hK) hg hm Jq (Cg ha.p DT he) (by decide) (by decide) he rfl,N8 ha.r⟩
end
end L2
namespace L2
structure BltA(mg:PySem.Str->Option PySem.Value):Prop where
  list:mg "list"=none
  tuple:mg "tuple"=none
  len:mg "len"=none
  range:mg "range"=none
  repr:mg "repr"=none
  sum:mg "sum"=none
  min:mg "min"=none
  max:mg "max"=none
  abs:mg "abs"=none
  all:mg "all"=none
  any:mg "any"=none
  sorted:mg "sorted"=none
  zip:mg "zip"=none
  isinstance:mg "isinstance"=none
  int:mg "int"=none
  bool:mg "bool"=none
  str:mg "str"=none
  set:mg "set"=none
  enumerate:mg "enumerate"=none
  reversed:mg "reversed"=none
  dict:mg "dict"=none
end L2
namespace L2
open PySem PySem.Spec PyProof.Rows
section
variable{ls:Ls}{hd:Hd}{a b c:MS}{ma mb mc:ME}{ta tb:MT}{m m1 m2:MA}{n:MG}{ns:MGs}{d e:D}
@[simp] theorem Ih:AA a b ls hd=(a ls hd).bind λ p=>match p.1 with
  | .nx ls1=>b ls1 p.2
  | f=>some (f,p.2):=rfl
@[simp] theorem Ma:Am ls hd=some (.nx ls,hd):=rfl
@[simp] theorem Td:By ma ls hd=(ma ls hd).bind λ p=>some (.nx ls,p.2):=rfl
@[simp] theorem Oj:AV ma ls hd=(ma ls hd).bind λ p=>some (.rt p.1,p.2):=rfl
@[simp] theorem X5:W4 ls hd=some (.rt (.im .non),hd):=rfl
@[simp] theorem Wv:VG ls hd=some (.bk ls,hd):=rfl
@[simp] theorem XF:WC ls hd=some (.ct ls,hd):=rfl
@[simp] theorem LX:Az ta a b ls hd=(ta ls hd).bind λ p=>if p.1=true then a ls p.2 else b ls p.2:=rfl
@[simp] theorem Ii:JH ma n ls hd=(ma ls hd).bind λ p=>(n p.1 ls p.2).map λ ls'=>(.nx ls',p.2):=rfl
@[simp] theorem JO(i:Nat):AS i d ls hd=some (ls.set i (some d)):=rfl
@[simp] theorem X8(k:Nat):DQ k ns d ls hd=(Ac d).bind λ ds=>if ds.length=k then ns ds ls hd else none:=rfl
@[simp] theorem Wr(d:D)(ds:List D):B1 n ns (d :: ds) ls hd=(n d ls hd).bind λ ls1=>ns ds ls1 hd:=rfl
@[simp] theorem XA:DR [] ls hd=some ls:=rfl
@[simp] theorem VQ(ix:List Nat):NO ix m ls hd=(m ls hd).bind λ p=>if p.1.length=ix.length then some (.nx ((ix.zip p.1).foldl (λ l q=>l.set q.1 (some q.2)) ls),p.2)else none:=rfl
@[simp] theorem X7(i j k:Nat):W6 i j k m ls hd=NO [k,j,i] (λ ls hd=>(m ls hd).map λ p=>(p.1.reverse,p.2)) ls hd:=rfl
@[simp] theorem EJ(i:Nat):A0 i ls hd=match ls[i]? with
  | some (some d)=>some (d,hd)
  | _=>none:=rfl
@[simp] theorem Y0(i:I):mC i ls hd=some (.im i,hd):=rfl
@[simp] theorem NX(f:D->D->Hd->Option (D × Hd)):mOp f ma mb ls hd=(ma ls hd).bind λ p=>(mb ls p.2).bind λ q=>f p.1 q.1 q.2:=rfl
@[simp] theorem LZ:E2 ta tb ls hd=(ta ls hd).bind λ p=>if p.1=true then tb ls p.2 else some (false,p.2):=rfl
@[simp] theorem Xn:mOr ta tb ls hd=(ta ls hd).bind λ p=>if p.1=true then some (true,p.2)else tb ls p.2:=rfl
@[simp] theorem XU:LG ta ls hd=(ta ls hd).bind λ p=>some (!p.1,p.2):=rfl
@[simp] theorem Ig:Em ma ls hd=(ma ls hd).bind λ p=>(Dc p.2 p.1).map (·,p.2):=rfl
@[simp] theorem HB:AI ma ls hd=(ma ls hd).bind λ p=>match p.1 with
  | .im (.bl b)=>some (b,p.2)
  | _=>none:=rfl
@[simp] theorem Xo:mIf ta ma mb ls hd=(ta ls hd).bind λ p=>if p.1=true then ma ls p.2 else mb ls p.2:=rfl
@[simp] theorem XH:WD ma mb ls hd=(AI ma ls hd).bind λ p=>if p.1=true then mb ls p.2 else some (.im (.bl false),p.2):=rfl
@[simp] theorem XT:Wl ma mb ls hd=(AI ma ls hd).bind λ p=>if p.1=true then some (.im (.bl true),p.2)else mb ls p.2:=rfl
@[simp] theorem X9:W7 ma ls hd=(AI ma ls hd).bind λ p=>some (.im (.bl (!p.1)),p.2):=rfl
@[simp] theorem LW:A6 ls hd=some ([],hd):=rfl
@[simp] theorem Mb:A2 ma m ls hd=(ma ls hd).bind λ p=>(m ls p.2).bind λ q=>some (p.1 :: q.1,q.2):=rfl
open Classical in
@[simp] theorem XQ:DD m ls hd=(m ls hd).bind λ p=>if C2 p.1.length then some (BF p.1,p.2)else none:=rfl
open Classical in
@[simp] theorem VS:BA m ls hd=(m ls hd).bind λ p=>if C2 p.1.length then some (p.1,p.2)else none:=rfl
@[simp] theorem VR:B9 m ls hd=(m ls hd).bind λ p=>some (.mu p.2.length,p.2 ++ [.lst p.1]):=rfl
@[simp] theorem XV:Wm ma ls hd=(ma ls hd).bind λ p=>match p.1 with
  | .im (.int i)=>some (.im (.int (-i)),p.2)
  | _=>none:=rfl
@[simp] theorem XW(neg:Bool):LI neg ma ls hd=(ma ls hd).bind λ p=>some (.im (.bl (match p.1 with
  | .im .non=>!neg
  | _=>neg)),p.2):=rfl
@[simp] theorem Xp(g:Int->Int->Option I)(i j:Int):fI g (.im (.int i)) (.im (.int j)) hd=(g i j).map (.im ·,hd):=rfl
@[simp] theorem JP(f g:D->D->Hd->Option (D × Hd)):G9 f g d e hd=match f d e hd with
  | some z=>some z
  | none=>g d e hd:=rfl
@[simp] theorem LY(neg:Bool)(i j:Int):FN neg (.im (.int i)) (.im (.int j)) hd=some (.im (.bl (if neg then !decide (i=j)else decide (i=j))),hd):=by simp[FN,scI,Kk]
@[simp] theorem XX(neg:Bool)(i j:Str):FN neg (.im (.str i)) (.im (.str j)) hd=some (.im (.bl (if neg then !decide (i=j)else decide (i=j))),hd):=by simp[FN,scI,Kk]
@[simp] theorem WN(i:Int):gIx d (.im (.int i)) hd=(B2 hd d).bind λ ds=>(atI ds i).map (·,hd):=rfl
@[simp] theorem Tf:FG d e hd=(CO hd d).bind λ kvs=>(CV e).bind λ k=>(BM kvs k).map (·,hd):=rfl
@[simp] theorem Xq(f:List D->Hd->Option (D × Hd)):mCB f m ls hd=(m ls hd).bind λ p=>f p.1 p.2:=rfl
@[simp] theorem WO(tp:Bool)(g:List D->Option D):f1 tp g [d] hd=((if tp then B2 hd d else Ax hd d)).bind λ ds=>(g ds).map (·,hd):=rfl
@[simp] theorem Om(g:List D->Option D):CN g m ls hd=(m ls hd).bind λ p=>(g p.1).map (·,p.2):=rfl
@[simp] theorem NY(f:D->List D->Hd->Option (D × Hd)):mMt f ma m ls hd=(ma ls hd).bind λ p=>match Ax p.2 p.1 with
  | some _=>(m ls p.2).bind λ q=>f p.1 q.1 q.2
  | none=>none:=rfl
@[simp] theorem XC(i j:Int):ET [.im (.int i),.im (.int j)] hd=some (.im (.int (if j > i then j else i)),hd):=rfl
@[simp] theorem XB(i j:Int):Ie [.im (.int i),.im (.int j)] hd=some (.im (.int (if j < i then j else i)),hd):=rfl
@[simp] theorem XY(i:Int):Wp [.im (.int i)] hd=some (.im (.int (if i < 0 then -i else i)),hd):=rfl
@[simp] theorem VT:Hc m ma ls hd=(m ls hd).bind λ p=>(ma ls p.2).bind λ q=>match q.1 with
  | .im (.int i)=>(atI p.1 i).map (·,q.2)
  | _=>none:=rfl
@[simp] theorem VU:C1 ma ls hd=(ma ls hd).bind λ p=>(Ac p.1).map λ ds=>((ds,[]),p.2):=rfl
@[simp] theorem VW:VE m ls hd=(m ls hd).map λ p=>((p.1,[]),p.2):=rfl
@[simp] theorem Ol:Dz ma ls hd=(ma ls hd).bind λ p=>match p.1 with
  | .mu n=>match p.2[n]? with
    | some (.lst ds)=>some ((ds,[(n,ds)]),p.2)
    | _=>none
  | .ro ns=>some ((ns.map λ n=>.im (.int n),[]),p.2)
  | _=>none:=rfl
open Classical in
@[simp] theorem VV:EM m ls hd=(m ls hd).bind λ p=>match p.1 with
  | [.im (.int j)]=>if Ft j then some ((At 0 j.toNat,[]),p.2)else none
  | _=>none:=rfl
open Classical in
@[simp] theorem Tc:Rr m ls hd=(m ls hd).bind λ p=>match p.1 with
  | [.im (.int i),.im (.int j)]=>if Pq i j then some ((At i (j - i).toNat,[]),p.2)else none
  | _=>none:=rfl
@[simp] theorem VX(mi:MI):CJ mi n a ls hd=(mi ls hd).bind λ p=>Bg n a p.1.2 p.1.1 ls p.2:=rfl
open Classical in
@[simp] theorem XG(k:Nat)(ix:List Nat)(mi:MI):Bz k ix mi n ta ma ls hd=(mi ls hd).bind λ p=>if C2 p.1.1.length then BD n ta ma p.1.2 p.1.1 (Db k ix ls) p.2 else none:=rfl
@[simp] theorem XO:Dy ls hd=some (true,hd):=rfl
@[simp] theorem Wu(F:List D->Hd->Option (D × Hd)):E1 F m ls hd=(m ls hd).bind λ p=>F p.1 p.2:=rfl
@[simp] theorem Wb:Fb ls hd=some (none,hd):=rfl
@[simp] theorem X6:IP ma ls hd=(ma ls hd).bind λ p=>match p.1 with
  | .im (.int i)=>some (some i,p.2)
  | _=>none:=rfl
@[simp] theorem XD:W8 ma ls hd=(ma ls hd).bind λ p=>(B2 p.2 p.1).map (·,p.2):=rfl
@[simp] theorem Ws:IQ m ls hd=m ls hd:=rfl
@[simp] theorem XS(ml mh:MO1):LD ma ml mh ls hd=(ma ls hd).bind λ p=>(ml ls p.2).bind λ l=>(mh ls l.2).bind λ h=>(Ax h.2 p.1).bind λ ds=>some (Ep ds l.1 h.1,h.2):=rfl
@[simp] theorem XR(ml mh:MO1):Wk ma ml mh ls hd=(ma ls hd).bind λ p=>(ml ls p.2).bind λ l=>(mh ls l.2).bind λ h=>(Ac p.1).bind λ ds=>if ¬ (HT.sIx ds.length 0 l.1=0/\HT.sIx ds.length ds.length h.1=ds.length)then some (BF (Ep ds l.1 h.1),h.2)else none:=rfl
@[simp] theorem X4:IL m ls hd=(Hb m ls hd).bind λ p=>some (BF p.1,p.2):=rfl
open Classical in
@[simp] theorem VP:Hb m ls hd=(m ls hd).bind λ p=>match p.1 with
  | [.im (.int j)]=>if Gn j then some (At 0 j.toNat,p.2)else none
  | [.im (.int i),.im (.int j)]=>if RV i j then some (At i (j - i).toNat,p.2)else none
  | _=>none:=rfl
@[simp] theorem Oi(mi:MI):EW mi ls hd=(mi ls hd).bind λ p=>(BN p.1.1).bind λ ns=>if ns.length < 64 then some ((C8 ns).map λ i=>.im (.int i),p.2)else none:=rfl
@[simp] theorem XE(ms:List (ME × ME)):W9 ms ls hd=(Fa ms ls hd).bind λ p=>if p.1.length <= 15 then some (.mu p.2.length,p.2 ++ [.dic (OT [] p.1)])else none:=rfl
@[simp] theorem Wa:Fa [] ls hd=some ([],hd):=rfl
@[simp] theorem Wq(r:List (ME × ME)):Fa ((ma,mb) :: r) ls hd=(ma ls hd).bind λ p=>(mb ls p.2).bind λ q=>(Fa r ls q.2).bind λ z=>(CV p.1).map λ k=>((k,q.1) :: z.1,z.2):=rfl
open Classical in
@[simp] theorem Te:IR ma mb mc ls hd=(mc ls hd).bind λ p=>(ma ls p.2).bind λ q=>(mb ls q.2).bind λ r=>(CV r.1).bind λ k=>match q.1 with
  | .mu n=>match r.2[n]? with
    | some (.dic kvs)=>if DN kvs.length then some (.nx ls,r.2.set n (.dic (Dw kvs k p.1)))else none
    | _=>none
  | _=>none:=rfl
@[simp] theorem Ta:FD ma mb mc ls hd=(mc ls hd).bind λ p=>(ma ls p.2).bind λ q=>(mb ls q.2).bind λ r=>match q.1,r.1 with
  | .mu n,.im (.int i)=>match r.2[n]? with
    | some (.lst ds)=>(ixN ds.length i).map λ j=>(.nx ls,r.2.set n (.lst (ds.set j p.1)))
    | _=>none
  | _,_=>none:=rfl
@[simp] theorem XI(is:List I):Ac (.im (.tup is))=some (is.map .im):=rfl
@[simp] theorem Xd(ds:List D):Ac (.tm ds)=some ds:=rfl
@[simp] theorem Xf(k:Nat):Ac (.mu k)=none:=rfl
@[simp] theorem Xe(k:List Int):Ac (.ro k)=none:=rfl
@[simp] theorem EE(is:List I):B2 hd (.im (.tup is))=some (is.map .im):=rfl
@[simp] theorem Xi(ds:List D):B2 hd (.tm ds)=some ds:=rfl
@[simp] theorem Vk(k:Nat):B2 hd (.mu k)=Ax hd (.mu k):=rfl
@[simp] theorem Xj(k:List Int):B2 hd (.ro k)=some (k.map λ n=>.im (.int n)):=rfl
@[simp] theorem NQ(k:Nat):Ax hd (.mu k)=match hd[k]? with
    | some (.lst ds)=>some ds
    | _=>none:=rfl
@[simp] theorem Xk(k:List Int):Ax hd (.ro k)=some (k.map λ n=>.im (.int n)):=rfl
@[simp] theorem Xr(k:Nat):CO hd (.mu k)=match hd[k]? with
    | some (.dic ds)=>some ds
    | _=>none:=rfl
@[simp] theorem Xm(i:Int):CV (.im (.int i))=some (.inl i):=rfl
@[simp] theorem Xl(i:Str):CV (.im (.str i))=some (.inr i):=rfl
@[simp] theorem Xc:Bj []=some []:=rfl
@[simp] theorem Xt(i:I)(r:List D):Bj (.im i :: r)=(Bj r).map (i :: ·):=rfl
@[simp] theorem XM:BN []=some []:=rfl
@[simp] theorem XN(i:Int)(r:List D):BN (.im (.int i) :: r)=(BN r).map (i :: ·):=rfl
@[simp] theorem Xb:CW []=some []:=rfl
@[simp] theorem Xs(i:Bool)(r:List D):CW (.im (.bl i) :: r)=(CW r).map (i :: ·):=rfl
@[simp] theorem CT(is:List I):BF (is.map .im)=.im (.tup is):=by simp[BF]
@[simp] theorem WZ:BF []=.im (.tup []):=rfl
@[simp] theorem X3(i:I):BF [.im i]=.im (.tup [i]):=rfl
@[simp] theorem Gv(i j:I):BF [.im i,.im j]=.im (.tup [i,j]):=rfl
@[simp] theorem T8(i j k:I):BF [.im i,.im j,.im k]=.im (.tup [i,j,k]):=rfl
@[simp] theorem X2(i j k l:I):BF [.im i,.im j,.im k,.im l]=.im (.tup [i,j,k,l]):=rfl
@[simp] theorem Xa(w:Nat)(i:I):clD w (.im i)=true:=by simp[clD]
@[simp] theorem XZ(w n:Nat):clD w (.mu n)=decide (n < w):=by simp[clD]
@[simp] theorem Wx(w:Nat):BB w []=true:=by simp[BB]
@[simp] theorem Ow(w:Nat)(d:D)(ds:List D):BB w (d :: ds)=(clD w d && BB w ds):=by simp[BB]
@[simp] theorem FO{α:Type}(x:α)(r:List α):atI (x :: r) 0=some x:=Bi (j:=0) rfl
@[simp] theorem Gf{α:Type}(x y:α)(r:List α):atI (x :: y :: r) 1=some y:=Bi (j:=1) rfl
@[simp] theorem Hq{α:Type}(x y z:α)(r:List α):atI (x :: y :: z :: r) 2=some z:=Bi (j:=2) rfl
theorem Li{α:Type}{xs:List α}{i:Int}{k:Nat}{x:α}(hi:i=k)(h:xs[k]? = some x):atI xs i=some x:=by subst hi;exact Bi h
@[simp] theorem Ic:C2 0:=Ag (by decide)
@[simp] theorem GV:C2 1:=Ag (by decide)
@[simp] theorem Ib:C2 2:=Ag (by decide)
@[simp] theorem LV:C2 3:=Ag (by decide)
@[simp] theorem LU:C2 4:=Ag (by decide)
@[simp] theorem LS:C2 5:=Ag (by decide)
open Classical in
@[simp] theorem On(k:Nat)(x:D):BE (.mu k) [x] hd=match hd[k]? with
    | some (.lst ds)=>if DN ds.length then some (.im .non,hd.set k (.lst (ds ++ [x])))else none
    | _=>none:=rfl
theorem Gc{F:List D->Hd->Option (D × Hd)}{ds:List D}{hd1 h2:Hd}{i:I}(h1:m ls hd=some (ds,hd1))(hc:BB 0 ds=true)(hF:F ds []=some (.im i,h2)):AC 0 F m ls hd=some (.im i,hd1):=by
  simp[AC,h1,hc,hF,fin]
theorem Nk{F:List D->Hd->Option (D × Hd)}{ds es:List D}{hd1 h2:Hd}{k:Nat}(h1:m ls hd=some (ds,hd1))(hc:BB 0 ds=true)(hF:F ds []=some (.mu k,h2))(hk:h2[k]? = some (.lst es))(hes:BB 0 es=true):AC 0 F m ls hd=some (.mu hd1.length,hd1 ++ [.lst es]):=by
  simp[AC,h1,hc,hF,fin,hk,hes]
theorem Lh{w:Nat}{F:List D->Hd->Option (D × Hd)}{ds:List D}{pre pre' rest g:Hd}{i:I}(hw:pre.length=w)(hw':pre'.length=w)(h1:m ls hd=some (ds,pre ++ rest))(hc:BB w ds=true)(hp:pre.all (clO w)=true)(hp':pre'.all (clO w)=true)(hF:F ds pre=some (.im i,pre' ++ g)):AC w F m ls hd=some (.im i,pre' ++ rest):=by
  subst hw
  have e1:(pre ++ rest).take pre.length=pre:=by simp
  have e2:(pre' ++ g).take pre.length=pre':=by rw[<- hw'];simp
  simp only[AC,h1,Option.bind_some,e1,hc,hp,hF,fin,e2,hp']
  simp
end
theorem LK{n:MG}{b:MS}{g:Gd}{ls:Ls}{hd:Hd}:Bg n b g [] ls hd=some (.nx ls,hd):=by unfold Bg;rfl
theorem GR{n:MG}{b:MS}{g:Gd}{d:D}{r:List D}{ls ls1 ls2:Ls}{hd hd2:Hd}(h1:n d ls hd=some ls1)(h2:b ls1 hd=some (.nx ls2,hd2))(h3:GOk hd2 g):Bg n b g (d :: r) ls hd=Bg n b g r ls2 hd2:=by
  conv=>lhs;unfold Bg
  simp[h1,h2,h3]
theorem Qi{n:MG}{b:MS}{g:Gd}{d v:D}{r:List D}{ls ls1:Ls}{hd hd2:Hd}(h1:n d ls hd=some ls1)(h2:b ls1 hd=some (.rt v,hd2)):Bg n b g (d :: r) ls hd=some (.rt v,hd2):=by
  conv=>lhs;unfold Bg
  simp[h1,h2]
end L2
namespace L2
open PySem PySem.Spec PyProof.Rows
section
variable{prog:Program}{w:World}{A:Around}{R:Result->Shared->Prop}{s:Shared}{elt tg iter tg2 iter2:Expr}{ifs ifs2:List Expr}{scope:Scope}{pos:Pos}{it acc:Value}{env:Env}
end
end L2
namespace L2
open PySem PySem.Spec PyProof.Rows
section
variable{X:Cx}
end
end L2
namespace L2
open PySem PySem.Spec PyProof.Rows
open Classical in
noncomputable def mIn(k:Nat)(n:MG)(c:MT)(m:ME)(g:Gd):List D->Ls->Hd->Option (Ls × Hd)
  | [],ls,hd=>some (ls,hd)
  | d :: r,ls,hd=>(n d ls hd).bind λ ls1=>(c ls1 hd).bind λ p=>if p.1=true then(m ls1 p.2).bind λ q=>(BE (.mu k) [q.1] q.2).bind λ z=>if GOk z.2 g then mIn k n c m g r ls1 z.2 else none else if GOk p.2 g then mIn k n c m g r ls1 p.2 else none
open Classical in
noncomputable def NP(k:Nat)(n:MG)(c:MT)(mi:MI)(n2:MG)(c2:MT)(m:ME)(g:Gd):List D->Ls->Hd->Option Hd
  | [],ls,hd=>some hd
  | d :: r,ls,hd=>(n d ls hd).bind λ ls1=>(c ls1 hd).bind λ p=>if p.1=true then(mi ls1 p.2).bind λ q=>(mIn k n2 c2 m q.1.2 q.1.1 ls1 q.2).bind λ z=>if GOk z.2 g then NP k n c mi n2 c2 m g r z.1 z.2 else none else if GOk p.2 g then NP k n c mi n2 c2 m g r ls1 p.2 else none
noncomputable def VF(j:Nat)(ix:List Nat)(mi:MI)(n:MG)(c:MT)(mi2:MI)(n2:MG)(c2:MT)(m:ME):ME:=λ ls hd=>(mi ls hd).bind λ p=>(NP p.2.length n c mi2 n2 c2 m p.1.2 p.1.1 (Db j ix ls) (p.2 ++ [.lst []])).map λ h=>(.mu p.2.length,h)
section
variable{K:PySem.W.Frag}{ρ:List Addr}{H:Hp}{hd:Hd}
theorem TZ{h:Hd}{g:Gd}(G:GOk h g)(r:Hd):GOk (h ++ r) g:=λ p hp=>by
  have:=G p hp
  have hl:p.1 < h.length:=(List.getElem?_eq_some_iff.mp this).1
  rw[List.getElem?_append_left hl];exact this
end
end L2
namespace L2
open PySem PySem.Spec PyProof.Rows
open Classical in
noncomputable def LJ(ma mb:ME):MA:=λ ls hd=>(ma ls hd).bind λ p=>(mb ls p.2).bind λ q=>match p.1,q.1 with
  | .mu i,.mu j=>match q.2[i]?,q.2[j]? with
    | some (.lst xs),some (.lst ys)=>if C2 (xs.length + ys.length)then some (xs ++ ys,q.2)else none
    | _,_=>none
  | _,_=>none
theorem UC{K:PySem.W.Frag}{ta tb:TE}{ma mb:ME}(ha:RE K ta ma)(hb:RE K tb mb):RN K (tOp Q5 ta tb) (LJ ma mb):=by
  intro ρ σ H hd ls Q d hd' hR hL hm hQ
  obtain⟨⟨d1,h1⟩,e1,hm⟩:=Option.bind_eq_some_iff.mp hm
  obtain⟨⟨d2,h2⟩,e2,hm⟩:=Option.bind_eq_some_iff.mp hm
  dsimp only at hm
  split at hm
  . next i j=>
    split at hm
    . next xs ys q1 q2=>
      split at hm
      . next c=>
        cases hm
        refine ha ρ σ H hd ls _ _ h1 hR hL e1 λ ρ1 H1 v x1 R1 r1=>?_
        refine hb ρ1 σ H1 h1 ls _ _ _ R1 (hL.ext hR x1) e2 λ ρ2 H2 u x2 R2 r2=>?_
        have r1':=r1.ext R1 x2
        simp only[RD]at r1' r2
        obtain⟨a,ka,rfl⟩:=r1'
        obtain⟨b,kb,rfl⟩:=r2
        obtain⟨vs,f1,f2⟩:=R2.lst ka q1
        obtain⟨us,f3,f4⟩:=R2.lst kb q2
        refine⟨a,b,vs,us,rfl,rfl,f1,f3,by rw[f2.len,f4.len];exact c,λ p hp=>?_⟩
        obtain⟨R3,x3⟩:=R2.hid (ho:=.lst (vs ++ us)) hp
        have x12:=x1.trans R1 x2
        exact hQ ρ2 _ p _ (x12.trans R2 x3) R3 (x12.none hR hp R2) (R2.out hp) AK ((f2.app f4).ext R2 x3)
      . cases hm
    . cases hm
  . cases hm
theorem Ub(K:PySem.W.Frag){X:Cx}{a b:Expr}{pos:Pos}{ta tb:TE}{ma mb:ME}(ha:QE K X a ta ma)(hb:QE K X b tb mb):QN K X (.BinOp a .Add b pos) (tOp Q5 ta tb) (LJ ma mb):=⟨NK V9 ha.p hb.p,UC ha.r hb.r⟩
@[simp] theorem Wt(j:Nat)(ix:List Nat)(mi mi2:MI)(n n2:MG)(c c2:MT)(m:ME)(ls:Ls)(hd:Hd):VF j ix mi n c mi2 n2 c2 m ls hd=(mi ls hd).bind λ p=>(NP p.2.length n c mi2 n2 c2 m p.1.2 p.1.1 (Db j ix ls) (p.2 ++ [.lst []])).map λ h=>(.mu p.2.length,h):=rfl
end L2
namespace L2
open PySem PySem.Spec PyProof.Rows PySem.W
section
variable(r:Nat->Int)(n:Nat)
noncomputable def PWp{α:Type}:KasT α->(α->Prop)->Prop
  | .ret a,Q=>Q a
  | .ask i j k,Q=>i < n/\j < n/\PWp (k (decide (r i < r j))) Q
noncomputable def kv(p:Array Nat)(i:Nat):Int:=r (p.getD i 0)
noncomputable def STo(p:Array Nat)(m:Nat):Prop:=∀ i j,i <= j->j < m->kv r p i <= kv r p j
noncomputable def DTo(p:Array Nat)(m:Nat):Prop:=∀ i j,i <= j->j < m->kv r p j <= kv r p i
noncomputable def EqL(p:Array Nat)(m q:Nat):Prop:=∀ k,m - (q + 1) <= k->k < m->kv r p k=kv r p (m - 1)
noncomputable def PAr(p:Array Nat):Prop:=p.Perm (List.range n).toArray
end
section
variable{r:Nat->Int}{n:Nat}
theorem PWp.bind{α β:Type}{f:α->KasT β}{Q:β->Prop}:∀ {t:KasT α},PWp r n t (λ a=>PWp r n (f a) Q)->PWp r n (t.bind f) Q
  | .ret _,h=>h
  | .ask i j k,h=>⟨h.1,h.2.1,PWp.bind h.2.2⟩
theorem PWp.mono{α:Type}{Q Q':α->Prop}:∀ {t:KasT α},PWp r n t Q->(∀ a,Q a->Q' a)->PWp r n t Q'
  | .ret _,h,q=>q _ h
  | .ask i j k,h,q=>⟨h.1,h.2.1,PWp.mono h.2.2 q⟩
theorem PWp.wp{α:Type}{cmp:Nat->Nat->(Bool->Shared->Prop)->Shared->Prop}{P:Shared->Prop}{Q:α->Shared->Prop}(hc:∀ i j C s,i < n->j < n->P s->(∀ s',P s'->C (decide (r i < r j)) s')->cmp i j C s):∀ {t:KasT α} {s:Shared},PWp r n t (λ a=>∀ s,P s->Q a s)->P s->t.kasWp cmp Q s
  | .ret _,s,h,p=>h s p
  | .ask i j k,s,h,p=>hc i j _ s h.1 h.2.1 p λ s' p'=>PWp.wp hc h.2.2 p'
theorem PAr.size{p:Array Nat}(h:PAr n p):p.size=n:=by have:=h.size_eq;simpa using this
theorem PAr.lt{p:Array Nat}(h:PAr n p){i:Nat}(hi:i < n):p.getD i 0 < n:=by
  have hs:=h.size
  have hi':i < p.size:=by omega
  have:p[i] ∈ (List.range n).toArray:=h.mem_iff.mp (Array.getElem_mem hi')
  have e:p.getD i 0=p[i]:=by simp[Array.getD,hi']
  rw[e]
  simpa using this
theorem IT{p:Array Nat}{i j:Nat}(hj:j <= p.size)(k:Nat):kv r (kas_rev p i j) k=if i <= k/\k < j then kv r p (i + j - 1 - k)else kv r p k:=by
  unfold kv kas_rev
  simp only[Array.getD_eq_getD_getElem?]
  rw[getElem?_mirror_all hj]
  split <;> rfl
theorem PAr.rev{p:Array Nat}(h:PAr n p)(i j:Nat):PAr n (kas_rev p i j):=(mirror_perm _ _ _ _).trans h
theorem MW{p:Array Nat}{m q:Nat}(hj:m <= p.size)(hq:q + 1 <= m)(h:EqL r p m q)(k:Nat):kv r (kas_rev p (m - (q + 1)) m) k=kv r p k:=by
  rw[IT hj]
  split
  . next c=>rw[h _ (by omega) (by omega),h k c.1 c.2]
  . rfl
theorem Lj{p:Array Nat}(pa:PAr n p):∀ (f m:Nat),1 <= m->m + f <= n->STo r p m->PWp r n (kas_asc p f m) λ m'=>m <= m'/\m' <= m + f/\STo r p m'/\(m' < m + f->kv r p m' < kv r p (m' - 1))
  | 0,m,h1,hn,hs=>⟨Nat.le_refl _,Nat.le_refl _,hs,λ h=>by omega⟩
  | f + 1,m,h1,hn,hs=>by
    refine⟨pa.lt (by omega),pa.lt (by omega),?_⟩
    by_cases c:r (p.getD m 0) < r (p.getD (m - 1) 0)
    . rw[decide_eq_true c]
      exact⟨Nat.le_refl _,by omega,hs,λ _=>c⟩
    . rw[decide_eq_false c]
      refine(Lj pa f (m + 1) (by omega) (by omega) ?_).mono λ m' h=>⟨by omega,by omega,h.2.2.1,λ z=>h.2.2.2 (by omega)⟩
      intro i j hij hj
      by_cases e:j < m
      . exact hs i j hij e
      . have:j=m:=by omega
        subst this
        by_cases e2:i=j
        . subst e2;exact Int.le_refl _
        . have:=hs i (j - 1) (by omega) (by omega)
          have:kv r p (j - 1) <= kv r p j:=by unfold kv;omega
          omega
theorem Hj{p:Array Nat}{m:Nat}(h1:1 <= m)(h:DTo r p m)(c:kv r p m <= kv r p (m - 1)):DTo r p (m + 1):=by
  intro i j hij hj
  by_cases e:j < m
  . exact h i j hij e
  . have:j=m:=by omega
    subst this
    by_cases e2:i=j
    . subst e2;exact Int.le_refl _
    . have:=h i (j - 1) (by omega) (by omega)
      omega
theorem HD:∀ (f:Nat) (p:Array Nat) (m q:Nat),PAr n p->1 <= m->q + 1 <= m->m + f <= n->DTo r p m->EqL r p m q ->
    PWp r n (kas_desc f p m q) λ z=>PAr n z.1/\m <= z.2.1/\z.2.1 <= m + f/\DTo r z.1 z.2.1/\EqL r z.1 z.2.1 z.2.2/\z.2.2 + 1 <= z.2.1
  | 0,p,m,q,pa,h1,hq,hn,hd,he=>⟨pa,Nat.le_refl _,Nat.le_refl _,hd,he,hq⟩
  | f + 1,p,m,q,pa,h1,hq,hn,hd,he=>by
    refine⟨pa.lt (by omega),pa.lt (by omega),?_⟩
    have sz:=pa.size
    by_cases c:r (p.getD m 0) < r (p.getD (m - 1) 0)
    . rw[decide_eq_true c]
      have c':kv r p m <= kv r p (m - 1):=by unfold kv;omega
      dsimp only
      rw[if_pos rfl]
      by_cases hq0:q > 0
      . rw[if_pos hq0]
        have sm:=MW (r:=r) (p:=p) (m:=m) (q:=q) (by omega) hq he
        refine(HD f _ (m + 1) 0 (pa.rev _ _) (by omega) (by omega) (by omega) ?_ ?_).mono λ z h=>⟨h.1,by omega,by omega,h.2.2.2⟩
        . have:=Hj h1 hd c'
          intro i j a b
          rw[sm,sm];exact this i j a b
        . intro k a b
          have:k=m:=by omega
          subst this;rfl
      . rw[if_neg hq0]
        refine(HD f p (m + 1) 0 pa (by omega) (by omega) (by omega) (Hj h1 hd c') ?_).mono λ z h=>⟨h.1,by omega,by omega,h.2.2.2⟩
        intro k a b
        have:k=m:=by omega
        subst this;rfl
    . rw[decide_eq_false c];dsimp only;rw[if_neg Bool.false_ne_true]
      refine⟨pa.lt (by omega),pa.lt (by omega),?_⟩
      by_cases d:r (p.getD (m - 1) 0) < r (p.getD m 0)
      . rw[decide_eq_true d]
        exact⟨pa,Nat.le_refl _,by show m <= m + (f + 1);omega,hd,he,hq⟩
      . rw[decide_eq_false d];dsimp only;rw[if_neg Bool.false_ne_true]
        have e:kv r p m=kv r p (m - 1):=by unfold kv;omega
        refine(HD f p (m + 1) (q + 1) pa (by omega) (by omega) (by omega) (Hj h1 hd (by omega)) ?_).mono λ z h=>⟨h.1,by omega,by omega,h.2.2.2⟩
        intro k a b
        by_cases e2:k=m
        . subst e2;rfl
        . have:=he k (by omega) (by omega)
          have e3:m + 1 - 1=m:=rfl
          rw[e3];omega
noncomputable def Run(z:Nat × Array Nat)(r:Nat->Int)(n:Nat):Prop:=PAr n z.2/\1 <= z.1/\z.1 <= n/\STo r z.2 z.1
theorem KY{p:Array Nat}{m:Nat}(pa:PAr n p)(h1:1 <= m)(hn:m <= n)(hd:DTo r p m):PWp r n (kas_tail3 m n p) λ z=>Run z r n:=by
  have sz:=pa.size
  have st:STo r (kas_rev p 0 m) m:=by
    intro i j a b
    rw[IT (by omega),IT (by omega),if_pos ⟨by omega,by omega⟩,if_pos ⟨by omega,by omega⟩]
    exact hd _ _ (by omega) (by omega)
  refine PWp.bind ((Lj (pa.rev 0 m) (n - m) m h1 (by omega) st).mono λ m' h=>?_)
  exact⟨pa.rev 0 m,by show 1 <= m';omega,by show m' <= n;omega,h.2.2.1⟩
theorem HJ{p:Array Nat}{m:Nat}(pa:PAr n p)(hn:m + 1 <= n)(hd:DTo r p (m + 1)):PWp r n (kas_descPart m n p) λ z=>Run z r n:=by
  refine PWp.bind ((HD (n - (m + 1)) p (m + 1) 0 pa (by omega) (by omega) (by omega) hd ?_).mono λ z h=>?_)
  . intro k a b
    have:k=m:=by omega
    subst this;rfl
  . obtain⟨a,b,c,d,e,g⟩:=h
    have sz:=a.size
    by_cases hq:z.2.2 > 0
    . rw[if_pos hq]
      have sm:=MW (r:=r) (p:=z.1) (m:=z.2.1) (q:=z.2.2) (by omega) g e
      exact KY (a.rev _ _) (by omega) (by omega) λ i j x y=>by rw[sm,sm];exact d i j x y
    . rw[if_neg hq]
      exact KY a (by omega) (by omega) d
theorem R0(h1:1 <= n):PWp r n (kas_count n (List.toArray (List.range n))) λ z=>Run z r n:=by
  have pa:PAr n (List.range n).toArray:=.refl _
  have sz:=pa.size
  refine PWp.bind ((Lj pa (n - 1) 1 (by omega) (by omega) λ i j a b=>?_).mono λ m h=>?_)
  . have:i=j:=by omega
    subst this;exact Int.le_refl _
  . obtain⟨a,b,c,d⟩:=h
    by_cases e:(m == n)=true
    . rw[if_pos e]
      have:m=n:=by simpa using e
      exact⟨pa,by show 1 <= m;omega,by show m <= n;omega,c⟩
    . rw[if_neg e]
      have hne:m ≠ n:=by simpa using e
      have dd:=d (by omega)
      by_cases h2:m > 1
      . rw[if_pos h2]
        refine⟨pa.lt (by omega),pa.lt (by omega),?_⟩
        by_cases g:r ((List.range n).toArray.getD 0 0) < r ((List.range n).toArray.getD (m - 1) 0)
        . rw[decide_eq_true g]
          exact⟨pa,by show 1 <= m;omega,by show m <= n;omega,c⟩
        . rw[decide_eq_false g];dsimp only;rw[if_neg Bool.false_ne_true]
          have g':kv r (List.range n).toArray (m - 1) <= kv r (List.range n).toArray 0:=by unfold kv;omega
          have eq:∀ k,k < m->kv r (List.range n).toArray k=kv r (List.range n).toArray 0:=λ k hk=>by
            have x1:=c 0 k (by omega) hk
            have x2:=c k (m - 1) (by omega) (by omega)
            omega
          have rv:∀ k,kv r (kas_rev (List.range n).toArray 0 m) k=kv r (List.range n).toArray k:=λ k=>by
            rw[IT (by omega)]
            split
            . next z=>rw[eq _ (by omega),eq k z.2]
            . rfl
          refine HJ (pa.rev 0 m) (by omega) λ i j x y=>?_
          rw[rv,rv]
          by_cases z:j < m
          . rw[eq i (by omega),eq j z];exact Int.le_refl _
          . have:j=m:=by omega
            subst this
            by_cases z2:i=j
            . subst z2;exact Int.le_refl _
            . rw[eq i (by omega)]
              have:=eq (j - 1) (by omega)
              omega
      . rw[if_neg h2]
        have:m=1:=by omega
        subst this
        refine HJ pa (by omega) λ i j x y=>?_
        by_cases z:i=j
        . subst z;exact Int.le_refl _
        . have:i=0:=by omega
          have:j=1:=by omega
          subst i j
          have:kv r (List.range n).toArray 1 < kv r (List.range n).toArray 0:=dd
          omega
theorem HY{p:Array Nat}{k:Nat}(pa:PAr n p)(hk:k < n)(hs:STo r p k):∀ (f l q:Nat),l <= q->q <= k->q - l <= f->(∀ i,i < l->kv r p i <= kv r p k)->(∀ i,q <= i->i < k->kv r p k < kv r p i) ->
    PWp r n (kas_place p k f l q) λ m=>m <= k/\(∀ i,i < m->kv r p i <= kv r p k)/\∀ i,m <= i->i < k->kv r p k < kv r p i
  | 0,l,q,a,b,c,d,e=>⟨by omega,d,λ i x y=>e i (by omega) y⟩
  | f + 1,l,q,a,b,c,d,e=>by
    unfold kas_place
    by_cases h:l >= q
    . rw[if_pos h]
      exact⟨by omega,d,λ i x y=>e i (by omega) y⟩
    . rw[if_neg h]
      refine⟨pa.lt (by omega),pa.lt (by omega),?_⟩
      by_cases g:r (p.getD k 0) < r (p.getD ((l + q) / 2) 0)
      . rw[decide_eq_true g];dsimp only;rw[if_pos rfl]
        have g':kv r p k < kv r p ((l + q) / 2):=g
        refine HY pa hk hs f l ((l + q) / 2) (by omega) (by omega) (by omega) d λ i x y=>?_
        have:=hs ((l + q) / 2) i x y
        omega
      . rw[decide_eq_false g];dsimp only;rw[if_neg Bool.false_ne_true]
        have g':kv r p ((l + q) / 2) <= kv r p k:=by unfold kv;omega
        refine HY pa hk hs f ((l + q) / 2 + 1) q (by omega) (by omega) (by omega) (λ i x=>?_) e
        have:=hs i ((l + q) / 2) (by omega) (by omega)
        omega
theorem Jh{p:Array Nat}{k d:Nat}(hk:k < p.size)(hd:d <= k)(i:Nat):kv r (bubble p k d) i=if i=k - d then kv r p k else if k - d < i/\i <= k then kv r p (i - 1)else kv r p i:=by
  unfold kv
  simp only[Array.getD_eq_getD_getElem?]
  rw[getElem?_bubble hk d hd]
  split
  . rfl
  . split <;> rfl
theorem P3:∀ (f:Nat) (p:Array Nat) (k:Nat),PAr n p->k + f=n->STo r p k->PWp r n (kas_bin f p k) λ z=>PAr n z/\STo r z n
  | 0,p,k,pa,e,hs=>⟨pa,by
                                  have:k=n:=by omega
                                  subst this;exact hs⟩
  | f + 1,p,k,pa,e,hs=>by
    have sz:=pa.size
    refine PWp.bind ((HY pa (by omega) hs k 0 k (by omega) (by omega) (by omega) (λ i h=>by omega) (λ i a b=>by omega)).mono λ m h=>?_)
    obtain⟨a,b,c⟩:=h
    refine P3 f _ (k + 1) ((bubble_perm _ _ _).trans pa) (by omega) λ i j x y=>?_
    rw[Jh (by omega) (by omega),Jh (by omega) (by omega)]
    have ek:k - (k - m)=m:=by omega
    rw[ek]
    repeat' split
    . exact Int.le_refl _
    . exact Int.le_of_lt (c _ (by omega) (by omega))
    . omega
    . exact b _ (by omega)
    . exact hs _ _ (by omega) (by omega)
    . omega
    . exact b _ (by omega)
    . exact hs _ _ (by omega) (by omega)
    . exact hs _ _ (by omega) (by omega)
theorem SC(h1:1 <= n):PWp r n (kas_sort n) λ p=>PAr n p/\STo r p n:=by
  refine PWp.bind ((R0 h1).mono λ z h=>?_)
  obtain⟨a,b,c,d⟩:=h
  by_cases e:z.1 < n
  . rw[if_pos e]
    have:max z.1 1=z.1:=by omega
    rw[this]
    exact P3 _ _ _ a (by omega) d
  . rw[if_neg e]
    have:z.1=n:=by omega
    exact⟨a,this ▸ d⟩
end
end L2
namespace L2
open PySem PySem.Spec PyProof.Rows PySem.W
noncomputable def PairAt(h:Heap)(v:Value)(p:Int × Int):Prop:=∃ (x:Addr) (o:Obj) (t u:Tok) (k:Nat),v=.ref x/\h.get? x=some o/\o.cls=.type "tuple"/\o.data=.seq #[.int p.1 t,.int p.2 u] k
noncomputable def CS(p:Int × Int):Int:=p.1 * 4000000000 + p.2
noncomputable def pok(p:Int × Int):Prop:=-1000000000 <= p.1/\p.1 <= 1000000000/\-1000000000 <= p.2/\p.2 <= 1000000000
section
variable{prog:Program}{w:World}{A:Around}{E:Value->Shared->Prop}{s:Shared}
theorem TF{x y:Value}{p q:Int × Int}{C:Bool->Shared->Prop}(hx:PairAt s.heap x p)(hy:PairAt s.heap y q)(op:pok p)(oq:pok q)(h:C (decide (CS p < CS q)) s) :
    wpAny (model prog w) A (keyLt' (tuples' true) x y) C E s:=by
  obtain⟨a,o,t,u,k,rfl,ho,hc,hd⟩:=hx
  obtain⟨a2,o2,t2,u2,k2,rfl,ho2,hc2,hd2⟩:=hy
  obtain⟨p1,p2⟩:=p
  obtain⟨q1,q2⟩:=q
  unfold pok at op oq
  unfold CS at h
  dsimp only at op oq h
  refine kat_lt ho hd ho2 hd2 ?_
  refine kat_cons (wpAny_eqBool_int ?_)
  by_cases e1:p1=q1
  . have b1:(p1 == q1)=true:=by simp[e1]
    rw[b1]
    refine kat_yes (kat_cons (wpAny_eqBool_int ?_))
    by_cases e2:p2=q2
    . have b2:(p2 == q2)=true:=by simp[e2]
      rw[b2]
      refine kat_yes (kat_nil ?_)
      have:decide (p1 * 4000000000 + p2 < q1 * 4000000000 + q2)=false:=decide_eq_false (by omega)
      rw[this]at h
      exact h
    . have b2:(p2 == q2)=false:=by simp[e2]
      rw[b2]
      refine kat_no (kat_one _ _ (lt_int ?_))
      have:decide (p1 * 4000000000 + p2 < q1 * 4000000000 + q2)=decide (p2 < q2):=decide_eq_decide.mpr (by omega)
      rw[this]at h
      exact h
  . have b1:(p1 == q1)=false:=by simp[e1]
    rw[b1]
    refine kat_no (oneLt_int ?_)
    have:decide (p1 * 4000000000 + p2 < q1 * 4000000000 + q2)=decide (p1 < q1):=decide_eq_decide.mpr (by omega)
    rw[this]at h
    exact h
theorem M2{h:Heap}:∀ {vs:List Value} {ps:List (Int × Int)},vs.length=ps.length->(∀ (i:Nat) (v:Value) (p:Int × Int),vs[i]? = some v->ps[i]? = some p->PairAt h v p)->∃ fs,KatTups h vs fs/\fs.length=vs.length/\∀ f ∈ fs,∃ i t,f=.int i t
  | [],[],_,_=>⟨[],.nil,rfl,λ _ z=>by cases z⟩
  | v :: vs,p :: ps,hl,hp=>by
    obtain⟨fs,a,b,c⟩:=M2 (vs:=vs) (ps:=ps) (by simpa using hl) λ i v q e1 e2=>hp (i + 1) v q (by simpa using e1) (by simpa using e2)
    obtain⟨x,o,t,u,k,rfl,ho,hc,hd⟩:=hp 0 v p rfl rfl
    exact⟨.int p.1 t :: fs,.cons ho hc hd rfl a,by simp[b],λ f hf=>by
      rcases List.mem_cons.mp hf with rfl|hf
      . exact⟨_,_,rfl⟩
      . exact c f hf⟩
noncomputable def EY(vs:List Value)(ps:List (Int × Int))(out:List Value):Prop:=∃ zs:List (Value × (Int × Int)),zs.Perm (vs.zip ps)/\(zs.map λ z=>CS z.2).Pairwise (· <= ·)/\out=zs.map (·.1)
theorem Nz{vs:List Value}{ps:List (Int × Int)}(hl:vs.length=ps.length){p:Array Nat}(pa:PAr vs.length p)(hs:STo (λ i=>CS (ps.getD i (0,0))) p vs.length):EY vs ps (p.toList.map λ i=>vs.getD i Value.none):=by
  have sz:=pa.size
  refine⟨p.toList.map λ i=>(vs.getD i Value.none,ps.getD i (0,0)),?_,?_,by rw[List.map_map];rfl⟩
  . have e:vs.zip ps=(List.range vs.length).map λ i=>(vs.getD i Value.none,ps.getD i (0,0)):=by
      refine List.ext_getElem? λ i=>?_
      by_cases hi:i < vs.length
      . have hi2:i < ps.length:=by omega
        rw[(List.getElem?_zip_eq_some (z:=(vs[i],ps[i]))).mpr ⟨by simp[hi],by simp[hi2]⟩]
        simp[hi,hi2]
      . rw[List.getElem?_eq_none (by simp;omega),List.getElem?_eq_none (by simp;omega)]
    rw[e]
    have:=Array.perm_iff_toList_perm.mp pa
    simpa using this.map _
  . rw[List.map_map,List.pairwise_iff_getElem]
    intro i j hi hj hij
    simp only[List.length_map,Array.length_toList]at hi hj
    have:=hs i j (by omega) (by omega)
    unfold kv at this
    simpa [Array.getD,hi,hj]using this
theorem N4{a:Addr}{vs:List Value}{ps:List (Int × Int)}{n:Nat}{P:PySem.Fin->Shared->Prop}(ho:s.heap.get? a=some (seqObj "list" vs.toArray n))(hl:vs.length=ps.length)(h64:vs.length < 64)(hok:∀ p ∈ ps,pok p)
    (hp:∀ (i:Nat) (v:Value) (p:Int × Int),vs[i]? = some v->ps[i]? = some p->PairAt (s.heap.update a (Obj.mapSeq λ _=>#[])) v p)
    (h:∀ out:List Value,EY vs ps out->P (.done (.ret .none)) { s with heap:=sortedHeap s.heap a vs out.toArray }) :
    wpAny (model prog w) A (Builtin.«list.sort» ⟨[.ref a],[]⟩) P E s:=by
  have ha:=Heap.lt_size ho
  have line:vs.length <= sizeLine:=by rw[sizeLine_eq];omega
  obtain⟨e1,ho1⟩:∃ e1,(s.heap.update a (Obj.mapSeq λ _=>#[])).get? a=some (seqObj "list" #[] e1):=⟨_,get?_update_seq ho _⟩
  rw[list_sort_plain]
  refine wpAny_bind (listItems_at ho rfl (wpAny_bind (listUpdate_at ho rfl (wpAny_bind (seqEpoch_at ho1 rfl (wpAny_bind (wpAny_newTuple (wpAny_bind (wpAny_newList (wpAny_holding ?_) (Nat.zero_le _))) line)))) (by rw[List.size_toArray];exact line) (Nat.zero_le _))))
  have grow:∀ b o,(s.heap.update a (Obj.mapSeq λ _=>#[])).get? b=some o->(((s.heap.update a (Obj.mapSeq λ _=>#[])).push (seqObj "tuple" vs.toArray 0)).push (seqObj "list" #[] 0)).get? b=some o:=λ b o e=>Heap.get?_push_of_some _ (Heap.get?_push_of_some _ e)
  have ho6:=grow _ _ ho1
  generalize h6:((s.heap.update a (Obj.mapSeq λ _=>#[])).push (seqObj "tuple" vs.toArray 0)).push (seqObj "list" #[] 0)=hp6 at *
  have done:∀ out:List Value,EY vs ps out->P (.done (.ret .none)) { s with heap:=hp6.update a (Obj.mapSeq λ _=>out.toArray) }:=λ out z=>by
    have:=h out z
    unfold sortedHeap at this
    rw[h6]at this
    exact this
  show wpAny (model prog w) A _ P E { s with heap:=hp6 }
  dsimp only
  have pairs6:∀ (i:Nat) (v:Value) (p:Int × Int),vs[i]? = some v->ps[i]? = some p->PairAt hp6 v p:=λ i v p x y=>by
    obtain⟨x',o,t,u,k,e,q,c,d⟩:=hp i v p x y
    exact⟨x',o,t,u,k,e,grow _ _ q,c,d⟩
  by_cases h2:vs.toArray.size < 2
  . rw[if_pos h2,if_pos h2]
    refine wpAny_bind (wpAny_pure ?_)
    rw[StateT.run_pure]
    refine wpAny_bind (wpAny_pure ?_)
    dsimp only
    have hout:(arrOf (SortSt.mk' general' (vs.toArray.zip vs.toArray) #[] 7 none)).map (·.2)=vs.toArray:=by
      show(vs.toArray.zip vs.toArray).map (·.2)=vs.toArray
      apply Array.toList_inj.mp
      simp only[Array.toList_map,Array.toList_zip]
      exact List.map_snd_zip (Nat.le_refl _)
    rw[hout]
    refine wpAny_bind (seqEpoch_at ho6 rfl (wpAny_bind (listUpdate_at ho6 rfl ?_ (Nat.zero_le _) (by rw[List.size_toArray];omega))))
    simp only[bne_self_eq_false,Bool.false_eq_true,if_false]
    refine wpAny_pure (done vs ⟨vs.zip ps,.refl _,?_,?_⟩)
    . have hz:(vs.zip ps).length < 2:=by simp at h2 ⊢;omega
      cases hh:vs.zip ps with
      | nil=>exact .nil
      | cons z r=>
        cases r with
        | nil=>exact List.pairwise_singleton _ _
        | cons y t=>rw[hh]at hz;exact absurd hz (by simp)
    . rw[List.map_fst_zip (by omega)]
  . rw[if_neg h2,if_neg h2]
    have h2':2 <= vs.length:=by simp at h2;omega
    obtain⟨fs,t1,t2,t3⟩:=M2 hl pairs6
    have tT:∀ f ∈ fs,Looks (model prog w) hp6 (typeOf f) (Value.type "int"):=λ f hf=>by
      obtain⟨i,t,rfl⟩:=t3 f hf
      exact .of_pure rfl
    refine wpAny_bind (kat_kind (s:={ s with heap:=hp6 }) t1 (by omega) tT rfl ?_)
    have est:SortSt.mk' (tuples' true) (vs.toArray.zip vs.toArray) #[] 7 none=kas_st (tuples' true) (pairsOf vs) (List.toArray (List.range vs.length)):=by
      unfold kas_st
      rw[<- pairsOf_size vs,kas_range]
      rfl
    have ask:(kas_sort vs.length).kasWp (kas_cmp prog w A (tuples' true) (pairsOf vs)) (λ p s'=>s'={ s with heap:=hp6 }/\EY vs ps (p.toList.map λ i=>vs.getD i Value.none)) { s with heap:=hp6 }:=by
      rw[<- kas_ask_eq]
      refine PWp.wp (n:=vs.length) (r:=λ i=>CS (ps.getD i (0,0))) (P:=λ s'=>s'={ s with heap:=hp6 }) (λ i j C s' hi hj e hC=>?_) ((SC (by omega)).mono λ p z s' e=>⟨e,Nz hl z.1 z.2⟩) rfl
      subst e
      have pi:ps[i]? = some (ps.getD i (0,0)):=by simp[show i < ps.length by omega]
      have pj:ps[j]? = some (ps.getD j (0,0)):=by simp[show j < ps.length by omega]
      have vi:vs[i]? = some (vs.getD i Value.none):=by simp[hi]
      have vj:vs[j]? = some (vs.getD j Value.none):=by simp[hj]
      exact TF (s:={ s with heap:=hp6 }) (pairs6 i _ _ vi pi) (pairs6 j _ _ vj pj) (hok _ (List.mem_of_getElem? pi)) (hok _ (List.mem_of_getElem? pj)) (hC _ rfl)
    have run:=kas_runs (E:=E) (Q:=λ _ st' s'=>∃ p:Array Nat,p.size=vs.length/\arrOf st'=p.map (kas_item (pairsOf vs))/\failedOf st'=none/\s'={ s with heap:=hp6 }/\EY vs ps (p.toList.map λ i=>vs.getD i Value.none)) h2' h64 (λ p st' s' x1 x2 x3 x4=>⟨p,x1,x2,x3,x4⟩) ask
    rw[<- est]at run
    refine wpAny_bind (wpAny_mono run ?_ λ _ _ e=>e)
    rintro⟨⟨⟩,st'⟩ s' ⟨p,hsz,har,hf,rfl,so⟩
    dsimp only
    have hout:(arrOf st').map (·.2)=(p.toList.map λ i=>vs.getD i Value.none).toArray:=by
      rw[har]
      apply Array.toList_inj.mp
      simp only[Array.toList_map,List.map_map]
      exact List.map_congr_left λ i _=>congrArg Prod.snd (kas_item_eq vs i)
    rw[hout]
    refine wpAny_bind (seqEpoch_at ho6 rfl (wpAny_bind (listUpdate_at ho6 rfl ?_ (Nat.zero_le _) (by simp[hsz];omega))))
    rw[hf]
    simp only[bne_self_eq_false,Bool.false_eq_true,if_false]
    exact wpAny_pure (done _ so)
end
end L2
namespace L2
open PySem PySem.Spec PyProof.Rows PySem.W
theorem PairAt.keep{h h':Heap}{v:Value}{p:Int × Int}(k:∀ b o,h.get? b=some o->h'.get? b=some o)(q:PairAt h v p):PairAt h' v p:=by
  obtain⟨x,o,t,u,n,e,ho,c,d⟩:=q
  exact⟨x,o,t,u,n,e,k _ _ ho,c,d⟩
section
variable{prog:Program}{w:World}{A:Around}{E:Value->Shared->Prop}{s:Shared}
theorem Kg{l:Addr}{vs:List Value}{ps:List (Int × Int)}{Q:Value->Shared->Prop}(hl:s.heap.IsList l vs.toArray)(hlen:vs.length=ps.length)(h64:vs.length < 64)(hok:∀ p ∈ ps,pok p)
    (hp:∀ (i:Nat) (v:Value) (p:Int × Int),vs[i]? = some v->ps[i]? = some p->PairAt s.heap v p)
    (h:∀ out:List Value,EY vs ps out->Q (.ref (s.heap.objs.size + 1)) { s with heap:=sortedAll s.heap vs out.toArray }) :
    wpAny (model prog w) A (call (.builtin "sorted") [.ref l]) Q E s:=by
  have line:vs.length <= sizeLine:=by rw[sizeLine_eq];omega
  refine Calls.call_function_entry kind_sorted plain_sorted entry_sorted (args_sorted1 _) ?_
  unfold Builtin.«sorted»
  refine wpAny_bind (m:=checkCount "sorted" 1 1 _) (wpAny_pure (wpAny_bind (collect_list hl (wpAny_bind (wpAny_newList ?_ line)) line)))
  have sz:((s.heap.push (seqObj "list" #[] 0)).update s.heap.objs.size (Obj.mapSeq (· ++ vs.toArray))).objs.size=s.heap.objs.size + 1:=by rw[Heap.size_update,size_push']
  have at1:(((s.heap.push (seqObj "list" #[] 0)).update s.heap.objs.size (Obj.mapSeq (· ++ vs.toArray))).push (seqObj "list" vs.toArray 0)).get? (s.heap.objs.size + 1)=some (seqObj "list" vs.toArray 0):=by
    have:=Heap.get?_push_size ((s.heap.push (seqObj "list" #[] 0)).update s.heap.objs.size (Obj.mapSeq (· ++ vs.toArray))) (o:=seqObj "list" vs.toArray 0) rfl
    rwa [sz]at this
  have old:∀ b o,s.heap.get? b=some o->((((s.heap.push (seqObj "list" #[] 0)).update s.heap.objs.size (Obj.mapSeq (· ++ vs.toArray))).push (seqObj "list" vs.toArray 0)).update (s.heap.objs.size + 1) (Obj.mapSeq λ _=>#[])).get? b=some o:=λ b o e=>by
    have lt:=Heap.lt_size e
    rw[Heap.get?_update_ne _ _ _ _ (Nat.ne_of_lt (Nat.lt_succ_of_lt lt)),Heap.get?_push_ne _ _ _ (by rw[sz];exact Nat.ne_of_lt (Nat.lt_succ_of_lt lt)),Heap.get?_update_ne _ _ _ _ (Nat.ne_of_lt lt),Heap.get?_push_ne _ _ _ (Nat.ne_of_lt lt)]
    exact e
  show wpAny _ _ _ _ _ { s with heap:=((s.heap.push (seqObj "list" #[] 0)).update s.heap.objs.size (Obj.mapSeq (· ++ vs.toArray))).push (seqObj "list" vs.toArray 0) }
  rw[sz]
  refine wpAny_bind (wpAny_holding (wpAny_call_entry slot_list_sort ⟨_,at1,rfl⟩ entry_list_sort (N4 at1 hlen h64 hok (λ i v p a b=>(hp i v p a b).keep old) λ out z=>⟨_,rfl,?_⟩) (args_list_sort _)))
  exact wpAny_pure ⟨_,rfl,h out z⟩
end
section
variable(K:PySem.W.Frag){X:Cx}
noncomputable def HW:List V->Hp->VK->Prop:=λ xs H Q=>∃ (a:Addr) (us:List V) (ps:List (Int × Int)),xs=[.ref a]/\SqL K H a us/\us.length=ps.length/\us.length < 64/\(∀ q ∈ ps,pok q) /\
  (∀ (i:Nat) (u:V) (q:Int × Int),us[i]? = some u->ps[i]? = some q->∃ x,u=.ref x/\SqT K H x [.int q.1,.int q.2]) /\
  ∀ (p:Addr) (zs:List (V × (Int × Int))),H p=none->zs.Perm (us.zip ps)->(zs.map λ z=>CS z.2).Pairwise (· <= ·)->Q (.ref p) (upd H p (.lst (zs.map (·.1))))
noncomputable def Fu:Value->V
  | .ref x=>.ref x
  | _=>.non
theorem KQ:∀ {us:List V} {its:List Value} {i:Nat} {u:V},Vals us its->us[i]? = some u->∃ v,its[i]? = some v/\RelV u v
  | _,_,_,_,.nil,h=>by simp at h
  | _ :: _,_ :: _,0,_,.cons r _,h=>by
    simp at h;subst h;exact⟨_,rfl,r⟩
  | _ :: _,_ :: _,i + 1,_,.cons _ t,h=>KQ (i:=i) t (by simpa using h)
theorem Ld(hK:X.K=K:=by rfl):CallR X (.builtin "sorted") (HW K):=by
  subst hK
  intro pins s σ H xs us0 Q I r h
  obtain⟨a,us,ps,rfl,hq,hlen,h64,hok,hpr,q⟩:=h
  obtain⟨u,rfl,ru⟩:=Bn r
  cases ru
  obtain⟨its,rv,p,hz⟩:=I.list hq
  have hl2:us.length=its.length:=rv.length
  have point:∀ (i:Nat) (v:Value) (q:Int × Int),its[i]? = some v->ps[i]? = some q->(∃ x,us[i]? = some (.ref x)/\v=.ref x)/\PairAt s.heap v q:=by
    intro i v q e1 e2
    have hi:i < us.length:=by rw[hl2];exact(List.getElem?_eq_some_iff.mp e1).1
    have eu:us[i]? = some us[i]:=by simp[hi]
    obtain⟨x,ex,sq⟩:=hpr i _ q eu e2
    obtain⟨v',ev,rel⟩:=KQ rv eu
    rw[e1]at ev
    cases ev
    rw[ex]at rel eu
    have rel:v=Value.ref x:=rel
    subst rel
    refine⟨⟨x,eu,rfl⟩,?_⟩
    obtain⟨jts,rj,⟨o,ho,hc,n,hd⟩,_⟩:=I.tuple sq
    cases rj with
    | cons r1 t1=>
      cases t1 with
      | cons r2 t2=>
        cases t2
        obtain⟨t,rfl⟩:=r1
        obtain⟨t',rfl⟩:=r2
        exact⟨x,o,t,t',n,rfl,ho,hc,hd⟩
  refine Kg (ps:=ps) p.isList (by omega) (by omega) hok (λ i v q a b=>(point i v q a b).2) λ out z=>?_
  obtain⟨zs,pm,pw,rfl⟩:=z
  obtain⟨e,he⟩:=sortedAll_at s.heap its (zs.map (·.1)).toArray
  have mz:∀ z ∈ zs,∃ x,z.1=.ref x:=λ z hz=>by
    have:=pm.mem_iff.mp hz
    obtain⟨i,hi⟩:=List.mem_iff_getElem?.mp this
    obtain⟨e1,e2⟩:=List.getElem?_zip_eq_some.mp hi
    obtain⟨⟨x,_,ex⟩,_⟩:=point i _ _ e1 e2
    exact⟨x,ex⟩
  have vz:∀ {zs:List (Value × (Int × Int))},(∀ z ∈ zs,∃ x,z.1=.ref x)->Vals (zs.map λ z=>Fu z.1) (zs.map (·.1)):=by
    intro zs
    induction zs with
    | nil=>intro _;exact .nil
    | cons z r ih=>
      intro h
      obtain⟨x,ex⟩:=h z List.mem_cons_self
      refine .cons ?_ (ih λ y hy=>h y (List.mem_cons_of_mem _ hy))
      show RelV (Fu z.1) z.1
      rw[ex];rfl
  have pm2:(zs.map λ z=>(Fu z.1,z.2)).Perm (us.zip ps):=by
    have:=pm.map λ z:Value × (Int × Int)=>(Fu z.1,z.2)
    have e:((its.zip ps).map λ z:Value × (Int × Int)=>(Fu z.1,z.2))=us.zip ps:=by
      refine List.ext_getElem? λ i=>?_
      by_cases hi:i < us.length
      . have h1:i < its.length:=by omega
        have h2:i < ps.length:=by omega
        have e1:its[i]? = some its[i]:=by simp[h1]
        have e2:ps[i]? = some ps[i]:=by simp[h2]
        obtain⟨⟨x,ex,ev⟩,_⟩:=point i _ _ e1 e2
        rw[List.getElem?_map,(List.getElem?_zip_eq_some (z:=(its[i],ps[i]))).mpr ⟨e1,e2⟩,(List.getElem?_zip_eq_some (z:=(V.ref x,ps[i]))).mpr ⟨ex,e2⟩,Option.map_some,ev]
        rfl
      . rw[List.getElem?_eq_none (by simp;omega),List.getElem?_eq_none (by simp;omega)]
    rwa [e]at this
  have pw2:((zs.map λ z=>(Fu z.1,z.2)).map λ z:V × (Int × Int)=>CS z.2).Pairwise (· <= ·):=by rw[List.map_map];exact pw
  have fin:=q (s.heap.objs.size + 1) _ (I.hok.fresh (Nat.le_succ _)) pm2 pw2
  have em:(zs.map λ z=>(Fu z.1,z.2)).map (·.1)=zs.map λ z=>Fu z.1:=by rw[List.map_map];rfl
  rw[em]at fin
  have zl:zs.length < 64:=by rw[pm.length_eq];simp;omega
  refine⟨.ref (s.heap.objs.size + 1),_,I.laid (a:=s.heap.objs.size + 1) (o:=.lst (zs.map λ z=>Fu z.1)) (t':=s.toks) (λ b o hb=>sortedAll_old hb) (Nat.le_succ _) ⟨?_,_,e,vz mz,he⟩,rfl,fin⟩
  rw[List.length_map]
  exact Nat.le_of_lt (Ja (by omega))
end
noncomputable def Al(p:Int × Int):D:=.im (.tup [.int p.1,.int p.2])
noncomputable def Dx:List D->Option (List (Int × Int))
  | []=>some []
  | .im (.tup [.int a,.int b]) :: r=>(Dx r).map ((a,b) :: ·)
  | _=>none
theorem OI:∀ {ds:List D} {ps:List (Int × Int)},Dx ds=some ps->ds=ps.map Al:=by
  intro ds
  induction ds with
  | nil=>intro ps h;simp[Dx]at h;subst h;rfl
  | cons d r ih=>
    intro ps h
    unfold Dx at h
    split at h
    . next e=>cases e
    . next a b r' e=>
      cases e
      obtain⟨qs,e1,rfl⟩:=Option.map_eq_some_iff.mp h
      rw[ih e1]
      rfl
    . cases h
@[simp] theorem Vx(ps:List (Int × Int)):Dx (ps.map Al)=some ps:=by
  induction ps with
  | nil=>rfl
  | cons p r ih=>simp[Dx,Al]at ih ⊢;exact ih
noncomputable def C7(ps:List (Int × Int)):List (Int × Int):=ps.mergeSort λ a b=>decide (CS a <= CS b)
theorem Fq(ps:List (Int × Int)):(C7 ps).Perm ps:=List.mergeSort_perm ..
theorem Kh(ps:List (Int × Int)):(C7 ps).Pairwise λ a b=>CS a <= CS b:=by
  have:=List.pairwise_mergeSort (le:=λ a b:Int × Int=>decide (CS a <= CS b)) (by intro a b c h1 h2;simp at *;omega) (by intro a b;simp;omega) ps
  exact this.imp (by simp)
theorem QL{p q:Int × Int}(a:pok p)(b:pok q)(h:CS p=CS q):p=q:=by
  unfold pok at a b
  unfold CS at h
  exact Prod.ext (by omega) (by omega)
open Classical in
noncomputable def G3(m:MI):MA:=λ ls hd=>(m ls hd).bind λ p=>(Dx p.1.1).bind λ ps=>if ps.length < 64/\∀ q ∈ ps,pok q then some ((C7 ps).map Al,p.2)else none
section
variable{K:PySem.W.Frag}{ρ:List Addr}{H:Hp}{hd:Hd}
theorem SZ{p:Int × Int}{v:V}(h:RD K ρ H (Al p) v):∃ x,v=.ref x/\SqT K H x [.int p.1,.int p.2]:=by
  simp only[Al,RD,RI,RIs]at h
  obtain⟨a,xs,rfl,q,x,r,rfl,rfl,y,r2,rfl,rfl,rfl⟩:=h
  exact⟨a,rfl,q⟩
theorem N7{t:TE}{m:MI}(h:RRw K false t m):RN K (tCB (HW K) (Bw t C0)) (G3 m):=by
  intro ρ σ H hd ls Q d hd' hR hL hm hQ
  obtain⟨⟨⟨d1,g1⟩,h1⟩,e1,hm⟩:=Option.bind_eq_some_iff.mp hm
  obtain⟨ps,e2,hm⟩:=Option.bind_eq_some_iff.mp hm
  split at hm
  . next c=>
    cases hm
    refine h ρ σ H hd ls _ d1 g1 _ hR hL e1 λ ρ1 H1 a x1 R1 G1 S1=>?_
    obtain⟨xs,q,r⟩:=S1 ρ1 H1 _ .refl R1 G1
    have e2:Dx d1=some ps:=e2
    rw[OI e2]at r
    have hl:xs.length=ps.length:=by simpa using r.len
    have each:∀ (i:Nat) (u:V) (q:Int × Int),xs[i]? = some u->ps[i]? = some q->RD K ρ1 H1 (Al q) u:=λ i u q a b=>by
      obtain⟨x,e,z⟩:=r.get (i:=i) (d:=Al q) (by simp[b])
      rw[a]at e;cases e;exact z
    refine⟨a,xs,ps,rfl,q,hl,by rw[hl];exact c.1,c.2,λ i u q a b=>SZ (each i u q a b),λ p zs hp pm pw=>?_⟩
    have es:zs.map (·.2)=C7 ps:=by
      have pp:(zs.map (·.2)).Perm ps:=by
        have:=pm.map (λ z:V × (Int × Int)=>z.2)
        rwa [List.map_snd_zip (by omega)]at this
      refine(pp.trans (Fq ps).symm).eq_of_pairwise (le:=λ a b=>CS a <= CS b) (λ x y hx hy l1 l2=>QL (c.2 _ (pp.mem_iff.mp hx)) (c.2 _ ((Fq ps).mem_iff.mp hy)) (Int.le_antisymm l1 l2)) ?_ (Kh ps)
      rw[List.pairwise_map]at pw ⊢
      exact pw
    obtain⟨R2,x2⟩:=R1.hid (ho:=.lst (zs.map (·.1))) hp
    have all:∀ z ∈ zs,RD K ρ1 H1 (Al z.2) z.1:=λ z hz=>by
      obtain⟨i,hi⟩:=List.mem_iff_getElem?.mp (pm.mem_iff.mp hz)
      obtain⟨a1,a2⟩:=List.getElem?_zip_eq_some.mp hi
      exact each i _ _ a1 a2
    have rd:∀ {zs:List (V × (Int × Int))},(∀ z ∈ zs,RD K ρ1 H1 (Al z.2) z.1)->RDs K ρ1 H1 ((zs.map (·.2)).map Al) (zs.map (·.1)):=by
      intro zs
      induction zs with
      | nil=>intro _;exact .nil
      | cons z r ih=>intro h;exact .cons (h z List.mem_cons_self) (ih λ y hy=>h y (List.mem_cons_of_mem _ hy))
    have rz:=rd all
    rw[es]at rz
    exact hQ ρ1 _ p _ (x1.trans R1 x2) R2 (x1.none hR hp R1) (R1.out hp) AK (rz.ext R1 x2)
  . cases hm
open Classical in
noncomputable def GW:D->List D->Hd->Option (D × Hd)
  | .mu n,[.im (.int i)],hd=>match hd[n]? with
    | some (.lst ds)=>if Ft i then(ixN ds.length i).bind λ k=>(ds[k]?).map λ y=>(y,hd.set n (.lst (ds.eraseIdx k)))else none
    | _=>none
  | _,_,_=>none
theorem RDs.erase:∀ {ds:List D} {xs:List V} (k:Nat),RDs K ρ H ds xs->RDs K ρ H (ds.eraseIdx k) (xs.eraseIdx k)
  | [],_,_,h=>by simp only[RDs]at h;subst h;simp[RDs]
  | d :: ds,_,0,h=>by simp only[RDs]at h;obtain⟨x,r,rfl,_,t⟩:=h;simpa using t
  | d :: ds,_,k + 1,h=>by
    simp only[RDs]at h
    obtain⟨x,r,rfl,a,t⟩:=h
    simpa using RDs.cons a (RDs.erase k t)
end
end L2
namespace L2
open PySem PySem.Spec PyProof.Rows PySem.W
theorem Pt{K:PySem.W.Frag}:RM K O8 GW:=by
  intro ρ H hd d v ds vs Q z hd' hR h1 h2 hf hQ
  unfold GW at hf
  split at hf
  . split at hf
    . next q=>
      split at hf
      . next c=>
        obtain⟨k,e0,hf⟩:=Option.bind_eq_some_iff.mp hf
        obtain⟨y,e1,e3⟩:=Option.map_eq_some_iff.mp hf
        cases e3
        simp only[RD]at h1
        obtain⟨a,hn,rfl⟩:=h1
        simp only[RDs,RD,RI]at h2
        obtain⟨x,r,rfl,rfl,rfl⟩:=h2
        obtain⟨xs,f1,f2⟩:=hR.lst hn q
        obtain⟨x,x1,x3⟩:=f2.get e1
        obtain⟨R2,x2⟩:=hR.put hn (o:=.lst _) (ho:=.lst (xs.eraseIdx k)) ⟨_,rfl,f2.erase k⟩
        obtain⟨s1,s2,s3,s4⟩:=JL e0
        have sz:=f2.len
        unfold Ft at c
        exact⟨a,xs,_,k,x,rfl,rfl,f1,by omega,by omega,by rw[sz];exact s1,x1,hQ ρ _ _ x2 R2 (x3.ext hR x2)⟩
      . cases hf
    . cases hf
  . cases hf
section
variable(K:PySem.W.Frag){X:Cx}{e:Expr}{te:TE}{p pos:Pos}
theorem NG{mi:MI}(hm:X.mg "sorted"=none)(ha:QR K false X e te mi)(hg:Gl X "sorted":=by rfl)(he:starEach [e] X.env=[(false,eval e X.env)]:=by rfl)(hK:X.K=K:=by rfl):QN K X (.Call (.Name "sorted" p) [e] [] pos) (tCB (HW K) (Bw te C0)) (G3 mi):=
  ⟨Fz (Ld K hK) hg hm Jq (Cg ha.p DT he) (by decide) (by decide) he rfl,N7 ha.r⟩
end
section
variable{ls:Ls}{hd:Hd}
open Classical in
@[simp] theorem Qv(k:Nat)(i:Int):GW (.mu k) [.im (.int i)] hd=match hd[k]? with
    | some (.lst ds)=>if Ft i then(ixN ds.length i).bind λ j=>(ds[j]?).map λ y=>(y,hd.set k (.lst (ds.eraseIdx j)))else none
    | _=>none:=rfl
open Classical in
@[simp] theorem WM(mi:MI):G3 mi ls hd=(mi ls hd).bind λ p=>(Dx p.1.1).bind λ ps=>if ps.length < 64/\∀ q ∈ ps,pok q then some ((C7 ps).map Al,p.2)else none:=rfl
end
end L2
namespace L2
open PySem PySem.Spec PyProof.Rows PySem.W
noncomputable def FK(m:ME):MI:=λ ls hd=>match C1 m ls hd with
  | some z=>some z
  | none=>Dz m ls hd
noncomputable def MY(K:PySem.W.Frag)(t:TE):TI:=λ σ H R=>LP K t σ H R ∨ IZ K t σ H R
theorem UF{K:PySem.W.Frag}{t:TE}{m:ME}(h:RE K t m):RIt K (MY K t) (FK m):=by
  intro ρ σ H hd ls Q d g hd' hR hL hm hQ
  unfold FK at hm
  split at hm
  . next z e=>
    cases hm
    exact .inl (O4 h ρ σ H hd ls Q d g hd' hR hL e hQ)
  . exact .inr (M6 h ρ σ H hd ls Q d g hd' hR hL hm hQ)
theorem Uc(K:PySem.W.Frag){X:Cx}{tg e:Expr}{t:TE}{m:ME}(h:QE K X e t m)(hK:X.K=K:=by rfl):QI K X tg e (MY K t) (FK m):=
  ⟨λ pins s σ H R I q=>q.elim (λ q=>(MN K h.p hK) pins s σ H R I q) λ q=>(Kw K h.p hK) pins s σ H R I q,UF h.r⟩
section
variable{m:ME}{ls:Ls}{hd hd':Hd}
theorem TR{is:List I}(e:m ls hd=some (.im (.tup is),hd')):FK m ls hd=some ((is.map .im,[]),hd'):=by unfold FK;simp[e]
end
end L2
namespace L2
open PySem PySem.Spec PyProof.Rows PySem.W
noncomputable def FV(p:Int × Int):I:=.tup [.int p.1,.int p.2]
end L2
namespace L2
open PySem PySem.Spec PyProof.Rows
section
variable{prog:Program}{w:World}{A:Around}{R:Result->Shared->Prop}{s:Shared}
theorem Jw(k v target iter:Expr)(ifs:List Expr)(scope:Scope)(pos:Pos)(it acc:Value)(env:Env) :
    compTurn (.DictComp k v [⟨target,iter,ifs,0⟩] scope pos) 0 it acc env=(do
      standAt iter.pos
      match <- pyNext it with
      | none=>pure (.done .next)
      | some x=>
        letOwnedTupleGo target it x
        assign target env x
        let mut ok:=true
        for c in ifs do
          if ok then ok <- isTrue c env (eval c env)
        if ok then
          (do
            let kv <- eval k env
            let vv <- holding [kv] (eval v env)
            match acc with
            | .ref d=>do
              standAt { k.pos with endLine:=v.pos.endLine,endCol:=v.pos.endCol }
              holding [kv,vv] (dictSet d kv vv)
            | _=>unsupported "internal:dictcomp")
        again (.compLoop (.DictComp k v [⟨target,iter,ifs,0⟩] scope pos) 0 it acc env)):=by rfl
theorem Ov{e target iter:Expr}{ifs:List Expr}{it acc:Value}{env:Env}{emit:Sem Unit}(I:Nat->Shared->Prop)
    (hden:(model prog w).den (.compLoop e 0 it acc env)=(compTurn e 0 it acc env).onRaise (λ x=>do noteFrame x env;theTreesLotGoes x))
    (hund:A.under (.compLoop e 0 it acc env)=A)
    (hturn:compTurn e 0 it acc env=(do
      standAt iter.pos
      match <- pyNext it with
      | none=>pure (.done .next)
      | some x=>
        letOwnedTupleGo target it x
        assign target env x
        let mut ok:=true
        for c in ifs do
          if ok then ok <- isTrue c env (eval c env)
        if ok then emit
        again (.compLoop e 0 it acc env)))
    (turn:∀ n s,I n s->wpAny (model prog w) A (pyNext it) (λ r s₁=>match r with
      | none=>R (.ok .next) s₁
      | some v=>wpAny (model prog w) A (letOwnedTupleGo target it v) (λ _ s₁=>wpAny (model prog w) A (assign target env v) (λ _ s₂=>
          wpAny (model prog w) A (forIn ifs true λ c r=>if r=true then do let ok <- isTrue c env (eval c env);pure (ForInStep.yield ok)else pure (ForInStep.yield r)) (λ ok s₃=>
            if ok=true then wpAny (model prog w) A emit (λ _ s₅=>∃ m,m < n/\I m s₅) (λ _ _=>False) s₃
            else ∃ m,m < n/\I m s₃) (λ _ _=>False) s₂) (λ _ _=>False) s₁) (λ _ _=>False) s₁) (λ _ _=>False) s)
    (n:Nat) (h:I n s) :
    codeAny (model prog w) A (.compLoop e 0 it acc env) R s:=by
  refine codeAny_loop rfl I (λ n s hI=>?_) n h
  rw[hden,hund]
  refine wpAny_noted ?_
  rw[hturn]
  refine wpAny_bind (wpAny_standAt (wpAny_bind (wpAny_mono (turn n s hI) (λ r s₁ h₁=>?_) λ _ _ h'=>h'.elim)))
  cases r with
  | none=>exact wpAny_pure h₁
  | some v=>
    refine wpAny_bind (wpAny_mono h₁ (λ _ s₁ h₁=>?_) λ _ _ h'=>h'.elim)
    refine wpAny_bind (wpAny_mono h₁ (λ _ s₂ h₂=>wpAny_bind (wpAny_mono h₂ (λ ok s₃ h₃=>?_) λ _ _ h'=>h'.elim)) λ _ _ h'=>h'.elim)
    cases ok with
    | false=>exact wpAny_pure ⟨rfl,h₃⟩
    | true=>
      exact wpAny_bind (wpAny_mono h₃ (λ x s₄ h₄=>wpAny_pure ⟨rfl,h₄⟩) λ _ _ h'=>h'.elim)
theorem Nf{e:Expr}{g:Comprehension}{gs:List Comprehension}{it acc:Value}{env:Env}(hcl:clausesOf e=g :: gs)(hasy:g.is_async=0)
    (hden:(model prog w).den (.compStart e 0 it acc env)=(compStart e 0 it acc env).onRaise (λ x=>do noteFrame x env;standAt theWindowsPlace))
    (hund:A.under (.compStart e 0 it acc env)=A)
    (h0:codeAny (model prog w) A (.compLoop e 0 it acc env) R s)
    (h:wpAny (model prog w) A (pyIter it) (λ it' s'=>codeAny (model prog w) A (.compLoop e 0 it' acc env) R s')
      (notedBy (model prog w) A env λ x s'=>R (.error x) s') s) :
    codeAny (model prog w) A (.compStart e 0 it acc env) R s:=by
  refine codeAny_of_tree ?_
  rw[hden,hund]
  refine wpAny_notedAt ?_
  have e1:((clausesOf e)[0]?).elim false (·.is_async != 0)=false:=by rw[hcl];simp[hasy]
  have e2:(clausesOf e)[0]? = some g:=by rw[hcl];rfl
  unfold compStart
  rw[e1,e2]
  show wpAny _ _ (ask >>= _) _ _ s
  refine wpAny_bind (wpAny_askSetting (wpAny_ite ?_))
  split
  . first
      | exact wpAny_bind (wpAny_pure (wpAny_pure (And.intro rfl h0)))
      | exact wpAny_pure (And.intro rfl h0)
  . first
      | exact wpAny_bind (wpAny_rule (wpAny_bind (wpAny_standAt (wpAny_bind (wpAny_mono h (λ it' s' h'=>wpAny_pure (And.intro rfl h')) λ _ _ x=>x)))))
      | (refine wpAny_bind (wpAny_rule ?_);show wpAny _ _ (standAt g.iter.pos >>= _) _ _ s;exact wpAny_bind (wpAny_standAt (wpAny_bind (wpAny_mono h (λ it' s' h'=>wpAny_pure (And.intro rfl h')) λ _ _ x=>x))))
end
noncomputable abbrev TM:=Addr->St->Hp->(Hp->Prop)->Prop
noncomputable def PM(X:Cx)(emit:Value->Env->Sem Unit)(t:TM):Prop:=
  ∀ (D:Addr) (pins:List (Addr × Obj)) (s:Shared) (σ:St) (H:Hp) (Q:Hp->Prop),Inv X pins σ H s->t D σ H Q->wpAny (model X.prog X.w) X.A (emit (.ref D) X.env) (λ _ s'=>∃ H',Inv X pins σ H' s'/\Q H') X.xe s
noncomputable def Vc(J:It)(D:Addr)(o:HO)(σ0:St)(H0:Hp)(g:TG)(tf:TT)(tm:TM)(Q:VK):Prop:=∃ W:Nat->Nat->St->Hp->Prop,
  (∃ m,W 0 m σ0 (upd H0 D o))/\∀ i m σ H,W i m σ H ->
    ((J.stop i H/\Q (.ref D) H) ∨ (J.go i H/\∃ N:St->Hp->Prop,(∀ σ' H',N σ' H'->∃ m',m' < m/\W (i + 1) m' σ' H') /\
      ∀ x H',J.yld i H x H'->g x σ H' λ σ2 H2=>tf σ2 H2 λ b H3=>
        if b=true then tm D σ2 H3 λ H4=>N σ2 H4 else N σ2 H3))
noncomputable def Hs(o:HO)(n:Nat)(ix:List Nat)(wi:TI)(g:TG)(tf:TT)(tm:TM):TE:=λ σ H Q=>wi σ H λ J H1=>∀ D,H1 D=none->Vc J D o (GB n ix σ) H1 g tf tm Q
section
variable{X:Cx}
theorem QX{e tg iter:Expr}{ifs:List Expr}{scope:Scope}{pos:Pos}{loc fr:List Str}{ix:List Nat}{wi:TI}{g:TG}{tf:TT}{tm:TM}{emit:Value->Env->Sem Unit}{newAcc:Sem Value}{ho:HO}
    (hc:X.calm=true) (S:CSc X scope fr ix) (hi:PI X tg iter wi)
    (hg:∀ s H ex,PG (cCx X (loc ++ fr) scope s H ex) tg g) (hf:∀ s H ex,PF (cCx X (loc ++ fr) scope s H ex) ifs tf) (he:∀ s H ex,PM (cCx X (loc ++ fr) scope s H ex) emit tm)
    (hev:eval e X.env=comprehension e scope X.env pos newAcc false (eval iter X.env))
    (hcl:clausesOf e=[⟨tg,iter,ifs,0⟩])
    (hturn:∀ it acc env,compTurn e 0 it acc env=(do
      standAt iter.pos
      match <- pyNext it with
      | none=>pure (.done .next)
      | some x=>
        letOwnedTupleGo tg it x
        assign tg env x
        let mut ok:=true
        for c in ifs do
          if ok then ok <- isTrue c env (eval c env)
        if ok then emit acc env
        again (.compLoop e 0 it acc env)))
    (hd1:∀ it acc env,(model X.prog X.w).den (.compLoop e 0 it acc env)=(compTurn e 0 it acc env).onRaise (λ x=>do noteFrame x env;theTreesLotGoes x))
    (hd2:∀ it acc env,(model X.prog X.w).den (.compStart e 0 it acc env)=(compStart e 0 it acc env).onRaise (λ x=>do noteFrame x env;standAt theWindowsPlace))
    (hu1:∀ it acc env,X.A.under (.compLoop e 0 it acc env)=X.A) (hu2:∀ it acc env,X.A.under (.compStart e 0 it acc env)=X.A)
    (hnew:∀ (pins:List (Addr × Obj)) (s:Shared) (σ:St) (H:Hp) (Q:Value->Shared->Prop),Inv X pins σ H s->(∀ ob,Inv X pins σ (upd H s.heap.objs.size ho) { s with heap:=s.heap.push ob }->Q (.ref s.heap.objs.size) { s with heap:=s.heap.push ob })->wpAny (model X.prog X.w) X.A newAcc Q X.xe s)
    (hs:∀ x,foldedSetIterable iter X.env x=pure x:=by intro _;rfl):PE X e (Hs ho loc.length ix wi g tf tm):=by
  intro pins s σ H Q I h
  rw[hev]
  have hnames:∀ y ∈ scope.names,y.2=.local->scope.names.lookup y.1=some .local:=λ y hy e=>by
    have:=List.all_eq_true.mp S.loc y hy
    rw[e]at this
    simpa using this
  refine wpAny_comprehension_free (use:=none) hcl hs (DY (S.clos I.ok)) S.kind hnames (thn (hi pins s σ H _ I h) λ v s1 h1=>thn h1 λ itv s2 h2=>?_)
  obtain⟨it,fp,tn,J,H2,rfl,I2,T,st2,f2,hW⟩:=h2
  refine hnew pins s2 σ H2 _ I2 λ ob I3=>?_
  have fresh2:H2 s2.heap.objs.size=none:=I2.hok.fresh (Nat.le_refl _)
  obtain⟨W,⟨m0,w0⟩,turn⟩:=hW s2.heap.objs.size fresh2
  have lt2:∀ b ∈ fp,b < s2.heap.objs.size:=λ b hb=>let ⟨o,e,_⟩:=T.obj 0 _ st2 b hb;Heap.lt_size e
  have f3:∀ b ∈ fp,FpOk X pins (upd H2 s2.heap.objs.size ho) b:=λ b hb=>⟨by rw[AF (Nat.ne_of_lt (lt2 b hb))];exact(f2 b hb).1,(f2 b hb).2⟩
  have lt3:∀ b ∈ fp,b < (s2.heap.push ob).objs.size:=λ b hb=>by rw[Heap.size_push];exact Nat.lt_succ_of_lt (lt2 b hb)
  generalize hs3:({ s2 with heap:=s2.heap.push ob }:Shared)=s3 at *
  have lt3:∀ b ∈ fp,b < s3.heap.objs.size:=by rw[<- hs3];exact lt3
  have st3:tn 0 s3.heap:=T.keep _ _ _ st2 λ b hb o e=>by rw[<- hs3];exact Heap.get?_push_of_some _ e
  refine JG λ h' hk hn ho' ha=>?_
  have I4:=Hf (loc:=loc) S I3 f3 hk hn ho' ha lt3
  have fpX:∀ {H':Hp},(∀ b ∈ fp,H' b=none)->∀ b ∈ fp,FpOk (cCx X (loc ++ fr) scope s3 (upd H2 s2.heap.objs.size ho) fp) [] H' b:=λ hn b hb=>
    ⟨hn b hb,(I4.ok.exf b hb).1,I4.ok.exfs b hb,.inl hb,(I4.ok.exf b hb).2,λ p hp=>by cases hp⟩
  have loop:codeAny (model X.prog X.w) X.A (.compLoop e 0 (.ref it) (.ref s2.heap.objs.size) (Nl scope s3.heap.objs.size X.env))
      (compPost (model X.prog X.w) X.A X.xe none (EP X pins σ Q) (.ref s2.heap.objs.size) s3.heap.objs.size) { s3 with heap:=h' }:=by
    refine Ov (λ n s'=>∃ i σ' H',Inv (cCx X (loc ++ fr) scope s3 (upd H2 s2.heap.objs.size ho) fp) [] σ' H' s'/\tn i s'.heap/\(∀ b ∈ fp,H' b=none)/\W i n σ' H') (hd1 _ _ _) (hu1 _ _ _) (hturn _ _ _) ?_ m0
      ⟨0,_,_,I4,T.keep _ _ _ st3 λ b hb o e=>hk b o e,λ b hb=>(f3 b hb).1,w0⟩
    rintro n s5 ⟨i,σ5,H5,I5,st5,fr5,w5⟩
    have w5:=turn i n σ5 H5 w5
    rcases w5 with⟨stop,qn⟩|⟨go,N,hN,step⟩
    . refine thn (T.done (cCx X (loc ++ fr) scope s3 (upd H2 s2.heap.objs.size ho) fp) rfl rfl rfl hc i [] s5 σ5 H5 _ I5 (fpX fr5) st5 stop) λ r s6 ⟨hr,I6⟩=>?_
      subst hr
      obtain⟨m,hm,_⟩:=I6.loc
      refine⟨m,hm,λ h'' hs=>?_⟩
      have neC:∀ b o,s3.heap.get? b=some o->b ≠ s3.heap.objs.size:=λ b o e=>Nat.ne_of_lt (Heap.lt_size e)
      have un:=I6.base
      refine⟨.ref s2.heap.objs.size,H5,I3.call' (s':={ s6 with heap:=h'' }) (ch:=fp) I6.os ⟨λ b o e n hb hx=>?_,λ b o e n hb hx=>?_,un.free,λ b o e hx=>?_,un.tups,un.frzs,un.tbls⟩ ?_ I6.bare ?_,rfl,qn⟩
      . exact(hs.2 b (neC b o e)).trans (un.keep b o e n hb hx)
      . obtain⟨sl,q⟩:=un.slot b o e n hb hx
        exact⟨sl,(hs.2 b (neC b o e)).trans q⟩
      . obtain⟨o',q⟩:=un.there b o e hx
        exact⟨o',(hs.2 b (neC b o e)).trans q⟩
      . intro b ob e
        have hfree:H5 s3.heap.objs.size=none:=I6.free
        refine(I6.hok b ob e).stay (λ c w' hc q=>(hs.2 c ?_).trans q) (λ _ q=>q) λ _ _ q=>q
        intro z
        rcases hc with hc|hc
        . rw[<- hc,z,hfree]at e;cases e
        . rw[z,hfree]at hc;cases hc
      . intro b hb
        obtain⟨_,a2,_,a4,a5,a6⟩:=f3 b hb
        exact⟨a4,a2,a5,a6⟩
    . refine thn (T.item (cCx X (loc ++ fr) scope s3 (upd H2 s2.heap.objs.size ho) fp) rfl rfl rfl hc i [] s5 σ5 H5 _ I5 (fpX fr5) st5 go) λ r s6 ⟨u,hr,h6⟩=>?_
      subst hr
      refine thn h6 λ _ s7 ⟨x,H7,I7,r7,y7,st7,fr7⟩=>?_
      have I7':=I7.pinned (fpX fr7) (T.obj _ _ st7)
      have keepI:∀ {σ8:St} {H8:Hp} {s8:Shared},Inv (cCx X (loc ++ fr) scope s3 (upd H2 s2.heap.objs.size ho) fp) ([] ++ Ei fp s7.heap) σ8 H8 s8->tn (i + 1) s8.heap/\∀ b ∈ fp,H8 b=none:=λ {σ8 H8 s8} I8=>by
        refine⟨T.keep _ _ _ st7 λ b hb o e=>(I8.pin (b,o) (List.mem_append_right _ (List.mem_append_right _ (CH hb e)))).1,λ b hb=>?_⟩
        obtain⟨o,e,d⟩:=T.obj _ _ st7 b hb
        exact(I8.pin (b,o) (List.mem_append_right _ (List.mem_append_right _ (CH hb e)))).2.1
      refine thn (hg s3 (upd H2 s2.heap.objs.size ho) fp _ s7 σ5 H7 x u _ I7' r7 (step x H7 y7)) λ _ s8 ⟨σ8,H8,I8,q8⟩=>?_
      refine thn (hf s3 (upd H2 s2.heap.objs.size ho) fp _ s8 σ8 H8 _ I8 q8) λ b s9 ⟨H9,I9,q9⟩=>?_
      cases b with
      | false=>
        rw[if_neg Bool.false_ne_true]at q9 ⊢
        obtain⟨m',hm,w9⟩:=hN _ _ q9
        exact⟨m',hm,i + 1,σ8,H9,I9.unpinned,(keepI I9).1,(keepI I9).2,w9⟩
      | true=>
        rw[if_pos rfl]at q9 ⊢
        refine thn (he s3 (upd H2 s2.heap.objs.size ho) fp _ _ s9 σ8 H9 _ I9 q9) λ e10 s10 ⟨H10,I10,n10⟩=>?_
        obtain⟨m',hm,w10⟩:=hN _ _ n10
        exact⟨m',hm,i + 1,σ8,_,I10.unpinned,(keepI I10).1,(keepI I10).2,w10⟩
  exact Nf hcl rfl (hd2 _ _ _) (hu2 _ _ _) loop (T.self X.A 0 _ _ _ (T.keep _ _ _ st3 λ b hb o e=>hk b o e) loop)
noncomputable def K9(tk tv:TE):TM:=λ D σ H Q=>tk σ H λ y H1=>tv σ H1 λ v H2=>∃ kvs k,H2 D=some (.dK kvs)/\y=kV k/\kvs.length < sizeLine/\Q (upd H2 D (.dK (Cy kvs k v)))
theorem Ou{pins:List (Addr × Obj)}{σ:St}{H:Hp}{s:Shared}{a:Addr}{v:V}{u r:Value}{A:Around}{E:Value->Shared->Prop}{kvs:List (Key × V)}{k:Key}{Q:Unit->Shared->Prop}(I:Inv X pins σ H s)(e:H a=some (.dK kvs))(l:kvs.length < sizeLine)(ry:RelV (kV k) u)(rv:RelV v r)(h:∀ s',Inv X pins σ (upd H a (.dK (Cy kvs k v))) s'->Q () s') :
    wpAny (model X.prog X.w) A (dictSet a u r) Q E s:=by
  obtain⟨z,hd,vs,rel,dd⟩:=Ru I.hok e
  have hz:vs.length <= sizeLine:=by rw[<- rel.length];exact z
  have hl:(Cy kvs k v).length <= sizeLine:=by have:=FM kvs k v;omega
  refine wpAny_dictSet_pairs (hsz:=hz) (IV ry) dd λ h' dd' hs=>h _ ?_
  have he:∃ q,h'.get? a=some q:=let ⟨q,_,_,hq,_⟩:=dd';⟨q,hq⟩
  exact JQ I (by rw[e];exact True.intro) hs he (Op hl hd (rel.put k rv) dd')
noncomputable def Nb(k v:Expr):Value->Env->Sem Unit:=λ acc env=>do
  let kv <- eval k env
  let vv <- holding [kv] (eval v env)
  match acc with
  | .ref d=>do
    standAt { k.pos with endLine:=v.pos.endLine,endCol:=v.pos.endCol }
    holding [kv,vv] (dictSet d kv vv)
  | _=>unsupported "internal:dictcomp"
theorem Sq{k v:Expr}{tk tv:TE}(hk:PE X k tk)(hv:PE X v tv):PM X (Nb k v) (K9 tk tv):=by
  intro D pins s σ H Q I h
  unfold Nb
  refine wpAny_bind (thn (hk pins s σ H _ I h) λ u s1 ⟨y,H1,I1,r1,q1⟩=>?_)
  refine wpAny_bind (wpAny_holding (thn (hv pins s1 σ H1 _ I1 q1) λ r s2 ⟨v,H2,I2,r2,kvs,k,e,ey,l,q2⟩=>?_))
  refine wpAny_bind (wpAny_standAt (wpAny_holding ?_))
  subst ey
  exact Ou I2 e l r1 r2 λ s' I'=>⟨_,I',q2⟩
theorem QV{k v tg iter:Expr}{ifs:List Expr}{scope:Scope}{pos:Pos}{loc fr:List Str}{ix:List Nat}{wi:TI}{g:TG}{tf:TT}{tk tv:TE}
    (hc:X.calm=true) (S:CSc X scope fr ix) (hi:PI X tg iter wi)
    (hg:∀ s H ex,PG (cCx X (loc ++ fr) scope s H ex) tg g) (hf:∀ s H ex,PF (cCx X (loc ++ fr) scope s H ex) ifs tf) (hk:∀ s H ex,PE (cCx X (loc ++ fr) scope s H ex) k tk) (hv:∀ s H ex,PE (cCx X (loc ++ fr) scope s H ex) v tv)
    (hs:∀ x,foldedSetIterable iter X.env x=pure x:=by intro _;rfl):PE X (.DictComp k v [⟨tg,iter,ifs,0⟩] scope pos) (Hs (.dK []) loc.length ix wi g tf (K9 tk tv)):=by
  refine QX (emit:=Nb k v) (newAcc:=newDict) (pos:=firstIterPos [⟨tg,iter,ifs,0⟩] pos) hc S hi hg hf (λ s H ex=>Sq (hk s H ex) (hv s H ex)) rfl rfl (λ it acc env=>Jw ..) (λ _ _ _=>rfl) (λ _ _ _=>rfl) (λ _ _ _=>rfl) (λ _ _ _=>rfl) (λ pins s σ H Q I h=>?_) hs
  simp only[newDict,newObj]
  refine wpAny_bind (wpAny_alloc (wpAny_pure (h _ ?_)))
  exact I.laid (a:=s.heap.objs.size) (o:=.dK []) (t':=s.toks) (λ _ _ q=>Heap.get?_push_of_some _ q) (Nat.le_refl _) (Qw s.heap I.big)
end
end L2
namespace L2
open PySem PySem.Spec PyProof.Rows
section
variable{K:PySem.W.Frag}{ρ ρ':List Addr}{H H':Hp}{hd hd':Hd}
theorem RH.hputO(h:RH K ρ H hd){a:Addr}(out:a ∉ ρ){o ho:HO}(hl:H a=some o)(c:Chg H a)(n1:∀ ps,o ≠ .tbl ps)(n2:∀ φ,o ≠ .ext φ):RH K ρ (upd H a ho) hd:=by
  have gr:Grow H (upd H a ho):=Grow.refl.put c
  refine⟨h.len,h.nd,h.tabs.upd (λ ps z=>n1 ps (Option.some.inj (hl.symm.trans z))) (λ ps z=>n2 ps (Option.some.inj (hl.symm.trans z))),λ m o' b e1 e2=>?_⟩
  obtain⟨ho',q1,q2⟩:=h.ob m o' b e1 e2
  have:b ≠ a:=λ z=>out (by rw[<- z];exact List.mem_of_getElem? e2)
  exact⟨ho',by rw[AF this];exact q1,by simpa using q2.mono gr []⟩
theorem Ext.outk(x:Ext ρ H ρ' H'){a:Addr}{o:HO}(h:H a=some o)(out:a ∉ ρ):a ∉ ρ':=by
  obtain⟨r,rfl,fr⟩:=x.pre
  intro z
  rcases List.mem_append.mp z with z|z
  . exact out z
  . have:=fr _ z
    rw[h]at this;cases this
structure Acc(K:PySem.W.Frag)(α:Type)(o0:HO)(a0:α) where
  rel:List Addr->Hp->α->HO->Prop
  mono:∀ {ρ:List Addr} {H H':Hp} {a:α} {o:HO} (r:List Addr),Grow H H'->rel ρ H a o->rel (ρ ++ r) H' a o
  chg:∀ {ρ:List Addr} {H:Hp} {a:α} {o:HO},rel ρ H a o->(∀ xs,o ≠ .tup xs)/\∀ z u,o ≠ .frz z u
  chg2:∀ {ρ:List Addr} {H:Hp} {a:α} {o:HO},rel ρ H a o->(∀ xs,o ≠ .tbl xs)/\∀ z,o ≠ .ext z
  init:∀ ρ H,rel ρ H a0 o0
noncomputable abbrev MM(α:Type):=Ls->Hd->α->Option (α × Hd)
noncomputable def RM1{α:Type}{o0:HO}{a0:α}(B:Acc K α o0 a0)(t:TM)(m:MM α):Prop:=∀ (ρ:List Addr) (σ:St) (H:Hp) (hd:Hd) (ls:Ls) (a a':α) (hd':Hd) (Da:Addr) (o:HO) (Q:Hp->Prop),RH K ρ H hd->RL K ρ H ls σ->Da ∉ ρ->H Da=some o->B.rel ρ H a o ->
  m ls hd a=some (a',hd')->(∀ ρ' H' o',Ext ρ H ρ' H'->RH K ρ' H' hd'->H' Da=some o->B.rel ρ' H' a' o'->Q (upd H' Da o'))->t Da σ H Q
open Classical in
noncomputable def mGo{α:Type}(n:MG)(c:MT)(me:MM α)(g:Gd):List D->Ls->Hd->α->Option (α × Hd)
  | [],_,hd,a=>some (a,hd)
  | d :: r,ls,hd,a=>(n d ls hd).bind λ ls1=>(c ls1 hd).bind λ p=>if p.1=true then(me ls1 p.2 a).bind λ q=>if GOk q.2 g then mGo n c me g r ls1 q.2 q.1 else none else if GOk p.2 g then mGo n c me g r ls1 p.2 a else none
noncomputable def IS{α:Type}(k:Nat)(ix:List Nat)(mi:MI)(n:MG)(c:MT)(a0:α)(me:MM α):Ls->Hd->Option (α × Hd):=λ ls hd=>(mi ls hd).bind λ p=>mGo n c me p.1.2 p.1.1 (Db k ix ls) p.2 a0
noncomputable def RNG{α:Type}{o0:HO}{a0:α}(B:Acc K α o0 a0)(t:TE)(m:Ls->Hd->Option (α × Hd)):Prop:=∀ (ρ:List Addr) (σ:St) (H:Hp) (hd:Hd) (ls:Ls) (Q:VK) (a:α) (hd':Hd),RH K ρ H hd->RL K ρ H ls σ->m ls hd=some (a,hd') ->
  (∀ ρ' H' Da o,Ext ρ H ρ' H'->RH K ρ' H' hd'->H Da=none->Da ∉ ρ'->H' Da=some o->B.rel ρ' H' a o->Q (.ref Da) H')->t σ H Q
theorem Pp{α:Type}{o0:HO}{a0:α}{B:Acc K α o0 a0}{k:Nat}{ix:List Nat}{wi:TI}{g:TG}{tf:TT}{tm:TM}{mi:MI}{n:MG}{c:MT}{m:MM α}(hi:RIt K wi mi)(hg:RGt K g n)(hf:RT K tf c)(he:RM1 B tm m):RNG B (Hs o0 k ix wi g tf tm) (IS k ix mi n c a0 m):=by
  intro ρ σ H hd ls Q out hd' hR hL hm hQ
  obtain⟨⟨⟨ds,gd⟩,h1⟩,e1,hm⟩:=Option.bind_eq_some_iff.mp hm
  dsimp only at hm
  refine hi ρ σ H hd ls _ ds gd h1 hR hL e1 λ ρ1 H1 J x1 R1 G1 Y=>?_
  intro Da hDa
  obtain⟨R1',x1'⟩:=R1.hid (ho:=o0) hDa
  have oD:Da ∉ ρ1:=R1.out hDa
  have nD:H Da=none:=x1.none hR hDa R1
  refine⟨λ i mm σ2 H2=>mm=ds.length - i/\i <= ds.length/\∃ ρ2 ls2 hd2 a2 o2,Ext ρ1 H1 ρ2 H2/\Da ∉ ρ2/\H2 Da=some o2/\RH K ρ2 H2 hd2/\RL K ρ2 H2 ls2 σ2/\B.rel ρ2 H2 a2 o2/\GOk hd2 gd/\mGo n c m gd (ds.drop i) ls2 hd2 a2=some (out,hd'),
    ⟨ds.length,by simp,Nat.zero_le _,ρ1,_,h1,a0,o0,x1',oD,AK,R1',(Mi ((hL.ext hR x1).ext R1 x1')),B.init _ _,G1,by simpa using hm⟩,?_⟩
  rintro i mm σ2 H2 ⟨rfl,hi,ρ2,ls2,hd2,a2,o2,x2,oD2,hD2,R2,L2',r2,G2,hm2⟩
  obtain⟨Y1,Y2⟩:=Y ρ2 H2 hd2 x2 R2 G2 i
  by_cases hlt:i < ds.length
  . obtain⟨go,Y1⟩:=Y1 hlt
    have ed:ds.drop i=ds[i] :: ds.drop (i + 1):=List.drop_eq_getElem_cons hlt
    rw[ed]at hm2
    unfold mGo at hm2
    obtain⟨ls3,e3,hm2⟩:=Option.bind_eq_some_iff.mp hm2
    obtain⟨⟨bb,hd4⟩,e4,hm2⟩:=Option.bind_eq_some_iff.mp hm2
    refine .inr ⟨go,λ σ' H'=>∃ ρ2 ls2 hd2 a2 o2,Ext ρ1 H1 ρ2 H'/\Da ∉ ρ2/\H' Da=some o2/\RH K ρ2 H' hd2/\RL K ρ2 H' ls2 σ'/\B.rel ρ2 H' a2 o2/\GOk hd2 gd/\mGo n c m gd (ds.drop (i + 1)) ls2 hd2 a2=some (out,hd'),λ σ' H' z=>⟨ds.length - (i + 1),by omega,rfl,hlt,z⟩,λ x H3 y=>?_⟩
    obtain⟨ρ3,d3,x3,rfl,R3,e5,r3⟩:=Y1 x H3 y
    have e6:d3=ds[i]:=by
      have:ds[i]? = some ds[i]:=by simp[hlt]
      rw[this]at e5;exact(Option.some.inj e5).symm
    subst e6
    refine hg ρ3 σ2 H3 hd2 ls2 ls3 _ x _ R3 (L2'.ext R2 x3) r3 e3 λ σ4 L4=>?_
    refine hf ρ3 σ4 H3 hd2 ls3 _ bb hd4 R3 L4 e4 λ ρ5 H5 x5 R5=>?_
    have hD3:H3 Da=some o2:=x3.keep Da _ hD2 oD2 (B.chg2 r2).1
    have hD5:H5 Da=some o2:=x5.keep Da _ hD3 oD2 (B.chg2 r2).1
    have out5:Da ∉ ρ5:=x5.outk hD3 oD2
    have y25:=x3.trans R3 x5
    have r5:B.rel ρ5 H5 a2 o2:=by
      obtain⟨r,rfl,fr⟩:=y25.pre
      exact B.mono r (y25.grow R2) r2
    cases bb with
    | false=>
      rw[if_neg Bool.false_ne_true]at hm2 ⊢
      split at hm2
      . next g5=>exact⟨ρ5,ls3,hd4,a2,o2,x2.trans R2 y25,out5,hD5,R5,L4.ext R3 x5,r5,g5,hm2⟩
      . cases hm2
    | true=>
      rw[if_pos rfl]at hm2 ⊢
      obtain⟨⟨z,hd6⟩,e6,hm2⟩:=Option.bind_eq_some_iff.mp hm2
      dsimp only at hm2
      split at hm2
      . next g6=>
        refine he ρ5 σ4 H5 hd4 ls3 a2 z hd6 Da o2 _ R5 (L4.ext R3 x5) out5 hD5 r5 e6 λ ρ6 H6 o6 x6 R6 hD6 r6=>?_
        have out6:Da ∉ ρ6:=x6.outk hD5 out5
        have c6:Chg H6 Da:=⟨λ xs z=>(B.chg r5).1 xs (by rw[hD6]at z;exact Option.some.inj z),λ x u z=>(B.chg r5).2 x u (by rw[hD6]at z;exact Option.some.inj z)⟩
        have gr:Grow H6 (upd H6 Da o6):=Grow.refl.put c6
        have R7:=R6.hputO (ho:=o6) out6 hD6 c6 (B.chg2 r5).1 (B.chg2 r5).2
        have x12:=(x2.trans R2 y25).trans R5 x6
        have ext7:Ext ρ1 H1 ρ6 (upd H6 Da o6):=⟨x12.pre,λ b o q nb t=>by
          have:b ≠ Da:=Ar q hDa
          rw[AF this];exact x12.keep b o q nb t,λ b ps q=>by
          have:b ≠ Da:=Ar q hDa
          rw[AF this];exact x12.tab b ps q⟩
        have L6:=(L4.ext R3 x5).ext R5 x6
        exact⟨ρ6,ls3,hd6,z,o6,ext7,out6,AK,R7,⟨L6.len,λ i d e=>let ⟨v,a,b⟩:=L6.ob i d e;⟨v,a,by simpa using b.mono gr []⟩⟩,by simpa using B.mono [] gr r6,g6,hm2⟩
      . cases hm2
  . have e:i=ds.length:=by omega
    subst e
    rw[List.drop_length]at hm2
    unfold mGo at hm2
    cases hm2
    exact .inl ⟨Y2 rfl,hQ ρ2 H2 Da o2 (x1.trans R1 x2) R2 nD oD2 hD2 r2⟩
noncomputable def Va(K:PySem.W.Frag):Acc K (List (Key × D)) (.dK []) [] where
  rel:=λ ρ H a o=>∃ xs,o=.dK xs/\RKs K ρ H a xs
  mono:=λ r g ⟨xs,e,q⟩=>⟨xs,e,q.mono g r⟩
  chg:=λ⟨xs,e,q⟩=>⟨λ _ z=>(by subst e;cases z),λ _ _ z=>(by subst e;cases z)⟩
  chg2:=λ⟨xs,e,q⟩=>⟨λ _ z=>(by subst e;cases z),λ _ z=>(by subst e;cases z)⟩
  init:=λ ρ H=>⟨[],rfl,by simp[RKs]⟩
open Classical in
noncomputable def IN(mk mv:ME):MM (List (Key × D)):=λ ls hd a=>(mk ls hd).bind λ q=>(mv ls q.2).bind λ z=>(CV q.1).bind λ k=>if DN a.length then some (Dw a k z.1,z.2)else none
theorem UD{tk tv:TE}{mk mv:ME}(hk:RE K tk mk)(hv:RE K tv mv):RM1 (Va K) (K9 tk tv) (IN mk mv):=by
  intro ρ σ H hd ls a a' hd' Da o Q hR hL out hD hrel hm hQ
  obtain⟨⟨d1,h1⟩,e1,hm⟩:=Option.bind_eq_some_iff.mp hm
  obtain⟨⟨d2,h2⟩,e2,hm⟩:=Option.bind_eq_some_iff.mp hm
  obtain⟨k,e4,hm⟩:=Option.bind_eq_some_iff.mp hm
  obtain⟨xs,rfl,r⟩:=hrel
  dsimp only at hm
  split at hm
  . next c=>
    cases hm
    refine hk ρ σ H hd ls _ d1 h1 hR hL e1 λ ρ1 H1 v1 x1 R1 r1=>?_
    refine hv ρ1 σ H1 h1 ls _ d2 _ R1 (hL.ext hR x1) e2 λ ρ2 H2 v2 x2 R2 r2=>?_
    have:=Gx r1 e4
    subst this
    have hD2:H2 Da=some (.dK xs):=x2.keep Da _ (x1.keep Da _ hD out nt) (x1.outk hD out) nt
    have x12:=x1.trans R1 x2
    have r':RKs K ρ2 H2 a xs:=by
      obtain⟨rr,rfl,fr⟩:=x12.pre
      exact r.mono (x12.grow hR) rr
    exact⟨xs,k,hD2,rfl,by rw[r'.len];exact c,hQ ρ2 H2 _ x12 R2 hD2 ⟨_,rfl,r'.put r2⟩⟩
  . cases hm
noncomputable def KA(m:Ls->Hd->Option (List (Key × D) × Hd)):ME:=λ ls hd=>(m ls hd).bind λ p=>some (.mu p.2.length,p.2 ++ [.dic p.1])
theorem SV{t:TE}{m:Ls->Hd->Option (List (Key × D) × Hd)}(h:RNG (Va K) t m):RE K t (KA m):=by
  intro ρ σ H hd ls Q d hd' hR hL hm hQ
  obtain⟨⟨a,h1⟩,e1,hm⟩:=Option.bind_eq_some_iff.mp hm
  cases hm
  refine h ρ σ H hd ls Q a h1 hR hL e1 λ ρ1 H1 Da o x1 R1 nD oD hD ⟨xs,eo,r⟩=>?_
  subst eo
  have R2:=R1.nameD oD hD (λ _ z=>by cases z) (λ _ _ z=>by cases z) r
  have e0:upd H1 Da (.dK xs)=H1:=by
    funext b
    by_cases hb:b=Da
    . subst hb;rw[AK,hD]
    . rw[AF hb]
  rw[e0]at R2
  refine hQ (ρ1 ++ [Da]) H1 _ (x1.name nD) R2 ?_
  simp only[RD]
  exact⟨Da,by rw[<- R1.len];simp,rfl⟩
variable(K:PySem.W.Frag){X:Cx}
theorem QC{k v tg iter:Expr}{ifs:List Expr}{scope:Scope}{pos:Pos}{loc fr:List Str}{ix:List Nat}{wi:TI}{g:TG}{tf:TT}{tk tv:TE}{mi:MI}{n:MG}{mf:MT}{mk mv:ME}(hc:X.calm=true)(S:CSc X scope fr ix)(hi:QI K X tg iter wi mi)
    (hg:∀ s H ex,QG K (cCx X (loc ++ fr) scope s H ex) tg g n) (hf:∀ s H ex,QF K (cCx X (loc ++ fr) scope s H ex) ifs tf mf) (hk:∀ s H ex,QE K (cCx X (loc ++ fr) scope s H ex) k tk mk) (hv:∀ s H ex,QE K (cCx X (loc ++ fr) scope s H ex) v tv mv)
    (hs:∀ x,foldedSetIterable iter X.env x=pure x:=by intro _;rfl):QE K X (.DictComp k v [⟨tg,iter,ifs,0⟩] scope pos) (Hs (.dK []) loc.length ix wi g tf (K9 tk tv)) (KA (IS loc.length ix mi n mf [] (IN mk mv))):=
  ⟨QV hc S hi.p (λ s H ex=>(hg s H ex).p) (λ s H ex=>(hf s H ex).p) (λ s H ex=>(hk s H ex).p) (λ s H ex=>(hv s H ex).p) hs,
   SV (Pp hi.r (hg X.s₀ X.H₀ []).r (hf X.s₀ X.H₀ []).r (UD (hk X.s₀ X.H₀ []).r (hv X.s₀ X.H₀ []).r))⟩
variable{a b:Expr}{ta tb:TE}{ma mb:ME}{pos:Pos}
theorem IF(hu:X.A.units + 1 < cLine)(ha:QE K X a ta ma)(hb:QE K X b tb mb)(hmk:behindInMarks .In b=false:=by rfl):QT K X (.Compare a [.In] [b] pos) (tB (Pb ta tb)) (AI (mOp (Hg false) ma mb)):=⟨OD (V2 hu ha.p hb.p) hmk,U4 (UQ hb.r ha.r)⟩
end
end L2
namespace L2
open PySem PySem.Spec PyProof.Rows
noncomputable def WP{α:Type}(o:Option (α × Hd))(Q:α->Hd->Prop):Prop:=∃ z h,o=some (z,h)/\Q z h
noncomputable abbrev WS(m:MS)(ls:Ls)(hd:Hd)(Q:Fl->Hd->Prop):Prop:=WP (m ls hd) Q
noncomputable abbrev WE(m:ME)(ls:Ls)(hd:Hd)(Q:D->Hd->Prop):Prop:=WP (m ls hd) Q
noncomputable abbrev WT(m:MT)(ls:Ls)(hd:Hd)(Q:Bool->Hd->Prop):Prop:=WP (m ls hd) Q
noncomputable abbrev WA(m:MA)(ls:Ls)(hd:Hd)(Q:List D->Hd->Prop):Prop:=WP (m ls hd) Q
noncomputable abbrev WI(m:MI)(ls:Ls)(hd:Hd)(Q:List D × Gd->Hd->Prop):Prop:=WP (m ls hd) Q
noncomputable abbrev WF(F:List D->Hd->Option (D × Hd))(ds:List D)(hd:Hd)(Q:D->Hd->Prop):Prop:=WP (F ds hd) Q
section
variable{α β:Type}{o:Option (α × Hd)}{Q:α->Hd->Prop}{R:β->Hd->Prop}{ls:Ls}{hd:Hd}{d e:D}
theorem WP.some{z:α}{h:Hd}(q:Q z h):WP (some (z,h)) Q:=⟨z,h,rfl,q⟩
theorem WP.mono{Q':α->Hd->Prop}(h:WP o Q)(k:∀ z h,Q z h->Q' z h):WP o Q':=let ⟨z,x,e,q⟩:=h;⟨z,x,e,k z x q⟩
theorem WP.bind{f:α × Hd->Option (β × Hd)}(h:WP o λ z x=>WP (f (z,x)) R):WP (o.bind f) R:=by
  obtain⟨z,x,e,q⟩:=h
  rw[e];exact q
theorem WP.eq{z:α}{h:Hd}(e:o=Option.some (z,h))(q:Q z h):WP o Q:=⟨z,h,e,q⟩
end
section
variable{ls:Ls}{hd:Hd}{a b:MS}{ma mb mc:ME}{ta tb:MT}{m m1 m2:MA}{n:MG}{ns:MGs}{mi:MI}{d e:D}{i j:Nat}{QS:Fl->Hd->Prop}{QE:D->Hd->Prop}{QT:Bool->Hd->Prop}{QA:List D->Hd->Prop}{QO:Option Int->Hd->Prop}{QI:List D × Gd->Hd->Prop}
noncomputable def Mx(b:MS)(Q:Fl->Hd->Prop):Fl->Hd->Prop
  | .nx l,h=>WS b l h Q
  | f,h=>Q f h
theorem AY(h:WS a ls hd (Mx b QS)):WS (AA a b) ls hd QS:=by
  obtain⟨f,x,e,q⟩:=h
  show WP (AA a b ls hd) QS
  rw[Ih,e]
  cases f <;> first|exact q|exact⟨_,_,rfl,q⟩
theorem AH{l:Ls}{h:Hd}(q:WS b l h QS):Mx b QS (.nx l) h:=q
theorem HP{h:Hd}(q:QS (.rt d) h):Mx b QS (.rt d) h:=q
theorem BO(h:QS (.nx ls) hd):WS Am ls hd QS:=⟨_,_,rfl,h⟩
theorem BW(h:WE ma ls hd λ d x=>QS (.rt d) x):WS (AV ma) ls hd QS:=WP.bind (h.mono λ _ _ q=>WP.some q)
theorem Aw(h:WE ma ls hd λ d x=>QS (.nx (ls.set i (some d))) x):WS (AL i ma) ls hd QS:=by
  obtain⟨d,x,e,q⟩:=h
  exact⟨_,_,by simp only[Ii,e,Option.bind_some,JO,Option.map_some],q⟩
theorem Ts(h:WE ma ls hd λ d x=>∃ l,n d ls x=some l/\QS (.nx l) x):WS (JH ma n) ls hd QS:=by
  obtain⟨d,x,e,l,e2,q⟩:=h
  exact⟨_,_,by simp only[Ii,e,Option.bind_some,e2,Option.map_some],q⟩
theorem EU(h:WE ma ls hd λ _ x=>QS (.nx ls) x):WS (By ma) ls hd QS:=WP.bind (h.mono λ _ _ q=>WP.some q)
theorem RQ(h:WT ta ls hd λ c x=>if c=true then WS a ls x QS else WS b ls x QS):WS (Az ta a b) ls hd QS:=by
  refine WP.bind (h.mono λ c x q=>?_)
  dsimp only
  cases c <;> simpa using q
theorem Ca(h:WT ta ls hd λ c x=>(c=true->WS a ls x QS)/\(c=false->WS b ls x QS)):WS (Az ta a b) ls hd QS:=
  RQ (h.mono λ c x q=>by cases c <;> simp_all)
theorem KI{ix:List Nat}(h:WA m ls hd λ ds x=>ds.length=ix.length/\QS (.nx ((ix.zip ds).foldl (λ l q=>l.set q.1 (some q.2)) ls)) x):WS (NO ix m) ls hd QS:=by
  obtain⟨d,x,e,q,q2⟩:=h
  exact⟨_,_,by simp only[VQ,e,Option.bind_some,q,if_true],q2⟩
noncomputable def WL(n:MG)(b:MS)(g:Gd)(ds:List D)(ls:Ls)(hd:Hd)(Q:Fl->Hd->Prop):Prop:=WP (Bg n b g ds ls hd) Q
theorem EC(h:WI mi ls hd λ p x=>WL n b p.2 p.1 ls x QS):WS (CJ mi n b) ls hd QS:=WP.bind (h.mono λ _ _ q=>q)
noncomputable def Vi(g:Gd)(P:Ls->Hd->Prop)(Q:Fl->Hd->Prop):Fl->Hd->Prop
  | .nx l,h=>GOk h g/\P l h
  | .ct l,h=>GOk h g/\P l h
  | .bk l,h=>Q (.nx l) h
  | .rt d,h=>Q (.rt d) h
theorem C6{g:Gd}(P:List D->Ls->Hd->Prop):∀ {ds:List D} {ls:Ls} {hd:Hd},P ds ls hd ->
    (∀ d r ls hd,P (d :: r) ls hd->∃ ls1,n d ls hd=some ls1/\WS b ls1 hd (Vi g (P r) QS))->(∀ ls hd,P [] ls hd->QS (.nx ls) hd)->WL n b g ds ls hd QS
  | [],ls,hd,h,_,z=>⟨_,_,by unfold Bg;rfl,z _ _ h⟩
  | d :: r,ls,hd,h,k,z=>by
    obtain⟨ls1,e1,f,x,e2,q⟩:=k d r ls hd h
    unfold WL
    unfold Bg
    rw[e1,Option.bind_some,e2,Option.bind_some]
    cases f with
    | nx l=>exact(show GOk x g/\P r l x from q).1 |> λ g1=>by dsimp only;rw[if_pos g1];exact C6 P q.2 k z
    | ct l=>exact(show GOk x g/\P r l x from q).1 |> λ g1=>by dsimp only;rw[if_pos g1];exact C6 P q.2 k z
    | bk l=>exact⟨_,_,rfl,q⟩
    | rt l=>exact⟨_,_,rfl,q⟩
theorem A5(h:ls[i]? = some (some d))(q:QE d hd):WE (A0 i) ls hd QE:=⟨d,hd,by rw[EJ,h],q⟩
theorem BP{i:I}(q:QE (.im i) hd):WE (mC i) ls hd QE:=⟨_,_,rfl,q⟩
theorem Ad{f:D->D->Hd->Option (D × Hd)}(h:WE ma ls hd λ d x=>WE mb ls x λ e y=>WP (f d e y) QE):WE (mOp f ma mb) ls hd QE:=WP.bind (h.mono λ _ _ q=>WP.bind (q.mono λ _ _ q=>q))
theorem Vf(h:WT ta ls hd λ c x=>if c=true then WE ma ls x QE else WE mb ls x QE):WE (mIf ta ma mb) ls hd QE:=by
  refine WP.bind (h.mono λ c x q=>?_)
  dsimp only
  cases c <;> simpa using q
theorem Tw(h:WT ta ls hd λ c x=>(c=true->WE ma ls x QE)/\(c=false->WE mb ls x QE)):WE (mIf ta ma mb) ls hd QE:=
  Vf (h.mono λ c x q=>by cases c <;> simp_all)
theorem FR(h:WA m ls hd λ ds x=>C2 ds.length/\QE (BF ds) x):WE (DD m) ls hd QE:=WP.bind (h.mono λ ds x q=>by dsimp only;rw[if_pos q.1];exact WP.some q.2)
theorem Cl(h:WA m ls hd λ ds x=>QE (.mu x.length) (x ++ [.lst ds])):WE (B9 m) ls hd QE:=WP.bind (h.mono λ _ _ q=>WP.some q)
theorem Cm{g:List D->Option D}(h:WA m ls hd λ ds x=>∃ d,g ds=some d/\QE d x):WE (CN g m) ls hd QE:=by
  obtain⟨ds,x,e,d,e2,q⟩:=h
  exact⟨d,x,by simp only[Om,e,Option.bind_some,e2,Option.map_some],q⟩
theorem KO(h:WA m ls hd λ ds x=>WE ma ls x λ e y=>∃ i d,e=.im (.int i)/\atI ds i=some d/\QE d y):WE (Hc m ma) ls hd QE:=by
  obtain⟨ds,x,e,d,y,e2,i,z,rfl,e4,q⟩:=h
  exact⟨z,y,by simp only[VT,e,Option.bind_some,e2,e4,Option.map_some],q⟩
theorem E9{f:List D->Hd->Option (D × Hd)}(h:WA m ls hd λ ds x=>WP (f ds x) QE):WE (mCB f m) ls hd QE:=WP.bind (h.mono λ _ _ q=>q)
theorem Gm{f:D->List D->Hd->Option (D × Hd)}(h:WE ma ls hd λ d x=>(∃ l,Ax x d=some l)/\WA m ls x λ ds y=>WP (f d ds y) QE):WE (mMt f ma m) ls hd QE:=by
  obtain⟨d,x,e,⟨l,hl⟩,q⟩:=h
  unfold WE
  rw[NY,e,Option.bind_some]
  dsimp only
  rw[hl]
  exact WP.bind (q.mono λ _ _ q=>q)
theorem E4{F:List D->Hd->Option (D × Hd)}(h:WA m ls hd λ ds x=>WF F ds x QE):WE (E1 F m) ls hd QE:=WP.bind (h.mono λ _ _ q=>q)
theorem BG(h:WE ma ls hd λ d x=>∃ b,d=.im (.bl b)/\QT b x):WT (AI ma) ls hd QT:=by
  obtain⟨d,x,e,b,rfl,q⟩:=h
  exact⟨b,x,by simp only[HB,e,Option.bind_some],q⟩
theorem KF(h:WE ma ls hd λ d x=>∃ b,Dc x d=some b/\QT b x):WT (Em ma) ls hd QT:=by
  obtain⟨d,x,e,b,e2,q⟩:=h
  exact⟨b,x,by simp only[Ig,e,Option.bind_some,e2,Option.map_some],q⟩
theorem KG(h:WT ta ls hd λ c x=>QT (!c) x):WT (LG ta) ls hd QT:=WP.bind (h.mono λ _ _ q=>WP.some q)
theorem GH(h:WT ta ls hd λ c x=>if c=true then WT tb ls x QT else QT false x):WT (E2 ta tb) ls hd QT:=by
  refine WP.bind (h.mono λ c x q=>?_)
  dsimp only
  cases c
  . exact WP.some (by simpa using q)
  . simpa using q
theorem Jy(h:WT ta ls hd λ c x=>if c=true then QT true x else WT tb ls x QT):WT (mOr ta tb) ls hd QT:=by
  refine WP.bind (h.mono λ c x q=>?_)
  dsimp only
  cases c
  . simpa using q
  . exact WP.some (by simpa using q)
theorem Do(h:QT true hd):WT Dy ls hd QT:=⟨_,_,rfl,h⟩
theorem AM(h:QA [] hd):WA A6 ls hd QA:=⟨_,_,rfl,h⟩
theorem A9(h:WE ma ls hd λ d x=>WA m ls x λ ds y=>QA (d :: ds) y):WA (A2 ma m) ls hd QA:=WP.bind (h.mono λ _ _ q=>WP.bind (q.mono λ _ _ q=>WP.some q))
theorem Dq(h:WA m ls hd λ ds x=>C2 ds.length/\QA ds x):WA (BA m) ls hd QA:=WP.bind (h.mono λ ds x q=>by dsimp only;rw[if_pos q.1];exact WP.some q.2)
theorem S8{k:Int}(e:m ls hd=some ([.im (.int k)],hd))(hk:Gn k)(q:QA (At 0 k.toNat) hd):WA (Hb m) ls hd QA:=⟨_,_,by simp only[VP,e,Option.bind_some,hk,if_true],q⟩
theorem HN(h:WA m ls hd λ ds x=>∃ k,ds=[.im (.int k)]/\Ft k/\QI (At 0 k.toNat,[]) x):WI (EM m) ls hd QI:=by
  obtain⟨ds,x,e,k,rfl,c,q⟩:=h
  exact⟨_,x,by simp only[VV,e,Option.bind_some,c,if_true],q⟩
theorem Ms(h:WA m ls hd λ ds x=>∃ j k,ds=[.im (.int j),.im (.int k)]/\Pq j k/\QI (At j (k - j).toNat,[]) x):WI (Rr m) ls hd QI:=by
  obtain⟨ds,x,e,j,k,rfl,c,q⟩:=h
  exact⟨_,x,by simp only[Tc,e,Option.bind_some,c,if_true],q⟩
theorem Ed(h:WE ma ls hd λ d x=>∃ ds,Ac d=some ds/\QI (ds,[]) x):WI (C1 ma) ls hd QI:=by
  obtain⟨d,x,e,ds,e2,q⟩:=h
  exact⟨_,x,by simp only[VU,e,Option.bind_some,e2,Option.map_some],q⟩
theorem PH(h:WA m ls hd λ ds x=>QI (ds,[]) x):WI (VE m) ls hd QI:=by
  obtain⟨ds,x,e,q⟩:=h
  exact⟨_,x,by simp only[VW,e,Option.map_some],q⟩
theorem KM(h:WE ma ls hd λ d x=>∃ k ds,d=.mu k/\x[k]? = some (.lst ds)/\QI (ds,[(k,ds)]) x):WI (Dz ma) ls hd QI:=by
  obtain⟨d,x,e,k,ds,rfl,e2,q⟩:=h
  exact⟨_,x,by simp only[Ol,e,Option.bind_some,e2],q⟩
theorem C3{k:Nat}{ix:List Nat}(h:WI mi ls hd λ p x=>C2 p.1.length/\WP (BD n ta ma p.2 p.1 (Db k ix ls) x) QA):WA (Bz k ix mi n ta ma) ls hd QA:=WP.bind (h.mono λ p x q=>by dsimp only;rw[if_pos q.1];exact q.2)
theorem KP{g:Gd}(P:List D->List D->Ls->Hd->Prop):∀ {ds es:List D} {ls:Ls} {hd:Hd},P ds es ls hd ->
    (∀ d r es ls hd,P (d :: r) es ls hd->∃ ls1,n d ls hd=some ls1/\WT ta ls1 hd λ c x=>if c=true then WE ma ls1 x λ z y=>GOk y g/\P r (es ++ [z]) ls1 y else GOk x g/\P r es ls1 x) ->
    WP (BD n ta ma g ds ls hd) λ zs x=>∃ ls',P [] (es ++ zs) ls' x
  | [],es,ls,hd,h,k=>⟨_,_,by unfold BD;rfl,ls,by simpa using h⟩
  | d :: r,es,ls,hd,h,k=>by
    obtain⟨ls1,e1,c,x,e2,q⟩:=k d r es ls hd h
    unfold BD
    rw[e1,Option.bind_some,e2,Option.bind_some]
    cases c with
    | true=>
      rw[if_pos rfl]at q ⊢
      obtain⟨z,y,e3,g3,p3⟩:=q
      obtain⟨zs,y2,e4,ls',p4⟩:=KP P p3 k
      rw[e3,Option.bind_some]
      dsimp only
      rw[if_pos g3,e4]
      exact⟨z :: zs,y2,rfl,ls',by simpa using p4⟩
    | false=>
      rw[if_neg Bool.false_ne_true]at q ⊢
      dsimp only
      rw[if_pos q.1]
      exact KP P q.2 k
theorem FQ{i j:Int}(q:QE (.im (.int (i + j))) hd):WP (B7 (.im (.int i)) (.im (.int j)) hd) QE:=⟨_,_,by simp,q⟩
theorem KJ{i j:Int}(q:QE (.im (.int (i - j))) hd):WP (ES (.im (.int i)) (.im (.int j)) hd) QE:=⟨_,_,by simp,q⟩
theorem Ea{i j:Int}(c:EQ i j)(q:QE (.im (.int (i * j))) hd):WP (Bt (.im (.int i)) (.im (.int j)) hd) QE:=⟨_,_,by simp[c],q⟩
theorem ED{i j:Int}(c:ER j)(q:QE (.im (.int (i % j))) hd):WP (De (.im (.int i)) (.im (.int j)) hd) QE:=⟨_,_,by simp[c],q⟩
theorem Ip{i j:Int}(c:KD j)(q:QE (.im (.int (i / j))) hd):WP (Gz (.im (.int i)) (.im (.int j)) hd) QE:=⟨_,_,by simp[c],q⟩
theorem Mp{i j:Int}(q:QE (.im (.bl (decide (i < j)))) hd):WP (gLt (.im (.int i)) (.im (.int j)) hd) QE:=⟨_,_,by simp,q⟩
theorem Jz{i j:Int}(q:QE (.im (.bl (decide (i <= j)))) hd):WP (gLe (.im (.int i)) (.im (.int j)) hd) QE:=⟨_,_,by simp,q⟩
theorem Mq{i j:Int}(q:QE (.im (.bl (decide (j < i)))) hd):WP (gGt (.im (.int i)) (.im (.int j)) hd) QE:=⟨_,_,by simp,q⟩
theorem Mr{i j:Int}(q:QE (.im (.bl (decide (j <= i)))) hd):WP (gGe (.im (.int i)) (.im (.int j)) hd) QE:=⟨_,_,by simp,q⟩
theorem GI{i j:Int}(q:QE (.im (.bl (decide (i=j)))) hd):WP (gEq (.im (.int i)) (.im (.int j)) hd) QE:=⟨_,_,by simp,q⟩
theorem FP{i j:Int}(q:QE (.im (.bl (!decide (i=j)))) hd):WP (gNe (.im (.int i)) (.im (.int j)) hd) QE:=⟨_,_,by simp,q⟩
theorem Eb{i j:Str}(q:QE (.im (.bl (decide (i=j)))) hd):WP (gEq (.im (.str i)) (.im (.str j)) hd) QE:=⟨_,_,by simp,q⟩
theorem KK{i j:Str}(q:QE (.im (.bl (!decide (i=j)))) hd):WP (gNe (.im (.str i)) (.im (.str j)) hd) QE:=⟨_,_,by simp,q⟩
theorem Ah{i:Int}{ds:List D}(e1:B2 hd d=some ds)(e2:atI ds i=some e)(q:QE e hd):WP (gIx d (.im (.int i)) hd) QE:=⟨_,_,by rw[WN,e1,Option.bind_some,e2];rfl,q⟩
theorem S3{k:Key}{kvs:List (Key × D)}{z:D}(e1:CO hd d=some kvs)(e2:CV e=some k)(e3:BM kvs k=some z)(q:QE z hd):WP (FG d e hd) QE:=⟨_,_,by rw[Tf,e1,Option.bind_some,e2,Option.bind_some,e3];rfl,q⟩
theorem Tt{k:Key}{neg:Bool}{kvs:List (Key × D)}(e1:CO hd d=some kvs)(e2:CV e=some k)(q:QE (.im (.bl (if neg then !(BM kvs k).isSome else(BM kvs k).isSome))) hd):WP (Hg neg e d hd) QE:=⟨_,_,by unfold Hg;rw[e1,Option.bind_some,e2];rfl,q⟩
theorem Gk{i j:Int}(q:QE (.im (.int (max i j))) hd):WP (ET [.im (.int i),.im (.int j)] hd) QE:=⟨_,_,rfl,by have:(if j > i then j else i)=max i j:=(by split <;> omega);rw[this];exact q⟩
theorem Io{i j:Int}(q:QE (.im (.int (min i j))) hd):WP (Ie [.im (.int i),.im (.int j)] hd) QE:=⟨_,_,rfl,by have:(if j < i then j else i)=min i j:=(by split <;> omega);rw[this];exact q⟩
theorem Dp{tp:Bool}{g:List D->Option D}{ds:List D}{z:D}(e1:(if tp then B2 hd d else Ax hd d)=some ds)(e2:g ds=some z)(q:QE z hd):WP (f1 tp g [d] hd) QE:=⟨_,_,by rw[WO,e1,Option.bind_some,e2];rfl,q⟩
theorem Ec{k:Nat}{x:D}{ds:List D}(e1:hd[k]? = some (.lst ds))(c:DN ds.length)(q:QE (.im .non) (hd.set k (.lst (ds ++ [x])))):WP (BE (.mu k) [x] hd) QE:=⟨_,_,by rw[On,e1];simp only[c,if_true],q⟩
theorem S0{k:Key}{w:Nat}(h:WE mc ls hd λ p x=>WE ma ls x λ q y=>WE mb ls y λ r z=>∃ w k kvs,q=.mu w/\CV r=some k/\z[w]? = some (.dic kvs)/\DN kvs.length/\QS (.nx ls) (z.set w (.dic (Dw kvs k p)))):WS (IR ma mb mc) ls hd QS:=by
  obtain⟨p,x,e1,q,y,e2,r,z,e3,w,k,kvs,rfl,e4,e5,c,qq⟩:=h
  exact⟨_,_,by simp only[Te,e1,Option.bind_some,e2,e3,e4,e5,c,if_true],qq⟩
theorem Gj(h:WE mc ls hd λ p x=>WE ma ls x λ q y=>WE mb ls y λ r z=>∃ w i j ds,q=.mu w/\r=.im (.int i)/\z[w]? = some (.lst ds)/\ixN ds.length i=some j/\QS (.nx ls) (z.set w (.lst (ds.set j p)))):WS (FD ma mb mc) ls hd QS:=by
  obtain⟨p,x,e1,q,y,e2,r,z,e3,w,i,j,ds,rfl,rfl,e5,c,qq⟩:=h
  exact⟨_,_,by simp only[Ta,e1,Option.bind_some,e2,e3,e5,c,Option.map_some],qq⟩
theorem BQ{k n:Nat}{m:MS}{ds:List D}{Q:D->Hd->Prop}(hl:ds.length=k)(h:WS m (ds.map some ++ List.replicate (n - k) none) hd λ f x=>match f with
    | .rt d=>Q d x
    | .nx _=>Q (.im .non) x
    | _=>False):WF (mkF k n m) ds hd Q:=by
  obtain⟨f,x,e,q⟩:=h
  unfold WF mkF
  rw[if_pos hl,e]
  cases f with
  | nx l=>exact⟨_,_,rfl,q⟩
  | rt l=>exact⟨_,_,rfl,q⟩
  | bk l=>exact q.elim
  | ct l=>exact q.elim
theorem B3{F:List D->Hd->Option (D × Hd)}(h:WA m ls hd λ ds x=>BB 0 ds=true/\WF F ds [] λ d _=>∃ i,d=.im i/\QE (.im i) x):WE (AC 0 F m) ls hd QE:=by
  obtain⟨ds,x,e,c,d,y,e2,i,rfl,q⟩:=h
  exact⟨_,_,Gc e c e2,q⟩
end
structure Tap(T:Nat->MO->MO->Prop)(P:List D->Hd->Option (D × Hd)):Prop where
  cl:∀ {k:Nat} {a b:MO},T k a b->clO 2 a=true/\clO 2 b=true
  le:∀ {j k:Nat} {a b:MO},T k a b->j <= k->T j a b
  pick:∀ {k:Nat} {a b:MO} {many:Int},T (k + 1) a b->0 < many->many < 1073741824->∃ r a' b',0 <= r/\r < many/\P [.mu 1,.im (.int many)] [a,b]=some (.im (.int r),[a',b'])/\T k a' b'
section
variable{T:Nat->MO->MO->Prop}{P:List D->Hd->Option (D × Hd)}{a b:MO}{rest:Hd}{ls:Ls}{m:MA}{QE:D->Hd->Prop}{n c:Nat}
theorem Tap.draw(t:Tap T P)(hT:T (n + 1) a b){many:Int}{hd:Hd}(e:m ls hd=some ([.mu 1,.im (.int many)],a :: b :: rest))(h0:0 < many)(h1:many < 1073741824)
    (k:∀ r a' b',T n a' b'->0 <= r->r < many->QE (.im (.int r)) (a' :: b' :: rest)):WE (AC 2 P m) ls hd QE:=by
  obtain⟨r,a',b',p1,p2,e2,hT'⟩:=t.pick hT h0 h1
  refine⟨_,_,Lh (w:=2) (ds:=[.mu 1,.im (.int many)]) (pre:=[a,b]) (pre':=[a',b']) (rest:=rest) (g:=[]) rfl rfl e (by simp) ?_ ?_ (by simpa using e2),k r a' b' hT' p1 p2⟩
  . simp[t.cl hT]
  . simp[t.cl hT']
end
end L2
namespace L2
open PySem PySem.Spec PyProof.Rows
section
variable{K:PySem.W.Frag}{ρ ρ':List Addr}{H H':Hp}{hd hd':Hd}
noncomputable def Ew(w:Nat)(ls:Ls):Ls:=ls.map λ o=>match o with
  | some d=>if clD w d=true then some d else none
  | none=>none
noncomputable def Ex(w:Nat):Fl->Option Fl
  | .nx ls=>some (.nx (Ew w ls))
  | .bk ls=>some (.bk (Ew w ls))
  | .ct ls=>some (.ct (Ew w ls))
  | .rt d=>if clD w d=true then some (.rt d)else none
noncomputable def IM(w:Nat)(m:MS):MS:=λ ls hd=>if hd.length <= w then(m ls hd).bind λ p=>if(p.2.take w).all (clO w)=true then(Ex w p.1).map λ f=>(f,p.2.take w)else none else none
theorem RL.trim{ls:Ls}{σ:St}(h:RL K ρ H ls σ)(w:Nat):RL K (ρ.take w) H (Ew w ls) σ:=by
  refine⟨by simp[Ew,h.len],λ i d e=>?_⟩
  unfold Ew at e
  rw[List.getElem?_map]at e
  cases q:ls[i]? with
  | none=>rw[q]at e;cases e
  | some o=>
    rw[q]at e
    cases o with
    | none=>simp at e
    | some z=>
      simp only[Option.map_some,Option.some.injEq]at e
      split at e
      . next c=>
        cases e
        obtain⟨v,e1,e2⟩:=h.ob i _ q
        exact⟨v,e1,e2.take w c⟩
      . cases e
theorem Ext.trim(x:Ext ρ H ρ' H'){w:Nat}(h:ρ.length <= w):Ext ρ H (ρ'.take w) H':=by
  obtain⟨r,rfl,fr⟩:=x.pre
  refine⟨⟨r.take (w - ρ.length),?_,λ b hb=>fr b (List.mem_of_mem_take hb)⟩,x.keep,x.tab⟩
  rw[List.take_append,List.take_of_length_le h]
theorem SH{t:TS}{m:MS}(w:Nat)(h:RS K t m):RS K t (IM w m):=by
  intro ρ σ H hd ls E f hd' hR hL hm hQ
  unfold IM at hm
  split at hm
  . next hw=>
    obtain⟨⟨f1,h1⟩,e1,hm⟩:=Option.bind_eq_some_iff.mp hm
    dsimp only at hm
    split at hm
    . next c=>
      obtain⟨f2,e2,e3⟩:=Option.map_eq_some_iff.mp hm
      cases e3
      refine h ρ σ H hd ls E f1 h1 hR hL e1 λ ρ1 H1 x1 R1=>?_
      have q:=hQ (ρ1.take w) H1 (x1.trim (by rw[hR.len];exact hw)) (R1.take w c)
      cases f1 with
      | nx l=>simp only[Ex,Option.some.injEq]at e2;subst e2;exact λ σ' L=>q σ' (L.trim w)
      | bk l=>simp only[Ex,Option.some.injEq]at e2;subst e2;exact λ σ' L=>q σ' (L.trim w)
      | ct l=>simp only[Ex,Option.some.injEq]at e2;subst e2;exact λ σ' L=>q σ' (L.trim w)
      | rt d=>
        simp only[Ex]at e2
        split at e2
        . next c2=>cases e2;exact λ v r=>q v (r.take w c2)
        . cases e2
    . cases hm
  . cases hm
theorem Rz{w:Nat}{m:MS}{ls:Ls}{Q:Fl->Hd->Prop}(hw:hd.length <= w)(h:WS m ls hd λ f x=>(x.take w).all (clO w)=true/\∃ f',Ex w f=some f'/\Q f' (x.take w)):WS (IM w m) ls hd Q:=by
  obtain⟨f,x,e,c,f',e2,q⟩:=h
  exact⟨f',x.take w,by unfold IM;rw[if_pos hw,e,Option.bind_some];dsimp only;rw[if_pos c,e2];rfl,q⟩
noncomputable def FZ(m:MS):MS:=λ ls hd=>IM hd.length m ls hd
theorem Pn{t:TS}{m:MS}(h:RS K t m):RS K t (FZ m):=λ ρ σ H hd ls E f hd' hR hL hm hQ=>SH hd.length h ρ σ H hd ls E f hd' hR hL hm hQ
theorem GL(K:PySem.W.Frag){X:Cx}{st:List Stmt}{t:TS}{m:MS}(h:QSs K X st t m):QSs K X st t (FZ m):=⟨h.p,Pn h.r⟩
theorem HL{m:MS}{ls:Ls}{Q:Fl->Hd->Prop}(h:WS m ls hd λ f x=>(x.take hd.length).all (clO hd.length)=true/\∃ f',Ex hd.length f=some f'/\Q f' (x.take hd.length)):WS (FZ m) ls hd Q:=Rz (Nat.le_refl _) h
noncomputable def WB:ME:=λ _ hd=>some (.mu hd.length,hd ++ [.dic []])
theorem Iq{ls:Ls}{Q:D->Hd->Prop}(q:Q (.mu hd.length) (hd ++ [.dic []])):WE WB ls hd Q:=⟨_,_,rfl,q⟩
theorem V0{X:Cx}{j k:Nat}{f:Addr}{fd:FuncData}{ps:List Str}{sp:Sp}{x:Str}{st:Stmt}{p pos:Pos}(F:FnOk X.prog X.w X.K X.mg X.base CX0 j f fd ps sp)(hr:Room k X.A)(D:DefAt X.K X.mg x st f fd ps)
    (hjk:j <= k:=by decide) (hg:Gl X x:=by rfl) (hdb:(x == ("__debug__":Str))=false:=by decide) :
    PE X (.Call (.Name x p) [] [] pos) (EO sp [] E0 C0):=
  QY (F.mono hjk) hr hg D.mg D.fn.kp D.bd .nil Rn hdb
theorem OC(K:PySem.W.Frag){X:Cx}(w:Nat){j k:Nat}{f:Addr}{fd:FuncData}{ps:List Str}{n:Nat}{F:List D->Hd->Option (D × Hd)}{st:Stmt}{x:Str}{p pos:Pos}(G:FnOk X.prog X.w X.K X.mg X.base CX0 j f fd ps (spF K n F))(hr:Room k X.A)(DA:DefAt X.K X.mg x st f fd ps)(hF:∀ ds hd z,F ds hd=some z->ds.length=n)
    (hjk:j <= k:=by decide) (hg:Gl X x:=by rfl) (hdb:(x == ("__debug__":Str))=false:=by decide) :
    QE K X (.Call (.Name x p) [] [] pos) (EO (spF K n F) [] E0 C0) (AC w F A6):=⟨V0 G hr DA hjk hg hdb,Kp Kr hF⟩
end
mutual
theorem Lb{v w:Nat}(h:v <= w):∀ {d:D},clD v d=true->clD w d=true
  | .im i,_=>by simp
  | .mu n,c=>by simp at c ⊢;omega
  | .tm ds,c=>by rw[clD]at c ⊢;exact Ga h c
  | .ro ns,_=>by rw[clD]
theorem Ga{v w:Nat}(h:v <= w):∀ {ds:List D},BB v ds=true->BB w ds=true
  | [],_=>by simp
  | d :: ds,c=>by
    simp only[Ow,Bool.and_eq_true]at c ⊢
    exact⟨Lb h c.1,Ga h c.2⟩
end
theorem Jm{v w:Nat}(h:v <= w):∀ {ds:List (Key × D)},GA v ds=true->GA w ds=true
  | [],_=>by simp[GA]
  | d :: ds,c=>by
    simp only[GA,Bool.and_eq_true]at c ⊢
    exact⟨Lb h c.1,Jm h c.2⟩
theorem Hl{v w:Nat}(h:v <= w){o:MO}(c:clO v o=true):clO w o=true:=by
  cases o with
  | lst ds=>exact Ga h c
  | dic ds=>exact Jm h c
section
variable{T:Nat->MO->MO->Prop}{P:List D->Hd->Option (D × Hd)}{a b:MO}{rest:Hd}{ls:Ls}{m:MA}{QE:D->Hd->Prop}
theorem Tap.callX(t:Tap T P){n c:Nat}(hT:T (n + c) a b)(ex:Hd){w:Nat}{F:List D->Hd->Option (D × Hd)}{as:List D}{hd:Hd}{R:I->Prop}(e:m ls hd=some (.mu 1 :: as,a :: b :: (ex ++ rest)))(hw:w=ex.length + 2)(ha:BB w as=true)(hx:ex.all (clO w)=true)
    (hF:∀ a b,T (n + c) a b->WF F (.mu 1 :: as) (a :: b :: ex) λ d x=>∃ i a' b' g,d=.im i/\R i/\T n a' b'/\x=a' :: b' :: (ex ++ g))
    (k:∀ i a' b',T n a' b'->R i->QE (.im i) (a' :: b' :: (ex ++ rest))):WE (AC w F m) ls hd QE:=by
  subst hw
  have hcl:∀ o,clO 2 o=true->clO (ex.length + 2) o=true:=λ o h=>Hl (by omega) h
  obtain⟨d,x,e2,i,a',b',g,rfl,hR,hT',rfl⟩:=hF a b hT
  refine⟨_,_,Lh (w:=ex.length + 2) (ds:=.mu 1 :: as) (pre:=a :: b :: ex) (pre':=a' :: b' :: ex) (rest:=rest) (g:=g) rfl rfl e (by simp[ha]) ?_ ?_ e2,k i a' b' hT' hR⟩
  . simp[hcl _ (t.cl hT).1,hcl _ (t.cl hT).2];simpa using hx
  . simp[hcl _ (t.cl hT').1,hcl _ (t.cl hT').2];simpa using hx
theorem Tap.call(t:Tap T P){n c:Nat}(hT:T (n + c) a b){F:List D->Hd->Option (D × Hd)}{as:List D}{hd:Hd}{R:I->Prop}(e:m ls hd=some (.mu 1 :: as,a :: b :: rest))(ha:BB 2 as=true)
    (hF:∀ a b,T (n + c) a b->WF F (.mu 1 :: as) [a,b] λ d x=>∃ i a' b' g,d=.im i/\R i/\T n a' b'/\x=a' :: b' :: g)
    (k:∀ i a' b',T n a' b'->R i->QE (.im i) (a' :: b' :: rest)):WE (AC 2 F m) ls hd QE:=
  t.callX hT [] (w:=2) e rfl ha rfl hF k
end
end L2
namespace L2
open PySem PySem.Spec PyProof.Rows
section
variable{ls:Ls}{hd:Hd}{b:MS}{c:MT}{Q:Fl->Hd->Prop}{QE:D->Hd->Prop}
noncomputable def Vh(P:Ls->Hd->Prop)(Q:Fl->Hd->Prop):Fl->Hd->Prop
  | .nx l,h=>P l h
  | .ct l,h=>P l h
  | .bk l,h=>Q (.nx l) h
  | .rt d,h=>Q (.rt d) h
theorem KH(P:Nat->Ls->Hd->Prop){n:Nat}(h:P n ls hd)
    (k:∀ n ls hd,P n ls hd->WT c ls hd λ t x=>if t=true then WS b ls x (Vh (λ l y=>∃ m,m < n/\P m l y) Q)else Q (.nx ls) x):WS (DC c b) ls hd Q:=by
  have go:∀ n ls hd,P n ls hd->∃ j r,B8 c b j ls hd=some r/\Q r.1 r.2:=by
    intro n
    induction n using Nat.strongRecOn with
    | ind n ih=>
      intro ls hd h
      obtain⟨t,x,e1,q⟩:=k n ls hd h
      cases t with
      | false=>
        rw[if_neg Bool.false_ne_true]at q
        exact⟨1,(.nx ls,x),by unfold B8;rw[e1];rfl,q⟩
      | true=>
        rw[if_pos rfl]at q
        obtain⟨f,y,e2,q⟩:=q
        cases f with
        | nx l=>
          obtain⟨m,hm,p⟩:=q
          obtain⟨j,r,e3,q3⟩:=ih m hm l y p
          exact⟨j + 1,r,by unfold B8;rw[e1,Option.bind_some,if_pos rfl,e2];exact e3,q3⟩
        | ct l=>
          obtain⟨m,hm,p⟩:=q
          obtain⟨j,r,e3,q3⟩:=ih m hm l y p
          exact⟨j + 1,r,by unfold B8;rw[e1,Option.bind_some,if_pos rfl,e2];exact e3,q3⟩
        | bk l=>exact⟨1,(.nx l,y),by unfold B8;rw[e1,Option.bind_some,if_pos rfl,e2];rfl,q⟩
        | rt d=>exact⟨1,(.rt d,y),by unfold B8;rw[e1,Option.bind_some,if_pos rfl,e2];rfl,q⟩
  obtain⟨j,⟨f,x⟩,e,q⟩:=go n ls hd h
  exact⟨f,x,Jf e,q⟩
theorem P8{k j:Nat}{i:Int}{ds:List D}{z:D}(e1:hd[k]? = some (.lst ds))(hr:Ft i)(e2:ixN ds.length i=some j)(e3:ds[j]? = some z)(q:QE z (hd.set k (.lst (ds.eraseIdx j)))):WP (GW (.mu k) [.im (.int i)] hd) QE:=⟨_,_,by rw[Qv,e1];simp[hr,e2,e3],q⟩
end
end L2
namespace Bd
open PySem L2
@[reducible] noncomputable def m_steps_at:MS:=(AA (AL 2 (mC (.int 0)))
    (AA (CJ (C1 (A0 0)) (DQ 2 (B1 (AS 3) (B1 (AS 4) DR)))
      (AA (Az (AI (mOp gGt (A0 3) (A0 1)))
      (AV (A0 2))
      Am)
    (AL 2 (A0 4))))
    (AV (A0 2))))
noncomputable def F_steps_at:List D->Hd->Option (D × Hd):=mkF 2 5 m_steps_at
@[reducible] noncomputable def m_cost_at:MS:=(AA (AL 2 (mOp gIx (A0 0) (mC (.int 0))))
    (AA (Az (AI (mOp gEq (A0 2) (mC (.str "steps"))))
      (AV (AC 0 F_steps_at (A2 (mOp gIx (A0 0) (mC (.int 1))) (A2 (A0 1) A6))))
      Am)
    (AA (Az (AI (mOp gEq (A0 2) (mC (.str "ends"))))
      (AV (mOp Bt (mOp gIx (A0 0) (mC (.int 1))) (A0 1)))
      Am)
    (AA (AL 3 (mOp ES (A0 1) (mOp gIx (A0 0) (mC (.int 1)))))
    (AA (Az (AI (mOp gEq (A0 2) (mC (.str "late"))))
      (AV (A0 3))
      Am)
    (AA (Az (AI (mOp gLe (A0 3) (mC (.int 0))))
      (AV (mC (.int 0)))
      Am)
    (AA (Az (AI (mOp gEq (A0 2) (mC (.str "tardy"))))
      (AV (mOp Bt (mOp gIx (A0 0) (mC (.int 2))) (A0 3)))
      Am)
    (AV (mOp gIx (A0 0) (mC (.int 2)))))))))))
noncomputable def F_cost_at:List D->Hd->Option (D × Hd):=mkF 2 4 m_cost_at
end Bd
namespace Bd
open PySem L2
structure Tp where
  cells:List Int
  nx:Int
  lf:Int
  tn:Int
noncomputable def K1(t:Tp):List (Key × D):=[(.inr "cells",.mu 0),(.inr "next",.im (.int t.nx)),(.inr "left",.im (.int t.lf)),(.inr "turn",.im (.int t.tn))]
noncomputable def tp(t:Tp):Hd:=[.lst (t.cells.map λ i=>.im (.int i)),.dic (K1 t)]
@[simp] theorem XJ(t:Tp):(tp t).length=2:=rfl
@[simp] theorem Xy(t:Tp)(r:Hd):(tp t ++ r)[0]? = some (.lst (t.cells.map λ i=>.im (.int i))):=rfl
@[simp] theorem Xx(t:Tp)(r:Hd):(tp t ++ r)[1]? = some (.dic (K1 t)):=rfl
@[simp] theorem tp0(t:Tp):(tp t)[0]? = some (.lst (t.cells.map λ i=>.im (.int i))):=rfl
@[simp] theorem tp1(t:Tp):(tp t)[1]? = some (.dic (K1 t)):=rfl
section
variable(t:Tp)(v:Int)
@[simp] theorem XL:(K1 t).length=4:=rfl
end
theorem Fy:∀ ns:List Int,I.pys (ns.map I.int)=ns.map PyData.int
  | []=>by simp[I.pys]
  | n :: ns=>by simp[I.pys,I.py,Fy ns]
theorem GC(ns:List Int):Bj (ns.map λ i=>D.im (.int i))=some (ns.map I.int):=by
  have:(ns.map λ i=>D.im (.int i))=(ns.map I.int).map D.im:=by rw[List.map_map];rfl
  rw[this];exact allIm_map _
theorem Tg(ns:List Int):PyData.eqv (.list (ns.map PyData.int)) (.list [])=decide (ns=[]):=by
  cases ns <;> simp[PyData.eqv,PyData.eqvAll]
theorem lay_ints(ns:List Int):(PyData.list (ns.map PyData.int)).canLay0=true:=by simp[PyData.canLay0,HK]
theorem Tk(ns:List Int)(hd:Hd)(neg:Bool):Na neg (.list (ns.map PyData.int)) (.list []) hd=some (.im (.bl (if neg then !decide (ns=[])else decide (ns=[]))),hd):=by
  unfold Na
  rw[if_pos,Tg]
  refine⟨lay_ints ns,by simp[PyData.canLay0,PyData.canLayAll0],?_⟩
  have:(PyData.list []).depth <= 1:=by simp[PyData.depth,PyData.depthAll]
  omega
end Bd
namespace Bd
open PySem L2
theorem FB{x:Int}(m:Int)(h:0 < m):0 <= x % m/\x % m < m:=⟨Int.emod_nonneg _ (by omega),Int.emod_lt_of_pos _ h⟩
theorem WV{xs:List Int}(h:xs ≠ [])(n:Int):∃ c,atI (xs.map λ i=>D.im (.int i)) (n % (xs.length:Int))=some (.im (.int c)):=by
  have hl:0 < xs.length:=Fe h
  obtain⟨a,b⟩:=FB (x:=n) (xs.length:Int) (by omega)
  obtain⟨k,hk⟩:=Int.eq_ofNat_of_zero_le a
  have hk':k < xs.length:=by omega
  exact⟨xs[k],Li hk (by simp[hk'])⟩
theorem po1:NJ 10 18:=by unfold NJ;decide
end Bd
namespace Bd
open PySem L2
inductive Cost where
  | late (d:Int)|tardy (d w:Int)|miss (d w:Int)|ends (w:Int)|steps (rows:List (Int × Int))
noncomputable def Fs(r:Int × Int):I:=.tup [.int r.1,.int r.2]
noncomputable def BU:Cost->I
  | .late d=>.tup [.str "late",.int d]
  | .tardy d w=>.tup [.str "tardy",.int d,.int w]
  | .miss d w=>.tup [.str "miss",.int d,.int w]
  | .ends w=>.tup [.str "ends",.int w]
  | .steps rows=>.tup [.str "steps",.tup (rows.map Fs)]
noncomputable def BK(t:Int):List (Int × Int)->Int->Int
  | [],told=>told
  | (b,a) :: r,told=>if t < b then told else BK t r a
noncomputable def Cost.at:Cost->Int->Int
  | .late d,t=>t - d
  | .tardy d w,t=>if t - d <= 0 then 0 else w * (t - d)
  | .miss d w,t=>if t - d <= 0 then 0 else w
  | .ends w,t=>w * t
  | .steps rows,t=>BK t rows 0
noncomputable def Cost.wok:Cost->Prop
  | .tardy _ w=>0 <= w/\w <= 1000000
  | .miss _ w=>0 <= w/\w <= 1000000
  | .ends w=>0 <= w/\w <= 1000000
  | _=>True
theorem n1:¬ (("late":Str)="steps"):=by decide +kernel
theorem n2:¬ (("tardy":Str)="steps"):=by decide +kernel
theorem n3:¬ (("miss":Str)="steps"):=by decide +kernel
theorem n4:¬ (("ends":Str)="steps"):=by decide +kernel
theorem n5:¬ (("late":Str)="ends"):=by decide +kernel
theorem n6:¬ (("tardy":Str)="ends"):=by decide +kernel
theorem n7:¬ (("miss":Str)="ends"):=by decide +kernel
theorem n8:¬ (("tardy":Str)="late"):=by decide +kernel
theorem n9:¬ (("miss":Str)="late"):=by decide +kernel
theorem n10:¬ (("miss":Str)="tardy"):=by decide +kernel
theorem Hv(t:Int)(z:D)(hd:Hd):∀ (rows:List (Int × Int)) (told:Int) (x y:Option D),∃ fl x' y',Bg (DQ 2 (B1 (AS 3) (B1 (AS 4) DR))) (AA (Az (AI (mOp gGt (A0 3) (A0 1))) (AV (A0 2)) Am) (AL 2 (A0 4))) [] ((rows.map Fs).map .im)
      [some z,some (.im (.int t)),some (.im (.int told)),x,y] hd=some (fl,hd)/\(fl=.rt (.im (.int (BK t rows told))) ∨ fl=.nx [some z,some (.im (.int t)),some (.im (.int (BK t rows told))),x',y'])
  | [],told,x,y=>⟨_,x,y,LK,.inr rfl⟩
  | (b,a) :: rows,told,x,y=>by
    by_cases h:t < b
    . refine⟨_,x,y,Qi (ls1:=[some z,some (.im (.int t)),some (.im (.int told)),some (.im (.int b)),some (.im (.int a))]) (by simp[Fs]) (v:=.im (.int told)) (hd2:=hd) ?_,.inl ?_⟩
      . simp[h]
      . simp[BK,h]
    . obtain⟨fl,x',y',e,q⟩:=Hv t z hd rows a (some (.im (.int b))) (some (.im (.int a)))
      refine⟨fl,x',y',?_,?_⟩
      . rw[<- e]
        refine GR (ls1:=[some z,some (.im (.int t)),some (.im (.int told)),some (.im (.int b)),some (.im (.int a))]) (by simp[Fs]) ?_ (AZ _)
        simp[h]
      . simpa [BK,h]using q
theorem Lo(rows:List (Int × Int))(t:Int):F_steps_at [.im (.tup (rows.map Fs)),.im (.int t)] []=some (.im (.int (BK t rows 0)),[]):=by
  obtain⟨fl,x',y',e,q⟩:=Hv t (.im (.tup (rows.map Fs))) [] rows 0 none none
  rcases q with rfl|rfl
  . simp[F_steps_at,mkF]at e ⊢
    simp[e]
  . simp[F_steps_at,mkF]at e ⊢
    simp[e]
theorem Ij(c:Cost)(t:Int)(h:c.wok):F_cost_at [.im (BU c),.im (.int t)] []=some (.im (.int (c.at t)),[]):=by
  cases c with
  | late d=>simp[F_cost_at,mkF,BU,n1,n5,Cost.at]
  | tardy d w=>
    have b1:∀ j,EQ w j:=λ j=>Dm (by obtain⟨a,b⟩:=h;omega) (by obtain⟨a,b⟩:=h;omega)
    by_cases q:t - d <= 0
    . simp[F_cost_at,mkF,BU,n2,n6,n8,Cost.at,q]
    . simp[F_cost_at,mkF,BU,n2,n6,n8,Cost.at,q,b1]
  | miss d w=>
    by_cases q:t - d <= 0
    . simp[F_cost_at,mkF,BU,n3,n7,n9,Cost.at,q]
    . simp[F_cost_at,mkF,BU,n3,n7,n9,n10,Cost.at,q]
  | ends w=>
    have b1:∀ j,EQ w j:=λ j=>Dm (by obtain⟨a,b⟩:=h;omega) (by obtain⟨a,b⟩:=h;omega)
    simp[F_cost_at,mkF,BU,n4,Cost.at,b1]
  | steps rows=>
    have:=Gc (m:=A2 (mOp gIx (A0 0) (mC (.int 1))) (A2 (A0 1) A6)) (ls:=[some (.im (BU (.steps rows))),some (.im (.int t)),some (.im (.str "steps")),none]) (hd:=[]) (hd1:=[]) (F:=F_steps_at) (ds:=[.im (.tup (rows.map Fs)),.im (.int t)]) (by simp[BU]) (by simp) (Lo rows t)
    simp[BU]at this
    simp[F_cost_at,mkF,BU,Cost.at,this]
end Bd
namespace Bd
open PySem L2
@[simp high] theorem Xw(t:Tp)(x:MO)(r:Hd):(tp t ++ (x :: r))[2]? = some x:=rfl
@[simp high] theorem Xv(t:Tp)(x y:MO)(r:Hd):(tp t ++ (x :: y :: r))[3]? = some y:=rfl
@[simp high] theorem Xu(t:Tp)(x y z:MO)(r:Hd):(tp t ++ (x :: y :: z :: r))[4]? = some z:=rfl
@[simp high] theorem Xh(t:Tp)(x y:MO)(r:Hd):(tp t ++ (x :: r)).set 2 y=tp t ++ (y :: r):=rfl
@[simp high] theorem Xg(t:Tp)(x y z:MO)(r:Hd):(tp t ++ (x :: y :: r)).set 3 z=tp t ++ (x :: z :: r):=rfl
theorem Jn(w:Nat)(ns:List Int):BB w (ns.map λ i=>D.im (.int i))=true:=by induction ns <;> simp_all [BB,clD]
end Bd
namespace Bd
open PySem L2
end Bd
namespace L2
end L2
namespace Bd
open PySem L2
noncomputable abbrev Ae(ks:List Nat):I:=.tup (ks.map λ k:Nat=>.int k)
end Bd
namespace L2
open PySem PySem.Spec PyProof.Rows
structure OkP(w dp:Nat)(d:PyData):Prop where
  sh:d.showable=true
  lay:d.canLay0=true
  it:d.intsShort 13=true
  dp:d.depth <= dp
  wt:d.weight <= w
structure OkPs(w dp n:Nat)(ds:List PyData):Prop where
  sh:PyData.showableAll ds=true
  lay:PyData.canLayAll0 ds=true
  it:PyData.intsShortAll 13 ds=true
  dp:PyData.depthAll ds <= dp
  wt:PyData.weightAll ds <= n * (w + 1)
noncomputable def sm(i:Int):Prop:=-1000000000 <= i/\i <= 1000000000
theorem OkP.int{i:Int}(h:sm i):OkP 40 0 (.int i):=by
  have h1:i.natAbs < 10 ^ 10:=by obtain⟨a,b⟩:=h;omega
  have h0:i.natAbs < 2 ^ 38:=by obtain⟨a,b⟩:=h;omega
  have lg:i.natAbs.log2 < 38:=by
    by_cases z:i.natAbs=0
    . rw[z];decide
    . exact(Nat.log2_lt z).mpr h0
  refine⟨?_,by simp[PyData.canLay0],?_,by simp[PyData.depth],?_⟩
  . simp only[PyData.showable];exact decide_eq_true (by omega)
  . simp only[PyData.intsShort,PyData.shown]
    refine decide_eq_true ?_
    have h2:=int_text_length_le10 (a:=i) (k:=10) (by decide) h1
    rw[PySem.ofString_length]
    omega
  . simp only[PyData.weight]
    split <;> omega
theorem OkP.mono{w w' dp dp':Nat}{d:PyData}(h:OkP w dp d)(a:w <= w')(b:dp <= dp'):OkP w' dp' d:=⟨h.sh,h.lay,h.it,Nat.le_trans h.dp b,Nat.le_trans h.wt a⟩
theorem OkPs.nil{w dp:Nat}:OkPs w dp 0 []:=⟨by simp[PyData.showableAll],by simp[PyData.canLayAll0],by simp[PyData.intsShortAll],by simp[PyData.depthAll],by simp[PyData.weightAll]⟩
theorem OkPs.cons{w dp n:Nat}{d:PyData}{ds:List PyData}(h:OkP w dp d)(t:OkPs w dp n ds):OkPs w dp (n + 1) (d :: ds):=by
  refine⟨by simp[PyData.showableAll,h.sh,t.sh],by simp[PyData.canLayAll0,h.lay,t.lay],by simp[PyData.intsShortAll,h.it,t.it],?_,?_⟩
  . simp only[PyData.depthAll];exact Nat.max_le.mpr ⟨h.dp,t.dp⟩
  . simp only[PyData.weightAll]
    have:=h.wt;have:=t.wt
    rw[Nat.add_mul];omega
theorem OkPs.tup{w dp n:Nat}{ds:List PyData}(t:OkPs w dp n ds):OkP (n * (w + 1)) (dp + 1) (.tuple ds):=by
  refine⟨?_,?_,?_,?_,?_⟩
  . rw[PyData.showable];exact t.sh
  . rw[PyData.canLay0];exact t.lay
  . rw[PyData.intsShort];exact t.it
  . rw[PyData.depth];have:=t.dp;omega
  . rw[PyData.weight];exact t.wt
theorem ON{w dp:Nat}:∀ {is:List I},(∀ i ∈ is,OkP w dp i.py)->OkPs w dp is.length (I.pys is)
  | [],_=>by simp only[I.pys];exact OkPs.nil
  | i :: is,h=>by simp only[I.pys,List.length_cons];exact(ON λ j hj=>h j (List.mem_cons_of_mem _ hj)).cons (h i List.mem_cons_self)
theorem FY{w dp:Nat}{is:List I}(h:∀ i ∈ is,OkP w dp i.py):OkP (is.length * (w + 1)) (dp + 1) (I.py (.tup is)):=by
  rw[I.py];exact(ON h).tup
theorem JF{i:Int}(h:sm i):OkP 40 0 (I.py (.int i)):=by rw[I.py];exact .int h
end L2
namespace Bd
open PySem L2
theorem T5(x:Str)(h:x="late" ∨ x="tardy" ∨ x="miss" ∨ x="ends" ∨ x="steps"):OkP 40 0 (I.py (.str x)):=by
  rw[I.py]
  rcases h with rfl|rfl|rfl|rfl|rfl <;> exact⟨by decide +kernel,by decide +kernel,by decide +kernel,by decide +kernel,by decide +kernel⟩
end Bd
namespace Bd
open PySem L2
theorem Qz(ns:List Int)(lo hi:Option Int):∃ cs:List Int,Ep (ns.map λ n=>.im (.int n)) lo hi=cs.map λ n=>.im (.int n):=⟨(ns.drop _).take _,by unfold Ep;rw[List.map_take,List.map_drop]⟩
end Bd
namespace Bd
open PySem L2
noncomputable abbrev Ab(ks:List Nat):List D:=ks.map λ k:Nat=>D.im (.int (k:Int))
theorem TQ{n:Nat}{i:Int}(a:0 <= i)(b:i < n):ixN n i=some i.toNat:=by unfold ixN;rw[if_pos a,if_pos b]
theorem IH:∀ {a:List Nat} {k x:Nat},a[k]? = some x->(x :: a.eraseIdx k).Perm a
  | [],k,x,h=>by simp at h
  | y :: r,0,x,h=>by simp at h;subst h;exact .refl _
  | y :: r,k + 1,x,h=>by
    have ih:=IH (a:=r) (k:=k) (x:=x) (by simpa using h)
    exact(List.Perm.swap y x _).trans (ih.cons y)
theorem Jl{α β:Type}(f:α->β):∀ (l:List α) (k:Nat),(l.map f).eraseIdx k=(l.eraseIdx k).map f
  | [],k=>rfl
  | y :: r,0=>rfl
  | y :: r,k + 1=>by simp[Jl f r k]
theorem OH{a b:List Nat}{k x:Nat}(h:a[k]? = some x):(b ++ [x] ++ a.eraseIdx k).Perm (b ++ a):=by
  rw[List.append_assoc]
  exact List.Perm.append_left b (IH h)
end Bd
namespace Bd
open PySem L2
noncomputable def K7(p:Int × Int):I:=.tup [.int p.1,.int p.2]
noncomputable def Along(seq:List Nat)(ps:List (Int × Int)):Prop:=∀ p ∈ ps,∃ i j a b:Nat,i < j/\seq[i]? = some a/\seq[j]? = some b/\p=((a:Int),(b:Int))
theorem OQ{seq:List Nat}{i a:Nat}(h:seq[i]? = some a):atI (Ab seq) (i:Int)=some (.im (.int (a:Int))):=Li rfl (by simp[h])
end Bd
namespace Bd
open PySem L2
theorem Qy(xs:List D)(k:Nat):Ep xs none (some (k:Int))=xs.take k:=by
  unfold Ep
  rw[HT.sIx_none,HT.sIx_nat,Nat.sub_zero,List.drop_zero]
  by_cases h:k <= xs.length
  . rw[Nat.min_eq_left h]
  . rw[Nat.min_eq_right (by omega),List.take_length,List.take_of_length_le (by omega)]
theorem DI(n:Nat):At 0 n=Ab (List.range n):=by
  refine List.ext_getElem? λ i=>?_
  by_cases h:i < n
  . rw[ID h];simp[h]
  . rw[List.getElem?_eq_none (by simp;omega),List.getElem?_eq_none (by simp;omega)]
theorem Along.pok{seq:List Nat}{n:Nat}(hp:seq.Perm (List.range n))(hn:n <= 1000){ps:List (Int × Int)}(h:Along seq ps):∀ p ∈ ps,pok p:=by
  intro p hp'
  obtain⟨i,j,a,b,_,ea,eb,rfl⟩:=h p hp'
  have ha:a < n:=by simpa using hp.mem_iff.mp (List.mem_of_getElem? ea)
  have hb:b < n:=by simpa using hp.mem_iff.mp (List.mem_of_getElem? eb)
  exact⟨by show -1000000000 <= (a:Int);omega,by show(a:Int) <= 1000000000;omega,by show -1000000000 <= (b:Int);omega,by show(b:Int) <= 1000000000;omega⟩
end Bd
namespace Bd
open PySem L2
noncomputable abbrev intD(xs:List Int):List D:=xs.map λ x=>D.im (.int x)
noncomputable abbrev Eg:MS:=(Az (E2 (AI (mOp gEq (A0 5) (A0 4))) (AI (mOp (gIn true) (A0 6) (A0 2))))
      (AA (By (mMt BE (A0 2) (A2 (A0 6) A6)))
    (By (mMt BE (A0 3) (A2 (A0 6) A6))))
      Am)
noncomputable abbrev LQ:MS:=(AA (AL 4 (mMt Hi (A0 3) A6))
    (CJ (FK (A0 0)) (DQ 2 (B1 (AS 5) (B1 (AS 6) DR))) Eg))
@[reducible] noncomputable def m_reached:MS:=(AA (AL 2 (B9 (BA A6)))
    (AA (AL 3 (B9 (BA (A2 (A0 1) A6))))
    (AA (DC (Em (A0 3)) LQ)
    (AV (CN Cd (EW (Dz (A0 2))))))))
noncomputable def F_reached:List D->Hd->Option (D × Hd):=mkF 2 7 m_reached
theorem Of(xs:List Int):DF (intD xs)=some (xs.map V.int):=by
  induction xs with
  | nil=>rfl
  | cons x r ih=>simp[DF,FH]at ih ⊢;exact ih
theorem Qo(x:Int)(xs:List Int):inV (.int x) (xs.map V.int)=decide (x ∈ xs):=by
  unfold inV
  induction xs with
  | nil=>simp
  | cons y r ih=>
    simp only[List.map_cons,List.any_cons,ih,List.mem_cons]
    have:eqV (V.int y) (V.int x)=decide (x=y):=by
      unfold eqV
      by_cases h:x=y
      . subst h;simp
      . have h':¬ y=x:=λ z=>h z.symm
        simp[h,h']
    rw[this,Bool.decide_or]
theorem in_ints{hd:Hd}{d:D}{xs:List Int}(x:Int)(neg:Bool)(h:B2 hd d=some (intD xs)):gIn neg (.im (.int x)) d hd=some (.im (.bl (if neg then !decide (x ∈ xs)else decide (x ∈ xs))),hd):=by
  simp only[gIn,FH,Option.bind_some,h,Of,Option.map_some,Qo]
theorem g0(hd:Hd)(x y:MO):(hd ++ [x,y])[hd.length]? = some x:=by simp
theorem g1(hd:Hd)(x y:MO):(hd ++ [x,y])[hd.length + 1]? = some y:=by simp
theorem t0(hd:Hd)(x y z:MO):(hd ++ [x,y]).set hd.length z=hd ++ [z,y]:=by simp
theorem t1(hd:Hd)(x y z:MO):(hd ++ [x,y]).set (hd.length + 1) z=hd ++ [x,z]:=by simp
theorem GJ(P:D)(hd:Hd)(g:Gd)(G:GOk hd g)(a at_:Int):∀ (qs:List (Int × Int)) (found fresh:List Int) (z5 z6:Option D),found.length + qs.length <= 1000->fresh.length + qs.length <= 10000->∃ (new:List Int) (y5 y6:Option D),
    Bg (DQ 2 (B1 (AS 5) (B1 (AS 6) DR))) Eg g (qs.map Al) [some P,some (.im (.int a)),some (.mu hd.length),some (.mu (hd.length + 1)),some (.im (.int at_)),z5,z6] (hd ++ [.lst (intD found),.lst (intD fresh)]) =
      some (.nx [some P,some (.im (.int a)),some (.mu hd.length),some (.mu (hd.length + 1)),some (.im (.int at_)),y5,y6],hd ++ [.lst (intD (found ++ new)),.lst (intD (fresh ++ new))]) /\
    new.length <= qs.length/\new.Nodup/\(∀ y ∈ new,y ∉ found/\(at_,y) ∈ qs)/\∀ y,(at_,y) ∈ qs->y ∈ found ++ new
  | [],found,fresh,z5,z6,_,_=>⟨[],z5,z6,by simp[LK],by simp,.nil,λ y h=>by simp at h,λ y h=>by simp at h⟩
  | (u,v) :: qs,found,fresh,z5,z6,hf,hr=>by
    simp only[List.length_cons]at hf hr
    have gg:∀ r:Hd,GOk (hd ++ r) g:=λ r=>TZ G r
    have nm:∀ z5 z6:Option D,∀ h:Hd,DQ 2 (B1 (AS 5) (B1 (AS 6) DR)) (Al (u,v)) [some P,some (.im (.int a)),some (.mu hd.length),some (.mu (hd.length + 1)),some (.im (.int at_)),z5,z6] h=some [some P,some (.im (.int a)),some (.mu hd.length),some (.mu (hd.length + 1)),some (.im (.int at_)),some (.im (.int u)),some (.im (.int v))]:=λ z5 z6 h=>by simp[Al]
    have sv:B2 (hd ++ [.lst (intD found),.lst (intD fresh)]) (.mu hd.length)=some (intD found):=by rw[Vk,NQ,g0]
    have gi:=in_ints v true sv
    by_cases c:u=at_/\v ∉ found
    . obtain⟨new,y5,y6,q,l,nd,fr,al⟩:=GJ P hd g G a at_ qs (found ++ [v]) (fresh ++ [v]) (some (.im (.int u))) (some (.im (.int v))) (by simp;omega) (by simp;omega)
      refine⟨v :: new,y5,y6,?_,by simp;omega,?_,λ y hy=>?_,λ y hy=>?_⟩
      . have e1:found ++ v :: new=found ++ [v] ++ new:=by simp
        have e2:fresh ++ v :: new=fresh ++ [v] ++ new:=by simp
        rw[e1,e2,<- q,List.map_cons]
        have f1:DN found.length:=Bk (by omega)
        have f2:DN fresh.length:=Bk (by omega)
        refine GR (nm _ _ _) ?_ (gg _)
        simp only[Eg,LX,LZ,HB,NX,EJ,List.getElem?_cons_zero,List.getElem?_cons_succ,Option.bind_some,JP,LY,c.1,decide_true,if_true,Bool.false_eq_true,if_false,gi,c.2,decide_false,Bool.not_false,Ih,Td,NY,NQ,g0,g1,Mb,LW,On,List.length_map,f1,f2,t0,t1,List.map_append,List.map_cons,List.map_nil]
      . refine List.nodup_cons.mpr ⟨λ h=>(fr v h).1 (by simp),nd⟩
      . rcases List.mem_cons.mp hy with rfl|hy
        . exact⟨c.2,by rw[c.1];exact List.mem_cons_self⟩
        . have:=fr y hy
          exact⟨λ h=>this.1 (by simp[h]),List.mem_cons_of_mem _ this.2⟩
      . rcases List.mem_cons.mp hy with h|h
        . cases h;simp
        . have:=al y h
          simp at this ⊢
          rcases this with h|h|h
          . exact .inl h
          . exact .inr (.inl h)
          . exact .inr (.inr h)
    . obtain⟨new,y5,y6,q,l,nd,fr,al⟩:=GJ P hd g G a at_ qs found fresh (some (.im (.int u))) (some (.im (.int v))) (by omega) (by omega)
      refine⟨new,y5,y6,?_,by simp;omega,nd,λ y hy=>⟨(fr y hy).1,List.mem_cons_of_mem _ (fr y hy).2⟩,λ y hy=>?_⟩
      . rw[<- q,List.map_cons]
        refine GR (nm _ _ _) ?_ (gg _)
        by_cases c1:u=at_
        . have c2:v ∈ found:=Classical.not_not.mp λ h=>c ⟨c1,h⟩
          simp only[Eg,LX,LZ,HB,NX,EJ,List.getElem?_cons_zero,List.getElem?_cons_succ,Option.bind_some,JP,LY,c1,decide_true,if_true,Bool.false_eq_true,if_false,gi,c2,Bool.not_true,Ma]
        . simp only[Eg,LX,LZ,HB,NX,EJ,List.getElem?_cons_zero,List.getElem?_cons_succ,Option.bind_some,JP,LY,c1,decide_false,if_true,Bool.false_eq_true,if_false,Ma]
      . rcases List.mem_cons.mp hy with h|h
        . cases h
          have c2:v ∈ found:=Classical.not_not.mp λ h=>c ⟨rfl,h⟩
          simp[c2]
        . exact al y h
end Bd
namespace L2
open PySem PySem.Spec PyProof.Rows
theorem Co(p:Key × D)(r:List (Key × D))(k:Key):BM (p :: r) k=if p.1=k then some p.2 else BM r k:=by
  unfold BM
  rw[List.find?_cons]
  by_cases e:p.1=k <;> simp[e]
theorem KU(k:Key):∀ kvs:List (Key × D),(kvs.any λ kv=>decide (kv.1=k))=(BM kvs k).isSome
  | []=>rfl
  | p :: r=>by
    rw[List.any_cons,Co]
    by_cases e:p.1=k
    . simp[e]
    . rw[if_neg e,decide_eq_false e,Bool.false_or];exact KU k r
theorem KS(k j:Key)(y:D):∀ kvs:List (Key × D),BM (kvs.map λ kv=>if kv.1=k then(kv.1,y)else kv) j=(BM kvs j).map λ x=>if j=k then y else x
  | []=>rfl
  | p :: r=>by
    have ih:=KS k j y r
    rw[List.map_cons,Co,Co,ih]
    by_cases h:p.1=k
    . rw[if_pos h]
      by_cases e:p.1=j
      . have:j=k:=e.symm.trans h
        simp[e,this]
      . simp[e]
    . rw[if_neg h]
      by_cases e:p.1=j
      . have:¬ j=k:=λ z=>h (e.trans z)
        simp[e,this]
      . simp[e]
theorem JX(k j:Key)(y:D):∀ kvs:List (Key × D),BM kvs k=none->BM (kvs ++ [(k,y)]) j=if j=k then some y else BM kvs j
  | [],_=>by
    rw[List.nil_append,Co]
    by_cases e:k=j
    . subst e;simp
    . have:¬ j=k:=λ z=>e z.symm
      simp[e,this]
  | p :: r,hn=>by
    rw[Co]at hn
    have hk:¬ p.1=k:=λ z=>by rw[if_pos z]at hn;cases hn
    rw[if_neg hk]at hn
    have ih:=JX k j y r hn
    rw[List.cons_append,Co,Co,ih]
    by_cases e:p.1=j
    . have:¬ j=k:=λ z=>hk (e.trans z)
      simp[e,this]
    . simp[e]
theorem PK(kvs:List (Key × D))(k j:Key)(y:D):BM (Dw kvs k y) j=if j=k then some y else BM kvs j:=by
  unfold Dw
  rw[KU]
  by_cases a:(BM kvs k).isSome=true
  . rw[if_pos a,KS]
    by_cases e:j=k
    . subst e
      obtain⟨x,hx⟩:=Option.isSome_iff_exists.mp a
      simp[hx]
    . simp[e]
  . rw[if_neg a]
    exact JX k j y kvs (by simpa using a)
theorem Kv(kvs:List (Key × D))(k:Key)(y:D):(Dw kvs k y).length <= kvs.length + 1:=by
  unfold Dw
  split <;> simp
noncomputable def DicI(kvs:List (Key × D))(g:Nat->Option Int):Prop:=∀ k:Nat,BM kvs (.inl (k:Int))=(g k).map λ v=>.im (.int v)
theorem DicI.put{kvs:List (Key × D)}{g:Nat->Option Int}(h:DicI kvs g)(k:Nat)(v:Int):DicI (Dw kvs (.inl (k:Int)) (.im (.int v))) λ j=>if j=k then some v else g j:=λ j=>by
  rw[PK]
  by_cases e:j=k
  . subst e;simp
  . have:¬ (Sum.inl (j:Int):Key)=Sum.inl (k:Int):=λ z=>e (by have:=Sum.inl.inj z;omega)
    rw[if_neg this];dsimp only;rw[if_neg e];exact h j
section
variable{ls:Ls}{hd:Hd}{QE:D->Hd->Prop}{QI:List D × Gd->Hd->Prop}{ma:ME}{n:MG}{ta:MT}{mi:MI}{m:MA}
theorem HM{d:D}{kvs:List (Key × D)}{g:Nat->Option Int}{k:Nat}{v:Int}(e1:CO hd d=some kvs)(h:DicI kvs g)(e:g k=some v)(q:QE (.im (.int v)) hd):WP (FG d (.im (.int (k:Int))) hd) QE:=
  S3 e1 rfl (by rw[h k,e];rfl) q
theorem Lz{d:D}{kvs:List (Key × D)}{g:Nat->Option Int}{k:Nat}{neg:Bool}(e1:CO hd d=some kvs)(h:DicI kvs g)(q:QE (.im (.bl (if neg then !(g k).isSome else(g k).isSome))) hd):WP (Hg neg (.im (.int (k:Int))) d hd) QE:=
  Tt e1 rfl (by rw[h k,Option.isSome_map];exact q)
theorem KL{d:D}{xs:List Int}{x:Int}{neg:Bool}(e1:B2 hd d=some (Bd.intD xs))(q:QE (.im (.bl (if neg then !decide (x ∈ xs)else decide (x ∈ xs)))) hd):WP (gIn neg (.im (.int x)) d hd) QE:=WP.eq (Bd.in_ints x neg e1) q
theorem S7{mm:Ls->Hd->Option (List (Key × D) × Hd)}(h:WP (mm ls hd) λ kvs x=>QE (.mu x.length) (x ++ [.dic kvs])):WE (KA mm) ls hd QE:=WP.bind (h.mono λ _ _ q=>WP.some q)
theorem P9{α:Type}{k:Nat}{ix:List Nat}{a0:α}{me:MM α}{Q:α->Hd->Prop}(h:WI mi ls hd λ p x=>WP (mGo n ta me p.2 p.1 (Db k ix ls) x a0) Q):WP (IS k ix mi n ta a0 me ls hd) Q:=WP.bind (h.mono λ _ _ q=>q)
theorem KN{α:Type}{me:MM α}{g:Gd}{Q:α->Hd->Prop}(P:List D->α->Ls->Hd->Prop):∀ {ds:List D} {a:α} {ls:Ls} {hd:Hd},P ds a ls hd ->
    (∀ d r a ls hd,P (d :: r) a ls hd->∃ ls1,n d ls hd=some ls1/\WT ta ls1 hd λ c x=>if c=true then WP (me ls1 x a) λ a' y=>GOk y g/\P r a' ls1 y else GOk x g/\P r a ls1 x) ->
    (∀ a ls hd,P [] a ls hd->Q a hd)->WP (mGo n ta me g ds ls hd a) Q
  | [],a,ls,hd,h,k,z=>⟨_,_,by unfold mGo;rfl,z _ _ _ h⟩
  | d :: r,a,ls,hd,h,k,z=>by
    obtain⟨ls1,e1,c,x,e2,q⟩:=k d r a ls hd h
    unfold mGo
    rw[e1,Option.bind_some,e2,Option.bind_some]
    cases c with
    | true=>
      rw[if_pos rfl]at q ⊢
      obtain⟨a',y,e3,g3,p3⟩:=q
      rw[e3,Option.bind_some]
      dsimp only
      rw[if_pos g3]
      exact KN P p3 k z
    | false=>
      rw[if_neg Bool.false_ne_true]at q ⊢
      dsimp only
      rw[if_pos q.1]
      exact KN P q.2 k z
theorem Tu{mk mv:ME}{a:List (Key × D)}{Q:List (Key × D)->Hd->Prop}(h:WE mk ls hd λ d x=>WE mv ls x λ e y=>∃ k,CV d=some k/\DN a.length/\Q (Dw a k e) y):WP (IN mk mv ls hd a) Q:=by
  obtain⟨d,x,e1,e,y,e2,k,e3,c,q⟩:=h
  exact⟨_,_,by simp only[IN,e1,Option.bind_some,e2,e3,c,if_true],q⟩
theorem Vg{g:Gd}{QA:List D->Hd->Prop}(P:List D->List D->Ls->Hd->Prop){ds:List D}{ls:Ls}{hd:Hd}(h:P ds [] ls hd)
    (k:∀ d r es ls hd,P (d :: r) es ls hd->∃ ls1,n d ls hd=some ls1/\WT ta ls1 hd λ c x=>if c=true then WE ma ls1 x λ z y=>GOk y g/\P r (es ++ [z]) ls1 y else GOk x g/\P r es ls1 x)
    (z:∀ es ls hd,P [] es ls hd->QA es hd):WP (BD n ta ma g ds ls hd) QA:=
  (KP P h k).mono λ zs x ⟨ls',q⟩=>z zs ls' x (by simpa using q)
theorem Cn{α:Type}{g:Gd}{QA:List D->Hd->Prop}(inj:α->D)(f:α->Option D)(L:D->Ls->Prop)(l0:Ls){xs:List α}{hd:Hd}(hg:GOk hd g)
    (k:∀ x ∈ xs,∀ ls,ls=l0 ∨ (∃ d,L d ls)->∃ ls1,n (inj x) ls hd=some ls1/\L (inj x) ls1/\WT ta ls1 hd λ c y=>y=hd/\if c=true then ∃ z,f x=some z/\WE ma ls1 hd λ e y=>y=hd/\e=z else f x=none)
    (q:QA (xs.filterMap f) hd):WP (BD n ta ma g (xs.map inj) l0 hd) QA:=by
  have go:∀ (xs':List α) (ls:Ls),(∀ x ∈ xs',x ∈ xs)->(ls=l0 ∨ ∃ d,L d ls)->BD n ta ma g (xs'.map inj) ls hd=some (xs'.filterMap f,hd):=by
    intro xs'
    induction xs' with
    | nil=>intro ls _ _;unfold BD;rfl
    | cons x r ih=>
      intro ls hs hl
      obtain⟨ls1,e1,L1,c,y,e2,rfl,q⟩:=k x (hs x List.mem_cons_self) ls hl
      have ih:=ih ls1 (λ z hz=>hs z (List.mem_cons_of_mem _ hz)) (.inr ⟨_,L1⟩)
      rw[List.map_cons]
      unfold BD
      rw[e1,Option.bind_some,e2,Option.bind_some]
      cases c with
      | true=>
        rw[if_pos rfl]at q
        obtain⟨z,ez,e,y,e3,rfl,rfl⟩:=q
        rw[if_pos rfl,e3,Option.bind_some]
        dsimp only
        rw[if_pos hg,ih,List.filterMap_cons,ez]
        rfl
      | false=>
        rw[if_neg Bool.false_ne_true]at q
        rw[if_neg Bool.false_ne_true]
        dsimp only
        rw[if_pos hg,ih,List.filterMap_cons,q]
  exact⟨_,_,go xs l0 (λ _ h=>h) (.inl rfl),q⟩
end
end L2
namespace L2
open PySem PySem.Spec PyProof.Rows
section
variable{K:PySem.W.Frag}{ρ ρ':List Addr}{H H':Hp}{hd hd':Hd}
noncomputable def Xz(neg:Bool)(ma:ME)(ml:MA):ME:=λ ls hd=>(ma ls hd).bind λ p=>(ml ls p.2).bind λ q=>match p.1 with
  | .im i=>(FH i).bind λ x=>(DF q.1).map λ xs=>(.im (.bl (if neg then !inV x xs else inV x xs)),q.2)
  | _=>none
open Classical in
noncomputable def LF(ml:MA)(mb:ME):MA:=λ ls hd=>(ml ls hd).bind λ p=>(mb ls p.2).bind λ q=>match q.1 with
  | .im (.int k)=>if(0 <= k/\k <= 1000)/\C2 (p.1.length * k.toNat)then some ((List.replicate k.toNat p.1).flatten,q.2)else none
  | _=>none
theorem RDs.rep{ds:List D}{xs:List V}(r:RDs K ρ H ds xs):∀ n,RDs K ρ H (List.replicate n ds).flatten (List.replicate n xs).flatten
  | 0=>by simp[RDs]
  | n + 1=>by
    simp only[List.replicate_succ,List.flatten_cons]
    exact r.app (r.rep n)
theorem UA{ta tb:TE}{ml:MA}{mb:ME}(ha:RN K ta ml)(hb:RE K tb mb):RN K (tOp Pz ta tb) (LF ml mb):=by
  intro ρ σ H hd ls Q d hd' hR hL hm hQ
  obtain⟨⟨d1,h1⟩,e1,hm⟩:=Option.bind_eq_some_iff.mp hm
  obtain⟨⟨d2,h2⟩,e2,hm⟩:=Option.bind_eq_some_iff.mp hm
  dsimp only at hm
  split at hm
  . next k=>
    split at hm
    . next c=>
      cases hm
      refine ha ρ σ H hd ls _ d1 h1 hR hL e1 λ ρ1 H1 a xs x1 R1 na oa ea r1=>?_
      refine hb ρ1 σ H1 h1 ls _ _ _ R1 (hL.ext hR x1) e2 λ ρ2 H2 v2 x2 R2 r2=>?_
      simp only[RD,RI]at r2
      subst r2
      have ea2:=x2.keep a _ ea oa nt
      refine⟨a,k,xs,rfl,rfl,ea2,by omega,by omega,by rw[r1.len];exact c.2,λ p hp=>?_⟩
      obtain⟨R3,x3⟩:=R2.hid (ho:=.lst (List.replicate k.toNat xs).flatten) hp
      have x12:=x1.trans R1 x2
      exact hQ ρ2 _ p _ (x12.trans R2 x3) R3 (x12.none hR hp R2) (R2.out hp) AK (((r1.ext R1 x2).rep k.toNat).ext R2 x3)
    . cases hm
  . cases hm
theorem Ua(K:PySem.W.Frag){X:Cx}{a b:Expr}{ta tb:TE}{ml:MA}{mb:ME}{pos:Pos}(ha:QN K X a ta ml)(hb:QE K X b tb mb):QN K X (.BinOp a .Mult b pos) (tOp Pz ta tb) (LF ml mb):=⟨NK V3 ha.p hb.p,UA ha.r hb.r⟩
end
section
variable{ls:Ls}{hd:Hd}{ma mb:ME}{m ml:MA}{QE:D->Hd->Prop}{QA:List D->Hd->Prop}
end
end L2
namespace L2
open PySem PySem.Spec PyProof.Rows
section
variable{ls:Ls}{hd:Hd}{ma:ME}{n n2:MG}{c c2:MT}{mi mi2:MI}{QE:D->Hd->Prop}
end
noncomputable abbrev blD(bs:List Bool):List D:=bs.map λ b=>D.im (.bl b)
end L2
namespace L2
open PySem PySem.Spec PyProof.Rows
section
variable{X:Cx}{pins:List (Addr × Obj)}{σ:St}{H:Hp}{s:Shared}{A:Around}{E:Value->Shared->Prop}{Q:Value->Shared->Prop}
end
section
variable{K:PySem.W.Frag}{ρ ρ':List Addr}{H H':Hp}{hd hd':Hd}
end
section
variable{ls:Ls}{hd:Hd}{ma mo mi me:ME}{QE:D->Hd->Prop}{QS:Fl->Hd->Prop}
end
end L2
namespace L2
open PySem PySem.Spec PyProof.Rows
section
variable{X:Cx}{a:Expr}{ta:TE}
end
section
variable(K:PySem.W.Frag){X:Cx}{a:Expr}{ta:TE}{ma:ME}{b:Bool}{j:_}{pos pos':Pos}
end
end L2
namespace L2
open PySem PySem.Spec PyProof.Rows
section
variable{X:Cx}
end
section
variable{K:PySem.W.Frag}
end
noncomputable def M9:V->List V->Hp->VK->Prop:=λ x vs H Q=>∃ (l:Addr) (xs:List V) (i:Int) (k:Nat) (y:V),x=.ref l/\vs=[.int i,y]/\i=(k:Int)/\H l=some (.lst xs)/\k <= xs.length/\xs.length < sizeLine/\Q .non (upd H l (.lst (xs.take k ++ y :: xs.drop k)))
theorem OR{X:Cx}:MtM X "list.insert" M9:=by
  intro pins s σ H x vs v us Q I rx rv h
  obtain⟨l,xs,i,k,y,rfl,rfl,hi,hH,hk,hz,q⟩:=h
  cases rx
  obtain⟨u,w,rfl,ru,rw'⟩:=K0 rv
  obtain⟨t,rfl⟩:=ru
  obtain⟨z,its,n,r,hl,e⟩:=I.lstM hH
  have h1:its.toArray.size <= sizeLine:=by rw[List.size_toArray,<- hl];exact z
  have hkl:k <= its.length:=by rw[<- hl];exact hk
  have hf:¬ (!Builtin.List.listFitsIndex i)=true:=by
    have h3:=Fd
    have h4:=Nat.lt_of_le_of_lt hk hz
    rw[fitsIndex_both (k:=i) (by omega) (by omega)];decide
  have M:=AutoSeq1.list_insert_list_int_val_1 l its.toArray n i t w hf
  have M:=M h1
  refine call_meets F.slot_list_insert ⟨_,e,rfl⟩ F.entry_list_insert (F.args_list_insert_3 _ _ _) M ⟨e,?_⟩
  . refine⟨.non,_,I.lset (its':=its.take k ++ w :: its.drop k) hH e ?_ ((r.take k).append (.cons rw' (r.drop k))) ?_,rfl,q⟩
    . show((its.toArray.extract 0 (if i < 0 then(i + (its.toArray.size:Int)).toNat else min i.toNat its.toArray.size)).push w ++ its.toArray.extract (if i < 0 then(i + (its.toArray.size:Int)).toNat else min i.toNat its.toArray.size))=_
      have e1:(if i < 0 then(i + (its.toArray.size:Int)).toNat else min i.toNat its.toArray.size)=k:=by
        rw[if_neg (by omega),hi,Int.toNat_natCast,List.size_toArray];omega
      rw[e1]
      apply Array.ext'
      simp[List.extract_eq_drop_take]
      try exact List.take_of_length_le (by simp)
    . rw[List.length_append,List.length_take,List.length_cons,List.length_drop]
      have:=Nat.succ_le_of_lt hz
      rw[Nat.min_eq_left hk]
      omega
open Classical in
noncomputable def Fg:D->List D->Hd->Option (D × Hd)
  | .mu n,[.im (.int i),y],hd=>match hd[n]? with
    | some (.lst ds)=>if 0 <= i/\i <= ds.length/\DN ds.length then some (.im .non,hd.set n (.lst (ds.take i.toNat ++ y :: ds.drop i.toNat)))else none
    | _=>none
  | _,_,_=>none
section
variable{K:PySem.W.Frag}{ρ ρ':List Addr}{H H':Hp}{hd hd':Hd}
theorem RDs.takeD:∀ {ds:List D} {xs:List V} (k:Nat),RDs K ρ H ds xs->RDs K ρ H (ds.take k) (xs.take k)
  | [],xs,k,h=>by simp only[RDs]at h;subst h;simp[RDs]
  | d :: ds,xs,0,h=>by simp[RDs]
  | d :: ds,xs,k + 1,h=>by
    simp only[RDs]at h
    obtain⟨x,r,rfl,h1,h2⟩:=h
    simp only[List.take_succ_cons,RDs]
    exact⟨x,_,rfl,h1,RDs.takeD k h2⟩
theorem RDs.dropD:∀ {ds:List D} {xs:List V} (k:Nat),RDs K ρ H ds xs->RDs K ρ H (ds.drop k) (xs.drop k)
  | [],xs,k,h=>by simp only[RDs]at h;subst h;simp[RDs]
  | d :: ds,xs,0,h=>by simpa using h
  | d :: ds,xs,k + 1,h=>by
    simp only[RDs]at h
    obtain⟨x,r,rfl,h1,h2⟩:=h
    simp only[List.drop_succ_cons]
    exact RDs.dropD k h2
theorem O3:RM K M9 Fg:=by
  intro ρ H hd d v ds vs Q z hd' hR h1 h2 hf hQ
  unfold Fg at hf
  split at hf
  . next n i y=>
    split at hf
    . next es q=>
      split at hf
      . next c=>
        cases hf
        simp only[RD]at h1
        obtain⟨a,hn,rfl⟩:=h1
        simp only[RDs,RD,RI]at h2
        obtain⟨x,r,rfl,rfl,y',r',rfl,hy,rfl⟩:=h2
        obtain⟨xs,f1,f2⟩:=hR.lst hn q
        have l:=f2.len
        obtain⟨R2,x2⟩:=hR.put hn (o:=.lst (es.take i.toNat ++ y :: es.drop i.toNat)) (ho:=.lst (xs.take i.toNat ++ y' :: xs.drop i.toNat)) ⟨_,rfl,(RDs.takeD _ f2).app (.cons hy (RDs.dropD _ f2))⟩
        exact⟨a,xs,i,i.toNat,y',rfl,rfl,by omega,f1,by omega,by rw[l];exact c.2.2,hQ ρ _ _ x2 R2 (by simp[RD,RI])⟩
      . cases hf
    . cases hf
  . cases hf
end
theorem No{hd:Hd}{k:Nat}{i:Int}{y:D}{ds:List D}{QE:D->Hd->Prop}(e1:hd[k]? = some (.lst ds))(c1:0 <= i)(c2:i <= ds.length)(c3:DN ds.length)(q:QE (.im .non) (hd.set k (.lst (ds.take i.toNat ++ y :: ds.drop i.toNat)))):WP (Fg (.mu k) [.im (.int i),y] hd) QE:=by
  refine⟨_,_,?_,q⟩
  simp only[Fg,e1,c1,c2,c3,and_self,if_true]
end L2
namespace HT
open PySem PySem.Spec PyProof.Rows
section
variable{prog:Program}{w:World}{A:Around}{E:Value->Shared->Prop}{s:Shared}
end
end HT
namespace L2
open PySem PySem.Spec PyProof.Rows
section
variable{X:Cx}
end
section
variable{K:PySem.W.Frag}{ρ ρ':List Addr}{H H':Hp}{hd hd':Hd}
end
section
variable{X:Cx}
theorem Tm{prog:Program}{w:World}{A:Around}{E:Value->Shared->Prop}{s:Shared}{t b:Addr}{vs ws:List Value}{Q:Value->Shared->Prop}(ht:IsTup s.heap t vs.toArray)(hb:IsTup s.heap b ws.toArray)(hv:vs=[])
    (h1:Q (.ref b) s):wpAny (model prog w) A (binaryOp .Add (.ref t) (.ref b)) Q E s:=by
  obtain⟨⟨cls,dd,data,sl⟩,ho,hc,n,hd⟩:=id ht
  obtain⟨⟨cls2,dd2,data2,sl2⟩,ho2,hc2,n2,hd2⟩:=id hb
  simp only at hc hd hc2 hd2
  subst hc hd hc2 hd2
  exact concat_meets ⟨_,ho,rfl⟩ ⟨_,ho2,rfl⟩ noFill_tuple_add seq_tuple_add PySem.F.slot_tuple_add PySem.F.entry_tuple_add (PySem.F.args_tuple_add_2 _ _)
      (tuple_addW0 t b vs.toArray ws.toArray n n2 dd dd2 sl sl2 (by simp[hv])) ⟨ho,ho2,h1⟩
noncomputable def Ri(K:PySem.W.Frag):R2:=λ x y H Q=>∃ a b ys,x=.ref a/\y=.ref b/\SqT K H a []/\SqT K H b ys/\Q (.ref b) H
theorem T4(K:PySem.W.Frag)(hK:X.K=K:=by rfl):OpR X (binaryOp .Add) (Ri K):=by
  subst hK
  intro pins s σ H x y v u Q I rx ry h
  obtain⟨a,b,ys,rfl,rfl,ha,hb,q⟩:=h
  cases rx
  cases ry
  obtain⟨its,r1,p1,_⟩:=I.tuple ha
  obtain⟨its2,r2,p2,_⟩:=I.tuple hb
  have:its=[]:=by cases r1;rfl
  exact Tm p1 p2 this ⟨.ref b,H,I,rfl,q⟩
noncomputable def HA:D->D->Hd->Option (D × Hd):=λ d e hd=>(Ac d).bind λ a=>(Ac e).bind λ b=>if a=[]then some (BF b,hd)else none
theorem Sb{K:PySem.W.Frag}:RB K (Ri K) HA:=by
  intro ρ H hd d e v u Q z hd' hR h1 h2 hf hQ
  unfold HA at hf
  obtain⟨a,e1,hf⟩:=Option.bind_eq_some_iff.mp hf
  obtain⟨b,e2,hf⟩:=Option.bind_eq_some_iff.mp hf
  split at hf
  . next c=>
    cases hf
    subst c
    obtain⟨p,xs,rfl,q1,r1⟩:=h1.tup e1
    obtain⟨p2,ys,rfl,q2,r2⟩:=h2.tup e2
    have:xs=[]:=by simpa [RDs]using r1
    subst this
    exact⟨p,p2,ys,rfl,rfl,q1,q2,hQ ρ H _ .refl hR (Cw q2 r2)⟩
  . cases hf
end
section
variable{X:Cx}
end
end L2
namespace L2
open PySem PySem.Spec PyProof.Rows
section
variable{prog:Program}{w:World}{A:Around}{E:Value->Shared->Prop}{s:Shared}
end
end L2
namespace L2
open PySem PySem.Spec PyProof.Rows
section
variable(K:PySem.W.Frag){X:Cx}
end
section
variable{K:PySem.W.Frag}
end
end L2
namespace L2
noncomputable abbrev Rs:=G9 B7 HA
end L2
namespace L2
open PySem PySem.Spec PyProof.Rows
section
variable{K:PySem.W.Frag}{ρ ρ':List Addr}{H H':Hp}{hd hd':Hd}
noncomputable def NW:List D->Hd->Option (D × Hd)
  | [.im (.int i)],hd=>some (.im (.int i),hd)
  | [.im (.bl b)],hd=>some (.im (.int (if b then 1 else 0)),hd)
  | _,_=>none
theorem UK:RF K (λ xs H Q=>(∃ i,xs=[.int i]/\Q (.int i) H) ∨ ∃ k,xs=[.bl k]/\Q (.int (if k then 1 else 0)) H) NW:=by
  intro ρ H hd ds vs Q z hd' hR h1 hf hQ
  unfold NW at hf
  split at hf
  . cases hf
    simp only[RDs,RD,RI]at h1
    obtain⟨x,r,rfl,rfl,rfl⟩:=h1
    exact .inl ⟨_,rfl,hQ ρ H _ .refl hR (by simp[RD,RI])⟩
  . cases hf
    simp only[RDs,RD,RI]at h1
    obtain⟨x,r,rfl,rfl,rfl⟩:=h1
    exact .inr ⟨_,rfl,hQ ρ H _ .refl hR (by simp[RD,RI])⟩
  . cases hf
end
section
variable{hd:Hd}{QE:D->Hd->Prop}
end
end L2
namespace L2
open PySem PySem.Spec PyProof.Rows PySem.W
section
variable{prog:Program}{w:World}{A:Around}{E:Value->Shared->Prop}{s:Shared}
end
end L2
namespace L2
open PySem PySem.Spec PyProof.Rows PySem.W
section
variable{X:Cx}{pins:List (Addr × Obj)}{σ:St}{H:Hp}{s:Shared}{a:Addr}
end
end L2
namespace L2
open PySem PySem.Spec PyProof.Rows PySem.W
section
variable{X:Cx}{pins:List (Addr × Obj)}{σ:St}{H:Hp}{s:Shared}
theorem FpOk.more{b c:Addr}{o:Obj}(f:FpOk X pins H b)(h:c ≠ b):FpOk X ((c,o) :: pins) H b:=by
  obtain⟨a1,a2,a3,a4,a5,a6⟩:=f
  refine⟨a1,a2,a3,a4,a5,λ p hp=>?_⟩
  rcases List.mem_append.mp hp with q|q
  . exact a6 p (List.mem_append_left _ q)
  . rcases List.mem_cons.mp q with rfl|q
    . exact h
    . exact a6 p (List.mem_append_right _ q)
theorem Inv.repin{b:Addr}{o:Obj}(I:Inv X pins σ H s)(f:FpOk X pins H b)(e:s.heap.get? b=some o)(hd:∀ v,o.data ≠ .cell v):Inv X ((b,o) :: pins) σ H s:=
  I.pins_of λ p hp=>by
    rcases List.mem_cons.mp hp with rfl|hp
    . exact⟨e,f.1,f.2.1,f.2.2.1,hd⟩
    . exact I.pin p (List.mem_append_right _ hp)
end
end L2
namespace L2
open PySem PySem.Spec PyProof.Rows PySem.W
section
variable{X:Cx}{c P:Addr}{scope:Scope}{fr:List Str}{ix:List Nat}{prm:Str}{params:Arguments}{body e:Expr}{p pos lpos kpos:Pos}{te tb:TE}
end
end L2
namespace L2
open PySem PySem.Spec PyProof.Rows PySem.W
noncomputable def HF(K:PySem.W.Frag)(P:Addr)(q:Str)(pos:Pos):Prop:=∃ p':Pos,(P,q,p') ∈ Dr K/\((Dr K).map (·.1)).Nodup/\p'.line=pos.line/\p'.col=pos.col
section
variable{K:PySem.W.Frag}{ρ:List Addr}{H:Hp}{hd:Hd}
theorem KZ{P:Addr}{q:Str}{pos:Pos}{H2:Hp}{ps:Array Value}(R:RH K ρ H hd)(hP:H P=some (.tbl ps))(t:EX P q pos H H2)(TI:HF K P q pos):RH K ρ H2 hd/\Ext ρ H ρ H2:=by
  rcases t with rfl|⟨c,hc,ncP,rfl⟩
  . exact⟨R,.refl⟩
  . obtain⟨p',et,nd,e1,e2⟩:=TI
    have nP:∀ b,b ∈ ρ->b ≠ P:=λ b hb z=>by
      subst z
      rcases R.mut hb with⟨y,w⟩|⟨y,w⟩ <;> (rw[hP]at w;cases w)
    have nc:∀ b u,H b=some u->b ≠ c:=λ b u e=>Ar e hc
    have ex:Ext ρ H ρ (upd (upd H P (.tbl #[rawInt pos.line,rawInt pos.col,.ref c])) c (.ext (cdF c q))):=by
      refine⟨⟨[],by simp,by simp⟩,λ b o e nb nt'=>?_,λ b ps e=>?_⟩
      . rw[AF (nc b _ e),AF (λ z=>by subst z;rw[hP]at e;cases e;exact nt' _ rfl)];exact e
      . by_cases z:b=P
        . subst z;exact⟨_,by rw[AF (nc _ _ hP),AK]⟩
        . exact⟨ps,by rw[AF (nc b _ e),AF z];exact e⟩
    refine⟨⟨R.len,R.nd,λ x hx=>?_,λ n o a h1 h2=>?_⟩,ex⟩
    . by_cases hxP:x.1=P
      . have ex:x=(P,q,p'):=by
          obtain⟨i,hi⟩:=List.mem_iff_getElem?.mp hx
          obtain⟨j,hj⟩:=List.mem_iff_getElem?.mp et
          have i1:((Dr K).map (·.1))[i]? = some P:=by rw[List.getElem?_map,hi];simp[hxP]
          have j1:((Dr K).map (·.1))[j]? = some P:=by rw[List.getElem?_map,hj];rfl
          have:i=j:=(List.getElem?_inj (List.getElem?_eq_some_iff.mp i1).1 nd).mp (i1.trans j1.symm)
          subst this
          exact Option.some.inj (hi.symm.trans hj)
        subst ex
        refine⟨#[rawInt pos.line,rawInt pos.col,.ref c],by rw[AF (nc _ _ hP),AK],.inr ⟨c,?_,AK⟩⟩
        show #[rawInt pos.line,rawInt pos.col,Value.ref c]=#[rawInt p'.line,rawInt p'.col,Value.ref c]
        rw[e1,e2]
      . obtain⟨ps',hx1,hG⟩:=R.tabs x hx
        refine⟨ps',by rw[AF (nc _ _ hx1),AF hxP];exact hx1,?_⟩
        rcases hG with g|⟨c',g1,g2⟩
        . exact .inl g
        . exact .inr ⟨c',g1,by rw[AF (nc _ _ g2),AF (λ z=>by subst z;rw[hP]at g2;cases g2)];exact g2⟩
    . obtain⟨ho,q1,q2⟩:=R.ob n o a h1 h2
      exact⟨ho,by rw[AF (nc a _ q1),AF (nP a (List.mem_of_getElem? h2))];exact q1,by simpa using q2.mono (ex.grow R) []⟩
end
end L2
namespace L2
open PySem PySem.Spec PyProof.Rows PySem.W
structure LamC(K:PySem.W.Frag)(mg:Str->Option Value)(base:Heap)(fd:FuncData)(c P:Addr)(q:Str)(pos:Pos):Prop where
  code:fd.code=.ref c
  hd:CodeHd base c P
  bl:base.BuiltinsAt mg P
  ti:HF K P q pos
theorem Ky{P:Program}{w:World}{K:PySem.W.Frag}{mg:Str->Option Value}{base:Heap}{x:Str}{st:Stmt}{f:Addr}{fd:FuncData}{N ps:List Str}{j:Nat}{m:MS}(DA:DefAt K mg x st f fd ps)(S:FnScope N ps (A8 st))
    (h:∀ (cdv:Value) (A:Around) (outer:List Env) (s:Shared) (H:Hp) (E:XK),fd.code=cdv->Room j (A.deeper (envOfC x (A8 st) s.heap.objs.size f cdv))->∃ t,QSs K (GY CX0 P w K mg base N x (A8 st) f cdv A outer s H E).nox (AU st) t m) :
    FnOk P w K mg base CX0 (j + 1) f fd ps (spF K ps.length (mkF ps.length N.length m)):=by
  obtain⟨F,hmg,bd⟩:=DA
  obtain⟨⟨oc,od,kV,doc,pm,an,cdv,ct,osl,rfl,lk,hcd⟩,kp⟩:=F
  refine Rt lk hcd S (λ vs H Q E h=>h.1) λ A outer s H vs Q E hr hs=>?_
  obtain⟨t,q⟩:=h cdv A outer s H E rfl hr
  exact⟨t,q.p.nox,M4 q.r hs⟩
end L2
namespace HT
open PySem PyProof.Rows
end HT
namespace L2
open PySem PySem.Spec PyProof.Rows
section
variable{X:Cx}
end
section
variable{K:PySem.W.Frag}
end
end L2
namespace HT
open PySem PyProof.Rows
open PySem.AutoSeq1 (wpAny_loadPart')
section
variable{prog:Program}{w:World}{A:Around}{E:Value->Shared->Prop}{s:Shared}
end
end HT
namespace L2
open PySem PySem.Spec PyProof.Rows
end L2
namespace HS
open PySem PyProof.Rows
open PySem.AutoSeq1 (wpAny_loadPart')
open Sem (wp)
noncomputable abbrev st(t:Tok):List (Str × Value):=[(Str.ofString "start",.int 1 t)]
section
variable{prog:Program}{w:World}{A:Around}{E:Value->Shared->Prop}{s:Shared}
end
end HS
namespace L2
open PySem PySem.Spec PyProof.Rows
section
variable{K:PySem.W.Frag}
end
end L2
namespace HR
open PySem PyProof.Rows
open Sem (wp)
section
variable{prog:Program}{w:World}{A:Around}{E:Value->Shared->Prop}{s:Shared}
end
section
variable{prog:Program}{w:World}{A:Around}{R:Result->Shared->Prop}
end
section
variable{prog:Program}{w:World}{A:Around}{R:Result->Shared->Prop}{s:Shared}
end
section
variable{prog:Program}{w:World}{A:Around}{E:Value->Shared->Prop}{s:Shared}
end
end HR
namespace L2
open PySem PySem.Spec PyProof.Rows
section
variable{K:PySem.W.Frag}
end
end L2
namespace L2
open PySem PySem.Spec PyProof.Rows PySem.W
noncomputable def Er(op:Int->Int->Bool)(src:Hp->List V->Prop)(G:Hp->Prop)(tb:TE)(cap:St):Nat->Nat->V->Int->Hp->VK->Prop
  | 0,j,b,_,H,Q=>(∃ xs,src H xs/\xs.length=j)/\Q b H
  | m + 1,j,b,kb,H,Q=>∃ xs x,src H xs/\xs[j]? = some x/\G H/\tb (some x :: cap) H λ k H1=>∃ n:Int,k=.int n/\(if op n kb=true then Er op src G tb cap m (j + 1) x n H1 Q else Er op src G tb cap m (j + 1) b kb H1 Q)
noncomputable def Fi(op:Int->Int->Bool)(src:Hp->List V->Prop)(G:Hp->Prop)(tb:TE)(cap:St)(m:Nat)(H:Hp)(Q:VK):Prop:=
  ∃ xs x,src H xs/\xs[0]? = some x/\G H/\tb (some x :: cap) H λ k H1=>∃ n:Int,k=.int n/\Er op src G tb cap m 1 x n H1 Q
theorem Inv.turnE{X:Cx}{pins:List (Addr × Obj)}{σ:St}{H:Hp}{s:Shared}{b:Addr}{o:Obj}{h':Heap}{t':Nat}(I:Inv X ((b,o) :: pins) σ H s)(f:FpOk X pins H b)(hs:∀ c u,c ≠ b->s.heap.get? c=some u->h'.get? c=some u):Inv X pins σ H { s with heap:=h',toks:=t' }:=by
  have J:Inv X pins σ H s:=I.pins_of λ p hp=>I.pin p (List.mem_append_right _ (List.mem_cons_of_mem _ hp))
  obtain⟨hn,hL,_,h1,h2,h3⟩:=f
  exact J.turned (λ c u n e=>hs c u n e) hn hL h1 h2 h3
section
variable{X:Cx}{pins:List (Addr × Obj)}{σ:St}{l f It S:Addr}{src:Hp->List V->Prop}{G:Hp->Prop}{tb:TE}{cap:St}{Q:VK}{E:Value->Shared->Prop}
theorem Qh(hh:X.A.handled=none)
    (hsrc:∀ pins' H' s' xs,Inv X pins' σ H' s'->src H' xs->∃ its:List Value,Vals xs its/\s'.heap.IsList l its.toArray) (hSI:S ≠ It) (n0:Nat) (hI0:∀ H',H' It=none->FpOk X pins H' It) (hS0:∀ H',H' S=none->FpOk X pins H' S)
    (turn:∀ (pins':List (Addr × Obj)) (H1:Hp) (s1:Shared) (x:V) (u:Value) (Q1:VK),(∀ p ∈ pins,p ∈ pins')->Inv X pins' σ H1 s1->RelV x u->G H1->tb (some x :: cap) H1 Q1->wpAny (model X.prog X.w) X.A.in1 (call (.ref f) [u]) (EP X pins' σ Q1) (λ _ _=>False) s1) :
    ∀ (m:Nat) (j:Nat) (b:V) (vb:Value) (kb:Int) (tk:Tok) (c:Nat) (oI:Obj) (H:Hp) (s:Shared),Inv X ((S,seqObj "list" #[vb,.int kb tk] c) :: (It,oI) :: pins) σ H s->s.heap.IsListIter It l j->RelV b vb ->
      Er (λ n m=>decide (n > m)) src G tb cap m j b kb H Q->codeAny (model X.prog X.w) X.A (.builtin "max.loop" ⟨[.ref It,.ref f,.ref S],[]⟩) (λ r s'=>match r with | .ok (.ret v)=>EP X pins σ Q v s' | .ok _=>False | .error e=>E e s') s:=by
  have hname:(toString "max" ++ toString ".loop":String)="max.loop":=by decide
  intro m
  induction m with
  | zero=>
    intro j b vb kb tk c oI H s J hit rb hgo
    obtain⟨⟨xs,hG,hje⟩,hQ⟩:=hgo
    have nS:=J.pin (S,seqObj "list" #[vb,.int kb tk] c) (List.mem_append_right _ List.mem_cons_self)
    have nI:=J.pin (It,oI) (List.mem_append_right _ (List.mem_cons_of_mem _ List.mem_cons_self))
    refine codeAny_builtin PySem.F.entry_max_loop ?_
    rw[Around.under_plainId PySem.F.plain_max_loop _]
    show wpAny _ X.A.in1 (seqItems? (.ref S) >>= _) _ _ _
    refine wpAny_bind (wpAny_seqItems nS.1 rfl ?_)
    show wpAny _ X.A.in1 (tryCatch (pyNext (.ref It)) _ >>= _) _ _ _
    obtain⟨its,hv,hil⟩:=hsrc _ _ _ _ J hG
    have hlen:=hv.length
    refine wpAny_bind (wpAny_tryCatch (wpAny_pyNext_list_end hh hit hil (by simp;omega) λ h' hk'=>?_))
    have hS':=hk' S _ hSI nS.1
    have s1:=Heap.SameBut.update h' S (Obj.mapSeq λ _=>(#[]:Array Value))
    show wpAny _ X.A.in1 (updateSeq S (λ _=>#[]) >>= _) _ _ _
    refine wpAny_bind ?_
    refine wpAny_updateSeq hS' rfl (wpAny_bind (wpAny_letGo (wpAny_pure ?_)))
    have J1:Inv X ((It,oI) :: pins) σ H s:=J.pins_of λ p hp=>J.pin p (List.mem_append_right _ (List.mem_cons_of_mem _ hp))
    have J2:Inv X pins σ H { s with heap:=h',toks:=s.toks }:=J1.turnE (hI0 H nI.2.1) λ c u n e=>hk' c u n e
    have J3:=(J2.repin (hS0 H nS.2.1) hS' (λ v z=>by cases z)).turnE (t':=s.toks) (hS0 H nS.2.1) λ c u n e=>(s1.2 c n).trans e
    exact⟨b,H,J3,rb,hQ⟩
  | succ m ih=>
    intro j b vb kb tk c oI H s J hit rb hgo
    obtain⟨xs,x,hsr,hxj,hG,hgo⟩:=hgo
    obtain⟨its,hv,hil⟩:=hsrc _ _ _ _ J hsr
    obtain⟨u,hu,ru⟩:=hv.get hxj
    have nS:=J.pin (S,seqObj "list" #[vb,.int kb tk] c) (List.mem_append_right _ List.mem_cons_self)
    have nI:=J.pin (It,oI) (List.mem_append_right _ (List.mem_cons_of_mem _ List.mem_cons_self))
    refine codeAny_builtin PySem.F.entry_max_loop ?_
    rw[Around.under_plainId PySem.F.plain_max_loop _]
    show wpAny _ X.A.in1 (seqItems? (.ref S) >>= _) _ _ _
    refine wpAny_bind (wpAny_seqItems nS.1 rfl ?_)
    show wpAny _ X.A.in1 (tryCatch (pyNext (.ref It)) _ >>= _) _ _ _
    refine wpAny_bind (wpAny_tryCatch (wpAny_pyNext_list_item hit hil (x:=u) (by simpa using hu) λ h' hit' hs'=>?_))
    obtain⟨oI',hoI',hoc,hod⟩:=id hit'
    have hSh':h'.get? S=some (seqObj "list" #[vb,.int kb tk] c):=(hs'.2 S hSI).trans nS.1
    have dI:∀ v,oI'.data ≠ .cell v:=λ v z=>by rw[hod]at z;cases z
    have J1:Inv X ((It,oI) :: pins) σ H s:=J.pins_of λ p hp=>J.pin p (List.mem_append_right _ (List.mem_cons_of_mem _ hp))
    have J2:Inv X pins σ H { s with heap:=h',toks:=s.toks }:=J1.turnE (hI0 H nI.2.1) λ c u n e=>(hs'.2 c n).trans e
    have J3:=(J2.repin (hI0 H nI.2.1) hoI' dI).repin ((hS0 H nS.2.1).more hSI.symm) hSh' (λ v z=>by cases z)
    show wpAny _ X.A.in1 (tryCatch (holding [u] (call (.ref f) [u])) _ >>= _) _ _ _
    refine wpAny_bind (wpAny_tryCatch (wpAny_holding (wpAny_mono (turn _ H _ x u _ (λ p hp=>List.mem_cons_of_mem _ (List.mem_cons_of_mem _ hp)) J3 ru hG hgo) (λ v s2 he=>?_) λ _ _ hF=>hF.elim)))
    obtain⟨k,H2,J4,rk,n,rfl,hgo2⟩:=he
    obtain⟨t2,rfl⟩:=rk
    have nS2:=J4.pin (S,seqObj "list" #[vb,.int kb tk] c) (List.mem_append_right _ List.mem_cons_self)
    have nI2:=J4.pin (It,oI') (List.mem_append_right _ (List.mem_cons_of_mem _ List.mem_cons_self))
    show wpAny _ X.A.in1 (tryCatch (holding [u,.int n t2] (richCompare .Gt (.int n t2) (.int kb tk) >>= _)) _ >>= _) _ _ _
    refine wpAny_bind (wpAny_tryCatch (wpAny_holding (wpAny_bind (richCompare_gives (op:=.Gt) (typeIs_int s2 _ t2) (typeIs_int s2 _ tk) F.slot_int_gt F.entry_int_gt (F.args_int_gt_2 _ _) (gives_int_gt _ _ t2 tk) (λ x=>nomatch x) ?_))))
    refine wpAny_bind (wpAny_holding (wpAny_truthy_bool ?_))
    refine wpAny_bind (wpAny_letGo (wpAny_pure ?_))
    by_cases hb':n > kb
    . have s1:=Heap.SameBut.update s2.heap S (Obj.mapSeq λ _=>#[u,.int n t2])
      obtain⟨c2,hc2⟩:∃ c2,(s2.heap.update S (Obj.mapSeq λ _=>#[u,.int n t2])).get? S=some (seqObj "list" #[u,.int n t2] c2):=⟨_,get?_update_seq nS2.1 λ _=>#[u,.int n t2]⟩
      simp only[hb',decide_true,if_true]at hgo2 ⊢
      refine wpAny_bind ?_
      refine wpAny_updateSeq nS2.1 rfl (wpAny_bind (wpAny_letGo ?_))
      rw[hname]
      have J5:Inv X ((S,seqObj "list" #[vb,.int kb tk] c) :: pins) σ H2 s2:=J4.pins_of λ p hp=>by
        rcases List.mem_cons.mp hp with rfl|hp
        . exact nS2
        . exact J4.pin p (List.mem_append_right _ (List.mem_cons_of_mem _ (List.mem_cons_of_mem _ hp)))
      have J6:Inv X pins σ H2 { s2 with heap:=s2.heap.update S (Obj.mapSeq λ _=>#[u,.int n t2]),toks:=s2.toks }:=J5.turnE (hS0 H2 nS2.2.1) λ c u n e=>(s1.2 c n).trans e
      have gI:(s2.heap.update S (Obj.mapSeq λ _=>#[u,.int n t2])).get? It=some oI':=(s1.2 It hSI.symm).trans nI2.1
      have J7:=(J6.repin (hI0 H2 nI2.2.1) gI dI).repin ((hS0 H2 nS2.2.1).more hSI.symm) hc2 (λ v z=>by cases z)
      exact wpAny_pure ⟨plainId_quiet PySem.F.plain_max_loop _,ih (j + 1) x u n t2 c2 oI' H2 _ J7 ⟨oI',gI,hoc,hod⟩ ru hgo2⟩
    . simp only[hb',decide_false,Bool.false_eq_true,if_false]at hgo2 ⊢
      refine wpAny_bind (wpAny_letGo ?_)
      rw[hname]
      exact wpAny_pure ⟨plainId_quiet PySem.F.plain_max_loop _,ih (j + 1) b vb kb tk c oI' H2 _ J4 ⟨oI',nI2.1,hoc,hod⟩ rb hgo2⟩
theorem T9{H:Hp}{s:Shared}(hh:X.A.handled=none)(I:Inv X pins σ H s)(hsrc:∀ pins' H' s' xs,Inv X pins' σ H' s'->src H' xs->∃ its:List Value,Vals xs its/\s'.heap.IsList l its.toArray)
    (turn:∀ (pins':List (Addr × Obj)) (H1:Hp) (s1:Shared) (x:V) (u:Value) (Q1:VK),(∀ p ∈ pins,p ∈ pins')->Inv X pins' σ H1 s1->RelV x u->G H1->tb (some x :: cap) H1 Q1->wpAny (model X.prog X.w) X.A.in1 (call (.ref f) [u]) (EP X pins' σ Q1) (λ _ _=>False) s1)
    {m:Nat} (h:Fi (λ n m=>decide (n > m)) src G tb cap m H Q):wpAny (model X.prog X.w) X.A (call (.builtin "max") [.ref l] [(Str.ofString "key",.ref f)]) (EP X pins σ Q) E s:=by
  have hname:(toString "max" ++ toString ".loop":String)="max.loop":=by decide
  obtain⟨xs,x,hsr,hx0,hG,hgo⟩:=h
  obtain⟨_,_,hls⟩:=hsrc _ _ _ _ I hsr
  refine kmk_tree PySem.F.kind_max PySem.F.plain_max PySem.F.entry_max (kmk_max_key _ _) ?_
  show wpAny _ X.A.in1 (Builtin.Builtins.bindParams "max" ["key","default"] 0 ⟨[],[(Str.ofString "key",.ref f)]⟩ >>= _) _ _ s
  refine wpAny_bind (wpAny_of_eq (show Builtin.Builtins.bindParams "max" ["key","default"] 0 ⟨[],[(Str.ofString "key",.ref f)]⟩=pure [some (.ref f),none]from rfl) ?_)
  refine wpAny_bind (wpAny_pure ?_)
  refine wpAny_bind (wpAny_pyIter_list hls ?_)
  refine wpAny_bind (wpAny_newList ?_ (Nat.zero_le _))
  rw[hname]
  have hS:(s.heap.push { cls:=.type "list_iterator",data:=.fields #[.ref l,.int 0 0] }).objs.size=s.heap.objs.size + 1:=size_push' ..
  rw[hS]
  have gI:((s.heap.push { cls:=.type "list_iterator",data:=.fields #[.ref l,.int 0 0] }).push (seqObj "list" #[] 0)).get? s.heap.objs.size=some { cls:=.type "list_iterator",data:=.fields #[.ref l,.int 0 0] }:=
    Heap.get?_push_of_some _ (Heap.get?_push_size _ rfl)
  have gS:((s.heap.push { cls:=.type "list_iterator",data:=.fields #[.ref l,.int 0 0] }).push (seqObj "list" #[] 0)).get? (s.heap.objs.size + 1)=some (seqObj "list" #[] 0):=by rw[<- hS];exact Heap.get?_push_size _ rfl
  have kp:∀ b o,s.heap.get? b=some o->((s.heap.push { cls:=.type "list_iterator",data:=.fields #[.ref l,.int 0 0] }).push (seqObj "list" #[] 0)).get? b=some o:=λ b o e=>Heap.get?_push_of_some _ (Heap.get?_push_of_some _ e)
  have I1:Inv X pins σ H { s with heap:=(s.heap.push { cls:=.type "list_iterator",data:=.fields #[.ref l,.int 0 0] }).push (seqObj "list" #[] 0),toks:=s.toks }:=I.kept (t':=s.toks) kp
  have hSI:s.heap.objs.size + 1 ≠ s.heap.objs.size:=Nat.ne_of_gt (Nat.lt_succ_self _)
  have hI0:∀ H',H' s.heap.objs.size=none->FpOk X pins H' s.heap.objs.size:=λ H' hn=>I.fpOk (Nat.le_refl _) hn
  have hS0:∀ H',H' (s.heap.objs.size + 1)=none->FpOk X pins H' (s.heap.objs.size + 1):=λ H' hn=>I.fpOk (Nat.le_succ _) hn
  have nI:H s.heap.objs.size=none:=I.hok.fresh (Nat.le_refl _)
  have nS:H (s.heap.objs.size + 1)=none:=I.hok.fresh (Nat.le_succ _)
  generalize (s.heap.push { cls:=.type "list_iterator",data:=.fields #[.ref l,.int 0 0] }).push (seqObj "list" #[] 0)=h1 at gI gS I1 ⊢
  refine wpAny_pure ⟨plainId_quiet PySem.F.plain_max_loop _,?_⟩
  refine codeAny_builtin PySem.F.entry_max_loop ?_
  rw[Around.under_plainId PySem.F.plain_max_loop _]
  show wpAny _ X.A.in1 (seqItems? (.ref (s.heap.objs.size + 1)) >>= _) _ _ _
  refine wpAny_bind (wpAny_seqItems gS rfl ?_)
  show wpAny _ X.A.in1 (tryCatch (pyNext (.ref s.heap.objs.size)) _ >>= _) _ _ _
  obtain⟨its,hv,hil⟩:=hsrc _ _ _ _ I1 hsr
  obtain⟨u,hu,ru⟩:=hv.get hx0
  refine wpAny_bind (wpAny_tryCatch (wpAny_pyNext_list_item (i:=0) ⟨_,gI,rfl,rfl⟩ hil (x:=u) (by simpa using hu) λ h' hit' hs'=>?_))
  obtain⟨oI',hoI',hoc,hod⟩:=id hit'
  have dI:∀ v,oI'.data ≠ .cell v:=λ v z=>by rw[hod]at z;cases z
  have hSh':h'.get? (s.heap.objs.size + 1)=some (seqObj "list" #[] 0):=(hs'.2 _ hSI).trans gS
  have J2:Inv X pins σ H { s with heap:=h',toks:=s.toks }:=(I1.repin (hI0 H nI) gI (λ v z=>by cases z)).turnE (hI0 H nI) λ c u n e=>(hs'.2 c n).trans e
  have J3:=(J2.repin (hI0 H nI) hoI' dI).repin ((hS0 H nS).more hSI.symm) hSh' (λ v z=>by cases z)
  show wpAny _ X.A.in1 (tryCatch (holding [u] (call (.ref f) [u])) _ >>= _) _ _ _
  refine wpAny_bind (wpAny_tryCatch (wpAny_holding (wpAny_mono (turn _ H _ x u _ (λ p hp=>List.mem_cons_of_mem _ (List.mem_cons_of_mem _ hp)) J3 ru hG hgo) (λ v s2 he=>?_) λ _ _ hF=>hF.elim)))
  obtain⟨k,H2,J4,rk,n,rfl,hgo2⟩:=he
  obtain⟨t2,rfl⟩:=rk
  have nS2:=J4.pin (s.heap.objs.size + 1,seqObj "list" #[] 0) (List.mem_append_right _ List.mem_cons_self)
  have nI2:=J4.pin (s.heap.objs.size,oI') (List.mem_append_right _ (List.mem_cons_of_mem _ List.mem_cons_self))
  have s1:=Heap.SameBut.update s2.heap (s.heap.objs.size + 1) (Obj.mapSeq λ _=>#[u,.int n t2])
  obtain⟨c2,hc2⟩:∃ c2,(s2.heap.update (s.heap.objs.size + 1) (Obj.mapSeq λ _=>#[u,.int n t2])).get? (s.heap.objs.size + 1)=some (seqObj "list" #[u,.int n t2] c2):=⟨_,get?_update_seq nS2.1 λ _=>#[u,.int n t2]⟩
  show wpAny _ X.A.in1 (updateSeq (s.heap.objs.size + 1) (λ _=>#[u,.int n t2]) >>= _) _ _ _
  refine wpAny_bind ?_
  refine wpAny_updateSeq nS2.1 rfl ?_
  rw[hname]
  have J5:Inv X ((s.heap.objs.size + 1,seqObj "list" #[] 0) :: pins) σ H2 s2:=J4.pins_of λ p hp=>by
    rcases List.mem_cons.mp hp with rfl|hp
    . exact nS2
    . exact J4.pin p (List.mem_append_right _ (List.mem_cons_of_mem _ (List.mem_cons_of_mem _ hp)))
  have J6:Inv X pins σ H2 { s2 with heap:=s2.heap.update (s.heap.objs.size + 1) (Obj.mapSeq λ _=>#[u,.int n t2]),toks:=s2.toks }:=J5.turnE (hS0 H2 nS2.2.1) λ c u n e=>(s1.2 c n).trans e
  have gI2:(s2.heap.update (s.heap.objs.size + 1) (Obj.mapSeq λ _=>#[u,.int n t2])).get? s.heap.objs.size=some oI':=(s1.2 _ hSI.symm).trans nI2.1
  have J7:=(J6.repin (hI0 H2 nI2.2.1) gI2 dI).repin ((hS0 H2 nS2.2.1).more hSI.symm) hc2 (λ v z=>by cases z)
  exact wpAny_pure ⟨plainId_quiet PySem.F.plain_max_loop _,Qh hh hsrc hSI 0 hI0 hS0 turn m 1 x u n t2 c2 oI' H2 _ J7 ⟨oI',gI2,hoc,hod⟩ ru hgo2⟩
end
end L2
namespace L2
open PySem PySem.Spec PyProof.Rows PySem.W
noncomputable def N1(K:PySem.W.Frag)(P:Addr)(q:Str)(pos:Pos)(ix:List Nat)(te tb:TE):TE:=λ σ H Q=>te σ H λ v H1=>∃ (a:Addr) (m:Nat) (ps:Array Value),v=.ref a/\H1 P=some (.tbl ps)/\FJ H1 q pos ps /\
  ∀ H2 c,EX P q pos H1 H2->H2 c=some (.ext (cdF c q))->Fi (λ n m=>decide (n > m)) (λ H xs=>SqL K H a xs) (λ H=>H c=some (.ext (cdF c q))) tb (ix.map λ i=>(σ[i]?).join) m H2 Q
section
variable{X:Cx}{c P:Addr}{scope:Scope}{fr:List Str}{ix:List Nat}{prm:Str}{params:Arguments}{body e:Expr}{p pos lpos kpos:Pos}{te tb:TE}
theorem Sw(LA:LamAt X c P)(S:CSc X scope fr ix)(L:LSc scope prm)(hr:Room 3 X.A)(hcm:X.calm=true)(hg:Gl X "max")(hm:X.mg "max"=none)
    (hbind:∀ (cl:List (Str × Addr)) (pm cd ctv us:Value),bindArgs (kla_fn "<lambda>" (X.env.qual ++ "<lambda>") params body scope cl pm cd ctv) ⟨[us],[]⟩=pure [(prm,us)])
    (he:PE X e te) (hb:∀ (f:Addr) (cd:Value) (s:Shared) (H:Hp),PE (lCx X X.A.in1 (prm :: fr) (X.env.qual ++ "<lambda>") scope f cd (Af X.env.cells scope.names []) s H) body tb)
    (hdef:defaultsOf params X.env=([],[]):=by rfl) (hs:starEach [e] X.env=[(false,eval e X.env)]:=by rfl) :
    PE X (.Call (.Name "max" p) [e] [⟨some "key",.Lambda params body scope lpos,kpos⟩] pos) (N1 X.K P (X.env.qual ++ "<lambda>") lpos ix te tb):=by
  intro pins s σ H Q I h
  have PAe:PA X [e] (Bw te C0):=Cg he DT hs
  refine wpAny_Call_Name_kw (GT (u:=.builtin "max") I hg hm bt_max ?_)
  have pl:(backTo pos (starEach [e] X.env)).any (·.1)=false:=by rw[hs];rfl
  refine callWith_builtin_kwB pl rfl (evalArgs_kw2 (env:=X.env) (e:=e) (rest:=[]) (kws:=[⟨some "key",.Lambda params body scope lpos,kpos⟩]) rfl (thn (PAe pos pins s σ H (λ vs H1=>match vs with
    | [v]=>∃ (a:Addr) (m:Nat) (ps:Array Value),v=.ref a/\H1 P=some (.tbl ps)/\FJ H1 (X.env.qual ++ "<lambda>") lpos ps /\
        ∀ H2 c,EX P (X.env.qual ++ "<lambda>") lpos H1 H2->H2 c=some (.ext (cdF c (X.env.qual ++ "<lambda>")))->Fi (λ n m=>decide (n > m)) (λ H xs=>SqL X.K H a xs) (λ H=>H c=some (.ext (cdF c (X.env.qual ++ "<lambda>")))) tb (ix.map λ i=>(σ[i]?).join) m H2 Q
    | _=>False) I h) λ us s1 hq=>?_) hs)
  obtain⟨vs,H1,I1,r,q⟩:=hq
  match vs,q with
  | [v],q=>
  obtain⟨a,m,ps,rfl,hP,hg1,go⟩:=q
  obtain⟨u,rfl,ru⟩:=Bn r
  cases ru
  show wpAny _ _ (evalAll [(do let v <- eval (.Lambda params body scope lpos) X.env;standAt pos;pure v)]) _ _ s1
  refine wpAny_evalAll_cons (wpAny_bind (LL S LA I1 hdef hP hg1 λ f cd ctv H2 s2 I2 M=>wpAny_bind (wpAny_standAt (wpAny_pure (wpAny_evalAll_nil ?_)))))
  show wpAny _ _ (call (.builtin "max") [.ref a] [(Str.ofString "key",.ref f)]) _ _ s2
  obtain⟨c',rfl,hc'⟩:=M.cdc
  have go':=go H2 c' M.step hc'
  have ff:FpOk X pins H2 f:=I1.fpOk M.new M.fre
  have I3:=I2.repin ff M.fn (λ v z=>by cases z)
  refine wpAny_mono (T9 (pins:=(f,_) :: pins) (I3.ok.hd hcm) I3 (λ pins' H' s' xs J hG=>?_) (λ pins' H' s' x u Q1 sub J ru hG hq=>?_) go') (λ v s' hv=>?_) λ _ _ z=>z
  . obtain⟨its,rv,pl2,hz⟩:=J.list hG
    exact⟨its,rv,pl2.isList⟩
  . have pf:=J.pin (f,_) (List.mem_append_right _ (sub _ List.mem_cons_self))
    exact LM (A:=X.A.in1) (f:=f) S L J rfl (hr.in1.mono (by decide)) pf.1 (J.hok c' _ hG).1 (λ us=>hbind _ _ _ _ us) (λ s H=>hb f _ s H) ru hq
  . obtain⟨y,H',J,ry,qy⟩:=hv
    exact⟨y,H',J.pins_of λ p hp=>J.pin p (List.mem_append_right _ (List.mem_cons_of_mem _ hp)),ry,qy⟩
end
end L2
namespace L2
open PySem PySem.Spec PyProof.Rows PySem.W
open Classical in
noncomputable def DM(mb:ME)(cap:Ls)(hd:Hd):List D->Option (List Int)
  | []=>some []
  | d :: r=>match mb (some d :: cap) hd with
    | some (.im (.int n),h)=>match DM mb cap hd r with
      | some ks=>if h=hd then some (n :: ks)else none
      | none=>none
    | _=>none
noncomputable def Bh(op:Int->Int->Bool):List D->List Int->D->Int->D
  | x :: r,n :: ns,b,kb=>if op n kb=true then Bh op r ns x n else Bh op r ns b kb
  | _,_,b,_=>b
noncomputable def GQ(op:Int->Int->Bool)(mi:ME)(ix:List Nat)(mb:ME):ME:=λ ls hd=>(mi ls hd).bind λ p=>(Ax p.2 p.1).bind λ ds=>(DM mb (ix.map λ i=>(ls[i]?).join) p.2 ds).bind λ kz=>match ds,kz with
  | d :: r,n :: ns=>some (Bh op r ns d n,p.2)
  | _,_=>none
section
variable{K:PySem.W.Frag}{hd:Hd}
theorem Hy{ρ:List Addr}{H:Hp}{ls:Ls}{σ:St}{ix:List Nat}{d:D}{v:V}(L:RL K ρ H ls σ)(r:RD K ρ H d v):RL K ρ H (some d :: ix.map λ i=>(ls[i]?).join) (some v :: ix.map λ i=>(σ[i]?).join):=by
  refine⟨by simp,λ i d' ei=>?_⟩
  cases i with
  | zero=>cases ei;exact⟨v,rfl,r⟩
  | succ j=>
    have ei:(ix.map λ i=>(ls[i]?).join)[j]? = some (some d'):=ei
    rw[List.getElem?_map]at ei
    cases qj:ix[j]? with
    | none=>rw[qj]at ei;cases ei
    | some m=>
      rw[qj]at ei
      have ei:(ls[m]?).join=some d':=Option.some.inj ei
      have em:ls[m]? = some (some d'):=by
        cases w:ls[m]? with
        | none=>rw[w]at ei;cases ei
        | some z=>rw[w]at ei;simpa using ei
      obtain⟨v,ev,rv⟩:=L.ob m d' em
      refine⟨v,?_,rv⟩
      show(ix.map λ i=>(σ[i]?).join)[j]? = some (some v)
      rw[List.getElem?_map,qj]
      simp[ev]
theorem JS{op:Int->Int->Bool}{tb:TE}{mb:ME}{ix:List Nat}{q:Str}{c a:Addr}{d1:D}{ds:List D}(hb:RE K tb mb){ls:Ls}{σ:St}(ev:Ax hd d1=some ds):∀ (rs:List D) (ns:List Int) (j:Nat) (bd:D) (bv:V) (kb:Int) (ρ:List Addr) (H:Hp) (Q:VK),ds.drop j=rs->j <= ds.length ->
    DM mb (ix.map λ i=>(ls[i]?).join) hd rs=some ns->RH K ρ H hd->RL K ρ H ls σ->H c=some (.ext (cdF c q))->RD K ρ H d1 (.ref a)->RD K ρ H bd bv ->
    (∀ ρ' H' v,Ext ρ H ρ' H'->RH K ρ' H' hd->RD K ρ' H' (Bh op rs ns bd kb) v->Q v H') ->
    Er op (λ H xs=>SqL K H a xs) (λ H=>H c=some (.ext (cdF c q))) tb (ix.map λ i=>(σ[i]?).join) rs.length j bv kb H Q
  | [],ns,j,bd,bv,kb,ρ,H,Q,hr,hj,e,R,L,hc,r1,rb,k=>by
    obtain⟨a',xs,ea,sq,rs⟩:=RD.lst R r1 ev
    cases ea
    have hl:=rs.len
    have hd0:=congrArg List.length hr
    simp at hd0
    refine⟨⟨xs,sq,by omega⟩,k ρ H bv .refl R ?_⟩
    cases e
    exact rb
  | x :: r,ns,j,bd,bv,kb,ρ,H,Q,hr,hj,e,R,L,hc,r1,rb,k=>by
    obtain⟨a',xs,ea,sq,rs⟩:=RD.lst R r1 ev
    cases ea
    have hjl:j < ds.length:=by
      have:=congrArg List.length hr
      simp at this;omega
    have hxj:ds[j]? = some x:=by
      rw[List.drop_eq_getElem_cons hjl]at hr
      rw[List.getElem?_eq_getElem hjl,(List.cons.inj hr).1]
    have hr':ds.drop (j + 1)=r:=by
      rw[List.drop_eq_getElem_cons hjl]at hr
      exact(List.cons.inj hr).2
    obtain⟨v,hv,rv⟩:=rs.get hxj
    unfold DM at e
    split at e
    . next n h e1=>
      split at e
      . next ks e2=>
        split at e
        . next eh=>
          cases e
          rw[eh]at e1
          refine⟨xs,v,sq,hv,hc,hb ρ _ H _ _ _ (.im (.int n)) _ R (Hy L rv) e1 λ ρ1 H1 v1 x1 R1 rk=>?_⟩
          simp only[RD,RI]at rk
          subst rk
          have oc:c ∉ ρ:=λ m=>by rcases R.mut m with⟨y,w⟩|⟨y,w⟩ <;> (rw[hc]at w;cases w)
          refine⟨n,rfl,?_⟩
          by_cases hop:op n kb=true
          . rw[if_pos hop]
            refine JS hb ev r ks (j + 1) x v n ρ1 H1 Q hr' hjl e2 R1 (L.ext R x1) (x1.keep c _ hc oc nt) (r1.ext R x1) (rv.ext R x1) λ ρ2 H2 w x2 R2 r2=>k ρ2 H2 w (x1.trans R1 x2) R2 ?_
            rw[Bh,if_pos hop];exact r2
          . rw[if_neg hop]
            refine JS hb ev r ks (j + 1) bd bv kb ρ1 H1 Q hr' hjl e2 R1 (L.ext R x1) (x1.keep c _ hc oc nt) (r1.ext R x1) (rb.ext R x1) λ ρ2 H2 w x2 R2 r2=>k ρ2 H2 w (x1.trans R1 x2) R2 ?_
            rw[Bh,if_neg hop];exact r2
        . cases e
      . cases e
    . cases e
theorem SW{te tb:TE}{mi mb:ME}{P:Addr}{q:Str}{pos:Pos}{ix:List Nat}(hi:RE K te mi)(hb:RE K tb mb)(TI:HF K P q pos):RE K (N1 K P q pos ix te tb) (GQ (λ n m=>decide (n > m)) mi ix mb):=by
  intro ρ σ H hd ls Q d hd' hR hL hm hQ
  obtain⟨⟨d1,h1⟩,e1,hm⟩:=Option.bind_eq_some_iff.mp hm
  obtain⟨ds,e2,hm⟩:=Option.bind_eq_some_iff.mp hm
  obtain⟨kz,e3,hm⟩:=Option.bind_eq_some_iff.mp hm
  dsimp only at hm e2 e3
  split at hm
  . next x r n ns _=>
    cases hm
    refine hi ρ σ H hd ls _ d1 _ hR hL e1 λ ρ1 H1 v1 x1 R1 r1=>?_
    obtain⟨a,xs,rfl,sq,rs⟩:=RD.lst R1 r1 e2
    obtain⟨p',et,_,l1,l2⟩:=id TI
    obtain⟨ps,hP,hG⟩:=R1.tabs (P,q,p') et
    have hG':FJ H1 q pos ps:=by
      rcases hG with g|⟨c,g1,g2⟩
      . exact .inl g
      . refine .inr ⟨c,?_,g2⟩
        rw[g1]
        show #[rawInt p'.line,rawInt p'.col,Value.ref c]=_
        rw[l1,l2]
    refine⟨a,r.length,ps,rfl,hP,hG',λ H2 c step hc=>?_⟩
    obtain⟨R2,x2⟩:=KZ R1 hP step TI
    have x12:=x1.trans R1 x2
    have L2':=hL.ext hR x12
    have r2:=r1.ext R1 x2
    obtain⟨a',xs,ea,sq,rs⟩:=RD.lst R2 r2 e2
    cases ea
    obtain⟨v,hv,rv⟩:=rs.get (i:=0) (d:=x) rfl
    unfold DM at e3
    split at e3
    . next n' h e4=>
      split at e3
      . next ks e5=>
        split at e3
        . next eh=>
          cases e3
          rw[eh]at e4
          refine⟨xs,v,sq,hv,hc,hb ρ1 _ H2 _ _ _ (.im (.int n)) _ R2 (Hy L2' rv) e4 λ ρ3 H3 v3 x3 R3 rk=>?_⟩
          simp only[RD,RI]at rk
          subst rk
          have oc:c ∉ ρ1:=λ m=>by rcases R2.mut m with⟨y,w⟩|⟨y,w⟩ <;> (rw[hc]at w;cases w)
          refine⟨n,rfl,JS hb e2 r ns 1 x v n ρ3 H3 Q rfl (by simp) e5 R3 (L2'.ext R2 x3) (x3.keep c _ hc oc nt) (r2.ext R2 x3) (rv.ext R2 x3) λ ρ4 H4 w x4 R4 r4=>hQ ρ4 H4 w ((x12.trans R2 x3).trans R3 x4) R4 r4⟩
        . cases e3
      . cases e3
    . cases e3
  . cases hm
end
end L2
namespace L2
open PySem PySem.Spec PyProof.Rows PySem.W
section
variable{X:Cx}{pins:List (Addr × Obj)}{σ:St}{l f It S:Addr}{src:Hp->List V->Prop}{G:Hp->Prop}{tb:TE}{cap:St}{Q:VK}{E:Value->Shared->Prop}
end
section
variable{X:Cx}{c P:Addr}{scope:Scope}{fr:List Str}{ix:List Nat}{prm:Str}{params:Arguments}{body e:Expr}{p pos lpos kpos:Pos}{te tb:TE}
end
section
variable{K:PySem.W.Frag}{hd:Hd}
end
theorem Sf(K:PySem.W.Frag){X:Cx}{c P:Addr}{scope:Scope}{fr:List Str}{ix:List Nat}{prm:Str}{params:Arguments}{body e:Expr}{p pos lpos kpos:Pos}{te tb:TE}{mi mb:ME}{k:Nat}(LA:LamAt X c P)(TI:HF K P (X.env.qual ++ "<lambda>") lpos)(S:CSc X scope fr ix)(L:LSc scope prm)(hr:Room k X.A)(h3:3 <= k)(hm:X.mg "max"=none)
    (he:QE K X e te mi) (hb:∀ (f:Addr) (cd:Value) (s:Shared) (H:Hp),QE K (lCx X X.A.in1 (prm :: fr) (X.env.qual ++ "<lambda>") scope f cd (Af X.env.cells scope.names []) s H) body tb mb)
    (hbind:∀ (cl:List (Str × Addr)) (pm cd ctv us:Value),bindArgs (kla_fn "<lambda>" (X.env.qual ++ "<lambda>") params body scope cl pm cd ctv) ⟨[us],[]⟩=pure [(prm,us)])
    (hcm:X.calm=true:=by rfl) (hg:Gl X "max":=by rfl) (hdef:defaultsOf params X.env=([],[]):=by rfl) (hs:starEach [e] X.env=[(false,eval e X.env)]:=by rfl) (hK:X.K=K:=by rfl) :
    QE K X (.Call (.Name "max" p) [e] [⟨some "key",.Lambda params body scope lpos,kpos⟩] pos) (N1 K P (X.env.qual ++ "<lambda>") lpos ix te tb) (GQ (λ n m=>decide (n > m)) mi ix mb):=by
  subst hK
  exact⟨Sw LA S L (hr.mono h3) hcm hg hm hbind he.p (λ f cd s H=>(hb f cd s H).p) hdef hs,SW he.r (hb 0 .none X.s₀ X.H₀).r TI⟩
theorem PJ{op:Int->Int->Bool}{mi mb:ME}{ix:List Nat}{ls:Ls}{hd:Hd}{QE:D->Hd->Prop}(h:WE mi ls hd λ d x=>∃ (e:D) (es:List D) (kf:D->Int),Ax x d=some (e :: es)/\(∀ y ∈ e :: es,mb (some y :: ix.map λ i=>(ls[i]?).join) x=some (.im (.int (kf y)),x))/\QE (Bh op es (es.map kf) e (kf e)) x):WE (GQ op mi ix mb) ls hd QE:=by
  obtain⟨d,x,e1,e,es,kf,e2,ek,q⟩:=h
  have go:∀ ys:List D,(∀ y ∈ ys,mb (some y :: ix.map λ i=>(ls[i]?).join) x=some (.im (.int (kf y)),x))->DM mb (ix.map λ i=>(ls[i]?).join) x ys=some (ys.map kf):=by
    intro ys
    induction ys with
    | nil=>intro _;rfl
    | cons y r ih=>
      intro h
      unfold DM
      rw[h y List.mem_cons_self,ih λ z hz=>h z (List.mem_cons_of_mem _ hz)]
      simp
  refine⟨_,x,?_,q⟩
  simp only[GQ,e1,Option.bind_some,e2,go _ ek,List.map_cons]
theorem Hn(kf:D->Int):∀ (es:List D) (b:D),Bh (λ n m=>decide (n > m)) es (es.map kf) b (kf b) ∈ b :: es/\∀ y ∈ b :: es,kf y <= kf (Bh (λ n m=>decide (n > m)) es (es.map kf) b (kf b))
  | [],b=>⟨List.mem_cons_self,λ y hy=>by rw[List.mem_singleton]at hy;subst hy;exact Int.le_refl _⟩
  | e :: es,b=>by
    rw[List.map_cons,Bh]
    by_cases h:kf e > kf b
    . rw[if_pos (by simpa using h)]
      obtain⟨h1,h2⟩:=Hn kf es e
      refine⟨List.mem_cons_of_mem _ h1,λ y hy=>?_⟩
      rcases List.mem_cons.mp hy with rfl|hy
      . have:=h2 e List.mem_cons_self;omega
      . exact h2 y hy
    . rw[if_neg (by simpa using h)]
      obtain⟨h1,h2⟩:=Hn kf es b
      refine⟨?_,λ y hy=>?_⟩
      . rcases List.mem_cons.mp h1 with q|q
        . rw[q];exact List.mem_cons_self
        . exact List.mem_cons_of_mem _ (List.mem_cons_of_mem _ q)
      . rcases List.mem_cons.mp hy with rfl|hy
        . exact h2 y List.mem_cons_self
        . rcases List.mem_cons.mp hy with rfl|hy
          . have:=h2 b List.mem_cons_self;omega
          . exact h2 y (List.mem_cons_of_mem _ hy)
end L2
namespace L2
open PySem PySem.Spec PyProof.Rows PySem.W
noncomputable def Fc(op:Int->Int->Bool)(mi:ME)(ix:List Nat)(mb:ME):ME:=λ ls hd=>(mi ls hd).bind λ p=>(Ac p.1).bind λ ds=>(DM mb (ix.map λ i=>(ls[i]?).join) p.2 ds).bind λ kz=>match ds,kz with
  | d :: r,n :: ns=>some (Bh op r ns d n,p.2)
  | _,_=>none
section
variable{K:PySem.W.Frag}{hd:Hd}
theorem Ho{op:Int->Int->Bool}{tb:TE}{mb:ME}{ix:List Nat}{q:Str}{c a:Addr}{d1:D}{ds:List D}(hb:RE K tb mb){ls:Ls}{σ:St}(ev:Ac d1=some ds):∀ (rs:List D) (ns:List Int) (j:Nat) (bd:D) (bv:V) (kb:Int) (ρ:List Addr) (H:Hp) (Q:VK),ds.drop j=rs->j <= ds.length ->
    DM mb (ix.map λ i=>(ls[i]?).join) hd rs=some ns->RH K ρ H hd->RL K ρ H ls σ->H c=some (.ext (cdF c q))->RD K ρ H d1 (.ref a)->RD K ρ H bd bv ->
    (∀ ρ' H' v,Ext ρ H ρ' H'->RH K ρ' H' hd->RD K ρ' H' (Bh op rs ns bd kb) v->Q v H') ->
    Er op (λ H xs=>SqT K H a xs) (λ H=>H c=some (.ext (cdF c q))) tb (ix.map λ i=>(σ[i]?).join) rs.length j bv kb H Q
  | [],ns,j,bd,bv,kb,ρ,H,Q,hr,hj,e,R,L,hc,r1,rb,k=>by
    obtain⟨a',xs,ea,sq,rs⟩:=RD.tup r1 ev
    cases ea
    have hl:=rs.len
    have hd0:=congrArg List.length hr
    simp at hd0
    refine⟨⟨xs,sq,by omega⟩,k ρ H bv .refl R ?_⟩
    cases e
    exact rb
  | x :: r,ns,j,bd,bv,kb,ρ,H,Q,hr,hj,e,R,L,hc,r1,rb,k=>by
    obtain⟨a',xs,ea,sq,rs⟩:=RD.tup r1 ev
    cases ea
    have hjl:j < ds.length:=by
      have:=congrArg List.length hr
      simp at this;omega
    have hxj:ds[j]? = some x:=by
      rw[List.drop_eq_getElem_cons hjl]at hr
      rw[List.getElem?_eq_getElem hjl,(List.cons.inj hr).1]
    have hr':ds.drop (j + 1)=r:=by
      rw[List.drop_eq_getElem_cons hjl]at hr
      exact(List.cons.inj hr).2
    obtain⟨v,hv,rv⟩:=rs.get hxj
    unfold DM at e
    split at e
    . next n h e1=>
      split at e
      . next ks e2=>
        split at e
        . next eh=>
          cases e
          rw[eh]at e1
          refine⟨xs,v,sq,hv,hc,hb ρ _ H _ _ _ (.im (.int n)) _ R (Hy L rv) e1 λ ρ1 H1 v1 x1 R1 rk=>?_⟩
          simp only[RD,RI]at rk
          subst rk
          have oc:c ∉ ρ:=λ m=>by rcases R.mut m with⟨y,w⟩|⟨y,w⟩ <;> (rw[hc]at w;cases w)
          refine⟨n,rfl,?_⟩
          by_cases hop:op n kb=true
          . rw[if_pos hop]
            refine Ho hb ev r ks (j + 1) x v n ρ1 H1 Q hr' hjl e2 R1 (L.ext R x1) (x1.keep c _ hc oc nt) (r1.ext R x1) (rv.ext R x1) λ ρ2 H2 w x2 R2 r2=>k ρ2 H2 w (x1.trans R1 x2) R2 ?_
            rw[Bh,if_pos hop];exact r2
          . rw[if_neg hop]
            refine Ho hb ev r ks (j + 1) bd bv kb ρ1 H1 Q hr' hjl e2 R1 (L.ext R x1) (x1.keep c _ hc oc nt) (r1.ext R x1) (rb.ext R x1) λ ρ2 H2 w x2 R2 r2=>k ρ2 H2 w (x1.trans R1 x2) R2 ?_
            rw[Bh,if_neg hop];exact r2
        . cases e
      . cases e
    . cases e
end
section
variable{X:Cx}{pins:List (Addr × Obj)}{σ:St}{l f It S:Addr}{src:Hp->List V->Prop}{G:Hp->Prop}{tb:TE}{cap:St}{Q:VK}{E:Value->Shared->Prop}
theorem OS(hh:X.A.handled=none)
    (hsrc:∀ pins' H' s' xs,Inv X pins' σ H' s'->src H' xs->∃ its:List Value,Vals xs its/\s'.heap.IsTuple l its.toArray) (hSI:S ≠ It) (n0:Nat) (hI0:∀ H',H' It=none->FpOk X pins H' It) (hS0:∀ H',H' S=none->FpOk X pins H' S)
    (turn:∀ (pins':List (Addr × Obj)) (H1:Hp) (s1:Shared) (x:V) (u:Value) (Q1:VK),(∀ p ∈ pins,p ∈ pins')->Inv X pins' σ H1 s1->RelV x u->G H1->tb (some x :: cap) H1 Q1->wpAny (model X.prog X.w) X.A.in1 (call (.ref f) [u]) (EP X pins' σ Q1) (λ _ _=>False) s1) :
    ∀ (m:Nat) (j:Nat) (b:V) (vb:Value) (kb:Int) (tk:Tok) (c:Nat) (oI:Obj) (H:Hp) (s:Shared),Inv X ((S,seqObj "list" #[vb,.int kb tk] c) :: (It,oI) :: pins) σ H s->s.heap.IsTupleIter It l j->RelV b vb ->
      Er (λ n m=>decide (n < m)) src G tb cap m j b kb H Q->codeAny (model X.prog X.w) X.A (.builtin "min.loop" ⟨[.ref It,.ref f,.ref S],[]⟩) (λ r s'=>match r with | .ok (.ret v)=>EP X pins σ Q v s' | .ok _=>False | .error e=>E e s') s:=by
  have hname:(toString "min" ++ toString ".loop":String)="min.loop":=by decide
  intro m
  induction m with
  | zero=>
    intro j b vb kb tk c oI H s J hit rb hgo
    obtain⟨⟨xs,hG,hje⟩,hQ⟩:=hgo
    have nS:=J.pin (S,seqObj "list" #[vb,.int kb tk] c) (List.mem_append_right _ List.mem_cons_self)
    have nI:=J.pin (It,oI) (List.mem_append_right _ (List.mem_cons_of_mem _ List.mem_cons_self))
    refine codeAny_builtin PySem.F.entry_min_loop ?_
    rw[Around.under_plainId PySem.F.plain_min_loop _]
    show wpAny _ X.A.in1 (seqItems? (.ref S) >>= _) _ _ _
    refine wpAny_bind (wpAny_seqItems nS.1 rfl ?_)
    show wpAny _ X.A.in1 (tryCatch (pyNext (.ref It)) _ >>= _) _ _ _
    obtain⟨its,hv,hil⟩:=hsrc _ _ _ _ J hG
    have hlen:=hv.length
    refine wpAny_bind (wpAny_tryCatch (wpAny_pyNext_tuple_end hh hit hil (by simp;omega) λ h' hk'=>?_))
    have hS':=hk' S _ hSI nS.1
    have s1:=Heap.SameBut.update h' S (Obj.mapSeq λ _=>(#[]:Array Value))
    show wpAny _ X.A.in1 (updateSeq S (λ _=>#[]) >>= _) _ _ _
    refine wpAny_bind ?_
    refine wpAny_updateSeq hS' rfl (wpAny_bind (wpAny_letGo (wpAny_pure ?_)))
    have J1:Inv X ((It,oI) :: pins) σ H s:=J.pins_of λ p hp=>J.pin p (List.mem_append_right _ (List.mem_cons_of_mem _ hp))
    have J2:Inv X pins σ H { s with heap:=h',toks:=s.toks }:=J1.turnE (hI0 H nI.2.1) λ c u n e=>hk' c u n e
    have J3:=(J2.repin (hS0 H nS.2.1) hS' (λ v z=>by cases z)).turnE (t':=s.toks) (hS0 H nS.2.1) λ c u n e=>(s1.2 c n).trans e
    exact⟨b,H,J3,rb,hQ⟩
  | succ m ih=>
    intro j b vb kb tk c oI H s J hit rb hgo
    obtain⟨xs,x,hsr,hxj,hG,hgo⟩:=hgo
    obtain⟨its,hv,hil⟩:=hsrc _ _ _ _ J hsr
    obtain⟨u,hu,ru⟩:=hv.get hxj
    have nS:=J.pin (S,seqObj "list" #[vb,.int kb tk] c) (List.mem_append_right _ List.mem_cons_self)
    have nI:=J.pin (It,oI) (List.mem_append_right _ (List.mem_cons_of_mem _ List.mem_cons_self))
    refine codeAny_builtin PySem.F.entry_min_loop ?_
    rw[Around.under_plainId PySem.F.plain_min_loop _]
    show wpAny _ X.A.in1 (seqItems? (.ref S) >>= _) _ _ _
    refine wpAny_bind (wpAny_seqItems nS.1 rfl ?_)
    show wpAny _ X.A.in1 (tryCatch (pyNext (.ref It)) _ >>= _) _ _ _
    refine wpAny_bind (wpAny_tryCatch (wpAny_pyNext_tuple_item hit hil (x:=u) (by simpa using hu) λ h' hit' hs'=>?_))
    obtain⟨oI',hoI',hoc,hod⟩:=id hit'
    have hSh':h'.get? S=some (seqObj "list" #[vb,.int kb tk] c):=(hs'.2 S hSI).trans nS.1
    have dI:∀ v,oI'.data ≠ .cell v:=λ v z=>by rw[hod]at z;cases z
    have J1:Inv X ((It,oI) :: pins) σ H s:=J.pins_of λ p hp=>J.pin p (List.mem_append_right _ (List.mem_cons_of_mem _ hp))
    have J2:Inv X pins σ H { s with heap:=h',toks:=s.toks }:=J1.turnE (hI0 H nI.2.1) λ c u n e=>(hs'.2 c n).trans e
    have J3:=(J2.repin (hI0 H nI.2.1) hoI' dI).repin ((hS0 H nS.2.1).more hSI.symm) hSh' (λ v z=>by cases z)
    show wpAny _ X.A.in1 (tryCatch (holding [u] (call (.ref f) [u])) _ >>= _) _ _ _
    refine wpAny_bind (wpAny_tryCatch (wpAny_holding (wpAny_mono (turn _ H _ x u _ (λ p hp=>List.mem_cons_of_mem _ (List.mem_cons_of_mem _ hp)) J3 ru hG hgo) (λ v s2 he=>?_) λ _ _ hF=>hF.elim)))
    obtain⟨k,H2,J4,rk,n,rfl,hgo2⟩:=he
    obtain⟨t2,rfl⟩:=rk
    have nS2:=J4.pin (S,seqObj "list" #[vb,.int kb tk] c) (List.mem_append_right _ List.mem_cons_self)
    have nI2:=J4.pin (It,oI') (List.mem_append_right _ (List.mem_cons_of_mem _ List.mem_cons_self))
    show wpAny _ X.A.in1 (tryCatch (holding [u,.int n t2] (richCompare .Lt (.int n t2) (.int kb tk) >>= _)) _ >>= _) _ _ _
    refine wpAny_bind (wpAny_tryCatch (wpAny_holding (wpAny_bind (richCompare_gives (op:=.Lt) (typeIs_int s2 _ t2) (typeIs_int s2 _ tk) F.slot_int_lt F.entry_int_lt (F.args_int_lt_2 _ _) (gives_int_lt _ _ t2 tk) (λ x=>nomatch x) ?_))))
    refine wpAny_bind (wpAny_holding (wpAny_truthy_bool ?_))
    refine wpAny_bind (wpAny_letGo (wpAny_pure ?_))
    by_cases hb':n < kb
    . have s1:=Heap.SameBut.update s2.heap S (Obj.mapSeq λ _=>#[u,.int n t2])
      obtain⟨c2,hc2⟩:∃ c2,(s2.heap.update S (Obj.mapSeq λ _=>#[u,.int n t2])).get? S=some (seqObj "list" #[u,.int n t2] c2):=⟨_,get?_update_seq nS2.1 λ _=>#[u,.int n t2]⟩
      simp only[hb',decide_true,if_true]at hgo2 ⊢
      refine wpAny_bind ?_
      refine wpAny_updateSeq nS2.1 rfl (wpAny_bind (wpAny_letGo ?_))
      rw[hname]
      have J5:Inv X ((S,seqObj "list" #[vb,.int kb tk] c) :: pins) σ H2 s2:=J4.pins_of λ p hp=>by
        rcases List.mem_cons.mp hp with rfl|hp
        . exact nS2
        . exact J4.pin p (List.mem_append_right _ (List.mem_cons_of_mem _ (List.mem_cons_of_mem _ hp)))
      have J6:Inv X pins σ H2 { s2 with heap:=s2.heap.update S (Obj.mapSeq λ _=>#[u,.int n t2]),toks:=s2.toks }:=J5.turnE (hS0 H2 nS2.2.1) λ c u n e=>(s1.2 c n).trans e
      have gI:(s2.heap.update S (Obj.mapSeq λ _=>#[u,.int n t2])).get? It=some oI':=(s1.2 It hSI.symm).trans nI2.1
      have J7:=(J6.repin (hI0 H2 nI2.2.1) gI dI).repin ((hS0 H2 nS2.2.1).more hSI.symm) hc2 (λ v z=>by cases z)
      exact wpAny_pure ⟨plainId_quiet PySem.F.plain_min_loop _,ih (j + 1) x u n t2 c2 oI' H2 _ J7 ⟨oI',gI,hoc,hod⟩ ru hgo2⟩
    . simp only[hb',decide_false,Bool.false_eq_true,if_false]at hgo2 ⊢
      refine wpAny_bind (wpAny_letGo ?_)
      rw[hname]
      exact wpAny_pure ⟨plainId_quiet PySem.F.plain_min_loop _,ih (j + 1) b vb kb tk c oI' H2 _ J4 ⟨oI',nI2.1,hoc,hod⟩ rb hgo2⟩
theorem Qf{H:Hp}{s:Shared}(hh:X.A.handled=none)(I:Inv X pins σ H s)(hsrc:∀ pins' H' s' xs,Inv X pins' σ H' s'->src H' xs->∃ its:List Value,Vals xs its/\s'.heap.IsTuple l its.toArray)
    (turn:∀ (pins':List (Addr × Obj)) (H1:Hp) (s1:Shared) (x:V) (u:Value) (Q1:VK),(∀ p ∈ pins,p ∈ pins')->Inv X pins' σ H1 s1->RelV x u->G H1->tb (some x :: cap) H1 Q1->wpAny (model X.prog X.w) X.A.in1 (call (.ref f) [u]) (EP X pins' σ Q1) (λ _ _=>False) s1)
    {m:Nat} (h:Fi (λ n m=>decide (n < m)) src G tb cap m H Q):wpAny (model X.prog X.w) X.A (call (.builtin "min") [.ref l] [(Str.ofString "key",.ref f)]) (EP X pins σ Q) E s:=by
  have hname:(toString "min" ++ toString ".loop":String)="min.loop":=by decide
  obtain⟨xs,x,hsr,hx0,hG,hgo⟩:=h
  obtain⟨_,_,hls⟩:=hsrc _ _ _ _ I hsr
  refine kmk_tree PySem.F.kind_min PySem.F.plain_min PySem.F.entry_min (kmk_min_key _ _) ?_
  show wpAny _ X.A.in1 (Builtin.Builtins.bindParams "min" ["key","default"] 0 ⟨[],[(Str.ofString "key",.ref f)]⟩ >>= _) _ _ s
  refine wpAny_bind (wpAny_of_eq (show Builtin.Builtins.bindParams "min" ["key","default"] 0 ⟨[],[(Str.ofString "key",.ref f)]⟩=pure [some (.ref f),none]from rfl) ?_)
  refine wpAny_bind (wpAny_pure ?_)
  refine wpAny_bind (wpAny_pyIter_tuple hls ?_)
  refine wpAny_bind (wpAny_newList ?_ (Nat.zero_le _))
  rw[hname]
  have hS:(s.heap.push { cls:=.type "tuple_iterator",data:=.fields #[.ref l,.int 0 0] }).objs.size=s.heap.objs.size + 1:=size_push' ..
  rw[hS]
  have gI:((s.heap.push { cls:=.type "tuple_iterator",data:=.fields #[.ref l,.int 0 0] }).push (seqObj "list" #[] 0)).get? s.heap.objs.size=some { cls:=.type "tuple_iterator",data:=.fields #[.ref l,.int 0 0] }:=
    Heap.get?_push_of_some _ (Heap.get?_push_size _ rfl)
  have gS:((s.heap.push { cls:=.type "tuple_iterator",data:=.fields #[.ref l,.int 0 0] }).push (seqObj "list" #[] 0)).get? (s.heap.objs.size + 1)=some (seqObj "list" #[] 0):=by rw[<- hS];exact Heap.get?_push_size _ rfl
  have kp:∀ b o,s.heap.get? b=some o->((s.heap.push { cls:=.type "tuple_iterator",data:=.fields #[.ref l,.int 0 0] }).push (seqObj "list" #[] 0)).get? b=some o:=λ b o e=>Heap.get?_push_of_some _ (Heap.get?_push_of_some _ e)
  have I1:Inv X pins σ H { s with heap:=(s.heap.push { cls:=.type "tuple_iterator",data:=.fields #[.ref l,.int 0 0] }).push (seqObj "list" #[] 0),toks:=s.toks }:=I.kept (t':=s.toks) kp
  have hSI:s.heap.objs.size + 1 ≠ s.heap.objs.size:=Nat.ne_of_gt (Nat.lt_succ_self _)
  have hI0:∀ H',H' s.heap.objs.size=none->FpOk X pins H' s.heap.objs.size:=λ H' hn=>I.fpOk (Nat.le_refl _) hn
  have hS0:∀ H',H' (s.heap.objs.size + 1)=none->FpOk X pins H' (s.heap.objs.size + 1):=λ H' hn=>I.fpOk (Nat.le_succ _) hn
  have nI:H s.heap.objs.size=none:=I.hok.fresh (Nat.le_refl _)
  have nS:H (s.heap.objs.size + 1)=none:=I.hok.fresh (Nat.le_succ _)
  generalize (s.heap.push { cls:=.type "tuple_iterator",data:=.fields #[.ref l,.int 0 0] }).push (seqObj "list" #[] 0)=h1 at gI gS I1 ⊢
  refine wpAny_pure ⟨plainId_quiet PySem.F.plain_min_loop _,?_⟩
  refine codeAny_builtin PySem.F.entry_min_loop ?_
  rw[Around.under_plainId PySem.F.plain_min_loop _]
  show wpAny _ X.A.in1 (seqItems? (.ref (s.heap.objs.size + 1)) >>= _) _ _ _
  refine wpAny_bind (wpAny_seqItems gS rfl ?_)
  show wpAny _ X.A.in1 (tryCatch (pyNext (.ref s.heap.objs.size)) _ >>= _) _ _ _
  obtain⟨its,hv,hil⟩:=hsrc _ _ _ _ I1 hsr
  obtain⟨u,hu,ru⟩:=hv.get hx0
  refine wpAny_bind (wpAny_tryCatch (wpAny_pyNext_tuple_item (i:=0) ⟨_,gI,rfl,rfl⟩ hil (x:=u) (by simpa using hu) λ h' hit' hs'=>?_))
  obtain⟨oI',hoI',hoc,hod⟩:=id hit'
  have dI:∀ v,oI'.data ≠ .cell v:=λ v z=>by rw[hod]at z;cases z
  have hSh':h'.get? (s.heap.objs.size + 1)=some (seqObj "list" #[] 0):=(hs'.2 _ hSI).trans gS
  have J2:Inv X pins σ H { s with heap:=h',toks:=s.toks }:=(I1.repin (hI0 H nI) gI (λ v z=>by cases z)).turnE (hI0 H nI) λ c u n e=>(hs'.2 c n).trans e
  have J3:=(J2.repin (hI0 H nI) hoI' dI).repin ((hS0 H nS).more hSI.symm) hSh' (λ v z=>by cases z)
  show wpAny _ X.A.in1 (tryCatch (holding [u] (call (.ref f) [u])) _ >>= _) _ _ _
  refine wpAny_bind (wpAny_tryCatch (wpAny_holding (wpAny_mono (turn _ H _ x u _ (λ p hp=>List.mem_cons_of_mem _ (List.mem_cons_of_mem _ hp)) J3 ru hG hgo) (λ v s2 he=>?_) λ _ _ hF=>hF.elim)))
  obtain⟨k,H2,J4,rk,n,rfl,hgo2⟩:=he
  obtain⟨t2,rfl⟩:=rk
  have nS2:=J4.pin (s.heap.objs.size + 1,seqObj "list" #[] 0) (List.mem_append_right _ List.mem_cons_self)
  have nI2:=J4.pin (s.heap.objs.size,oI') (List.mem_append_right _ (List.mem_cons_of_mem _ List.mem_cons_self))
  have s1:=Heap.SameBut.update s2.heap (s.heap.objs.size + 1) (Obj.mapSeq λ _=>#[u,.int n t2])
  obtain⟨c2,hc2⟩:∃ c2,(s2.heap.update (s.heap.objs.size + 1) (Obj.mapSeq λ _=>#[u,.int n t2])).get? (s.heap.objs.size + 1)=some (seqObj "list" #[u,.int n t2] c2):=⟨_,get?_update_seq nS2.1 λ _=>#[u,.int n t2]⟩
  show wpAny _ X.A.in1 (updateSeq (s.heap.objs.size + 1) (λ _=>#[u,.int n t2]) >>= _) _ _ _
  refine wpAny_bind ?_
  refine wpAny_updateSeq nS2.1 rfl ?_
  rw[hname]
  have J5:Inv X ((s.heap.objs.size + 1,seqObj "list" #[] 0) :: pins) σ H2 s2:=J4.pins_of λ p hp=>by
    rcases List.mem_cons.mp hp with rfl|hp
    . exact nS2
    . exact J4.pin p (List.mem_append_right _ (List.mem_cons_of_mem _ (List.mem_cons_of_mem _ hp)))
  have J6:Inv X pins σ H2 { s2 with heap:=s2.heap.update (s.heap.objs.size + 1) (Obj.mapSeq λ _=>#[u,.int n t2]),toks:=s2.toks }:=J5.turnE (hS0 H2 nS2.2.1) λ c u n e=>(s1.2 c n).trans e
  have gI2:(s2.heap.update (s.heap.objs.size + 1) (Obj.mapSeq λ _=>#[u,.int n t2])).get? s.heap.objs.size=some oI':=(s1.2 _ hSI.symm).trans nI2.1
  have J7:=(J6.repin (hI0 H2 nI2.2.1) gI2 dI).repin ((hS0 H2 nS2.2.1).more hSI.symm) hc2 (λ v z=>by cases z)
  exact wpAny_pure ⟨plainId_quiet PySem.F.plain_min_loop _,OS hh hsrc hSI 0 hI0 hS0 turn m 1 x u n t2 c2 oI' H2 _ J7 ⟨oI',gI2,hoc,hod⟩ ru hgo2⟩
end
noncomputable def Kc(K:PySem.W.Frag)(P:Addr)(q:Str)(pos:Pos)(ix:List Nat)(te tb:TE):TE:=λ σ H Q=>te σ H λ v H1=>∃ (a:Addr) (m:Nat) (ps:Array Value),v=.ref a/\H1 P=some (.tbl ps)/\FJ H1 q pos ps /\
  ∀ H2 c,EX P q pos H1 H2->H2 c=some (.ext (cdF c q))->Fi (λ n m=>decide (n < m)) (λ H xs=>SqT K H a xs) (λ H=>H c=some (.ext (cdF c q))) tb (ix.map λ i=>(σ[i]?).join) m H2 Q
section
variable{X:Cx}{c P:Addr}{scope:Scope}{fr:List Str}{ix:List Nat}{prm:Str}{params:Arguments}{body e:Expr}{p pos lpos kpos:Pos}{te tb:TE}
theorem QQ(LA:LamAt X c P)(S:CSc X scope fr ix)(L:LSc scope prm)(hr:Room 3 X.A)(hcm:X.calm=true)(hg:Gl X "min")(hm:X.mg "min"=none)
    (hbind:∀ (cl:List (Str × Addr)) (pm cd ctv us:Value),bindArgs (kla_fn "<lambda>" (X.env.qual ++ "<lambda>") params body scope cl pm cd ctv) ⟨[us],[]⟩=pure [(prm,us)])
    (he:PE X e te) (hb:∀ (f:Addr) (cd:Value) (s:Shared) (H:Hp),PE (lCx X X.A.in1 (prm :: fr) (X.env.qual ++ "<lambda>") scope f cd (Af X.env.cells scope.names []) s H) body tb)
    (hdef:defaultsOf params X.env=([],[]):=by rfl) (hs:starEach [e] X.env=[(false,eval e X.env)]:=by rfl) :
    PE X (.Call (.Name "min" p) [e] [⟨some "key",.Lambda params body scope lpos,kpos⟩] pos) (Kc X.K P (X.env.qual ++ "<lambda>") lpos ix te tb):=by
  intro pins s σ H Q I h
  have PAe:PA X [e] (Bw te C0):=Cg he DT hs
  refine wpAny_Call_Name_kw (GT (u:=.builtin "min") I hg hm bt_min ?_)
  have pl:(backTo pos (starEach [e] X.env)).any (·.1)=false:=by rw[hs];rfl
  refine callWith_builtin_kwB pl rfl (evalArgs_kw2 (env:=X.env) (e:=e) (rest:=[]) (kws:=[⟨some "key",.Lambda params body scope lpos,kpos⟩]) rfl (thn (PAe pos pins s σ H (λ vs H1=>match vs with
    | [v]=>∃ (a:Addr) (m:Nat) (ps:Array Value),v=.ref a/\H1 P=some (.tbl ps)/\FJ H1 (X.env.qual ++ "<lambda>") lpos ps /\
        ∀ H2 c,EX P (X.env.qual ++ "<lambda>") lpos H1 H2->H2 c=some (.ext (cdF c (X.env.qual ++ "<lambda>")))->Fi (λ n m=>decide (n < m)) (λ H xs=>SqT X.K H a xs) (λ H=>H c=some (.ext (cdF c (X.env.qual ++ "<lambda>")))) tb (ix.map λ i=>(σ[i]?).join) m H2 Q
    | _=>False) I h) λ us s1 hq=>?_) hs)
  obtain⟨vs,H1,I1,r,q⟩:=hq
  match vs,q with
  | [v],q=>
  obtain⟨a,m,ps,rfl,hP,hg1,go⟩:=q
  obtain⟨u,rfl,ru⟩:=Bn r
  cases ru
  show wpAny _ _ (evalAll [(do let v <- eval (.Lambda params body scope lpos) X.env;standAt pos;pure v)]) _ _ s1
  refine wpAny_evalAll_cons (wpAny_bind (LL S LA I1 hdef hP hg1 λ f cd ctv H2 s2 I2 M=>wpAny_bind (wpAny_standAt (wpAny_pure (wpAny_evalAll_nil ?_)))))
  show wpAny _ _ (call (.builtin "min") [.ref a] [(Str.ofString "key",.ref f)]) _ _ s2
  obtain⟨c',rfl,hc'⟩:=M.cdc
  have go':=go H2 c' M.step hc'
  have ff:FpOk X pins H2 f:=I1.fpOk M.new M.fre
  have I3:=I2.repin ff M.fn (λ v z=>by cases z)
  refine wpAny_mono (Qf (pins:=(f,_) :: pins) (I3.ok.hd hcm) I3 (λ pins' H' s' xs J hG=>?_) (λ pins' H' s' x u Q1 sub J ru hG hq=>?_) go') (λ v s' hv=>?_) λ _ _ z=>z
  . obtain⟨its,rv,pl2,hz⟩:=J.tuple hG
    exact⟨its,rv,pl2⟩
  . have pf:=J.pin (f,_) (List.mem_append_right _ (sub _ List.mem_cons_self))
    exact LM (A:=X.A.in1) (f:=f) S L J rfl (hr.in1.mono (by decide)) pf.1 (J.hok c' _ hG).1 (λ us=>hbind _ _ _ _ us) (λ s H=>hb f _ s H) ru hq
  . obtain⟨y,H',J,ry,qy⟩:=hv
    exact⟨y,H',J.pins_of λ p hp=>J.pin p (List.mem_append_right _ (List.mem_cons_of_mem _ hp)),ry,qy⟩
end
section
variable{K:PySem.W.Frag}{hd:Hd}
theorem Pv{te tb:TE}{mi mb:ME}{P:Addr}{q:Str}{pos:Pos}{ix:List Nat}(hi:RE K te mi)(hb:RE K tb mb)(TI:HF K P q pos):RE K (Kc K P q pos ix te tb) (Fc (λ n m=>decide (n < m)) mi ix mb):=by
  intro ρ σ H hd ls Q d hd' hR hL hm hQ
  obtain⟨⟨d1,h1⟩,e1,hm⟩:=Option.bind_eq_some_iff.mp hm
  obtain⟨ds,e2,hm⟩:=Option.bind_eq_some_iff.mp hm
  obtain⟨kz,e3,hm⟩:=Option.bind_eq_some_iff.mp hm
  dsimp only at hm e2 e3
  split at hm
  . next x r n ns _=>
    cases hm
    refine hi ρ σ H hd ls _ d1 _ hR hL e1 λ ρ1 H1 v1 x1 R1 r1=>?_
    obtain⟨a,xs,rfl,sq,rs⟩:=RD.tup r1 e2
    obtain⟨p',et,_,l1,l2⟩:=id TI
    obtain⟨ps,hP,hG⟩:=R1.tabs (P,q,p') et
    have hG':FJ H1 q pos ps:=by
      rcases hG with g|⟨c,g1,g2⟩
      . exact .inl g
      . refine .inr ⟨c,?_,g2⟩
        rw[g1]
        show #[rawInt p'.line,rawInt p'.col,Value.ref c]=_
        rw[l1,l2]
    refine⟨a,r.length,ps,rfl,hP,hG',λ H2 c step hc=>?_⟩
    obtain⟨R2,x2⟩:=KZ R1 hP step TI
    have x12:=x1.trans R1 x2
    have L2':=hL.ext hR x12
    have r2:=r1.ext R1 x2
    obtain⟨a',xs,ea,sq,rs⟩:=RD.tup r2 e2
    cases ea
    obtain⟨v,hv,rv⟩:=rs.get (i:=0) (d:=x) rfl
    unfold DM at e3
    split at e3
    . next n' h e4=>
      split at e3
      . next ks e5=>
        split at e3
        . next eh=>
          cases e3
          rw[eh]at e4
          refine⟨xs,v,sq,hv,hc,hb ρ1 _ H2 _ _ _ (.im (.int n)) _ R2 (Hy L2' rv) e4 λ ρ3 H3 v3 x3 R3 rk=>?_⟩
          simp only[RD,RI]at rk
          subst rk
          have oc:c ∉ ρ1:=λ m=>by rcases R2.mut m with⟨y,w⟩|⟨y,w⟩ <;> (rw[hc]at w;cases w)
          refine⟨n,rfl,Ho hb e2 r ns 1 x v n ρ3 H3 Q rfl (by simp) e5 R3 (L2'.ext R2 x3) (x3.keep c _ hc oc nt) (r2.ext R2 x3) (rv.ext R2 x3) λ ρ4 H4 w x4 R4 r4=>hQ ρ4 H4 w ((x12.trans R2 x3).trans R3 x4) R4 r4⟩
        . cases e3
      . cases e3
    . cases e3
  . cases hm
end
theorem Q9(K:PySem.W.Frag){X:Cx}{c P:Addr}{scope:Scope}{fr:List Str}{ix:List Nat}{prm:Str}{params:Arguments}{body e:Expr}{p pos lpos kpos:Pos}{te tb:TE}{mi mb:ME}{k:Nat}(LA:LamAt X c P)(TI:HF K P (X.env.qual ++ "<lambda>") lpos)(S:CSc X scope fr ix)(L:LSc scope prm)(hr:Room k X.A)(h3:3 <= k)(hm:X.mg "min"=none)
    (he:QE K X e te mi) (hb:∀ (f:Addr) (cd:Value) (s:Shared) (H:Hp),QE K (lCx X X.A.in1 (prm :: fr) (X.env.qual ++ "<lambda>") scope f cd (Af X.env.cells scope.names []) s H) body tb mb)
    (hbind:∀ (cl:List (Str × Addr)) (pm cd ctv us:Value),bindArgs (kla_fn "<lambda>" (X.env.qual ++ "<lambda>") params body scope cl pm cd ctv) ⟨[us],[]⟩=pure [(prm,us)])
    (hcm:X.calm=true:=by rfl) (hg:Gl X "min":=by rfl) (hdef:defaultsOf params X.env=([],[]):=by rfl) (hs:starEach [e] X.env=[(false,eval e X.env)]:=by rfl) (hK:X.K=K:=by rfl) :
    QE K X (.Call (.Name "min" p) [e] [⟨some "key",.Lambda params body scope lpos,kpos⟩] pos) (Kc K P (X.env.qual ++ "<lambda>") lpos ix te tb) (Fc (λ n m=>decide (n < m)) mi ix mb):=by
  subst hK
  exact⟨QQ LA S L (hr.mono h3) hcm hg hm hbind he.p (λ f cd s H=>(hb f cd s H).p) hdef hs,Pv he.r (hb 0 .none X.s₀ X.H₀).r TI⟩
theorem Nt{op:Int->Int->Bool}{mi mb:ME}{ix:List Nat}{ls:Ls}{hd:Hd}{QE:D->Hd->Prop}(h:WE mi ls hd λ d x=>∃ (e:D) (es:List D) (kf:D->Int),Ac d=some (e :: es)/\(∀ y ∈ e :: es,mb (some y :: ix.map λ i=>(ls[i]?).join) x=some (.im (.int (kf y)),x))/\QE (Bh op es (es.map kf) e (kf e)) x):WE (Fc op mi ix mb) ls hd QE:=by
  obtain⟨d,x,e1,e,es,kf,e2,ek,q⟩:=h
  have go:∀ ys:List D,(∀ y ∈ ys,mb (some y :: ix.map λ i=>(ls[i]?).join) x=some (.im (.int (kf y)),x))->DM mb (ix.map λ i=>(ls[i]?).join) x ys=some (ys.map kf):=by
    intro ys
    induction ys with
    | nil=>intro _;rfl
    | cons y r ih=>
      intro h
      unfold DM
      rw[h y List.mem_cons_self,ih λ z hz=>h z (List.mem_cons_of_mem _ hz)]
      simp
  refine⟨_,x,?_,q⟩
  simp only[Fc,e1,Option.bind_some,e2,go _ ek,List.map_cons]
theorem Hm(kf:D->Int):∀ (es:List D) (b:D),Bh (λ n m=>decide (n < m)) es (es.map kf) b (kf b) ∈ b :: es/\∀ y ∈ b :: es,kf (Bh (λ n m=>decide (n < m)) es (es.map kf) b (kf b)) <= kf y
  | [],b=>by simp[Bh]
  | x :: r,b=>by
    rw[List.map_cons,Bh]
    by_cases h:decide (kf x < kf b)=true
    . rw[if_pos h]
      have h:=of_decide_eq_true h
      obtain⟨h1,h2⟩:=Hm kf r x
      refine⟨List.mem_cons_of_mem _ h1,λ y hy=>?_⟩
      rcases List.mem_cons.mp hy with rfl|hy
      . have:=h2 x List.mem_cons_self;omega
      . exact h2 y hy
    . rw[if_neg h]
      have h:¬ kf x < kf b:=λ z=>h (decide_eq_true z)
      obtain⟨h1,h2⟩:=Hm kf r b
      refine⟨?_,λ y hy=>?_⟩
      . rcases List.mem_cons.mp h1 with e|e
        . rw[e];exact List.mem_cons_self
        . exact List.mem_cons_of_mem _ (List.mem_cons_of_mem _ e)
      . rcases List.mem_cons.mp hy with rfl|hy
        . exact h2 y List.mem_cons_self
        . rcases List.mem_cons.mp hy with rfl|hy
          . have:=h2 b List.mem_cons_self;omega
          . exact h2 y (List.mem_cons_of_mem _ hy)
end L2
namespace L2
open PySem PySem.Spec PyProof.Rows PySem.W
noncomputable def Re(K:PySem.W.Frag):R2:=λ x y H Q=>∃ d ds,Rep K H d x/\Rep K H (.list ds) y/\d.canLay0=true/\PyData.canLayAll0 ds=true/\d.depth <= 40/\Q (.bl (!(ds.any λ z=>PyData.eqv z d))) H
theorem T2(K:PySem.W.Frag){X:Cx}(hu:X.A.units + 64 < cLine)(hK:X.K=K:=by rfl):OpR X (compareOp .NotIn) (Re K):=by
  subst hK
  intro pins s σ H x y v u Q I rx ry h
  obtain⟨d,ds,h1,h2,c1,c2,hm,q⟩:=h
  obtain⟨as,q1⟩:=Cv I d x v h1 rx
  have hmn:=Nat.min_le_right (PyData.depthAll ds) d.depth
  obtain⟨bs,q2⟩:=Cv I _ y u h2 ry
  exact PySem.SeqAt.notIn_list_reads q2 q1 c2 c1 (by omega) ⟨.bl _,H,I,rfl,q⟩
noncomputable def Ia:D->D->Hd->Option (D × Hd)
  | .im i,e,hd=>(pyD hd e).bind λ y=>match y with
    | .list ds=>if i.py.canLay0=true/\PyData.canLayAll0 ds=true/\i.py.depth <= 40 then some (.im (.bl (!(ds.any λ z=>PyData.eqv z i.py))),hd)else none
    | _=>none
  | _,_,_=>none
theorem Sa{K:PySem.W.Frag}:RB K (Re K) Ia:=by
  intro ρ H hd d e v u Q z hd' hR h1 h2 hf hQ
  unfold Ia at hf
  split at hf
  . obtain⟨y,e1,hf⟩:=Option.bind_eq_some_iff.mp hf
    split at hf
    . split at hf
      . next c=>
        cases hf
        have r2:=EV hR h2 e1
        simp only[RD]at h1
        exact⟨_,_,RI.rep h1,r2,c.1,c.2.1,c.2.2,hQ ρ H _ .refl hR (by simp[RD,RI])⟩
      . cases hf
    . cases hf
  . cases hf
end L2
namespace T28
open PySem L2
noncomputable def top(i:Nat):Stmt:=PySem.Challenge.pw_benchdays_k28_whole_last_first_is_best.main.body.getD i (.Pass ⟨0,0,0,0⟩)
noncomputable abbrev Cq:Stmt:=top 1
theorem sc_raised:FnScope ["works","wishes","some","t","told","within","turn","a","b"] ["works","wishes","some","t"] (A8 Cq):=⟨rfl,rfl,rfl,by decide +kernel,rfl,by decide +kernel,by decide +kernel⟩
@[reducible] noncomputable def L9:MS:=(AA (AL 4 (KA (IS 1 [0,3] (C1 (A0 2)) (AS 0) Dy [] (IN (A0 0) (mCB ET (A2 (mOp gIx (mOp gIx (A0 1) (A0 0)) (mC (.int 1))) (A2 (A0 2) A6)))))))
    (AA (AL 5 (B9 (Bz 2 [4] (C1 (A0 1)) (DQ 2 (B1 (AS 0) (B1 (AS 1) DR))) (E2 (AI (mOp (Hg false) (A0 0) (A0 2))) (AI (mOp (Hg false) (A0 1) (A0 2)))) (DD (A2 (A0 0) (A2 (A0 1) A6))))))
    (AA (CJ (C1 (A0 2)) (AS 6)
      (CJ (Dz (A0 5)) (DQ 2 (B1 (AS 7) (B1 (AS 8) DR)))
      (IR (A0 4) (A0 8) (mCB ET (A2 (mOp FG (A0 4) (A0 8)) (A2 (mOp B7 (mOp FG (A0 4) (A0 7)) (mOp gIx (mOp gIx (A0 0) (A0 7)) (mC (.int 0)))) A6))))))
    (AV (CN Cd (Bz 1 [4] (C1 (A0 2)) (AS 0) Dy (mOp FG (A0 1) (A0 0))))))))
noncomputable def Et:List D->Hd->Option (D × Hd):=mkF 4 9 L9
noncomputable abbrev Di:Stmt:=top 2
theorem Pj:FnScope ["works","wishes"] ["works","wishes"] (A8 Di):=⟨rfl,rfl,rfl,by decide +kernel,rfl,by decide +kernel,by decide +kernel⟩
@[reducible] noncomputable def MR:MS:=(AV (AC 0 Et (A2 (A0 0) (A2 (A0 1) (A2 (IL (A2 (mCB (f1 true Ci) (A2 (A0 0) A6)) A6)) (A2 (mC (.int 0)) A6))))))
noncomputable def Fm:List D->Hd->Option (D × Hd):=mkF 2 2 MR
noncomputable abbrev C9:Stmt:=top 7
theorem sc_steps_at:FnScope ["rows","t","told","begin","amount"] ["rows","t"] (A8 C9):=⟨rfl,rfl,rfl,by decide +kernel,rfl,by decide +kernel,by decide +kernel⟩
@[reducible] noncomputable def m_steps_at:MS:=(AA (AL 2 (mC (.int 0)))
    (AA (CJ (C1 (A0 0)) (DQ 2 (B1 (AS 3) (B1 (AS 4) DR)))
      (AA (Az (AI (mOp gGt (A0 3) (A0 1)))
      (AV (A0 2))
      Am)
    (AL 2 (A0 4))))
    (AV (A0 2))))
noncomputable def F_steps_at:List D->Hd->Option (D × Hd):=mkF 2 5 m_steps_at
noncomputable abbrev CC:Stmt:=top 8
theorem sc_cost_at:FnScope ["cost","t","word","above"] ["cost","t"] (A8 CC):=⟨rfl,rfl,rfl,by decide +kernel,rfl,by decide +kernel,by decide +kernel⟩
@[reducible] noncomputable def m_cost_at:MS:=(AA (AL 2 (mOp gIx (A0 0) (mC (.int 0))))
    (AA (Az (AI (mOp gEq (A0 2) (mC (.str "steps"))))
      (AV (AC 0 F_steps_at (A2 (mOp gIx (A0 0) (mC (.int 1))) (A2 (A0 1) A6))))
      Am)
    (AA (Az (AI (mOp gEq (A0 2) (mC (.str "ends"))))
      (AV (mOp Bt (mOp gIx (A0 0) (mC (.int 1))) (A0 1)))
      Am)
    (AA (AL 3 (mOp ES (A0 1) (mOp gIx (A0 0) (mC (.int 1)))))
    (AA (Az (AI (mOp gEq (A0 2) (mC (.str "late"))))
      (AV (A0 3))
      Am)
    (AA (Az (AI (mOp gLe (A0 3) (mC (.int 0))))
      (AV (mC (.int 0)))
      Am)
    (AA (Az (AI (mOp gEq (A0 2) (mC (.str "tardy"))))
      (AV (mOp Bt (mOp gIx (A0 0) (mC (.int 2))) (A0 3)))
      Am)
    (AV (mOp gIx (A0 0) (mC (.int 2)))))))))))
noncomputable def F_cost_at:List D->Hd->Option (D × Hd):=mkF 2 4 m_cost_at
noncomputable abbrev CQ:Stmt:=top 10
theorem sc_reached:FnScope ["pairs","a","found","fresh","at","one","other"] ["pairs","a"] (A8 CQ):=⟨rfl,rfl,rfl,by decide +kernel,rfl,by decide +kernel,by decide +kernel⟩
@[reducible] noncomputable def m_reached:MS:=(AA (AL 2 (B9 (BA A6)))
    (AA (AL 3 (B9 (BA (A2 (A0 1) A6))))
    (AA (DC (Em (A0 3))
      (AA (AL 4 (mMt Hi (A0 3) A6))
    (CJ (FK (A0 0)) (DQ 2 (B1 (AS 5) (B1 (AS 6) DR)))
      (Az (E2 (AI (mOp gEq (A0 5) (A0 4))) (AI (mOp (gIn true) (A0 6) (A0 2))))
      (AA (By (mMt BE (A0 2) (A2 (A0 6) A6)))
    (By (mMt BE (A0 3) (A2 (A0 6) A6))))
      Am))))
    (AV (CN Cd (EW (Dz (A0 2))))))))
noncomputable def F_reached:List D->Hd->Option (D × Hd):=mkF 2 7 m_reached
noncomputable abbrev Cs:Stmt:=top 11
theorem O1:FnScope ["many","wishes","a"] ["many","wishes","a"] (A8 Cs):=⟨rfl,rfl,rfl,by decide +kernel,rfl,by decide +kernel,by decide +kernel⟩
@[reducible] noncomputable def m_behind:MS:=(AV (AC 0 F_reached (A2 (A0 1) (A2 (A0 2) A6))))
noncomputable def F_behind:List D->Hd->Option (D × Hd):=mkF 3 3 m_behind
noncomputable abbrev BS:Stmt:=top 12
theorem sc_last_ones:FnScope ["many","wishes","some","told","u","later"] ["many","wishes","some"] (A8 BS):=⟨rfl,rfl,rfl,by decide +kernel,rfl,by decide +kernel,by decide +kernel⟩
@[reducible] noncomputable def HI:MS:=(AA (AL 3 (B9 (BA A6)))
    (AA (CJ (C1 (A0 2)) (AS 4)
      (AA (AL 5 (AC 0 F_behind (A2 (A0 0) (A2 (A0 1) (A2 (A0 4) A6)))))
    (Az (LG (Em (CN Qm (Bz 1 [5] (C1 (A0 2)) (AS 0) Dy (mOp (gIn false) (A0 0) (A0 1))))))
      (By (mMt BE (A0 3) (A2 (A0 4) A6)))
      Am)))
    (AV (mCB (f1 true Cd) (A2 (A0 3) A6)))))
noncomputable def CK:List D->Hd->Option (D × Hd):=mkF 3 6 HI
noncomputable abbrev BR:Stmt:=top 14
theorem Kl:FnScope ["works","some"] ["works","some"] (A8 BR):=⟨rfl,rfl,rfl,by decide +kernel,rfl,by decide +kernel,by decide +kernel⟩
@[reducible] noncomputable def HH:MS:=(AV (CN LN (Bz 1 [0] (C1 (A0 1)) (AS 0) Dy (mOp gIx (mOp gIx (A0 1) (A0 0)) (mC (.int 0))))))
noncomputable def BV:List D->Hd->Option (D × Hd):=mkF 2 2 HH
noncomputable abbrev BL:Stmt:=top 15
theorem sc_same_coming:FnScope ["works","coming"] ["works"] (A8 BL):=⟨rfl,rfl,rfl,by decide +kernel,rfl,by decide +kernel,by decide +kernel⟩
@[reducible] noncomputable def GF:MS:=(AA (AL 1 (mOp gIx (mOp gIx (A0 0) (mC (.int 0))) (mC (.int 1))))
    (AA (Az (Em (CN Qn (Bz 1 [1] (C1 (A0 0)) (AS 0) Dy (mOp gEq (mOp gIx (A0 0) (mC (.int 1))) (A0 1)))))
      (AV (A0 1))
      Am)
    (AV (mC .non))))
noncomputable def Ce:List D->Hd->Option (D × Hd):=mkF 1 2 GF
noncomputable abbrev BX:Stmt:=top 16
theorem sc_one_coming:FnScope ["works","coming"] ["works"] (A8 BX):=⟨rfl,rfl,rfl,by decide +kernel,rfl,by decide +kernel,by decide +kernel⟩
@[reducible] noncomputable def GP:MS:=(AA (AL 1 (AC 0 Ce (A2 (A0 0) A6)))
    (AA (Az (AI (LI false (A0 1)))
      LH
      Am)
    (AV (A0 1))))
noncomputable def DH:List D->Hd->Option (D × Hd):=mkF 1 2 GP
noncomputable abbrev Bo:Stmt:=top 18
theorem sc_bound_of:FnScope ["works","wishes","some","begins","end"] ["works","wishes","some"] (A8 Bo):=⟨rfl,rfl,rfl,by decide +kernel,rfl,by decide +kernel,by decide +kernel⟩
@[reducible] noncomputable def IK:MS:=(AA (AL 3 (AC 0 Fm (A2 (A0 0) (A2 (A0 1) A6))))
    (AA (AL 4 (mOp B7 (CN JK (Bz 1 [3] (C1 (A0 2)) (AS 0) Dy (mOp gIx (A0 1) (A0 0)))) (AC 0 BV (A2 (A0 0) (A2 (A0 2) A6)))))
    (AV (CN JK (Bz 1 [0,4] (C1 (AC 0 CK (A2 (mCB (f1 true Ci) (A2 (A0 0) A6)) (A2 (A0 1) (A2 (A0 2) A6))))) (AS 0) Dy (AC 0 F_cost_at (A2 (mOp gIx (mOp gIx (A0 1) (A0 0)) (mC (.int 2))) (A2 (A0 2) A6))))))))
noncomputable def Bp:List D->Hd->Option (D × Hd):=mkF 3 5 IK
noncomputable abbrev An:Stmt:=top 20
theorem HU:FnScope ["works","wishes","some","end"] ["works","wishes","some","end"] (A8 An):=⟨rfl,rfl,rfl,by decide +kernel,rfl,by decide +kernel,by decide +kernel⟩
@[reducible] noncomputable def FC:MS:=(AV (Fc (λ n m=>decide (n < m)) (AC 0 CK (A2 (mCB (f1 true Ci) (A2 (A0 0) A6)) (A2 (A0 1) (A2 (A0 2) A6)))) [3,0] (AC 0 F_cost_at (A2 (mOp gIx (mOp gIx (A0 2) (A0 0)) (mC (.int 2))) (A2 (A0 1) A6)))))
noncomputable def CI:List D->Hd->Option (D × Hd):=mkF 4 4 FC
noncomputable abbrev CP:Stmt:=top 21
theorem N5:FnScope ["some","u"] ["some","u"] (A8 CP):=⟨rfl,rfl,rfl,by decide +kernel,rfl,by decide +kernel,by decide +kernel⟩
@[reducible] noncomputable def Je:MS:=(AV (CN Cd (Bz 1 [1] (C1 (A0 0)) (AS 0) (AI (mOp gNe (A0 0) (A0 1))) (A0 0))))
noncomputable def EL:List D->Hd->Option (D × Hd):=mkF 2 2 Je
noncomputable abbrev Aj:Stmt:=top 22
theorem HG:FnScope ["works","wishes","sets"] ["works","wishes","sets"] (A8 Aj):=⟨rfl,rfl,rfl,by decide +kernel,rfl,by decide +kernel,by decide +kernel⟩
@[reducible] noncomputable def El:MS:=(AV (GQ (λ n m=>decide (n > m)) (A0 2) [0,1] (AC 0 Bp (A2 (A0 1) (A2 (A0 2) (A2 (A0 0) A6))))))
noncomputable def Bv:List D->Hd->Option (D × Hd):=mkF 3 3 El
noncomputable abbrev B4:Stmt:=top 24
theorem sc_greatest_order:FnScope ["works","wishes","coming","order","sets","left","u"] ["works","wishes"] (A8 B4):=⟨rfl,rfl,rfl,by decide +kernel,rfl,by decide +kernel,by decide +kernel⟩
@[reducible] noncomputable def Ek:MS:=(AA (AL 2 (AC 0 DH (A2 (A0 0) A6)))
    (AA (AL 3 (B9 (BA A6)))
    (AA (AL 4 (B9 (BA A6)))
    (AA (AL 5 (IL (A2 (mCB (f1 true Ci) (A2 (A0 0) A6)) A6)))
    (AA (DC (Em (A0 5))
      (AA (AL 6 (AC 0 CI (A2 (A0 0) (A2 (A0 1) (A2 (A0 5) (A2 (mOp B7 (A0 2) (AC 0 BV (A2 (A0 0) (A2 (A0 5) A6)))) A6))))))
    (AA (By (mMt Fg (A0 3) (A2 (mC (.int 0)) (A2 (A0 6) A6))))
    (AA (By (mMt BE (A0 4) (A2 (A0 5) A6)))
    (AL 5 (AC 0 EL (A2 (A0 5) (A2 (A0 6) A6))))))))
    (AV (DD (A2 (mCB (f1 true Cd) (A2 (A0 3) A6)) (A2 (E1 Bv (A2 (A0 0) (A2 (A0 1) (A2 (A0 4) A6)))) A6)))))))))
noncomputable def Bu:List D->Hd->Option (D × Hd):=mkF 2 7 Ek
noncomputable abbrev EF:Stmt:=top 26
theorem SF:FnScope ["_law_script"] ["_law_script"] (A8 EF):=⟨rfl,rfl,rfl,by decide +kernel,rfl,by decide +kernel,by decide +kernel⟩
@[reducible] noncomputable def OV:MS:=(AV (B9 (BA (A2 (B9 (IQ (LD (A0 0) Fb (IP (mC (.int 63)))))) (A2 (mC (.int 0)) (A2 (mC (.int 0)) A6))))))
noncomputable def Gh:List D->Hd->Option (D × Hd):=mkF 1 1 OV
noncomputable abbrev DS:Stmt:=top 27
theorem sc_next:FnScope ["_law_feed_here","_law_many","_law_digit","_law_at","_law_cell","_law_first"] ["_law_feed_here","_law_many"] (A8 DS):=⟨rfl,rfl,rfl,by decide +kernel,rfl,by decide +kernel,by decide +kernel⟩
@[reducible] noncomputable def OU:MS:=(AA (Az (AI (mOp gGt (mOp gIx (A0 0) (mC (.int 2))) (mC (.int 0))))
      (AA (AL 2 (mOp De (mOp gIx (A0 0) (mC (.int 2))) (A0 1)))
    (AA (FD (A0 0) (mC (.int 2)) (mOp Gz (mOp gIx (A0 0) (mC (.int 2))) (A0 1)))
    (AV (A0 2))))
      Am)
    (AA (AL 3 (mOp gIx (A0 0) (mC (.int 1))))
    (AA (FD (A0 0) (mC (.int 1)) (mOp B7 (A0 3) (mC (.int 1))))
    (AA (AL 4 (mIf (AI (G4 true (mOp gIx (A0 0) (mC (.int 0))) (BA A6))) (mOp gIx (mOp gIx (A0 0) (mC (.int 0))) (mOp De (A0 3) (mCB (f1 true Ci) (A2 (mOp gIx (A0 0) (mC (.int 0))) A6)))) (mC (.int 0))))
    (AA (Az (E2 (AI (mOp gGe (A0 4) (mOp Qs (mC (.int 10)) (mC (.int 18))))) (AI (mOp gLt (A0 3) (mCB (f1 true Ci) (A2 (mOp gIx (A0 0) (mC (.int 0))) A6)))))
      (AA (FD (A0 0) (mC (.int 2)) (mOp Gz (A0 4) (A0 1)))
    (AV (mOp De (A0 4) (A0 1))))
      Am)
    (AA (AL 5 (mOp De (mOp Bt (mOp B7 (mOp B7 (mOp B7 (mOp De (A0 4) (mC (.int 1000003))) (mOp Bt (mOp Bt (mC (.int 37)) (A0 3)) (A0 3))) (mOp Bt (mC (.int 13)) (A0 3))) (mC (.int 5))) (mC (.int 48271))) (mC (.int 999983))))
    (AV (mOp De (mOp Gz (mOp De (mOp Bt (mOp De (mOp B7 (mOp B7 (mOp Bt (A0 5) (A0 5)) (mOp Bt (mC (.int 7919)) (A0 3))) (mC (.int 11))) (mC (.int 2097143))) (mC (.int 69621))) (mC (.int 2147483629))) (mC (.int 7))) (A0 1)))))))))
noncomputable def Ao:List D->Hd->Option (D × Hd):=mkF 2 6 OU
noncomputable abbrev Dh:Stmt:=top 28
theorem Pi:FnScope [] [] (A8 Dh):=⟨rfl,rfl,rfl,by decide +kernel,rfl,by decide +kernel,by decide +kernel⟩
@[reducible] noncomputable def MQ:MS:=(AV (B9 (BA (A2 (mC (.str "late")) (A2 (mC (.str "tardy")) (A2 (mC (.str "miss")) (A2 (mC (.str "ends")) (A2 (mC (.str "steps")) A6))))))))
noncomputable def EZ:List D->Hd->Option (D × Hd):=mkF 0 0 MQ
noncomputable abbrev EG:Stmt:=top 29
theorem sc_cost:FnScope ["_law_feed_here","_law_words_here","_law_word","_law_dues","_law_due","_law_weight","_law_rows","_law_start","_law_height","_law_k"] ["_law_feed_here","_law_words_here"] (A8 EG):=⟨rfl,rfl,rfl,by decide +kernel,rfl,by decide +kernel,by decide +kernel⟩
@[reducible] noncomputable def OW:MS:=(AA (AL 2 (mOp gIx (A0 1) (AC 2 Ao (A2 (A0 0) (A2 (mCB (f1 true Ci) (A2 (A0 1) A6)) A6)))))
    (AA (AL 3 (B9 (BA (A2 (AC 2 Ao (A2 (A0 0) (A2 (mC (.int 40)) A6))) (A2 (AC 2 Ao (A2 (A0 0) (A2 (mC (.int 160)) A6))) (A2 (mOp ES (AC 2 Ao (A2 (A0 0) (A2 (mC (.int 500)) A6))) (mC (.int 99))) A6))))))
    (AA (AL 4 (mOp gIx (A0 3) (AC 2 Ao (A2 (A0 0) (A2 (mC (.int 3)) A6)))))
    (AA (AL 5 (AC 2 Ao (A2 (A0 0) (A2 (mC (.int 10)) A6))))
    (AA (Az (AI (mOp gEq (A0 2) (mC (.str "late"))))
      (AV (DD (A2 (A0 2) (A2 (A0 4) A6))))
      Am)
    (AA (Az (AI (mOp gEq (A0 2) (mC (.str "ends"))))
      (AV (DD (A2 (A0 2) (A2 (A0 5) A6))))
      Am)
    (AA (Az (AI (mOp gNe (A0 2) (mC (.str "steps"))))
      (AV (DD (A2 (A0 2) (A2 (A0 4) (A2 (A0 5) A6)))))
      Am)
    (AA (AL 6 (B9 (BA A6)))
    (AA (AL 7 (mOp ES (AC 2 Ao (A2 (A0 0) (A2 (mC (.int 140)) A6))) (mC (.int 100))))
    (AA (AL 8 (mC (.int 0)))
    (AA (CJ (EM (A2 (mOp B7 (mC (.int 1)) (AC 2 Ao (A2 (A0 0) (A2 (mC (.int 5)) A6)))) A6)) (AS 9)
      (AA (AL 7 (mOp B7 (mOp B7 (A0 7) (mC (.int 1))) (AC 2 Ao (A2 (A0 0) (A2 (mC (.int 60)) A6)))))
    (AA (AL 8 (mCB Ie (A2 (mC (.int 99)) (A2 (mOp B7 (A0 8) (AC 2 Ao (A2 (A0 0) (A2 (mC (.int 30)) A6)))) A6))))
    (By (mMt BE (A0 6) (A2 (DD (A2 (A0 7) (A2 (A0 8) A6))) A6))))))
    (AV (DD (A2 (A0 2) (A2 (mCB (f1 true Cd) (A2 (A0 6) A6)) A6)))))))))))))))
noncomputable def Gi:List D->Hd->Option (D × Hd):=mkF 2 10 OW
noncomputable abbrev Dg:Stmt:=top 30
theorem sc_works:FnScope ["_law_feed_here","_law_most","_law_words_here","_law_ways","_law_many","_law_longest","_law_way","_law_first","_law_works_here","_law_k","_law_comings"] ["_law_feed_here","_law_most","_law_words_here","_law_ways"] (A8 Dg):=⟨rfl,rfl,rfl,by decide +kernel,rfl,by decide +kernel,by decide +kernel⟩
@[reducible] noncomputable def MP:MS:=(AA (AL 4 (mOp B7 (mC (.int 1)) (AC 2 Ao (A2 (A0 0) (A2 (A0 1) A6)))))
    (AA (AL 5 (Hc (BA (A2 (mC (.int 3)) (A2 (mC (.int 20)) A6))) (AC 2 Ao (A2 (A0 0) (A2 (mC (.int 2)) A6)))))
    (AA (AL 6 (mOp gIx (A0 3) (AC 2 Ao (A2 (A0 0) (A2 (mCB (f1 true Ci) (A2 (A0 3) A6)) A6)))))
    (AA (AL 7 (AC 2 Ao (A2 (A0 0) (A2 (mC (.int 61)) A6))))
    (AA (AL 8 (B9 (BA A6)))
    (AA (CJ (EM (A2 (A0 4) A6)) (AS 9)
      (FZ (AA (AL 10 (B9 (BA (A2 (A0 7) (A2 (AC 2 Ao (A2 (A0 0) (A2 (mC (.int 8)) A6))) (A2 (AC 2 Ao (A2 (A0 0) (A2 (mC (.int 25)) A6))) (A2 (AC 2 Ao (A2 (A0 0) (A2 (mC (.int 61)) A6))) A6)))))))
    (By (mMt BE (A0 8) (A2 (DD (A2 (mOp B7 (mC (.int 1)) (AC 2 Ao (A2 (A0 0) (A2 (A0 5) A6)))) (A2 (mOp gIx (A0 10) (A0 6)) (A2 (AC 3 Gi (A2 (A0 0) (A2 (A0 2) A6))) A6)))) A6))))))
    (AV (mCB (f1 true Cd) (A2 (A0 8) A6)))))))))
noncomputable def Fk:List D->Hd->Option (D × Hd):=mkF 4 11 MP
noncomputable abbrev Cp:Stmt:=top 31
theorem sc_wishes:FnScope ["_law_feed_here","_law_many","_law_left","_law_seq","_law_way","_law_found","_law_k","_law_j"] ["_law_feed_here","_law_many"] (A8 Cp):=⟨rfl,rfl,rfl,by decide +kernel,rfl,by decide +kernel,by decide +kernel⟩
@[reducible] noncomputable def L8:MS:=(AA (AL 2 (B9 (Hb (A2 (A0 1) A6))))
    (AA (AL 3 (B9 (BA A6)))
    (AA (DC (AI (G4 true (A0 2) (BA A6)))
      (By (mMt BE (A0 3) (A2 (mMt GW (A0 2) (A2 (AC 2 Ao (A2 (A0 0) (A2 (mCB (f1 true Ci) (A2 (A0 2) A6)) A6))) A6)) A6))))
    (AA (AL 4 (AC 2 Ao (A2 (A0 0) (A2 (mC (.int 4)) A6))))
    (AA (AL 5 (B9 (BA A6)))
    (AA (CJ (EM (A2 (A0 1) A6)) (AS 6)
      (CJ (EM (A2 (A0 6) A6)) (AS 7)
      (Az (mOr (E2 (AI (mOp gEq (A0 4) (mC (.int 3)))) (AI (mOp gEq (A0 7) (mOp ES (A0 6) (mC (.int 1)))))) (E2 (AI (mOp (gIn false) (A0 4) (DD (A2 (mC (.int 1)) (A2 (mC (.int 2)) A6))))) (AI (mOp gEq (AC 2 Ao (A2 (A0 0) (A2 (Hc (BA (A2 (mC (.int 1)) (A2 (mC (.int 4)) (A2 (mC (.int 2)) A6)))) (A0 4)) A6))) (mC (.int 0))))))
      (By (mMt BE (A0 5) (A2 (DD (A2 (mOp gIx (A0 3) (A0 7)) (A2 (mOp gIx (A0 3) (A0 6)) A6))) A6)))
      Am)))
    (AV (CN Cd (LD (B9 (G3 (Dz (A0 5)))) Fb (IP (mC (.int 16))))))))))))
noncomputable def Es:List D->Hd->Option (D × Hd):=mkF 2 8 L8
noncomputable abbrev Dj:Stmt:=top 32
theorem Pk:FnScope ["_law_cost_here","_law_t"] ["_law_cost_here","_law_t"] (A8 Dj):=⟨rfl,rfl,rfl,by decide +kernel,rfl,by decide +kernel,by decide +kernel⟩
@[reducible] noncomputable def MU:MS:=(AA (Az (AI (mOp gEq (mOp gIx (A0 0) (mC (.int 0))) (mC (.str "late"))))
      (AV (mOp ES (A0 1) (mOp gIx (A0 0) (mC (.int 1)))))
      Am)
    (AA (Az (AI (mOp gEq (mOp gIx (A0 0) (mC (.int 0))) (mC (.str "tardy"))))
      (AV (mOp Bt (mOp gIx (A0 0) (mC (.int 2))) (mCB ET (A2 (mC (.int 0)) (A2 (mOp ES (A0 1) (mOp gIx (A0 0) (mC (.int 1)))) A6)))))
      Am)
    (AA (Az (AI (mOp gEq (mOp gIx (A0 0) (mC (.int 0))) (mC (.str "miss"))))
      (AV (mOp Bt (mOp gIx (A0 0) (mC (.int 2))) (mCB NW (A2 (mOp gGt (A0 1) (mOp gIx (A0 0) (mC (.int 1)))) A6))))
      Am)
    (AA (Az (AI (mOp gEq (mOp gIx (A0 0) (mC (.int 0))) (mC (.str "ends"))))
      (AV (mOp Bt (mOp gIx (A0 0) (mC (.int 1))) (A0 1)))
      Am)
    (AV (CN He (LJ (B9 (BA (A2 (mC (.int 0)) A6))) (B9 (Bz 2 [1] (C1 (mOp gIx (A0 0) (mC (.int 1)))) (DQ 2 (B1 (AS 0) (B1 (AS 1) DR))) (AI (mOp gLe (A0 0) (A0 2))) (A0 1))))))))))
noncomputable def DP:List D->Hd->Option (D × Hd):=mkF 2 2 MU
noncomputable abbrev CB:Stmt:=top 33
theorem Lp:FnScope ["_law_works_here","_law_ends"] ["_law_works_here","_law_ends"] (A8 CB):=⟨rfl,rfl,rfl,by decide +kernel,rfl,by decide +kernel,by decide +kernel⟩
@[reducible] noncomputable def IJ:MS:=(AV (CN He (Bz 1 [0,1] (EM (A2 (mCB (f1 true Ci) (A2 (A0 0) A6)) A6)) (AS 0) Dy (AC 0 DP (A2 (mOp gIx (mOp gIx (A0 1) (A0 0)) (mC (.int 2))) (A2 (mOp gIx (A0 2) (A0 0)) A6))))))
noncomputable def CZ:List D->Hd->Option (D × Hd):=mkF 2 2 IJ
noncomputable abbrev Cr:Stmt:=top 34
theorem sc_orders:FnScope ["_law_many","_law_wishes_here","_law_found","_law_turn","_law_longer","_law_row","_law_k","_law_firsts"] ["_law_many","_law_wishes_here"] (A8 Cr):=⟨rfl,rfl,rfl,by decide +kernel,rfl,by decide +kernel,by decide +kernel⟩
@[reducible] noncomputable def LB:MS:=(AA (AL 2 (B9 (BA (A2 (DD A6) A6))))
    (AA (CJ (EM (A2 (A0 0) A6)) (AS 3)
      (AA (AL 4 (B9 (BA A6)))
    (AA (CJ (Dz (A0 2)) (AS 5)
      (CJ (EM (A2 (A0 0) A6)) (AS 6)
      (FZ (AA (AL 7 (B9 (Bz 2 [6,5] (C1 (A0 1)) (DQ 2 (B1 (AS 0) (B1 (AS 1) DR))) (E2 (AI (mOp gEq (A0 1) (A0 2))) (AI (mOp (gIn true) (A0 0) (A0 3)))) (A0 0))))
    (Az (E2 (AI (mOp (gIn true) (A0 6) (A0 5))) (AI (G4 false (A0 7) (BA A6))))
      (By (mMt BE (A0 4) (A2 (mOp Rs (A0 5) (DD (A2 (A0 6) A6))) A6)))
      Am)))))
    (AL 2 (A0 4)))))
    (AV (A0 2))))
noncomputable def Eu:List D->Hd->Option (D × Hd):=mkF 2 8 LB
noncomputable abbrev CA:Stmt:=top 35
theorem sc_run_ends:FnScope ["_law_works_here","_law_order","_law_ends","_law_t","_law_k"] ["_law_works_here","_law_order"] (A8 CA):=⟨rfl,rfl,rfl,by decide +kernel,rfl,by decide +kernel,by decide +kernel⟩
@[reducible] noncomputable def II:MS:=(AA (AL 2 (B9 (LF (BA (A2 (mC (.int 0)) A6)) (mCB (f1 true Ci) (A2 (A0 0) A6)))))
    (AA (AL 3 (mC (.int 0)))
    (AA (CJ (C1 (A0 1)) (AS 4)
      (AA (AL 3 (mOp B7 (mCB ET (A2 (A0 3) (A2 (mOp gIx (mOp gIx (A0 0) (A0 4)) (mC (.int 1))) A6))) (mOp gIx (mOp gIx (A0 0) (A0 4)) (mC (.int 0)))))
    (FD (A0 2) (A0 4) (A0 3))))
    (AV (A0 2)))))
noncomputable def CY:List D->Hd->Option (D × Hd):=mkF 2 5 II
noncomputable abbrev EA:Stmt:=top 36
theorem sc_law:FnScope ["_law_script","_law_feed_here","_law_turn","_law_works_here","_law_wishes_here","_law_order","_law_some","_law_every","_law_least"] ["_law_script"] (A8 EA):=⟨rfl,rfl,rfl,by decide +kernel,rfl,by decide +kernel,by decide +kernel⟩
@[reducible] noncomputable def Rq:MS:=(AA (AL 1 (E1 Gh (A2 (A0 0) A6)))
    (AA (CJ (EM (A2 (mC (.int 2)) A6)) (AS 2)
      (FZ (AA (AL 3 (AC 4 Fk (A2 (A0 1) (A2 (mC (.int 5)) (A2 (AC 0 EZ A6) (A2 (B9 (BA (A2 (mC (.int 0)) A6))) A6))))))
    (AA (AL 4 (AC 2 Es (A2 (A0 1) (A2 (mCB (f1 true Ci) (A2 (A0 3) A6)) A6))))
    (AA (JH (AC 0 Bu (A2 (A0 3) (A2 (A0 4) A6))) (DQ 2 (B1 (AS 5) (B1 (AS 6) DR))))
    (AA (AL 7 (AC 0 Eu (A2 (mCB (f1 true Ci) (A2 (A0 3) A6)) (A2 (A0 4) A6))))
    (AA (AL 8 (CN JK (Bz 1 [3] (Dz (A0 7)) (AS 0) Dy (E1 CZ (A2 (A0 1) (A2 (AC 0 CY (A2 (A0 1) (A2 (A0 0) A6))) A6))))))
    (AA (Az (mOr (AI (mOp Ia (A0 5) (A0 7))) (AI (mOp gNe (E1 CZ (A2 (A0 3) (A2 (AC 0 CY (A2 (A0 3) (A2 (A0 5) A6))) A6))) (A0 8))))
      (AV (mC (.bl false)))
      Am)
    (Az (AI (mOp gNe (AC 0 Bp (A2 (A0 3) (A2 (A0 4) (A2 (A0 6) A6)))) (A0 8)))
      (AV (mC (.bl false)))
      Am)))))))))
    (AV (mC (.bl true)))))
noncomputable def F_law:List D->Hd->Option (D × Hd):=mkF 1 9 Rq
section
variable{P:Program}{w:World}{K:PySem.W.Frag}{mg:Str->Option Value}{base:Heap}
theorem ok_raised{f_raised:Addr}{d_raised:FuncData}(DA:DefAt K mg "raised" Cq f_raised d_raised ["works","wishes","some","t"]) (B:BltA mg):FnOk P w K mg base CX0 1 f_raised d_raised ["works","wishes","some","t"] (spF K 4 Et):=by
  refine Aq (N:=["works","wishes","some","t","told","within","turn","a","b"]) (m:=L9) DA sc_raised λ cdv A outer s H E hr=>?_
  exact⟨_,(A4 K (AG K (i:=4) sc_raised.nd rfl (by first|exact Or.inl rfl|exact Or.inr rfl) (QC K (loc:=["work"]) (fr:=["works","t"]) (ix:=[0,3]) rfl ⟨rfl,by decide +kernel,rfl,rfl,rfl,by decide +kernel⟩ (Bb K (qv K 2)) (λ _ _ _=>(AO K (i:=0) (show(["work","works","t"]:List Str).Nodup from by decide +kernel) rfl (by first|exact Or.inl rfl|exact Or.inr rfl))) (λ _ _ _=>(Du K)) (λ _ _ _=>(qv K 0)) (λ _ _ _=>(Bx K (FI rfl) Go B.max L2.bt_max (A1 K (AR K (AR K (qv K 1) (qv K 0)) (A7 K)) (A1 K (qv K 2) (A3 K)))))))
    (A4 K (by first|exact MC K (i:=5) (loc:=["a","b"]) (fr:=["told"]) (ix:=[4]) sc_raised.nd rfl rfl rfl ⟨rfl,by decide +kernel,rfl,rfl,rfl,by decide +kernel⟩ (Bb K (qv K 1)) (λ _ _ _=>(Dt K (n:=2) rfl (Ay K (AO K (i:=0) (show(["a","b","told"]:List Str).Nodup from by decide +kernel) rfl (by first|exact Or.inl rfl|exact Or.inr rfl)) (Ay K (AO K (i:=1) (show(["a","b","told"]:List Str).Nodup from by decide +kernel) rfl (by first|exact Or.inl rfl|exact Or.inr rfl)) (DK K))))) (λ _ _ _=>(FU K (QW.toT (Ds K (IF K (FF hr) (qv K 0) (qv K 2)) (DJ K (IF K (FF hr) (qv K 1) (qv K 2))))))) (λ _ _ _=>(CM K (A1 K (qv K 0) (A1 K (qv K 1) (A3 K)))))|exact AG K (i:=5) sc_raised.nd rfl (by first|exact Or.inl rfl|exact Or.inr rfl) (B0 K (C4 K (loc:=["a","b"]) (fr:=["told"]) (ix:=[4]) rfl ⟨rfl,by decide +kernel,rfl,rfl,rfl,by decide +kernel⟩ (Bb K (qv K 1)) (λ _ _ _=>(Dt K (n:=2) rfl (Ay K (AO K (i:=0) (show(["a","b","told"]:List Str).Nodup from by decide +kernel) rfl (by first|exact Or.inl rfl|exact Or.inr rfl)) (Ay K (AO K (i:=1) (show(["a","b","told"]:List Str).Nodup from by decide +kernel) rfl (by first|exact Or.inl rfl|exact Or.inr rfl)) (DK K))))) (λ _ _ _=>(FU K (QW.toT (Ds K (IF K (FF hr) (qv K 0) (qv K 2)) (DJ K (IF K (FF hr) (qv K 1) (qv K 2))))))) (λ _ _ _=>(CM K (A1 K (qv K 0) (A1 K (qv K 1) (A3 K))))))))
    (A4 K (CF K rfl (Bb K (qv K 2)) (AO K (i:=6) sc_raised.nd rfl (by first|exact Or.inl rfl|exact Or.inr rfl))
      (AB K (CF K rfl (JA K (qv K 5)) (Dt K (n:=2) rfl (Ay K (AO K (i:=7) sc_raised.nd rfl (by first|exact Or.inl rfl|exact Or.inr rfl)) (Ay K (AO K (i:=8) sc_raised.nd rfl (by first|exact Or.inl rfl|exact Or.inr rfl)) (DK K))))
      (AB K (Se K (FF hr) (qv K 4) (qv K 8) (Bx K (FI rfl) Go B.max L2.bt_max (A1 K (JB K (FF hr) (qv K 4) (qv K 8)) (A1 K (AW K ((Bc).or (B6 K)) (AN Ba BH) (JB K (FF hr) (qv K 4) (qv K 7)) (AR K (AR K (qv K 0) (qv K 7)) (A7 K))) (A3 K)))))))))
    (AB K (AQ K (K6 K (Bs K) Ct B.tuple L2.bt_tuple (C4 K (loc:=["work"]) (fr:=["told"]) (ix:=[4]) rfl ⟨rfl,by decide +kernel,rfl,rfl,rfl,by decide +kernel⟩ (Bb K (qv K 2)) (λ _ _ _=>(AO K (i:=0) (show(["work","told"]:List Str).Nodup from by decide +kernel) rfl (by first|exact Or.inl rfl|exact Or.inr rfl))) (λ _ _ _=>(Du K)) (λ _ _ _=>(JB K (FF hr) (qv K 1) (qv K 0))))))))))⟩
theorem ok_heads{f_heads f_raised:Addr}{d_heads d_raised:FuncData}(DA:DefAt K mg "heads" Di f_heads d_heads ["works","wishes"])(D_raised:DefAt K mg "raised" Cq f_raised d_raised ["works","wishes","some","t"])(G_raised:FnOk P w K mg base CX0 1 f_raised d_raised ["works","wishes","some","t"] (spF K 4 Et))(B:BltA mg):FnOk P w K mg base CX0 2 f_heads d_heads ["works","wishes"] (spF K 2 Fm):=by
  refine Aq (N:=["works","wishes"]) (m:=MR) DA Pj λ cdv A outer s H E hr=>?_
  exact⟨_,(AB K (AQ K (AD K 0 G_raised hr D_raised (A1 K (qv K 0) (A1 K (qv K 1) (A1 K (MJ K B.tuple B.range (A1 K (Bx K (BI K) (Cu CL) B.len L2.bt_len (A1 K (qv K 0) (A3 K))) (A3 K))) (A1 K (A7 K) (A3 K))))) AE)))⟩
theorem ok_steps_at{f_steps_at:Addr}{d_steps_at:FuncData}(DA:DefAt K mg "steps_at" C9 f_steps_at d_steps_at ["rows","t"]) (B:BltA mg):FnOk P w K mg base CX0 1 f_steps_at d_steps_at ["rows","t"] (spF K 2 F_steps_at):=by
  refine Aq (N:=["rows","t","told","begin","amount"]) (m:=m_steps_at) DA sc_steps_at λ cdv A outer s H E hr=>?_
  exact⟨_,(A4 K (AG K (i:=2) sc_steps_at.nd rfl (by first|exact Or.inl rfl|exact Or.inr rfl) (A7 K))
    (A4 K (CF K rfl (Bb K (qv K 0)) (Dt K (n:=2) rfl (Ay K (AO K (i:=3) sc_steps_at.nd rfl (by first|exact Or.inl rfl|exact Or.inr rfl)) (Ay K (AO K (i:=4) sc_steps_at.nd rfl (by first|exact Or.inl rfl|exact Or.inr rfl)) (DK K))))
      (A4 K (BJ K (Ai K NL NB (qv K 3) (qv K 1))
      (AB K (AQ K (qv K 2)))
      (Au K))
    (AB K (AG K (i:=2) sc_steps_at.nd rfl (by first|exact Or.inl rfl|exact Or.inr rfl) (qv K 4)))))
    (AB K (AQ K (qv K 2)))))⟩
theorem ok_cost_at{Be f_steps_at:Addr}{d_cost_at d_steps_at:FuncData}(DA:DefAt K mg "cost_at" CC Be d_cost_at ["cost","t"])(D_steps_at:DefAt K mg "steps_at" C9 f_steps_at d_steps_at ["rows","t"])(G_steps_at:FnOk P w K mg base CX0 1 f_steps_at d_steps_at ["rows","t"] (spF K 2 F_steps_at))(B:BltA mg):FnOk P w K mg base CX0 2 Be d_cost_at ["cost","t"] (spF K 2 F_cost_at):=by
  refine Aq (N:=["cost","t","word","above"]) (m:=m_cost_at) DA sc_cost_at λ cdv A outer s H E hr=>?_
  exact⟨_,(A4 K (AG K (i:=2) sc_cost_at.nd rfl (by first|exact Or.inl rfl|exact Or.inr rfl) (AR K (qv K 0) (A7 K)))
    (A4 K (BJ K (Ai K ((CG).or (BC K hr.units)) (AN BY BZ) (qv K 2) (Bm K))
      (AB K (AQ K (AD K 0 G_steps_at hr D_steps_at (A1 K (AR K (qv K 0) (A7 K)) (A1 K (qv K 1) (A3 K))) AE)))
      (Au K))
    (A4 K (BJ K (Ai K ((CG).or (BC K hr.units)) (AN BY BZ) (qv K 2) (Bm K))
      (AB K (AQ K (AW K Cc Cb (AR K (qv K 0) (A7 K)) (qv K 1))))
      (Au K))
    (A4 K (AG K (i:=3) sc_cost_at.nd rfl (by first|exact Or.inl rfl|exact Or.inr rfl) (AW K FW FT (qv K 1) (AR K (qv K 0) (A7 K))))
    (A4 K (BJ K (Ai K ((CG).or (BC K hr.units)) (AN BY BZ) (qv K 2) (Bm K))
      (AB K (AQ K (qv K 3)))
      (Au K))
    (A4 K (BJ K (Ai K Ro RZ (qv K 3) (A7 K))
      (AB K (AQ K (A7 K)))
      (Au K))
    (A4 K (BJ K (Ai K ((CG).or (BC K hr.units)) (AN BY BZ) (qv K 2) (Bm K))
      (AB K (AQ K (AW K Cc Cb (AR K (qv K 0) (A7 K)) (qv K 3))))
      (Au K))
    (AB K (AQ K (AR K (qv K 0) (A7 K)))))))))))⟩
theorem ok_reached{DG:Addr}{d_reached:FuncData}(DA:DefAt K mg "reached" CQ DG d_reached ["pairs","a"]) (B:BltA mg):FnOk P w K mg base CX0 1 DG d_reached ["pairs","a"] (spF K 2 F_reached):=by
  refine Aq (N:=["pairs","a","found","fresh","at","one","other"]) (m:=m_reached) DA sc_reached λ cdv A outer s H E hr=>?_
  exact⟨_,(A4 K (AG K (i:=2) sc_reached.nd rfl (by first|exact Or.inl rfl|exact Or.inr rfl) (B0 K (B5 K (A3 K))))
    (A4 K (AG K (i:=3) sc_reached.nd rfl (by first|exact Or.inl rfl|exact Or.inr rfl) (B0 K (B5 K (A1 K (qv K 1) (A3 K)))))
    (A4 K (HX K (Fw K (qv K 3))
      (A4 K (AG K (i:=4) sc_reached.nd rfl (by first|exact Or.inl rfl|exact Or.inr rfl) (Ue K PySem.F.slot_list_pop PySem.F.type_list_pop VD UE (qv K 3)))
    (AB K (CF K rfl (Uc K (qv K 0)) (Dt K (n:=2) rfl (Ay K (AO K (i:=5) sc_reached.nd rfl (by first|exact Or.inl rfl|exact Or.inr rfl)) (Ay K (AO K (i:=6) sc_reached.nd rfl (by first|exact Or.inl rfl|exact Or.inr rfl)) (DK K))))
      (AB K (BJ K (QW.toT (Ds K (Ai K ((CG).or (BC K hr.units)) (AN BY BZ) (qv K 5) (qv K 4)) (DJ K (Ai K (FA K) Gp (qv K 6) (qv K 2)))))
      (A4 K (Cf K (Dv K PySem.F.slot_list_append PySem.F.type_list_append Bq CD (qv K 2) (A1 K (qv K 6) (A3 K))))
    (AB K (Cf K (Dv K PySem.F.slot_list_append PySem.F.type_list_append Bq CD (qv K 3) (A1 K (qv K 6) (A3 K))))))
      (Au K)))))))
    (AB K (AQ K (K6 K (Bs K) Ct B.tuple L2.bt_tuple (NH K B.sorted (MD K (qv K 2)))))))))⟩
theorem ok_behind{Df DG:Addr}{d_behind d_reached:FuncData}(DA:DefAt K mg "behind" Cs Df d_behind ["many","wishes","a"])(D_reached:DefAt K mg "reached" CQ DG d_reached ["pairs","a"])(G_reached:FnOk P w K mg base CX0 1 DG d_reached ["pairs","a"] (spF K 2 F_reached))(B:BltA mg):FnOk P w K mg base CX0 2 Df d_behind ["many","wishes","a"] (spF K 3 F_behind):=by
  refine Aq (N:=["many","wishes","a"]) (m:=m_behind) DA O1 λ cdv A outer s H E hr=>?_
  exact⟨_,(AB K (AQ K (AD K 0 G_reached hr D_reached (A1 K (qv K 1) (A1 K (qv K 2) (A3 K))) AE)))⟩
theorem ok_last_ones{f_last_ones Df:Addr}{d_last_ones d_behind:FuncData}(DA:DefAt K mg "last_ones" BS f_last_ones d_last_ones ["many","wishes","some"])(D_behind:DefAt K mg "behind" Cs Df d_behind ["many","wishes","a"])(G_behind:FnOk P w K mg base CX0 2 Df d_behind ["many","wishes","a"] (spF K 3 F_behind))(B:BltA mg):FnOk P w K mg base CX0 3 f_last_ones d_last_ones ["many","wishes","some"] (spF K 3 CK):=by
  refine Aq (N:=["many","wishes","some","told","u","later"]) (m:=HI) DA sc_last_ones λ cdv A outer s H E hr=>?_
  exact⟨_,(A4 K (AG K (i:=3) sc_last_ones.nd rfl (by first|exact Or.inl rfl|exact Or.inr rfl) (B0 K (B5 K (A3 K))))
    (A4 K (CF K rfl (Bb K (qv K 2)) (AO K (i:=4) sc_last_ones.nd rfl (by first|exact Or.inl rfl|exact Or.inr rfl))
      (A4 K (AG K (i:=5) sc_last_ones.nd rfl (by first|exact Or.inl rfl|exact Or.inr rfl) (AD K 0 G_behind hr D_behind (A1 K (qv K 0) (A1 K (qv K 1) (A1 K (qv K 4) (A3 K)))) AE))
    (AB K (BJ K (UX K (Fw K (Ez K (P1 K rfl) UI B.any L2.bt_any (C4 K (loc:=["other"]) (fr:=["later"]) (ix:=[5]) rfl ⟨rfl,by decide +kernel,rfl,rfl,rfl,by decide +kernel⟩ (Bb K (qv K 2)) (λ _ _ _=>(AO K (i:=0) (show(["other","later"]:List Str).Nodup from by decide +kernel) rfl (by first|exact Or.inl rfl|exact Or.inr rfl))) (λ _ _ _=>(Du K)) (λ _ _ _=>(Ku K (OM K) Gp (qv K 0) (qv K 1)))))))
      (AB K (Cf K (Dv K PySem.F.slot_list_append PySem.F.type_list_append Bq CD (qv K 3) (A1 K (qv K 4) (A3 K)))))
      (Au K)))))
    (AB K (AQ K (IG K (Bs K) (Cu Ct) B.tuple L2.bt_tuple (A1 K (qv K 3) (A3 K)))))))⟩
theorem ok_length_of{f_length_of:Addr}{d_length_of:FuncData}(DA:DefAt K mg "length_of" BR f_length_of d_length_of ["works","some"]) (B:BltA mg):FnOk P w K mg base CX0 1 f_length_of d_length_of ["works","some"] (spF K 2 BV):=by
  refine Aq (N:=["works","some"]) (m:=HH) DA Kl λ cdv A outer s H E hr=>?_
  exact⟨_,(AB K (AQ K (Ez K ((Oy K rfl).or (Nh K rfl)) UH B.sum L2.bt_sum (C4 K (loc:=["j"]) (fr:=["works"]) (ix:=[0]) rfl ⟨rfl,by decide +kernel,rfl,rfl,rfl,by decide +kernel⟩ (Bb K (qv K 1)) (λ _ _ _=>(AO K (i:=0) (show(["j","works"]:List Str).Nodup from by decide +kernel) rfl (by first|exact Or.inl rfl|exact Or.inr rfl))) (λ _ _ _=>(Du K)) (λ _ _ _=>(AR K (AR K (qv K 1) (qv K 0)) (A7 K)))))))⟩
theorem ok_same_coming{f_same_coming:Addr}{d_same_coming:FuncData}(DA:DefAt K mg "same_coming" BL f_same_coming d_same_coming ["works"]) (B:BltA mg):FnOk P w K mg base CX0 1 f_same_coming d_same_coming ["works"] (spF K 1 Ce):=by
  refine Aq (N:=["works","coming"]) (m:=GF) DA sc_same_coming λ cdv A outer s H E hr=>?_
  exact⟨_,(A4 K (AG K (i:=1) sc_same_coming.nd rfl (by first|exact Or.inl rfl|exact Or.inr rfl) (AR K (AR K (qv K 0) (A7 K)) (A7 K)))
    (A4 K (BJ K (Fw K (Ez K (P2 K rfl) UJ B.all L2.bt_all (C4 K (loc:=["work"]) (fr:=["coming"]) (ix:=[1]) rfl ⟨rfl,by decide +kernel,rfl,rfl,rfl,by decide +kernel⟩ (Bb K (qv K 0)) (λ _ _ _=>(AO K (i:=0) (show(["work","coming"]:List Str).Nodup from by decide +kernel) rfl (by first|exact Or.inl rfl|exact Or.inr rfl))) (λ _ _ _=>(Du K)) (λ _ _ _=>(Ku K ((CG).or (BC K hr.units)) (AN BY BZ) (AR K (qv K 0) (A7 K)) (qv K 1))))))
      (AB K (AQ K (qv K 1)))
      (Au K))
    (AB K (AQ K (Ud K)))))⟩
theorem ok_one_coming{f_one_coming f_same_coming:Addr}{d_one_coming d_same_coming:FuncData}(DA:DefAt K mg "one_coming" BX f_one_coming d_one_coming ["works"])(D_same_coming:DefAt K mg "same_coming" BL f_same_coming d_same_coming ["works"])(G_same_coming:FnOk P w K mg base CX0 1 f_same_coming d_same_coming ["works"] (spF K 1 Ce))(B:BltA mg):FnOk P w K mg base CX0 2 f_one_coming d_one_coming ["works"] (spF K 1 DH):=by
  refine Aq (N:=["works","coming"]) (m:=GP) DA sc_one_coming λ cdv A outer s H E hr=>?_
  exact⟨_,(A4 K (AG K (i:=1) sc_one_coming.nd rfl (by first|exact Or.inl rfl|exact Or.inr rfl) (AD K 0 G_same_coming hr D_same_coming (A1 K (qv K 0) (A3 K)) AE))
    (A4 K (BJ K (UY K (qv K 1))
      (AB K (Q6 K))
      (Au K))
    (AB K (AQ K (qv K 1)))))⟩
theorem ok_bound_of{f_bound_of f_heads Be f_last_ones f_length_of:Addr}{d_bound_of d_heads d_cost_at d_last_ones d_length_of:FuncData}(DA:DefAt K mg "bound_of" Bo f_bound_of d_bound_of ["works","wishes","some"])(D_heads:DefAt K mg "heads" Di f_heads d_heads ["works","wishes"])(G_heads:FnOk P w K mg base CX0 2 f_heads d_heads ["works","wishes"] (spF K 2 Fm))(D_cost_at:DefAt K mg "cost_at" CC Be d_cost_at ["cost","t"])(G_cost_at:FnOk P w K mg base CX0 2 Be d_cost_at ["cost","t"] (spF K 2 F_cost_at))(D_last_ones:DefAt K mg "last_ones" BS f_last_ones d_last_ones ["many","wishes","some"])(G_last_ones:FnOk P w K mg base CX0 3 f_last_ones d_last_ones ["many","wishes","some"] (spF K 3 CK))(D_length_of:DefAt K mg "length_of" BR f_length_of d_length_of ["works","some"])(G_length_of:FnOk P w K mg base CX0 1 f_length_of d_length_of ["works","some"] (spF K 2 BV))(B:BltA mg):FnOk P w K mg base CX0 4 f_bound_of d_bound_of ["works","wishes","some"] (spF K 3 Bp):=by
  refine Aq (N:=["works","wishes","some","begins","end"]) (m:=IK) DA sc_bound_of λ cdv A outer s H E hr=>?_
  exact⟨_,(A4 K (AG K (i:=3) sc_bound_of.nd rfl (by first|exact Or.inl rfl|exact Or.inr rfl) (AD K 0 G_heads hr D_heads (A1 K (qv K 0) (A1 K (qv K 1) (A3 K))) AE))
    (A4 K (AG K (i:=4) sc_bound_of.nd rfl (by first|exact Or.inl rfl|exact Or.inr rfl) (AW K ((Bc).or (B6 K)) (AN Ba BH) (Ez K (Gb K rfl) Ko B.min L2.bt_min (C4 K (loc:=["work"]) (fr:=["begins"]) (ix:=[3]) rfl ⟨rfl,by decide +kernel,rfl,rfl,rfl,by decide +kernel⟩ (Bb K (qv K 2)) (λ _ _ _=>(AO K (i:=0) (show(["work","begins"]:List Str).Nodup from by decide +kernel) rfl (by first|exact Or.inl rfl|exact Or.inr rfl))) (λ _ _ _=>(Du K)) (λ _ _ _=>(AR K (qv K 1) (qv K 0))))) (AD K 0 G_length_of hr D_length_of (A1 K (qv K 0) (A1 K (qv K 2) (A3 K))) AE)))
    (AB K (AQ K (Ez K (Gb K rfl) Ko B.min L2.bt_min (C4 K (loc:=["u"]) (fr:=["works","end"]) (ix:=[0,4]) rfl ⟨rfl,by decide +kernel,rfl,rfl,rfl,by decide +kernel⟩ (Bb K (AD K 0 G_last_ones hr D_last_ones (A1 K (Bx K (BI K) (Cu CL) B.len L2.bt_len (A1 K (qv K 0) (A3 K))) (A1 K (qv K 1) (A1 K (qv K 2) (A3 K)))) AE)) (λ _ _ _=>(AO K (i:=0) (show(["u","works","end"]:List Str).Nodup from by decide +kernel) rfl (by first|exact Or.inl rfl|exact Or.inr rfl))) (λ _ _ _=>(Du K)) (λ _ _ _=>(AD K 0 G_cost_at hr D_cost_at (A1 K (AR K (AR K (qv K 1) (qv K 0)) (A7 K)) (A1 K (qv K 2) (A3 K))) AE))))))))⟩
theorem ok_cheapest_last{f_cheapest_last Be f_last_ones:Addr}{d_cheapest_last d_cost_at d_last_ones:FuncData}(DA:DefAt K mg "cheapest_last" An f_cheapest_last d_cheapest_last ["works","wishes","some","end"])(D_cost_at:DefAt K mg "cost_at" CC Be d_cost_at ["cost","t"])(G_cost_at:FnOk P w K mg base CX0 2 Be d_cost_at ["cost","t"] (spF K 2 F_cost_at))(D_last_ones:DefAt K mg "last_ones" BS f_last_ones d_last_ones ["many","wishes","some"])(G_last_ones:FnOk P w K mg base CX0 3 f_last_ones d_last_ones ["many","wishes","some"] (spF K 3 CK)){c_cheapest_last P_cheapest_last:Addr}(LC:LamC K mg base d_cheapest_last c_cheapest_last P_cheapest_last ((("cheapest_last":Str) ++ ".<locals>.") ++ "<lambda>") ⟨80,56,80,91⟩)(B:BltA mg):FnOk P w K mg base CX0 6 f_cheapest_last d_cheapest_last ["works","wishes","some","end"] (spF K 4 CI):=by
  refine Ky (N:=["works","wishes","some","end"]) (m:=FC) DA HU λ cdv A outer s H E hcd hr=>?_
  exact⟨_,(AB K (AQ K (Q9 K (prm:="u") (fr:=["end","works"]) (ix:=[3,0]) ⟨hcd.symm.trans LC.code,LC.hd,LC.bl⟩ LC.ti ⟨rfl,by decide +kernel,rfl,rfl,rfl,by decide +kernel⟩ ⟨rfl,rfl,rfl,rfl⟩ hr (by decide) B.min (AD K 0 G_last_ones hr D_last_ones (A1 K (Bx K (BI K) (Cu CL) B.len L2.bt_len (A1 K (qv K 0) (A3 K))) (A1 K (qv K 1) (A1 K (qv K 2) (A3 K)))) AE) (λ _ _ _ _=>(AD K 0 G_cost_at (hr.in1.deeper _) D_cost_at (A1 K (AR K (AR K (qv K 2) (qv K 0)) (A7 K)) (A1 K (qv K 1) (A3 K))) AE)) (λ _ _ _ _ _=>rfl))))⟩
theorem ok_without{f_without:Addr}{d_without:FuncData}(DA:DefAt K mg "without" CP f_without d_without ["some","u"]) (B:BltA mg):FnOk P w K mg base CX0 1 f_without d_without ["some","u"] (spF K 2 EL):=by
  refine Aq (N:=["some","u"]) (m:=Je) DA N5 λ cdv A outer s H E hr=>?_
  exact⟨_,(AB K (AQ K (K6 K (Bs K) Ct B.tuple L2.bt_tuple (C4 K (loc:=["work"]) (fr:=["u"]) (ix:=[1]) rfl ⟨rfl,by decide +kernel,rfl,rfl,rfl,by decide +kernel⟩ (Bb K (qv K 0)) (λ _ _ _=>(AO K (i:=0) (show(["work","u"]:List Str).Nodup from by decide +kernel) rfl (by first|exact Or.inl rfl|exact Or.inr rfl))) (λ _ _ _=>(FU K (Ai K ((K8).or (FX K hr.units)) (AN Hz I0) (qv K 0) (qv K 1)))) (λ _ _ _=>(qv K 0))))))⟩
theorem ok_greatest_bound{f_greatest_bound f_bound_of:Addr}{d_greatest_bound d_bound_of:FuncData}(DA:DefAt K mg "greatest_bound" Aj f_greatest_bound d_greatest_bound ["works","wishes","sets"])(D_bound_of:DefAt K mg "bound_of" Bo f_bound_of d_bound_of ["works","wishes","some"])(G_bound_of:FnOk P w K mg base CX0 4 f_bound_of d_bound_of ["works","wishes","some"] (spF K 3 Bp)){c_greatest_bound P_greatest_bound:Addr}(LC:LamC K mg base d_greatest_bound c_greatest_bound P_greatest_bound ((("greatest_bound":Str) ++ ".<locals>.") ++ "<lambda>") ⟨84,25,84,67⟩)(B:BltA mg):FnOk P w K mg base CX0 7 f_greatest_bound d_greatest_bound ["works","wishes","sets"] (spF K 3 Bv):=by
  refine Ky (N:=["works","wishes","sets"]) (m:=El) DA HG λ cdv A outer s H E hcd hr=>?_
  exact⟨_,(AB K (AQ K (Sf K (prm:="some") (fr:=["works","wishes"]) (ix:=[0,1]) ⟨hcd.symm.trans LC.code,LC.hd,LC.bl⟩ LC.ti ⟨rfl,by decide +kernel,rfl,rfl,rfl,by decide +kernel⟩ ⟨rfl,rfl,rfl,rfl⟩ hr (by decide) B.max (qv K 2) (λ _ _ _ _=>(AD K 0 G_bound_of (hr.in1.deeper _) D_bound_of (A1 K (qv K 1) (A1 K (qv K 2) (A1 K (qv K 0) (A3 K)))) AE)) (λ _ _ _ _ _=>rfl))))⟩
theorem ok_greatest_order{f_greatest_order f_length_of f_one_coming f_cheapest_last f_without f_greatest_bound:Addr}{d_greatest_order d_length_of d_one_coming d_cheapest_last d_without d_greatest_bound:FuncData}(DA:DefAt K mg "greatest_order" B4 f_greatest_order d_greatest_order ["works","wishes"])(D_length_of:DefAt K mg "length_of" BR f_length_of d_length_of ["works","some"])(G_length_of:FnOk P w K mg base CX0 1 f_length_of d_length_of ["works","some"] (spF K 2 BV))(D_one_coming:DefAt K mg "one_coming" BX f_one_coming d_one_coming ["works"])(G_one_coming:FnOk P w K mg base CX0 2 f_one_coming d_one_coming ["works"] (spF K 1 DH))(D_cheapest_last:DefAt K mg "cheapest_last" An f_cheapest_last d_cheapest_last ["works","wishes","some","end"])(G_cheapest_last:FnOk P w K mg base CX0 6 f_cheapest_last d_cheapest_last ["works","wishes","some","end"] (spF K 4 CI))(D_without:DefAt K mg "without" CP f_without d_without ["some","u"])(G_without:FnOk P w K mg base CX0 1 f_without d_without ["some","u"] (spF K 2 EL))(D_greatest_bound:DefAt K mg "greatest_bound" Aj f_greatest_bound d_greatest_bound ["works","wishes","sets"])(G_greatest_bound:FnOk P w K mg base CX0 7 f_greatest_bound d_greatest_bound ["works","wishes","sets"] (spF K 3 Bv))(B:BltA mg):FnOk P w K mg base CX0 8 f_greatest_order d_greatest_order ["works","wishes"] (spF K 2 Bu):=by
  refine Aq (N:=["works","wishes","coming","order","sets","left","u"]) (m:=Ek) DA sc_greatest_order λ cdv A outer s H E hr=>?_
  exact⟨_,(A4 K (AG K (i:=2) sc_greatest_order.nd rfl (by first|exact Or.inl rfl|exact Or.inr rfl) (AD K 0 G_one_coming hr D_one_coming (A1 K (qv K 0) (A3 K)) AE))
    (A4 K (AG K (i:=3) sc_greatest_order.nd rfl (by first|exact Or.inl rfl|exact Or.inr rfl) (B0 K (B5 K (A3 K))))
    (A4 K (AG K (i:=4) sc_greatest_order.nd rfl (by first|exact Or.inl rfl|exact Or.inr rfl) (B0 K (B5 K (A3 K))))
    (A4 K (AG K (i:=5) sc_greatest_order.nd rfl (by first|exact Or.inl rfl|exact Or.inr rfl) (MJ K B.tuple B.range (A1 K (Bx K (BI K) (Cu CL) B.len L2.bt_len (A1 K (qv K 0) (A3 K))) (A3 K))))
    (A4 K (HX K (Fw K (qv K 5))
      (A4 K (AG K (i:=6) sc_greatest_order.nd rfl (by first|exact Or.inl rfl|exact Or.inr rfl) (AD K 0 G_cheapest_last hr D_cheapest_last (A1 K (qv K 0) (A1 K (qv K 1) (A1 K (qv K 5) (A1 K (AW K ((Bc).or (B6 K)) (AN Ba BH) (qv K 2) (AD K 0 G_length_of hr D_length_of (A1 K (qv K 0) (A1 K (qv K 5) (A3 K))) AE)) (A3 K))))) AE))
    (A4 K (Cf K (Dv K PySem.F.slot_list_insert PySem.F.type_list_insert OR O3 (qv K 3) (A1 K (A7 K) (A1 K (qv K 6) (A3 K)))))
    (A4 K (Cf K (Dv K PySem.F.slot_list_append PySem.F.type_list_append Bq CD (qv K 4) (A1 K (qv K 5) (A3 K))))
    (AB K (AG K (i:=5) sc_greatest_order.nd rfl (by first|exact Or.inl rfl|exact Or.inr rfl) (AD K 0 G_without hr D_without (A1 K (qv K 5) (A1 K (qv K 6) (A3 K))) AE)))))))
    (AB K (AQ K (CM K (A1 K (IG K (Bs K) (Cu Ct) B.tuple L2.bt_tuple (A1 K (qv K 3) (A3 K))) (A1 K (Fx K G_greatest_bound hr D_greatest_bound (A1 K (qv K 0) (A1 K (qv K 1) (A1 K (qv K 4) (A3 K)))) AE) (A3 K)))))))))))⟩
theorem ok_feed{f_feed:Addr}{d_feed:FuncData}(DA:DefAt K mg "_law_feed" EF f_feed d_feed ["_law_script"]) (B:BltA mg):FnOk P w K mg base CX0 1 f_feed d_feed ["_law_script"] (spF K 1 Gh):=by
  refine Aq (N:=["_law_script"]) (m:=OV) DA SF λ cdv A outer s H E hr=>?_
  exact⟨_,(AB K (AQ K (B0 K (B5 K (A1 K (B0 K (Q8 K B.list (OA K (qv K 0) (MH K) (MF K (A7 K))))) (A1 K (A7 K) (A1 K (A7 K) (A3 K))))))))⟩
theorem ok_next{f_next:Addr}{d_next:FuncData}(DA:DefAt K mg "_law_next" DS f_next d_next ["_law_feed_here","_law_many"]) (B:BltA mg):FnOk P w K mg base CX0 1 f_next d_next ["_law_feed_here","_law_many"] (spF K 2 Ao):=by
  refine Aq (N:=["_law_feed_here","_law_many","_law_digit","_law_at","_law_cell","_law_first"]) (m:=OU) DA sc_next λ cdv A outer s H E hr=>?_
  exact⟨_,(A4 K (BJ K (Ai K NL NB (AR K (qv K 0) (A7 K)) (A7 K))
      (A4 K (AG K (i:=2) sc_next.nd rfl (by first|exact Or.inl rfl|exact Or.inr rfl) (AW K EI EH (AR K (qv K 0) (A7 K)) (qv K 1)))
    (A4 K (Gs K (qv K 0) (A7 K) (AW K JE Iy (AR K (qv K 0) (A7 K)) (qv K 1)))
    (AB K (AQ K (qv K 2)))))
      (Au K))
    (A4 K (AG K (i:=3) sc_next.nd rfl (by first|exact Or.inl rfl|exact Or.inr rfl) (AR K (qv K 0) (A7 K)))
    (A4 K (Gs K (qv K 0) (A7 K) (AW K ((Bc).or (B6 K)) (AN Ba BH) (qv K 3) (A7 K)))
    (A4 K (AG K (i:=4) sc_next.nd rfl (by first|exact Or.inl rfl|exact Or.inr rfl) (QB K (J9 K (OK K hr.units) (AR K (qv K 0) (A7 K)) (B5 K (A3 K))) (AR K (AR K (qv K 0) (A7 K)) (AW K EI EH (qv K 3) (Bx K (BI K) (Cu CL) B.len L2.bt_len (A1 K (AR K (qv K 0) (A7 K)) (A3 K))))) (A7 K)))
    (A4 K (BJ K (QW.toT (Ds K (Ai K Vz Vs (qv K 4) (AW K V5 US (A7 K) (A7 K))) (DJ K (Ai K Vy Vq (qv K 3) (Bx K (BI K) (Cu CL) B.len L2.bt_len (A1 K (AR K (qv K 0) (A7 K)) (A3 K)))))))
      (A4 K (Gs K (qv K 0) (A7 K) (AW K JE Iy (qv K 4) (qv K 1)))
    (AB K (AQ K (AW K EI EH (qv K 4) (qv K 1)))))
      (Au K))
    (A4 K (AG K (i:=5) sc_next.nd rfl (by first|exact Or.inl rfl|exact Or.inr rfl) (AW K EI EH (AW K Cc Cb (AW K ((Bc).or (B6 K)) (AN Ba BH) (AW K ((Bc).or (B6 K)) (AN Ba BH) (AW K ((Bc).or (B6 K)) (AN Ba BH) (AW K EI EH (qv K 4) (A7 K)) (AW K Cc Cb (AW K Cc Cb (A7 K) (qv K 3)) (qv K 3))) (AW K Cc Cb (A7 K) (qv K 3))) (A7 K)) (A7 K)) (A7 K)))
    (AB K (AQ K (AW K EI EH (AW K JE Iy (AW K EI EH (AW K Cc Cb (AW K EI EH (AW K ((Bc).or (B6 K)) (AN Ba BH) (AW K ((Bc).or (B6 K)) (AN Ba BH) (AW K Cc Cb (qv K 5) (qv K 5)) (AW K Cc Cb (A7 K) (qv K 3))) (A7 K)) (A7 K)) (A7 K)) (A7 K)) (A7 K)) (qv K 1))))))))))⟩
theorem ok_words{f_words:Addr}{d_words:FuncData}(DA:DefAt K mg "_law_words" Dh f_words d_words []) (B:BltA mg):FnOk P w K mg base CX0 1 f_words d_words [] (spF K 0 EZ):=by
  refine Aq (N:=[]) (m:=MQ) DA Pi λ cdv A outer s H E hr=>?_
  exact⟨_,(AB K (AQ K (B0 K (B5 K (A1 K (Bm K) (A1 K (Bm K) (A1 K (Bm K) (A1 K (Bm K) (A1 K (Bm K) (A3 K))))))))))⟩
theorem ok_cost{f_cost f_next:Addr}{d_cost d_next:FuncData}(DA:DefAt K mg "_law_cost" EG f_cost d_cost ["_law_feed_here","_law_words_here"])(D_next:DefAt K mg "_law_next" DS f_next d_next ["_law_feed_here","_law_many"])(G_next:FnOk P w K mg base CX0 1 f_next d_next ["_law_feed_here","_law_many"] (spF K 2 Ao))(B:BltA mg):FnOk P w K mg base CX0 2 f_cost d_cost ["_law_feed_here","_law_words_here"] (spF K 2 Gi):=by
  refine Aq (N:=["_law_feed_here","_law_words_here","_law_word","_law_dues","_law_due","_law_weight","_law_rows","_law_start","_law_height","_law_k"]) (m:=OW) DA sc_cost λ cdv A outer s H E hr=>?_
  exact⟨_,(A4 K (AG K (i:=2) sc_cost.nd rfl (by first|exact Or.inl rfl|exact Or.inr rfl) (AR K (qv K 1) (AD K 2 G_next hr D_next (A1 K (qv K 0) (A1 K (Bx K (BI K) (Cu CL) B.len L2.bt_len (A1 K (qv K 1) (A3 K))) (A3 K))) AE)))
    (A4 K (AG K (i:=3) sc_cost.nd rfl (by first|exact Or.inl rfl|exact Or.inr rfl) (B0 K (B5 K (A1 K (AD K 2 G_next hr D_next (A1 K (qv K 0) (A1 K (A7 K) (A3 K))) AE) (A1 K (AD K 2 G_next hr D_next (A1 K (qv K 0) (A1 K (A7 K) (A3 K))) AE) (A1 K (AW K FW FT (AD K 2 G_next hr D_next (A1 K (qv K 0) (A1 K (A7 K) (A3 K))) AE) (A7 K)) (A3 K)))))))
    (A4 K (AG K (i:=4) sc_cost.nd rfl (by first|exact Or.inl rfl|exact Or.inr rfl) (AR K (qv K 3) (AD K 2 G_next hr D_next (A1 K (qv K 0) (A1 K (A7 K) (A3 K))) AE)))
    (A4 K (AG K (i:=5) sc_cost.nd rfl (by first|exact Or.inl rfl|exact Or.inr rfl) (AD K 2 G_next hr D_next (A1 K (qv K 0) (A1 K (A7 K) (A3 K))) AE))
    (A4 K (BJ K (Ai K ((CG).or (BC K hr.units)) (AN BY BZ) (qv K 2) (Bm K))
      (AB K (AQ K (CM K (A1 K (qv K 2) (A1 K (qv K 4) (A3 K))))))
      (Au K))
    (A4 K (BJ K (Ai K ((CG).or (BC K hr.units)) (AN BY BZ) (qv K 2) (Bm K))
      (AB K (AQ K (CM K (A1 K (qv K 2) (A1 K (qv K 5) (A3 K))))))
      (Au K))
    (A4 K (BJ K (Ai K ((K8).or (FX K hr.units)) (AN Hz I0) (qv K 2) (Bm K))
      (AB K (AQ K (CM K (A1 K (qv K 2) (A1 K (qv K 4) (A1 K (qv K 5) (A3 K)))))))
      (Au K))
    (A4 K (AG K (i:=6) sc_cost.nd rfl (by first|exact Or.inl rfl|exact Or.inr rfl) (B0 K (B5 K (A3 K))))
    (A4 K (AG K (i:=7) sc_cost.nd rfl (by first|exact Or.inl rfl|exact Or.inr rfl) (AW K FW FT (AD K 2 G_next hr D_next (A1 K (qv K 0) (A1 K (A7 K) (A3 K))) AE) (A7 K)))
    (A4 K (AG K (i:=8) sc_cost.nd rfl (by first|exact Or.inl rfl|exact Or.inr rfl) (A7 K))
    (A4 K (CF K rfl (Dl K B.range (A1 K (AW K ((Bc).or (B6 K)) (AN Ba BH) (A7 K) (AD K 2 G_next hr D_next (A1 K (qv K 0) (A1 K (A7 K) (A3 K))) AE)) (A3 K))) (AO K (i:=9) sc_cost.nd rfl (by first|exact Or.inl rfl|exact Or.inr rfl))
      (A4 K (AG K (i:=7) sc_cost.nd rfl (by first|exact Or.inl rfl|exact Or.inr rfl) (AW K ((Bc).or (B6 K)) (AN Ba BH) (AW K ((Bc).or (B6 K)) (AN Ba BH) (qv K 7) (A7 K)) (AD K 2 G_next hr D_next (A1 K (qv K 0) (A1 K (A7 K) (A3 K))) AE)))
    (A4 K (AG K (i:=8) sc_cost.nd rfl (by first|exact Or.inl rfl|exact Or.inr rfl) (Bx K (Oz rfl) SR B.min L2.bt_min (A1 K (A7 K) (A1 K (AW K ((Bc).or (B6 K)) (AN Ba BH) (qv K 8) (AD K 2 G_next hr D_next (A1 K (qv K 0) (A1 K (A7 K) (A3 K))) AE)) (A3 K)))))
    (AB K (Cf K (Dv K PySem.F.slot_list_append PySem.F.type_list_append Bq CD (qv K 6) (A1 K (CM K (A1 K (qv K 7) (A1 K (qv K 8) (A3 K)))) (A3 K))))))))
    (AB K (AQ K (CM K (A1 K (qv K 2) (A1 K (IG K (Bs K) (Cu Ct) B.tuple L2.bt_tuple (A1 K (qv K 6) (A3 K))) (A3 K)))))))))))))))))⟩
theorem ok_works{f_works f_next f_cost:Addr}{d_works d_next d_cost:FuncData}(DA:DefAt K mg "_law_works" Dg f_works d_works ["_law_feed_here","_law_most","_law_words_here","_law_ways"])(D_next:DefAt K mg "_law_next" DS f_next d_next ["_law_feed_here","_law_many"])(G_next:FnOk P w K mg base CX0 1 f_next d_next ["_law_feed_here","_law_many"] (spF K 2 Ao))(D_cost:DefAt K mg "_law_cost" EG f_cost d_cost ["_law_feed_here","_law_words_here"])(G_cost:FnOk P w K mg base CX0 2 f_cost d_cost ["_law_feed_here","_law_words_here"] (spF K 2 Gi))(B:BltA mg):FnOk P w K mg base CX0 3 f_works d_works ["_law_feed_here","_law_most","_law_words_here","_law_ways"] (spF K 4 Fk):=by
  refine Aq (N:=["_law_feed_here","_law_most","_law_words_here","_law_ways","_law_many","_law_longest","_law_way","_law_first","_law_works_here","_law_k","_law_comings"]) (m:=MP) DA sc_works λ cdv A outer s H E hr=>?_
  exact⟨_,(A4 K (AG K (i:=4) sc_works.nd rfl (by first|exact Or.inl rfl|exact Or.inr rfl) (AW K ((Bc).or (B6 K)) (AN Ba BH) (A7 K) (AD K 2 G_next hr D_next (A1 K (qv K 0) (A1 K (qv K 1) (A3 K))) AE)))
    (A4 K (AG K (i:=5) sc_works.nd rfl (by first|exact Or.inl rfl|exact Or.inr rfl) (OB K (B5 K (A1 K (A7 K) (A1 K (A7 K) (A3 K)))) (AD K 2 G_next hr D_next (A1 K (qv K 0) (A1 K (A7 K) (A3 K))) AE)))
    (A4 K (AG K (i:=6) sc_works.nd rfl (by first|exact Or.inl rfl|exact Or.inr rfl) (AR K (qv K 3) (AD K 2 G_next hr D_next (A1 K (qv K 0) (A1 K (Bx K (BI K) (Cu CL) B.len L2.bt_len (A1 K (qv K 3) (A3 K))) (A3 K))) AE)))
    (A4 K (AG K (i:=7) sc_works.nd rfl (by first|exact Or.inl rfl|exact Or.inr rfl) (AD K 2 G_next hr D_next (A1 K (qv K 0) (A1 K (A7 K) (A3 K))) AE))
    (A4 K (AG K (i:=8) sc_works.nd rfl (by first|exact Or.inl rfl|exact Or.inr rfl) (B0 K (B5 K (A3 K))))
    (A4 K (CF K rfl (Dl K B.range (A1 K (qv K 4) (A3 K))) (AO K (i:=9) sc_works.nd rfl (by first|exact Or.inl rfl|exact Or.inr rfl))
      (GL K (A4 K (AG K (i:=10) sc_works.nd rfl (by first|exact Or.inl rfl|exact Or.inr rfl) (B0 K (B5 K (A1 K (qv K 7) (A1 K (AD K 2 G_next hr D_next (A1 K (qv K 0) (A1 K (A7 K) (A3 K))) AE) (A1 K (AD K 2 G_next hr D_next (A1 K (qv K 0) (A1 K (A7 K) (A3 K))) AE) (A1 K (AD K 2 G_next hr D_next (A1 K (qv K 0) (A1 K (A7 K) (A3 K))) AE) (A3 K))))))))
    (AB K (Cf K (Dv K PySem.F.slot_list_append PySem.F.type_list_append Bq CD (qv K 8) (A1 K (CM K (A1 K (AW K ((Bc).or (B6 K)) (AN Ba BH) (A7 K) (AD K 2 G_next hr D_next (A1 K (qv K 0) (A1 K (qv K 5) (A3 K))) AE)) (A1 K (AR K (qv K 10) (qv K 6)) (A1 K (AD K 3 G_cost hr D_cost (A1 K (qv K 0) (A1 K (qv K 2) (A3 K))) AE) (A3 K))))) (A3 K))))))))
    (AB K (AQ K (IG K (Bs K) (Cu Ct) B.tuple L2.bt_tuple (A1 K (qv K 8) (A3 K)))))))))))⟩
theorem ok_wishes{f_wishes f_next:Addr}{d_wishes d_next:FuncData}(DA:DefAt K mg "_law_wishes" Cp f_wishes d_wishes ["_law_feed_here","_law_many"])(D_next:DefAt K mg "_law_next" DS f_next d_next ["_law_feed_here","_law_many"])(G_next:FnOk P w K mg base CX0 1 f_next d_next ["_law_feed_here","_law_many"] (spF K 2 Ao))(B:BltA mg):FnOk P w K mg base CX0 2 f_wishes d_wishes ["_law_feed_here","_law_many"] (spF K 2 Es):=by
  refine Aq (N:=["_law_feed_here","_law_many","_law_left","_law_seq","_law_way","_law_found","_law_k","_law_j"]) (m:=L8) DA sc_wishes λ cdv A outer s H E hr=>?_
  exact⟨_,(A4 K (AG K (i:=2) sc_wishes.nd rfl (by first|exact Or.inl rfl|exact Or.inr rfl) (B0 K (Q7 K B.list B.range (A1 K (qv K 1) (A3 K)))))
    (A4 K (AG K (i:=3) sc_wishes.nd rfl (by first|exact Or.inl rfl|exact Or.inr rfl) (B0 K (B5 K (A3 K))))
    (A4 K (HX K (J9 K (OK K hr.units) (qv K 2) (B5 K (A3 K)))
      (AB K (Cf K (Dv K PySem.F.slot_list_append PySem.F.type_list_append Bq CD (qv K 3) (A1 K (Dv K PySem.F.slot_list_pop PySem.F.type_list_pop Qe Pt (qv K 2) (A1 K (AD K 2 G_next hr D_next (A1 K (qv K 0) (A1 K (Bx K (BI K) (Cu CL) B.len L2.bt_len (A1 K (qv K 2) (A3 K))) (A3 K))) AE) (A3 K))) (A3 K))))))
    (A4 K (AG K (i:=4) sc_wishes.nd rfl (by first|exact Or.inl rfl|exact Or.inr rfl) (AD K 2 G_next hr D_next (A1 K (qv K 0) (A1 K (A7 K) (A3 K))) AE))
    (A4 K (AG K (i:=5) sc_wishes.nd rfl (by first|exact Or.inl rfl|exact Or.inr rfl) (B0 K (B5 K (A3 K))))
    (A4 K (CF K rfl (Dl K B.range (A1 K (qv K 1) (A3 K))) (AO K (i:=6) sc_wishes.nd rfl (by first|exact Or.inl rfl|exact Or.inr rfl))
      (AB K (CF K rfl (Dl K B.range (A1 K (qv K 6) (A3 K))) (AO K (i:=7) sc_wishes.nd rfl (by first|exact Or.inl rfl|exact Or.inr rfl))
      (AB K (BJ K (QW.toT (Rj K (QW.toT (Ds K (Ai K ((CG).or (BC K hr.units)) (AN BY BZ) (qv K 4) (A7 K)) (DJ K (Ai K ((CG).or (BC K hr.units)) (AN BY BZ) (qv K 7) (AW K FW FT (qv K 6) (A7 K)))))) (O9 K (QW.toT (Ds K (Ai K (OM K) Gp (qv K 4) (CM K (A1 K (A7 K) (A1 K (A7 K) (A3 K))))) (DJ K (Ai K ((CG).or (BC K hr.units)) (AN BY BZ) (AD K 2 G_next hr D_next (A1 K (qv K 0) (A1 K (OB K (B5 K (A1 K (A7 K) (A1 K (A7 K) (A1 K (A7 K) (A3 K))))) (qv K 4)) (A3 K))) AE) (A7 K))))))))
      (AB K (Cf K (Dv K PySem.F.slot_list_append PySem.F.type_list_append Bq CD (qv K 5) (A1 K (CM K (A1 K (AR K (qv K 3) (qv K 7)) (A1 K (AR K (qv K 3) (qv K 6)) (A3 K)))) (A3 K)))))
      (Au K))))))
    (AB K (AQ K (K6 K (Bs K) Ct B.tuple L2.bt_tuple (OA K (B0 K (NG K B.sorted (MD K (qv K 5)))) (MH K) (MF K (A7 K))))))))))))⟩
theorem ok_costs{f_costs:Addr}{d_costs:FuncData}(DA:DefAt K mg "_law_costs" Dj f_costs d_costs ["_law_cost_here","_law_t"]) (B:BltA mg):FnOk P w K mg base CX0 1 f_costs d_costs ["_law_cost_here","_law_t"] (spF K 2 DP):=by
  refine Aq (N:=["_law_cost_here","_law_t"]) (m:=MU) DA Pk λ cdv A outer s H E hr=>?_
  exact⟨_,(A4 K (BJ K (Ai K ((CG).or (BC K hr.units)) (AN BY BZ) (AR K (qv K 0) (A7 K)) (Bm K))
      (AB K (AQ K (AW K FW FT (qv K 1) (AR K (qv K 0) (A7 K)))))
      (Au K))
    (A4 K (BJ K (Ai K ((CG).or (BC K hr.units)) (AN BY BZ) (AR K (qv K 0) (A7 K)) (Bm K))
      (AB K (AQ K (AW K Cc Cb (AR K (qv K 0) (A7 K)) (Bx K (FI rfl) Go B.max L2.bt_max (A1 K (A7 K) (A1 K (AW K FW FT (qv K 1) (AR K (qv K 0) (A7 K))) (A3 K)))))))
      (Au K))
    (A4 K (BJ K (Ai K ((CG).or (BC K hr.units)) (AN BY BZ) (AR K (qv K 0) (A7 K)) (Bm K))
      (AB K (AQ K (AW K Cc Cb (AR K (qv K 0) (A7 K)) (IG K P0 UK B.int L2.bt_int (A1 K (Ku K NL NB (qv K 1) (AR K (qv K 0) (A7 K))) (A3 K))))))
      (Au K))
    (A4 K (BJ K (Ai K ((CG).or (BC K hr.units)) (AN BY BZ) (AR K (qv K 0) (A7 K)) (Bm K))
      (AB K (AQ K (AW K Cc Cb (AR K (qv K 0) (A7 K)) (qv K 1))))
      (Au K))
    (AB K (AQ K (Ez K ((Jp K rfl).or (Ik K rfl)) O5 B.max L2.bt_max (Ub K (B0 K (B5 K (A1 K (A7 K) (A3 K)))) (B0 K (C4 K (loc:=["_law_start","_law_height"]) (fr:=["_law_t"]) (ix:=[1]) rfl ⟨rfl,by decide +kernel,rfl,rfl,rfl,by decide +kernel⟩ (Bb K (AR K (qv K 0) (A7 K))) (λ _ _ _=>(Dt K (n:=2) rfl (Ay K (AO K (i:=0) (show(["_law_start","_law_height","_law_t"]:List Str).Nodup from by decide +kernel) rfl (by first|exact Or.inl rfl|exact Or.inr rfl)) (Ay K (AO K (i:=1) (show(["_law_start","_law_height","_law_t"]:List Str).Nodup from by decide +kernel) rfl (by first|exact Or.inl rfl|exact Or.inr rfl)) (DK K))))) (λ _ _ _=>(FU K (Ai K Ro RZ (qv K 0) (qv K 2)))) (λ _ _ _=>(qv K 1))))))))))))⟩
theorem ok_greatest{f_greatest f_costs:Addr}{d_greatest d_costs:FuncData}(DA:DefAt K mg "_law_greatest" CB f_greatest d_greatest ["_law_works_here","_law_ends"])(D_costs:DefAt K mg "_law_costs" Dj f_costs d_costs ["_law_cost_here","_law_t"])(G_costs:FnOk P w K mg base CX0 1 f_costs d_costs ["_law_cost_here","_law_t"] (spF K 2 DP))(B:BltA mg):FnOk P w K mg base CX0 2 f_greatest d_greatest ["_law_works_here","_law_ends"] (spF K 2 CZ):=by
  refine Aq (N:=["_law_works_here","_law_ends"]) (m:=IJ) DA Lp λ cdv A outer s H E hr=>?_
  exact⟨_,(AB K (AQ K (Ez K ((Jp K rfl).or (Ik K rfl)) O5 B.max L2.bt_max (C4 K (loc:=["_law_k"]) (fr:=["_law_works_here","_law_ends"]) (ix:=[0,1]) rfl ⟨rfl,by decide +kernel,rfl,rfl,rfl,by decide +kernel⟩ (Dl K B.range (A1 K (Bx K (BI K) (Cu CL) B.len L2.bt_len (A1 K (qv K 0) (A3 K))) (A3 K))) (λ _ _ _=>(AO K (i:=0) (show(["_law_k","_law_works_here","_law_ends"]:List Str).Nodup from by decide +kernel) rfl (by first|exact Or.inl rfl|exact Or.inr rfl))) (λ _ _ _=>(Du K)) (λ _ _ _=>(AD K 0 G_costs hr D_costs (A1 K (AR K (AR K (qv K 1) (qv K 0)) (A7 K)) (A1 K (AR K (qv K 2) (qv K 0)) (A3 K))) AE))))))⟩
theorem ok_orders{f_orders:Addr}{d_orders:FuncData}(DA:DefAt K mg "_law_orders" Cr f_orders d_orders ["_law_many","_law_wishes_here"]) (B:BltA mg):FnOk P w K mg base CX0 1 f_orders d_orders ["_law_many","_law_wishes_here"] (spF K 2 Eu):=by
  refine Aq (N:=["_law_many","_law_wishes_here","_law_found","_law_turn","_law_longer","_law_row","_law_k","_law_firsts"]) (m:=LB) DA sc_orders λ cdv A outer s H E hr=>?_
  exact⟨_,(A4 K (AG K (i:=2) sc_orders.nd rfl (by first|exact Or.inl rfl|exact Or.inr rfl) (B0 K (B5 K (A1 K (CM K (A3 K)) (A3 K)))))
    (A4 K (CF K rfl (Dl K B.range (A1 K (qv K 0) (A3 K))) (AO K (i:=3) sc_orders.nd rfl (by first|exact Or.inl rfl|exact Or.inr rfl))
      (A4 K (AG K (i:=4) sc_orders.nd rfl (by first|exact Or.inl rfl|exact Or.inr rfl) (B0 K (B5 K (A3 K))))
    (A4 K (CF K rfl (JA K (qv K 2)) (AO K (i:=5) sc_orders.nd rfl (by first|exact Or.inl rfl|exact Or.inr rfl))
      (AB K (CF K rfl (Dl K B.range (A1 K (qv K 0) (A3 K))) (AO K (i:=6) sc_orders.nd rfl (by first|exact Or.inl rfl|exact Or.inr rfl))
      (GL K (A4 K (by first|exact MC K (i:=7) (loc:=["_law_a","_law_b"]) (fr:=["_law_k","_law_row"]) (ix:=[6,5]) sc_orders.nd rfl rfl rfl ⟨rfl,by decide +kernel,rfl,rfl,rfl,by decide +kernel⟩ (Bb K (qv K 1)) (λ _ _ _=>(Dt K (n:=2) rfl (Ay K (AO K (i:=0) (show(["_law_a","_law_b","_law_k","_law_row"]:List Str).Nodup from by decide +kernel) rfl (by first|exact Or.inl rfl|exact Or.inr rfl)) (Ay K (AO K (i:=1) (show(["_law_a","_law_b","_law_k","_law_row"]:List Str).Nodup from by decide +kernel) rfl (by first|exact Or.inl rfl|exact Or.inr rfl)) (DK K))))) (λ _ _ _=>(FU K (QW.toT (Ds K (Ai K ((CG).or (BC K hr.units)) (AN BY BZ) (qv K 1) (qv K 2)) (DJ K (Ai K (FA K) Gp (qv K 0) (qv K 3))))))) (λ _ _ _=>(qv K 0))|exact AG K (i:=7) sc_orders.nd rfl (by first|exact Or.inl rfl|exact Or.inr rfl) (B0 K (C4 K (loc:=["_law_a","_law_b"]) (fr:=["_law_k","_law_row"]) (ix:=[6,5]) rfl ⟨rfl,by decide +kernel,rfl,rfl,rfl,by decide +kernel⟩ (Bb K (qv K 1)) (λ _ _ _=>(Dt K (n:=2) rfl (Ay K (AO K (i:=0) (show(["_law_a","_law_b","_law_k","_law_row"]:List Str).Nodup from by decide +kernel) rfl (by first|exact Or.inl rfl|exact Or.inr rfl)) (Ay K (AO K (i:=1) (show(["_law_a","_law_b","_law_k","_law_row"]:List Str).Nodup from by decide +kernel) rfl (by first|exact Or.inl rfl|exact Or.inr rfl)) (DK K))))) (λ _ _ _=>(FU K (QW.toT (Ds K (Ai K ((CG).or (BC K hr.units)) (AN BY BZ) (qv K 1) (qv K 2)) (DJ K (Ai K (FA K) Gp (qv K 0) (qv K 3))))))) (λ _ _ _=>(qv K 0)))))
    (AB K (BJ K (QW.toT (Ds K (Ai K (FA K) Gp (qv K 6) (qv K 5)) (DJ K (J9 K (V7 K hr.units) (qv K 7) (B5 K (A3 K))))))
      (AB K (Cf K (Dv K PySem.F.slot_list_append PySem.F.type_list_append Bq CD (qv K 4) (A1 K (AW K (((Bc).or (B6 K)).or (T4 K)) (AN (AN Ba BH) Sb) (qv K 5) (CM K (A1 K (qv K 6) (A3 K)))) (A3 K)))))
      (Au K))))))))
    (AB K (AG K (i:=2) sc_orders.nd rfl (by first|exact Or.inl rfl|exact Or.inr rfl) (qv K 4))))))
    (AB K (AQ K (qv K 2)))))⟩
theorem ok_run_ends{f_run_ends:Addr}{d_run_ends:FuncData}(DA:DefAt K mg "_law_run_ends" CA f_run_ends d_run_ends ["_law_works_here","_law_order"]) (B:BltA mg):FnOk P w K mg base CX0 1 f_run_ends d_run_ends ["_law_works_here","_law_order"] (spF K 2 CY):=by
  refine Aq (N:=["_law_works_here","_law_order","_law_ends","_law_t","_law_k"]) (m:=II) DA sc_run_ends λ cdv A outer s H E hr=>?_
  exact⟨_,(A4 K (AG K (i:=2) sc_run_ends.nd rfl (by first|exact Or.inl rfl|exact Or.inr rfl) (B0 K (Ua K (B5 K (A1 K (A7 K) (A3 K))) (Bx K (BI K) (Cu CL) B.len L2.bt_len (A1 K (qv K 0) (A3 K))))))
    (A4 K (AG K (i:=3) sc_run_ends.nd rfl (by first|exact Or.inl rfl|exact Or.inr rfl) (A7 K))
    (A4 K (CF K rfl (Bb K (qv K 1)) (AO K (i:=4) sc_run_ends.nd rfl (by first|exact Or.inl rfl|exact Or.inr rfl))
      (A4 K (AG K (i:=3) sc_run_ends.nd rfl (by first|exact Or.inl rfl|exact Or.inr rfl) (AW K ((Bc).or (B6 K)) (AN Ba BH) (Bx K (FI rfl) Go B.max L2.bt_max (A1 K (qv K 3) (A1 K (AR K (AR K (qv K 0) (qv K 4)) (A7 K)) (A3 K)))) (AR K (AR K (qv K 0) (qv K 4)) (A7 K))))
    (AB K (Gs K (qv K 2) (qv K 4) (qv K 3)))))
    (AB K (AQ K (qv K 2))))))⟩
theorem ok_law{f_law f_bound_of f_greatest_order f_feed f_words f_works f_wishes f_greatest f_orders f_run_ends:Addr}{d_law d_bound_of d_greatest_order d_feed d_words d_works d_wishes d_greatest d_orders d_run_ends:FuncData}(DA:DefAt K mg "law" EA f_law d_law ["_law_script"])(D_bound_of:DefAt K mg "bound_of" Bo f_bound_of d_bound_of ["works","wishes","some"])(G_bound_of:FnOk P w K mg base CX0 4 f_bound_of d_bound_of ["works","wishes","some"] (spF K 3 Bp))(D_greatest_order:DefAt K mg "greatest_order" B4 f_greatest_order d_greatest_order ["works","wishes"])(G_greatest_order:FnOk P w K mg base CX0 8 f_greatest_order d_greatest_order ["works","wishes"] (spF K 2 Bu))(D_feed:DefAt K mg "_law_feed" EF f_feed d_feed ["_law_script"])(G_feed:FnOk P w K mg base CX0 1 f_feed d_feed ["_law_script"] (spF K 1 Gh))(D_words:DefAt K mg "_law_words" Dh f_words d_words [])(G_words:FnOk P w K mg base CX0 1 f_words d_words [] (spF K 0 EZ))(D_works:DefAt K mg "_law_works" Dg f_works d_works ["_law_feed_here","_law_most","_law_words_here","_law_ways"])(G_works:FnOk P w K mg base CX0 3 f_works d_works ["_law_feed_here","_law_most","_law_words_here","_law_ways"] (spF K 4 Fk))(D_wishes:DefAt K mg "_law_wishes" Cp f_wishes d_wishes ["_law_feed_here","_law_many"])(G_wishes:FnOk P w K mg base CX0 2 f_wishes d_wishes ["_law_feed_here","_law_many"] (spF K 2 Es))(D_greatest:DefAt K mg "_law_greatest" CB f_greatest d_greatest ["_law_works_here","_law_ends"])(G_greatest:FnOk P w K mg base CX0 2 f_greatest d_greatest ["_law_works_here","_law_ends"] (spF K 2 CZ))(D_orders:DefAt K mg "_law_orders" Cr f_orders d_orders ["_law_many","_law_wishes_here"])(G_orders:FnOk P w K mg base CX0 1 f_orders d_orders ["_law_many","_law_wishes_here"] (spF K 2 Eu))(D_run_ends:DefAt K mg "_law_run_ends" CA f_run_ends d_run_ends ["_law_works_here","_law_order"])(G_run_ends:FnOk P w K mg base CX0 1 f_run_ends d_run_ends ["_law_works_here","_law_order"] (spF K 2 CY))(B:BltA mg):FnOk P w K mg base CX0 9 f_law d_law ["_law_script"] (spF K 1 F_law):=by
  refine Aq (N:=["_law_script","_law_feed_here","_law_turn","_law_works_here","_law_wishes_here","_law_order","_law_some","_law_every","_law_least"]) (m:=Rq) DA sc_law λ cdv A outer s H E hr=>?_
  exact⟨_,(A4 K (AG K (i:=1) sc_law.nd rfl (by first|exact Or.inl rfl|exact Or.inr rfl) (Fx K G_feed hr D_feed (A1 K (qv K 0) (A3 K)) AE))
    (A4 K (CF K rfl (Dl K B.range (A1 K (A7 K) (A3 K))) (AO K (i:=2) sc_law.nd rfl (by first|exact Or.inl rfl|exact Or.inr rfl))
      (GL K (A4 K (AG K (i:=3) sc_law.nd rfl (by first|exact Or.inl rfl|exact Or.inr rfl) (AD K 4 G_works hr D_works (A1 K (qv K 1) (A1 K (A7 K) (A1 K (OC K 0 G_words hr D_words AE) (A1 K (B0 K (B5 K (A1 K (A7 K) (A3 K)))) (A3 K))))) AE))
    (A4 K (AG K (i:=4) sc_law.nd rfl (by first|exact Or.inl rfl|exact Or.inr rfl) (AD K 2 G_wishes hr D_wishes (A1 K (qv K 1) (A1 K (Bx K (BI K) (Cu CL) B.len L2.bt_len (A1 K (qv K 3) (A3 K))) (A3 K))) AE))
    (A4 K (UZ K (AD K 0 G_greatest_order hr D_greatest_order (A1 K (qv K 3) (A1 K (qv K 4) (A3 K))) AE) (Dt K (n:=2) rfl (Ay K (AO K (i:=5) sc_law.nd rfl (by first|exact Or.inl rfl|exact Or.inr rfl)) (Ay K (AO K (i:=6) sc_law.nd rfl (by first|exact Or.inl rfl|exact Or.inr rfl)) (DK K)))))
    (A4 K (AG K (i:=7) sc_law.nd rfl (by first|exact Or.inl rfl|exact Or.inr rfl) (AD K 0 G_orders hr D_orders (A1 K (Bx K (BI K) (Cu CL) B.len L2.bt_len (A1 K (qv K 3) (A3 K))) (A1 K (qv K 4) (A3 K))) AE))
    (A4 K (AG K (i:=8) sc_law.nd rfl (by first|exact Or.inl rfl|exact Or.inr rfl) (Ez K (Gb K rfl) Ko B.min L2.bt_min (C4 K (loc:=["_law_one"]) (fr:=["_law_works_here"]) (ix:=[3]) rfl ⟨rfl,by decide +kernel,rfl,rfl,rfl,by decide +kernel⟩ (JA K (qv K 7)) (λ _ _ _=>(AO K (i:=0) (show(["_law_one","_law_works_here"]:List Str).Nodup from by decide +kernel) rfl (by first|exact Or.inl rfl|exact Or.inr rfl))) (λ _ _ _=>(Du K)) (λ _ _ _=>(Fx K G_greatest hr D_greatest (A1 K (qv K 1) (A1 K (AD K 0 G_run_ends hr D_run_ends (A1 K (qv K 1) (A1 K (qv K 0) (A3 K))) AE) (A3 K))) AE)))))
    (A4 K (BJ K (QW.toT (Rj K (Ai K (T2 K hr.units) Sa (qv K 5) (qv K 7)) (O9 K (Ai K ((K8).or (FX K hr.units)) (AN Hz I0) (Fx K G_greatest hr D_greatest (A1 K (qv K 3) (A1 K (AD K 0 G_run_ends hr D_run_ends (A1 K (qv K 3) (A1 K (qv K 5) (A3 K))) AE) (A3 K))) AE) (qv K 8)))))
      (AB K (AQ K (NI K)))
      (Au K))
    (AB K (BJ K (Ai K ((K8).or (FX K hr.units)) (AN Hz I0) (AD K 0 G_bound_of hr D_bound_of (A1 K (qv K 3) (A1 K (qv K 4) (A1 K (qv K 6) (A3 K)))) AE) (qv K 8))
      (AB K (AQ K (NI K)))
      (Au K)))))))))))
    (AB K (AQ K (NI K)))))⟩
end
open Bd
theorem U8{n:Nat}(h:n <= 8):Ft (n:Int):=Dk (by omega) (by omega)
theorem Fo{neg:Bool}{ma:ME}{ls:Ls}{hd:Hd}{QE:D->Hd->Prop}(h:WE ma ls hd λ d x=>∃ ns:List Int,pyD x d=some (.list (ns.map PyData.int))/\QE (.im (.bl (if neg then !decide (ns=[])else decide (ns=[])))) x):WE (G4 neg ma (BA A6)) ls hd QE:=by
  obtain⟨d,x,e,ns,e2,q⟩:=h
  refine⟨_,x,?_,q⟩
  unfold G4
  rw[e]
  simp[e2,I.pys,Tk]
theorem P7{hd:Hd}{QE:D->Hd->Prop}(q:QE (.im (.int 1000000000000000000)) hd):WP (Qs (.im (.int 10)) (.im (.int 18)) hd) QE:=⟨_,_,by simp[po1],q⟩
local macro_rules | `(tactic| sizeOf_list_dec) => `(tactic| first | (with_reducible refine AH ?_; try dsimp only [List.set_cons_zero, List.set_cons_succ, List.map_cons, List.map_nil, List.cons_append, List.nil_append, List.replicate, Nat.reduceSub, Int.reduceToNat]) | with_reducible refine HP ?_ | with_reducible refine AY ?_ | with_reducible refine Aw ?_ | with_reducible refine BW ?_ | with_reducible refine EU ?_ | with_reducible refine BO ?_ | with_reducible refine Ca ?_ | with_reducible refine KI ?_ | with_reducible refine Gj ?_ | with_reducible refine EC ?_ | with_reducible refine A5 (d := _) rfl ?_ | with_reducible refine BP ?_ | with_reducible refine Ad ?_ | with_reducible refine FR ?_ | with_reducible refine Cl ?_ | with_reducible refine Cm ?_ | with_reducible refine KO ?_ | with_reducible refine E9 ?_ | with_reducible refine Gm ?_ | with_reducible refine E4 ?_ | with_reducible refine Iq ?_ | with_reducible refine BG ?_ | with_reducible refine KG ?_ | with_reducible refine GH ?_ | with_reducible refine Jy ?_ | with_reducible refine Do ?_ | with_reducible refine AM ?_ | with_reducible refine A9 ?_ | with_reducible refine Dq ?_ | with_reducible refine C3 ?_ | with_reducible refine HN ?_ | with_reducible refine Ms ?_ | with_reducible refine Ed ?_ | with_reducible refine PH ?_ | with_reducible refine KM ?_ | with_reducible refine FQ ?_ | with_reducible refine KJ ?_ | with_reducible refine Mp ?_ | with_reducible refine Jz ?_ | with_reducible refine Mq ?_ | with_reducible refine Mr ?_ | with_reducible refine GI ?_ | with_reducible refine FP ?_ | with_reducible refine Eb ?_ | with_reducible refine KK ?_ | with_reducible refine Gk ?_ | with_reducible refine Io ?_ | with_reducible refine ⟨_, rfl, ?_⟩ | refine Ah rfl (FO _ _) ?_ | refine Ah rfl (Gf _ _ _) ?_ | refine Ah rfl (Hq _ _ _ _) ?_ | refine ⟨_, _, _, _, rfl, rfl, rfl, rfl, ?_⟩ | refine ⟨⟨_, rfl⟩, ?_⟩ | refine ⟨Ib, ?_⟩ | refine ⟨LV, ?_⟩ | refine ⟨LU, ?_⟩ | refine ⟨LS, ?_⟩ | refine ⟨Ic, ?_⟩ | refine ⟨GV, ?_⟩ | with_reducible refine Fo ?_)
noncomputable def T(k:Nat)(a b:MO):Prop:=∃ (cs:List Int) (nx lf:Int),0 <= nx/\nx + k <= 1000000000/\a=.lst (cs.map λ i=>.im (.int i))/\b=.lst [.mu 0,.im (.int nx),.im (.int lf)]
theorem VC(k:Nat)(cs:List Int)(nx lf many:Int)(n0:0 <= nx)(n1:nx + (k + 1) <= 1000000000)(h0:0 < many)(h1:many < 1073741824):WF Ao [.mu 1,.im (.int many)] [.lst (cs.map λ i=>.im (.int i)),.lst [.mu 0,.im (.int nx),.im (.int lf)]] λ d x=>∃ r a' b',0 <= r/\r < many/\d=.im (.int r)/\x=[a',b']/\T k a' b':=by
  have hm:ER many:=h0
  have hv:KD many:=⟨h0,h1⟩
  unfold Ao
  refine BQ rfl ?_
  repeat sizeOf_list_dec
  refine⟨λ hc=>?_,λ hc=>?_⟩
  . repeat sizeOf_list_dec
    refine ED hm ?_
    repeat sizeOf_list_dec
    refine Ip hv ?_
    repeat sizeOf_list_dec
    exact⟨_,_,_,(FB many h0).1,(FB many h0).2,rfl,rfl,cs,nx,lf / many,n0,by omega,rfl,rfl⟩
  . repeat sizeOf_list_dec
    refine WP.mono (Q:=λ d x=>x=[.lst (cs.map λ i=>.im (.int i)),.lst [.mu 0,.im (.int (nx + 1)),.im (.int lf)]]/\∃ cell,d=.im (.int cell)) (Tw ?_) ?_
    . repeat sizeOf_list_dec
      refine⟨cs,by simp[pyD,GC,Fy],_,rfl,λ hb=>?_,λ hb=>?_⟩
      . repeat sizeOf_list_dec
        refine Dp rfl rfl ?_
        have hc:cs ≠ []:=by simpa using hb
        have hl:=Fe hc
        obtain⟨c,e⟩:=WV hc nx
        refine ED (show ER _ by unfold ER;simp;omega) ?_
        refine Ah rfl (by simpa using e) ?_
        exact⟨rfl,c,rfl⟩
      . repeat sizeOf_list_dec
        exact⟨rfl,_,rfl⟩
    . rintro d x ⟨rfl,cell,rfl⟩
      have fin:∀ ls,ls=[some (.mu 1),some (.im (.int many)),none,some (.im (.int nx)),some (.im (.int cell)),none]->WS (AA (AL 5 (mOp De (mOp Bt (mOp B7 (mOp B7 (mOp B7 (mOp De (A0 4) (mC (.int 1000003))) (mOp Bt (mOp Bt (mC (.int 37)) (A0 3)) (A0 3))) (mOp Bt (mC (.int 13)) (A0 3))) (mC (.int 5))) (mC (.int 48271))) (mC (.int 999983))))
          (AV (mOp De (mOp Gz (mOp De (mOp Bt (mOp De (mOp B7 (mOp B7 (mOp Bt (A0 5) (A0 5)) (mOp Bt (mC (.int 7919)) (A0 3))) (mC (.int 11))) (mC (.int 2097143))) (mC (.int 69621))) (mC (.int 2147483629))) (mC (.int 7))) (A0 1)))) ls [.lst (cs.map λ i=>.im (.int i)),.lst [.mu 0,.im (.int (nx + 1)),.im (.int lf)]]
          (λ f x=>match f with
            | .rt d=>∃ r a' b',0 <= r/\r < many/\d=.im (.int r)/\x=[a',b']/\T k a' b'
            | .nx _=>∃ r a' b',0 <= r/\r < many/\D.im .non=.im (.int r)/\x=[a',b']/\T k a' b'
            | _=>False):=by
        rintro ls rfl
        repeat sizeOf_list_dec
        refine ED (by unfold ER;decide) ?_
        repeat sizeOf_list_dec
        refine Ea (Dm (by decide) (by decide)) ?_
        repeat sizeOf_list_dec
        refine Ea (Gu (by omega) (by omega)) ?_
        repeat sizeOf_list_dec
        refine Ea (Dm (by decide) (by decide)) ?_
        repeat sizeOf_list_dec
        refine Ea (Gu (by decide) (by decide)) ?_
        repeat sizeOf_list_dec
        refine ED (by unfold ER;decide) ?_
        repeat sizeOf_list_dec
        generalize hx:(((cell % 1000003 + 37 * nx * nx + 13 * nx + 5) * 48271) % 999983:Int)=x
        have b1:=FB (x:=(cell % 1000003 + 37 * nx * nx + 13 * nx + 5) * 48271) 999983 (by decide)
        rw[hx]at b1
        refine Ea (Gu (by omega) (by omega)) ?_
        repeat sizeOf_list_dec
        refine Ea (Dm (by decide) (by decide)) ?_
        repeat sizeOf_list_dec
        refine ED (by unfold ER;decide) ?_
        repeat sizeOf_list_dec
        refine Ea (Gu (by decide) (by decide)) ?_
        repeat sizeOf_list_dec
        refine ED (by unfold ER;decide) ?_
        repeat sizeOf_list_dec
        refine Ip (by unfold KD;decide) ?_
        repeat sizeOf_list_dec
        refine ED hm ?_
        exact⟨_,_,_,(FB many h0).1,(FB many h0).2,rfl,rfl,cs,nx + 1,lf,by omega,by omega,rfl,rfl⟩
      repeat sizeOf_list_dec
      refine P7 ?_
      repeat sizeOf_list_dec
      split
      . repeat sizeOf_list_dec
        refine Dp rfl rfl ?_
        repeat sizeOf_list_dec
        refine⟨λ hb=>?_,λ hb=>?_⟩
        . repeat sizeOf_list_dec
          refine Ip hv ?_
          repeat sizeOf_list_dec
          refine ED hm ?_
          exact⟨_,_,_,(FB many h0).1,(FB many h0).2,rfl,rfl,cs,nx + 1,cell / many,by omega,by omega,rfl,rfl⟩
        . refine BO (AH ?_)
          exact fin _ rfl
      . refine⟨λ hb=>by simp at hb,λ hb=>BO (AH (fin _ rfl))⟩
theorem tap:Tap T Ao where
  cl:=by
    rintro k a b ⟨cs,nx,lf,_,_,rfl,rfl⟩
    simp[clO,Jn]
  le:=by
    rintro j k a b ⟨cs,nx,lf,h1,h2,e1,e2⟩ h
    exact⟨cs,nx,lf,h1,by omega,e1,e2⟩
  pick:=by
    rintro k a b many ⟨cs,nx,lf,n0,n1,rfl,rfl⟩ h0 h1
    obtain⟨d,x,e,r,a',b',p1,p2,rfl,rfl,hT⟩:=VC k cs nx lf many n0 (by push_cast at n1;omega) h0 h1
    exact⟨r,a',b',p1,p2,e,hT⟩
theorem VO(ns:List Int):WF Gh [.ro ns] [] λ d x=>d=.mu 1/\∃ a b,T 100000 a b/\x=[a,b]:=by
  obtain⟨cs,e⟩:=Qz ns none (some 63)
  exact⟨.mu 1,_,by simp[Gh,mkF,e],rfl,_,_,⟨cs,0,0,by decide,by decide,rfl,rfl⟩,rfl⟩
noncomputable def JT(bot:Int):List (Int × Int)->Prop
  | []=>True
  | (_,h) :: r=>bot <= h/\JT h r
noncomputable def Asc:List (Int × Int)->Prop
  | []=>True
  | (b,_) :: r=>(∀ q ∈ r,b < q.1)/\Asc r
theorem JZ(t:Int):∀ {rows:List (Int × Int)} {bot:Int},JT bot rows->Asc rows->DB (bot :: ((rows.filter λ q=>decide (q.1 <= t)).map (·.2)))=BK t rows bot
  | [],bot,_,_=>by simp[BK,DB]
  | (b,h) :: r,bot,H,A=>by
    rw[BK]
    by_cases hb:t < b
    . rw[if_pos hb]
      have:((b,h) :: r).filter (λ q=>decide (q.1 <= t))=[]:=by
        refine List.filter_eq_nil_iff.mpr λ q hq=>?_
        rcases List.mem_cons.mp hq with rfl|hq
        . simp;omega
        . have:=A.1 q hq;simp;omega
      rw[this];rfl
    . rw[if_neg hb,List.filter_cons,if_pos (by simp;omega),List.map_cons]
      have ih:=JZ t H.2 A.2
      rw[<- ih]
      show DB (bot :: h :: (r.filter λ q=>decide (q.1 <= t)).map (·.2))=_
      have h1:=Br (xs:=bot :: h :: (r.filter λ q=>decide (q.1 <= t)).map (·.2)) (by simp)
      have h2:=Br (xs:=h :: (r.filter λ q=>decide (q.1 <= t)).map (·.2)) (by simp)
      have hbot:=H.1
      have a1:=h1.2 _ (List.mem_cons_of_mem _ h2.1)
      rcases List.mem_cons.mp h1.1 with e|e
      . have:=h2.2 h (by simp);omega
      . have:=h2.2 _ e;omega
noncomputable def EK:Cost->Prop
  | .tardy _ w=>0 <= w/\w <= 1000000
  | .miss _ w=>0 <= w/\w <= 1000000
  | .ends w=>0 <= w/\w <= 1000000
  | .steps rows=>rows.length <= 5/\JT 0 rows/\Asc rows
  | _=>True
noncomputable def Up2(rows:List (Int × Int)):Prop:=rows.Pairwise λ p q=>p.1 < q.1/\p.2 <= q.2
theorem M1:∀ {rows:List (Int × Int)} {bot:Int},Up2 rows->(∀ q ∈ rows,bot <= q.2)->JT bot rows/\Asc rows
  | [],_,_,_=>⟨trivial,trivial⟩
  | (b,h) :: r,bot,U,hb=>by
    unfold Up2 at U
    rw[List.pairwise_cons]at U
    have ih:=M1 (rows:=r) (bot:=h) U.2 λ q hq=>(U.1 q hq).2
    exact⟨⟨hb (b,h) (by simp),ih.1⟩,λ q hq=>(U.1 q hq).1,ih.2⟩
theorem S9{rows:List (Int × Int)}{b h:Int}(U:Up2 rows)(hq:∀ q ∈ rows,q.1 < b/\q.2 <= h):Up2 (rows ++ [(b,h)]):=by
  unfold Up2 at *
  rw[List.pairwise_append]
  refine⟨U,by simp,λ p hp q hq'=>?_⟩
  rw[List.mem_singleton]at hq';subst hq'
  exact hq p hp
noncomputable def DV(m:Int):Cost->Prop
  | .late d=>-m <= d/\d <= m
  | .tardy d w=>(-m <= d/\d <= m)/\0 <= w/\w <= 9
  | .miss d w=>(-m <= d/\d <= m)/\0 <= w/\w <= 9
  | .ends w=>0 <= w/\w <= 9
  | .steps rows=>∀ q ∈ rows,(-m <= q.1/\q.1 <= m)/\0 <= q.2/\q.2 <= 99
noncomputable abbrev W5:MO:=.lst [.im (.str "late"),.im (.str "tardy"),.im (.str "miss"),.im (.str "ends"),.im (.str "steps")]
noncomputable def GU(x:Str):Prop:=x="late" ∨ x="tardy" ∨ x="miss" ∨ x="ends" ∨ x="steps"
theorem at5{r:Int}(h0:0 <= r)(h1:r < 5):∃ x:Str,GU x/\atI [D.im (.str "late"),.im (.str "tardy"),.im (.str "miss"),.im (.str "ends"),.im (.str "steps")] r=some (.im (.str x)):=by
  have:r=0 ∨ r=1 ∨ r=2 ∨ r=3 ∨ r=4:=by omega
  rcases this with rfl|rfl|rfl|rfl|rfl
  . exact⟨"late",.inl rfl,Bi (j:=0) rfl⟩
  . exact⟨"tardy",.inr (.inl rfl),Bi (j:=1) rfl⟩
  . exact⟨"miss",.inr (.inr (.inl rfl)),Bi (j:=2) rfl⟩
  . exact⟨"ends",.inr (.inr (.inr (.inl rfl))),Bi (j:=3) rfl⟩
  . exact⟨"steps",.inr (.inr (.inr (.inr rfl))),Bi (j:=4) rfl⟩
theorem at3{r:Int}(h0:0 <= r)(h1:r < 3)(x y z:D):∃ d,(d=x ∨ d=y ∨ d=z)/\atI [x,y,z] r=some d:=by
  have:r=0 ∨ r=1 ∨ r=2:=by omega
  rcases this with rfl|rfl|rfl
  . exact⟨x,.inl rfl,Bi (j:=0) rfl⟩
  . exact⟨y,.inr (.inl rfl),Bi (j:=1) rfl⟩
  . exact⟨z,.inr (.inr rfl),Bi (j:=2) rfl⟩
theorem at2{r:Int}(h0:0 <= r)(h1:r < 2)(x y:D):∃ d,(d=x ∨ d=y)/\atI [x,y] r=some d:=by
  have:r=0 ∨ r=1:=by omega
  rcases this with rfl|rfl
  . exact⟨x,.inl rfl,Bi (j:=0) rfl⟩
  . exact⟨y,.inr rfl,Bi (j:=1) rfl⟩
theorem okw{x:Str}(h:GU x):OkP 420 2 (I.py (.str x)):=(T5 x h).mono (by omega) (by omega)
theorem oki{i:Int}(h:-1000000 <= i/\i <= 1000000):OkP 420 2 (I.py (.int i)):=(JF ⟨by omega,by omega⟩).mono (by omega) (by omega)
noncomputable def Qc(i:I):Prop:=OkP 1263 3 i.py
noncomputable def okC(i:I):Prop:=OkP 1263 3 i.py/\∃ c,i=BU c/\EK c/\DV 1000 c
theorem VB{x:Str}{i:Int}(h:GU x)(b:-1000000 <= i/\i <= 1000000):Qc (.tup [.str x,.int i]):=
  (FY (w:=420) (dp:=2) (is:=[.str x,.int i]) λ j hj=>by
    simp at hj
    rcases hj with rfl|rfl
    . exact okw h
    . exact oki b).mono (by simp) (by omega)
theorem Wh{x:Str}{i j:Int}(h:GU x)(b:-1000000 <= i/\i <= 1000000)(c:-1000000 <= j/\j <= 1000000):Qc (.tup [.str x,.int i,.int j]):=
  (FY (w:=420) (dp:=2) (is:=[.str x,.int i,.int j]) λ j hj=>by
    simp at hj
    rcases hj with rfl|rfl|rfl
    . exact okw h
    . exact oki b
    . exact oki c).mono (by simp) (by omega)
noncomputable def W1(r:Int × Int):Prop:=(-1000000 <= r.1/\r.1 <= 1000000)/\(-1000000 <= r.2/\r.2 <= 1000000)
theorem We{x:Str}{rows:List (Int × Int)}(h:GU x)(hl:rows.length <= 5)(hr:∀ r ∈ rows,W1 r):Qc (.tup [.str x,.tup (rows.map λ r=>.tup [.int r.1,.int r.2])]):=by
  have hrow:OkP 420 2 (I.py (.tup (rows.map λ r=>.tup [.int r.1,.int r.2]))):=by
    refine OkP.mono (w':=420) (dp':=2) (FY (w:=82) (dp:=1) (is:=rows.map λ r=>.tup [.int r.1,.int r.2]) λ i hi=>?_) (by simp;omega) (by omega)
    obtain⟨r,hr1,rfl⟩:=List.mem_map.mp hi
    have:=hr r hr1
    refine(FY (w:=40) (dp:=0) (is:=[.int r.1,.int r.2]) λ j hj=>?_).mono (by simp) (by omega)
    simp at hj
    obtain⟨⟨a1,a2⟩,b1,b2⟩:=this
    rcases hj with rfl|rfl
    . exact JF ⟨by omega,by omega⟩
    . exact JF ⟨by omega,by omega⟩
  refine OkP.mono (w':=1263) (dp':=3) (FY (w:=420) (dp:=2) (is:=[.str x,.tup (rows.map λ r=>.tup [.int r.1,.int r.2])]) λ i hi=>?_) (by simp) (by omega)
  simp at hi
  rcases hi with rfl|rfl
  . exact okw h
  . exact hrow
theorem VZ(k:Nat)(a b:MO)(hT:T (k + 30) a b):WF Gi [.mu 1,.mu 2] [a,b,W5] λ d x=>∃ i a' b' g,d=.im i/\okC i/\T k a' b'/\x=a' :: b' :: ([W5] ++ g):=by
  unfold Gi
  refine BQ rfl ?_
  repeat sizeOf_list_dec
  refine tap.draw hT rfl (by first|decide|omega) (by first|decide|omega) λ r1 a b hT pr1 qr1=>?_
  obtain⟨x,hx,ex⟩:=at5 pr1 qr1
  refine Ah rfl ex ?_
  repeat sizeOf_list_dec
  refine tap.draw hT rfl (by first|decide|omega) (by first|decide|omega) λ r2 a b hT pr2 qr2=>?_
  repeat sizeOf_list_dec
  refine tap.draw hT rfl (by first|decide|omega) (by first|decide|omega) λ r3 a b hT pr3 qr3=>?_
  repeat sizeOf_list_dec
  refine tap.draw hT rfl (by first|decide|omega) (by first|decide|omega) λ r4 a b hT pr4 qr4=>?_
  repeat sizeOf_list_dec
  refine tap.draw hT rfl (by first|decide|omega) (by first|decide|omega) λ r5 a b hT pr5 qr5=>?_
  obtain⟨d,hd,ed⟩:=at3 pr5 qr5 (.im (.int r2)) (.im (.int r3)) (.im (.int (r4 - 99)))
  refine Ah rfl ed ?_
  obtain⟨due,rfl,hdue'⟩:∃ due,d=.im (.int due)/\(-1000 <= due/\due <= 1000):=by
    rcases hd with rfl|rfl|rfl
    . exact⟨_,rfl,by omega,by omega⟩
    . exact⟨_,rfl,by omega,by omega⟩
    . exact⟨_,rfl,by omega,by omega⟩
  have hdue:-1000000 <= due/\due <= 1000000:=by omega
  repeat sizeOf_list_dec
  refine tap.draw hT rfl (by first|decide|omega) (by first|decide|omega) λ r6 a b hT pr6 qr6=>?_
  have w6:(0 <= r6/\r6 <= 1000000)/\(0 <= r6/\r6 <= 9)/\(-1000000 <= r6/\r6 <= 1000000):=by omega
  clear pr1 qr1 pr2 qr2 pr3 qr3 pr4 qr4 pr5 qr5 pr6 qr6
  repeat sizeOf_list_dec
  refine⟨λ hA=>?_,λ hA=>?_⟩
  . repeat sizeOf_list_dec
    exact⟨_,a,b,_,Gv _ _,⟨VB hx hdue,.late due,by rw[of_decide_eq_true hA];rfl,trivial,hdue'⟩,tap.le hT (by omega),rfl⟩
  repeat sizeOf_list_dec
  refine⟨λ hB=>?_,λ hB=>?_⟩
  . repeat sizeOf_list_dec
    exact⟨_,a,b,_,Gv _ _,⟨VB hx w6.2.2,.ends r6,by rw[of_decide_eq_true hB];rfl,w6.1,w6.2.1⟩,tap.le hT (by omega),rfl⟩
  repeat sizeOf_list_dec
  refine⟨λ hC=>?_,λ hC=>?_⟩
  . repeat sizeOf_list_dec
    have hcs:x="tardy" ∨ x="miss":=by
      have nA:=of_decide_eq_false hA
      have nB:=of_decide_eq_false hB
      have nC:¬ x="steps":=by simpa using hC
      rcases hx with h|h|h|h|h
      . exact absurd h nA
      . exact .inl h
      . exact .inr h
      . exact absurd h nB
      . exact absurd h nC
    refine⟨_,a,b,_,T8 _ _ _,⟨Wh hx hdue w6.2.2,?_⟩,tap.le hT (by omega),rfl⟩
    rcases hcs with e|e
    . exact⟨.tardy due r6,by rw[e];rfl,w6.1,hdue',w6.2.1⟩
    . exact⟨.miss due r6,by rw[e];rfl,w6.1,hdue',w6.2.1⟩
  have xs:x="steps":=by simpa using hC
  repeat sizeOf_list_dec
  refine tap.draw hT rfl (by first|decide|omega) (by first|decide|omega) λ r7 a b hT pr7 qr7=>?_
  repeat sizeOf_list_dec
  refine tap.draw hT rfl (by first|decide|omega) (by first|decide|omega) λ r8 a b hT pr8 qr8=>?_
  repeat sizeOf_list_dec
  refine⟨Dk (by omega) (by omega),?_⟩
  refine C6 (λ r ls hd=>∃ (rows:List (Int × Int)) (s h:Int) (a b:MO) (z:Option D),ls=[some (.mu 1),some (.mu 2),some (.im (.str x)),some (.mu 3),some (.im (.int due)),some (.im (.int r6)),some (.mu 4),some (.im (.int s)),some (.im (.int h)),z]/\hd=[a,b,W5,.lst [.im (.int r2),.im (.int r3),.im (.int (r4 - 99))],.lst (rows.map λ r=>.im (.tup [.int r.1,.int r.2]))]/\T (k + 2 * r.length) a b/\(Up2 rows/\∀ r ∈ rows,(-1000 <= r.1/\r.1 <= s)/\0 <= r.2/\r.2 <= h)/\rows.length + r.length <= 5/\(-100 <= s/\s + 60 * r.length <= 1000)/\0 <= h/\h <= 99) ?_ ?_ ?_
  . exact⟨[],_,_,a,b,none,rfl,rfl,tap.le hT (by simp;omega),⟨List.Pairwise.nil,by simp⟩,by simp;omega,⟨by omega,by simp;omega⟩,by decide,by decide⟩
  . rintro d r ls hd ⟨rows,s,h,a,b,z,rfl,rfl,hT,ho,hl,hs,h0,h9⟩
    simp only[List.length_cons]at hT hl hs
    refine⟨_,rfl,?_⟩
    dsimp only[List.set_cons_zero,List.set_cons_succ]
    have hT:T (k + 2 * r.length + 2) a b:=hT
    repeat sizeOf_list_dec
    refine tap.draw hT rfl (by first|decide|omega) (by first|decide|omega) λ r9 a b hT pr9 qr9=>?_
    repeat sizeOf_list_dec
    refine tap.draw hT rfl (by first|decide|omega) (by first|decide|omega) λ r10 a b hT pr10 qr10=>?_
    repeat sizeOf_list_dec
    refine Ec rfl (Bk (by simp;omega)) ?_
    refine⟨AZ _,rows ++ [(s + 1 + r9,min 99 (h + r10))],_,_,a,b,_,rfl,by simp,hT,?_,by simp;omega,⟨by omega,by omega⟩,by omega,by omega⟩
    refine⟨S9 ho.1 λ q hq=>?_,λ q hq=>?_⟩
    . have:=ho.2 q hq;omega
    rcases List.mem_append.mp hq with hq|hq
    . have:=ho.2 q hq;omega
    . simp at hq;subst hq;exact⟨⟨by show -1000 <= s + 1 + r9;omega,by show s + 1 + r9 <= s + 1 + r9;omega⟩,by show 0 <= min 99 (h + r10);omega,by show min 99 (h + r10) <= min 99 (h + r10);omega⟩
  . rintro ls hd ⟨rows,s,h,a,b,z,rfl,rfl,hT,ho,hl,hs,h0,h9⟩
    repeat sizeOf_list_dec
    refine Dp rfl rfl ?_
    repeat sizeOf_list_dec
    have e:(rows.map λ r:Int × Int=>D.im (.tup [.int r.1,.int r.2]))=(rows.map λ r:Int × Int=>I.tup [.int r.1,.int r.2]).map D.im:=by rw[List.map_map];rfl
    have hl5:rows.length <= 5:=by simp at hl;omega
    have hs':s <= 1000:=by simp at hs;omega
    obtain⟨u1,u2⟩:=M1 (bot:=0) ho.1 λ q hq=>(ho.2 q hq).2.1
    refine⟨_,a,b,_,by rw[e,CT];exact Gv _ _,⟨We hx hl5 (λ q hq=>?_),.steps rows,by rw[xs];rfl,⟨hl5,u1,u2⟩,λ q hq=>?_⟩,tap.le hT (by simp),rfl⟩
    . have:=ho.2 q hq
      exact⟨⟨by omega,by omega⟩,by omega,by omega⟩
    . have:=ho.2 q hq
      exact⟨⟨by omega,by omega⟩,by omega,by omega⟩
structure Wg where
  len:Int
  com:Int
  co:I
noncomputable def wgI(w:Wg):I:=.tup [.int w.len,.int w.com,w.co]
noncomputable def Wg.ok(w:Wg):Prop:=(1 <= w.len/\w.len <= 20)/\(0 <= w.com/\w.com <= 60)/\okC w.co
noncomputable def Wi(ws:List Wg):Prop:=1 <= ws.length/\ws.length <= 8/\∀ w ∈ ws,w.ok
noncomputable abbrev As(ws:List Wg):I:=.tup (ws.map wgI)
noncomputable abbrev V4:MO:=.lst [.im (.int 0)]
theorem DE(ws:List Wg):(ws.map λ w=>D.im (wgI w))=(ws.map wgI).map D.im:=by rw[List.map_map];rfl
theorem Tl(n:Nat)(ds:List D):clO n (.lst ds)=BB n ds:=rfl
theorem La{α:Type}(n:Nat)(f:α->I)(l:List α):BB n (l.map λ x=>D.im (f x))=true:=by induction l <;> simp_all
theorem S6(k:Nat)(a b:MO)(hT:T (k + 300) a b):WF Fk [.mu 1,.im (.int 5),.mu 2,.mu 3] [a,b,W5,V4] λ d x=>∃ i a' b' g,d=.im i/\(∃ ws c,i=As ws/\Wi ws/\ws.length <= 5/\∀ w ∈ ws,w.com=c)/\T k a' b'/\x=a' :: b' :: ([W5,V4] ++ g):=by
  unfold Fk
  refine BQ rfl ?_
  repeat sizeOf_list_dec
  refine tap.draw hT rfl (by first|decide|omega) (by first|decide|omega) λ r1 a b hT pr1 qr1=>?_
  repeat sizeOf_list_dec
  refine tap.draw hT rfl (by first|decide|omega) (by first|decide|omega) λ r2 a b hT pr2 qr2=>?_
  repeat sizeOf_list_dec
  obtain⟨d,hd,ed⟩:=at2 pr2 qr2 (.im (.int 3)) (.im (.int 20))
  refine⟨_,_,rfl,ed,?_⟩
  obtain⟨lo,rfl,hlo⟩:∃ lo,d=.im (.int lo)/\3 <= lo/\lo <= 20:=by
    rcases hd with rfl|rfl
    . exact⟨_,rfl,by omega,by omega⟩
    . exact⟨_,rfl,by omega,by omega⟩
  repeat sizeOf_list_dec
  refine tap.draw hT rfl (by first|decide|omega) (by first|decide|omega) λ r3 a b hT pr3 qr3=>?_
  have e3:r3=0:=by simp at qr3;omega
  subst e3
  refine Ah rfl (FO _ _) ?_
  repeat sizeOf_list_dec
  refine tap.draw hT rfl (by first|decide|omega) (by first|decide|omega) λ r4 a b hT pr4 qr4=>?_
  repeat sizeOf_list_dec
  refine⟨Dk (by omega) (by omega),?_⟩
  refine C6 (λ r ls hd=>∃ (ws:List Wg) (a b:MO) (z y:Option D),ls=[some (.mu 1),some (.im (.int 5)),some (.mu 2),some (.mu 3),some (.im (.int (1 + r1))),some (.im (.int lo)),some (.im (.int 0)),some (.im (.int r4)),some (.mu 4),z,y]/\hd=[a,b,W5,V4,.lst (ws.map λ w=>.im (wgI w))]/\T (k + 34 * r.length) a b/\(∀ w ∈ ws,w.ok/\w.com=r4)/\ws.length + r.length=(1 + r1).toNat) ?_ ?_ ?_
  . exact⟨[],a,b,none,none,rfl,rfl,tap.le hT (by simp;omega),(by simp),by simp⟩
  . rintro d r ls hd ⟨ws,a,b,z,y,rfl,rfl,hT,ho,hl⟩
    simp only[List.length_cons]at hT hl
    have hT:T (k + 34 * r.length + 34) a b:=hT
    refine⟨_,rfl,?_⟩
    dsimp only[List.set_cons_zero,List.set_cons_succ]
    refine HL ?_
    repeat sizeOf_list_dec
    refine tap.draw hT rfl (by first|decide|omega) (by first|decide|omega) λ r5 a b hT pr5 qr5=>?_
    repeat sizeOf_list_dec
    refine tap.draw hT rfl (by first|decide|omega) (by first|decide|omega) λ r6 a b hT pr6 qr6=>?_
    repeat sizeOf_list_dec
    refine tap.draw hT rfl (by first|decide|omega) (by first|decide|omega) λ r7 a b hT pr7 qr7=>?_
    repeat sizeOf_list_dec
    refine tap.draw hT rfl (by first|decide|omega) (by first|decide|omega) λ r8 a b hT pr8 qr8=>?_
    repeat sizeOf_list_dec
    refine tap.callX (n:=k + 34 * r.length) (c:=30) hT [W5] (R:=okC) rfl rfl rfl rfl (VZ _) λ i a b hT hi=>?_
    repeat sizeOf_list_dec
    refine Ec rfl (Bk (by simp;omega)) ?_
    have ca:=Hl (w:=5) (by omega) (tap.cl hT).1
    have cb:=Hl (w:=5) (by omega) (tap.cl hT).2
    refine⟨?_,_,rfl,AZ _,ws ++ [⟨1 + r8,r4,i⟩],a,b,_,_,rfl,?_,hT,?_,?_⟩
    . simp[Tl,ca,cb,La]
    . simp[wgI]
    . intro w hw
      rcases List.mem_append.mp hw with h|h
      . exact ho w h
      . simp at h;subst h;exact⟨⟨⟨by show 1 <= 1 + r8;omega,by show 1 + r8 <= 20;omega⟩,⟨by show 0 <= r4;omega,by show r4 <= 60;omega⟩,hi⟩,rfl⟩
    . simp;omega
  . rintro ls hd ⟨ws,a,b,z,y,rfl,rfl,hT,ho,hl⟩
    repeat sizeOf_list_dec
    refine Dp rfl rfl ?_
    simp at hl
    refine⟨_,a,b,_,by rw[DE,CT],⟨ws,r4,rfl,⟨by omega,by omega,λ w hw=>(ho w hw).1⟩,by omega,λ w hw=>(ho w hw).2⟩,tap.le hT (by simp),rfl⟩
theorem PD(k:Nat)(n:Nat)(hn:n <= 8)(a b:MO)(hT:T (k + 100) a b):WF Es [.mu 1,.im (.int (n:Int))] [a,b] λ d x=>∃ i a' b' g,d=.im i/\(∃ (seq:List Nat) (ps:List (Int × Int)),i=.tup (ps.map K7)/\seq.Perm (List.range n)/\Along seq ps/\ps.length <= 16)/\T k a' b'/\x=a' :: b' :: g:=by
  unfold Es
  refine BQ rfl ?_
  repeat sizeOf_list_dec
  refine S8 rfl (HV (by omega) (by omega)) ?_
  repeat sizeOf_list_dec
  refine KH (λ m ls hd=>∃ (left seq:List Nat) (a b:MO),ls=[some (.mu 1),some (.im (.int (n:Int))),some (.mu 2),some (.mu 3),none,none,none,none]/\hd=[a,b,.lst (Ab left),.lst (Ab seq)]/\m=left.length/\T (k + 80 + m) a b/\(seq ++ left).Perm (List.range n)) (n:=n) ?_ ?_
  . refine⟨List.range n,[],a,b,rfl,?_,by simp,tap.le hT (by omega),by simp⟩
    rw[Int.toNat_natCast,DI];rfl
  . rintro m ls hd ⟨left,seq,a,b,rfl,rfl,rfl,hT,pm⟩
    have sl:seq.length + left.length=n:=by simpa using pm.length_eq
    repeat sizeOf_list_dec
    have en:Ab left=(left.map λ k:Nat=>(k:Int)).map λ i=>.im (.int i):=by simp[Ab]
    refine⟨left.map λ k:Nat=>(k:Int),?_,?_⟩
    . show((Bj (Ab left)).map λ is=>PyData.list (I.pys is))=_
      rw[en,GC,Option.map_some,Fy]
    repeat sizeOf_list_dec
    by_cases hl:left=[]
    . subst hl
      rw[if_neg (by simp)]
      simp only[List.append_nil]at pm
      have sl:seq.length=n:=by simpa using sl
      simp only[List.length_nil]at hT
      repeat sizeOf_list_dec
      refine tap.draw hT rfl (by first|decide|omega) (by first|decide|omega) λ r1 a b hT pr1 qr1=>?_
      repeat sizeOf_list_dec
      refine⟨U8 (by omega),?_⟩
      refine C6 (λ r ls hd=>∃ (ps:List (Int × Int)) (i:Nat) (a b:MO) (z y:Option D),r=At (i:Int) (n - i)/\i <= n/\ls=[some (.mu 1),some (.im (.int (n:Int))),some (.mu 2),some (.mu 3),some (.im (.int r1)),some (.mu 4),z,y]/\hd=[a,b,.lst [],.lst (Ab seq),.lst (ps.map Al)]/\T (k + 8 * (n - i)) a b/\ps.length <= 7 * i/\Along seq ps) ?_ ?_ ?_
      . exact⟨[],0,a,b,none,none,by simp,by omega,rfl,rfl,tap.le hT (by omega),by simp,(by intro p hp;cases hp)⟩
      . rintro d r ls hd ⟨ps,i,a,b,z,y,er,hi,rfl,rfl,hT,hl,ho⟩
        obtain⟨m,hm⟩:∃ m,n - i=m + 1:=by
          cases q:n - i with
          | zero=>rw[q]at er;cases er
          | succ m=>exact⟨m,rfl⟩
        rw[hm,At]at er
        obtain⟨rfl,rfl⟩:=List.cons.inj er
        rw[hm]at hT
        refine⟨_,rfl,?_⟩
        dsimp only[List.set_cons_zero,List.set_cons_succ]
        repeat sizeOf_list_dec
        refine⟨U8 (by omega),?_⟩
        refine C6 (λ r ls hd=>∃ (ps:List (Int × Int)) (j:Nat) (a b:MO) (y:Option D),r=At (j:Int) (i - j)/\j <= i/\ls=[some (.mu 1),some (.im (.int (n:Int))),some (.mu 2),some (.mu 3),some (.im (.int r1)),some (.mu 4),some (.im (.int (i:Int))),y]/\hd=[a,b,.lst [],.lst (Ab seq),.lst (ps.map Al)]/\T (k + 8 * m + (8 - j)) a b/\ps.length <= 7 * i + j/\Along seq ps) ?_ ?_ ?_
        . exact⟨ps,0,a,b,y,by simp,by omega,rfl,rfl,hT,by omega,ho⟩
        . rintro d r ls hd ⟨ps,j,a,b,y,er,hj,rfl,rfl,hT,hl,ho⟩
          obtain⟨m2,hm2⟩:∃ m2,i - j=m2 + 1:=by
            cases q:i - j with
            | zero=>rw[q]at er;cases er
            | succ m=>exact⟨m,rfl⟩
          rw[hm2,At]at er
          obtain⟨rfl,rfl⟩:=List.cons.inj er
          have ej:((j:Int) + 1)=((j + 1:Nat):Int):=by omega
          have em:m2=i - (j + 1):=by omega
          have hT:T (k + 8 * m + (8 - (j + 1)) + 1) a b:=tap.le hT (by omega)
          refine⟨_,rfl,?_⟩
          dsimp only[List.set_cons_zero,List.set_cons_succ]
          refine RQ ?_
          refine WP.mono (Q:=λ c x=>∃ a b,T (k + 8 * m + (8 - (j + 1))) a b/\x=[a,b,.lst [],.lst (Ab seq),.lst (ps.map Al)]) ?_ ?_
          . have tail:WT (E2 (AI (mOp (gIn false) (A0 4) (DD (A2 (mC (.int 1)) (A2 (mC (.int 2)) A6))))) (AI (mOp gEq (AC 2 Ao (A2 (A0 0) (A2 (Hc (BA (A2 (mC (.int 1)) (A2 (mC (.int 4)) (A2 (mC (.int 2)) A6)))) (A0 4)) A6))) (mC (.int 0))))) [some (.mu 1),some (.im (.int (n:Int))),some (.mu 2),some (.mu 3),some (.im (.int r1)),some (.mu 4),some (.im (.int (i:Int))),some (.im (.int (j:Int)))] [a,b,.lst [],.lst (Ab seq),.lst (ps.map Al)] (λ c x=>∃ a b,T (k + 8 * m + (8 - (j + 1))) a b/\x=[a,b,.lst [],.lst (Ab seq),.lst (ps.map Al)]):=by
              repeat sizeOf_list_dec
              refine WP.eq (in_ints (xs:=[1,2]) r1 false (by simp)) ?_
              repeat sizeOf_list_dec
              by_cases h12:r1=1 ∨ r1=2
              . rw[if_pos (by simpa using h12)]
                repeat sizeOf_list_dec
                have hx:∃ x:Int,(0 < x/\x <= 4)/\atI [D.im (.int 1),.im (.int 4),.im (.int 2)] r1=some (.im (.int x)):=by
                  rcases h12 with rfl|rfl
                  . exact⟨4,by omega,Gf _ _ _⟩
                  . exact⟨2,by omega,Hq _ _ _ _⟩
                obtain⟨x,hx1,hx2⟩:=hx
                refine tap.draw (many:=x) (rest:=[.lst [],.lst (Ab seq),.lst (ps.map Al)]) hT (by simp[hx2]) (by omega) (by omega) λ r a b hT pr qr=>?_
                repeat sizeOf_list_dec
                exact⟨a,b,hT,rfl⟩
              . rw[if_neg (by simpa using h12)]
                exact⟨a,b,tap.le hT (by omega),rfl⟩
            repeat sizeOf_list_dec
            split
            . repeat sizeOf_list_dec
              split
              . exact⟨a,b,tap.le hT (by omega),rfl⟩
              . exact tail
            . rw[if_neg Bool.false_ne_true]
              exact tail
          . rintro c x ⟨a,b,hT,rfl⟩
            cases c with
            | false=>
              rw[if_neg Bool.false_ne_true]
              repeat sizeOf_list_dec
              exact⟨AZ _,ps,j + 1,a,b,_,by rw[ej,em],by omega,rfl,rfl,hT,by omega,ho⟩
            | true=>
              rw[if_pos rfl]
              have hj1:j < seq.length:=by omega
              have hi1:i < seq.length:=by omega
              have sj:seq[j]? = some seq[j]:=by simp[hj1]
              have si:seq[i]? = some seq[i]:=by simp[hi1]
              repeat sizeOf_list_dec
              refine Ah rfl (OQ sj) ?_
              repeat sizeOf_list_dec
              refine Ah rfl (OQ si) ?_
              repeat sizeOf_list_dec
              refine Ec rfl (Bk (by simp;omega)) ?_
              refine⟨AZ _,ps ++ [((seq[j]:Int),(seq[i]:Int))],j + 1,a,b,_,by rw[ej,em],by omega,rfl,by simp[Al],hT,by simp;omega,?_⟩
              intro p hp
              rcases List.mem_append.mp hp with hp|hp
              . exact ho p hp
              . simp at hp;exact⟨j,i,_,_,by omega,sj,si,hp⟩
        . rintro ls hd ⟨ps,j,a,b,y,er,hj,rfl,rfl,hT,hl,ho⟩
          have:i - j=0:=by
            cases q:i - j with
            | zero=>rfl
            | succ m=>rw[q]at er;cases er
          exact⟨AZ _,ps,i + 1,a,b,_,_,by rw[show n - (i + 1)=m by omega];rfl,by omega,rfl,rfl,tap.le hT (by omega),by omega,ho⟩
      . rintro ls hd ⟨ps,i,a,b,z,y,er,hi,rfl,rfl,hT,hl,ho⟩
        have pk:=ho.pok pm (by omega)
        have c64:ps.length < 64/\∀ q ∈ ps,pok q:=⟨by omega,pk⟩
        repeat sizeOf_list_dec
        have sub:((C7 ps).take 16).Sublist (C7 ps):=List.take_sublist _ _
        have cut:Ep ((C7 ps).map Al) none (some 16)=((C7 ps).map Al).take 16:=Qy ((C7 ps).map Al) 16
        have mk:BF (((C7 ps).map Al).take 16)=.im (.tup (((C7 ps).take 16).map K7)):=by
          have:((C7 ps).map Al).take 16=(((C7 ps).take 16).map K7).map D.im:=by rw[<- List.map_take,List.map_map];rfl
          rw[this,CT]
        refine WP.eq (z:=((C7 ps).take 16).map Al) (h:=[a,b,.lst [],.lst (Ab seq),.lst (ps.map Al),.lst ((C7 ps).map Al)]) ?_ ?_
        . simp
          rw[if_pos c64]
          simp[cut]
        . refine⟨_,rfl,_,a,b,_,?_,⟨seq,(C7 ps).take 16,rfl,pm,λ p h=>ho p ((Fq ps).mem_iff.mp (sub.subset h)),by simp;omega⟩,tap.le hT (by omega),rfl⟩
          rw[List.map_take];exact mk
    . rw[if_pos (by simpa using hl)]
      have h1:0 < left.length:=List.length_pos_iff.mpr hl
      obtain⟨l,hl2⟩:∃ l,left.length=l + 1:=⟨left.length - 1,by omega⟩
      rw[hl2]at hT
      repeat sizeOf_list_dec
      refine tap.draw (many:=(left.length:Int)) (rest:=[.lst (Ab left),.lst (Ab seq)]) hT (by simp[Ci]) (by omega) (by omega) λ r a b hT pr qr=>?_
      repeat sizeOf_list_dec
      have hr:r.toNat < left.length:=by omega
      have e1:left[r.toNat]? = some left[r.toNat]:=by simp[hr]
      refine P8 rfl (Dk (by omega) (by omega)) (TQ (n:=(Ab left).length) pr (by simp;omega)) (by simp[e1];rfl) ?_
      repeat sizeOf_list_dec
      refine Ec rfl (Bk (by simp;omega)) ?_
      refine⟨l,by omega,left.eraseIdx r.toNat,seq ++ [left[r.toNat]],a,b,rfl,?_,by rw[List.length_eraseIdx,if_pos hr];omega,hT,(OH e1).trans pm⟩
      have er:(Ab left).eraseIdx r.toNat=Ab (left.eraseIdx r.toNat):=Jl _ _ _
      simp[er]
end T28
namespace Hds
open PySem L2 Bd
structure IsHead(S:Nat->Prop)(c l:Nat->Int)(W:List (Nat × Nat))(h:Nat->Int):Prop where
  lo:∀ k,S k->c k <= h k
  up:∀ p ∈ W,S p.2->h p.1 + l p.1 <= h p.2
  eq:∀ k,S k->h k=c k ∨ ∃ p ∈ W,p.2=k/\h k=h p.1 + l p.1
structure Rk(S:Nat->Prop)(W:List (Nat × Nat))(rk:Nat->Nat):Prop where
  ins:∀ p ∈ W,S p.1/\S p.2
  lt:∀ p ∈ W,rk p.1 < rk p.2
theorem RK{seq:List Nat}{n:Nat}(pm:seq.Perm (List.range n)){ps:List (Int × Int)}(h:Along seq ps):∃ W:List (Nat × Nat),ps=(W.map λ p=>((p.1:Int),(p.2:Int)))/\Rk (λ k=>k < n) W (λ k=>seq.idxOf k)/\∀ k,k < n->seq.idxOf k < n:=by
  have nd:seq.Nodup:=pm.nodup_iff.mpr List.nodup_range
  have sl:seq.length=n:=by simpa using pm.length_eq
  have ix:∀ {i a:Nat},seq[i]? = some a->seq.idxOf a=i:=λ {i a} e=>by
    obtain⟨hi,e⟩:=List.getElem?_eq_some_iff.mp e
    subst e
    exact nd.idxOf_getElem i hi
  refine⟨ps.map λ p=>(p.1.toNat,p.2.toNat),?_,⟨?_,?_⟩,?_⟩
  . rw[List.map_map]
    refine(List.map_id' ps).symm.trans (List.map_congr_left λ p hp=>?_)
    obtain⟨i,j,a,b,_,_,_,rfl⟩:=h p hp
    simp
  . intro q hq
    obtain⟨p,hp,rfl⟩:=List.mem_map.mp hq
    obtain⟨i,j,a,b,_,ea,eb,rfl⟩:=h p hp
    exact⟨by simpa using pm.mem_iff.mp (List.mem_of_getElem? ea),by simpa using pm.mem_iff.mp (List.mem_of_getElem? eb)⟩
  . intro q hq
    obtain⟨p,hp,rfl⟩:=List.mem_map.mp hq
    obtain⟨i,j,a,b,hij,ea,eb,rfl⟩:=h p hp
    show seq.idxOf (a:Int).toNat < seq.idxOf (b:Int).toNat
    simp only[Int.toNat_natCast]
    rw[ix ea,ix eb];exact hij
  . intro k hk
    have:k ∈ seq:=pm.mem_iff.mpr (by simpa using hk)
    have:=List.idxOf_lt_length_iff.mpr this
    omega
end Hds
namespace T28
open PySem L2 Bd Hds
local macro_rules | `(tactic| sizeOf_list_dec) => `(tactic| first | (with_reducible refine AH ?_; try dsimp only [List.set_cons_zero, List.set_cons_succ, List.map_cons, List.map_nil, List.cons_append, List.nil_append, List.replicate, Nat.reduceSub, Int.reduceToNat]) | with_reducible refine HP ?_ | with_reducible refine AY ?_ | with_reducible refine Aw ?_ | with_reducible refine BW ?_ | with_reducible refine EU ?_ | with_reducible refine BO ?_ | with_reducible refine Ca ?_ | with_reducible refine KI ?_ | with_reducible refine Gj ?_ | with_reducible refine EC ?_ | with_reducible refine A5 (d := _) rfl ?_ | with_reducible refine BP ?_ | with_reducible refine Ad ?_ | with_reducible refine FR ?_ | with_reducible refine Cl ?_ | with_reducible refine Cm ?_ | with_reducible refine KO ?_ | with_reducible refine E9 ?_ | with_reducible refine Gm ?_ | with_reducible refine E4 ?_ | with_reducible refine Iq ?_ | with_reducible refine BG ?_ | with_reducible refine KG ?_ | with_reducible refine GH ?_ | with_reducible refine Jy ?_ | with_reducible refine Do ?_ | with_reducible refine AM ?_ | with_reducible refine A9 ?_ | with_reducible refine Dq ?_ | with_reducible refine C3 ?_ | with_reducible refine HN ?_ | with_reducible refine Ms ?_ | with_reducible refine Ed ?_ | with_reducible refine PH ?_ | with_reducible refine KM ?_ | with_reducible refine FQ ?_ | with_reducible refine KJ ?_ | with_reducible refine Mp ?_ | with_reducible refine Jz ?_ | with_reducible refine Mq ?_ | with_reducible refine Mr ?_ | with_reducible refine GI ?_ | with_reducible refine FP ?_ | with_reducible refine Eb ?_ | with_reducible refine KK ?_ | with_reducible refine Gk ?_ | with_reducible refine Io ?_ | with_reducible refine ⟨_, rfl, ?_⟩ | refine Ah rfl (FO _ _) ?_ | refine Ah rfl (Gf _ _ _) ?_ | refine Ah rfl (Hq _ _ _ _) ?_ | refine ⟨_, _, _, _, rfl, rfl, rfl, rfl, ?_⟩ | refine ⟨⟨_, rfl⟩, ?_⟩ | refine ⟨Ib, ?_⟩ | refine ⟨LV, ?_⟩ | refine ⟨LU, ?_⟩ | refine ⟨LS, ?_⟩ | refine ⟨Ic, ?_⟩ | refine ⟨GV, ?_⟩ | with_reducible refine Fo ?_)
noncomputable def Ap(p:Nat × Nat):I:=.tup [.int p.1,.int p.2]
theorem FE(ns:List Int):BN (intD ns)=some ns:=by
  induction ns with
  | nil=>rfl
  | cons n r ih=>simp[intD]at ih ⊢
theorem Tz{ma mb:ME}{ls:Ls}{hd:Hd}{QA:List D->Hd->Prop}(h:WE ma ls hd λ d x=>WE mb ls x λ e y=>∃ i j xs ys,d=.mu i/\e=.mu j/\y[i]? = some (.lst xs)/\y[j]? = some (.lst ys)/\C2 (xs.length + ys.length)/\QA (xs ++ ys) y):WA (LJ ma mb) ls hd QA:=by
  obtain⟨d,x,e1,e,y,e2,i,j,xs,ys,rfl,rfl,e3,e4,c,q⟩:=h
  exact⟨_,_,by simp only[LJ,e1,Option.bind_some,e2,e3,e4,c,if_true],q⟩
noncomputable def Cj(ws:List Wg)(k:Nat):Int:=((ws[k]?).map Wg.com).getD 0
noncomputable def AJ(ws:List Wg)(k:Nat):Int:=((ws[k]?).map Wg.len).getD 0
theorem EN{ws:List Wg}{k:Nat}(hk:k < ws.length):atI (ws.map λ w=>D.im (wgI w)) (k:Int)=some (.im (wgI ws[k])):=Li rfl (by simp[hk])
noncomputable abbrev prD(W:List (Nat × Nat)):List D:=W.map λ p=>D.im (Ap p)
noncomputable def Hr(w:Nat)(o:Option D):Option D:=match o with
  | some d=>if clD w d=true then some d else none
  | none=>none
theorem PL(w:Nat)(ls:Ls):Ew w ls=ls.map (Hr w):=rfl
theorem E6{w:Nat}{d:D}(h:clD w d=true):Hr w (some d)=some d:=by simp[Hr,h]
theorem hg1(H0:Hd)(x y:MO)(r:Hd):(H0 ++ x :: y :: r)[H0.length + 1]? = some y:=by
  rw[List.getElem?_append_right (by omega)];simp
theorem hg2(H0:Hd)(x y z:MO)(r:Hd):(H0 ++ x :: y :: z :: r)[H0.length + 2]? = some z:=by
  rw[List.getElem?_append_right (by omega)];simp
noncomputable abbrev Ck(W:List (Nat × Nat))(some_:List Nat):List (Nat × Nat):=W.filter λ p=>decide (p.1 ∈ some_) && decide (p.2 ∈ some_)
theorem Nq(W:List (Nat × Nat))(some_:List Nat):(W.filterMap λ p=>if p.1 ∈ some_/\p.2 ∈ some_ then some (D.im (Ap p))else none)=prD (Ck W some_):=by
  induction W with
  | nil=>rfl
  | cons p r ih=>
    rw[List.filterMap_cons]
    by_cases h1:p.1 ∈ some_ <;> by_cases h2:p.2 ∈ some_ <;> simp[h1,h2,Ck,prD]at ih ⊢ <;> exact ih
structure Up(some_:List Nat)(W:List (Nat × Nat))(rk:Nat->Nat)(b l h:Nat->Int)(t:Nat)(rest:List (Nat × Nat))(v:Nat->Int):Prop where
  lo:∀ k ∈ some_,b k <= v k
  hi:∀ k ∈ some_,v k <= h k
  old:∀ k ∈ some_,rk k < t->v k=h k
  new:∀ k ∈ some_,rk k=t->v k=h k ∨ ∃ p ∈ rest,p.2=k/\h k=h p.1 + l p.1
theorem Up.begin{some_:List Nat}{W:List (Nat × Nat)}{rk:Nat->Nat}{b l h v:Nat->Int}{t:Nat}(H:IsHead (λ k=>k ∈ some_) b l W h)(lo:∀ k ∈ some_,b k <= v k)(hi:∀ k ∈ some_,v k <= h k)(old:∀ k ∈ some_,rk k < t->v k=h k):Up some_ W rk b l h t W v:=
  ⟨lo,hi,old,λ k hk e=>by
    rcases H.eq k hk with e|⟨p,hp,e1,e2⟩
    . have:=lo k hk;have:=hi k hk;exact .inl (by omega)
    . exact .inr ⟨p,hp,e1,e2⟩⟩
theorem Up.step{some_:List Nat}{W:List (Nat × Nat)}{rk:Nat->Nat}{b l h v:Nat->Int}{t:Nat}{q:Nat × Nat}{r:List (Nat × Nat)}(R:Rk (λ k=>k ∈ some_) W rk)(H:IsHead (λ k=>k ∈ some_) b l W h)(hq:q ∈ W)(U:Up some_ W rk b l h t (q :: r) v) :
    Up some_ W rk b l h t r (λ k=>if k=q.2 then max (v q.2) (v q.1 + l q.1)else v k):=by
  have hq1:=(R.ins q hq).1
  have hq2:=(R.ins q hq).2
  have u1:=H.up q hq hq2
  have u2:=U.hi q.1 hq1
  have u3:=U.hi q.2 hq2
  refine⟨λ k hk=>?_,λ k hk=>?_,λ k hk hr=>?_,λ k hk hr=>?_⟩
  . by_cases e:k=q.2
    . subst e;simp only[if_true];have:=U.lo q.2 hk;omega
    . simp only[e,if_false];exact U.lo k hk
  . by_cases e:k=q.2
    . subst e;simp only[if_true];omega
    . simp only[e,if_false];exact U.hi k hk
  . by_cases e:k=q.2
    . subst e;simp only[if_true];have:=U.old q.2 hk hr;omega
    . simp only[e,if_false];exact U.old k hk hr
  . by_cases e:k=q.2
    . subst e
      simp only[if_true]
      rcases U.new q.2 hk hr with e1|⟨p,hp,e1,e2⟩
      . exact .inl (by omega)
      . rcases List.mem_cons.mp hp with rfl|hp
        . have lt:=R.lt p hq
          have:=U.old p.1 hq1 (by omega)
          exact .inl (by omega)
        . exact .inr ⟨p,hp,e1,e2⟩
    . simp only[e,if_false]
      rcases U.new k hk hr with e1|⟨p,hp,e1,e2⟩
      . exact .inl e1
      . rcases List.mem_cons.mp hp with rfl|hp
        . exact absurd e1.symm e
        . exact .inr ⟨p,hp,e1,e2⟩
noncomputable abbrev onS(some_:List Nat)(v:Nat->Int):Nat->Option Int:=λ k=>if k ∈ some_ then some (v k)else none
theorem Py{ws:List Wg}{W:List (Nat × Nat)}{some_:List Nat}{t:Int}{rk:Nat->Nat}{h:Nat->Int}(hn:ws.length <= 8)(hW:W.length <= 16)(hs:∀ k ∈ some_,k < ws.length)(hl:some_.length <= 8)
    (R:Rk (λ k=>k ∈ some_) (Ck W some_) rk) (hrk:∀ k ∈ some_,rk k < some_.length) (H:IsHead (λ k=>k ∈ some_) (λ k=>max (Cj ws k) t) (AJ ws) (Ck W some_) h) :
    WF Et [.im (As ws),.im (.tup (W.map Ap)),.im (Ae some_),.im (.int t)] [] λ d x=>d=.im (.tup (some_.map λ k=>.int (h k))):=by
  unfold Et
  refine BQ rfl ?_
  repeat sizeOf_list_dec
  refine S7 (P9 ?_)
  repeat sizeOf_list_dec
  have nat_im:(Ae some_)=.tup (some_.map λ k:Nat=>I.int (k:Int)):=rfl
  have tn:(some_.map λ k:Nat=>I.int (k:Int)).map D.im=Ab some_:=by simp[Ab]
  rw[tn]
  refine KN (λ r acc ls hd=>∃ (done rest:List Nat) (z:Option D),some_=done ++ rest/\r=Ab rest/\ls=[z,some (.im (As ws)),some (.im (.int t))]/\hd=[]/\acc.length <= done.length/\DicI acc (onS done λ k=>max (Cj ws k) t)) ?_ ?_ ?_
  . exact⟨[],some_,none,rfl,rfl,rfl,rfl,by simp,λ k=>by simp[BM]⟩
  . rintro d r acc ls hd ⟨dn,rest,z,es,er,rfl,rfl,la,hd⟩
    cases rest with
    | nil=>cases er
    | cons k rest=>
      obtain⟨rfl,rfl⟩:=List.cons.inj er
      have hk:k < ws.length:=hs k (by rw[es];simp)
      refine⟨_,rfl,?_⟩
      repeat sizeOf_list_dec
      rw[if_pos rfl]
      refine Tu ?_
      repeat sizeOf_list_dec
      refine Ah rfl (by rw[<- DE];exact EN hk) ?_
      repeat sizeOf_list_dec
      refine⟨Bk (by have:=congrArg List.length es;simp at this;omega),AZ _,dn ++ [k],rest,_,by rw[es];simp,rfl,rfl,rfl,by have:=Kv acc (.inl (k:Int)) (.im (.int (max ws[k].com t)));simp;omega,?_⟩
      have e:ws[k].com=Cj ws k:=by simp[Cj,hk]
      rw[e]
      intro j
      rw[hd.put k _ j]
      by_cases ej:j=k
      . subst ej;simp
      . simp[ej]
  rintro acc ls hd ⟨dn,rest,z,es,er,rfl,rfl,la,hdic⟩
  have:rest=[]:=by cases rest with
    | nil=>rfl
    | cons _ _=>cases er
  subst this
  simp only[List.append_nil]at es
  subst es
  repeat sizeOf_list_dec
  refine⟨Ag (by simp;omega),?_⟩
  have tw:(W.map Ap).map D.im=W.map λ p=>D.im (Ap p):=by rw[List.map_map];rfl
  rw[tw]
  refine Cn (λ p:Nat × Nat=>D.im (Ap p)) (λ p=>if p.1 ∈ some_/\p.2 ∈ some_ then some (.im (Ap p))else none) (λ _ ls=>∃ x y,ls=[some x,some y,some (.mu 0)]) _ (AZ _) ?_ ?_
  . rintro p hp ls hls
    refine⟨[some (.im (.int (p.1:Int))),some (.im (.int (p.2:Int))),some (.mu 0)],by rcases hls with rfl|⟨_,x,y,rfl⟩ <;> rfl,⟨_,_,rfl⟩,?_⟩
    repeat sizeOf_list_dec
    refine Lz (kvs:=acc) rfl hdic ?_
    repeat sizeOf_list_dec
    by_cases h1:p.1 ∈ some_
    . rw[if_pos (by simp[h1])]
      repeat sizeOf_list_dec
      refine Lz (kvs:=acc) rfl hdic ?_
      repeat sizeOf_list_dec
      refine⟨rfl,?_⟩
      by_cases h2:p.2 ∈ some_
      . rw[if_pos (by simp[h2])]
        refine⟨_,if_pos ⟨h1,h2⟩,?_⟩
        repeat sizeOf_list_dec
        exact⟨rfl,Gv _ _⟩
      . rw[if_neg (by simp[h2])]
        exact if_neg λ z=>h2 z.2
    . rw[if_neg (by simp[h1])]
      refine⟨rfl,?_⟩
      rw[if_neg Bool.false_ne_true]
      exact if_neg λ z=>h1 z.1
  rw[Nq]
  have wl:(Ck W some_).length <= 16:=Nat.le_trans (List.length_filter_le _ _) hW
  repeat sizeOf_list_dec
  rw[tn]
  refine C6 (λ r ls hd=>∃ (n:Nat) (kvs:List (Key × D)) (v:Nat->Int) (z6 z7 z8:Option D),ls=[some (.im (As ws)),some (.im (.tup (W.map Ap))),some (.im (Ae some_)),some (.im (.int t)),some (.mu 0),some (.mu 1),z6,z7,z8]/\hd=[.dic kvs,.lst (prD (Ck W some_))]/\n + r.length=some_.length/\kvs.length <= 8 + 16 * n/\DicI kvs (onS some_ v)/\(∀ k ∈ some_,max (Cj ws k) t <= v k)/\(∀ k ∈ some_,v k <= h k)/\∀ k ∈ some_,rk k < n->v k=h k) ?_ ?_ ?_
  . exact⟨0,acc,λ k=>max (Cj ws k) t,none,none,none,rfl,rfl,by simp,by omega,hdic,λ k _=>Int.le_refl _,λ k hk=>H.lo k hk,λ k _ hr=>by omega⟩
  . rintro d r ls hd ⟨n,kvs,v,z6,z7,z8,rfl,rfl,hl2,lk,hdic,lo,hi,old⟩
    simp only[List.length_cons]at hl2
    refine⟨_,rfl,?_⟩
    dsimp only[List.set_cons_zero,List.set_cons_succ]
    repeat sizeOf_list_dec
    refine⟨_,_,rfl,rfl,?_⟩
    refine C6 (λ r ls hd=>∃ (rest:List (Nat × Nat)) (kvs:List (Key × D)) (v:Nat->Int) (z6 z7 z8:Option D),r=prD rest/\(∀ p ∈ rest,p ∈ Ck W some_)/\ls=[some (.im (As ws)),some (.im (.tup (W.map Ap))),some (.im (Ae some_)),some (.im (.int t)),some (.mu 0),some (.mu 1),z6,z7,z8]/\hd=[.dic kvs,.lst (prD (Ck W some_))]/\kvs.length + rest.length <= 8 + 16 * n + 16/\DicI kvs (onS some_ v)/\Up some_ (Ck W some_) rk (λ k=>max (Cj ws k) t) (AJ ws) h n rest v) ?_ ?_ ?_
    . exact⟨Ck W some_,kvs,v,_,_,_,rfl,λ p hp=>hp,rfl,rfl,by omega,hdic,Up.begin H lo hi old⟩
    . rintro d r ls hd ⟨rest,kvs,v,z6,z7,z8,er,hsub,rfl,rfl,lk,hdic,U⟩
      cases rest with
      | nil=>cases er
      | cons q rest=>
        obtain⟨rfl,rfl⟩:=List.cons.inj er
        have hq:=hsub q List.mem_cons_self
        have hq1:=(R.ins q hq).1
        have hq2:=(R.ins q hq).2
        refine⟨_,rfl,?_⟩
        dsimp only[List.set_cons_zero,List.set_cons_succ]
        refine S0 (k:=.inl 0) (w:=0) ?_
        repeat sizeOf_list_dec
        refine HM (kvs:=kvs) rfl hdic (if_pos hq2) ?_
        repeat sizeOf_list_dec
        refine HM (kvs:=kvs) rfl hdic (if_pos hq1) ?_
        repeat sizeOf_list_dec
        refine Ah rfl (by rw[<- DE];exact EN (hs _ hq1)) ?_
        repeat sizeOf_list_dec
        simp only[List.length_cons]at lk
        refine⟨_,_,_,rfl,rfl,rfl,Bk (by omega),?_⟩
        have hq1n:q.1 < ws.length:=hs _ hq1
        have el:ws[q.1].len=AJ ws q.1:=by simp[AJ,hs _ hq1]
        rw[el]
        refine⟨by intro p hp;simp at hp;subst hp;rfl,rest,_,_,_,_,_,rfl,λ p hp=>hsub p (List.mem_cons_of_mem _ hp),rfl,rfl,by have:=Kv kvs (.inl (q.2:Int)) (.im (.int (max (v q.2) (v q.1 + AJ ws q.1))));omega,?_,Up.step R H hq U⟩
        intro j
        rw[hdic.put q.2 _ j]
        by_cases ej:j=q.2
        . subst ej;simp[hq2]
        . simp[ej]
    . rintro ls hd ⟨rest,kvs,v,z6,z7,z8,er,hsub,rfl,rfl,lk,hdic,U⟩
      have:rest=[]:=by cases rest with
        | nil=>rfl
        | cons _ _=>cases er
      subst this
      refine⟨AZ _,n + 1,kvs,v,_,_,_,rfl,rfl,by omega,by simp at lk;omega,hdic,U.lo,U.hi,λ k hk hr=>?_⟩
      by_cases e:rk k=n
      . rcases U.new k hk e with e|⟨p,hp,_⟩
        . exact e
        . cases hp
      . exact U.old k hk (by omega)
  . rintro ls hd ⟨n,kvs,v,z6,z7,z8,rfl,rfl,hl2,lk,hdic,lo,hi,old⟩
    simp only[List.length_nil,Nat.add_zero]at hl2
    subst hl2
    repeat sizeOf_list_dec
    rw[tn]
    refine⟨Ag (by simp;omega),?_⟩
    refine Cn (λ k:Nat=>D.im (.int (k:Int))) (λ k=>some (.im (.int (h k)))) (λ _ ls=>∃ x,ls=[some x,some (.mu 0)]) _ (AZ _) ?_ ?_
    . rintro k hk ls hls
      refine⟨[some (.im (.int (k:Int))),some (.mu 0)],by rcases hls with rfl|⟨_,x,rfl⟩ <;> rfl,⟨_,rfl⟩,?_⟩
      repeat sizeOf_list_dec
      refine⟨rfl,?_⟩
      rw[if_pos rfl]
      refine⟨_,rfl,?_⟩
      repeat sizeOf_list_dec
      exact HM (kvs:=kvs) rfl hdic (if_pos hk) ⟨rfl,by rw[old k hk (hrk k hk)]⟩
    . refine⟨_,rfl,?_⟩
      have:(some_.filterMap λ k=>some (D.im (.int (h k))))=(some_.map λ k=>I.int (h k)).map D.im:=by simp
      rw[this]
      exact CT _
theorem m1:¬ (("miss":Str)="ends"):=by decide +kernel
theorem s1:¬ (("steps":Str)="late"):=by decide +kernel
theorem s2:¬ (("steps":Str)="tardy"):=by decide +kernel
theorem s3:¬ (("steps":Str)="miss"):=by decide +kernel
theorem s4:¬ (("steps":Str)="ends"):=by decide +kernel
theorem e1:¬ (("ends":Str)="late"):=by decide +kernel
theorem e2:¬ (("ends":Str)="tardy"):=by decide +kernel
theorem e3:¬ (("ends":Str)="miss"):=by decide +kernel
theorem Ti{c:Cost}(h:EK c)(t:Int):WF DP [.im (BU c),.im (.int t)] [] λ d x=>d=.im (.int (c.at t)):=by
  cases c with
  | late d=>exact WP.eq (z:=.im (.int (t - d))) (h:=[]) (by simp[DP,mkF,BU]) rfl
  | tardy d w=>
    have b1:∀ j,EQ w j:=λ j=>Dm (by have:=h.1;omega) (by have:=h.2;omega)
    refine WP.eq (z:=.im (.int (w * if d < t then t - d else 0))) (h:=[]) (by simp[DP,mkF,BU,n8,b1,ET]) ?_
    simp only[Cost.at]
    by_cases q:t - d <= 0
    . rw[if_neg (by omega),if_pos q,Int.mul_zero]
    . rw[if_pos (by omega),if_neg q]
  | miss d w=>
    have b1:∀ j,EQ w j:=λ j=>Dm (by have:=h.1;omega) (by have:=h.2;omega)
    refine WP.eq (z:=.im (.int (w * if d < t then 1 else 0))) (h:=[]) (by simp[DP,mkF,BU,n9,n10,b1,NW]) ?_
    simp only[Cost.at]
    by_cases q:t - d <= 0
    . rw[if_neg (by omega),if_pos q,Int.mul_zero]
    . rw[if_pos (by omega),if_neg q,Int.mul_one]
  | ends w=>
    have b1:∀ j,EQ w j:=λ j=>Dm (by have:=h.1;omega) (by have:=h.2;omega)
    exact WP.eq (z:=.im (.int (w * t))) (h:=[]) (by simp[DP,mkF,BU,e1,e2,e3,b1]) rfl
  | steps rows=>
    obtain⟨hl,hr,ha⟩:=h
    unfold DP
    refine BQ rfl ?_
    refine AY (Ca (BG (Ad (Ad (A5 rfl (BP (Ah rfl (FO _ _) (BP (Eb ⟨_,rfl,(λ q=>absurd (of_decide_eq_true q) s1),λ _=>BO (AH ?_)⟩)))))))))
    refine AY (Ca (BG (Ad (Ad (A5 rfl (BP (Ah rfl (FO _ _) (BP (Eb ⟨_,rfl,(λ q=>absurd (of_decide_eq_true q) s2),λ _=>BO (AH ?_)⟩)))))))))
    refine AY (Ca (BG (Ad (Ad (A5 rfl (BP (Ah rfl (FO _ _) (BP (Eb ⟨_,rfl,(λ q=>absurd (of_decide_eq_true q) s3),λ _=>BO (AH ?_)⟩)))))))))
    refine AY (Ca (BG (Ad (Ad (A5 rfl (BP (Ah rfl (FO _ _) (BP (Eb ⟨_,rfl,(λ q=>absurd (of_decide_eq_true q) s4),λ _=>BO (AH ?_)⟩)))))))))
    refine BW (Cm (Tz (Cl (Dq (A9 (BP (AM ⟨GV,?_⟩)))))))
    refine Cl (C3 (Ed (Ad (A5 rfl (BP (Ah rfl (Gf _ _ _) ⟨_,rfl,?_⟩))))))
    rw[show(rows.map Fs).map D.im=rows.map Al by simp[Fs,Al]]
    refine⟨Ag (by simp;omega),?_⟩
    refine Cn Al (λ q=>if q.1 <= t then some (.im (.int q.2))else none) (λ _ ls=>∃ x y,ls=[some x,some y,some (.im (.int t))]) _ (AZ _) ?_ ?_
    . rintro q hq ls hls
      refine⟨[some (.im (.int q.1)),some (.im (.int q.2)),some (.im (.int t))],by rcases hls with rfl|⟨_,x,y,rfl⟩ <;> rfl,⟨_,_,rfl⟩,BG (Ad (A5 rfl (A5 rfl (Jz ⟨_,rfl,rfl,?_⟩))))⟩
      by_cases hb:q.1 <= t
      . rw[if_pos (by simpa using hb)]
        exact⟨_,if_pos hb,A5 rfl ⟨rfl,rfl⟩⟩
      . rw[if_neg (by simpa using hb)]
        exact if_neg hb
    have ef:(rows.filterMap λ q=>if q.1 <= t then some (D.im (.int q.2))else none)=intD ((rows.filter λ q=>decide (q.1 <= t)).map (·.2)):=by
      clear hl hr ha
      induction rows with
      | nil=>rfl
      | cons q r ih=>
        rw[List.filterMap_cons,List.filter_cons]
        by_cases hb:q.1 <= t
        . simp[hb,ih,intD]
        . simp[hb,ih]
    rw[ef]
    have fl:=List.length_filter_le (λ q:Int × Int=>decide (q.1 <= t)) rows
    refine⟨0,1,_,_,rfl,rfl,rfl,rfl,Ag (by simp;omega),?_⟩
    refine⟨.im (.int (BK t rows 0)),?_,rfl⟩
    rw[<- JZ t hr ha]
    show He (intD (0 :: (rows.filter λ q=>decide (q.1 <= t)).map (·.2)))=_
    unfold He
    rw[FE]
    simp
theorem G0(ks:List Nat):BF (Ab ks)=.im (Ae ks):=by
  have:Ab ks=(ks.map λ k:Nat=>I.int (k:Int)).map D.im:=by simp[Ab]
  rw[this,CT]
theorem WK(p:Nat->Prop)[DecidablePred p](L:List Nat):(L.filterMap λ a=>if p a then some (D.im (.int (a:Int)))else none)=Ab (L.filter λ a=>decide (p a)):=by
  induction L with
  | nil=>rfl
  | cons x r ih=>
    rw[List.filterMap_cons,List.filter_cons]
    by_cases h:p x
    . simp[h,ih,Ab]
    . simp[h,ih,Ab]
noncomputable abbrev AT(ks:List Nat):D:=.im (Ae ks)
end T28
namespace Bd
open PySem L2
inductive Rc(ps:List (Int × Int)):Int->Int->Prop
  | one {x y:Int}:(x,y) ∈ ps->Rc ps x y
  | step {x y z:Int}:Rc ps x y->(y,z) ∈ ps->Rc ps x z
theorem GN:∀ {l m:List Int},l.Nodup->(∀ x ∈ l,x ∈ m)->l.length <= m.length
  | [],m,_,_=>by simp
  | x :: r,m,nd,h=>by
    obtain⟨n1,n2⟩:=List.nodup_cons.mp nd
    have hx:=h x List.mem_cons_self
    have:=GN (l:=r) (m:=m.erase x) n2 λ y hy=>(List.mem_erase_of_ne (λ e=>n1 (by rw[<- e];exact hy))).mpr (h y (List.mem_cons_of_mem _ hy))
    rw[List.length_erase_of_mem hx]at this
    have:=List.length_pos_of_mem hx
    simp only[List.length_cons]
    omega
structure Found(ps:List (Int × Int))(a:Int)(found fresh:List Int):Prop where
  nd:found.Nodup
  rc:∀ x ∈ found,Rc ps a x
  fr:∀ x ∈ fresh,x=a ∨ x ∈ found
  cl:∀ x,(x=a ∨ x ∈ found)->x ∈ fresh ∨ ∀ y,(x,y) ∈ ps->y ∈ found
theorem Rc.snd{ps:List (Int × Int)}{x y:Int}(h:Rc ps x y):y ∈ ps.map (·.2):=by
  cases h with
  | one h=>exact List.mem_map.mpr ⟨_,h,rfl⟩
  | step _ h=>exact List.mem_map.mpr ⟨_,h,rfl⟩
theorem Found.len{ps:List (Int × Int)}{a:Int}{found fresh:List Int}(h:Found ps a found fresh):found.length <= ps.length:=by
  have:=GN h.nd λ x hx=>(h.rc x hx).snd
  simpa using this
theorem Found.iff{ps:List (Int × Int)}{a:Int}{found:List Int}(h:Found ps a found [])(x:Int):x ∈ found ↔ Rc ps a x:=by
  refine⟨h.rc x,λ r=>?_⟩
  induction r with
  | one e=>exact(h.cl a (.inl rfl)).elim (λ z=>by cases z) λ z=>z _ e
  | step _ e ih=>exact(h.cl _ (.inr ih)).elim (λ z=>by cases z) λ z=>z _ e
theorem Qq(P:D)(hd:Hd)(g:Gd)(G:GOk hd g)(ps:List (Int × Int))(hp:ps.length <= 500)(a:Int)
    (hP:∀ (z1 z2 z3 z4 z5 z6:Option D) (r:Hd),FK (A0 0) [some P,z1,z2,z3,z4,z5,z6] (hd ++ r)=some ((ps.map Al,g),hd ++ r)):∀ (N:Nat) (found fresh:List Int) (z4 z5 z6:Option D),fresh.length + (ps.length - found.length) <= N->fresh.length <= 1 + found.length->Found ps a found fresh->∃ (k:Nat) (found':List Int) (y4 y5 y6:Option D),
    B8 (Em (A0 3)) LQ k [some P,some (.im (.int a)),some (.mu hd.length),some (.mu (hd.length + 1)),z4,z5,z6] (hd ++ [.lst (intD found),.lst (intD fresh)]) =
      some (.nx [some P,some (.im (.int a)),some (.mu hd.length),some (.mu (hd.length + 1)),y4,y5,y6],hd ++ [.lst (intD found'),.lst []])/\Found ps a found' []:=by
  intro N
  induction N with
  | zero=>
    intro found fresh z4 z5 z6 hN _ F
    have:fresh=[]:=List.length_eq_zero_iff.mp (by omega)
    subst this
    refine⟨1,found,z4,z5,z6,?_,F⟩
    simp only[B8,Ig,EJ,List.getElem?_cons_zero,List.getElem?_cons_succ,Option.bind_some,Dc,g1,List.map_nil,List.isEmpty_nil,Bool.not_true,Option.map_some,Bool.false_eq_true,if_false]
  | succ N ih=>
    intro found fresh z4 z5 z6 hN hfr F
    rcases List.eq_nil_or_concat fresh with rfl|⟨fr,x,rfl⟩
    . refine⟨1,found,z4,z5,z6,?_,F⟩
      simp only[B8,Ig,EJ,List.getElem?_cons_zero,List.getElem?_cons_succ,Option.bind_some,Dc,g1,List.map_nil,List.isEmpty_nil,Bool.not_true,Option.map_some,Bool.false_eq_true,if_false]
    . rw[List.concat_eq_append]at *
      have fl:=F.len
      simp only[List.length_append,List.length_cons,List.length_nil]at hN hfr
      obtain⟨new,y5,y6,q,l,nd,frh,al⟩:=GJ P hd g G a x ps found fr z5 z6 (by omega) (by omega)
      have F2:Found ps a (found ++ new) (fr ++ new):=by
        have rx:∀ y ∈ new,Rc ps a y:=λ y hy=>by
          rcases F.fr x (by simp)with rfl|h
          . exact .one (frh y hy).2
          . exact .step (F.rc x h) (frh y hy).2
        refine⟨List.nodup_append.mpr ⟨F.nd,nd,λ u hu w hw e=>(frh w hw).1 (e ▸ hu)⟩,λ y hy=>?_,λ y hy=>?_,λ w hw=>?_⟩
        . rcases List.mem_append.mp hy with h|h
          . exact F.rc y h
          . exact rx y h
        . rcases List.mem_append.mp hy with h|h
          . rcases F.fr y (by simp[h])with h|h
            . exact .inl h
            . exact .inr (List.mem_append_left _ h)
          . exact .inr (List.mem_append_right _ h)
        . by_cases hn:w ∈ new
          . exact .inl (List.mem_append_right _ hn)
          . have hw':w=a ∨ w ∈ found:=by
              rcases hw with h|h
              . exact .inl h
              . rcases List.mem_append.mp h with h|h
                . exact .inr h
                . exact absurd h hn
            rcases F.cl w hw' with h|h
            . rcases List.mem_append.mp h with h|h
              . exact .inl (List.mem_append_left _ h)
              . have:w=x:=by simpa using h
                subst this
                exact .inr al
            . exact .inr λ y hy=>List.mem_append_left _ (h y hy)
      have fl2:=F2.len
      simp only[List.length_append]at fl2
      obtain⟨k,found',y4,w5,w6,e,F3⟩:=ih (found ++ new) (fr ++ new) (some (.im (.int x))) y5 y6 (by simp only[List.length_append];omega) (by simp only[List.length_append];omega) F2
      refine⟨k + 1,found',y4,w5,w6,?_,F3⟩
      have pop:Hi (.mu (hd.length + 1)) [] (hd ++ [.lst (intD found),.lst (intD (fr ++ [x]))])=some (.im (.int x),hd ++ [.lst (intD found),.lst (intD fr)]):=by
        simp only[Hi,g1,List.map_append,List.map_cons,List.map_nil,List.length_append,List.length_cons,List.length_nil,List.length_map]
        simp
      have ne:(intD (fr ++ [x])).isEmpty=false:=by simp
      unfold B8
      simp only[Ig,EJ,List.getElem?_cons_zero,List.getElem?_cons_succ,Option.bind_some,Dc,g1,ne,Bool.not_false,Option.map_some,if_true,LQ,Ih,Ii,NY,NQ,LW,pop,JO,List.set_cons_succ,List.set_cons_zero,VX,hP,q,e]
theorem N9(P:D)(hd:Hd)(g:Gd)(G:GOk hd g)(ps:List (Int × Int))(hp:ps.length < 64)(a:Int)
    (hP:∀ (z1 z2 z3 z4 z5 z6:Option D) (r:Hd),FK (A0 0) [some P,z1,z2,z3,z4,z5,z6] (hd ++ r)=some ((ps.map Al,g),hd ++ r)):∃ (found:List Int) (r:Hd),F_reached [P,.im (.int a)] hd=some (.im (.tup ((C8 found).map I.int)),hd ++ r)/\found.Nodup/\(∀ x,x ∈ found ↔ Rc ps a x)/\found.length <= ps.length:=by
  obtain⟨k,found,y4,y5,y6,e,F⟩:=Qq P hd g G ps (by omega) a hP (1 + ps.length) [] [a] none none none (by simp) (by simp) ⟨.nil,(λ x h=>by cases h),(λ x h=>Or.inl (by simpa using h)),(λ x h=>Or.inl (by simpa using h))⟩
  have e:=Jf e
  have fl:=F.len
  refine⟨found,[.lst (intD found),.lst []],?_,F.nd,F.iff,fl⟩
  have mk:BF ((C8 found).map λ i=>D.im (.int i))=.im (.tup ((C8 found).map I.int)):=by
    have:((C8 found).map λ i=>D.im (.int i))=((C8 found).map I.int).map D.im:=by rw[List.map_map];rfl
    rw[this,CT]
  simp only[List.map_nil,List.map_cons]at e
  have lt:found.length < 64:=by omega
  simp only[F_reached,mkF,m_reached,Ih,Ii,VR,VS,Mb,LW,EJ,List.map_cons,List.map_nil,List.length_cons,List.length_nil,List.cons_append,List.nil_append,List.replicate,Nat.reduceAdd,Nat.reduceSub,if_true,List.getElem?_cons_zero,List.getElem?_cons_succ,Option.bind_some,Ic,GV,JO,Option.map_some,List.set_cons_succ,List.set_cons_zero,List.length_append,List.append_assoc,e,Oj,Om,Oi,Ol,g0,Od,lt,Cd,mk]
end Bd
namespace Rw
open PySem L2 Bd
@[reducible] noncomputable def m_reached:MS:=(AA (AL 2 (B9 (BA A6)))
    (AA (AL 3 (B9 (BA (A2 (A0 1) A6))))
    (AA (DC (Em (A0 3))
      (AA (AL 4 (mMt Hi (A0 3) A6))
    (CJ (FK (A0 0)) (DQ 2 (B1 (AS 5) (B1 (AS 6) DR)))
      (Az (E2 (AI (mOp gEq (A0 5) (A0 4))) (AI (mOp (gIn true) (A0 6) (A0 2))))
      (AA (By (mMt BE (A0 2) (A2 (A0 6) A6)))
    (By (mMt BE (A0 3) (A2 (A0 6) A6))))
      Am))))
    (AV (CN Cd (EW (Dz (A0 2))))))))
noncomputable def F_reached:List D->Hd->Option (D × Hd):=mkF 2 7 m_reached
@[reducible] noncomputable def m_behind:MS:=(AV (AC 0 F_reached (A2 (A0 1) (A2 (A0 2) A6))))
noncomputable def F_behind:List D->Hd->Option (D × Hd):=mkF 3 3 m_behind
theorem QZ(ps:List (Int × Int)):(ps.map FV).map D.im=ps.map Al:=by rw[List.map_map];rfl
noncomputable abbrev wI(ps:List (Int × Int)):I:=.tup (ps.map FV)
theorem DG:F_reached=Bd.F_reached:=rfl
theorem behind_eq{ps:List (Int × Int)}(hp:ps.length < 64)(n a:Int):∃ (found:List Int) (g:Hd),F_behind [.im (.int n),.im (wI ps),.im (.int a)] []=some (.im (.tup ((C8 found).map I.int)),g)/\found.Nodup/\∀ x,x ∈ found ↔ Rc ps a x:=by
  obtain⟨found,r,e,nd,mem,_⟩:=N9 (.im (wI ps)) [] [] (AZ _) ps hp a λ z1 z2 z3 z4 z5 z6 r=>by
    have:=TR (m:=A0 0) (ls:=[some (.im (wI ps)),z1,z2,z3,z4,z5,z6]) (hd:=[] ++ r) (hd':=[] ++ r) (is:=ps.map FV) rfl
    rw[this,QZ]
  refine⟨found,[],?_,nd,mem⟩
  have c:=Gc (m:=A2 (A0 1) (A2 (A0 2) A6)) (F:=Bd.F_reached) (ls:=[some (.im (.int n)),some (.im (wI ps)),some (.im (.int a))]) (hd:=[]) (ds:=[.im (wI ps),.im (.int a)]) (hd1:=[]) (by simp) (by simp) e
  simp only[F_behind,mkF,m_behind,DG,Oj,List.map_cons,List.map_nil,List.length_cons,List.length_nil,List.cons_append,List.nil_append,List.replicate,Nat.reduceAdd,Nat.reduceSub,if_true,c,Option.bind_some]
end Rw
namespace L2
open PySem PySem.Spec PyProof.Rows
section
variable{hd:Hd}{QE:D->Hd->Prop}{d:D}
end
end L2
namespace T28
open PySem L2 Bd
local macro_rules | `(tactic| sizeOf_list_dec) => `(tactic| first | (with_reducible refine AH ?_; try dsimp only [List.set_cons_zero, List.set_cons_succ, List.map_cons, List.map_nil, List.cons_append, List.nil_append, List.replicate, Nat.reduceSub, Int.reduceToNat]) | with_reducible refine HP ?_ | with_reducible refine AY ?_ | with_reducible refine Aw ?_ | with_reducible refine BW ?_ | with_reducible refine EU ?_ | with_reducible refine BO ?_ | with_reducible refine Ca ?_ | with_reducible refine KI ?_ | with_reducible refine Gj ?_ | with_reducible refine EC ?_ | with_reducible refine A5 (d := _) rfl ?_ | with_reducible refine BP ?_ | with_reducible refine Ad ?_ | with_reducible refine FR ?_ | with_reducible refine Cl ?_ | with_reducible refine Cm ?_ | with_reducible refine KO ?_ | with_reducible refine E9 ?_ | with_reducible refine Gm ?_ | with_reducible refine E4 ?_ | with_reducible refine Iq ?_ | with_reducible refine BG ?_ | with_reducible refine KG ?_ | with_reducible refine GH ?_ | with_reducible refine Jy ?_ | with_reducible refine Do ?_ | with_reducible refine AM ?_ | with_reducible refine A9 ?_ | with_reducible refine Dq ?_ | with_reducible refine C3 ?_ | with_reducible refine HN ?_ | with_reducible refine Ms ?_ | with_reducible refine Ed ?_ | with_reducible refine PH ?_ | with_reducible refine KM ?_ | with_reducible refine FQ ?_ | with_reducible refine KJ ?_ | with_reducible refine Mp ?_ | with_reducible refine Jz ?_ | with_reducible refine Mq ?_ | with_reducible refine Mr ?_ | with_reducible refine GI ?_ | with_reducible refine FP ?_ | with_reducible refine Eb ?_ | with_reducible refine KK ?_ | with_reducible refine Gk ?_ | with_reducible refine Io ?_ | with_reducible refine ⟨_, rfl, ?_⟩ | refine Ah rfl (FO _ _) ?_ | refine Ah rfl (Gf _ _ _) ?_ | refine Ah rfl (Hq _ _ _ _) ?_ | refine ⟨_, _, _, _, rfl, rfl, rfl, rfl, ?_⟩ | refine ⟨⟨_, rfl⟩, ?_⟩ | refine ⟨Ib, ?_⟩ | refine ⟨LV, ?_⟩ | refine ⟨LU, ?_⟩ | refine ⟨LS, ?_⟩ | refine ⟨Ic, ?_⟩ | refine ⟨GV, ?_⟩ | with_reducible refine Fo ?_)
theorem Df:F_behind=Rw.F_behind:=rfl
noncomputable abbrev wI(ps:List (Int × Int)):I:=.tup (ps.map FV)
structure Wsh(n:Nat)(ps:List (Int × Int)):Prop where
  len:ps.length <= 16
  nod:∀ p ∈ ps,∃ a b:Nat,a < n/\b < n/\p=((a:Int),(b:Int))
noncomputable def Mt(n:Nat)(ps:List (Int × Int))(M:Nat->Nat->Bool):Prop:=∀ i j,i < n->j < n->(M i j=true ↔ Rc ps i j)
theorem DL(ks:List Nat):(ks.map λ k:Nat=>I.int (k:Int)).map D.im=Ab ks:=by simp[Ab]
theorem T7(ks:List Nat):BF (Ab ks)=.im (Ae ks):=by rw[<- DL,CT]
noncomputable abbrev CU(M:Nat->Nat->Bool)(ks:List Nat):List Nat:=ks.filter λ a=>!(ks.any λ b=>M a b)
theorem Pe(found:List Int)(x:Int):x ∈ C8 found ↔ x ∈ found:=(Hw found).mem_iff
theorem OZ{n:Nat}{ps:List (Int × Int)}{M:Nat->Nat->Bool}{ks:List Nat}(h:Wsh n ps)(hM:Mt n ps M)(hk:∀ k ∈ ks,k < n)(hl:ks.length <= 8) :
    WF CK [.im (.int (n:Int)),.im (wI ps),.im (Ae ks)] [] λ d x=>d=.im (Ae (CU M ks)):=by
  unfold CK
  refine BQ rfl ?_
  repeat sizeOf_list_dec
  rw[DL]
  refine C6 (λ r ls hd=>∃ (dn rest:List Nat) (z4 z5:Option D),ks=dn ++ rest/\r=Ab rest/\ls=[some (.im (.int (n:Int))),some (.im (wI ps)),some (.im (Ae ks)),some (.mu 0),z4,z5]/\hd=[.lst (Ab (dn.filter λ a=>!(ks.any λ b=>M a b)))]) ?_ ?_ ?_
  . exact⟨[],ks,none,none,rfl,rfl,rfl,rfl⟩
  . rintro d r ls hd ⟨dn,rest,z4,z5,ek,er,rfl,rfl⟩
    cases rest with
    | nil=>cases er
    | cons u rest=>
      obtain⟨rfl,rfl⟩:=List.cons.inj er
      have hu:u < n:=hk u (by rw[ek];simp)
      refine⟨_,rfl,?_⟩
      dsimp only[List.set_cons_zero,List.set_cons_succ]
      repeat sizeOf_list_dec
      refine B3 ?_
      repeat sizeOf_list_dec
      refine⟨by simp,?_⟩
      rw[Df]
      obtain⟨found,g,e,nd,mem⟩:=Rw.behind_eq (ps:=ps) (by have:=h.len;omega) (n:Int) (u:Int)
      refine WP.eq e ⟨_,rfl,?_⟩
      repeat sizeOf_list_dec
      refine KF ?_
      repeat sizeOf_list_dec
      rw[DL]
      refine⟨Ag (by simp;omega),?_⟩
      refine Cn (λ k:Nat=>D.im (.int (k:Int))) (λ k=>some (.im (.bl (M u k)))) (λ _ ls=>∃ x,ls=[some x,some (.im (.tup ((C8 found).map I.int)))]) _ (AZ _) ?_ ?_
      . rintro k hk' ls hls
        refine⟨[some (.im (.int (k:Int))),some (.im (.tup ((C8 found).map I.int)))],by rcases hls with rfl|⟨_,x,rfl⟩ <;> rfl,⟨_,rfl⟩,?_⟩
        repeat sizeOf_list_dec
        refine⟨rfl,?_⟩
        rw[if_pos rfl]
        refine⟨_,rfl,?_⟩
        repeat sizeOf_list_dec
        refine KL (xs:=C8 found) (by simp[intD]) ⟨rfl,?_⟩
        have:decide ((k:Int) ∈ C8 found)=M u k:=by
          have a:=hM u k hu (hk k hk')
          rw[<- mem,<- Pe]at a
          cases q:M u k with
          | true=>rw[q]at a;simpa using a
          | false=>rw[q]at a;simpa using a
        rw[<- this];rfl
      have e1:(ks.filterMap λ k=>some (D.im (.bl (M u k))))=blD (ks.map λ k=>M u k):=by simp[blD]
      rw[e1]
      refine⟨_,by rw[Qm,blsD_map];rfl,?_⟩
      refine⟨_,rfl,?_⟩
      have e2:((ks.map λ k=>M u k).any id)=ks.any λ b=>M u b:=by simp[List.any_map]
      rw[e2]
      have ek':ks=(dn ++ [u]) ++ rest:=by rw[ek];simp
      refine⟨λ hb=>?_,λ hb=>?_⟩
      . repeat sizeOf_list_dec
        refine Ec rfl (Bk (by have:=List.length_filter_le (λ a=>!(ks.any λ b=>M a b)) dn;have:=congrArg List.length ek;simp at this ⊢;omega)) ?_
        refine⟨AZ _,dn ++ [u],rest,_,_,ek',rfl,rfl,?_⟩
        have hb:(!(ks.any λ b=>M u b))=true:=hb
        simp only[List.filter_append,List.filter_cons,hb,if_true,List.filter_nil,List.set_cons_zero,Ab,List.map_append,List.map_cons,List.map_nil]
      . refine BO ⟨AZ _,dn ++ [u],rest,_,_,ek',rfl,rfl,?_⟩
        have hb:(!(ks.any λ b=>M u b))=false:=hb
        simp only[List.filter_append,List.filter_cons,hb,if_false,Bool.false_eq_true,List.filter_nil,List.append_nil]
  . rintro ls hd ⟨dn,rest,z4,z5,ek,er,rfl,rfl⟩
    have:rest=[]:=by cases rest with
      | nil=>rfl
      | cons _ _=>cases er
    subst this
    simp only[List.append_nil]at ek
    repeat sizeOf_list_dec
    refine Dp rfl rfl ?_
    rw[<- ek]
    exact T7 _
noncomputable def Way(ps:List (Int × Int)):Nat->Nat->Nat->Prop
  | 0,_,_=>False
  | m + 1,x,y=>((x:Int),(y:Int)) ∈ ps ∨ ∃ b:Nat,((x:Int),(b:Int)) ∈ ps/\Way ps m b y
theorem Way.mono{ps:List (Int × Int)}:∀ {m m' x y:Nat},Way ps m x y->m <= m'->Way ps m' x y
  | 0,_,_,_,h,_=>h.elim
  | m + 1,0,_,_,_,h=>by omega
  | m + 1,m' + 1,x,y,h,hm=>by
    rcases h with h|⟨b,h1,h2⟩
    . exact .inl h
    . exact .inr ⟨b,h1,h2.mono (by omega)⟩
theorem Way.snoc{ps:List (Int × Int)}:∀ {m x y z:Nat},Way ps m x y->((y:Int),(z:Int)) ∈ ps->Way ps (m + 1) x z
  | 0,_,_,_,h,_=>h.elim
  | m + 1,x,y,z,h,e=>by
    rcases h with h|⟨b,h1,h2⟩
    . exact .inr ⟨y,h,.inl e⟩
    . exact .inr ⟨b,h1,h2.snoc e⟩
open Hds
noncomputable abbrev DZ(W:List (Nat × Nat)):List (Int × Int):=W.map λ p=>((p.1:Int),(p.2:Int))
theorem UR{n:Nat}{W:List (Nat × Nat)}{rk:Nat->Nat}(R:Rk (λ k=>k < n) W rk){x y:Int}(r:Rc (DZ W) x y):∀ i:Nat,x=i->i < n/\∃ j:Nat,y=j/\j < n/\rk i < rk j/\Way (DZ W) (rk j - rk i) i j:=by
  induction r with
  | one h=>
    rintro i rfl
    obtain⟨⟨a,b⟩,hp,e⟩:=List.mem_map.mp h
    simp only[Prod.mk.injEq]at e
    obtain⟨e1,rfl⟩:=e
    have:a=i:=by omega
    subst this
    have l:=R.lt _ hp
    have ins:=R.ins _ hp
    refine⟨ins.1,b,rfl,ins.2,l,Way.mono (m:=1) (.inl h) ?_⟩
    have l:rk a < rk b:=l
    omega
  | step _ h ih=>
    intro i hi
    obtain⟨hn,m,rfl,hm,lm,w⟩:=ih i hi
    obtain⟨⟨a,b⟩,hp,e⟩:=List.mem_map.mp h
    simp only[Prod.mk.injEq]at e
    obtain⟨e1,rfl⟩:=e
    have:a=m:=by omega
    subst this
    have l:rk a < rk b:=R.lt _ hp
    refine⟨hn,b,rfl,(R.ins _ hp).2,by omega,Way.mono (w.snoc h) (by omega)⟩
noncomputable def Wf(w:Wg):Prop:=(1 <= w.len/\w.len <= 20)/\(0 <= w.com/\w.com <= 60)/\∃ c,w.co=BU c/\EK c/\DV 2000 c
noncomputable def Qb(ws:List Wg):Prop:=1 <= ws.length/\ws.length <= 8/\∀ w ∈ ws,Wf w
theorem To{c:Cost}(h:DV 1000 c):DV 2000 c:=by
  cases c with
  | late d=>simp only[DV]at *;omega
  | tardy d w=>simp only[DV]at *;omega
  | miss d w=>simp only[DV]at *;omega
  | ends w=>simp only[DV]at *;omega
  | steps rows=>intro q hq;have:=h q hq;omega
theorem W0{w:Wg}(h:w.ok):Wf w:=by
  obtain⟨h1,h2,_,c,e,k1,k2⟩:=h
  exact⟨h1,h2,c,e,k1,To k2⟩
theorem TW{ws:List Wg}{W:List (Nat × Nat)}{rk:Nat->Nat}{h:Nat->Int}(hn:ws.length <= 8)(hc:∀ k,k < ws.length->0 <= Cj ws k)(hW:W.length <= 16)(R:Rk (λ k=>k < ws.length) W rk)(hrk:∀ k,k < ws.length->rk k < ws.length)(H:IsHead (λ k=>k < ws.length) (Cj ws) (AJ ws) W h) :
    WF Fm [.im (As ws),.im (.tup (W.map Ap))] [] λ d x=>d=.im (.tup ((List.range ws.length).map λ k=>.int (h k))):=by
  have we:Ck W (List.range ws.length)=W:=by
    refine List.filter_eq_self.mpr λ p hp=>?_
    have:=R.ins p hp
    simp[this.1,this.2]
  unfold Fm
  refine BQ rfl ?_
  repeat sizeOf_list_dec
  refine B3 ?_
  repeat sizeOf_list_dec
  have rn:BF (At 0 ws.length)=.im (Ae (List.range ws.length)):=by rw[DI,G0]
  have rgl:Gn (ws.length:Int):=HV (by omega) (by omega)
  refine WP.eq (z:=.im (Ae (List.range ws.length))) (h:=[]) (by simp[Ci,rgl,rn]) ?_
  repeat sizeOf_list_dec
  refine⟨by simp,?_⟩
  refine(Py (h:=h) (rk:=rk) hn hW (by simp) (by simpa using hn) ?_ (by simpa using hrk) ?_).mono ?_
  . rw[we]
    exact⟨λ p hp=>by simpa using R.ins p hp,R.lt⟩
  . rw[we]
    refine⟨λ k hk=>?_,λ p hp hk=>H.up p hp (by simpa using hk),λ k hk=>?_⟩
    . have hk:k < ws.length:=by simpa using hk
      have:=hc k hk
      have:=H.lo k hk
      omega
    . have hk:k < ws.length:=by simpa using hk
      have:=hc k hk
      rcases H.eq k hk with e|e
      . refine .inl ?_
        omega
      . exact .inr e
  . rintro d x rfl
    exact⟨_,rfl,rfl⟩
theorem Be:F_cost_at=Bd.F_cost_at:=rfl
theorem OO{c:Cost}(h:EK c):c.wok:=by
  cases c <;> first|trivial|exact h
noncomputable def Nn(ws:List Wg)(cs:Nat->Cost):Prop:=∀ k,k < ws.length->(ws[k]?).map Wg.co=some (BU (cs k))/\EK (cs k)/\DV 2000 (cs k)
theorem WR{ws:List Wg}(h:Qb ws):∃ cs,Nn ws cs:=by
  refine Classical.skolem (p:=λ k c=>k < ws.length->(ws[k]?).map Wg.co=some (BU c)/\EK c/\DV 2000 c) |>.mp λ k=>?_
  by_cases hk:k < ws.length
  . obtain⟨_,_,c,e,k1,k2⟩:=h.2.2 ws[k] (List.getElem_mem hk)
    exact⟨c,λ _=>⟨by simp[hk,e],k1,k2⟩⟩
  . exact⟨.late 0,λ h=>absurd h hk⟩
noncomputable def HC(ws:List Wg)(h:Nat->Int)(ks:List Nat):Int:=Dd (ks.map h) + (ks.map (AJ ws)).sum
noncomputable def bnd(ws:List Wg)(cs:Nat->Cost)(h:Nat->Int)(M:Nat->Nat->Bool)(ks:List Nat):Int:=Dd ((CU M ks).map λ k=>(cs k).at (HC ws h ks))
theorem Gy(ks:List Nat)(g:Nat->Int):(ks.filterMap λ k=>some (D.im (.int (g k))))=intD (ks.map g):=by simp[intD]
theorem JI{ns:List Int}(h:ns ≠ []):JK (intD ns)=some (.im (.int (Dd ns))):=by unfold JK;rw[FE];simp[h]
theorem TK(ns:List Int):LN (intD ns)=some (.im (.int ns.sum)):=by unfold LN;rw[FE];rfl
theorem Nr{ws:List Wg}{k:Nat}(hk:k < ws.length):(ws[k]).len=AJ ws k:=by simp[AJ,hk]
theorem Mu{ws:List Wg}{cs:Nat->Cost}(hc:Nn ws cs){k:Nat}(hk:k < ws.length):(ws[k]).co=BU (cs k):=by
  have:=(hc k hk).1
  simpa [hk]using this
theorem OX{ws:List Wg}{ks:List Nat}(hk:∀ k ∈ ks,k < ws.length)(hl:ks.length <= 8){i j:Nat}{ls:Ls}{hd:Hd}(e0:ls[i]? = some (some (.im (As ws))))(e1:ls[j]? = some (some (.im (Ae ks)))){QE:D->Hd->Prop}(q:QE (.im (.int (ks.map (AJ ws)).sum)) hd) :
    WE (CN LN (Bz 1 [i] (C1 (A0 j)) (AS 0) Dy (mOp gIx (mOp gIx (A0 1) (A0 0)) (mC (.int 0))))) ls hd QE:=by
  refine Cm (C3 (Ed (A5 e1 ⟨_,rfl,?_⟩)))
  rw[DL]
  refine⟨Ag (by simp;omega),?_⟩
  have ec:Db 1 [i] ls=[none,some (.im (As ws))]:=by simp[Db,e0]
  rw[ec]
  refine Cn (λ k:Nat=>D.im (.int (k:Int))) (λ k=>some (.im (.int (AJ ws k)))) (λ _ ls=>∃ x,ls=[some x,some (.im (As ws))]) _ (AZ _) ?_ ?_
  . rintro k hk' ls hls
    have hkn:=hk k hk'
    refine⟨[some (.im (.int (k:Int))),some (.im (As ws))],by rcases hls with rfl|⟨_,x,rfl⟩ <;> rfl,⟨_,rfl⟩,Do ⟨rfl,?_⟩⟩
    rw[if_pos rfl]
    refine⟨_,rfl,Ad (Ad (A5 rfl (A5 rfl (Ah (by rw[EE,<- DE]) (EN hkn) (BP (Ah rfl (FO _ _) ⟨rfl,?_⟩))))))⟩
    rw[Nr hkn]
  rw[Gy]
  exact⟨_,TK _,q⟩
theorem Il{H:Hd}{i:Nat}{o:MO}(h:H[i]? = some o)(g:Hd):(H ++ g)[i]? = some o:=by
  rw[List.getElem?_append_left (List.getElem?_eq_some_iff.mp h).1];exact h
theorem VN(ks:List Nat):Ab ks=intD (ks.map λ k:Nat=>(k:Int)):=by simp[intD,Ab]
theorem Nm{ws:List Wg}{W:List (Nat × Nat)}{rk:Nat->Nat}{cs:Nat->Cost}{M:Nat->Nat->Bool}{h:Nat->Int}{ks:List Nat}(hn:ws.length <= 8)(hcm:∀ k,k < ws.length->0 <= Cj ws k)(hW:W.length <= 16)(R:Rk (λ k=>k < ws.length) W rk)(hrk:∀ k,k < ws.length->rk k < ws.length)
    (Hh:IsHead (λ k=>k < ws.length) (Cj ws) (AJ ws) W h) (hM:Mt ws.length (DZ W) M) (hc:Nn ws cs) (hne:ks ≠ []) (hk:∀ k ∈ ks,k < ws.length) (hl:ks.length <= 8) (hlast:CU M ks ≠ []) :
    WF Bp [.im (As ws),.im (.tup (W.map Ap)),.im (Ae ks)] [] λ d x=>d=.im (.int (bnd ws cs h M ks)):=by
  unfold Bp
  refine BQ rfl ?_
  refine AY (Aw (B3 (A9 (A5 rfl (A9 (A5 rfl (AM ⟨by simp,(TW hn hcm hW R hrk Hh).mono ?_⟩)))))))
  rintro r x rfl
  refine⟨_,rfl,AH ?_⟩
  change WS _ [some (.im (As ws)),some (.im (.tup (W.map Ap))),some (.im (Ae ks)),some (.im (.tup ((List.range ws.length).map λ k=>.int (h k)))),none] [] _
  refine AY (Aw (Ad (Cm (C3 (Ed (A5 rfl ⟨_,rfl,?_⟩))))))
  rw[DL]
  refine⟨Ag (by simp;omega),?_⟩
  refine Cn (λ k:Nat=>D.im (.int (k:Int))) (λ k=>some (.im (.int (h k)))) (λ _ ls=>∃ x,ls=[some x,some (.im (.tup ((List.range ws.length).map λ k=>.int (h k))))]) _ (AZ _) ?_ ?_
  . rintro k hk' ls hls
    have hkn:=hk k hk'
    refine⟨[some (.im (.int (k:Int))),some (.im (.tup ((List.range ws.length).map λ k=>.int (h k))))],by rcases hls with rfl|⟨_,x,rfl⟩ <;> rfl,⟨_,rfl⟩,Do ⟨rfl,?_⟩⟩
    rw[if_pos rfl]
    refine⟨_,rfl,Ad (A5 rfl (A5 rfl (Ah rfl (Li (k:=k) (x:=.im (.int (h k))) rfl ?_) ⟨rfl,rfl⟩)))⟩
    simp[hkn]
  rw[Gy]
  refine⟨_,JI (by simpa using hne),?_⟩
  refine B3 (A9 (A5 rfl (A9 (A5 rfl (AM ⟨by simp,?_⟩)))))
  have lw:WF BV [.im (As ws),.im (Ae ks)] [] λ d x=>d=.im (.int (ks.map (AJ ws)).sum):=by
    unfold BV
    refine BQ rfl ?_
    exact BW (OX hk hl rfl rfl rfl)
  refine lw.mono ?_
  rintro r x rfl
  refine⟨_,rfl,FQ (AH ?_)⟩
  change WS _ [some (.im (As ws)),some (.im (.tup (W.map Ap))),some (.im (Ae ks)),some (.im (.tup ((List.range ws.length).map λ k=>.int (h k)))),some (.im (.int (HC ws h ks)))] [] _
  have ew:W.map Ap=(DZ W).map FV:=by rw[List.map_map];rfl
  have hW':Wsh ws.length (DZ W):=⟨by simpa using hW,λ p hp=>by
    obtain⟨q,hq,rfl⟩:=List.mem_map.mp hp
    have:=R.ins q hq
    exact⟨q.1,q.2,this.1,this.2,rfl⟩⟩
  refine BW (Cm (C3 (Ed (B3 (A9 (E9 (A9 (A5 rfl (AM (Dp rfl rfl ?_)))))))))) 
  refine A9 (A5 rfl (A9 (A5 rfl (AM ⟨by simp,?_⟩))))
  rw[ew]
  have eln:(((ws.map wgI).map D.im).length:Int)=(ws.length:Int):=by simp
  rw[eln]
  refine(OZ hW' hM hk hl).mono ?_
  rintro r x rfl
  refine⟨_,rfl,_,rfl,?_⟩
  rw[DL]
  have hll:(CU M ks).length <= 8:=Nat.le_trans (List.length_filter_le _ _) hl
  refine⟨Ag (by simp only[Ab,List.length_map];omega),?_⟩
  refine Cn (λ k:Nat=>D.im (.int (k:Int))) (λ k=>some (.im (.int ((cs k).at (HC ws h ks))))) (λ _ ls=>∃ x,ls=[some x,some (.im (As ws)),some (.im (.int (HC ws h ks)))]) _ (AZ _) ?_ ?_
  . rintro k hk' ls hls
    have hkn:=hk k (List.mem_filter.mp hk').1
    refine⟨[some (.im (.int (k:Int))),some (.im (As ws)),some (.im (.int (HC ws h ks)))],by rcases hls with rfl|⟨_,x,rfl⟩ <;> rfl,⟨_,rfl⟩,Do ⟨rfl,?_⟩⟩
    rw[if_pos rfl]
    refine⟨_,rfl,B3 (A9 (Ad (Ad (A5 rfl (A5 rfl (Ah (by rw[EE,<- DE]) (EN hkn) (BP (Ah rfl (Hq _ _ _ _) ?_))))))))⟩
    rw[Mu hc hkn]
    refine A9 (A5 rfl (AM ⟨by simp,?_⟩))
    rw[Be]
    exact WP.eq (Ij _ _ (OO (hc k hkn).2.1)) ⟨_,rfl,rfl,rfl⟩
  rw[Gy]
  exact⟨_,JI (by simpa using hlast),rfl⟩
theorem HE(rk:Nat->Nat):∀ ks:List Nat,ks ≠ []->∃ u ∈ ks,∀ v ∈ ks,rk v <= rk u:=by
  intro ks
  induction ks with
  | nil=>intro h;exact absurd rfl h
  | cons x r ih=>
    intro _
    by_cases hr:r=[]
    . subst hr;exact⟨x,by simp,by simp⟩
    . obtain⟨u,hu,hm⟩:=ih hr
      by_cases q:rk u <= rk x
      . refine⟨x,by simp,λ v hv=>?_⟩
        rcases List.mem_cons.mp hv with rfl|hv
        . exact Nat.le_refl _
        . exact Nat.le_trans (hm v hv) q
      . refine⟨u,by simp[hu],λ v hv=>?_⟩
        rcases List.mem_cons.mp hv with rfl|hv
        . omega
        . exact hm v hv
theorem TJ{M:Nat->Nat->Bool}{rk:Nat->Nat}{ks:List Nat}(hne:ks ≠ [])(h:∀ u ∈ ks,∀ v ∈ ks,M u v=true->rk u < rk v):CU M ks ≠ []:=by
  obtain⟨u,hu,hm⟩:=HE rk ks hne
  have:u ∈ CU M ks:=by
    refine List.mem_filter.mpr ⟨hu,?_⟩
    rw[Bool.not_eq_true',List.any_eq_false]
    intro v hv q
    have:=h u hu v hv q
    have:=hm v hv
    omega
  intro e
  rw[e]at this;simp at this
theorem Ui{L M:List Int}(h:L.Perm M):L.sum=M.sum:=by
  induction h with
  | nil=>rfl
  | cons x _ ih=>simp[ih]
  | swap x y l=>simp;omega
  | trans _ _ ih1 ih2=>exact ih1.trans ih2
theorem Ny{l:Nat->Int}(h:∀ k,0 <= l k)(L:List Nat):0 <= (L.map l).sum:=by
  induction L with
  | nil=>simp
  | cons x r ih=>have:=h x;simp;omega
theorem M3{l:Nat->Int}(h:∀ k,0 <= l k):∀ {S T:List Nat},S.Nodup->(∀ x ∈ S,x ∈ T)->(S.map l).sum <= (T.map l).sum
  | [],T,_,_=>by simpa using Ny h T
  | x :: r,T,nd,hs=>by
    obtain⟨h1,h2⟩:=List.nodup_cons.mp nd
    have e:=Ui ((List.perm_cons_erase (hs x (by simp))).map l)
    have ih:=M3 h (S:=r) (T:=T.erase x) h2 λ y hy=>(List.mem_erase_of_ne (λ z:y=x=>h1 (by rw[<- z];exact hy))).mpr (hs y (by simp[hy]))
    simp only[List.map_cons,List.sum_cons]at e ⊢
    omega
theorem Kf(t:Int):∀ {rows:List (Int × Int)} {x:Int},JT x rows->x <= BK t rows x
  | [],x,_=>Int.le_refl _
  | (b,a) :: r,x,h=>by
    unfold BK
    have:=Kf t h.2
    have:=h.1
    split <;> omega
theorem Hu{t t':Int}(ht:t <= t'):∀ {rows:List (Int × Int)} {x:Int},JT x rows->BK t rows x <= BK t' rows x
  | [],x,_=>Int.le_refl _
  | (b,a) :: r,x,h=>by
    unfold BK
    have h1:=Hu ht h.2
    have h2:=Kf t' h.2
    have:=h.1
    by_cases c1:t < b
    . rw[if_pos c1];split <;> omega
    . rw[if_neg c1,if_neg (by omega)];exact h1
theorem Tq{c:Cost}(h:EK c){t t':Int}(ht:t <= t'):c.at t <= c.at t':=by
  cases c with
  | late d=>show t - d <= t' - d;omega
  | tardy d w=>
    obtain⟨h0,_⟩:=h
    show(if t - d <= 0 then 0 else w * (t - d)) <= (if t' - d <= 0 then 0 else w * (t' - d))
    have h2:w * (t - d) <= w * (t' - d):=Int.mul_le_mul_of_nonneg_left (by omega) h0
    by_cases c1:t - d <= 0
    . rw[if_pos c1];split
      . exact Int.le_refl _
      . exact Int.mul_nonneg h0 (by omega)
    . rw[if_neg c1,if_neg (by omega)];exact h2
  | miss d w=>
    obtain⟨h0,_⟩:=h
    show(if t - d <= 0 then 0 else w) <= (if t' - d <= 0 then 0 else w)
    split <;> split <;> omega
  | ends w=>exact Int.mul_le_mul_of_nonneg_left ht h.1
  | steps rows=>exact Hu ht h.2.1
noncomputable def hdN(c l:Nat->Int)(W:List (Nat × Nat)):Nat->Nat->Int
  | 0,k=>c k
  | t + 1,k=>DB (c k :: (W.filter λ p=>decide (p.2=k)).map λ p=>hdN c l W t p.1 + l p.1)
theorem G6{W:List (Nat × Nat)}{S:Nat->Prop}{rk:Nat->Nat}(R:Rk S W rk)(c l:Nat->Int):∀ t k,rk k <= t->hdN c l W (t + 1) k=hdN c l W t k
  | 0,k,h=>by
    have e:(W.filter λ p=>decide (p.2=k))=[]:=by
      rw[List.filter_eq_nil_iff]
      intro p hp q
      have:=R.lt p hp
      have q:p.2=k:=by simpa using q
      rw[q]at this;omega
    show DB (c k :: (W.filter λ p=>decide (p.2=k)).map _)=c k
    rw[e]
    have:=(Br (xs:=[c k]) (by simp)).1
    simpa using this
  | t + 1,k,h=>by
    show DB (c k :: (W.filter λ p=>decide (p.2=k)).map λ p=>hdN c l W (t + 1) p.1 + l p.1)=DB (c k :: (W.filter λ p=>decide (p.2=k)).map λ p=>hdN c l W t p.1 + l p.1)
    congr 2
    refine List.map_congr_left λ p hp=>?_
    obtain⟨h1,h2⟩:=List.mem_filter.mp hp
    have h2:p.2=k:=by simpa using h2
    have:=R.lt p h1
    rw[G6 R c l t p.1 (by rw[h2]at this;omega)]
theorem TX{n:Nat}{W:List (Nat × Nat)}{rk:Nat->Nat}(R:Rk (λ k=>k < n) W rk)(hrk:∀ k,k < n->rk k < n)(c l:Nat->Int):∃ h,IsHead (λ k=>k < n) c l W h:=by
  refine⟨hdN c l W n,λ k hk=>?_,λ p hp hk=>?_,λ k hk=>?_⟩
  . rw[<- G6 R c l n k (by have:=hrk k hk;omega)]
    exact(Br (xs:=c k :: (W.filter λ p=>decide (p.2=k)).map λ p=>hdN c l W n p.1 + l p.1) (by simp)).2 _ List.mem_cons_self
  . rw[<- G6 R c l n p.2 (by have:=hrk p.2 hk;omega)]
    refine(Br (xs:=c p.2 :: (W.filter λ q=>decide (q.2=p.2)).map λ q=>hdN c l W n q.1 + l q.1) (by simp)).2 _ (List.mem_cons_of_mem _ (List.mem_map.mpr ⟨p,List.mem_filter.mpr ⟨hp,by simp⟩,rfl⟩))
  . have e:=G6 R c l n k (by have:=hrk k hk;omega)
    have ms:=(Br (xs:=c k :: (W.filter λ p=>decide (p.2=k)).map λ p=>hdN c l W n p.1 + l p.1) (by simp)).1
    rw[<- e]
    rcases List.mem_cons.mp ms with q|q
    . exact .inl q
    . obtain⟨p,hp,eq⟩:=List.mem_map.mp q
      obtain⟨h1,h2⟩:=List.mem_filter.mp hp
      refine .inr ⟨p,h1,by simpa using h2,?_⟩
      exact eq.symm
noncomputable def Clo(W:List (Nat × Nat))(ks:List Nat):Prop:=∀ p ∈ W,p.2 ∈ ks->p.1 ∈ ks
theorem Qg{n:Nat}{W:List (Nat × Nat)}{rk:Nat->Nat}(R:Rk (λ k=>k < n) W rk){c l h:Nat->Int}(H:IsHead (λ k=>k < n) c l W h){cc:Int}(hc:∀ k,k < n->c k=cc){ks:List Nat}(hk:∀ k ∈ ks,k < n)(hne:ks ≠ [])(cl:Clo W ks):Dd (ks.map h)=cc:=by
  have hN:∃ N,∀ k ∈ ks,rk k <= N:=by
    obtain⟨u,_,hu⟩:=HE rk ks hne
    exact⟨rk u,hu⟩
  obtain⟨N,hN⟩:=hN
  obtain⟨u,hu,hm⟩:=HE (λ k=>N - rk k) ks hne
  have hu0:h u=cc:=by
    rcases H.eq u (hk u hu)with e|⟨p,hp,e1,_⟩
    . rw[e];exact hc u (hk u hu)
    . have h1:=cl p hp (by rw[e1];exact hu)
      have h2:=R.lt p hp
      have h3:=hm p.1 h1
      have h4:=hN u hu
      rw[e1]at h2
      omega
  have ms:=Dn (xs:=ks.map h) (by simpa using hne)
  have h1:=ms.2 _ (List.mem_map.mpr ⟨u,hu,rfl⟩)
  obtain⟨v,hv,ev⟩:=List.mem_map.mp ms.1
  have h2:=H.lo v (hk v hv)
  have h3:=hc v (hk v hv)
  omega
open Classical in
noncomputable def Mc(W:List (Nat × Nat)):Nat->Nat->Bool:=λ i j=>decide (Rc (DZ W) i j)
theorem W3(n:Nat)(W:List (Nat × Nat)):Mt n (DZ W) (Mc W):=λ i j _ _=>by simp[Mc]
theorem Rp{n:Nat}{W:List (Nat × Nat)}{rk:Nat->Nat}(R:Rk (λ k=>k < n) W rk){u v:Nat}(h:Mc W u v=true):rk u < rk v:=by
  have h:Rc (DZ W) u v:=by simpa [Mc]using h
  obtain⟨_,j,ej,_,hlt,_⟩:=UR R h u rfl
  have:v=j:=by omega
  rw[this];exact hlt
structure Ord(n:Nat)(W:List (Nat × Nat))(o:List Nat):Prop where
  pm:o.Perm (List.range n)
  lt:∀ p ∈ W,o.idxOf p.1 < o.idxOf p.2
noncomputable def En(c:Int)(l:Nat->Int)(o:List Nat)(k:Nat):Int:=c + ((o.take (o.idxOf k + 1)).map l).sum
noncomputable def bd(c:Int)(l:Nat->Int)(cs:Nat->Cost)(W:List (Nat × Nat))(S:List Nat):Int:=Dd ((CU (Mc W) S).map λ k=>(cs k).at (c + (S.map l).sum))
theorem WG{n:Nat}{W:List (Nat × Nat)}{rk:Nat->Nat}(R:Rk (λ k=>k < n) W rk){c:Int}{l:Nat->Int}(hl:∀ k,0 <= l k){cs:Nat->Cost}(hcs:∀ k,k < n->EK (cs k)){o S:List Nat}(O:Ord n W o)(hne:S ≠ [])(nd:S.Nodup)(hS:∀ k ∈ S,k < n):∃ v ∈ S,bd c l cs W S <= (cs v).at (En c l o v):=by
  obtain⟨v,hv,hm⟩:=HE (λ k=>o.idxOf k) S hne
  refine⟨v,hv,?_⟩
  have R':Rk (λ k=>k < n) W (λ k=>o.idxOf k):=⟨R.ins,O.lt⟩
  have hlast:v ∈ CU (Mc W) S:=by
    refine List.mem_filter.mpr ⟨hv,?_⟩
    rw[Bool.not_eq_true',List.any_eq_false]
    intro b hb q
    have h1:=Rp R' q
    have h2:=hm b hb
    omega
  have h1:=(Dn (xs:=(CU (Mc W) S).map λ k=>(cs k).at (c + (S.map l).sum)) (List.ne_nil_of_mem (List.mem_map.mpr ⟨v,hlast,rfl⟩))).2 _ (List.mem_map.mpr ⟨v,hlast,rfl⟩)
  refine Int.le_trans h1 (Tq (hcs v (hS v hv)) ?_)
  have:=M3 hl nd (T:=o.take (o.idxOf v + 1)) λ x hx=>by
    have hxo:x ∈ o:=O.pm.mem_iff.mpr (by simpa using hS x hx)
    have hxi:=hm x hx
    have hlt:=List.idxOf_lt_length_iff.mpr hxo
    refine List.mem_take_iff_getElem.mpr ⟨o.idxOf x,by omega,?_⟩
    exact List.getElem_idxOf hlt
  unfold En
  omega
noncomputable abbrev co(n:Nat)(b:List Nat):List Nat:=(List.range n).filter λ k=>decide (¬ k ∈ b)
inductive Made(n:Nat)(c:Int)(l:Nat->Int)(cs:Nat->Cost)(W:List (Nat × Nat)):List Nat->List (List Nat)->Prop
  | nil:Made n c l cs W [] []
  | cons {b:List Nat} {ss:List (List Nat)} (u:Nat) (m:Made n c l cs W b ss) (h0:u ∈ co n b) (h1:(cs u).at (c + ((co n b).map l).sum)=bd c l cs W (co n b)) (h2:∀ p ∈ W,p.1=u->p.2 ∈ b):Made n c l cs W (u :: b) (ss ++ [co n b])
section
variable{n:Nat}{c:Int}{l:Nat->Int}{cs:Nat->Cost}{W:List (Nat × Nat)}
theorem Made.nd{b:List Nat}{ss:List (List Nat)}(m:Made n c l cs W b ss):b.Nodup/\∀ k ∈ b,k < n:=by
  induction m with
  | nil=>exact⟨.nil,by simp⟩
  | cons u m h0 h1 h2 ih=>
    have h3:=(List.mem_filter.mp h0).2
    have h4:=List.mem_range.mp (List.mem_filter.mp h0).1
    exact⟨List.nodup_cons.mpr ⟨by simpa using h3,ih.1⟩,λ k hk=>by rcases List.mem_cons.mp hk with rfl|hk;exact h4;exact ih.2 k hk⟩
theorem Made.at{b:List Nat}{ss:List (List Nat)}(m:Made n c l cs W b ss):∀ a u r,b=a ++ u :: r->co n r ∈ ss/\(cs u).at (c + ((co n r).map l).sum)=bd c l cs W (co n r)/\∀ p ∈ W,p.1=u->p.2 ∈ r:=by
  induction m with
  | nil=>intro a u r e;simp at e
  | @cons b ss v m h0 h1 h2 ih=>
    intro a u r e
    cases a with
    | nil=>cases e;exact⟨by simp,h1,h2⟩
    | cons x a=>
      have e2:b=a ++ u :: r:=(List.cons.inj e).2
      obtain⟨q1,q2,q3⟩:=ih a u r e2
      exact⟨by simp[q1],q2,q3⟩
theorem Made.sets{b:List Nat}{ss:List (List Nat)}(m:Made n c l cs W b ss):∀ s ∈ ss,∃ r,s=co n r/\s ≠ []:=by
  induction m with
  | nil=>intro s hs;cases hs
  | @cons b ss v m h0 h1 h2 ih=>
    intro s hs
    rcases List.mem_append.mp hs with q|q
    . exact ih s q
    . rw[List.mem_singleton]at q;exact⟨b,q,by rw[q];exact List.ne_nil_of_mem h0⟩
theorem HQ{o:List Nat}{k:Nat}(h:k ∈ o):∃ a r,o=a ++ k :: r/\k ∉ a/\o.idxOf k=a.length:=by
  induction o with
  | nil=>cases h
  | cons x t ih=>
    by_cases e:x=k
    . subst e;exact⟨[],t,rfl,by simp,by simp⟩
    . have:k ∈ t:=by rcases List.mem_cons.mp h with q|q;exact absurd q.symm e;exact q
      obtain⟨a,r,e1,e2,e3⟩:=ih this
      refine⟨x :: a,r,by rw[e1];rfl,by simp[e2];exact λ z=>e z.symm,?_⟩
      rw[List.idxOf_cons]
      have:(x == k)=false:=by simpa using e
      rw[this];simp[e3]
theorem Made.ord{o:List Nat}{ss:List (List Nat)}(m:Made n c l cs W o ss)(hW:∀ p ∈ W,p.1 < n/\p.2 < n)(h:co n o=[]):Ord n W o:=by
  obtain⟨nd,hn⟩:=m.nd
  have pm:o.Perm (List.range n):=by
    rw[List.perm_ext_iff_of_nodup nd List.nodup_range]
    intro k
    refine⟨λ hk=>by simpa using hn k hk,λ hk=>?_⟩
    have:=List.filter_eq_nil_iff.mp h k hk
    simpa using this
  refine⟨pm,λ p hp=>?_⟩
  obtain⟨a,r,e1,e2,e3⟩:=HQ (pm.mem_iff.mpr (by simpa using (hW p hp).1))
  obtain⟨_,_,q⟩:=m.at a p.1 r e1
  have hr:=q p hp rfl
  rw[e3,e1]
  rw[e1]at nd
  have na:p.2 ∉ a:=λ z=>(List.nodup_append.mp nd).2.2 _ z _ (List.mem_cons_of_mem _ hr) rfl
  rw[List.idxOf_append,if_neg na]
  have ne:p.1 ≠ p.2:=λ z=>by
    have:=(List.nodup_cons.mp (List.nodup_append.mp nd).2.1).1
    rw[z]at this;exact this hr
  rw[List.idxOf_cons]
  have:(p.1 == p.2)=false:=by simpa using ne
  rw[this];simp
theorem Tj{a r:List Nat}{u:Nat}(pm:(a ++ u :: r).Perm (List.range n)):(co n r).Perm (a ++ [u]):=by
  have nd:(a ++ u :: r).Nodup:=pm.nodup_iff.mpr List.nodup_range
  have e:(a ++ u :: r)=(a ++ [u]) ++ r:=by simp
  rw[e]at nd pm
  obtain⟨n1,n2,n3⟩:=List.nodup_append.mp nd
  rw[List.perm_ext_iff_of_nodup (List.nodup_range.filter _) n1]
  intro k
  have hk:=pm.mem_iff (a:=k)
  constructor
  . intro h
    obtain⟨h1,h2⟩:=List.mem_filter.mp h
    rcases List.mem_append.mp (hk.mpr h1)with q|q
    . exact q
    . exact absurd q (by simpa using h2)
  . intro h
    refine List.mem_filter.mpr ⟨hk.mp (List.mem_append_left _ h),?_⟩
    simpa using λ z=>n3 k h k z rfl
theorem Made.cost{o:List Nat}{ss:List (List Nat)}(m:Made n c l cs W o ss)(pm:o.Perm (List.range n)){k:Nat}(hk:k < n):∃ s ∈ ss,(cs k).at (En c l o k)=bd c l cs W s:=by
  obtain⟨a,r,e1,e2,e3⟩:=HQ (pm.mem_iff.mpr (by simpa using hk))
  obtain⟨q1,q2,_⟩:=m.at a k r e1
  refine⟨co n r,q1,?_⟩
  rw[<- q2]
  congr 1
  unfold En
  rw[e3]
  have pm':=pm
  rw[e1]at pm'
  have e4:o.take (a.length + 1)=a ++ [k]:=by
    rw[e1,show a ++ k :: r=(a ++ [k]) ++ r by simp]
    exact List.take_left' (by simp)
  rw[e4,Ui ((Tj pm').map l)]
end
theorem blsD_map(bs:List Bool):CW (blD bs)=some bs:=by
  induction bs with
  | nil=>rfl
  | cons b r ih=>simp[blD]at ih ⊢
structure Ev(ws:List Wg)(c:Int)(cs:Nat->Cost)(W:List (Nat × Nat))(rk:Nat->Nat):Prop where
  ok:Qb ws
  l5:ws.length <= 5
  com:∀ w ∈ ws,w.com=c
  hcs:Nn ws cs
  hW:W.length <= 16
  R:Rk (λ k=>k < ws.length) W rk
  hrk:∀ k,k < ws.length->rk k < ws.length
section
variable{ws:List Wg}{c:Int}{cs:Nat->Cost}{W:List (Nat × Nat)}{rk:Nat->Nat}
theorem Ev.cm(E:Ev ws c cs W rk){k:Nat}(hk:k < ws.length):Cj ws k=c:=by
  have:=E.com ws[k] (List.getElem_mem hk)
  simpa [Cj,hk]using this
theorem Ev.c0(E:Ev ws c cs W rk):0 <= c:=by
  have h:=E.ok.1
  have h1:=(E.ok.2.2 ws[0] (List.getElem_mem h)).2.1.1
  rw[E.com ws[0] (List.getElem_mem h)]at h1
  exact h1
theorem Ev.ln(E:Ev ws c cs W rk)(k:Nat):0 <= AJ ws k:=by
  unfold AJ
  cases h:ws[k]? with
  | none=>exact Int.le_refl _
  | some w=>have:=(E.ok.2.2 w (List.mem_of_getElem? h)).1;show 0 <= w.len;omega
theorem Ev.hM(E:Ev ws c cs W rk):Mt ws.length (DZ W) (Mc W):=W3 _ _
theorem Ev.lne(E:Ev ws c cs W rk){ks:List Nat}(hne:ks ≠ []):CU (Mc W) ks ≠ []:=TJ (rk:=rk) hne λ u _ v _ q=>Rp E.R q
theorem Ev.sh(E:Ev ws c cs W rk):Wsh ws.length (DZ W):=⟨by simpa using E.hW,λ p hp=>by
    obtain⟨q,hq,rfl⟩:=List.mem_map.mp hp
    have:=E.R.ins q hq
    exact⟨q.1,q.2,this.1,this.2,rfl⟩⟩
structure St(ws:List Wg)(W:List (Nat × Nat))(ks:List Nat):Prop where
  ne:ks ≠ []
  lt:∀ k ∈ ks,k < ws.length
  l8:ks.length <= 8
  cl:Clo W ks
theorem Mk(E:Ev ws c cs W rk){ks:List Nat}(S:St ws W ks):WF Bp [.im (As ws),.im (.tup (W.map Ap)),.im (Ae ks)] [] λ d x=>d=.im (.int (bd c (AJ ws) cs W ks)):=by
  obtain⟨h,H⟩:=TX E.R E.hrk (Cj ws) (AJ ws)
  refine(Nm E.ok.2.1 (λ k hk=>by rw[E.cm hk];exact E.c0) E.hW E.R E.hrk H E.hM E.hcs S.ne S.lt S.l8 (E.lne S.ne)).mono ?_
  rintro d x rfl
  unfold bnd bd HC
  rw[Qg E.R H (cc:=c) (λ k hk=>E.cm hk) S.lt S.ne S.cl]
theorem R8(E:Ev ws c cs W rk):WF DH [.im (As ws)] [] λ d x=>d=.im (.int c):=by
  have hl0:0 < ws.length:=E.ok.1
  have hl8:=E.ok.2.1
  unfold DH
  refine BQ rfl ?_
  refine AY (Aw (B3 (A9 (A5 rfl (AM ⟨by simp,?_⟩)))))
  have e0:(ws[0]).com=c:=E.com _ (List.getElem_mem hl0)
  have S:WF Ce [.im (As ws)] [] λ d x=>d=.im (.int c):=by
    unfold Ce
    refine BQ rfl ?_
    refine AY (Aw (Ad (Ad (A5 rfl (BP (Ah (by rw[EE,<- DE]) (EN (k:=0) hl0) ?_))))))
    refine BP (Ah rfl (Gf _ _ _) (AH ?_))
    rw[e0]
    refine AY (Ca (KF (Cm (C3 (Ed (A5 rfl ⟨_,rfl,?_⟩))))))
    rw[<- DE]
    refine⟨Ag (by simp;omega),?_⟩
    refine Cn (λ w=>D.im (wgI w)) (λ _=>some (.im (.bl true))) (λ _ ls=>∃ x,ls=[some x,some (.im (.int c))]) _ (AZ _) ?_ ?_
    . rintro p hp ls hls
      refine⟨[some (.im (wgI p)),some (.im (.int c))],by rcases hls with rfl|⟨_,x,rfl⟩ <;> rfl,⟨_,rfl⟩,Do ⟨rfl,?_⟩⟩
      rw[if_pos rfl]
      refine⟨_,rfl,Ad (Ad (A5 rfl (BP (Ah rfl (Gf _ _ _) (A5 rfl (GI ⟨rfl,?_⟩))))))⟩
      simp[E.com p hp]
    have e:(ws.filterMap λ _=>some (D.im (.bl true)))=blD (ws.map λ _=>true):=by simp[blD]
    rw[e]
    refine⟨_,by rw[Qn,blsD_map];rfl,_,rfl,?_⟩
    refine⟨λ _=>?_,(λ h=>by simp at h)⟩
    exact BW (A5 rfl rfl)
  refine S.mono ?_
  rintro d x rfl
  refine⟨_,rfl,AH ?_⟩
  refine AY (Ca (BG ?_))
  refine WP.eq (z:=.im (.bl false)) (h:=[]) (by simp[LI]) ⟨_,rfl,(λ h=>by cases h),λ _=>BO (AH ?_)⟩
  exact BW (A5 rfl rfl)
noncomputable def kfC(cs:Nat->Cost)(t:Int):D->Int | .im (.int i)=>(cs i.toNat).at t|_=>0
theorem Ng(E:Ev ws c cs W rk){ks:List Nat}(S:St ws W ks)(t:Int):WF CI [.im (As ws),.im (.tup (W.map Ap)),.im (Ae ks),.im (.int t)] [] λ d x=>∃ u:Nat,d=.im (.int (u:Int))/\u ∈ CU (Mc W) ks/\(cs u).at t=Dd ((CU (Mc W) ks).map λ k=>(cs k).at t):=by
  unfold CI
  refine BQ rfl ?_
  refine BW (Nt (B3 (A9 (E9 (A9 (A5 rfl (AM (Dp rfl rfl ?_))))))))
  refine A9 (A5 rfl (A9 (A5 rfl (AM ⟨by simp,?_⟩))))
  have ew:W.map Ap=(DZ W).map FV:=by rw[List.map_map];rfl
  have eln:(((ws.map wgI).map D.im).length:Int)=(ws.length:Int):=by simp
  rw[eln,ew]
  refine(OZ E.sh E.hM S.lt S.l8).mono ?_
  rintro r x rfl
  refine⟨_,rfl,?_⟩
  have hne:=E.lne S.ne
  have hlt:∀ k ∈ CU (Mc W) ks,k < ws.length:=λ k hk=>S.lt k (List.mem_filter.mp hk).1
  generalize CU (Mc W) ks=L at hne hlt
  cases L with
  | nil=>exact absurd rfl hne
  | cons b r=>
    have bm:=Hm (kfC cs t) (Ab r) (.im (.int (b:Int)))
    refine⟨.im (.int (b:Int)),Ab r,kfC cs t,?_,λ y hy=>?_,?_⟩
    . show some (((b :: r).map λ k:Nat=>I.int (k:Int)).map D.im)=_
      simp[Ab]
    . obtain⟨k,hk,rfl⟩:=List.mem_map.mp (show y ∈ Ab (b :: r)from hy)
      have hkn:=hlt k hk
      have w:WE (AC 0 F_cost_at (A2 (mOp gIx (mOp gIx (A0 2) (A0 0)) (mC (.int 2))) (A2 (A0 1) A6))) [some (.im (.int (k:Int))),some (.im (.int t)),some (.im (As ws))] [] λ d x=>d=.im (.int ((cs k).at t))/\x=[]:=by
        refine B3 (A9 (Ad (Ad (A5 rfl (A5 rfl (Ah (by rw[EE,<- DE]) (EN hkn) (BP (Ah rfl (Hq _ _ _ _) ?_))))))))
        rw[Mu E.hcs hkn]
        refine A9 (A5 rfl (AM ⟨by simp,?_⟩))
        rw[Be]
        exact WP.eq (Ij _ _ (OO (E.hcs k hkn).2.1)) ⟨_,rfl,rfl,rfl⟩
      obtain⟨d,x,e,rfl,rfl⟩:=w
      exact e
    . obtain⟨h1,h2⟩:=bm
      obtain⟨u,hu,eu⟩:=List.mem_map.mp (show Bh (λ n m=>decide (n < m)) (Ab r) ((Ab r).map (kfC cs t)) (.im (.int (b:Int))) (kfC cs t (.im (.int (b:Int)))) ∈ Ab (b :: r)from h1)
      rw[<- eu]at h2 ⊢
      refine⟨u,rfl,hu,?_⟩
      have h3:∀ k ∈ b :: r,(cs u).at t <= (cs k).at t:=λ k hk=>by
        have:=h2 (.im (.int (k:Int))) (show _ ∈ Ab (b :: r)from List.mem_map.mpr ⟨k,hk,rfl⟩)
        simpa [kfC]using this
      have ms:=Dn (xs:=(b :: r).map λ k=>(cs k).at t) (by simp)
      have g1:=ms.2 _ (List.mem_map.mpr ⟨u,hu,rfl⟩)
      obtain⟨v,hv,ev⟩:=List.mem_map.mp ms.1
      have g2:=h3 v hv
      try dsimp only at ev g1
      omega
theorem Np(ks:List Nat)(u:Nat)(hl:ks.length <= 8):WF EL [.im (Ae ks),.im (.int (u:Int))] [] λ d x=>d=.im (Ae (ks.filter λ k=>decide (k ≠ u))):=by
  unfold EL
  refine BQ rfl ?_
  refine BW (Cm (C3 (Ed (A5 rfl ⟨_,rfl,?_⟩))))
  rw[DL]
  refine⟨Ag (by simp[Ab];omega),?_⟩
  refine Cn (λ k:Nat=>D.im (.int (k:Int))) (λ k=>if k ≠ u then some (.im (.int (k:Int)))else none) (λ _ ls=>∃ x,ls=[some x,some (.im (.int (u:Int)))]) _ (AZ _) ?_ ?_
  . rintro k hk ls hls
    refine⟨[some (.im (.int (k:Int))),some (.im (.int (u:Int)))],by rcases hls with rfl|⟨_,x,rfl⟩ <;> rfl,⟨_,rfl⟩,BG (Ad (A5 rfl (A5 rfl (FP ⟨_,rfl,rfl,?_⟩))))⟩
    by_cases h:k=u
    . subst h;simp
    . have h1:¬ ((k:Int)=(u:Int)):=by omega
      simp only[h1,decide_false,Bool.not_false,if_true]
      exact⟨_,by simp[h],A5 rfl ⟨rfl,rfl⟩⟩
  rw[WK]
  exact⟨_,rfl,G0 _⟩
theorem Jb{ss:List (List Nat)}{d:D}(h:d ∈ ss.map AT):∃ s ∈ ss,d=AT s:=by
  obtain⟨s,h1,h2⟩:=List.mem_map.mp h
  exact⟨s,h1,h2.symm⟩
noncomputable def Nc:I->Nat | .int i=>i.toNat|_=>0
noncomputable def kfB(c:Int)(l:Nat->Int)(cs:Nat->Cost)(W:List (Nat × Nat)):D->Int | .im (.tup is)=>bd c l cs W (is.map Nc)|_=>0
theorem JJ(l:Nat->Int)(s:List Nat):kfB c l cs W (AT s)=bd c l cs W s:=by
  show bd c l cs W ((s.map λ k:Nat=>I.int (k:Int)).map Nc)=_
  rw[List.map_map]
  congr 1
  have:(Nc ∘ λ k:Nat=>I.int (k:Int))=id:=by funext k;simp[Nc]
  rw[this,List.map_id]
theorem TY(E:Ev ws c cs W rk){hd:Hd}{k:Nat}{ss:List (List Nat)}(e:hd[k]? = some (.lst (ss.map AT)))(hne:ss ≠ [])(hs:∀ s ∈ ss,St ws W s):WF Bv [.im (As ws),.im (.tup (W.map Ap)),.mu k] hd λ d x=>∃ s ∈ ss,d=AT s/\∀ s' ∈ ss,bd c (AJ ws) cs W s' <= bd c (AJ ws) cs W s:=by
  unfold Bv
  refine BQ rfl ?_
  cases ss with
  | nil=>exact absurd rfl hne
  | cons b r=>
    have bm:=Hn (kfB c (AJ ws) cs W) (r.map AT) (AT b)
    refine BW (PJ (A5 rfl ⟨AT b,r.map AT,kfB c (AJ ws) cs W,?_,λ y hy=>?_,?_⟩))
    . simp only[Ax,e];rfl
    . obtain⟨s,hs',rfl⟩:=Jb (ss:=b :: r) hy
      have w:WE (AC 0 Bp (A2 (A0 1) (A2 (A0 2) (A2 (A0 0) A6)))) [some (AT s),some (.im (As ws)),some (.im (.tup (W.map Ap)))] hd λ d x=>d=.im (.int (bd c (AJ ws) cs W s))/\x=hd:=by
        refine B3 (A9 (A5 rfl (A9 (A5 rfl (A9 (A5 rfl (AM ⟨by simp,(Mk E (hs s hs')).mono ?_⟩)))))))
        rintro d x rfl
        exact⟨_,rfl,rfl,rfl⟩
      obtain⟨d,x,e,rfl,rfl⟩:=w
      rw[JJ]
      exact e
    . obtain⟨h1,h2⟩:=bm
      obtain⟨s,hs',es⟩:=Jb (ss:=b :: r) h1
      rw[es]at h2 ⊢
      refine⟨s,hs',rfl,λ s' h'=>?_⟩
      have:=h2 (AT s') (show _ ∈ (b :: r).map AT from List.mem_map.mpr ⟨s',h',rfl⟩)
      rw[JJ,JJ]at this
      exact this
theorem Ql{b:List Nat}{u:Nat}{n:Nat}(R:Rk (λ k=>k < n) W rk)(hu:u ∈ CU (Mc W) (co n b)):∀ p ∈ W,p.1=u->p.2 ∈ b:=by
  intro p hp e
  refine Classical.byContradiction λ h=>?_
  have h2:p.2 ∈ co n b:=List.mem_filter.mpr ⟨by simpa using (R.ins p hp).2,by simpa using h⟩
  have h3:=(List.mem_filter.mp hu).2
  rw[Bool.not_eq_true',List.any_eq_false]at h3
  refine h3 p.2 h2 ?_
  subst e
  have:Rc (DZ W) (p.1:Int) (p.2:Int):=.one (List.mem_map.mpr ⟨p,hp,rfl⟩)
  simp[Mc,this]
theorem Mg{n:Nat}{b:List Nat}{u:Nat}:((co n b).filter λ k=>decide (k ≠ u))=co n (u :: b):=by
  unfold co
  rw[List.filter_filter]
  congr 1
  funext k
  simp
theorem R9{n:Nat}{b:List Nat}{u:Nat}(cl:Clo W (co n b))(h:∀ p ∈ W,p.1=u->p.2 ∈ b):Clo W (co n (u :: b)):=by
  intro p hp h2
  rw[<- Mg]at h2 ⊢
  obtain⟨g1,g2⟩:=List.mem_filter.mp h2
  refine List.mem_filter.mpr ⟨cl p hp g1,?_⟩
  refine decide_eq_true λ e=>?_
  have:=(List.mem_filter.mp g1).2
  exact(by simpa using this:p.2 ∉ b) (h p hp e)
end
section
variable{ws:List Wg}{c:Int}{cs:Nat->Cost}{W:List (Nat × Nat)}{rk:Nat->Nat}
theorem Qj{ks:List Nat}(hk:∀ k ∈ ks,k < ws.length)(hl:ks.length <= 8):WF BV [.im (As ws),.im (Ae ks)] [] λ d x=>d=.im (.int (ks.map (AJ ws)).sum):=by
  unfold BV
  refine BQ rfl ?_
  exact BW (OX hk hl rfl rfl rfl)
theorem WU(E:Ev ws c cs W rk){o:List Nat}(hne:co ws.length o ≠ [])(cl:Clo W (co ws.length o)):St ws W (co ws.length o):=
  ⟨hne,λ k hk=>by simpa using (List.mem_filter.mp hk).1,Nat.le_trans (List.length_filter_le _ _) (by simpa using E.ok.2.1),cl⟩
theorem GM{n:Nat}{o:List Nat}(h:o.Nodup)(h2:∀ k ∈ o,k < n):o.length <= n:=by
  have:=GN (l:=o.map λ k:Nat=>(k:Int)) (m:=(List.range n).map λ k:Nat=>(k:Int)) (List.Pairwise.map _ (λ a b h=>λ z=>h (by omega)) h) λ x hx=>by
    obtain⟨k,hk,rfl⟩:=List.mem_map.mp hx
    exact List.mem_map.mpr ⟨k,by simpa using h2 k hk,rfl⟩
  simpa using this
theorem Oh{u:Nat}{L:List Nat}(h:u ∈ L):(L.filter λ k=>decide (k ≠ u)).length < L.length:=by
  induction L with
  | nil=>cases h
  | cons x r ih=>
    by_cases e:x=u
    . subst e
      have:=List.length_filter_le (λ k=>decide (k ≠ x)) r
      simp;simpa using Nat.lt_succ_of_le this
    . have h:u ∈ r:=by rcases List.mem_cons.mp h with q|q;exact absurd q.symm e;exact q
      have:=ih h
      rw[List.filter_cons_of_pos (by simpa using e)]
      simp only[List.length_cons];omega
inductive I_ord(ws:List Wg)(c:Int)(cs:Nat->Cost)(W:List (Nat × Nat))(m:Nat)(ls:Ls)(hd:Hd):Prop
  | mk (o:List Nat) (ss:List (List Nat)) (z6:Option D) (h1:ls=[some (.im (As ws)),some (.im (.tup (W.map Ap))),some (.im (.int c)),some (.mu 0),some (.mu 1),some (.im (Ae (co ws.length o))),z6]) (h2:hd=[.lst (Ab o),.lst (ss.map AT)]) (h3:Made ws.length c (AJ ws) cs W o ss) (h4:Clo W (co ws.length o)) (h5:∀ s ∈ ss,St ws W s) (h6:m=(co ws.length o).length) (h7:ss.length=o.length):I_ord ws c cs W m ls hd
theorem T1(E:Ev ws c cs W rk):WF Bu [.im (As ws),.im (.tup (W.map Ap))] [] λ d x=>∃ (o:List Nat) (ss:List (List Nat)) (s:List Nat),d=.im (.tup [Ae o,Ae s])/\Made ws.length c (AJ ws) cs W o ss/\co ws.length o=[]/\s ∈ ss/\(∀ s ∈ ss,St ws W s)/\∀ s' ∈ ss,bd c (AJ ws) cs W s' <= bd c (AJ ws) cs W s:=by
  have hn:=E.ok.2.1
  unfold Bu
  refine BQ rfl ?_
  refine AY (Aw (B3 (A9 (A5 rfl (AM ⟨by simp,(R8 E).mono ?_⟩)))))
  rintro d x rfl
  refine⟨_,rfl,AH ?_⟩
  refine AY (Aw (Cl (Dq (AM ⟨Ag (by simp),AH ?_⟩))))
  refine AY (Aw (Cl (Dq (AM ⟨Ag (by simp),AH ?_⟩))))
  have rn:BF (At 0 ws.length)=.im (Ae (List.range ws.length)):=by rw[DI,G0]
  have rgl:Gn (ws.length:Int):=HV (by omega) (by omega)
  refine AY (Aw (WP.eq (z:=.im (Ae (List.range ws.length))) (h:=[.lst [],.lst []]) (by simp[Ci,rgl,rn]) (AH ?_)))
  change WS _ [some (.im (As ws)),some (.im (.tup (W.map Ap))),some (.im (.int c)),some (.mu 0),some (.mu 1),some (.im (Ae (List.range ws.length))),none] [.lst [],.lst []] _
  have eco:co ws.length []=List.range ws.length:=by simp[co]
  refine AY (KH (I_ord ws c cs W) (n:=ws.length) ?_ ?_)
  . refine⟨[],[],none,by rw[eco],rfl,.nil,?_,by simp,by rw[eco];simp,rfl⟩
    rw[eco]
    intro p hp _
    simpa using (E.R.ins p hp).1
  . rintro n ls hd ⟨o,ss,z6,rfl,rfl,hm,cl,hst,hn',hlen⟩
    have ol:o.length <= 8:=by
      have:=hm.nd
      have h1:=GM this.1 this.2
      omega
    refine KF (A5 rfl ⟨_,rfl,?_⟩)
    by_cases hne:co ws.length o=[]
    . rw[if_neg (by simp[hne])]
      refine AH ?_
      have hss:ss ≠ []:=by
        intro z
        rw[z]at hlen
        have:o=[]:=List.eq_nil_of_length_eq_zero hlen.symm
        rw[this,eco]at hne
        have:=E.ok.1
        have h1:(List.range ws.length).length=0:=by rw[hne];rfl
        rw[List.length_range]at h1;omega
      refine BW (FR (A9 (E9 (A9 (A5 rfl (AM (Dp rfl rfl ?_)))))))
      refine A9 (E4 (A9 (A5 rfl (A9 (A5 rfl (A9 (A5 rfl (AM ((TY E (ss:=ss) rfl hss hst).mono ?_)))))))))
      rintro d x ⟨s,hs,rfl,hb⟩
      refine AM ⟨Ib,o,ss,s,?_,hm,hne,hs,hst,hb⟩
      rw[G0];rfl
    . rw[if_pos (by cases h:co ws.length o with|nil=>exact absurd h hne|cons=>rfl)]
      have S:=WU E hne cl
      refine AY (Aw (B3 (A9 (A5 rfl (A9 (A5 rfl (A9 (A5 rfl (A9 (Ad (A5 rfl (B3 (A9 (A5 rfl (A9 (A5 rfl (AM ⟨by simp,(Qj S.lt S.l8).mono ?_⟩)))))))))))))))))
      rintro d x rfl
      refine⟨_,rfl,FQ (AM ⟨by simp,(Ng E S _).mono ?_⟩)⟩
      rintro d x ⟨u,rfl,hu,ec⟩
      refine⟨_,rfl,AH ?_⟩
      change WS _ [some (.im (As ws)),some (.im (.tup (W.map Ap))),some (.im (.int c)),some (.mu 0),some (.mu 1),some (.im (Ae (co ws.length o))),some (.im (.int (u:Int)))] [.lst (Ab o),.lst (ss.map AT)] _
      refine AY (EU (Gm (A5 rfl ⟨⟨_,rfl⟩,A9 (BP (A9 (A5 rfl (AM (No rfl (by simp) (by simp) (Bk (by simp[Ab];omega)) (AH ?_))))))⟩)))
      refine AY (EU (Gm (A5 rfl ⟨⟨_,rfl⟩,A9 (A5 rfl (AM (Ec rfl (Bk (by simp;omega)) (AH ?_))))⟩)))
      refine Aw (B3 (A9 (A5 rfl (A9 (A5 rfl (AM ⟨by simp,(Np _ u S.l8).mono ?_⟩))))))
      rintro d x rfl
      refine⟨_,rfl,?_⟩
      have hf:=Ql E.R hu
      have hu0:=(List.mem_filter.mp hu).1
      have ecc:=Mg (n:=ws.length) (b:=o) (u:=u)
      have hlt:(co ws.length (u :: o)).length < n:=by
        rw[<- ecc,hn']
        exact Oh hu0
      refine⟨_,hlt,u :: o,ss ++ [co ws.length o],_,by rw[<- ecc];rfl,by simp[Ab],.cons u hm hu0 ec hf,R9 cl hf,?_,rfl,by simp[hlen]⟩
      intro s hs
      rcases List.mem_append.mp hs with q|q
      . exact hst s q
      . rw[List.mem_singleton]at q;rw[q];exact S
end
theorem Tx{ml:MA}{mb:ME}{ls:Ls}{hd:Hd}{QA:List D->Hd->Prop}(h:WA ml ls hd λ ds x=>WE mb ls x λ e y=>∃ k,e=.im (.int k)/\(0 <= k/\k <= 1000)/\C2 (ds.length * k.toNat)/\QA (List.replicate k.toNat ds).flatten y):WA (LF ml mb) ls hd QA:=by
  obtain⟨ds,x,e1,d,y,e2,k,rfl,h1,h2,q⟩:=h
  exact⟨_,_,by simp only[LF,e1,Option.bind_some,e2,h1,h2,and_self,if_true],q⟩
theorem TL{ns:List Int}(h:ns ≠ []):He (intD ns)=some (.im (.int (DB ns))):=by unfold He;rw[FE];simp[h]
section
variable{ws:List Wg}{c:Int}{cs:Nat->Cost}{W:List (Nat × Nat)}{rk:Nat->Nat}
theorem Tv(E:Ev ws c cs W rk){k:Nat}(hk:k < ws.length):(ws[k]).com=c:=E.com _ (List.getElem_mem hk)
noncomputable abbrev Ir(c:Int)(l:Nat->Int)(o:List Nat)(n:Nat)(dn:List Nat):List Int:=(List.range n).map λ k=>if k ∈ dn then En c l o k else 0
inductive I_run(ws:List Wg)(c:Int)(o:List Nat)(r:List D)(ls:Ls)(hd:Hd):Prop
  | mk (dn rest:List Nat) (z4:Option D) (t:Int) (h0:o=dn ++ rest) (h1:r=Ab rest) (h2:ls=[some (.im (As ws)),some (.im (Ae o)),some (.mu 0),some (.im (.int t)),z4]) (h3:hd=[.lst (intD (Ir c (AJ ws) o ws.length dn))]) (h4:max t c=c + (dn.map (AJ ws)).sum):I_run ws c o r ls hd
theorem Vl(E:Ev ws c cs W rk){o:List Nat}(O:Ord ws.length W o):WF CY [.im (As ws),.im (Ae o)] [] λ d x=>d=.mu 0/\x=[.lst (intD ((List.range ws.length).map (En c (AJ ws) o)))]:=by
  have hn:=E.ok.2.1
  have nd:o.Nodup:=O.pm.nodup_iff.mpr List.nodup_range
  unfold CY
  refine BQ rfl ?_
  refine AY (Aw (Cl (Tx (Dq (A9 (BP (AM ⟨Ag (by simp),?_⟩)))))))
  refine E9 (A9 (A5 rfl (AM (Dp rfl rfl ⟨_,rfl,by simp;omega,Ag (by simp;omega),AH ?_⟩))))
  have e0:(List.replicate (Int.toNat (((ws.map wgI).map D.im).length:Int)) [D.im (.int 0)]).flatten=intD (Ir c (AJ ws) o ws.length []):=by
    simp only[intD,Ir,List.length_map,Int.toNat_natCast,List.map_map,Function.comp_def,List.not_mem_nil,if_false]
    rw[show(λ _:Nat=>D.im (.int 0))=Function.const Nat (D.im (.int 0))from rfl,List.map_const,List.length_range]
    simp
  rw[e0]
  refine AY (Aw (BP (AH ?_)))
  refine AY (EC (Ed (A5 rfl ⟨_,rfl,?_⟩)))
  rw[DL]
  refine C6 (I_run ws c o) ⟨[],o,none,0,rfl,rfl,rfl,rfl,by have:=E.c0;simp;omega⟩ ?_ ?_
  . rintro d r ls hd ⟨dn,rest,z4,t,e1,er,rfl,rfl,ht⟩
    cases rest with
    | nil=>cases er
    | cons k rest=>
      obtain⟨rfl,rfl⟩:=List.cons.inj er
      have hk:k < ws.length:=by simpa using O.pm.mem_iff.mp (show k ∈ o by rw[e1];simp)
      refine⟨_,rfl,?_⟩
      dsimp only[List.set_cons_zero,List.set_cons_succ]
      refine AY (Aw (Ad (E9 (A9 (A5 rfl (A9 (Ad (Ad (A5 rfl (A5 rfl (Ah (by rw[EE,<- DE]) (EN hk) (BP (Ah rfl (Gf _ _ _) (AM (Gk ?_)))))))))))))))
      rw[Tv E hk]
      refine Ad (Ad (A5 rfl (A5 rfl (Ah (by rw[EE,<- DE]) (EN hk) (BP (Ah rfl (FO _ _) (FQ (AH ?_))))))))
      rw[Nr hk,ht]
      have eE:En c (AJ ws) o k=c + (dn.map (AJ ws)).sum + AJ ws k:=by
        obtain⟨a,r',f1,f2,f3⟩:=HQ (show k ∈ o by rw[e1];simp)
        have hkd:k ∉ dn:=λ z=>by
          rw[e1]at nd
          exact(List.nodup_append.mp nd).2.2 _ z _ (by simp) rfl
        have fi:o.idxOf k=dn.length:=by
          rw[e1,List.idxOf_append,if_neg hkd];simp
        unfold En
        rw[fi]
        have e4:o.take (dn.length + 1)=dn ++ [k]:=by
          rw[e1,show dn ++ k :: rest=(dn ++ [k]) ++ rest by simp]
          exact List.take_left' (by simp)
        rw[e4];simp;omega
      have hix:ixN (intD (Ir c (AJ ws) o ws.length dn)).length (k:Int)=some k:=by
        unfold ixN;simp[intD,hk]
      refine Gj (A5 rfl (A5 rfl (A5 rfl ⟨0,(k:Int),k,_,rfl,rfl,rfl,hix,?_⟩)))
      refine⟨AZ _,dn ++ [k],rest,_,_,by rw[e1];simp,rfl,rfl,?_,?_⟩
      . show [MO.lst _]=[MO.lst _]
        congr 2
        rw[<- eE]
        refine List.ext_getElem? λ i=>?_
        rw[List.getElem?_set]
        by_cases hi:k=i
        . subst hi
          simp[intD,Ir,hk]
        . simp only[hi,if_false,intD,Ir,List.getElem?_map,List.map_map]
          by_cases hi2:i < ws.length
          . have h5:(i ∈ dn ∨ i=k) ↔ i ∈ dn:=⟨λ z=>z.resolve_right (λ q=>hi q.symm),.inl⟩
            simp[hi2,h5]
          . simp[hi2]
      . have:=Ny E.ln (dn ++ [k])
        simp only[List.map_append,List.sum_append,List.map_cons,List.map_nil,List.sum_cons,List.sum_nil]at *
        omega
  . rintro ls hd ⟨dn,rest,z4,t,e1,er,rfl,rfl,ht⟩
    have:rest=[]:=by cases rest with
      | nil=>rfl
      | cons t r=>cases er
    subst this
    refine AH (BW (A5 rfl ⟨rfl,?_⟩))
    rw[List.append_nil]at e1
    subst e1
    show [MO.lst _]=[MO.lst _]
    congr 3
    refine List.map_congr_left λ k hk=>?_
    rw[if_pos (O.pm.mem_iff.mpr hk)]
noncomputable def gr(n:Nat)(c:Int)(l:Nat->Int)(cs:Nat->Cost)(o:List Nat):Int:=DB ((List.range n).map λ k=>(cs k).at (En c l o k))
theorem Wo(E:Ev ws c cs W rk){o:List Nat}{hd:Hd}{j:Nat}(e:hd[j]? = some (.lst (intD ((List.range ws.length).map (En c (AJ ws) o))))):WF CZ [.im (As ws),.mu j] hd λ d x=>d=.im (.int (gr ws.length c (AJ ws) cs o))/\x=hd:=by
  have hn:=E.ok.2.1
  have h0:=E.ok.1
  unfold CZ
  refine BQ rfl ?_
  have eln:(((ws.map wgI).map D.im).length:Int)=(ws.length:Int):=by simp
  refine BW (Cm (C3 (HN (A9 (E9 (A9 (A5 rfl (AM (Dp rfl rfl ?_)))))))))
  rw[eln]
  refine AM ⟨_,rfl,Dk (by omega) (by omega),?_⟩
  rw[Int.toNat_natCast,DI]
  refine⟨Ag (by simp[Ab];omega),?_⟩
  refine Cn (λ k:Nat=>D.im (.int (k:Int))) (λ k=>some (.im (.int ((cs k).at (En c (AJ ws) o k))))) (λ _ ls=>∃ x,ls=[some x,some (.im (As ws)),some (.mu j)]) _ (AZ _) ?_ ?_
  . rintro k hk' ls hls
    have hkn:k < ws.length:=by simpa using hk'
    refine⟨[some (.im (.int (k:Int))),some (.im (As ws)),some (.mu j)],by rcases hls with rfl|⟨_,x,rfl⟩ <;> rfl,⟨_,rfl⟩,Do ⟨rfl,?_⟩⟩
    rw[if_pos rfl]
    refine⟨_,rfl,B3 (A9 (Ad (Ad (A5 rfl (A5 rfl (Ah (by rw[EE,<- DE]) (EN hkn) (BP (Ah rfl (Hq _ _ _ _) ?_))))))))⟩
    rw[Mu E.hcs hkn]
    refine A9 (Ad (A5 rfl (A5 rfl (Ah (ds:=intD ((List.range ws.length).map (En c (AJ ws) o))) (by simp[B2,e]) (Li (k:=k) (x:=.im (.int (En c (AJ ws) o k))) rfl ?_) (AM ⟨by simp,(Ti (E.hcs k hkn).2.1 _).mono ?_⟩)))))
    . simp[intD,hkn]
    . rintro d x rfl
      exact⟨_,rfl,rfl,rfl⟩
  rw[Gy]
  refine⟨_,TL ?_,rfl,rfl⟩
  have:((List.range ws.length).map λ k=>(cs k).at (En c (AJ ws) o k)) ≠ []:=by
    intro z
    have:=congrArg List.length z
    rw[List.length_map,List.length_range]at this
    simp only[List.length_nil]at this
    omega
  exact this
end
theorem S5{is js:List I}{hd:Hd}{QE:D->Hd->Prop}(h0:is ≠ [])(h1:is.length + js.length <= 100)(q:QE (.im (.tup (is ++ js))) hd):WP (B7 (.im (.tup is)) (.im (.tup js)) hd) QE:=by
  have cat:Rv (is.map D.im) (js.map D.im):=⟨by simpa using h0,Ag (by simp;omega)⟩
  refine WP.eq (z:=.im (.tup (is ++ js))) (h:=hd) ?_ q
  show(match JN (.im (.tup is)) (.im (.tup js)) hd with|some z=>some z|none=>G8 (.im (.tup is)) (.im (.tup js)) hd)=_
  rw[show JN (.im (.tup is)) (.im (.tup js)) hd=none from rfl]
  unfold G8
  rw[show Ac (.im (.tup is))=some (is.map D.im)from rfl,show Ac (.im (.tup js))=some (js.map D.im)from rfl,Option.bind_some,Option.bind_some,if_pos cat,<- List.map_append,CT]
theorem S4{is js:List I}{hd:Hd}{QE:D->Hd->Prop}(h1:is.length + js.length <= 100)(q:QE (.im (.tup (is ++ js))) hd):WP (Rs (.im (.tup is)) (.im (.tup js)) hd) QE:=by
  by_cases h0:is=[]
  . subst h0
    refine WP.eq (z:=.im (.tup js)) (h:=hd) ?_ q
    show(match B7 (.im (.tup [])) (.im (.tup js)) hd with|some z=>some z|none=>HA (.im (.tup [])) (.im (.tup js)) hd)=_
    have e:B7 (.im (.tup [])) (.im (.tup js)) hd=none:=by
      show(match JN (.im (.tup [])) (.im (.tup js)) hd with|some z=>some z|none=>G8 (.im (.tup [])) (.im (.tup js)) hd)=_
      rw[show JN (.im (.tup [])) (.im (.tup js)) hd=none from rfl]
      unfold G8
      rw[show Ac (.im (.tup []))=some []from rfl,show Ac (.im (.tup js))=some (js.map D.im)from rfl,Option.bind_some,Option.bind_some,if_neg (λ z=>z.1 rfl)]
    rw[e]
    unfold HA
    rw[show Ac (.im (.tup []))=some []from rfl,show Ac (.im (.tup js))=some (js.map D.im)from rfl,Option.bind_some,Option.bind_some,if_pos rfl,CT]
  . obtain⟨d,x,e,q⟩:=S5 (QE:=QE) h0 h1 q
    refine⟨d,x,?_,q⟩
    show(match B7 (.im (.tup is)) (.im (.tup js)) hd with|some z=>some z|none=>HA (.im (.tup is)) (.im (.tup js)) hd)=_
    rw[e]
noncomputable def okK(W:List (Nat × Nat))(row:List Nat)(k:Nat):Bool:=decide (k ∉ row) && decide (∀ p ∈ W,p.2=k->p.1 ∈ row)
noncomputable def GX(n:Nat)(W:List (Nat × Nat))(row:List Nat):List (List Nat):=((List.range n).filter (okK W row)).map λ k=>row ++ [k]
noncomputable def Sn(n:Nat)(W:List (Nat × Nat)):Nat->List (List Nat)
  | 0=>[[]]
  | t + 1=>(Sn n W t).flatMap (GX n W)
section
variable{n:Nat}{W:List (Nat × Nat)}
theorem MZ(L:List (List Nat)):(L.flatMap (GX n W)).length <= L.length * n:=by
  induction L with
  | nil=>simp
  | cons x r ih=>
    rw[List.flatMap_cons,List.length_append,List.length_cons,Nat.succ_mul]
    have:(GX n W x).length <= n:=by
      unfold GX;rw[List.length_map]
      exact Nat.le_trans (List.length_filter_le _ _) (by simp)
    omega
theorem P6(h5:n <= 5):∀ t,(Sn n W t).length <= 5 ^ t
  | 0=>by simp[Sn]
  | t + 1=>by
    have h1:=MZ (n:=n) (W:=W) (Sn n W t)
    have h2:=P6 h5 t
    have h3:=Nat.mul_le_mul h2 h5
    rw[Nat.pow_succ]
    exact Nat.le_trans h1 h3
theorem Rx(h5:n <= 5){t:Nat}(ht:t <= 5):(Sn n W t).length <= 3125:=Nat.le_trans (P6 h5 t) (Nat.le_trans (Nat.pow_le_pow_right (by decide) ht) (by decide))
theorem Lm:∀ t row,row ∈ Sn n W t->row.length=t/\row.Nodup/\(∀ k ∈ row,k < n)/\∀ p ∈ W,p.2 ∈ row->p.1 ∈ row/\row.idxOf p.1 < row.idxOf p.2
  | 0,row,h=>by
    have:row=[]:=by simpa [Sn]using h
    subst this;simp
  | t + 1,row,h=>by
    obtain⟨r,hr,h⟩:=List.mem_flatMap.mp h
    obtain⟨k,hk,rfl⟩:=List.mem_map.mp h
    obtain⟨hk1,hk2⟩:=List.mem_filter.mp hk
    obtain⟨g1,g2,g3,g4⟩:=Lm t r hr
    unfold okK at hk2
    rw[Bool.and_eq_true]at hk2
    have c1:k ∉ r:=of_decide_eq_true hk2.1
    have c2:∀ p ∈ W,p.2=k->p.1 ∈ r:=of_decide_eq_true hk2.2
    refine⟨by simp[g1],?_,?_,?_⟩
    . rw[List.nodup_append]
      exact⟨g2,by simp,λ a ha b hb=>by rw[List.mem_singleton]at hb;subst hb;exact λ z=>c1 (z ▸ ha)⟩
    . intro x hx
      rcases List.mem_append.mp hx with q|q
      . exact g3 x q
      . rw[List.mem_singleton]at q;subst q;simpa using hk1
    . intro p hp h2
      by_cases q:p.2 ∈ r
      . obtain⟨f1,f2⟩:=g4 p hp q
        refine⟨List.mem_append_left _ f1,?_⟩
        rw[List.idxOf_append,List.idxOf_append,if_pos f1,if_pos q];exact f2
      . have e:p.2=k:=by
          rcases List.mem_append.mp h2 with z|z
          . exact absurd z q
          . simpa using z
        have f1:=c2 p hp e
        refine⟨List.mem_append_left _ f1,?_⟩
        rw[List.idxOf_append,List.idxOf_append,if_pos f1,if_neg q]
        have:=List.idxOf_lt_length_iff.mpr f1
        omega
theorem P5{o:List Nat}(hW:∀ p ∈ W,p.1 < n/\p.2 < n)(h:o ∈ Sn n W n):Ord n W o:=by
  obtain⟨g1,g2,g3,g4⟩:=Lm n o h
  have all:∀ k,k < n->k ∈ o:=λ k hk=>Classical.byContradiction λ z=>by
    have:=GM (n:=n) (o:=k :: o) (List.nodup_cons.mpr ⟨z,g2⟩) λ x hx=>by
      rcases List.mem_cons.mp hx with rfl|q
      . exact hk
      . exact g3 x q
    simp only[List.length_cons]at this
    omega
  refine⟨?_,λ p hp=>(g4 p hp (all _ (hW p hp).2)).2⟩
  rw[List.perm_ext_iff_of_nodup g2 List.nodup_range]
  intro k
  exact⟨λ h=>by simpa using g3 k h,λ h=>all k (by simpa using h)⟩
theorem OJ{o:List Nat}(O:Ord n W o):o ∈ Sn n W n:=by
  have nd:o.Nodup:=O.pm.nodup_iff.mpr List.nodup_range
  have hl:o.length=n:=by simpa using O.pm.length_eq
  have go:∀ t,t <= n->o.take t ∈ Sn n W t:=by
    intro t
    induction t with
    | zero=>intro _;simp[Sn]
    | succ t ih=>
      intro ht
      have ht':t < o.length:=by omega
      refine List.mem_flatMap.mpr ⟨o.take t,ih (by omega),List.mem_map.mpr ⟨o[t],List.mem_filter.mpr ⟨?_,?_⟩,?_⟩⟩
      . exact O.pm.mem_iff.mp (List.getElem_mem ht')
      . have hi:o.idxOf o[t]=t:=nd.idxOf_getElem t ht'
        unfold okK
        rw[Bool.and_eq_true]
        refine⟨decide_eq_true λ z=>?_,decide_eq_true λ p hp e=>?_⟩
        . obtain⟨i,hi2,e⟩:=List.mem_take_iff_getElem.mp z
          have h9:o.idxOf o[i]=i:=nd.idxOf_getElem i (by omega)
          rw[e,hi]at h9
          omega
        . have h1:=O.lt p hp
          rw[e,hi]at h1
          refine List.mem_take_iff_getElem.mpr ⟨o.idxOf p.1,by omega,List.getElem_idxOf (by omega)⟩
      . rw[List.take_append_getElem ht']
  have:=go n (Nat.le_refl _)
  rwa [<- hl,List.take_length,hl]at this
theorem Og(row:List Nat)(k:Nat):(W.filterMap λ p:Nat × Nat=>if p.2=k/\p.1 ∉ row then some (D.im (.int (p.1:Int)))else none)=intD ((W.filter λ p=>decide (p.2=k/\p.1 ∉ row)).map λ p:Nat × Nat=>(p.1:Int)):=by
  induction W with
  | nil=>rfl
  | cons p r ih=>
    by_cases h:p.2=k/\p.1 ∉ row
    . rw[List.filterMap_cons,if_pos h,ih,List.filter_cons,if_pos (decide_eq_true h)];rfl
    . rw[List.filterMap_cons,if_neg h,ih,List.filter_cons,if_neg (by simpa using h)]
theorem Qu(row:List Nat)(k:Nat):(((W.filter λ p=>decide (p.2=k/\p.1 ∉ row)).map λ p:Nat × Nat=>(p.1:Int))=[]) ↔ ∀ p ∈ W,p.2=k->p.1 ∈ row:=by
  rw[List.map_eq_nil_iff,List.filter_eq_nil_iff]
  constructor
  . intro h p hp e
    refine Classical.byContradiction λ z=>h p hp (decide_eq_true ⟨e,z⟩)
  . intro h p hp z
    have z:=of_decide_eq_true z
    exact z.2 (h p hp z.1)
end
section
variable{n:Nat}{W:List (Nat × Nat)}
noncomputable abbrev lsO(n:Nat)(W:List (Nat × Nat))(t:Nat)(z3 z4 z5 z6 z7:Option D):Ls:=[some (.im (.int (n:Int))),some (.im (.tup (W.map Ap))),some (.mu t),z3,z4,z5,z6,z7]
inductive I_in(n:Nat)(W:List (Nat × Nat))(t:Nat)(pre:Hd)(acc:List (List Nat))(row:List Nat)(r:List D)(ls:Ls)(hd:Hd):Prop
  | mk (dn rest:List Nat) (z3 z6 z7:Option D) (h0:List.range n=dn ++ rest) (h1:r=Ab rest) (h2:ls=lsO n W t z3 (some (.mu (t + 1))) (some (AT row)) z6 z7) (h3:hd=pre ++ [.lst ((acc ++ (dn.filter (okK W row)).map λ k=>row ++ [k]).map AT)]):I_in n W t pre acc row r ls hd
inductive I_mid(n:Nat)(W:List (Nat × Nat))(t:Nat)(pre:Hd)(S:List (List Nat))(r:List D)(ls:Ls)(hd:Hd):Prop
  | mk (dn rest:List (List Nat)) (z3 z5 z6 z7:Option D) (h0:S=dn ++ rest) (h1:r=rest.map AT) (h2:ls=lsO n W t z3 (some (.mu (t + 1))) z5 z6 z7) (h3:hd=pre ++ [.lst ((dn.flatMap (GX n W)).map AT)]):I_mid n W t pre S r ls hd
inductive I_out(n:Nat)(W:List (Nat × Nat))(r:List D)(ls:Ls)(hd:Hd):Prop
  | mk (t:Nat) (pre:Hd) (z3 z4 z5 z6 z7:Option D) (h0:t + r.length=n) (h2:ls=lsO n W t z3 z4 z5 z6 z7) (h3:hd=pre ++ [.lst ((Sn n W t).map AT)]) (h4:pre.length=t) (h5:∀ w,pre.all (clO w)=true):I_out n W r ls hd
theorem Mh(w:Nat)(S:List (List Nat)):clO w (.lst (S.map AT))=true:=La w Ae S
theorem SE{pr:Hd}{a b x:MO}{j:Nat}(h:pr.length=j):(pr ++ [a] ++ [b]).set j x=pr ++ [x] ++ [b]:=by
  subst h
  induction pr with
  | nil=>rfl
  | cons y r ih=>exact congrArg (y :: ·) ih
theorem Iu{t:Nat}{pr:Hd}{row:List Nat}{k:Nat}{z3 z7:Option D}{lon:List (List Nat)}{g:Hd}{Q:Fl->Hd->Prop}(hl1:pr.length=t + 1)(hpc1:∀ w,pr.all (clO w)=true)(q:Q (.nx (lsO n W t (Hr (t + 2) z3) (some (.mu (t + 1))) (some (AT row)) (some (.im (.int (k:Int)))) (Hr (t + 2) z7))) (pr ++ [.lst (lon.map AT)])) :
    ((pr ++ [MO.lst (lon.map AT)] ++ g).take (t + 2)).all (clO (t + 2))=true/\∃ f',Ex (t + 2) (.nx (lsO n W t z3 (some (.mu (t + 1))) (some (AT row)) (some (.im (.int (k:Int)))) z7))=some f'/\Q f' ((pr ++ [MO.lst (lon.map AT)] ++ g).take (t + 2)):=by
  have hlen:(pr ++ [MO.lst (lon.map AT)]).length=t + 2:=by simp[hl1]
  rw[List.take_left' hlen]
  refine⟨?_,_,?_,q⟩
  . rw[List.all_append,hpc1];simp only[List.all_cons,List.all_nil,Mh,Bool.and_self]
  . show some (Fl.nx (Ew _ _))=_
    rw[PL]
    simp only[List.map_cons,List.map_nil]
    have m1:clD (t + 2) (.mu t)=true:=by simp[clD]
    have m2:clD (t + 2) (.mu (t + 1))=true:=by simp[clD]
    rw[E6 (d:=.im (.int (n:Int))) rfl,E6 (d:=.im (.tup (W.map Ap))) rfl,E6 m1,E6 m2,E6 (d:=AT row) rfl,E6 (d:=.im (.int (k:Int))) rfl]
theorem Qa(h5:n <= 5)(hW:W.length <= 16):WF Eu [.im (.int (n:Int)),.im (.tup (W.map Ap))] [] λ d x=>d=.mu n/\x[n]? = some (.lst ((Sn n W n).map AT)):=by
  unfold Eu
  refine BQ rfl ?_
  refine AY (Aw (Cl (Dq (A9 (FR (AM ⟨Ag (by simp),AM ⟨Ag (by simp),AH ?_⟩⟩))))))
  refine AY (EC (HN (A9 (A5 rfl (AM ⟨_,rfl,Dk (by omega) (by omega),?_⟩)))))
  rw[Int.toNat_natCast,DI]
  refine C6 (I_out n W) ⟨0,[],none,none,none,none,none,by simp[Ab],rfl,rfl,rfl,λ _=>rfl⟩ ?_ ?_
  . rintro d r ls hd ⟨t,pre,z3,z4,z5,z6,z7,ht,rfl,rfl,hpl,hpc⟩
    simp only[List.length_cons]at ht
    have hSl:=Rx (W:=W) h5 (t:=t) (by omega)
    have hmem:=Lm (n:=n) (W:=W) t
    generalize hS:Sn n W t=S at hSl hmem
    refine⟨lsO n W t (some d) z4 z5 z6 z7,rfl,?_⟩
    refine AY (Aw (Cl (Dq (AM ⟨Ag (by simp),AH ?_⟩))))
    have hl1:(pre ++ [MO.lst (S.map AT)]).length=t + 1:=by simp[hpl]
    rw[hl1]
    change WS _ (lsO n W t (some d) (some (.mu (t + 1))) z5 z6 z7) _ _
    have hg:(pre ++ [MO.lst (S.map AT)])[t]? = some (.lst (S.map AT)):=by
      rw[List.getElem?_append_right (by omega),hpl,Nat.sub_self];rfl
    have hpc1:∀ w,(pre ++ [MO.lst (S.map AT)]).all (clO w)=true:=λ w=>by
      rw[List.all_append,hpc w];simp only[List.all_cons,List.all_nil,Mh,Bool.and_self]
    generalize hq:pre ++ [MO.lst (S.map AT)]=pr at hl1 hg hpc1
    have gk:∀ g,GOk (pr ++ g) [(t,S.map AT)]:=λ g q hq=>by
      rw[List.mem_singleton]at hq;subst hq
      exact Il hg g
    refine AY (EC (KM (A5 rfl ⟨t,S.map AT,rfl,Il hg _,?_⟩)))
    refine C6 (I_mid n W t pr S) ⟨[],S,some d,z5,z6,z7,rfl,rfl,rfl,rfl⟩ ?_ ?_
    . rintro d2 r2 ls hd ⟨dn,rest,z3,z5,z6,z7,e1,er,rfl,rfl⟩
      cases rest with
      | nil=>cases er
      | cons row rest=>
        obtain⟨rfl,rfl⟩:=List.cons.inj er
        obtain⟨rl,_,rlt,_⟩:=hmem row (by rw[e1];simp)
        have hacc:=MZ (n:=n) (W:=W) dn
        have hdn:dn.length <= 3125:=by have:=congrArg List.length e1;simp at this;omega
        have hacc:(dn.flatMap (GX n W)).length <= 15625:=Nat.le_trans hacc (Nat.le_trans (Nat.mul_le_mul hdn h5) (by decide))
        generalize hA:dn.flatMap (GX n W)=acc at hacc
        refine⟨lsO n W t z3 (some (.mu (t + 1))) (some (AT row)) z6 z7,rfl,?_⟩
        refine EC (HN (A9 (A5 rfl (AM ⟨_,rfl,Dk (by omega) (by omega),?_⟩))))
        rw[Int.toNat_natCast,DI]
        refine C6 (I_in n W t pr acc row) ⟨[],List.range n,z3,z6,z7,rfl,rfl,rfl,by simp⟩ ?_ ?_
        . rintro d3 r3 ls hd ⟨dk,rk,z3,z6,z7,f1,fr,rfl,rfl⟩
          cases rk with
          | nil=>cases fr
          | cons k rk=>
            obtain⟨rfl,rfl⟩:=List.cons.inj fr
            have hdk:dk.length <= 5:=by have:=congrArg List.length f1;simp at this;omega
            have hlon:(acc ++ (dk.filter (okK W row)).map λ k=>row ++ [k]).length <= 15630:=by
              rw[List.length_append,List.length_map]
              have:=List.length_filter_le (okK W row) dk
              omega
            generalize hL:(acc ++ (dk.filter (okK W row)).map λ k=>row ++ [k])=lon at hlon
            refine⟨lsO n W t z3 (some (.mu (t + 1))) (some (AT row)) (some (.im (.int (k:Int)))) z7,rfl,?_⟩
            have hlen:(pr ++ [MO.lst (lon.map AT)]).length=t + 2:=by simp[hl1]
            have e7:(pr ++ [MO.lst (lon.map AT)])[t + 1]? = some (.lst (lon.map AT)):=by
              rw[List.getElem?_append_right (by omega),hl1,Nat.sub_self];rfl
            have ein:∀ x:Hd,B2 x (AT row)=some (intD (row.map λ k:Nat=>(k:Int))):=λ x=>by
              rw[EE,DL,VN]
            have mi:∀ j:Nat,(j:Int) ∈ row.map (λ k:Nat=>(k:Int)) ↔ j ∈ row:=λ j=>by
              constructor
              . intro h
                obtain⟨i,hi,e⟩:=List.mem_map.mp h
                have:i=j:=by omega
                exact this ▸ hi
              . intro h;exact List.mem_map.mpr ⟨j,h,rfl⟩
            refine HL ?_
            rw[hlen]
            refine AY (Aw (Cl (C3 (Ed (A5 rfl ⟨_,rfl,?_⟩)))))
            rw[show(W.map Ap).map D.im=W.map (λ p=>D.im (Ap p)) by rw[List.map_map];rfl]
            refine⟨Ag (by simp;omega),?_⟩
            refine Cn (λ p:Nat × Nat=>D.im (Ap p)) (λ p=>if p.2=k/\p.1 ∉ row then some (.im (.int (p.1:Int)))else none) (λ _ ls=>∃ x y,ls=[some x,some y,some (.im (.int (k:Int))),some (AT row)]) _ (AZ _) ?_ ?_
            . rintro p hp ls hls
              refine⟨[some (.im (.int (p.1:Int))),some (.im (.int (p.2:Int))),some (.im (.int (k:Int))),some (AT row)],by rcases hls with rfl|⟨_,x,y,rfl⟩ <;> rfl,⟨_,_,rfl⟩,GH (BG (Ad (A5 rfl (A5 rfl (GI ⟨_,rfl,?_⟩)))))⟩
              by_cases h:p.2=k
              . rw[if_pos (by simp[h])]
                refine BG (Ad (A5 rfl (A5 rfl (KL (ein _) ⟨_,rfl,rfl,?_⟩))))
                by_cases h2:p.1 ∈ row
                . rw[if_neg (by rw[if_pos rfl,decide_eq_true ((mi _).mpr h2)];decide)];simp[h2]
                . rw[if_pos (by rw[if_pos rfl,Bool.not_eq_true'];exact decide_eq_false (λ z=>h2 ((mi _).mp z)))]
                  exact⟨_,if_pos ⟨h,h2⟩,A5 rfl ⟨rfl,rfl⟩⟩
              . rw[if_neg (by simp;omega)]
                refine⟨rfl,?_⟩
                rw[if_neg Bool.false_ne_true];simp[h]
            rw[Og,hlen]
            refine AH ?_
            have fok:=Qu (W:=W) row k
            generalize ((W.filter λ p=>decide (p.2=k/\p.1 ∉ row)).map λ p:Nat × Nat=>(p.1:Int))=es at fok
            change WS _ (lsO n W t z3 (some (.mu (t + 1))) (some (AT row)) (some (.im (.int (k:Int)))) (some (.mu (t + 2)))) _ _
            have e8:(pr ++ [MO.lst (lon.map AT)] ++ [MO.lst (intD es)])[t + 2]? = some (.lst (intD es)):=by
              rw[List.getElem?_append_right (by omega),hlen,Nat.sub_self];rfl
            have e9:pyD (pr ++ [MO.lst (lon.map AT)] ++ [MO.lst (intD es)]) (.mu (t + 2))=some (.list (es.map PyData.int)):=by
              simp only[pyD,e8];simp[intD,GC,Fy]
            have no:okK W row k=false->(acc ++ ((dk ++ [k]).filter (okK W row)).map λ k=>row ++ [k])=lon:=λ h=>by
              rw[<- hL,List.filter_append];simp[h]
            have yes:okK W row k=true->(acc ++ ((dk ++ [k]).filter (okK W row)).map λ k=>row ++ [k])=lon ++ [row ++ [k]]:=λ h=>by
              rw[<- hL,List.filter_append];simp[h]
            have f1':List.range n=(dk ++ [k]) ++ rk:=by rw[f1];simp
            refine Ca (GH (BG (Ad (A5 rfl (A5 rfl (KL (ein _) ⟨_,rfl,?_⟩))))))
            by_cases h1:k ∈ row
            . rw[if_neg (by rw[if_pos rfl,decide_eq_true ((mi _).mpr h1)];decide)]
              refine⟨λ h=>(by cases h),λ _=>BO (Iu hl1 hpc1 ?_)⟩
              refine⟨AZ _,dk ++ [k],rk,_,_,_,f1',rfl,rfl,?_⟩
              rw[no (by simp[okK,h1])]
            . rw[if_pos (by rw[if_pos rfl,Bool.not_eq_true'];exact decide_eq_false (λ z=>h1 ((mi _).mp z)))]
              refine BG (Fo (A5 rfl ⟨es,e9,_,rfl,λ h=>?_,λ h=>?_⟩))
              . have h:es=[]:=by simpa using h
                have hk:okK W row k=true:=by
                  unfold okK;rw[Bool.and_eq_true];exact⟨decide_eq_true h1,decide_eq_true (fok.mp h)⟩
                refine EU (Gm (A5 rfl ⟨⟨lon.map AT,by simp only[Ax,Il e7]⟩,A9 (Ad (A5 rfl (FR (A9 (A5 rfl (AM ⟨Ag (by simp),?_⟩))))))⟩))
                refine S4 (is:=row.map λ k:Nat=>I.int (k:Int)) (js:=[.int (k:Int)]) (by simp;omega) (AM (Ec (Il e7 _) (Bk (by simp;omega)) ?_))
                have eset:(pr ++ [MO.lst (lon.map AT)] ++ [MO.lst (intD es)]).set (t + 1) (.lst (lon.map AT ++ [.im (.tup ((row.map λ k:Nat=>I.int (k:Int)) ++ [.int (k:Int)]))]))=pr ++ [MO.lst ((lon ++ [row ++ [k]]).map AT)] ++ [MO.lst (intD es)]:=by
                  rw[SE hl1]
                  simp
                rw[eset]
                refine Iu hl1 hpc1 ?_
                refine⟨AZ _,dk ++ [k],rk,_,_,_,f1',rfl,rfl,?_⟩
                rw[yes hk]
              . have h:es ≠ []:=by simpa using h
                refine BO (Iu hl1 hpc1 ?_)
                refine⟨AZ _,dk ++ [k],rk,_,_,_,f1',rfl,rfl,?_⟩
                rw[no ?_]
                unfold okK
                rw[Bool.and_eq_false_iff]
                exact .inr (decide_eq_false λ z=>h (fok.mpr z))
        . rintro ls hd ⟨dk,rk,z3,z6,z7,f1,fr,rfl,rfl⟩
          have:rk=[]:=by cases rk with
            | nil=>rfl
            | cons t r=>cases fr
          subst this
          rw[List.append_nil]at f1
          subst f1
          refine⟨gk _,dn ++ [row],rest,_,_,_,_,by rw[e1];simp,rfl,rfl,?_⟩
          rw[List.flatMap_append,hA]
          simp[GX]
    . rintro ls hd ⟨dn,rest,z3,z5,z6,z7,e1,er,rfl,rfl⟩
      have:rest=[]:=by cases rest with
        | nil=>rfl
        | cons t r=>cases er
      subst this
      rw[List.append_nil]at e1
      subst e1
      refine AH (Aw (A5 rfl ⟨AZ _,t + 1,pr,_,_,_,_,_,by omega,rfl,?_,hl1,hpc1⟩))
      rw[Sn,hS]
  . rintro ls hd ⟨t,pre,z3,z4,z5,z6,z7,ht,rfl,rfl,hpl,hpc⟩
    simp only[List.length_nil,Nat.add_zero]at ht
    subst ht
    refine AH (BW (A5 rfl ⟨rfl,?_⟩))
    rw[List.getElem?_append_right (by omega),hpl,Nat.sub_self];rfl
end
theorem JV{F:List D->Hd->Option (D × Hd)}{m:MA}{ls:Ls}{hd:Hd}{QE:D->Hd->Prop}(h:WA m ls hd λ ds rest=>BB 0 ds=true/\WF F ds [] λ d x=>∃ k es,d=.mu k/\x[k]? = some (.lst es)/\BB 0 es=true/\QE (.mu rest.length) (rest ++ [.lst es])):WE (AC 0 F m) ls hd QE:=by
  obtain⟨ds,rest,e,hc,d,x,e2,k,es,rfl,e3,c3,q⟩:=h
  refine⟨_,_,?_,q⟩
  have t3:¬ k < 0:=by omega
  simp only[AC,e,Option.bind_some,List.take_zero,hc,e2,fin,if_neg t3,e3,c3,if_true]
  simp
theorem PB:EZ [] []=some (.mu 0,[W5]):=by simp[EZ,mkF]
theorem MK(S:List I):I.pys S=S.map I.py:=by
  induction S with
  | nil=>rfl
  | cons x r ih=>simp[I.pys,ih]
theorem allIm_map{α:Type}(f:α->I)(S:List α):Bj (S.map λ s=>D.im (f s))=some (S.map f):=by
  induction S with
  | nil=>rfl
  | cons x r ih=>simp[Bj,ih]
theorem lay_ints(ns:List Int):PyData.canLayAll0 (ns.map PyData.int)=true:=by
  induction ns with
  | nil=>rfl
  | cons x r ih=>simp[PyData.canLayAll0,PyData.canLay0]at ih ⊢;try exact ih
theorem JC(o:List Nat):(Ae o).py=.tuple ((o.map λ k:Nat=>(k:Int)).map PyData.int):=by
  show PyData.tuple (I.pys (o.map λ k:Nat=>I.int (k:Int)))=_
  rw[MK,List.map_map,List.map_map];rfl
theorem Qx(ns:List Int):PyData.depthAll (ns.map PyData.int) <= 1:=by
  induction ns with
  | nil=>simp[PyData.depthAll]
  | cons x r ih=>simp[PyData.depthAll,PyData.depth]at ih ⊢;try omega
theorem Qk(S:List (List Nat)):PyData.canLayAll0 (S.map λ s=>(Ae s).py)=true:=by
  induction S with
  | nil=>rfl
  | cons x r ih=>
    rw[List.map_cons,PyData.canLayAll0,ih,JC,PyData.canLay0,lay_ints];rfl
theorem S2{hd:Hd}{j:Nat}{S:List (List Nat)}{o:List Nat}{QE:D->Hd->Prop}(e:hd[j]? = some (.lst (S.map AT)))(h:o ∈ S)(q:QE (.im (.bl false)) hd):WP (Ia (AT o) (.mu j) hd) QE:=by
  refine⟨_,_,?_,q⟩
  have e1:pyD hd (.mu j)=some (.list (S.map λ s=>(Ae s).py)):=by
    simp only[pyD,e]
    rw[show S.map AT=S.map λ s=>D.im (Ae s)from rfl,allIm_map,Option.map_some,MK,List.map_map];rfl
  have c1:(Ae o).py.canLay0=true:=by rw[JC,PyData.canLay0,lay_ints]
  have c3:(Ae o).py.depth <= 40:=by
    rw[JC,PyData.depth]
    have:=Qx (o.map λ k:Nat=>(k:Int))
    omega
  have c4:((S.map λ s=>(Ae s).py).any λ z=>PyData.eqv z (Ae o).py)=true:=List.any_eq_true.mpr ⟨(Ae o).py,List.mem_map.mpr ⟨o,h,rfl⟩,PySem.SeqAt.eqv_refl _ c1⟩
  unfold Ia
  simp only[e1,Option.bind_some,c1,Qk,c3,and_self,if_true,c4]
  rfl
section
variable{ws:List Wg}{c:Int}{cs:Nat->Cost}{W:List (Nat × Nat)}{rk:Nat->Nat}
theorem WJ(E:Ev ws c cs W rk){o:List Nat}{k:Nat}(hk:k < ws.length):(cs k).at (En c (AJ ws) o k) <= gr ws.length c (AJ ws) cs o:=
  (Br (xs:=(List.range ws.length).map λ k=>(cs k).at (En c (AJ ws) o k)) (List.ne_nil_of_mem (List.mem_map.mpr ⟨k,by simpa using hk,rfl⟩))).2 _ (List.mem_map.mpr ⟨k,by simpa using hk,rfl⟩)
theorem Tn(E:Ev ws c cs W rk){o:List Nat}{ss:List (List Nat)}{s:List Nat}(hm:Made ws.length c (AJ ws) cs W o ss)(hco:co ws.length o=[])(hs:s ∈ ss)(hst:∀ s ∈ ss,St ws W s)(hb:∀ s' ∈ ss,bd c (AJ ws) cs W s' <= bd c (AJ ws) cs W s) :
    Ord ws.length W o/\gr ws.length c (AJ ws) cs o=bd c (AJ ws) cs W s/\Dd ((Sn ws.length W ws.length).map (gr ws.length c (AJ ws) cs))=bd c (AJ ws) cs W s:=by
  have O:=hm.ord (λ p hp=>E.R.ins p hp) hco
  have S:=hst s hs
  have nd:s.Nodup:=by
    obtain⟨r,e,_⟩:=hm.sets s hs
    rw[e];exact List.nodup_range.filter _
  have low:∀ o',Ord ws.length W o'->bd c (AJ ws) cs W s <= gr ws.length c (AJ ws) cs o':=λ o' O'=>by
    obtain⟨v,hv,h1⟩:=WG E.R (c:=c) E.ln (λ k hk=>(E.hcs k hk).2.1) O' S.ne nd S.lt
    exact Int.le_trans h1 (WJ E (S.lt v hv))
  have h0:=E.ok.1
  have up:gr ws.length c (AJ ws) cs o <= bd c (AJ ws) cs W s:=by
    have ms:=(Br (xs:=(List.range ws.length).map λ k=>(cs k).at (En c (AJ ws) o k)) (List.ne_nil_of_mem (List.mem_map.mpr ⟨0,List.mem_range.mpr (by omega),rfl⟩))).1
    obtain⟨k,hk,ek⟩:=List.mem_map.mp ms
    obtain⟨s',hs',e⟩:=hm.cost O.pm (by simpa using hk:k < ws.length)
    have h2:=hb s' hs'
    unfold gr
    rw[<- ek]
    try dsimp only
    rw[e];exact h2
  have eg:=Int.le_antisymm up (low o O)
  refine⟨O,eg,?_⟩
  have hin:gr ws.length c (AJ ws) cs o ∈ (Sn ws.length W ws.length).map (gr ws.length c (AJ ws) cs):=List.mem_map.mpr ⟨o,OJ O,rfl⟩
  have ms:=Dn (List.ne_nil_of_mem hin)
  have g1:=ms.2 _ hin
  obtain⟨o',ho',e'⟩:=List.mem_map.mp ms.1
  have g2:=low o' (P5 (λ p hp=>E.R.ins p hp) ho')
  rw[e']at g2
  omega
inductive I_least(ws:List Wg)(c:Int)(cs:Nat->Cost)(S:List (List Nat))(H:Hd)(r es:List D)(ls:Ls)(hd:Hd):Prop
  | mk (dn rest:List (List Nat)) (g:Hd) (z:Option D) (h0:S=dn ++ rest) (h1:r=rest.map AT) (h2:es=intD (dn.map (gr ws.length c (AJ ws) cs))) (h3:ls=[z,some (.im (As ws))]) (h4:hd=H ++ g):I_least ws c cs S H r es ls hd
theorem grE(E:Ev ws c cs W rk){o:List Nat}(O:Ord ws.length W o){ls:Ls}{hd:Hd}{i j:Nat}(e1:ls[i]? = some (some (.im (As ws))))(e2:ls[j]? = some (some (AT o))){QE:D->Hd->Prop}(q:∀ g,QE (.im (.int (gr ws.length c (AJ ws) cs o))) (hd ++ g)) :
    WE (E1 CZ (A2 (A0 i) (A2 (AC 0 CY (A2 (A0 i) (A2 (A0 j) A6))) A6))) ls hd QE:=by
  refine E4 (A9 (A5 e1 (A9 (JV (A9 (A5 e1 (A9 (A5 e2 (AM ⟨by simp,(Vl E O).mono ?_⟩)))))))))
  rintro d x ⟨rfl,rfl⟩
  refine⟨0,_,rfl,rfl,Jn _ _,AM ((Wo E (o:=o) ?_).mono ?_)⟩
  . rw[List.getElem?_append_right (Nat.le_refl _),Nat.sub_self];rfl
  . rintro d x ⟨rfl,rfl⟩
    exact q _
end
inductive I_law(ns:List Int)(r:List D)(ls:Ls)(hd:Hd):Prop
  | mk (a b:MO) (z2 z3 z4 z5 z6 z7 z8:Option D) (h0:ls=[some (.ro ns),some (.mu 1),z2,z3,z4,z5,z6,z7,z8]) (h1:hd=[a,b]) (h2:T (500 * r.length) a b):I_law ns r ls hd
set_option maxHeartbeats 4000000 in
theorem WH(ns:List Int):WF F_law [.ro ns] [] λ d x=>d=.im (.bl true):=by
  unfold F_law
  refine BQ rfl ?_
  refine AY (Aw (E4 (A9 (A5 rfl (AM ((VO ns).mono ?_))))))
  rintro d x ⟨rfl,a,b,hT,rfl⟩
  refine AH ?_
  refine AY (EC (HN (A9 (BP (AM ⟨_,rfl,Dk (by decide) (by decide),?_⟩)))))
  refine C6 (I_law ns) ⟨a,b,none,none,none,none,none,none,none,rfl,rfl,tap.le hT (by simp)⟩ ?_ ?_
  . rintro d r ls hd ⟨a,b,z2,z3,z4,z5,z6,z7,z8,rfl,rfl,hT⟩
    simp only[List.length_cons]at hT
    have hT:T (500 * r.length + 200 + 300) a b:=tap.le hT (by omega)
    refine⟨_,rfl,?_⟩
    dsimp only[List.set_cons_zero,List.set_cons_succ]
    refine HL ?_
    refine AY (Aw ?_)
    have ew:∀ ls:Ls,AC 0 EZ A6 ls [a,b]=some (.mu 2,[a,b,W5]):=λ ls=>Nk (ds:=[]) (hd1:=[a,b]) rfl rfl PB rfl rfl
    refine tap.callX (n:=500 * r.length + 200) (c:=300) hT [W5,V4] (rest:=[]) (as:=[.im (.int 5),.mu 2,.mu 3]) (by simp[ew]) rfl rfl rfl (S6 _) ?_
    rintro i a b hT ⟨ws,c,rfl,hok0,hl5,hcom⟩
    refine AH ?_
    change WS _ [some (.ro ns),some (.mu 1),some d,some (.im (As ws)),z4,z5,z6,z7,z8] [a,b,W5,V4] _
    refine AY (Aw ?_)
    have hT:T (500 * r.length + 100 + 100) a b:=hT
    refine tap.call (n:=500 * r.length + 100) (c:=100) hT (as:=[.im (.int (ws.length:Int))]) (rest:=[W5,V4]) (by simp[Ci]) rfl (PD _ ws.length hok0.2.1) ?_
    rintro i a b hT ⟨seq,ps,rfl,pm,al,hW⟩
    obtain⟨W,rfl,R,hrk⟩:=RK pm al
    simp only[List.length_map]at hW
    have eW:(W.map λ p:Nat × Nat=>((p.1:Int),(p.2:Int))).map K7=W.map Ap:=by rw[List.map_map];rfl
    rw[eW]
    have hok:Qb ws:=⟨hok0.1,hok0.2.1,λ w hw=>W0 (hok0.2.2 w hw)⟩
    obtain⟨cs,hcs⟩:=WR hok
    have E:Ev ws c cs W (λ k=>seq.idxOf k):=⟨hok,hl5,hcom,hcs,hW,R,hrk⟩
    clear pm al eW hok0 R hrk
    refine AH ?_
    change WS _ [some (.ro ns),some (.mu 1),some d,some (.im (As ws)),some (.im (.tup (W.map Ap))),z5,z6,z7,z8] [a,b,W5,V4] _
    refine AY (Ts (B3 (A9 (A5 rfl (A9 (A5 rfl (AM ⟨by simp,(T1 E).mono ?_⟩)))))))
    rintro d2 x2 ⟨o,ss,s,rfl,hm,hco,hs,hst,hb⟩
    obtain⟨O,eg,em⟩:=Tn E hm hco hs hst hb
    refine⟨_,rfl,_,rfl,AH ?_⟩
    change WS _ [some (.ro ns),some (.mu 1),some d,some (.im (As ws)),some (.im (.tup (W.map Ap))),some (AT o),some (AT s),z7,z8] [a,b,W5,V4] _
    refine AY (Aw (JV (A9 (E9 (A9 (A5 rfl (AM (Dp rfl rfl ?_))))))))
    have eln:(((ws.map wgI).map D.im).length:Int)=(ws.length:Int):=by simp
    rw[eln]
    refine A9 (A5 rfl (AM ⟨by simp,(Qa hl5 hW).mono ?_⟩))
    rintro d3 x3 ⟨rfl,e3⟩
    have hSl:=Rx (W:=W) hl5 (t:=ws.length) hl5
    have hin:=OJ O
    have hord:∀ o' ∈ Sn ws.length W ws.length,Ord ws.length W o':=λ o' h=>P5 (λ p hp=>E.R.ins p hp) h
    generalize Sn ws.length W ws.length=S at e3 hSl hin hord em
    refine⟨_,_,rfl,e3,La _ Ae S,AH ?_⟩
    change WS _ [some (.ro ns),some (.mu 1),some d,some (.im (As ws)),some (.im (.tup (W.map Ap))),some (AT o),some (AT s),some (.mu 4),z8] [a,b,W5,V4,.lst (S.map AT)] _
    refine AY (Aw (Cm (C3 (KM (A5 rfl ⟨4,S.map AT,rfl,rfl,Ag (by simp;omega),?_⟩)))))
    refine Vg (I_least ws c cs S [a,b,W5,V4,.lst (S.map AT)]) ⟨[],S,[],none,rfl,rfl,rfl,rfl,rfl⟩ ?_ ?_
    . rintro d4 r4 es ls hd ⟨dn,rest,g,z,e1,er,rfl,rfl,rfl⟩
      cases rest with
      | nil=>cases er
      | cons o' rest=>
        obtain⟨rfl,rfl⟩:=List.cons.inj er
        refine⟨[some (AT o'),some (.im (As ws))],rfl,Do ?_⟩
        rw[if_pos rfl]
        refine grE E (hord o' (by rw[e1];simp)) rfl rfl λ g'=>⟨?_,dn ++ [o'],rest,g ++ g',_,by rw[e1];simp,rfl,by simp[intD],rfl,by simp⟩
        intro q hq;rw[List.mem_singleton]at hq;subst hq;rfl
    rintro es ls hd ⟨dn,rest,g,z,e1,er,rfl,rfl,rfl⟩
    have:rest=[]:=by cases rest with
      | nil=>rfl
      | cons t r=>cases er
    subst this
    rw[List.append_nil]at e1
    subst e1
    refine⟨_,JI (λ z=>by rw[List.map_eq_nil_iff]at z;rw[z]at hin;cases hin),AH ?_⟩
    rw[em]
    change WS _ [some (.ro ns),some (.mu 1),some d,some (.im (As ws)),some (.im (.tup (W.map Ap))),some (AT o),some (AT s),some (.mu 4),some (.im (.int (bd c (AJ ws) cs W s)))] _ _
    refine AY (Ca (Jy (BG (Ad (A5 rfl (A5 rfl (S2 (S:=S) rfl hin ⟨_,rfl,?_⟩)))))))
    rw[if_neg Bool.false_ne_true]
    refine BG (Ad (grE E O rfl rfl λ g'=>A5 rfl (FP ⟨_,rfl,?_⟩)))
    rw[eg]
    refine⟨λ h=>(by simp at h),λ _=>BO (AH ?_)⟩
    refine Ca (BG (Ad (B3 (A9 (A5 rfl (A9 (A5 rfl (A9 (A5 rfl (AM ⟨by simp,(Mk E (hst s hs)).mono ?_⟩))))))))))
    rintro d5 x5 rfl
    refine⟨_,rfl,A5 rfl (FP ⟨_,rfl,λ h=>(by simp at h),λ _=>BO ?_⟩)⟩
    have ca:=tap.cl hT
    exact⟨by simp[ca.1,ca.2],_,rfl,AZ _,a,b,_,_,_,_,_,_,_,rfl,rfl,tap.le hT (by omega)⟩
  . rintro ls hd ⟨a,b,z2,z3,z4,z5,z6,z7,z8,rfl,rfl,hT⟩
    exact AH (BW (BP rfl))
theorem law_eq(ns:List Int):∃ hd,F_law [.ro ns] []=some (.im (.bl true),hd):=by
  obtain⟨d,x,e,rfl⟩:=WH ns
  exact⟨x,e⟩
end T28
namespace L2
open PySem PySem.Spec PyProof.Rows PySem.W
noncomputable abbrev Tb:=Addr × Str × Nat × Nat
noncomputable def TD(ts:List Tb):Obj:={ cls:=.str "tables" 0,data:=.fields (ts.flatMap λ t=>[.ref t.1,.str t.2.1 0,.int t.2.2.1 0,.int t.2.2.2 0]).toArray }
noncomputable def Aa(K:PySem.W.Frag)(ts:List Tb):PySem.W.Frag:=(K.filter λ p=>!(ts.map (·.1)).contains p.1) ++ [(mainGlobals,TD ts)]
theorem Nw:∀ ts:List Tb,K2 (ts.flatMap λ t=>[Value.ref t.1,.str t.2.1 0,.int t.2.2.1 0,.int t.2.2.2 0])=ts.map λ t=>(t.1,t.2.1,⟨t.2.2.1,t.2.2.2,0,0⟩)
  | []=>rfl
  | t :: r=>by
    rw[List.flatMap_cons,List.map_cons,<- Nw r]
    rfl
theorem Ey(K:PySem.W.Frag)(ts:List Tb):Dr (Aa K ts)=ts.map λ t=>(t.1,t.2.1,⟨t.2.2.1,t.2.2.2,0,0⟩):=by
  unfold Dr Aa
  rw[List.getLast?_concat]
  show K2 _=_
  rw[<- Nw ts]
theorem FL{L:List Addr}{a:Addr}(ha:a ∉ L):∀ K:PySem.W.Frag,(K.filter λ p=>!L.contains p.1).lookup a=K.lookup a
  | []=>rfl
  | (b,o) :: r=>by
    have ih:=FL ha r
    rw[List.filter_cons]
    by_cases hb:b ∈ L
    . have h1:(!L.contains (b,o).1)=false:=by simp[hb]
      have h2:(a == b)=false:=beq_eq_false_iff_ne.mpr λ z=>ha (z ▸ hb)
      rw[if_neg (by rw[h1];decide),List.lookup_cons,h2,ih]
    . have h1:(!L.contains (b,o).1)=true:=by simp[hb]
      rw[if_pos h1,List.lookup_cons,List.lookup_cons,ih]
theorem GS{L:List Addr}{P:Addr}(hP:P ∈ L):∀ K:PySem.W.Frag,(K.filter λ p=>!L.contains p.1).lookup P=none
  | []=>rfl
  | (b,o) :: r=>by
    have ih:=GS hP r
    rw[List.filter_cons]
    by_cases hb:b ∈ L
    . rw[if_neg (by simp[hb])];exact ih
    . have h2:(P == b)=false:=beq_eq_false_iff_ne.mpr λ z=>hb (z ▸ hP)
      rw[if_pos (by simp[hb]),List.lookup_cons,h2];exact ih
section
variable{K:PySem.W.Frag}{ts:List Tb}
theorem GO{a:Addr}{o:Obj}(ha:a ∉ ts.map (·.1))(e:K.lookup a=some o):(Aa K ts).lookup a=some o:=by
  unfold Aa
  rw[List.lookup_append,FL ha,e];rfl
theorem TC{h:Heap}(X:K.In h){g:Obj}(hg:K.lookup mainGlobals=some g)(hP:mainGlobals ∉ ts.map (·.1)):(Aa K ts).In h:=λ a o e=>by
  unfold Aa at e
  rw[List.lookup_append]at e
  by_cases ha:a ∈ ts.map (·.1)
  . rw[GS ha,Option.none_or]at e
    have h2:(a == mainGlobals)=false:=beq_eq_false_iff_ne.mpr λ z=>hP (z ▸ ha)
    rw[List.lookup_cons,h2]at e;cases e
  . rw[FL ha]at e
    cases k:K.lookup a with
    | some o'=>rw[k]at e;cases e;exact X _ _ k
    | none=>
      rw[k,Option.none_or,List.lookup_cons]at e
      by_cases hm:a=mainGlobals
      . subst hm;rw[hg]at k;cases k
      . rw[beq_eq_false_iff_ne.mpr hm]at e;cases e
theorem TB(hM:mainGlobals ∉ ts.map (·.1)){P:Addr}(hP:P ∈ ts.map (·.1)):(Aa K ts).lookup P=none:=by
  unfold Aa
  have h2:(P == mainGlobals)=false:=beq_eq_false_iff_ne.mpr λ z=>hM (z ▸ hP)
  rw[List.lookup_append,GS hP,Option.none_or,List.lookup_cons,h2]
  rfl
theorem Fun.mark{x:Str}{st:Stmt}{f:Addr}{fd:FuncData}(D:Fun K x x st f fd){h:Heap}(X:K.In h)(hP:∀ P ∈ ts.map (·.1),h.get? P=some (tabObj #[])):Fun (Aa K ts) x x st f fd:=by
  have neP:∀ a o,K.lookup a=some o->o ≠ tabObj #[]->a ∉ ts.map (·.1):=λ a o e n z=>by
    have:=X _ _ e
    rw[hP a z]at this;exact n (Option.some.inj this).symm
  obtain⟨⟨oc,od,kV,doc,pm,an,cdv,ct,osl,rfl,lk,hcd⟩,kp⟩:=D
  have hf:f ∉ ts.map (·.1):=neP f _ lk (λ z=>by cases z)
  refine⟨⟨oc,od,kV,doc,pm,an,cdv,ct,osl,rfl,GO hf lk,?_⟩,?_⟩
  . unfold codeIn at hcd ⊢
    split at hcd
    . next c0=>
      split at hcd
      . next vs sl k=>
        have hc:c0 ∉ ts.map (·.1):=neP c0 _ k (λ z=>by
          have:vs=#[]:=by injection z with _ _ z _;injection z
          rw[this]at hcd;cases hcd)
        simp only[GO hc k]
        exact hcd
      . cases hcd
    . cases hcd
  . unfold keepIn
    simp only[GO hf lk]
end
theorem Vo{K:PySem.W.Frag}{H:Hp}{a:Addr}{xs:List V}(hS:SqL K H a xs)(hO:∀ ys,H a ≠ some (.lst ys)):RoL K H a xs:=by
  rcases hS with(h|h)|h
  . exact absurd h (hO xs)
  . exact .inl h
  . exact .inr h
theorem OY{Pg:Program}{w:World}{K:PySem.W.Frag}{mg mb:Str->Option Value}{k:Nat}{fa a:Addr}{fd:FuncData}{x:Str}{ts:List Tb}{s₁:Shared}{vs:List Value}{ns:List Int}{F:List D->Hd->Option (D × Hd)}
    (KX:K.In s₁.heap) (hns:s₁.heap.Ns mainGlobals mg) (hb:s₁.heap.Ns builtinsNs mb) (hbb:∀ x:Str,x ≠ "__name__"->mb x=bootBuiltins x) (hlim:s₁.heap.NoLimit) (hg:s₁.gens=#[])
    (ha:s₁.heap.get? a=some { cls:=.type "list",data:=.seq vs.toArray }) (hi:IntsAre vs ns) (hl:ns.length <= sizeLine) (hr:Room k callerA)
    (hT:∀ P ∈ ts.map (·.1),∃ cc,s₁.heap.TableAt cc P #[]) (hPK:∀ P ∈ ts.map (·.1),K.lookup P=none) (htab:Dr K=ts.map λ t=>(t.1,t.2.1,⟨t.2.2.1,t.2.2.2,0,0⟩))
    (Fn:∀ base:Heap,K.In base->base.Ns mainGlobals mg->(∀ b o,b ∉ ts.map (·.1)->b ≠ a->s₁.heap.get? b=some o->base.get? b=some o)->FnOk Pg w K mg base CX0 k fa fd [x] (spF K 1 F)) (hbind:∀ (s:Shared) (u:Value),BindsTo s fd ⟨[u],[]⟩ [(x,u)])
    (hF:∃ hd',F [.ro ns] []=some (.im (.bl true),hd')) :
    codeAny (model Pg w) callerA (.call (.ref fa) ⟨[.ref a],[]⟩) (λ r s'=>r=.ok (.ret (.bool true))/\OldK s₁.heap s'.heap/\s'.os=s₁.os/\AllBare s'.gens) s₁:=by
  have rv:=JW hi
  have lenV:=hi.length
  have hP:∀ P ∈ ts.map (·.1),s₁.heap.get? P=some (tabObj #[]):=λ P h=>let ⟨cc,t⟩:=hT P h;t.2
  have haP:a ∉ ts.map (·.1):=λ z=>by rw[hP a z]at ha;cases ha
  have core:∀ H:Hp,(∀ b,b ∉ ts.map (·.1)->H b=none ∨ ∃ o xs,H b=some (.frz o (.lst xs)))->(∀ P ∈ ts.map (·.1),H P=some (.tbl #[]))->SqL K H a (ns.map V.int)->HOk Pg w H s₁.heap->(∀ b,H b ≠ none->b=a ∨ b ∈ ts.map (·.1))->(H a ≠ none->K.lookup a=none) ->
      codeAny (model Pg w) callerA (.call (.ref fa) ⟨[.ref a],[]⟩) (λ r s'=>r=.ok (.ret (.bool true))/\OldK s₁.heap s'.heap/\s'.os=s₁.os/\AllBare s'.gens) s₁:=by
    intro H hO hHP hS hok hA hK
    have base_of:∀ {b:Addr} {o:Obj},s₁.heap.get? b=some o->H b=none->(G5 s₁.heap H).get? b=some o:=λ e n=>Qp e n
    have noA:∀ {b:Addr} {o:Obj} {es:Array DictEntry} {ep:Nat},s₁.heap.get? b=some o->o.data=.dict es ep->H b=none:=λ {b o es ep} e d=>by
      cases q:H b with
      | none=>rfl
      | some u=>
        rcases hA b (by rw[q];simp)with e'|e'
        . subst e'
          rw[ha]at e;cases e
          have d':Data.seq vs.toArray _=Data.dict es ep:=d
          cases d'
        . rw[hP b e']at e;cases e
          cases d
    have nsK:∀ {b:Addr} {m:Str->Option Value},s₁.heap.Ns b m->(G5 s₁.heap H).Ns b m:=λ {b m} ⟨o,es,ep,e,d,r⟩=>⟨o,es,ep,base_of e (noA e d),d,r⟩
    have hKb:K.In (G5 s₁.heap H):=λ b o e=>base_of (KX b o e) (by
      cases q:H b with
      | none=>rfl
      | some u=>
        rcases hA b (by rw[q];simp)with e'|e'
        . subst e'
          rw[hK (by rw[q];simp)]at e;cases e
        . rw[hPK b e']at e;cases e)
    have hM:Mod K mg (G5 s₁.heap H):=⟨hKb,nsK hns,⟨mb,nsK hb,hbb⟩,let ⟨mc,h1,h2⟩:=hlim;⟨mc,nsK h1,h2⟩⟩
    have e0:Env0 Pg w K mg (G5 s₁.heap H) callerA [] s₁ H:=⟨rfl,hM,λ b o e=>T6 e,Nat.le_of_eq (Oe _ _),trivial,λ b hb=>absurd (show b ∈ ([]:List Addr)from hb) (by simp),hok,.of_eq hg⟩
    have hsp:spF K 1 F [.ref a] H (λ v _=>v=.bl true) λ _ _ _=>False:=by
      obtain⟨hd',e⟩:=hF
      refine⟨rfl,[],[],[.ro ns],.im (.bl true),hd',⟨rfl,List.nodup_nil,λ y hy=>?_,λ n o a h=>by simp at h⟩,?_,e,λ ρ' H' v _ _ r=>?_⟩
      . rw[htab]at hy
        obtain⟨t,ht,rfl⟩:=List.mem_map.mp hy
        exact⟨#[],hHP t.1 (List.mem_map.mpr ⟨t,ht,rfl⟩),.inl rfl⟩
      . simp only[RDs,RD]
        refine⟨_,_,rfl,⟨a,rfl,Vo hS λ ys z=>?_⟩,rfl⟩
        rcases hO a haP with q|⟨o,ys,q⟩ <;> (rw[q]at z;cases z)
      . simpa only[RD,RI]using r
    refine codeAny_mono ((Fn _ hKb (nsK hns) λ b o n1 n2 e=>base_of e (by
      cases q:H b with
      | none=>rfl
      | some u=>
                  rcases hA b (by rw[q];simp)with e'|e'
                  . exact absurd e' n2
                  . exact absurd e' n1)).run callerA [] s₁ H ⟨[.ref a],[]⟩ [.ref a] [.ref a] _ _ hr e0 (hbind s₁ (.ref a)) (.cons rfl .nil) hsp) λ r s' h=>?_
    cases r with
    | error e=>exact h.elim
    | ok fl=>
      cases fl with
      | next=>exact False.elim h
      | brk=>exact False.elim h
      | cont=>exact False.elim h
      | ret u=>
        obtain⟨v,H',os,bare,un,hok',r',q⟩:=h
        have q':v=.bl true:=q
        subst q'
        obtain rfl:u=Value.bool true:=r'
        have keep:∀ b o,b ∉ ts.map (·.1)->s₁.heap.get? b=some o->s'.heap.get? b=some o:=λ b o nb e=>by
          cases q:H b with
          | none=>exact un.keep b o e q (by intro z;exact absurd (show b ∈ ([]:List Addr)from z) (by simp)) (by simp)
          | some u=>
            rcases hO b nb with z|⟨ob,xs,z⟩
            . rw[q]at z;cases z
            . have z2:=un.frzs b ob _ z
              obtain⟨e1,_⟩:=hok b _ z
              obtain⟨e2,_⟩:=hok' b _ z2
              rw[e]at e1;cases e1
              exact e2
        refine⟨rfl,⟨λ b o e=>?_,λ b o e=>?_⟩,os,bare⟩
        . by_cases nb:b ∈ ts.map (·.1)
          . obtain⟨cc,tb⟩:=hT b nb
            obtain⟨more,hm⟩:=un.tbls b #[] (hHP b nb)
            have hb':s'.heap.get? b=some (tabObj (#[] ++ more)):=hok' b _ hm
            rw[hP b nb]at e;cases e
            exact .inr (.inl ⟨tb.isCodeTable,rfl,#[],more,rfl,hb'⟩)
          . exact .inl (keep b o nb e)
        . by_cases nb:b ∈ ts.map (·.1)
          . obtain⟨more,hm⟩:=un.tbls b #[] (hHP b nb)
            exact⟨_,hok' b _ hm⟩
          . exact⟨o,keep b o nb e⟩
  cases hk:K.lookup a with
  | some o=>
    have e:=KX a o hk
    rw[ha]at e
    cases e
    refine core (λ b=>if b ∈ ts.map (·.1)then some (.tbl #[])else none) (λ b nb=>.inl (if_neg nb)) (λ P hp=>if_pos hp) (.inr ⟨_,vs.toArray,_,hk,rfl,rfl,rfl,by rw[List.size_toArray,lenV];exact hl,by simpa using rv⟩) (λ b u z=>?_) (λ b z=>?_) λ z=>absurd (if_neg haP) z
    . by_cases hb:b ∈ ts.map (·.1)
      . have z':=(if_pos hb).symm.trans z
        cases z'
        exact hP b hb
      . have z':=(if_neg hb).symm.trans z
        cases z'
    . by_cases hb:b ∈ ts.map (·.1)
      . exact .inr hb
      . exact absurd (if_neg hb) z
  | none=>
    refine core (λ b=>if b ∈ ts.map (·.1)then some (.tbl #[])else if b=a then some (.frz { cls:=.type "list",data:=.seq vs.toArray } (.lst (ns.map V.int)))else none) (λ b nb=>?_) (λ P hp=>if_pos hp) (.inl (.inr ⟨{ cls:=.type "list",data:=.seq vs.toArray },(if_neg haP).trans (if_pos rfl)⟩)) (λ b u z=>?_) (λ b z=>?_) λ _=>hk
    . rw[if_neg nb]
      by_cases hb:b=a
      . exact .inr ⟨_,_,if_pos hb⟩
      . exact .inl (if_neg hb)
    . by_cases hp:b ∈ ts.map (·.1)
      . have z':=(if_pos hp).symm.trans z
        cases z'
        exact hP b hp
      . have z:=(if_neg hp).symm.trans z
        by_cases hb:b=a
        . have z':=(if_pos hb).symm.trans z
          cases z'
          subst hb
          exact⟨ha,by rw[List.length_map];exact hl,vs,_,rv,ha⟩
        . have z':=(if_neg hb).symm.trans z
          cases z'
    . by_cases hp:b ∈ ts.map (·.1)
      . exact .inr hp
      . by_cases hb:b=a
        . exact .inl hb
        . exact absurd ((if_neg hp).trans (if_neg hb)) z
theorem walkL{l:PySem.W.OpenLaw}{n k:Nat}{q:Program}{loose:List Str}{XP:(Str->Option Value)->Heap->Prop}{YP:World->Heap->Prop}{d:DefRec}{K:Params->PySem.W.Frag}{F:List D->Hd->Option (D × Hd)}(xs:List (Str × Str × Nat × Nat))
    (hn:l.most=some n) (hn2:n <= sizeLine) (hdf:d.params.defaults=[]) (hr:Room k callerA) (hdr:∀ x ∈ xs,∃ dr,(recsOf q).find? (λ e=>e.name == x.1)=some dr)
    (hF:∀ ns:List Int,∃ hd',F [.ro ns] []=some (.im (.bl true),hd'))
    (hY:∀ (w:World) (h:Heap),YP w h->(K w.params).In h)
    (G:∀ (w:World) (mg:Str->Option Value) (fa:Addr) (h:Heap) (c P:Str->Addr),(K w.params).In h->h.Ns mainGlobals mg->mg d.name=some (.ref fa) ->
      (∀ x ∈ xs,h.get? (P x.1)=some (tabObj #[])/\CodeHd h (c x.1) (P x.1)/\∃ a o fd,mg x.1=some (.ref a)/\h.get? a=some o/\o.data=.func fd/\fd.code=.ref (c x.1)) ->
      (∃ g,(K w.params).lookup mainGlobals=some g)/\∃ fd:FuncData,(∀ (s:Shared) (u:Value),BindsTo s fd ⟨[u],[]⟩ [("_law_script",u)]) /\
        ∀ base:Heap,(Aa (K w.params) (xs.map λ x=>(P x.1,x.2))).In base->base.Ns mainGlobals mg->(∀ x ∈ xs,CodeHd base (c x.1) (P x.1))->(∀ x ∈ xs,base.BuiltinsAt mg (P x.1))->FnOk l.prog w (Aa (K w.params) (xs.map λ x=>(P x.1,x.2))) mg base CX0 k fa fd ["_law_script"] (spF (Aa (K w.params) (xs.map λ x=>(P x.1,x.2))) 1 F)) :
    PySem.W.WalkO q loose XP YP l.row.toRowW d [] (λ f vs=>PySem.call f vs):=by
  refine Att.attach_call hn hdf λ w s₀ s₁ mg mb fa o pm cd doc a vs ns Gr Y ho hd hcd hmg hobj hints hlen hg=>?_
  have KX:=hY w _ Y
  have each:∀ x:Str,∃ cp:Addr × Addr,(∃ y ∈ xs,y.1=x)->(∃ cc,s₁.heap.TableAt cc cp.2 #[])/\CodeHd s₁.heap cp.1 cp.2/\∃ a o fd,mg x=some (.ref a)/\s₁.heap.get? a=some o/\o.data=.func fd/\fd.code=.ref cp.1:=by
    intro x
    by_cases hx:∃ y ∈ xs,y.1=x
    . obtain⟨y,hy,rfl⟩:=hx
      obtain⟨dr,hdr⟩:=hdr y hy
      have hnm:dr.name=y.1:=beq_iff_eq.mp (List.find?_some (p:=λ e:DefRec=>e.name == y.1) hdr)
      obtain⟨a',o',fd',c,P,h1,h2,h3,h4,h5,h6⟩:=Gr.T.tab dr (List.mem_of_find?_eq_some hdr)
      rw[hnm]at h1
      exact⟨(c,P),λ _=>⟨⟨_,h6⟩,CodeHd.of h5 h6,a',o',fd',h1,h2,h3,h4⟩⟩
    . exact⟨(0,0),λ h=>absurd h hx⟩
  obtain⟨cp,hcp⟩:=Classical.skolem.mp each
  have hcp:∀ x ∈ xs,(∃ cc,s₁.heap.TableAt cc (cp x.1).2 #[])/\CodeHd s₁.heap (cp x.1).1 (cp x.1).2/\∃ a o fd,mg x.1=some (.ref a)/\s₁.heap.get? a=some o/\o.data=.func fd/\fd.code=.ref (cp x.1).1:=λ x hx=>hcp x.1 ⟨x,hx,rfl⟩
  have hts:∀ P ∈ (xs.map λ x=>((cp x.1).2,x.2)).map (·.1),∃ x ∈ xs,P=(cp x.1).2:=λ P hP=>by
    obtain⟨t,ht,rfl⟩:=List.mem_map.mp hP
    obtain⟨x,hx,rfl⟩:=List.mem_map.mp ht
    exact⟨x,hx,rfl⟩
  have hP:∀ x ∈ xs,s₁.heap.get? (cp x.1).2=some (tabObj #[]):=λ x hx=>by
    obtain⟨⟨cc,t⟩,_⟩:=hcp x hx;exact t.2
  have hmP:mainGlobals ∉ (xs.map λ x=>((cp x.1).2,x.2)).map (·.1):=λ z=>by
    obtain⟨x,hx,ez⟩:=hts _ z
    obtain⟨o,es,ep,e,dd,_⟩:=Gr.T.g
    rw[ez,hP x hx]at e;cases e;cases dd
  obtain⟨⟨g,hgl⟩,fd,hb,hFn⟩:=G w mg fa _ (λ x=>(cp x).1) (λ x=>(cp x).2) KX Gr.T.g hmg λ x hx=>⟨hP x hx,(hcp x hx).2⟩
  refine OY (ts:=xs.map λ x=>((cp x.1).2,x.2)) (K:=Aa (K w.params) (xs.map λ x=>((cp x.1).2,x.2))) (TC KX hgl hmP) Gr.T.g Gr.T.b Gr.T.builtins Gr.T.nolimit hg hobj hints (Nat.le_trans hlen hn2) hr (λ P hp=>by obtain⟨x,hx,rfl⟩:=hts P hp;exact(hcp x hx).1) (λ P hp=>TB hmP hp) (Ey _ _) (λ base kb nb keep=>hFn base kb nb (λ x hx=>?_) λ x hx=>?_) hb (hF ns)
  . obtain⟨oc,vs',file,tf,flags,tg,inF,text,tt,e1,r1,r2,r3,r4,r5,r6,r7,r8,hne⟩:=(hcp x hx).2.1
    have hn:(cp x.1).1 ∉ (xs.map λ x=>((cp x.1).2,x.2)).map (·.1):=λ z=>by
      obtain⟨y,hy,ez⟩:=hts _ z
      rw[ez,hP y hy]at e1;cases e1;cases r1
    exact⟨oc,vs',file,tf,flags,tg,inF,text,tt,keep (cp x.1).1 oc hn (λ z=>by rw[z,hobj]at e1;cases e1;exact absurd (show Value.type "list"=Value.type "code" from r1) (by decide)) e1,r1,r2,r3,r4,r5,r6,r7,r8,hne⟩
  . obtain⟨bm,ob,b1,b2,b3,b4,b5,b6⟩:=Gr.T.bmain
    have nP:∀ y ∈ xs,bm ≠ (cp y.1).2:=λ y hy z=>by rw[z,hP y hy]at b3;cases b3;cases b4
    have hn:bm ∉ (xs.map λ x=>((cp x.1).2,x.2)).map (·.1):=λ z=>by
      obtain⟨y,hy,ez⟩:=hts _ z
      exact nP y hy ez
    refine⟨bm,ob,b1,b2,λ z=>?_,nP x hx,keep bm ob hn (λ z=>by rw[z,hobj]at b3;cases b3;exact absurd (show Value.type "list"=Value.type "module" from b4) (by decide)) b3,b4,b5,b6⟩
    obtain⟨o,es,ep,e,dd,_⟩:=Gr.T.g
    rw[<- z,b3]at e;cases e;rw[b6]at dd;cases dd
noncomputable def My(o:Obj):Option Addr:=match o.data with
  | .fields vs=>(match (vs[11]?:Option Value)with
    | some (Value.ref P)=>some P
    | _=>none)
  | _=>none
theorem Nx{K:PySem.W.Frag}{h:Heap}{c P p:Addr}{o:Obj}(X:K.In h)(hc:CodeHd h c P)(k:K.lookup c=some o)(e:My o=some p):P=p:=by
  obtain⟨o',vs,file,tf,flags,tg,inF,text,tt,e1,e2,e3,e4,_⟩:=hc
  have:=X _ _ k
  rw[e1]at this;cases this
  simp only[My,e3,e4]at e
  exact Option.some.inj e
end L2
namespace T28
open PySem L2 PySem.W PyProof.Rows
noncomputable abbrev x_cheapest_last:Str × Str × Nat × Nat:=("cheapest_last",((("cheapest_last":Str) ++ ".<locals>.") ++ "<lambda>"),80,56)
noncomputable abbrev x_greatest_bound:Str × Str × Nat × Nat:=("greatest_bound",((("greatest_bound":Str) ++ ".<locals>.") ++ "<lambda>"),84,25)
noncomputable abbrev xS:List (Str × Str × Nat × Nat):=[x_cheapest_last,x_greatest_bound]
noncomputable abbrev tS(P:Str->Addr):List Tb:=xS.map λ x=>(P x.1,x.2)
theorem all_mk{l:PySem.W.OpenLaw}{w:World}{K:PySem.W.Frag}{h:Heap}{mg:Str->Option Value}{fa f0 f1 f2 f3 f4 f5 f6 f7 f8 f9 f10 f11 f12 f13 f14 f15 f16 f17 f18 f19 f20 f21 f22 f23 f24 f25:Addr}(X:K.In h)(G:h.Ns mainGlobals mg){c P:Str->Addr}(hfa:mg "law"=some (.ref fa))(hx:∀ x ∈ xS,h.get? (P x.1)=some (tabObj #[])/\CodeHd h (c x.1) (P x.1)/\∃ a o fd,mg x.1=some (.ref a)/\h.get? a=some o/\o.data=.func fd/\fd.code=.ref (c x.1))
    {od0 an0 od1 an1 od2 an2 od3 an3 od4 an4 od5 an5 od6 an6 od7 an7 od8 an8 od9 an9 od10 an10 od11 an11 od12 an12 od13 an13 od14 an14 od15 an15 od16 an16 od17 an17 od18 an18 od19 an19 od20 an20 od21 an21 od22 an22 od23 an23 od24 an24 od25 an25:Option Addr} {sl0 sl1 sl2 sl3 sl4 sl5 sl6 sl7 sl8 sl9 sl10 sl11 sl12 sl13 sl14 sl15 sl16 sl17 sl18 sl19 sl20 sl21 sl22 sl23 sl24 sl25:Array (Option Value)} {oc0 kV0 dc0 pm0 cd0 ct0 oc1 kV1 dc1 pm1 cd1 ct1 oc2 kV2 dc2 pm2 cd2 ct2 oc3 kV3 dc3 pm3 cd3 ct3 oc4 kV4 dc4 pm4 cd4 ct4 oc5 kV5 dc5 pm5 cd5 ct5 oc6 kV6 dc6 pm6 cd6 ct6 oc7 kV7 dc7 pm7 cd7 ct7 oc8 kV8 dc8 pm8 cd8 ct8 oc9 kV9 dc9 pm9 cd9 ct9 oc10 kV10 dc10 pm10 cd10 ct10 oc11 kV11 dc11 pm11 cd11 ct11 oc12 kV12 dc12 pm12 cd12 ct12 oc13 kV13 dc13 pm13 cd13 ct13 oc14 kV14 dc14 pm14 cd14 ct14 oc15 kV15 dc15 pm15 cd15 ct15 oc16 kV16 dc16 pm16 cd16 ct16 oc17 kV17 dc17 pm17 cd17 ct17 oc18 kV18 dc18 pm18 cd18 ct18 oc19 kV19 dc19 pm19 cd19 ct19 oc20 kV20 dc20 pm20 cd20 ct20 oc21 kV21 dc21 pm21 cd21 ct21 oc22 kV22 dc22 pm22 cd22 ct22 oc23 kV23 dc23 pm23 cd23 ct23 oc24 kV24 dc24 pm24 cd24 ct24 oc25 kV25 dc25 pm25 cd25 ct25:Value}
    {p12 ca12 p14 ca14:Addr} {ob12 ob14:Obj} (a0:PySem.W.nsIn K mainGlobals "law"=some (some (.ref f0))) (l0:K.lookup f0=some ⟨oc0,od0,.func (PySem.W.fnOf "law" "law" (AX EA) (AU EA) (A8 EA) .none kV0 dc0 pm0 an0 cd0 ct0),sl0⟩) (c0:PySem.W.codeIn K cd0 "law"=true) (k0:PySem.W.keepIn K (.ref f0)=true)
    (a1:PySem.W.nsIn K mainGlobals "raised"=some (some (.ref f1))) (l1:K.lookup f1=some ⟨oc1,od1,.func (PySem.W.fnOf "raised" "raised" (AX Cq) (AU Cq) (A8 Cq) .none kV1 dc1 pm1 an1 cd1 ct1),sl1⟩) (c1:PySem.W.codeIn K cd1 "raised"=true) (k1:PySem.W.keepIn K (.ref f1)=true)
    (a2:PySem.W.nsIn K mainGlobals "heads"=some (some (.ref f2))) (l2:K.lookup f2=some ⟨oc2,od2,.func (PySem.W.fnOf "heads" "heads" (AX Di) (AU Di) (A8 Di) .none kV2 dc2 pm2 an2 cd2 ct2),sl2⟩) (c2:PySem.W.codeIn K cd2 "heads"=true) (k2:PySem.W.keepIn K (.ref f2)=true)
    (a3:PySem.W.nsIn K mainGlobals "steps_at"=some (some (.ref f3))) (l3:K.lookup f3=some ⟨oc3,od3,.func (PySem.W.fnOf "steps_at" "steps_at" (AX C9) (AU C9) (A8 C9) .none kV3 dc3 pm3 an3 cd3 ct3),sl3⟩) (c3:PySem.W.codeIn K cd3 "steps_at"=true) (k3:PySem.W.keepIn K (.ref f3)=true)
    (a4:PySem.W.nsIn K mainGlobals "cost_at"=some (some (.ref f4))) (l4:K.lookup f4=some ⟨oc4,od4,.func (PySem.W.fnOf "cost_at" "cost_at" (AX CC) (AU CC) (A8 CC) .none kV4 dc4 pm4 an4 cd4 ct4),sl4⟩) (c4:PySem.W.codeIn K cd4 "cost_at"=true) (k4:PySem.W.keepIn K (.ref f4)=true)
    (a5:PySem.W.nsIn K mainGlobals "reached"=some (some (.ref f5))) (l5:K.lookup f5=some ⟨oc5,od5,.func (PySem.W.fnOf "reached" "reached" (AX CQ) (AU CQ) (A8 CQ) .none kV5 dc5 pm5 an5 cd5 ct5),sl5⟩) (c5:PySem.W.codeIn K cd5 "reached"=true) (k5:PySem.W.keepIn K (.ref f5)=true)
    (a6:PySem.W.nsIn K mainGlobals "behind"=some (some (.ref f6))) (l6:K.lookup f6=some ⟨oc6,od6,.func (PySem.W.fnOf "behind" "behind" (AX Cs) (AU Cs) (A8 Cs) .none kV6 dc6 pm6 an6 cd6 ct6),sl6⟩) (c6:PySem.W.codeIn K cd6 "behind"=true) (k6:PySem.W.keepIn K (.ref f6)=true)
    (a7:PySem.W.nsIn K mainGlobals "last_ones"=some (some (.ref f7))) (l7:K.lookup f7=some ⟨oc7,od7,.func (PySem.W.fnOf "last_ones" "last_ones" (AX BS) (AU BS) (A8 BS) .none kV7 dc7 pm7 an7 cd7 ct7),sl7⟩) (c7:PySem.W.codeIn K cd7 "last_ones"=true) (k7:PySem.W.keepIn K (.ref f7)=true)
    (a8:PySem.W.nsIn K mainGlobals "length_of"=some (some (.ref f8))) (l8:K.lookup f8=some ⟨oc8,od8,.func (PySem.W.fnOf "length_of" "length_of" (AX BR) (AU BR) (A8 BR) .none kV8 dc8 pm8 an8 cd8 ct8),sl8⟩) (c8:PySem.W.codeIn K cd8 "length_of"=true) (k8:PySem.W.keepIn K (.ref f8)=true)
    (a9:PySem.W.nsIn K mainGlobals "bound_of"=some (some (.ref f9))) (l9:K.lookup f9=some ⟨oc9,od9,.func (PySem.W.fnOf "bound_of" "bound_of" (AX Bo) (AU Bo) (A8 Bo) .none kV9 dc9 pm9 an9 cd9 ct9),sl9⟩) (c9:PySem.W.codeIn K cd9 "bound_of"=true) (k9:PySem.W.keepIn K (.ref f9)=true)
    (a10:PySem.W.nsIn K mainGlobals "same_coming"=some (some (.ref f10))) (l10:K.lookup f10=some ⟨oc10,od10,.func (PySem.W.fnOf "same_coming" "same_coming" (AX BL) (AU BL) (A8 BL) .none kV10 dc10 pm10 an10 cd10 ct10),sl10⟩) (c10:PySem.W.codeIn K cd10 "same_coming"=true) (k10:PySem.W.keepIn K (.ref f10)=true)
    (a11:PySem.W.nsIn K mainGlobals "one_coming"=some (some (.ref f11))) (l11:K.lookup f11=some ⟨oc11,od11,.func (PySem.W.fnOf "one_coming" "one_coming" (AX BX) (AU BX) (A8 BX) .none kV11 dc11 pm11 an11 cd11 ct11),sl11⟩) (c11:PySem.W.codeIn K cd11 "one_coming"=true) (k11:PySem.W.keepIn K (.ref f11)=true)
    (a12:PySem.W.nsIn K mainGlobals "cheapest_last"=some (some (.ref f12))) (l12:K.lookup f12=some ⟨oc12,od12,.func (PySem.W.fnOf "cheapest_last" "cheapest_last" (AX An) (AU An) (A8 An) .none kV12 dc12 pm12 an12 cd12 ct12),sl12⟩) (c12:PySem.W.codeIn K cd12 "cheapest_last"=true) (k12:PySem.W.keepIn K (.ref f12)=true)
    (a13:PySem.W.nsIn K mainGlobals "without"=some (some (.ref f13))) (l13:K.lookup f13=some ⟨oc13,od13,.func (PySem.W.fnOf "without" "without" (AX CP) (AU CP) (A8 CP) .none kV13 dc13 pm13 an13 cd13 ct13),sl13⟩) (c13:PySem.W.codeIn K cd13 "without"=true) (k13:PySem.W.keepIn K (.ref f13)=true)
    (a14:PySem.W.nsIn K mainGlobals "greatest_bound"=some (some (.ref f14))) (l14:K.lookup f14=some ⟨oc14,od14,.func (PySem.W.fnOf "greatest_bound" "greatest_bound" (AX Aj) (AU Aj) (A8 Aj) .none kV14 dc14 pm14 an14 cd14 ct14),sl14⟩) (c14:PySem.W.codeIn K cd14 "greatest_bound"=true) (k14:PySem.W.keepIn K (.ref f14)=true)
    (a15:PySem.W.nsIn K mainGlobals "greatest_order"=some (some (.ref f15))) (l15:K.lookup f15=some ⟨oc15,od15,.func (PySem.W.fnOf "greatest_order" "greatest_order" (AX B4) (AU B4) (A8 B4) .none kV15 dc15 pm15 an15 cd15 ct15),sl15⟩) (c15:PySem.W.codeIn K cd15 "greatest_order"=true) (k15:PySem.W.keepIn K (.ref f15)=true)
    (a16:PySem.W.nsIn K mainGlobals "_law_feed"=some (some (.ref f16))) (l16:K.lookup f16=some ⟨oc16,od16,.func (PySem.W.fnOf "_law_feed" "_law_feed" (AX EF) (AU EF) (A8 EF) .none kV16 dc16 pm16 an16 cd16 ct16),sl16⟩) (c16:PySem.W.codeIn K cd16 "_law_feed"=true) (k16:PySem.W.keepIn K (.ref f16)=true)
    (a17:PySem.W.nsIn K mainGlobals "_law_words"=some (some (.ref f17))) (l17:K.lookup f17=some ⟨oc17,od17,.func (PySem.W.fnOf "_law_words" "_law_words" (AX Dh) (AU Dh) (A8 Dh) .none kV17 dc17 pm17 an17 cd17 ct17),sl17⟩) (c17:PySem.W.codeIn K cd17 "_law_words"=true) (k17:PySem.W.keepIn K (.ref f17)=true)
    (a18:PySem.W.nsIn K mainGlobals "_law_next"=some (some (.ref f18))) (l18:K.lookup f18=some ⟨oc18,od18,.func (PySem.W.fnOf "_law_next" "_law_next" (AX DS) (AU DS) (A8 DS) .none kV18 dc18 pm18 an18 cd18 ct18),sl18⟩) (c18:PySem.W.codeIn K cd18 "_law_next"=true) (k18:PySem.W.keepIn K (.ref f18)=true)
    (a19:PySem.W.nsIn K mainGlobals "_law_cost"=some (some (.ref f19))) (l19:K.lookup f19=some ⟨oc19,od19,.func (PySem.W.fnOf "_law_cost" "_law_cost" (AX EG) (AU EG) (A8 EG) .none kV19 dc19 pm19 an19 cd19 ct19),sl19⟩) (c19:PySem.W.codeIn K cd19 "_law_cost"=true) (k19:PySem.W.keepIn K (.ref f19)=true)
    (a20:PySem.W.nsIn K mainGlobals "_law_works"=some (some (.ref f20))) (l20:K.lookup f20=some ⟨oc20,od20,.func (PySem.W.fnOf "_law_works" "_law_works" (AX Dg) (AU Dg) (A8 Dg) .none kV20 dc20 pm20 an20 cd20 ct20),sl20⟩) (c20:PySem.W.codeIn K cd20 "_law_works"=true) (k20:PySem.W.keepIn K (.ref f20)=true)
    (a21:PySem.W.nsIn K mainGlobals "_law_wishes"=some (some (.ref f21))) (l21:K.lookup f21=some ⟨oc21,od21,.func (PySem.W.fnOf "_law_wishes" "_law_wishes" (AX Cp) (AU Cp) (A8 Cp) .none kV21 dc21 pm21 an21 cd21 ct21),sl21⟩) (c21:PySem.W.codeIn K cd21 "_law_wishes"=true) (k21:PySem.W.keepIn K (.ref f21)=true)
    (a22:PySem.W.nsIn K mainGlobals "_law_costs"=some (some (.ref f22))) (l22:K.lookup f22=some ⟨oc22,od22,.func (PySem.W.fnOf "_law_costs" "_law_costs" (AX Dj) (AU Dj) (A8 Dj) .none kV22 dc22 pm22 an22 cd22 ct22),sl22⟩) (c22:PySem.W.codeIn K cd22 "_law_costs"=true) (k22:PySem.W.keepIn K (.ref f22)=true)
    (a23:PySem.W.nsIn K mainGlobals "_law_greatest"=some (some (.ref f23))) (l23:K.lookup f23=some ⟨oc23,od23,.func (PySem.W.fnOf "_law_greatest" "_law_greatest" (AX CB) (AU CB) (A8 CB) .none kV23 dc23 pm23 an23 cd23 ct23),sl23⟩) (c23:PySem.W.codeIn K cd23 "_law_greatest"=true) (k23:PySem.W.keepIn K (.ref f23)=true)
    (a24:PySem.W.nsIn K mainGlobals "_law_orders"=some (some (.ref f24))) (l24:K.lookup f24=some ⟨oc24,od24,.func (PySem.W.fnOf "_law_orders" "_law_orders" (AX Cr) (AU Cr) (A8 Cr) .none kV24 dc24 pm24 an24 cd24 ct24),sl24⟩) (c24:PySem.W.codeIn K cd24 "_law_orders"=true) (k24:PySem.W.keepIn K (.ref f24)=true)
    (a25:PySem.W.nsIn K mainGlobals "_law_run_ends"=some (some (.ref f25))) (l25:K.lookup f25=some ⟨oc25,od25,.func (PySem.W.fnOf "_law_run_ends" "_law_run_ends" (AX CA) (AU CA) (A8 CA) .none kV25 dc25 pm25 an25 cd25 ct25),sl25⟩) (c25:PySem.W.codeIn K cd25 "_law_run_ends"=true) (k25:PySem.W.keepIn K (.ref f25)=true)
    (z_list:PySem.W.nsIn K mainGlobals "list"=some none)
    (z_tuple:PySem.W.nsIn K mainGlobals "tuple"=some none)
    (z_len:PySem.W.nsIn K mainGlobals "len"=some none)
    (z_range:PySem.W.nsIn K mainGlobals "range"=some none)
    (z_repr:PySem.W.nsIn K mainGlobals "repr"=some none)
    (z_sum:PySem.W.nsIn K mainGlobals "sum"=some none)
    (z_min:PySem.W.nsIn K mainGlobals "min"=some none)
    (z_max:PySem.W.nsIn K mainGlobals "max"=some none)
    (z_abs:PySem.W.nsIn K mainGlobals "abs"=some none)
    (z_all:PySem.W.nsIn K mainGlobals "all"=some none)
    (z_any:PySem.W.nsIn K mainGlobals "any"=some none)
    (z_sorted:PySem.W.nsIn K mainGlobals "sorted"=some none)
    (z_zip:PySem.W.nsIn K mainGlobals "zip"=some none)
    (z_isinstance:PySem.W.nsIn K mainGlobals "isinstance"=some none)
    (z_int:PySem.W.nsIn K mainGlobals "int"=some none)
    (z_bool:PySem.W.nsIn K mainGlobals "bool"=some none)
    (z_str:PySem.W.nsIn K mainGlobals "str"=some none)
    (z_set:PySem.W.nsIn K mainGlobals "set"=some none)
    (z_enumerate:PySem.W.nsIn K mainGlobals "enumerate"=some none)
    (z_reversed:PySem.W.nsIn K mainGlobals "reversed"=some none)
    (z_dict:PySem.W.nsIn K mainGlobals "dict"=some none)
    (u12:cd12=Value.ref ca12) (t12:K.lookup ca12=some ob12) (v12:My ob12=some p12)
    (u14:cd14=Value.ref ca14) (t14:K.lookup ca14=some ob14) (v14:My ob14=some p14)
    (tn:([p12,p14]:List Addr).Nodup) :
    (∃ g,K.lookup mainGlobals=some g)/\∃ fd:FuncData,(∀ (s:Shared) (v:Value),BindsTo s fd ⟨[v],[]⟩ [("_law_script",v)])/\∀ base:Heap,(Aa K (tS P)).In base->base.Ns mainGlobals mg->(∀ x ∈ xS,CodeHd base (c x.1) (P x.1))->(∀ x ∈ xS,base.BuiltinsAt mg (P x.1))->FnOk l.prog w (Aa K (tS P)) mg base CX0 9 fa fd ["_law_script"] (spF (Aa K (tS P)) 1 F_law):=by
  have hP:∀ P' ∈ (tS P).map (·.1),h.get? P'=some (tabObj #[]):=λ P' hp=>by
    obtain⟨t,ht,rfl⟩:=List.mem_map.mp hp
    obtain⟨x,hxx,rfl⟩:=List.mem_map.mp ht
    exact(hx x hxx).1
  have e:=hfa.symm.trans (PySem.W.mg_of X G a0)
  cases e
  have F0:=Fun.mark (ts:=tS P) (Av (st:=EA) l0 c0 k0) X hP
  have D0:DefAt (Aa K (tS P)) mg "law" EA _ _ ["_law_script"]:=⟨F0,PySem.W.mg_of X G a0,F0.binds (ps:=["_law_script"]) λ _ _ _ _ _ _ us hl=>match us,hl with | [_],_=>rfl⟩
  have F1:=Fun.mark (ts:=tS P) (Av (st:=Cq) l1 c1 k1) X hP
  have D1:DefAt (Aa K (tS P)) mg "raised" Cq _ _ ["works","wishes","some","t"]:=⟨F1,PySem.W.mg_of X G a1,F1.binds (ps:=["works","wishes","some","t"]) λ _ _ _ _ _ _ us hl=>match us,hl with | [_,_,_,_],_=>rfl⟩
  have F2:=Fun.mark (ts:=tS P) (Av (st:=Di) l2 c2 k2) X hP
  have D2:DefAt (Aa K (tS P)) mg "heads" Di _ _ ["works","wishes"]:=⟨F2,PySem.W.mg_of X G a2,F2.binds (ps:=["works","wishes"]) λ _ _ _ _ _ _ us hl=>match us,hl with | [_,_],_=>rfl⟩
  have F3:=Fun.mark (ts:=tS P) (Av (st:=C9) l3 c3 k3) X hP
  have D3:DefAt (Aa K (tS P)) mg "steps_at" C9 _ _ ["rows","t"]:=⟨F3,PySem.W.mg_of X G a3,F3.binds (ps:=["rows","t"]) λ _ _ _ _ _ _ us hl=>match us,hl with | [_,_],_=>rfl⟩
  have F4:=Fun.mark (ts:=tS P) (Av (st:=CC) l4 c4 k4) X hP
  have D4:DefAt (Aa K (tS P)) mg "cost_at" CC _ _ ["cost","t"]:=⟨F4,PySem.W.mg_of X G a4,F4.binds (ps:=["cost","t"]) λ _ _ _ _ _ _ us hl=>match us,hl with | [_,_],_=>rfl⟩
  have F5:=Fun.mark (ts:=tS P) (Av (st:=CQ) l5 c5 k5) X hP
  have D5:DefAt (Aa K (tS P)) mg "reached" CQ _ _ ["pairs","a"]:=⟨F5,PySem.W.mg_of X G a5,F5.binds (ps:=["pairs","a"]) λ _ _ _ _ _ _ us hl=>match us,hl with | [_,_],_=>rfl⟩
  have F6:=Fun.mark (ts:=tS P) (Av (st:=Cs) l6 c6 k6) X hP
  have D6:DefAt (Aa K (tS P)) mg "behind" Cs _ _ ["many","wishes","a"]:=⟨F6,PySem.W.mg_of X G a6,F6.binds (ps:=["many","wishes","a"]) λ _ _ _ _ _ _ us hl=>match us,hl with | [_,_,_],_=>rfl⟩
  have F7:=Fun.mark (ts:=tS P) (Av (st:=BS) l7 c7 k7) X hP
  have D7:DefAt (Aa K (tS P)) mg "last_ones" BS _ _ ["many","wishes","some"]:=⟨F7,PySem.W.mg_of X G a7,F7.binds (ps:=["many","wishes","some"]) λ _ _ _ _ _ _ us hl=>match us,hl with | [_,_,_],_=>rfl⟩
  have F8:=Fun.mark (ts:=tS P) (Av (st:=BR) l8 c8 k8) X hP
  have D8:DefAt (Aa K (tS P)) mg "length_of" BR _ _ ["works","some"]:=⟨F8,PySem.W.mg_of X G a8,F8.binds (ps:=["works","some"]) λ _ _ _ _ _ _ us hl=>match us,hl with | [_,_],_=>rfl⟩
  have F9:=Fun.mark (ts:=tS P) (Av (st:=Bo) l9 c9 k9) X hP
  have D9:DefAt (Aa K (tS P)) mg "bound_of" Bo _ _ ["works","wishes","some"]:=⟨F9,PySem.W.mg_of X G a9,F9.binds (ps:=["works","wishes","some"]) λ _ _ _ _ _ _ us hl=>match us,hl with | [_,_,_],_=>rfl⟩
  have F10:=Fun.mark (ts:=tS P) (Av (st:=BL) l10 c10 k10) X hP
  have D10:DefAt (Aa K (tS P)) mg "same_coming" BL _ _ ["works"]:=⟨F10,PySem.W.mg_of X G a10,F10.binds (ps:=["works"]) λ _ _ _ _ _ _ us hl=>match us,hl with | [_],_=>rfl⟩
  have F11:=Fun.mark (ts:=tS P) (Av (st:=BX) l11 c11 k11) X hP
  have D11:DefAt (Aa K (tS P)) mg "one_coming" BX _ _ ["works"]:=⟨F11,PySem.W.mg_of X G a11,F11.binds (ps:=["works"]) λ _ _ _ _ _ _ us hl=>match us,hl with | [_],_=>rfl⟩
  have F12:=Fun.mark (ts:=tS P) (Av (st:=An) l12 c12 k12) X hP
  have D12:DefAt (Aa K (tS P)) mg "cheapest_last" An _ _ ["works","wishes","some","end"]:=⟨F12,PySem.W.mg_of X G a12,F12.binds (ps:=["works","wishes","some","end"]) λ _ _ _ _ _ _ us hl=>match us,hl with | [_,_,_,_],_=>rfl⟩
  have F13:=Fun.mark (ts:=tS P) (Av (st:=CP) l13 c13 k13) X hP
  have D13:DefAt (Aa K (tS P)) mg "without" CP _ _ ["some","u"]:=⟨F13,PySem.W.mg_of X G a13,F13.binds (ps:=["some","u"]) λ _ _ _ _ _ _ us hl=>match us,hl with | [_,_],_=>rfl⟩
  have F14:=Fun.mark (ts:=tS P) (Av (st:=Aj) l14 c14 k14) X hP
  have D14:DefAt (Aa K (tS P)) mg "greatest_bound" Aj _ _ ["works","wishes","sets"]:=⟨F14,PySem.W.mg_of X G a14,F14.binds (ps:=["works","wishes","sets"]) λ _ _ _ _ _ _ us hl=>match us,hl with | [_,_,_],_=>rfl⟩
  have F15:=Fun.mark (ts:=tS P) (Av (st:=B4) l15 c15 k15) X hP
  have D15:DefAt (Aa K (tS P)) mg "greatest_order" B4 _ _ ["works","wishes"]:=⟨F15,PySem.W.mg_of X G a15,F15.binds (ps:=["works","wishes"]) λ _ _ _ _ _ _ us hl=>match us,hl with | [_,_],_=>rfl⟩
  have F16:=Fun.mark (ts:=tS P) (Av (st:=EF) l16 c16 k16) X hP
  have D16:DefAt (Aa K (tS P)) mg "_law_feed" EF _ _ ["_law_script"]:=⟨F16,PySem.W.mg_of X G a16,F16.binds (ps:=["_law_script"]) λ _ _ _ _ _ _ us hl=>match us,hl with | [_],_=>rfl⟩
  have F17:=Fun.mark (ts:=tS P) (Av (st:=Dh) l17 c17 k17) X hP
  have D17:DefAt (Aa K (tS P)) mg "_law_words" Dh _ _ []:=⟨F17,PySem.W.mg_of X G a17,F17.binds (ps:=[]) λ _ _ _ _ _ _ us hl=>match us,hl with | [],_=>rfl⟩
  have F18:=Fun.mark (ts:=tS P) (Av (st:=DS) l18 c18 k18) X hP
  have D18:DefAt (Aa K (tS P)) mg "_law_next" DS _ _ ["_law_feed_here","_law_many"]:=⟨F18,PySem.W.mg_of X G a18,F18.binds (ps:=["_law_feed_here","_law_many"]) λ _ _ _ _ _ _ us hl=>match us,hl with | [_,_],_=>rfl⟩
  have F19:=Fun.mark (ts:=tS P) (Av (st:=EG) l19 c19 k19) X hP
  have D19:DefAt (Aa K (tS P)) mg "_law_cost" EG _ _ ["_law_feed_here","_law_words_here"]:=⟨F19,PySem.W.mg_of X G a19,F19.binds (ps:=["_law_feed_here","_law_words_here"]) λ _ _ _ _ _ _ us hl=>match us,hl with | [_,_],_=>rfl⟩
  have F20:=Fun.mark (ts:=tS P) (Av (st:=Dg) l20 c20 k20) X hP
  have D20:DefAt (Aa K (tS P)) mg "_law_works" Dg _ _ ["_law_feed_here","_law_most","_law_words_here","_law_ways"]:=⟨F20,PySem.W.mg_of X G a20,F20.binds (ps:=["_law_feed_here","_law_most","_law_words_here","_law_ways"]) λ _ _ _ _ _ _ us hl=>match us,hl with | [_,_,_,_],_=>rfl⟩
  have F21:=Fun.mark (ts:=tS P) (Av (st:=Cp) l21 c21 k21) X hP
  have D21:DefAt (Aa K (tS P)) mg "_law_wishes" Cp _ _ ["_law_feed_here","_law_many"]:=⟨F21,PySem.W.mg_of X G a21,F21.binds (ps:=["_law_feed_here","_law_many"]) λ _ _ _ _ _ _ us hl=>match us,hl with | [_,_],_=>rfl⟩
  have F22:=Fun.mark (ts:=tS P) (Av (st:=Dj) l22 c22 k22) X hP
  have D22:DefAt (Aa K (tS P)) mg "_law_costs" Dj _ _ ["_law_cost_here","_law_t"]:=⟨F22,PySem.W.mg_of X G a22,F22.binds (ps:=["_law_cost_here","_law_t"]) λ _ _ _ _ _ _ us hl=>match us,hl with | [_,_],_=>rfl⟩
  have F23:=Fun.mark (ts:=tS P) (Av (st:=CB) l23 c23 k23) X hP
  have D23:DefAt (Aa K (tS P)) mg "_law_greatest" CB _ _ ["_law_works_here","_law_ends"]:=⟨F23,PySem.W.mg_of X G a23,F23.binds (ps:=["_law_works_here","_law_ends"]) λ _ _ _ _ _ _ us hl=>match us,hl with | [_,_],_=>rfl⟩
  have F24:=Fun.mark (ts:=tS P) (Av (st:=Cr) l24 c24 k24) X hP
  have D24:DefAt (Aa K (tS P)) mg "_law_orders" Cr _ _ ["_law_many","_law_wishes_here"]:=⟨F24,PySem.W.mg_of X G a24,F24.binds (ps:=["_law_many","_law_wishes_here"]) λ _ _ _ _ _ _ us hl=>match us,hl with | [_,_],_=>rfl⟩
  have F25:=Fun.mark (ts:=tS P) (Av (st:=CA) l25 c25 k25) X hP
  have D25:DefAt (Aa K (tS P)) mg "_law_run_ends" CA _ _ ["_law_works_here","_law_order"]:=⟨F25,PySem.W.mg_of X G a25,F25.binds (ps:=["_law_works_here","_law_order"]) λ _ _ _ _ _ _ us hl=>match us,hl with | [_,_],_=>rfl⟩
  have B:BltA mg:=⟨PySem.W.mg_none_of X G z_list,PySem.W.mg_none_of X G z_tuple,PySem.W.mg_none_of X G z_len,PySem.W.mg_none_of X G z_range,PySem.W.mg_none_of X G z_repr,PySem.W.mg_none_of X G z_sum,PySem.W.mg_none_of X G z_min,PySem.W.mg_none_of X G z_max,PySem.W.mg_none_of X G z_abs,PySem.W.mg_none_of X G z_all,PySem.W.mg_none_of X G z_any,PySem.W.mg_none_of X G z_sorted,PySem.W.mg_none_of X G z_zip,PySem.W.mg_none_of X G z_isinstance,PySem.W.mg_none_of X G z_int,PySem.W.mg_none_of X G z_bool,PySem.W.mg_none_of X G z_str,PySem.W.mg_none_of X G z_set,PySem.W.mg_none_of X G z_enumerate,PySem.W.mg_none_of X G z_reversed,PySem.W.mg_none_of X G z_dict⟩
  have hcd_cheapest_last:(cd12:Value)=.ref (c "cheapest_last"):=by
    obtain⟨_,_,a,ob,fd,h1,h2,h3,h4⟩:=hx _ (show x_cheapest_last ∈ xS by simp[xS])
    have e1:=h1.symm.trans (PySem.W.mg_of X G a12)
    cases e1
    have e2:=h2.symm.trans (X _ _ l12)
    cases e2
    cases h3
    exact h4
  have hcd_greatest_bound:(cd14:Value)=.ref (c "greatest_bound"):=by
    obtain⟨_,_,a,ob,fd,h1,h2,h3,h4⟩:=hx _ (show x_greatest_bound ∈ xS by simp[xS])
    have e1:=h1.symm.trans (PySem.W.mg_of X G a14)
    cases e1
    have e2:=h2.symm.trans (X _ _ l14)
    cases e2
    cases h3
    exact h4
  have nd:((Dr (Aa K (tS P))).map (·.1)).Nodup:=by
    have q12:P "cheapest_last"=p12:=by
      have eq:ca12=c "cheapest_last":=by have:=u12.symm.trans hcd_cheapest_last;cases this;rfl
      subst eq
      exact Nx X (hx _ (show x_cheapest_last ∈ xS by simp[xS])).2.1 t12 v12
    have q14:P "greatest_bound"=p14:=by
      have eq:ca14=c "greatest_bound":=by have:=u14.symm.trans hcd_greatest_bound;cases this;rfl
      subst eq
      exact Nx X (hx _ (show x_greatest_bound ∈ xS by simp[xS])).2.1 t14 v14
    rw[Ey]
    show([P "cheapest_last",P "greatest_bound"]:List Addr).Nodup
    rw[q12,q14]
    exact tn
  have hg:∃ g,K.lookup mainGlobals=some g:=by
    cases e:K.lookup mainGlobals with
    | some g=>exact⟨g,rfl⟩
    | none=>have z:=a0;unfold PySem.W.nsIn at z;rw[e]at z;cases z
  refine⟨hg,PySem.W.fnOf "law" "law" (AX EA) (AU EA) (A8 EA) .none kV0 dc0 pm0 an0 cd0 ct0,λ s v=>.of_eq rfl,λ base _ _ hd bl=>?_⟩
  have LC_cheapest_last:LamC (Aa K (tS P)) mg base (PySem.W.fnOf "cheapest_last" "cheapest_last" (AX An) (AU An) (A8 An) .none kV12 dc12 pm12 an12 cd12 ct12) (c "cheapest_last") (P "cheapest_last") ((("cheapest_last":Str) ++ ".<locals>.") ++ "<lambda>") ⟨80,56,80,91⟩:=⟨hcd_cheapest_last,hd _ (show x_cheapest_last ∈ xS by simp[xS]),bl _ (show x_cheapest_last ∈ xS by simp[xS]),⟨80,56,0,0⟩,by rw[Ey];exact List.mem_map.mpr ⟨(P x_cheapest_last.1,x_cheapest_last.2),List.mem_map.mpr ⟨x_cheapest_last,by simp[xS],rfl⟩,rfl⟩,nd,rfl,rfl⟩
  have LC_greatest_bound:LamC (Aa K (tS P)) mg base (PySem.W.fnOf "greatest_bound" "greatest_bound" (AX Aj) (AU Aj) (A8 Aj) .none kV14 dc14 pm14 an14 cd14 ct14) (c "greatest_bound") (P "greatest_bound") ((("greatest_bound":Str) ++ ".<locals>.") ++ "<lambda>") ⟨84,25,84,67⟩:=⟨hcd_greatest_bound,hd _ (show x_greatest_bound ∈ xS by simp[xS]),bl _ (show x_greatest_bound ∈ xS by simp[xS]),⟨84,25,0,0⟩,by rw[Ey];exact List.mem_map.mpr ⟨(P x_greatest_bound.1,x_greatest_bound.2),List.mem_map.mpr ⟨x_greatest_bound,by simp[xS],rfl⟩,rfl⟩,nd,rfl,rfl⟩
  have G_raised:=T28.ok_raised (P:=l.prog) (w:=w) (base:=base) D1  B
  have G_heads:=T28.ok_heads (P:=l.prog) (w:=w) (base:=base) D2 D1 G_raised B
  have G_steps_at:=T28.ok_steps_at (P:=l.prog) (w:=w) (base:=base) D3  B
  have G_cost_at:=T28.ok_cost_at (P:=l.prog) (w:=w) (base:=base) D4 D3 G_steps_at B
  have G_reached:=T28.ok_reached (P:=l.prog) (w:=w) (base:=base) D5  B
  have G_behind:=T28.ok_behind (P:=l.prog) (w:=w) (base:=base) D6 D5 G_reached B
  have G_last_ones:=T28.ok_last_ones (P:=l.prog) (w:=w) (base:=base) D7 D6 G_behind B
  have G_length_of:=T28.ok_length_of (P:=l.prog) (w:=w) (base:=base) D8  B
  have G_bound_of:=T28.ok_bound_of (P:=l.prog) (w:=w) (base:=base) D9 D2 G_heads D4 G_cost_at D7 G_last_ones D8 G_length_of B
  have G_same_coming:=T28.ok_same_coming (P:=l.prog) (w:=w) (base:=base) D10  B
  have G_one_coming:=T28.ok_one_coming (P:=l.prog) (w:=w) (base:=base) D11 D10 G_same_coming B
  have G_cheapest_last:=T28.ok_cheapest_last (P:=l.prog) (w:=w) (base:=base) D12 D4 G_cost_at D7 G_last_ones LC_cheapest_last B
  have G_without:=T28.ok_without (P:=l.prog) (w:=w) (base:=base) D13  B
  have G_greatest_bound:=T28.ok_greatest_bound (P:=l.prog) (w:=w) (base:=base) D14 D9 G_bound_of LC_greatest_bound B
  have G_greatest_order:=T28.ok_greatest_order (P:=l.prog) (w:=w) (base:=base) D15 D8 G_length_of D11 G_one_coming D12 G_cheapest_last D13 G_without D14 G_greatest_bound B
  have G_feed:=T28.ok_feed (P:=l.prog) (w:=w) (base:=base) D16  B
  have G_words:=T28.ok_words (P:=l.prog) (w:=w) (base:=base) D17  B
  have G_next:=T28.ok_next (P:=l.prog) (w:=w) (base:=base) D18  B
  have G_cost:=T28.ok_cost (P:=l.prog) (w:=w) (base:=base) D19 D18 G_next B
  have G_works:=T28.ok_works (P:=l.prog) (w:=w) (base:=base) D20 D18 G_next D19 G_cost B
  have G_wishes:=T28.ok_wishes (P:=l.prog) (w:=w) (base:=base) D21 D18 G_next B
  have G_costs:=T28.ok_costs (P:=l.prog) (w:=w) (base:=base) D22  B
  have G_greatest:=T28.ok_greatest (P:=l.prog) (w:=w) (base:=base) D23 D22 G_costs B
  have G_orders:=T28.ok_orders (P:=l.prog) (w:=w) (base:=base) D24  B
  have G_run_ends:=T28.ok_run_ends (P:=l.prog) (w:=w) (base:=base) D25  B
  have G_law:=T28.ok_law (P:=l.prog) (w:=w) (base:=base) D0 D9 G_bound_of D15 G_greatest_order D16 G_feed D17 G_words D20 G_works D21 G_wishes D23 G_greatest D24 G_orders D25 G_run_ends B
  exact G_law
end T28
open PySem PySem.W PyProof.Rows
set_option maxRecDepth 100000 in
set_option maxHeartbeats 0 in
theorem PySem.Challenge.cw_benchdays_k28_whole_last_first_is_best_holds : PySem.Challenge.rw_benchdays_k28_whole_last_first_is_best.Holds := by
  w_on;o_law;k_head;(case hw=>w_witness2)
  k_fill
  refine L2.walkL T28.xS (l:=PySem.Challenge.rw_benchdays_k28_whole_last_first_is_best) (n:=63) (k:=9) (F:=T28.F_law) rfl (by decide) rfl ⟨rfl,by decide,by decide,rfl⟩ (by intro x hx;simp only[T28.xS,List.mem_cons,List.not_mem_nil,or_false]at hx;rcases hx with rfl|rfl <;> exact⟨_,rfl⟩) T28.law_eq (λ w h Y=>PySem.W.km_in_of Y) ?F
  case F=>
    intro w mg fa h c P KX G hmg hx
    refine' T28.all_mk KX G hmg hx ?a0 ?l0 ?c0 ?k0 ?a1 ?l1 ?c1 ?k1 ?a2 ?l2 ?c2 ?k2 ?a3 ?l3 ?c3 ?k3 ?a4 ?l4 ?c4 ?k4 ?a5 ?l5 ?c5 ?k5 ?a6 ?l6 ?c6 ?k6 ?a7 ?l7 ?c7 ?k7 ?a8 ?l8 ?c8 ?k8 ?a9 ?l9 ?c9 ?k9 ?a10 ?l10 ?c10 ?k10 ?a11 ?l11 ?c11 ?k11 ?a12 ?l12 ?c12 ?k12 ?a13 ?l13 ?c13 ?k13 ?a14 ?l14 ?c14 ?k14 ?a15 ?l15 ?c15 ?k15 ?a16 ?l16 ?c16 ?k16 ?a17 ?l17 ?c17 ?k17 ?a18 ?l18 ?c18 ?k18 ?a19 ?l19 ?c19 ?k19 ?a20 ?l20 ?c20 ?k20 ?a21 ?l21 ?c21 ?k21 ?a22 ?l22 ?c22 ?k22 ?a23 ?l23 ?c23 ?k23 ?a24 ?l24 ?c24 ?k24 ?a25 ?l25 ?c25 ?k25 ?z_list ?z_tuple ?z_len ?z_range ?z_repr ?z_sum ?z_min ?z_max ?z_abs ?z_all ?z_any ?z_sorted ?z_zip ?z_isinstance ?z_int ?z_bool ?z_str ?z_set ?z_enumerate ?z_reversed ?z_dict ?u12 ?t12 ?v12 ?u14 ?t14 ?v14 ?tn
    (case a0=>k_is)
    (case l0=>k_is)
    (case c0=>k_is)
    (case k0=>k_is)
    (case a1=>k_is)
    (case l1=>k_is)
    (case c1=>k_is)
    (case k1=>k_is)
    (case a2=>k_is)
    (case l2=>k_is)
    (case c2=>k_is)
    (case k2=>k_is)
    (case a3=>k_is)
    (case l3=>k_is)
    (case c3=>k_is)
    (case k3=>k_is)
    (case a4=>k_is)
    (case l4=>k_is)
    (case c4=>k_is)
    (case k4=>k_is)
    (case a5=>k_is)
    (case l5=>k_is)
    (case c5=>k_is)
    (case k5=>k_is)
    (case a6=>k_is)
    (case l6=>k_is)
    (case c6=>k_is)
    (case k6=>k_is)
    (case a7=>k_is)
    (case l7=>k_is)
    (case c7=>k_is)
    (case k7=>k_is)
    (case a8=>k_is)
    (case l8=>k_is)
    (case c8=>k_is)
    (case k8=>k_is)
    (case a9=>k_is)
    (case l9=>k_is)
    (case c9=>k_is)
    (case k9=>k_is)
    (case a10=>k_is)
    (case l10=>k_is)
    (case c10=>k_is)
    (case k10=>k_is)
    (case a11=>k_is)
    (case l11=>k_is)
    (case c11=>k_is)
    (case k11=>k_is)
    (case a12=>k_is)
    (case l12=>k_is)
    (case c12=>k_is)
    (case k12=>k_is)
    (case a13=>k_is)
    (case l13=>k_is)
    (case c13=>k_is)
    (case k13=>k_is)
    (case a14=>k_is)
    (case l14=>k_is)
    (case c14=>k_is)
    (case k14=>k_is)
    (case a15=>k_is)
    (case l15=>k_is)
    (case c15=>k_is)
    (case k15=>k_is)
    (case a16=>k_is)
    (case l16=>k_is)
    (case c16=>k_is)
    (case k16=>k_is)
    (case a17=>k_is)
    (case l17=>k_is)
    (case c17=>k_is)
    (case k17=>k_is)
    (case a18=>k_is)
    (case l18=>k_is)
    (case c18=>k_is)
    (case k18=>k_is)
    (case a19=>k_is)
    (case l19=>k_is)
    (case c19=>k_is)
    (case k19=>k_is)
    (case a20=>k_is)
    (case l20=>k_is)
    (case c20=>k_is)
    (case k20=>k_is)
    (case a21=>k_is)
    (case l21=>k_is)
    (case c21=>k_is)
    (case k21=>k_is)
    (case a22=>k_is)
    (case l22=>k_is)
    (case c22=>k_is)
    (case k22=>k_is)
    (case a23=>k_is)
    (case l23=>k_is)
    (case c23=>k_is)
    (case k23=>k_is)
    (case a24=>k_is)
    (case l24=>k_is)
    (case c24=>k_is)
    (case k24=>k_is)
    (case a25=>k_is)
    (case l25=>k_is)
    (case c25=>k_is)
    (case k25=>k_is)
    (case z_list=>k_is)
    (case z_tuple=>k_is)
    (case z_len=>k_is)
    (case z_range=>k_is)
    (case z_repr=>k_is)
    (case z_sum=>k_is)
    (case z_min=>k_is)
    (case z_max=>k_is)
    (case z_abs=>k_is)
    (case z_all=>k_is)
    (case z_any=>k_is)
    (case z_sorted=>k_is)
    (case z_zip=>k_is)
    (case z_isinstance=>k_is)
    (case z_int=>k_is)
    (case z_bool=>k_is)
    (case z_str=>k_is)
    (case z_set=>k_is)
    (case z_enumerate=>k_is)
    (case z_reversed=>k_is)
    (case z_dict=>k_is)
    (case u12=>rfl)
    (case t12=>k_is)
    (case v12=>rfl)
    (case u14=>rfl)
    (case t14=>k_is)
    (case v14=>rfl)
    (case tn=>decide)
