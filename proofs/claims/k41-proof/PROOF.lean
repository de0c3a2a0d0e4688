import PyProof.Rows.All
import Wide.All
import OpenK.AllK
import Wide.FinOn
import Lean
import PyProof.EqAt
import PyProof.EqKinds
import PyProof.TupleCall
import KE.KSortKey
import PyProof.ListMulRoad
import PyProof.Draws
import PyProof.EnumMake
import KE.KMinKey
import PySem.Challenge.RW_benchdays_k41_whole_put_out_is_fewest
set_option Elab.async false
set_option linter.all false
set_option maxRecDepth 100000
set_option compiler.extract_closed false
local macro_rules | `(tactic| omega) => `(tactic| first | lia | omega (config := {}))
namespace L2
open PySem PySem.Spec PyProof.Rows
noncomputable abbrev Key:=Sum Int Str
noncomputable def IP:Key->Value->Bool
  | .inl k,v=>Value.isInt k v
  | .inr x,v=>Value.isStrOf x v
noncomputable def Wz(w:World):Key->Int
  | .inl k=>hashInt k
  | .inr x=>hashStr w x
theorem Bq:∀ {k:Key} {v:Value},IP k v=true->(∃ i t,k=Sum.inl i/\v=Value.int i t) ∨ (∃ x t,k=Sum.inr x/\v=Value.str x t)
  | .inl i,v,h=>by
    obtain⟨t,e⟩:=Value.isInt_shape (k:=i) (v:=v) h
    exact .inl ⟨i,t,rfl,e⟩
  | .inr x,v,h=>by
    obtain⟨t,e⟩:=Value.isStrOf_shape (x:=x) (v:=v) h
    exact .inr ⟨x,t,rfl,e⟩
theorem PV(i:Int)(t:Tok):IP (.inl i) (.int i t)=true:=by simp[IP,Value.isInt]
theorem PU(x:Str)(t:Tok):IP (.inr x) (.str x t)=true:=by simp[IP,Value.isStrOf]
theorem VI(a b:Int):decide ((Sum.inl a:Key)=Sum.inl b)=(a == b):=by
  by_cases e:a=b
  . subst e;simp
  . have h:¬ (Sum.inl a:Key)=Sum.inl b:=λ q=>e (Sum.inl.inj q)
    rw[decide_eq_false h]
    exact(beq_eq_false_iff_ne.mpr e).symm
theorem VF(a b:Str):decide ((Sum.inr a:Key)=Sum.inr b)=decide (a=b):=by
  by_cases e:a=b
  . subst e;simp
  . have h:¬ (Sum.inr a:Key)=Sum.inr b:=λ q=>e (Sum.inr.inj q)
    rw[decide_eq_false h,decide_eq_false e]
theorem VH(a:Int)(b:Str):decide ((Sum.inl a:Key)=Sum.inr b)=false:=decide_eq_false (λ q=>nomatch q)
theorem VG(a:Str)(b:Int):decide ((Sum.inr a:Key)=Sum.inl b)=false:=decide_eq_false (λ q=>nomatch q)
noncomputable def Bh(prog:Program)(w:World):PySem.KeyKind prog w Key where
  is:=IP
  hash:=Wz w
  inj:=λ v a b ha hb=>by
    rcases Bq ha with⟨i,t,rfl,rfl⟩|⟨x,t,rfl,rfl⟩
    . rcases Bq hb with⟨j,u,rfl,e⟩|⟨y,u,rfl,e⟩
      . injection e with e1 _;rw[e1]
      . exact nomatch e
    . rcases Bq hb with⟨j,u,rfl,e⟩|⟨y,u,rfl,e⟩
      . exact nomatch e
      . injection e with e1 _;rw[e1]
  byValue:=λ k v h=>by
    rcases Bq h with⟨i,t,rfl,rfl⟩|⟨x,t,rfl,rfl⟩ <;> rfl
  pyHash:=λ hv h=>by
    rcases Bq hv with⟨i,t,rfl,rfl⟩|⟨x,t,rfl,rfl⟩
    . exact wpAny_pyHash_int h
    . exact wpAny_pyHash_str h
  eqBool:=λ hu hv h=>by
    rcases Bq hu with⟨i,t,rfl,rfl⟩|⟨x,t,rfl,rfl⟩
    . rcases Bq hv with⟨j,u,rfl,rfl⟩|⟨y,u,rfl,rfl⟩
      . rw[VI]at h;exact wpAny_eqBool_int h
      . rw[VH]at h;exact SeqAt.EqAt.int_str i t y u _ _ _ _ h
    . rcases Bq hv with⟨j,u,rfl,rfl⟩|⟨y,u,rfl,rfl⟩
      . rw[VG]at h;exact SeqAt.EqAt.str_int x t j u _ _ _ _ h
      . rw[VF]at h;exact wpAny_eqBool_str h
  «strs»:=λ k x t v h=>by
    rcases Bq h with⟨i,u,rfl,e⟩|⟨y,u,rfl,e⟩
    . exact nomatch e
    . injection e with e1 _
      subst e1
      cases v <;> rfl
theorem Mf(prog:Program)(w:World)(i:Int)(t:Tok):(Bh prog w).is (.inl i) (.int i t)=true:=PV i t
theorem Me(prog:Program)(w:World)(x:Str)(t:Tok):(Bh prog w).is (.inr x) (.str x t)=true:=PU x t
end L2
namespace L2
open PySem PySem.Spec PyProof.Rows
inductive V where
  | non|bl (b:Bool)|int (i:Int)|str (x:Str)|byt (b:Array UInt8)|flt (b:UInt64)|ref (a:Addr)|ty (n:String)
  deriving DecidableEq
noncomputable def RelV:V->Value->Prop
  | .non,u=>u=Value.none
  | .bl b,u=>u=Value.bool b
  | .int i,u=>∃ t,u=Value.int i t
  | .str x,u=>∃ t,u=Value.str x t
  | .byt b,u=>∃ t,u=Value.bytes b t
  | .flt b,u=>∃ t,u=Value.float b t
  | .ref a,u=>u=Value.ref a
  | .ty n,u=>u=Value.type n
noncomputable abbrev Vals:List V->List Value->Prop:=Paired RelV
theorem Vals.length{xs:List V}{us:List Value}(r:Vals xs us):xs.length=us.length:=Paired.length r
theorem Vals.get:∀ {xs:List V} {us:List Value} {i:Nat} {x:V},Vals xs us->xs[i]? = some x->∃ u,us[i]? = some u/\RelV x u
  | _,_,_,_,.nil,e=>by simp at e
  | _,_,0,_,.cons r _,e=>by simp at e;subst e;exact⟨_,rfl,r⟩
  | _,_,i + 1,x,.cons _ t,e=>by
    obtain⟨u,h1,h2⟩:=Vals.get (i:=i) (x:=x) t (by simpa using e)
    exact⟨u,by simpa using h1,h2⟩
theorem Vals.set{x:V}{u:Value}(r:RelV x u):∀ {xs:List V} {us:List Value} (i:Nat),Vals xs us->Vals (xs.set i x) (us.set i u)
  | _,_,_,.nil=>.nil
  | _,_,0,.cons _ t=>.cons r t
  | _,_,i + 1,.cons q t=>.cons q (Vals.set r i t)
theorem Vals.append:∀ {xs ys:List V} {us ws:List Value},Vals xs us->Vals ys ws->Vals (xs ++ ys) (us ++ ws)
  | _,_,_,_,.nil,s=>s
  | _,_,_,_,.cons r t,s=>.cons r (Vals.append t s)
theorem Vals.take:∀ {xs:List V} {us:List Value} (n:Nat),Vals xs us->Vals (xs.take n) (us.take n)
  | _,_,0,_=>.nil
  | _,_,_ + 1,.nil=>.nil
  | _,_,n + 1,.cons r t=>.cons r (Vals.take n t)
theorem Vals.drop:∀ {xs:List V} {us:List Value} (n:Nat),Vals xs us->Vals (xs.drop n) (us.drop n)
  | _,_,0,r=>r
  | _,_,_ + 1,.nil=>.nil
  | _,_,n + 1,.cons _ t=>Vals.drop n t
noncomputable def RelO:Option V->Option Value->Prop
  | some v,some u=>RelV v u
  | none,none=>True
  | _,_=>False
noncomputable def KV{κ:Type}:List (κ × V)->List (κ × Value)->Prop:=Paired λ(p:κ × V) (q:κ × Value)=>p.1=q.1/\RelV p.2 q.2
noncomputable def kV:Key->V
  | .inl i=>.int i
  | .inr x=>.str x
inductive HO where
  /-- a list -/
  | lst (xs:List V)
  /-- a tuple (never changes) -/
  | tup (xs:List V)
  /-- a dict whose keys are ints and texts;one whose keys are tuples of ints and texts (the empty one is both) -/
  | dK (kvs:List (Key × V))|dT (kvs:List (List Key × V))
  /-- a set of ints: its members,its size -/
  | set (S:Int->Bool) (n:Nat)
  /-- an instance of the class at C,its dict at dx,its attributes -/
  | ins (C dx:Addr) (fs:List (Str × V))
  /-- the dict of the instance at x -/
  | own (x:Addr)
  /-- the dict of an exception -/
  | xd (fs:List (Str × V))
  /-- a bound method,f of x -/
  | met (f x:Addr)
  /-- a range object lo,lo + 1,.. below hi -/
  | rng (lo hi:Int)
  /-- a thing that is known to the object (the script;a dict while a loop walks it): read,never written while it is so -/
  | frz (o:Obj) (u:HO)
  /-- a code object's table -/
  | tbl (ps:Array Value)
  /-- any other thing,by what is true of its one object (a def of one's own: SetO a S n:=HO.ext λ h=>..) -/
  | ext (φ:Heap->Prop)
noncomputable abbrev Hp:=Addr->Option HO
noncomputable def upd(H:Hp)(a:Addr)(o:HO):Hp:=λ b=>if b=a then some o else H b
theorem AR{H:Hp}{a:Addr}{o:HO}:upd H a o a=some o:=by unfold upd;rw[if_pos rfl]
theorem AF{H:Hp}{a b:Addr}{o:HO}(h:b ≠ a):upd H a o b=H b:=by unfold upd;rw[if_neg h]
theorem W7{H:Hp}{a b:Addr}{o u:HO}(h:H a=some o)(h':H b=some u)(d:o ≠ u):a ≠ b:=by
  intro e;subst e;rw[h]at h';exact d (Option.some.inj h')
theorem Af{H:Hp}{a b:Addr}{o:HO}(h:H a=some o)(h':H b=none):a ≠ b:=by
  intro e;subst e;rw[h]at h';cases h'
section
variable(P:Program)(w:World)
noncomputable def ObjOk(H:Hp)(h:Heap)(a:Addr):HO->Prop
  | .lst xs=>xs.length <= sizeLine/\∃ (its:List Value) (n:Nat),Vals xs its/\h.get? a=some { cls:=.type "list",data:=.seq its.toArray n }
  | .tup xs=>xs.length <= sizeLine/\∃ its:List Value,Vals xs its/\IsTup h a its.toArray
  | .dK kvs=>kvs.length <= sizeLine/\(a == sysModules)=false/\∃ vs,KV kvs vs/\h.DictOf (Bh P w) a vs
  | .dT kvs=>kvs.length <= sizeLine/\(a == sysModules)=false/\∃ xs:List (List Key × Addr × Value),
      Paired (λ(p:List Key × V) (q:List Key × Addr × Value)=>p.1=q.1/\H q.2.1=some (.tup (p.1.map kV))/\RelV p.2 q.2.2) kvs xs /\
      ∃ o es ep,h.get? a=some o/\o.ExactDict/\o.data=.dict es ep/\es.toList=xs.map (entryOfKey (tupleKind (Bh P w)))/\(xs.map (·.1)).Nodup
  | .set S n=>h.SetOf (intKind P w) a S n
  | .ins C dx fs=>H dx=some (.own a)/\fs.length <= 1000/\dx ≠ a/\h.get? a=some (PySem.W.instObj C dx) /\
      ∃ mA,h.Ns1 dx mA/\(∀ f,RelO (fs.lookup f) (mA f))/\PySem.Within mA (fs.map (·.1))
  | .own _=>∃ o,h.get? a=some o
  | .xd fs=>∃ mA,h.Ns1 a mA/\∀ f,RelO (fs.lookup f) (mA f)
  | .rng lo hi=>∃ t u v,h.get? a=some { cls:=.type "range",data:=.fields #[.int lo t,.int hi u,.int 1 v] }
  | .frz o u=>h.get? a=some o/\ObjOk H h a u
  | .tbl ps=>h.get? a=some { cls:=.none,data:=.fields ps }
  | .met f x=>h.get? a=some (PySem.W.methodObj (.ref f) (.ref x))
  | .ext φ=>φ h/\(∃ o,h.get? a=some o)/\∀ h1 h2:Heap,φ h1->(∀ o,h1.get? a=some o->h2.get? a=some o)->φ h2
noncomputable def HOk(H:Hp)(h:Heap):Prop:=∀ a o,H a=some o->ObjOk P w H h a o
end
section
variable{P:Program}{w:World}{H H':Hp}{h h':Heap}{a:Addr}{o:HO}
theorem ObjOk.lt(x:ObjOk P w H h a o):a < h.objs.size:=by
  cases o with
  | lst xs=>obtain⟨_,_,_,_,e⟩:=x;exact Heap.lt_size e
  | tup xs=>obtain⟨_,_,_,p⟩:=x;exact p.lt
  | dK kvs=>obtain⟨_,_,_,_,o,_,_,e,_⟩:=x;exact Heap.lt_size e
  | dT kvs=>obtain⟨_,_,_,_,o,_,_,e,_⟩:=x;exact Heap.lt_size e
  | set S n=>obtain⟨o,_,_,_,e,_⟩:=x;exact Heap.lt_size e
  | ins C dx fs=>obtain⟨_,_,_,e,_⟩:=x;exact Heap.lt_size e
  | own y=>obtain⟨_,e⟩:=x;exact Heap.lt_size e
  | xd fs=>obtain⟨_,⟨_,_,_,e,_⟩,_⟩:=x;exact Heap.lt_size e
  | rng lo hi=>obtain⟨_,_,_,e⟩:=x;exact Heap.lt_size e
  | frz ob u=>obtain⟨e,_⟩:=x;exact Heap.lt_size e
  | tbl ps=>exact Heap.lt_size (show h.get? a=some _ from x)
  | met f y=>exact Heap.lt_size (show h.get? a=some _ from x)
  | ext φ=>obtain⟨_,⟨_,e⟩,_⟩:=x;exact Heap.lt_size e
theorem Paired.mapP{α β:Type}{F G:α->β->Prop}:∀ {l₁:List α} {l₂:List β},Paired F l₁ l₂->(∀ a b,F a b->G a b)->Paired G l₁ l₂
  | _,_,.nil,_=>.nil
  | _,_,.cons r t,f=>.cons (f _ _ r) (Paired.mapP t f)
theorem ObjOk.stay(x:ObjOk P w H h a o)(k:∀ b u,(b=a ∨ H b=some (.own a))->h.get? b=some u->h'.get? b=some u)
    (ho:∀ b,H b=some (.own a)->H' b=some (.own a)) (ht:∀ b xs,H b=some (.tup xs)->H' b=some (.tup xs)):ObjOk P w H' h' a o:=by
  induction o with
  | lst xs=>obtain⟨z,its,n,r,e⟩:=x;exact⟨z,its,n,r,k _ _ (.inl rfl) e⟩
  | tup xs=>obtain⟨z,its,r,ob,e,c⟩:=x;exact⟨z,its,r,ob,k _ _ (.inl rfl) e,c⟩
  | dK kvs=>obtain⟨z,y,vs,r,ob,es,ep,e,c⟩:=x;exact⟨z,y,vs,r,ob,es,ep,k _ _ (.inl rfl) e,c⟩
  | dT kvs=>
    obtain⟨z,y,xs,r,ob,es,ep,e,c⟩:=x
    exact⟨z,y,xs,Paired.mapP r λ p q z=>⟨z.1,ht _ _ z.2.1,z.2.2⟩,ob,es,ep,k _ _ (.inl rfl) e,c⟩
  | set S n=>obtain⟨ob,es,ep,t,e,c⟩:=x;exact⟨ob,es,ep,t,k _ _ (.inl rfl) e,c⟩
  | ins C dx fs=>
    obtain⟨d,z,ne,e,mA,⟨od,es,ep,e2,c⟩,r⟩:=x
    exact⟨ho _ d,z,ne,k _ _ (.inl rfl) e,mA,⟨od,es,ep,k _ _ (.inr d) e2,c⟩,r⟩
  | own y=>obtain⟨ob,e⟩:=x;exact⟨ob,k _ _ (.inl rfl) e⟩
  | xd fs=>obtain⟨mA,⟨od,es,ep,e,c⟩,r⟩:=x;exact⟨mA,⟨od,es,ep,k _ _ (.inl rfl) e,c⟩,r⟩
  | rng lo hi=>obtain⟨t,u,v,e⟩:=x;exact⟨t,u,v,k _ _ (.inl rfl) e⟩
  | frz ob u ih=>obtain⟨e,q⟩:=x;exact⟨k _ _ (.inl rfl) e,ih q⟩
  | tbl ps=>
    have e:h.get? a=some { cls:=.none,data:=.fields ps }:=x
    show h'.get? a=some { cls:=.none,data:=.fields ps }
    exact k a _ (.inl rfl) e
  | met f y=>
    have e:h.get? a=some (PySem.W.methodObj (.ref f) (.ref y)):=x
    show h'.get? a=some (PySem.W.methodObj (.ref f) (.ref y))
    exact k a _ (.inl rfl) e
  | ext φ=>obtain⟨p,⟨o,e⟩,st⟩:=x;exact⟨st _ _ p λ o q=>k _ _ (.inl rfl) q,⟨o,k _ _ (.inl rfl) e⟩,st⟩
theorem HOk.lt(x:HOk P w H h)(e:H a=some o):a < h.objs.size:=(x a o e).lt
theorem HOk.fresh(x:HOk P w H h)(e:h.objs.size <= a):H a=none:=by
  cases q:H a with
  | none=>rfl
  | some u=>exact absurd (Nat.lt_of_lt_of_le (x.lt q) e) (Nat.lt_irrefl _)
theorem HOk.kept(x:HOk P w H h)(k:∀ b u,h.get? b=some u->h'.get? b=some u):HOk P w H h':=λ a o e=>
  (x a o e).stay (λ b u _ q=>k b u q) (λ _ q=>q) λ _ _ q=>q
theorem HOk.laid(x:HOk P w H h)(k:∀ b u,h.get? b=some u->h'.get? b=some u)(hp:h.objs.size <= a)(new:ObjOk P w (upd H a o) h' a o):HOk P w (upd H a o) h':=λ b u e=>by
  have hn:=x.fresh hp
  by_cases hb:b=a
  . subst hb;rw[AR]at e;cases e;exact new
  . rw[AF hb]at e
    exact(x b u e).stay (λ c v _ q=>k c v q) (λ c q=>by rw[AF (Af q hn)];exact q) λ c xs q=>by rw[AF (Af q hn)];exact q
end
noncomputable def Rd(H:Hp)(a:Addr)(u:HO):Prop:=H a=some u ∨ ∃ o,H a=some (.frz o u)
theorem Rd.ok{P:Program}{w:World}{H:Hp}{h:Heap}{a:Addr}{u:HO}(r:Rd H a u)(x:HOk P w H h):ObjOk P w H h a u:=by
  rcases r with r|⟨o,r⟩
  . exact x a u r
  . obtain⟨_,q⟩:=x a _ r
    exact q
noncomputable def Mut:Option HO->Prop
  | some (.lst _)=>True
  | some (.dK _)=>True
  | some (.dT _)=>True
  | some (.set _ _)=>True
  | some (.ins _ _ _)=>True
  | some (.ext _)=>True
  | _=>False
section
variable{P:Program}{w:World}{H:Hp}{h h':Heap}{x e:Addr}{o':HO}
theorem HOk.write(ok:HOk P w H h)(mu:Mut (H x))(he:e=x ∨ H e=some (.own x))(k:∀ b u,b ≠ e->h.get? b=some u->h'.get? b=some u)(heo:∃ u,h'.get? e=some u)
    (new:ObjOk P w (upd H x o') h' x o'):HOk P w (upd H x o') h':=λ b u q=>by
  have nown:∀ c y,H c=some (.own y)->c ≠ x:=λ c y r z=>by subst z;rw[r]at mu;exact mu
  have ntup:∀ c xs,H c=some (.tup xs)->c ≠ x:=λ c xs r z=>by subst z;rw[r]at mu;exact mu
  by_cases hb:b=x
  . subst hb;rw[AR]at q;cases q;exact new
  . rw[AF hb]at q
    by_cases hbe:b=e
    . have q':H b=some (.own x):=by
        rcases he with z|z
        . exact absurd (hbe.trans z) hb
        . rw[hbe];exact z
      rw[q]at q';cases q'
      obtain⟨v,hv⟩:=heo
      exact⟨v,by rw[hbe];exact hv⟩
    . refine(ok b u q).stay (λ c v hc r=>k c v ?_ r) (λ c r=>by rw[AF (nown c b r)];exact r) λ c xs r=>by rw[AF (ntup c xs r)];exact r
      rcases hc with rfl|hc
      . exact hbe
      . rintro rfl
        rcases he with z|z
        . exact nown c b hc z
        . rw[hc]at z;cases z;exact hb rfl
end
structure Un(fs ex:List Addr)(H H':Hp)(h h':Heap):Prop where
  keep:∀ b o,h.get? b=some o->H b=none->b ∉ fs->b ∉ ex->h'.get? b=some o
  slot:∀ b o,h.get? b=some o->H b=none->b ∈ fs->b ∉ ex->∃ sl,h'.get? b=some { o with slots:=sl }
  free:∀ b o,h.get? b=some o->H b=none->b ∉ ex->H' b=none
  there:∀ b o,h.get? b=some o->b ∉ ex->∃ o',h'.get? b=some o'
  tups:∀ b xs,H b=some (.tup xs)->H' b=some (.tup xs)
  frzs:∀ b o u,H b=some (.frz o u)->H' b=some (.frz o u)
  tbls:∀ b ps,H b=some (.tbl ps)->∃ more,H' b=some (.tbl (ps ++ more))
section
variable{fs fs' ex ex':List Addr}{H H1 H2:Hp}{h h1 h2 h':Heap}{a x e:Addr}{o:HO}
theorem Un.any(u:Un fs ex H H1 h h1){b:Addr}{ob:Obj}(q:h.get? b=some ob)(n:H b=none)(hx:b ∉ ex):∃ sl,h1.get? b=some { ob with slots:=sl }:=by
  by_cases hb:b ∈ fs
  . exact u.slot b ob q n hb hx
  . exact⟨ob.slots,u.keep b ob q n hb hx⟩
theorem Un.kept(k:∀ b u,h.get? b=some u->h'.get? b=some u):Un fs ex H H h h':=
  ⟨λ b ob q _ _ _=>k b ob q,λ b ob q _ _ _=>⟨ob.slots,k b ob q⟩,λ _ _ _ n _=>n,λ b ob q _=>⟨ob,k b ob q⟩,λ _ _ q=>q,λ _ _ _ q=>q,λ _ ps q=>⟨#[],by rw[q];simp⟩⟩
theorem Un.refl:Un fs ex H H h h:=Un.kept λ _ _ q=>q
theorem Un.laid(k:∀ b u,h.get? b=some u->h'.get? b=some u)(hp:h.objs.size <= a)(hn:H a=none):Un fs ex H (upd H a o) h h' where
  keep:=λ b u q _ _ _=>k b u q
  slot:=λ b u q _ _ _=>⟨u.slots,k b u q⟩
  free:=λ b u q n _=>by rw[AF (Nat.ne_of_lt (Nat.lt_of_lt_of_le (Heap.lt_size q) hp))];exact n
  there:=λ b u q _=>⟨u,k b u q⟩
  tups:=λ b xs q=>by rw[AF (Af q hn)];exact q
  frzs:=λ b u xs q=>by rw[AF (Af q hn)];exact q
  tbls:=λ b ps q=>⟨#[],by rw[AF (Af q hn),q];simp⟩
theorem Un.write(mu:Mut (H x))(he:e=x ∨ H e=some (.own x))(k:∀ b u,b ≠ e->h.get? b=some u->h'.get? b=some u)(heo:∃ u,h'.get? e=some u):Un fs ex H (upd H x o) h h':=by
  have hx:∀ b,H b=none->b ≠ x:=λ b n z=>by subst z;rw[n]at mu;exact mu
  have hb:∀ b,H b=none->b ≠ e:=λ b n z=>by
    subst z
    rcases he with r|r
    . exact hx b n r
    . rw[n]at r;cases r
  have hm:∀ b u,H b=some u->¬ Mut (some u)->b ≠ x:=λ b u q nm z=>by subst z;rw[q]at mu;exact nm mu
  refine⟨λ b u q n _ _=>k b u (hb b n) q,λ b u q n _ _=>⟨u.slots,k b u (hb b n) q⟩,λ b u q n _=>by rw[AF (hx b n)];exact n,λ b u q _=>?_,
    λ b xs q=>by rw[AF (hm b _ q λ z=>z)];exact q,λ b u xs q=>by rw[AF (hm b _ q λ z=>z)];exact q,λ b ps q=>⟨#[],by rw[AF (hm b _ q λ z=>z),q];simp⟩⟩
  by_cases hbe:b=e
  . subst hbe;exact heo
  . exact⟨u,k b u hbe q⟩
end
noncomputable def trk(h:Heap)(H:Hp):List Addr:=(List.range h.objs.size).filter λ a=>(H a).isSome
noncomputable def Gy(h:Heap)(H:Hp):Heap:=PySem.W.hideAll h (trk h H)
theorem PY(h:Heap)(H:Hp):(Gy h H).objs.size=h.objs.size:=PySem.W.hideAll_size _ _
theorem RZ{h:Heap}{H:Hp}{b:Addr}{o:Obj}(e:h.get? b=some o)(n:H b=none):(Gy h H).get? b=some o:=
  PySem.W.hideAll_get _ e λ hm=>by
    have q:(H b).isSome=true:=(List.mem_filter.mp hm).2
    rw[n]at q;simp at q
theorem TY{h:Heap}{H:Hp}{b:Addr}{o:Obj}(e:(Gy h H).get? b=some o):h.get? b=some o/\H b=none:=by
  have e':h.get? b=some o:=PySem.W.of_hideAll (trk h H) e
  refine⟨e',?_⟩
  cases q:H b with
  | none=>rfl
  | some x=>
    have hm:b ∈ trk h H:=List.mem_filter.mpr ⟨List.mem_range.mpr (Heap.lt_size e'),by simp[q]⟩
    have z:(Gy h H).get? b=none:=PySem.W.hideAll_none (trk h H) hm
    rw[z]at e;cases e
noncomputable def U1(g h:Heap)(L:Addr):List (Addr × Obj):=(List.range h.objs.size).filterMap λ a=>if a=L ∨ (g.get? a).isSome=true then none else(h.get? a).map λ o=>(a,o)
noncomputable def rest(g h:Heap)(L d:Addr):List (Addr × Obj):=(U1 g h L).filter λ p=>decide (p.1 ≠ d)
end L2
namespace L2
open PySem PySem.Spec PyProof.Rows
structure Mod(K:PySem.W.Frag)(mg:Str->Option Value)(base:Heap):Prop where
  kin:K.In base
  glob:base.Ns mainGlobals mg
  blt:∃ mb,base.Ns builtinsNs mb/\∀ x:Str,x ≠ "__name__"->mb x=bootBuiltins x
  nolimit:base.NoLimit
structure Cx where
  prog:Program
  w:World
  K:PySem.W.Frag
  mg:Str->Option Value
  base:Heap
  A:Around
  N:List Str
  s₀:Shared
  H₀:Hp
  env:Env
  outer:List Env
  stack:List Env
  ex:List Addr
  fn:Str->Bool
  calm:Bool
  pn:List (Addr × Obj)
  xe:Value->Shared->Prop
noncomputable def frs(l:List Env):List Addr:=l.filterMap (·.frame)
noncomputable abbrev Cx.fs(X:Cx):List Addr:=frs X.outer
noncomputable def Vis(sc:Scope)(x:Str):Prop:=sc.names.lookup x=some .local ∨ sc.names.lookup x=some .cell ∨ sc.names.lookup x=some .free
noncomputable def Loc(sc:Scope)(x:Str):Prop:=sc.names.lookup x=some .local ∨ sc.names.lookup x=some .cell
noncomputable def XE(env:Env)(h:Heap)(m:Str->Option Value)(x:Str)(u:Value):Prop:=
  (env.kindOf x=some .local/\m x=some u) ∨ ((env.kindOf x=some .cell ∨ env.kindOf x=some .free)/\∃ c,env.cells.lookup x=some c/\h.IsCell c (some u))
structure Cx.Ok(X:Cx):Prop where
  mod:Mod X.K X.mg X.base
  kind:X.env.scope.kind=.function
  glob:X.env.globals=mainGlobals
  blt:X.env.builtins=builtinsNs
  above:X.s₀.heap.objs.size <= X.env.locals
  inj:∀ x y c,X.env.cells.lookup x=some c->X.env.cells.lookup y=some c->x=y
  has:∀ x,(X.env.kindOf x=some .cell ∨ X.env.kindOf x=some .free)->∃ c,X.env.cells.lookup x=some c
  cab:∀ x c,X.fn x=true->X.env.cells.lookup x=some c->X.s₀.heap.objs.size <= c
  hd:X.calm=true->X.A.handled=none
  frames:X.A.frames=some X.stack
  stk:X.stack=X.outer ∨ (X.stack=X.env :: X.outer/\X.env.frame=some X.env.locals)
  exf:∀ b ∈ X.ex,b ≠ X.env.locals/\∀ x c,X.env.cells.lookup x=some c->c ≠ b
  bs:∀ b o,X.base.get? b=some o->X.s₀.heap.get? b=some o/\X.H₀ b=none
  bsz:X.base.objs.size <= X.s₀.heap.objs.size
  noex:∀ b o,X.base.get? b=some o->b ∉ X.ex
  exfs:∀ b ∈ X.ex,b ∉ X.fs
  funs:X.s₀.heap.FunFrames X.base X.outer
  frf:∀ b ∈ X.fs,X.H₀ b=none
structure Inv(X:Cx)(pins:List (Addr × Obj))(σ:List (Option V))(H:Hp)(s:Shared):Prop where
  ok:X.Ok
  os:s.os=X.s₀.os
  bare:AllBare s.gens
  base:Un X.fs X.ex X.H₀ H X.s₀.heap s.heap
  loc:∃ m,s.heap.Ns X.env.locals m/\∀ (i:Nat) (x:Str) (v:V),X.N[i]? = some x->σ[i]? = some (some v)->Vis X.env.scope x->∃ u,RelV v u/\XE X.env s.heap m x u
  cell:∀ x c,X.env.cells.lookup x=some c->∃ v,s.heap.IsCell c v
  free:H X.env.locals=none
  freeC:∀ x c,X.env.cells.lookup x=some c->H c=none
  pin:∀ p ∈ X.pn ++ pins,s.heap.get? p.1=some p.2/\H p.1=none/\p.1 ≠ X.env.locals/\p.1 ∉ X.fs/\∀ v,p.2.data ≠ .cell v
  hok:HOk X.prog X.w H s.heap
  len:σ.length=X.N.length
section
variable{X:Cx}{pins:List (Addr × Obj)}{σ:List (Option V)}{H H':Hp}{s:Shared}{h':Heap}
theorem Cx.Ok.nofr(ok:X.Ok){b:Addr}{o:Obj}(e:X.base.get? b=some o):b ∉ X.fs:=λ hb=>by
  have:=(ok.funs.mem hb).1
  rw[e]at this;cases this
theorem Inv.bs(I:Inv X pins σ H s):∀ b o,X.base.get? b=some o->s.heap.get? b=some o/\H b=none:=λ b o e=>
  ⟨I.base.keep b o (I.ok.bs b o e).1 (I.ok.bs b o e).2 (I.ok.nofr e) (I.ok.noex b o e),I.base.free b o (I.ok.bs b o e).1 (I.ok.bs b o e).2 (I.ok.noex b o e)⟩
theorem Inv.bk(I:Inv X pins σ H s):∀ b o,X.base.get? b=some o->s.heap.get? b=some o:=λ b o e=>(I.bs b o e).1
theorem Inv.mod(I:Inv X pins σ H s):Mod X.K X.mg X.base:=I.ok.mod
theorem Inv.kIn(I:Inv X pins σ H s):X.K.In s.heap:=I.ok.mod.kin.keeps I.bk
theorem Inv.nolimit(I:Inv X pins σ H s):s.heap.NoLimit:=I.ok.mod.nolimit.keeps I.bk
theorem Inv.lt(I:Inv X pins σ H s):X.env.locals < s.heap.objs.size:=let ⟨_,hn,_⟩:=I.loc;hn.lt
theorem Inv.sz(I:Inv X pins σ H s):X.s₀.heap.objs.size <= s.heap.objs.size:=Nat.le_trans I.ok.above (Nat.le_of_lt I.lt)
theorem Inv.nofs(I:Inv X pins σ H s){a:Addr}(h:s.heap.objs.size <= a):a ∉ X.fs:=λ hb=>by
  obtain⟨_,o,ho,_⟩:=I.ok.funs.mem hb
  exact absurd (Nat.lt_of_lt_of_le (Heap.lt_size ho) (Nat.le_trans I.sz h)) (Nat.lt_irrefl _)
theorem Inv.cne(I:Inv X pins σ H s):∀ x c,X.env.cells.lookup x=some c->c ≠ X.env.locals:=λ x c e z=>by
  obtain⟨v,o,ho,hd⟩:=I.cell x c e
  obtain⟨m,⟨o',es,ep,ho',hd',_⟩,_⟩:=I.loc
  rw[z,ho']at ho;cases ho;rw[hd']at hd;cases hd
theorem Inv.funs(I:Inv X pins σ H s):s.heap.FunFrames X.base X.outer:=by
  have all:∀ (l:List Env),(∀ b ∈ frs l,b ∈ X.fs)->X.s₀.heap.FunFrames X.base l->s.heap.FunFrames X.base l:=by
    intro l
    induction l with
    | nil=>intro _ _;trivial
    | cons env r ih=>
      intro hs hl
      obtain⟨hk,⟨L,o,hf,hn,ho,hd⟩,hr⟩:=hl
      have hL:L ∈ X.fs:=hs L (by unfold frs;rw[List.filterMap_cons,hf];exact List.mem_cons_self)
      obtain⟨sl,e⟩:=I.base.slot L o ho (I.ok.frf L hL) hL λ z=>I.ok.exfs L z hL
      exact⟨hk,⟨L,_,hf,hn,e,hd⟩,ih (λ b hb=>hs b (by unfold frs;rw[List.filterMap_cons,hf];exact List.mem_cons_of_mem _ hb)) hr⟩
  exact all X.outer (λ _ hb=>hb) I.ok.funs
theorem Inv.stack(I:Inv X pins σ H s):s.heap.FunFrames X.base X.stack:=by
  rcases I.ok.stk with e|⟨e,hf⟩
  . rw[e];exact I.funs
  . rw[e]
    obtain⟨m,hn,_⟩:=I.loc
    refine .cons (by rw[I.ok.kind];decide) hf hn ?_ I.funs
    exact Heap.get?_none_of_le (Nat.le_trans I.ok.bsz I.ok.above)
theorem Inv.stkSub(I:Inv X pins σ H s):∀ b ∈ frs X.stack,b ∈ X.env.locals :: X.fs:=λ b hb=>by
  rcases I.ok.stk with e|⟨e,hf⟩
  . rw[e]at hb;exact List.mem_cons_of_mem _ hb
  . rw[e]at hb
    unfold frs at hb
    rw[List.filterMap_cons,hf]at hb
    exact hb
theorem Inv.stkFree(I:Inv X pins σ H s):∀ b ∈ frs X.stack,H b=none:=λ b hb=>by
  rcases List.mem_cons.mp (I.stkSub b hb)with e|hb
  . rw[e];exact I.free
  . obtain⟨_,o,ho,_⟩:=I.ok.funs.mem hb
    exact I.base.free b o ho (I.ok.frf b hb) λ z=>I.ok.exfs b z hb
theorem Inv.step{g':Array GenState}{t':Nat}{d':Drawn}{ch:List Addr}(I:Inv X pins σ H s)
    (hch:∀ b ∈ ch,(b ∈ X.ex ∨ X.s₀.heap.objs.size <= b)/\b ≠ X.env.locals/\(∀ x c,X.env.cells.lookup x=some c->c ≠ b)/\∀ p ∈ X.pn ++ pins,p.1 ≠ b)
    (keep:∀ b o,b ≠ X.env.locals->b ∉ X.fs->b ∉ ch->s.heap.get? b=some o->H b=none->h'.get? b=some o)
    (slot:∀ b o,b ≠ X.env.locals->b ∈ X.fs->b ∉ ch->s.heap.get? b=some o->H b=none->∃ sl,h'.get? b=some { o with slots:=sl }) (free:∀ b o,b ∉ ch->s.heap.get? b=some o->H b=none->H' b=none)
    (there:∀ b o,b ∉ ch->s.heap.get? b=some o->∃ o',h'.get? b=some o')
    (tups:∀ b xs,H b=some (.tup xs)->H' b=some (.tup xs)) (frzs:∀ b o u,H b=some (.frz o u)->H' b=some (.frz o u)) (tbls:∀ b ps,H b=some (.tbl ps)->∃ more,H' b=some (.tbl (ps ++ more)))
    (ns:∀ m,s.heap.Ns X.env.locals m->h'.Ns X.env.locals m) (hok:HOk X.prog X.w H' h') (hg:AllBare g') :
    Inv X pins σ H' { s with heap:=h',gens:=g',drawn:=d',toks:=t' }:=by
  have neL:∀ b o,X.s₀.heap.get? b=some o->b ≠ X.env.locals:=λ b o e=>Nat.ne_of_lt (Nat.lt_of_lt_of_le (Heap.lt_size e) I.ok.above)
  have neC:∀ b o,X.s₀.heap.get? b=some o->b ∉ X.ex->b ∉ ch:=λ b o e hx hb=>by
    rcases(hch b hb).1 with z|z
    . exact hx z
    . exact absurd (Nat.lt_of_lt_of_le (Heap.lt_size e) z) (Nat.lt_irrefl _)
  have cellK:∀ x c,X.env.cells.lookup x=some c->∀ v,s.heap.IsCell c v->h'.IsCell c v:=λ x c e v ⟨o,ho,hd⟩=>by
    have nch:c ∉ ch:=λ z=>(hch c z).2.2.1 x c e rfl
    by_cases hc:c ∈ X.fs
    . obtain⟨sl,q⟩:=slot c o (I.cne x c e) hc nch ho (I.freeC x c e)
      exact⟨_,q,hd⟩
    . exact⟨o,keep c o (I.cne x c e) hc nch ho (I.freeC x c e),hd⟩
  refine⟨I.ok,I.os,hg,⟨λ b o e n hb hx=>?_,λ b o e n hb hx=>?_,λ b o e n hx=>?_,λ b o e hx=>?_,λ b xs e=>tups b xs (I.base.tups b xs e),λ b o xs e=>frzs b o xs (I.base.frzs b o xs e),λ b ps e=>?_⟩,?_,λ x c e=>?_,?_,λ x c e=>?_,λ p hp=>?_,hok,I.len⟩
  . exact keep b o (neL b o e) hb (neC b o e hx) (I.base.keep b o e n hb hx) (I.base.free b o e n hx)
  . obtain⟨sl,e1⟩:=I.base.slot b o e n hb hx
    obtain⟨sl',e2⟩:=slot b _ (neL b o e) hb (neC b o e hx) e1 (I.base.free b o e n hx)
    exact⟨sl',e2⟩
  . obtain⟨o',e1⟩:=I.base.there b o e hx
    exact free b o' (neC b o e hx) e1 (I.base.free b o e n hx)
  . obtain⟨o',e1⟩:=I.base.there b o e hx
    exact there b o' (neC b o e hx) e1
  . obtain⟨m1,e1⟩:=I.base.tbls b ps e
    obtain⟨m2,e2⟩:=tbls b _ e1
    exact⟨m1 ++ m2,by rw[e2,Array.append_assoc]⟩
  . obtain⟨m,hn,hl⟩:=I.loc
    refine⟨m,ns m hn,λ i x v e1 e2 e3=>?_⟩
    obtain⟨u,r,l⟩:=hl i x v e1 e2 e3
    refine⟨u,r,?_⟩
    rcases l with l|⟨k,c,e,z⟩
    . exact .inl l
    . exact .inr ⟨k,c,e,cellK x c e _ z⟩
  . obtain⟨v,z⟩:=I.cell x c e
    exact⟨v,cellK x c e v z⟩
  . obtain⟨m,⟨o,_,_,ho,_⟩,_⟩:=I.loc
    exact free _ o (λ z=>(hch _ z).2.1 rfl) ho I.free
  . obtain⟨v,o,ho,hd⟩:=I.cell x c e
    exact free c o (λ z=>(hch c z).2.2.1 x c e rfl) ho (I.freeC x c e)
  . obtain⟨e,n,ne,nf,d⟩:=I.pin p hp
    have nch:p.1 ∉ ch:=λ z=>(hch p.1 z).2.2.2 p hp rfl
    exact⟨keep p.1 p.2 ne nf nch e n,free p.1 p.2 nch e n,ne,nf,d⟩
theorem Inv.un{t':Nat}(I:Inv X pins σ H s)(u:Un X.fs [] H H' s.heap h')(hok:HOk X.prog X.w H' h'):Inv X pins σ H' { s with heap:=h',toks:=t' }:=by
  obtain⟨m,⟨o,es,ep,ho,r⟩,_⟩:=id I.loc
  obtain⟨sl,hL⟩:=u.any ho I.free (by simp)
  exact I.step (g':=s.gens) (d':=s.drawn) (ch:=[]) (λ _ z=>nomatch z) (λ b o _ hb _ e n=>u.keep b o e n hb (by simp)) (λ b o _ hb _ e n=>u.slot b o e n hb (by simp)) (λ b o _ e n=>u.free b o e n (by simp)) (λ b o _ e=>u.there b o e (by simp)) u.tups u.frzs u.tbls (λ m' hm=>by
    obtain⟨o',es',ep',ho',r'⟩:=hm
    rw[ho]at ho';cases ho'
    exact⟨_,es',ep',hL,r'⟩) hok I.bare
theorem Inv.call{g':Array GenState}{t':Nat}{d':Drawn}{ch:List Addr}(I:Inv X pins σ H s)(u:Un (frs X.stack) ch H H' s.heap h')(hok:HOk X.prog X.w H' h')(hg:AllBare g')
    (hch:∀ b ∈ ch,(b ∈ X.ex ∨ X.s₀.heap.objs.size <= b)/\b ≠ X.env.locals/\(∀ x c,X.env.cells.lookup x=some c->c ≠ b)/\∀ p ∈ X.pn ++ pins,p.1 ≠ b) :
    Inv X pins σ H' { s with heap:=h',gens:=g',drawn:=d',toks:=t' }:=by
  obtain⟨m,⟨o,es,ep,ho,r⟩,_⟩:=id I.loc
  obtain⟨sl,hL⟩:=u.any ho I.free λ z=>(hch _ z).2.1 rfl
  exact I.step (ch:=ch) hch (λ b o hL hb hc e n=>u.keep b o e n (λ z=>(List.mem_cons.mp (I.stkSub b z)).elim hL hb) hc) (λ b o _ _ hc e n=>u.any e n hc) (λ b o hc e n=>u.free b o e n hc) (λ b o hc e=>u.there b o e hc) u.tups u.frzs u.tbls (λ m' hm=>by
    obtain⟨o',es',ep',ho',r'⟩:=hm
    rw[ho]at ho';cases ho'
    exact⟨_,es',ep',hL,r'⟩) hok hg
theorem Inv.turned{t':Nat}{it:Addr}(I:Inv X pins σ H s)(k:∀ b o,b ≠ it->s.heap.get? b=some o->h'.get? b=some o)(hn:H it=none)(hL:it ≠ X.env.locals)
    (h1:it ∈ X.ex ∨ X.s₀.heap.objs.size <= it) (h2:∀ x c,X.env.cells.lookup x=some c->c ≠ it) (h3:∀ p ∈ X.pn ++ pins,p.1 ≠ it):Inv X pins σ H { s with heap:=h',toks:=t' }:=by
  have nit:∀ b u,H b=some u->b ≠ it:=λ b u e z=>by rw[z,hn]at e;cases e
  refine I.step (g':=s.gens) (d':=s.drawn) (ch:=[it]) (λ b hb=>?_) (λ b o _ _ hc e _=>k b o (λ z=>hc (by simp[z])) e) (λ b o _ _ hc e _=>⟨o.slots,k b o (λ z=>hc (by simp[z])) e⟩) (λ _ _ _ _ n=>n)
    (λ b o hc e=>⟨o,k b o (λ z=>hc (by simp[z])) e⟩) (λ _ _ e=>e) (λ _ _ _ e=>e) (λ b ps e=>⟨#[],by rw[e];simp⟩) (λ m hm=>?_) (λ b u e=>?_) I.bare
  . have e:b=it:=by simpa using hb
    subst e
    exact⟨h1,hL,h2,h3⟩
  . obtain⟨o,es,ep,ho,r⟩:=hm
    exact⟨o,es,ep,k _ o (Ne.symm hL) ho,r⟩
  . refine(I.hok b u e).stay (λ c v hc q=>k c v ?_ q) (λ _ q=>q) λ _ _ q=>q
    rcases hc with z|z
    . rw[z];exact nit b u e
    . exact nit c _ z
theorem Inv.tok(I:Inv X pins σ H s)(t:Nat):Inv X pins σ H { s with toks:=t }:=I.un (h':=s.heap) (t':=t) Un.refl I.hok
theorem Inv.kept{t':Nat}(I:Inv X pins σ H s)(k:∀ b u,s.heap.get? b=some u->h'.get? b=some u):Inv X pins σ H { s with heap:=h',toks:=t' }:=I.un (Un.kept k) (I.hok.kept k)
theorem Inv.laid{a:Addr}{o:HO}{t':Nat}(I:Inv X pins σ H s)(k:∀ b u,s.heap.get? b=some u->h'.get? b=some u)(hp:s.heap.objs.size <= a)(new:ObjOk X.prog X.w (upd H a o) h' a o) :
    Inv X pins σ (upd H a o) { s with heap:=h',toks:=t' }:=I.un (Un.laid k hp (I.hok.fresh hp)) (I.hok.laid k hp new)
theorem Inv.write{x e:Addr}{o:HO}{t':Nat}(I:Inv X pins σ H s)(mu:Mut (H x))(he:e=x ∨ H e=some (.own x))(k:∀ b u,b ≠ e->s.heap.get? b=some u->h'.get? b=some u)(heo:∃ u,h'.get? e=some u)
    (new:ObjOk X.prog X.w (upd H x o) h' x o):Inv X pins σ (upd H x o) { s with heap:=h',toks:=t' }:=I.un (Un.write mu he k heo) (I.hok.write mu he k heo new)
theorem Inv.pins_of{pins':List (Addr × Obj)}(I:Inv X pins σ H s)(h:∀ p ∈ pins',s.heap.get? p.1=some p.2/\H p.1=none/\p.1 ≠ X.env.locals/\p.1 ∉ X.fs/\∀ v,p.2.data ≠ .cell v):Inv X pins' σ H s:=
  ⟨I.ok,I.os,I.bare,I.base,I.loc,I.cell,I.free,I.freeC,λ p hp=>(List.mem_append.mp hp).elim (λ z=>I.pin p (List.mem_append_left _ z)) (h p),I.hok,I.len⟩
theorem Lm{N:List Str}(hN:N.Nodup){i j:Nat}{x:Str}(a:N[i]? = some x)(b:N[j]? = some x):i=j:=by
  obtain⟨h1,e1⟩:=List.getElem?_eq_some_iff.mp a
  obtain⟨h2,e2⟩:=List.getElem?_eq_some_iff.mp b
  exact(List.getElem_inj hN).mp (e1.trans e2.symm)
theorem KN{M:Model}{A:Around}{E:Value->Shared->Prop}{i:Nat}{x:Str}{v:V}{u:Value}{Q:Unit->Shared->Prop}(I:Inv X pins σ H s)(hN:X.N.Nodup)(hi:X.N[i]? = some x)(hx:Loc X.env.scope x)(r:RelV v u)
    (h:∀ s',Inv X pins (σ.set i (some v)) H s'->(∃ a,Heap.SameBut a s.heap s'.heap/\(a=X.env.locals ∨ X.env.cells.lookup x=some a))->Q () s') (hf:X.fn x=true ∨ X.env.scope.names.lookup x=some .local:=by first|exact .inl rfl|exact .inr rfl|assumption):wpAny M A (storeName X.env x u) Q E s:=by
  obtain⟨m,hn,hl⟩:=id I.loc
  have hcls:(X.env.scope.kind == .class || (X.env.scope.kind == .module && X.env.locals != X.env.globals))=false:=by rw[I.ok.kind];rfl
  have hiσ:i < σ.length:=by rw[I.len];exact(List.getElem?_eq_some_iff.mp hi).1
  have cne:=I.cne
  have tracked:∀ {a:Addr} {h':Heap},(∃ o,s.heap.get? a=some o/\H a=none)->Heap.SameBut a s.heap h'->HOk X.prog X.w H h':=λ {a h'} ha hs b ob e=>by
    obtain⟨_,_,hfree⟩:=ha
    refine(I.hok b ob e).stay (λ c w' hc q=>(hs.2 c ?_).trans q) (λ _ q=>q) λ _ _ q=>q
    rintro rfl
    rcases hc with rfl|hc
    . rw[hfree]at e;cases e
    . rw[hfree]at hc;cases hc
  rcases hx with hk|hk
  . refine wpAny_storeName_local hk hn (λ h' hn' hs=>?_) hcls
    obtain⟨oL,_,_,hoL,_⟩:=id hn
    refine h _ ⟨I.ok,I.os,I.bare,⟨λ b o e n hb hx=>?_,λ b o e n hb hx=>?_,I.base.free,λ b o e hx=>?_,I.base.tups,I.base.frzs,I.base.tbls⟩,⟨_,hn',λ j y v' e1 e2 e3=>?_⟩,λ y c e=>?_,I.free,I.freeC,λ p hp=>?_,tracked ⟨oL,hoL,I.free⟩ hs,by simpa using I.len⟩ ⟨_,hs,.inl rfl⟩
    . exact(hs.2 b (Nat.ne_of_lt (Nat.lt_of_lt_of_le (Heap.lt_size e) I.ok.above))).trans (I.base.keep b o e n hb hx)
    . obtain⟨sl,e1⟩:=I.base.slot b o e n hb hx
      exact⟨sl,(hs.2 b (Nat.ne_of_lt (Nat.lt_of_lt_of_le (Heap.lt_size e) I.ok.above))).trans e1⟩
    . obtain⟨o',e1⟩:=I.base.there b o e hx
      exact⟨o',(hs.2 b (Nat.ne_of_lt (Nat.lt_of_lt_of_le (Heap.lt_size e) I.ok.above))).trans e1⟩
    . by_cases hj:j=i
      . subst hj
        rw[hi]at e1;cases e1
        rw[List.getElem?_set_self hiσ]at e2
        cases e2
        exact⟨u,r,.inl ⟨hk,by simp⟩⟩
      . rw[List.getElem?_set_ne (Ne.symm hj)]at e2
        obtain⟨u',r',q⟩:=hl j y v' e1 e2 e3
        refine⟨u',r',?_⟩
        rcases q with⟨k,e⟩|⟨k,c,e,z⟩
        . refine .inl ⟨k,?_⟩
          have:y ≠ x:=λ e=>hj (Lm hN e1 (e ▸ hi))
          simp[this,e]
        . exact .inr ⟨k,c,e,z.sameBut hs (cne y c e)⟩
    . obtain⟨w',z⟩:=I.cell y c e
      exact⟨w',z.sameBut hs (cne y c e)⟩
    . obtain⟨e,n,ne,nf,d⟩:=I.pin p hp
      exact⟨(hs.2 p.1 ne).trans e,n,ne,nf,d⟩
  . have hfn:X.fn x=true:=by
      rcases hf with z|z
      . exact z
      . rw[z]at hk;cases hk
    obtain⟨c,hc⟩:=I.ok.has x (.inl hk)
    obtain⟨w',z⟩:=I.cell x c hc
    refine wpAny_storeName_cell I.ok.kind hk hc z (λ h' hc' hs=>?_)
    obtain⟨oc,hoc,hocd⟩:=id z
    refine h { s with heap:=h' } ⟨I.ok,I.os,I.bare,⟨λ b o e n hb hx=>?_,λ b o e n hb hx=>?_,I.base.free,λ b o e hx=>?_,I.base.tups,I.base.frzs,I.base.tbls⟩,⟨m,hn.sameBut hs (Ne.symm (cne x c hc)),λ j y v' e1 e2 e3=>?_⟩,λ y c' e=>?_,I.free,I.freeC,λ p hp=>?_,tracked ⟨oc,hoc,I.freeC x c hc⟩ hs,by simpa using I.len⟩ ⟨c,hs,.inr hc⟩
    . exact(hs.2 b (Nat.ne_of_lt (Nat.lt_of_lt_of_le (Heap.lt_size e) (I.ok.cab x c hfn hc)))).trans (I.base.keep b o e n hb hx)
    . obtain⟨sl,e1⟩:=I.base.slot b o e n hb hx
      exact⟨sl,(hs.2 b (Nat.ne_of_lt (Nat.lt_of_lt_of_le (Heap.lt_size e) (I.ok.cab x c hfn hc)))).trans e1⟩
    . obtain⟨o',e1⟩:=I.base.there b o e hx
      exact⟨o',(hs.2 b (Nat.ne_of_lt (Nat.lt_of_lt_of_le (Heap.lt_size e) (I.ok.cab x c hfn hc)))).trans e1⟩
    . by_cases hj:j=i
      . subst hj
        rw[hi]at e1;cases e1
        rw[List.getElem?_set_self hiσ]at e2
        cases e2
        exact⟨u,r,.inr ⟨.inl hk,c,hc,hc'⟩⟩
      . rw[List.getElem?_set_ne (Ne.symm hj)]at e2
        obtain⟨u',r',q⟩:=hl j y v' e1 e2 e3
        refine⟨u',r',?_⟩
        rcases q with q|⟨k,c',e,z'⟩
        . exact .inl q
        . refine .inr ⟨k,c',e,z'.sameBut hs ?_⟩
          rintro rfl
          exact hj (Lm hN e1 (I.ok.inj _ _ _ e hc ▸ hi))
    . by_cases hcc:c'=c
      . subst hcc;exact⟨_,hc'⟩
      . obtain⟨w2,z2⟩:=I.cell y c' e
        exact⟨w2,z2.sameBut hs hcc⟩
    . obtain⟨e,n,ne,nf,d⟩:=I.pin p hp
      refine⟨(hs.2 p.1 ?_).trans e,n,ne,nf,d⟩
      intro q
      rw[q,hoc]at e
      have q':oc=p.2:=Option.some.inj e
      exact d w' (by rw[<- q'];exact hocd)
theorem LJ{M:Model}{A:Around}{E:Value->Shared->Prop}{i:Nat}{x:Str}{v:V}{u:Value}{Q:Unit->Shared->Prop}(I:Inv X pins σ H s)(hN:X.N.Nodup)(hi:X.N[i]? = some x)(hx:Loc X.env.scope x)(r:RelV v u)
    (h:∀ s',Inv X pins (σ.set i (some v)) H s'->Q () s') (hf:X.fn x=true ∨ X.env.scope.names.lookup x=some .local:=by first|exact .inl rfl|exact .inr rfl|assumption):wpAny M A (storeName X.env x u) Q E s:=
  KN I hN hi hx r (λ s' I' _=>h s' I') hf
theorem Inv.call'{s':Shared}{ch:List Addr}(I:Inv X pins σ H s)(ho:s'.os=s.os)(u:Un (frs X.stack) ch H H' s.heap s'.heap)(hok:HOk X.prog X.w H' s'.heap)(hg:AllBare s'.gens)
    (hch:∀ b ∈ ch,(b ∈ X.ex ∨ X.s₀.heap.objs.size <= b)/\b ≠ X.env.locals/\(∀ x c,X.env.cells.lookup x=some c->c ≠ b)/\∀ p ∈ X.pn ++ pins,p.1 ≠ b):Inv X pins σ H' s':=by
  obtain⟨h',g',d',t',o'⟩:=s'
  have e:o'=s.os:=ho
  subst e
  exact I.call (g':=g') (t':=t') (d':=d') u hok hg hch
end
noncomputable abbrev XK:=Value->Option Addr->Hp->Prop
noncomputable abbrev St:=List (Option V)
noncomputable abbrev VK:=V->Hp->Prop
noncomputable abbrev TE:=St->Hp->VK->Prop
noncomputable abbrev TT:=St->Hp->(Bool->Hp->Prop)->Prop
noncomputable abbrev TA:=St->Hp->(List V->Hp->Prop)->Prop
structure Ends where
  nx:St->Hp->Prop
  rt:VK
  bk:St->Hp->Prop:=λ _ _=>False
  ct:St->Hp->Prop:=λ _ _=>False
noncomputable abbrev TS:=Ends->St->Hp->Prop
noncomputable def EP(X:Cx)(pins:List (Addr × Obj))(σ:St)(Q:VK)(u:Value)(s':Shared):Prop:=∃ v H',Inv X pins σ H' s'/\RelV v u/\Q v H'
noncomputable def TP(X:Cx)(pins:List (Addr × Obj))(σ:St)(Q:Bool->Hp->Prop)(b:Bool)(s':Shared):Prop:=∃ H',Inv X pins σ H' s'/\Q b H'
noncomputable def AP(X:Cx)(pins:List (Addr × Obj))(σ:St)(Q:List V->Hp->Prop)(us:List Value)(s':Shared):Prop:=∃ vs H',Inv X pins σ H' s'/\Vals vs us/\Q vs H'
noncomputable def SP(X:Cx)(pins:List (Addr × Obj))(D:Ends)(f:Flow)(s':Shared):Prop:=
  match f with
  | .next=>∃ σ' H',Inv X pins σ' H' s'/\D.nx σ' H'
  | .brk=>∃ σ' H',Inv X pins σ' H' s'/\D.bk σ' H'
  | .cont=>∃ σ' H',Inv X pins σ' H' s'/\D.ct σ' H'
  | .ret u=>∃ v σ' H',Inv X pins σ' H' s'/\RelV v u/\D.rt v H'
noncomputable def PE(X:Cx)(e:Expr)(t:TE):Prop:=
  ∀ (pins:List (Addr × Obj)) (s:Shared) (σ:St) (H:Hp) (Q:VK),Inv X pins σ H s->t σ H Q->wpAny (model X.prog X.w) X.A (eval e X.env) (EP X pins σ Q) X.xe s
noncomputable def PT(X:Cx)(e:Expr)(t:TT):Prop:=
  ∀ (pins:List (Addr × Obj)) (s:Shared) (σ:St) (H:Hp) (Q:Bool->Hp->Prop),Inv X pins σ H s->t σ H Q->wpAny (model X.prog X.w) X.A (isTrue e X.env (eval e X.env)) (TP X pins σ Q) X.xe s
noncomputable def PW(X:Cx)(e:Expr)(t:TT):Prop:=
  ∀ (whole:Sem Value) (pins:List (Addr × Obj)) (s:Shared) (σ:St) (H:Hp) (Q:Bool->Hp->Prop),Inv X pins σ H s->t σ H Q->wpAny (model X.prog X.w) X.A (isTrue e X.env whole) (TP X pins σ Q) X.xe s
theorem PW.pt{X:Cx}{e:Expr}{t:TT}(h:PW X e t):PT X e t:=h _
noncomputable def PA(X:Cx)(es:List Expr)(t:TA):Prop:=
  ∀ (pos:Pos) (pins:List (Addr × Obj)) (s:Shared) (σ:St) (H:Hp) (Q:List V->Hp->Prop),Inv X pins σ H s->t σ H Q->wpAny (model X.prog X.w) X.A (spliced (backTo pos (starEach es X.env))) (AP X pins σ Q) X.xe s
noncomputable def PS(X:Cx)(st:Stmt)(t:TS):Prop:=
  ∀ (pins:List (Addr × Obj)) (s:Shared) (σ:St) (H:Hp) (D:Ends),Inv X pins σ H s->t D σ H->wpAny (model X.prog X.w) X.A (exec st X.env) (SP X pins D) X.xe s
noncomputable def PSs(X:Cx)(st:List Stmt)(t:TS):Prop:=
  ∀ (pins:List (Addr × Obj)) (s:Shared) (σ:St) (H:Hp) (D:Ends),Inv X pins σ H s->t D σ H->wpAny (model X.prog X.w) X.A (execs st X.env) (SP X pins D) X.xe s
theorem thn{α:Type}{t:Sem α}{Q Q':α->Shared->Prop}{M:Model}{A:Around}{E:Value->Shared->Prop}{s:Shared}(h:wpAny M A t Q E s)(hQ:∀ a s,Q a s->Q' a s):wpAny M A t Q' E s:=wpAny_mono h hQ λ _ _ x=>x
end L2
namespace L2
open PySem PySem.Spec PyProof.Rows
section
variable{X:Cx}
theorem bin{a b:Expr}{ta tb:TE}(ha:PE X a ta)(hb:PE X b tb){pins:List (Addr × Obj)}{s:Shared}{σ:St}{H:Hp}{R:V->V->Hp->Prop}(I:Inv X pins σ H s)(h:ta σ H λ x H1=>tb σ H1 λ y H2=>R x y H2)
    {α:Type} {Q:α->Shared->Prop} {f:Value->Value->Sem α}
    (hf:∀ v u s2 x y H2,Inv X pins σ H2 s2->RelV x v->RelV y u->R x y H2->wpAny (model X.prog X.w) X.A (f v u) Q X.xe s2) :
    wpAny (model X.prog X.w) X.A (eval a X.env) (λ v s₁=>wpAny (model X.prog X.w) X.A (eval b X.env) (λ u s₂=>wpAny (model X.prog X.w) X.A (f v u) Q X.xe s₂) X.xe s₁) X.xe s:=by
  refine thn (ha pins s σ H _ I h) λ v s1 ⟨x,H1,I1,r1,q1⟩=>?_
  refine thn (hb pins s1 σ H1 _ I1 q1) λ u s2 ⟨y,H2,I2,r2,q2⟩=>?_
  exact hf v u s2 x y H2 I2 r1 r2 q2
noncomputable def NU(i:Nat):TE:=λ σ H Q=>∃ v,σ[i]? = some (some v)/\Q v H
noncomputable def tC(v:V):TE:=λ _ H Q=>Q v H
theorem P6{i:Nat}{x:Str}{pos:Pos}(hN:X.N[i]? = some x)(hv:Vis X.env.scope x)(hd:(x == ("__debug__":Str))=false:=by decide)(hcd:(x == ("__classdict__":Str))=false:=by decide):PE X (.Name x pos) (NU i):=by
  intro pins s σ H Q I h
  obtain⟨v,e,h⟩:=h
  obtain⟨m,hn,hl⟩:=I.loc
  obtain⟨u,r,l⟩:=hl i x v hN e hv
  have fin:EP X pins σ Q u s:=⟨v,H,I,r,h⟩
  rcases l with⟨hk,hm⟩|⟨hk,c,hc,hcell⟩
  . exact wpAny_Name (wpAny_loadName_local I.ok.kind hk hn hm fin) hd
  . rcases hk with hk|hk
    . exact wpAny_Name (wpAny_loadName_cell I.ok.kind hk hc hcell fin) hd
    . exact wpAny_Name (wpAny_loadName_free I.ok.kind hk hc hcell fin hcd) hd
theorem V1{i j pos}:PE X (.Constant (.int i) j pos) (tC (.int i)):=λ _ _ _ H _ I h=>wpAny_Constant_int ⟨.int i,H,I.tok _,⟨_,rfl⟩,h⟩
theorem W4{b j pos}:PE X (.Constant (.bool b) j pos) (tC (.bl b)):=λ _ _ _ H _ I h=>Constant_bool ⟨.bl b,H,I,rfl,h⟩
theorem Uy{j pos}:PE X (.Constant .none j pos) (tC .non):=λ _ _ _ H _ I h=>Constant_none ⟨.non,H,I,rfl,h⟩
theorem Uv{x j pos}:PE X (.Constant (.str x) j pos) (tC (.str x)):=λ _ _ _ H _ I h=>Calls.Constant_str ⟨.str x,H,I.tok _,⟨_,rfl⟩,h⟩
noncomputable def Gl(X:Cx)(x:Str):Prop:=X.env.kindOf x=some .globalImplicit
theorem Th{E:Value->Shared->Prop}{pins:List (Addr × Obj)}{s:Shared}{σ:St}{H:Hp}{x:Str}{u:Value}{pos:Pos}{Q:Value->Shared->Prop}(I:Inv X pins σ H s)(hg:Gl X x)(hm:X.mg x=some u)(h:Q u s)
    (hd:(x == ("__debug__":Str))=false:=by decide):wpAny (model X.prog X.w) X.A (eval (.Name x pos) X.env) Q E s:=
  Calls.Name_function_global I.ok.kind hg (Calls.loadGlobal_global (by rw[I.ok.glob];exact I.mod.glob.keeps I.bk) hm h) hd
theorem Ds{E:Value->Shared->Prop}{pins:List (Addr × Obj)}{s:Shared}{σ:St}{H:Hp}{x:Str}{u:Value}{pos:Pos}{Q:Value->Shared->Prop}(I:Inv X pins σ H s)(hg:Gl X x)(hm:X.mg x=none)(hv:bootBuiltins x=some u)(h:Q u s)
    (hn:x ≠ "__name__":=by decide) (hd:(x == ("__debug__":Str))=false:=by decide):wpAny (model X.prog X.w) X.A (eval (.Name x pos) X.env) Q E s:=by
  obtain⟨mb,h1,h2⟩:=I.mod.blt
  exact Calls.Name_function_global I.ok.kind hg (Calls.loadGlobal_builtin (by rw[I.ok.glob];exact I.mod.glob.keeps I.bk) hm (by rw[I.ok.blt];exact h1.keeps I.bk) ((h2 x hn).trans hv) h) hd
variable{a b:Expr}{ta tb:TE}{pos:Pos}
noncomputable def PC(X:Cx)(op:CmpOp)(a b:Expr)(t:TE):Prop:=
  ∀ (pins:List (Addr × Obj)) (s:Shared) (σ:St) (H:Hp) (Q:VK),Inv X pins σ H s->t σ H Q ->
    wpAny (model X.prog X.w) X.A (eval a X.env) (λ v s₁=>wpAny (model X.prog X.w) X.A (eval b X.env) (λ u s₂=>wpAny (model X.prog X.w) X.A (compareOp op v u) (EP X pins σ Q) X.xe s₂) X.xe s₁) X.xe s
theorem Ln(b:Expr){op:CmpOp}(h:op ≠ .In)(h2:op ≠ .NotIn):behindInMarks op b=false:=by
  have e1:(op == CmpOp.In)=false:=by cases op <;> first|rfl|exact absurd rfl h
  have e2:(op == CmpOp.NotIn)=false:=by cases op <;> first|rfl|exact absurd rfl h2
  cases b <;> simp[behindInMarks,e1,e2]
noncomputable def NZ(ta:TE):TE:=λ σ H Q=>ta σ H λ x H1=>Q (.bl (decide (x=.non))) H1
noncomputable def Ks(ta:TE):TE:=λ σ H Q=>ta σ H λ x H1=>Q (.bl (!decide (x=.non))) H1
theorem RelV.none_iff{x:V}{v:Value}(r:RelV x v):(v == Value.none)=decide (x=.non):=by
  cases x with
  | non=>cases r;rfl
  | bl _=>cases r;rfl
  | int _=>obtain⟨t,rfl⟩:=r;rfl
  | str _=>obtain⟨t,rfl⟩:=r;rfl
  | byt _=>obtain⟨t,rfl⟩:=r;rfl
  | flt _=>obtain⟨t,rfl⟩:=r;rfl
  | ref _=>cases r;rfl
  | ty _=>cases r;rfl
theorem P8{j pos'}(ha:PE X a ta):PC X .Is a (.Constant .none j pos') (NZ ta):=by
  intro pins s σ H Q I h
  refine thn (ha pins s σ H _ I h) λ v s1 ⟨x,H1,I1,r1,q1⟩=>?_
  exact Constant_none (is_none_gen ⟨.bl _,H1,I1,by rw[r1.none_iff];rfl,q1⟩)
theorem N4{j pos'}(ha:PE X a ta):PC X .IsNot a (.Constant .none j pos') (Ks ta):=by
  intro pins s σ H Q I h
  refine thn (ha pins s σ H _ I h) λ v s1 ⟨x,H1,I1,r1,q1⟩=>?_
  exact Constant_none (isnot_none_gen ⟨.bl _,H1,I1,by rw[r1.none_iff];rfl,q1⟩)
noncomputable def tB(t:TE):TT:=λ σ H Q=>t σ H λ x H1=>∃ c,x=.bl c/\Q c H1
theorem P7{op:CmpOp}{t:TE}(h:PC X op a b t)(h1:behindInMarks op b=false:=by first|exact Ln _ (by decide) (by decide)|rfl):PE X (.Compare a [op] [b] pos) t:=λ pins s σ H Q I hw=>wpAny_Compare1 (h pins s σ H Q I hw) h1
theorem P1{op:CmpOp}{t:TE}(h:PC X op a b t)(h1:behindInMarks op b=false:=by first|exact Ln _ (by decide) (by decide)|rfl):PT X (.Compare a [op] [b] pos) (tB t):=by
  intro pins s σ H Q I hw
  refine wpAny_isTrue_Compare1 (thn (h pins s σ H _ I hw) λ v s1 h1=>thn h1 λ u s2 h2=>thn h2 λ c s3 ⟨x,H1,I1,r1,q1⟩=>?_) h1
  obtain⟨d,rfl,q⟩:=q1
  cases r1
  exact wpAny_truthy_bool ⟨H1,I1,q⟩
variable{tA tB':TT}{rest:List Expr}
noncomputable def QC(t u:TT):TT:=λ σ H Q=>t σ H λ c H1=>if c=true then u σ H1 Q else Q false H1
noncomputable def tOr(t u:TT):TT:=λ σ H Q=>t σ H λ c H1=>if c=true then Q true H1 else u σ H1 Q
noncomputable def Q6(t:TT):TT:=λ σ H Q=>t σ H λ c H1=>Q (!c) H1
theorem T0(ha:PT X a tA):PW X (.BoolOp .And [a] pos) tA:=by
  intro wh pins s σ H Q I h
  refine isTrue_and (thn (ha pins s σ H Q I h) λ c s1 e=>?_)
  cases c with
  | true=>exact isTrue_and_nil e
  | false=>exact e
theorem Uh(ha:PT X a tA):PW X (.BoolOp .Or [a] pos) tA:=by
  intro wh pins s σ H Q I h
  refine isTrue_or (thn (ha pins s σ H Q I h) λ c s1 e=>?_)
  cases c with
  | false=>exact isTrue_or_nil e
  | true=>exact e
theorem Ui(ha:PT X a tA)(hb:PW X (.BoolOp .And (b :: rest) pos) tB'):PW X (.BoolOp .And (a :: b :: rest) pos) (QC tA tB'):=by
  intro wh pins s σ H Q I h
  refine isTrue_and (thn (ha pins s σ H _ I h) λ c s1 ⟨H1,I1,q1⟩=>?_)
  cases c with
  | true=>exact hb wh pins s1 σ H1 Q I1 q1
  | false=>exact⟨H1,I1,q1⟩
theorem Vy(ha:PT X a tA)(hb:PW X (.BoolOp .Or (b :: rest) pos) tB'):PW X (.BoolOp .Or (a :: b :: rest) pos) (tOr tA tB'):=by
  intro wh pins s σ H Q I h
  refine isTrue_or (thn (ha pins s σ H _ I h) λ c s1 ⟨H1,I1,q1⟩=>?_)
  cases c with
  | true=>exact⟨H1,I1,q1⟩
  | false=>exact hb wh pins s1 σ H1 Q I1 q1
theorem Uj(ha:PT X a tA):PT X (.UnaryOp .Not a pos) (Q6 tA):=by
  intro pins s σ H Q I h
  exact isTrue_not (ha pins s σ H (λ c H1=>Q (!c) H1) I h)
noncomputable def Nd(ta tb:TE):TE:=λ σ H Q=>ta σ H λ x H1=>∃ c,x=.bl c/\if c=true then tb σ H1 Q else Q (.bl false) H1
noncomputable def Q5(ta tb:TE):TE:=λ σ H Q=>ta σ H λ x H1=>∃ c,x=.bl c/\if c=true then Q (.bl true) H1 else tb σ H1 Q
noncomputable def NW(ta:TE):TE:=λ σ H Q=>ta σ H λ x H1=>∃ c,x=.bl c/\Q (.bl (!c)) H1
theorem Uw{op}{t:TE}(h:PE X a t):PE X (.BoolOp op [a] pos) t:=λ pins s σ H Q I hw=>BoolOp_one (h pins s σ H Q I hw)
theorem V2(ha:PE X a ta)(hb:PE X (.BoolOp .And (b :: rest) pos) tb):PE X (.BoolOp .And (a :: b :: rest) pos) (Nd ta tb):=by
  intro pins s σ H Q I h
  refine BoolOp_and (thn (ha pins s σ H _ I h) λ v s1 ⟨x,H1,I1,r1,q1⟩=>?_)
  obtain⟨c,rfl,q1⟩:=q1
  cases r1
  refine wpAny_truthy_bool ?_
  cases c with
  | true=>exact hb pins s1 σ H1 Q I1 q1
  | false=>exact⟨.bl false,H1,I1,rfl,q1⟩
theorem W2(ha:PE X a ta)(hb:PE X (.BoolOp .Or (b :: rest) pos) tb):PE X (.BoolOp .Or (a :: b :: rest) pos) (Q5 ta tb):=by
  intro pins s σ H Q I h
  refine BoolOp_or (thn (ha pins s σ H _ I h) λ v s1 ⟨x,H1,I1,r1,q1⟩=>?_)
  obtain⟨c,rfl,q1⟩:=q1
  cases r1
  refine wpAny_truthy_bool ?_
  cases c with
  | false=>exact hb pins s1 σ H1 Q I1 q1
  | true=>exact⟨.bl true,H1,I1,rfl,q1⟩
theorem Ux(ha:PE X a ta):PE X (.UnaryOp .Not a pos) (NW ta):=by
  intro pins s σ H Q I h
  refine UnaryOp_ (thn (ha pins s σ H _ I h) λ v s1 ⟨x,H1,I1,r1,q1⟩=>?_)
  obtain⟨c,rfl,q1⟩:=q1
  cases r1
  exact not_of (wpAny_truthy_bool ⟨.bl (!c),H1,I1,rfl,q1⟩)
noncomputable def tIf(t:TT)(ta tb:TE):TE:=λ σ H Q=>t σ H λ c H1=>if c=true then ta σ H1 Q else tb σ H1 Q
theorem R9{c:Expr}(hc:PT X c tA)(ha:PE X a ta)(hb:PE X b tb):PE X (.IfExp c a b pos) (tIf tA ta tb):=by
  intro pins s σ H Q I h
  refine wpAny_IfExp (thn (hc pins s σ H _ I h) λ d s1 ⟨H1,I1,q1⟩=>?_)
  cases d with
  | true=>exact ha pins s1 σ H1 Q I1 q1
  | false=>exact hb pins s1 σ H1 Q I1 q1
end
end L2
namespace L2
open PySem PySem.Spec PyProof.Rows
noncomputable def SqL(K:PySem.W.Frag)(H:Hp)(a:Addr)(xs:List V):Prop:=
  Rd H a (.lst xs) ∨
    ∃ (o:Obj) (its:Array Value) (n:Nat),K.lookup a=some o/\o.cls=.type "list"/\o.dict=none/\o.data=.seq its n/\its.size <= sizeLine/\Vals xs its.toList
noncomputable def SqT(K:PySem.W.Frag)(H:Hp)(a:Addr)(xs:List V):Prop:=
  Rd H a (.tup xs) ∨
    ∃ (o:Obj) (its:Array Value) (n:Nat),K.lookup a=some o/\o.cls=.type "tuple"/\o.data=.seq its n/\its.size <= sizeLine/\Vals xs its.toList
noncomputable def XC:Value->Option V
  | .none=>some .non
  | .bool b=>some (.bl b)
  | .int i _=>some (.int i)
  | .str x _=>some (.str x)
  | .bytes b _=>some (.byt b)
  | .float b _=>some (.flt b)
  | .ref a=>some (.ref a)
  | .type n=>some (.ty n)
  | _=>none
theorem RelV.abs{x:V}{u:Value}(r:RelV x u):XC u=some x:=by
  cases x with
  | non=>cases r;rfl
  | bl _=>cases r;rfl
  | int _=>obtain⟨t,rfl⟩:=r;rfl
  | str _=>obtain⟨t,rfl⟩:=r;rfl
  | byt _=>obtain⟨t,rfl⟩:=r;rfl
  | flt _=>obtain⟨t,rfl⟩:=r;rfl
  | ref _=>cases r;rfl
  | ty _=>cases r;rfl
theorem RelV.inj{x y:V}{u:Value}(r:RelV x u)(q:RelV y u):x=y:=Option.some.inj (r.abs.symm.trans q.abs)
theorem Vals.inj:∀ {xs ys:List V} {us:List Value},Vals xs us->Vals ys us->xs=ys
  | _,_,_,.nil,.nil=>rfl
  | _,_,_,.cons r t,.cons r' t'=>by rw[r.inj r',Vals.inj t t']
section
variable{X:Cx}{pins:List (Addr × Obj)}{σ:St}{H:Hp}{s:Shared}{a:Addr}{xs ys:List V}
theorem SqL.of{K:PySem.W.Frag}(h:H a=some (.lst xs)):SqL K H a xs:=.inl (.inl h)
theorem SqT.of{K:PySem.W.Frag}(h:H a=some (.tup xs)):SqT K H a xs:=.inl (.inl h)
theorem Inv.list(I:Inv X pins σ H s)(h:SqL X.K H a xs):∃ its:List Value,Vals xs its/\PlainL s.heap a its.toArray/\xs.length <= sizeLine:=by
  rcases h with h|⟨o,its,n,hk,hc,hd,hs,hz,r⟩
  . obtain⟨z,its,n,r,e⟩:=h.ok I.hok
    exact⟨its,r,⟨_,n,e,rfl,rfl,rfl⟩,z⟩
  . refine⟨its.toList,r,⟨o,n,I.kIn a o hk,hc,hd,by simpa using hs⟩,?_⟩
    have e:=r.length
    simp only[Array.length_toList]at e
    omega
theorem Inv.tuple(I:Inv X pins σ H s)(h:SqT X.K H a xs):∃ its:List Value,Vals xs its/\IsTup s.heap a its.toArray/\xs.length <= sizeLine:=by
  rcases h with h|⟨o,its,n,hk,hc,hs,hz,r⟩
  . obtain⟨z,its,r,p⟩:=h.ok I.hok
    exact⟨its,r,p,z⟩
  . refine⟨its.toList,r,⟨o,I.kIn a o hk,hc,n,by simpa using hs⟩,?_⟩
    have e:=r.length
    simp only[Array.length_toList]at e
    omega
theorem Inv.list_inj(I:Inv X pins σ H s)(h:SqL X.K H a xs)(h':SqL X.K H a ys):xs=ys:=by
  obtain⟨its,r,⟨o,n,e,_,_,d⟩,_⟩:=I.list h
  obtain⟨its',r',⟨o',n',e',_,_,d'⟩,_⟩:=I.list h'
  rw[e]at e';cases e'
  rw[d]at d'
  injection d' with d1 _
  have:its=its':=by simpa using congrArg Array.toList d1
  subst this
  exact r.inj r'
theorem Inv.tuple_inj(I:Inv X pins σ H s)(h:SqT X.K H a xs)(h':SqT X.K H a ys):xs=ys:=by
  obtain⟨its,r,⟨o,e,_,n,d⟩,_⟩:=I.tuple h
  obtain⟨its',r',⟨o',e',_,n',d'⟩,_⟩:=I.tuple h'
  rw[e]at e';cases e'
  rw[d]at d'
  injection d' with d1 _
  have:its=its':=by simpa using congrArg Array.toList d1
  subst this
  exact r.inj r'
end
noncomputable abbrev Cx.wish(X:Cx)(E:Value->Shared->Prop):Cx:={ X with xe:=E }
noncomputable abbrev Cx.nox(X:Cx):Cx:=X.wish λ _ _=>False
theorem Cx.Ok.wish{X:Cx}(ok:X.Ok)(E:Value->Shared->Prop):(X.wish E).Ok:=
  ⟨ok.mod,ok.kind,ok.glob,ok.blt,ok.above,ok.inj,ok.has,ok.cab,ok.hd,ok.frames,ok.stk,ok.exf,ok.bs,ok.bsz,ok.noex,ok.exfs,ok.funs,ok.frf⟩
theorem Cx.Ok.unwish{X:Cx}{E:Value->Shared->Prop}(ok:(X.wish E).Ok):X.Ok:=
  ⟨ok.mod,ok.kind,ok.glob,ok.blt,ok.above,ok.inj,ok.has,ok.cab,ok.hd,ok.frames,ok.stk,ok.exf,ok.bs,ok.bsz,ok.noex,ok.exfs,ok.funs,ok.frf⟩
section
variable{X:Cx}{pins:List (Addr × Obj)}{σ:St}{H:Hp}{s:Shared}{E:Value->Shared->Prop}
theorem Inv.wish(I:Inv X pins σ H s)(E:Value->Shared->Prop):Inv (X.wish E) pins σ H s:=⟨I.ok.wish E,I.os,I.bare,I.base,I.loc,I.cell,I.free,I.freeC,I.pin,I.hok,I.len⟩
theorem Inv.unwish(I:Inv (X.wish E) pins σ H s):Inv X pins σ H s:=⟨I.ok.unwish,I.os,I.bare,I.base,I.loc,I.cell,I.free,I.freeC,I.pin,I.hok,I.len⟩
theorem SP.unwish{D:Ends}{f:Flow}{s':Shared}(h:SP (X.wish E) pins D f s'):SP X pins D f s':=by
  cases f with
  | next=>obtain⟨σ',H',I,q⟩:=h;exact⟨σ',H',I.unwish,q⟩
  | brk=>obtain⟨σ',H',I,q⟩:=h;exact⟨σ',H',I.unwish,q⟩
  | cont=>obtain⟨σ',H',I,q⟩:=h;exact⟨σ',H',I.unwish,q⟩
  | ret u=>obtain⟨v,σ',H',I,r,q⟩:=h;exact⟨v,σ',H',I.unwish,r,q⟩
theorem PSs.nox{st:List Stmt}{t:TS}(h:PSs X.nox st t):PSs X st t:=λ pins s σ H D I hw=>
  wpAny_mono (h pins s σ H D (I.wish _) hw) (λ _ _ q=>q.unwish) λ _ _ z=>False.elim z
end
section
variable{X:Cx}{st:Stmt}{rest:List Stmt}{t u:TS}{e:Expr}{te:TE}{pos:Pos}
noncomputable def NX:TS:=λ D σ H=>D.nx σ H
noncomputable def Q3(t u:TS):TS:=λ D σ H=>t { D with nx:=u D } σ H
theorem T2:PSs X [] NX:=λ _ _ σ H _ I h=>wpAny_execs_nil ⟨σ,H,I,h⟩
theorem Qq(h1:PS X st t)(h2:PSs X rest u):PSs X (st :: rest) (Q3 t u):=by
  intro pins s σ H D I h
  refine wpAny_execs_cons (thn (h1 pins s σ H { D with nx:=u D } I h) λ f s1 q=>?_)
  cases f with
  | next=>
    obtain⟨σ',H',I',q⟩:=q
    exact h2 pins s1 σ' H' D I' q
  | ret v=>exact q
  | brk=>exact q
  | cont=>exact q
theorem T1(h1:PS X st t):PSs X [st] t:=by
  intro pins s σ H D I h
  refine wpAny_execs_cons (thn (h1 pins s σ H D I h) λ f s1 q=>?_)
  cases f with
  | next=>exact wpAny_execs_nil q
  | ret v=>exact q
  | brk=>exact q
  | cont=>exact q
theorem Inv.quiet{pins:List (Addr × Obj)}{σ:St}{H:Hp}{s:Shared}(I:Inv X pins σ H s):interactive X.env=false:=by simp[interactive,I.ok.kind]
noncomputable def Na(te:TE):TS:=λ D σ H=>te σ H λ _ H1=>D.nx σ H1
theorem T4(he:PE X e te)(hs:swapsWith e none pos.line X.env=pure false:=by rfl):PS X (.Expr e pos) (Na te):=by
  intro pins s σ H D I h
  exact wpAny_Expr_any (thn (he pins s σ H _ I h) λ v s1 ⟨x,H1,I1,r1,q1⟩=>⟨σ,H1,I1,q1⟩) I.quiet hs
noncomputable def Q4(te:TE):TS:=λ D σ H=>te σ H D.rt
theorem Ul(he:PE X e te):PS X (.Return (some e) pos) (Q4 te):=by
  intro pins s σ H D I h
  exact wpAny_Return_some (thn (he pins s σ H _ I h) λ v s1 ⟨x,H1,I1,r1,q1⟩=>⟨x,σ,H1,I1,r1,q1⟩)
noncomputable def Q9(c:TT)(t u:TS):TS:=λ D σ H=>c σ H λ b H1=>if b=true then t D σ H1 else u D σ H1
theorem W0{c:Expr}{a b:List Stmt}{tc:TT}(hc:PT X c tc)(ha:PSs X a t)(hb:PSs X b u):PS X (.If c a b pos) (Q9 tc t u):=by
  intro pins s σ H D I h
  refine wpAny_If (thn (hc pins s σ H _ I h) λ d s1 ⟨H1,I1,q1⟩=>?_)
  cases d with
  | true=>exact ha pins s1 σ H1 D I1 q1
  | false=>exact hb pins s1 σ H1 D I1 q1
noncomputable def LH:TS:=λ _ _ _=>False
theorem Qr:PS X st LH:=λ _ _ _ _ _ _ h=>h.elim
end
noncomputable abbrev TG:=V->St->Hp->(St->Hp->Prop)->Prop
noncomputable abbrev TGs:=List V->St->Hp->(St->Hp->Prop)->Prop
noncomputable def PG(X:Cx)(target:Expr)(t:TG):Prop:=
  ∀ (pins:List (Addr × Obj)) (s:Shared) (σ:St) (H:Hp) (v:V) (u:Value) (Q:St->Hp->Prop),Inv X pins σ H s->RelV v u->t v σ H Q ->
    wpAny (model X.prog X.w) X.A (assign target X.env u) (λ _ s'=>∃ σ' H',Inv X pins σ' H' s'/\Q σ' H') X.xe s
noncomputable def PGs(X:Cx)(ts:List Expr)(t:TGs):Prop:=
  ∀ (pins:List (Addr × Obj)) (s:Shared) (σ:St) (H:Hp) (vs:List V) (us:List Value) (Q:St->Hp->Prop),Inv X pins σ H s->Vals vs us->t vs σ H Q ->
    wpAny (model X.prog X.w) X.A (assignInOrder ((assignEach ts X.env).map (·.2)) us) (λ _ s'=>∃ σ' H',Inv X pins σ' H' s'/\Q σ' H') X.xe s
section
variable{X:Cx}{pos:Pos}
noncomputable def Gz(i:Nat):TG:=λ v σ H Q=>Q (σ.set i (some v)) H
theorem TJ{i:Nat}{x:Str}(hN:X.N.Nodup)(hi:X.N[i]? = some x)(hx:Loc X.env.scope x)(hf:X.fn x=true ∨ X.env.scope.names.lookup x=some .local:=by first|exact .inl rfl|exact .inr rfl|assumption):PG X (.Name x pos) (Gz i):=by
  intro pins s σ H v u Q I r h
  exact wpAny_assign_Name (LJ I hN hi hx r (λ s' I'=>⟨_,H,I',h⟩) hf)
noncomputable def Ra:TGs:=λ vs σ H Q=>vs=[]/\Q σ H
noncomputable def OM(t:TG)(u:TGs):TGs:=λ vs σ H Q=>∃ v r,vs=v :: r/\t v σ H λ σ' H'=>u r σ' H' Q
theorem TF:PGs X [] Ra:=by
  intro pins s σ H vs us Q I r h
  obtain⟨e,h⟩:=h
  subst e
  cases r
  exact assignInOrder_nil ⟨σ,H,I,h⟩
theorem Qy{e:Expr}{es:List Expr}{t:TG}{u:TGs}(h1:PG X e t)(h2:PGs X es u)
    (hs:(assignEach (e :: es) X.env).map (·.2)=assign e X.env :: (assignEach es X.env).map (·.2):=by rfl):PGs X (e :: es) (OM t u):=by
  intro pins s σ H vs us Q I r h
  obtain⟨v,vr,e1,h⟩:=h
  subst e1
  cases r with
  | cons r rr=>
    rw[hs]
    refine assignInOrder_cons (thn (h1 pins s σ H _ _ _ I r h) λ _ s1 ⟨σ1,H1,I1,q1⟩=>?_)
    exact h2 pins s1 σ1 H1 _ _ Q I1 rr q1
noncomputable def OL(K:PySem.W.Frag)(n:Nat)(t:TGs):TG:=λ v σ H Q=>∃ a xs,v=.ref a/\SqT K H a xs/\xs.length=n/\t xs σ H Q
theorem Ur{es:List Expr}{k:Nat}{t:TGs}{n:Nat}(hc:X.calm=true)(h:PGs X es t)
    (hn:(assignEach es X.env).length=n:=by rfl) (hst:(assignEach es X.env).findIdx? (·.1)=none:=by rfl):PG X (.Tuple es k pos) (OL X.K n t):=by
  intro pins s σ H v u Q I r hw
  obtain⟨a,xs,e1,hq,hl,hw⟩:=hw
  subst e1
  cases r
  obtain⟨its,rv,ht,hz⟩:=I.tuple hq
  refine assign_Tuple_tuple (I.ok.hd hc) ht (by simp[hn,<- hl,rv.length]) hst λ h' hx=>?_
  have I1:Inv X pins σ H { s with heap:=h' }:=I.kept (t':=s.toks) λ b o e=>hx b o (Nat.ne_of_lt (Heap.lt_size e)) e
  exact h pins _ σ H xs _ Q I1 (by simpa using rv) hw
noncomputable def Ii(te:TE)(g:TG):TS:=λ D σ H=>te σ H λ x H1=>g x σ H1 D.nx
theorem Uo{tg e:Expr}{te:TE}{g:TG}(he:PE X e te)(hg:PG X tg g)(hs:swapsWithSole [tg] e pos.line X.env=pure false:=by rfl)(hw:swappedStores [tg] e X.env=pure none:=by rfl)
    (h1:(assignEach [tg] X.env).map (·.2)=[assign tg X.env]:=by rfl):PS X (.Assign [tg] e pos) (Ii te g):=by
  intro pins s σ H D I h
  refine wpAny_Assign_stores (thn (he pins s σ H _ I h) λ v s1 ⟨x,H1,I1,r1,q1⟩=>?_) hs hw
  rw[h1]
  exact thn (hg pins s1 σ H1 x v _ I1 r1 q1) λ _ s2 q=>q
theorem Uk{i:Nat}{x:Str}{e:Expr}{te:TE}{pos':Pos}(hN:X.N.Nodup)(hi:X.N[i]? = some x)(hx:Loc X.env.scope x)(he:PE X e te)(hs:swapsWith e (some (.Name x pos')) pos.line X.env=pure false:=by rfl)(hf:X.fn x=true ∨ X.env.scope.names.lookup x=some .local:=by first|exact .inl rfl|exact .inr rfl|assumption) :
    PS X (.Assign [.Name x pos'] e pos) (Ii te (Gz i)):=by
  intro pins s σ H D I h
  refine wpAny_Assign_Name (thn (he pins s σ H _ I h) λ v s1 ⟨y,H1,I1,r1,q1⟩=>?_) hs
  exact LJ I1 hN hi hx r1 (λ s2 I2=>⟨_,H1,I2,q1⟩) hf
end
section
variable{X:Cx}{pos:Pos}
end
structure It where
  go:Nat->Hp->Prop
  yld:Nat->Hp->V->Hp->Prop
  stop:Nat->Hp->Prop
noncomputable def FpOk(X:Cx)(pins:List (Addr × Obj))(H:Hp)(b:Addr):Prop:=
  H b=none/\b ≠ X.env.locals/\b ∉ X.fs/\(b ∈ X.ex ∨ X.s₀.heap.objs.size <= b)/\(∀ x c,X.env.cells.lookup x=some c->c ≠ b)/\∀ p ∈ X.pn ++ pins,p.1 ≠ b
theorem Inv.fpOk{X:Cx}{pins:List (Addr × Obj)}{σ:St}{H H':Hp}{s:Shared}{b:Addr}(I:Inv X pins σ H s)(hb:s.heap.objs.size <= b)(hn:H' b=none):FpOk X pins H' b:=by
  refine⟨hn,Nat.ne_of_gt (Nat.lt_of_lt_of_le I.lt hb),I.nofs hb,.inr (Nat.le_trans I.sz hb),λ x c e z=>?_,λ p hp z=>?_⟩
  . obtain⟨v,q⟩:=I.cell x c e
    exact absurd (Nat.lt_of_lt_of_le q.lt (by rw[z];exact hb)) (Nat.lt_irrefl _)
  . exact absurd (Nat.lt_of_lt_of_le (Heap.lt_size (I.pin p hp).1) (by rw[z];exact hb)) (Nat.lt_irrefl _)
structure Turn(P:Program)(w:World)(K:PySem.W.Frag)(tg:Expr)(J:It)(fp:List Addr)(it:Addr)(tn:Nat->Heap->Prop):Prop where
  mem:it ∈ fp
  obj:∀ i h,tn i h->∀ b ∈ fp,∃ o,h.get? b=some o/\∀ v,o.data ≠ .cell v
  keep:∀ i h h',tn i h->(∀ b ∈ fp,∀ o,h.get? b=some o->h'.get? b=some o)->tn i h'
  item:∀ (X:Cx),X.prog=P->X.w=w->X.K=K->X.calm=true->∀ (i:Nat) (pins:List (Addr × Obj)) (s:Shared) (σ:St) (H:Hp) (E:Value->Shared->Prop),Inv X pins σ H s->(∀ b ∈ fp,FpOk X pins H b)->tn i s.heap->J.go i H ->
    wpAny (model P w) X.A (pyNext (.ref it)) (λ r s1=>∃ u,r=some u /\
      wpAny (model P w) X.A (letOwnedTupleGo tg (.ref it) u) (λ _ s2=>∃ x H',Inv X pins σ H' s2/\RelV x u/\J.yld i H x H'/\tn (i + 1) s2.heap/\∀ b ∈ fp,H' b=none) E s1) E s
  done:∀ (X:Cx),X.prog=P->X.w=w->X.K=K->X.calm=true->∀ (i:Nat) (pins:List (Addr × Obj)) (s:Shared) (σ:St) (H:Hp) (E:Value->Shared->Prop),Inv X pins σ H s->(∀ b ∈ fp,FpOk X pins H b)->tn i s.heap->J.stop i H ->
    wpAny (model P w) X.A (pyNext (.ref it)) (λ r s1=>r=none/\Inv X pins σ H s1) E s
  self:∀ (A:Around) (i:Nat) (s:Shared) (Q:Value->Shared->Prop) (E:Value->Shared->Prop),tn i s.heap->Q (.ref it) s->wpAny (model P w) A (pyIter (.ref it)) Q E s
noncomputable abbrev TI:=St->Hp->(It->Hp->Prop)->Prop
noncomputable def PIE(X:Cx)(pins:List (Addr × Obj))(σ:St)(tg:Expr)(R:It->Hp->Prop)(itv:Value)(s2:Shared):Prop:=
  ∃ (it:Addr) (fp:List Addr) (tn:Nat->Heap->Prop) (J:It) (H':Hp),itv=.ref it/\Inv X pins σ H' s2/\Turn X.prog X.w X.K tg J fp it tn/\tn 0 s2.heap/\(∀ b ∈ fp,FpOk X pins H' b)/\R J H'
noncomputable def PI(X:Cx)(tg iter:Expr)(wi:TI):Prop:=
  ∀ (pins:List (Addr × Obj)) (s:Shared) (σ:St) (H:Hp) (R:It->Hp->Prop),Inv X pins σ H s->wi σ H R ->
    wpAny (model X.prog X.w) X.A (eval iter X.env) (λ v s1=>wpAny (model X.prog X.w) X.A (pyIter v) (PIE X pins σ tg R) X.xe s1) X.xe s
theorem OK{M:Model}{A:Around}{E:Value->Shared->Prop}{s:Shared}{tg:Expr}{it:Addr}{u:Value}{o:Obj}{n:String}{vs:Array Value}{Q:Unit->Shared->Prop}(ho:s.heap.get? it=some o)(hc:o.cls=.type n)(hd:o.data=.fields vs)
    (hn:["enumerate","zip","dict_itemiterator","dict_reverseitemiterator","odict_iterator","itertools.zip_longest","itertools.pairwise"].contains n=false) (hQ:Q () s):wpAny M A (letOwnedTupleGo tg (.ref it) u) Q E s:=by
  unfold letOwnedTupleGo
  cases tg <;> first
    | exact wpAny_pure hQ
    | (cases u <;> first
        | exact wpAny_pure hQ
        | (refine wpAny_bind (wpAny_load ho ?_)
           rw[hc,hd]
           show wpAny M A (if(["enumerate","zip","dict_itemiterator","dict_reverseitemiterator","odict_iterator","itertools.zip_longest","itertools.pairwise"].contains n && vs[0]? == some (rawInt _))=true then _ else _) Q E s
           rw[if_neg (by intro h;rw[hn,Bool.false_and]at h;cases h)]
           exact wpAny_pure hQ))
noncomputable def Itl(K:PySem.W.Frag)(a:Addr):It:=
  ⟨λ i H=>∃ xs x,SqL K H a xs/\xs[i]? = some x,λ i H x H'=>H'=H/\∀ xs,SqL K H a xs->xs[i]? = some x,λ i H=>∃ xs,SqL K H a xs/\xs.length <= i⟩
noncomputable def Itt(K:PySem.W.Frag)(a:Addr):It:=
  ⟨λ i H=>∃ xs x,SqT K H a xs/\xs[i]? = some x,λ i H x H'=>H'=H/\∀ xs,SqT K H a xs->xs[i]? = some x,λ i H=>∃ xs,SqT K H a xs/\xs.length <= i⟩
noncomputable def Itr(lo:Int)(n:Nat):It:=⟨λ i _=>i < n,λ i H x H'=>H'=H/\x=.int (lo + i),λ i _=>n <= i⟩
theorem Oe{P:Program}{w:World}{K:PySem.W.Frag}{tg:Expr}(a it:Addr):Turn P w K tg (Itl K a) [it] it (λ i h=>h.IsListIter it a i) where
  mem:=by simp
  obj:=λ i h st b hb=>by
    have e:b=it:=by simpa using hb
    subst e
    obtain⟨o,e,c,d⟩:=st
    exact⟨o,e,λ v z=>by rw[d]at z;cases z⟩
  keep:=λ i h h' st k=>st.at λ o e=>k it (by simp) o e
  item:=by
    intro X hP hw hK hc i pins s σ H E I hf st hg
    subst hP hw hK
    obtain⟨xs,x,hq,hx⟩:=hg
    obtain⟨its,rv,p,hz⟩:=I.list hq
    obtain⟨u,hu,ru⟩:=rv.get hx
    obtain⟨f0,f1,f2,f3,f4,f5⟩:=hf it (by simp)
    refine wpAny_pyNext_list_item st p.isList (x:=u) (by simpa using hu) λ h' st' sb=>?_
    have I1:Inv X pins σ H { s with heap:=h' }:=I.turned (t':=s.toks) (λ b o hb e=>(sb.2 b hb).trans e) f0 f1 f3 f4 f5
    obtain⟨o,e,c,d⟩:=id st'
    exact⟨u,rfl,OK (s:={ s with heap:=h' }) e c d (by decide) ⟨x,H,I1,ru,⟨rfl,λ ys hy=>by rw[I.list_inj hy hq];exact hx⟩,st',λ b hb=>(hf b hb).1⟩⟩
  done:=by
    intro X hP hw hK hc i pins s σ H E I hf st hg
    subst hP hw hK
    obtain⟨xs,hq,hx⟩:=hg
    obtain⟨its,rv,p,hz⟩:=I.list hq
    obtain⟨f0,f1,f2,f3,f4,f5⟩:=hf it (by simp)
    have hl:=rv.length
    exact wpAny_pyNext_list_end (I.ok.hd hc) st p.isList (by simp;omega) λ h' eb=>⟨rfl,I.turned (t':=s.toks) (λ b o hb e=>eb b o hb e) f0 f1 f3 f4 f5⟩
  self:=λ _ _ _ _ _ st h=>wpAny_pyIter_listiter st h
theorem NO{P:Program}{w:World}{K:PySem.W.Frag}{tg:Expr}(a it:Addr):Turn P w K tg (Itt K a) [it] it (λ i h=>h.IsTupleIter it a i) where
  mem:=by simp
  obj:=λ i h st b hb=>by
    have e:b=it:=by simpa using hb
    subst e
    obtain⟨o,e,c,d⟩:=st
    exact⟨o,e,λ v z=>by rw[d]at z;cases z⟩
  keep:=λ i h h' st k=>st.at λ o e=>k it (by simp) o e
  item:=by
    intro X hP hw hK hc i pins s σ H E I hf st hg
    subst hP hw hK
    obtain⟨xs,x,hq,hx⟩:=hg
    obtain⟨its,rv,p,hz⟩:=I.tuple hq
    obtain⟨u,hu,ru⟩:=rv.get hx
    obtain⟨f0,f1,f2,f3,f4,f5⟩:=hf it (by simp)
    refine wpAny_pyNext_tuple_item st (show s.heap.IsTuple a its.toArray from p) (x:=u) (by simpa using hu) λ h' st' sb=>?_
    have I1:Inv X pins σ H { s with heap:=h' }:=I.turned (t':=s.toks) (λ b o hb e=>(sb.2 b hb).trans e) f0 f1 f3 f4 f5
    obtain⟨o,e,c,d⟩:=id st'
    exact⟨u,rfl,OK (s:={ s with heap:=h' }) e c d (by decide) ⟨x,H,I1,ru,⟨rfl,λ ys hy=>by rw[I.tuple_inj hy hq];exact hx⟩,st',λ b hb=>(hf b hb).1⟩⟩
  done:=by
    intro X hP hw hK hc i pins s σ H E I hf st hg
    subst hP hw hK
    obtain⟨xs,hq,hx⟩:=hg
    obtain⟨its,rv,p,hz⟩:=I.tuple hq
    obtain⟨f0,f1,f2,f3,f4,f5⟩:=hf it (by simp)
    have hl:=rv.length
    exact wpAny_pyNext_tuple_end (I.ok.hd hc) st (show s.heap.IsTuple a its.toArray from p) (by simp;omega) λ h' eb=>⟨rfl,I.turned (t':=s.toks) (λ b o hb e=>eb b o hb e) f0 f1 f3 f4 f5⟩
  self:=λ _ _ _ _ _ st h=>wpAny_pyIter_tupleiter st h
theorem NP{P:Program}{w:World}{K:PySem.W.Frag}{tg:Expr}(it:Addr)(lo:Int)(n:Nat):Turn P w K tg (Itr lo n) [it] it (λ i h=>IsRangeIter h it (lo + (i:Nat) * 1) ((n:Int) - (i:Nat)) 1) where
  mem:=by simp
  obj:=λ i h st b hb=>by
    have e:b=it:=by simpa using hb
    subst e
    exact⟨_,st,λ v z=>by
      have z':Data.fields _=Data.cell v:=z
      cases z'⟩
  keep:=λ i h h' st k=>k it (by simp) _ st
  item:=by
    intro X hP hw hK hc i pins s σ H E I hf st hg
    subst hP hw hK
    obtain⟨f0,f1,f2,f3,f4,f5⟩:=hf it (by simp)
    have W:=Walks.range (prog:=X.prog) (w:=X.w) (I.ok.hd hc) it lo 1 n
    refine W.item i s _ _ hg st λ v h' tk hv st' kk=>?_
    obtain⟨t,rfl⟩:=hv
    have I1:Inv X pins σ H { s with heap:=h',toks:=tk }:=I.turned (λ b o hb e=>kk b o (by simpa using hb) e) f0 f1 f3 f4 f5
    refine⟨_,rfl,OK (s:={ s with heap:=h',toks:=tk }) (n:="range_iterator") st' rfl rfl (by decide) ⟨.int (lo + i),H,I1,⟨t,?_⟩,⟨rfl,rfl⟩,st',λ b hb=>(hf b hb).1⟩⟩
    rw[Int.mul_one]
  done:=by
    intro X hP hw hK hc i pins s σ H E I hf st hg
    subst hP hw hK
    obtain⟨f0,f1,f2,f3,f4,f5⟩:=hf it (by simp)
    exact wpAny_pyNext_range_end (I.ok.hd hc) st (by have:n <= i:=hg;omega) λ h' eb=>⟨rfl,I.turned (t':=s.toks) (λ b o hb e=>eb b o hb e) f0 f1 f3 f4 f5⟩
  self:=λ _ _ _ _ _ st h=>wpAny_pyIter_rangeiter st h
end L2
namespace L2
open PySem PySem.Spec PyProof.Rows
section
variable{X:Cx}{tg:Expr}
noncomputable def IR(K:PySem.W.Frag)(tl:TE):TI:=λ σ H R=>tl σ H λ x H1=>∃ a,x=.ref a/\(∃ xs,SqL K H1 a xs)/\R (Itl K a) H1
noncomputable def OF(K:PySem.W.Frag)(tl:TE):TI:=λ σ H R=>tl σ H λ x H1=>∃ a,x=.ref a/\(∃ xs,SqT K H1 a xs)/\R (Itt K a) H1
theorem TC{l:Expr}{tl:TE}(hl:PE X l tl):PI X tg l (IR X.K tl):=by
  intro pins s σ H R I h
  refine thn (hl pins s σ H _ I h) λ v s1 ⟨x,H1,I1,r1,q1⟩=>?_
  obtain⟨a,e,⟨xs,hq⟩,q⟩:=q1
  subst e
  cases r1
  obtain⟨its,rv,p,hz⟩:=I1.list hq
  refine wpAny_pyIter_list p.isList ?_
  refine⟨s1.heap.objs.size,[s1.heap.objs.size],_,_,H1,rfl,I1.kept (t':=s1.toks) λ b o e=>Heap.get?_push_of_some _ e,Oe a _,⟨_,Heap.get?_push_size _ rfl,rfl,rfl⟩,λ b hb=>?_,q⟩
  have e:b=s1.heap.objs.size:=by simpa using hb
  subst e
  exact I1.fpOk (Nat.le_refl _) (I1.hok.fresh (Nat.le_refl _))
theorem Uq{l:Expr}{tl:TE}(hl:PE X l tl):PI X tg l (OF X.K tl):=by
  intro pins s σ H R I h
  refine thn (hl pins s σ H _ I h) λ v s1 ⟨x,H1,I1,r1,q1⟩=>?_
  obtain⟨a,e,⟨xs,hq⟩,q⟩:=q1
  subst e
  cases r1
  obtain⟨its,rv,p,hz⟩:=I1.tuple hq
  refine wpAny_pyIter_tuple (show s1.heap.IsTuple a its.toArray from p) ?_
  refine⟨s1.heap.objs.size,[s1.heap.objs.size],_,_,H1,rfl,I1.kept (t':=s1.toks) λ b o e=>Heap.get?_push_of_some _ e,NO a _,⟨_,Heap.get?_push_size _ rfl,rfl,rfl⟩,λ b hb=>?_,q⟩
  have e:b=s1.heap.objs.size:=by simpa using hb
  subst e
  exact I1.fpOk (Nat.le_refl _) (I1.hok.fresh (Nat.le_refl _))
theorem LX{pins:List (Addr × Obj)}{σ:St}{H:Hp}{s:Shared}{R:It->Hp->Prop}{E:Value->Shared->Prop}{lo hi:Int}{t u v:Tok}{tk:Nat}(I:Inv X pins σ H s)(h1:-(2 ^ 62) <= lo)(h2:lo < 2 ^ 62)(h3:-(2 ^ 62) <= hi)(h4:hi < 2 ^ 62)
    (q:R (Itr lo (hi - lo).toNat) H):wpAny (model X.prog X.w) X.A (pyIter (.ref s.heap.objs.size)) (PIE X pins σ tg R) E { s with heap:=s.heap.push { cls:=.type "range",data:=.fields #[.int lo t,.int hi u,.int 1 v] },toks:=tk }:=by
  refine wpAny_pyIter_range (IsRange.new ..) (small_one h1 h2 h3 h4) ?_
  have I1:Inv X pins σ H { s with heap:=s.heap.push { cls:=.type "range",data:=.fields #[.int lo t,.int hi u,.int 1 v] },toks:=tk }:=I.kept λ b o e=>Heap.get?_push_of_some _ e
  refine⟨(s.heap.push { cls:=.type "range",data:=.fields #[.int lo t,.int hi u,.int 1 v] }).objs.size,[(s.heap.push { cls:=.type "range",data:=.fields #[.int lo t,.int hi u,.int 1 v] }).objs.size],_,_,H,rfl,
    I1.kept (t':=tk) λ b o e=>Heap.get?_push_of_some _ e,NP _ lo (hi - lo).toNat,?_,λ b hb=>?_,q⟩
  . have e1:lo + ((0:Nat):Int) * 1=lo:=by simp
    have e2:(((hi - lo).toNat:Nat):Int) - ((0:Nat):Int)=Builtin.Range.rangeSize lo hi 1:=by rw[rangeSize_one];split <;> omega
    show IsRangeIter _ _ (lo + ((0:Nat):Int) * 1) ((((hi - lo).toNat:Nat):Int) - ((0:Nat):Int)) 1
    rw[e1,e2]
    exact Heap.get?_push_size _ rfl
  . have e:b=(s.heap.push { cls:=.type "range",data:=.fields #[.int lo t,.int hi u,.int 1 v] }).objs.size:=by simpa using hb
    subst e
    exact I1.fpOk (Nat.le_refl _) (I1.hok.fresh (Nat.le_refl _))
noncomputable def OH(ta:TA):TI:=λ σ H R=>ta σ H λ vs H1=>∃ j:Int,vs=[.int j]/\-(2 ^ 62) <= j/\j < 2 ^ 62/\R (Itr 0 j.toNat) H1
noncomputable def OG(ta:TA):TI:=λ σ H R=>ta σ H λ vs H1=>∃ i j:Int,vs=[.int i,.int j]/\(-(2 ^ 62) <= i/\i < 2 ^ 62/\-(2 ^ 62) <= j/\j < 2 ^ 62)/\R (Itr i (j - i).toNat) H1
theorem P5{a:Expr}{ta:TA}{p pos:Pos}(hg:Gl X "range")(hm:X.mg "range"=none)(ha:PA X [a] ta)(hs:starEach [a] X.env=[(false,eval a X.env)]:=by rfl):PI X tg (.Call (.Name "range" p) [a] [] pos) (OH ta):=by
  intro pins s σ H R I h
  refine Call_ (Ds I hg hm boot_range (PyProof.Rows.callWith_type1 (thn (ha pos pins s σ H _ I h) λ us s1 ⟨vs,H1,I1,r1,q1⟩=>?_) hs rfl))
  obtain⟨j,e,q1,q2,q⟩:=q1
  subst e
  cases r1 with
  | cons r rr=>
    cases rr
    obtain⟨t,rfl⟩:=r
    exact call_range_1 (LX I1 (by omega) (by omega) q1 q2 (by simpa using q))
theorem P4{a b:Expr}{ta:TA}{p pos:Pos}(hg:Gl X "range")(hm:X.mg "range"=none)(ha:PA X [a,b] ta)(hs:starEach [a,b] X.env=[(false,eval a X.env),(false,eval b X.env)]:=by rfl)(hs2:starEach [b] X.env=[(false,eval b X.env)]:=by rfl) :
    PI X tg (.Call (.Name "range" p) [a,b] [] pos) (OG ta):=by
  intro pins s σ H R I h
  refine Call_ (Ds I hg hm boot_range (PyProof.Rows.callWith_type1 (thn (ha pos pins s σ H _ I h) λ us s1 ⟨vs,H1,I1,r1,q1⟩=>?_) (by rw[hs,hs2]) (by rw[hs2];rfl)))
  obtain⟨i,j,e,⟨q1,q2,q3,q4⟩,q⟩:=q1
  subst e
  cases r1 with
  | cons r rr=>
    cases rr with
    | cons r' rr=>
      cases rr
      obtain⟨t,rfl⟩:=r
      obtain⟨t',rfl⟩:=r'
      exact call_range_2 (LX I1 q1 q2 q3 q4 q)
noncomputable def QB(wi:TI)(g:TG)(tb:TS):TS:=λ D σ H=>wi σ H λ J H1=>∃ W:Nat->Nat->St->Hp->Prop,(∃ m,W 0 m σ H1)/\∀ i m σ H,W i m σ H ->
  (J.stop i H/\D.nx σ H) ∨ (J.go i H/\∃ N:St->Hp->Prop,(∀ σ' H',N σ' H'->∃ m',m' < m/\W (i + 1) m' σ' H')/\∀ x H',J.yld i H x H'->g x σ H' λ σ2 H2=>tb { D with nx:=N,ct:=N,bk:=D.nx } σ2 H2)
noncomputable def GT(fp:List Addr)(h:Heap):List (Addr × Obj):=fp.filterMap λ b=>(h.get? b).map λ o=>(b,o)
theorem E4{fp:List Addr}{h:Heap}{b:Addr}{o:Obj}(hb:b ∈ fp)(e:h.get? b=some o):(b,o) ∈ GT fp h:=List.mem_filterMap.mpr ⟨b,hb,by rw[e];rfl⟩
theorem PH{fp:List Addr}{h:Heap}{p:Addr × Obj}(hp:p ∈ GT fp h):p.1 ∈ fp/\h.get? p.1=some p.2:=by
  obtain⟨b,hb,e⟩:=List.mem_filterMap.mp hp
  cases q:h.get? b with
  | none=>rw[q]at e;cases e
  | some o=>
    rw[q]at e
    have e':(b,o)=p:=Option.some.inj e
    subst e'
    exact⟨hb,q⟩
theorem Inv.pinned{pins:List (Addr × Obj)}{σ:St}{H:Hp}{s:Shared}{fp:List Addr}(I:Inv X pins σ H s)(hf:∀ b ∈ fp,FpOk X pins H b)(ho:∀ b ∈ fp,∃ o,s.heap.get? b=some o/\∀ v,o.data ≠ .cell v):Inv X (pins ++ GT fp s.heap) σ H s:=
  I.pins_of λ p hp=>(List.mem_append.mp hp).elim (λ z=>I.pin p (List.mem_append_right _ z)) λ z=>by
    obtain⟨hb,e⟩:=PH z
    obtain⟨f0,f1,f2,_⟩:=hf p.1 hb
    obtain⟨o,e',d⟩:=ho p.1 hb
    rw[e]at e';cases e'
    exact⟨e,f0,f1,f2,d⟩
theorem Inv.unpinned{pins pl:List (Addr × Obj)}{σ:St}{H:Hp}{s:Shared}(I:Inv X (pins ++ pl) σ H s):Inv X pins σ H s:=I.pins_of λ p hp=>I.pin p (List.mem_append_right _ (List.mem_append_left _ hp))
theorem Um{iter:Expr}{body:List Stmt}{wi:TI}{g:TG}{tb:TS}{pos:Pos}(hp:PassesOwn (model X.prog X.w) X.A X.env X.xe)(hc:X.calm=true)(hi:PI X tg iter wi)(hg:PG X tg g)(hb:PSs X body tb)
    (hs:∀ x,foldedSetIterable iter X.env x=pure x:=by intro _;rfl):PS X (.For tg iter body [] pos) (QB wi g tb):=by
  intro pins s σ H D I h
  refine wpAny_For (thn (hi pins s σ H _ I h) λ v s1 h1=>thn h1 λ itv s2 h2=>?_) hs
  obtain⟨it,fp,tn,J,H2,e,I2,T,st2,f2,W,⟨m0,w0⟩,turn⟩:=h2
  subst e
  -- what stays true of the iterator's objects through the loop
  have stat:∀ {H':Hp},(∀ b ∈ fp,H' b=none)->∀ b ∈ fp,FpOk X pins H' b:=λ hn b hb=>⟨hn b hb,(f2 b hb).2⟩
  refine codeAny_forLoop_any (λ n s'=>∃ i σ' H',Inv X pins σ' H' s'/\tn i s'.heap/\(∀ b ∈ fp,H' b=none)/\W i n σ' H') ?_ m0 ⟨0,σ,H2,I2,st2,λ b hb=>(f2 b hb).1,w0⟩
  rintro n s3 ⟨i,σ3,H3,I3,st3,fr3,w3⟩
  rcases turn i n σ3 H3 w3 with⟨stop,qn⟩|⟨go,N,hN,step⟩
  . refine wpAny_passesOwn hp (thn (T.done X rfl rfl rfl hc i pins s3 σ3 H3 X.xe I3 (stat fr3) st3 stop) λ r s4 ⟨hr,I4⟩=>?_)
    subst hr
    exact wpAny_execs_nil ⟨σ3,H3,I4,qn⟩
  . refine wpAny_passesOwn hp (thn (T.item X rfl rfl rfl hc i pins s3 σ3 H3 X.xe I3 (stat fr3) st3 go) λ r s4 ⟨u,hr,h4⟩=>?_)
    subst hr
    refine wpAny_passesOwn hp (thn h4 λ _ s5 ⟨x,H5,I5,r5,y5,st5,fr5⟩=>?_)
    have I5':=I5.pinned (stat fr5) (T.obj _ _ st5)
    refine wpAny_passesOwn hp (thn (hg _ s5 σ3 H5 x u _ I5' r5 (step x H5 y5)) λ _ s6 ⟨σ6,H6,I6,q6⟩=>?_)
    refine wpAny_passesOwn hp (thn (hb _ s6 σ6 H6 _ I6 q6) λ f s7 q7=>?_)
    have again:∀ {σ7:St} {H7:Hp},Inv X (pins ++ GT fp s5.heap) σ7 H7 s7->N σ7 H7->∃ m,m < n/\∃ i σ' H',Inv X pins σ' H' s7/\tn i s7.heap/\(∀ b ∈ fp,H' b=none)/\W i m σ' H':=λ {σ7 H7} I7 n7=>by
      obtain⟨m',hm,w7⟩:=hN σ7 H7 n7
      refine⟨m',hm,i + 1,σ7,H7,I7.unpinned,T.keep _ _ _ st5 λ b hb o e=>(I7.pin (b,o) (List.mem_append_right _ (List.mem_append_right _ (E4 hb e)))).1,λ b hb=>?_,w7⟩
      obtain⟨o,e,d⟩:=T.obj _ _ st5 b hb
      exact(I7.pin (b,o) (List.mem_append_right _ (List.mem_append_right _ (E4 hb e)))).2.1
    cases f with
    | next=>obtain⟨σ7,H7,I7,n7⟩:=q7;exact again I7 n7
    | cont=>obtain⟨σ7,H7,I7,n7⟩:=q7;exact again I7 n7
    | brk=>obtain⟨σ7,H7,I7,q7⟩:=q7;exact⟨σ7,H7,I7.unpinned,q7⟩
    | ret v=>obtain⟨x7,σ7,H7,I7,r7,q7⟩:=q7;exact⟨x7,σ7,H7,I7.unpinned,r7,q7⟩
end
end L2
namespace L2
open PySem PySem.Spec PyProof.Rows
noncomputable abbrev R2:=V->V->Hp->VK->Prop
noncomputable def OpR(X:Cx)(f:Value->Value->Sem Value)(r:R2):Prop:=
  ∀ (pins:List (Addr × Obj)) (s:Shared) (σ:St) (H:Hp) (x y:V) (v u:Value) (Q:VK),Inv X pins σ H s->RelV x v->RelV y u->r x y H Q ->
    wpAny (model X.prog X.w) X.A (f v u) (EP X pins σ Q) X.xe s
noncomputable def UnR(X:Cx)(f:Value->Sem Value)(r:V->Hp->VK->Prop):Prop:=
  ∀ (pins:List (Addr × Obj)) (s:Shared) (σ:St) (H:Hp) (x:V) (v:Value) (Q:VK),Inv X pins σ H s->RelV x v->r x H Q ->
    wpAny (model X.prog X.w) X.A (f v) (EP X pins σ Q) X.xe s
noncomputable def CallR(X:Cx)(f:Value)(r:List V->Hp->VK->Prop):Prop:=
  ∀ (pins:List (Addr × Obj)) (s:Shared) (σ:St) (H:Hp) (xs:List V) (us:List Value) (Q:VK),Inv X pins σ H s->Vals xs us->r xs H Q ->
    wpAny (model X.prog X.w) X.A (call f us) (EP X pins σ Q) X.xe s
noncomputable def XD(X:Cx)(r:V->Hp->(Bool->Hp->Prop)->Prop):Prop:=
  ∀ (pins:List (Addr × Obj)) (s:Shared) (σ:St) (H:Hp) (x:V) (v:Value) (Q:Bool->Hp->Prop),Inv X pins σ H s->RelV x v->r x H Q ->
    wpAny (model X.prog X.w) X.A (truthy v) (TP X pins σ Q) X.xe s
noncomputable def tOp(r:R2)(ta tb:TE):TE:=λ σ H Q=>ta σ H λ x H1=>tb σ H1 λ y H2=>r x y H2 Q
noncomputable def tUn(r:V->Hp->VK->Prop)(ta:TE):TE:=λ σ H Q=>ta σ H λ x H1=>r x H1 Q
noncomputable def rI(C:Int->Int->Prop)(g:Int->Int->V):R2:=λ x y H Q=>∃ i j,x=.int i/\y=.int j/\C i j/\Q (g i j) H
noncomputable def rI0(g:Int->Int->V):R2:=λ x y H Q=>∃ i j,x=.int i/\y=.int j/\Q (g i j) H
noncomputable def rU(g:Int->V):V->Hp->VK->Prop:=λ x H Q=>∃ i,x=.int i/\Q (g i) H
section
variable{X:Cx}{a b c:Expr}{ta tb tc:TE}{pos:Pos}
theorem Rk(ha:PE X a ta)(hb:PE X b tb){pins:List (Addr × Obj)}{s:Shared}{σ:St}{H:Hp}{R:V->V->Hp->Prop}(I:Inv X pins σ H s)
    (h:ta σ H λ x H1=>tb σ H1 λ y H2=>R x y H2) {Q:Value->Shared->Prop} {f:Value->Value->Sem Value}
    (hf:∀ v u s2 x y H2,Inv X pins σ H2 s2->RelV x v->RelV y u->R x y H2->wpAny (model X.prog X.w) X.A (f v u) Q X.xe s2) :
    wpAny (model X.prog X.w) X.A (eval a X.env) (λ v s₁=>wpAny (model X.prog X.w) X.A (eval b X.env) (λ u s₂=>wpAny (model X.prog X.w) X.A (f v u) Q X.xe s₂) X.xe s₁) X.xe s:=by
  refine thn (ha pins s σ H _ I h) λ v s1 ⟨x,H1,I1,r1,q1⟩=>?_
  refine thn (hb pins s1 σ H1 _ I1 q1) λ u s2 ⟨y,H2,I2,r2,q2⟩=>?_
  exact hf v u s2 x y H2 I2 r1 r2 q2
theorem O3{op:Operator}{r:R2}(ho:OpR X (binaryOp op) r)(ha:PE X a ta)(hb:PE X b tb):PE X (.BinOp a op b pos) (tOp r ta tb):=by
  intro pins s σ H Q I h
  exact wpAny_BinOp (Rk ha hb I h λ v u s2 x y H2 I2 rx ry q=>ho pins s2 σ H2 x y v u Q I2 rx ry q)
theorem W1{op:UnaryOp}{r:V->Hp->VK->Prop}(ho:UnR X (unaryOp op) r)(ha:PE X a ta):PE X (.UnaryOp op a pos) (tUn r ta):=by
  intro pins s σ H Q I h
  exact UnaryOp_ (thn (ha pins s σ H _ I h) λ v s1 ⟨x,H1,I1,r1,q1⟩=>ho pins s1 σ H1 x v Q I1 r1 q1)
theorem opI{f:Value->Value->Sem Value}{C:Int->Int->Prop}{g:Int->Int->Int}
    (rule:∀ (i j:Int) (t u:Tok) (s:Shared) (Q:Value->Shared->Prop) (E:Value->Shared->Prop),C i j->Q (.int (g i j) s.toks) { s with toks:=s.toks + 1 }->wpAny (model X.prog X.w) X.A (f (.int i t) (.int j u)) Q E s) :
    OpR X f (rI C λ i j=>.int (g i j)):=by
  intro pins s σ H x y v u Q I rx ry h
  obtain⟨i,j,rfl,rfl,hc,q⟩:=h
  obtain⟨t,rfl⟩:=rx
  obtain⟨t',rfl⟩:=ry
  exact rule i j t t' s _ _ hc ⟨.int (g i j),H,I.tok _,⟨_,rfl⟩,q⟩
theorem V9{f:Value->Value->Sem Value}{g:Int->Int->Int}
    (rule:∀ (i j:Int) (t u:Tok) (s:Shared) (Q:Value->Shared->Prop) (E:Value->Shared->Prop),Q (.int (g i j) s.toks) { s with toks:=s.toks + 1 }->wpAny (model X.prog X.w) X.A (f (.int i t) (.int j u)) Q E s) :
    OpR X f (rI0 λ i j=>.int (g i j)):=by
  intro pins s σ H x y v u Q I rx ry h
  obtain⟨i,j,rfl,rfl,q⟩:=h
  obtain⟨t,rfl⟩:=rx
  obtain⟨t',rfl⟩:=ry
  exact rule i j t t' s _ _ ⟨.int (g i j),H,I.tok _,⟨_,rfl⟩,q⟩
theorem O6{f:Value->Value->Sem Value}{g:Int->Int->Bool}
    (rule:∀ (i j:Int) (t u:Tok) (s:Shared) (Q:Value->Shared->Prop) (E:Value->Shared->Prop),Q (.bool (g i j)) s->wpAny (model X.prog X.w) X.A (f (.int i t) (.int j u)) Q E s) :
    OpR X f (rI0 λ i j=>.bl (g i j)):=by
  intro pins s σ H x y v u Q I rx ry h
  obtain⟨i,j,rfl,rfl,q⟩:=h
  obtain⟨t,rfl⟩:=rx
  obtain⟨t',rfl⟩:=ry
  exact rule i j t t' s _ _ ⟨.bl (g i j),H,I,rfl,q⟩
noncomputable def Vi(i j:Int):Prop:=0 < j/\j < 1073741824
noncomputable def Vh(i j:Int):Prop:=0 <= j/\j <= 1000000/\i.natAbs < 2 ^ 64
noncomputable def CMul(i j:Int):Prop:=(-(2 ^ 64) < i/\i < 2 ^ 64) ∨ (-(2 ^ 64) < j/\j < 2 ^ 64)
theorem CMul.ok{i j:Int}(h:CMul i j):IntMulOk i j:=by
  rcases h with⟨h1,h2⟩|⟨h1,h2⟩
  . exact .of_left (intBits_le_64 h1 h2)
  . exact .of_right (intBits_le_64 h1 h2)
theorem B3:OpR X (binaryOp .Add) (rI0 λ i j=>.int (i + j)):=V9 λ _ _ _ _ _ _ _ q=>add_int q
theorem EF:OpR X (binaryOp .Sub) (rI0 λ i j=>.int (i - j)):=V9 λ _ _ _ _ _ _ _ q=>sub_int q
theorem Fo:OpR X (binaryOp .Mult) (rI CMul λ i j=>.int (i * j)):=opI λ _ _ _ _ _ _ _ hc q=>mul_int q hc.ok
theorem IM:OpR X (binaryOp .FloorDiv) (rI Vi λ i j=>.int (i / j)):=opI λ i j _ _ _ _ _ hc q=>by
  have h1:(0:Int) < j:=hc.1
  have h2:j < 1073741824:=hc.2
  exact floordiv_int (by omega) (by rw[Int.fdiv_eq_ediv_of_nonneg i (by omega)];exact q) (.inl (PyProof.noPylong_small (by omega)))
theorem Fp:OpR X (binaryOp .Mod) (rI (λ _ j=>0 < j) λ i j=>.int (i % j)):=opI λ i j _ _ _ _ _ hc q=>by
  have h1:(0:Int) < j:=hc
  exact mod_int' (by omega) (by rw[Int.fmod_eq_emod_of_nonneg i (by omega)];exact q)
theorem V4:OpR X (binaryOp .Pow) (rI Vh λ i j=>.int (i ^ j.toNat)):=opI λ _ _ _ _ _ _ _ hc q=>pow_int_small hc.1 hc.2.1 hc.2.2 q
theorem unI{f:Value->Sem Value}{g:Int->Int}
    (rule:∀ (i:Int) (t:Tok) (s:Shared) (Q:Value->Shared->Prop) (E:Value->Shared->Prop),Q (.int (g i) s.toks) { s with toks:=s.toks + 1 }->wpAny (model X.prog X.w) X.A (f (.int i t)) Q E s) :
    UnR X f (rU λ i=>.int (g i)):=by
  intro pins s σ H x v Q I rx h
  obtain⟨i,rfl,q⟩:=h
  obtain⟨t,rfl⟩:=rx
  exact rule i t s _ _ ⟨.int (g i),H,I.tok _,⟨_,rfl⟩,q⟩
theorem U7:UnR X (unaryOp .USub) (rU λ i=>.int (-i)):=unI λ _ _ _ _ _ q=>neg_int q
end
noncomputable def LO:V->V->Bool
  | .non,.non=>true | .non,.int _=>true | .int _,.non=>true | .non,.bl _=>true | .bl _,.non=>true | .non,.str _=>true | .str _,.non=>true
  | .int _,.int _=>true | .bl _,.bl _=>true | .str _,.str _=>true | .byt _,.byt _=>true
  | .int _,.str _=>true | .str _,.int _=>true | .bl _,.str _=>true | .str _,.bl _=>true
  | _,_=>false
noncomputable def rEq:R2:=λ x y H Q=>LO x y=true/\Q (.bl (decide (x=y))) H
noncomputable def rNe:R2:=λ x y H Q=>LO x y=true/\Q (.bl (!decide (x=y))) H
theorem NF{i j:Int}:decide (V.int i=V.int j)=(i == j):=by
  rw[Bool.eq_iff_iff]
  simp
theorem Pi{i j:Bool}:decide (V.bl i=V.bl j)=(i == j):=by
  rw[Bool.eq_iff_iff]
  simp
theorem NE{i j:Str}:decide (V.str i=V.str j)=(i == j):=by
  rw[Bool.eq_iff_iff]
  simp
theorem NG{i j:Array UInt8}:decide (V.byt i=V.byt j)=(i.toList == j.toList):=by
  rw[Bool.eq_iff_iff]
  cases i
  cases j
  simp
section
variable{X:Cx}{a b c:Expr}{ta tb tc:TE}{pos:Pos}
theorem At{pins:List (Addr × Obj)}{σ:St}{H:Hp}{s:Shared}{Q:VK}{k k':Bool}(I:Inv X pins σ H s)(q:Q (.bl k) H)(e:k=k'):EP X pins σ Q (.bool k') s:=by
  subst e
  exact⟨.bl k,H,I,rfl,q⟩
theorem FW:OpR X (compareOp .Eq) rEq:=by
  intro pins s σ H x y v u Q I rx ry h
  obtain⟨hs,q⟩:=h
  cases x with
  | non=>
    cases rx
    cases y with
    | non=>cases ry;exact PySem.EqNone.eq_none_none (At I q (by simp))
    | bl j=>cases ry;exact PySem.EqNone.eq_none_bool (At I q (by simp))
    | int j=>obtain⟨t',rfl⟩:=ry;exact PySem.EqNone.eq_none_int (At I q (by simp))
    | str j=>obtain⟨t',rfl⟩:=ry;exact PySem.EqNone.eq_none_str (At I q (by simp))
    | _=>exact absurd (show false=true from hs) Bool.false_ne_true
  | bl i=>
    cases rx
    cases y with
    | non=>cases ry;exact PySem.EqNone.eq_bool_none (At I q (by simp))
    | bl j=>cases ry;exact eq_bool (At I q Pi)
    | str j=>obtain⟨t',rfl⟩:=ry;exact PySem.EqMixed.eq_bool_str (At I q (by simp))
    | _=>exact absurd (show false=true from hs) Bool.false_ne_true
  | int i=>
    obtain⟨t,rfl⟩:=rx
    cases y with
    | non=>cases ry;exact PySem.EqNone.eq_int_none (At I q (by simp))
    | int j=>obtain⟨t',rfl⟩:=ry;exact eq_int (At I q NF)
    | str j=>obtain⟨t',rfl⟩:=ry;exact PySem.EqMixed.eq_int_str (At I q (by simp))
    | _=>exact absurd (show false=true from hs) Bool.false_ne_true
  | str i=>
    obtain⟨t,rfl⟩:=rx
    cases y with
    | non=>cases ry;exact PySem.EqNone.eq_str_none (At I q (by simp))
    | bl j=>cases ry;exact PySem.EqMixed.eq_str_bool (At I q (by simp))
    | int j=>obtain⟨t',rfl⟩:=ry;exact PySem.EqMixed.eq_str_int (At I q (by simp))
    | str j=>obtain⟨t',rfl⟩:=ry;exact eq_str (At I q NE)
    | _=>exact absurd (show false=true from hs) Bool.false_ne_true
  | byt i=>
    obtain⟨t,rfl⟩:=rx
    cases y with
    | byt j=>obtain⟨t',rfl⟩:=ry;exact PySem.W.eq_bytes (At I q NG)
    | _=>exact absurd (show false=true from hs) Bool.false_ne_true
  | _=>cases y <;> exact absurd (show false=true from hs) Bool.false_ne_true
theorem IK:OpR X (compareOp .NotEq) rNe:=by
  intro pins s σ H x y v u Q I rx ry h
  obtain⟨hs,q⟩:=h
  cases x with
  | non=>
    cases rx
    cases y with
    | non=>cases ry;exact PySem.EqNone.ne_none_none (At I q (by simp))
    | bl j=>cases ry;exact PySem.EqNone.ne_none_bool (At I q (by simp))
    | int j=>obtain⟨t',rfl⟩:=ry;exact PySem.EqNone.ne_none_int (At I q (by simp))
    | str j=>obtain⟨t',rfl⟩:=ry;exact PySem.EqNone.ne_none_str (At I q (by simp))
    | _=>exact absurd (show false=true from hs) Bool.false_ne_true
  | bl i=>
    cases rx
    cases y with
    | non=>cases ry;exact PySem.EqNone.ne_bool_none (At I q (by simp))
    | bl j=>cases ry;exact ne_bool (At I q (congrArg not Pi))
    | str j=>obtain⟨t',rfl⟩:=ry;exact PySem.EqMixed.ne_bool_str (At I q (by simp))
    | _=>exact absurd (show false=true from hs) Bool.false_ne_true
  | int i=>
    obtain⟨t,rfl⟩:=rx
    cases y with
    | non=>cases ry;exact PySem.EqNone.ne_int_none (At I q (by simp))
    | int j=>obtain⟨t',rfl⟩:=ry;exact ne_int (At I q (congrArg not NF))
    | str j=>obtain⟨t',rfl⟩:=ry;exact PySem.EqMixed.ne_int_str (At I q (by simp))
    | _=>exact absurd (show false=true from hs) Bool.false_ne_true
  | str i=>
    obtain⟨t,rfl⟩:=rx
    cases y with
    | non=>cases ry;exact PySem.EqNone.ne_str_none (At I q (by simp))
    | bl j=>cases ry;exact PySem.EqMixed.ne_str_bool (At I q (by simp))
    | int j=>obtain⟨t',rfl⟩:=ry;exact PySem.EqMixed.ne_str_int (At I q (by simp))
    | str j=>obtain⟨t',rfl⟩:=ry;exact ne_str (At I q (congrArg not NE))
    | _=>exact absurd (show false=true from hs) Bool.false_ne_true
  | byt i=>
    obtain⟨t,rfl⟩:=rx
    cases y with
    | byt j=>obtain⟨t',rfl⟩:=ry;exact PySem.W.ne_bytes (At I q (congrArg not NG))
    | _=>exact absurd (show false=true from hs) Bool.false_ne_true
  | _=>cases y <;> exact absurd (show false=true from hs) Bool.false_ne_true
theorem O4:OpR X (compareOp .Lt) (rI0 λ i j=>.bl (decide (i < j))):=O6 λ _ _ _ _ _ _ _ q=>lt_int q
theorem JR:OpR X (compareOp .LtE) (rI0 λ i j=>.bl (decide (i <= j))):=O6 λ _ _ _ _ _ _ _ q=>le_int q
theorem IL:OpR X (compareOp .Gt) (rI0 λ i j=>.bl (decide (j < i))):=O6 λ _ _ _ _ _ _ _ q=>gt_int q
theorem O5:OpR X (compareOp .GtE) (rI0 λ i j=>.bl (decide (j <= i))):=O6 λ _ _ _ _ _ _ _ q=>ge_int q
theorem OpR.or{f:Value->Value->Sem Value}{r r':R2}(h:OpR X f r)(h':OpR X f r'):OpR X f (λ x y H Q=>r x y H Q ∨ r' x y H Q):=by
  intro pins s σ H x y v u Q I rx ry q
  rcases q with q|q
  . exact h pins s σ H x y v u Q I rx ry q
  . exact h' pins s σ H x y v u Q I rx ry q
theorem JS(b:Expr){op:CmpOp}(h:op ≠ .In:=by decide)(h2:op ≠ .NotIn:=by decide):behindInMarks op b=false:=by
  have e1:(op == CmpOp.In)=false:=by cases op <;> first|rfl|exact absurd rfl h
  have e2:(op == CmpOp.NotIn)=false:=by cases op <;> first|rfl|exact absurd rfl h2
  cases b <;> simp[behindInMarks,e1,e2]
theorem TQ{op:CmpOp}{r:R2}(ho:OpR X (compareOp op) r)(ha:PE X a ta)(hb:PE X b tb)(hm:behindInMarks op b=false):PE X (.Compare a [op] [b] pos) (tOp r ta tb):=by
  intro pins s σ H Q I h
  exact wpAny_Compare1 (Rk ha hb I h λ v u s2 x y H2 I2 rx ry q=>ho pins s2 σ H2 x y v u Q I2 rx ry q) hm
noncomputable def JE(t:TE):TT:=λ σ H Q=>t σ H λ x H'=>∃ k,x=.bl k/\Q k H'
theorem K3{op:CmpOp}{r:R2}(ho:OpR X (compareOp op) r)(ha:PE X a ta)(hb:PE X b tb)(hm:behindInMarks op b=false):PT X (.Compare a [op] [b] pos) (JE (tOp r ta tb)):=by
  intro pins s σ H Q I h
  refine wpAny_isTrue_Compare1 (thn (ha pins s σ H _ I h) λ v s1 ⟨x,H1,I1,r1,q1⟩=>thn (hb pins s1 σ H1 _ I1 q1) λ u s2 ⟨y,H2,I2,r2,q2⟩=>
    thn (ho pins s2 σ H2 x y v u _ I2 r1 r2 q2) λ c s3 ⟨z,H3,I3,r3,k,e,q3⟩=>?_) hm
  subst e
  cases r3
  exact wpAny_truthy_bool ⟨H3,I3,q3⟩
noncomputable def MY(K:PySem.W.Frag)(x:V)(H:Hp)(k:Bool):Prop:=
  match x with
  | .non=>k=false
  | .bl b=>k=b
  | .int i=>k=(i != 0)
  | .str y=>y.length <= sizeLine/\k=((y.length:Int) != 0)
  | .byt y=>y.size <= sizeLine/\k=((y.size:Int) != 0)
  | .ref p=>(∃ xs,SqL K H p xs/\k=!xs.isEmpty) ∨ (∃ xs,SqT K H p xs/\k=!xs.isEmpty) ∨ ∃ kvs,H p=some (.dK kvs)/\k=!kvs.isEmpty
  | _=>False
theorem OD{κ:Type}{kvs:List (κ × V)}{vs:List (κ × Value)}(r:KV kvs vs):(!vs.isEmpty)=!kvs.isEmpty:=by
  cases r <;> rfl
theorem Jj{xs:List V}{its:List Value}(r:Vals xs its):(!its.toArray.isEmpty)=!xs.isEmpty:=by
  cases r <;> simp
theorem Je:(sizeLine:Nat) < 2 ^ 63:=by rw[sizeLine_eq];decide
theorem U9:XD X (λ x H Q=>∃ k,MY X.K x H k/\Q k H):=by
  intro pins s σ H x v Q I rx h
  obtain⟨k,e,q⟩:=h
  have hl:=Je
  have hs:sizeLine=16777216:=sizeLine_eq
  cases x with
  | non=>
    cases rx
    have e':k=false:=e
    subst e'
    exact truthy_none ⟨H,I,q⟩
  | bl b=>
    cases rx
    have e':k=b:=e
    subst e'
    exact wpAny_truthy_bool ⟨H,I,q⟩
  | int i=>
    obtain⟨t,rfl⟩:=rx
    have e':k=(i != 0):=e
    subst e'
    exact PySem.P.truthy_int ⟨H,I,q⟩
  | str y=>
    obtain⟨t,rfl⟩:=rx
    obtain⟨hy,e'⟩:y.length <= sizeLine/\k=((y.length:Int) != 0):=e
    subst e'
    exact PySem.P.truthy_str (by omega) ⟨H,I.tok _,q⟩
  | byt y=>
    obtain⟨t,rfl⟩:=rx
    obtain⟨hy,e'⟩:y.size <= sizeLine/\k=((y.size:Int) != 0):=e
    subst e'
    exact PySem.W.truthy_bytes (by omega) ⟨H,I.tok _,q⟩
  | ref p=>
    cases rx
    have e':(∃ xs,SqL X.K H p xs/\k=!xs.isEmpty) ∨ (∃ xs,SqT X.K H p xs/\k=!xs.isEmpty) ∨ ∃ kvs,H p=some (.dK kvs)/\k=!kvs.isEmpty:=e
    rcases e' with⟨xs,hx,e'⟩|⟨xs,hx,e'⟩|⟨kvs,hx,e'⟩
    . subst e'
      obtain⟨its,r,pl,hz⟩:=I.list hx
      have hlen:=r.length
      exact wpAny_truthy_list pl.isList (by simp only[List.size_toArray];omega) ⟨H,I.tok _,by rw[Jj r];exact q⟩
    . subst e'
      obtain⟨its,r,pl,hz⟩:=I.tuple hx
      have hlen:=r.length
      exact truthy_tuple pl (by simp only[List.size_toArray];omega) ⟨H,I.tok _,by rw[Jj r];exact q⟩
    . subst e'
      obtain⟨hz,hS,vs,r,m⟩:kvs.length <= sizeLine/\(p == sysModules)=false/\∃ vs,KV kvs vs/\s.heap.DictOf (Bh X.prog X.w) p vs:=I.hok p _ hx
      have hlen:kvs.length=vs.length:=Paired.length r
      exact wpAny_truthy_dict hS m (by omega) ⟨H,I.tok _,by rw[OD r];exact q⟩
  | _=>exact(show False from e).elim
theorem Qp(ha:PE X a ta)(he:∀ whole,isTrue a X.env whole=(do let v <- whole;standAt a.pos;holding [v] (truthy v))) :
    PT X a (λ σ H Q=>ta σ H λ x H'=>∃ k,MY X.K x H' k/\Q k H'):=by
  intro pins s σ H Q I h
  exact isTrue_plain (thn (ha pins s σ H _ I h) λ v s1 ⟨x,H1,I1,r1,q1⟩=>U9 pins s1 σ H1 x v Q I1 r1 q1) (he _)
theorem Cd{x:V}{us:List Value}(r:Vals [x] us):∃ u,us=[u]/\RelV x u:=by
  cases r with
  | cons r1 r2=>cases r2;exact⟨_,rfl,r1⟩
theorem Vn{x y:V}{us:List Value}(r:Vals [x,y] us):∃ u w',us=[u,w']/\RelV x u/\RelV y w':=by
  cases r with
  | cons r1 r2=>
    cases r2 with
    | cons r3 r4=>cases r4;exact⟨_,_,rfl,r1,r3⟩
end
end L2
namespace L2
open PySem PySem.Spec PyProof.Rows
section
variable{prog:Program}{w:World}{A:Around}{E:Value->Shared->Prop}{s:Shared}{K:PySem.W.Frag}{x dx C f:Addr}{mA:Str->Option Value}{name:Str}{v:Value}
end
theorem RelO.some_of{v:V}{o:Option Value}(r:RelO (some v) o):∃ u,o=some u/\RelV v u:=by
  cases o with
  | none=>exact(show False from r).elim
  | some u=>exact⟨u,rfl,r⟩
section
variable{P:Program}{w:World}{H H':Hp}{h h':Heap}{a C dx:Addr}{fs fs':List (Str × V)}
end
section
variable{X:Cx}{pins:List (Addr × Obj)}{σ:St}{H:Hp}{s:Shared}{a C dx:Addr}{fs:List (Str × V)}{f:Str}{v:V}{A:Around}{E:Value->Shared->Prop}
end
section
variable{X:Cx}{o e value:Expr}{f:Str}{pos pos' tpos:Pos}{ta tv:TE}
end
section
variable{X:Cx}{pins:List (Addr × Obj)}{σ:St}{H:Hp}{s:Shared}{A:Around}{E:Value->Shared->Prop}{Q:Value->Shared->Prop}{c:Value}{b:Bool}
end
end L2
namespace L2
open PySem PySem.Spec PyProof.Rows
structure Room(k:Nat)(A:Around):Prop where
  hd:A.handled=none
  dp:A.depth + 3 * k + 5 < recursionLimit
  un:A.units + 16 * k + 200 < cLine
  gd:A.guards=some []
theorem Room.mono{j k:Nat}{A:Around}(r:Room k A)(h:j <= k):Room j A:=⟨r.hd,by have:=r.dp;omega,by have:=r.un;omega,r.gd⟩
theorem Room.deeper{k:Nat}{A:Around}(r:Room (k + 1) A)(env:Env):Room k (A.deeper env):=
  ⟨r.hd,by have:=r.dp;show A.depth + 1 + 3 * k + 5 < _;omega,by have:=r.un;show A.units + 3 + 16 * k + 200 < _;omega,by first|exact r.gd|(simpa [Around.deeper,Around.under,Code.guards,Code.isGuard,pushGuards]using r.gd)⟩
theorem Room.in1{k:Nat}{A:Around}(r:Room (k + 1) A):Room k A.in1:=
  ⟨r.hd,by have:=r.dp;show A.depth + 3 * k + 5 < _;omega,by have:=r.un;show A.units + 1 + 16 * k + 200 < _;omega,r.gd⟩
theorem Room.depth{k:Nat}{A:Around}(r:Room k A):A.depth < recursionLimit:=by have:=r.dp;omega
theorem Room.units{k:Nat}{A:Around}(r:Room k A):A.units + 64 < cLine:=by have:=r.un;omega
noncomputable def C8:TA:=λ _ H Q=>Q [] H
noncomputable def BZ(ta:TE)(tr:TA):TA:=λ σ H Q=>ta σ H λ x H1=>tr σ H1 λ xs H2=>Q (x :: xs) H2
section
variable{X:Cx}{e:Expr}{es:List Expr}{te:TE}{t:TA}{pos:Pos}
theorem Cq:PA X [] C8:=λ _ _ _ _ H Q I h=>Calls.spliced_nil ⟨[],H,I,.nil,h⟩
theorem CJ(ha:PE X e te)(hr:PA X es t)(hs:starEach (e :: es) X.env=(false,eval e X.env) :: starEach es X.env:=by rfl):PA X (e :: es) (BZ te t):=by
  intro pos pins s σ H Q I h
  rw[hs]
  show wpAny _ _ (spliced ((false,eval e X.env) :: backTo pos (starEach es X.env))) _ _ s
  refine Calls.spliced_cons (thn (ha pins s σ H _ I h) λ u s1 ⟨x,H1,I1,r1,q1⟩=>?_)
  exact thn (hr pos pins s1 σ H1 _ I1 q1) λ us s2 ⟨xs,H2,I2,r2,q2⟩=>⟨x :: xs,H2,I2,.cons r1 r2,q2⟩
noncomputable def Q2(t:TA):TE:=λ σ H Q=>t σ H λ xs H1=>xs.length <= sizeLine/\∀ p,H1 p=none->Q (.ref p) (upd H1 p (.tup xs))
noncomputable def Q7(t:TA):TE:=λ σ H Q=>t σ H λ xs H1=>xs.length <= sizeLine/\∀ p,H1 p=none->Q (.ref p) (upd H1 p (.lst xs))
theorem Uu{x1}(h:PA X es t):PE X (.Tuple es x1 pos) (Q2 t):=by
  intro pins s σ H Q I hq
  refine wpAny_Tuple_spliced (thn (h pos pins s σ H _ I hq) λ us s1 ⟨xs,H1,I1,r,z,q⟩=>⟨by rw[<- r.length];exact z,?_⟩)
  have hf:H1 s1.heap.objs.size=none:=I1.hok.fresh (Nat.le_refl _)
  refine⟨.ref s1.heap.objs.size,upd H1 s1.heap.objs.size (.tup xs),I1.laid (t':=s1.toks) (λ b u e=>Heap.get?_push_of_some _ e) (Nat.le_refl _) ?_,rfl,q _ hf⟩
  exact⟨z,us,r,⟨_,Heap.get?_push_size _ rfl,rfl,_,rfl⟩⟩
theorem Uz(h:PA X es t):PE X (.List es pos) (Q7 t):=by
  intro pins s σ H Q I hq
  refine wpAny_List_spliced (thn (h pos pins s σ H _ I hq) λ us s1 ⟨xs,H1,I1,r,z,q⟩=>⟨by rw[<- r.length];exact z,?_⟩)
  have hf:H1 s1.heap.objs.size=none:=I1.hok.fresh (Nat.le_refl _)
  refine⟨.ref s1.heap.objs.size,upd H1 s1.heap.objs.size (.lst xs),I1.laid (t':=s1.toks) (λ b u e=>Heap.get?_push_of_some _ e) (Nat.le_refl _) ?_,rfl,q _ hf⟩
  exact⟨z,us,0,r,Heap.get?_push_size _ rfl⟩
end
noncomputable abbrev Sp:=List V->Hp->VK->XK->Prop
noncomputable abbrev CXT:=List Env->Hp->Shared->XK->Value->Shared->Prop
structure Env0(P:Program)(w:World)(K:PySem.W.Frag)(mg:Str->Option Value)(base:Heap)(A:Around)(outer:List Env)(s:Shared)(H:Hp):Prop where
  frames:A.frames=some outer
  mod:Mod K mg base
  bs:∀ b o,base.get? b=some o->s.heap.get? b=some o/\H b=none
  bsz:base.objs.size <= s.heap.objs.size
  funs:s.heap.FunFrames base outer
  frf:∀ b ∈ frs outer,H b=none
  hok:HOk P w H s.heap
  bare:AllBare s.gens
noncomputable def CE(outer:List Env)(P:Program)(w:World)(H:Hp)(s:Shared)(Q:VK)(u:Value)(s':Shared):Prop:=
  ∃ v H',s'.os=s.os/\AllBare s'.gens/\Un (frs outer) [] H H' s.heap s'.heap/\HOk P w H' s'.heap/\RelV v u/\Q v H'
noncomputable def CR(CX:CXT)(outer:List Env)(P:Program)(w:World)(H:Hp)(s:Shared)(Q:VK)(E:XK)(r:Result)(s':Shared):Prop:=
  match r with
  | .ok (.ret u)=>CE outer P w H s Q u s'
  | .ok _=>False
  | .error e=>CX outer H s E e s'
structure FnOk(P:Program)(w:World)(K:PySem.W.Frag)(mg:Str->Option Value)(base:Heap)(CX:CXT)(k:Nat)(f:Addr)(fd:FuncData)(ps:List Str)(sp:Sp):Prop where
  len:∀ vs H Q E,sp vs H Q E->vs.length=ps.length
  run:∀ (A:Around) (outer:List Env) (s:Shared) (H:Hp) (args:Args) (us:List Value) (vs:List V) (Q:VK) (E:XK),Room k A->Env0 P w K mg base A outer s H->BindsTo s fd args (ps.zip us)->Vals vs us->sp vs H Q E ->
    codeAny (model P w) A (.call (.ref f) args) (CR CX outer P w H s Q E) s
theorem FnOk.mono{P:Program}{w:World}{K:PySem.W.Frag}{mg:Str->Option Value}{base:Heap}{CX:CXT}{j k:Nat}{f:Addr}{fd:FuncData}{ps:List Str}{sp:Sp}(F:FnOk P w K mg base CX j f fd ps sp)(h:j <= k) :
    FnOk P w K mg base CX k f fd ps sp:=⟨F.len,λ A outer s H args us vs Q E hr=>F.run A outer s H args us vs Q E (hr.mono h)⟩
section
variable{X:Cx}{pins:List (Addr × Obj)}{σ:St}{H:Hp}{s s':Shared}
theorem Inv.env0(I:Inv X pins σ H s):Env0 X.prog X.w X.K X.mg X.base X.A X.stack s H:=
  ⟨I.ok.frames,I.ok.mod,I.bs,Nat.le_trans I.ok.bsz I.sz,I.stack,I.stkFree,I.hok,I.bare⟩
theorem Inv.after{Q:VK}{u:Value}(I:Inv X pins σ H s)(h:CE X.stack X.prog X.w H s Q u s'):EP X pins σ Q u s':=by
  obtain⟨v,H',os,bare,un,hok,r,q⟩:=h
  obtain⟨hh,g,d,t,os'⟩:=s'
  obtain rfl:os'=s.os:=os
  exact⟨v,H',I.call (h':=hh) (g':=g) (d':=d) (t':=t) (ch:=[]) un hok bare (λ b z=>absurd z (by simp)),r,q⟩
end
noncomputable def ID(sp:Sp)(dvs:List V)(E:XK)(t:TA):TE:=λ σ H Q=>t σ H λ vs H1=>sp (vs ++ dvs) H1 Q E
noncomputable def Binds(K:PySem.W.Frag)(fd:FuncData)(ps:List Str)(ds:List Value):Prop:=
  ∀ (s:Shared) (us:List Value),K.In s.heap->(us ++ ds).length=ps.length->BindsTo s fd ⟨us,[]⟩ (ps.zip (us ++ ds))
theorem Binds.all{K:PySem.W.Frag}{fd:FuncData}{ps:List Str}(h:∀ us:List Value,us.length=ps.length->bindArgs fd ⟨us,[]⟩=pure (ps.zip us)):Binds K fd ps []:=λ s us _ hl=>by
  rw[List.append_nil]at hl ⊢
  exact .of_eq (h us hl)
noncomputable def Ma(CX:CXT)(X:Cx)(E:XK):Prop:=∀ (pins:List (Addr × Obj)) (σ:St) (H:Hp) (s:Shared) (e:Value) (s':Shared),Inv X pins σ H s->CX X.stack H s E e s'->X.xe e s'
section
variable{X:Cx}{CX:CXT}{k:Nat}{f C:Addr}{fd:FuncData}{ps:List Str}{sp:Sp}{dvs:List V}{ds:List Value}{E:XK}{x m:Str}{p pos apos:Pos}{e o:Expr}{es:List Expr}{ta:TE}{t:TA}
theorem UD{pins:List (Addr × Obj)}{σ:St}{H:Hp}{s:Shared}{Q:VK}{us:List Value}{vs:List V}(F:FnOk X.prog X.w X.K X.mg X.base CX k f fd ps sp)(hr:Room k X.A)(hb:Binds X.K fd ps ds)(hd:Vals dvs ds)(hx:Ma CX X E)
    (I:Inv X pins σ H s) (r:Vals vs us) (h:sp (vs ++ dvs) H Q E):wpAny (model X.prog X.w) X.A (call (.ref f) us) (EP X pins σ Q) X.xe s:=by
  have r2:Vals (vs ++ dvs) (us ++ ds):=r.append hd
  have hl:(us ++ ds).length=ps.length:=by rw[<- r2.length];exact F.len _ _ _ _ h
  refine wpAny_call (codeAny_mono (F.run X.A X.stack s H ⟨us,[]⟩ (us ++ ds) (vs ++ dvs) Q E hr I.env0 (hb s us I.kIn hl) r2 h) λ r s' hq=>?_)
  cases r with
  | error e=>exact hx pins σ H s e s' I hq
  | ok fl=>
    cases fl with
    | ret u=>exact I.after hq
    | next=>exact False.elim hq
    | brk=>exact False.elim hq
    | cont=>exact False.elim hq
theorem TR(F:FnOk X.prog X.w X.K X.mg X.base CX k f fd ps sp)(hr:Room k X.A)(hg:Gl X x)(hm:X.mg x=some (.ref f))(hk:PySem.W.keepIn X.K (.ref f)=true)(hb:Binds X.K fd ps ds)(hd:Vals dvs ds)(hx:Ma CX X E)
    (ha:PA X (e :: es) t) (hdb:(x == ("__debug__":Str))=false:=by decide) (he:starEach (e :: es) X.env=(false,eval e X.env) :: starEach es X.env:=by rfl) (hpl:(backTo pos (starEach es X.env)).any (·.1)=false:=by rfl) :
    PE X (.Call (.Name x p) (e :: es) [] pos) (ID sp dvs E t):=by
  intro pins s σ H Q I h
  refine wpAny_Call_Name_kw (Th I hg hm ?_ hdb)
  refine PySem.W.callWith_K (h₀:=X.base) I.ok.mod.kin hk (thn (ha pos pins s σ H _ I h) λ us s1 ⟨vs,H1,I1,r,q⟩=>⟨I1.kIn,?_⟩) he hpl
  exact UD F hr hb hd hx I1 r q
end
section
variable{X:Cx}{CX:CXT}{k:Nat}{f C:Addr}{fd:FuncData}{ps ks:List Str}{sp:Sp}{E:XK}{x m:Str}{p pos apos kpos:Pos}{e o:Expr}{es:List Expr}{kws:List Keyword}{te ta:TE}{t tk:TA}{nm:Option Str}
variable{g:List Value->List Value->List Value}{gV:List V->List V->List V}
end
structure FnScope(N P:List Str)(sc:Scope):Prop where
  kind:sc.kind=.function
  co:sc.isCoroutine=false
  gen:sc.isGenerator=false
  nd:N.Nodup
  pre:N.take P.length=P
  par:∀ x ∈ P,sc.names.lookup x=some .local ∨ sc.names.lookup x=some .cell
  nofree:∀ y ∈ sc.names,y.2 ≠ .free
theorem Kh{kindOf:Str->Option NameKind}{x:Str}:∀ {binds:List (Str × Value)} {m:Str->Option Value},(∀ v,(x,v) ∉ binds)->bindL kindOf binds m x=m x
  | [],_,_=>rfl
  | (n,v) :: r,m,h=>by
    unfold bindL
    rw[Kh λ w hw=>h w (List.mem_cons_of_mem _ hw)]
    split
    . have:x ≠ n:=by rintro rfl;exact h v List.mem_cons_self
      simp[this]
    . rfl
theorem Kj{kindOf:Str->Option NameKind}{x:Str}:∀ {binds:List (Str × Value)} {m:Str->Option Value},(∀ v,(x,v) ∉ binds)->bindC kindOf binds m x=m x
  | [],_,_=>rfl
  | (n,v) :: r,m,h=>by
    unfold bindC
    rw[Kj λ w hw=>h w (List.mem_cons_of_mem _ hw)]
    split
    . rfl
    . have:x ≠ n:=by rintro rfl;exact h v List.mem_cons_self
      simp[this]
theorem Ki{kindOf:Str->Option NameKind}{x:Str}{v:Value}:∀ {P:List Str} {vs:List Value} {i:Nat} {m:Str->Option Value},P.Nodup->P[i]? = some x->vs[i]? = some v->kindOf x=some .local ->
    bindL kindOf (P.zip vs) m x=some v
  | [],_,_,_,_,h,_,_=>by simp at h
  | _ :: _,[],_,_,_,_,h,_=>by simp at h
  | p :: P,w :: vs,0,m,nd,h1,h2,hk=>by
    simp at h1 h2;subst h1;subst h2
    show bindL kindOf ((p,w) :: P.zip vs) m p=_
    unfold bindL
    rw[Kh λ v hv=>(List.nodup_cons.mp nd).1 (List.of_mem_zip hv).1,if_pos hk]
    simp
  | p :: P,w :: vs,i + 1,m,nd,h1,h2,hk=>by
    show bindL kindOf ((p,w) :: P.zip vs) m x=_
    unfold bindL
    exact Ki (i:=i) (List.nodup_cons.mp nd).2 (by simpa using h1) (by simpa using h2) hk
theorem Kk{kindOf:Str->Option NameKind}{x:Str}{v:Value}:∀ {P:List Str} {vs:List Value} {i:Nat} {m:Str->Option Value},P.Nodup->P[i]? = some x->vs[i]? = some v->kindOf x ≠ some .local ->
    bindC kindOf (P.zip vs) m x=some v
  | [],_,_,_,_,h,_,_=>by simp at h
  | _ :: _,[],_,_,_,_,h,_=>by simp at h
  | p :: P,w :: vs,0,m,nd,h1,h2,hk=>by
    simp at h1 h2;subst h1;subst h2
    show bindC kindOf ((p,w) :: P.zip vs) m p=_
    unfold bindC
    rw[Kj λ v hv=>(List.nodup_cons.mp nd).1 (List.of_mem_zip hv).1,if_neg hk]
    simp
  | p :: P,w :: vs,i + 1,m,nd,h1,h2,hk=>by
    show bindC kindOf ((p,w) :: P.zip vs) m x=_
    unfold bindC
    exact Kk (i:=i) (List.nodup_cons.mp nd).2 (by simpa using h1) (by simpa using h2) hk
noncomputable def EM(N:List Str)(vs:List V):St:=vs.map some ++ List.replicate (N.length - vs.length) none
noncomputable def Ht(CX:CXT)(P:Program)(w:World)(K:PySem.W.Frag)(mg:Str->Option Value)(base:Heap)(N:List Str)(qual:Str)(scope:Scope)(f:Addr)(cd:Value)(A:Around)(outer:List Env)(s:Shared)(H:Hp)(E:XK):Cx where
  prog:=P
  w:=w
  K:=K
  mg:=mg
  base:=base
  A:=A.deeper (envOfC qual scope s.heap.objs.size f cd)
  N:=N
  s₀:=s
  H₀:=H
  env:=envOfC qual scope s.heap.objs.size f cd
  outer:=outer
  stack:=envOfC qual scope s.heap.objs.size f cd :: outer
  ex:=[]
  calm:=true
  fn:=λ _=>true
  pn:=[]
  xe:=λ e s'=>wpAny (model P w) (A.deeper (envOfC qual scope s.heap.objs.size f cd)) (leaving (envOfC qual scope s.heap.objs.size f cd) e) (λ _ s''=>CX outer H s E e s'') (λ e' s''=>CX outer H s E e' s'') s'
theorem MK{sc:Scope}{n:Nat}{x:Str}(h:sc.names.lookup x=some .cell):∃ c,(cellsFrom n sc.names []).lookup x=some c:=by
  have q:=PySem.W.cellsFrom_some sc.names n [] (.inl h)
  exact Option.isSome_iff_exists.mp q
theorem PX{CX:CXT}{P:Program}{w:World}{K:PySem.W.Frag}{mg:Str->Option Value}{base:Heap}{N ps:List Str}{qual:Str}{scope:Scope}{f:Addr}{cd:Value}{A:Around}{outer:List Env}{s s1:Shared}{H:Hp}{E:XK}{us:List Value}{vs:List V}
    (S:FnScope N ps scope) (hd:A.handled=none) (e0:Env0 P w K mg base A outer s H) (hl:vs.length=ps.length) (r:Vals vs us)
    (x:InCallC s s.heap.objs.size (bindL (envOfC qual scope s.heap.objs.size f cd).kindOf (ps.zip us) λ _=>none) (cellsFrom (s.heap.objs.size + 1) scope.names []) (bindC (envOfC qual scope s.heap.objs.size f cd).kindOf (ps.zip us) λ _=>none) s1) :
    Inv (Ht CX P w K mg base N qual scope f cd A outer s H E) [] (EM N vs) H s1:=by
  have hpl:ps.length <= N.length:=by have:=congrArg List.length S.pre;rw[List.length_take]at this;omega
  obtain⟨h1,tk,rfl,hk⟩:=x.done
  have noA:∀ b:Addr,b ∉ (Ht CX P w K mg base N qual scope f cd A outer s H E).ex:=λ b z=>absurd (show b ∈ ([]:List Addr)from z) (by simp)
  refine⟨⟨e0.mod,S.kind,rfl,rfl,Nat.le_refl _,λ y z c h1 h2=>?_,λ y hy=>?_,λ y c _ h=>?_,λ _=>hd,Around.frames_deeper e0.frames,.inr ⟨rfl,rfl⟩,λ b z=>absurd z (noA b),e0.bs,e0.bsz,λ b _ _=>noA b,λ b z=>absurd z (noA b),e0.funs,e0.frf⟩,
    rfl,e0.bare,Un.kept hk,⟨_,x.toInCall.ns,λ i y v h1 h2 h3=>?_⟩,λ y c h=>⟨_,x.cell y c h⟩,e0.hok.fresh (Nat.le_refl _),λ y c h=>?_,λ p hp=>absurd (show p ∈ ([]:List (Addr × Obj))from hp) (by simp),e0.hok.kept hk,?_⟩
  . exact name_of_addr x.apart (PySem.mem_of_lookup h1) (PySem.mem_of_lookup h2)
  . have hy:scope.names.lookup y=some .cell ∨ scope.names.lookup y=some .free:=hy
    rcases hy with hy|hy
    . exact MK hy
    . exact absurd rfl (S.nofree _ (PySem.mem_of_lookup hy))
  . exact Nat.le_of_lt (x.above y c (PySem.mem_of_lookup h))
  . have hi:i < vs.length:=by
      unfold EM at h2
      by_cases hi:i < vs.length
      . exact hi
      . rw[List.getElem?_append_right (by simpa using hi)]at h2
        rw[List.getElem?_replicate]at h2
        split at h2 <;> cases h2
    have ha:vs[i]? = some v:=by
      unfold EM at h2
      rw[List.getElem?_append_left (by simpa using hi),List.getElem?_map]at h2
      cases e:vs[i]? with
      | none=>rw[e]at h2;cases h2
      | some a=>rw[e]at h2;cases h2;rfl
    obtain⟨u,hu,rv⟩:=r.get ha
    have hp:ps[i]? = some y:=by
      rw[<- S.pre,List.getElem?_take_of_lt (by omega)];exact h1
    have ndP:ps.Nodup:=by rw[<- S.pre];exact S.nd.sublist (List.take_sublist _ _)
    refine⟨u,rv,?_⟩
    rcases S.par y (List.mem_of_getElem? hp)with k|k
    . exact .inl ⟨k,Ki ndP hp hu k⟩
    . obtain⟨c,e⟩:=MK (n:=s.heap.objs.size + 1) k
      refine .inr ⟨.inl k,c,e,?_⟩
      have q:=x.cell y c e
      rw[Kk ndP hp hu (by show scope.names.lookup y ≠ _;rw[k];decide)]at q
      exact q
  . exact e0.hok.fresh (Nat.le_of_lt (x.above y c (PySem.mem_of_lookup h)))
  . unfold EM
    show _=N.length
    rw[List.length_append,List.length_map,List.length_replicate]
    omega
theorem SA{CX:CXT}{P:Program}{w:World}{K:PySem.W.Frag}{mg:Str->Option Value}{base:Heap}{k:Nat}{f:Addr}{name qual:Str}{params:Arguments}{body:List Stmt}{scope:Scope}{dV kV doc pm cdv ct oc:Value}{an od:Option Addr}
    {osl:Array (Option Value)} {N ps:List Str} {sp:Sp} (lk:K.lookup f=some ⟨oc,od,.func (PySem.W.fnOf name qual params body scope dV kV doc pm an cdv ct),osl⟩) (hcd:PySem.W.codeIn K cdv qual=true) (S:FnScope N ps scope)
    (len:∀ vs H Q E,sp vs H Q E->vs.length=ps.length)
    (hbody:∀ (A:Around) (outer:List Env) (s:Shared) (H:Hp) (vs:List V) (Q:VK) (E:XK),Room k (A.deeper (envOfC qual scope s.heap.objs.size f cdv))->sp vs H Q E ->
      ∃ t,PSs (Ht CX P w K mg base N qual scope f cdv A outer s H E) body t/\t { nx:=λ _ H'=>Q .non H',rt:=Q } (EM N vs) H) :
    FnOk P w K mg base CX (k + 1) f (PySem.W.fnOf name qual params body scope dV kV doc pm an cdv ct) ps sp:=by
  refine⟨len,λ A outer s H args us vs Q E hr e0 hb r hsp=>?_⟩
  have hl:=len _ _ _ _ hsp
  have KX:K.In s.heap:=e0.mod.kin.keeps λ b o e=>(e0.bs b o e).1
  have lim:s.heap.NoLimit:=e0.mod.nolimit.keeps λ b o e=>(e0.bs b o e).1
  have hkind:∀ y ∈ ps.zip us,scope.names.lookup y.1=some .local ∨ (scope.names.lookup y.1=some .cell/\((cellsFrom (s.heap.objs.size + 1) scope.names []).lookup y.1).isSome=true):=λ⟨n,v⟩ hy=>by
    rcases S.par n (List.of_mem_zip hy).1 with q|q
    . exact .inl q
    . exact .inr ⟨q,PySem.W.cellsFrom_some _ _ _ (.inl q)⟩
  refine codeAny_call_function hr.depth (KX _ _ lk) rfl S.co S.gen rfl (PySem.W.codeRec_of KX hcd) (hb _ _ _ _ ?_)
  refine wpAny_newFunctionEnv_cells S.kind hkind λ env he s1 x=>?_
  subst he
  refine⟨lim.keeps x.toInCall.keep,codeAny_func ?_⟩
  obtain⟨t,ht,hq⟩:=hbody A outer s H vs Q E (hr.deeper _) hsp
  have I:Inv (Ht CX P w K mg base N qual scope f cdv A outer s H E) [] (EM N vs) H s1:=PX S hr.hd e0 hl r x
  refine wpAny_mono (ht [] s1 (EM N vs) H _ I hq) (λ fl s' hs=>?_) λ e s' hs=>hs
  have fin:∀ {σ':St} {H':Hp} {v:V} {u:Value},Inv (Ht CX P w K mg base N qual scope f cdv A outer s H E) [] σ' H' s'->RelV v u->Q v H'->CE outer P w H s Q u s':=
    λ {σ' H' v u} J rv q=>⟨v,H',J.os,J.bare,J.base,J.hok,rv,q⟩
  cases fl with
  | ret u=>
    obtain⟨v,σ',H',J,rv,q⟩:=hs
    exact fin J rv q
  | next=>
    obtain⟨σ',H',J,q⟩:=hs
    exact fin (v:=V.non) (u:=Value.none) J rfl q
  | brk=>
    obtain⟨_,_,_,q⟩:=hs
    exact False.elim q
  | cont=>
    obtain⟨_,_,_,q⟩:=hs
    exact False.elim q
end L2
namespace L2
open PySem PySem.Spec PyProof.Rows
section
variable{X:Cx}{x:Str}{p pos:Pos}{e:Expr}{es:List Expr}{t:TA}{id T:String}{r:List V->Hp->VK->Prop}
noncomputable def tCB(r:List V->Hp->VK->Prop)(t:TA):TE:=λ σ H Q=>t σ H λ vs H1=>r vs H1 Q
theorem Fk(hc:CallR X (.builtin id) r)(hg:Gl X x)(hm:X.mg x=none)(hv:bootBuiltins x=some (.builtin id))(ha:PA X (e :: es) t)(hn:x ≠ "__name__":=by decide)(hdb:(x == ("__debug__":Str))=false:=by decide)
    (he:starEach (e :: es) X.env=(false,eval e X.env) :: starEach es X.env:=by rfl) (hpl:(backTo pos (starEach es X.env)).any (·.1)=false:=by rfl):PE X (.Call (.Name x p) (e :: es) [] pos) (tCB r t):=by
  intro pins s σ H Q I h
  refine wpAny_Call_Name_kw (Ds I hg hm hv ?_ hn hdb)
  exact PyProof.Rows.callWith_builtin1 (thn (ha pos pins s σ H _ I h) λ us s1 ⟨vs,H1,I1,r1,q1⟩=>hc pins s1 σ H1 vs us Q I1 r1 q1) he hpl
theorem EY(hc:CallR X (.type T) r)(hg:Gl X x)(hm:X.mg x=none)(hv:bootBuiltins x=some (.type T))(ha:PA X (e :: es) t)(hn:x ≠ "__name__":=by decide)(hdb:(x == ("__debug__":Str))=false:=by decide)
    (he:starEach (e :: es) X.env=(false,eval e X.env) :: starEach es X.env:=by rfl) (hpl:(backTo pos (starEach es X.env)).any (·.1)=false:=by rfl):PE X (.Call (.Name x p) (e :: es) [] pos) (tCB r t):=by
  intro pins s σ H Q I h
  refine wpAny_Call_Name_kw (Ds I hg hm hv ?_ hn hdb)
  exact PyProof.Rows.callWith_type1 (thn (ha pos pins s σ H _ I h) λ us s1 ⟨vs,H1,I1,r1,q1⟩=>hc pins s1 σ H1 vs us Q I1 r1 q1) he hpl
end
end L2
namespace HT
open PySem PyProof.Rows
section
open PySem.SeqAt
open PySem.AutoSeq1 (wpAny_loadPart')
open PySem.MeetsSeq PySem.MeetsSeq2 PySem.MeetsSeq3
end
section
variable{prog:Program}{w:World}{A:Around}{E:Value->Shared->Prop}{s:Shared}
theorem cat_tup{t b:Addr}{vs ws:List Value}{Q:Value->Shared->Prop}(ht:IsTup s.heap t vs.toArray)(hb:IsTup s.heap b ws.toArray)(hv:vs ≠ [])
    (h1:ws=[]->Q (.ref t) s) (h2:ws ≠ []->Q (.ref s.heap.objs.size) { s with heap:=s.heap.push { cls:=.type "tuple",data:=.seq (vs ++ ws).toArray } })
    (hsz:vs.length + ws.length <= sizeLine):wpAny (model prog w) A (binaryOp .Add (.ref t) (.ref b)) Q E s:=by
  obtain⟨⟨cls,dd,data,sl⟩,ho,hc,n,hd⟩:=id ht
  obtain⟨⟨cls2,dd2,data2,sl2⟩,ho2,hc2,n2,hd2⟩:=id hb
  simp only at hc hd hc2 hd2
  subst hc hd hc2 hd2
  have e:vs.toArray ++ ws.toArray=(vs ++ ws).toArray:=by simp
  by_cases hw:ws=[]
  . exact concat_meets ⟨_,ho,rfl⟩ ⟨_,ho2,rfl⟩ noFill_tuple_add seq_tuple_add PySem.F.slot_tuple_add PySem.F.entry_tuple_add (PySem.F.args_tuple_add_2 _ _)
      (tuple_addW1 t b vs.toArray ws.toArray n n2 dd dd2 sl sl2 (by simpa using hv) (by simp[hw])) ⟨ho,ho2,h1 hw⟩
  . refine concat_meets ⟨_,ho,rfl⟩ ⟨_,ho2,rfl⟩ noFill_tuple_add seq_tuple_add PySem.F.slot_tuple_add PySem.F.entry_tuple_add (PySem.F.args_tuple_add_2 _ _)
      (tuple_addW2 t b vs.toArray ws.toArray n n2 dd dd2 sl sl2 (by simpa using hv) (by simpa using hw) (by rw[List.size_toArray,List.size_toArray];exact hsz)) ⟨ho,ho2,?_⟩
    rw[e]
    exact h2 hw
noncomputable def sIx(n d:Nat):Option Int->Nat
  | none=>d
  | some v=>if v < 0 then(v + (n:Int)).toNat else min v.toNat n
theorem sIx_none(n d:Nat):sIx n d none=d:=rfl
theorem sIx_nat(n d k:Nat):sIx n d (some (k:Int))=min k n:=by
  show(if(k:Int) < 0 then((k:Int) + (n:Int)).toNat else min (k:Int).toNat n)=min k n
  rw[if_neg (by omega),Int.toNat_natCast]
end
end HT
namespace L2
open PySem PySem.Spec PyProof.Rows
noncomputable abbrev TO:=St->Hp->(Option Int->Hp->Prop)->Prop
noncomputable def PO(X:Cx)(e:Option Expr)(t:TO):Prop:=
  ∀ (pins:List (Addr × Obj)) (s:Shared) (σ:St) (H:Hp) (Q:Option Int->Hp->Prop),Inv X pins σ H s->t σ H Q ->
    wpAny (model X.prog X.w) X.A (evalPart e X.env) (λ u s'=>∃ o H',Inv X pins σ H' s'/\IsPart u o/\Q o H') X.xe s
noncomputable def Ju:TO:=λ _ H Q=>Q none H
noncomputable def NV(t:TE):TO:=λ σ H Q=>t σ H λ x H1=>∃ i,x=.int i/\Q (some i) H1
section
variable{X:Cx}{e:Expr}{te:TE}{lo hi:Option Expr}{tl th:TO}{pos p2:Pos}
theorem T8:PO X none Ju:=by
  intro pins s σ H Q I h
  rw[evalPart_none]
  exact wpAny_pure ⟨none,H,I,.none,h⟩
theorem T7(h:PE X e te):PO X (some e) (NV te):=by
  intro pins s σ H Q I hw
  rw[evalPart_some]
  refine thn (h pins s σ H _ I hw) λ u s1 ⟨x,H1,I1,r1,q1⟩=>?_
  obtain⟨i,rfl,q⟩:=q1
  obtain⟨t,rfl⟩:=r1
  exact⟨some i,H1,I1,.int i t,q⟩
noncomputable def SlR(X:Cx)(r:V->Option Int->Option Int->Hp->VK->Prop):Prop:=
  ∀ (pins:List (Addr × Obj)) (s:Shared) (σ:St) (H:Hp) (x:V) (v vl vu:Value) (lo hi:Option Int) (sl:Addr) (Q:VK),Inv X pins σ H s->RelV x v->s.heap.IsSliceOf sl vl vu .none->IsPart vl lo->IsPart vu hi->r x lo hi H Q ->
    ∃ T id,typeLookup (.type T) "__getitem__"=pure (some (.builtin id))/\s.TypeIs v T/\wpAny (model X.prog X.w) X.A (getItem v (.ref sl)) (EP X pins σ Q) X.xe s
noncomputable def tSl(r:V->Option Int->Option Int->Hp->VK->Prop)(te:TE)(tl th:TO):TE:=λ σ H Q=>te σ H λ x H1=>tl σ H1 λ l H2=>th σ H2 λ u H3=>r x l u H3 Q
theorem R8{r:V->Option Int->Option Int->Hp->VK->Prop}(hr:SlR X r)(he:PE X e te)(hl:PO X lo tl)(hu:PO X hi th):PE X (.Subscript e (.Slice lo hi none p2) pos) (tSl r te tl th):=by
  intro pins s σ H Q I h
  refine Subscript_ (thn (he pins s σ H _ I h) λ v s1 ⟨x,H1,I1,r1,q1⟩=>?_)
  refine wpAny_Slice (thn (hl pins s1 σ H1 _ I1 q1) λ vl s2 ⟨l,H2,I2,pl,q2⟩=>thn (hu pins s2 σ H2 _ I2 q2) λ vu s3 ⟨u,H3,I3,pu,q3⟩=>?_)
  rw[evalPart_none]
  refine wpAny_pure ?_
  have I4:Inv X pins σ H3 { s3 with heap:=s3.heap.push { cls:=.type "slice",data:=.fields #[vl,vu,.none] } }:=I3.kept (t':=s3.toks) λ b ob q=>Heap.get?_push_of_some _ q
  obtain⟨T,id,hT,ht,hg⟩:=hr pins { s3 with heap:=s3.heap.push { cls:=.type "slice",data:=.fields #[vl,vu,.none] } } σ H3 x v vl vu l u s3.heap.objs.size Q I4 r1 (Heap.IsSliceOf.new ..) pl pu q3
  show wpAny (model X.prog X.w) X.A (subscriptTail e (.Slice lo hi none p2) v (.ref s3.heap.objs.size)) (EP X pins σ Q) X.xe { s3 with heap:=s3.heap.push { cls:=.type "slice",data:=.fields #[vl,vu,.none] } }
  exact tail_any (ops:=[.ref s3.heap.objs.size,v]) ht hT hg (by with_unfolding_all rfl)
noncomputable def Ix(xs:List V)(lo hi:Option Int):List V:=(xs.drop (HT.sIx xs.length 0 lo)).take (HT.sIx xs.length xs.length hi - HT.sIx xs.length 0 lo)
theorem Mj(xs:List V)(lo hi:Option Int):(Ix xs lo hi).length <= xs.length:=by
  unfold Ix
  rw[List.length_take,List.length_drop]
  omega
noncomputable def Nx(K:PySem.W.Frag):R2:=λ x y H Q=>∃ a b xs ys,x=.ref a/\y=.ref b/\SqT K H a xs/\SqT K H b ys/\xs ≠ []/\xs.length + ys.length <= sizeLine /\
  (ys=[]->Q (.ref a) H)/\(ys ≠ []->∀ p,H p=none->Q (.ref p) (upd H p (.tup (xs ++ ys))))
theorem Vals.nil_iff{xs:List V}{us:List Value}(r:Vals xs us):us=[] ↔ xs=[]:=by
  cases r with
  | nil=>simp
  | cons _ _=>simp
theorem TX:OpR X (binaryOp .Add) (Nx X.K):=by
  intro pins s σ H x y v u Q I rx ry h
  obtain⟨a,b,xs,ys,rfl,rfl,ha,hb,hx,hz,q1,q2⟩:=h
  cases rx
  cases ry
  obtain⟨its,r1,p1,_⟩:=I.tuple ha
  obtain⟨its2,r2,p2,_⟩:=I.tuple hb
  refine HT.cat_tup p1 p2 (λ z=>hx (r1.nil_iff.mp z)) (λ z=>⟨.ref a,H,I,rfl,q1 (r2.nil_iff.mp z)⟩) (λ z=>?_) (by rw[<- r1.length,<- r2.length];exact hz)
  refine⟨.ref s.heap.objs.size,_,I.laid (t':=s.toks) (o:=.tup (xs ++ ys)) (λ b ob q=>Heap.get?_push_of_some _ q) (Nat.le_refl _) ?_,rfl,q2 (λ w=>z (r2.nil_iff.mpr w)) _ (I.hok.fresh (Nat.le_refl _))⟩
  exact⟨by rw[List.length_append];exact hz,_,r1.append r2,IsTup.new _ _⟩
end
end L2
namespace L2
open PySem PySem.Spec PyProof.Rows
noncomputable def ixN(n:Nat)(i:Int):Option Nat:=if 0 <= i then(if i < n then some i.toNat else none)else if -(n:Int) <= i then some (i + n).toNat else none
noncomputable def atI{α:Type}(xs:List α)(i:Int):Option α:=(ixN xs.length i).bind λ j=>xs[j]?
theorem Tm{n:Nat}{i:Int}{j:Nat}(h:ixN n i=some j):seqIndex? i n=some j/\j < n/\-(n:Int) <= i/\i < n:=by
  unfold ixN at h
  by_cases h0:0 <= i
  . rw[if_pos h0]at h
    by_cases h1:i < n
    . rw[if_pos h1]at h
      have e:i.toNat=j:=Option.some.inj h
      exact⟨by rw[seqIndex_of h0 h1,e],by omega,by omega,h1⟩
    . rw[if_neg h1]at h;cases h
  . rw[if_neg h0]at h
    by_cases h1:-(n:Int) <= i
    . rw[if_pos h1]at h
      have e:(i + n).toNat=j:=Option.some.inj h
      exact⟨by rw[seqIndex_neg (by omega) h1,e],by omega,h1,by omega⟩
    . rw[if_neg h1]at h;cases h
theorem NJ{α:Type}{xs:List α}{i:Int}{v:α}(h:atI xs i=some v):∃ j,seqIndex? i xs.length=some j/\xs[j]? = some v/\j < xs.length/\-(xs.length:Int) <= i/\i < xs.length:=by
  unfold atI at h
  cases e:ixN xs.length i with
  | none=>rw[e]at h;cases h
  | some j=>
    rw[e]at h
    obtain⟨h1,h2,h3,h4⟩:=Tm e
    exact⟨j,h1,h,h2,h3,h4⟩
theorem Ey{α:Type}{xs:List α}{j:Nat}{v:α}(h:xs[j]? = some v):atI xs (j:Int)=some v:=by
  have hj:j < xs.length:=(List.getElem?_eq_some_iff.mp h).1
  have e:ixN xs.length (j:Int)=some j:=by
    unfold ixN
    rw[if_pos (by omega),if_pos (by omega)];simp
  unfold atI;rw[e];exact h
theorem MV{α:Type}(xs:List α)(v:α):atI (xs ++ [v]) (-1)=some v:=by
  have hl:(xs ++ [v]).length=xs.length + 1:=by simp
  have e:ixN (xs ++ [v]).length (-1)=some xs.length:=by
    unfold ixN
    rw[hl,if_neg (by decide),if_pos (by omega)]
    congr 1
    omega
  unfold atI
  rw[e]
  show(xs ++ [v])[xs.length]? = some v
  simp
noncomputable def KL(b:Expr):Prop:=∀ o i,subscripted b false o i=operate [o,i] (getItem o i)
noncomputable def IxR(X:Cx)(r:R2):Prop:=
  ∀ (value slice:Expr) (pins:List (Addr × Obj)) (s:Shared) (σ:St) (H:Hp) (x y:V) (v u:Value) (Q:VK),Inv X pins σ H s->RelV x v->RelV y u->r x y H Q ->
    subscripted slice false v u=operate [v,u] (getItem v u)->wpAny (model X.prog X.w) X.A (subscriptTail value slice v u) (EP X pins σ Q) X.xe s
noncomputable def MtR(X:Cx)(id:String)(r:V->List V->Hp->VK->Prop):Prop:=
  ∀ (pins:List (Addr × Obj)) (s:Shared) (σ:St) (H:Hp) (x:V) (xs:List V) (v:Value) (us:List Value) (Q:VK),Inv X pins σ H s->RelV x v->Vals xs us->r x xs H Q ->
    wpAny (model X.prog X.w) X.A (call (.builtin id) (v :: us)) (EP X pins σ Q) X.xe s
section
variable{X:Cx}{a b:Expr}{ta tb:TE}{pos:Pos}
theorem IxR.or{r r':R2}(h:IxR X r)(h':IxR X r'):IxR X (λ x y H Q=>r x y H Q ∨ r' x y H Q):=by
  intro value slice pins s σ H x y v u Q I rx ry q hs
  rcases q with q|q
  . exact h value slice pins s σ H x y v u Q I rx ry q hs
  . exact h' value slice pins s σ H x y v u Q I rx ry q hs
theorem S4{r:R2}(hr:IxR X r)(ha:PE X a ta)(hb:PE X b tb)(hs:KL b):PE X (.Subscript a b pos) (tOp r ta tb):=by
  intro pins s σ H Q I h
  exact Subscript_ (Rk ha hb I h λ v u s2 x y H2 I2 rx ry q=>hr a b pins s2 σ H2 x y v u Q I2 rx ry q (hs _ _))
noncomputable def Qh(K:PySem.W.Frag):R2:=λ x y H Q=>∃ p xs i v,x=.ref p/\y=.int i/\SqL K H p xs/\atI xs i=some v/\Q v H
noncomputable def Qg(K:PySem.W.Frag):R2:=λ x y H Q=>∃ p xs i v,x=.ref p/\y=.int i/\SqT K H p xs/\atI xs i=some v/\Q v H
theorem Tl:IxR X (Qh X.K):=by
  intro value slice pins s σ H x y v u Q I rx ry h hs
  obtain⟨p,xs,i,z,rfl,rfl,hq,he,q⟩:=h
  cases rx
  obtain⟨t,rfl⟩:=ry
  obtain⟨its,r,pl,hz⟩:=I.list hq
  obtain⟨j,h1,h2,h3,h4,h5⟩:=NJ he
  obtain⟨w,ew,rw'⟩:=r.get h2
  have hl:=r.length
  have hn:=Je
  have fin:EP X pins σ Q w s:=⟨z,H,I,rw',q⟩
  by_cases h0:0 <= i
  . have hj:i.toNat=j:=by
      rw[seqIndex_of h0 h5]at h1
      exact Option.some.inj h1
    exact item_listR pl.isList h0 (by omega) (by rw[hj];simpa using ew) fin hs
  . have hj:(i + (its.toArray.size:Int)).toNat=j:=by
      rw[seqIndex_neg (by omega) h4]at h1
      rw[List.size_toArray,<- hl]
      exact Option.some.inj h1
    exact subscriptTail_builtinR (x:=w) pl.isList.typeIs slot_list_getitem.lookup
      (wpAny_getItem_list_neg (Q:=λ r s'=>r=w/\EP X pins σ Q r s') pl.isList (by omega) (by rw[List.size_toArray] <;> omega) (by omega) (by rw[hj];simpa using ew) ⟨rfl,fin⟩) hs
theorem VJ:IxR X (Qg X.K):=by
  intro value slice pins s σ H x y v u Q I rx ry h hs
  obtain⟨p,xs,i,z,rfl,rfl,hq,he,q⟩:=h
  cases rx
  obtain⟨t,rfl⟩:=ry
  obtain⟨its,r,pl,hz⟩:=I.tuple hq
  obtain⟨j,h1,h2,h3,h4,h5⟩:=NJ he
  obtain⟨w,ew,rw'⟩:=r.get h2
  have hl:=r.length
  have hn:=Je
  have fin:EP X pins σ Q w s:=⟨z,H,I,rw',q⟩
  exact subscriptTail_builtinR (x:=w) pl.typeIs slot_tuple_getitem.lookup
    (getItem_tuple (j:=j) (Q:=λ r s'=>r=w/\EP X pins σ Q r s') pl (by omega) (by omega) (by rw[List.size_toArray,<- hl];exact h1) (by simpa using ew) ⟨rfl,fin⟩) hs
theorem Inv.lst{pins:List (Addr × Obj)}{σ:St}{H:Hp}{s:Shared}{p:Addr}{xs:List V}(I:Inv X pins σ H s)(h:H p=some (.lst xs)) :
    ∃ (its:List Value) (n:Nat),Vals xs its/\s.heap.get? p=some { cls:=.type "list",data:=.seq its.toArray n }/\xs.length <= sizeLine:=by
  obtain⟨z,its,n,r,e⟩:=I.hok p _ h
  exact⟨its,n,r,e,z⟩
theorem LN(lo hi:Option Int)(n:Nat):(sliceBounds lo hi none n).1=((HT.sIx n 0 lo:Nat):Int)/\(sliceBounds lo hi none n).2.1=((HT.sIx n n hi:Nat):Int)/\(sliceBounds lo hi none n).2.2=1:=by
  refine⟨?_,?_,rfl⟩
  . cases lo with
    | none=>simp[sliceBounds,HT.sIx]
    | some i=>
      simp only[sliceBounds,HT.sIx,Option.getD_none,show(1:Int) > 0 by decide,if_true]
      by_cases h:i < 0
      . simp only[h,if_true] <;> omega
      . simp only[h,if_false] <;> omega
  . cases hi with
    | none=>simp[sliceBounds,HT.sIx]
    | some i=>
      simp only[sliceBounds,HT.sIx,Option.getD_none,show(1:Int) > 0 by decide,if_true]
      by_cases h:i < 0
      . simp only[h,if_true] <;> omega
      . simp only[h,if_false] <;> omega
theorem Kl(its:List Value)(lo hi:Option Int):slicePick its.toArray lo hi none=((its.drop (HT.sIx its.length 0 lo)).take (HT.sIx its.length its.length hi - HT.sIx its.length 0 lo)).toArray:=by
  obtain⟨h1,h2,h3⟩:=LN lo hi its.toArray.size
  unfold slicePick
  rw[h1,h2,h3]
  simp only[sliceRange_one,pick_run,List.size_toArray] <;> rfl
noncomputable def Nv(K:PySem.W.Frag):V->Option Int->Option Int->Hp->VK->Prop:=λ x lo hi H Q=>∃ a xs,x=.ref a/\SqL K H a xs/\∀ p,H p=none->Q (.ref p) (upd H p (.lst (Ix xs lo hi)))
theorem SO:SlR X (Nv X.K):=by
  intro pins s σ H x v vl vu lo hi sl Q I rx hs pl pu h
  obtain⟨a,xs,rfl,hx,q⟩:=h
  cases rx
  obtain⟨its,r,ht,hz⟩:=I.list hx
  have hlen:=r.length
  refine⟨"list",_,slot_list_getitem.lookup,ht.isList.typeIs,?_⟩
  refine wpAny_getItem_list_slice ht.isList hs pl pu .none (by simp) ?_ (by rw[List.size_toArray] <;> omega)
  rw[Kl,<- hlen]
  refine⟨.ref s.heap.objs.size,_,I.laid (t':=s.toks) (o:=.lst (Ix xs lo hi)) (λ b ob q=>Heap.get?_push_of_some _ q) (Nat.le_refl _) ?_,rfl,q _ (I.hok.fresh (Nat.le_refl _))⟩
  exact⟨Nat.le_trans (Mj xs lo hi) hz,_,0,(r.drop (HT.sIx xs.length 0 lo)).take (HT.sIx xs.length xs.length hi - HT.sIx xs.length 0 lo),Heap.get?_push_size _ rfl⟩
noncomputable def FD:V->Bool
  | .non=>true
  | .bl _=>true
  | .int _=>true
  | .str _=>true
  | _=>false
noncomputable def eqV:V->V->Bool
  | .non,.non=>true
  | .bl a,.bl b=>a == b
  | .bl a,.int b=>(if a then 1 else 0) == b
  | .int a,.bl b=>a == (if b then 1 else 0)
  | .int a,.int b=>a == b
  | .str a,.str b=>a == b
  | _,_=>false
theorem Vd{A:Around}{s:Shared}{y x:V}{u v:Value}(ry:RelV y u)(rx:RelV x v)(fy:FD y=true)(fx:FD x=true):SeqAt.EqAt A s u v (eqV y x):=by
  cases y with
  | non=>
    cases ry
    cases x with
    | non=>cases rx;exact SeqAt.EqAt.same _
    | bl b=>cases rx;exact SeqAt.EqAt.none_bool b
    | int b=>obtain⟨t,rfl⟩:=rx;exact SeqAt.EqAt.none_int b t
    | str b=>obtain⟨t,rfl⟩:=rx;exact SeqAt.EqAt.none_str b t
    | _=>exact absurd (show false=true from fx) Bool.false_ne_true
  | bl a=>
    cases ry
    cases x with
    | non=>cases rx;exact SeqAt.EqAt.bool_none a
    | bl b=>cases rx;exact SeqAt.EqAt.bool_bool a b
    | int b=>obtain⟨t,rfl⟩:=rx;exact SeqAt.EqAt.bool_int a b t
    | str b=>obtain⟨t,rfl⟩:=rx;exact SeqAt.EqAt.bool_str a b t
    | _=>exact absurd (show false=true from fx) Bool.false_ne_true
  | int a=>
    obtain⟨t',rfl⟩:=ry
    cases x with
    | non=>cases rx;exact SeqAt.EqAt.int_none a t'
    | bl b=>cases rx;exact SeqAt.EqAt.int_bool a t' b
    | int b=>obtain⟨t,rfl⟩:=rx;exact SeqAt.EqAt.int_int a t' b t
    | str b=>obtain⟨t,rfl⟩:=rx;exact SeqAt.EqAt.int_str a t' b t
    | _=>exact absurd (show false=true from fx) Bool.false_ne_true
  | str a=>
    obtain⟨t',rfl⟩:=ry
    cases x with
    | non=>cases rx;exact SeqAt.EqAt.str_none a t'
    | bl b=>cases rx;exact SeqAt.EqAt.str_bool a t' b
    | int b=>obtain⟨t,rfl⟩:=rx;exact SeqAt.EqAt.str_int a t' b t
    | str b=>obtain⟨t,rfl⟩:=rx;exact SeqAt.EqAt.str_str a t' b t
    | _=>exact absurd (show false=true from fx) Bool.false_ne_true
  | _=>exact absurd (show false=true from fy) Bool.false_ne_true
noncomputable def eqU(x:V)(u:Value):Bool:=match u with
  | .none=>eqV .non x
  | .bool b=>eqV (.bl b) x
  | .int i _=>eqV (.int i) x
  | .str z _=>eqV (.str z) x
  | _=>false
theorem Pd{x y:V}{u:Value}(r:RelV y u)(f:FD y=true):eqU x u=eqV y x:=by
  cases y with
  | non=>cases r;rfl
  | bl b=>cases r;rfl
  | int i=>obtain⟨t,rfl⟩:=r;rfl
  | str z=>obtain⟨t,rfl⟩:=r;rfl
  | _=>exact absurd (show false=true from f) Bool.false_ne_true
theorem Gf{x:V}:∀ {xs:List V} {us:List Value},Vals xs us->xs.all FD=true->us.any (eqU x)=xs.any λ y=>eqV y x
  | _,_,.nil,_=>rfl
  | y :: xs,u :: us,.cons r t,f=>by
    rw[List.all_cons,Bool.and_eq_true]at f
    rw[List.any_cons,List.any_cons,Pd r f.1,Gf t f.2]
theorem Fq{A:Around}{s:Shared}{x:V}{v:Value}(rx:RelV x v)(fx:FD x=true):∀ {xs:List V} {us:List Value},Vals xs us->xs.all FD=true->∀ u ∈ us,SeqAt.EqAt A s u v (eqU x u)
  | _,_,.nil,_=>λ u hu=>by cases hu
  | y :: xs,u :: us,.cons r t,f=>λ u' hu=>by
    rw[List.all_cons,Bool.and_eq_true]at f
    rcases List.mem_cons.mp hu with rfl|hu
    . rw[Pd r f.1];exact Vd r rx f.1 fx
    . exact Fq rx fx t f.2 u' hu
noncomputable def inV(x:V)(xs:List V):Bool:=xs.any λ y=>eqV y x
noncomputable def rIn(K:PySem.W.Frag)(neg:Bool):R2:=λ x y H Q=>∃ p xs,y=.ref p/\(SqL K H p xs ∨ SqT K H p xs)/\FD x=true/\xs.all FD=true/\Q (.bl (if neg then !inV x xs else inV x xs)) H
theorem PD:OpR X (compareOp .In) (rIn X.K false):=by
  intro pins s σ H x y v u Q I rx ry h
  obtain⟨p,xs,rfl,hq,fx,fs,q⟩:=h
  cases ry
  rcases hq with hq|hq
  . obtain⟨its,r,pl,hz⟩:=I.list hq
    refine SeqAt.in_listAt (eqU x) pl.isList (λ w hw=>Fq rx fx r fs w (by simpa using hw)) ⟨.bl _,H,I,rfl,?_⟩
    rw[show its.toArray.any (eqU x)=its.any (eqU x) by simp,Gf r fs]
    exact q
  . obtain⟨its,r,pl,hz⟩:=I.tuple hq
    refine SeqAt.in_tupleAt (eqU x) pl (λ w hw=>Fq rx fx r fs w (by simpa using hw)) ⟨.bl _,H,I,rfl,?_⟩
    rw[show its.toArray.any (eqU x)=its.any (eqU x) by simp,Gf r fs]
    exact q
theorem Lj:OpR X (compareOp .NotIn) (rIn X.K true):=by
  intro pins s σ H x y v u Q I rx ry h
  obtain⟨p,xs,rfl,hq,fx,fs,q⟩:=h
  cases ry
  rcases hq with hq|hq
  . obtain⟨its,r,pl,hz⟩:=I.list hq
    refine SeqAt.notIn_listAt (eqU x) pl.isList (λ w hw=>Fq rx fx r fs w (by simpa using hw)) ⟨.bl _,H,I,rfl,?_⟩
    rw[show its.toArray.any (eqU x)=its.any (eqU x) by simp,Gf r fs]
    exact q
  . obtain⟨its,r,pl,hz⟩:=I.tuple hq
    refine SeqAt.notIn_tupleAt (eqU x) pl (λ w hw=>Fq rx fx r fs w (by simpa using hw)) ⟨.bl _,H,I,rfl,?_⟩
    rw[show its.toArray.any (eqU x)=its.any (eqU x) by simp,Gf r fs]
    exact q
theorem MR:CallR X (.builtin "len") (λ xs H Q=>∃ p ys,xs=[.ref p]/\(SqL X.K H p ys ∨ SqT X.K H p ys)/\Q (.int ys.length) H):=by
  intro pins s σ H xs us Q I r h
  obtain⟨p,ys,rfl,hq,q⟩:=h
  obtain⟨u,rfl,rx⟩:=Cd r
  cases rx
  have hn:=Je
  rcases hq with hq|hq
  . obtain⟨its,r',pl,hz⟩:=I.list hq
    have hlen:=r'.length
    exact Calls.call_len_list pl.isList (by simp only[List.size_toArray] <;> omega) ⟨.int ys.length,H,I.tok _,⟨s.toks + 1,by rw[List.size_toArray,hlen]⟩,q⟩
  . obtain⟨its,r',pl,hz⟩:=I.tuple hq
    have hlen:=r'.length
    exact len_tuple pl (by simp only[List.size_toArray] <;> omega) ⟨.int ys.length,H,I.tok _,⟨s.toks + 1,by rw[List.size_toArray,hlen]⟩,q⟩
theorem CallR.or{f:Value}{r r':List V->Hp->VK->Prop}(h:CallR X f r)(h':CallR X f r'):CallR X f (λ xs H Q=>r xs H Q ∨ r' xs H Q):=by
  intro pins s σ H xs us Q I rs q
  rcases q with q|q
  . exact h pins s σ H xs us Q I rs q
  . exact h' pins s σ H xs us Q I rs q
theorem MQ:CallR X (.type "list") (λ xs H Q=>∃ p ys,xs=[.ref p]/\(SqL X.K H p ys ∨ SqT X.K H p ys)/\∀ l,H l=none->Q (.ref l) (upd H l (.lst ys))):=by
  intro pins s σ H xs us Q I r h
  obtain⟨p,ys,rfl,hq,q⟩:=h
  obtain⟨u,rfl,rx⟩:=Cd r
  cases rx
  have fin:∀ (its:List Value),Vals ys its->ys.length <= sizeLine->∀ (h':Heap) (c':Nat),(∀ b o',s.heap.get? b=some o'->h'.get? b=some o') ->
      h'.get? s.heap.objs.size=some { cls:=.type "list",dict:=none,data:=.seq its.toArray c',slots:=#[] }->EP X pins σ Q (.ref s.heap.objs.size) { s with heap:=h' }:=λ its r' hz h' c' kp e=>
    ⟨.ref s.heap.objs.size,_,I.laid (t':=s.toks) kp (Nat.le_refl _) (show ObjOk X.prog X.w _ h' _ (.lst ys)from⟨hz,its,c',r',e⟩),rfl,q _ (I.hok.fresh (Nat.le_refl _))⟩
  rcases hq with hq|hq
  . obtain⟨its,r',pl,hz⟩:=I.list hq
    have hlen:=r'.length
    obtain⟨o,ho,hc,n,hd⟩:=pl.isList
    exact call_list_seq p (.inl rfl) ho hc hd (λ h' c' kp e=>fin its r' hz h' c' kp e) (by simp only[List.size_toArray] <;> omega)
  . obtain⟨its,r',pl,hz⟩:=I.tuple hq
    have hlen:=r'.length
    obtain⟨o,ho,hc,n,hd⟩:=pl
    exact call_list_seq p (.inr rfl) ho hc hd (λ h' c' kp e=>fin its r' hz h' c' kp e) (by simp only[List.size_toArray] <;> omega)
theorem Kn:CallR X (.type "tuple") (λ xs H Q=>∃ p ys,xs=[.ref p]/\((SqL X.K H p ys/\∀ l,H l=none->Q (.ref l) (upd H l (.tup ys))) ∨ (SqT X.K H p ys/\Q (.ref p) H))):=by
  intro pins s σ H xs us Q I r h
  obtain⟨p,ys,rfl,h⟩:=h
  obtain⟨u,rfl,rx⟩:=Cd r
  cases rx
  rcases h with⟨hq,q⟩|⟨hq,q⟩
  . obtain⟨its,r',pl,hz⟩:=I.list hq
    have hlen:=r'.length
    refine call_tuple_list pl.isList (λ h' kp=>?_) (by simp only[List.size_toArray] <;> omega)
    have I1:Inv X pins σ H { s with heap:=h' }:=I.kept (t':=s.toks) kp
    have I2:Inv X pins σ (upd H h'.objs.size (.tup ys)) { s with heap:=h'.push { cls:=.type "tuple",data:=.seq its.toArray } }:=
      I1.laid (t':=s.toks) (λ b o e=>Heap.get?_push_of_some _ e) (Nat.le_refl _) (show ObjOk X.prog X.w _ _ _ (.tup ys)from⟨hz,its,r',IsTup.new _ _⟩)
    exact⟨.ref h'.objs.size,_,I2,rfl,q _ (I1.hok.fresh (Nat.le_refl _))⟩
  . obtain⟨its,r',pl,hz⟩:=I.tuple hq
    exact call_tuple_same pl ⟨.ref p,H,I,rfl,q⟩
noncomputable def tyV(K:PySem.W.Frag)(T:String)(x:V)(H:Hp):Prop:=match x with
  | .str _=>T="str"
  | .int _=>T="int"
  | .ref p=>(T="list"/\∃ xs,SqL K H p xs) ∨ (T="tuple"/\∃ o,K.lookup p=some o/\o.cls=.type "tuple"/\o.dict=none) ∨
      (T="dict"/\((∃ kvs,H p=some (.dK kvs)) ∨ ∃ kvs,H p=some (.dT kvs))) ∨ (T="set"/\∃ S n,H p=some (.set S n))
  | _=>False
theorem U8{pins:List (Addr × Obj)}{σ:St}{H:Hp}{s:Shared}{T:String}{x:V}{v:Value}(I:Inv X pins σ H s)(r:RelV x v)(ty:tyV X.K T x H) :
    s.TypeIs v T/\∀ a,v=.ref a->∃ ob,s.heap.get? a=some ob/\ob.dict=none:=by
  cases x with
  | str z=>
    obtain⟨t,rfl⟩:=r
    cases(show T="str" from ty)
    exact⟨typeIs_str s z t,λ _ e=>nomatch e⟩
  | int i=>
    obtain⟨t,rfl⟩:=r
    cases(show T="int" from ty)
    exact⟨typeIs_int s i t,λ _ e=>nomatch e⟩
  | ref p=>
    cases r
    rcases ty with⟨rfl,xs,hq⟩|⟨rfl,o,hk,hc,hd⟩|⟨rfl,hk⟩|⟨rfl,S,n,hk⟩
    . obtain⟨its,_,pl,_⟩:=I.list hq
      refine⟨pl.isList.typeIs,λ a e=>?_⟩
      cases e
      obtain⟨o,n,e,c,hd,_⟩:=pl
      exact⟨o,e,hd⟩
    . refine⟨⟨o,I.kIn p o hk,hc⟩,λ a e=>?_⟩
      cases e
      exact⟨o,I.kIn _ o hk,hd⟩
    . have z:∃ o,s.heap.get? p=some o/\o.ExactDict:=by
        rcases hk with⟨kvs,hk⟩|⟨kvs,hk⟩
        . obtain⟨_,_,_,_,o,_,_,e,ex,_⟩:=I.hok p _ hk
          exact⟨o,e,ex⟩
        . obtain⟨_,_,_,_,o,_,_,e,ex,_⟩:=I.hok p _ hk
          exact⟨o,e,ex⟩
      obtain⟨o,e,ex⟩:=z
      refine⟨⟨o,e,ex.1⟩,λ a e2=>?_⟩
      cases e2
      exact⟨o,e,ex.2.1⟩
    . obtain⟨o,_,_,_,e,ex,_⟩:=I.hok p _ hk
      refine⟨⟨o,e,ex.1⟩,λ a e2=>?_⟩
      cases e2
      exact⟨o,e,ex.2.1⟩
  | _=>exact False.elim ty
noncomputable def tBM(K:PySem.W.Frag)(T:String)(r:V->List V->Hp->VK->Prop)(to:TE)(t:TA):TE:=λ σ H Q=>to σ H λ x H1=>tyV K T x H1/\t σ H1 λ xs H2=>r x xs H2 Q
variable{o e:Expr}{es:List Expr}{to:TE}{t:TA}{name:Str}{apos cpos:Pos}{T id:String}{r:V->List V->Hp->VK->Prop}
theorem W3(pa:PlainAttrs T)(slot:Slot T name id)(hty:typeOf (.builtin id)=pure (.type "method_descriptor"))(hm:MtR X id r)(ho:PE X o to)(ha:PA X (e :: es) t)
    (hbase:attributeBase o name X.env (eval o X.env)=eval o X.env:=by rfl)
    (hfew:((backTo cpos (starEach (e :: es) X.env)).all (λ x=>!x.1) && (backToKw cpos (keywordEach [] X.env)).all (λ x=>x.1.isSome)
      && decide ((e :: es).length + ([]:List Keyword).length + (if([]:List Keyword).isEmpty then 0 else 1) < 30))=true:=by rfl)
    (hline:(apos.endLine == cpos.line)=true:=by rfl) (hs:starEach (e :: es) X.env=(false,eval e X.env) :: starEach es X.env:=by rfl) (hplain:(backTo cpos (starEach es X.env)).any (·.1)=false:=by rfl) :
    PE X (.Call (.Attribute o name apos) (e :: es) [] cpos) (tBM X.K T r to t):=by
  intro pins s σ H Q I h
  refine wpAny_Call_method_late hbase hfew hline rfl (thn (ho pins s σ H _ I h) λ v s1 ⟨x,H1,I1,r1,ty,q1⟩=>?_)
  obtain⟨h1,h2⟩:=U8 I1 r1 ty
  refine⟨T,id,pa,slot,hty,h1,h2,?_⟩
  have hA:=ha cpos pins s1 σ H1 _ I1 q1
  rw[hs]at hA ⊢
  refine Calls.callWith_builtin (by show(false || (backTo cpos (starEach es X.env)).any (·.1))=false;rw[hplain] <;> rfl) (Calls.evalArgs_plain ?_)
  exact thn hA λ us s2 ⟨vs,H2,I2,r2,q2⟩=>hm pins s2 σ H2 x vs v us Q I2 r1 r2 q2
end
end L2
namespace L2
open PySem PySem.Spec PyProof.Rows
noncomputable def MtM(X:Cx)(id:String)(r:V->List V->Hp->VK->Prop):Prop:=
  ∀ (pins:List (Addr × Obj)) (s:Shared) (σ:St) (H:Hp) (x:V) (xs:List V) (v:Value) (us:List Value) (Q:VK),Inv X pins σ H s->RelV x v->Vals xs us->r x xs H Q ->
    wpAny (model X.prog X.w) X.A (call (.builtin id) (v :: us)) (EP X pins σ Q) X.xe s
theorem Vals.one:∀ {x:V} {us:List Value},Vals [x] us->∃ u,us=[u]/\RelV x u
  | _,_,.cons r .nil=>⟨_,rfl,r⟩
theorem Vals.eraseIdx:∀ {xs:List V} {us:List Value} (i:Nat),Vals xs us->Vals (xs.eraseIdx i) (us.eraseIdx i)
  | _,_,_,.nil=>.nil
  | _,_,0,.cons _ t=>t
  | _,_,i + 1,.cons r t=>.cons r (Vals.eraseIdx i t)
theorem Vals.rep{xs:List V}{us:List Value}(h:Vals xs us):∀ k:Nat,Vals (List.replicate k xs).flatten (List.replicate k us).flatten
  | 0=>.nil
  | k + 1=>by
    rw[List.replicate_succ,List.replicate_succ,List.flatten_cons,List.flatten_cons]
    exact Vals.append h (Vals.rep h k)
theorem Kb(its:List Value):∀ (k:Nat) (acc:List Value),
    List.foldl (λ x1 x2=>x1 ++ x2) acc.toArray (List.replicate k its.toArray)=(acc ++ (List.replicate k its).flatten).toArray
  | 0,acc=>by simp
  | k + 1,acc=>by
    have e:acc.toArray ++ its.toArray=(acc ++ its).toArray:=by simp
    have e2:(acc ++ its) ++ (List.replicate k its).flatten=acc ++ (List.replicate (k + 1) its).flatten:=by
      rw[List.replicate_succ,List.flatten_cons,List.append_assoc]
    rw[<- e2,<- Kb its k (acc ++ its),<- e,List.replicate_succ,List.foldl_cons]
section
variable{X:Cx}{pins:List (Addr × Obj)}{σ:St}{H:Hp}{s:Shared}{l b:Addr}{xs ys zs:List V}
theorem Inv.lset{its its':List Value}{n:Nat}{f:Array Value->Array Value}{t':Nat}(I:Inv X pins σ H s)(hH:H l=some (.lst xs))
    (e:s.heap.get? l=some { cls:=.type "list",data:=.seq its.toArray n }) (hf:f its.toArray=its'.toArray) (hv:Vals ys its') (hz:ys.length <= sizeLine) :
    Inv X pins σ (upd H l (.lst ys)) { s with heap:=s.heap.update l (Obj.mapSeq f),toks:=t' }:=by
  have q:=PySem.IsL.update e f
  rw[hf]at q
  refine I.write (x:=l) (e:=l) (by rw[hH];exact trivial) (.inl rfl) (λ b' u hb hu=>(Heap.get?_update_other s.heap (Obj.mapSeq f) (Ne.symm hb)).trans hu) ⟨_,q⟩ ?_
  exact⟨hz,its',_,hv,q⟩
theorem Inv.lnew{its:List Value}{t':Nat}(I:Inv X pins σ H s)(hv:Vals ys its)(hz:ys.length <= sizeLine) :
    Inv X pins σ (upd H s.heap.objs.size (.lst ys)) { s with heap:=s.heap.push { cls:=.type "list",data:=.seq its.toArray },toks:=t' }:=
  I.laid (λ _ _ q=>Heap.get?_push_of_some _ q) (Nat.le_refl _) ⟨hz,its,0,hv,Heap.get?_push_size _ rfl⟩
theorem Inv.fresh(I:Inv X pins σ H s):H s.heap.objs.size=none:=I.hok.fresh (Nat.le_refl _)
theorem Inv.lstM(I:Inv X pins σ H s)(hH:H l=some (.lst xs)):xs.length <= sizeLine/\∃ (its:List Value) (n:Nat),Vals xs its/\xs.length=its.length/\s.heap.get? l=some { cls:=.type "list",data:=.seq its.toArray n }:=by
  obtain⟨z,its,n,r,e⟩:=I.hok l _ hH
  exact⟨z,its,n,r,r.length,e⟩
theorem RO{n:Nat}(h:n <= sizeLine):Builtin.List.listTooLong n=false:=by
  unfold Builtin.List.listTooLong
  exact decide_eq_false (by omega)
end
section
variable{X:Cx}
noncomputable def Mz:V->List V->Hp->VK->Prop:=λ x vs H Q=>∃ l xs y,x=.ref l/\vs=[y]/\H l=some (.lst xs)/\xs.length < sizeLine/\Q .non (upd H l (.lst (xs ++ [y])))
theorem Do:MtM X "list.append" Mz:=by
  intro pins s σ H x vs v us Q I rx rv h
  obtain⟨l,xs,y,rfl,rfl,hH,hz,q⟩:=h
  cases rx
  obtain⟨u,rfl,ru⟩:=rv.one
  obtain⟨z,its,n,r,hl,e⟩:=I.lstM hH
  refine call_meets F.slot_list_append ⟨_,e,rfl⟩ F.entry_list_append (F.args_list_append_2 _ _) (PySem.list_append l its.toArray n u (by rw[List.size_toArray];omega)) ⟨e,?_⟩
  refine⟨.non,_,I.lset (its':=its ++ [u]) hH e (by simp) (r.append (.cons ru .nil)) ?_,rfl,q⟩
  rw[List.length_append,List.length_singleton]
  omega
noncomputable def Sn:V->List V->Hp->VK->Prop:=λ x vs H Q=>∃ l b xs zs,x=.ref l/\vs=[.ref b]/\H l=some (.lst xs)/\H b=some (.lst zs)/\xs.length + zs.length <= sizeLine/\Q .non (upd H l (.lst (xs ++ zs)))
theorem Wd:MtM X "list.extend" Sn:=by
  intro pins s σ H x vs v us Q I rx rv h
  obtain⟨l,b,xs,zs,rfl,rfl,hH,hB,hz,q⟩:=h
  cases rx
  obtain⟨u,rfl,ru⟩:=rv.one
  cases ru
  obtain⟨z,its,n,r,hl,e⟩:=I.lstM hH
  obtain⟨z2,its2,n2,r2,hl2,e2⟩:=I.lstM hB
  have hsz:its.toArray.size + its2.toArray.size <= sizeLine:=by rw[List.size_toArray,List.size_toArray];omega
  have hlong:¬ (!its.toArray.isEmpty && Builtin.List.listTooLong (its.toArray.size + its2.toArray.size))=true:=by
    rw[RO hsz,Bool.and_false]
    exact Bool.false_ne_true
  refine call_meets F.slot_list_extend ⟨_,e,rfl⟩ F.entry_list_extend (F.args_list_extend_2 _ _)
    (AutoSeq1.list_extend_list_list_0 l its.toArray n b its2.toArray n2 hlong (by rw[List.size_toArray];omega) (by omega)) ⟨e,e2,?_⟩
  refine⟨.non,_,I.lset (its':=its ++ its2) hH e (by simp) (r.append r2) ?_,rfl,q⟩
  rw[List.length_append]
  omega
noncomputable def Qj:R2:=λ x y H Q=>∃ l b xs zs,x=.ref l/\y=.ref b/\H l=some (.lst xs)/\H b=some (.lst zs)/\xs.length + zs.length <= sizeLine/\∀ p,H p=none->Q (.ref p) (upd H p (.lst (xs ++ zs)))
theorem V8:OpR X (binaryOp .Add) Qj:=by
  intro pins s σ H x y v u Q I rx ry h
  obtain⟨l,b,xs,zs,rfl,rfl,hH,hB,hz,q⟩:=h
  cases rx
  cases ry
  obtain⟨z,its,n,r,hl,e⟩:=I.lstM hH
  obtain⟨z2,its2,n2,r2,hl2,e2⟩:=I.lstM hB
  refine PySem.P.add_list e e2 ?_ (by rw[List.size_toArray,List.size_toArray];omega)
  have ea:its.toArray ++ its2.toArray=(its ++ its2).toArray:=by simp
  rw[ea]
  exact⟨.ref _,_,I.lnew (t':=s.toks) (r.append r2) (by rw[List.length_append];omega),rfl,q _ I.fresh⟩
theorem Tf{α:Type}(xs:List α)(k:Nat):(List.replicate k xs).flatten.length=k * xs.length:=by
  induction k with
  | zero=>simp
  | succ k ih=>rw[List.replicate_succ,List.flatten_cons,List.length_append,ih,Nat.succ_mul,Nat.add_comm]
end
section
variable{prog:Program}{w:World}{A:Around}{E:Value->Shared->Prop}{s:Shared}
end
section
variable{X:Cx}
end
end L2
namespace Att
open PySem PySem.W PySem.Calls PyProof.Rows
theorem Jk{P:Params}{h:Heap}:∀ (ns:List Int) (vs:List Value),WellAll P h vs (ns.map WData.int)->IntsAre vs ns:=by
  intro ns
  induction ns with
  | nil=>
    intro vs w
    rw[List.map_nil]at w
    cases w
    exact .nil
  | cons n ns ih=>
    intro vs w
    rw[List.map_cons]at w
    cases w with
    | cons a b=>
      cases a
      exact .cons _ _ (ih _ b)
theorem Oj{l:OpenLaw}{n:Nat}(hn:l.most=some n){P:Params}{h:Heap}{args:List WData}{vals:List Value}
    (hpre:l.row.toRowW.claim.pre args=true) (hwl:WellAll P h vals args) :
    ∃ a vs ns,vals=[Value.ref a]/\args=[WData.list (ns.map WData.int)]/\h.get? a=some { cls:=.type "list",data:=.seq vs.toArray }/\IntsAre vs ns/\ns.length <= n:=by
  have hsh:WShape.hasAll [] args [.list .int]=true:=(pre_splitW hpre).1
  have hc:l.pre.holds [] { args:=args }=true:=(pre_splitW hpre).2
  obtain⟨d,r,rfl,h1,h2⟩:=hasAllW_cons hsh
  obtain rfl:=hasAllW_nil h2
  obtain⟨xs,rfl,h3⟩:=hasW_list h1
  obtain⟨ns,rfl⟩:=items_int h3
  have hlen:ns.length <= n:=by
    unfold OpenLaw.pre at hc
    have h4:(WTm.not (.lt (.lit (.int (n:Int))) (.len (.arg 0)))).holds [] { args:=[.list (ns.map .int)] }=true:=by
      have h4:=(holds_andW hc).1
      rw[hn]at h4
      exact h4
    have h5:=condW_of h4 (w_not (w_lt w_lit (w_len_list (w_arg rfl))))
    rw[List.length_map]at h5
    refine Nat.le_of_not_lt λ q=>?_
    have q':(n:Int) < ((ns.length:Nat):Int):=by omega
    first
      | (rw[decide_eq_true q']at h5;exact absurd h5 (by decide))
      | (simp at h5;omega)
  cases hwl with
  | cons w1 w2=>
    cases w2
    cases w1 with
    | list ho hall=>exact⟨_,_,ns,rfl,rfl,ho,Jk ns _ hall,hlen⟩
theorem P2(l:OpenLaw)(args:List WData):l.row.toRowW.claim.post args (.bool true) args=true:=
  postW_of (r:=l.row.toRowW) (X:=(true == true))
    (show WShape.has [] (.bool true) .bool=true by first|rfl|decide|simp[WShape.has,WShape.arms,WShape.armsAll])
    (show(WTm.eq .res (.lit (.bool true))).value [] { args:=args,res:=some (.bool true),after:=args }=some (.bool (true == true))from w_eq_bool (w_res rfl) w_lit) rfl
theorem attach_call{l:OpenLaw}{n:Nat}{q:Program}{loose:List Str}{XP:(Str->Option Value)->Heap->Prop}{YP:World->Heap->Prop}{d:DefRec}
    (hn:l.most=some n) (hdf:d.params.defaults=[])
    (call:∀ (w:World) (s₀ s₁:Shared) (mg mb:Str->Option Value) (fa:Addr) (o:Obj) (pm cd doc:Value) (a:Addr) (vs:List Value) (ns:List Int),
      Ground q loose [] XP w s₀ mg mb s₁.heap->YP w s₁.heap ->
      s₁.heap.get? fa=some o->o.data=.func (docDef d.name d.params d.body d.scope pm cd doc)->s₁.heap.CodeRec cd d.name->mg d.name=some (.ref fa) ->
      s₁.heap.get? a=some { cls:=.type "list",data:=.seq vs.toArray }->IntsAre vs ns->ns.length <= n->s₁.gens=#[] ->
      codeAny (model l.prog w) callerA (.call (.ref fa) ⟨[.ref a],[]⟩) (λ r s'=>r=.ok (.ret (.bool true))/\OldK s₁.heap s'.heap/\s'.os=s₁.os/\AllBare s'.gens) s₁) :
    WalkO q loose XP YP l.row.toRowW d [] (λ f vs=>PySem.call f vs):=by
  intro w s₀ s₁ mg mb G Y fa o pm cd doc dV kV ho hd hcd hD hmg hg args vals as hpre hlay hrd hwl hlo
  obtain rfl:dV=.none:=Dflts.none hD hdf
  obtain rfl:kV=.none:=Dflts.noKw hD
  obtain⟨a,vs,ns,rfl,rfl,hobj,hints,hlen⟩:=Oj hn hpre hwl
  refine enter_call (codeAny_mono (call w s₀ s₁ mg mb fa o pm cd doc a vs ns G Y ho (fd_plain hd) hcd hmg hobj hints hlen hg) λ r s' hq=>?_)
  obtain⟨rfl,h2,h3,h4⟩:=hq
  exact⟨.inl ⟨.bool true,.bool true,[],rfl,λ _=>rfl,.bool true,P2 l _,λ _=>⟨List.Pairwise.nil,λ _ hm=>(nomatch hm)⟩⟩,h2,h3,h4⟩
section
variable{prog:Program}{w:World}{A:Around}{E:Value->Shared->Prop}{s:Shared}{K:Frag}
end
end Att
namespace L2
open PySem PySem.Spec PyProof.Rows
theorem KM:∀ {vs:List Value} {ns:List Int},IntsAre vs ns->Vals (ns.map V.int) vs
  | _,_,.nil=>.nil
  | _,_,.cons n t h=>.cons ⟨t,rfl⟩ (KM h)
end L2
namespace L2
open PySem PySem.Spec PyProof.Rows
end L2
namespace L2
open PySem PySem.Spec PyProof.Rows
noncomputable def AZ(s:Stmt):Arguments:=match s with
  | .FunctionDef _ a _ _ _ _ _ _ _ _=>a
  | _=>{ posonlyargs:=[],args:=[],vararg:=none,kwonlyargs:=[],kw_defaults:=[],kwarg:=none,defaults:=[] }
noncomputable def AV(s:Stmt):List Stmt:=match s with
  | .FunctionDef _ _ b _ _ _ _ _ _ _=>b
  | _=>[]
noncomputable def A9(s:Stmt):Scope:=match s with
  | .FunctionDef _ _ _ _ _ _ sc _ _ _=>sc
  | _=>{ kind:=.function,names:=[],isGenerator:=false,isCoroutine:=false }
noncomputable abbrev CX0:CXT:=λ _ _ _ _ _ _=>False
noncomputable abbrev E0:XK:=λ _ _ _=>False
theorem W5{X:Cx}:Ma CX0 X E0:=λ _ _ _ _ _ _ _ h=>h.elim
structure Fun(K:PySem.W.Frag)(x qual:Str)(st:Stmt)(f:Addr)(fd:FuncData):Prop where
  ex:∃ (oc:Value) (od:Option Addr) (kV doc pm:Value) (an:Option Addr) (cdv ct:Value) (osl:Array (Option Value)),
    fd=PySem.W.fnOf x qual (AZ st) (AV st) (A9 st) .none kV doc pm an cdv ct/\K.lookup f=some ⟨oc,od,.func fd,osl⟩/\PySem.W.codeIn K cdv qual=true
  kp:PySem.W.keepIn K (.ref f)=true
section
variable{P:Program}{w:World}{K:PySem.W.Frag}{mg:Str->Option Value}{base:Heap}
theorem Fun.ok{x qual:Str}{st:Stmt}{f:Addr}{fd:FuncData}{N ps:List Str}{k:Nat}{sp:Sp}(F:Fun K x qual st f fd)(S:FnScope N ps (A9 st))(len:∀ vs H Q E,sp vs H Q E->vs.length=ps.length)
    (hbody:∀ (cdv:Value) (A:Around) (outer:List Env) (s:Shared) (H:Hp) (vs:List V) (Q:VK) (E:XK),Room k (A.deeper (envOfC qual (A9 st) s.heap.objs.size f cdv))->sp vs H Q E ->
      ∃ t,PSs (Ht CX0 P w K mg base N qual (A9 st) f cdv A outer s H E).nox (AV st) t/\t { nx:=λ _ H'=>Q .non H',rt:=Q } (EM N vs) H):FnOk P w K mg base CX0 (k + 1) f fd ps sp:=by
  obtain⟨oc,od,kV,doc,pm,an,cdv,ct,osl,rfl,lk,hcd⟩:=F.ex
  refine SA lk hcd S len λ A outer s H vs Q E hr hsp=>?_
  obtain⟨t,h,q⟩:=hbody cdv A outer s H vs Q E hr hsp
  exact⟨t,h.nox,q⟩
theorem Fun.binds{x qual:Str}{st:Stmt}{f:Addr}{fd:FuncData}{ps:List Str}(F:Fun K x qual st f fd)
    (h:∀ (kV doc pm:Value) (an:Option Addr) (cdv ct:Value) (us:List Value),us.length=ps.length->bindArgs (PySem.W.fnOf x qual (AZ st) (AV st) (A9 st) .none kV doc pm an cdv ct) ⟨us,[]⟩=pure (ps.zip us)):Binds K fd ps []:=by
  obtain⟨oc,od,kV,doc,pm,an,cdv,ct,osl,rfl,lk,hcd⟩:=F.ex
  exact .all (h kV doc pm an cdv ct)
theorem As{x qual:Str}{st:Stmt}{f:Addr}{oc:Value}{od an:Option Addr}{osl:Array (Option Value)}{kV doc pm cdv ct:Value}(l:K.lookup f=some ⟨oc,od,.func (PySem.W.fnOf x qual (AZ st) (AV st) (A9 st) .none kV doc pm an cdv ct),osl⟩)
    (c:PySem.W.codeIn K cdv qual=true) (k:PySem.W.keepIn K (.ref f)=true):Fun K x qual st f (PySem.W.fnOf x qual (AZ st) (AV st) (A9 st) .none kV doc pm an cdv ct):=⟨⟨oc,od,kV,doc,pm,an,cdv,ct,osl,rfl,l,c⟩,k⟩
end
theorem DO{A:Around}{k:Nat}(hr:Room k A):A.units + 1 < cLine:=Nat.lt_of_le_of_lt (Nat.add_le_add_left (by decide:1 <= 64) _) hr.units
theorem HX{n:Nat}(h:n <= 1000):n < sizeLine:=Nat.lt_of_le_of_lt h (by decide)
section
variable{X:Cx}
theorem pv(i:Nat){x:Str}{pos:Pos}(hN:X.N[i]? = some x:=by rfl)(hv:Vis X.env.scope x:=by first|exact Or.inl rfl|exact Or.inr (Or.inl rfl)|exact Or.inr (Or.inr rfl))(hd:(x == ("__debug__":Str))=false:=by decide)
    (hcd:(x == ("__classdict__":Str))=false:=by decide):PE X (.Name x pos) (NU i):=P6 hN hv hd hcd
end
end L2
namespace L2
open PySem PySem.Spec PyProof.Rows
section
variable{κ:Type}[DecidableEq κ]
noncomputable def Eo(kvs:List (κ × V))(k:κ):Option V:=(kvs.find? λ kv=>decide (kv.1=k)).map (·.2)
noncomputable def DF(kvs:List (κ × V))(k:κ)(v:V):List (κ × V):=
  if(kvs.any λ kv=>decide (kv.1=k))=true then kvs.map (λ kv=>if kv.1=k then(kv.1,v)else kv)else kvs ++ [(k,v)]
theorem Fe{p:κ × V}{r:List (κ × V)}{k:κ}(e:p.1=k):Eo (p :: r) k=some p.2:=by simp[Eo,List.find?_cons,e]
theorem Ff{p:κ × V}{r:List (κ × V)}{k:κ}(e:¬ p.1=k):Eo (p :: r) k=Eo r k:=by simp[Eo,List.find?_cons,e]
theorem L9(k:κ):∀ kvs:List (κ × V),(kvs.any λ kv=>decide (kv.1=k))=(Eo kvs k).isSome
  | []=>rfl
  | p :: r=>by
    rw[List.any_cons]
    by_cases e:p.1=k
    . simp only[Fe e,decide_eq_true e,Bool.true_or,Option.isSome_some]
    . rw[Ff e,decide_eq_false e,Bool.false_or];exact L9 k r
theorem GG(kvs:List (κ × V))(k:κ)(v:V):(DF kvs k v).length <= kvs.length + 1:=by
  unfold DF
  split
  . rw[List.length_map];omega
  . rw[List.length_append,List.length_cons,List.length_nil];omega
theorem RelO.isSome_eq{o:Option V}{u:Option Value}(r:RelO o u):o.isSome=u.isSome:=by
  cases o with
  | none=>cases u with
    | none=>rfl
    | some _=>exact(show False from r).elim
  | some _=>cases u with
    | none=>exact(show False from r).elim
    | some _=>rfl
theorem KV.val{kvs:List (κ × V)}{vs:List (κ × Value)}(r:KV kvs vs)(k:κ):RelO (Eo kvs k) (valueAt vs k):=by
  unfold KV at r
  induction r with
  | nil=>exact True.intro
  | @cons p q ps qs h t ih=>
    obtain⟨h1,h2⟩:=h
    by_cases e:p.1=k
    . have e':q.1=k:=h1.symm.trans e
      have b:valueAt (q :: qs) k=some q.2:=by simp[valueAt,List.find?_cons,e']
      rw[Fe e,b];exact h2
    . have e':¬ q.1=k:=λ z=>e (h1.trans z)
      have b:valueAt (q :: qs) k=valueAt qs k:=by simp[valueAt,List.find?_cons,e']
      rw[Ff e,b];exact ih
theorem KV.any{kvs:List (κ × V)}{vs:List (κ × Value)}(r:KV kvs vs)(k:κ):(kvs.any λ kv=>decide (kv.1=k))=vs.any λ kv=>decide (kv.1=k):=by
  unfold KV at r
  induction r with
  | nil=>rfl
  | cons h t ih=>rw[List.any_cons,List.any_cons,ih,h.1]
theorem KV.repl{kvs:List (κ × V)}{vs:List (κ × Value)}(r:KV kvs vs)(k:κ){y:V}{u:Value}(ry:RelV y u) :
    KV (kvs.map λ kv=>if kv.1=k then(kv.1,y)else kv) (vs.map λ kv=>if kv.1=k then(kv.1,u)else kv):=by
  unfold KV at r ⊢
  induction r with
  | nil=>exact .nil
  | @cons p q ps qs h t ih=>
    rw[List.map_cons,List.map_cons]
    refine .cons ?_ ih
    obtain⟨h1,h2⟩:=h
    by_cases e:p.1=k
    . rw[if_pos e,if_pos (h1.symm.trans e)];exact⟨h1,ry⟩
    . rw[if_neg e,if_neg (λ z=>e (h1.trans z))];exact⟨h1,h2⟩
theorem KV.put{kvs:List (κ × V)}{vs:List (κ × Value)}(r:KV kvs vs)(k:κ){y:V}{u:Value}(ry:RelV y u):KV (DF kvs k y) (stored vs k u):=by
  unfold DF stored
  rw[r.any k]
  by_cases e:(vs.any λ kv=>decide (kv.1=k))=true
  . rw[if_pos e,if_pos e];exact r.repl k ry
  . rw[if_neg e,if_neg e];exact Paired.snoc r ⟨rfl,ry⟩
theorem KV.length{kvs:List (κ × V)}{vs:List (κ × Value)}(r:KV kvs vs):kvs.length=vs.length:=Paired.length r
end
theorem Ky{P:Program}{w:World}{k:Key}{u:Value}(r:RelV (kV k) u):(Bh P w).is k u=true:=by
  cases k with
  | inl i=>obtain⟨t,e⟩:=(show ∃ t,u=Value.int i t from r);subst e;exact Mf P w i t
  | inr x=>obtain⟨t,e⟩:=(show ∃ t,u=Value.str x t from r);subst e;exact Me P w x t
theorem KZ{P:Program}{w:World}:∀ {ks:List Key} {us:List Value},Vals (ks.map kV) us->ItemsAre (Bh P w) ks us
  | [],_,r=>by rw[List.map_nil]at r;cases r;exact .nil
  | k :: ks,_,r=>by
    rw[List.map_cons]at r
    cases r with
    | cons h t=>exact .cons (Ky h) (KZ t)
noncomputable abbrev KT(H:Hp):List (List Key × V)->List (List Key × Addr × Value)->Prop:=Paired λ p q=>p.1=q.1/\H q.2.1=some (.tup (p.1.map kV))/\RelV p.2 q.2.2
theorem KT.val{H:Hp}{kvs:List (List Key × V)}{xs:List (List Key × Addr × Value)}(r:KT H kvs xs)(k:List Key):RelO (Eo kvs k) ((atKey xs k).map (·.2)):=by
  induction r with
  | nil=>exact True.intro
  | @cons p q ps qs h t ih=>
    obtain⟨h1,_,h2⟩:=h
    by_cases e:p.1=k
    . have e':q.1=k:=h1.symm.trans e
      have b:atKey (q :: qs) k=some q.2:=by simp[atKey,List.find?_cons,e']
      rw[Fe e,b];exact h2
    . have e':¬ q.1=k:=λ z=>e (h1.trans z)
      have b:atKey (q :: qs) k=atKey qs k:=by simp[atKey,List.find?_cons,e']
      rw[Ff e,b];exact ih
theorem KT.repl{H:Hp}{kvs:List (List Key × V)}{xs:List (List Key × Addr × Value)}(r:KT H kvs xs)(k:List Key){y:V}{u:Value}(ry:RelV y u) :
    KT H (kvs.map λ kv=>if kv.1=k then(kv.1,y)else kv) (xs.map (putAt k u)):=by
  induction r with
  | nil=>exact .nil
  | @cons p q ps qs h t ih=>
    rw[List.map_cons,List.map_cons]
    refine .cons ?_ ih
    obtain⟨h1,h2,h3⟩:=h
    unfold putAt
    by_cases e:p.1=k
    . rw[if_pos e,if_pos (h1.symm.trans e)];exact⟨h1,h2,ry⟩
    . rw[if_neg e,if_neg (λ z=>e (h1.trans z))];exact⟨h1,h2,h3⟩
theorem KT.put{H:Hp}{kvs:List (List Key × V)}{xs:List (List Key × Addr × Value)}(r:KT H kvs xs)(k:List Key){b:Addr}{y:V}{u:Value}(hb:H b=some (.tup (k.map kV)))(ry:RelV y u) :
    KT H (DF kvs k y) (storedH xs k b u):=by
  have e:(kvs.any λ kv=>decide (kv.1=k))=(atKey xs k).isSome:=by
    rw[L9,(r.val k).isSome_eq,Option.isSome_map]
  unfold DF storedH
  rw[e]
  by_cases q:(atKey xs k).isSome=true
  . rw[if_pos q,if_pos q];exact r.repl k ry
  . rw[if_neg q,if_neg q];exact Paired.snoc r ⟨rfl,hb,ry⟩
theorem KT.keeps{H H':Hp}{kvs:List (List Key × V)}{xs:List (List Key × Addr × Value)}(r:KT H kvs xs)(ht:∀ b ys,H b=some (.tup ys)->H' b=some (.tup ys)):KT H' kvs xs:=
  Paired.mapP r λ _ _ z=>⟨z.1,ht _ _ z.2.1,z.2.2⟩
section
variable{P:Program}{w:World}{H:Hp}{h:Heap}{a:Addr}
theorem Rt{u:HO}(ok:HOk P w H h)(e:Rd H a u):ObjOk P w H h a u:=e.ok ok
theorem OP{kvs:List (Key × V)}(ok:HOk P w H h)(e:Rd H a (.dK kvs)):kvs.length <= sizeLine/\(a == sysModules)=false/\∃ vs,KV kvs vs/\h.DictOf (Bh P w) a vs:=
  show ObjOk P w H h a (.dK kvs)from Rt ok e
theorem SB{kvs:List (Key × V)}(ok:HOk P w H h)(e:H a=some (.dK kvs)):kvs.length <= sizeLine/\(a == sysModules)=false/\∃ vs,KV kvs vs/\h.DictOf (Bh P w) a vs:=OP ok (.inl e)
theorem Lz{ks:List Key}(ok:HOk P w H h)(e:H a=some (.tup (ks.map kV))):(tupleKind (Bh P w)).is h ks a:=by
  obtain⟨_,its,r,o,h1,h2,n,h3⟩:=(show ObjOk P w H h a (.tup (ks.map kV))from ok a _ e)
  exact⟨o,its.toArray,n,h1,h2,h3,by simpa using KZ r⟩
theorem OO{kvs:List (List Key × V)}(ok:HOk P w H h)(e:Rd H a (.dT kvs)):kvs.length <= sizeLine/\(a == sysModules)=false /\
    ∃ xs,KT H kvs xs/\h.DictOfH (tupleKind (Bh P w)) a xs:=by
  obtain⟨z,y,xs,r,o,es,ep,h1,h2,h3,h4,h5⟩:=(show ObjOk P w H h a (.dT kvs)from Rt ok e)
  refine⟨z,y,xs,r,o,es,ep,h1,h2,h3,h4,λ x hx=>?_,h5⟩
  have all:∀ {l:List (List Key × V)} {m:List (List Key × Addr × Value)},KT H l m->∀ x ∈ m,(tupleKind (Bh P w)).is h x.1 x.2.1:=by
    intro l m q
    induction q with
    | nil=>intro x hx;exact nomatch hx
    | @cons p q ps qs hq t ih=>
      intro x hx
      rcases List.mem_cons.mp hx with e|hx
      . subst e
        exact Lz ok (by rw[<- hq.1];exact hq.2.1)
      . exact ih x hx
  exact all r x hx
theorem WX{kvs:List (List Key × V)}(ok:HOk P w H h)(e:H a=some (.dT kvs)):kvs.length <= sizeLine/\(a == sysModules)=false /\
    ∃ xs,KT H kvs xs/\h.DictOfH (tupleKind (Bh P w)) a xs:=OO ok (.inl e)
end
noncomputable def DGet(H:Hp)(a:Addr)(y:V)(r:Option V):Prop:=
  (∃ kvs k,Rd H a (.dK kvs)/\y=kV k/\r=Eo kvs k) ∨ ∃ kvs k b,Rd H a (.dT kvs)/\y=.ref b/\H b=some (.tup (k.map kV))/\r=Eo kvs k
noncomputable def DPut(H:Hp)(a:Addr)(y v:V)(H':Hp):Prop:=
  (∃ kvs k,H a=some (.dK kvs)/\y=kV k/\kvs.length < sizeLine/\H'=upd H a (.dK (DF kvs k v))) ∨
  ∃ kvs k b,H a=some (.dT kvs)/\y=.ref b/\H b=some (.tup (k.map kV))/\kvs.length < sizeLine/\H'=upd H a (.dT (DF kvs k v))
theorem DGet.k{H:Hp}{a:Addr}{kvs:List (Key × V)}{k:Key}(e:H a=some (.dK kvs)):DGet H a (kV k) (Eo kvs k):=.inl ⟨kvs,k,.inl e,rfl,rfl⟩
theorem DPut.k{H:Hp}{a:Addr}{kvs:List (Key × V)}{k:Key}{v:V}(e:H a=some (.dK kvs))(hl:kvs.length < sizeLine):DPut H a (kV k) v (upd H a (.dK (DF kvs k v))):=.inl ⟨kvs,k,e,rfl,hl,rfl⟩
section
variable{X:Cx}{pins:List (Addr × Obj)}{σ:St}{H:Hp}{s:Shared}{a:Addr}{y v:V}{u r:Value}{o:Option V}{A:Around}{E:Value->Shared->Prop}
theorem Inv.big(I:Inv X pins σ H s):sysModules < s.heap.objs.size:=by
  have h:mainGlobals < s.heap.objs.size:=(I.mod.glob.keeps I.bk).lt
  exact Nat.lt_trans (by decide) h
theorem Pk{Q:Value->Shared->Prop}(hu:A.units + 1 < cLine)(I:Inv X pins σ H s)(g:DGet H a y (some v))(ry:RelV y u)(h:∀ w' s',Inv X pins σ H s'->RelV v w'->Q w' s') :
    wpAny (model X.prog X.w) A (getItem (.ref a) u) Q E s:=by
  rcases g with⟨kvs,k,e,ey,l⟩|⟨kvs,k,b,e,ey,eb,l⟩
  . subst ey
    obtain⟨z,hd,vs,rel,dd⟩:=OP I.hok e
    obtain⟨w',hw,rw'⟩:=RelO.some_of (v:=v) (o:=valueAt vs k) (by rw[l];exact rel.val k)
    exact wpAny_getItem_of (Ky ry) dd.mapOf hw (h w' _ (I.tok _) rw')
  . subst ey
    cases(show u=Value.ref b from ry)
    obtain⟨z,hd,xs,rel,dd⟩:=OO I.hok e
    obtain⟨w',hw,rw'⟩:=RelO.some_of (v:=v) (o:=(atKey xs k).map (·.2)) (by rw[l];exact rel.val k)
    obtain⟨p,hp,hp2⟩:=Option.map_eq_some_iff.mp hw
    refine wpAny_getItem_heap (tupleKind_room_in1 hu) (Lz I.hok eb) dd hp ?_
    rw[hp2]
    exact h w' _ (I.tok _) rw'
theorem KH{h':Heap}{t':Nat}{ob:HO}(I:Inv X pins σ H s)(mu:Mut (H a))(hs:Heap.SameBut a s.heap h')(he:∃ q,h'.get? a=some q)(new:ObjOk X.prog X.w (upd H a ob) h' a ob) :
    Inv X pins σ (upd H a ob) { s with heap:=h',toks:=t' }:=
  I.write (x:=a) (e:=a) mu (.inl rfl) (λ b q hb z=>(hs.2 b hb).trans z) he new
theorem Ph{P:Program}{w:World}{H':Hp}{h':Heap}{kvs:List (Key × V)}{vs:List (Key × Value)}(z:kvs.length <= sizeLine)(hd:(a == sysModules)=false)(rel:KV kvs vs)(dd:h'.DictOf (Bh P w) a vs) :
    ObjOk P w H' h' a (.dK kvs):=⟨z,hd,vs,rel,dd⟩
theorem Pj{H':Hp}{Q:Unit->Shared->Prop}(hu:A.units + 1 < cLine)(I:Inv X pins σ H s)(g:DPut H a y v H')(ry:RelV y u)(rv:RelV v r)(h:∀ s',Inv X pins σ H' s'->Q () s') :
    wpAny (model X.prog X.w) A (setItem (.ref a) u r) Q E s:=by
  rcases g with⟨kvs,k,e,ey,l,eH⟩|⟨kvs,k,b,e,ey,eb,l,eH⟩
  . subst ey eH
    obtain⟨z,hd,vs,rel,dd⟩:=SB I.hok e
    have hz:vs.length <= sizeLine:=by rw[<- rel.length];exact z
    have hl:(DF kvs k v).length <= sizeLine:=by have:=GG kvs k v;omega
    refine wpAny_setItem_pairs (hsz:=hz) (Ky ry) dd λ h' dd' hs=>h _ ?_
    have he:∃ q,h'.get? a=some q:=let ⟨q,_,_,hq,_⟩:=dd';⟨q,hq⟩
    exact KH I (by rw[e];exact True.intro) hs he (Ph hl hd (rel.put k rv) dd')
  . subst ey eH
    cases(show u=Value.ref b from ry)
    obtain⟨z,hd,xs,rel,dd⟩:=WX I.hok e
    have hz:xs.length <= sizeLine:=by rw[<- Paired.length rel];exact z
    have hl:(DF kvs k v).length <= sizeLine:=by have:=GG kvs k v;omega
    refine wpAny_setItem_heap (hsz:=hz) (tupleKind_room_in1 hu) (Lz I.hok eb) dd λ h' dd' hs=>h _ ?_
    obtain⟨q,es,ep,hq,h2,h3,h4,_,h5⟩:=dd'
    refine KH I (by rw[e];exact True.intro) hs ⟨q,hq⟩ ⟨hl,hd,_,(rel.put k eb rv).keeps λ c ys ec=>?_,q,es,ep,hq,h2,h3,h4,h5⟩
    rw[AF (W7 ec e (λ z=>nomatch z))]
    exact ec
end
section
variable{X:Cx}{pins:List (Addr × Obj)}{σ:St}{H:Hp}{s:Shared}{a:Addr}{kvs:List (Key × V)}{k:Key}{u:Value}{A:Around}{E:Value->Shared->Prop}
end
noncomputable def Rm(i:Expr):Prop:=∀ ov iv,subscripted i false ov iv=operate [ov,iv] (getItem ov iv)
theorem SM{prog:Program}{w:World}{A:Around}{E:Value->Shared->Prop}{s:Shared}{env:Env}{value slice:Expr}{pos:Pos}{T id:String}{Q:Value->Shared->Prop}
    (hl:typeLookup (.type T) "__getitem__"=pure (some (.builtin id))) (hs:Rm slice)
    (h:wpAny (model prog w) A (eval value env) (λ o s₁=>wpAny (model prog w) A (eval slice env) (λ i s₂=>s₂.TypeIs o T/\wpAny (model prog w) A (getItem o i) Q E s₂) E s₁) E s) :
    wpAny (model prog w) A (eval (.Subscript value slice pos) env) Q E s:=by
  refine Subscript_ (wpAny_mono h (λ o s₁ h₁=>wpAny_mono h₁ (λ i s₂ h₂=>?_) λ _ _ x=>x) λ _ _ x=>x)
  obtain⟨hT,h₂⟩:=h₂
  unfold subscriptTail
  refine wpAny_bind ?_
  rw[getitemInPython_of_ne hT.not_modules]
  refine wpAny_bind (wpAny_specialOf hT hl ?_)
  have fin:wpAny (model prog w) A (subscripted slice false o i) (λ r s₃=>wpAny (model prog w) A (letTemporaryGo value o r >>= λ _=>pure r) Q E s₃) E s₂:=by
    rw[hs o i]
    exact wpAny_operating (wpAny_mono h₂ (λ r s₃ h₃=>wpAny_bind (wpAny_letTemporaryGo (wpAny_pure h₃))) λ _ _ x=>x)
  first
    | exact wpAny_pure (wpAny_bind fin)
    | exact wpAny_bind (wpAny_pure (wpAny_bind fin))
    | exact wpAny_bind fin
theorem Mi{X:Cx}{pins:List (Addr × Obj)}{σ:St}{H:Hp}{s:Shared}{a:Addr}{y:V}{o:Option V}(I:Inv X pins σ H s)(g:DGet H a y o):s.TypeIs (.ref a) "dict":=by
  rcases g with⟨kvs,k,e,_,_⟩|⟨kvs,k,b,e,_,_,_⟩
  . obtain⟨_,_,vs,_,dd⟩:=OP I.hok e
    exact dd.typeIs
  . obtain⟨_,_,xs,_,dd⟩:=OO I.hok e
    exact dd.typeIs
noncomputable def Nc(td ty:TE):TE:=λ σ H Q=>td σ H λ x H1=>ty σ H1 λ y H2=>∃ a v,x=.ref a/\DGet H2 a y (some v)/\Q v H2
noncomputable def Nk(td ty tv:TE):TS:=λ D σ H=>tv σ H λ v H1=>td σ H1 λ x H2=>ty σ H2 λ y H3=>∃ a H4,x=.ref a/\DPut H3 a y v H4/\D.nx σ H4
section
variable{X:Cx}{o i e value:Expr}{pos pos' tpos:Pos}{td ty tv:TE}
theorem TM(hu:X.A.units + 1 < cLine)(ho:PE X o td)(hi:PE X i ty)(hs:Rm i):PE X (.Subscript o i pos) (Nc td ty):=by
  intro pins s σ H Q I h
  refine SM PySem.F.slot_dict_getitem.lookup hs (thn (ho pins s σ H _ I h) λ u s1 ⟨x,H1,I1,rx,q1⟩=>thn (hi pins s1 σ H1 _ I1 q1) λ iv s2 ⟨y,H2,I2,ry,a,v,ex,g,q2⟩=>?_)
  subst ex
  obtain rfl:u=Value.ref a:=rx
  exact⟨Mi I2 g,Pk hu I2 g ry λ w' s3 I3 rw'=>⟨v,H2,I3,rw',q2⟩⟩
theorem T5(hu:X.A.units + 1 < cLine)(ho:PE X o td)(hi:PE X i ty)(hv:PE X value tv)(hs:swapsWith value (some (.Subscript o i pos')) pos.line X.env=pure false) :
    PS X (.Assign [.Subscript o i pos'] value pos) (Nk td ty tv):=by
  intro pins s σ H D I h
  refine wpAny_Assign_Subscript (thn (hv pins s σ H _ I h) λ r s1 ⟨v,H1,I1,rv,q1⟩=>thn (ho pins s1 σ H1 _ I1 q1) λ u s2 ⟨x,H2,I2,rx,q2⟩=>thn (hi pins s2 σ H2 _ I2 q2) λ iv s3 ⟨y,H3,I3,ry,a,H4,ex,g,q3⟩=>?_) hs
  subst ex
  obtain rfl:u=Value.ref a:=rx
  exact Pj hu I3 g ry rv λ s4 I4=>⟨σ,H4,I4,q3⟩
end
theorem Rb{P:Program}{w:World}{H:Hp}(h:Heap)(hb:sysModules < h.objs.size):ObjOk P w H (h.push { cls:=.type "dict",data:=.dict #[] }) h.objs.size (.dK []):=
  ⟨Nat.zero_le _,beq_eq_false_iff_ne.mpr (Ne.symm (Nat.ne_of_lt hb)),[],.nil,Heap.DictOf.new h⟩
section
variable{X:Cx}{pos:Pos}
end
noncomputable def HW:List (TE × TE)->St->Hp->(List (V × V)->Hp->Prop)->Prop
  | [],_,H,Q=>Q [] H
  | (tk,tv) :: r,σ,H,Q=>tk σ H λ x H1=>tv σ H1 λ y H2=>HW r σ H2 λ ps H3=>Q ((x,y) :: ps) H3
noncomputable abbrev VV:List (V × V)->List (Value × Value)->Prop:=Paired λ p q=>RelV p.1 q.1/\RelV p.2 q.2
noncomputable def PPs(X:Cx)(pos:Pos)(keys:List (Option Expr))(values:List Expr)(trs:List (TE × TE)):Prop:=
  ∀ (pins:List (Addr × Obj)) (s:Shared) (σ:St) (H:Hp) (Q:List (V × V)->Hp->Prop),Inv X pins σ H s->HW trs σ H Q ->
    wpAny (model X.prog X.w) X.A (evalPairs (pairTrees keys values X.env pos)) (λ vs s'=>∃ ps H',Inv X pins σ H' s'/\VV ps vs/\Q ps H') X.xe s
theorem T6{X:Cx}{pos:Pos}:PPs X pos [] [] []:=λ pins s σ H Q I h=>pairTrees_nil_walk ⟨[],H,I,.nil,h⟩
theorem Qt{X:Cx}{pos:Pos}{k v:Expr}{ks:List (Option Expr)}{vs:List Expr}{tk tv:TE}{trs:List (TE × TE)}(hk:PE X k tk)(hv:PE X v tv)(hr:PPs X pos ks vs trs) :
    PPs X pos (some k :: ks) (v :: vs) ((tk,tv) :: trs):=λ pins s σ H Q I h=>
  pairTrees_cons_walk (thn (hk pins s σ H _ I h) λ u s1 ⟨x,H1,I1,rx,q1⟩=>thn (hv pins s1 σ H1 _ I1 q1) λ w2 s2 ⟨y,H2,I2,ry,q2⟩=>
    thn (hr pins s2 σ H2 _ I2 q2) λ ws s3 ⟨ps,H3,I3,rel,q3⟩=>⟨(x,y) :: ps,H3,I3,.cons ⟨rx,ry⟩ rel,q3⟩)
noncomputable def FI(kvs more:List (Key × V)):List (Key × V):=more.foldl (λ acc kv=>DF acc kv.1 kv.2) kvs
theorem KV.merge:∀ {more:List (Key × V)} {rs:List (Key × Value)} {kvs:List (Key × V)} {vs:List (Key × Value)},KV more rs->KV kvs vs->KV (FI kvs more) (merged vs rs):=by
  intro more rs kvs vs r
  unfold KV at r
  induction r generalizing kvs vs with
  | nil=>intro q;exact q
  | @cons p q ps qs h t ih=>
    intro r0
    have e:KV (DF kvs p.1 p.2) (stored vs q.1 q.2):=by
      have:=r0.put p.1 h.2
      rw[<- h.1];exact this
    exact ih e
theorem HQ:∀ (more kvs:List (Key × V)),(FI kvs more).length <= kvs.length + more.length
  | [],kvs=>by show kvs.length <= kvs.length + 0;omega
  | p :: r,kvs=>by
    have h1:=HQ r (DF kvs p.1 p.2)
    have h2:=GG kvs p.1 p.2
    show(FI (DF kvs p.1 p.2) r).length <= _
    rw[List.length_cons];omega
theorem Jn{P:Program}{w:World}:∀ {kvs:List (Key × V)} {ws:List (Value × Value)},VV (kvs.map λ kv=>(kV kv.1,kv.2)) ws->∃ rs,Carries (Bh P w) ws rs/\KV kvs rs
  | [],_,r=>by rw[List.map_nil]at r;cases r;exact⟨[],True.intro,.nil⟩
  | p :: kvs,_,r=>by
    rw[List.map_cons]at r
    cases r with
    | @cons a b as bs h t=>
      obtain⟨rs,c,q⟩:=Jn (P:=P) (w:=w) t
      obtain⟨b1,b2⟩:=b
      exact⟨(p.1,b2) :: rs,⟨Ky h.1,rfl,c⟩,.cons ⟨rfl,h.2⟩ q⟩
noncomputable def Nb(trs:List (TE × TE)):TE:=λ σ H Q=>∀ p,H p=none->HW trs σ (upd H p (.dK [])) λ ps H2=>H2 p=some (.dK [])/\∃ kvs:List (Key × V),ps=kvs.map (λ kv=>(kV kv.1,kv.2))/\kvs.length <= 15/\Q (.ref p) (upd H2 p (.dK (FI [] kvs)))
theorem TL{X:Cx}{pos:Pos}{keys:List (Option Expr)}{values:List Expr}{trs:List (TE × TE)}(h:PPs X pos keys values trs)(hall:keys.all (·.isSome)=true)(hl:keys.length=values.length)(h0:keys ≠ [])
    (h15:keys.length <= 15):PE X (.Dict keys values pos) (Nb trs):=by
  intro pins s σ H Q I q
  have hn:=I.hok.fresh (Nat.le_refl s.heap.objs.size)
  have I1:=I.laid (a:=s.heap.objs.size) (o:=.dK []) (h':=s.heap.push { cls:=.type "dict",data:=.dict #[] }) (t':=s.toks) (λ _ _ q=>Heap.get?_push_of_some _ q) (Nat.le_refl _) (Rb s.heap I.big)
  refine wpAny_Dict_walk (knd:=Bh X.prog X.w) hall hl h0 h15 (thn (h pins _ σ _ _ I1 (q _ hn)) λ ws s2 ⟨ps,H2,I2,rel,e,kvs,ep,lk,q2⟩=>?_)
  subst ep
  obtain⟨rs,c,rk⟩:=Jn (P:=X.prog) (w:=X.w) rel
  obtain⟨z,hd,vs0,r0,dd⟩:=SB I2.hok e
  cases r0
  refine⟨rs,c,dd,λ h' dd' hs=>⟨.ref s.heap.objs.size,_,?_,rfl,q2⟩⟩
  have hz:(FI [] kvs).length <= sizeLine:=by
    have h1:=HQ kvs []
    rw[List.length_nil]at h1
    rw[sizeLine_eq];omega
  have he:∃ q,h'.get? s.heap.objs.size=some q:=let ⟨q,_,_,hq,_⟩:=dd';⟨q,hq⟩
  exact KH I2 (by rw[e];exact True.intro) hs he (Ph hz hd (rk.merge .nil) dd')
section
variable{X:Cx}{pins:List (Addr × Obj)}{σ:St}{H:Hp}{s:Shared}{a:Addr}{y d:V}{u r:Value}{o:Option V}{A:Around}{E:Value->Shared->Prop}
end
section
variable{X:Cx}{o e f:Expr}{apos cpos:Pos}{td ty tx:TE}
end
section
variable{X:Cx}{pins:List (Addr × Obj)}{σ:St}{H:Hp}{s:Shared}{a:Addr}{kvs:List (Key × V)}{A:Around}{E:Value->Shared->Prop}
end
section
variable{X:Cx}{pins:List (Addr × Obj)}{σ:St}{H:Hp}{s:Shared}{a:Addr}{y:V}{u:Value}{A:Around}{E:Value->Shared->Prop}
end
end L2
namespace L2
open PySem PySem.Spec PyProof.Rows
section
variable{X:Cx}
end
section
variable{κ:Type}[DecidableEq κ]
end
end L2
namespace L2
open PySem PySem.Spec PyProof.Rows
noncomputable def Am(cells:List (Str × Addr)):List (Str × NameKind)->List (Str × Addr)->List (Str × Addr)
  | [],acc=>acc
  | (n,k) :: r,acc=>if k == .free then Am cells r ((n,(cells.lookup n).getD 0) :: acc)else Am cells r acc
theorem Gc{env:Env}(f:Str × NameKind->List (Str × Addr)->Sem (ForInStep (List (Str × Addr))))
    (hf:∀ name kind cs,f (name,kind) cs=if(kind == NameKind.free)=true then(do let a <- cellOf env name;pure (ForInStep.yield ((name,a) :: cs)))else pure (ForInStep.yield cs)) :
    ∀ (names:List (Str × NameKind)) (acc:List (Str × Addr)),(∀ y ∈ names,y.2=.free->∃ c,env.cells.lookup y.1=some c)->forIn names acc f=pure (Am env.cells names acc)
  | [],acc,_=>rfl
  | (n,k) :: r,acc,hy=>by
    rw[List.forIn_cons,hf]
    have ih:=λ a=>Gc f hf r a λ z hz=>hy z (List.mem_cons_of_mem _ hz)
    by_cases hk:(k == NameKind.free)=true
    . obtain⟨c,hc⟩:=hy (n,k) List.mem_cons_self (by simpa using hk)
      have hc:env.cells.lookup n=some c:=hc
      have e1:cellOf env n=pure c:=by unfold cellOf;rw[hc]
      rw[if_pos hk,e1]
      show forIn r ((n,c) :: acc) f=_
      have e2:Am env.cells ((n,k) :: r) acc=Am env.cells r ((n,c) :: acc):=by
        rw[Am,if_pos hk,hc]
        rfl
      rw[ih,e2]
    . rw[if_neg hk]
      show forIn r acc f=_
      have e2:Am env.cells ((n,k) :: r) acc=Am env.cells r acc:=by
        rw[Am,if_neg hk]
      rw[ih,e2]
theorem FR{scope:Scope}{env:Env}(h:∀ y ∈ scope.names,y.2=.free->∃ c,env.cells.lookup y.1=some c):closureFor scope env=pure (Am env.cells scope.names []):=by
  unfold closureFor
  dsimp only
  rw[Gc _ (λ name kind cs=>rfl) scope.names [] h]
  rfl
theorem Ei{cells:List (Str × Addr)}:∀ {names:List (Str × NameKind)} {acc:List (Str × Addr)},(∀ y ∈ names,y.2=.free->∃ c,cells.lookup y.1=some c)->(∀ x c,acc.lookup x=some c->cells.lookup x=some c) ->
    ∀ x c,(Am cells names acc).lookup x=some c->cells.lookup x=some c
  | [],_,_,ha,x,c,e=>ha x c e
  | (n,k) :: r,acc,hy,ha,x,c,e=>by
    unfold Am at e
    have hr:∀ y ∈ r,y.2=.free->∃ c,cells.lookup y.1=some c:=λ z hz=>hy z (List.mem_cons_of_mem _ hz)
    by_cases hk:(k == NameKind.free)=true
    . rw[if_pos hk]at e
      refine Ei hr (λ z d q=>?_) x c e
      obtain⟨c0,hc0⟩:=hy (n,k) List.mem_cons_self (by simpa using hk)
      have hc0:cells.lookup n=some c0:=hc0
      rw[List.lookup_cons]at q
      by_cases hz:(z == n)=true
      . rw[hz,hc0]at q
        have:z=n:=by simpa using hz
        subst this
        simpa [hc0]using q
      . have hz':(z == n)=false:=by simpa using hz
        rw[hz']at q
        exact ha z d q
    . rw[if_neg hk]at e
      exact Ei hr ha x c e
theorem E6{cells:List (Str × Addr)}:∀ {names:List (Str × NameKind)} {acc:List (Str × Addr)} {x:Str},((acc.lookup x).isSome=true ∨ (x,NameKind.free) ∈ names)->((Am cells names acc).lookup x).isSome=true
  | [],_,_,h=>h.elim id λ z=>by cases z
  | (n,k) :: r,acc,x,h=>by
    unfold Am
    by_cases hk:(k == NameKind.free)=true
    . rw[if_pos hk]
      refine E6 ?_
      by_cases hx:(x == n)=true
      . exact .inl (by rw[List.lookup_cons,hx];rfl)
      . have hx':(x == n)=false:=by simpa using hx
        rcases h with h|h
        . exact .inl (by rw[List.lookup_cons,hx'];exact h)
        . rcases List.mem_cons.mp h with h|h
          . cases h;simp at hx
          . exact .inr h
    . rw[if_neg hk]
      refine E6 ?_
      rcases h with h|h
      . exact .inl h
      . rcases List.mem_cons.mp h with h|h
        . cases h;simp at hk
        . exact .inr h
noncomputable def DW:Nat->List (Str × NameKind)->List (Str × Addr)
  | _,[]=>[]
  | n,(x,k) :: r=>if k == .cell then DW (n + 1) r ++ [(x,n)]else DW n r
theorem CY:∀ (names:List (Str × NameKind)) (n:Nat) (acc:List (Str × Addr)),cellsFrom n names acc=DW n names ++ acc
  | [],_,_=>rfl
  | (x,k) :: r,n,acc=>by
    unfold cellsFrom DW
    by_cases hk:(k == NameKind.cell)=true
    . rw[if_pos hk,if_pos hk,CY r (n + 1),List.append_assoc];rfl
    . rw[if_neg hk,if_neg hk,CY r n]
theorem Im:∀ (names:List (Str × NameKind)) (n:Nat) (x:Str) (c:Addr),(DW n names).lookup x=some c->(x,NameKind.cell) ∈ names
  | [],_,_,_,e=>by cases e
  | (y,k) :: r,n,x,c,e=>by
    unfold DW at e
    by_cases hk:(k == NameKind.cell)=true
    . rw[if_pos hk]at e
      have hk':k=.cell:=by simpa using hk
      rw[List.lookup_append]at e
      cases q:(DW (n + 1) r).lookup x with
      | some d=>exact List.mem_cons_of_mem _ (Im r _ x d q)
      | none=>
        rw[q]at e
        simp only[Option.none_or,List.lookup_cons]at e
        by_cases hx:(x == y)=true
        . have:x=y:=by simpa using hx
          subst this;subst hk'
          exact List.mem_cons_self
        . have hx':(x == y)=false:=by simpa using hx
          rw[hx']at e;cases e
    . rw[if_neg hk]at e
      exact List.mem_cons_of_mem _ (Im r n x c e)
theorem Io:∀ (names:List (Str × NameKind)) (n:Nat) (x:Str),(x,NameKind.cell) ∈ names->∃ c,(DW n names).lookup x=some c
  | [],_,_,h=>by cases h
  | (y,k) :: r,n,x,h=>by
    unfold DW
    by_cases hk:(k == NameKind.cell)=true
    . rw[if_pos hk,List.lookup_append]
      rcases List.mem_cons.mp h with h|h
      . obtain⟨rfl,rfl⟩:=Prod.mk.inj h
        cases q:(DW (n + 1) r).lookup x with
        | some d=>exact⟨d,rfl⟩
        | none=>exact⟨n,by simp[List.lookup_cons]⟩
      . obtain⟨c,hc⟩:=Io r (n + 1) x h
        exact⟨c,by rw[hc];rfl⟩
    . rw[if_neg hk]
      rcases List.mem_cons.mp h with h|h
      . cases h;simp at hk
      . exact Io r n x h
noncomputable def Rj(scope:Scope)(C:Addr)(env:Env):Env:=
  { scope:=relabel scope env,locals:=C,globals:=env.globals,cells:=cellsFrom (C + 1) scope.names (Am env.cells scope.names []),qual:=env.qual,func:=none,code:=env.code,frame:=env.frame,builtins:=env.builtins }
theorem N6{M:Model}{A:Around}{E:Value->Shared->Prop}{s:Shared}{scope:Scope}{cl:List (Str × Addr)}{env:Env}{Q:Env->Shared->Prop}
    (hQ:∀ h',(∀ b o,s.heap.get? b=some o->h'.get? b=some o)->h'.Ns s.heap.objs.size (λ _=>none)->(∀ x c,(DW (s.heap.objs.size + 1) scope.names).lookup x=some c->h'.IsCell c none/\s.heap.objs.size < c) ->
      ((DW (s.heap.objs.size + 1) scope.names).Pairwise λ x y=>x.2 ≠ y.2) ->
      Q { scope:=scope,locals:=s.heap.objs.size,globals:=env.globals,cells:=cellsFrom (s.heap.objs.size + 1) scope.names cl,qual:=env.qual,func:=none,code:=env.code,frame:=env.frame,builtins:=env.builtins } { s with heap:=h' }) :
    wpAny M A (newFunctionEnv scope env.globals cl [] env.qual none .none (some env)) Q E s:=by
  simp only[newFunctionEnv,Option.isSome_some,if_true]
  refine wpAny_bind (wpAny_alloc ?_)
  refine wpAny_bind (wpAny_layCells _ (λ name kind cells=>by cases hkc:kind == NameKind.cell <;> simp[hkc]) _ _ _ _ ?_)
  have ok:=cellsFrom_ok scope.names (s.heap.push { cls:=.type "dict",data:=.dict #[] }) (s.heap.objs.size + 1) [] ⟨λ _ _ hm=>(nomatch hm),List.Pairwise.nil⟩ (by rw[Heap.size_push];exact Nat.le_refl _)
  rw[Heap.size_push,CY,List.append_nil]at ok
  rw[show({ s with heap:=s.heap.push { cls:=.type "dict",data:=.dict #[] } }:Shared).heap.objs.size=s.heap.objs.size + 1 from Heap.size_push ..]
  refine wpAny_bind (wpAny_pure (wpAny_pure ?_))
  exact hQ _ (λ b o e=>pushCells_keeps _ _ b o (Heap.get?_push_of_some _ e)) ((Heap.Ns.new s.heap (.type "dict")).keeps (pushCells_keeps _ _)) (λ x c hc=>⟨(ok.empty x c (mem_of_lookup hc)).1,(ok.empty x c (mem_of_lookup hc)).2⟩) ok.apart
end L2
namespace L2
open PySem PySem.Spec PyProof.Rows
theorem KP:∀ {names:List (Str × NameKind)} {x:Str} {k k':NameKind},(names.map (·.1)).Nodup->(x,k) ∈ names->(x,k') ∈ names->k=k'
  | [],_,_,_,_,h,_=>by cases h
  | (y,q) :: r,x,k,k',nd,h,h'=>by
    have nd:(y :: r.map (·.1)).Nodup:=nd
    obtain⟨n1,n2⟩:=List.nodup_cons.mp nd
    have out:∀ {z:NameKind},(y,z) ∈ r->False:=λ m=>n1 (List.mem_map.mpr ⟨_,m,rfl⟩)
    rcases List.mem_cons.mp h with e|e <;> rcases List.mem_cons.mp h' with e'|e'
    . cases e;cases e';rfl
    . cases e;exact(out e').elim
    . cases e';exact(out e).elim
    . exact KP n2 e e'
theorem HI{env:Env}{x:Str}:∀ {names:List (Str × NameKind)},names.lookup x=some .free ->
    (names.map λ(n,k)=>if(k == NameKind.free && env.scope.kind == .function && env.kindOf n == some .cell)then(n,NameKind.cell)else(n,k)).lookup x=some .cell ∨
    (names.map λ(n,k)=>if(k == NameKind.free && env.scope.kind == .function && env.kindOf n == some .cell)then(n,NameKind.cell)else(n,k)).lookup x=some .free
  | [],h=>by simp at h
  | (n,k) :: r,h=>by
    have ih:=@HI env x r
    show List.lookup x ((if(k == NameKind.free && env.scope.kind == .function && env.kindOf n == some .cell)=true then(n,NameKind.cell)else(n,k)) :: _)=_ ∨ List.lookup x ((if(k == NameKind.free && env.scope.kind == .function && env.kindOf n == some .cell)=true then(n,NameKind.cell)else(n,k)) :: _)=_
    cases hx:x == n with
    | true=>
      simp only[List.lookup_cons,hx]at h
      cases h
      by_cases hc:(NameKind.free == NameKind.free && env.scope.kind == .function && env.kindOf n == some .cell)=true
      . rw[if_pos hc];exact .inl (by simp only[List.lookup_cons,hx])
      . rw[if_neg hc];exact .inr (by simp only[List.lookup_cons,hx])
    | false=>
      simp only[List.lookup_cons,hx]at h
      by_cases hc:(k == NameKind.free && env.scope.kind == .function && env.kindOf n == some .cell)=true
      . rw[if_pos hc];simp only[List.lookup_cons,hx];exact ih h
      . rw[if_neg hc];simp only[List.lookup_cons,hx];exact ih h
theorem HZ{env:Env}{x:Str}:∀ {names:List (Str × NameKind)},
    ((names.map λ(n,k)=>if(k == NameKind.free && env.scope.kind == .function && env.kindOf n == some .cell)then(n,NameKind.cell)else(n,k)).lookup x=some .cell ∨
    (names.map λ(n,k)=>if(k == NameKind.free && env.scope.kind == .function && env.kindOf n == some .cell)then(n,NameKind.cell)else(n,k)).lookup x=some .free) ->
    names.lookup x=some .cell ∨ names.lookup x=some .free
  | [],h=>by simp at h
  | (n,k) :: r,h=>by
    have ih:=@HZ env x r
    have h:List.lookup x ((if(k == NameKind.free && env.scope.kind == .function && env.kindOf n == some .cell)=true then(n,NameKind.cell)else(n,k)) :: _)=_ ∨ List.lookup x ((if(k == NameKind.free && env.scope.kind == .function && env.kindOf n == some .cell)=true then(n,NameKind.cell)else(n,k)) :: _)=_:=h
    cases hx:x == n with
    | true=>
      by_cases hc:(k == NameKind.free && env.scope.kind == .function && env.kindOf n == some .cell)=true
      . have hk:k=.free:=by
          have:=(Bool.and_eq_true _ _ ▸ (Bool.and_eq_true _ _ ▸ hc).1:(k == NameKind.free)=true/\_).1
          simpa using this
        exact .inr (by simp only[List.lookup_cons,hx,hk])
      . rw[if_neg hc]at h
        simp only[List.lookup_cons,hx]at h ⊢
        exact h
    | false=>
      simp only[List.lookup_cons,hx]
      refine ih ?_
      by_cases hc:(k == NameKind.free && env.scope.kind == .function && env.kindOf n == some .cell)=true
      . rw[if_pos hc]at h;simp only[List.lookup_cons,hx]at h;exact h
      . rw[if_neg hc]at h;simp only[List.lookup_cons,hx]at h;exact h
noncomputable def cCx(X:Cx)(N':List Str)(scope:Scope)(s:Shared)(H:Hp)(ex:List Addr):Cx:=
  { X with N:=N',s₀:=s,H₀:=H,env:=Rj scope s.heap.objs.size X.env,outer:=X.stack,ex:=ex,fn:=λ x=>decide ((x,NameKind.cell) ∈ scope.names),pn:=[],xe:=λ _ _=>False }
structure CSc(X:Cx)(scope:Scope)(fr:List Str)(ix:List Nat):Prop where
  kind:scope.kind=.function
  nd:(scope.names.map (·.1)).Nodup
  free:(scope.names.all λ y=>y.2 != .free || X.env.kindOf y.1 == some .cell || X.env.kindOf y.1 == some .free)=true
  frs:(fr.all λ x=>scope.names.lookup x == some .free)=true
  ixs:fr.map some=ix.map λ i=>X.N[i]?
  loc:(scope.names.all λ y=>y.2 != .local || scope.names.lookup y.1 == some .local)=true
noncomputable def Hw(n:Nat)(ix:List Nat)(σ:St):St:=List.replicate n none ++ ix.map λ i=>(σ[i]?).join
section
variable{X:Cx}{scope:Scope}{fr loc:List Str}{ix:List Nat}{pins:List (Addr × Obj)}{σ:St}{H:Hp}{s:Shared}
theorem CSc.outer(S:CSc X scope fr ix){y:Str × NameKind}(hy:y ∈ scope.names)(e:y.2=.free):X.env.kindOf y.1=some .cell ∨ X.env.kindOf y.1=some .free:=by
  have h:=List.all_eq_true.mp S.free y hy
  rw[e]at h
  simpa using h
theorem CSc.clos(S:CSc X scope fr ix)(ok:X.Ok):∀ y ∈ scope.names,y.2=.free->∃ c,X.env.cells.lookup y.1=some c:=λ y hy e=>ok.has y.1 (S.outer hy e)
theorem EJ(S:CSc X scope fr ix)(ok:X.Ok){n:Nat}{x:Str}{c:Addr}(e:(cellsFrom n scope.names (Am X.env.cells scope.names [])).lookup x=some c) :
    (DW n scope.names).lookup x=some c ∨ X.env.cells.lookup x=some c:=by
  rw[CY,List.lookup_append]at e
  cases q:(DW n scope.names).lookup x with
  | some d=>rw[q]at e;exact .inl e
  | none=>
    rw[q]at e
    exact .inr (Ei (S.clos ok) (λ _ _ z=>by simp at z) x c e)
theorem M5(S:CSc X scope fr ix)(I:Inv X pins σ H s){ex:List Addr}(hex:∀ b ∈ ex,FpOk X pins H b){h':Heap}(hk:∀ b o,s.heap.get? b=some o->h'.get? b=some o)(hn:h'.Ns s.heap.objs.size λ _=>none)
    (ho:∀ x c,(DW (s.heap.objs.size + 1) scope.names).lookup x=some c->h'.IsCell c none/\s.heap.objs.size < c) (ha:(DW (s.heap.objs.size + 1) scope.names).Pairwise λ x y=>x.2 ≠ y.2) (hlt:∀ b ∈ ex,b < s.heap.objs.size) :
    Inv (cCx X (loc ++ fr) scope s H ex) [] (Hw loc.length ix σ) H { s with heap:=h' }:=by
  have old:∀ x c,X.env.cells.lookup x=some c->c < s.heap.objs.size:=λ x c e=>let ⟨v,z⟩:=I.cell x c e;z.lt
  have lenix:fr.length=ix.length:=by simpa using congrArg List.length S.ixs
  refine⟨⟨I.ok.mod,?_,I.ok.glob,I.ok.blt,Nat.le_refl _,?_,?_,?_,I.ok.hd,I.ok.frames,.inl rfl,?_,I.bs,Nat.le_trans I.ok.bsz I.sz,?_,?_,I.stack,I.stkFree⟩,rfl,I.bare,Un.kept hk,⟨_,hn,?_⟩,?_,I.hok.fresh (Nat.le_refl _),?_,?_,I.hok.kept hk,?_⟩
  . exact S.kind
  . intro x y c e1 e2
    rcases EJ S I.ok e1 with a|a <;> rcases EJ S I.ok e2 with b|b
    . exact name_of_addr ha (PySem.mem_of_lookup a) (PySem.mem_of_lookup b)
    . exact absurd (Nat.lt_trans (ho x c a).2 (old y c b)) (Nat.lt_irrefl _)
    . exact absurd (Nat.lt_trans (ho y c b).2 (old x c a)) (Nat.lt_irrefl _)
    . exact I.ok.inj x y c a b
  . intro x hx
    rcases HZ hx with e|e
    . exact Option.isSome_iff_exists.mp (PySem.W.cellsFrom_some _ _ _ (.inl e))
    . exact Option.isSome_iff_exists.mp (PySem.W.cellsFrom_some _ _ _ (.inr (E6 (.inr (PySem.mem_of_lookup e)))))
  . intro x c hf e
    have hf:(x,NameKind.cell) ∈ scope.names:=of_decide_eq_true hf
    obtain⟨d,hd⟩:=Io scope.names (s.heap.objs.size + 1) x hf
    have e':(cellsFrom (s.heap.objs.size + 1) scope.names (Am X.env.cells scope.names [])).lookup x=some c:=e
    rw[CY,List.lookup_append,hd]at e'
    cases e'
    exact Nat.le_of_lt (ho x _ hd).2
  . intro b hb
    refine⟨Nat.ne_of_lt (hlt b hb),λ x c e z=>?_⟩
    rcases EJ S I.ok e with a|a
    . exact absurd (Nat.lt_trans (ho x c a).2 (by rw[z];exact hlt b hb)) (Nat.lt_irrefl _)
    . exact(hex b hb).2.2.2.2.1 x c a z
  . intro b o e hb
    rcases(hex b hb).2.2.2.1 with z|z
    . exact I.ok.noex b o e z
    . exact absurd (Nat.lt_of_lt_of_le (Heap.lt_size (I.ok.bs b o e).1) z) (Nat.lt_irrefl _)
  . intro b hb hf
    rcases List.mem_cons.mp (I.stkSub b hf)with z|z
    . exact(hex b hb).2.1 z
    . exact(hex b hb).2.2.1 z
  . intro i x v e1 e2 e3
    have e1:(loc ++ fr)[i]? = some x:=e1
    unfold Hw at e2
    by_cases hi:i < loc.length
    . rw[List.getElem?_append_left (by simpa using hi),List.getElem?_replicate]at e2
      split at e2 <;> cases e2
    . have hi':loc.length <= i:=Nat.not_lt.mp hi
      rw[List.getElem?_append_right (by simpa using hi')]at e2
      rw[List.getElem?_append_right hi']at e1
      rw[List.length_replicate,List.getElem?_map]at e2
      generalize hj:i - loc.length=j at e1 e2
      have e4:(fr.map some)[j]? = some (some x):=by rw[List.getElem?_map,e1];rfl
      rw[S.ixs,List.getElem?_map]at e4
      cases q:ix[j]? with
      | none=>rw[q]at e2;cases e2
      | some k=>
        rw[q]at e2 e4
        have e2:(σ[k]?).join=some v:=Option.some.inj e2
        have e4:X.N[k]? = some x:=Option.some.inj e4
        have e5:σ[k]? = some (some v):=by
          cases w:σ[k]? with
          | none=>rw[w]at e2;cases e2
          | some z=>rw[w]at e2;simpa using e2
        have hfx:=List.all_eq_true.mp S.frs x (List.mem_of_getElem? e1)
        have hfx:scope.names.lookup x=some .free:=by simpa using hfx
        have hmem:=PySem.mem_of_lookup hfx
        have hout:=S.outer hmem rfl
        obtain⟨m,hm,hl⟩:=I.loc
        obtain⟨u,r,l⟩:=hl k x v e4 e5 (.inr hout)
        refine⟨u,r,.inr ⟨HI hfx,?_⟩⟩
        rcases l with⟨kk,_⟩|⟨kk,c,ec,z⟩
        . rcases hout with w|w
          . rw[kk]at w;cases w
          . rw[kk]at w;cases w
        . have own0:(DW (s.heap.objs.size + 1) scope.names).lookup x=none:=by
            cases w:(DW (s.heap.objs.size + 1) scope.names).lookup x with
            | none=>rfl
            | some d=>exact absurd (KP S.nd (Im _ _ _ _ w) hmem) (by decide)
          have hc:(Am X.env.cells scope.names []).lookup x=some c:=by
            obtain⟨d,hd⟩:=Option.isSome_iff_exists.mp (E6 (cells:=X.env.cells) (acc:=[]) (.inr hmem))
            have:=Ei (S.clos I.ok) (λ _ _ z=>by simp at z) x d hd
            rw[ec]at this;cases this
            exact hd
          refine⟨c,?_,z.keeps hk⟩
          show(cellsFrom (s.heap.objs.size + 1) scope.names (Am X.env.cells scope.names [])).lookup x=some c
          rw[CY,List.lookup_append,own0,hc]
          rfl
  . intro x c e
    rcases EJ S I.ok e with a|a
    . exact⟨_,(ho x c a).1⟩
    . obtain⟨v,z⟩:=I.cell x c a
      exact⟨v,z.keeps hk⟩
  . intro x c e
    rcases EJ S I.ok e with a|a
    . exact I.hok.fresh (Nat.le_of_lt (ho x c a).2)
    . exact I.freeC x c a
  . intro p hp
    cases hp
  . unfold Hw
    show _=(loc ++ fr).length
    simp[lenix]
end
end L2
namespace L2
open PySem PySem.Spec PyProof.Rows
section
variable{prog:Program}{w:World}{A:Around}{R:Result->Shared->Prop}{s:Shared}
theorem Hu{elt target iter:Expr}{ifs:List Expr}{scope:Scope}{pos:Pos}{it acc:Value}{env:Env}(I:Nat->Shared->Prop)
    (turn:∀ n s,I n s->wpAny (model prog w) A (pyNext it) (λ r s₁=>match r with
      | none=>R (.ok .next) s₁
      | some v=>wpAny (model prog w) A (letOwnedTupleGo target it v) (λ _ s₁=>wpAny (model prog w) A (assign target env v) (λ _ s₂=>
          wpAny (model prog w) A (forIn ifs true λ c r=>if r=true then do let ok <- isTrue c env (eval c env);pure (ForInStep.yield ok)else pure (ForInStep.yield r)) (λ ok s₃=>
            if ok=true then wpAny (model prog w) A (eval elt env) (λ x s₄=>
              wpAny (model prog w) A (call (.builtin "list.append") [acc,x]) (λ _ s₅=>∃ m,m < n/\I m s₅) (λ _ _=>False) s₄) (λ _ _=>False) s₃
            else ∃ m,m < n/\I m s₃) (λ _ _=>False) s₂) (λ _ _=>False) s₁) (λ _ _=>False) s₁) (λ _ _=>False) s)
    (n:Nat) (h:I n s) :
    codeAny (model prog w) A (.compLoop (.ListComp elt [⟨target,iter,ifs,0⟩] scope pos) 0 it acc env) R s:=by
  refine codeAny_loop rfl I (λ n s hI=>?_) n h
  show wpAny _ A ((compTurn (.ListComp elt [⟨target,iter,ifs,0⟩] scope pos) 0 it acc env).onRaise (λ x=>do noteFrame x env;theTreesLotGoes x)) _ _ s
  refine wpAny_noted ?_
  rw[compTurn_list]
  refine wpAny_bind (wpAny_standAt (wpAny_bind (wpAny_mono (turn n s hI) (λ r s₁ h₁=>?_) λ _ _ h'=>h'.elim)))
  cases r with
  | none=>exact wpAny_pure h₁
  | some v=>
    refine wpAny_bind (wpAny_mono h₁ (λ _ s₁ h₁=>?_) λ _ _ h'=>h'.elim)
    refine wpAny_bind (wpAny_mono h₁ (λ _ s₂ h₂=>wpAny_bind (wpAny_mono h₂ (λ ok s₃ h₃=>?_) λ _ _ h'=>h'.elim)) λ _ _ h'=>h'.elim)
    cases ok with
    | false=>exact wpAny_pure ⟨rfl,h₃⟩
    | true=>
      exact wpAny_bind (wpAny_bind (wpAny_mono h₃ (λ x s₄ h₄=>wpAny_bind (wpAny_mono h₄ (λ _ s₅ h₅=>wpAny_pure (wpAny_pure ⟨rfl,h₅⟩)) λ _ _ h'=>h'.elim)) λ _ _ h'=>h'.elim))
end
noncomputable def PF(X:Cx)(ifs:List Expr)(t:TT):Prop:=
  ∀ (pins:List (Addr × Obj)) (s:Shared) (σ:St) (H:Hp) (Q:Bool->Hp->Prop),Inv X pins σ H s->t σ H Q ->
    wpAny (model X.prog X.w) X.A (forIn ifs true λ c r=>if r=true then do let ok <- isTrue c X.env (eval c X.env);pure (ForInStep.yield ok)else pure (ForInStep.yield r)) (TP X pins σ Q) X.xe s
noncomputable def Q0:TT:=λ _ H Q=>Q true H
theorem Ut{X:Cx}:PF X [] Q0:=λ pins s σ H Q I h=>wpAny_tests_nil ⟨H,I,h⟩
theorem Us{X:Cx}{c:Expr}{t:TT}(h:PT X c t):PF X [c] t:=λ pins s σ H Q I q=>wpAny_tests_one (h pins s σ H Q I q)
noncomputable def SE(J:It)(D:Addr)(σ0:St)(H0:Hp)(g:TG)(tf:TT)(te:TE)(Q:VK):Prop:=∃ W:Nat->Nat->St->List V->Hp->Prop,
  (∃ m,W 0 m σ0 [] (upd H0 D (.lst [])))/\∀ i m σ ys H,W i m σ ys H->H D=some (.lst ys) /\
    ((J.stop i H/\Q (.ref D) H) ∨ (J.go i H/\ys.length < sizeLine/\∃ N:St->List V->Hp->Prop,(∀ σ' ys' H',N σ' ys' H'->∃ m',m' < m/\W (i + 1) m' σ' ys' H') /\
      ∀ x H',J.yld i H x H'->g x σ H' λ σ2 H2=>tf σ2 H2 λ b H3=>
        if b=true then te σ2 H3 λ v H4=>H4 D=some (.lst ys)/\N σ2 (ys ++ [v]) (upd H4 D (.lst (ys ++ [v])))
        else N σ2 ys H3))
noncomputable def JF(n:Nat)(ix:List Nat)(wi:TI)(g:TG)(tf:TT)(te:TE):TE:=λ σ H Q=>wi σ H λ J H1=>∀ D,H1 D=none->SE J D (Hw n ix σ) H1 g tf te Q
section
variable{X:Cx}
theorem Pr{pins:List (Addr × Obj)}{σ:St}{H:Hp}{s:Shared}{D:Addr}{ys:List V}{x:V}{u:Value}{Q:Value->Shared->Prop}{E:Value->Shared->Prop}(I:Inv X pins σ H s)(hD:H D=some (.lst ys))(r:RelV x u)(hz:ys.length < sizeLine)
    (h:∀ v s',Inv X pins σ (upd H D (.lst (ys ++ [x]))) s'->Q v s'):wpAny (model X.prog X.w) X.A (call (.builtin "list.append") [.ref D,u]) Q E s:=by
  have I':=I.wish λ _ _=>False
  have q:=Do (X:=X.wish λ _ _=>False) pins s σ H (.ref D) [x] (.ref D) [u] (λ v H'=>H'=upd H D (.lst (ys ++ [x]))) I' rfl (.cons r .nil) ⟨D,ys,x,rfl,rfl,hD,hz,rfl⟩
  refine wpAny_mono q (λ v s' ⟨v',H',I2,_,e⟩=>?_) λ _ _ z=>False.elim z
  subst e
  exact h v s' I2.unwish
theorem TN{elt tg iter:Expr}{ifs:List Expr}{scope:Scope}{pos:Pos}{loc fr:List Str}{ix:List Nat}{wi:TI}{g:TG}{tf:TT}{te:TE}(hc:X.calm=true)(S:CSc X scope fr ix)(hi:PI X tg iter wi)
    (hg:∀ s H ex,PG (cCx X (loc ++ fr) scope s H ex) tg g) (hf:∀ s H ex,PF (cCx X (loc ++ fr) scope s H ex) ifs tf) (he:∀ s H ex,PE (cCx X (loc ++ fr) scope s H ex) elt te)
    (hs:∀ x,foldedSetIterable iter X.env x=pure x:=by intro _;rfl):PE X (.ListComp elt [⟨tg,iter,ifs,0⟩] scope pos) (JF loc.length ix wi g tf te):=by
  intro pins s σ H Q I h
  rw[eval_ListComp]
  have hnames:∀ y ∈ scope.names,y.2=.local->scope.names.lookup y.1=some .local:=λ y hy e=>by
    have:=List.all_eq_true.mp S.loc y hy
    rw[e]at this
    simpa using this
  refine wpAny_comprehension_free (use:=none) rfl hs (FR (S.clos I.ok)) S.kind hnames (thn (hi pins s σ H _ I h) λ v s1 h1=>thn h1 λ itv s2 h2=>?_)
  obtain⟨it,fp,tn,J,H2,rfl,I2,T,st2,f2,hW⟩:=h2
  refine wpAny_newObj_type ?_
  have fresh2:H2 s2.heap.objs.size=none:=I2.hok.fresh (Nat.le_refl _)
  have I3:=I2.lnew (its:=[]) (ys:=[]) (t':=s2.toks) .nil (Nat.zero_le _)
  obtain⟨W,⟨m0,w0⟩,turn⟩:=hW s2.heap.objs.size fresh2
  have lt2:∀ b ∈ fp,b < s2.heap.objs.size:=λ b hb=>let ⟨o,e,_⟩:=T.obj 0 _ st2 b hb;Heap.lt_size e
  have f3:∀ b ∈ fp,FpOk X pins (upd H2 s2.heap.objs.size (.lst [])) b:=λ b hb=>⟨by rw[AF (Nat.ne_of_lt (lt2 b hb))];exact(f2 b hb).1,(f2 b hb).2⟩
  have lt3:∀ b ∈ fp,b < (s2.heap.push { cls:=.type "list",data:=.seq ([]:List Value).toArray }).objs.size:=λ b hb=>by rw[Heap.size_push];exact Nat.lt_succ_of_lt (lt2 b hb)
  generalize hs3:({ s2 with heap:=s2.heap.push { cls:=.type "list",data:=.seq ([]:List Value).toArray } }:Shared)=s3 at *
  have lt3:∀ b ∈ fp,b < s3.heap.objs.size:=by rw[<- hs3];exact lt3
  have st3:tn 0 s3.heap:=T.keep _ _ _ st2 λ b hb o e=>by rw[<- hs3];exact Heap.get?_push_of_some _ e
  refine N6 λ h' hk hn ho ha=>?_
  have I4:=M5 (loc:=loc) S I3 f3 hk hn ho ha lt3
  have fpX:∀ {H':Hp},(∀ b ∈ fp,H' b=none)->∀ b ∈ fp,FpOk (cCx X (loc ++ fr) scope s3 (upd H2 s2.heap.objs.size (.lst [])) fp) [] H' b:=λ hn b hb=>
    ⟨hn b hb,(I4.ok.exf b hb).1,I4.ok.exfs b hb,.inl hb,(I4.ok.exf b hb).2,λ p hp=>by cases hp⟩
  have loop:codeAny (model X.prog X.w) X.A (.compLoop (.ListComp elt [⟨tg,iter,ifs,0⟩] scope pos) 0 (.ref it) (.ref s2.heap.objs.size) (Rj scope s3.heap.objs.size X.env))
      (compPost (model X.prog X.w) X.A X.xe none (EP X pins σ Q) (.ref s2.heap.objs.size) s3.heap.objs.size) { s3 with heap:=h' }:=by
    refine Hu (λ n s'=>∃ i σ' ys H',Inv (cCx X (loc ++ fr) scope s3 (upd H2 s2.heap.objs.size (.lst [])) fp) [] σ' H' s'/\tn i s'.heap/\(∀ b ∈ fp,H' b=none)/\W i n σ' ys H') ?_ m0
      ⟨0,_,[],_,I4,T.keep _ _ _ st3 λ b hb o e=>hk b o e,λ b hb=>(f3 b hb).1,w0⟩
    rintro n s5 ⟨i,σ5,ys,H5,I5,st5,fr5,w5⟩
    obtain⟨hD,w5⟩:=turn i n σ5 ys H5 w5
    rcases w5 with⟨stop,qn⟩|⟨go,hz,N,hN,step⟩
    . refine thn (T.done (cCx X (loc ++ fr) scope s3 (upd H2 s2.heap.objs.size (.lst [])) fp) rfl rfl rfl hc i [] s5 σ5 H5 _ I5 (fpX fr5) st5 stop) λ r s6 ⟨hr,I6⟩=>?_
      subst hr
      obtain⟨m,hm,_⟩:=I6.loc
      refine⟨m,hm,λ h'' hs=>?_⟩
      have neC:∀ b o,s3.heap.get? b=some o->b ≠ s3.heap.objs.size:=λ b o e=>Nat.ne_of_lt (Heap.lt_size e)
      have un:=I6.base
      refine⟨.ref s2.heap.objs.size,H5,I3.call' (s':={ s6 with heap:=h'' }) (ch:=fp) I6.os ⟨λ b o e n hb hx=>?_,λ b o e n hb hx=>?_,un.free,λ b o e hx=>?_,un.tups,un.frzs,un.tbls⟩ ?_ I6.bare ?_,rfl,qn⟩
      . exact(hs.2 b (neC b o e)).trans (un.keep b o e n hb hx)
      . obtain⟨sl,q⟩:=un.slot b o e n hb hx
        exact⟨sl,(hs.2 b (neC b o e)).trans q⟩
      . obtain⟨o',q⟩:=un.there b o e hx
        exact⟨o',(hs.2 b (neC b o e)).trans q⟩
      . intro b ob e
        have hfree:H5 s3.heap.objs.size=none:=I6.free
        refine(I6.hok b ob e).stay (λ c w' hc q=>(hs.2 c ?_).trans q) (λ _ q=>q) λ _ _ q=>q
        intro z
        rcases hc with hc|hc
        . rw[<- hc,z,hfree]at e;cases e
        . rw[z,hfree]at hc;cases hc
      . intro b hb
        obtain⟨_,a2,_,a4,a5,a6⟩:=f3 b hb
        exact⟨a4,a2,a5,a6⟩
    . refine thn (T.item (cCx X (loc ++ fr) scope s3 (upd H2 s2.heap.objs.size (.lst [])) fp) rfl rfl rfl hc i [] s5 σ5 H5 _ I5 (fpX fr5) st5 go) λ r s6 ⟨u,hr,h6⟩=>?_
      subst hr
      refine thn h6 λ _ s7 ⟨x,H7,I7,r7,y7,st7,fr7⟩=>?_
      have I7':=I7.pinned (fpX fr7) (T.obj _ _ st7)
      have keepI:∀ {σ8:St} {H8:Hp} {s8:Shared},Inv (cCx X (loc ++ fr) scope s3 (upd H2 s2.heap.objs.size (.lst [])) fp) ([] ++ GT fp s7.heap) σ8 H8 s8->tn (i + 1) s8.heap/\∀ b ∈ fp,H8 b=none:=λ {σ8 H8 s8} I8=>by
        refine⟨T.keep _ _ _ st7 λ b hb o e=>(I8.pin (b,o) (List.mem_append_right _ (List.mem_append_right _ (E4 hb e)))).1,λ b hb=>?_⟩
        obtain⟨o,e,d⟩:=T.obj _ _ st7 b hb
        exact(I8.pin (b,o) (List.mem_append_right _ (List.mem_append_right _ (E4 hb e)))).2.1
      refine thn (hg s3 (upd H2 s2.heap.objs.size (.lst [])) fp _ s7 σ5 H7 x u _ I7' r7 (step x H7 y7)) λ _ s8 ⟨σ8,H8,I8,q8⟩=>?_
      refine thn (hf s3 (upd H2 s2.heap.objs.size (.lst [])) fp _ s8 σ8 H8 _ I8 q8) λ b s9 ⟨H9,I9,q9⟩=>?_
      cases b with
      | false=>
        rw[if_neg Bool.false_ne_true]at q9 ⊢
        obtain⟨m',hm,w9⟩:=hN _ _ _ q9
        exact⟨m',hm,i + 1,σ8,ys,H9,I9.unpinned,(keepI I9).1,(keepI I9).2,w9⟩
      | true=>
        rw[if_pos rfl]at q9 ⊢
        refine thn (he s3 (upd H2 s2.heap.objs.size (.lst [])) fp _ s9 σ8 H9 _ I9 q9) λ e10 s10 ⟨v10,H10,I10,r10,hD10,n10⟩=>?_
        obtain⟨m',hm,w10⟩:=hN _ _ _ n10
        refine Pr (X:=cCx X (loc ++ fr) scope s3 (upd H2 s2.heap.objs.size (.lst [])) fp) I10 hD10 r10 hz λ _ s11 I11=>?_
        exact⟨m',hm,i + 1,σ8,_,_,I11.unpinned,(keepI I11).1,(keepI I11).2,w10⟩
  exact codeAny_compStart_list loop (T.self X.A 0 _ _ _ (T.keep _ _ _ st3 λ b hb o e=>hk b o e) loop)
end
end L2
namespace L2
open PySem PySem.Spec PyProof.Rows
section
variable{X:Cx}
theorem OQ{elt tg iter:Expr}{ifs:List Expr}{scope:Scope}{pos:Pos}{loc fr:List Str}{ix:List Nat}{g:TG}{tf:TT}{te:TE}{pins:List (Addr × Obj)}{σ:St}{Q:VK}{it:Addr}{fp:List Addr}{tn:Nat->Heap->Prop}{J:It}{H2:Hp}{s2:Shared}{E:Value->Shared->Prop}
    {RR:Value->Addr->Result->Shared->Prop} (hc:X.calm=true) (S:CSc X scope fr ix)
    (hg:∀ s H ex,PG (cCx X (loc ++ fr) scope s H ex) tg g) (hf:∀ s H ex,PF (cCx X (loc ++ fr) scope s H ex) ifs tf) (he:∀ s H ex,PE (cCx X (loc ++ fr) scope s H ex) elt te)
    (I2:Inv X pins σ H2 s2) (T:Turn X.prog X.w X.K tg J fp it tn) (st2:tn 0 s2.heap) (f2:∀ b ∈ fp,FpOk X pins H2 b) (hW:∀ D,H2 D=none->SE J D (Hw loc.length ix σ) H2 g tf te Q)
    (hfin:∀ (s3 s6:Shared) (H5:Hp) (σ5:St) (D:Addr),Inv X pins σ (upd H2 D (.lst [])) s3->Inv (cCx X (loc ++ fr) scope s3 (upd H2 D (.lst [])) fp) [] σ5 H5 s6->(∀ b ∈ fp,FpOk X pins (upd H2 D (.lst [])) b)->Q (.ref D) H5->RR (.ref D) s3.heap.objs.size (.ok .next) s6) :
    wpAny (model X.prog X.w) X.A (newList []) (λ acc s₃=>wpAny (model X.prog X.w) X.A (newFunctionEnv scope X.env.globals (Am X.env.cells scope.names []) [] X.env.qual none .none (some X.env)) (λ cenv s₄=>
      codeAny (model X.prog X.w) X.A (.compStart (.ListComp elt [⟨tg,iter,ifs,0⟩] scope pos) 0 (.ref it) acc { cenv with scope:=relabel scope X.env }) (RR acc cenv.locals) s₄) E s₃) E s2:=by
  refine wpAny_newObj_type ?_
  have fresh2:H2 s2.heap.objs.size=none:=I2.hok.fresh (Nat.le_refl _)
  have I3:=I2.lnew (its:=[]) (ys:=[]) (t':=s2.toks) .nil (Nat.zero_le _)
  obtain⟨W,⟨m0,w0⟩,turn⟩:=hW s2.heap.objs.size fresh2
  have lt2:∀ b ∈ fp,b < s2.heap.objs.size:=λ b hb=>let ⟨o,e,_⟩:=T.obj 0 _ st2 b hb;Heap.lt_size e
  have f3:∀ b ∈ fp,FpOk X pins (upd H2 s2.heap.objs.size (.lst [])) b:=λ b hb=>⟨by rw[AF (Nat.ne_of_lt (lt2 b hb))];exact(f2 b hb).1,(f2 b hb).2⟩
  have lt3:∀ b ∈ fp,b < (s2.heap.push { cls:=.type "list",data:=.seq ([]:List Value).toArray }).objs.size:=λ b hb=>by rw[Heap.size_push];exact Nat.lt_succ_of_lt (lt2 b hb)
  generalize hs3:({ s2 with heap:=s2.heap.push { cls:=.type "list",data:=.seq ([]:List Value).toArray } }:Shared)=s3 at *
  have lt3:∀ b ∈ fp,b < s3.heap.objs.size:=by rw[<- hs3];exact lt3
  have st3:tn 0 s3.heap:=T.keep _ _ _ st2 λ b hb o e=>by rw[<- hs3];exact Heap.get?_push_of_some _ e
  refine N6 λ h' hk hn ho ha=>?_
  have I4:=M5 (loc:=loc) S I3 f3 hk hn ho ha lt3
  have fpX:∀ {H':Hp},(∀ b ∈ fp,H' b=none)->∀ b ∈ fp,FpOk (cCx X (loc ++ fr) scope s3 (upd H2 s2.heap.objs.size (.lst [])) fp) [] H' b:=λ hn b hb=>
    ⟨hn b hb,(I4.ok.exf b hb).1,I4.ok.exfs b hb,.inl hb,(I4.ok.exf b hb).2,λ p hp=>by cases hp⟩
  have loop:codeAny (model X.prog X.w) X.A (.compLoop (.ListComp elt [⟨tg,iter,ifs,0⟩] scope pos) 0 (.ref it) (.ref s2.heap.objs.size) (Rj scope s3.heap.objs.size X.env))
      (RR (.ref s2.heap.objs.size) s3.heap.objs.size) { s3 with heap:=h' }:=by
    refine Hu (λ n s'=>∃ i σ' ys H',Inv (cCx X (loc ++ fr) scope s3 (upd H2 s2.heap.objs.size (.lst [])) fp) [] σ' H' s'/\tn i s'.heap/\(∀ b ∈ fp,H' b=none)/\W i n σ' ys H') ?_ m0
      ⟨0,_,[],_,I4,T.keep _ _ _ st3 λ b hb o e=>hk b o e,λ b hb=>(f3 b hb).1,w0⟩
    rintro n s5 ⟨i,σ5,ys,H5,I5,st5,fr5,w5⟩
    obtain⟨hD,w5⟩:=turn i n σ5 ys H5 w5
    rcases w5 with⟨stop,qn⟩|⟨go,hz,N,hN,step⟩
    . refine thn (T.done (cCx X (loc ++ fr) scope s3 (upd H2 s2.heap.objs.size (.lst [])) fp) rfl rfl rfl hc i [] s5 σ5 H5 _ I5 (fpX fr5) st5 stop) λ r s6 ⟨hr,I6⟩=>?_
      subst hr
      exact hfin s3 s6 H5 σ5 s2.heap.objs.size I3 I6 f3 qn
    . refine thn (T.item (cCx X (loc ++ fr) scope s3 (upd H2 s2.heap.objs.size (.lst [])) fp) rfl rfl rfl hc i [] s5 σ5 H5 _ I5 (fpX fr5) st5 go) λ r s6 ⟨u,hr,h6⟩=>?_
      subst hr
      refine thn h6 λ _ s7 ⟨x,H7,I7,r7,y7,st7,fr7⟩=>?_
      have I7':=I7.pinned (fpX fr7) (T.obj _ _ st7)
      have keepI:∀ {σ8:St} {H8:Hp} {s8:Shared},Inv (cCx X (loc ++ fr) scope s3 (upd H2 s2.heap.objs.size (.lst [])) fp) ([] ++ GT fp s7.heap) σ8 H8 s8->tn (i + 1) s8.heap/\∀ b ∈ fp,H8 b=none:=λ {σ8 H8 s8} I8=>by
        refine⟨T.keep _ _ _ st7 λ b hb o e=>(I8.pin (b,o) (List.mem_append_right _ (List.mem_append_right _ (E4 hb e)))).1,λ b hb=>?_⟩
        obtain⟨o,e,d⟩:=T.obj _ _ st7 b hb
        exact(I8.pin (b,o) (List.mem_append_right _ (List.mem_append_right _ (E4 hb e)))).2.1
      refine thn (hg s3 (upd H2 s2.heap.objs.size (.lst [])) fp _ s7 σ5 H7 x u _ I7' r7 (step x H7 y7)) λ _ s8 ⟨σ8,H8,I8,q8⟩=>?_
      refine thn (hf s3 (upd H2 s2.heap.objs.size (.lst [])) fp _ s8 σ8 H8 _ I8 q8) λ b s9 ⟨H9,I9,q9⟩=>?_
      cases b with
      | false=>
        rw[if_neg Bool.false_ne_true]at q9 ⊢
        obtain⟨m',hm,w9⟩:=hN _ _ _ q9
        exact⟨m',hm,i + 1,σ8,ys,H9,I9.unpinned,(keepI I9).1,(keepI I9).2,w9⟩
      | true=>
        rw[if_pos rfl]at q9 ⊢
        refine thn (he s3 (upd H2 s2.heap.objs.size (.lst [])) fp _ s9 σ8 H9 _ I9 q9) λ e10 s10 ⟨v10,H10,I10,r10,hD10,n10⟩=>?_
        obtain⟨m',hm,w10⟩:=hN _ _ _ n10
        refine Pr (X:=cCx X (loc ++ fr) scope s3 (upd H2 s2.heap.objs.size (.lst [])) fp) I10 hD10 r10 hz λ _ s11 I11=>?_
        exact⟨m',hm,i + 1,σ8,_,_,I11.unpinned,(keepI I11).1,(keepI I11).2,w10⟩
  exact codeAny_compStart_list loop (T.self X.A 0 _ _ _ (T.keep _ _ _ st3 λ b hb o e=>hk b o e) loop)
theorem Mk{scope:Scope}{N':List Str}{fp:List Addr}{pins:List (Addr × Obj)}{σ σ5:St}{H3 H5:Hp}{s3 s6:Shared}{h'':Heap}(I3:Inv X pins σ H3 s3)(I6:Inv (cCx X N' scope s3 H3 fp) [] σ5 H5 s6)(f3:∀ b ∈ fp,FpOk X pins H3 b)
    (hs:Heap.SameBut s3.heap.objs.size s6.heap h''):Inv X pins σ H5 { s6 with heap:=h'' }:=by
  have neC:∀ b o,s3.heap.get? b=some o->b ≠ s3.heap.objs.size:=λ b o e=>Nat.ne_of_lt (Heap.lt_size e)
  have un:=I6.base
  refine I3.call' (s':={ s6 with heap:=h'' }) (ch:=fp) I6.os ⟨λ b o e n hb hx=>?_,λ b o e n hb hx=>?_,un.free,λ b o e hx=>?_,un.tups,un.frzs,un.tbls⟩ ?_ I6.bare ?_
  . exact(hs.2 b (neC b o e)).trans (un.keep b o e n hb hx)
  . obtain⟨sl,q⟩:=un.slot b o e n hb hx
    exact⟨sl,(hs.2 b (neC b o e)).trans q⟩
  . obtain⟨o',q⟩:=un.there b o e hx
    exact⟨o',(hs.2 b (neC b o e)).trans q⟩
  . intro b ob e
    have hfree:H5 s3.heap.objs.size=none:=I6.free
    refine(I6.hok b ob e).stay (λ c w' hc q=>(hs.2 c ?_).trans q) (λ _ q=>q) λ _ _ q=>q
    intro z
    rcases hc with hc|hc
    . rw[<- hc,z,hfree]at e;cases e
    . rw[z,hfree]at hc;cases hc
  . intro b hb
    obtain⟨_,a2,_,a4,a5,a6⟩:=f3 b hb
    exact⟨a4,a2,a5,a6⟩
theorem T3{i:Nat}{y:Str}{elt tg iter:Expr}{ifs:List Expr}{scope:Scope}{pos spos py:Pos}{loc fr:List Str}{ix:List Nat}{wi:TI}{g:TG}{tf:TT}{te:TE}(hN:X.N.Nodup)(hiN:X.N[i]? = some y)(hy:X.env.scope.names.lookup y=some .local)
    (hc:X.calm=true) (S:CSc X scope fr ix) (hi:PI X tg iter wi)
    (hg:∀ s H ex,PG (cCx X (loc ++ fr) scope s H ex) tg g) (hf:∀ s H ex,PF (cCx X (loc ++ fr) scope s H ex) ifs tf) (he:∀ s H ex,PE (cCx X (loc ++ fr) scope s H ex) elt te)
    (hsw:swapsWith (.ListComp elt [⟨tg,iter,ifs,0⟩] scope pos) (some (.Name y py)) spos.line X.env=pure true:=by rfl) (hs:∀ x,foldedSetIterable iter X.env x=pure x:=by intro _;rfl) :
    PS X (.Assign [.Name y py] (.ListComp elt [⟨tg,iter,ifs,0⟩] scope pos) spos) (Ii (JF loc.length ix wi g tf te) (Gz i)):=by
  intro pins s σ H D I h
  have hnames:∀ y ∈ scope.names,y.2=.local->scope.names.lookup y.1=some .local:=λ y hy e=>by
    have:=List.all_eq_true.mp S.loc y hy
    rw[e]at this
    simpa using this
  rw[exec_Assign_Name_used _ _ _ _ hsw]
  refine wpAny_bind (wpAny_standAt (wpAny_bind ?_))
  show wpAny _ _ (do let _ <- comprehension (.ListComp elt [⟨tg,iter,ifs,0⟩] scope pos) scope X.env _ (newList []) false (eval iter X.env) (some (assign (.Name y py) X.env))) _ _ s
  refine wpAny_bind (wpAny_mono (wpAny_comprehension_free (use:=some (assign (.Name y py) X.env)) (Q:=λ _ s'=>SP X pins D .next s') rfl hs (FR (S.clos I.ok)) S.kind hnames
    (thn (hi pins s σ H _ I h) λ v s1 h1=>thn h1 λ itv s2 h2=>?_)) (λ _ s' hq=>wpAny_pure (wpAny_pure hq)) λ _ _ e=>e)
  obtain⟨it,fp,tn,J,H2,rfl,I2,T,st2,f2,hW⟩:=h2
  refine OQ (RR:=λ acc C=>compPost (model X.prog X.w) X.A X.xe (some (assign (.Name y py) X.env)) (λ _ s'=>SP X pins D .next s') acc C) hc S hg hf he I2 T st2 f2 hW λ s3 s6 H5 σ5 L I3 I6 f3 q=>?_
  have J6:Inv X pins σ H5 s6:=Mk (h'':=s6.heap) I3 I6 f3 (.refl ..)
  obtain⟨m,hm,_⟩:=I6.loc
  have hm:s6.heap.Ns s3.heap.objs.size m:=hm
  have hL:s3.heap.objs.size ≠ X.env.locals:=Ne.symm (Nat.ne_of_lt I3.lt)
  show wpAny _ _ (assign (.Name y py) X.env (.ref L)) _ _ s6
  refine wpAny_assign_Name (KN (v:=.ref L) J6 hN hiN (.inl hy) rfl (λ s7 I7 ⟨a,sb,ha⟩=>?_) (.inr hy))
  have hca:s3.heap.objs.size ≠ a:=by
    rcases ha with rfl|ha
    . exact hL
    . obtain⟨v,z⟩:=I3.cell y a ha
      exact Ne.symm (Nat.ne_of_lt z.lt)
  refine⟨m,hm.sameBut sb hca,λ h' hs'=>?_⟩
  refine⟨_,H5,I7.turned (t':=s7.toks) (it:=s3.heap.objs.size) (λ b o hb e=>(hs'.2 b hb).trans e) I6.free hL (.inr I3.sz) (λ x c e z=>?_) (λ p hp z=>?_),q⟩
  . obtain⟨v,w⟩:=I3.cell x c e
    exact absurd w.lt (by rw[z];exact Nat.lt_irrefl _)
  . exact absurd (Heap.lt_size (I3.pin p hp).1) (by rw[z];exact Nat.lt_irrefl _)
end
end L2
namespace L2
open PySem PySem.Spec PyProof.Rows
mutual
noncomputable def Rep(K:PySem.W.Frag)(H:Hp):PyData->V->Prop
  | .none,v=>v=.non
  | .bool b,v=>v=.bl b
  | .int i,v=>v=.int i
  | .str x,v=>v=.str x
  | .list ds,v=>∃ a xs,v=.ref a/\SqL K H a xs/\RepAll K H ds xs
  | .tuple ds,v=>∃ a xs,v=.ref a/\SqT K H a xs/\RepAll K H ds xs
  | .dict _,_=>False
noncomputable def RepAll(K:PySem.W.Frag)(H:Hp):List PyData->List V->Prop
  | [],xs=>xs=[]
  | d :: ds,xs=>∃ x r,xs=x :: r/\Rep K H d x/\RepAll K H ds r
end
section
variable{X:Cx}{pins:List (Addr × Obj)}{σ:St}{H:Hp}{s:Shared}
mutual
theorem FG(I:Inv X pins σ H s):∀ (d:PyData) (v:V) (u:Value),Rep X.K H d v->RelV v u->∃ as,Reads s.heap u d as
  | .none,v,u,h,r=>by
    have h:v=.non:=by simpa only[Rep]using h
    subst h;cases r;exact⟨_,.none⟩
  | .bool b,v,u,h,r=>by
    have h:v=.bl b:=by simpa only[Rep]using h
    subst h;cases r;exact⟨_,.bool b⟩
  | .int i,v,u,h,r=>by
    have h:v=.int i:=by simpa only[Rep]using h
    subst h;obtain⟨t,rfl⟩:=r;exact⟨_,.int i t⟩
  | .str x,v,u,h,r=>by
    have h:v=.str x:=by simpa only[Rep]using h
    subst h;obtain⟨t,rfl⟩:=r;exact⟨_,.str x t⟩
  | .list ds,v,u,h,r=>by
    have h:∃ a xs,v=.ref a/\SqL X.K H a xs/\RepAll X.K H ds xs:=by simpa only[Rep]using h
    obtain⟨a,xs,rfl,hq,ha⟩:=h
    cases r
    obtain⟨its,rv,⟨o,n,e,c,_,dd⟩,hz⟩:=I.list hq
    obtain⟨as,q⟩:=Fg I ds xs its ha rv
    exact⟨_,.list e c dd (by simpa using q)⟩
  | .tuple ds,v,u,h,r=>by
    have h:∃ a xs,v=.ref a/\SqT X.K H a xs/\RepAll X.K H ds xs:=by simpa only[Rep]using h
    obtain⟨a,xs,rfl,hq,ha⟩:=h
    cases r
    obtain⟨its,rv,⟨o,e,c,n,dd⟩,hz⟩:=I.tuple hq
    obtain⟨as,q⟩:=Fg I ds xs its ha rv
    exact⟨_,.tuple e c dd (by simpa using q)⟩
  | .dict _,v,u,h,r=>by
    have h:False:=by simpa only[Rep]using h
    exact h.elim
theorem Fg(I:Inv X pins σ H s):∀ (ds:List PyData) (xs:List V) (us:List Value),RepAll X.K H ds xs->Vals xs us->∃ as,ReadsAll s.heap us ds as
  | [],xs,us,h,r=>by
    have h:xs=[]:=by simpa only[RepAll]using h
    subst h;cases r;exact⟨_,.nil⟩
  | d :: ds,xs,us,h,r=>by
    have h:∃ x r,xs=x :: r/\Rep X.K H d x/\RepAll X.K H ds r:=by simpa only[RepAll]using h
    obtain⟨x,rr,rfl,h1,h2⟩:=h
    cases r with
    | cons r1 r2=>
      obtain⟨as,q1⟩:=FG I d _ _ h1 r1
      obtain⟨bs,q2⟩:=Fg I ds _ _ h2 r2
      exact⟨_,.cons q1 q2⟩
end
end
structure Grow(H H':Hp):Prop where
  tup:∀ b xs,H b=some (.tup xs)->H' b=some (.tup xs)
  frz:∀ b o u,H b=some (.frz o u)->H' b=some (.frz o u)
theorem Grow.refl{H:Hp}:Grow H H:=⟨λ _ _ h=>h,λ _ _ _ h=>h⟩
noncomputable def Chg(H:Hp)(p:Addr):Prop:=(∀ xs,H p ≠ some (.tup xs))/\∀ o u,H p ≠ some (.frz o u)
theorem Grow.put{H H':Hp}{p:Addr}{o:HO}(a:Grow H H')(h:Chg H' p):Grow H (upd H' p o):=⟨λ c xs e=>by
  have q:=a.tup c xs e
  have n:c ≠ p:=λ z=>h.1 xs (by rw[<- z];exact q)
  rw[AF n];exact q,λ c z u e=>by
  have q:=a.frz c z u e
  have n:c ≠ p:=λ w=>h.2 z u (by rw[<- w];exact q)
  rw[AF n];exact q⟩
theorem Chg.lst{H:Hp}{p:Addr}{xs:List V}(h:H p=some (.lst xs)):Chg H p:=⟨(λ _ e=>by rw[h]at e;cases e),(λ _ _ e=>by rw[h]at e;cases e)⟩
theorem Grow.sq{K:PySem.W.Frag}{H H':Hp}{a:Addr}{xs:List V}(g:Grow H H')(h:SqT K H a xs):SqT K H' a xs:=by
  rcases h with(h|⟨o,h⟩)|h
  . exact .inl (.inl (g.tup _ _ h))
  . exact .inl (.inr ⟨o,g.frz _ _ _ h⟩)
  . exact .inr h
mutual
/-- no list in it -/
noncomputable def Imm:PyData->Bool
  | .none | .bool _ | .int _ | .str _=>true
  | .list _=>false
  | .tuple ds=>IA ds
  | .dict _=>false
noncomputable def IA:List PyData->Bool
  | []=>true
  | d :: ds=>Imm d && IA ds
end
mutual
theorem Rep.grow{K:PySem.W.Frag}{H H':Hp}(g:Grow H H'):∀ (d:PyData) (v:V),Imm d=true->Rep K H d v->Rep K H' d v
  | .none,v,_,h=>by simpa only[Rep]using h
  | .bool b,v,_,h=>by simpa only[Rep]using h
  | .int i,v,_,h=>by simpa only[Rep]using h
  | .str x,v,_,h=>by simpa only[Rep]using h
  | .list ds,v,m,h=>by simp[Imm]at m
  | .tuple ds,v,m,h=>by
    have h:∃ a xs,v=.ref a/\SqT K H a xs/\RepAll K H ds xs:=by simpa only[Rep]using h
    obtain⟨a,xs,e,hq,ha⟩:=h
    simp only[Rep]
    exact⟨a,xs,e,g.sq hq,RepAll.grow g ds xs (by simpa only[Imm]using m) ha⟩
  | .dict _,v,m,h=>by simp[Imm]at m
theorem RepAll.grow{K:PySem.W.Frag}{H H':Hp}(g:Grow H H'):∀ (ds:List PyData) (xs:List V),IA ds=true->RepAll K H ds xs->RepAll K H' ds xs
  | [],xs,_,h=>by simpa only[RepAll]using h
  | d :: ds,xs,m,h=>by
    have h:∃ x r,xs=x :: r/\Rep K H d x/\RepAll K H ds r:=by simpa only[RepAll]using h
    obtain⟨x,r,e,h1,h2⟩:=h
    have m:Imm d=true/\IA ds=true:=by simpa [IA]using m
    simp only[RepAll]
    exact⟨x,r,e,Rep.grow g d x m.1 h1,RepAll.grow g ds r m.2 h2⟩
end
section
variable{X:Cx}
noncomputable def Qf(K:PySem.W.Frag):R2:=λ x y H Q=>∃ d e,Rep K H d x/\Rep K H e y/\d.canLay0=true/\e.canLay0=true/\min d.depth e.depth <= 60/\Q (.bl (!PyData.eqv d e)) H
noncomputable def Qi(K:PySem.W.Frag):R2:=λ x y H Q=>∃ d e,Rep K H d x/\Rep K H e y/\d.canLay0=true/\e.canLay0=true/\min d.depth e.depth <= 60/\Q (.bl (PyData.eqv d e)) H
theorem V5(hu:X.A.units + 64 < cLine):OpR X (compareOp .NotEq) (Qf X.K):=by
  intro pins s σ H x y v u Q I rx ry h
  obtain⟨d,e,h1,h2,c1,c2,hm,q⟩:=h
  obtain⟨as,q1⟩:=FG I d x v h1 rx
  obtain⟨bs,q2⟩:=FG I e y u h2 ry
  exact PySem.SeqAt.compareNe_reads q1 q2 c1 c2 (by omega) ⟨.bl _,H,I,rfl,q⟩
theorem V7(hu:X.A.units + 64 < cLine):OpR X (compareOp .Eq) (Qi X.K):=by
  intro pins s σ H x y v u Q I rx ry h
  obtain⟨d,e,h1,h2,c1,c2,hm,q⟩:=h
  obtain⟨as,q1⟩:=FG I d x v h1 rx
  obtain⟨bs,q2⟩:=FG I e y u h2 ry
  exact PySem.SeqAt.compareEq_reads q1 q2 c1 c2 (by omega) ⟨.bl _,H,I,rfl,q⟩
theorem Ea:∀ {ns:List Int} {us:List Value},Vals (ns.map V.int) us->IntsAre us ns
  | [],_,.nil=>.nil
  | n :: ns,_,.cons r t=>by obtain⟨k,rfl⟩:=r;exact .cons _ _ (Ea t)
theorem Pm(hc:X.calm=true):CallR X (.builtin "sum") (λ xs H Q=>∃ (a:Addr) (ns:List Int),xs=[.ref a]/\SqL X.K H a (ns.map V.int)/\Q (.int ns.sum) H):=by
  intro pins s σ H xs us Q I r h
  obtain⟨a,ns,rfl,hq,q⟩:=h
  obtain⟨u,rfl,ru⟩:=Cd r
  cases ru
  obtain⟨its,rv,p,hz⟩:=I.list hq
  have hi:=Ea rv
  obtain⟨xs,hx⟩:=hi.allInts.items
  have hl':s.heap.IsList a (intItems xs):=hx ▸ p.isList
  refine sum_intListG (I.ok.hd hc) hl' λ h' tk t' hk=>?_
  have e1:ns=xs.toList.map (·.1):=by
    rw[<- nums_intItems,<- hx]
    exact(show numsOf its.toArray.toList=ns from hi.numsOf).symm
  have e2:preSum (numAt xs) xs.size=ns.sum:=by
    rw[preSum_eq,List.take_of_length_le (by simp),e1]
  rw[e2]
  exact⟨.int ns.sum,H,I.kept hk,⟨_,rfl⟩,q⟩
end
end L2
namespace L2
open PySem PySem.Spec PyProof.Rows
section
variable(K:PySem.W.Frag){X:Cx}
theorem M3(hK:X.K=K:=by rfl):IxR X (Qh K):=by subst hK;exact Tl
theorem NC(hK:X.K=K:=by rfl):IxR X (Qg K):=by subst hK;exact VJ
theorem QK(hK:X.K=K:=by rfl):SlR X (Nv K):=by subst hK;exact SO
theorem V6(hK:X.K=K:=by rfl):OpR X (compareOp .In) (rIn K false):=by subst hK;exact PD
theorem P9(hK:X.K=K:=by rfl):OpR X (compareOp .NotIn) (rIn K true):=by subst hK;exact Lj
theorem E3(hu:X.A.units + 64 < cLine)(hK:X.K=K:=by rfl):OpR X (compareOp .Eq) (Qi K):=by subst hK;exact V7 hu
theorem Es(hu:X.A.units + 64 < cLine)(hK:X.K=K:=by rfl):OpR X (compareOp .NotEq) (Qf K):=by subst hK;exact V5 hu
theorem Ah(hK:X.K=K:=by rfl):OpR X (binaryOp .Add) (Nx K):=by subst hK;exact TX
noncomputable def Ub:List V->Hp->VK->Prop:=λ xs H Q=>∃ p ys,xs=[.ref p]/\(SqL K H p ys ∨ SqT K H p ys)/\Q (.int ys.length) H
theorem BL(hK:X.K=K:=by rfl):CallR X (.builtin "len") (Ub K):=by subst hK;exact MR
noncomputable def K1:List V->Hp->VK->Prop:=λ xs H Q=>∃ p ys,xs=[.ref p]/\(SqL K H p ys ∨ SqT K H p ys)/\∀ l,H l=none->Q (.ref l) (upd H l (.lst ys))
theorem OS(hK:X.K=K:=by rfl):CallR X (.type "list") (K1 K):=by subst hK;exact MQ
noncomputable def LY:List V->Hp->VK->Prop:=λ xs H Q=>∃ p ys,xs=[.ref p]/\((SqL K H p ys/\∀ l,H l=none->Q (.ref l) (upd H l (.tup ys))) ∨ (SqT K H p ys/\Q (.ref p) H))
theorem Co(hK:X.K=K:=by rfl):CallR X (.type "tuple") (LY K):=by subst hK;exact Kn
noncomputable def Rx:List V->Hp->VK->Prop:=λ xs H Q=>∃ (a:Addr) (ns:List Int),xs=[.ref a]/\SqL K H a (ns.map V.int)/\Q (.int ns.sum) H
theorem Hx(hc:X.calm=true)(hK:X.K=K:=by rfl):CallR X (.builtin "sum") (Rx K):=by subst hK;exact Pm hc
theorem Lf{tg l:Expr}{tl:TE}(hl:PE X l tl)(hK:X.K=K:=by rfl):PI X tg l (IR K tl):=by subst hK;exact TC hl
theorem TB{tg l:Expr}{tl:TE}(hl:PE X l tl)(hK:X.K=K:=by rfl):PI X tg l (OF K tl):=by subst hK;exact Uq hl
theorem TH{pos:Pos}{es:List Expr}{k:Nat}{t:TGs}{n:Nat}(hc:X.calm=true)(h:PGs X es t)(hK:X.K=K:=by rfl)
    (hn:(assignEach es X.env).length=n:=by rfl) (hst:(assignEach es X.env).findIdx? (·.1)=none:=by rfl):PG X (.Tuple es k pos) (OL K n t):=by
  subst hK
  exact Ur hc h hn hst
end
section
variable(K:PySem.W.Frag){X:Cx}
end
end L2
namespace L2
open PySem PySem.Spec PyProof.Rows
section
variable(K:PySem.W.Frag){X:Cx}
theorem Hz:∀ {bs:List Bool} {us:List Value} {i:Nat} {v:Value},Vals (bs.map V.bl) us->us[i]? = some v->∃ b,bs[i]? = some b/\v=.bool b
  | [],_,_,_,.nil,e=>by simp at e
  | b :: bs,_,0,_,.cons r _,e=>by simp at e;subst e;exact⟨b,rfl,r⟩
  | b :: bs,_,i + 1,_,.cons _ t,e=>by
    obtain⟨c,h1,h2⟩:=Hz (i:=i) t (by simpa using e)
    exact⟨c,by simpa using h1,h2⟩
noncomputable def Ud:List V->Hp->VK->Prop:=λ xs H Q=>∃ (a:Addr) (bs:List Bool),xs=[.ref a]/\SqL K H a (bs.map V.bl)/\Q (.bl (bs.all id)) H
noncomputable def Uc:List V->Hp->VK->Prop:=λ xs H Q=>∃ (a:Addr) (bs:List Bool),xs=[.ref a]/\SqL K H a (bs.map V.bl)/\Q (.bl (bs.any id)) H
theorem Po(hc:X.calm=true)(hK:X.K=K:=by rfl):CallR X (.builtin "all") (Ud K):=by
  subst hK
  intro pins s σ H xs us Q I r h
  obtain⟨a,bs,rfl,hq,q⟩:=h
  obtain⟨u,rfl,ru⟩:=Cd r
  cases ru
  obtain⟨its,rv,p,hz⟩:=I.list hq
  have hl:=p.isList
  have hlen:=rv.length
  have hlt:a < s.heap.objs.size:=by obtain⟨_,e,_⟩:=hl;exact Heap.lt_size e
  refine call_all_walk (wpAny_pyIter_list hl ?_)
  refine⟨s.heap.objs.size,[s.heap.objs.size,a],[s.heap.objs.size],its.toArray.size,_,_,λ i=>(bs[i]?).getD true,rfl,Walks.list (A:=X.A.in1) (I.ok.hd hc) _ a (Nat.ne_of_lt hlt) its.toArray,
    ⟨⟨_,Heap.get?_push_size _ rfl,rfl,rfl⟩,hl.push _⟩,λ i v s' Q' E' hP hQ=>?_,λ h' tk hk=>?_⟩
  . obtain⟨b,e,rfl⟩:=Hz rv (by simpa using hP)
    simp only[e,Option.getD_some]at hQ
    exact wpAny_truthy_bool hQ
  . have e:((List.range its.toArray.size).all λ i=>(bs[i]?).getD true)=bs.all id:=by
      rw[List.size_toArray,<- hlen,List.length_map];exact LSm.range_all bs
    rw[e]
    exact⟨.bl _,H,I.kept (LSm.kept_iter hk),rfl,q⟩
theorem Kg(hc:X.calm=true)(hK:X.K=K:=by rfl):CallR X (.builtin "any") (Uc K):=by
  subst hK
  intro pins s σ H xs us Q I r h
  obtain⟨a,bs,rfl,hq,q⟩:=h
  obtain⟨u,rfl,ru⟩:=Cd r
  cases ru
  obtain⟨its,rv,p,hz⟩:=I.list hq
  have hl:=p.isList
  have hlen:=rv.length
  have hlt:a < s.heap.objs.size:=by obtain⟨_,e,_⟩:=hl;exact Heap.lt_size e
  refine call_any_walk (wpAny_pyIter_list hl ?_)
  refine⟨s.heap.objs.size,[s.heap.objs.size,a],[s.heap.objs.size],its.toArray.size,_,_,λ i=>(bs[i]?).getD false,rfl,Walks.list (A:=X.A.in1) (I.ok.hd hc) _ a (Nat.ne_of_lt hlt) its.toArray,
    ⟨⟨_,Heap.get?_push_size _ rfl,rfl,rfl⟩,hl.push _⟩,λ i v s' Q' E' hP hQ=>?_,λ h' tk hk=>?_⟩
  . obtain⟨b,e,rfl⟩:=Hz rv (by simpa using hP)
    simp only[e,Option.getD_some]at hQ
    exact wpAny_truthy_bool hQ
  . have e:((List.range its.toArray.size).any λ i=>(bs[i]?).getD false)=bs.any id:=by
      rw[List.size_toArray,<- hlen,List.length_map];exact LSm.range_any bs
    rw[e]
    exact⟨.bl _,H,I.kept (LSm.kept_iter hk),rfl,q⟩
noncomputable def K0:List V->Hp->VK->Prop:=λ xs H Q=>∃ (a:Addr) (ns:List Int),xs=[.ref a]/\SqL K H a (ns.map V.int)/\ns.length < 64/\∀ (p:Addr) (ns':List Int),H p=none->ns'.Perm ns->ns'.Pairwise (· <= ·)->Q (.ref p) (upd H p (.lst (ns'.map V.int)))
theorem Js:∀ {ns:List Int} {us:List Value},IntsAre us ns->Vals (ns.map V.int) us
  | [],_,.nil=>.nil
  | _ :: _,_,.cons _ _ t=>.cons ⟨_,rfl⟩ (Js t)
theorem MP(hK:X.K=K:=by rfl):CallR X (.builtin "sorted") (K0 K):=by
  subst hK
  intro pins s σ H xs us Q I r h
  obtain⟨a,ns,rfl,hq,h64,q⟩:=h
  obtain⟨u,rfl,ru⟩:=Cd r
  cases ru
  obtain⟨its,rv,p,hz⟩:=I.list hq
  have hlen:=rv.length
  rw[List.length_map]at hlen
  refine sorted_ints p.isList (Ea rv) (by omega) λ out ns' a1 a2 a3=>?_
  obtain⟨e,he⟩:=sortedAll_at s.heap its out
  have hl':ns'.length=ns.length:=a2.length_eq
  refine⟨.ref (s.heap.objs.size + 1),_,I.laid (a:=s.heap.objs.size + 1) (o:=.lst (ns'.map V.int)) (t':=s.toks) (λ b o hb=>sortedAll_old hb) (Nat.le_succ _) ⟨?_,out.toList,e,Js a1,he⟩,rfl,q _ _ (I.hok.fresh (Nat.le_succ _)) a2 a3⟩
  rw[List.length_map,hl']
  exact Nat.le_of_lt (HX (by omega))
noncomputable def S0:List V->Hp->VK->Prop:=λ xs H Q=>∃ (a:Addr) (ns:List Int),xs=[.ref a]/\SqL K H a (ns.map V.int)/\0 < ns.length/\∀ M:Int,M ∈ ns->(∀ x ∈ ns,x <= M)->Q (.int M) H
theorem Kf(hc:X.calm=true)(hK:X.K=K:=by rfl):CallR X (.builtin "max") (S0 K):=by
  subst hK
  intro pins s σ H xs us Q I r h
  obtain⟨a,ns,rfl,hq,hne,q⟩:=h
  obtain⟨u,rfl,ru⟩:=Cd r
  cases ru
  obtain⟨its,rv,p,hz⟩:=I.list hq
  have hi:=Ea rv
  obtain⟨ys,e⟩:=hi.allInts.items
  have hns:ns=ys.toList.map (·.1):=by
    rw[<- hi.numsOf,<- nums_intItems,<- e]
  have hsz:0 < ys.size:=by
    have h3:=hne;rw[hns,List.length_map,Array.length_toList]at h3;exact h3
  have hl:=p.isList
  rw[e]at hl
  refine max_intList (I.ok.hd hc) hl hsz λ v h' tk hv hk=>?_
  obtain⟨t,rfl⟩:=intItems_at hv
  obtain⟨h1,h2⟩:=argBest_gt (numAt ys) (ys.size - 1)
  refine⟨.int _,H,I.kept hk,⟨t,rfl⟩,q _ ?_ λ x hx=>?_⟩
  . rw[hns,numAt_eq];exact getD_mem (by rw[List.length_map,Array.length_toList];omega)
  . rw[hns]at hx
    obtain⟨j,hj,rfl⟩:=mem_getD hx
    rw[List.length_map,Array.length_toList]at hj
    rw[<- numAt_eq];exact h2 j (by omega)
noncomputable def Ry:List V->Hp->VK->Prop:=λ xs H Q=>∃ (a:Addr) (ns:List Int),xs=[.ref a]/\SqL K H a (ns.map V.int)/\0 < ns.length/\∀ M:Int,M ∈ ns->(∀ x ∈ ns,M <= x)->Q (.int M) H
theorem Pn(hc:X.calm=true)(hK:X.K=K:=by rfl):CallR X (.builtin "min") (Ry K):=by
  subst hK
  intro pins s σ H xs us Q I r h
  obtain⟨a,ns,rfl,hq,hne,q⟩:=h
  obtain⟨u,rfl,ru⟩:=Cd r
  cases ru
  obtain⟨its,rv,p,hz⟩:=I.list hq
  have hi:=Ea rv
  obtain⟨ys,e⟩:=hi.allInts.items
  have hns:ns=ys.toList.map (·.1):=by
    rw[<- hi.numsOf,<- nums_intItems,<- e]
  have hsz:0 < ys.size:=by
    have h3:=hne;rw[hns,List.length_map,Array.length_toList]at h3;exact h3
  have hl:=p.isList
  rw[e]at hl
  refine min_intList (I.ok.hd hc) hl hsz λ v h' tk hv hk=>?_
  obtain⟨t,rfl⟩:=intItems_at hv
  obtain⟨h1,h2⟩:=argBest_lt (numAt ys) (ys.size - 1)
  refine⟨.int _,H,I.kept hk,⟨t,rfl⟩,q _ ?_ λ x hx=>?_⟩
  . rw[hns,numAt_eq];exact getD_mem (by rw[List.length_map,Array.length_toList];omega)
  . rw[hns]at hx
    obtain⟨j,hj,rfl⟩:=mem_getD hx
    rw[List.length_map,Array.length_toList]at hj
    rw[<- numAt_eq];exact h2 j (by omega)
end
end L2
namespace L2
open PySem PySem.Spec PyProof.Rows
section
variable{prog:Program}{w:World}{A:Around}{E:Value->Shared->Prop}{s:Shared}{l:Addr}{xs:Array (Int × Tok)}
theorem HR{Q:Value->Shared->Prop}(hl:s.heap.IsTuple l (intItems xs))
    (h:∀ s₂:Shared,s₂={ s with heap:=s.heap.push { cls:=.type "tuple_iterator",data:=.fields #[.ref l,.int 0 0] } } ->
      (s₂.heap.IsTupleIter s.heap.objs.size l 0/\s₂.heap.IsTuple l (intItems xs))->(∀ b ∈ [s.heap.objs.size,l],b < s₂.heap.objs.size)->l ≠ s.heap.objs.size->Q (.ref s.heap.objs.size) s₂) :
    wpAny (model prog w) A (pyIter (.ref l)) Q E s:=by
  have hlt:l < s.heap.objs.size:=by obtain⟨_,e,_⟩:=hl;exact Heap.lt_size e
  refine wpAny_pyIter_tuple hl (h _ rfl ⟨⟨_,Heap.get?_push_size _ rfl,rfl,rfl⟩,hl.push _⟩ (λ b hb=>?_) (Nat.ne_of_lt hlt))
  show b < (s.heap.push _).objs.size
  rw[Heap.size_push]
  rcases List.mem_cons.mp hb with rfl|hb
  . exact Nat.lt_succ_self _
  . rcases List.mem_cons.mp hb with rfl|hb
    . exact Nat.lt_succ_of_lt hlt
    . cases hb
theorem KO{h':Heap}{o:Obj}(hk:∀ b x,b ∉ [s.heap.objs.size]->(s.heap.push o).get? b=some x->h'.get? b=some x):∀ b x,s.heap.get? b=some x->h'.get? b=some x:=
  λ b x e=>hk b x (λ hm=>by rw[List.mem_singleton.mp hm]at e;exact Nat.lt_irrefl _ (Heap.lt_size e)) (Heap.get?_push_of_some _ e)
theorem LI{Q:Value->Shared->Prop}(hh:A.handled=none)(hl:s.heap.IsTuple l (intItems xs))
    (h:∀ h' tk t',(∀ b o,s.heap.get? b=some o->h'.get? b=some o)->Q (.int (preSum (numAt xs) xs.size) t') { s with heap:=h',toks:=tk }) :
    wpAny (model prog w) A (call (.builtin "sum") [.ref l]) Q E s:=by
  refine call_sum_walkG (HR hl λ s₂ e st hfp hlI=>?_)
  subst e
  refine⟨_,_,_,_,_,_,numAt xs,rfl,Walks.tuple (A:=A.in1) hh _ l hlI (intItems xs),st,hfp,(λ _ _=>intItems_at),λ h' tk t' hk=>?_⟩
  have:=h h' tk t' (KO hk)
  simpa [intItems]using this
theorem Lo{Q:Value->Shared->Prop}(hh:A.handled=none)(hl:s.heap.IsTuple l (intItems xs))(hne:0 < xs.size)
    (h:∀ v h' tk,(intItems xs)[argBest (λ i j=>decide (numAt xs i > numAt xs j)) (xs.size - 1)]? = some v->(∀ b o,s.heap.get? b=some o->h'.get? b=some o)->Q v { s with heap:=h',toks:=tk }) :
    wpAny (model prog w) A (call (.builtin "max") [.ref l]) Q E s:=by
  refine call_max_walk (HR hl λ s₂ e st hfp hlI=>?_)
  subst e
  refine⟨_,_,_,_,_,_,_,rfl,Walks.tuple (A:=A.in1) hh _ l hlI (intItems xs),st,hfp,by simpa [intItems]using hne,CmpOf.ints_gt (numAt xs) (λ _ _=>intItems_at),λ v h' tk hP hk=>?_⟩
  exact h v h' tk (by simpa [intItems]using hP) (KO hk)
end
section
variable(K:PySem.W.Frag){X:Cx}
noncomputable def Rv:List V->Hp->VK->Prop:=λ xs H Q=>∃ (a:Addr) (ns:List Int),xs=[.ref a]/\SqT K H a (ns.map V.int)/\Q (.int ns.sum) H
theorem HG(hc:X.calm=true)(hK:X.K=K:=by rfl):CallR X (.builtin "sum") (Rv K):=by
  subst hK
  intro pins s σ H xs us Q I r h
  obtain⟨a,ns,rfl,hq,q⟩:=h
  obtain⟨u,rfl,ru⟩:=Cd r
  cases ru
  obtain⟨its,rv,p,hz⟩:=I.tuple hq
  have hi:=Ea rv
  obtain⟨xs,hx⟩:=hi.allInts.items
  have hl':s.heap.IsTuple a (intItems xs):=hx ▸ (show s.heap.IsTuple a its.toArray from p)
  refine LI (I.ok.hd hc) hl' λ h' tk t' hk=>?_
  have e1:ns=xs.toList.map (·.1):=by
    rw[<- nums_intItems,<- hx]
    exact(show numsOf its.toArray.toList=ns from hi.numsOf).symm
  have e2:preSum (numAt xs) xs.size=ns.sum:=by
    rw[preSum_eq,List.take_of_length_le (by simp),e1]
  rw[e2]
  exact⟨.int ns.sum,H,I.kept hk,⟨_,rfl⟩,q⟩
noncomputable def Rz:List V->Hp->VK->Prop:=λ xs H Q=>∃ (a:Addr) (ns:List Int),xs=[.ref a]/\SqT K H a (ns.map V.int)/\0 < ns.length/\∀ M:Int,M ∈ ns->(∀ x ∈ ns,x <= M)->Q (.int M) H
theorem Jo(hc:X.calm=true)(hK:X.K=K:=by rfl):CallR X (.builtin "max") (Rz K):=by
  subst hK
  intro pins s σ H xs us Q I r h
  obtain⟨a,ns,rfl,hq,hne,q⟩:=h
  obtain⟨u,rfl,ru⟩:=Cd r
  cases ru
  obtain⟨its,rv,p,hz⟩:=I.tuple hq
  have hi:=Ea rv
  obtain⟨ys,e⟩:=hi.allInts.items
  have hns:ns=ys.toList.map (·.1):=by
    rw[<- hi.numsOf,<- nums_intItems,<- e]
  have hsz:0 < ys.size:=by
    have h3:=hne;rw[hns,List.length_map,Array.length_toList]at h3;exact h3
  have hl:s.heap.IsTuple a (intItems ys):=e ▸ (show s.heap.IsTuple a its.toArray from p)
  refine Lo (I.ok.hd hc) hl hsz λ v h' tk hv hk=>?_
  obtain⟨t,rfl⟩:=intItems_at hv
  obtain⟨h1,h2⟩:=argBest_gt (numAt ys) (ys.size - 1)
  refine⟨.int _,H,I.kept hk,⟨t,rfl⟩,q _ ?_ λ x hx=>?_⟩
  . rw[hns,numAt_eq];exact getD_mem (by rw[List.length_map,Array.length_toList];omega)
  . rw[hns]at hx
    obtain⟨j,hj,rfl⟩:=mem_getD hx
    rw[List.length_map,Array.length_toList]at hj
    rw[<- numAt_eq];exact h2 j (by omega)
end
end L2
namespace L2
open PySem PySem.Spec PyProof.Rows
structure DefAt(K:PySem.W.Frag)(mg:Str->Option Value)(x:Str)(st:Stmt)(f:Addr)(fd:FuncData)(ps:List Str):Prop where
  fn:Fun K x x st f fd
  mg:mg x=some (.ref f)
  bd:Binds K fd ps []
theorem S5{X:Cx}{j k:Nat}{f:Addr}{fd:FuncData}{ps:List Str}{sp:Sp}{x:Str}{st:Stmt}{e:Expr}{es:List Expr}{t:TA}{p pos:Pos}(F:FnOk X.prog X.w X.K X.mg X.base CX0 j f fd ps sp)(hr:Room k X.A)(D:DefAt X.K X.mg x st f fd ps)(ha:PA X (e :: es) t)
    (hjk:j <= k:=by decide) (hg:Gl X x:=by rfl) (hdb:(x == ("__debug__":Str))=false:=by decide) (he:starEach (e :: es) X.env=(false,eval e X.env) :: starEach es X.env:=by rfl) (hpl:(backTo pos (starEach es X.env)).any (·.1)=false:=by rfl) :
    PE X (.Call (.Name x p) (e :: es) [] pos) (ID sp [] E0 t):=
  TR (F.mono hjk) hr hg D.mg D.fn.kp D.bd .nil W5 ha hdb he hpl
theorem NH:bootBuiltins "list"=some (.type "list"):=by decide +kernel
theorem bt_tuple:bootBuiltins "tuple"=some (.type "tuple"):=by decide +kernel
theorem bt_len:bootBuiltins "len"=some (.builtin "len"):=by decide +kernel
theorem bt_sum:bootBuiltins "sum"=some (.builtin "sum"):=by decide +kernel
theorem bt_min:bootBuiltins "min"=some (.builtin "min"):=by decide +kernel
theorem bt_max:bootBuiltins "max"=some (.builtin "max"):=by decide +kernel
theorem GA:bootBuiltins "sorted"=some (.builtin "sorted"):=by decide +kernel
theorem bt_all:bootBuiltins "all"=some (.builtin "all"):=by decide +kernel
theorem bt_any:bootBuiltins "any"=some (.builtin "any"):=by decide +kernel
theorem Ko:bootBuiltins "isinstance"=some (.builtin "isinstance"):=by decide +kernel
section
variable(c:Addr)(n l u v:Int)
end
mutual
theorem Ie:∀ ns:List Int,PyData.canLayAll0 (ns.map PyData.int)=true
  | []=>by simp[PyData.canLayAll0]
  | n :: ns=>by simp[PyData.canLayAll0,PyData.canLay0,Ie ns]
end
end L2
namespace L2
open PySem PySem.Spec PyProof.Rows PySem.W
noncomputable def lCx(X:Cx)(A:Around)(N':List Str)(qual:Str)(scope:Scope)(f:Addr)(cd:Value)(cl:List (Str × Addr))(s:Shared)(H:Hp):Cx:=
  { X with N:=N',s₀:=s,H₀:=H,A:=A.deeper (envX qual scope s.heap.objs.size f cd cl),env:=envX qual scope s.heap.objs.size f cd cl,outer:=X.stack,stack:=envX qual scope s.heap.objs.size f cd cl :: X.stack,ex:=[],fn:=λ _=>false,calm:=true,pn:=[],xe:=λ _ _=>False }
structure LSc(scope:Scope)(p:Str):Prop where
  nocell:(scope.names.all λ y=>y.2 != .cell)=true
  par:scope.names.lookup p=some .local
  co:scope.isCoroutine=false
  gen:scope.isGenerator=false
section
variable{X:Cx}{scope:Scope}{fr:List Str}{ix:List Nat}{pins:List (Addr × Obj)}{σ:St}{H:Hp}{s:Shared}{p:Str}
theorem LSc.ne(L:LSc scope p):∀ y ∈ scope.names,y.2 ≠ .cell:=λ y hy e=>by
  have:=List.all_eq_true.mp L.nocell y hy
  rw[e]at this
  revert this;decide
theorem To(S:CSc X scope fr ix)(L:LSc scope p)(I:Inv X pins σ H s){A:Around}(hf:A.frames=X.A.frames)(hh:A.handled=none){qual:Str}{f:Addr}{cd:Value}{h':Heap}{x:V}{u:Value}{t':Nat}
    (hk:∀ b o,s.heap.get? b=some o->h'.get? b=some o) (hn:h'.Ns s.heap.objs.size λ y=>if y=p then some u else none) (r:RelV x u) :
    Inv (lCx X A (p :: fr) qual scope f cd (Am X.env.cells scope.names []) s H) [] (some x :: ix.map λ i=>(σ[i]?).join) H { s with heap:=h',toks:=t' }:=by
  have lenix:fr.length=ix.length:=by simpa using congrArg List.length S.ixs
  have co:∀ x c,(Am X.env.cells scope.names []).lookup x=some c->X.env.cells.lookup x=some c:=λ x c e=>Ei (S.clos I.ok) (λ _ _ z=>by simp at z) x c e
  refine⟨⟨I.ok.mod,S.kind,rfl,rfl,Nat.le_refl _,?_,?_,?_,λ _=>hh,Around.frames_deeper (hf.trans I.ok.frames),.inr ⟨rfl,rfl⟩,?_,I.bs,Nat.le_trans I.ok.bsz I.sz,?_,?_,I.stack,I.stkFree⟩,rfl,I.bare,Un.kept hk,⟨_,hn,?_⟩,?_,I.hok.fresh (Nat.le_refl _),?_,?_,I.hok.kept hk,?_⟩
  . intro x y c e1 e2
    exact I.ok.inj x y c (co x c e1) (co y c e2)
  . intro x hx
    rcases hx with e|e
    . exact absurd rfl (L.ne (x,.cell) (PySem.mem_of_lookup e))
    . exact Option.isSome_iff_exists.mp (E6 (.inr (PySem.mem_of_lookup e)))
  . intro x c hf;cases hf
  . intro b hb;cases hb
  . intro b o e hb;cases hb
  . intro b hb;cases hb
  . intro i y v e1 e2 e3
    cases i with
    | zero=>
      have e1:some p=some y:=e1
      have e2:some (some x)=some (some v):=e2
      cases e1;cases e2
      exact⟨u,r,.inl ⟨L.par,if_pos rfl⟩⟩
    | succ j=>
      have e1:fr[j]? = some y:=e1
      have e2:(ix.map λ i=>(σ[i]?).join)[j]? = some (some v):=e2
      rw[List.getElem?_map]at e2
      have e4:(fr.map some)[j]? = some (some y):=by rw[List.getElem?_map,e1];rfl
      rw[S.ixs,List.getElem?_map]at e4
      cases q:ix[j]? with
      | none=>rw[q]at e2;cases e2
      | some k=>
        rw[q]at e2 e4
        have e2:(σ[k]?).join=some v:=Option.some.inj e2
        have e4:X.N[k]? = some y:=Option.some.inj e4
        have e5:σ[k]? = some (some v):=by
          cases w:σ[k]? with
          | none=>rw[w]at e2;cases e2
          | some z=>rw[w]at e2;simpa using e2
        have hfx:=List.all_eq_true.mp S.frs y (List.mem_of_getElem? e1)
        have hfx:scope.names.lookup y=some .free:=by simpa using hfx
        have hmem:=PySem.mem_of_lookup hfx
        have hout:=S.outer hmem rfl
        obtain⟨m,hm,hl⟩:=I.loc
        obtain⟨u',r',l⟩:=hl k y v e4 e5 (.inr hout)
        refine⟨u',r',.inr ⟨.inr hfx,?_⟩⟩
        rcases l with⟨kk,_⟩|⟨kk,c,ec,z⟩
        . rcases hout with w|w
          . rw[kk]at w;cases w
          . rw[kk]at w;cases w
        . obtain⟨d,hd⟩:=Option.isSome_iff_exists.mp (E6 (cells:=X.env.cells) (acc:=[]) (.inr hmem))
          have:=co y d hd
          rw[ec]at this;cases this
          exact⟨c,hd,z.keeps hk⟩
  . intro x c e
    obtain⟨v,z⟩:=I.cell x c (co x c e)
    exact⟨v,z.keeps hk⟩
  . intro x c e
    exact I.freeC x c (co x c e)
  . intro p hp;cases hp
  . show(_ :: _:List (Option V)).length=(p :: fr).length
    simp[lenix]
theorem Ly(S:CSc X scope fr ix)(L:LSc scope p)(I:Inv X pins σ H s){A:Around}(hf:A.frames=X.A.frames)(hr:Room 1 A){qual:Str}{f:Addr}{cd ctv pm:Value}{params:Arguments}{body:Expr}{x:V}{u:Value}{tb:TE}{Q:VK}
    (ho:s.heap.get? f=some { cls:=.type "function",data:=.func (kla_fn "<lambda>" qual params body scope (Am X.env.cells scope.names []) pm cd ctv) }) (hcd:s.heap.CodeRec cd qual)
    (hb:∀ us:Value,bindArgs (kla_fn "<lambda>" qual params body scope (Am X.env.cells scope.names []) pm cd ctv) ⟨[us],[]⟩=pure [(p,us)])
    (he:∀ (s:Shared) (H:Hp),PE (lCx X A (p :: fr) qual scope f cd (Am X.env.cells scope.names []) s H) body tb) (r:RelV x u) (h:tb (some x :: ix.map λ i=>(σ[i]?).join) H Q) :
    wpAny (model X.prog X.w) A (call (.ref f) [u]) (EP X pins σ Q) (λ _ _=>False) s:=by
  refine wpAny_call (codeAny_mono (R:=λ res s'=>match res with | .ok (.ret u)=>EP X pins σ Q u s'|_=>False) (kla_callFunE hr.depth ho rfl L.co L.gen rfl hcd ?_) ?_)
  . rw[hb]
    refine wpAny_pure ?_
    refine wpAny_newFunctionEnv L.ne (λ y hy=>by rw[List.mem_singleton]at hy;subst hy;exact L.par) (λ h' hns hsb=>⟨?_,?_⟩) S.kind
    . have hk:∀ b o,s.heap.get? b=some o->h'.get? b=some o:=λ b o e=>(hsb.2 b (Nat.ne_of_lt (Heap.lt_size e))).trans (Heap.get?_push_of_some _ e)
      exact I.nolimit.keeps hk
    . have hk:∀ b o,s.heap.get? b=some o->h'.get? b=some o:=λ b o e=>(hsb.2 b (Nat.ne_of_lt (Heap.lt_size e))).trans (Heap.get?_push_of_some _ e)
      have hns':h'.Ns s.heap.objs.size λ y=>if y=p then some u else none:=by
        have e:(λ y=>([(p,u)]:List (Str × Value)).reverse.lookup y)=λ y=>if y=p then some u else none:=by
          funext y
          simp only[List.reverse_cons,List.reverse_nil,List.nil_append,List.lookup_cons,List.lookup_nil]
          by_cases hy:y=p
          . subst hy;simp
          . have hb':(y == p)=false:=beq_eq_false_iff_ne.mpr hy
            simp[hb',hy]
        rw[<- e];exact hns
      have J:=To (t':=s.toks + 1) (qual:=qual) (f:=f) (cd:=cd) S L I hf hr.hd hk hns' r
      refine kla_codeExpr (wpAny_mono (he s H [] _ _ H Q J h) (λ v s' hv=>?_) λ _ _ z=>z.elim)
      obtain⟨y,H',J',ry,q⟩:=hv
      obtain⟨hh,g,d,t,os'⟩:=s'
      obtain rfl:os'=s.os:=J'.os
      exact⟨y,H',I.call (h':=hh) (g':=g) (d':=d) (t':=t) (ch:=[]) J'.base J'.hok J'.bare (λ b z=>absurd z (by simp)),ry,q⟩
  . intro res s' hq
    cases res with
    | error e=>exact hq
    | ok fl=>
      cases fl with
      | ret u=>exact hq
      | next=>exact hq
      | brk=>exact hq
      | cont=>exact hq
end
end L2
namespace L2
open PySem PySem.Spec PyProof.Rows PySem.W
noncomputable def cdF(c:Addr)(q:Str):Heap->Prop:=λ h=>h.CodeRec (.ref c) q
noncomputable def GB(H:Hp)(q:Str)(pos:Pos)(ps:Array Value):Prop:=ps=#[] ∨ ∃ c,ps=#[rawInt pos.line,rawInt pos.col,.ref c]/\H c=some (.ext (cdF c q))
noncomputable def TabStep(P:Addr)(q:Str)(pos:Pos)(H H':Hp):Prop:=H'=H ∨ ∃ c,H c=none/\c ≠ P/\H'=upd (upd H P (.tbl #[rawInt pos.line,rawInt pos.col,.ref c])) c (.ext (cdF c q))
structure LamAt(X:Cx)(c P:Addr):Prop where
  code:X.env.code=.ref c
  hd:CodeHd X.base c P
  bl:X.base.BuiltinsAt X.mg P
section
variable{X:Cx}{pins:List (Addr × Obj)}{σ:St}{H:Hp}{s:Shared}{c P:Addr}{scope:Scope}{fr:List Str}{ix:List Nat}
theorem Tn(I:Inv X pins σ H s){q:Str}{ps:Array Value}{ps':Array Value}(hP:H P=some (.tbl ps)){c':Addr}{h':Heap}{t':Nat}(hx:∀ b o,b ≠ P->s.heap.get? b=some o->h'.get? b=some o)(hc:s.heap.objs.size <= c')
    (hrec:h'.CodeRec (.ref c') q) (htb:h'.get? P=some (tabObj (ps ++ ps'))):Inv X pins σ (upd (upd H P (.tbl (ps ++ ps'))) c' (.ext (cdF c' q))) { s with heap:=h',toks:=t' }:=by
  have hcn:H c'=none:=I.hok.fresh hc
  have hPc:P ≠ c':=Af hP hcn
  have nP:∀ b,H b=none->b ≠ P:=λ b n z=>by subst z;rw[hP]at n;cases n
  have other:∀ b,b ≠ P->b ≠ c'->upd (upd H P (.tbl (ps ++ ps'))) c' (.ext (cdF c' q)) b=H b:=λ b h1 h2=>by rw[AF h2,AF h1]
  have ne':∀ b u,H b=some u->b ≠ c':=λ b u e=>Af e hcn
  refine I.un (h':=h') (t':=t') ⟨λ b o e n _ _=>hx b o (nP b n) e,λ b o e n _ _=>⟨o.slots,hx b o (nP b n) e⟩,λ b o e n _=>?_,λ b o e _=>?_,λ b xs e=>?_,λ b o u e=>?_,λ b qs e=>?_⟩ λ b u e=>?_
  . rw[other b (nP b n) (Nat.ne_of_lt (Nat.lt_of_lt_of_le (Heap.lt_size e) hc))];exact n
  . by_cases z:b=P
    . subst z;exact⟨_,htb⟩
    . exact⟨o,hx b o z e⟩
  . rw[other b (λ z=>by subst z;rw[hP]at e;cases e) (ne' b _ e)];exact e
  . rw[other b (λ z=>by subst z;rw[hP]at e;cases e) (ne' b _ e)];exact e
  . by_cases z:b=P
    . subst z
      rw[hP]at e;cases e
      exact⟨ps',by rw[AF hPc,AR]⟩
    . exact⟨#[],by rw[other b z (ne' b _ e),e];simp⟩
  . by_cases z:b=c'
    . subst z
      rw[AR]at e;cases e
      obtain⟨c0,o,vs,t,e0,r⟩:=id hrec
      cases e0
      refine⟨hrec,⟨o,r.1⟩,λ h1 h2 q1 k=>?_⟩
      obtain⟨c1,o1,vs1,t1,e1,g1,r1⟩:=q1
      cases e1
      exact⟨_,o1,vs1,t1,rfl,k _ g1,r1⟩
    . by_cases z2:b=P
      . subst z2
        rw[AF hPc,AR]at e;cases e
        exact htb
      . rw[other b z2 z]at e
        refine(I.hok b u e).stay (λ d v hd q=>hx d v ?_ q) (λ d q=>?_) λ d xs q=>?_
        . rcases hd with rfl|hd
          . exact z2
          . intro y;subst y;rw[hP]at hd;cases hd
        . rw[other d (λ y=>by subst y;rw[hP]at q;cases q) (ne' d _ q)];exact q
        . rw[other d (λ y=>by subst y;rw[hP]at q;cases q) (ne' d _ q)];exact q
structure Made(X:Cx)(scope:Scope)(params:Arguments)(body:Expr)(P:Addr)(q:Str)(pos:Pos)(s:Shared)(H H':Hp)(f:Addr)(cd ctv:Value)(s':Shared):Prop where
  fn:s'.heap.get? f=some { cls:=.type "function",data:=.func (kla_fn "<lambda>" q params body scope (Am X.env.cells scope.names []) ((X.mg "__name__").getD .none) cd ctv) }
  cdc:∃ c,cd=.ref c/\H' c=some (.ext (cdF c q))
  step:TabStep P q pos H H'
  new:s.heap.objs.size <= f
  fre:H' f=none
theorem Lx(S:CSc X scope fr ix)(LA:LamAt X c P)(I:Inv X pins σ H s){A:Around}{E:Value->Shared->Prop}{params:Arguments}{body:Expr}{pos:Pos}{ps:Array Value}{Q:Value->Shared->Prop}(hdef:defaultsOf params X.env=([],[]))
    (hP:H P=some (.tbl ps)) (hg:GB H (X.env.qual ++ "<lambda>") pos ps)
    (h:∀ f cd ctv H' s',Inv X pins σ H' s'->Made X scope params body P (X.env.qual ++ "<lambda>") pos s H H' f cd ctv s'->Q (.ref f) s') :
    wpAny (model X.prog X.w) A (eval (.Lambda params body scope pos) X.env) Q E s:=by
  have hcl:closureFor scope X.env=pure (Am X.env.cells scope.names []):=FR (S.clos I.ok)
  have hns:=I.mod.glob.keeps I.bk
  have hb:=LA.bl.keeps I.bk
  have hcd:=LA.hd.keeps I.bk
  have hobj:s.heap.get? P=some (tabObj ps):=I.hok P _ hP
  have hgP:mainGlobals ≠ P:=λ z=>by
    obtain⟨o,es,ep,e,hd,_⟩:=hns
    rw[z,hobj]at e;cases e;cases hd
  refine kla_eval hdef ?_
  rcases hg with rfl|⟨c',rfl,hc'⟩
  . refine kla_makeFunction hcl I.ok.glob hns LA.code hcd hobj trivial rfl hgP hb λ c' ctv h' tk hx hge hlt hrec htb=>?_
    have hx':∀ b o,b ≠ P->s.heap.get? b=some o->(h'.push (kla_obj "<lambda>" (X.env.qual ++ "<lambda>") params body scope (Am X.env.cells scope.names []) ((X.mg "__name__").getD .none) c' ctv)).get? b=some o:=λ b o n e=>Heap.get?_push_of_some _ (hx b o n e)
    have J:=Tn (t':=tk) I hP hx' hge (hrec.push _) (Heap.get?_push_of_some _ htb)
    refine h _ _ ctv _ _ J ⟨Heap.get?_push_size _ rfl,⟨c',rfl,AR⟩,.inr ⟨c',I.hok.fresh hge,(Af hP (I.hok.fresh hge)).symm,?_⟩,?_,?_⟩
    . simp
    . exact Nat.le_trans hge (Nat.le_of_lt hlt)
    . have hs:s.heap.objs.size <= h'.objs.size:=Nat.le_trans hge (Nat.le_of_lt hlt)
      rw[AF (Nat.ne_of_gt hlt),AF (Nat.ne_of_gt (Nat.lt_of_lt_of_le (Heap.lt_size hobj) hs))]
      exact I.hok.fresh hs
  . have hrec:s.heap.CodeRec (.ref c') (X.env.qual ++ "<lambda>"):=(I.hok c' _ hc').1
    have hf:codeAmong pos (#[rawInt pos.line,rawInt pos.col,Value.ref c']:Array Value).toList=some (.ref c'):=by simp[codeAmong,rawInt]
    refine kla_makeFunctionHit hcl I.ok.glob hns LA.code hcd hobj (by simp[TriplesOk,rawInt]) hf hb λ ctv h' tk hk hsz=>?_
    have hk':∀ b o,s.heap.get? b=some o->(h'.push { cls:=.type "function",data:=.func (kla_fn "<lambda>" (X.env.qual ++ "<lambda>") params body scope (Am X.env.cells scope.names []) ((X.mg "__name__").getD .none) (.ref c') ctv) }).get? b=some o:=λ b o e=>Heap.get?_push_of_some _ (hk b o e)
    exact h _ _ ctv _ _ (I.kept (t':=tk) hk') ⟨Heap.get?_push_size _ rfl,⟨c',rfl,hc'⟩,.inl rfl,hsz,I.hok.fresh hsz⟩
end
end L2
namespace L2
open PySem PySem.Spec PyProof.Rows
inductive I where
  | non|bl (b:Bool)|int (i:Int)|str (x:Str)|tup (ds:List I)
inductive D where
  | im (i:I)|mu (n:Nat)|tm (ds:List D)|ro (ns:List Int)
inductive MO where
  | lst (ds:List D)|dic (kvs:List (Key × D))
noncomputable abbrev Hd:=List MO
noncomputable abbrev Ls:=List (Option D)
noncomputable def RoL(K:PySem.W.Frag)(H:Hp)(a:Addr)(xs:List V):Prop:=(∃ o,H a=some (.frz o (.lst xs))) ∨
  ∃ (o:Obj) (its:Array Value) (n:Nat),K.lookup a=some o/\o.cls=.type "list"/\o.dict=none/\o.data=.seq its n/\its.size <= sizeLine/\Vals xs its.toList
theorem RoL.sq{K:PySem.W.Frag}{H:Hp}{a:Addr}{xs:List V}(h:RoL K H a xs):SqL K H a xs:=by
  rcases h with⟨o,h⟩|h
  . exact .inl (.inr ⟨o,h⟩)
  . exact .inr h
theorem RoL.grow{K:PySem.W.Frag}{H H':Hp}{a:Addr}{xs:List V}(g:Grow H H')(h:RoL K H a xs):RoL K H' a xs:=by
  rcases h with⟨o,h⟩|h
  . exact .inl ⟨o,g.frz _ _ _ h⟩
  . exact .inr h
noncomputable def DP(n:Nat):Prop:=n <= sizeLine
noncomputable def HD(n:Nat):Prop:=n < sizeLine
noncomputable def G5(i j:Int):Prop:=(-(2 ^ 64) < i/\i < 2 ^ 64) ∨ (-(2 ^ 64) < j/\j < 2 ^ 64)
noncomputable def O2(i j:Int):Prop:=0 <= j/\j <= 1000000/\i.natAbs < 2 ^ 64
noncomputable def Jl(j:Int):Prop:=0 < j/\j < 1073741824
noncomputable def EN(j:Int):Prop:=0 < j
noncomputable def Jx(j:Int):Prop:=-(2 ^ 62) <= j/\j < 2 ^ 62
noncomputable def Nl(i j:Int):Prop:=(-(2 ^ 62) <= i/\i < 2 ^ 62)/\-(2 ^ 62) <= j/\j < 2 ^ 62
noncomputable def Kt(j:Int):Prop:=j < 2 ^ 24/\-(2 ^ 62) <= j
noncomputable def Rr(i j:Int):Prop:=(-(2 ^ 62) <= i/\i < 2 ^ 62)/\(-(2 ^ 62) <= j/\j < 2 ^ 62)/\(j - i).toNat <= 2 ^ 24
theorem B7{n:Nat}(h:n <= 1000000):DP n:=Nat.le_trans h (by rw[sizeLine_eq];decide)
theorem EV{n:Nat}(h:n < 1000000):HD n:=Nat.lt_of_lt_of_le h (by rw[sizeLine_eq];decide)
theorem Et{i j:Int}(a:-1000000000000 <= i)(b:i <= 1000000000000):G5 i j:=.inl ⟨by omega,by omega⟩
theorem IE{j:Int}(a:-1000000000000 <= j)(b:j <= 1000000000000):Jx j:=⟨by omega,by omega⟩
theorem SY{i j:Int}(a:-1000000000000 <= i)(b:i <= 1000000000000)(c:-1000000000000 <= j)(d:j <= 1000000000000):Nl i j:=⟨⟨by omega,by omega⟩,by omega,by omega⟩
theorem QU{j:Int}(a:-1000000000000 <= j)(b:j <= 1000000):Kt j:=⟨by omega,by omega⟩
section
variable(K:PySem.W.Frag)
mutual
noncomputable def RI(H:Hp):I->V->Prop
  | .non,v=>v=.non
  | .bl b,v=>v=.bl b
  | .int i,v=>v=.int i
  | .str x,v=>v=.str x
  | .tup ds,v=>∃ a xs,v=.ref a/\SqT K H a xs/\RIs H ds xs
noncomputable def RIs(H:Hp):List I->List V->Prop
  | [],xs=>xs=[]
  | d :: ds,xs=>∃ x r,xs=x :: r/\RI H d x/\RIs H ds r
end
mutual
noncomputable def RD(ρ:List Addr)(H:Hp):D->V->Prop
  | .im i,v=>RI K H i v
  | .mu n,v=>∃ a,ρ[n]? = some a/\v=.ref a
  | .tm ds,v=>∃ a xs,v=.ref a/\SqT K H a xs/\RDs ρ H ds xs
  | .ro ns,v=>∃ a,v=.ref a/\RoL K H a (ns.map V.int)
noncomputable def RDs(ρ:List Addr)(H:Hp):List D->List V->Prop
  | [],xs=>xs=[]
  | d :: ds,xs=>∃ x r,xs=x :: r/\RD ρ H d x/\RDs ρ H ds r
end
noncomputable def RKs(ρ:List Addr)(H:Hp):List (Key × D)->List (Key × V)->Prop
  | [],xs=>xs=[]
  | d :: ds,xs=>∃ x r,xs=x :: r/\x.1=d.1/\RD K ρ H d.2 x.2/\RKs ρ H ds r
noncomputable def RC(ρ:List Addr)(H:Hp):MO->HO->Prop
  | .lst ds,o=>∃ xs,o=.lst xs/\RDs K ρ H ds xs
  | .dic kvs,o=>∃ kv,o=.dK kv/\RKs K ρ H kvs kv
noncomputable def Kr:List Value->List (Addr × Str × Pos)
  | .ref P :: .str q _ :: .int l _ :: .int c _ :: r=>(P,q,⟨l.toNat,c.toNat,0,0⟩) :: Kr r
  | _=>[]
noncomputable def Vp(o:Obj):List (Addr × Str × Pos):=match o.cls,o.data with
  | .str _ _,.fields vs=>Kr vs.toList
  | _,_=>[]
noncomputable def Ed(K:PySem.W.Frag):List (Addr × Str × Pos):=match K.getLast? with
  | some p=>Vp p.2
  | none=>[]
noncomputable def TabsOk(K:PySem.W.Frag)(H:Hp):Prop:=∀ x ∈ Ed K,∃ ps,H x.1=some (.tbl ps)/\GB H x.2.1 x.2.2 ps
structure RH(ρ:List Addr)(H:Hp)(hd:Hd):Prop where
  len:ρ.length=hd.length
  nd:ρ.Nodup
  tabs:TabsOk K H
  ob:∀ (n:Nat) (o:MO) (a:Addr),hd[n]? = some o->ρ[n]? = some a->∃ ho,H a=some ho/\RC K ρ H o ho
structure RL(ρ:List Addr)(H:Hp)(ls:Ls)(σ:St):Prop where
  len:ls.length=σ.length
  ob:∀ (i:Nat) (d:D),ls[i]? = some (some d)->∃ v,σ[i]? = some (some v)/\RD K ρ H d v
end
structure Ext(ρ:List Addr)(H:Hp)(ρ':List Addr)(H':Hp):Prop where
  pre:∃ r,ρ'=ρ ++ r/\∀ b ∈ r,H b=none
  keep:∀ b o,H b=some o->b ∉ ρ->(∀ ps,o ≠ .tbl ps)->H' b=some o
  tab:∀ b ps,H b=some (.tbl ps)->∃ ps',H' b=some (.tbl ps')
theorem nt{o:HO}(h:match o with | .tbl _=>False|_=>True:=by trivial):∀ ps,o ≠ .tbl ps:=λ ps e=>by subst e;exact h
theorem TabsOk.upd{K:PySem.W.Frag}{H:Hp}(t:TabsOk K H){a:Addr}{ho:HO}(h1:∀ ps,H a ≠ some (.tbl ps))(h2:∀ φ,H a ≠ some (.ext φ)):TabsOk K (upd H a ho):=λ x hx=>by
  obtain⟨ps,e,g⟩:=t x hx
  have ne:x.1 ≠ a:=λ z=>h1 ps (by rw[<- z];exact e)
  refine⟨ps,by rw[AF ne];exact e,?_⟩
  rcases g with g|⟨c,g1,g2⟩
  . exact .inl g
  . have nc:c ≠ a:=λ z=>h2 _ (by rw[<- z];exact g2)
    exact .inr ⟨c,g1,by rw[AF nc];exact g2⟩
section
variable{K:PySem.W.Frag}{ρ ρ' ρ1 ρ2:List Addr}{H H' H1 H2:Hp}{hd hd' hd1:Hd}
mutual
theorem RI.grow(g:Grow H H'):∀ {i:I} {v:V},RI K H i v->RI K H' i v
  | .non,v,h=>by simpa only[RI]using h
  | .bl b,v,h=>by simpa only[RI]using h
  | .int b,v,h=>by simpa only[RI]using h
  | .str b,v,h=>by simpa only[RI]using h
  | .tup ds,v,h=>by
    simp only[RI]at h ⊢
    obtain⟨a,xs,e,q,r⟩:=h
    exact⟨a,xs,e,g.sq q,RIs.grow g r⟩
theorem RIs.grow(g:Grow H H'):∀ {i:List I} {v:List V},RIs K H i v->RIs K H' i v
  | [],v,h=>by simpa only[RIs]using h
  | d :: ds,v,h=>by
    simp only[RIs]at h ⊢
    obtain⟨x,r,e,q,z⟩:=h
    exact⟨x,r,e,q.grow g,RIs.grow g z⟩
end
theorem RH.mut(h:RH K ρ H hd){a:Addr}(m:a ∈ ρ):(∃ xs,H a=some (.lst xs)) ∨ ∃ kv,H a=some (.dK kv):=by
  obtain⟨n,e⟩:=List.mem_iff_getElem?.mp m
  have hn:n < hd.length:=by rw[<- h.len];exact(List.getElem?_eq_some_iff.mp e).1
  obtain⟨ho,e1,e2⟩:=h.ob n hd[n] a (by simp[hn]) e
  cases q:hd[n]with
  | lst ds=>rw[q]at e2;obtain⟨xs,rfl,_⟩:=e2;exact .inl ⟨xs,e1⟩
  | dic ds=>rw[q]at e2;obtain⟨xs,rfl,_⟩:=e2;exact .inr ⟨xs,e1⟩
theorem RH.tup_out(h:RH K ρ H hd){a:Addr}{xs:List V}(e:H a=some (.tup xs)):a ∉ ρ:=λ m=>by
  rcases h.mut m with⟨y,z⟩|⟨y,z⟩ <;> (rw[e]at z;cases z)
theorem RH.frz_out(h:RH K ρ H hd){a:Addr}{o:Obj}{u:HO}(e:H a=some (.frz o u)):a ∉ ρ:=λ m=>by
  rcases h.mut m with⟨y,z⟩|⟨y,z⟩ <;> (rw[e]at z;cases z)
theorem Ext.grow(e:Ext ρ H ρ' H')(h:RH K ρ H hd):Grow H H':=⟨λ b xs q=>e.keep b _ q (h.tup_out q) nt,λ b o u q=>e.keep b _ q (h.frz_out q) nt⟩
theorem Ext.refl:Ext ρ H ρ H:=⟨⟨[],by simp,by simp⟩,λ _ _ h _ _=>h,λ _ ps h=>⟨ps,h⟩⟩
theorem Ext.trans(e:Ext ρ H ρ1 H1)(h0:RH K ρ1 H1 hd1)(e2:Ext ρ1 H1 ρ2 H2):Ext ρ H ρ2 H2:=by
  obtain⟨r1,rfl,f1⟩:=e.pre
  obtain⟨r2,rfl,f2⟩:=e2.pre
  refine⟨⟨r1 ++ r2,by simp,λ b m=>?_⟩,λ b o q n t=>?_,λ b ps q=>?_⟩
  . rcases List.mem_append.mp m with m|m
    . exact f1 b m
    . have z:=f2 b m
      cases q:H b with
      | none=>rfl
      | some o=>
        by_cases n:b ∈ ρ
        . rcases h0.mut (List.mem_append_left r1 n)with⟨y,w⟩|⟨y,w⟩ <;> (rw[z]at w;cases w)
        . by_cases t:∃ ps,o=.tbl ps
          . obtain⟨ps,rfl⟩:=t
            obtain⟨ps',this⟩:=e.tab b ps q
            rw[z]at this;cases this
          . have:=e.keep b o q n λ ps y=>t ⟨ps,y⟩
            rw[z]at this;cases this
  . refine e2.keep b o (e.keep b o q n t) (λ m=>?_) t
    rcases List.mem_append.mp m with m|m
    . exact n m
    . have:=f1 b m;rw[q]at this;cases this
  . obtain⟨ps',q'⟩:=e.tab b ps q
    exact e2.tab b ps' q'
mutual
theorem RD.mono(g:Grow H H')(r:List Addr):∀ {d:D} {v:V},RD K ρ H d v->RD K (ρ ++ r) H' d v
  | .im i,v,h=>by simp only[RD]at h ⊢;exact h.grow g
  | .mu n,v,h=>by
    simp only[RD]at h ⊢
    obtain⟨a,e,q⟩:=h
    exact⟨a,by rw[List.getElem?_append_left (List.getElem?_eq_some_iff.mp e).1];exact e,q⟩
  | .tm ds,v,h=>by
    simp only[RD]at h ⊢
    obtain⟨a,xs,e,q,z⟩:=h
    exact⟨a,xs,e,g.sq q,RDs.mono g r z⟩
  | .ro ns,v,h=>by
    simp only[RD]at h ⊢
    obtain⟨a,e,q⟩:=h
    exact⟨a,e,q.grow g⟩
theorem RDs.mono(g:Grow H H')(r:List Addr):∀ {d:List D} {v:List V},RDs K ρ H d v->RDs K (ρ ++ r) H' d v
  | [],v,h=>by simpa only[RDs]using h
  | d :: ds,v,h=>by
    simp only[RDs]at h ⊢
    obtain⟨x,r',e,q,z⟩:=h
    exact⟨x,r',e,q.mono g r,RDs.mono g r z⟩
end
theorem RKs.mono(g:Grow H H')(r:List Addr):∀ {d:List (Key × D)} {v:List (Key × V)},RKs K ρ H d v->RKs K (ρ ++ r) H' d v
  | [],v,h=>by simpa only[RKs]using h
  | d :: ds,v,h=>by
    simp only[RKs]at h ⊢
    obtain⟨x,r',e,q1,q,z⟩:=h
    exact⟨x,r',e,q1,q.mono g r,RKs.mono g r z⟩
theorem RC.mono(g:Grow H H')(r:List Addr){o:MO}{ho:HO}(h:RC K ρ H o ho):RC K (ρ ++ r) H' o ho:=by
  cases o with
  | lst ds=>obtain⟨xs,e,q⟩:=h;exact⟨xs,e,q.mono g r⟩
  | dic ds=>obtain⟨xs,e,q⟩:=h;exact⟨xs,e,q.mono g r⟩
theorem RD.ext(h:RH K ρ H hd)(e:Ext ρ H ρ' H'){d:D}{v:V}(q:RD K ρ H d v):RD K ρ' H' d v:=by
  obtain⟨r,rfl,_⟩:=e.pre
  exact q.mono (e.grow h) r
theorem RDs.ext(h:RH K ρ H hd)(e:Ext ρ H ρ' H'){d:List D}{v:List V}(q:RDs K ρ H d v):RDs K ρ' H' d v:=by
  obtain⟨r,rfl,_⟩:=e.pre
  exact q.mono (e.grow h) r
theorem RL.ext(h:RH K ρ H hd)(e:Ext ρ H ρ' H'){ls:Ls}{σ:St}(q:RL K ρ H ls σ):RL K ρ' H' ls σ:=
  ⟨q.len,λ i d z=>let ⟨v,a,b⟩:=q.ob i d z;⟨v,a,b.ext h e⟩⟩
theorem RDs.len:∀ {ds:List D} {xs:List V},RDs K ρ H ds xs->xs.length=ds.length
  | [],xs,h=>by simp only[RDs]at h;rw[h];rfl
  | d :: ds,xs,h=>by
    simp only[RDs]at h
    obtain⟨x,r,rfl,_,z⟩:=h
    simp[RDs.len z]
theorem RDs.get:∀ {ds:List D} {xs:List V} {i:Nat} {d:D},RDs K ρ H ds xs->ds[i]? = some d->∃ x,xs[i]? = some x/\RD K ρ H d x
  | [],xs,i,d,h,e=>by simp at e
  | d :: ds,xs,0,e,h,q=>by
    simp only[RDs]at h
    obtain⟨x,r,rfl,z,_⟩:=h
    simp at q;subst q
    exact⟨x,rfl,z⟩
  | d :: ds,xs,i + 1,e,h,q=>by
    simp only[RDs]at h
    obtain⟨x,r,rfl,_,z⟩:=h
    obtain⟨y,a,b⟩:=RDs.get (i:=i) z (by simpa using q)
    exact⟨y,by simpa using a,b⟩
theorem RDs.nil:RDs K ρ H [] []:=by simp[RDs]
theorem RDs.cons{d:D}{v:V}{ds:List D}{vs:List V}(h:RD K ρ H d v)(t:RDs K ρ H ds vs):RDs K ρ H (d :: ds) (v :: vs):=by
  simp only[RDs];exact⟨v,vs,rfl,h,t⟩
theorem RDs.app:∀ {ds es:List D} {xs ys:List V},RDs K ρ H ds xs->RDs K ρ H es ys->RDs K ρ H (ds ++ es) (xs ++ ys)
  | [],es,xs,ys,h,t=>by simp only[RDs]at h;subst h;simpa using t
  | d :: ds,es,xs,ys,h,t=>by
    simp only[RDs]at h
    obtain⟨x,r,rfl,z,q⟩:=h
    simp only[List.cons_append]
    exact .cons z (q.app t)
theorem RDs.drop:∀ {ds:List D} {xs:List V} (n:Nat),RDs K ρ H ds xs->RDs K ρ H (ds.drop n) (xs.drop n)
  | ds,xs,0,h=>by simpa using h
  | [],xs,n + 1,h=>by simp only[RDs]at h;subst h;simp[RDs]
  | d :: ds,xs,n + 1,h=>by
    simp only[RDs]at h
    obtain⟨x,r,rfl,z,q⟩:=h
    simpa using q.drop n
theorem RDs.take:∀ {ds:List D} {xs:List V} (n:Nat),RDs K ρ H ds xs->RDs K ρ H (ds.take n) (xs.take n)
  | ds,xs,0,h=>by simp[RDs]
  | [],xs,n + 1,h=>by simp only[RDs]at h;subst h;simp[RDs]
  | d :: ds,xs,n + 1,h=>by
    simp only[RDs]at h
    obtain⟨x,r,rfl,z,q⟩:=h
    simpa using RDs.cons z (q.take n)
theorem RIs.ds:∀ {is:List I} {xs:List V},RIs K H is xs->RDs K ρ H (is.map D.im) xs
  | [],xs,h=>by simpa only[RIs,RDs,List.map_nil]using h
  | i :: is,xs,h=>by
    simp only[RIs]at h
    obtain⟨x,r,rfl,z,q⟩:=h
    exact .cons (by simpa only[RD]using z) q.ds
theorem RDs.is:∀ {is:List I} {xs:List V},RDs K ρ H (is.map D.im) xs->RIs K H is xs
  | [],xs,h=>by simpa only[RIs,RDs,List.map_nil]using h
  | i :: is,xs,h=>by
    simp only[List.map_cons,RDs]at h
    obtain⟨x,r,rfl,z,q⟩:=h
    simp only[RIs]
    exact⟨x,r,rfl,by simpa only[RD]using z,q.is⟩
theorem RH.put(h:RH K ρ H hd){n:Nat}{a:Addr}(hn:ρ[n]? = some a){o:MO}{ho:HO}(c:RC K ρ H o ho):RH K ρ (upd H a ho) (hd.set n o)/\Ext ρ H ρ (upd H a ho):=by
  have ha:=h.mut (List.mem_of_getElem? hn)
  have n1:∀ ps,H a ≠ some (.tbl ps):=λ ps e=>by rcases ha with⟨y,z⟩|⟨y,z⟩ <;> (rw[e]at z;cases z)
  have n2:∀ φ,H a ≠ some (.ext φ):=λ ps e=>by rcases ha with⟨y,z⟩|⟨y,z⟩ <;> (rw[e]at z;cases z)
  have ex:Ext ρ H ρ (upd H a ho):=⟨⟨[],by simp,by simp⟩,λ b o q m _=>by
    have:b ≠ a:=λ z=>m (by rw[z];exact List.mem_of_getElem? hn)
    rw[AF this];exact q,λ b ps q=>⟨ps,(AF (show b ≠ a from λ z=>n1 ps (by rw[<- z];exact q))).trans q⟩⟩
  have gr:=ex.grow h
  refine⟨⟨by simp[h.len],h.nd,h.tabs.upd n1 n2,λ m o' b e1 e2=>?_⟩,ex⟩
  have hm:m < hd.length:=by rw[<- h.len];exact(List.getElem?_eq_some_iff.mp e2).1
  by_cases hmn:m=n
  . subst hmn
    rw[hn]at e2;cases e2
    rw[List.getElem?_set_self hm]at e1
    cases e1
    exact⟨ho,AR,by simpa using c.mono gr []⟩
  . rw[List.getElem?_set_ne (λ z=>hmn z.symm)]at e1
    obtain⟨ho',q1,q2⟩:=h.ob m o' b e1 e2
    have:b ≠ a:=λ z=>by
      subst z
      have l1:=(List.getElem?_eq_some_iff.mp e2).1
      have l2:=(List.getElem?_eq_some_iff.mp hn).1
      exact hmn ((List.getElem?_inj l1 h.nd).mp (e2.trans hn.symm))
    exact⟨ho',by rw[AF this];exact q1,by simpa using q2.mono gr []⟩
theorem RH.lst(h:RH K ρ H hd){n:Nat}{a:Addr}{ds:List D}(hn:ρ[n]? = some a)(e:hd[n]? = some (.lst ds)):∃ xs,H a=some (.lst xs)/\RDs K ρ H ds xs:=by
  obtain⟨ho,q,xs,rfl,r⟩:=h.ob n _ a e hn
  exact⟨xs,q,r⟩
theorem RH.dic(h:RH K ρ H hd){n:Nat}{a:Addr}{ds:List (Key × D)}(hn:ρ[n]? = some a)(e:hd[n]? = some (.dic ds)):∃ xs,H a=some (.dK xs)/\RKs K ρ H ds xs:=by
  obtain⟨ho,q,xs,rfl,r⟩:=h.ob n _ a e hn
  exact⟨xs,q,r⟩
theorem RH.hid(h:RH K ρ H hd){a:Addr}(ha:H a=none){ho:HO}:RH K ρ (upd H a ho) hd/\Ext ρ H ρ (upd H a ho):=by
  have out:a ∉ ρ:=λ m=>by rcases h.mut m with⟨y,z⟩|⟨y,z⟩ <;> (rw[ha]at z;cases z)
  have ex:Ext ρ H ρ (upd H a ho):=⟨⟨[],by simp,by simp⟩,λ b o q n _=>by rw[AF (Af q ha)];exact q,λ b ps q=>⟨ps,by rw[AF (Af q ha)];exact q⟩⟩
  have gr:=ex.grow h
  refine⟨⟨h.len,h.nd,h.tabs.upd (by simp[ha]) (by simp[ha]),λ m o' b e1 e2=>?_⟩,ex⟩
  obtain⟨ho',q1,q2⟩:=h.ob m o' b e1 e2
  exact⟨ho',by rw[AF (Af q1 ha)];exact q1,by simpa using q2.mono gr []⟩
theorem RH.hput(h:RH K ρ H hd){a:Addr}(out:a ∉ ρ){xs:List V}{ho:HO}(hl:H a=some (.lst xs)):RH K ρ (upd H a ho) hd:=by
  have gr:Grow H (upd H a ho):=Grow.refl.put (.lst hl)
  refine⟨h.len,h.nd,h.tabs.upd (by simp[hl]) (by simp[hl]),λ m o' b e1 e2=>?_⟩
  obtain⟨ho',q1,q2⟩:=h.ob m o' b e1 e2
  have:b ≠ a:=λ z=>out (by rw[<- z];exact List.mem_of_getElem? e2)
  exact⟨ho',by rw[AF this];exact q1,by simpa using q2.mono gr []⟩
end
end L2
namespace L2
open PySem PySem.Spec PyProof.Rows
noncomputable abbrev ME:=Ls->Hd->Option (D × Hd)
noncomputable abbrev MT:=Ls->Hd->Option (Bool × Hd)
noncomputable abbrev MA:=Ls->Hd->Option (List D × Hd)
inductive Fl where
  | nx (ls:Ls)|rt (d:D)|bk (ls:Ls)|ct (ls:Ls)
noncomputable abbrev MS:=Ls->Hd->Option (Fl × Hd)
section
variable(K:PySem.W.Frag)
noncomputable def RE(t:TE)(m:ME):Prop:=∀ (ρ:List Addr) (σ:St) (H:Hp) (hd:Hd) (ls:Ls) (Q:VK) (d:D) (hd':Hd),RH K ρ H hd->RL K ρ H ls σ->m ls hd=some (d,hd') ->
  (∀ ρ' H' v,Ext ρ H ρ' H'->RH K ρ' H' hd'->RD K ρ' H' d v->Q v H')->t σ H Q
noncomputable def RT(t:TT)(m:MT):Prop:=∀ (ρ:List Addr) (σ:St) (H:Hp) (hd:Hd) (ls:Ls) (Q:Bool->Hp->Prop) (d:Bool) (hd':Hd),RH K ρ H hd->RL K ρ H ls σ->m ls hd=some (d,hd') ->
  (∀ ρ' H',Ext ρ H ρ' H'->RH K ρ' H' hd'->Q d H')->t σ H Q
noncomputable def RA(t:TA)(m:MA):Prop:=∀ (ρ:List Addr) (σ:St) (H:Hp) (hd:Hd) (ls:Ls) (Q:List V->Hp->Prop) (d:List D) (hd':Hd),RH K ρ H hd->RL K ρ H ls σ->m ls hd=some (d,hd') ->
  (∀ ρ' H' v,Ext ρ H ρ' H'->RH K ρ' H' hd'->RDs K ρ' H' d v->Q v H')->t σ H Q
noncomputable def RN(t:TE)(m:MA):Prop:=∀ (ρ:List Addr) (σ:St) (H:Hp) (hd:Hd) (ls:Ls) (Q:VK) (d:List D) (hd':Hd),RH K ρ H hd->RL K ρ H ls σ->m ls hd=some (d,hd') ->
  (∀ ρ' H' a xs,Ext ρ H ρ' H'->RH K ρ' H' hd'->H a=none->a ∉ ρ'->H' a=some (.lst xs)->RDs K ρ' H' d xs->Q (.ref a) H')->t σ H Q
noncomputable def Wa(E:Ends)(ρ:List Addr)(H:Hp):Fl->Prop
  | .nx ls=>∀ σ,RL K ρ H ls σ->E.nx σ H
  | .bk ls=>∀ σ,RL K ρ H ls σ->E.bk σ H
  | .ct ls=>∀ σ,RL K ρ H ls σ->E.ct σ H
  | .rt d=>∀ v,RD K ρ H d v->E.rt v H
noncomputable def RS(t:TS)(m:MS):Prop:=∀ (ρ:List Addr) (σ:St) (H:Hp) (hd:Hd) (ls:Ls) (E:Ends) (f:Fl) (hd':Hd),RH K ρ H hd->RL K ρ H ls σ->m ls hd=some (f,hd') ->
  (∀ ρ' H',Ext ρ H ρ' H'->RH K ρ' H' hd'->Wa K E ρ' H' f)->t E σ H
noncomputable def RB(r:R2)(f:D->D->Hd->Option (D × Hd)):Prop:=∀ (ρ:List Addr) (H:Hp) (hd:Hd) (d e:D) (v u:V) (Q:VK) (z:D) (hd':Hd),RH K ρ H hd->RD K ρ H d v->RD K ρ H e u->f d e hd=some (z,hd') ->
  (∀ ρ' H' w,Ext ρ H ρ' H'->RH K ρ' H' hd'->RD K ρ' H' z w->Q w H')->r v u H Q
noncomputable def RF(r:List V->Hp->VK->Prop)(f:List D->Hd->Option (D × Hd)):Prop:=∀ (ρ:List Addr) (H:Hp) (hd:Hd) (ds:List D) (vs:List V) (Q:VK) (z:D) (hd':Hd),RH K ρ H hd->RDs K ρ H ds vs->f ds hd=some (z,hd') ->
  (∀ ρ' H' w,Ext ρ H ρ' H'->RH K ρ' H' hd'->RD K ρ' H' z w->Q w H')->r vs H Q
noncomputable def RG(tp:Bool)(r:List V->Hp->VK->Prop)(g:List D->Option D):Prop:=∀ (ρ:List Addr) (H:Hp) (hd:Hd) (a:Addr) (xs:List V) (ds:List D) (Q:VK) (z:D),RH K ρ H hd->(SqL K H a xs ∨ (tp=true/\SqT K H a xs))->RDs K ρ H ds xs->g ds=some z ->
  (∀ H' w,Ext ρ H ρ H'->RH K ρ H' hd->RD K ρ H' z w->Q w H')->r [.ref a] H Q
end
structure QE(K:PySem.W.Frag)(X:Cx)(e:Expr)(t:TE)(m:ME):Prop where
  p:PE X e t
  r:RE K t m
structure QT(K:PySem.W.Frag)(X:Cx)(e:Expr)(t:TT)(m:MT):Prop where
  p:PT X e t
  r:RT K t m
structure QW(K:PySem.W.Frag)(X:Cx)(e:Expr)(t:TT)(m:MT):Prop where
  p:PW X e t
  r:RT K t m
structure QA(K:PySem.W.Frag)(X:Cx)(e:List Expr)(t:TA)(m:MA):Prop where
  p:PA X e t
  r:RA K t m
structure QN(K:PySem.W.Frag)(X:Cx)(e:Expr)(t:TE)(m:MA):Prop where
  p:PE X e t
  r:RN K t m
structure QS(K:PySem.W.Frag)(X:Cx)(e:Stmt)(t:TS)(m:MS):Prop where
  p:PS X e t
  r:RS K t m
structure QSs(K:PySem.W.Frag)(X:Cx)(e:List Stmt)(t:TS)(m:MS):Prop where
  p:PSs X e t
  r:RS K t m
noncomputable def Ap:D->Option (List D)
  | .im (.tup is)=>some (is.map .im)
  | .tm ds=>some ds
  | _=>none
noncomputable def BI(hd:Hd):D->Option (List D)
  | .mu n=>match hd[n]? with
    | some (.lst ds)=>some ds
    | _=>none
  | .ro ns=>some (ns.map λ n=>.im (.int n))
  | _=>none
noncomputable def BX(hd:Hd)(d:D):Option (List D):=match Ap d with
  | some ds=>some ds
  | none=>BI hd d
noncomputable def CA:List D->Option (List I)
  | []=>some []
  | .im i :: r=>(CA r).map (i :: ·)
  | _ :: _=>none
noncomputable def B1(ds:List D):D:=match CA ds with
  | some is=>.im (.tup is)
  | none=>.tm ds
noncomputable def BO:List D->Option (List Int)
  | []=>some []
  | .im (.int i) :: r=>(BO r).map (i :: ·)
  | _ :: _=>none
noncomputable def DY:List D->Option (List Bool)
  | []=>some []
  | .im (.bl i) :: r=>(DY r).map (i :: ·)
  | _ :: _=>none
section
variable{K:PySem.W.Frag}{ρ ρ':List Addr}{H H':Hp}{hd hd':Hd}
theorem HH:∀ {ds:List D} {is:List I},CA ds=some is->ds=is.map .im
  | [],is,h=>by simp[CA]at h;subst h;rfl
  | .im i :: r,is,h=>by
    simp only[CA,Option.map_eq_some_iff]at h
    obtain⟨js,e,rfl⟩:=h
    simp[HH e]
  | .mu _ :: _,is,h=>by simp[CA]at h
  | .tm _ :: _,is,h=>by simp[CA]at h
  | .ro _ :: _,is,h=>by simp[CA]at h
theorem DN:∀ {ds:List D} {is:List Int},BO ds=some is->ds=is.map λ i=>.im (.int i)
  | [],is,h=>by simp[BO]at h;subst h;rfl
  | .im (.int i) :: r,is,h=>by
    simp only[BO,Option.map_eq_some_iff]at h
    obtain⟨js,e,rfl⟩:=h
    simp[DN e]
  | .im (.bl _) :: _,is,h=>by simp[BO]at h
  | .im (.str _) :: _,is,h=>by simp[BO]at h
  | .im .non :: _,is,h=>by simp[BO]at h
  | .im (.tup _) :: _,is,h=>by simp[BO]at h
  | .mu _ :: _,is,h=>by simp[BO]at h
  | .tm _ :: _,is,h=>by simp[BO]at h
  | .ro _ :: _,is,h=>by simp[BO]at h
theorem KI:∀ {ds:List D} {is:List Bool},DY ds=some is->ds=is.map λ i=>.im (.bl i)
  | [],is,h=>by simp[DY]at h;subst h;rfl
  | .im (.bl i) :: r,is,h=>by
    simp only[DY,Option.map_eq_some_iff]at h
    obtain⟨js,e,rfl⟩:=h
    simp[KI e]
  | .im (.int _) :: _,is,h=>by simp[DY]at h
  | .im (.str _) :: _,is,h=>by simp[DY]at h
  | .im .non :: _,is,h=>by simp[DY]at h
  | .im (.tup _) :: _,is,h=>by simp[DY]at h
  | .mu _ :: _,is,h=>by simp[DY]at h
  | .tm _ :: _,is,h=>by simp[DY]at h
  | .ro _ :: _,is,h=>by simp[DY]at h
@[simp] theorem Ps(is:List I):CA (is.map .im)=some is:=by induction is <;> simp_all [CA]
@[simp] theorem We(is:List Int):BO (is.map λ i=>.im (.int i))=some is:=by induction is <;> simp_all [BO]
@[simp] theorem Iz(is:List Bool):DY (is.map λ i=>.im (.bl i))=some is:=by induction is <;> simp_all [DY]
theorem FZ:∀ {ns:List Int} {xs:List V},RDs K ρ H (ns.map λ i=>.im (.int i)) xs->xs=ns.map V.int
  | [],xs,h=>by simpa [RDs]using h
  | n :: ns,xs,h=>by
    simp only[List.map_cons,RDs,RD,RI]at h
    obtain⟨x,r,rfl,rfl,z⟩:=h
    rw[FZ z];rfl
theorem EZ:∀ {ns:List Int},RDs K ρ H (ns.map λ i=>.im (.int i)) (ns.map V.int)
  | []=>by simp[RDs]
  | n :: ns=>by simp only[List.map_cons];exact .cons (by simp[RD,RI]) EZ
theorem LV:∀ {ns:List Bool} {xs:List V},RDs K ρ H (ns.map λ i=>.im (.bl i)) xs->xs=ns.map V.bl
  | [],xs,h=>by simpa [RDs]using h
  | n :: ns,xs,h=>by
    simp only[List.map_cons,RDs,RD,RI]at h
    obtain⟨x,r,rfl,rfl,z⟩:=h
    rw[LV z];rfl
theorem RD.tup{d:D}{v:V}{ds:List D}(h:RD K ρ H d v)(e:Ap d=some ds):∃ a xs,v=.ref a/\SqT K H a xs/\RDs K ρ H ds xs:=by
  cases d with
  | im i=>
    cases i with
    | tup is=>
      simp only[Ap,Option.some.injEq]at e
      subst e
      simp only[RD,RI]at h
      obtain⟨a,xs,rfl,q,r⟩:=h
      exact⟨a,xs,rfl,q,r.ds⟩
    | _=>simp[Ap]at e
  | tm es=>
    simp only[Ap,Option.some.injEq]at e
    subst e
    simpa only[RD]using h
  | _=>simp[Ap]at e
theorem RD.lst{d:D}{v:V}{ds:List D}(hR:RH K ρ H hd)(h:RD K ρ H d v)(e:BI hd d=some ds):∃ a xs,v=.ref a/\SqL K H a xs/\RDs K ρ H ds xs:=by
  cases d with
  | mu n=>
    simp only[BI]at e
    simp only[RD]at h
    obtain⟨a,hn,rfl⟩:=h
    split at e
    . next q=>
      cases e
      obtain⟨xs,e1,e2⟩:=hR.lst hn q
      exact⟨a,xs,rfl,SqL.of e1,e2⟩
    . cases e
  | ro ns=>
    simp only[BI,Option.some.injEq]at e
    subst e
    simp only[RD]at h
    obtain⟨a,rfl,q⟩:=h
    exact⟨a,_,rfl,q.sq,EZ⟩
  | _=>simp[BI]at e
theorem RD.seq{d:D}{v:V}{ds:List D}(hR:RH K ρ H hd)(h:RD K ρ H d v)(e:BX hd d=some ds):∃ a xs,v=.ref a/\(SqL K H a xs ∨ SqT K H a xs)/\RDs K ρ H ds xs:=by
  unfold BX at e
  split at e
  . next q=>
    cases e
    obtain⟨a,xs,e1,e2,e3⟩:=h.tup q
    exact⟨a,xs,e1,.inr e2,e3⟩
  . obtain⟨a,xs,e1,e2,e3⟩:=h.lst hR e
    exact⟨a,xs,e1,.inl e2,e3⟩
theorem Cm{ds:List D}{a:Addr}{xs:List V}(q:SqT K H a xs)(r:RDs K ρ H ds xs):RD K ρ H (B1 ds) (.ref a):=by
  unfold B1
  split
  . next e=>
    rw[HH e]at r
    simp only[RD,RI]
    exact⟨a,xs,rfl,q,r.is⟩
  . simp only[RD]
    exact⟨a,xs,rfl,q,r⟩
noncomputable def A2(i:Nat):ME:=λ ls hd=>match ls[i]? with
  | some (some d)=>some (d,hd)
  | _=>none
theorem UT{i:Nat}:RE K (NU i) (A2 i):=by
  intro ρ σ H hd ls Q d hd' hR hL hm hQ
  unfold A2 at hm
  split at hm
  . next e=>
    cases hm
    obtain⟨v,e1,e2⟩:=hL.ob i _ e
    exact⟨v,e1,hQ ρ H v .refl hR e2⟩
  . cases hm
noncomputable def mC(i:I):ME:=λ _ hd=>some (.im i,hd)
theorem Np{v:V}{i:I}(h:∀ H,RI K H i v):RE K (tC v) (mC i):=by
  intro ρ σ H hd ls Q d hd' hR hL hm hQ
  cases hm
  exact hQ ρ H v .refl hR (by simpa only[RD]using h H)
noncomputable def mOp(f:D->D->Hd->Option (D × Hd))(ma mb:ME):ME:=λ ls hd=>(ma ls hd).bind λ p=>(mb ls p.2).bind λ q=>f p.1 q.1 q.2
theorem Ku{r:R2}{f:D->D->Hd->Option (D × Hd)}{ta tb:TE}{ma mb:ME}(hr:RB K r f)(ha:RE K ta ma)(hb:RE K tb mb):RE K (tOp r ta tb) (mOp f ma mb):=by
  intro ρ σ H hd ls Q d hd' hR hL hm hQ
  obtain⟨⟨d1,h1⟩,e1,hm⟩:=Option.bind_eq_some_iff.mp hm
  obtain⟨⟨d2,h2⟩,e2,hm⟩:=Option.bind_eq_some_iff.mp hm
  refine ha ρ σ H hd ls _ d1 h1 hR hL e1 λ ρ1 H1 v1 x1 R1 r1=>?_
  refine hb ρ1 σ H1 h1 ls _ d2 h2 R1 (hL.ext hR x1) e2 λ ρ2 H2 v2 x2 R2 r2=>?_
  exact hr ρ2 H2 h2 d1 d2 v1 v2 Q d hd' R2 (r1.ext R1 x2) r2 hm λ ρ' H' w x3 R3 r3=>hQ ρ' H' w ((x1.trans R1 x2).trans R2 x3) R3 r3
noncomputable def Gv(ta tb:MT):MT:=λ ls hd=>(ta ls hd).bind λ p=>if p.1=true then tb ls p.2 else some (false,p.2)
noncomputable def mOr(ta tb:MT):MT:=λ ls hd=>(ta ls hd).bind λ p=>if p.1=true then some (true,p.2)else tb ls p.2
noncomputable def ET(ta:MT):MT:=λ ls hd=>(ta ls hd).bind λ p=>some (!p.1,p.2)
theorem UG{ta tb:TT}{ma mb:MT}(ha:RT K ta ma)(hb:RT K tb mb):RT K (QC ta tb) (Gv ma mb):=by
  intro ρ σ H hd ls Q d hd' hR hL hm hQ
  obtain⟨⟨d1,h1⟩,e1,hm⟩:=Option.bind_eq_some_iff.mp hm
  refine ha ρ σ H hd ls _ d1 h1 hR hL e1 λ ρ1 H1 x1 R1=>?_
  cases d1 with
  | true=>
    rw[if_pos rfl]at hm ⊢
    exact hb ρ1 σ H1 h1 ls Q d hd' R1 (hL.ext hR x1) hm λ ρ2 H2 x2 R2=>hQ ρ2 H2 (x1.trans R1 x2) R2
  | false=>
    rw[if_neg Bool.false_ne_true]at hm ⊢
    cases hm
    exact hQ ρ1 H1 x1 R1
theorem Vr{ta tb:TT}{ma mb:MT}(ha:RT K ta ma)(hb:RT K tb mb):RT K (tOr ta tb) (mOr ma mb):=by
  intro ρ σ H hd ls Q d hd' hR hL hm hQ
  obtain⟨⟨d1,h1⟩,e1,hm⟩:=Option.bind_eq_some_iff.mp hm
  refine ha ρ σ H hd ls _ d1 h1 hR hL e1 λ ρ1 H1 x1 R1=>?_
  cases d1 with
  | true=>
    rw[if_pos rfl]at hm ⊢
    cases hm
    exact hQ ρ1 H1 x1 R1
  | false=>
    rw[if_neg Bool.false_ne_true]at hm ⊢
    exact hb ρ1 σ H1 h1 ls Q d hd' R1 (hL.ext hR x1) hm λ ρ2 H2 x2 R2=>hQ ρ2 H2 (x1.trans R1 x2) R2
theorem UF{ta:TT}{ma:MT}(ha:RT K ta ma):RT K (Q6 ta) (ET ma):=by
  intro ρ σ H hd ls Q d hd' hR hL hm hQ
  obtain⟨⟨d1,h1⟩,e1,hm⟩:=Option.bind_eq_some_iff.mp hm
  cases hm
  exact ha ρ σ H hd ls _ d1 h1 hR hL e1 λ ρ1 H1 x1 R1=>hQ ρ1 H1 x1 R1
open Classical in
noncomputable def FP(hd:Hd):D->Option Bool
  | .im .non=>some false
  | .im (.bl b)=>some b
  | .im (.int i)=>some (i != 0)
  | .im (.str x)=>if DP x.length then some ((x.length:Int) != 0)else none
  | .im (.tup is)=>some (!is.isEmpty)
  | .tm is=>some (!is.isEmpty)
  | .ro ns=>some (!ns.isEmpty)
  | .mu n=>match hd[n]? with
    | some (.lst ds)=>some (!ds.isEmpty)
    | some (.dic ds)=>some (!ds.isEmpty)
    | none=>none
theorem EG{α β:Type}{xs:List α}{ys:List β}(h:xs.length=ys.length):xs.isEmpty=ys.isEmpty:=by
  cases xs <;> cases ys <;> simp_all
theorem RKs.len:∀ {ds:List (Key × D)} {xs:List (Key × V)},RKs K ρ H ds xs->xs.length=ds.length
  | [],xs,h=>by simp only[RKs]at h;rw[h];rfl
  | d :: ds,xs,h=>by
    simp only[RKs]at h
    obtain⟨x,r,rfl,_,_,z⟩:=h
    simp[RKs.len z]
theorem SL{d:D}{v:V}{b:Bool}(hR:RH K ρ H hd)(h:RD K ρ H d v)(e:FP hd d=some b):MY K v H b:=by
  cases d with
  | im i=>
    cases i with
    | non=>simp only[RD,RI]at h;subst h;simp only[FP,Option.some.injEq]at e;subst e;exact rfl
    | bl c=>simp only[RD,RI]at h;subst h;simp only[FP,Option.some.injEq]at e;subst e;exact rfl
    | int c=>simp only[RD,RI]at h;subst h;simp only[FP,Option.some.injEq]at e;subst e;exact rfl
    | str c=>
      simp only[RD,RI]at h;subst h;simp only[FP]at e
      split at e
      . next z=>cases e;exact⟨z,rfl⟩
      . cases e
    | tup is=>
      obtain⟨a,xs,rfl,q,r⟩:=h.tup (ds:=is.map .im) rfl
      simp only[FP,Option.some.injEq]at e;subst e
      exact .inr (.inl ⟨xs,q,by rw[EG (show xs.length=is.length by simpa using r.len)]⟩)
  | tm ds=>
    obtain⟨a,xs,rfl,q,r⟩:=h.tup (ds:=ds) rfl
    simp only[FP,Option.some.injEq]at e;subst e
    exact .inr (.inl ⟨xs,q,by rw[EG r.len]⟩)
  | ro ns=>
    obtain⟨a,xs,rfl,q,r⟩:=h.lst hR (hd:=hd) (ds:=ns.map λ n=>.im (.int n)) rfl
    simp only[FP,Option.some.injEq]at e;subst e
    exact .inl ⟨xs,q,by rw[EG (show xs.length=ns.length by simpa using r.len)]⟩
  | mu n=>
    simp only[RD]at h
    obtain⟨a,hn,rfl⟩:=h
    simp only[FP]at e
    split at e
    . next q=>
      cases e
      obtain⟨xs,e1,e2⟩:=hR.lst hn q
      exact .inl ⟨xs,SqL.of e1,by rw[EG e2.len]⟩
    . next q=>
      cases e
      obtain⟨xs,e1,e2⟩:=hR.dic hn q
      exact .inr (.inr ⟨xs,e1,by rw[EG e2.len]⟩)
    . cases e
noncomputable def Ct(ma:ME):MT:=λ ls hd=>(ma ls hd).bind λ p=>(FP p.2 p.1).map (·,p.2)
theorem QM{ta:TE}{ma:ME}(ha:RE K ta ma):RT K (λ σ H Q=>ta σ H λ x H'=>∃ k,MY K x H' k/\Q k H') (Ct ma):=by
  intro ρ σ H hd ls Q d hd' hR hL hm hQ
  obtain⟨⟨d1,h1⟩,e1,hm⟩:=Option.bind_eq_some_iff.mp hm
  obtain⟨b,e2,e3⟩:=Option.map_eq_some_iff.mp hm
  cases e3
  exact ha ρ σ H hd ls _ d1 h1 hR hL e1 λ ρ1 H1 v x1 R1 r1=>⟨_,SL R1 r1 e2,hQ ρ1 H1 x1 R1⟩
noncomputable def AX(ma:ME):MT:=λ ls hd=>(ma ls hd).bind λ p=>match p.1 with
  | .im (.bl b)=>some (b,p.2)
  | _=>none
theorem Ep{ta:TE}{ma:ME}(ha:RE K ta ma):RT K (JE ta) (AX ma):=by
  intro ρ σ H hd ls Q d hd' hR hL hm hQ
  obtain⟨⟨d1,h1⟩,e1,hm⟩:=Option.bind_eq_some_iff.mp hm
  dsimp only at hm
  split at hm
  . cases hm
    exact ha ρ σ H hd ls _ _ _ hR hL e1 λ ρ1 H1 v x1 R1 r1=>⟨_,by simpa only[RD,RI]using r1,hQ ρ1 H1 x1 R1⟩
  . cases hm
theorem UH{ta:TE}{ma:ME}(ha:RE K ta ma):RT K (tB ta) (AX ma):=Ep ha
noncomputable def mIf(c:MT)(ma mb:ME):ME:=λ ls hd=>(c ls hd).bind λ p=>if p.1=true then ma ls p.2 else mb ls p.2
theorem Vv{tc:TT}{c:MT}{ta tb:TE}{ma mb:ME}(hc:RT K tc c)(ha:RE K ta ma)(hb:RE K tb mb):RE K (tIf tc ta tb) (mIf c ma mb):=by
  intro ρ σ H hd ls Q d hd' hR hL hm hQ
  obtain⟨⟨d1,h1⟩,e1,hm⟩:=Option.bind_eq_some_iff.mp hm
  refine hc ρ σ H hd ls _ d1 h1 hR hL e1 λ ρ1 H1 x1 R1=>?_
  cases d1 with
  | true=>
    rw[if_pos rfl]at hm ⊢
    exact ha ρ1 σ H1 h1 ls Q d hd' R1 (hL.ext hR x1) hm λ ρ2 H2 v x2 R2 r2=>hQ ρ2 H2 v (x1.trans R1 x2) R2 r2
  | false=>
    rw[if_neg Bool.false_ne_true]at hm ⊢
    exact hb ρ1 σ H1 h1 ls Q d hd' R1 (hL.ext hR x1) hm λ ρ2 H2 v x2 R2 r2=>hQ ρ2 H2 v (x1.trans R1 x2) R2 r2
noncomputable def Gu(ma mb:ME):ME:=λ ls hd=>(AX ma ls hd).bind λ p=>if p.1=true then mb ls p.2 else some (.im (.bl false),p.2)
noncomputable def Lr(ma mb:ME):ME:=λ ls hd=>(AX ma ls hd).bind λ p=>if p.1=true then some (.im (.bl true),p.2)else mb ls p.2
noncomputable def Jb(ma:ME):ME:=λ ls hd=>(AX ma ls hd).bind λ p=>some (.im (.bl (!p.1)),p.2)
theorem Sl{ta tb:TE}{ma mb:ME}(ha:RE K ta ma)(hb:RE K tb mb):RE K (Nd ta tb) (Gu ma mb):=by
  intro ρ σ H hd ls Q d hd' hR hL hm hQ
  obtain⟨⟨d1,h1⟩,e1,hm⟩:=Option.bind_eq_some_iff.mp hm
  refine Ep ha ρ σ H hd ls (λ c H1=>if c=true then tb σ H1 Q else Q (.bl false) H1) d1 h1 hR hL e1 λ ρ1 H1 x1 R1=>?_
  cases d1 with
  | true=>
    rw[if_pos rfl]at hm ⊢
    exact hb ρ1 σ H1 h1 ls Q d hd' R1 (hL.ext hR x1) hm λ ρ2 H2 v x2 R2 r2=>hQ ρ2 H2 v (x1.trans R1 x2) R2 r2
  | false=>
    rw[if_neg Bool.false_ne_true]at hm ⊢
    cases hm
    exact hQ ρ1 H1 _ x1 R1 (by simp[RD,RI])
theorem UV{ta tb:TE}{ma mb:ME}(ha:RE K ta ma)(hb:RE K tb mb):RE K (Q5 ta tb) (Lr ma mb):=by
  intro ρ σ H hd ls Q d hd' hR hL hm hQ
  obtain⟨⟨d1,h1⟩,e1,hm⟩:=Option.bind_eq_some_iff.mp hm
  refine Ep ha ρ σ H hd ls (λ c H1=>if c=true then Q (.bl true) H1 else tb σ H1 Q) d1 h1 hR hL e1 λ ρ1 H1 x1 R1=>?_
  cases d1 with
  | true=>
    rw[if_pos rfl]at hm ⊢
    cases hm
    exact hQ ρ1 H1 _ x1 R1 (by simp[RD,RI])
  | false=>
    rw[if_neg Bool.false_ne_true]at hm ⊢
    exact hb ρ1 σ H1 h1 ls Q d hd' R1 (hL.ext hR x1) hm λ ρ2 H2 v x2 R2 r2=>hQ ρ2 H2 v (x1.trans R1 x2) R2 r2
theorem Sf{ta:TE}{ma:ME}(ha:RE K ta ma):RE K (NW ta) (Jb ma):=by
  intro ρ σ H hd ls Q d hd' hR hL hm hQ
  obtain⟨⟨d1,h1⟩,e1,hm⟩:=Option.bind_eq_some_iff.mp hm
  cases hm
  exact Ep ha ρ σ H hd ls (λ c H1=>Q (.bl (!c)) H1) d1 h1 hR hL e1 λ ρ1 H1 x1 R1=>hQ ρ1 H1 _ x1 R1 (by simp[RD,RI])
noncomputable def AC:MA:=λ _ hd=>some ([],hd)
noncomputable def A4(ma:ME)(mr:MA):MA:=λ ls hd=>(ma ls hd).bind λ p=>(mr ls p.2).bind λ q=>some (p.1 :: q.1,q.2)
theorem Ua:RA K C8 AC:=by
  intro ρ σ H hd ls Q d hd' hR hL hm hQ
  cases hm
  exact hQ ρ H [] .refl hR .nil
theorem Sm{ta:TE}{tr:TA}{ma:ME}{mr:MA}(ha:RE K ta ma)(hr:RA K tr mr):RA K (BZ ta tr) (A4 ma mr):=by
  intro ρ σ H hd ls Q d hd' hR hL hm hQ
  obtain⟨⟨d1,h1⟩,e1,hm⟩:=Option.bind_eq_some_iff.mp hm
  obtain⟨⟨d2,h2⟩,e2,hm⟩:=Option.bind_eq_some_iff.mp hm
  cases hm
  refine ha ρ σ H hd ls _ d1 h1 hR hL e1 λ ρ1 H1 v1 x1 R1 r1=>?_
  exact hr ρ1 σ H1 h1 ls _ d2 _ R1 (hL.ext hR x1) e2 λ ρ2 H2 v2 x2 R2 r2=>hQ ρ2 H2 _ (x1.trans R1 x2) R2 (.cons (r1.ext R1 x2) r2)
open Classical in
noncomputable def Bw(ma:MA):ME:=λ ls hd=>(ma ls hd).bind λ p=>if DP p.1.length then some (B1 p.1,p.2)else none
theorem UU{t:TA}{m:MA}(h:RA K t m):RE K (Q2 t) (Bw m):=by
  intro ρ σ H hd ls Q d hd' hR hL hm hQ
  obtain⟨⟨d1,h1⟩,e1,hm⟩:=Option.bind_eq_some_iff.mp hm
  dsimp only at hm
  split at hm
  . next z=>
    cases hm
    refine h ρ σ H hd ls _ d1 _ hR hL e1 λ ρ1 H1 v1 x1 R1 r1=>⟨by rw[r1.len];exact z,λ p hp=>?_⟩
    obtain⟨R2,x2⟩:=R1.hid (ho:=.tup v1) hp
    exact hQ ρ1 _ _ (x1.trans R1 x2) R2 (Cm (SqT.of AR) (r1.ext R1 x2))
  . cases hm
open Classical in
noncomputable def EU(ma:MA):MA:=λ ls hd=>(ma ls hd).bind λ p=>if DP p.1.length then some (p.1,p.2)else none
theorem RH.out(hR:RH K ρ H hd){a:Addr}(h:H a=none):a ∉ ρ:=λ m=>by rcases hR.mut m with⟨y,z⟩|⟨y,z⟩ <;> (rw[h]at z;cases z)
theorem Ext.none(e:Ext ρ H ρ' H')(hR:RH K ρ H hd){a:Addr}(h:H' a=none)(hR':RH K ρ' H' hd'):H a=none:=by
  cases q:H a with
  | none=>rfl
  | some o=>
    by_cases m:a ∈ ρ
    . obtain⟨r,rfl,_⟩:=e.pre
      exact absurd (List.mem_append_left r m) (hR'.out h)
    . by_cases t:∃ ps,o=.tbl ps
      . obtain⟨ps,rfl⟩:=t
        obtain⟨ps',this⟩:=e.tab a ps q
        rw[h]at this;cases this
      . rw[e.keep a o q m λ ps y=>t ⟨ps,y⟩]at h;cases h
theorem UM{t:TA}{m:MA}(h:RA K t m):RN K (Q7 t) (EU m):=by
  intro ρ σ H hd ls Q d hd' hR hL hm hQ
  obtain⟨⟨d1,h1⟩,e1,hm⟩:=Option.bind_eq_some_iff.mp hm
  dsimp only at hm
  split at hm
  . next z=>
    cases hm
    refine h ρ σ H hd ls _ _ _ hR hL e1 λ ρ1 H1 v1 x1 R1 r1=>⟨by rw[r1.len];exact z,λ p hp=>?_⟩
    obtain⟨R2,x2⟩:=R1.hid (ho:=.lst v1) hp
    exact hQ ρ1 _ p v1 (x1.trans R1 x2) R2 (x1.none hR hp R1) (R1.out hp) AR (r1.ext R1 x2)
  . cases hm
noncomputable def Cn(ml:MA):ME:=λ ls hd=>(ml ls hd).bind λ p=>some (.mu p.2.length,p.2 ++ [.lst p.1])
theorem RH.name(hR:RH K ρ H hd){a:Addr}{xs:List V}{ds:List D}(out:a ∉ ρ)(e:H a=some (.lst xs))(r:RDs K ρ H ds xs):RH K (ρ ++ [a]) H (hd ++ [.lst ds]):=by
  have mono:∀ {o:MO} {ho:HO},RC K ρ H o ho->RC K (ρ ++ [a]) H o ho:=λ c=>c.mono Grow.refl [a]
  refine⟨by simp[hR.len],?_,hR.tabs,λ n o' b e1 e2=>?_⟩
  . rw[List.nodup_append]
    refine⟨hR.nd,by simp,λ x hx y hy z=>?_⟩
    simp at hy;subst hy;subst z;exact out hx
  . by_cases hn:n < ρ.length
    . rw[List.getElem?_append_left hn]at e2
      rw[List.getElem?_append_left (by rw[<- hR.len];exact hn)]at e1
      obtain⟨ho',q1,q2⟩:=hR.ob n o' b e1 e2
      exact⟨ho',q1,mono q2⟩
    . have hn':n=ρ.length:=by
        have:=(List.getElem?_eq_some_iff.mp e2).1
        simp at this;omega
      subst hn'
      simp at e2
      rw[hR.len]at e1
      simp at e1
      subst e1;subst e2
      exact⟨_,e,mono ⟨xs,rfl,r⟩⟩
theorem Ext.name(e:Ext ρ H ρ' H'){a:Addr}(h:H a=Option.none):Ext ρ H (ρ' ++ [a]) H':=by
  obtain⟨r,rfl,f⟩:=e.pre
  refine⟨⟨r ++ [a],by simp,λ b m=>?_⟩,e.keep,e.tab⟩
  rcases List.mem_append.mp m with m|m
  . exact f b m
  . simp at m;subst m;exact h
theorem Oq{t:TE}{m:MA}(h:RN K t m):RE K t (Cn m):=by
  intro ρ σ H hd ls Q d hd' hR hL hm hQ
  obtain⟨⟨d1,h1⟩,e1,hm⟩:=Option.bind_eq_some_iff.mp hm
  cases hm
  refine h ρ σ H hd ls Q d1 h1 hR hL e1 λ ρ1 H1 a xs x1 R1 na oa ea r1=>?_
  refine hQ (ρ1 ++ [a]) H1 _ (x1.name na) (R1.name oa ea r1) ?_
  simp only[RD]
  exact⟨a,by rw[<- R1.len];simp,rfl⟩
end
end L2
namespace L2
open PySem PySem.Spec PyProof.Rows
section
variable{K:PySem.W.Frag}{ρ ρ':List Addr}{H H':Hp}{hd hd':Hd}
noncomputable def fI(g:Int->Int->Option I):D->D->Hd->Option (D × Hd)
  | .im (.int i),.im (.int j),hd=>(g i j).map (.im ·,hd)
  | _,_,_=>none
theorem Nt{C:Int->Int->Prop}{g:Int->Int->V}{f:Int->Int->Option I}(h:∀ i j z,f i j=some z->C i j/\∀ H,RI K H z (g i j)):RB K (rI C g) (fI f):=by
  intro ρ H hd d e v u Q z hd' hR h1 h2 hf hQ
  unfold fI at hf
  split at hf
  . simp only[RD,RI]at h1 h2
    subst h1 h2
    obtain⟨w,e1,e2⟩:=Option.map_eq_some_iff.mp hf
    cases e2
    obtain⟨c,r⟩:=h _ _ _ e1
    exact⟨_,_,rfl,rfl,c,hQ ρ H _ .refl hR (by simpa only[RD]using r H)⟩
  . cases hf
theorem IH{g:Int->Int->V}{f:Int->Int->I}(h:∀ i j H,RI K H (f i j) (g i j)):RB K (rI0 g) (fI λ i j=>some (f i j)):=by
  intro ρ H hd d e v u Q z hd' hR h1 h2 hf hQ
  unfold fI at hf
  split at hf
  . simp only[RD,RI]at h1 h2
    subst h1 h2
    cases hf
    exact⟨_,_,rfl,rfl,hQ ρ H _ .refl hR (by simpa only[RD]using h _ _ H)⟩
  . cases hf
noncomputable def HE(f g:D->D->Hd->Option (D × Hd)):D->D->Hd->Option (D × Hd):=λ d e hd=>match f d e hd with
  | some z=>some z
  | none=>g d e hd
theorem AQ{r r':R2}{f g:D->D->Hd->Option (D × Hd)}(h:RB K r f)(h':RB K r' g):RB K (λ x y H Q=>r x y H Q ∨ r' x y H Q) (HE f g):=by
  intro ρ H hd d e v u Q z hd' hR h1 h2 hf hQ
  unfold HE at hf
  split at hf
  . next q=>cases hf;exact .inl (h ρ H hd d e v u Q z hd' hR h1 h2 q hQ)
  . exact .inr (h' ρ H hd d e v u Q z hd' hR h1 h2 hf hQ)
noncomputable abbrev KD:D->D->Hd->Option (D × Hd):=fI λ i j=>some (.int (i + j))
noncomputable abbrev E5:D->D->Hd->Option (D × Hd):=fI λ i j=>some (.int (i - j))
theorem B2:RB K (rI0 λ i j=>.int (i + j)) KD:=IH λ _ _ _=>by simp[RI]
theorem EC:RB K (rI0 λ i j=>.int (i - j)) E5:=IH λ _ _ _=>by simp[RI]
open Classical in
noncomputable abbrev HA:D->D->Hd->Option (D × Hd):=fI λ i j=>if G5 i j then some (.int (i * j))else none
theorem Fh:RB K (rI CMul λ i j=>.int (i * j)) HA:=Nt λ i j z h=>by
  split at h
  . next q=>cases h;exact⟨q,λ _=>by simp[RI]⟩
  . cases h
open Classical in
noncomputable abbrev Hs:D->D->Hd->Option (D × Hd):=fI λ i j=>if EN j then some (.int (i % j))else none
theorem Fi:RB K (rI (λ _ j=>0 < j) λ i j=>.int (i % j)) Hs:=Nt λ i j z h=>by
  split at h
  . next q=>cases h;exact⟨q,λ _=>by simp[RI]⟩
  . cases h
open Classical in
noncomputable abbrev IS:D->D->Hd->Option (D × Hd):=fI λ i j=>if Jl j then some (.int (i / j))else none
theorem IG:RB K (rI Vi λ i j=>.int (i / j)) IS:=Nt λ i j z h=>by
  split at h
  . next q=>cases h;exact⟨q,λ _=>by simp[RI]⟩
  . cases h
open Classical in
noncomputable abbrev VN:D->D->Hd->Option (D × Hd):=fI λ i j=>if O2 i j then some (.int (i ^ j.toNat))else none
theorem UZ:RB K (rI Vh λ i j=>.int (i ^ j.toNat)) VN:=Nt λ i j z h=>by
  split at h
  . next q=>cases h;exact⟨q,λ _=>by simp[RI]⟩
  . cases h
noncomputable abbrev gLt:D->D->Hd->Option (D × Hd):=fI λ i j=>some (.bl (decide (i < j)))
noncomputable abbrev gLe:D->D->Hd->Option (D × Hd):=fI λ i j=>some (.bl (decide (i <= j)))
noncomputable abbrev gGt:D->D->Hd->Option (D × Hd):=fI λ i j=>some (.bl (decide (j < i)))
noncomputable abbrev gGe:D->D->Hd->Option (D × Hd):=fI λ i j=>some (.bl (decide (j <= i)))
theorem Nq:RB K (rI0 λ i j=>.bl (decide (i < j))) gLt:=IH λ _ _ _=>by simp[RI]
theorem JJ:RB K (rI0 λ i j=>.bl (decide (i <= j))) gLe:=IH λ _ _ _=>by simp[RI]
theorem IF:RB K (rI0 λ i j=>.bl (decide (j < i))) gGt:=IH λ _ _ _=>by simp[RI]
theorem Nr:RB K (rI0 λ i j=>.bl (decide (j <= i))) gGe:=IH λ _ _ _=>by simp[RI]
noncomputable def scI:I->Option V
  | .non=>some .non
  | .bl b=>some (.bl b)
  | .int i=>some (.int i)
  | .str x=>some (.str x)
  | .tup _=>none
theorem JH{i:I}{v w:V}(e:scI i=some w)(h:RI K H i v):v=w:=by
  cases i with
  | tup _=>simp[scI]at e
  | _=>simp only[scI,Option.some.injEq]at e;subst e;simpa only[RI]using h
noncomputable def GH(neg:Bool):D->D->Hd->Option (D × Hd)
  | .im i,.im j,hd=>match scI i,scI j with
    | some x,some y=>if LO x y=true then some (.im (.bl (if neg then !decide (x=y)else decide (x=y))),hd)else none
    | _,_=>none
  | _,_,_=>none
theorem Ee:RB K rEq (GH false):=by
  intro ρ H hd d e v u Q z hd' hR h1 h2 hf hQ
  unfold GH at hf
  split at hf
  . split at hf
    . next x y e1 e2=>
      split at hf
      . next s=>
        cases hf
        simp only[RD]at h1 h2
        rw[JH e1 h1,JH e2 h2]
        exact⟨s,hQ ρ H _ .refl hR (by simp[RD,RI])⟩
      . cases hf
    . cases hf
  . cases hf
theorem GN:RB K rNe (GH true):=by
  intro ρ H hd d e v u Q z hd' hR h1 h2 hf hQ
  unfold GH at hf
  split at hf
  . split at hf
    . next x y e1 e2=>
      split at hf
      . next s=>
        cases hf
        simp only[RD]at h1 h2
        rw[JH e1 h1,JH e2 h2]
        exact⟨s,hQ ρ H _ .refl hR (by simp[RD,RI])⟩
      . cases hf
    . cases hf
  . cases hf
mutual
noncomputable def I.py:I->PyData
  | .non=>.none
  | .bl b=>.bool b
  | .int i=>.int i
  | .str x=>.str x
  | .tup ds=>.tuple (I.pys ds)
noncomputable def I.pys:List I->List PyData
  | []=>[]
  | d :: ds=>I.py d :: I.pys ds
end
mutual
theorem RI.rep:∀ {i:I} {v:V},RI K H i v->Rep K H i.py v
  | .non,v,h=>by simpa only[RI,I.py,Rep]using h
  | .bl _,v,h=>by simpa only[RI,I.py,Rep]using h
  | .int _,v,h=>by simpa only[RI,I.py,Rep]using h
  | .str _,v,h=>by simpa only[RI,I.py,Rep]using h
  | .tup ds,v,h=>by
    simp only[RI]at h
    obtain⟨a,xs,e,q,r⟩:=h
    simp only[I.py,Rep]
    exact⟨a,xs,e,q,RIs.rep r⟩
theorem RIs.rep:∀ {i:List I} {v:List V},RIs K H i v->RepAll K H (I.pys i) v
  | [],v,h=>by simpa only[RIs,I.pys,RepAll]using h
  | d :: ds,v,h=>by
    simp only[RIs]at h
    obtain⟨x,r,e,q,z⟩:=h
    simp only[I.pys,RepAll]
    exact⟨x,r,e,q.rep,RIs.rep z⟩
end
noncomputable def pyD(hd:Hd):D->Option PyData
  | .im i=>some i.py
  | .mu n=>match hd[n]? with
    | some (.lst ds)=>(CA ds).map λ is=>.list (I.pys is)
    | _=>none
  | .ro ns=>some (.list (I.pys (ns.map I.int)))
  | _=>none
theorem GS{d:D}{v:V}{p:PyData}(hR:RH K ρ H hd)(h:RD K ρ H d v)(e:pyD hd d=some p):Rep K H p v:=by
  cases d with
  | im i=>simp only[pyD,Option.some.injEq]at e;subst e;simp only[RD]at h;exact h.rep
  | mu n=>
    simp only[pyD]at e
    simp only[RD]at h
    obtain⟨a,hn,rfl⟩:=h
    split at e
    . next q=>
      obtain⟨is,e1,rfl⟩:=Option.map_eq_some_iff.mp e
      obtain⟨xs,e2,e3⟩:=hR.lst hn q
      rw[HH e1]at e3
      simp only[Rep]
      exact⟨a,xs,rfl,SqL.of e2,e3.is.rep⟩
    . cases e
  | ro ns=>
    simp only[pyD,Option.some.injEq]at e;subst e
    obtain⟨a,xs,rfl,q,r⟩:=h.lst hR (hd:=hd) (ds:=ns.map λ n=>.im (.int n)) rfl
    simp only[Rep]
    refine⟨a,xs,rfl,q,RIs.rep (RDs.is (ρ:=ρ) ?_)⟩
    rw[List.map_map]
    exact r
  | tm _=>simp[pyD]at e
noncomputable def KC(neg:Bool):D->D->Hd->Option (D × Hd):=λ d e hd=>match pyD hd d,pyD hd e with
  | some x,some y=>if x.canLay0=true/\y.canLay0=true/\min x.depth y.depth <= 60 then some (.im (.bl (if neg then !PyData.eqv x y else PyData.eqv x y)),hd)else none
  | _,_=>none
theorem Ef:RB K (Qi K) (KC false):=by
  intro ρ H hd d e v u Q z hd' hR h1 h2 hf hQ
  unfold KC at hf
  split at hf
  . next e1 e2=>
    split at hf
    . next c=>cases hf;exact⟨_,_,GS hR h1 e1,GS hR h2 e2,c.1,c.2.1,c.2.2,hQ ρ H _ .refl hR (by simp[RD,RI])⟩
    . cases hf
  . cases hf
theorem GO:RB K (Qf K) (KC true):=by
  intro ρ H hd d e v u Q z hd' hR h1 h2 hf hQ
  unfold KC at hf
  split at hf
  . next e1 e2=>
    split at hf
    . next c=>cases hf;exact⟨_,_,GS hR h1 e1,GS hR h2 e2,c.1,c.2.1,c.2.2,hQ ρ H _ .refl hR (by simp[RD,RI])⟩
    . cases hf
  . cases hf
noncomputable abbrev gEq:=HE (GH false) (KC false)
noncomputable abbrev gNe:=HE (GH true) (KC true)
noncomputable def gIx:D->D->Hd->Option (D × Hd)
  | d,.im (.int i),hd=>(BX hd d).bind λ ds=>(atI ds i).map (·,hd)
  | _,_,_=>none
theorem NI{α β:Type}{xs:List α}{ys:List β}{i:Int}{y:β}(h:xs.length=ys.length)(e:atI ys i=some y):∃ (j:Nat),ys[j]? = some y/\∀ x,xs[j]? = some x->atI xs i=some x:=by
  unfold atI at e
  obtain⟨j,e1,e2⟩:=Option.bind_eq_some_iff.mp e
  exact⟨j,e2,λ x q=>by unfold atI;rw[h,e1];exact q⟩
noncomputable def Kv(K:PySem.W.Frag):R2:=λ x y H Q=>Qh K x y H Q ∨ Qg K x y H Q
theorem Vw:RB K (Kv K) gIx:=by
  intro ρ H hd d e v u Q z hd' hR h1 h2 hf hQ
  unfold gIx at hf
  split at hf
  . obtain⟨ds,e1,hf⟩:=Option.bind_eq_some_iff.mp hf
    obtain⟨w,e2,e3⟩:=Option.map_eq_some_iff.mp hf
    cases e3
    obtain⟨a,xs,rfl,q,r⟩:=h1.seq hR e1
    simp only[RD,RI]at h2
    subst h2
    obtain⟨j,j1,j2⟩:=NI r.len e2
    obtain⟨x,x1,x2⟩:=r.get j1
    rcases q with q|q
    . exact .inl ⟨a,xs,_,x,rfl,rfl,q,j2 x x1,hQ ρ H x .refl hR x2⟩
    . exact .inr ⟨a,xs,_,x,rfl,rfl,q,j2 x x1,hQ ρ H x .refl hR x2⟩
  . cases hf
noncomputable def Fv(xs:List D)(lo hi:Option Int):List D:=(xs.drop (HT.sIx xs.length 0 lo)).take (HT.sIx xs.length xs.length hi - HT.sIx xs.length 0 lo)
theorem Tw{ds:List D}{xs:List V}{lo hi:Option Int}(r:RDs K ρ H ds xs):RDs K ρ H (Fv ds lo hi) (Ix xs lo hi):=by
  unfold Fv Ix
  rw[r.len]
  exact(r.drop _).take _
noncomputable abbrev MO1:=Ls->Hd->Option (Option Int × Hd)
noncomputable def RO1(K:PySem.W.Frag)(t:TO)(m:MO1):Prop:=∀ (ρ:List Addr) (σ:St) (H:Hp) (hd:Hd) (ls:Ls) (Q:Option Int->Hp->Prop) (d:Option Int) (hd':Hd),RH K ρ H hd->RL K ρ H ls σ->m ls hd=some (d,hd') ->
  (∀ ρ' H',Ext ρ H ρ' H'->RH K ρ' H' hd'->Q d H')->t σ H Q
noncomputable def Ev:MO1:=λ _ hd=>some (none,hd)
noncomputable def Gp(m:ME):MO1:=λ ls hd=>(m ls hd).bind λ p=>match p.1 with
  | .im (.int i)=>some (some i,p.2)
  | _=>none
theorem SX:RO1 K Ju Ev:=by
  intro ρ σ H hd ls Q d hd' hR hL hm hQ
  cases hm
  exact hQ ρ H .refl hR
theorem SW{t:TE}{m:ME}(h:RE K t m):RO1 K (NV t) (Gp m):=by
  intro ρ σ H hd ls Q d hd' hR hL hm hQ
  obtain⟨⟨d1,h1⟩,e1,hm⟩:=Option.bind_eq_some_iff.mp hm
  dsimp only at hm
  split at hm
  . cases hm
    exact h ρ σ H hd ls _ _ _ hR hL e1 λ ρ1 H1 v x1 R1 r1=>⟨_,by simpa only[RD,RI]using r1,hQ ρ1 H1 x1 R1⟩
  . cases hm
noncomputable def Wy(m:ME)(ml mh:MO1):ME:=λ ls hd=>(m ls hd).bind λ p=>(ml ls p.2).bind λ l=>(mh ls l.2).bind λ h=>(Ap p.1).bind λ ds=>
  if ¬ (HT.sIx ds.length 0 l.1=0/\HT.sIx ds.length ds.length h.1=ds.length)then some (B1 (Fv ds l.1 h.1),h.2)else none
noncomputable def Ip(m:ME)(ml mh:MO1):MA:=λ ls hd=>(m ls hd).bind λ p=>(ml ls p.2).bind λ l=>(mh ls l.2).bind λ h=>(BI h.2 p.1).bind λ ds=>some (Fv ds l.1 h.1,h.2)
theorem UL{t:TE}{tl th:TO}{m:ME}{ml mh:MO1}(h:RE K t m)(hl:RO1 K tl ml)(hh:RO1 K th mh):RN K (tSl (Nv K) t tl th) (Ip m ml mh):=by
  intro ρ σ H hd ls Q d hd' hR hL hm hQ
  obtain⟨⟨d1,h1⟩,e1,hm⟩:=Option.bind_eq_some_iff.mp hm
  obtain⟨⟨d2,h2⟩,e2,hm⟩:=Option.bind_eq_some_iff.mp hm
  obtain⟨⟨d3,h3⟩,e3,hm⟩:=Option.bind_eq_some_iff.mp hm
  obtain⟨ds,e4,hm⟩:=Option.bind_eq_some_iff.mp hm
  dsimp only at e2 e3 e4 hm
  cases hm
  refine h ρ σ H hd ls _ d1 h1 hR hL e1 λ ρ1 H1 v1 x1 R1 r1=>?_
  refine hl ρ1 σ H1 h1 ls _ d2 h2 R1 (hL.ext hR x1) e2 λ ρ2 H2 x2 R2=>?_
  refine hh ρ2 σ H2 h2 ls _ d3 _ R2 (hL.ext hR (x1.trans R1 x2)) e3 λ ρ3 H3 x3 R3=>?_
  obtain⟨a,xs,rfl,q,r⟩:=RD.lst R3 ((r1.ext R1 x2).ext R2 x3) e4
  refine⟨a,xs,rfl,q,λ p hp=>?_⟩
  obtain⟨R4,x4⟩:=R3.hid (ho:=.lst (Ix xs d2 d3)) hp
  have x123:=(x1.trans R1 x2).trans R2 x3
  exact hQ ρ3 _ p _ (x123.trans R3 x4) R4 (x123.none hR hp R3) (R3.out hp) AR ((Tw r).ext R3 x4)
noncomputable def mCB(f:List D->Hd->Option (D × Hd))(ma:MA):ME:=λ ls hd=>(ma ls hd).bind λ p=>f p.1 p.2
theorem Rs{r:List V->Hp->VK->Prop}{f:List D->Hd->Option (D × Hd)}{t:TA}{m:MA}(hr:RF K r f)(h:RA K t m):RE K (tCB r t) (mCB f m):=by
  intro ρ σ H hd ls Q d hd' hR hL hm hQ
  obtain⟨⟨d1,h1⟩,e1,hm⟩:=Option.bind_eq_some_iff.mp hm
  refine h ρ σ H hd ls _ d1 h1 hR hL e1 λ ρ1 H1 v1 x1 R1 r1=>?_
  exact hr ρ1 H1 h1 d1 v1 Q d hd' R1 r1 hm λ ρ' H' w x2 R2 r2=>hQ ρ' H' w (x1.trans R1 x2) R2 r2
noncomputable def f1(tp:Bool)(g:List D->Option D):List D->Hd->Option (D × Hd)
  | [d],hd=>((if tp then BX hd d else BI hd d)).bind λ ds=>(g ds).map (·,hd)
  | _,_=>none
theorem DC{tp:Bool}{r:List V->Hp->VK->Prop}{g:List D->Option D}(h:RG K tp r g):RF K r (f1 tp g):=by
  intro ρ H hd ds vs Q z hd' hR h1 hf hQ
  unfold f1 at hf
  split at hf
  . next d hd'=>
    obtain⟨es,e1,hf⟩:=Option.bind_eq_some_iff.mp hf
    obtain⟨w,e2,e3⟩:=Option.map_eq_some_iff.mp hf
    cases e3
    simp only[RDs]at h1
    obtain⟨x,r,rfl,rx,rfl⟩:=h1
    cases tp with
    | true=>
      rw[if_pos rfl]at e1
      obtain⟨a,xs,rfl,q,rr⟩:=rx.seq hR e1
      exact h ρ H hd a xs es Q z hR (q.imp id λ q=>⟨rfl,q⟩) rr e2 λ H' w x R r=>hQ ρ H' w x R r
    | false=>
      rw[if_neg Bool.false_ne_true]at e1
      obtain⟨a,xs,rfl,q,rr⟩:=rx.lst hR e1
      exact h ρ H hd a xs es Q z hR (.inl q) rr e2 λ H' w x R r=>hQ ρ H' w x R r
  . cases hf
noncomputable def DH(g:List D->Option D)(ml:MA):ME:=λ ls hd=>(ml ls hd).bind λ p=>(g p.1).map (·,p.2)
theorem Ot{tp:Bool}{r:List V->Hp->VK->Prop}{g:List D->Option D}{t:TE}{m:MA}(hr:RG K tp r g)(h:RN K t m):RE K (tCB r (BZ t C8)) (DH g m):=by
  intro ρ σ H hd ls Q d hd' hR hL hm hQ
  obtain⟨⟨d1,h1⟩,e1,hm⟩:=Option.bind_eq_some_iff.mp hm
  obtain⟨w,e2,e3⟩:=Option.map_eq_some_iff.mp hm
  cases e3
  refine h ρ σ H hd ls _ d1 _ hR hL e1 λ ρ1 H1 a xs x1 R1 na oa ea r1=>?_
  exact hr ρ1 H1 _ a xs d1 Q d R1 (.inl (SqL.of ea)) r1 e2 λ H' w x R r=>hQ ρ1 H' w (x1.trans R1 x) R r
noncomputable def C1(ds:List D):Option D:=some (.im (.int ds.length))
theorem CN:RG K true (Ub K) C1:=by
  intro ρ H hd a xs ds Q z hR q r e hQ
  cases e
  refine⟨a,xs,rfl,q.imp id λ q=>q.2,?_⟩
  rw[r.len]
  exact hQ H _ .refl hR (by simp[RD,RI])
noncomputable def FL(ds:List D):Option D:=some (B1 ds)
theorem EQ:RG K true (LY K) FL:=by
  intro ρ H hd a xs ds Q z hR q r e hQ
  cases e
  refine⟨a,xs,rfl,?_⟩
  rcases q with q|⟨_,q⟩
  . refine .inl ⟨q,λ p hp=>?_⟩
    obtain⟨R2,x2⟩:=hR.hid (ho:=.tup xs) hp
    exact hQ _ _ x2 R2 (Cm (SqT.of AR) (r.ext hR x2))
  . exact .inr ⟨q,hQ H _ .refl hR (Cm q r)⟩
noncomputable def Hr(ds:List D):Option D:=(BO ds).map λ ns=>.im (.int ns.sum)
noncomputable def Wq(K:PySem.W.Frag):List V->Hp->VK->Prop:=λ xs H Q=>Rx K xs H Q ∨ Rv K xs H Q
theorem LU:RG K true (Wq K) Hr:=by
  intro ρ H hd a xs ds Q z hR q r e hQ
  obtain⟨ns,e1,rfl⟩:=Option.map_eq_some_iff.mp e
  rw[DN e1]at r
  have:=FZ r
  subst this
  rcases q with q|⟨_,q⟩
  . exact .inl ⟨a,ns,rfl,q,hQ H _ .refl hR (by simp[RD,RI])⟩
  . exact .inr ⟨a,ns,rfl,q,hQ H _ .refl hR (by simp[RD,RI])⟩
noncomputable def RX(ds:List D):Option D:=(DY ds).map λ bs=>.im (.bl (bs.all id))
noncomputable def M2(ds:List D):Option D:=(DY ds).map λ bs=>.im (.bl (bs.any id))
theorem US:RG K false (Ud K) RX:=by
  intro ρ H hd a xs ds Q z hR q r e hQ
  obtain⟨ns,e1,rfl⟩:=Option.map_eq_some_iff.mp e
  rw[KI e1]at r
  have:=LV r
  subst this
  rcases q with q|⟨q,_⟩
  . exact⟨a,ns,rfl,q,hQ H _ .refl hR (by simp[RD,RI])⟩
  . cases q
theorem Op:RG K false (Uc K) M2:=by
  intro ρ H hd a xs ds Q z hR q r e hQ
  obtain⟨ns,e1,rfl⟩:=Option.map_eq_some_iff.mp e
  rw[KI e1]at r
  have:=LV r
  subst this
  rcases q with q|⟨q,_⟩
  . exact⟨a,ns,rfl,q,hQ H _ .refl hR (by simp[RD,RI])⟩
  . cases q
noncomputable def GC:List Int->Int
  | []=>0
  | [x]=>x
  | x :: r=>if GC r > x then GC r else x
noncomputable def Go:List Int->Int
  | []=>0
  | [x]=>x
  | x :: r=>if Go r < x then Go r else x
theorem G6:∀ {xs:List Int},xs ≠ []->GC xs ∈ xs/\∀ x ∈ xs,x <= GC xs
  | [],h=>absurd rfl h
  | [x],_=>by simp[GC]
  | x :: y :: r,_=>by
    obtain⟨h1,h2⟩:=G6 (xs:=y :: r) (by simp)
    rw[GC]
    split
    . next h=>exact⟨List.mem_cons_of_mem _ h1,λ z m=>by rcases List.mem_cons.mp m with rfl|m;omega;exact h2 z m⟩
    . next h=>exact⟨List.mem_cons_self,λ z m=>by rcases List.mem_cons.mp m with rfl|m;omega;exact Int.le_trans (h2 z m) (by omega)⟩
    . simp
theorem Hg:∀ {xs:List Int},xs ≠ []->Go xs ∈ xs/\∀ x ∈ xs,Go xs <= x
  | [],h=>absurd rfl h
  | [x],_=>by simp[Go]
  | x :: y :: r,_=>by
    obtain⟨h1,h2⟩:=Hg (xs:=y :: r) (by simp)
    rw[Go]
    split
    . next h=>exact⟨List.mem_cons_of_mem _ h1,λ z m=>by rcases List.mem_cons.mp m with rfl|m;omega;exact h2 z m⟩
    . next h=>exact⟨List.mem_cons_self,λ z m=>by rcases List.mem_cons.mp m with rfl|m;omega;exact Int.le_trans (by omega) (h2 z m)⟩
    . simp
noncomputable def M1(ds:List D):Option D:=(BO ds).bind λ ns=>if ns=[]then none else some (.im (.int (GC ns)))
noncomputable def OC(ds:List D):Option D:=(BO ds).bind λ ns=>if ns=[]then none else some (.im (.int (Go ns)))
noncomputable def Wr(K:PySem.W.Frag):List V->Hp->VK->Prop:=λ xs H Q=>S0 K xs H Q ∨ Rz K xs H Q
theorem CK{α:Type}{xs:List α}(h:xs ≠ []):0 < xs.length:=by cases xs <;> simp_all
theorem Oo:RG K true (Wr K) M1:=by
  intro ρ H hd a xs ds Q z hR q r e hQ
  obtain⟨ns,e1,e⟩:=Option.bind_eq_some_iff.mp e
  split at e
  . cases e
  . next hn=>
    cases e
    rw[DN e1]at r
    have:=FZ r
    subst this
    have u:∀ M:Int,M ∈ ns->(∀ x ∈ ns,x <= M)->M=GC ns:=λ M m1 m2=>by
      obtain⟨n1,n2⟩:=G6 hn
      have:=n2 M m1;have:=m2 _ n1;omega
    rcases q with q|⟨_,q⟩
    . exact .inl ⟨a,ns,rfl,q,CK hn,λ M m1 m2=>by rw[u M m1 m2];exact hQ H _ .refl hR (by simp[RD,RI])⟩
    . exact .inr ⟨a,ns,rfl,q,CK hn,λ M m1 m2=>by rw[u M m1 m2];exact hQ H _ .refl hR (by simp[RD,RI])⟩
theorem UR:RG K false (Ry K) OC:=by
  intro ρ H hd a xs ds Q z hR q r e hQ
  obtain⟨ns,e1,e⟩:=Option.bind_eq_some_iff.mp e
  split at e
  . cases e
  . next hn=>
    cases e
    rw[DN e1]at r
    have:=FZ r
    subst this
    have u:∀ M:Int,M ∈ ns->(∀ x ∈ ns,M <= x)->M=Go ns:=λ M m1 m2=>by
      obtain⟨n1,n2⟩:=Hg hn
      have:=n2 M m1;have:=m2 _ n1;omega
    rcases q with q|⟨q,_⟩
    . exact⟨a,ns,rfl,q,CK hn,λ M m1 m2=>by rw[u M m1 m2];exact hQ H _ .refl hR (by simp[RD,RI])⟩
    . cases q
noncomputable def WN:List D->Hd->Option (D × Hd)
  | [.im (.int i),.im (.int j)],hd=>some (.im (.int (if j > i then j else i)),hd)
  | _,_=>none
noncomputable def WM:List D->Hd->Option (D × Hd)
  | [.im (.int i),.im (.int j)],hd=>some (.im (.int (if j < i then j else i)),hd)
  | _,_=>none
noncomputable def X1:List D->Hd->Option (D × Hd)
  | [.im (.int i)],hd=>some (.im (.int (if i < 0 then -i else i)),hd)
  | _,_=>none
noncomputable def WC(ma:ME):MA:=λ ls hd=>(ma ls hd).bind λ p=>(BX p.2 p.1).map (·,p.2)
noncomputable def Jc(ml:MA):MA:=ml
theorem QY{t:TE}{m:MA}(h:RN K t m):RN K (tCB (K1 K) (BZ t C8)) (Jc m):=by
  intro ρ σ H hd ls Q d hd' hR hL hm hQ
  refine h ρ σ H hd ls _ d _ hR hL hm λ ρ1 H1 a xs x1 R1 na oa ea r1=>?_
  refine⟨a,xs,rfl,.inl (SqL.of ea),λ l hl=>?_⟩
  obtain⟨R2,x2⟩:=R1.hid (ho:=.lst xs) hl
  exact hQ ρ1 _ l xs (x1.trans R1 x2) R2 (x1.none hR hl R1) (R1.out hl) AR (r1.ext R1 x2)
noncomputable def HC:I->Option V
  | .non=>some .non
  | .bl b=>some (.bl b)
  | .int i=>some (.int i)
  | .str x=>some (.str x)
  | .tup _=>none
noncomputable def EH:List D->Option (List V)
  | []=>some []
  | .im i :: r=>(HC i).bind λ v=>(EH r).map (v :: ·)
  | _ :: _=>none
theorem MC{i:I}{v w:V}(e:HC i=some w)(h:RI K H i v):v=w/\FD w=true:=by
  cases i with
  | tup _=>simp[HC]at e
  | _=>simp only[HC,Option.some.injEq]at e;subst e;exact⟨by simpa only[RI]using h,rfl⟩
theorem Kc:∀ {ds:List D} {vs ws:List V},EH ds=some ws->RDs K ρ H ds vs->vs=ws/\ws.all FD=true
  | [],vs,ws,e,h=>by simp[EH]at e;subst e;simp only[RDs]at h;subst h;exact⟨rfl,rfl⟩
  | .im i :: r,vs,ws,e,h=>by
    simp only[EH]at e
    obtain⟨v,e1,e⟩:=Option.bind_eq_some_iff.mp e
    obtain⟨us,e2,rfl⟩:=Option.map_eq_some_iff.mp e
    simp only[RDs,RD]at h
    obtain⟨x,y,rfl,h1,h2⟩:=h
    obtain⟨rfl,f1⟩:=MC e1 h1
    obtain⟨rfl,f2⟩:=Kc e2 h2
    exact⟨rfl,by simp[f1,f2]⟩
  | .mu _ :: _,_,_,e,_=>by simp[EH]at e
  | .tm _ :: _,_,_,e,_=>by simp[EH]at e
  | .ro _ :: _,_,_,e,_=>by simp[EH]at e
noncomputable def gIn(neg:Bool):D->D->Hd->Option (D × Hd)
  | .im i,e,hd=>(HC i).bind λ x=>(BX hd e).bind λ ds=>(EH ds).map λ xs=>(.im (.bl (if neg then !inV x xs else inV x xs)),hd)
  | _,_,_=>none
theorem Ru{neg:Bool}:RB K (rIn K neg) (gIn neg):=by
  intro ρ H hd d e v u Q z hd' hR h1 h2 hf hQ
  unfold gIn at hf
  split at hf
  . obtain⟨x,e1,hf⟩:=Option.bind_eq_some_iff.mp hf
    obtain⟨ds,e2,hf⟩:=Option.bind_eq_some_iff.mp hf
    obtain⟨xs,e3,e4⟩:=Option.map_eq_some_iff.mp hf
    cases e4
    simp only[RD]at h1
    obtain⟨rfl,f1⟩:=MC e1 h1
    obtain⟨a,ys,rfl,q,r⟩:=h2.seq hR e2
    obtain⟨rfl,f2⟩:=Kc e3 r
    exact⟨a,ys,rfl,q,f1,f2,hQ ρ H _ .refl hR (by simp[RD,RI])⟩
  . cases hf
noncomputable def mMt(f:D->List D->Hd->Option (D × Hd))(mo:ME)(ma:MA):ME:=λ ls hd=>(mo ls hd).bind λ p=>match BI p.2 p.1 with
  | some _=>(ma ls p.2).bind λ q=>f p.1 q.1 q.2
  | none=>none
noncomputable def RM(K:PySem.W.Frag)(r:V->List V->Hp->VK->Prop)(f:D->List D->Hd->Option (D × Hd)):Prop:=∀ (ρ:List Addr) (H:Hp) (hd:Hd) (d:D) (v:V) (ds:List D) (vs:List V) (Q:VK) (z:D) (hd':Hd),RH K ρ H hd->RD K ρ H d v->RDs K ρ H ds vs->f d ds hd=some (z,hd') ->
  (∀ ρ' H' w,Ext ρ H ρ' H'->RH K ρ' H' hd'->RD K ρ' H' z w->Q w H')->r v vs H Q
theorem Vu{r:V->List V->Hp->VK->Prop}{f:D->List D->Hd->Option (D × Hd)}{to:TE}{t:TA}{mo:ME}{ma:MA}(hr:RM K r f)(ho:RE K to mo)(ha:RA K t ma):RE K (tBM K "list" r to t) (mMt f mo ma):=by
  intro ρ σ H hd ls Q d hd' hR hL hm hQ
  obtain⟨⟨d1,h1⟩,e1,hm⟩:=Option.bind_eq_some_iff.mp hm
  dsimp only at hm
  split at hm
  . next e=>
    obtain⟨⟨d2,h2⟩,e2,hm⟩:=Option.bind_eq_some_iff.mp hm
    refine ho ρ σ H hd ls _ d1 h1 hR hL e1 λ ρ1 H1 v x1 R1 r1=>⟨?_,?_⟩
    . obtain⟨a,xs,rfl,q,_⟩:=r1.lst R1 e
      exact .inl ⟨rfl,xs,q⟩
    . exact ha ρ1 σ H1 h1 ls _ d2 h2 R1 (hL.ext hR x1) e2 λ ρ2 H2 vs x2 R2 r2=>hr ρ2 H2 h2 d1 v d2 vs Q d hd' R2 (r1.ext R1 x2) r2 hm λ ρ' H' w x3 R3 r3=>hQ ρ' H' w ((x1.trans R1 x2).trans R2 x3) R3 r3
  . cases hm
open Classical in
noncomputable def CW:D->List D->Hd->Option (D × Hd)
  | .mu n,[x],hd=>match hd[n]? with
    | some (.lst ds)=>if HD ds.length then some (.im .non,hd.set n (.lst (ds ++ [x])))else none
    | _=>none
  | _,_,_=>none
theorem EX:RM K Mz CW:=by
  intro ρ H hd d v ds vs Q z hd' hR h1 h2 hf hQ
  unfold CW at hf
  split at hf
  . split at hf
    . next q=>
      split at hf
      . next c=>
        cases hf
        simp only[RD]at h1
        obtain⟨a,hn,rfl⟩:=h1
        simp only[RDs]at h2
        obtain⟨x,r,rfl,rx,rfl⟩:=h2
        obtain⟨xs,e1,e2⟩:=hR.lst hn q
        obtain⟨R2,x2⟩:=hR.put hn (o:=.lst (_ ++ [_])) (ho:=.lst (xs ++ [x])) ⟨_,rfl,e2.app (.cons rx .nil)⟩
        exact⟨a,xs,x,rfl,rfl,e1,by rw[e2.len];exact c,hQ ρ _ _ x2 R2 (by simp[RD,RI])⟩
      . cases hf
    . cases hf
  . cases hf
end
end L2
namespace L2
open PySem PySem.Spec PyProof.Rows
section
variable{K:PySem.W.Frag}{ρ ρ':List Addr}{H H':Hp}{hd hd':Hd}
noncomputable def B9:MS:=λ ls hd=>some (.nx ls,hd)
theorem ST:RS K NX B9:=by
  intro ρ σ H hd ls E f hd' hR hL hm hQ
  cases hm
  exact hQ ρ H .refl hR σ hL
noncomputable def AN(a b:MS):MS:=λ ls hd=>(a ls hd).bind λ p=>match p.1 with
  | .nx ls1=>b ls1 p.2
  | f=>some (f,p.2)
theorem UI{t u:TS}{a b:MS}(ha:RS K t a)(hb:RS K u b):RS K (Q3 t u) (AN a b):=by
  intro ρ σ H hd ls E f hd' hR hL hm hQ
  obtain⟨⟨f1,h1⟩,e1,hm⟩:=Option.bind_eq_some_iff.mp hm
  refine ha ρ σ H hd ls { E with nx:=u E } f1 h1 hR hL e1 λ ρ1 H1 x1 R1=>?_
  cases f1 with
  | nx ls1=>
    intro σ1 L1
    exact hb ρ1 σ1 H1 h1 ls1 E f hd' R1 L1 hm λ ρ2 H2 x2 R2=>hQ ρ2 H2 (x1.trans R1 x2) R2
  | bk ls1=>cases hm;exact hQ ρ1 H1 x1 R1
  | ct ls1=>cases hm;exact hQ ρ1 H1 x1 R1
  | rt d=>cases hm;exact hQ ρ1 H1 x1 R1
noncomputable def VC:MS:=λ ls hd=>some (.bk ls,hd)
noncomputable def WG:MS:=λ ls hd=>some (.ct ls,hd)
noncomputable def Cj(m:ME):MS:=λ ls hd=>(m ls hd).bind λ p=>some (.nx ls,p.2)
theorem SU{t:TE}{m:ME}(h:RE K t m):RS K (Na t) (Cj m):=by
  intro ρ σ H hd ls E f hd' hR hL hm hQ
  obtain⟨⟨d1,h1⟩,e1,hm⟩:=Option.bind_eq_some_iff.mp hm
  cases hm
  exact h ρ σ H hd ls _ d1 _ hR hL e1 λ ρ1 H1 v x1 R1 r1=>hQ ρ1 H1 x1 R1 σ (hL.ext hR x1)
noncomputable def Av(m:ME):MS:=λ ls hd=>(m ls hd).bind λ p=>some (.rt p.1,p.2)
theorem UJ{t:TE}{m:ME}(h:RE K t m):RS K (Q4 t) (Av m):=by
  intro ρ σ H hd ls E f hd' hR hL hm hQ
  obtain⟨⟨d1,h1⟩,e1,hm⟩:=Option.bind_eq_some_iff.mp hm
  cases hm
  exact h ρ σ H hd ls _ d1 _ hR hL e1 λ ρ1 H1 v x1 R1 r1=>hQ ρ1 H1 x1 R1 v r1
noncomputable def W9:MS:=λ _ hd=>some (.rt (.im .non),hd)
noncomputable def BK(c:MT)(a b:MS):MS:=λ ls hd=>(c ls hd).bind λ p=>if p.1=true then a ls p.2 else b ls p.2
theorem Vs{tc:TT}{t u:TS}{c:MT}{a b:MS}(hc:RT K tc c)(ha:RS K t a)(hb:RS K u b):RS K (Q9 tc t u) (BK c a b):=by
  intro ρ σ H hd ls E f hd' hR hL hm hQ
  obtain⟨⟨d1,h1⟩,e1,hm⟩:=Option.bind_eq_some_iff.mp hm
  refine hc ρ σ H hd ls _ d1 h1 hR hL e1 λ ρ1 H1 x1 R1=>?_
  cases d1 with
  | true=>
    rw[if_pos rfl]at hm ⊢
    exact ha ρ1 σ H1 h1 ls E f hd' R1 (hL.ext hR x1) hm λ ρ2 H2 x2 R2=>hQ ρ2 H2 (x1.trans R1 x2) R2
  | false=>
    rw[if_neg Bool.false_ne_true]at hm ⊢
    exact hb ρ1 σ H1 h1 ls E f hd' R1 (hL.ext hR x1) hm λ ρ2 H2 x2 R2=>hQ ρ2 H2 (x1.trans R1 x2) R2
noncomputable def Dq:MS:=λ _ _=>none
theorem QQ:RS K LH Dq:=by
  intro ρ σ H hd ls E f hd' hR hL hm hQ
  cases hm
noncomputable abbrev MG:=D->Ls->Hd->Option Ls
noncomputable abbrev MGs:=List D->Ls->Hd->Option Ls
noncomputable def RGt(K:PySem.W.Frag)(t:TG)(m:MG):Prop:=∀ (ρ:List Addr) (σ:St) (H:Hp) (hd:Hd) (ls ls':Ls) (d:D) (v:V) (Q:St->Hp->Prop),RH K ρ H hd->RL K ρ H ls σ->RD K ρ H d v->m d ls hd=some ls' ->
  (∀ σ',RL K ρ H ls' σ'->Q σ' H)->t v σ H Q
noncomputable def MZ(K:PySem.W.Frag)(t:TGs)(m:MGs):Prop:=∀ (ρ:List Addr) (σ:St) (H:Hp) (hd:Hd) (ls ls':Ls) (d:List D) (v:List V) (Q:St->Hp->Prop),RH K ρ H hd->RL K ρ H ls σ->RDs K ρ H d v->m d ls hd=some ls' ->
  (∀ σ',RL K ρ H ls' σ'->Q σ' H)->t v σ H Q
theorem RL.set{ls:Ls}{σ:St}{d:D}{v:V}(h:RL K ρ H ls σ)(i:Nat)(r:RD K ρ H d v):RL K ρ H (ls.set i (some d)) (σ.set i (some v)):=by
  refine⟨by simp[h.len],λ j e q=>?_⟩
  by_cases hij:i=j
  . subst hij
    have hl:i < ls.length:=by
      have:=(List.getElem?_eq_some_iff.mp q).1
      simpa using this
    rw[List.getElem?_set_self hl]at q
    cases q
    exact⟨v,by rw[List.getElem?_set_self (by rw[<- h.len];exact hl)],r⟩
  . rw[List.getElem?_set_ne hij]at q
    obtain⟨w,e1,e2⟩:=h.ob j e q
    exact⟨w,by rw[List.getElem?_set_ne hij];exact e1,e2⟩
noncomputable def AU(i:Nat):MG:=λ d ls _=>some (ls.set i (some d))
theorem Jy{i:Nat}:RGt K (Gz i) (AU i):=by
  intro ρ σ H hd ls ls' d v Q hR hL hd hm hQ
  cases hm
  exact hQ _ (hL.set i hd)
noncomputable def Dn:MGs:=λ ds ls _=>match ds with
  | []=>some ls
  | _=>none
noncomputable def Au(m:MG)(r:MGs):MGs:=λ ds ls hd=>match ds with
  | d :: es=>(m d ls hd).bind λ ls1=>r es ls1 hd
  | []=>none
theorem Sd:MZ K Ra Dn:=by
  intro ρ σ H hd ls ls' d v Q hR hL hd hm hQ
  cases d with
  | nil=>
    simp only[RDs]at hd;subst hd
    cases hm
    exact⟨rfl,hQ _ hL⟩
  | cons a b=>cases hm
theorem Qb{t:TG}{u:TGs}{m:MG}{r:MGs}(h:RGt K t m)(h':MZ K u r):MZ K (OM t u) (Au m r):=by
  intro ρ σ H hd ls ls' d v Q hR hL hd hm hQ
  cases d with
  | nil=>cases hm
  | cons a b=>
    simp only[RDs]at hd
    obtain⟨x,y,rfl,h1,h2⟩:=hd
    obtain⟨ls1,e1,e2⟩:=Option.bind_eq_some_iff.mp hm
    exact⟨x,y,rfl,h ρ σ H _ ls ls1 a x _ hR hL h1 e1 λ σ1 L1=>h' ρ σ1 H _ ls1 ls' b y Q hR L1 h2 e2 hQ⟩
noncomputable def Dm(n:Nat)(r:MGs):MG:=λ d ls hd=>(Ap d).bind λ ds=>if ds.length=n then r ds ls hd else none
theorem UQ{n:Nat}{u:TGs}{r:MGs}(h':MZ K u r):RGt K (OL K n u) (Dm n r):=by
  intro ρ σ H hd ls ls' d v Q hR hL hd hm hQ
  obtain⟨ds,e1,hm⟩:=Option.bind_eq_some_iff.mp hm
  split at hm
  . next c=>
    obtain⟨a,xs,rfl,q,rr⟩:=hd.tup e1
    exact⟨a,xs,rfl,q,by rw[rr.len];exact c,h' ρ σ H _ ls ls' ds xs Q hR hL rr hm hQ⟩
  . cases hm
noncomputable def Iu(m:ME)(g:MG):MS:=λ ls hd=>(m ls hd).bind λ p=>(g p.1 ls p.2).map λ ls'=>(.nx ls',p.2)
theorem LS{t:TE}{m:ME}{g:TG}{n:MG}(h:RE K t m)(hg:RGt K g n):RS K (Ii t g) (Iu m n):=by
  intro ρ σ H hd ls E f hd' hR hL hm hQ
  obtain⟨⟨d1,h1⟩,e1,hm⟩:=Option.bind_eq_some_iff.mp hm
  obtain⟨ls',e2,e3⟩:=Option.map_eq_some_iff.mp hm
  cases e3
  exact h ρ σ H hd ls _ d1 _ hR hL e1 λ ρ1 H1 v x1 R1 r1=>hg ρ1 σ H1 _ ls ls' d1 v _ R1 (hL.ext hR x1) r1 e2 λ σ' L'=>hQ ρ1 H1 x1 R1 σ' L'
noncomputable abbrev Aj(i:Nat)(m:ME):MS:=Iu m (AU i)
noncomputable def RQ(ix:List Nat)(ma:MA):MS:=λ ls hd=>(ma ls hd).bind λ p=>if p.1.length=ix.length then some (.nx ((ix.zip p.1).foldl (λ l q=>l.set q.1 (some q.2)) ls),p.2)else none
noncomputable def WB(i j k:Nat)(ma:MA):MS:=RQ [k,j,i] (λ ls hd=>(ma ls hd).map λ p=>(p.1.reverse,p.2))
noncomputable abbrev Gd:=List (Nat × List D)
noncomputable abbrev MI:=Ls->Hd->Option ((List D × Gd) × Hd)
noncomputable def GOk(hd:Hd)(g:Gd):Prop:=∀ p ∈ g,hd[p.1]? = some (.lst p.2)
@[simp] theorem Ak(hd:Hd):GOk hd []:=λ p h=>by cases h
noncomputable def MX(K:PySem.W.Frag)(ρ:List Addr)(H:Hp)(J:It)(ds:List D)(g:Gd):Prop:=∀ (ρ2:List Addr) (H2:Hp) (hd2:Hd),Ext ρ H ρ2 H2->RH K ρ2 H2 hd2->GOk hd2 g ->
  ∀ i:Nat,(i < ds.length->J.go i H2/\∀ x H3,J.yld i H2 x H3->∃ ρ3 d,Ext ρ2 H2 ρ3 H3/\ρ3=ρ2/\RH K ρ3 H3 hd2/\ds[i]? = some d/\RD K ρ3 H3 d x)/\(i=ds.length->J.stop i H2)
noncomputable def RIt(K:PySem.W.Frag)(t:TI)(m:MI):Prop:=∀ (ρ:List Addr) (σ:St) (H:Hp) (hd:Hd) (ls:Ls) (Q:It->Hp->Prop) (d:List D) (g:Gd) (hd':Hd),RH K ρ H hd->RL K ρ H ls σ->m ls hd=some ((d,g),hd') ->
  (∀ ρ' H' J,Ext ρ H ρ' H'->RH K ρ' H' hd'->GOk hd' g->MX K ρ' H' J d g->Q J H')->t σ H Q
theorem NK{a:Addr}{xs:List V}{ds:List D}(hR:RH K ρ H hd)(q:SqT K H a xs)(r:RDs K ρ H ds xs)(g:Gd):MX K ρ H (Itt K a) ds g:=by
  intro ρ2 H2 hd2 x2 R2 _ i
  have q2:=(x2.grow hR).sq q
  have r2:=r.ext hR x2
  have uniq:∀ ys,SqT K H2 a ys->True:=λ _ _=>trivial
  refine⟨λ hi=>?_,λ hi=>⟨xs,q2,by rw[r2.len,hi];exact Nat.le_refl _⟩⟩
  have e:ds[i]? = some ds[i]:=by simp[hi]
  obtain⟨x,x1,x3⟩:=r2.get e
  refine⟨⟨xs,x,q2,x1⟩,λ y H3 ⟨e3,hy⟩=>?_⟩
  subst e3
  have:=hy xs q2
  rw[x1]at this
  cases this
  exact⟨ρ2,_,.refl,rfl,R2,e,x3⟩
noncomputable def Cu(m:ME):MI:=λ ls hd=>(m ls hd).bind λ p=>(Ap p.1).map λ ds=>((ds,[]),p.2)
theorem UO{t:TE}{m:ME}(h:RE K t m):RIt K (OF K t) (Cu m):=by
  intro ρ σ H hd ls Q d g hd' hR hL hm hQ
  obtain⟨⟨d1,h1⟩,e1,hm⟩:=Option.bind_eq_some_iff.mp hm
  obtain⟨ds,e2,e3⟩:=Option.map_eq_some_iff.mp hm
  cases e3
  refine h ρ σ H hd ls _ d1 _ hR hL e1 λ ρ1 H1 v x1 R1 r1=>?_
  obtain⟨a,xs,rfl,q,r⟩:=r1.tup e2
  exact⟨a,rfl,⟨xs,q⟩,hQ ρ1 H1 _ x1 R1 (Ak _) (NK R1 q r [])⟩
noncomputable def DX(m:ME):MI:=λ ls hd=>(m ls hd).bind λ p=>match p.1 with
  | .mu n=>match p.2[n]? with
    | some (.lst ds)=>some ((ds,[(n,ds)]),p.2)
    | _=>none
  | .ro ns=>some ((ns.map λ n=>.im (.int n),[]),p.2)
  | _=>none
theorem Sb{t:TE}{m:ME}(h:RE K t m):RIt K (IR K t) (DX m):=by
  intro ρ σ H hd ls Q d g hd' hR hL hm hQ
  obtain⟨⟨d1,h1⟩,e1,hm⟩:=Option.bind_eq_some_iff.mp hm
  dsimp only at hm
  split at hm
  . next n=>
    split at hm
    . next ds q=>
      cases hm
      refine h ρ σ H hd ls _ _ _ hR hL e1 λ ρ1 H1 v x1 R1 r1=>?_
      simp only[RD]at r1
      obtain⟨a,hn,rfl⟩:=r1
      obtain⟨xs,e2,e3⟩:=R1.lst hn q
      refine⟨a,rfl,⟨xs,SqL.of e2⟩,hQ ρ1 H1 _ x1 R1 (λ p z=>by simp at z;subst z;exact q) ?_⟩
      intro ρ2 H2 hd2 x2 R2 G2 i
      have q2:=G2 (n,d) (by simp)
      have hn2:ρ2[n]? = some a:=by
        obtain⟨r,rfl,_⟩:=x2.pre
        rw[List.getElem?_append_left (List.getElem?_eq_some_iff.mp hn).1];exact hn
      obtain⟨ys,e4,e5⟩:=R2.lst hn2 q2
      refine⟨λ hi=>?_,λ hi=>⟨ys,SqL.of e4,by rw[e5.len,hi];exact Nat.le_refl _⟩⟩
      have e:d[i]? = some d[i]:=by simp[hi]
      obtain⟨x,y1,y2⟩:=e5.get e
      refine⟨⟨ys,x,SqL.of e4,y1⟩,λ y H3 ⟨e6,hy⟩=>?_⟩
      subst e6
      have:=hy ys (SqL.of e4)
      rw[y1]at this
      cases this
      exact⟨ρ2,_,.refl,rfl,R2,e,y2⟩
    . cases hm
  . next ns=>
    cases hm
    refine h ρ σ H hd ls _ _ _ hR hL e1 λ ρ1 H1 v x1 R1 r1=>?_
    simp only[RD]at r1
    obtain⟨a,rfl,q⟩:=r1
    refine⟨a,rfl,⟨_,q.sq⟩,hQ ρ1 H1 _ x1 R1 (Ak _) ?_⟩
    intro ρ2 H2 hd2 x2 R2 G2 i
    have q2:=(q.grow (x2.grow R1)).sq
    have e5:RDs K ρ2 H2 (ns.map λ n=>.im (.int n)) (ns.map V.int):=EZ
    refine⟨λ hi=>?_,λ hi=>⟨_,q2,by rw[e5.len,hi];exact Nat.le_refl _⟩⟩
    have e:(ns.map λ n=>D.im (.int n))[i]? = some ((ns.map λ n=>D.im (.int n))[i]):=by simp[hi]
    obtain⟨x,y1,y2⟩:=e5.get e
    refine⟨⟨_,x,q2,y1⟩,λ y H3 ⟨e6,hy⟩=>?_⟩
    subst e6
    have:=hy _ q2
    rw[y1]at this
    cases this
    exact⟨ρ2,_,.refl,rfl,R2,e,y2⟩
  . cases hm
noncomputable def Fs(ml:MA):MI:=λ ls hd=>(ml ls hd).map λ p=>((p.1,[]),p.2)
theorem UP{t:TE}{m:MA}(h:RN K t m):RIt K (IR K t) (Fs m):=by
  intro ρ σ H hd ls Q d g hd' hR hL hm hQ
  obtain⟨⟨d1,h1⟩,e1,e3⟩:=Option.map_eq_some_iff.mp hm
  obtain⟨⟨rfl,rfl⟩,rfl⟩:=Prod.mk.inj e3 |>.imp Prod.mk.inj id
  clear e3 hm
  refine h ρ σ H hd ls _ _ _ hR hL e1 λ ρ1 H1 a xs x1 R1 na oa ea r1=>?_
  refine⟨a,rfl,⟨xs,SqL.of ea⟩,hQ ρ1 H1 _ x1 R1 (Ak _) ?_⟩
  intro ρ2 H2 hd2 x2 R2 G2 i
  have q2:SqL K H2 a xs:=SqL.of (x2.keep a _ ea oa nt)
  have r2:=r1.ext R1 x2
  refine⟨λ hi=>?_,λ hi=>⟨xs,q2,by rw[r2.len,hi];exact Nat.le_refl _⟩⟩
  have hi:i < d1.length:=hi
  have e:d1[i]? = some d1[i]:=by simp[hi]
  obtain⟨x,y1,y2⟩:=r2.get e
  refine⟨⟨xs,x,q2,y1⟩,λ y H3 ⟨e6,hy⟩=>?_⟩
  subst e6
  have:=hy xs q2
  rw[y1]at this
  cases this
  exact⟨ρ2,_,.refl,rfl,R2,e,y2⟩
noncomputable def Ax(lo:Int):Nat->List D
  | 0=>[]
  | n + 1=>.im (.int lo) :: Ax (lo + 1) n
@[simp] theorem JL(lo:Int)(n:Nat):(Ax lo n).length=n:=by
  induction n generalizing lo with
  | zero=>rfl
  | succ n ih=>simp[Ax,ih]
theorem JM{n:Nat}:∀ {lo:Int} {i:Nat},i < n->(Ax lo n)[i]? = some (.im (.int (lo + i))):=by
  induction n with
  | zero=>intro lo i h;omega
  | succ n ih=>
    intro lo i h
    cases i with
    | zero=>simp[Ax]
    | succ i=>
      simp only[Ax,List.getElem?_cons_succ]
      rw[ih (by omega)]
      congr 3
      push_cast
      omega
theorem J9{lo:Int}{n:Nat}{g:Gd}:MX K ρ H (Itr lo n) (Ax lo n) g:=by
  intro ρ2 H2 hd2 x2 R2 G2 i
  refine⟨λ hi=>?_,λ hi=>by rw[hi,JL];exact Nat.le_refl _⟩
  rw[JL]at hi
  refine⟨hi,λ x H3 ⟨e1,e2⟩=>?_⟩
  subst e1 e2
  exact⟨ρ2,_,.refl,rfl,R2,JM hi,by simp[RD,RI]⟩
open Classical in
noncomputable def GD(m:MA):MI:=λ ls hd=>(m ls hd).bind λ p=>match p.1 with
  | [.im (.int j)]=>if Jx j then some ((Ax 0 j.toNat,[]),p.2)else none
  | _=>none
theorem Sa{t:TA}{m:MA}(h:RA K t m):RIt K (OH t) (GD m):=by
  intro ρ σ H hd ls Q d g hd' hR hL hm hQ
  obtain⟨⟨d1,h1⟩,e1,hm⟩:=Option.bind_eq_some_iff.mp hm
  dsimp only at hm
  split at hm
  . next j=>
    split at hm
    . next c=>
      cases hm
      refine h ρ σ H hd ls _ _ _ hR hL e1 λ ρ1 H1 v x1 R1 r1=>?_
      simp only[RDs,RD,RI]at r1
      obtain⟨x,r,rfl,rfl,rfl⟩:=r1
      exact⟨j,rfl,c.1,c.2,hQ ρ1 H1 _ x1 R1 (Ak _) J9⟩
    . cases hm
  . cases hm
open Classical in
noncomputable def IN(m:MA):MI:=λ ls hd=>(m ls hd).bind λ p=>match p.1 with
  | [.im (.int i),.im (.int j)]=>if Nl i j then some ((Ax i (j - i).toNat,[]),p.2)else none
  | _=>none
theorem SZ{t:TA}{m:MA}(h:RA K t m):RIt K (OG t) (IN m):=by
  intro ρ σ H hd ls Q d g hd' hR hL hm hQ
  obtain⟨⟨d1,h1⟩,e1,hm⟩:=Option.bind_eq_some_iff.mp hm
  dsimp only at hm
  split at hm
  . next i j=>
    split at hm
    . next c=>
      cases hm
      refine h ρ σ H hd ls _ _ _ hR hL e1 λ ρ1 H1 v x1 R1 r1=>?_
      simp only[RDs,RD,RI]at r1
      obtain⟨x,r,rfl,rfl,y,r2,rfl,rfl,rfl⟩:=r1
      exact⟨i,j,rfl,⟨c.1.1,c.1.2,c.2.1,c.2.2⟩,hQ ρ1 H1 _ x1 R1 (Ak _) J9⟩
    . cases hm
  . cases hm
open Classical in
noncomputable def By(n:MG)(b:MS)(g:Gd):List D->Ls->Hd->Option (Fl × Hd)
  | [],ls,hd=>some (.nx ls,hd)
  | d :: r,ls,hd=>(n d ls hd).bind λ ls1=>(b ls1 hd).bind λ p=>match p.1 with
    | .nx ls2=>if GOk p.2 g then By n b g r ls2 p.2 else none
    | .ct ls2=>if GOk p.2 g then By n b g r ls2 p.2 else none
    | .bk ls2=>some (.nx ls2,p.2)
    | .rt d=>some (.rt d,p.2)
noncomputable def DI(mi:MI)(n:MG)(b:MS):MS:=λ ls hd=>(mi ls hd).bind λ p=>By n b p.1.2 p.1.1 ls p.2
theorem UK{wi:TI}{g:TG}{tb:TS}{mi:MI}{n:MG}{b:MS}(hi:RIt K wi mi)(hg:RGt K g n)(hb:RS K tb b):RS K (QB wi g tb) (DI mi n b):=by
  intro ρ σ H hd ls E f hd' hR hL hm hQ
  obtain⟨⟨⟨ds,gd⟩,h1⟩,e1,hm⟩:=Option.bind_eq_some_iff.mp hm
  refine hi ρ σ H hd ls _ ds gd h1 hR hL e1 λ ρ1 H1 J x1 R1 G1 Y=>?_
  dsimp only at hm
  refine⟨λ i m σ2 H2=>m=ds.length - i/\i <= ds.length/\∃ ρ2 ls2 hd2,Ext ρ1 H1 ρ2 H2/\RH K ρ2 H2 hd2/\RL K ρ2 H2 ls2 σ2/\GOk hd2 gd/\By n b gd (ds.drop i) ls2 hd2=some (f,hd'),
    ⟨ds.length,by simp,Nat.zero_le _,ρ1,ls,h1,.refl,R1,hL.ext hR x1,G1,by simpa using hm⟩,?_⟩
  rintro i m σ2 H2 ⟨rfl,hi,ρ2,ls2,hd2,x2,R2,L2',G2,hm2⟩
  obtain⟨Y1,Y2⟩:=Y ρ2 H2 hd2 x2 R2 G2 i
  by_cases hlt:i < ds.length
  . obtain⟨go,Y1⟩:=Y1 hlt
    have ed:ds.drop i=ds[i] :: ds.drop (i + 1):=List.drop_eq_getElem_cons hlt
    rw[ed]at hm2
    unfold By at hm2
    obtain⟨ls3,e3,hm2⟩:=Option.bind_eq_some_iff.mp hm2
    obtain⟨⟨fl,hd4⟩,e4,hm2⟩:=Option.bind_eq_some_iff.mp hm2
    refine .inr ⟨go,λ σ' H'=>∃ ρ2 ls2 hd2,Ext ρ1 H1 ρ2 H'/\RH K ρ2 H' hd2/\RL K ρ2 H' ls2 σ'/\GOk hd2 gd/\By n b gd (ds.drop (i + 1)) ls2 hd2=some (f,hd'),λ σ' H' z=>⟨ds.length - (i + 1),by omega,rfl,hlt,z⟩,λ x H3 y=>?_⟩
    obtain⟨ρ3,d3,x3,rfl,R3,e5,r3⟩:=Y1 x H3 y
    have e6:d3=ds[i]:=by
      have:ds[i]? = some ds[i]:=by simp[hlt]
      rw[this]at e5;exact(Option.some.inj e5).symm
    subst e6
    refine hg ρ3 σ2 H3 hd2 ls2 ls3 _ x _ R3 (L2'.ext R2 x3) r3 e3 λ σ4 L4=>?_
    refine hb ρ3 σ4 H3 hd2 ls3 _ fl hd4 R3 L4 e4 λ ρ5 H5 x5 R5=>?_
    have x15:=(x2.trans R2 x3).trans R3 x5
    cases fl with
    | nx ls5=>
      intro σ5 L5
      dsimp only at hm2
      split at hm2
      . next c=>exact⟨ρ5,ls5,hd4,x15,R5,L5,c,hm2⟩
      . cases hm2
    | ct ls5=>
      intro σ5 L5
      dsimp only at hm2
      split at hm2
      . next c=>exact⟨ρ5,ls5,hd4,x15,R5,L5,c,hm2⟩
      . cases hm2
    | bk ls5=>
      intro σ5 L5
      cases hm2
      exact hQ ρ5 H5 (x1.trans R1 x15) R5 σ5 L5
    | rt d5=>
      intro v5 r5
      cases hm2
      exact hQ ρ5 H5 (x1.trans R1 x15) R5 v5 r5
  . have e:i=ds.length:=by omega
    subst e
    rw[List.drop_length]at hm2
    unfold By at hm2
    cases hm2
    exact .inl ⟨Y2 rfl,hQ ρ2 H2 (x1.trans R1 x2) R2 σ2 L2'⟩
open Classical in
noncomputable def BT(n:MG)(c:MT)(m:ME)(g:Gd):List D->Ls->Hd->Option (List D × Hd)
  | [],_,hd=>some ([],hd)
  | d :: r,ls,hd=>(n d ls hd).bind λ ls1=>(c ls1 hd).bind λ p=>if p.1=true then(m ls1 p.2).bind λ q=>if GOk q.2 g then(BT n c m g r ls1 q.2).map λ z=>(q.1 :: z.1,z.2)else none else if GOk p.2 g then BT n c m g r ls1 p.2 else none
noncomputable def G9(k:Nat)(ix:List Nat)(ls:Ls):Ls:=List.replicate k none ++ ix.map λ i=>(ls[i]?).join
open Classical in
noncomputable def Bf(k:Nat)(ix:List Nat)(mi:MI)(n:MG)(c:MT)(m:ME):MA:=λ ls hd=>(mi ls hd).bind λ p=>if DP p.1.1.length then BT n c m p.1.2 p.1.1 (G9 k ix ls) p.2 else none
theorem U0{k:Nat}{ix:List Nat}{ls:Ls}{σ:St}(h:RL K ρ H ls σ):RL K ρ H (G9 k ix ls) (Hw k ix σ):=by
  refine⟨by simp[G9,Hw],λ i d e=>?_⟩
  unfold G9 at e
  unfold Hw
  by_cases hi:i < k
  . rw[List.getElem?_append_left (by simpa using hi),List.getElem?_replicate]at e
    split at e <;> cases e
  . have hi':k <= i:=Nat.not_lt.mp hi
    rw[List.getElem?_append_right (by simpa using hi'),List.length_replicate,List.getElem?_map]at e ⊢
    cases q:ix[i - k]? with
    | none=>rw[q]at e;cases e
    | some j=>
      rw[q]at e
      simp only[Option.map_some,Option.some.injEq]at e ⊢
      have e5:ls[j]? = some (some d):=by
        cases w:ls[j]? with
        | none=>rw[w]at e;cases e
        | some z=>rw[w]at e;simpa using e
      obtain⟨v,e6,e7⟩:=h.ob j d e5
      exact⟨v,by rw[e6];rfl,e7⟩
theorem Ms{k:Nat}{ix:List Nat}{wi:TI}{g:TG}{tf:TT}{te:TE}{mi:MI}{n:MG}{c:MT}{m:ME}(hi:RIt K wi mi)(hg:RGt K g n)(hf:RT K tf c)(he:RE K te m):RN K (JF k ix wi g tf te) (Bf k ix mi n c m):=by
  intro ρ σ H hd ls Q out hd' hR hL hm hQ
  obtain⟨⟨⟨ds,gd⟩,h1⟩,e1,hm⟩:=Option.bind_eq_some_iff.mp hm
  dsimp only at hm
  split at hm
  . next hlen=>
    have hlen:ds.length <= sizeLine:=hlen
    refine hi ρ σ H hd ls _ ds gd h1 hR hL e1 λ ρ1 H1 J x1 R1 G1 Y=>?_
    intro Da hDa
    obtain⟨R1',x1'⟩:=R1.hid (ho:=.lst []) hDa
    have oD:Da ∉ ρ1:=R1.out hDa
    have nD:H Da=none:=x1.none hR hDa R1
    refine⟨λ i mm σ2 ys H2=>mm=ds.length - i/\i <= ds.length/\∃ ρ2 ls2 hd2 es rest,Ext ρ1 (upd H1 Da (.lst ys)) ρ2 H2/\Ext ρ1 H1 ρ2 H2/\Da ∉ ρ2/\H2 Da=some (.lst ys)/\RH K ρ2 H2 hd2/\RL K ρ2 H2 ls2 σ2/\RDs K ρ2 H2 es ys/\es.length <= i/\GOk hd2 gd/\BT n c m gd (ds.drop i) ls2 hd2=some (rest,hd')/\out=es ++ rest,
      ⟨ds.length,by simp,Nat.zero_le _,ρ1,_,h1,[],out,.refl,x1',oD,AR,R1',(U0 ((hL.ext hR x1).ext R1 x1')),.nil,Nat.le_refl _,G1,by simpa using hm,rfl⟩,?_⟩
    rintro i mm σ2 ys H2 ⟨rfl,hi,ρ2,ls2,hd2,es,rest,x2',x2,oD2,hD2,R2,L2',r2,hle,G2,hm2,rfl⟩
    refine⟨hD2,?_⟩
    obtain⟨Y1,Y2⟩:=Y ρ2 H2 hd2 x2 R2 G2 i
    by_cases hlt:i < ds.length
    . obtain⟨go,Y1⟩:=Y1 hlt
      have ed:ds.drop i=ds[i] :: ds.drop (i + 1):=List.drop_eq_getElem_cons hlt
      rw[ed]at hm2
      unfold BT at hm2
      obtain⟨ls3,e3,hm2⟩:=Option.bind_eq_some_iff.mp hm2
      obtain⟨⟨bb,hd4⟩,e4,hm2⟩:=Option.bind_eq_some_iff.mp hm2
      refine .inr ⟨go,Nat.lt_of_le_of_lt (by rw[r2.len];exact hle) (by omega),λ σ' ys' H'=>∃ ρ2 ls2 hd2 es' rest',Ext ρ1 (upd H1 Da (.lst ys')) ρ2 H'/\Ext ρ1 H1 ρ2 H'/\Da ∉ ρ2/\H' Da=some (.lst ys')/\RH K ρ2 H' hd2/\RL K ρ2 H' ls2 σ'/\RDs K ρ2 H' es' ys'/\es'.length <= i + 1/\GOk hd2 gd/\BT n c m gd (ds.drop (i + 1)) ls2 hd2=some (rest',hd')/\es ++ rest=es' ++ rest',λ σ' ys' H' z=>⟨ds.length - (i + 1),by omega,rfl,hlt,z⟩,λ x H3 y=>?_⟩
      obtain⟨ρ3,d3,x3,rfl,R3,e5,r3⟩:=Y1 x H3 y
      have e6:d3=ds[i]:=by
        have:ds[i]? = some ds[i]:=by simp[hlt]
        rw[this]at e5;exact(Option.some.inj e5).symm
      subst e6
      refine hg ρ3 σ2 H3 hd2 ls2 ls3 _ x _ R3 (L2'.ext R2 x3) r3 e3 λ σ4 L4=>?_
      refine hf ρ3 σ4 H3 hd2 ls3 _ bb hd4 R3 L4 e4 λ ρ5 H5 x5 R5=>?_
      have hD5:H5 Da=some (.lst ys):=x5.keep Da _ (x3.keep Da _ hD2 oD2 nt) oD2 nt
      have out5:Da ∉ ρ5:=by
        obtain⟨r,rfl,fr⟩:=x5.pre
        intro z
        rcases List.mem_append.mp z with z|z
        . exact oD2 z
        . have:=fr _ z
          rw[x3.keep Da _ hD2 oD2 nt]at this;cases this
      cases bb with
      | false=>
        rw[if_neg Bool.false_ne_true]at hm2 ⊢
        have y25:=x3.trans R3 x5
        split at hm2
        . next g5=>exact⟨ρ5,ls3,hd4,es,rest,x2'.trans R2 y25,(x2.trans R2 y25),out5,hD5,R5,L4.ext R3 x5,(r2.ext R2 y25),by omega,g5,hm2,rfl⟩
        . cases hm2
      | true=>
        rw[if_pos rfl]at hm2 ⊢
        obtain⟨⟨z,hd6⟩,e6,hm2⟩:=Option.bind_eq_some_iff.mp hm2
        obtain⟨g6,hm2⟩:GOk hd6 gd/\((BT n c m gd (ds.drop (i + 1)) ls3 hd6).map λ q=>(z :: q.1,q.2))=some (rest,hd'):=by
          dsimp only at hm2
          split at hm2
          . next g6=>exact⟨g6,hm2⟩
          . cases hm2
        obtain⟨⟨zs,hd7⟩,e7,e8⟩:=Option.map_eq_some_iff.mp hm2
        cases e8
        refine he ρ5 σ4 H5 hd4 ls3 _ z hd6 R5 (L4.ext R3 x5) e6 λ ρ6 H6 v6 x6 R6 r6=>?_
        have hD6:H6 Da=some (.lst ys):=x6.keep Da _ hD5 out5 nt
        have out6:Da ∉ ρ6:=by
          obtain⟨r,rfl,fr⟩:=x6.pre
          intro z
          rcases List.mem_append.mp z with z|z
          . exact out5 z
          . have:=fr _ z
            rw[hD5]at this;cases this
        refine⟨hD6,?_⟩
        have y26:=(x3.trans R3 x5).trans R5 x6
        have gr:Grow H6 (upd H6 Da (.lst (ys ++ [v6]))):=Grow.refl.put (.lst hD6)
        have R7:=R6.hput (ho:=.lst (ys ++ [v6])) out6 hD6
        have x12:=x2.trans R2 y26
        have ext7:Ext ρ1 H1 ρ6 (upd H6 Da (.lst (ys ++ [v6]))):=⟨x12.pre,λ b o q nb t=>by
          have:b ≠ Da:=Af q hDa
          rw[AF this];exact x12.keep b o q nb t,λ b ps q=>by
          have:b ≠ Da:=Af q hDa
          rw[AF this];exact x12.tab b ps q⟩
        have ext8:Ext ρ1 (upd H1 Da (.lst (ys ++ [v6]))) ρ6 (upd H6 Da (.lst (ys ++ [v6]))):=by
          obtain⟨r,er,fr⟩:=x12.pre
          refine⟨⟨r,er,λ b hb=>?_⟩,λ b o q nb t=>?_,λ b ps q=>?_⟩
          . have:b ≠ Da:=λ z=>out6 (by rw[er,<- z];exact List.mem_append_right _ hb)
            rw[AF this];exact fr b hb
          . by_cases hb:b=Da
            . subst hb;rw[AR]at q ⊢;exact q
            . rw[AF hb]at q ⊢;exact x12.keep b o q nb t
          . by_cases hb:b=Da
            . subst hb;rw[AR]at q;cases q
            . rw[AF hb]at q ⊢;exact x12.tab b ps q
        refine⟨ρ6,ls3,hd6,es ++ [z],zs,ext8,ext7,out6,AR,R7,?_,?_,by simp;omega,g6,e7,by simp⟩
        . have L6:=(L4.ext R3 x5).ext R5 x6
          exact⟨L6.len,λ i d e=>let ⟨v,a,b⟩:=L6.ob i d e;⟨v,a,by simpa using b.mono gr []⟩⟩
        . have:=((r2.ext R2 y26).app (.cons r6 .nil)).mono gr []
          simpa using this
    . have e:i=ds.length:=by omega
      subst e
      rw[List.drop_length]at hm2
      unfold BT at hm2
      cases hm2
      refine .inl ⟨Y2 rfl,?_⟩
      exact hQ ρ2 H2 Da ys (x1.trans R1 x2) R2 nD oD2 hD2 (by simpa using r2)
  . cases hm
end
end L2
namespace L2
open PySem PySem.Spec PyProof.Rows
mutual
noncomputable def clD(w:Nat):D->Bool
  | .im _=>true
  | .mu n=>decide (n < w)
  | .tm ds=>BQ w ds
  | .ro _=>true
noncomputable def BQ(w:Nat):List D->Bool
  | []=>true
  | d :: ds=>clD w d && BQ w ds
end
noncomputable def GI(w:Nat):List (Key × D)->Bool
  | []=>true
  | d :: ds=>clD w d.2 && GI w ds
noncomputable def clO(w:Nat):MO->Bool
  | .lst ds=>BQ w ds
  | .dic ds=>GI w ds
section
variable{K:PySem.W.Frag}{ρ ρ' ρ1:List Addr}{H H' H1:Hp}{hd hd' h1 h2:Hd}
@[simp] theorem XB{w:Nat}(a b:List D):BQ w (a ++ b)=(BQ w a && BQ w b):=by induction a <;> simp_all [BQ,Bool.and_assoc]
mutual
theorem RD.take(w:Nat):∀ {d:D} {v:V},RD K ρ H d v->clD w d=true->RD K (ρ.take w) H d v
  | .im i,v,h,_=>by simp only[RD]at h ⊢;exact h
  | .mu n,v,h,c=>by
    simp only[RD]at h ⊢
    obtain⟨a,e,q⟩:=h
    exact⟨a,by rw[List.getElem?_take_of_lt (by simpa [clD]using c)];exact e,q⟩
  | .tm ds,v,h,c=>by
    simp only[RD]at h ⊢
    obtain⟨a,xs,e,q,z⟩:=h
    exact⟨a,xs,e,q,RDs.take' w z (by simpa [clD]using c)⟩
  | .ro ns,v,h,c=>by simp only[RD]at h ⊢;exact h
theorem RDs.take'(w:Nat):∀ {d:List D} {v:List V},RDs K ρ H d v->BQ w d=true->RDs K (ρ.take w) H d v
  | [],v,h,_=>by simpa only[RDs]using h
  | d :: ds,v,h,c=>by
    simp only[RDs]at h ⊢
    obtain⟨x,r',e,q,z⟩:=h
    have c:clD w d=true/\BQ w ds=true:=by simpa [BQ]using c
    exact⟨x,r',e,q.take w c.1,RDs.take' w z c.2⟩
end
theorem RKs.take(w:Nat):∀ {d:List (Key × D)} {v:List (Key × V)},RKs K ρ H d v->GI w d=true->RKs K (ρ.take w) H d v
  | [],v,h,_=>by simpa only[RKs]using h
  | d :: ds,v,h,c=>by
    simp only[RKs]at h ⊢
    obtain⟨x,r',e,q1,q,z⟩:=h
    have c:clD w d.2=true/\GI w ds=true:=by simpa [GI]using c
    exact⟨x,r',e,q1,q.take w c.1,RKs.take w z c.2⟩
theorem RC.take(w:Nat){o:MO}{ho:HO}(h:RC K ρ H o ho)(c:clO w o=true):RC K (ρ.take w) H o ho:=by
  cases o with
  | lst ds=>obtain⟨xs,e,q⟩:=h;exact⟨xs,e,q.take' w c⟩
  | dic ds=>obtain⟨xs,e,q⟩:=h;exact⟨xs,e,q.take w c⟩
theorem RH.take(h:RH K ρ H hd)(w:Nat)(c:(hd.take w).all (clO w)=true):RH K (ρ.take w) H (hd.take w):=by
  refine⟨by simp[h.len],h.nd.sublist (List.take_sublist _ _),h.tabs,λ n o a e1 e2=>?_⟩
  have co:=List.all_eq_true.mp c o (List.mem_of_getElem? e1)
  have hn:n < w:=by
    have:=(List.getElem?_eq_some_iff.mp e1).1
    simp at this;omega
  rw[List.getElem?_take_of_lt hn]at e1 e2
  obtain⟨ho,q1,q2⟩:=h.ob n o a e1 e2
  exact⟨ho,q1,q2.take w co⟩
theorem RH.back(R1:RH K ρ1 H1 h1){w:Nat}(hw:w <= h1.length)(c1:(h1.take w).all (clO w)=true)(x:Ext (ρ1.take w) H1 ρ' H')(R':RH K ρ' H' h2)(c:(h2.take w).all (clO w)=true) :
    RH K ρ1 H' (h2.take w ++ h1.drop w)/\Ext ρ1 H1 ρ1 H'/\ρ'.take w=ρ1.take w:=by
  obtain⟨r,rfl,fr⟩:=x.pre
  have lw:(ρ1.take w).length=w:=by rw[List.length_take,R1.len];omega
  have l2:w <= h2.length:=by rw[<- R'.len];simp[lw]
  have tk:(ρ1.take w ++ r).take w=ρ1.take w:=by rw[List.take_append_of_le_length (by omega),List.take_take];simp
  refine⟨⟨?_,R1.nd,R'.tabs,λ n o a e1 e2=>?_⟩,⟨⟨[],by simp,by simp⟩,λ b o q nb t=>x.keep b o q (λ m=>nb (List.mem_of_mem_take m)) t,x.tab⟩,tk⟩
  . rw[List.length_append,List.length_take,List.length_drop,R1.len];omega
  . by_cases hn:n < w
    . rw[List.getElem?_append_left (by rw[List.length_take];omega),List.getElem?_take_of_lt hn]at e1
      have e3:(ρ1.take w ++ r)[n]? = some a:=by
        rw[List.getElem?_append_left (by omega),List.getElem?_take_of_lt hn];exact e2
      obtain⟨ho,q1,q2⟩:=R'.ob n o a e1 e3
      have co:=List.all_eq_true.mp c o (by
        have:(h2.take w)[n]? = some o:=by rw[List.getElem?_take_of_lt hn];exact e1
        exact List.mem_of_getElem? this)
      have q3:=q2.take w co
      rw[tk]at q3
      have q4:=q3.mono (Grow.refl (H:=H')) (ρ1.drop w)
      rw[List.take_append_drop]at q4
      exact⟨ho,q1,q4⟩
    . rw[List.getElem?_append_right (by rw[List.length_take];omega),List.length_take,List.getElem?_drop]at e1
      have e1:h1[n]? = some o:=by
        have:w + (n - min w h2.length)=n:=by omega
        rw[this]at e1;exact e1
      obtain⟨ho,q1,q2⟩:=R1.ob n o a e1 e2
      have out:a ∉ ρ1.take w:=λ m=>by
        obtain⟨k,hk⟩:=List.mem_iff_getElem?.mp m
        have kw:k < w:=by
          have:=(List.getElem?_eq_some_iff.mp hk).1
          rw[lw]at this;exact this
        rw[List.getElem?_take_of_lt kw]at hk
        have:=(List.getElem?_inj (List.getElem?_eq_some_iff.mp e2).1 R1.nd).mp (e2.trans hk.symm)
        omega
      have gr:=x.grow (R1.take w c1)
      exact⟨ho,x.keep a ho q1 out (λ ps z=>by rcases R1.mut (List.mem_of_getElem? e2)with⟨y,w⟩|⟨y,w⟩ <;> (rw[q1,z]at w;cases w)),by simpa using q2.mono gr []⟩
noncomputable def spF(K:PySem.W.Frag)(k:Nat)(F:List D->Hd->Option (D × Hd)):Sp:=λ vs H Q _=>vs.length=k/\∃ (ρ:List Addr) (hd:Hd) (ds:List D) (d:D) (hd':Hd),RH K ρ H hd/\RDs K ρ H ds vs/\F ds hd=some (d,hd') /\
  ∀ ρ' H' v,Ext ρ H ρ' H'->RH K ρ' H' hd'->RD K ρ' H' d v->Q v H'
noncomputable def mkF(k n:Nat)(m:MS):List D->Hd->Option (D × Hd):=λ ds hd=>if ds.length=k then(match m (ds.map some ++ List.replicate (n - k) none) hd with
  | some (.rt d,hd')=>some (d,hd')
  | some (.nx _,hd')=>some (.im .non,hd')
  | _=>none)else none
theorem LT{N:List Str}:∀ {ds:List D} {vs:List V},RDs K ρ H ds vs->RL K ρ H (ds.map some ++ List.replicate (N.length - ds.length) none) (EM N vs):=by
  intro ds vs r
  have hl:=r.len
  refine⟨by simp[EM,hl],λ i d e=>?_⟩
  unfold EM
  by_cases hi:i < ds.length
  . rw[List.getElem?_append_left (by simpa using hi),List.getElem?_map]at e
    have e':ds[i]? = some d:=by
      cases q:ds[i]? with
      | none=>rw[q]at e;cases e
      | some z=>rw[q]at e;simpa using e
    obtain⟨x,x1,x2⟩:=r.get e'
    exact⟨x,by rw[List.getElem?_append_left (by rw[List.length_map,hl];exact hi),List.getElem?_map,x1];rfl,x2⟩
  . rw[List.getElem?_append_right (by simpa using Nat.not_lt.mp hi),List.getElem?_replicate]at e
    split at e <;> cases e
theorem Mp{k:Nat}{N:List Str}{m:MS}{t:TS}(h:RS K t m){vs:List V}{H:Hp}{Q:VK}{E:XK}(s:spF K k (mkF k N.length m) vs H Q E):t { nx:=λ _ H'=>Q .non H',rt:=Q } (EM N vs) H:=by
  obtain⟨hk,ρ,hd,ds,d,hd',hR,hr,hF,hQ⟩:=s
  unfold mkF at hF
  split at hF
  . next hl=>
    subst hl
    split at hF
    . next q=>
      cases hF
      exact h ρ _ H hd _ _ _ _ hR (LT hr) q λ ρ' H' x R v r=>hQ ρ' H' v x R r
    . next q=>
      cases hF
      exact h ρ _ H hd _ _ _ _ hR (LT hr) q λ ρ' H' x R σ L=>hQ ρ' H' .non x R (by simp[RD,RI])
    . cases hF
  . cases hF
noncomputable def GY(F:List D->Hd->Option (D × Hd))(ma:MA):ME:=λ ls hd=>(ma ls hd).bind λ p=>F p.1 p.2
theorem Qe{k:Nat}{F:List D->Hd->Option (D × Hd)}{t:TA}{m:MA}(h:RA K t m)(hk:∀ ds hd z,F ds hd=some z->ds.length=k):RE K (ID (spF K k F) [] E0 t) (GY F m):=by
  intro ρ σ H hd ls Q d hd' hR hL hm hQ
  obtain⟨⟨d1,h1⟩,e1,hm⟩:=Option.bind_eq_some_iff.mp hm
  refine h ρ σ H hd ls _ d1 h1 hR hL e1 λ ρ1 H1 v1 x1 R1 r1=>?_
  rw[List.append_nil]
  exact⟨by rw[r1.len];exact hk _ _ _ hm,ρ1,h1,d1,d,hd',R1,r1,hm,λ ρ' H' w x2 R2 r2=>hQ ρ' H' w (x1.trans R1 x2) R2 r2⟩
theorem AI{k n:Nat}{m:MS}:∀ ds hd z,mkF k n m ds hd=some z->ds.length=k:=λ ds hd z h=>by
  unfold mkF at h
  split at h
  . next e=>exact e
  . cases h
noncomputable def fin(w:Nat)(d:D)(h2 rest:Hd):Option (D × Hd):=if(h2.take w).all (clO w)=true then(match d with
    | .mu k=>if k < w then some (.mu k,h2.take w ++ rest)else(match h2[k]? with
      | some (.lst ds)=>if BQ w ds=true then some (.mu (w + rest.length),h2.take w ++ rest ++ [.lst ds])else none
      | _=>none)
    | d=>if clD w d=true then some (d,h2.take w ++ rest)else none)else none
noncomputable def AG(w:Nat)(F:List D->Hd->Option (D × Hd))(ma:MA):ME:=λ ls hd=>(ma ls hd).bind λ p=>
  if w <= p.2.length/\BQ w p.1=true/\(p.2.take w).all (clO w)=true then(F p.1 (p.2.take w)).bind λ r=>fin w r.1 r.2 (p.2.drop w)else none
theorem Qd{w k:Nat}{F:List D->Hd->Option (D × Hd)}{t:TA}{m:MA}(h:RA K t m)(hk:∀ ds hd z,F ds hd=some z->ds.length=k):RE K (ID (spF K k F) [] E0 t) (AG w F m):=by
  intro ρ σ H hd ls Q d hd' hR hL hm hQ
  obtain⟨⟨d1,h1⟩,e1,hm⟩:=Option.bind_eq_some_iff.mp hm
  dsimp only at hm
  split at hm
  . next c=>
    obtain⟨c0,c1,c2⟩:=c
    obtain⟨⟨d2,h2⟩,e2,hm⟩:=Option.bind_eq_some_iff.mp hm
    refine h ρ σ H hd ls _ d1 h1 hR hL e1 λ ρ1 H1 v1 x1 R1 r1=>?_
    rw[List.append_nil]
    refine⟨by rw[r1.len];exact hk _ _ _ e2,ρ1.take w,h1.take w,d1,d2,h2,R1.take w c2,r1.take' w c1,e2,λ ρ' H' v x2 R2 r2=>?_⟩
    unfold fin at hm
    dsimp only at hm
    split at hm
    . next c3=>
      obtain⟨R3,x3,tk⟩:=R1.back c0 c2 x2 R2 c3
      have up:∀ {d:D} {v:V},RD K ρ' H' d v->clD w d=true->RD K ρ1 H' d v:=λ r c=>by
        have q:=r.take w c
        rw[tk]at q
        have q:=q.mono (Grow.refl (H:=H')) (ρ1.drop w)
        rw[List.take_append_drop]at q
        exact q
      have ups:∀ {d:List D} {v:List V},RDs K ρ' H' d v->BQ w d=true->RDs K ρ1 H' d v:=λ r c=>by
        have q:=r.take' w c
        rw[tk]at q
        have q:=q.mono (Grow.refl (H:=H')) (ρ1.drop w)
        rw[List.take_append_drop]at q
        exact q
      split at hm
      . next k'=>
        split at hm
        . next hk'=>
          cases hm
          exact hQ ρ1 H' v (x1.trans R1 x3) R3 (up r2 (by simpa [clD]using hk'))
        . next hk'=>
          split at hm
          . next ds q=>
            split at hm
            . next c4=>
              cases hm
              simp only[RD]at r2
              obtain⟨a,ea,rfl⟩:=r2
              obtain⟨xs,l1,l2⟩:=R2.lst ea q
              have len3:=R3.len
              have out:a ∉ ρ1:=λ m=>by
                -- a is one of those made behind the first w
                obtain⟨r,er,fr⟩:=x2.pre
                have lw:(ρ1.take w).length=w:=by rw[List.length_take,R1.len];omega
                have ma:a ∈ r:=by
                  rw[er,List.getElem?_append_right (by rw[lw];omega)]at ea
                  exact List.mem_of_getElem? ea
                exact R1.out (fr a ma) m
              have na:H1 a=none:=by
                obtain⟨r,er,fr⟩:=x2.pre
                have lw:(ρ1.take w).length=w:=by rw[List.length_take,R1.len];omega
                have ma:a ∈ r:=by
                  rw[er,List.getElem?_append_right (by rw[lw];omega)]at ea
                  exact List.mem_of_getElem? ea
                exact fr a ma
              refine hQ (ρ1 ++ [a]) H' _ (x1.trans R1 (x3.name na)) (R3.name out l1 (ups l2 c4)) ?_
              simp only[RD]
              refine⟨a,?_,rfl⟩
              have:w + (List.drop w h1).length=ρ1.length:=by rw[List.length_drop,R1.len];omega
              rw[this];simp
            . cases hm
          . cases hm
      . next d' nd=>
        split at hm
        . next c4=>cases hm;exact hQ ρ1 H' v (x1.trans R1 x3) R3 (up r2 c4)
        . cases hm
    . cases hm
  . cases hm
noncomputable def De(kvs:List (Key × D))(k:Key):Option D:=(kvs.find? λ kv=>decide (kv.1=k)).map (·.2)
noncomputable def Eg(kvs:List (Key × D))(k:Key)(v:D):List (Key × D):=
  if(kvs.any λ kv=>decide (kv.1=k))=true then kvs.map (λ kv=>if kv.1=k then(kv.1,v)else kv)else kvs ++ [(k,v)]
theorem RKs.val:∀ {kvs:List (Key × D)} {xs:List (Key × V)} {k:Key} {d:D},RKs K ρ H kvs xs->De kvs k=some d->∃ v,Eo xs k=some v/\RD K ρ H d v
  | [],xs,k,d,h,e=>by simp[De]at e
  | p :: kvs,xs,k,d,h,e=>by
    simp only[RKs]at h
    obtain⟨x,r,rfl,e1,r1,r2⟩:=h
    by_cases hk:p.1=k
    . rw[Fe (e1.trans hk)]
      simp[De,List.find?_cons,hk]at e
      subst e
      exact⟨_,rfl,r1⟩
    . rw[Ff (by rw[e1];exact hk)]
      simp only[De,List.find?_cons,hk,decide_false]at e
      exact RKs.val r2 e
theorem RKs.valN:∀ {kvs:List (Key × D)} {xs:List (Key × V)} {k:Key},RKs K ρ H kvs xs->(Eo xs k).isSome=(De kvs k).isSome
  | [],xs,k,h=>by simp only[RKs]at h;subst h;rfl
  | p :: kvs,xs,k,h=>by
    simp only[RKs]at h
    obtain⟨x,r,rfl,e1,r1,r2⟩:=h
    by_cases hk:p.1=k
    . rw[Fe (e1.trans hk)];simp[De,List.find?_cons,hk]
    . rw[Ff (by rw[e1];exact hk)];simp only[De,List.find?_cons,hk,decide_false];exact RKs.valN r2
theorem RKs.any:∀ {kvs:List (Key × D)} {xs:List (Key × V)} {k:Key},RKs K ρ H kvs xs->(xs.any λ kv=>decide (kv.1=k))=(kvs.any λ kv=>decide (kv.1=k))
  | [],xs,k,h=>by simp only[RKs]at h;subst h;rfl
  | p :: kvs,xs,k,h=>by
    simp only[RKs]at h
    obtain⟨x,r,rfl,e1,r1,r2⟩:=h
    simp only[List.any_cons,e1,RKs.any r2]
theorem RKs.upd:∀ {kvs:List (Key × D)} {xs:List (Key × V)} {k:Key} {d:D} {v:V},RKs K ρ H kvs xs->RD K ρ H d v->RKs K ρ H (kvs.map (λ kv=>if kv.1=k then(kv.1,d)else kv)) (xs.map (λ kv=>if kv.1=k then(kv.1,v)else kv))
  | [],xs,k,d,v,h,_=>by simp only[RKs]at h;subst h;simp[RKs]
  | p :: kvs,xs,k,d,v,h,q=>by
    simp only[RKs]at h
    obtain⟨x,r,rfl,e1,r1,r2⟩:=h
    simp only[List.map_cons,RKs]
    refine⟨_,_,rfl,?_,?_,RKs.upd r2 q⟩
    . rw[e1];split <;> simp[e1]
    . rw[e1];split
      . exact q
      . exact r1
theorem RKs.app:∀ {kvs ks:List (Key × D)} {xs ys:List (Key × V)},RKs K ρ H kvs xs->RKs K ρ H ks ys->RKs K ρ H (kvs ++ ks) (xs ++ ys)
  | [],ks,xs,ys,h,t=>by simp only[RKs]at h;subst h;simpa using t
  | d :: ds,ks,xs,ys,h,t=>by
    simp only[RKs]at h
    obtain⟨x,r,rfl,e,z,q⟩:=h
    simp only[List.cons_append,RKs]
    exact⟨_,_,rfl,e,z,q.app t⟩
theorem RKs.put{kvs:List (Key × D)}{xs:List (Key × V)}{k:Key}{d:D}{v:V}(h:RKs K ρ H kvs xs)(q:RD K ρ H d v):RKs K ρ H (Eg kvs k d) (DF xs k v):=by
  unfold Eg DF
  rw[h.any]
  split
  . exact h.upd q
  . exact h.app (by simp only[RKs];exact⟨_,_,rfl,rfl,q,rfl⟩)
noncomputable def Ew:D->Option Key
  | .im (.int i)=>some (.inl i)
  | .im (.str x)=>some (.inr x)
  | _=>none
theorem K9{d:D}{v:V}{k:Key}(h:RD K ρ H d v)(e:Ew d=some k):v=kV k:=by
  cases d with
  | im i=>
    cases i with
    | int i=>simp only[Ew,Option.some.injEq]at e;subst e;simp only[RD,RI]at h;exact h
    | str i=>simp only[Ew,Option.some.injEq]at e;subst e;simp only[RD,RI]at h;exact h
    | _=>simp[Ew]at e
  | _=>simp[Ew]at e
noncomputable def Fa(hd:Hd):D->Option (List (Key × D))
  | .mu n=>match hd[n]? with
    | some (.dic kvs)=>some kvs
    | _=>none
  | _=>none
theorem RD.dic{d:D}{v:V}{kvs:List (Key × D)}(hR:RH K ρ H hd)(h:RD K ρ H d v)(e:Fa hd d=some kvs):∃ n a xs,d=.mu n/\v=.ref a/\ρ[n]? = some a/\H a=some (.dK xs)/\RKs K ρ H kvs xs:=by
  cases d with
  | mu n=>
    simp only[Fa]at e
    simp only[RD]at h
    obtain⟨a,hn,rfl⟩:=h
    split at e
    . next q=>
      cases e
      obtain⟨xs,e1,e2⟩:=hR.dic hn q
      exact⟨n,a,xs,rfl,rfl,hn,e1,e2⟩
    . cases e
  | _=>simp[Fa]at e
noncomputable def Db:D->D->Hd->Option (D × Hd):=λ d e hd=>(Fa hd d).bind λ kvs=>(Ew e).bind λ k=>(De kvs k).map (·,hd)
theorem Sk{td ty:TE}{md my:ME}(hd:RE K td md)(hy:RE K ty my):RE K (Nc td ty) (mOp Db md my):=by
  intro ρ σ H hd0 ls Q d hd' hR hL hm hQ
  obtain⟨⟨d1,h1⟩,e1,hm⟩:=Option.bind_eq_some_iff.mp hm
  obtain⟨⟨d2,h2⟩,e2,hm⟩:=Option.bind_eq_some_iff.mp hm
  obtain⟨kvs,e3,hm⟩:=Option.bind_eq_some_iff.mp hm
  obtain⟨k,e4,hm⟩:=Option.bind_eq_some_iff.mp hm
  obtain⟨w,e5,e6⟩:=Option.map_eq_some_iff.mp hm
  cases e6
  refine hd ρ σ H hd0 ls _ d1 h1 hR hL e1 λ ρ1 H1 v1 x1 R1 r1=>?_
  refine hy ρ1 σ H1 h1 ls _ d2 _ R1 (hL.ext hR x1) e2 λ ρ2 H2 v2 x2 R2 r2=>?_
  obtain⟨n,a,xs,rfl,rfl,hn,l1,l2⟩:=RD.dic R2 (r1.ext R1 x2) e3
  have:=K9 r2 e4
  subst this
  obtain⟨v,v1,v2⟩:=l2.val e5
  exact⟨a,v,rfl,v1 ▸ DGet.k l1,hQ ρ2 H2 v (x1.trans R1 x2) R2 v2⟩
open Classical in
noncomputable def Gs(md my mv:ME):MS:=λ ls hd=>(mv ls hd).bind λ p=>(md ls p.2).bind λ q=>(my ls q.2).bind λ r=>(Ew r.1).bind λ k=>match q.1 with
  | .mu n=>match r.2[n]? with
    | some (.dic kvs)=>if HD kvs.length then some (.nx ls,r.2.set n (.dic (Eg kvs k p.1)))else none
    | _=>none
  | _=>none
theorem SV{td ty tv:TE}{md my mv:ME}(hd:RE K td md)(hy:RE K ty my)(hv:RE K tv mv):RS K (Nk td ty tv) (Gs md my mv):=by
  intro ρ σ H hd0 ls E f hd' hR hL hm hQ
  obtain⟨⟨d1,h1⟩,e1,hm⟩:=Option.bind_eq_some_iff.mp hm
  obtain⟨⟨d2,h2⟩,e2,hm⟩:=Option.bind_eq_some_iff.mp hm
  obtain⟨⟨d3,h3⟩,e3,hm⟩:=Option.bind_eq_some_iff.mp hm
  obtain⟨k,e4,hm⟩:=Option.bind_eq_some_iff.mp hm
  dsimp only at hm
  split at hm
  . split at hm
    . next q=>
      split at hm
      . next c=>
        cases hm
        refine hv ρ σ H hd0 ls _ d1 h1 hR hL e1 λ ρ1 H1 v1 x1 R1 r1=>?_
        refine hd ρ1 σ H1 h1 ls _ _ h2 R1 (hL.ext hR x1) e2 λ ρ2 H2 v2 x2 R2 r2=>?_
        refine hy ρ2 σ H2 h2 ls _ d3 _ R2 (hL.ext hR (x1.trans R1 x2)) e3 λ ρ3 H3 v3 x3 R3 r3=>?_
        have r2:=r2.ext R2 x3
        simp only[RD]at r2
        obtain⟨a,hn,rfl⟩:=r2
        obtain⟨xs,l1,l2⟩:=R3.dic hn q
        have:=K9 r3 e4
        subst this
        obtain⟨R4,x4⟩:=R3.put hn (o:=.dic (Eg _ k d1)) (ho:=.dK (DF xs k v1)) ⟨_,rfl,l2.put ((r1.ext R1 x2).ext R2 x3)⟩
        have x13:=(x1.trans R1 x2).trans R2 x3
        exact⟨a,_,rfl,DPut.k l1 (by rw[l2.len];exact c),hQ ρ3 _ (x13.trans R3 x4) R4 σ ((hL.ext hR x13).ext R3 x4)⟩
      . cases hm
    . cases hm
  . cases hm
noncomputable def FJ:List (ME × ME)->Ls->Hd->Option (List (Key × D) × Hd)
  | [],_,hd=>some ([],hd)
  | (mk,mv) :: r,ls,hd=>(mk ls hd).bind λ p=>(mv ls p.2).bind λ q=>(FJ r ls q.2).bind λ z=>(Ew p.1).map λ k=>((k,q.1) :: z.1,z.2)
noncomputable def GW(kvs more:List (Key × D)):List (Key × D):=more.foldl (λ acc kv=>Eg acc kv.1 kv.2) kvs
theorem RKs.merge:∀ {more kvs:List (Key × D)} {ms xs:List (Key × V)},RKs K ρ H more ms->RKs K ρ H kvs xs->RKs K ρ H (GW kvs more) (FI xs ms)
  | [],kvs,ms,xs,h,t=>by simp only[RKs]at h;subst h;exact t
  | d :: ds,kvs,ms,xs,h,t=>by
    simp only[RKs]at h
    obtain⟨x,r,rfl,e,z,q⟩:=h
    show RKs K ρ H (GW (Eg kvs d.1 d.2) ds) (FI (DF xs x.1 x.2) r)
    rw[e]
    exact q.merge (t.put z)
noncomputable def RPs(K:PySem.W.Frag):List (TE × TE)->List (ME × ME)->Prop
  | [],[]=>True
  | t :: ts,m :: ms=>RE K t.1 m.1/\RE K t.2 m.2/\RPs K ts ms
  | _,_=>False
theorem Lh:∀ {trs:List (TE × TE)} {ms:List (ME × ME)},RPs K trs ms->∀ (ρ:List Addr) (σ:St) (H:Hp) (hd:Hd) (ls:Ls) (Q:List (V × V)->Hp->Prop) (kvs:List (Key × D)) (hd':Hd),RH K ρ H hd->RL K ρ H ls σ->FJ ms ls hd=some (kvs,hd') ->
    (∀ ρ' H' xs,Ext ρ H ρ' H'->RH K ρ' H' hd'->RKs K ρ' H' kvs xs->Q (xs.map λ kv=>(kV kv.1,kv.2)) H')->HW trs σ H Q
  | [],[],_,ρ,σ,H,hd,ls,Q,kvs,hd',hR,hL,hm,hQ=>by
    cases hm
    exact hQ ρ H [] .refl hR (by simp[RKs])
  | (tk,tv) :: ts,(mk,mv) :: ms,⟨a,b,c⟩,ρ,σ,H,hd,ls,Q,kvs,hd',hR,hL,hm,hQ=>by
    unfold FJ at hm
    obtain⟨⟨d1,h1⟩,e1,hm⟩:=Option.bind_eq_some_iff.mp hm
    obtain⟨⟨d2,h2⟩,e2,hm⟩:=Option.bind_eq_some_iff.mp hm
    obtain⟨⟨d3,h3⟩,e3,hm⟩:=Option.bind_eq_some_iff.mp hm
    obtain⟨k,e4,e5⟩:=Option.map_eq_some_iff.mp hm
    cases e5
    unfold HW
    refine a ρ σ H hd ls _ d1 h1 hR hL e1 λ ρ1 H1 v1 x1 R1 r1=>?_
    refine b ρ1 σ H1 h1 ls _ d2 h2 R1 (hL.ext hR x1) e2 λ ρ2 H2 v2 x2 R2 r2=>?_
    refine Lh c ρ2 σ H2 h2 ls _ d3 _ R2 (hL.ext hR (x1.trans R1 x2)) e3 λ ρ3 H3 xs x3 R3 r3=>?_
    have:=K9 r1 e4
    subst this
    exact hQ ρ3 H3 ((k,v2) :: xs) ((x1.trans R1 x2).trans R2 x3) R3 (by simp only[RKs];exact⟨_,_,rfl,rfl,r2.ext R2 x3,r3⟩)
  | [],_ :: _,h,_,_,_,_,_,_,_,_,_,_,_,_=>h.elim
  | _ :: _,[],h,_,_,_,_,_,_,_,_,_,_,_,_=>h.elim
noncomputable def Kx(ms:List (ME × ME)):ME:=λ ls hd=>(FJ ms ls hd).bind λ p=>if p.1.length <= 15 then some (.mu p.2.length,p.2 ++ [.dic (GW [] p.1)])else none
theorem RH.nameD(hR:RH K ρ H hd){a:Addr}{xs:List (Key × V)}{kvs:List (Key × D)}(out:a ∉ ρ){o:HO}(e:H a=some o)(ht:∀ ys,o ≠ .tup ys)(hf:∀ x u,o ≠ .frz x u)(r:RKs K ρ H kvs xs)(h1:∀ ps,o ≠ .tbl ps:=by intro _ z;cases z)(h2:∀ φ,o ≠ .ext φ:=by intro _ z;cases z):RH K (ρ ++ [a]) (upd H a (.dK xs)) (hd ++ [.dic kvs]):=by
  have gr:Grow H (upd H a (.dK xs)):=Grow.refl.put ⟨λ ys z=>ht ys (by rw[e]at z;exact Option.some.inj z),λ x u z=>hf x u (by rw[e]at z;exact Option.some.inj z)⟩
  refine⟨by simp[hR.len],?_,hR.tabs.upd (λ ps z=>h1 ps (Option.some.inj (e.symm.trans z))) (λ ps z=>h2 ps (Option.some.inj (e.symm.trans z))),λ n o' b e1 e2=>?_⟩
  . rw[List.nodup_append]
    refine⟨hR.nd,by simp,λ x hx y hy z=>?_⟩
    simp at hy;subst hy;subst z;exact out hx
  . by_cases hn:n < ρ.length
    . rw[List.getElem?_append_left hn]at e2
      rw[List.getElem?_append_left (by rw[<- hR.len];exact hn)]at e1
      obtain⟨ho',q1,q2⟩:=hR.ob n o' b e1 e2
      have:b ≠ a:=λ z=>out (by rw[<- z];exact List.mem_of_getElem? e2)
      exact⟨ho',by rw[AF this];exact q1,q2.mono gr [a]⟩
    . have hn':n=ρ.length:=by
        have:=(List.getElem?_eq_some_iff.mp e2).1
        simp at this;omega
      subst hn'
      simp at e2
      rw[hR.len]at e1
      simp at e1
      subst e1;subst e2
      exact⟨_,AR,⟨xs,rfl,r.mono gr [_]⟩⟩
theorem Sj{trs:List (TE × TE)}{ms:List (ME × ME)}(h:RPs K trs ms):RE K (Nb trs) (Kx ms):=by
  intro ρ σ H hd ls Q d hd' hR hL hm hQ
  obtain⟨⟨kvs,h1⟩,e1,hm⟩:=Option.bind_eq_some_iff.mp hm
  dsimp only at hm
  split at hm
  . next c=>
    cases hm
    intro p hp
    obtain⟨R0,x0⟩:=hR.hid (ho:=.dK []) hp
    refine Lh h ρ σ _ hd ls _ kvs h1 R0 (hL.ext hR x0) e1 λ ρ1 H1 xs x1 R1 r1=>?_
    have hp1:H1 p=some (.dK []):=x1.keep p _ AR (hR.out hp) nt
    have op:p ∉ ρ1:=by
      obtain⟨r,rfl,fr⟩:=x1.pre
      intro z
      rcases List.mem_append.mp z with z|z
      . exact hR.out hp z
      . have:=fr _ z
        rw[AR]at this;cases this
    refine⟨hp1,xs,rfl,by rw[r1.len];exact c,?_⟩
    have mm:RKs K ρ1 H1 (GW [] kvs) (FI [] xs):=r1.merge (by simp[RKs])
    have R2:=R1.nameD op hp1 (λ _ z=>by cases z) (λ _ _ z=>by cases z) mm
    have x01:=x0.trans R0 x1
    refine hQ (ρ1 ++ [p]) _ _ ?_ R2 ?_
    . obtain⟨r,er,fr⟩:=x01.pre
      refine⟨⟨r ++ [p],by rw[er];simp,λ b m=>?_⟩,λ b o q nb t=>?_,λ b ps q=>?_⟩
      . rcases List.mem_append.mp m with m|m
        . exact fr b m
        . simp at m;subst m;exact hp
      . have:b ≠ p:=Af q hp
        rw[AF this];exact x01.keep b o q nb t
      . have:b ≠ p:=Af q hp
        rw[AF this];exact x01.tab b ps q
    . simp only[RD]
      exact⟨p,by rw[<- R1.len];simp,rfl⟩
  . cases hm
noncomputable def WD(mo mi mv:ME):MS:=λ ls hd=>(mv ls hd).bind λ p=>(mo ls p.2).bind λ q=>(mi ls q.2).bind λ r=>match q.1,r.1 with
  | .mu n,.im (.int i)=>match r.2[n]? with
    | some (.lst ds)=>(ixN ds.length i).map λ j=>(.nx ls,r.2.set n (.lst (ds.set j p.1)))
    | _=>none
  | _,_=>none
end
end L2
namespace L2
open PySem PySem.Spec PyProof.Rows
structure QG(K:PySem.W.Frag)(X:Cx)(e:Expr)(t:TG)(m:MG):Prop where
  p:PG X e t
  r:RGt K t m
structure QGs(K:PySem.W.Frag)(X:Cx)(e:List Expr)(t:TGs)(m:MGs):Prop where
  p:PGs X e t
  r:MZ K t m
structure QI(K:PySem.W.Frag)(X:Cx)(tg e:Expr)(t:TI)(m:MI):Prop where
  p:PI X tg e t
  r:RIt K t m
structure QF(K:PySem.W.Frag)(X:Cx)(e:List Expr)(t:TT)(m:MT):Prop where
  p:PF X e t
  r:RT K t m
structure QO(K:PySem.W.Frag)(X:Cx)(e:Option Expr)(t:TO)(m:MO1):Prop where
  p:PO X e t
  r:RO1 K t m
structure QPs(K:PySem.W.Frag)(X:Cx)(pos:Pos)(keys:List (Option Expr))(values:List Expr)(t:List (TE × TE))(m:List (ME × ME)):Prop where
  p:PPs X pos keys values t
  r:RPs K t m
noncomputable def SC(a b:List D):Prop:=a ≠ []/\DP (a.length + b.length)
open Classical in
noncomputable def HB:D->D->Hd->Option (D × Hd):=λ d e hd=>(Ap d).bind λ a=>(Ap e).bind λ b=>if SC a b then some (B1 (a ++ b),hd)else none
theorem Ao{K:PySem.W.Frag}:RB K (Nx K) HB:=by
  intro ρ H hd d e v u Q z hd' hR h1 h2 hf hQ
  unfold HB at hf
  obtain⟨a,e1,hf⟩:=Option.bind_eq_some_iff.mp hf
  obtain⟨b,e2,hf⟩:=Option.bind_eq_some_iff.mp hf
  split at hf
  . next c=>
    cases hf
    obtain⟨p,xs,rfl,q1,r1⟩:=h1.tup e1
    obtain⟨p2,ys,rfl,q2,r2⟩:=h2.tup e2
    have l1:=r1.len;have l2:=r2.len
    refine⟨p,p2,xs,ys,rfl,rfl,q1,q2,λ z=>c.1 (by rw[z]at l1;simpa using l1.symm),by rw[l1,l2];exact c.2,λ z=>?_,λ _ p3 hp=>?_⟩
    . have:b=[]:=by rw[z]at l2;simpa using l2.symm
      subst this
      exact hQ ρ H _ .refl hR (by rw[List.append_nil];exact Cm q1 r1)
    . obtain⟨R2,x2⟩:=hR.hid (ho:=.tup (xs ++ ys)) hp
      exact hQ ρ _ _ x2 R2 (Cm (SqT.of AR) ((r1.app r2).ext hR x2))
  . cases hf
noncomputable abbrev BA:=HE KD HB
noncomputable def Dr(neg:Bool)(m:ME):ME:=λ ls hd=>(m ls hd).bind λ p=>some (.im (.bl (match p.1 with
  | .im .non=>!neg
  | _=>neg)),p.2)
theorem VA{K:PySem.W.Frag}{ρ:List Addr}{H:Hp}{d:D}{v:V}(h:RD K ρ H d v):decide (v=.non)=(match d with | .im .non=>true|_=>false):=by
  cases d with
  | im i=>
    cases i with
    | non=>simp only[RD,RI]at h;subst h;rfl
    | tup is=>simp only[RD,RI]at h;obtain⟨a,xs,rfl,_⟩:=h;rfl
    | _=>simp only[RD,RI]at h;subst h;rfl
  | mu n=>simp only[RD]at h;obtain⟨a,_,rfl⟩:=h;rfl
  | tm ds=>simp only[RD]at h;obtain⟨a,xs,rfl,_⟩:=h;rfl
  | ro ns=>simp only[RD]at h;obtain⟨a,rfl,_⟩:=h;rfl
theorem Os{K:PySem.W.Frag}{t:TE}{m:ME}(h:RE K t m):RE K (NZ t) (Dr false m):=by
  intro ρ σ H hd ls Q d hd' hR hL hm hQ
  obtain⟨⟨d1,h1⟩,e1,hm⟩:=Option.bind_eq_some_iff.mp hm
  cases hm
  refine h ρ σ H hd ls _ d1 _ hR hL e1 λ ρ1 H1 v x1 R1 r1=>?_
  rw[VA r1]
  refine hQ ρ1 H1 _ x1 R1 ?_
  simp only[RD,RI]
  cases d1 with
  | im i=>cases i <;> rfl
  | _=>rfl
theorem Mt{K:PySem.W.Frag}{t:TE}{m:ME}(h:RE K t m):RE K (Ks t) (Dr true m):=by
  intro ρ σ H hd ls Q d hd' hR hL hm hQ
  obtain⟨⟨d1,h1⟩,e1,hm⟩:=Option.bind_eq_some_iff.mp hm
  cases hm
  refine h ρ σ H hd ls _ d1 _ hR hL e1 λ ρ1 H1 v x1 R1 r1=>?_
  rw[VA r1]
  refine hQ ρ1 H1 _ x1 R1 ?_
  simp only[RD,RI]
  cases d1 with
  | im i=>cases i <;> rfl
  | _=>rfl
noncomputable def Ir(m:ME):ME:=λ ls hd=>(m ls hd).bind λ p=>match p.1 with
  | .im (.int i)=>some (.im (.int (-i)),p.2)
  | _=>none
theorem UW{K:PySem.W.Frag}{t:TE}{m:ME}(h:RE K t m):RE K (tUn (rU λ i=>.int (-i)) t) (Ir m):=by
  intro ρ σ H hd ls Q d hd' hR hL hm hQ
  obtain⟨⟨d1,h1⟩,e1,hm⟩:=Option.bind_eq_some_iff.mp hm
  dsimp only at hm
  split at hm
  . cases hm
    exact h ρ σ H hd ls _ _ _ hR hL e1 λ ρ1 H1 v x1 R1 r1=>⟨_,by simpa only[RD,RI]using r1,hQ ρ1 H1 _ x1 R1 (by simp[RD,RI])⟩
  . cases hm
noncomputable def Dp:MT:=λ _ hd=>some (true,hd)
theorem UE{K:PySem.W.Frag}:RT K Q0 Dp:=by
  intro ρ σ H hd ls Q d hd' hR hL hm hQ
  cases hm
  exact hQ ρ H .refl hR
section
variable(K:PySem.W.Frag){X:Cx}{a b c e:Expr}{es:List Expr}{ta tb tc te:TE}{ma mb mc me:ME}{tA tB':TT}{nA nB:MT}{t:TA}{m:MA}{pos:Pos}{x:Str}
theorem qv(i:Nat){x:Str}{pos:Pos}(hN:X.N[i]? = some x:=by rfl)(hv:Vis X.env.scope x:=by first|exact Or.inl rfl|exact Or.inr (Or.inl rfl)|exact Or.inr (Or.inr rfl))(hd:(x == ("__debug__":Str))=false:=by decide)
    (hcd:(x == ("__classdict__":Str))=false:=by decide):QE K X (.Name x pos) (NU i) (A2 i):=⟨P6 hN hv hd hcd,UT⟩
theorem A5{i:Int}{j pos}:QE K X (.Constant (.int i) j pos) (tC (.int i)) (mC (.int i)):=⟨V1,Np λ _=>by simp[RI]⟩
theorem FB{i:Bool}{j pos}:QE K X (.Constant (.bool i) j pos) (tC (.bl i)) (mC (.bl i)):=⟨W4,Np λ _=>by simp[RI]⟩
theorem Hc{j pos}:QE K X (.Constant .none j pos) (tC .non) (mC .non):=⟨Uy,Np λ _=>by simp[RI]⟩
theorem BH{x:Str}{j pos}:QE K X (.Constant (.str x) j pos) (tC (.str x)) (mC (.str x)):=⟨Uv,Np λ _=>by simp[RI]⟩
theorem AW{op:Operator}{r:R2}{f:D->D->Hd->Option (D × Hd)}(ho:OpR X (binaryOp op) r)(hr:RB K r f)(ha:QE K X a ta ma)(hb:QE K X b tb mb):QE K X (.BinOp a op b pos) (tOp r ta tb) (mOp f ma mb):=⟨O3 ho ha.p hb.p,Ku hr ha.r hb.r⟩
theorem Lb(ha:QE K X a ta ma):QE K X (.UnaryOp .USub a pos) (tUn (rU λ i=>.int (-i)) ta) (Ir ma):=⟨W1 U7 ha.p,UW ha.r⟩
theorem He{op:CmpOp}{r:R2}{f:D->D->Hd->Option (D × Hd)}(ho:OpR X (compareOp op) r)(hr:RB K r f)(ha:QE K X a ta ma)(hb:QE K X b tb mb)(hm:behindInMarks op b=false:=by first|exact JS _|rfl):QE K X (.Compare a [op] [b] pos) (tOp r ta tb) (mOp f ma mb):=⟨TQ ho ha.p hb.p hm,Ku hr ha.r hb.r⟩
theorem Ay{op:CmpOp}{r:R2}{f:D->D->Hd->Option (D × Hd)}(ho:OpR X (compareOp op) r)(hr:RB K r f)(ha:QE K X a ta ma)(hb:QE K X b tb mb)(hm:behindInMarks op b=false:=by first|exact JS _|rfl):QT K X (.Compare a [op] [b] pos) (JE (tOp r ta tb)) (AX (mOp f ma mb)):=⟨K3 ho ha.p hb.p hm,Ep (Ku hr ha.r hb.r)⟩
theorem Ug{j pos'}(ha:QE K X a ta ma):QE K X (.Compare a [.Is] [.Constant .none j pos'] pos) (NZ ta) (Dr false ma):=⟨P7 (P8 ha.p),Os ha.r⟩
theorem Sx{j pos'}(ha:QE K X a ta ma):QE K X (.Compare a [.IsNot] [.Constant .none j pos'] pos) (Ks ta) (Dr true ma):=⟨P7 (N4 ha.p),Mt ha.r⟩
theorem La{j pos'}(ha:QE K X a ta ma):QT K X (.Compare a [.Is] [.Constant .none j pos'] pos) (tB (NZ ta)) (AX (Dr false ma)):=⟨P1 (P8 ha.p),UH (Os ha.r)⟩
theorem N0{j pos'}(ha:QE K X a ta ma):QT K X (.Compare a [.IsNot] [.Constant .none j pos'] pos) (tB (Ks ta)) (AX (Dr true ma)):=⟨P1 (N4 ha.p),UH (Mt ha.r)⟩
theorem BP(ha:QE K X a ta ma)(he:∀ whole,isTrue a X.env whole=(do let v <- whole;standAt a.pos;holding [v] (truthy v)):=by intro _;rfl)(hK:X.K=K:=by rfl) :
    QT K X a (λ σ H Q=>ta σ H λ x H'=>∃ k,MY K x H' k/\Q k H') (Ct ma):=by
  subst hK
  exact⟨Qp ha.p he,QM ha.r⟩
theorem Di(ha:QT K X a tA nA):QT K X (.UnaryOp .Not a pos) (Q6 tA) (ET nA):=⟨Uj ha.p,UF ha.r⟩
theorem GQ(ha:QT K X a tA nA):QW K X (.BoolOp .And [a] pos) tA nA:=⟨T0 ha.p,ha.r⟩
theorem GP(ha:QT K X a tA nA):QW K X (.BoolOp .Or [a] pos) tA nA:=⟨Uh ha.p,ha.r⟩
theorem Ha{rest:List Expr}(ha:QT K X a tA nA)(hb:QW K X (.BoolOp .And (b :: rest) pos) tB' nB):QW K X (.BoolOp .And (a :: b :: rest) pos) (QC tA tB') (Gv nA nB):=⟨Ui ha.p hb.p,UG ha.r hb.r⟩
theorem FU{rest:List Expr}(ha:QT K X a tA nA)(hb:QW K X (.BoolOp .Or (b :: rest) pos) tB' nB):QW K X (.BoolOp .Or (a :: b :: rest) pos) (tOr tA tB') (mOr nA nB):=⟨Vy ha.p hb.p,Vr ha.r hb.r⟩
theorem QW.toT{K:PySem.W.Frag}{X:Cx}{e:Expr}{t:TT}{m:MT}(h:QW K X e t m):QT K X e t m:=⟨h.p.pt,h.r⟩
theorem JP{op}(ha:QE K X a ta ma):QE K X (.BoolOp op [a] pos) ta ma:=⟨Uw ha.p,ha.r⟩
theorem Ld{rest:List Expr}(ha:QE K X a ta ma)(hb:QE K X (.BoolOp .And (b :: rest) pos) tb mb):QE K X (.BoolOp .And (a :: b :: rest) pos) (Nd ta tb) (Gu ma mb):=⟨V2 ha.p hb.p,Sl ha.r hb.r⟩
theorem Vx{rest:List Expr}(ha:QE K X a ta ma)(hb:QE K X (.BoolOp .Or (b :: rest) pos) tb mb):QE K X (.BoolOp .Or (a :: b :: rest) pos) (Q5 ta tb) (Lr ma mb):=⟨W2 ha.p hb.p,UV ha.r hb.r⟩
theorem Uf(ha:QE K X a ta ma):QE K X (.UnaryOp .Not a pos) (NW ta) (Jb ma):=⟨Ux ha.p,Sf ha.r⟩
theorem Gn(hc:QT K X c tA nA)(ha:QE K X a ta ma)(hb:QE K X b tb mb):QE K X (.IfExp c a b pos) (tIf tA ta tb) (mIf nA ma mb):=⟨R9 hc.p ha.p hb.p,Vv hc.r ha.r hb.r⟩
theorem A6:QA K X [] C8 AC:=⟨Cq,Ua⟩
theorem A1(ha:QE K X e te me)(hr:QA K X es t m)(hs:starEach (e :: es) X.env=(false,eval e X.env) :: starEach es X.env:=by rfl):QA K X (e :: es) (BZ te t) (A4 me m):=⟨CJ ha.p hr.p hs,Sm ha.r hr.r⟩
theorem Be{x1}(h:QA K X es t m):QE K X (.Tuple es x1 pos) (Q2 t) (Bw m):=⟨Uu h.p,UU h.r⟩
theorem Dj(h:QA K X es t m):QN K X (.List es pos) (Q7 t) (EU m):=⟨Uz h.p,UM h.r⟩
theorem C5(h:QN K X e te m):QE K X e te (Cn m):=⟨h.p,Oq h.r⟩
theorem AK(ha:QE K X a ta ma)(hb:QE K X b tb mb)(hs:KL b:=by exact λ _ _=>rfl)(hK:X.K=K:=by rfl):QE K X (.Subscript a b pos) (tOp (Kv K) ta tb) (mOp gIx ma mb):=⟨S4 ((M3 K hK).or (NC K hK)) ha.p hb.p hs,Ku Vw ha.r hb.r⟩
theorem Cp(hu:X.A.units + 1 < cLine)(ha:QE K X a ta ma)(hb:QE K X b tb mb)(hs:Rm b:=by exact λ _ _=>rfl):QE K X (.Subscript a b pos) (Nc ta tb) (mOp Db ma mb):=⟨TM hu ha.p hb.p hs,Sk ha.r hb.r⟩
theorem N2:QO K X none Ju Ev:=⟨T8,SX⟩
theorem N1(h:QE K X e te me):QO K X (some e) (NV te) (Gp me):=⟨T7 h.p,SW h.r⟩
theorem Ox{lo hi:Option Expr}{tl th:TO}{ml mh:MO1}{p2:Pos}(h:QE K X e te me)(hl:QO K X lo tl ml)(hh:QO K X hi th mh)(hK:X.K=K:=by rfl):QN K X (.Subscript e (.Slice lo hi none p2) pos) (tSl (Nv K) te tl th) (Ip me ml mh):=⟨R8 (QK K hK) h.p hl.p hh.p,UL h.r hl.r hh.r⟩
theorem DE{id:String}{p:Pos}{r:List V->Hp->VK->Prop}{f:List D->Hd->Option (D × Hd)}(hc:CallR X (.builtin id) r)(hr:RF K r f)(hm:X.mg x=none)(hv:bootBuiltins x=some (.builtin id))(ha:QA K X (e :: es) t m)(hg:Gl X x:=by rfl)(hn:x ≠ "__name__":=by decide)(hdb:(x == ("__debug__":Str))=false:=by decide)
    (he:starEach (e :: es) X.env=(false,eval e X.env) :: starEach es X.env:=by rfl) (hpl:(backTo pos (starEach es X.env)).any (·.1)=false:=by rfl):QE K X (.Call (.Name x p) (e :: es) [] pos) (tCB r t) (mCB f m):=⟨Fk hc hg hm hv ha.p hn hdb he hpl,Rs hr ha.r⟩
theorem Kw{id:String}{p:Pos}{r:List V->Hp->VK->Prop}{f:List D->Hd->Option (D × Hd)}(hc:CallR X (.type id) r)(hr:RF K r f)(hm:X.mg x=none)(hv:bootBuiltins x=some (.type id))(ha:QA K X (e :: es) t m)(hg:Gl X x:=by rfl)(hn:x ≠ "__name__":=by decide)(hdb:(x == ("__debug__":Str))=false:=by decide)
    (he:starEach (e :: es) X.env=(false,eval e X.env) :: starEach es X.env:=by rfl) (hpl:(backTo pos (starEach es X.env)).any (·.1)=false:=by rfl):QE K X (.Call (.Name x p) (e :: es) [] pos) (tCB r t) (mCB f m):=⟨EY hc hg hm hv ha.p hn hdb he hpl,Rs hr ha.r⟩
theorem FV{id:String}{p:Pos}{r:List V->Hp->VK->Prop}{tp:Bool}{g:List D->Option D}(hc:CallR X (.builtin id) r)(hr:RG K tp r g)(hm:X.mg x=none)(hv:bootBuiltins x=some (.builtin id))(ha:QN K X e te m)(hg:Gl X x:=by rfl)(hn:x ≠ "__name__":=by decide)(hdb:(x == ("__debug__":Str))=false:=by decide)
    (he:starEach [e] X.env=[(false,eval e X.env)]:=by rfl):QE K X (.Call (.Name x p) [e] [] pos) (tCB r (BZ te C8)) (DH g m):=⟨Fk hc hg hm hv (CJ ha.p Cq he) hn hdb he rfl,Ot hr ha.r⟩
theorem O0{id:String}{p:Pos}{r:List V->Hp->VK->Prop}{tp:Bool}{g:List D->Option D}(hc:CallR X (.type id) r)(hr:RG K tp r g)(hm:X.mg x=none)(hv:bootBuiltins x=some (.type id))(ha:QN K X e te m)(hg:Gl X x:=by rfl)(hn:x ≠ "__name__":=by decide)(hdb:(x == ("__debug__":Str))=false:=by decide)
    (he:starEach [e] X.env=[(false,eval e X.env)]:=by rfl):QE K X (.Call (.Name x p) [e] [] pos) (tCB r (BZ te C8)) (DH g m):=⟨EY hc hg hm hv (CJ ha.p Cq he) hn hdb he rfl,Ot hr ha.r⟩
theorem Qn{p:Pos}(hm:X.mg "list"=none)(ha:QN K X e te m)(hg:Gl X "list":=by rfl)(he:starEach [e] X.env=[(false,eval e X.env)]:=by rfl)(hK:X.K=K:=by rfl):QN K X (.Call (.Name "list" p) [e] [] pos) (tCB (K1 K) (BZ te C8)) (Jc m):=⟨EY (OS K hK) hg hm NH (CJ ha.p Cq he) (by decide) (by decide) he rfl,QY ha.r⟩
theorem Gm{id:String}{r:V->List V->Hp->VK->Prop}{f:D->List D->Hd->Option (D × Hd)}{name:Str}{apos cpos:Pos}{o:Expr}{to:TE}{mo:ME}(slot:Slot "list" name id)(hty:typeOf (.builtin id)=pure (.type "method_descriptor"))(hm:MtM X id r)(hr:RM K r f)(ho:QE K X o to mo)(ha:QA K X (e :: es) t m)
    (hbase:attributeBase o name X.env (eval o X.env)=eval o X.env:=by rfl)
    (hfew:((backTo cpos (starEach (e :: es) X.env)).all (λ x=>!x.1) && (backToKw cpos (keywordEach [] X.env)).all (λ x=>x.1.isSome)
      && decide ((e :: es).length + ([]:List Keyword).length + (if([]:List Keyword).isEmpty then 0 else 1) < 30))=true:=by rfl)
    (hline:(apos.endLine == cpos.line)=true:=by rfl) (hs:starEach (e :: es) X.env=(false,eval e X.env) :: starEach es X.env:=by rfl) (hplain:(backTo cpos (starEach es X.env)).any (·.1)=false:=by rfl) (hK:X.K=K:=by rfl) :
    QE K X (.Call (.Attribute o name apos) (e :: es) [] cpos) (tBM K "list" r to t) (mMt f mo m):=by
  subst hK
  exact⟨W3 PySem.F.plainAttrs_list slot hty hm ho.p ha.p hbase hfew hline hs hplain,Vu hr ho.r ha.r⟩
theorem AE(w:Nat){j k:Nat}{f:Addr}{fd:FuncData}{ps:List Str}{n:Nat}{F:List D->Hd->Option (D × Hd)}{st:Stmt}{p:Pos}(G:FnOk X.prog X.w X.K X.mg X.base CX0 j f fd ps (spF K n F))(hr:Room k X.A)(DA:DefAt X.K X.mg x st f fd ps)(ha:QA K X (e :: es) t m)(hF:∀ ds hd z,F ds hd=some z->ds.length=n)
    (hjk:j <= k:=by decide) (hg:Gl X x:=by rfl) (hdb:(x == ("__debug__":Str))=false:=by decide) (he:starEach (e :: es) X.env=(false,eval e X.env) :: starEach es X.env:=by rfl) (hpl:(backTo pos (starEach es X.env)).any (·.1)=false:=by rfl) :
    QE K X (.Call (.Name x p) (e :: es) [] pos) (ID (spF K n F) [] E0 t) (AG w F m):=⟨S5 G hr DA ha.p hjk hg hdb he hpl,Qd ha.r hF⟩
theorem Lc{j k:Nat}{f:Addr}{fd:FuncData}{ps:List Str}{n:Nat}{F:List D->Hd->Option (D × Hd)}{st:Stmt}{p:Pos}(G:FnOk X.prog X.w X.K X.mg X.base CX0 j f fd ps (spF K n F))(hr:Room k X.A)(DA:DefAt X.K X.mg x st f fd ps)(ha:QA K X (e :: es) t m)(hF:∀ ds hd z,F ds hd=some z->ds.length=n)
    (hjk:j <= k:=by decide) (hg:Gl X x:=by rfl) (hdb:(x == ("__debug__":Str))=false:=by decide) (he:starEach (e :: es) X.env=(false,eval e X.env) :: starEach es X.env:=by rfl) (hpl:(backTo pos (starEach es X.env)).any (·.1)=false:=by rfl) :
    QE K X (.Call (.Name x p) (e :: es) [] pos) (ID (spF K n F) [] E0 t) (GY F m):=⟨S5 G hr DA ha.p hjk hg hdb he hpl,Qe ha.r hF⟩
theorem Ss{pos:Pos}:QPs K X pos [] [] [] []:=⟨T6,trivial⟩
theorem Gk{pos:Pos}{k v:Expr}{ks:List (Option Expr)}{vs:List Expr}{tk tv:TE}{mk mv:ME}{trs:List (TE × TE)}{ms:List (ME × ME)}(hk:QE K X k tk mk)(hv:QE K X v tv mv)(hr:QPs K X pos ks vs trs ms):QPs K X pos (some k :: ks) (v :: vs) ((tk,tv) :: trs) ((mk,mv) :: ms):=⟨Qt hk.p hv.p hr.p,hk.r,hv.r,hr.r⟩
theorem Sz{pos:Pos}{keys:List (Option Expr)}{values:List Expr}{trs:List (TE × TE)}{ms:List (ME × ME)}(h:QPs K X pos keys values trs ms)(hall:keys.all (·.isSome)=true:=by rfl)(hl:keys.length=values.length:=by rfl)(h0:keys ≠ []:=by simp)
    (h15:keys.length <= 15:=by decide):QE K X (.Dict keys values pos) (Nb trs) (Kx ms):=⟨TL h.p hall hl h0 h15,Sj h.r⟩
theorem AO{i:Nat}(hN:X.N.Nodup)(hi:X.N[i]? = some x)(hx:Loc X.env.scope x)(hf:X.fn x=true ∨ X.env.scope.names.lookup x=some .local:=by first|exact .inl rfl|exact .inr rfl|assumption):QG K X (.Name x pos) (Gz i) (AU i):=⟨TJ hN hi hx hf,Jy⟩
theorem Bx:QGs K X [] Ra Dn:=⟨TF,Sd⟩
theorem Aa{tg:TG}{tgs:TGs}{n:MG}{ns:MGs}(h1:QG K X e tg n)(h2:QGs K X es tgs ns)(hs:(assignEach (e :: es) X.env).map (·.2)=assign e X.env :: (assignEach es X.env).map (·.2):=by rfl):QGs K X (e :: es) (OM tg tgs) (Au n ns):=⟨Qy h1.p h2.p hs,Qb h1.r h2.r⟩
theorem Ci{k n:Nat}{tgs:TGs}{ns:MGs}(hc:X.calm=true)(h:QGs K X es tgs ns)(hK:X.K=K:=by rfl)(hn:(assignEach es X.env).length=n:=by rfl)(hst:(assignEach es X.env).findIdx? (·.1)=none:=by rfl):QG K X (.Tuple es k pos) (OL K n tgs) (Dm n ns):=⟨TH K hc h.p hK hn hst,UQ h.r⟩
theorem GR{tg:Expr}(h:QE K X e te me)(hK:X.K=K:=by rfl):QI K X tg e (OF K te) (Cu me):=⟨TB K h.p hK,UO h.r⟩
theorem E1{tg:Expr}(h:QE K X e te me)(hK:X.K=K:=by rfl):QI K X tg e (IR K te) (DX me):=⟨Lf K h.p hK,Sb h.r⟩
theorem Ue{tg:Expr}(h:QN K X e te m)(hK:X.K=K:=by rfl):QI K X tg e (IR K te) (Fs m):=⟨Lf K h.p hK,UP h.r⟩
theorem IJ{tg:Expr}{p:Pos}(hm:X.mg "range"=none)(ha:QA K X [a] t m)(hg:Gl X "range":=by rfl)(hs:starEach [a] X.env=[(false,eval a X.env)]:=by rfl):QI K X tg (.Call (.Name "range" p) [a] [] pos) (OH t) (GD m):=⟨P5 hg hm ha.p hs,Sa ha.r⟩
theorem Su{tg:Expr}{p:Pos}(hm:X.mg "range"=none)(ha:QA K X [a,b] t m)(hg:Gl X "range":=by rfl)(hs:starEach [a,b] X.env=[(false,eval a X.env),(false,eval b X.env)]:=by rfl)(hs2:starEach [b] X.env=[(false,eval b X.env)]:=by rfl):QI K X tg (.Call (.Name "range" p) [a,b] [] pos) (OG t) (IN m):=⟨P4 hg hm ha.p hs hs2,SZ ha.r⟩
theorem Dk:QF K X [] Q0 Dp:=⟨Ut,UE⟩
theorem Hb(h:QT K X c tA nA):QF K X [c] tA nA:=⟨Us h.p,h.r⟩
theorem Bo{elt tg iter:Expr}{ifs:List Expr}{scope:Scope}{loc fr:List Str}{ix:List Nat}{wi:TI}{g:TG}{tf:TT}{te:TE}{mi:MI}{n:MG}{mf:MT}{mm:ME}(hc:X.calm=true)(S:CSc X scope fr ix)(hi:QI K X tg iter wi mi)
    (hg:∀ s H ex,QG K (cCx X (loc ++ fr) scope s H ex) tg g n) (hf:∀ s H ex,QF K (cCx X (loc ++ fr) scope s H ex) ifs tf mf) (he:∀ s H ex,QE K (cCx X (loc ++ fr) scope s H ex) elt te mm)
    (hs:∀ x,foldedSetIterable iter X.env x=pure x:=by intro _;rfl):QN K X (.ListComp elt [⟨tg,iter,ifs,0⟩] scope pos) (JF loc.length ix wi g tf te) (Bf loc.length ix mi n mf mm):=
  ⟨TN hc S hi.p (λ s H ex=>(hg s H ex).p) (λ s H ex=>(hf s H ex).p) (λ s H ex=>(he s H ex).p) hs,Ms hi.r (hg X.s₀ X.H₀ []).r (hf X.s₀ X.H₀ []).r (he X.s₀ X.H₀ []).r⟩
theorem Aq:QSs K X [] NX B9:=⟨T2,ST⟩
theorem A7{st:Stmt}{rest:List Stmt}{u v:TS}{m1 m2:MS}(h1:QS K X st u m1)(h2:QSs K X rest v m2):QSs K X (st :: rest) (Q3 u v) (AN m1 m2):=⟨Qq h1.p h2.p,UI h1.r h2.r⟩
theorem AD{st:Stmt}{u:TS}{m1:MS}(h1:QS K X st u m1):QSs K X [st] u m1:=⟨T1 h1.p,h1.r⟩
theorem CI(he:QE K X e te me)(hs:swapsWith e none pos.line X.env=pure false:=by rfl):QS K X (.Expr e pos) (Na te) (Cj me):=⟨T4 he.p hs,SU he.r⟩
theorem Ag(he:QE K X e te me):QS K X (.Return (some e) pos) (Q4 te) (Av me):=⟨Ul he.p,UJ he.r⟩
theorem BG{a b:List Stmt}{u v:TS}{m1 m2:MS}(hc:QT K X c tA nA)(ha:QSs K X a u m1)(hb:QSs K X b v m2):QS K X (.If c a b pos) (Q9 tA u v) (BK nA m1 m2):=⟨W0 hc.p ha.p hb.p,Vs hc.r ha.r hb.r⟩
theorem DD{st:Stmt}:QS K X st LH Dq:=⟨Qr,QQ⟩
theorem Ov{tg:Expr}{g:TG}{n:MG}(he:QE K X e te me)(hg:QG K X tg g n)(hs:swapsWithSole [tg] e pos.line X.env=pure false:=by rfl)(hw:swappedStores [tg] e X.env=pure none:=by rfl)
    (h1:(assignEach [tg] X.env).map (·.2)=[assign tg X.env]:=by rfl):QS K X (.Assign [tg] e pos) (Ii te g) (Iu me n):=⟨Uo he.p hg.p hs hw h1,LS he.r hg.r⟩
theorem AS{i:Nat}{pos':Pos}(hN:X.N.Nodup)(hi:X.N[i]? = some x)(hx:Loc X.env.scope x)(he:QE K X e te me)(hs:swapsWith e (some (.Name x pos')) pos.line X.env=pure false:=by rfl)(hf:X.fn x=true ∨ X.env.scope.names.lookup x=some .local:=by first|exact .inl rfl|exact .inr rfl|assumption) :
    QS K X (.Assign [.Name x pos'] e pos) (Ii te (Gz i)) (Aj i me):=⟨Uk hN hi hx he.p hs hf,LS he.r Jy⟩
theorem Sr{i:Nat}{y:Str}{elt tg iter:Expr}{ifs:List Expr}{scope:Scope}{spos py:Pos}{loc fr:List Str}{ix:List Nat}{wi:TI}{g:TG}{tf:TT}{te:TE}{mi:MI}{n:MG}{mf:MT}{mm:ME}(hN:X.N.Nodup)(hiN:X.N[i]? = some y)(hy:X.env.scope.names.lookup y=some .local)
    (hc:X.calm=true) (S:CSc X scope fr ix) (hi:QI K X tg iter wi mi)
    (hg:∀ s H ex,QG K (cCx X (loc ++ fr) scope s H ex) tg g n) (hf:∀ s H ex,QF K (cCx X (loc ++ fr) scope s H ex) ifs tf mf) (he:∀ s H ex,QE K (cCx X (loc ++ fr) scope s H ex) elt te mm)
    (hsw:swapsWith (.ListComp elt [⟨tg,iter,ifs,0⟩] scope pos) (some (.Name y py)) spos.line X.env=pure true:=by rfl) (hs:∀ x,foldedSetIterable iter X.env x=pure x:=by intro _;rfl) :
    QS K X (.Assign [.Name y py] (.ListComp elt [⟨tg,iter,ifs,0⟩] scope pos) spos) (Ii (JF loc.length ix wi g tf te) (Gz i)) (Aj i (Cn (Bf loc.length ix mi n mf mm))):=
  ⟨T3 hN hiN hy hc S hi.p (λ s H ex=>(hg s H ex).p) (λ s H ex=>(hf s H ex).p) (λ s H ex=>(he s H ex).p) hsw hs,LS (Oq (Ms hi.r (hg X.s₀ X.H₀ []).r (hf X.s₀ X.H₀ []).r (he X.s₀ X.H₀ []).r)) Jy⟩
theorem II{o i value:Expr}{pos':Pos}{td ty tv:TE}{md my mv:ME}(hu:X.A.units + 1 < cLine)(ho:QE K X o td md)(hi:QE K X i ty my)(hv:QE K X value tv mv)(hs:swapsWith value (some (.Subscript o i pos')) pos.line X.env=pure false:=by rfl) :
    QS K X (.Assign [.Subscript o i pos'] value pos) (Nk td ty tv) (Gs md my mv):=⟨T5 hu ho.p hi.p hv.p hs,SV ho.r hi.r hv.r⟩
theorem Ch{tg iter:Expr}{body:List Stmt}{wi:TI}{g:TG}{tb:TS}{mi:MI}{n:MG}{mb:MS}(hc:X.calm=true)(hi:QI K X tg iter wi mi)(hg:QG K X tg g n)(hb:QSs K X body tb mb)(hp:PassesOwn (model X.prog X.w) X.A X.env X.xe:=by exact PassesOwn.never)
    (hs:∀ x,foldedSetIterable iter X.env x=pure x:=by intro _;rfl):QS K X (.For tg iter body [] pos) (QB wi g tb) (DI mi n mb):=⟨Um hp hc hi.p hg.p hb.p hs,UK hi.r hg.r hb.r⟩
end
theorem Al{P:Program}{w:World}{K:PySem.W.Frag}{mg:Str->Option Value}{base:Heap}{x:Str}{st:Stmt}{f:Addr}{fd:FuncData}{N ps:List Str}{j:Nat}{m:MS}(DA:DefAt K mg x st f fd ps)(S:FnScope N ps (A9 st))
    (h:∀ (cdv:Value) (A:Around) (outer:List Env) (s:Shared) (H:Hp) (E:XK),Room j (A.deeper (envOfC x (A9 st) s.heap.objs.size f cdv))->∃ t,QSs K (Ht CX0 P w K mg base N x (A9 st) f cdv A outer s H E).nox (AV st) t m) :
    FnOk P w K mg base CX0 (j + 1) f fd ps (spF K ps.length (mkF ps.length N.length m)):=by
  refine DA.fn.ok S (λ vs H Q E h=>h.1) (λ cdv A outer s H vs Q E hr hs=>?_)
  obtain⟨t,q⟩:=h cdv A outer s H E hr
  exact⟨t,q.p,Mp q.r hs⟩
end L2
namespace L2
open PySem PySem.Spec PyProof.Rows
section
variable{X:Cx}{pins:List (Addr × Obj)}{σ:List (Option V)}{H H':Hp}{s:Shared}{h':Heap}
theorem Inv.turns{tk:Nat}{fp:List Addr}(I:Inv X pins σ H s)(k:∀ b o,b ∉ fp->s.heap.get? b=some o->h'.get? b=some o)(hf:∀ b ∈ fp,FpOk X pins H b):Inv X pins σ H { s with heap:=h',toks:=tk }:=by
  have out:∀ b u,H b=some u->b ∉ fp:=λ b u e z=>by rw[(hf b z).1]at e;cases e
  have hL:X.env.locals ∉ fp:=λ z=>(hf _ z).2.1 rfl
  refine I.step (g':=s.gens) (d':=s.drawn) (ch:=fp) (λ b hb=>⟨(hf b hb).2.2.2.1,(hf b hb).2.1,(hf b hb).2.2.2.2.1,(hf b hb).2.2.2.2.2⟩) (λ b o _ _ hc e _=>k b o hc e) (λ b o _ _ hc e _=>⟨o.slots,k b o hc e⟩) (λ _ _ _ _ n=>n)
    (λ b o hc e=>⟨o,k b o hc e⟩) (λ _ _ e=>e) (λ _ _ _ e=>e) (λ b ps e=>⟨#[],by rw[e];simp⟩) (λ m hm=>?_) (λ b u e=>?_) I.bare
  . obtain⟨o,es,ep,ho,r⟩:=hm
    exact⟨o,es,ep,k _ o hL ho,r⟩
  . refine(I.hok b u e).stay (λ c v hc q=>k c v ?_ q) (λ _ q=>q) λ _ _ q=>q
    rcases hc with z|z
    . rw[z];exact out b u e
    . exact out c _ z
end
theorem Inv.turnsL{X:Cx}{pins:List (Addr × Obj)}{σ:List (Option V)}{H:Hp}{s:Shared}{h':Heap}{tk:Nat}{fp:List Addr}{a:Addr}{o:HO}(I:Inv X pins σ H s)(k:∀ b o,b ∉ fp->s.heap.get? b=some o->h'.get? b=some o)(hf:∀ b ∈ fp,FpOk X pins H b)(ha:s.heap.objs.size <= a)(new:ObjOk X.prog X.w (upd H a o) h' a o) :
    Inv X pins σ (upd H a o) { s with heap:=h',toks:=tk }:=by
  have out:∀ b u,H b=some u->b ∉ fp:=λ b u e z=>by rw[(hf b z).1]at e;cases e
  have hL:X.env.locals ∉ fp:=λ z=>(hf _ z).2.1 rfl
  have fr:H a=none:=I.hok.fresh ha
  refine I.step (g':=s.gens) (d':=s.drawn) (ch:=fp) (λ b hb=>⟨(hf b hb).2.2.2.1,(hf b hb).2.1,(hf b hb).2.2.2.2.1,(hf b hb).2.2.2.2.2⟩) (λ b o _ _ hc e _=>k b o hc e) (λ b o _ _ hc e _=>⟨o.slots,k b o hc e⟩)
    (λ b o _ e n=>by rw[AF (Nat.ne_of_lt (Nat.lt_of_lt_of_le (Heap.lt_size e) ha))];exact n) (λ b o hc e=>⟨o,k b o hc e⟩) (λ b xs e=>by rw[AF (Af e fr)];exact e) (λ b o u e=>by rw[AF (Af e fr)];exact e)
    (λ b ps e=>⟨#[],by rw[AF (Af e fr),e];simp⟩) (λ m hm=>?_) (λ b u e=>?_) I.bare
  . obtain⟨o,es,ep,ho,r⟩:=hm
    exact⟨o,es,ep,k _ o hL ho,r⟩
  . by_cases hb:b=a
    . subst hb;rw[AR]at e;cases e;exact new
    . rw[AF hb]at e
      refine(I.hok b u e).stay (λ c v hc q=>k c v ?_ q) (λ c q=>by rw[AF (Af q fr)];exact q) λ c xs q=>by rw[AF (Af q fr)];exact q
      rcases hc with z|z
      . rw[z];exact out b u e
      . exact out c _ z
noncomputable def Yc(tp:Bool)(h:Heap)(it l:Addr)(k:Nat):Prop:=match tp with
  | true=>h.IsTupleIter it l k
  | false=>h.IsListIter it l k
section
variable{prog:Program}{w:World}{A:Around}{E:Value->Shared->Prop}{s:Shared}{it l:Addr}{k:Nat}{xs:Array Value}{x:Value}
end
section
variable{prog:Program}{w:World}{A:Around}{E:Value->Shared->Prop}{s:Shared}{t1 t2:Bool}{z a b i1 i2 l1 l2:Addr}{j k:Nat}{xs ys:Array Value}{x y:Value}
end
noncomputable def SqS(K:PySem.W.Frag)(tp:Bool)(H:Hp)(a:Addr)(xs:List V):Prop:=match tp with
  | true=>SqT K H a xs
  | false=>SqL K H a xs
section
variable{X:Cx}{pins:List (Addr × Obj)}{σ:List (Option V)}{H:Hp}{s:Shared}
end
end L2
namespace L2
open PySem PySem.Spec PyProof.Rows
section
variable{prog:Program}{w:World}{A:Around}{E:Value->Shared->Prop}{s:Shared}
end
section
variable{X:Cx}
end
noncomputable def WZ(K:PySem.W.Frag)(ρ:List Addr)(H:Hp)(tp:Bool)(a:Addr)(ds:List D)(g:Gd):Prop:=∀ (ρ2:List Addr) (H2:Hp) (hd2:Hd),Ext ρ H ρ2 H2->RH K ρ2 H2 hd2->GOk hd2 g->∃ xs,SqS K tp H2 a xs/\RDs K ρ2 H2 ds xs
noncomputable def RRw(K:PySem.W.Frag)(tp:Bool)(t:TE)(m:MI):Prop:=∀ (ρ:List Addr) (σ:St) (H:Hp) (hd:Hd) (ls:Ls) (Q:VK) (d:List D) (g:Gd) (hd':Hd),RH K ρ H hd->RL K ρ H ls σ->m ls hd=some ((d,g),hd') ->
  (∀ ρ' H' a,Ext ρ H ρ' H'->RH K ρ' H' hd'->GOk hd' g->WZ K ρ' H' tp a d g->Q (.ref a) H')->t σ H Q
structure QR(K:PySem.W.Frag)(tp:Bool)(X:Cx)(e:Expr)(t:TE)(m:MI):Prop where
  p:PE X e t
  r:RRw K tp t m
section
variable{K:PySem.W.Frag}{ρ ρ':List Addr}{H H':Hp}{hd hd':Hd}
theorem UB{t:TE}{m:ME}(h:RE K t m):RRw K true t (Cu m):=by
  intro ρ σ H hd ls Q d g hd' hR hL hm hQ
  obtain⟨⟨d1,h1⟩,e1,hm⟩:=Option.bind_eq_some_iff.mp hm
  obtain⟨ds,e2,e3⟩:=Option.map_eq_some_iff.mp hm
  cases e3
  refine h ρ σ H hd ls _ d1 _ hR hL e1 λ ρ1 H1 v x1 R1 r1=>?_
  obtain⟨a,xs,rfl,q,r⟩:=r1.tup e2
  exact hQ ρ1 H1 a x1 R1 (Ak _) λ ρ2 H2 hd2 x2 R2 _=>⟨xs,(x2.grow R1).sq q,r.ext R1 x2⟩
theorem SR{t:TE}{m:ME}(h:RE K t m):RRw K false t (DX m):=by
  intro ρ σ H hd ls Q d g hd' hR hL hm hQ
  obtain⟨⟨d1,h1⟩,e1,hm⟩:=Option.bind_eq_some_iff.mp hm
  dsimp only at hm
  split at hm
  . next n=>
    split at hm
    . next ds q=>
      cases hm
      refine h ρ σ H hd ls _ _ _ hR hL e1 λ ρ1 H1 v x1 R1 r1=>?_
      simp only[RD]at r1
      obtain⟨a,hn,rfl⟩:=r1
      refine hQ ρ1 H1 a x1 R1 (λ p z=>by simp at z;subst z;exact q) λ ρ2 H2 hd2 x2 R2 G2=>?_
      have hn2:ρ2[n]? = some a:=by
        obtain⟨r,rfl,_⟩:=x2.pre
        rw[List.getElem?_append_left (List.getElem?_eq_some_iff.mp hn).1];exact hn
      obtain⟨ys,e4,e5⟩:=R2.lst hn2 (G2 (n,d) (by simp))
      exact⟨ys,SqL.of e4,e5⟩
    . cases hm
  . next ns=>
    cases hm
    refine h ρ σ H hd ls _ _ _ hR hL e1 λ ρ1 H1 v x1 R1 r1=>?_
    simp only[RD]at r1
    obtain⟨a,rfl,q⟩:=r1
    exact hQ ρ1 H1 a x1 R1 (Ak _) λ ρ2 H2 hd2 x2 R2 _=>⟨_,(q.grow (x2.grow R1)).sq,EZ⟩
  . cases hm
theorem UC{t:TE}{m:MA}(h:RN K t m):RRw K false t (Fs m):=by
  intro ρ σ H hd ls Q d g hd' hR hL hm hQ
  obtain⟨⟨d1,h1⟩,e1,e3⟩:=Option.map_eq_some_iff.mp hm
  cases e3
  refine h ρ σ H hd ls _ _ _ hR hL e1 λ ρ1 H1 a xs x1 R1 na oa ea r1=>?_
  exact hQ ρ1 H1 a x1 R1 (Ak _) λ ρ2 H2 hd2 x2 R2 _=>⟨xs,SqL.of (x2.keep a _ ea oa nt),r1.ext R1 x2⟩
end
section
variable(K:PySem.W.Frag){X:Cx}{a b e:Expr}{ta tb te:TE}{me:ME}{m:MA}
theorem FH(h:QE K X e te me):QR K true X e te (Cu me):=⟨h.p,UB h.r⟩
theorem K2(h:QE K X e te me):QR K false X e te (DX me):=⟨h.p,SR h.r⟩
theorem Ow(h:QN K X e te m):QR K false X e te (Fs m):=⟨h.p,UC h.r⟩
end
section
variable{K:PySem.W.Frag}
noncomputable def K6(ml:MA)(mb:ME):ME:=λ ls hd=>(ml ls hd).bind λ p=>(mb ls p.2).bind λ q=>match q.1 with
  | .im (.int i)=>(atI p.1 i).map (·,q.2)
  | _=>none
theorem UX{ta tb:TE}{ml:MA}{mb:ME}(ha:RN K ta ml)(hb:RE K tb mb):RE K (tOp (Kv K) ta tb) (K6 ml mb):=by
  intro ρ σ H hd ls Q d hd' hR hL hm hQ
  obtain⟨⟨d1,h1⟩,e1,hm⟩:=Option.bind_eq_some_iff.mp hm
  obtain⟨⟨d2,h2⟩,e2,hm⟩:=Option.bind_eq_some_iff.mp hm
  dsimp only at hm
  split at hm
  . obtain⟨w,e3,e4⟩:=Option.map_eq_some_iff.mp hm
    cases e4
    refine ha ρ σ H hd ls _ d1 h1 hR hL e1 λ ρ1 H1 a xs x1 R1 na oa ea r1=>?_
    refine hb ρ1 σ H1 h1 ls _ _ _ R1 (hL.ext hR x1) e2 λ ρ2 H2 v2 x2 R2 r2=>?_
    simp only[RD,RI]at r2
    subst r2
    have r1':=r1.ext R1 x2
    obtain⟨j,j1,j2⟩:=NI r1'.len e3
    obtain⟨x,y1,y2⟩:=r1'.get j1
    exact .inl ⟨a,xs,_,x,rfl,rfl,SqL.of (x2.keep a _ ea oa nt),j2 x y1,hQ ρ2 H2 x (x1.trans R1 x2) R2 y2⟩
  . cases hm
noncomputable def HF(neg:Bool)(x y:PyData)(hd:Hd):Option (D × Hd):=if x.canLay0=true/\y.canLay0=true/\min x.depth y.depth <= 60 then some (.im (.bl (if neg then !PyData.eqv x y else PyData.eqv x y)),hd)else none
noncomputable def Gq(neg:Bool)(ma:ME)(ml:MA):ME:=λ ls hd=>(ma ls hd).bind λ p=>(ml ls p.2).bind λ q=>(pyD q.2 p.1).bind λ x=>(CA q.1).bind λ is=>HF neg x (.list (I.pys is)) q.2
noncomputable def Jd(neg:Bool)(ml mk:MA):ME:=λ ls hd=>(ml ls hd).bind λ p=>(mk ls p.2).bind λ q=>(CA p.1).bind λ is=>(CA q.1).bind λ js=>HF neg (.list (I.pys is)) (.list (I.pys js)) q.2
noncomputable def rEN(K:PySem.W.Frag)(neg:Bool):R2:=λ x y H Q=>∃ d e,Rep K H d x/\Rep K H e y/\d.canLay0=true/\e.canLay0=true/\min d.depth e.depth <= 60/\Q (.bl (if neg then !PyData.eqv d e else PyData.eqv d e)) H
theorem Jz{ρ:List Addr}{H:Hp}{a:Addr}{xs:List V}{ds:List D}{is:List I}(ea:H a=some (.lst xs))(r:RDs K ρ H ds xs)(e:CA ds=some is):Rep K H (.list (I.pys is)) (.ref a):=by
  rw[HH e]at r
  simp only[Rep]
  exact⟨a,xs,rfl,SqL.of ea,r.is.rep⟩
theorem Si{neg:Bool}{ta tb:TE}{ma:ME}{ml:MA}(ha:RE K ta ma)(hb:RN K tb ml):RE K (tOp (rEN K neg) ta tb) (Gq neg ma ml):=by
  intro ρ σ H hd ls Q d hd' hR hL hm hQ
  obtain⟨⟨d1,h1⟩,e1,hm⟩:=Option.bind_eq_some_iff.mp hm
  obtain⟨⟨d2,h2⟩,e2,hm⟩:=Option.bind_eq_some_iff.mp hm
  obtain⟨x,e3,hm⟩:=Option.bind_eq_some_iff.mp hm
  obtain⟨is,e4,hm⟩:=Option.bind_eq_some_iff.mp hm
  unfold HF at hm
  split at hm
  . next c=>
    cases hm
    refine ha ρ σ H hd ls _ d1 h1 hR hL e1 λ ρ1 H1 v x1 R1 r1=>?_
    refine hb ρ1 σ H1 h1 ls _ d2 _ R1 (hL.ext hR x1) e2 λ ρ2 H2 a xs x2 R2 na oa ea r2=>?_
    exact⟨_,_,GS R2 (r1.ext R1 x2) e3,Jz ea r2 e4,c.1,c.2.1,c.2.2,hQ ρ2 H2 _ (x1.trans R1 x2) R2 (by simp[RD,RI])⟩
  . cases hm
theorem Sh{neg:Bool}{ta tb:TE}{ml mk:MA}(ha:RN K ta ml)(hb:RN K tb mk):RE K (tOp (rEN K neg) ta tb) (Jd neg ml mk):=by
  intro ρ σ H hd ls Q d hd' hR hL hm hQ
  obtain⟨⟨d1,h1⟩,e1,hm⟩:=Option.bind_eq_some_iff.mp hm
  obtain⟨⟨d2,h2⟩,e2,hm⟩:=Option.bind_eq_some_iff.mp hm
  obtain⟨is,e4,hm⟩:=Option.bind_eq_some_iff.mp hm
  obtain⟨js,e3,hm⟩:=Option.bind_eq_some_iff.mp hm
  unfold HF at hm
  split at hm
  . next c=>
    cases hm
    refine ha ρ σ H hd ls _ d1 h1 hR hL e1 λ ρ1 H1 a xs x1 R1 na oa ea r1=>?_
    refine hb ρ1 σ H1 h1 ls _ d2 _ R1 (hL.ext hR x1) e2 λ ρ2 H2 b ys x2 R2 nb ob eb r2=>?_
    exact⟨_,_,Jz (x2.keep a _ ea oa nt) (r1.ext R1 x2) e4,Jz eb r2 e3,c.1,c.2.1,c.2.2,hQ ρ2 H2 _ (x1.trans R1 x2) R2 (by simp[RD,RI])⟩
  . cases hm
end
theorem PB(K:PySem.W.Frag){X:Cx}(hu:X.A.units + 64 < cLine)(hK:X.K=K:=by rfl):OpR X (compareOp .NotEq) (rEN K true):=Es K hu hK
section
variable(K:PySem.W.Frag){X:Cx}{a b e:Expr}{ta tb te:TE}{ma mb me:ME}{m mk:MA}{pos:Pos}{op:CmpOp}{neg:Bool}
theorem Oz(ha:QN K X a ta m)(hb:QE K X b tb mb)(hs:KL b:=by exact λ _ _=>rfl)(hK:X.K=K:=by rfl):QE K X (.Subscript a b pos) (tOp (Kv K) ta tb) (K6 m mb):=⟨S4 ((M3 K hK).or (NC K hK)) ha.p hb.p hs,UX ha.r hb.r⟩
theorem Sq(ho:OpR X (compareOp op) (rEN K neg))(ha:QE K X a ta ma)(hb:QN K X b tb m)(hm:behindInMarks op b=false:=by first|exact JS _|rfl):QT K X (.Compare a [op] [b] pos) (JE (tOp (rEN K neg) ta tb)) (AX (Gq neg ma m)):=⟨K3 ho ha.p hb.p hm,Ep (Si ha.r hb.r)⟩
theorem So(ho:OpR X (compareOp op) (rEN K neg))(ha:QN K X a ta m)(hb:QN K X b tb mk)(hm:behindInMarks op b=false:=by first|exact JS _|rfl):QT K X (.Compare a [op] [b] pos) (JE (tOp (rEN K neg) ta tb)) (AX (Jd neg m mk)):=⟨K3 ho ha.p hb.p hm,Ep (Sh ha.r hb.r)⟩
end
end L2
namespace L2
open PySem PySem.Spec PyProof.Rows
noncomputable def CO(lo:Int):Nat->List V
  | 0=>[]
  | n + 1=>.int lo :: CO (lo + 1) n
theorem Nu(lo:Int)(n:Nat):(CO lo n).length=n:=by
  induction n generalizing lo with
  | zero=>rfl
  | succ n ih=>simp[CO,ih]
theorem LW{K:PySem.W.Frag}{ρ:List Addr}{H:Hp}(lo:Int)(n:Nat):RDs K ρ H (Ax lo n) (CO lo n):=by
  induction n generalizing lo with
  | zero=>simp[Ax,CO,RDs]
  | succ n ih=>exact .cons (by simp[RD,RI]) (ih _)
theorem JK{lo:Int}:∀ {n:Nat} {us:List Value},us.length=n->(∀ (j:Nat) (v:Value),us[j]? = some v->∃ t,v=.int (lo + j * 1) t)->Vals (CO lo n) us
  | 0,us,h,_=>by
    have:us=[]:=List.length_eq_zero_iff.mp h
    subst this;exact .nil
  | n + 1,[],h,_=>by simp at h
  | n + 1,u :: us,h,k=>by
    obtain⟨t,e⟩:=k 0 u rfl
    refine .cons ⟨t,by rw[e];simp⟩ (JK (by simpa using h) λ j v q=>?_)
    obtain⟨t',e'⟩:=k (j + 1) v (by simpa using q)
    exact⟨t',by rw[e'];congr 1;push_cast;omega⟩
section
variable{prog:Program}{w:World}{A:Around}{E:Value->Shared->Prop}{s:Shared}
theorem Md{Q:List Value->Shared->Prop}{r:Addr}{a b c:Int}{t u v:Tok}{n:Nat}(hh:A.handled=none)(hr:IsRange s.heap r a b c t u v)(hsm:Builtin.Range.small a b c=true)(hn:Builtin.Range.rangeSize a b c=n)(hl:n <= 2 ^ 24)
    (hQ:∀ g tk (acc:Array Value),(∀ b o,s.heap.get? b=some o->g.get? b=some o)->ItemsOf (λ i v=>∃ t,v=.int (a + i * c) t) acc n->Q acc.toList { s with heap:=g,toks:=tk }) :
    wpAny (model prog w) A (collect (.ref r)) Q E s:=by
  unfold collect
  refine wpAny_bind (wpAny_runValue (codeAny_builtin F.entry_proto_collect ?_))
  rw[Around.under_plainId F.plain_proto_collect _]
  show wpAny _ A.in1 (newList [] >>= λ l=>again (.builtin "list.__iadd__" ⟨[l,.ref r],[]⟩)) _ _ s
  refine wpAny_bind (wpAny_newObj_type (wpAny_pure ⟨plainId_quiet F.plain_list_iadd _,codeAny_builtin F.entry_list_iadd ?_⟩))
  rw[Around.under_plainId F.plain_list_iadd _]
  show wpAny _ A.in1 (Builtin.List.listExtendWith (.ref s.heap.objs.size) (.ref r) (.ref s.heap.objs.size)) _ _ _
  have e0:(s.heap.push { cls:=.type "list",data:=.seq ([]:List Value).toArray }).get? s.heap.objs.size=some { cls:=.type "list",data:=.seq #[] 0 }:=Heap.get?_push_size _ rfl
  have fin:∀ g tk (acc:Array Value) c',(∀ b o,b ≠ s.heap.objs.size->(s.heap.push { cls:=.type "list",data:=.seq ([]:List Value).toArray }).get? b=some o->g.get? b=some o)->g.get? s.heap.objs.size=some { cls:=.type "list",dict:=none,data:=.seq acc c',slots:=#[] }->ItemsOf (λ i v=>∃ t,v=.int (a + i * c) t) acc n ->
      wpAny (model prog w) A (load s.heap.objs.size >>= λ o=>match o.data with|Data.seq xs epoch=>pure xs.toList|x=>unsupported "internal:collect") Q E { s with heap:=g,toks:=tk }:=λ g tk acc c' kp eS it=>
    wpAny_bind (wpAny_load eS (wpAny_pure (hQ g tk acc (λ b o q=>kp b o (Nat.ne_of_lt (Heap.lt_size q)) (Heap.get?_push_of_some _ q)) it)))
  refine wpAny_mono (wpAny_extend_range (A:=A) (R:=λ r s'=>r=.ok (.ret (.ref s.heap.objs.size))/\∃ g tk,s'={ s with heap:=g,toks:=tk }/\wpAny (model prog w) A (load s.heap.objs.size >>= λ o=>match o.data with|Data.seq xs epoch=>pure xs.toList|x=>unsupported "internal:collect") Q E s')
    (s:={ s with heap:=s.heap.push { cls:=.type "list",data:=.seq ([]:List Value).toArray } }) hh (Heap.get?_push_of_some _ hr) hsm hn hl s.heap.objs.size (.ref s.heap.objs.size) 0 e0 λ g tk acc c' kp eS it=>⟨rfl,g,tk,rfl,fin g tk acc c' kp eS it⟩) (λ fn s' h=>?_) (λ e s' h=>absurd h.1 (by simp))
  cases fn with
  | done f=>
    obtain⟨e,_,_,_,q⟩:=h
    cases e
    exact q
  | again c'=>exact⟨h.1,codeAny_mono h.2 λ r s'' hr=>by obtain⟨rfl,_,_,_,q⟩:=hr;exact q⟩
end
noncomputable def My:List V->Hp->VK->Prop:=λ xs H Q=>∃ j:Int,xs=[.int j]/\∀ p,H p=none->Q (.ref p) (upd H p (.rng 0 j))
noncomputable def Mx:List V->Hp->VK->Prop:=λ xs H Q=>∃ i j:Int,xs=[.int i,.int j]/\∀ p,H p=none->Q (.ref p) (upd H p (.rng i j))
noncomputable def LZ:List V->Hp->VK->Prop:=λ xs H Q=>∃ a lo hi,xs=[.ref a]/\H a=some (.rng lo hi)/\(-(2 ^ 62) <= lo/\lo < 2 ^ 62/\-(2 ^ 62) <= hi/\hi < 2 ^ 62)/\(hi - lo).toNat <= 2 ^ 24/\∀ p,H p=none->Q (.ref p) (upd H p (.lst (CO lo (hi - lo).toNat)))
section
variable{X:Cx}
theorem call_rng1:CallR X (.type "range") My:=by
  intro pins s σ H xs us Q I r h
  obtain⟨j,rfl,q⟩:=h
  obtain⟨u,rfl,t,rfl⟩:=Cd r
  exact call_range_1 ⟨.ref s.heap.objs.size,_,I.laid (a:=s.heap.objs.size) (o:=.rng 0 j) (λ b o e=>Heap.get?_push_of_some _ e) (Nat.le_refl _) ⟨_,_,_,Heap.get?_push_size _ rfl⟩,rfl,q _ (I.hok.fresh (Nat.le_refl _))⟩
theorem Ke:CallR X (.type "range") Mx:=by
  intro pins s σ H xs us Q I r h
  obtain⟨i,j,rfl,q⟩:=h
  obtain⟨u,v,rfl,⟨t,rfl⟩,⟨t',rfl⟩⟩:=Vn r
  exact call_range_2 ⟨.ref s.heap.objs.size,_,I.laid (a:=s.heap.objs.size) (o:=.rng i j) (λ b o e=>Heap.get?_push_of_some _ e) (Nat.le_refl _) ⟨_,_,_,Heap.get?_push_size _ rfl⟩,rfl,q _ (I.hok.fresh (Nat.le_refl _))⟩
theorem Rq{lo hi:Int}:Builtin.Range.rangeSize lo hi 1=((hi - lo).toNat:Nat):=by rw[rangeSize_one];split <;> omega
theorem Ji{lo:Int}{n:Nat}{acc:Array Value}(it:ItemsOf (λ i v=>∃ t,v=.int (lo + i * 1) t) acc n):Vals (CO lo n) acc.toList:=JK (by simpa using it.1) λ j v q=>it.2 j v (by simpa using q)
theorem OR(hc:X.calm=true):CallR X (.type "list") LZ:=by
  intro pins s σ H xs us Q I r h
  obtain⟨a,lo,hi,rfl,ha,⟨b1,b2,b3,b4⟩,hz,q⟩:=h
  obtain⟨u,rfl,ru⟩:=Cd r
  cases ru
  obtain⟨t,u,v,hr⟩:∃ t u v,s.heap.get? a=some { cls:=.type "range",data:=.fields #[.int lo t,.int hi u,.int 1 v] }:=I.hok a _ ha
  refine call_list_range (I.ok.hd hc) hr (small_one b1 b2 b3 b4) Rq hz λ g tk acc c' kp e it=>?_
  exact⟨.ref s.heap.objs.size,_,I.laid (t':=tk) (o:=.lst _) kp (Nat.le_refl _) ⟨by rw[Nu,sizeLine_eq];omega,acc.toList,c',Ji it,by simpa using e⟩,rfl,q _ (I.hok.fresh (Nat.le_refl _))⟩
end
section
variable{K:PySem.W.Frag}
open Classical in
noncomputable def Iq(m:MA):MA:=λ ls hd=>(m ls hd).bind λ p=>match p.1 with
  | [.im (.int j)]=>if Kt j then some (Ax 0 j.toNat,p.2)else none
  | [.im (.int i),.im (.int j)]=>if Rr i j then some (Ax i (j - i).toNat,p.2)else none
  | _=>none
noncomputable def JN:List V->Hp->VK->Prop:=λ xs H Q=>My xs H Q ∨ Mx xs H Q
theorem QX{t:TA}{m:MA}(h:RA K t m):RN K (tCB LZ (BZ (tCB JN t) C8)) (Iq m):=by
  intro ρ σ H hd ls Q d hd' hR hL hm hQ
  obtain⟨⟨d1,h1⟩,e1,hm⟩:=Option.bind_eq_some_iff.mp hm
  dsimp only at hm
  refine h ρ σ H hd ls _ d1 h1 hR hL e1 λ ρ1 H1 v x1 R1 r1=>?_
  split at hm
  . next j=>
    split at hm
    . next c=>
      have c:j < 2 ^ 24/\-(2 ^ 62) <= j:=c
      cases hm
      simp only[RDs,RD,RI]at r1
      obtain⟨x,r,rfl,rfl,rfl⟩:=r1
      refine .inl ⟨j,rfl,λ p hp=>⟨p,0,j,rfl,AR,⟨by decide,by decide,c.2,by omega⟩,by omega,λ l hl=>?_⟩⟩
      obtain⟨R2,x2⟩:=R1.hid (ho:=.rng 0 j) hp
      obtain⟨R3,x3⟩:=R2.hid (ho:=.lst (CO 0 (j - 0).toNat)) hl
      refine hQ ρ1 _ l (CO 0 (j - 0).toNat) ((x1.trans R1 x2).trans R2 x3) R3 ((x1.trans R1 x2).none hR hl R2) (R2.out hl) AR ?_
      rw[Int.sub_zero];exact LW 0 _
    . cases hm
  . next i j=>
    split at hm
    . next c=>
      cases hm
      simp only[RDs,RD,RI]at r1
      obtain⟨x,r,rfl,rfl,y,r2,rfl,rfl,rfl⟩:=r1
      refine .inr ⟨i,j,rfl,λ p hp=>⟨p,i,j,rfl,AR,⟨c.1.1,c.1.2,c.2.1.1,c.2.1.2⟩,c.2.2,λ l hl=>?_⟩⟩
      obtain⟨R2,x2⟩:=R1.hid (ho:=.rng i j) hp
      obtain⟨R3,x3⟩:=R2.hid (ho:=.lst (CO i (j - i).toNat)) hl
      exact hQ ρ1 _ l (CO i (j - i).toNat) ((x1.trans R1 x2).trans R2 x3) R3 ((x1.trans R1 x2).none hR hl R2) (R2.out hl) AR (LW i _)
    . cases hm
  . cases hm
noncomputable def W8(m:MA):ME:=λ ls hd=>(Iq m ls hd).bind λ p=>some (B1 p.1,p.2)
theorem GU:∀ {xs ys:List Int},xs.Perm ys->xs.Pairwise (· <= ·)->ys.Pairwise (· <= ·)->xs=ys:=λ {xs ys} p a b=>
  p.eq_of_pairwise (le:=(· <= ·)) (λ _ _ _ _ h1 h2=>Int.le_antisymm h1 h2) a b
noncomputable def Ar(xs:List Int):List Int:=xs.mergeSort (λ a b=>decide (a <= b))
theorem BN(xs:List Int):(Ar xs).Perm xs:=List.mergeSort_perm ..
theorem Df(xs:List Int):(Ar xs).Pairwise (· <= ·):=by
  have:=List.pairwise_mergeSort (le:=λ a b:Int=>decide (a <= b)) (by intro a b c h1 h2;simp at *;omega) (by intro a b;simp;omega) xs
  exact this.imp (by simp)
noncomputable def DV(m:MI):MA:=λ ls hd=>(m ls hd).bind λ p=>(BO p.1.1).bind λ ns=>if ns.length < 64 then some ((Ar ns).map λ i=>.im (.int i),p.2)else none
theorem No{t:TE}{m:MI}(h:RRw K false t m):RN K (tCB (K0 K) (BZ t C8)) (DV m):=by
  intro ρ σ H hd ls Q d hd' hR hL hm hQ
  obtain⟨⟨⟨d1,g1⟩,h1⟩,e1,hm⟩:=Option.bind_eq_some_iff.mp hm
  obtain⟨ns,e2,hm⟩:=Option.bind_eq_some_iff.mp hm
  split at hm
  . next c=>
    cases hm
    refine h ρ σ H hd ls _ d1 g1 _ hR hL e1 λ ρ1 H1 a x1 R1 G1 S1=>?_
    obtain⟨xs,q,r⟩:=S1 ρ1 H1 _ .refl R1 G1
    have e3:d1=ns.map λ i=>.im (.int i):=DN e2
    rw[e3]at r
    have:=FZ r
    subst this
    refine⟨a,ns,rfl,q,c,λ p ns' hp pm pw=>?_⟩
    have:ns'=Ar ns:=GU (pm.trans (BN ns).symm) pw (Df ns)
    subst this
    obtain⟨R2,x2⟩:=R1.hid (ho:=.lst ((Ar ns).map V.int)) hp
    exact hQ ρ1 _ p _ (x1.trans R1 x2) R2 (x1.none hR hp R1) (R1.out hp) AR EZ
  . cases hm
end
section
variable(K:PySem.W.Frag){X:Cx}{a b e:Expr}{ta tb te:TE}{me:ME}{m:MA}{t:TA}{p p2 pos pos2:Pos}{es:List Expr}
theorem Qm(hm:X.mg "list"=none)(hm2:X.mg "range"=none)(ha:QA K X (a :: es) t m)(hc:X.calm=true:=by rfl)(hg:Gl X "list":=by rfl)(hg2:Gl X "range":=by rfl)(he2:starEach (a :: es) X.env=(false,eval a X.env) :: starEach es X.env:=by rfl)(hpl:(backTo pos2 (starEach es X.env)).any (·.1)=false:=by rfl)
    (he:starEach [.Call (.Name "range" p2) (a :: es) [] pos2] X.env=[(false,eval (.Call (.Name "range" p2) (a :: es) [] pos2) X.env)]:=by rfl) :
    QN K X (.Call (.Name "list" p) [.Call (.Name "range" p2) (a :: es) [] pos2] [] pos) (tCB LZ (BZ (tCB JN t) C8)) (Iq m):=
  ⟨EY (OR hc) hg hm NH (CJ (EY (call_rng1.or Ke) hg2 hm2 boot_range ha.p (by decide) (by decide) he2 hpl) Cq he) (by decide) (by decide) he rfl,QX ha.r⟩
theorem JO{mi:MI}(hm:X.mg "sorted"=none)(ha:QR K false X e te mi)(hg:Gl X "sorted":=by rfl)(he:starEach [e] X.env=[(false,eval e X.env)]:=by rfl)(hK:X.K=K:=by rfl):QN K X (.Call (.Name "sorted" p) [e] [] pos) (tCB (K0 K) (BZ te C8)) (DV mi):=
  ⟨Fk (MP K hK) hg hm GA (CJ ha.p Cq he) (by decide) (by decide) he rfl,No ha.r⟩
end
end L2
namespace L2
structure BltA(mg:PySem.Str->Option PySem.Value):Prop where
  list:mg "list"=none
  tuple:mg "tuple"=none
  len:mg "len"=none
  range:mg "range"=none
  repr:mg "repr"=none
  sum:mg "sum"=none
  min:mg "min"=none
  max:mg "max"=none
  abs:mg "abs"=none
  all:mg "all"=none
  any:mg "any"=none
  sorted:mg "sorted"=none
  zip:mg "zip"=none
  isinstance:mg "isinstance"=none
  int:mg "int"=none
  bool:mg "bool"=none
  str:mg "str"=none
  set:mg "set"=none
  enumerate:mg "enumerate"=none
  reversed:mg "reversed"=none
  dict:mg "dict"=none
end L2
namespace L2
open PySem PySem.Spec PyProof.Rows
section
variable{ls:Ls}{hd:Hd}{a b c:MS}{ma mb mc:ME}{ta tb:MT}{m m1 m2:MA}{n:MG}{ns:MGs}{d e:D}
@[simp] theorem VS:AN a b ls hd=(a ls hd).bind λ p=>match p.1 with
  | .nx ls1=>b ls1 p.2
  | f=>some (f,p.2):=rfl
@[simp] theorem XR:B9 ls hd=some (.nx ls,hd):=rfl
@[simp] theorem XX:Cj ma ls hd=(ma ls hd).bind λ p=>some (.nx ls,p.2):=rfl
@[simp] theorem Xp:Av ma ls hd=(ma ls hd).bind λ p=>some (.rt p.1,p.2):=rfl
@[simp] theorem XL:W9 ls hd=some (.rt (.im .non),hd):=rfl
@[simp] theorem X8:VC ls hd=some (.bk ls,hd):=rfl
@[simp] theorem Xb:WG ls hd=some (.ct ls,hd):=rfl
@[simp] theorem Xx:BK ta a b ls hd=(ta ls hd).bind λ p=>if p.1=true then a ls p.2 else b ls p.2:=rfl
@[simp] theorem Pc:Iu ma n ls hd=(ma ls hd).bind λ p=>(n p.1 ls p.2).map λ ls'=>(.nx ls',p.2):=rfl
@[simp] theorem Tt(i:Nat):AU i d ls hd=some (ls.set i (some d)):=rfl
@[simp] theorem XN(k:Nat):Dm k ns d ls hd=(Ap d).bind λ ds=>if ds.length=k then ns ds ls hd else none:=rfl
@[simp] theorem X4(d:D)(ds:List D):Au n ns (d :: ds) ls hd=(n d ls hd).bind λ ls1=>ns ds ls1 hd:=rfl
@[simp] theorem XQ:Dn [] ls hd=some ls:=rfl
@[simp] theorem Xq(ix:List Nat):RQ ix m ls hd=(m ls hd).bind λ p=>if p.1.length=ix.length then some (.nx ((ix.zip p.1).foldl (λ l q=>l.set q.1 (some q.2)) ls),p.2)else none:=rfl
@[simp] theorem XM(i j k:Nat):WB i j k m ls hd=RQ [k,j,i] (λ ls hd=>(m ls hd).map λ p=>(p.1.reverse,p.2)) ls hd:=rfl
@[simp] theorem VP(i:Nat):A2 i ls hd=match ls[i]? with
  | some (some d)=>some (d,hd)
  | _=>none:=rfl
@[simp] theorem Yb(i:I):mC i ls hd=some (.im i,hd):=rfl
@[simp] theorem YN(f:D->D->Hd->Option (D × Hd)):mOp f ma mb ls hd=(ma ls hd).bind λ p=>(mb ls p.2).bind λ q=>f p.1 q.1 q.2:=rfl
@[simp] theorem Y3:Gv ta tb ls hd=(ta ls hd).bind λ p=>if p.1=true then tb ls p.2 else some (false,p.2):=rfl
@[simp] theorem YM:mOr ta tb ls hd=(ta ls hd).bind λ p=>if p.1=true then some (true,p.2)else tb ls p.2:=rfl
@[simp] theorem Xs:ET ta ls hd=(ta ls hd).bind λ p=>some (!p.1,p.2):=rfl
@[simp] theorem VQ:Ct ma ls hd=(ma ls hd).bind λ p=>(FP p.2 p.1).map (·,p.2):=rfl
@[simp] theorem Tr:AX ma ls hd=(ma ls hd).bind λ p=>match p.1 with
  | .im (.bl b)=>some (b,p.2)
  | _=>none:=rfl
@[simp] theorem YO:mIf ta ma mb ls hd=(ta ls hd).bind λ p=>if p.1=true then ma ls p.2 else mb ls p.2:=rfl
@[simp] theorem Xe:Gu ma mb ls hd=(AX ma ls hd).bind λ p=>if p.1=true then mb ls p.2 else some (.im (.bl false),p.2):=rfl
@[simp] theorem Xr:Lr ma mb ls hd=(AX ma ls hd).bind λ p=>if p.1=true then some (.im (.bl true),p.2)else mb ls p.2:=rfl
@[simp] theorem XO:Jb ma ls hd=(AX ma ls hd).bind λ p=>some (.im (.bl (!p.1)),p.2):=rfl
@[simp] theorem Xt:AC ls hd=some ([],hd):=rfl
@[simp] theorem Xc:A4 ma m ls hd=(ma ls hd).bind λ p=>(m ls p.2).bind λ q=>some (p.1 :: q.1,q.2):=rfl
open Classical in
@[simp] theorem Xn:Bw m ls hd=(m ls hd).bind λ p=>if DP p.1.length then some (B1 p.1,p.2)else none:=rfl
open Classical in
@[simp] theorem Xv:EU m ls hd=(m ls hd).bind λ p=>if DP p.1.length then some (p.1,p.2)else none:=rfl
@[simp] theorem Xu:Cn m ls hd=(m ls hd).bind λ p=>some (.mu p.2.length,p.2 ++ [.lst p.1]):=rfl
@[simp] theorem VU:Ir ma ls hd=(ma ls hd).bind λ p=>match p.1 with
  | .im (.int i)=>some (.im (.int (-i)),p.2)
  | _=>none:=rfl
@[simp] theorem Xw(neg:Bool):Dr neg ma ls hd=(ma ls hd).bind λ p=>some (.im (.bl (match p.1 with
  | .im .non=>!neg
  | _=>neg)),p.2):=rfl
@[simp] theorem YQ(g:Int->Int->Option I)(i j:Int):fI g (.im (.int i)) (.im (.int j)) hd=(g i j).map (.im ·,hd):=rfl
@[simp] theorem XW(f g:D->D->Hd->Option (D × Hd)):HE f g d e hd=match f d e hd with
  | some z=>some z
  | none=>g d e hd:=rfl
@[simp] theorem Y0(neg:Bool)(i j:Int):GH neg (.im (.int i)) (.im (.int j)) hd=some (.im (.bl (if neg then !decide (i=j)else decide (i=j))),hd):=by simp[GH,scI,LO]
@[simp] theorem Xz(neg:Bool)(i j:Str):GH neg (.im (.str i)) (.im (.str j)) hd=some (.im (.bl (if neg then !decide (i=j)else decide (i=j))),hd):=by simp[GH,scI,LO]
@[simp] theorem WU(i:Int):gIx d (.im (.int i)) hd=(BX hd d).bind λ ds=>(atI ds i).map (·,hd):=rfl
@[simp] theorem Xa:Db d e hd=(Fa hd d).bind λ kvs=>(Ew e).bind λ k=>(De kvs k).map (·,hd):=rfl
@[simp] theorem YR(f:List D->Hd->Option (D × Hd)):mCB f m ls hd=(m ls hd).bind λ p=>f p.1 p.2:=rfl
@[simp] theorem WV(tp:Bool)(g:List D->Option D):f1 tp g [d] hd=((if tp then BX hd d else BI hd d)).bind λ ds=>(g ds).map (·,hd):=rfl
@[simp] theorem Vb(g:List D->Option D):DH g m ls hd=(m ls hd).bind λ p=>(g p.1).map (·,p.2):=rfl
@[simp] theorem WR(f:D->List D->Hd->Option (D × Hd)):mMt f ma m ls hd=(ma ls hd).bind λ p=>match BI p.2 p.1 with
  | some _=>(m ls p.2).bind λ q=>f p.1 q.1 q.2
  | none=>none:=rfl
@[simp] theorem XT(i j:Int):WN [.im (.int i),.im (.int j)] hd=some (.im (.int (if j > i then j else i)),hd):=rfl
@[simp] theorem XS(i j:Int):WM [.im (.int i),.im (.int j)] hd=some (.im (.int (if j < i then j else i)),hd):=rfl
@[simp] theorem Y4(i:Int):X1 [.im (.int i)] hd=some (.im (.int (if i < 0 then -i else i)),hd):=rfl
@[simp] theorem VW:K6 m ma ls hd=(m ls hd).bind λ p=>(ma ls p.2).bind λ q=>match q.1 with
  | .im (.int i)=>(atI p.1 i).map (·,q.2)
  | _=>none:=rfl
@[simp] theorem VX:Cu ma ls hd=(ma ls hd).bind λ p=>(Ap p.1).map λ ds=>((ds,[]),p.2):=rfl
@[simp] theorem Va:Fs m ls hd=(m ls hd).map λ p=>((p.1,[]),p.2):=rfl
@[simp] theorem VZ:DX ma ls hd=(ma ls hd).bind λ p=>match p.1 with
  | .mu n=>match p.2[n]? with
    | some (.lst ds)=>some ((ds,[(n,ds)]),p.2)
    | _=>none
  | .ro ns=>some ((ns.map λ n=>.im (.int n),[]),p.2)
  | _=>none:=rfl
open Classical in
@[simp] theorem VY:GD m ls hd=(m ls hd).bind λ p=>match p.1 with
  | [.im (.int j)]=>if Jx j then some ((Ax 0 j.toNat,[]),p.2)else none
  | _=>none:=rfl
open Classical in
@[simp] theorem Tu:IN m ls hd=(m ls hd).bind λ p=>match p.1 with
  | [.im (.int i),.im (.int j)]=>if Nl i j then some ((Ax i (j - i).toNat,[]),p.2)else none
  | _=>none:=rfl
@[simp] theorem Xy(mi:MI):DI mi n a ls hd=(mi ls hd).bind λ p=>By n a p.1.2 p.1.1 ls p.2:=rfl
open Classical in
@[simp] theorem Xd(k:Nat)(ix:List Nat)(mi:MI):Bf k ix mi n ta ma ls hd=(mi ls hd).bind λ p=>if DP p.1.1.length then BT n ta ma p.1.2 p.1.1 (G9 k ix ls) p.2 else none:=rfl
@[simp] theorem Xm:Dp ls hd=some (true,hd):=rfl
@[simp] theorem X7(F:List D->Hd->Option (D × Hd)):GY F m ls hd=(m ls hd).bind λ p=>F p.1 p.2:=rfl
@[simp] theorem Wh:Ev ls hd=some (none,hd):=rfl
@[simp] theorem Ts:Gp ma ls hd=(ma ls hd).bind λ p=>match p.1 with
  | .im (.int i)=>some (some i,p.2)
  | _=>none:=rfl
@[simp] theorem XV:WC ma ls hd=(ma ls hd).bind λ p=>(BX p.2 p.1).map (·,p.2):=rfl
@[simp] theorem X5:Jc m ls hd=m ls hd:=rfl
@[simp] theorem VR(ml mh:MO1):Ip ma ml mh ls hd=(ma ls hd).bind λ p=>(ml ls p.2).bind λ l=>(mh ls l.2).bind λ h=>(BI h.2 p.1).bind λ ds=>some (Fv ds l.1 h.1,h.2):=rfl
@[simp] theorem Xo(ml mh:MO1):Wy ma ml mh ls hd=(ma ls hd).bind λ p=>(ml ls p.2).bind λ l=>(mh ls l.2).bind λ h=>(Ap p.1).bind λ ds=>if ¬ (HT.sIx ds.length 0 l.1=0/\HT.sIx ds.length ds.length h.1=ds.length)then some (B1 (Fv ds l.1 h.1),h.2)else none:=rfl
@[simp] theorem XJ:W8 m ls hd=(Iq m ls hd).bind λ p=>some (B1 p.1,p.2):=rfl
open Classical in
@[simp] theorem VT:Iq m ls hd=(m ls hd).bind λ p=>match p.1 with
  | [.im (.int j)]=>if Kt j then some (Ax 0 j.toNat,p.2)else none
  | [.im (.int i),.im (.int j)]=>if Rr i j then some (Ax i (j - i).toNat,p.2)else none
  | _=>none:=rfl
@[simp] theorem Wf(mi:MI):DV mi ls hd=(mi ls hd).bind λ p=>(BO p.1.1).bind λ ns=>if ns.length < 64 then some ((Ar ns).map λ i=>.im (.int i),p.2)else none:=rfl
@[simp] theorem XZ(ms:List (ME × ME)):Kx ms ls hd=(FJ ms ls hd).bind λ p=>if p.1.length <= 15 then some (.mu p.2.length,p.2 ++ [.dic (GW [] p.1)])else none:=rfl
@[simp] theorem Wg:FJ [] ls hd=some ([],hd):=rfl
@[simp] theorem X3(r:List (ME × ME)):FJ ((ma,mb) :: r) ls hd=(ma ls hd).bind λ p=>(mb ls p.2).bind λ q=>(FJ r ls q.2).bind λ z=>(Ew p.1).map λ k=>((k,q.1) :: z.1,z.2):=rfl
open Classical in
@[simp] theorem XY:Gs ma mb mc ls hd=(mc ls hd).bind λ p=>(ma ls p.2).bind λ q=>(mb ls q.2).bind λ r=>(Ew r.1).bind λ k=>match q.1 with
  | .mu n=>match r.2[n]? with
    | some (.dic kvs)=>if HD kvs.length then some (.nx ls,r.2.set n (.dic (Eg kvs k p.1)))else none
    | _=>none
  | _=>none:=rfl
@[simp] theorem XU:WD ma mb mc ls hd=(mc ls hd).bind λ p=>(ma ls p.2).bind λ q=>(mb ls q.2).bind λ r=>match q.1,r.1 with
  | .mu n,.im (.int i)=>match r.2[n]? with
    | some (.lst ds)=>(ixN ds.length i).map λ j=>(.nx ls,r.2.set n (.lst (ds.set j p.1)))
    | _=>none
  | _,_=>none:=rfl
@[simp] theorem Xf(is:List I):Ap (.im (.tup is))=some (is.map .im):=rfl
@[simp] theorem Y9(ds:List D):Ap (.tm ds)=some ds:=rfl
@[simp] theorem YB(k:Nat):Ap (.mu k)=none:=rfl
@[simp] theorem YA(k:List Int):Ap (.ro k)=none:=rfl
@[simp] theorem Bm(is:List I):BX hd (.im (.tup is))=some (is.map .im):=rfl
@[simp] theorem YE(ds:List D):BX hd (.tm ds)=some ds:=rfl
@[simp] theorem Vq(k:Nat):BX hd (.mu k)=BI hd (.mu k):=rfl
@[simp] theorem YF(k:List Int):BX hd (.ro k)=some (k.map λ n=>.im (.int n)):=rfl
@[simp] theorem S8(k:Nat):BI hd (.mu k)=match hd[k]? with
    | some (.lst ds)=>some ds
    | _=>none:=rfl
@[simp] theorem YJ(k:List Int):BI hd (.ro k)=some (k.map λ n=>.im (.int n)):=rfl
@[simp] theorem YS(k:Nat):Fa hd (.mu k)=match hd[k]? with
    | some (.dic ds)=>some ds
    | _=>none:=rfl
@[simp] theorem YL(i:Int):Ew (.im (.int i))=some (.inl i):=rfl
@[simp] theorem YK(i:Str):Ew (.im (.str i))=some (.inr i):=rfl
@[simp] theorem Y8:CA []=some []:=rfl
@[simp] theorem YU(i:I)(r:List D):CA (.im i :: r)=(CA r).map (i :: ·):=rfl
@[simp] theorem Xk:BO []=some []:=rfl
@[simp] theorem Xl(i:Int)(r:List D):BO (.im (.int i) :: r)=(BO r).map (i :: ·):=rfl
@[simp] theorem Y7:DY []=some []:=rfl
@[simp] theorem YT(i:Bool)(r:List D):DY (.im (.bl i) :: r)=(DY r).map (i :: ·):=rfl
@[simp] theorem DG(is:List I):B1 (is.map .im)=.im (.tup is):=by simp[B1]
@[simp] theorem PL:B1 []=.im (.tup []):=rfl
@[simp] theorem N7(i:I):B1 [.im i]=.im (.tup [i]):=rfl
@[simp] theorem TZ(i j:I):B1 [.im i,.im j]=.im (.tup [i,j]):=rfl
@[simp] theorem XH(i j k:I):B1 [.im i,.im j,.im k]=.im (.tup [i,j,k]):=rfl
@[simp] theorem XG(i j k l:I):B1 [.im i,.im j,.im k,.im l]=.im (.tup [i,j,k,l]):=rfl
@[simp] theorem Y6(w:Nat)(i:I):clD w (.im i)=true:=by simp[clD]
@[simp] theorem Y5(w n:Nat):clD w (.mu n)=decide (n < w):=by simp[clD]
@[simp] theorem XA(w:Nat):BQ w []=true:=by simp[BQ]
@[simp] theorem Pl(w:Nat)(d:D)(ds:List D):BQ w (d :: ds)=(clD w d && BQ w ds):=by simp[BQ]
@[simp] theorem GJ{α:Type}(x:α)(r:List α):atI (x :: r) 0=some x:=Ey (j:=0) rfl
@[simp] theorem Cv{α:Type}(x y:α)(r:List α):atI (x :: y :: r) 1=some y:=Ey (j:=1) rfl
@[simp] theorem Ej{α:Type}(x y z:α)(r:List α):atI (x :: y :: z :: r) 2=some z:=Ey (j:=2) rfl
theorem KK{α:Type}{xs:List α}{i:Int}{k:Nat}{x:α}(hi:i=k)(h:xs[k]? = some x):atI xs i=some x:=by subst hi;exact Ey h
@[simp] theorem FN:DP 0:=B7 (by decide)
@[simp] theorem GZ:DP 1:=B7 (by decide)
@[simp] theorem MD:DP 2:=B7 (by decide)
@[simp] theorem EI:DP 3:=B7 (by decide)
@[simp] theorem Pa:DP 4:=B7 (by decide)
@[simp] theorem XI:HD 4:=EV (by decide)
open Classical in
@[simp] theorem Vc(k:Nat)(x:D):CW (.mu k) [x] hd=match hd[k]? with
    | some (.lst ds)=>if HD ds.length then some (.im .non,hd.set k (.lst (ds ++ [x])))else none
    | _=>none:=rfl
theorem Pp{F:List D->Hd->Option (D × Hd)}{ds:List D}{hd1 h2:Hd}{i:I}(h1:m ls hd=some (ds,hd1))(hc:BQ 0 ds=true)(hF:F ds []=some (.im i,h2)):AG 0 F m ls hd=some (.im i,hd1):=by
  simp[AG,h1,hc,hF,fin]
theorem Iy{w:Nat}{F:List D->Hd->Option (D × Hd)}{ds:List D}{pre pre' rest g:Hd}{i:I}(hw:pre.length=w)(hw':pre'.length=w)(h1:m ls hd=some (ds,pre ++ rest))(hc:BQ w ds=true)(hp:pre.all (clO w)=true)(hp':pre'.all (clO w)=true)(hF:F ds pre=some (.im i,pre' ++ g)):AG w F m ls hd=some (.im i,pre' ++ rest):=by
  subst hw
  have e1:(pre ++ rest).take pre.length=pre:=by simp
  have e2:(pre' ++ g).take pre.length=pre':=by rw[<- hw'];simp
  simp only[AG,h1,Option.bind_some,e1,hc,hp,hF,fin,e2,hp']
  simp
end
end L2
namespace L2
open PySem PySem.Spec PyProof.Rows
section
variable{prog:Program}{w:World}{A:Around}{R:Result->Shared->Prop}{s:Shared}{elt tg iter tg2 iter2:Expr}{ifs ifs2:List Expr}{scope:Scope}{pos:Pos}{it acc:Value}{env:Env}
end
end L2
namespace L2
open PySem PySem.Spec PyProof.Rows
section
variable{X:Cx}
end
end L2
namespace L2
open PySem PySem.Spec PyProof.Rows
open Classical in
noncomputable def mIn(k:Nat)(n:MG)(c:MT)(m:ME)(g:Gd):List D->Ls->Hd->Option (Ls × Hd)
  | [],ls,hd=>some (ls,hd)
  | d :: r,ls,hd=>(n d ls hd).bind λ ls1=>(c ls1 hd).bind λ p=>if p.1=true then(m ls1 p.2).bind λ q=>(CW (.mu k) [q.1] q.2).bind λ z=>if GOk z.2 g then mIn k n c m g r ls1 z.2 else none else if GOk p.2 g then mIn k n c m g r ls1 p.2 else none
open Classical in
noncomputable def O9(k:Nat)(n:MG)(c:MT)(mi:MI)(n2:MG)(c2:MT)(m:ME)(g:Gd):List D->Ls->Hd->Option Hd
  | [],ls,hd=>some hd
  | d :: r,ls,hd=>(n d ls hd).bind λ ls1=>(c ls1 hd).bind λ p=>if p.1=true then(mi ls1 p.2).bind λ q=>(mIn k n2 c2 m q.1.2 q.1.1 ls1 q.2).bind λ z=>if GOk z.2 g then O9 k n c mi n2 c2 m g r z.1 z.2 else none else if GOk p.2 g then O9 k n c mi n2 c2 m g r ls1 p.2 else none
noncomputable def VB(j:Nat)(ix:List Nat)(mi:MI)(n:MG)(c:MT)(mi2:MI)(n2:MG)(c2:MT)(m:ME):ME:=λ ls hd=>(mi ls hd).bind λ p=>(O9 p.2.length n c mi2 n2 c2 m p.1.2 p.1.1 (G9 j ix ls) (p.2 ++ [.lst []])).map λ h=>(.mu p.2.length,h)
section
variable{K:PySem.W.Frag}{ρ:List Addr}{H:Hp}{hd:Hd}
end
end L2
namespace L2
open PySem PySem.Spec PyProof.Rows
open Classical in
noncomputable def K7(ma mb:ME):MA:=λ ls hd=>(ma ls hd).bind λ p=>(mb ls p.2).bind λ q=>match p.1,q.1 with
  | .mu i,.mu j=>match q.2[i]?,q.2[j]? with
    | some (.lst xs),some (.lst ys)=>if DP (xs.length + ys.length)then some (xs ++ ys,q.2)else none
    | _,_=>none
  | _,_=>none
theorem UN{K:PySem.W.Frag}{ta tb:TE}{ma mb:ME}(ha:RE K ta ma)(hb:RE K tb mb):RN K (tOp Qj ta tb) (K7 ma mb):=by
  intro ρ σ H hd ls Q d hd' hR hL hm hQ
  obtain⟨⟨d1,h1⟩,e1,hm⟩:=Option.bind_eq_some_iff.mp hm
  obtain⟨⟨d2,h2⟩,e2,hm⟩:=Option.bind_eq_some_iff.mp hm
  dsimp only at hm
  split at hm
  . next i j=>
    split at hm
    . next xs ys q1 q2=>
      split at hm
      . next c=>
        cases hm
        refine ha ρ σ H hd ls _ _ h1 hR hL e1 λ ρ1 H1 v x1 R1 r1=>?_
        refine hb ρ1 σ H1 h1 ls _ _ _ R1 (hL.ext hR x1) e2 λ ρ2 H2 u x2 R2 r2=>?_
        have r1':=r1.ext R1 x2
        simp only[RD]at r1' r2
        obtain⟨a,ka,rfl⟩:=r1'
        obtain⟨b,kb,rfl⟩:=r2
        obtain⟨vs,f1,f2⟩:=R2.lst ka q1
        obtain⟨us,f3,f4⟩:=R2.lst kb q2
        refine⟨a,b,vs,us,rfl,rfl,f1,f3,by rw[f2.len,f4.len];exact c,λ p hp=>?_⟩
        obtain⟨R3,x3⟩:=R2.hid (ho:=.lst (vs ++ us)) hp
        have x12:=x1.trans R1 x2
        exact hQ ρ2 _ p _ (x12.trans R2 x3) R3 (x12.none hR hp R2) (R2.out hp) AR ((f2.app f4).ext R2 x3)
      . cases hm
    . cases hm
  . cases hm
theorem Oy(K:PySem.W.Frag){X:Cx}{a b:Expr}{pos:Pos}{ta tb:TE}{ma mb:ME}(ha:QE K X a ta ma)(hb:QE K X b tb mb):QN K X (.BinOp a .Add b pos) (tOp Qj ta tb) (K7 ma mb):=⟨O3 V8 ha.p hb.p,UN ha.r hb.r⟩
@[simp] theorem X6(j:Nat)(ix:List Nat)(mi mi2:MI)(n n2:MG)(c c2:MT)(m:ME)(ls:Ls)(hd:Hd):VB j ix mi n c mi2 n2 c2 m ls hd=(mi ls hd).bind λ p=>(O9 p.2.length n c mi2 n2 c2 m p.1.2 p.1.1 (G9 j ix ls) (p.2 ++ [.lst []])).map λ h=>(.mu p.2.length,h):=rfl
end L2
namespace L2
open PySem PySem.Spec PyProof.Rows PySem.W
section
variable(r:Nat->Int)(n:Nat)
noncomputable def PWp{α:Type}:KasT α->(α->Prop)->Prop
  | .ret a,Q=>Q a
  | .ask i j k,Q=>i < n/\j < n/\PWp (k (decide (r i < r j))) Q
noncomputable def kv(p:Array Nat)(i:Nat):Int:=r (p.getD i 0)
noncomputable def STo(p:Array Nat)(m:Nat):Prop:=∀ i j,i <= j->j < m->kv r p i <= kv r p j
noncomputable def DTo(p:Array Nat)(m:Nat):Prop:=∀ i j,i <= j->j < m->kv r p j <= kv r p i
noncomputable def EqL(p:Array Nat)(m q:Nat):Prop:=∀ k,m - (q + 1) <= k->k < m->kv r p k=kv r p (m - 1)
noncomputable def PAr(p:Array Nat):Prop:=p.Perm (List.range n).toArray
end
section
variable{r:Nat->Int}{n:Nat}
theorem PWp.bind{α β:Type}{f:α->KasT β}{Q:β->Prop}:∀ {t:KasT α},PWp r n t (λ a=>PWp r n (f a) Q)->PWp r n (t.bind f) Q
  | .ret _,h=>h
  | .ask i j k,h=>⟨h.1,h.2.1,PWp.bind h.2.2⟩
theorem PWp.mono{α:Type}{Q Q':α->Prop}:∀ {t:KasT α},PWp r n t Q->(∀ a,Q a->Q' a)->PWp r n t Q'
  | .ret _,h,q=>q _ h
  | .ask i j k,h,q=>⟨h.1,h.2.1,PWp.mono h.2.2 q⟩
theorem PWp.wp{α:Type}{cmp:Nat->Nat->(Bool->Shared->Prop)->Shared->Prop}{P:Shared->Prop}{Q:α->Shared->Prop}(hc:∀ i j C s,i < n->j < n->P s->(∀ s',P s'->C (decide (r i < r j)) s')->cmp i j C s):∀ {t:KasT α} {s:Shared},PWp r n t (λ a=>∀ s,P s->Q a s)->P s->t.kasWp cmp Q s
  | .ret _,s,h,p=>h s p
  | .ask i j k,s,h,p=>hc i j _ s h.1 h.2.1 p λ s' p'=>PWp.wp hc h.2.2 p'
theorem PAr.size{p:Array Nat}(h:PAr n p):p.size=n:=by have:=h.size_eq;simpa using this
theorem PAr.lt{p:Array Nat}(h:PAr n p){i:Nat}(hi:i < n):p.getD i 0 < n:=by
  have hs:=h.size
  have hi':i < p.size:=by omega
  have:p[i] ∈ (List.range n).toArray:=h.mem_iff.mp (Array.getElem_mem hi')
  have e:p.getD i 0=p[i]:=by simp[Array.getD,hi']
  rw[e]
  simpa using this
theorem Jh{p:Array Nat}{i j:Nat}(hj:j <= p.size)(k:Nat):kv r (kas_rev p i j) k=if i <= k/\k < j then kv r p (i + j - 1 - k)else kv r p k:=by
  unfold kv kas_rev
  simp only[Array.getD_eq_getD_getElem?]
  rw[getElem?_mirror_all hj]
  split <;> rfl
theorem PAr.rev{p:Array Nat}(h:PAr n p)(i j:Nat):PAr n (kas_rev p i j):=(mirror_perm _ _ _ _).trans h
theorem NA{p:Array Nat}{m q:Nat}(hj:m <= p.size)(hq:q + 1 <= m)(h:EqL r p m q)(k:Nat):kv r (kas_rev p (m - (q + 1)) m) k=kv r p k:=by
  rw[Jh hj]
  split
  . next c=>rw[h _ (by omega) (by omega),h k c.1 c.2]
  . rfl
theorem MW{p:Array Nat}(pa:PAr n p):∀ (f m:Nat),1 <= m->m + f <= n->STo r p m->PWp r n (kas_asc p f m) λ m'=>m <= m'/\m' <= m + f/\STo r p m'/\(m' < m + f->kv r p m' < kv r p (m' - 1))
  | 0,m,h1,hn,hs=>⟨Nat.le_refl _,Nat.le_refl _,hs,λ h=>by omega⟩
  | f + 1,m,h1,hn,hs=>by
    refine⟨pa.lt (by omega),pa.lt (by omega),?_⟩
    by_cases c:r (p.getD m 0) < r (p.getD (m - 1) 0)
    . rw[decide_eq_true c]
      exact⟨Nat.le_refl _,by omega,hs,λ _=>c⟩
    . rw[decide_eq_false c]
      refine(MW pa f (m + 1) (by omega) (by omega) ?_).mono λ m' h=>⟨by omega,by omega,h.2.2.1,λ z=>h.2.2.2 (by omega)⟩
      intro i j hij hj
      by_cases e:j < m
      . exact hs i j hij e
      . have:j=m:=by omega
        subst this
        by_cases e2:i=j
        . subst e2;exact Int.le_refl _
        . have:=hs i (j - 1) (by omega) (by omega)
          have:kv r p (j - 1) <= kv r p j:=by unfold kv;omega
          omega
theorem Iw{p:Array Nat}{m:Nat}(h1:1 <= m)(h:DTo r p m)(c:kv r p m <= kv r p (m - 1)):DTo r p (m + 1):=by
  intro i j hij hj
  by_cases e:j < m
  . exact h i j hij e
  . have:j=m:=by omega
    subst this
    by_cases e2:i=j
    . subst e2;exact Int.le_refl _
    . have:=h i (j - 1) (by omega) (by omega)
      omega
theorem IV:∀ (f:Nat) (p:Array Nat) (m q:Nat),PAr n p->1 <= m->q + 1 <= m->m + f <= n->DTo r p m->EqL r p m q ->
    PWp r n (kas_desc f p m q) λ z=>PAr n z.1/\m <= z.2.1/\z.2.1 <= m + f/\DTo r z.1 z.2.1/\EqL r z.1 z.2.1 z.2.2/\z.2.2 + 1 <= z.2.1
  | 0,p,m,q,pa,h1,hq,hn,hd,he=>⟨pa,Nat.le_refl _,Nat.le_refl _,hd,he,hq⟩
  | f + 1,p,m,q,pa,h1,hq,hn,hd,he=>by
    refine⟨pa.lt (by omega),pa.lt (by omega),?_⟩
    have sz:=pa.size
    by_cases c:r (p.getD m 0) < r (p.getD (m - 1) 0)
    . rw[decide_eq_true c]
      have c':kv r p m <= kv r p (m - 1):=by unfold kv;omega
      dsimp only
      rw[if_pos rfl]
      by_cases hq0:q > 0
      . rw[if_pos hq0]
        have sm:=NA (r:=r) (p:=p) (m:=m) (q:=q) (by omega) hq he
        refine(IV f _ (m + 1) 0 (pa.rev _ _) (by omega) (by omega) (by omega) ?_ ?_).mono λ z h=>⟨h.1,by omega,by omega,h.2.2.2⟩
        . have:=Iw h1 hd c'
          intro i j a b
          rw[sm,sm];exact this i j a b
        . intro k a b
          have:k=m:=by omega
          subst this;rfl
      . rw[if_neg hq0]
        refine(IV f p (m + 1) 0 pa (by omega) (by omega) (by omega) (Iw h1 hd c') ?_).mono λ z h=>⟨h.1,by omega,by omega,h.2.2.2⟩
        intro k a b
        have:k=m:=by omega
        subst this;rfl
    . rw[decide_eq_false c];dsimp only;rw[if_neg Bool.false_ne_true]
      refine⟨pa.lt (by omega),pa.lt (by omega),?_⟩
      by_cases d:r (p.getD (m - 1) 0) < r (p.getD m 0)
      . rw[decide_eq_true d]
        exact⟨pa,Nat.le_refl _,by show m <= m + (f + 1);omega,hd,he,hq⟩
      . rw[decide_eq_false d];dsimp only;rw[if_neg Bool.false_ne_true]
        have e:kv r p m=kv r p (m - 1):=by unfold kv;omega
        refine(IV f p (m + 1) (q + 1) pa (by omega) (by omega) (by omega) (Iw h1 hd (by omega)) ?_).mono λ z h=>⟨h.1,by omega,by omega,h.2.2.2⟩
        intro k a b
        by_cases e2:k=m
        . subst e2;rfl
        . have:=he k (by omega) (by omega)
          have e3:m + 1 - 1=m:=rfl
          rw[e3];omega
noncomputable def Run(z:Nat × Array Nat)(r:Nat->Int)(n:Nat):Prop:=PAr n z.2/\1 <= z.1/\z.1 <= n/\STo r z.2 z.1
theorem LB{p:Array Nat}{m:Nat}(pa:PAr n p)(h1:1 <= m)(hn:m <= n)(hd:DTo r p m):PWp r n (kas_tail3 m n p) λ z=>Run z r n:=by
  have sz:=pa.size
  have st:STo r (kas_rev p 0 m) m:=by
    intro i j a b
    rw[Jh (by omega),Jh (by omega),if_pos ⟨by omega,by omega⟩,if_pos ⟨by omega,by omega⟩]
    exact hd _ _ (by omega) (by omega)
  refine PWp.bind ((MW (pa.rev 0 m) (n - m) m h1 (by omega) st).mono λ m' h=>?_)
  exact⟨pa.rev 0 m,by show 1 <= m';omega,by show m' <= n;omega,h.2.2.1⟩
theorem Ic{p:Array Nat}{m:Nat}(pa:PAr n p)(hn:m + 1 <= n)(hd:DTo r p (m + 1)):PWp r n (kas_descPart m n p) λ z=>Run z r n:=by
  refine PWp.bind ((IV (n - (m + 1)) p (m + 1) 0 pa (by omega) (by omega) (by omega) hd ?_).mono λ z h=>?_)
  . intro k a b
    have:k=m:=by omega
    subst this;rfl
  . obtain⟨a,b,c,d,e,g⟩:=h
    have sz:=a.size
    by_cases hq:z.2.2 > 0
    . rw[if_pos hq]
      have sm:=NA (r:=r) (p:=z.1) (m:=z.2.1) (q:=z.2.2) (by omega) g e
      exact LB (a.rev _ _) (by omega) (by omega) λ i j x y=>by rw[sm,sm];exact d i j x y
    . rw[if_neg hq]
      exact LB a (by omega) (by omega) d
theorem Rf(h1:1 <= n):PWp r n (kas_count n (List.toArray (List.range n))) λ z=>Run z r n:=by
  have pa:PAr n (List.range n).toArray:=.refl _
  have sz:=pa.size
  refine PWp.bind ((MW pa (n - 1) 1 (by omega) (by omega) λ i j a b=>?_).mono λ m h=>?_)
  . have:i=j:=by omega
    subst this;exact Int.le_refl _
  . obtain⟨a,b,c,d⟩:=h
    by_cases e:(m == n)=true
    . rw[if_pos e]
      have:m=n:=by simpa using e
      exact⟨pa,by show 1 <= m;omega,by show m <= n;omega,c⟩
    . rw[if_neg e]
      have hne:m ≠ n:=by simpa using e
      have dd:=d (by omega)
      by_cases h2:m > 1
      . rw[if_pos h2]
        refine⟨pa.lt (by omega),pa.lt (by omega),?_⟩
        by_cases g:r ((List.range n).toArray.getD 0 0) < r ((List.range n).toArray.getD (m - 1) 0)
        . rw[decide_eq_true g]
          exact⟨pa,by show 1 <= m;omega,by show m <= n;omega,c⟩
        . rw[decide_eq_false g];dsimp only;rw[if_neg Bool.false_ne_true]
          have g':kv r (List.range n).toArray (m - 1) <= kv r (List.range n).toArray 0:=by unfold kv;omega
          have eq:∀ k,k < m->kv r (List.range n).toArray k=kv r (List.range n).toArray 0:=λ k hk=>by
            have x1:=c 0 k (by omega) hk
            have x2:=c k (m - 1) (by omega) (by omega)
            omega
          have rv:∀ k,kv r (kas_rev (List.range n).toArray 0 m) k=kv r (List.range n).toArray k:=λ k=>by
            rw[Jh (by omega)]
            split
            . next z=>rw[eq _ (by omega),eq k z.2]
            . rfl
          refine Ic (pa.rev 0 m) (by omega) λ i j x y=>?_
          rw[rv,rv]
          by_cases z:j < m
          . rw[eq i (by omega),eq j z];exact Int.le_refl _
          . have:j=m:=by omega
            subst this
            by_cases z2:i=j
            . subst z2;exact Int.le_refl _
            . rw[eq i (by omega)]
              have:=eq (j - 1) (by omega)
              omega
      . rw[if_neg h2]
        have:m=1:=by omega
        subst this
        refine Ic pa (by omega) λ i j x y=>?_
        by_cases z:i=j
        . subst z;exact Int.le_refl _
        . have:i=0:=by omega
          have:j=1:=by omega
          subst i j
          have:kv r (List.range n).toArray 1 < kv r (List.range n).toArray 0:=dd
          omega
theorem Il{p:Array Nat}{k:Nat}(pa:PAr n p)(hk:k < n)(hs:STo r p k):∀ (f l q:Nat),l <= q->q <= k->q - l <= f->(∀ i,i < l->kv r p i <= kv r p k)->(∀ i,q <= i->i < k->kv r p k < kv r p i) ->
    PWp r n (kas_place p k f l q) λ m=>m <= k/\(∀ i,i < m->kv r p i <= kv r p k)/\∀ i,m <= i->i < k->kv r p k < kv r p i
  | 0,l,q,a,b,c,d,e=>⟨by omega,d,λ i x y=>e i (by omega) y⟩
  | f + 1,l,q,a,b,c,d,e=>by
    unfold kas_place
    by_cases h:l >= q
    . rw[if_pos h]
      exact⟨by omega,d,λ i x y=>e i (by omega) y⟩
    . rw[if_neg h]
      refine⟨pa.lt (by omega),pa.lt (by omega),?_⟩
      by_cases g:r (p.getD k 0) < r (p.getD ((l + q) / 2) 0)
      . rw[decide_eq_true g];dsimp only;rw[if_pos rfl]
        have g':kv r p k < kv r p ((l + q) / 2):=g
        refine Il pa hk hs f l ((l + q) / 2) (by omega) (by omega) (by omega) d λ i x y=>?_
        have:=hs ((l + q) / 2) i x y
        omega
      . rw[decide_eq_false g];dsimp only;rw[if_neg Bool.false_ne_true]
        have g':kv r p ((l + q) / 2) <= kv r p k:=by unfold kv;omega
        refine Il pa hk hs f ((l + q) / 2 + 1) q (by omega) (by omega) (by omega) (λ i x=>?_) e
        have:=hs i ((l + q) / 2) (by omega) (by omega)
        omega
theorem KU{p:Array Nat}{k d:Nat}(hk:k < p.size)(hd:d <= k)(i:Nat):kv r (bubble p k d) i=if i=k - d then kv r p k else if k - d < i/\i <= k then kv r p (i - 1)else kv r p i:=by
  unfold kv
  simp only[Array.getD_eq_getD_getElem?]
  rw[getElem?_bubble hk d hd]
  split
  . rfl
  . split <;> rfl
theorem Pq:∀ (f:Nat) (p:Array Nat) (k:Nat),PAr n p->k + f=n->STo r p k->PWp r n (kas_bin f p k) λ z=>PAr n z/\STo r z n
  | 0,p,k,pa,e,hs=>⟨pa,by
                                  have:k=n:=by omega
                                  subst this;exact hs⟩
  | f + 1,p,k,pa,e,hs=>by
    have sz:=pa.size
    refine PWp.bind ((Il pa (by omega) hs k 0 k (by omega) (by omega) (by omega) (λ i h=>by omega) (λ i a b=>by omega)).mono λ m h=>?_)
    obtain⟨a,b,c⟩:=h
    refine Pq f _ (k + 1) ((bubble_perm _ _ _).trans pa) (by omega) λ i j x y=>?_
    rw[KU (by omega) (by omega),KU (by omega) (by omega)]
    have ek:k - (k - m)=m:=by omega
    rw[ek]
    repeat' split
    . exact Int.le_refl _
    . exact Int.le_of_lt (c _ (by omega) (by omega))
    . omega
    . exact b _ (by omega)
    . exact hs _ _ (by omega) (by omega)
    . omega
    . exact b _ (by omega)
    . exact hs _ _ (by omega) (by omega)
    . exact hs _ _ (by omega) (by omega)
theorem Mq(h1:1 <= n):PWp r n (kas_sort n) λ p=>PAr n p/\STo r p n:=by
  refine PWp.bind ((Rf h1).mono λ z h=>?_)
  obtain⟨a,b,c,d⟩:=h
  by_cases e:z.1 < n
  . rw[if_pos e]
    have:max z.1 1=z.1:=by omega
    rw[this]
    exact Pq _ _ _ a (by omega) d
  . rw[if_neg e]
    have:z.1=n:=by omega
    exact⟨a,this ▸ d⟩
end
end L2
namespace L2
open PySem PySem.Spec PyProof.Rows PySem.W
noncomputable def PairAt(h:Heap)(v:Value)(p:Int × Int):Prop:=∃ (x:Addr) (o:Obj) (t u:Tok) (k:Nat),v=.ref x/\h.get? x=some o/\o.cls=.type "tuple"/\o.data=.seq #[.int p.1 t,.int p.2 u] k
noncomputable def Ai(p:Int × Int):Int:=p.1 * 4000000000 + p.2
noncomputable def pok(p:Int × Int):Prop:=-1000000000 <= p.1/\p.1 <= 1000000000/\-1000000000 <= p.2/\p.2 <= 1000000000
section
variable{prog:Program}{w:World}{A:Around}{E:Value->Shared->Prop}{s:Shared}
theorem N9{x y:Value}{p q:Int × Int}{C:Bool->Shared->Prop}(hx:PairAt s.heap x p)(hy:PairAt s.heap y q)(op:pok p)(oq:pok q)(h:C (decide (Ai p < Ai q)) s) :
    wpAny (model prog w) A (keyLt' (tuples' true) x y) C E s:=by
  obtain⟨a,o,t,u,k,rfl,ho,hc,hd⟩:=hx
  obtain⟨a2,o2,t2,u2,k2,rfl,ho2,hc2,hd2⟩:=hy
  obtain⟨p1,p2⟩:=p
  obtain⟨q1,q2⟩:=q
  unfold pok at op oq
  unfold Ai at h
  dsimp only at op oq h
  refine kat_lt ho hd ho2 hd2 ?_
  refine kat_cons (wpAny_eqBool_int ?_)
  by_cases e1:p1=q1
  . have b1:(p1 == q1)=true:=by simp[e1]
    rw[b1]
    refine kat_yes (kat_cons (wpAny_eqBool_int ?_))
    by_cases e2:p2=q2
    . have b2:(p2 == q2)=true:=by simp[e2]
      rw[b2]
      refine kat_yes (kat_nil ?_)
      have:decide (p1 * 4000000000 + p2 < q1 * 4000000000 + q2)=false:=decide_eq_false (by omega)
      rw[this]at h
      exact h
    . have b2:(p2 == q2)=false:=by simp[e2]
      rw[b2]
      refine kat_no (kat_one _ _ (lt_int ?_))
      have:decide (p1 * 4000000000 + p2 < q1 * 4000000000 + q2)=decide (p2 < q2):=decide_eq_decide.mpr (by omega)
      rw[this]at h
      exact h
  . have b1:(p1 == q1)=false:=by simp[e1]
    rw[b1]
    refine kat_no (oneLt_int ?_)
    have:decide (p1 * 4000000000 + p2 < q1 * 4000000000 + q2)=decide (p1 < q1):=decide_eq_decide.mpr (by omega)
    rw[this]at h
    exact h
theorem Jt{h:Heap}:∀ {vs:List Value} {ps:List (Int × Int)},vs.length=ps.length->(∀ (i:Nat) (v:Value) (p:Int × Int),vs[i]? = some v->ps[i]? = some p->PairAt h v p)->∃ fs,KatTups h vs fs/\fs.length=vs.length/\∀ f ∈ fs,∃ i t,f=.int i t
  | [],[],_,_=>⟨[],.nil,rfl,λ _ z=>by cases z⟩
  | v :: vs,p :: ps,hl,hp=>by
    obtain⟨fs,a,b,c⟩:=Jt (vs:=vs) (ps:=ps) (by simpa using hl) λ i v q e1 e2=>hp (i + 1) v q (by simpa using e1) (by simpa using e2)
    obtain⟨x,o,t,u,k,rfl,ho,hc,hd⟩:=hp 0 v p rfl rfl
    exact⟨.int p.1 t :: fs,.cons ho hc hd rfl a,by simp[b],λ f hf=>by
      rcases List.mem_cons.mp hf with rfl|hf
      . exact⟨_,_,rfl⟩
      . exact c f hf⟩
noncomputable def Fb(vs:List Value)(ps:List (Int × Int))(out:List Value):Prop:=∃ zs:List (Value × (Int × Int)),zs.Perm (vs.zip ps)/\(zs.map λ z=>Ai z.2).Pairwise (· <= ·)/\out=zs.map (·.1)
theorem Oi{vs:List Value}{ps:List (Int × Int)}(hl:vs.length=ps.length){p:Array Nat}(pa:PAr vs.length p)(hs:STo (λ i=>Ai (ps.getD i (0,0))) p vs.length):Fb vs ps (p.toList.map λ i=>vs.getD i Value.none):=by
  have sz:=pa.size
  refine⟨p.toList.map λ i=>(vs.getD i Value.none,ps.getD i (0,0)),?_,?_,by rw[List.map_map];rfl⟩
  . have e:vs.zip ps=(List.range vs.length).map λ i=>(vs.getD i Value.none,ps.getD i (0,0)):=by
      refine List.ext_getElem? λ i=>?_
      by_cases hi:i < vs.length
      . have hi2:i < ps.length:=by omega
        rw[(List.getElem?_zip_eq_some (z:=(vs[i],ps[i]))).mpr ⟨by simp[hi],by simp[hi2]⟩]
        simp[hi,hi2]
      . rw[List.getElem?_eq_none (by simp;omega),List.getElem?_eq_none (by simp;omega)]
    rw[e]
    have:=Array.perm_iff_toList_perm.mp pa
    simpa using this.map _
  . rw[List.map_map,List.pairwise_iff_getElem]
    intro i j hi hj hij
    simp only[List.length_map,Array.length_toList]at hi hj
    have:=hs i j (by omega) (by omega)
    unfold kv at this
    simpa [Array.getD,hi,hj]using this
theorem Ng{a:Addr}{vs:List Value}{ps:List (Int × Int)}{n:Nat}{P:PySem.Fin->Shared->Prop}(ho:s.heap.get? a=some (seqObj "list" vs.toArray n))(hl:vs.length=ps.length)(h64:vs.length < 64)(hok:∀ p ∈ ps,pok p)
    (hp:∀ (i:Nat) (v:Value) (p:Int × Int),vs[i]? = some v->ps[i]? = some p->PairAt (s.heap.update a (Obj.mapSeq λ _=>#[])) v p)
    (h:∀ out:List Value,Fb vs ps out->P (.done (.ret .none)) { s with heap:=sortedHeap s.heap a vs out.toArray }) :
    wpAny (model prog w) A (Builtin.«list.sort» ⟨[.ref a],[]⟩) P E s:=by
  have ha:=Heap.lt_size ho
  have line:vs.length <= sizeLine:=by rw[sizeLine_eq];omega
  obtain⟨e1,ho1⟩:∃ e1,(s.heap.update a (Obj.mapSeq λ _=>#[])).get? a=some (seqObj "list" #[] e1):=⟨_,get?_update_seq ho _⟩
  rw[list_sort_plain]
  refine wpAny_bind (listItems_at ho rfl (wpAny_bind (listUpdate_at ho rfl (wpAny_bind (seqEpoch_at ho1 rfl (wpAny_bind (wpAny_newTuple (wpAny_bind (wpAny_newList (wpAny_holding ?_) (Nat.zero_le _))) line)))) (by rw[List.size_toArray];exact line) (Nat.zero_le _))))
  have grow:∀ b o,(s.heap.update a (Obj.mapSeq λ _=>#[])).get? b=some o->(((s.heap.update a (Obj.mapSeq λ _=>#[])).push (seqObj "tuple" vs.toArray 0)).push (seqObj "list" #[] 0)).get? b=some o:=λ b o e=>Heap.get?_push_of_some _ (Heap.get?_push_of_some _ e)
  have ho6:=grow _ _ ho1
  generalize h6:((s.heap.update a (Obj.mapSeq λ _=>#[])).push (seqObj "tuple" vs.toArray 0)).push (seqObj "list" #[] 0)=hp6 at *
  have done:∀ out:List Value,Fb vs ps out->P (.done (.ret .none)) { s with heap:=hp6.update a (Obj.mapSeq λ _=>out.toArray) }:=λ out z=>by
    have:=h out z
    unfold sortedHeap at this
    rw[h6]at this
    exact this
  show wpAny (model prog w) A _ P E { s with heap:=hp6 }
  dsimp only
  have pairs6:∀ (i:Nat) (v:Value) (p:Int × Int),vs[i]? = some v->ps[i]? = some p->PairAt hp6 v p:=λ i v p x y=>by
    obtain⟨x',o,t,u,k,e,q,c,d⟩:=hp i v p x y
    exact⟨x',o,t,u,k,e,grow _ _ q,c,d⟩
  by_cases h2:vs.toArray.size < 2
  . rw[if_pos h2,if_pos h2]
    refine wpAny_bind (wpAny_pure ?_)
    rw[StateT.run_pure]
    refine wpAny_bind (wpAny_pure ?_)
    dsimp only
    have hout:(arrOf (SortSt.mk' general' (vs.toArray.zip vs.toArray) #[] 7 none)).map (·.2)=vs.toArray:=by
      show(vs.toArray.zip vs.toArray).map (·.2)=vs.toArray
      apply Array.toList_inj.mp
      simp only[Array.toList_map,Array.toList_zip]
      exact List.map_snd_zip (Nat.le_refl _)
    rw[hout]
    refine wpAny_bind (seqEpoch_at ho6 rfl (wpAny_bind (listUpdate_at ho6 rfl ?_ (Nat.zero_le _) (by rw[List.size_toArray];omega))))
    simp only[bne_self_eq_false,Bool.false_eq_true,if_false]
    refine wpAny_pure (done vs ⟨vs.zip ps,.refl _,?_,?_⟩)
    . have hz:(vs.zip ps).length < 2:=by simp at h2 ⊢;omega
      cases hh:vs.zip ps with
      | nil=>exact .nil
      | cons z r=>
        cases r with
        | nil=>exact List.pairwise_singleton _ _
        | cons y t=>rw[hh]at hz;exact absurd hz (by simp)
    . rw[List.map_fst_zip (by omega)]
  . rw[if_neg h2,if_neg h2]
    have h2':2 <= vs.length:=by simp at h2;omega
    obtain⟨fs,t1,t2,t3⟩:=Jt hl pairs6
    have tT:∀ f ∈ fs,Looks (model prog w) hp6 (typeOf f) (Value.type "int"):=λ f hf=>by
      obtain⟨i,t,rfl⟩:=t3 f hf
      exact .of_pure rfl
    refine wpAny_bind (kat_kind (s:={ s with heap:=hp6 }) t1 (by omega) tT rfl ?_)
    have est:SortSt.mk' (tuples' true) (vs.toArray.zip vs.toArray) #[] 7 none=kas_st (tuples' true) (pairsOf vs) (List.toArray (List.range vs.length)):=by
      unfold kas_st
      rw[<- pairsOf_size vs,kas_range]
      rfl
    have ask:(kas_sort vs.length).kasWp (kas_cmp prog w A (tuples' true) (pairsOf vs)) (λ p s'=>s'={ s with heap:=hp6 }/\Fb vs ps (p.toList.map λ i=>vs.getD i Value.none)) { s with heap:=hp6 }:=by
      rw[<- kas_ask_eq]
      refine PWp.wp (n:=vs.length) (r:=λ i=>Ai (ps.getD i (0,0))) (P:=λ s'=>s'={ s with heap:=hp6 }) (λ i j C s' hi hj e hC=>?_) ((Mq (by omega)).mono λ p z s' e=>⟨e,Oi hl z.1 z.2⟩) rfl
      subst e
      have pi:ps[i]? = some (ps.getD i (0,0)):=by simp[show i < ps.length by omega]
      have pj:ps[j]? = some (ps.getD j (0,0)):=by simp[show j < ps.length by omega]
      have vi:vs[i]? = some (vs.getD i Value.none):=by simp[hi]
      have vj:vs[j]? = some (vs.getD j Value.none):=by simp[hj]
      exact N9 (s:={ s with heap:=hp6 }) (pairs6 i _ _ vi pi) (pairs6 j _ _ vj pj) (hok _ (List.mem_of_getElem? pi)) (hok _ (List.mem_of_getElem? pj)) (hC _ rfl)
    have run:=kas_runs (E:=E) (Q:=λ _ st' s'=>∃ p:Array Nat,p.size=vs.length/\arrOf st'=p.map (kas_item (pairsOf vs))/\failedOf st'=none/\s'={ s with heap:=hp6 }/\Fb vs ps (p.toList.map λ i=>vs.getD i Value.none)) h2' h64 (λ p st' s' x1 x2 x3 x4=>⟨p,x1,x2,x3,x4⟩) ask
    rw[<- est]at run
    refine wpAny_bind (wpAny_mono run ?_ λ _ _ e=>e)
    rintro⟨⟨⟩,st'⟩ s' ⟨p,hsz,har,hf,rfl,so⟩
    dsimp only
    have hout:(arrOf st').map (·.2)=(p.toList.map λ i=>vs.getD i Value.none).toArray:=by
      rw[har]
      apply Array.toList_inj.mp
      simp only[Array.toList_map,List.map_map]
      exact List.map_congr_left λ i _=>congrArg Prod.snd (kas_item_eq vs i)
    rw[hout]
    refine wpAny_bind (seqEpoch_at ho6 rfl (wpAny_bind (listUpdate_at ho6 rfl ?_ (Nat.zero_le _) (by simp[hsz];omega))))
    rw[hf]
    simp only[bne_self_eq_false,Bool.false_eq_true,if_false]
    exact wpAny_pure (done _ so)
end
end L2
namespace L2
open PySem PySem.Spec PyProof.Rows PySem.W
theorem PairAt.keep{h h':Heap}{v:Value}{p:Int × Int}(k:∀ b o,h.get? b=some o->h'.get? b=some o)(q:PairAt h v p):PairAt h' v p:=by
  obtain⟨x,o,t,u,n,e,ho,c,d⟩:=q
  exact⟨x,o,t,u,n,e,k _ _ ho,c,d⟩
section
variable{prog:Program}{w:World}{A:Around}{E:Value->Shared->Prop}{s:Shared}
theorem LK{l:Addr}{vs:List Value}{ps:List (Int × Int)}{Q:Value->Shared->Prop}(hl:s.heap.IsList l vs.toArray)(hlen:vs.length=ps.length)(h64:vs.length < 64)(hok:∀ p ∈ ps,pok p)
    (hp:∀ (i:Nat) (v:Value) (p:Int × Int),vs[i]? = some v->ps[i]? = some p->PairAt s.heap v p)
    (h:∀ out:List Value,Fb vs ps out->Q (.ref (s.heap.objs.size + 1)) { s with heap:=sortedAll s.heap vs out.toArray }) :
    wpAny (model prog w) A (call (.builtin "sorted") [.ref l]) Q E s:=by
  have line:vs.length <= sizeLine:=by rw[sizeLine_eq];omega
  refine Calls.call_function_entry kind_sorted plain_sorted entry_sorted (args_sorted1 _) ?_
  unfold Builtin.«sorted»
  refine wpAny_bind (m:=checkCount "sorted" 1 1 _) (wpAny_pure (wpAny_bind (collect_list hl (wpAny_bind (wpAny_newList ?_ line)) line)))
  have sz:((s.heap.push (seqObj "list" #[] 0)).update s.heap.objs.size (Obj.mapSeq (· ++ vs.toArray))).objs.size=s.heap.objs.size + 1:=by rw[Heap.size_update,size_push']
  have at1:(((s.heap.push (seqObj "list" #[] 0)).update s.heap.objs.size (Obj.mapSeq (· ++ vs.toArray))).push (seqObj "list" vs.toArray 0)).get? (s.heap.objs.size + 1)=some (seqObj "list" vs.toArray 0):=by
    have:=Heap.get?_push_size ((s.heap.push (seqObj "list" #[] 0)).update s.heap.objs.size (Obj.mapSeq (· ++ vs.toArray))) (o:=seqObj "list" vs.toArray 0) rfl
    rwa [sz]at this
  have old:∀ b o,s.heap.get? b=some o->((((s.heap.push (seqObj "list" #[] 0)).update s.heap.objs.size (Obj.mapSeq (· ++ vs.toArray))).push (seqObj "list" vs.toArray 0)).update (s.heap.objs.size + 1) (Obj.mapSeq λ _=>#[])).get? b=some o:=λ b o e=>by
    have lt:=Heap.lt_size e
    rw[Heap.get?_update_ne _ _ _ _ (Nat.ne_of_lt (Nat.lt_succ_of_lt lt)),Heap.get?_push_ne _ _ _ (by rw[sz];exact Nat.ne_of_lt (Nat.lt_succ_of_lt lt)),Heap.get?_update_ne _ _ _ _ (Nat.ne_of_lt lt),Heap.get?_push_ne _ _ _ (Nat.ne_of_lt lt)]
    exact e
  show wpAny _ _ _ _ _ { s with heap:=((s.heap.push (seqObj "list" #[] 0)).update s.heap.objs.size (Obj.mapSeq (· ++ vs.toArray))).push (seqObj "list" vs.toArray 0) }
  rw[sz]
  refine wpAny_bind (wpAny_holding (wpAny_call_entry slot_list_sort ⟨_,at1,rfl⟩ entry_list_sort (Ng at1 hlen h64 hok (λ i v p a b=>(hp i v p a b).keep old) λ out z=>⟨_,rfl,?_⟩) (args_list_sort _)))
  exact wpAny_pure ⟨_,rfl,h out z⟩
end
section
variable(K:PySem.W.Frag){X:Cx}
noncomputable def Ik:List V->Hp->VK->Prop:=λ xs H Q=>∃ (a:Addr) (us:List V) (ps:List (Int × Int)),xs=[.ref a]/\SqL K H a us/\us.length=ps.length/\us.length < 64/\(∀ q ∈ ps,pok q) /\
  (∀ (i:Nat) (u:V) (q:Int × Int),us[i]? = some u->ps[i]? = some q->∃ x,u=.ref x/\SqT K H x [.int q.1,.int q.2]) /\
  ∀ (p:Addr) (zs:List (V × (Int × Int))),H p=none->zs.Perm (us.zip ps)->(zs.map λ z=>Ai z.2).Pairwise (· <= ·)->Q (.ref p) (upd H p (.lst (zs.map (·.1))))
noncomputable def Gi:Value->V
  | .ref x=>.ref x
  | _=>.non
theorem Ih:∀ {us:List V} {its:List Value} {i:Nat} {u:V},Vals us its->us[i]? = some u->∃ v,its[i]? = some v/\RelV u v
  | _,_,_,_,.nil,h=>by simp at h
  | _ :: _,_ :: _,0,_,.cons r _,h=>by
    simp at h;subst h;exact⟨_,rfl,r⟩
  | _ :: _,_ :: _,i + 1,_,.cons _ t,h=>Ih (i:=i) t (by simpa using h)
theorem MN(hK:X.K=K:=by rfl):CallR X (.builtin "sorted") (Ik K):=by
  subst hK
  intro pins s σ H xs us0 Q I r h
  obtain⟨a,us,ps,rfl,hq,hlen,h64,hok,hpr,q⟩:=h
  obtain⟨u,rfl,ru⟩:=Cd r
  cases ru
  obtain⟨its,rv,p,hz⟩:=I.list hq
  have hl2:us.length=its.length:=rv.length
  have point:∀ (i:Nat) (v:Value) (q:Int × Int),its[i]? = some v->ps[i]? = some q->(∃ x,us[i]? = some (.ref x)/\v=.ref x)/\PairAt s.heap v q:=by
    intro i v q e1 e2
    have hi:i < us.length:=by rw[hl2];exact(List.getElem?_eq_some_iff.mp e1).1
    have eu:us[i]? = some us[i]:=by simp[hi]
    obtain⟨x,ex,sq⟩:=hpr i _ q eu e2
    obtain⟨v',ev,rel⟩:=Ih rv eu
    rw[e1]at ev
    cases ev
    rw[ex]at rel eu
    have rel:v=Value.ref x:=rel
    subst rel
    refine⟨⟨x,eu,rfl⟩,?_⟩
    obtain⟨jts,rj,⟨o,ho,hc,n,hd⟩,_⟩:=I.tuple sq
    cases rj with
    | cons r1 t1=>
      cases t1 with
      | cons r2 t2=>
        cases t2
        obtain⟨t,rfl⟩:=r1
        obtain⟨t',rfl⟩:=r2
        exact⟨x,o,t,t',n,rfl,ho,hc,hd⟩
  refine LK (ps:=ps) p.isList (by omega) (by omega) hok (λ i v q a b=>(point i v q a b).2) λ out z=>?_
  obtain⟨zs,pm,pw,rfl⟩:=z
  obtain⟨e,he⟩:=sortedAll_at s.heap its (zs.map (·.1)).toArray
  have mz:∀ z ∈ zs,∃ x,z.1=.ref x:=λ z hz=>by
    have:=pm.mem_iff.mp hz
    obtain⟨i,hi⟩:=List.mem_iff_getElem?.mp this
    obtain⟨e1,e2⟩:=List.getElem?_zip_eq_some.mp hi
    obtain⟨⟨x,_,ex⟩,_⟩:=point i _ _ e1 e2
    exact⟨x,ex⟩
  have vz:∀ {zs:List (Value × (Int × Int))},(∀ z ∈ zs,∃ x,z.1=.ref x)->Vals (zs.map λ z=>Gi z.1) (zs.map (·.1)):=by
    intro zs
    induction zs with
    | nil=>intro _;exact .nil
    | cons z r ih=>
      intro h
      obtain⟨x,ex⟩:=h z List.mem_cons_self
      refine .cons ?_ (ih λ y hy=>h y (List.mem_cons_of_mem _ hy))
      show RelV (Gi z.1) z.1
      rw[ex];rfl
  have pm2:(zs.map λ z=>(Gi z.1,z.2)).Perm (us.zip ps):=by
    have:=pm.map λ z:Value × (Int × Int)=>(Gi z.1,z.2)
    have e:((its.zip ps).map λ z:Value × (Int × Int)=>(Gi z.1,z.2))=us.zip ps:=by
      refine List.ext_getElem? λ i=>?_
      by_cases hi:i < us.length
      . have h1:i < its.length:=by omega
        have h2:i < ps.length:=by omega
        have e1:its[i]? = some its[i]:=by simp[h1]
        have e2:ps[i]? = some ps[i]:=by simp[h2]
        obtain⟨⟨x,ex,ev⟩,_⟩:=point i _ _ e1 e2
        rw[List.getElem?_map,(List.getElem?_zip_eq_some (z:=(its[i],ps[i]))).mpr ⟨e1,e2⟩,(List.getElem?_zip_eq_some (z:=(V.ref x,ps[i]))).mpr ⟨ex,e2⟩,Option.map_some,ev]
        rfl
      . rw[List.getElem?_eq_none (by simp;omega),List.getElem?_eq_none (by simp;omega)]
    rwa [e]at this
  have pw2:((zs.map λ z=>(Gi z.1,z.2)).map λ z:V × (Int × Int)=>Ai z.2).Pairwise (· <= ·):=by rw[List.map_map];exact pw
  have fin:=q (s.heap.objs.size + 1) _ (I.hok.fresh (Nat.le_succ _)) pm2 pw2
  have em:(zs.map λ z=>(Gi z.1,z.2)).map (·.1)=zs.map λ z=>Gi z.1:=by rw[List.map_map];rfl
  rw[em]at fin
  have zl:zs.length < 64:=by rw[pm.length_eq];simp;omega
  refine⟨.ref (s.heap.objs.size + 1),_,I.laid (a:=s.heap.objs.size + 1) (o:=.lst (zs.map λ z=>Gi z.1)) (t':=s.toks) (λ b o hb=>sortedAll_old hb) (Nat.le_succ _) ⟨?_,_,e,vz mz,he⟩,rfl,fin⟩
  rw[List.length_map]
  exact Nat.le_of_lt (HX (by omega))
end
noncomputable def BU(p:Int × Int):D:=.im (.tup [.int p.1,.int p.2])
noncomputable def ED:List D->Option (List (Int × Int))
  | []=>some []
  | .im (.tup [.int a,.int b]) :: r=>(ED r).map ((a,b) :: ·)
  | _=>none
theorem Hf:∀ {ds:List D} {ps:List (Int × Int)},ED ds=some ps->ds=ps.map BU:=by
  intro ds
  induction ds with
  | nil=>intro ps h;simp[ED]at h;subst h;rfl
  | cons d r ih=>
    intro ps h
    unfold ED at h
    split at h
    . next e=>cases e
    . next a b r' e=>
      cases e
      obtain⟨qs,e1,rfl⟩:=Option.map_eq_some_iff.mp h
      rw[ih e1]
      rfl
    . cases h
@[simp] theorem JQ(ps:List (Int × Int)):ED (ps.map BU)=some ps:=by
  induction ps with
  | nil=>rfl
  | cons p r ih=>simp[ED,BU]at ih ⊢;exact ih
noncomputable def DB(ps:List (Int × Int)):List (Int × Int):=ps.mergeSort λ a b=>decide (Ai a <= Ai b)
theorem JG(ps:List (Int × Int)):(DB ps).Perm ps:=List.mergeSort_perm ..
theorem LM(ps:List (Int × Int)):(DB ps).Pairwise λ a b=>Ai a <= Ai b:=by
  have:=List.pairwise_mergeSort (le:=λ a b:Int × Int=>decide (Ai a <= Ai b)) (by intro a b c h1 h2;simp at *;omega) (by intro a b;simp;omega) ps
  exact this.imp (by simp)
theorem Qv{p q:Int × Int}(a:pok p)(b:pok q)(h:Ai p=Ai q):p=q:=by
  unfold pok at a b
  unfold Ai at h
  exact Prod.ext (by omega) (by omega)
open Classical in
noncomputable def Eu(m:MI):MA:=λ ls hd=>(m ls hd).bind λ p=>(ED p.1.1).bind λ ps=>if ps.length < 64/\∀ q ∈ ps,pok q then some ((DB ps).map BU,p.2)else none
section
variable{K:PySem.W.Frag}{ρ:List Addr}{H:Hp}{hd:Hd}
theorem Mu{p:Int × Int}{v:V}(h:RD K ρ H (BU p) v):∃ x,v=.ref x/\SqT K H x [.int p.1,.int p.2]:=by
  simp only[BU,RD,RI,RIs]at h
  obtain⟨a,xs,rfl,q,x,r,rfl,rfl,y,r2,rfl,rfl,rfl⟩:=h
  exact⟨a,rfl,q⟩
theorem Nn{t:TE}{m:MI}(h:RRw K false t m):RN K (tCB (Ik K) (BZ t C8)) (Eu m):=by
  intro ρ σ H hd ls Q d hd' hR hL hm hQ
  obtain⟨⟨⟨d1,g1⟩,h1⟩,e1,hm⟩:=Option.bind_eq_some_iff.mp hm
  obtain⟨ps,e2,hm⟩:=Option.bind_eq_some_iff.mp hm
  split at hm
  . next c=>
    cases hm
    refine h ρ σ H hd ls _ d1 g1 _ hR hL e1 λ ρ1 H1 a x1 R1 G1 S1=>?_
    obtain⟨xs,q,r⟩:=S1 ρ1 H1 _ .refl R1 G1
    have e2:ED d1=some ps:=e2
    rw[Hf e2]at r
    have hl:xs.length=ps.length:=by simpa using r.len
    have each:∀ (i:Nat) (u:V) (q:Int × Int),xs[i]? = some u->ps[i]? = some q->RD K ρ1 H1 (BU q) u:=λ i u q a b=>by
      obtain⟨x,e,z⟩:=r.get (i:=i) (d:=BU q) (by simp[b])
      rw[a]at e;cases e;exact z
    refine⟨a,xs,ps,rfl,q,hl,by rw[hl];exact c.1,c.2,λ i u q a b=>Mu (each i u q a b),λ p zs hp pm pw=>?_⟩
    have es:zs.map (·.2)=DB ps:=by
      have pp:(zs.map (·.2)).Perm ps:=by
        have:=pm.map (λ z:V × (Int × Int)=>z.2)
        rwa [List.map_snd_zip (by omega)]at this
      refine(pp.trans (JG ps).symm).eq_of_pairwise (le:=λ a b=>Ai a <= Ai b) (λ x y hx hy l1 l2=>Qv (c.2 _ (pp.mem_iff.mp hx)) (c.2 _ ((JG ps).mem_iff.mp hy)) (Int.le_antisymm l1 l2)) ?_ (LM ps)
      rw[List.pairwise_map]at pw ⊢
      exact pw
    obtain⟨R2,x2⟩:=R1.hid (ho:=.lst (zs.map (·.1))) hp
    have all:∀ z ∈ zs,RD K ρ1 H1 (BU z.2) z.1:=λ z hz=>by
      obtain⟨i,hi⟩:=List.mem_iff_getElem?.mp (pm.mem_iff.mp hz)
      obtain⟨a1,a2⟩:=List.getElem?_zip_eq_some.mp hi
      exact each i _ _ a1 a2
    have rd:∀ {zs:List (V × (Int × Int))},(∀ z ∈ zs,RD K ρ1 H1 (BU z.2) z.1)->RDs K ρ1 H1 ((zs.map (·.2)).map BU) (zs.map (·.1)):=by
      intro zs
      induction zs with
      | nil=>intro _;exact .nil
      | cons z r ih=>intro h;exact .cons (h z List.mem_cons_self) (ih λ y hy=>h y (List.mem_cons_of_mem _ hy))
    have rz:=rd all
    rw[es]at rz
    exact hQ ρ1 _ p _ (x1.trans R1 x2) R2 (x1.none hR hp R1) (R1.out hp) AR (rz.ext R1 x2)
  . cases hm
open Classical in
noncomputable def VO:D->List D->Hd->Option (D × Hd)
  | .mu n,[.im (.int i)],hd=>match hd[n]? with
    | some (.lst ds)=>if Jx i then(ixN ds.length i).bind λ k=>(ds[k]?).map λ y=>(y,hd.set n (.lst (ds.eraseIdx k)))else none
    | _=>none
  | _,_,_=>none
end
end L2
namespace L2
open PySem PySem.Spec PyProof.Rows PySem.W
section
variable(K:PySem.W.Frag){X:Cx}{e:Expr}{te:TE}{p pos:Pos}
theorem Nz{mi:MI}(hm:X.mg "sorted"=none)(ha:QR K false X e te mi)(hg:Gl X "sorted":=by rfl)(he:starEach [e] X.env=[(false,eval e X.env)]:=by rfl)(hK:X.K=K:=by rfl):QN K X (.Call (.Name "sorted" p) [e] [] pos) (tCB (Ik K) (BZ te C8)) (Eu mi):=
  ⟨Fk (MN K hK) hg hm GA (CJ ha.p Cq he) (by decide) (by decide) he rfl,Nn ha.r⟩
end
section
variable{ls:Ls}{hd:Hd}
open Classical in
@[simp] theorem X2(k:Nat)(i:Int):VO (.mu k) [.im (.int i)] hd=match hd[k]? with
    | some (.lst ds)=>if Jx i then(ixN ds.length i).bind λ j=>(ds[j]?).map λ y=>(y,hd.set k (.lst (ds.eraseIdx j)))else none
    | _=>none:=rfl
open Classical in
@[simp] theorem WQ(mi:MI):Eu mi ls hd=(mi ls hd).bind λ p=>(ED p.1.1).bind λ ps=>if ps.length < 64/\∀ q ∈ ps,pok q then some ((DB ps).map BU,p.2)else none:=rfl
end
end L2
namespace L2
open PySem PySem.Spec PyProof.Rows PySem.W
section
variable{m:ME}{ls:Ls}{hd hd':Hd}
end
end L2
namespace L2
open PySem PySem.Spec PyProof.Rows PySem.W
end L2
namespace L2
open PySem PySem.Spec PyProof.Rows
section
variable{prog:Program}{w:World}{A:Around}{R:Result->Shared->Prop}{s:Shared}
end
section
variable{X:Cx}
end
end L2
namespace L2
open PySem PySem.Spec PyProof.Rows
section
variable{K:PySem.W.Frag}{ρ ρ':List Addr}{H H':Hp}{hd hd':Hd}
variable(K:PySem.W.Frag){X:Cx}
variable{a b:Expr}{ta tb:TE}{ma mb:ME}{pos:Pos}
end
end L2
namespace L2
open PySem PySem.Spec PyProof.Rows
noncomputable def WP{α:Type}(o:Option (α × Hd))(Q:α->Hd->Prop):Prop:=∃ z h,o=some (z,h)/\Q z h
noncomputable abbrev WS(m:MS)(ls:Ls)(hd:Hd)(Q:Fl->Hd->Prop):Prop:=WP (m ls hd) Q
noncomputable abbrev WE(m:ME)(ls:Ls)(hd:Hd)(Q:D->Hd->Prop):Prop:=WP (m ls hd) Q
noncomputable abbrev WT(m:MT)(ls:Ls)(hd:Hd)(Q:Bool->Hd->Prop):Prop:=WP (m ls hd) Q
noncomputable abbrev WA(m:MA)(ls:Ls)(hd:Hd)(Q:List D->Hd->Prop):Prop:=WP (m ls hd) Q
noncomputable abbrev WO(m:MO1)(ls:Ls)(hd:Hd)(Q:Option Int->Hd->Prop):Prop:=WP (m ls hd) Q
noncomputable abbrev WI(m:MI)(ls:Ls)(hd:Hd)(Q:List D × Gd->Hd->Prop):Prop:=WP (m ls hd) Q
noncomputable abbrev WF(F:List D->Hd->Option (D × Hd))(ds:List D)(hd:Hd)(Q:D->Hd->Prop):Prop:=WP (F ds hd) Q
section
variable{α β:Type}{o:Option (α × Hd)}{Q:α->Hd->Prop}{R:β->Hd->Prop}{ls:Ls}{hd:Hd}{d e:D}
theorem WP.some{z:α}{h:Hd}(q:Q z h):WP (some (z,h)) Q:=⟨z,h,rfl,q⟩
theorem WP.mono{Q':α->Hd->Prop}(h:WP o Q)(k:∀ z h,Q z h->Q' z h):WP o Q':=let ⟨z,x,e,q⟩:=h;⟨z,x,e,k z x q⟩
theorem WP.bind{f:α × Hd->Option (β × Hd)}(h:WP o λ z x=>WP (f (z,x)) R):WP (o.bind f) R:=by
  obtain⟨z,x,e,q⟩:=h
  rw[e];exact q
theorem WP.eq{z:α}{h:Hd}(e:o=Option.some (z,h))(q:Q z h):WP o Q:=⟨z,h,e,q⟩
end
section
variable{ls:Ls}{hd:Hd}{a b:MS}{ma mb mc:ME}{ta tb:MT}{m m1 m2:MA}{n:MG}{ns:MGs}{mi:MI}{d e:D}{i j:Nat}{QS:Fl->Hd->Prop}{QE:D->Hd->Prop}{QT:Bool->Hd->Prop}{QA:List D->Hd->Prop}{QO:Option Int->Hd->Prop}{QI:List D × Gd->Hd->Prop}
noncomputable def Rp(b:MS)(Q:Fl->Hd->Prop):Fl->Hd->Prop
  | .nx l,h=>WS b l h Q
  | f,h=>Q f h
theorem AH(h:WS a ls hd (Rp b QS)):WS (AN a b) ls hd QS:=by
  obtain⟨f,x,e,q⟩:=h
  show WP (AN a b ls hd) QS
  rw[VS,e]
  cases f <;> first|exact q|exact⟨_,_,rfl,q⟩
theorem AB{l:Ls}{h:Hd}(q:WS b l h QS):Rp b QS (.nx l) h:=q
theorem An(h:QS (.nx ls) hd):WS B9 ls hd QS:=⟨_,_,rfl,h⟩
theorem B5(h:WE ma ls hd λ d x=>QS (.rt d) x):WS (Av ma) ls hd QS:=WP.bind (h.mono λ _ _ q=>WP.some q)
theorem AY(h:WE ma ls hd λ d x=>QS (.nx (ls.set i (some d))) x):WS (Aj i ma) ls hd QS:=by
  obtain⟨d,x,e,q⟩:=h
  exact⟨_,_,by simp only[Pc,e,Option.bind_some,Tt,Option.map_some],q⟩
theorem OV(h:WE ma ls hd λ d x=>∃ l,n d ls x=some l/\QS (.nx l) x):WS (Iu ma n) ls hd QS:=by
  obtain⟨d,x,e,l,e2,q⟩:=h
  exact⟨_,_,by simp only[Pc,e,Option.bind_some,e2,Option.map_some],q⟩
theorem CH(h:WE ma ls hd λ _ x=>QS (.nx ls) x):WS (Cj ma) ls hd QS:=WP.bind (h.mono λ _ _ q=>WP.some q)
theorem Vj(h:WT ta ls hd λ c x=>if c=true then WS a ls x QS else WS b ls x QS):WS (BK ta a b) ls hd QS:=by
  refine WP.bind (h.mono λ c x q=>?_)
  dsimp only
  cases c <;> simpa using q
theorem B6(h:WT ta ls hd λ c x=>(c=true->WS a ls x QS)/\(c=false->WS b ls x QS)):WS (BK ta a b) ls hd QS:=
  Vj (h.mono λ c x q=>by cases c <;> simp_all)
noncomputable def WL(n:MG)(b:MS)(g:Gd)(ds:List D)(ls:Ls)(hd:Hd)(Q:Fl->Hd->Prop):Prop:=WP (By n b g ds ls hd) Q
theorem Ca(h:WI mi ls hd λ p x=>WL n b p.2 p.1 ls x QS):WS (DI mi n b) ls hd QS:=WP.bind (h.mono λ _ _ q=>q)
noncomputable def Vo(g:Gd)(P:Ls->Hd->Prop)(Q:Fl->Hd->Prop):Fl->Hd->Prop
  | .nx l,h=>GOk h g/\P l h
  | .ct l,h=>GOk h g/\P l h
  | .bk l,h=>Q (.nx l) h
  | .rt d,h=>Q (.rt d) h
theorem C4{g:Gd}(P:List D->Ls->Hd->Prop):∀ {ds:List D} {ls:Ls} {hd:Hd},P ds ls hd ->
    (∀ d r ls hd,P (d :: r) ls hd->∃ ls1,n d ls hd=some ls1/\WS b ls1 hd (Vo g (P r) QS))->(∀ ls hd,P [] ls hd->QS (.nx ls) hd)->WL n b g ds ls hd QS
  | [],ls,hd,h,_,z=>⟨_,_,by unfold By;rfl,z _ _ h⟩
  | d :: r,ls,hd,h,k,z=>by
    obtain⟨ls1,e1,f,x,e2,q⟩:=k d r ls hd h
    unfold WL
    unfold By
    rw[e1,Option.bind_some,e2,Option.bind_some]
    cases f with
    | nx l=>exact(show GOk x g/\P r l x from q).1 |> λ g1=>by dsimp only;rw[if_pos g1];exact C4 P q.2 k z
    | ct l=>exact(show GOk x g/\P r l x from q).1 |> λ g1=>by dsimp only;rw[if_pos g1];exact C4 P q.2 k z
    | bk l=>exact⟨_,_,rfl,q⟩
    | rt l=>exact⟨_,_,rfl,q⟩
theorem A0(h:ls[i]? = some (some d))(q:QE d hd):WE (A2 i) ls hd QE:=⟨d,hd,by rw[VP,h],q⟩
theorem AJ{i:I}(q:QE (.im i) hd):WE (mC i) ls hd QE:=⟨_,_,rfl,q⟩
theorem A8{f:D->D->Hd->Option (D × Hd)}(h:WE ma ls hd λ d x=>WE mb ls x λ e y=>WP (f d e y) QE):WE (mOp f ma mb) ls hd QE:=WP.bind (h.mono λ _ _ q=>WP.bind (q.mono λ _ _ q=>q))
theorem Ro(h:WT ta ls hd λ c x=>if c=true then WE ma ls x QE else WE mb ls x QE):WE (mIf ta ma mb) ls hd QE:=by
  refine WP.bind (h.mono λ c x q=>?_)
  dsimp only
  cases c <;> simpa using q
theorem Ob(h:WT ta ls hd λ c x=>(c=true->WE ma ls x QE)/\(c=false->WE mb ls x QE)):WE (mIf ta ma mb) ls hd QE:=
  Ro (h.mono λ c x q=>by cases c <;> simp_all)
theorem Bb(h:WA m ls hd λ ds x=>DP ds.length/\QE (B1 ds) x):WE (Bw m) ls hd QE:=WP.bind (h.mono λ ds x q=>by dsimp only;rw[if_pos q.1];exact WP.some q.2)
theorem CL(h:WA m ls hd λ ds x=>QE (.mu x.length) (x ++ [.lst ds])):WE (Cn m) ls hd QE:=WP.bind (h.mono λ _ _ q=>WP.some q)
theorem DR{g:List D->Option D}(h:WA m ls hd λ ds x=>∃ d,g ds=some d/\QE d x):WE (DH g m) ls hd QE:=by
  obtain⟨ds,x,e,d,e2,q⟩:=h
  exact⟨d,x,by simp only[Vb,e,Option.bind_some,e2,Option.map_some],q⟩
theorem Oa(h:WA m ls hd λ ds x=>WE ma ls x λ e y=>∃ i d,e=.im (.int i)/\atI ds i=some d/\QE d y):WE (K6 m ma) ls hd QE:=by
  obtain⟨ds,x,e,d,y,e2,i,z,rfl,e4,q⟩:=h
  exact⟨z,y,by simp only[VW,e,Option.bind_some,e2,e4,Option.map_some],q⟩
theorem Cz{f:List D->Hd->Option (D × Hd)}(h:WA m ls hd λ ds x=>WP (f ds x) QE):WE (mCB f m) ls hd QE:=WP.bind (h.mono λ _ _ q=>q)
theorem Gg{f:D->List D->Hd->Option (D × Hd)}(h:WE ma ls hd λ d x=>(∃ l,BI x d=some l)/\WA m ls x λ ds y=>WP (f d ds y) QE):WE (mMt f ma m) ls hd QE:=by
  obtain⟨d,x,e,⟨l,hl⟩,q⟩:=h
  unfold WE
  rw[WR,e,Option.bind_some]
  dsimp only
  rw[hl]
  exact WP.bind (q.mono λ _ _ q=>q)
theorem L7{F:List D->Hd->Option (D × Hd)}(h:WA m ls hd λ ds x=>WF F ds x QE):WE (GY F m) ls hd QE:=WP.bind (h.mono λ _ _ q=>q)
theorem L3(h:WE ma ls hd λ d x=>∃ i,d=.im (.int i)/\QE (.im (.int (-i))) x):WE (Ir ma) ls hd QE:=by
  obtain⟨d,x,e,i,rfl,q⟩:=h
  exact⟨_,x,by simp only[VU,e,Option.bind_some],q⟩
theorem Jr(h:WT (AX ma) ls hd λ c x=>if c=true then WE mb ls x QE else QE (.im (.bl false)) x):WE (Gu ma mb) ls hd QE:=by
  refine WP.bind (h.mono λ c x q=>?_)
  dsimp only
  cases c
  . exact WP.some (by simpa using q)
  . simpa using q
theorem U5(h:WT (AX ma) ls hd λ c x=>if c=true then QE (.im (.bl true)) x else WE mb ls x QE):WE (Lr ma mb) ls hd QE:=by
  refine WP.bind (h.mono λ c x q=>?_)
  dsimp only
  cases c
  . simpa using q
  . exact WP.some (by simpa using q)
theorem SJ(h:WT (AX ma) ls hd λ c x=>QE (.im (.bl (!c))) x):WE (Jb ma) ls hd QE:=WP.bind (h.mono λ _ _ q=>WP.some q)
theorem Ac(h:WE ma ls hd λ d x=>∃ b,d=.im (.bl b)/\QT b x):WT (AX ma) ls hd QT:=by
  obtain⟨d,x,e,b,rfl,q⟩:=h
  exact⟨b,x,by simp only[Tr,e,Option.bind_some],q⟩
theorem C2(h:WE ma ls hd λ d x=>∃ b,FP x d=some b/\QT b x):WT (Ct ma) ls hd QT:=by
  obtain⟨d,x,e,b,e2,q⟩:=h
  exact⟨b,x,by simp only[VQ,e,Option.bind_some,e2,Option.map_some],q⟩
theorem Dd(h:WT ta ls hd λ c x=>QT (!c) x):WT (ET ta) ls hd QT:=WP.bind (h.mono λ _ _ q=>WP.some q)
theorem JA(h:WT ta ls hd λ c x=>if c=true then WT tb ls x QT else QT false x):WT (Gv ta tb) ls hd QT:=by
  refine WP.bind (h.mono λ c x q=>?_)
  dsimp only
  cases c
  . exact WP.some (by simpa using q)
  . simpa using q
theorem FT(h:WT ta ls hd λ c x=>if c=true then QT true x else WT tb ls x QT):WT (mOr ta tb) ls hd QT:=by
  refine WP.bind (h.mono λ c x q=>?_)
  dsimp only
  cases c
  . simpa using q
  . exact WP.some (by simpa using q)
theorem Dc(h:QT true hd):WT Dp ls hd QT:=⟨_,_,rfl,h⟩
theorem AA(h:QA [] hd):WA AC ls hd QA:=⟨_,_,rfl,h⟩
theorem A3(h:WE ma ls hd λ d x=>WA m ls x λ ds y=>QA (d :: ds) y):WA (A4 ma m) ls hd QA:=WP.bind (h.mono λ _ _ q=>WP.bind (q.mono λ _ _ q=>WP.some q))
theorem EA(h:WA m ls hd λ ds x=>DP ds.length/\QA ds x):WA (EU m) ls hd QA:=WP.bind (h.mono λ ds x q=>by dsimp only;rw[if_pos q.1];exact WP.some q.2)
theorem SK{k:Int}(e:m ls hd=some ([.im (.int k)],hd))(hk:Kt k)(q:QA (Ax 0 k.toNat) hd):WA (Iq m) ls hd QA:=⟨_,_,by simp only[VT,e,Option.bind_some,hk,if_true],q⟩
theorem U6{ml mh:MO1}(h:WE ma ls hd λ d x=>WO ml ls x λ l y=>WO mh ls y λ u z=>∃ ds,BI z d=some ds/\QA (Fv ds l u) z):WA (Ip ma ml mh) ls hd QA:=by
  obtain⟨d,x,e,l,y,e2,u,z,e3,ds,e4,q⟩:=h
  exact⟨_,z,by simp only[VR,e,Option.bind_some,e2,e3,e4],q⟩
theorem Vk(h:QO none hd):WO Ev ls hd QO:=⟨_,_,rfl,h⟩
theorem SH(h:WE ma ls hd λ d x=>∃ i,d=.im (.int i)/\QO (some i) x):WO (Gp ma) ls hd QO:=by
  obtain⟨d,x,e,i,rfl,q⟩:=h
  exact⟨_,x,by simp only[Ts,e,Option.bind_some],q⟩
theorem NN(h:WA m ls hd λ ds x=>∃ k,ds=[.im (.int k)]/\Jx k/\QI (Ax 0 k.toNat,[]) x):WI (GD m) ls hd QI:=by
  obtain⟨ds,x,e,k,rfl,c,q⟩:=h
  exact⟨_,x,by simp only[VY,e,Option.bind_some,c,if_true],q⟩
theorem Vl(h:WA m ls hd λ ds x=>∃ j k,ds=[.im (.int j),.im (.int k)]/\Nl j k/\QI (Ax j (k - j).toNat,[]) x):WI (IN m) ls hd QI:=by
  obtain⟨ds,x,e,j,k,rfl,c,q⟩:=h
  exact⟨_,x,by simp only[Tu,e,Option.bind_some,c,if_true],q⟩
theorem Ec(h:WE ma ls hd λ d x=>∃ ds,Ap d=some ds/\QI (ds,[]) x):WI (Cu ma) ls hd QI:=by
  obtain⟨d,x,e,ds,e2,q⟩:=h
  exact⟨_,x,by simp only[VX,e,Option.bind_some,e2,Option.map_some],q⟩
theorem U4(h:WA m ls hd λ ds x=>QI (ds,[]) x):WI (Fs m) ls hd QI:=by
  obtain⟨ds,x,e,q⟩:=h
  exact⟨_,x,by simp only[Va,e,Option.map_some],q⟩
theorem Fc(h:WE ma ls hd λ d x=>∃ k ds,d=.mu k/\x[k]? = some (.lst ds)/\QI (ds,[(k,ds)]) x):WI (DX ma) ls hd QI:=by
  obtain⟨d,x,e,k,ds,rfl,e2,q⟩:=h
  exact⟨_,x,by simp only[VZ,e,Option.bind_some,e2],q⟩
theorem Bn{k:Nat}{ix:List Nat}(h:WI mi ls hd λ p x=>DP p.1.length/\WP (BT n ta ma p.2 p.1 (G9 k ix ls) x) QA):WA (Bf k ix mi n ta ma) ls hd QA:=WP.bind (h.mono λ p x q=>by dsimp only;rw[if_pos q.1];exact q.2)
theorem L8{g:Gd}(P:List D->List D->Ls->Hd->Prop):∀ {ds es:List D} {ls:Ls} {hd:Hd},P ds es ls hd ->
    (∀ d r es ls hd,P (d :: r) es ls hd->∃ ls1,n d ls hd=some ls1/\WT ta ls1 hd λ c x=>if c=true then WE ma ls1 x λ z y=>GOk y g/\P r (es ++ [z]) ls1 y else GOk x g/\P r es ls1 x) ->
    WP (BT n ta ma g ds ls hd) λ zs x=>∃ ls',P [] (es ++ zs) ls' x
  | [],es,ls,hd,h,k=>⟨_,_,by unfold BT;rfl,ls,by simpa using h⟩
  | d :: r,es,ls,hd,h,k=>by
    obtain⟨ls1,e1,c,x,e2,q⟩:=k d r es ls hd h
    unfold BT
    rw[e1,Option.bind_some,e2,Option.bind_some]
    cases c with
    | true=>
      rw[if_pos rfl]at q ⊢
      obtain⟨z,y,e3,g3,p3⟩:=q
      obtain⟨zs,y2,e4,ls',p4⟩:=L8 P p3 k
      rw[e3,Option.bind_some]
      dsimp only
      rw[if_pos g3,e4]
      exact⟨z :: zs,y2,rfl,ls',by simpa using p4⟩
    | false=>
      rw[if_neg Bool.false_ne_true]at q ⊢
      dsimp only
      rw[if_pos q.1]
      exact L8 P q.2 k
theorem C3{i j:Int}(q:QE (.im (.int (i + j))) hd):WP (BA (.im (.int i)) (.im (.int j)) hd) QE:=⟨_,_,by simp,q⟩
theorem E9{i j:Int}(q:QE (.im (.int (i - j))) hd):WP (E5 (.im (.int i)) (.im (.int j)) hd) QE:=⟨_,_,by simp,q⟩
theorem OX{i j:Int}(c:G5 i j)(q:QE (.im (.int (i * j))) hd):WP (HA (.im (.int i)) (.im (.int j)) hd) QE:=⟨_,_,by simp[c],q⟩
theorem SG{i j:Int}(c:Jl j)(q:QE (.im (.int (i / j))) hd):WP (IS (.im (.int i)) (.im (.int j)) hd) QE:=⟨_,_,by simp[c],q⟩
theorem NL{i j:Int}(q:QE (.im (.bl (decide (i < j)))) hd):WP (gLt (.im (.int i)) (.im (.int j)) hd) QE:=⟨_,_,by simp,q⟩
theorem NM{i j:Int}(q:QE (.im (.bl (decide (i <= j)))) hd):WP (gLe (.im (.int i)) (.im (.int j)) hd) QE:=⟨_,_,by simp,q⟩
theorem JB{i j:Int}(q:QE (.im (.bl (decide (j < i)))) hd):WP (gGt (.im (.int i)) (.im (.int j)) hd) QE:=⟨_,_,by simp,q⟩
theorem Rn{i j:Int}(q:QE (.im (.bl (decide (j <= i)))) hd):WP (gGe (.im (.int i)) (.im (.int j)) hd) QE:=⟨_,_,by simp,q⟩
theorem Eb{i j:Int}(q:QE (.im (.bl (decide (i=j)))) hd):WP (gEq (.im (.int i)) (.im (.int j)) hd) QE:=⟨_,_,by simp,q⟩
theorem HU{i j:Int}(q:QE (.im (.bl (!decide (i=j)))) hd):WP (gNe (.im (.int i)) (.im (.int j)) hd) QE:=⟨_,_,by simp,q⟩
theorem U3{i j:Str}(q:QE (.im (.bl (!decide (i=j)))) hd):WP (gNe (.im (.str i)) (.im (.str j)) hd) QE:=⟨_,_,by simp,q⟩
theorem AL{i:Int}{ds:List D}(e1:BX hd d=some ds)(e2:atI ds i=some e)(q:QE e hd):WP (gIx d (.im (.int i)) hd) QE:=⟨_,_,by rw[WU,e1,Option.bind_some,e2];rfl,q⟩
theorem Cy{tp:Bool}{g:List D->Option D}{ds:List D}{z:D}(e1:(if tp then BX hd d else BI hd d)=some ds)(e2:g ds=some z)(q:QE z hd):WP (f1 tp g [d] hd) QE:=⟨_,_,by rw[WV,e1,Option.bind_some,e2];rfl,q⟩
theorem GK{k:Nat}{x:D}{ds:List D}(e1:hd[k]? = some (.lst ds))(c:HD ds.length)(q:QE (.im .non) (hd.set k (.lst (ds ++ [x])))):WP (CW (.mu k) [x] hd) QE:=⟨_,_,by rw[Vc,e1];simp only[c,if_true],q⟩
theorem BF{k n:Nat}{m:MS}{ds:List D}{Q:D->Hd->Prop}(hl:ds.length=k)(h:WS m (ds.map some ++ List.replicate (n - k) none) hd λ f x=>match f with
    | .rt d=>Q d x
    | .nx _=>Q (.im .non) x
    | _=>False):WF (mkF k n m) ds hd Q:=by
  obtain⟨f,x,e,q⟩:=h
  unfold WF mkF
  rw[if_pos hl,e]
  cases f with
  | nx l=>exact⟨_,_,rfl,q⟩
  | rt l=>exact⟨_,_,rfl,q⟩
  | bk l=>exact q.elim
  | ct l=>exact q.elim
theorem AT{F:List D->Hd->Option (D × Hd)}(h:WA m ls hd λ ds x=>BQ 0 ds=true/\WF F ds [] λ d _=>∃ i,d=.im i/\QE (.im i) x):WE (AG 0 F m) ls hd QE:=by
  obtain⟨ds,x,e,c,d,y,e2,i,rfl,q⟩:=h
  exact⟨_,_,Pp e c e2,q⟩
end
structure Tap(T:Nat->MO->MO->Prop)(P:List D->Hd->Option (D × Hd)):Prop where
  cl:∀ {k:Nat} {a b:MO},T k a b->clO 2 a=true/\clO 2 b=true
  le:∀ {j k:Nat} {a b:MO},T k a b->j <= k->T j a b
  pick:∀ {k:Nat} {a b:MO} {many:Int},T (k + 1) a b->0 < many->many < 1073741824->∃ r a' b',0 <= r/\r < many/\P [.mu 1,.im (.int many)] [a,b]=some (.im (.int r),[a',b'])/\T k a' b'
section
variable{T:Nat->MO->MO->Prop}{P:List D->Hd->Option (D × Hd)}{a b:MO}{rest:Hd}{ls:Ls}{m:MA}{QE:D->Hd->Prop}{n c:Nat}
theorem Tap.draw(t:Tap T P)(hT:T (n + 1) a b){many:Int}{hd:Hd}(e:m ls hd=some ([.mu 1,.im (.int many)],a :: b :: rest))(h0:0 < many)(h1:many < 1073741824)
    (k:∀ r a' b',T n a' b'->0 <= r->r < many->QE (.im (.int r)) (a' :: b' :: rest)):WE (AG 2 P m) ls hd QE:=by
  obtain⟨r,a',b',p1,p2,e2,hT'⟩:=t.pick hT h0 h1
  refine⟨_,_,Iy (w:=2) (ds:=[.mu 1,.im (.int many)]) (pre:=[a,b]) (pre':=[a',b']) (rest:=rest) (g:=[]) rfl rfl e (by simp) ?_ ?_ (by simpa using e2),k r a' b' hT' p1 p2⟩
  . simp[t.cl hT]
  . simp[t.cl hT']
end
end L2
namespace L2
open PySem PySem.Spec PyProof.Rows
section
variable{K:PySem.W.Frag}{ρ ρ':List Addr}{H H':Hp}{hd hd':Hd}
noncomputable def IC(w:Nat)(ls:Ls):Ls:=ls.map λ o=>match o with
  | some d=>if clD w d=true then some d else none
  | none=>none
noncomputable def Gh(w:Nat):Fl->Option Fl
  | .nx ls=>some (.nx (IC w ls))
  | .bk ls=>some (.bk (IC w ls))
  | .ct ls=>some (.ct (IC w ls))
  | .rt d=>if clD w d=true then some (.rt d)else none
noncomputable def JZ(w:Nat)(m:MS):MS:=λ ls hd=>if hd.length <= w then(m ls hd).bind λ p=>if(p.2.take w).all (clO w)=true then(Gh w p.1).map λ f=>(f,p.2.take w)else none else none
theorem RL.trim{ls:Ls}{σ:St}(h:RL K ρ H ls σ)(w:Nat):RL K (ρ.take w) H (IC w ls) σ:=by
  refine⟨by simp[IC,h.len],λ i d e=>?_⟩
  unfold IC at e
  rw[List.getElem?_map]at e
  cases q:ls[i]? with
  | none=>rw[q]at e;cases e
  | some o=>
    rw[q]at e
    cases o with
    | none=>simp at e
    | some z=>
      simp only[Option.map_some,Option.some.injEq]at e
      split at e
      . next c=>
        cases e
        obtain⟨v,e1,e2⟩:=h.ob i _ q
        exact⟨v,e1,e2.take w c⟩
      . cases e
theorem Ext.trim(x:Ext ρ H ρ' H'){w:Nat}(h:ρ.length <= w):Ext ρ H (ρ'.take w) H':=by
  obtain⟨r,rfl,fr⟩:=x.pre
  refine⟨⟨r.take (w - ρ.length),?_,λ b hb=>fr b (List.mem_of_mem_take hb)⟩,x.keep,x.tab⟩
  rw[List.take_append,List.take_of_length_le h]
theorem SS{t:TS}{m:MS}(w:Nat)(h:RS K t m):RS K t (JZ w m):=by
  intro ρ σ H hd ls E f hd' hR hL hm hQ
  unfold JZ at hm
  split at hm
  . next hw=>
    obtain⟨⟨f1,h1⟩,e1,hm⟩:=Option.bind_eq_some_iff.mp hm
    dsimp only at hm
    split at hm
    . next c=>
      obtain⟨f2,e2,e3⟩:=Option.map_eq_some_iff.mp hm
      cases e3
      refine h ρ σ H hd ls E f1 h1 hR hL e1 λ ρ1 H1 x1 R1=>?_
      have q:=hQ (ρ1.take w) H1 (x1.trim (by rw[hR.len];exact hw)) (R1.take w c)
      cases f1 with
      | nx l=>simp only[Gh,Option.some.injEq]at e2;subst e2;exact λ σ' L=>q σ' (L.trim w)
      | bk l=>simp only[Gh,Option.some.injEq]at e2;subst e2;exact λ σ' L=>q σ' (L.trim w)
      | ct l=>simp only[Gh,Option.some.injEq]at e2;subst e2;exact λ σ' L=>q σ' (L.trim w)
      | rt d=>
        simp only[Gh]at e2
        split at e2
        . next c2=>cases e2;exact λ v r=>q v (r.take w c2)
        . cases e2
    . cases hm
  . cases hm
theorem SF{w:Nat}{m:MS}{ls:Ls}{Q:Fl->Hd->Prop}(hw:hd.length <= w)(h:WS m ls hd λ f x=>(x.take w).all (clO w)=true/\∃ f',Gh w f=some f'/\Q f' (x.take w)):WS (JZ w m) ls hd Q:=by
  obtain⟨f,x,e,c,f',e2,q⟩:=h
  exact⟨f',x.take w,by unfold JZ;rw[if_pos hw,e,Option.bind_some];dsimp only;rw[if_pos c,e2];rfl,q⟩
noncomputable def JY(m:MS):MS:=λ ls hd=>JZ hd.length m ls hd
theorem QP{t:TS}{m:MS}(h:RS K t m):RS K t (JY m):=λ ρ σ H hd ls E f hd' hR hL hm hQ=>SS hd.length h ρ σ H hd ls E f hd' hR hL hm hQ
theorem Ou(K:PySem.W.Frag){X:Cx}{st:List Stmt}{t:TS}{m:MS}(h:QSs K X st t m):QSs K X st t (JY m):=⟨h.p,QP h.r⟩
theorem Pt{m:MS}{ls:Ls}{Q:Fl->Hd->Prop}(h:WS m ls hd λ f x=>(x.take hd.length).all (clO hd.length)=true/\∃ f',Gh hd.length f=some f'/\Q f' (x.take hd.length)):WS (JY m) ls hd Q:=SF (Nat.le_refl _) h
end
mutual
theorem MJ{v w:Nat}(h:v <= w):∀ {d:D},clD v d=true->clD w d=true
  | .im i,_=>by simp
  | .mu n,c=>by simp at c ⊢;omega
  | .tm ds,c=>by rw[clD]at c ⊢;exact Hv h c
  | .ro ns,_=>by rw[clD]
theorem Hv{v w:Nat}(h:v <= w):∀ {ds:List D},BQ v ds=true->BQ w ds=true
  | [],_=>by simp
  | d :: ds,c=>by
    simp only[Pl,Bool.and_eq_true]at c ⊢
    exact⟨MJ h c.1,Hv h c.2⟩
end
theorem Kd{v w:Nat}(h:v <= w):∀ {ds:List (Key × D)},GI v ds=true->GI w ds=true
  | [],_=>by simp[GI]
  | d :: ds,c=>by
    simp only[GI,Bool.and_eq_true]at c ⊢
    exact⟨MJ h c.1,Kd h c.2⟩
theorem Ri{v w:Nat}(h:v <= w){o:MO}(c:clO v o=true):clO w o=true:=by
  cases o with
  | lst ds=>exact Hv h c
  | dic ds=>exact Kd h c
section
variable{T:Nat->MO->MO->Prop}{P:List D->Hd->Option (D × Hd)}{a b:MO}{rest:Hd}{ls:Ls}{m:MA}{QE:D->Hd->Prop}
theorem Tap.callX(t:Tap T P){n c:Nat}(hT:T (n + c) a b)(ex:Hd){w:Nat}{F:List D->Hd->Option (D × Hd)}{as:List D}{hd:Hd}{R:I->Prop}(e:m ls hd=some (.mu 1 :: as,a :: b :: (ex ++ rest)))(hw:w=ex.length + 2)(ha:BQ w as=true)(hx:ex.all (clO w)=true)
    (hF:∀ a b,T (n + c) a b->WF F (.mu 1 :: as) (a :: b :: ex) λ d x=>∃ i a' b' g,d=.im i/\R i/\T n a' b'/\x=a' :: b' :: (ex ++ g))
    (k:∀ i a' b',T n a' b'->R i->QE (.im i) (a' :: b' :: (ex ++ rest))):WE (AG w F m) ls hd QE:=by
  subst hw
  have hcl:∀ o,clO 2 o=true->clO (ex.length + 2) o=true:=λ o h=>Ri (by omega) h
  obtain⟨d,x,e2,i,a',b',g,rfl,hR,hT',rfl⟩:=hF a b hT
  refine⟨_,_,Iy (w:=ex.length + 2) (ds:=.mu 1 :: as) (pre:=a :: b :: ex) (pre':=a' :: b' :: ex) (rest:=rest) (g:=g) rfl rfl e (by simp[ha]) ?_ ?_ e2,k i a' b' hT' hR⟩
  . simp[hcl _ (t.cl hT).1,hcl _ (t.cl hT).2];simpa using hx
  . simp[hcl _ (t.cl hT').1,hcl _ (t.cl hT').2];simpa using hx
theorem Tap.call(t:Tap T P){n c:Nat}(hT:T (n + c) a b){F:List D->Hd->Option (D × Hd)}{as:List D}{hd:Hd}{R:I->Prop}(e:m ls hd=some (.mu 1 :: as,a :: b :: rest))(ha:BQ 2 as=true)
    (hF:∀ a b,T (n + c) a b->WF F (.mu 1 :: as) [a,b] λ d x=>∃ i a' b' g,d=.im i/\R i/\T n a' b'/\x=a' :: b' :: g)
    (k:∀ i a' b',T n a' b'->R i->QE (.im i) (a' :: b' :: rest)):WE (AG 2 F m) ls hd QE:=
  t.callX hT [] (w:=2) e rfl ha rfl hF k
end
end L2
namespace L2
open PySem PySem.Spec PyProof.Rows
section
variable{ls:Ls}{hd:Hd}{b:MS}{c:MT}{Q:Fl->Hd->Prop}{QE:D->Hd->Prop}
end
end L2
namespace Bd
open PySem L2
end Bd
namespace Bd
open PySem L2
structure Tp where
  cells:List Int
  nx:Int
  lf:Int
  tn:Int
noncomputable def Kq(t:Tp):List (Key × D):=[(.inr "cells",.mu 0),(.inr "next",.im (.int t.nx)),(.inr "left",.im (.int t.lf)),(.inr "turn",.im (.int t.tn))]
noncomputable def tp(t:Tp):Hd:=[.lst (t.cells.map λ i=>.im (.int i)),.dic (Kq t)]
@[simp] theorem Xg(t:Tp):(tp t).length=2:=rfl
@[simp] theorem YZ(t:Tp)(r:Hd):(tp t ++ r)[0]? = some (.lst (t.cells.map λ i=>.im (.int i))):=rfl
@[simp] theorem YY(t:Tp)(r:Hd):(tp t ++ r)[1]? = some (.dic (Kq t)):=rfl
@[simp] theorem tp0(t:Tp):(tp t)[0]? = some (.lst (t.cells.map λ i=>.im (.int i))):=rfl
@[simp] theorem tp1(t:Tp):(tp t)[1]? = some (.dic (Kq t)):=rfl
section
variable(t:Tp)(v:Int)
@[simp] theorem Xh:(Kq t).length=4:=rfl
end
theorem Er:∀ ns:List Int,I.pys (ns.map I.int)=ns.map PyData.int
  | []=>by simp[I.pys]
  | n :: ns=>by simp[I.pys,I.py,Er ns]
theorem Ek(ns:List Int):CA (ns.map λ i=>D.im (.int i))=some (ns.map I.int):=by
  have:(ns.map λ i=>D.im (.int i))=(ns.map I.int).map D.im:=by rw[List.map_map];rfl
  rw[this];exact Ps _
theorem Tv(ns:List Int):PyData.eqv (.list (ns.map PyData.int)) (.list [])=decide (ns=[]):=by
  cases ns <;> simp[PyData.eqv,PyData.eqvAll]
theorem Iv(ns:List Int):(PyData.list (ns.map PyData.int)).canLay0=true:=by simp[PyData.canLay0,Ie]
theorem Gb(ns:List Int)(hd:Hd)(neg:Bool):HF neg (.list (ns.map PyData.int)) (.list []) hd=some (.im (.bl (if neg then !decide (ns=[])else decide (ns=[]))),hd):=by
  unfold HF
  rw[if_pos,Tv]
  refine⟨Iv ns,by simp[PyData.canLay0,PyData.canLayAll0],?_⟩
  have:(PyData.list []).depth <= 1:=by simp[PyData.depth,PyData.depthAll]
  omega
end Bd
namespace Bd
open PySem L2
theorem FX{x:Int}(m:Int)(h:0 < m):0 <= x % m/\x % m < m:=⟨Int.emod_nonneg _ (by omega),Int.emod_lt_of_pos _ h⟩
theorem Ve(hd:Hd)(neg:Bool):HF neg (.list []) (.list []) hd=some (.im (.bl (if neg then false else true)),hd):=by
  have:=Gb [] hd neg
  simpa using this
theorem WY{xs:List Int}(h:xs ≠ [])(n:Int):∃ c,atI (xs.map λ i=>D.im (.int i)) (n % (xs.length:Int))=some (.im (.int c)):=by
  have hl:0 < xs.length:=CK h
  obtain⟨a,b⟩:=FX (x:=n) (xs.length:Int) (by omega)
  obtain⟨k,hk⟩:=Int.eq_ofNat_of_zero_le a
  have hk':k < xs.length:=by omega
  exact⟨xs[k],KK hk (by simp[hk'])⟩
theorem po1:O2 10 18:=by unfold O2;decide
end Bd
namespace Bd
open PySem L2
inductive Cost where
  | late (d:Int)|tardy (d w:Int)|miss (d w:Int)|ends (w:Int)|steps (rows:List (Int × Int))
noncomputable def Mo(t:Int):List (Int × Int)->Int->Int
  | [],told=>told
  | (b,a) :: r,told=>if t < b then told else Mo t r a
noncomputable def Cost.at:Cost->Int->Int
  | .late d,t=>t - d
  | .tardy d w,t=>if t - d <= 0 then 0 else w * (t - d)
  | .miss d w,t=>if t - d <= 0 then 0 else w
  | .ends w,t=>w * t
  | .steps rows,t=>Mo t rows 0
theorem n1:¬ (("late":Str)="steps"):=by decide +kernel
theorem n2:¬ (("tardy":Str)="steps"):=by decide +kernel
theorem n7:¬ (("miss":Str)="ends"):=by decide +kernel
theorem n10:¬ (("miss":Str)="tardy"):=by decide +kernel
end Bd
namespace Bd
open PySem L2
@[simp high] theorem YX(t:Tp)(x:MO)(r:Hd):(tp t ++ (x :: r))[2]? = some x:=rfl
@[simp high] theorem YW(t:Tp)(x y:MO)(r:Hd):(tp t ++ (x :: y :: r))[3]? = some y:=rfl
@[simp high] theorem YV(t:Tp)(x y z:MO)(r:Hd):(tp t ++ (x :: y :: z :: r))[4]? = some z:=rfl
@[simp high] theorem YD(t:Tp)(x y:MO)(r:Hd):(tp t ++ (x :: r)).set 2 y=tp t ++ (y :: r):=rfl
@[simp high] theorem YC(t:Tp)(x y z:MO)(r:Hd):(tp t ++ (x :: y :: r)).set 3 z=tp t ++ (x :: z :: r):=rfl
theorem Cw(w:Nat)(ns:List Int):BQ w (ns.map λ i=>D.im (.int i))=true:=by induction ns <;> simp_all [BQ,clD]
end Bd
namespace Bd
open PySem L2
end Bd
namespace L2
end L2
namespace Bd
open PySem L2
end Bd
namespace L2
open PySem PySem.Spec PyProof.Rows
end L2
namespace Bd
open PySem L2
end Bd
namespace Bd
open PySem L2
theorem Re(ns:List Int)(lo hi:Option Int):∃ cs:List Int,Fv (ns.map λ n=>.im (.int n)) lo hi=cs.map λ n=>.im (.int n):=⟨(ns.drop _).take _,by unfold Fv;rw[List.map_take,List.map_drop]⟩
end Bd
namespace Bd
open PySem L2
noncomputable abbrev O8(ks:List Nat):List D:=ks.map λ k:Nat=>D.im (.int (k:Int))
theorem erase_map{α β:Type}(f:α->β):∀ (l:List α) (k:Nat),(l.map f).eraseIdx k=(l.eraseIdx k).map f
  | [],k=>rfl
  | y :: r,0=>rfl
  | y :: r,k + 1=>by simp[erase_map f r k]
end Bd
namespace Bd
open PySem L2
end Bd
namespace Bd
open PySem L2
theorem Rc(xs:List D)(k:Nat):Fv xs none (some (k:Int))=xs.take k:=by
  unfold Fv
  rw[HT.sIx_none,HT.sIx_nat,Nat.sub_zero,List.drop_zero]
  by_cases h:k <= xs.length
  . rw[Nat.min_eq_left h]
  . rw[Nat.min_eq_right (by omega),List.take_length,List.take_of_length_le (by omega)]
theorem Gj(n:Nat):Ax 0 n=O8 (List.range n):=by
  refine List.ext_getElem? λ i=>?_
  by_cases h:i < n
  . rw[JM h];simp[h]
  . rw[List.getElem?_eq_none (by simp;omega),List.getElem?_eq_none (by simp;omega)]
end Bd
namespace Bd
open PySem L2
noncomputable abbrev intD(xs:List Int):List D:=xs.map λ x=>D.im (.int x)
theorem PZ(xs:List Int):EH (intD xs)=some (xs.map V.int):=by
  induction xs with
  | nil=>rfl
  | cons x r ih=>simp[EH,HC]at ih ⊢;exact ih
theorem RY(x:Int)(xs:List Int):inV (.int x) (xs.map V.int)=decide (x ∈ xs):=by
  unfold inV
  induction xs with
  | nil=>simp
  | cons y r ih=>
    simp only[List.map_cons,List.any_cons,ih,List.mem_cons]
    have:eqV (V.int y) (V.int x)=decide (x=y):=by
      unfold eqV
      by_cases h:x=y
      . subst h;simp
      . have h':¬ y=x:=λ z=>h z.symm
        simp[h,h']
    rw[this,Bool.decide_or]
theorem in_ints{hd:Hd}{d:D}{xs:List Int}(x:Int)(neg:Bool)(h:BX hd d=some (intD xs)):gIn neg (.im (.int x)) d hd=some (.im (.bl (if neg then !decide (x ∈ xs)else decide (x ∈ xs))),hd):=by
  simp only[gIn,HC,Option.bind_some,h,PZ,Option.map_some,RY]
theorem g1(hd:Hd)(x y:MO):(hd ++ [x,y])[hd.length + 1]? = some y:=by simp
theorem t1(hd:Hd)(x y z:MO):(hd ++ [x,y]).set (hd.length + 1) z=hd ++ [x,z]:=by simp
end Bd
namespace L2
open PySem PySem.Spec PyProof.Rows
section
variable{ls:Ls}{hd:Hd}{QE:D->Hd->Prop}{QI:List D × Gd->Hd->Prop}{ma:ME}{n:MG}{ta:MT}{mi:MI}{m:MA}
theorem OY{d:D}{xs:List Int}{x:Int}{neg:Bool}(e1:BX hd d=some (Bd.intD xs))(q:QE (.im (.bl (if neg then !decide (x ∈ xs)else decide (x ∈ xs)))) hd):WP (gIn neg (.im (.int x)) d hd) QE:=WP.eq (Bd.in_ints x neg e1) q
theorem Vm{g:Gd}{QA:List D->Hd->Prop}(P:List D->List D->Ls->Hd->Prop){ds:List D}{ls:Ls}{hd:Hd}(h:P ds [] ls hd)
    (k:∀ d r es ls hd,P (d :: r) es ls hd->∃ ls1,n d ls hd=some ls1/\WT ta ls1 hd λ c x=>if c=true then WE ma ls1 x λ z y=>GOk y g/\P r (es ++ [z]) ls1 y else GOk x g/\P r es ls1 x)
    (z:∀ es ls hd,P [] es ls hd->QA es hd):WP (BT n ta ma g ds ls hd) QA:=
  (L8 P h k).mono λ zs x ⟨ls',q⟩=>z zs ls' x (by simpa using q)
theorem Cc{α:Type}{g:Gd}{QA:List D->Hd->Prop}(inj:α->D)(f:α->Option D)(L:D->Ls->Prop)(l0:Ls){xs:List α}{hd:Hd}(hg:GOk hd g)
    (k:∀ x ∈ xs,∀ ls,ls=l0 ∨ (∃ d,L d ls)->∃ ls1,n (inj x) ls hd=some ls1/\L (inj x) ls1/\WT ta ls1 hd λ c y=>y=hd/\if c=true then ∃ z,f x=some z/\WE ma ls1 hd λ e y=>y=hd/\e=z else f x=none)
    (q:QA (xs.filterMap f) hd):WP (BT n ta ma g (xs.map inj) l0 hd) QA:=by
  have go:∀ (xs':List α) (ls:Ls),(∀ x ∈ xs',x ∈ xs)->(ls=l0 ∨ ∃ d,L d ls)->BT n ta ma g (xs'.map inj) ls hd=some (xs'.filterMap f,hd):=by
    intro xs'
    induction xs' with
    | nil=>intro ls _ _;unfold BT;rfl
    | cons x r ih=>
      intro ls hs hl
      obtain⟨ls1,e1,L1,c,y,e2,rfl,q⟩:=k x (hs x List.mem_cons_self) ls hl
      have ih:=ih ls1 (λ z hz=>hs z (List.mem_cons_of_mem _ hz)) (.inr ⟨_,L1⟩)
      rw[List.map_cons]
      unfold BT
      rw[e1,Option.bind_some,e2,Option.bind_some]
      cases c with
      | true=>
        rw[if_pos rfl]at q
        obtain⟨z,ez,e,y,e3,rfl,rfl⟩:=q
        rw[if_pos rfl,e3,Option.bind_some]
        dsimp only
        rw[if_pos hg,ih,List.filterMap_cons,ez]
        rfl
      | false=>
        rw[if_neg Bool.false_ne_true]at q
        rw[if_neg Bool.false_ne_true]
        dsimp only
        rw[if_pos hg,ih,List.filterMap_cons,q]
  exact⟨_,_,go xs l0 (λ _ h=>h) (.inl rfl),q⟩
end
end L2
namespace L2
open PySem PySem.Spec PyProof.Rows
section
variable{K:PySem.W.Frag}{ρ ρ':List Addr}{H H':Hp}{hd hd':Hd}
theorem RDs.rep{ds:List D}{xs:List V}(r:RDs K ρ H ds xs):∀ n,RDs K ρ H (List.replicate n ds).flatten (List.replicate n xs).flatten
  | 0=>by simp[RDs]
  | n + 1=>by
    simp only[List.replicate_succ,List.flatten_cons]
    exact r.app (r.rep n)
end
section
variable{ls:Ls}{hd:Hd}{ma mb:ME}{m ml:MA}{QE:D->Hd->Prop}{QA:List D->Hd->Prop}
end
end L2
namespace L2
open PySem PySem.Spec PyProof.Rows
section
variable{ls:Ls}{hd:Hd}{ma:ME}{n n2:MG}{c c2:MT}{mi mi2:MI}{QE:D->Hd->Prop}
end
noncomputable abbrev blD(bs:List Bool):List D:=bs.map λ b=>D.im (.bl b)
end L2
namespace L2
open PySem PySem.Spec PyProof.Rows
inductive Ty where
  | int|bool|str|tuple|list
  deriving DecidableEq
noncomputable def Ty.nm:Ty->String
  | .int=>"int" | .bool=>"bool" | .str=>"str" | .tuple=>"tuple" | .list=>"list"
noncomputable def IsT(K:PySem.W.Frag)(T:Ty)(H:Hp)(v:V)(b:Bool):Prop:=
  (v=.non/\b=false) ∨ (∃ x,v=.bl x/\b=decide (T=.int ∨ T=.bool)) ∨ (∃ i,v=.int i/\b=decide (T=.int)) ∨ (∃ x,v=.str x/\b=decide (T=.str)) ∨
  (∃ a xs,v=.ref a/\SqL K H a xs/\b=decide (T=.list)) ∨ ∃ a xs,v=.ref a/\SqT K H a xs/\b=decide (T=.tuple)
section
variable{X:Cx}{pins:List (Addr × Obj)}{σ:St}{H:Hp}{s:Shared}{A:Around}{E:Value->Shared->Prop}{Q:Value->Shared->Prop}
theorem VL{T:Ty}{v:V}{u:Value}{b:Bool}(I:Inv X pins σ H s)(r:RelV v u)(h:IsT X.K T H v b)(q:∀ tk,Q (.bool b) { s with toks:=tk }):wpAny (model X.prog X.w) A (call (.builtin "isinstance") [u,.type T.nm]) Q E s:=by
  have q0:=q s.toks
  have q1:=q (s.toks + 1)
  rcases h with⟨rfl,rfl⟩|⟨x,rfl,rfl⟩|⟨i,rfl,rfl⟩|⟨x,rfl,rfl⟩|⟨a,xs,rfl,hl,rfl⟩|⟨a,xs,rfl,ht,rfl⟩
  . cases(show u=Value.none from r)
    cases T
    . exact IsiPair.NoneType_int q1
    . exact IsiPair.NoneType_bool q1
    . exact IsiPair.NoneType_str q1
    . exact IsiPair.NoneType_tuple q1
    . exact IsiPair.NoneType_list q1
  . cases(show u=Value.bool x from r)
    cases T
    . first|exact IsiPair.bool_int q0|exact IsiPair.bool_int q1
    . first|exact IsiPair.bool_bool q0|exact IsiPair.bool_bool q1
    . exact IsiPair.bool_str q1
    . exact IsiPair.bool_tuple q1
    . exact IsiPair.bool_list q1
  . obtain⟨t,rfl⟩:=(show ∃ t,u=Value.int i t from r)
    cases T
    . exact IsiPair.int_int q0
    . exact IsiPair.int_bool q1
    . exact IsiPair.int_str q1
    . exact IsiPair.int_tuple q1
    . exact IsiPair.int_list q1
  . obtain⟨t,rfl⟩:=(show ∃ t,u=Value.str x t from r)
    cases T
    . exact IsiPair.str_int q1
    . exact IsiPair.str_bool q1
    . exact IsiPair.str_str q0
    . exact IsiPair.str_tuple q1
    . exact IsiPair.str_list q1
  . cases(show u=Value.ref a from r)
    obtain⟨its,_,⟨o,n,e,c,_,_⟩,_⟩:=I.list hl
    cases T
    . exact IsiPair.list_int e c q1
    . exact IsiPair.list_bool e c q1
    . exact IsiPair.list_str e c q1
    . exact IsiPair.list_tuple e c q1
    . exact IsiPair.list_list e c q0
  . cases(show u=Value.ref a from r)
    obtain⟨its,_,⟨o,e,c,_⟩,_⟩:=I.tuple ht
    cases T
    . exact IsiPair.tuple_int e c q1
    . exact IsiPair.tuple_bool e c q1
    . exact IsiPair.tuple_str e c q1
    . exact IsiPair.tuple_tuple e c q0
    . exact IsiPair.tuple_list e c q1
end
noncomputable def Q8(K:PySem.W.Frag)(T:Ty)(te:TE):TE:=λ σ H Q=>te σ H λ v H1=>∃ b,IsT K T H1 v b/\Q (.bl b) H1
theorem V0(K:PySem.W.Frag){X:Cx}(T:Ty){e:Expr}{te:TE}{x:Str}{p px pos:Pos}(hm:X.mg "isinstance"=none)(hmT:X.mg x=none)(hvT:bootBuiltins x=some (.type T.nm))(he:PE X e te)
    (hv:bootBuiltins "isinstance"=some (.builtin "isinstance")) (hK:X.K=K) (hg:Gl X "isinstance") (hgT:Gl X x) (hnT:x ≠ "__name__") (hdT:(x == ("__debug__":Str))=false)
    (hs:starEach [e,.Name x px] X.env=[(false,eval e X.env),(false,eval (.Name x px) X.env)]) (hs2:starEach [.Name x px] X.env=[(false,eval (.Name x px) X.env)]):PE X (.Call (.Name "isinstance" p) [e,.Name x px] [] pos) (Q8 K T te):=by
  subst hK
  intro pins s σ H Q I h
  refine wpAny_Call_Name_kw (Ds I hg hm hv ?_)
  have go:wpAny (model X.prog X.w) X.A (spliced (backTo pos (starEach [e,.Name x px] X.env))) (λ vs s₁=>wpAny (model X.prog X.w) X.A (call (.builtin "isinstance") vs) (EP X pins σ Q) X.xe s₁) X.xe s:=by
    rw[hs]
    show wpAny _ _ (spliced ((false,eval e X.env) :: backTo pos [(false,eval (.Name x px) X.env)])) _ _ s
    refine Calls.spliced_cons (thn (he pins s σ H _ I h) λ u s1 ⟨v,H1,I1,r1,b,ib,q1⟩=>?_)
    show wpAny _ _ (spliced ((false,eval (.Name x px) X.env) :: backTo pos [])) _ _ s1
    refine Calls.spliced_cons (Ds I1 hgT hmT hvT ?_ hnT hdT)
    refine Calls.spliced_nil ?_
    exact VL I1 r1 ib λ tk=>⟨.bl b,H1,I1.tok _,rfl,q1⟩
  exact PyProof.Rows.callWith_builtin1 go (by rw[hs,hs2]) (by rw[hs2];rfl)
section
variable{K:PySem.W.Frag}{ρ ρ':List Addr}{H H':Hp}{hd hd':Hd}
noncomputable def isD(T:Ty)(hd:Hd):D->Option Bool
  | .im .non=>some false
  | .im (.bl _)=>some (decide (T=.int ∨ T=.bool))
  | .im (.int _)=>some (decide (T=.int))
  | .im (.str _)=>some (decide (T=.str))
  | .im (.tup _)=>some (decide (T=.tuple))
  | .tm _=>some (decide (T=.tuple))
  | .ro _=>some (decide (T=.list))
  | .mu n=>match hd[n]? with
    | some (.lst _)=>some (decide (T=.list))
    | _=>none
theorem VM{T:Ty}{d:D}{v:V}{b:Bool}(hR:RH K ρ H hd)(h:RD K ρ H d v)(e:isD T hd d=some b):IsT K T H v b:=by
  cases d with
  | im i=>
    cases i with
    | non=>simp only[RD,RI]at h;subst h;simp only[isD,Option.some.injEq]at e;exact .inl ⟨rfl,e.symm⟩
    | bl c=>simp only[RD,RI]at h;subst h;simp only[isD,Option.some.injEq]at e;exact .inr (.inl ⟨c,rfl,e.symm⟩)
    | int c=>simp only[RD,RI]at h;subst h;simp only[isD,Option.some.injEq]at e;exact .inr (.inr (.inl ⟨c,rfl,e.symm⟩))
    | str c=>simp only[RD,RI]at h;subst h;simp only[isD,Option.some.injEq]at e;exact .inr (.inr (.inr (.inl ⟨c,rfl,e.symm⟩)))
    | tup is=>
      obtain⟨a,xs,rfl,q,r⟩:=h.tup (ds:=is.map .im) rfl
      simp only[isD,Option.some.injEq]at e
      exact .inr (.inr (.inr (.inr (.inr ⟨a,xs,rfl,q,e.symm⟩))))
  | tm ds=>
    obtain⟨a,xs,rfl,q,r⟩:=h.tup (ds:=ds) rfl
    simp only[isD,Option.some.injEq]at e
    exact .inr (.inr (.inr (.inr (.inr ⟨a,xs,rfl,q,e.symm⟩))))
  | ro ns=>
    obtain⟨a,xs,rfl,q,r⟩:=h.lst hR (hd:=hd) (ds:=ns.map λ n=>.im (.int n)) rfl
    simp only[isD,Option.some.injEq]at e
    exact .inr (.inr (.inr (.inr (.inl ⟨a,xs,rfl,q,e.symm⟩))))
  | mu n=>
    simp only[isD]at e
    split at e
    . next q=>
      cases e
      simp only[RD]at h
      obtain⟨a,hn,rfl⟩:=h
      obtain⟨xs,e1,e2⟩:=hR.lst hn q
      exact .inr (.inr (.inr (.inr (.inl ⟨a,xs,rfl,SqL.of e1,rfl⟩))))
    . cases e
noncomputable def Ft(T:Ty)(ma:ME):ME:=λ ls hd=>(ma ls hd).bind λ p=>(isD T p.2 p.1).map λ b=>(.im (.bl b),p.2)
theorem UY{T:Ty}{te:TE}{me:ME}(h:RE K te me):RE K (Q8 K T te) (Ft T me):=by
  intro ρ σ H hd ls Q d hd' hR hL hm hQ
  obtain⟨⟨d1,h1⟩,e1,hm⟩:=Option.bind_eq_some_iff.mp hm
  obtain⟨b,e2,e3⟩:=Option.map_eq_some_iff.mp hm
  cases e3
  exact h ρ σ H hd ls _ d1 _ hR hL e1 λ ρ1 H1 v x1 R1 r1=>⟨b,VM R1 r1 e2,hQ ρ1 H1 _ x1 R1 (by simp[RD,RI])⟩
theorem Jp:∀ T:Ty,bootBuiltins T.nm=some (.type T.nm)
  | .int=>by decide +kernel
  | .bool=>by decide +kernel
  | .str=>by decide +kernel
  | .tuple=>by decide +kernel
  | .list=>by decide +kernel
theorem Fj(K:PySem.W.Frag){X:Cx}(T:Ty){e:Expr}{te:TE}{me:ME}{x:Str}{p px pos:Pos}(hm:X.mg "isinstance"=none)(hmT:X.mg x=none)(he:QE K X e te me)(hx:bootBuiltins x=some (.type T.nm):=by first|exact Jp .int|exact Jp .bool|exact Jp .str|exact Jp .tuple|exact Jp .list)(hK:X.K=K:=by rfl)(hg:Gl X "isinstance":=by rfl)(hgT:Gl X x:=by rfl)
    (hnT:x ≠ "__name__":=by decide) (hdT:(x == ("__debug__":Str))=false:=by decide)
    (hs:starEach [e,.Name x px] X.env=[(false,eval e X.env),(false,eval (.Name x px) X.env)]:=by rfl) (hs2:starEach [.Name x px] X.env=[(false,eval (.Name x px) X.env)]:=by rfl):QE K X (.Call (.Name "isinstance" p) [e,.Name x px] [] pos) (Q8 K T te) (Ft T me):=
  ⟨V0 K T hm hmT hx he.p Ko hK hg hgT hnT hdT hs hs2,UY he.r⟩
noncomputable def YI(mo mi me:ME)(f:Int->Int->Int):MS:=λ ls hd=>(mo ls hd).bind λ p=>(mi ls p.2).bind λ q=>match p.1,q.1 with
  | .mu n,.im (.int i)=>match q.2[n]? with
    | some (.lst ds)=>(ixN ds.length i).bind λ j=>match ds[j]? with
      | some (.im (.int x))=>(me ls q.2).bind λ r=>match r.1,r.2[n]? with
        | .im (.int y),some (.lst ds')=>if ds'.length=ds.length then some (.nx ls,r.2.set n (.lst (ds'.set j (.im (.int (f x y))))))else none
        | _,_=>none
      | _=>none
    | _=>none
  | _,_=>none
noncomputable def Mw:V->List V->Hp->VK->Prop:=λ x vs H Q=>∃ (l:Addr) (ns:List Int) (i:Int) (k:Nat),x=.ref l/\vs=[.int i]/\H l=some (.lst (ns.map V.int))/\ns[k]? = some i/\(∀ m,m < k->ns[m]? ≠ some i)/\Q .non (upd H l (.lst ((ns.eraseIdx k).map V.int)))
theorem PK{X:Cx}:MtM X "list.remove" Mw:=by
  intro pins s σ H x vs v us Q I rx rv h
  obtain⟨l,ns,i,k,rfl,rfl,hH,hk,hno,q⟩:=h
  cases rx
  obtain⟨u,rfl,ru⟩:=rv.one
  obtain⟨t,rfl⟩:=ru
  obtain⟨z,its,n,r,hl,e⟩:=I.lstM hH
  have hkn:=(List.getElem?_eq_some_iff.mp hk).1
  have li:its.length=ns.length:=by rw[<- hl];simp
  have itsI:∀ (m:Nat) (hm:m < its.toArray.size),∃ t,its.toArray[m]=.int (ns.getD m 0) t:=by
    intro m hm
    have hm':m < ns.length:=by simpa [li]using hm
    have e1:(ns.map V.int)[m]? = some (.int (ns.getD m 0)):=by simp[hm']
    obtain⟨w,hw,rw'⟩:=r.get e1
    obtain⟨t,rfl⟩:=rw'
    refine⟨t,?_⟩
    have:=hw
    simp only[List.getElem_toArray]
    exact(List.getElem?_eq_some_iff.mp hw).2
  refine call_meets F.slot_list_remove ⟨_,e,rfl⟩ F.entry_list_remove (F.args_list_remove_2 _ _)
    (PySem.MeetsSeq.list_remove l its.toArray n (.int i t) (λ y=>match y with | .int a _=>a == i|_=>false) ?_ k ?_ ?_ ?_ ?_) ⟨e,?_⟩
  . intro y hy
    obtain⟨m,hm,rfl⟩:=Array.mem_iff_getElem.mp hy
    obtain⟨t',e'⟩:=itsI m hm
    rw[e']
    exact PySem.MeetsSeq.EqGives.int _ _ _ _
  . rw[List.size_toArray,li];exact hkn
  . obtain⟨t',e'⟩:=itsI k (by rw[List.size_toArray,li];exact hkn)
    rw[e']
    have:ns.getD k 0=i:=by simp[hkn];exact(List.getElem?_eq_some_iff.mp hk).2
    rw[this];exact beq_self_eq_true i
  . intro m hm hmk
    obtain⟨t',e'⟩:=itsI m hm
    rw[e']
    have hm':m < ns.length:=by simpa [li]using hm
    have:=hno m hmk
    have:ns.getD m 0 ≠ i:=λ z=>this (by rw[<- z];simp[hm'])
    simpa using this
  . rw[List.size_toArray];omega
  . have ev:Vals ((ns.eraseIdx k).map V.int) (its.eraseIdx k):=by
      have:=r.eraseIdx k
      rwa [show(ns.map V.int).eraseIdx k=(ns.eraseIdx k).map V.int from Bd.erase_map _ _ _]at this
    refine⟨.non,_,I.lset (its':=its.eraseIdx k) hH e ?_ ev ?_,rfl,q⟩
    . show its.toArray.eraseIdxIfInBounds k=(its.eraseIdx k).toArray
      rw[List.eraseIdxIfInBounds_toArray]
    . rw[List.length_map]
      have:=List.length_eraseIdx_le ns k
      rw[List.length_map]at z
      omega
open Classical in
noncomputable def IU:D->List D->Hd->Option (D × Hd)
  | .mu n,[.im (.int i)],hd=>match hd[n]? with
    | some (.lst ds)=>(BO ds).bind λ ns=>if i ∈ ns then some (.im .non,hd.set n (.lst ((ns.eraseIdx (ns.idxOf i)).map λ x=>.im (.int x))))else none
    | _=>none
  | _,_,_=>none
theorem RDs.ints:∀ {ns:List Int} {xs:List V},RDs K ρ H (ns.map λ x=>D.im (.int x)) xs->xs=ns.map V.int
  | [],xs,h=>by simpa only[RDs,List.map_nil]using h
  | n :: ns,xs,h=>by
    simp only[List.map_cons,RDs,RD,RI]at h
    obtain⟨x,r,rfl,rfl,t⟩:=h
    rw[RDs.ints t];rfl
theorem Om:RM K Mw IU:=by
  intro ρ H hd d v ds vs Q z hd' hR h1 h2 hf hQ
  unfold IU at hf
  split at hf
  . next n i=>
    split at hf
    . next es q=>
      obtain⟨ns,e0,hf⟩:=Option.bind_eq_some_iff.mp hf
      split at hf
      . next c=>
        cases hf
        simp only[RD]at h1
        obtain⟨a,hn,rfl⟩:=h1
        simp only[RDs,RD,RI]at h2
        obtain⟨x,r,rfl,rfl,rfl⟩:=h2
        obtain⟨xs,f1,f2⟩:=hR.lst hn q
        rw[DN e0]at f2
        have ex:=f2.ints
        subst ex
        have hk:ns.idxOf i < ns.length:=List.idxOf_lt_length_iff.mpr c
        have e1:ns[ns.idxOf i]? = some i:=by simp[hk]
        obtain⟨R2,x2⟩:=hR.put hn (o:=.lst ((ns.eraseIdx (ns.idxOf i)).map λ x=>.im (.int x))) (ho:=.lst ((ns.eraseIdx (ns.idxOf i)).map V.int)) ⟨_,rfl,EZ⟩
        refine⟨a,ns,i,ns.idxOf i,rfl,rfl,f1,e1,λ m hm e=>?_,hQ ρ _ _ x2 R2 (by simp[RD,RI])⟩
        obtain⟨hm',e'⟩:=List.getElem?_eq_some_iff.mp e
        have h4:ns.idxOf i <= m:=by
          have:∀ (L:List Int) (m:Nat) (h:m < L.length),L[m]=i->L.idxOf i <= m:=by
            intro L
            induction L with
            | nil=>intro m h;simp at h
            | cons y r ih=>
              intro m h e
              rw[List.idxOf_cons]
              by_cases hy:y=i
              . simp[hy]
              . have hy':(y == i)=false:=by simpa using hy
                rw[hy']
                cases m with
                | zero=>exact absurd e hy
                | succ m=>exact Nat.succ_le_succ (ih m (by simpa using h) (by simpa using e))
          exact this ns m hm' e'
        omega
      . cases hf
    . cases hf
  . cases hf
end
section
variable{ls:Ls}{hd:Hd}{ma mo mi me:ME}{QE:D->Hd->Prop}{QS:Fl->Hd->Prop}
theorem Fd{T:Ty}(h:WE ma ls hd λ d x=>∃ b,isD T x d=some b/\QE (.im (.bl b)) x):WE (Ft T ma) ls hd QE:=by
  obtain⟨d,x,e,b,e2,q⟩:=h
  exact⟨_,_,by simp only[Ft,e,Option.bind_some,e2,Option.map_some],q⟩
theorem OW{k:Nat}{i:Int}{ns:List Int}(e1:hd[k]? = some (.lst (ns.map λ x=>.im (.int x))))(c:i ∈ ns)(q:QE (.im .non) (hd.set k (.lst ((ns.eraseIdx (ns.idxOf i)).map λ x=>.im (.int x))))):WP (IU (.mu k) [.im (.int i)] hd) QE:=by
  refine⟨_,_,?_,q⟩
  show(match hd[k]? with
    | some (.lst ds)=>(BO ds).bind λ ns=>open Classical in if i ∈ ns then some (D.im .non,hd.set k (.lst ((ns.eraseIdx (ns.idxOf i)).map λ x=>.im (.int x))))else none
    | _=>none)=_
  rw[e1]
  simp[c]
end
end L2
namespace L2
open PySem PySem.Spec PyProof.Rows
section
variable{X:Cx}{a:Expr}{ta:TE}
end
section
variable(K:PySem.W.Frag){X:Cx}{a:Expr}{ta:TE}{ma:ME}{b:Bool}{j:_}{pos pos':Pos}
end
end L2
namespace L2
open PySem PySem.Spec PyProof.Rows
structure EAt(h:Heap)(e it l:Addr)(i:Nat):Prop where
  e:∃ old,IsEnum h e it i old
  r:h.IsListIter it l i
noncomputable def Ite(K:PySem.W.Frag)(a:Addr):It:=
  ⟨λ i H=>∃ xs x,SqL K H a xs/\xs[i]? = some x,
   λ i H x H'=>∃ p v,H p=none/\H'=upd H p (.tup [.int (i:Int),v])/\x=.ref p/\∀ xs,SqL K H a xs->xs[i]? = some v,
   λ i H=>∃ xs,SqL K H a xs/\xs.length <= i⟩
theorem Of{P:Program}{w:World}{K:PySem.W.Frag}{elts:List Expr}{kk:Nat}{tpos:Pos}{e it l:Addr}(ne:e ≠ it):Turn P w K (.Tuple elts kk tpos) (Ite K l) [e,it] e (λ i h=>EAt h e it l i) where
  mem:=by simp
  obj:=λ i h st c hc=>by
    obtain⟨⟨old,he⟩,hr⟩:=st
    simp only[List.mem_cons,List.not_mem_nil,or_false]at hc
    rcases hc with rfl|rfl
    . exact⟨_,he,λ v z=>by cases(show Data.fields _=Data.cell v from z)⟩
    . obtain⟨o,q,_,d⟩:=hr;exact⟨o,q,λ v z=>by rw[d]at z;cases z⟩
  keep:=λ i h h' st k=>by
    obtain⟨⟨old,he⟩,o,q,r⟩:=st
    exact⟨⟨old,k e (by simp) _ he⟩,o,k it (by simp) _ q,r⟩
  item:=by
    intro X hP hw hK hc i pins s σ H E I hf st hg
    subst hP hw hK
    obtain⟨xs,x,h1,hx⟩:=hg
    obtain⟨its,r,pl,hz⟩:=I.list h1
    obtain⟨u,hu,ru⟩:=r.get hx
    obtain⟨⟨old,he⟩,hr⟩:=st
    refine wpAny_pyNext_enum_item he hr pl.isList (x:=u) (by simpa using hu) ne λ g ho hr' ht hsz kp=>⟨_,rfl,?_⟩
    refine wpAny_letOwnedTupleGo_enum ho λ g' e' sb=>?_
    have hle:e < s.heap.objs.size:=Heap.lt_size he
    have kp2:∀ c o,c ∉ [e,it]->s.heap.get? c=some o->g'.get? c=some o:=λ c o nc q=>by
      simp only[List.mem_cons,List.not_mem_nil,or_false,not_or]at nc
      exact sb.extBut _ _ nc.1 (kp c o nc.1 nc.2 q)
    have hT:s.heap.objs.size ≠ e:=Nat.ne_of_gt hle
    have hpair:g'.get? s.heap.objs.size=some { cls:=.type "tuple",data:=.seq #[.int i s.toks,u] }:=sb.extBut _ _ hT ht
    have fresh:H s.heap.objs.size=none:=I.hok.fresh (Nat.le_refl _)
    have I2:Inv X pins σ (upd H s.heap.objs.size (.tup [.int (i:Int),x])) { s with heap:=g',toks:=s.toks + 1 }:=I.turnsL (tk:=s.toks + 1) (o:=.tup [.int (i:Int),x]) kp2 hf (Nat.le_refl _)
      (show ObjOk X.prog X.w _ g' _ (.tup [.int (i:Int),x])from⟨by show 2 <= sizeLine;decide,[.int i s.toks,u],.cons ⟨_,rfl⟩ (.cons ru .nil),⟨_,hpair,rfl,_,rfl⟩⟩)
    refine⟨.ref s.heap.objs.size,_,I2,rfl,⟨s.heap.objs.size,x,fresh,rfl,rfl,λ xs' q=>by rw[I.list_inj q h1];exact hx⟩,⟨⟨u,?_⟩,?_⟩,λ c hc=>?_⟩
    . have:=e'
      rw[show((i:Int) + 1)=((i + 1:Nat):Int) by omega]at this
      exact this
    . exact hr'.extBut sb.extBut (Ne.symm ne)
    . have lt:c < s.heap.objs.size:=by
        simp only[List.mem_cons,List.not_mem_nil,or_false]at hc
        rcases hc with rfl|rfl
        . exact hle
        . obtain⟨o,q,_⟩:=hr;exact Heap.lt_size q
      rw[AF (Nat.ne_of_lt lt)]
      exact(hf c hc).1
  done:=by
    intro X hP hw hK hc i pins s σ H E I hf st hg
    subst hP hw hK
    obtain⟨xs,h1,hend⟩:=hg
    obtain⟨its,r,pl,hz⟩:=I.list h1
    have l1':=r.length
    obtain⟨⟨old,he⟩,hr⟩:=st
    refine wpAny_pyNext_enum_end (show X.A.handled=none from I.ok.hd hc) he hr pl.isList (by simp;omega) λ g x=>⟨rfl,?_⟩
    exact I.turns (tk:=s.toks) (λ c o nc q=>by
      simp only[List.mem_cons,List.not_mem_nil,or_false,not_or]at nc
      exact x c o nc.2 q) hf
  self:=λ _ _ _ _ _ st h=>by
    obtain⟨⟨old,he⟩,hr⟩:=st
    exact wpAny_pyIter_enum he h
noncomputable def OI(K:PySem.W.Frag)(ta:TA):TI:=λ σ H R=>ta σ H λ vs H1=>∃ a xs,vs=[.ref a]/\SqL K H1 a xs/\R (Ite K a) H1
theorem Ex:bootBuiltins "enumerate"=some (.type "enumerate"):=by decide +kernel
section
variable{X:Cx}
theorem TD(K:PySem.W.Frag){a:Expr}{ta:TA}{elts:List Expr}{kk:Nat}{tpos p pos:Pos}(hg:Gl X "enumerate")(hm:X.mg "enumerate"=none)(ha:PA X [a] ta)(hK:X.K=K:=by rfl)(hs:starEach [a] X.env=[(false,eval a X.env)]:=by rfl) :
    PI X (.Tuple elts kk tpos) (.Call (.Name "enumerate" p) [a] [] pos) (OI K ta):=by
  subst hK
  intro pins s σ H R I h
  refine Call_ (Ds I hg hm Ex (PyProof.Rows.callWith_type1 (thn (ha pos pins s σ H _ I h) λ us s1 ⟨vs,H1,I1,r1,q1⟩=>?_) hs rfl))
  obtain⟨l,xs,e,c,q⟩:=q1
  subst e
  obtain⟨u,rfl,ru⟩:=r1.one
  cases ru
  obtain⟨its,r,pl,hz⟩:=I1.list c
  refine call_enumerate_list pl.isList λ g he hr hsz kp=>wpAny_pyIter_enum he ?_
  refine⟨_,_,_,_,H1,rfl,I1.kept (t':=s1.toks) kp,Of (Nat.ne_of_gt (Nat.lt_succ_self _)),⟨⟨_,he⟩,hr⟩,λ c hc=>?_,q⟩
  simp only[List.mem_cons,List.not_mem_nil,or_false]at hc
  have le:s1.heap.objs.size <= c:=by
    rcases hc with rfl|rfl
    . exact Nat.le_add_right _ _
    . exact Nat.le_refl _
  exact I1.fpOk le (I1.hok.fresh le)
end
section
variable{K:PySem.W.Frag}
noncomputable def DZ(ma:MI):MI:=λ ls hd=>(ma ls hd).map λ p=>((p.1.1.zipIdx.map λ q=>B1 [.im (.int (q.2:Int)),q.1],p.1.2),p.2)
theorem Sc{ta:TE}{ma:MI}(ha:RRw K false ta ma):RIt K (OI K (BZ ta C8)) (DZ ma):=by
  intro ρ σ H hd ls Q d g hd' hR hL hm hQ
  obtain⟨⟨⟨d1,g1⟩,h1⟩,e1,e2⟩:=Option.map_eq_some_iff.mp hm
  cases e2
  refine ha ρ σ H hd ls _ d1 g1 h1 hR hL e1 λ ρ1 H1 a x1 R1 G1 S1=>?_
  obtain⟨xs,c1,r1⟩:=S1 ρ1 H1 _ .refl R1 G1
  refine⟨a,xs,rfl,c1,hQ ρ1 H1 _ x1 R1 G1 ?_⟩
  intro ρ3 H3 hd3 x3 R3 G3 i
  obtain⟨xs,c1,r1⟩:=S1 ρ3 H3 _ x3 R3 G3
  have l1:=r1.len
  refine⟨λ hi=>?_,λ hi=>⟨xs,c1,?_⟩⟩
  . have hi:i < d1.length:=by simpa using hi
    have i1:d1[i]? = some (d1[i]'hi):=List.getElem?_eq_getElem _
    obtain⟨x,x4,x5⟩:=r1.get i1
    refine⟨⟨xs,x,c1,x4⟩,λ z H4 hz=>?_⟩
    obtain⟨p,v,fp,rfl,rfl,hv⟩:=hz
    have ev:=hv xs c1;rw[x4]at ev;cases ev
    obtain⟨R4,x6⟩:=R3.hid (ho:=.tup [.int (i:Int),x]) fp
    refine⟨ρ3,B1 [.im (.int (i:Int)),d1[i]'hi],x6,rfl,R4,?_,Cm (SqT.of AR) (.cons (by simp[RD,RI]) (.cons (x5.ext R3 x6) .nil))⟩
    simp[i1]
  . have hi:i=d1.length:=by simpa using hi
    omega
theorem Sv(K:PySem.W.Frag){X:Cx}{a:Expr}{ta:TE}{ma:MI}{elts:List Expr}{kk:Nat}{tpos p pos:Pos}(hm:X.mg "enumerate"=none)(ha:QR K false X a ta ma)(hg:Gl X "enumerate":=by rfl)(hK:X.K=K:=by rfl)(hs:starEach [a] X.env=[(false,eval a X.env)]:=by rfl) :
    QI K X (.Tuple elts kk tpos) (.Call (.Name "enumerate" p) [a] [] pos) (OI K (BZ ta C8)) (DZ ma):=⟨TD K hg hm (CJ ha.p Cq hs) hK hs,Sc ha.r⟩
theorem EW{ma:MI}{ls:Ls}{hd:Hd}{QI:List D × Gd->Hd->Prop}(h:WI ma ls hd λ p x=>QI (p.1.zipIdx.map λ q=>B1 [.im (.int (q.2:Int)),q.1],p.2) x):WI (DZ ma) ls hd QI:=by
  obtain⟨p,x,e,q⟩:=h
  exact⟨_,_,by simp only[DZ,e,Option.map_some],q⟩
end
section
variable{K:PySem.W.Frag}{ρ ρ':List Addr}{H H':Hp}{hd hd':Hd}
end
end L2
namespace HT
open PySem PySem.Spec PyProof.Rows
section
variable{prog:Program}{w:World}{A:Around}{E:Value->Shared->Prop}{s:Shared}
end
end HT
namespace L2
open PySem PySem.Spec PyProof.Rows
section
variable{X:Cx}
end
section
variable{K:PySem.W.Frag}{ρ ρ':List Addr}{H H':Hp}{hd hd':Hd}
end
section
variable{X:Cx}
theorem Tz{prog:Program}{w:World}{A:Around}{E:Value->Shared->Prop}{s:Shared}{t b:Addr}{vs ws:List Value}{Q:Value->Shared->Prop}(ht:IsTup s.heap t vs.toArray)(hb:IsTup s.heap b ws.toArray)(hv:vs=[])
    (h1:Q (.ref b) s):wpAny (model prog w) A (binaryOp .Add (.ref t) (.ref b)) Q E s:=by
  obtain⟨⟨cls,dd,data,sl⟩,ho,hc,n,hd⟩:=id ht
  obtain⟨⟨cls2,dd2,data2,sl2⟩,ho2,hc2,n2,hd2⟩:=id hb
  simp only at hc hd hc2 hd2
  subst hc hd hc2 hd2
  exact concat_meets ⟨_,ho,rfl⟩ ⟨_,ho2,rfl⟩ noFill_tuple_add seq_tuple_add PySem.F.slot_tuple_add PySem.F.entry_tuple_add (PySem.F.args_tuple_add_2 _ _)
      (tuple_addW0 t b vs.toArray ws.toArray n n2 dd dd2 sl sl2 (by simp[hv])) ⟨ho,ho2,h1⟩
noncomputable def S2(K:PySem.W.Frag):R2:=λ x y H Q=>∃ a b ys,x=.ref a/\y=.ref b/\SqT K H a []/\SqT K H b ys/\Q (.ref b) H
theorem N5(K:PySem.W.Frag)(hK:X.K=K:=by rfl):OpR X (binaryOp .Add) (S2 K):=by
  subst hK
  intro pins s σ H x y v u Q I rx ry h
  obtain⟨a,b,ys,rfl,rfl,ha,hb,q⟩:=h
  cases rx
  cases ry
  obtain⟨its,r1,p1,_⟩:=I.tuple ha
  obtain⟨its2,r2,p2,_⟩:=I.tuple hb
  have:its=[]:=by cases r1;rfl
  exact Tz p1 p2 this ⟨.ref b,H,I,rfl,q⟩
noncomputable def IT:D->D->Hd->Option (D × Hd):=λ d e hd=>(Ap d).bind λ a=>(Ap e).bind λ b=>if a=[]then some (B1 b,hd)else none
theorem Mv{K:PySem.W.Frag}:RB K (S2 K) IT:=by
  intro ρ H hd d e v u Q z hd' hR h1 h2 hf hQ
  unfold IT at hf
  obtain⟨a,e1,hf⟩:=Option.bind_eq_some_iff.mp hf
  obtain⟨b,e2,hf⟩:=Option.bind_eq_some_iff.mp hf
  split at hf
  . next c=>
    cases hf
    subst c
    obtain⟨p,xs,rfl,q1,r1⟩:=h1.tup e1
    obtain⟨p2,ys,rfl,q2,r2⟩:=h2.tup e2
    have:xs=[]:=by simpa [RDs]using r1
    subst this
    exact⟨p,p2,ys,rfl,rfl,q1,q2,hQ ρ H _ .refl hR (Cm q2 r2)⟩
  . cases hf
end
section
variable{X:Cx}
end
end L2
namespace L2
open PySem PySem.Spec PyProof.Rows
section
variable{prog:Program}{w:World}{A:Around}{E:Value->Shared->Prop}{s:Shared}
theorem Id{l:Addr}{vs:List Value}{Q:List Value->Shared->Prop}(hl:IsTup s.heap l vs.toArray)
    (h:Q vs { s with heap:=(s.heap.push (seqObj "list" #[] 0)).update s.heap.objs.size (Obj.mapSeq (· ++ vs.toArray)) }) (hsz:vs.length <= sizeLine:=by size_fits) :
    wpAny (model prog w) A (collect (.ref l)) Q E s:=by
  obtain⟨o,ho,hc,n,hd⟩:=id hl
  unfold collect
  refine wpAny_bind (wpAny_runValue (codeAny_builtin entry_proto_collect' ?_))
  show wpAny _ _ (do again (.builtin "list.__iadd__" ⟨[<- newList [],.ref l],[]⟩)) _ _ s
  refine wpAny_bind (wpAny_newList (wpAny_pure ⟨Code.quiet_builtin _ (by decide +kernel),codeAny_builtin entry_list_iadd' ?_⟩))
  show wpAny _ _ (Builtin.List.listExtendWith (.ref s.heap.objs.size) (.ref l) (.ref s.heap.objs.size)) _ _ { s with heap:=s.heap.push (seqObj "list" #[] 0) }
  unfold Builtin.List.listExtendWith
  have ho':(s.heap.push (seqObj "list" #[] 0)).get? l=some o:=Heap.get?_push_of_some _ ho
  refine wpAny_bind (wpAny_typeOf (T:="tuple") ⟨o,ho',hc⟩ ?_)
  have ht:(Value.type "tuple" == Value.type "tuple")=true:=by rfl
  rw[if_pos (by rw[ht];simp)]
  refine wpAny_bind (listItems_at ho' hd ?_)
  refine wpAny_bind (listItems_at (xs:=#[]) (n:=0) (Heap.get?_push_size _ rfl) rfl ?_)
  rw[if_neg (by simp)]
  refine wpAny_bind (listUpdate_at (xs:=#[]) (n:=0) (Heap.get?_push_size _ rfl) rfl ?_ (Nat.zero_le _) (by show(#[] ++ vs.toArray).size <= sizeLine + 1;simp only[Array.size_append,List.size_toArray,List.length_nil];omega))
  refine wpAny_pure ?_
  show wpAny (model prog w) A (do
      let o <- load s.heap.objs.size
      match o.data with
      | .seq xs _=>pure xs.toList
      | _=>unsupported "internal:collect") Q E { s with heap:=(s.heap.push (seqObj "list" #[] 0)).update s.heap.objs.size (Obj.mapSeq (· ++ vs.toArray)) }
  refine wpAny_bind (wpAny_load (get?_update_seq (Heap.get?_push_size _ rfl) _) ?_)
  show wpAny _ _ (pure ((#[]:Array Value) ++ vs.toArray).toList) Q E _
  rw[show((#[]:Array Value) ++ vs.toArray).toList=vs by simp]
  exact wpAny_pure h
theorem LL{l:Addr}{vs:List Value}{ns:List Int}{Q:Value->Shared->Prop}(hl:IsTup s.heap l vs.toArray)(hI:IntsAre vs ns)(h64:vs.length < 64)
    (h:∀ (out:Array Value) (ns':List Int),IntsAre out.toList ns'->ns'.Perm ns->ns'.Pairwise (· <= ·)->Q (.ref (s.heap.objs.size + 1)) { s with heap:=sortedAll s.heap vs out }) :
    wpAny (model prog w) A (call (.builtin "sorted") [.ref l]) Q E s:=by
  refine Calls.call_function_entry kind_sorted plain_sorted entry_sorted (args_sorted1 _) ?_
  unfold Builtin.«sorted»
  refine wpAny_bind (m:=checkCount "sorted" 1 1 _) (wpAny_pure ?_)
  refine wpAny_bind (Id hl ?_)
  refine wpAny_bind (wpAny_newList ?_)
  have hsz:((s.heap.push (seqObj "list" #[] 0)).update s.heap.objs.size (Obj.mapSeq (· ++ vs.toArray))).objs.size=s.heap.objs.size + 1:=by
    rw[Heap.size_update,size_push']
  have hoL:(((s.heap.push (seqObj "list" #[] 0)).update s.heap.objs.size (Obj.mapSeq (· ++ vs.toArray))).push (seqObj "list" vs.toArray 0)).get? (s.heap.objs.size + 1)=some (seqObj "list" vs.toArray 0):=by
    rw[<- hsz];exact Heap.get?_push_size _ rfl
  show wpAny _ _ _ _ _ { s with heap:=((s.heap.push (seqObj "list" #[] 0)).update s.heap.objs.size (Obj.mapSeq (· ++ vs.toArray))).push (seqObj "list" vs.toArray 0) }
  rw[hsz]
  refine wpAny_bind (wpAny_holding (wpAny_call_entry slot_list_sort ⟨_,hoL,rfl⟩ entry_list_sort (list_sort_tree hoL hI h64 λ out ns' a1 a2 a3=>⟨_,rfl,?_⟩) (args_list_sort _)))
  exact wpAny_pure ⟨_,rfl,h out ns' a1 a2 a3⟩
end
end L2
namespace L2
open PySem PySem.Spec PyProof.Rows
section
variable(K:PySem.W.Frag){X:Cx}
noncomputable def Ij:List V->Hp->VK->Prop:=λ xs H Q=>∃ (a:Addr) (ns:List Int),xs=[.ref a]/\SqT K H a (ns.map V.int)/\ns.length < 64/\∀ (p:Addr) (ns':List Int),H p=none->ns'.Perm ns->ns'.Pairwise (· <= ·)->Q (.ref p) (upd H p (.lst (ns'.map V.int)))
theorem ML(hK:X.K=K:=by rfl):CallR X (.builtin "sorted") (Ij K):=by
  subst hK
  intro pins s σ H xs us Q I r h
  obtain⟨a,ns,rfl,hq,h64,q⟩:=h
  obtain⟨u,rfl,ru⟩:=Cd r
  cases ru
  obtain⟨its,rv,p,hz⟩:=I.tuple hq
  have hlen:=rv.length
  rw[List.length_map]at hlen
  refine LL p (Ea rv) (by omega) λ out ns' a1 a2 a3=>?_
  obtain⟨e,he⟩:=sortedAll_at s.heap its out
  have hl':ns'.length=ns.length:=a2.length_eq
  refine⟨.ref (s.heap.objs.size + 1),_,I.laid (a:=s.heap.objs.size + 1) (o:=.lst (ns'.map V.int)) (t':=s.toks) (λ b o hb=>sortedAll_old hb) (Nat.le_succ _) ⟨?_,out.toList,e,Js a1,he⟩,rfl,q _ _ (I.hok.fresh (Nat.le_succ _)) a2 a3⟩
  rw[List.length_map,hl']
  exact Nat.le_of_lt (HX (by omega))
end
section
variable{K:PySem.W.Frag}
theorem Nm{t:TE}{m:MI}(h:RRw K true t m):RN K (tCB (Ij K) (BZ t C8)) (DV m):=by
  intro ρ σ H hd ls Q d hd' hR hL hm hQ
  obtain⟨⟨⟨d1,g1⟩,h1⟩,e1,hm⟩:=Option.bind_eq_some_iff.mp hm
  obtain⟨ns,e2,hm⟩:=Option.bind_eq_some_iff.mp hm
  split at hm
  . next c=>
    cases hm
    refine h ρ σ H hd ls _ d1 g1 _ hR hL e1 λ ρ1 H1 a x1 R1 G1 S1=>?_
    obtain⟨xs,q,r⟩:=S1 ρ1 H1 _ .refl R1 G1
    have e3:d1=ns.map λ i=>.im (.int i):=DN e2
    rw[e3]at r
    have:=FZ r
    subst this
    refine⟨a,ns,rfl,q,c,λ p ns' hp pm pw=>?_⟩
    have:ns'=Ar ns:=GU (pm.trans (BN ns).symm) pw (Df ns)
    subst this
    obtain⟨R2,x2⟩:=R1.hid (ho:=.lst ((Ar ns).map V.int)) hp
    exact hQ ρ1 _ p _ (x1.trans R1 x2) R2 (x1.none hR hp R1) (R1.out hp) AR EZ
  . cases hm
theorem Ny(K:PySem.W.Frag){X:Cx}{e:Expr}{te:TE}{mi:MI}{p pos:Pos}(hm:X.mg "sorted"=none)(ha:QR K true X e te mi)(hg:Gl X "sorted":=by rfl)(he:starEach [e] X.env=[(false,eval e X.env)]:=by rfl)(hK:X.K=K:=by rfl):QN K X (.Call (.Name "sorted" p) [e] [] pos) (tCB (Ij K) (BZ te C8)) (DV mi):=
  ⟨Fk (ML K hK) hg hm GA (CJ ha.p Cq he) (by decide) (by decide) he rfl,Nm ha.r⟩
end
end L2
namespace L2
noncomputable abbrev ON:=HE BA IT
end L2
namespace L2
open PySem PySem.Spec PyProof.Rows
section
variable{K:PySem.W.Frag}{ρ ρ':List Addr}{H H':Hp}{hd hd':Hd}
end
section
variable{hd:Hd}{QE:D->Hd->Prop}
end
end L2
namespace L2
open PySem PySem.Spec PyProof.Rows PySem.W
inductive KeysOk(h:Heap):List Value->List Int->Prop
  | kI {ks:List Value} {kz:List Int}:IntsAre ks kz->KeysOk h ks kz
  | kP {ks:List Value} {ps:List (Int × Int)}:ks.length=ps.length->(∀ (i:Nat) (v:Value) (p:Int × Int),ks[i]? = some v->ps[i]? = some p->PairAt h v p)->(∀ p ∈ ps,pok p)->KeysOk h ks (ps.map Ai)
theorem KeysOk.len{h:Heap}{ks:List Value}{kz:List Int}(K:KeysOk h ks kz):kz.length=ks.length:=by
  cases K with
  | kI i=>have:=i.length;omega
  | kP hl _ _=>simp[hl]
theorem Gx:∀ {ks:List Value} {kz:List Int} {i:Nat},IntsAre ks kz->i < ks.length->∃ t,ks.getD i .none=.int (kz.getD i 0) t
  | _,_,0,.cons ..,_=>⟨_,rfl⟩
  | _,_,i + 1,.cons _ _ h,hi=>by
    obtain⟨t,e⟩:=Gx (i:=i) h (by simpa using hi)
    exact⟨t,by simpa using e⟩
section
variable{prog:Program}{w:World}{A:Around}{E:Value->Shared->Prop}{s:Shared}
theorem RU{ks:List Value}{kz:List Int}(K:KeysOk s.heap ks kz)(h2:2 <= ks.length){Q:SortKind->Shared->Prop}
    (h:∀ κ,(∀ (i j:Nat) (C:Bool->Shared->Prop),i < ks.length->j < ks.length->C (decide (kz.getD i 0 < kz.getD j 0)) s->wpAny (model prog w) A (keyLt' κ (ks.getD i .none) (ks.getD j .none)) C (λ _ _=>False) s)->Q κ s) :
    wpAny (model prog w) A (keyKind' ks.toArray) Q E s:=by
  cases K with
  | kI hk=>
    rw[ksk_kind (kz:=kz) (by simpa using hk) (by simpa using h2)]
    refine wpAny_pure (h _ λ i j C hi hj hC=>?_)
    obtain⟨t,e1⟩:=Gx hk hi
    obtain⟨u,e2⟩:=Gx hk hj
    rw[e1,e2]
    exact kat_lt_int hC
  | @kP ps hl hp hok=>
    obtain⟨fs,t1,t2,t3⟩:=Jt hl hp
    have tT:∀ f ∈ fs,Looks (model prog w) s.heap (typeOf f) (Value.type "int"):=λ f hf=>by
      obtain⟨i,t,rfl⟩:=t3 f hf
      exact .of_pure rfl
    refine kat_kind t1 (by omega) tT rfl (h _ λ i j C hi hj hC=>?_)
    have pi:ps[i]? = some (ps.getD i (0,0)):=by simp[show i < ps.length by omega]
    have pj:ps[j]? = some (ps.getD j (0,0)):=by simp[show j < ps.length by omega]
    have vi:ks[i]? = some (ks.getD i Value.none):=by simp[hi]
    have vj:ks[j]? = some (ks.getD j Value.none):=by simp[hj]
    have ei:(ps.map Ai).getD i 0=Ai (ps.getD i (0,0)):=by simp[show i < ps.length by omega]
    have ej:(ps.map Ai).getD j 0=Ai (ps.getD j (0,0)):=by simp[show j < ps.length by omega]
    rw[ei,ej]at hC
    exact N9 (hp i _ _ vi pi) (hp j _ _ vj pj) (hok _ (List.mem_of_getElem? pi)) (hok _ (List.mem_of_getElem? pj)) hC
theorem Tj{vs:List Value}{kz:List Int}(hl:kz.length=vs.length){p:Array Nat}(pa:PAr vs.length p)(hs:STo (λ i=>kz.getD i 0) p vs.length):KskOut false kz vs (p.toList.map λ i=>vs.getD i Value.none):=by
  have sz:=pa.size
  refine⟨p.toList.map λ i=>(kz.getD i 0,vs.getD i Value.none),?_,by rw[List.map_map];rfl,?_⟩
  . have e:kz.zip vs=(List.range vs.length).map λ i=>(kz.getD i 0,vs.getD i Value.none):=by
      refine List.ext_getElem? λ i=>?_
      by_cases hi:i < vs.length
      . have hi2:i < kz.length:=by omega
        rw[(List.getElem?_zip_eq_some (z:=(kz[i],vs[i]))).mpr ⟨by simp[hi2],by simp[hi]⟩]
        simp[hi,hi2]
      . rw[List.getElem?_eq_none (by simp;omega),List.getElem?_eq_none (by simp;omega)]
    rw[e]
    have:=Array.perm_iff_toList_perm.mp pa
    simpa using this.map _
  . rw[List.pairwise_map,List.pairwise_iff_getElem]
    intro i j hi hj hij
    simp only[Array.length_toList]at hi hj
    have:=hs i j (by omega) (by omega)
    unfold kv at this
    simpa [Array.getD,hi,hj]using this
theorem Tk{a kS:Addr}{e e1:Nat}{ks vs:List Value}{kz:List Int}{P:PySem.Fin->Shared->Prop}(nk:s.heap.get? kS=some (seqObj "list" ks.toArray e))(na:s.heap.get? a=some (seqObj "list" #[] e1))(hka:kS ≠ a)(K:KeysOk s.heap ks kz)(hl:ks.length=vs.length)(h64:vs.length < 64)
    (h:∀ out:List Value,KskOut false kz vs out->P (.done (.ret .none)) { s with heap:=(s.heap.update kS (Obj.mapSeq λ _=>#[])).update a (Obj.mapSeq λ _=>out.toArray) }) :
    wpAny (model prog w) A (ksk_end a false vs.toArray e1 (.ref kS) ks.toArray) P E s:=by
  have hz:kz.length=vs.length:=by have:=K.len;omega
  have s1:=Heap.SameBut.update s.heap kS (Obj.mapSeq λ _=>(#[]:Array Value))
  have na1:(s.heap.update kS (Obj.mapSeq λ _=>(#[]:Array Value))).get? a=some (seqObj "list" #[] e1):=(s1.2 a hka.symm).trans na
  have tail:∀ (st:SortSt) (out:List Value),(arrOf st).map (·.2)=out.toArray->out.length=vs.length->failedOf st=none->KskOut false kz vs out->wpAny (model prog w) A (ksk_tail a false e1 (.ref kS) st) P E s:=by
    intro st out ho hlo hf so
    unfold ksk_tail
    dsimp only
    refine wpAny_bind (listUpdate_at nk rfl ?_ (by simp[sizeLine_eq];omega) (Nat.zero_le _))
    refine wpAny_bind (wpAny_letGo ?_)
    refine wpAny_bind (seqEpoch_at na1 rfl ?_)
    simp only[Bool.false_eq_true,if_false]
    rw[ho]
    refine wpAny_bind (listUpdate_at na1 rfl ?_ (Nat.zero_le _) (by rw[List.size_toArray,sizeLine_eq];omega))
    rw[hf]
    simp only[bne_self_eq_false,Bool.false_eq_true,if_false]
    exact wpAny_pure (h out so)
  unfold ksk_end
  simp only[Bool.false_eq_true,if_false]
  by_cases h2:vs.toArray.size < 2
  . rw[if_pos h2,if_pos h2]
    refine wpAny_bind (wpAny_pure ?_)
    rw[StateT.run_pure]
    refine wpAny_bind (wpAny_pure ?_)
    dsimp only
    refine tail _ vs ?_ rfl rfl ⟨kz.zip vs,.refl _,?_,?_⟩
    . show(ks.toArray.zip vs.toArray).map (·.2)=vs.toArray
      apply Array.toList_inj.mp
      simp only[Array.toList_map,Array.toList_zip]
      exact List.map_snd_zip (by omega)
    . exact(List.map_snd_zip (by omega)).symm
    . have hzl:(kz.zip vs).length < 2:=by simp at h2 ⊢;omega
      cases hh:kz.zip vs with
      | nil=>exact .nil
      | cons z r=>
        cases r with
        | nil=>exact List.pairwise_singleton _ _
        | cons y t=>rw[hh]at hzl;exact absurd hzl (by simp)
  . rw[if_neg h2,if_neg h2]
    have h2':2 <= vs.length:=by simp at h2;omega
    refine wpAny_bind (RU K (by omega) λ κ cmp=>?_)
    have hsz:(ks.toArray.zip vs.toArray).size=vs.length:=by simp[hl]
    have it:∀ i,i < vs.length->kas_item (ks.toArray.zip vs.toArray) i=(ks.getD i .none,vs.getD i .none):=λ i hi=>by
      unfold kas_item
      have h1:i < ks.length:=by omega
      have h3:i < (ks.toArray.zip vs.toArray).size:=by omega
      have e:(ks.toArray.zip vs.toArray).getD i (Value.none,Value.none)=(ks.toArray.zip vs.toArray)[i]:=by simp only[Array.getD,h3,dite_true];rfl
      have e2:(ks.toArray.zip vs.toArray)[i]=(ks[i],vs[i]):=by rw[Array.getElem_zip];simp
      rw[e,e2]
      simp[h1,hi]
    have est:SortSt.mk' κ (ks.toArray.zip vs.toArray) #[] 7 none=kas_st κ (ks.toArray.zip vs.toArray) (List.toArray (List.range vs.length)):=by
      unfold kas_st
      rw[<- hsz,kas_range]
    have ask:(kas_sort vs.length).kasWp (kas_cmp prog w A κ (ks.toArray.zip vs.toArray)) (λ p s'=>s'=s/\PAr vs.length p/\STo (λ i=>kz.getD i 0) p vs.length) s:=by
      refine PWp.wp (n:=vs.length) (r:=λ i=>kz.getD i 0) (P:=λ s'=>s'=s) (λ i j C s' hi hj e hC=>?_) ((Mq (by omega)).mono λ p z s' e=>⟨e,z.1,z.2⟩) rfl
      subst e
      unfold kas_cmp
      rw[it i hi,it j hj]
      exact cmp i j C (by omega) (by omega) (hC _ rfl)
    have run:=kas_runs (E:=E) (Q:=λ _ st' s'=>∃ p:Array Nat,arrOf st'=p.map (kas_item (ks.toArray.zip vs.toArray))/\failedOf st'=none/\s'=s/\PAr vs.length p/\STo (λ i=>kz.getD i 0) p vs.length) h2' h64 (λ p st' s' x1 x2 x3 x4=>⟨p,x2,x3,x4⟩) ask
    rw[<- est]at run
    refine wpAny_bind (wpAny_mono run ?_ λ _ _ e=>e)
    rintro⟨⟨⟩,st'⟩ s' ⟨p,har,hf,rfl,pa,so⟩
    dsimp only
    refine tail st' (p.toList.map λ i=>vs.getD i Value.none) ?_ ?_ hf (Tj hz pa so)
    . rw[har]
      apply Array.toList_inj.mp
      simp only[Array.toList_map,List.map_map,List.toList_toArray]
      refine List.map_congr_left λ i hi=>?_
      have hi':i < vs.length:=by
        have:=(Array.perm_iff_toList_perm.mp pa).mem_iff.mp hi
        simpa using this
      exact congrArg Prod.snd (it i hi')
    . simp[pa.size]
end
end L2
namespace L2
open PySem PySem.Spec PyProof.Rows PySem.W
noncomputable def IQ(G:Hp->Prop)(tb:TE)(cap:St):List Int->Hp->(List V->Hp->Prop)->Prop
  | [],H,Q=>Q [] H
  | n :: r,H,Q=>G H/\tb (some (.int n) :: cap) H λ k H1=>IQ G tb cap r H1 λ ks H2=>Q (k :: ks) H2
noncomputable def IX(K:PySem.W.Frag)(H:Hp)(ks:List V)(kz:List Int):Prop:=ks=kz.map V.int ∨ ∃ ps:List (Int × Int),kz=ps.map Ai/\(∀ p ∈ ps,pok p)/\ks.length=ps.length/\∀ (i:Nat) (k:V) (p:Int × Int),ks[i]? = some k->ps[i]? = some p->∃ x,k=.ref x/\SqT K H x [.int p.1,.int p.2]
noncomputable def J8(kz ns ms:List Int):Prop:=∃ zs:List (Int × Int),zs.Perm (kz.zip ns)/\zs.Pairwise (λ a b=>a.1 <= b.1)/\ms=zs.map (·.2)
noncomputable def FC:Value->Int
  | .int n _=>n
  | _=>0
theorem M6:∀ {vs:List Value} {ns:List Int},IntsAre vs ns->vs.map FC=ns
  | _,_,.nil=>rfl
  | _,_,.cons _ _ h=>by rw[List.map_cons,M6 h];rfl
theorem M7:∀ {vs:List Value} {ns:List Int},IntsAre vs ns->∀ v ∈ vs,∃ t,v=.int (FC v) t
  | _,_,.nil,v,h=>by cases h
  | _,_,.cons _ _ h,v,hv=>by
    rcases List.mem_cons.mp hv with rfl|hv
    . exact⟨_,rfl⟩
    . exact M7 h v hv
theorem G8:∀ {xs:List V} {vs:List Value} {ns:List Int},xs=ns.map V.int->Vals xs vs->IntsAre vs ns
  | _,_,[],e,h=>by subst e;cases h;exact .nil
  | _,_,n :: r,e,h=>by
    subst e
    cases h with
    | cons a b=>obtain⟨t,rfl⟩:=a;exact .cons n t (G8 rfl b)
theorem JD:∀ {vs:List Value},(∀ v ∈ vs,∃ t,v=Value.int (FC v) t)->Vals ((vs.map FC).map V.int) vs
  | [],_=>.nil
  | v :: r,h=>by
    refine .cons ?_ (JD λ w hw=>h w (List.mem_cons_of_mem _ hw))
    obtain⟨t,e⟩:=h v List.mem_cons_self
    exact⟨t,e⟩
theorem W6{kz ns:List Int}{vs out:List Value}(hi:IntsAre vs ns)(so:KskOut false kz vs out):J8 kz ns (out.map FC)/\∀ v ∈ out,∃ t,v=Value.int (FC v) t:=by
  obtain⟨zs,pm,rfl,pw⟩:=so
  refine⟨⟨zs.map λ z=>(z.1,FC z.2),?_,?_,by rw[List.map_map,List.map_map];rfl⟩,?_⟩
  . have:=pm.map λ z:Int × Value=>(z.1,FC z.2)
    have e:((kz.zip vs).map λ z:Int × Value=>(z.1,FC z.2))=kz.zip ns:=by
      rw[<- M6 hi,List.zip_map_right]
      rfl
    rwa [e]at this
  . rw[List.pairwise_map]
    exact pw.imp λ h=>by simpa using h
  . intro v hv
    obtain⟨z,hz,rfl⟩:=List.mem_map.mp hv
    have:=pm.mem_iff.mp hz
    exact M7 hi _ (List.of_mem_zip this).2
section
variable{X:Cx}{pins:List (Addr × Obj)}{σ:St}{H:Hp}{s:Shared}{a:Addr}
theorem Inv.adopt{o:HO}(I:Inv X pins σ H s)(f:FpOk X pins H a)(h0:X.s₀.heap.objs.size <= a)(new:ObjOk X.prog X.w (upd H a o) s.heap a o):Inv X pins σ (upd H a o) s:=by
  obtain⟨hn,hL,hfs,_,hc,hp⟩:=f
  have nb:∀ b u,H b=some u->b ≠ a:=λ b u e=>Af e hn
  have n0:∀ b o,X.s₀.heap.get? b=some o->b ≠ a:=λ b o e=>Nat.ne_of_lt (Nat.lt_of_lt_of_le (Heap.lt_size e) h0)
  refine⟨I.ok,I.os,I.bare,⟨I.base.keep,I.base.slot,λ b o e n hx=>?_,I.base.there,λ b xs e=>?_,λ b o u e=>?_,λ b ps e=>?_⟩,I.loc,I.cell,?_,λ x c e=>?_,λ p hp'=>?_,λ b u e=>?_,I.len⟩
  . rw[AF (n0 b o e)];exact I.base.free b o e n hx
  . have:=I.base.tups b xs e
    rw[AF (nb b _ this)];exact this
  . have:=I.base.frzs b o u e
    rw[AF (nb b _ this)];exact this
  . obtain⟨m,e1⟩:=I.base.tbls b ps e
    exact⟨m,by rw[AF (nb b _ e1)];exact e1⟩
  . rw[AF (λ z=>hL z.symm)];exact I.free
  . rw[AF (hc x c e)];exact I.freeC x c e
  . obtain⟨q1,q2,q3⟩:=I.pin p hp'
    exact⟨q1,by rw[AF (hp p hp')];exact q2,q3⟩
  . by_cases z:b=a
    . subst z
      rw[AR]at e;cases e
      exact new
    . rw[AF z]at e
      exact(I.hok b u e).stay (λ _ _ _ q=>q) (λ d q=>by rw[AF (nb d _ q)];exact q) λ d xs q=>by rw[AF (nb d _ q)];exact q
theorem Ti(I:Inv X pins σ H s){ks:List V}{kz:List Int}{us:List Value}(k:IX X.K H ks kz)(r:Vals ks us):KeysOk s.heap us kz:=by
  rcases k with rfl|⟨ps,rfl,hok,hl,hp⟩
  . exact .kI (G8 rfl r)
  . refine .kP (by rw[<- r.length];exact hl) (λ i v p e1 e2=>?_) hok
    have hi:i < ks.length:=by rw[hl];exact(List.getElem?_eq_some_iff.mp e2).1
    have ek:ks[i]? = some ks[i]:=by simp[hi]
    obtain⟨x,ex,sq⟩:=hp i _ p ek e2
    obtain⟨v',ev,rel⟩:=Ih r ek
    rw[e1]at ev
    cases ev
    rw[ex]at rel
    have rel:v=Value.ref x:=rel
    subst rel
    obtain⟨jts,rj,⟨o,ho,hc,n,hd⟩,_⟩:=I.tuple sq
    cases rj with
    | cons r1 t1=>
      cases t1 with
      | cons r2 t2=>
        cases t2
        obtain⟨t,rfl⟩:=r1
        obtain⟨t',rfl⟩:=r2
        exact⟨x,o,t,t',n,rfl,ho,hc,hd⟩
end
end L2
namespace L2
open PySem PySem.Spec PyProof.Rows PySem.W
section
variable{X:Cx}{pins:List (Addr × Obj)}{σ:St}{H:Hp}{s:Shared}
theorem Inv.turn1{b:Addr}{o:Obj}{h':Heap}{t':Nat}(I:Inv X ((b,o) :: pins) σ H s)(f:FpOk X pins H b)(hs:Heap.SameBut b s.heap h'):Inv X pins σ H { s with heap:=h',toks:=t' }:=by
  have J:Inv X pins σ H s:=I.pins_of λ p hp=>I.pin p (List.mem_append_right _ (List.mem_cons_of_mem _ hp))
  obtain⟨hn,hL,_,h1,h2,h3⟩:=f
  exact J.turned (λ c u n e=>(hs.2 c n).trans e) hn hL h1 h2 h3
theorem FpOk.more{b c:Addr}{o:Obj}(f:FpOk X pins H b)(h:c ≠ b):FpOk X ((c,o) :: pins) H b:=by
  obtain⟨a1,a2,a3,a4,a5,a6⟩:=f
  refine⟨a1,a2,a3,a4,a5,λ p hp=>?_⟩
  rcases List.mem_append.mp hp with q|q
  . exact a6 p (List.mem_append_left _ q)
  . rcases List.mem_cons.mp q with rfl|q
    . exact h
    . exact a6 p (List.mem_append_right _ q)
theorem Inv.repin{b:Addr}{o:Obj}(I:Inv X pins σ H s)(f:FpOk X pins H b)(e:s.heap.get? b=some o)(hd:∀ v,o.data ≠ .cell v):Inv X ((b,o) :: pins) σ H s:=
  I.pins_of λ p hp=>by
    rcases List.mem_cons.mp hp with rfl|hp
    . exact⟨e,f.1,f.2.1,f.2.2.1,hd⟩
    . exact I.pin p (List.mem_append_right _ hp)
theorem Nf{l:Value}{f:Addr}{ns:List Int}{G:Hp->Prop}{tb:TE}{cap:St}{Q:VK}{E:Value->Shared->Prop}(I:Inv X pins σ H s)(h64:ns.length < 64)
    (hcol:∀ (Q:List Value->Shared->Prop) (E:Value->Shared->Prop),(∀ (g:Heap) (tk:Nat) (vs:List Value),(∀ b o,s.heap.get? b=some o->g.get? b=some o)->IntsAre vs ns->Q vs { s with heap:=g,toks:=tk })->wpAny (model X.prog X.w) X.A.in1 (collect l) Q E s)
    (turn:∀ (pins':List (Addr × Obj)) (H1:Hp) (s1:Shared) (n:Int) (u:Value) (Q1:VK),(∀ p ∈ pins,p ∈ pins')->Inv X pins' σ H1 s1->RelV (.int n) u->G H1->tb (some (.int n) :: cap) H1 Q1->wpAny (model X.prog X.w) X.A.in1.in1 (call (.ref f) [u]) (EP X pins' σ Q1) (λ _ _=>False) s1)
    (h:IQ G tb cap ns H λ ks H3=>∃ kz,IX X.K H3 ks kz/\∀ p ms,H3 p=none->J8 kz ns ms->Q (.ref p) (upd H3 p (.lst (ms.map V.int)))) :
    wpAny (model X.prog X.w) X.A (call (.builtin "sorted") [l] [(Str.ofString "key",.ref f)]) (EP X pins σ Q) E s:=by
  refine call_function_entry_kw kind_sorted plain_sorted entry_sorted (ksk_s1 _ _) ?_
  unfold Builtin.«sorted»
  refine wpAny_bind (m:=checkCount "sorted" 1 1 _) (wpAny_pure ?_)
  refine wpAny_bind (hcol _ _ λ g tk vs keep0 hi=>?_)
  replace I:Inv X pins σ H { s with heap:=g,toks:=tk }:=I.kept (t':=tk) keep0
  clear hcol
  generalize { s with heap:=g,toks:=tk }=s at I ⊢
  clear keep0 g tk
  have line:vs.length <= sizeLine:=by have:=hi.length;rw[sizeLine_eq];omega
  have h64:vs.length < 64:=by have:=hi.length;omega
  refine wpAny_bind (wpAny_newList ?_ line)
  show wpAny _ _ _ _ _ { s with heap:=s.heap.push (seqObj "list" vs.toArray 0) }
  have hoL:(s.heap.push (seqObj "list" vs.toArray 0)).get? s.heap.objs.size=some (seqObj "list" vs.toArray 0):=Heap.get?_push_size _ rfl
  have keep1:∀ b o,s.heap.get? b=some o->(s.heap.push (seqObj "list" vs.toArray 0)).get? b=some o:=λ b o q=>Heap.get?_push_of_some _ q
  have sz1:(s.heap.push (seqObj "list" vs.toArray 0)).objs.size=s.heap.objs.size + 1:=by rw[size_push']
  generalize s.heap.push (seqObj "list" vs.toArray 0)=h1 at hoL keep1 sz1 ⊢
  have fa:∀ H',H' s.heap.objs.size=none->FpOk X pins H' s.heap.objs.size:=λ H' hn=>I.fpOk (Nat.le_refl _) hn
  have fk:∀ H',H' (s.heap.objs.size + 2)=none->FpOk X pins H' (s.heap.objs.size + 2):=λ H' hn=>I.fpOk (by omega) hn
  refine wpAny_bind (wpAny_holding (wpAny_call_entry_kw slot_list_sort ⟨_,hoL,rfl⟩ entry_list_sort ?_ (ksk_l1 _ _)))
  show wpAny (model X.prog X.w) X.A.in1.in1 (Builtin.«list.sort» ⟨[.ref (s.heap.objs.size)],[(Str.ofString "key",.ref f)]⟩) _ _ _
  rw[ksk_t1]
  have u1:=Heap.SameBut.update h1 (s.heap.objs.size) (Obj.mapSeq λ _=>(#[]:Array Value))
  obtain⟨e1,ho1⟩:∃ e1,(h1.update (s.heap.objs.size) (Obj.mapSeq λ _=>(#[]:Array Value))).get? (s.heap.objs.size)=some (seqObj "list" #[] e1):=⟨_,get?_update_seq hoL λ _=>#[]⟩
  have sz2:(h1.update (s.heap.objs.size) (Obj.mapSeq λ _=>(#[]:Array Value))).objs.size=s.heap.objs.size + 1:=by rw[Heap.size_update,sz1]
  have keep2:∀ b o,s.heap.get? b=some o->(h1.update (s.heap.objs.size) (Obj.mapSeq λ _=>(#[]:Array Value))).get? b=some o:=λ b o q=>(u1.2 b (Nat.ne_of_lt (Heap.lt_size q))).trans (keep1 b o q)
  unfold ksk_tree
  refine wpAny_bind (listItems_at hoL rfl ?_)
  refine wpAny_bind (listUpdate_at hoL rfl ?_ (by rw[List.size_toArray,sizeLine_eq];omega) (Nat.zero_le _))
  refine wpAny_bind (seqEpoch_at ho1 rfl ?_)
  generalize h1.update (s.heap.objs.size) (Obj.mapSeq λ _=>(#[]:Array Value))=h2 at ho1 sz2 keep2 ⊢
  refine wpAny_bind (wpAny_newTuple ?_ (by show vs.length <= _;exact line))
  refine wpAny_bind (wpAny_newList ?_ (Nat.zero_le _))
  have sz3:(h2.push (seqObj "tuple" vs.toArray 0)).objs.size=s.heap.objs.size + 2:=by rw[size_push',sz2]
  have okS:((h2.push (seqObj "tuple" vs.toArray 0)).push (seqObj "list" #[] 0)).get? (s.heap.objs.size + 2)=some (seqObj "list" #[] 0):=by rw[<- sz3];exact Heap.get?_push_size _ rfl
  have oa4:((h2.push (seqObj "tuple" vs.toArray 0)).push (seqObj "list" #[] 0)).get? (s.heap.objs.size)=some (seqObj "list" #[] e1):=Heap.get?_push_of_some _ (Heap.get?_push_of_some _ ho1)
  have keep4:∀ b o,s.heap.get? b=some o->((h2.push (seqObj "tuple" vs.toArray 0)).push (seqObj "list" #[] 0)).get? b=some o:=λ b o q=>Heap.get?_push_of_some _ (Heap.get?_push_of_some _ (keep2 b o q))
  have ekS:∀ o:Obj,Value.ref ((({ s with heap:=h2.push o }:Shared)).heap.objs.size)=Value.ref (h2.push o).objs.size:=λ _=>rfl
  refine wpAny_holding ?_
  have goal:∀ kS:Addr,kS=s.heap.objs.size + 2->wpAny (model X.prog X.w) X.A.in1.in1 (ksk_rest (s.heap.objs.size) (.ref f) false vs.toArray e1 (.ref kS)) (λ fin s'=>∃ v,fin=PySem.Fin.done (.ret v)/\wpAny (model X.prog X.w) X.A.in1 (ret (.ref (s.heap.objs.size))) (λ fin s'=>∃ v,fin=PySem.Fin.done (.ret v)/\EP X pins σ Q v s') E s') E { s with heap:=(h2.push (seqObj "tuple" vs.toArray 0)).push (seqObj "list" #[] 0) }:=by
    intro kS ek
    rw[ek]
    have fresh0:H (s.heap.objs.size)=none/\H (s.heap.objs.size + 2)=none:=⟨I.hok.fresh (by omega),I.hok.fresh (by omega)⟩
    have I4:Inv X pins σ H { s with heap:=(h2.push (seqObj "tuple" vs.toArray 0)).push (seqObj "list" #[] 0) }:=I.kept (t':=s.toks) keep4
    have nak:s.heap.objs.size ≠ s.heap.objs.size + 2:=by omega
    have I5:=(I4.repin (fk H fresh0.2) okS (λ v z=>by cases z)).repin ((fa H fresh0.1).more nak.symm) oa4 (λ v z=>by cases z)
    unfold ksk_rest
    refine wpAny_bind (wpAny_rule ?_)
    first
      | rw[List.forIn_toArray]
      | (rw[<- Array.forIn_toList];simp only[List.toList_toArray])
      | rw[<- Array.forIn_toList]
    refine wpAny_bind (ksk_fold (λ i s'=>∃ (H':Hp) (kA:Array Value) (e:Nat) (ks:List V),Inv X ((s.heap.objs.size,seqObj "list" #[] e1) :: (s.heap.objs.size + 2,seqObj "list" kA e) :: pins) σ H' s'/\Vals ks kA.toList/\kA.size=i /\
      IQ G tb cap (ns.drop i) H' λ ks' H3=>∃ kz,IX X.K H3 (ks ++ ks') kz/\∀ p ms,H3 p=none->J8 kz ns ms->Q (.ref p) (upd H3 p (.lst (ms.map V.int)))) vs 0 _ ⟨H,#[],0,[],I5,.nil,rfl,h⟩ ?step ?done)
    case step=>
      rintro j x s' hx ⟨H',kA,e,ks,J,rk,hsz,hgo⟩
      simp only[Nat.zero_add]at hsz hgo ⊢
      have hj:j < vs.length:=(List.getElem?_eq_some_iff.mp hx).1
      have hjn:j < ns.length:=by have:=hi.length;omega
      have enx:ns[j]? = some ns[j]:=by simp[hjn]
      have edr:ns.drop j=ns[j] :: ns.drop (j + 1):=List.drop_eq_getElem_cons hjn
      rw[edr]at hgo
      obtain⟨hG,hgo⟩:=hgo
      have rx:RelV (.int ns[j]) x:=by
        obtain⟨t,et⟩:=Gx hi hj
        have:vs.getD j .none=x:=by simp[List.getD,hx]
        rw[this]at et
        have:ns.getD j 0=ns[j]:=by simp[hjn]
        rw[this]at et
        exact⟨t,et⟩
      refine wpAny_bind (wpAny_attempt (wpAny_mono (turn _ H' s' ns[j] x _ (λ p hp=>List.mem_cons_of_mem _ (List.mem_cons_of_mem _ hp)) J rx hG hgo) (λ v s'' he=>?_) λ _ _ hF=>hF.elim))
      obtain⟨k,H2,J2,r2,hgo2⟩:=he
      dsimp only
      have pk:=J2.pin (s.heap.objs.size + 2,seqObj "list" kA e) (List.mem_append_right _ (List.mem_cons_of_mem _ List.mem_cons_self))
      have pa:=J2.pin (s.heap.objs.size,seqObj "list" #[] e1) (List.mem_append_right _ List.mem_cons_self)
      have u2:=Heap.SameBut.update s''.heap (s.heap.objs.size + 2) (Obj.mapSeq (·.push v))
      obtain⟨c2,hc2⟩:∃ c2,(s''.heap.update (s.heap.objs.size + 2) (Obj.mapSeq (·.push v))).get? (s.heap.objs.size + 2)=some (seqObj "list" (kA.push v) c2):=⟨_,get?_update_seq pk.1 (·.push v)⟩
      refine wpAny_bind (listUpdate_at pk.1 rfl ?_ (by rw[sizeLine_eq];omega) (Nat.le_trans (Nat.le_of_eq (Array.size_push ..)) (by rw[sizeLine_eq];omega)))
      have J3:Inv X ((s.heap.objs.size + 2,seqObj "list" kA e) :: pins) σ H2 s'':=J2.pins_of λ p hp=>J2.pin p (List.mem_append_right _ (List.mem_cons_of_mem _ hp))
      have J4:Inv X pins σ H2 { s'' with heap:=s''.heap.update (s.heap.objs.size + 2) (Obj.mapSeq (·.push v)) }:=J3.turn1 (t':=s''.toks) (fk H2 pk.2.1) u2
      have oa:(s''.heap.update (s.heap.objs.size + 2) (Obj.mapSeq (·.push v))).get? (s.heap.objs.size)=some (seqObj "list" #[] e1):=(u2.2 _ nak).trans pa.1
      have J5:=(J4.repin (fk H2 pk.2.1) hc2 (λ v z=>by cases z)).repin ((fa H2 pa.2.1).more nak.symm) oa (λ v z=>by cases z)
      refine wpAny_pure ⟨rfl,H2,kA.push v,c2,ks ++ [k],J5,?_,by simp[hsz],?_⟩
      . rw[Array.toList_push];exact rk.append (.cons r2 .nil)
      . simpa [List.append_assoc]using hgo2
    case done=>
      rintro s' ⟨H',kA,e,ks,J,rk,hsz,hgo⟩
      have hdr:ns.drop (0 + vs.length)=[]:=List.drop_of_length_le (by have:=hi.length;omega)
      rw[hdr]at hgo
      obtain⟨kz,kv,fin⟩:∃ kz,IX X.K H' (ks ++ []) kz/\∀ p ms,H' p=none->J8 kz ns ms->Q (.ref p) (upd H' p (.lst (ms.map V.int))):=hgo
      rw[List.append_nil]at kv
      have pk:=J.pin (s.heap.objs.size + 2,seqObj "list" kA e) (List.mem_append_right _ (List.mem_cons_of_mem _ List.mem_cons_self))
      have pa:=J.pin (s.heap.objs.size,seqObj "list" #[] e1) (List.mem_append_right _ List.mem_cons_self)
      refine wpAny_bind (listItems_at pk.1 rfl ?_)
      have ekA:kA=kA.toList.toArray:=by simp
      rw[ekA]at pk ⊢
      have lk:kA.toList.length=vs.length:=by rw[Array.length_toList];omega
      refine Tk pk.1 pa.1 nak.symm (Ti J kv rk) lk h64 λ out so=>⟨_,rfl,wpAny_pure ⟨_,rfl,?_⟩⟩
      obtain⟨on,oi⟩:=W6 hi so
      have u5:=Heap.SameBut.update s'.heap (s.heap.objs.size + 2) (Obj.mapSeq λ _=>(#[]:Array Value))
      have oa:(s'.heap.update (s.heap.objs.size + 2) (Obj.mapSeq λ _=>(#[]:Array Value))).get? (s.heap.objs.size)=some (seqObj "list" #[] e1):=(u5.2 _ nak).trans pa.1
      have u6:=Heap.SameBut.update (s'.heap.update (s.heap.objs.size + 2) (Obj.mapSeq λ _=>(#[]:Array Value))) (s.heap.objs.size) (Obj.mapSeq λ _=>out.toArray)
      obtain⟨c6,hc6⟩:∃ c6,((s'.heap.update (s.heap.objs.size + 2) (Obj.mapSeq λ _=>(#[]:Array Value))).update (s.heap.objs.size) (Obj.mapSeq λ _=>out.toArray)).get? (s.heap.objs.size)=some (seqObj "list" out.toArray c6):=⟨_,get?_update_seq oa λ _=>out.toArray⟩
      have J3:Inv X ((s.heap.objs.size + 2,seqObj "list" kA e) :: pins) σ H' s':=J.pins_of λ p hp=>J.pin p (List.mem_append_right _ (List.mem_cons_of_mem _ hp))
      have J4:Inv X pins σ H' { s' with heap:=s'.heap.update (s.heap.objs.size + 2) (Obj.mapSeq λ _=>(#[]:Array Value)) }:=J3.turn1 (t':=s'.toks) (fk H' pk.2.1) u5
      have J5:Inv X pins σ H' { s' with heap:=(s'.heap.update (s.heap.objs.size + 2) (Obj.mapSeq λ _=>(#[]:Array Value))).update (s.heap.objs.size) (Obj.mapSeq λ _=>out.toArray) }:=(J4.repin (fa H' pa.2.1) oa (λ v z=>by cases z)).turn1 (t':=s'.toks) (fa H' pa.2.1) u6
      have lo:out.length < 64:=by
        obtain⟨zs,pm,rfl,_⟩:=so
        have:=pm.length_eq
        simp at this ⊢;omega
      have J6:=J5.adopt (o:=.lst ((out.map FC).map V.int)) (fa H' pa.2.1) (I.sz) ⟨by simp[sizeLine_eq];omega,out,c6,JD oi,hc6⟩
      exact⟨.ref _,_,J6,rfl,fin _ _ pa.2.1 on⟩
  exact goal _ sz3
end
end L2
namespace L2
open PySem PySem.Spec PyProof.Rows PySem.W
noncomputable def Src(K:PySem.W.Frag)(H:Hp)(a:Addr)(ns:List Int):Prop:=SqT K H a (ns.map V.int) ∨ ∃ n:Nat,n < 64/\H a=some (.rng 0 n)/\ns=(List.range n).map λ k:Nat=>(k:Int)
noncomputable def LG(K:PySem.W.Frag)(P:Addr)(q:Str)(pos:Pos)(ix:List Nat)(te tb:TE):TE:=λ σ H Q=>te σ H λ v H1=>∃ (a:Addr) (ns:List Int) (ps:Array Value),v=.ref a/\Src K H1 a ns/\ns.length < 64/\H1 P=some (.tbl ps)/\GB H1 q pos ps /\
  ∀ H2 c,TabStep P q pos H1 H2->H2 c=some (.ext (cdF c q))->IQ (λ H=>H c=some (.ext (cdF c q))) tb (ix.map λ i=>(σ[i]?).join) ns H2 λ ks H3=>∃ kz,IX K H3 ks kz/\∀ p ms,H3 p=none->J8 kz ns ms->Q (.ref p) (upd H3 p (.lst (ms.map V.int)))
theorem TabStep.rd{P:Addr}{q:Str}{pos:Pos}{H H':Hp}{ps:Array Value}(t:TabStep P q pos H H')(hP:H P=some (.tbl ps)){a:Addr}{xs:List V}(r:Rd H a (.tup xs)):Rd H' a (.tup xs):=by
  rcases t with rfl|⟨c,hc,_,rfl⟩
  . exact r
  . have ne:∀ u,H a=some u->(∀ ps,u ≠ .tbl ps)->upd (upd H P (.tbl #[rawInt pos.line,rawInt pos.col,.ref c])) c (.ext (cdF c q)) a=some u:=λ u e n=>by
      rw[AF (Af e hc),AF (λ z=>by subst z;rw[hP]at e;cases e;exact n _ rfl)];exact e
    rcases r with r|⟨o,r⟩
    . exact .inl (ne _ r λ ps z=>by cases z)
    . exact .inr ⟨o,ne _ r λ ps z=>by cases z⟩
theorem TabStep.sqt{K:PySem.W.Frag}{P:Addr}{q:Str}{pos:Pos}{H H':Hp}{ps:Array Value}(t:TabStep P q pos H H')(hP:H P=some (.tbl ps)){a:Addr}{xs:List V}(r:SqT K H a xs):SqT K H' a xs:=by
  rcases r with r|r
  . exact .inl (t.rd hP r)
  . exact .inr r
theorem TabStep.src{K:PySem.W.Frag}{P:Addr}{q:Str}{pos:Pos}{H H':Hp}{ps:Array Value}(t:TabStep P q pos H H')(hP:H P=some (.tbl ps)){a:Addr}{ns:List Int}(r:Src K H a ns):Src K H' a ns:=by
  rcases r with r|⟨n,h,e,z⟩
  . exact .inl (t.sqt hP r)
  . refine .inr ⟨n,h,?_,z⟩
    rcases t with rfl|⟨c,hc,_,rfl⟩
    . exact e
    . rw[AF (Af e hc),AF (λ z=>by subst z;rw[hP]at e;cases e)];exact e
theorem OE{n:Nat}{acc:Array Value}(it:ItemsOf (λ i v=>∃ t,v=.int (0 + i * 1) t) acc n):IntsAre acc.toList ((List.range n).map λ k:Nat=>(k:Int)):=by
  have:=Ji (lo:=0) it
  have e:CO 0 n=((List.range n).map λ k:Nat=>(k:Int)).map V.int:=by
    have:∀ (lo:Nat) (n:Nat),CO (lo:Int) n=((List.range' lo n).map λ k:Nat=>(k:Int)).map V.int:=by
      intro lo n
      induction n generalizing lo with
      | zero=>rfl
      | succ n ih=>rw[CO,List.range'_succ];simp only[List.map_cons];rw[<- ih (lo + 1)];rfl
    rw[List.range_eq_range']
    exact this 0 n
  rw[e]at this
  exact G8 rfl this
section
variable{X:Cx}{c P:Addr}{scope:Scope}{fr:List Str}{ix:List Nat}{prm:Str}{params:Arguments}{body e:Expr}{p pos lpos kpos:Pos}{te tb:TE}
theorem Qz(LA:LamAt X c P)(S:CSc X scope fr ix)(L:LSc scope prm)(hr:Room 3 X.A)(hcm:X.calm=true)(hg:Gl X "sorted")(hm:X.mg "sorted"=none)
    (hbind:∀ (cl:List (Str × Addr)) (pm cd ctv us:Value),bindArgs (kla_fn "<lambda>" (X.env.qual ++ "<lambda>") params body scope cl pm cd ctv) ⟨[us],[]⟩=pure [(prm,us)])
    (he:PE X e te) (hb:∀ (f:Addr) (cd:Value) (s:Shared) (H:Hp),PE (lCx X X.A.in1.in1 (prm :: fr) (X.env.qual ++ "<lambda>") scope f cd (Am X.env.cells scope.names []) s H) body tb)
    (hdef:defaultsOf params X.env=([],[]):=by rfl) (hs:starEach [e] X.env=[(false,eval e X.env)]:=by rfl) :
    PE X (.Call (.Name "sorted" p) [e] [⟨some "key",.Lambda params body scope lpos,kpos⟩] pos) (LG X.K P (X.env.qual ++ "<lambda>") lpos ix te tb):=by
  intro pins s σ H Q I h
  have PAe:PA X [e] (BZ te C8):=CJ he Cq hs
  refine wpAny_Call_Name_kw (Ds (u:=.builtin "sorted") I hg hm GA ?_)
  have pl:(backTo pos (starEach [e] X.env)).any (·.1)=false:=by rw[hs];rfl
  refine callWith_builtin_kwB pl rfl (evalArgs_kw2 (env:=X.env) (e:=e) (rest:=[]) (kws:=[⟨some "key",.Lambda params body scope lpos,kpos⟩]) rfl (thn (PAe pos pins s σ H (λ vs H1=>match vs with
    | [v]=>∃ (a:Addr) (ns:List Int) (ps:Array Value),v=.ref a/\Src X.K H1 a ns/\ns.length < 64/\H1 P=some (.tbl ps)/\GB H1 (X.env.qual ++ "<lambda>") lpos ps /\
        ∀ H2 c,TabStep P (X.env.qual ++ "<lambda>") lpos H1 H2->H2 c=some (.ext (cdF c (X.env.qual ++ "<lambda>")))->IQ (λ H=>H c=some (.ext (cdF c (X.env.qual ++ "<lambda>")))) tb (ix.map λ i=>(σ[i]?).join) ns H2 λ ks H3=>∃ kz,IX X.K H3 ks kz/\∀ p ms,H3 p=none->J8 kz ns ms->Q (.ref p) (upd H3 p (.lst (ms.map V.int)))
    | _=>False) I h) λ us s1 hq=>?_) hs)
  obtain⟨vs,H1,I1,r,q⟩:=hq
  match vs,q with
  | [v],q=>
  obtain⟨a,ns,ps,rfl,sq,h64,hP,hg1,go⟩:=q
  obtain⟨u,rfl,ru⟩:=Cd r
  cases ru
  show wpAny _ _ (evalAll [(do let v <- eval (.Lambda params body scope lpos) X.env;standAt pos;pure v)]) _ _ s1
  refine wpAny_evalAll_cons (wpAny_bind (Lx S LA I1 hdef hP hg1 λ f cd ctv H2 s2 I2 M=>wpAny_bind (wpAny_standAt (wpAny_pure (wpAny_evalAll_nil ?_)))))
  show wpAny _ _ (call (.builtin "sorted") [.ref a] [(Str.ofString "key",.ref f)]) _ _ s2
  have sq2:=M.step.src hP sq
  obtain⟨c',rfl,hc'⟩:=M.cdc
  have ff:FpOk X pins H2 f:=I1.fpOk M.new M.fre
  have I3:=I2.repin ff M.fn (λ v z=>by cases z)
  refine wpAny_mono (Nf (pins:=(f,_) :: pins) I3 h64 (λ Q E hq=>?_) (λ pins' H' s' n u Q1 sub J ru hG hq=>?_) (go H2 c' M.step hc')) (λ v s' hv=>?_) λ _ _ z=>z
  . rcases sq2 with sq2|⟨n,hn,er,rfl⟩
    . obtain⟨its,rv,tp,_⟩:=I2.tuple sq2
      have hi:IntsAre its ns:=G8 rfl rv
      have hlen:its.length <= sizeLine:=by have:=hi.length;rw[sizeLine_eq];omega
      refine Id tp (hq _ s2.toks its (λ b o q=>?_) hi) hlen
      have hlt:b < s2.heap.objs.size:=Heap.lt_size q
      rw[Heap.get?_update_ne _ _ _ _ (Nat.ne_of_lt hlt),Heap.get?_push_ne _ _ _ (Nat.ne_of_lt hlt)]
      exact q
    . obtain⟨t,u,v,hr'⟩:∃ t u v,s2.heap.get? a=some { cls:=.type "range",data:=.fields #[.int 0 t,.int n u,.int 1 v] }:=I2.hok a _ er
      refine Md (n:=n) (I2.ok.hd hcm) hr' (small_one (by omega) (by omega) (by omega) (by omega)) (by rw[Rq];omega) (by omega) λ g tk acc kp it=>hq g tk _ kp (OE it)
  . have pf:=J.pin (f,_) (List.mem_append_right _ (sub _ List.mem_cons_self))
    exact Ly (A:=X.A.in1.in1) (f:=f) S L J rfl hr.in1.in1 pf.1 (J.hok c' _ hG).1 (λ us=>hbind _ _ _ _ us) (λ s H=>hb f _ s H) ru hq
  . obtain⟨y,H',J,ry,qy⟩:=hv
    exact⟨y,H',J.pins_of λ p hp=>J.pin p (List.mem_append_right _ (List.mem_cons_of_mem _ hp)),ry,qy⟩
end
end L2
namespace L2
open PySem PySem.Spec PyProof.Rows PySem.W
noncomputable def IW(K:PySem.W.Frag)(P:Addr)(q:Str)(pos:Pos):Prop:=∃ p':Pos,(P,q,p') ∈ Ed K/\((Ed K).map (·.1)).Nodup/\p'.line=pos.line/\p'.col=pos.col
open Classical in
noncomputable def FK(ds:List D):Option (List Int):=match BO ds with
  | some ns=>some ns
  | none=>match ED ds with
    | some ps=>if ∀ p ∈ ps,pok p then some (ps.map Ai)else none
    | none=>none
open Classical in
noncomputable def FY(mb:ME)(cap:Ls)(hd:Hd):List Int->Option (List D)
  | []=>some []
  | n :: r=>match mb (some (.im (.int n)) :: cap) hd with
    | some (k,h)=>match FY mb cap hd r with
      | some ks=>if h=hd then some (k :: ks)else none
      | none=>none
    | none=>none
theorem KY{mb:ME}{cap:Ls}{hd:Hd}:∀ {ns:List Int} {ks:List D},FY mb cap hd ns=some ks->ks.length=ns.length
  | [],ks,e=>by cases e;rfl
  | n :: r,ks,e=>by
    unfold FY at e
    split at e
    . split at e
      . next ks' e2=>
        split at e
        . cases e;simp[KY e2]
        . cases e
      . cases e
    . cases e
theorem OB{ds:List D}{kz:List Int}(e:FK ds=some kz):kz.length=ds.length:=by
  unfold FK at e
  split at e
  . next ns e6=>cases e;rw[DN e6];simp
  . split at e
    . next ps e6=>
      split at e
      . cases e;rw[Hf e6];simp
      . cases e
    . cases e
noncomputable def Fy(kz ns:List Int):List Int:=((kz.zip ns).mergeSort λ a b=>decide (a.1 <= b.1)).map (·.2)
theorem RJ{kz ns ms:List Int}(nd:kz.Nodup)(hl:kz.length=ns.length)(o:J8 kz ns ms):ms=Fy kz ns:=by
  obtain⟨zs,pm,pw,rfl⟩:=o
  have pm2:((kz.zip ns).mergeSort λ a b=>decide (a.1 <= b.1)).Perm (kz.zip ns):=List.mergeSort_perm ..
  have pw2:((kz.zip ns).mergeSort λ a b=>decide (a.1 <= b.1)).Pairwise λ a b=>a.1 <= b.1:=by
    have:=List.pairwise_mergeSort (le:=λ a b:Int × Int=>decide (a.1 <= b.1)) (by intro a b c h1 h2;simp at *;omega) (by intro a b;simp;omega) (kz.zip ns)
    exact this.imp (by simp)
  have inj:∀ a ∈ kz.zip ns,∀ b ∈ kz.zip ns,a.1=b.1->a=b:=by
    intro a ha b hb e
    obtain⟨i,hi⟩:=List.mem_iff_getElem?.mp ha
    obtain⟨j,hj⟩:=List.mem_iff_getElem?.mp hb
    obtain⟨i1,i2⟩:=List.getElem?_zip_eq_some.mp hi
    obtain⟨j1,j2⟩:=List.getElem?_zip_eq_some.mp hj
    rw[e]at i1
    have:i=j:=(List.getElem?_inj (List.getElem?_eq_some_iff.mp i1).1 nd).mp (i1.trans j1.symm)
    subst this
    rw[i2]at j2
    exact Prod.ext e (Option.some.inj j2)
  have:zs=(kz.zip ns).mergeSort λ a b=>decide (a.1 <= b.1):=
    (pm.trans pm2.symm).eq_of_pairwise (le:=λ a b=>a.1 <= b.1) (λ a b ha hb h1 h2=>inj a (pm.mem_iff.mp ha) b (pm2.mem_iff.mp hb) (Int.le_antisymm h1 h2)) pw pw2
  rw[this];rfl
noncomputable def Kz(m:MA):Ls->Hd->Option (List Int × Hd):=λ ls hd=>(m ls hd).bind λ p=>match p.1 with
  | [.im (.int j)]=>if 0 <= j/\j < 64 then some ((List.range j.toNat).map λ k:Nat=>(k:Int),p.2)else none
  | _=>none
open Classical in
noncomputable def GX(src:Ls->Hd->Option (List Int × Hd))(ix:List Nat)(mb:ME):MA:=λ ls hd=>(src ls hd).bind λ p=>(FY mb (ix.map λ i=>(ls[i]?).join) p.2 p.1).bind λ ks=>(FK ks).bind λ kz=>
  if p.1.length < 64/\kz.Nodup then some ((Fy kz p.1).map λ i=>.im (.int i),p.2)else none
noncomputable abbrev N8(m:MA)(ix:List Nat)(mb:ME):MA:=GX (Kz m) ix mb
noncomputable def Rl(K:PySem.W.Frag)(te:TE)(src:Ls->Hd->Option (List Int × Hd)):Prop:=∀ (ρ:List Addr) (σ:St) (H:Hp) (hd:Hd) (ls:Ls) (Q:VK) (ns:List Int) (hd':Hd),RH K ρ H hd->RL K ρ H ls σ->src ls hd=some (ns,hd') ->
  (∀ ρ1 H1 a,Ext ρ H ρ1 H1->RH K ρ1 H1 hd'->Src K H1 a ns->Q (.ref a) H1)->te σ H Q
section
variable{K:PySem.W.Frag}{ρ:List Addr}{H:Hp}{hd:Hd}
theorem LD{P:Addr}{q:Str}{pos:Pos}{H2:Hp}{ps:Array Value}(R:RH K ρ H hd)(hP:H P=some (.tbl ps))(t:TabStep P q pos H H2)(TI:IW K P q pos):RH K ρ H2 hd/\Ext ρ H ρ H2:=by
  rcases t with rfl|⟨c,hc,ncP,rfl⟩
  . exact⟨R,.refl⟩
  . obtain⟨p',et,nd,e1,e2⟩:=TI
    have nP:∀ b,b ∈ ρ->b ≠ P:=λ b hb z=>by
      subst z
      rcases R.mut hb with⟨y,w⟩|⟨y,w⟩ <;> (rw[hP]at w;cases w)
    have nc:∀ b u,H b=some u->b ≠ c:=λ b u e=>Af e hc
    have ex:Ext ρ H ρ (upd (upd H P (.tbl #[rawInt pos.line,rawInt pos.col,.ref c])) c (.ext (cdF c q))):=by
      refine⟨⟨[],by simp,by simp⟩,λ b o e nb nt'=>?_,λ b ps e=>?_⟩
      . rw[AF (nc b _ e),AF (λ z=>by subst z;rw[hP]at e;cases e;exact nt' _ rfl)];exact e
      . by_cases z:b=P
        . subst z;exact⟨_,by rw[AF (nc _ _ hP),AR]⟩
        . exact⟨ps,by rw[AF (nc b _ e),AF z];exact e⟩
    refine⟨⟨R.len,R.nd,λ x hx=>?_,λ n o a h1 h2=>?_⟩,ex⟩
    . by_cases hxP:x.1=P
      . have ex:x=(P,q,p'):=by
          obtain⟨i,hi⟩:=List.mem_iff_getElem?.mp hx
          obtain⟨j,hj⟩:=List.mem_iff_getElem?.mp et
          have i1:((Ed K).map (·.1))[i]? = some P:=by rw[List.getElem?_map,hi];simp[hxP]
          have j1:((Ed K).map (·.1))[j]? = some P:=by rw[List.getElem?_map,hj];rfl
          have:i=j:=(List.getElem?_inj (List.getElem?_eq_some_iff.mp i1).1 nd).mp (i1.trans j1.symm)
          subst this
          exact Option.some.inj (hi.symm.trans hj)
        subst ex
        refine⟨#[rawInt pos.line,rawInt pos.col,.ref c],by rw[AF (nc _ _ hP),AR],.inr ⟨c,?_,AR⟩⟩
        show #[rawInt pos.line,rawInt pos.col,Value.ref c]=#[rawInt p'.line,rawInt p'.col,Value.ref c]
        rw[e1,e2]
      . obtain⟨ps',hx1,hG⟩:=R.tabs x hx
        refine⟨ps',by rw[AF (nc _ _ hx1),AF hxP];exact hx1,?_⟩
        rcases hG with g|⟨c',g1,g2⟩
        . exact .inl g
        . exact .inr ⟨c',g1,by rw[AF (nc _ _ g2),AF (λ z=>by subst z;rw[hP]at g2;cases g2)];exact g2⟩
    . obtain⟨ho,q1,q2⟩:=R.ob n o a h1 h2
      exact⟨ho,by rw[AF (nc a _ q1),AF (nP a (List.mem_of_getElem? h2))];exact q1,by simpa using q2.mono (ex.grow R) []⟩
theorem NB{tb:TE}{mb:ME}{ix:List Nat}{q:Str}{c:Addr}(hb:RE K tb mb){ls:Ls}{σ:St}:∀ {ns:List Int} {kds:List D} {ρ:List Addr} {H:Hp} {Q:List V->Hp->Prop},RH K ρ H hd->RL K ρ H ls σ->H c=some (.ext (cdF c q)) ->
    FY mb (ix.map λ i=>(ls[i]?).join) hd ns=some kds->(∀ ρ' H' ks,Ext ρ H ρ' H'->RH K ρ' H' hd->RDs K ρ' H' kds ks->Q ks H')->IQ (λ H=>H c=some (.ext (cdF c q))) tb (ix.map λ i=>(σ[i]?).join) ns H Q
  | [],kds,ρ,H,Q,R,L,hc,e,k=>by
    cases e
    exact k ρ H [] .refl R (by simp[RDs])
  | n :: r,kds,ρ,H,Q,R,L,hc,e,k=>by
    unfold FY at e
    split at e
    . next kd h e1=>
      split at e
      . next ks e2=>
        split at e
        . next eh=>
          cases e
          rw[eh]at e1
          refine⟨hc,hb ρ _ H _ (some (.im (.int n)) :: ix.map λ i=>(ls[i]?).join) _ kd _ R ⟨by simp,λ i d ei=>?_⟩ e1 λ ρ1 H1 v1 x1 R1 r1=>?_⟩
          . cases i with
            | zero=>cases ei;exact⟨.int n,rfl,by simp[RD,RI]⟩
            | succ j=>
              have ei:(ix.map λ i=>(ls[i]?).join)[j]? = some (some d):=ei
              rw[List.getElem?_map]at ei
              cases qj:ix[j]? with
              | none=>rw[qj]at ei;cases ei
              | some m=>
                rw[qj]at ei
                have ei:(ls[m]?).join=some d:=Option.some.inj ei
                have em:ls[m]? = some (some d):=by
                  cases w:ls[m]? with
                  | none=>rw[w]at ei;cases ei
                  | some z=>rw[w]at ei;simpa using ei
                obtain⟨v,ev,rv⟩:=L.ob m d em
                refine⟨v,?_,rv⟩
                show(ix.map λ i=>(σ[i]?).join)[j]? = some (some v)
                rw[List.getElem?_map,qj]
                simp[ev]
          . have oc:c ∉ ρ:=λ m=>by rcases R.mut m with⟨y,w⟩|⟨y,w⟩ <;> (rw[hc]at w;cases w)
            refine NB hb R1 (L.ext R x1) (x1.keep c _ hc oc nt) e2 λ ρ2 H2 ks2 x2 R2 r2=>?_
            exact k ρ2 H2 (v1 :: ks2) (x1.trans R1 x2) R2 (.cons (r1.ext R1 x2) r2)
        . cases e
      . cases e
    . cases e
theorem SN{t:TA}{m:MA}(h:RA K t m):Rl K (tCB JN t) (Kz m):=by
  intro ρ σ H hd ls Q ns hd' hR hL hm k
  obtain⟨⟨d1,h1⟩,e1,hm⟩:=Option.bind_eq_some_iff.mp hm
  dsimp only at hm
  refine h ρ σ H hd ls _ d1 h1 hR hL e1 λ ρ1 H1 v x1 R1 r1=>?_
  split at hm
  . next j=>
    split at hm
    . next c=>
      cases hm
      simp only[RDs,RD,RI]at r1
      obtain⟨x,r,rfl,rfl,rfl⟩:=r1
      refine .inl ⟨j,rfl,λ p hp=>?_⟩
      obtain⟨R2,x2⟩:=R1.hid (ho:=.rng 0 j) hp
      refine k ρ1 _ p (x1.trans R1 x2) R2 (.inr ⟨j.toNat,by omega,?_,rfl⟩)
      rw[AR,Int.toNat_of_nonneg c.1]
    . cases hm
  . cases hm
theorem QV{te tb:TE}{src:Ls->Hd->Option (List Int × Hd)}{mb:ME}{P:Addr}{q:Str}{pos:Pos}{ix:List Nat}(hi:Rl K te src)(hb:RE K tb mb)(TI:IW K P q pos):RN K (LG K P q pos ix te tb) (GX src ix mb):=by
  intro ρ σ H hd ls Q d hd' hR hL hm hQ
  obtain⟨⟨ns,h1⟩,e1,hm⟩:=Option.bind_eq_some_iff.mp hm
  obtain⟨kds,e4,hm⟩:=Option.bind_eq_some_iff.mp hm
  obtain⟨kz,e5,hm⟩:=Option.bind_eq_some_iff.mp hm
  dsimp only at hm e4
  split at hm
  . next cc=>
    cases hm
    refine hi ρ σ H hd ls _ ns _ hR hL e1 λ ρ1 H1 a x1 R1 sq=>?_
    obtain⟨p',et,_,l1,l2⟩:=id TI
    obtain⟨ps,hP,hG⟩:=R1.tabs (P,q,p') et
    have hG':GB H1 q pos ps:=by
      rcases hG with g|⟨c,g1,g2⟩
      . exact .inl g
      . refine .inr ⟨c,?_,g2⟩
        rw[g1]
        show #[rawInt p'.line,rawInt p'.col,Value.ref c]=_
        rw[l1,l2]
    refine⟨a,ns,ps,rfl,sq,cc.1,hP,hG',λ H2 c step hc=>?_⟩
    obtain⟨R2,x2⟩:=LD R1 hP step TI
    have x12:=x1.trans R1 x2
    refine NB hb R2 (hL.ext hR x12) hc e4 λ ρ3 H3 ks x3 R3 r3=>?_
    have x13:=x12.trans R2 x3
    refine⟨kz,?_,λ p ms hp out=>?_⟩
    . unfold FK at e5
      split at e5
      . next ns' e6=>
        cases e5
        rw[DN e6]at r3
        exact .inl r3.ints
      . split at e5
        . next ps' e6=>
          split at e5
          . next ok=>
            cases e5
            rw[Hf e6]at r3
            refine .inr ⟨ps',rfl,ok,by have:=r3.len;simp at this;omega,λ i k p ek ep=>?_⟩
            obtain⟨w,ew,rw_⟩:=r3.get (i:=i) (d:=BU p) (by rw[List.getElem?_map,ep];rfl)
            rw[ek]at ew
            cases ew
            exact Mu rw_
          . cases e5
        . cases e5
    . have lz:kz.length=ns.length:=by
        rw[OB e5,KY e4]
      have:=RJ cc.2 lz out
      subst this
      obtain⟨R4,x4⟩:=R3.hid (ho:=.lst ((Fy kz ns).map V.int)) hp
      exact hQ ρ3 _ p _ (x13.trans R3 x4) R4 (x13.none hR hp R3) (R3.out hp) AR EZ
  . cases hm
end
end L2
namespace L2
open PySem PySem.Spec PyProof.Rows PySem.W
structure LamC(K:PySem.W.Frag)(mg:Str->Option Value)(base:Heap)(fd:FuncData)(c P:Addr)(q:Str)(pos:Pos):Prop where
  code:fd.code=.ref c
  hd:CodeHd base c P
  bl:base.BuiltinsAt mg P
  ti:IW K P q pos
structure QSrc(K:PySem.W.Frag)(X:Cx)(e:Expr)(te:TE)(src:Ls->Hd->Option (List Int × Hd)):Prop where
  p:PE X e te
  r:Rl K te src
theorem Qk(K:PySem.W.Frag){X:Cx}{a:Expr}{t:TA}{m:MA}{p2 pos2:Pos}(hm2:X.mg "range"=none)(ha:QA K X [a] t m)(hg2:Gl X "range":=by rfl)(he2:starEach [a] X.env=[(false,eval a X.env)]:=by rfl):QSrc K X (.Call (.Name "range" p2) [a] [] pos2) (tCB JN t) (Kz m):=
  ⟨EY (call_rng1.or Ke) hg2 hm2 boot_range ha.p (by decide) (by decide) he2 rfl,SN ha.r⟩
theorem Ql(K:PySem.W.Frag){src:Ls->Hd->Option (List Int × Hd)}{X:Cx}{c P:Addr}{scope:Scope}{fr:List Str}{ix:List Nat}{prm:Str}{params:Arguments}{body e:Expr}{p pos lpos kpos:Pos}{te tb:TE}{mb:ME}{k:Nat}(LA:LamAt X c P)(TI:IW K P (X.env.qual ++ "<lambda>") lpos)(S:CSc X scope fr ix)(L:LSc scope prm)(hr:Room k X.A)(h3:3 <= k)(hm:X.mg "sorted"=none)
    (he:QSrc K X e te src) (hb:∀ (f:Addr) (cd:Value) (s:Shared) (H:Hp),QE K (lCx X X.A.in1.in1 (prm :: fr) (X.env.qual ++ "<lambda>") scope f cd (Am X.env.cells scope.names []) s H) body tb mb)
    (hbind:∀ (cl:List (Str × Addr)) (pm cd ctv us:Value),bindArgs (kla_fn "<lambda>" (X.env.qual ++ "<lambda>") params body scope cl pm cd ctv) ⟨[us],[]⟩=pure [(prm,us)])
    (hcm:X.calm=true:=by rfl) (hg:Gl X "sorted":=by rfl) (hdef:defaultsOf params X.env=([],[]):=by rfl) (hs:starEach [e] X.env=[(false,eval e X.env)]:=by rfl) (hK:X.K=K:=by rfl) :
    QN K X (.Call (.Name "sorted" p) [e] [⟨some "key",.Lambda params body scope lpos,kpos⟩] pos) (LG K P (X.env.qual ++ "<lambda>") lpos ix te tb) (GX src ix mb):=by
  subst hK
  exact⟨Qz LA S L (hr.mono h3) hcm hg hm hbind he.p (λ f cd s H=>(hb f cd s H).p) hdef hs,QV he.r (hb 0 .none X.s₀ X.H₀).r TI⟩
theorem Ll{P:Program}{w:World}{K:PySem.W.Frag}{mg:Str->Option Value}{base:Heap}{x:Str}{st:Stmt}{f:Addr}{fd:FuncData}{N ps:List Str}{j:Nat}{m:MS}(DA:DefAt K mg x st f fd ps)(S:FnScope N ps (A9 st))
    (h:∀ (cdv:Value) (A:Around) (outer:List Env) (s:Shared) (H:Hp) (E:XK),fd.code=cdv->Room j (A.deeper (envOfC x (A9 st) s.heap.objs.size f cdv))->∃ t,QSs K (Ht CX0 P w K mg base N x (A9 st) f cdv A outer s H E).nox (AV st) t m) :
    FnOk P w K mg base CX0 (j + 1) f fd ps (spF K ps.length (mkF ps.length N.length m)):=by
  obtain⟨F,hmg,bd⟩:=DA
  obtain⟨⟨oc,od,kV,doc,pm,an,cdv,ct,osl,rfl,lk,hcd⟩,kp⟩:=F
  refine SA lk hcd S (λ vs H Q E h=>h.1) λ A outer s H vs Q E hr hs=>?_
  obtain⟨t,q⟩:=h cdv A outer s H E rfl hr
  exact⟨t,q.p.nox,Mp q.r hs⟩
theorem Nh(g:Int->Int)(ns:List Int):(Fy (ns.map g) ns).Perm ns/\(Fy (ns.map g) ns).Pairwise λ a b=>g a <= g b:=by
  have pm:(((ns.map g).zip ns).mergeSort λ a b=>decide (a.1 <= b.1)).Perm ((ns.map g).zip ns):=List.mergeSort_perm ..
  have pw:(((ns.map g).zip ns).mergeSort λ a b=>decide (a.1 <= b.1)).Pairwise λ a b=>a.1 <= b.1:=by
    have:=List.pairwise_mergeSort (le:=λ a b:Int × Int=>decide (a.1 <= b.1)) (by intro a b c h1 h2;simp at *;omega) (by intro a b;simp;omega) ((ns.map g).zip ns)
    exact this.imp (by simp)
  have ez:(ns.map g).zip ns=ns.map λ n=>(g n,n):=by
    clear pm pw
    induction ns with
    | nil=>rfl
    | cons n r ih=>simp[ih]
  have el:∀ a ∈ (((ns.map g).zip ns).mergeSort λ a b=>decide (a.1 <= b.1)),a.1=g a.2:=λ a ha=>by
    have:=pm.mem_iff.mp ha
    rw[ez]at this
    obtain⟨n,_,rfl⟩:=List.mem_map.mp this
    rfl
  refine⟨?_,?_⟩
  . have:=pm.map (·.2)
    unfold Fy
    refine this.trans ?_
    rw[ez,List.map_map]
    have:((λ x:Int × Int=>x.2) ∘ λ n=>(g n,n))=id:=rfl
    rw[this,List.map_id]
  . unfold Fy
    rw[List.pairwise_map]
    exact pw.imp_of_mem λ {a b} ha hb h=>by rw[<- el a ha,<- el b hb];exact h
theorem KW{mb:ME}{cap:Ls}{hd:Hd}(kf:Int->D):∀ {ns:List Int},(∀ n ∈ ns,mb (some (.im (.int n)) :: cap) hd=some (kf n,hd))->FY mb cap hd ns=some (ns.map kf)
  | [],_=>rfl
  | n :: r,h=>by
    unfold FY
    rw[h n List.mem_cons_self,KW kf λ m hm=>h m (List.mem_cons_of_mem _ hm)]
    simp
theorem M0{ps:List (Int × Int)}(hne:ps ≠ [])(hok:∀ p ∈ ps,pok p):FK (ps.map BU)=some (ps.map Ai):=by
  unfold FK
  have:BO (ps.map BU)=none:=by
    cases ps with
    | nil=>exact absurd rfl hne
    | cons p r=>rfl
  rw[this,JQ]
  simp only[if_pos hok]
theorem PJ{g:Int->Int}{ns:List Int}(nd:ns.Nodup)(h:∀ a ∈ ns,∀ b ∈ ns,g a=g b->a=b):(ns.map g).Nodup:=by
  rw[List.nodup_iff_pairwise_ne,List.pairwise_map]
  exact(List.nodup_iff_pairwise_ne.mp nd).imp_of_mem λ {a b} ha hb hne e=>hne (h a ha b hb e)
theorem Py{src:Ls->Hd->Option (List Int × Hd)}{mb:ME}{ix:List Nat}{ls:Ls}{hd:Hd}{QA:List D->Hd->Prop}(h:∃ ns x,src ls hd=some (ns,x)/\∃ (kf:Int->Int × Int),ns.length < 64/\ns.Nodup/\(∀ n ∈ ns,pok (kf n))/\(∀ a ∈ ns,∀ b ∈ ns,Ai (kf a)=Ai (kf b)->a=b) /\
      (∀ n ∈ ns,mb (some (.im (.int n)) :: ix.map λ i=>(ls[i]?).join) x=some (BU (kf n),x))/\∀ ms:List Int,ms.Perm ns->ms.Pairwise (λ a b=>Ai (kf a) <= Ai (kf b))->QA (ms.map λ n=>.im (.int n)) x):WA (GX src ix mb) ls hd QA:=by
  obtain⟨ns,x,e,kf,h64,nd,ok,inj,ek,q⟩:=h
  have e2:=KW (λ n=>BU (kf n)) ek
  by_cases hne:ns=[]
  . subst hne
    refine⟨[],x,?_,q [] (.refl _) .nil⟩
    simp[GX,e,BO,FY,FK,Fy]
  . have e3:FK (ns.map λ n=>BU (kf n))=some (ns.map λ n=>Ai (kf n)):=by
      have:=M0 (ps:=ns.map kf) (by simpa using hne) (by simpa using ok)
      rw[List.map_map,List.map_map]at this
      exact this
    have sp:=Nh (λ n=>Ai (kf n)) ns
    refine⟨_,x,?_,q _ sp.1 sp.2⟩
    simp only[GX,e,Option.bind_some,e2,e3,h64,PJ nd inj,and_self,if_true]
theorem Oc{m:MA}{mb:ME}{ix:List Nat}{ls:Ls}{hd:Hd}{QA:List D->Hd->Prop}(h:WA m ls hd λ ds x=>∃ n:Nat,ds=[.im (.int (n:Int))]/\n < 64/\∃ (kf:Int->Int × Int),(∀ k,k < n->pok (kf k))/\(∀ a,a < n->∀ b,b < n->Ai (kf a)=Ai (kf b)->a=b) /\
      (∀ k:Nat,k < n->mb (some (.im (.int k)) :: ix.map λ i=>(ls[i]?).join) x=some (BU (kf k),x))/\∀ ms:List Int,ms.Perm ((List.range n).map λ k:Nat=>(k:Int))->ms.Pairwise (λ a b=>Ai (kf a) <= Ai (kf b))->QA (ms.map λ n=>.im (.int n)) x):WA (N8 m ix mb) ls hd QA:=by
  obtain⟨ds,x,e,n,rfl,hn,kf,ok,inj,ek,q⟩:=h
  have mem:∀ z ∈ (List.range n).map λ k:Nat=>(k:Int),∃ k:Nat,k < n/\z=k:=λ z hz=>by
    obtain⟨k,hk,rfl⟩:=List.mem_map.mp hz
    exact⟨k,by simpa using hk,rfl⟩
  refine Py ⟨(List.range n).map λ k:Nat=>(k:Int),x,?_,kf,by simpa using hn,?_,λ z hz=>?_,λ y hy z hz=>?_,λ z hz=>?_,q⟩
  . have c:(0:Int) <= n/\(n:Int) < 64:=by omega
    simp only[Kz,e,Option.bind_some,if_pos c,Int.toNat_natCast]
  . rw[List.nodup_iff_pairwise_ne,List.pairwise_map]
    exact(List.nodup_iff_pairwise_ne.mp List.nodup_range).imp λ h=>by omega
  . obtain⟨k,hk,rfl⟩:=mem z hz;exact ok k hk
  . obtain⟨k,hk,rfl⟩:=mem y hy
    obtain⟨l,hl,rfl⟩:=mem z hz
    intro e
    rw[inj k hk l hl e]
  . obtain⟨k,hk,rfl⟩:=mem z hz;exact ek k hk
end L2
namespace HT
open PySem PyProof.Rows
theorem noFill_tuple_mul:fillsNumberSlot (.type "tuple") "mul"=pure false:=
  PySem.fillsNumberSlot_seq (id:="tuple.__mul__") (r:=some (.builtin "tuple.__rmul__")) F.slot_tuple_mul.lookup (by decide +kernel) F.slot_tuple_rmul.lookup (by decide +kernel)
theorem repeat_tuple:seqRepeat? (.type "tuple")=pure (some (.builtin "tuple.__mul__")):=by
  unfold seqRepeat?
  rw[PySem.seqSlot_of (T:="tuple") (name:="__mul__") (id:="tuple.__mul__") F.slot_tuple_mul.lookup (by decide +kernel),PySem.seqSlot_of (T:="tuple") (name:="__rmul__") (id:="tuple.__rmul__") F.slot_tuple_rmul.lookup (by decide +kernel)]
  rfl
theorem int_rmul_tuple(a:Int)(t:Tok)(l:Addr)(items:Array Value)(n:Nat)(dd:Option Addr)(sl:Array (Option Value)) :
    Meets (Builtin.«int.__rmul__» ⟨[.int a t,.ref l],[]⟩) (λ _ R s=>s.heap.get? l=some { cls:=.type "tuple",dict:=dd,data:=.seq items n,slots:=sl }/\R (.ok (.ret Value.notImplemented)) s):=
  .of_wp λ prog w A R s h=>by obtain⟨hp,g,d,tk,os⟩:=s;obtain⟨hl,h⟩:=h;wp_walk;exact⟨_,rfl,h⟩
theorem tuple_mul(l:Addr)(items:Array Value)(n:Nat)(dd:Option Addr)(sl:Array (Option Value))(k:Int)(t:Tok)(h0:items.isEmpty=false)(hk:0 <= k/\k <= 1000)(hs:items.size * k.toNat <= 100000) :
    Meets (Builtin.«tuple.__mul__» ⟨[.ref l,.int k t],[]⟩) (λ _ R s=>s.heap.get? l=some { cls:=.type "tuple",dict:=dd,data:=.seq items n,slots:=sl }/\(k=1->R (.ok (.ret (.ref l))) s)/\(k ≠ 1->R (.ok (.ret (.ref s.heap.objs.size))) { s with heap:=s.heap.push { cls:=.type "tuple",data:=.seq ((List.replicate k.toNat items).foldl (· ++ ·) #[]) } })):=
  .of_wp λ prog w A R s h=>by
    obtain⟨hp,g,d,tk,os⟩:=s
    obtain⟨hl,h1,h2⟩:=h
    have f1:=AutoSeq1.idx_int;have f2:=AutoSeq1.sub_tuple_tuple
    wp_walk using wpAny_loadPart' hl
    have c1:¬ (decide (k < -2 ^ 63) || decide (k >= 2 ^ 63))=true:=by simp;omega
    rw[if_neg c1]
    wp_walk using wpAny_loadPart' hl
    by_cases k1:k=1
    . rw[if_pos (by simp[k1])]
      wp_walk using wpAny_loadPart' hl
      exact⟨_,rfl,h1 k1⟩
    . rw[if_neg (by simp[h0,k1])]
      have h2:=h2 k1
      by_cases k0:k=0
      . rw[if_pos (by simp[k0])]
        wp_walk using wpAny_loadPart' hl
        subst k0
        exact⟨_,rfl,h2⟩
      . have c2:¬ ((items.size:Int) * k > (2 ^ 63 - 1) / 8):=by
          have e:(items.size:Int) * k=((items.size * k.toNat:Nat):Int):=by rw[Int.natCast_mul,Int.toNat_of_nonneg hk.1]
          rw[e];omega
        have c3:¬ Builtin.Tuple.tupleTooMany ((items.size:Int) * k)=true:=by
          have e:(items.size:Int) * k=((items.size * k.toNat:Nat):Int):=by rw[Int.natCast_mul,Int.toNat_of_nonneg hk.1]
          unfold Builtin.Tuple.tupleTooMany
          rw[e,sizeLine_eq,decide_eq_true_eq];omega
        rw[if_neg (by simp[h0];omega)]
        dsimp only
        rw[if_neg c2,if_neg c3]
        have hz:(List.foldl (λ x1 x2=>x1 ++ x2) #[] (List.replicate k.toNat items)).size <= sizeLine:=by
          have:∀ (m:Nat) (a:Array Value),(List.foldl (λ x1 x2=>x1 ++ x2) a (List.replicate m items)).size=a.size + items.size * m:=by
            intro m
            induction m with
            | zero=>intro a;simp
            | succ m ih=>intro a;rw[List.replicate_succ,List.foldl_cons,ih,Array.size_append,Nat.mul_succ];omega
          rw[this,sizeLine_eq];simp;omega
        unfold Builtin.Tuple.tupleExact
        refine wpAny_bind (wpAny_newObj_type ?_ hz)
        exact wpAny_pure ⟨_,rfl,h2⟩
end HT
namespace L2
open PySem PySem.Spec PyProof.Rows
section
variable{X:Cx}
noncomputable def Nw(K:PySem.W.Frag):R2:=λ x y H Q=>∃ l k xs,x=.ref l/\y=.int k/\SqT K H l xs/\xs ≠ []/\(0 <= k/\k <= 1000)/\xs.length * k.toNat <= 100000/\(k=1->Q (.ref l) H) /\
  (k ≠ 1->∀ p,H p=none->Q (.ref p) (upd H p (.tup (List.replicate k.toNat xs).flatten)))
theorem TW(K:PySem.W.Frag)(hK:X.K=K:=by rfl):OpR X (binaryOp .Mult) (Nw K):=by
  subst hK
  intro pins s σ H x y v u Q I rx ry h
  obtain⟨l,k,xs,rfl,rfl,hH,hne,hk,hz,q1,q2⟩:=h
  cases rx
  obtain⟨t,rfl⟩:=ry
  obtain⟨its,r,p,_⟩:=I.tuple hH
  obtain⟨⟨cls,dd,data,sl⟩,ho,hc,n,hd⟩:=id p
  simp only at hc hd
  subst hc hd
  have ht:s.TypeIs (.ref l) "tuple":=⟨_,ho,rfl⟩
  have hn:its ≠ []:=λ z=>hne (r.nil_iff.mp z)
  have hl:its.length=xs.length:=r.length.symm
  refine wpAny_binaryOp_repeat_ref (T:="tuple") (U:="int") (by decide) ht (λ s'=>typeIs_int s' k t) HT.noFill_tuple_mul F.fills_int_mul F.slot_int_rmul HT.repeat_tuple F.slot_int_index.lookup
    (call_meets F.slot_int_rmul (typeIs_int s k t) F.entry_int_rmul (F.args_int_rmul_2 _ _) (HT.int_rmul_tuple k t l its.toArray n dd sl)
      ⟨ho,rfl,ht,call_meets F.slot_tuple_mul ht F.entry_tuple_mul (F.args_tuple_mul_2 _ _) (HT.tuple_mul l its.toArray n dd sl k t (by cases its with|nil=>exact absurd rfl hn|cons a r=>rfl) hk (by rw[List.size_toArray,hl];exact hz)) ⟨ho,λ e=>?_,λ e=>?_⟩⟩)
  . exact⟨.ref l,H,I,rfl,q1 e⟩
  . have f0:=Kb its k.toNat []
    rw[List.nil_append]at f0
    rw[f0]
    refine⟨.ref s.heap.objs.size,_,I.laid (t':=s.toks) (o:=.tup (List.replicate k.toNat xs).flatten) (λ b ob q=>Heap.get?_push_of_some _ q) (Nat.le_refl _) ?_,rfl,q2 e _ (I.hok.fresh (Nat.le_refl _))⟩
    exact⟨by rw[Tf,sizeLine_eq,Nat.mul_comm];omega,_,r.rep k.toNat,IsTup.new _ _⟩
end
section
variable{K:PySem.W.Frag}
noncomputable def Ja(ma mb:ME):ME:=λ ls hd=>(ma ls hd).bind λ p=>(mb ls p.2).bind λ q=>match p.1,q.1 with
  | .im (.tup is),.im (.int k)=>if is ≠ []/\(0 <= k/\k <= 1000)/\is.length * k.toNat <= 100000 then some (.im (.tup (List.replicate k.toNat is).flatten),q.2)else none
  | _,_=>none
theorem Se{ta tb:TE}{ma mb:ME}(ha:RE K ta ma)(hb:RE K tb mb):RE K (tOp (Nw K) ta tb) (Ja ma mb):=by
  intro ρ σ H hd ls Q d hd' hR hL hm hQ
  obtain⟨⟨d1,h1⟩,e1,hm⟩:=Option.bind_eq_some_iff.mp hm
  obtain⟨⟨d2,h2⟩,e2,hm⟩:=Option.bind_eq_some_iff.mp hm
  dsimp only at hm
  split at hm
  . next is k _=>
    split at hm
    . next c=>
      cases hm
      refine ha ρ σ H hd ls _ _ h1 hR hL e1 λ ρ1 H1 v1 x1 R1 r1=>?_
      refine hb ρ1 σ H1 h1 ls _ _ _ R1 (hL.ext hR x1) e2 λ ρ2 H2 v2 x2 R2 r2=>?_
      simp only[RD,RI]at r2
      subst r2
      have r1:=r1.ext R1 x2
      obtain⟨a,xs,rfl,sq,rs⟩:=r1.tup (ds:=is.map D.im) rfl
      have hl:xs.length=is.length:=by have:=rs.len;simpa using this
      refine⟨a,k,xs,rfl,rfl,sq,λ z=>c.1 (List.length_eq_zero_iff.mp (by rw[<- hl,z];rfl)),c.2.1,by rw[hl];exact c.2.2,λ e=>?_,λ e p hp=>?_⟩
      . subst e
        refine hQ ρ2 H2 _ (x1.trans R1 x2) R2 ?_
        simpa using r1
      . obtain⟨R3,x3⟩:=R2.hid (ho:=.tup (List.replicate k.toNat xs).flatten) hp
        refine hQ ρ2 _ _ ((x1.trans R1 x2).trans R2 x3) R3 ?_
        have e3:D.im (.tup (List.replicate k.toNat is).flatten)=B1 ((List.replicate k.toNat is).flatten.map D.im):=(DG _).symm
        rw[e3]
        refine Cm (SqT.of AR) ?_
        have:=((rs.rep k.toNat).ext R2 x3)
        have e4:(List.replicate k.toNat is).flatten.map D.im=(List.replicate k.toNat (is.map D.im)).flatten:=by rw[List.map_flatten,List.map_replicate]
        rw[e4];exact this
    . cases hm
  . cases hm
theorem Sw(K:PySem.W.Frag){X:Cx}{a b:Expr}{ta tb:TE}{ma mb:ME}{pos:Pos}(ha:QE K X a ta ma)(hb:QE K X b tb mb)(hK:X.K=K:=by rfl):QE K X (.BinOp a .Mult b pos) (tOp (Nw K) ta tb) (Ja ma mb):=⟨O3 (TW K hK) ha.p hb.p,Se ha.r hb.r⟩
theorem SI{ma mb:ME}{ls:Ls}{hd:Hd}{QE:D->Hd->Prop}(h:WE ma ls hd λ d x=>WE mb ls x λ e y=>∃ is k,d=.im (.tup is)/\e=.im (.int k)/\is ≠ []/\(0 <= k/\k <= 1000)/\is.length * k.toNat <= 100000/\QE (.im (.tup (List.replicate k.toNat is).flatten)) y):WE (Ja ma mb) ls hd QE:=by
  obtain⟨d,x,e1,e,y,e2,is,k,rfl,rfl,c1,c2,c3,q⟩:=h
  exact⟨_,_,by simp only[Ja,e1,Option.bind_some,e2];rw[if_pos ⟨c1,c2,c3⟩],q⟩
end
end L2
namespace HT
open PySem PyProof.Rows
open PySem.AutoSeq1 (wpAny_loadPart')
section
variable{prog:Program}{w:World}{A:Around}{E:Value->Shared->Prop}{s:Shared}
theorem JT{it t:Addr}{i:Nat}{items:Array Value}{x:Value}{Q:Value->Shared->Prop}(hit:s.heap.IsTupleIter it t i)(ht:s.heap.IsTuple t items)(hx:items[i]? = some x)
    (hQ:∀ h',h'.IsTupleIter it t (i + 1)->Heap.SameBut it s.heap h'->Q x { s with heap:=h' }):wpAny (model prog w) A (Builtin.SmallTypes.nextOf (.ref it)) Q E s:=by
  obtain⟨o,ho,hc,hd⟩:=id hit
  obtain⟨ol,hol,_,nl,hdl⟩:=ht
  unfold Builtin.SmallTypes.nextOf
  refine wpAny_bind (wpAny_callSpecial?_slot (name:=Str.ofString "__next__") hit.typeIs F.slot_tuple_iterator_next
    (wpAny_call_entry F.slot_tuple_iterator_next hit.typeIs F.entry_tuple_iterator_next ?_ (F.args_tuple_iterator_next_1 _)))
  show wpAny _ _ (field (.ref it) 0 >>= _) _ _ s
  refine wpAny_bind (wpAny_field ho hd (x:=.ref t) rfl ?_)
  show wpAny _ _ (if(Value.ref t == Value.none)=true then _ else _) _ _ s
  rw[if_neg (show ¬ ((Value.ref t == Value.none)=true)from Bool.false_ne_true)]
  show wpAny _ _ (field (.ref it) 1 >>= _) _ _ s
  refine wpAny_bind (wpAny_field ho hd (x:=.int i 0) rfl ?_)
  show wpAny _ _ (seqItems? (.ref t) >>= _) _ _ s
  refine wpAny_bind (wpAny_seqItems hol hdl ?_)
  simp only[Int.toNat_natCast,hx]
  refine wpAny_bind (wpAny_setField ho hd (by simp) (wpAny_pure ⟨x,rfl,wpAny_pure (hQ _ ?_ (Heap.SameBut.update ..))⟩))
  exact⟨_,Heap.get?_update_self _ ho (Obj.isFreed_of_fields (Obj.data_mapFields hd _)),(Obj.cls_mapFields ..).trans hc,by rw[Obj.data_mapFields hd];simp[rawInt]⟩
theorem K5{it t:Addr}{i:Nat}{items:Array Value}{Q:Value->Shared->Prop}(hh:A.handled=none)(hit:s.heap.IsTupleIter it t i)(ht:s.heap.IsTuple t items)(hx:items[i]? = none)
    (hE:∀ h' e,Heap.ExtBut it s.heap h'->(∃ o,h'.get? e=some o/\o.cls=.type "StopIteration")->E (.ref e) { s with heap:=h' }):wpAny (model prog w) A (Builtin.SmallTypes.nextOf (.ref it)) Q E s:=by
  obtain⟨o,ho,hc,hd⟩:=id hit
  obtain⟨ol,hol,_,nl,hdl⟩:=ht
  unfold Builtin.SmallTypes.nextOf
  refine wpAny_bind (wpAny_callSpecial?_slot (name:=Str.ofString "__next__") hit.typeIs F.slot_tuple_iterator_next
    (wpAny_call_entry F.slot_tuple_iterator_next hit.typeIs F.entry_tuple_iterator_next ?_ (F.args_tuple_iterator_next_1 _)))
  show wpAny _ _ (field (.ref it) 0 >>= _) _ _ s
  refine wpAny_bind (wpAny_field ho hd (x:=.ref t) rfl ?_)
  show wpAny _ _ (if(Value.ref t == Value.none)=true then _ else _) _ _ s
  rw[if_neg (show ¬ ((Value.ref t == Value.none)=true)from Bool.false_ne_true)]
  show wpAny _ _ (field (.ref it) 1 >>= _) _ _ s
  refine wpAny_bind (wpAny_field ho hd (x:=.int i 0) rfl ?_)
  show wpAny _ _ (seqItems? (.ref t) >>= _) _ _ s
  refine wpAny_bind (wpAny_seqItems hol hdl ?_)
  simp only[Int.toNat_natCast,hx]
  refine wpAny_bind (wpAny_rule (wpAny_bind (wpAny_setField ho hd (by simp) ?_)))
  show wpAny _ _ (newExc (.type "StopIteration") [] >>= _) _ _ _
  refine wpAny_bind ?_
  simp only[newExc,newTuple]
  refine wpAny_bind (wpAny_newObj_type ?_ (by size_fits))
  refine wpAny_bind (m:=firstArgMember _ _) (wpAny_of_eq (a:=Value.none) (by first|rfl|(simp only[firstArgMember];rfl)) ?_)
  refine wpAny_newObj_type ?_ (by size_fits)
  simp only[raiseNew]
  refine wpAny_bind (wpAny_handled ?_)
  first|rw[show A.in1.handled=none from hh]|rw[hh]
  refine wpAny_bind (wpAny_pure (wpAny_throw ?_))
  exact hE _ _ (((Heap.SameBut.update ..).extBut.push _).push _) ⟨_,Heap.get?_push_size _ rfl,rfl⟩
theorem drawsT(hh:A.handled=none)(it t:Addr)(hne:t ≠ it)(items:Array Value) :
    Draws prog w A it [it,t] items.size (λ i v=>items[i]? = some v) (λ i h=>h.IsTupleIter it t i/\h.IsTuple t items) where
  live:=λ _ _ st=>let ⟨o,ho,_⟩:=st.1;⟨o,ho⟩
  frame:=λ _ _ _ st hk=>⟨let ⟨o,ho,r⟩:=st.1;⟨o,hk it (by simp) o ho,r⟩,let ⟨o,ho,r⟩:=st.2;⟨o,hk t (by simp) o ho,r⟩⟩
  item:=λ i s Q E hi st hQ=>by
    refine JT st.1 st.2 (x:=items[i]) (by simp[hi]) λ h' hit' hs'=>?_
    exact hQ _ h' s.toks (by simp[hi]) ⟨hit',st.2.extBut hs'.extBut hne⟩ hs'
  done:=λ s Q E st hE=>K5 hh st.1 st.2 (by simp) hE
end
theorem Pe(l:Addr)(items:Array Value)(n:Nat)(dct:Option Addr)(sl:Array (Option Value)) :
    Meets (Builtin.«enumerate.__new__» ⟨[.type "enumerate",.ref l],[]⟩) (λ _ R s=>s.heap.get? l=some { cls:=.type "tuple",dict:=dct,data:=.seq items n,slots:=sl } /\
      R (.ok (.ret (.ref (s.heap.push { cls:=.type "tuple_iterator",data:=.fields #[.ref l,.int 0 0] }).objs.size)))
        { s with heap:=(s.heap.push { cls:=.type "tuple_iterator",data:=.fields #[.ref l,.int 0 0] }).push { cls:=.type "enumerate",data:=.fields #[.none,.bool false,.ref s.heap.objs.size,rawInt 0,.none,.none] } }):=
  .of_wp λ prog w A R s h=>by
    obtain⟨hp,g,d,tk,os⟩:=s;obtain⟨hl,h⟩:=h
    have hsub:=sub_enumerate
    have hL:Heap.IsTuple (Shared.heap ⟨hp,g,d,tk,os⟩) l items:=⟨_,hl,rfl,n,rfl⟩
    wp_walk using wpAny_loadPart' hl
    refine wpAny_stack_any λ st=>wpAny_pure ?_
    split
    . rename_i c _ _ _ _ _
      cases(c == Value.type "enumerate")
      . wp_walk using wpAny_loadPart' hl,wpAny_pyIter_tuple hL
        exact⟨_,rfl,h⟩
      . wp_walk using wpAny_loadPart' hl,wpAny_pyIter_tuple hL
        exact⟨_,rfl,h⟩
    . wp_walk using wpAny_loadPart' hl,wpAny_pyIter_tuple hL
      exact⟨_,rfl,h⟩
theorem call_enumT{prog:Program}{w:World}{A:Around}{E:Value->Shared->Prop}{s:Shared}{l:Addr}{items:Array Value}{Q:Value->Shared->Prop}(hL:IsTup s.heap l items)
    (h:∀ h',IsEnum h' (s.heap.objs.size + 1) s.heap.objs.size 0 .none->h'.IsTupleIter s.heap.objs.size l 0->h'.objs.size=s.heap.objs.size + 2 ->
      (∀ b o,s.heap.get? b=some o->h'.get? b=some o)->Q (.ref (s.heap.objs.size + 1)) { s with heap:=h' }) :
    wpAny (model prog w) A (call (.type "enumerate") [.ref l]) Q E s:=by
  obtain⟨⟨c,dct,dt,sl⟩,hl,hc,n,hd⟩:=hL
  replace hc:c=.type "tuple":=hc
  replace hd:dt=.seq items n:=hd
  subst hc hd
  refine callType_new F.called_enumerate (by decide) (F.typeCall_enumerate_1 _) (F.newCall_enumerate_1 _) (λ obj=>F.args_object_init_2 obj _) F.entry_enumerate_new
    (Pe l items n dct sl) ⟨hl,?_⟩
  have hz:(s.heap.push { cls:=.type "tuple_iterator",data:=.fields #[.ref l,.int 0 0] }).objs.size=s.heap.objs.size + 1:=Heap.size_push ..
  show _/\_
  rw[hz]
  have he:IsEnum ((s.heap.push { cls:=.type "tuple_iterator",data:=.fields #[.ref l,.int 0 0] }).push
      { cls:=.type "enumerate",data:=.fields #[.none,.bool false,.ref s.heap.objs.size,rawInt 0,.none,.none] }) (s.heap.objs.size + 1) s.heap.objs.size 0 .none:=by
    have:=Heap.get?_push_size (s.heap.push { cls:=.type "tuple_iterator",data:=.fields #[.ref l,.int 0 0] })
      (o:={ cls:=.type "enumerate",data:=.fields #[.none,.bool false,.ref s.heap.objs.size,rawInt 0,.none,.none] }) rfl
    rw[hz]at this;exact this
  refine⟨⟨_,he,rfl⟩,h _ he ⟨_,Heap.get?_push_of_some _ (Heap.get?_push_size _ rfl),rfl,rfl⟩ (by rw[Heap.size_push,hz]) λ b o x=>Heap.get?_push_of_some _ (Heap.get?_push_of_some _ x)⟩
end HT
namespace L2
open PySem PySem.Spec PyProof.Rows
structure ETt(h:Heap)(e it l:Addr)(i:Nat):Prop where
  e:∃ old,IsEnum h e it i old
  r:h.IsTupleIter it l i
noncomputable def ItT(K:PySem.W.Frag)(a:Addr):It:=
  ⟨λ i H=>∃ xs x,SqT K H a xs/\xs[i]? = some x,
   λ i H x H'=>∃ p v,H p=none/\H'=upd H p (.tup [.int (i:Int),v])/\x=.ref p/\∀ xs,SqT K H a xs->xs[i]? = some v,
   λ i H=>∃ xs,SqT K H a xs/\xs.length=i⟩
theorem NQ{P:Program}{w:World}{K:PySem.W.Frag}{elts:List Expr}{kk:Nat}{tpos:Pos}{e it l:Addr}(ne:e ≠ it)(nl:l ≠ it)(nle:e ≠ l):Turn P w K (.Tuple elts kk tpos) (ItT K l) [e,it] e (λ i h=>ETt h e it l i) where
  mem:=by simp
  obj:=λ i h st c hc=>by
    obtain⟨⟨old,he⟩,hr⟩:=st
    simp only[List.mem_cons,List.not_mem_nil,or_false]at hc
    rcases hc with rfl|rfl
    . exact⟨_,he,λ v z=>by cases(show Data.fields _=Data.cell v from z)⟩
    . obtain⟨o,q,_,d⟩:=hr;exact⟨o,q,λ v z=>by rw[d]at z;cases z⟩
  keep:=λ i h h' st k=>by
    obtain⟨⟨old,he⟩,o,q,r⟩:=st
    exact⟨⟨old,k e (by simp) _ he⟩,o,k it (by simp) _ q,r⟩
  item:=by
    intro X hP hw hK hc i pins s σ H E I hf st hg
    subst hP hw hK
    obtain⟨xs,x,h1,hx⟩:=hg
    obtain⟨its,r,pl,hz⟩:=I.tuple h1
    obtain⟨u,hu,ru⟩:=r.get hx
    obtain⟨⟨old,he⟩,hr⟩:=st
    have hlt:i < its.toArray.size:=by
      have:=(List.getElem?_eq_some_iff.mp hu).1
      simpa using this
    have hd:X.A.in1.handled=none:=I.ok.hd hc
    refine wpAny_pyNext_enum_itemD (HT.drawsT hd it l nl its.toArray) he ⟨hr,pl⟩ hlt ne (by simp;exact⟨ne,nle⟩) λ x' g tk hx' ho hr' ht hsz kp=>⟨_,rfl,?_⟩
    have ex:x'=u:=by
      have hx':its.toArray[i]? = some x':=hx'
      rw[List.getElem?_toArray,hu]at hx'
      exact(Option.some.inj hx').symm
    subst ex
    refine wpAny_letOwnedTupleGo_enum ho λ g' e' sb=>?_
    have hle:e < s.heap.objs.size:=Heap.lt_size he
    have kp2:∀ c o,c ∉ [e,it]->s.heap.get? c=some o->g'.get? c=some o:=λ c o nc q=>by
      simp only[List.mem_cons,List.not_mem_nil,or_false,not_or]at nc
      exact sb.extBut _ _ nc.1 (kp c o nc.1 nc.2 q)
    have hT:s.heap.objs.size ≠ e:=Nat.ne_of_gt hle
    have hpair:g'.get? s.heap.objs.size=some { cls:=.type "tuple",data:=.seq #[.int i tk,x'] }:=sb.extBut _ _ hT ht
    have fresh:H s.heap.objs.size=none:=I.hok.fresh (Nat.le_refl _)
    have I2:Inv X pins σ (upd H s.heap.objs.size (.tup [.int (i:Int),x])) { s with heap:=g',toks:=tk + 1 }:=I.turnsL (tk:=tk + 1) (o:=.tup [.int (i:Int),x]) kp2 hf (Nat.le_refl _)
      (show ObjOk X.prog X.w _ g' _ (.tup [.int (i:Int),x])from⟨by show 2 <= sizeLine;decide,[.int i tk,x'],.cons ⟨_,rfl⟩ (.cons ru .nil),⟨_,hpair,rfl,_,rfl⟩⟩)
    refine⟨.ref s.heap.objs.size,_,I2,rfl,⟨s.heap.objs.size,x,fresh,rfl,rfl,λ xs' q=>by rw[I.tuple_inj q h1];exact hx⟩,⟨⟨x',?_⟩,?_⟩,λ c hc=>?_⟩
    . have:=e'
      rw[show((i:Int) + 1)=((i + 1:Nat):Int) by omega]at this
      exact this
    . exact hr'.1.extBut sb.extBut (Ne.symm ne)
    . have lt:c < s.heap.objs.size:=by
        simp only[List.mem_cons,List.not_mem_nil,or_false]at hc
        rcases hc with rfl|rfl
        . exact hle
        . obtain⟨o,q,_⟩:=hr;exact Heap.lt_size q
      rw[AF (Nat.ne_of_lt lt)]
      exact(hf c hc).1
  done:=by
    intro X hP hw hK hc i pins s σ H E I hf st hg
    subst hP hw hK
    obtain⟨xs,h1,hend⟩:=hg
    obtain⟨its,r,pl,hz⟩:=I.tuple h1
    have l1':=r.length
    obtain⟨⟨old,he⟩,hr⟩:=st
    have hd:X.A.in1.handled=none:=I.ok.hd hc
    have en:i=its.toArray.size:=by simp;omega
    subst en
    refine wpAny_pyNext_enum_endD (HT.drawsT hd it l nl its.toArray) he ⟨hr,pl⟩ λ g x=>⟨rfl,?_⟩
    exact I.turns (tk:=s.toks) (λ c o nc q=>by
      simp only[List.mem_cons,List.not_mem_nil,or_false,not_or]at nc
      exact x c o nc.2 q) hf
  self:=λ _ _ _ _ _ st h=>by
    obtain⟨⟨old,he⟩,hr⟩:=st
    exact wpAny_pyIter_enum he h
noncomputable def M8(K:PySem.W.Frag)(ta:TA):TI:=λ σ H R=>ta σ H λ vs H1=>∃ a xs,vs=[.ref a]/\SqT K H1 a xs/\R (ItT K a) H1
theorem Qw(K:PySem.W.Frag){X:Cx}{a:Expr}{ta:TA}{elts:List Expr}{kk:Nat}{tpos p pos:Pos}(hg:Gl X "enumerate")(hm:X.mg "enumerate"=none)(ha:PA X [a] ta)(hK:X.K=K:=by rfl)(hs:starEach [a] X.env=[(false,eval a X.env)]:=by rfl) :
    PI X (.Tuple elts kk tpos) (.Call (.Name "enumerate" p) [a] [] pos) (M8 K ta):=by
  subst hK
  intro pins s σ H R I h
  refine Call_ (Ds I hg hm Ex (PyProof.Rows.callWith_type1 (thn (ha pos pins s σ H _ I h) λ us s1 ⟨vs,H1,I1,r1,q1⟩=>?_) hs rfl))
  obtain⟨l,xs,e,c,q⟩:=q1
  subst e
  obtain⟨u,rfl,ru⟩:=r1.one
  cases ru
  obtain⟨its,r,pl,hz⟩:=I1.tuple c
  have ll:l < s1.heap.objs.size:=by obtain⟨o,ho,_⟩:=pl;exact Heap.lt_size ho
  refine HT.call_enumT pl λ g he hr hsz kp=>wpAny_pyIter_enum he ?_
  refine⟨_,_,_,_,H1,rfl,I1.kept (t':=s1.toks) kp,NQ (Nat.ne_of_gt (Nat.lt_succ_self _)) (Nat.ne_of_lt ll) (Nat.ne_of_gt (Nat.lt_succ_of_lt ll)),⟨⟨_,he⟩,hr⟩,λ c hc=>?_,q⟩
  simp only[List.mem_cons,List.not_mem_nil,or_false]at hc
  have le:s1.heap.objs.size <= c:=by
    rcases hc with rfl|rfl
    . exact Nat.le_add_right _ _
    . exact Nat.le_refl _
  exact I1.fpOk le (I1.hok.fresh le)
theorem QZ{K:PySem.W.Frag}{ta:TE}{ma:MI}(ha:RRw K true ta ma):RIt K (M8 K (BZ ta C8)) (DZ ma):=by
  intro ρ σ H hd ls Q d g hd' hR hL hm hQ
  obtain⟨⟨⟨d1,g1⟩,h1⟩,e1,e2⟩:=Option.map_eq_some_iff.mp hm
  cases e2
  refine ha ρ σ H hd ls _ d1 g1 h1 hR hL e1 λ ρ1 H1 a x1 R1 G1 S1=>?_
  obtain⟨xs,c1,r1⟩:=S1 ρ1 H1 _ .refl R1 G1
  refine⟨a,xs,rfl,c1,hQ ρ1 H1 _ x1 R1 G1 ?_⟩
  intro ρ3 H3 hd3 x3 R3 G3 i
  obtain⟨xs,c1,r1⟩:=S1 ρ3 H3 _ x3 R3 G3
  have l1:=r1.len
  refine⟨λ hi=>?_,λ hi=>⟨xs,c1,?_⟩⟩
  . have hi:i < d1.length:=by simpa using hi
    have i1:d1[i]? = some (d1[i]'hi):=List.getElem?_eq_getElem _
    obtain⟨x,x4,x5⟩:=r1.get i1
    refine⟨⟨xs,x,c1,x4⟩,λ z H4 hz=>?_⟩
    obtain⟨p,v,fp,rfl,rfl,hv⟩:=hz
    have ev:=hv xs c1;rw[x4]at ev;cases ev
    obtain⟨R4,x6⟩:=R3.hid (ho:=.tup [.int (i:Int),x]) fp
    refine⟨ρ3,B1 [.im (.int (i:Int)),d1[i]'hi],x6,rfl,R4,?_,Cm (SqT.of AR) (.cons (by simp[RD,RI]) (.cons (x5.ext R3 x6) .nil))⟩
    simp[i1]
  . have hi:i=d1.length:=by simpa using hi
    omega
theorem ER(K:PySem.W.Frag){X:Cx}{a:Expr}{ta:TE}{ma:MI}{elts:List Expr}{kk:Nat}{tpos p pos:Pos}(hm:X.mg "enumerate"=none)(ha:QR K true X a ta ma)(hg:Gl X "enumerate":=by rfl)(hK:X.K=K:=by rfl)(hs:starEach [a] X.env=[(false,eval a X.env)]:=by rfl) :
    QI K X (.Tuple elts kk tpos) (.Call (.Name "enumerate" p) [a] [] pos) (M8 K (BZ ta C8)) (DZ ma):=⟨Qw K hg hm (CJ ha.p Cq hs) hK hs,QZ ha.r⟩
end L2
namespace HS
open PySem PyProof.Rows
open PySem.AutoSeq1 (wpAny_loadPart')
open Sem (wp)
noncomputable abbrev st(t:Tok):List (Str × Value):=[(Str.ofString "start",.int 1 t)]
section
variable{prog:Program}{w:World}{A:Around}{E:Value->Shared->Prop}{s:Shared}
theorem tcS(a b:Value):checkTypeCall "enumerate" ⟨[a],[(Str.ofString "start",b)]⟩=pure ():=by kernel_rfl
theorem ncS(a b:Value):checkBuiltinCall "enumerate.__new__" ⟨[.type "enumerate",a],[(Str.ofString "start",b)]⟩=pure ():=by kernel_rfl
theorem aiS(a b c:Value):argsOk "object.__init__" ⟨[a,b],[(Str.ofString "start",c)]⟩:=by
  unfold argsOk
  rw[signature?_of (id:="object.__init__") (n:=['_','_','t','i','n','i','_','_']) (o:=['t','c','e','j','b','o']) (by kernel_rfl) F.owner_object];kernel_rfl
theorem Pf(l:Addr)(items:Array Value)(n:Nat)(t:Tok)(dct:Option Addr)(sl:Array (Option Value)) :
    Meets (Builtin.«enumerate.__new__» ⟨[.type "enumerate",.ref l],st t⟩) (λ _ R s=>s.heap.get? l=some { cls:=.type "list",dict:=dct,data:=.seq items n,slots:=sl } /\
      R (.ok (.ret (.ref (s.heap.push { cls:=.type "list_iterator",data:=.fields #[.ref l,.int 0 0] }).objs.size)))
        { s with heap:=(s.heap.push { cls:=.type "list_iterator",data:=.fields #[.ref l,.int 0 0] }).push { cls:=.type "enumerate",data:=.fields #[.none,.bool false,.ref s.heap.objs.size,rawInt 1,.none,.none] } }):=
  .of_wp λ prog w A R s h=>by
    obtain⟨hp,g,d,tk,os⟩:=s;obtain⟨hl,h⟩:=h
    have hsub:=sub_enumerate
    have hL:Heap.IsList (Shared.heap ⟨hp,g,d,tk,os⟩) l items:=⟨_,hl,rfl,n,rfl⟩
    wp_walk using wpAny_loadPart' hl
    refine wpAny_stack_any λ st=>wpAny_pure ?_
    split
    . rename_i c _ _ _ _ _
      cases(c == Value.type "enumerate")
      . wp_walk using wpAny_loadPart' hl,wpAny_pyIter_list hL
        exact⟨_,rfl,h⟩
      . wp_walk using wpAny_loadPart' hl,wpAny_pyIter_list hL
        exact⟨_,rfl,h⟩
    . wp_walk using wpAny_loadPart' hl,wpAny_pyIter_list hL
      exact⟨_,rfl,h⟩
theorem Ws{T id:String}{x a b:Value}(hl:typeLookup (.type T) "__init__"=pure (some (.builtin "object.__init__")))(hm:Bind.madeBy (.type T)=pure (some id))(hne:(some id != some "object.__new__")=true) :
    Meets (Builtin.«object.__init__» ⟨[x,a],[(Str.ofString "start",b)]⟩) (λ _ R s=>s.TypeIs x T/\R (.ok (.ret .none)) s):=by
  refine Meets.of_wp λ prog w A R s hs=>?_
  obtain⟨hT,hq⟩:=hs
  repeat (any_goals (first|assumption|wp_step))
  exact⟨_,rfl,hq⟩
theorem call_enumS{l:Addr}{items:Array Value}{t:Tok}{Q:Value->Shared->Prop}(hL:s.heap.IsList l items)
    (h:∀ h',IsEnum h' (s.heap.objs.size + 1) s.heap.objs.size 1 .none->h'.IsListIter s.heap.objs.size l 0->h'.objs.size=s.heap.objs.size + 2->(∀ b o,s.heap.get? b=some o->h'.get? b=some o)->Q (.ref (s.heap.objs.size + 1)) { s with heap:=h' }) :
    wpAny (model prog w) A (call (.type "enumerate") [.ref l] (st t)) Q E s:=by
  obtain⟨⟨c,dct,dt,sl⟩,hl,hc,n,hd⟩:=hL
  replace hc:c=.type "list":=hc
  replace hd:dt=.seq items n:=hd
  subst hc hd
  have ft:=F.called_enumerate
  obtain⟨c,tl,hmro⟩:=ft.mro
  have hmade:=ft.made
  have hsub:=ft.sub
  refine wpAny_call (codeAny_of_tree ?_)
  show wpAny _ _ (callAny (.type "enumerate") _) _ _ _
  refine wpAny_pure ⟨Code.quiet_builtin _ (by decide +kernel),codeAny_builtin F.entry_type_call ?_⟩
  rw[Around.under_plain (weight_type_call_type "enumerate" [.ref l] (st t)) (units_type_call_type "enumerate" [.ref l] (st t))]
  have h1:=ft.notType
  have h2:=ft.canCreate
  have hct:=tcS (.ref l) (.int 1 t)
  have hcn:=ncS (.ref l) (.int 1 t)
  repeat (any_goals (first|assumption|wp_step))
  refine codeAny_mono (codeAny_call_builtin ft.plain F.entry_enumerate_new (wpAny_of_eq hcn (Pf l items n t dct sl prog w A.in1 (wants (λ obj s₁=>s₁.TypeIs obj "enumerate"/\Q obj s₁) E) s ⟨hl,?_⟩))) λ r s₁ hr=>?_
  . have hz:(s.heap.push { cls:=.type "list_iterator",data:=.fields #[.ref l,.int 0 0] }).objs.size=s.heap.objs.size + 1:=Heap.size_push ..
    show _/\_
    rw[hz]
    have he:IsEnum ((s.heap.push { cls:=.type "list_iterator",data:=.fields #[.ref l,.int 0 0] }).push { cls:=.type "enumerate",data:=.fields #[.none,.bool false,.ref s.heap.objs.size,rawInt 1,.none,.none] }) (s.heap.objs.size + 1) s.heap.objs.size 1 .none:=by
      have:=Heap.get?_push_size (s.heap.push { cls:=.type "list_iterator",data:=.fields #[.ref l,.int 0 0] }) (o:={ cls:=.type "enumerate",data:=.fields #[.none,.bool false,.ref s.heap.objs.size,rawInt 1,.none,.none] }) rfl
      rw[hz]at this;exact this
    exact⟨⟨_,he,rfl⟩,h _ he ⟨_,Heap.get?_push_of_some _ (Heap.get?_push_size _ rfl),rfl,rfl⟩ (by rw[Heap.size_push,hz]) λ b o x=>Heap.get?_push_of_some _ (Heap.get?_push_of_some _ x)⟩
  . cases r with
    | error e=>exact hr
    | ok fl=>
      cases fl with
      | ret obj=>
        obtain⟨hT,hq0⟩:=hr
        have hli:=ft.init.lookup
        have hbi:=ft.init.bind obj
        repeat (any_goals (first|assumption|wp_step))
        refine codeAny_mono (codeAny_call_builtin ft.init.plain F.entry_object_init (ft.init.check _ _ _ _ _ _ _ _ hT (aiS obj (.ref l) (.int 1 t)) (Ws (x:=obj) (a:=.ref l) (b:=.int 1 t) hli hmade (by decide) prog w A.in1 (wants (λ r s₂=>r=.none/\Q obj s₂) E) s₁ ⟨hT,rfl,hq0⟩))) λ r₂ s₂ hr₂=>?_
        cases r₂ with
        | error e=>exact hr₂
        | ok fl₂=>
          cases fl₂ with
          | ret r=>
            obtain⟨rfl,hq⟩:=hr₂
            repeat (any_goals (first|assumption|wp_step))
          | _=>exact hr₂.elim
      | _=>exact hr.elim
theorem shift{it:Addr}{fp:List Addr}{n:Nat}{P:Nat->Value->Prop}{St:Nat->Heap->Prop}(D:Draws prog w A it fp n P St):Draws prog w A it fp (n + 1) (λ j v=>P (j - 1) v) (λ j h=>1 <= j/\St (j - 1) h) where
  live:=λ _ _ z=>D.live _ _ z.2
  frame:=λ _ _ _ z hk=>⟨z.1,D.frame _ _ _ z.2 hk⟩
  item:=λ i s Q E hi z hQ=>D.item (i - 1) s Q E (by omega) z.2 λ x h' tk p q b=>hQ x h' tk p ⟨by omega,by rw[show i + 1 - 1=i - 1 + 1 by have:=z.1;omega];exact q⟩ b
  done:=λ s Q E z hE=>D.done s Q E z.2 hE
end
theorem callWith_typeK{M:Model}{A:Around}{E:Value->Shared->Prop}{s:Shared}{pos:Pos}{T:String}{args:List (Bool × Sem Value)}{kws:List (Option Str × Sem Value)}{Q:Value->Shared->Prop}(hp:args.any (·.1)=false)(hk:kws.any (·.1.isNone)=false)
    (h:wpAny M A (evalArgs (.type T) true args kws) (λ a s₁=>wpAny M A (call (.type T) a.pos a.kw) Q E s₁) E s):wpAny M A (callWith pos (.type T) [] args kws) Q E s:=by
  unfold callWith
  refine wpAny_bind (wpAny_holding (wpAny_mono h (λ a s₁ h₁=>wpAny_bind (wpAny_standAt ?_)) λ _ _ x=>x))
  simp only[hp,hk,Bool.or_false]
  exact wpAny_bind (wpAny_pure (wpAny_bind (wpAny_mono h₁ (λ r s₂ hr=>wpAny_bind (wpAny_holding (wpAny_point (wpAny_pure hr)))) λ _ _ x=>x)))
end HS
namespace L2
open PySem PySem.Spec PyProof.Rows
structure ESt(h:Heap)(e it l:Addr)(i:Nat):Prop where
  e:∃ old,IsEnum h e it ((i + 1:Nat):Int) old
  r:h.IsListIter it l i
noncomputable def ItS(K:PySem.W.Frag)(a:Addr):It:=
  ⟨λ i H=>∃ xs x,SqL K H a xs/\xs[i]? = some x,
   λ i H x H'=>∃ p v,H p=none/\H'=upd H p (.tup [.int ((i:Int) + 1),v])/\x=.ref p/\∀ xs,SqL K H a xs->xs[i]? = some v,
   λ i H=>∃ xs,SqL K H a xs/\xs.length=i⟩
theorem NR{P:Program}{w:World}{K:PySem.W.Frag}{elts:List Expr}{kk:Nat}{tpos:Pos}{e it l:Addr}(ne:e ≠ it)(nl:l ≠ it)(nle:e ≠ l):Turn P w K (.Tuple elts kk tpos) (ItS K l) [e,it] e (λ i h=>ESt h e it l i) where
  mem:=by simp
  obj:=λ i h st c hc=>by
    obtain⟨⟨old,he⟩,hr⟩:=st
    simp only[List.mem_cons,List.not_mem_nil,or_false]at hc
    rcases hc with rfl|rfl
    . exact⟨_,he,λ v z=>by cases(show Data.fields _=Data.cell v from z)⟩
    . obtain⟨o,q,_,d⟩:=hr;exact⟨o,q,λ v z=>by rw[d]at z;cases z⟩
  keep:=λ i h h' st k=>by
    obtain⟨⟨old,he⟩,o,q,r⟩:=st
    exact⟨⟨old,k e (by simp) _ he⟩,o,k it (by simp) _ q,r⟩
  item:=by
    intro X hP hw hK hc i pins s σ H E I hf st hg
    subst hP hw hK
    obtain⟨xs,x,h1,hx⟩:=hg
    obtain⟨its,r,pl,hz⟩:=I.list h1
    obtain⟨u,hu,ru⟩:=r.get hx
    obtain⟨⟨old,he⟩,hr⟩:=st
    have hd:X.A.in1.handled=none:=I.ok.hd hc
    have hlt:i < its.toArray.size:=by
      have:=(List.getElem?_eq_some_iff.mp hu).1
      simpa using this
    refine wpAny_pyNext_enum_itemD (HS.shift (Draws.list hd it l nl its.toArray)) he ⟨by omega,by simpa using hr,pl.isList⟩ (by omega) ne (by simp;exact⟨ne,nle⟩) λ x' g tk hx' ho hr' ht hsz kp=>⟨_,rfl,?_⟩
    have ex:x'=u:=by
      have hx':its.toArray[i]? = some x':=hx'
      rw[List.getElem?_toArray,hu]at hx'
      exact(Option.some.inj hx').symm
    subst ex
    refine wpAny_letOwnedTupleGo_enum ho λ g' e' sb=>?_
    have hle:e < s.heap.objs.size:=Heap.lt_size he
    have kp2:∀ c o,c ∉ [e,it]->s.heap.get? c=some o->g'.get? c=some o:=λ c o nc q=>by
      simp only[List.mem_cons,List.not_mem_nil,or_false,not_or]at nc
      exact sb.extBut _ _ nc.1 (kp c o nc.1 nc.2 q)
    have hT:s.heap.objs.size ≠ e:=Nat.ne_of_gt hle
    have hpair:g'.get? s.heap.objs.size=some { cls:=.type "tuple",data:=.seq #[.int ((i + 1:Nat):Int) tk,x'] }:=sb.extBut _ _ hT ht
    have fresh:H s.heap.objs.size=none:=I.hok.fresh (Nat.le_refl _)
    have I2:Inv X pins σ (upd H s.heap.objs.size (.tup [.int ((i:Int) + 1),x])) { s with heap:=g',toks:=tk + 1 }:=I.turnsL (tk:=tk + 1) (o:=.tup [.int ((i:Int) + 1),x]) kp2 hf (Nat.le_refl _)
      (show ObjOk X.prog X.w _ g' _ (.tup [.int ((i:Int) + 1),x])from⟨by show 2 <= sizeLine;decide,[.int ((i + 1:Nat):Int) tk,x'],.cons ⟨_,rfl⟩ (.cons ru .nil),⟨_,hpair,rfl,_,rfl⟩⟩)
    refine⟨.ref s.heap.objs.size,_,I2,rfl,⟨s.heap.objs.size,x,fresh,rfl,rfl,λ xs' q=>by rw[I.list_inj q h1];exact hx⟩,⟨⟨x',?_⟩,?_⟩,λ c hc=>?_⟩
    . have:=e'
      rw[show(((i + 1:Nat):Int) + 1)=((i + 1 + 1:Nat):Int) by omega]at this
      exact this
    . have q:=hr'.2.1
      exact q.extBut sb.extBut (Ne.symm ne)
    . have lt:c < s.heap.objs.size:=by
        simp only[List.mem_cons,List.not_mem_nil,or_false]at hc
        rcases hc with rfl|rfl
        . exact hle
        . obtain⟨o,q,_⟩:=hr;exact Heap.lt_size q
      rw[AF (Nat.ne_of_lt lt)]
      exact(hf c hc).1
  done:=by
    intro X hP hw hK hc i pins s σ H E I hf st hg
    subst hP hw hK
    obtain⟨xs,h1,hend⟩:=hg
    obtain⟨its,r,pl,hz⟩:=I.list h1
    have l1':=r.length
    obtain⟨⟨old,he⟩,hr⟩:=st
    have hd:X.A.in1.handled=none:=I.ok.hd hc
    have en:i=its.toArray.size:=by simp;omega
    subst en
    refine wpAny_pyNext_enum_endD (HS.shift (Draws.list hd it l nl its.toArray)) he ⟨by omega,by simpa using hr,pl.isList⟩ λ g x=>⟨rfl,?_⟩
    exact I.turns (tk:=s.toks) (λ c o nc q=>by
      simp only[List.mem_cons,List.not_mem_nil,or_false,not_or]at nc
      exact x c o nc.2 q) hf
  self:=λ _ _ _ _ _ st h=>by
    obtain⟨⟨old,he⟩,hr⟩:=st
    exact wpAny_pyIter_enum he h
noncomputable def M9(K:PySem.W.Frag)(ta:TA):TI:=λ σ H R=>ta σ H λ vs H1=>∃ a xs,vs=[.ref a]/\SqL K H1 a xs/\R (ItS K a) H1
theorem Qx(K:PySem.W.Frag){X:Cx}{a:Expr}{ta:TA}{elts:List Expr}{kk:Nat}{j}{tpos p pos cp kp:Pos}(hg:Gl X "enumerate")(hm:X.mg "enumerate"=none)(ha:PA X [a] ta)(hK:X.K=K:=by rfl)(hs:starEach [a] X.env=[(false,eval a X.env)]:=by rfl) :
    PI X (.Tuple elts kk tpos) (.Call (.Name "enumerate" p) [a] [⟨some "start",.Constant (.int 1) j cp,kp⟩] pos) (M9 K ta):=by
  subst hK
  intro pins s σ H R I h
  refine wpAny_Call_Name_kw (Ds I hg hm Ex ?_)
  have pl:(backTo pos (starEach [a] X.env)).any (·.1)=false:=by rw[hs];rfl
  refine HS.callWith_typeK pl rfl (evalArgs_kw2 (env:=X.env) (e:=a) (rest:=[]) (kws:=[⟨some "start",.Constant (.int 1) j cp,kp⟩]) rfl (thn (ha pos pins s σ H _ I h) λ us s1 ⟨vs,H1,I1,r1,q1⟩=>?_) hs)
  obtain⟨l,xs,e,c,q⟩:=q1
  subst e
  obtain⟨u,rfl,ru⟩:=r1.one
  cases ru
  show wpAny _ _ (evalAll [(do let v <- eval (.Constant (.int 1) j cp) X.env;standAt pos;pure v)]) _ _ s1
  refine wpAny_evalAll_cons (wpAny_bind (wpAny_Constant_int (wpAny_bind (wpAny_standAt (wpAny_pure (wpAny_evalAll_nil ?_))))))
  have I2:=I1.tok (s1.toks + 1)
  obtain⟨its,r,pl,hz⟩:=I2.list c
  have ll:l < s1.heap.objs.size:=by obtain⟨o,ho,_⟩:=pl.isList;exact Heap.lt_size ho
  refine HS.call_enumS pl.isList λ g he hr hsz kp=>wpAny_pyIter_enum he ?_
  refine⟨_,_,_,_,H1,rfl,I2.kept (t':=s1.toks + 1) kp,NR (Nat.ne_of_gt (Nat.lt_succ_self _)) (Nat.ne_of_lt ll) (Nat.ne_of_gt (Nat.lt_succ_of_lt ll)),⟨⟨_,he⟩,hr⟩,λ c hc=>?_,q⟩
  simp only[List.mem_cons,List.not_mem_nil,or_false]at hc
  have le:s1.heap.objs.size <= c:=by
    rcases hc with rfl|rfl
    . exact Nat.le_add_right _ _
    . exact Nat.le_refl _
  exact I2.fpOk le (I2.hok.fresh le)
section
variable{K:PySem.W.Frag}
noncomputable def Hn(ma:MI):MI:=λ ls hd=>(ma ls hd).map λ p=>((p.1.1.zipIdx.map λ q=>B1 [.im (.int ((q.2:Int) + 1)),q.1],p.1.2),p.2)
theorem Qa{ta:TE}{ma:MI}(ha:RRw K false ta ma):RIt K (M9 K (BZ ta C8)) (Hn ma):=by
  intro ρ σ H hd ls Q d g hd' hR hL hm hQ
  obtain⟨⟨⟨d1,g1⟩,h1⟩,e1,e2⟩:=Option.map_eq_some_iff.mp hm
  cases e2
  refine ha ρ σ H hd ls _ d1 g1 h1 hR hL e1 λ ρ1 H1 a x1 R1 G1 S1=>?_
  obtain⟨xs,c1,r1⟩:=S1 ρ1 H1 _ .refl R1 G1
  refine⟨a,xs,rfl,c1,hQ ρ1 H1 _ x1 R1 G1 ?_⟩
  intro ρ3 H3 hd3 x3 R3 G3 i
  obtain⟨xs,c1,r1⟩:=S1 ρ3 H3 _ x3 R3 G3
  have l1:=r1.len
  refine⟨λ hi=>?_,λ hi=>⟨xs,c1,?_⟩⟩
  . have hi:i < d1.length:=by simpa using hi
    have i1:d1[i]? = some (d1[i]'hi):=List.getElem?_eq_getElem _
    obtain⟨x,x4,x5⟩:=r1.get i1
    refine⟨⟨xs,x,c1,x4⟩,λ z H4 hz=>?_⟩
    obtain⟨p,v,fp,rfl,rfl,hv⟩:=hz
    have ev:=hv xs c1;rw[x4]at ev;cases ev
    obtain⟨R4,x6⟩:=R3.hid (ho:=.tup [.int ((i:Int) + 1),x]) fp
    refine⟨ρ3,B1 [.im (.int ((i:Int) + 1)),d1[i]'hi],x6,rfl,R4,?_,Cm (SqT.of AR) (.cons (by simp[RD,RI]) (.cons (x5.ext R3 x6) .nil))⟩
    simp[i1]
  . have hi:i=d1.length:=by simpa using hi
    omega
theorem Qo(K:PySem.W.Frag){X:Cx}{a:Expr}{ta:TE}{ma:MI}{elts:List Expr}{kk:Nat}{j}{tpos p pos cp kp:Pos}(hm:X.mg "enumerate"=none)(ha:QR K false X a ta ma)(hg:Gl X "enumerate":=by rfl)(hK:X.K=K:=by rfl)(hs:starEach [a] X.env=[(false,eval a X.env)]:=by rfl) :
    QI K X (.Tuple elts kk tpos) (.Call (.Name "enumerate" p) [a] [⟨some "start",.Constant (.int 1) j cp,kp⟩] pos) (M9 K (BZ ta C8)) (Hn ma):=⟨Qx K hg hm (CJ ha.p Cq hs) hK hs,Qa ha.r⟩
theorem Pu{ma:MI}{ls:Ls}{hd:Hd}{QI:List D × Gd->Hd->Prop}(h:WI ma ls hd λ p x=>QI (p.1.zipIdx.map λ q=>B1 [.im (.int ((q.2:Int) + 1)),q.1],p.2) x):WI (Hn ma) ls hd QI:=by
  obtain⟨p,x,e,q⟩:=h
  exact⟨_,_,by simp only[Hn,e,Option.map_some],q⟩
end
end L2
namespace L2
open PySem PySem.Spec PyProof.Rows PySem.W
noncomputable def I0(op:Int->Int->Bool)(src:Hp->List V->Prop)(G:Hp->Prop)(tb:TE)(cap:St):Nat->Nat->V->Int->Hp->VK->Prop
  | 0,j,b,_,H,Q=>(∃ xs,src H xs/\xs.length=j)/\Q b H
  | m + 1,j,b,kb,H,Q=>∃ xs x,src H xs/\xs[j]? = some x/\G H/\tb (some x :: cap) H λ k H1=>∃ n:Int,k=.int n/\(if op n kb=true then I0 op src G tb cap m (j + 1) x n H1 Q else I0 op src G tb cap m (j + 1) b kb H1 Q)
noncomputable def MU(op:Int->Int->Bool)(src:Hp->List V->Prop)(G:Hp->Prop)(tb:TE)(cap:St)(m:Nat)(H:Hp)(Q:VK):Prop:=
  ∃ xs x,src H xs/\xs[0]? = some x/\G H/\tb (some x :: cap) H λ k H1=>∃ n:Int,k=.int n/\I0 op src G tb cap m 1 x n H1 Q
theorem Inv.turnE{X:Cx}{pins:List (Addr × Obj)}{σ:St}{H:Hp}{s:Shared}{b:Addr}{o:Obj}{h':Heap}{t':Nat}(I:Inv X ((b,o) :: pins) σ H s)(f:FpOk X pins H b)(hs:∀ c u,c ≠ b->s.heap.get? c=some u->h'.get? c=some u):Inv X pins σ H { s with heap:=h',toks:=t' }:=by
  have J:Inv X pins σ H s:=I.pins_of λ p hp=>I.pin p (List.mem_append_right _ (List.mem_cons_of_mem _ hp))
  obtain⟨hn,hL,_,h1,h2,h3⟩:=f
  exact J.turned (λ c u n e=>hs c u n e) hn hL h1 h2 h3
section
variable{X:Cx}{pins:List (Addr × Obj)}{σ:St}{l f It S:Addr}{src:Hp->List V->Prop}{G:Hp->Prop}{tb:TE}{cap:St}{Q:VK}{E:Value->Shared->Prop}
theorem RP(hh:X.A.handled=none)
    (hsrc:∀ pins' H' s' xs,Inv X pins' σ H' s'->src H' xs->∃ its:List Value,Vals xs its/\s'.heap.IsList l its.toArray) (hSI:S ≠ It) (n0:Nat) (hI0:∀ H',H' It=none->FpOk X pins H' It) (hS0:∀ H',H' S=none->FpOk X pins H' S)
    (turn:∀ (pins':List (Addr × Obj)) (H1:Hp) (s1:Shared) (x:V) (u:Value) (Q1:VK),(∀ p ∈ pins,p ∈ pins')->Inv X pins' σ H1 s1->RelV x u->G H1->tb (some x :: cap) H1 Q1->wpAny (model X.prog X.w) X.A.in1 (call (.ref f) [u]) (EP X pins' σ Q1) (λ _ _=>False) s1) :
    ∀ (m:Nat) (j:Nat) (b:V) (vb:Value) (kb:Int) (tk:Tok) (c:Nat) (oI:Obj) (H:Hp) (s:Shared),Inv X ((S,seqObj "list" #[vb,.int kb tk] c) :: (It,oI) :: pins) σ H s->s.heap.IsListIter It l j->RelV b vb ->
      I0 (λ n m=>decide (n > m)) src G tb cap m j b kb H Q->codeAny (model X.prog X.w) X.A (.builtin "max.loop" ⟨[.ref It,.ref f,.ref S],[]⟩) (λ r s'=>match r with | .ok (.ret v)=>EP X pins σ Q v s' | .ok _=>False | .error e=>E e s') s:=by
  have hname:(toString "max" ++ toString ".loop":String)="max.loop":=by decide
  intro m
  induction m with
  | zero=>
    intro j b vb kb tk c oI H s J hit rb hgo
    obtain⟨⟨xs,hG,hje⟩,hQ⟩:=hgo
    have nS:=J.pin (S,seqObj "list" #[vb,.int kb tk] c) (List.mem_append_right _ List.mem_cons_self)
    have nI:=J.pin (It,oI) (List.mem_append_right _ (List.mem_cons_of_mem _ List.mem_cons_self))
    refine codeAny_builtin PySem.F.entry_max_loop ?_
    rw[Around.under_plainId PySem.F.plain_max_loop _]
    show wpAny _ X.A.in1 (seqItems? (.ref S) >>= _) _ _ _
    refine wpAny_bind (wpAny_seqItems nS.1 rfl ?_)
    show wpAny _ X.A.in1 (tryCatch (pyNext (.ref It)) _ >>= _) _ _ _
    obtain⟨its,hv,hil⟩:=hsrc _ _ _ _ J hG
    have hlen:=hv.length
    refine wpAny_bind (wpAny_tryCatch (wpAny_pyNext_list_end hh hit hil (by simp;omega) λ h' hk'=>?_))
    have hS':=hk' S _ hSI nS.1
    have s1:=Heap.SameBut.update h' S (Obj.mapSeq λ _=>(#[]:Array Value))
    show wpAny _ X.A.in1 (updateSeq S (λ _=>#[]) >>= _) _ _ _
    refine wpAny_bind ?_
    refine wpAny_updateSeq hS' rfl (wpAny_bind (wpAny_letGo (wpAny_pure ?_)))
    have J1:Inv X ((It,oI) :: pins) σ H s:=J.pins_of λ p hp=>J.pin p (List.mem_append_right _ (List.mem_cons_of_mem _ hp))
    have J2:Inv X pins σ H { s with heap:=h',toks:=s.toks }:=J1.turnE (hI0 H nI.2.1) λ c u n e=>hk' c u n e
    have J3:=(J2.repin (hS0 H nS.2.1) hS' (λ v z=>by cases z)).turnE (t':=s.toks) (hS0 H nS.2.1) λ c u n e=>(s1.2 c n).trans e
    exact⟨b,H,J3,rb,hQ⟩
  | succ m ih=>
    intro j b vb kb tk c oI H s J hit rb hgo
    obtain⟨xs,x,hsr,hxj,hG,hgo⟩:=hgo
    obtain⟨its,hv,hil⟩:=hsrc _ _ _ _ J hsr
    obtain⟨u,hu,ru⟩:=hv.get hxj
    have nS:=J.pin (S,seqObj "list" #[vb,.int kb tk] c) (List.mem_append_right _ List.mem_cons_self)
    have nI:=J.pin (It,oI) (List.mem_append_right _ (List.mem_cons_of_mem _ List.mem_cons_self))
    refine codeAny_builtin PySem.F.entry_max_loop ?_
    rw[Around.under_plainId PySem.F.plain_max_loop _]
    show wpAny _ X.A.in1 (seqItems? (.ref S) >>= _) _ _ _
    refine wpAny_bind (wpAny_seqItems nS.1 rfl ?_)
    show wpAny _ X.A.in1 (tryCatch (pyNext (.ref It)) _ >>= _) _ _ _
    refine wpAny_bind (wpAny_tryCatch (wpAny_pyNext_list_item hit hil (x:=u) (by simpa using hu) λ h' hit' hs'=>?_))
    obtain⟨oI',hoI',hoc,hod⟩:=id hit'
    have hSh':h'.get? S=some (seqObj "list" #[vb,.int kb tk] c):=(hs'.2 S hSI).trans nS.1
    have dI:∀ v,oI'.data ≠ .cell v:=λ v z=>by rw[hod]at z;cases z
    have J1:Inv X ((It,oI) :: pins) σ H s:=J.pins_of λ p hp=>J.pin p (List.mem_append_right _ (List.mem_cons_of_mem _ hp))
    have J2:Inv X pins σ H { s with heap:=h',toks:=s.toks }:=J1.turnE (hI0 H nI.2.1) λ c u n e=>(hs'.2 c n).trans e
    have J3:=(J2.repin (hI0 H nI.2.1) hoI' dI).repin ((hS0 H nS.2.1).more hSI.symm) hSh' (λ v z=>by cases z)
    show wpAny _ X.A.in1 (tryCatch (holding [u] (call (.ref f) [u])) _ >>= _) _ _ _
    refine wpAny_bind (wpAny_tryCatch (wpAny_holding (wpAny_mono (turn _ H _ x u _ (λ p hp=>List.mem_cons_of_mem _ (List.mem_cons_of_mem _ hp)) J3 ru hG hgo) (λ v s2 he=>?_) λ _ _ hF=>hF.elim)))
    obtain⟨k,H2,J4,rk,n,rfl,hgo2⟩:=he
    obtain⟨t2,rfl⟩:=rk
    have nS2:=J4.pin (S,seqObj "list" #[vb,.int kb tk] c) (List.mem_append_right _ List.mem_cons_self)
    have nI2:=J4.pin (It,oI') (List.mem_append_right _ (List.mem_cons_of_mem _ List.mem_cons_self))
    show wpAny _ X.A.in1 (tryCatch (holding [u,.int n t2] (richCompare .Gt (.int n t2) (.int kb tk) >>= _)) _ >>= _) _ _ _
    refine wpAny_bind (wpAny_tryCatch (wpAny_holding (wpAny_bind (richCompare_gives (op:=.Gt) (typeIs_int s2 _ t2) (typeIs_int s2 _ tk) F.slot_int_gt F.entry_int_gt (F.args_int_gt_2 _ _) (gives_int_gt _ _ t2 tk) (λ x=>nomatch x) ?_))))
    refine wpAny_bind (wpAny_holding (wpAny_truthy_bool ?_))
    refine wpAny_bind (wpAny_letGo (wpAny_pure ?_))
    by_cases hb':n > kb
    . have s1:=Heap.SameBut.update s2.heap S (Obj.mapSeq λ _=>#[u,.int n t2])
      obtain⟨c2,hc2⟩:∃ c2,(s2.heap.update S (Obj.mapSeq λ _=>#[u,.int n t2])).get? S=some (seqObj "list" #[u,.int n t2] c2):=⟨_,get?_update_seq nS2.1 λ _=>#[u,.int n t2]⟩
      simp only[hb',decide_true,if_true]at hgo2 ⊢
      refine wpAny_bind ?_
      refine wpAny_updateSeq nS2.1 rfl (wpAny_bind (wpAny_letGo ?_))
      rw[hname]
      have J5:Inv X ((S,seqObj "list" #[vb,.int kb tk] c) :: pins) σ H2 s2:=J4.pins_of λ p hp=>by
        rcases List.mem_cons.mp hp with rfl|hp
        . exact nS2
        . exact J4.pin p (List.mem_append_right _ (List.mem_cons_of_mem _ (List.mem_cons_of_mem _ hp)))
      have J6:Inv X pins σ H2 { s2 with heap:=s2.heap.update S (Obj.mapSeq λ _=>#[u,.int n t2]),toks:=s2.toks }:=J5.turnE (hS0 H2 nS2.2.1) λ c u n e=>(s1.2 c n).trans e
      have gI:(s2.heap.update S (Obj.mapSeq λ _=>#[u,.int n t2])).get? It=some oI':=(s1.2 It hSI.symm).trans nI2.1
      have J7:=(J6.repin (hI0 H2 nI2.2.1) gI dI).repin ((hS0 H2 nS2.2.1).more hSI.symm) hc2 (λ v z=>by cases z)
      exact wpAny_pure ⟨plainId_quiet PySem.F.plain_max_loop _,ih (j + 1) x u n t2 c2 oI' H2 _ J7 ⟨oI',gI,hoc,hod⟩ ru hgo2⟩
    . simp only[hb',decide_false,Bool.false_eq_true,if_false]at hgo2 ⊢
      refine wpAny_bind (wpAny_letGo ?_)
      rw[hname]
      exact wpAny_pure ⟨plainId_quiet PySem.F.plain_max_loop _,ih (j + 1) b vb kb tk c oI' H2 _ J4 ⟨oI',nI2.1,hoc,hod⟩ rb hgo2⟩
theorem Ta{H:Hp}{s:Shared}(hh:X.A.handled=none)(I:Inv X pins σ H s)(hsrc:∀ pins' H' s' xs,Inv X pins' σ H' s'->src H' xs->∃ its:List Value,Vals xs its/\s'.heap.IsList l its.toArray)
    (turn:∀ (pins':List (Addr × Obj)) (H1:Hp) (s1:Shared) (x:V) (u:Value) (Q1:VK),(∀ p ∈ pins,p ∈ pins')->Inv X pins' σ H1 s1->RelV x u->G H1->tb (some x :: cap) H1 Q1->wpAny (model X.prog X.w) X.A.in1 (call (.ref f) [u]) (EP X pins' σ Q1) (λ _ _=>False) s1)
    {m:Nat} (h:MU (λ n m=>decide (n > m)) src G tb cap m H Q):wpAny (model X.prog X.w) X.A (call (.builtin "max") [.ref l] [(Str.ofString "key",.ref f)]) (EP X pins σ Q) E s:=by
  have hname:(toString "max" ++ toString ".loop":String)="max.loop":=by decide
  obtain⟨xs,x,hsr,hx0,hG,hgo⟩:=h
  obtain⟨_,_,hls⟩:=hsrc _ _ _ _ I hsr
  refine kmk_tree PySem.F.kind_max PySem.F.plain_max PySem.F.entry_max (kmk_max_key _ _) ?_
  show wpAny _ X.A.in1 (Builtin.Builtins.bindParams "max" ["key","default"] 0 ⟨[],[(Str.ofString "key",.ref f)]⟩ >>= _) _ _ s
  refine wpAny_bind (wpAny_of_eq (show Builtin.Builtins.bindParams "max" ["key","default"] 0 ⟨[],[(Str.ofString "key",.ref f)]⟩=pure [some (.ref f),none]from rfl) ?_)
  refine wpAny_bind (wpAny_pure ?_)
  refine wpAny_bind (wpAny_pyIter_list hls ?_)
  refine wpAny_bind (wpAny_newList ?_ (Nat.zero_le _))
  rw[hname]
  have hS:(s.heap.push { cls:=.type "list_iterator",data:=.fields #[.ref l,.int 0 0] }).objs.size=s.heap.objs.size + 1:=size_push' ..
  rw[hS]
  have gI:((s.heap.push { cls:=.type "list_iterator",data:=.fields #[.ref l,.int 0 0] }).push (seqObj "list" #[] 0)).get? s.heap.objs.size=some { cls:=.type "list_iterator",data:=.fields #[.ref l,.int 0 0] }:=
    Heap.get?_push_of_some _ (Heap.get?_push_size _ rfl)
  have gS:((s.heap.push { cls:=.type "list_iterator",data:=.fields #[.ref l,.int 0 0] }).push (seqObj "list" #[] 0)).get? (s.heap.objs.size + 1)=some (seqObj "list" #[] 0):=by rw[<- hS];exact Heap.get?_push_size _ rfl
  have kp:∀ b o,s.heap.get? b=some o->((s.heap.push { cls:=.type "list_iterator",data:=.fields #[.ref l,.int 0 0] }).push (seqObj "list" #[] 0)).get? b=some o:=λ b o e=>Heap.get?_push_of_some _ (Heap.get?_push_of_some _ e)
  have I1:Inv X pins σ H { s with heap:=(s.heap.push { cls:=.type "list_iterator",data:=.fields #[.ref l,.int 0 0] }).push (seqObj "list" #[] 0),toks:=s.toks }:=I.kept (t':=s.toks) kp
  have hSI:s.heap.objs.size + 1 ≠ s.heap.objs.size:=Nat.ne_of_gt (Nat.lt_succ_self _)
  have hI0:∀ H',H' s.heap.objs.size=none->FpOk X pins H' s.heap.objs.size:=λ H' hn=>I.fpOk (Nat.le_refl _) hn
  have hS0:∀ H',H' (s.heap.objs.size + 1)=none->FpOk X pins H' (s.heap.objs.size + 1):=λ H' hn=>I.fpOk (Nat.le_succ _) hn
  have nI:H s.heap.objs.size=none:=I.hok.fresh (Nat.le_refl _)
  have nS:H (s.heap.objs.size + 1)=none:=I.hok.fresh (Nat.le_succ _)
  generalize (s.heap.push { cls:=.type "list_iterator",data:=.fields #[.ref l,.int 0 0] }).push (seqObj "list" #[] 0)=h1 at gI gS I1 ⊢
  refine wpAny_pure ⟨plainId_quiet PySem.F.plain_max_loop _,?_⟩
  refine codeAny_builtin PySem.F.entry_max_loop ?_
  rw[Around.under_plainId PySem.F.plain_max_loop _]
  show wpAny _ X.A.in1 (seqItems? (.ref (s.heap.objs.size + 1)) >>= _) _ _ _
  refine wpAny_bind (wpAny_seqItems gS rfl ?_)
  show wpAny _ X.A.in1 (tryCatch (pyNext (.ref s.heap.objs.size)) _ >>= _) _ _ _
  obtain⟨its,hv,hil⟩:=hsrc _ _ _ _ I1 hsr
  obtain⟨u,hu,ru⟩:=hv.get hx0
  refine wpAny_bind (wpAny_tryCatch (wpAny_pyNext_list_item (i:=0) ⟨_,gI,rfl,rfl⟩ hil (x:=u) (by simpa using hu) λ h' hit' hs'=>?_))
  obtain⟨oI',hoI',hoc,hod⟩:=id hit'
  have dI:∀ v,oI'.data ≠ .cell v:=λ v z=>by rw[hod]at z;cases z
  have hSh':h'.get? (s.heap.objs.size + 1)=some (seqObj "list" #[] 0):=(hs'.2 _ hSI).trans gS
  have J2:Inv X pins σ H { s with heap:=h',toks:=s.toks }:=(I1.repin (hI0 H nI) gI (λ v z=>by cases z)).turnE (hI0 H nI) λ c u n e=>(hs'.2 c n).trans e
  have J3:=(J2.repin (hI0 H nI) hoI' dI).repin ((hS0 H nS).more hSI.symm) hSh' (λ v z=>by cases z)
  show wpAny _ X.A.in1 (tryCatch (holding [u] (call (.ref f) [u])) _ >>= _) _ _ _
  refine wpAny_bind (wpAny_tryCatch (wpAny_holding (wpAny_mono (turn _ H _ x u _ (λ p hp=>List.mem_cons_of_mem _ (List.mem_cons_of_mem _ hp)) J3 ru hG hgo) (λ v s2 he=>?_) λ _ _ hF=>hF.elim)))
  obtain⟨k,H2,J4,rk,n,rfl,hgo2⟩:=he
  obtain⟨t2,rfl⟩:=rk
  have nS2:=J4.pin (s.heap.objs.size + 1,seqObj "list" #[] 0) (List.mem_append_right _ List.mem_cons_self)
  have nI2:=J4.pin (s.heap.objs.size,oI') (List.mem_append_right _ (List.mem_cons_of_mem _ List.mem_cons_self))
  have s1:=Heap.SameBut.update s2.heap (s.heap.objs.size + 1) (Obj.mapSeq λ _=>#[u,.int n t2])
  obtain⟨c2,hc2⟩:∃ c2,(s2.heap.update (s.heap.objs.size + 1) (Obj.mapSeq λ _=>#[u,.int n t2])).get? (s.heap.objs.size + 1)=some (seqObj "list" #[u,.int n t2] c2):=⟨_,get?_update_seq nS2.1 λ _=>#[u,.int n t2]⟩
  show wpAny _ X.A.in1 (updateSeq (s.heap.objs.size + 1) (λ _=>#[u,.int n t2]) >>= _) _ _ _
  refine wpAny_bind ?_
  refine wpAny_updateSeq nS2.1 rfl ?_
  rw[hname]
  have J5:Inv X ((s.heap.objs.size + 1,seqObj "list" #[] 0) :: pins) σ H2 s2:=J4.pins_of λ p hp=>by
    rcases List.mem_cons.mp hp with rfl|hp
    . exact nS2
    . exact J4.pin p (List.mem_append_right _ (List.mem_cons_of_mem _ (List.mem_cons_of_mem _ hp)))
  have J6:Inv X pins σ H2 { s2 with heap:=s2.heap.update (s.heap.objs.size + 1) (Obj.mapSeq λ _=>#[u,.int n t2]),toks:=s2.toks }:=J5.turnE (hS0 H2 nS2.2.1) λ c u n e=>(s1.2 c n).trans e
  have gI2:(s2.heap.update (s.heap.objs.size + 1) (Obj.mapSeq λ _=>#[u,.int n t2])).get? s.heap.objs.size=some oI':=(s1.2 _ hSI.symm).trans nI2.1
  have J7:=(J6.repin (hI0 H2 nI2.2.1) gI2 dI).repin ((hS0 H2 nS2.2.1).more hSI.symm) hc2 (λ v z=>by cases z)
  exact wpAny_pure ⟨plainId_quiet PySem.F.plain_max_loop _,RP hh hsrc hSI 0 hI0 hS0 turn m 1 x u n t2 c2 oI' H2 _ J7 ⟨oI',gI2,hoc,hod⟩ ru hgo2⟩
end
end L2
namespace L2
open PySem PySem.Spec PyProof.Rows PySem.W
noncomputable def NY(K:PySem.W.Frag)(P:Addr)(q:Str)(pos:Pos)(ix:List Nat)(te tb:TE):TE:=λ σ H Q=>te σ H λ v H1=>∃ (a:Addr) (m:Nat) (ps:Array Value),v=.ref a/\H1 P=some (.tbl ps)/\GB H1 q pos ps /\
  ∀ H2 c,TabStep P q pos H1 H2->H2 c=some (.ext (cdF c q))->MU (λ n m=>decide (n > m)) (λ H xs=>SqL K H a xs) (λ H=>H c=some (.ext (cdF c q))) tb (ix.map λ i=>(σ[i]?).join) m H2 Q
section
variable{X:Cx}{c P:Addr}{scope:Scope}{fr:List Str}{ix:List Nat}{prm:Str}{params:Arguments}{body e:Expr}{p pos lpos kpos:Pos}{te tb:TE}
theorem TK(LA:LamAt X c P)(S:CSc X scope fr ix)(L:LSc scope prm)(hr:Room 3 X.A)(hcm:X.calm=true)(hg:Gl X "max")(hm:X.mg "max"=none)
    (hbind:∀ (cl:List (Str × Addr)) (pm cd ctv us:Value),bindArgs (kla_fn "<lambda>" (X.env.qual ++ "<lambda>") params body scope cl pm cd ctv) ⟨[us],[]⟩=pure [(prm,us)])
    (he:PE X e te) (hb:∀ (f:Addr) (cd:Value) (s:Shared) (H:Hp),PE (lCx X X.A.in1 (prm :: fr) (X.env.qual ++ "<lambda>") scope f cd (Am X.env.cells scope.names []) s H) body tb)
    (hdef:defaultsOf params X.env=([],[]):=by rfl) (hs:starEach [e] X.env=[(false,eval e X.env)]:=by rfl) :
    PE X (.Call (.Name "max" p) [e] [⟨some "key",.Lambda params body scope lpos,kpos⟩] pos) (NY X.K P (X.env.qual ++ "<lambda>") lpos ix te tb):=by
  intro pins s σ H Q I h
  have PAe:PA X [e] (BZ te C8):=CJ he Cq hs
  refine wpAny_Call_Name_kw (Ds (u:=.builtin "max") I hg hm bt_max ?_)
  have pl:(backTo pos (starEach [e] X.env)).any (·.1)=false:=by rw[hs];rfl
  refine callWith_builtin_kwB pl rfl (evalArgs_kw2 (env:=X.env) (e:=e) (rest:=[]) (kws:=[⟨some "key",.Lambda params body scope lpos,kpos⟩]) rfl (thn (PAe pos pins s σ H (λ vs H1=>match vs with
    | [v]=>∃ (a:Addr) (m:Nat) (ps:Array Value),v=.ref a/\H1 P=some (.tbl ps)/\GB H1 (X.env.qual ++ "<lambda>") lpos ps /\
        ∀ H2 c,TabStep P (X.env.qual ++ "<lambda>") lpos H1 H2->H2 c=some (.ext (cdF c (X.env.qual ++ "<lambda>")))->MU (λ n m=>decide (n > m)) (λ H xs=>SqL X.K H a xs) (λ H=>H c=some (.ext (cdF c (X.env.qual ++ "<lambda>")))) tb (ix.map λ i=>(σ[i]?).join) m H2 Q
    | _=>False) I h) λ us s1 hq=>?_) hs)
  obtain⟨vs,H1,I1,r,q⟩:=hq
  match vs,q with
  | [v],q=>
  obtain⟨a,m,ps,rfl,hP,hg1,go⟩:=q
  obtain⟨u,rfl,ru⟩:=Cd r
  cases ru
  show wpAny _ _ (evalAll [(do let v <- eval (.Lambda params body scope lpos) X.env;standAt pos;pure v)]) _ _ s1
  refine wpAny_evalAll_cons (wpAny_bind (Lx S LA I1 hdef hP hg1 λ f cd ctv H2 s2 I2 M=>wpAny_bind (wpAny_standAt (wpAny_pure (wpAny_evalAll_nil ?_)))))
  show wpAny _ _ (call (.builtin "max") [.ref a] [(Str.ofString "key",.ref f)]) _ _ s2
  obtain⟨c',rfl,hc'⟩:=M.cdc
  have go':=go H2 c' M.step hc'
  have ff:FpOk X pins H2 f:=I1.fpOk M.new M.fre
  have I3:=I2.repin ff M.fn (λ v z=>by cases z)
  refine wpAny_mono (Ta (pins:=(f,_) :: pins) (I3.ok.hd hcm) I3 (λ pins' H' s' xs J hG=>?_) (λ pins' H' s' x u Q1 sub J ru hG hq=>?_) go') (λ v s' hv=>?_) λ _ _ z=>z
  . obtain⟨its,rv,pl2,hz⟩:=J.list hG
    exact⟨its,rv,pl2.isList⟩
  . have pf:=J.pin (f,_) (List.mem_append_right _ (sub _ List.mem_cons_self))
    exact Ly (A:=X.A.in1) (f:=f) S L J rfl (hr.in1.mono (by decide)) pf.1 (J.hok c' _ hG).1 (λ us=>hbind _ _ _ _ us) (λ s H=>hb f _ s H) ru hq
  . obtain⟨y,H',J,ry,qy⟩:=hv
    exact⟨y,H',J.pins_of λ p hp=>J.pin p (List.mem_append_right _ (List.mem_cons_of_mem _ hp)),ry,qy⟩
end
end L2
namespace L2
open PySem PySem.Spec PyProof.Rows PySem.W
open Classical in
noncomputable def Gw(mb:ME)(cap:Ls)(hd:Hd):List D->Option (List Int)
  | []=>some []
  | d :: r=>match mb (some d :: cap) hd with
    | some (.im (.int n),h)=>match Gw mb cap hd r with
      | some ks=>if h=hd then some (n :: ks)else none
      | none=>none
    | _=>none
noncomputable def EO(op:Int->Int->Bool):List D->List Int->D->Int->D
  | x :: r,n :: ns,b,kb=>if op n kb=true then EO op r ns x n else EO op r ns b kb
  | _,_,b,_=>b
noncomputable def Ho(op:Int->Int->Bool)(mi:ME)(ix:List Nat)(mb:ME):ME:=λ ls hd=>(mi ls hd).bind λ p=>(BI p.2 p.1).bind λ ds=>(Gw mb (ix.map λ i=>(ls[i]?).join) p.2 ds).bind λ kz=>match ds,kz with
  | d :: r,n :: ns=>some (EO op r ns d n,p.2)
  | _,_=>none
section
variable{K:PySem.W.Frag}{hd:Hd}
theorem On{ρ:List Addr}{H:Hp}{ls:Ls}{σ:St}{ix:List Nat}{d:D}{v:V}(L:RL K ρ H ls σ)(r:RD K ρ H d v):RL K ρ H (some d :: ix.map λ i=>(ls[i]?).join) (some v :: ix.map λ i=>(σ[i]?).join):=by
  refine⟨by simp,λ i d' ei=>?_⟩
  cases i with
  | zero=>cases ei;exact⟨v,rfl,r⟩
  | succ j=>
    have ei:(ix.map λ i=>(ls[i]?).join)[j]? = some (some d'):=ei
    rw[List.getElem?_map]at ei
    cases qj:ix[j]? with
    | none=>rw[qj]at ei;cases ei
    | some m=>
      rw[qj]at ei
      have ei:(ls[m]?).join=some d':=Option.some.inj ei
      have em:ls[m]? = some (some d'):=by
        cases w:ls[m]? with
        | none=>rw[w]at ei;cases ei
        | some z=>rw[w]at ei;simpa using ei
      obtain⟨v,ev,rv⟩:=L.ob m d' em
      refine⟨v,?_,rv⟩
      show(ix.map λ i=>(σ[i]?).join)[j]? = some (some v)
      rw[List.getElem?_map,qj]
      simp[ev]
theorem KJ{op:Int->Int->Bool}{tb:TE}{mb:ME}{ix:List Nat}{q:Str}{c a:Addr}{d1:D}{ds:List D}(hb:RE K tb mb){ls:Ls}{σ:St}(ev:BI hd d1=some ds):∀ (rs:List D) (ns:List Int) (j:Nat) (bd:D) (bv:V) (kb:Int) (ρ:List Addr) (H:Hp) (Q:VK),ds.drop j=rs->j <= ds.length ->
    Gw mb (ix.map λ i=>(ls[i]?).join) hd rs=some ns->RH K ρ H hd->RL K ρ H ls σ->H c=some (.ext (cdF c q))->RD K ρ H d1 (.ref a)->RD K ρ H bd bv ->
    (∀ ρ' H' v,Ext ρ H ρ' H'->RH K ρ' H' hd->RD K ρ' H' (EO op rs ns bd kb) v->Q v H') ->
    I0 op (λ H xs=>SqL K H a xs) (λ H=>H c=some (.ext (cdF c q))) tb (ix.map λ i=>(σ[i]?).join) rs.length j bv kb H Q
  | [],ns,j,bd,bv,kb,ρ,H,Q,hr,hj,e,R,L,hc,r1,rb,k=>by
    obtain⟨a',xs,ea,sq,rs⟩:=RD.lst R r1 ev
    cases ea
    have hl:=rs.len
    have hd0:=congrArg List.length hr
    simp at hd0
    refine⟨⟨xs,sq,by omega⟩,k ρ H bv .refl R ?_⟩
    cases e
    exact rb
  | x :: r,ns,j,bd,bv,kb,ρ,H,Q,hr,hj,e,R,L,hc,r1,rb,k=>by
    obtain⟨a',xs,ea,sq,rs⟩:=RD.lst R r1 ev
    cases ea
    have hjl:j < ds.length:=by
      have:=congrArg List.length hr
      simp at this;omega
    have hxj:ds[j]? = some x:=by
      rw[List.drop_eq_getElem_cons hjl]at hr
      rw[List.getElem?_eq_getElem hjl,(List.cons.inj hr).1]
    have hr':ds.drop (j + 1)=r:=by
      rw[List.drop_eq_getElem_cons hjl]at hr
      exact(List.cons.inj hr).2
    obtain⟨v,hv,rv⟩:=rs.get hxj
    unfold Gw at e
    split at e
    . next n h e1=>
      split at e
      . next ks e2=>
        split at e
        . next eh=>
          cases e
          rw[eh]at e1
          refine⟨xs,v,sq,hv,hc,hb ρ _ H _ _ _ (.im (.int n)) _ R (On L rv) e1 λ ρ1 H1 v1 x1 R1 rk=>?_⟩
          simp only[RD,RI]at rk
          subst rk
          have oc:c ∉ ρ:=λ m=>by rcases R.mut m with⟨y,w⟩|⟨y,w⟩ <;> (rw[hc]at w;cases w)
          refine⟨n,rfl,?_⟩
          by_cases hop:op n kb=true
          . rw[if_pos hop]
            refine KJ hb ev r ks (j + 1) x v n ρ1 H1 Q hr' hjl e2 R1 (L.ext R x1) (x1.keep c _ hc oc nt) (r1.ext R x1) (rv.ext R x1) λ ρ2 H2 w x2 R2 r2=>k ρ2 H2 w (x1.trans R1 x2) R2 ?_
            rw[EO,if_pos hop];exact r2
          . rw[if_neg hop]
            refine KJ hb ev r ks (j + 1) bd bv kb ρ1 H1 Q hr' hjl e2 R1 (L.ext R x1) (x1.keep c _ hc oc nt) (r1.ext R x1) (rb.ext R x1) λ ρ2 H2 w x2 R2 r2=>k ρ2 H2 w (x1.trans R1 x2) R2 ?_
            rw[EO,if_neg hop];exact r2
        . cases e
      . cases e
    . cases e
theorem Sg{te tb:TE}{mi mb:ME}{P:Addr}{q:Str}{pos:Pos}{ix:List Nat}(hi:RE K te mi)(hb:RE K tb mb)(TI:IW K P q pos):RE K (NY K P q pos ix te tb) (Ho (λ n m=>decide (n > m)) mi ix mb):=by
  intro ρ σ H hd ls Q d hd' hR hL hm hQ
  obtain⟨⟨d1,h1⟩,e1,hm⟩:=Option.bind_eq_some_iff.mp hm
  obtain⟨ds,e2,hm⟩:=Option.bind_eq_some_iff.mp hm
  obtain⟨kz,e3,hm⟩:=Option.bind_eq_some_iff.mp hm
  dsimp only at hm e2 e3
  split at hm
  . next x r n ns _=>
    cases hm
    refine hi ρ σ H hd ls _ d1 _ hR hL e1 λ ρ1 H1 v1 x1 R1 r1=>?_
    obtain⟨a,xs,rfl,sq,rs⟩:=RD.lst R1 r1 e2
    obtain⟨p',et,_,l1,l2⟩:=id TI
    obtain⟨ps,hP,hG⟩:=R1.tabs (P,q,p') et
    have hG':GB H1 q pos ps:=by
      rcases hG with g|⟨c,g1,g2⟩
      . exact .inl g
      . refine .inr ⟨c,?_,g2⟩
        rw[g1]
        show #[rawInt p'.line,rawInt p'.col,Value.ref c]=_
        rw[l1,l2]
    refine⟨a,r.length,ps,rfl,hP,hG',λ H2 c step hc=>?_⟩
    obtain⟨R2,x2⟩:=LD R1 hP step TI
    have x12:=x1.trans R1 x2
    have L2':=hL.ext hR x12
    have r2:=r1.ext R1 x2
    obtain⟨a',xs,ea,sq,rs⟩:=RD.lst R2 r2 e2
    cases ea
    obtain⟨v,hv,rv⟩:=rs.get (i:=0) (d:=x) rfl
    unfold Gw at e3
    split at e3
    . next n' h e4=>
      split at e3
      . next ks e5=>
        split at e3
        . next eh=>
          cases e3
          rw[eh]at e4
          refine⟨xs,v,sq,hv,hc,hb ρ1 _ H2 _ _ _ (.im (.int n)) _ R2 (On L2' rv) e4 λ ρ3 H3 v3 x3 R3 rk=>?_⟩
          simp only[RD,RI]at rk
          subst rk
          have oc:c ∉ ρ1:=λ m=>by rcases R2.mut m with⟨y,w⟩|⟨y,w⟩ <;> (rw[hc]at w;cases w)
          refine⟨n,rfl,KJ hb e2 r ns 1 x v n ρ3 H3 Q rfl (by simp) e5 R3 (L2'.ext R2 x3) (x3.keep c _ hc oc nt) (r2.ext R2 x3) (rv.ext R2 x3) λ ρ4 H4 w x4 R4 r4=>hQ ρ4 H4 w ((x12.trans R2 x3).trans R3 x4) R4 r4⟩
        . cases e3
      . cases e3
    . cases e3
  . cases hm
end
end L2
namespace L2
open PySem PySem.Spec PyProof.Rows PySem.W
section
variable{X:Cx}{pins:List (Addr × Obj)}{σ:St}{l f It S:Addr}{src:Hp->List V->Prop}{G:Hp->Prop}{tb:TE}{cap:St}{Q:VK}{E:Value->Shared->Prop}
end
section
variable{X:Cx}{c P:Addr}{scope:Scope}{fr:List Str}{ix:List Nat}{prm:Str}{params:Arguments}{body e:Expr}{p pos lpos kpos:Pos}{te tb:TE}
end
section
variable{K:PySem.W.Frag}{hd:Hd}
end
theorem Sy(K:PySem.W.Frag){X:Cx}{c P:Addr}{scope:Scope}{fr:List Str}{ix:List Nat}{prm:Str}{params:Arguments}{body e:Expr}{p pos lpos kpos:Pos}{te tb:TE}{mi mb:ME}{k:Nat}(LA:LamAt X c P)(TI:IW K P (X.env.qual ++ "<lambda>") lpos)(S:CSc X scope fr ix)(L:LSc scope prm)(hr:Room k X.A)(h3:3 <= k)(hm:X.mg "max"=none)
    (he:QE K X e te mi) (hb:∀ (f:Addr) (cd:Value) (s:Shared) (H:Hp),QE K (lCx X X.A.in1 (prm :: fr) (X.env.qual ++ "<lambda>") scope f cd (Am X.env.cells scope.names []) s H) body tb mb)
    (hbind:∀ (cl:List (Str × Addr)) (pm cd ctv us:Value),bindArgs (kla_fn "<lambda>" (X.env.qual ++ "<lambda>") params body scope cl pm cd ctv) ⟨[us],[]⟩=pure [(prm,us)])
    (hcm:X.calm=true:=by rfl) (hg:Gl X "max":=by rfl) (hdef:defaultsOf params X.env=([],[]):=by rfl) (hs:starEach [e] X.env=[(false,eval e X.env)]:=by rfl) (hK:X.K=K:=by rfl) :
    QE K X (.Call (.Name "max" p) [e] [⟨some "key",.Lambda params body scope lpos,kpos⟩] pos) (NY K P (X.env.qual ++ "<lambda>") lpos ix te tb) (Ho (λ n m=>decide (n > m)) mi ix mb):=by
  subst hK
  exact⟨TK LA S L (hr.mono h3) hcm hg hm hbind he.p (λ f cd s H=>(hb f cd s H).p) hdef hs,Sg he.r (hb 0 .none X.s₀ X.H₀).r TI⟩
theorem Px{op:Int->Int->Bool}{mi mb:ME}{ix:List Nat}{ls:Ls}{hd:Hd}{QE:D->Hd->Prop}(h:WE mi ls hd λ d x=>∃ (e:D) (es:List D) (kf:D->Int),BI x d=some (e :: es)/\(∀ y ∈ e :: es,mb (some y :: ix.map λ i=>(ls[i]?).join) x=some (.im (.int (kf y)),x))/\QE (EO op es (es.map kf) e (kf e)) x):WE (Ho op mi ix mb) ls hd QE:=by
  obtain⟨d,x,e1,e,es,kf,e2,ek,q⟩:=h
  have go:∀ ys:List D,(∀ y ∈ ys,mb (some y :: ix.map λ i=>(ls[i]?).join) x=some (.im (.int (kf y)),x))->Gw mb (ix.map λ i=>(ls[i]?).join) x ys=some (ys.map kf):=by
    intro ys
    induction ys with
    | nil=>intro _;rfl
    | cons y r ih=>
      intro h
      unfold Gw
      rw[h y List.mem_cons_self,ih λ z hz=>h z (List.mem_cons_of_mem _ hz)]
      simp
  refine⟨_,x,?_,q⟩
  simp only[Ho,e1,Option.bind_some,e2,go _ ek,List.map_cons]
theorem J0(kf:D->Int):∀ (es:List D) (b:D),EO (λ n m=>decide (n > m)) es (es.map kf) b (kf b) ∈ b :: es/\∀ y ∈ b :: es,kf y <= kf (EO (λ n m=>decide (n > m)) es (es.map kf) b (kf b))
  | [],b=>⟨List.mem_cons_self,λ y hy=>by rw[List.mem_singleton]at hy;subst hy;exact Int.le_refl _⟩
  | e :: es,b=>by
    rw[List.map_cons,EO]
    by_cases h:kf e > kf b
    . rw[if_pos (by simpa using h)]
      obtain⟨h1,h2⟩:=J0 kf es e
      refine⟨List.mem_cons_of_mem _ h1,λ y hy=>?_⟩
      rcases List.mem_cons.mp hy with rfl|hy
      . have:=h2 e List.mem_cons_self;omega
      . exact h2 y hy
    . rw[if_neg (by simpa using h)]
      obtain⟨h1,h2⟩:=J0 kf es b
      refine⟨?_,λ y hy=>?_⟩
      . rcases List.mem_cons.mp h1 with q|q
        . rw[q];exact List.mem_cons_self
        . exact List.mem_cons_of_mem _ (List.mem_cons_of_mem _ q)
      . rcases List.mem_cons.mp hy with rfl|hy
        . exact h2 y List.mem_cons_self
        . rcases List.mem_cons.mp hy with rfl|hy
          . have:=h2 b List.mem_cons_self;omega
          . exact h2 y (List.mem_cons_of_mem _ hy)
end L2
namespace T41
open PySem L2
noncomputable def top(i:Nat):Stmt:=PySem.Challenge.pw_benchdays_k41_whole_put_out_is_fewest.main.body.getD i (.Pass ⟨0,0,0,0⟩)
noncomputable abbrev CD:Stmt:=top 5
theorem LR:FnScope ["thing"] ["thing"] (A9 CD):=⟨rfl,rfl,rfl,by decide +kernel,rfl,by decide +kernel,by decide +kernel⟩
@[reducible] noncomputable def Ia:MS:=(Av (Gu (Ft .int (A2 0)) (Jb (Ft .bool (A2 0)))))
noncomputable def EL:List D->Hd->Option (D × Hd):=mkF 1 1 Ia
noncomputable abbrev Bk:Stmt:=top 6
theorem Jv:FnScope ["many","thing"] ["many","thing"] (A9 Bk):=⟨rfl,rfl,rfl,by decide +kernel,rfl,by decide +kernel,by decide +kernel⟩
@[reducible] noncomputable def HM:MS:=(Av (Gu (Ft .tuple (A2 1)) (mOp gEq (mCB (f1 true C1) (A4 (A2 1) AC)) (A2 0))))
noncomputable def CZ:List D->Hd->Option (D × Hd):=mkF 2 2 HM
noncomputable abbrev CC:Stmt:=top 8
theorem LQ:FnScope ["works","some"] ["works","some"] (A9 CC):=⟨rfl,rfl,rfl,by decide +kernel,rfl,by decide +kernel,by decide +kernel⟩
@[reducible] noncomputable def IZ:MS:=(Av (DH Hr (Bf 1 [0] (DX (A2 1)) (AU 0) Dp (mOp gIx (mOp gIx (A2 1) (A2 0)) (mC (.int 0))))))
noncomputable def EK:List D->Hd->Option (D × Hd):=mkF 2 2 IZ
noncomputable abbrev Bi:Stmt:=top 9
theorem sc_same_coming:FnScope ["works","coming"] ["works"] (A9 Bi):=⟨rfl,rfl,rfl,by decide +kernel,rfl,by decide +kernel,by decide +kernel⟩
@[reducible] noncomputable def HJ:MS:=(AN (Aj 1 (mOp gIx (mOp gIx (A2 0) (mC (.int 0))) (mC (.int 1))))
    (AN (BK (Ct (DH RX (Bf 1 [1] (Cu (A2 0)) (AU 0) Dp (mOp gEq (mOp gIx (A2 0) (mC (.int 1))) (A2 1)))))
      (Av (A2 1))
      B9)
    (Av (mC .non))))
noncomputable def DS:List D->Hd->Option (D × Hd):=mkF 1 2 HJ
noncomputable abbrev Bt:Stmt:=top 10
theorem sc_one_coming:FnScope ["works","coming"] ["works"] (A9 Bt):=⟨rfl,rfl,rfl,by decide +kernel,rfl,by decide +kernel,by decide +kernel⟩
@[reducible] noncomputable def Hk:MS:=(AN (Aj 1 (AG 0 DS (A4 (A2 0) AC)))
    (AN (BK (AX (Dr false (A2 1)))
      Dq
      B9)
    (Av (A2 1))))
noncomputable def Dx:List D->Hd->Option (D × Hd):=mkF 1 2 Hk
noncomputable abbrev Aw:Stmt:=top 11
theorem GM:FnScope ["works","word"] ["works","word"] (A9 Aw):=⟨rfl,rfl,rfl,by decide +kernel,rfl,by decide +kernel,by decide +kernel⟩
@[reducible] noncomputable def Eh:MS:=(BK (Ct (DH M2 (Bf 1 [1] (Cu (A2 0)) (AU 0) Dp (mOp gNe (mOp gIx (mOp gIx (A2 0) (mC (.int 2))) (mC (.int 0))) (A2 1)))))
      Dq
      B9)
noncomputable def Bg:List D->Hd->Option (D × Hd):=mkF 2 2 Eh
noncomputable abbrev Bp:Stmt:=top 12
theorem LP:FnScope ["work"] ["work"] (A9 Bp):=⟨rfl,rfl,rfl,by decide +kernel,rfl,by decide +kernel,by decide +kernel⟩
@[reducible] noncomputable def IY:MS:=(Av (mOp gIx (mOp gIx (A2 0) (mC (.int 2))) (Ir (mC (.int 1)))))
noncomputable def CF:List D->Hd->Option (D × Hd):=mkF 1 1 IY
noncomputable abbrev Bs:Stmt:=top 13
theorem sc_one_weight:FnScope ["works","weight"] ["works"] (A9 Bs):=⟨rfl,rfl,rfl,by decide +kernel,rfl,by decide +kernel,by decide +kernel⟩
@[reducible] noncomputable def Hj:MS:=(AN (Aj 1 (AG 0 CF (A4 (mOp gIx (A2 0) (mC (.int 0))) AC)))
    (AN (BK (Ct (DH M2 (Bf 1 [1] (Cu (A2 0)) (AU 0) Dp (mOp gNe (AG 0 CF (A4 (A2 0) AC)) (A2 1)))))
      Dq
      B9)
    (Av (A2 1))))
noncomputable def Dw:List D->Hd->Option (D × Hd):=mkF 1 2 Hj
noncomputable abbrev BB:Stmt:=top 15
theorem sc_late_coming:FnScope ["works","coming"] ["works"] (A9 BB):=⟨rfl,rfl,rfl,by decide +kernel,rfl,by decide +kernel,by decide +kernel⟩
@[reducible] noncomputable def HL:MS:=(AN (Aj 1 (AG 0 Dx (A4 (A2 0) AC)))
    (AN (Cj (AG 0 Bg (A4 (A2 0) (A4 (mC (.str "miss")) AC))))
    (Av (A2 1))))
noncomputable def BD:List D->Hd->Option (D × Hd):=mkF 1 2 HL
noncomputable abbrev BY:Stmt:=top 16
theorem Nj:FnScope ["works"] ["works"] (A9 BY):=⟨rfl,rfl,rfl,by decide +kernel,rfl,by decide +kernel,by decide +kernel⟩
@[reducible] noncomputable def KS:MS:=(Av (Cn (N8 (A4 (mCB (f1 true C1) (A4 (A2 0) AC)) AC) [0] (Bw (A4 (mOp gIx (mOp gIx (mOp gIx (A2 1) (A2 0)) (mC (.int 2))) (mC (.int 1))) (A4 (A2 0) AC))))))
noncomputable def Cl:List D->Hd->Option (D × Hd):=mkF 1 1 KS
noncomputable abbrev BM:Stmt:=top 17
theorem Jw:FnScope ["works"] ["works"] (A9 BM):=⟨rfl,rfl,rfl,by decide +kernel,rfl,by decide +kernel,by decide +kernel⟩
@[reducible] noncomputable def HN:MS:=(Av (DH Hr (Bf 1 [] (Cu (A2 0)) (AU 0) Dp (AG 0 CF (A4 (A2 0) AC)))))
noncomputable def BV:List D->Hd->Option (D × Hd):=mkF 1 1 HN
noncomputable abbrev CB:Stmt:=top 18
theorem Ni:FnScope ["one","other"] ["one","other"] (A9 CB):=⟨rfl,rfl,rfl,by decide +kernel,rfl,by decide +kernel,by decide +kernel⟩
@[reducible] noncomputable def KR:MS:=(Av (Lr (Dr false (A2 1)) (Gu (Dr true (A2 0)) (mOp gLe (A2 0) (A2 1)))))
noncomputable def CG:List D->Hd->Option (D × Hd):=mkF 2 2 KR
noncomputable abbrev Bc:Stmt:=top 19
theorem sc_put_behind:FnScope ["row","work","w","length","coming","word","due","weight","end"] ["row","work","w"] (A9 Bc):=⟨rfl,rfl,rfl,by decide +kernel,rfl,by decide +kernel,by decide +kernel⟩
@[reducible] noncomputable def Hi:MS:=(AN (Iu (A2 1) (Dm 3 (Au (AU 3) (Au (AU 4) (Au (Dm 3 (Au (AU 5) (Au (AU 6) (Au (AU 7) Dn)))) Dn)))))
    (AN (BK (mOr (AX (mOp gLt (A2 2) (A2 7))) (AX (Dr false (mOp gIx (A2 0) (mOp E5 (A2 2) (A2 7))))))
      (Av (mC .non))
      B9)
    (AN (Aj 8 (mOp BA (mOp gIx (A2 0) (mOp E5 (A2 2) (A2 7))) (A2 3)))
    (Av (mIf (AX (mOp gLe (A2 8) (A2 6))) (A2 8) (mC .non))))))
noncomputable def CU:List D->Hd->Option (D × Hd):=mkF 3 9 Hi
noncomputable abbrev BE:Stmt:=top 20
theorem HY:FnScope ["table"] ["table"] (A9 BE):=⟨rfl,rfl,rfl,by decide +kernel,rfl,by decide +kernel,by decide +kernel⟩
@[reducible] noncomputable def FS:MS:=(Av (DH M1 (Bf 2 [] (DZ (Cu (mOp gIx (A2 0) (Ir (mC (.int 1)))))) (Dm 2 (Au (AU 0) (Au (AU 1) Dn))) (AX (Dr true (A2 1))) (A2 0))))
noncomputable def C6:List D->Hd->Option (D × Hd):=mkF 1 1 FS
noncomputable abbrev BR:Stmt:=top 21
theorem sc_look_at_shape:FnScope ["works","thing","path","many","k","row","w","entry"] ["works","thing","path"] (A9 BR):=⟨rfl,rfl,rfl,by decide +kernel,rfl,by decide +kernel,by decide +kernel⟩
@[reducible] noncomputable def G7:MS:=(AN (BK (ET (Ct (AG 0 CZ (A4 (mOp BA (mCB (f1 true C1) (A4 (A2 0) AC)) (mC (.int 1))) (A4 (A2 1) AC)))))
      Dq
      B9)
    (AN (Aj 3 (mOp BA (AG 0 BV (A4 (A2 0) AC)) (mC (.int 1))))
    (DI (DZ (Cu (A2 1))) (Dm 2 (Au (AU 4) (Au (AU 5) Dn)))
      (AN (BK (ET (Ct (AG 0 CZ (A4 (A2 3) (A4 (A2 5) AC)))))
      Dq
      B9)
    (DI (DZ (Cu (A2 5))) (Dm 2 (Au (AU 6) (Au (AU 7) Dn)))
      (BK (Gv (AX (Dr true (A2 7))) (ET (Ct (AG 0 EL (A4 (A2 7) AC)))))
      Dq
      B9))))))
noncomputable def Ck:List D->Hd->Option (D × Hd):=mkF 3 8 G7
noncomputable abbrev Bj:Stmt:=top 22
theorem sc_look_at_row:FnScope ["work","above","row","path","w","entry"] ["work","above","row","path"] (A9 Bj):=⟨rfl,rfl,rfl,by decide +kernel,rfl,by decide +kernel,by decide +kernel⟩
@[reducible] noncomputable def HK:MS:=(DI (DZ (Cu (A2 2))) (Dm 2 (Au (AU 4) (Au (AU 5) Dn)))
      (AN (BK (ET (Ct (AG 0 CG (A4 (A2 5) (A4 (mOp gIx (A2 1) (A2 4)) AC)))))
      Dq
      B9)
    (BK (ET (Ct (AG 0 CG (A4 (A2 5) (A4 (AG 0 CU (A4 (A2 1) (A4 (A2 0) (A4 (A2 4) AC)))) AC)))))
      Dq
      B9)))
noncomputable def DT:List D->Hd->Option (D × Hd):=mkF 4 6 HK
noncomputable abbrev BJ:Stmt:=top 23
theorem sc_look_at_places:FnScope ["works","table","path","k","j"] ["works","table","path"] (A9 BJ):=⟨rfl,rfl,rfl,by decide +kernel,rfl,by decide +kernel,by decide +kernel⟩
@[reducible] noncomputable def Fr:MS:=(AN (BK (ET (Ct (AG 0 CG (A4 (mOp gIx (mOp gIx (A2 1) (mC (.int 0))) (mC (.int 0))) (A4 (AG 0 BD (A4 (A2 0) AC)) AC)))))
      Dq
      B9)
    (DI (Hn (DX (AG 0 Cl (A4 (A2 0) AC)))) (Dm 2 (Au (AU 3) (Au (AU 4) Dn)))
      (Cj (AG 0 DT (A4 (mOp gIx (A2 0) (A2 4)) (A4 (mOp gIx (A2 1) (mOp E5 (A2 3) (mC (.int 1)))) (A4 (mOp gIx (A2 1) (A2 3)) (A4 (mOp ON (A2 2) (Bw (A4 (A2 3) AC))) AC))))))))
noncomputable def CV:List D->Hd->Option (D × Hd):=mkF 3 5 Fr
noncomputable abbrev Bu:Stmt:=top 24
theorem Km:FnScope ["works","thing"] ["works","thing"] (A9 Bu):=⟨rfl,rfl,rfl,by decide +kernel,rfl,by decide +kernel,by decide +kernel⟩
@[reducible] noncomputable def Hl:MS:=(AN (Cj (AG 0 BD (A4 (A2 0) AC)))
    (AN (Cj (AG 0 Ck (A4 (A2 0) (A4 (A2 1) (A4 (Bw AC) AC)))))
    (AN (Cj (AG 0 CV (A4 (A2 0) (A4 (A2 1) (A4 (Bw AC) AC)))))
    (Av (mOp E5 (AG 0 BV (A4 (A2 0) AC)) (AG 0 C6 (A4 (A2 1) AC)))))))
noncomputable def Dy:List D->Hd->Option (D × Hd):=mkF 2 2 Hl
noncomputable abbrev Cg:Stmt:=top 26
theorem sc_next_row:FnScope ["above","work","row","w","kept","more"] ["above","work"] (A9 Cg):=⟨rfl,rfl,rfl,by decide +kernel,rfl,by decide +kernel,by decide +kernel⟩
@[reducible] noncomputable def JW:MS:=(AN (Aj 2 (Cn (EU AC)))
    (AN (DI (DZ (Cu (A2 0))) (Dm 2 (Au (AU 3) (Au (AU 4) Dn)))
      (AN (Aj 5 (AG 0 CU (A4 (A2 0) (A4 (A2 1) (A4 (A2 3) AC)))))
    (Cj (mMt CW (A2 2) (A4 (mIf (Ct (AG 0 CG (A4 (A2 4) (A4 (A2 5) AC)))) (A2 4) (A2 5)) AC)))))
    (Av (mCB (f1 true FL) (A4 (A2 2) AC)))))
noncomputable def Em:List D->Hd->Option (D × Hd):=mkF 2 6 JW
noncomputable abbrev Cf:Stmt:=top 27
theorem sc_table_of:FnScope ["works","coming","rows","j"] ["works"] (A9 Cf):=⟨rfl,rfl,rfl,by decide +kernel,rfl,by decide +kernel,by decide +kernel⟩
@[reducible] noncomputable def JV:MS:=(AN (Aj 1 (AG 0 BD (A4 (A2 0) AC)))
    (AN (Aj 2 (Cn (EU (A4 (mOp BA (Bw (A4 (A2 1) AC)) (Ja (Bw (A4 (mC .non) AC)) (AG 0 BV (A4 (A2 0) AC)))) AC))))
    (AN (DI (DX (AG 0 Cl (A4 (A2 0) AC))) (AU 3)
      (Cj (mMt CW (A2 2) (A4 (AG 0 Em (A4 (mOp gIx (A2 2) (Ir (mC (.int 1)))) (A4 (mOp gIx (A2 0) (A2 3)) AC))) AC))))
    (Av (mCB (f1 true FL) (A4 (A2 2) AC))))))
noncomputable def El:List D->Hd->Option (D × Hd):=mkF 1 4 JV
noncomputable abbrev Br:Stmt:=top 29
theorem sc_put_out:FnScope ["works","coming","kept","j"] ["works"] (A9 Br):=⟨rfl,rfl,rfl,by decide +kernel,rfl,by decide +kernel,by decide +kernel⟩
@[reducible] noncomputable def KQ:MS:=(AN (Aj 1 (AG 0 BD (A4 (A2 0) AC)))
    (AN (Cj (AG 0 Dw (A4 (A2 0) AC)))
    (AN (Aj 2 (Cn (EU AC)))
    (AN (DI (DX (AG 0 Cl (A4 (A2 0) AC))) (AU 3)
      (AN (Cj (mMt CW (A2 2) (A4 (A2 3) AC)))
    (BK (AX (mOp gGt (mOp BA (A2 1) (AG 1 EK (A4 (A2 0) (A4 (A2 2) AC)))) (mOp gIx (mOp gIx (mOp gIx (A2 0) (A2 3)) (mC (.int 2))) (mC (.int 1)))))
      (Cj (mMt IU (A2 2) (A4 (Ho (λ n m=>decide (n > m)) (A2 2) [0] (mOp gIx (mOp gIx (A2 1) (A2 0)) (mC (.int 0)))) AC)))
      B9)))
    (Av (Bw (A4 (DH FL (DV (DX (A2 2)))) (A4 (DH FL (Bf 1 [2] (GD (A4 (mCB (f1 true C1) (A4 (A2 0) AC)) AC)) (AU 0) (AX (mOp (gIn true) (A2 0) (A2 1))) (A2 0))) AC))))))))
noncomputable def FO:List D->Hd->Option (D × Hd):=mkF 1 4 KQ
noncomputable abbrev Dg:Stmt:=top 31
theorem Ol:FnScope ["_law_script"] ["_law_script"] (A9 Dg):=⟨rfl,rfl,rfl,by decide +kernel,rfl,by decide +kernel,by decide +kernel⟩
@[reducible] noncomputable def Lp:MS:=(Av (Kx [((mC (.str "cells")),(Cn (Jc (Ip (A2 0) Ev (Gp (mC (.int 63))))))),((mC (.str "at")),(mC (.int 0))),((mC (.str "rest")),(mC (.int 0))),((mC (.str "count")),(mC (.int 0)))]))
noncomputable def Fw:List D->Hd->Option (D × Hd):=mkF 1 1 Lp
noncomputable abbrev EB:Stmt:=top 32
theorem sc_pick:FnScope ["_law_source_here","_law_many","_law_found","_law_cells","_law_cell","_law_mixed"] ["_law_source_here","_law_many"] (A9 EB):=⟨rfl,rfl,rfl,by decide +kernel,rfl,by decide +kernel,by decide +kernel⟩
@[reducible] noncomputable def PN:MS:=(AN (Gs (A2 0) (mC (.str "count")) (mOp BA (mOp Db (A2 0) (mC (.str "count"))) (mC (.int 1))))
    (AN (BK (AX (mOp gGt (mOp Db (A2 0) (mC (.str "rest"))) (mC (.int 0))))
      (AN (Aj 2 (mOp Hs (mOp Db (A2 0) (mC (.str "rest"))) (A2 1)))
    (AN (Gs (A2 0) (mC (.str "rest")) (mOp IS (mOp Db (A2 0) (mC (.str "rest"))) (A2 1)))
    (Av (A2 2))))
      B9)
    (AN (Aj 3 (mOp Db (A2 0) (mC (.str "cells"))))
    (AN (Aj 4 (mIf (AX (Gq true (A2 3) (EU AC))) (mOp gIx (A2 3) (mOp Hs (mOp Db (A2 0) (mC (.str "at"))) (mCB (f1 true C1) (A4 (A2 3) AC)))) (mC (.int 11))))
    (AN (Gs (A2 0) (mC (.str "at")) (mOp BA (mOp Db (A2 0) (mC (.str "at"))) (mC (.int 1))))
    (AN (BK (Gv (AX (mOp gGe (A2 4) (mOp VN (mC (.int 10)) (mC (.int 18))))) (AX (mOp gLe (mOp Db (A2 0) (mC (.str "at"))) (mCB (f1 true C1) (A4 (A2 3) AC)))))
      (AN (Gs (A2 0) (mC (.str "rest")) (mOp IS (A2 4) (A2 1)))
    (Av (mOp Hs (A2 4) (A2 1))))
      B9)
    (AN (Aj 5 (mOp BA (mOp Hs (A2 4) (mC (.int 1073741827))) (mOp HA (mC (.int 611953)) (mOp Db (A2 0) (mC (.str "count"))))))
    (AN (Aj 5 (mOp Hs (mOp BA (mOp BA (mOp HA (A2 5) (A2 5)) (mOp HA (mC (.int 3)) (mOp Db (A2 0) (mC (.str "count"))))) (mC (.int 7))) (mC (.int 2147483543))))
    (AN (Aj 5 (mOp Hs (mOp BA (mOp BA (mOp HA (A2 5) (A2 5)) (mOp HA (mC (.int 69069)) (mOp Db (A2 0) (mC (.str "count"))))) (mC (.int 1))) (mC (.int 2147483497))))
    (Av (mOp Hs (mOp IS (A2 5) (mC (.int 256))) (A2 1))))))))))))
noncomputable def Az:List D->Hd->Option (D × Hd):=mkF 2 6 PN
noncomputable abbrev Bv:Stmt:=top 33
theorem sc_late_works:FnScope ["_law_source_here","_law_most","_law_many","_law_coming","_law_longest","_law_heaviest","_law_span","_law_works","_law_k","_law_way","_law_length","_law_due","_law_weight","_law_work"] ["_law_source_here","_law_most"] (A9 Bv):=⟨rfl,rfl,rfl,by decide +kernel,rfl,by decide +kernel,by decide +kernel⟩
@[reducible] noncomputable def Hm:MS:=(AN (Aj 2 (mOp BA (mC (.int 1)) (AG 2 Az (A4 (A2 0) (A4 (A2 1) AC)))))
    (AN (Aj 3 (AG 2 Az (A4 (A2 0) (A4 (mC (.int 61)) AC))))
    (AN (Aj 4 (K6 (EU (A4 (mC (.int 20)) (A4 (mC (.int 5)) (A4 (mC (.int 2)) AC)))) (AG 2 Az (A4 (A2 0) (A4 (mC (.int 3)) AC)))))
    (AN (Aj 5 (K6 (EU (A4 (mC (.int 9)) (A4 (mC (.int 3)) (A4 (mC (.int 1)) AC)))) (AG 2 Az (A4 (A2 0) (A4 (mC (.int 3)) AC)))))
    (AN (Aj 6 (mOp BA (mC (.int 2)) (mOp IS (mOp HA (A2 2) (A2 4)) (mOp BA (mC (.int 1)) (AG 2 Az (A4 (A2 0) (A4 (mC (.int 2)) AC)))))))
    (AN (Aj 7 (Cn (EU AC)))
    (AN (DI (GD (A4 (A2 2) AC)) (AU 8)
      (AN (Aj 9 (AG 2 Az (A4 (A2 0) (A4 (mC (.int 6)) AC))))
    (AN (Aj 10 (mOp BA (mC (.int 1)) (AG 2 Az (A4 (A2 0) (A4 (A2 4) AC)))))
    (AN (Aj 11 (mOp BA (mOp E5 (A2 3) (mC (.int 1))) (AG 2 Az (A4 (A2 0) (A4 (A2 6) AC)))))
    (AN (Aj 12 (AG 2 Az (A4 (A2 0) (A4 (mOp BA (A2 5) (mC (.int 1))) AC))))
    (AN (BK (AX (mOp gEq (A2 9) (mC (.int 0))))
      (Aj 11 (mOp E5 (AG 2 Az (A4 (A2 0) (A4 (mC (.int 500)) AC))) (mC (.int 99))))
      B9)
    (AN (BK (Gv (AX (mOp gEq (A2 9) (mC (.int 1)))) (AX (mOp gGt (A2 8) (mC (.int 0)))))
      (Aj 11 (mOp gIx (mOp gIx (mOp gIx (A2 7) (AG 2 Az (A4 (A2 0) (A4 (A2 8) AC)))) (mC (.int 2))) (mC (.int 1))))
      B9)
    (AN (Aj 13 (Bw (A4 (A2 10) (A4 (A2 3) (A4 (Bw (A4 (mC (.str "miss")) (A4 (A2 11) (A4 (A2 12) AC)))) AC)))))
    (AN (BK (Gv (AX (mOp gEq (A2 9) (mC (.int 2)))) (AX (mOp gGt (A2 8) (mC (.int 0)))))
      (Aj 13 (mOp gIx (A2 7) (AG 2 Az (A4 (A2 0) (A4 (A2 8) AC)))))
      B9)
    (Cj (mMt CW (A2 7) (A4 (A2 13) AC))))))))))))
    (Av (mCB (f1 true FL) (A4 (A2 7) AC))))))))))
noncomputable def Dz:List D->Hd->Option (D × Hd):=mkF 2 14 Hm
noncomputable abbrev Fz:Stmt:=top 34
theorem sc_far:FnScope ["_law_source_here","_law_works","_law_way","_law_days","_law_j","_law_found","_law_k","_law_length","_law_coming","_law_cost","_law_later"] ["_law_source_here","_law_works"] (A9 Fz):=⟨rfl,rfl,rfl,by decide +kernel,rfl,by decide +kernel,by decide +kernel⟩
@[reducible] noncomputable def S7:MS:=(AN (Aj 2 (AG 2 Az (A4 (A2 0) (A4 (mC (.int 3)) AC))))
    (AN (Aj 3 (mOp E5 (AG 2 Az (A4 (A2 0) (A4 (mC (.int 1999)) AC))) (mC (.int 999))))
    (AN (Aj 4 (AG 2 Az (A4 (A2 0) (A4 (mCB (f1 true C1) (A4 (A2 1) AC)) AC))))
    (AN (Aj 5 (Cn (EU AC)))
    (AN (DI (DZ (Cu (A2 1))) (Dm 2 (Au (AU 6) (Au (Dm 3 (Au (AU 7) (Au (AU 8) (Au (AU 9) Dn)))) Dn)))
      (BK (AX (mOp gEq (A2 2) (mC (.int 2))))
      (Cj (mMt CW (A2 5) (A4 (Bw (A4 (A2 7) (A4 (mC (.int 0)) (A4 (Bw (A4 (mC (.str "miss")) (A4 (mOp E5 (A2 3) (AG 2 Az (A4 (A2 0) (A4 (mC (.int 61)) AC)))) (A4 (mC (.int 1)) AC)))) AC)))) AC)))
      (AN (Aj 10 (mIf (mOr (AX (mOp gEq (A2 2) (mC (.int 0)))) (AX (mOp gEq (A2 6) (A2 4)))) (A2 3) (mC (.int 0))))
    (Cj (mMt CW (A2 5) (A4 (Bw (A4 (A2 7) (A4 (A2 8) (A4 (Bw (A4 (mC (.str "miss")) (A4 (mOp BA (mOp gIx (A2 9) (mC (.int 1))) (A2 10)) (A4 (mOp gIx (A2 9) (mC (.int 2))) AC)))) AC)))) AC))))))
    (Av (mCB (f1 true FL) (A4 (A2 5) AC))))))))
noncomputable def Jq:List D->Hd->Option (D × Hd):=mkF 2 11 S7
noncomputable abbrev C9:Stmt:=top 35
theorem Mc:FnScope ["_law_works"] ["_law_works"] (A9 C9):=⟨rfl,rfl,rfl,by decide +kernel,rfl,by decide +kernel,by decide +kernel⟩
@[reducible] noncomputable def JX:MS:=(Av (Cn (Bf 1 [] (Fs (Eu (Fs (Bf 1 [0] (GD (A4 (mCB (f1 true C1) (A4 (A2 0) AC)) AC)) (AU 0) Dp (Bw (A4 (mOp gIx (mOp gIx (mOp gIx (A2 1) (A2 0)) (mC (.int 2))) (mC (.int 1))) (A4 (A2 0) AC))))))) (AU 0) Dp (mOp gIx (A2 0) (mC (.int 1))))))
noncomputable def DQ:List D->Hd->Option (D × Hd):=mkF 1 1 JX
noncomputable abbrev FF:Stmt:=top 36
theorem sc_sets:FnScope ["_law_works","_law_found","_law_row","_law_k","_law_length","_law_coming","_law_cost","_law_fitting"] ["_law_works"] (A9 FF):=⟨rfl,rfl,rfl,by decide +kernel,rfl,by decide +kernel,by decide +kernel⟩
@[reducible] noncomputable def PM:MS:=(AN (Aj 1 (Cn (EU (A4 (Bw (A4 (mC (.int 0)) (A4 (mC (.int 0)) (A4 (mOp gIx (mOp gIx (A2 0) (mC (.int 0))) (mC (.int 1))) (A4 (Cn (EU AC)) AC))))) AC))))
    (AN (DI (DZ (DX (AG 0 DQ (A4 (A2 0) AC)))) (Dm 2 (Au (AU 2) (Au (AU 3) Dn)))
      (AN (Iu (mOp gIx (A2 0) (A2 3)) (Dm 3 (Au (AU 4) (Au (AU 5) (Au (AU 6) Dn)))))
    (AN (Aj 7 (Cn (Bf 1 [4,6] (DX (A2 1)) (AU 0) (AX (mOp gLe (mOp BA (mOp gIx (A2 0) (mC (.int 2))) (A2 1)) (mOp gIx (A2 2) (mC (.int 1))))) (A2 0))))
    (Aj 1 (Cn (K7 (A2 1) (Cn (Bf 1 [2,6,4,3] (DX (A2 7)) (AU 0) Dp (Bw (A4 (mOp BA (A2 1) (mC (.int 1))) (A4 (mOp BA (mOp gIx (A2 0) (mC (.int 1))) (mOp gIx (A2 2) (mC (.int 2)))) (A4 (mOp BA (mOp gIx (A2 0) (mC (.int 2))) (A2 3)) (A4 (Cn (K7 (mOp gIx (A2 0) (mC (.int 3))) (Cn (EU (A4 (A2 4) AC))))) AC)))))))))))))
    (Av (A2 1))))
noncomputable def IB:List D->Hd->Option (D × Hd):=mkF 1 8 PM
noncomputable abbrev Dh:Stmt:=top 37
theorem sc_is_set:FnScope ["_law_many","_law_some","_law_at","_law_k"] ["_law_many","_law_some"] (A9 Dh):=⟨rfl,rfl,rfl,by decide +kernel,rfl,by decide +kernel,by decide +kernel⟩
@[reducible] noncomputable def Lq:MS:=(AN (BK (ET (Ct (Ft .tuple (A2 1))))
      (Av (mC (.bl false)))
      B9)
    (AN (DI (DZ (Cu (A2 1))) (Dm 2 (Au (AU 2) (Au (AU 3) Dn)))
      (BK (mOr (ET (Ct (Ft .int (A2 3)))) (mOr (Ct (Ft .bool (A2 3))) (mOr (AX (mOp gLt (A2 3) (mC (.int 0)))) (mOr (AX (mOp gGe (A2 3) (A2 0))) (Gv (AX (mOp gGt (A2 2) (mC (.int 0)))) (AX (mOp gGe (mOp gIx (A2 1) (mOp E5 (A2 2) (mC (.int 1)))) (A2 3))))))))
      (Av (mC (.bl false)))
      B9))
    (Av (mC (.bl true)))))
noncomputable def Ez:List D->Hd->Option (D × Hd):=mkF 2 4 Lq
noncomputable abbrev Bl:Stmt:=top 38
theorem sc_end_in_time:FnScope ["_law_works","_law_some","_law_end","_law_k"] ["_law_works","_law_some"] (A9 Bl):=⟨rfl,rfl,rfl,by decide +kernel,rfl,by decide +kernel,by decide +kernel⟩
@[reducible] noncomputable def HP:MS:=(AN (Aj 2 (mOp gIx (mOp gIx (A2 0) (mC (.int 0))) (mC (.int 1))))
    (AN (DI (DX (AG 0 DQ (A4 (A2 0) AC))) (AU 3)
      (BK (AX (mOp (gIn false) (A2 3) (A2 1)))
      (AN (Aj 2 (mOp BA (A2 2) (mOp gIx (mOp gIx (A2 0) (A2 3)) (mC (.int 0)))))
    (BK (AX (mOp gGt (A2 2) (mOp gIx (mOp gIx (mOp gIx (A2 0) (A2 3)) (mC (.int 2))) (mC (.int 1)))))
      (Av (mC .non))
      B9))
      B9))
    (Av (A2 2))))
noncomputable def DU:List D->Hd->Option (D × Hd):=mkF 2 4 HP
noncomputable abbrev Ce:Stmt:=top 39
theorem Mb:FnScope ["_law_works","_law_weight"] ["_law_works","_law_weight"] (A9 Ce):=⟨rfl,rfl,rfl,by decide +kernel,rfl,by decide +kernel,by decide +kernel⟩
@[reducible] noncomputable def JU:MS:=(Av (DH FL (Bf 3 [1] (Cu (A2 0)) (Dm 3 (Au (AU 0) (Au (AU 1) (Au (AU 2) Dn)))) Dp (Bw (A4 (A2 0) (A4 (A2 1) (A4 (Bw (A4 (mC (.str "miss")) (A4 (mOp gIx (A2 2) (mC (.int 1))) (A4 (A2 3) AC)))) AC)))))))
noncomputable def E7:List D->Hd->Option (D × Hd):=mkF 2 2 JU
noncomputable abbrev FA:Stmt:=top 40
theorem sc_law:FnScope ["_law_script","_law_source_here","_law_works","_law_turn","_law_weight","_law_told","_law_sets_here","_law_lengths","_law_j"] ["_law_script"] (A9 FA):=⟨rfl,rfl,rfl,by decide +kernel,rfl,by decide +kernel,by decide +kernel⟩
@[reducible] noncomputable def S6:MS:=(AN (Aj 1 (GY Fw (A4 (A2 0) AC)))
    (AN (Aj 2 (Bw AC))
    (AN (DI (GD (A4 (mC (.int 3)) AC)) (AU 3)
      (JY (AN (BK (AX (mOp gLt (A2 3) (mC (.int 2))))
      (AN (Aj 2 (AG 2 Dz (A4 (A2 1) (A4 (mC (.int 8)) AC))))
    (Aj 2 (AG 0 E7 (A4 (A2 2) (A4 (AG 2 Az (A4 (A2 1) (A4 (mC (.int 10)) AC))) AC)))))
      (Aj 2 (AG 2 Jq (A4 (A2 1) (A4 (A2 2) AC)))))
    (AN (Aj 4 (mOp gIx (mOp gIx (mOp gIx (A2 2) (mC (.int 0))) (mC (.int 2))) (mC (.int 2))))
    (AN (Aj 5 (AG 0 FO (A4 (A2 2) AC)))
    (AN (BK (mOr (ET (Ct (Ft .tuple (A2 5)))) (AX (mOp gNe (mCB (f1 true C1) (A4 (A2 5) AC)) (mC (.int 2)))))
      (Av (mC (.bl false)))
      B9)
    (AN (BK (mOr (ET (Ct (AG 0 Ez (A4 (mCB (f1 true C1) (A4 (A2 2) AC)) (A4 (mOp gIx (A2 5) (mC (.int 0))) AC))))) (ET (Ct (AG 0 Ez (A4 (mCB (f1 true C1) (A4 (A2 2) AC)) (A4 (mOp gIx (A2 5) (mC (.int 1))) AC))))))
      (Av (mC (.bl false)))
      B9)
    (AN (BK (mOr (AX (Jd true (DV (Cu (mOp ON (mOp gIx (A2 5) (mC (.int 0))) (mOp gIx (A2 5) (mC (.int 1)))))) (Iq (A4 (mCB (f1 true C1) (A4 (A2 2) AC)) AC)))) (AX (Dr false (AG 0 DU (A4 (A2 2) (A4 (mOp gIx (A2 5) (mC (.int 0))) AC))))))
      (Av (mC (.bl false)))
      B9)
    (AN (Aj 6 (GY IB (A4 (AG 0 E7 (A4 (A2 2) (A4 (mC (.int 1)) AC))) AC)))
    (AN (BK (AX (mOp gNe (mCB (f1 true C1) (A4 (mOp gIx (A2 5) (mC (.int 0))) AC)) (DH M1 (Bf 1 [] (DX (A2 6)) (AU 0) Dp (mOp gIx (A2 0) (mC (.int 1)))))))
      (Av (mC (.bl false)))
      B9)
    (AN (Aj 7 (Cn (DV (Fs (Bf 1 [2] (Cu (mOp gIx (A2 5) (mC (.int 0)))) (AU 0) Dp (mOp gIx (mOp gIx (A2 1) (A2 0)) (mC (.int 0))))))))
    (AN (DI (IN (A4 (mC (.int 1)) (A4 (mOp BA (mCB (f1 true C1) (A4 (A2 7) AC)) (mC (.int 1))) AC))) (AU 8)
      (BK (AX (mOp gNe (DH Hr (Ip (A2 7) Ev (Gp (A2 8)))) (mOp E5 (DH OC (Bf 1 [8] (DX (A2 6)) (AU 0) (AX (mOp gEq (mOp gIx (A2 0) (mC (.int 1))) (A2 1))) (mOp gIx (A2 0) (mC (.int 2))))) (mOp gIx (mOp gIx (A2 2) (mC (.int 0))) (mC (.int 1))))))
      (Av (mC (.bl false)))
      B9))
    (BK (AX (mOp gNe (AG 0 Dy (A4 (A2 2) (A4 (AG 0 El (A4 (A2 2) AC)) AC))) (mOp HA (A2 4) (mCB (f1 true C1) (A4 (mOp gIx (A2 5) (mC (.int 1))) AC)))))
      (Av (mC (.bl false)))
      B9)))))))))))))
    (Av (mC (.bl true))))))
noncomputable def F_law:List D->Hd->Option (D × Hd):=mkF 1 9 S6
section
variable{P:Program}{w:World}{K:PySem.W.Frag}{mg:Str->Option Value}{base:Heap}
theorem ok_is_number{f_is_number:Addr}{d_is_number:FuncData}(DA:DefAt K mg "is_number" CD f_is_number d_is_number ["thing"]) (B:BltA mg):FnOk P w K mg base CX0 1 f_is_number d_is_number ["thing"] (spF K 1 EL):=by
  refine Al (N:=["thing"]) (m:=Ia) DA LR λ cdv A outer s H E hr=>?_
  exact⟨_,(AD K (Ag K (Ld K (Fj K .int B.isinstance B.int (qv K 0)) (JP K (Uf K (Fj K .bool B.isinstance B.bool (qv K 0)))))))⟩
theorem ok_is_tuple_of{f_is_tuple_of:Addr}{d_is_tuple_of:FuncData}(DA:DefAt K mg "is_tuple_of" Bk f_is_tuple_of d_is_tuple_of ["many","thing"]) (B:BltA mg):FnOk P w K mg base CX0 1 f_is_tuple_of d_is_tuple_of ["many","thing"] (spF K 2 CZ):=by
  refine Al (N:=["many","thing"]) (m:=HM) DA Jv λ cdv A outer s H E hr=>?_
  exact⟨_,(AD K (Ag K (Ld K (Fj K .tuple B.isinstance B.tuple (qv K 1)) (JP K (He K ((FW).or (E3 K hr.units)) (AQ Ee Ef) (DE K (BL K) (DC CN) B.len L2.bt_len (A1 K (qv K 1) (A6 K))) (qv K 0))))))⟩
theorem ok_length_of{f_length_of:Addr}{d_length_of:FuncData}(DA:DefAt K mg "length_of" CC f_length_of d_length_of ["works","some"]) (B:BltA mg):FnOk P w K mg base CX0 1 f_length_of d_length_of ["works","some"] (spF K 2 EK):=by
  refine Al (N:=["works","some"]) (m:=IZ) DA LQ λ cdv A outer s H E hr=>?_
  exact⟨_,(AD K (Ag K (FV K ((Hx K rfl).or (HG K rfl)) LU B.sum L2.bt_sum (Bo K (loc:=["j"]) (fr:=["works"]) (ix:=[0]) rfl ⟨rfl,by decide +kernel,rfl,rfl,rfl,by decide +kernel⟩ (E1 K (qv K 1)) (λ _ _ _=>(AO K (i:=0) (show(["j","works"]:List Str).Nodup from by decide +kernel) rfl (by first|exact Or.inl rfl|exact Or.inr rfl))) (λ _ _ _=>(Dk K)) (λ _ _ _=>(AK K (AK K (qv K 1) (qv K 0)) (A5 K)))))))⟩
theorem ok_same_coming{f_same_coming:Addr}{d_same_coming:FuncData}(DA:DefAt K mg "same_coming" Bi f_same_coming d_same_coming ["works"]) (B:BltA mg):FnOk P w K mg base CX0 1 f_same_coming d_same_coming ["works"] (spF K 1 DS):=by
  refine Al (N:=["works","coming"]) (m:=HJ) DA sc_same_coming λ cdv A outer s H E hr=>?_
  exact⟨_,(A7 K (AS K (i:=1) sc_same_coming.nd rfl (by first|exact Or.inl rfl|exact Or.inr rfl) (AK K (AK K (qv K 0) (A5 K)) (A5 K)))
    (A7 K (BG K (BP K (FV K (Po K rfl) US B.all L2.bt_all (Bo K (loc:=["work"]) (fr:=["coming"]) (ix:=[1]) rfl ⟨rfl,by decide +kernel,rfl,rfl,rfl,by decide +kernel⟩ (GR K (qv K 0)) (λ _ _ _=>(AO K (i:=0) (show(["work","coming"]:List Str).Nodup from by decide +kernel) rfl (by first|exact Or.inl rfl|exact Or.inr rfl))) (λ _ _ _=>(Dk K)) (λ _ _ _=>(He K ((FW).or (E3 K hr.units)) (AQ Ee Ef) (AK K (qv K 0) (A5 K)) (qv K 1))))))
      (AD K (Ag K (qv K 1)))
      (Aq K))
    (AD K (Ag K (Hc K)))))⟩
theorem ok_one_coming{f_one_coming f_same_coming:Addr}{d_one_coming d_same_coming:FuncData}(DA:DefAt K mg "one_coming" Bt f_one_coming d_one_coming ["works"])(D_same_coming:DefAt K mg "same_coming" Bi f_same_coming d_same_coming ["works"])(G_same_coming:FnOk P w K mg base CX0 1 f_same_coming d_same_coming ["works"] (spF K 1 DS))(B:BltA mg):FnOk P w K mg base CX0 2 f_one_coming d_one_coming ["works"] (spF K 1 Dx):=by
  refine Al (N:=["works","coming"]) (m:=Hk) DA sc_one_coming λ cdv A outer s H E hr=>?_
  exact⟨_,(A7 K (AS K (i:=1) sc_one_coming.nd rfl (by first|exact Or.inl rfl|exact Or.inr rfl) (AE K 0 G_same_coming hr D_same_coming (A1 K (qv K 0) (A6 K)) AI))
    (A7 K (BG K (La K (qv K 1))
      (AD K (DD K))
      (Aq K))
    (AD K (Ag K (qv K 1)))))⟩
theorem ok_refuse_other_costs{f_refuse_other_costs:Addr}{d_refuse_other_costs:FuncData}(DA:DefAt K mg "refuse_other_costs" Aw f_refuse_other_costs d_refuse_other_costs ["works","word"]) (B:BltA mg):FnOk P w K mg base CX0 1 f_refuse_other_costs d_refuse_other_costs ["works","word"] (spF K 2 Bg):=by
  refine Al (N:=["works","word"]) (m:=Eh) DA GM λ cdv A outer s H E hr=>?_
  exact⟨_,(AD K (BG K (BP K (FV K (Kg K rfl) Op B.any L2.bt_any (Bo K (loc:=["work"]) (fr:=["word"]) (ix:=[1]) rfl ⟨rfl,by decide +kernel,rfl,rfl,rfl,by decide +kernel⟩ (GR K (qv K 0)) (λ _ _ _=>(AO K (i:=0) (show(["work","word"]:List Str).Nodup from by decide +kernel) rfl (by first|exact Or.inl rfl|exact Or.inr rfl))) (λ _ _ _=>(Dk K)) (λ _ _ _=>(He K ((IK).or (Es K hr.units)) (AQ GN GO) (AK K (AK K (qv K 0) (A5 K)) (A5 K)) (qv K 1))))))
      (AD K (DD K))
      (Aq K)))⟩
theorem ok_weight_of{f_weight_of:Addr}{d_weight_of:FuncData}(DA:DefAt K mg "weight_of" Bp f_weight_of d_weight_of ["work"]) (B:BltA mg):FnOk P w K mg base CX0 1 f_weight_of d_weight_of ["work"] (spF K 1 CF):=by
  refine Al (N:=["work"]) (m:=IY) DA LP λ cdv A outer s H E hr=>?_
  exact⟨_,(AD K (Ag K (AK K (AK K (qv K 0) (A5 K)) (Lb K (A5 K)))))⟩
theorem ok_one_weight{f_one_weight f_weight_of:Addr}{d_one_weight d_weight_of:FuncData}(DA:DefAt K mg "one_weight" Bs f_one_weight d_one_weight ["works"])(D_weight_of:DefAt K mg "weight_of" Bp f_weight_of d_weight_of ["work"])(G_weight_of:FnOk P w K mg base CX0 1 f_weight_of d_weight_of ["work"] (spF K 1 CF))(B:BltA mg):FnOk P w K mg base CX0 2 f_one_weight d_one_weight ["works"] (spF K 1 Dw):=by
  refine Al (N:=["works","weight"]) (m:=Hj) DA sc_one_weight λ cdv A outer s H E hr=>?_
  exact⟨_,(A7 K (AS K (i:=1) sc_one_weight.nd rfl (by first|exact Or.inl rfl|exact Or.inr rfl) (AE K 0 G_weight_of hr D_weight_of (A1 K (AK K (qv K 0) (A5 K)) (A6 K)) AI))
    (A7 K (BG K (BP K (FV K (Kg K rfl) Op B.any L2.bt_any (Bo K (loc:=["work"]) (fr:=["weight"]) (ix:=[1]) rfl ⟨rfl,by decide +kernel,rfl,rfl,rfl,by decide +kernel⟩ (GR K (qv K 0)) (λ _ _ _=>(AO K (i:=0) (show(["work","weight"]:List Str).Nodup from by decide +kernel) rfl (by first|exact Or.inl rfl|exact Or.inr rfl))) (λ _ _ _=>(Dk K)) (λ _ _ _=>(He K ((IK).or (Es K hr.units)) (AQ GN GO) (AE K 0 G_weight_of hr D_weight_of (A1 K (qv K 0) (A6 K)) AI) (qv K 1))))))
      (AD K (DD K))
      (Aq K))
    (AD K (Ag K (qv K 1)))))⟩
theorem ok_late_coming{f_late_coming f_one_coming f_refuse_other_costs:Addr}{d_late_coming d_one_coming d_refuse_other_costs:FuncData}(DA:DefAt K mg "late_coming" BB f_late_coming d_late_coming ["works"])(D_one_coming:DefAt K mg "one_coming" Bt f_one_coming d_one_coming ["works"])(G_one_coming:FnOk P w K mg base CX0 2 f_one_coming d_one_coming ["works"] (spF K 1 Dx))(D_refuse_other_costs:DefAt K mg "refuse_other_costs" Aw f_refuse_other_costs d_refuse_other_costs ["works","word"])(G_refuse_other_costs:FnOk P w K mg base CX0 1 f_refuse_other_costs d_refuse_other_costs ["works","word"] (spF K 2 Bg))(B:BltA mg):FnOk P w K mg base CX0 3 f_late_coming d_late_coming ["works"] (spF K 1 BD):=by
  refine Al (N:=["works","coming"]) (m:=HL) DA sc_late_coming λ cdv A outer s H E hr=>?_
  exact⟨_,(A7 K (AS K (i:=1) sc_late_coming.nd rfl (by first|exact Or.inl rfl|exact Or.inr rfl) (AE K 0 G_one_coming hr D_one_coming (A1 K (qv K 0) (A6 K)) AI))
    (A7 K (CI K (AE K 0 G_refuse_other_costs hr D_refuse_other_costs (A1 K (qv K 0) (A1 K (BH K) (A6 K))) AI))
    (AD K (Ag K (qv K 1)))))⟩
theorem ok_by_dues{f_by_dues:Addr}{d_by_dues:FuncData}(DA:DefAt K mg "by_dues" BY f_by_dues d_by_dues ["works"]) {c_by_dues P_by_dues:Addr}(LC:LamC K mg base d_by_dues c_by_dues P_by_dues ((("by_dues":Str) ++ ".<locals>.") ++ "<lambda>") ⟨47,41,47,70⟩)(B:BltA mg):FnOk P w K mg base CX0 4 f_by_dues d_by_dues ["works"] (spF K 1 Cl):=by
  refine Ll (N:=["works"]) (m:=KS) DA Nj λ cdv A outer s H E hcd hr=>?_
  exact⟨_,(AD K (Ag K (C5 K (Ql K (prm:="j") (fr:=["works"]) (ix:=[0]) ⟨hcd.symm.trans LC.code,LC.hd,LC.bl⟩ LC.ti ⟨rfl,by decide +kernel,rfl,rfl,rfl,by decide +kernel⟩ ⟨rfl,rfl,rfl,rfl⟩ hr (by decide) B.sorted (Qk K B.range (A1 K (DE K (BL K) (DC CN) B.len L2.bt_len (A1 K (qv K 0) (A6 K))) (A6 K))) (λ _ _ _ _=>(Be K (A1 K (AK K (AK K (AK K (qv K 1) (qv K 0)) (A5 K)) (A5 K)) (A1 K (qv K 0) (A6 K))))) (λ _ _ _ _ _=>rfl)))))⟩
theorem ok_full_weight{f_full_weight f_weight_of:Addr}{d_full_weight d_weight_of:FuncData}(DA:DefAt K mg "full_weight" BM f_full_weight d_full_weight ["works"])(D_weight_of:DefAt K mg "weight_of" Bp f_weight_of d_weight_of ["work"])(G_weight_of:FnOk P w K mg base CX0 1 f_weight_of d_weight_of ["work"] (spF K 1 CF))(B:BltA mg):FnOk P w K mg base CX0 2 f_full_weight d_full_weight ["works"] (spF K 1 BV):=by
  refine Al (N:=["works"]) (m:=HN) DA Jw λ cdv A outer s H E hr=>?_
  exact⟨_,(AD K (Ag K (FV K ((Hx K rfl).or (HG K rfl)) LU B.sum L2.bt_sum (Bo K (loc:=["work"]) (fr:=[]) (ix:=[]) rfl ⟨rfl,by decide +kernel,rfl,rfl,rfl,by decide +kernel⟩ (GR K (qv K 0)) (λ _ _ _=>(AO K (i:=0) (show(["work"]:List Str).Nodup from by decide +kernel) rfl (by first|exact Or.inl rfl|exact Or.inr rfl))) (λ _ _ _=>(Dk K)) (λ _ _ _=>(AE K 0 G_weight_of hr D_weight_of (A1 K (qv K 0) (A6 K)) AI))))))⟩
theorem ok_no_more{f_no_more:Addr}{d_no_more:FuncData}(DA:DefAt K mg "no_more" CB f_no_more d_no_more ["one","other"]) (B:BltA mg):FnOk P w K mg base CX0 1 f_no_more d_no_more ["one","other"] (spF K 2 CG):=by
  refine Al (N:=["one","other"]) (m:=KR) DA Ni λ cdv A outer s H E hr=>?_
  exact⟨_,(AD K (Ag K (Vx K (Ug K (qv K 1)) (JP K (Ld K (Sx K (qv K 0)) (JP K (He K JR JJ (qv K 0) (qv K 1))))))))⟩
theorem ok_put_behind{f_put_behind:Addr}{d_put_behind:FuncData}(DA:DefAt K mg "put_behind" Bc f_put_behind d_put_behind ["row","work","w"]) (B:BltA mg):FnOk P w K mg base CX0 1 f_put_behind d_put_behind ["row","work","w"] (spF K 3 CU):=by
  refine Al (N:=["row","work","w","length","coming","word","due","weight","end"]) (m:=Hi) DA sc_put_behind λ cdv A outer s H E hr=>?_
  exact⟨_,(A7 K (Ov K (qv K 1) (Ci K (n:=3) rfl (Aa K (AO K (i:=3) sc_put_behind.nd rfl (by first|exact Or.inl rfl|exact Or.inr rfl)) (Aa K (AO K (i:=4) sc_put_behind.nd rfl (by first|exact Or.inl rfl|exact Or.inr rfl)) (Aa K (Ci K (n:=3) rfl (Aa K (AO K (i:=5) sc_put_behind.nd rfl (by first|exact Or.inl rfl|exact Or.inr rfl)) (Aa K (AO K (i:=6) sc_put_behind.nd rfl (by first|exact Or.inl rfl|exact Or.inr rfl)) (Aa K (AO K (i:=7) sc_put_behind.nd rfl (by first|exact Or.inl rfl|exact Or.inr rfl)) (Bx K))))) (Bx K))))))
    (A7 K (BG K (QW.toT (FU K (Ay K O4 Nq (qv K 2) (qv K 7)) (GP K (La K (AK K (qv K 0) (AW K EF EC (qv K 2) (qv K 7)))))))
      (AD K (Ag K (Hc K)))
      (Aq K))
    (A7 K (AS K (i:=8) sc_put_behind.nd rfl (by first|exact Or.inl rfl|exact Or.inr rfl) (AW K ((B3).or (Ah K)) (AQ B2 Ao) (AK K (qv K 0) (AW K EF EC (qv K 2) (qv K 7))) (qv K 3)))
    (AD K (Ag K (Gn K (Ay K JR JJ (qv K 8) (qv K 6)) (qv K 8) (Hc K)))))))⟩
theorem ok_greatest_weight{f_greatest_weight:Addr}{d_greatest_weight:FuncData}(DA:DefAt K mg "greatest_weight" BE f_greatest_weight d_greatest_weight ["table"]) (B:BltA mg):FnOk P w K mg base CX0 1 f_greatest_weight d_greatest_weight ["table"] (spF K 1 C6):=by
  refine Al (N:=["table"]) (m:=FS) DA HY λ cdv A outer s H E hr=>?_
  exact⟨_,(AD K (Ag K (FV K ((Kf K rfl).or (Jo K rfl)) Oo B.max L2.bt_max (Bo K (loc:=["w","entry"]) (fr:=[]) (ix:=[]) rfl ⟨rfl,by decide +kernel,rfl,rfl,rfl,by decide +kernel⟩ (ER K B.enumerate (FH K (AK K (qv K 0) (Lb K (A5 K))))) (λ _ _ _=>(Ci K (n:=2) rfl (Aa K (AO K (i:=0) (show(["w","entry"]:List Str).Nodup from by decide +kernel) rfl (by first|exact Or.inl rfl|exact Or.inr rfl)) (Aa K (AO K (i:=1) (show(["w","entry"]:List Str).Nodup from by decide +kernel) rfl (by first|exact Or.inl rfl|exact Or.inr rfl)) (Bx K))))) (λ _ _ _=>(Hb K (N0 K (qv K 1)))) (λ _ _ _=>(qv K 0))))))⟩
theorem ok_look_at_shape{f_look_at_shape f_is_number f_is_tuple_of f_full_weight:Addr}{d_look_at_shape d_is_number d_is_tuple_of d_full_weight:FuncData}(DA:DefAt K mg "look_at_shape" BR f_look_at_shape d_look_at_shape ["works","thing","path"])(D_is_number:DefAt K mg "is_number" CD f_is_number d_is_number ["thing"])(G_is_number:FnOk P w K mg base CX0 1 f_is_number d_is_number ["thing"] (spF K 1 EL))(D_is_tuple_of:DefAt K mg "is_tuple_of" Bk f_is_tuple_of d_is_tuple_of ["many","thing"])(G_is_tuple_of:FnOk P w K mg base CX0 1 f_is_tuple_of d_is_tuple_of ["many","thing"] (spF K 2 CZ))(D_full_weight:DefAt K mg "full_weight" BM f_full_weight d_full_weight ["works"])(G_full_weight:FnOk P w K mg base CX0 2 f_full_weight d_full_weight ["works"] (spF K 1 BV))(B:BltA mg):FnOk P w K mg base CX0 3 f_look_at_shape d_look_at_shape ["works","thing","path"] (spF K 3 Ck):=by
  refine Al (N:=["works","thing","path","many","k","row","w","entry"]) (m:=G7) DA sc_look_at_shape λ cdv A outer s H E hr=>?_
  exact⟨_,(A7 K (BG K (Di K (BP K (AE K 0 G_is_tuple_of hr D_is_tuple_of (A1 K (AW K ((B3).or (Ah K)) (AQ B2 Ao) (DE K (BL K) (DC CN) B.len L2.bt_len (A1 K (qv K 0) (A6 K))) (A5 K)) (A1 K (qv K 1) (A6 K))) AI)))
      (AD K (DD K))
      (Aq K))
    (A7 K (AS K (i:=3) sc_look_at_shape.nd rfl (by first|exact Or.inl rfl|exact Or.inr rfl) (AW K ((B3).or (Ah K)) (AQ B2 Ao) (AE K 0 G_full_weight hr D_full_weight (A1 K (qv K 0) (A6 K)) AI) (A5 K)))
    (AD K (Ch K rfl (ER K B.enumerate (FH K (qv K 1))) (Ci K (n:=2) rfl (Aa K (AO K (i:=4) sc_look_at_shape.nd rfl (by first|exact Or.inl rfl|exact Or.inr rfl)) (Aa K (AO K (i:=5) sc_look_at_shape.nd rfl (by first|exact Or.inl rfl|exact Or.inr rfl)) (Bx K))))
      (A7 K (BG K (Di K (BP K (AE K 0 G_is_tuple_of hr D_is_tuple_of (A1 K (qv K 3) (A1 K (qv K 5) (A6 K))) AI)))
      (AD K (DD K))
      (Aq K))
    (AD K (Ch K rfl (ER K B.enumerate (FH K (qv K 5))) (Ci K (n:=2) rfl (Aa K (AO K (i:=6) sc_look_at_shape.nd rfl (by first|exact Or.inl rfl|exact Or.inr rfl)) (Aa K (AO K (i:=7) sc_look_at_shape.nd rfl (by first|exact Or.inl rfl|exact Or.inr rfl)) (Bx K))))
      (AD K (BG K (QW.toT (Ha K (N0 K (qv K 7)) (GQ K (Di K (BP K (AE K 0 G_is_number hr D_is_number (A1 K (qv K 7) (A6 K)) AI))))))
      (AD K (DD K))
      (Aq K))))))))))⟩
theorem ok_look_at_row{f_look_at_row f_no_more f_put_behind:Addr}{d_look_at_row d_no_more d_put_behind:FuncData}(DA:DefAt K mg "look_at_row" Bj f_look_at_row d_look_at_row ["work","above","row","path"])(D_no_more:DefAt K mg "no_more" CB f_no_more d_no_more ["one","other"])(G_no_more:FnOk P w K mg base CX0 1 f_no_more d_no_more ["one","other"] (spF K 2 CG))(D_put_behind:DefAt K mg "put_behind" Bc f_put_behind d_put_behind ["row","work","w"])(G_put_behind:FnOk P w K mg base CX0 1 f_put_behind d_put_behind ["row","work","w"] (spF K 3 CU))(B:BltA mg):FnOk P w K mg base CX0 2 f_look_at_row d_look_at_row ["work","above","row","path"] (spF K 4 DT):=by
  refine Al (N:=["work","above","row","path","w","entry"]) (m:=HK) DA sc_look_at_row λ cdv A outer s H E hr=>?_
  exact⟨_,(AD K (Ch K rfl (ER K B.enumerate (FH K (qv K 2))) (Ci K (n:=2) rfl (Aa K (AO K (i:=4) sc_look_at_row.nd rfl (by first|exact Or.inl rfl|exact Or.inr rfl)) (Aa K (AO K (i:=5) sc_look_at_row.nd rfl (by first|exact Or.inl rfl|exact Or.inr rfl)) (Bx K))))
      (A7 K (BG K (Di K (BP K (AE K 0 G_no_more hr D_no_more (A1 K (qv K 5) (A1 K (AK K (qv K 1) (qv K 4)) (A6 K))) AI)))
      (AD K (DD K))
      (Aq K))
    (AD K (BG K (Di K (BP K (AE K 0 G_no_more hr D_no_more (A1 K (qv K 5) (A1 K (AE K 0 G_put_behind hr D_put_behind (A1 K (qv K 1) (A1 K (qv K 0) (A1 K (qv K 4) (A6 K)))) AI) (A6 K))) AI)))
      (AD K (DD K))
      (Aq K))))))⟩
theorem ok_look_at_places{f_look_at_places f_late_coming f_by_dues f_no_more f_look_at_row:Addr}{d_look_at_places d_late_coming d_by_dues d_no_more d_look_at_row:FuncData}(DA:DefAt K mg "look_at_places" BJ f_look_at_places d_look_at_places ["works","table","path"])(D_late_coming:DefAt K mg "late_coming" BB f_late_coming d_late_coming ["works"])(G_late_coming:FnOk P w K mg base CX0 3 f_late_coming d_late_coming ["works"] (spF K 1 BD))(D_by_dues:DefAt K mg "by_dues" BY f_by_dues d_by_dues ["works"])(G_by_dues:FnOk P w K mg base CX0 4 f_by_dues d_by_dues ["works"] (spF K 1 Cl))(D_no_more:DefAt K mg "no_more" CB f_no_more d_no_more ["one","other"])(G_no_more:FnOk P w K mg base CX0 1 f_no_more d_no_more ["one","other"] (spF K 2 CG))(D_look_at_row:DefAt K mg "look_at_row" Bj f_look_at_row d_look_at_row ["work","above","row","path"])(G_look_at_row:FnOk P w K mg base CX0 2 f_look_at_row d_look_at_row ["work","above","row","path"] (spF K 4 DT))(B:BltA mg):FnOk P w K mg base CX0 5 f_look_at_places d_look_at_places ["works","table","path"] (spF K 3 CV):=by
  refine Al (N:=["works","table","path","k","j"]) (m:=Fr) DA sc_look_at_places λ cdv A outer s H E hr=>?_
  exact⟨_,(A7 K (BG K (Di K (BP K (AE K 0 G_no_more hr D_no_more (A1 K (AK K (AK K (qv K 1) (A5 K)) (A5 K)) (A1 K (AE K 0 G_late_coming hr D_late_coming (A1 K (qv K 0) (A6 K)) AI) (A6 K))) AI)))
      (AD K (DD K))
      (Aq K))
    (AD K (Ch K rfl (Qo K B.enumerate (K2 K (AE K 0 G_by_dues hr D_by_dues (A1 K (qv K 0) (A6 K)) AI))) (Ci K (n:=2) rfl (Aa K (AO K (i:=3) sc_look_at_places.nd rfl (by first|exact Or.inl rfl|exact Or.inr rfl)) (Aa K (AO K (i:=4) sc_look_at_places.nd rfl (by first|exact Or.inl rfl|exact Or.inr rfl)) (Bx K))))
      (AD K (CI K (AE K 0 G_look_at_row hr D_look_at_row (A1 K (AK K (qv K 0) (qv K 4)) (A1 K (AK K (qv K 1) (AW K EF EC (qv K 3) (A5 K))) (A1 K (AK K (qv K 1) (qv K 3)) (A1 K (AW K (((B3).or (Ah K)).or (N5 K)) (AQ (AQ B2 Ao) Mv) (qv K 2) (Be K (A1 K (qv K 3) (A6 K)))) (A6 K))))) AI))))))⟩
theorem ok_lets_table{f_lets_table f_late_coming f_full_weight f_greatest_weight f_look_at_shape f_look_at_places:Addr}{d_lets_table d_late_coming d_full_weight d_greatest_weight d_look_at_shape d_look_at_places:FuncData}(DA:DefAt K mg "lets_table" Bu f_lets_table d_lets_table ["works","thing"])(D_late_coming:DefAt K mg "late_coming" BB f_late_coming d_late_coming ["works"])(G_late_coming:FnOk P w K mg base CX0 3 f_late_coming d_late_coming ["works"] (spF K 1 BD))(D_full_weight:DefAt K mg "full_weight" BM f_full_weight d_full_weight ["works"])(G_full_weight:FnOk P w K mg base CX0 2 f_full_weight d_full_weight ["works"] (spF K 1 BV))(D_greatest_weight:DefAt K mg "greatest_weight" BE f_greatest_weight d_greatest_weight ["table"])(G_greatest_weight:FnOk P w K mg base CX0 1 f_greatest_weight d_greatest_weight ["table"] (spF K 1 C6))(D_look_at_shape:DefAt K mg "look_at_shape" BR f_look_at_shape d_look_at_shape ["works","thing","path"])(G_look_at_shape:FnOk P w K mg base CX0 3 f_look_at_shape d_look_at_shape ["works","thing","path"] (spF K 3 Ck))(D_look_at_places:DefAt K mg "look_at_places" BJ f_look_at_places d_look_at_places ["works","table","path"])(G_look_at_places:FnOk P w K mg base CX0 5 f_look_at_places d_look_at_places ["works","table","path"] (spF K 3 CV))(B:BltA mg):FnOk P w K mg base CX0 6 f_lets_table d_lets_table ["works","thing"] (spF K 2 Dy):=by
  refine Al (N:=["works","thing"]) (m:=Hl) DA Km λ cdv A outer s H E hr=>?_
  exact⟨_,(A7 K (CI K (AE K 0 G_late_coming hr D_late_coming (A1 K (qv K 0) (A6 K)) AI))
    (A7 K (CI K (AE K 0 G_look_at_shape hr D_look_at_shape (A1 K (qv K 0) (A1 K (qv K 1) (A1 K (Be K (A6 K)) (A6 K)))) AI))
    (A7 K (CI K (AE K 0 G_look_at_places hr D_look_at_places (A1 K (qv K 0) (A1 K (qv K 1) (A1 K (Be K (A6 K)) (A6 K)))) AI))
    (AD K (Ag K (AW K EF EC (AE K 0 G_full_weight hr D_full_weight (A1 K (qv K 0) (A6 K)) AI) (AE K 0 G_greatest_weight hr D_greatest_weight (A1 K (qv K 1) (A6 K)) AI)))))))⟩
theorem ok_next_row{f_next_row f_no_more f_put_behind:Addr}{d_next_row d_no_more d_put_behind:FuncData}(DA:DefAt K mg "next_row" Cg f_next_row d_next_row ["above","work"])(D_no_more:DefAt K mg "no_more" CB f_no_more d_no_more ["one","other"])(G_no_more:FnOk P w K mg base CX0 1 f_no_more d_no_more ["one","other"] (spF K 2 CG))(D_put_behind:DefAt K mg "put_behind" Bc f_put_behind d_put_behind ["row","work","w"])(G_put_behind:FnOk P w K mg base CX0 1 f_put_behind d_put_behind ["row","work","w"] (spF K 3 CU))(B:BltA mg):FnOk P w K mg base CX0 2 f_next_row d_next_row ["above","work"] (spF K 2 Em):=by
  refine Al (N:=["above","work","row","w","kept","more"]) (m:=JW) DA sc_next_row λ cdv A outer s H E hr=>?_
  exact⟨_,(A7 K (AS K (i:=2) sc_next_row.nd rfl (by first|exact Or.inl rfl|exact Or.inr rfl) (C5 K (Dj K (A6 K))))
    (A7 K (Ch K rfl (ER K B.enumerate (FH K (qv K 0))) (Ci K (n:=2) rfl (Aa K (AO K (i:=3) sc_next_row.nd rfl (by first|exact Or.inl rfl|exact Or.inr rfl)) (Aa K (AO K (i:=4) sc_next_row.nd rfl (by first|exact Or.inl rfl|exact Or.inr rfl)) (Bx K))))
      (A7 K (AS K (i:=5) sc_next_row.nd rfl (by first|exact Or.inl rfl|exact Or.inr rfl) (AE K 0 G_put_behind hr D_put_behind (A1 K (qv K 0) (A1 K (qv K 1) (A1 K (qv K 3) (A6 K)))) AI))
    (AD K (CI K (Gm K PySem.F.slot_list_append PySem.F.type_list_append Do EX (qv K 2) (A1 K (Gn K (BP K (AE K 0 G_no_more hr D_no_more (A1 K (qv K 4) (A1 K (qv K 5) (A6 K))) AI)) (qv K 4) (qv K 5)) (A6 K)))))))
    (AD K (Ag K (Kw K (Co K) (DC EQ) B.tuple L2.bt_tuple (A1 K (qv K 2) (A6 K)))))))⟩
theorem ok_table_of{f_table_of f_late_coming f_by_dues f_full_weight f_next_row:Addr}{d_table_of d_late_coming d_by_dues d_full_weight d_next_row:FuncData}(DA:DefAt K mg "table_of" Cf f_table_of d_table_of ["works"])(D_late_coming:DefAt K mg "late_coming" BB f_late_coming d_late_coming ["works"])(G_late_coming:FnOk P w K mg base CX0 3 f_late_coming d_late_coming ["works"] (spF K 1 BD))(D_by_dues:DefAt K mg "by_dues" BY f_by_dues d_by_dues ["works"])(G_by_dues:FnOk P w K mg base CX0 4 f_by_dues d_by_dues ["works"] (spF K 1 Cl))(D_full_weight:DefAt K mg "full_weight" BM f_full_weight d_full_weight ["works"])(G_full_weight:FnOk P w K mg base CX0 2 f_full_weight d_full_weight ["works"] (spF K 1 BV))(D_next_row:DefAt K mg "next_row" Cg f_next_row d_next_row ["above","work"])(G_next_row:FnOk P w K mg base CX0 2 f_next_row d_next_row ["above","work"] (spF K 2 Em))(B:BltA mg):FnOk P w K mg base CX0 5 f_table_of d_table_of ["works"] (spF K 1 El):=by
  refine Al (N:=["works","coming","rows","j"]) (m:=JV) DA sc_table_of λ cdv A outer s H E hr=>?_
  exact⟨_,(A7 K (AS K (i:=1) sc_table_of.nd rfl (by first|exact Or.inl rfl|exact Or.inr rfl) (AE K 0 G_late_coming hr D_late_coming (A1 K (qv K 0) (A6 K)) AI))
    (A7 K (AS K (i:=2) sc_table_of.nd rfl (by first|exact Or.inl rfl|exact Or.inr rfl) (C5 K (Dj K (A1 K (AW K ((B3).or (Ah K)) (AQ B2 Ao) (Be K (A1 K (qv K 1) (A6 K))) (Sw K (Be K (A1 K (Hc K) (A6 K))) (AE K 0 G_full_weight hr D_full_weight (A1 K (qv K 0) (A6 K)) AI))) (A6 K)))))
    (A7 K (Ch K rfl (E1 K (AE K 0 G_by_dues hr D_by_dues (A1 K (qv K 0) (A6 K)) AI)) (AO K (i:=3) sc_table_of.nd rfl (by first|exact Or.inl rfl|exact Or.inr rfl))
      (AD K (CI K (Gm K PySem.F.slot_list_append PySem.F.type_list_append Do EX (qv K 2) (A1 K (AE K 0 G_next_row hr D_next_row (A1 K (AK K (qv K 2) (Lb K (A5 K))) (A1 K (AK K (qv K 0) (qv K 3)) (A6 K))) AI) (A6 K))))))
    (AD K (Ag K (Kw K (Co K) (DC EQ) B.tuple L2.bt_tuple (A1 K (qv K 2) (A6 K))))))))⟩
theorem ok_put_out{f_put_out f_length_of f_one_weight f_late_coming f_by_dues:Addr}{d_put_out d_length_of d_one_weight d_late_coming d_by_dues:FuncData}(DA:DefAt K mg "put_out" Br f_put_out d_put_out ["works"])(D_length_of:DefAt K mg "length_of" CC f_length_of d_length_of ["works","some"])(G_length_of:FnOk P w K mg base CX0 1 f_length_of d_length_of ["works","some"] (spF K 2 EK))(D_one_weight:DefAt K mg "one_weight" Bs f_one_weight d_one_weight ["works"])(G_one_weight:FnOk P w K mg base CX0 2 f_one_weight d_one_weight ["works"] (spF K 1 Dw))(D_late_coming:DefAt K mg "late_coming" BB f_late_coming d_late_coming ["works"])(G_late_coming:FnOk P w K mg base CX0 3 f_late_coming d_late_coming ["works"] (spF K 1 BD))(D_by_dues:DefAt K mg "by_dues" BY f_by_dues d_by_dues ["works"])(G_by_dues:FnOk P w K mg base CX0 4 f_by_dues d_by_dues ["works"] (spF K 1 Cl)){c_put_out P_put_out:Addr}(LC:LamC K mg base d_put_out c_put_out P_put_out ((("put_out":Str) ++ ".<locals>.") ++ "<lambda>") ⟨107,38,107,63⟩)(B:BltA mg):FnOk P w K mg base CX0 5 f_put_out d_put_out ["works"] (spF K 1 FO):=by
  refine Ll (N:=["works","coming","kept","j"]) (m:=KQ) DA sc_put_out λ cdv A outer s H E hcd hr=>?_
  exact⟨_,(A7 K (AS K (i:=1) sc_put_out.nd rfl (by first|exact Or.inl rfl|exact Or.inr rfl) (AE K 0 G_late_coming hr D_late_coming (A1 K (qv K 0) (A6 K)) AI))
    (A7 K (CI K (AE K 0 G_one_weight hr D_one_weight (A1 K (qv K 0) (A6 K)) AI))
    (A7 K (AS K (i:=2) sc_put_out.nd rfl (by first|exact Or.inl rfl|exact Or.inr rfl) (C5 K (Dj K (A6 K))))
    (A7 K (Ch K rfl (E1 K (AE K 0 G_by_dues hr D_by_dues (A1 K (qv K 0) (A6 K)) AI)) (AO K (i:=3) sc_put_out.nd rfl (by first|exact Or.inl rfl|exact Or.inr rfl))
      (A7 K (CI K (Gm K PySem.F.slot_list_append PySem.F.type_list_append Do EX (qv K 2) (A1 K (qv K 3) (A6 K))))
    (AD K (BG K (Ay K IL IF (AW K ((B3).or (Ah K)) (AQ B2 Ao) (qv K 1) (AE K 1 G_length_of hr D_length_of (A1 K (qv K 0) (A1 K (qv K 2) (A6 K))) AI)) (AK K (AK K (AK K (qv K 0) (qv K 3)) (A5 K)) (A5 K)))
      (AD K (CI K (Gm K PySem.F.slot_list_remove PySem.F.type_list_remove PK Om (qv K 2) (A1 K (Sy K (prm:="one") (fr:=["works"]) (ix:=[0]) ⟨hcd.symm.trans LC.code,LC.hd,LC.bl⟩ LC.ti ⟨rfl,by decide +kernel,rfl,rfl,rfl,by decide +kernel⟩ ⟨rfl,rfl,rfl,rfl⟩ hr (by decide) B.max (qv K 2) (λ _ _ _ _=>(AK K (AK K (qv K 1) (qv K 0)) (A5 K))) (λ _ _ _ _ _=>rfl)) (A6 K)))))
      (Aq K)))))
    (AD K (Ag K (Be K (A1 K (O0 K (Co K) EQ B.tuple L2.bt_tuple (JO K B.sorted (K2 K (qv K 2)))) (A1 K (O0 K (Co K) EQ B.tuple L2.bt_tuple (Bo K (loc:=["j"]) (fr:=["kept"]) (ix:=[2]) rfl ⟨rfl,by decide +kernel,rfl,rfl,rfl,by decide +kernel⟩ (IJ K B.range (A1 K (DE K (BL K) (DC CN) B.len L2.bt_len (A1 K (qv K 0) (A6 K))) (A6 K))) (λ _ _ _=>(AO K (i:=0) (show(["j","kept"]:List Str).Nodup from by decide +kernel) rfl (by first|exact Or.inl rfl|exact Or.inr rfl))) (λ _ _ _=>(Hb K (Ay K (P9 K) Ru (qv K 0) (qv K 1)))) (λ _ _ _=>(qv K 0)))) (A6 K))))))))))⟩
theorem ok_source{f_source:Addr}{d_source:FuncData}(DA:DefAt K mg "_law_source" Dg f_source d_source ["_law_script"]) (B:BltA mg):FnOk P w K mg base CX0 1 f_source d_source ["_law_script"] (spF K 1 Fw):=by
  refine Al (N:=["_law_script"]) (m:=Lp) DA Ol λ cdv A outer s H E hr=>?_
  exact⟨_,(AD K (Ag K (Sz K (Gk K (BH K) (C5 K (Qn K B.list (Ox K (qv K 0) (N2 K) (N1 K (A5 K))))) (Gk K (BH K) (A5 K) (Gk K (BH K) (A5 K) (Gk K (BH K) (A5 K) (Ss K))))))))⟩
theorem ok_pick{f_pick:Addr}{d_pick:FuncData}(DA:DefAt K mg "_law_pick" EB f_pick d_pick ["_law_source_here","_law_many"]) (B:BltA mg):FnOk P w K mg base CX0 1 f_pick d_pick ["_law_source_here","_law_many"] (spF K 2 Az):=by
  refine Al (N:=["_law_source_here","_law_many","_law_found","_law_cells","_law_cell","_law_mixed"]) (m:=PN) DA sc_pick λ cdv A outer s H E hr=>?_
  exact⟨_,(A7 K (II K (DO hr) (qv K 0) (BH K) (AW K ((B3).or (Ah K)) (AQ B2 Ao) (Cp K (DO hr) (qv K 0) (BH K)) (A5 K)))
    (A7 K (BG K (Ay K IL IF (Cp K (DO hr) (qv K 0) (BH K)) (A5 K))
      (A7 K (AS K (i:=2) sc_pick.nd rfl (by first|exact Or.inl rfl|exact Or.inr rfl) (AW K Fp Fi (Cp K (DO hr) (qv K 0) (BH K)) (qv K 1)))
    (A7 K (II K (DO hr) (qv K 0) (BH K) (AW K IM IG (Cp K (DO hr) (qv K 0) (BH K)) (qv K 1)))
    (AD K (Ag K (qv K 2)))))
      (Aq K))
    (A7 K (AS K (i:=3) sc_pick.nd rfl (by first|exact Or.inl rfl|exact Or.inr rfl) (Cp K (DO hr) (qv K 0) (BH K)))
    (A7 K (AS K (i:=4) sc_pick.nd rfl (by first|exact Or.inl rfl|exact Or.inr rfl) (Gn K (Sq K (PB K hr.units) (qv K 3) (Dj K (A6 K))) (AK K (qv K 3) (AW K Fp Fi (Cp K (DO hr) (qv K 0) (BH K)) (DE K (BL K) (DC CN) B.len L2.bt_len (A1 K (qv K 3) (A6 K))))) (A5 K)))
    (A7 K (II K (DO hr) (qv K 0) (BH K) (AW K ((B3).or (Ah K)) (AQ B2 Ao) (Cp K (DO hr) (qv K 0) (BH K)) (A5 K)))
    (A7 K (BG K (QW.toT (Ha K (Ay K O5 Nr (qv K 4) (AW K V4 UZ (A5 K) (A5 K))) (GQ K (Ay K JR JJ (Cp K (DO hr) (qv K 0) (BH K)) (DE K (BL K) (DC CN) B.len L2.bt_len (A1 K (qv K 3) (A6 K)))))))
      (A7 K (II K (DO hr) (qv K 0) (BH K) (AW K IM IG (qv K 4) (qv K 1)))
    (AD K (Ag K (AW K Fp Fi (qv K 4) (qv K 1)))))
      (Aq K))
    (A7 K (AS K (i:=5) sc_pick.nd rfl (by first|exact Or.inl rfl|exact Or.inr rfl) (AW K ((B3).or (Ah K)) (AQ B2 Ao) (AW K Fp Fi (qv K 4) (A5 K)) (AW K Fo Fh (A5 K) (Cp K (DO hr) (qv K 0) (BH K)))))
    (A7 K (AS K (i:=5) sc_pick.nd rfl (by first|exact Or.inl rfl|exact Or.inr rfl) (AW K Fp Fi (AW K ((B3).or (Ah K)) (AQ B2 Ao) (AW K ((B3).or (Ah K)) (AQ B2 Ao) (AW K Fo Fh (qv K 5) (qv K 5)) (AW K Fo Fh (A5 K) (Cp K (DO hr) (qv K 0) (BH K)))) (A5 K)) (A5 K)))
    (A7 K (AS K (i:=5) sc_pick.nd rfl (by first|exact Or.inl rfl|exact Or.inr rfl) (AW K Fp Fi (AW K ((B3).or (Ah K)) (AQ B2 Ao) (AW K ((B3).or (Ah K)) (AQ B2 Ao) (AW K Fo Fh (qv K 5) (qv K 5)) (AW K Fo Fh (A5 K) (Cp K (DO hr) (qv K 0) (BH K)))) (A5 K)) (A5 K)))
    (AD K (Ag K (AW K Fp Fi (AW K IM IG (qv K 5) (A5 K)) (qv K 1)))))))))))))⟩
theorem ok_late_works{f_late_works f_pick:Addr}{d_late_works d_pick:FuncData}(DA:DefAt K mg "_law_late_works" Bv f_late_works d_late_works ["_law_source_here","_law_most"])(D_pick:DefAt K mg "_law_pick" EB f_pick d_pick ["_law_source_here","_law_many"])(G_pick:FnOk P w K mg base CX0 1 f_pick d_pick ["_law_source_here","_law_many"] (spF K 2 Az))(B:BltA mg):FnOk P w K mg base CX0 2 f_late_works d_late_works ["_law_source_here","_law_most"] (spF K 2 Dz):=by
  refine Al (N:=["_law_source_here","_law_most","_law_many","_law_coming","_law_longest","_law_heaviest","_law_span","_law_works","_law_k","_law_way","_law_length","_law_due","_law_weight","_law_work"]) (m:=Hm) DA sc_late_works λ cdv A outer s H E hr=>?_
  exact⟨_,(A7 K (AS K (i:=2) sc_late_works.nd rfl (by first|exact Or.inl rfl|exact Or.inr rfl) (AW K ((B3).or (Ah K)) (AQ B2 Ao) (A5 K) (AE K 2 G_pick hr D_pick (A1 K (qv K 0) (A1 K (qv K 1) (A6 K))) AI)))
    (A7 K (AS K (i:=3) sc_late_works.nd rfl (by first|exact Or.inl rfl|exact Or.inr rfl) (AE K 2 G_pick hr D_pick (A1 K (qv K 0) (A1 K (A5 K) (A6 K))) AI))
    (A7 K (AS K (i:=4) sc_late_works.nd rfl (by first|exact Or.inl rfl|exact Or.inr rfl) (Oz K (Dj K (A1 K (A5 K) (A1 K (A5 K) (A1 K (A5 K) (A6 K))))) (AE K 2 G_pick hr D_pick (A1 K (qv K 0) (A1 K (A5 K) (A6 K))) AI)))
    (A7 K (AS K (i:=5) sc_late_works.nd rfl (by first|exact Or.inl rfl|exact Or.inr rfl) (Oz K (Dj K (A1 K (A5 K) (A1 K (A5 K) (A1 K (A5 K) (A6 K))))) (AE K 2 G_pick hr D_pick (A1 K (qv K 0) (A1 K (A5 K) (A6 K))) AI)))
    (A7 K (AS K (i:=6) sc_late_works.nd rfl (by first|exact Or.inl rfl|exact Or.inr rfl) (AW K ((B3).or (Ah K)) (AQ B2 Ao) (A5 K) (AW K IM IG (AW K Fo Fh (qv K 2) (qv K 4)) (AW K ((B3).or (Ah K)) (AQ B2 Ao) (A5 K) (AE K 2 G_pick hr D_pick (A1 K (qv K 0) (A1 K (A5 K) (A6 K))) AI)))))
    (A7 K (AS K (i:=7) sc_late_works.nd rfl (by first|exact Or.inl rfl|exact Or.inr rfl) (C5 K (Dj K (A6 K))))
    (A7 K (Ch K rfl (IJ K B.range (A1 K (qv K 2) (A6 K))) (AO K (i:=8) sc_late_works.nd rfl (by first|exact Or.inl rfl|exact Or.inr rfl))
      (A7 K (AS K (i:=9) sc_late_works.nd rfl (by first|exact Or.inl rfl|exact Or.inr rfl) (AE K 2 G_pick hr D_pick (A1 K (qv K 0) (A1 K (A5 K) (A6 K))) AI))
    (A7 K (AS K (i:=10) sc_late_works.nd rfl (by first|exact Or.inl rfl|exact Or.inr rfl) (AW K ((B3).or (Ah K)) (AQ B2 Ao) (A5 K) (AE K 2 G_pick hr D_pick (A1 K (qv K 0) (A1 K (qv K 4) (A6 K))) AI)))
    (A7 K (AS K (i:=11) sc_late_works.nd rfl (by first|exact Or.inl rfl|exact Or.inr rfl) (AW K ((B3).or (Ah K)) (AQ B2 Ao) (AW K EF EC (qv K 3) (A5 K)) (AE K 2 G_pick hr D_pick (A1 K (qv K 0) (A1 K (qv K 6) (A6 K))) AI)))
    (A7 K (AS K (i:=12) sc_late_works.nd rfl (by first|exact Or.inl rfl|exact Or.inr rfl) (AE K 2 G_pick hr D_pick (A1 K (qv K 0) (A1 K (AW K ((B3).or (Ah K)) (AQ B2 Ao) (qv K 5) (A5 K)) (A6 K))) AI))
    (A7 K (BG K (Ay K ((FW).or (E3 K hr.units)) (AQ Ee Ef) (qv K 9) (A5 K))
      (AD K (AS K (i:=11) sc_late_works.nd rfl (by first|exact Or.inl rfl|exact Or.inr rfl) (AW K EF EC (AE K 2 G_pick hr D_pick (A1 K (qv K 0) (A1 K (A5 K) (A6 K))) AI) (A5 K))))
      (Aq K))
    (A7 K (BG K (QW.toT (Ha K (Ay K ((FW).or (E3 K hr.units)) (AQ Ee Ef) (qv K 9) (A5 K)) (GQ K (Ay K IL IF (qv K 8) (A5 K)))))
      (AD K (AS K (i:=11) sc_late_works.nd rfl (by first|exact Or.inl rfl|exact Or.inr rfl) (AK K (AK K (AK K (qv K 7) (AE K 2 G_pick hr D_pick (A1 K (qv K 0) (A1 K (qv K 8) (A6 K))) AI)) (A5 K)) (A5 K))))
      (Aq K))
    (A7 K (AS K (i:=13) sc_late_works.nd rfl (by first|exact Or.inl rfl|exact Or.inr rfl) (Be K (A1 K (qv K 10) (A1 K (qv K 3) (A1 K (Be K (A1 K (BH K) (A1 K (qv K 11) (A1 K (qv K 12) (A6 K))))) (A6 K))))))
    (A7 K (BG K (QW.toT (Ha K (Ay K ((FW).or (E3 K hr.units)) (AQ Ee Ef) (qv K 9) (A5 K)) (GQ K (Ay K IL IF (qv K 8) (A5 K)))))
      (AD K (AS K (i:=13) sc_late_works.nd rfl (by first|exact Or.inl rfl|exact Or.inr rfl) (AK K (qv K 7) (AE K 2 G_pick hr D_pick (A1 K (qv K 0) (A1 K (qv K 8) (A6 K))) AI))))
      (Aq K))
    (AD K (CI K (Gm K PySem.F.slot_list_append PySem.F.type_list_append Do EX (qv K 7) (A1 K (qv K 13) (A6 K))))))))))))))
    (AD K (Ag K (Kw K (Co K) (DC EQ) B.tuple L2.bt_tuple (A1 K (qv K 7) (A6 K))))))))))))⟩
theorem ok_far{f_far f_pick:Addr}{d_far d_pick:FuncData}(DA:DefAt K mg "_law_far" Fz f_far d_far ["_law_source_here","_law_works"])(D_pick:DefAt K mg "_law_pick" EB f_pick d_pick ["_law_source_here","_law_many"])(G_pick:FnOk P w K mg base CX0 1 f_pick d_pick ["_law_source_here","_law_many"] (spF K 2 Az))(B:BltA mg):FnOk P w K mg base CX0 2 f_far d_far ["_law_source_here","_law_works"] (spF K 2 Jq):=by
  refine Al (N:=["_law_source_here","_law_works","_law_way","_law_days","_law_j","_law_found","_law_k","_law_length","_law_coming","_law_cost","_law_later"]) (m:=S7) DA sc_far λ cdv A outer s H E hr=>?_
  exact⟨_,(A7 K (AS K (i:=2) sc_far.nd rfl (by first|exact Or.inl rfl|exact Or.inr rfl) (AE K 2 G_pick hr D_pick (A1 K (qv K 0) (A1 K (A5 K) (A6 K))) AI))
    (A7 K (AS K (i:=3) sc_far.nd rfl (by first|exact Or.inl rfl|exact Or.inr rfl) (AW K EF EC (AE K 2 G_pick hr D_pick (A1 K (qv K 0) (A1 K (A5 K) (A6 K))) AI) (A5 K)))
    (A7 K (AS K (i:=4) sc_far.nd rfl (by first|exact Or.inl rfl|exact Or.inr rfl) (AE K 2 G_pick hr D_pick (A1 K (qv K 0) (A1 K (DE K (BL K) (DC CN) B.len L2.bt_len (A1 K (qv K 1) (A6 K))) (A6 K))) AI))
    (A7 K (AS K (i:=5) sc_far.nd rfl (by first|exact Or.inl rfl|exact Or.inr rfl) (C5 K (Dj K (A6 K))))
    (A7 K (Ch K rfl (ER K B.enumerate (FH K (qv K 1))) (Ci K (n:=2) rfl (Aa K (AO K (i:=6) sc_far.nd rfl (by first|exact Or.inl rfl|exact Or.inr rfl)) (Aa K (Ci K (n:=3) rfl (Aa K (AO K (i:=7) sc_far.nd rfl (by first|exact Or.inl rfl|exact Or.inr rfl)) (Aa K (AO K (i:=8) sc_far.nd rfl (by first|exact Or.inl rfl|exact Or.inr rfl)) (Aa K (AO K (i:=9) sc_far.nd rfl (by first|exact Or.inl rfl|exact Or.inr rfl)) (Bx K))))) (Bx K))))
      (AD K (BG K (Ay K ((FW).or (E3 K hr.units)) (AQ Ee Ef) (qv K 2) (A5 K))
      (AD K (CI K (Gm K PySem.F.slot_list_append PySem.F.type_list_append Do EX (qv K 5) (A1 K (Be K (A1 K (qv K 7) (A1 K (A5 K) (A1 K (Be K (A1 K (BH K) (A1 K (AW K EF EC (qv K 3) (AE K 2 G_pick hr D_pick (A1 K (qv K 0) (A1 K (A5 K) (A6 K))) AI)) (A1 K (A5 K) (A6 K))))) (A6 K))))) (A6 K)))))
      (A7 K (AS K (i:=10) sc_far.nd rfl (by first|exact Or.inl rfl|exact Or.inr rfl) (Gn K (QW.toT (FU K (Ay K ((FW).or (E3 K hr.units)) (AQ Ee Ef) (qv K 2) (A5 K)) (GP K (Ay K ((FW).or (E3 K hr.units)) (AQ Ee Ef) (qv K 6) (qv K 4))))) (qv K 3) (A5 K)))
    (AD K (CI K (Gm K PySem.F.slot_list_append PySem.F.type_list_append Do EX (qv K 5) (A1 K (Be K (A1 K (qv K 7) (A1 K (qv K 8) (A1 K (Be K (A1 K (BH K) (A1 K (AW K ((B3).or (Ah K)) (AQ B2 Ao) (AK K (qv K 9) (A5 K)) (qv K 10)) (A1 K (AK K (qv K 9) (A5 K)) (A6 K))))) (A6 K))))) (A6 K)))))))))
    (AD K (Ag K (Kw K (Co K) (DC EQ) B.tuple L2.bt_tuple (A1 K (qv K 5) (A6 K))))))))))⟩
theorem ok_lby_dues{f_lby_dues:Addr}{d_lby_dues:FuncData}(DA:DefAt K mg "_law_by_dues" C9 f_lby_dues d_lby_dues ["_law_works"]) (B:BltA mg):FnOk P w K mg base CX0 1 f_lby_dues d_lby_dues ["_law_works"] (spF K 1 DQ):=by
  refine Al (N:=["_law_works"]) (m:=JX) DA Mc λ cdv A outer s H E hr=>?_
  exact⟨_,(AD K (Ag K (C5 K (Bo K (loc:=["_law_pair"]) (fr:=[]) (ix:=[]) rfl ⟨rfl,by decide +kernel,rfl,rfl,rfl,by decide +kernel⟩ (Ue K (Nz K B.sorted (Ow K (Bo K (loc:=["_law_k"]) (fr:=["_law_works"]) (ix:=[0]) rfl ⟨rfl,by decide +kernel,rfl,rfl,rfl,by decide +kernel⟩ (IJ K B.range (A1 K (DE K (BL K) (DC CN) B.len L2.bt_len (A1 K (qv K 0) (A6 K))) (A6 K))) (λ _ _ _=>(AO K (i:=0) (show(["_law_k","_law_works"]:List Str).Nodup from by decide +kernel) rfl (by first|exact Or.inl rfl|exact Or.inr rfl))) (λ _ _ _=>(Dk K)) (λ _ _ _=>(Be K (A1 K (AK K (AK K (AK K (qv K 1) (qv K 0)) (A5 K)) (A5 K)) (A1 K (qv K 0) (A6 K))))))))) (λ _ _ _=>(AO K (i:=0) (show(["_law_pair"]:List Str).Nodup from by decide +kernel) rfl (by first|exact Or.inl rfl|exact Or.inr rfl))) (λ _ _ _=>(Dk K)) (λ _ _ _=>(AK K (qv K 0) (A5 K)))))))⟩
theorem ok_sets{f_sets f_lby_dues:Addr}{d_sets d_lby_dues:FuncData}(DA:DefAt K mg "_law_sets" FF f_sets d_sets ["_law_works"])(D_lby_dues:DefAt K mg "_law_by_dues" C9 f_lby_dues d_lby_dues ["_law_works"])(G_lby_dues:FnOk P w K mg base CX0 1 f_lby_dues d_lby_dues ["_law_works"] (spF K 1 DQ))(B:BltA mg):FnOk P w K mg base CX0 2 f_sets d_sets ["_law_works"] (spF K 1 IB):=by
  refine Al (N:=["_law_works","_law_found","_law_row","_law_k","_law_length","_law_coming","_law_cost","_law_fitting"]) (m:=PM) DA sc_sets λ cdv A outer s H E hr=>?_
  exact⟨_,(A7 K (AS K (i:=1) sc_sets.nd rfl (by first|exact Or.inl rfl|exact Or.inr rfl) (C5 K (Dj K (A1 K (Be K (A1 K (A5 K) (A1 K (A5 K) (A1 K (AK K (AK K (qv K 0) (A5 K)) (A5 K)) (A1 K (C5 K (Dj K (A6 K))) (A6 K)))))) (A6 K)))))
    (A7 K (Ch K rfl (Sv K B.enumerate (K2 K (AE K 0 G_lby_dues hr D_lby_dues (A1 K (qv K 0) (A6 K)) AI))) (Ci K (n:=2) rfl (Aa K (AO K (i:=2) sc_sets.nd rfl (by first|exact Or.inl rfl|exact Or.inr rfl)) (Aa K (AO K (i:=3) sc_sets.nd rfl (by first|exact Or.inl rfl|exact Or.inr rfl)) (Bx K))))
      (A7 K (Ov K (AK K (qv K 0) (qv K 3)) (Ci K (n:=3) rfl (Aa K (AO K (i:=4) sc_sets.nd rfl (by first|exact Or.inl rfl|exact Or.inr rfl)) (Aa K (AO K (i:=5) sc_sets.nd rfl (by first|exact Or.inl rfl|exact Or.inr rfl)) (Aa K (AO K (i:=6) sc_sets.nd rfl (by first|exact Or.inl rfl|exact Or.inr rfl)) (Bx K))))))
    (A7 K (by first|exact Sr K (i:=7) (loc:=["_law_one"]) (fr:=["_law_length","_law_cost"]) (ix:=[4,6]) sc_sets.nd rfl rfl rfl ⟨rfl,by decide +kernel,rfl,rfl,rfl,by decide +kernel⟩ (E1 K (qv K 1)) (λ _ _ _=>(AO K (i:=0) (show(["_law_one","_law_length","_law_cost"]:List Str).Nodup from by decide +kernel) rfl (by first|exact Or.inl rfl|exact Or.inr rfl))) (λ _ _ _=>(Hb K (Ay K JR JJ (AW K ((B3).or (Ah K)) (AQ B2 Ao) (AK K (qv K 0) (A5 K)) (qv K 1)) (AK K (qv K 2) (A5 K))))) (λ _ _ _=>(qv K 0))|exact AS K (i:=7) sc_sets.nd rfl (by first|exact Or.inl rfl|exact Or.inr rfl) (C5 K (Bo K (loc:=["_law_one"]) (fr:=["_law_length","_law_cost"]) (ix:=[4,6]) rfl ⟨rfl,by decide +kernel,rfl,rfl,rfl,by decide +kernel⟩ (E1 K (qv K 1)) (λ _ _ _=>(AO K (i:=0) (show(["_law_one","_law_length","_law_cost"]:List Str).Nodup from by decide +kernel) rfl (by first|exact Or.inl rfl|exact Or.inr rfl))) (λ _ _ _=>(Hb K (Ay K JR JJ (AW K ((B3).or (Ah K)) (AQ B2 Ao) (AK K (qv K 0) (A5 K)) (qv K 1)) (AK K (qv K 2) (A5 K))))) (λ _ _ _=>(qv K 0)))))
    (AD K (AS K (i:=1) sc_sets.nd rfl (by first|exact Or.inl rfl|exact Or.inr rfl) (C5 K (Oy K (qv K 1) (C5 K (Bo K (loc:=["_law_one"]) (fr:=["_law_row","_law_cost","_law_length","_law_k"]) (ix:=[2,6,4,3]) rfl ⟨rfl,by decide +kernel,rfl,rfl,rfl,by decide +kernel⟩ (E1 K (qv K 7)) (λ _ _ _=>(AO K (i:=0) (show(["_law_one","_law_row","_law_cost","_law_length","_law_k"]:List Str).Nodup from by decide +kernel) rfl (by first|exact Or.inl rfl|exact Or.inr rfl))) (λ _ _ _=>(Dk K)) (λ _ _ _=>(Be K (A1 K (AW K ((B3).or (Ah K)) (AQ B2 Ao) (qv K 1) (A5 K)) (A1 K (AW K ((B3).or (Ah K)) (AQ B2 Ao) (AK K (qv K 0) (A5 K)) (AK K (qv K 2) (A5 K))) (A1 K (AW K ((B3).or (Ah K)) (AQ B2 Ao) (AK K (qv K 0) (A5 K)) (qv K 3)) (A1 K (C5 K (Oy K (AK K (qv K 0) (A5 K)) (C5 K (Dj K (A1 K (qv K 4) (A6 K)))))) (A6 K))))))))))))))))
    (AD K (Ag K (qv K 1)))))⟩
theorem ok_is_set{f_is_set:Addr}{d_is_set:FuncData}(DA:DefAt K mg "_law_is_set" Dh f_is_set d_is_set ["_law_many","_law_some"]) (B:BltA mg):FnOk P w K mg base CX0 1 f_is_set d_is_set ["_law_many","_law_some"] (spF K 2 Ez):=by
  refine Al (N:=["_law_many","_law_some","_law_at","_law_k"]) (m:=Lq) DA sc_is_set λ cdv A outer s H E hr=>?_
  exact⟨_,(A7 K (BG K (Di K (BP K (Fj K .tuple B.isinstance B.tuple (qv K 1))))
      (AD K (Ag K (FB K)))
      (Aq K))
    (A7 K (Ch K rfl (ER K B.enumerate (FH K (qv K 1))) (Ci K (n:=2) rfl (Aa K (AO K (i:=2) sc_is_set.nd rfl (by first|exact Or.inl rfl|exact Or.inr rfl)) (Aa K (AO K (i:=3) sc_is_set.nd rfl (by first|exact Or.inl rfl|exact Or.inr rfl)) (Bx K))))
      (AD K (BG K (QW.toT (FU K (Di K (BP K (Fj K .int B.isinstance B.int (qv K 3)))) (FU K (BP K (Fj K .bool B.isinstance B.bool (qv K 3))) (FU K (Ay K O4 Nq (qv K 3) (A5 K)) (FU K (Ay K O5 Nr (qv K 3) (qv K 0)) (GP K (QW.toT (Ha K (Ay K IL IF (qv K 2) (A5 K)) (GQ K (Ay K O5 Nr (AK K (qv K 1) (AW K EF EC (qv K 2) (A5 K))) (qv K 3)))))))))))
      (AD K (Ag K (FB K)))
      (Aq K))))
    (AD K (Ag K (FB K)))))⟩
theorem ok_end_in_time{f_end_in_time f_lby_dues:Addr}{d_end_in_time d_lby_dues:FuncData}(DA:DefAt K mg "_law_end_in_time" Bl f_end_in_time d_end_in_time ["_law_works","_law_some"])(D_lby_dues:DefAt K mg "_law_by_dues" C9 f_lby_dues d_lby_dues ["_law_works"])(G_lby_dues:FnOk P w K mg base CX0 1 f_lby_dues d_lby_dues ["_law_works"] (spF K 1 DQ))(B:BltA mg):FnOk P w K mg base CX0 2 f_end_in_time d_end_in_time ["_law_works","_law_some"] (spF K 2 DU):=by
  refine Al (N:=["_law_works","_law_some","_law_end","_law_k"]) (m:=HP) DA sc_end_in_time λ cdv A outer s H E hr=>?_
  exact⟨_,(A7 K (AS K (i:=2) sc_end_in_time.nd rfl (by first|exact Or.inl rfl|exact Or.inr rfl) (AK K (AK K (qv K 0) (A5 K)) (A5 K)))
    (A7 K (Ch K rfl (E1 K (AE K 0 G_lby_dues hr D_lby_dues (A1 K (qv K 0) (A6 K)) AI)) (AO K (i:=3) sc_end_in_time.nd rfl (by first|exact Or.inl rfl|exact Or.inr rfl))
      (AD K (BG K (Ay K (V6 K) Ru (qv K 3) (qv K 1))
      (A7 K (AS K (i:=2) sc_end_in_time.nd rfl (by first|exact Or.inl rfl|exact Or.inr rfl) (AW K ((B3).or (Ah K)) (AQ B2 Ao) (qv K 2) (AK K (AK K (qv K 0) (qv K 3)) (A5 K))))
    (AD K (BG K (Ay K IL IF (qv K 2) (AK K (AK K (AK K (qv K 0) (qv K 3)) (A5 K)) (A5 K)))
      (AD K (Ag K (Hc K)))
      (Aq K))))
      (Aq K))))
    (AD K (Ag K (qv K 2)))))⟩
theorem ok_weighted{f_weighted:Addr}{d_weighted:FuncData}(DA:DefAt K mg "_law_weighted" Ce f_weighted d_weighted ["_law_works","_law_weight"]) (B:BltA mg):FnOk P w K mg base CX0 1 f_weighted d_weighted ["_law_works","_law_weight"] (spF K 2 E7):=by
  refine Al (N:=["_law_works","_law_weight"]) (m:=JU) DA Mb λ cdv A outer s H E hr=>?_
  exact⟨_,(AD K (Ag K (O0 K (Co K) EQ B.tuple L2.bt_tuple (Bo K (loc:=["_law_length","_law_coming","_law_cost"]) (fr:=["_law_weight"]) (ix:=[1]) rfl ⟨rfl,by decide +kernel,rfl,rfl,rfl,by decide +kernel⟩ (GR K (qv K 0)) (λ _ _ _=>(Ci K (n:=3) rfl (Aa K (AO K (i:=0) (show(["_law_length","_law_coming","_law_cost","_law_weight"]:List Str).Nodup from by decide +kernel) rfl (by first|exact Or.inl rfl|exact Or.inr rfl)) (Aa K (AO K (i:=1) (show(["_law_length","_law_coming","_law_cost","_law_weight"]:List Str).Nodup from by decide +kernel) rfl (by first|exact Or.inl rfl|exact Or.inr rfl)) (Aa K (AO K (i:=2) (show(["_law_length","_law_coming","_law_cost","_law_weight"]:List Str).Nodup from by decide +kernel) rfl (by first|exact Or.inl rfl|exact Or.inr rfl)) (Bx K)))))) (λ _ _ _=>(Dk K)) (λ _ _ _=>(Be K (A1 K (qv K 0) (A1 K (qv K 1) (A1 K (Be K (A1 K (BH K) (A1 K (AK K (qv K 2) (A5 K)) (A1 K (qv K 3) (A6 K))))) (A6 K))))))))))⟩
theorem ok_law{f_law f_lets_table f_table_of f_put_out f_source f_pick f_late_works f_far f_sets f_is_set f_end_in_time f_weighted:Addr}{d_law d_lets_table d_table_of d_put_out d_source d_pick d_late_works d_far d_sets d_is_set d_end_in_time d_weighted:FuncData}(DA:DefAt K mg "law" FA f_law d_law ["_law_script"])(D_lets_table:DefAt K mg "lets_table" Bu f_lets_table d_lets_table ["works","thing"])(G_lets_table:FnOk P w K mg base CX0 6 f_lets_table d_lets_table ["works","thing"] (spF K 2 Dy))(D_table_of:DefAt K mg "table_of" Cf f_table_of d_table_of ["works"])(G_table_of:FnOk P w K mg base CX0 5 f_table_of d_table_of ["works"] (spF K 1 El))(D_put_out:DefAt K mg "put_out" Br f_put_out d_put_out ["works"])(G_put_out:FnOk P w K mg base CX0 5 f_put_out d_put_out ["works"] (spF K 1 FO))(D_source:DefAt K mg "_law_source" Dg f_source d_source ["_law_script"])(G_source:FnOk P w K mg base CX0 1 f_source d_source ["_law_script"] (spF K 1 Fw))(D_pick:DefAt K mg "_law_pick" EB f_pick d_pick ["_law_source_here","_law_many"])(G_pick:FnOk P w K mg base CX0 1 f_pick d_pick ["_law_source_here","_law_many"] (spF K 2 Az))(D_late_works:DefAt K mg "_law_late_works" Bv f_late_works d_late_works ["_law_source_here","_law_most"])(G_late_works:FnOk P w K mg base CX0 2 f_late_works d_late_works ["_law_source_here","_law_most"] (spF K 2 Dz))(D_far:DefAt K mg "_law_far" Fz f_far d_far ["_law_source_here","_law_works"])(G_far:FnOk P w K mg base CX0 2 f_far d_far ["_law_source_here","_law_works"] (spF K 2 Jq))(D_sets:DefAt K mg "_law_sets" FF f_sets d_sets ["_law_works"])(G_sets:FnOk P w K mg base CX0 2 f_sets d_sets ["_law_works"] (spF K 1 IB))(D_is_set:DefAt K mg "_law_is_set" Dh f_is_set d_is_set ["_law_many","_law_some"])(G_is_set:FnOk P w K mg base CX0 1 f_is_set d_is_set ["_law_many","_law_some"] (spF K 2 Ez))(D_end_in_time:DefAt K mg "_law_end_in_time" Bl f_end_in_time d_end_in_time ["_law_works","_law_some"])(G_end_in_time:FnOk P w K mg base CX0 2 f_end_in_time d_end_in_time ["_law_works","_law_some"] (spF K 2 DU))(D_weighted:DefAt K mg "_law_weighted" Ce f_weighted d_weighted ["_law_works","_law_weight"])(G_weighted:FnOk P w K mg base CX0 1 f_weighted d_weighted ["_law_works","_law_weight"] (spF K 2 E7))(B:BltA mg):FnOk P w K mg base CX0 7 f_law d_law ["_law_script"] (spF K 1 F_law):=by
  refine Al (N:=["_law_script","_law_source_here","_law_works","_law_turn","_law_weight","_law_told","_law_sets_here","_law_lengths","_law_j"]) (m:=S6) DA sc_law λ cdv A outer s H E hr=>?_
  exact⟨_,(A7 K (AS K (i:=1) sc_law.nd rfl (by first|exact Or.inl rfl|exact Or.inr rfl) (Lc K G_source hr D_source (A1 K (qv K 0) (A6 K)) AI))
    (A7 K (AS K (i:=2) sc_law.nd rfl (by first|exact Or.inl rfl|exact Or.inr rfl) (Be K (A6 K)))
    (A7 K (Ch K rfl (IJ K B.range (A1 K (A5 K) (A6 K))) (AO K (i:=3) sc_law.nd rfl (by first|exact Or.inl rfl|exact Or.inr rfl))
      (Ou K (A7 K (BG K (Ay K O4 Nq (qv K 3) (A5 K))
      (A7 K (AS K (i:=2) sc_law.nd rfl (by first|exact Or.inl rfl|exact Or.inr rfl) (AE K 2 G_late_works hr D_late_works (A1 K (qv K 1) (A1 K (A5 K) (A6 K))) AI))
    (AD K (AS K (i:=2) sc_law.nd rfl (by first|exact Or.inl rfl|exact Or.inr rfl) (AE K 0 G_weighted hr D_weighted (A1 K (qv K 2) (A1 K (AE K 2 G_pick hr D_pick (A1 K (qv K 1) (A1 K (A5 K) (A6 K))) AI) (A6 K))) AI))))
      (AD K (AS K (i:=2) sc_law.nd rfl (by first|exact Or.inl rfl|exact Or.inr rfl) (AE K 2 G_far hr D_far (A1 K (qv K 1) (A1 K (qv K 2) (A6 K))) AI))))
    (A7 K (AS K (i:=4) sc_law.nd rfl (by first|exact Or.inl rfl|exact Or.inr rfl) (AK K (AK K (AK K (qv K 2) (A5 K)) (A5 K)) (A5 K)))
    (A7 K (AS K (i:=5) sc_law.nd rfl (by first|exact Or.inl rfl|exact Or.inr rfl) (AE K 0 G_put_out hr D_put_out (A1 K (qv K 2) (A6 K)) AI))
    (A7 K (BG K (QW.toT (FU K (Di K (BP K (Fj K .tuple B.isinstance B.tuple (qv K 5)))) (GP K (Ay K ((IK).or (Es K hr.units)) (AQ GN GO) (DE K (BL K) (DC CN) B.len L2.bt_len (A1 K (qv K 5) (A6 K))) (A5 K)))))
      (AD K (Ag K (FB K)))
      (Aq K))
    (A7 K (BG K (QW.toT (FU K (Di K (BP K (AE K 0 G_is_set hr D_is_set (A1 K (DE K (BL K) (DC CN) B.len L2.bt_len (A1 K (qv K 2) (A6 K))) (A1 K (AK K (qv K 5) (A5 K)) (A6 K))) AI))) (GP K (Di K (BP K (AE K 0 G_is_set hr D_is_set (A1 K (DE K (BL K) (DC CN) B.len L2.bt_len (A1 K (qv K 2) (A6 K))) (A1 K (AK K (qv K 5) (A5 K)) (A6 K))) AI))))))
      (AD K (Ag K (FB K)))
      (Aq K))
    (A7 K (BG K (QW.toT (FU K (So K (PB K hr.units) (Ny K B.sorted (FH K (AW K (((B3).or (Ah K)).or (N5 K)) (AQ (AQ B2 Ao) Mv) (AK K (qv K 5) (A5 K)) (AK K (qv K 5) (A5 K))))) (Qm K B.list B.range (A1 K (DE K (BL K) (DC CN) B.len L2.bt_len (A1 K (qv K 2) (A6 K))) (A6 K)))) (GP K (La K (AE K 0 G_end_in_time hr D_end_in_time (A1 K (qv K 2) (A1 K (AK K (qv K 5) (A5 K)) (A6 K))) AI)))))
      (AD K (Ag K (FB K)))
      (Aq K))
    (A7 K (AS K (i:=6) sc_law.nd rfl (by first|exact Or.inl rfl|exact Or.inr rfl) (Lc K G_sets hr D_sets (A1 K (AE K 0 G_weighted hr D_weighted (A1 K (qv K 2) (A1 K (A5 K) (A6 K))) AI) (A6 K)) AI))
    (A7 K (BG K (Ay K ((IK).or (Es K hr.units)) (AQ GN GO) (DE K (BL K) (DC CN) B.len L2.bt_len (A1 K (AK K (qv K 5) (A5 K)) (A6 K))) (FV K ((Kf K rfl).or (Jo K rfl)) Oo B.max L2.bt_max (Bo K (loc:=["_law_one"]) (fr:=[]) (ix:=[]) rfl ⟨rfl,by decide +kernel,rfl,rfl,rfl,by decide +kernel⟩ (E1 K (qv K 6)) (λ _ _ _=>(AO K (i:=0) (show(["_law_one"]:List Str).Nodup from by decide +kernel) rfl (by first|exact Or.inl rfl|exact Or.inr rfl))) (λ _ _ _=>(Dk K)) (λ _ _ _=>(AK K (qv K 0) (A5 K))))))
      (AD K (Ag K (FB K)))
      (Aq K))
    (A7 K (AS K (i:=7) sc_law.nd rfl (by first|exact Or.inl rfl|exact Or.inr rfl) (C5 K (JO K B.sorted (Ow K (Bo K (loc:=["_law_k"]) (fr:=["_law_works"]) (ix:=[2]) rfl ⟨rfl,by decide +kernel,rfl,rfl,rfl,by decide +kernel⟩ (GR K (AK K (qv K 5) (A5 K))) (λ _ _ _=>(AO K (i:=0) (show(["_law_k","_law_works"]:List Str).Nodup from by decide +kernel) rfl (by first|exact Or.inl rfl|exact Or.inr rfl))) (λ _ _ _=>(Dk K)) (λ _ _ _=>(AK K (AK K (qv K 1) (qv K 0)) (A5 K))))))))
    (A7 K (Ch K rfl (Su K B.range (A1 K (A5 K) (A1 K (AW K ((B3).or (Ah K)) (AQ B2 Ao) (DE K (BL K) (DC CN) B.len L2.bt_len (A1 K (qv K 7) (A6 K))) (A5 K)) (A6 K)))) (AO K (i:=8) sc_law.nd rfl (by first|exact Or.inl rfl|exact Or.inr rfl))
      (AD K (BG K (Ay K ((IK).or (Es K hr.units)) (AQ GN GO) (FV K ((Hx K rfl).or (HG K rfl)) LU B.sum L2.bt_sum (Ox K (qv K 7) (N2 K) (N1 K (qv K 8)))) (AW K EF EC (FV K (Pn K rfl) UR B.min L2.bt_min (Bo K (loc:=["_law_one"]) (fr:=["_law_j"]) (ix:=[8]) rfl ⟨rfl,by decide +kernel,rfl,rfl,rfl,by decide +kernel⟩ (E1 K (qv K 6)) (λ _ _ _=>(AO K (i:=0) (show(["_law_one","_law_j"]:List Str).Nodup from by decide +kernel) rfl (by first|exact Or.inl rfl|exact Or.inr rfl))) (λ _ _ _=>(Hb K (Ay K ((FW).or (E3 K hr.units)) (AQ Ee Ef) (AK K (qv K 0) (A5 K)) (qv K 1)))) (λ _ _ _=>(AK K (qv K 0) (A5 K))))) (AK K (AK K (qv K 2) (A5 K)) (A5 K))))
      (AD K (Ag K (FB K)))
      (Aq K))))
    (AD K (BG K (Ay K ((IK).or (Es K hr.units)) (AQ GN GO) (AE K 0 G_lets_table hr D_lets_table (A1 K (qv K 2) (A1 K (AE K 0 G_table_of hr D_table_of (A1 K (qv K 2) (A6 K)) AI) (A6 K))) AI) (AW K Fo Fh (qv K 4) (DE K (BL K) (DC CN) B.len L2.bt_len (A1 K (AK K (qv K 5) (A5 K)) (A6 K)))))
      (AD K (Ag K (FB K)))
      (Aq K)))))))))))))))
    (AD K (Ag K (FB K))))))⟩
end
end T41
namespace Bd
open PySem L2
end Bd
namespace Rw
open PySem L2 Bd
end Rw
namespace L2
open PySem PySem.Spec PyProof.Rows
section
variable{hd:Hd}{QE:D->Hd->Prop}{d:D}
end
end L2
namespace T41
open PySem L2 Bd
structure Sp where
  cells:List Int
  a:Int
  rs:Int
  cn:Int
noncomputable def CM(t:Sp):List (Key × D):=[(.inr "cells",.mu 0),(.inr "at",.im (.int t.a)),(.inr "rest",.im (.int t.rs)),(.inr "count",.im (.int t.cn))]
noncomputable def sp(t:Sp):Hd:=[.lst (t.cells.map λ i=>.im (.int i)),.dic (CM t)]
@[simp] theorem sp0(t:Sp):(sp t)[0]? = some (.lst (t.cells.map λ i=>.im (.int i))):=rfl
@[simp] theorem sp1(t:Sp):(sp t)[1]? = some (.dic (CM t)):=rfl
@[simp] theorem YG(t t':Sp)(h:t'.cells=t.cells):(sp t).set 1 (.dic (CM t'))=sp t':=by unfold sp;rw[h];rfl
theorem DK:(("cells":Str)="at")=False:=by simp[eq_iff_iff];decide
theorem CT:(("cells":Str)="rest")=False:=by simp[eq_iff_iff];decide
theorem C0:(("cells":Str)="count")=False:=by simp[eq_iff_iff];decide
theorem DM:(("at":Str)="cells")=False:=by simp[eq_iff_iff];decide
theorem Du:(("at":Str)="rest")=False:=by simp[eq_iff_iff];decide
theorem DL:(("at":Str)="count")=False:=by simp[eq_iff_iff];decide
theorem CQ:(("rest":Str)="cells")=False:=by simp[eq_iff_iff];decide
theorem Dt:(("rest":Str)="at")=False:=by simp[eq_iff_iff];decide
theorem CP:(("rest":Str)="count")=False:=by simp[eq_iff_iff];decide
theorem Bz:(("count":Str)="cells")=False:=by simp[eq_iff_iff];decide
theorem DJ:(("count":Str)="at")=False:=by simp[eq_iff_iff];decide
theorem CS:(("count":Str)="rest")=False:=by simp[eq_iff_iff];decide
section
variable(t:Sp)(v:Int)
@[simp] theorem Wo:De (CM t) (.inr "cells")=some (.mu 0):=by simp[De,CM]
@[simp] theorem YH:De (CM t) (.inr "at")=some (.im (.int t.a)):=by simp[De,CM,DK,CT,C0,DM,Du,DL,CQ,Dt,CP,Bz,DJ,CS]
@[simp] theorem XF:De (CM t) (.inr "rest")=some (.im (.int t.rs)):=by simp[De,CM,DK,CT,C0,DM,Du,DL,CQ,Dt,CP,Bz,DJ,CS]
@[simp] theorem Wn:De (CM t) (.inr "count")=some (.im (.int t.cn)):=by simp[De,CM,DK,CT,C0,DM,Du,DL,CQ,Dt,CP,Bz,DJ,CS]
@[simp] theorem Xi:Eg (CM t) (.inr "at") (.im (.int v))=CM { t with a:=v }:=by simp[Eg,CM,DK,CT,C0,DM,Du,DL,CQ,Dt,CP,Bz,DJ,CS]
@[simp] theorem Wl:Eg (CM t) (.inr "rest") (.im (.int v))=CM { t with rs:=v }:=by simp[Eg,CM,DK,CT,C0,DM,Du,DL,CQ,Dt,CP,Bz,DJ,CS]
@[simp] theorem Wc:Eg (CM t) (.inr "count") (.im (.int v))=CM { t with cn:=v }:=by simp[Eg,CM,DK,CT,C0,DM,Du,DL,CQ,Dt,CP,Bz,DJ,CS]
@[simp] theorem Xj:(CM t).length=4:=rfl
end
theorem o1:EN 1073741827:=by unfold EN;decide
theorem o2:EN 2147483543:=by unfold EN;decide
theorem o3:EN 2147483497:=by unfold EN;decide
theorem o4:Jl 256:=by unfold Jl;decide
theorem o5(j:Int):G5 611953 j:=Et (by decide) (by decide)
theorem o6(j:Int):G5 3 j:=Et (by decide) (by decide)
theorem o7(j:Int):G5 69069 j:=Et (by decide) (by decide)
noncomputable def mx1(c n:Int):Int:=c % 1073741827 + 611953 * n
noncomputable def mx2(x n:Int):Int:=(x * x + 3 * n + 7) % 2147483543
noncomputable def mx3(x n:Int):Int:=(x * x + 69069 * n + 1) % 2147483497
theorem T9(τ:Sp)(many:Int)(h0:0 < many)(h1:many < 1073741824)(n0:0 <= τ.cn)(n1:τ.cn <= 100000):∃ r τ',Az [.mu 1,.im (.int many)] (sp τ)=some (.im (.int r),sp τ')/\0 <= r/\r < many/\τ'.cn=τ.cn + 1:=by
  have hm:EN many:=h0
  have hv:Jl many:=⟨h0,h1⟩
  by_cases hl:τ.rs > 0
  . refine⟨τ.rs % many,{ τ with cn:=τ.cn + 1,rs:=τ.rs / many },?_,(FX many h0).1,(FX many h0).2,rfl⟩
    simp[Az,mkF,hl,hm,hv]
  . have key:∀ cell:Int,(if τ.cells=[]then cell=11 else atI (τ.cells.map λ i=>D.im (.int i)) (τ.a % (τ.cells.length:Int))=some (.im (.int cell))) ->
        ∃ r τ',Az [.mu 1,.im (.int many)] (sp τ)=some (.im (.int r),sp τ')/\0 <= r/\r < many/\τ'.cn=τ.cn + 1:=by
      intro cell hcell
      have b1:=FX (x:=cell) 1073741827 (by decide)
      have b2:=FX (x:=mx1 cell (τ.cn + 1) * mx1 cell (τ.cn + 1) + 3 * (τ.cn + 1) + 7) 2147483543 (by decide)
      have c1:∀ j,G5 (mx1 cell (τ.cn + 1)) j:=λ j=>Et (by unfold mx1;omega) (by unfold mx1;omega)
      have c2:∀ j,G5 (mx2 (mx1 cell (τ.cn + 1)) (τ.cn + 1)) j:=λ j=>Et (by unfold mx2;omega) (by unfold mx2;omega)
      by_cases hb:cell >= 1000000000000000000/\τ.a + 1 <= (τ.cells.length:Int)
      . refine⟨cell % many,{ τ with cn:=τ.cn + 1,a:=τ.a + 1,rs:=cell / many },?_,(FX many h0).1,(FX many h0).2,rfl⟩
        by_cases hc:τ.cells=[]
        . rw[if_pos hc]at hcell;subst hcell;omega
        . rw[if_neg hc]at hcell
          have hl0:0 < τ.cells.length:=CK hc
          have hl0':EN (τ.cells.length:Int):=by unfold EN;omega
          simp[Az,mkF,hl,hm,hv,o1,o2,o3,o4,o5,o6,o7,po1,Gq,pyD,Ek,Er,I.pys,Gb,hc,hcell,hl0',hb.1,hb.2,C1]
      . refine⟨mx3 (mx2 (mx1 cell (τ.cn + 1)) (τ.cn + 1)) (τ.cn + 1) / 256 % many,{ τ with cn:=τ.cn + 1,a:=τ.a + 1 },?_,(FX many h0).1,(FX many h0).2,rfl⟩
        have hb':1000000000000000000 <= cell->¬ τ.a + 1 <= (τ.cells.length:Int):=λ a b=>hb ⟨a,b⟩
        unfold mx1 at c1 c2
        unfold mx2 at c2
        unfold mx3 mx2 mx1
        by_cases hc:τ.cells=[]
        . rw[if_pos hc]at hcell;subst hcell
          simp only[Int.reduceMod]at c1 c2
          simp[Az,mkF,hl,hm,hv,o1,o2,o3,o4,o5,o6,o7,po1,Gq,pyD,Ek,Er,I.pys,Gb,Ve,hc,C1,c1,c2]
        . rw[if_neg hc]at hcell
          have hl0:0 < τ.cells.length:=CK hc
          have hl0':EN (τ.cells.length:Int):=by unfold EN;omega
          by_cases hd:1000000000000000000 <= cell
          . simp[Az,mkF,hl,hm,hv,o1,o2,o3,o4,o5,o6,o7,po1,Gq,pyD,Ek,Er,I.pys,Gb,hc,hcell,hl0',C1,c1,c2,hd,hb' hd]
          . simp[Az,mkF,hl,hm,hv,o1,o2,o3,o4,o5,o6,o7,po1,Gq,pyD,Ek,Er,I.pys,Gb,hc,hcell,hl0',C1,c1,c2,hd]
    by_cases hc:τ.cells=[]
    . exact key 11 (by rw[if_pos hc])
    . obtain⟨c,e⟩:=WY hc τ.a
      exact key c (by rw[if_neg hc];exact e)
noncomputable def T(k:Nat)(a b:MO):Prop:=∃ τ:Sp,0 <= τ.cn/\τ.cn + k <= 100000/\sp τ=[a,b]
theorem tap:Tap T Az where
  cl:=by
    rintro k a b ⟨τ,_,_,e⟩
    cases e
    simp[clO,Cw,CM,GI,clD]
  le:=by
    rintro j k a b ⟨τ,h1,h2,e⟩ h
    exact⟨τ,h1,by omega,e⟩
  pick:=by
    rintro k a b many ⟨τ,n0,n1,e⟩ h0 h1
    obtain⟨r,τ',eq,p1,p2,c⟩:=T9 τ many h0 h1 n0 (by push_cast at n1;omega)
    refine⟨r,.lst (τ'.cells.map λ i=>.im (.int i)),.dic (CM τ'),p1,p2,?_,τ',by omega,by push_cast at n1;omega,rfl⟩
    rw[<- e]
    exact eq
theorem QD(ns:List Int):WF Fw [.ro ns] [] λ d x=>d=.mu 1/\∃ a b,T 90000 a b/\x=[a,b]:=by
  obtain⟨cs,e⟩:=Re ns none (some 63)
  exact⟨.mu 1,_,by simp[Fw,mkF,e,GW,Eg,DK,CT,C0,DM,Du,DL,CQ,Dt,CP,Bz,DJ,CS];rfl,rfl,_,_,⟨⟨cs,0,0,0⟩,(show(0:Int) <= 0 by decide),(show(0:Int) + (90000:Nat) <= 100000 by decide),rfl⟩,rfl⟩
structure Wm where
  len:Int
  com:Int
  due:Int
  wt:Int
noncomputable def wmI(w:Wm):I:=.tup [.int w.len,.int w.com,.tup [.str "miss",.int w.due,.int w.wt]]
noncomputable abbrev wmD(w:Wm):D:=.im (wmI w)
noncomputable abbrev Ae(ws:List Wm):I:=.tup (ws.map wmI)
theorem BC(ws:List Wm):(ws.map wmI).map D.im=ws.map wmD:=by rw[List.map_map];rfl
noncomputable def okM(B c:Int)(w:Wm):Prop:=(1 <= w.len/\w.len <= 20)/\w.com=c/\(-B <= w.due/\w.due <= B)/\0 <= w.wt/\w.wt <= 9
noncomputable def okMs(B c:Int)(ws:List Wm):Prop:=ws ≠ []/\ws.length <= 8/\(0 <= c/\c <= 60)/\∀ w ∈ ws,okM B c w
theorem at3{r:Int}(h0:0 <= r)(h1:r < 3)(x y z:D):∃ d,(d=x ∨ d=y ∨ d=z)/\atI [x,y,z] r=some d:=by
  have:r=0 ∨ r=1 ∨ r=2:=by omega
  rcases this with rfl|rfl|rfl
  . exact⟨x,.inl rfl,Ey (j:=0) rfl⟩
  . exact⟨y,.inr (.inl rfl),Ey (j:=1) rfl⟩
  . exact⟨z,.inr (.inr rfl),Ey (j:=2) rfl⟩
noncomputable abbrev Lw(c lo hv sp:Int)(m:Int)(z8 z9 z10 z11 z12 z13:Option D):Ls:=[some (.mu 1),some (.im (.int 8)),some (.im (.int m)),some (.im (.int c)),some (.im (.int lo)),some (.im (.int hv)),some (.im (.int sp)),some (.mu 2),z8,z9,z10,z11,z12,z13]
inductive I_late_works_w(n k:Nat)(c lo hv sn:Int)(r:List D)(ls:Ls)(hd:Hd):Prop
  | mk (j:Nat) (ws:List Wm) (a b:MO) (z8 z9 z10 z11 z12 z13:Option D) (h0:r=Ax (j:Int) (k - j)) (h1:j <= k) (h2:ws.length=j) (h3:(∀ w ∈ ws,okM 500 c w)) (h4:ls=Lw c lo hv sn (k:Int) z8 z9 z10 z11 z12 z13) (h5:hd=[a,b,.lst (ws.map wmD)]) (h6:T (n + 10 * (k - j)) a b):I_late_works_w n k c lo hv sn r ls hd
inductive J_d1(c lo hv sn:Int)(k j n:Nat)(way ln wt:Int)(z13:Option D)(ws:List Wm)(f:Fl)(x:Hd):Prop
  | mk (due:Int) (a b:MO) (h0:f=Fl.nx (Lw c lo hv sn (k:Int) (some (.im (.int (j:Int)))) (some (.im (.int way))) (some (.im (.int (1 + ln)))) (some (.im (.int due))) (some (.im (.int wt))) z13)) (h1:x=[a,b,.lst (ws.map wmD)]) (h2:(-500 <= due/\due <= 500)) (h3:T (n + 10 * (k - (j + 1)) + 5) a b):J_d1 c lo hv sn k j n way ln wt z13 ws f x
inductive J_d2(c lo hv sn:Int)(k j n:Nat)(way ln wt:Int)(z13:Option D)(ws:List Wm)(f:Fl)(x:Hd):Prop
  | mk (due:Int) (a b:MO) (h0:f=Fl.nx (Lw c lo hv sn (k:Int) (some (.im (.int (j:Int)))) (some (.im (.int way))) (some (.im (.int (1 + ln)))) (some (.im (.int due))) (some (.im (.int wt))) z13)) (h1:x=[a,b,.lst (ws.map wmD)]) (h2:(-500 <= due/\due <= 500)) (h3:T (n + 10 * (k - (j + 1)) + 4) a b):J_d2 c lo hv sn k j n way ln wt z13 ws f x
inductive J_d3(c lo hv sn:Int)(k j n:Nat)(way ln due wt:Int)(ws:List Wm)(f:Fl)(x:Hd):Prop
  | mk (w:Wm) (a b:MO) (h0:f=Fl.nx (Lw c lo hv sn (k:Int) (some (.im (.int (j:Int)))) (some (.im (.int way))) (some (.im (.int (1 + ln)))) (some (.im (.int due))) (some (.im (.int wt))) (some (wmD w)))) (h1:x=[a,b,.lst (ws.map wmD)]) (h2:okM 500 c w) (h3:T (n + 10 * (k - (j + 1)) + 3) a b):J_d3 c lo hv sn k j n way ln due wt ws f x
theorem Lu(n:Nat):∀ a b,T (n + 100) a b->WF Dz [.mu 1,.im (.int 8)] [a,b] λ d x=>∃ i a' b' g,d=.im i/\(∃ ws c,i=Ae ws/\okMs 500 c ws)/\T n a' b'/\x=a' :: b' :: g:=by
  intro a b hT
  unfold Dz
  refine BF rfl ?_
  refine AH (AY (A8 (AJ ?_)))
  refine tap.draw hT rfl (by first|decide|omega) (by first|decide|omega) λ m a b hT pm qm=>?_
  refine C3 (AB (AH (AY ?_)))
  refine tap.draw hT rfl (by first|decide|omega) (by first|decide|omega) λ c a b hT pc qc=>?_
  refine AB (AH (AY (Oa (EA (A3 (AJ (A3 (AJ (A3 (AJ (AA ⟨EI,?_⟩)))))))))))
  refine tap.draw hT rfl (by first|decide|omega) (by first|decide|omega) λ r2 a b hT pr2 qr2=>?_
  obtain⟨d2,hd2,ed2⟩:=at3 pr2 qr2 (.im (.int 20)) (.im (.int 5)) (.im (.int 2))
  refine⟨_,_,rfl,ed2,?_⟩
  obtain⟨lo,rfl,hlo⟩:∃ t,d2=.im (.int t)/\(2 <= t/\t <= 20):=by
    rcases hd2 with rfl|rfl|rfl <;> exact⟨_,rfl,by omega,by omega⟩
  refine AB (AH (AY (Oa (EA (A3 (AJ (A3 (AJ (A3 (AJ (AA ⟨EI,?_⟩)))))))))))
  refine tap.draw hT rfl (by first|decide|omega) (by first|decide|omega) λ r3 a b hT pr3 qr3=>?_
  obtain⟨d3,hd3,ed3⟩:=at3 pr3 qr3 (.im (.int 9)) (.im (.int 3)) (.im (.int 1))
  refine⟨_,_,rfl,ed3,?_⟩
  obtain⟨hv,rfl,hhv⟩:∃ t,d3=.im (.int t)/\(1 <= t/\t <= 9):=by
    rcases hd3 with rfl|rfl|rfl <;> exact⟨_,rfl,by omega,by omega⟩
  refine AB (AH (AY (A8 (AJ (A8 (A8 (A0 rfl (A0 rfl ?_))))))))
  refine OX (Et (by omega) (by omega)) ?_
  refine A8 (AJ ?_)
  refine tap.draw hT rfl (by first|decide|omega) (by first|decide|omega) λ r4 a b hT pr4 qr4=>?_
  refine C3 ?_
  refine SG ⟨by omega,by omega⟩ ?_
  refine C3 (AB (AH (AY (CL (EA (AA ⟨FN,AB (AH (Ca (NN (A3 (A0 rfl (AA ⟨_,rfl,?_⟩))))))⟩))))))
  have hsp:0 <= (1 + m) * lo / (1 + r4)/\(1 + m) * lo / (1 + r4) <= 160:=by
    have h1:0 <= (1 + m) * lo:=Int.mul_nonneg (by omega) (by omega)
    have h2:(1 + m) * lo <= 8 * lo:=Int.mul_le_mul_of_nonneg_right (by omega) (by omega)
    refine⟨Int.ediv_nonneg h1 (by omega),?_⟩
    have:(1 + m) * lo / (1 + r4) <= (1 + m) * lo:=Int.ediv_le_self _ h1
    omega
  generalize hS:2 + (1 + m) * lo / (1 + r4)=sn at *
  refine⟨IE (by omega) (by omega),?_⟩
  obtain⟨k,hk⟩:=Int.eq_ofNat_of_zero_le (show 0 <= 1 + m by omega)
  rw[hk,Int.toNat_natCast]
  change WP (By _ _ _ _ (Lw c lo hv sn (k:Int) none none none none none none) [a,b,.lst []]) _
  have hT:T (n + 10 * (k - 0)) a b:=tap.le hT (by omega)
  refine C4 (I_late_works_w n k c lo hv sn) ⟨0,[],a,b,none,none,none,none,none,none,rfl,by omega,rfl,by simp,rfl,rfl,hT⟩ ?_ ?_
  . rintro d r ls hd ⟨j,ws,a,b,z8,z9,z10,z11,z12,z13,er,hj,hl,hws,rfl,rfl,hT⟩
    obtain⟨m',hm⟩:∃ m,k - j=m + 1:=by
      cases q:k - j with
      | zero=>rw[q]at er;cases er
      | succ m=>exact⟨m,rfl⟩
    rw[hm,Ax]at er
    obtain⟨rfl,rfl⟩:=List.cons.inj er
    have hT:T (n + 10 * (k - (j + 1)) + 10) a b:=tap.le hT (by omega)
    refine⟨Lw c lo hv sn (k:Int) (some (.im (.int (j:Int)))) z9 z10 z11 z12 z13,rfl,?_⟩
    have atw:∀ r:Int,0 <= r->r < j->∃ w ∈ ws,atI (ws.map wmD) r=some (wmD w):=by
      intro r h0 h1
      obtain⟨i,hi⟩:=Int.eq_ofNat_of_zero_le h0
      have hi':i < ws.length:=by omega
      exact⟨ws[i],List.getElem_mem hi',KK hi (by simp[hi'])⟩
    refine AH (AY ?_)
    refine tap.draw hT rfl (by first|decide|omega) (by first|decide|omega) λ way a b hT pway qway=>?_
    refine AB (AH (AY (A8 (AJ ?_))))
    refine tap.draw hT rfl (by first|decide|omega) (by first|decide|omega) λ ln a b hT pln qln=>?_
    refine C3 (AB (AH (AY (A8 (A8 (A0 rfl (AJ (E9 ?_))))))))
    refine tap.draw hT rfl (by first|decide|omega) (by first|decide|omega) λ du a b hT pdu qdu=>?_
    refine C3 (AB (AH (AY ?_)))
    refine tap.draw hT (many:=hv + 1) (rest:=[.lst (ws.map wmD)]) (by simp) (by omega) (by omega) λ wt a b hT pwt qwt=>AB ?_
    change WS _ (Lw c lo hv sn (k:Int) (some (.im (.int (j:Int)))) (some (.im (.int way))) (some (.im (.int (1 + ln)))) (some (.im (.int (c - 1 + du)))) (some (.im (.int wt))) z13) [a,b,.lst (ws.map wmD)] _
    -- the due
    refine AH (WP.mono (Q:=J_d1 c lo hv sn k j n way ln wt z13 ws) (B6 (Ac (A8 (A0 rfl (AJ (Eb ⟨_,rfl,λ hc=>?_,λ hc=>An ⟨_,a,b,rfl,rfl,by omega,tap.le hT (by omega)⟩⟩)))))) ?_)
    . refine AY (A8 ?_)
      refine tap.draw hT rfl (by first|decide|omega) (by first|decide|omega) λ r5 a b hT pr5 qr5=>?_
      exact AJ (E9 ⟨r5 - 99,a,b,rfl,rfl,by omega,tap.le hT (by omega)⟩)
    rintro f x ⟨due,a,b,rfl,rfl,hdu,hT⟩
    refine AB ?_
    refine AH (WP.mono (Q:=J_d2 c lo hv sn k j n way ln wt z13 ws) (B6 (JA (Ac (A8 (A0 rfl (AJ (Eb ⟨_,rfl,?_⟩))))))) ?_)
    . by_cases h1:way=1
      . rw[if_pos (by simpa using h1)]
        refine Ac (A8 (A0 rfl (AJ (JB ⟨_,rfl,λ hc=>?_,λ hc=>An ⟨due,a,b,rfl,rfl,hdu,tap.le hT (by omega)⟩⟩))))
        have hc:0 < (j:Int):=by simpa using hc
        refine AY (A8 (A8 (A8 (A0 rfl ?_))))
        refine tap.draw hT (many:=(j:Int)) (rest:=[.lst (ws.map wmD)]) (by simp) (by omega) (by omega) λ r a b hT pr qr=>?_
        obtain⟨w,hw,ew⟩:=atw r pr qr
        have okw:=hws w hw
        refine AL rfl ew (AJ (AL (ds:=[.im (.int w.len),.im (.int w.com),.im (.tup [.str "miss",.int w.due,.int w.wt])]) rfl (Ej _ _ _ _) (AJ (AL (ds:=[.im (.str "miss"),.im (.int w.due),.im (.int w.wt)]) rfl (Cv _ _ _) ⟨w.due,a,b,rfl,rfl,okw.2.2.1,hT⟩))))
      . rw[if_neg (by simpa using h1)]
        exact⟨(λ h=>by cases h),λ _=>An ⟨due,a,b,rfl,rfl,hdu,tap.le hT (by omega)⟩⟩
    rintro f x ⟨due,a,b,rfl,rfl,hdu,hT⟩
    refine AB ?_
    refine AH (AY (Bb (A3 (A0 rfl (A3 (A0 rfl (A3 (Bb (A3 (AJ (A3 (A0 rfl (A3 (A0 rfl (AA ⟨EI,AA ⟨EI,AB ?_⟩⟩)))))))))))))))
    have okn:okM 500 c ⟨1 + ln,c,due,wt⟩:=⟨by dsimp only;omega,rfl,hdu,by dsimp only;omega⟩
    have e0:B1 [.im (.int (1 + ln)),.im (.int c),B1 [.im (.str "miss"),.im (.int due),.im (.int wt)]]=wmD ⟨1 + ln,c,due,wt⟩:=rfl
    rw[e0]
    change WS _ (Lw c lo hv sn (k:Int) (some (.im (.int (j:Int)))) (some (.im (.int way))) (some (.im (.int (1 + ln)))) (some (.im (.int due))) (some (.im (.int wt))) (some (wmD ⟨1 + ln,c,due,wt⟩))) [a,b,.lst (ws.map wmD)] _
    refine AH (WP.mono (Q:=J_d3 c lo hv sn k j n way ln due wt ws) (B6 (JA (Ac (A8 (A0 rfl (AJ (Eb ⟨_,rfl,?_⟩))))))) ?_)
    . by_cases h1:way=2
      . rw[if_pos (by simpa using h1)]
        refine Ac (A8 (A0 rfl (AJ (JB ⟨_,rfl,λ hc=>?_,λ hc=>An ⟨_,a,b,rfl,rfl,okn,tap.le hT (by omega)⟩⟩))))
        have hc:0 < (j:Int):=by simpa using hc
        refine AY (A8 (A0 rfl ?_))
        refine tap.draw hT (many:=(j:Int)) (rest:=[.lst (ws.map wmD)]) (by simp) (by omega) (by omega) λ r a b hT pr qr=>?_
        obtain⟨w,hw,ew⟩:=atw r pr qr
        exact AL rfl ew ⟨w,a,b,rfl,rfl,hws w hw,hT⟩
      . rw[if_neg (by simpa using h1)]
        exact⟨(λ h=>by cases h),λ _=>An ⟨_,a,b,rfl,rfl,okn,tap.le hT (by omega)⟩⟩
    rintro f x ⟨w,a,b,rfl,rfl,okw,hT⟩
    refine AB (CH (Gg (A0 rfl ⟨⟨_,rfl⟩,A3 (A0 rfl (AA (GK rfl (EV (by simp;omega)) ?_)))⟩)))
    exact⟨Ak _,j + 1,ws ++ [w],a,b,_,_,_,_,_,_,by rw[show((j:Int) + 1)=((j + 1:Nat):Int) by omega,show m'=k - (j + 1) by omega],by omega,by simp[hl],λ z hz=>by rcases List.mem_append.mp hz with q|q;exact hws z q;rw[List.mem_singleton]at q;subst q;exact okw,rfl,by simp,tap.le hT (by omega)⟩
  . rintro ls hd ⟨j,ws,a,b,z8,z9,z10,z11,z12,z13,er,hj,hl,hws,rfl,rfl,hT⟩
    have:j=k:=by
      cases q:k - j with
      | zero=>omega
      | succ m=>rw[q]at er;cases er
    subst this
    refine AB (B5 (Cz (A3 (A0 rfl (AA (Cy rfl rfl ?_))))))
    rw[<- BC,DG]
    exact⟨_,a,b,_,rfl,⟨ws,c,rfl,λ z=>by rw[z]at hl;simp at hl;omega,by omega,by omega,hws⟩,tap.le hT (by omega),rfl⟩
noncomputable abbrev enD(q:D × Nat):D:=B1 [.im (.int (q.2:Int)),q.1]
inductive I_far_w(n:Nat)(ws:List Wm)(c v way dy jj:Int)(r:List D)(ls:Ls)(hd:Hd):Prop
  | mk (dn rest fs:List Wm) (a b:MO) (z6 z7 z8 z9 z10:Option D) (h0:ws=dn ++ rest) (h1:r=((rest.map wmD).zipIdx dn.length).map enD) (h2:fs.length=dn.length) (h3:(∀ w ∈ fs,okM 2000 (if way=2 then 0 else c) w/\w.wt=if way=2 then 1 else v)) (h4:ls=[some (.mu 1),some (.im (Ae ws)),some (.im (.int way)),some (.im (.int (dy - 999))),some (.im (.int jj)),some (.mu 2),z6,z7,z8,z9,z10]) (h5:hd=[a,b,.lst (fs.map wmD)]) (h6:T (n + (ws.length - dn.length)) a b):I_far_w n ws c v way dy jj r ls hd
theorem WK(n:Nat){ws:List Wm}{c v:Int}(ok:okMs 500 c ws)(hv:∀ w ∈ ws,w.wt=v):∀ a b,T (n + 20) a b->WF Jq [.mu 1,.im (Ae ws)] [a,b] λ d x=>∃ i a' b' g,d=.im i/\(∃ ws c v,i=Ae ws/\okMs 2000 c ws/\∀ w ∈ ws,w.wt=v)/\T n a' b'/\x=a' :: b' :: g:=by
  intro a b hT
  obtain⟨hne,hl8,hc,hws⟩:=ok
  have hl0:0 < ws.length:=CK hne
  unfold Jq
  refine BF rfl ?_
  refine AH (AY ?_)
  refine tap.draw hT rfl (by first|decide|omega) (by first|decide|omega) λ way a b hT pway qway=>?_
  refine AB (AH (AY (A8 ?_)))
  refine tap.draw hT rfl (by first|decide|omega) (by first|decide|omega) λ dy a b hT pdy qdy=>?_
  refine AJ (E9 (AB (AH (AY ?_))))
  refine tap.draw hT (many:=(ws.length:Int)) (rest:=[]) (by simp[C1]) (by omega) (by omega) λ jj a b hT pj qj=>AB ?_
  refine AH (AY (CL (EA (AA ⟨FN,AB ?_⟩))))
  refine AH (Ca (EW (Ec (A0 rfl ⟨ws.map wmD,by rw[<- BC];rfl,?_⟩))))
  change WP (By _ _ _ (((ws.map wmD).zipIdx 0).map enD) [some (.mu 1),some (.im (Ae ws)),some (.im (.int way)),some (.im (.int (dy - 999))),some (.im (.int jj)),some (.mu 2),none,none,none,none,none] [a,b,.lst []]) _
  have hT:T (n + (ws.length - 0)) a b:=tap.le hT (by omega)
  refine C4 (I_far_w n ws c v way dy jj) ⟨[],ws,[],a,b,none,none,none,none,none,rfl,rfl,rfl,by simp,rfl,rfl,hT⟩ ?_ ?_
  . rintro d r ls hd ⟨dn,rest,fs,a,b,z6,z7,z8,z9,z10,e1,er,hf,hfs,rfl,rfl,hT⟩
    cases rest with
    | nil=>cases er
    | cons w rest=>
      rw[List.map_cons,List.zipIdx_cons,List.map_cons]at er
      obtain⟨rfl,rfl⟩:=List.cons.inj er
      have hlen:ws.length=dn.length + (rest.length + 1):=by rw[e1];simp
      have hT:T (n + (ws.length - (dn ++ [w]).length) + 1) a b:=tap.le hT (by simp;omega)
      have okw:=hws w (by rw[e1];simp)
      refine⟨[some (.mu 1),some (.im (Ae ws)),some (.im (.int way)),some (.im (.int (dy - 999))),some (.im (.int jj)),some (.mu 2),some (.im (.int (dn.length:Int))),some (.im (.int w.len)),some (.im (.int w.com)),some (.im (.tup [.str "miss",.int w.due,.int w.wt])),z10],rfl,?_⟩
      refine B6 (Ac (A8 (A0 rfl (AJ (Eb ⟨_,rfl,λ h2=>?_,λ h2=>?_⟩)))))
      . have h2:way=2:=by simpa using h2
        refine CH (Gg (A0 rfl ⟨⟨_,rfl⟩,A3 (Bb (A3 (A0 rfl (A3 (AJ (A3 (Bb (A3 (AJ (A3 (A8 (A0 rfl ?_)) ))))))))))⟩))
        refine tap.draw hT rfl (by first|decide|omega) (by first|decide|omega) λ r5 a b hT pr5 qr5=>?_
        refine E9 (A3 (AJ (AA ⟨EI,AA ⟨EI,AA (GK rfl (EV (by simp;omega)) ?_)⟩⟩)))
        have okn:okM 2000 (if way=2 then 0 else c) ⟨w.len,0,dy - 999 - r5,1⟩/\(⟨w.len,0,dy - 999 - r5,1⟩:Wm).wt=if way=2 then 1 else v:=⟨⟨okw.1,by rw[if_pos h2],by dsimp only;omega,by dsimp only;omega⟩,by rw[if_pos h2]⟩
        exact⟨Ak _,dn ++ [w],rest,fs ++ [⟨w.len,0,dy - 999 - r5,1⟩],a,b,_,_,_,_,_,by rw[e1];simp,by simp,by simp[hf],λ z hz=>by rcases List.mem_append.mp hz with q|q;exact hfs z q;rw[List.mem_singleton]at q;subst q;exact okn,rfl,by simp[wmI],hT⟩
      . have h2:way ≠ 2:=by simpa using h2
        refine AH (AY (WP.mono (Q:=λ d x=>∃ lt:Int,d=.im (.int lt)/\x=[a,b,.lst (fs.map wmD)]/\-999 <= lt/\lt <= 999) (Ob (FT (Ac (A8 (A0 rfl (AJ (Eb ⟨_,rfl,?_⟩))))))) ?_))
        . by_cases h0:way=0
          . rw[if_pos (by simpa using h0)]
            exact⟨λ _=>A0 rfl ⟨_,rfl,rfl,by omega,by omega⟩,λ h=>by cases h⟩
          . rw[if_neg (by simpa using h0)]
            exact Ac (A8 (A0 rfl (A0 rfl (Eb ⟨_,rfl,λ _=>A0 rfl ⟨_,rfl,rfl,by omega,by omega⟩,λ _=>AJ ⟨0,rfl,rfl,by omega,by omega⟩⟩))))
        rintro d x ⟨lt,rfl,rfl,l1,l2⟩
        refine AB (CH (Gg (A0 rfl ⟨⟨_,rfl⟩,A3 (Bb (A3 (A0 rfl (A3 (A0 rfl (A3 (Bb (A3 (AJ (A3 (A8 (A8 (A0 rfl (AJ (AL (ds:=[.im (.str "miss"),.im (.int w.due),.im (.int w.wt)]) rfl (Cv _ _ _) (A0 rfl (C3 (A3 (A8 (A0 rfl (AJ (AL (ds:=[.im (.str "miss"),.im (.int w.due),.im (.int w.wt)]) rfl (Ej _ _ _ _) (AA ⟨EI,AA ⟨EI,AA (GK rfl (EV (by simp;omega)) ?_)⟩⟩)))))))))))))))))))))))⟩)))
        have okn:okM 2000 (if way=2 then 0 else c) ⟨w.len,w.com,w.due + lt,w.wt⟩/\(⟨w.len,w.com,w.due + lt,w.wt⟩:Wm).wt=if way=2 then 1 else v:=⟨⟨okw.1,by rw[if_neg h2];exact okw.2.1,by have:=okw.2.2.1;dsimp only;omega,okw.2.2.2⟩,by rw[if_neg h2];exact hv w (by rw[e1];simp)⟩
        exact⟨Ak _,dn ++ [w],rest,fs ++ [⟨w.len,w.com,w.due + lt,w.wt⟩],a,b,_,_,_,_,_,by rw[e1];simp,by simp,by simp[hf],λ z hz=>by rcases List.mem_append.mp hz with q|q;exact hfs z q;rw[List.mem_singleton]at q;subst q;exact okn,rfl,by simp[wmI],tap.le hT (by omega)⟩
  . rintro ls hd ⟨dn,rest,fs,a,b,z6,z7,z8,z9,z10,e1,er,hf,hfs,rfl,rfl,hT⟩
    have:rest=[]:=by cases rest with
      | nil=>rfl
      | cons t r=>cases er
    subst this
    rw[List.append_nil]at e1
    subst e1
    refine AB (B5 (Cz (A3 (A0 rfl (AA (Cy rfl rfl ?_))))))
    rw[<- BC,DG]
    refine⟨_,a,b,_,rfl,⟨fs,_,_,rfl,⟨λ z=>by rw[z]at hf;simp at hf;exact hne (List.length_eq_zero_iff.mp hf.symm),by omega,?_,λ w hw=>(hfs w hw).1⟩,λ w hw=>(hfs w hw).2⟩,tap.le hT (by omega),rfl⟩
    split <;> omega
theorem Dv(ns:List Int):BO (intD ns)=some ns:=by
  induction ns with
  | nil=>rfl
  | cons n r ih=>simp[intD]at ih ⊢
theorem Cb{ws:List Wm}{k:Nat}(hk:k < ws.length):atI (ws.map wmD) (k:Int)=some (wmD ws[k]):=KK rfl (by simp[hk])
theorem Rg{B c:Int}{ws:List Wm}(ok:okMs B c ws):WF Dx [.im (Ae ws)] [] λ d x=>d=.im (.int c):=by
  obtain⟨hne,hl8,hc,hws⟩:=ok
  have hl0:0 < ws.length:=CK hne
  unfold Dx
  refine BF rfl ?_
  refine AH (AY (AT (A3 (A0 rfl (AA ⟨by simp,?_⟩)))))
  have e0:(ws[0]).com=c:=(hws _ (List.getElem_mem hl0)).2.1
  have S:WF DS [.im (Ae ws)] [] λ d x=>d=.im (.int c):=by
    unfold DS
    refine BF rfl ?_
    refine AH (AY (A8 (A8 (A0 rfl (AJ (AL (by rw[Bm,BC]) (Cb (k:=0) hl0) ?_))))))
    refine AJ (AL (ds:=[.im (.int (ws[0]).len),.im (.int (ws[0]).com),.im (.tup [.str "miss",.int (ws[0]).due,.int (ws[0]).wt])]) rfl (Cv _ _ _) (AB ?_))
    rw[e0]
    refine AH (B6 (C2 (DR (Bn (Ec (A0 rfl ⟨_,rfl,?_⟩))))))
    rw[BC]
    refine⟨B7 (by simp;omega),?_⟩
    refine Cc wmD (λ _=>some (.im (.bl true))) (λ _ ls=>∃ x,ls=[some x,some (.im (.int c))]) _ (Ak _) ?_ ?_
    . rintro p hp ls hls
      refine⟨[some (wmD p),some (.im (.int c))],by rcases hls with rfl|⟨_,x,rfl⟩ <;> rfl,⟨_,rfl⟩,Dc ⟨rfl,?_⟩⟩
      rw[if_pos rfl]
      refine⟨_,rfl,A8 (A8 (A0 rfl (AJ (AL (ds:=[.im (.int p.len),.im (.int p.com),.im (.tup [.str "miss",.int p.due,.int p.wt])]) rfl (Cv _ _ _) (A0 rfl (Eb ⟨rfl,?_⟩))))))⟩
      simp[(hws p hp).2.1]
    have e:(ws.filterMap λ _=>some (D.im (.bl true)))=blD (ws.map λ _=>true):=by simp[blD]
    rw[e]
    refine⟨_,by rw[RX,Iz];rfl,_,rfl,?_⟩
    refine⟨λ _=>?_,(λ h=>by simp at h)⟩
    exact B5 (A0 rfl rfl)
  refine S.mono ?_
  rintro d x rfl
  refine⟨_,rfl,AB ?_⟩
  refine AH (B6 (Ac ?_))
  refine WP.eq (z:=.im (.bl false)) (h:=[]) (by simp[Dr]) ⟨_,rfl,(λ h=>by cases h),λ _=>An (AB ?_)⟩
  exact B5 (A0 rfl rfl)
theorem Qc{B c:Int}{ws:List Wm}(ok:okMs B c ws):WF Bg [.im (Ae ws),.im (.str "miss")] [] λ d x=>d=.im .non:=by
  have hl8:=ok.2.1
  unfold Bg
  refine BF rfl ?_
  refine B6 (C2 (DR (Bn (Ec (A0 rfl ⟨_,rfl,?_⟩)))))
  rw[BC]
  refine⟨B7 (by simp;omega),?_⟩
  refine Cc wmD (λ _=>some (.im (.bl false))) (λ _ ls=>∃ x,ls=[some x,some (.im (.str "miss"))]) _ (Ak _) ?_ ?_
  . rintro p hp ls hls
    refine⟨[some (wmD p),some (.im (.str "miss"))],by rcases hls with rfl|⟨_,x,rfl⟩ <;> rfl,⟨_,rfl⟩,Dc ⟨rfl,?_⟩⟩
    rw[if_pos rfl]
    refine⟨_,rfl,A8 (A8 (A8 (A0 rfl (AJ (AL (ds:=[.im (.int p.len),.im (.int p.com),.im (.tup [.str "miss",.int p.due,.int p.wt])]) rfl (Ej _ _ _ _) (AJ (AL (ds:=[.im (.str "miss"),.im (.int p.due),.im (.int p.wt)]) rfl (GJ _ _) (A0 rfl (U3 ⟨rfl,?_⟩)))))))))⟩
    simp
  have e:(ws.filterMap λ _=>some (D.im (.bl false)))=blD (ws.map λ _=>false):=by simp[blD]
  rw[e]
  refine⟨_,by rw[M2,Iz];rfl,_,rfl,?_⟩
  exact⟨(λ h=>by simp at h),λ _=>An rfl⟩
theorem Jg{B c:Int}{ws:List Wm}(ok:okMs B c ws):WF BD [.im (Ae ws)] [] λ d x=>d=.im (.int c):=by
  unfold BD
  refine BF rfl ?_
  refine AH (AY (AT (A3 (A0 rfl (AA ⟨by simp,(Rg ok).mono ?_⟩)))))
  rintro d x rfl
  refine⟨_,rfl,AB ?_⟩
  refine AH (CH (AT (A3 (A0 rfl (A3 (AJ (AA ⟨by simp,(Qc ok).mono ?_⟩)))))))
  rintro d x rfl
  exact⟨_,rfl,AB (B5 (A0 rfl rfl))⟩
theorem Ig(p:Wm):WF CF [wmD p] [] λ d x=>d=.im (.int p.wt):=by
  unfold CF
  refine BF rfl ?_
  refine B5 (A8 (A8 (A0 rfl (AJ (AL (ds:=[.im (.int p.len),.im (.int p.com),.im (.tup [.str "miss",.int p.due,.int p.wt])]) rfl (Ej _ _ _ _) ?_)))))
  refine L3 (AJ ⟨_,rfl,?_⟩)
  refine AL (ds:=[.im (.str "miss"),.im (.int p.due),.im (.int p.wt)]) (e:=.im (.int p.wt)) rfl ?_ rfl
  rfl
noncomputable abbrev BS(ws:List Wm):Int:=(ws.map Wm.wt).sum
theorem MB{B c:Int}{ws:List Wm}(ok:okMs B c ws):WF BV [.im (Ae ws)] [] λ d x=>d=.im (.int (BS ws)):=by
  have hl8:=ok.2.1
  unfold BV
  refine BF rfl ?_
  refine B5 (DR (Bn (Ec (A0 rfl ⟨_,rfl,?_⟩))))
  rw[BC]
  refine⟨B7 (by simp;omega),?_⟩
  refine Cc wmD (λ w=>some (.im (.int w.wt))) (λ _ ls=>∃ x,ls=[some x]) _ (Ak _) ?_ ?_
  . rintro p hp ls hls
    refine⟨[some (wmD p)],by rcases hls with rfl|⟨_,x,rfl⟩ <;> rfl,⟨_,rfl⟩,Dc ⟨rfl,?_⟩⟩
    rw[if_pos rfl]
    refine⟨_,rfl,AT (A3 (A0 rfl (AA ⟨by simp[wmI],(Ig p).mono ?_⟩)))⟩
    rintro d y rfl
    exact⟨_,rfl,rfl,rfl⟩
  have e:(ws.filterMap λ w=>some (D.im (.int w.wt)))=intD (ws.map Wm.wt):=by simp[intD]
  rw[e]
  exact⟨_,by unfold Hr;rw[Dv];rfl,rfl⟩
noncomputable def B4(ws:List Wm)(k:Nat):Int:=(ws[k]?.map Wm.due).getD 0
noncomputable def Ba(ws:List Wm):List (Int × Int):=(List.range ws.length).map λ k:Nat=>(B4 ws k,(k:Int))
noncomputable def Ab(ws:List Wm):List Int:=(DB (Ba ws)).map (·.2)
theorem Fu{ws:List Wm}{k:Nat}(hk:k < ws.length):(ws[k]).due=B4 ws k:=by simp[B4,hk]
theorem Ga{B c:Int}{ws:List Wm}(ok:okMs B c ws)(hB:B <= 2000){k:Nat}(hk:k < ws.length):pok (B4 ws k,(k:Int)):=by
  have:=(ok.2.2.2 _ (List.getElem_mem hk)).2.2.1
  rw[Fu hk]at this
  have:=ok.2.1
  unfold pok;dsimp only;omega
theorem P3{p q:Int × Int}(hp:pok p)(hq:pok q)(h:Ai p=Ai q):p=q:=by
  unfold pok at hp hq
  unfold Ai at h
  have:p.1=q.1:=by omega
  have:p.2=q.2:=by omega
  exact Prod.ext (by assumption) (by assumption)
theorem V3{B c:Int}{ws:List Wm}(ok:okMs B c ws)(hB:B <= 2000){ms:List Int}(pm:ms.Perm ((List.range ws.length).map λ k:Nat=>(k:Int)))(pw:ms.Pairwise λ a b=>Ai (B4 ws a.toNat,a) <= Ai (B4 ws b.toNat,b)):ms=Ab ws:=by
  have p1:(ms.map λ n:Int=>(B4 ws n.toNat,n)).Perm (Ba ws):=by
    have:=pm.map λ n:Int=>(B4 ws n.toNat,n)
    rw[List.map_map]at this
    exact this
  have p2:(DB (Ba ws)).Perm (Ba ws):=List.mergeSort_perm ..
  have w2:(DB (Ba ws)).Pairwise λ a b=>Ai a <= Ai b:=by
    have:=List.pairwise_mergeSort (le:=λ a b:Int × Int=>decide (Ai a <= Ai b)) (by intro a b c h1 h2;simp at *;omega) (by intro a b;simp;omega) (Ba ws)
    exact this.imp (by simp)
  have w1:(ms.map λ n:Int=>(B4 ws n.toNat,n)).Pairwise λ a b=>Ai a <= Ai b:=List.pairwise_map.mpr pw
  have okd:∀ a ∈ Ba ws,pok a:=λ a ha=>by
    obtain⟨k,hk,rfl⟩:=List.mem_map.mp ha
    exact Ga ok hB (by simpa using hk)
  have e:(ms.map λ n:Int=>(B4 ws n.toNat,n))=DB (Ba ws):=(p1.trans p2.symm).eq_of_pairwise (le:=λ a b=>Ai a <= Ai b) (λ a b ha hb h1 h2=>P3 (okd a (p1.mem_iff.mp ha)) (okd b (p2.mem_iff.mp hb)) (Int.le_antisymm h1 h2)) w1 w2
  unfold Ab
  rw[<- e,List.map_map]
  have:((λ x:Int × Int=>x.2) ∘ λ n:Int=>(B4 ws n.toNat,n))=id:=rfl
  rw[this,List.map_id]
theorem Hy{B c:Int}{ws:List Wm}(ok:okMs B c ws)(hB:B <= 2000):WF Cl [.im (Ae ws)] [] λ d x=>d=.mu 0/\x=[.lst (intD (Ab ws))]:=by
  have hl8:=ok.2.1
  unfold Cl
  refine BF rfl ?_
  refine B5 (CL (Oc (A3 (Cz (A3 (A0 rfl (AA (Cy rfl rfl (AA ⟨ws.length,by simp,by omega,λ n=>(B4 ws n.toNat,n),λ k hk=>Ga ok hB hk,λ a ha b hb e=>?_,λ k hk=>?_,λ ms pm pw=>?_⟩)))))))))
  . have:=P3 (p:=(B4 ws ((a:Int)).toNat,(a:Int))) (q:=(B4 ws ((b:Int)).toNat,(b:Int))) (Ga ok hB ha) (Ga ok hB hb) e
    have:=congrArg Prod.snd this
    dsimp only at this
    omega
  . have w:WE (Bw (A4 (mOp gIx (mOp gIx (mOp gIx (A2 1) (A2 0)) (mC (.int 2))) (mC (.int 1))) (A4 (A2 0) AC))) [some (.im (.int (k:Int))),some (.im (Ae ws))] [] λ d x=>d=BU (B4 ws k,(k:Int))/\x=[]:=by
      refine Bb (A3 (A8 (A8 (A8 (A0 rfl (A0 rfl (AL (by rw[Bm,BC]) (Cb hk) (AJ (AL (ds:=[.im (.int (ws[k]).len),.im (.int (ws[k]).com),.im (.tup [.str "miss",.int (ws[k]).due,.int (ws[k]).wt])]) rfl (Ej _ _ _ _) (AJ (AL (ds:=[.im (.str "miss"),.im (.int (ws[k]).due),.im (.int (ws[k]).wt)]) rfl (Cv _ _ _) (A3 (A0 rfl (AA ⟨MD,?_,rfl⟩))))))))))))))
      rw[Fu hk];rfl
    obtain⟨d,x,e,rfl,rfl⟩:=w
    exact e
  . rw[V3 ok hB pm pw]
    exact⟨rfl,rfl⟩
theorem Jf{B c:Int}{ws:List Wm}(ok:okMs B c ws)(hB:B <= 2000):WF DQ [.im (Ae ws)] [] λ d x=>d=.mu 0/\x=[.lst (intD (Ab ws))]:=by
  have hl8:=ok.2.1
  unfold DQ
  refine BF rfl ?_
  refine B5 (CL (Bn (U4 ?_)))
  have hs:WA (Eu (Fs (Bf 1 [0] (GD (A4 (mCB (f1 true C1) (A4 (A2 0) AC)) AC)) (AU 0) Dp (Bw (A4 (mOp gIx (mOp gIx (mOp gIx (A2 1) (A2 0)) (mC (.int 2))) (mC (.int 1))) (A4 (A2 0) AC)))))) [some (.im (Ae ws))] [] λ ds x=>ds=(DB (Ba ws)).map BU/\x=[]:=by
    have h0:WA (Bf 1 [0] (GD (A4 (mCB (f1 true C1) (A4 (A2 0) AC)) AC)) (AU 0) Dp (Bw (A4 (mOp gIx (mOp gIx (mOp gIx (A2 1) (A2 0)) (mC (.int 2))) (mC (.int 1))) (A4 (A2 0) AC)))) [some (.im (Ae ws))] [] λ ds x=>ds=(Ba ws).map BU/\x=[]:=by
      refine Bn (NN (A3 (Cz (A3 (A0 rfl (AA (Cy rfl rfl (AA ⟨(ws.length:Int),by simp,IE (by omega) (by omega),?_⟩))))))))
      rw[Int.toNat_natCast,Gj]
      refine⟨B7 (by simp[O8];omega),?_⟩
      refine Cc (λ k:Nat=>D.im (.int (k:Int))) (λ k=>some (BU (B4 ws k,(k:Int)))) (λ _ ls=>∃ x,ls=[some x,some (.im (Ae ws))]) _ (Ak _) ?_ ?_
      . rintro k hk ls hls
        have hk:k < ws.length:=by simpa using hk
        refine⟨[some (.im (.int (k:Int))),some (.im (Ae ws))],by rcases hls with rfl|⟨_,x,rfl⟩ <;> rfl,⟨_,rfl⟩,Dc ⟨rfl,?_⟩⟩
        rw[if_pos rfl]
        refine⟨_,rfl,Bb (A3 (A8 (A8 (A8 (A0 rfl (A0 rfl (AL (by rw[Bm,BC]) (Cb hk) (AJ (AL (ds:=[.im (.int (ws[k]).len),.im (.int (ws[k]).com),.im (.tup [.str "miss",.int (ws[k]).due,.int (ws[k]).wt])]) rfl (Ej _ _ _ _) (AJ (AL (ds:=[.im (.str "miss"),.im (.int (ws[k]).due),.im (.int (ws[k]).wt)]) rfl (Cv _ _ _) (A3 (A0 rfl (AA ⟨MD,rfl,?_⟩))))))))))))))⟩
        rw[Fu hk];rfl
      . simp[Ba]
    obtain⟨ds,x,e,rfl,rfl⟩:=h0
    refine⟨_,_,?_,rfl,rfl⟩
    have okd:∀ a ∈ Ba ws,pok a:=λ a ha=>by
      obtain⟨k,hk,rfl⟩:=List.mem_map.mp ha
      exact Ga ok hB (by simpa using hk)
    have hl:(Ba ws).length < 64:=by simp[Ba];omega
    simp only[Eu,Fs,e,Option.bind_some,Option.map_some,JQ]
    rw[if_pos ⟨hl,okd⟩]
  refine WP.mono hs ?_
  rintro ds x ⟨rfl,rfl⟩
  refine⟨B7 (by simp[DB,List.length_mergeSort,Ba];omega),?_⟩
  refine Cc BU (λ p=>some (.im (.int p.2))) (λ _ ls=>∃ x,ls=[some x]) _ (Ak _) ?_ ?_
  . rintro p hp ls hls
    refine⟨[some (BU p)],by rcases hls with rfl|⟨_,x,rfl⟩ <;> rfl,⟨_,rfl⟩,Dc ⟨rfl,?_⟩⟩
    rw[if_pos rfl]
    exact⟨_,rfl,A8 (A0 rfl (AJ (AL (ds:=[.im (.int p.1),.im (.int p.2)]) rfl (Cv _ _ _) ⟨rfl,rfl⟩)))⟩
  . refine⟨rfl,?_⟩
    simp[Ab,intD]
end T41
namespace Lt
noncomputable def IsMin(E:List Int)(o:Option Int):Prop:=(o=none/\E=[]) ∨ ∃ m,o=some m/\m ∈ E/\∀ e ∈ E,m <= e
theorem Ka:IsMin [] none:=.inl ⟨rfl,rfl⟩
noncomputable def Ya(o:Option Int)(e:Int):Option Int:=match o with|none=>some e|some x=>if e < x then some e else some x
noncomputable def comb(kept more:Option Int):Option Int:=match more with|none=>kept|some y=>match kept with|some x=>if x <= y then some x else some y|none=>some y
theorem IsMin.comb{A B:List Int}{o o':Option Int}(h:IsMin A o)(h':IsMin B o'):IsMin (A ++ B) (comb o o'):=by
  rcases h' with⟨rfl,rfl⟩|⟨y,rfl,hy,ly⟩
  . rw[List.append_nil];exact h
  . rcases h with⟨rfl,rfl⟩|⟨x,rfl,hx,lx⟩
    . exact .inr ⟨y,rfl,by simpa using hy,by simpa using ly⟩
    . unfold Lt.comb
      dsimp only
      split
      . exact .inr ⟨x,rfl,by simp[hx],λ e he=>by rcases List.mem_append.mp he with q|q;exact lx e q;have:=ly e q;omega⟩
      . exact .inr ⟨y,rfl,by simp[hy],λ e he=>by rcases List.mem_append.mp he with q|q;have:=lx e q;omega;exact ly e q⟩
noncomputable def behind(l d:Int)(o:Option Int):Option Int:=match o with|none=>none|some x=>if x + l <= d then some (x + l)else none
theorem IsMin.behind{A:List Int}{o:Option Int}(l d:Int)(h:IsMin A o):IsMin ((A.map (· + l)).filter λ e=>decide (e <= d)) (behind l d o):=by
  rcases h with⟨rfl,rfl⟩|⟨x,rfl,hx,lx⟩
  . exact Ka
  . unfold Lt.behind
    dsimp only
    split
    . next q=>
      refine .inr ⟨x + l,rfl,List.mem_filter.mpr ⟨List.mem_map.mpr ⟨x,hx,rfl⟩,by simpa using q⟩,λ e he=>?_⟩
      obtain⟨z,hz,rfl⟩:=List.mem_map.mp (List.mem_filter.mp he).1
      have:=lx z hz;omega
    . next q=>
      refine .inl ⟨rfl,List.filter_eq_nil_iff.mpr λ e he=>?_⟩
      obtain⟨z,hz,rfl⟩:=List.mem_map.mp he
      have:=lx z hz
      simp;omega
noncomputable abbrev En:=Nat × Nat × Int
noncomputable abbrev Wx:=Int × Int × Nat
noncomputable def more(i:Nat)(w:Wx)(E:List En):List En:=(E.filter λ e=>decide (e.2.2 + w.1 <= w.2.1)).map λ e=>(i + 1,e.2.1 + w.2.2,e.2.2 + w.1)
noncomputable def AM(c:Int):List Wx->Nat->List En
  | _,0=>[(0,0,c)]
  | L,i + 1=>AM c L i ++ (match L[i]? with|some w=>more i w (AM c L i)|none=>[])
noncomputable def sel(w:Nat)(E:List En):List Int:=(E.filter λ e=>decide (e.2.1=w)).map λ e=>e.2.2
theorem Mr(w:Nat)(E F:List En):sel w (E ++ F)=sel w E ++ sel w F:=by simp[sel]
theorem QL(i:Nat)(x:Wx)(w:Nat)(E:List En):sel w (more i x E)=if w < x.2.2 then []else((sel (w - x.2.2) E).map (· + x.1)).filter λ e=>decide (e <= x.2.1):=by
  induction E with
  | nil=>simp[more,sel]
  | cons e r ih=>
    have em:more i x (e :: r)=(if e.2.2 + x.1 <= x.2.1 then [(i + 1,e.2.1 + x.2.2,e.2.2 + x.1)]else []) ++ more i x r:=by
      unfold more
      rw[List.filter_cons]
      by_cases q:e.2.2 + x.1 <= x.2.1 <;> simp[q]
    rw[em,Mr,ih]
    by_cases hw:w < x.2.2
    . rw[if_pos hw,if_pos hw,List.append_nil]
      by_cases q:e.2.2 + x.1 <= x.2.1
      . have:¬ e.2.1 + x.2.2=w:=by omega
        simp[q,sel,this]
      . simp[q,sel]
    . rw[if_neg hw,if_neg hw]
      have ec:sel (w - x.2.2) (e :: r)=(if e.2.1=w - x.2.2 then [e.2.2]else []) ++ sel (w - x.2.2) r:=by
        unfold sel
        rw[List.filter_cons]
        by_cases q:e.2.1=w - x.2.2 <;> simp[q]
      rw[ec,List.map_append,List.filter_append]
      congr 1
      by_cases q1:e.2.2 + x.1 <= x.2.1
      . by_cases q2:e.2.1=w - x.2.2
        . have e3:w - x.2.2 + x.2.2=w:=Nat.sub_add_cancel (Nat.le_of_not_lt hw)
          simp[q1,q2,sel,e3]
        . have:¬ e.2.1 + x.2.2=w:=by omega
          simp[q1,q2,sel,this]
      . by_cases q2:e.2.1=w - x.2.2 <;> simp[q1,q2,sel]
noncomputable def B8(x:Wx)(f:Nat->Option Int)(w:Nat):Option Int:=comb (f w) (if w < x.2.2 then none else behind x.1 x.2.1 (f (w - x.2.2)))
theorem next_min{c:Int}{L:List Wx}{i:Nat}{x:Wx}(hx:L[i]? = some x){f:Nat->Option Int}{w:Nat}(h:IsMin (sel w (AM c L i)) (f w))(h':¬ w < x.2.2->IsMin (sel (w - x.2.2) (AM c L i)) (f (w - x.2.2))):IsMin (sel w (AM c L (i + 1))) (B8 x f w):=by
  have e:AM c L (i + 1)=AM c L i ++ more i x (AM c L i):=by rw[AM,hx]
  rw[e,Mr,QL]
  unfold B8
  refine h.comb ?_
  by_cases q:w < x.2.2
  . rw[if_pos q,if_pos q];exact Ka
  . rw[if_neg q,if_neg q];exact(h' q).behind _ _
end Lt
namespace T41
open PySem L2 Bd
open Lt (IsMin comb behind B8 sel AM Wx)
theorem Mm{is js:List I}{hd:Hd}{QE:D->Hd->Prop}(h0:is ≠ [])(h1:is.length + js.length <= 100)(q:QE (.im (.tup (is ++ js))) hd):WP (BA (.im (.tup is)) (.im (.tup js)) hd) QE:=by
  have cat:SC (is.map D.im) (js.map D.im):=⟨by simpa using h0,B7 (by simp;omega)⟩
  refine WP.eq (z:=.im (.tup (is ++ js))) (h:=hd) ?_ q
  show(match KD (.im (.tup is)) (.im (.tup js)) hd with|some z=>some z|none=>HB (.im (.tup is)) (.im (.tup js)) hd)=_
  rw[show KD (.im (.tup is)) (.im (.tup js)) hd=none from rfl]
  unfold HB
  rw[show Ap (.im (.tup is))=some (is.map D.im)from rfl,show Ap (.im (.tup js))=some (js.map D.im)from rfl,Option.bind_some,Option.bind_some,if_pos cat,<- List.map_append,DG]
theorem Pv{w:Nat}{F:List D->Hd->Option (D × Hd)}{m:MA}{ls:Ls}{hd pre rest:Hd}{ds:List D}{QE:D->Hd->Prop}(e:m ls hd=some (ds,pre ++ rest))(hw:pre.length=w)(hc:BQ w ds=true)(hp:pre.all (clO w)=true)
    (hF:WF F ds pre λ d x=>∃ k es pre' g,d=.mu k/\w <= k/\x=pre' ++ g/\pre'.length=w/\pre'.all (clO w)=true/\x[k]? = some (.lst es)/\BQ w es=true/\QE (.mu (w + rest.length)) (pre' ++ rest ++ [.lst es])):WE (AG w F m) ls hd QE:=by
  subst hw
  obtain⟨d,x,e2,k,es,pre',g,rfl,hk,rfl,lp,cp,e3,c3,q⟩:=hF
  refine⟨_,_,?_,q⟩
  have t1:(pre ++ rest).take pre.length=pre:=by simp
  have t2:(pre' ++ g).take pre.length=pre':=by rw[<- lp];simp
  have t3:¬ k < pre.length:=by omega
  simp only[AG,e,Option.bind_some,t1,hc,hp,e2,fin,t2,cp,if_neg t3,e3,c3,if_true]
  simp
theorem FE{w:Nat}{F:List D->Hd->Option (D × Hd)}{m:MA}{ls:Ls}{hd:Hd}{QE:D->Hd->Prop}(h:WA m ls hd λ ds x=>∃ pre rest,x=pre ++ rest/\pre.length=w/\BQ w ds=true/\pre.all (clO w)=true/\WF F ds pre λ d x=>∃ k es pre' g,d=.mu k/\w <= k/\x=pre' ++ g/\pre'.length=w/\pre'.all (clO w)=true/\x[k]? = some (.lst es)/\BQ w es=true/\QE (.mu (w + rest.length)) (pre' ++ rest ++ [.lst es])):WE (AG w F m) ls hd QE:=by
  obtain⟨ds,x,e,pre,rest,rfl,hw,hc,hp,hF⟩:=h
  exact Pv e hw hc hp hF
noncomputable def FQ:Option Int->I|none=>.non|some x=>.int x
noncomputable abbrev BW(o:Option Int):D:=.im (FQ o)
theorem GL{neg:Bool}{ma:ME}{ls:Ls}{hd:Hd}{QE:D->Hd->Prop}(h:WE ma ls hd λ d x=>∃ o:Option Int,d=BW o/\QE (.im (.bl (if o.isNone then !neg else neg))) x):WE (Dr neg ma) ls hd QE:=by
  obtain⟨d,x,e,o,rfl,q⟩:=h
  refine⟨_,x,?_,q⟩
  simp only[Dr,e,Option.bind_some]
  cases o <;> rfl
noncomputable def B0(N:Nat)(f:Nat->Option Int):I:=.tup ((List.range N).map λ w=>FQ (f w))
theorem JI{N:Nat}{f:Nat->Option Int}{w:Nat}(hw:w < N):atI (((List.range N).map λ w=>FQ (f w)).map D.im) (w:Int)=some (BW (f w)):=KK rfl (by simp[hw])
noncomputable def wx(p:Wm):Wx:=(p.len,p.due,p.wt.toNat)
theorem S3{B c:Int}{p:Wm}(ok:okM B c p){N:Nat}(f:Nat->Option Int){w:Nat}(hw:w < N):WF CU [.im (B0 N f),wmD p,.im (.int (w:Int))] [] λ d x=>d=BW (if w < (wx p).2.2 then none else behind (wx p).1 (wx p).2.1 (f (w - (wx p).2.2))):=by
  have h0:=ok.2.2.2
  unfold CU
  refine BF rfl ?_
  refine AH (OV (A0 rfl ⟨[some (.im (B0 N f)),some (wmD p),some (.im (.int (w:Int))),some (.im (.int p.len)),some (.im (.int p.com)),some (.im (.str "miss")),some (.im (.int p.due)),some (.im (.int p.wt)),none],rfl,AB ?_⟩))
  refine AH (B6 (FT (Ac (A8 (A0 rfl (A0 rfl (NL ⟨_,rfl,?_⟩)))))))
  by_cases q:w < (wx p).2.2
  . have q':(w:Int) < p.wt:=by unfold wx at q;dsimp only at q;omega
    rw[if_pos (by simpa using q'),if_pos q]
    exact⟨λ _=>B5 (AJ rfl),λ h=>by cases h⟩
  . have q':¬ (w:Int) < p.wt:=by unfold wx at q;dsimp only at q;omega
    rw[if_neg (by simpa using q'),if_neg q]
    have ek:(w:Int) - p.wt=((w - (wx p).2.2:Nat):Int):=by unfold wx at q ⊢;dsimp only at q ⊢;omega
    have hk:w - (wx p).2.2 < N:=by omega
    refine Ac (GL (A8 (A0 rfl (A8 (A0 rfl (A0 rfl (E9 ?_)))))))
    rw[ek]
    refine AL rfl (JI hk) ⟨_,rfl,_,rfl,λ h=>?_,λ h=>An (AB ?_)⟩
    . have e:f (w - (wx p).2.2)=none:=by
        cases e:f (w - (wx p).2.2)with
        | none=>rfl
        | some x=>rw[e]at h;simp at h
      refine B5 (AJ ?_)
      rw[e];rfl
    . obtain⟨x,e⟩:∃ x,f (w - (wx p).2.2)=some x:=by
        cases e:f (w - (wx p).2.2)with
        | none=>rw[e]at h;simp at h
        | some x=>exact⟨x,rfl⟩
      refine AH (AY (A8 (A8 (A0 rfl (A8 (A0 rfl (A0 rfl (E9 ?_))))))))
      rw[ek]
      refine AL rfl (JI hk) ?_
      rw[e]
      refine A0 rfl (C3 (AB (B5 (Ob (Ac (A8 (A0 rfl (A0 rfl (NM ⟨_,rfl,λ h=>?_,λ h=>?_⟩)))))))))
      . have h:x + p.len <= p.due:=by simpa using h
        refine A0 rfl ?_
        unfold behind wx
        dsimp only
        rw[if_pos h];rfl
      . have h:¬ x + p.len <= p.due:=by simpa using h
        refine AJ ?_
        unfold behind wx
        dsimp only
        rw[if_neg h];rfl
noncomputable def nm(one other:Option Int):Bool:=match other with|none=>true|some y=>match one with|some x=>decide (x <= y)|none=>false
theorem Tx(a b:Option Int):comb a b=if nm a b=true then a else b:=by
  cases b with
  | none=>simp[comb,nm]
  | some y=>
    cases a with
    | none=>simp[comb,nm]
    | some x=>simp[comb,nm]
theorem G4(a b:Option Int):WF CG [BW a,BW b] [] λ d x=>d=.im (.bl (nm a b)):=by
  unfold CG
  refine BF rfl ?_
  refine B5 (U5 (Ac (GL (A0 rfl ⟨b,rfl,_,rfl,?_⟩))))
  cases b with
  | none=>rfl
  | some y=>
    rw[if_neg (by simp)]
    refine Jr (Ac (GL (A0 rfl ⟨a,rfl,_,rfl,?_⟩)))
    cases a with
    | none=>rfl
    | some x=>
      rw[if_pos (by simp)]
      exact A8 (A0 rfl (A0 rfl (NM rfl)))
inductive I_next_row_w(p:Wm)(N:Nat)(f:Nat->Option Int)(r:List D)(ls:Ls)(hd:Hd):Prop
  | mk (j:Nat) (z3 z4 z5:Option D) (h0:j <= N) (h1:r=(((List.range' j (N - j)).map λ w=>BW (f w)).zipIdx j).map enD) (h2:ls=[some (.im (B0 N f)),some (wmD p),some (.mu 0),z3,z4,z5]) (h3:hd=[.lst ((List.range j).map λ w=>BW (B8 (wx p) f w))]):I_next_row_w p N f r ls hd
theorem O7{B c:Int}{p:Wm}(ok:okM B c p){N:Nat}(hN:N <= 100)(f:Nat->Option Int):WF Em [.im (B0 N f),wmD p] [] λ d x=>d=.im (B0 N (B8 (wx p) f)):=by
  unfold Em
  refine BF rfl ?_
  refine AH (AY (CL (EA (AA ⟨FN,AB ?_⟩))))
  refine AH (Ca (EW (Ec (A0 rfl ⟨((List.range N).map λ w=>FQ (f w)).map D.im,rfl,?_⟩))))
  change WP (By _ _ _ (((((List.range N).map λ w=>FQ (f w)).map D.im).zipIdx 0).map enD) [some (.im (B0 N f)),some (wmD p),some (.mu 0),none,none,none] [.lst []]) _
  have e0:((List.range N).map λ w=>FQ (f w)).map D.im=(List.range' 0 (N - 0)).map λ w=>BW (f w):=by rw[List.map_map,List.range_eq_range',Nat.sub_zero];rfl
  rw[e0]
  refine C4 (I_next_row_w p N f) ⟨0,none,none,none,by omega,rfl,rfl,rfl⟩ ?_ ?_
  . rintro d r ls hd ⟨j,z3,z4,z5,hj,er,rfl,rfl⟩
    obtain⟨m,hm⟩:∃ m,N - j=m + 1:=by
      cases q:N - j with
      | zero=>rw[q]at er;cases er
      | succ m=>exact⟨m,rfl⟩
    rw[hm,List.range'_succ,List.map_cons,List.zipIdx_cons,List.map_cons]at er
    obtain⟨rfl,rfl⟩:=List.cons.inj er
    refine⟨[some (.im (B0 N f)),some (wmD p),some (.mu 0),some (.im (.int (j:Int))),some (BW (f j)),z5],rfl,?_⟩
    refine AH (AY (AT (A3 (A0 rfl (A3 (A0 rfl (A3 (A0 rfl (AA ⟨by simp[wmI,B0],(S3 ok f (by omega)).mono ?_⟩)))))))))
    rintro d x rfl
    refine⟨_,rfl,AB ?_⟩
    refine CH (Gg (A0 rfl ⟨⟨_,rfl⟩,A3 (Ro (C2 (AT (A3 (A0 rfl (A3 (A0 rfl (AA ⟨by simp,(G4 _ _).mono ?_⟩))))))))⟩))
    rintro d x rfl
    refine⟨_,rfl,_,rfl,?_⟩
    have fin:∀ o:Option Int,o=B8 (wx p) f j->WA AC [some (.im (B0 N f)),some (wmD p),some (.mu 0),some (.im (.int (j:Int))),some (BW (f j)),some (BW (if j < (wx p).2.2 then none else behind (wx p).1 (wx p).2.1 (f (j - (wx p).2.2))))] [.lst ((List.range j).map λ w=>BW (B8 (wx p) f w))] λ ds y=>WP (CW (.mu 0) (BW o :: ds) y) λ _ x=>GOk x []/\I_next_row_w p N f ((((List.range' (j + 1) m).map λ w=>BW (f w)).zipIdx (j + 1)).map enD) [some (D.im (B0 N f)),some (wmD p),some (.mu 0),some (.im (.int (j:Int))),some (BW (f j)),some (BW (if j < (wx p).2.2 then none else behind (wx p).1 (wx p).2.1 (f (j - (wx p).2.2))))] x:=by
      rintro o rfl
      refine AA (GK rfl (EV (by simp;omega)) ⟨Ak _,j + 1,_,_,_,by omega,by rw[show N - (j + 1)=m by omega],rfl,?_⟩)
      rw[List.range_succ];simp
    have ec:B8 (wx p) f j=if nm (f j) (if j < (wx p).2.2 then none else behind (wx p).1 (wx p).2.1 (f (j - (wx p).2.2)))=true then f j else(if j < (wx p).2.2 then none else behind (wx p).1 (wx p).2.1 (f (j - (wx p).2.2))):=by
      unfold B8;rw[Tx]
    by_cases q:nm (f j) (if j < (wx p).2.2 then none else behind (wx p).1 (wx p).2.1 (f (j - (wx p).2.2)))=true
    . rw[if_pos q]at ec ⊢
      exact A0 rfl (fin _ ec.symm)
    . rw[if_neg q]at ec ⊢
      exact A0 rfl (fin _ ec.symm)
  . rintro ls hd ⟨j,z3,z4,z5,hj,er,rfl,rfl⟩
    have:j=N:=by
      cases q:N - j with
      | zero=>omega
      | succ m=>rw[q]at er;cases er
    subst this
    refine AB (B5 (Cz (A3 (A0 rfl (AA (Cy rfl rfl ?_))))))
    have e2:((List.range j).map λ w=>BW (B8 (wx p) f w))=((List.range j).map λ w=>FQ (B8 (wx p) f w)).map D.im:=by rw[List.map_map];rfl
    rw[e2,DG]
    rfl
open Lt (IsMin comb behind B8 sel AM Wx)
noncomputable def E8(n N:Nat)(f:Nat->Nat->Option Int):I:=.tup ((List.range (n + 1)).map λ k=>B0 N (f k))
noncomputable def wxs(ws:List Wm):List Wx:=(Ab ws).map λ i=>(ws[i.toNat]?.map wx).getD (0,0,0)
theorem Fm(ws:List Wm):(Ab ws).Perm ((List.range ws.length).map λ k:Nat=>(k:Int)):=by
  have p2:(DB (Ba ws)).Perm (Ba ws):=List.mergeSort_perm ..
  have:=p2.map (·.2)
  unfold Ab
  refine this.trans ?_
  unfold Ba
  rw[List.map_map]
  exact .refl _
theorem E2{ws:List Wm}{i:Int}(h:i ∈ Ab ws):∃ k:Nat,k < ws.length/\i=k:=by
  obtain⟨k,hk,rfl⟩:=List.mem_map.mp ((Fm ws).mem_iff.mp h)
  exact⟨k,by simpa using hk,rfl⟩
theorem Cs(ws:List Wm):(Ab ws).length=ws.length:=by simpa using (Fm ws).length_eq
noncomputable def fT(c:Int)(L:List Wx):Nat->Nat->Option Int
  | 0,w=>if w=0 then some c else none
  | k + 1,w=>match L[k]? with|some x=>B8 x (fT c L k) w|none=>none
theorem Pb(c:Int)(L:List Wx):∀ k,k <= L.length->∀ w,IsMin (sel w (AM c L k)) (fT c L k w)
  | 0,_,w=>by
    unfold fT AM sel
    by_cases h:w=0
    . subst h;exact .inr ⟨c,by simp,by simp,by simp⟩
    . have:¬ (0=w):=λ z=>h z.symm
      simp only[if_neg h]
      exact .inl ⟨rfl,by simp[this]⟩
  | k + 1,hk,w=>by
    have hx:L[k]? = some L[k]:=by simp[Nat.lt_of_succ_le hk]
    have ih:=Pb c L k (by omega)
    have e:fT c L (k + 1) w=B8 L[k] (fT c L k) w:=by rw[fT,hx]
    rw[e]
    exact Lt.next_min hx (ih w) λ _=>ih _
theorem Wp(c:Int)(m:Nat)(L:List Wx):[I.int c] ++ (List.replicate m [I.non]).flatten=(List.range (m + 1)).map λ w=>FQ (fT c L 0 w):=by
  have e1:(List.replicate m [I.non]).flatten=List.replicate m I.non:=by
    induction m with
    | zero=>rfl
    | succ m ih=>rw[List.replicate_succ,List.flatten_cons,ih,List.replicate_succ];rfl
  rw[e1]
  refine List.ext_getElem (by simp) λ i h1 h2=>?_
  simp only[List.getElem_map,List.getElem_range]
  cases i with
  | zero=>rfl
  | succ i=>
    simp[fT,FQ]
theorem KF{B c:Int}{ws:List Wm}(ok:okMs B c ws):0 <= BS ws/\BS ws <= 72:=by
  have:∀ vs:List Wm,(∀ w ∈ vs,okM B c w)->0 <= BS vs/\BS vs <= 9 * vs.length:=by
    intro vs
    induction vs with
    | nil=>intro _;simp[BS]
    | cons v r ih=>
      intro h
      have:=ih λ w hw=>h w (by simp[hw])
      have:=(h v (by simp)).2.2.2
      simp only[BS,List.map_cons,List.sum_cons,List.length_cons]at *
      omega
  have:=this ws ok.2.2.2
  have:=ok.2.1
  omega
inductive I_table_of_w(c:Int)(ws:List Wm)(r:List D)(ls:Ls)(hd:Hd):Prop
  | mk (dn rest:List Int) (z3:Option D) (h0:Ab ws=dn ++ rest) (h1:r=intD rest) (h2:ls=[some (.im (Ae ws)),some (.im (.int c)),some (.mu 0),z3]) (h3:hd=[.lst ((List.range (dn.length + 1)).map λ k=>D.im (B0 ((BS ws).toNat + 1) (fT c (wxs ws) k))),.lst (intD (Ab ws))]):I_table_of_w c ws r ls hd
theorem NS{B c:Int}{ws:List Wm}(ok:okMs B c ws)(hB:B <= 2000):WF El [.im (Ae ws)] [] λ d x=>d=.im (E8 ws.length ((BS ws).toNat + 1) (fT c (wxs ws))):=by
  have hl8:=ok.2.1
  have hf:=KF ok
  unfold El
  refine BF rfl ?_
  refine AH (AY (AT (A3 (A0 rfl (AA ⟨by simp,(Jg ok).mono ?_⟩)))))
  rintro d x rfl
  refine⟨_,rfl,AB ?_⟩
  refine AH (AY (CL (EA (A3 (A8 (Bb (A3 (A0 rfl (AA ⟨GZ,?_⟩)))))))))
  refine SI (Bb (A3 (AJ (AA ⟨GZ,AT (A3 (A0 rfl (AA ⟨by simp,(MB ok).mono ?_⟩)))⟩))))
  rintro d x rfl
  refine⟨_,rfl,[.non],BS ws,rfl,rfl,by simp,by omega,by simp;omega,?_⟩
  rw[N7]
  refine Mm (by simp) (by simp;omega) ?_
  rw[Wp c _ (wxs ws)]
  refine AA ⟨GZ,AB ?_⟩
  change WS _ [some (.im (Ae ws)),some (.im (.int c)),some (.mu 0),none] [.lst [.im (B0 ((BS ws).toNat + 1) (fT c (wxs ws) 0))]] _
  refine AH (Ca (Fc (FE (A3 (A0 rfl (AA ⟨[],[.lst [.im (B0 ((BS ws).toNat + 1) (fT c (wxs ws) 0))]],rfl,rfl,by simp,rfl,(Hy ok hB).mono ?_⟩))))))
  rintro d x ⟨rfl,rfl⟩
  refine⟨0,_,[],_,rfl,Nat.le_refl _,rfl,rfl,rfl,rfl,Cw _ _,1,intD (Ab ws),rfl,rfl,?_⟩
  refine C4 (I_table_of_w c ws) ⟨[],Ab ws,none,rfl,rfl,rfl,rfl⟩ ?_ ?_
  . rintro d r ls hd ⟨dn,rest,z3,e1,er,rfl,rfl⟩
    cases rest with
    | nil=>cases er
    | cons i rest=>
      obtain⟨rfl,rfl⟩:=List.cons.inj er
      obtain⟨k,hk,rfl⟩:=E2 (ws:=ws) (i:=i) (by rw[e1];simp)
      have hle:dn.length < ws.length:=by have:=Cs ws;rw[e1]at this;simp at this;omega
      have ex:(wxs ws)[dn.length]? = some (wx ws[k]):=by
        unfold wxs
        rw[e1,List.getElem?_map,List.getElem?_append_right (Nat.le_refl _)]
        simp[hk]
      refine⟨[some (.im (Ae ws)),some (.im (.int c)),some (.mu 0),some (.im (.int (k:Int)))],rfl,?_⟩
      refine CH (Gg (A0 rfl ⟨⟨_,rfl⟩,A3 (AT (A3 (A8 (A0 rfl (L3 (AJ ⟨_,rfl,AL rfl (e:=.im (B0 ((BS ws).toNat + 1) (fT c (wxs ws) dn.length))) ?_ (A3 (A8 (A0 rfl (A0 rfl (AL (by rw[Bm,BC]) (Cb hk) (AA ⟨by simp[wmI,B0],(O7 (ok.2.2.2 _ (List.getElem_mem hk)) (by omega) _).mono ?_⟩))))))⟩))))))⟩))
      . rw[List.range_succ,List.map_append]
        exact MV _ _
      rintro d x rfl
      refine⟨_,rfl,AA (GK rfl (EV (by simp;omega)) ?_)⟩
      refine⟨by intro q hq;rw[List.mem_singleton]at hq;subst hq;rfl,dn ++ [(k:Int)],rest,_,by rw[e1];simp,rfl,rfl,?_⟩
      have e2:B8 (wx ws[k]) (fT c (wxs ws) dn.length)=fT c (wxs ws) (dn.length + 1):=by
        funext w
        rw[fT,ex]
      rw[e2]
      simp only[List.length_append,List.length_cons,List.length_nil,Nat.zero_add]
      rw[List.range_succ (n:=dn.length + 1),List.map_append]
      rfl
  . rintro ls hd ⟨dn,rest,z3,e1,er,rfl,rfl⟩
    have:rest=[]:=by cases rest with
      | nil=>rfl
      | cons t r=>cases er
    subst this
    rw[List.append_nil]at e1
    have hle:dn.length=ws.length:=by rw[<- e1];exact Cs ws
    refine AB (B5 (Cz (A3 (A0 rfl (AA (Cy rfl rfl ?_))))))
    have e2:((List.range (dn.length + 1)).map λ k=>D.im (B0 ((BS ws).toNat + 1) (fT c (wxs ws) k)))=((List.range (dn.length + 1)).map λ k=>B0 ((BS ws).toNat + 1) (fT c (wxs ws) k)).map D.im:=by rw[List.map_map];rfl
    rw[e2,DG,hle]
    rfl
end T41
namespace Lt
theorem FM{c:Int}{L:List Wx}:∀ i,(AM c L i).length <= 2 ^ i
  | 0=>by simp[AM]
  | i + 1=>by
    have ih:=FM (c:=c) (L:=L) i
    rw[Nat.pow_succ]
    cases hx:L[i]? with
    | none=>
      have e:AM c L (i + 1)=AM c L i ++ []:=by rw[AM,hx]
      rw[e];simp;omega
    | some w=>
      have e:AM c L (i + 1)=AM c L i ++ more i w (AM c L i):=by rw[AM,hx]
      have:(more i w (AM c L i)).length <= (AM c L i).length:=by unfold more;rw[List.length_map];exact List.length_filter_le _ _
      rw[e,List.length_append];omega
end Lt
namespace T41
open PySem L2 Bd
open Lt (IsMin comb behind B8 sel AM Wx En more FM)
theorem Od{ma mb:ME}{ls:Ls}{hd:Hd}{QA:List D->Hd->Prop}(h:WE ma ls hd λ d x=>WE mb ls x λ e y=>∃ p q as bs,d=.mu p/\e=.mu q/\y[p]? = some (.lst as)/\y[q]? = some (.lst bs)/\DP (as.length + bs.length)/\QA (as ++ bs) y):WA (K7 ma mb) ls hd QA:=by
  obtain⟨d,x,e1,e,y,e2,p,q,as,bs,rfl,rfl,e3,e4,c,h⟩:=h
  refine⟨_,_,?_,h⟩
  simp only[K7,e1,Option.bind_some,e2]
  simp only[e3,e4,c,if_true]
noncomputable abbrev enT(z:En × Nat):D:=B1 [.im (.int (z.1.1:Int)),.im (.int (z.1.2.1:Int)),.im (.int z.1.2.2),.mu z.2]
noncomputable def Refs(x:Hd)(qs:List Nat)(b:Nat):Prop:=∀ q ∈ qs,∃ ds,x[q]? = some (.lst ds)/\ds.length <= b
theorem Ge{x:Hd}{q:Nat}{o:MO}(e:x[q]? = some o)(g:Hd):(x ++ g)[q]? = some o:=by
  rw[List.getElem?_append_left (List.getElem?_eq_some_iff.mp e).1];exact e
theorem Refs.app{x:Hd}{qs:List Nat}{b:Nat}(h:Refs x qs b)(g:Hd):Refs (x ++ g) qs b:=λ q hq=>by
  obtain⟨ds,e,l⟩:=h q hq
  exact⟨ds,Ge e g,l⟩
theorem GV(x:Hd)(o:MO)(g:Hd):(x ++ (o :: g))[x.length]? = some o:=by simp
theorem WJ(E:List (En × Nat))(p:En × Nat->Prop)[DecidablePred p]:(E.filterMap λ z=>if p z then some (enT z)else none)=(E.filter λ z=>decide (p z)).map enT:=by
  induction E with
  | nil=>rfl
  | cons x r ih=>
    rw[List.filterMap_cons,List.filter_cons]
    by_cases h:p x
    . simp[h,ih]
    . simp[h,ih]
theorem L0(i:Nat)(x:Wx):∀ (E:List En) (qs:List Nat),qs.length=E.length->((E.zip qs).filter λ z=>decide (z.1.2.2 + x.1 <= x.2.1)).map (λ z=>((i + 1,z.1.2.1 + x.2.2,z.1.2.2 + x.1):En))=more i x E
  | [],_,_=>by simp[more]
  | e :: r,[],h=>by simp at h
  | e :: r,q :: qs,h=>by
    have ih:=L0 i x r qs (by simpa using h)
    unfold more at ih ⊢
    rw[List.zip_cons_cons,List.filter_cons,List.filter_cons]
    by_cases c:e.2.2 + x.1 <= x.2.1
    . simp[c,ih]
    . simp[c,ih]
theorem Up{i:Nat}(h:i <= 8):2 ^ i <= 256:=Nat.le_trans (Nat.pow_le_pow_right (by decide) h) (by decide)
inductive I_sets_w(ws:List Wm)(c:Int)(H0:Hd)(r:List D)(ls:Ls)(hd:Hd):Prop
  | mk (dn rest:List Int) (L:Nat) (g:Hd) (qs:List Nat) (z2 z3 z4 z5 z6 z7:Option D) (h0:Ab ws=dn ++ rest) (h1:r=((intD rest).zipIdx dn.length).map enD) (h2:ls=[some (.im (Ae ws)),some (.mu L),z2,z3,z4,z5,z6,z7]) (h3:H0.length <= L) (h4:hd=H0 ++ ([MO.lst [],.lst [enT ((0,0,c),H0.length)],.lst (intD (Ab ws))] ++ g)) (h5:qs.length=(AM c (wxs ws) dn.length).length) (h6:hd[L]? = some (.lst (((AM c (wxs ws) dn.length).zip qs).map enT))) (h7:Refs hd qs dn.length):I_sets_w ws c H0 r ls hd
inductive J_sets(dn:List Int)(k:Nat)(p:Wm)(X:Hd)(F:List (En × Nat))(r' es:List D)(ls:Ls)(hd:Hd):Prop
  | mk (dn' rest':List (En × Nat)) (qs':List Nat) (g':Hd) (z:Option D) (h0:F=dn' ++ rest') (h1:r'=rest'.map enT) (h2:qs'.length=dn'.length) (h3:es=((dn'.map λ z=>((dn.length + 1,z.1.2.1 + (wx p).2.2,z.1.2.2 + (wx p).1):En)).zip qs').map enT) (h4:ls=[z,some (.im (.int (dn.length:Int))),some (.im (.tup [.str "miss",.int p.due,.int p.wt])),some (.im (.int p.len)),some (.im (.int (k:Int)))]) (h5:hd=X ++ [.lst (F.map enT)] ++ g') (h6:Refs hd qs' (dn.length + 1)):J_sets dn k p X F r' es ls hd
set_option maxHeartbeats 1000000 in
theorem UA{B c:Int}{ws:List Wm}(ok:okMs B c ws)(hB:B <= 2000)(H0:Hd):WF IB [.im (Ae ws)] H0 λ d x=>∃ (L:Nat) (rest:Hd) (qs:List Nat),d=.mu L/\H0.length <= L/\x=H0 ++ rest/\qs.length=(AM c (wxs ws) ws.length).length/\x[L]? = some (.lst (((AM c (wxs ws) ws.length).zip qs).map enT)):=by
  obtain⟨hne,hl8,hc,hws⟩:=id ok
  have hl0:0 < ws.length:=CK hne
  unfold IB
  refine BF rfl ?_
  refine AH (AY (CL (EA (A3 (Bb (A3 (AJ (A3 (AJ (A3 (A8 (A8 (A0 rfl (AJ (AL (by rw[Bm,BC]) (Cb (k:=0) hl0) (AJ (AL (ds:=[.im (.int (ws[0]).len),.im (.int (ws[0]).com),.im (.tup [.str "miss",.int (ws[0]).due,.int (ws[0]).wt])]) rfl (Cv _ _ _) (A3 (CL (EA (AA ⟨FN,AA ⟨Pa,AA ⟨GZ,AB ?_⟩⟩⟩)))))))))))))))))))))
  rw[(hws _ (List.getElem_mem hl0)).2.1]
  refine AH (Ca (EW (Fc (FE (A3 (A0 rfl (AA ⟨[],_,rfl,rfl,by simp,rfl,(Jf ok hB).mono ?_⟩)))))))
  rintro d x ⟨rfl,rfl⟩
  refine⟨0,_,[],_,rfl,Nat.le_refl _,rfl,rfl,rfl,rfl,Cw _ _,H0.length + 2,intD (Ab ws),by simp,?_,?_⟩
  . simp
  have e0:H0 ++ [MO.lst []] ++ [MO.lst [enT ((0,0,c),H0.length)]] ++ [MO.lst (intD (Ab ws))]=H0 ++ [MO.lst [],.lst [enT ((0,0,c),H0.length)],.lst (intD (Ab ws))]:=by simp
  have gO:∀ g:Hd,GOk (H0 ++ ([MO.lst [],.lst [enT ((0,0,c),H0.length)],.lst (intD (Ab ws))] ++ g)) [(H0.length + 2,intD (Ab ws))]:=by
    intro g q hq;rw[List.mem_singleton]at hq;subst hq;simp
  refine C4 (I_sets_w ws c H0) ⟨[],Ab ws,H0.length + 1,[],[H0.length],none,none,none,none,none,none,rfl,rfl,by simp,by omega,by simp;rfl,rfl,?_,?_⟩ ?_ ?_
  . simp[AM];rfl
  . intro q hq;rw[List.mem_singleton]at hq;subst hq;exact⟨[],by simp,by simp⟩
  . rintro d r ls hd ⟨dn,rest,L,g,qs,z2,z3,z4,z5,z6,z7,e1,er,rfl,hL,ehd,hq,hE,hR⟩
    cases rest with
    | nil=>cases er
    | cons i rest=>
      rw[show intD (i :: rest)=.im (.int i) :: intD rest from rfl,List.zipIdx_cons,List.map_cons]at er
      obtain⟨rfl,rfl⟩:=List.cons.inj er
      obtain⟨k,hk,rfl⟩:=E2 (ws:=ws) (i:=i) (by rw[e1];simp)
      have hle:dn.length < ws.length:=by have:=Cs ws;rw[e1]at this;simp at this;omega
      have ex:(wxs ws)[dn.length]? = some (wx ws[k]):=by
        unfold wxs
        rw[e1,List.getElem?_map,List.getElem?_append_right (Nat.le_refl _)]
        simp[hk]
      have okk:=hws _ (List.getElem_mem hk)
      have eF:AM c (wxs ws) (dn.length + 1)=AM c (wxs ws) dn.length ++ more dn.length (wx ws[k]) (AM c (wxs ws) dn.length):=by rw[AM,ex]
      have lenE:=FM (c:=c) (L:=wxs ws) dn.length
      have p8:=Up (i:=dn.length) (by omega)
      generalize hEE:AM c (wxs ws) dn.length=E at *
      generalize hp:ws[k]=p at *
      subst ehd
      generalize hX:H0 ++ ([MO.lst [],.lst [enT ((0,0,c),H0.length)],.lst (intD (Ab ws))] ++ g)=X at *
      refine⟨[some (.im (Ae ws)),some (.mu L),some (.im (.int (dn.length:Int))),some (.im (.int (k:Int))),z4,z5,z6,z7],rfl,?_⟩
      refine AH (OV (A8 (A0 rfl (A0 rfl (AL (by rw[Bm,BC]) (Cb hk) ?_)))))
      rw[hp]
      refine⟨[some (.im (Ae ws)),some (.mu L),some (.im (.int (dn.length:Int))),some (.im (.int (k:Int))),some (.im (.int p.len)),some (.im (.int p.com)),some (.im (.tup [.str "miss",.int p.due,.int p.wt])),z7],rfl,AB ?_⟩
      have lz:(E.zip qs).length=E.length:=by rw[List.length_zip,hq,Nat.min_self]
      refine AH (AY (CL (Bn (Fc (A0 rfl ⟨L,_,rfl,hE,B7 (by rw[List.length_map,lz];omega),?_⟩)))))
      refine Cc enT (λ z=>if z.1.2.2 + p.len <= p.due then some (enT z)else none) (λ _ ls=>∃ x,ls=[some x,some (.im (.int p.len)),some (.im (.tup [.str "miss",.int p.due,.int p.wt]))]) _ (by intro q hq;rw[List.mem_singleton]at hq;subst hq;exact hE) ?_ ?_
      . rintro z hz ls hls
        refine⟨[some (enT z),some (.im (.int p.len)),some (.im (.tup [.str "miss",.int p.due,.int p.wt]))],by rcases hls with rfl|⟨_,x,rfl⟩ <;> rfl,⟨_,rfl⟩,?_⟩
        refine Ac (A8 (A8 (A8 (A0 rfl (AJ (AL rfl (Ej _ _ _ _) (A0 rfl (C3 (A8 (A0 rfl (AJ (AL (ds:=[.im (.str "miss"),.im (.int p.due),.im (.int p.wt)]) rfl (Cv _ _ _) (NM ⟨_,rfl,rfl,?_⟩)))))))))))))
        by_cases q:z.1.2.2 + p.len <= p.due
        . rw[if_pos (by simpa using q)]
          exact⟨_,if_pos q,A0 rfl ⟨rfl,rfl⟩⟩
        . rw[if_neg (by simpa using q)]
          exact if_neg q
      rw[WJ]
      generalize hFF:(E.zip qs).filter (λ z=>decide (z.1.2.2 + p.len <= p.due))=F
      have hFm:∀ z ∈ F,z.2 ∈ qs:=λ z hz=>by
        rw[<- hFF]at hz
        exact(List.of_mem_zip (List.mem_filter.mp hz).1).2
      have hFl:F.length <= E.length:=by rw[<- hFF,<- lz];exact List.length_filter_le _ _
      refine AB ?_
      change WS _ [some (.im (Ae ws)),some (.mu L),some (.im (.int (dn.length:Int))),some (.im (.int (k:Int))),some (.im (.int p.len)),some (.im (.int p.com)),some (.im (.tup [.str "miss",.int p.due,.int p.wt])),some (.mu X.length)] (X ++ [.lst (F.map enT)]) _
      have hXF:∀ g':Hd,(X ++ [MO.lst (F.map enT)] ++ g')[X.length]? = some (.lst (F.map enT)):=λ g'=>by rw[List.append_assoc];exact GV X _ g'
      refine AY (CL (Od (A0 rfl (CL (Bn (Fc (A0 rfl ⟨X.length,F.map enT,rfl,by simpa using hXF [],B7 (by rw[List.length_map];omega),?_⟩)))))))
      refine Vm (J_sets dn k p X F) ⟨[],F,[],[],none,rfl,rfl,rfl,rfl,rfl,by simp,λ q hq=>by cases hq⟩ ?_ ?_
      . rintro d r' es ls hd ⟨dn',rest',qs',g',z,e2,e3,lq,rfl,rfl,rfl,R'⟩
        cases rest' with
        | nil=>cases e3
        | cons y rest'=>
          obtain⟨rfl,rfl⟩:=List.cons.inj e3
          obtain⟨ds,ed,ld⟩:=hR y.2 (hFm y (by rw[e2];simp))
          refine⟨[some (enT y),some (.im (.int (dn.length:Int))),some (.im (.tup [.str "miss",.int p.due,.int p.wt])),some (.im (.int p.len)),some (.im (.int (k:Int)))],rfl,Dc ?_⟩
          rw[if_pos rfl]
          refine Bb (A3 (A8 (A0 rfl (AJ (C3 (A3 (A8 (A8 (A0 rfl (AJ (AL rfl (Cv _ _ _) (A8 (A0 rfl (AJ (AL (ds:=[.im (.str "miss"),.im (.int p.due),.im (.int p.wt)]) rfl (Ej _ _ _ _) (C3 (A3 (A8 (A8 (A0 rfl (AJ (AL rfl (Ej _ _ _ _) (A0 rfl (C3 (A3 (CL (Od (A8 (A0 rfl (AJ (AL rfl (e:=.mu y.2) rfl (CL (EA (A3 (A0 rfl (AA ⟨GZ,?_⟩))))))))))))))))))))))))))))))))))))
          have ed':(X ++ [MO.lst (F.map enT)] ++ g' ++ [MO.lst [.im (.int (k:Int))]])[y.2]? = some (.lst ds):=by
            rw[List.append_assoc,List.append_assoc];exact Ge ed _
          refine⟨y.2,_,ds,[.im (.int (k:Int))],rfl,rfl,ed',GV _ _ [],B7 (by simp;omega),AA ⟨Pa,?_⟩⟩
          have c1:((dn.length:Int) + 1)=((dn.length + 1:Nat):Int):=by omega
          have c2:((y.1.2.1:Int) + p.wt)=((y.1.2.1 + (wx p).2.2:Nat):Int):=by have:=okk.2.2.2;unfold wx;dsimp only;omega
          rw[c1,c2]
          refine⟨by intro q hq;rw[List.mem_singleton]at hq;subst hq;simpa using hXF (g' ++ [MO.lst [.im (.int (k:Int))],.lst (ds ++ [.im (.int (k:Int))])]),dn' ++ [y],rest',qs' ++ [(X ++ [MO.lst (F.map enT)] ++ g' ++ [MO.lst [.im (.int (k:Int))]]).length],g' ++ [MO.lst [.im (.int (k:Int))],.lst (ds ++ [.im (.int (k:Int))])],_,by rw[e2];simp,rfl,by simp[lq],?_,rfl,by simp,?_⟩
          . rw[List.map_append,List.zip_append (by simp[lq]),List.map_append]
            rfl
          . intro q hq
            rcases List.mem_append.mp hq with q'|q'
            . have:=(R'.app [MO.lst [.im (.int (k:Int))],.lst (ds ++ [.im (.int (k:Int))])]) q q'
              simpa using this
            . rw[List.mem_singleton]at q'
              subst q'
              exact⟨ds ++ [.im (.int (k:Int))],GV _ _ [],by simp;omega⟩
      rintro es ls hd ⟨dn',rest',qs',g',z,e2,e3,lq,rfl,rfl,rfl,R'⟩
      have er':rest'=[]:=by cases rest' with
        | nil=>rfl
        | cons t r=>cases e3
      subst er'
      rw[List.append_nil]at e2
      subst e2
      have eM:(F.map λ z=>((dn.length + 1,z.1.2.1 + (wx p).2.2,z.1.2.2 + (wx p).1):En))=more dn.length (wx p) E:=by
        rw[<- hFF];exact L0 dn.length (wx p) E qs hq
      rw[eM]
      have lM:qs'.length=(more dn.length (wx p) E).length:=by rw[<- eM,List.length_map];exact lq
      generalize hY:X ++ [MO.lst (F.map enT)] ++ g'=Y at *
      have eL:(Y ++ [MO.lst (((more dn.length (wx p) E).zip qs').map enT)])[L]? = some (.lst ((E.zip qs).map enT)):=by
        rw[<- hY,List.append_assoc,List.append_assoc];exact Ge hE _
      refine⟨L,Y.length,_,_,rfl,rfl,eL,GV Y _ [],B7 (by rw[List.length_map,List.length_map,lz,List.length_zip,lM,Nat.min_self];have:=hFl;rw[<- eM];simp;omega),?_⟩
      rw[<- List.map_append,<- List.zip_append (by rw[hq]),<- eF]
      have hfin:Y ++ [MO.lst (((more dn.length (wx p) E).zip qs').map enT)] ++ [MO.lst (((AM c (wxs ws) (dn.length + 1)).zip (qs ++ qs')).map enT)]=H0 ++ ([MO.lst [],.lst [enT ((0,0,c),H0.length)],.lst (intD (Ab ws))] ++ (g ++ [MO.lst (F.map enT)] ++ g' ++ [MO.lst (((more dn.length (wx p) E).zip qs').map enT)] ++ [MO.lst (((AM c (wxs ws) (dn.length + 1)).zip (qs ++ qs')).map enT)])):=by
        rw[<- hY,<- hX];simp
      have hlY:H0.length <= Y.length:=by rw[<- hY,<- hX];simp
      have R1:Refs (Y ++ [MO.lst (((more dn.length (wx p) E).zip qs').map enT)] ++ [MO.lst (((AM c (wxs ws) (dn.length + 1)).zip (qs ++ qs')).map enT)]) (qs ++ qs') (dn.length + 1):=by
        intro q hq'
        rcases List.mem_append.mp hq' with q'|q'
        . obtain⟨ds,ed,ld⟩:=hR q q'
          refine⟨ds,?_,by omega⟩
          rw[<- hY,List.append_assoc,List.append_assoc,List.append_assoc];exact Ge ed _
        . obtain⟨ds,ed,ld⟩:=R' q q'
          exact⟨ds,by rw[List.append_assoc];exact Ge ed _,ld⟩
      refine⟨by rw[hfin];exact gO _,dn ++ [(k:Int)],rest,(Y ++ [MO.lst (((more dn.length (wx p) E).zip qs').map enT)]).length,_,qs ++ qs',_,_,_,_,_,_,by rw[e1];simp,by simp,rfl,by simp;omega,hfin,?_,?_,?_⟩
      . rw[List.length_append,List.length_append,hq,lM];simp only[List.length_append,List.length_cons,List.length_nil,Nat.zero_add];rw[eF,List.length_append]
      . simp only[List.length_append (as:=dn),List.length_cons,List.length_nil,Nat.zero_add]
        exact GV _ _ []
      . simp only[List.length_append (as:=dn),List.length_cons,List.length_nil,Nat.zero_add]
        exact R1
  . rintro ls hd ⟨dn,rest,L,g,qs,z2,z3,z4,z5,z6,z7,e1,er,rfl,hL,rfl,hq,hE,hR⟩
    have:rest=[]:=by cases rest with
      | nil=>rfl
      | cons t r=>cases er
    subst this
    rw[List.append_nil]at e1
    have hle:dn.length=ws.length:=by rw[<- e1];exact Cs ws
    rw[hle]at hq hE
    exact AB (B5 (A0 rfl ⟨L,_,qs,rfl,hL,rfl,hq,hE⟩))
end T41
namespace Mh
open Lt
noncomputable def ins(l:Int):List Int->List Int
  | []=>[l]
  | a :: r=>if l <= a then l :: a :: r else a :: ins l r
noncomputable def pre(A:List Int)(k:Nat):Int:=(A.take k).sum
theorem KA(l:Int):∀ A:List Int,(ins l A).length=A.length + 1
  | []=>rfl
  | a :: r=>by
    unfold ins
    split
    . rfl
    . simp[KA l r]
theorem ins_perm(l:Int):∀ A:List Int,(ins l A).Perm (l :: A)
  | []=>.refl _
  | a :: r=>by
    unfold ins
    split
    . exact .refl _
    . exact((ins_perm l r).cons a).trans (List.Perm.swap l a r)
theorem ins_sorted(l:Int):∀ {A:List Int},A.Pairwise (· <= ·)->(ins l A).Pairwise (· <= ·)
  | [],_=>by simp[ins]
  | a :: r,h=>by
    unfold ins
    obtain⟨h1,h2⟩:=List.pairwise_cons.mp h
    split
    . next q=>
      refine List.pairwise_cons.mpr ⟨λ x hx=>?_,h⟩
      rcases List.mem_cons.mp hx with rfl|hx
      . exact q
      . have:=h1 x hx;omega
    . next q=>
      refine List.pairwise_cons.mpr ⟨λ x hx=>?_,ins_sorted l h2⟩
      rcases List.mem_cons.mp ((ins_perm l r).mem_iff.mp hx)with rfl|hx
      . omega
      . exact h1 x hx
theorem ES(A:List Int):pre A 0=0:=by simp[pre]
theorem Dl(a:Int)(r:List Int)(k:Nat):pre (a :: r) (k + 1)=a + pre r k:=by simp[pre]
theorem Le{l:Int}:∀ {B:List Int} {k:Nat},(∀ x ∈ B,l <= x)->k < B.length->pre B k + l <= pre B (k + 1)
  | [],k,_,h=>by simp at h
  | b :: r,0,hl,_=>by
    rw[Dl,ES,ES]
    have:=hl b (by simp);omega
  | b :: r,k + 1,hl,h=>by
    rw[Dl,Dl]
    have:=Le (B:=r) (k:=k) (λ x hx=>hl x (by simp[hx])) (by simpa using h)
    omega
theorem K4{l:Int}:∀ {A:List Int} {k:Nat},A.Pairwise (· <= ·)->k <= A.length->pre (ins l A) (k + 1)=if k < A.length then min (pre A (k + 1)) (pre A k + l)else pre A k + l
  | [],k,_,h=>by
    have:k=0:=by simpa using h
    subst this
    simp[ins,pre]
  | a :: r,k,hs,h=>by
    obtain⟨h1,h2⟩:=List.pairwise_cons.mp hs
    unfold ins
    split
    . next q=>
      rw[Dl]
      have all:∀ x ∈ a :: r,l <= x:=λ x hx=>by
        rcases List.mem_cons.mp hx with rfl|hx
        . exact q
        . have:=h1 x hx;omega
      split
      . next c=>
        have:=Le all c
        omega
      . omega
    . next q=>
      rw[Dl]
      cases k with
      | zero=>
        rw[if_pos (by simp),Dl,ES,ES,ES]
        omega
      | succ k=>
        rw[K4 h2 (by simpa using h),Dl,Dl]
        by_cases c:k < r.length
        . rw[if_pos c,if_pos (by simpa using c)];omega
        . rw[if_neg c,if_neg (by simpa using c)];omega
noncomputable def keep(d l:Int)(A:List Int):List Int:=if A.sum + l <= d then ins l A else(ins l A).dropLast
noncomputable def tabl(A:List Int)(k:Nat):Option Int:=if k <= A.length then some (pre A k)else none
theorem N3(A:List Int):pre A A.length=A.sum:=by simp[pre]
theorem Qs{A:List Int}(hp:∀ x ∈ A,0 <= x)(k:Nat):pre A k <= A.sum:=by
  have:A.sum=(A.take k).sum + (A.drop k).sum:=by rw[<- List.sum_append,List.take_append_drop]
  have nn:0 <= (A.drop k).sum:=by
    have:∀ B:List Int,(∀ x ∈ B,0 <= x)->0 <= B.sum:=by
      intro B
      induction B with
      | nil=>intro _;simp
      | cons b r ih=>intro h;have:=ih λ x hx=>h x (by simp[hx]);have:=h b (by simp);simp;omega
    exact this _ λ x hx=>hp x (List.mem_of_mem_drop hx)
  unfold pre;omega
theorem step{A:List Int}{d l:Int}(hs:A.Pairwise (· <= ·))(hp:∀ x ∈ A,0 <= x)(hl:0 <= l)(hd:A ≠ []->A.sum <= d)(k:Nat):B8 (l,d,1) (tabl A) k=tabl (keep d l A) k:=by
  unfold B8
  cases k with
  | zero=>
    have e:tabl (keep d l A) 0=some 0:=by simp[tabl,ES]
    rw[e]
    simp[comb,tabl,ES]
  | succ k=>
    have hk1:¬ (k + 1 < 1):=by omega
    simp only[if_neg hk1,Nat.add_sub_cancel]
    have li:=KA l A
    have lk:(keep d l A).length=if A.sum + l <= d then A.length + 1 else A.length:=by
      unfold keep;split
      . exact li
      . simp[li]
    have pk:k + 1 <= (keep d l A).length->pre (keep d l A) (k + 1)=pre (ins l A) (k + 1):=by
      intro h
      unfold keep at h ⊢
      split
      . rfl
      . next c=>
        rw[if_neg c]at h
        unfold pre
        rw[List.dropLast_eq_take,List.take_take]
        congr 2
        simp[li]at h ⊢;omega
    by_cases c1:k + 1 <= A.length
    . have e1:tabl A (k + 1)=some (pre A (k + 1)):=if_pos c1
      have e2:tabl A k=some (pre A k):=if_pos (by omega)
      have hk:k + 1 <= (keep d l A).length:=by rw[lk];split <;> omega
      have e3:tabl (keep d l A) (k + 1)=some (min (pre A (k + 1)) (pre A k + l)):=by
        unfold tabl
        rw[if_pos hk,pk hk,K4 hs (by omega),if_pos (by omega)]
      rw[e1,e2,e3]
      unfold behind
      dsimp only
      have hne:A ≠ []:=λ z=>by rw[z]at c1;simp at c1
      have hm:=Qs hp (k + 1)
      have:=hd hne
      split
      . unfold comb
        dsimp only
        split <;> (congr 1;omega)
      . unfold comb
        dsimp only
        congr 1;omega
    . have e1:tabl A (k + 1)=none:=if_neg c1
      rw[e1]
      by_cases c2:k=A.length
      . subst c2
        have e2:tabl A A.length=some A.sum:=by unfold tabl;rw[if_pos (Nat.le_refl _),N3]
        rw[e2]
        unfold behind
        dsimp only
        by_cases c3:A.sum + l <= d
        . have hk:A.length + 1 <= (keep d l A).length:=by rw[lk,if_pos c3];exact Nat.le_refl _
          rw[if_pos c3]
          unfold tabl
          rw[if_pos hk,pk hk,K4 hs (Nat.le_refl _),if_neg (Nat.lt_irrefl _),N3]
          rfl
        . have hk:¬ A.length + 1 <= (keep d l A).length:=by rw[lk,if_neg c3];omega
          rw[if_neg c3]
          unfold tabl
          rw[if_neg hk]
          rfl
      . have e2:tabl A k=none:=if_neg (by omega)
        have hk:¬ k + 1 <= (keep d l A).length:=by rw[lk];split <;> omega
        rw[e2]
        unfold tabl
        rw[if_neg hk]
        rfl
end Mh
namespace Mh
noncomputable def moore:List (Int × Int)->List Int->List Int
  | [],A=>A
  | (l,d) :: r,A=>moore r (keep d l A)
theorem moore_snoc(L:List (Int × Int))(l d:Int):∀ A,moore (L ++ [(l,d)]) A=keep d l (moore L A):=by
  induction L with
  | nil=>intro A;rfl
  | cons p r ih=>intro A;obtain⟨x,y⟩:=p;exact ih _
theorem Lv{A:List Int}(hs:A.Pairwise (· <= ·))(hne:A ≠ []):∀ x ∈ A,x <= A.getLast hne:=by
  intro x hx
  have e:=List.dropLast_concat_getLast hne
  rw[<- e]at hx
  rcases List.mem_append.mp hx with q|q
  . rw[<- e]at hs
    exact(List.pairwise_append.mp hs).2.2 x q _ (by simp)
  . simp at q;omega
theorem drop_perm{α:Type}[DecidableEq α]{ks:List α}{f:α->Int}{A:List Int}{b:α}(hs:A.Pairwise (· <= ·))(pm:(ks.map f).Perm A)(hb:b ∈ ks)(hm:∀ x ∈ ks,f x <= f b):((ks.erase b).map f).Perm A.dropLast:=by
  have hne:A ≠ []:=λ z=>by
    have:=pm.length_eq
    rw[z]at this
    have:ks=[]:=by simpa using this
    rw[this]at hb;cases hb
  have p1:ks.Perm (b :: ks.erase b):=List.perm_cons_erase hb
  have p2:(f b :: (ks.erase b).map f).Perm A:=((p1.map f).symm.trans pm)
  have e:f b=A.getLast hne:=by
    have h1:=Lv hs hne (f b) (p2.mem_iff.mp List.mem_cons_self)
    have h2:A.getLast hne <= f b:=by
      obtain⟨x,hx,ex⟩:=List.mem_map.mp (pm.mem_iff.mpr (List.getLast_mem hne))
      rw[<- ex];exact hm x hx
    omega
  have p3:A.Perm (f b :: A.dropLast):=by
    have:=List.dropLast_concat_getLast hne
    rw[<- e]at this
    conv=>lhs;rw[<- this]
    exact List.perm_append_comm
  exact(p2.trans p3).cons_inv
theorem Mg{A:List Int}{d l:Int}(hs:A.Pairwise (· <= ·)):(keep d l A).Pairwise (· <= ·):=by
  unfold keep
  split
  . exact ins_sorted l hs
  . exact(ins_sorted l hs).sublist (List.dropLast_sublist _)
theorem moore_sorted:∀ (L:List (Int × Int)) {A:List Int},A.Pairwise (· <= ·)->(moore L A).Pairwise (· <= ·)
  | [],_,h=>h
  | (l,d) :: r,_,h=>moore_sorted r (Mg h)
end Mh
namespace Mh
open Lt
theorem RW{A:List Int}{d l x:Int}(h:x ∈ keep d l A):x=l ∨ x ∈ A:=by
  have:x ∈ ins l A:=by
    unfold keep at h
    split at h
    . exact h
    . exact(List.dropLast_sublist _).subset h
  exact List.mem_cons.mp ((ins_perm l A).mem_iff.mp this)
theorem Vz{L M:List Int}(h:L.Perm M):L.sum=M.sum:=by
  induction h with
  | nil=>rfl
  | cons x _ ih=>simp[ih]
  | swap x y l=>simp;omega
  | trans _ _ ih1 ih2=>exact ih1.trans ih2
theorem RV{A:List Int}{d l:Int}(hs:A.Pairwise (· <= ·))(hd:A ≠ []->A.sum <= d)(hne:keep d l A ≠ []):(keep d l A).sum <= d:=by
  unfold keep at hne ⊢
  have e:=Vz (ins_perm l A)
  rw[List.sum_cons]at e
  split
  . next c=>omega
  . next c=>
    rw[if_neg c]at hne
    have hA:A ≠ []:=λ z=>by rw[z]at hne;simp[ins]at hne
    have hi:ins l A ≠ []:=λ z=>by have:=KA l A;rw[z]at this;simp at this
    have e2:=List.dropLast_concat_getLast hi
    have e3:(ins l A).sum=(ins l A).dropLast.sum + (ins l A).getLast hi:=by
      conv=>lhs;rw[<- e2]
      rw[List.sum_append];simp
    have:=Lv (ins_sorted l hs) hi l ((ins_perm l A).mem_iff.mpr List.mem_cons_self)
    have:=hd hA
    omega
noncomputable def toW(p:Int × Int):Wx:=(p.1,p.2,1)
theorem table_moore{L:List (Int × Int)}(hl:∀ p ∈ L,0 <= p.1)(hd:L.Pairwise λ p q=>p.2 <= q.2):∀ k,k <= L.length->(∀ w,IsMin (sel w (AM 0 (L.map toW) k)) (tabl (moore (L.take k) []) w))/\(∀ x ∈ moore (L.take k) [],0 <= x)/\(∀ j,k <= j->∀ q,L[j]? = some q->moore (L.take k) [] ≠ []->(moore (L.take k) []).sum <= q.2)
  | 0,_=>by
    refine⟨λ w=>?_,by simp[moore],λ j _ q _ h=>by simp[moore]at h⟩
    unfold AM sel
    by_cases h:w=0
    . subst h;exact .inr ⟨0,by simp[tabl,moore,pre],by simp,by simp⟩
    . have h':¬ (0=w):=λ z=>h z.symm
      exact .inl ⟨by simp[tabl,moore,h],by simp[h']⟩
  | k + 1,hk=>by
    obtain⟨ih1,ih2,ih3⟩:=table_moore hl hd k (by omega)
    have hkl:k < L.length:=by omega
    have ek:L[k]? = some L[k]:=List.getElem?_eq_getElem hkl
    have et:L.take (k + 1)=L.take k ++ [L[k]]:=by rw[List.take_succ,ek];rfl
    have em:moore (L.take (k + 1)) []=keep (L[k]).2 (L[k]).1 (moore (L.take k) []):=by rw[et,moore_snoc]
    have hl0:=hl L[k] (List.getElem_mem hkl)
    have hs:=moore_sorted (L.take k) (A:=[]) .nil
    have hle:=ih3 k (Nat.le_refl _) _ ek
    refine⟨λ w=>?_,λ x hx=>?_,λ j hj q hq hne=>?_⟩
    . have hx:(L.map toW)[k]? = some (toW L[k]):=by rw[List.getElem?_map,ek];rfl
      have:=Lt.next_min (c:=0) hx (f:=tabl (moore (L.take k) [])) (w:=w) (ih1 w) λ _=>ih1 _
      rw[em,<- step hs ih2 hl0 hle w]
      exact this
    . rw[em]at hx
      rcases RW hx with rfl|hx
      . exact hl0
      . exact ih2 x hx
    . rw[em]at hne ⊢
      have h1:=RV hs hle hne
      have h2:(L[k]).2 <= q.2:=by
        obtain⟨hjl,rfl⟩:=List.getElem?_eq_some_iff.mp hq
        exact List.pairwise_iff_getElem.mp hd k j hkl hjl (by omega)
      omega
end Mh
namespace Mh
open Lt
theorem found_scale(c:Int)(v:Nat)(L:List (Int × Int)):∀ k,AM c (L.map λ p=>(p.1,p.2 + c,v)) k=(AM 0 (L.map toW) k).map λ e=>(e.1,v * e.2.1,e.2.2 + c)
  | 0=>by simp[AM]
  | k + 1=>by
    have ih:=found_scale c v L k
    rw[AM,AM,List.map_append,ih,List.getElem?_map,List.getElem?_map]
    congr 1
    cases L[k]? with
    | none=>rfl
    | some p=>
      show more k (p.1,p.2 + c,v) _=(more k (toW p) _).map _
      unfold more toW
      rw[List.filter_map,List.map_map,List.map_map]
      have e1:((λ e:En=>decide (e.2.2 + p.1 <= p.2 + c)) ∘ λ e:En=>((e.1,v * e.2.1,e.2.2 + c):En))=λ e:En=>decide (e.2.2 + p.1 <= p.2):=by
        funext e
        exact decide_eq_decide.mpr (by dsimp only;omega)
      rw[e1]
      refine List.map_congr_left λ e _=>?_
      show((k + 1,v * e.2.1 + v,e.2.2 + c + p.1):En)=(k + 1,v * (e.2.1 + 1),e.2.2 + p.1 + c)
      rw[Nat.mul_add,Nat.mul_one,show e.2.2 + c + p.1=e.2.2 + p.1 + c by omega]
end Mh
namespace T41
open PySem L2 Bd
theorem Lk{B c v:Int}{ws:List Wm}(ok:okMs B c ws)(h1:∀ w ∈ ws,w.wt=v):WF Dw [.im (Ae ws)] [] λ d x=>d=.im (.int v):=by
  obtain⟨hne,hl8,hc,hws⟩:=ok
  have hl0:0 < ws.length:=CK hne
  unfold Dw
  refine BF rfl ?_
  refine AH (AY (AT (A3 (A8 (A0 rfl (AJ (AL (by rw[Bm,BC]) (Cb (k:=0) hl0) (AA ⟨by simp[wmI],(Ig _).mono ?_⟩))))))))
  rintro d x rfl
  refine⟨_,rfl,AB ?_⟩
  rw[h1 _ (List.getElem_mem hl0)]
  refine AH (B6 (C2 (DR (Bn (Ec (A0 rfl ⟨_,rfl,?_⟩))))))
  rw[BC]
  refine⟨B7 (by simp;omega),?_⟩
  refine Cc wmD (λ _=>some (.im (.bl false))) (λ _ ls=>∃ x,ls=[some x,some (.im (.int v))]) _ (Ak _) ?_ ?_
  . rintro p hp ls hls
    refine⟨[some (wmD p),some (.im (.int v))],by rcases hls with rfl|⟨_,x,rfl⟩ <;> rfl,⟨_,rfl⟩,Dc ⟨rfl,?_⟩⟩
    rw[if_pos rfl]
    refine⟨_,rfl,A8 (AT (A3 (A0 rfl (AA ⟨by simp[wmI],(Ig p).mono ?_⟩))))⟩
    rintro d y rfl
    rw[h1 p hp]
    exact⟨_,rfl,A0 rfl (HU ⟨rfl,by simp⟩)⟩
  have e:(ws.filterMap λ _=>some (D.im (.bl false)))=blD (ws.map λ _=>false):=by simp[blD]
  rw[e]
  refine⟨_,by rw[M2,Iz];rfl,_,rfl,?_⟩
  exact⟨(λ h=>by simp at h),λ _=>An (AB (B5 (A0 rfl rfl)))⟩
noncomputable def GF(ws:List Wm)(k:Nat):Int:=(ws[k]?.map Wm.len).getD 0
theorem IO{ws:List Wm}{k:Nat}(hk:k < ws.length):(ws[k]).len=GF ws k:=by simp[GF,hk]
theorem Pw{w:Nat}{F:List D->Hd->Option (D × Hd)}{m:MA}{ls:Ls}{hd:Hd}{QE:D->Hd->Prop}(h:WA m ls hd λ ds x=>∃ pre rest,x=pre ++ rest/\pre.length=w/\BQ w ds=true/\pre.all (clO w)=true/\WF F ds pre λ d y=>∃ i pre' g,d=.im i/\y=pre' ++ g/\pre'.length=w/\pre'.all (clO w)=true/\QE (.im i) (pre' ++ rest)):WE (AG w F m) ls hd QE:=by
  obtain⟨ds,x,e,pre,rest,rfl,hw,hc,hp,d,y,e2,i,pre',g,rfl,rfl,lp,cp,q⟩:=h
  exact⟨_,_,Iy (w:=w) (pre:=pre) (pre':=pre') (rest:=rest) (g:=g) hw lp e hc hp cp e2,q⟩
theorem O1{L M:List Int}(h:L.Perm M):L.sum=M.sum:=by
  induction h with
  | nil=>rfl
  | cons x _ ih=>simp[ih]
  | swap x y l=>simp;omega
  | trans _ _ ih1 ih2=>exact ih1.trans ih2
theorem era(i:Int):∀ L:List Int,L.eraseIdx (L.idxOf i)=L.erase i
  | []=>rfl
  | y :: r=>by
    rw[List.idxOf_cons,List.erase_cons]
    by_cases h:y=i
    . subst h;simp
    . have h1:(y == i)=false:=by simpa using h
      rw[h1]
      simp only[cond_false,List.eraseIdx_cons_succ,Bool.false_eq_true,if_false]
      rw[era i r]
noncomputable abbrev lnI(ws:List Wm)(i:Int):Int:=GF ws i.toNat
noncomputable def lds(c:Int)(ws:List Wm)(L:List Int):List (Int × Int):=L.map λ i=>(lnI ws i,B4 ws i.toNat - c)
theorem HV{mi:MI}{ls:Ls}{hd:Hd}{QA:List D->Hd->Prop}(h:WI mi ls hd λ p x=>∃ ns:List Int,p.1=intD ns/\ns.length < 64/\QA (intD (Ar ns)) x):WA (DV mi) ls hd QA:=by
  obtain⟨p,x,e,ns,e1,hl,q⟩:=h
  refine⟨_,_,?_,q⟩
  simp only[DV,e,Option.bind_some,e1,Dv,hl,if_true]
theorem PP{ws:List Wm}{ns:List Int}(hk:∀ i ∈ ns,∃ k:Nat,k < ws.length/\i=k)(hl:ns.length <= 100):WF EK [.im (Ae ws),.mu 0] [.lst (intD ns)] λ d x=>d=.im (.int (ns.map (lnI ws)).sum)/\x=[.lst (intD ns)]:=by
  unfold EK
  refine BF rfl ?_
  refine B5 (DR (Bn (Fc (A0 rfl ⟨0,intD ns,rfl,rfl,B7 (by simp[intD];omega),?_⟩))))
  refine Cc (λ i:Int=>D.im (.int i)) (λ i=>some (.im (.int (lnI ws i)))) (λ _ ls=>∃ x,ls=[some x,some (.im (Ae ws))]) _ (by intro q hq;rw[List.mem_singleton]at hq;subst hq;rfl) ?_ ?_
  . rintro i hi ls hls
    obtain⟨k,hkn,rfl⟩:=hk i hi
    refine⟨[some (.im (.int (k:Int))),some (.im (Ae ws))],by rcases hls with rfl|⟨_,x,rfl⟩ <;> rfl,⟨_,rfl⟩,Dc ⟨rfl,?_⟩⟩
    rw[if_pos rfl]
    refine⟨_,rfl,A8 (A8 (A0 rfl (A0 rfl (AL (by rw[Bm,BC]) (Cb hkn) (AJ (AL (ds:=[.im (.int (ws[k]).len),.im (.int (ws[k]).com),.im (.tup [.str "miss",.int (ws[k]).due,.int (ws[k]).wt])]) rfl (GJ _ _) ⟨rfl,?_⟩))))))⟩
    rw[IO hkn];rfl
  have e:(ns.filterMap λ i=>some (D.im (.int (lnI ws i))))=intD (ns.map (lnI ws)):=by simp[intD]
  rw[e]
  exact⟨_,by unfold Hr;rw[Dv];rfl,rfl,rfl⟩
noncomputable def kfD(ws:List Wm):D->Int | .im (.int i)=>lnI ws i|_=>0
theorem G0(ws:List Wm):(Ab ws).Nodup:=by
  refine(Fm ws).nodup_iff.mpr ?_
  refine List.Pairwise.map _ (λ a b h=>?_) List.nodup_range
  exact λ z=>h (by omega)
theorem S9{B c:Int}{ws:List Wm}(ok:okMs B c ws)(i:Int):0 <= lnI ws i:=by
  show 0 <= GF ws i.toNat
  unfold GF
  cases h:ws[i.toNat]? with
  | none=>exact Int.le_refl _
  | some w=>have:=(ok.2.2.2 w (List.mem_of_getElem? h)).1;show 0 <= w.len;omega
theorem PQ{B c:Int}{ws:List Wm}(ok:okMs B c ws)(L:List Int):∀ p ∈ lds c ws L,0 <= p.1:=λ p hp=>by
  obtain⟨i,hi,rfl⟩:=List.mem_map.mp hp
  exact S9 ok i
noncomputable def inT(ws:List Wm):Int->List Int->Prop
  | _,[]=>True
  | e,i :: r=>e + lnI ws i <= B4 ws i.toNat/\inT ws (e + lnI ws i) r
theorem Tq{ws:List Wm}(h0:∀ i,0 <= lnI ws i){L M:List Int}(s:M.Sublist L):∀ {e e':Int},e' <= e->inT ws e L->inT ws e' M:=by
  induction s with
  | slnil=>intros;trivial
  | cons a _ ih=>intro e e' h1 h2;exact ih (by have:=h0 a;omega) h2.2
  | cons_cons a _ ih=>intro e e' h1 h2;exact⟨by have:=h2.1;omega,ih (by omega) h2.2⟩
theorem KB{ws:List Wm}{k:Int}:∀ {L:List Int} {e:Int},inT ws e L->e + (L.map (lnI ws)).sum + lnI ws k <= B4 ws k.toNat->inT ws e (L ++ [k])
  | [],e,_,h=>⟨by simpa using h,trivial⟩
  | i :: r,e,h,h'=>⟨h.1,KB h.2 (by simp at h';omega)⟩
theorem MH(ws:List Wm){B c:Int}(ok:okMs B c ws)(hB:B <= 2000):(lds c ws (Ab ws)).Pairwise λ p q=>p.2 <= q.2:=by
  have w2:(DB (Ba ws)).Pairwise λ a b=>Ai a <= Ai b:=by
    have:=List.pairwise_mergeSort (le:=λ a b:Int × Int=>decide (Ai a <= Ai b)) (by intro a b c h1 h2;simp at *;omega) (by intro a b;simp;omega) (Ba ws)
    exact this.imp (by simp)
  have p2:(DB (Ba ws)).Perm (Ba ws):=List.mergeSort_perm ..
  unfold lds Ab
  rw[List.pairwise_map,List.pairwise_map]
  refine w2.imp_of_mem λ {a b} ha hb hab=>?_
  have fa:∀ a ∈ DB (Ba ws),B4 ws a.2.toNat=a.1/\pok a:=λ a ha=>by
    obtain⟨k,hk,rfl⟩:=List.mem_map.mp (p2.mem_iff.mp ha)
    exact⟨rfl,Ga ok hB (by simpa using hk)⟩
  obtain⟨e1,o1⟩:=fa a ha
  obtain⟨e2,o2⟩:=fa b hb
  dsimp only
  rw[e1,e2]
  unfold Ai at hab
  unfold pok at o1 o2
  omega
inductive I_put_out_w(c:Int)(ws:List Wm)(r:List D)(ls:Ls)(hd:Hd):Prop
  | mk (dn rest ns:List Int) (z3:Option D) (h0:Ab ws=dn ++ rest) (h1:r=intD rest) (h2:ls=[some (.im (Ae ws)),some (.im (.int c)),some (.mu 0),z3]) (h3:hd=[.lst (intD ns),.lst (intD (Ab ws))]) (h4:ns.Sublist dn) (h5:inT ws c ns) (h6:(ns.map (lnI ws)).Perm (Mh.moore (lds c ws dn) [])):I_put_out_w c ws r ls hd
theorem P0{c v:Int}{ws:List Wm}(ok:okMs 2000 c ws)(h1:∀ w ∈ ws,w.wt=v):WF FO [.im (Ae ws)] [] λ d x=>∃ ns:List Int,d=.im (.tup [.tup ((Ar ns).map I.int),.tup ((((List.range ws.length).filter λ k:Nat=>decide (¬ (k:Int) ∈ ns)).map λ k:Nat=>(k:Int)).map I.int)])/\ns.Sublist (Ab ws)/\inT ws c ns/\(ns.map (lnI ws)).Perm (Mh.moore (lds c ws (Ab ws)) []):=by
  have hl8:=ok.2.1
  unfold FO
  refine BF rfl ?_
  refine AH (AY (AT (A3 (A0 rfl (AA ⟨by simp,(Jg ok).mono ?_⟩)))))
  rintro d x rfl
  refine⟨_,rfl,AB ?_⟩
  refine AH (CH (AT (A3 (A0 rfl (AA ⟨by simp,(Lk ok h1).mono ?_⟩)))))
  rintro d x rfl
  refine⟨_,rfl,AB ?_⟩
  refine AH (AY (CL (EA (AA ⟨FN,AB ?_⟩))))
  change WS _ [some (.im (Ae ws)),some (.im (.int c)),some (.mu 0),none] [.lst []] _
  refine AH (Ca (Fc (FE (A3 (A0 rfl (AA ⟨[],[.lst []],rfl,rfl,by simp,rfl,(Hy ok (by decide)).mono ?_⟩))))))
  rintro d x ⟨rfl,rfl⟩
  refine⟨0,_,[],_,rfl,Nat.le_refl _,rfl,rfl,rfl,rfl,Cw _ _,1,intD (Ab ws),rfl,rfl,?_⟩
  refine C4 (I_put_out_w c ws) ⟨[],Ab ws,[],none,rfl,rfl,rfl,rfl,.slnil,trivial,.refl _⟩ ?_ ?_
  . rintro d r ls hd ⟨dn,rest,ns,z3,e1,er,rfl,rfl,hsb,hin,pm⟩
    cases rest with
    | nil=>cases er
    | cons i rest=>
      obtain⟨rfl,rfl⟩:=List.cons.inj er
      obtain⟨k,hk,rfl⟩:=E2 (ws:=ws) (i:=i) (by rw[e1];simp)
      have hdl:dn.length < ws.length:=by have:=Cs ws;rw[e1]at this;simp at this;omega
      have hle:ns.length <= dn.length:=hsb.length_le
      have hsub:∀ i ∈ ns,i ∈ dn:=λ i hi=>hsb.subset hi
      have hkn:(k:Int) ∉ ns:=λ z=>by
        have nd:=G0 ws
        rw[e1]at nd
        exact(List.nodup_append.mp nd).2.2 _ (hsub _ z) _ List.mem_cons_self rfl
      have hup:(Mh.moore (lds c ws dn) []) ≠ []->(Mh.moore (lds c ws dn) []).sum <= B4 ws k - c:=by
        have t:=(Mh.table_moore (PQ ok (Ab ws)) (MH ws ok (by decide)) dn.length (by rw[lds,List.length_map,Cs];omega)).2.2 dn.length (Nat.le_refl _) (lnI ws k,B4 ws k - c)
        have e5:(lds c ws (Ab ws)).take dn.length=lds c ws dn:=by rw[lds,e1,<- List.map_take];simp[lds]
        rw[e5]at t
        exact t (by rw[lds,e1,List.getElem?_map,List.getElem?_append_right (Nat.le_refl _)];simp)
      have hmem:∀ i ∈ ns ++ [(k:Int)],∃ k:Nat,k < ws.length/\i=k:=λ i hi=>by
        rcases List.mem_append.mp hi with q|q
        . exact E2 (by rw[e1];exact List.mem_append_left _ (hsub i q))
        . rw[List.mem_singleton]at q;exact⟨k,hk,q⟩
      have srt:=Mh.moore_sorted (lds c ws dn) (A:=[]) .nil
      have eL:lds c ws (dn ++ [(k:Int)])=lds c ws dn ++ [(lnI ws k,B4 ws k - c)]:=by simp[lds]
      have eM:Mh.moore (lds c ws (dn ++ [(k:Int)])) []=Mh.keep (B4 ws k - c) (lnI ws k) (Mh.moore (lds c ws dn) []):=by rw[eL,Mh.moore_snoc]
      have pm1:((ns ++ [(k:Int)]).map (lnI ws)).Perm (Mh.ins (lnI ws k) (Mh.moore (lds c ws dn) [])):=by
        rw[List.map_append]
        refine(List.perm_append_comm).trans ?_
        exact((pm.cons _)).trans (Mh.ins_perm _ _).symm
      have hsum:((ns ++ [(k:Int)]).map (lnI ws)).sum=(Mh.moore (lds c ws dn) []).sum + lnI ws k:=by
        have e2:=O1 pm
        rw[List.map_append,List.sum_append,e2];simp
      refine⟨[some (.im (Ae ws)),some (.im (.int c)),some (.mu 0),some (.im (.int (k:Int)))],rfl,?_⟩
      refine AH (CH (Gg (A0 rfl ⟨⟨_,rfl⟩,A3 (A0 rfl (AA (GK rfl (EV (by simp[intD];omega)) (AB ?_))))⟩)))
      have eh:([MO.lst (intD ns),.lst (intD (Ab ws))]:Hd).set 0 (.lst (intD ns ++ [.im (.int (k:Int))]))=[.lst (intD (ns ++ [(k:Int)])),.lst (intD (Ab ws))]:=by simp[intD]
      rw[eh]
      refine B6 (Ac (A8 (A8 (A0 rfl (Pw (A3 (A0 rfl (A3 (A0 rfl (AA ⟨[.lst (intD (ns ++ [(k:Int)]))],[.lst (intD (Ab ws))],rfl,rfl,by simp[wmI,clD],by simp[clO,Cw,intD],(PP hmem (by simp;omega)).mono ?_⟩))))))))))
      rintro d x ⟨rfl,rfl⟩
      refine⟨_,[.lst (intD (ns ++ [(k:Int)]))],[],rfl,rfl,rfl,by simp[clO,Cw,intD],C3 ?_⟩
      refine A8 (A8 (A8 (A0 rfl (A0 rfl (AL (by rw[Bm,BC]) (Cb hk) (AJ (AL (ds:=[.im (.int (ws[k]).len),.im (.int (ws[k]).com),.im (.tup [.str "miss",.int (ws[k]).due,.int (ws[k]).wt])]) rfl (Ej _ _ _ _) (AJ (AL (ds:=[.im (.str "miss"),.im (.int (ws[k]).due),.im (.int (ws[k]).wt)]) rfl (Cv _ _ _) (JB ⟨_,rfl,λ h=>?_,λ h=>?_⟩))))))))))
      . have h:(Mh.moore (lds c ws dn) []).sum + lnI ws k > B4 ws k - c:=by
          rw[Fu hk,hsum]at h
          have:=of_decide_eq_true h;omega
        obtain⟨i0,is0,e0⟩:∃ i0 is0,ns ++ [(k:Int)]=i0 :: is0:=by
          cases ns with
          | nil=>exact⟨_,_,rfl⟩
          | cons a r=>exact⟨_,_,rfl⟩
        have ks:=Mh.ins_sorted (lnI ws k) srt
        have bm:=J0 (kfD ws) (intD is0) (.im (.int i0))
        obtain⟨b,hb,eb⟩:∃ b,b ∈ ns ++ [(k:Int)]/\EO (λ n m=>decide (n > m)) (intD is0) ((intD is0).map (kfD ws)) (.im (.int i0)) (kfD ws (.im (.int i0)))=.im (.int b):=by
          have h2:EO (λ n m=>decide (n > m)) (intD is0) ((intD is0).map (kfD ws)) (.im (.int i0)) (kfD ws (.im (.int i0))) ∈ intD (i0 :: is0):=bm.1
          obtain⟨b,hb,eb⟩:=List.mem_map.mp h2
          exact⟨b,by rw[e0];exact hb,eb.symm⟩
        have hbm:∀ x ∈ ns ++ [(k:Int)],lnI ws x <= lnI ws b:=λ x hx=>by
          have h3:=bm.2 (.im (.int x)) (by rw[e0]at hx;exact(show D.im (.int x) ∈ intD (i0 :: is0)from List.mem_map.mpr ⟨x,hx,rfl⟩))
          rw[eb]at h3
          exact h3
        refine CH (Gg (A0 rfl ⟨⟨_,rfl⟩,A3 (Px (A0 rfl ⟨.im (.int i0),intD is0,kfD ws,?_,λ y hy=>?_,?_⟩))⟩))
        . show some (intD (ns ++ [(k:Int)]))=_
          rw[e0];rfl
        . obtain⟨x,hx,rfl⟩:=List.mem_map.mp (show y ∈ intD (i0 :: is0)from hy)
          obtain⟨kk,hkk,rfl⟩:=hmem x (by rw[e0];exact hx)
          have w:WE (mOp gIx (mOp gIx (A2 1) (A2 0)) (mC (.int 0))) [some (.im (.int (kk:Int))),some (.im (Ae ws))] [.lst (intD (ns ++ [(k:Int)])),.lst (intD (Ab ws))] λ d x=>d=.im (.int (lnI ws kk))/\x=[.lst (intD (ns ++ [(k:Int)])),.lst (intD (Ab ws))]:=by
            refine A8 (A8 (A0 rfl (A0 rfl (AL (by rw[Bm,BC]) (Cb hkk) (AJ (AL (ds:=[.im (.int (ws[kk]).len),.im (.int (ws[kk]).com),.im (.tup [.str "miss",.int (ws[kk]).due,.int (ws[kk]).wt])]) rfl (GJ _ _) ⟨?_,rfl⟩))))))
            rw[IO hkk];rfl
          obtain⟨d,x,e,rfl,rfl⟩:=w
          exact e
        . rw[eb]
          refine AA (OW (ns:=ns ++ [(k:Int)]) rfl hb ?_)
          rw[era]
          refine⟨by intro q hq;rw[List.mem_singleton]at hq;subst hq;rfl,dn ++ [(k:Int)],rest,(ns ++ [(k:Int)]).erase b,_,by rw[e1];simp,rfl,rfl,rfl,List.erase_sublist.trans (hsb.append (.refl _)),?_,?_⟩
          . have e8:=O1 pm
            by_cases q:b ∈ ns
            . rw[List.erase_append_left _ q]
              refine KB (Tq (S9 ok) List.erase_sublist (Int.le_refl _) hin) ?_
              have e7:=O1 ((List.perm_cons_erase q).map (lnI ws))
              have h9:=hbm (k:Int) (by simp)
              have h10:=hup (λ z=>by rw[z]at pm;have:=pm.length_eq;cases ns with
                | nil=>cases q
                | cons=>simp at this)
              simp only[List.map_cons,List.sum_cons]at e7
              show c + _ + lnI ws k <= B4 ws k
              omega
            . have e9:b=(k:Int):=by
                rcases List.mem_append.mp hb with z|z
                . exact absurd z q
                . simpa using z
              rw[e9,List.erase_append_right _ hkn]
              simpa using hin
          . rw[eM];unfold Mh.keep;rw[if_neg (by omega)];exact Mh.drop_perm ks pm1 hb hbm
      . have h:¬ (Mh.moore (lds c ws dn) []).sum + lnI ws k > B4 ws k - c:=by
          rw[Fu hk,hsum]at h
          have:=of_decide_eq_false h;omega
        refine An ⟨by intro q hq;rw[List.mem_singleton]at hq;subst hq;rfl,dn ++ [(k:Int)],rest,ns ++ [(k:Int)],_,by rw[e1];simp,rfl,rfl,rfl,hsb.append (.refl _),KB hin (by have e8:=O1 pm;show c + _ + lnI ws k <= B4 ws k;omega),?_⟩
        . rw[eM];unfold Mh.keep;rw[if_pos (by omega)];exact pm1
  . rintro ls hd ⟨dn,rest,ns,z3,e1,er,rfl,rfl,hsb,hin,pm⟩
    have:rest=[]:=by cases rest with
      | nil=>rfl
      | cons t r=>cases er
    subst this
    rw[List.append_nil]at e1
    have hdl:dn.length=ws.length:=by rw[<- e1];exact Cs ws
    have hle:=hsb.length_le
    refine AB (B5 (Bb (A3 (DR (HV (Fc (A0 rfl ⟨0,intD ns,rfl,rfl,ns,rfl,by omega,_,rfl,?_⟩)))))))
    refine A3 (DR (Bn (NN (A3 (Cz (A3 (A0 rfl (AA (Cy rfl rfl (AA ⟨(ws.length:Int),by simp,IE (by omega) (by omega),?_⟩))))))))))
    rw[Int.toNat_natCast,Gj]
    refine⟨B7 (by simp[O8];omega),?_⟩
    refine Cc (λ k:Nat=>D.im (.int (k:Int))) (λ k=>if ¬ (k:Int) ∈ ns then some (.im (.int (k:Int)))else none) (λ _ ls=>∃ x,ls=[some x,some (.mu 0)]) _ (Ak _) ?_ ?_
    . rintro k hk' ls hls
      refine⟨[some (.im (.int (k:Int))),some (.mu 0)],by rcases hls with rfl|⟨_,x,rfl⟩ <;> rfl,⟨_,rfl⟩,?_⟩
      refine Ac (A8 (A0 rfl (A0 rfl (OY (xs:=ns) rfl ⟨_,rfl,rfl,?_⟩))))
      by_cases q:(k:Int) ∈ ns
      . rw[if_neg (by simp[q])]
        exact if_neg (λ z=>z q)
      . rw[if_pos (by simp[q])]
        exact⟨_,if_pos q,A0 rfl ⟨rfl,rfl⟩⟩
    have ei:((List.range ws.length).filterMap λ k:Nat=>if ¬ (k:Int) ∈ ns then some (D.im (.int (k:Int)))else none)=intD (((List.range ws.length).filter λ k:Nat=>decide (¬ (k:Int) ∈ ns)).map λ k:Nat=>(k:Int)):=by
      generalize List.range ws.length=L
      induction L with
      | nil=>rfl
      | cons x r ih=>
        rw[List.filterMap_cons,List.filter_cons]
        by_cases h:(x:Int) ∈ ns
        . simp[h]at ih ⊢;exact ih
        . simp[h,intD]at ih ⊢;exact ih
    rw[ei]
    have mi:∀ L:List Int,B1 (intD L)=.im (.tup (L.map I.int)):=λ L=>by
      have:intD L=(L.map I.int).map D.im:=by simp[intD]
      rw[this,DG]
    refine⟨_,rfl,AA ⟨MD,?_⟩⟩
    rw[mi,mi,TZ]
    exact⟨ns,rfl,by rw[e1];exact hsb,hin,by rw[e1];exact pm⟩
noncomputable abbrev C7(ks:List Int):D:=.im (.tup (ks.map I.int))
theorem Kp(ks:List Int):(ks.map I.int).map D.im=intD ks:=by simp[intD]
noncomputable def wtd(v:Int)(ws:List Wm):List Wm:=ws.map λ w=>⟨w.len,w.com,w.due,v⟩
theorem OU{B c v:Int}{ws:List Wm}(ok:okMs B c ws)(h0:0 <= v)(h9:v <= 9):okMs B c (wtd v ws):=by
  refine⟨λ z=>ok.1 (List.map_eq_nil_iff.mp z),by rw[wtd,List.length_map];exact ok.2.1,ok.2.2.1,λ w hw=>?_⟩
  obtain⟨u,hu,rfl⟩:=List.mem_map.mp hw
  have:=ok.2.2.2 u hu
  exact⟨this.1,this.2.1,this.2.2.1,h0,h9⟩
theorem OT{v:Int}{ws:List Wm}:∀ w ∈ wtd v ws,w.wt=v:=λ w hw=>by
  obtain⟨u,hu,rfl⟩:=List.mem_map.mp hw
  rfl
theorem JC{B c v:Int}{ws:List Wm}(ok:okMs B c ws):WF E7 [.im (Ae ws),.im (.int v)] [] λ d x=>d=.im (Ae (wtd v ws)):=by
  have hl8:=ok.2.1
  unfold E7
  refine BF rfl ?_
  refine B5 (DR (Bn (Ec (A0 rfl ⟨_,rfl,?_⟩))))
  rw[BC]
  refine⟨B7 (by simp;omega),?_⟩
  refine Cc wmD (λ w=>some (wmD ⟨w.len,w.com,w.due,v⟩)) (λ _ ls=>∃ x y z,ls=[some x,some y,some z,some (.im (.int v))]) _ (Ak _) ?_ ?_
  . rintro w hw ls hls
    refine⟨[some (.im (.int w.len)),some (.im (.int w.com)),some (.im (.tup [.str "miss",.int w.due,.int w.wt])),some (.im (.int v))],by rcases hls with rfl|⟨_,x,y,z,rfl⟩ <;> rfl,⟨_,_,_,rfl⟩,Dc ⟨rfl,?_⟩⟩
    rw[if_pos rfl]
    exact⟨_,rfl,Bb (A3 (A0 rfl (A3 (A0 rfl (A3 (Bb (A3 (AJ (A3 (A8 (A0 rfl (AJ (AL (ds:=[.im (.str "miss"),.im (.int w.due),.im (.int w.wt)]) rfl (Cv _ _ _) (A3 (A0 rfl (AA ⟨EI,AA ⟨EI,rfl,rfl⟩⟩))))))))))))))))⟩
  have e:(ws.filterMap λ w=>some (wmD ⟨w.len,w.com,w.due,v⟩))=((wtd v ws).map wmI).map D.im:=by simp[wtd]
  rw[e]
  refine⟨_,rfl,?_⟩
  rw[DG]
inductive I_is_set_w(n:Int)(ks:List Int)(r:List D)(ls:Ls)(hd:Hd):Prop
  | mk (dn rest:List Int) (z2 z3:Option D) (h0:ks=dn ++ rest) (h1:r=((intD rest).zipIdx dn.length).map enD) (h2:ls=[some (.im (.int n)),some (C7 ks),z2,z3]) (h3:hd=[]):I_is_set_w n ks r ls hd
theorem M4{n:Int}{ks:List Int}(hl:ks.length <= 100)(hb:∀ k ∈ ks,0 <= k/\k < n)(hs:ks.Pairwise (· < ·)):WF Ez [.im (.int n),C7 ks] [] λ d x=>d=.im (.bl true):=by
  unfold Ez
  refine BF rfl ?_
  refine AH (B6 (Dd (C2 (Fd (A0 rfl ⟨true,rfl,_,rfl,(λ h=>by cases h),λ _=>An (AB ?_)⟩)))))
  refine AH (Ca (EW (Ec (A0 rfl ⟨intD ks,by rw[<- Kp];rfl,?_⟩))))
  change WP (By _ _ _ (((intD ks).zipIdx 0).map enD) [some (.im (.int n)),some (C7 ks),none,none] []) _
  refine C4 (I_is_set_w n ks) ⟨[],ks,none,none,rfl,rfl,rfl,rfl⟩ ?_ ?_
  . rintro d r ls hd ⟨dn,rest,z2,z3,e1,er,rfl,rfl⟩
    cases rest with
    | nil=>cases er
    | cons i rest=>
      rw[show intD (i :: rest)=.im (.int i) :: intD rest from rfl,List.zipIdx_cons,List.map_cons]at er
      obtain⟨rfl,rfl⟩:=List.cons.inj er
      obtain⟨b0,b1⟩:=hb i (by rw[e1];simp)
      refine⟨[some (.im (.int n)),some (C7 ks),some (.im (.int (dn.length:Int))),some (.im (.int i))],rfl,?_⟩
      refine B6 (FT (Dd (C2 (Fd (A0 rfl ⟨true,rfl,_,rfl,?_⟩)))))
      rw[if_neg (by simp)]
      refine FT (C2 (Fd (A0 rfl ⟨false,rfl,_,rfl,?_⟩)))
      rw[if_neg (by simp)]
      refine FT (Ac (A8 (A0 rfl (AJ (NL ⟨_,rfl,?_⟩)))))
      rw[if_neg (by simpa using b0)]
      refine FT (Ac (A8 (A0 rfl (A0 rfl (Rn ⟨_,rfl,?_⟩)))))
      rw[if_neg (by simpa using b1)]
      refine JA (Ac (A8 (A0 rfl (AJ (JB ⟨_,rfl,?_⟩)))))
      by_cases q:dn=[]
      . subst q
        rw[if_neg (by simp)]
        exact⟨(λ h=>by cases h),λ _=>An ⟨Ak _,[i],rest,_,_,e1,by simp,rfl,rfl⟩⟩
      . obtain⟨dn',j,rfl⟩:∃ dn' j,dn=dn' ++ [j]:=⟨dn.dropLast,dn.getLast q,(List.dropLast_concat_getLast q).symm⟩
        rw[if_pos (by simp)]
        have hlt:j < i:=by
          rw[e1]at hs
          exact(List.pairwise_append.mp hs).2.2 j (by simp) i (by simp)
        refine Ac (A8 (A8 (A0 rfl (A8 (A0 rfl (AJ (E9 (AL (e:=.im (.int j)) rfl ?_ (A0 rfl (Rn ⟨_,rfl,(λ h=>?_),λ _=>An ⟨Ak _,(dn' ++ [j]) ++ [i],rest,_,_,by rw[e1];simp,by simp,rfl,rfl⟩⟩))))))))))
        . exact KK (show((dn' ++ [j]).length:Int) - 1=(dn'.length:Int) by simp) (by rw[e1];simp)
        . have:=of_decide_eq_true h
          omega
  . rintro ls hd ⟨dn,rest,z2,z3,e1,er,rfl,rfl⟩
    exact AB (B5 (AJ rfl))
theorem MF:∀ {L M:List Int},L.Nodup->M.Sublist L->L.filter (λ i=>decide (i ∈ M))=M:=by
  intro L M nd s
  induction s with
  | slnil=>rfl
  | cons a s ih=>
    obtain⟨h1,h2⟩:=List.nodup_cons.mp nd
    rw[List.filter_cons,if_neg (by simpa using λ z=>h1 (s.subset z))]
    exact ih h2
  | cons_cons a s ih=>
    rename_i M L
    obtain⟨h1,h2⟩:=List.nodup_cons.mp nd
    rw[List.filter_cons,if_pos (by simp)]
    congr 1
    refine Eq.trans (List.filter_congr λ x hx=>?_) (ih h2)
    have:x ≠ a:=λ z=>h1 (z ▸ hx)
    simp[this]
inductive I_end_w(ws:List Wm)(ns:List Int)(r:List D)(ls:Ls)(hd:Hd):Prop
  | mk (dn rest:List Int) (e:Int) (z3:Option D) (h0:Ab ws=dn ++ rest) (h1:r=intD rest) (h2:ls=[some (.im (Ae ws)),some (C7 (Ar ns)),some (.im (.int e)),z3]) (h3:hd=[.lst (intD (Ab ws))]) (h4:inT ws e (rest.filter λ i=>decide (i ∈ ns))):I_end_w ws ns r ls hd
theorem WW{c:Int}{ws:List Wm}(ok:okMs 2000 c ws){ns:List Int}(hs:ns.Sublist (Ab ws))(hin:inT ws c ns):WF DU [.im (Ae ws),C7 (Ar ns)] [] λ d x=>∃ e:Int,d=.im (.int e):=by
  obtain⟨hne,hl8,hc,hws⟩:=id ok
  have hl0:0 < ws.length:=CK hne
  have e0:(ws[0]).com=c:=(hws _ (List.getElem_mem hl0)).2.1
  unfold DU
  refine BF rfl ?_
  refine AH (AY (A8 (A8 (A0 rfl (AJ (AL (by rw[Bm,BC]) (Cb (k:=0) hl0) ?_))))))
  refine AJ (AL (ds:=[.im (.int (ws[0]).len),.im (.int (ws[0]).com),.im (.tup [.str "miss",.int (ws[0]).due,.int (ws[0]).wt])]) rfl (Cv _ _ _) (AB ?_))
  rw[e0]
  change WS _ [some (.im (Ae ws)),some (C7 (Ar ns)),some (.im (.int c)),none] [] _
  refine AH (Ca (Fc (FE (A3 (A0 rfl (AA ⟨[],[],rfl,rfl,by simp,rfl,(Jf ok (by decide)).mono ?_⟩))))))
  rintro d x ⟨rfl,rfl⟩
  refine⟨0,_,[],_,rfl,Nat.le_refl _,rfl,rfl,rfl,rfl,Cw _ _,0,intD (Ab ws),rfl,rfl,?_⟩
  have hin0:inT ws c ((Ab ws).filter λ i=>decide (i ∈ ns)):=by rw[MF (G0 ws) hs];exact hin
  refine C4 (I_end_w ws ns) ⟨[],Ab ws,c,none,rfl,rfl,rfl,rfl,hin0⟩ ?_ ?_
  . rintro d r ls hd ⟨dn,rest,e,z3,e1,er,rfl,rfl,hi⟩
    cases rest with
    | nil=>cases er
    | cons i rest=>
      obtain⟨rfl,rfl⟩:=List.cons.inj er
      obtain⟨k,hk,rfl⟩:=E2 (ws:=ws) (i:=i) (by rw[e1];simp)
      have G:GOk [MO.lst (intD (Ab ws))] [(0,intD (Ab ws))]:=by intro q hq;rw[List.mem_singleton]at hq;subst hq;rfl
      refine⟨[some (.im (Ae ws)),some (C7 (Ar ns)),some (.im (.int e)),some (.im (.int (k:Int)))],rfl,?_⟩
      refine B6 (Ac (A8 (A0 rfl (A0 rfl (OY (xs:=Ar ns) (by rw[Bm,Kp]) ⟨_,rfl,λ h=>?_,λ h=>?_⟩)))))
      . have h:(k:Int) ∈ ns:=by
          have:=of_decide_eq_true h
          exact(BN ns).mem_iff.mp this
        rw[List.filter_cons,if_pos (by simpa using h)]at hi
        refine AH (AY (A8 (A0 rfl (A8 (A8 (A0 rfl (A0 rfl (AL (by rw[Bm,BC]) (Cb hk) (AJ (AL (ds:=[.im (.int (ws[k]).len),.im (.int (ws[k]).com),.im (.tup [.str "miss",.int (ws[k]).due,.int (ws[k]).wt])]) rfl (GJ _ _) (C3 (AB ?_))))))))))))
        refine B6 (Ac (A8 (A0 rfl (A8 (A8 (A8 (A0 rfl (A0 rfl (AL (by rw[Bm,BC]) (Cb hk) (AJ (AL (ds:=[.im (.int (ws[k]).len),.im (.int (ws[k]).com),.im (.tup [.str "miss",.int (ws[k]).due,.int (ws[k]).wt])]) rfl (Ej _ _ _ _) (AJ (AL (ds:=[.im (.str "miss"),.im (.int (ws[k]).due),.im (.int (ws[k]).wt)]) rfl (Cv _ _ _) (JB ⟨_,rfl,(λ h=>?_),λ _=>An ⟨G,dn ++ [(k:Int)],rest,e + lnI ws k,some (.im (.int (k:Int))),by rw[e1];simp,rfl,by rw[IO hk];rfl,rfl,hi.2⟩⟩))))))))))))))
        . have h:=of_decide_eq_true h
          have h1:e + lnI ws k <= B4 ws k:=hi.1
          rw[Fu hk,IO hk]at h
          have:lnI ws (k:Int)=GF ws k:=rfl
          omega
      . have h:(k:Int) ∉ ns:=λ z=>by
          have:=of_decide_eq_false h
          exact this ((BN ns).mem_iff.mpr z)
        rw[List.filter_cons,if_neg (by simpa using h)]at hi
        exact An ⟨G,dn ++ [(k:Int)],rest,e,_,by rw[e1];simp,rfl,rfl,rfl,hi⟩
  . rintro ls hd ⟨dn,rest,e,z3,e1,er,rfl,rfl,hi⟩
    exact AB (B5 (A0 rfl ⟨e,rfl⟩))
open Lt (IsMin comb behind B8 sel AM Wx)
theorem RK(x:Int):WF EL [.im (.int x)] [] λ d _=>d=.im (.bl true):=by
  unfold EL
  refine BF rfl ?_
  refine B5 (Jr (Ac (Fd (A0 rfl ⟨true,rfl,_,rfl,?_⟩))))
  rw[if_pos rfl]
  exact SJ (Ac (Fd (A0 rfl ⟨false,rfl,_,rfl,rfl⟩)))
theorem Mn{n:Int}{is:List I}(h:(is.length:Int)=n):WF CZ [.im (.int n),.im (.tup is)] [] λ d _=>d=.im (.bl true):=by
  unfold CZ
  refine BF rfl ?_
  refine B5 (Jr (Ac (Fd (A0 rfl ⟨true,rfl,_,rfl,?_⟩))))
  rw[if_pos rfl]
  refine A8 (Cz (A3 (A0 rfl (AA (Cy rfl rfl (A0 rfl (Eb ?_)))))))
  simp[h]
inductive I_shape_w(ws:List Wm)(n N:Nat)(f:Nat->Nat->Option Int)(r:List D)(ls:Ls)(hd:Hd):Prop
  | mk (dn rest:List Nat) (z4 z5 z6 z7:Option D) (h0:List.range (n + 1)=dn ++ rest) (h1:r=((rest.map λ k=>D.im (B0 N (f k))).zipIdx dn.length).map enD) (h2:ls=[some (.im (Ae ws)),some (.im (E8 n N f)),some (.im (.tup [])),some (.im (.int (N:Int))),z4,z5,z6,z7]) (h3:hd=[]):I_shape_w ws n N f r ls hd
theorem SQ{B c:Int}{ws:List Wm}(ok:okMs B c ws){n N:Nat}(hn:n=ws.length)(hN:(N:Int)=BS ws + 1)(f:Nat->Nat->Option Int):WF Ck [.im (Ae ws),.im (E8 n N f),.im (.tup [])] [] λ d x=>d=.im .non:=by
  unfold Ck
  refine BF rfl ?_
  refine AH (B6 (Dd (C2 (AT (A3 (A8 (Cz (A3 (A0 rfl (AA (Cy rfl rfl (AJ (C3 (A3 (A0 rfl (AA ⟨by simp,(Mn (by simp[hn])).mono ?_⟩))))))))))))))) )
  rintro d x rfl
  refine⟨_,rfl,_,rfl,(λ h=>by cases h),λ _=>An (AB ?_)⟩
  refine AH (AY (A8 (AT (A3 (A0 rfl (AA ⟨by simp,(MB ok).mono ?_⟩))))))
  rintro d x rfl
  refine⟨_,rfl,AJ (C3 (AB ?_))⟩
  rw[<- hN]
  refine Ca (EW (Ec (A0 rfl ⟨(List.range (n + 1)).map λ k=>D.im (B0 N (f k)),by simp[E8],?_⟩)))
  change WP (By _ _ _ ((((List.range (n + 1)).map λ k=>D.im (B0 N (f k))).zipIdx 0).map enD) [some (.im (Ae ws)),some (.im (E8 n N f)),some (.im (.tup [])),some (.im (.int (N:Int))),none,none,none,none] []) _
  refine C4 (I_shape_w ws n N f) ⟨[],_,none,none,none,none,rfl,rfl,rfl,rfl⟩ ?_ ?_
  . rintro d r ls hd ⟨dn,rest,z4,z5,z6,z7,e1,er,rfl,rfl⟩
    cases rest with
    | nil=>cases er
    | cons k rest=>
      rw[List.map_cons,List.zipIdx_cons,List.map_cons]at er
      obtain⟨rfl,rfl⟩:=List.cons.inj er
      refine⟨[some (.im (Ae ws)),some (.im (E8 n N f)),some (.im (.tup [])),some (.im (.int (N:Int))),some (.im (.int (dn.length:Int))),some (.im (B0 N (f k))),z6,z7],rfl,?_⟩
      refine AH (B6 (Dd (C2 (AT (A3 (A0 rfl (A3 (A0 rfl (AA ⟨by simp[B0],(Mn (by simp)).mono ?_⟩)))))))))
      rintro d x rfl
      refine⟨_,rfl,_,rfl,(λ h=>by cases h),λ _=>An (AB ?_)⟩
      refine Ca (EW (Ec (A0 rfl ⟨(List.range N).map λ w=>BW (f k w),by simp[B0],?_⟩)))
      change WP (By _ _ _ ((((List.range N).map λ w=>BW (f k w)).zipIdx 0).map enD) _ []) _
      refine C4 (λ r ls hd=>∃ (dn' rest':List Nat) (z6 z7:Option D),r=((rest'.map λ w=>BW (f k w)).zipIdx dn'.length).map enD/\ls=[some (.im (Ae ws)),some (.im (E8 n N f)),some (.im (.tup [])),some (.im (.int (N:Int))),some (.im (.int (dn.length:Int))),some (.im (B0 N (f k))),z6,z7]/\hd=[]) ⟨[],_,z6,z7,rfl,rfl,rfl⟩ ?_ ?_
      . rintro d r ls hd ⟨dn',rest',z6,z7,er,rfl,rfl⟩
        cases rest' with
        | nil=>cases er
        | cons w rest'=>
          rw[List.map_cons,List.zipIdx_cons,List.map_cons]at er
          obtain⟨rfl,rfl⟩:=List.cons.inj er
          have fin:∀ r',r'=((rest'.map λ w=>BW (f k w)).zipIdx (dn'.length + 1)).map enD->∃ (dn'' rest'':List Nat) (y6 y7:Option D),r'=((rest''.map λ w=>BW (f k w)).zipIdx dn''.length).map enD/\[some (D.im (Ae ws)),some (.im (E8 n N f)),some (.im (.tup [])),some (.im (.int (N:Int))),some (.im (.int (dn.length:Int))),some (.im (B0 N (f k))),some (.im (.int (dn'.length:Int))),some (BW (f k w))]=[some (.im (Ae ws)),some (.im (E8 n N f)),some (.im (.tup [])),some (.im (.int (N:Int))),some (.im (.int (dn.length:Int))),some (.im (B0 N (f k))),y6,y7]/\([]:Hd)=[]:=λ r' e=>⟨dn' ++ [w],rest',_,_,by rw[e];simp,rfl,rfl⟩
          refine⟨[some (.im (Ae ws)),some (.im (E8 n N f)),some (.im (.tup [])),some (.im (.int (N:Int))),some (.im (.int (dn.length:Int))),some (.im (B0 N (f k))),some (.im (.int (dn'.length:Int))),some (BW (f k w))],rfl,?_⟩
          refine B6 (JA (Ac (GL (A0 rfl ⟨f k w,rfl,_,rfl,?_⟩))))
          cases hx:f k w with
          | none=>
            rw[if_neg (by simp)]
            rw[hx]at fin
            exact⟨(λ h=>by cases h),λ _=>An ⟨Ak _,fin _ rfl⟩⟩
          | some x=>
            rw[if_pos (by simp)]
            rw[hx]at fin
            refine Dd (C2 (AT (A3 (A0 rfl (AA ⟨by simp[FQ],(RK x).mono ?_⟩)))))
            rintro d x rfl
            exact⟨_,rfl,_,rfl,(λ h=>by cases h),λ _=>An ⟨Ak _,fin _ rfl⟩⟩
      . rintro ls hd ⟨dn',rest',z6,z7,er,rfl,rfl⟩
        exact⟨Ak _,dn ++ [k],rest,_,_,_,_,by rw[e1];simp,by simp,rfl,rfl⟩
  . rintro ls hd ⟨dn,rest,z4,z5,z6,z7,e1,er,rfl,rfl⟩
    rfl
theorem Wu(a b:Option Int):nm (comb a b) a=true:=by
  cases a with
  | none=>cases b <;> rfl
  | some x=>cases b with
    | none=>simp[comb,nm]
    | some y=>
      by_cases h:x <= y
      . simp[comb,h,nm]
      . simp[comb,h,nm];omega
theorem Wt(a b:Option Int):nm (comb a b) b=true:=by
  cases b with
  | none=>cases a <;> rfl
  | some y=>cases a with
    | none=>simp[comb,nm]
    | some x=>
      by_cases h:x <= y
      . simp[comb,h,nm]
      . simp[comb,h,nm]
inductive I_look_row_w(p:Wm)(N:Nat)(f:Nat->Option Int)(i:I)(r:List D)(ls:Ls)(hd:Hd):Prop
  | mk (j:Nat) (z4 z5:Option D) (h0:j <= N) (h1:r=(((List.range' j (N - j)).map λ w=>BW (B8 (wx p) f w)).zipIdx j).map enD) (h2:ls=[some (wmD p),some (.im (B0 N f)),some (.im (B0 N (B8 (wx p) f))),some (.im i),z4,z5]) (h3:hd=[]):I_look_row_w p N f i r ls hd
theorem OA{B c:Int}{p:Wm}(ok:okM B c p){N:Nat}(hN:N <= 100)(f:Nat->Option Int){i:I}:WF DT [wmD p,.im (B0 N f),.im (B0 N (B8 (wx p) f)),.im i] [] λ d x=>d=.im .non:=by
  unfold DT
  refine BF rfl ?_
  refine Ca (EW (Ec (A0 rfl ⟨(List.range' 0 (N - 0)).map λ w=>BW (B8 (wx p) f w),by rw[Nat.sub_zero,<- List.range_eq_range'];simp[B0],?_⟩)))
  change WP (By _ _ _ ((((List.range' 0 (N - 0)).map λ w=>BW (B8 (wx p) f w)).zipIdx 0).map enD) [some (wmD p),some (.im (B0 N f)),some (.im (B0 N (B8 (wx p) f))),some (.im i),none,none] []) _
  refine C4 (I_look_row_w p N f i) ⟨0,none,none,by omega,rfl,rfl,rfl⟩ ?_ ?_
  . rintro d r ls hd ⟨j,z4,z5,hj,er,rfl,rfl⟩
    obtain⟨m,hm⟩:∃ m,N - j=m + 1:=by
      cases q:N - j with
      | zero=>rw[q]at er;cases er
      | succ m=>exact⟨m,rfl⟩
    rw[hm,List.range'_succ,List.map_cons,List.zipIdx_cons,List.map_cons]at er
    obtain⟨rfl,rfl⟩:=List.cons.inj er
    refine⟨[some (wmD p),some (.im (B0 N f)),some (.im (B0 N (B8 (wx p) f))),some (.im i),some (.im (.int (j:Int))),some (BW (B8 (wx p) f j))],rfl,?_⟩
    refine AH (B6 (Dd (C2 (AT (A3 (A0 rfl (A3 (A8 (A0 rfl (A0 rfl (AL rfl (JI (by omega)) (AA ⟨by simp,(G4 _ _).mono ?_⟩))))))))))))
    rintro d x rfl
    refine⟨_,rfl,_,rfl,(λ h=>?_),λ _=>An (AB ?_)⟩
    . rw[B8,Wu]at h;cases h
    refine B6 (Dd (C2 (AT (A3 (A0 rfl (A3 (AT (A3 (A0 rfl (A3 (A0 rfl (A3 (A0 rfl (AA ⟨by simp[wmI,B0],(S3 ok f (by omega)).mono ?_⟩))))))))))))))
    rintro d x rfl
    refine⟨_,rfl,AA ⟨by simp,(G4 _ _).mono ?_⟩⟩
    rintro d x rfl
    refine⟨_,rfl,_,rfl,(λ h=>?_),λ _=>An ⟨Ak _,j + 1,_,_,by omega,by rw[show N - (j + 1)=m by omega],rfl,rfl⟩⟩
    rw[B8,Wt]at h;cases h
  . rintro ls hd ⟨j,z4,z5,hj,er,rfl,rfl⟩
    rfl
theorem Ml{is js:List I}{hd:Hd}{QE:D->Hd->Prop}(h1:is.length + js.length <= 100)(q:QE (.im (.tup (is ++ js))) hd):WP (ON (.im (.tup is)) (.im (.tup js)) hd) QE:=by
  by_cases h0:is=[]
  . subst h0
    refine WP.eq (z:=.im (.tup js)) (h:=hd) ?_ q
    show(match BA (.im (.tup [])) (.im (.tup js)) hd with|some z=>some z|none=>IT (.im (.tup [])) (.im (.tup js)) hd)=_
    have e:BA (.im (.tup [])) (.im (.tup js)) hd=none:=by
      show(match KD (.im (.tup [])) (.im (.tup js)) hd with|some z=>some z|none=>HB (.im (.tup [])) (.im (.tup js)) hd)=_
      rw[show KD (.im (.tup [])) (.im (.tup js)) hd=none from rfl]
      unfold HB
      rw[show Ap (.im (.tup []))=some []from rfl,show Ap (.im (.tup js))=some (js.map D.im)from rfl,Option.bind_some,Option.bind_some,if_neg (λ z=>z.1 rfl)]
    rw[e]
    unfold IT
    rw[show Ap (.im (.tup []))=some []from rfl,show Ap (.im (.tup js))=some (js.map D.im)from rfl,Option.bind_some,Option.bind_some,if_pos rfl,DG]
  . obtain⟨d,x,e,q⟩:=Mm (QE:=QE) h0 h1 q
    refine⟨d,x,?_,q⟩
    show(match BA (.im (.tup is)) (.im (.tup js)) hd with|some z=>some z|none=>IT (.im (.tup is)) (.im (.tup js)) hd)=_
    rw[e]
theorem LF{n N:Nat}{f:Nat->Nat->Option Int}{k:Nat}(hk:k < n + 1):atI (((List.range (n + 1)).map λ k=>B0 N (f k)).map D.im) (k:Int)=some (.im (B0 N (f k))):=KK rfl (by simp[hk])
inductive I_places_w(c:Int)(ws:List Wm)(N:Nat)(r:List D)(ls:Ls)(hd:Hd):Prop
  | mk (dn rest:List Int) (z3 z4:Option D) (h0:Ab ws=dn ++ rest) (h1:r=((intD rest).zipIdx dn.length).map (λ q=>B1 [.im (.int ((q.2:Int) + 1)),q.1])) (h2:ls=[some (.im (Ae ws)),some (.im (E8 ws.length N (fT c (wxs ws)))),some (.im (.tup [])),z3,z4]) (h3:hd=[.lst (intD (Ab ws))]):I_places_w c ws N r ls hd
theorem Qu{B c:Int}{ws:List Wm}(ok:okMs B c ws)(hB:B <= 2000){N:Nat}(hN:N <= 100)(h0:0 < N):WF CV [.im (Ae ws),.im (E8 ws.length N (fT c (wxs ws))),.im (.tup [])] [] λ d x=>d=.im .non:=by
  have hl8:=ok.2.1
  unfold CV
  refine BF rfl ?_
  refine AH (B6 (Dd (C2 (AT (A3 (A8 (A8 (A0 rfl (AJ (AL rfl (LF (k:=0) (by omega)) (AJ (AL rfl (JI (w:=0) h0) (A3 (AT (A3 (A0 rfl (AA ⟨by simp,(Jg ok).mono ?_⟩)))))))))))))))))
  rintro d x rfl
  refine⟨_,rfl,AA ⟨by simp,(G4 (fT c (wxs ws) 0 0) (some c)).mono ?_⟩⟩
  rintro d x rfl
  refine⟨_,rfl,_,rfl,(λ h=>?_),λ _=>An (AB ?_)⟩
  . simp[fT,nm]at h
  refine Ca (Pu (Fc (FE (A3 (A0 rfl (AA ⟨[],[],rfl,rfl,by simp,rfl,(Hy ok hB).mono ?_⟩))))))
  rintro d x ⟨rfl,rfl⟩
  refine⟨0,_,[],_,rfl,Nat.le_refl _,rfl,rfl,rfl,rfl,Cw _ _,0,intD (Ab ws),rfl,rfl,?_⟩
  refine C4 (I_places_w c ws N) ⟨[],Ab ws,none,none,rfl,rfl,rfl,rfl⟩ ?_ ?_
  . rintro d r ls hd ⟨dn,rest,z3,z4,e1,er,rfl,rfl⟩
    cases rest with
    | nil=>cases er
    | cons i rest=>
      rw[show intD (i :: rest)=.im (.int i) :: intD rest from rfl,List.zipIdx_cons,List.map_cons]at er
      obtain⟨rfl,rfl⟩:=List.cons.inj er
      obtain⟨k,hk,rfl⟩:=E2 (ws:=ws) (i:=i) (by rw[e1];simp)
      have hle:dn.length < ws.length:=by have:=Cs ws;rw[e1]at this;simp at this;omega
      have ex:(wxs ws)[dn.length]? = some (wx ws[k]):=by
        unfold wxs
        rw[e1,List.getElem?_map,List.getElem?_append_right (Nat.le_refl _)]
        simp[hk]
      have e2:B8 (wx ws[k]) (fT c (wxs ws) dn.length)=fT c (wxs ws) (dn.length + 1):=by
        funext w
        rw[fT,ex]
      refine⟨[some (.im (Ae ws)),some (.im (E8 ws.length N (fT c (wxs ws)))),some (.im (.tup [])),some (.im (.int ((dn.length:Int) + 1))),some (.im (.int (k:Int)))],rfl,?_⟩
      refine CH (AT (A3 (A8 (A0 rfl (A0 rfl (AL (by rw[Bm,BC]) (Cb hk) (A3 (A8 (A0 rfl (A8 (A0 rfl (AJ (E9 ?_)))))))))))))
      rw[show(dn.length:Int) + 1 - 1=(dn.length:Int) by omega]
      refine AL rfl (LF (by omega)) (A3 (A8 (A0 rfl (A0 rfl ?_))))
      rw[show(dn.length:Int) + 1=((dn.length + 1:Nat):Int) by omega]
      refine AL rfl (LF (by omega)) (A3 (A8 (A0 rfl (Bb (A3 (A0 rfl (AA ⟨GZ,?_⟩)))))))
      rw[N7]
      refine Ml (by simp) (AA ⟨by simp[wmI,B0],?_⟩)
      rw[<- e2]
      refine(OA (ok.2.2.2 _ (List.getElem_mem hk)) hN _).mono ?_
      rintro d x rfl
      exact⟨_,rfl,by intro q hq;rw[List.mem_singleton]at hq;subst hq;rfl,dn ++ [(k:Int)],rest,_,_,by rw[e1];simp,by simp,rfl,rfl⟩
  . rintro ls hd ⟨dn,rest,z3,z4,e1,er,rfl,rfl⟩
    rfl
theorem OJ{n N m:Nat}{f:Nat->Nat->Option Int}(hN:N <= 100)(hm:m < N)(h1:(f n m).isSome=true)(h2:∀ w,(f n w).isSome=true->w <= m):WF C6 [.im (E8 n N f)] [] λ d x=>d=.im (.int (m:Int)):=by
  unfold C6
  refine BF rfl ?_
  refine B5 (DR (Bn (EW (Ec (A8 (A0 rfl (L3 (AJ ⟨_,rfl,AL rfl (e:=.im (B0 N (f n))) ?_ ⟨(List.range N).map λ w=>BW (f n w),by simp[B0],?_⟩⟩))))))))
  . rw[List.map_map,List.range_succ,List.map_append]
    exact MV _ _
  have ez:(((List.range N).map λ w=>BW (f n w)).zipIdx.map λ q=>B1 [.im (.int (q.2:Int)),q.1])=(List.range N).map λ w:Nat=>D.im (.tup [.int (w:Int),FQ (f n w)]):=by
    refine List.ext_getElem (by simp) λ i a b=>?_
    simp
  rw[ez]
  refine⟨B7 (by simp;omega),?_⟩
  refine Cc (λ w:Nat=>D.im (.tup [.int (w:Int),FQ (f n w)])) (λ w=>if(f n w).isSome=true then some (.im (.int (w:Int)))else none) (λ _ ls=>∃ x y,ls=[some x,some y]) _ (Ak _) ?_ ?_
  . rintro w hw ls hls
    refine⟨[some (.im (.int (w:Int))),some (BW (f n w))],by rcases hls with rfl|⟨_,x,y,rfl⟩ <;> rfl,⟨_,_,rfl⟩,?_⟩
    refine Ac (GL (A0 rfl ⟨f n w,rfl,_,rfl,rfl,?_⟩))
    cases hx:f n w with
    | none=>
      rw[if_neg (by simp)]
      exact if_neg (by simp)
    | some x=>
      rw[if_pos (by simp)]
      exact⟨_,if_pos (by simp),A0 rfl ⟨rfl,rfl⟩⟩
  have ei:((List.range N).filterMap λ w:Nat=>if(f n w).isSome=true then some (D.im (.int (w:Int)))else none)=intD (((List.range N).filter λ w:Nat=>(f n w).isSome).map λ w:Nat=>(w:Int)):=by
    generalize List.range N=L
    induction L with
    | nil=>rfl
    | cons x r ih=>
      rw[List.filterMap_cons,List.filter_cons]
      by_cases h:(f n x).isSome=true
      . simp[h,intD]at ih ⊢;exact ih
      . simp[h,intD]at ih ⊢;exact ih
  rw[ei]
  have hmm:(m:Int) ∈ ((List.range N).filter λ w:Nat=>(f n w).isSome).map λ w:Nat=>(w:Int):=List.mem_map.mpr ⟨m,List.mem_filter.mpr ⟨by simpa using hm,h1⟩,rfl⟩
  have hne:=List.ne_nil_of_mem hmm
  refine⟨_,by unfold M1;rw[Dv,Option.bind_some,if_neg hne],?_⟩
  have ms:=G6 hne
  obtain⟨w,hw,ew⟩:=List.mem_map.mp ms.1
  have h3:=ms.2 _ hmm
  have h4:=h2 w (List.mem_filter.mp hw).2
  have:GC (((List.range N).filter λ w:Nat=>(f n w).isSome).map λ w:Nat=>(w:Int))=(m:Int):=by omega
  rw[this]
theorem VE{B c:Int}{ws:List Wm}(ok:okMs B c ws)(hB:B <= 2000){m:Nat}(hm:m <= (BS ws).toNat)(h1:(fT c (wxs ws) ws.length m).isSome=true)(h2:∀ w,(fT c (wxs ws) ws.length w).isSome=true->w <= m):WF Dy [.im (Ae ws),.im (E8 ws.length ((BS ws).toNat + 1) (fT c (wxs ws)))] [] λ d x=>d=.im (.int (BS ws - m)):=by
  have hf:=KF ok
  have hcl:∀ f:Nat->Nat->Option Int,BQ 0 [D.im (Ae ws),.im (E8 ws.length ((BS ws).toNat + 1) f),.im (.tup [])]=true:=λ f=>by simp
  unfold Dy
  refine BF rfl ?_
  refine AH (CH (AT (A3 (A0 rfl (AA ⟨by simp,(Jg ok).mono ?_⟩)))))
  rintro d x rfl
  refine⟨_,rfl,AB ?_⟩
  refine AH (CH (AT (A3 (A0 rfl (A3 (A0 rfl (A3 (Bb (AA ⟨FN,AA ⟨hcl _,(SQ ok rfl (by omega) _).mono ?_⟩⟩)))))))))
  rintro d x rfl
  refine⟨_,rfl,AB ?_⟩
  refine AH (CH (AT (A3 (A0 rfl (A3 (A0 rfl (A3 (Bb (AA ⟨FN,AA ⟨hcl _,(Qu ok hB (by omega) (by omega)).mono ?_⟩⟩)))))))))
  rintro d x rfl
  refine⟨_,rfl,AB ?_⟩
  refine B5 (A8 (AT (A3 (A0 rfl (AA ⟨by simp,(MB ok).mono ?_⟩)))))
  rintro d x rfl
  refine⟨_,rfl,AT (A3 (A0 rfl (AA ⟨by simp,(OJ (by omega) (by omega) h1 h2).mono ?_⟩)))⟩
  rintro d x rfl
  exact⟨_,rfl,E9 rfl⟩
open Lt (IsMin comb behind B8 sel AM Wx En)
theorem ND(v:Int)(ws:List Wm)(k:Nat):B4 (wtd v ws) k=B4 ws k:=by
  unfold B4 wtd
  rw[List.getElem?_map]
  cases ws[k]? <;> rfl
theorem VD(v:Int)(ws:List Wm)(k:Nat):GF (wtd v ws) k=GF ws k:=by
  unfold GF wtd
  rw[List.getElem?_map]
  cases ws[k]? <;> rfl
theorem K8(v:Int)(ws:List Wm):(wtd v ws).length=ws.length:=by simp[wtd]
theorem TV(v:Int)(ws:List Wm):Ab (wtd v ws)=Ab ws:=by
  unfold Ab Ba
  rw[K8]
  simp only[ND]
theorem Tg(c v:Int)(ws:List Wm)(L:List Int):lds c (wtd v ws) L=lds c ws L:=by
  unfold lds lnI
  simp only[ND,VD]
theorem U2{v:Int}{ws:List Wm}(c:Int)(hv:∀ w ∈ ws,w.wt=v):wxs ws=(lds c ws (Ab ws)).map λ p=>(p.1,p.2 + c,v.toNat):=by
  unfold wxs lds
  rw[List.map_map]
  refine List.map_congr_left λ i hi=>?_
  obtain⟨k,hk,rfl⟩:=E2 hi
  have h1:=hv _ (List.getElem_mem hk)
  have h2:=Fu hk
  have h3:=IO hk
  have e:ws[((k:Int)).toNat]? = some ws[k]:=by simp[hk]
  show(ws[((k:Int)).toNat]?.map wx).getD (0,0,0)=(GF ws ((k:Int)).toNat,B4 ws ((k:Int)).toNat - c + c,v.toNat)
  rw[e,Int.toNat_natCast,<- h2,<- h3]
  show wx ws[k]=_
  unfold wx
  rw[h1,show(ws[k]).due - c + c=(ws[k]).due by omega]
noncomputable abbrev MM(c:Int)(ws:List Wm):List Int:=Mh.moore (lds c ws (Ab ws)) []
noncomputable abbrev EE(c:Int)(ws:List Wm):List En:=AM 0 ((lds c ws (Ab ws)).map Mh.toW) ws.length
theorem Vg{v:Int}{ws:List Wm}(c:Int)(hv:∀ w ∈ ws,w.wt=v):AM c (wxs ws) ws.length=(EE c ws).map λ e=>(e.1,v.toNat * e.2.1,e.2.2 + c):=by
  rw[U2 c hv]
  exact Mh.found_scale c v.toNat _ _
theorem Wb{ws:List Wm}(c:Int):AM c (wxs (wtd 1 ws)) (wtd 1 ws).length=(EE c ws).map λ e=>(e.1,e.2.1,e.2.2 + c):=by
  rw[Vg c OT]
  unfold EE
  rw[Tg,TV,K8]
  refine List.map_congr_left λ e _=>?_
  rw[show(1:Int).toNat=1 from rfl,Nat.one_mul]
theorem Pz{c:Int}{ws:List Wm}(ok:okMs 2000 c ws)(w:Nat):IsMin (sel w (EE c ws)) (Mh.tabl (MM c ws) w):=by
  have hl:(lds c ws (Ab ws)).length=ws.length:=by simp[lds,Cs]
  have tm:=(Mh.table_moore (PQ ok (Ab ws)) (MH ws ok (by decide)) ws.length (by omega)).1
  rw[List.take_of_length_le (by omega)]at tm
  exact tm w
theorem SD{c:Int}{ws:List Wm}(ok:okMs 2000 c ws):∃ e ∈ EE c ws,e.2.1=(MM c ws).length:=by
  have h1:=Pz ok (MM c ws).length
  unfold Mh.tabl at h1
  rw[if_pos (Nat.le_refl _)]at h1
  rcases h1 with⟨h,_⟩|⟨m,_,hm,_⟩
  . cases h
  . obtain⟨e,he,rfl⟩:=List.mem_map.mp hm
    exact⟨e,(List.mem_filter.mp he).1,by simpa using (List.mem_filter.mp he).2⟩
theorem Vf{c:Int}{ws:List Wm}(ok:okMs 2000 c ws){e:En}(he:e ∈ EE c ws):e.2.1 <= (MM c ws).length:=by
  refine Nat.le_of_not_lt λ hlt=>?_
  have h1:=Pz ok e.2.1
  unfold Mh.tabl at h1
  rw[if_neg (by omega)]at h1
  rcases h1 with⟨_,h⟩|⟨m,h,_⟩
  . have:e.2.2 ∈ sel e.2.1 (EE c ws):=List.mem_map.mpr ⟨e,List.mem_filter.mpr ⟨he,by simp⟩,rfl⟩
    rw[h]at this;cases this
  . cases h
theorem Ww{c:Int}{ws:List Wm}(ok:okMs 2000 c ws){E:List En}(hE:E=(EE c ws).map λ e=>(e.1,e.2.1,e.2.2 + c)):E ≠ []/\GC (E.map λ e=>(e.2.1:Int))=((MM c ws).length:Int):=by
  subst hE
  obtain⟨e,he,ee⟩:=SD ok
  rw[List.map_map]
  have hne:EE c ws ≠ []:=List.ne_nil_of_mem he
  refine⟨by simpa using hne,?_⟩
  have ms:=G6 (xs:=(EE c ws).map ((λ e:En=>(e.2.1:Int)) ∘ λ e:En=>((e.1,e.2.1,e.2.2 + c):En))) (by simpa using hne)
  obtain⟨e',he',ee'⟩:=List.mem_map.mp ms.1
  have h1:=ms.2 _ (List.mem_map.mpr ⟨e,he,rfl⟩)
  have h2:=Vf ok he'
  dsimp only[Function.comp]at ee' h1
  omega
theorem Wv{c:Int}{ws:List Wm}(ok:okMs 2000 c ws){E:List En}(hE:E=(EE c ws).map λ e=>(e.1,e.2.1,e.2.2 + c)){j:Nat}(hj:j <= (MM c ws).length):sel j E ≠ []/\Go (sel j E)=Mh.pre (MM c ws) j + c:=by
  have es:sel j E=(sel j (EE c ws)).map (· + c):=by
    subst hE
    unfold sel
    rw[List.filter_map,List.map_map,List.map_map]
    rfl
  have h1:=Pz ok j
  unfold Mh.tabl at h1
  rw[if_pos hj]at h1
  rcases h1 with⟨h,_⟩|⟨m,em,hm,hl⟩
  . cases h
  . cases em
    have hm':Mh.pre (MM c ws) j + c ∈ sel j E:=by rw[es];exact List.mem_map.mpr ⟨_,hm,rfl⟩
    have hne:=List.ne_nil_of_mem hm'
    refine⟨hne,?_⟩
    have ms:=Hg hne
    have h2:=ms.2 _ hm'
    have h3:=ms.1
    rw[es]at h3
    obtain⟨x,hx,ex⟩:=List.mem_map.mp h3
    have:=hl x hx
    rw[<- es]at ex
    omega
theorem LE{c v:Int}{ws:List Wm}(hv:∀ w ∈ ws,w.wt=v){w:Nat}:(fT c (wxs ws) ws.length w).isSome=true ↔ ∃ e ∈ EE c ws,v.toNat * e.2.1=w:=by
  have h:=Pb c (wxs ws) ws.length (by simp[wxs,Cs]) w
  rw[Vg c hv]at h
  constructor
  . intro hs
    rcases h with⟨z,_⟩|⟨m,z,hm,_⟩
    . rw[z]at hs;cases hs
    . obtain⟨e,he,_⟩:=List.mem_map.mp hm
      obtain⟨h1,h2⟩:=List.mem_filter.mp he
      obtain⟨e',h3,rfl⟩:=List.mem_map.mp h1
      exact⟨e',h3,by simpa using h2⟩
  . rintro⟨e,he,ee⟩
    rcases h with⟨_,z⟩|⟨m,z,_,_⟩
    . have:e.2.2 + c ∈ sel w ((EE c ws).map λ e=>(e.1,v.toNat * e.2.1,e.2.2 + c)):=List.mem_map.mpr ⟨(e.1,v.toNat * e.2.1,e.2.2 + c),List.mem_filter.mpr ⟨List.mem_map.mpr ⟨e,he,rfl⟩,by simpa using ee⟩,rfl⟩
      rw[z]at this;cases this
    . rw[z];rfl
theorem KG{v:Int}:∀ {ws:List Wm},(∀ w ∈ ws,w.wt=v)->BS ws=v * ws.length
  | [],_=>by simp[BS]
  | w :: r,h=>by
    have ih:=KG (ws:=r) λ z hz=>h z (by simp[hz])
    have h1:=h w (by simp)
    simp only[BS,List.map_cons,List.sum_cons,List.length_cons]at ih ⊢
    rw[ih,h1,Int.natCast_add,Int.mul_add]
    omega
noncomputable abbrev Cr(ws:List Wm)(ns:List Int):List Int:=((List.range ws.length).filter λ k:Nat=>decide (¬ (k:Int) ∈ ns)).map λ k:Nat=>(k:Int)
theorem Li{ws:List Wm}{ns:List Int}(hs:ns.Sublist (Ab ws)):(Ar ns ++ Cr ws ns).Perm ((List.range ws.length).map λ k:Nat=>(k:Int)):=by
  have e1:Cr ws ns=((List.range ws.length).map λ k:Nat=>(k:Int)).filter λ i=>!decide (i ∈ ns):=by
    rw[List.filter_map]
    unfold Cr
    congr 1
    refine List.filter_congr λ k _=>?_
    simp
  have e2:(Cr ws ns).Perm ((Ab ws).filter λ i=>!decide (i ∈ ns)):=by
    rw[e1]
    exact((Fm ws).filter _).symm
  have e3:=MF (G0 ws) hs
  refine((BN ns).append e2).trans ?_
  have:=List.filter_append_perm (λ i=>decide (i ∈ ns)) (Ab ws)
  rw[e3]at this
  exact this.trans (Fm ws)
theorem TU{ws:List Wm}{ns:List Int}(hs:ns.Sublist (Ab ws)):ns.length + (Cr ws ns).length=ws.length:=by
  have:=(Li hs).length_eq
  rw[List.length_append,(BN ns).length_eq]at this
  simpa using this
theorem Wj{ws:List Wm}{ns:List Int}(hs:ns.Sublist (Ab ws)):(∀ k ∈ Ar ns,0 <= k/\k < (ws.length:Int))/\(Ar ns).Pairwise (· < ·):=by
  refine⟨λ k hk=>?_,?_⟩
  . obtain⟨j,hj,rfl⟩:=E2 (hs.subset ((BN ns).mem_iff.mp hk))
    omega
  . have nd:(Ar ns).Nodup:=(BN ns).nodup_iff.mpr (hs.nodup (G0 ws))
    exact List.Pairwise.imp₂ (λ a b h1 h2=>by have:a ≠ b:=h2;omega) (Df ns) nd
theorem Wi{ws:List Wm}{ns:List Int}:(∀ k ∈ Cr ws ns,0 <= k/\k < (ws.length:Int))/\(Cr ws ns).Pairwise (· < ·):=by
  refine⟨λ k hk=>?_,?_⟩
  . obtain⟨j,hj,rfl⟩:=List.mem_map.mp hk
    have:=(List.mem_filter.mp hj).1
    have:=List.mem_range.mp this
    omega
  . refine List.Pairwise.map (R:=λ a b:Nat=>a < b) _ (λ a b h=>by omega) ?_
    exact(List.pairwise_lt_range (n:=ws.length)).filter _
theorem QJ{ws:List Wm}{ns:List Int}(hs:ns.Sublist (Ab ws)):Ar (Ar ns ++ Cr ws ns)=(List.range ws.length).map λ k:Nat=>(k:Int):=by
  have p:=(BN (Ar ns ++ Cr ws ns)).trans (Li hs)
  refine p.eq_of_pairwise (le:=λ a b:Int=>a <= b) (λ a b _ _ h1 h2=>by omega) (Df _) ?_
  refine List.Pairwise.map (R:=λ a b:Nat=>a < b) _ (λ a b h=>by omega) ?_
  exact List.pairwise_lt_range
theorem QH{c:Int}{ws:List Wm}{ns:List Int}(pm:(ns.map (lnI ws)).Perm (MM c ws)):Ar ((Ar ns).map (lnI ws))=MM c ws:=by
  have p:(Ar ((Ar ns).map (lnI ws))).Perm (MM c ws):=(BN _).trans (((BN ns).map _).trans pm)
  exact p.eq_of_pairwise (le:=λ a b:Int=>a <= b) (λ a b _ _ h1 h2=>by omega) (Df _) (Mh.moore_sorted _ .nil)
open Lt (IsMin comb behind B8 sel AM Wx En FM)
theorem Ib:∀ ns:List Int,PyData.eqvAll (ns.map PyData.int) (ns.map PyData.int)=true
  | []=>by simp[PyData.eqvAll]
  | n :: r=>by simp[PyData.eqvAll,PyData.eqv,Ib r]
theorem Jm:∀ ns:List Int,PyData.depthAll (ns.map PyData.int)=0
  | []=>by simp[PyData.depthAll]
  | n :: r=>by simp[PyData.depthAll,PyData.depth,Jm r]
theorem Rh(ns:List Int)(hd:Hd)(neg:Bool):HF neg (.list (ns.map PyData.int)) (.list (ns.map PyData.int)) hd=some (.im (.bl (!neg)),hd):=by
  unfold HF
  rw[if_pos]
  . simp[PyData.eqv,Ib]
  . refine⟨Iv ns,Iv ns,?_⟩
    simp[PyData.depth,Jm]
theorem OZ{neg:Bool}{ma ml:MA}{ls:Ls}{hd:Hd}{QE:D->Hd->Prop}(h:WA ma ls hd λ ds x=>WA ml ls x λ es y=>∃ ns:List Int,ds=intD ns/\es=intD ns/\QE (.im (.bl (!neg))) y):WE (Jd neg ma ml) ls hd QE:=by
  obtain⟨ds,x,e1,es,y,e2,ns,rfl,rfl,q⟩:=h
  refine⟨_,y,?_,q⟩
  unfold Jd
  rw[e1]
  simp only[Option.bind_some,e2]
  simp only[intD,Ek,Option.bind_some,Er,Rh]
theorem okMs.more{B B' c:Int}{ws:List Wm}(h:okMs B c ws)(hb:B <= B'):okMs B' c ws:=by
  obtain⟨h1,h2,h3,h4⟩:=h
  refine⟨h1,h2,h3,λ w hw=>?_⟩
  obtain⟨g1,g2,g3,g4⟩:=h4 w hw
  exact⟨g1,g2,by omega,g4⟩
theorem Wk{E:List En}{qs:List Nat}(hq:qs.length=E.length)(j:Nat):((E.zip qs).filterMap λ z=>if z.1.2.1=j then some (D.im (.int z.1.2.2))else none)=intD (sel j E):=by
  unfold sel
  induction E generalizing qs with
  | nil=>rfl
  | cons e r ih=>
    cases qs with
    | nil=>simp at hq
    | cons q qs=>
      have ih:=ih (qs:=qs) (by simpa using hq)
      rw[List.zip_cons_cons,List.filterMap_cons,List.filter_cons]
      by_cases h:e.2.1=j
      . simp[h,intD]at ih ⊢;exact ih
      . simp[h]at ih ⊢;exact ih
theorem X9{E:List En}{qs:List Nat}(hq:qs.length=E.length):((E.zip qs).filterMap λ z=>some (D.im (.int (z.1.2.1:Int))))=intD (E.map λ e=>(e.2.1:Int)):=by
  induction E generalizing qs with
  | nil=>rfl
  | cons e r ih=>
    cases qs with
    | nil=>simp at hq
    | cons q qs=>
      have ih:=ih (qs:=qs) (by simpa using hq)
      rw[List.zip_cons_cons,List.filterMap_cons,ih]
      rfl
noncomputable abbrev Lg(ns:List Int)(ws:List Wm)(j:Nat)(v:Int)(ks:List Int)(z6 z7 z8:Option D):Ls:=[some (.ro ns),some (.mu 1),some (.im (Ae ws)),some (.im (.int (j:Int))),some (.im (.int v)),some (.im (.tup [.tup ((Ar ks).map I.int),.tup ((Cr ws ks).map I.int)])),z6,z7,z8]
inductive I_js(ns:List Int)(ws:List Wm)(c v:Int)(ks:List Int)(j L:Nat)(X Y:Hd)(r:List D)(ls:Ls)(hd:Hd):Prop
  | mk (i:Nat) (z8:Option D) (h0:1 <= i) (h1:i <= (MM c ws).length + 1) (h2:r=Ax (i:Int) ((MM c ws).length + 1 - i)) (h3:ls=Lg ns ws j v ks (some (.mu L)) (some (.mu X.length)) z8) (h4:hd=Y):I_js ns ws c v ks j L X Y r ls hd
theorem X0(ns:List Int){c v:Int}{ws:List Wm}(ok:okMs 2000 c ws){ks:List Int}{j L:Nat}{X:Hd}{qs:List Nat}{E:List En}(hE:E=(EE c ws).map λ e=>(e.1,e.2.1,e.2.2 + c))(hq:qs.length=E.length)(hlE:E.length <= 300)(hX:(X ++ [MO.lst (intD (MM c ws))])[L]? = some (.lst ((E.zip qs).map enT)))(hl:(MM c ws).length <= 8){z8:Option D}{Q:Fl->Hd->Prop}
    (q:∀ z8,Q (Fl.nx (Lg ns ws j v ks (some (.mu L)) (some (.mu X.length)) z8)) (X ++ [MO.lst (intD (MM c ws))])) :
    WS (DI (IN (A4 (mC (.int 1)) (A4 (mOp BA (mCB (f1 true C1) (A4 (A2 7) AC)) (mC (.int 1))) AC))) (AU 8)
      (BK (AX (mOp gNe (DH Hr (Ip (A2 7) Ev (Gp (A2 8)))) (mOp E5 (DH OC (Bf 1 [8] (DX (A2 6)) (AU 0) (AX (mOp gEq (mOp gIx (A2 0) (mC (.int 1))) (A2 1))) (mOp gIx (A2 0) (mC (.int 2))))) (mOp gIx (mOp gIx (A2 2) (mC (.int 0))) (mC (.int 1))))))
      (Av (mC (.bl false)))
      B9)) (Lg ns ws j v ks (some (.mu L)) (some (.mu X.length)) z8) (X ++ [MO.lst (intD (MM c ws))]) Q:=by
  obtain⟨hne,hl8,hc,hws⟩:=id ok
  have hl0:0 < ws.length:=CK hne
  have e0:(ws[0]).com=c:=(hws _ (List.getElem_mem hl0)).2.1
  have h7:(X ++ [MO.lst (intD (MM c ws))])[X.length]? = some (.lst (intD (MM c ws))):=GV X _ []
  generalize hY:X ++ [MO.lst (intD (MM c ws))]=Y at *
  refine Ca (Vl (A3 (AJ (A3 (A8 (Cz (A3 (A0 rfl (AA (Cy (ds:=intD (MM c ws)) (by rw[if_pos rfl,Vq,S8,h7]) rfl (AJ (C3 (AA ⟨1,((MM c ws).length:Int) + 1,by simp[intD],SY (by omega) (by omega) (by omega) (by omega),?_⟩)))))))))))))
  rw[show(((MM c ws).length:Int) + 1 - 1).toNat=(MM c ws).length + 1 - 1 by omega]
  change WP (By _ _ _ (Ax ((1:Nat):Int) ((MM c ws).length + 1 - 1)) _ Y) _
  refine C4 (I_js ns ws c v ks j L X Y) ⟨1,z8,by omega,by omega,rfl,rfl,rfl⟩ ?_ ?_
  . rintro d r ls hd ⟨i,z8,hi1,hi2,er,rfl,rfl⟩
    obtain⟨m',hm⟩:∃ m,(MM c ws).length + 1 - i=m + 1:=by
      cases q:(MM c ws).length + 1 - i with
      | zero=>rw[q]at er;cases er
      | succ m=>exact⟨m,rfl⟩
    rw[hm,Ax]at er
    obtain⟨rfl,rfl⟩:=List.cons.inj er
    have hi:i <= (MM c ws).length:=by omega
    obtain⟨sne,smin⟩:=Wv ok hE hi
    refine⟨Lg ns ws j v ks (some (.mu L)) (some (.mu X.length)) (some (.im (.int (i:Int)))),rfl,?_⟩
    refine B6 (Ac (A8 (DR (U6 (A0 rfl (Vk (SH (A0 rfl ⟨_,rfl,intD (MM c ws),by rw[S8,h7],?_⟩))))))))
    rw[Rc]
    have es:(intD (MM c ws)).take i=intD ((MM c ws).take i):=by simp[intD]
    rw[es]
    refine⟨_,by unfold Hr;rw[Dv];rfl,?_⟩
    refine A8 (DR (Bn (Fc (A0 rfl ⟨L,_,rfl,hX,B7 (by rw[List.length_map,List.length_zip,hq,Nat.min_self];omega),?_⟩))))
    refine Cc enT (λ z=>if z.1.2.1=i then some (D.im (.int z.1.2.2))else none) (λ _ ls=>∃ x,ls=[some x,some (.im (.int (i:Int)))]) _ (by intro q hq;rw[List.mem_singleton]at hq;subst hq;exact hX) ?_ ?_
    . rintro z hz ls hls
      refine⟨[some (enT z),some (.im (.int (i:Int)))],by rcases hls with rfl|⟨_,x,rfl⟩ <;> rfl,⟨_,rfl⟩,?_⟩
      refine Ac (A8 (A8 (A0 rfl (AJ (AL rfl (Cv _ _ _) (A0 rfl (Eb ⟨_,rfl,rfl,?_⟩)))))))
      by_cases h:z.1.2.1=i
      . rw[if_pos (decide_eq_true (by omega))]
        exact⟨_,if_pos h,A8 (A0 rfl (AJ (AL rfl (Ej _ _ _ _) ⟨rfl,rfl⟩)))⟩
      . rw[if_neg (λ z=>by have:=of_decide_eq_true z;omega)]
        exact if_neg h
    rw[Wk hq]
    refine⟨_,by unfold OC;rw[Dv,Option.bind_some,if_neg sne],?_⟩
    refine A8 (A8 (A0 rfl (AJ (AL (by rw[Bm,BC]) (Cb (k:=0) hl0) (AJ (AL (ds:=[.im (.int (ws[0]).len),.im (.int (ws[0]).com),.im (.tup [.str "miss",.int (ws[0]).due,.int (ws[0]).wt])]) rfl (Cv _ _ _) (E9 (HU ⟨_,rfl,(λ h=>?_),λ _=>An ⟨Ak _,i + 1,_,by omega,by omega,?_,rfl,rfl⟩⟩))))))))
    . rw[e0,smin]at h
      have:((MM c ws).take i).sum=Mh.pre (MM c ws) i:=rfl
      simp[this]at h
    . rw[show m'=(MM c ws).length + 1 - (i + 1) by omega];rfl
  . rintro ls hd ⟨i,z8,hi1,hi2,er,rfl,rfl⟩
    exact q _
inductive I_law_w(ns:List Int)(r:List D)(ls:Ls)(hd:Hd):Prop
  | mk (j:Nat) (i2:I) (a b:MO) (z3 z4 z5 z6 z7 z8:Option D) (h0:j <= 3) (h1:r=Ax (j:Int) (3 - j)) (h2:ls=[some (.ro ns),some (.mu 1),some (.im i2),z3,z4,z5,z6,z7,z8]) (h3:(j=1 ∨ j=2->∃ ws c v,i2=Ae ws/\okMs 500 c ws/\∀ w ∈ ws,w.wt=v)) (h4:hd=[a,b]) (h5:T (200 * (3 - j)) a b):I_law_w ns r ls hd
inductive J_law(ns:List Int)(j:Nat)(z4 z5 z6 z7 z8:Option D)(f:Fl)(x:Hd):Prop
  | mk (ws:List Wm) (c v:Int) (a b:MO) (h0:f=Fl.nx [some (.ro ns),some (.mu 1),some (.im (Ae ws)),some (.im (.int (j:Int))),z4,z5,z6,z7,z8]) (h1:okMs 2000 c ws) (h2:(j < 2->okMs 500 c ws)) (h3:(∀ w ∈ ws,w.wt=v)) (h4:x=[a,b]) (h5:T (200 * (3 - (j + 1))) a b):J_law ns j z4 z5 z6 z7 z8 f x
theorem WH(ns:List Int):WF F_law [.ro ns] [] λ d x=>d=.im (.bl true):=by
  unfold F_law
  refine BF rfl ?_
  refine AH (AY (L7 (A3 (A0 rfl (AA ((QD ns).mono ?_))))))
  rintro d x ⟨rfl,a,b,hT,rfl⟩
  refine AB (AH (AY (Bb (AA ⟨FN,AB ?_⟩))))
  rw[PL]
  refine AH (Ca (NN (A3 (AJ (AA ⟨_,rfl,IE (by decide) (by decide),?_⟩)))))
  change WP (By _ _ _ (Ax 0 3) [some (.ro ns),some (.mu 1),some (.im (.tup [])),none,none,none,none,none,none] [a,b]) _
  refine C4 (I_law_w ns) ⟨0,.tup [],a,b,none,none,none,none,none,none,by omega,rfl,rfl,by omega,rfl,tap.le hT (by omega)⟩ ?_ ?_
  . rintro d r ls hd ⟨j,i2,a,b,z3,z4,z5,z6,z7,z8,hj,er,rfl,hw,rfl,hT⟩
    obtain⟨m,hm⟩:∃ m,3 - j=m + 1:=by
      cases q:3 - j with
      | zero=>rw[q]at er;cases er
      | succ m=>exact⟨m,rfl⟩
    rw[hm,Ax]at er
    obtain⟨rfl,rfl⟩:=List.cons.inj er
    have ej:((j:Int) + 1)=((j + 1:Nat):Int):=by omega
    have emj:m=3 - (j + 1):=by omega
    have hT:T (200 * (3 - (j + 1)) + 1 + 100) a b:=tap.le hT (by omega)
    refine⟨[some (.ro ns),some (.mu 1),some (.im i2),some (.im (.int (j:Int))),z4,z5,z6,z7,z8],rfl,Pt ?_⟩
    refine AH (WP.mono (Q:=J_law ns j z4 z5 z6 z7 z8) (B6 (Ac (A8 (A0 rfl (AJ (NL ⟨_,rfl,λ h=>?_,λ h=>?_⟩)))))) ?_)
    . refine AH (AY ?_)
      refine tap.call hT (as:=[.im (.int 8)]) (rest:=[]) rfl rfl (Lu _) ?_
      rintro i a b hT ⟨ws,c,rfl,ok⟩
      refine AB (AY (AT (A3 (A0 rfl (A3 ?_)))))
      refine tap.draw hT rfl (by first|decide|omega) (by first|decide|omega) λ v a b hT pv qv=>?_
      refine AA ⟨by simp,(JC ok).mono ?_⟩
      rintro d x rfl
      have ok5:=OU ok pv (by omega)
      exact⟨_,rfl,wtd v ws,c,v,a,b,rfl,ok5.more (by decide),λ _=>ok5,OT,rfl,hT⟩
    . have hj2:j=2:=by
        have:¬ (j:Int) < 2:=by simpa using h
        omega
      obtain⟨ws,c,v,rfl,ok,hv⟩:=hw (.inr hj2)
      have hT:T (200 * (3 - (j + 1)) + 20) a b:=tap.le hT (by omega)
      refine AY ?_
      refine tap.call hT (as:=[.im (Ae ws)]) (rest:=[]) rfl (by simp) (WK _ ok hv) ?_
      rintro i a b hT ⟨ws,c,v,rfl,ok,hv⟩
      exact⟨ws,c,v,a,b,rfl,ok,λ z=>by omega,hv,rfl,hT⟩
    rintro f x ⟨ws,c,v,a,b,rfl,ok,ok5,hv,rfl,hT⟩
    obtain⟨hne,hl8,hc,hws⟩:=id ok
    have hl0:0 < ws.length:=CK hne
    have hv9:0 <= v/\v <= 9:=by have:=(hws _ (List.getElem_mem hl0)).2.2.2;rw[hv _ (List.getElem_mem hl0)]at this;exact this
    have hf:=KF ok
    have ca:=tap.cl hT
    refine AB (AH (AY (A8 (A8 (A8 (A0 rfl (AJ (AL (by rw[Bm,BC]) (Cb (k:=0) hl0) (AJ (AL (ds:=[.im (.int (ws[0]).len),.im (.int (ws[0]).com),.im (.tup [.str "miss",.int (ws[0]).due,.int (ws[0]).wt])]) rfl (Ej _ _ _ _) (AJ (AL (ds:=[.im (.str "miss"),.im (.int (ws[0]).due),.im (.int (ws[0]).wt)]) rfl (Ej _ _ _ _) (AB ?_)))))))))))))
    rw[hv _ (List.getElem_mem hl0)]
    refine AH (AY (AT (A3 (A0 rfl (AA ⟨by simp,(P0 ok hv).mono ?_⟩)))))
    rintro d x ⟨ks,rfl,hsb,hin,pm⟩
    refine⟨_,rfl,AB ?_⟩
    change WS _ (Lg ns ws j v ks z6 z7 z8) [a,b] _
    have hkl:ks.length <= 8:=by have:=hsb.length_le;rw[Cs]at this;omega
    have hml:ks.length=(MM c ws).length:=by have:=pm.length_eq;rw[List.length_map]at this;exact this
    have hol:=TU hsb
    obtain⟨s1a,s1b⟩:=Wj hsb
    obtain⟨s2a,s2b⟩:=Wi (ws:=ws) (ns:=ks)
    have hsl:(Ar ks).length=ks.length:=(BN ks).length_eq
    refine AH (B6 (FT (Dd (C2 (Fd (A0 rfl ⟨true,rfl,_,rfl,?_⟩))))))
    rw[if_neg (by simp)]
    refine Ac (A8 (Cz (A3 (A0 rfl (AA (Cy rfl rfl (AJ (HU ⟨_,rfl,(λ h=>by simp at h),λ _=>An (AB ?_)⟩))))))))
    refine AH (B6 (FT (Dd (C2 (AT (A3 (Cz (A3 (A0 rfl (AA (Cy rfl rfl (A3 (A8 (A0 rfl (AJ (AL (ds:=[C7 (Ar ks),C7 (Cr ws ks)]) rfl (GJ _ _) (AA ⟨by simp,(M4 (by omega) (by simpa using s1a) s1b).mono ?_⟩)))))))))))))))))
    rintro d x rfl
    refine⟨_,rfl,_,rfl,?_⟩
    rw[if_neg (by simp)]
    refine Dd (C2 (AT (A3 (Cz (A3 (A0 rfl (AA (Cy rfl rfl (A3 (A8 (A0 rfl (AJ (AL (ds:=[C7 (Ar ks),C7 (Cr ws ks)]) rfl (Cv _ _ _) (AA ⟨by simp,(M4 (by omega) (by simpa using s2a) s2b).mono ?_⟩))))))))))))))
    rintro d x rfl
    refine⟨_,rfl,_,rfl,(λ h=>by cases h),λ _=>An (AB ?_)⟩
    refine AH (B6 (FT (Ac (OZ (HV (Ec (A8 (A8 (A0 rfl (AJ (AL (ds:=[C7 (Ar ks),C7 (Cr ws ks)]) rfl (GJ _ _) (A8 (A0 rfl (AJ (AL (ds:=[C7 (Ar ks),C7 (Cr ws ks)]) rfl (Cv _ _ _) (Ml (by rw[List.length_map,List.length_map];omega) ⟨_,rfl,Ar ks ++ Cr ws ks,?_,by rw[List.length_append];omega,?_⟩))))))))))))))))
    . rw[<- List.map_append,Kp]
    refine SK (k:=(ws.length:Int)) (by simp[C1]) (QU (by omega) (by omega)) ⟨(List.range ws.length).map λ k:Nat=>(k:Int),by rw[QJ hsb],?_,?_⟩
    . rw[Int.toNat_natCast,Gj];simp[O8,intD]
    refine⟨_,rfl,?_⟩
    rw[if_neg (by simp)]
    refine Ac (GL (AT (A3 (A0 rfl (A3 (A8 (A0 rfl (AJ (AL (ds:=[C7 (Ar ks),C7 (Cr ws ks)]) rfl (GJ _ _) (AA ⟨by simp,(WW ok hsb hin).mono ?_⟩))))))))))
    rintro d x ⟨e,rfl⟩
    refine⟨_,rfl,some e,rfl,_,rfl,(λ h=>by simp at h),λ _=>An (AB ?_)⟩
    have ok1:okMs 2000 c (wtd 1 ws):=OU ok (by decide) (by decide)
    refine AH (AY (L7 (A3 (AT (A3 (A0 rfl (A3 (AJ (AA ⟨by simp,(JC ok).mono ?_⟩)))))))))
    rintro d x rfl
    refine⟨_,rfl,AA ((UA ok1 (by decide) [a,b]).mono ?_)⟩
    rintro d x ⟨L,rest,qs,rfl,hL,rfl,hq,hE⟩
    have eE:=Wb (ws:=ws) c
    have hlE:(AM c (wxs (wtd 1 ws)) (wtd 1 ws).length).length <= 256:=Nat.le_trans (FM _) (Up (by rw[K8];exact hl8))
    generalize AM c (wxs (wtd 1 ws)) (wtd 1 ws).length=E at *
    obtain⟨hEn,hmx⟩:=Ww ok eE
    refine AB ?_
    change WS _ (Lg ns ws j v ks (some (.mu L)) z7 z8) ([a,b] ++ rest) _
    refine AH (B6 (Ac (A8 (Cz (A3 (A8 (A0 rfl (AJ (AL (ds:=[C7 (Ar ks),C7 (Cr ws ks)]) rfl (GJ _ _) (AA (Cy rfl rfl (DR (Bn (Fc (A0 rfl ⟨L,_,rfl,hE,B7 (by rw[List.length_map,List.length_zip,hq,Nat.min_self];omega),?_⟩)))))))))))))))
    refine Cc enT (λ z=>some (D.im (.int (z.1.2.1:Int)))) (λ _ ls=>∃ x,ls=[some x]) _ (by intro q hq;rw[List.mem_singleton]at hq;subst hq;exact hE) ?_ ?_
    . rintro z hz ls hls
      refine⟨[some (enT z)],by rcases hls with rfl|⟨_,x,rfl⟩ <;> rfl,⟨_,rfl⟩,Dc ⟨rfl,?_⟩⟩
      rw[if_pos rfl]
      exact⟨_,rfl,A8 (A0 rfl (AJ (AL rfl (Cv _ _ _) ⟨rfl,rfl⟩)))⟩
    rw[X9 hq]
    refine⟨_,by unfold M1;rw[Dv,Option.bind_some,if_neg (by simpa using hEn)],HU ⟨_,rfl,(λ h=>?_),λ _=>An (AB ?_)⟩⟩
    . rw[hmx]at h
      simp[hsl,hml]at h
    refine AH (AY (CL (HV (U4 (Bn (Ec (A8 (A0 rfl (AJ (AL (ds:=[C7 (Ar ks),C7 (Cr ws ks)]) rfl (GJ _ _) ⟨_,rfl,?_⟩))))))))))
    rw[Kp]
    refine⟨B7 (by simp[intD];omega),?_⟩
    refine Cc (λ i:Int=>D.im (.int i)) (λ i=>some (.im (.int (lnI ws i)))) (λ _ ls=>∃ x,ls=[some x,some (.im (Ae ws))]) _ (Ak _) ?_ ?_
    . rintro i hi ls hls
      obtain⟨k,hk,rfl⟩:=E2 (hsb.subset ((BN ks).mem_iff.mp hi))
      refine⟨[some (.im (.int (k:Int))),some (.im (Ae ws))],by rcases hls with rfl|⟨_,x,rfl⟩ <;> rfl,⟨_,rfl⟩,Dc ⟨rfl,?_⟩⟩
      rw[if_pos rfl]
      refine⟨_,rfl,A8 (A8 (A0 rfl (A0 rfl (AL (by rw[Bm,BC]) (Cb hk) (AJ (AL (ds:=[.im (.int (ws[k]).len),.im (.int (ws[k]).com),.im (.tup [.str "miss",.int (ws[k]).due,.int (ws[k]).wt])]) rfl (GJ _ _) ⟨rfl,?_⟩))))))⟩
      rw[IO hk];rfl
    refine⟨(Ar ks).map (lnI ws),by simp[intD],by simp[hsl];omega,?_⟩
    rw[QH pm]
    refine AB (AH (X0 ns ok eE hq (by omega) (Ge hE _) (by omega) λ z8=>AB ?_))
    have m0:v.toNat * (MM c ws).length <= (BS ws).toNat:=by
      have h1:=KG hv
      have h2:(MM c ws).length <= ws.length:=by omega
      have h3:(BS ws).toNat=v.toNat * ws.length:=by
        rw[h1]
        obtain⟨u,hu⟩:=Int.eq_ofNat_of_zero_le hv9.1
        rw[hu,<- Int.natCast_mul,Int.toNat_natCast,Int.toNat_natCast]
      rw[h3]
      exact Nat.mul_le_mul_left _ h2
    refine B6 (Ac (A8 (AT (A3 (A0 rfl (A3 (AT (A3 (A0 rfl (AA ⟨by simp,(NS ok (by decide)).mono ?_⟩))))))))))
    rintro d x rfl
    refine⟨_,rfl,AA ⟨by simp,(VE ok (by decide) m0 ((LE hv).mpr ?_) (λ w hw=>?_)).mono ?_⟩⟩
    . obtain⟨e,he,ee⟩:=SD ok
      exact⟨e,he,by rw[ee]⟩
    . obtain⟨e,he,rfl⟩:=(LE hv).mp hw
      exact Nat.mul_le_mul_left _ (Vf ok he)
    rintro d x rfl
    refine⟨_,rfl,A8 (A0 rfl (Cz (A3 (A8 (A0 rfl (AJ (AL (ds:=[C7 (Ar ks),C7 (Cr ws ks)]) rfl (Cv _ _ _) (AA (Cy rfl rfl (OX (Et (by omega) (by omega)) (HU ⟨_,rfl,(λ h=>?_),λ _=>An ?_⟩)))))))))))⟩
    . exfalso
      have h1:=KG hv
      obtain⟨u,hu⟩:=Int.eq_ofNat_of_zero_le hv9.1
      have h3:BS ws - ((v.toNat * (MM c ws).length:Nat):Int)=v * ((Cr ws ks).length:Int):=by
        rw[h1,hu,Int.toNat_natCast,Int.natCast_mul,<- Int.mul_sub,<- hol,hml]
        congr 1
        omega
      rw[h3]at h
      simp at h
    exact⟨by simp[ca.1,ca.2],_,rfl,Ak _,j + 1,Ae ws,a,b,_,_,_,_,_,_,by omega,by rw[ej,emj],rfl,λ z=>⟨ws,c,v,rfl,ok5 (by omega),hv⟩,rfl,hT⟩
  . rintro ls hd ⟨j,i2,a,b,z3,z4,z5,z6,z7,z8,hj,er,rfl,hw,rfl,hT⟩
    exact AB (B5 (AJ rfl))
theorem law_eq(ns:List Int):∃ hd,F_law [.ro ns] []=some (.im (.bl true),hd):=by
  obtain⟨d,x,e,rfl⟩:=WH ns
  exact⟨x,e⟩
end T41
namespace L2
open PySem PySem.Spec PyProof.Rows PySem.W
noncomputable abbrev Tb:=Addr × Str × Nat × Nat
noncomputable def Te(ts:List Tb):Obj:={ cls:=.str "tables" 0,data:=.fields (ts.flatMap λ t=>[.ref t.1,.str t.2.1 0,.int t.2.2.1 0,.int t.2.2.2 0]).toArray }
noncomputable def Ad(K:PySem.W.Frag)(ts:List Tb):PySem.W.Frag:=(K.filter λ p=>!(ts.map (·.1)).contains p.1) ++ [(mainGlobals,Te ts)]
theorem Og:∀ ts:List Tb,Kr (ts.flatMap λ t=>[Value.ref t.1,.str t.2.1 0,.int t.2.2.1 0,.int t.2.2.2 0])=ts.map λ t=>(t.1,t.2.1,⟨t.2.2.1,t.2.2.2,0,0⟩)
  | []=>rfl
  | t :: r=>by
    rw[List.flatMap_cons,List.map_cons,<- Og r]
    rfl
theorem Fx(K:PySem.W.Frag)(ts:List Tb):Ed (Ad K ts)=ts.map λ t=>(t.1,t.2.1,⟨t.2.2.1,t.2.2.2,0,0⟩):=by
  unfold Ed Ad
  rw[List.getLast?_concat]
  show Kr _=_
  rw[<- Og ts]
theorem GE{L:List Addr}{a:Addr}(ha:a ∉ L):∀ K:PySem.W.Frag,(K.filter λ p=>!L.contains p.1).lookup a=K.lookup a
  | []=>rfl
  | (b,o) :: r=>by
    have ih:=GE ha r
    rw[List.filter_cons]
    by_cases hb:b ∈ L
    . have h1:(!L.contains (b,o).1)=false:=by simp[hb]
      have h2:(a == b)=false:=beq_eq_false_iff_ne.mpr λ z=>ha (z ▸ hb)
      rw[if_neg (by rw[h1];decide),List.lookup_cons,h2,ih]
    . have h1:(!L.contains (b,o).1)=true:=by simp[hb]
      rw[if_pos h1,List.lookup_cons,List.lookup_cons,ih]
theorem Hq{L:List Addr}{P:Addr}(hP:P ∈ L):∀ K:PySem.W.Frag,(K.filter λ p=>!L.contains p.1).lookup P=none
  | []=>rfl
  | (b,o) :: r=>by
    have ih:=Hq hP r
    rw[List.filter_cons]
    by_cases hb:b ∈ L
    . rw[if_neg (by simp[hb])];exact ih
    . have h2:(P == b)=false:=beq_eq_false_iff_ne.mpr λ z=>hb (z ▸ hP)
      rw[if_pos (by simp[hb]),List.lookup_cons,h2];exact ih
section
variable{K:PySem.W.Frag}{ts:List Tb}
theorem Hh{a:Addr}{o:Obj}(ha:a ∉ ts.map (·.1))(e:K.lookup a=some o):(Ad K ts).lookup a=some o:=by
  unfold Ad
  rw[List.lookup_append,GE ha,e];rfl
theorem Td{h:Heap}(X:K.In h){g:Obj}(hg:K.lookup mainGlobals=some g)(hP:mainGlobals ∉ ts.map (·.1)):(Ad K ts).In h:=λ a o e=>by
  unfold Ad at e
  rw[List.lookup_append]at e
  by_cases ha:a ∈ ts.map (·.1)
  . rw[Hq ha,Option.none_or]at e
    have h2:(a == mainGlobals)=false:=beq_eq_false_iff_ne.mpr λ z=>hP (z ▸ ha)
    rw[List.lookup_cons,h2]at e;cases e
  . rw[GE ha]at e
    cases k:K.lookup a with
    | some o'=>rw[k]at e;cases e;exact X _ _ k
    | none=>
      rw[k,Option.none_or,List.lookup_cons]at e
      by_cases hm:a=mainGlobals
      . subst hm;rw[hg]at k;cases k
      . rw[beq_eq_false_iff_ne.mpr hm]at e;cases e
theorem Tc(hM:mainGlobals ∉ ts.map (·.1)){P:Addr}(hP:P ∈ ts.map (·.1)):(Ad K ts).lookup P=none:=by
  unfold Ad
  have h2:(P == mainGlobals)=false:=beq_eq_false_iff_ne.mpr λ z=>hM (z ▸ hP)
  rw[List.lookup_append,Hq hP,Option.none_or,List.lookup_cons,h2]
  rfl
theorem Fun.mark{x:Str}{st:Stmt}{f:Addr}{fd:FuncData}(D:Fun K x x st f fd){h:Heap}(X:K.In h)(hP:∀ P ∈ ts.map (·.1),h.get? P=some (tabObj #[])):Fun (Ad K ts) x x st f fd:=by
  have neP:∀ a o,K.lookup a=some o->o ≠ tabObj #[]->a ∉ ts.map (·.1):=λ a o e n z=>by
    have:=X _ _ e
    rw[hP a z]at this;exact n (Option.some.inj this).symm
  obtain⟨⟨oc,od,kV,doc,pm,an,cdv,ct,osl,rfl,lk,hcd⟩,kp⟩:=D
  have hf:f ∉ ts.map (·.1):=neP f _ lk (λ z=>by cases z)
  refine⟨⟨oc,od,kV,doc,pm,an,cdv,ct,osl,rfl,Hh hf lk,?_⟩,?_⟩
  . unfold codeIn at hcd ⊢
    split at hcd
    . next c0=>
      split at hcd
      . next vs sl k=>
        have hc:c0 ∉ ts.map (·.1):=neP c0 _ k (λ z=>by
          have:vs=#[]:=by injection z with _ _ z _;injection z
          rw[this]at hcd;cases hcd)
        simp only[Hh hc k]
        exact hcd
      . cases hcd
    . cases hcd
  . unfold keepIn
    simp only[Hh hf lk]
end
theorem Vt{K:PySem.W.Frag}{H:Hp}{a:Addr}{xs:List V}(hS:SqL K H a xs)(hO:∀ ys,H a ≠ some (.lst ys)):RoL K H a xs:=by
  rcases hS with(h|h)|h
  . exact absurd h (hO xs)
  . exact .inl h
  . exact .inr h
theorem PR{Pg:Program}{w:World}{K:PySem.W.Frag}{mg mb:Str->Option Value}{k:Nat}{fa a:Addr}{fd:FuncData}{x:Str}{ts:List Tb}{s₁:Shared}{vs:List Value}{ns:List Int}{F:List D->Hd->Option (D × Hd)}
    (KX:K.In s₁.heap) (hns:s₁.heap.Ns mainGlobals mg) (hb:s₁.heap.Ns builtinsNs mb) (hbb:∀ x:Str,x ≠ "__name__"->mb x=bootBuiltins x) (hlim:s₁.heap.NoLimit) (hg:s₁.gens=#[])
    (ha:s₁.heap.get? a=some { cls:=.type "list",data:=.seq vs.toArray }) (hi:IntsAre vs ns) (hl:ns.length <= sizeLine) (hr:Room k callerA)
    (hT:∀ P ∈ ts.map (·.1),∃ cc,s₁.heap.TableAt cc P #[]) (hPK:∀ P ∈ ts.map (·.1),K.lookup P=none) (htab:Ed K=ts.map λ t=>(t.1,t.2.1,⟨t.2.2.1,t.2.2.2,0,0⟩))
    (Fn:∀ base:Heap,K.In base->base.Ns mainGlobals mg->(∀ b o,b ∉ ts.map (·.1)->b ≠ a->s₁.heap.get? b=some o->base.get? b=some o)->FnOk Pg w K mg base CX0 k fa fd [x] (spF K 1 F)) (hbind:∀ (s:Shared) (u:Value),BindsTo s fd ⟨[u],[]⟩ [(x,u)])
    (hF:∃ hd',F [.ro ns] []=some (.im (.bl true),hd')) :
    codeAny (model Pg w) callerA (.call (.ref fa) ⟨[.ref a],[]⟩) (λ r s'=>r=.ok (.ret (.bool true))/\OldK s₁.heap s'.heap/\s'.os=s₁.os/\AllBare s'.gens) s₁:=by
  have rv:=KM hi
  have lenV:=hi.length
  have hP:∀ P ∈ ts.map (·.1),s₁.heap.get? P=some (tabObj #[]):=λ P h=>let ⟨cc,t⟩:=hT P h;t.2
  have haP:a ∉ ts.map (·.1):=λ z=>by rw[hP a z]at ha;cases ha
  have core:∀ H:Hp,(∀ b,b ∉ ts.map (·.1)->H b=none ∨ ∃ o xs,H b=some (.frz o (.lst xs)))->(∀ P ∈ ts.map (·.1),H P=some (.tbl #[]))->SqL K H a (ns.map V.int)->HOk Pg w H s₁.heap->(∀ b,H b ≠ none->b=a ∨ b ∈ ts.map (·.1))->(H a ≠ none->K.lookup a=none) ->
      codeAny (model Pg w) callerA (.call (.ref fa) ⟨[.ref a],[]⟩) (λ r s'=>r=.ok (.ret (.bool true))/\OldK s₁.heap s'.heap/\s'.os=s₁.os/\AllBare s'.gens) s₁:=by
    intro H hO hHP hS hok hA hK
    have base_of:∀ {b:Addr} {o:Obj},s₁.heap.get? b=some o->H b=none->(Gy s₁.heap H).get? b=some o:=λ e n=>RZ e n
    have noA:∀ {b:Addr} {o:Obj} {es:Array DictEntry} {ep:Nat},s₁.heap.get? b=some o->o.data=.dict es ep->H b=none:=λ {b o es ep} e d=>by
      cases q:H b with
      | none=>rfl
      | some u=>
        rcases hA b (by rw[q];simp)with e'|e'
        . subst e'
          rw[ha]at e;cases e
          have d':Data.seq vs.toArray _=Data.dict es ep:=d
          cases d'
        . rw[hP b e']at e;cases e
          cases d
    have nsK:∀ {b:Addr} {m:Str->Option Value},s₁.heap.Ns b m->(Gy s₁.heap H).Ns b m:=λ {b m} ⟨o,es,ep,e,d,r⟩=>⟨o,es,ep,base_of e (noA e d),d,r⟩
    have hKb:K.In (Gy s₁.heap H):=λ b o e=>base_of (KX b o e) (by
      cases q:H b with
      | none=>rfl
      | some u=>
        rcases hA b (by rw[q];simp)with e'|e'
        . subst e'
          rw[hK (by rw[q];simp)]at e;cases e
        . rw[hPK b e']at e;cases e)
    have hM:Mod K mg (Gy s₁.heap H):=⟨hKb,nsK hns,⟨mb,nsK hb,hbb⟩,let ⟨mc,h1,h2⟩:=hlim;⟨mc,nsK h1,h2⟩⟩
    have e0:Env0 Pg w K mg (Gy s₁.heap H) callerA [] s₁ H:=⟨rfl,hM,λ b o e=>TY e,Nat.le_of_eq (PY _ _),trivial,λ b hb=>absurd (show b ∈ ([]:List Addr)from hb) (by simp),hok,.of_eq hg⟩
    have hsp:spF K 1 F [.ref a] H (λ v _=>v=.bl true) λ _ _ _=>False:=by
      obtain⟨hd',e⟩:=hF
      refine⟨rfl,[],[],[.ro ns],.im (.bl true),hd',⟨rfl,List.nodup_nil,λ y hy=>?_,λ n o a h=>by simp at h⟩,?_,e,λ ρ' H' v _ _ r=>?_⟩
      . rw[htab]at hy
        obtain⟨t,ht,rfl⟩:=List.mem_map.mp hy
        exact⟨#[],hHP t.1 (List.mem_map.mpr ⟨t,ht,rfl⟩),.inl rfl⟩
      . simp only[RDs,RD]
        refine⟨_,_,rfl,⟨a,rfl,Vt hS λ ys z=>?_⟩,rfl⟩
        rcases hO a haP with q|⟨o,ys,q⟩ <;> (rw[q]at z;cases z)
      . simpa only[RD,RI]using r
    refine codeAny_mono ((Fn _ hKb (nsK hns) λ b o n1 n2 e=>base_of e (by
      cases q:H b with
      | none=>rfl
      | some u=>
                  rcases hA b (by rw[q];simp)with e'|e'
                  . exact absurd e' n2
                  . exact absurd e' n1)).run callerA [] s₁ H ⟨[.ref a],[]⟩ [.ref a] [.ref a] _ _ hr e0 (hbind s₁ (.ref a)) (.cons rfl .nil) hsp) λ r s' h=>?_
    cases r with
    | error e=>exact h.elim
    | ok fl=>
      cases fl with
      | next=>exact False.elim h
      | brk=>exact False.elim h
      | cont=>exact False.elim h
      | ret u=>
        obtain⟨v,H',os,bare,un,hok',r',q⟩:=h
        have q':v=.bl true:=q
        subst q'
        obtain rfl:u=Value.bool true:=r'
        have keep:∀ b o,b ∉ ts.map (·.1)->s₁.heap.get? b=some o->s'.heap.get? b=some o:=λ b o nb e=>by
          cases q:H b with
          | none=>exact un.keep b o e q (by intro z;exact absurd (show b ∈ ([]:List Addr)from z) (by simp)) (by simp)
          | some u=>
            rcases hO b nb with z|⟨ob,xs,z⟩
            . rw[q]at z;cases z
            . have z2:=un.frzs b ob _ z
              obtain⟨e1,_⟩:=hok b _ z
              obtain⟨e2,_⟩:=hok' b _ z2
              rw[e]at e1;cases e1
              exact e2
        refine⟨rfl,⟨λ b o e=>?_,λ b o e=>?_⟩,os,bare⟩
        . by_cases nb:b ∈ ts.map (·.1)
          . obtain⟨cc,tb⟩:=hT b nb
            obtain⟨more,hm⟩:=un.tbls b #[] (hHP b nb)
            have hb':s'.heap.get? b=some (tabObj (#[] ++ more)):=hok' b _ hm
            rw[hP b nb]at e;cases e
            exact .inr (.inl ⟨tb.isCodeTable,rfl,#[],more,rfl,hb'⟩)
          . exact .inl (keep b o nb e)
        . by_cases nb:b ∈ ts.map (·.1)
          . obtain⟨more,hm⟩:=un.tbls b #[] (hHP b nb)
            exact⟨_,hok' b _ hm⟩
          . exact⟨o,keep b o nb e⟩
  cases hk:K.lookup a with
  | some o=>
    have e:=KX a o hk
    rw[ha]at e
    cases e
    refine core (λ b=>if b ∈ ts.map (·.1)then some (.tbl #[])else none) (λ b nb=>.inl (if_neg nb)) (λ P hp=>if_pos hp) (.inr ⟨_,vs.toArray,_,hk,rfl,rfl,rfl,by rw[List.size_toArray,lenV];exact hl,by simpa using rv⟩) (λ b u z=>?_) (λ b z=>?_) λ z=>absurd (if_neg haP) z
    . by_cases hb:b ∈ ts.map (·.1)
      . have z':=(if_pos hb).symm.trans z
        cases z'
        exact hP b hb
      . have z':=(if_neg hb).symm.trans z
        cases z'
    . by_cases hb:b ∈ ts.map (·.1)
      . exact .inr hb
      . exact absurd (if_neg hb) z
  | none=>
    refine core (λ b=>if b ∈ ts.map (·.1)then some (.tbl #[])else if b=a then some (.frz { cls:=.type "list",data:=.seq vs.toArray } (.lst (ns.map V.int)))else none) (λ b nb=>?_) (λ P hp=>if_pos hp) (.inl (.inr ⟨{ cls:=.type "list",data:=.seq vs.toArray },(if_neg haP).trans (if_pos rfl)⟩)) (λ b u z=>?_) (λ b z=>?_) λ _=>hk
    . rw[if_neg nb]
      by_cases hb:b=a
      . exact .inr ⟨_,_,if_pos hb⟩
      . exact .inl (if_neg hb)
    . by_cases hp:b ∈ ts.map (·.1)
      . have z':=(if_pos hp).symm.trans z
        cases z'
        exact hP b hp
      . have z:=(if_neg hp).symm.trans z
        by_cases hb:b=a
        . have z':=(if_pos hb).symm.trans z
          cases z'
          subst hb
          exact⟨ha,by rw[List.length_map];exact hl,vs,_,rv,ha⟩
        . have z':=(if_neg hb).symm.trans z
          cases z'
    . by_cases hp:b ∈ ts.map (·.1)
      . exact .inr hp
      . by_cases hb:b=a
        . exact .inl hb
        . exact absurd ((if_neg hp).trans (if_neg hb)) z
theorem walkL{l:PySem.W.OpenLaw}{n k:Nat}{q:Program}{loose:List Str}{XP:(Str->Option Value)->Heap->Prop}{YP:World->Heap->Prop}{d:DefRec}{K:Params->PySem.W.Frag}{F:List D->Hd->Option (D × Hd)}(xs:List (Str × Str × Nat × Nat))
    (hn:l.most=some n) (hn2:n <= sizeLine) (hdf:d.params.defaults=[]) (hr:Room k callerA) (hdr:∀ x ∈ xs,∃ dr,(recsOf q).find? (λ e=>e.name == x.1)=some dr)
    (hF:∀ ns:List Int,∃ hd',F [.ro ns] []=some (.im (.bl true),hd'))
    (hY:∀ (w:World) (h:Heap),YP w h->(K w.params).In h)
    (G:∀ (w:World) (mg:Str->Option Value) (fa:Addr) (h:Heap) (c P:Str->Addr),(K w.params).In h->h.Ns mainGlobals mg->mg d.name=some (.ref fa) ->
      (∀ x ∈ xs,h.get? (P x.1)=some (tabObj #[])/\CodeHd h (c x.1) (P x.1)/\∃ a o fd,mg x.1=some (.ref a)/\h.get? a=some o/\o.data=.func fd/\fd.code=.ref (c x.1)) ->
      (∃ g,(K w.params).lookup mainGlobals=some g)/\∃ fd:FuncData,(∀ (s:Shared) (u:Value),BindsTo s fd ⟨[u],[]⟩ [("_law_script",u)]) /\
        ∀ base:Heap,(Ad (K w.params) (xs.map λ x=>(P x.1,x.2))).In base->base.Ns mainGlobals mg->(∀ x ∈ xs,CodeHd base (c x.1) (P x.1))->(∀ x ∈ xs,base.BuiltinsAt mg (P x.1))->FnOk l.prog w (Ad (K w.params) (xs.map λ x=>(P x.1,x.2))) mg base CX0 k fa fd ["_law_script"] (spF (Ad (K w.params) (xs.map λ x=>(P x.1,x.2))) 1 F)) :
    PySem.W.WalkO q loose XP YP l.row.toRowW d [] (λ f vs=>PySem.call f vs):=by
  refine Att.attach_call hn hdf λ w s₀ s₁ mg mb fa o pm cd doc a vs ns Gr Y ho hd hcd hmg hobj hints hlen hg=>?_
  have KX:=hY w _ Y
  have each:∀ x:Str,∃ cp:Addr × Addr,(∃ y ∈ xs,y.1=x)->(∃ cc,s₁.heap.TableAt cc cp.2 #[])/\CodeHd s₁.heap cp.1 cp.2/\∃ a o fd,mg x=some (.ref a)/\s₁.heap.get? a=some o/\o.data=.func fd/\fd.code=.ref cp.1:=by
    intro x
    by_cases hx:∃ y ∈ xs,y.1=x
    . obtain⟨y,hy,rfl⟩:=hx
      obtain⟨dr,hdr⟩:=hdr y hy
      have hnm:dr.name=y.1:=beq_iff_eq.mp (List.find?_some (p:=λ e:DefRec=>e.name == y.1) hdr)
      obtain⟨a',o',fd',c,P,h1,h2,h3,h4,h5,h6⟩:=Gr.T.tab dr (List.mem_of_find?_eq_some hdr)
      rw[hnm]at h1
      exact⟨(c,P),λ _=>⟨⟨_,h6⟩,CodeHd.of h5 h6,a',o',fd',h1,h2,h3,h4⟩⟩
    . exact⟨(0,0),λ h=>absurd h hx⟩
  obtain⟨cp,hcp⟩:=Classical.skolem.mp each
  have hcp:∀ x ∈ xs,(∃ cc,s₁.heap.TableAt cc (cp x.1).2 #[])/\CodeHd s₁.heap (cp x.1).1 (cp x.1).2/\∃ a o fd,mg x.1=some (.ref a)/\s₁.heap.get? a=some o/\o.data=.func fd/\fd.code=.ref (cp x.1).1:=λ x hx=>hcp x.1 ⟨x,hx,rfl⟩
  have hts:∀ P ∈ (xs.map λ x=>((cp x.1).2,x.2)).map (·.1),∃ x ∈ xs,P=(cp x.1).2:=λ P hP=>by
    obtain⟨t,ht,rfl⟩:=List.mem_map.mp hP
    obtain⟨x,hx,rfl⟩:=List.mem_map.mp ht
    exact⟨x,hx,rfl⟩
  have hP:∀ x ∈ xs,s₁.heap.get? (cp x.1).2=some (tabObj #[]):=λ x hx=>by
    obtain⟨⟨cc,t⟩,_⟩:=hcp x hx;exact t.2
  have hmP:mainGlobals ∉ (xs.map λ x=>((cp x.1).2,x.2)).map (·.1):=λ z=>by
    obtain⟨x,hx,ez⟩:=hts _ z
    obtain⟨o,es,ep,e,dd,_⟩:=Gr.T.g
    rw[ez,hP x hx]at e;cases e;cases dd
  obtain⟨⟨g,hgl⟩,fd,hb,hFn⟩:=G w mg fa _ (λ x=>(cp x).1) (λ x=>(cp x).2) KX Gr.T.g hmg λ x hx=>⟨hP x hx,(hcp x hx).2⟩
  refine PR (ts:=xs.map λ x=>((cp x.1).2,x.2)) (K:=Ad (K w.params) (xs.map λ x=>((cp x.1).2,x.2))) (Td KX hgl hmP) Gr.T.g Gr.T.b Gr.T.builtins Gr.T.nolimit hg hobj hints (Nat.le_trans hlen hn2) hr (λ P hp=>by obtain⟨x,hx,rfl⟩:=hts P hp;exact(hcp x hx).1) (λ P hp=>Tc hmP hp) (Fx _ _) (λ base kb nb keep=>hFn base kb nb (λ x hx=>?_) λ x hx=>?_) hb (hF ns)
  . obtain⟨oc,vs',file,tf,flags,tg,inF,text,tt,e1,r1,r2,r3,r4,r5,r6,r7,r8,hne⟩:=(hcp x hx).2.1
    have hn:(cp x.1).1 ∉ (xs.map λ x=>((cp x.1).2,x.2)).map (·.1):=λ z=>by
      obtain⟨y,hy,ez⟩:=hts _ z
      rw[ez,hP y hy]at e1;cases e1;cases r1
    exact⟨oc,vs',file,tf,flags,tg,inF,text,tt,keep (cp x.1).1 oc hn (λ z=>by rw[z,hobj]at e1;cases e1;exact absurd (show Value.type "list"=Value.type "code" from r1) (by decide)) e1,r1,r2,r3,r4,r5,r6,r7,r8,hne⟩
  . obtain⟨bm,ob,b1,b2,b3,b4,b5,b6⟩:=Gr.T.bmain
    have nP:∀ y ∈ xs,bm ≠ (cp y.1).2:=λ y hy z=>by rw[z,hP y hy]at b3;cases b3;cases b4
    have hn:bm ∉ (xs.map λ x=>((cp x.1).2,x.2)).map (·.1):=λ z=>by
      obtain⟨y,hy,ez⟩:=hts _ z
      exact nP y hy ez
    refine⟨bm,ob,b1,b2,λ z=>?_,nP x hx,keep bm ob hn (λ z=>by rw[z,hobj]at b3;cases b3;exact absurd (show Value.type "list"=Value.type "module" from b4) (by decide)) b3,b4,b5,b6⟩
    obtain⟨o,es,ep,e,dd,_⟩:=Gr.T.g
    rw[<- z,b3]at e;cases e;rw[b6]at dd;cases dd
noncomputable def NT(o:Obj):Option Addr:=match o.data with
  | .fields vs=>(match (vs[11]?:Option Value)with
    | some (Value.ref P)=>some P
    | _=>none)
  | _=>none
theorem Oh{K:PySem.W.Frag}{h:Heap}{c P p:Addr}{o:Obj}(X:K.In h)(hc:CodeHd h c P)(k:K.lookup c=some o)(e:NT o=some p):P=p:=by
  obtain⟨o',vs,file,tf,flags,tg,inF,text,tt,e1,e2,e3,e4,_⟩:=hc
  have:=X _ _ k
  rw[e1]at this;cases this
  simp only[NT,e3,e4]at e
  exact Option.some.inj e
end L2
namespace T41
open PySem L2 PySem.W PyProof.Rows
noncomputable abbrev x_by_dues:Str × Str × Nat × Nat:=("by_dues",((("by_dues":Str) ++ ".<locals>.") ++ "<lambda>"),47,41)
noncomputable abbrev x_put_out:Str × Str × Nat × Nat:=("put_out",((("put_out":Str) ++ ".<locals>.") ++ "<lambda>"),107,38)
noncomputable abbrev xS:List (Str × Str × Nat × Nat):=[x_by_dues,x_put_out]
noncomputable abbrev tS(P:Str->Addr):List Tb:=xS.map λ x=>(P x.1,x.2)
theorem all_mk{l:OpenLaw}{w:World}{K:Frag}{h:Heap}{mg:Str->Option Value}{fa f0 f1 f2 f3 f4 f5 f6 f7 f8 f9 f10 f11 f12 f13 f14 f15 f16 f17 f18 f19 f20 f21 f22 f23 f24 f25 f26 f27 f28 f29 f30:Addr}(X:K.In h)(G:h.Ns mainGlobals mg){c P:Str->Addr}(hfa:mg "law"=some (.ref fa))(hx:∀ x ∈ xS,h.get? (P x.1)=some (tabObj #[])/\CodeHd h (c x.1) (P x.1)/\∃ a o fd,mg x.1=some (.ref a)/\h.get? a=some o/\o.data=.func fd/\fd.code=.ref (c x.1))
    {od0 an0 od1 an1 od2 an2 od3 an3 od4 an4 od5 an5 od6 an6 od7 an7 od8 an8 od9 an9 od10 an10 od11 an11 od12 an12 od13 an13 od14 an14 od15 an15 od16 an16 od17 an17 od18 an18 od19 an19 od20 an20 od21 an21 od22 an22 od23 an23 od24 an24 od25 an25 od26 an26 od27 an27 od28 an28 od29 an29 od30 an30:Option Addr} {sl0 sl1 sl2 sl3 sl4 sl5 sl6 sl7 sl8 sl9 sl10 sl11 sl12 sl13 sl14 sl15 sl16 sl17 sl18 sl19 sl20 sl21 sl22 sl23 sl24 sl25 sl26 sl27 sl28 sl29 sl30:Array (Option Value)} {oc0 kV0 dc0 pm0 cd0 ct0 oc1 kV1 dc1 pm1 cd1 ct1 oc2 kV2 dc2 pm2 cd2 ct2 oc3 kV3 dc3 pm3 cd3 ct3 oc4 kV4 dc4 pm4 cd4 ct4 oc5 kV5 dc5 pm5 cd5 ct5 oc6 kV6 dc6 pm6 cd6 ct6 oc7 kV7 dc7 pm7 cd7 ct7 oc8 kV8 dc8 pm8 cd8 ct8 oc9 kV9 dc9 pm9 cd9 ct9 oc10 kV10 dc10 pm10 cd10 ct10 oc11 kV11 dc11 pm11 cd11 ct11 oc12 kV12 dc12 pm12 cd12 ct12 oc13 kV13 dc13 pm13 cd13 ct13 oc14 kV14 dc14 pm14 cd14 ct14 oc15 kV15 dc15 pm15 cd15 ct15 oc16 kV16 dc16 pm16 cd16 ct16 oc17 kV17 dc17 pm17 cd17 ct17 oc18 kV18 dc18 pm18 cd18 ct18 oc19 kV19 dc19 pm19 cd19 ct19 oc20 kV20 dc20 pm20 cd20 ct20 oc21 kV21 dc21 pm21 cd21 ct21 oc22 kV22 dc22 pm22 cd22 ct22 oc23 kV23 dc23 pm23 cd23 ct23 oc24 kV24 dc24 pm24 cd24 ct24 oc25 kV25 dc25 pm25 cd25 ct25 oc26 kV26 dc26 pm26 cd26 ct26 oc27 kV27 dc27 pm27 cd27 ct27 oc28 kV28 dc28 pm28 cd28 ct28 oc29 kV29 dc29 pm29 cd29 ct29 oc30 kV30 dc30 pm30 cd30 ct30:Value}
    {p11 ca11 p21 ca21:Addr} {ob11 ob21:Obj} (a0:nsIn K mainGlobals "law"=some (some (.ref f0))) (l0:K.lookup f0=some ⟨oc0,od0,.func (fnOf "law" "law" (AZ FA) (AV FA) (A9 FA) .none kV0 dc0 pm0 an0 cd0 ct0),sl0⟩) (c0:codeIn K cd0 "law"=true) (k0:keepIn K (.ref f0)=true)
    (a1:nsIn K mainGlobals "same_coming"=some (some (.ref f1))) (l1:K.lookup f1=some ⟨oc1,od1,.func (fnOf "same_coming" "same_coming" (AZ Bi) (AV Bi) (A9 Bi) .none kV1 dc1 pm1 an1 cd1 ct1),sl1⟩) (c1:codeIn K cd1 "same_coming"=true) (k1:keepIn K (.ref f1)=true)
    (a2:nsIn K mainGlobals "one_coming"=some (some (.ref f2))) (l2:K.lookup f2=some ⟨oc2,od2,.func (fnOf "one_coming" "one_coming" (AZ Bt) (AV Bt) (A9 Bt) .none kV2 dc2 pm2 an2 cd2 ct2),sl2⟩) (c2:codeIn K cd2 "one_coming"=true) (k2:keepIn K (.ref f2)=true)
    (a3:nsIn K mainGlobals "refuse_other_costs"=some (some (.ref f3))) (l3:K.lookup f3=some ⟨oc3,od3,.func (fnOf "refuse_other_costs" "refuse_other_costs" (AZ Aw) (AV Aw) (A9 Aw) .none kV3 dc3 pm3 an3 cd3 ct3),sl3⟩) (c3:codeIn K cd3 "refuse_other_costs"=true) (k3:keepIn K (.ref f3)=true)
    (a4:nsIn K mainGlobals "late_coming"=some (some (.ref f4))) (l4:K.lookup f4=some ⟨oc4,od4,.func (fnOf "late_coming" "late_coming" (AZ BB) (AV BB) (A9 BB) .none kV4 dc4 pm4 an4 cd4 ct4),sl4⟩) (c4:codeIn K cd4 "late_coming"=true) (k4:keepIn K (.ref f4)=true)
    (a5:nsIn K mainGlobals "weight_of"=some (some (.ref f5))) (l5:K.lookup f5=some ⟨oc5,od5,.func (fnOf "weight_of" "weight_of" (AZ Bp) (AV Bp) (A9 Bp) .none kV5 dc5 pm5 an5 cd5 ct5),sl5⟩) (c5:codeIn K cd5 "weight_of"=true) (k5:keepIn K (.ref f5)=true)
    (a6:nsIn K mainGlobals "full_weight"=some (some (.ref f6))) (l6:K.lookup f6=some ⟨oc6,od6,.func (fnOf "full_weight" "full_weight" (AZ BM) (AV BM) (A9 BM) .none kV6 dc6 pm6 an6 cd6 ct6),sl6⟩) (c6:codeIn K cd6 "full_weight"=true) (k6:keepIn K (.ref f6)=true)
    (a7:nsIn K mainGlobals "greatest_weight"=some (some (.ref f7))) (l7:K.lookup f7=some ⟨oc7,od7,.func (fnOf "greatest_weight" "greatest_weight" (AZ BE) (AV BE) (A9 BE) .none kV7 dc7 pm7 an7 cd7 ct7),sl7⟩) (c7:codeIn K cd7 "greatest_weight"=true) (k7:keepIn K (.ref f7)=true)
    (a8:nsIn K mainGlobals "is_number"=some (some (.ref f8))) (l8:K.lookup f8=some ⟨oc8,od8,.func (fnOf "is_number" "is_number" (AZ CD) (AV CD) (A9 CD) .none kV8 dc8 pm8 an8 cd8 ct8),sl8⟩) (c8:codeIn K cd8 "is_number"=true) (k8:keepIn K (.ref f8)=true)
    (a9:nsIn K mainGlobals "is_tuple_of"=some (some (.ref f9))) (l9:K.lookup f9=some ⟨oc9,od9,.func (fnOf "is_tuple_of" "is_tuple_of" (AZ Bk) (AV Bk) (A9 Bk) .none kV9 dc9 pm9 an9 cd9 ct9),sl9⟩) (c9:codeIn K cd9 "is_tuple_of"=true) (k9:keepIn K (.ref f9)=true)
    (a10:nsIn K mainGlobals "look_at_shape"=some (some (.ref f10))) (l10:K.lookup f10=some ⟨oc10,od10,.func (fnOf "look_at_shape" "look_at_shape" (AZ BR) (AV BR) (A9 BR) .none kV10 dc10 pm10 an10 cd10 ct10),sl10⟩) (c10:codeIn K cd10 "look_at_shape"=true) (k10:keepIn K (.ref f10)=true)
    (a11:nsIn K mainGlobals "by_dues"=some (some (.ref f11))) (l11:K.lookup f11=some ⟨oc11,od11,.func (fnOf "by_dues" "by_dues" (AZ BY) (AV BY) (A9 BY) .none kV11 dc11 pm11 an11 cd11 ct11),sl11⟩) (c11:codeIn K cd11 "by_dues"=true) (k11:keepIn K (.ref f11)=true)
    (a12:nsIn K mainGlobals "no_more"=some (some (.ref f12))) (l12:K.lookup f12=some ⟨oc12,od12,.func (fnOf "no_more" "no_more" (AZ CB) (AV CB) (A9 CB) .none kV12 dc12 pm12 an12 cd12 ct12),sl12⟩) (c12:codeIn K cd12 "no_more"=true) (k12:keepIn K (.ref f12)=true)
    (a13:nsIn K mainGlobals "put_behind"=some (some (.ref f13))) (l13:K.lookup f13=some ⟨oc13,od13,.func (fnOf "put_behind" "put_behind" (AZ Bc) (AV Bc) (A9 Bc) .none kV13 dc13 pm13 an13 cd13 ct13),sl13⟩) (c13:codeIn K cd13 "put_behind"=true) (k13:keepIn K (.ref f13)=true)
    (a14:nsIn K mainGlobals "look_at_row"=some (some (.ref f14))) (l14:K.lookup f14=some ⟨oc14,od14,.func (fnOf "look_at_row" "look_at_row" (AZ Bj) (AV Bj) (A9 Bj) .none kV14 dc14 pm14 an14 cd14 ct14),sl14⟩) (c14:codeIn K cd14 "look_at_row"=true) (k14:keepIn K (.ref f14)=true)
    (a15:nsIn K mainGlobals "look_at_places"=some (some (.ref f15))) (l15:K.lookup f15=some ⟨oc15,od15,.func (fnOf "look_at_places" "look_at_places" (AZ BJ) (AV BJ) (A9 BJ) .none kV15 dc15 pm15 an15 cd15 ct15),sl15⟩) (c15:codeIn K cd15 "look_at_places"=true) (k15:keepIn K (.ref f15)=true)
    (a16:nsIn K mainGlobals "lets_table"=some (some (.ref f16))) (l16:K.lookup f16=some ⟨oc16,od16,.func (fnOf "lets_table" "lets_table" (AZ Bu) (AV Bu) (A9 Bu) .none kV16 dc16 pm16 an16 cd16 ct16),sl16⟩) (c16:codeIn K cd16 "lets_table"=true) (k16:keepIn K (.ref f16)=true)
    (a17:nsIn K mainGlobals "next_row"=some (some (.ref f17))) (l17:K.lookup f17=some ⟨oc17,od17,.func (fnOf "next_row" "next_row" (AZ Cg) (AV Cg) (A9 Cg) .none kV17 dc17 pm17 an17 cd17 ct17),sl17⟩) (c17:codeIn K cd17 "next_row"=true) (k17:keepIn K (.ref f17)=true)
    (a18:nsIn K mainGlobals "table_of"=some (some (.ref f18))) (l18:K.lookup f18=some ⟨oc18,od18,.func (fnOf "table_of" "table_of" (AZ Cf) (AV Cf) (A9 Cf) .none kV18 dc18 pm18 an18 cd18 ct18),sl18⟩) (c18:codeIn K cd18 "table_of"=true) (k18:keepIn K (.ref f18)=true)
    (a19:nsIn K mainGlobals "length_of"=some (some (.ref f19))) (l19:K.lookup f19=some ⟨oc19,od19,.func (fnOf "length_of" "length_of" (AZ CC) (AV CC) (A9 CC) .none kV19 dc19 pm19 an19 cd19 ct19),sl19⟩) (c19:codeIn K cd19 "length_of"=true) (k19:keepIn K (.ref f19)=true)
    (a20:nsIn K mainGlobals "one_weight"=some (some (.ref f20))) (l20:K.lookup f20=some ⟨oc20,od20,.func (fnOf "one_weight" "one_weight" (AZ Bs) (AV Bs) (A9 Bs) .none kV20 dc20 pm20 an20 cd20 ct20),sl20⟩) (c20:codeIn K cd20 "one_weight"=true) (k20:keepIn K (.ref f20)=true)
    (a21:nsIn K mainGlobals "put_out"=some (some (.ref f21))) (l21:K.lookup f21=some ⟨oc21,od21,.func (fnOf "put_out" "put_out" (AZ Br) (AV Br) (A9 Br) .none kV21 dc21 pm21 an21 cd21 ct21),sl21⟩) (c21:codeIn K cd21 "put_out"=true) (k21:keepIn K (.ref f21)=true)
    (a22:nsIn K mainGlobals "_law_source"=some (some (.ref f22))) (l22:K.lookup f22=some ⟨oc22,od22,.func (fnOf "_law_source" "_law_source" (AZ Dg) (AV Dg) (A9 Dg) .none kV22 dc22 pm22 an22 cd22 ct22),sl22⟩) (c22:codeIn K cd22 "_law_source"=true) (k22:keepIn K (.ref f22)=true)
    (a23:nsIn K mainGlobals "_law_pick"=some (some (.ref f23))) (l23:K.lookup f23=some ⟨oc23,od23,.func (fnOf "_law_pick" "_law_pick" (AZ EB) (AV EB) (A9 EB) .none kV23 dc23 pm23 an23 cd23 ct23),sl23⟩) (c23:codeIn K cd23 "_law_pick"=true) (k23:keepIn K (.ref f23)=true)
    (a24:nsIn K mainGlobals "_law_late_works"=some (some (.ref f24))) (l24:K.lookup f24=some ⟨oc24,od24,.func (fnOf "_law_late_works" "_law_late_works" (AZ Bv) (AV Bv) (A9 Bv) .none kV24 dc24 pm24 an24 cd24 ct24),sl24⟩) (c24:codeIn K cd24 "_law_late_works"=true) (k24:keepIn K (.ref f24)=true)
    (a25:nsIn K mainGlobals "_law_far"=some (some (.ref f25))) (l25:K.lookup f25=some ⟨oc25,od25,.func (fnOf "_law_far" "_law_far" (AZ Fz) (AV Fz) (A9 Fz) .none kV25 dc25 pm25 an25 cd25 ct25),sl25⟩) (c25:codeIn K cd25 "_law_far"=true) (k25:keepIn K (.ref f25)=true)
    (a26:nsIn K mainGlobals "_law_by_dues"=some (some (.ref f26))) (l26:K.lookup f26=some ⟨oc26,od26,.func (fnOf "_law_by_dues" "_law_by_dues" (AZ C9) (AV C9) (A9 C9) .none kV26 dc26 pm26 an26 cd26 ct26),sl26⟩) (c26:codeIn K cd26 "_law_by_dues"=true) (k26:keepIn K (.ref f26)=true)
    (a27:nsIn K mainGlobals "_law_sets"=some (some (.ref f27))) (l27:K.lookup f27=some ⟨oc27,od27,.func (fnOf "_law_sets" "_law_sets" (AZ FF) (AV FF) (A9 FF) .none kV27 dc27 pm27 an27 cd27 ct27),sl27⟩) (c27:codeIn K cd27 "_law_sets"=true) (k27:keepIn K (.ref f27)=true)
    (a28:nsIn K mainGlobals "_law_is_set"=some (some (.ref f28))) (l28:K.lookup f28=some ⟨oc28,od28,.func (fnOf "_law_is_set" "_law_is_set" (AZ Dh) (AV Dh) (A9 Dh) .none kV28 dc28 pm28 an28 cd28 ct28),sl28⟩) (c28:codeIn K cd28 "_law_is_set"=true) (k28:keepIn K (.ref f28)=true)
    (a29:nsIn K mainGlobals "_law_end_in_time"=some (some (.ref f29))) (l29:K.lookup f29=some ⟨oc29,od29,.func (fnOf "_law_end_in_time" "_law_end_in_time" (AZ Bl) (AV Bl) (A9 Bl) .none kV29 dc29 pm29 an29 cd29 ct29),sl29⟩) (c29:codeIn K cd29 "_law_end_in_time"=true) (k29:keepIn K (.ref f29)=true)
    (a30:nsIn K mainGlobals "_law_weighted"=some (some (.ref f30))) (l30:K.lookup f30=some ⟨oc30,od30,.func (fnOf "_law_weighted" "_law_weighted" (AZ Ce) (AV Ce) (A9 Ce) .none kV30 dc30 pm30 an30 cd30 ct30),sl30⟩) (c30:codeIn K cd30 "_law_weighted"=true) (k30:keepIn K (.ref f30)=true)
    (z_list:nsIn K mainGlobals "list"=some none)
    (z_tuple:nsIn K mainGlobals "tuple"=some none)
    (z_len:nsIn K mainGlobals "len"=some none)
    (z_range:nsIn K mainGlobals "range"=some none)
    (z_repr:nsIn K mainGlobals "repr"=some none)
    (z_sum:nsIn K mainGlobals "sum"=some none)
    (z_min:nsIn K mainGlobals "min"=some none)
    (z_max:nsIn K mainGlobals "max"=some none)
    (z_abs:nsIn K mainGlobals "abs"=some none)
    (z_all:nsIn K mainGlobals "all"=some none)
    (z_any:nsIn K mainGlobals "any"=some none)
    (z_sorted:nsIn K mainGlobals "sorted"=some none)
    (z_zip:nsIn K mainGlobals "zip"=some none)
    (z_isinstance:nsIn K mainGlobals "isinstance"=some none)
    (z_int:nsIn K mainGlobals "int"=some none)
    (z_bool:nsIn K mainGlobals "bool"=some none)
    (z_str:nsIn K mainGlobals "str"=some none)
    (z_set:nsIn K mainGlobals "set"=some none)
    (z_enumerate:nsIn K mainGlobals "enumerate"=some none)
    (z_reversed:nsIn K mainGlobals "reversed"=some none)
    (z_dict:nsIn K mainGlobals "dict"=some none)
    (u11:cd11=Value.ref ca11) (t11:K.lookup ca11=some ob11) (v11:NT ob11=some p11)
    (u21:cd21=Value.ref ca21) (t21:K.lookup ca21=some ob21) (v21:NT ob21=some p21)
    (tn:([p11,p21]:List Addr).Nodup) :
    (∃ g,K.lookup mainGlobals=some g)/\∃ fd:FuncData,(∀ (s:Shared) (v:Value),BindsTo s fd ⟨[v],[]⟩ [("_law_script",v)])/\∀ base:Heap,(Ad K (tS P)).In base->base.Ns mainGlobals mg->(∀ x ∈ xS,CodeHd base (c x.1) (P x.1))->(∀ x ∈ xS,base.BuiltinsAt mg (P x.1))->FnOk l.prog w (Ad K (tS P)) mg base CX0 7 fa fd ["_law_script"] (spF (Ad K (tS P)) 1 F_law):=by
  have hP:∀ P' ∈ (tS P).map (·.1),h.get? P'=some (tabObj #[]):=λ P' hp=>by
    obtain⟨t,ht,rfl⟩:=List.mem_map.mp hp
    obtain⟨x,hxx,rfl⟩:=List.mem_map.mp ht
    exact(hx x hxx).1
  have e:=hfa.symm.trans (mg_of X G a0)
  cases e
  have F0:=Fun.mark (ts:=tS P) (As (st:=FA) l0 c0 k0) X hP
  have D0:DefAt (Ad K (tS P)) mg "law" FA _ _ ["_law_script"]:=⟨F0,mg_of X G a0,F0.binds (ps:=["_law_script"]) λ _ _ _ _ _ _ us hl=>match us,hl with | [_],_=>rfl⟩
  have F1:=Fun.mark (ts:=tS P) (As (st:=Bi) l1 c1 k1) X hP
  have D1:DefAt (Ad K (tS P)) mg "same_coming" Bi _ _ ["works"]:=⟨F1,mg_of X G a1,F1.binds (ps:=["works"]) λ _ _ _ _ _ _ us hl=>match us,hl with | [_],_=>rfl⟩
  have F2:=Fun.mark (ts:=tS P) (As (st:=Bt) l2 c2 k2) X hP
  have D2:DefAt (Ad K (tS P)) mg "one_coming" Bt _ _ ["works"]:=⟨F2,mg_of X G a2,F2.binds (ps:=["works"]) λ _ _ _ _ _ _ us hl=>match us,hl with | [_],_=>rfl⟩
  have F3:=Fun.mark (ts:=tS P) (As (st:=Aw) l3 c3 k3) X hP
  have D3:DefAt (Ad K (tS P)) mg "refuse_other_costs" Aw _ _ ["works","word"]:=⟨F3,mg_of X G a3,F3.binds (ps:=["works","word"]) λ _ _ _ _ _ _ us hl=>match us,hl with | [_,_],_=>rfl⟩
  have F4:=Fun.mark (ts:=tS P) (As (st:=BB) l4 c4 k4) X hP
  have D4:DefAt (Ad K (tS P)) mg "late_coming" BB _ _ ["works"]:=⟨F4,mg_of X G a4,F4.binds (ps:=["works"]) λ _ _ _ _ _ _ us hl=>match us,hl with | [_],_=>rfl⟩
  have F5:=Fun.mark (ts:=tS P) (As (st:=Bp) l5 c5 k5) X hP
  have D5:DefAt (Ad K (tS P)) mg "weight_of" Bp _ _ ["work"]:=⟨F5,mg_of X G a5,F5.binds (ps:=["work"]) λ _ _ _ _ _ _ us hl=>match us,hl with | [_],_=>rfl⟩
  have F6:=Fun.mark (ts:=tS P) (As (st:=BM) l6 c6 k6) X hP
  have D6:DefAt (Ad K (tS P)) mg "full_weight" BM _ _ ["works"]:=⟨F6,mg_of X G a6,F6.binds (ps:=["works"]) λ _ _ _ _ _ _ us hl=>match us,hl with | [_],_=>rfl⟩
  have F7:=Fun.mark (ts:=tS P) (As (st:=BE) l7 c7 k7) X hP
  have D7:DefAt (Ad K (tS P)) mg "greatest_weight" BE _ _ ["table"]:=⟨F7,mg_of X G a7,F7.binds (ps:=["table"]) λ _ _ _ _ _ _ us hl=>match us,hl with | [_],_=>rfl⟩
  have F8:=Fun.mark (ts:=tS P) (As (st:=CD) l8 c8 k8) X hP
  have D8:DefAt (Ad K (tS P)) mg "is_number" CD _ _ ["thing"]:=⟨F8,mg_of X G a8,F8.binds (ps:=["thing"]) λ _ _ _ _ _ _ us hl=>match us,hl with | [_],_=>rfl⟩
  have F9:=Fun.mark (ts:=tS P) (As (st:=Bk) l9 c9 k9) X hP
  have D9:DefAt (Ad K (tS P)) mg "is_tuple_of" Bk _ _ ["many","thing"]:=⟨F9,mg_of X G a9,F9.binds (ps:=["many","thing"]) λ _ _ _ _ _ _ us hl=>match us,hl with | [_,_],_=>rfl⟩
  have F10:=Fun.mark (ts:=tS P) (As (st:=BR) l10 c10 k10) X hP
  have D10:DefAt (Ad K (tS P)) mg "look_at_shape" BR _ _ ["works","thing","path"]:=⟨F10,mg_of X G a10,F10.binds (ps:=["works","thing","path"]) λ _ _ _ _ _ _ us hl=>match us,hl with | [_,_,_],_=>rfl⟩
  have F11:=Fun.mark (ts:=tS P) (As (st:=BY) l11 c11 k11) X hP
  have D11:DefAt (Ad K (tS P)) mg "by_dues" BY _ _ ["works"]:=⟨F11,mg_of X G a11,F11.binds (ps:=["works"]) λ _ _ _ _ _ _ us hl=>match us,hl with | [_],_=>rfl⟩
  have F12:=Fun.mark (ts:=tS P) (As (st:=CB) l12 c12 k12) X hP
  have D12:DefAt (Ad K (tS P)) mg "no_more" CB _ _ ["one","other"]:=⟨F12,mg_of X G a12,F12.binds (ps:=["one","other"]) λ _ _ _ _ _ _ us hl=>match us,hl with | [_,_],_=>rfl⟩
  have F13:=Fun.mark (ts:=tS P) (As (st:=Bc) l13 c13 k13) X hP
  have D13:DefAt (Ad K (tS P)) mg "put_behind" Bc _ _ ["row","work","w"]:=⟨F13,mg_of X G a13,F13.binds (ps:=["row","work","w"]) λ _ _ _ _ _ _ us hl=>match us,hl with | [_,_,_],_=>rfl⟩
  have F14:=Fun.mark (ts:=tS P) (As (st:=Bj) l14 c14 k14) X hP
  have D14:DefAt (Ad K (tS P)) mg "look_at_row" Bj _ _ ["work","above","row","path"]:=⟨F14,mg_of X G a14,F14.binds (ps:=["work","above","row","path"]) λ _ _ _ _ _ _ us hl=>match us,hl with | [_,_,_,_],_=>rfl⟩
  have F15:=Fun.mark (ts:=tS P) (As (st:=BJ) l15 c15 k15) X hP
  have D15:DefAt (Ad K (tS P)) mg "look_at_places" BJ _ _ ["works","table","path"]:=⟨F15,mg_of X G a15,F15.binds (ps:=["works","table","path"]) λ _ _ _ _ _ _ us hl=>match us,hl with | [_,_,_],_=>rfl⟩
  have F16:=Fun.mark (ts:=tS P) (As (st:=Bu) l16 c16 k16) X hP
  have D16:DefAt (Ad K (tS P)) mg "lets_table" Bu _ _ ["works","thing"]:=⟨F16,mg_of X G a16,F16.binds (ps:=["works","thing"]) λ _ _ _ _ _ _ us hl=>match us,hl with | [_,_],_=>rfl⟩
  have F17:=Fun.mark (ts:=tS P) (As (st:=Cg) l17 c17 k17) X hP
  have D17:DefAt (Ad K (tS P)) mg "next_row" Cg _ _ ["above","work"]:=⟨F17,mg_of X G a17,F17.binds (ps:=["above","work"]) λ _ _ _ _ _ _ us hl=>match us,hl with | [_,_],_=>rfl⟩
  have F18:=Fun.mark (ts:=tS P) (As (st:=Cf) l18 c18 k18) X hP
  have D18:DefAt (Ad K (tS P)) mg "table_of" Cf _ _ ["works"]:=⟨F18,mg_of X G a18,F18.binds (ps:=["works"]) λ _ _ _ _ _ _ us hl=>match us,hl with | [_],_=>rfl⟩
  have F19:=Fun.mark (ts:=tS P) (As (st:=CC) l19 c19 k19) X hP
  have D19:DefAt (Ad K (tS P)) mg "length_of" CC _ _ ["works","some"]:=⟨F19,mg_of X G a19,F19.binds (ps:=["works","some"]) λ _ _ _ _ _ _ us hl=>match us,hl with | [_,_],_=>rfl⟩
  have F20:=Fun.mark (ts:=tS P) (As (st:=Bs) l20 c20 k20) X hP
  have D20:DefAt (Ad K (tS P)) mg "one_weight" Bs _ _ ["works"]:=⟨F20,mg_of X G a20,F20.binds (ps:=["works"]) λ _ _ _ _ _ _ us hl=>match us,hl with | [_],_=>rfl⟩
  have F21:=Fun.mark (ts:=tS P) (As (st:=Br) l21 c21 k21) X hP
  have D21:DefAt (Ad K (tS P)) mg "put_out" Br _ _ ["works"]:=⟨F21,mg_of X G a21,F21.binds (ps:=["works"]) λ _ _ _ _ _ _ us hl=>match us,hl with | [_],_=>rfl⟩
  have F22:=Fun.mark (ts:=tS P) (As (st:=Dg) l22 c22 k22) X hP
  have D22:DefAt (Ad K (tS P)) mg "_law_source" Dg _ _ ["_law_script"]:=⟨F22,mg_of X G a22,F22.binds (ps:=["_law_script"]) λ _ _ _ _ _ _ us hl=>match us,hl with | [_],_=>rfl⟩
  have F23:=Fun.mark (ts:=tS P) (As (st:=EB) l23 c23 k23) X hP
  have D23:DefAt (Ad K (tS P)) mg "_law_pick" EB _ _ ["_law_source_here","_law_many"]:=⟨F23,mg_of X G a23,F23.binds (ps:=["_law_source_here","_law_many"]) λ _ _ _ _ _ _ us hl=>match us,hl with | [_,_],_=>rfl⟩
  have F24:=Fun.mark (ts:=tS P) (As (st:=Bv) l24 c24 k24) X hP
  have D24:DefAt (Ad K (tS P)) mg "_law_late_works" Bv _ _ ["_law_source_here","_law_most"]:=⟨F24,mg_of X G a24,F24.binds (ps:=["_law_source_here","_law_most"]) λ _ _ _ _ _ _ us hl=>match us,hl with | [_,_],_=>rfl⟩
  have F25:=Fun.mark (ts:=tS P) (As (st:=Fz) l25 c25 k25) X hP
  have D25:DefAt (Ad K (tS P)) mg "_law_far" Fz _ _ ["_law_source_here","_law_works"]:=⟨F25,mg_of X G a25,F25.binds (ps:=["_law_source_here","_law_works"]) λ _ _ _ _ _ _ us hl=>match us,hl with | [_,_],_=>rfl⟩
  have F26:=Fun.mark (ts:=tS P) (As (st:=C9) l26 c26 k26) X hP
  have D26:DefAt (Ad K (tS P)) mg "_law_by_dues" C9 _ _ ["_law_works"]:=⟨F26,mg_of X G a26,F26.binds (ps:=["_law_works"]) λ _ _ _ _ _ _ us hl=>match us,hl with | [_],_=>rfl⟩
  have F27:=Fun.mark (ts:=tS P) (As (st:=FF) l27 c27 k27) X hP
  have D27:DefAt (Ad K (tS P)) mg "_law_sets" FF _ _ ["_law_works"]:=⟨F27,mg_of X G a27,F27.binds (ps:=["_law_works"]) λ _ _ _ _ _ _ us hl=>match us,hl with | [_],_=>rfl⟩
  have F28:=Fun.mark (ts:=tS P) (As (st:=Dh) l28 c28 k28) X hP
  have D28:DefAt (Ad K (tS P)) mg "_law_is_set" Dh _ _ ["_law_many","_law_some"]:=⟨F28,mg_of X G a28,F28.binds (ps:=["_law_many","_law_some"]) λ _ _ _ _ _ _ us hl=>match us,hl with | [_,_],_=>rfl⟩
  have F29:=Fun.mark (ts:=tS P) (As (st:=Bl) l29 c29 k29) X hP
  have D29:DefAt (Ad K (tS P)) mg "_law_end_in_time" Bl _ _ ["_law_works","_law_some"]:=⟨F29,mg_of X G a29,F29.binds (ps:=["_law_works","_law_some"]) λ _ _ _ _ _ _ us hl=>match us,hl with | [_,_],_=>rfl⟩
  have F30:=Fun.mark (ts:=tS P) (As (st:=Ce) l30 c30 k30) X hP
  have D30:DefAt (Ad K (tS P)) mg "_law_weighted" Ce _ _ ["_law_works","_law_weight"]:=⟨F30,mg_of X G a30,F30.binds (ps:=["_law_works","_law_weight"]) λ _ _ _ _ _ _ us hl=>match us,hl with | [_,_],_=>rfl⟩
  have B:BltA mg:=⟨mg_none_of X G z_list,mg_none_of X G z_tuple,mg_none_of X G z_len,mg_none_of X G z_range,mg_none_of X G z_repr,mg_none_of X G z_sum,mg_none_of X G z_min,mg_none_of X G z_max,mg_none_of X G z_abs,mg_none_of X G z_all,mg_none_of X G z_any,mg_none_of X G z_sorted,mg_none_of X G z_zip,mg_none_of X G z_isinstance,mg_none_of X G z_int,mg_none_of X G z_bool,mg_none_of X G z_str,mg_none_of X G z_set,mg_none_of X G z_enumerate,mg_none_of X G z_reversed,mg_none_of X G z_dict⟩
  have hcd_by_dues:(cd11:Value)=.ref (c "by_dues"):=by
    obtain⟨_,_,a,ob,fd,h1,h2,h3,h4⟩:=hx _ (show x_by_dues ∈ xS by simp[xS])
    have e1:=h1.symm.trans (mg_of X G a11)
    cases e1
    have e2:=h2.symm.trans (X _ _ l11)
    cases e2
    cases h3
    exact h4
  have hcd_put_out:(cd21:Value)=.ref (c "put_out"):=by
    obtain⟨_,_,a,ob,fd,h1,h2,h3,h4⟩:=hx _ (show x_put_out ∈ xS by simp[xS])
    have e1:=h1.symm.trans (mg_of X G a21)
    cases e1
    have e2:=h2.symm.trans (X _ _ l21)
    cases e2
    cases h3
    exact h4
  have nd:((Ed (Ad K (tS P))).map (·.1)).Nodup:=by
    have q11:P "by_dues"=p11:=by
      have eq:ca11=c "by_dues":=by have:=u11.symm.trans hcd_by_dues;cases this;rfl
      subst eq
      exact Oh X (hx _ (show x_by_dues ∈ xS by simp[xS])).2.1 t11 v11
    have q21:P "put_out"=p21:=by
      have eq:ca21=c "put_out":=by have:=u21.symm.trans hcd_put_out;cases this;rfl
      subst eq
      exact Oh X (hx _ (show x_put_out ∈ xS by simp[xS])).2.1 t21 v21
    rw[Fx]
    show([P "by_dues",P "put_out"]:List Addr).Nodup
    rw[q11,q21]
    exact tn
  have hg:∃ g,K.lookup mainGlobals=some g:=by
    cases e:K.lookup mainGlobals with
    | some g=>exact⟨g,rfl⟩
    | none=>have z:=a0;unfold nsIn at z;rw[e]at z;cases z
  refine⟨hg,fnOf "law" "law" (AZ FA) (AV FA) (A9 FA) .none kV0 dc0 pm0 an0 cd0 ct0,λ s v=>.of_eq rfl,λ base _ _ hd bl=>?_⟩
  have LC_by_dues:LamC (Ad K (tS P)) mg base (fnOf "by_dues" "by_dues" (AZ BY) (AV BY) (A9 BY) .none kV11 dc11 pm11 an11 cd11 ct11) (c "by_dues") (P "by_dues") ((("by_dues":Str) ++ ".<locals>.") ++ "<lambda>") ⟨47,41,47,70⟩:=⟨hcd_by_dues,hd _ (show x_by_dues ∈ xS by simp[xS]),bl _ (show x_by_dues ∈ xS by simp[xS]),⟨47,41,0,0⟩,by rw[Fx];exact List.mem_map.mpr ⟨(P x_by_dues.1,x_by_dues.2),List.mem_map.mpr ⟨x_by_dues,by simp[xS],rfl⟩,rfl⟩,nd,rfl,rfl⟩
  have LC_put_out:LamC (Ad K (tS P)) mg base (fnOf "put_out" "put_out" (AZ Br) (AV Br) (A9 Br) .none kV21 dc21 pm21 an21 cd21 ct21) (c "put_out") (P "put_out") ((("put_out":Str) ++ ".<locals>.") ++ "<lambda>") ⟨107,38,107,63⟩:=⟨hcd_put_out,hd _ (show x_put_out ∈ xS by simp[xS]),bl _ (show x_put_out ∈ xS by simp[xS]),⟨107,38,0,0⟩,by rw[Fx];exact List.mem_map.mpr ⟨(P x_put_out.1,x_put_out.2),List.mem_map.mpr ⟨x_put_out,by simp[xS],rfl⟩,rfl⟩,nd,rfl,rfl⟩
  have G_same_coming:=T41.ok_same_coming (P:=l.prog) (w:=w) (base:=base) D1  B
  have G_one_coming:=T41.ok_one_coming (P:=l.prog) (w:=w) (base:=base) D2 D1 G_same_coming B
  have G_refuse_other_costs:=T41.ok_refuse_other_costs (P:=l.prog) (w:=w) (base:=base) D3  B
  have G_late_coming:=T41.ok_late_coming (P:=l.prog) (w:=w) (base:=base) D4 D2 G_one_coming D3 G_refuse_other_costs B
  have G_weight_of:=T41.ok_weight_of (P:=l.prog) (w:=w) (base:=base) D5  B
  have G_full_weight:=T41.ok_full_weight (P:=l.prog) (w:=w) (base:=base) D6 D5 G_weight_of B
  have G_greatest_weight:=T41.ok_greatest_weight (P:=l.prog) (w:=w) (base:=base) D7  B
  have G_is_number:=T41.ok_is_number (P:=l.prog) (w:=w) (base:=base) D8  B
  have G_is_tuple_of:=T41.ok_is_tuple_of (P:=l.prog) (w:=w) (base:=base) D9  B
  have G_look_at_shape:=T41.ok_look_at_shape (P:=l.prog) (w:=w) (base:=base) D10 D8 G_is_number D9 G_is_tuple_of D6 G_full_weight B
  have G_by_dues:=T41.ok_by_dues (P:=l.prog) (w:=w) (base:=base) D11  LC_by_dues B
  have G_no_more:=T41.ok_no_more (P:=l.prog) (w:=w) (base:=base) D12  B
  have G_put_behind:=T41.ok_put_behind (P:=l.prog) (w:=w) (base:=base) D13  B
  have G_look_at_row:=T41.ok_look_at_row (P:=l.prog) (w:=w) (base:=base) D14 D12 G_no_more D13 G_put_behind B
  have G_look_at_places:=T41.ok_look_at_places (P:=l.prog) (w:=w) (base:=base) D15 D4 G_late_coming D11 G_by_dues D12 G_no_more D14 G_look_at_row B
  have G_lets_table:=T41.ok_lets_table (P:=l.prog) (w:=w) (base:=base) D16 D4 G_late_coming D6 G_full_weight D7 G_greatest_weight D10 G_look_at_shape D15 G_look_at_places B
  have G_next_row:=T41.ok_next_row (P:=l.prog) (w:=w) (base:=base) D17 D12 G_no_more D13 G_put_behind B
  have G_table_of:=T41.ok_table_of (P:=l.prog) (w:=w) (base:=base) D18 D4 G_late_coming D11 G_by_dues D6 G_full_weight D17 G_next_row B
  have G_length_of:=T41.ok_length_of (P:=l.prog) (w:=w) (base:=base) D19  B
  have G_one_weight:=T41.ok_one_weight (P:=l.prog) (w:=w) (base:=base) D20 D5 G_weight_of B
  have G_put_out:=T41.ok_put_out (P:=l.prog) (w:=w) (base:=base) D21 D19 G_length_of D20 G_one_weight D4 G_late_coming D11 G_by_dues LC_put_out B
  have G_source:=T41.ok_source (P:=l.prog) (w:=w) (base:=base) D22  B
  have G_pick:=T41.ok_pick (P:=l.prog) (w:=w) (base:=base) D23  B
  have G_late_works:=T41.ok_late_works (P:=l.prog) (w:=w) (base:=base) D24 D23 G_pick B
  have G_far:=T41.ok_far (P:=l.prog) (w:=w) (base:=base) D25 D23 G_pick B
  have G_lby_dues:=T41.ok_lby_dues (P:=l.prog) (w:=w) (base:=base) D26  B
  have G_sets:=T41.ok_sets (P:=l.prog) (w:=w) (base:=base) D27 D26 G_lby_dues B
  have G_is_set:=T41.ok_is_set (P:=l.prog) (w:=w) (base:=base) D28  B
  have G_end_in_time:=T41.ok_end_in_time (P:=l.prog) (w:=w) (base:=base) D29 D26 G_lby_dues B
  have G_weighted:=T41.ok_weighted (P:=l.prog) (w:=w) (base:=base) D30  B
  have G_law:=T41.ok_law (P:=l.prog) (w:=w) (base:=base) D0 D16 G_lets_table D18 G_table_of D21 G_put_out D22 G_source D23 G_pick D24 G_late_works D25 G_far D27 G_sets D28 G_is_set D29 G_end_in_time D30 G_weighted B
  exact G_law
end T41
open PySem PySem.W PyProof.Rows
set_option maxRecDepth 100000 in
set_option maxHeartbeats 0 in
theorem PySem.W.Fast.te12577323485105431791:True:=trivial
set_option maxHeartbeats 4000000 in
theorem PySem.Challenge.cw_benchdays_k41_whole_put_out_is_fewest_holds : PySem.Challenge.rw_benchdays_k41_whole_put_out_is_fewest.Holds := by
  w_on;o_law;k_head;(case hw=>w_witness2)
  k_fill
  refine L2.walkL T41.xS (l:=PySem.Challenge.rw_benchdays_k41_whole_put_out_is_fewest) (n:=63) (k:=7) (F:=T41.F_law) rfl (by decide) rfl ⟨rfl,by decide,by decide,rfl⟩ (by intro x hx;simp only[T41.xS,List.mem_cons,List.not_mem_nil,or_false]at hx;rcases hx with rfl|rfl <;> exact⟨_,rfl⟩) T41.law_eq (λ w h Y=>PySem.W.km_in_of Y) ?F
  case F=>
    intro w mg fa h c P KX G hmg hx
    refine' T41.all_mk KX G hmg hx ?a0 ?l0 ?c0 ?k0 ?a1 ?l1 ?c1 ?k1 ?a2 ?l2 ?c2 ?k2 ?a3 ?l3 ?c3 ?k3 ?a4 ?l4 ?c4 ?k4 ?a5 ?l5 ?c5 ?k5 ?a6 ?l6 ?c6 ?k6 ?a7 ?l7 ?c7 ?k7 ?a8 ?l8 ?c8 ?k8 ?a9 ?l9 ?c9 ?k9 ?a10 ?l10 ?c10 ?k10 ?a11 ?l11 ?c11 ?k11 ?a12 ?l12 ?c12 ?k12 ?a13 ?l13 ?c13 ?k13 ?a14 ?l14 ?c14 ?k14 ?a15 ?l15 ?c15 ?k15 ?a16 ?l16 ?c16 ?k16 ?a17 ?l17 ?c17 ?k17 ?a18 ?l18 ?c18 ?k18 ?a19 ?l19 ?c19 ?k19 ?a20 ?l20 ?c20 ?k20 ?a21 ?l21 ?c21 ?k21 ?a22 ?l22 ?c22 ?k22 ?a23 ?l23 ?c23 ?k23 ?a24 ?l24 ?c24 ?k24 ?a25 ?l25 ?c25 ?k25 ?a26 ?l26 ?c26 ?k26 ?a27 ?l27 ?c27 ?k27 ?a28 ?l28 ?c28 ?k28 ?a29 ?l29 ?c29 ?k29 ?a30 ?l30 ?c30 ?k30 ?z_list ?z_tuple ?z_len ?z_range ?z_repr ?z_sum ?z_min ?z_max ?z_abs ?z_all ?z_any ?z_sorted ?z_zip ?z_isinstance ?z_int ?z_bool ?z_str ?z_set ?z_enumerate ?z_reversed ?z_dict ?u11 ?t11 ?v11 ?u21 ?t21 ?v21 ?tn
    (case a0=>k_is)
    (case l0=>k_is)
    (case c0=>k_is)
    (case k0=>k_is)
    (case a1=>k_is)
    (case l1=>k_is)
    (case c1=>k_is)
    (case k1=>k_is)
    (case a2=>k_is)
    (case l2=>k_is)
    (case c2=>k_is)
    (case k2=>k_is)
    (case a3=>k_is)
    (case l3=>k_is)
    (case c3=>k_is)
    (case k3=>k_is)
    (case a4=>k_is)
    (case l4=>k_is)
    (case c4=>k_is)
    (case k4=>k_is)
    (case a5=>k_is)
    (case l5=>k_is)
    (case c5=>k_is)
    (case k5=>k_is)
    (case a6=>k_is)
    (case l6=>k_is)
    (case c6=>k_is)
    (case k6=>k_is)
    (case a7=>k_is)
    (case l7=>k_is)
    (case c7=>k_is)
    (case k7=>k_is)
    (case a8=>k_is)
    (case l8=>k_is)
    (case c8=>k_is)
    (case k8=>k_is)
    (case a9=>k_is)
    (case l9=>k_is)
    (case c9=>k_is)
    (case k9=>k_is)
    (case a10=>k_is)
    (case l10=>k_is)
    (case c10=>k_is)
    (case k10=>k_is)
    (case a11=>k_is)
    (case l11=>k_is)
    (case c11=>k_is)
    (case k11=>k_is)
    (case a12=>k_is)
    (case l12=>k_is)
    (case c12=>k_is)
    (case k12=>k_is)
    (case a13=>k_is)
    (case l13=>k_is)
    (case c13=>k_is)
    (case k13=>k_is)
    (case a14=>k_is)
    (case l14=>k_is)
    (case c14=>k_is)
    (case k14=>k_is)
    (case a15=>k_is)
    (case l15=>k_is)
    (case c15=>k_is)
    (case k15=>k_is)
    (case a16=>k_is)
    (case l16=>k_is)
    (case c16=>k_is)
    (case k16=>k_is)
    (case a17=>k_is)
    (case l17=>k_is)
    (case c17=>k_is)
    (case k17=>k_is)
    (case a18=>k_is)
    (case l18=>k_is)
    (case c18=>k_is)
    (case k18=>k_is)
    (case a19=>k_is)
    (case l19=>k_is)
    (case c19=>k_is)
    (case k19=>k_is)
    (case a20=>k_is)
    (case l20=>k_is)
    (case c20=>k_is)
    (case k20=>k_is)
    (case a21=>k_is)
    (case l21=>k_is)
    (case c21=>k_is)
    (case k21=>k_is)
    (case a22=>k_is)
    (case l22=>k_is)
    (case c22=>k_is)
    (case k22=>k_is)
    (case a23=>k_is)
    (case l23=>k_is)
    (case c23=>k_is)
    (case k23=>k_is)
    (case a24=>k_is)
    (case l24=>k_is)
    (case c24=>k_is)
    (case k24=>k_is)
    (case a25=>k_is)
    (case l25=>k_is)
    (case c25=>k_is)
    (case k25=>k_is)
    (case a26=>k_is)
    (case l26=>k_is)
    (case c26=>k_is)
    (case k26=>k_is)
    (case a27=>k_is)
    (case l27=>k_is)
    (case c27=>k_is)
    (case k27=>k_is)
    (case a28=>k_is)
    (case l28=>k_is)
    (case c28=>k_is)
    (case k28=>k_is)
    (case a29=>k_is)
    (case l29=>k_is)
    (case c29=>k_is)
    (case k29=>k_is)
    (case a30=>k_is)
    (case l30=>k_is)
    (case c30=>k_is)
    (case k30=>k_is)
    (case z_list=>k_is)
    (case z_tuple=>k_is)
    (case z_len=>k_is)
    (case z_range=>k_is)
    (case z_repr=>k_is)
    (case z_sum=>k_is)
    (case z_min=>k_is)
    (case z_max=>k_is)
    (case z_abs=>k_is)
    (case z_all=>k_is)
    (case z_any=>k_is)
    (case z_sorted=>k_is)
    (case z_zip=>k_is)
    (case z_isinstance=>k_is)
    (case z_int=>k_is)
    (case z_bool=>k_is)
    (case z_str=>k_is)
    (case z_set=>k_is)
    (case z_enumerate=>k_is)
    (case z_reversed=>k_is)
    (case z_dict=>k_is)
    (case u11=>rfl)
    (case t11=>k_is)
    (case v11=>rfl)
    (case u21=>rfl)
    (case t21=>k_is)
    (case v21=>rfl)
    (case tn=>decide)
